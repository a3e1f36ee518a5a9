import PyProof.Rows.All
import Wide.All
import OpenK.AllK
import Wide.FinOn
import Lean
import PyProof.EqAt
import PyProof.EqKinds
import PyProof.TupleCall
import KE.KNestM
import PyProof.IsiH_list
import PyProof.RaisesAny
import KE.KDictOf
import PyProof.CollectWalk
import PyProof.CompFree
import KE.KDictList
import PyProof.NeKinds
import PyProof.ConsumeWalk
import PyProof.StrBlockI
import PyProof.EnumFor
import PyProof.TupleIter
import PyProof.EnumMake
import KE.KLam
import PyProof.DictUpdate
import PyProof.SeqI3
import PyProof.DictWalks
import PyProof.ConsumeS
import PyProof.Rows.CallKwBuiltin
import KE.KDictLaws
import PyProof.AutoListH
import PyProof.ZipIter
import PyProof.ListNew
import KE.KRevSl
import PyProof.StrOps
import PyProof.StrOps2
import KE.KSortKey
import PySem.Challenge.RW_wright_k69_whole_deeds_and_trees
set_option Elab.async false
set_option linter.all false
set_option maxRecDepth 100000
local macro_rules | `(tactic| omega) => `(tactic| first | lia | omega (config := {}))
local macro_rules | `(∅) => `(by omega)
local macro_rules | `(nofun) => `(by first | decide +kernel | kernel_rfl)
def bx:=@Or.inl
abbrev a9:=PySem.W.Frag
def o7:0<=PySem.sizeLine:=by decide
def vk:1<=PySem.sizeLine:=by decide
def kc:2<=PySem.sizeLine:=by decide
def JG:3<=PySem.sizeLine:=by decide
def zl4:4<=PySem.sizeLine:=by decide
def au.{u,v}:=@List.length_map.{u,v}
def bq.{u}:=@List.getElem?_eq_some_iff.{u}
def ar:=@PySem.wpAny_bind
def bJ:=@PySem.Heap.get?_push_of_some
def bh.{u,v}:=@List.getElem?_map.{u,v}
def bM.{u}:=@List.length_append.{u}
def cq.{u,v}:=@Option.map_eq_some_iff.{u,v}
def cg.{u}:=@List.mem_of_getElem?.{u}
def bG.{u,v}:=@List.map_append.{u,v}
def aR:=@PySem.wpAny_pure
def cf.{u}:=@List.getElem?_eq_getElem.{u}
def aH:=@Nat.le_refl
def aY:=@PySem.Paired.length
def bV.{u}:=@List.mem_singleton.{u}
def bR.{u}:=@List.size_toArray.{u}
def ba:=@PySem.Heap.lt_size
def du.{u}:=@List.mem_cons_of_mem.{u}
def b0:=@PySem.PassesOwn.never
def cW:=@PySem.Heap.get?_push_size
def bW:=@decide_eq_true
def eG:=@PySem.F.plainAttrs_list
def cV.{u}:=@List.mem_cons_self.{u}
def cS.{u}:=@List.take_add_one.{u}
def bN:=@Nat.ne_of_lt
def cC.{u}:=@List.mem_append.{u}
def cR.{u}:=@List.take_length.{u}
def dr:=@of_decide_eq_true
def f_:=@PySem.F.type_list_append
def fZ:=@PySem.F.slot_list_append
def ax.{u}:=@if_pos.{u}
def az.{u}:=@if_neg.{u}
def dP:=@Bool.false_ne_true
def cu.{u,v}:=@List.map_cons.{u,v}
def cA.{u}:=@List.mem_cons.{u}
def fQ.{u}:=@List.length_singleton.{u}
def dq:=@decide_eq_false
def cU:=@PySem.boot_len
def eV:=@Nat.lt_of_lt_of_le
def fY.{u}:=@List.mem_append_right.{u}
def dO.{u}:=@List.length_take.{u}
def dN.{u}:=@List.length_cons.{u}
def cQ.{u,v}:=@List.mem_map.{u,v}
def jn:=@PyProof.Rows.boot_isinstance
def h_:=@Bool.and_eq_true_iff
def iw.{u}:=@List.getElem?_of_mem.{u}
def hX:=@PySem.W.mg_none_of
def gC.{u}:=@List.all_eq_true.{u}
def mZ:=@PyProof.Rows.slot_tuple_getitem
def ff:=@Nat.ne_of_gt
def lR.{u}:=@List.getElem?_append_right.{u}
def gS.{u}:=@Option.some.inj.{u}
def jm.{u}:=@List.mem_append_left.{u}
def dH:=@PySem.wpAny_mono
def eF:=@PySem.wpAny_field
def qa.{u}:=@List.take_append_of_le_length.{u}
def fX:=@Nat.le_trans
def iu.{u}:=@List.append_nil.{u}
def iW:=@PySem.wpAny_newObj_type
def j4.{u}:=@beq_eq_false_iff_ne.{u}
def jZ.{u,v}:=@List.mem_map_of_mem.{u,v}
def mY.{u}:=@List.getElem?_append_left.{u}
def jY.{u,v}:=@List.flatMap_append.{u,v}
def mX.{u}:=@Option.isSome_iff_exists.{u}
def jX:=@PySem.wpAny_setField_rec
def iV.{u}:=@List.length_nil.{u}
def mW:=@PySem.wpAny_callSpecial?_slot
def mV.{u}:=@List.take_of_length_le.{u}
def gB:=@Nat.zero_le
def cP.{u}:=@Ne.symm.{u}
def ky:=@Nat.lt_succ_of_lt
def kx.{u}:=@List.nodup_append.{u}
def ku.{u}:=@List.append_assoc.{u}
def kr:=@Int.toNat_natCast
def kn:=@PySem.wpAny_truthy_bool
def iH:=@PySem.wpAny_holding
def gR:=@PySem.Paired.snoc
def jl:=@PySem.wpAny_seqItems
def iG.{u,v,w}:=@List.map_map.{u,v,w}
def jk:=@PySem.Heap.size_push
def ub:=@PyProof.Rows.callWith_type1
def qS:=@PyProof.Rows.boot_tuple
def p_.{u}:=@List.mem_of_mem_take.{u}
def mU:=@PySem.wpAny_Call_Name_kw
def pZ.{u}:=@List.length_reverse.{u}
def lQ:=@PySem.wpAny_call_entry
def jW.{u}:=@List.sum_cons.{u}
def lP.{u}:=@List.mem_filter.{u}
def pY:=@Nat.lt_of_le_of_lt
def mT:=@Nat.lt_succ_self
def qR.{u}:=@List.mem_iff_getElem.{u}
def lL.{u}:=@List.nodup_nil.{u}
def mS.{u}:=@List.nodup_cons.{u}
def mR.{u}:=@List.nil_append.{u}
def mQ.{u,v,w}:=@List.forIn_cons.{u,v,w}
def mP:=@Bool.eq_iff_iff
def qQ:=@PySem.Around.under_plainId
def jV:=@PySem.wpAny_typeOf
def wQ.{u}:=@List.getD_eq_getElem?_getD.{u}
def pX.{u}:=@List.length_drop.{u}
def pW:=@Bool.and_eq_true
def jc:=@Bool.true_and
def o6:=@PySem.Heap.get?_update_other
def mj.{u}:=@List.reverse_cons.{u}
def rB.{u}:=@List.getElem?_take_of_lt.{u}
def o5:=@PySem.Heap.get?_update_self
def mi:=@PySem.Calls.spliced_cons
def jb:=@Int.zero_add
def kK:=@List.mem_range
def oZ.{u,v}:=@List.map_singleton.{u,v}
def oY.{u}:=@List.filter_append.{u}
def jH:=@Nat.le_of_lt
def rA.{u}:=@List.take_append_drop.{u}
def jG.{u,v}:=@List.map_nil.{u,v}
def rq.{u}:=@List.length_filter_le.{u}
def oX.{u,v}:=@Option.isSome_map.{u,v}
def kJ:=@Nat.lt_irrefl
def rp:=@PySem.Calls.callWith_builtin
def oW:=@PySem.wpAny_pyIter_tuple
def oV:=@PySem.tupleKind_room_in1
def mh:=@PySem.wpAny_passesOwn
def mf:=@PySem.codeAny_builtin
def vj.{u,v}:=@List.getElem?_zip_eq_some.{u,v}
def oU.{u}:=@beq_self_eq_true.{u}
def oT.{u}:=@List.getElem_mem.{u}
def oS.{u,v}:=@List.getElem_map.{u,v}
def oR:=@PySem.wpAny_pyIter_list
def kI:=@PySem.plainId_quiet
def ro:=@PySem.mem_of_lookup
def rm:=@Nat.add_le_add_left
def rj.{u,v}:=@List.filterMap_cons.{u,v}
def rh.{u}:=@Array.length_toList.{u}
def kC:=@Nat.sub_zero
def vi:=@PySem.F.slot_tuple_iterator_next
def rg.{u}:=@List.getElem?_drop.{u}
def oQ.{u}:=@List.find?_cons.{u}
def oP:=@PySem.Around.in1_units
def ja:=@PySem.wpAny_rule
def vh:=@PySem.F.slot_list_getattribute
def rf.{u,v}:=@List.flatMap_cons.{u,v}
def q_:=@Bool.eq_false_iff
def oO.{u}:=@List.take_zero.{u}
def oN.{u}:=@List.drop_zero.{u}
def vf:=@PySem.wpAny_loadPart'
def me:=@Nat.lt_trans
def ve.{u}:=@List.getElem?_reverse.{u}
def vc.{u}:=@List.getElem?_eq_none.{u}
def q9:=@Nat.lt_add_right
def q8.{u,v}:=@List.mem_flatMap.{u,v}
def vb.{u}:=@List.reverse_reverse.{u}
def oM:=@PySem.W.mg_of
def oK.{u,v}:=@List.map_take.{u,v}
def qZ:=@PySem.Calls.spliced_nil
def u_:=@PySem.wpAny_pyNext_list_end
def md.{u,v}:=@Sum.inr.inj.{u,v}
def qY.{u,v}:=@Option.map_some.{u,v}
def u9:=@PySem.F.slot_enumerate_next
def u7.{u}:=@Array.toList_append.{u}
def u6:=@PySem.wpAny_loadName_local
def oJ:=@Nat.zero_add
def oI:=@Nat.sub_self
def u5:=@PySem.Calls.evalArgs_plain
def oH:=@PySem.wpAny_attempt
def qX:=@Bool.false_and
def qW:=@PySem.wpAny_updateSeq
def yN:=@PySem.F.slot_dict_update
def yM:=@PySem.F.args_tuple_add_2
def u4:=@Nat.lt_of_succ_lt
def u3:=@List.length_range
def uZ:=@PySem.F.plain_extend_loop
def yL:=@PySem.F.plainAttrs_dict
def yK:=@PySem.F.entry_tuple_add
def qV.{u,v}:=@Prod.mk.injEq.{u,v}
def oG:=@Nat.le_succ
def qU.{u}:=@List.any_cons.{u}
def oF:=@Int.le_refl
def oE:=@PySem.codeAny_mono
def uY.{u}:=@List.getElem_inj.{u}
def uX.{u}:=@List.filter_cons.{u}
def qT:=@PySem.wpAny_newTuple
def yJ:=@PySem.F.slot_tuple_add
def yI.{u}:=@Array.getElem?_eq_none.{u}
namespace L2
open PySem PySem.Spec PyProof.Rows
abbrev aS:=Sum Int Str
def si:aS->Value->Bool
 | .inl k,v=>Value.isInt k v
 | .inr x,v=>Value.isStrOf x v
def UQ (w:World):aS->Int
 | .inl k=>hashInt k
 | .inr x=>hashStr w x
def dA:∀{k:aS}{v:Value},si k v=true->(∃i t,k=Sum.inl i/\v=Value.int i t)\/(∃x t,k=Sum.inr x/\v=Value.str x t)
 | .inl i,v,h=>by
  obtain⟨t,e⟩:=Value.isInt_shape (k:=i) (v:=v) h;exact .inl ⟨i,t,rfl,e⟩
 | .inr x,v,h=>by
  obtain⟨t,e⟩:=Value.isStrOf_shape (x:=x) (v:=v) h;exact .inr ⟨x,t,rfl,e⟩
def CL (i:Int)(t:Tok):si (.inl i) (.int i t)=true:=by simp [si,Value.isInt]
def CK (x:Str)(t:Tok):si (.inr x) (.str x t)=true:=by simp [si,Value.isStrOf]
def Mm (a b:Int):decide ((Sum.inl a:aS)=Sum.inl b)=(a == b):=by
 by_cases e:a=b
 .subst e;simp
 have h:¬(Sum.inl a:aS)=Sum.inl b:=λq=>e (Sum.inl.inj q);rw [dq h];exact(j4.mpr e).symm
def Mi (a b:Str):decide ((Sum.inr a:aS)=Sum.inr b)=decide (a=b):=by
 by_cases e:a=b
 .subst e;simp
 have h:¬(Sum.inr a:aS)=Sum.inr b:=λq=>e (md q);rw [dq h,dq e]
def Ml (a:Int)(b:Str):decide ((Sum.inl a:aS)=Sum.inr b)=false:=dq (λq=>nomatch q)
def Mj (a:Str) (b:Int):decide ((Sum.inr a:aS)=Sum.inl b)=false:=dq (λq=>nomatch q)
def bj (prog:Program)(w:World):PySem.KeyKind prog w aS where
 is:=si
 hash:=UQ w
 inj:=λv a b ha hb=>by
  rcases dA ha with ⟨i,t,rfl,rfl⟩ | ⟨x,t,rfl,rfl⟩
  .rcases dA hb with ⟨j,u,rfl,e⟩ | ⟨y,u,rfl,e⟩
   .injection e with e1 _;rw [e1]
   exact nomatch e
  rcases dA hb with ⟨j,u,rfl,e⟩ | ⟨y,u,rfl,e⟩
  .exact nomatch e
  injection e with e1 _;rw [e1]
 byValue:=λk v h=>by
  rcases dA h with ⟨i,t,rfl,rfl⟩ | ⟨x,t,rfl,rfl⟩ <;> rfl
 pyHash:=λhv h=>by
  rcases dA hv with ⟨i,t,rfl,rfl⟩ | ⟨x,t,rfl,rfl⟩
  .exact wpAny_pyHash_int h
  exact wpAny_pyHash_str h
 eqBool:=λhu hv h=>by
  rcases dA hu with ⟨i,t,rfl,rfl⟩ | ⟨x,t,rfl,rfl⟩
  .rcases dA hv with ⟨j,u,rfl,rfl⟩ | ⟨y,u,rfl,rfl⟩
   .rw [Mm] at h;exact wpAny_eqBool_int h
   rw [Ml] at h;exact SeqAt.EqAt.int_str i t y u _ _ _ _ h
  rcases dA hv with ⟨j,u,rfl,rfl⟩ | ⟨y,u,rfl,rfl⟩
  .rw [Mj] at h;exact SeqAt.EqAt.str_int x t j u _ _ _ _ h
  rw [Mi] at h;exact wpAny_eqBool_str h
 «strs»:=λk x t v h=>by
  rcases dA h with ⟨i,u,rfl,e⟩ | ⟨y,u,rfl,e⟩
  .exact nomatch e
  injection e with e1 _;subst e1;cases v <;> rfl
def xI (prog:Program)(w:World) (i:Int)(t:Tok):(bj prog w).is (.inl i) (.int i t)=true:=CL i t
def xH (prog:Program)(w:World)(x:Str)(t:Tok):(bj prog w).is (.inr x) (.str x t)=true:=CK x t
inductive V where
 | d7 | bl (b:Bool) | int (i:Int) | str (x:Str) | AF (b:Array UInt8) | MX (b:UInt64) | ref (a:Addr) | ty (n:String)
 deriving DecidableEq
def RelV:V->Value->Prop
 | .d7,u=>u=Value.none
 | .bl b,u=>u=Value.bool b
 | .int i,u=>∃t,u=Value.int i t
 | .str x,u=>∃t,u=Value.str x t
 | .AF b,u=>∃t,u=Value.bytes b t
 | .MX b,u=>∃t,u=Value.float b t
 | .ref a,u=>u=Value.ref a
 | .ty n,u=>u=Value.type n
abbrev a_:List V->List Value->Prop:=Paired RelV
theorem a_.length {xs:List V}{us:List Value}(r:a_ xs us):xs.length=us.length:=aY r
theorem a_.get:∀{xs:List V}{us:List Value}{i:Nat}{x:V},a_ xs us->xs[i]?=some x->∃u,us[i]?=some u/\RelV x u
 | _,_,_,_,.nil,e=>by simp at e
 | _,_,0,_,.cons r _,e=>by simp at e;subst e;exact⟨_,rfl,r⟩
 | _,_,i+1,x,.cons _ t,e=>by
  obtain⟨u,h1,h2⟩:=a_.get (i:=i) (x:=x) t (by simpa using e);exact⟨u,by simpa using h1,h2⟩
theorem a_.set {x:V}{u:Value}(r:RelV x u):∀{xs:List V}{us:List Value}(i:Nat),a_ xs us->a_ (xs.set i x) (us.set i u)
 | _,_,_,.nil=>.nil
 | _,_,0,.cons _ t=>.cons r t
 | _,_,i+1,.cons q t=>.cons q (a_.set r i t)
theorem a_.append:∀{xs ys:List V}{us ws:List Value},a_ xs us->a_ ys ws->a_ (xs++ys) (us++ws)
 | _,_,_,_,.nil,s=>s
 | _,_,_,_,.cons r t,s=>.cons r (a_.append t s)
theorem a_.take:∀{xs:List V}{us:List Value}(n:Nat),a_ xs us->a_ (xs.take n) (us.take n)
 | _,_,0,_=>.nil
 | _,_,_+1,.nil=>.nil
 | _,_,n+1,.cons r t=>.cons r (a_.take n t)
theorem a_.drop:∀{xs:List V}{us:List Value}(n:Nat),a_ xs us->a_ (xs.drop n) (us.drop n)
 | _,_,0,r=>r
 | _,_,_+1,.nil=>.nil
 | _,_,n+1,.cons _ t=>a_.drop n t
def a_.none_of:∀{xs:List V}{us:List Value}{i:Nat},a_ xs us->xs[i]?=none->us[i]?=none:=λ{xs us i} r e=>by
 have h1:=r.length;have h2:xs.length<=i:=List.getElem?_eq_none_iff.mp e;exact List.getElem?_eq_none_iff.mpr ∅
def jS:Option V->Option Value->Prop
 | some v,some u=>RelV v u
 | none,none=>True
 | _,_=>False
def KV {κ:Type}:List (κ×V)->List (κ×Value)->Prop:=Paired λ(p:κ×V)(q:κ×Value)=>p.1=q.1/\RelV p.2 q.2
def kV:aS->V
 | .inl i=>.int i
 | .inr x=>.str x
inductive HO where
 | lst (xs:List V)
 | tup (xs:List V)
 | dK (kvs:List (aS×V)) | dT (kvs:List (List aS×V))
 | set (S:Int->Bool) (n:Nat)
 | ins (C dx:Addr)(fs:List (Str×V))
 | own (x:Addr)
 | xd (fs:List (Str×V))
 | met (f x:Addr)
 | DJ (lo hi:Int)
 | kj (o:Obj)(u:HO)
 | tM (ps:Array Value)
 | ext (φ:Heap->Prop)
abbrev Hp:=Addr->Option HO
def upd (H:Hp)(a:Addr)(o:HO):Hp:=λb=>if b=a then some o else H b
def ae {H:Hp}{a:Addr}{o:HO}:upd H a o a=some o:=by unfold upd;rw [ax rfl]
def aj {H:Hp}{a b:Addr}{o:HO}(h:b≠a):upd H a o b=H b:=by unfold upd;rw [az h]
def ng {H:Hp}{a:Addr}{o u:HO}:upd (upd H a o) a u=upd H a u:=by
 funext b;unfold upd;split <;> rfl
def Pp {H:Hp}{a b:Addr}{o u:HO}(h:H a=some o)(h':H b=some u)(d:o≠u):a≠b:=by
 intro e;subst e;rw [h] at h';exact d (gS h')
def ay {H:Hp}{a b:Addr}{o:HO}(h:H a=some o)(h':H b=none):a≠b:=by
 intro e;subst e;rw [h] at h';cases h'
section
variable (P:Program)(w:World)
def cH (H:Hp)(h:Heap)(a:Addr):HO->Prop
 | .lst xs=>xs.length<=sizeLine/\∃(aU:List Value) (n:Nat),a_ xs aU/\h.get? a=some { cls:=.type "list",data:=.seq aU.toArray n }
 | .tup xs=>xs.length<=sizeLine/\∃aU:List Value,a_ xs aU/\IsTup h a aU.toArray
 | .dK kvs=>kvs.length<=sizeLine/\(a == sysModules)=false/\∃vs,KV kvs vs/\h.DictOf (bj P w) a vs
 | .dT kvs=>kvs.length<=sizeLine/\(a == sysModules)=false/\∃xs:List (List aS×Addr×Value),
   Paired (λ(p:List aS×V)(q:List aS×Addr×Value)=>p.1=q.1/\H q.2.1=some (.tup (p.1.map kV))/\RelV p.2 q.2.2) kvs xs /\
   ∃o es ep,h.get? a=some o/\o.ExactDict/\o.data=.dict es ep/\es.toList=xs.map (entryOfKey (tupleKind (bj P w)))/\(xs.map (·.1)).Nodup
 | .set S n=>h.SetOf (intKind P w) a S n
 | .ins C dx fs=>H dx=some (.own a)/\fs.length<=1000/\dx≠a/\h.get? a=some (PySem.W.instObj C dx) /\
   ∃mA,h.Ns1 dx mA/\(∀f,jS (fs.lookup f) (mA f))/\PySem.Within mA (fs.map (·.1))
 | .own _=>∃o,h.get? a=some o
 | .xd fs=>∃mA,h.Ns1 a mA/\∀f,jS (fs.lookup f) (mA f)
 | .DJ lo hi=>∃t u v,h.get? a=some { cls:=.type "range",data:=.fields #[.int lo t,.int hi u,.int 1 v] }
 | .kj o u=>h.get? a=some o/\cH H h a u
 | .tM ps=>h.get? a=some { cls:=.none,data:=.fields ps }
 | .met f x=>h.get? a=some (PySem.W.methodObj (.ref f) (.ref x))
 | .ext φ=>φ h/\(∃o,h.get? a=some o)/\∀h1 h2:Heap,φ h1->(∀o,h1.get? a=some o->h2.get? a=some o)->φ h2
def l8 (H:Hp)(h:Heap):Prop:=∀a o,H a=some o->cH P w H h a o
end
section
variable {P:Program}{w:World}{H H':Hp}{h h':Heap}{a:Addr}{o:HO}
theorem cH.lt (x:cH P w H h a o):a < h.objs.size:=by
 cases o with
 | lst xs=>obtain⟨_,_,_,_,e⟩:=x;exact ba e
 | tup xs=>obtain⟨_,_,_,p⟩:=x;exact p.lt
 | dK kvs=>obtain⟨_,_,_,_,o,_,_,e,_⟩:=x;exact ba e
 | dT kvs=>obtain⟨_,_,_,_,o,_,_,e,_⟩:=x;exact ba e
 | set S n=>obtain⟨o,_,_,_,e,_⟩:=x;exact ba e
 | ins C dx fs=>obtain⟨_,_,_,e,_⟩:=x;exact ba e
 | own y=>obtain⟨_,e⟩:=x;exact ba e
 | xd fs=>obtain⟨_,⟨_,_,_,e,_⟩,_⟩:=x;exact ba e
 | DJ lo hi=>obtain⟨_,_,_,e⟩:=x;exact ba e
 | kj ob u=>obtain⟨e,_⟩:=x;exact ba e
 | tM ps=>exact ba (show h.get? a=some _ from x)
 | met f y=>exact ba (show h.get? a=some _ from x)
 | ext φ=>obtain⟨_,⟨_,e⟩,_⟩:=x;exact ba e
theorem Paired.dJ {α β:Type}{F G:α->β->Prop}:∀{l₁:List α}{l₂:List β},Paired F l₁ l₂->(∀a b,F a b->G a b)->Paired G l₁ l₂
 | _,_,.nil,_=>.nil
 | _,_,.cons r t,f=>.cons (f _ _ r) (Paired.dJ t f)
def cH.ka (x:cH P w H h a o)(k:∀b u,(b=a\/H b=some (.own a))->h.get? b=some u->h'.get? b=some u)
  (ho:∀b,H b=some (.own a)->H' b=some (.own a))(ht:∀b xs,H b=some (.tup xs)->H' b=some (.tup xs)):cH P w H' h' a o:=by
 induction o with
 | lst xs=>obtain⟨z,aU,n,r,e⟩:=x;exact⟨z,aU,n,r,k _ _ (.inl rfl) e⟩
 | tup xs=>obtain⟨z,aU,r,ob,e,c⟩:=x;exact⟨z,aU,r,ob,k _ _ (.inl rfl) e,c⟩
 | dK kvs=>obtain⟨z,y,vs,r,ob,es,ep,e,c⟩:=x;exact⟨z,y,vs,r,ob,es,ep,k _ _ (.inl rfl) e,c⟩
 | dT kvs =>
  obtain⟨z,y,xs,r,ob,es,ep,e,c⟩:=x;exact⟨z,y,xs,Paired.dJ r λp q z=>⟨z.1,ht _ _ z.2.1,z.2.2⟩,ob,es,ep,k _ _ (.inl rfl) e,c⟩
 | set S n=>obtain⟨ob,es,ep,t,e,c⟩:=x;exact⟨ob,es,ep,t,k _ _ (.inl rfl) e,c⟩
 | ins C dx fs =>
  obtain⟨d,z,ne,e,mA,⟨od,es,ep,e2,c⟩,r⟩:=x;exact⟨ho _ d,z,ne,k _ _ (.inl rfl) e,mA,⟨od,es,ep,k _ _ (.inr d) e2,c⟩,r⟩
 | own y=>obtain⟨ob,e⟩:=x;exact⟨ob,k _ _ (.inl rfl) e⟩
 | xd fs=>obtain⟨mA,⟨od,es,ep,e,c⟩,r⟩:=x;exact⟨mA,⟨od,es,ep,k _ _ (.inl rfl) e,c⟩,r⟩
 | DJ lo hi=>obtain⟨t,u,v,e⟩:=x;exact⟨t,u,v,k _ _ (.inl rfl) e⟩
 | kj ob u ih=>obtain⟨e,q⟩:=x;exact⟨k _ _ (.inl rfl) e,ih q⟩
 | tM ps =>
  have e:h.get? a=some { cls:=.none,data:=.fields ps }:=x;show h'.get? a=some { cls:=.none,data:=.fields ps };exact k a _ (.inl rfl) e
 | met f y =>
  have e:h.get? a=some (PySem.W.methodObj (.ref f) (.ref y)):=x;show h'.get? a=some (PySem.W.methodObj (.ref f) (.ref y));exact k a _ (.inl rfl) e
 | ext φ=>obtain⟨p,⟨o,e⟩,st⟩:=x;exact⟨st _ _ p λo q=>k _ _ (.inl rfl) q,⟨o,k _ _ (.inl rfl) e⟩,st⟩
theorem l8.lt (x:l8 P w H h)(e:H a=some o):a < h.objs.size:=(x a o e).lt
def l8.fresh (x:l8 P w H h)(e:h.objs.size<=a):H a=none:=by
 cases q:H a with
 | none=>rfl
 | some u=>exact absurd (eV (x.lt q) e) (kJ _)
def l8.kept (x:l8 P w H h)(k:∀b u,h.get? b=some u->h'.get? b=some u):l8 P w H h':=λa o e =>
 (x a o e).ka (λb u _ q=>k b u q) (λ_ q=>q) λ_ _ q=>q
def l8.laid (x:l8 P w H h)(k:∀b u,h.get? b=some u->h'.get? b=some u)(hp:h.objs.size<=a)(new:cH P w (upd H a o) h' a o):l8 P w (upd H a o) h':=λb u e=>by
 have hn:=x.fresh hp;by_cases hb:b=a
 .subst hb;rw [ae] at e;cases e;exact new
 rw [aj hb] at e;exact(x b u e).ka (λc v _ q=>k c v q) (λc q=>by rw [aj (ay q hn)];exact q) λc xs q=>by rw [aj (ay q hn)];exact q
end
def Rd (H:Hp)(a:Addr)(u:HO):Prop:=H a=some u\/∃o,H a=some (.kj o u)
def Rd.of {H:Hp}{a:Addr}{u:HO}(h:H a=some u):Rd H a u:=.inl h
def Rd.ok {P:Program}{w:World}{H:Hp}{h:Heap}{a:Addr}{u:HO}(r:Rd H a u)(x:l8 P w H h):cH P w H h a u:=by
 rcases r with r | ⟨o,r⟩
 .exact x a u r
 obtain⟨_,q⟩:=x a _ r;exact q
def Rj:Option HO->Prop
 | some (.lst _)=>True
 | some (.dK _)=>True
 | some (.dT _)=>True
 | some (.set _ _)=>True
 | some (.ins _ _ _)=>True
 | some (.ext _)=>True
 | _=>False
section
variable {P:Program}{w:World}{H:Hp}{h h':Heap}{x e:Addr}{o':HO}
def l8.write (ok:l8 P w H h)(mu:Rj (H x))(he:e=x\/H e=some (.own x))(k:∀b u,b≠e->h.get? b=some u->h'.get? b=some u)(NT:∃u,h'.get? e=some u)
  (new:cH P w (upd H x o') h' x o'):l8 P w (upd H x o') h':=λb u q=>by
 have Ph:∀c y,H c=some (.own y)->c≠x:=λc y r z=>by subst z;rw [r] at mu;exact mu
 have Uj:∀c xs,H c=some (.tup xs)->c≠x:=λc xs r z=>by subst z;rw [r] at mu;exact mu
 by_cases hb:b=x
 .subst hb;rw [ae] at q;cases q;exact new
 rw [aj hb] at q;by_cases MD:b=e
 .have q':H b=some (.own x):=by
   rcases he with z | z
   .exact absurd (MD.trans z) hb
   rw [MD];exact z
  rw [q] at q';cases q';obtain⟨v,hv⟩:=NT;exact⟨v,by rw [MD];exact hv⟩
 refine(ok b u q).ka (λc v hc r=>k c v ?_ r) (λc r=>by rw [aj (Ph c b r)];exact r) λc xs r=>by rw [aj (Uj c xs r)];exact r
 rcases hc with rfl | hc
 .exact MD
 rintro rfl;rcases he with z | z
 .exact Ph c b hc z
 rw [hc] at z;cases z;exact hb rfl
end
structure Un (fs ex:List Addr)(H H':Hp)(h h':Heap):Prop where
 keep:∀b o,h.get? b=some o->H b=none->b∉fs->b∉ex->h'.get? b=some o
 slot:∀b o,h.get? b=some o->H b=none->b∈fs->b∉ex->∃sl,h'.get? b=some { o with slots:=sl }
 free:∀b o,h.get? b=some o->H b=none->b∉ex->H' b=none
 there:∀b o,h.get? b=some o->b∉ex->∃o',h'.get? b=some o'
 o9:∀b xs,H b=some (.tup xs)->H' b=some (.tup xs)
 mH:∀b o u,H b=some (.kj o u)->H' b=some (.kj o u)
 nh:∀b ps,H b=some (.tM ps)->∃more,H' b=some (.tM (ps++more))
section
variable {fs HH ex MZ:List Addr}{H H1 H2:Hp}{h h1 h2 h':Heap}{a x e:Addr}{o:HO}
def Un.any (u:Un fs ex H H1 h h1){b:Addr}{ob:Obj}(q:h.get? b=some ob)(n:H b=none)(hx:b∉ex):∃sl,h1.get? b=some { ob with slots:=sl }:=by
 by_cases hb:b∈fs
 .exact u.slot b ob q n hb hx
 exact⟨ob.slots,u.keep b ob q n hb hx⟩
def Un.trans (a:Un fs ex H H1 h h1)(b:Un fs ex H1 H2 h1 h2):Un fs ex H H2 h h2 where
 keep:=λc ob q n hc hx=>b.keep c ob (a.keep c ob q n hc hx) (a.free c ob q n hx) hc hx
 slot:=λc ob q n hc hx=>by
  obtain⟨sl,e1⟩:=a.slot c ob q n hc hx;obtain⟨TC,e2⟩:=b.slot c _ e1 (a.free c ob q n hx) hc hx;exact⟨TC,e2⟩
 free:=λc ob q n hx=>by
  obtain⟨o',e1⟩:=a.there c ob q hx;exact b.free c o' e1 (a.free c ob q n hx) hx
 there:=λc ob q hx=>by
  obtain⟨o',e1⟩:=a.there c ob q hx;exact b.there c o' e1 hx
 o9:=λc xs q=>b.o9 c xs (a.o9 c xs q)
 mH:=λc ob xs q=>b.mH c ob xs (a.mH c ob xs q)
 nh:=λc ps q=>by
  obtain⟨m1,e1⟩:=a.nh c ps q;obtain⟨m2,e2⟩:=b.nh c _ e1;exact⟨m1++m2,by rw [e2,Array.append_assoc]⟩
def Un.kept (k:∀b u,h.get? b=some u->h'.get? b=some u):Un fs ex H H h h' :=
 ⟨λb ob q _ _ _=>k b ob q,λb ob q _ _ _=>⟨ob.slots,k b ob q⟩,λ_ _ _ n _=>n,λb ob q _=>⟨ob,k b ob q⟩,λ_ _ q=>q,λ_ _ _ q=>q,λ_ ps q=>⟨#[],by rw [q];simp⟩⟩
def Un.refl:Un fs ex H H h h:=Un.kept λ_ _ q=>q
def Un.laid (k:∀b u,h.get? b=some u->h'.get? b=some u)(hp:h.objs.size<=a)(hn:H a=none):Un fs ex H (upd H a o) h h' where
 keep:=λb u q _ _ _=>k b u q
 slot:=λb u q _ _ _=>⟨u.slots,k b u q⟩
 free:=λb u q n _=>by rw [aj (bN (eV (ba q) hp))];exact n
 there:=λb u q _=>⟨u,k b u q⟩
 o9:=λb xs q=>by rw [aj (ay q hn)];exact q
 mH:=λb u xs q=>by rw [aj (ay q hn)];exact q
 nh:=λb ps q=>⟨#[],by rw [aj (ay q hn),q];simp⟩
def Un.write (mu:Rj (H x))(he:e=x\/H e=some (.own x))(k:∀b u,b≠e->h.get? b=some u->h'.get? b=some u)(NT:∃u,h'.get? e=some u):Un fs ex H (upd H x o) h h':=by
 have hx:∀b,H b=none->b≠x:=λb n z=>by subst z;rw [n] at mu;exact mu
 have hb:∀b,H b=none->b≠e:=λb n z=>by
  subst z;rcases he with r | r
  .exact hx b n r
  rw [n] at r;cases r
 have hm:∀b u,H b=some u->¬Rj (some u)->b≠x:=λb u q nm z=>by subst z;rw [q] at mu;exact nm mu
 refine⟨λb u q n _ _=>k b u (hb b n) q,λb u q n _ _=>⟨u.slots,k b u (hb b n) q⟩,λb u q n _=>by rw [aj (hx b n)];exact n,λb u q _=>?_,
  λb xs q=>by rw [aj (hm b _ q λz=>z)];exact q,λb u xs q=>by rw [aj (hm b _ q λz=>z)];exact q,λb ps q=>⟨#[],by rw [aj (hm b _ q λz=>z),q];simp⟩⟩
 by_cases MD:b=e
 .subst MD;exact NT
 exact⟨u,k b u MD q⟩
def Un.mono (u:Un fs ex H H1 h h1)(hs:∀b∈fs,b∈HH)(hx:∀b∈ex,b∈MZ):Un HH MZ H H1 h h1 :=
 ⟨λb ob q n hb he=>u.keep b ob q n (λz=>hb (hs b z)) λz=>he (hx b z),λ_ _ q n _ he=>u.any q n λz=>he (hx _ z),λb ob q n he=>u.free b ob q n λz=>he (hx b z),λb ob q he=>u.there b ob q λz=>he (hx b z),u.o9,u.mH,u.nh⟩
end
def Hi (h:Heap)(H:Hp):List Addr:=(List.range h.objs.size).filter λa=>(H a).isSome
def mF (h:Heap)(H:Hp):Heap:=PySem.W.hideAll h (Hi h H)
def uB (h:Heap)(H:Hp):(mF h H).objs.size=h.objs.size:=PySem.W.hideAll_size _ _
def xO {h:Heap}{H:Hp}{b:Addr}{o:Obj}(e:h.get? b=some o)(n:H b=none):(mF h H).get? b=some o :=
 PySem.W.hideAll_get _ e λhm=>by
  have q:(H b).isSome=true:=(lP.mp hm).2;rw [n] at q;simp at q
def Bv {h:Heap}{H:Hp}{b:Addr}{o:Obj}(e:(mF h H).get? b=some o):h.get? b=some o/\H b=none:=by
 have e':h.get? b=some o:=PySem.W.of_hideAll (Hi h H) e;refine⟨e',?_⟩;cases q:H b with
 | none=>rfl
 | some x =>
  have hm:b∈Hi h H:=lP.mpr ⟨kK.mpr (ba e'),by simp [q]⟩;have z:(mF h H).get? b=none:=PySem.W.hideAll_none (Hi h H) hm;rw [z] at e;cases e
def Jx (g h:Heap)(L:Addr):List (Addr×Obj):=(List.range h.objs.size).filterMap λa=>if a=L\/(g.get? a).isSome=true then none else (h.get? a).map λo=>(a,o)
def rest (g h:Heap)(L d:Addr):List (Addr×Obj):=(Jx g h L).filter λp=>decide (p.1≠d)
structure Mod (K:a9)(mg:Str->Option Value)(base:Heap):Prop where
 PU:K.In base
 glob:base.Ns mainGlobals mg
 blt:∃mb,base.Ns builtinsNs mb/\∀x:Str,x ≠ "__name__" -> mb x=bootBuiltins x
 nolimit:base.NoLimit
structure Cx where
 prog:Program
 w:World
 K:a9
 mg:Str->Option Value
 base:Heap
 A:Around
 N:List Str
 s₀:Shared
 H₀:Hp
 env:Env
 outer:List Env
 stack:List Env
 ex:List Addr
 fn:Str->Bool
 calm:Bool
 pn:List (Addr×Obj)
 xe:Value->Shared->Prop
def C5 (l:List Env):List Addr:=l.filterMap (·.frame)
abbrev Cx.fs (X:Cx):List Addr:=C5 X.outer
def SD (sc:Scope)(x:Str):Prop:=sc.names.lookup x=some .local\/sc.names.lookup x=some .cell\/sc.names.lookup x=some .free
def Loc (sc:Scope)(x:Str):Prop:=sc.names.lookup x=some .local\/sc.names.lookup x=some .cell
def Look (env:Env)(h:Heap)(m:Str->Option Value)(x:Str)(u:Value):Prop :=
 (env.kindOf x=some .local/\m x=some u)\/((env.kindOf x=some .cell\/env.kindOf x=some .free)/\∃c,env.cells.lookup x=some c/\h.IsCell c (some u))
structure Cx.Ok (X:Cx):Prop where
 mod:Mod X.K X.mg X.base
 kind:X.env.scope.kind=.function
 glob:X.env.globals=mainGlobals
 blt:X.env.builtins=builtinsNs
 above:X.s₀.heap.objs.size<=X.env.locals
 inj:∀x y c,X.env.cells.lookup x=some c->X.env.cells.lookup y=some c->x=y
 has:∀x,(X.env.kindOf x=some .cell\/X.env.kindOf x=some .free)->∃c,X.env.cells.lookup x=some c
 Q3:∀x c,X.fn x=true->X.env.cells.lookup x=some c->X.s₀.heap.objs.size<=c
 hd:X.calm=true->X.A.handled=none
 frames:X.A.frames=some X.stack
 RC:X.stack=X.outer\/(X.stack=X.env::X.outer/\X.env.frame=some X.env.locals)
 N3:∀b∈X.ex,b≠X.env.locals/\∀x c,X.env.cells.lookup x=some c->c≠b
 bs:∀b o,X.base.get? b=some o->X.s₀.heap.get? b=some o/\X.H₀ b=none
 HQ:X.base.objs.size<=X.s₀.heap.objs.size
 FE:∀b o,X.base.get? b=some o->b∉X.ex
 C8:∀b∈X.ex,b∉X.fs
 pK:X.s₀.heap.FunFrames X.base X.outer
 Ks:∀b∈X.fs,X.H₀ b=none
structure Inv (X:Cx)(ag:List (Addr×Obj))(σ:List (Option V))(H:Hp)(s:Shared):Prop where
 ok:X.Ok
 os:s.os=X.s₀.os
 bare:AllBare s.gens
 base:Un X.fs X.ex X.H₀ H X.s₀.heap s.heap
 loc:∃m,s.heap.Ns X.env.locals m/\∀(i:Nat)(x:Str)(v:V),X.N[i]?=some x->σ[i]?=some (some v)->SD X.env.scope x->∃u,RelV v u/\Look X.env s.heap m x u
 cell:∀x c,X.env.cells.lookup x=some c->∃v,s.heap.IsCell c v
 free:H X.env.locals=none
 lZ:∀x c,X.env.cells.lookup x=some c->H c=none
 pin:∀p∈X.pn++ag,s.heap.get? p.1=some p.2/\H p.1=none/\p.1≠X.env.locals/\p.1∉X.fs/\∀v,p.2.data≠.cell v
 b8:l8 X.prog X.w H s.heap
 len:σ.length=X.N.length
section
variable {X:Cx}{ag:List (Addr×Obj)}{σ:List (Option V)}{H H':Hp}{s:Shared}{h':Heap}
def Cx.Ok.Um (ok:X.Ok){b:Addr}{o:Obj}(e:X.base.get? b=some o):b∉X.fs:=λhb=>by
 have:=(ok.pK.mem hb).1;rw [e] at this;cases this
theorem Inv.bs (I:Inv X ag σ H s):∀b o,X.base.get? b=some o->s.heap.get? b=some o/\H b=none:=λb o e =>
 ⟨I.base.keep b o (I.ok.bs b o e).1 (I.ok.bs b o e).2 (I.ok.Um e) (I.ok.FE b o e),I.base.free b o (I.ok.bs b o e).1 (I.ok.bs b o e).2 (I.ok.FE b o e)⟩
def Inv.bk (I:Inv X ag σ H s):∀b o,X.base.get? b=some o->s.heap.get? b=some o:=λb o e=>(I.bs b o e).1
theorem Inv.mod (I:Inv X ag σ H s):Mod X.K X.mg X.base:=I.ok.mod
def Inv.wa (I:Inv X ag σ H s):X.K.In s.heap:=I.ok.mod.PU.keeps I.bk
theorem Inv.nolimit (I:Inv X ag σ H s):s.heap.NoLimit:=I.ok.mod.nolimit.keeps I.bk
def Inv.fr (I:Inv X ag σ H s):∃m,Fr X.base X.env.locals s.heap m :=
 let ⟨m,hn,_⟩:=I.loc
 ⟨m,hn,I.bk,fX I.ok.HQ I.ok.above⟩
theorem Inv.lt (I:Inv X ag σ H s):X.env.locals < s.heap.objs.size:=let ⟨_,hn,_⟩:=I.loc;hn.lt
def Inv.sz (I:Inv X ag σ H s):X.s₀.heap.objs.size<=s.heap.objs.size:=fX I.ok.above (jH I.lt)
def Inv.Ul (I:Inv X ag σ H s){a:Addr}(h:s.heap.objs.size<=a):a∉X.fs:=λhb=>by
 obtain⟨_,o,ho,_⟩:=I.ok.pK.mem hb;exact absurd (eV (ba ho) (fX I.sz h)) (kJ _)
def Inv.Nm (I:Inv X ag σ H s):∀x c,X.env.cells.lookup x=some c->c≠X.env.locals:=λx c e z=>by
 obtain⟨v,o,ho,hd⟩:=I.cell x c e;obtain⟨m,⟨o',es,ep,CT,CW,_⟩,_⟩:=I.loc;rw [z,CT] at ho;cases ho;rw [CW] at hd;cases hd
theorem Inv.pK (I:Inv X ag σ H s):s.heap.FunFrames X.base X.outer:=by
 have all:∀(l:List Env),(∀b∈C5 l,b∈X.fs)->X.s₀.heap.FunFrames X.base l->s.heap.FunFrames X.base l:=by
  intro l
  induction l with
  | nil=>intro _ _;trivial
  | cons env r ih =>
   intro hs hl;obtain⟨hk,⟨L,o,hf,hn,ho,hd⟩,hr⟩:=hl;have hL:L∈X.fs:=hs L (by unfold C5;rw [rj,hf];exact cV);obtain⟨sl,e⟩:=I.base.slot L o ho (I.ok.Ks L hL) hL λz=>I.ok.C8 L z hL;exact⟨hk,⟨L,_,hf,hn,e,hd⟩,ih (λb hb=>hs b (by unfold C5;rw [rj,hf];exact du _ hb)) hr⟩
 exact all X.outer (λ_ hb=>hb) I.ok.pK
theorem Inv.stack (I:Inv X ag σ H s):s.heap.FunFrames X.base X.stack:=by
 rcases I.ok.RC with e | ⟨e,hf⟩
 .rw [e];exact I.pK
 rw [e];obtain⟨m,hn,_⟩:=I.loc;refine .cons (by rw [I.ok.kind];decide) hf hn ?_ I.pK;exact Heap.get?_none_of_le (fX I.ok.HQ I.ok.above)
def Inv.yX (I:Inv X ag σ H s):∀b∈C5 X.stack,b∈X.env.locals::X.fs:=λb hb=>by
 rcases I.ok.RC with e | ⟨e,hf⟩
 .rw [e] at hb;exact du _ hb
 rw [e] at hb;unfold C5 at hb;rw [rj,hf] at hb;exact hb
def Inv.A4 (I:Inv X ag σ H s):∀b∈C5 X.stack,H b=none:=λb hb=>by
 rcases cA.mp (I.yX b hb) with e | hb
 .rw [e];exact I.free
 obtain⟨_,o,ho,_⟩:=I.ok.pK.mem hb;exact I.base.free b o ho (I.ok.Ks b hb) λz=>I.ok.C8 b z hb
def Inv.step {g':Array GenState}{t':Nat}{d':Drawn}{ch:List Addr}(I:Inv X ag σ H s)
  (Hv:∀b∈ch,(b∈X.ex\/X.s₀.heap.objs.size<=b)/\b≠X.env.locals/\(∀x c,X.env.cells.lookup x=some c->c≠b)/\∀p∈X.pn++ag,p.1≠b)
  (keep:∀b o,b≠X.env.locals->b∉X.fs->b∉ch->s.heap.get? b=some o->H b=none->h'.get? b=some o)
  (slot:∀b o,b≠X.env.locals->b∈X.fs->b∉ch->s.heap.get? b=some o->H b=none->∃sl,h'.get? b=some { o with slots:=sl })(free:∀b o,b∉ch->s.heap.get? b=some o->H b=none->H' b=none)
  (there:∀b o,b∉ch->s.heap.get? b=some o->∃o',h'.get? b=some o')
  (o9:∀b xs,H b=some (.tup xs)->H' b=some (.tup xs))(mH:∀b o u,H b=some (.kj o u)->H' b=some (.kj o u))(nh:∀b ps,H b=some (.tM ps)->∃more,H' b=some (.tM (ps++more)))
  (ns:∀m,s.heap.Ns X.env.locals m->h'.Ns X.env.locals m)(b8:l8 X.prog X.w H' h')(hg:AllBare g') :
  Inv X ag σ H' { s with heap:=h',gens:=g',drawn:=d',toks:=t' }:=by
 have Ye:∀b o,X.s₀.heap.get? b=some o->b≠X.env.locals:=λb o e=>bN (eV (ba e) I.ok.above);have NK:∀b o,X.s₀.heap.get? b=some o->b∉X.ex->b∉ch:=λb o e hx hb=>by
  rcases (Hv b hb).1 with z | z
  .exact hx z
  exact absurd (eV (ba e) z) (kJ _)
 have cellK:∀x c,X.env.cells.lookup x=some c->∀v,s.heap.IsCell c v->h'.IsCell c v:=λx c e v ⟨o,ho,hd⟩=>by
  have Pq:c∉ch:=λz=>(Hv c z).2.2.1 x c e rfl;by_cases hc:c∈X.fs
  .obtain⟨sl,q⟩:=slot c o (I.Nm x c e) hc Pq ho (I.lZ x c e);exact⟨_,q,hd⟩
  exact⟨o,keep c o (I.Nm x c e) hc Pq ho (I.lZ x c e),hd⟩
 refine⟨I.ok,I.os,hg,⟨λb o e n hb hx=>?_,λb o e n hb hx=>?_,λb o e n hx=>?_,λb o e hx=>?_,λb xs e=>o9 b xs (I.base.o9 b xs e),λb o xs e=>mH b o xs (I.base.mH b o xs e),λb ps e=>?_⟩,?_,λx c e=>?_,?_,λx c e=>?_,λp hp=>?_,b8,I.len⟩
 .exact keep b o (Ye b o e) hb (NK b o e hx) (I.base.keep b o e n hb hx) (I.base.free b o e n hx)
 .obtain⟨sl,e1⟩:=I.base.slot b o e n hb hx;obtain⟨TC,e2⟩:=slot b _ (Ye b o e) hb (NK b o e hx) e1 (I.base.free b o e n hx);exact⟨TC,e2⟩
 .obtain⟨o',e1⟩:=I.base.there b o e hx;exact free b o' (NK b o e hx) e1 (I.base.free b o e n hx)
 .obtain⟨o',e1⟩:=I.base.there b o e hx;exact there b o' (NK b o e hx) e1
 .obtain⟨m1,e1⟩:=I.base.nh b ps e;obtain⟨m2,e2⟩:=nh b _ e1;exact⟨m1++m2,by rw [e2,Array.append_assoc]⟩
 .obtain⟨m,hn,hl⟩:=I.loc;refine⟨m,ns m hn,λi x v e1 e2 e3=>?_⟩;obtain⟨u,r,l⟩:=hl i x v e1 e2 e3;refine⟨u,r,?_⟩;rcases l with l | ⟨k,c,e,z⟩
  .exact .inl l
  exact .inr ⟨k,c,e,cellK x c e _ z⟩
 .obtain⟨v,z⟩:=I.cell x c e;exact⟨v,cellK x c e v z⟩
 .obtain⟨m,⟨o,_,_,ho,_⟩,_⟩:=I.loc;exact free _ o (λz=>(Hv _ z).2.1 rfl) ho I.free
 .obtain⟨v,o,ho,hd⟩:=I.cell x c e;exact free c o (λz=>(Hv c z).2.2.1 x c e rfl) ho (I.lZ x c e)
 obtain⟨e,n,ne,nf,d⟩:=I.pin p hp;have Pq:p.1∉ch:=λz=>(Hv p.1 z).2.2.2 p hp rfl;exact⟨keep p.1 p.2 ne nf Pq e n,free p.1 p.2 Pq e n,ne,nf,d⟩
def Inv.un {t':Nat}(I:Inv X ag σ H s)(u:Un X.fs [] H H' s.heap h')(b8:l8 X.prog X.w H' h'):Inv X ag σ H' { s with heap:=h',toks:=t' }:=by
 obtain⟨m,⟨o,es,ep,ho,r⟩,_⟩:=id I.loc;obtain⟨sl,hL⟩:=u.any ho I.free (by simp);exact I.step (g':=s.gens) (d':=s.drawn) (ch:=[]) (λ_ z=>nomatch z) (λb o _ hb _ e n=>u.keep b o e n hb (by simp)) (λb o _ hb _ e n=>u.slot b o e n hb (by simp)) (λb o _ e n=>u.free b o e n (by simp)) (λb o _ e=>u.there b o e (by simp)) u.o9 u.mH u.nh (λm' hm=>by
  obtain⟨o',wt,Wh,CT,r'⟩:=hm;rw [ho] at CT;cases CT;exact⟨_,wt,Wh,hL,r'⟩) b8 I.bare
def Inv.call {g':Array GenState}{t':Nat}{d':Drawn}{ch:List Addr}(I:Inv X ag σ H s)(u:Un (C5 X.stack) ch H H' s.heap h')(b8:l8 X.prog X.w H' h')(hg:AllBare g')
  (Hv:∀b∈ch,(b∈X.ex\/X.s₀.heap.objs.size<=b)/\b≠X.env.locals/\(∀x c,X.env.cells.lookup x=some c->c≠b)/\∀p∈X.pn++ag,p.1≠b) :
  Inv X ag σ H' { s with heap:=h',gens:=g',drawn:=d',toks:=t' }:=by
 obtain⟨m,⟨o,es,ep,ho,r⟩,_⟩:=id I.loc;obtain⟨sl,hL⟩:=u.any ho I.free λz=>(Hv _ z).2.1 rfl;exact I.step (ch:=ch) Hv (λb o hL hb hc e n=>u.keep b o e n (λz=>(cA.mp (I.yX b z)).elim hL hb) hc) (λb o _ _ hc e n=>u.any e n hc) (λb o hc e n=>u.free b o e n hc) (λb o hc e=>u.there b o e hc) u.o9 u.mH u.nh (λm' hm=>by
  obtain⟨o',wt,Wh,CT,r'⟩:=hm;rw [ho] at CT;cases CT;exact⟨_,wt,Wh,hL,r'⟩) b8 hg
def Inv.turned {t':Nat}{it:Addr}(I:Inv X ag σ H s)(k:∀b o,b≠it->s.heap.get? b=some o->h'.get? b=some o)(hn:H it=none)(hL:it≠X.env.locals)
  (h1:it∈X.ex\/X.s₀.heap.objs.size<=it)(h2:∀x c,X.env.cells.lookup x=some c->c≠it)(h3:∀p∈X.pn++ag,p.1≠it):Inv X ag σ H { s with heap:=h',toks:=t' }:=by
 have Yd:∀b u,H b=some u->b≠it:=λb u e z=>by rw [z,hn] at e;cases e
 refine I.step (g':=s.gens) (d':=s.drawn) (ch:=[it]) (λb hb=>?_) (λb o _ _ hc e _=>k b o (λz=>hc (by simp [z])) e) (λb o _ _ hc e _=>⟨o.slots,k b o (λz=>hc (by simp [z])) e⟩) (λ_ _ _ _ n=>n)
  (λb o hc e=>⟨o,k b o (λz=>hc (by simp [z])) e⟩) (λ_ _ e=>e) (λ_ _ _ e=>e) (λb ps e=>⟨#[],by rw [e];simp⟩) (λm hm=>?_) (λb u e=>?_) I.bare
 .have e:b=it:=by simpa using hb
  subst e;exact⟨h1,hL,h2,h3⟩
 .obtain⟨o,es,ep,ho,r⟩:=hm;exact⟨o,es,ep,k _ o (cP hL) ho,r⟩
 refine(I.b8 b u e).ka (λc v hc q=>k c v ?_ q) (λ_ q=>q) λ_ _ q=>q;rcases hc with z | z
 .rw [z];exact Yd b u e
 exact Yd c _ z
def Inv.tok (I:Inv X ag σ H s) (t:Nat):Inv X ag σ H { s with toks:=t }:=I.un (h':=s.heap) (t':=t) Un.refl I.b8
theorem Inv.kept {t':Nat}(I:Inv X ag σ H s)(k:∀b u,s.heap.get? b=some u->h'.get? b=some u):Inv X ag σ H { s with heap:=h',toks:=t' }:=I.un (Un.kept k) (I.b8.kept k)
theorem Inv.laid {a:Addr}{o:HO}{t':Nat}(I:Inv X ag σ H s)(k:∀b u,s.heap.get? b=some u->h'.get? b=some u)(hp:s.heap.objs.size<=a)(new:cH X.prog X.w (upd H a o) h' a o) :
  Inv X ag σ (upd H a o) { s with heap:=h',toks:=t' }:=I.un (Un.laid k hp (I.b8.fresh hp)) (I.b8.laid k hp new)
theorem Inv.write {x e:Addr}{o:HO}{t':Nat}(I:Inv X ag σ H s)(mu:Rj (H x))(he:e=x\/H e=some (.own x))(k:∀b u,b≠e->s.heap.get? b=some u->h'.get? b=some u)(NT:∃u,h'.get? e=some u)
  (new:cH X.prog X.w (upd H x o) h' x o):Inv X ag σ (upd H x o) { s with heap:=h',toks:=t' }:=I.un (Un.write mu he k NT) (I.b8.write mu he k NT new)
def Inv.Bq {j6:List (Addr×Obj)}(I:Inv X ag σ H s)(h:∀p∈j6,s.heap.get? p.1=some p.2/\H p.1=none/\p.1≠X.env.locals/\p.1∉X.fs/\∀v,p.2.data≠.cell v):Inv X j6 σ H s :=
 ⟨I.ok,I.os,I.bare,I.base,I.loc,I.cell,I.free,I.lZ,λp hp=>(cC.mp hp).elim (λz=>I.pin p (jm _ z)) (h p),I.b8,I.len⟩
def xD {N:List Str}(hN:N.Nodup){i j:Nat}{x:Str}(a:N[i]?=some x)(b:N[j]?=some x):i=j:=by
 obtain⟨h1,e1⟩:=bq.mp a;obtain⟨h2,e2⟩:=bq.mp b;exact(uY hN).mp (e1.trans e2.symm)
def uh {M:Model}{A:Around}{E:Value->Shared->Prop}{i:Nat}{x:Str}{v:V}{u:Value}{Q:Unit->Shared->Prop}(I:Inv X ag σ H s)(hN:X.N.Nodup)(hi:X.N[i]?=some x)(hx:Loc X.env.scope x)(r:RelV v u)
  (h:∀s',Inv X ag (σ.set i (some v)) H s'->(∃a,Heap.SameBut a s.heap s'.heap/\(a=X.env.locals\/X.env.cells.lookup x=some a))->Q () s')(hf:X.fn x=true\/X.env.scope.names.lookup x=some .local:=by first | exact .inl rfl | exact .inr rfl | assumption):wpAny M A (storeName X.env x u) Q E s:=by
 obtain⟨m,hn,hl⟩:=id I.loc;have VI:(X.env.scope.kind == .class || (X.env.scope.kind == .module && X.env.locals != X.env.globals))=false:=by rw [I.ok.kind];rfl
 have Y3:i < σ.length:=by rw [I.len];exact(bq.mp hi).1
 have Nm:=I.Nm;have tracked:∀{a:Addr}{h':Heap},(∃o,s.heap.get? a=some o/\H a=none)->Heap.SameBut a s.heap h'->l8 X.prog X.w H h':=λ{a h'} ha hs b ob e=>by
  obtain⟨_,_,og⟩:=ha;refine(I.b8 b ob e).ka (λc w' hc q=>(hs.2 c ?_).trans q) (λ_ q=>q) λ_ _ q=>q;rintro rfl;rcases hc with rfl | hc
  .rw [og] at e;cases e
  rw [og] at hc;cases hc
 rcases hx with hk | hk
 .refine wpAny_storeName_local hk hn (λh' Jc hs=>?_) VI;obtain⟨oL,_,_,hoL,_⟩:=id hn;refine h _ ⟨I.ok,I.os,I.bare,⟨λb o e n hb hx=>?_,λb o e n hb hx=>?_,I.base.free,λb o e hx=>?_,I.base.o9,I.base.mH,I.base.nh⟩,⟨_,Jc,λj y v' e1 e2 e3=>?_⟩,λy c e=>?_,I.free,I.lZ,λp hp=>?_,tracked ⟨oL,hoL,I.free⟩ hs,by simpa using I.len⟩ ⟨_,hs,.inl rfl⟩
  .exact(hs.2 b (bN (eV (ba e) I.ok.above))).trans (I.base.keep b o e n hb hx)
  .obtain⟨sl,e1⟩:=I.base.slot b o e n hb hx;exact⟨sl,(hs.2 b (bN (eV (ba e) I.ok.above))).trans e1⟩
  .obtain⟨o',e1⟩:=I.base.there b o e hx;exact⟨o',(hs.2 b (bN (eV (ba e) I.ok.above))).trans e1⟩
  .by_cases hj:j=i
   .subst hj;rw [hi] at e1;cases e1;rw [List.getElem?_set_self Y3] at e2;cases e2;exact⟨u,r,.inl ⟨hk,by simp⟩⟩
   rw [List.getElem?_set_ne (cP hj)] at e2;obtain⟨u',r',q⟩:=hl j y v' e1 e2 e3;refine⟨u',r',?_⟩;rcases q with ⟨k,e⟩ | ⟨k,c,e,z⟩
   .refine .inl ⟨k,?_⟩;have:y≠x:=λe=>hj (xD hN e1 (e ▸ hi));simp [this,e]
   exact .inr ⟨k,c,e,z.sameBut hs (Nm y c e)⟩
  .obtain⟨w',z⟩:=I.cell y c e;exact⟨w',z.sameBut hs (Nm y c e)⟩
  obtain⟨e,n,ne,nf,d⟩:=I.pin p hp;exact⟨(hs.2 p.1 ne).trans e,n,ne,nf,d⟩
 have Vy:X.fn x=true:=by
  rcases hf with z | z
  .exact z
  rw [z] at hk;cases hk
 obtain⟨c,hc⟩:=I.ok.has x (.inl hk);obtain⟨w',z⟩:=I.cell x c hc;refine wpAny_storeName_cell I.ok.kind hk hc z (λh' lI hs=>?_);obtain⟨oc,yA,Vk⟩:=id z;refine h { s with heap:=h' } ⟨I.ok,I.os,I.bare,⟨λb o e n hb hx=>?_,λb o e n hb hx=>?_,I.base.free,λb o e hx=>?_,I.base.o9,I.base.mH,I.base.nh⟩,⟨m,hn.sameBut hs (cP (Nm x c hc)),λj y v' e1 e2 e3=>?_⟩,λy c' e=>?_,I.free,I.lZ,λp hp=>?_,tracked ⟨oc,yA,I.lZ x c hc⟩ hs,by simpa using I.len⟩ ⟨c,hs,.inr hc⟩
 .exact(hs.2 b (bN (eV (ba e) (I.ok.Q3 x c Vy hc)))).trans (I.base.keep b o e n hb hx)
 .obtain⟨sl,e1⟩:=I.base.slot b o e n hb hx;exact⟨sl,(hs.2 b (bN (eV (ba e) (I.ok.Q3 x c Vy hc)))).trans e1⟩
 .obtain⟨o',e1⟩:=I.base.there b o e hx;exact⟨o',(hs.2 b (bN (eV (ba e) (I.ok.Q3 x c Vy hc)))).trans e1⟩
 .by_cases hj:j=i
  .subst hj;rw [hi] at e1;cases e1;rw [List.getElem?_set_self Y3] at e2;cases e2;exact⟨u,r,.inr ⟨.inl hk,c,hc,lI⟩⟩
  rw [List.getElem?_set_ne (cP hj)] at e2;obtain⟨u',r',q⟩:=hl j y v' e1 e2 e3;refine⟨u',r',?_⟩;rcases q with q | ⟨k,c',e,z'⟩
  .exact .inl q
  refine .inr ⟨k,c',e,z'.sameBut hs ?_⟩;rintro rfl;exact hj (xD hN e1 (I.ok.inj _ _ _ e hc ▸ hi))
 .by_cases Y9:c'=c
  .subst Y9;exact⟨_,lI⟩
  obtain⟨w2,z2⟩:=I.cell y c' e;exact⟨w2,z2.sameBut hs Y9⟩
 obtain⟨e,n,ne,nf,d⟩:=I.pin p hp;refine⟨(hs.2 p.1 ?_).trans e,n,ne,nf,d⟩;intro q;rw [q,yA] at e;have q':oc=p.2:=gS e;exact d w' (by rw [<-q'];exact Vk)
def rE {M:Model}{A:Around}{E:Value->Shared->Prop}{i:Nat}{x:Str}{v:V}{u:Value}{Q:Unit->Shared->Prop}(I:Inv X ag σ H s)(hN:X.N.Nodup)(hi:X.N[i]?=some x)(hx:Loc X.env.scope x)(r:RelV v u)
  (h:∀s',Inv X ag (σ.set i (some v)) H s'->Q () s')(hf:X.fn x=true\/X.env.scope.names.lookup x=some .local:=by first | exact .inl rfl | exact .inr rfl | assumption):wpAny M A (storeName X.env x u) Q E s :=
 uh I hN hi hx r (λs' I' _=>h s' I') hf
def Inv.KQ {s':Shared}{ch:List Addr}(I:Inv X ag σ H s)(ho:s'.os=s.os)(u:Un (C5 X.stack) ch H H' s.heap s'.heap)(b8:l8 X.prog X.w H' s'.heap)(hg:AllBare s'.gens)
  (Hv:∀b∈ch,(b∈X.ex\/X.s₀.heap.objs.size<=b)/\b≠X.env.locals/\(∀x c,X.env.cells.lookup x=some c->c≠b)/\∀p∈X.pn++ag,p.1≠b):Inv X ag σ H' s':=by
 obtain⟨h',g',d',t',o'⟩:=s';have e:o'=s.os:=ho;subst e;exact I.call (g':=g') (t':=t') (d':=d') u b8 hg Hv
end
abbrev XK:=Value->Option Addr->Hp->Prop
abbrev St:=List (Option V)
abbrev aP (a:Addr):Option V:=some (.ref a)
abbrev VK:=V->Hp->Prop
abbrev TE:=St->Hp->VK->Prop
abbrev TT:=St->Hp->(Bool->Hp->Prop)->Prop
abbrev TA:=St->Hp->(List V->Hp->Prop)->Prop
structure Ends where
 nx:St->Hp->Prop
 rt:VK
 bk:St->Hp->Prop:=λ_ _=>False
 ct:St->Hp->Prop:=λ_ _=>False
abbrev TS:=Ends->St->Hp->Prop
def EP (X:Cx)(ag:List (Addr×Obj))(σ:St)(Q:VK)(u:Value)(s':Shared):Prop:=∃v H',Inv X ag σ H' s'/\RelV v u/\Q v H'
def TP (X:Cx)(ag:List (Addr×Obj))(σ:St)(Q:Bool->Hp->Prop)(b:Bool)(s':Shared):Prop:=∃H',Inv X ag σ H' s'/\Q b H'
def AP (X:Cx)(ag:List (Addr×Obj))(σ:St)(Q:List V->Hp->Prop)(us:List Value)(s':Shared):Prop:=∃vs H',Inv X ag σ H' s'/\a_ vs us/\Q vs H'
def SP (X:Cx)(ag:List (Addr×Obj))(D:Ends)(f:Flow)(s':Shared):Prop :=
 match f with
 | .next=>∃σ' H',Inv X ag σ' H' s'/\D.nx σ' H'
 | .brk=>∃σ' H',Inv X ag σ' H' s'/\D.bk σ' H'
 | .cont=>∃σ' H',Inv X ag σ' H' s'/\D.ct σ' H'
 | .ret u=>∃v σ' H',Inv X ag σ' H' s'/\RelV v u/\D.rt v H'
def PE (X:Cx)(e:Expr)(t:TE):Prop :=
 ∀(ag:List (Addr×Obj))(s:Shared)(σ:St)(H:Hp)(Q:VK),Inv X ag σ H s->t σ H Q->wpAny (model X.prog X.w) X.A (eval e X.env) (EP X ag σ Q) X.xe s
def PT (X:Cx)(e:Expr)(t:TT):Prop :=
 ∀(ag:List (Addr×Obj))(s:Shared)(σ:St)(H:Hp)(Q:Bool->Hp->Prop),Inv X ag σ H s->t σ H Q->wpAny (model X.prog X.w) X.A (isTrue e X.env (eval e X.env)) (TP X ag σ Q) X.xe s
def PW (X:Cx)(e:Expr)(t:TT):Prop :=
 ∀(whole:Sem Value)(ag:List (Addr×Obj))(s:Shared)(σ:St)(H:Hp)(Q:Bool->Hp->Prop),Inv X ag σ H s->t σ H Q->wpAny (model X.prog X.w) X.A (isTrue e X.env whole) (TP X ag σ Q) X.xe s
def PW.pt {X:Cx}{e:Expr}{t:TT}(h:PW X e t):PT X e t:=h _
def PA (X:Cx)(es:List Expr)(t:TA):Prop :=
 ∀(pos:Pos)(ag:List (Addr×Obj))(s:Shared)(σ:St)(H:Hp)(Q:List V->Hp->Prop),Inv X ag σ H s->t σ H Q->wpAny (model X.prog X.w) X.A (spliced (backTo pos (starEach es X.env))) (AP X ag σ Q) X.xe s
def PS (X:Cx)(st:Stmt)(t:TS):Prop :=
 ∀(ag:List (Addr×Obj))(s:Shared)(σ:St)(H:Hp)(D:Ends),Inv X ag σ H s->t D σ H->wpAny (model X.prog X.w) X.A (exec st X.env) (SP X ag D) X.xe s
def AJ (X:Cx)(st:List Stmt)(t:TS):Prop :=
 ∀(ag:List (Addr×Obj))(s:Shared)(σ:St)(H:Hp)(D:Ends),Inv X ag σ H s->t D σ H->wpAny (model X.prog X.w) X.A (execs st X.env) (SP X ag D) X.xe s
def cJ {α:Type}{t:Sem α}{Q Q':α->Shared->Prop}{M:Model}{A:Around}{E:Value->Shared->Prop}{s:Shared}(h:wpAny M A t Q E s)(hQ:∀a s,Q a s->Q' a s):wpAny M A t Q' E s:=dH h hQ λ_ _ x=>x
section
variable {X:Cx}
def bin {a b:Expr}{ta tb:TE}(ha:PE X a ta)(hb:PE X b tb){ag:List (Addr×Obj)}{s:Shared}{σ:St}{H:Hp}{R:V->V->Hp->Prop}(I:Inv X ag σ H s)(h:ta σ H λx H1=>tb σ H1 λy H2=>R x y H2)
  {α:Type}{Q:α->Shared->Prop}{f:Value->Value->Sem α}
  (hf:∀v u s2 x y H2,Inv X ag σ H2 s2->RelV x v->RelV y u->R x y H2->wpAny (model X.prog X.w) X.A (f v u) Q X.xe s2) :
  wpAny (model X.prog X.w) X.A (eval a X.env) (λv s₁=>wpAny (model X.prog X.w) X.A (eval b X.env) (λu s₂=>wpAny (model X.prog X.w) X.A (f v u) Q X.xe s₂) X.xe s₁) X.xe s:=by
 refine cJ (ha ag s σ H _ I h) λv s1 bz=>?_;obtain⟨x,H1,I1,r1,q1⟩:=bz;refine cJ (hb ag s1 σ H1 _ I1 q1) λu s2 bz=>?_;obtain⟨y,H2,I2,r2,q2⟩:=bz;exact hf v u s2 x y H2 I2 r1 r2 q2
inductive Ra (o:Option (Option V))(R:V->Prop):Prop
 | mk (v:V)(e:o=some (some v))(q:R v):Ra o R
inductive XB (x:V)(R:Bool->Prop):Prop
 | mk (c:Bool)(e:x=.bl c)(q:R c):XB x R
inductive XI1 (x:V)(R:Int->Prop):Prop
 | mk (i:Int)(e:x=.int i)(q:R i):XI1 x R
inductive XI0 (x y:V)(R:Int->Int->Prop):Prop
 | mk (i j:Int)(e:x=.int i)(e2:y=.int j)(q:R i j):XI0 x y R
inductive XI2 (x y:V)(C:Int->Int->Prop)(R:Int->Int->Prop):Prop
 | mk (i j:Int)(e:x=.int i)(e2:y=.int j)(c:C i j)(q:R i j):XI2 x y C R
inductive KY (vs:List V)(R:V->List V->Prop):Prop
 | mk (v:V)(r:List V)(e:vs=v::r)(q:R v r):KY vs R
inductive Rb (v:V)(S:Addr->List V->Prop) (n:Nat)(R:List V->Prop):Prop
 | mk (a:Addr)(xs:List V)(e:v=.ref a)(s:S a xs)(l:xs.length=n)(q:R xs):Rb v S n R
inductive Xa (x:V)(S:Addr->Prop)(R:Addr->Prop):Prop
 | mk (a:Addr)(e:x=.ref a)(s:S a)(q:R a):Xa x S R
inductive Rc (xs:List V)(S:Addr->List V->Prop)(R:List V->Prop):Prop
 | mk (p:Addr)(ys:List V)(e:xs=[.ref p])(s:S p ys)(q:R ys):Rc xs S R
def gX (i:Nat):TE:=λσ H Q=>Ra σ[i]? λv=>Q v H
def tC (v:V):TE:=λ_ H Q=>Q v H
def LK {i:Nat}{x:Str}{pos:Pos}(hN:X.N[i]?=some x)(hv:SD X.env.scope x)(hd:(x == ("__debug__":Str))=false:=by decide)(wk:(x == ("__classdict__":Str))=false:=by decide):PE X (.Name x pos) (gX i):=by
 intro ag s σ H Q I h;obtain⟨v,e,h⟩:=h;obtain⟨m,hn,hl⟩:=I.loc;obtain⟨u,r,l⟩:=hl i x v hN e hv;have fin:EP X ag σ Q u s:=⟨v,H,I,r,h⟩;rcases l with ⟨hk,hm⟩ | ⟨hk,c,hc,jz⟩
 .exact wpAny_Name (u6 I.ok.kind hk hn hm fin) hd
 rcases hk with hk | hk
 .exact wpAny_Name (wpAny_loadName_cell I.ok.kind hk hc jz fin) hd
 exact wpAny_Name (wpAny_loadName_free I.ok.kind hk hc jz fin wk) hd
def ao {i j pos}:PE X (.Constant (.int i) j pos) (tC (.int i)):=λ_ _ _ H _ I h=>wpAny_Constant_int ⟨.int i,H,I.tok _,⟨_,rfl⟩,h⟩
def dI {b j pos}:PE X (.Constant (.bool b) j pos) (tC (.bl b)):=λ_ _ _ H _ I h=>Constant_bool ⟨.bl b,H,I,rfl,h⟩
def jf {j pos}:PE X (.Constant .none j pos) (tC .d7):=λ_ _ _ H _ I h=>Constant_none ⟨.d7,H,I,rfl,h⟩
def bU {x j pos}:PE X (.Constant (.str x) j pos) (tC (.str x)):=λ_ _ _ H _ I h=>Calls.Constant_str ⟨.str x,H,I.tok _,⟨_,rfl⟩,h⟩
def Gl (X:Cx)(x:Str):Prop:=X.env.kindOf x=some .globalImplicit
def v_ {E:Value->Shared->Prop}{ag:List (Addr×Obj)}{s:Shared}{σ:St}{H:Hp}{x:Str}{u:Value}{pos:Pos}{Q:Value->Shared->Prop}(I:Inv X ag σ H s)(hg:Gl X x)(hm:X.mg x=some u)(h:Q u s)
  (hd:(x == ("__debug__":Str))=false:=by decide):wpAny (model X.prog X.w) X.A (eval (.Name x pos) X.env) Q E s :=
 Calls.Name_function_global I.ok.kind hg (Calls.loadGlobal_global (by rw [I.ok.glob];exact I.mod.glob.keeps I.bk) hm h) hd
def iR {E:Value->Shared->Prop}{ag:List (Addr×Obj)}{s:Shared}{σ:St}{H:Hp}{x:Str}{u:Value}{pos:Pos}{Q:Value->Shared->Prop}(I:Inv X ag σ H s)(hg:Gl X x)(hm:X.mg x=none)(hv:bootBuiltins x=some u)(h:Q u s)
  (hn:x ≠ "__name__" := by decide)(hd:(x == ("__debug__":Str))=false:=by decide):wpAny (model X.prog X.w) X.A (eval (.Name x pos) X.env) Q E s:=by
 obtain⟨mb,h1,h2⟩:=I.mod.blt;exact Calls.Name_function_global I.ok.kind hg (Calls.loadGlobal_builtin (by rw [I.ok.glob];exact I.mod.glob.keeps I.bk) hm (by rw [I.ok.blt];exact h1.keeps I.bk) ((h2 x hn).trans hv) h) hd
def IC {x:Str}{v:V}{u:Value}{pos:Pos}(hg:Gl X x)(hm:X.mg x=some u)(r:RelV v u)(hd:(x == ("__debug__":Str))=false:=by decide):PE X (.Name x pos) (tC v) :=
 λ_ _ _ H _ I h=>v_ I hg hm ⟨v,H,I,r,h⟩ hd
def fM {x:Str}{v:V}{u:Value}{pos:Pos}(hg:Gl X x)(hm:X.mg x=none)(hv:bootBuiltins x=some u)(r:RelV v u)(hn:x ≠ "__name__" := by decide)(hd:(x == ("__debug__":Str))=false:=by decide):PE X (.Name x pos) (tC v) :=
 λ_ _ _ H _ I h=>iR I hg hm hv ⟨v,H,I,r,h⟩ hn hd
variable {a b:Expr}{ta tb:TE}{pos:Pos}
def PC (X:Cx)(op:CmpOp)(a b:Expr)(t:TE):Prop :=
 ∀(ag:List (Addr×Obj))(s:Shared)(σ:St)(H:Hp)(Q:VK),Inv X ag σ H s->t σ H Q ->
  wpAny (model X.prog X.w) X.A (eval a X.env) (λv s₁=>wpAny (model X.prog X.w) X.A (eval b X.env) (λu s₂=>wpAny (model X.prog X.w) X.A (compareOp op v u) (EP X ag σ Q) X.xe s₂) X.xe s₁) X.xe s
def xE (b:Expr){op:CmpOp}(h:op≠.In)(h2:op≠.NotIn):behindInMarks op b=false:=by
 have e1:(op == CmpOp.In)=false:=by cases op <;> first | rfl | exact absurd rfl h
 have e2:(op == CmpOp.NotIn)=false:=by cases op <;> first | rfl | exact absurd rfl h2
 cases b <;> simp [behindInMarks,e1,e2]
def To (ta:TE):TE:=λσ H Q=>ta σ H λx H1=>Q (.bl (decide (x=.d7))) H1
def OF (ta:TE):TE:=λσ H Q=>ta σ H λx H1=>Q (.bl (!decide (x=.d7))) H1
def RelV.xC {x:V}{v:Value}(r:RelV x v):(v == Value.none)=decide (x=.d7):=by
 cases x with
 | d7=>cases r;rfl
 | bl _=>cases r;rfl
 | int _=>obtain⟨t,rfl⟩:=r;rfl
 | str _=>obtain⟨t,rfl⟩:=r;rfl
 | AF _=>obtain⟨t,rfl⟩:=r;rfl
 | MX _=>obtain⟨t,rfl⟩:=r;rfl
 | ref _=>cases r;rfl
 | ty _=>cases r;rfl
def rX {j pos'}(ha:PE X a ta):PC X .Is a (.Constant .none j pos') (To ta):=by
 intro ag s σ H Q I h;refine cJ (ha ag s σ H _ I h) λv s1 bz=>?_;obtain⟨x,H1,I1,r1,q1⟩:=bz;exact Constant_none (is_none_gen ⟨.bl _,H1,I1,by rw [r1.xC];rfl,q1⟩)
def Bt {j pos'}(ha:PE X a ta):PC X .IsNot a (.Constant .none j pos') (OF ta):=by
 intro ag s σ H Q I h;refine cJ (ha ag s σ H _ I h) λv s1 bz=>?_;obtain⟨x,H1,I1,r1,q1⟩:=bz;exact Constant_none (isnot_none_gen ⟨.bl _,H1,I1,by rw [r1.xC];rfl,q1⟩)
def tB (t:TE):TT:=λσ H Q=>t σ H λx H1=>XB x λc=>Q c H1
def zK {op:CmpOp}{t:TE}(h:PC X op a b t)(h1:behindInMarks op b=false:=by first | exact xE _ nofun nofun | rfl):PE X (.Compare a [op] [b] pos) t:=λag s σ H Q I hw=>wpAny_Compare1 (h ag s σ H Q I hw) h1
def cZ {op:CmpOp}{t:TE}(h:PC X op a b t)(h1:behindInMarks op b=false:=by first | exact xE _ nofun nofun | rfl):PT X (.Compare a [op] [b] pos) (tB t):=by
 intro ag s σ H Q I hw;refine wpAny_isTrue_Compare1 (cJ (h ag s σ H _ I hw) λv s1 h1=>cJ h1 λu s2 h2=>cJ h2 λc s3 bz=>?_) h1;obtain⟨x,H1,I1,r1,q1⟩:=bz;obtain⟨d,rfl,q⟩:=q1;cases r1;exact kn ⟨H1,I1,q⟩
def cY {e:Expr}{t:TE}(h:PE X e t)(he:∀whole,isTrue e X.env whole=(do let v <-whole;standAt e.pos;holding [v] (truthy v)):=by intro _;rfl):PT X e (tB t):=by
 intro ag s σ H Q I hw;refine isTrue_plain (cJ (h ag s σ H _ I hw) λv s1 bz=>?_) (he _);obtain⟨x,H1,I1,r1,q1⟩:=bz;obtain⟨d,rfl,q⟩:=q1;cases r1;exact kn ⟨H1,I1,q⟩
variable {tA Rz:TT}{rest:List Expr}
def Tw (t u:TT):TT:=λσ H Q=>t σ H λc H1=>if c=true then u σ H1 Q else Q false H1
def tOr (t u:TT):TT:=λσ H Q=>t σ H λc H1=>if c=true then Q true H1 else u σ H1 Q
def Tj (t:TT):TT:=λσ H Q=>t σ H λc H1=>Q (!c) H1
def gF (ha:PT X a tA):PW X (.BoolOp .And [a] pos) tA:=by
 intro wh ag s σ H Q I h;refine isTrue_and (cJ (ha ag s σ H Q I h) λc s1 e=>?_);cases c with
 | true=>exact isTrue_and_nil e
 | false=>exact e
def iq (ha:PT X a tA):PW X (.BoolOp .Or [a] pos) tA:=by
 intro wh ag s σ H Q I h;refine isTrue_or (cJ (ha ag s σ H Q I h) λc s1 e=>?_);cases c with
 | false=>exact isTrue_or_nil e
 | true=>exact e
def iK (ha:PT X a tA)(hb:PW X (.BoolOp .And (b::rest) pos) Rz):PW X (.BoolOp .And (a::b::rest) pos) (Tw tA Rz):=by
 intro wh ag s σ H Q I h;refine isTrue_and (cJ (ha ag s σ H _ I h) λc s1 bz=>?_);obtain⟨H1,I1,q1⟩:=bz;cases c with
 | true=>exact hb wh ag s1 σ H1 Q I1 q1
 | false=>exact⟨H1,I1,q1⟩
def ju (ha:PT X a tA)(hb:PW X (.BoolOp .Or (b::rest) pos) Rz):PW X (.BoolOp .Or (a::b::rest) pos) (tOr tA Rz):=by
 intro wh ag s σ H Q I h;refine isTrue_or (cJ (ha ag s σ H _ I h) λc s1 bz=>?_);obtain⟨H1,I1,q1⟩:=bz;cases c with
 | true=>exact⟨H1,I1,q1⟩
 | false=>exact hb wh ag s1 σ H1 Q I1 q1
def gk (ha:PT X a tA):PT X (.UnaryOp .Not a pos) (Tj tA):=by
 intro ag s σ H Q I h;exact isTrue_not (ha ag s σ H (λc H1=>Q (!c) H1) I h)
def OS (ta tb:TE):TE:=λσ H Q=>ta σ H λx H1=>XB x λc=>if c=true then tb σ H1 Q else Q (.bl false) H1
def Ti (ta tb:TE):TE:=λσ H Q=>ta σ H λx H1=>XB x λc=>if c=true then Q (.bl true) H1 else tb σ H1 Q
def OE (ta:TE):TE:=λσ H Q=>ta σ H λx H1=>XB x λc=>Q (.bl (!c)) H1
def kR {op}{t:TE}(h:PE X a t):PE X (.BoolOp op [a] pos) t:=λag s σ H Q I hw=>BoolOp_one (h ag s σ H Q I hw)
def jM (ha:PE X a ta)(hb:PE X (.BoolOp .And (b::rest) pos) tb):PE X (.BoolOp .And (a::b::rest) pos) (OS ta tb):=by
 intro ag s σ H Q I h;refine BoolOp_and (cJ (ha ag s σ H _ I h) λv s1 bz=>?_);obtain⟨x,H1,I1,r1,q1⟩:=bz;obtain⟨c,rfl,q1⟩:=q1;cases r1;refine kn ?_;cases c with
 | true=>exact hb ag s1 σ H1 Q I1 q1
 | false=>exact⟨.bl false,H1,I1,rfl,q1⟩
def Pc (ha:PE X a ta)(hb:PE X (.BoolOp .Or (b::rest) pos) tb):PE X (.BoolOp .Or (a::b::rest) pos) (Ti ta tb):=by
 intro ag s σ H Q I h;refine BoolOp_or (cJ (ha ag s σ H _ I h) λv s1 bz=>?_);obtain⟨x,H1,I1,r1,q1⟩:=bz;obtain⟨c,rfl,q1⟩:=q1;cases r1;refine kn ?_;cases c with
 | false=>exact hb ag s1 σ H1 Q I1 q1
 | true=>exact⟨.bl true,H1,I1,rfl,q1⟩
def zI (ha:PE X a ta):PE X (.UnaryOp .Not a pos) (OE ta):=by
 intro ag s σ H Q I h;refine UnaryOp_ (cJ (ha ag s σ H _ I h) λv s1 bz=>?_);obtain⟨x,H1,I1,r1,q1⟩:=bz;obtain⟨c,rfl,q1⟩:=q1;cases r1;exact not_of (kn ⟨.bl (!c),H1,I1,rfl,q1⟩)
def tIf (t:TT)(ta tb:TE):TE:=λσ H Q=>t σ H λc H1=>if c=true then ta σ H1 Q else tb σ H1 Q
def rW {c:Expr}(hc:PT X c tA)(ha:PE X a ta)(hb:PE X b tb):PE X (.IfExp c a b pos) (tIf tA ta tb):=by
 intro ag s σ H Q I h;refine wpAny_IfExp (cJ (hc ag s σ H _ I h) λd s1 bz=>?_);obtain⟨H1,I1,q1⟩:=bz;cases d with
 | true=>exact ha ag s1 σ H1 Q I1 q1
 | false=>exact hb ag s1 σ H1 Q I1 q1
end
def aI (K:a9)(H:Hp)(a:Addr)(xs:List V):Prop :=
 Rd H a (.lst xs) \/
  ∃(o:Obj)(aU:Array Value) (n:Nat),K.lookup a=some o/\o.cls=.type "list" /\ o.dict=none/\o.data=.seq aU n/\aU.size<=sizeLine/\a_ xs aU.toList
def aQ (K:a9)(H:Hp)(a:Addr)(xs:List V):Prop :=
 Rd H a (.tup xs) \/
  ∃(o:Obj)(aU:Array Value) (n:Nat),K.lookup a=some o/\o.cls=.type "tuple" /\ o.data=.seq aU n/\aU.size<=sizeLine/\a_ xs aU.toList
def W9:Value->Option V
 | .none=>some .d7
 | .bool b=>some (.bl b)
 | .int i _=>some (.int i)
 | .str x _=>some (.str x)
 | .bytes b _=>some (.AF b)
 | .float b _=>some (.MX b)
 | .ref a=>some (.ref a)
 | .type n=>some (.ty n)
 | _=>none
def RelV.abs {x:V}{u:Value}(r:RelV x u):W9 u=some x:=by
 cases x with
 | d7=>cases r;rfl
 | bl _=>cases r;rfl
 | int _=>obtain⟨t,rfl⟩:=r;rfl
 | str _=>obtain⟨t,rfl⟩:=r;rfl
 | AF _=>obtain⟨t,rfl⟩:=r;rfl
 | MX _=>obtain⟨t,rfl⟩:=r;rfl
 | ref _=>cases r;rfl
 | ty _=>cases r;rfl
def RelV.inj {x y:V}{u:Value}(r:RelV x u)(q:RelV y u):x=y:=gS (r.abs.symm.trans q.abs)
theorem a_.inj:∀{xs ys:List V}{us:List Value},a_ xs us->a_ ys us->xs=ys
 | _,_,_,.nil,.nil=>rfl
 | _,_,_,.cons r t,.cons r' t'=>by rw [r.inj r',a_.inj t t']
section
variable {X:Cx}{ag:List (Addr×Obj)}{σ:St}{H:Hp}{s:Shared}{a:Addr}{xs ys:List V}
def aI.of {K:a9}(h:H a=some (.lst xs)):aI K H a xs:=.inl (.inl h)
def aQ.of {K:a9}(h:H a=some (.tup xs)):aQ K H a xs:=.inl (.inl h)
def Inv.list (I:Inv X ag σ H s)(h:aI X.K H a xs):∃aU:List Value,a_ xs aU/\PlainL s.heap a aU.toArray/\xs.length<=sizeLine:=by
 rcases h with h | ⟨o,aU,n,hk,hc,hd,hs,hz,r⟩
 .obtain⟨z,aU,n,r,e⟩:=h.ok I.b8;exact⟨aU,r,⟨_,n,e,rfl,rfl,rfl⟩,z⟩
 refine⟨aU.toList,r,⟨o,n,I.wa a o hk,hc,hd,by simpa using hs⟩,?_⟩;have e:=r.length;simp only [rh] at e;omega
def Inv.tuple (I:Inv X ag σ H s)(h:aQ X.K H a xs):∃aU:List Value,a_ xs aU/\IsTup s.heap a aU.toArray/\xs.length<=sizeLine:=by
 rcases h with h | ⟨o,aU,n,hk,hc,hs,hz,r⟩
 .obtain⟨z,aU,r,p⟩:=h.ok I.b8;exact⟨aU,r,p,z⟩
 refine⟨aU.toList,r,⟨o,I.wa a o hk,hc,n,by simpa using hs⟩,?_⟩;have e:=r.length;simp only [rh] at e;omega
def Inv.sg (I:Inv X ag σ H s)(h:aI X.K H a xs)(h':aI X.K H a ys):xs=ys:=by
 obtain⟨aU,r,⟨o,n,e,_,_,d⟩,_⟩:=I.list h;obtain⟨so,r',⟨o',n',e',_,_,d'⟩,_⟩:=I.list h';rw [e] at e';cases e';rw [d] at d';injection d' with d1 _;have:aU=so:=by simpa using congrArg Array.toList d1
 subst this;exact r.inj r'
def Inv.ue (I:Inv X ag σ H s)(h:aQ X.K H a xs)(h':aQ X.K H a ys):xs=ys:=by
 obtain⟨aU,r,⟨o,e,_,n,d⟩,_⟩:=I.tuple h;obtain⟨so,r',⟨o',e',_,n',d'⟩,_⟩:=I.tuple h';rw [e] at e';cases e';rw [d] at d';injection d' with d1 _;have:aU=so:=by simpa using congrArg Array.toList d1
 subst this;exact r.inj r'
end
abbrev Cx.qm (X:Cx)(E:Value->Shared->Prop):Cx:={ X with xe:=E }
abbrev Cx.CB (X:Cx):Cx:=X.qm λ_ _=>False
theorem Cx.Ok.qm {X:Cx}(ok:X.Ok)(E:Value->Shared->Prop):(X.qm E).Ok :=
 ⟨ok.mod,ok.kind,ok.glob,ok.blt,ok.above,ok.inj,ok.has,ok.Q3,ok.hd,ok.frames,ok.RC,ok.N3,ok.bs,ok.HQ,ok.FE,ok.C8,ok.pK,ok.Ks⟩
def Cx.Ok.je {X:Cx}{E:Value->Shared->Prop}(ok:(X.qm E).Ok):X.Ok :=
 ⟨ok.mod,ok.kind,ok.glob,ok.blt,ok.above,ok.inj,ok.has,ok.Q3,ok.hd,ok.frames,ok.RC,ok.N3,ok.bs,ok.HQ,ok.FE,ok.C8,ok.pK,ok.Ks⟩
section
variable {X:Cx}{ag:List (Addr×Obj)}{σ:St}{H:Hp}{s:Shared}{E:Value->Shared->Prop}
theorem Inv.qm (I:Inv X ag σ H s)(E:Value->Shared->Prop):Inv (X.qm E) ag σ H s:=⟨I.ok.qm E,I.os,I.bare,I.base,I.loc,I.cell,I.free,I.lZ,I.pin,I.b8,I.len⟩
theorem Inv.je (I:Inv (X.qm E) ag σ H s):Inv X ag σ H s:=⟨I.ok.je,I.os,I.bare,I.base,I.loc,I.cell,I.free,I.lZ,I.pin,I.b8,I.len⟩
theorem SP.je {D:Ends}{f:Flow}{s':Shared}(h:SP (X.qm E) ag D f s'):SP X ag D f s':=by
 cases f with
 | next=>obtain⟨σ',H',I,q⟩:=h;exact⟨σ',H',I.je,q⟩
 | brk=>obtain⟨σ',H',I,q⟩:=h;exact⟨σ',H',I.je,q⟩
 | cont=>obtain⟨σ',H',I,q⟩:=h;exact⟨σ',H',I.je,q⟩
 | ret u=>obtain⟨v,σ',H',I,r,q⟩:=h;exact⟨v,σ',H',I.je,r,q⟩
theorem PE.CB {e:Expr}{t:TE}(h:PE X.CB e t):PE X e t:=λag s σ H Q I hw =>
 dH (h ag s σ H Q (I.qm _) hw) (λ_ _ ⟨v,H',I',r,q⟩=>⟨v,H',I'.je,r,q⟩) λ_ _ z=>False.elim z
theorem PT.CB {e:Expr}{t:TT}(h:PT X.CB e t):PT X e t:=λag s σ H Q I hw =>
 dH (h ag s σ H Q (I.qm _) hw) (λ_ _ ⟨H',I',q⟩=>⟨H',I'.je,q⟩) λ_ _ z=>False.elim z
theorem AJ.CB {st:List Stmt}{t:TS}(h:AJ X.CB st t):AJ X st t:=λag s σ H D I hw =>
 dH (h ag s σ H D (I.qm _) hw) (λ_ _ q=>q.je) λ_ _ z=>False.elim z
end
section
variable {X:Cx}{st:Stmt}{rest:List Stmt}{t u:TS}{e:Expr}{te:TE}{pos:Pos}
def OG:TS:=λD σ H=>D.nx σ H
def Lc (t u:TS):TS:=λD σ H=>t { D with nx:=u D } σ H
def aM:AJ X [] OG:=λ_ _ σ H _ I h=>wpAny_execs_nil ⟨σ,H,I,h⟩
def ai (h1:PS X st t)(h2:AJ X rest u):AJ X (st::rest) (Lc t u):=by
 intro ag s σ H D I h;refine wpAny_execs_cons (cJ (h1 ag s σ H { D with nx:=u D } I h) λf s1 q=>?_);cases f with
 | next =>
  obtain⟨σ',H',I',q⟩:=q;exact h2 ag s1 σ' H' D I' q
 | ret v=>exact q
 | brk=>exact q
 | cont=>exact q
def ak (h1:PS X st t):AJ X [st] t:=by
 intro ag s σ H D I h;refine wpAny_execs_cons (cJ (h1 ag s σ H D I h) λf s1 q=>?_);cases f with
 | next=>exact wpAny_execs_nil q
 | ret v=>exact q
 | brk=>exact q
 | cont=>exact q
def Lh:TS:=λD σ H=>D.bk σ H
def E2:PS X (.Break pos) Lh:=λ_ _ σ H _ I h=>wpAny_Break ⟨σ,H,I,h⟩
def Inv.quiet {ag:List (Addr×Obj)}{σ:St}{H:Hp}{s:Shared}(I:Inv X ag σ H s):interactive X.env=false:=by simp [interactive,I.ok.kind]
def OM (te:TE):TS:=λD σ H=>te σ H λ_ H1=>D.nx σ H1
def bX (he:PE X e te)(hs:swapsWith e none pos.line X.env=pure false:=by rfl):PS X (.Expr e pos) (OM te):=by
 intro ag s σ H D I h;refine wpAny_Expr_any (cJ (he ag s σ H _ I h) λv s1 bz=>?_) I.quiet hs;obtain⟨x,H1,I1,r1,q1⟩:=bz;exact⟨σ,H1,I1,q1⟩
def Th (te:TE):TS:=λD σ H=>te σ H D.rt
def aL (he:PE X e te):PS X (.Return (some e) pos) (Th te):=by
 intro ag s σ H D I h;refine wpAny_Return_some (cJ (he ag s σ H _ I h) λv s1 bz=>?_);obtain⟨x,H1,I1,r1,q1⟩:=bz;exact⟨x,σ,H1,I1,r1,q1⟩
def Tp (c:TT)(t u:TS):TS:=λD σ H=>c σ H λb H1=>if b=true then t D σ H1 else u D σ H1
def bw {c:Expr}{a b:List Stmt}{tc:TT}(hc:PT X c tc)(ha:AJ X a t)(hb:AJ X b u):PS X (.If c a b pos) (Tp tc t u):=by
 intro ag s σ H D I h;refine wpAny_If (cJ (hc ag s σ H _ I h) λd s1 bz=>?_);obtain⟨H1,I1,q1⟩:=bz;cases d with
 | true=>exact ha ag s1 σ H1 D I1 q1
 | false=>exact hb ag s1 σ H1 D I1 q1
def Ld:TS:=λ_ _ _=>False
def iM:PS X st Ld:=λ_ _ _ _ _ _ h=>h.elim
end
abbrev TG:=V->St->Hp->(St->Hp->Prop)->Prop
abbrev KZ:=List V->St->Hp->(St->Hp->Prop)->Prop
def PG (X:Cx)(target:Expr)(t:TG):Prop :=
 ∀(ag:List (Addr×Obj))(s:Shared)(σ:St)(H:Hp)(v:V)(u:Value)(Q:St->Hp->Prop),Inv X ag σ H s->RelV v u->t v σ H Q ->
  wpAny (model X.prog X.w) X.A (assign target X.env u) (λ_ s'=>∃σ' H',Inv X ag σ' H' s'/\Q σ' H') X.xe s
def Rh (X:Cx)(ts:List Expr)(t:KZ):Prop :=
 ∀(ag:List (Addr×Obj))(s:Shared)(σ:St)(H:Hp)(vs:List V)(us:List Value)(Q:St->Hp->Prop),Inv X ag σ H s->a_ vs us->t vs σ H Q ->
  wpAny (model X.prog X.w) X.A (assignInOrder ((assignEach ts X.env).map (·.2)) us) (λ_ s'=>∃σ' H',Inv X ag σ' H' s'/\Q σ' H') X.xe s
abbrev SE:=V->V->Hp->VK->Prop
def PIp (X:Cx)(op:Operator)(t:SE):Prop :=
 ∀(ag:List (Addr×Obj))(s:Shared)(σ:St)(H:Hp)(x y:V)(v u:Value)(Q:VK),Inv X ag σ H s->RelV x v->RelV y u->t x y H Q ->
  wpAny (model X.prog X.w) X.A (inplaceOp op v u) (EP X ag σ Q) X.xe s
section
variable {X:Cx}{pos:Pos}
def dQ (i:Nat):TG:=λv σ H Q=>Q (σ.set i (some v)) H
def aq {i:Nat}{x:Str}(hN:X.N.Nodup)(hi:X.N[i]?=some x)(hx:Loc X.env.scope x)(hf:X.fn x=true\/X.env.scope.names.lookup x=some .local:=by first | exact .inl rfl | exact .inr rfl | assumption):PG X (.Name x pos) (dQ i):=by
 intro ag s σ H v u Q I r h;exact wpAny_assign_Name (rE I hN hi hx r (λs' I'=>⟨_,H,I',h⟩) hf)
def C0:KZ:=λvs σ H Q=>vs=[]/\Q σ H
def jB (t:TG)(u:KZ):KZ:=λvs σ H Q=>KY vs λv r=>t v σ H λσ' H'=>u r σ' H' Q
def b9:Rh X [] C0:=by
 intro ag s σ H vs us Q I r h;obtain⟨e,h⟩:=h;subst e;cases r;exact assignInOrder_nil ⟨σ,H,I,h⟩
def aE {e:Expr}{es:List Expr}{t:TG}{u:KZ}(h1:PG X e t)(h2:Rh X es u)
  (hs:(assignEach (e::es) X.env).map (·.2)=assign e X.env::(assignEach es X.env).map (·.2):=by rfl):Rh X (e::es) (jB t u):=by
 intro ag s σ H vs us Q I r h;obtain⟨v,vr,e1,h⟩:=h;subst e1;cases r with
 | cons r rr =>
  rw [hs];refine assignInOrder_cons (cJ (h1 ag s σ H _ _ _ I r h) λ_ s1 bz=>?_);obtain⟨σ1,H1,I1,q1⟩:=bz;exact h2 ag s1 σ1 H1 _ _ Q I1 rr q1
def An (K:a9) (n:Nat)(t:KZ):TG:=λv σ H Q=>Rb v (aQ K H) n λxs=>t xs σ H Q
def gJ {es:List Expr}{k:Nat}{t:KZ}{n:Nat}(hc:X.calm=true)(h:Rh X es t)
  (hn:(assignEach es X.env).length=n:=by rfl)(yx:(assignEach es X.env).findIdx? (·.1)=none:=by rfl):PG X (.Tuple es k pos) (An X.K n t):=by
 intro ag s σ H v u Q I r hw;obtain⟨a,xs,e1,hq,hl,hw⟩:=hw;subst e1;cases r;obtain⟨aU,rv,ht,hz⟩:=I.tuple hq;refine assign_Tuple_tuple (I.ok.hd hc) ht (by simp [hn,<-hl,rv.length]) yx λh' hx=>?_;have I1:Inv X ag σ H { s with heap:=h' }:=I.kept (t':=s.toks) λb o e=>hx b o (bN (ba e)) e;exact h ag _ σ H xs _ Q I1 (by simpa using rv) hw
def OR (te:TE)(g:TG):TS:=λD σ H=>te σ H λx H1=>g x σ H1 D.nx
def aA {i:Nat}{x:Str}{e:Expr}{te:TE}{pos':Pos}(hN:X.N.Nodup)(hi:X.N[i]?=some x)(hx:Loc X.env.scope x)(he:PE X e te)(hs:swapsWith e (some (.Name x pos')) pos.line X.env=pure false:=by rfl)(hf:X.fn x=true\/X.env.scope.names.lookup x=some .local:=by first | exact .inl rfl | exact .inr rfl | assumption) :
  PS X (.Assign [.Name x pos'] e pos) (OR te (dQ i)):=by
 intro ag s σ H D I h;refine wpAny_Assign_Name (cJ (he ag s σ H _ I h) λv s1 bz=>?_) hs;obtain⟨y,H1,I1,r1,q1⟩:=bz;exact rE I1 hN hi hx r1 (λs2 I2=>⟨_,H1,I2,q1⟩) hf
def Tv (i:Nat)(te:TE)(ti:SE):TS:=λD σ H=>∃x,σ[i]?=some (some x)/\te σ H λy H1=>ti x y H1 λz H2=>D.nx (σ.set i (some z)) H2
def LJ {i:Nat}{x:Str}{e:Expr}{te:TE}{op:Operator}{ti:SE}{pos':Pos}(hN:X.N.Nodup)(hi:X.N[i]?=some x)(hx:Loc X.env.scope x)(he:PE X e te)(ho:PIp X op ti)(hf:X.fn x=true\/X.env.scope.names.lookup x=some .local:=by first | exact .inl rfl | exact .inr rfl | assumption) :
  PS X (.AugAssign (.Name x pos') op e pos) (Tv i te ti):=by
 intro ag s σ H D I h;obtain⟨v,e1,h⟩:=h;obtain⟨m,hn,hl⟩:=I.loc;have vis:SD X.env.scope x:=by rcases hx with k | k;exact .inl k;exact .inr (.inl k)
 obtain⟨u,r,l⟩:=hl i x v hi e1 vis;refine wpAny_AugAssign_Name ?_;have go:wpAny (model X.prog X.w) X.A (eval e X.env) (λw s₂=>wpAny (model X.prog X.w) X.A (inplaceOp op u w) (λr s₃=>wpAny (model X.prog X.w) X.A (storeName X.env x r) (λ_=>SP X ag D .next) X.xe s₃) X.xe s₂) X.xe s:=by
  refine cJ (he ag s σ H _ I h) λw s1 bz=>?_;obtain⟨y,H1,I1,r1,q1⟩:=bz;refine cJ (ho ag s1 σ H1 v y u w _ I1 r r1 q1) λz s2 bz=>?_;obtain⟨zv,H2,I2,r2,q2⟩:=bz;exact rE I2 hN hi hx r2 (λs3 I3=>⟨_,H2,I3,q2⟩) hf
 rcases l with ⟨hk,hm⟩ | ⟨hk,c,hc,jz⟩
 .exact u6 I.ok.kind hk hn hm go
 rcases hk with hk | hk
 .exact wpAny_loadName_cell I.ok.kind hk hc jz go
 rcases hx with k | k
 .have:X.env.scope.names.lookup x=some .free:=hk;rw [k] at this;cases this
 have:X.env.scope.names.lookup x=some .free:=hk;rw [k] at this;cases this
def ipI (f:Int->Int->Int):SE:=λx y H Q=>∃i j,x=.int i/\y=.int j/\Q (.int (f i j)) H
def Mn:PIp X .Add (ipI λi j=>i+j):=by
 intro ag s σ H x y v u Q I r1 r2 h;obtain⟨i,j,e1,e2,q⟩:=h;subst e1;subst e2;obtain⟨t,rfl⟩:=r1;obtain⟨t',rfl⟩:=r2;exact iadd_int ⟨.int _,H,I.tok _,⟨_,rfl⟩,q⟩
end
section
variable {X:Cx}{pos:Pos}
def La (c:TT)(tb:TS):TS:=λD σ H=>∃W:Nat->St->Hp->Prop,(∃m,W m σ H)/\∀m σ H,W m σ H ->
 c σ H λb H1=>if b=true then ∃N:St->Hp->Prop,(∀σ' H',N σ' H'->∃m',m' < m/\W m' σ' H')/\tb { D with nx:=N,ct:=N,bk:=D.nx } σ H1 else D.nx σ H1
def iL {c:Expr}{body:List Stmt}{tc:TT}{tb:TS}(hp:PassesOwn (model X.prog X.w) X.A X.env X.xe)(hc:PT X c tc)(hb:AJ X body tb):PS X (.While c body [] pos) (La tc tb):=by
 intro ag s σ H D I h;obtain⟨W,⟨m0,w0⟩,turn⟩:=h;refine wpAny_While (codeAny_whileLoop (λn s'=>∃σ' H',Inv X ag σ' H' s'/\W n σ' H') ?_ m0 ⟨σ,H,I,w0⟩);rintro n s1 ⟨σ1,H1,I1,w1⟩;refine mh hp (cJ (hc ag s1 σ1 H1 _ I1 (turn n σ1 H1 w1)) λb s2 bz=>?_);obtain⟨H2,I2,q2⟩:=bz;cases b with
 | true =>
  obtain⟨N,hN,q2⟩:=q2;rw [ax rfl];refine mh hp (cJ (hb ag s2 σ1 H2 _ I2 q2) λf s3 q3=>?_);cases f with
  | next =>
   obtain⟨σ3,H3,I3,n3⟩:=q3;obtain⟨m',hm,w3⟩:=hN σ3 H3 n3;exact⟨m',hm,σ3,H3,I3,w3⟩
  | cont =>
   obtain⟨σ3,H3,I3,n3⟩:=q3;obtain⟨m',hm,w3⟩:=hN σ3 H3 n3;exact⟨m',hm,σ3,H3,I3,w3⟩
  | brk=>exact q3
  | ret v=>exact q3
 | false =>
  rw [az dP];exact wpAny_execs_nil ⟨σ1,H2,I2,q2⟩
end
structure It where
 go:Nat->Hp->Prop
 m_:Nat->Hp->V->Hp->Prop
 stop:Nat->Hp->Prop
def wH (X:Cx)(ag:List (Addr×Obj))(H:Hp)(b:Addr):Prop :=
 H b=none/\b≠X.env.locals/\b∉X.fs/\(b∈X.ex\/X.s₀.heap.objs.size<=b)/\(∀x c,X.env.cells.lookup x=some c->c≠b)/\∀p∈X.pn++ag,p.1≠b
def Inv.wm {X:Cx}{ag:List (Addr×Obj)}{σ:St}{H H':Hp}{s:Shared}{b:Addr}(I:Inv X ag σ H s)(hb:s.heap.objs.size<=b)(hn:H' b=none):wH X ag H' b:=by
 refine⟨hn,ff (eV I.lt hb),I.Ul hb,.inr (fX I.sz hb),λx c e z=>?_,λp hp z=>?_⟩
 .obtain⟨v,q⟩:=I.cell x c e;exact absurd (eV q.lt (by rw [z];exact hb)) (kJ _)
 exact absurd (eV (ba (I.pin p hp).1) (by rw [z];exact hb)) (kJ _)
structure Turn (P:Program)(w:World)(K:a9)(tg:Expr)(J:It)(fp:List Addr)(it:Addr)(tn:Nat->Heap->Prop):Prop where
 mem:it∈fp
 obj:∀i h,tn i h->∀b∈fp,∃o,h.get? b=some o/\∀v,o.data≠.cell v
 keep:∀i h h',tn i h->(∀b∈fp,∀o,h.get? b=some o->h'.get? b=some o)->tn i h'
 item:∀(X:Cx),X.prog=P->X.w=w->X.K=K->X.calm=true->∀(i:Nat)(ag:List (Addr×Obj))(s:Shared)(σ:St)(H:Hp)(E:Value->Shared->Prop),Inv X ag σ H s->(∀b∈fp,wH X ag H b)->tn i s.heap->J.go i H ->
  wpAny (model P w) X.A (pyNext (.ref it)) (λr s1=>∃u,r=some u /\
   wpAny (model P w) X.A (letOwnedTupleGo tg (.ref it) u) (λ_ s2=>∃x H',Inv X ag σ H' s2/\RelV x u/\J.m_ i H x H'/\tn (i+1) s2.heap/\∀b∈fp,H' b=none) E s1) E s
 done:∀(X:Cx),X.prog=P->X.w=w->X.K=K->X.calm=true->∀(i:Nat)(ag:List (Addr×Obj))(s:Shared)(σ:St)(H:Hp)(E:Value->Shared->Prop),Inv X ag σ H s->(∀b∈fp,wH X ag H b)->tn i s.heap->J.stop i H ->
  wpAny (model P w) X.A (pyNext (.ref it)) (λr s1=>r=none/\Inv X ag σ H s1) E s
 self:∀(A:Around) (i:Nat)(s:Shared)(Q:Value->Shared->Prop)(E:Value->Shared->Prop),tn i s.heap->Q (.ref it) s->wpAny (model P w) A (pyIter (.ref it)) Q E s
abbrev TI:=St->Hp->(It->Hp->Prop)->Prop
def PIE (X:Cx)(ag:List (Addr×Obj))(σ:St)(tg:Expr)(R:It->Hp->Prop)(RQ:Value)(s2:Shared):Prop :=
 ∃(it:Addr)(fp:List Addr)(tn:Nat->Heap->Prop)(J:It)(H':Hp),RQ=.ref it/\Inv X ag σ H' s2/\Turn X.prog X.w X.K tg J fp it tn/\tn 0 s2.heap/\(∀b∈fp,wH X ag H' b)/\R J H'
def PI (X:Cx)(tg iter:Expr)(wi:TI):Prop :=
 ∀(ag:List (Addr×Obj))(s:Shared)(σ:St)(H:Hp)(R:It->Hp->Prop),Inv X ag σ H s->wi σ H R ->
  wpAny (model X.prog X.w) X.A (eval iter X.env) (λv s1=>wpAny (model X.prog X.w) X.A (pyIter v) (PIE X ag σ tg R) X.xe s1) X.xe s
def BA {M:Model}{A:Around}{E:Value->Shared->Prop}{s:Shared}{tg:Expr}{it:Addr}{u:Value}{o:Obj}{n:String}{vs:Array Value}{Q:Unit->Shared->Prop}(ho:s.heap.get? it=some o)(hc:o.cls=.type n)(hd:o.data=.fields vs)
  (hn:["enumerate","zip","dict_itemiterator","dict_reverseitemiterator","odict_iterator","itertools.zip_longest","itertools.pairwise"].contains n=false)(hQ:Q () s):wpAny M A (letOwnedTupleGo tg (.ref it) u) Q E s:=by
 unfold letOwnedTupleGo;cases tg <;> first
  | exact aR hQ
  | (cases u <;> first
    | exact aR hQ
    | (refine ar (wpAny_load ho ?_)
       rw [hc,hd];show wpAny M A (if (["enumerate","zip","dict_itemiterator","dict_reverseitemiterator","odict_iterator","itertools.zip_longest","itertools.pairwise"].contains n && vs[0]? == some (rawInt _))=true then _ else _) Q E s;rw [az (by intro h;rw [hn,qX] at h;cases h)];exact aR hQ))
def j_ (K:a9)(a:Addr):It :=
 ⟨λi H=>∃xs x,aI K H a xs/\xs[i]?=some x,λi H x H'=>H'=H/\∀xs,aI K H a xs->xs[i]?=some x,λi H=>∃xs,aI K H a xs/\xs.length<=i⟩
def ql (K:a9)(a:Addr):It :=
 ⟨λi H=>∃xs x,aQ K H a xs/\xs[i]?=some x,λi H x H'=>H'=H/\∀xs,aQ K H a xs->xs[i]?=some x,λi H=>∃xs,aQ K H a xs/\xs.length<=i⟩
def Oi (lo:Int) (n:Nat):It:=⟨λi _=>i < n,λi H x H'=>H'=H/\x=.int (lo+i),λi _=>n<=i⟩
def B5 {P:Program}{w:World}{K:a9}{tg:Expr}(a it:Addr):Turn P w K tg (j_ K a) [it] it (λi h=>h.IsListIter it a i) where
 mem:=by simp
 obj:=λi h st b hb=>by
  have e:b=it:=by simpa using hb
  subst e;obtain⟨o,e,c,d⟩:=st;exact⟨o,e,λv z=>by rw [d] at z;cases z⟩
 keep:=λi h h' st k=>st.at λo e=>k it (by simp) o e
 item:=by
  intro X hP hw hK hc i ag s σ H E I hf st hg;subst hP hw hK;obtain⟨xs,x,hq,hx⟩:=hg;obtain⟨aU,rv,p,hz⟩:=I.list hq;obtain⟨u,hu,ru⟩:=rv.get hx;obtain⟨f0,f1,f2,f3,f4,f5⟩:=hf it (by simp);refine wpAny_pyNext_list_item st p.isList (x:=u) (by simpa using hu) λh' wK sb=>?_;have I1:Inv X ag σ H { s with heap:=h' }:=I.turned (t':=s.toks) (λb o hb e=>(sb.2 b hb).trans e) f0 f1 f3 f4 f5;obtain⟨o,e,c,d⟩:=id wK;exact⟨u,rfl,BA (s:={ s with heap:=h' }) e c d nofun ⟨x,H,I1,ru,⟨rfl,λys hy=>by rw [I.sg hy hq];exact hx⟩,wK,λb hb=>(hf b hb).1⟩⟩
 done:=by
  intro X hP hw hK hc i ag s σ H E I hf st hg;subst hP hw hK;obtain⟨xs,hq,hx⟩:=hg;obtain⟨aU,rv,p,hz⟩:=I.list hq;obtain⟨f0,f1,f2,f3,f4,f5⟩:=hf it (by simp);have hl:=rv.length;exact u_ (I.ok.hd hc) st p.isList (by simp;omega) λh' eb=>⟨rfl,I.turned (t':=s.toks) (λb o hb e=>eb b o hb e) f0 f1 f3 f4 f5⟩
 self:=λ_ _ _ _ _ st h=>wpAny_pyIter_listiter st h
def yS {P:Program}{w:World}{K:a9}{tg:Expr}(a it:Addr):Turn P w K tg (ql K a) [it] it (λi h=>h.IsTupleIter it a i) where
 mem:=by simp
 obj:=λi h st b hb=>by
  have e:b=it:=by simpa using hb
  subst e;obtain⟨o,e,c,d⟩:=st;exact⟨o,e,λv z=>by rw [d] at z;cases z⟩
 keep:=λi h h' st k=>st.at λo e=>k it (by simp) o e
 item:=by
  intro X hP hw hK hc i ag s σ H E I hf st hg;subst hP hw hK;obtain⟨xs,x,hq,hx⟩:=hg;obtain⟨aU,rv,p,hz⟩:=I.tuple hq;obtain⟨u,hu,ru⟩:=rv.get hx;obtain⟨f0,f1,f2,f3,f4,f5⟩:=hf it (by simp);refine wpAny_pyNext_tuple_item st (show s.heap.IsTuple a aU.toArray from p) (x:=u) (by simpa using hu) λh' wK sb=>?_;have I1:Inv X ag σ H { s with heap:=h' }:=I.turned (t':=s.toks) (λb o hb e=>(sb.2 b hb).trans e) f0 f1 f3 f4 f5;obtain⟨o,e,c,d⟩:=id wK;exact⟨u,rfl,BA (s:={ s with heap:=h' }) e c d nofun ⟨x,H,I1,ru,⟨rfl,λys hy=>by rw [I.ue hy hq];exact hx⟩,wK,λb hb=>(hf b hb).1⟩⟩
 done:=by
  intro X hP hw hK hc i ag s σ H E I hf st hg;subst hP hw hK;obtain⟨xs,hq,hx⟩:=hg;obtain⟨aU,rv,p,hz⟩:=I.tuple hq;obtain⟨f0,f1,f2,f3,f4,f5⟩:=hf it (by simp);have hl:=rv.length;exact wpAny_pyNext_tuple_end (I.ok.hd hc) st (show s.heap.IsTuple a aU.toArray from p) (by simp;omega) λh' eb=>⟨rfl,I.turned (t':=s.toks) (λb o hb e=>eb b o hb e) f0 f1 f3 f4 f5⟩
 self:=λ_ _ _ _ _ st h=>wpAny_pyIter_tupleiter st h
def yT {P:Program}{w:World}{K:a9}{tg:Expr}(it:Addr) (lo:Int) (n:Nat):Turn P w K tg (Oi lo n) [it] it (λi h=>IsRangeIter h it (lo+(i:Nat) * 1) ((n:Int) - (i:Nat)) 1) where
 mem:=by simp
 obj:=λi h st b hb=>by
  have e:b=it:=by simpa using hb
  subst e;exact⟨_,st,λv z=>by
   have z':Data.fields _=Data.cell v:=z;cases z'⟩
 keep:=λi h h' st k=>k it (by simp) _ st
 item:=by
  intro X hP hw hK hc i ag s σ H E I hf st hg;subst hP hw hK;obtain⟨f0,f1,f2,f3,f4,f5⟩:=hf it (by simp);have W:=Walks.range (prog:=X.prog) (w:=X.w) (I.ok.hd hc) it lo 1 n;refine W.item i s _ _ hg st λv h' tk hv wK kk=>?_;obtain⟨t,rfl⟩:=hv;have I1:Inv X ag σ H { s with heap:=h',toks:=tk }:=I.turned (λb o hb e=>kk b o (by simpa using hb) e) f0 f1 f3 f4 f5;refine⟨_,rfl,BA (s:={ s with heap:=h',toks:=tk }) (n := "range_iterator") wK rfl rfl nofun ⟨.int (lo+i),H,I1,⟨t,?_⟩,⟨rfl,rfl⟩,wK,λb hb=>(hf b hb).1⟩⟩;rw [Int.mul_one]
 done:=by
  intro X hP hw hK hc i ag s σ H E I hf st hg;subst hP hw hK;obtain⟨f0,f1,f2,f3,f4,f5⟩:=hf it (by simp);exact wpAny_pyNext_range_end (I.ok.hd hc) st (by have:n<=i:=hg;omega) λh' eb=>⟨rfl,I.turned (t':=s.toks) (λb o hb e=>eb b o hb e) f0 f1 f3 f4 f5⟩
 self:=λ_ _ _ _ _ st h=>wpAny_pyIter_rangeiter st h
section
variable {X:Cx}{tg:Expr}
def PX (K:a9)(tl:TE):TI:=λσ H R=>tl σ H λx H1=>Xa x (λa=>∃xs,aI K H1 a xs) λa=>R (j_ K a) H1
def UU (K:a9)(tl:TE):TI:=λσ H R=>tl σ H λx H1=>Xa x (λa=>∃xs,aQ K H1 a xs) λa=>R (ql K a) H1
def aZ {l:Expr}{tl:TE}(hl:PE X l tl):PI X tg l (PX X.K tl):=by
 intro ag s σ H R I h;refine cJ (hl ag s σ H _ I h) λv s1 bz=>?_;obtain⟨x,H1,I1,r1,q1⟩:=bz;obtain⟨a,e,⟨xs,hq⟩,q⟩:=q1;subst e;cases r1;obtain⟨aU,rv,p,hz⟩:=I1.list hq;refine oR p.isList ?_;refine⟨s1.heap.objs.size,[s1.heap.objs.size],_,_,H1,rfl,I1.kept (t':=s1.toks) λb o e=>bJ _ e,B5 a _,⟨_,cW _ rfl,rfl,rfl⟩,λb hb=>?_,q⟩;have e:b=s1.heap.objs.size:=by simpa using hb
 subst e;exact I1.wm (aH _) (I1.b8.fresh (aH _))
def gI {l:Expr}{tl:TE}(hl:PE X l tl):PI X tg l (UU X.K tl):=by
 intro ag s σ H R I h;refine cJ (hl ag s σ H _ I h) λv s1 bz=>?_;obtain⟨x,H1,I1,r1,q1⟩:=bz;obtain⟨a,e,⟨xs,hq⟩,q⟩:=q1;subst e;cases r1;obtain⟨aU,rv,p,hz⟩:=I1.tuple hq;refine oW (show s1.heap.IsTuple a aU.toArray from p) ?_;refine⟨s1.heap.objs.size,[s1.heap.objs.size],_,_,H1,rfl,I1.kept (t':=s1.toks) λb o e=>bJ _ e,yS a _,⟨_,cW _ rfl,rfl,rfl⟩,λb hb=>?_,q⟩;have e:b=s1.heap.objs.size:=by simpa using hb
 subst e;exact I1.wm (aH _) (I1.b8.fresh (aH _))
def EX {ag:List (Addr×Obj)}{σ:St}{H:Hp}{s:Shared}{R:It->Hp->Prop}{E:Value->Shared->Prop}{lo hi:Int}{t u v:Tok}{tk:Nat}(I:Inv X ag σ H s)(h1:-(2 ^ 62)<=lo)(h2:lo < 2 ^ 62)(h3:-(2 ^ 62)<=hi)(h4:hi < 2 ^ 62)
  (q:R (Oi lo (hi - lo).toNat) H):wpAny (model X.prog X.w) X.A (pyIter (.ref s.heap.objs.size)) (PIE X ag σ tg R) E { s with heap:=s.heap.push { cls:=.type "range",data:=.fields #[.int lo t,.int hi u,.int 1 v] },toks:=tk }:=by
 refine wpAny_pyIter_range (IsRange.new ..) (small_one h1 h2 h3 h4) ?_;have I1:Inv X ag σ H { s with heap:=s.heap.push { cls:=.type "range",data:=.fields #[.int lo t,.int hi u,.int 1 v] },toks:=tk }:=I.kept λb o e=>bJ _ e;refine⟨(s.heap.push { cls:=.type "range",data:=.fields #[.int lo t,.int hi u,.int 1 v] }).objs.size,[(s.heap.push { cls:=.type "range",data:=.fields #[.int lo t,.int hi u,.int 1 v] }).objs.size],_,_,H,rfl,
  I1.kept (t':=tk) λb o e=>bJ _ e,yT _ lo (hi - lo).toNat,?_,λb hb=>?_,q⟩
 .have e1:lo+((0:Nat):Int) * 1=lo:=by simp
  have e2:(((hi - lo).toNat:Nat):Int) - ((0:Nat):Int)=Builtin.Range.rangeSize lo hi 1:=by rw [rangeSize_one];split <;> omega
  show IsRangeIter _ _ (lo+((0:Nat):Int) * 1) ((((hi - lo).toNat:Nat):Int) - ((0:Nat):Int)) 1;rw [e1,e2];exact cW _ rfl
 have e:b=(s.heap.push { cls:=.type "range",data:=.fields #[.int lo t,.int hi u,.int 1 v] }).objs.size:=by simpa using hb
 subst e;exact I1.wm (aH _) (I1.b8.fresh (aH _))
def PV (ta:TA):TI:=λσ H R=>ta σ H λvs H1=>∃j:Int,vs=[.int j]/\-(2 ^ 62)<=j/\j < 2 ^ 62/\R (Oi 0 j.toNat) H1
def gZ {a:Expr}{ta:TA}{p pos:Pos}(hg:Gl X "range")(hm:X.mg "range"=none)(ha:PA X [a] ta)(hs:starEach [a] X.env=[(false,eval a X.env)]:=by rfl):PI X tg (.Call (.Name "range" p) [a] [] pos) (PV ta):=by
 intro ag s σ H R I h;refine Call_ (iR I hg hm boot_range (ub (cJ (ha pos ag s σ H _ I h) λus s1 bz=>?_) hs rfl));obtain⟨vs,H1,I1,r1,q1⟩:=bz;obtain⟨j,e,q1,q2,q⟩:=q1;subst e;cases r1 with
 | cons r rr =>
  cases rr;obtain⟨t,rfl⟩:=r;exact call_range_1 (EX I1 ∅ ∅ q1 q2 (by simpa using q))
def Tq (wi:TI)(g:TG)(tb:TS):TS:=λD σ H=>wi σ H λJ H1=>∃W:Nat->Nat->St->Hp->Prop,(∃m,W 0 m σ H1)/\∀i m σ H,W i m σ H ->
 (J.stop i H/\D.nx σ H)\/(J.go i H/\∃N:St->Hp->Prop,(∀σ' H',N σ' H'->∃m',m' < m/\W (i+1) m' σ' H')/\∀x H',J.m_ i H x H'->g x σ H' λσ2 H2=>tb { D with nx:=N,ct:=N,bk:=D.nx } σ2 H2)
def pC (fp:List Addr)(h:Heap):List (Addr×Obj):=fp.filterMap λb=>(h.get? b).map λo=>(b,o)
def g6 {fp:List Addr}{h:Heap}{b:Addr}{o:Obj}(hb:b∈fp)(e:h.get? b=some o):(b,o)∈pC fp h:=List.mem_filterMap.mpr ⟨b,hb,by rw [e];rfl⟩
def Cz {fp:List Addr}{h:Heap}{p:Addr×Obj}(hp:p∈pC fp h):p.1∈fp/\h.get? p.1=some p.2:=by
 obtain⟨b,hb,e⟩:=List.mem_filterMap.mp hp;cases q:h.get? b with
 | none=>rw [q] at e;cases e
 | some o =>
  rw [q] at e;have e':(b,o)=p:=gS e;subst e';exact⟨hb,q⟩
def Inv.pinned {ag:List (Addr×Obj)}{σ:St}{H:Hp}{s:Shared}{fp:List Addr}(I:Inv X ag σ H s)(hf:∀b∈fp,wH X ag H b)(ho:∀b∈fp,∃o,s.heap.get? b=some o/\∀v,o.data≠.cell v):Inv X (ag++pC fp s.heap) σ H s :=
 I.Bq λp hp=>(cC.mp hp).elim (λz=>I.pin p (fY _ z)) λz=>by
  obtain⟨hb,e⟩:=Cz z;obtain⟨f0,f1,f2,_⟩:=hf p.1 hb;obtain⟨o,e',d⟩:=ho p.1 hb;rw [e] at e';cases e';exact⟨e,f0,f1,f2,d⟩
def Inv.kN {ag pl:List (Addr×Obj)}{σ:St}{H:Hp}{s:Shared}(I:Inv X (ag++pl) σ H s):Inv X ag σ H s:=I.Bq λp hp=>I.pin p (fY _ (jm _ hp))
def bQ {iter:Expr}{body:List Stmt}{wi:TI}{g:TG}{tb:TS}{pos:Pos}(hp:PassesOwn (model X.prog X.w) X.A X.env X.xe)(hc:X.calm=true)(hi:PI X tg iter wi)(hg:PG X tg g)(hb:AJ X body tb)
  (hs:∀x,foldedSetIterable iter X.env x=pure x:=by intro _;rfl):PS X (.For tg iter body [] pos) (Tq wi g tb):=by
 intro ag s σ H D I h;refine wpAny_For (cJ (hi ag s σ H _ I h) λv s1 h1=>cJ h1 λRQ s2 h2=>?_) hs;obtain⟨it,fp,tn,J,H2,e,I2,T,Hj,f2,W,⟨m0,w0⟩,turn⟩:=h2;subst e;have rF:∀{H':Hp},(∀b∈fp,H' b=none)->∀b∈fp,wH X ag H' b:=λhn b hb=>⟨hn b hb,(f2 b hb).2⟩;refine codeAny_forLoop_any (λn s'=>∃i σ' H',Inv X ag σ' H' s'/\tn i s'.heap/\(∀b∈fp,H' b=none)/\W i n σ' H') ?_ m0 ⟨0,σ,H2,I2,Hj,λb hb=>(f2 b hb).1,w0⟩;rintro n s3 ⟨i,σ3,H3,I3,OV,Zi,w3⟩;rcases turn i n σ3 H3 w3 with ⟨stop,qn⟩ | ⟨go,N,hN,step⟩
 .refine mh hp (cJ (T.done X rfl rfl rfl hc i ag s3 σ3 H3 X.xe I3 (rF Zi) OV stop) λr s4 ⟨hr,I4⟩=>?_);subst hr;exact wpAny_execs_nil ⟨σ3,H3,I4,qn⟩
 refine mh hp (cJ (T.item X rfl rfl rfl hc i ag s3 σ3 H3 X.xe I3 (rF Zi) OV go) λr s4 ⟨u,hr,h4⟩=>?_);subst hr;refine mh hp (cJ h4 λ_ s5 bz=>?_);obtain⟨x,H5,I5,r5,y5,Ca,QE⟩:=bz;have I5':=I5.pinned (rF QE) (T.obj _ _ Ca);refine mh hp (cJ (hg _ s5 σ3 H5 x u _ I5' r5 (step x H5 y5)) λ_ s6 bz=>?_);obtain⟨σ6,H6,I6,q6⟩:=bz;refine mh hp (cJ (hb _ s6 σ6 H6 _ I6 q6) λf s7 q7=>?_);have again:∀{σ7:St}{H7:Hp},Inv X (ag++pC fp s5.heap) σ7 H7 s7->N σ7 H7->∃m,m < n/\∃i σ' H',Inv X ag σ' H' s7/\tn i s7.heap/\(∀b∈fp,H' b=none)/\W i m σ' H':=λ{σ7 H7} I7 n7=>by
  obtain⟨m',hm,w7⟩:=hN σ7 H7 n7;refine⟨m',hm,i+1,σ7,H7,I7.kN,T.keep _ _ _ Ca λb hb o e=>(I7.pin (b,o) (fY _ (fY _ (g6 hb e)))).1,λb hb=>?_,w7⟩;obtain⟨o,e,d⟩:=T.obj _ _ Ca b hb;exact(I7.pin (b,o) (fY _ (fY _ (g6 hb e)))).2.1
 cases f with
 | next=>obtain⟨σ7,H7,I7,n7⟩:=q7;exact again I7 n7
 | cont=>obtain⟨σ7,H7,I7,n7⟩:=q7;exact again I7 n7
 | brk=>obtain⟨σ7,H7,I7,q7⟩:=q7;exact⟨σ7,H7,I7.kN,q7⟩
 | ret v=>obtain⟨x7,σ7,H7,I7,r7,q7⟩:=q7;exact⟨x7,σ7,H7,I7.kN,r7,q7⟩
end
def cD {K:a9}{a:Addr}{xs:List V}{g:TG}{tb:TS}{D:Ends}{σ:St}{H:Hp}(Pv:Nat->St->Hp->Prop)(h0:Pv 0 σ H)(hl:∀i σ H,i<=xs.length->Pv i σ H->aI K H a xs)
  (hs:∀i x σ H,xs[i]?=some x->Pv i σ H->g x σ H λσ2 H2=>tb { D with nx:=Pv (i+1),ct:=Pv (i+1),bk:=D.nx } σ2 H2)(hd:∀σ H,Pv xs.length σ H->D.nx σ H) :
  ∃W:Nat->Nat->St->Hp->Prop,(∃m,W 0 m σ H)/\∀i m σ H,W i m σ H ->
   ((j_ K a).stop i H/\D.nx σ H)\/((j_ K a).go i H/\∃N:St->Hp->Prop,(∀σ' H',N σ' H'->∃m',m' < m/\W (i+1) m' σ' H')/\∀x H',(j_ K a).m_ i H x H'->g x σ H' λσ2 H2=>tb { D with nx:=N,ct:=N,bk:=D.nx } σ2 H2):=by
 refine⟨λi m σ H=>m=xs.length - i/\i<=xs.length/\Pv i σ H,⟨xs.length,by simp,gB _,h0⟩,?_⟩;rintro i m σ H ⟨rfl,hi,p⟩;have q:=hl i σ H hi p;by_cases ki:i < xs.length
 .refine .inr ⟨⟨xs,xs[i],q,by simp [ki]⟩,Pv (i+1),λσ' H' p'=>⟨xs.length - (i+1),∅,rfl,ki,p'⟩,λx H' y=>?_⟩;obtain⟨e,y⟩:=y;subst e;exact hs i x σ _ (y xs q) p
 have e:i=xs.length:=by omega
 subst e;exact .inl ⟨⟨xs,q,aH _⟩,hd σ H p⟩
def qN {K:a9}{a:Addr}{xs:List V}{g:TG}{tb:TS}{D:Ends}{σ:St}{H:Hp}(Pv:Nat->St->Hp->Prop)(h0:Pv 0 σ H)(hl:∀i σ H,i<=xs.length->Pv i σ H->aQ K H a xs)
  (hs:∀i x σ H,xs[i]?=some x->Pv i σ H->g x σ H λσ2 H2=>tb { D with nx:=Pv (i+1),ct:=Pv (i+1),bk:=D.nx } σ2 H2)(hd:∀σ H,Pv xs.length σ H->D.nx σ H) :
  ∃W:Nat->Nat->St->Hp->Prop,(∃m,W 0 m σ H)/\∀i m σ H,W i m σ H ->
   ((ql K a).stop i H/\D.nx σ H)\/((ql K a).go i H/\∃N:St->Hp->Prop,(∀σ' H',N σ' H'->∃m',m' < m/\W (i+1) m' σ' H')/\∀x H',(ql K a).m_ i H x H'->g x σ H' λσ2 H2=>tb { D with nx:=N,ct:=N,bk:=D.nx } σ2 H2):=by
 refine⟨λi m σ H=>m=xs.length - i/\i<=xs.length/\Pv i σ H,⟨xs.length,by simp,gB _,h0⟩,?_⟩;rintro i m σ H ⟨rfl,hi,p⟩;have q:=hl i σ H hi p;by_cases ki:i < xs.length
 .refine .inr ⟨⟨xs,xs[i],q,by simp [ki]⟩,Pv (i+1),λσ' H' p'=>⟨xs.length - (i+1),∅,rfl,ki,p'⟩,λx H' y=>?_⟩;obtain⟨e,y⟩:=y;subst e;exact hs i x σ _ (y xs q) p
 have e:i=xs.length:=by omega
 subst e;exact .inl ⟨⟨xs,q,aH _⟩,hd σ H p⟩
def g8 {lo:Int}{n:Nat}{g:TG}{tb:TS}{D:Ends}{σ:St}{H:Hp}(Pv:Nat->St->Hp->Prop)(h0:Pv 0 σ H)
  (hs:∀i σ H,i < n->Pv i σ H->g (.int (lo+i)) σ H λσ2 H2=>tb { D with nx:=Pv (i+1),ct:=Pv (i+1),bk:=D.nx } σ2 H2)(hd:∀σ H,Pv n σ H->D.nx σ H) :
  ∃W:Nat->Nat->St->Hp->Prop,(∃m,W 0 m σ H)/\∀i m σ H,W i m σ H ->
   ((Oi lo n).stop i H/\D.nx σ H)\/((Oi lo n).go i H/\∃N:St->Hp->Prop,(∀σ' H',N σ' H'->∃m',m' < m/\W (i+1) m' σ' H')/\∀x H',(Oi lo n).m_ i H x H'->g x σ H' λσ2 H2=>tb { D with nx:=N,ct:=N,bk:=D.nx } σ2 H2):=by
 refine⟨λi m σ H=>m=n - i/\i<=n/\Pv i σ H,⟨n,by simp,gB _,h0⟩,?_⟩;rintro i m σ H ⟨rfl,hi,p⟩;by_cases ki:i < n
 .refine .inr ⟨ki,Pv (i+1),λσ' H' p'=>⟨n - (i+1),∅,rfl,ki,p'⟩,λx H' y=>?_⟩;obtain⟨e,y⟩:=y;subst e y;exact hs i σ _ ki p
 have e:i=n:=by omega
 subst e;exact .inl ⟨aH _,hd σ H p⟩
abbrev R2:=V->V->Hp->VK->Prop
def jj (X:Cx)(f:Value->Value->Sem Value)(r:R2):Prop :=
 ∀(ag:List (Addr×Obj))(s:Shared)(σ:St)(H:Hp)(x y:V)(v u:Value)(Q:VK),Inv X ag σ H s->RelV x v->RelV y u->r x y H Q ->
  wpAny (model X.prog X.w) X.A (f v u) (EP X ag σ Q) X.xe s
def Xc (X:Cx)(f:Value->Sem Value)(r:V->Hp->VK->Prop):Prop :=
 ∀(ag:List (Addr×Obj))(s:Shared)(σ:St)(H:Hp)(x:V)(v:Value)(Q:VK),Inv X ag σ H s->RelV x v->r x H Q ->
  wpAny (model X.prog X.w) X.A (f v) (EP X ag σ Q) X.xe s
def il (X:Cx)(f:Value)(r:List V->Hp->VK->Prop):Prop :=
 ∀(ag:List (Addr×Obj))(s:Shared)(σ:St)(H:Hp)(xs:List V)(us:List Value)(Q:VK),Inv X ag σ H s->a_ xs us->r xs H Q ->
  wpAny (model X.prog X.w) X.A (call f us) (EP X ag σ Q) X.xe s
def Xd (X:Cx)(r:V->Hp->(Bool->Hp->Prop)->Prop):Prop :=
 ∀(ag:List (Addr×Obj))(s:Shared)(σ:St)(H:Hp)(x:V)(v:Value)(Q:Bool->Hp->Prop),Inv X ag σ H s->RelV x v->r x H Q ->
  wpAny (model X.prog X.w) X.A (truthy v) (TP X ag σ Q) X.xe s
def Ry (r:R2)(ta tb:TE):TE:=λσ H Q=>ta σ H λx H1=>tb σ H1 λy H2=>r x y H2 Q
def tUn (r:V->Hp->VK->Prop)(ta:TE):TE:=λσ H Q=>ta σ H λx H1=>r x H1 Q
def rI (C:Int->Int->Prop)(g:Int->Int->V):R2:=λx y H Q=>XI2 x y C λi j=>Q (g i j) H
def LH (g:Int->Int->V):R2:=λx y H Q=>XI0 x y λi j=>Q (g i j) H
def rU (g:Int->V):V->Hp->VK->Prop:=λx H Q=>∃i,x=.int i/\Q (g i) H
section
variable {X:Cx}{a b c:Expr}{ta tb tc:TE}{pos:Pos}
def Nn (ha:PE X a ta)(hb:PE X b tb){ag:List (Addr×Obj)}{s:Shared}{σ:St}{H:Hp}{R:V->V->Hp->Prop}(I:Inv X ag σ H s)
  (h:ta σ H λx H1=>tb σ H1 λy H2=>R x y H2){Q:Value->Shared->Prop}{f:Value->Value->Sem Value}
  (hf:∀v u s2 x y H2,Inv X ag σ H2 s2->RelV x v->RelV y u->R x y H2->wpAny (model X.prog X.w) X.A (f v u) Q X.xe s2) :
  wpAny (model X.prog X.w) X.A (eval a X.env) (λv s₁=>wpAny (model X.prog X.w) X.A (eval b X.env) (λu s₂=>wpAny (model X.prog X.w) X.A (f v u) Q X.xe s₂) X.xe s₁) X.xe s:=by
 refine cJ (ha ag s σ H _ I h) λv s1 bz=>?_;obtain⟨x,H1,I1,r1,q1⟩:=bz;refine cJ (hb ag s1 σ H1 _ I1 q1) λu s2 bz=>?_;obtain⟨y,H2,I2,r2,q2⟩:=bz;exact hf v u s2 x y H2 I2 r1 r2 q2
def aX {op:Operator}{r:R2}(ho:jj X (binaryOp op) r)(ha:PE X a ta)(hb:PE X b tb):PE X (.BinOp a op b pos) (Ry r ta tb):=by
 intro ag s σ H Q I h;exact wpAny_BinOp (Nn ha hb I h λv u s2 x y H2 I2 rx ry q=>ho ag s2 σ H2 x y v u Q I2 rx ry q)
def j7 {op:UnaryOp}{r:V->Hp->VK->Prop}(ho:Xc X (unaryOp op) r)(ha:PE X a ta):PE X (.UnaryOp op a pos) (tUn r ta):=by
 intro ag s σ H Q I h;refine UnaryOp_ (cJ (ha ag s σ H _ I h) λv s1 bz=>?_);obtain⟨x,H1,I1,r1,q1⟩:=bz;exact ho ag s1 σ H1 x v Q I1 r1 q1
def T8 {f:Value->Value->Sem Value}{C:Int->Int->Prop}{g:Int->Int->Int}
  (rule:∀(i j:Int)(t u:Tok)(s:Shared)(Q:Value->Shared->Prop)(E:Value->Shared->Prop),C i j->Q (.int (g i j) s.toks) { s with toks:=s.toks+1 }->wpAny (model X.prog X.w) X.A (f (.int i t) (.int j u)) Q E s) :
  jj X f (rI C λi j=>.int (g i j)):=by
 intro ag s σ H x y v u Q I rx ry h;obtain⟨i,j,rfl,rfl,hc,q⟩:=h;obtain⟨t,rfl⟩:=rx;obtain⟨t',rfl⟩:=ry;exact rule i j t t' s _ _ hc ⟨.int (g i j),H,I.tok _,⟨_,rfl⟩,q⟩
def Pf {f:Value->Value->Sem Value}{g:Int->Int->Int}
  (rule:∀(i j:Int)(t u:Tok)(s:Shared)(Q:Value->Shared->Prop)(E:Value->Shared->Prop),Q (.int (g i j) s.toks) { s with toks:=s.toks+1 }->wpAny (model X.prog X.w) X.A (f (.int i t) (.int j u)) Q E s) :
  jj X f (LH λi j=>.int (g i j)):=by
 intro ag s σ H x y v u Q I rx ry h;obtain⟨i,j,rfl,rfl,q⟩:=h;obtain⟨t,rfl⟩:=rx;obtain⟨t',rfl⟩:=ry;exact rule i j t t' s _ _ ⟨.int (g i j),H,I.tok _,⟨_,rfl⟩,q⟩
def LQ {f:Value->Value->Sem Value}{g:Int->Int->Bool}
  (rule:∀(i j:Int)(t u:Tok)(s:Shared)(Q:Value->Shared->Prop)(E:Value->Shared->Prop),Q (.bool (g i j)) s->wpAny (model X.prog X.w) X.A (f (.int i t) (.int j u)) Q E s) :
  jj X f (LH λi j=>.bl (g i j)):=by
 intro ag s σ H x y v u Q I rx ry h;obtain⟨i,j,rfl,rfl,q⟩:=h;obtain⟨t,rfl⟩:=rx;obtain⟨t',rfl⟩:=ry;exact rule i j t t' s _ _ ⟨.bl (g i j),H,I,rfl,q⟩
def Xm (i j:Int):Prop:=0 < j/\j < 1073741824
def NA (i j:Int):Prop:=(-(2 ^ 64) < i/\i < 2 ^ 64)\/(-(2 ^ 64) < j/\j < 2 ^ 64)
def NA.ok {i j:Int}(h:NA i j):IntMulOk i j:=by
 rcases h with ⟨h1,h2⟩ | ⟨h1,h2⟩
 .exact .of_left (intBits_le_64 h1 h2)
 exact .of_right (intBits_le_64 h1 h2)
def gq:jj X (binaryOp .Add) (LH λi j=>.int (i+j)):=Pf λ_ _ _ _ _ _ _ q=>add_int q
def zN:jj X (binaryOp .Sub) (LH λi j=>.int (i - j)):=Pf λ_ _ _ _ _ _ _ q=>sub_int q
def LO:jj X (binaryOp .Mult) (rI NA λi j=>.int (i * j)):=T8 λ_ _ _ _ _ _ _ hc q=>mul_int q hc.ok
def dU:jj X (binaryOp .FloorDiv) (rI Xm λi j=>.int (i / j)):=T8 λi j _ _ _ _ _ hc q=>by
 have h1:(0:Int) < j:=hc.1;have h2:j < 1073741824:=hc.2;exact floordiv_int ∅ (by rw [Int.fdiv_eq_ediv_of_nonneg i ∅];exact q) (.inl (PyProof.noPylong_small ∅))
def c_:jj X (binaryOp .Mod) (rI (λ_ j=>0 < j) λi j=>.int (i % j)):=T8 λi j _ _ _ _ _ hc q=>by
 have h1:(0:Int) < j:=hc;exact mod_int' ∅ (by rw [Int.fmod_eq_emod_of_nonneg i ∅];exact q)
def unI {f:Value->Sem Value}{g:Int->Int}
  (rule:∀(i:Int)(t:Tok)(s:Shared)(Q:Value->Shared->Prop)(E:Value->Shared->Prop),Q (.int (g i) s.toks) { s with toks:=s.toks+1 }->wpAny (model X.prog X.w) X.A (f (.int i t)) Q E s) :
  Xc X f (rU λi=>.int (g i)):=by
 intro ag s σ H x v Q I rx h;obtain⟨i,rfl,q⟩:=h;obtain⟨t,rfl⟩:=rx;exact rule i t s _ _ ⟨.int (g i),H,I.tok _,⟨_,rfl⟩,q⟩
def ip:Xc X (unaryOp .USub) (rU λi=>.int (-i)):=unI λ_ _ _ _ _ q=>neg_int q
end
def OZ:V->V->Bool
 | .d7,.d7=>true | .d7,.int _=>true | .int _,.d7=>true | .d7,.bl _=>true | .bl _,.d7=>true | .d7,.str _=>true | .str _,.d7=>true
 | .int _,.int _=>true | .bl _,.bl _=>true | .str _,.str _=>true | .AF _,.AF _=>true
 | .int _,.str _=>true | .str _,.int _=>true | .bl _,.str _=>true | .str _,.bl _=>true
 | _,_=>false
def rEq:R2:=λx y H Q=>OZ x y=true/\Q (.bl (decide (x=y))) H
def rNe:R2:=λx y H Q=>OZ x y=true/\Q (.bl (!decide (x=y))) H
def BK {i j:Int}:decide (V.int i=V.int j)=(i == j):=by
 rw [mP];simp
def GV {i j:Bool}:decide (V.bl i=V.bl j)=(i == j):=by
 rw [mP];simp
def BJ {i j:Str}:decide (V.str i=V.str j)=(i == j):=by
 rw [mP];simp
def BM {i j:Array UInt8}:decide (V.AF i=V.AF j)=(i.toList == j.toList):=by
 rw [mP];cases i;cases j;simp
section
variable {X:Cx}{a b c:Expr}{ta tb tc:TE}{pos:Pos}
def cy {ag:List (Addr×Obj)}{σ:St}{H:Hp}{s:Shared}{Q:VK}{k k':Bool}(I:Inv X ag σ H s)(q:Q (.bl k) H)(e:k=k'):EP X ag σ Q (.bool k') s:=by
 subst e;exact⟨.bl k,H,I,rfl,q⟩
def ik:jj X (compareOp .Eq) rEq:=by
 intro ag s σ H x y v u Q I rx ry h;obtain⟨hs,q⟩:=h;cases x with
 | d7 =>
  cases rx;cases y with
  | d7=>cases ry;exact PySem.EqNone.eq_none_none (cy I q (by simp))
  | bl j=>cases ry;exact PySem.EqNone.eq_none_bool (cy I q (by simp))
  | int j=>obtain⟨t',rfl⟩:=ry;exact PySem.EqNone.eq_none_int (cy I q (by simp))
  | str j=>obtain⟨t',rfl⟩:=ry;exact PySem.EqNone.eq_none_str (cy I q (by simp))
  | _=>exact absurd (show false=true from hs) dP
 | bl i =>
  cases rx;cases y with
  | d7=>cases ry;exact PySem.EqNone.eq_bool_none (cy I q (by simp))
  | bl j=>cases ry;exact eq_bool (cy I q GV)
  | str j=>obtain⟨t',rfl⟩:=ry;exact PySem.EqMixed.eq_bool_str (cy I q (by simp))
  | _=>exact absurd (show false=true from hs) dP
 | int i =>
  obtain⟨t,rfl⟩:=rx;cases y with
  | d7=>cases ry;exact PySem.EqNone.eq_int_none (cy I q (by simp))
  | int j=>obtain⟨t',rfl⟩:=ry;exact eq_int (cy I q BK)
  | str j=>obtain⟨t',rfl⟩:=ry;exact PySem.EqMixed.eq_int_str (cy I q (by simp))
  | _=>exact absurd (show false=true from hs) dP
 | str i =>
  obtain⟨t,rfl⟩:=rx;cases y with
  | d7=>cases ry;exact PySem.EqNone.eq_str_none (cy I q (by simp))
  | bl j=>cases ry;exact PySem.EqMixed.eq_str_bool (cy I q (by simp))
  | int j=>obtain⟨t',rfl⟩:=ry;exact PySem.EqMixed.eq_str_int (cy I q (by simp))
  | str j=>obtain⟨t',rfl⟩:=ry;exact eq_str (cy I q BJ)
  | _=>exact absurd (show false=true from hs) dP
 | AF i =>
  obtain⟨t,rfl⟩:=rx;cases y with
  | AF j=>obtain⟨t',rfl⟩:=ry;exact PySem.W.eq_bytes (cy I q BM)
  | _=>exact absurd (show false=true from hs) dP
 | _=>cases y <;> exact absurd (show false=true from hs) dP
def uu:jj X (compareOp .NotEq) rNe:=by
 intro ag s σ H x y v u Q I rx ry h;obtain⟨hs,q⟩:=h;cases x with
 | d7 =>
  cases rx;cases y with
  | d7=>cases ry;exact PySem.EqNone.ne_none_none (cy I q (by simp))
  | bl j=>cases ry;exact PySem.EqNone.ne_none_bool (cy I q (by simp))
  | int j=>obtain⟨t',rfl⟩:=ry;exact PySem.EqNone.ne_none_int (cy I q (by simp))
  | str j=>obtain⟨t',rfl⟩:=ry;exact PySem.EqNone.ne_none_str (cy I q (by simp))
  | _=>exact absurd (show false=true from hs) dP
 | bl i =>
  cases rx;cases y with
  | d7=>cases ry;exact PySem.EqNone.ne_bool_none (cy I q (by simp))
  | bl j=>cases ry;exact ne_bool (cy I q (congrArg not GV))
  | str j=>obtain⟨t',rfl⟩:=ry;exact PySem.EqMixed.ne_bool_str (cy I q (by simp))
  | _=>exact absurd (show false=true from hs) dP
 | int i =>
  obtain⟨t,rfl⟩:=rx;cases y with
  | d7=>cases ry;exact PySem.EqNone.ne_int_none (cy I q (by simp))
  | int j=>obtain⟨t',rfl⟩:=ry;exact ne_int (cy I q (congrArg not BK))
  | str j=>obtain⟨t',rfl⟩:=ry;exact PySem.EqMixed.ne_int_str (cy I q (by simp))
  | _=>exact absurd (show false=true from hs) dP
 | str i =>
  obtain⟨t,rfl⟩:=rx;cases y with
  | d7=>cases ry;exact PySem.EqNone.ne_str_none (cy I q (by simp))
  | bl j=>cases ry;exact PySem.EqMixed.ne_str_bool (cy I q (by simp))
  | int j=>obtain⟨t',rfl⟩:=ry;exact PySem.EqMixed.ne_str_int (cy I q (by simp))
  | str j=>obtain⟨t',rfl⟩:=ry;exact ne_str (cy I q (congrArg not BJ))
  | _=>exact absurd (show false=true from hs) dP
 | AF i =>
  obtain⟨t,rfl⟩:=rx;cases y with
  | AF j=>obtain⟨t',rfl⟩:=ry;exact PySem.W.ne_bytes (cy I q (congrArg not BM))
  | _=>exact absurd (show false=true from hs) dP
 | _=>cases y <;> exact absurd (show false=true from hs) dP
def nV:jj X (compareOp .Lt) (LH λi j=>.bl (decide (i < j))):=LQ λ_ _ _ _ _ _ _ q=>lt_int q
def J1:jj X (compareOp .LtE) (LH λi j=>.bl (decide (i<=j))):=LQ λ_ _ _ _ _ _ _ q=>le_int q
def rZ:jj X (compareOp .Gt) (LH λi j=>.bl (decide (j < i))):=LQ λ_ _ _ _ _ _ _ q=>gt_int q
def jj.or {f:Value->Value->Sem Value}{r r':R2}(h:jj X f r)(h':jj X f r'):jj X f (λx y H Q=>r x y H Q\/r' x y H Q):=by
 intro ag s σ H x y v u Q I rx ry q;rcases q with q | q
 .exact h ag s σ H x y v u Q I rx ry q
 exact h' ag s σ H x y v u Q I rx ry q
def bu (b:Expr){op:CmpOp}(h:op≠.In:=by decide)(h2:op≠.NotIn:=by decide):behindInMarks op b=false:=by
 have e1:(op == CmpOp.In)=false:=by cases op <;> first | rfl | exact absurd rfl h
 have e2:(op == CmpOp.NotIn)=false:=by cases op <;> first | rfl | exact absurd rfl h2
 cases b <;> simp [behindInMarks,e1,e2]
def eQ {op:CmpOp}{r:R2}(ho:jj X (compareOp op) r)(ha:PE X a ta)(hb:PE X b tb)(hm:behindInMarks op b=false):PE X (.Compare a [op] [b] pos) (Ry r ta tb):=by
 intro ag s σ H Q I h;exact wpAny_Compare1 (Nn ha hb I h λv u s2 x y H2 I2 rx ry q=>ho ag s2 σ H2 x y v u Q I2 rx ry q) hm
def JI (t:TE):TT:=λσ H Q=>t σ H λx H'=>XB x λk=>Q k H'
def aV {op:CmpOp}{r:R2}(ho:jj X (compareOp op) r)(ha:PE X a ta)(hb:PE X b tb)(hm:behindInMarks op b=false):PT X (.Compare a [op] [b] pos) (JI (Ry r ta tb)):=by
 intro ag s σ H Q I h;refine wpAny_isTrue_Compare1 (cJ (ha ag s σ H _ I h) λv s1 ⟨x,H1,I1,r1,q1⟩=>cJ (hb ag s1 σ H1 _ I1 q1) λu s2 ⟨y,H2,I2,r2,q2⟩ =>
  cJ (ho ag s2 σ H2 x y v u _ I2 r1 r2 q2) λc s3 ⟨z,H3,I3,r3,k,e,q3⟩=>?_) hm
 subst e;cases r3;exact kn ⟨H3,I3,q3⟩
def Ej (r r':R2)(ta tb tc:TE):TE:=λσ H Q=>ta σ H λx H1=>tb σ H1 λy H2=>r x y H2 λz H3=>∃k,z=.bl k /\
 (if k=true then tc σ H3 λw' H4=>r' y w' H4 Q else Q (.bl false) H3)
def Fd {op LR:CmpOp}{r r':R2}(ho:jj X (compareOp op) r)(CT:jj X (compareOp LR) r')(ha:PE X a ta)(hb:PE X b tb)(hc:PE X c tc)
  (hm:lastMarks [op,LR] [b,c]=false:=by with_unfolding_all rfl):PE X (.Compare a [op,LR] [b,c] pos) (Ej r r' ta tb tc):=by
 intro ag s σ H Q I h;refine Compare_chain (cJ (ha ag s σ H _ I h) λv s1 ⟨x,H1,I1,r1,q1⟩=>chain_link (cJ (hb ag s1 σ H1 _ I1 q1) λu s2 ⟨y,H2,I2,r2,q2⟩ =>
  cJ (ho ag s2 σ H2 x y v u _ I2 r1 r2 q2) λd s3 ⟨z,H3,I3,r3,k,e,q3⟩=>?_)) hm
 subst e;cases r3;refine kn ?_;cases k with
 | false=>exact ite_ff ⟨.bl false,H3,I3,rfl,q3⟩
 | true=>exact ite_tt (chain_last (cJ (hc ag s3 σ H3 _ I3 q3) λw' s4 ⟨z',H4,I4,r4,q4⟩=>CT ag s4 σ H4 y z' u w' Q I4 r2 r4 q4))
def EZ {op LR:CmpOp}{r r':R2}(ho:jj X (compareOp op) r)(CT:jj X (compareOp LR) r')(ha:PE X a ta)(hb:PE X b tb)(hc:PE X c tc)
  (hm:lastMarks [op,LR] [b,c]=false:=by with_unfolding_all rfl):PT X (.Compare a [op,LR] [b,c] pos) (JI (Ej r r' ta tb tc)):=by
 intro ag s σ H Q I h;refine isTrue_chain (cJ (ha ag s σ H _ I h) λv s1 ⟨x,H1,I1,r1,q1⟩=>test_link (cJ (hb ag s1 σ H1 _ I1 q1) λu s2 ⟨y,H2,I2,r2,q2⟩ =>
  cJ (ho ag s2 σ H2 x y v u _ I2 r1 r2 q2) λd s3 ⟨z,H3,I3,r3,k,e,q3⟩=>?_)) hm
 subst e;cases r3;refine kn ?_;cases k with
 | false =>
  obtain⟨k',e',q'⟩:=q3;cases e';exact ite_ff ⟨H3,I3,q'⟩
 | true =>
  refine ite_tt (test_last (cJ (hc ag s3 σ H3 _ I3 q3) λw' s4 bz=>?_));obtain⟨z',H4,I4,r4,q4⟩:=bz;refine cJ (CT ag s4 σ H4 y z' u w' _ I4 r2 r4 q4) λd' s5 bz=>?_;obtain⟨z2,H5,I5,r5,k2,e2,q5⟩:=bz;subst e2;cases r5;exact kn ⟨H5,I5,q5⟩
def G_ (K:a9)(x:V)(H:Hp)(k:Bool):Prop :=
 match x with
 | .d7=>k=false
 | .bl b=>k=b
 | .int i=>k=(i != 0)
 | .str y=>y.length<=sizeLine/\k=((y.length:Int) != 0)
 | .AF y=>y.size<=sizeLine/\k=((y.size:Int) != 0)
 | .ref p=>(∃xs,aI K H p xs/\k=!xs.isEmpty)\/(∃xs,aQ K H p xs/\k=!xs.isEmpty)\/∃kvs,H p=some (.dK kvs)/\k=!kvs.isEmpty
 | _=>False
def Ae {κ:Type}{kvs:List (κ×V)}{vs:List (κ×Value)}(r:KV kvs vs):(!vs.isEmpty)=!kvs.isEmpty:=by
 cases r <;> rfl
def su {xs:List V}{aU:List Value}(r:a_ xs aU):(!aU.toArray.isEmpty)=!xs.isEmpty:=by
 cases r <;> simp
def v9:(sizeLine:Nat) < 2 ^ 63:=by rw [sizeLine_eq];decide
def K_:Xd X (λx H Q=>∃k,G_ X.K x H k/\Q k H):=by
 intro ag s σ H x v Q I rx h;obtain⟨k,e,q⟩:=h;have hl:=v9;have hs:sizeLine=16777216:=sizeLine_eq;cases x with
 | d7 =>
  cases rx;have e':k=false:=e;subst e';exact truthy_none ⟨H,I,q⟩
 | bl b =>
  cases rx;have e':k=b:=e;subst e';exact kn ⟨H,I,q⟩
 | int i =>
  obtain⟨t,rfl⟩:=rx;have e':k=(i != 0):=e;subst e';exact PySem.P.truthy_int ⟨H,I,q⟩
 | str y =>
  obtain⟨t,rfl⟩:=rx;obtain⟨hy,e'⟩:y.length<=sizeLine/\k=((y.length:Int) != 0):=e;subst e';exact PySem.P.truthy_str ∅ ⟨H,I.tok _,q⟩
 | AF y =>
  obtain⟨t,rfl⟩:=rx;obtain⟨hy,e'⟩:y.size<=sizeLine/\k=((y.size:Int) != 0):=e;subst e';exact PySem.W.truthy_bytes ∅ ⟨H,I.tok _,q⟩
 | ref p =>
  cases rx;have e':(∃xs,aI X.K H p xs/\k=!xs.isEmpty)\/(∃xs,aQ X.K H p xs/\k=!xs.isEmpty)\/∃kvs,H p=some (.dK kvs)/\k=!kvs.isEmpty:=e;rcases e' with ⟨xs,hx,e'⟩ | ⟨xs,hx,e'⟩ | ⟨kvs,hx,e'⟩
  .subst e';obtain⟨aU,r,pl,hz⟩:=I.list hx;have br:=r.length;exact wpAny_truthy_list pl.isList (by simp only [bR];omega) ⟨H,I.tok _,by rw [su r];exact q⟩
  .subst e';obtain⟨aU,r,pl,hz⟩:=I.tuple hx;have br:=r.length;exact truthy_tuple pl (by simp only [bR];omega) ⟨H,I.tok _,by rw [su r];exact q⟩
  subst e';obtain⟨hz,hS,vs,r,m⟩:kvs.length<=sizeLine/\(p == sysModules)=false/\∃vs,KV kvs vs/\s.heap.DictOf (bj X.prog X.w) p vs:=I.b8 p _ hx;have br:kvs.length=vs.length:=aY r;exact wpAny_truthy_dict hS m ∅ ⟨H,I.tok _,by rw [Ae r];exact q⟩
 | _=>exact(show False from e).elim
def gG (ha:PE X a ta)(he:∀whole,isTrue a X.env whole=(do let v <-whole;standAt a.pos;holding [v] (truthy v))) :
  PT X a (λσ H Q=>ta σ H λx H'=>∃k,G_ X.K x H' k/\Q k H'):=by
 intro ag s σ H Q I h;refine isTrue_plain (cJ (ha ag s σ H _ I h) λv s1 bz=>?_) (he _);obtain⟨x,H1,I1,r1,q1⟩:=bz;exact K_ ag s1 σ H1 x v Q I1 r1 q1
def zQ:jj X (binaryOp .Add) (λx y H Q=>∃i j,x=.str i/\y=.str j/\i.length+j.length<=sizeLine/\Q (.str (i++j)) H):=by
 intro ag s σ H x y v u Q I rx ry h;obtain⟨i,j,rfl,rfl,hz,q⟩:=h;obtain⟨t,rfl⟩:=rx;obtain⟨t',rfl⟩:=ry;exact add_str (λt' tk=>⟨.str (i++j),H,I.tok _,⟨_,rfl⟩,q⟩) hz
def vals1 {x:V}{us:List Value}(r:a_ [x] us):∃u,us=[u]/\RelV x u:=by
 cases r with
 | cons r1 r2=>cases r2;exact⟨_,rfl,r1⟩
def vals2 {x y:V}{us:List Value}(r:a_ [x,y] us):∃u w',us=[u,w']/\RelV x u/\RelV y w':=by
 cases r with
 | cons r1 r2 =>
  cases r2 with
  | cons r3 r4=>cases r4;exact⟨_,_,rfl,r1,r3⟩
def Dr (hc:X.calm=true):il X (.builtin "max") (λxs H Q=>∃i j,xs=[.int i,.int j]/\Q (.int (if j > i then j else i)) H):=by
 intro ag s σ H xs us Q I r h;obtain⟨i,j,rfl,q⟩:=h;obtain⟨u,w',rfl,⟨t,rfl⟩,⟨t',rfl⟩⟩:=vals2 r;refine max_two_ints (I.ok.hd hc) λh' tk k=>⟨_,H,I.kept k,?_,q⟩;by_cases hj:j > i
 .rw [ax hj,ax hj];exact⟨_,rfl⟩
 rw [az hj,az hj];exact⟨_,rfl⟩
end
structure AK (h:Heap)(x dx C:Addr)(mA:Str->Option Value):Prop where
 obj:h.get? x=some (PySem.W.instObj C dx)
 ns:h.Ns1 dx mA
 ne:dx≠x
def CG {h:Heap}{dx:Addr}{mA:Str->Option Value}(n:h.Ns1 dx mA):∃od,h.get? dx=some od/\∀name,PySem.W.lookIn name od=some (mA name):=by
 obtain⟨o,es,ep,ho,hd,hk,_,hm⟩:=n;refine⟨o,ho,λname=>?_⟩;have e:=hm name;unfold nsFind findBy at e;rw [<-Array.find?_toList] at e;unfold PySem.W.lookIn;rw [hd];dsimp only
 split
 .rename_i y q
  rw [q] at e;exact congrArg some e
 rename_i q
 rw [q] at e;have a:es.toList.any (·.refKey)=false:=by
  rw [List.any_eq_false];intro y hy;obtain⟨z,t,Vs⟩:=hk y (Array.mem_toList_iff.mp hy);simp [DictEntry.refKey,Vs]
 have a':¬es.toList.any (·.refKey)=true:=by rw [a];exact dP
 rw [az a'];exact congrArg some e
def AK.look {h:Heap}{x dx C:Addr}{mA:Str->Option Value}(I:AK h x dx C mA):∃od,PySem.W.InstAt h x (PySem.W.instObj C dx) C (some od)/\∀name,PySem.W.lookIn name od=some (mA name) :=
 let ⟨od,ho,hl⟩:=CG I.ns
 ⟨od,⟨I.obj,rfl,rfl,ho⟩,hl⟩
section
variable {prog:Program}{w:World}{A:Around}{E:Value->Shared->Prop}{s:Shared}{K:a9}{x dx C f:Addr}{mA:Str->Option Value}{name:Str}{v:Value}
def get_map {expr:Bool}{Q:Value->Shared->Prop}(X:K.In s.heap)(I:AK s.heap x dx C mA)(hg:PySem.W.plainGet K C name=true)(hh:PySem.W.hasDictIn K C=true)
  (ha:PySem.W.findIn K (.ref C) name=some none)(hv:mA name=some v)(hv':PySem.W.handedIn v=true)(h:Q v { s with toks:=s.toks+1 }) :
  wpAny (model prog w) A (getAttr (.ref x) name expr) Q E s:=by
 obtain⟨od,J,hl⟩:=I.look;exact PySem.W.get_value X J (PySem.W.plainGet_of hg).1 (PySem.W.findObj_own hh ha rfl (by rw [hl,hv])) hv' h
def Gn {pl:Sem Bool}{Q:Value×List Value->Shared->Prop}(X:K.In s.heap)(I:AK s.heap x dx C mA)(hg:PySem.W.plainGet K C name=true)
  (hf:PySem.W.findIn K (.ref C) name=some (some (.ref f)))(ht:PySem.W.isFn K (.ref f)=true)(hv:mA name=none)(h:Q (.ref f,[.ref x]) s) :
  wpAny (model prog w) A (getMethod (.ref x) name pl) Q E s:=by
 obtain⟨od,J,hl⟩:=I.look;exact PySem.W.method_fn X J (PySem.W.plainGet_of hg).1 (PySem.W.plainGet_of hg).2 hf (beq_iff_eq.mp ht) (by show (PySem.W.lookIn name od).map (·.isSome)=some false;rw [hl,hv];rfl) h
def Ie {ns:List Str}{Q:Unit->Shared->Prop}(X:K.In s.heap)(I:AK s.heap x dx C mA)
  (hs:PySem.W.findIn K (.ref C) "__setattr__"=some (some (.builtin "object.__setattr__")))(hp:PySem.W.plainOver K C=true)(ht:PySem.W.takerIn K C name=some none)(hh:PySem.W.hasDictIn K C=true)
  (hw:PySem.Within mA ns)(hsz:ns.length<=sizeLine)
  (h:∀h',AK h' x dx C (λy=>if y=name then some v else mA y)->Heap.SameBut dx s.heap h'->Q () { s with heap:=h',toks:=s.toks+2 }) :
  wpAny (model prog w) A (setAttr (.ref x) name v) Q E s:=by
 obtain⟨od,J,hl⟩:=I.look;refine PySem.W.set_plain X J hs (PySem.W.osa_open (s:={ s with toks:=s.toks+1 }) (r:=none) X J hp ht λb=>?_);obtain⟨cd,hc,CW⟩:=PySem.W.any_some hh;have hx:s.heap.get? x=some ⟨.ref C,some dx,.plain,#[]⟩:=I.obj;refine ar (aR (ar (ar (wpAny_loadPart hx (ar (PySem.W.Looks.here (s:={ s with toks:=s.toks+1 }) (PySem.W.looks_clsIn X hc) ?_))))));rw [CW];refine aR (a:=some dx) (ar (aR (ar ?_)));refine wpAny_nsSet1 (s:={ s with toks:=s.toks+1 }) I.ns λh' Gb YT=>?_;obtain⟨oD,esD,epD,hoD,hdD,hcD⟩:=Gb.count (PySem.Within.cons name v hw);refine ar (wpAny_lookBehind hoD (by rw [hdD];exact pastItsLine_dict (fX hcD (by rw [dN];omega))) ?_);exact aR (h _ ⟨(YT.2 _ (cP I.ne)).trans I.obj,Gb,I.ne⟩ YT)
def FN {R:Result->Shared->Prop}{vs:List Value}{kw:List (Str×Value)}(X:K.In s.heap)(hm:PySem.W.makesIn K C=true)
  (hi:PySem.W.findIn K (.ref C) "__init__"=some (some (.ref f)))(hf:PySem.W.typeIn K (.ref f)=some (.type "function"))
  (h:codeAny (model prog w) (A.under (.builtin "type.__call__" ⟨.ref C::vs,kw⟩)) (.call (.ref f) ⟨.ref (s.heap.objs.size+1)::vs,kw⟩) (PySem.W.InitBack (s.heap.objs.size+1) R)
   { s with heap:=(s.heap.push PySem.W.emptyDict).push (PySem.W.instObj C s.heap.objs.size) }) :
  codeAny (model prog w) A (.call (.ref C) ⟨vs,kw⟩) R s:=by
 obtain⟨hh,g,d,t,os⟩:=s;exact PySem.W.make_core (PySem.W.makes_of X hm) (PySem.W.looks_findIn X hi) (λself=>PySem.W.bind_fn X self hf) (.inl rfl) h
end
def dX (f:Str)(v:V):List (Str×V)->List (Str×V)
 | []=>[(f,v)]
 | (g,x)::r=>if g=f then (g,v)::r else (g,x)::dX f v r
theorem qd (f g:Str)(v:V):∀fs:List (Str×V),(dX f v fs).lookup g=if g=f then some v else fs.lookup g
 | []=>by
  show List.lookup g [(f,v)]=_;by_cases h:g=f
  .have hb:(g == f)=true:=beq_iff_eq.mpr h;simp only [List.lookup,hb,ax h]
  have hb:(g == f)=false:=j4.mpr h;simp only [List.lookup,hb,az h]
 | (k,x)::r=>by
  have ih:=qd f g v r;rw [show dX f v ((k,x)::r)=(if k=f then (k,v)::r else (k,x)::dX f v r) from rfl];by_cases hk:k=f
  .rw [ax hk];by_cases h:g=k
   .have hb:(g == k)=true:=beq_iff_eq.mpr h;simp only [List.lookup,hb,ax (h.trans hk)]
   have hb:(g == k)=false:=j4.mpr h;simp only [List.lookup,hb,az (λe:g=f=>h (e.trans hk.symm))]
  rw [az hk];by_cases h:g=k
  .have hb:(g == k)=true:=beq_iff_eq.mpr h;simp only [List.lookup,hb,az (λe:g=f=>hk (h.symm.trans e))]
  have hb:(g == k)=false:=j4.mpr h;simp only [List.lookup,hb];exact ih
theorem pF (f:Str)(v:V):∀fs:List (Str×V),f∈(dX f v fs).map (·.1)/\∀g,g∈fs.map (·.1)->g∈(dX f v fs).map (·.1)
 | []=>⟨by simp [dX],λg h=>by simp at h⟩
 | (k,x)::r=>by
  obtain⟨i1,i2⟩:=pF f v r;rw [show dX f v ((k,x)::r)=(if k=f then (k,v)::r else (k,x)::dX f v r) from rfl];by_cases hk:k=f
  .rw [ax hk];subst hk;exact⟨by simp,λg h=>by simpa using h⟩
  rw [az hk];refine⟨?_,λg h=>?_⟩
  .rw [cu];exact du _ i1
  rw [cu] at h ⊢;rcases cA.mp h with e | e
  .exact cA.mpr (.inl e)
  exact du _ (i2 g e)
theorem qe (f:Str)(v:V):∀fs:List (Str×V),(dX f v fs).length<=fs.length+1
 | []=>by simp [dX]
 | (k,x)::r=>by
  have ih:=qe f v r;rw [show dX f v ((k,x)::r)=(if k=f then (k,v)::r else (k,x)::dX f v r) from rfl];by_cases hk:k=f
  .rw [ax hk,dN,dN];omega
  rw [az hk,dN,dN];omega
def jS.some_of {v:V}{o:Option Value}(r:jS (some v) o):∃u,o=some u/\RelV v u:=by
 cases o with
 | none=>exact(show False from r).elim
 | some u=>exact⟨u,rfl,r⟩
def jS.none_of {o:Option Value}(r:jS none o):o=none:=by
 cases o with
 | none=>rfl
 | some u=>exact(show False from r).elim
def CZ {v:V}{u:Value}(r:RelV v u):PySem.W.handedIn u=true:=by
 cases v with
 | d7=>cases (show u=Value.none from r);rfl
 | bl b=>cases (show u=Value.bool b from r);rfl
 | int i=>obtain⟨t,e⟩:=(show ∃t,u=Value.int i t from r);cases e;rfl
 | str x=>obtain⟨t,e⟩:=(show ∃t,u=Value.str x t from r);cases e;rfl
 | AF b=>obtain⟨t,e⟩:=(show ∃t,u=Value.bytes b t from r);cases e;rfl
 | MX b=>obtain⟨t,e⟩:=(show ∃t,u=Value.float b t from r);cases e;rfl
 | ref a=>cases (show u=Value.ref a from r);rfl
 | ty n=>cases (show u=Value.type n from r);rfl
section
variable {P:Program}{w:World}{H H':Hp}{h h':Heap}{a C dx:Addr}{fs HH:List (Str×V)}
def wb (b8:l8 P w H h)(e:H a=some (.ins C dx fs)):∃mA,AK h a dx C mA/\(∀f,jS (fs.lookup f) (mA f))/\PySem.Within mA (fs.map (·.1))/\fs.length<=1000/\H dx=some (.own a):=by
 obtain⟨d,z,ne,ob,mA,n,r,q⟩:=(show cH P w H h a (.ins C dx fs) from b8 a _ e);exact⟨mA,⟨ob,n,ne⟩,r,q,z,d⟩
end
structure DF (K:a9)(C:Addr):Prop where
 pg:PySem.W.plainGet K C Str.empty=true
 hd:PySem.W.hasDictIn K C=true
 po:PySem.W.plainOver K C=true
 sa:PySem.W.findIn K (.ref C) "__setattr__"=some (some (.builtin "object.__setattr__"))
def DF.get {K:a9}{C:Addr}(c:DF K C)(f:Str):PySem.W.plainGet K C f=true:=c.pg
def d5 (K:a9)(C:Addr)(f:Str):Prop:=PySem.W.findIn K (.ref C) f=some none
def d5.OA {K:a9}{C:Addr}{f:Str}(n:d5 K C f):PySem.W.takerIn K C f=some none:=by
 unfold PySem.W.takerIn;rw [show PySem.W.findIn K (.ref C) f=some none from n];rfl
structure Con (K:a9)(C:Addr)(f:Str)(v:V)(u:Value):Prop where
 at_:PySem.W.findIn K (.ref C) f=some (some u)
 rel:RelV v u
 get:PySem.W.specialIn K u "__get__"=some none
 cp:PySem.W.copiedNames.contains f=false
structure Meth (K:a9)(C:Addr)(m:Str)(f:Addr):Prop where
 at_:PySem.W.findIn K (.ref C) m=some (some (.ref f))
 fn:PySem.W.isFn K (.ref f)=true
 kp:PySem.W.keepIn K (.ref f)=true
section
variable {X:Cx}{ag:List (Addr×Obj)}{σ:St}{H:Hp}{s:Shared}{a C dx:Addr}{fs:List (Str×V)}{f:Str}{v:V}{A:Around}{E:Value->Shared->Prop}
def Am {b:Bool}{Q:Value->Shared->Prop}(I:Inv X ag σ H s)(e:H a=some (.ins C dx fs))(c:DF X.K C)(n:d5 X.K C f)(l:fs.lookup f=some v)
  (h:∀u s',Inv X ag σ H s'->RelV v u->Q u s'):wpAny (model X.prog X.w) A (getAttr (.ref a) f b) Q E s:=by
 obtain⟨mA,O,r,_,_,_⟩:=wb I.b8 e;obtain⟨u,hu,ru⟩:=jS.some_of (v:=v) (o:=mA f) (by rw [<-l];exact r f);exact get_map I.wa O (c.get f) c.hd n hu (CZ ru) (h u _ (I.tok _) ru)
def sH {m:Str}{g:Addr}{pl:Sem Bool}{Q:Value×List Value->Shared->Prop}(I:Inv X ag σ H s)(e:H a=some (.ins C dx fs))(c:DF X.K C)(k:Meth X.K C m g)(l:fs.lookup m=none)
  (h:Q (.ref g,[.ref a]) s):wpAny (model X.prog X.w) A (getMethod (.ref a) m pl) Q E s:=by
 obtain⟨mA,O,r,_,_,_⟩:=wb I.b8 e;have hn:mA m=none:=jS.none_of (by rw [<-l];exact r m);exact Gn I.wa O (c.get m) k.at_ k.fn hn h
def yY {y:V}{u:Value}{Q:Unit->Shared->Prop}(I:Inv X ag σ H s)(e:H a=some (.ins C dx fs))(c:DF X.K C)(n:d5 X.K C f)(hl:fs.length < 1000)(ry:RelV y u)
  (h:∀s',Inv X ag σ (upd H a (.ins C dx (dX f y fs))) s'->Q () s'):wpAny (model X.prog X.w) A (setAttr (.ref a) f u) Q E s:=by
 obtain⟨mA,O,r,wi,_,ho⟩:=wb I.b8 e;have hz:(fs.map (·.1)).length<=sizeLine:=by rw [au,sizeLine_eq];omega
 refine Ie I.wa O c.sa c.po n.OA c.hd wi hz λh' O' sb=>h _ ?_;have hd:∃o,h'.get? dx=some o:=let ⟨o,_,_,e',_⟩:=O'.ns;⟨o,e'⟩;refine I.write (x:=a) (e:=dx) (by rw [e];exact True.intro) (.inr ho) (λb q hb z=>(sb.2 b hb).trans z) hd ?_;refine⟨by rw [aj O.ne];exact ho,?_,O.ne,O'.obj,_,O'.ns,λg=>?_,λg hg=>?_⟩
 .have:=qe f y fs;omega
 .show jS ((dX f y fs).lookup g) (if g=f then some u else mA g);rw [qd];by_cases q:g=f
  .rw [ax q,ax q];exact ry
  rw [az q,az q];exact r g
 by_cases q:g=f
 .rw [q];exact(pF f y fs).1
 refine(pF f y fs).2 g (wi g λz=>hg ?_);show (if g=f then some u else mA g)=none;rw [az q];exact z
def Inv.made (I:Inv X ag σ H s):Inv X ag σ (upd (upd H s.heap.objs.size (.own (s.heap.objs.size+1))) (s.heap.objs.size+1) (.ins C s.heap.objs.size []))
  { s with heap:=(s.heap.push PySem.W.emptyDict).push (PySem.W.instObj C s.heap.objs.size) }:=by
 have e1:(s.heap.push PySem.W.emptyDict).get? s.heap.objs.size=some PySem.W.emptyDict:=cW s.heap rfl;have e2:((s.heap.push PySem.W.emptyDict).push (PySem.W.instObj C s.heap.objs.size)).get? (s.heap.objs.size+1)=some (PySem.W.instObj C s.heap.objs.size):=by
  have:=cW (s.heap.push PySem.W.emptyDict) (o:=PySem.W.instObj C s.heap.objs.size) rfl;rwa [jk] at this
 have e3:(s.heap.push PySem.W.emptyDict).Ns s.heap.objs.size (λ_=>none):=⟨PySem.W.emptyDict,#[],_,e1,rfl,(λe he=>absurd he (by simp)),λ_=>rfl⟩;have I1:=I.laid (a:=s.heap.objs.size) (o:=.own (s.heap.objs.size+1)) (h':=s.heap.push PySem.W.emptyDict) (t':=s.toks) (λb u q=>bJ _ q) (aH _) ⟨_,e1⟩;refine I1.laid (a:=s.heap.objs.size+1) (o:=.ins C s.heap.objs.size []) (t':=s.toks) (λb u q=>bJ _ q) (Nat.le_of_eq (jk _ _)) ?_;have ne:s.heap.objs.size≠s.heap.objs.size+1:=bN (mT _);refine⟨by rw [aj ne,ae],gB _,ne,e2,λ_=>none,(Heap.Ns1.of_empty e3).at λo q=>bJ _ q,λ_=>True.intro,λy hy=>absurd rfl hy⟩
def Jv {prog:Program}{w:World}{env:Env}{e:Expr}{f:Str}{pos:Pos}{s:Shared}{Q:Value->Shared->Prop}(hb:attributeBase e f env (eval e env)=eval e env)
  (h:wpAny (model prog w) A (eval e env) (λo s₁=>wpAny (model prog w) A (getAttr o f true) Q E s₁) E s):wpAny (model prog w) A (eval (.Attribute e f pos) env) Q E s :=
 Attribute_any_ h (by rw [arm_eval_Attribute,hb])
end
def Tt (K:a9)(ta:TE)(f:Str):TE:=λσ H Q=>ta σ H λx H1=>∃a C dx fs v,x=.ref a/\H1 a=some (.ins C dx fs)/\DF K C/\d5 K C f/\fs.lookup f=some v/\Q v H1
def TH (K:a9)(ta tv:TE)(f:Str):TS:=λD σ H=>tv σ H λy H1=>ta σ H1 λx H2=>∃a C dx fs,x=.ref a/\H2 a=some (.ins C dx fs)/\DF K C/\d5 K C f/\fs.length < 1000 /\
 D.nx σ (upd H2 a (.ins C dx (dX f y fs)))
section
variable {X:Cx}{o e value:Expr}{f:Str}{pos pos' vp:Pos}{ta tv:TE}
def fc (he:PE X e ta)(hb:attributeBase e f X.env (eval e X.env)=eval e X.env):PE X (.Attribute e f pos) (Tt X.K ta f):=by
 intro ag s σ H Q I h;refine Jv hb (cJ (he ag s σ H _ I h) λu s1 bz=>?_);obtain⟨x,H1,I1,rx,a,C,dx,fs,v,ex,ea,c,n,l,q⟩:=bz;subst ex;obtain rfl:u=Value.ref a:=rx;exact Am I1 ea c n l λu' s2 I2 ru=>⟨v,H1,I2,ru,q⟩
def gH (ha:PE X o ta)(hv:PE X value tv)(hs:swapsWith value (some (.Attribute o f pos')) pos.line X.env=pure false):PS X (.Assign [.Attribute o f pos'] value pos) (TH X.K ta tv f):=by
 intro ag s σ H D I h;refine plainObj_wpAny_Assign_Attribute (cJ (hv ag s σ H _ I h) λu s1 bz=>?_) hs;obtain⟨y,H1,I1,ry,q⟩:=bz;refine cJ (ha ag s1 σ H1 _ I1 q) λov s2 bz=>?_;obtain⟨x,H2,I2,rx,a,C,dx,fs,ex,ea,c,n,l,q2⟩:=bz;subst ex;obtain rfl:ov=Value.ref a:=rx;exact yY I2 ea c n l ry λs3 I3=>⟨σ,_,I3,q2⟩
def Ka {pl:Sem Bool}{m:Str}{apos:Pos}{args:List Expr}{ag:List (Addr×Obj)}{s:Shared}{σ:St}{H:Hp}{Q:Value->Shared->Prop}{te:TE}(he:PE X e te)(I:Inv X ag σ H s)
  (h:te σ H λx H1=>∃a C dx fs g,x=.ref a/\H1 a=some (.ins C dx fs)/\DF X.K C/\Meth X.K C m g/\fs.lookup m=none /\
   ∀s1,Inv X ag σ H1 s1->wpAny (model X.prog X.w) X.A (callWith pos (.ref g) [.ref a] (backTo pos (starEach args X.env)) (backToKw pos (keywordEach [] X.env))) Q X.xe s1)
  (ht:eval (.Call (.Attribute e m apos) args [] pos) X.env=(do
   let ov <-eval e X.env
   standAt apos.atName
   let (f,first) <-holding [ov] (getMethod ov m pl)
   callWith pos f first (backTo pos (starEach args X.env)) (backToKw pos (keywordEach [] X.env)))) :
  wpAny (model X.prog X.w) X.A (eval (.Call (.Attribute e m apos) args [] pos) X.env) Q X.xe s:=by
 refine PySem.W.methodCall_KW (pl:=pl) (cJ (he ag s σ H _ I h) λu s1 bz=>?_) ht;obtain⟨x,H1,I1,rx,a,C,dx,fs,g,ex,ea,c,k,l,q⟩:=bz;subst ex;obtain rfl:u=Value.ref a:=rx;exact sH I1 ea c k l (q s1 I1)
end
section
variable {X:Cx}{ag:List (Addr×Obj)}{σ:St}{H:Hp}{s:Shared}{A:Around}{E:Value->Shared->Prop}{Q:Value->Shared->Prop}{c:Value}{b:Bool}
inductive tF (K:a9)(H:Hp):V->Value->Prop where
 | d7:tF K H .d7 (.type "NoneType")
 | bl (x:Bool):tF K H (.bl x) (.type "bool")
 | int (i:Int):tF K H (.int i) (.type "int")
 | str (x:Str):tF K H (.str x) (.type "str")
 | MX (x:UInt64):tF K H (.MX x) (.type "float")
 | lst {a:Addr}{xs:List V}(e:H a=some (.lst xs)):tF K H (.ref a) (.type "list")
 | kj {a:Addr}{o:Obj}{xs:List V}(e:H a=some (.kj o (.lst xs))):tF K H (.ref a) (.type "list")
 | tup {a:Addr}{xs:List V}(e:H a=some (.tup xs)):tF K H (.ref a) (.type "tuple")
 | dK {a:Addr}{kvs:List (aS×V)}(e:H a=some (.dK kvs)):tF K H (.ref a) (.type "dict")
 | dT {a:Addr}{kvs:List (List aS×V)}(e:H a=some (.dT kvs)):tF K H (.ref a) (.type "dict")
 | ins {a C dx:Addr}{fs:List (Str×V)}(e:H a=some (.ins C dx fs))(cl:DF K C)(ha:PySem.W.findIn K (.ref C) "__class__"=some (some (.builtin "object.__class__")))
   (hn:PySem.W.specialIn K (.builtin "object.__class__") "__get__"=some (some (.builtin "getset_descriptor.__get__")))(htk:PySem.W.takesIn K (.builtin "object.__class__")=some true)
   (hm:PySem.W.mroIn K C (.type "object")=some true):tF K H (.ref a) (.ref C)
end
structure fj (k:Nat)(A:Around):Prop where
 hd:A.handled=none
 dp:A.depth+3 * k+5 < recursionLimit
 un:A.units+16 * k+200 < cLine
def fj.mono {j k:Nat}{A:Around}(r:fj k A)(h:j<=k):fj j A:=⟨r.hd,by have:=r.dp;omega,by have:=r.un;omega⟩
theorem fj.deeper {k:Nat}{A:Around}(r:fj (k+1) A)(env:Env):fj k (A.deeper env) :=
 ⟨r.hd,by have:=r.dp;show A.depth+1+3 * k+5 < _;omega,by have:=r.un;show A.units+3+16 * k+200 < _;omega⟩
theorem fj.in1 {k:Nat}{A:Around}(r:fj (k+1) A):fj k A.in1 :=
 ⟨r.hd,by have:=r.dp;show A.depth+3 * k+5 < _;omega,by have:=r.un;show A.units+1+16 * k+200 < _;omega⟩
def z7 {A:Around}{C:Addr}{us:List Value}{kw:List (Str×Value)}:(A.under (.builtin "type.__call__" ⟨.ref C::us,kw⟩)).depth=A.depth+1:=by
 first | rfl | simp [Around.under,Code.weight,Code.isCreation,Code.isGuard,Code.isCaller,Code.frames,Code.isFrame,guardIds]
def z6 {A:Around}{C:Addr}{us:List Value}{kw:List (Str×Value)}:(A.under (.builtin "type.__call__" ⟨.ref C::us,kw⟩)).units=A.units+1:=by
 first | rfl | simp [Around.under,Code.cUnits,Code.frames,Code.isFrame]
def fj.make {k:Nat}{A:Around}(r:fj (k+1) A)(C:Addr)(us:List Value)(kw:List (Str×Value)):fj k (A.under (.builtin "type.__call__" ⟨.ref C::us,kw⟩)) :=
 ⟨r.hd,by have:=r.dp;rw [z7];omega,by have:=r.un;rw [z6];omega⟩
theorem fj.depth {k:Nat}{A:Around}(r:fj k A):A.depth < recursionLimit:=by have:=r.dp;omega
theorem fj.units {k:Nat}{A:Around}(r:fj k A):A.units+64 < cLine:=by have:=r.un;omega
def rC:TA:=λ_ H Q=>Q [] H
def gE (ta:TE)(tr:TA):TA:=λσ H Q=>ta σ H λx H1=>tr σ H1 λxs H2=>Q (x::xs) H2
section
variable {X:Cx}{e:Expr}{es:List Expr}{te:TE}{t:TA}{pos:Pos}
def ah:PA X [] rC:=λ_ _ _ _ H Q I h=>qZ ⟨[],H,I,.nil,h⟩
def ab (ha:PE X e te)(hr:PA X es t)(hs:starEach (e::es) X.env=(false,eval e X.env)::starEach es X.env:=by rfl):PA X (e::es) (gE te t):=by
 intro pos ag s σ H Q I h;rw [hs];show wpAny _ _ (spliced ((false,eval e X.env)::backTo pos (starEach es X.env))) _ _ s;refine mi (cJ (ha ag s σ H _ I h) λu s1 bz=>?_);obtain⟨x,H1,I1,r1,q1⟩:=bz;refine cJ (hr pos ag s1 σ H1 _ I1 q1) λus s2 bz=>?_;obtain⟨xs,H2,I2,r2,q2⟩:=bz;exact⟨x::xs,H2,I2,.cons r1 r2,q2⟩
def tQ (t:TA):TE:=λσ H Q=>t σ H λxs H1=>xs.length<=sizeLine/\∀p,H1 p=none->Q (.ref p) (upd H1 p (.tup xs))
def OK (t:TA):TE:=λσ H Q=>t σ H λxs H1=>xs.length<=sizeLine/\∀p,H1 p=none->Q (.ref p) (upd H1 p (.lst xs))
def bD {x1}(h:PA X es t):PE X (.Tuple es x1 pos) (tQ t):=by
 intro ag s σ H Q I hq;refine wpAny_Tuple_spliced (cJ (h pos ag s σ H _ I hq) λus s1 bz=>?_);obtain⟨xs,H1,I1,r,z,q⟩:=bz;refine⟨by rw [<-r.length];exact z,?_⟩;have hf:H1 s1.heap.objs.size=none:=I1.b8.fresh (aH _);refine⟨.ref s1.heap.objs.size,upd H1 s1.heap.objs.size (.tup xs),I1.laid (t':=s1.toks) (λb u e=>bJ _ e) (aH _) ?_,rfl,q _ hf⟩;exact⟨z,us,r,⟨_,cW _ rfl,rfl,_,rfl⟩⟩
def bc (h:PA X es t):PE X (.List es pos) (OK t):=by
 intro ag s σ H Q I hq;refine wpAny_List_spliced (cJ (h pos ag s σ H _ I hq) λus s1 bz=>?_);obtain⟨xs,H1,I1,r,z,q⟩:=bz;refine⟨by rw [<-r.length];exact z,?_⟩;have hf:H1 s1.heap.objs.size=none:=I1.b8.fresh (aH _);refine⟨.ref s1.heap.objs.size,upd H1 s1.heap.objs.size (.lst xs),I1.laid (t':=s1.toks) (λb u e=>bJ _ e) (aH _) ?_,rfl,q _ hf⟩;exact⟨z,us,0,r,cW _ rfl⟩
end
abbrev Sp:=List V->Hp->VK->XK->Prop
abbrev yH:=List Env->Hp->Shared->XK->Value->Shared->Prop
structure qz (P:Program)(w:World)(K:a9)(mg:Str->Option Value)(base:Heap)(A:Around)(outer:List Env)(s:Shared)(H:Hp):Prop where
 frames:A.frames=some outer
 mod:Mod K mg base
 bs:∀b o,base.get? b=some o->s.heap.get? b=some o/\H b=none
 HQ:base.objs.size<=s.heap.objs.size
 pK:s.heap.FunFrames base outer
 Ks:∀b∈C5 outer,H b=none
 b8:l8 P w H s.heap
 bare:AllBare s.gens
def CE (outer:List Env)(P:Program)(w:World)(H:Hp)(s:Shared)(Q:VK)(u:Value)(s':Shared):Prop :=
 ∃v H',s'.os=s.os/\AllBare s'.gens/\Un (C5 outer) [] H H' s.heap s'.heap/\l8 P w H' s'.heap/\RelV v u/\Q v H'
def CR (CX:yH)(outer:List Env)(P:Program)(w:World)(H:Hp)(s:Shared)(Q:VK)(E:XK)(r:Result)(s':Shared):Prop :=
 match r with
 | .ok (.ret u)=>CE outer P w H s Q u s'
 | .ok _=>False
 | .error e=>CX outer H s E e s'
structure bO (P:Program)(w:World)(K:a9)(mg:Str->Option Value)(base:Heap)(CX:yH) (k:Nat)(f:Addr)(fd:FuncData) (ps:List Str)(sp:Sp):Prop where
 len:∀vs H Q E,sp vs H Q E->vs.length=ps.length
 run:∀(A:Around)(outer:List Env)(s:Shared)(H:Hp)(args:Args)(us:List Value)(vs:List V)(Q:VK)(E:XK),fj k A->qz P w K mg base A outer s H->BindsTo s fd args (ps.zip us)->a_ vs us->sp vs H Q E ->
  codeAny (model P w) A (.call (.ref f) args) (CR CX outer P w H s Q E) s
theorem bO.mono {P:Program}{w:World}{K:a9}{mg:Str->Option Value}{base:Heap}{CX:yH}{j k:Nat}{f:Addr}{fd:FuncData}{ps:List Str}{sp:Sp}(F:bO P w K mg base CX j f fd ps sp)(h:j<=k) :
  bO P w K mg base CX k f fd ps sp:=⟨F.len,λA outer s H args us vs Q E hr=>F.run A outer s H args us vs Q E (hr.mono h)⟩
def bO.imp {P:Program}{w:World}{K:a9}{mg:Str->Option Value}{base:Heap}{CX:yH}{k:Nat}{f:Addr}{fd:FuncData}{ps:List Str}{sp XG:Sp}(F:bO P w K mg base CX k f fd ps sp)
  (h:∀vs H Q E,XG vs H Q E->sp vs H Q E):bO P w K mg base CX k f fd ps XG :=
 ⟨λvs H Q E q=>F.len vs H Q E (h _ _ _ _ q),λA outer s H args us vs Q E hr he hb hv hs=>F.run A outer s H args us vs Q E hr he hb hv (h _ _ _ _ hs)⟩
def qz.make {P:Program}{w:World}{K:a9}{mg:Str->Option Value}{base:Heap}{A:Around}{outer:List Env}{s:Shared}{H:Hp}(e:qz P w K mg base A outer s H)(C:Addr)(us:List Value)(kw:List (Str×Value)) :
  qz P w K mg base (A.under (.builtin "type.__call__" ⟨.ref C::us,kw⟩)) outer s H:=⟨by first | exact e.frames | (simpa [Around.under,Code.envs,Code.isFrame,pushEnvs] using e.frames),e.mod,e.bs,e.HQ,e.pK,e.Ks,e.b8,e.bare⟩
theorem qz.in1 {P:Program}{w:World}{K:a9}{mg:Str->Option Value}{base:Heap}{A:Around}{outer:List Env}{s:Shared}{H:Hp}(e:qz P w K mg base A outer s H) :
  qz P w K mg base A.in1 outer s H:=⟨e.frames,e.mod,e.bs,e.HQ,e.pK,e.Ks,e.b8,e.bare⟩
section
variable {X:Cx}{ag:List (Addr×Obj)}{σ:St}{H:Hp}{s s':Shared}
def Inv.M4 (I:Inv X ag σ H s):qz X.prog X.w X.K X.mg X.base X.A X.stack s H :=
 ⟨I.ok.frames,I.ok.mod,I.bs,fX I.ok.HQ I.sz,I.stack,I.A4,I.b8,I.bare⟩
def Inv.after {Q:VK}{u:Value}(I:Inv X ag σ H s)(h:CE X.stack X.prog X.w H s Q u s'):EP X ag σ Q u s':=by
 obtain⟨v,H',os,bare,un,b8,r,q⟩:=h;obtain⟨hh,g,d,t,os'⟩:=s';obtain rfl:os'=s.os:=os;exact⟨v,H',I.call (h':=hh) (g':=g) (d':=d) (t':=t) (ch:=[]) un b8 bare (λb z=>absurd z (by simp)),r,q⟩
end
def JJ (sp:Sp)(dvs:List V)(E:XK)(t:TA):TE:=λσ H Q=>t σ H λvs H1=>sp (vs++dvs) H1 Q E
def OI (C:Addr)(m:Str)(sp:Sp)(dvs:List V)(E:XK)(ta:TE)(t:TA):TE:=λσ H Q=>ta σ H λx H1=>∃a dx fs,x=.ref a/\H1 a=some (.ins C dx fs)/\fs.lookup m=none /\
 t σ H1 λvs H2=>sp (x::(vs++dvs)) H2 Q E
def OJ (C:Addr)(sp:Sp)(dvs:List V)(E:XK)(t:TA):TE:=λσ H Q=>t σ H λvs H1=>∀x dx,H1 x=none->H1 dx=none->dx≠x ->
 sp (.ref x::(vs++dvs)) (upd (upd H1 dx (.own x)) x (.ins C dx [])) (λv H2=>v=.d7/\Q (.ref x) H2) E
def Binds (K:a9)(fd:FuncData) (ps:List Str)(ds:List Value):Prop :=
 ∀(s:Shared)(us:List Value),K.In s.heap->(us++ds).length=ps.length->BindsTo s fd ⟨us,[]⟩ (ps.zip (us++ds))
def Binds.all {K:a9}{fd:FuncData}{ps:List Str}(h:∀us:List Value,us.length=ps.length->bindArgs fd ⟨us,[]⟩=pure (ps.zip us)):Binds K fd ps []:=λs us _ hl=>by
 rw [iu] at hl ⊢;exact .of_eq (h us hl)
def Passes (CX:yH)(X:Cx)(E:XK):Prop:=∀(ag:List (Addr×Obj))(σ:St)(H:Hp)(s:Shared)(e:Value)(s':Shared),Inv X ag σ H s->CX X.stack H s E e s'->X.xe e s'
section
variable {X:Cx}{CX:yH}{k:Nat}{f C:Addr}{fd:FuncData}{ps:List Str}{sp:Sp}{dvs:List V}{ds:List Value}{E:XK}{x m:Str}{p pos apos:Pos}{e o:Expr}{es:List Expr}{ta:TE}{t:TA}
def ET {ag:List (Addr×Obj)}{σ:St}{H:Hp}{s:Shared}{Q:VK}{us:List Value}{vs:List V}(F:bO X.prog X.w X.K X.mg X.base CX k f fd ps sp)(hr:fj k X.A)(hb:Binds X.K fd ps ds)(hd:a_ dvs ds)(hx:Passes CX X E)
  (I:Inv X ag σ H s)(r:a_ vs us)(h:sp (vs++dvs) H Q E):wpAny (model X.prog X.w) X.A (call (.ref f) us) (EP X ag σ Q) X.xe s:=by
 have r2:a_ (vs++dvs) (us++ds):=r.append hd;have hl:(us++ds).length=ps.length:=by rw [<-r2.length];exact F.len _ _ _ _ h
 refine wpAny_call (oE (F.run X.A X.stack s H ⟨us,[]⟩ (us++ds) (vs++dvs) Q E hr I.M4 (hb s us I.wa hl) r2 h) λr s' hq=>?_);cases r with
 | error e=>exact hx ag σ H s e s' I hq
 | ok fl =>
  cases fl with
  | ret u=>exact I.after hq
  | next=>exact False.elim hq
  | brk=>exact False.elim hq
  | cont=>exact False.elim hq
def IF (F:bO X.prog X.w X.K X.mg X.base CX k f fd ps sp)(hr:fj k X.A)(hg:Gl X x)(hm:X.mg x=some (.ref f))(hk:PySem.W.keepIn X.K (.ref f)=true)(hb:Binds X.K fd ps ds)(hd:a_ dvs ds)(hx:Passes CX X E)
  (ha:PA X (e::es) t)(CV:(x == ("__debug__":Str))=false:=by decide)(he:starEach (e::es) X.env=(false,eval e X.env)::starEach es X.env:=by rfl)(yz:(backTo pos (starEach es X.env)).any (·.1)=false:=by rfl) :
  PE X (.Call (.Name x p) (e::es) [] pos) (JJ sp dvs E t):=by
 intro ag s σ H Q I h;refine mU (v_ I hg hm ?_ CV);refine PySem.W.callWith_K (h₀:=X.base) I.ok.mod.PU hk (cJ (ha pos ag s σ H _ I h) λus s1 bz=>?_) he yz;obtain⟨vs,H1,I1,r,q⟩:=bz;refine⟨I1.wa,?_⟩;exact ET F hr hb hd hx I1 r q
def Bs {pl:Sem Bool}(he:PE X o ta)(c:DF X.K C)(hm:Meth X.K C m f)(F:bO X.prog X.w X.K X.mg X.base CX k f fd ps sp)(hr:fj k X.A)(hb:Binds X.K fd ps ds)(hd:a_ dvs ds)(hx:Passes CX X E)(ha:PA X (e::es) t)
  (yx:starEach (e::es) X.env=(false,eval e X.env)::starEach es X.env:=by rfl)(yz:(backTo pos (starEach es X.env)).any (·.1)=false:=by rfl)
  (ht:eval (.Call (.Attribute o m apos) (e::es) [] pos) X.env=(do
   let ov <-eval o X.env
   standAt apos.atName
   let (f,first) <-holding [ov] (getMethod ov m pl)
   callWith pos f first (backTo pos (starEach (e::es) X.env)) (backToKw pos (keywordEach [] X.env))):=by rfl) :
  PE X (.Call (.Attribute o m apos) (e::es) [] pos) (OI C m sp dvs E ta t):=by
 intro ag s σ H Q I h;refine PySem.W.methodCall_KW (pl:=pl) (cJ (he ag s σ H _ I h) λu s1 bz=>?_) ht;obtain⟨x,H1,I1,rx,a,dx,fs,ex,ea,l,q⟩:=bz;subst ex;obtain rfl:u=Value.ref a:=rx;refine sH I1 ea c hm l ?_;refine PySem.W.callWith_K (first:=[.ref a]) (h₀:=X.base) I.ok.mod.PU hm.kp (cJ (ha pos ag s1 σ H1 _ I1 q) λus s2 bz=>?_) yx yz;obtain⟨vs,H2,I2,r,q2⟩:=bz;refine⟨I2.wa,?_⟩;exact ET (us:=.ref a::us) (vs:=.ref a::vs) F hr hb hd hx I2 (.cons rfl r) q2
structure Mk (K:a9)(C f:Addr):Prop where
 makes:PySem.W.makesIn K C=true
 init:PySem.W.findIn K (.ref C) "__init__"=some (some (.ref f))
 fn:PySem.W.isFn K (.ref f)=true
 kp:PySem.W.keepIn K (.ref C)=true
def ES {ag:List (Addr×Obj)}{σ:St}{H:Hp}{s:Shared}{Q:VK}{us:List Value}{vs:List V}(M:Mk X.K C f)(F:bO X.prog X.w X.K X.mg X.base CX k f fd ps sp)(hr:fj (k+1) X.A)(hb:Binds X.K fd ps ds)(hd:a_ dvs ds)
  (hx:Passes CX X E)(I:Inv X ag σ H s)(r:a_ vs us)
  (h:∀x dx,H x=none->H dx=none->dx≠x->sp (.ref x::(vs++dvs)) (upd (upd H dx (.own x)) x (.ins C dx [])) (λv H2=>v=.d7/\Q (.ref x) H2) E) :
  wpAny (model X.prog X.w) X.A (call (.ref C) us) (EP X ag σ Q) X.xe s:=by
 have hq:=h (s.heap.objs.size+1) s.heap.objs.size (I.b8.fresh (oG _)) (I.b8.fresh (aH _)) (bN (mT _));have I2:=Inv.made (C:=C) I;have r2:a_ (V.ref (s.heap.objs.size+1)::(vs++dvs)) (Value.ref (s.heap.objs.size+1)::(us++ds)):=.cons rfl (r.append hd);have hl:(Value.ref (s.heap.objs.size+1)::us++ds).length=ps.length:=by
  have e:=r2.length;rw [F.len _ _ _ _ hq] at e;exact e.symm
 refine wpAny_call (FN (f:=f) I.wa M.makes M.init (beq_iff_eq.mp M.fn) (oE (F.run _ X.stack _ _ ⟨Value.ref (s.heap.objs.size+1)::us,[]⟩ (Value.ref (s.heap.objs.size+1)::(us++ds)) _ _ E (hr.make C us [])
  (I2.M4.make C us []) (hb _ (Value.ref (s.heap.objs.size+1)::us) I2.wa hl) r2 hq) λr s' Qd=>?_))
 cases r with
 | error e=>exact hx ag σ _ _ e s' I2 Qd
 | ok fl =>
  cases fl with
  | ret u =>
   obtain⟨v,H',I3,rv,ev,q3⟩:=I2.after Qd;subst ev;exact⟨rv,⟨V.ref (s.heap.objs.size+1),H',I3,rfl,q3⟩⟩
  | next=>exact False.elim Qd
  | brk=>exact False.elim Qd
  | cont=>exact False.elim Qd
def vV (M:Mk X.K C f)(F:bO X.prog X.w X.K X.mg X.base CX k f fd ps sp)(hr:fj (k+1) X.A)(hg:Gl X x)(hm:X.mg x=some (.ref C))(hb:Binds X.K fd ps ds)(hd:a_ dvs ds)(hx:Passes CX X E)
  (ha:PA X (e::es) t)(CV:(x == ("__debug__":Str))=false:=by decide)(he:starEach (e::es) X.env=(false,eval e X.env)::starEach es X.env:=by rfl)(yz:(backTo pos (starEach es X.env)).any (·.1)=false:=by rfl) :
  PE X (.Call (.Name x p) (e::es) [] pos) (OJ C sp dvs E t):=by
 intro ag s σ H Q I h;refine mU (v_ I hg hm ?_ CV);refine PySem.W.callWith_K (h₀:=X.base) I.ok.mod.PU M.kp (cJ (ha pos ag s σ H _ I h) λus s1 bz=>?_) he yz;obtain⟨vs,H1,I1,r,q⟩:=bz;refine⟨I1.wa,?_⟩;exact ES M F hr hb hd hx I1 r q
end
section
variable {X:Cx}{CX:yH}{k:Nat}{f C:Addr}{fd:FuncData}{ps ks:List Str}{sp:Sp}{E:XK}{x m:Str}{p pos apos aag:Pos}{e o:Expr}{es:List Expr}{kws:List Keyword}{te ta:TE}{t tk:TA}{nm:Option Str}
structure Xg (K:a9)(fd:FuncData) (ps ks:List Str)(g:List Value->List Value->List Value)(gV:List V->List V->List V):Prop where
 to:∀(s:Shared)(us ws:List Value),K.In s.heap->(g us ws).length=ps.length->BindsTo s fd ⟨us,ks.zip ws⟩ (ps.zip (g us ws))
 rel:∀{vs:List V}{us:List Value}{zs:List V}{ws:List Value},a_ vs us->a_ zs ws->a_ (gV vs zs) (g us ws)
variable {g:List Value->List Value->List Value}{gV:List V->List V->List V}
end
structure aK (N P:List Str)(sc:Scope):Prop where
 kind:sc.kind=.function
 co:sc.isCoroutine=false
 gen:sc.isGenerator=false
 nd:N.Nodup
 pre:N.take P.length=P
 par:∀x∈P,sc.names.lookup x=some .local\/sc.names.lookup x=some .cell
 L_:∀y∈sc.names,y.2≠.free
def ir {N P:List Str}{sc:Scope}(a:sc.kind=.function)(b:sc.isCoroutine=false)(c:sc.isGenerator=false)(d:N.take P.length=P)(e:N.Nodup/\(∀x∈P,sc.names.lookup x=some .local\/sc.names.lookup x=some .cell)/\∀y∈sc.names,y.2≠.free):aK N P sc:=⟨a,b,c,e.1,d,e.2.1,e.2.2⟩
theorem uQ {kindOf:Str->Option NameKind}{x:Str}:∀{binds:List (Str×Value)}{m:Str->Option Value},(∀v,(x,v)∉binds)->bindL kindOf binds m x=m x
 | [],_,_=>rfl
 | (n,v)::r,m,h=>by
  unfold bindL;rw [uQ λw hw=>h w (du _ hw)]
  split
  .have:x≠n:=by rintro rfl;exact h v cV
   simp [this]
  rfl
theorem uS {kindOf:Str->Option NameKind}{x:Str}:∀{binds:List (Str×Value)}{m:Str->Option Value},(∀v,(x,v)∉binds)->bindC kindOf binds m x=m x
 | [],_,_=>rfl
 | (n,v)::r,m,h=>by
  unfold bindC;rw [uS λw hw=>h w (du _ hw)]
  split
  .rfl
  have:x≠n:=by rintro rfl;exact h v cV
  simp [this]
theorem uR {kindOf:Str->Option NameKind}{x:Str}{v:Value}:∀{P:List Str}{vs:List Value}{i:Nat}{m:Str->Option Value},P.Nodup->P[i]?=some x->vs[i]?=some v->kindOf x=some .local ->
  bindL kindOf (P.zip vs) m x=some v
 | [],_,_,_,_,h,_,_=>by simp at h
 | _::_,[],_,_,_,_,h,_=>by simp at h
 | p::P,w::vs,0,m,nd,h1,h2,hk=>by
  simp at h1 h2;subst h1;subst h2;show bindL kindOf ((p,w)::P.zip vs) m p=_;unfold bindL;rw [uQ λv hv=>(mS.mp nd).1 (List.of_mem_zip hv).1,ax hk];simp
 | p::P,w::vs,i+1,m,nd,h1,h2,hk=>by
  show bindL kindOf ((p,w)::P.zip vs) m x=_;unfold bindL;exact uR (i:=i) (mS.mp nd).2 (by simpa using h1) (by simpa using h2) hk
theorem uT {kindOf:Str->Option NameKind}{x:Str}{v:Value}:∀{P:List Str}{vs:List Value}{i:Nat}{m:Str->Option Value},P.Nodup->P[i]?=some x->vs[i]?=some v->kindOf x≠some .local ->
  bindC kindOf (P.zip vs) m x=some v
 | [],_,_,_,_,h,_,_=>by simp at h
 | _::_,[],_,_,_,_,h,_=>by simp at h
 | p::P,w::vs,0,m,nd,h1,h2,hk=>by
  simp at h1 h2;subst h1;subst h2;show bindC kindOf ((p,w)::P.zip vs) m p=_;unfold bindC;rw [uS λv hv=>(mS.mp nd).1 (List.of_mem_zip hv).1,az hk];simp
 | p::P,w::vs,i+1,m,nd,h1,h2,hk=>by
  show bindC kindOf ((p,w)::P.zip vs) m x=_;unfold bindC;exact uT (i:=i) (mS.mp nd).2 (by simpa using h1) (by simpa using h2) hk
def start (N:List Str)(vs:List V):St:=vs.map some++List.replicate (N.length - vs.length) none
def pQ (CX:yH)(P:Program)(w:World)(K:a9)(mg:Str->Option Value)(base:Heap) (N:List Str)(qual:Str)(scope:Scope)(f:Addr)(cd:Value)(A:Around)(outer:List Env)(s:Shared)(H:Hp)(E:XK):Cx where
 prog:=P
 w:=w
 K:=K
 mg:=mg
 base:=base
 A:=A.deeper (envOfC qual scope s.heap.objs.size f cd)
 N:=N
 s₀:=s
 H₀:=H
 env:=envOfC qual scope s.heap.objs.size f cd
 outer:=outer
 stack:=envOfC qual scope s.heap.objs.size f cd::outer
 ex:=[]
 calm:=true
 fn:=λ_=>true
 pn:=[]
 xe:=λe s'=>wpAny (model P w) (A.deeper (envOfC qual scope s.heap.objs.size f cd)) (leaving (envOfC qual scope s.heap.objs.size f cd) e) (λ_ O5=>CX outer H s E e O5) (λe' O5=>CX outer H s E e' O5) s'
def yf {sc:Scope}{n:Nat}{x:Str}(h:sc.names.lookup x=some .cell):∃c,(cellsFrom n sc.names []).lookup x=some c:=by
 have q:=PySem.W.cellsFrom_some sc.names n [] (.inl h);exact mX.mp q
def uz {CX:yH}{P:Program}{w:World}{K:a9}{mg:Str->Option Value}{base:Heap}{N ps:List Str}{qual:Str}{scope:Scope}{f:Addr}{cd:Value}{A:Around}{outer:List Env}{s s1:Shared}{H:Hp}{E:XK}{us:List Value}{vs:List V}
  (S:aK N ps scope)(hd:A.handled=none)(e0:qz P w K mg base A outer s H)(hl:vs.length=ps.length)(r:a_ vs us)
  (x:InCallC s s.heap.objs.size (bindL (envOfC qual scope s.heap.objs.size f cd).kindOf (ps.zip us) λ_=>none) (cellsFrom (s.heap.objs.size+1) scope.names []) (bindC (envOfC qual scope s.heap.objs.size f cd).kindOf (ps.zip us) λ_=>none) s1) :
  Inv (pQ CX P w K mg base N qual scope f cd A outer s H E) [] (start N vs) H s1:=by
 have yz:ps.length<=N.length:=by have:=congrArg List.length S.pre;rw [dO] at this;omega
 obtain⟨h1,tk,rfl,hk⟩:=x.done;have Pm:∀b:Addr,b∉(pQ CX P w K mg base N qual scope f cd A outer s H E).ex:=λb z=>absurd (show b∈([]:List Addr) from z) (by simp);refine⟨⟨e0.mod,S.kind,rfl,rfl,aH _,λy z c h1 h2=>?_,λy hy=>?_,λy c _ h=>?_,λ_=>hd,Around.frames_deeper e0.frames,.inr ⟨rfl,rfl⟩,λb z=>absurd z (Pm b),e0.bs,e0.HQ,λb _ _=>Pm b,λb z=>absurd z (Pm b),e0.pK,e0.Ks⟩,
  rfl,e0.bare,Un.kept hk,⟨_,x.toInCall.ns,λi y v h1 h2 h3=>?_⟩,λy c h=>⟨_,x.cell y c h⟩,e0.b8.fresh (aH _),λy c h=>?_,λp hp=>absurd (show p∈([]:List (Addr×Obj)) from hp) (by simp),e0.b8.kept hk,?_⟩
 .exact name_of_addr x.apart (ro h1) (ro h2)
 .have hy:scope.names.lookup y=some .cell\/scope.names.lookup y=some .free:=hy;rcases hy with hy | hy
  .exact yf hy
  exact absurd rfl (S.L_ _ (ro hy))
 .exact jH (x.above y c (ro h))
 .have hi:i < vs.length:=by
   unfold start at h2;by_cases hi:i < vs.length
   .exact hi
   rw [lR (by simpa using hi)] at h2;rw [List.getElem?_replicate] at h2
   split at h2 <;> cases h2
  have ha:vs[i]?=some v:=by
   unfold start at h2;rw [mY (by simpa using hi),bh] at h2;cases e:vs[i]? with
   | none=>rw [e] at h2;cases h2
   | some a=>rw [e] at h2;cases h2;rfl
  obtain⟨u,hu,rv⟩:=r.get ha;have hp:ps[i]?=some y:=by
   rw [<-S.pre,rB ∅];exact h1
  have RL:ps.Nodup:=by rw [<-S.pre];exact S.nd.sublist (List.take_sublist _ _)
  refine⟨u,rv,?_⟩;rcases S.par y (cg hp) with k | k
  .exact .inl ⟨k,uR RL hp hu k⟩
  obtain⟨c,e⟩:=yf (n:=s.heap.objs.size+1) k;refine .inr ⟨.inl k,c,e,?_⟩;have q:=x.cell y c e;rw [uT RL hp hu (by show scope.names.lookup y≠_;rw [k];decide)] at q;exact q
 .exact e0.b8.fresh (jH (x.above y c (ro h)))
 unfold start;show _=N.length;rw [bM,au,List.length_replicate];omega
def Gs {CX:yH}{P:Program}{w:World}{K:a9}{mg:Str->Option Value}{base:Heap}{k:Nat}{f:Addr}{name qual:Str}{params:Arguments}{body:List Stmt}{scope:Scope}{dV kV doc pm dW ct oc:Value}{an od:Option Addr}
  {xu:Array (Option Value)}{N ps:List Str}{sp:Sp}(lk:K.lookup f=some ⟨oc,od,.func (PySem.W.fnOf name qual params body scope dV kV doc pm an dW ct),xu⟩)(wk:PySem.W.codeIn K dW qual=true)(S:aK N ps scope)
  (len:∀vs H Q E,sp vs H Q E->vs.length=ps.length)
  (jA:∀(A:Around)(outer:List Env)(s:Shared)(H:Hp)(vs:List V)(Q:VK)(E:XK),fj k (A.deeper (envOfC qual scope s.heap.objs.size f dW))->sp vs H Q E ->
   ∃t,AJ (pQ CX P w K mg base N qual scope f dW A outer s H E) body t/\t { nx:=λ_ H'=>Q .d7 H',rt:=Q } (start N vs) H) :
  bO P w K mg base CX (k+1) f (PySem.W.fnOf name qual params body scope dV kV doc pm an dW ct) ps sp:=by
 refine⟨len,λA outer s H args us vs Q E hr e0 hb r yy=>?_⟩;have hl:=len _ _ _ _ yy;have KX:K.In s.heap:=e0.mod.PU.keeps λb o e=>(e0.bs b o e).1;have lim:s.heap.NoLimit:=e0.mod.nolimit.keeps λb o e=>(e0.bs b o e).1;have jy:∀y∈ps.zip us,scope.names.lookup y.1=some .local\/(scope.names.lookup y.1=some .cell/\((cellsFrom (s.heap.objs.size+1) scope.names []).lookup y.1).isSome=true):=λ⟨n,v⟩ hy=>by
  rcases S.par n (List.of_mem_zip hy).1 with q | q
  .exact .inl q
  exact .inr ⟨q,PySem.W.cellsFrom_some _ _ _ (.inl q)⟩
 refine codeAny_call_function hr.depth (KX _ _ lk) rfl S.co S.gen rfl (PySem.W.codeRec_of KX wk) (hb _ _ _ _ ?_);refine wpAny_newFunctionEnv_cells S.kind jy λenv he s1 x=>?_;subst he;refine⟨lim.keeps x.toInCall.keep,codeAny_func ?_⟩;obtain⟨t,ht,hq⟩:=jA A outer s H vs Q E (hr.deeper _) yy;have I:Inv (pQ CX P w K mg base N qual scope f dW A outer s H E) [] (start N vs) H s1:=uz S hr.hd e0 hl r x;refine dH (ht [] s1 (start N vs) H _ I hq) (λfl s' hs=>?_) λe s' hs=>hs;have fin:∀{σ':St}{H':Hp}{v:V}{u:Value},Inv (pQ CX P w K mg base N qual scope f dW A outer s H E) [] σ' H' s'->RelV v u->Q v H'->CE outer P w H s Q u s' :=
  λ{σ' H' v u} J rv q=>⟨v,H',J.os,J.bare,J.base,J.b8,rv,q⟩
 cases fl with
 | ret u =>
  obtain⟨v,σ',H',J,rv,q⟩:=hs;exact fin J rv q
 | next =>
  obtain⟨σ',H',J,q⟩:=hs;exact fin (v:=V.d7) (u:=Value.none) J rfl q
 | brk =>
  obtain⟨_,_,_,q⟩:=hs;exact False.elim q
 | cont =>
  obtain⟨_,_,_,q⟩:=hs;exact False.elim q
section
variable {X:Cx}{x:Str}{p pos:Pos}{e:Expr}{es:List Expr}{t:TA}{id T:String}{r:List V->Hp->VK->Prop}
def XC (r:List V->Hp->VK->Prop)(t:TA):TE:=λσ H Q=>t σ H λvs H1=>r vs H1 Q
def aD (hc:il X (.builtin id) r)(hg:Gl X x)(hm:X.mg x=none)(hv:bootBuiltins x=some (.builtin id))(ha:PA X (e::es) t)(hn:x ≠ "__name__" := by decide)(CV:(x == ("__debug__":Str))=false:=by decide)
  (he:starEach (e::es) X.env=(false,eval e X.env)::starEach es X.env:=by rfl)(yz:(backTo pos (starEach es X.env)).any (·.1)=false:=by rfl):PE X (.Call (.Name x p) (e::es) [] pos) (XC r t):=by
 intro ag s σ H Q I h;refine mU (iR I hg hm hv ?_ hn CV);refine PyProof.Rows.callWith_builtin1 (cJ (ha pos ag s σ H _ I h) λus s1 bz=>?_) he yz;obtain⟨vs,H1,I1,r1,q1⟩:=bz;exact hc ag s1 σ H1 vs us Q I1 r1 q1
def bE (hc:il X (.type T) r)(hg:Gl X x)(hm:X.mg x=none)(hv:bootBuiltins x=some (.type T))(ha:PA X (e::es) t)(hn:x ≠ "__name__" := by decide)(CV:(x == ("__debug__":Str))=false:=by decide)
  (he:starEach (e::es) X.env=(false,eval e X.env)::starEach es X.env:=by rfl)(yz:(backTo pos (starEach es X.env)).any (·.1)=false:=by rfl):PE X (.Call (.Name x p) (e::es) [] pos) (XC r t):=by
 intro ag s σ H Q I h;refine mU (iR I hg hm hv ?_ hn CV);refine ub (cJ (ha pos ag s σ H _ I h) λus s1 bz=>?_) he yz;obtain⟨vs,H1,I1,r1,q1⟩:=bz;exact hc ag s1 σ H1 vs us Q I1 r1 q1
end
end L2
namespace HT
open PySem PyProof.Rows
section
open PySem.SeqAt
open PySem.AutoSeq1 (wpAny_loadPart')
open PySem.MeetsSeq PySem.MeetsSeq2 PySem.MeetsSeq3
end
section
variable {prog:Program}{w:World}{A:Around}{E:Value->Shared->Prop}{s:Shared}
def Ju {t b:Addr}{vs ws:List Value}{Q:Value->Shared->Prop}(ht:IsTup s.heap t vs.toArray)(hb:IsTup s.heap b ws.toArray)(hv:vs≠[])
  (h1:ws=[]->Q (.ref t) s)(h2:ws≠[]->Q (.ref s.heap.objs.size) { s with heap:=s.heap.push { cls:=.type "tuple",data:=.seq (vs++ws).toArray } })
  (hsz:vs.length+ws.length<=sizeLine):wpAny (model prog w) A (binaryOp .Add (.ref t) (.ref b)) Q E s:=by
 obtain⟨⟨cls,dd,data,sl⟩,ho,hc,n,hd⟩:=id ht;obtain⟨⟨WH,Ob,data2,RD⟩,Hr,MA,n2,hd2⟩:=id hb;simp only at hc hd MA hd2;subst hc hd MA hd2;have e:vs.toArray++ws.toArray=(vs++ws).toArray:=by simp
 by_cases hw:ws=[]
 .exact concat_meets ⟨_,ho,rfl⟩ ⟨_,Hr,rfl⟩ noFill_tuple_add seq_tuple_add yJ yK (yM _ _)
   (tuple_addW1 t b vs.toArray ws.toArray n n2 dd Ob sl RD (by simpa using hv) (by simp [hw])) ⟨ho,Hr,h1 hw⟩
 refine concat_meets ⟨_,ho,rfl⟩ ⟨_,Hr,rfl⟩ noFill_tuple_add seq_tuple_add yJ yK (yM _ _)
  (tuple_addW2 t b vs.toArray ws.toArray n n2 dd Ob sl RD (by simpa using hv) (by simpa using hw) (by rw [bR,bR];exact hsz)) ⟨ho,Hr,?_⟩
 rw [e];exact h2 hw
def fR (n d:Nat):Option Int->Nat
 | none=>d
 | some v=>if v < 0 then (v+(n:Int)).toNat else min v.toNat n
def ig (n d:Nat):fR n d none=d:=rfl
def jL (n d k:Nat):fR n d (some (k:Int))=min k n:=by
 show (if (k:Int) < 0 then ((k:Int)+(n:Int)).toNat else min (k:Int).toNat n)=min k n;rw [az ∅,kr]
def Lu (n d:Nat)(hd:d<=n)(o:Option Int):fR n d o<=n:=by
 cases o with
 | none=>exact hd
 | some v =>
  show (if v < 0 then (v+(n:Int)).toNat else min v.toNat n)<=n;by_cases hv:v < 0
  .rw [ax hv];omega
  rw [az hv];exact Nat.min_le_right _ _
def BO (v:Int) (n d:Nat):(if v < 0 then max (v+(n:Int)) 0 else min v (n:Int))=((fR n d (some v):Nat):Int):=by
 show (if v < 0 then max (v+(n:Int)) 0 else min v (n:Int))=(((if v < 0 then (v+(n:Int)).toNat else min v.toNat n):Nat):Int);by_cases hv:v < 0
 .simp only [ax hv];omega
 simp only [az hv];omega
def AG (lo hi:Option Int) (n:Nat):Builtin.Slice.sliceAdjust lo hi 1 (n:Int)=(((fR n 0 lo:Nat):Int),((fR n n hi:Nat):Int)):=by
 have h1:¬((1:Int) < 0):=by omega
 unfold Builtin.Slice.sliceAdjust;simp only [h1,if_false];refine Prod.ext ?_ ?_
 .cases lo with
  | none=>rfl
  | some v=>exact BO v n 0
 cases hi with
 | none=>rfl
 | some v=>exact BO v n n
def zG (i j:Nat):Builtin.Slice.slicePlaces (i:Int) (j:Int) 1=j - i:=by
 unfold Builtin.Slice.slicePlaces;have h1:(1:Int) > 0:=by omega
 simp only [h1,if_true,Int.ediv_one]
 split <;> omega
def rN {v:Value}{o:Option Int}{Q:Option Int->Shared->Prop}(p:IsPart v o)(h:Q o s):wpAny (model prog w) A (Builtin.Slice.slicePartIndex v) Q E s:=by
 cases p with
 | none=>exact slicePart_none h
 | int i t=>exact slicePart_int h
def jr {sl:Addr}{vl vu:Value}{lo hi:Option Int}{n:Nat}{Q:Int×Int×Nat->Shared->Prop}(hs:s.heap.IsSliceOf sl vl vu .none)(pl:IsPart vl lo)(pu:IsPart vu hi)
  (h:Q (((fR n 0 lo:Nat):Int),1,fR n n hi - fR n 0 lo) s):wpAny (model prog w) A (Builtin.Slice.sliceApplied (.ref sl) (pure (n:Int))) Q E s:=by
 obtain⟨os,CS,CY,Hu⟩:=id hs;unfold Builtin.Slice.sliceApplied Builtin.Slice.sliceFields;refine ar (ar (eF CS Hu (x:=vl) rfl (ar (eF CS Hu (x:=vu) rfl (ar (eF CS Hu (x:=.none) rfl (aR ?_)))))));refine ar (slicePart_none ?_);show wpAny _ _ (if ((1:Int) == 0)=true then _ else _) _ _ s;rw [az nofun];refine ar (rN pl (ar (rN pu (ar (aR ?_)))));show wpAny _ _ (match Builtin.Slice.sliceAdjust lo hi 1 (n:Int) with | (lo,hi)=>pure (lo,(1:Int),Builtin.Slice.slicePlaces lo hi 1)) _ _ s
 rw [AG lo hi n];show wpAny _ _ (pure (((fR n 0 lo:Nat):Int),(1:Int),Builtin.Slice.slicePlaces ((fR n 0 lo:Nat):Int) ((fR n n hi:Nat):Int) 1)) _ _ s;rw [zG];exact aR h
def E7 (xs:Array Value) (i k:Nat):((List.range k).filterMap λ(m:Nat)=>xs[((i:Int)+(m:Int) * 1).toNat]?).toArray=((xs.toList.drop i).take k).toArray:=by
 have e:(λ(m:Nat)=>xs[((i:Int)+(m:Int) * 1).toNat]?)=λm=>xs[i+m]?:=by
  funext m
  have:((i:Int)+(m:Int) * 1).toNat=i+m:=by omega
  rw [this]
 rw [e];have:=pick_run xs i k;rw [List.filterMap_map] at this;have e2:((λx=>xs[x]?) ∘ λx=>i+x)=λm=>xs[i+m]?:=rfl;rw [e2] at this;rw [this]
def om {t sl:Addr}{items:Array Value}{vl vu:Value}{lo hi:Option Int}{Q:Value->Shared->Prop}(ht:IsTup s.heap t items)(hs:s.heap.IsSliceOf sl vl vu .none)(pl:IsPart vl lo)(pu:IsPart vu hi)
  (hw:¬(fR items.size 0 lo=0/\fR items.size items.size hi=items.size))
  (h:Q (.ref s.heap.objs.size) { s with heap:=s.heap.push { cls:=.type "tuple",data:=.seq ((items.toList.drop (fR items.size 0 lo)).take (fR items.size items.size hi - fR items.size 0 lo)).toArray } })
  (hsz:items.size<=sizeLine):wpAny (model prog w) A (getItem (.ref t) (.ref sl)) Q E s:=by
 have n6:sizeOk (.seq ((items.toList.drop (fR items.size 0 lo)).take (fR items.size items.size hi - fR items.size 0 lo)).toArray):=by
  show ((items.toList.drop (fR items.size 0 lo)).take (fR items.size items.size hi - fR items.size 0 lo)).toArray.size<=sizeLine;rw [bR,dO,pX,rh];omega
 have hj:fR items.size items.size hi<=items.size:=Lu _ _ (aH _) hi;obtain⟨os,CS,CY,Hu⟩:=id hs;have Qv:s.TypeIs (.ref sl) "slice" := ⟨os,CS,CY⟩;unfold getItem
 try with_reducible refine iH ?_
 first | refine ar (aR ?_) | skip
 refine ar (wpAny_sequenceKey ht.typeIs nofun ?_);refine ar (mW (name:=Str.ofString "__getitem__") ht.typeIs mZ
  (lQ mZ ht.typeIs entry_tuple_getitem ?_ (args_tuple_getitem _ _)))
 show wpAny _ _ (Builtin.Tuple.tupleItemsOf (.ref t) >>= _) _ _ s;refine ar (tupleItemsOf_ ht ?_);refine ar (jV Qv ?_);rw [ax nofun];refine ar (jr hs pl pu ?_);have hno:¬((((fR items.size 0 lo:Nat):Int) == 0 && (1:Int) == 1 && (fR items.size items.size hi - fR items.size 0 lo) == items.size)=true):=by
  intro q;rw [pW,pW] at q;have q1:((fR items.size 0 lo:Nat):Int)=0:=eq_of_beq q.1.1;have q2:fR items.size items.size hi - fR items.size 0 lo=items.size:=eq_of_beq q.2;exact hw ⟨∅,∅⟩
 show wpAny _ _ (if (((fR items.size 0 lo:Nat):Int) == 0 && (1:Int) == 1 && (fR items.size items.size hi - fR items.size 0 lo) == items.size)=true then _ else _) _ _ s;rw [az hno,E7]
 first
  | exact ar (m:=Builtin.Tuple.tupleExact _) (iW (aR ⟨_,rfl,aR h⟩) n6)
  | exact ar (m:=Builtin.Tuple.tupleExact _) (iW (ar (aR (aR ⟨_,rfl,aR h⟩))) n6)
  | exact ar (ar (m:=Builtin.Tuple.tupleExact _) (iW (aR (aR ⟨_,rfl,aR h⟩)) n6))
  | exact ar (ar (m:=Builtin.Tuple.tupleExact _) (iW (aR ⟨_,rfl,aR h⟩) n6))
end
end HT
namespace L2
open PySem PySem.Spec PyProof.Rows
abbrev TO:=St->Hp->(Option Int->Hp->Prop)->Prop
def PO (X:Cx)(e:Option Expr)(t:TO):Prop :=
 ∀(ag:List (Addr×Obj))(s:Shared)(σ:St)(H:Hp)(Q:Option Int->Hp->Prop),Inv X ag σ H s->t σ H Q ->
  wpAny (model X.prog X.w) X.A (evalPart e X.env) (λu s'=>∃o H',Inv X ag σ H' s'/\IsPart u o/\Q o H') X.xe s
def Ib:TO:=λ_ H Q=>Q none H
def OD (t:TE):TO:=λσ H Q=>t σ H λx H1=>XI1 x λi=>Q (some i) H1
def intsAre_of {ns:List Int}:∀{us:List Value},a_ (ns.map V.int) us->IntsAre us ns:=by
 induction ns with
 | nil=>intro us r;rw [jG] at r;cases r;exact .nil
 | cons n ns ih =>
  intro us r;rw [cu] at r;cases r with
  | cons r1 r2 =>
   obtain⟨t,e⟩:=r1;subst e;exact .cons n t (ih r2)
section
variable {X:Cx}{e:Expr}{te:TE}{lo hi:Option Expr}{tl th:TO}{pos p2:Pos}
def gh:PO X none Ib:=by
 intro ag s σ H Q I h;rw [evalPart_none];exact aR ⟨none,H,I,.none,h⟩
def dS (h:PE X e te):PO X (some e) (OD te):=by
 intro ag s σ H Q I hw;rw [evalPart_some];refine cJ (h ag s σ H _ I hw) λu s1 bz=>?_;obtain⟨x,H1,I1,r1,q1⟩:=bz;obtain⟨i,rfl,q⟩:=q1;obtain⟨t,rfl⟩:=r1;exact⟨some i,H1,I1,.int i t,q⟩
def K0 (X:Cx)(r:V->Option Int->Option Int->Hp->VK->Prop):Prop :=
 ∀(ag:List (Addr×Obj))(s:Shared)(σ:St)(H:Hp)(x:V)(v vl vu:Value)(lo hi:Option Int)(sl:Addr)(Q:VK),Inv X ag σ H s->RelV x v->s.heap.IsSliceOf sl vl vu .none->IsPart vl lo->IsPart vu hi->r x lo hi H Q ->
  ∃T id,typeLookup (.type T) "__getitem__"=pure (some (.builtin id))/\s.TypeIs v T/\wpAny (model X.prog X.w) X.A (getItem v (.ref sl)) (EP X ag σ Q) X.xe s
def K0.or {r r':V->Option Int->Option Int->Hp->VK->Prop}(h:K0 X r)(h':K0 X r'):K0 X (λx lo hi H Q=>r x lo hi H Q\/r' x lo hi H Q):=by
 intro ag s σ H x v vl vu lo hi sl Q I rx hs pl pu q;rcases q with q | q
 .exact h ag s σ H x v vl vu lo hi sl Q I rx hs pl pu q
 exact h' ag s σ H x v vl vu lo hi sl Q I rx hs pl pu q
def tSl (r:V->Option Int->Option Int->Hp->VK->Prop)(te:TE)(tl th:TO):TE:=λσ H Q=>te σ H λx H1=>tl σ H1 λl H2=>th σ H2 λu H3=>r x l u H3 Q
def dY {r:V->Option Int->Option Int->Hp->VK->Prop}(hr:K0 X r)(he:PE X e te)(hl:PO X lo tl)(hu:PO X hi th):PE X (.Subscript e (.Slice lo hi none p2) pos) (tSl r te tl th):=by
 intro ag s σ H Q I h;refine Subscript_ (cJ (he ag s σ H _ I h) λv s1 bz=>?_);obtain⟨x,H1,I1,r1,q1⟩:=bz;refine wpAny_Slice (cJ (hl ag s1 σ H1 _ I1 q1) λvl s2 bz=>?_);obtain⟨l,H2,I2,pl,q2⟩:=bz;refine cJ (hu ag s2 σ H2 _ I2 q2) λvu s3 bz=>?_;obtain⟨u,H3,I3,pu,q3⟩:=bz;rw [evalPart_none];refine aR ?_;have I4:Inv X ag σ H3 { s3 with heap:=s3.heap.push { cls:=.type "slice",data:=.fields #[vl,vu,.none] } }:=I3.kept (t':=s3.toks) λb ob q=>bJ _ q;obtain⟨T,id,hT,ht,hg⟩:=hr ag { s3 with heap:=s3.heap.push { cls:=.type "slice",data:=.fields #[vl,vu,.none] } } σ H3 x v vl vu l u s3.heap.objs.size Q I4 r1 (Heap.IsSliceOf.new ..) pl pu q3;show wpAny (model X.prog X.w) X.A (subscriptTail e (.Slice lo hi none p2) v (.ref s3.heap.objs.size)) (EP X ag σ Q) X.xe { s3 with heap:=s3.heap.push { cls:=.type "slice",data:=.fields #[vl,vu,.none] } };exact tail_any (ops:=[.ref s3.heap.objs.size,v]) ht hT hg (by with_unfolding_all rfl)
def gy (xs:List V)(lo hi:Option Int):List V:=(xs.drop (HT.fR xs.length 0 lo)).take (HT.fR xs.length xs.length hi - HT.fR xs.length 0 lo)
def qf (xs:List V)(lo hi:Option Int):(gy xs lo hi).length<=xs.length:=by
 unfold gy;rw [dO,pX];omega
def TU (K:a9):V->Option Int->Option Int->Hp->VK->Prop:=λx lo hi H Q=>∃a xs,x=.ref a/\aQ K H a xs /\
 ¬(HT.fR xs.length 0 lo=0/\HT.fR xs.length xs.length hi=xs.length)/\∀p,H p=none->Q (.ref p) (upd H p (.tup (gy xs lo hi)))
def Lk:K0 X (TU X.K):=by
 intro ag s σ H x v vl vu lo hi sl Q I rx hs pl pu h;obtain⟨a,xs,rfl,hx,hw,q⟩:=h;cases rx;obtain⟨aU,r,ht,hz⟩:=I.tuple hx;have br:aU.toArray.size=xs.length:=by rw [bR];exact r.length.symm
 refine⟨"tuple",_,mZ.lookup,ht.typeIs,?_⟩;refine HT.om ht hs pl pu (by rw [br];exact hw) ?_ (by rw [br];exact hz);rw [br];refine⟨.ref s.heap.objs.size,_,I.laid (t':=s.toks) (o:=.tup (gy xs lo hi)) (λb ob q=>bJ _ q) (aH _) ?_,rfl,q _ (I.b8.fresh (aH _))⟩;exact⟨fX (qf xs lo hi) hz,_,(r.drop (HT.fR xs.length 0 lo)).take (HT.fR xs.length xs.length hi - HT.fR xs.length 0 lo),IsTup.new _ _⟩
def O9 (K:a9):R2:=λx y H Q=>∃a b xs ys,x=.ref a/\y=.ref b/\aQ K H a xs/\aQ K H b ys/\xs≠[]/\xs.length+ys.length<=sizeLine /\
 (ys=[]->Q (.ref a) H)/\(ys≠[]->∀p,H p=none->Q (.ref p) (upd H p (.tup (xs++ys))))
def a_.qG {xs:List V}{us:List Value}(r:a_ xs us):us=[]↔xs=[]:=by
 cases r with
 | nil=>simp
 | cons _ _=>simp
def II:jj X (binaryOp .Add) (O9 X.K):=by
 intro ag s σ H x y v u Q I rx ry h;obtain⟨a,b,xs,ys,rfl,rfl,ha,hb,hx,hz,q1,q2⟩:=h;cases rx;cases ry;obtain⟨aU,r1,p1,_⟩:=I.tuple ha;obtain⟨cI,r2,p2,_⟩:=I.tuple hb;refine HT.Ju p1 p2 (λz=>hx (r1.qG.mp z)) (λz=>⟨.ref a,H,I,rfl,q1 (r2.qG.mp z)⟩) (λz=>?_) (by rw [<-r1.length,<-r2.length];exact hz);refine⟨.ref s.heap.objs.size,_,I.laid (t':=s.toks) (o:=.tup (xs++ys)) (λb ob q=>bJ _ q) (aH _) ?_,rfl,q2 (λw=>z (r2.qG.mpr w)) _ (I.b8.fresh (aH _))⟩;exact⟨by rw [bM];exact hz,_,r1.append r2,IsTup.new _ _⟩
end
def Ki (n:Nat) (i:Int):Option Nat:=if 0<=i then (if i < n then some i.toNat else none) else if -(n:Int)<=i then some (i+n).toNat else none
def j9 {α:Type}(xs:List α) (i:Int):Option α:=(Ki xs.length i).bind λj=>xs[j]?
def I_ {n:Nat}{i:Int}{j:Nat}(h:Ki n i=some j):seqIndex? i n=some j/\j < n/\-(n:Int)<=i/\i < n:=by
 unfold Ki at h;by_cases h0:0<=i
 .rw [ax h0] at h;by_cases h1:i < n
  .rw [ax h1] at h;have e:i.toNat=j:=gS h;exact⟨by rw [seqIndex_of h0 h1,e],∅,∅,h1⟩
  rw [az h1] at h;cases h
 rw [az h0] at h;by_cases h1:-(n:Int)<=i
 .rw [ax h1] at h;have e:(i+n).toNat=j:=gS h;exact⟨by rw [seqIndex_neg ∅ h1,e],∅,h1,∅⟩
 rw [az h1] at h;cases h
def BR {α:Type}{xs:List α}{i:Int}{v:α}(h:j9 xs i=some v):∃j,seqIndex? i xs.length=some j/\xs[j]?=some v/\j < xs.length/\-(xs.length:Int)<=i/\i < xs.length:=by
 unfold j9 at h;cases e:Ki xs.length i with
 | none=>rw [e] at h;cases h
 | some j =>
  rw [e] at h;obtain⟨h1,h2,h3,h4⟩:=I_ e;exact⟨j,h1,h,h2,h3,h4⟩
def bT {α:Type}{xs:List α}{j:Nat}{v:α}(h:xs[j]?=some v):j9 xs (j:Int)=some v:=by
 have hj:j < xs.length:=(bq.mp h).1;have e:Ki xs.length (j:Int)=some j:=by
  unfold Ki;rw [ax ∅,ax ∅];simp
 unfold j9;rw [e];exact h
def yh {α:Type}(xs:List α)(v:α):j9 (xs++[v]) (-1)=some v:=by
 have hl:(xs++[v]).length=xs.length+1:=by simp
 have e:Ki (xs++[v]).length (-1)=some xs.length:=by
  unfold Ki;rw [hl,az nofun,ax ∅]
  congr 1
  omega
 unfold j9;rw [e];show (xs++[v])[xs.length]?=some v;simp
def JA (b:Expr):Prop:=∀o i,subscripted b false o i=operate [o,i] (getItem o i)
def JC (X:Cx)(r:R2):Prop :=
 ∀(value slice:Expr)(ag:List (Addr×Obj))(s:Shared)(σ:St)(H:Hp)(x y:V)(v u:Value)(Q:VK),Inv X ag σ H s->RelV x v->RelV y u->r x y H Q ->
  subscripted slice false v u=operate [v,u] (getItem v u)->wpAny (model X.prog X.w) X.A (subscriptTail value slice v u) (EP X ag σ Q) X.xe s
def Og (X:Cx)(id:String)(r:V->List V->Hp->VK->Prop):Prop :=
 ∀(ag:List (Addr×Obj))(s:Shared)(σ:St)(H:Hp)(x:V)(xs:List V)(v:Value)(us:List Value)(Q:VK),Inv X ag σ H s->RelV x v->a_ xs us->r x xs H Q ->
  wpAny (model X.prog X.w) X.A (call (.builtin id) (v::us)) (EP X ag σ Q) X.xe s
section
variable {X:Cx}{a b:Expr}{ta tb:TE}{pos:Pos}
def JC.or {r r':R2}(h:JC X r)(h':JC X r'):JC X (λx y H Q=>r x y H Q\/r' x y H Q):=by
 intro value slice ag s σ H x y v u Q I rx ry q hs;rcases q with q | q
 .exact h value slice ag s σ H x y v u Q I rx ry q hs
 exact h' value slice ag s σ H x y v u Q I rx ry q hs
def Og.or {id:String}{r r':V->List V->Hp->VK->Prop}(h:Og X id r)(h':Og X id r'):Og X id (λx xs H Q=>r x xs H Q\/r' x xs H Q):=by
 intro ag s σ H x xs v us Q I rx rs q;rcases q with q | q
 .exact h ag s σ H x xs v us Q I rx rs q
 exact h' ag s σ H x xs v us Q I rx rs q
def aF {r:R2}(hr:JC X r)(ha:PE X a ta)(hb:PE X b tb)(hs:JA b):PE X (.Subscript a b pos) (Ry r ta tb):=by
 intro ag s σ H Q I h;exact Subscript_ (Nn ha hb I h λv u s2 x y H2 I2 rx ry q=>hr a b ag s2 σ H2 x y v u Q I2 rx ry q (hs _ _))
inductive W_ (S:Addr->List V->Prop)(x y:V)(R:V->Prop):Prop
 | mk (p:Addr)(xs:List V) (i:Int)(v:V)(e:x=.ref p)(e2:y=.int i)(s:S p xs)(a:j9 xs i=some v)(q:R v):W_ S x y R
def O8 (K:a9):R2:=λx y H Q=>W_ (aI K H) x y λv=>Q v H
def O7 (K:a9):R2:=λx y H Q=>W_ (aQ K H) x y λv=>Q v H
def bo:JC X (O8 X.K):=by
 intro value slice ag s σ H x y v u Q I rx ry h hs;obtain⟨p,xs,i,z,rfl,rfl,hq,he,q⟩:=h;cases rx;obtain⟨t,rfl⟩:=ry;obtain⟨aU,r,pl,hz⟩:=I.list hq;obtain⟨j,h1,h2,h3,h4,h5⟩:=BR he;obtain⟨w,ew,zz⟩:=r.get h2;have hl:=r.length;have hn:=v9;have fin:EP X ag σ Q w s:=⟨z,H,I,zz,q⟩;by_cases h0:0<=i
 .have hj:i.toNat=j:=by
   rw [seqIndex_of h0 h5] at h1;exact gS h1
  exact item_listR pl.isList h0 ∅ (by rw [hj];simpa using ew) fin hs
 have hj:(i+(aU.toArray.size:Int)).toNat=j:=by
  rw [seqIndex_neg ∅ h4] at h1;rw [bR,<-hl];exact gS h1
 exact subscriptTail_builtinR (x:=w) pl.isList.typeIs slot_list_getitem.lookup
  (wpAny_getItem_list_neg (Q:=λr s'=>r=w/\EP X ag σ Q r s') pl.isList ∅ (by rw [bR] <;> omega) ∅ (by rw [hj];simpa using ew) ⟨rfl,fin⟩) hs
def aN:JC X (O7 X.K):=by
 intro value slice ag s σ H x y v u Q I rx ry h hs;obtain⟨p,xs,i,z,rfl,rfl,hq,he,q⟩:=h;cases rx;obtain⟨t,rfl⟩:=ry;obtain⟨aU,r,pl,hz⟩:=I.tuple hq;obtain⟨j,h1,h2,h3,h4,h5⟩:=BR he;obtain⟨w,ew,zz⟩:=r.get h2;have hl:=r.length;have hn:=v9;have fin:EP X ag σ Q w s:=⟨z,H,I,zz,q⟩;exact subscriptTail_builtinR (x:=w) pl.typeIs slot_tuple_getitem.lookup
  (getItem_tuple (j:=j) (Q:=λr s'=>r=w/\EP X ag σ Q r s') pl ∅ ∅ (by rw [bR,<-hl];exact h1) (by simpa using ew) ⟨rfl,fin⟩) hs
theorem Inv.lst {ag:List (Addr×Obj)}{σ:St}{H:Hp}{s:Shared}{p:Addr}{xs:List V}(I:Inv X ag σ H s)(h:H p=some (.lst xs)) :
  ∃(aU:List Value) (n:Nat),a_ xs aU/\s.heap.get? p=some { cls:=.type "list",data:=.seq aU.toArray n }/\xs.length<=sizeLine:=by
 obtain⟨z,aU,n,r,e⟩:=I.b8 p _ h;exact⟨aU,n,r,e,z⟩
def vE (lo hi:Option Int) (n:Nat):(sliceBounds lo hi none n).1=((HT.fR n 0 lo:Nat):Int)/\(sliceBounds lo hi none n).2.1=((HT.fR n n hi:Nat):Int)/\(sliceBounds lo hi none n).2.2=1:=by
 refine⟨?_,?_,rfl⟩
 .cases lo with
  | none=>simp [sliceBounds,HT.fR]
  | some i =>
   simp only [sliceBounds,HT.fR,Option.getD_none,show (1:Int) > 0 by decide,if_true];by_cases h:i < 0
   .simp only [h,if_true] <;> omega
   simp only [h,if_false] <;> omega
 cases hi with
 | none=>simp [sliceBounds,HT.fR]
 | some i =>
  simp only [sliceBounds,HT.fR,Option.getD_none,show (1:Int) > 0 by decide,if_true];by_cases h:i < 0
  .simp only [h,if_true] <;> omega
  simp only [h,if_false] <;> omega
def tS (aU:List Value)(lo hi:Option Int):slicePick aU.toArray lo hi none=((aU.drop (HT.fR aU.length 0 lo)).take (HT.fR aU.length aU.length hi - HT.fR aU.length 0 lo)).toArray:=by
 obtain⟨h1,h2,h3⟩:=vE lo hi aU.toArray.size;unfold slicePick;rw [h1,h2,h3];simp only [sliceRange_one,pick_run,bR] <;> rfl
def TV (K:a9):V->Option Int->Option Int->Hp->VK->Prop:=λx lo hi H Q=>∃a xs,x=.ref a/\aI K H a xs/\∀p,H p=none->Q (.ref p) (upd H p (.lst (gy xs lo hi)))
def iz:K0 X (TV X.K):=by
 intro ag s σ H x v vl vu lo hi sl Q I rx hs pl pu h;obtain⟨a,xs,rfl,hx,q⟩:=h;cases rx;obtain⟨aU,r,ht,hz⟩:=I.list hx;have br:=r.length;refine⟨"list",_,slot_list_getitem.lookup,ht.isList.typeIs,?_⟩;refine wpAny_getItem_list_slice ht.isList hs pl pu .none (by simp) ?_ (by rw [bR] <;> omega)
 rw [tS,<-br];refine⟨.ref s.heap.objs.size,_,I.laid (t':=s.toks) (o:=.lst (gy xs lo hi)) (λb ob q=>bJ _ q) (aH _) ?_,rfl,q _ (I.b8.fresh (aH _))⟩;exact⟨fX (qf xs lo hi) hz,_,0,(r.drop (HT.fR xs.length 0 lo)).take (HT.fR xs.length xs.length hi - HT.fR xs.length 0 lo),cW _ rfl⟩
def iS:V->Bool
 | .d7=>true
 | .bl _=>true
 | .int _=>true
 | .str _=>true
 | _=>false
def xU:V->V->Bool
 | .d7,.d7=>true
 | .bl a,.bl b=>a == b
 | .bl a,.int b=>(if a then 1 else 0) == b
 | .int a,.bl b=>a == (if b then 1 else 0)
 | .int a,.int b=>a == b
 | .str a,.str b=>a == b
 | _,_=>false
def Aw {A:Around}{s:Shared}{y x:V}{u v:Value}(ry:RelV y u)(rx:RelV x v)(fy:iS y=true)(fx:iS x=true):SeqAt.EqAt A s u v (xU y x):=by
 cases y with
 | d7 =>
  cases ry;cases x with
  | d7=>cases rx;exact SeqAt.EqAt.same _
  | bl b=>cases rx;exact SeqAt.EqAt.none_bool b
  | int b=>obtain⟨t,rfl⟩:=rx;exact SeqAt.EqAt.none_int b t
  | str b=>obtain⟨t,rfl⟩:=rx;exact SeqAt.EqAt.none_str b t
  | _=>exact absurd (show false=true from fx) dP
 | bl a =>
  cases ry;cases x with
  | d7=>cases rx;exact SeqAt.EqAt.bool_none a
  | bl b=>cases rx;exact SeqAt.EqAt.bool_bool a b
  | int b=>obtain⟨t,rfl⟩:=rx;exact SeqAt.EqAt.bool_int a b t
  | str b=>obtain⟨t,rfl⟩:=rx;exact SeqAt.EqAt.bool_str a b t
  | _=>exact absurd (show false=true from fx) dP
 | int a =>
  obtain⟨t',rfl⟩:=ry;cases x with
  | d7=>cases rx;exact SeqAt.EqAt.int_none a t'
  | bl b=>cases rx;exact SeqAt.EqAt.int_bool a t' b
  | int b=>obtain⟨t,rfl⟩:=rx;exact SeqAt.EqAt.int_int a t' b t
  | str b=>obtain⟨t,rfl⟩:=rx;exact SeqAt.EqAt.int_str a t' b t
  | _=>exact absurd (show false=true from fx) dP
 | str a =>
  obtain⟨t',rfl⟩:=ry;cases x with
  | d7=>cases rx;exact SeqAt.EqAt.str_none a t'
  | bl b=>cases rx;exact SeqAt.EqAt.str_bool a t' b
  | int b=>obtain⟨t,rfl⟩:=rx;exact SeqAt.EqAt.str_int a t' b t
  | str b=>obtain⟨t,rfl⟩:=rx;exact SeqAt.EqAt.str_str a t' b t
  | _=>exact absurd (show false=true from fx) dP
 | _=>exact absurd (show false=true from fy) dP
def Av (x:V)(u:Value):Bool:=match u with
 | .none=>xU .d7 x
 | .bool b=>xU (.bl b) x
 | .int i _=>xU (.int i) x
 | .str z _=>xU (.str z) x
 | _=>false
def Gx {x y:V}{u:Value}(r:RelV y u)(f:iS y=true):Av x u=xU y x:=by
 cases y with
 | d7=>cases r;rfl
 | bl b=>cases r;rfl
 | int i=>obtain⟨t,rfl⟩:=r;rfl
 | str z=>obtain⟨t,rfl⟩:=r;rfl
 | _=>exact absurd (show false=true from f) dP
theorem oA {x:V}:∀{xs:List V}{us:List Value},a_ xs us->xs.all iS=true->us.any (Av x)=xs.any λy=>xU y x
 | _,_,.nil,_=>rfl
 | y::xs,u::us,.cons r t,f=>by
  rw [List.all_cons,pW] at f;rw [qU,qU,Gx r f.1,oA t f.2]
theorem kU {A:Around}{s:Shared}{x:V}{v:Value}(rx:RelV x v)(fx:iS x=true):∀{xs:List V}{us:List Value},a_ xs us->xs.all iS=true->∀u∈us,SeqAt.EqAt A s u v (Av x u)
 | _,_,.nil,_=>λu hu=>by cases hu
 | y::xs,u::us,.cons r t,f=>λu' hu=>by
  rw [List.all_cons,pW] at f;rcases cA.mp hu with rfl | hu
  .rw [Gx r f.1];exact Aw r rx f.1 fx
  exact kU rx fx t f.2 u' hu
def Mo (x:V)(xs:List V):Bool:=xs.any λy=>xU y x
inductive XIn (S:Addr->List V->Prop)(x y:V)(R:List V->Prop):Prop
 | mk (p:Addr)(xs:List V)(e:y=.ref p)(s:S p xs)(f:iS x=true)(g:xs.all iS=true)(q:R xs):XIn S x y R
def RI (K:a9)(neg:Bool):R2:=λx y H Q=>XIn (λp xs=>aI K H p xs\/aQ K H p xs) x y λxs=>Q (.bl (if neg then !Mo x xs else Mo x xs)) H
def lC:jj X (compareOp .In) (RI X.K false):=by
 intro ag s σ H x y v u Q I rx ry h;obtain⟨p,xs,rfl,hq,fx,fs,q⟩:=h;cases ry;rcases hq with hq | hq
 .obtain⟨aU,r,pl,hz⟩:=I.list hq;refine SeqAt.in_listAt (Av x) pl.isList (λw hw=>kU rx fx r fs w (by simpa using hw)) ⟨.bl _,H,I,rfl,?_⟩;rw [show aU.toArray.any (Av x)=aU.any (Av x) by simp,oA r fs];exact q
 obtain⟨aU,r,pl,hz⟩:=I.tuple hq;refine SeqAt.in_tupleAt (Av x) pl (λw hw=>kU rx fx r fs w (by simpa using hw)) ⟨.bl _,H,I,rfl,?_⟩;rw [show aU.toArray.any (Av x)=aU.any (Av x) by simp,oA r fs];exact q
def iB:jj X (compareOp .NotIn) (RI X.K true):=by
 intro ag s σ H x y v u Q I rx ry h;obtain⟨p,xs,rfl,hq,fx,fs,q⟩:=h;cases ry;rcases hq with hq | hq
 .obtain⟨aU,r,pl,hz⟩:=I.list hq;refine SeqAt.notIn_listAt (Av x) pl.isList (λw hw=>kU rx fx r fs w (by simpa using hw)) ⟨.bl _,H,I,rfl,?_⟩;rw [show aU.toArray.any (Av x)=aU.any (Av x) by simp,oA r fs];exact q
 obtain⟨aU,r,pl,hz⟩:=I.tuple hq;refine SeqAt.notIn_tupleAt (Av x) pl (λw hw=>kU rx fx r fs w (by simpa using hw)) ⟨.bl _,H,I,rfl,?_⟩;rw [show aU.toArray.any (Av x)=aU.any (Av x) by simp,oA r fs];exact q
def aG:il X (.builtin "len") (λxs H Q=>Rc xs (λp ys=>aI X.K H p ys\/aQ X.K H p ys) λys=>Q (.int ys.length) H):=by
 intro ag s σ H xs us Q I r h;obtain⟨p,ys,rfl,hq,q⟩:=h;obtain⟨u,rfl,rx⟩:=vals1 r;cases rx;have hn:=v9;rcases hq with hq | hq
 .obtain⟨aU,r',pl,hz⟩:=I.list hq;have br:=r'.length;exact Calls.call_len_list pl.isList (by simp only [bR] <;> omega) ⟨.int ys.length,H,I.tok _,⟨s.toks+1,by rw [bR,br]⟩,q⟩
 obtain⟨aU,r',pl,hz⟩:=I.tuple hq;have br:=r'.length;exact len_tuple pl (by simp only [bR] <;> omega) ⟨.int ys.length,H,I.tok _,⟨s.toks+1,by rw [bR,br]⟩,q⟩
def il.or {f:Value}{r r':List V->Hp->VK->Prop}(h:il X f r)(h':il X f r'):il X f (λxs H Q=>r xs H Q\/r' xs H Q):=by
 intro ag s σ H xs us Q I rs q;rcases q with q | q
 .exact h ag s σ H xs us Q I rs q
 exact h' ag s σ H xs us Q I rs q
def iD:il X (.type "list") (λxs H Q=>∃p ys,xs=[.ref p]/\(aI X.K H p ys\/aQ X.K H p ys)/\∀l,H l=none->Q (.ref l) (upd H l (.lst ys))):=by
 intro ag s σ H xs us Q I r h;obtain⟨p,ys,rfl,hq,q⟩:=h;obtain⟨u,rfl,rx⟩:=vals1 r;cases rx;have fin:∀(aU:List Value),a_ ys aU->ys.length<=sizeLine->∀(h':Heap) (c':Nat),(∀b o',s.heap.get? b=some o'->h'.get? b=some o') ->
   h'.get? s.heap.objs.size=some { cls:=.type "list",dict:=none,data:=.seq aU.toArray c',slots:=#[] }->EP X ag σ Q (.ref s.heap.objs.size) { s with heap:=h' }:=λaU r' hz h' c' kp e =>
  ⟨.ref s.heap.objs.size,_,I.laid (t':=s.toks) kp (aH _) (show cH X.prog X.w _ h' _ (.lst ys) from ⟨hz,aU,c',r',e⟩),rfl,q _ (I.b8.fresh (aH _))⟩
 rcases hq with hq | hq
 .obtain⟨aU,r',pl,hz⟩:=I.list hq;have br:=r'.length;obtain⟨o,ho,hc,n,hd⟩:=pl.isList;exact call_list_seq p (.inl rfl) ho hc hd (λh' c' kp e=>fin aU r' hz h' c' kp e) (by simp only [bR] <;> omega)
 obtain⟨aU,r',pl,hz⟩:=I.tuple hq;have br:=r'.length;obtain⟨o,ho,hc,n,hd⟩:=pl;exact call_list_seq p (.inr rfl) ho hc hd (λh' c' kp e=>fin aU r' hz h' c' kp e) (by simp only [bR] <;> omega)
def gb:il X (.type "tuple") (λxs H Q=>∃p ys,xs=[.ref p]/\((aI X.K H p ys/\∀l,H l=none->Q (.ref l) (upd H l (.tup ys)))\/(aQ X.K H p ys/\Q (.ref p) H))):=by
 intro ag s σ H xs us Q I r h;obtain⟨p,ys,rfl,h⟩:=h;obtain⟨u,rfl,rx⟩:=vals1 r;cases rx;rcases h with ⟨hq,q⟩ | ⟨hq,q⟩
 .obtain⟨aU,r',pl,hz⟩:=I.list hq;have br:=r'.length;refine call_tuple_list pl.isList (λh' kp=>?_) (by simp only [bR] <;> omega)
  have I1:Inv X ag σ H { s with heap:=h' }:=I.kept (t':=s.toks) kp;have I2:Inv X ag σ (upd H h'.objs.size (.tup ys)) { s with heap:=h'.push { cls:=.type "tuple",data:=.seq aU.toArray } } :=
   I1.laid (t':=s.toks) (λb o e=>bJ _ e) (aH _) (show cH X.prog X.w _ _ _ (.tup ys) from ⟨hz,aU,r',IsTup.new _ _⟩)
  exact⟨.ref h'.objs.size,_,I2,rfl,q _ (I1.b8.fresh (aH _))⟩
 obtain⟨aU,r',pl,hz⟩:=I.tuple hq;exact call_tuple_same pl ⟨.ref p,H,I,rfl,q⟩
def Td (K:a9)(T:String)(x:V)(H:Hp):Prop:=match x with
 | .str _=>T = "str"
 | .int _=>T = "int"
 | .ref p=>(T = "list" /\ ∃xs,aI K H p xs)\/(T = "tuple" /\ ∃o,K.lookup p=some o/\o.cls=.type "tuple" /\ o.dict=none) \/
   (T = "dict" /\ ((∃kvs,H p=some (.dK kvs))\/∃kvs,H p=some (.dT kvs)))\/(T = "set" /\ ∃S n,H p=some (.set S n))
 | _=>False
def Ee {ag:List (Addr×Obj)}{σ:St}{H:Hp}{s:Shared}{T:String}{x:V}{v:Value}(I:Inv X ag σ H s)(r:RelV x v)(ty:Td X.K T x H) :
  s.TypeIs v T/\∀a,v=.ref a->∃ob,s.heap.get? a=some ob/\ob.dict=none:=by
 cases x with
 | str z =>
  obtain⟨t,rfl⟩:=r;cases (show T = "str" from ty);exact⟨typeIs_str s z t,λ_ e=>nomatch e⟩
 | int i =>
  obtain⟨t,rfl⟩:=r;cases (show T = "int" from ty);exact⟨typeIs_int s i t,λ_ e=>nomatch e⟩
 | ref p =>
  cases r;rcases ty with ⟨rfl,xs,hq⟩ | ⟨rfl,o,hk,hc,hd⟩ | ⟨rfl,hk⟩ | ⟨rfl,S,n,hk⟩
  .obtain⟨aU,_,pl,_⟩:=I.list hq;refine⟨pl.isList.typeIs,λa e=>?_⟩;cases e;obtain⟨o,n,e,c,hd,_⟩:=pl;exact⟨o,e,hd⟩
  .refine⟨⟨o,I.wa p o hk,hc⟩,λa e=>?_⟩;cases e;exact⟨o,I.wa _ o hk,hd⟩
  .have z:∃o,s.heap.get? p=some o/\o.ExactDict:=by
    rcases hk with ⟨kvs,hk⟩ | ⟨kvs,hk⟩
    .obtain⟨_,_,_,_,o,_,_,e,ex,_⟩:=I.b8 p _ hk;exact⟨o,e,ex⟩
    obtain⟨_,_,_,_,o,_,_,e,ex,_⟩:=I.b8 p _ hk;exact⟨o,e,ex⟩
   obtain⟨o,e,ex⟩:=z;refine⟨⟨o,e,ex.1⟩,λa e2=>?_⟩;cases e2;exact⟨o,e,ex.2.1⟩
  obtain⟨o,_,_,_,e,ex,_⟩:=I.b8 p _ hk;refine⟨⟨o,e,ex.1⟩,λa e2=>?_⟩;cases e2;exact⟨o,e,ex.2.1⟩
 | _=>exact False.elim ty
def Tu (K:a9)(T:String)(r:V->List V->Hp->VK->Prop)(to:TE):TE:=λσ H Q=>to σ H λx H1=>Td K T x H1/\r x [] H1 Q
def tBM (K:a9)(T:String)(r:V->List V->Hp->VK->Prop)(to:TE)(t:TA):TE:=λσ H Q=>to σ H λx H1=>Td K T x H1/\t σ H1 λxs H2=>r x xs H2 Q
variable {o e:Expr}{es:List Expr}{to:TE}{t:TA}{name:Str}{apos gO:Pos}{T id:String}{r:V->List V->Hp->VK->Prop}
def zM (pa:PlainAttrs T)(slot:Slot T name id)(U5:typeOf (.builtin id)=pure (.type "method_descriptor"))(hm:Og X id r)(ho:PE X o to)
  (Gj:attributeBase o name X.env (eval o X.env)=eval o X.env:=by rfl)(Ge:(apos.endLine == gO.line)=true:=by rfl):PE X (.Call (.Attribute o name apos) [] [] gO) (Tu X.K T r to):=by
 intro ag s σ H Q I h;refine wpAny_Call_method0_late Gj Ge (cJ (ho ag s σ H _ I h) λv s1 bz=>?_);obtain⟨x,H1,I1,r1,ty,q1⟩:=bz;obtain⟨h1,h2⟩:=Ee I1 r1 ty;exact⟨T,id,pa,slot,U5,h1,h2,rp rfl (PySem.evalArgs_none (hm ag s1 σ H1 x [] v [] Q I1 r1 .nil q1))⟩
def ft (pa:PlainAttrs T)(slot:Slot T name id)(U5:typeOf (.builtin id)=pure (.type "method_descriptor"))(hm:Og X id r)(ho:PE X o to)(ha:PA X (e::es) t)
  (Gj:attributeBase o name X.env (eval o X.env)=eval o X.env:=by rfl)
  (Vz:((backTo gO (starEach (e::es) X.env)).all (λx=>!x.1) && (backToKw gO (keywordEach [] X.env)).all (λx=>x.1.isSome)
   && decide ((e::es).length+([]:List Keyword).length+(if ([]:List Keyword).isEmpty then 0 else 1) < 30))=true:=by rfl)
  (Ge:(apos.endLine == gO.line)=true:=by rfl)(hs:starEach (e::es) X.env=(false,eval e X.env)::starEach es X.env:=by rfl)(Mr:(backTo gO (starEach es X.env)).any (·.1)=false:=by rfl) :
  PE X (.Call (.Attribute o name apos) (e::es) [] gO) (tBM X.K T r to t):=by
 intro ag s σ H Q I h;refine wpAny_Call_method_late Gj Vz Ge rfl (cJ (ho ag s σ H _ I h) λv s1 bz=>?_);obtain⟨x,H1,I1,r1,ty,q1⟩:=bz;obtain⟨h1,h2⟩:=Ee I1 r1 ty;refine⟨T,id,pa,slot,U5,h1,h2,?_⟩;have hA:=ha gO ag s1 σ H1 _ I1 q1;rw [hs] at hA ⊢;refine rp (by show (false || (backTo gO (starEach es X.env)).any (·.1))=false;rw [Mr] <;> rfl) (u5 ?_)
 refine cJ hA λus s2 bz=>?_;obtain⟨vs,H2,I2,r2,q2⟩:=bz;exact hm ag s2 σ H2 x vs v us Q I2 r1 r2 q2
end
def SG (X:Cx)(id:String)(r:V->List V->Hp->VK->Prop):Prop :=
 ∀(ag:List (Addr×Obj))(s:Shared)(σ:St)(H:Hp)(x:V)(xs:List V)(v:Value)(us:List Value)(Q:VK),Inv X ag σ H s->RelV x v->a_ xs us->r x xs H Q ->
  wpAny (model X.prog X.w) X.A (call (.builtin id) (v::us)) (EP X ag σ Q) X.xe s
def a_.one:∀{x:V}{us:List Value},a_ [x] us->∃u,us=[u]/\RelV x u
 | _,_,.cons r .nil=>⟨_,rfl,r⟩
def a_.two:∀{x y:V}{us:List Value},a_ [x,y] us->∃u v,us=[u,v]/\RelV x u/\RelV y v
 | _,_,_,.cons r (.cons q .nil)=>⟨_,_,rfl,r,q⟩
def a_.zero:∀{us:List Value},a_ [] us->us=[]
 | _,.nil=>rfl
theorem a_.dropLast {xs:List V}{us:List Value}(h:a_ xs us):a_ xs.dropLast us.dropLast:=by
 induction h with
 | nil=>exact .nil
 | cons r t ih =>
  cases t with
  | nil=>exact .nil
  | cons q t'=>exact .cons r ih
theorem a_.eraseIdx:∀{xs:List V}{us:List Value}(i:Nat),a_ xs us->a_ (xs.eraseIdx i) (us.eraseIdx i)
 | _,_,_,.nil=>.nil
 | _,_,0,.cons _ t=>t
 | _,_,i+1,.cons r t=>.cons r (a_.eraseIdx i t)
theorem a_.reverse {xs:List V}{us:List Value}(h:a_ xs us):a_ xs.reverse us.reverse:=by
 induction h with
 | nil=>exact .nil
 | cons r t ih=>rw [mj,mj];exact a_.append ih (.cons r .nil)
def Au {α:Type}(l:List α):l.eraseIdx (l.length - 1)=l.dropLast:=by
 induction l with
 | nil=>rfl
 | cons a r ih =>
  cases r with
  | nil=>rfl
  | cons b r =>
   have e:(a::b::r).length - 1=((b::r).length - 1)+1:=by
    have h1:(a::b::r).length=r.length+2:=rfl;have h2:(b::r).length=r.length+1:=rfl;omega
   rw [e,List.eraseIdx_cons_succ,ih]
   all_goals rfl
section
variable {X:Cx}{ag:List (Addr×Obj)}{σ:St}{H:Hp}{s:Shared}{l b:Addr}{xs ys zs:List V}
def Inv.IY {aU so:List Value}{n:Nat}{f:Array Value->Array Value}{t':Nat}(I:Inv X ag σ H s)(hH:H l=some (.lst xs))
  (e:s.heap.get? l=some { cls:=.type "list",data:=.seq aU.toArray n })(hf:f aU.toArray=so.toArray)(hv:a_ ys so)(hz:ys.length<=sizeLine) :
  Inv X ag σ (upd H l (.lst ys)) { s with heap:=s.heap.update l (Obj.mapSeq f),toks:=t' }:=by
 have q:=PySem.IsL.update e f;rw [hf] at q;refine I.write (x:=l) (e:=l) (by rw [hH];exact trivial) (.inl rfl) (λb' u hb hu=>(o6 s.heap (Obj.mapSeq f) (cP hb)).trans hu) ⟨_,q⟩ ?_;exact⟨hz,so,_,hv,q⟩
def Inv.UD {aU:List Value}{t':Nat}(I:Inv X ag σ H s)(hv:a_ ys aU)(hz:ys.length<=sizeLine) :
  Inv X ag σ (upd H s.heap.objs.size (.lst ys)) { s with heap:=s.heap.push { cls:=.type "list",data:=.seq aU.toArray },toks:=t' } :=
 I.laid (λ_ _ q=>bJ _ q) (aH _) ⟨hz,aU,0,hv,cW _ rfl⟩
theorem Inv.fresh (I:Inv X ag σ H s):H s.heap.objs.size=none:=I.b8.fresh (aH _)
def Inv.z9 (I:Inv X ag σ H s)(hH:H l=some (.lst xs)):xs.length<=sizeLine/\∃(aU:List Value) (n:Nat),a_ xs aU/\xs.length=aU.length/\s.heap.get? l=some { cls:=.type "list",data:=.seq aU.toArray n }:=by
 obtain⟨z,aU,n,r,e⟩:=I.b8 l _ hH;exact⟨z,aU,n,r,r.length,e⟩
def xB {n:Nat}(h:n<=sizeLine):Builtin.List.listTooLong n=false:=by
 unfold Builtin.List.listTooLong;exact dq ∅
end
section
variable {X:Cx}
inductive Rf (H:Hp)(x:V)(vs:List V)(R:Addr->List V->V->Prop):Prop
 | mk (l:Addr)(xs:List V)(y:V)(e:x=.ref l)(e2:vs=[y])(h:H l=some (.lst xs))(z:xs.length < sizeLine)(q:R l xs y):Rf H x vs R
def Iv:V->List V->Hp->VK->Prop:=λx vs H Q=>Rf H x vs λl xs y=>Q .d7 (upd H l (.lst (xs++[y])))
def bK:SG X "list.append" Iv:=by
 intro ag s σ H x vs v us Q I rx rv h;obtain⟨l,xs,y,rfl,rfl,hH,hz,q⟩:=h;cases rx;obtain⟨u,rfl,ru⟩:=rv.one;obtain⟨z,aU,n,r,hl,e⟩:=I.z9 hH;refine call_meets F.slot_list_append ⟨_,e,rfl⟩ F.entry_list_append (F.args_list_append_2 _ _) (PySem.list_append l aU.toArray n u (by rw [bR];omega)) ⟨e,?_⟩;refine⟨.d7,_,I.IY (so:=aU++[u]) hH e (by simp) (r.append (.cons ru .nil)) ?_,rfl,q⟩;rw [bM,fQ];omega
def Iu:V->List V->Hp->VK->Prop:=λx vs H Q=>∃l b xs zs,x=.ref l/\vs=[.ref b]/\H l=some (.lst xs)/\H b=some (.lst zs)/\xs.length+zs.length<=sizeLine/\Q .d7 (upd H l (.lst (xs++zs)))
def CC:SG X "list.extend" Iu:=by
 intro ag s σ H x vs v us Q I rx rv h;obtain⟨l,b,xs,zs,rfl,rfl,hH,hB,hz,q⟩:=h;cases rx;obtain⟨u,rfl,ru⟩:=rv.one;cases ru;obtain⟨z,aU,n,r,hl,e⟩:=I.z9 hH;obtain⟨z2,cI,n2,r2,tV,e2⟩:=I.z9 hB;have hsz:aU.toArray.size+cI.toArray.size<=sizeLine:=by rw [bR,bR];omega
 have Gd:¬(!aU.toArray.isEmpty && Builtin.List.listTooLong (aU.toArray.size+cI.toArray.size))=true:=by
  rw [xB hsz,Bool.and_false];exact dP
 refine call_meets F.slot_list_extend ⟨_,e,rfl⟩ F.entry_list_extend (F.args_list_extend_2 _ _)
  (AutoSeq1.list_extend_list_list_0 l aU.toArray n b cI.toArray n2 Gd (by rw [bR];omega) ∅) ⟨e,e2,?_⟩
 refine⟨.d7,_,I.IY (so:=aU++cI) hH e (by simp) (r.append r2) ?_,rfl,q⟩;rw [bM];omega
def TY:V->List V->Hp->VK->Prop:=λx vs H Q=>∃l xs y,x=.ref l/\vs=[]/\H l=some (.lst xs)/\xs[xs.length - 1]?=some y/\Q y (upd H l (.lst xs.dropLast))
def zY:SG X "list.pop" TY:=by
 intro ag s σ H x vs v us Q I rx rv h;obtain⟨l,xs,y,rfl,rfl,hH,hy,q⟩:=h;cases rx;have hus:=rv.zero;subst hus;obtain⟨z,aU,n,r,hl,e⟩:=I.z9 hH;obtain⟨u,hu,ru⟩:=r.get hy;have U0:aU.toArray[aU.toArray.size - 1]?=some u:=by
  show aU.toArray[aU.length - 1]?=some u;rw [<-Array.getElem?_toList,<-hl];exact hu
 refine call_meets F.slot_list_pop ⟨_,e,rfl⟩ F.entry_list_pop (F.args_list_pop_1 _) (MeetsSeq.list_pop_last l aU.toArray n u U0 (by rw [bR];omega)) ⟨e,?_⟩;refine⟨y,_,I.IY (so:=aU.dropLast) hH e ?_ r.dropLast ?_,ru,q⟩
 .show aU.toArray.eraseIdxIfInBounds (aU.toArray.size - 1)=aU.dropLast.toArray;rw [bR,List.eraseIdxIfInBounds_toArray,Au]
 rw [List.length_dropLast];omega
def T4:R2:=λx y H Q=>∃l b xs zs,x=.ref l/\y=.ref b/\H l=some (.lst xs)/\H b=some (.lst zs)/\xs.length+zs.length<=sizeLine/\∀p,H p=none->Q (.ref p) (upd H p (.lst (xs++zs)))
def iN:jj X (binaryOp .Add) T4:=by
 intro ag s σ H x y v u Q I rx ry h;obtain⟨l,b,xs,zs,rfl,rfl,hH,hB,hz,q⟩:=h;cases rx;cases ry;obtain⟨z,aU,n,r,hl,e⟩:=I.z9 hH;obtain⟨z2,cI,n2,r2,tV,e2⟩:=I.z9 hB;refine PySem.P.add_list e e2 ?_ (by rw [bR,bR];omega);have ea:aU.toArray++cI.toArray=(aU++cI).toArray:=by simp
 rw [ea];exact⟨.ref _,_,I.UD (t':=s.toks) (r.append r2) (by rw [bM];omega),rfl,q _ I.fresh⟩
end
section
variable {prog:Program}{w:World}{A:Around}{E:Value->Shared->Prop}{s:Shared}
set_option maxRecDepth 100000 in
end
section
variable {X:Cx}
end
end L2
namespace HU
open PySem PySem.W PySem.Calls PyProof.Rows
def qr {P:Params}{h:Heap}:∀(ns:List Int)(vs:List Value),WellAll P h vs (ns.map WData.int)->IntsAre vs ns:=by
 intro ns
 induction ns with
 | nil =>
  intro vs w;rw [jG] at w;cases w;exact .nil
 | cons n ns ih =>
  intro vs w;rw [cu] at w;cases w with
  | cons a b =>
   cases a;exact .cons _ _ (ih _ b)
def Cc {l:OpenLaw}{n:Nat}(hn:l.most=some n){P:Params}{h:Heap}{args:List WData}{vals:List Value}
  (Ja:l.row.toRowW.claim.pre args=true)(U2:WellAll P h vals args) :
  ∃a vs ns,vals=[Value.ref a]/\args=[WData.list (ns.map WData.int)]/\h.get? a=some { cls:=.type "list",data:=.seq vs.toArray }/\IntsAre vs ns/\ns.length<=n:=by
 have hsh:WShape.hasAll [] args [.list .int]=true:=(pre_splitW Ja).1;have hc:l.pre.holds [] { args:=args }=true:=(pre_splitW Ja).2;obtain⟨d,r,rfl,h1,h2⟩:=hasAllW_cons hsh;obtain rfl:=hasAllW_nil h2;obtain⟨xs,rfl,h3⟩:=hasW_list h1;obtain⟨ns,rfl⟩:=items_int h3;have br:ns.length<=n:=by
  unfold OpenLaw.pre at hc;have h4:(WTm.not (.lt (.lit (.int (n:Int))) (.len (.arg 0)))).holds [] { args:=[.list (ns.map .int)] }=true:=by
   have h4:=(holds_andW hc).1;rw [hn] at h4;exact h4
  have h5:=condW_of h4 (w_not (w_lt w_lit (w_len_list (w_arg rfl))));rw [au] at h5;refine Nat.le_of_not_lt λq=>?_;have q':(n:Int) < ((ns.length:Nat):Int):=by omega
  first
   | (rw [bW q'] at h5;exact absurd h5 nofun)
   | (simp at h5;omega)
 cases U2 with
 | cons w1 w2 =>
  cases w2;cases w1 with
  | list ho qv=>exact⟨_,_,ns,rfl,rfl,ho,qr ns _ qv,br⟩
def Ck (l:OpenLaw)(args:List WData):l.row.toRowW.claim.post args (.bool true) args=true :=
 postW_of (r:=l.row.toRowW) (X:=(true == true))
  (show WShape.has [] (.bool true) .bool=true by first | rfl | decide | simp [WShape.has,WShape.arms,WShape.armsAll])
  (show (WTm.eq .res (.lit (.bool true))).value [] { args:=args,res:=some (.bool true),after:=args }=some (.bool (true == true)) from w_eq_bool (w_res rfl) w_lit) rfl
def qj {l:OpenLaw}{n:Nat}{q:Program}{loose:List Str}{XP:(Str->Option Value)->Heap->Prop}{YP:World->Heap->Prop}{d:DefRec}
  (hn:l.most=some n)(My:d.params.defaults=[])
  (call:∀(w:World)(s₀ s₁:Shared)(mg mb:Str->Option Value)(fa:Addr)(o:Obj)(pm cd doc:Value)(a:Addr)(vs:List Value)(ns:List Int),
   Ground q loose [] XP w s₀ mg mb s₁.heap->YP w s₁.heap ->
   s₁.heap.get? fa=some o->o.data=.func (docDef d.name d.params d.body d.scope pm cd doc)->s₁.heap.CodeRec cd d.name->mg d.name=some (.ref fa) ->
   s₁.heap.get? a=some { cls:=.type "list",data:=.seq vs.toArray }->IntsAre vs ns->ns.length<=n->s₁.gens=#[] ->
   codeAny (model l.prog w) callerA (.call (.ref fa) ⟨[.ref a],[]⟩) (λr s'=>r=.ok (.ret (.bool true))/\OldK s₁.heap s'.heap/\s'.os=s₁.os/\AllBare s'.gens) s₁) :
  WalkO q loose XP YP l.row.toRowW d [] (λf vs=>PySem.call f vs):=by
 intro w s₀ s₁ mg mb G Y fa o pm cd doc dV kV ho hd wk hD Ms hg args vals as Ja aak hrd U2 hlo;obtain rfl:dV=.none:=Dflts.none hD My;obtain rfl:kV=.none:=Dflts.noKw hD;obtain⟨a,vs,ns,rfl,rfl,F_,hints,br⟩:=Cc hn Ja U2;refine enter_call (oE (call w s₀ s₁ mg mb fa o pm cd doc a vs ns G Y ho (fd_plain hd) wk Ms F_ hints br hg) λr s' hq=>?_);obtain⟨rfl,h2,h3,h4⟩:=hq;exact⟨.inl ⟨.bool true,.bool true,[],rfl,λ_=>rfl,.bool true,Ck l _,λ_=>⟨List.Pairwise.nil,λ_ hm=>(nomatch hm)⟩⟩,h2,h3,h4⟩
section
variable {prog:Program}{w:World}{A:Around}{E:Value->Shared->Prop}{s:Shared}{K:Frag}
def r9 (h:Heap):Heap:={ h with objs:=#[] }
def mv (h:Heap)(b:Addr):(r9 h).get? b=none:=by
 cases e:(r9 h).get? b with
 | none=>rfl
 | some o=>exact absurd (ba e) (Nat.not_lt_zero _)
def ledger (h:Heap)(L d:Addr):List (Addr×Obj):=(List.range h.objs.size).filterMap λa=>if a=L\/a=d then none else (h.get? a).map λo=>(a,o)
def jO {h:Heap}{L d a:Addr}{o:Obj}:(a,o)∈ledger h L d↔a≠L/\a≠d/\h.get? a=some o:=by
 unfold ledger;rw [List.mem_filterMap];constructor
 .rintro⟨b,_,e⟩
  split at e
  .cases e
  rename_i hb
  obtain⟨o',ho,e'⟩:=cq.mp e;cases e';exact⟨λq=>hb (.inl q),λq=>hb (.inr q),ho⟩
 rintro⟨n1,n2,ho⟩;refine⟨a,kK.mpr (ba ho),?_⟩;rw [az (show ¬(a=L\/a=d) from λq=>q.elim n1 n2),ho] <;> rfl
def xG {h:Heap}{L d:Addr}{od:Obj}(DO:d≠L)(ho:h.get? d=some od):News (r9 h) L h ([]++(d,od)::ledger h L d):=by
 rintro⟨a,o⟩ hp;rcases cA.mp hp with e | hp
 .cases e;exact⟨ho,DO,mv _ _⟩
 obtain⟨n1,n2,e⟩:=jO.mp hp;exact⟨e,n1,mv _ _⟩
def MS {h:Heap}{L:Addr}{m:Str->Option Value}(n:h.Ns L m):Fr (r9 h) L h m :=
 ⟨n,λb o e=>(by rw [mv] at e;cases e),gB _⟩
end
end HU
namespace L2
open PySem PySem.Spec PyProof.Rows
theorem o8:∀{vs:List Value}{ns:List Int},IntsAre vs ns->a_ (ns.map V.int) vs
 | _,_,.nil=>.nil
 | _,_,.cons n t h=>.cons ⟨t,rfl⟩ (o8 h)
def Nw (H:Hp):Prop:=∀b,H b=none\/∃o xs,H b=some (.kj o (.lst xs))
def FT {P:Program}{w:World}{K:a9}{mg mb:Str->Option Value}{CX:yH}{k:Nat}{fa a:Addr}{fd:FuncData}{x:Str}{sp:Sp}{s₁:Shared}{vs:List Value}{ns:List Int}
  (KX:K.In s₁.heap)(wL:s₁.heap.Ns mainGlobals mg)(hb:s₁.heap.Ns builtinsNs mb)(ME:∀x:Str,x ≠ "__name__" -> mb x=bootBuiltins x)(Mt:s₁.heap.NoLimit)(hg:s₁.gens=#[])
  (ha:s₁.heap.get? a=some { cls:=.type "list",data:=.seq vs.toArray })(hi:IntsAre vs ns)(hl:ns.length<=sizeLine)(hr:fj k callerA)
  (F:∀base:Heap,K.In base->base.Ns mainGlobals mg->bO P w K mg base CX k fa fd [x] sp)(oh:∀(s:Shared)(u:Value),BindsTo s fd ⟨[u],[]⟩ [(x,u)])
  (yy:∀H:Hp,Nw H->aI K H a (ns.map V.int)->sp [.ref a] H (λv _=>v=.bl true) λ_ _ _=>False)
  (MN:∀H e s',CX [] H s₁ (λ_ _ _=>False) e s'->False) :
  codeAny (model P w) callerA (.call (.ref fa) ⟨[.ref a],[]⟩) (λr s'=>r=.ok (.ret (.bool true))/\OldK s₁.heap s'.heap/\s'.os=s₁.os/\AllBare s'.gens) s₁:=by
 have rv:=o8 hi;have Me:=hi.length;have core:∀H:Hp,Nw H->aI K H a (ns.map V.int)->l8 P w H s₁.heap->(∀b,H b≠none->b=a)->(H a≠none->K.lookup a=none) ->
   codeAny (model P w) callerA (.call (.ref fa) ⟨[.ref a],[]⟩) (λr s'=>r=.ok (.ret (.bool true))/\OldK s₁.heap s'.heap/\s'.os=s₁.os/\AllBare s'.gens) s₁:=by
  intro H hO hS b8 hA hK;have lF:∀{b:Addr}{o:Obj},s₁.heap.get? b=some o->H b=none->(mF s₁.heap H).get? b=some o:=λe n=>xO e n;have Pm:∀{b:Addr}{o:Obj}{es:Array DictEntry}{ep:Nat},s₁.heap.get? b=some o->o.data=.dict es ep->H b=none:=λ{b o es ep} e d=>by
   cases q:H b with
   | none=>rfl
   | some u =>
    have e':b=a:=hA b (by rw [q];simp);subst e';rw [ha] at e;cases e;have d':Data.seq vs.toArray _=Data.dict es ep:=d;cases d'
  have IU:∀{b:Addr}{m:Str->Option Value},s₁.heap.Ns b m->(mF s₁.heap H).Ns b m:=λ{b m} ⟨o,es,ep,e,d,r⟩=>⟨o,es,ep,lF e (Pm e d),d,r⟩;have Qz:K.In (mF s₁.heap H):=λb o e=>lF (KX b o e) (by
   cases q:H b with
   | none=>rfl
   | some u =>
    have e':b=a:=hA b (by rw [q];simp);subst e';rw [hK (by rw [q];simp)] at e;cases e)
  have hM:Mod K mg (mF s₁.heap H):=⟨Qz,IU wL,⟨mb,IU hb,ME⟩,let ⟨mc,h1,h2⟩:=Mt;⟨mc,IU h1,h2⟩⟩;have e0:qz P w K mg (mF s₁.heap H) callerA [] s₁ H:=⟨rfl,hM,λb o e=>Bv e,Nat.le_of_eq (uB _ _),trivial,λb hb=>absurd (show b∈([]:List Addr) from hb) (by simp),b8,.of_eq hg⟩;refine oE ((F _ Qz (IU wL)).run callerA [] s₁ H ⟨[.ref a],[]⟩ [.ref a] [.ref a] _ _ hr e0 (oh s₁ (.ref a)) (.cons rfl .nil) (yy H hO hS)) λr s' h=>?_;cases r with
  | error e=>exact(MN H e s' h).elim
  | ok fl =>
   cases fl with
   | next=>exact False.elim h
   | brk=>exact False.elim h
   | cont=>exact False.elim h
   | ret u =>
    obtain⟨v,H',os,bare,un,Jb,r',q⟩:=h;have q':v=.bl true:=q;subst q';obtain rfl:u=Value.bool true:=r';refine⟨rfl,OldK.of_keep λb o e=>?_,os,bare⟩;cases q:H b with
    | none=>exact un.keep b o e q (by intro z;exact absurd (show b∈([]:List Addr) from z) (by simp)) (by simp)
    | some u =>
     rcases hO b with z | ⟨ob,xs,z⟩
     .rw [q] at z;cases z
     have z2:=un.mH b ob _ z;obtain⟨e1,_⟩:=b8 b _ z;obtain⟨e2,_⟩:=Jb b _ z2;rw [e] at e1;cases e1;exact e2
 cases hk:K.lookup a with
 | some o =>
  have e:=KX a o hk;rw [ha] at e;cases e;refine core (λ_=>none) (λ_=>.inl rfl) (.inr ⟨_,vs.toArray,_,hk,rfl,rfl,rfl,by rw [bR,Me];exact hl,by simpa using rv⟩) (λb u z=>by have z':(none:Option HO)=some u:=z;cases z') (λb z=>absurd rfl z) λz=>absurd rfl z
 | none =>
  refine core (λb=>if b=a then some (.kj { cls:=.type "list",data:=.seq vs.toArray } (.lst (ns.map V.int))) else none) (λb=>?_) (.inl (.inr ⟨{ cls:=.type "list",data:=.seq vs.toArray },ax rfl⟩)) (λb u z=>?_) (λb z=>?_) λ_=>hk
  .by_cases hb:b=a
   .exact .inr ⟨_,_,ax hb⟩
   exact .inl (az hb)
  .by_cases hb:b=a
   .have z':=(ax hb).symm.trans z;cases z';subst hb;exact⟨ha,by rw [au];exact hl,vs,_,rv,ha⟩
   have z':=(az hb).symm.trans z;cases z'
  by_cases hb:b=a
  .exact hb
  exact absurd (az hb) z
abbrev KOf {K:a9}{h:Heap}(_:K.In h):a9:=K
def Rw {l:PySem.W.OpenLaw}{n k:Nat}{q:Program}{loose:List Str}{XP:(Str->Option Value)->Heap->Prop}{YP:World->Heap->Prop}{d:DefRec}{K:Params->a9}{CX:World->yH}{sp:World->Sp}{x:Str}
  (hn:l.most=some n)(Gb:n<=sizeLine)(My:d.params.defaults=[])(hr:fj k callerA)
  (hY:∀(w:World)(h:Heap),YP w h->(K w.params).In h)
  (F:∀(w:World)(mg:Str->Option Value)(fa:Addr)(h:Heap),(K w.params).In h->h.Ns mainGlobals mg->mg d.name=some (.ref fa) ->
   ∃fd:FuncData,(∀(s:Shared)(u:Value),BindsTo s fd ⟨[u],[]⟩ [(x,u)]) /\
    ∀base:Heap,(K w.params).In base->base.Ns mainGlobals mg->bO l.prog w (K w.params) mg base (CX w) k fa fd [x] (sp w))
  (yy:∀(w:World)(H:Hp)(a:Addr)(ns:List Int),ns.length<=n->Nw H->aI (K w.params) H a (ns.map V.int)->sp w [.ref a] H (λv _=>v=.bl true) λ_ _ _=>False)
  (MN:∀(w:World)(H:Hp)(s:Shared)(e:Value)(s':Shared),CX w [] H s (λ_ _ _=>False) e s'->False) :
  PySem.W.WalkO q loose XP YP l.row.toRowW d [] (λf vs=>PySem.call f vs):=by
 refine HU.qj hn My λw s₀ s₁ mg mb fa o pm cd doc a vs ns G Y ho hd wk Ms F_ hints br hg=>?_;have KX:=hY w _ Y;obtain⟨fd,hb,hF⟩:=F w mg fa _ KX G.T.g Ms;exact FT KX G.T.g G.T.b G.T.builtins G.T.nolimit hg F_ hints (fX br Gb) hr hF hb (λH hO hS=>yy w H a ns br hO hS) λH e s'=>MN w H s₁ e s'
def dF (s:Stmt):Arguments:=match s with
 | .FunctionDef _ a _ _ _ _ _ _ _ _=>a
 | _=>{ posonlyargs:=[],args:=[],vararg:=none,kwonlyargs:=[],kw_defaults:=[],kwarg:=none,defaults:=[] }
def cx (s:Stmt):List Stmt:=match s with
 | .FunctionDef _ _ b _ _ _ _ _ _ _=>b
 | _=>[]
def av (s:Stmt):Scope:=match s with
 | .FunctionDef _ _ _ _ _ _ sc _ _ _=>sc
 | _=>{ kind:=.function,names:=[],isGenerator:=false,isCoroutine:=false }
abbrev fk:yH:=λ_ _ _ _ _ _=>False
abbrev E0:XK:=λ_ _ _=>False
def uo {X:Cx}:Passes fk X E0:=λ_ _ _ _ _ _ _ h=>h.elim
structure g_ (K:a9)(x qual:Str)(st:Stmt)(f:Addr)(fd:FuncData):Prop where
 ex:∃(oc:Value)(od:Option Addr)(kV doc pm:Value)(an:Option Addr)(dW ct:Value)(xu:Array (Option Value)),
  fd=PySem.W.fnOf x qual (dF st) (cx st) (av st) .none kV doc pm an dW ct/\K.lookup f=some ⟨oc,od,.func fd,xu⟩/\PySem.W.codeIn K dW qual=true
 kp:PySem.W.keepIn K (.ref f)=true
section
variable {P:Program}{w:World}{K:a9}{mg:Str->Option Value}{base:Heap}
def g_.ok {x qual:Str}{st:Stmt}{f:Addr}{fd:FuncData}{N ps:List Str}{k:Nat}{sp:Sp}(F:g_ K x qual st f fd)(S:aK N ps (av st))(len:∀vs H Q E,sp vs H Q E->vs.length=ps.length)
  (jA:∀(dW:Value)(A:Around)(outer:List Env)(s:Shared)(H:Hp)(vs:List V)(Q:VK)(E:XK),fj k (A.deeper (envOfC qual (av st) s.heap.objs.size f dW))->sp vs H Q E ->
   ∃t,AJ (pQ fk P w K mg base N qual (av st) f dW A outer s H E).CB (cx st) t/\t { nx:=λ_ H'=>Q .d7 H',rt:=Q } (start N vs) H):bO P w K mg base fk (k+1) f fd ps sp:=by
 obtain⟨oc,od,kV,doc,pm,an,dW,ct,xu,rfl,lk,wk⟩:=F.ex;refine Gs lk wk S len λA outer s H vs Q E hr yy=>?_;obtain⟨t,h,q⟩:=jA dW A outer s H vs Q E hr yy;exact⟨t,h.CB,q⟩
def g_.binds {x qual:Str}{st:Stmt}{f:Addr}{fd:FuncData}{ps:List Str}(F:g_ K x qual st f fd)
  (h:∀(kV doc pm:Value)(an:Option Addr)(dW ct:Value)(us:List Value),us.length=ps.length->bindArgs (PySem.W.fnOf x qual (dF st) (cx st) (av st) .none kV doc pm an dW ct) ⟨us,[]⟩=pure (ps.zip us)):Binds K fd ps []:=by
 obtain⟨oc,od,kV,doc,pm,an,dW,ct,xu,rfl,lk,wk⟩:=F.ex;exact .all (h kV doc pm an dW ct)
def Gp {x qual:Str}{st:Stmt}{f:Addr}{oc:Value}{od an:Option Addr}{xu:Array (Option Value)}{kV doc pm dW ct:Value}(l:K.lookup f=some ⟨oc,od,.func (PySem.W.fnOf x qual (dF st) (cx st) (av st) .none kV doc pm an dW ct),xu⟩)
  (c:PySem.W.codeIn K dW qual=true)(k:PySem.W.keepIn K (.ref f)=true):g_ K x qual st f (PySem.W.fnOf x qual (dF st) (cx st) (av st) .none kV doc pm an dW ct):=⟨⟨oc,od,kV,doc,pm,an,dW,ct,xu,rfl,l,c⟩,k⟩
end
def fS {A:Around}{k:Nat}(hr:fj k A):A.units+1 < cLine:=pY (rm (by decide:1<=64) _) hr.units
section
variable {X:Cx}
def pv (i:Nat){x:Str}{pos:Pos}(hN:X.N[i]?=some x:=by rfl)(hv:SD X.env.scope x:=by first | exact Or.inl rfl | exact Or.inr (bx rfl) | exact Or.inr (Or.inr rfl))(hd:(x == ("__debug__":Str))=false:=by decide)
  (wk:(x == ("__classdict__":Str))=false:=by decide):PE X (.Name x pos) (gX i):=LK hN hv hd wk
end
def df {A B:Prop}(h:B):if false=true then A else B:=by
 rw [az dP];exact h
def g7 {A B:Prop}(h:A):if true=true then A else B:=by
 rw [ax rfl];exact h
def bZ {c A B:Prop} [Decidable c] (h1:c->A)(h2:¬c->B):if c then A else B:=by
 by_cases h:c
 .rw [ax h];exact h1 h
 rw [az h];exact h2 h
def aC (H H':Hp):Prop:=∀b o,H b=some o->H' b=some o
def aC.refl (H:Hp):aC H H:=λ_ _ h=>h
def aC.trans {H H1 H2:Hp}(a:aC H H1)(b:aC H1 H2):aC H H2:=λc o h=>b c o (a c o h)
def aC.free {H H':Hp}(e:aC H H'){l:Addr}(h:H' l=Option.none):H l=Option.none:=by
 cases q:H l with
 | none=>rfl
 | some o =>
  rw [e l o q] at h;cases h
def aC.seq {K:a9}{H H':Hp}{a:Addr}{xs:List V}(e:aC H H')(h:aI K H a xs):aI K H' a xs:=by
 rcases h with (h | ⟨o,h⟩) | h
 .exact .inl (.inl (e _ _ h))
 .exact .inl (.inr ⟨o,e _ _ h⟩)
 exact .inr h
end L2
namespace HD
open PySem PySem.W
def EU (st:SharedT->Thread->Option (SharedT×Thread))(ok:Thread->Bool):Nat->SharedT->Thread->Option SharedT
 | 0,_,_=>none
 | n+1,s,t=>match through t with
  | true=>some s
  | false=>match ok t with
   | false=>none
   | true=>match st s t with
    | some (s',t')=>EU st ok n s' t'
    | none=>none
theorem Bo {tb:String->Option Builtin}{p:Program}{w:World}{n₀:Nat}{ann:Option Value}:∀{n:Nat}{s s':SharedT}{t:Thread},EU (stepT (denote tb) p w) (stepOk n₀ ann) n s t=some s'->topRun tb p w n₀ ann n s.abs t=some s'.abs
 | 0,_,_,_,h=>by cases h
 | n+1,s,s',t,h=>by
  unfold EU at h;unfold topRun;cases he:through t with
  | true=>rw [he] at h;cases h;rfl
  | false =>
   rw [he] at h;cases hk:stepOk n₀ ann t with
   | false=>rw [hk] at h;cases h
   | true =>
    rw [hk] at h;cases hs:stepT (denote tb) p w s t with
    | none=>rw [hs] at h;cases h
    | some r=>obtain⟨s₂,t₂⟩:=r;rw [hs] at h;rw [stepT_spec hs];exact Bo h
def xy:List Obj->Nat->BT->BT
 | [],_,t=>t
 | o::r,i,t=>xy r (i+1) (t.ins i o)
noncomputable def BP (P:Params):BT:=xy (boot_heap P).objs.toList 0 .nil
def Ds (P:Params):absHeap (BP P) 11 {}=boot_heap P:=by kernel_rfl
def MU {β:Type}:Obj->(Obj->β)->β
 | ⟨c,d,t,s⟩,k=>k ⟨c,d,t,s⟩
def qM {β:Type}:List Obj->(List Obj->β)->β
 | [],k=>k []
 | x::r,k=>MU x λy=>qM r λys=>k (y::ys)
theorem sJ {β:Type}:∀(l:List Obj)(k:List Obj->β),qM l k=k l
 | [],_=>rfl
 | ⟨c,d,t,s⟩::r,k=>by
  show qM r (λys=>k (⟨c,d,t,s⟩::ys))=_;rw [sJ r]
def FO (p q:Program) (loose:List Str)(Xt:Shared->Bool){α:Type}(Yf:Shared->α)(g0:Bool)(h₀:Heap)(s:Shared) :=
 ((staticsOk (importedModules p.main.body) h₀ s.heap && namesBound p s.heap && gensDone s && laidKept h₀ s.heap),openSeen q loose (importedModules p.main.body) Xt g0 s,Yf s)
def Ey {β:Type}(f:Shared->β)(s:SharedT):β:=qM (s.tree.list s.n) λl=>f ⟨⟨l.toArray,s.life⟩,s.gens,s.drawn,s.toks,s.os⟩
def Ex {β:Type}(f:Shared->β)(s:SharedT):Ey f s=f s.abs:=sJ _ _
def PB {p q:Program}{loose:List Str}{Xt:Shared->Bool}{α:Type}{Yf:Shared->α}{Ya:World->α}{N:Nat}{g0:Bool}{ann:Option Value}{M:Nat}
  (Ff:∀w:World,(fencedOpening treeTable p w N).map (λs=>(s.heap,s.gens,s.drawn,s.toks))=some (boot_heap w.params,Array.mk [],boot_drawn,boot_toks))
  (size:∀w:World,((boot_heap w.params).isNs mainGlobals && (Array.mk []:Array GenState).size == 0,(boot_heap w.params).objs.size,(boot_heap w.params).nsMap mainGlobals "__annotations__")=(true,11,ann))
  (run:∀(w:World)(os:OsState),(EU (stepT (denote treeTable) p w) (stepOk 11 ann) M ⟨BP w.params,11,{},Array.mk [],boot_drawn,boot_toks,os⟩ (topStub p)).map (Ey (FO p q loose Xt Yf g0 (boot_heap w.params)))=some (true,openGood q loose,Ya w))
  (le:Nat.ble M N=true):LeftO p q loose Xt Yf Ya N g0:=λw=>by
 obtain⟨⟨h,gs,d,k,os⟩,e,e'⟩:=cq.mp (Ff w);obtain⟨rfl,rfl,rfl,rfl⟩:h=boot_heap w.params/\gs=Array.mk []/\d=boot_drawn/\k=boot_toks:=by simpa using e'
 obtain⟨z1,z2,z3⟩:_/\_/\_:=by simpa only [qV] using size w
 obtain⟨s',r0,l0⟩:=cq.mp (run w os);rw [Ex] at l0;obtain⟨l1,l2,l3⟩:_/\_/\_:=by simpa only [FO,qV] using l0
 have r:=Bo r0;have ea:SharedT.abs ⟨BP w.params,11,{},Array.mk [],boot_drawn,boot_toks,os⟩=⟨boot_heap w.params,Array.mk [],boot_drawn,boot_toks,os⟩:=by
  unfold SharedT.abs;rw [Ds]
 rw [ea] at r;have r:=topRun_mono (N - M) _ _ _ _ r;rw [show M+(N - M)=N by have:=Nat.le_of_ble_eq_true le;omega] at r;have t:topFrom treeTable p w N ⟨boot_heap w.params,Array.mk [],boot_drawn,boot_toks,os⟩=some s'.abs:=by
  unfold topFrom;dsimp only;rw [z1,z2,z3,r];show (match staticsOk (importedModules p.main.body) (boot_heap w.params) s'.abs.heap && namesBound p s'.abs.heap && gensDone s'.abs && laidKept (boot_heap w.params) s'.abs.heap with | true=>_ | false=>_)=_
  rw [l1]
 unfold openEnds;rw [e];show (topFrom treeTable p w N _).map _=_;rw [t];exact congrArg some (Prod.ext l2 l3)
end HD
set_option maxHeartbeats 0
namespace HD
open PySem PySem.W L2
def dE (P:Params)(x:Str)(t:Tok)(v:Value):DictEntry:=⟨PyData.keyHash P x,.str x t,v⟩
def top (p:Program) (i:Nat):Stmt:=p.main.body.getD i (.Pass ⟨0,0,0,0⟩)
def jw (p:Program) (i j:Nat):Stmt:=match top p i with
 | .ClassDef _ _ _ body _ _ _ _ _ _ _=>body.getD j (.Pass ⟨0,0,0,0⟩)
 | _=>.Pass ⟨0,0,0,0⟩
def posOf (s:Stmt):Pos:=match s with
 | .FunctionDef _ _ _ _ _ _ _ _ _ p=>p
 | _=>⟨0,0,0,0⟩
def cF (a:Addr)(n q:Str)(i:Nat)(l m:Int)(x y:Addr)(u v s t:Value)(z:Int)(w:Nat):Addr×Obj:=(a,⟨.type "code",none,.fields #[.str n i,.str q (i+1),.str "/claim/cut.py" (i+2),.int l 0,.int m 0,.int 0 0,.int 0 0,.int 3 0,.ref x,.bool true,.int 181 0,.ref y,u,v,s,t,.int z 0,.int l 0,.str "/claim/cut.py" w],#[]⟩)
def fF (a:Addr)(n q:Str)(s:Stmt)(m:Value):Addr×Obj:=(a,⟨.type "function",none,.func (fnOf n q (dF s) (cx s) (av s) .none .none .none m none (.ref (a-1)) .none),#[]⟩)
def dR (P:Params)(x:Str)(t:Tok)(a:Addr):DictEntry:=dE P x t (.ref a)
def m0:Value:=.str "__main__" 164
def m1:Value:=.str "wright.rules" 194
def m2:Value:=.str "wright.deed_trees" 243
def m3:Value:=.str "wright.begin_tables" 292
def m4:Value:=.str "wright.errors" 386
def m5:Value:=.str "wright.loops" 547
def m6:Value:=.str "wright.tree_sizes" 577
def m7:Value:=.str "wright.grammar_faults" 598
def m8:Value:=.str "wright.least_trees" 625
def m9:Value:=.str "wright.grammars" 711
def NL:Value:=.str "wright.trees" 754
def lW:Value:=.str "law_wright_k69_whole_deeds_and_trees" 781
noncomputable def K' (p:Program)(P:Params):Frag:=[
 (2,⟨.none,none,.dict #[] 0,#[]⟩),
 (3,⟨.type "dict",none,.dict #[dE P "__name__" 165 (.str "law_wright_k69_whole_deeds_and_trees" 781),dE P "__doc__" 166 (.none),dE P "__package__" 167 (.none),dE P "__loader__" 168 (.builtin "__main__.__loader__#opaque"),dE P "__spec__" 169 (.none),dR P "__annotations__" 170 6,dR P "__builtins__" 171 4,dE P "__file__" 173 (.str "/claim/cut.py" 172),dE P "__cached__" 174 (.none),dR P "_wall" 193 21,dR P "heads_of" 201 26,dR P "words_in" 207 31,dR P "numbers_by_name" 213 36,dR P "standings_by_part" 225 43,dR P "is_rule_of" 234 50,dR P "is_number_below" 242 57,dR P "tree_of" 250 62,dR P "do_deed" 260 69,dR P "do_step" 269 76,dR P "do_make" 281 83,dR P "is_child" 291 90,dR P "found_empties" 299 95,dR P "first_places" 310 102,dR P "BeginTable" 385 152,dR P "WrightError" 405 166,dR P "NoRules" 421 179,dR P "Twice" 446 198,dR P "Endless" 471 217,dR P "Unmet" 496 236,dR P "Loop" 521 255,dR P "Vast" 546 274,dR P "find_loop" 554 281,dR P "steps_with_like_rows" 560 286,dR P "way_back" 576 293,dR P "least_sizes" 584 298,dR P "greatest_empty_sizes" 591 305,dR P "settled_sizes" 597 310,dE P "MOST_RULES" 601 (.int (60) 600),dR P "refuse_faults" 607 315,dR P "refuse_twice" 618 322,dR P "names_met" 624 327,dR P "least_by_part" 632 332,dR P "rule_size" 638 337,dR P "empty_by_name" 644 342,dR P "LeastTrees" 710 385,dR P "Grammar" 753 414,dR P "row_of" 765 425,dR P "tree_stands" 771 430,dR P "is_top_of" 780 437,dR P "_law_cell_at" 790 444,dR P "_law_names" 796 449,dR P "_law_words" 803 456,dR P "_law_digits" 815 463,dR P "_law_skeleton" 829 470,dR P "_law_more" 844 477,dR P "_law_ended" 850 482,dR P "_law_good" 856 487,dR P "_law_grammar" 870 494,dR P "_law_whole" 877 501,dR P "_law_piled" 891 508,dR P "_law_due" 897 513,dR P "_law_deeds" 906 520,dR P "_law_can" 917 527,dR P "_law_drawn" 923 532,dR P "law" 929 537] 65,#[]⟩),
 (cF 20 "_wall" "_wall" 187 1 1 15 16 .none (.ref 17) (.ref 18) (.ref 19) 191 192),
 (fF 21 "_wall" "_wall" (top p 0) m0),
 (cF 25 "heads_of" "heads_of" 196 5 1 22 23 .none .none .none (.ref 24) 199 200),
 (fF 26 "heads_of" "heads_of" (top p 2) m1),
 (cF 30 "words_in" "words_in" 202 7 1 27 28 .none .none .none (.ref 29) 205 206),
 (fF 31 "words_in" "words_in" (top p 3) m1),
 (cF 35 "numbers_by_name" "numbers_by_name" 208 15 1 32 33 .none .none .none (.ref 34) 211 212),
 (fF 36 "numbers_by_name" "numbers_by_name" (top p 4) m1),
 (cF 42 "standings_by_part" "standings_by_part" 214 20 1 37 38 .none (.ref 39) (.ref 40) (.ref 41) 223 224),
 (fF 43 "standings_by_part" "standings_by_part" (top p 5) m1),
 (cF 49 "is_rule_of" "is_rule_of" 226 26 3 44 45 .none (.ref 46) (.ref 47) (.ref 48) 232 233),
 (fF 50 "is_rule_of" "is_rule_of" (top p 6) m1),
 (cF 56 "is_number_below" "is_number_below" 235 28 2 51 52 .none (.ref 53) (.ref 54) (.ref 55) 240 241),
 (fF 57 "is_number_below" "is_number_below" (top p 7) m1),
 (cF 61 "tree_of" "tree_of" 245 31 2 58 59 .none .none .none (.ref 60) 248 249),
 (fF 62 "tree_of" "tree_of" (top p 9) m2),
 (cF 68 "do_deed" "do_deed" 251 40 4 63 64 .none (.ref 65) (.ref 66) (.ref 67) 258 259),
 (fF 69 "do_deed" "do_deed" (top p 10) m2),
 (cF 75 "do_step" "do_step" 261 46 3 70 71 .none (.ref 72) (.ref 73) (.ref 74) 267 268),
 (fF 76 "do_step" "do_step" (top p 11) m2),
 (cF 82 "do_make" "do_make" 270 51 4 77 78 .none (.ref 79) (.ref 80) (.ref 81) 279 280),
 (fF 83 "do_make" "do_make" (top p 12) m2),
 (cF 89 "is_child" "is_child" 282 61 4 84 85 .none (.ref 86) (.ref 87) (.ref 88) 289 290),
 (fF 90 "is_child" "is_child" (top p 13) m2),
 (cF 94 "found_empties" "found_empties" 294 66 1 91 92 .none .none .none (.ref 93) 297 298),
 (fF 95 "found_empties" "found_empties" (top p 15) m3),
 (cF 101 "first_places" "first_places" 300 77 2 96 97 .none (.ref 98) (.ref 99) (.ref 100) 308 309),
 (fF 102 "first_places" "first_places" (top p 16) m3),
 (cF 113 "__init__" "BeginTable.__init__" 323 86 2 110 111 .none .none .none (.ref 112) 326 327),
 (fF 114 "__init__" "BeginTable.__init__" (jw p 17 0) m3),
 (cF 120 "find_begins" "BeginTable.find_begins" 329 97 3 115 116 .none (.ref 117) (.ref 118) (.ref 119) 338 339),
 (fF 121 "find_begins" "BeginTable.find_begins" (jw p 17 1) m3),
 (cF 127 "words_of_part" "BeginTable.words_of_part" 341 105 2 122 123 .none (.ref 124) (.ref 125) (.ref 126) 346 347),
 (fF 128 "words_of_part" "BeginTable.words_of_part" (jw p 17 2) m3),
 (cF 134 "first_words" "BeginTable.first_words" 349 108 2 129 130 .none (.ref 131) (.ref 132) (.ref 133) 354 355),
 (fF 135 "first_words" "BeginTable.first_words" (jw p 17 3) m3),
 (cF 141 "all_empty" "BeginTable.all_empty" 357 111 2 136 137 .none (.ref 138) (.ref 139) (.ref 140) 362 363),
 (fF 142 "all_empty" "BeginTable.all_empty" (jw p 17 4) m3),
 (cF 148 "words_of_parts" "BeginTable.words_of_parts" 365 114 3 143 144 .none (.ref 145) (.ref 146) (.ref 147) 371 372),
 (fF 149 "words_of_parts" "BeginTable.words_of_parts" (jw p 17 5) m3),
 (151,⟨.type "dict",none,.dict #[dE P "__module__" 318 (.str "wright.begin_tables" 292),dE P "__firstlineno__" 322 (.int (84) 321),dR P "__init__" 328 114,dR P "find_begins" 340 121,dR P "words_of_part" 348 128,dR P "first_words" 356 135,dR P "all_empty" 364 142,dR P "words_of_parts" 373 149,dR P "__static_attributes__" 378 150,dR P "__dict__" 380 153,dR P "__weakref__" 382 154,dE P "__doc__" 383 (.none)] 4,#[]⟩),
 (152,⟨.type "type",none,.cls ⟨"BeginTable",[.type "object"],[.ref 152,.type "object"],151,"BeginTable",true,[],[],false,none,false⟩,#[none,none,some (.str "BeginTable" 311),some (.str "BeginTable" 319),some (.builtin "object.__new__"),some (.bool true)]⟩),
 (153,⟨.type "getset_descriptor",none,.fields #[.str "__dict__" 379,.ref 152,.builtin "function.__dict__",.builtin "function.__dict__#set"],#[]⟩),
 (154,⟨.type "getset_descriptor",none,.fields #[.str "__weakref__" 381,.ref 152,.builtin "ExceptionGroup.__weakref__",.none],#[]⟩),
 (165,⟨.type "dict",none,.dict #[dE P "__module__" 395 (.str "wright.errors" 386),dE P "__firstlineno__" 399 (.int (117) 398),dR P "__static_attributes__" 400 164,dR P "__weakref__" 402 167,dE P "__doc__" 403 (.none)] 3,#[]⟩),
 (166,⟨.type "type",none,.cls ⟨"WrightError",[.type "ValueError"],[.ref 166,.type "ValueError",.type "Exception",.type "BaseException",.type "object"],165,"WrightError",true,[],[.ref 179,.ref 198,.ref 217,.ref 236,.ref 255,.ref 274],false,none,false⟩,#[some (.ref 157),none,some (.str "WrightError" 388),some (.str "WrightError" 396),some (.builtin "ValueError.__new__"),some (.bool true)]⟩),
 (167,⟨.type "getset_descriptor",none,.fields #[.str "__weakref__" 401,.ref 166,.builtin "ExceptionGroup.__weakref__",.none],#[]⟩),
 (178,⟨.type "dict",none,.dict #[dE P "__module__" 413 (.str "wright.errors" 386),dE P "__firstlineno__" 417 (.int (119) 416),dR P "__static_attributes__" 418 177,dE P "__doc__" 419 (.none)] 2,#[]⟩),
 (179,⟨.type "type",none,.cls ⟨"NoRules",[.ref 166],[.ref 179,.ref 166,.type "ValueError",.type "Exception",.type "BaseException",.type "object"],178,"NoRules",true,[],[],false,none,false⟩,#[some (.ref 170),none,some (.str "NoRules" 406),some (.str "NoRules" 414),some (.builtin "ValueError.__new__"),some (.bool true)]⟩),
 (cF 194 "__init__" "Twice.__init__" 434 123 2 189 190 .none (.ref 191) (.ref 192) (.ref 193) 439 440),
 (fF 195 "__init__" "Twice.__init__" (jw p 21 0) m4),
 (197,⟨.type "dict",none,.dict #[dE P "__module__" 429 (.str "wright.errors" 386),dE P "__firstlineno__" 433 (.int (121) 432),dR P "__init__" 441 195,dR P "__static_attributes__" 443 196,dE P "__doc__" 444 (.none)] 2,#[]⟩),
 (198,⟨.type "type",none,.cls ⟨"Twice",[.ref 166],[.ref 198,.ref 166,.type "ValueError",.type "Exception",.type "BaseException",.type "object"],197,"Twice",true,[],[],false,none,false⟩,#[some (.ref 182),none,some (.str "Twice" 422),some (.str "Twice" 430),some (.builtin "ValueError.__new__"),some (.bool true)]⟩),
 (cF 213 "__init__" "Endless.__init__" 459 128 2 208 209 .none (.ref 210) (.ref 211) (.ref 212) 464 465),
 (fF 214 "__init__" "Endless.__init__" (jw p 22 0) m4),
 (216,⟨.type "dict",none,.dict #[dE P "__module__" 454 (.str "wright.errors" 386),dE P "__firstlineno__" 458 (.int (126) 457),dR P "__init__" 466 214,dR P "__static_attributes__" 468 215,dE P "__doc__" 469 (.none)] 2,#[]⟩),
 (217,⟨.type "type",none,.cls ⟨"Endless",[.ref 166],[.ref 217,.ref 166,.type "ValueError",.type "Exception",.type "BaseException",.type "object"],216,"Endless",true,[],[],false,none,false⟩,#[some (.ref 201),none,some (.str "Endless" 447),some (.str "Endless" 455),some (.builtin "ValueError.__new__"),some (.bool true)]⟩),
 (cF 232 "__init__" "Unmet.__init__" 484 133 2 227 228 .none (.ref 229) (.ref 230) (.ref 231) 489 490),
 (fF 233 "__init__" "Unmet.__init__" (jw p 23 0) m4),
 (235,⟨.type "dict",none,.dict #[dE P "__module__" 479 (.str "wright.errors" 386),dE P "__firstlineno__" 483 (.int (131) 482),dR P "__init__" 491 233,dR P "__static_attributes__" 493 234,dE P "__doc__" 494 (.none)] 2,#[]⟩),
 (236,⟨.type "type",none,.cls ⟨"Unmet",[.ref 166],[.ref 236,.ref 166,.type "ValueError",.type "Exception",.type "BaseException",.type "object"],235,"Unmet",true,[],[],false,none,false⟩,#[some (.ref 220),none,some (.str "Unmet" 472),some (.str "Unmet" 480),some (.builtin "ValueError.__new__"),some (.bool true)]⟩),
 (cF 251 "__init__" "Loop.__init__" 509 138 2 246 247 .none (.ref 248) (.ref 249) (.ref 250) 514 515),
 (fF 252 "__init__" "Loop.__init__" (jw p 24 0) m4),
 (254,⟨.type "dict",none,.dict #[dE P "__module__" 504 (.str "wright.errors" 386),dE P "__firstlineno__" 508 (.int (136) 507),dR P "__init__" 516 252,dR P "__static_attributes__" 518 253,dE P "__doc__" 519 (.none)] 2,#[]⟩),
 (255,⟨.type "type",none,.cls ⟨"Loop",[.ref 166],[.ref 255,.ref 166,.type "ValueError",.type "Exception",.type "BaseException",.type "object"],254,"Loop",true,[],[],false,none,false⟩,#[some (.ref 239),none,some (.str "Loop" 497),some (.str "Loop" 505),some (.builtin "ValueError.__new__"),some (.bool true)]⟩),
 (cF 270 "__init__" "Vast.__init__" 534 143 2 265 266 .none (.ref 267) (.ref 268) (.ref 269) 539 540),
 (fF 271 "__init__" "Vast.__init__" (jw p 25 0) m4),
 (273,⟨.type "dict",none,.dict #[dE P "__module__" 529 (.str "wright.errors" 386),dE P "__firstlineno__" 533 (.int (141) 532),dR P "__init__" 541 271,dR P "__static_attributes__" 543 272,dE P "__doc__" 544 (.none)] 2,#[]⟩),
 (274,⟨.type "type",none,.cls ⟨"Vast",[.ref 166],[.ref 274,.ref 166,.type "ValueError",.type "Exception",.type "BaseException",.type "object"],273,"Vast",true,[],[],false,none,false⟩,#[some (.ref 258),none,some (.str "Vast" 522),some (.str "Vast" 530),some (.builtin "ValueError.__new__"),some (.bool true)]⟩),
 (cF 280 "find_loop" "find_loop" 549 147 1 277 278 .none .none .none (.ref 279) 552 553),
 (fF 281 "find_loop" "find_loop" (top p 27) m5),
 (cF 285 "steps_with_like_rows" "steps_with_like_rows" 555 151 1 282 283 .none .none .none (.ref 284) 558 559),
 (fF 286 "steps_with_like_rows" "steps_with_like_rows" (top p 28) m5),
 (cF 292 "way_back" "way_back" 561 160 3 287 288 .none (.ref 289) (.ref 290) (.ref 291) 574 575),
 (fF 293 "way_back" "way_back" (top p 29) m5),
 (cF 297 "least_sizes" "least_sizes" 579 176 1 294 295 .none .none .none (.ref 296) 582 583),
 (fF 298 "least_sizes" "least_sizes" (top p 31) m6),
 (cF 304 "greatest_empty_sizes" "greatest_empty_sizes" 585 178 1 299 300 .none (.ref 301) (.ref 302) (.ref 303) 589 590),
 (fF 305 "greatest_empty_sizes" "greatest_empty_sizes" (top p 32) m6),
 (cF 309 "settled_sizes" "settled_sizes" 592 180 3 306 307 .none .none .none (.ref 308) 595 596),
 (fF 310 "settled_sizes" "settled_sizes" (top p 33) m6),
 (cF 314 "refuse_faults" "refuse_faults" 602 193 2 311 312 .none .none .none (.ref 313) 605 606),
 (fF 315 "refuse_faults" "refuse_faults" (top p 36) m7),
 (cF 321 "refuse_twice" "refuse_twice" 608 212 1 316 317 .none (.ref 318) (.ref 319) (.ref 320) 616 617),
 (fF 322 "refuse_twice" "refuse_twice" (top p 37) m7),
 (cF 326 "names_met" "names_met" 619 219 1 323 324 .none .none .none (.ref 325) 622 623),
 (fF 327 "names_met" "names_met" (top p 38) m7),
 (cF 331 "least_by_part" "least_by_part" 627 229 1 328 329 .none .none .none (.ref 330) 630 631),
 (fF 332 "least_by_part" "least_by_part" (top p 40) m8),
 (cF 336 "rule_size" "rule_size" 633 237 2 333 334 .none .none .none (.ref 335) 636 637),
 (fF 337 "rule_size" "rule_size" (top p 41) m8),
 (cF 341 "empty_by_name" "empty_by_name" 639 239 2 338 339 .none .none .none (.ref 340) 642 643),
 (fF 342 "empty_by_name" "empty_by_name" (top p 42) m8),
 (cF 353 "__init__" "LeastTrees.__init__" 657 246 3 350 351 .none .none .none (.ref 352) 660 661),
 (fF 354 "__init__" "LeastTrees.__init__" (jw p 43 0) m8),
 (cF 360 "least_of" "LeastTrees.least_of" 663 253 2 355 356 .none (.ref 357) (.ref 358) (.ref 359) 668 669),
 (fF 361 "least_of" "LeastTrees.least_of" (jw p 43 1) m8),
 (cF 367 "hollow_of" "LeastTrees.hollow_of" 671 256 2 362 363 .none (.ref 364) (.ref 365) (.ref 366) 676 677),
 (fF 368 "hollow_of" "LeastTrees.hollow_of" (jw p 43 2) m8),
 (cF 374 "begun_place" "LeastTrees.begun_place" 679 259 3 369 370 .none (.ref 371) (.ref 372) (.ref 373) 685 686),
 (fF 375 "begun_place" "LeastTrees.begun_place" (jw p 43 3) m8),
 (cF 381 "begun_of" "LeastTrees.begun_of" 688 262 4 376 377 .none (.ref 378) (.ref 379) (.ref 380) 695 696),
 (fF 382 "begun_of" "LeastTrees.begun_of" (jw p 43 4) m8),
 (384,⟨.type "dict",none,.dict #[dE P "__module__" 652 (.str "wright.least_trees" 625),dE P "__firstlineno__" 656 (.int (244) 655),dR P "__init__" 662 354,dR P "least_of" 670 361,dR P "hollow_of" 678 368,dR P "begun_place" 687 375,dR P "begun_of" 697 382,dR P "__static_attributes__" 703 383,dR P "__dict__" 705 386,dR P "__weakref__" 707 387,dE P "__doc__" 708 (.none)] 4,#[]⟩),
 (385,⟨.type "type",none,.cls ⟨"LeastTrees",[.type "object"],[.ref 385,.type "object"],384,"LeastTrees",true,[],[],false,none,false⟩,#[none,none,some (.str "LeastTrees" 645),some (.str "LeastTrees" 653),some (.builtin "object.__new__"),some (.bool true)]⟩),
 (386,⟨.type "getset_descriptor",none,.fields #[.str "__dict__" 704,.ref 385,.builtin "function.__dict__",.builtin "function.__dict__#set"],#[]⟩),
 (387,⟨.type "getset_descriptor",none,.fields #[.str "__weakref__" 706,.ref 385,.builtin "ExceptionGroup.__weakref__",.none],#[]⟩),
 (397,⟨.type "tuple",none,.seq #[.none] 0,#[]⟩),
 (cF 403 "__init__" "Grammar.__init__" 725 267 3 398 399 .none (.ref 400) (.ref 401) (.ref 402) 731 732),
 (404,⟨.type "function",none,.func (fnOf "__init__" "Grammar.__init__" (dF (jw p 45 0)) (cx (jw p 45 0)) (av (jw p 45 0)) (.ref 397) (.none) (.none) (.str "wright.grammars" 711) (none) (.ref 403) (.none)),#[]⟩),
 (cF 410 "start" "Grammar.start" 734 275 1 405 406 .none (.ref 407) (.ref 408) (.ref 409) 738 739),
 (fF 411 "start" "Grammar.start" (jw p 45 1) m9),
 (413,⟨.type "dict",none,.dict #[dE P "__module__" 720 (.str "wright.grammars" 711),dE P "__firstlineno__" 724 (.int (265) 723),dR P "__init__" 733 404,dR P "start" 740 411,dR P "__static_attributes__" 746 412,dR P "__dict__" 748 415,dR P "__weakref__" 750 416,dE P "__doc__" 751 (.none)] 4,#[]⟩),
 (414,⟨.type "type",none,.cls ⟨"Grammar",[.type "object"],[.ref 414,.type "object"],413,"Grammar",true,[],[],false,none,false⟩,#[none,none,some (.str "Grammar" 713),some (.str "Grammar" 721),some (.builtin "object.__new__"),some (.bool true)]⟩),
 (415,⟨.type "getset_descriptor",none,.fields #[.str "__dict__" 747,.ref 414,.builtin "function.__dict__",.builtin "function.__dict__#set"],#[]⟩),
 (416,⟨.type "getset_descriptor",none,.fields #[.str "__weakref__" 749,.ref 414,.builtin "ExceptionGroup.__weakref__",.none],#[]⟩),
 (cF 424 "row_of" "row_of" 756 278 1 419 420 .none (.ref 421) (.ref 422) (.ref 423) 763 764),
 (fF 425 "row_of" "row_of" (top p 47) NL),
 (cF 429 "tree_stands" "tree_stands" 766 288 3 426 427 .none .none .none (.ref 428) 769 770),
 (fF 430 "tree_stands" "tree_stands" (top p 48) NL),
 (cF 436 "is_top_of" "is_top_of" 772 302 3 431 432 .none (.ref 433) (.ref 434) (.ref 435) 778 779),
 (fF 437 "is_top_of" "is_top_of" (top p 49) NL),
 (cF 443 "_law_cell_at" "_law_cell_at" 783 307 2 438 439 .none (.ref 440) (.ref 441) (.ref 442) 788 789),
 (fF 444 "_law_cell_at" "_law_cell_at" (top p 51) lW),
 (cF 448 "_law_names" "_law_names" 791 311 1 445 446 .none .none .none (.ref 447) 794 795),
 (fF 449 "_law_names" "_law_names" (top p 52) lW),
 (cF 455 "_law_words" "_law_words" 797 314 1 450 451 .none (.ref 452) (.ref 453) (.ref 454) 801 802),
 (fF 456 "_law_words" "_law_words" (top p 53) lW),
 (cF 462 "_law_digits" "_law_digits" 804 316 3 457 458 .none (.ref 459) (.ref 460) (.ref 461) 813 814),
 (fF 463 "_law_digits" "_law_digits" (top p 54) lW),
 (cF 469 "_law_skeleton" "_law_skeleton" 816 327 4 464 465 .none (.ref 466) (.ref 467) (.ref 468) 827 828),
 (fF 470 "_law_skeleton" "_law_skeleton" (top p 55) lW),
 (cF 476 "_law_more" "_law_more" 830 338 5 471 472 .none (.ref 473) (.ref 474) (.ref 475) 842 843),
 (fF 477 "_law_more" "_law_more" (top p 56) lW),
 (cF 481 "_law_ended" "_law_ended" 845 345 2 478 479 .none .none .none (.ref 480) 848 849),
 (fF 482 "_law_ended" "_law_ended" (top p 57) lW),
 (cF 486 "_law_good" "_law_good" 851 354 1 483 484 .none .none .none (.ref 485) 854 855),
 (fF 487 "_law_good" "_law_good" (top p 58) lW),
 (cF 493 "_law_grammar" "_law_grammar" 857 376 2 488 489 .none (.ref 490) (.ref 491) (.ref 492) 868 869),
 (fF 494 "_law_grammar" "_law_grammar" (top p 59) lW),
 (cF 500 "_law_whole" "_law_whole" 871 389 1 495 496 .none (.ref 497) (.ref 498) (.ref 499) 875 876),
 (fF 501 "_law_whole" "_law_whole" (top p 60) lW),
 (cF 507 "_law_piled" "_law_piled" 878 391 4 502 503 .none (.ref 504) (.ref 505) (.ref 506) 889 890),
 (fF 508 "_law_piled" "_law_piled" (top p 61) lW),
 (cF 512 "_law_due" "_law_due" 892 408 2 509 510 .none .none .none (.ref 511) 895 896),
 (fF 513 "_law_due" "_law_due" (top p 62) lW),
 (cF 519 "_law_deeds" "_law_deeds" 898 420 1 514 515 .none (.ref 516) (.ref 517) (.ref 518) 904 905),
 (fF 520 "_law_deeds" "_law_deeds" (top p 63) lW),
 (cF 526 "_law_can" "_law_can" 907 427 3 521 522 .none (.ref 523) (.ref 524) (.ref 525) 915 916),
 (fF 527 "_law_can" "_law_can" (top p 64) lW),
 (cF 531 "_law_drawn" "_law_drawn" 918 433 2 528 529 .none .none .none (.ref 530) 921 922),
 (fF 532 "_law_drawn" "_law_drawn" (top p 65) lW),
 (cF 536 "law" "law" 924 456 1 533 534 .none .none .none (.ref 535) 927 928),
 (fF 537 "law" "law" (top p 66) lW)]
def as:List Addr:=[2,3,20,21,25,26,30,31,35,36,42,43,49,50,56,57,61,62,68,69,75,76,82,83,89,90,94,95,101,102,113,114,120,121,127,128,134,135,141,142,148,149,151,152,153,154,165,166,167,178,179,194,195,197,198,213,214,216,217,232,233,235,236,251,252,254,255,270,271,273,274,280,281,285,286,292,293,297,298,304,305,309,310,314,315,321,322,326,327,331,332,336,337,341,342,353,354,360,361,367,368,374,375,381,382,384,385,386,387,397,403,404,410,411,413,414,415,416,424,425,429,430,436,437,443,444,448,449,455,456,462,463,469,470,476,477,481,482,486,487,493,494,500,501,507,508,512,513,519,520,526,527,531,532,536,537]
def q' (p:Program):Program:=view p [0,2,3,4,5,6,7,9,10,11,12,13,15,16,17,19,20,21,22,23,24,25,27,28,29,31,32,33,35,36,37,38,40,41,42,43,45,47,48,49,51,52,53,54,55,56,57,58,59,60,61,62,63,64,65,66]
abbrev loose:List Str:=[]
abbrev steps:Nat:=4079
abbrev bound:Nat:=9138
abbrev CJ:OpenLaw:=PySem.Challenge.rw_wright_k69_whole_deeds_and_trees
noncomputable abbrev K (P:Params):Frag:=K' PySem.Challenge.pw_wright_k69_whole_deeds_and_trees P
theorem Q9 (P:Params):as=(K P).map (·.1):=by kernel_rfl
noncomputable abbrev hook:Hook:=kmHook K as Q9 [329,300,295]
def pre (h:CJ.row.wellSaid=true->CJ.row.Holds):CJ.Holds:=by
 o_law
 exact h (by assumption)
abbrev Xt:Shared->Bool:=λs=>xlAt (q' PySem.Challenge.pw_wright_k69_whole_deeds_and_trees) [] s && recOk (RowW.records (OpenRow.toRowW (OpenLaw.row PySem.Challenge.rw_wright_k69_whole_deeds_and_trees))) s
def run (w:World)(os:OsState):(EU (stepT (denote treeTable) PySem.Challenge.pw_wright_k69_whole_deeds_and_trees w) (stepOk 11 (some (.ref 6))) steps ⟨BP w.params,11,{},Array.mk [],boot_drawn,boot_toks,os⟩ (topStub PySem.Challenge.pw_wright_k69_whole_deeds_and_trees)).map
  (Ey (FO PySem.Challenge.pw_wright_k69_whole_deeds_and_trees (q' PySem.Challenge.pw_wright_k69_whole_deeds_and_trees) loose Xt (Hook.obs hook) true (boot_heap w.params)))=some (true,openGood (q' PySem.Challenge.pw_wright_k69_whole_deeds_and_trees) loose,Hook.val hook w):=by
 rw [PySem.W.Fast.te10156331382660048174,PySem.W.Fast.te11892475500146522536,PySem.W.Fast.te14364793385576792824,PySem.W.Fast.te6613529449190102663,PySem.W.Fast.te4721649034863554393]
 kernel_rfl
theorem size (w:World):((boot_heap w.params).isNs mainGlobals && (Array.mk []:Array GenState).size == 0,(boot_heap w.params).objs.size,(boot_heap w.params).nsMap mainGlobals "__annotations__")=(true,11,some (.ref 6)):=by kernel_rfl
def Ff:∀w:World,(fencedOpening treeTable PySem.Challenge.pw_wright_k69_whole_deeds_and_trees w bound).map (λs=>(s.heap,s.gens,s.drawn,s.toks))=some (boot_heap w.params,Array.mk [],boot_drawn,boot_toks) :=
 boot_open (nofun) nofun (λs=>by kernel_rfl)
def left:LeftO (OpenRow.toRowW CJ.row).prog (q' PySem.Challenge.pw_wright_k69_whole_deeds_and_trees) loose Xt (Hook.obs hook) (Hook.val hook) bound:=PB Ff size run nofun
def kW:DefRec:={ name := "law",params:=dF (top PySem.Challenge.pw_wright_k69_whole_deeds_and_trees 66),body:=cx (top PySem.Challenge.pw_wright_k69_whole_deeds_and_trees 66),scope:=av (top PySem.Challenge.pw_wright_k69_whole_deeds_and_trees 66),pos:=posOf (top PySem.Challenge.pw_wright_k69_whole_deeds_and_trees 66) }
def ok1:defOf (q' PySem.Challenge.pw_wright_k69_whole_deeds_and_trees) CJ.row.name=some (kW,[]):=by kernel_rfl
def ok2:CJ.row.prog.theDef CJ.row.name=some (kW.params,kW.body,kW.scope):=by kernel_rfl
def ok3:kwWritten? kW.params.kwonlyargs kW.params.kw_defaults=some []:=by kernel_rfl
def ok4:(chainsOk (q' PySem.Challenge.pw_wright_k69_whole_deeds_and_trees) && opensWell CJ.row.prog && (frees CJ.row.toRowW && CJ.row.within.isEmpty))=true:=by kernel_rfl
def ok5:kW.params.defaults=[]:=by kernel_rfl
def hold (h:WalkO (q' PySem.Challenge.pw_wright_k69_whole_deeds_and_trees) loose (XL (q' PySem.Challenge.pw_wright_k69_whole_deeds_and_trees) []) (Hook.says hook) CJ.row.toRowW kW [] λf vs=>PySem.call f vs)(hw:CJ.row.toRowW.promised):CJ.Holds :=
 pre λTF=>holds_open (q:=q' PySem.Challenge.pw_wright_k69_whole_deeds_and_trees) (loose:=loose) (Xt:=Xt) (XP:=XL (q' PySem.Challenge.pw_wright_k69_whole_deeds_and_trees) []) (Yf:=Hook.obs hook) (Ya:=Hook.val hook) (YP:=Hook.says hook) (N:=bound) left (Hook.of hook) (Hook.keeps hook) (λs e=>xl_of s (h_.mp e).1) XL.keeps ok1 ok2 ok3 (λs e=>recFacts_of (h_.mp e).2) rfl TF ok4 ⟨rfl,rfl,rfl,rfl,rfl,nofun⟩ hw h
end HD
set_option maxHeartbeats 4000000
namespace L2
open PySem PySem.Spec PyProof.Rows
abbrev tG:=Nat->St->Hp->Prop
def AA {CX:yH}{P:Program}{w:World}{K:a9}{mg:Str->Option Value}{base:Heap}{N:List Str}{qual:Str}{scope:Scope}{f:Addr}{cd:Value}{A:Around}{outer:List Env}{s:Shared}{H:Hp}{E:XK}:(pQ CX P w K mg base N qual scope f cd A outer s H E).CB.K=K:=rfl
def UI {t:TS}{D:Ends}{σ:St}{H:Hp}(h:let E:=D;t E σ H):t D σ H:=h
def UG {t u:TS}{D:Ends}{σ:St}{H:Hp}(h:let E:={ D with nx:=u D };t E σ H):Lc t u D σ H:=h
def Pz {t u:TS}{D:Ends}{σ:St}{H:Hp}(h:let E:=D;let F:={ E with nx:=u E };t F σ H):Lc t u D σ H:=h
def UH {g:TG}{x:V}{σ:St}{H:Hp}{t:TS}{D:Ends}(h:let E:=D;g x σ H λσ2 H2=>t E σ2 H2):g x σ H λσ2 H2=>t D σ2 H2:=h
end L2
local macro_rules | `(tactic| nofun) => `(tactic| (dsimp only [L2.AA];refine L2.UG ?_;intro _))
local macro_rules | `(tactic| ac_rfl) => `(tactic| (refine L2.Pz ?_;intro _ _))
local macro_rules | `(tactic| ac_nf0) => `(tactic| (refine L2.UH ?_;intro _))
local macro_rules | `(tactic| ac_nf) => `(tactic| (refine L2.UI ?_;intro _))
set_option maxHeartbeats 0
namespace L2
open PySem PySem.Spec PyProof.Rows
section
variable {κ:Type} [DecidableEq κ]
def bB (kvs:List (κ×V))(k:κ):Option V:=(kvs.find? λkv=>decide (kv.1=k)).map (·.2)
def bS (kvs:List (κ×V))(k:κ)(v:V):List (κ×V) :=
 if (kvs.any λkv=>decide (kv.1=k))=true then kvs.map (λkv=>if kv.1=k then (kv.1,v) else kv) else kvs++[(k,v)]
def KL (kvs:List (κ×V))(k:κ):List (κ×V):=kvs.filter λkv=>decide (kv.1≠k)
def eX {p:κ×V}{r:List (κ×V)}{k:κ}(e:p.1=k):bB (p::r) k=some p.2:=by simp [bB,oQ,e]
def eY {p:κ×V}{r:List (κ×V)}{k:κ}(e:¬p.1=k):bB (p::r) k=bB r k:=by simp [bB,oQ,e]
theorem jo (k:κ):∀kvs:List (κ×V),(kvs.any λkv=>decide (kv.1=k))=(bB kvs k).isSome
 | []=>rfl
 | p::r=>by
  rw [qU];by_cases e:p.1=k
  .simp only [eX e,bW e,Bool.true_or,Option.isSome_some]
  rw [eY e,dq e,Bool.false_or];exact jo k r
theorem wW (k j:κ)(y:V):∀kvs:List (κ×V),bB (kvs.map λkv=>if kv.1=k then (kv.1,y) else kv) j=(bB kvs j).map λx=>if j=k then y else x
 | []=>rfl
 | p::r=>by
  have ih:=wW k j y r;rw [cu];by_cases h:p.1=k
  .rw [ax h];by_cases e:p.1=j
   .rw [eX (p:=(p.1,y)) e,eX e,qY,ax (e.symm.trans h)]
   rw [eY (p:=(p.1,y)) e,eY e,ih]
  rw [az h];by_cases e:p.1=j
  .rw [eX (p:=p) e,eX e,qY,az (λz=>h (e.trans z))]
  rw [eY (p:=p) e,eY e,ih]
theorem uc (k j:κ)(y:V):∀kvs:List (κ×V),bB kvs k=none->bB (kvs++[(k,y)]) j=if j=k then some y else bB kvs j
 | [],_=>by
  by_cases e:k=j
  .rw [ax e.symm];exact eX (p:=(k,y)) e
  rw [az (λz=>e z.symm)];exact eY (p:=(k,y)) e
 | p::r,hn=>by
  rw [List.cons_append];have hk:¬p.1=k:=λz=>by rw [eX z] at hn;cases hn
  rw [eY hk] at hn;have ih:=uc k j y r hn;by_cases e:p.1=j
  .rw [eX e,eX e,az (λz=>hk (e.trans z))]
  rw [eY e,eY e,ih]
def wV (kvs:List (κ×V))(k j:κ)(y:V):bB (bS kvs k y) j=if j=k then some y else bB kvs j:=by
 unfold bS;by_cases a:(kvs.any λkv=>decide (kv.1=k))=true
 .rw [ax a,wW];rw [jo] at a;by_cases e:j=k
  .obtain⟨x,hx⟩:=mX.mp a;rw [ax e,e,hx,qY,ax rfl]
  rw [az e];cases bB kvs j with
  | none=>rfl
  | some x=>rw [qY,az e]
 rw [az a];refine uc k j y kvs ?_;rw [jo] at a;cases q:bB kvs k with
 | none=>rfl
 | some x=>rw [q] at a;exact(a rfl).elim
def fu (kvs:List (κ×V))(k:κ)(v:V):(bS kvs k v).length<=kvs.length+1:=by
 unfold bS
 split
 .rw [au];omega
 rw [bM,dN,iV];omega
def xq {kvs:List (κ×V)}{k:κ}(v:V)(h:bB kvs k=none):bS kvs k v=kvs++[(k,v)]:=by
 unfold bS;rw [jo,h];exact az nofun
def jS.jx {o:Option V}{u:Option Value}(r:jS o u):o.isSome=u.isSome:=by
 cases o with
 | none=>cases u with
  | none=>rfl
  | some _=>exact(show False from r).elim
 | some _=>cases u with
  | none=>exact(show False from r).elim
  | some _=>rfl
theorem jS.getD {o:Option V}{u:Option Value}{d:V}{d':Value}(r:jS o u)(rd:RelV d d'):RelV (o.getD d) (u.getD d'):=by
 cases o with
 | none=>cases u with
  | none=>exact rd
  | some _=>exact(show False from r).elim
 | some _=>cases u with
  | none=>exact(show False from r).elim
  | some _=>exact r
def KV.val {kvs:List (κ×V)}{vs:List (κ×Value)}(r:KV kvs vs)(k:κ):jS (bB kvs k) (valueAt vs k):=by
 unfold KV at r
 induction r with
 | nil=>exact True.intro
 | @cons p q ps qs h t ih =>
  obtain⟨h1,h2⟩:=h;by_cases e:p.1=k
  .have e':q.1=k:=h1.symm.trans e;have b:valueAt (q::qs) k=some q.2:=by simp [valueAt,oQ,e']
   rw [eX e,b];exact h2
  have e':¬q.1=k:=λz=>e (h1.trans z);have b:valueAt (q::qs) k=valueAt qs k:=by simp [valueAt,oQ,e']
  rw [eY e,b];exact ih
theorem KV.any {kvs:List (κ×V)}{vs:List (κ×Value)}(r:KV kvs vs)(k:κ):(kvs.any λkv=>decide (kv.1=k))=vs.any λkv=>decide (kv.1=k):=by
 unfold KV at r
 induction r with
 | nil=>rfl
 | cons h t ih=>rw [qU,qU,ih,h.1]
def KV.LG {kvs:List (κ×V)}{vs:List (κ×Value)}(r:KV kvs vs)(k:κ){y:V}{u:Value}(ry:RelV y u) :
  KV (kvs.map λkv=>if kv.1=k then (kv.1,y) else kv) (vs.map λkv=>if kv.1=k then (kv.1,u) else kv):=by
 unfold KV at r ⊢
 induction r with
 | nil=>exact .nil
 | @cons p q ps qs h t ih =>
  rw [cu,cu];refine .cons ?_ ih;obtain⟨h1,h2⟩:=h;by_cases e:p.1=k
  .rw [ax e,ax (h1.symm.trans e)];exact⟨h1,ry⟩
  rw [az e,az (λz=>e (h1.trans z))];exact⟨h1,h2⟩
def KV.put {kvs:List (κ×V)}{vs:List (κ×Value)}(r:KV kvs vs)(k:κ){y:V}{u:Value}(ry:RelV y u):KV (bS kvs k y) (stored vs k u):=by
 unfold bS stored;rw [r.any k];by_cases e:(vs.any λkv=>decide (kv.1=k))=true
 .rw [ax e,ax e];exact r.LG k ry
 rw [az e,az e];exact gR r ⟨rfl,ry⟩
def KV.drop {kvs:List (κ×V)}{vs:List (κ×Value)}(r:KV kvs vs)(k:κ):KV (KL kvs k) (without vs k):=by
 unfold KV at r ⊢;unfold KL without
 induction r with
 | nil=>exact .nil
 | @cons p q ps qs h t ih =>
  obtain⟨h1,h2⟩:=h;rw [uX,uX];by_cases e:p.1=k
  .have a:¬decide (p.1≠k)=true:=by simp [e]
   have b:¬decide (q.1≠k)=true:=by simp [h1.symm.trans e]
   rw [az a,az b];exact ih
  have e':¬q.1=k:=λz=>e (h1.trans z);have a:decide (p.1≠k)=true:=by simp [e]
  have b:decide (q.1≠k)=true:=by simp [e']
  rw [ax a,ax b];exact .cons ⟨h1,h2⟩ ih
def KV.keys {kvs:List (κ×V)}{vs:List (κ×Value)}(r:KV kvs vs):kvs.map (·.1)=vs.map (·.1):=by
 unfold KV at r
 induction r with
 | nil=>rfl
 | cons h t ih=>rw [cu,cu,ih,h.1]
theorem KV.length {kvs:List (κ×V)}{vs:List (κ×Value)}(r:KV kvs vs):kvs.length=vs.length:=aY r
end
def lY {P:Program}{w:World}{k:aS}{u:Value}(r:RelV (kV k) u):(bj P w).is k u=true:=by
 cases k with
 | inl i=>obtain⟨t,e⟩:=(show ∃t,u=Value.int i t from r);subst e;exact xI P w i t
 | inr x=>obtain⟨t,e⟩:=(show ∃t,u=Value.str x t from r);subst e;exact xH P w x t
theorem uy {P:Program}{w:World}:∀{ks:List aS}{us:List Value},a_ (ks.map kV) us->ItemsAre (bj P w) ks us
 | [],_,r=>by rw [jG] at r;cases r;exact .nil
 | k::ks,_,r=>by
  rw [cu] at r;cases r with
  | cons h t=>exact .cons (lY h) (uy t)
abbrev KT (H:Hp):List (List aS×V)->List (List aS×Addr×Value)->Prop:=Paired λp q=>p.1=q.1/\H q.2.1=some (.tup (p.1.map kV))/\RelV p.2 q.2.2
def KT.val {H:Hp}{kvs:List (List aS×V)}{xs:List (List aS×Addr×Value)}(r:KT H kvs xs)(k:List aS):jS (bB kvs k) ((atKey xs k).map (·.2)):=by
 induction r with
 | nil=>exact True.intro
 | @cons p q ps qs h t ih =>
  obtain⟨h1,_,h2⟩:=h;by_cases e:p.1=k
  .have e':q.1=k:=h1.symm.trans e;have b:atKey (q::qs) k=some q.2:=by simp [atKey,oQ,e']
   rw [eX e,b];exact h2
  have e':¬q.1=k:=λz=>e (h1.trans z);have b:atKey (q::qs) k=atKey qs k:=by simp [atKey,oQ,e']
  rw [eY e,b];exact ih
def KT.LG {H:Hp}{kvs:List (List aS×V)}{xs:List (List aS×Addr×Value)}(r:KT H kvs xs)(k:List aS){y:V}{u:Value}(ry:RelV y u) :
  KT H (kvs.map λkv=>if kv.1=k then (kv.1,y) else kv) (xs.map (putAt k u)):=by
 induction r with
 | nil=>exact .nil
 | @cons p q ps qs h t ih =>
  rw [cu,cu];refine .cons ?_ ih;obtain⟨h1,h2,h3⟩:=h;unfold putAt;by_cases e:p.1=k
  .rw [ax e,ax (h1.symm.trans e)];exact⟨h1,h2,ry⟩
  rw [az e,az (λz=>e (h1.trans z))];exact⟨h1,h2,h3⟩
def KT.put {H:Hp}{kvs:List (List aS×V)}{xs:List (List aS×Addr×Value)}(r:KT H kvs xs)(k:List aS){b:Addr}{y:V}{u:Value}(hb:H b=some (.tup (k.map kV)))(ry:RelV y u) :
  KT H (bS kvs k y) (storedH xs k b u):=by
 have e:(kvs.any λkv=>decide (kv.1=k))=(atKey xs k).isSome:=by
  rw [jo,(r.val k).jx,oX]
 unfold bS storedH;rw [e];by_cases q:(atKey xs k).isSome=true
 .rw [ax q,ax q];exact r.LG k ry
 rw [az q,az q];exact gR r ⟨rfl,hb,ry⟩
def KT.keeps {H H':Hp}{kvs:List (List aS×V)}{xs:List (List aS×Addr×Value)}(r:KT H kvs xs)(ht:∀b ys,H b=some (.tup ys)->H' b=some (.tup ys)):KT H' kvs xs :=
 Paired.dJ r λ_ _ z=>⟨z.1,ht _ _ z.2.1,z.2.2⟩
section
variable {P:Program}{w:World}{H:Hp}{h:Heap}{a:Addr}
def JV {u:HO}(ok:l8 P w H h)(e:Rd H a u):cH P w H h a u:=e.ok ok
def ox {kvs:List (aS×V)}(ok:l8 P w H h)(e:Rd H a (.dK kvs)):kvs.length<=sizeLine/\(a == sysModules)=false/\∃vs,KV kvs vs/\h.DictOf (bj P w) a vs :=
 show cH P w H h a (.dK kvs) from JV ok e
def xX {kvs:List (aS×V)}(ok:l8 P w H h)(e:H a=some (.dK kvs)):kvs.length<=sizeLine/\(a == sysModules)=false/\∃vs,KV kvs vs/\h.DictOf (bj P w) a vs:=ox ok (.inl e)
def mE {ks:List aS}(ok:l8 P w H h)(e:H a=some (.tup (ks.map kV))):(tupleKind (bj P w)).is h ks a:=by
 obtain⟨_,aU,r,o,h1,h2,n,h3⟩:=(show cH P w H h a (.tup (ks.map kV)) from ok a _ e);exact⟨o,aU.toArray,n,h1,h2,h3,by simpa using uy r⟩
def sR {kvs:List (List aS×V)}(ok:l8 P w H h)(e:Rd H a (.dT kvs)):kvs.length<=sizeLine/\(a == sysModules)=false /\
  ∃xs,KT H kvs xs/\h.DictOfH (tupleKind (bj P w)) a xs:=by
 obtain⟨z,y,xs,r,o,es,ep,h1,h2,h3,h4,h5⟩:=(show cH P w H h a (.dT kvs) from JV ok e);refine⟨z,y,xs,r,o,es,ep,h1,h2,h3,h4,λx hx=>?_,h5⟩;have all:∀{l:List (List aS×V)}{m:List (List aS×Addr×Value)},KT H l m->∀x∈m,(tupleKind (bj P w)).is h x.1 x.2.1:=by
  intro l m q
  induction q with
  | nil=>intro x hx;exact nomatch hx
  | @cons p q ps qs hq t ih =>
   intro x hx;rcases cA.mp hx with e | hx
   .subst e;exact mE ok (by rw [<-hq.1];exact hq.2.1)
   exact ih x hx
 exact all r x hx
def QY {kvs:List (List aS×V)}(ok:l8 P w H h)(e:H a=some (.dT kvs)):kvs.length<=sizeLine/\(a == sysModules)=false /\
  ∃xs,KT H kvs xs/\h.DictOfH (tupleKind (bj P w)) a xs:=sR ok (.inl e)
end
def cz (H:Hp)(a:Addr)(y:V)(r:Option V):Prop :=
 (∃kvs k,Rd H a (.dK kvs)/\y=kV k/\r=bB kvs k)\/∃kvs k b,Rd H a (.dT kvs)/\y=.ref b/\H b=some (.tup (k.map kV))/\r=bB kvs k
def pV (H:Hp)(a:Addr)(y v:V)(H':Hp):Prop :=
 (∃kvs k,H a=some (.dK kvs)/\y=kV k/\kvs.length < sizeLine/\H'=upd H a (.dK (bS kvs k v))) \/
 ∃kvs k b,H a=some (.dT kvs)/\y=.ref b/\H b=some (.tup (k.map kV))/\kvs.length < sizeLine/\H'=upd H a (.dT (bS kvs k v))
theorem cz.k {H:Hp}{a:Addr}{kvs:List (aS×V)}{k:aS}(e:H a=some (.dK kvs)):cz H a (kV k) (bB kvs k):=.inl ⟨kvs,k,.inl e,rfl,rfl⟩
def cz.t {H:Hp}{a b:Addr}{kvs:List (List aS×V)}{k:List aS}(e:H a=some (.dT kvs))(eb:H b=some (.tup (k.map kV))):cz H a (.ref b) (bB kvs k):=.inr ⟨kvs,k,b,.inl e,rfl,eb,rfl⟩
theorem pV.k {H:Hp}{a:Addr}{kvs:List (aS×V)}{k:aS}{v:V}(e:H a=some (.dK kvs))(hl:kvs.length < sizeLine):pV H a (kV k) v (upd H a (.dK (bS kvs k v))):=.inl ⟨kvs,k,e,rfl,hl,rfl⟩
def pV.t {H:Hp}{a b:Addr}{kvs:List (List aS×V)}{k:List aS}{v:V}(e:H a=some (.dT kvs))(eb:H b=some (.tup (k.map kV)))(hl:kvs.length < sizeLine) :
  pV H a (.ref b) v (upd H a (.dT (bS kvs k v))):=.inr ⟨kvs,k,b,e,rfl,eb,hl,rfl⟩
section
variable {X:Cx}{ag:List (Addr×Obj)}{σ:St}{H:Hp}{s:Shared}{a:Addr}{y v:V}{u r:Value}{o:Option V}{A:Around}{E:Value->Shared->Prop}
def Inv.big (I:Inv X ag σ H s):sysModules < s.heap.objs.size:=by
 have h:mainGlobals < s.heap.objs.size:=(I.mod.glob.keeps I.bk).lt;exact me nofun h
def Di {Q:Value->Shared->Prop}(hu:A.units+1 < cLine)(I:Inv X ag σ H s)(g:cz H a y (some v))(ry:RelV y u)(h:∀w' s',Inv X ag σ H s'->RelV v w'->Q w' s') :
  wpAny (model X.prog X.w) A (getItem (.ref a) u) Q E s:=by
 rcases g with ⟨kvs,k,e,ey,l⟩ | ⟨kvs,k,b,e,ey,eb,l⟩
 .subst ey;obtain⟨z,hd,vs,rel,dd⟩:=ox I.b8 e;obtain⟨w',hw,zz⟩:=jS.some_of (v:=v) (o:=valueAt vs k) (by rw [l];exact rel.val k);exact wpAny_getItem_of (lY ry) dd.mapOf hw (h w' _ (I.tok _) zz)
 subst ey;cases (show u=Value.ref b from ry);obtain⟨z,hd,xs,rel,dd⟩:=sR I.b8 e;obtain⟨w',hw,zz⟩:=jS.some_of (v:=v) (o:=(atKey xs k).map (·.2)) (by rw [l];exact rel.val k);obtain⟨p,hp,oC⟩:=cq.mp hw;refine wpAny_getItem_heap (oV hu) (mE I.b8 eb) dd hp ?_;rw [oC];exact h w' _ (I.tok _) zz
def WC {Q:Value->Shared->Prop}(hu:A.units+1 < cLine)(I:Inv X ag σ H s)(g:cz H a y o)(ry:RelV y u)(h:∀s',Inv X ag σ H s'->Q (.bool o.isSome) s') :
  wpAny (model X.prog X.w) A (compareOp .In u (.ref a)) Q E s:=by
 rcases g with ⟨kvs,k,e,ey,l⟩ | ⟨kvs,k,b,e,ey,eb,l⟩
 .subst ey;obtain⟨z,hd,vs,rel,dd⟩:=ox I.b8 e;refine wpAny_in_of (lY ry) hd dd.mapOf ?_;rw [<-(rel.val k).jx,<-l];exact h _ (I.tok _)
 subst ey;cases (show u=Value.ref b from ry);obtain⟨z,hd,xs,rel,dd⟩:=sR I.b8 e;refine wpAny_in_heap (oV hu) (mE I.b8 eb) hd dd ?_;have q:=(rel.val k).jx;rw [oX] at q;rw [<-q,<-l];exact h _ (I.tok _)
def Jr {Q:Value->Shared->Prop}(hu:A.units+1 < cLine)(I:Inv X ag σ H s)(g:cz H a y o)(ry:RelV y u)(h:∀s',Inv X ag σ H s'->Q (.bool (!o.isSome)) s') :
  wpAny (model X.prog X.w) A (compareOp .NotIn u (.ref a)) Q E s:=by
 rcases g with ⟨kvs,k,e,ey,l⟩ | ⟨kvs,k,b,e,ey,eb,l⟩
 .subst ey;obtain⟨z,hd,vs,rel,dd⟩:=ox I.b8 e;refine wpAny_notIn_of (lY ry) hd dd.mapOf ?_;rw [<-(rel.val k).jx,<-l];exact h _ (I.tok _)
 subst ey;cases (show u=Value.ref b from ry);obtain⟨z,hd,xs,rel,dd⟩:=sR I.b8 e;refine wpAny_notIn_heap (oV hu) (mE I.b8 eb) hd dd ?_;have q:=(rel.val k).jx;rw [oX] at q;rw [<-q,<-l];exact h _ (I.tok _)
def qP {h':Heap}{t':Nat}{ob:HO}(I:Inv X ag σ H s)(mu:Rj (H a))(hs:Heap.SameBut a s.heap h')(he:∃q,h'.get? a=some q)(new:cH X.prog X.w (upd H a ob) h' a ob) :
  Inv X ag σ (upd H a ob) { s with heap:=h',toks:=t' } :=
 I.write (x:=a) (e:=a) mu (.inl rfl) (λb q hb z=>(hs.2 b hb).trans z) he new
def sS {P:Program}{w:World}{H':Hp}{h':Heap}{kvs:List (aS×V)}{vs:List (aS×Value)}(z:kvs.length<=sizeLine)(hd:(a == sysModules)=false)(rel:KV kvs vs)(dd:h'.DictOf (bj P w) a vs) :
  cH P w H' h' a (.dK kvs):=⟨z,hd,vs,rel,dd⟩
def Dh {H':Hp}{Q:Unit->Shared->Prop}(hu:A.units+1 < cLine)(I:Inv X ag σ H s)(g:pV H a y v H')(ry:RelV y u)(rv:RelV v r)(h:∀s',Inv X ag σ H' s'->Q () s') :
  wpAny (model X.prog X.w) A (setItem (.ref a) u r) Q E s:=by
 rcases g with ⟨kvs,k,e,ey,l,eH⟩ | ⟨kvs,k,b,e,ey,eb,l,eH⟩
 .subst ey eH;obtain⟨z,hd,vs,rel,dd⟩:=xX I.b8 e;have hz:vs.length<=sizeLine:=by rw [<-rel.length];exact z
  have hl:(bS kvs k v).length<=sizeLine:=by have:=fu kvs k v;omega
  refine wpAny_setItem_pairs (hsz:=hz) (lY ry) dd λh' HP hs=>h _ ?_;have he:∃q,h'.get? a=some q:=let ⟨q,_,_,hq,_⟩:=HP;⟨q,hq⟩;exact qP I (by rw [e];exact True.intro) hs he (sS hl hd (rel.put k rv) HP)
 subst ey eH;cases (show u=Value.ref b from ry);obtain⟨z,hd,xs,rel,dd⟩:=QY I.b8 e;have hz:xs.length<=sizeLine:=by rw [<-aY rel];exact z
 have hl:(bS kvs k v).length<=sizeLine:=by have:=fu kvs k v;omega
 refine wpAny_setItem_heap (hsz:=hz) (oV hu) (mE I.b8 eb) dd λh' HP hs=>h _ ?_;obtain⟨q,es,ep,hq,h2,h3,h4,_,h5⟩:=HP;refine qP I (by rw [e];exact True.intro) hs ⟨q,hq⟩ ⟨hl,hd,_,(rel.put k eb rv).keeps λc ys ec=>?_,q,es,ep,hq,h2,h3,h4,h5⟩;rw [aj (Pp ec e (λz=>nomatch z))];exact ec
end
section
variable {X:Cx}{ag:List (Addr×Obj)}{σ:St}{H:Hp}{s:Shared}{a:Addr}{kvs:List (aS×V)}{k:aS}{u:Value}{A:Around}{E:Value->Shared->Prop}
def Q2 {Q:Value->Shared->Prop}(I:Inv X ag σ H s)(e:Rd H a (.dK kvs))(h:∀t s',Inv X ag σ H s'->Q (.int kvs.length t) s'):wpAny (model X.prog X.w) A (call (.builtin "len") [.ref a]) Q E s:=by
 obtain⟨z,hd,vs,rel,dd⟩:=ox I.b8 e;refine call_len_dict hd dd (by rw [<-rel.length];rw [sizeLine_eq] at z;omega) ?_;rw [<-rel.length];exact h _ _ (I.tok _)
end
def Ri (i:Expr):Prop:=∀ov iv,subscripted i false ov iv=operate [ov,iv] (getItem ov iv)
def A1 {prog:Program}{w:World}{A:Around}{E:Value->Shared->Prop}{s:Shared}{env:Env}{value slice:Expr}{pos:Pos}{T id:String}{Q:Value->Shared->Prop}
  (hl:typeLookup (.type T) "__getitem__"=pure (some (.builtin id)))(hs:Ri slice)
  (h:wpAny (model prog w) A (eval value env) (λo s₁=>wpAny (model prog w) A (eval slice env) (λi s₂=>s₂.TypeIs o T/\wpAny (model prog w) A (getItem o i) Q E s₂) E s₁) E s) :
  wpAny (model prog w) A (eval (.Subscript value slice pos) env) Q E s:=by
 refine Subscript_ (dH h (λo s₁ h₁=>dH h₁ (λi s₂ h₂=>?_) λ_ _ x=>x) λ_ _ x=>x);obtain⟨hT,h₂⟩:=h₂;unfold subscriptTail;refine ar ?_;rw [getitemInPython_of_ne hT.not_modules];refine ar (wpAny_specialOf hT hl ?_);have fin:wpAny (model prog w) A (subscripted slice false o i) (λr s₃=>wpAny (model prog w) A (letTemporaryGo value o r >>= λ_=>pure r) Q E s₃) E s₂:=by
  rw [hs o i];exact wpAny_operating (dH h₂ (λr s₃ h₃=>ar (wpAny_letTemporaryGo (aR h₃))) λ_ _ x=>x)
 first
  | exact aR (ar fin)
  | exact ar (aR (ar fin))
  | exact ar fin
def xZ {X:Cx}{ag:List (Addr×Obj)}{σ:St}{H:Hp}{s:Shared}{a:Addr}{y:V}{o:Option V}(I:Inv X ag σ H s)(g:cz H a y o):s.TypeIs (.ref a) "dict" := by
 rcases g with ⟨kvs,k,e,_,_⟩ | ⟨kvs,k,b,e,_,_,_⟩
 .obtain⟨_,_,vs,_,dd⟩:=ox I.b8 e;exact dd.typeIs
 obtain⟨_,_,xs,_,dd⟩:=sR I.b8 e;exact dd.typeIs
inductive XDg (x:V)(S:Addr->V->Prop)(R:V->Prop):Prop
 | mk (a:Addr)(v:V)(e:x=.ref a)(s:S a v)(q:R v):XDg x S R
inductive Xb (x:V)(S:Addr->Option V->Prop)(R:Option V->Prop):Prop
 | mk (a:Addr)(o:Option V)(e:x=.ref a)(s:S a o)(q:R o):Xb x S R
def AW (td ty:TE):TE:=λσ H Q=>td σ H λx H1=>ty σ H1 λy H2=>XDg x (λa v=>cz H2 a y (some v)) λv=>Q v H2
def OP (ty td:TE):TE:=λσ H Q=>ty σ H λy H1=>td σ H1 λx H2=>Xb x (λa o=>cz H2 a y o) λo=>Q (.bl o.isSome) H2
def AV (ty td:TE):TE:=λσ H Q=>ty σ H λy H1=>td σ H1 λx H2=>Xb x (λa o=>cz H2 a y o) λo=>Q (.bl (!o.isSome)) H2
def O3 (td ty tv:TE):TS:=λD σ H=>tv σ H λv H1=>td σ H1 λx H2=>ty σ H2 λy H3=>∃a H4,x=.ref a/\pV H3 a y v H4/\D.nx σ H4
section
variable {X:Cx}{o i e value:Expr}{pos pos' vp:Pos}{td ty tv:TE}
def fK (hu:X.A.units+1 < cLine)(ho:PE X o td)(hi:PE X i ty)(hs:Ri i):PE X (.Subscript o i pos) (AW td ty):=by
 intro ag s σ H Q I h;refine A1 PySem.F.slot_dict_getitem.lookup hs (cJ (ho ag s σ H _ I h) λu s1 bz=>?_);obtain⟨x,H1,I1,rx,q1⟩:=bz;refine cJ (hi ag s1 σ H1 _ I1 q1) λiv s2 bz=>?_;obtain⟨y,H2,I2,ry,a,v,ex,g,q2⟩:=bz;subst ex;obtain rfl:u=Value.ref a:=rx;exact⟨xZ I2 g,Di hu I2 g ry λw' s3 I3 zz=>⟨v,H2,I3,zz,q2⟩⟩
def jN (hu:X.A.units+1 < cLine)(hi:PE X i ty)(ho:PE X o td):PC X .In i o (OP ty td):=by
 intro ag s σ H Q I h;refine cJ (hi ag s σ H _ I h) λiv s1 bz=>?_;obtain⟨y,H1,I1,ry,q1⟩:=bz;refine cJ (ho ag s1 σ H1 _ I1 q1) λu s2 bz=>?_;obtain⟨x,H2,I2,rx,a,ov,ex,g,q2⟩:=bz;subst ex;obtain rfl:u=Value.ref a:=rx;exact WC hu I2 g ry λs3 I3=>⟨.bl ov.isSome,H2,I3,rfl,q2⟩
def dZ (hu:X.A.units+1 < cLine)(hi:PE X i ty)(ho:PE X o td):PC X .NotIn i o (AV ty td):=by
 intro ag s σ H Q I h;refine cJ (hi ag s σ H _ I h) λiv s1 bz=>?_;obtain⟨y,H1,I1,ry,q1⟩:=bz;refine cJ (ho ag s1 σ H1 _ I1 q1) λu s2 bz=>?_;obtain⟨x,H2,I2,rx,a,ov,ex,g,q2⟩:=bz;subst ex;obtain rfl:u=Value.ref a:=rx;exact Jr hu I2 g ry λs3 I3=>⟨.bl (!ov.isSome),H2,I3,rfl,q2⟩
def i0 (hu:X.A.units+1 < cLine)(ho:PE X o td)(hi:PE X i ty)(hv:PE X value tv)(hs:swapsWith value (some (.Subscript o i pos')) pos.line X.env=pure false) :
  PS X (.Assign [.Subscript o i pos'] value pos) (O3 td ty tv):=by
 intro ag s σ H D I h;refine wpAny_Assign_Subscript (cJ (hv ag s σ H _ I h) λr s1 bz=>?_) hs;obtain⟨v,H1,I1,rv,q1⟩:=bz;refine cJ (ho ag s1 σ H1 _ I1 q1) λu s2 bz=>?_;obtain⟨x,H2,I2,rx,q2⟩:=bz;refine cJ (hi ag s2 σ H2 _ I2 q2) λiv s3 bz=>?_;obtain⟨y,H3,I3,ry,a,H4,ex,g,q3⟩:=bz;subst ex;obtain rfl:u=Value.ref a:=rx;exact Dh hu I3 g ry rv λs4 I4=>⟨σ,H4,I4,q3⟩
end
def xY {P:Program}{w:World}{H:Hp}(h:Heap)(hb:sysModules < h.objs.size):cH P w H (h.push { cls:=.type "dict",data:=.dict #[] }) h.objs.size (.dK []) :=
 ⟨gB _,j4.mpr (cP (bN hb)),[],.nil,Heap.DictOf.new h⟩
def Eh:TE:=λ_ H Q=>∀p,H p=none->Q (.ref p) (upd H p (.dK []))
section
variable {X:Cx}{pos:Pos}
def ij:PE X (.Dict [] [] pos) Eh:=λag s σ H Q I h =>
 wpAny_Dict_empty ⟨.ref s.heap.objs.size,_,I.laid (a:=s.heap.objs.size) (o:=.dK []) (t':=s.toks) (λ_ _ q=>bJ _ q) (aH _) (xY s.heap I.big),rfl,h _ (I.b8.fresh (aH _))⟩
end
def yV:List (TE×TE)->St->Hp->(List (V×V)->Hp->Prop)->Prop
 | [],_,H,Q=>Q [] H
 | (tk,tv)::r,σ,H,Q=>tk σ H λx H1=>tv σ H1 λy H2=>yV r σ H2 λps H3=>Q ((x,y)::ps) H3
abbrev VV:List (V×V)->List (Value×Value)->Prop:=Paired λp q=>RelV p.1 q.1/\RelV p.2 q.2
def SF (X:Cx)(pos:Pos)(keys:List (Option Expr))(values:List Expr)(Ia:List (TE×TE)):Prop :=
 ∀(ag:List (Addr×Obj))(s:Shared)(σ:St)(H:Hp)(Q:List (V×V)->Hp->Prop),Inv X ag σ H s->yV Ia σ H Q ->
  wpAny (model X.prog X.w) X.A (evalPairs (pairTrees keys values X.env pos)) (λvs s'=>∃ps H',Inv X ag σ H' s'/\VV ps vs/\Q ps H') X.xe s
def Iy {X:Cx}{pos:Pos}:SF X pos [] [] []:=λag s σ H Q I h=>pairTrees_nil_walk ⟨[],H,I,.nil,h⟩
def E4 {X:Cx}{pos:Pos}{k v:Expr}{ks:List (Option Expr)}{vs:List Expr}{tk tv:TE}{Ia:List (TE×TE)}(hk:PE X k tk)(hv:PE X v tv)(hr:SF X pos ks vs Ia) :
  SF X pos (some k::ks) (v::vs) ((tk,tv)::Ia):=λag s σ H Q I h =>
 pairTrees_cons_walk (cJ (hk ag s σ H _ I h) λu s1 ⟨x,H1,I1,rx,q1⟩=>cJ (hv ag s1 σ H1 _ I1 q1) λw2 s2 ⟨y,H2,I2,ry,q2⟩ =>
  cJ (hr ag s2 σ H2 _ I2 q2) λws s3 ⟨ps,H3,I3,rel,q3⟩=>⟨(x,y)::ps,H3,I3,.cons ⟨rx,ry⟩ rel,q3⟩)
def mw (kvs more:List (aS×V)):List (aS×V):=more.foldl (λbA kv=>bS bA kv.1 kv.2) kvs
def KV.merge:∀{more:List (aS×V)}{rs:List (aS×Value)}{kvs:List (aS×V)}{vs:List (aS×Value)},KV more rs->KV kvs vs->KV (mw kvs more) (merged vs rs):=by
 intro more rs kvs vs r;unfold KV at r
 induction r generalizing kvs vs with
 | nil=>intro q;exact q
 | @cons p q ps qs h t ih =>
  intro r0;have e:KV (bS kvs p.1 p.2) (stored vs q.1 q.2):=by
   have:=r0.put p.1 h.2;rw [<-h.1];exact this
  exact ih e
theorem lX:∀(more kvs:List (aS×V)),(mw kvs more).length<=kvs.length+more.length
 | [],kvs=>by show kvs.length<=kvs.length+0;omega
 | p::r,kvs=>by
  have h1:=lX r (bS kvs p.1 p.2);have h2:=fu kvs p.1 p.2;show (mw (bS kvs p.1 p.2) r).length<=_;rw [dN];omega
theorem tq {P:Program}{w:World}:∀{kvs:List (aS×V)}{ws:List (Value×Value)},VV (kvs.map λkv=>(kV kv.1,kv.2)) ws->∃rs,Carries (bj P w) ws rs/\KV kvs rs
 | [],_,r=>by rw [jG] at r;cases r;exact⟨[],True.intro,.nil⟩
 | p::kvs,_,r=>by
  rw [cu] at r;cases r with
  | @cons a b as bs h t =>
   obtain⟨rs,c,q⟩:=tq (P:=P) (w:=w) t;obtain⟨b1,b2⟩:=b;exact⟨(p.1,b2)::rs,⟨lY h.1,rfl,c⟩,.cons ⟨rfl,h.2⟩ q⟩
def ON (Ia:List (TE×TE)):TE:=λσ H Q=>∀p,H p=none->yV Ia σ (upd H p (.dK [])) λps H2=>H2 p=some (.dK [])/\∃kvs:List (aS×V),ps=kvs.map (λkv=>(kV kv.1,kv.2))/\kvs.length<=15/\Q (.ref p) (upd H2 p (.dK (mw [] kvs)))
def IE {X:Cx}{pos:Pos}{keys:List (Option Expr)}{values:List Expr}{Ia:List (TE×TE)}(h:SF X pos keys values Ia)(qv:keys.all (·.isSome)=true)(hl:keys.length=values.length)(h0:keys≠[])
  (V4:keys.length<=15):PE X (.Dict keys values pos) (ON Ia):=by
 intro ag s σ H Q I q;have hn:=I.b8.fresh (aH s.heap.objs.size);have I1:=I.laid (a:=s.heap.objs.size) (o:=.dK []) (h':=s.heap.push { cls:=.type "dict",data:=.dict #[] }) (t':=s.toks) (λ_ _ q=>bJ _ q) (aH _) (xY s.heap I.big);refine wpAny_Dict_walk (knd:=bj X.prog X.w) qv hl h0 V4 (cJ (h ag _ σ _ _ I1 (q _ hn)) λws s2 bz=>?_);obtain⟨ps,H2,I2,rel,e,kvs,ep,lk,q2⟩:=bz;subst ep;obtain⟨rs,c,rk⟩:=tq (P:=X.prog) (w:=X.w) rel;obtain⟨z,hd,vs0,r0,dd⟩:=xX I2.b8 e;cases r0;refine⟨rs,c,dd,λh' HP hs=>⟨.ref s.heap.objs.size,_,?_,rfl,q2⟩⟩;have hz:(mw [] kvs).length<=sizeLine:=by
  have h1:=lX kvs [];rw [iV] at h1;rw [sizeLine_eq];omega
 have he:∃q,h'.get? s.heap.objs.size=some q:=let ⟨q,_,_,hq,_⟩:=HP;⟨q,hq⟩;exact qP I2 (by rw [e];exact True.intro) hs he (sS hz hd (rk.merge .nil) HP)
structure M1 (X:Cx)(o:Expr)(m:Str)(apos:Pos)(e:Expr)(gO:Pos):Prop where
 base:attributeBase o m X.env (eval o X.env)=eval o X.env
 BH:((backTo gO (starEach [e] X.env)).all (λx=>!x.1) && (backToKw gO (keywordEach [] X.env)).all (λx=>x.1.isSome)
  && decide (([e]:List Expr).length+([]:List Keyword).length+(if ([]:List Keyword).isEmpty then 0 else 1) < 30))=true
 line:(apos.endLine == gO.line)=true
 trees:backTo gO (starEach [e] X.env)=[(false,eval e X.env)]
structure M2 (X:Cx)(o:Expr)(m:Str)(apos:Pos)(e f:Expr)(gO:Pos):Prop where
 base:attributeBase o m X.env (eval o X.env)=eval o X.env
 BH:((backTo gO (starEach [e,f] X.env)).all (λx=>!x.1) && (backToKw gO (keywordEach [] X.env)).all (λx=>x.1.isSome)
  && decide (([e,f]:List Expr).length+([]:List Keyword).length+(if ([]:List Keyword).isEmpty then 0 else 1) < 30))=true
 line:(apos.endLine == gO.line)=true
 trees:backTo gO (starEach [e,f] X.env)=[(false,eval e X.env),(false,eval f X.env)]
def SH (H:Hp)(a:Addr):Prop:=(∃kvs,Rd H a (.dK kvs))\/∃kvs,Rd H a (.dT kvs)
def Af {X:Cx}{ag:List (Addr×Obj)}{σ:St}{H:Hp}{s:Shared}{a:Addr}(I:Inv X ag σ H s)(d:SH H a) :
  s.TypeIs (.ref a) "dict" /\ (∀b,Value.ref a=.ref b->∃ob,s.heap.get? b=some ob/\ob.dict=none)/\(a == sysModules)=false:=by
 rcases d with ⟨kvs,e⟩ | ⟨kvs,e⟩
 .obtain⟨_,hd,vs,_,dd⟩:=ox I.b8 e;refine⟨dd.typeIs,λb q=>?_,hd⟩;cases q;obtain⟨ob,_,_,h1,h2,_⟩:=dd;exact⟨ob,h1,h2.2.1⟩
 obtain⟨_,hd,xs,_,dd⟩:=sR I.b8 e;refine⟨dd.typeIs,λb q=>?_,hd⟩;cases q;obtain⟨ob,_,_,h1,h2,_⟩:=dd;exact⟨ob,h1,h2.2.1⟩
section
variable {X:Cx}{ag:List (Addr×Obj)}{σ:St}{H:Hp}{s:Shared}{a:Addr}{y d:V}{u r:Value}{o:Option V}{A:Around}{E:Value->Shared->Prop}
def Nj {Q:Value->Shared->Prop}(hu:A.units+1 < cLine)(I:Inv X ag σ H s)(g:cz H a y o)(ry:RelV y u)(rd:RelV d r)(h:∀w' s',Inv X ag σ H s'->RelV (o.getD d) w'->Q w' s') :
  wpAny (model X.prog X.w) A (call (.builtin "dict.get") [.ref a,u,r]) Q E s:=by
 rcases g with ⟨kvs,k,e,ey,l⟩ | ⟨kvs,k,b,e,ey,eb,l⟩
 .subst ey;obtain⟨z,hd,vs,rel,dd⟩:=ox I.b8 e;refine call_meetsIn PySem.F.slot_dict_get dd.typeIs PySem.F.entry_dict_get (PySem.F.args_dict_get_3 _ _ _) (meets_dict_get_default (bj X.prog X.w) a (lY ry) hd r) ⟨_,dd.mapOf,h _ _ (I.tok _) ?_⟩;rw [l];exact(rel.val k).getD rd
 subst ey;cases (show u=Value.ref b from ry);obtain⟨z,hd,xs,rel,dd⟩:=sR I.b8 e;refine call_meetsIn PySem.F.slot_dict_get dd.typeIs PySem.F.entry_dict_get (PySem.F.args_dict_get_3 _ _ _) (meetsH_dict_get_default (tupleKind (bj X.prog X.w)) a b hd r) ⟨oV hu,k,xs,mE I.b8 eb,dd,h _ _ (I.tok _) ?_⟩;rw [l];exact(rel.val k).getD rd
end
def Lg (td ty tx:TE):TE:=λσ H Q=>td σ H λx H1=>∃a,x=.ref a/\SH H1 a/\ty σ H1 λy H2=>tx σ H2 λz H3=>∃o,cz H3 a y o/\Q (o.getD z) H3
section
variable {X:Cx}{o e f:Expr}{apos gO:Pos}{td ty tx:TE}
def Fc (hu:X.A.units+1 < cLine)(ho:PE X o td)(he:PE X e ty)(hf:PE X f tx)(m:M2 X o "get" apos e f gO):PE X (.Call (.Attribute o "get" apos) [e,f] [] gO) (Lg td ty tx):=by
 intro ag s σ H Q I h;refine wpAny_Call_method m.base m.BH m.line yL PySem.F.slot_dict_get PySem.F.type_dict_get (cJ (ho ag s σ H _ I h) λu s1 bz=>?_);obtain⟨x,H1,I1,rx,a,ex,d,q1⟩:=bz;subst ex;obtain rfl:u=Value.ref a:=rx;obtain⟨t1,t2,_⟩:=Af I1 d;refine⟨t1,t2,?_⟩;rw [m.trees];refine rp rfl (u5 (mi (cJ (he ag s1 σ H1 _ I1 q1) λiv s2 ⟨y,H2,I2,ry,q2⟩ =>
  mi (cJ (hf ag s2 σ H2 _ I2 q2) λfv s3 ⟨z,H3,I3,rz,ov,g,q3⟩=>qZ ?_))))
 exact Nj hu I3 g ry rz λw' s4 I4 zz=>⟨_,H3,I4,zz,q3⟩
end
section
variable {X:Cx}{ag:List (Addr×Obj)}{σ:St}{H:Hp}{s:Shared}{a:Addr}{kvs:List (aS×V)}{A:Around}{E:Value->Shared->Prop}
end
section
variable {X:Cx}{ag:List (Addr×Obj)}{σ:St}{H:Hp}{s:Shared}{a:Addr}{y:V}{u:Value}{A:Around}{E:Value->Shared->Prop}
end
end L2
set_option maxHeartbeats 4000000
namespace L2
open PySem
def v7:typeLookup (.type "list") "keys"=pure none:=by rw [typeLookup_type,builtinLookup_eq_fast];kernel_rfl
def v8:typeLookup (.type "list") "__getattr__"=pure none:=by rw [typeLookup_type,builtinLookup_eq_fast];kernel_rfl
section
variable {prog:Program}{w:World}{A:Around}{E:Value->Shared->Prop}{h:Heap}{g:Array GenState}{d:Drawn}{t:Nat}{os:OsState}{a:Addr}{o:Obj}
def El:isSubtype (.type "AttributeError") (.type "AttributeError")=pure true:=by rw [isSubtype_type];kernel_rfl
def LM {m:Str}{tk:Tok}:ownMembersOf (.type "AttributeError") [.str m tk]=#[unsetMember,unsetMember]:=by kernel_rfl
def Gu {m:Str}{tk:Tok}:firstArgMember (.type "AttributeError") [.str m tk]=pure .none:=by kernel_rfl
def zC {α:Type}{self:Value}{name msg:Str}{Q:α->Shared->Prop}(hm:msg.length<=sizeLine)(hh:A.handled=none)
  (hq:∀h' t' e oe,(∀b o,h.get? b=some o->h'.get? b=some o)->h'.get? e=some oe->oe.cls=.type "AttributeError" -> E (.ref e) ⟨h',g,d,t',os⟩) :
  wpAny (model prog w) A (raiseAttrError self name msg) Q E ⟨h,g,d,t,os⟩:=by
 have f1:=El;unfold raiseAttrError newExc;refine ar (wpAny_mkStr ?_ hm);have fe:=Gu (m:=msg) (tk:=t);rw [LM]
 repeat (any_goals (first | assumption | wp_step))
 unfold raiseNew;refine ar (wpAny_handled ?_);rw [hh];refine ar (aR ?_);refine wpAny_throw ?_;refine hq _ _ _ _ (λb o q=>?_) (o5 _ (cW _ rfl) rfl) rfl;have lt:=ba q;rw [o6 _ _ (by rw [jk];exact ff (ky lt))];exact bJ _ (bJ _ q)
def Ad {tk:Tok}{aU:Array Value}{n:Nat}{Q:Fin->Shared->Prop}(hx:h.get? a=some { cls:=.type "list",data:=.seq aU n })(hh:A.handled=none)
  (hq:∀h' t' e oe,(∀b o,h.get? b=some o->h'.get? b=some o)->h'.get? e=some oe->oe.cls=.type "AttributeError" -> E (.ref e) ⟨h',g,d,t',os⟩) :
  wpAny (model prog w) A (Builtin.«object.__getattribute__» ⟨[.ref a,.str "keys" tk],[]⟩) Q E ⟨h,g,d,t,os⟩:=by
 have hT:(⟨h,g,d,t,os⟩:Shared).TypeIs (.ref a) "list" := ⟨_,hx,rfl⟩;have f4:=v7
 repeat (any_goals (first | assumption | wp_step))
 exact zC nofun hh hq
def pG {aU:Array Value}{n:Nat}{Q:Option Value->Shared->Prop}(hx:h.get? a=some { cls:=.type "list",data:=.seq aU n })(hh:A.handled=none)
  (hq:∀h' t',(∀b o,h.get? b=some o->h'.get? b=some o)->Q none ⟨h',g,d,t',os⟩):wpAny (model prog w) A (getAttr? (.ref a) "keys") Q E ⟨h,g,d,t,os⟩:=by
 have hT:∀t',(⟨h,g,d,t',os⟩:Shared).TypeIs (.ref a) "list" := λt'=>⟨_,hx,rfl⟩;have f1:=El;have f2:=vh.lookup;have f3:=vh.bind (.ref a);have f4:=v8;unfold getAttr? getAttrBy? getAttrBy;refine ar (wpAny_mkText (ar (oH (iH (ar (jV (hT _) ?_))))));rw [f2];refine ar (aR ?_);show wpAny _ _ (getAttrByItsOwn _ _ _ _ _ _) _ _ _;unfold getAttrByItsOwn;refine ar (aR (a:=none) (ar (oH (iH ?_))));show wpAny _ _ (boundAndCalled _ _ _) _ _ _;unfold boundAndCalled;rw [f3];refine ar (aR (wpAny_call (codeAny_call_builtin vh.plain F.entry_list_ga (vh.check _ _ _ _ _ _ _ _ (hT _) (F.args_list_getattribute_2 _ _) (Ad hx hh λh' t' e oe k ee ec=>?_)))));have te:(⟨h',g,d,t',os⟩:Shared).TypeIs (.ref e) "AttributeError" := ⟨oe,ee,ec⟩;show wpAny _ _ (getattributeRaised _ _ _ _ _ _ _) _ _ _;unfold getattributeRaised;refine ar (wpAny_isInstance te f1 ?_);rw [ax rfl];show wpAny _ _ (typeLookup _ _ >>= _) _ _ _;rw [f4];refine ar (aR ?_);show wpAny _ _ (throw _) _ _ _;refine wpAny_throw ?_;refine ar (wpAny_isInstance te f1 ?_);rw [ax rfl];exact aR (hq h' t' k)
end
def fI:plainId "dict.update.loop"=true:=by decide +kernel
def lD:entryFor table "dict.update.loop"=some Builtin.«dict.update.loop»:=entryFor_of_tree (nofun)
section
variable {prog:Program}{w:World}{K:Type} [DecidableEq K] {knd:KeyKind prog w K}{A:Around}{E:Value->Shared->Prop}
def mM (knd:KeyKind prog w K)(h:Heap)(u:Value)(kv:K×Value):Prop :=
 ∃t key n o,u=.ref t/\knd.is kv.1 key=true/\h.get? t=some o/\o.cls=.type "tuple" /\ o.data=.seq #[key,kv.2] n
def mM.keep {h h':Heap}{u:Value}{kv:K×Value}(p:mM knd h u kv)(k:∀b o,o.cls=.type "tuple" -> h.get? b=some o->h'.get? b=some o):mM knd h' u kv :=
 let ⟨t,key,n,o,a,b,c,d,e⟩:=p;⟨t,key,n,o,a,b,k t o d c,d,e⟩
def GK {R:Result->Shared->Prop}{d it l:Addr}{items:Array Value}(hh:A.handled=none):∀(more:List (K×Value)) (i:Nat)(s:Shared)(kvs:List (K×Value)) (j:Int)(tk:Tok),items.size=i+more.length ->
  s.heap.DictOf knd d kvs->s.heap.IsListIter it l i->s.heap.IsList l items->(∀m kv,more[m]?=some kv->∃u,items[i+m]?=some u/\mM knd s.heap u kv)->kvs.length+more.length<=sizeLine ->
  (∀h' t',h'.DictOf knd d (more.foldl (λa p=>stored a p.1 p.2) kvs)->(∀b o,b≠d->b≠it->s.heap.get? b=some o->h'.get? b=some o)->R (.ok (.ret .none)) { s with heap:=h',toks:=t' }) ->
  codeAny (model prog w) A (.builtin "dict.update.loop" ⟨[.ref d,.ref it,.int j tk,.none],[]⟩) R s:=by
 intro more
 induction more with
 | nil =>
  intro i s kvs j tk hi hd hit hl hp hz hR;refine mf lD ?_;rw [qQ fI _];unfold Builtin.«dict.update.loop»;have hs:items[i]?=none:=yI (by rw [hi];exact aH _);refine ar (u_ hh hit hl hs λh1 eb=>?_);have nd:d≠it:=λz=>by
   obtain⟨o,_,_,q,_,c,_⟩:=hd;obtain⟨o',q',_,c'⟩:=hit;rw [z,q'] at q;cases q;rw [c'] at c;cases c
  show wpAny _ _ (Builtin.Dict.addKeywords d [] >>= _) _ _ _;exact ar (aR (aR (hR h1 s.toks (hd.extBut eb nd) λb o n1 n2 q=>eb b o n2 q)))
 | cons kv more ih =>
  intro i s kvs j tk hi hd hit hl hp hz hR;refine mf lD ?_;rw [qQ fI _];unfold Builtin.«dict.update.loop»;obtain⟨u,hu,t,key,n,o,rfl,hk,ho,hc,Bz⟩:=hp 0 kv rfl;refine ar (wpAny_pyNext_list_item hit hl hu λh1 US sb=>?_);have nd:d≠it:=λz=>by
   obtain⟨o,_,_,q,_,c,_⟩:=hd;obtain⟨o',q',_,c'⟩:=hit;rw [z,q'] at q;cases q;rw [c'] at c;cases c
  have n2:∀b o,(o.cls=.type "tuple" \/ o.cls=.type "list")->s.heap.get? b=some o->b≠d/\b≠it:=by
   intro b o c q;constructor
   .intro z;obtain⟨o',q',c'⟩:=hd.typeIs;rw [z,q'] at q;cases q;rw [c'] at c;rcases c with c | c <;> exact absurd c nofun
   intro z;obtain⟨o',q',c',_⟩:=hit;rw [z,q'] at q;cases q;rw [c'] at c;rcases c with c | c <;> exact absurd c nofun
  have nt:∀b o,o.cls=.type "tuple" -> s.heap.get? b=some o->b≠d/\b≠it:=λb o c q=>n2 b o (.inl c) q;have nl:l≠d/\l≠it:=by
   obtain⟨o,q,c,_⟩:=hl;exact n2 l o (.inr c) q
  have Qg:h1.get? t=some o:=(sb.2 t (nt t o hc ho).2).trans ho;have wM:h1.DictOf knd d kvs:=hd.sameBut sb nd;refine ar (iH (ar (wpAny_tryCatch ?_)));unfold Builtin.Dict.pairItems;refine ar (jV (T := "tuple") ⟨o,Qg,hc⟩ ?_);rw [ax nofun];refine ar (jl Qg Bz (aR ?_));show wpAny _ _ (holding [key,kv.2] (dictSet d key kv.2)) _ _ _;rw [dN] at hz hi;refine iH (wpAny_dictSet_pairs (s:={ s with heap:=h1 }) hk wM (λh2 hd2 O2=>?_) ∅);have kk:∀b o,b≠d->b≠it->s.heap.get? b=some o->h2.get? b=some o:=λb o n1 n2 q=>(O2.2 b n1).trans ((sb.2 b n2).trans q);have ln:(stored kvs kv.1 kv.2).length<=kvs.length+1:=by
   unfold stored
   split
   .simp
   simp
  refine aR ⟨kI fI _,ih (i+1) _ _ _ _ ∅ hd2 (US.at λo q=>(O2.2 it (cP nd)).trans q) (hl.at λo q=>kk l o nl.1 nl.2 q) (λm UL e=>?_) ∅ λh3 t3 jh k3=>?_⟩
  .obtain⟨u',e1,e2⟩:=hp (m+1) UL e;exact⟨u',by rw [<-e1];congr 1;omega,e2.keep λb o c q=>kk b o (nt b o c q).1 (nt b o c q).2 q⟩
  exact hR h3 t3 jh λb o n1 n2 q=>k3 b o n1 n2 (kk b o n1 n2 q)
def yW:(Value.type "list" != Value.type "dict")=true:=by decide
def tu {s:Shared}{l:Addr}{items:Array Value}{n:Nat}{more:List (K×Value)}{Q:Value->Shared->Prop}(knd:KeyKind prog w K)(hh:A.handled=none)(hx:s.heap.get? l=some { cls:=.type "list",data:=.seq items n })
  (hi:items.size=more.length)(hp:∀(m:Nat) kv,more[m]?=some kv->∃u,items[m]?=some u/\mM knd s.heap u kv)(hz:more.length<=sizeLine)
  (h:∀h' t',h'.DictOf knd s.heap.objs.size (more.foldl (λa p=>stored a p.1 p.2) [])->(∀b o,s.heap.get? b=some o->h'.get? b=some o)->Q (.ref s.heap.objs.size) { s with heap:=h',toks:=t' }) :
  wpAny (model prog w) A (call (.type "dict") [.ref l]) Q E s:=by
 refine callType_codes (Q₁:=λobj s₁=>obj=.ref s.heap.objs.size/\s₁={ s with heap:=s.heap.push { cls:=.type "dict",data:=.dict #[] } }) F.kt_called_dict (F.kt_typeCall_dict_1 _) F.entry_dict_init (kt_code_dict_new _ ⟨rfl,rfl⟩) ?_;rintro obj s₁ ⟨rfl,rfl⟩;have zX:(s.heap.push { cls:=.type "dict",data:=.dict #[] }).DictOf knd s.heap.objs.size []:=Heap.DictOf.new s.heap;have l0:=bJ { cls:=.type "dict",data:=.dict #[] } hx;refine⟨zX.typeIs,F.args_dict_init_2 _ _,?_⟩;unfold Builtin.«dict.__init__» Builtin.Dict.selfAndRest;refine ar (ar (wpAny_notOrdered_dict zX.typeIs (aR ?_)));show wpAny _ _ (Builtin.Dict.updateFrom "dict.__init__" s.heap.objs.size (.ref l) [] .none) _ _ _;unfold Builtin.Dict.updateFrom;refine ar (jV (T := "list") ⟨_,l0,rfl⟩ ?_);rw [ax yW];refine ar (pG l0 hh λh1 t1 k1=>?_);refine ar (ja ?_);have l1:=k1 _ _ l0;refine ar (oR ⟨_,l1,rfl,_,rfl⟩ ?_);have k2:∀b o,s.heap.get? b=some o->(h1.push { cls:=.type "list_iterator",data:=.fields #[.ref l,.int 0 0] }).get? b=some o:=λb o q=>bJ _ (k1 _ _ (bJ _ q));refine aR ⟨kI fI _,GK (knd:=knd) (A:=A.in1) (l:=l) (items:=items) (show A.in1.handled=none from hh) more 0 _ [] _ _ (by rw [hi,oJ]) ?_ ⟨_,cW _ rfl,rfl,rfl⟩ ⟨_,k2 _ _ hx,rfl,n,rfl⟩ (λm kv e=>?_) (by simpa using hz) λh' t' hd k3=>?_⟩
 .obtain⟨o,es,ep,q,r⟩:=zX;exact⟨o,es,ep,bJ _ (k1 _ _ q),r⟩
 .obtain⟨u,e1,e2⟩:=hp m kv e;exact⟨u,by rw [oJ];exact e1,e2.keep λb o _ q=>k2 b o q⟩
 refine⟨rfl,h h' t' hd λb o q=>k3 b o (bN (ba q)) ?_ (k2 b o q)⟩;have:=ba (k1 _ _ (bJ { cls:=.type "dict",data:=.dict #[] } q));exact bN this
end
open PySem PySem.Spec PyProof.Rows
def Dx (X:Cx)(ifs:List Expr)(t:TT):Prop :=
 ∀(ag:List (Addr×Obj))(s:Shared)(σ:St)(H:Hp)(Q:Bool->Hp->Prop),Inv X ag σ H s->t σ H Q ->
  wpAny (model X.prog X.w) X.A (forIn ifs true λc r=>if r=true then do let ok <-isTrue c X.env (eval c X.env);pure (ForInStep.yield ok) else pure (ForInStep.yield r)) (TP X ag σ Q) X.xe s
def ix:TT:=λ_ H Q=>Q true H
def bY {X:Cx}:Dx X [] ix:=λ_ _ _ H _ I h=>wpAny_tests_nil ⟨H,I,h⟩
def hJ {X:Cx}{c:Expr}{t:TT}(h:PT X c t):Dx X [c] t:=λag s σ H Q I hw=>wpAny_tests_one (h ag s σ H Q I hw)
def qi {prog:Program}{w:World}{A:Around}{R:Result->Shared->Prop}{s:Shared}{elt target iter:Expr}{ifs:List Expr}{scope:Scope}{pos:Pos}{it bA:Value}{env:Env}(I:Nat->Shared->Prop)
  (turn:∀n s,I n s->wpAny (model prog w) A (pyNext it) (λr s₁=>match r with
   | none=>R (.ok .next) s₁
   | some v=>wpAny (model prog w) A (letOwnedTupleGo target it v) (λ_ s₁=>wpAny (model prog w) A (assign target env v) (λ_ s₂ =>
     wpAny (model prog w) A (forIn ifs true λc r=>if r=true then do let ok <-isTrue c env (eval c env);pure (ForInStep.yield ok) else pure (ForInStep.yield r)) (λok s₃ =>
      if ok=true then wpAny (model prog w) A (eval elt env) (λx s₄ =>
       wpAny (model prog w) A (call (.builtin "list.append") [bA,x]) (λ_ s₅=>∃m,m < n/\I m s₅) (λ_ _=>False) s₄) (λ_ _=>False) s₃
      else ∃m,m < n/\I m s₃) (λ_ _=>False) s₂) (λ_ _=>False) s₁) (λ_ _=>False) s₁) (λ_ _=>False) s)
  (n:Nat)(h:I n s) :
  codeAny (model prog w) A (.compLoop (.ListComp elt [⟨target,iter,ifs,0⟩] scope pos) 0 it bA env) R s:=by
 refine codeAny_loop rfl I (λn s hI=>?_) n h;show wpAny _ A ((compTurn (.ListComp elt [⟨target,iter,ifs,0⟩] scope pos) 0 it bA env).onRaise (λx=>do noteFrame x env;theTreesLotGoes x)) _ _ s;refine wpAny_noted ?_;rw [compTurn_list];refine ar (wpAny_standAt (ar (dH (turn n s hI) (λr s₁ h₁=>?_) λ_ _ h'=>h'.elim)));cases r with
 | none=>exact aR h₁
 | some v =>
  refine ar (dH h₁ (λ_ s₂ h₂=>?_) λ_ _ h'=>h'.elim);refine ar (dH h₂ (λ_ s₂ h₂=>ar (dH h₂ (λok s₃ h₃=>?_) λ_ _ h'=>h'.elim)) λ_ _ h'=>h'.elim);cases ok with
  | false=>exact aR ⟨rfl,h₃⟩
  | true =>
   exact ar (ar (dH h₃ (λx s₄ h₄=>ar (dH h₄ (λ_ s₅ h₅=>aR (aR ⟨rfl,h₅⟩)) λ_ _ h'=>h'.elim)) λ_ _ h'=>h'.elim))
inductive yp (K:a9)(H:Hp):V->String->Prop where
 | bl (x:Bool):yp K H (.bl x) "bool"
 | int (i:Int):yp K H (.int i) "int"
 | str (x:Str):yp K H (.str x) "str"
 | tup {a:Addr}{xs:List V}(e:aQ K H a xs):yp K H (.ref a) "tuple"
def cw {X:Cx}:il X (.builtin "isinstance") (λxs H Q=>∃x T n b,xs=[x,.ty n]/\yp X.K H x T/\PySem.W.kitOne X.K (.type T) (.type n)=some b/\Q (.bl b) H):=by
 intro ag s σ H xs us Q I r h;obtain⟨x,T,n,b,rfl,ty,e,q⟩:=h;obtain⟨u,w',rfl,rx,rn⟩:=vals2 r;cases (show w'=Value.type n from rn);have fin:∀tk,EP X ag σ Q (.bool b) { s with toks:=tk }:=λtk=>⟨.bl b,H,I.tok _,rfl,q⟩;cases ty with
 | bl y=>cases (show u=Value.bool y from rx);exact PySem.W.kia_one PySem.W.kitx_bool I.wa True.intro e (λz=>nomatch z) fin
 | int i=>obtain⟨t,z⟩:=(show ∃t,u=Value.int i t from rx);cases z;exact PySem.W.kia_one PySem.W.kitx_int I.wa True.intro e (λz=>nomatch z) fin
 | str y=>obtain⟨t,z⟩:=(show ∃t,u=Value.str y t from rx);cases z;exact PySem.W.kia_one PySem.W.kitx_str I.wa True.intro e (λz=>nomatch z) fin
 | @tup a ys hq =>
  cases (show u=Value.ref a from rx);obtain⟨aU,_,⟨o,h1,h2,_⟩,_⟩:=I.tuple hq;exact PySem.W.kia_one PySem.W.kitx_tuple I.wa ⟨o,h1,h2⟩ e (λz=>nomatch z) fin
def Cj {X:Cx}{a:Expr}{ta:TE}(K:a9)(ha:PE X a ta)(he:∀whole,isTrue a X.env whole=(do let v <-whole;standAt a.pos;holding [v] (truthy v)))(hK:X.K=K:=by rfl) :
  PT X a (λσ H Q=>ta σ H λx H'=>∃k,G_ K x H' k/\Q k H'):=by
 subst hK;exact gG ha he
structure JD (env:Env)(scope:Scope)(cl:List (Str×Addr)):Prop where
 eq:closureFor scope env=pure cl
 sub:∀y c,cl.lookup y=some c->env.cells.lookup y=some c
 all:∀y,(y,NameKind.free)∈scope.names->∃c,cl.lookup y=some c
def jP {y n:Str}{c:Addr}{l:List (Str×Addr)}:((n,c)::l).lookup y=if y=n then some c else l.lookup y:=by
 by_cases h:y=n
 .rw [ax h];simp [List.lookup,h]
 rw [az h];simp [List.lookup,j4.mpr h]
def wA {env:Env}{scope:Scope}(h:∀y,(y,NameKind.free)∈scope.names->∃c,env.cells.lookup y=some c):∃cl,JD env scope cl:=by
 have go:∀(names:List (Str×NameKind))(bA:List (Str×Addr)),(∀y,(y,NameKind.free)∈names->∃c,env.cells.lookup y=some c)->(∀y c,bA.lookup y=some c->env.cells.lookup y=some c) ->
   ∃cl,(forIn names bA λ(x:Str×NameKind)(cs:List (Str×Addr))=>(if x.2 == .free then do let c <-cellOf env x.1;pure (ForInStep.yield ((x.1,c)::cs)) else pure (ForInStep.yield cs):Sem (ForInStep (List (Str×Addr)))))=pure cl /\
    (∀y c,cl.lookup y=some c->env.cells.lookup y=some c)/\(∀y,(y,NameKind.free)∈names->∃c,cl.lookup y=some c)/\∀y c,bA.lookup y=some c->∃c',cl.lookup y=some c':=by
  intro names
  induction names with
  | nil=>intro bA _ hs;exact⟨bA,rfl,hs,λy hy=>absurd hy (by simp),λy c e=>⟨c,e⟩⟩
  | cons x r ih =>
   intro bA hf hs;obtain⟨n,k⟩:=x;rw [mQ];by_cases hk:k=.free
   .subst hk;obtain⟨c0,e0⟩:=hf n cV;obtain⟨cl,e1,e2,e3,e4⟩:=ih ((n,c0)::bA) (λy hy=>hf y (du _ hy)) (λy c e=>by
     rw [jP] at e;by_cases z:y=n
     .rw [ax z] at e;cases e;rw [z];exact e0
     rw [az z] at e;exact hs y c e)
    refine⟨cl,?_,e2,λy hy=>?_,λy c e=>?_⟩
    .rw [<-e1];have:cellOf env n=pure c0:=by unfold cellOf;rw [e0]
     simp only [this];rfl
    .rcases cA.mp hy with z | z
     .cases z;exact e4 n c0 (by rw [jP,ax rfl])
     exact e3 y z
    by_cases z:y=n
    .exact e4 y c0 (by rw [jP,ax z])
    exact e4 y c (by rw [jP,az z];exact e)
   obtain⟨cl,e1,e2,e3,e4⟩:=ih bA (λy hy=>hf y (du _ hy)) hs;refine⟨cl,?_,e2,λy hy=>?_,e4⟩
   .rw [<-e1];have:(k == NameKind.free)=false:=by simpa using hk
    simp only [this];rfl
   rcases cA.mp hy with z | z
   .cases z;exact absurd rfl hk
   exact e3 y z
 obtain⟨cl,e1,e2,e3,_⟩:=go scope.names [] h (λy c e=>by simp at e);refine⟨cl,?_,e2,e3⟩;unfold closureFor;exact Eq.trans (congrArg (λt:Sem (List (Str×Addr))=>t >>= λcs=>pure cs) e1) rfl
def vU {scope:Scope}{env:Env}{y:Str}(hk:env.scope.kind=.function)(hy:scope.names.lookup y=some .free)(he:env.kindOf y=some .cell):(relabel scope env).names.lookup y=some .cell:=by
 have go:∀l:List (Str×NameKind),l.lookup y=some .free->(l.map λ(x:Str×NameKind)=>if (x.2 == NameKind.free && env.scope.kind == .function && env.kindOf x.1 == some .cell) then (x.1,NameKind.cell) else (x.1,x.2)).lookup y=some .cell:=by
  intro l
  induction l with
  | nil=>intro z;cases z
  | cons x r ih =>
   obtain⟨n,k⟩:=x;intro hy;rw [cu];by_cases z:y=n
   .subst z;simp [List.lookup] at hy;subst hy;simp [List.lookup,hk,he]
   have zb:(y == n)=false:=j4.mpr z;simp only [List.lookup,zb] at hy;have:=ih hy;dsimp only
   split <;> simp only [List.lookup,zb] <;> exact this
 exact go _ hy
theorem v3 {α:Type}{y:Str}{v:α}:∀{l:List (Str×α)},l.lookup y=some v->(y,v)∈l
 | [],h=>by cases h
 | (n,u)::r,h=>by
  by_cases z:y=n
  .subst z;simp [List.lookup] at h;subst h;exact cV
  have zb:(y == n)=false:=j4.mpr z;simp only [List.lookup,zb] at h;exact du _ (v3 h)
def nJ {scope:Scope}{env:Env}{y:Str}{k:NameKind}(h:(relabel scope env).names.lookup y=some k)(hk:k=.cell\/k=.free)(hc:∀z∈scope.names,z.2≠.cell):(y,NameKind.free)∈scope.names:=by
 have m:=v3 h;unfold relabel at m;obtain⟨⟨n,k'⟩,m1,m2⟩:=cQ.mp m;dsimp only at m2
 split at m2
 .rename_i q
  cases m2;simp at q;obtain⟨⟨q,_⟩,_⟩:=q;subst q;exact m1
 cases m2;rcases hk with hk | hk
 .exact absurd hk (hc _ m1)
 rw [<-hk];exact m1
def sV (X:Cx)(scope:Scope)(cl:List (Str×Addr))(C:Addr)(s1:Shared)(H1:Hp) (N:List Str)(fp:List Addr):Cx :=
 { X with N:=N,s₀:=s1,H₀:=H1,env:=compEnvC scope cl C X.env,outer:=X.stack,stack:=X.stack,ex:=fp,fn:=λ_=>false,pn:=[],xe:=λ_ _=>False }
structure JE (X:Cx)(scope:Scope)(js:List (Nat×Str)):Prop where
 at_:∀p∈js,X.N[p.1]?=some p.2/\X.env.scope.names.lookup p.2=some .cell/\scope.names.lookup p.2=some .free
 all:∀y,(y,NameKind.free)∈scope.names->X.env.scope.names.lookup y=some .cell
def eU (ts:List Str)(js:List (Nat×Str))(σ:St):St:=ts.map (λ_=>none)++js.map λp=>(σ[p.1]?).join
def uA {X:Cx}{ag:List (Addr×Obj)}{σ:St}{H:Hp}{s1 s4:Shared}{scope:Scope}{ts:List Str}{js:List (Nat×Str)}{cl:List (Str×Addr)}{fp:List Addr}{C:Addr}{m:Str->Option Value}
  (I:Inv X ag σ H s1)(hf:∀b∈fp,wH X ag H b)(Gg:∀b∈fp,b < s1.heap.objs.size)(jy:scope.kind=.function)(jz:∀y∈scope.names,y.2≠.cell)(cp:JE X scope js)(pJ:JD X.env scope cl)
  (hC:s1.heap.objs.size < C)(ho:s4.os=s1.os)(hg:s4.gens=s1.gens)(old:∀b o,s1.heap.get? b=some o->s4.heap.get? b=some o)(hn:s4.heap.Ns C m)
  (hD:s4.heap.get? s1.heap.objs.size=some { cls:=.type "list",data:=.seq ([]:List Value).toArray 0 }) :
  Inv (sV X scope cl C s1 H (ts++js.map (·.2)) fp) [] (eU ts js σ) (upd H s1.heap.objs.size (.lst [])) s4:=by
 have xk:X.env.scope.kind=.function:=I.ok.kind;have has:∀y,((relabel scope X.env).names.lookup y=some .cell\/(relabel scope X.env).names.lookup y=some .free)->∃c,cl.lookup y=some c:=λy hy=>pJ.all y (by
  rcases hy with hy | hy
  .exact nJ hy (.inl rfl) jz
  exact nJ hy (.inr rfl) jz)
 have lt:∀y c,cl.lookup y=some c->c < s1.heap.objs.size:=λy c e=>by
  obtain⟨v,o,ho,_⟩:=I.cell y c (pJ.sub y c e);exact ba ho
 refine⟨⟨I.ok.mod,jy,I.ok.glob,I.ok.blt,jH hC,λy z c h1 h2=>I.ok.inj y z c (pJ.sub _ _ h1) (pJ.sub _ _ h2),has,λy c h _=>absurd (show false=true from h) dP,I.ok.hd,I.ok.frames,.inl rfl,
   λb hb=>⟨bN (me (Gg b hb) hC),λy c h=>(hf b hb).2.2.2.2.1 y c (pJ.sub _ _ h)⟩,I.bs,fX I.ok.HQ I.sz,λb o e hb=>?_,λb hb=>?_,I.stack,I.A4⟩,
  ho,?_,Un.laid old (aH _) I.fresh,⟨m,hn,λi y v e1 e2 _=>?_⟩,λy c h=>?_,?_,λy c h=>?_,λp hp=>absurd (show p∈([]:List (Addr×Obj)) from hp) (by simp),I.b8.laid old (aH _) ?_,?_⟩
 .obtain⟨_,_,_,h4,_⟩:=hf b hb;rcases h4 with h4 | h4
  .exact I.ok.FE b o e h4
  exact absurd (eV (ba (I.ok.bs b o e).1) h4) (kJ _)
 .intro Hy;obtain⟨_,h2,h3,_⟩:=hf b hb;rcases cA.mp (I.yX b Hy) with z | z
  .exact h2 z
  exact h3 z
 .rw [hg];exact I.bare
 .have Jp:(ts++js.map (·.2))[i]?=some y:=e1;have Dg:(ts.map (λ_=>(none:Option V))++js.map λp=>(σ[p.1]?).join)[i]?=some (some v):=e2;by_cases hi:i < ts.length
  .rw [mY (by simpa using hi)] at Dg;simp [hi] at Dg
  rw [lR ∅] at Jp;rw [lR (by simpa using Nat.le_of_not_lt hi)] at Dg;rw [au] at Dg;rw [bh] at Jp Dg;cases hj:js[i - ts.length]? with
  | none=>rw [hj] at Jp;cases Jp
  | some p =>
   rw [hj] at Jp Dg;simp only [qY,Option.some.injEq] at Jp Dg;obtain⟨a1,a2,a3⟩:=cp.at_ p (cg hj);subst Jp;have es:σ[p.1]?=some (some v):=by
    cases q:σ[p.1]? with
    | none=>rw [q] at Dg;cases Dg
    | some z=>rw [q] at Dg;exact congrArg some Dg
   obtain⟨m0,RU,lk⟩:=I.loc;obtain⟨u,ru,l⟩:=lk p.1 p.2 v a1 es (.inr (.inl a2));rcases l with l | ⟨_,c,ec,o,hc,hd⟩
   .have l1:X.env.scope.names.lookup p.2=some .local:=l.1;rw [a2] at l1;cases l1
   obtain⟨c',ZI⟩:=pJ.all p.2 (v3 a3);have e3:=pJ.sub _ _ ZI;rw [ec] at e3;cases e3;exact⟨u,ru,.inr ⟨.inl (vU xk a3 a2),c,ZI,o,old _ _ hc,hd⟩⟩
 .obtain⟨v,o,h1,h2⟩:=I.cell y c (pJ.sub y c h);exact⟨v,o,old _ _ h1,h2⟩
 .show upd H s1.heap.objs.size (.lst []) C=none;rw [aj (ff hC)];exact I.b8.fresh (jH hC)
 .show upd H s1.heap.objs.size (.lst []) c=none;rw [aj (bN (lt y c h))];exact I.lZ y c (pJ.sub y c h)
 .exact⟨by show 0<=sizeLine;decide,[],0,.nil,hD⟩
 show (eU ts js σ).length=(ts++js.map (·.2)).length;simp [eU]
def Ei (wi:TI) (ts:List Str)(js:List (Nat×Str))(g:TG)(tif:TT)(te:TE):TE:=λσ H Q=>wi σ H λJ H1=>∀D,H1 D=none->∃W:Nat->Nat->List V->St->Hp->Prop,(∃m,W 0 m [] (eU ts js σ) (upd H1 D (.lst []))) /\
 ∀i m ys σ' H,W i m ys σ' H->(J.stop i H/\Q (.ref D) H)\/(J.go i H/\∃m',m' < m/\∀x H',J.m_ i H x H'->g x σ' H' λσ2 H2=>tif σ2 H2 λb H3 =>
  if b=true then te σ2 H3 λy H4=>H4 D=some (.lst ys)/\ys.length < sizeLine/\W (i+1) m' (ys++[y]) σ2 (upd H4 D (.lst (ys++[y]))) else W (i+1) m' ys σ2 H3)
def bF {X:Cx}{elt iter tg:Expr}{ifs:List Expr}{scope:Scope}{pos:Pos}{wi:TI}{g:TG}{tif:TT}{te:TE}(ts:List Str)(js:List (Nat×Str))(hc:X.calm=true)(hi:PI X tg iter wi)
  (cp:JE X scope js)(jz:∀y∈scope.names,y.2≠.cell)(jy:scope.kind=.function)
  (Ah:∀y∈scope.names,y.2=.local->scope.names.lookup y.1=some .local)
  (hg:∀cl C s1 H1 fp,PG (sV X scope cl C s1 H1 (ts++js.map (·.2)) fp) tg g)
  (Vv:∀cl C s1 H1 fp,Dx (sV X scope cl C s1 H1 (ts++js.map (·.2)) fp) ifs tif)(he:∀cl C s1 H1 fp,PE (sV X scope cl C s1 H1 (ts++js.map (·.2)) fp) elt te)
  (hs:∀x,foldedSetIterable iter X.env x=pure x:=by intro _;rfl) :
  PE X (.ListComp elt [⟨tg,iter,ifs,0⟩] scope pos) (Ei wi ts js g tif te):=by
 intro ag s σ H Q I h;rw [eval_ListComp];obtain⟨cl,pJ⟩:=wA (env:=X.env) (scope:=scope) λy hy=>I.ok.has y (.inl (cp.all y hy));refine wpAny_comprehension_free (use:=none) rfl hs pJ.eq jy Ah (cJ (hi ag s σ H _ I h) λv s1 h1=>cJ h1 λRQ s2 h2=>?_);obtain⟨it,fp,tn,J,H2,e,I2,T,Hj,f2,h2⟩:=h2;subst e;obtain⟨W,⟨m0,w0⟩,turn⟩:=h2 s2.heap.objs.size I2.fresh;have Gg:∀b∈fp,b < s2.heap.objs.size:=λb hb=>by obtain⟨o,e,_⟩:=T.obj _ _ Hj b hb;exact ba e
 refine iW (wpAny_newFunctionEnv jz (by intro y hy;simp at hy) (λh₁ Ag wc=>?_) jy);dsimp only at Ag wc ⊢;generalize MJ:s2.heap.push { cls:=.type "list",dict:=none,data:=.seq ([]:List Value).toArray }=G2 at Ag wc ⊢;have Jh:G2.objs.size=s2.heap.objs.size+1:=by rw [<-MJ,jk]
 have VX:s2.heap.objs.size≠G2.objs.size:=by rw [Jh];exact bN (mT _)
 have old:∀b o,s2.heap.get? b=some o->h₁.get? b=some o:=λb o e =>
  wc.extBut b o (by rw [Jh];exact bN (ky (ba e))) (bJ _ (MJ ▸ bJ _ e))
 have lJ:h₁.get? s2.heap.objs.size=some { cls:=.type "list",data:=.seq ([]:List Value).toArray 0 }:=wc.extBut _ _ VX (bJ _ (MJ ▸ cW _ rfl));generalize oi:sV X scope cl G2.objs.size s2 H2 (ts++js.map (·.2)) fp=X2;have I4:Inv X2 [] (eU ts js σ) (upd H2 s2.heap.objs.size (.lst [])) { s2 with heap:=h₁,toks:=s2.toks+([]:List (Str×Value)).length }:=by
  rw [<-oi];exact uA I2 f2 Gg jy jz cp pJ (by rw [Jh];exact mT _) rfl rfl old Ag lJ
 have x1:X2.prog=X.prog:=by rw [<-oi];rfl
 have x2:X2.w=X.w:=by rw [<-oi];rfl
 have x3:X2.K=X.K:=by rw [<-oi];rfl
 have x4:X2.calm=true:=by rw [<-oi];exact hc
 have x5:X2.A=X.A:=by rw [<-oi];rfl
 have x6:X2.env=compEnvC scope cl G2.objs.size X.env:=by rw [<-oi];rfl
 have x7:X2.xe=λ_ _=>False:=by rw [<-oi];rfl
 have Vx:PG X2 tg g:=by rw [<-oi];exact hg _ _ _ _ _
 have Mv:Dx X2 ifs tif:=by rw [<-oi];exact Vv _ _ _ _ _
 have Ht:PE X2 elt te:=by rw [<-oi];exact he _ _ _ _ _
 have OU:tn 0 h₁:=T.keep _ _ _ Hj λb _ o e=>old b o e;have rF:∀{H':Hp}{j6:List (Addr×Obj)},(∀b∈fp,H' b=none)->(∀p∈j6,p.1∉fp)->∀b∈fp,wH X2 j6 H' b:=λ{H' j6} hn hp b hb=>by
  have o4:=I4.ok;subst oi;exact⟨hn b hb,(o4.N3 b hb).1,o4.C8 b hb,.inl hb,(o4.N3 b hb).2,λp n8=>by
   have oC:p∈([]:List (Addr×Obj))++j6:=n8;rw [mR] at oC;intro z;exact hp p oC (by rw [z];exact hb)⟩
 have fin:∀{s':Shared}{σ':St}{H':Hp},Inv X2 [] σ' H' s'->Q (.ref s2.heap.objs.size) H' ->
   compPost (model X.prog X.w) X.A X.xe none (EP X ag σ Q) (.ref s2.heap.objs.size) G2.objs.size (.ok .next) s':=λ{s' σ' H'} J' q=>by
  subst oi;obtain⟨m',Jc,_⟩:=J'.loc;refine⟨m',Jc,λh' NS=>?_⟩;have u:Un (C5 X.stack) fp H2 H' s2.heap s'.heap:=J'.base;have nC:∀b o,s2.heap.get? b=some o->b≠G2.objs.size:=λb o e=>by rw [Jh];exact bN (ky (ba e))
  have u':Un (C5 X.stack) fp H2 H' s2.heap h':=⟨λb o e n hb hx=>(NS.2 b (nC b o e)).trans (u.keep b o e n hb hx),λb o e n hb hx=>by
    obtain⟨sl,z⟩:=u.slot b o e n hb hx;exact⟨sl,(NS.2 b (nC b o e)).trans z⟩,u.free,λb o e hx=>by
    obtain⟨o',z⟩:=u.there b o e hx;exact⟨o',(NS.2 b (nC b o e)).trans z⟩,u.o9,u.mH,u.nh⟩
  have b8:l8 X.prog X.w H' h':=λb ob e=>by
   refine(J'.b8 b ob e).ka (λc w' lI q'=>(NS.2 c ?_).trans q') (λ_ q=>q) λ_ _ q=>q;intro z;have fr:H' G2.objs.size=none:=J'.free;rcases lI with z' | z'
   .rw [<-z'] at e;rw [z,fr] at e;cases e
   rw [z,fr] at z';cases z'
  have I5:Inv X ag σ H' { s' with heap:=h' }:=I2.KQ (s':={ s' with heap:=h' }) J'.os u' b8 J'.bare λb hb=>by
   obtain⟨_,f1,_,f3,f4,f5⟩:=f2 b hb;exact⟨f3,f1,f4,f5⟩
  exact⟨.ref s2.heap.objs.size,H',I5,rfl,q⟩
 have loop:∀s₃:Shared,s₃={ s2 with heap:=h₁,toks:=s2.toks+([]:List (Str×Value)).length } ->
   codeAny (model X.prog X.w) X.A (.compLoop (.ListComp elt [⟨tg,iter,ifs,0⟩] scope pos) 0 (.ref it) (.ref s2.heap.objs.size) (compEnvC scope cl G2.objs.size X.env))
    (compPost (model X.prog X.w) X.A X.xe none (EP X ag σ Q) (.ref s2.heap.objs.size) G2.objs.size) s₃:=by
  rintro s₃ rfl;subst oi;refine qi (λn s'=>∃i ys σ' H',Inv (sV X scope cl G2.objs.size s2 H2 (ts++js.map (·.2)) fp) [] σ' H' s'/\tn i s'.heap/\(∀b∈fp,H' b=none)/\W i n ys σ' H') ?_ m0
   ⟨0,[],_,_,I4,OU,λb hb=>by rw [aj (bN (Gg b hb))];exact(f2 b hb).1,w0⟩
  rintro n s' ⟨i,ys,σ0,H',J',wK,QF,w'⟩;rcases turn i n ys σ0 H' w' with ⟨stop,q⟩ | ⟨go,m',hm,step⟩
  .refine dH (T.done (sV X scope cl G2.objs.size s2 H2 (ts++js.map (·.2)) fp) rfl rfl rfl hc i [] s' _ H' (λ_ _=>False) J' (rF QF (by simp)) wK stop) (λr s4 ⟨hr,J4⟩=>?_) λ_ _ z=>z;subst hr;exact fin J4 q
  refine dH (T.item (sV X scope cl G2.objs.size s2 H2 (ts++js.map (·.2)) fp) rfl rfl rfl hc i [] s' _ H' (λ_ _=>False) J' (rF QF (by simp)) wK go) (λr s4 ⟨u,hr,h4⟩=>?_) λ_ _ z=>z;subst hr;refine dH h4 (λ_ s5 bz=>?_) λ_ _ z=>z;obtain⟨xv,H5,J5,r5,y5,Ca,QE⟩:=bz;have Xh:=J5.pinned (rF QE (by simp)) (T.obj _ _ Ca);have back:∀{s7:Shared}{σ7:St}{H7:Hp},Inv (sV X scope cl G2.objs.size s2 H2 (ts++js.map (·.2)) fp) ([]++pC fp s5.heap) σ7 H7 s7->Inv (sV X scope cl G2.objs.size s2 H2 (ts++js.map (·.2)) fp) [] σ7 H7 s7/\tn (i+1) s7.heap/\∀b∈fp,H7 b=none:=λ{s7 σ7 H7} J7=>by
   refine⟨J7.kN,T.keep _ _ _ Ca λb hb o e=>(J7.pin (b,o) (fY _ (fY _ (g6 hb e)))).1,λb hb=>?_⟩;obtain⟨o,e,d⟩:=T.obj _ _ Ca b hb;exact(J7.pin (b,o) (fY _ (fY _ (g6 hb e)))).2.1
  show wpAny _ _ (assign tg (sV X scope cl G2.objs.size s2 H2 (ts++js.map (·.2)) fp).env u) _ _ s5;refine dH (Vx _ s5 _ H5 xv u _ Xh r5 (step xv H5 y5)) (λ_ s6 bz=>?_) λ_ _ z=>z;obtain⟨σ6,H6,J6,q6⟩:=bz;refine dH (Mv _ s6 _ H6 _ J6 q6) (λb s7 bz=>?_) λ_ _ z=>z;obtain⟨H7,J7,q7⟩:=bz;cases b with
  | false =>
   rw [az dP] at q7 ⊢;obtain⟨J8,TB,V7⟩:=back J7;exact⟨m',hm,i+1,ys,σ6,H7,J8,TB,V7,q7⟩
  | true =>
   rw [ax rfl] at q7 ⊢;refine dH (Ht _ s7 _ H7 _ J7 q7) (λyv s8 bz=>?_) λ_ _ z=>z;obtain⟨y,H8,J8,r8,MM,UY,w8⟩:=bz;refine dH (bK (X:=sV X scope cl G2.objs.size s2 H2 (ts++js.map (·.2)) fp) _ s8 _ H8 (.ref s2.heap.objs.size) [y] (.ref s2.heap.objs.size) [yv] (λv H'=>W (i+1) m' (ys++[y]) σ6 H') J8 rfl (.cons r8 .nil) ⟨s2.heap.objs.size,ys,y,rfl,rfl,MM,UY,w8⟩)
    (λ_ s9 ⟨_,H9,J9,_,w9⟩=>?_) λ_ _ z=>z
   obtain⟨Xi,Lj,MT⟩:=back J9;exact⟨m',hm,i+1,ys++[y],σ6,H9,Xi,Lj,MT,w9⟩
 exact codeAny_compStart_list (loop _ rfl) (T.self _ _ _ _ _ OU (loop _ rfl))
def Rl (K:a9)(a:Addr):It :=
 ⟨λi H=>∃xs x,aI K H a xs/\xs[i]?=some x,λi H x H'=>∃t y,x=.ref t/\H t=none/\H'=upd H t (.tup [.int (i:Int),y])/\∀xs,aI K H a xs->xs[i]?=some y,λi H=>∃xs,aI K H a xs/\xs.length<=i⟩
def B6 {P:Program}{w:World}{K:a9}{elts:List Expr}{k:Nat}{vp:Pos}(a e it:Addr)(Qo:e≠it) :
  Turn P w K (.Tuple elts k vp) (Rl K a) [e,it] e (λi h=>(∃old,IsEnum h e it i old)/\h.IsListIter it a i) where
 mem:=by simp
 obj:=λi h st b hb=>by
  obtain⟨⟨old,he⟩,o,e1,c,d⟩:=st;rcases cA.mp hb with rfl | hb
  .exact⟨_,he,λv z=>by cases z⟩
  obtain rfl:b=it:=by simpa using hb
  exact⟨o,e1,λv z=>by rw [d] at z;cases z⟩
 keep:=λi h h' st k=>⟨⟨st.1.choose,k e (by simp) _ st.1.choose_spec⟩,st.2.at λo q=>k it (by simp) o q⟩
 item:=by
  intro X hP hw hK hc i ag s σ H E I hf st hg;subst hP hw hK;obtain⟨xs,x,hq,hx⟩:=hg;obtain⟨aU,rv,p,hz⟩:=I.list hq;obtain⟨u,hu,ru⟩:=rv.get hx;obtain⟨⟨old,he⟩,hit⟩:=st;refine wpAny_pyNext_enum_item he hit p.isList (x:=u) (by simpa using hu) Qo λh1 ho Mu hT hsz hk=>?_;refine⟨_,rfl,wpAny_letOwnedTupleGo_enum ho λh2 VC sb=>?_⟩;have ne:s.heap.objs.size≠e:=ff (ba he);have kk:∀b o,b≠e->b≠it->s.heap.get? b=some o->h2.get? b=some o:=λb o n1 n2 q=>(sb.2 b n1).trans (hk b o n1 n2 q);have T2:h2.get? s.heap.objs.size=some { cls:=.type "tuple",data:=.seq #[.int i s.toks,u] }:=(sb.2 _ ne).trans hT;have fe:=hf e (by simp);have fi:=hf it (by simp);have fT:H s.heap.objs.size=none:=I.b8.fresh (aH _);have tr:∀b v,H b=some v->b≠e/\b≠it:=λb v q=>⟨λz=>(by rw [z,fe.1] at q;cases q),λz=>(by rw [z,fi.1] at q;cases q)⟩;have nc:∀b,b∉[e,it]->b≠e/\b≠it:=λb z=>⟨λq=>z (by simp [q]),λq=>z (by simp [q])⟩;have lt:∀b o,s.heap.get? b=some o->b≠s.heap.objs.size:=λb o q=>bN (ba q);have I2:Inv X ag σ (upd H s.heap.objs.size (.tup [.int (i:Int),x])) { s with heap:=h2,toks:=s.toks+1 }:=by
   refine I.call (g':=s.gens) (t':=s.toks+1) (d':=s.drawn) (ch:=[e,it]) ⟨λb o q _ _ c=>kk b o (nc b c).1 (nc b c).2 q,λb o q _ _ c=>⟨o.slots,kk b o (nc b c).1 (nc b c).2 q⟩,
    λb o q n _=>by rw [aj (lt b o q)];exact n,λb o q c=>⟨o,kk b o (nc b c).1 (nc b c).2 q⟩,λb ys q=>by rw [aj (ay q fT)];exact q,λb o v q=>by rw [aj (ay q fT)];exact q,
    λb ps q=>⟨#[],by rw [aj (ay q fT),q];simp⟩⟩ (λb v q=>?_) I.bare (λb hb=>?_)
   .by_cases hb:b=s.heap.objs.size
    .subst hb;rw [ae] at q;cases q;exact⟨by show 2<=sizeLine;decide,[.int i s.toks,u],.cons ⟨_,rfl⟩ (.cons ru .nil),_,T2,rfl,_,rfl⟩
    rw [aj hb] at q;refine(I.b8 b v q).ka (λc o lI z=>?_) (λc q'=>by rw [aj (ay q' fT)];exact q') λc ys q'=>by rw [aj (ay q' fT)];exact q'
    rcases lI with rfl | lI
    .exact kk c o (tr c _ q).1 (tr c _ q).2 z
    exact kk c o (tr c _ lI).1 (tr c _ lI).2 z
   rcases cA.mp hb with rfl | hb
   .exact⟨fe.2.2.2.1,fe.2.1,fe.2.2.2.2.1,fe.2.2.2.2.2⟩
   obtain rfl:b=it:=by simpa using hb
   exact⟨fi.2.2.2.1,fi.2.1,fi.2.2.2.2.1,fi.2.2.2.2.2⟩
  refine⟨.ref s.heap.objs.size,_,I2,rfl,⟨_,x,rfl,fT,rfl,λys hy=>by rw [I.sg hy hq];exact hx⟩,⟨⟨_,VC⟩,Mu.at λo q=>(sb.2 it Qo.symm).trans q⟩,λb hb=>?_⟩;have Hy:H b=none/\∃o,s.heap.get? b=some o:=by
   rcases cA.mp hb with rfl | hb
   .exact⟨fe.1,_,he⟩
   obtain rfl:b=it:=by simpa using hb
   obtain⟨o,q,_⟩:=hit;exact⟨fi.1,o,q⟩
  obtain⟨n,o,q⟩:=Hy;rw [aj (lt b o q)];exact n
 done:=by
  intro X hP hw hK hc i ag s σ H E I hf st hg;subst hP hw hK;obtain⟨xs,hq,hx⟩:=hg;obtain⟨aU,rv,p,hz⟩:=I.list hq;obtain⟨⟨old,he⟩,hit⟩:=st;obtain⟨f0,f1,f2,f3,f4,f5⟩:=hf it (by simp);have hl:=rv.length;exact wpAny_pyNext_enum_end (I.ok.hd hc) he hit p.isList (by simp;omega) λh' eb=>⟨rfl,I.turned (t':=s.toks) (λb o hb e=>eb b o hb e) f0 f1 f3 f4 f5⟩
 self:=λ_ _ _ _ _ st h=>wpAny_pyIter_enum st.1.choose_spec h
def uP:bootBuiltins "enumerate"=some (.type "enumerate"):=by decide +kernel
def PY (K:a9)(ta:TA):TI:=λσ H R=>ta σ H λvs H1=>∃a xs,vs=[.ref a]/\aI K H1 a xs/\R (Rl K a) H1
def nU {X:Cx}{elts:List Expr}{k:Nat}{vp:Pos}{l:Expr}{ta:TA}{p pos:Pos}(hg:Gl X "enumerate")(hm:X.mg "enumerate"=none)(ha:PA X [l] ta)(hs:starEach [l] X.env=[(false,eval l X.env)]:=by rfl) :
  PI X (.Tuple elts k vp) (.Call (.Name "enumerate" p) [l] [] pos) (PY X.K ta):=by
 intro ag s σ H R I h;refine Call_ (iR I hg hm uP (ub (cJ (ha pos ag s σ H _ I h) λus s1 bz=>?_) hs rfl));obtain⟨vs,H1,I1,r1,q1⟩:=bz;obtain⟨a,xs,e,hq,q⟩:=q1;subst e;obtain⟨u,rfl,rx⟩:=r1.one;cases rx;obtain⟨aU,rv,pl,hz⟩:=I1.list hq;refine call_enumerate_list pl.isList λh1 he hit hsz hk=>wpAny_pyIter_enum he ?_;refine⟨s1.heap.objs.size+1,[s1.heap.objs.size+1,s1.heap.objs.size],_,_,H1,rfl,I1.kept (t':=s1.toks) λb o e=>hk b o e,B6 a _ _ (ff (mT _)),⟨⟨_,he⟩,hit⟩,λb hb=>?_,q⟩;rcases cA.mp hb with rfl | hb
 .exact I1.wm (oG _) (I1.b8.fresh (oG _))
 obtain rfl:b=s1.heap.objs.size:=by simpa using hb
 exact I1.wm (aH _) (I1.b8.fresh (aH _))
def cK (kvs bA:List (aS×V)):List (aS×V):=kvs.foldl (λa p=>bS a p.1 p.2) bA
theorem sO:∀{kvs:List (aS×V)}{vs:List (aS×Value)}{bA:List (aS×V)}{G4:List (aS×Value)},KV kvs vs->KV bA G4->KV (cK kvs bA) (vs.foldl (λa p=>stored a p.1 p.2) G4)
 | _,_,_,_,.nil,h=>h
 | _,_,_,_,.cons (a:=p) (b:=q) r t,h=>by
  obtain⟨e,rv⟩:=r;show KV (cK _ (bS _ p.1 p.2)) (List.foldl _ (stored _ q.1 q.2) _);rw [<-e];exact sO t (h.put p.1 rv)
theorem sP:∀(kvs bA:List (aS×V)),(cK kvs bA).length<=bA.length+kvs.length
 | [],bA=>by simp [cK]
 | p::r,bA=>by
  have:=sP r (bS bA p.1 p.2);have:=fu bA p.1 p.2;show (cK r (bS bA p.1 p.2)).length<=_;rw [dN];omega
section
variable {X:Cx}{ag:List (Addr×Obj)}{σ:St}{H:Hp}{s:Shared}
theorem pairs_at (I:Inv X ag σ H s):∀{ts:List Addr}{kvs:List (aS×V)}{aU:List Value},Paired (λt kv=>aQ X.K H t [kV kv.1,kv.2]) ts kvs->a_ (ts.map V.ref) aU ->
  ∃vs:List (aS×Value),KV kvs vs/\Paired (λu kv=>mM (bj X.prog X.w) s.heap u kv) aU vs
 | [],_,_,.nil,r=>by
  rw [jG] at r;cases r;exact⟨[],.nil,.nil⟩
 | t::ts,kv::kvs,_,.cons h p,r=>by
  rw [cu] at r;cases r with
  | cons r1 r2 =>
   obtain⟨vs,e1,e2⟩:=pairs_at I p r2;obtain⟨aU,rv,⟨o,h1,h2,n,h3⟩,_⟩:=I.tuple h;obtain⟨u1,u2,rfl,q1,q2⟩:=vals2 rv;exact⟨(kv.1,u2)::vs,.cons ⟨rfl,q2⟩ e1,.cons ⟨t,u1,n,o,r1,lY q1,h1,h2,h3⟩ e2⟩
theorem Paired.at_ {α β:Type}{F:α->β->Prop}:∀{xs:List α}{ys:List β},Paired F xs ys->∀(m:Nat)(y:β),ys[m]?=some y->∃x,xs[m]?=some x/\F x y
 | _,_,.nil,m,y,e=>by cases m <;> cases e
 | _,_,.cons h t,0,y,e=>by cases e;exact⟨_,rfl,h⟩
 | _,_,.cons h t,m+1,y,e=>Paired.at_ t m y e
def dD (hc:X.calm=true):il X (.type "dict") (λxs H Q=>∃a ts kvs,xs=[.ref a]/\H a=some (.lst (ts.map V.ref))/\Paired (λt kv=>aQ X.K H t [kV kv.1,kv.2]) ts kvs/\∀d,H d=none->Q (.ref d) (upd H d (.dK (cK kvs [])))):=by
 intro ag s σ H xs us Q I r h;obtain⟨a,ts,kvs,rfl,e,p,q⟩:=h;obtain⟨u,rfl,rx⟩:=vals1 r;cases (show u=Value.ref a from rx);obtain⟨z,aU,n,rv,ho⟩:=(show cH X.prog X.w H s.heap a (.lst _) from I.b8 a _ e);obtain⟨vs,r1,r2⟩:=pairs_at I p rv;have l1:=aY r2;have l2:=r1.length;have l3:=aY p;rw [au] at z;refine tu (bj X.prog X.w) (I.ok.hd hc) ho (by simpa using l1) (λm kv em=>?_) ∅ λh' t' hd kk=>?_
 .obtain⟨u,e1,e2⟩:=Paired.at_ r2 m kv em;exact⟨u,by simpa using e1,e2⟩
 have new:cH X.prog X.w (upd H s.heap.objs.size (.dK (cK kvs []))) h' s.heap.objs.size (.dK (cK kvs [])):=by
  refine sS ?_ ?_ (sO r1 .nil) hd
  .have:=sP kvs [];simp at this;omega
  have:=I.big;exact j4.mpr (ff this)
 exact⟨.ref s.heap.objs.size,_,I.laid (t':=t') kk (aH _) new,rfl,q _ (I.b8.fresh (aH _))⟩
theorem jv {α β:Type}{F:α->β->Prop}:∀{xs:List α}{ys:List β},xs.length=ys.length->(∀(j:Nat) x y,xs[j]?=some x->ys[j]?=some y->F x y)->Paired F xs ys
 | [],[],_,_=>.nil
 | [],_::_,e,_=>by cases e
 | _::_,[],e,_=>by cases e
 | x::xs,y::ys,e,h=>.cons (h 0 x y rfl rfl) (jv (Nat.succ.inj e) λj a b e1 e2=>h (j+1) a b e1 e2)
def Kj {P:Program}{w:World}{k:aS}{u:Value}(h:(bj P w).is k u=true):RelV (kV k) u:=by
 rcases dA (show si k u=true from h) with ⟨i,t,rfl,rfl⟩ | ⟨x,t,rfl,rfl⟩
 .exact⟨t,rfl⟩
 exact⟨t,rfl⟩
def mJ (hc:X.calm=true):il X (.type "list") (λxs H Q=>∃a kvs,xs=[.ref a]/\H a=some (.dK kvs)/\∀D,H D=none->Q (.ref D) (upd H D (.lst (kvs.map λp=>kV p.1)))):=by
 intro ag s σ H xs us Q I r h;obtain⟨a,kvs,rfl,e,q⟩:=h;obtain⟨u,rfl,rx⟩:=vals1 r;cases (show u=Value.ref a from rx);obtain⟨z,hs,vs,rel,dd⟩:=xX I.b8 e;obtain⟨o,es,ep,d1,d2,d3,d4⟩:=dd;have l1:=rel.length;refine PySem.W.kdl_call (PySem.W.kdl_dict (knd:=bj X.prog X.w) (kvs:=vs) (ep:=ep) hs) (I.ok.hd hc) ⟨o,es,d1,d2,d3,d4⟩ ∅ λh' tk bA c kk hD lJ=>?_;have keys:=rel.keys;have vals:a_ (kvs.map λp=>kV p.1) bA.toList:=by
  refine jv (by have h1:=lJ.1;simp only [au,rh];omega) λj x y e1 e2=>?_;rw [Array.getElem?_toList] at e2;obtain⟨k,v,e3,e4⟩:=lJ.2 j y e2;rw [bh] at e1;obtain⟨p,e5,rfl⟩:=cq.mp e1;have e6:(kvs.map (·.1))[j]?=some p.1:=by rw [bh,e5];rfl
  rw [keys,bh,e3] at e6;cases e6;exact Kj e4
 have new:cH X.prog X.w (upd H s.heap.objs.size (.lst (kvs.map λp=>kV p.1))) h' s.heap.objs.size (.lst (kvs.map λp=>kV p.1)):=⟨by rw [au];exact z,bA.toList,c,vals,by simpa using hD⟩;exact⟨.ref s.heap.objs.size,_,I.laid (t':=tk) kk (aH _) new,rfl,q _ (I.b8.fresh (aH _))⟩
end
def mK (v:V):Prop:=iS v=true\/∃r,v=.ref r
def Gw {x:V}(h:iS x=true):xU x x=true:=by
 cases x with
 | d7=>rfl
 | bl b=>exact oU b
 | int i=>exact oU i
 | str z=>exact oU z
 | _=>cases h
def mI {A:Around}{s:Shared}{x:V}{u v:Value}(h:mK x)(ru:RelV x u)(rv:RelV x v):SeqAt.EqAt A s u v true:=by
 rcases h with h | ⟨r,rfl⟩
 .have q:=Aw (A:=A) (s:=s) ru rv h h;rw [Gw h] at q;exact q
 cases (show u=Value.ref r from ru);cases (show v=Value.ref r from rv);exact .same _
def sq {A:Around}{s:Shared}{xs:List V}{aU cI:List Value}(r:a_ xs aU)(r2:a_ xs cI)(hx:∀v∈xs,mK v) (j:Nat)(h1:j < aU.toArray.size)(h2:j < cI.toArray.size) :
  SeqAt.EqAt A s aU.toArray[j] cI.toArray[j] true:=by
 have l1:=r.length;have k1:j < aU.length:=by simpa using h1
 have k2:j < cI.length:=by simpa using h2
 have g1:xs[j]?=some (xs[j]'∅):=cf ∅;obtain⟨u1,e1,q1⟩:=r.get g1;obtain⟨u2,e2,q2⟩:=r2.get g1;have f1:aU.toArray[j]=u1:=by
  have:=(bq.mp e1).2;simpa using this
 have f2:cI.toArray[j]=u2:=by
  have:=(bq.mp e2).2;simpa using this
 rw [f1,f2];exact mI (hx _ (oT _)) q1 q2
def JW (K:a9)(b:Bool):V->V->Hp->VK->Prop:=λx y H Q=>∃p q xs,x=.ref p/\y=.ref q/\aI K H p xs/\aI K H q xs/\(∀v∈xs,mK v)/\Q (.bl b) H
def LP {X:Cx}(hu:X.A.units < cLine):jj X (compareOp .Eq) (JW X.K true):=by
 intro ag s σ H x y v u Q I rx ry h;obtain⟨a,b,xs,rfl,rfl,ha,hb,hx,q⟩:=h;cases rx;cases ry;obtain⟨aU,r,pl,hz⟩:=I.list ha;obtain⟨cI,r2,tT,NP⟩:=I.list hb;have l1:=r.length;have l2:=r2.length;refine SeqAt.eq_listAt (e:=λ_=>true) pl.isList tT.isList (by simp only [bR];omega) hu (λj h1 h2=>sq r r2 hx j h1 h2) ?_;have e:((List.range aU.toArray.size).all λ_=>true)=true:=by simp
 rw [e];exact⟨.bl true,H,I,rfl,q⟩
def zO {X:Cx}(hu:X.A.units < cLine):jj X (compareOp .NotEq) (JW X.K false):=by
 intro ag s σ H x y v u Q I rx ry h;obtain⟨a,b,xs,rfl,rfl,ha,hb,hx,q⟩:=h;cases rx;cases ry;obtain⟨aU,r,pl,hz⟩:=I.list ha;obtain⟨cI,r2,tT,NP⟩:=I.list hb;have l1:=r.length;have l2:=r2.length;refine SeqAt.RcNeAt.lists (e:=λ_=>true) pl.isList tT.isList (by simp only [bR];omega) hu (λj h1 h2=>sq r r2 hx j h1 h2) X.prog X.w X.xe _ ?_;have e:(!(List.range aU.toArray.size).all λ_=>true)=false:=by simp
 rw [e];exact⟨.bl false,H,I,rfl,q⟩
section
variable {K:a9}{a D:Addr}{xs:List V}{ts:List Str}{js:List (Nat×Str)}{g:TG}{tif:TT}{te:TE}{R:Hp->Prop}{σ:St}{H:Hp}
def cE (Pv:Nat->List V->St->Hp->Prop)(h0:Pv 0 [] (eU ts js σ) (upd H D (.lst [])))(hl:∀i ys σ H,i<=xs.length->Pv i ys σ H->aI K H a xs)
  (hs:∀i x ys σ H,xs[i]?=some x->Pv i ys σ H->g x σ H λσ2 H2=>tif σ2 H2 λb H3=>if b=true then te σ2 H3 λy H4=>H4 D=some (.lst ys)/\ys.length < sizeLine/\Pv (i+1) (ys++[y]) σ2 (upd H4 D (.lst (ys++[y]))) else Pv (i+1) ys σ2 H3)
  (hd:∀ys σ H,Pv xs.length ys σ H->R H) :
  ∃W:Nat->Nat->List V->St->Hp->Prop,(∃m,W 0 m [] (eU ts js σ) (upd H D (.lst []))) /\
 ∀i m ys σ' H,W i m ys σ' H->((j_ K a).stop i H/\R H)\/((j_ K a).go i H/\∃m',m' < m/\∀x H',(j_ K a).m_ i H x H'->g x σ' H' λσ2 H2=>tif σ2 H2 λb H3 =>
  if b=true then te σ2 H3 λy H4=>H4 D=some (.lst ys)/\ys.length < sizeLine/\W (i+1) m' (ys++[y]) σ2 (upd H4 D (.lst (ys++[y]))) else W (i+1) m' ys σ2 H3):=by
 refine⟨λi m ys σ H=>m=xs.length - i/\i<=xs.length/\Pv i ys σ H,⟨xs.length,by simp,gB _,h0⟩,?_⟩;rintro i m ys σ' H ⟨rfl,hi,p⟩;have q:=hl i ys σ' H hi p;by_cases ki:i < xs.length
 .refine .inr ⟨⟨xs,xs[i],q,by simp [ki]⟩,xs.length - (i+1),∅,λx H' y=>?_⟩;obtain⟨e,y⟩:=y;subst e;have z:=hs i x ys σ' _ (y xs q) p;have h1:(i+1<=xs.length)=True:=eq_true ki;simp only [h1,true_and];exact z
 have e:i=xs.length:=by omega
 subst e;exact .inl ⟨⟨xs,q,aH _⟩,hd ys σ' H p⟩
end
def fA {K:a9}{t:Value}:PySem.W.kitOne K t t=some true:=by unfold PySem.W.kitOne;rw [ax (oU t)]
def OQ (t:TS):TS:=λD σ H=>∃R:St->Hp->Prop,t { D with nx:=R } σ H/\∀σ' H',R σ' H'->D.nx σ' H'
def nO {X:Cx}{st:Stmt}{t:TS}(h:PS X st t):PS X st (OQ t):=by
 intro ag s σ H D I ⟨R,q,m⟩;refine cJ (h ag s σ H _ I q) λf s1 z=>?_;cases f with
 | next=>obtain⟨σ',H',I',r⟩:=z;exact⟨σ',H',I',m _ _ r⟩
 | ret v=>exact z
 | brk=>exact z
 | cont=>exact z
def aB (P:Program)(w:World)(K:a9)(mg:Str->Option Value)(base:Heap) (k:Nat)(x:Str) (ps:List Str)(sp:Sp):Prop :=
 ∃f fd,bO P w K mg base fk k f fd ps sp/\Binds K fd ps []/\PySem.W.keepIn K (.ref f)=true/\mg x=some (.ref f)
theorem aB.mono {P:Program}{w:World}{K:a9}{mg:Str->Option Value}{base:Heap}{j k:Nat}{x:Str}{ps:List Str}{sp:Sp}(c:aB P w K mg base j x ps sp)(h:j<=k):aB P w K mg base k x ps sp :=
 let ⟨f,fd,a,b⟩:=c;⟨f,fd,a.mono h,b⟩
def a8 {X:Cx}{k:Nat}{x:Str}{ps:List Str}{sp:Sp}{e:Expr}{es:List Expr}{t:TA}{p pos:Pos}(c:aB X.prog X.w X.K X.mg X.base k x ps sp)(hr:fj k X.A)(hg:Gl X x)(ha:PA X (e::es) t)
  (CV:(x == ("__debug__":Str))=false:=by decide)(he:starEach (e::es) X.env=(false,eval e X.env)::starEach es X.env:=by rfl)(yz:(backTo pos (starEach es X.env)).any (·.1)=false:=by rfl) :
  PE X (.Call (.Name x p) (e::es) [] pos) (JJ sp [] E0 t):=by
 obtain⟨f,fd,G,b,kp,m⟩:=c;exact IF G hr hg m kp b .nil uo ha CV he yz
def fits {n:Nat}(h:n<=1000000):n<=sizeLine:=fX h nofun
def bL {n:Nat}(h:n<=1000000):n < sizeLine:=pY h nofun
def af {H:Hp}{p:Addr}(h:H p=none)(o:HO):aC H (upd H p o):=λb u q=>by rw [aj (ay q h)];exact q
def aC.tup {K:a9}{H H':Hp}{a:Addr}{xs:List V}(e:aC H H')(h:aQ K H a xs):aQ K H' a xs:=by
 rcases h with (h | ⟨o,h⟩) | h
 .exact .inl (.inl (e _ _ h))
 .exact .inl (.inr ⟨o,e _ _ h⟩)
 exact .inr h
def iF {X:Cx}(hc:X.calm=true):il X (.builtin "all") (λxs H Q=>∃(a:Addr)(bs:List Bool),xs=[.ref a]/\aI X.K H a (bs.map V.bl)/\Q (.bl (bs.all id)) H):=by
 intro ag s σ H xs us Q I r h;obtain⟨a,bs,rfl,hq,q⟩:=h;obtain⟨u,rfl,rx⟩:=vals1 r;cases (show u=Value.ref a from rx);obtain⟨aU,rv,pl,hz⟩:=I.list hq;obtain⟨o,h1,h2,m,h3⟩:=id pl.isList;have la:a < s.heap.objs.size:=ba h1;have ln:=rv.length;rw [au] at ln;have isB:∀(i:Nat) v,aU.toArray[i]?=some v->v=.bool (bs.getD i true):=λi v e=>by
  have e':aU[i]?=some v:=by simpa using e
  obtain⟨x,e2,e3⟩:=Paired.at_ rv i v e';rw [bh] at e2;obtain⟨b,e4,rfl⟩:=cq.mp e2;rw [wQ,e4];exact e3
 refine call_all_walk (oR pl.isList ?_);refine⟨s.heap.objs.size,_,_,_,_,_,λi=>bs.getD i true,rfl,Walks.list (A:=X.A.in1) (show X.A.in1.handled=none from I.ok.hd hc) s.heap.objs.size a (bN la) aU.toArray,⟨⟨_,cW _ rfl,rfl,rfl⟩,⟨o,bJ _ h1,h2,m,h3⟩⟩,?_,λh' tk kk=>?_⟩
 .intro i v s1 Q1 E1 hP hQ1;rw [isB i v hP];exact kn hQ1
 have e:((List.range aU.toArray.size).all λi=>bs.getD i true)=bs.all id:=by
  rw [bR,<-ln,mP,gC,gC];constructor
  .intro h b hb;obtain⟨i,hi,e⟩:=qR.mp hb;have:=h i (kK.mpr hi);rw [wQ,cf hi,e] at this;exact this
  intro h i hi;have Y4:=kK.mp hi;rw [wQ,cf Y4];exact h _ (oT Y4)
 rw [e];exact⟨.bl _,H,I.kept (t':=tk) λb o' e'=>kk b o' (by simp;exact bN (ba e')) (bJ _ e'),rfl,q⟩
section
variable {prog:Program}{w:World}{A:Around}{E:Value->Shared->Prop}{s:Shared}
def iP {it l:Addr}{i:Nat}{items:Array Value}{x:Value}{Q:Value->Shared->Prop}(hit:s.heap.IsTupleIter it l i)(hl:s.heap.IsTuple l items)(hx:items[i]?=some x)
  (hQ:∀h',h'.IsTupleIter it l (i+1)->Heap.SameBut it s.heap h'->Q x { s with heap:=h' }):wpAny (model prog w) A (Builtin.SmallTypes.nextOf (.ref it)) Q E s:=by
 obtain⟨o,ho,hc,hd⟩:=id hit;obtain⟨ol,Vj,_,nl,Qr⟩:=hl;unfold Builtin.SmallTypes.nextOf;refine ar (mW (name:=Str.ofString "__next__") hit.typeIs vi (lQ vi hit.typeIs F.entry_tuple_iterator_next ?_ (F.args_tuple_iterator_next_1 _)));show wpAny _ _ (field (.ref it) 0 >>= λv=>_) _ _ s;refine ar (eF ho hd (x:=.ref l) (by rfl) ?_);show wpAny _ _ (if (Value.ref l == .none)=true then _ else _) _ _ s;rw [az (by exact dP)];show wpAny _ _ (field (.ref it) 1 >>= λv=>_) _ _ s;refine ar (eF ho hd (x:=.int i 0) (by rfl) ?_);show wpAny _ _ (seqItems? (.ref l) >>= λv=>_) _ _ s;refine ar (jl Vj Qr (by
  simp only [kr,hx];refine ar (wpAny_setField ho hd (by simp) (aR ⟨x,rfl,aR (hQ _ ⟨_,o5 _ ho (Obj.isFreed_of_fields (Obj.data_mapFields hd _)),(Obj.cls_mapFields ..).trans hc,?_⟩ (Heap.SameBut.update ..))⟩));rw [Obj.data_mapFields hd];simp [rawInt]))
def Ax {e it l:Addr}{i:Nat}{items:Array Value}{x old:Value}{Q:Option Value->Shared->Prop}(he:IsEnum s.heap e it i old)(hit:s.heap.IsTupleIter it l i)(hl:s.heap.IsTuple l items)(hx:items[i]?=some x)(DO:e≠it)
  (hQ:∀h',IsEnumOut h' e it ((i:Int)+1) x s.heap.objs.size->h'.IsTupleIter it l (i+1)->h'.get? s.heap.objs.size=some { cls:=.type "tuple",data:=.seq #[.int i s.toks,x] } ->
   (∀b o,b≠e->b≠it->s.heap.get? b=some o->h'.get? b=some o)->Q (some (.ref s.heap.objs.size)) { s with heap:=h',toks:=s.toks+1 }) :
  wpAny (model prog w) A (pyNext (.ref e)) Q E s:=by
 have hT:s.TypeIs (.ref e) "enumerate" := ⟨_,he,rfl⟩;unfold pyNext;refine ar (oH (mW (name:=Str.ofString "__next__") hT u9 (lQ u9 hT F.entry_enumerate_next ?_ (F.args_enumerate_next_1 _))));obtain⟨hp,g,d,tk,os⟩:=s;show wpAny _ _ (field (.ref e) 2 >>= λv=>_) _ _ _;refine ar (eF he rfl (x:=.ref it) (by rfl) (ar (iP hit hl hx λh₁ Vt P8=>?_)));replace P8:Heap.SameBut it hp h₁:=P8;have VB:IsEnum h₁ e it i old:=(P8.2 e DO).trans he;show wpAny _ _ (field (.ref e) 3 >>= λv=>_) _ _ ⟨h₁,g,d,tk,os⟩;refine ar (eF VB rfl (x:=rawInt i) (by rfl) ?_);show wpAny _ _ (field (.ref e) 4 >>= λv=>_) _ _ ⟨h₁,g,d,tk,os⟩;refine ar (eF VB rfl (x:=.none) (by rfl) ?_);show wpAny _ _ (mkInt i >>= λv=>_) _ _ ⟨h₁,g,d,tk,os⟩;refine ar (wpAny_mkInt ?_);show wpAny _ _ (setField (.ref e) 3 (rawInt ((i:Int)+1)) >>= λv=>_) _ _ ⟨h₁,g,d,tk+1,os⟩;refine ar (jX VB (by simp) λh₂ f₂ hs₂=>?_);have he₂:IsEnum h₂ e it ((i:Int)+1) old:=f₂;have k₂:Heap.SameBut e h₁ h₂:=hs₂;show wpAny _ _ (setField (.ref e) 4 .none >>= λv=>_) _ _ ⟨h₂,g,d,tk+1,os⟩;refine ar (jX he₂ (by simp) λh₃ f₃ hs₃=>?_);have he₃:IsEnum h₃ e it ((i:Int)+1) old:=f₃;have k₃:Heap.SameBut e h₂ h₃:=hs₃;show wpAny _ _ (newTuple [.int i tk,x] >>= λv=>_) _ _ ⟨h₃,g,d,tk+1,os⟩;refine ar (qT ?_);have RZ:IsEnum (h₃.push { cls:=.type "tuple",data:=.seq #[.int i tk,x] }) e it ((i:Int)+1) old:=bJ _ he₃;have hsz:h₃.objs.size=hp.objs.size:=by rw [k₃.1,k₂.1,P8.1]
 have Qn:e < hp.objs.size:=ba he;have YR:(h₃.push { cls:=.type "tuple",data:=.seq #[.int i tk,x] }).get? hp.objs.size=some { cls:=.type "tuple",data:=.seq #[.int i tk,x] }:=by rw [<-hsz];exact cW _ rfl
 have Y0:∀b o,b≠e->b≠it->hp.get? b=some o->(h₃.push { cls:=.type "tuple",data:=.seq #[.int i tk,x] }).get? b=some o:=λb o n1 n2 hb=>bJ _ (k₃.extBut b o n1 (k₂.extBut b o n1 (P8.extBut b o n2 hb)));have Qj:(h₃.push { cls:=.type "tuple",data:=.seq #[.int i tk,x] }).IsTupleIter it l (i+1):=Vt.at λo q=>bJ _ (k₃.extBut it o (cP DO) (k₂.extBut it o (cP DO) q));generalize h₃.push { cls:=.type "tuple",data:=.seq #[.int i tk,x] }=h₄ at RZ YR Y0 Qj ⊢;rw [hsz];show wpAny _ _ (Builtin.SmallTypes.ownedTupleIsFree (.ref e) >>= λv=>_) _ _ ⟨h₄,g,d,tk+1,os⟩;refine ar (by
  unfold Builtin.SmallTypes.ownedTupleIsFree;refine ar (eF RZ rfl (x:=.none) (by rfl) (aR (by
   simp only [if_true];refine ar (ja (ar (eF RZ rfl (x:=old) (by rfl) (ar (jX RZ (by simp) λh₅ f₅ hs₅=>?_)))));have he₅:IsEnum h₅ e it ((i:Int)+1) x:=f₅;have k₅:Heap.SameBut e h₄ h₅:=hs₅;show wpAny _ _ (Builtin.SmallTypes.ownedTupleHandOut (.ref e) (.ref hp.objs.size) >>= λv=>_) _ _ ⟨h₅,g,d,tk+1,os⟩;refine ar (by
    unfold Builtin.SmallTypes.ownedTupleHandOut;refine ar (jX he₅ (by simp) λh₆ f₆ hs₆=>?_);have he₆:IsEnumOut h₆ e it ((i:Int)+1) x hp.objs.size:=f₆;have k₆:Heap.SameBut e h₅ h₆:=hs₆;refine jX he₆ (by simp) λh₇ f₇ hs₇=>?_;have he₇:IsEnumOut h₇ e it ((i:Int)+1) x hp.objs.size:=f₇;have k₇:Heap.SameBut e h₆ h₇:=hs₇;have up:∀b o,b≠e->h₄.get? b=some o->h₇.get? b=some o:=λb o n q=>k₇.extBut b o n (k₆.extBut b o n (k₅.extBut b o n q));exact ar (wpAny_letGo (aR ⟨_,rfl,aR (hQ h₇ he₇ (Qj.at λo q=>up it o (cP DO) q) (up _ _ (ff Qn) YR) λb o n1 n2 q=>up b o n1 (Y0 b o n1 n2 q))⟩)))))))
def iO {it l:Addr}{i:Nat}{items:Array Value}{Q:Value->Shared->Prop}(hh:A.handled=none)(hit:s.heap.IsTupleIter it l i)(hl:s.heap.IsTuple l items)(hx:items[i]?=none)
  (hE:∀h' e,Heap.ExtBut it s.heap h'->(∃o,h'.get? e=some o/\o.cls=.type "StopIteration")->E (.ref e) { s with heap:=h' }):wpAny (model prog w) A (Builtin.SmallTypes.nextOf (.ref it)) Q E s:=by
 obtain⟨o,ho,hc,hd⟩:=id hit;obtain⟨ol,Vj,_,nl,Qr⟩:=hl;unfold Builtin.SmallTypes.nextOf;refine ar (mW (name:=Str.ofString "__next__") hit.typeIs vi (lQ vi hit.typeIs F.entry_tuple_iterator_next ?_ (F.args_tuple_iterator_next_1 _)));show wpAny _ _ (field (.ref it) 0 >>= λv=>_) _ _ s;refine ar (eF ho hd (x:=.ref l) (by rfl) ?_);show wpAny _ _ (if (Value.ref l == .none)=true then _ else _) _ _ s;rw [az (by exact dP)];show wpAny _ _ (field (.ref it) 1 >>= λv=>_) _ _ s;refine ar (eF ho hd (x:=.int i 0) (by rfl) ?_);show wpAny _ _ (seqItems? (.ref l) >>= λv=>_) _ _ s;refine ar (jl Vj Qr ?_);simp only [kr,hx];refine ar (ja (ar (wpAny_setField ho hd (by simp) (ar ?_))));simp only [newExc,newTuple];refine ar (iW ?_ (by size_fits));refine ar (m:=firstArgMember _ _) (wpAny_of_eq (a:=Value.none) (by first | rfl | (simp only [firstArgMember];rfl)) ?_)
 refine iW ?_ (by size_fits);simp only [raiseNew];refine ar (wpAny_handled ?_)
 first | rw [show A.in1.handled=none from hh] | rw [hh]
 refine ar (aR (wpAny_throw (hE _ _ (((Heap.SameBut.update ..).extBut.push _).push _) ⟨_,cW _ rfl,rfl⟩)))
def C9 {e it l:Addr}{i:Nat}{items:Array Value}{old:Value}{Q:Option Value->Shared->Prop}(hh:A.handled=none)(he:IsEnum s.heap e it i old)(hit:s.heap.IsTupleIter it l i)(hl:s.heap.IsTuple l items)(hx:items[i]?=none)
  (hQ:∀h',Heap.ExtBut it s.heap h'->Q none { s with heap:=h' }):wpAny (model prog w) A (pyNext (.ref e)) Q E s:=by
 have hT:s.TypeIs (.ref e) "enumerate" := ⟨_,he,rfl⟩;unfold pyNext;refine ar (oH (mW (name:=Str.ofString "__next__") hT u9 (lQ u9 hT F.entry_enumerate_next ?_ (F.args_enumerate_next_1 _))));show wpAny _ _ (field (.ref e) 2 >>= λv=>_) _ _ _;refine ar (eF he rfl (x:=.ref it) (by rfl) (ar (iO hh hit hl hx λh' x Ht U1=>?_)));obtain⟨o,ho,hc⟩:=U1;exact ar (wpAny_isInstance (T := "StopIteration") (b:=true) ⟨o,ho,hc⟩ isSubtype_stop (aR (hQ _ Ht)))
end
def xJ (l:Addr)(items:Array Value) (n:Nat)(yG:Option Addr)(sl:Array (Option Value)) :
  Meets (Builtin.«enumerate.__new__» ⟨[.type "enumerate",.ref l],[]⟩) (λ_ R s=>s.heap.get? l=some { cls:=.type "tuple",dict:=yG,data:=.seq items n,slots:=sl } /\
   R (.ok (.ret (.ref (s.heap.push { cls:=.type "tuple_iterator",data:=.fields #[.ref l,.int 0 0] }).objs.size)))
    { s with heap:=(s.heap.push { cls:=.type "tuple_iterator",data:=.fields #[.ref l,.int 0 0] }).push { cls:=.type "enumerate",data:=.fields #[.none,.bool false,.ref s.heap.objs.size,rawInt 0,.none,.none] } }) :=
 .of_wp λprog w A R s h=>by
  obtain⟨hp,g,d,tk,os⟩:=s;obtain⟨hl,h⟩:=h;have aai:=sub_enumerate;have hT:Heap.IsTuple (Shared.heap ⟨hp,g,d,tk,os⟩) l items:=⟨_,hl,rfl,n,rfl⟩
  wp_walk using vf hl
  refine wpAny_stack_any λst=>aR ?_;split
  .rename_i c _ _ _ _ _
   cases (c == Value.type "enumerate")
   .wp_walk using vf hl,oW hT;exact⟨_,rfl,h⟩
   wp_walk using vf hl,oW hT;exact⟨_,rfl,h⟩
  wp_walk using vf hl,oW hT;exact⟨_,rfl,h⟩
section
variable {prog:Program}{w:World}{A:Around}{E:Value->Shared->Prop}{s:Shared}
def AE {l:Addr}{items:Array Value}{Q:Value->Shared->Prop}(hL:s.heap.IsTuple l items)
  (h:∀h',IsEnum h' (s.heap.objs.size+1) s.heap.objs.size 0 .none->h'.IsTupleIter s.heap.objs.size l 0->(∀b o,s.heap.get? b=some o->h'.get? b=some o)->Q (.ref (s.heap.objs.size+1)) { s with heap:=h' }) :
  wpAny (model prog w) A (call (.type "enumerate") [.ref l]) Q E s:=by
 obtain⟨⟨c,yG,dt,sl⟩,hl,hc,n,hd⟩:=hL;replace hc:c=.type "tuple" := hc;replace hd:dt=.seq items n:=hd;subst hc hd;refine callType_new F.called_enumerate nofun (F.typeCall_enumerate_1 _) (F.newCall_enumerate_1 _) (λobj=>F.args_object_init_2 obj _) F.entry_enumerate_new (xJ l items n yG sl) ⟨hl,?_⟩;have hz:(s.heap.push { cls:=.type "tuple_iterator",data:=.fields #[.ref l,.int 0 0] }).objs.size=s.heap.objs.size+1:=jk ..;show _/\_;rw [hz];have he:IsEnum ((s.heap.push { cls:=.type "tuple_iterator",data:=.fields #[.ref l,.int 0 0] }).push { cls:=.type "enumerate",data:=.fields #[.none,.bool false,.ref s.heap.objs.size,rawInt 0,.none,.none] }) (s.heap.objs.size+1) s.heap.objs.size 0 .none:=by
  have:=cW (s.heap.push { cls:=.type "tuple_iterator",data:=.fields #[.ref l,.int 0 0] }) (o:={ cls:=.type "enumerate",data:=.fields #[.none,.bool false,.ref s.heap.objs.size,rawInt 0,.none,.none] }) rfl;rw [hz] at this;exact this
 exact⟨⟨_,he,rfl⟩,h _ he ⟨_,bJ _ (cW _ rfl),rfl,rfl⟩ λb o x=>bJ _ (bJ _ x)⟩
end
def tH (K:a9)(a:Addr):It :=
 ⟨λi H=>∃xs x,aQ K H a xs/\xs[i]?=some x,λi H x H'=>∃t y,x=.ref t/\H t=none/\H'=upd H t (.tup [.int (i:Int),y])/\∀xs,aQ K H a xs->xs[i]?=some y,λi H=>∃xs,aQ K H a xs/\xs.length<=i⟩
def yU {P:Program}{w:World}{K:a9}{elts:List Expr}{k:Nat}{vp:Pos}(a e it:Addr)(Qo:e≠it) :
  Turn P w K (.Tuple elts k vp) (tH K a) [e,it] e (λi h=>(∃old,IsEnum h e it i old)/\h.IsTupleIter it a i) where
 mem:=by simp
 obj:=λi h st b hb=>by
  obtain⟨⟨old,he⟩,o,e1,c,d⟩:=st;rcases cA.mp hb with rfl | hb
  .exact⟨_,he,λv z=>by cases z⟩
  obtain rfl:b=it:=by simpa using hb
  exact⟨o,e1,λv z=>by rw [d] at z;cases z⟩
 keep:=λi h h' st k=>⟨⟨st.1.choose,k e (by simp) _ st.1.choose_spec⟩,st.2.at λo q=>k it (by simp) o q⟩
 item:=by
  intro X hP hw hK hc i ag s σ H E I hf st hg;subst hP hw hK;obtain⟨xs,x,hq,hx⟩:=hg;obtain⟨aU,rv,p,hz⟩:=I.tuple hq;obtain⟨u,hu,ru⟩:=rv.get hx;obtain⟨⟨old,he⟩,hit⟩:=st;refine Ax he hit (show s.heap.IsTuple a aU.toArray from p) (x:=u) (by simpa using hu) Qo λh1 ho Mu hT hk=>?_;refine⟨_,rfl,wpAny_letOwnedTupleGo_enum ho λh2 VC sb=>?_⟩;have ne:s.heap.objs.size≠e:=ff (ba he);have kk:∀b o,b≠e->b≠it->s.heap.get? b=some o->h2.get? b=some o:=λb o n1 n2 q=>(sb.2 b n1).trans (hk b o n1 n2 q);have T2:h2.get? s.heap.objs.size=some { cls:=.type "tuple",data:=.seq #[.int i s.toks,u] }:=(sb.2 _ ne).trans hT;have fe:=hf e (by simp);have fi:=hf it (by simp);have fT:H s.heap.objs.size=none:=I.b8.fresh (aH _);have tr:∀b v,H b=some v->b≠e/\b≠it:=λb v q=>⟨λz=>(by rw [z,fe.1] at q;cases q),λz=>(by rw [z,fi.1] at q;cases q)⟩;have nc:∀b,b∉[e,it]->b≠e/\b≠it:=λb z=>⟨λq=>z (by simp [q]),λq=>z (by simp [q])⟩;have lt:∀b o,s.heap.get? b=some o->b≠s.heap.objs.size:=λb o q=>bN (ba q);have I2:Inv X ag σ (upd H s.heap.objs.size (.tup [.int (i:Int),x])) { s with heap:=h2,toks:=s.toks+1 }:=by
   refine I.call (g':=s.gens) (t':=s.toks+1) (d':=s.drawn) (ch:=[e,it]) ⟨λb o q _ _ c=>kk b o (nc b c).1 (nc b c).2 q,λb o q _ _ c=>⟨o.slots,kk b o (nc b c).1 (nc b c).2 q⟩,
    λb o q n _=>by rw [aj (lt b o q)];exact n,λb o q c=>⟨o,kk b o (nc b c).1 (nc b c).2 q⟩,λb ys q=>by rw [aj (ay q fT)];exact q,λb o v q=>by rw [aj (ay q fT)];exact q,
    λb ps q=>⟨#[],by rw [aj (ay q fT),q];simp⟩⟩ (λb v q=>?_) I.bare (λb hb=>?_)
   .by_cases hb:b=s.heap.objs.size
    .subst hb;rw [ae] at q;cases q;exact⟨by show 2<=sizeLine;decide,[.int i s.toks,u],.cons ⟨_,rfl⟩ (.cons ru .nil),_,T2,rfl,_,rfl⟩
    rw [aj hb] at q;refine(I.b8 b v q).ka (λc o lI z=>?_) (λc q'=>by rw [aj (ay q' fT)];exact q') λc ys q'=>by rw [aj (ay q' fT)];exact q'
    rcases lI with rfl | lI
    .exact kk c o (tr c _ q).1 (tr c _ q).2 z
    exact kk c o (tr c _ lI).1 (tr c _ lI).2 z
   rcases cA.mp hb with rfl | hb
   .exact⟨fe.2.2.2.1,fe.2.1,fe.2.2.2.2.1,fe.2.2.2.2.2⟩
   obtain rfl:b=it:=by simpa using hb
   exact⟨fi.2.2.2.1,fi.2.1,fi.2.2.2.2.1,fi.2.2.2.2.2⟩
  refine⟨.ref s.heap.objs.size,_,I2,rfl,⟨_,x,rfl,fT,rfl,λys hy=>by rw [I.ue hy hq];exact hx⟩,⟨⟨_,VC⟩,Mu.at λo q=>(sb.2 it Qo.symm).trans q⟩,λb hb=>?_⟩;have Hy:H b=none/\∃o,s.heap.get? b=some o:=by
   rcases cA.mp hb with rfl | hb
   .exact⟨fe.1,_,he⟩
   obtain rfl:b=it:=by simpa using hb
   obtain⟨o,q,_⟩:=hit;exact⟨fi.1,o,q⟩
  obtain⟨n,o,q⟩:=Hy;rw [aj (lt b o q)];exact n
 done:=by
  intro X hP hw hK hc i ag s σ H E I hf st hg;subst hP hw hK;obtain⟨xs,hq,hx⟩:=hg;obtain⟨aU,rv,p,hz⟩:=I.tuple hq;obtain⟨⟨old,he⟩,hit⟩:=st;obtain⟨f0,f1,f2,f3,f4,f5⟩:=hf it (by simp);have hl:=rv.length;exact C9 (I.ok.hd hc) he hit (show s.heap.IsTuple a aU.toArray from p) (by simp;omega) λh' eb=>⟨rfl,I.turned (t':=s.toks) (λb o hb e=>eb b o hb e) f0 f1 f3 f4 f5⟩
 self:=λ_ _ _ _ _ st h=>wpAny_pyIter_enum st.1.choose_spec h
def Mp (K:a9)(ta:TA):TI:=λσ H R=>ta σ H λvs H1=>∃a xs,vs=[.ref a]/\aQ K H1 a xs/\R (tH K a) H1
def nQ {X:Cx}{elts:List Expr}{k:Nat}{vp:Pos}{l:Expr}{ta:TA}{p pos:Pos}(hg:Gl X "enumerate")(hm:X.mg "enumerate"=none)(ha:PA X [l] ta)(hs:starEach [l] X.env=[(false,eval l X.env)]:=by rfl) :
  PI X (.Tuple elts k vp) (.Call (.Name "enumerate" p) [l] [] pos) (Mp X.K ta):=by
 intro ag s σ H R I h;refine Call_ (iR I hg hm uP (ub (cJ (ha pos ag s σ H _ I h) λus s1 bz=>?_) hs rfl));obtain⟨vs,H1,I1,r1,q1⟩:=bz;obtain⟨a,xs,e,hq,q⟩:=q1;subst e;obtain⟨u,rfl,rx⟩:=r1.one;cases rx;obtain⟨aU,rv,pl,hz⟩:=I1.tuple hq;refine AE (show s1.heap.IsTuple a aU.toArray from pl) λh1 he hit hk=>wpAny_pyIter_enum he ?_;refine⟨s1.heap.objs.size+1,[s1.heap.objs.size+1,s1.heap.objs.size],_,_,H1,rfl,I1.kept (t':=s1.toks) λb o e=>hk b o e,yU a _ _ (ff (mT _)),⟨⟨_,he⟩,hit⟩,λb hb=>?_,q⟩;rcases cA.mp hb with rfl | hb
 .exact I1.wm (oG _) (I1.b8.fresh (oG _))
 obtain rfl:b=s1.heap.objs.size:=by simpa using hb
 exact I1.wm (aH _) (I1.b8.fresh (aH _))
open PySem PySem.Spec PyProof.Rows PySem.W
def j8 (c':Addr)(qual:Str):HO:=.ext λh=>h.CodeRec (.ref c') qual
def pD (f:Addr)(o:Obj):HO:=.ext λh=>h.get? f=some o
def yd {P:Program}{w:World}{H:Hp}{h:Heap}{c':Addr}{qual:Str}(hr:h.CodeRec (.ref c') qual):cH P w H h c' (j8 c' qual):=by
 obtain⟨c2,oc,vs,t,e,yA,hd,hv⟩:=id hr;cases e;exact⟨hr,⟨oc,yA⟩,λh1 h2 ⟨c3,oc3,vs3,t3,e3,Vl,jh,NQ⟩ k=>by cases e3;exact⟨_,oc3,vs3,t3,rfl,k _ Vl,jh,NQ⟩⟩
def qI {P:Program}{w:World}{H:Hp}{h:Heap}{f:Addr}{o:Obj}(e:h.get? f=some o):cH P w H h f (pD f o):=⟨e,⟨o,e⟩,λ_ _ q k=>k _ q⟩
def Tab (T:Addr)(pos:Pos)(qual:Str)(H:Hp):Prop :=
 ∃ps,H T=some (.tM ps)/\TriplesOk ps.toList/\(codeAmong pos ps.toList=none\/∃c',codeAmong pos ps.toList=some (.ref c')/\H c'=some (j8 c' qual))
def d0 (T:Addr)(H H':Hp):Prop:=∀b o,b≠T->H b=some o->H' b=some o
def tJ (mg:Str->Option Value)(base:Heap):Prop :=
 ∃bm o,mg "__builtins__"=some (.ref bm)/\bm≠builtinsNs/\bm≠mainGlobals/\base.get? bm=some o/\o.cls=.type "module" /\ o.dict=some builtinsNs/\o.data=.plain
theorem jI {a b:Int}{ta tb:Tok}{c:Value}:∀l:List Value,TriplesOk l->TriplesOk (l++[.int a ta,.int b tb,c])
 | [],_=>trivial
 | [x],h=>by cases x <;> exact h.elim
 | [x,y],h=>by cases x <;> cases y <;> exact h.elim
 | x::y::z::r,h=>by
  cases x with
  | int i ti =>
   cases y with
   | int j tj=>exact jI r h
   | _=>exact h.elim
  | _=>exact h.elim
section
variable {X:Cx}{params:Arguments}{body:Expr}{scope:Scope}{pos:Pos}{c T:Addr}
abbrev mz (X:Cx)(params:Arguments)(body:Expr)(scope:Scope)(c':Addr)(gA:Value):Obj:=kla_obj "<lambda>" (X.env.qual ++ "<lambda>") params body scope [] ((X.mg "__name__").getD .none) c' gA
def Tn (X:Cx)(params:Arguments)(body:Expr)(scope:Scope)(pos:Pos)(T:Addr):TE:=λσ H Q=>Tab T pos (X.env.qual ++ "<lambda>") H /\
 ∀f c' gA H',d0 T H H'->Tab T pos (X.env.qual ++ "<lambda>") H'->H f=none->H' f=some (pD f (mz X params body scope c' gA))->H' c'=some (j8 c' (X.env.qual ++ "<lambda>"))->Q (.ref f) H'
def E_ (sF:X.env.code=.ref c)(hC:codeHdIn X.K c T=true)(hB:tJ X.mg X.base)(og:∀y∈scope.names,y.2≠.free)(Gh:defaultsOf params X.env=([],[]):=by rfl):PE X (.Lambda params body scope pos) (Tn X params body scope pos T):=by
 intro ag s σ H Q I h;obtain⟨⟨ps,hT,ht,Gi⟩,q⟩:=h;refine kla_eval Gh ?_;have MH:s.heap.get? T=some (tabObj ps):=(show cH X.prog X.w H s.heap T (.tM ps) from I.b8 T _ hT);have hg:=I.mod.glob.keeps I.bk;have C:=codeHd_of_K I.wa hC;obtain⟨bm,ob,b1,b2,b3,b4,b5,b6,b7⟩:=hB;have WX:=I.bk _ _ b4;have Ut:bm≠T:=λz=>by
  have:=(I.bs _ _ b4).2;rw [z,hT] at this;cases this
 have Uq:mainGlobals≠T:=λz=>by
  obtain⟨o,es,ep,e,d,_⟩:=hg;rw [z,MH] at e;cases e;cases d
 have QD:s.heap.BuiltinsAt X.mg T:=⟨bm,ob,b1,b2,b3,Ut,WX,b5,b6,b7⟩;have Hi:∀b v,H b=some v->b < s.heap.objs.size:=λb v e=>I.b8.lt e;rcases Gi with Qh | ⟨c',hf,lI⟩
 .refine kla_makeFunction (closureFor_none og) I.ok.glob hg sF C MH ht Qh Uq QD λc' gA h' tk hx Mx ki F6 P5=>?_;have hcr:∃oc,h'.get? c'=some oc:=by
   obtain⟨c2,oc,vs,t,e,yA,_⟩:=F6;cases e;exact⟨oc,yA⟩
  have sE:h'.objs.size > s.heap.objs.size:=pY Mx ki;have keep:∀b o,b≠T->s.heap.get? b=some o->(h'.push (mz X params body scope c' gA)).get? b=some o:=λb o n e=>bJ _ (hx b o n e)
  let H':Hp:=upd (upd (upd H T (.tM (ps++#[rawInt pos.line,rawInt pos.col,.ref c']))) c' (j8 c' (X.env.qual ++ "<lambda>"))) h'.objs.size (pD h'.objs.size (mz X params body scope c' gA))
  have z8:∀b v,H b=some v->b≠c'/\b≠h'.objs.size:=λb v e=>⟨bN (eV (Hi b v e) Mx),bN (me (Hi b v e) sE)⟩;have Us:c'≠h'.objs.size:=bN ki;have Pr:=z8 T _ hT;have eT:H' T=some (.tM (ps++#[rawInt pos.line,rawInt pos.col,.ref c'])):=by
   show upd (upd (upd H T _) c' _) h'.objs.size _ T=_;rw [aj Pr.2,aj Pr.1,ae]
  have ec:H' c'=some (j8 c' (X.env.qual ++ "<lambda>")):=by
   show upd (upd (upd H T _) c' _) h'.objs.size _ c'=_;rw [aj Us,ae]
  have ef:H' h'.objs.size=some (pD h'.objs.size (mz X params body scope c' gA)):=ae;have eo:∀b,b≠T->b≠c'->b≠h'.objs.size->H' b=H b:=λb n1 n2 n3=>by
   show upd (upd (upd H T _) c' _) h'.objs.size _ b=_;rw [aj n3,aj n2,aj n1]
  have sT:d0 T H H':=λb o n e=>by rw [eo b n (z8 b o e).1 (z8 b o e).2];exact e
  have I2:Inv X ag σ H' { s with heap:=h'.push (mz X params body scope c' gA),toks:=tk }:=by
   refine I.call (g':=s.gens) (t':=tk) (d':=s.drawn) (ch:=[]) ⟨λb o e n _ _=>keep b o (λz=>by rw [z,hT] at n;cases n) e,λb o e n _ _=>⟨o.slots,keep b o (λz=>by rw [z,hT] at n;cases n) e⟩,λb o e n _=>?_,λb o e _=>?_,λb xs e=>?_,λb o u e=>?_,λb JY e=>?_⟩ (λb v e=>?_) I.bare (λb hb=>nomatch hb)
   .have lb:=ba e;rw [eo b (λz=>by rw [z,hT] at n;cases n) (bN (eV lb Mx)) (bN (me lb sE))];exact n
   .by_cases z:b=T
    .exact⟨_,by rw [z];exact bJ _ P5⟩
    exact⟨o,keep b o z e⟩
   .exact sT b _ (λz=>by rw [z,hT] at e;cases e) e
   .exact sT b _ (λz=>by rw [z,hT] at e;cases e) e
   .by_cases z:b=T
    .subst z;rw [hT] at e;cases e;exact⟨_,eT⟩
    exact⟨#[],by rw [Array.append_empty];exact sT b _ z e⟩
   by_cases z1:b=h'.objs.size
   .subst z1;rw [ef] at e;cases e;exact qI (cW _ rfl)
   by_cases z2:b=c'
   .subst z2;rw [ec] at e;cases e;refine yd ?_;obtain⟨c2,oc,vs,t,e',yA,hd,hv⟩:=F6;cases e';exact⟨_,oc,vs,t,rfl,bJ _ yA,hd,hv⟩
   by_cases z3:b=T
   .subst z3;rw [eT] at e;cases e;exact bJ _ P5
   rw [eo b z3 z2 z1] at e;refine(I.b8 b v e).ka (λd o CW e'=>?_) (λd e'=>sT d _ (λz=>by rw [z,hT] at e';cases e') e') λd ys e'=>sT d _ (λz=>by rw [z,hT] at e';cases e') e';rcases CW with rfl | CW
   .exact keep d o z3 e'
   exact keep d o (λz=>by rw [z,hT] at CW;cases CW) e'
  have fresh:H h'.objs.size=none:=I.b8.fresh (jH sE);exact⟨.ref h'.objs.size,H',I2,rfl,q _ c' gA H' sT ⟨_,eT,by rw [u7];exact jI _ ht,.inr ⟨c',by rw [u7];exact codeAmong_snoc _ ht Qh,ec⟩⟩ fresh ef ec⟩
 refine kla_makeFunctionHit (closureFor_none og) I.ok.glob hg sF C MH ht hf QD λgA h' tk hk hsz=>?_;have keep:∀b o,s.heap.get? b=some o->(h'.push (mz X params body scope c' gA)).get? b=some o:=λb o e=>bJ _ (hk b o e);have fresh:H h'.objs.size=none:=I.b8.fresh hsz;refine⟨.ref h'.objs.size,_,I.laid (a:=h'.objs.size) (o:=pD h'.objs.size (mz X params body scope c' gA)) (t':=tk) keep hsz (qI (cW _ rfl)),rfl,?_⟩;refine q _ c' gA _ (λb o _ e=>by rw [aj (ay e fresh)];exact e) ⟨ps,by rw [aj (ay hT fresh)];exact hT,ht,.inr ⟨c',hf,by rw [aj (ay lI fresh)];exact lI⟩⟩ fresh ae (by rw [aj (ay lI fresh)];exact lI)
end
section
variable {P:Program}{w:World}{K:Frag}{mg:Str->Option Value}{base:Heap}{f c':Addr}{q:Str}{params:Arguments}{body:Expr}{scope:Scope}{pm gA:Value}{N ps:List Str}{k:Nat}{te:TE}
def I8 (S:aK N ps scope)(oh:∀us:List Value,us.length=ps.length->bindArgs (kla_fn "<lambda>" q params body scope [] pm (.ref c') gA) ⟨us,[]⟩=pure (ps.zip us))
  (jA:∀(A:Around)(outer:List Env)(s:Shared)(H:Hp),PE (pQ fk P w K mg base N q scope f (.ref c') A outer s H λ_ _ _=>False) body te)
  (A:Around)(outer:List Env)(s:Shared)(H:Hp)(us:List Value)(vs:List V)(Q:VK)(hr:fj (k+1) A)(e0:qz P w K mg base A outer s H)(hf:H f=some (pD f (kla_obj "<lambda>" q params body scope [] pm c' gA)))
  (hc:H c'=some (j8 c' q))(rv:a_ vs us)(hl:vs.length=ps.length)(h:te (start N vs) H Q):codeAny (model P w) A (.call (.ref f) ⟨us,[]⟩) (CR fk outer P w H s Q λ_ _ _=>False) s:=by
 obtain⟨ef,_⟩:=e0.b8 f _ hf;obtain⟨ec,_⟩:=e0.b8 c' _ hc;have lu:us.length=ps.length:=by rw [<-rv.length];exact hl
 have lim:s.heap.NoLimit:=e0.mod.nolimit.keeps λb o e=>(e0.bs b o e).1;have jy:∀y∈ps.zip us,scope.names.lookup y.1=some .local\/(scope.names.lookup y.1=some .cell/\((cellsFrom (s.heap.objs.size+1) scope.names []).lookup y.1).isSome=true):=λ⟨n,v⟩ hy=>by
  rcases S.par n (List.of_mem_zip hy).1 with z | z
  .exact .inl z
  exact .inr ⟨z,cellsFrom_some _ _ _ (.inl z)⟩
 refine kla_callFunE hr.depth ef rfl S.co S.gen rfl ec ?_;rw [oh us lu];refine aR (wpAny_newFunctionEnv_cells S.kind jy λenv he s1 x=>?_);subst he;refine⟨lim.keeps x.toInCall.keep,kla_codeExpr ?_⟩;have I:Inv (pQ fk P w K mg base N q scope f (.ref c') A outer s H λ_ _ _=>False) [] (start N vs) H s1:=uz S hr.hd e0 hl rv x;refine dH (jA A outer s H [] s1 (start N vs) H _ I h) (λv s' bz=>?_) λe s' z=>z;obtain⟨y,H',J,r,z⟩:=bz;exact⟨y,H',J.os,J.bare,J.base,J.b8,r,z⟩
end
section
variable {X:Cx}{i:Nat}{x:Str}{e:Expr}{es:List Expr}{t:TA}{p pos:Pos}{q:Str}{params:Arguments}{body:Expr}{scope:Scope}{N ps:List Str}{k:Nat}{te:TE}
def Eg (i:Nat)(q:Str)(params:Arguments)(body:Expr)(scope:Scope) (N ps:List Str)(t:TA)(te:TE):TE:=λσ H Q=>∃f pm c' gA,σ[i]?=some (some (.ref f)) /\
 t σ H λvs H1=>H1 f=some (pD f (kla_obj "<lambda>" q params body scope [] pm c' gA))/\H1 c'=some (j8 c' q)/\vs.length=ps.length/\te (start N vs) H1 Q
def zL (hN:X.N[i]?=some x)(hx:X.env.scope.names.lookup x=some .local)(S:aK N ps scope)(hr:fj (k+1) X.A)
  (oh:∀(pm gA:Value)(c':Addr)(us:List Value),us.length=ps.length->bindArgs (kla_fn "<lambda>" q params body scope [] pm (.ref c') gA) ⟨us,[]⟩=pure (ps.zip us))
  (jA:∀(f c':Addr)(A:Around)(outer:List Env)(s:Shared)(H:Hp),PE (pQ fk X.prog X.w X.K X.mg X.base N q scope f (.ref c') A outer s H λ_ _ _=>False) body te)(ha:PA X (e::es) t)
  (CV:(x == ("__debug__":Str))=false:=by decide)(he:starEach (e::es) X.env=(false,eval e X.env)::starEach es X.env:=by rfl)(yz:(backTo pos (starEach es X.env)).any (·.1)=false:=by rfl) :
  PE X (.Call (.Name x p) (e::es) [] pos) (Eg i q params body scope N ps t te):=by
 intro ag s σ H Q I h;obtain⟨f,pm,c',gA,hσ,h⟩:=h;obtain⟨m,hn,hl⟩:=I.loc;obtain⟨u,ru,lk⟩:=hl i x (.ref f) hN hσ (.inl hx);cases (show u=Value.ref f from ru);have hm:m x=some (.ref f):=by
  rcases lk with l | ⟨l,_⟩
  .exact l.2
  have l':X.env.scope.names.lookup x=some .cell\/X.env.scope.names.lookup x=some .free:=l;rw [hx] at l';rcases l' with l' | l' <;> cases l'
 refine mU (wpAny_Name (u6 I.ok.kind hx hn hm ?_) CV);refine callWith_def (o:=kla_obj "<lambda>" q params body scope [] pm c' gA) rfl (cJ (ha pos ag s σ H _ I h) λus s1 bz=>?_) he;obtain⟨vs,H1,I1,r,z1,z2,z3,z4⟩:=bz;obtain⟨ef,_⟩:=I1.b8 f _ z1;refine⟨ef,wpAny_call (oE (I8 (k:=k) S (λus hl=>oh pm gA c' us hl) (jA f c') X.A X.stack s1 H1 us vs Q hr I1.M4 z1 z2 r z3 z4) λr' s' z=>?_)⟩;cases r' with
 | error e=>exact z.elim
 | ok fl =>
  cases fl with
  | ret u=>exact I1.after z
  | next=>exact z.elim
  | brk=>exact z.elim
  | cont=>exact z.elim
end
def Hc (ts:List Addr)(H:Hp):Prop:=∀b,H b=none\/(∃o xs,H b=some (.kj o (.lst xs)))\/(b∈ts/\H b=some (.tM #[]))
def CI {P:Program}{w:World}{K:Frag}{mg mb:Str->Option Value}{CX:yH}{k:Nat}{fa a:Addr}{fd:FuncData}{x:Str}{sp:Sp}{s₁:Shared}{vs:List Value}{ns:List Int}{ts:List Addr}
  (KX:K.In s₁.heap)(wL:s₁.heap.Ns mainGlobals mg)(hb:s₁.heap.Ns builtinsNs mb)(ME:∀x:Str,x ≠ "__name__" -> mb x=bootBuiltins x)(Mt:s₁.heap.NoLimit)
  (hbm:∃bm ob,mg "__builtins__"=some (.ref bm)/\bm≠builtinsNs/\s₁.heap.get? bm=some ob/\ob.cls=.type "module" /\ ob.dict=some builtinsNs/\ob.data=.plain)(hg:s₁.gens=#[])
  (Mq:∀T∈ts,s₁.heap.get? T=some (tabObj #[])/\K.lookup T=none/\∃c,codeHdIn K c T=true)
  (ha:s₁.heap.get? a=some { cls:=.type "list",data:=.seq vs.toArray })(hi:IntsAre vs ns)(hl:ns.length<=sizeLine)(hr:fj k callerA)
  (F:∀base:Heap,K.In base->base.Ns mainGlobals mg->tJ mg base->bO P w K mg base CX k fa fd [x] sp)(oh:∀(s:Shared)(u:Value),BindsTo s fd ⟨[u],[]⟩ [(x,u)])
  (yy:∀H:Hp,Hc ts H->(∀T∈ts,H T=some (.tM #[]))->aI K H a (ns.map V.int)->sp [.ref a] H (λv _=>v=.bl true) λ_ _ _=>False)
  (MN:∀H e s',CX [] H s₁ (λ_ _ _=>False) e s'->False) :
  codeAny (model P w) callerA (.call (.ref fa) ⟨[.ref a],[]⟩) (λr s'=>r=.ok (.ret (.bool true))/\OldK s₁.heap s'.heap/\s'.os=s₁.os/\AllBare s'.gens) s₁:=by
 have rv:=o8 hi;have Me:=hi.length;have core:∀H:Hp,Hc ts H->(∀T∈ts,H T=some (.tM #[]))->aI K H a (ns.map V.int)->l8 P w H s₁.heap->(∀b,H b≠none->b=a\/b∈ts)->(H a≠none->K.lookup a=none) ->
   codeAny (model P w) callerA (.call (.ref fa) ⟨[.ref a],[]⟩) (λr s'=>r=.ok (.ret (.bool true))/\OldK s₁.heap s'.heap/\s'.os=s₁.os/\AllBare s'.gens) s₁:=by
  intro H hO hT hS b8 hA hK;have lF:∀{b:Addr}{o:Obj},s₁.heap.get? b=some o->H b=none->(mF s₁.heap H).get? b=some o:=λe n=>xO e n;have off:∀{b:Addr}{o:Obj},s₁.heap.get? b=some o->(∀aU n,o.data≠.seq aU n)->(∀fs,o.data≠.fields fs)->H b=none:=λ{b o} e d1 d2=>by
   cases q:H b with
   | none=>rfl
   | some u =>
    rcases hA b (by rw [q];simp) with e' | e'
    .subst e';rw [ha] at e;cases e;exact(d1 _ _ rfl).elim
    rw [(Mq b e').1] at e;cases e;exact(d2 _ rfl).elim
  have IU:∀{b:Addr}{m:Str->Option Value},s₁.heap.Ns b m->(mF s₁.heap H).Ns b m:=λ{b m} ⟨o,es,ep,e,d,r⟩=>⟨o,es,ep,lF e (off e (λ_ _ z=>by rw [d] at z;cases z) λ_ z=>by rw [d] at z;cases z),d,r⟩;have Qz:K.In (mF s₁.heap H):=λb o e=>lF (KX b o e) (by
   cases q:H b with
   | none=>rfl
   | some u =>
    rcases hA b (by rw [q];simp) with e' | e'
    .subst e';rw [hK (by rw [q];simp)] at e;cases e
    rw [(Mq b e').2.1] at e;cases e)
  have hM:Mod K mg (mF s₁.heap H):=⟨Qz,IU wL,⟨mb,IU hb,ME⟩,let ⟨mc,h1,h2⟩:=Mt;⟨mc,IU h1,h2⟩⟩;have QC:tJ mg (mF s₁.heap H):=by
   obtain⟨bm,ob,b1,b2,b3,b4,b5,b6⟩:=hbm;refine⟨bm,ob,b1,b2,λz=>?_,lF b3 (off b3 (λ_ _ z=>by rw [b6] at z;cases z) λ_ z=>by rw [b6] at z;cases z),b4,b5,b6⟩;obtain⟨o,es,ep,e,d,_⟩:=wL;rw [<-z,b3] at e;cases e;rw [b6] at d;cases d
  have e0:qz P w K mg (mF s₁.heap H) callerA [] s₁ H:=⟨rfl,hM,λb o e=>Bv e,Nat.le_of_eq (uB _ _),trivial,λb hb=>absurd (show b∈([]:List Addr) from hb) (by simp),b8,.of_eq hg⟩;refine oE ((F _ Qz (IU wL) QC).run callerA [] s₁ H ⟨[.ref a],[]⟩ [.ref a] [.ref a] _ _ hr e0 (oh s₁ (.ref a)) (.cons rfl .nil) (yy H hO hT hS)) λr s' h=>?_;cases r with
  | error e=>exact(MN H e s' h).elim
  | ok fl =>
   cases fl with
   | next=>exact False.elim h
   | brk=>exact False.elim h
   | cont=>exact False.elim h
   | ret u =>
    obtain⟨v,H',os,bare,un,Jb,r',q⟩:=h;have q':v=.bl true:=q;subst q';obtain rfl:u=Value.bool true:=r';have each:∀b o,s₁.heap.get? b=some o->asItWas s₁.heap s'.heap b o/\∃o',s'.heap.get? b=some o':=λb o e=>by
     cases q:H b with
     | none =>
      have z:=un.keep b o e q (by intro z;exact absurd (show b∈([]:List Addr) from z) (by simp)) (by simp);exact⟨.inl z,o,z⟩
     | some u =>
      rcases hO b with z | ⟨ob,xs,z⟩ | ⟨Hy,z⟩
      .rw [q] at z;cases z
      .have z2:=un.mH b ob _ z;obtain⟨e1,_⟩:=b8 b _ z;obtain⟨e2,_⟩:=Jb b _ z2;rw [e] at e1;cases e1;exact⟨.inl e2,_,e2⟩
      obtain⟨more,z2⟩:=un.nh b _ z;have e2:s'.heap.get? b=some (tabObj (#[]++more)):=Jb b _ z2;rw [(Mq b Hy).1] at e;cases e;obtain⟨c,hc⟩:=(Mq b Hy).2.2;obtain⟨oc,yR,file,tf,flags,tg,inF,text,tt,d1,d2,d3,d4,_⟩:=codeHd_of_K KX hc;exact⟨.inr (.inl ⟨⟨c,oc,yR,d1,d2,d3,d4⟩,rfl,#[],more,rfl,e2⟩),_,e2⟩
    exact⟨rfl,⟨λb o e=>(each b o e).1,λb o e=>(each b o e).2⟩,os,bare⟩
 have na:a∉ts:=λz=>by
  have:=(Mq a z).1;rw [ha] at this;cases this
 cases hk:K.lookup a with
 | some o =>
  have e:=KX a o hk;rw [ha] at e;cases e;refine core (λb=>if b∈ts then some (.tM #[]) else none) (λb=>?_) (λT h=>ax h) (.inr ⟨_,vs.toArray,_,hk,rfl,rfl,rfl,by rw [bR,Me];exact hl,by simpa using rv⟩) (λb u z=>?_) (λb z=>?_) λz=>absurd (az na) z
  .by_cases h:b∈ts
   .exact .inr (.inr ⟨h,ax h⟩)
   exact .inl (az h)
  .by_cases h:b∈ts
   .have z':=(ax h).symm.trans z;cases z';exact(Mq b h).1
   have z':=(az h).symm.trans z;cases z'
  by_cases h:b∈ts
  .exact .inr h
  exact absurd (az h) z
 | none =>
  refine core (λb=>if b=a then some (.kj { cls:=.type "list",data:=.seq vs.toArray } (.lst (ns.map V.int))) else if b∈ts then some (.tM #[]) else none) (λb=>?_) (λT h=>?_) (.inl (.inr ⟨{ cls:=.type "list",data:=.seq vs.toArray },ax rfl⟩)) (λb u z=>?_) (λb z=>?_) λ_=>hk
  .by_cases hb:b=a
   .exact .inr (.inl ⟨_,_,ax hb⟩)
   by_cases h:b∈ts
   .exact .inr (.inr ⟨h,(az hb).trans (ax h)⟩)
   exact .inl ((az hb).trans (az h))
  .exact(az (λz:T=a=>na (z ▸ h))).trans (ax h)
  .by_cases hb:b=a
   .have z':=(ax hb).symm.trans z;cases z';subst hb;exact⟨ha,by rw [au];exact hl,vs,_,rv,ha⟩
   by_cases h:b∈ts
   .have z':=((az hb).trans (ax h)).symm.trans z;cases z';exact(Mq b h).1
   have z':=((az hb).trans (az h)).symm.trans z;cases z'
  by_cases hb:b=a
  .exact .inl hb
  by_cases h:b∈ts
  .exact .inr h
  exact absurd ((az hb).trans (az h)) z
def Ec {l:OpenLaw}{n k:Nat}{q:Program}{loose:List Str}{XP:(Str->Option Value)->Heap->Prop}{YP:World->Heap->Prop}{d:DefRec}{K:Params->Frag}{CX:World->yH}{sp:World->Sp}{x:Str}{ts:List Addr}
  (hn:l.most=some n)(Gb:n<=sizeLine)(My:d.params.defaults=[])(hr:fj k callerA)
  (hY:∀(w:World)(h:Heap),YP w h->(K w.params).In h/\∀T∈ts,h.get? T=some (tabObj #[]))
  (hK:∀w:World,∀T∈ts,(K w.params).lookup T=none/\∃c,codeHdIn (K w.params) c T=true)
  (F:∀(w:World)(mg:Str->Option Value)(fa:Addr)(h:Heap),(K w.params).In h->h.Ns mainGlobals mg->mg d.name=some (.ref fa) ->
   ∃fd:FuncData,(∀(s:Shared)(u:Value),BindsTo s fd ⟨[u],[]⟩ [(x,u)]) /\
    ∀base:Heap,(K w.params).In base->base.Ns mainGlobals mg->tJ mg base->bO l.prog w (K w.params) mg base (CX w) k fa fd [x] (sp w))
  (yy:∀(w:World)(H:Hp)(a:Addr)(ns:List Int),ns.length<=n->Hc ts H->(∀T∈ts,H T=some (.tM #[]))->aI (K w.params) H a (ns.map V.int)->sp w [.ref a] H (λv _=>v=.bl true) λ_ _ _=>False)
  (MN:∀(w:World)(H:Hp)(s:Shared)(e:Value)(s':Shared),CX w [] H s (λ_ _ _=>False) e s'->False) :
  WalkO q loose XP YP l.row.toRowW d [] (λf vs=>PySem.call f vs):=by
 refine HU.qj hn My λw s₀ s₁ mg mb fa o pm cd doc a vs ns G Y ho hd wk Ms F_ hints br hg=>?_;obtain⟨KX,TX⟩:=hY w _ Y;obtain⟨fd,hb,hF⟩:=F w mg fa _ KX G.T.g Ms;exact CI KX G.T.g G.T.b G.T.builtins G.T.nolimit G.T.bmain hg (λT hT=>⟨TX T hT,hK w T hT⟩) F_ hints (fX br Gb) hr hF hb (λH hO hT hS=>yy w H a ns br hO hT hS) λH e s'=>MN w H s₁ e s'
def bp {X:Cx}{scope:Scope}{js:List (Nat×Str)}(h:(js.all λp=>X.N[p.1]? == some p.2 && X.env.scope.names.lookup p.2 == some .cell && scope.names.lookup p.2 == some .free)=true)
  (h2:(scope.names.all λy=>y.2 != .free || X.env.scope.names.lookup y.1 == some .cell)=true):JE X scope js:=by
 refine⟨λp hp=>?_,λy hy=>?_⟩
 .have:=gC.mp h p hp;simp only [pW,beq_iff_eq] at this;exact⟨this.1.1,this.1.2,this.2⟩
 have:=gC.mp h2 _ hy;simpa using this
def yB {σ:St}{H:Hp}{A B:Hp->Prop}(h:A H):ix σ H λb H3=>if b=true then A H3 else B H3:=by
 show if true=true then A H else B H;exact g7 h
def goN {i:Nat}{v:V}{σ:St}{H:Hp}{Q:St->Hp->Prop}(h:Q (σ.set i (some v)) H):dQ i v σ H Q:=h
def F2 {X:Cx}(K:a9)(hK:X.K=K:=by rfl):JC X (O8 K):=by
 subst hK;exact bo
def qK {X:Cx}(K:a9)(hK:X.K=K:=by rfl):JC X (O7 K):=by
 subst hK;exact aN
def fJ {X:Cx}{es:List Expr}{k:Nat}{t:KZ}{n:Nat}{pos:Pos}(K:a9)(hc:X.calm=true)(h:Rh X es t)(hK:X.K=K:=by rfl)
  (hn:(assignEach es X.env).length=n:=by rfl)(yx:(assignEach es X.env).findIdx? (·.1)=none:=by rfl):PG X (.Tuple es k pos) (An K n t):=by
 subst hK;exact gJ hc h hn yx
end L2
section
variable {P:PySem.Program}{w:PySem.World}{K:a9}{mg:PySem.Str->Option PySem.Value}{base:PySem.Heap}{f:PySem.Addr}{fd:PySem.FuncData}
namespace gL
open PySem L2
def top (i:Nat):Stmt:=PySem.Challenge.pw_wright_k69_whole_deeds_and_trees.main.body.getD i (.Pass ⟨0,0,0,0⟩)
abbrev zp:Stmt:=top 2
abbrev zc:Stmt:=top 3
abbrev rT:Stmt:=top 15
abbrev vL:Stmt:=top 16
abbrev zu:Stmt:=top 17
abbrev EH:Stmt:=top 27
abbrev zf:Stmt:=top 28
abbrev Lo:Stmt:=top 29
abbrev rQ:Stmt:=top 31
abbrev vM:Stmt:=top 32
abbrev nF:Stmt:=top 33
abbrev vK:Stmt:=top 36
abbrev ze:Stmt:=top 37
abbrev Lr:Stmt:=top 38
abbrev EI:Stmt:=top 45
abbrev EF:Stmt:=top 4
abbrev Lq:Stmt:=top 5
abbrev nH:Stmt:=top 40
abbrev pj:Stmt:=top 41
abbrev rS:Stmt:=top 42
abbrev sLT:Stmt:=top 43
structure Txt (mg:Str->Option Value):Prop where
 len:mg "len"=none
 DJ:mg "range"=none
 CM:mg "isinstance"=none
 tup:mg "tuple"=none
 lst:mg "list"=none
 yG:mg "dict"=none
 all:mg "all"=none
 any:mg "any"=none
 str:mg "str"=none
 int:mg "int"=none
 boo:mg "bool"=none
 Jl:mg "enumerate"=none
 sum:mg "sum"=none
 max:mg "max"=none
 min:mg "min"=none
section
def boot_all:bootBuiltins "all"=some (.builtin "all"):=by decide +kernel
def iU:bootBuiltins "list"=some (.type "list"):=by decide +kernel
def iT:bootBuiltins "str"=some (.type "str"):=by decide +kernel
def eZ:bootBuiltins "dict"=some (.type "dict"):=by decide +kernel
def FY:PySem.W.kitOne K (.type "int") (.type "bool")=some false:=by kernel_rfl
def zE (zs:List Str):∀v∈zs.map V.str,mK v:=λv hv=>by
 obtain⟨z,_,rfl⟩:=cQ.mp hv;exact .inl rfl
end
end gL
namespace L2
open PySem
def aT {K:a9}{H:Hp}{D a:Addr}{xs ys:List V}{o:HO}(hD:H D=some (.lst ys))(h:aQ K H a xs):aQ K (upd H D o) a xs:=by
 rcases h with (h | ⟨u,h⟩) | h
 .exact .inl (.inl (by rw [aj (λz=>by rw [z,hD] at h;cases h)];exact h))
 .exact .inl (.inr ⟨u,by rw [aj (λz=>by rw [z,hD] at h;cases h)];exact h⟩)
 exact .inr h
def wC (kvs:List (aS×V))(k:aS):(kvs.any λkv=>decide (kv.1=k))=true↔k∈kvs.map (·.1):=by
 rw [List.any_eq_true,cQ];constructor
 .rintro⟨x,h1,h2⟩;exact⟨x,h1,dr h2⟩
 rintro⟨x,h1,h2⟩;exact⟨x,h1,bW h2⟩
def zD {kvs:List (aS×V)}{k:aS}{v:V}(h:k∈kvs.map (·.1)):(bS kvs k v).map (·.1)=kvs.map (·.1):=by
 unfold bS;rw [ax ((wC kvs k).mpr h),iG];refine List.map_congr_left λx hx=>?_;show (if x.1=k then (x.1,v) else x).1=x.1
 split <;> rfl
def iZ {kvs:List (aS×V)}{k:aS}{v:V}(h:¬k∈kvs.map (·.1)):(bS kvs k v).map (·.1)=kvs.map (·.1)++[k]:=by
 unfold bS;rw [az (λz=>h ((wC kvs k).mp z)),bG];rfl
def fg (kvs:List (aS×V))(k:aS):(bB kvs k).isSome=true↔k∈kvs.map (·.1):=by
 rw [<-jo];exact wC kvs k
theorem cv {α β γ:Type}{F:α->β->Prop}{G:α->γ->Prop}{φ:β->γ}:∀{xs:List α}{ys:List β},Paired F xs ys->(∀a b,F a b->G a (φ b))->Paired G xs (ys.map φ)
 | _,_,.nil,_=>.nil
 | _,_,.cons h t,k=>.cons (k _ _ h) (cv t k)
def di {z:Str}{l:List Str}:(Sum.inr z:aS)∈l.map Sum.inr↔z∈l:=by
 rw [cQ];constructor
 .rintro⟨x,h1,h2⟩;rw [<-md h2];exact h1
 intro h;exact⟨z,h,rfl⟩
end L2
namespace M11
abbrev aw:=PySem.Str×List PySem.Str
def gP (a:List PySem.Str)(h:PySem.Str):List PySem.Str:=if h∈a then a else a++[h]
def tN (bA hs:List PySem.Str):List PySem.Str:=hs.foldl gP bA
def addW (bf a:List PySem.Str)(p:PySem.Str):List PySem.Str:=if p∈bf then a else gP a p
def tK (bf bA ps:List PySem.Str):List PySem.Str:=ps.foldl (addW bf) bA
def NO (aa:List aw)(name:PySem.Str) (k:Nat):Bool:=decide ((aa[k]?.map (·.1))=some name)
def nums (aa:List aw)(name:PySem.Str) (i:Nat):List Int:=((List.range i).filter (NO aa name)).map λk:Nat=>(k:Int)
def CA (aa:List aw)(name:PySem.Str) (i:Nat):nums aa name (i+1)=nums aa name i++(if NO aa name i=true then [(i:Int)] else []):=by
 unfold nums;rw [List.range_succ,oY,bG]
 congr 1
 by_cases h:NO aa name i=true
 .rw [ax h];simp [h]
 rw [az h];simp [h]
def xA (aa:List aw)(name:PySem.Str) (i:Nat):(nums aa name i).length<=i:=by
 unfold nums;rw [au];have:=rq (NO aa name) (List.range i);rw [u3] at this;exact this
def yj (a:List PySem.Str)(h:PySem.Str):(gP a h).length<=a.length+1:=by
 unfold gP;split <;> simp
theorem hV:∀(hs bA:List PySem.Str),(tN bA hs).length<=bA.length+hs.length
 | [],bA=>by simp [tN]
 | h::r,bA=>by
  have:=hV r (gP bA h);have:=yj bA h;show (tN (gP bA h) r).length<=_;rw [dN];omega
def G3 (bf a:List PySem.Str)(p:PySem.Str):(addW bf a p).length<=a.length+1:=by
 unfold addW;split
 .omega
 exact yj a p
theorem vm (bf:List PySem.Str):∀(ps bA:List PySem.Str),(tK bf bA ps).length<=bA.length+ps.length
 | [],bA=>by simp [tK]
 | p::r,bA=>by
  have:=vm bf r (addW bf bA p);have:=G3 bf bA p;show (tK bf (addW bf bA p) r).length<=_;rw [dN];omega
end M11
namespace gL
open PySem L2 M11
def kX {bA:List (aS×V)}{as:List Str}(e:bA.map (·.1)=as.map Sum.inr)(h:Str){v:V}:(bS bA (Sum.inr h) v).map (·.1)=(gP as h).map Sum.inr:=by
 unfold gP;by_cases q:h∈as
 .rw [ax q,zD (by rw [e];exact di.mpr q),e]
 rw [az q,iZ (by rw [e];exact λz=>q (di.mp z)),e,bG];rfl
theorem nY:∀(hs:List Str)(bA:List (aS×V)) (as:List Str),bA.map (·.1)=as.map Sum.inr->(cK (hs.map λh=>((Sum.inr h:aS),V.bl true)) bA).map (·.1)=(tN as hs).map Sum.inr
 | [],bA,as,e=>e
 | h::r,bA,as,e=>by
  refine nY r (bS bA (Sum.inr h) (.bl true)) (gP as h) ?_;exact kX e h
def keys_str {kvs:List (aS×V)}{zs:List Str}(e:kvs.map (·.1)=zs.map Sum.inr):(kvs.map λp=>kV p.1)=zs.map V.str:=by
 have e2:(kvs.map λp=>kV p.1)=(kvs.map (·.1)).map kV:=by rw [iG];rfl
 rw [e2,e,iG];rfl
section
def BZ (K:a9)(H:Hp)(r:Addr)(ru:aw):Prop:=∃p,aQ K H r [.str ru.1,.ref p]/\aQ K H p (ru.2.map V.str)
def bI (K:a9)(H:Hp)(rs:List Addr)(aa:List aw):Prop:=Paired (λr ru=>BZ K H r ru) rs aa
def bI.keep {H H':Hp}{rs:List Addr}{aa:List aw}(h:bI K H rs aa)(k:∀a xs,aQ K H a xs->aQ K H' a xs):bI K H' rs aa:=Paired.dJ h λr ru ⟨p,a,b⟩=>⟨p,k _ _ a,k _ _ b⟩
def bI.same {H H':Hp}{rs:List Addr}{aa:List aw}(h:bI K H rs aa)(s:aC H H'):bI K H' rs aa:=h.keep λ_ _ z=>s.tup z
def bI.get {H:Hp}{rs:List Addr}{aa:List aw}(h:bI K H rs aa){i:Nat}{r:Addr}(e:rs[i]?=some r):∃ru,aa[i]?=some ru/\BZ K H r ru:=by
 have l:=aY h;have li:=(bq.mp e).1;have e2:aa[i]?=some (aa[i]'∅):=cf ∅;obtain⟨x,e3,e4⟩:=Paired.at_ h i _ e2;rw [e] at e3;cases e3;exact⟨_,e2,e4⟩
def sY {H:Hp}{R D:Addr}{rs:List Addr}{aa:List aw}{σ:St}{Qp:Hp->Prop}(hR:aI K H R (rs.map V.ref))(b_:bI K H rs aa)(br:aa.length<=1000)(hD:H D=none)
  (q:∀ts H2,aC H H2->H2 D=some (.lst (ts.map V.ref))->Paired (λt h=>aQ K H2 t [.str h,.bl true]) ts (aa.map (·.1))->Qp H2) :
  ∃W:Nat->Nat->List V->St->Hp->Prop,(∃m,W 0 m [] (eU ["head","parts"] [] σ) (upd H D (.lst []))) /\
 ∀i m ys σ' H,W i m ys σ' H->((j_ K R).stop i H/\Qp H)\/((j_ K R).go i H/\∃m',m' < m/\∀x H',(j_ K R).m_ i H x H'->An K 2 (jB (dQ 0) (jB (dQ 1) C0)) x σ' H' λσ2 H2=>ix σ2 H2 λb H3 =>
  if b=true then tQ (gE (gX 0) (gE (tC (.bl true)) rC)) σ2 H3 λy H4=>H4 D=some (.lst ys)/\ys.length < sizeLine/\W (i+1) m' (ys++[y]) σ2 (upd H4 D (.lst (ys++[y]))) else W (i+1) m' ys σ2 H3):=by
 have ll:=aY b_;refine cE (xs:=rs.map V.ref) (λi ys σ2 H2=>∃ts:List Addr,ys=ts.map V.ref/\ts.length=i/\Paired (λt h=>aQ K H2 t [.str h,.bl true]) ts ((aa.take i).map (·.1))/\(∃y0 y1,σ2=[y0,y1])/\aC H H2/\H2 D=some (.lst ys))
  ⟨[],rfl,rfl,.nil,⟨none,none,rfl⟩,af hD _,ae⟩ (λi ys σ2 H2 _ h=>?_) (λi x ys σ2 H2 ex h=>?_) (λys σ2 H2 h=>?_)
 .obtain⟨_,_,_,_,_,sm,_⟩:=h;exact sm.seq hR
 .obtain⟨ts,rfl,ht,hp,⟨y0,y1,rfl⟩,sm,hd⟩:=h;rw [bh] at ex;obtain⟨r,er,rfl⟩:=cq.mp ex;obtain⟨ru,e1,p,v1,v2⟩:=b_.get er;have li:=(bq.mp e1).1;refine⟨r,_,rfl,sm.tup v1,rfl,_,_,rfl,_,_,rfl,rfl,?_⟩;refine yB ?_;refine⟨_,rfl,kc,λt ji=>⟨?_,bL (by rw [au];omega),ts++[t],?_,?_,?_,⟨_,_,rfl⟩,?_,ae⟩⟩
  .rw [aj (ay hd ji)];exact hd
  .rw [bG];rfl
  .rw [bM,ht];rfl
  .rw [cS,e1,bG];have jh:upd H2 t (.tup [.str ru.1,.bl true]) D=some (.lst (ts.map V.ref)):=by rw [aj (ay hd ji)];exact hd
   exact gR (Paired.dJ hp λt' h' z=>aT jh ((af ji _).tup z)) (aT jh (aQ.of ae))
  intro b o hb;rw [aj (λz=>by rw [z,hD] at hb;cases hb)];exact af ji _ _ _ (sm b o hb)
 obtain⟨ts,rfl,ht,hp,_,sm,hd⟩:=h;rw [au,ll,cR] at hp;exact q ts H2 sm hd hp
def iX (K:a9):Sp:=λvs H Q _=>∃(R:Addr)(rs:List Addr)(aa:List aw),vs=[.ref R]/\aI K H R (rs.map V.ref)/\bI K H rs aa/\aa.length<=1000 /\
 ∀D H',H D=none->aC H H'->H' D=some (.lst ((tN [] (aa.map (·.1))).map V.str))->Q (.ref D) H'
def Ik:aK ["rules"] ["rules"] (av zp):=ir rfl rfl rfl rfl nofun
def Fv (F:g_ K "heads_of" "heads_of" zp f fd)(T:Txt mg):bO P w K mg base fk 1 f fd ["rules"] (iX K):=by
 refine F.ok Ik (λvs H Q E h=>?_) (λdW A outer s H vs Q E hr h=>?_)
 .obtain⟨R,rs,aa,rfl,_⟩:=h;rfl
 obtain⟨R,rs,aa,rfl,hR,b_,br,q⟩:=h;refine⟨_,ak (aL (bE (mJ rfl) rfl T.lst iU (ab (bE (dD rfl) rfl T.yG eZ (ab
  (bF ["head","parts"] [] rfl (aZ (pv 0)) (bp rfl rfl) nofun rfl nofun
   (λ_ _ _ _ _=>fJ (n:=2) K rfl (aE (aq (i:=0) (show (["head","parts"]:List Str).Nodup by decide +kernel) rfl (bx rfl)) (aE (aq (i:=1) (show (["head","parts"]:List Str).Nodup by decide +kernel) rfl (bx rfl)) b9))) (λ_ _ _ _ _=>bY)
   (λ_ _ _ _ _=>bD (ab (pv 0) (ab dI ah)))) ah)) ah))),?_⟩
 dsimp only [AA];refine⟨_,rfl,R,rfl,⟨_,hR⟩,λD hD=>sY hR b_ br hD λts H2 sm hd hp=>?_⟩;have kp:Paired (λt (kv:aS×V)=>aQ K H2 t [kV kv.1,kv.2]) ts ((aa.map (·.1)).map λh=>((Sum.inr h:aS),V.bl true)):=cv hp λ_ _ z=>z;refine⟨D,ts,_,rfl,hd,kp,λd hd2=>?_⟩;refine⟨d,_,rfl,ae,λD2 i9=>?_⟩;rw [keys_str (nY (aa.map (·.1)) [] [] rfl)];have nd:D2≠d:=λz=>by rw [z,ae] at i9;cases i9
 exact q D2 _ (sm.free (by rw [aj nd] at i9;exact i9)) (sm.trans ((af hd2 _).trans (af i9 _))) ae
theorem jC:∀(aa:List aw) (n:Nat),aa.length<=n->(∀ru∈aa,ru.2.length<=8)->(aa.flatMap (·.2)).length<=8 * n
 | [],n,_,_=>by simp
 | ru::r,n,hl,h=>by
  rw [dN] at hl;have:=jC r (n - 1) ∅ λx hx=>h x (du _ hx);have:=h ru cV;rw [rf,bM];omega
def hd (aa:List aw):List Str:=tN [] (aa.map (·.1))
def A5 (K:a9):Sp:=λvs H Q _=>∃(R:Addr)(rs:List Addr)(aa:List aw),vs=[.ref R]/\aI K H R (rs.map V.ref)/\bI K H rs aa/\aa.length<=1000/\(∀ru∈aa,ru.2.length<=8) /\
 ∀D H',H D=none->aC H H'->H' D=some (.lst ((tK (hd aa) [] (aa.flatMap (·.2))).map V.str))->Q (.ref D) H'
def lh:aK ["rules","heads","words","head","parts","part"] ["rules"] (av zc):=ir rfl rfl rfl rfl nofun
def Fh (F:g_ K "words_in" "words_in" zc f fd)(T:Txt mg):bO P w K mg base fk 1 f fd ["rules"] (A5 K):=by
 refine F.ok lh (λvs H Q E h=>?_) (λdW A outer s H vs Q E hr h=>?_)
 .obtain⟨R,rs,aa,rfl,_⟩:=h;rfl
 obtain⟨R,rs,aa,rfl,hR,b_,br,h8,q⟩:=h;have hu:=fS hr;refine⟨_,ai (aA (i:=1) lh.nd rfl (bx rfl) (bE (dD rfl) rfl T.yG eZ (ab
  (bF ["head","parts"] [] rfl (aZ (pv 0)) (bp rfl rfl) nofun rfl nofun
   (λ_ _ _ _ _=>fJ (n:=2) K rfl (aE (aq (i:=0) (show (["head","parts"]:List Str).Nodup by decide +kernel) rfl (bx rfl)) (aE (aq (i:=1) (show (["head","parts"]:List Str).Nodup by decide +kernel) rfl (bx rfl)) b9))) (λ_ _ _ _ _=>bY)
   (λ_ _ _ _ _=>bD (ab (pv 0) (ab dI ah)))) ah)))
  (ai (aA (i:=2) lh.nd rfl (bx rfl) ij)
  (ai (bQ b0 rfl (aZ (pv 0)) (gJ rfl (aE (aq (i:=3) lh.nd rfl (bx rfl)) (aE (aq (i:=4) lh.nd rfl (bx rfl)) b9)))
   (ak (bQ b0 rfl (gI (pv 4)) (aq (i:=5) lh.nd rfl (bx rfl))
    (ak (bw (cZ (dZ hu (pv 5) (pv 1))) (ak (i0 hu (pv 2) (pv 5) dI rfl)) aM)))))
  (ak (aL (bE (mJ rfl) rfl T.lst iU (ab (pv 2) ah)))))),?_⟩
 nofun
 refine⟨_,rfl,R,rfl,⟨_,hR⟩,λD hD=>sY hR b_ br hD λts H2 sm hd2 hp=>?_⟩;have kp:Paired (λt (kv:aS×V)=>aQ K H2 t [kV kv.1,kv.2]) ts ((aa.map (·.1)).map λh=>((Sum.inr h:aS),V.bl true)):=cv hp λ_ _ z=>z;refine⟨D,ts,_,rfl,hd2,kp,λd hdd=>?_⟩;have Ke:(cK ((aa.map (·.1)).map λh=>((Sum.inr h:aS),V.bl true)) []).map (·.1)=(hd aa).map Sum.inr:=nY (aa.map (·.1)) [] [] rfl;generalize cK ((aa.map (·.1)).map λh=>((Sum.inr h:aS),V.bl true)) []=kH at Ke ⊢;have NC:=sm.trans (af hdd (.dK kH));have jh:upd H2 d (.dK kH) d=some (.dK kH):=ae;generalize upd H2 d (.dK kH)=H3 at NC jh;intro e he;have hde:∀o,upd H3 e o d=some (.dK kH):=λo=>by rw [aj (ay jh he)];exact jh
 have Bk:∀o,aC H (upd H3 e o):=λo=>NC.trans (af he o);have ll:=aY b_
 let wG:tG:=λi σ H5=>∃(kvs:List (aS×V))(y3 y4 y5:Option V),σ=[aP R,aP d,aP e,y3,y4,y5]/\H5=upd H3 e (.dK kvs) /\
  kvs.map (·.1)=(tK (hd aa) [] ((aa.take i).flatMap (·.2))).map Sum.inr
 refine⟨_,rfl,R,rfl,⟨_,(Bk _).seq hR⟩,cD (xs:=rs.map V.ref) wG ⟨[],none,none,none,rfl,rfl,rfl⟩ ?_ ?_ ?_⟩
 .rintro i σ H5 _ ⟨kvs,y3,y4,y5,rfl,rfl,_⟩;exact(Bk _).seq hR
 .rintro i x σ H5 ex ⟨kvs,y3,y4,y5,rfl,rfl,hk⟩
  ac_nf0
  rw [bh] at ex;obtain⟨r,er,rfl⟩:=cq.mp ex;obtain⟨ru,e1,p,v1,v2⟩:=b_.get er;have li:=(bq.mp e1).1;have NX:=h8 ru (cg e1);have eT:(aa.take (i+1)).flatMap (·.2)=(aa.take i).flatMap (·.2)++ru.2:=by
   rw [cS,e1,jY];simp
  have lA:((aa.take i).flatMap (·.2)).length<=8 * i:=jC (aa.take i) i (by rw [dO];omega) λru i8=>h8 ru (p_ i8);refine⟨r,_,rfl,(Bk _).tup v1,rfl,_,_,rfl,_,_,rfl,rfl,?_⟩
  let Dy:tG:=λj σ H6=>∃(kvs:List (aS×V))(y5:Option V),σ=[aP R,aP d,aP e,some (.str ru.1),aP p,y5]/\H6=upd H3 e (.dK kvs) /\
   kvs.map (·.1)=(tK (hd aa) [] ((aa.take i).flatMap (·.2)++ru.2.take j)).map Sum.inr
  refine⟨_,rfl,p,rfl,⟨_,(Bk _).tup v2⟩,qN (xs:=ru.2.map V.str) Dy ⟨kvs,_,rfl,rfl,by rw [oO,iu];exact hk⟩ ?_ ?_ ?_⟩
  .rintro j σ H6 _ ⟨kvs,y5,rfl,rfl,_⟩;exact(Bk _).tup v2
  .rintro j x σ H6 pM ⟨kvs,y5,rfl,rfl,CU⟩
   ac_nf0
   rw [bh] at pM;obtain⟨z,ez,rfl⟩:=cq.mp pM;have lj:=(bq.mp ez).1;have eS:tK (hd aa) [] ((aa.take i).flatMap (·.2)++ru.2.take (j+1))=addW (hd aa) (tK (hd aa) [] ((aa.take i).flatMap (·.2)++ru.2.take j)) z:=by
    rw [cS,ez,<-ku];exact List.foldl_append
   have lk:kvs.length<=8 * i+8:=by
    have h1:kvs.length=(tK (hd aa) [] ((aa.take i).flatMap (·.2)++ru.2.take j)).length:=by
     have:=congrArg List.length CU;rw [au,au] at this;exact this
    have h2:=vm (hd aa) ((aa.take i).flatMap (·.2)++ru.2.take j) [];rw [bM,dO] at h2;simp only [iV] at h2;omega
   have mem:(bB kH (Sum.inr z)).isSome=true↔z∈hd aa:=by rw [fg,Ke];exact di
   refine⟨_,rfl,_,rfl,d,_,rfl,cz.k (k:=Sum.inr z) (hde _),_,rfl,?_⟩;refine bZ (λc=>?_) (λc=>?_)
   .have nm:z∉hd aa:=λh=>by rw [mem.mpr h] at c;exact absurd c nofun
    refine⟨_,rfl,_,rfl,e,_,rfl,pV.k (k:=Sum.inr z) ae (bL ∅),?_⟩;refine⟨bS kvs (Sum.inr z) (.bl true),_,rfl,by rw [ng],?_⟩;rw [eS];unfold addW;rw [az nm];exact kX CU z
   have im:z∈hd aa:=mem.mp (by
    cases h:(bB kH (Sum.inr z)).isSome with
    | true=>rfl
    | false=>exact absurd (by rw [h];rfl) c)
   refine⟨kvs,_,rfl,rfl,?_⟩;rw [eS];unfold addW;rw [ax im];exact CU
  rintro σ H6 ⟨kvs,y5,rfl,rfl,CU⟩;rw [au,cR,<-eT] at CU;exact⟨kvs,_,_,_,rfl,rfl,CU⟩
 rintro σ H5 ⟨kvs,y3,y4,y5,rfl,rfl,hk⟩;rw [au,ll,cR] at hk;refine⟨_,rfl,e,_,rfl,ae,λD2 i9=>?_⟩;rw [keys_str hk];exact q D2 _ ((Bk _).free i9) ((Bk _).trans (af i9 _)) ae
end
end gL
namespace L2
open PySem
section
variable {K:a9}{a D:Addr}{xs:List V}{ts:List Str}{js:List (Nat×Str)}{g:TG}{tif:TT}{te:TE}{R:Hp->Prop}{σ:St}{H:Hp}
def g9 (Pv:Nat->List V->St->Hp->Prop)(h0:Pv 0 [] (eU ts js σ) (upd H D (.lst [])))(hl:∀i ys σ H,i<=xs.length->Pv i ys σ H->aQ K H a xs)
  (hs:∀i x ys σ H,xs[i]?=some x->Pv i ys σ H->g x σ H λσ2 H2=>tif σ2 H2 λb H3=>if b=true then te σ2 H3 λy H4=>H4 D=some (.lst ys)/\ys.length < sizeLine/\Pv (i+1) (ys++[y]) σ2 (upd H4 D (.lst (ys++[y]))) else Pv (i+1) ys σ2 H3)
  (hd:∀ys σ H,Pv xs.length ys σ H->R H) :
  ∃W:Nat->Nat->List V->St->Hp->Prop,(∃m,W 0 m [] (eU ts js σ) (upd H D (.lst []))) /\
 ∀i m ys σ' H,W i m ys σ' H->((ql K a).stop i H/\R H)\/((ql K a).go i H/\∃m',m' < m/\∀x H',(ql K a).m_ i H x H'->g x σ' H' λσ2 H2=>tif σ2 H2 λb H3 =>
  if b=true then te σ2 H3 λy H4=>H4 D=some (.lst ys)/\ys.length < sizeLine/\W (i+1) m' (ys++[y]) σ2 (upd H4 D (.lst (ys++[y]))) else W (i+1) m' ys σ2 H3):=by
 refine⟨λi m ys σ H=>m=xs.length - i/\i<=xs.length/\Pv i ys σ H,⟨xs.length,by simp,gB _,h0⟩,?_⟩;rintro i m ys σ' H ⟨rfl,hi,p⟩;have q:=hl i ys σ' H hi p;by_cases ki:i < xs.length
 .refine .inr ⟨⟨xs,xs[i],q,by simp [ki]⟩,xs.length - (i+1),∅,λx H' y=>?_⟩;obtain⟨e,y⟩:=y;subst e;have z:=hs i x ys σ' _ (y xs q) p;have h1:(i+1<=xs.length)=True:=eq_true ki;simp only [h1,true_and];exact z
 have e:i=xs.length:=by omega
 subst e;exact .inl ⟨⟨xs,q,aH _⟩,hd ys σ' H p⟩
def yc (Pv:Nat->List V->St->Hp->Prop)(h0:Pv 0 [] (eU ts js σ) (upd H D (.lst [])))(hl:∀i ys σ H,i<=xs.length->Pv i ys σ H->aQ K H a xs)
  (hs:∀i x ys σ H t,xs[i]?=some x->Pv i ys σ H->H t=none->g (.ref t) σ (upd H t (.tup [.int (i:Int),x])) λσ2 H2=>tif σ2 H2 λb H3=>if b=true then te σ2 H3 λy H4=>H4 D=some (.lst ys)/\ys.length < sizeLine/\Pv (i+1) (ys++[y]) σ2 (upd H4 D (.lst (ys++[y]))) else Pv (i+1) ys σ2 H3)
  (hd:∀ys σ H,Pv xs.length ys σ H->R H) :
  ∃W:Nat->Nat->List V->St->Hp->Prop,(∃m,W 0 m [] (eU ts js σ) (upd H D (.lst []))) /\
 ∀i m ys σ' H,W i m ys σ' H->((tH K a).stop i H/\R H)\/((tH K a).go i H/\∃m',m' < m/\∀x H',(tH K a).m_ i H x H'->g x σ' H' λσ2 H2=>tif σ2 H2 λb H3 =>
  if b=true then te σ2 H3 λy H4=>H4 D=some (.lst ys)/\ys.length < sizeLine/\W (i+1) m' (ys++[y]) σ2 (upd H4 D (.lst (ys++[y]))) else W (i+1) m' ys σ2 H3):=by
 refine⟨λi m ys σ H=>m=xs.length - i/\i<=xs.length/\Pv i ys σ H,⟨xs.length,by simp,gB _,h0⟩,?_⟩;rintro i m ys σ' H ⟨rfl,hi,p⟩;have q:=hl i ys σ' H hi p;by_cases ki:i < xs.length
 .refine .inr ⟨⟨xs,xs[i],q,by simp [ki]⟩,xs.length - (i+1),∅,λx H' y=>?_⟩;obtain⟨t,y0,rfl,ht,rfl,y⟩:=y;have z:=hs i y0 ys σ' _ t (y xs q) p ht;have h1:(i+1<=xs.length)=True:=eq_true ki;simp only [h1,true_and];exact z
 have e:i=xs.length:=by omega
 subst e;exact .inl ⟨⟨xs,q,aH _⟩,hd ys σ' H p⟩
end
def kZ {K:a9}{a:Addr}{xs:List V}{g:TG}{tb:TS}{D:Ends}{σ:St}{H:Hp}(Pv:Nat->St->Hp->Prop)(h0:Pv 0 σ H)(hl:∀i σ H,i<=xs.length->Pv i σ H->aI K H a xs)
  (hs:∀i x σ H t,xs[i]?=some x->Pv i σ H->H t=none->g (.ref t) σ (upd H t (.tup [.int (i:Int),x])) λσ2 H2=>tb { D with nx:=Pv (i+1),ct:=Pv (i+1),bk:=D.nx } σ2 H2)(hd:∀σ H,Pv xs.length σ H->D.nx σ H) :
  ∃W:Nat->Nat->St->Hp->Prop,(∃m,W 0 m σ H)/\∀i m σ H,W i m σ H ->
   ((Rl K a).stop i H/\D.nx σ H)\/((Rl K a).go i H/\∃N:St->Hp->Prop,(∀σ' H',N σ' H'->∃m',m' < m/\W (i+1) m' σ' H')/\∀x H',(Rl K a).m_ i H x H'->g x σ H' λσ2 H2=>tb { D with nx:=N,ct:=N,bk:=D.nx } σ2 H2):=by
 refine⟨λi m σ H=>m=xs.length - i/\i<=xs.length/\Pv i σ H,⟨xs.length,by simp,gB _,h0⟩,?_⟩;rintro i m σ H ⟨rfl,hi,p⟩;have q:=hl i σ H hi p;by_cases ki:i < xs.length
 .refine .inr ⟨⟨xs,xs[i],q,by simp [ki]⟩,Pv (i+1),λσ' H' p'=>⟨xs.length - (i+1),∅,rfl,ki,p'⟩,λx H' y=>?_⟩;obtain⟨t,y0,rfl,ht,rfl,y⟩:=y;exact hs i y0 σ _ t (y xs q) p ht
 have e:i=xs.length:=by omega
 subst e;exact .inl ⟨⟨xs,q,aH _⟩,hd σ H p⟩
def pL {K:a9}{a:Addr}{xs:List V}{g:TG}{tb:TS}{D:Ends}{σ:St}{H:Hp}(Pv:Nat->St->Hp->Prop)(h0:Pv 0 σ H)(hl:∀i σ H,i<=xs.length->Pv i σ H->aQ K H a xs)
  (hs:∀i x σ H t,xs[i]?=some x->Pv i σ H->H t=none->g (.ref t) σ (upd H t (.tup [.int (i:Int),x])) λσ2 H2=>tb { D with nx:=Pv (i+1),ct:=Pv (i+1),bk:=D.nx } σ2 H2)(hd:∀σ H,Pv xs.length σ H->D.nx σ H) :
  ∃W:Nat->Nat->St->Hp->Prop,(∃m,W 0 m σ H)/\∀i m σ H,W i m σ H ->
   ((tH K a).stop i H/\D.nx σ H)\/((tH K a).go i H/\∃N:St->Hp->Prop,(∀σ' H',N σ' H'->∃m',m' < m/\W (i+1) m' σ' H')/\∀x H',(tH K a).m_ i H x H'->g x σ H' λσ2 H2=>tb { D with nx:=N,ct:=N,bk:=D.nx } σ2 H2):=by
 refine⟨λi m σ H=>m=xs.length - i/\i<=xs.length/\Pv i σ H,⟨xs.length,by simp,gB _,h0⟩,?_⟩;rintro i m σ H ⟨rfl,hi,p⟩;have q:=hl i σ H hi p;by_cases ki:i < xs.length
 .refine .inr ⟨⟨xs,xs[i],q,by simp [ki]⟩,Pv (i+1),λσ' H' p'=>⟨xs.length - (i+1),∅,rfl,ki,p'⟩,λx H' y=>?_⟩;obtain⟨t,y0,rfl,ht,rfl,y⟩:=y;exact hs i y0 σ _ t (y xs q) p ht
 have e:i=xs.length:=by omega
 subst e;exact .inl ⟨⟨xs,q,aH _⟩,hd σ H p⟩
def uM {K:a9}{H:Hp}{p D d:Addr}{zs:List Str}{kvs:List (aS×V)}{σ:St}{js:List (Nat×Str)}{Qp:Hp->Prop}(hσ:eU ["part"] js σ=[none,aP d])(hp:aQ K H p (zs.map V.str))(hz:zs.length<=1000)
  (hd:H d=some (.dK kvs))(hD:H D=none)(q:∀H2,aC H H2->H2 D=some (.lst ((zs.map λz=>(bB kvs (Sum.inr z)).isSome).map V.bl))->Qp H2) :
  ∃W:Nat->Nat->List V->St->Hp->Prop,(∃m,W 0 m [] (eU ["part"] js σ) (upd H D (.lst []))) /\
 ∀i m ys σ' H,W i m ys σ' H->((ql K p).stop i H/\Qp H)\/((ql K p).go i H/\∃m',m' < m/\∀x H',(ql K p).m_ i H x H'->dQ 0 x σ' H' λσ2 H2=>ix σ2 H2 λb H3 =>
  if b=true then OP (gX 0) (gX 1) σ2 H3 λy H4=>H4 D=some (.lst ys)/\ys.length < sizeLine/\W (i+1) m' (ys++[y]) σ2 (upd H4 D (.lst (ys++[y]))) else W (i+1) m' ys σ2 H3):=by
 refine g9 (xs:=zs.map V.str) (λi ys σ2 H2=>ys=(((zs.take i).map λz=>(bB kvs (Sum.inr z)).isSome).map V.bl)/\(∃y0,σ2=[y0,aP d])/\aC H H2/\H2 D=some (.lst ys))
  ⟨rfl,⟨none,hσ⟩,af hD _,ae⟩ (λi ys σ2 H2 _ h=>h.2.2.1.tup hp) (λi x ys σ2 H2 ex h=>?_) (λys σ2 H2 h=>?_)
 .obtain⟨rfl,⟨y0,rfl⟩,sm,hd2⟩:=h;rw [bh] at ex;obtain⟨z,ez,rfl⟩:=cq.mp ex;have li:=(bq.mp ez).1;refine goN (yB ?_);refine⟨_,rfl,_,rfl,d,_,rfl,cz.k (k:=Sum.inr z) (sm _ _ hd),hd2,bL (by rw [au,au,dO];omega),?_,⟨_,rfl⟩,?_,ae⟩
  .rw [cS,ez,bG,bG];rfl
  intro b o hb;rw [aj (λz=>by rw [z,hD] at hb;cases hb)];exact sm b o hb
 obtain⟨rfl,_,sm,hd2⟩:=h;rw [au,cR] at hd2;exact q H2 sm hd2
def ib {K:a9}{H:Hp}{D a:Addr}{xs:List V}{ys:List (aS×V)}{o:HO}(hD:H D=some (.dK ys))(h:aQ K H a xs):aQ K (upd H D o) a xs:=by
 rcases h with (h | ⟨u,h⟩) | h
 .exact .inl (.inl (by rw [aj (λz=>by rw [z,hD] at h;cases h)];exact h))
 .exact .inl (.inr ⟨u,by rw [aj (λz=>by rw [z,hD] at h;cases h)];exact h⟩)
 exact .inr h
theorem gr {α:Type} [DecidableEq α]:∀(l m:List α),l.Nodup->(∀x∈l,x∈m)->l.length<=m.length
 | [],m,_,_=>gB _
 | a::l,m,hn,h=>by
  have hm:=h a cV;have:=gr l (m.erase a) (mS.mp hn).2 λx hx=>(List.mem_erase_of_ne (λz:x=a=>(mS.mp hn).1 (by rw [<-z];exact hx))).mpr (h x (du _ hx));rw [List.length_erase_of_mem hm] at this;have:=List.length_pos_of_mem hm;rw [dN];omega
end L2
namespace M11
open PySem L2
inductive wI (aa:List aw):List (Str×Nat)->Prop
 | nil:wI aa []
 | snoc {bC:List (Str×Nat)}{k:Nat}{ru:aw}:wI aa bC->aa[k]?=some ru->ru.1∉bC.map (·.1)->(∀p∈ru.2,p∈bC.map (·.1))->wI aa (bC++[(ru.1,k)])
def yo (aa:List aw) (n:Nat)(bC:List (Str×Nat)):Prop:=∀ru∈aa.take n,(∀p∈ru.2,p∈bC.map (·.1))->ru.1∈bC.map (·.1)
def wI.nd {aa:List aw}{bC:List (Str×Nat)}(h:wI aa bC):(bC.map (·.1)).Nodup:=by
 induction h with
 | nil=>exact lL
 | snoc h e n p ih =>
  rw [bG];refine kx.mpr ⟨ih,by simp,λa ha b hb=>?_⟩;rw [oZ,bV] at hb;exact λz=>n (by rw [<-hb,<-z];exact ha)
def wI.head {aa:List aw}{bC:List (Str×Nat)}(h:wI aa bC):∀x∈bC.map (·.1),x∈aa.map (·.1):=by
 induction h with
 | nil=>simp
 | snoc h e n p ih =>
  intro x hx;rw [bG] at hx;rcases cC.mp hx with hx | hx
  .exact ih x hx
  rw [oZ,bV] at hx;rw [hx];exact jZ (cg e)
def wI.len {aa:List aw}{bC:List (Str×Nat)}(h:wI aa bC):bC.length<=aa.length:=by
 have:=gr _ _ h.nd h.head;rw [au,au] at this;exact this
end M11
namespace gL
open PySem L2 M11
section
def pS (K:a9)(H:Hp)(ts:List Addr)(bC:List (Str×Nat)):Prop:=Paired (λt (e:Str×Nat)=>aQ K H t [.str e.1,.int (e.2:Int)]) ts bC
def pS.keep {H H':Hp}{ts:List Addr}{bC:List (Str×Nat)}(h:pS K H ts bC)(k:∀a xs,aQ K H a xs->aQ K H' a xs):pS K H' ts bC:=Paired.dJ h λt e z=>k _ _ z
structure B3 (K:a9)(aa:List aw)(H H5:Hp)(D d:Addr)(ts:List Addr)(bC:List (Str×Nat))(kvs:List (aS×V)):Prop where
 sm:aC H H5
 hD:H5 D=some (.lst (ts.map V.ref))
 hd:H5 d=some (.dK kvs)
 keys:kvs.map (·.1)=(bC.map (·.1)).map Sum.inr
 ev:pS K H5 ts bC
 emp:wI aa bC
def B3.same {aa:List aw}{H H5 H6:Hp}{D d:Addr}{ts:List Addr}{bC:List (Str×Nat)}{kvs:List (aS×V)}(h:B3 K aa H H5 D d ts bC kvs)(s:aC H5 H6):B3 K aa H H6 D d ts bC kvs :=
 ⟨h.sm.trans s,s _ _ h.hD,s _ _ h.hd,h.keys,h.ev.keep λ_ _ z=>s.tup z,h.emp⟩
def B3.mem {aa:List aw}{H H5:Hp}{D d:Addr}{ts:List Addr}{bC:List (Str×Nat)}{kvs:List (aS×V)}(h:B3 K aa H H5 D d ts bC kvs)(z:Str):(bB kvs (Sum.inr z)).isSome=true↔z∈bC.map (·.1):=by
 rw [fg,h.keys];exact di
def B3.len {aa:List aw}{H H5:Hp}{D d:Addr}{ts:List Addr}{bC:List (Str×Nat)}{kvs:List (aS×V)}(h:B3 K aa H H5 D d ts bC kvs):ts.length=bC.length/\kvs.length=bC.length:=by
 refine⟨aY h.ev,?_⟩;have:=congrArg List.length h.keys;simpa using this
def B3.more {aa:List aw}{H H5:Hp}{D d t:Addr}{ts:List Addr}{bC:List (Str×Nat)}{kvs:List (aS×V)}(h:B3 K aa H H5 D d ts bC kvs)(fD:H D=none)(fd:H d=none){k:Nat}{ru:aw}(e:aa[k]?=some ru)
  (n:ru.1∉bC.map (·.1))(p:∀x∈ru.2,x∈bC.map (·.1))(ht:upd H5 d (.dK (bS kvs (Sum.inr ru.1) (.bl true))) t=none) :
  B3 K aa H (upd (upd (upd H5 d (.dK (bS kvs (Sum.inr ru.1) (.bl true)))) t (.tup [.str ru.1,.int (k:Int)])) D (.lst (ts.map V.ref++[.ref t]))) D d (ts++[t]) (bC++[(ru.1,k)]) (bS kvs (Sum.inr ru.1) (.bl true)):=by
 have Yj:D≠d:=λz=>by have:=h.hD;rw [z,h.hd] at this;cases this
 have nt:t≠d:=λz=>by rw [z,ae] at ht;cases ht
 have P6:H5 t=none:=by rw [aj nt] at ht;exact ht
 have nDt:D≠t:=λz=>by rw [<-z,h.hD] at P6;cases P6
 have i9:upd (upd H5 d (.dK (bS kvs (Sum.inr ru.1) (.bl true)))) t (.tup [.str ru.1,.int (k:Int)]) D=some (.lst (ts.map V.ref)):=by rw [aj nDt,aj Yj];exact h.hD
 have kp:∀a xs,aQ K H5 a xs->aQ K (upd (upd (upd H5 d (.dK (bS kvs (Sum.inr ru.1) (.bl true)))) t (.tup [.str ru.1,.int (k:Int)])) D (.lst (ts.map V.ref++[.ref t]))) a xs:=λa xs z =>
  aT i9 ((af ht _).tup (ib h.hd z))
 refine⟨λb o hb=>?_,by rw [ae,bG];rfl,by rw [aj Yj.symm,aj nt.symm,ae],?_,gR (h.ev.keep kp) (aT i9 (aQ.of ae)),.snoc h.emp e n p⟩
 .have:=h.sm b o hb;rw [aj (λz=>by rw [z,fD] at hb;cases hb),aj (λz=>by rw [z,P6] at this;cases this),aj (λz=>by rw [z,fd] at hb;cases hb)];exact this
 rw [iZ (by rw [h.keys];exact λz=>n (di.mp z)),h.keys,bG,bG];rfl
def pb (K:a9):Sp:=λvs H Q _=>∃(R:Addr)(rs:List Addr)(aa:List aw),vs=[.ref R]/\aI K H R (rs.map V.ref)/\bI K H rs aa/\aa.length<=1000/\(∀ru∈aa,ru.2.length<=8) /\
 ∀D ts bC H',H D=none->aC H H'->H' D=some (.lst (ts.map V.ref))->pS K H' ts bC->wI aa bC->yo aa aa.length bC->Q (.ref D) H'
def gY:aK ["rules","told","empty","many","number","rule"] ["rules"] (av rT):=ir rfl rfl rfl rfl nofun
def zW (F:g_ K "found_empties" "found_empties" rT f fd)(T:Txt mg):bO P w K mg base fk 1 f fd ["rules"] (pb K):=by
 refine F.ok gY (λvs H Q E h=>?_) (λdW A outer s H vs Q E hr h=>?_)
 .obtain⟨R,rs,aa,rfl,_⟩:=h;rfl
 obtain⟨R,rs,aa,rfl,hR,b_,br,h8,q⟩:=h;have hu:=fS hr;refine⟨_,ai (aA (i:=1) gY.nd rfl (bx rfl) (bc ah))
  (ai (aA (i:=2) gY.nd rfl (Or.inr rfl) ij)
  (ai (aA (i:=3) gY.nd rfl (bx rfl) (j7 ip ao))
  (ai (iL b0 (aV nV (pv 3) (aD aG rfl T.len cU (ab (pv 1) ah)) (bu _))
   (ai (aA (i:=3) gY.nd rfl (bx rfl) (aD aG rfl T.len cU (ab (pv 1) ah)))
   (ak (bQ b0 rfl (nU rfl T.Jl (ab (pv 0) ah)) (gJ rfl (aE (aq (i:=4) gY.nd rfl (bx rfl)) (aE (aq (i:=5) gY.nd rfl (bx rfl)) b9)))
    (ak (bw (PW.pt (iK (cZ (dZ hu (aF aN (pv 5) ao (λ_ _=>rfl)) (pv 2)))
      (gF (cY (aD (iF rfl) rfl T.all boot_all (ab (bF ["part"] [(2,"empty")] rfl (gI (aF aN (pv 5) ao (λ_ _=>rfl))) (bp rfl rfl) nofun rfl nofun
       (λ_ _ _ _ _=>aq (i:=0) (show (["part","empty"]:List Str).Nodup by decide +kernel) rfl (bx rfl)) (λ_ _ _ _ _=>bY) (λ_ _ _ _ _=>zK (jN hu (pv 0) (pv 1)))) ah))))))
     (ai (i0 hu (pv 2) (aF aN (pv 5) ao (λ_ _=>rfl)) dI rfl)
     (ak (bX (ft eG fZ f_ bK (pv 1) (ab (bD (ab (aF aN (pv 5) ao (λ_ _=>rfl)) (ab (pv 4) ah))) ah))))) aM))))))
  (ak (aL (pv 1)))))),?_⟩
 nofun
 refine⟨o7,λD hD d hd=>?_⟩;have Yh:d≠D:=λz=>by rw [z,ae] at hd;cases hd
 have qL:H d=none:=by rw [aj Yh] at hd;exact hd
 have e0:B3 K aa H (upd (upd H D (.lst [])) d (.dK [])) D d [] [] []:=⟨(af hD _).trans (af hd _),by rw [aj Yh.symm,ae];rfl,ae,rfl,.nil,.nil⟩;generalize upd (upd H D (.lst [])) d (.dK [])=H0 at e0;refine⟨1,rfl,?_⟩;refine⟨λm σ H5=>∃(ts:List Addr)(bC:List (Str×Nat))(kvs:List (aS×V)) (many:Int)(y4 y5:Option V),σ=[aP R,aP D,aP d,some (.int many),y4,y5]/\B3 K aa H H5 D d ts bC kvs/\-1<=many/\many<=bC.length/\(many=bC.length->yo aa aa.length bC)/\(m:Int)=aa.length+1 - many,
  ⟨aa.length+2,[],[],[],-1,none,none,rfl,e0,∅,by simp,by simp,by simp;omega⟩,?_⟩
 rintro m σ H5 ⟨ts,bC,kvs,many,y4,y5,rfl,S,b1,b2,cl,em⟩;obtain⟨lt,lk⟩:=S.len;refine⟨_,rfl,_,rfl,D,_,rfl,.inl (aI.of S.hD),_,_,rfl,rfl,_,rfl,?_⟩;refine bZ (λc=>?_) (λc=>?_)
 .have c':=dr c;rw [au,lt] at c';refine⟨λσ H5=>∃(tL:List Addr)(iC:List (Str×Nat))(fO:List (aS×V))(y4 y5:Option V),σ=[aP R,aP D,aP d,some (.int (bC.length:Int)),y4,y5]/\B3 K aa H H5 D d tL iC fO/\bC.length<=iC.length/\(iC.length=bC.length->yo aa aa.length iC),?_,?_⟩
  .rintro σ H6 ⟨tL,iC,fO,y4,y5,rfl,S2,l2,c2⟩;have:=S2.emp.len;exact⟨(aa.length+1 - bC.length:Int).toNat,∅,tL,iC,fO,_,_,_,rfl,S2,∅,∅,λz=>c2 ∅,∅⟩
  refine⟨_,rfl,D,_,rfl,.inl (aI.of S.hD),?_⟩;rw [au,lt];refine⟨_,rfl,R,_,rfl,S.sm.seq hR,?_⟩;refine kZ (xs:=rs.map V.ref) (λi σ H6=>∃(tL:List Addr)(iC:List (Str×Nat))(fO:List (aS×V))(y4 y5:Option V),σ=[aP R,aP D,aP d,some (.int (bC.length:Int)),y4,y5]/\B3 K aa H H6 D d tL iC fO/\bC.length<=iC.length/\(iC.length=bC.length->yo aa i iC))
   ⟨ts,bC,kvs,_,_,rfl,S,aH _,λ_ ru i8=>by simp at i8⟩ ?_ ?_ ?_
  .rintro i σ H6 _ ⟨tL,iC,fO,y4,y5,rfl,S2,_⟩;exact S2.sm.seq hR
  .rintro i x σ H6 t ex ⟨tL,iC,fO,y4,y5,rfl,S2,l2,c2⟩ ht
   ac_nf0
   rw [bh] at ex;obtain⟨r,er,rfl⟩:=cq.mp ex;obtain⟨ru,e1,p,v1,v2⟩:=b_.get er;have NX:=h8 ru (cg e1);have S3:=S2.same (af ht (.tup [.int (i:Int),.ref r]));have NQ:aQ K (upd H6 t (.tup [.int (i:Int),.ref r])) t [.int (i:Int),.ref r]:=aQ.of ae;generalize upd H6 t (.tup [.int (i:Int),.ref r])=H7 at S3 NQ;obtain⟨lt2,Hn⟩:=S3.len;have el2:=S3.emp.len;have tk:aa.take (i+1)=aa.take i++[ru]:=by rw [cS,e1];rfl
   have ka:(¬((∀p∈ru.2,p∈iC.map (·.1))/\ru.1∉iC.map (·.1)))->(iC.length=bC.length->yo aa (i+1) iC):=λhn z Ce xM hp=>by
    rw [tk] at xM;rcases cC.mp xM with h | h
    .exact c2 z Ce h hp
    rw [bV.mp h] at hp ⊢;exact Classical.byContradiction λhc=>hn ⟨hp,hc⟩
   refine⟨t,_,rfl,NQ,rfl,_,_,rfl,_,_,rfl,rfl,?_⟩;refine⟨_,rfl,r,_,_,_,rfl,rfl,S3.sm.tup v1,rfl,?_⟩;refine⟨_,rfl,d,_,rfl,cz.k (k:=Sum.inr ru.1) S3.hd,_,rfl,?_⟩;refine bZ (λc3=>?_) (λc3=>?_)
   .have nm:ru.1∉iC.map (·.1):=λh=>by rw [(S3.mem _).mpr h] at c3;exact absurd c3 nofun
    refine⟨_,rfl,r,_,_,_,rfl,rfl,S3.sm.tup v1,rfl,p,rfl,⟨_,S3.sm.tup v2⟩,λD2 i9=>uM rfl (S3.sm.tup v2) ∅ S3.hd i9 λH8 NB Qs=>?_⟩;have S4:=S3.same NB;refine⟨D2,_,rfl,aI.of Qs,_,rfl,?_⟩;refine bZ (λc4=>?_) (λc4=>?_)
    .have al:∀x∈ru.2,x∈iC.map (·.1):=λx hx=>(S4.mem x).mp (gC.mp c4 _ (jZ hx));refine⟨_,rfl,_,rfl,r,_,_,_,rfl,rfl,S4.sm.tup v1,rfl,d,_,rfl,pV.k (k:=Sum.inr ru.1) S4.hd (bL ∅),?_⟩;have v1':aQ K (upd H8 d (.dK (bS fO (Sum.inr ru.1) (.bl true)))) r [.str ru.1,.ref p]:=ib S4.hd (S4.sm.tup v1);have MK:upd H8 d (.dK (bS fO (Sum.inr ru.1) (.bl true))) D=some (.lst (tL.map V.ref)):=by rw [aj (λz=>by have:=S4.hD;rw [z,S4.hd] at this;cases this)];exact S4.hD
     refine⟨_,rfl,.inl ⟨rfl,_,aI.of MK⟩,_,rfl,r,_,_,_,rfl,rfl,v1',rfl,_,rfl,kc,λt2 ji=>?_⟩;refine⟨D,_,_,rfl,rfl,(by rw [aj (ay MK ji)];exact MK),bL (by rw [au];omega),?_⟩;have S5:=S4.more hD qL e1 nm al ji;exact⟨tL++[t2],iC++[(ru.1,i)],_,_,_,rfl,S5,by rw [bM];omega,λz=>by rw [bM] at z;simp at z;omega⟩
    refine⟨tL,iC,fO,_,_,rfl,S4,l2,ka λ⟨ha,_⟩=>c4 (gC.mpr λb hb=>?_)⟩;obtain⟨x,hx,rfl⟩:=cQ.mp hb;exact(S4.mem x).mpr (ha x hx)
   refine⟨tL,iC,fO,_,_,rfl,S3,l2,ka λ⟨_,hn⟩=>c3 ?_⟩;cases hq:(bB fO (Sum.inr ru.1)).isSome with
   | true=>exact absurd ((S3.mem _).mp hq) hn
   | false=>rfl
  rintro σ H6 ⟨tL,iC,fO,y4,y5,rfl,S2,l2,c2⟩;rw [au,aY b_] at c2;exact⟨tL,iC,fO,_,_,rfl,S2,l2,c2⟩
 have c':=of_decide_eq_false (q_.mpr c);rw [au,lt] at c';exact⟨_,rfl,q D ts bC H5 hD S.sm S.hD S.ev S.emp (cl ∅)⟩
end
end gL
namespace M11
open PySem L2
def C6 (b:Str->Bool):List Str->Nat
 | []=>0
 | z::r=>if b z=true then C6 b r+1 else 1
theorem BE (b:Str->Bool):∀zs:List Str,(∀z∈zs,b z=true)->C6 b zs=zs.length
 | [],_=>rfl
 | z::r,h=>by
  unfold C6;rw [ax (h z cV),BE b r λx hx=>h x (du _ hx)];rfl
theorem Gr (b:Str->Bool):∀(zs:List Str) (i:Nat)(z:Str),(∀x∈zs.take i,b x=true)->zs[i]?=some z->¬b z=true->C6 b zs=i+1
 | y::r,0,z,_,e,n=>by
  cases e;unfold C6;rw [az n]
 | y::r,i+1,z,h,e,n=>by
  unfold C6;rw [ax (h y (by rw [List.take_succ_cons];exact cV)),Gr b r i z (λx hx=>h x (by rw [List.take_succ_cons];exact du _ hx)) e n]
theorem Gq (b:Str->Bool):∀zs:List Str,C6 b zs<=zs.length
 | []=>aH _
 | z::r=>by
  have:=Gq b r;unfold C6;rw [dN]
  split <;> omega
def cnt (n:Nat):List V:=(List.range n).map λk:Nat=>V.int (k:Int)
end M11
namespace gL
open PySem L2 M11
section
def A7 (K:a9):Sp:=λvs H Q _=>∃(R:Addr)(rs:List Addr)(aa:List aw),vs=[.ref R]/\aI K H R (rs.map V.ref)/\bI K H rs aa/\aa.length<=1000/\(∀ru∈aa,ru.2.length<=8)/\(aa.flatMap (·.2)).Nodup /\
 ∀H',aC H H'->Q .d7 H'
def nq:aK ["strengths","met","way","words","word"] ["strengths"] (av ze):=ir rfl rfl rfl rfl nofun
def Fj (F:g_ K "refuse_twice" "refuse_twice" ze f fd)(T:Txt mg):bO P w K mg base fk 1 f fd ["strengths"] (A7 K):=by
 refine F.ok nq (λvs H Q E h=>?_) (λdW A outer s H vs Q E hr h=>?_)
 .obtain⟨R,rs,aa,rfl,_⟩:=h;rfl
 obtain⟨R,rs,aa,rfl,hR,b_,br,h8,Hs,q⟩:=h;have hu:=fS hr;refine⟨_,ai (aA (i:=1) nq.nd rfl (bx rfl) ij)
  (ak (bQ b0 rfl (aZ (pv 0)) (gJ rfl (aE (aq (i:=2) nq.nd rfl (bx rfl)) (aE (aq (i:=3) nq.nd rfl (bx rfl)) b9)))
   (ak (bQ b0 rfl (gI (pv 3)) (aq (i:=4) nq.nd rfl (bx rfl))
    (ai (bw (cZ (jN hu (pv 4) (pv 1))) (ak iM) aM) (ak (i0 hu (pv 1) (pv 4) dI rfl))))))),?_⟩
 nofun
 intro e he;have Bk:∀o,aC H (upd H e o):=λo=>af he o;have ll:=aY b_
 let wG:tG:=λi σ H5=>∃(kvs:List (aS×V))(y3 y4 y5:Option V),σ=[aP R,aP e,y3,y4,y5]/\H5=upd H e (.dK kvs) /\
  kvs.map (·.1)=((aa.take i).flatMap (·.2)).map Sum.inr
 refine⟨_,rfl,R,rfl,⟨_,(Bk _).seq hR⟩,cD (xs:=rs.map V.ref) wG ⟨[],none,none,none,rfl,rfl,rfl⟩ ?_ ?_ ?_⟩
 .rintro i σ H5 _ ⟨kvs,y3,y4,y5,rfl,rfl,_⟩;exact(Bk _).seq hR
 .rintro i x σ H5 ex ⟨kvs,y3,y4,y5,rfl,rfl,hk⟩
  ac_nf0
  rw [bh] at ex;obtain⟨r,er,rfl⟩:=cq.mp ex;obtain⟨ru,e1,p,v1,v2⟩:=b_.get er;have li:=(bq.mp e1).1;have NX:=h8 ru (cg e1);have eT:(aa.take (i+1)).flatMap (·.2)=(aa.take i).flatMap (·.2)++ru.2:=by
   rw [cS,e1,jY];simp
  have lA:((aa.take i).flatMap (·.2)).length<=8 * i:=jC (aa.take i) i (by rw [dO];omega) λru i8=>h8 ru (p_ i8);have FK:((aa.take i).flatMap (·.2)++ru.2).Nodup:=by
   have e2:aa.flatMap (·.2)=((aa.take i).flatMap (·.2)++ru.2)++(aa.drop (i+1)).flatMap (·.2):=by
    rw [<-eT,<-jY,rA]
   rw [e2] at Hs;exact(kx.mp Hs).1
  refine⟨r,_,rfl,(Bk _).tup v1,rfl,_,_,rfl,_,_,rfl,rfl,?_⟩
  let Dy:tG:=λj σ H6=>∃(kvs:List (aS×V))(y5:Option V),σ=[aP R,aP e,some (.str ru.1),aP p,y5]/\H6=upd H e (.dK kvs) /\
   kvs.map (·.1)=((aa.take i).flatMap (·.2)++ru.2.take j).map Sum.inr
  refine⟨_,rfl,p,rfl,⟨_,(Bk _).tup v2⟩,qN (xs:=ru.2.map V.str) Dy ⟨kvs,_,rfl,rfl,by rw [oO,iu];exact hk⟩ ?_ ?_ ?_⟩
  .rintro j σ H6 _ ⟨kvs,y5,rfl,rfl,_⟩;exact(Bk _).tup v2
  .rintro j x σ H6 pM ⟨kvs,y5,rfl,rfl,CU⟩
   ac_nf0
   rw [bh] at pM;obtain⟨z,ez,rfl⟩:=cq.mp pM;have lj:=(bq.mp ez).1;have eS:ru.2.take (j+1)=ru.2.take j++[z]:=by rw [cS,ez];rfl
   have lk:kvs.length<=8 * i+8:=by
    have h1:=congrArg List.length CU;rw [au,au,bM,dO] at h1;omega
   have nz:z∉(aa.take i).flatMap (·.2)++ru.2.take j:=λhz=>by
    have e3:(aa.take i).flatMap (·.2)++ru.2=((aa.take i).flatMap (·.2)++ru.2.take j)++([z]++ru.2.drop (j+1)):=by
     rw [ku,<-ku (ru.2.take j),<-eS,rA]
    rw [e3] at FK;exact(kx.mp FK).2.2 z hz z (by simp) rfl
   have nk:¬(Sum.inr z:aS)∈kvs.map (·.1):=by rw [CU];exact λh=>nz (di.mp h)
   refine⟨_,rfl,_,rfl,e,_,rfl,cz.k (k:=Sum.inr z) ae,_,rfl,?_⟩;refine bZ (λc=>absurd ((fg kvs _).mp c) nk) (λ_=>?_);refine⟨_,rfl,_,rfl,e,_,rfl,pV.k (k:=Sum.inr z) ae (bL ∅),?_⟩;refine⟨bS kvs (Sum.inr z) (.bl true),_,rfl,by rw [ng],?_⟩;rw [iZ nk,CU,eS,<-ku];simp only [bG,cu,jG]
  rintro σ H6 ⟨kvs,y5,rfl,rfl,CU⟩;rw [au,cR,<-eT] at CU;exact⟨kvs,_,_,_,rfl,rfl,CU⟩
 rintro σ H5 ⟨kvs,y3,y4,y5,rfl,rfl,hk⟩;exact q _ (Bk _)
def w6 (K:a9):Sp:=λvs H Q _=>∃(p d:Addr) (zs:List Str)(kvs:List (aS×V)),vs=[.ref p,.ref d]/\aQ K H p (zs.map V.str)/\zs.length<=1000/\H d=some (.dK kvs) /\
 ∀D H',H D=none->aC H H'->H' D=some (.lst (cnt (C6 (λz=>(bB kvs (Sum.inr z)).isSome) zs)))->Q (.ref D) H'
def nu:aK ["parts","empty","places","place","part"] ["parts","empty"] (av vL):=ir rfl rfl rfl rfl nofun
def Ct (F:g_ K "first_places" "first_places" vL f fd)(T:Txt mg):bO P w K mg base fk 1 f fd ["parts","empty"] (w6 K):=by
 refine F.ok nu (λvs H Q E h=>?_) (λdW A outer s H vs Q E hr h=>?_)
 .obtain⟨p,d,zs,kvs,rfl,_⟩:=h;rfl
 obtain⟨p,d,zs,kvs,rfl,hp,hz,hd,q⟩:=h;have hu:=fS hr;refine⟨_,ai (aA (i:=2) nu.nd rfl (bx rfl) (bc ah))
  (ai (bQ b0 rfl (nQ rfl T.Jl (ab (pv 0) ah)) (gJ rfl (aE (aq (i:=3) nu.nd rfl (bx rfl)) (aE (aq (i:=4) nu.nd rfl (bx rfl)) b9)))
   (ai (bX (ft eG fZ f_ bK (pv 2) (ab (pv 3) ah)))
   (ak (bw (cZ (dZ hu (pv 4) (pv 1))) (ak E2) aM))))
  (ak (aL (pv 2)))),?_⟩
 nofun
 refine⟨o7,λD hD=>?_⟩;have up1:∀n,cnt n++[V.int (n:Int)]=cnt (n+1):=λn=>by
  unfold cnt;rw [List.range_succ,bG];rfl
 refine⟨_,rfl,p,_,rfl,(af hD _).tup hp,?_⟩
 let Rk:tG:=λi σ H5=>∃(y3 y4:Option V),σ=[aP p,aP d,aP D,y3,y4]/\aC H H5/\H5 D=some (.lst (cnt i))/\∀z∈zs.take i,(bB kvs (Sum.inr z)).isSome=true
 refine pL (xs:=zs.map V.str) Rk
  ⟨none,none,rfl,af hD _,ae,by simp⟩ ?_ ?_ ?_
 .rintro i σ H5 _ ⟨y3,y4,rfl,sm,_⟩;exact sm.tup hp
 .rintro i x σ H5 t ex ⟨y3,y4,rfl,sm,Qt,qv⟩ ht
  ac_nf0
  rw [bh] at ex;obtain⟨z,ez,rfl⟩:=cq.mp ex;have li:=(bq.mp ez).1;have ke:=sm.trans (af ht (.tup [.int (i:Int),.str z]));have i9:upd H5 t (.tup [.int (i:Int),.str z]) D=some (.lst (cnt i)):=by rw [aj (ay Qt ht)];exact Qt
  have hv:aQ K (upd H5 t (.tup [.int (i:Int),.str z])) t [.int (i:Int),.str z]:=aQ.of ae;generalize upd H5 t (.tup [.int (i:Int),.str z])=H6 at ke i9 hv;have NC:aC H (upd H6 D (.lst (cnt i++[V.int (i:Int)]))):=λb o hb=>by
   rw [aj (λz=>by rw [z,hD] at hb;cases hb)];exact ke b o hb
  refine⟨t,_,rfl,hv,rfl,_,_,rfl,_,_,rfl,rfl,?_⟩;refine⟨_,rfl,.inl ⟨rfl,_,aI.of i9⟩,_,rfl,D,_,_,rfl,rfl,i9,bL (by unfold cnt;rw [au,u3];omega),?_⟩;refine⟨_,rfl,_,rfl,d,_,rfl,cz.k (k:=Sum.inr z) (NC _ _ hd),_,rfl,?_⟩;refine bZ (λc=>?_) (λc=>?_)
  .refine⟨_,rfl,q D _ hD NC ?_⟩;rw [ae,up1,Gr _ zs i z qv ez (λh=>by rw [h] at c;exact absurd c nofun)]
  refine⟨_,_,rfl,NC,by rw [ae,up1],λx hx=>?_⟩;rw [cS,ez] at hx;rcases cC.mp hx with h | h
  .exact qv x h
  rw [Option.toList_some,bV] at h;subst h;cases hq:(bB kvs (Sum.inr x)).isSome with
  | true=>rfl
  | false=>exact absurd (by rw [hq];rfl) c
 rintro σ H5 ⟨y3,y4,rfl,sm,Qt,qv⟩;rw [au] at Qt qv;rw [cR] at qv;exact⟨_,rfl,q D _ hD sm (by rw [BE _ zs qv];exact Qt)⟩
end
end gL
namespace L2
open PySem
section
variable {prog:Program}{w:World}{K:Type} [DecidableEq K] {knd:KeyKind prog w K}{A:Around}{E:Value->Shared->Prop}
def tX {s:Shared}{d l:Addr}{items:Array Value}{n:Nat}{kvs more:List (K×Value)}{Q:Value->Shared->Prop}(hh:A.handled=none)(qL:s.heap.DictOf knd d kvs)(hx:s.heap.get? l=some { cls:=.type "list",data:=.seq items n })
  (hi:items.size=more.length)(hp:∀(m:Nat) kv,more[m]?=some kv->∃u,items[m]?=some u/\mM knd s.heap u kv)(hz:kvs.length+more.length<=sizeLine)
  (h:∀h' t',h'.DictOf knd d (more.foldl (λa p=>stored a p.1 p.2) kvs)->(∀b o,b≠d->s.heap.get? b=some o->h'.get? b=some o)->Q .none { s with heap:=h',toks:=t' }) :
  wpAny (model prog w) A (call (.builtin "dict.update") [.ref d,.ref l]) Q E s:=by
 refine wpAny_call (codeAny_call_builtin yN.plain PySem.F.entry_dict_update (yN.check _ _ _ _ _ _ _ _ qL.typeIs (PySem.F.args_dict_update_2 _ _) ?_));unfold Builtin.«dict.update»;refine ar ?_;unfold Builtin.Dict.selfAndRest;refine ar (wpAny_notOrdered_dict qL.typeIs ?_);show wpAny _ _ (pure (d,[Value.ref l])) _ _ s;refine aR ?_;show wpAny _ _ (Builtin.Dict.updateFrom "dict.update" d (.ref l) [] .none) _ _ s;unfold Builtin.Dict.updateFrom;refine ar (jV (T := "list") ⟨_,hx,rfl⟩ ?_);rw [ax yW];refine ar (pG hx hh λh1 t1 k1=>?_);refine ar (ja ?_);have l1:=k1 _ _ hx;refine ar (oR ⟨_,l1,rfl,_,rfl⟩ ?_);have k2:∀b o,s.heap.get? b=some o->(h1.push { cls:=.type "list_iterator",data:=.fields #[.ref l,.int 0 0] }).get? b=some o:=λb o q=>bJ _ (k1 _ _ q);refine aR ⟨kI fI _,GK (knd:=knd) (A:=A) (l:=l) (items:=items) hh more 0 _ kvs _ _ (by rw [hi,oJ]) ?_ ⟨_,cW _ rfl,rfl,rfl⟩ ⟨_,k2 _ _ hx,rfl,n,rfl⟩ (λm kv e=>?_) hz λh' t' hd k3=>?_⟩
 .obtain⟨o,es,ep,q,r⟩:=qL;exact⟨o,es,ep,k2 _ _ q,r⟩
 .obtain⟨u,e1,e2⟩:=hp m kv e;exact⟨u,by rw [oJ];exact e1,e2.keep λb o _ q=>k2 b o q⟩
 exact h h' t' hd λb o n q=>k3 b o n (bN (ba (k1 _ _ q))) (k2 b o q)
end
section
variable {X:Cx}{o e:Expr}{apos gO:Pos}{td ty:TE}
def OO (K:a9)(td ty:TE):TE:=λσ H Q=>td σ H λx H1=>∃a,x=.ref a/\SH H1 a/\ty σ H1 λy H2=>∃l ts kvs more,y=.ref l/\H2 a=some (.dK kvs)/\H2 l=some (.lst (ts.map V.ref)) /\
 Paired (λt kv=>aQ K H2 t [kV kv.1,kv.2]) ts more/\kvs.length+more.length<=sizeLine/\Q .d7 (upd H2 a (.dK (cK more kvs)))
def ID (hc:X.calm=true)(ho:PE X o td)(he:PE X e ty)(m:M1 X o "update" apos e gO):PE X (.Call (.Attribute o "update" apos) [e] [] gO) (OO X.K td ty):=by
 intro ag s σ H Q I h;refine wpAny_Call_method m.base m.BH m.line yL yN PySem.F.type_dict_update (cJ (ho ag s σ H _ I h) λu s1 bz=>?_);obtain⟨x,H1,I1,rx,a,ex,d,q1⟩:=bz;subst ex;obtain rfl:u=Value.ref a:=rx;obtain⟨t1,t2,_⟩:=Af I1 d;refine⟨t1,t2,?_⟩;rw [m.trees];refine rp rfl (u5 (mi (cJ (he ag s1 σ H1 _ I1 q1) λiv s2 bz=>?_)));obtain⟨y,H2,I2,ry,l,ts,kvs,more,ey,ea,el,p,hz,q2⟩:=bz;refine qZ ?_;subst ey;cases (show iv=Value.ref l from ry);obtain⟨z,CO,vs,rel,dd⟩:=xX I2.b8 ea;obtain⟨z2,aU,n,rv,hl⟩:=(show cH X.prog X.w H2 s2.heap l (.lst _) from I2.b8 l _ el);obtain⟨ms,r1,r2⟩:=pairs_at I2 p rv;have l1:=aY r2;have l2:=r1.length;have l3:=aY p;refine tX (I2.ok.hd hc) dd hl (by simpa using l1) (λm kv em=>?_) (by rw [<-rel.length,<-l2];exact hz) λh' t' hd kk=>?_
 .obtain⟨u,e1,e2⟩:=Paired.at_ r2 m kv em;exact⟨u,by simpa using e1,e2⟩
 have hn:(cK more kvs).length<=sizeLine:=fX (sP more kvs) hz;have he:∃q,h'.get? a=some q:=let ⟨q,_,_,hq,_⟩:=hd;⟨q,hq⟩;exact⟨.d7,_,I2.write (x:=a) (e:=a) (by rw [ea];exact True.intro) (.inl rfl) (λb q hb z=>kk b q hb z) he (sS hn CO (sO r1 rel) hd),rfl,q2⟩
def uO {X:Cx}:il X (.builtin "len") (λxs H Q=>∃a kvs,xs=[.ref a]/\H a=some (.dK kvs)/\Q (.int kvs.length) H):=by
 intro ag s σ H xs us Q I r h;obtain⟨a,kvs,rfl,e,q⟩:=h;obtain⟨u,rfl,rx⟩:=vals1 r;cases (show u=Value.ref a from rx);exact Q2 I (.inl e) λt s' I'=>⟨.int _,H,I',⟨_,rfl⟩,q⟩
end
theorem xK:∀{us:List Value}{ns:List Int},PyProof.Rows.IntsAre us ns->∀ys:List (Int×Tok),us=ys.map (λp=>Value.int p.1 p.2)->ys.map (·.1)=ns
 | _,_,.nil,ys,e=>by
  cases ys with
  | nil=>rfl
  | cons _ _=>cases e
 | _,_,.cons n t h,ys,e=>by
  cases ys with
  | nil=>cases e
  | cons y r =>
   rw [cu] at e;injection e with e1 e2;injection e1 with e3 e4;rw [cu,xK h r e2,e3]
def uN {X:Cx}(hc:X.calm=true):il X (.builtin "sum") (λxs H Q=>∃a ns,xs=[.ref a]/\aI X.K H a (List.map V.int ns)/\Q (.int ns.sum) H):=by
 intro ag s σ H xs us Q I r h;obtain⟨a,ns,rfl,hq,q⟩:=h;obtain⟨u,rfl,rx⟩:=vals1 r;cases rx;obtain⟨aU,rv,pl,hz⟩:=I.list hq;have hi:=intsAre_of rv;have qv:AllInts aU.toArray:=hi.allInts;obtain⟨xs,e⟩:=qv.items;have hl:=pl.isList;rw [e] at hl;refine sum_intListG (I.ok.hd hc) hl λh' tk t' hk=>⟨.int _,H,I.kept hk,⟨_,rfl⟩,?_⟩;have e5:xs.toList.map (·.1)=ns:=xK hi xs.toList (by
  have:=congrArg Array.toList e;simpa [intItems] using this)
 have e6:preSum (numAt xs) xs.size=ns.sum:=by
  rw [preSum_eq,e5,mV (by rw [<-e5];simp)]
 rw [e6];exact q
def x9 {K:a9}{H:Hp}{p D:Addr}{zs:List Str}{σ:St}{v:V}{x:Str}{Qp:Hp->Prop}(hp:aQ K H p (zs.map V.str))(hz:zs.length<=1000)(hD:H D=none)
  (q:∀ts H2,aC H H2->H2 D=some (.lst (ts.map V.ref))->Paired (λt h=>aQ K H2 t [.str h,v]) ts zs->Qp H2) :
  ∃W:Nat->Nat->List V->St->Hp->Prop,(∃m,W 0 m [] (eU [x] [] σ) (upd H D (.lst []))) /\
 ∀i m ys σ' H,W i m ys σ' H->((ql K p).stop i H/\Qp H)\/((ql K p).go i H/\∃m',m' < m/\∀x H',(ql K p).m_ i H x H'->dQ 0 x σ' H' λσ2 H2=>ix σ2 H2 λb H3 =>
  if b=true then tQ (gE (gX 0) (gE (tC v) rC)) σ2 H3 λy H4=>H4 D=some (.lst ys)/\ys.length < sizeLine/\W (i+1) m' (ys++[y]) σ2 (upd H4 D (.lst (ys++[y]))) else W (i+1) m' ys σ2 H3):=by
 refine g9 (xs:=zs.map V.str) (λi ys σ2 H2=>∃ts:List Addr,ys=ts.map V.ref/\ts.length=i/\Paired (λt h=>aQ K H2 t [.str h,v]) ts (zs.take i)/\(∃y0,σ2=[y0])/\aC H H2/\H2 D=some (.lst ys))
  ⟨[],rfl,rfl,.nil,⟨none,rfl⟩,af hD _,ae⟩ (λi ys σ2 H2 _ h=>?_) (λi x ys σ2 H2 ex h=>?_) (λys σ2 H2 h=>?_)
 .obtain⟨_,_,_,_,_,sm,_⟩:=h;exact sm.tup hp
 .obtain⟨ts,rfl,ht,pI,⟨y0,rfl⟩,sm,hd⟩:=h;rw [bh] at ex;obtain⟨z,ez,rfl⟩:=cq.mp ex;have li:=(bq.mp ez).1;refine goN (yB ?_);refine⟨_,rfl,kc,λt ji=>⟨?_,bL (by rw [au];omega),ts++[t],?_,?_,?_,⟨_,rfl⟩,?_,ae⟩⟩
  .rw [aj (ay hd ji)];exact hd
  .rw [bG];rfl
  .rw [bM,ht];rfl
  .rw [cS,ez];have jh:upd H2 t (.tup [.str z,v]) D=some (.lst (ts.map V.ref)):=by rw [aj (ay hd ji)];exact hd
   exact gR (Paired.dJ pI λt' h' z=>aT jh ((af ji _).tup z)) (aT jh (aQ.of ae))
  intro b o hb;rw [aj (λz=>by rw [z,hD] at hb;cases hb)];exact af ji _ _ _ (sm b o hb)
 obtain⟨ts,rfl,ht,pI,_,sm,hd⟩:=h;rw [au,cR] at pI;exact q ts H2 sm hd pI
end L2
namespace M11
open PySem L2
def oB (a:List Str)(h x:Str):x∈gP a h↔x∈a\/x=h:=by
 unfold gP;split
 .constructor
  .exact .inl
  rintro(z | rfl) <;> assumption
 simp
def BU {a:List Str}(h:Str)(n:a.Nodup):(gP a h).Nodup:=by
 unfold gP;split
 .exact n
 rename_i q
 refine kx.mpr ⟨n,by simp,λx hx y hy=>?_⟩;rw [bV.mp hy];exact λz=>q (z ▸ hx)
def BV (a:List Str)(h:Str):a.length<=(gP a h).length:=by
 unfold gP;split <;> simp
def Jy {a:List Str}{h:Str}(e:(gP a h).length=a.length):gP a h=a:=by
 unfold gP at e ⊢;split
 .rfl
 rename_i q
 rw [az q,bM] at e;simp at e
theorem hU:∀(hs bA:List Str)(x:Str),x∈tN bA hs↔x∈bA\/x∈hs
 | [],bA,x=>by simp [tN]
 | h::r,bA,x=>by
  show x∈tN (gP bA h) r↔_;rw [hU r,oB,cA,or_assoc]
theorem pP:∀(hs:List Str){bA:List Str},bA.Nodup->(tN bA hs).Nodup
 | [],_,n=>n
 | h::r,_,n=>pP r (BU h n)
theorem Az:∀(hs bA:List Str),bA.length<=(tN bA hs).length
 | [],_=>aH _
 | h::r,bA=>fX (BV bA h) (Az r _)
theorem GU:∀(hs bA:List Str),(tN bA hs).length=bA.length->tN bA hs=bA
 | [],_,_=>rfl
 | h::r,bA,e=>by
  have h1:=BV bA h;have h2:=Az r (gP bA h);have e':(tN (gP bA h) r).length=bA.length:=e;show tN (gP bA h) r=bA;rw [GU r _ ∅];exact Jy ∅
inductive Nu (aa:List aw)(s:Str):Str->Prop
 | start:Nu aa s s
 | step {ru:aw}{x:Str}:Nu aa s ru.1->ru∈aa->x∈ru.2->Nu aa s x
def He (aa:List aw) (n:Nat) (ms:List Str):Prop:=∀ru∈aa.take n,ru.1∈ms->∀x∈ru.2,x∈ms
def Nu.among {aa:List aw}{s x:Str}(h:Nu aa s x):x∈s::aa.flatMap (·.2):=by
 cases h with
 | start=>exact cV
 | step _ h1 h2=>exact du _ (q8.mpr ⟨_,h1,h2⟩)
end M11
namespace gL
open PySem L2 M11
section
def JN (K:a9):Sp:=λvs H Q _=>∃(R:Addr)(rs:List Addr)(aa:List aw)(lU:aw),vs=[.ref R]/\aI K H R (rs.map V.ref)/\bI K H rs aa/\aa[0]?=some lU/\aa.length<=1000/\(∀ru∈aa,ru.2.length<=8) /\
 ∀d kvs ms H',H d=none->aC H H'->H' d=some (.dK kvs)->kvs.map (·.1)=ms.map Sum.inr->lU.1∈ms->(∀x∈ms,Nu aa lU.1 x)->He aa aa.length ms->Q (.ref d) H'
def um:aK ["rules","met","many","head","parts"] ["rules"] (av Lr):=ir rfl rfl rfl rfl nofun
structure Oh (K:a9)(aa:List aw)(s0:Str)(H H5:Hp)(d:Addr) (ms:List Str)(kvs:List (aS×V)):Prop where
 sm:aC H H5
 hd:H5 d=some (.dK kvs)
 keys:kvs.map (·.1)=ms.map Sum.inr
 nd:ms.Nodup
 st:s0∈ms
 RH:∀x∈ms,Nu aa s0 x
def Oh.len {aa:List aw}{s0:Str}{H H5:Hp}{d:Addr}{ms:List Str}{kvs:List (aS×V)}(h:Oh K aa s0 H H5 d ms kvs)(hl:aa.length<=1000)(h8:∀ru∈aa,ru.2.length<=8):kvs.length=ms.length/\ms.length<=8001:=by
 refine⟨?_,?_⟩
 .have:=congrArg List.length h.keys;simpa using this
 have h1:=gr ms _ h.nd λx hx=>(h.RH x hx).among;have h2:=jC aa 1000 hl h8;rw [dN] at h1;omega
def LX (F:g_ K "names_met" "names_met" Lr f fd)(T:Txt mg):bO P w K mg base fk 1 f fd ["rules"] (JN K):=by
 refine F.ok um (λvs H Q E h=>?_) (λdW A outer s H vs Q E hr h=>?_)
 .obtain⟨R,rs,aa,lU,rfl,_⟩:=h;rfl
 obtain⟨R,rs,aa,lU,rfl,hR,b_,F7,br,h8,q⟩:=h;have hu:=fS hr;refine⟨_,ai (aA (i:=1) um.nd rfl (bx rfl) (IE (E4 (aF aN (aF bo (pv 0) ao (λ_ _=>rfl)) ao (λ_ _=>rfl)) dI Iy) rfl rfl (by simp) (show 1<=15 by decide)))
  (ai (aA (i:=2) um.nd rfl (bx rfl) ao)
  (ai (iL b0 (aV nV (pv 2) (aD uO rfl T.len cU (ab (pv 1) ah)) (bu _))
   (ai (aA (i:=2) um.nd rfl (bx rfl) (aD uO rfl T.len cU (ab (pv 1) ah)))
   (ak (bQ b0 rfl (aZ (pv 0)) (gJ rfl (aE (aq (i:=3) um.nd rfl (bx rfl)) (aE (aq (i:=4) um.nd rfl (bx rfl)) b9)))
    (ak (bw (cZ (jN hu (pv 3) (pv 1)))
     (ak (bX (ID rfl (pv 1) (bF ["part"] [] rfl (gI (pv 4)) (bp rfl rfl) nofun rfl nofun
       (λ_ _ _ _ _=>aq (i:=0) (show (["part"]:List Str).Nodup by decide +kernel) rfl (bx rfl)) (λ_ _ _ _ _=>bY) (λ_ _ _ _ _=>bD (ab (pv 0) (ab dI ah)))) ⟨rfl,rfl,rfl,rfl⟩))) aM))))))
  (ak (aL (pv 1))))),?_⟩
 nofun
 intro d hd;have ll:=aY b_;have l0:=(bq.mp F7).1;obtain⟨r0,Zw⟩:∃r,rs[0]?=some r:=⟨rs[0]'∅,cf ∅⟩;obtain⟨aaa,e0,p0,w1,w2⟩:=b_.get Zw;rw [F7] at e0;cases e0;have XI:=af hd (.dK []);refine⟨_,rfl,R,_,_,.ref r0,rfl,rfl,XI.seq hR,?_,r0,_,_,_,rfl,rfl,XI.tup w1,rfl,?_⟩
 .have e7:(rs.map V.ref)[0]?=some (.ref r0):=by rw [bh,Zw];rfl
  exact bT (j:=0) e7
 refine⟨ae,[((Sum.inr lU.1:aS),.bl true)],rfl,(by show 1<=15;decide),?_⟩;have S0:Oh K aa lU.1 H (upd (upd H d (.dK [])) d (.dK (mw [] [((Sum.inr lU.1:aS),.bl true)]))) d [lU.1] [((Sum.inr lU.1:aS),.bl true)]:=by
  rw [ng];exact⟨af hd _,ae,rfl,by simp,by simp,λx hx=>by rw [bV.mp hx];exact .start⟩
 generalize upd (upd H d (.dK [])) d (.dK (mw [] [((Sum.inr lU.1:aS),.bl true)]))=H0 at S0;refine⟨λm σ H5=>∃(ms:List Str)(kvs:List (aS×V)) (many:Int)(y3 y4:Option V),σ=[aP R,aP d,some (.int many),y3,y4]/\Oh K aa lU.1 H H5 d ms kvs/\0<=many/\many<=ms.length/\(many=ms.length->He aa aa.length ms)/\(m:Int)=8002 - many,
  ⟨8002,[lU.1],_,0,none,none,rfl,S0,∅,by simp,by simp,∅⟩,?_⟩
 rintro m σ H5 ⟨ms,kvs,many,y3,y4,rfl,S,b1,b2,cl,em⟩;obtain⟨lk,lm⟩:=S.len br h8;refine⟨_,rfl,_,rfl,d,_,rfl,S.hd,_,_,rfl,rfl,_,rfl,?_⟩;refine bZ (λc=>?_) (λc=>?_)
 .have c':=dr c;rw [lk] at c';refine⟨λσ H5=>∃(qH:List Str)(fO:List (aS×V))(y3 y4:Option V),σ=[aP R,aP d,some (.int (ms.length:Int)),y3,y4]/\Oh K aa lU.1 H H5 d qH fO/\ms.length<=qH.length/\(qH.length=ms.length->He aa aa.length qH),?_,?_⟩
  .rintro σ H6 ⟨qH,fO,y3,y4,rfl,S2,l2,c2⟩;exact⟨(8002 - ms.length:Int).toNat,∅,qH,fO,_,_,_,rfl,S2,∅,∅,λz=>c2 ∅,∅⟩
  refine⟨_,rfl,d,_,rfl,S.hd,?_⟩;rw [lk];refine⟨_,rfl,R,rfl,⟨_,S.sm.seq hR⟩,?_⟩;refine cD (xs:=rs.map V.ref) (λi σ H6=>∃(qH:List Str)(fO:List (aS×V))(y3 y4:Option V),σ=[aP R,aP d,some (.int (ms.length:Int)),y3,y4]/\Oh K aa lU.1 H H6 d qH fO/\ms.length<=qH.length/\(qH.length=ms.length->He aa i qH))
   ⟨ms,kvs,_,_,rfl,S,aH _,λ_ ru i8=>by simp at i8⟩ ?_ ?_ ?_
  .rintro i σ H6 _ ⟨qH,fO,y3,y4,rfl,S2,_⟩;exact S2.sm.seq hR
  .rintro i x σ H6 ex ⟨qH,fO,y3,y4,rfl,S2,l2,c2⟩
   ac_nf0
   rw [bh] at ex;obtain⟨r,er,rfl⟩:=cq.mp ex;obtain⟨ru,e1,p,v1,v2⟩:=b_.get er;have NX:=h8 ru (cg e1);have tk:aa.take (i+1)=aa.take i++[ru]:=by rw [cS,e1];rfl
   obtain⟨Hn,lm2⟩:=S2.len br h8;have mem:(bB fO (Sum.inr ru.1)).isSome=true↔ru.1∈qH:=by rw [fg,S2.keys];exact di
   refine⟨r,_,rfl,S2.sm.tup v1,rfl,_,_,rfl,_,_,rfl,rfl,?_⟩;refine⟨_,rfl,_,rfl,d,_,rfl,cz.k (k:=Sum.inr ru.1) S2.hd,_,rfl,?_⟩;refine bZ (λc3=>?_) (λc3=>?_)
   .have im:=mem.mp c3;refine⟨_,rfl,d,rfl,.inl ⟨_,.inl S2.hd⟩,_,rfl,p,rfl,⟨_,S2.sm.tup v2⟩,λD2 i9=>x9 (S2.sm.tup v2) ∅ i9 λts H8 NB Qs YV=>?_⟩;have kp:Paired (λt (kv:aS×V)=>aQ K H8 t [kV kv.1,kv.2]) ts (ru.2.map λh=>((Sum.inr h:aS),V.bl true)):=cv YV λ_ _ z=>z;refine⟨D2,ts,fO,_,rfl,NB _ _ S2.hd,Qs,kp,fits (by rw [au];omega),?_⟩;have aal:=Az ru.2 qH;refine⟨tN qH ru.2,cK (ru.2.map λh=>((Sum.inr h:aS),V.bl true)) fO,_,_,rfl,⟨λb o hb=>?_,ae,nY ru.2 fO qH S2.keys,pP ru.2 S2.nd,(hU ru.2 qH _).mpr (.inl S2.st),λx hx=>?_⟩,∅,λz Ce xM hh=>?_⟩
    .rw [aj (λz=>by rw [z,hd] at hb;cases hb)];exact NB _ _ (S2.sm b o hb)
    .rcases (hU ru.2 qH x).mp hx with h | h
     .exact S2.RH x h
     exact .step (S2.RH _ im) (cg e1) h
    have e9:=GU ru.2 qH ∅;rw [e9] at hh ⊢;rw [tk] at xM;rcases cC.mp xM with h | h
    .exact c2 ∅ Ce h hh
    rw [bV.mp h];intro x hx;rw [<-e9];exact(hU ru.2 qH x).mpr (.inr hx)
   refine⟨qH,fO,_,_,rfl,S2,l2,λz Ce xM hh=>?_⟩;rw [tk] at xM;rcases cC.mp xM with h | h
   .exact c2 z Ce h hh
   rw [bV.mp h] at hh;exact absurd (mem.mpr hh) c3
  rintro σ H6 ⟨qH,fO,y3,y4,rfl,S2,l2,c2⟩;rw [au,ll] at c2;exact⟨qH,fO,_,_,rfl,S2,l2,c2⟩
 have c':=of_decide_eq_false (q_.mpr c);rw [lk] at c';exact⟨_,rfl,q d kvs ms H5 hd S.sm S.hd S.keys S.st S.RH (cl ∅)⟩
end
end gL
namespace M11
open PySem L2
abbrev G:=Str->Option Int
def eK (g:G)(h:Str) (n:Int):G:=λz=>if z=h then some n else g z
def aW (g:G)(ru:aw):Int:=1+(ru.2.map λp=>(g p).getD 0).sum
def k_ (g:G)(ru:aw):Bool:=ru.2.all λp=>(g p).isSome
def cO (bt:Int->Int->Bool)(g:G)(ru:aw):Bool:=k_ g ru && (!(g ru.1).isSome || bt (aW g ru) ((g ru.1).getD 0))
def sstep (bt:Int->Int->Bool)(a:G×Bool)(ru:aw):G×Bool:=if cO bt a.1 ru=true then (eK a.1 ru.1 (aW a.1 ru),true) else a
def tR (bt:Int->Int->Bool)(aa:List aw)(g:G):G×Bool:=aa.foldl (sstep bt) (g,false)
inductive eJ (bt:Int->Int->Bool)(aa:List aw):G->G->Prop
 | refl {g:G}:eJ bt aa g g
 | step {g g1:G}{ru:aw}:eJ bt aa g g1->ru∈aa->cO bt g1 ru=true->eJ bt aa g (eK g1 ru.1 (aW g1 ru))
def i_ (bt:Int->Int->Bool)(aa:List aw)(g:G):Prop:=∀ru∈aa,cO bt g ru=false
def pU (bt:Int->Int->Bool)(aa:List aw):Nat->G->Prop
 | 0,g=>(tR bt aa g).2=false
 | n+1,g=>(tR bt aa g).2=false\/pU bt aa n (tR bt aa g).1
def eJ.trans {bt:Int->Int->Bool}{aa:List aw}{g g1 g2:G}(h:eJ bt aa g g1)(k:eJ bt aa g1 g2):eJ bt aa g g2:=by
 induction k with
 | refl=>exact h
 | step _ a b ih=>exact .step ih a b
theorem sL (bt:Int->Int->Bool)(aa:List aw):∀(l:List aw)(a:G×Bool),(∀ru∈l,ru∈aa)->eJ bt aa a.1 (l.foldl (sstep bt) a).1
 | [],a,_=>.refl
 | ru::l,a,h=>by
  have ih:=sL bt aa l (sstep bt a ru) λx hx=>h x (du _ hx);refine eJ.trans ?_ ih;unfold sstep;by_cases c:cO bt a.1 ru=true
  .rw [ax c];exact .step .refl (h ru cV) c
  rw [az c];exact .refl
theorem uE (bt:Int->Int->Bool):∀(l:List aw)(a:G×Bool),a.2=true->(l.foldl (sstep bt) a).2=true
 | [],a,h=>h
 | ru::l,a,h=>by
  refine uE bt l (sstep bt a ru) ?_;unfold sstep
  split
  .rfl
  exact h
theorem sN (bt:Int->Int->Bool):∀(l:List aw)(a:G×Bool),(l.foldl (sstep bt) a).2=false->(l.foldl (sstep bt) a).1=a.1/\∀ru∈l,cO bt a.1 ru=false
 | [],a,_=>⟨rfl,λ_ h=>nomatch h⟩
 | ru::l,a,h=>by
  by_cases c:cO bt a.1 ru=true
  .have e:sstep bt a ru=(eK a.1 ru.1 (aW a.1 ru),true):=ax c;have h':(l.foldl (sstep bt) (sstep bt a ru)).2=false:=h;rw [e,uE bt l _ rfl] at h';cases h'
  have e:sstep bt a ru=a:=az c;have h':(l.foldl (sstep bt) (sstep bt a ru)).2=false:=h;rw [e] at h';obtain⟨i1,i2⟩:=sN bt l a h';refine⟨by rw [List.foldl_cons,e];exact i1,λCe hr=>?_⟩;rcases cA.mp hr with z | z
  .rw [z];exact q_.mpr c
  exact i2 Ce z
end M11
namespace L2
open PySem M11
def d0.tup {K:a9}{H H':Hp}{d a:Addr}{kvs:List (aS×V)}{xs:List V}(s:d0 d H H')(hd:H d=some (.dK kvs))(h:aQ K H a xs):aQ K H' a xs:=by
 rcases h with (h | ⟨u,h⟩) | h
 .exact .inl (.inl (s _ _ (λz=>by rw [z,hd] at h;cases h) h))
 .exact .inl (.inr ⟨u,s _ _ (λz=>by rw [z,hd] at h;cases h) h⟩)
 exact .inr h
def d0.seq {K:a9}{H H':Hp}{d a:Addr}{kvs:List (aS×V)}{xs:List V}(s:d0 d H H')(hd:H d=some (.dK kvs))(h:aI K H a xs):aI K H' a xs:=by
 rcases h with (h | ⟨u,h⟩) | h
 .exact .inl (.inl (s _ _ (λz=>by rw [z,hd] at h;cases h) h))
 .exact .inl (.inr ⟨u,s _ _ (λz=>by rw [z,hd] at h;cases h) h⟩)
 exact .inr h
def Dm {K:a9}{H:Hp}{p D d:Addr}{zs:List Str}{kvs:List (aS×V)}{g:G}{σ:St}{js:List (Nat×Str)}{Qp:Hp->Prop}(hσ:eU ["part"] js σ=[none,aP d])(hp:aQ K H p (zs.map V.str))(hz:zs.length<=1000)
  (hd:H d=some (.dK kvs))(hv:∀z,bB kvs (Sum.inr z)=(g z).map V.int)(ha:∀z∈zs,(g z).isSome=true)(hD:H D=none)(q:∀H2,aC H H2->H2 D=some (.lst ((zs.map λz=>(g z).getD 0).map V.int))->Qp H2) :
  ∃W:Nat->Nat->List V->St->Hp->Prop,(∃m,W 0 m [] (eU ["part"] js σ) (upd H D (.lst []))) /\
 ∀i m ys σ' H,W i m ys σ' H->((ql K p).stop i H/\Qp H)\/((ql K p).go i H/\∃m',m' < m/\∀x H',(ql K p).m_ i H x H'->dQ 0 x σ' H' λσ2 H2=>ix σ2 H2 λb H3 =>
  if b=true then AW (gX 1) (gX 0) σ2 H3 λy H4=>H4 D=some (.lst ys)/\ys.length < sizeLine/\W (i+1) m' (ys++[y]) σ2 (upd H4 D (.lst (ys++[y]))) else W (i+1) m' ys σ2 H3):=by
 refine g9 (xs:=zs.map V.str) (λi ys σ2 H2=>ys=(((zs.take i).map λz=>(g z).getD 0).map V.int)/\(∃y0,σ2=[y0,aP d])/\aC H H2/\H2 D=some (.lst ys))
  ⟨rfl,⟨none,hσ⟩,af hD _,ae⟩ (λi ys σ2 H2 _ h=>h.2.2.1.tup hp) (λi x ys σ2 H2 ex h=>?_) (λys σ2 H2 h=>?_)
 .obtain⟨rfl,⟨y0,rfl⟩,sm,hd2⟩:=h;rw [bh] at ex;obtain⟨z,ez,rfl⟩:=cq.mp ex;have li:=(bq.mp ez).1;obtain⟨n,en⟩:=mX.mp (ha z (cg ez));have hg:cz H2 d (.str z) (some (.int n)):=by
   have:=cz.k (k:=Sum.inr z) (sm _ _ hd);rw [hv,en] at this;exact this
  refine goN (yB ?_);refine⟨_,rfl,_,rfl,d,_,rfl,hg,hd2,bL (by rw [au,au,dO];omega),?_,⟨_,rfl⟩,?_,ae⟩
  .rw [cS,ez,bG,bG];show _=_++[V.int ((g z).getD 0)];rw [en];rfl
  intro b o hb;rw [aj (λz=>by rw [z,hD] at hb;cases hb)];exact sm b o hb
 obtain⟨rfl,_,sm,hd2⟩:=h;rw [au,cR] at hd2;exact q H2 sm hd2
end L2
namespace gL
open PySem L2 M11
section
def iI (K:a9)(q:Str)(params:Arguments)(body:Expr)(scope:Scope)(bt:Int->Int->Bool):Sp:=λvs H Q _=>∃(R:Addr)(rs:List Addr)(aa:List aw)(d fl c':Addr)(pm gA:Value)(kvs:List (aS×V)) (ks:List Str)(g:G),
 vs=[.ref R,.ref d,.ref fl]/\aI K H R (rs.map V.ref)/\bI K H rs aa/\aa.length<=1000/\(∀ru∈aa,ru.2.length<=8)/\H d=some (.dK kvs)/\kvs.map (·.1)=ks.map Sum.inr/\ks.Nodup/\ks.length<=10000 /\
 (∀z,bB kvs (Sum.inr z)=(g z).map V.int)/\(∃n,pU bt aa n g)/\H fl=some (pD fl (PySem.W.kla_obj "<lambda>" q params body scope [] pm c' gA))/\H c'=some (j8 c' q) /\
 ∀(mD:List (aS×V)) (PM:List Str)(g':G)(H':Hp),d0 d H H'->H' d=some (.dK mD)->mD.map (·.1)=PM.map Sum.inr->(∀z,bB mD (Sum.inr z)=(g' z).map V.int)->eJ bt aa g g'->i_ bt aa g'->mD.length<=20000->Q (.ref d) H'
def iJ:aK ["rules","sizes","better","changed","head","parts","size"] ["rules","sizes","better"] (av nF):=ir rfl rfl rfl rfl nofun
structure DV (K:a9)(aa:List aw) (Ho:List Str)(H H5:Hp)(d:Addr)(kvs:List (aS×V)) (ks:List Str)(g:G):Prop where
 sm:d0 d H H5
 hd:H5 d=some (.dK kvs)
 keys:kvs.map (·.1)=ks.map Sum.inr
 nd:ks.Nodup
 sub:∀x∈ks,x∈Ho++aa.map (·.1)
 val:∀z,bB kvs (Sum.inr z)=(g z).map V.int
def DV.len {aa:List aw}{Ho:List Str}{H H5:Hp}{d:Addr}{kvs:List (aS×V)}{ks:List Str}{g:G}(h:DV K aa Ho H H5 d kvs ks g):kvs.length<=Ho.length+aa.length:=by
 have h1:=congrArg List.length h.keys;have h2:=gr ks _ h.nd h.sub;rw [bM,au] at h2;rw [au,au] at h1;omega
def DV.same {aa:List aw}{Ho:List Str}{H H5 H6:Hp}{d:Addr}{kvs:List (aS×V)}{ks:List Str}{g:G}(h:DV K aa Ho H H5 d kvs ks g)(s:aC H5 H6):DV K aa Ho H H6 d kvs ks g :=
 ⟨λb o n e=>s _ _ (h.sm b o n e),s _ _ h.hd,h.keys,h.nd,h.sub,h.val⟩
def DV.put {aa:List aw}{Ho:List Str}{H H5:Hp}{d:Addr}{kvs:List (aS×V)}{ks:List Str}{g:G}(h:DV K aa Ho H H5 d kvs ks g){ru:aw}(hr:ru∈aa) (n:Int) :
  DV K aa Ho H (upd H5 d (.dK (bS kvs (Sum.inr ru.1) (.int n)))) d (bS kvs (Sum.inr ru.1) (.int n)) (gP ks ru.1) (eK g ru.1 n):=by
 refine⟨λb o nb e=>by rw [aj nb];exact h.sm b o nb e,ae,kX h.keys ru.1,BU ru.1 h.nd,λx hx=>?_,λz=>?_⟩
 .rcases (oB ks ru.1 x).mp hx with z | z
  .exact h.sub x z
  rw [z];exact fY _ (jZ hr)
 rw [wV];unfold eK;by_cases c:z=ru.1
 .rw [ax c,ax (by rw [c])];rfl
 rw [az c,az (λe=>c (md e)),h.val]
def uv (F:g_ K "settled_sizes" "settled_sizes" nF f fd)(T:Txt mg){q:Str}{params:Arguments}{body:Expr}{scope:Scope}{bt:Int->Int->Bool}{te:TE}(S:aK ["size","known"] ["size","known"] scope)
  (oh:∀(pm gA:Value)(c':Addr)(us:List Value),us.length=(["size","known"]:List Str).length->bindArgs (PySem.W.kla_fn "<lambda>" q params body scope [] pm (.ref c') gA) ⟨us,[]⟩=pure ((["size","known"]:List Str).zip us))
  (jA:∀(f c':Addr)(A:Around)(outer:List Env)(s:Shared)(H:Hp),PE (pQ fk P w K mg base ["size","known"] q scope f (.ref c') A outer s H λ_ _ _=>False) body te)
  (P4:∀a b H Q,Q (.bl (bt a b)) H->te [some (.int a),some (.int b)] H Q):bO P w K mg base fk 2 f fd ["rules","sizes","better"] (iI K q params body scope bt):=by
 refine F.ok iJ (λvs H Q E h=>?_) (λdW A outer s H vs Q E hr h=>?_)
 .obtain⟨R,rs,aa,d,fl,c',pm,gA,kvs,ks,g,rfl,_⟩:=h;rfl
 obtain⟨R,rs,aa,d,fl,c',pm,gA,kvs,ks,g,rfl,hR,b_,br,h8,hd,hk,Hs,hkl,hv,⟨n0,RU⟩,Gg,lI,qq⟩:=h;have hu:=fS hr;refine⟨_,ai (aA (i:=3) iJ.nd rfl (bx rfl) dI)
  (ai (iL b0 (cY (pv 3))
   (ai (aA (i:=3) iJ.nd rfl (bx rfl) dI)
   (ak (bQ b0 rfl (aZ (pv 0)) (gJ rfl (aE (aq (i:=4) iJ.nd rfl (bx rfl)) (aE (aq (i:=5) iJ.nd rfl (bx rfl)) b9)))
    (ak (bw (cY (aD (iF rfl) rfl T.all boot_all (ab (bF ["part"] [(1,"sizes")] rfl (gI (pv 5)) (bp rfl rfl) nofun rfl nofun
       (λ_ _ _ _ _=>aq (i:=0) (show (["part","sizes"]:List Str).Nodup by decide +kernel) rfl (bx rfl)) (λ_ _ _ _ _=>bY) (λ_ _ _ _ _=>zK (jN hu (pv 0) (pv 1)))) ah)))
     (ai (aA (i:=6) iJ.nd rfl (bx rfl) (aX gq ao (aD (uN rfl) rfl T.sum PyProof.Rows.boot_sum (ab (bF ["part"] [(1,"sizes")] rfl (gI (pv 5)) (bp rfl rfl) nofun rfl nofun
       (λ_ _ _ _ _=>aq (i:=0) (show (["part","sizes"]:List Str).Nodup by decide +kernel) rfl (bx rfl)) (λ_ _ _ _ _=>bY) (λ_ _ _ _ _=>fK hu (pv 1) (pv 0) (λ_ _=>rfl))) ah))))
     (ak (bw (PW.pt (ju (cZ (dZ hu (pv 4) (pv 1))) (iq (cY (zL (i:=2) (k:=0) rfl rfl S hr oh jA (ab (pv 6) (ab (fK hu (pv 1) (pv 4) (λ_ _=>rfl)) ah)))))))
      (ai (i0 hu (pv 1) (pv 4) (pv 6) rfl) (ak (aA (i:=3) iJ.nd rfl (bx rfl) dI))) aM))) aM))))))
  (ak (aL (pv 1)))),?_⟩
 nofun
 have ll:=aY b_;have S0:DV K aa ks H H d kvs ks g:=⟨λ_ _ _ e=>e,hd,hk,Hs,λx hx=>jm _ hx,hv⟩;refine⟨λm σ H5=>∃(fO:List (aS×V)) (RP:List Str)(g2:G)(ch:Bool)(y4 y5 y6:Option V),σ=[aP R,aP d,aP fl,some (.bl ch),y4,y5,y6]/\DV K aa ks H H5 d fO RP g2/\eJ bt aa g g2 /\
  ((ch=true/\∃n,m=n+1/\pU bt aa n g2)\/(ch=false/\i_ bt aa g2)),⟨n0+1,kvs,ks,g,true,none,none,none,rfl,S0,.refl,.inl ⟨rfl,n0,rfl,RU⟩⟩,?_⟩
 rintro m σ H5 ⟨fO,RP,g2,ch,y4,y5,y6,rfl,S2,Hj,cs⟩;refine⟨_,rfl,ch,rfl,?_⟩;refine bZ (λc=>?_) (λc=>?_)
 .rcases cs with ⟨_,n,em,en⟩ | ⟨c',_⟩
  case inr=>rw [c'] at c;cases c
  refine⟨λσ H6=>∃(mC:List (aS×V)) (DM:List Str)(g3:G)(ye:Bool)(y4 y5 y6:Option V),σ=[aP R,aP d,aP fl,some (.bl ye),y4,y5,y6]/\DV K aa ks H H6 d mC DM g3/\(g3,ye)=tR bt aa g2,?_,?_⟩
  .rintro σ H6 ⟨mC,DM,g3,ye,y4,y5,y6,rfl,S3,e3⟩;have WB:g3=(tR bt aa g2).1:=congrArg Prod.fst e3;have Nh:ye=(tR bt aa g2).2:=congrArg Prod.snd e3;have OV:eJ bt aa g g3:=by
    rw [WB];exact Hj.trans (sL bt aa aa (g2,false) λ_ h=>h)
   cases h3:ye with
   | false =>
    rw [h3] at Nh;obtain⟨f1,f2⟩:=sN bt aa (g2,false) Nh.symm;refine⟨0,∅,mC,DM,g3,false,_,_,_,rfl,S3,OV,.inr ⟨rfl,?_⟩⟩;have e33:g3=g2:=WB.trans f1;rw [e33];exact f2
   | true =>
    rw [h3] at Nh;cases n with
    | zero=>rw [show (tR bt aa g2).2=false from en] at Nh;cases Nh
    | succ n' =>
     rcases en with en | en
     .rw [en] at Nh;cases Nh
     exact⟨n'+1,∅,mC,DM,g3,true,_,_,_,rfl,S3,OV,.inl ⟨rfl,n',rfl,by rw [WB];exact en⟩⟩
  refine⟨_,rfl,R,rfl,⟨_,S2.sm.seq hd hR⟩,?_⟩;refine cD (xs:=rs.map V.ref) (λi σ H6=>∃(mC:List (aS×V)) (DM:List Str)(g3:G)(ye:Bool)(y4 y5 y6:Option V),σ=[aP R,aP d,aP fl,some (.bl ye),y4,y5,y6]/\DV K aa ks H H6 d mC DM g3/\(g3,ye)=(aa.take i).foldl (sstep bt) (g2,false))
   ⟨fO,RP,g2,false,_,_,_,rfl,S2,rfl⟩ ?_ ?_ ?_
  .rintro i σ H6 _ ⟨mC,DM,g3,ye,y4,y5,y6,rfl,S3,_⟩;exact S3.sm.seq hd hR
  .rintro i x σ H6 ex ⟨mC,DM,g3,ye,y4,y5,y6,rfl,S3,e3⟩;rw [bh] at ex;obtain⟨r,er,rfl⟩:=cq.mp ex;obtain⟨ru,e1,p,v1,v2⟩:=b_.get er;have lH:=cg e1;have NX:=h8 ru lH;have fo:(aa.take (i+1)).foldl (sstep bt) (g2,false)=sstep bt (g3,ye) ru:=by
    rw [cS,e1,List.foldl_append,<-e3];rfl
   rw [fo];have Tc:=S3.sm.tup hd v2;refine⟨r,_,rfl,S3.sm.tup hd v1,rfl,_,_,rfl,_,_,rfl,rfl,?_⟩;refine⟨_,rfl,p,rfl,⟨_,Tc⟩,λD2 i9=>uM rfl Tc ∅ S3.hd i9 λH7 XH hd7=>?_⟩;have S4:=S3.same XH;have v4:=XH.tup Tc;have eb:(ru.2.map λz=>(bB mC (Sum.inr z)).isSome).all id=k_ g3 ru:=by
    unfold k_;rw [List.all_map];refine List.all_congr rfl λz=>?_;show (bB mC (Sum.inr z)).isSome=_;rw [S3.val,oX]
   refine⟨D2,_,rfl,aI.of hd7,_,rfl,?_⟩;rw [eb];refine bZ (λc4=>?_) (λc4=>?_)
   .have al:∀z∈ru.2,(g3 z).isSome=true:=λz hz=>gC.mp c4 z hz;refine⟨_,rfl,p,rfl,⟨_,v4⟩,λD3 Aj=>Dm (g:=g3) rfl v4 ∅ S4.hd S4.val al Aj λH8 NB Qs=>?_⟩;have S5:=S4.same NB;have esz:1+(ru.2.map λz=>(g3 z).getD 0).sum=aW g3 ru:=rfl;refine⟨D3,_,rfl,aI.of Qs,_,_,rfl,rfl,?_⟩;have mem:(bB mC (Sum.inr ru.1)).isSome=(g3 ru.1).isSome:=by rw [S5.val,oX]
    have fl5:=S5.sm fl _ (λz=>by rw [z,hd] at Gg;cases Gg) Gg;have c5':=S5.sm c' _ (λz=>by rw [z,hd] at lI;cases lI) lI;have l5:=S5.len;refine⟨_,rfl,_,rfl,d,_,rfl,cz.k (k:=Sum.inr ru.1) S5.hd,_,rfl,?_⟩;refine bZ (λc5=>?_) (λc5=>?_)
    .have fr:cO bt g3 ru=true:=by
      unfold cO;rw [<-mem,c4,c5];rfl
     refine⟨_,rfl,_,rfl,_,rfl,d,_,rfl,pV.k (k:=Sum.inr ru.1) S5.hd (bL ∅),?_⟩;exact⟨_,_,eK g3 ru.1 (aW g3 ru),true,_,_,_,rfl,S5.put lH (aW g3 ru),(ax fr).symm⟩
    have isS:(g3 ru.1).isSome=true:=by
     rw [mem] at c5;cases hq:(g3 ru.1).isSome with
     | true=>rfl
     | false=>rw [hq] at c5;exact absurd rfl c5
    obtain⟨k,ek⟩:=mX.mp isS;have hg:cz H8 d (.str ru.1) (some (.int k)):=by
     have:=cz.k (k:=Sum.inr ru.1) S5.hd;rw [S5.val,ek] at this;exact this
    refine⟨fl,pm,c',gA,rfl,_,rfl,_,rfl,_,rfl,d,_,rfl,hg,fl5,c5',rfl,P4 (aW g3 ru) k _ _ ⟨_,rfl,?_⟩⟩;refine bZ (λc6=>?_) (λc6=>?_)
    .have fr:cO bt g3 ru=true:=by
      unfold cO;rw [c4,ek];show (true && (false || bt (aW g3 ru) k))=true
      rw [c6];rfl
     refine⟨_,rfl,_,rfl,_,rfl,d,_,rfl,pV.k (k:=Sum.inr ru.1) S5.hd (bL ∅),?_⟩;exact⟨_,_,eK g3 ru.1 (aW g3 ru),true,_,_,_,rfl,S5.put lH (aW g3 ru),(ax fr).symm⟩
    have fr:¬cO bt g3 ru=true:=by
     unfold cO;rw [c4,ek];show ¬(true && (false || bt (aW g3 ru) k))=true
     rw [q_.mpr c6];exact nofun
    exact⟨mC,DM,g3,ye,_,_,_,rfl,S5,(az fr).symm⟩
   have e5:sstep bt (g3,ye) ru=(g3,ye):=az (λz=>c4 (by unfold cO at z;exact(h_.mp z).1));exact⟨mC,DM,g3,ye,_,_,_,rfl,S4,e5.symm⟩
  rintro σ H6 ⟨mC,DM,g3,ye,y4,y5,y6,rfl,S3,e3⟩;rw [au,ll,cR] at e3;exact⟨mC,DM,g3,ye,_,_,_,rfl,S3,e3⟩
 rcases cs with ⟨c',_⟩ | ⟨_,se⟩
 .rw [c'] at c;exact absurd rfl c
 exact⟨_,rfl,qq fO RP g2 H5 S2.sm S2.hd S2.keys S2.val Hj se (by have:=S2.len;omega)⟩
end
end gL
namespace M11
open PySem L2
theorem fold_lt {bt:Int->Int->Bool}{aa:List aw}{J:G->Prop}{r:G->G->Prop}(tr:∀a b c,r a b->r b c->r a c)
  (yx:∀g ru,J g->ru∈aa->cO bt g ru=true->J (eK g ru.1 (aW g ru))/\r (eK g ru.1 (aW g ru)) g) :
  ∀(l:List aw)(a:G×Bool),(∀ru∈l,ru∈aa)->J a.1->J (l.foldl (sstep bt) a).1/\(l.foldl (sstep bt) a=a\/r (l.foldl (sstep bt) a).1 a.1)
 | [],a,_,j=>⟨j,.inl rfl⟩
 | ru::l,a,h,j=>by
  by_cases c:cO bt a.1 ru=true
  .have e:sstep bt a ru=(eK a.1 ru.1 (aW a.1 ru),true):=ax c;obtain⟨j1,r1⟩:=yx a.1 ru j (h ru cV) c;obtain⟨j2,r2⟩:=fold_lt tr yx l (eK a.1 ru.1 (aW a.1 ru),true) (λx hx=>h x (du _ hx)) j1;rw [List.foldl_cons,e];refine⟨j2,.inr ?_⟩;rcases r2 with r2 | r2
   .rw [r2];exact r1
   exact tr _ _ _ r2 r1
  have e:sstep bt a ru=a:=az c;rw [List.foldl_cons,e];exact fold_lt tr yx l a (λx hx=>h x (du _ hx)) j
def xV {bt:Int->Int->Bool}{aa:List aw}{J:G->Prop}{r:G->G->Prop}(tr:∀a b c,r a b->r b c->r a c)
  (yx:∀g ru,J g->ru∈aa->cO bt g ru=true->J (eK g ru.1 (aW g ru))/\r (eK g ru.1 (aW g ru)) g){g:G}(h:Acc r g)(j:J g):∃n,pU bt aa n g:=by
 induction h with
 | intro g _ ih =>
  cases c:(tR bt aa g).2 with
  | false=>exact⟨0,c⟩
  | true =>
   obtain⟨j2,r2⟩:=fold_lt tr yx aa (g,false) (λ_ h=>h) j;have r3:r (tR bt aa g).1 g:=by
    rcases r2 with r2 | r2
    .have e:(tR bt aa g)=(g,false):=r2;rw [e] at c;cases c
    exact r2
   obtain⟨n,hn⟩:=ih _ r3 j2;exact⟨n+1,.inr hn⟩
def eJ.keep {bt:Int->Int->Bool}{aa:List aw}{J:G->Prop}(yx:∀g ru,J g->ru∈aa->cO bt g ru=true->J (eK g ru.1 (aW g ru))){g g':G}(h:eJ bt aa g g')(j:J g):J g':=by
 induction h with
 | refl=>exact j
 | step _ a b ih=>exact yx _ _ ih a b
def fq (f:Str->Nat) (hs:List Str):Nat:=(hs.map f).sum
theorem wX {f k:Str->Nat}:∀{hs:List Str},(∀x∈hs,f x<=k x)->fq f hs<=fq k hs
 | [],_=>aH _
 | h::r,q=>by
  have h1:=q h cV;have h2:=wX (hs:=r) λx hx=>q x (du _ hx);show f h+fq f r<=k h+fq k r;omega
theorem ni {f k:Str->Nat}:∀{hs:List Str}{h:Str},(∀x∈hs,f x<=k x)->h∈hs->f h < k h->fq f hs < fq k hs
 | a::r,h,q,m,l=>by
  have h1:=q a cV;have h2:∀x∈r,f x<=k x:=λx hx=>q x (du _ hx);show f a+fq f r < k a+fq k r;rcases cA.mp m with z | z
  .have:=wX h2;rw [z] at l;omega
  have:=ni h2 z l;omega
theorem jJ (g:G)(J:∀z n,g z=some n->(0:Int)<=n):∀ps:List Str,0<=(ps.map λp=>(g p).getD 0).sum
 | []=>by simp
 | p::r=>by
  have h1:=jJ g J r;have h2:0<=(g p).getD 0:=by
   cases e:g p with
   | none=>exact oF _
   | some n=>exact J p n e
  rw [cu,jW];omega
def NN (g:G):Prop:=∀z n,g z=some n->(0:Int)<=n
def vX {g:G}(j:NN g)(ru:aw):NN (eK g ru.1 (aW g ru)):=λz n e=>by
 unfold eK at e;by_cases c:z=ru.1
 .rw [ax c] at e;cases e;have:=jJ g j ru.2;unfold aW;omega
 rw [az c] at e;exact j z n e
def bl (a b:Int):Bool:=decide (a < b)
def bg (a b:Int):Bool:=decide (a > b)
def Ab (hs:List Str)(g' g:G):Prop :=
 fq (λh=>if (g' h).isSome then 0 else 1) hs < fq (λh=>if (g h).isSome then 0 else 1) hs \/
 (fq (λh=>if (g' h).isSome then 0 else 1) hs=fq (λh=>if (g h).isSome then 0 else 1) hs/\fq (λh=>((g' h).getD 0).toNat) hs < fq (λh=>((g h).getD 0).toNat) hs)
def I0 (hs:List Str)(g:G):Acc (Ab hs) g:=by
 have wf:=(Prod.lex (β:=Nat) (α:=Nat) ⟨(· < ·),Nat.lt_wfRel.wf⟩ ⟨(· < ·),Nat.lt_wfRel.wf⟩).wf;have key:∀p:Nat×Nat,∀g:G,(fq (λh=>if (g h).isSome then 0 else 1) hs,fq (λh=>((g h).getD 0).toNat) hs)=p->Acc (Ab hs) g:=λp=>by
  induction p using wf.induction with
  | _ p ih =>
   intro g e;refine⟨g,λg' r=>ih _ ?_ g' rfl⟩;rw [<-e];rcases r with r | ⟨r1,r2⟩
   .exact Prod.Lex.left _ _ r
   show Prod.Lex _ _ (fq (λh=>if (g' h).isSome then 0 else 1) hs,_) _;rw [r1];exact Prod.Lex.right _ r2
 exact key _ g rfl
def Md (hs:List Str)(a b c:G)(h:Ab hs a b)(k:Ab hs b c):Ab hs a c:=by
 unfold Ab at *;omega
def FR {aa:List aw}(g:G)(ru:aw)(j:NN g)(m:ru∈aa)(f:cO bl g ru=true):NN (eK g ru.1 (aW g ru))/\Ab (aa.map (·.1)) (eK g ru.1 (aW g ru)) g:=by
 refine⟨vX j ru,?_⟩;have hm:ru.1∈aa.map (·.1):=jZ m;have nn:=vX j ru;have tZ:eK g ru.1 (aW g ru) ru.1=some (aW g ru):=ax rfl;have ne:∀z,z≠ru.1->eK g ru.1 (aW g ru) z=g z:=λz n=>az n;unfold cO at f;have f2:=(h_.mp f).2;cases e:g ru.1 with
 | none =>
  refine .inl (ni (λx _=>?_) hm ?_)
  .by_cases c:x=ru.1
   .show (if (eK g ru.1 (aW g ru) x).isSome then 0 else 1)<=_;rw [c,tZ];exact gB _
   show (if (eK g ru.1 (aW g ru) x).isSome then 0 else 1)<=_;rw [ne x c];exact aH _
  show (if (eK g ru.1 (aW g ru) ru.1).isSome then 0 else 1) < (if (g ru.1).isSome then 0 else 1);rw [tZ,e];show 0 < 1;exact Nat.one_pos
 | some k =>
  rw [e] at f2;have lt:aW g ru < k:=dr (by simpa [bl] using f2);have h0:=nn ru.1 _ tZ;refine .inr ⟨?_,ni (λx _=>?_) hm ?_⟩
  .unfold fq
   congr 1
   refine List.map_congr_left λx _=>?_;by_cases c:x=ru.1
   .show (if (eK g ru.1 (aW g ru) x).isSome then 0 else 1)=(if (g x).isSome then 0 else 1);rw [c,tZ,e];rfl
   show (if (eK g ru.1 (aW g ru) x).isSome then 0 else 1)=(if (g x).isSome then 0 else 1);rw [ne x c]
  .by_cases c:x=ru.1
   .show ((eK g ru.1 (aW g ru) x).getD 0).toNat<=((g x).getD 0).toNat;rw [c,tZ,e];show (aW g ru).toNat<=k.toNat;omega
   show ((eK g ru.1 (aW g ru) x).getD 0).toNat<=((g x).getD 0).toNat;rw [ne x c];exact aH _
  show ((eK g ru.1 (aW g ru) ru.1).getD 0).toNat < ((g ru.1).getD 0).toNat;rw [tZ,e];show (aW g ru).toNat < k.toNat;omega
def Ac (aa:List aw)(g:G)(j:NN g):∃n,pU bl aa n g:=xV (Md (aa.map (·.1))) (λg ru=>FR g ru) (I0 _ g) j
inductive Em (aa:List aw):Str->Prop
 | mk {ru:aw}:ru∈aa->(∀p∈ru.2,Em aa p)->Em aa ru.1
def yq (aa:List aw)(b:Str->Int):Prop:=(∀z,0<=b z)/\∀ru∈aa,(∀p∈ru.2,Em aa p)->1+(ru.2.map b).sum<=b ru.1
def GJ (aa:List aw)(b:Str->Int)(g:G):Prop:=∀z n,g z=some n->0<=n/\n<=b z/\Em aa z
theorem A0 {aa:List aw}{b:Str->Int}{g:G}(j:GJ aa b g)(hb:∀z,0<=b z):∀ps:List Str,(ps.map λp=>(g p).getD 0).sum<=(ps.map b).sum
 | []=>by simp
 | p::r=>by
  have h1:=A0 j hb r;have h2:(g p).getD 0<=b p:=by
   cases e:g p with
   | none=>exact hb p
   | some n=>exact(j p n e).2.1
  rw [cu,jW,cu,jW];omega
def gm (b:Str->Int)(g:G)(h:Str):Nat:=if (g h).isSome then (b h - (g h).getD 0).toNat else (b h).toNat+1
def sG {aa:List aw}{b:Str->Int}(B:yq aa b)(g:G)(ru:aw)(j:GJ aa b g)(m:ru∈aa)(f:cO bg g ru=true) :
  GJ aa b (eK g ru.1 (aW g ru))/\fq (gm b (eK g ru.1 (aW g ru))) (aa.map (·.1)) < fq (gm b g) (aa.map (·.1)):=by
 have hm:ru.1∈aa.map (·.1):=jZ m;have tZ:eK g ru.1 (aW g ru) ru.1=some (aW g ru):=ax rfl;have ne:∀z,z≠ru.1->eK g ru.1 (aW g ru) z=g z:=λz n=>az n;unfold cO at f;obtain⟨f1,f2⟩:=h_.mp f;have em:∀p∈ru.2,Em aa p:=λp hp=>by
  obtain⟨n,en⟩:=mX.mp (gC.mp f1 p hp);exact(j p n en).2.2
 have bd:=B.2 ru m em;have sb:=A0 j B.1 ru.2;have s0:=jJ g (λz n e=>(j z n e).1) ru.2;have sz:0<=aW g ru/\aW g ru<=b ru.1:=by unfold aW;omega
 refine⟨λz n e=>?_,ni (λx _=>?_) hm ?_⟩
 .by_cases c:z=ru.1
  .rw [c,tZ] at e;cases e;rw [c];exact⟨sz.1,sz.2,.mk m em⟩
  rw [ne z c] at e;exact j z n e
 .by_cases c:x=ru.1
  .rw [c];unfold gm;rw [tZ];show (b ru.1 - aW g ru).toNat<=_;cases e:g ru.1 with
   | none=>show _<=(b ru.1).toNat+1;omega
   | some k =>
    rw [e] at f2;have lt:aW g ru > k:=dr (by simpa [bg] using f2);show _<=(b ru.1 - k).toNat;omega
  unfold gm;rw [ne x c];exact aH _
 unfold gm;rw [tZ];show (b ru.1 - aW g ru).toNat < _;cases e:g ru.1 with
 | none=>show _ < (b ru.1).toNat+1;omega
 | some k =>
  rw [e] at f2;have lt:aW g ru > k:=dr (by simpa [bg] using f2);show _ < (b ru.1 - k).toNat;omega
def Ak {aa:List aw}{b:Str->Int}(B:yq aa b)(g:G)(j:GJ aa b g):∃n,pU bg aa n g :=
 xV (r:=λg' g=>fq (gm b g') (aa.map (·.1)) < fq (gm b g) (aa.map (·.1))) (λ_ _ _ h k=>me h k) (sG B) ((InvImage.wf (λg:G=>fq (gm b g) (aa.map λx:aw=>x.1)) Nat.lt_wfRel.wf).apply g) j
def xP {aa:List aw}{b:Str->Int}(B:yq aa b){g g':G}(h:eJ bg aa g g')(j:GJ aa b g):GJ aa b g':=h.keep (λg ru a m f=>(sG B g ru a m f).1) j
end M11
namespace L2
open PySem
def k0 {K:a9}{H:Hp}{p D:Addr}{zs:List Str}{σ:St}{v:V}{x:Str}{Qp:Hp->Prop}(hp:aI K H p (zs.map V.str))(hz:zs.length<=10000)(hD:H D=none)
  (q:∀ts H2,aC H H2->H2 D=some (.lst (ts.map V.ref))->Paired (λt h=>aQ K H2 t [.str h,v]) ts zs->Qp H2) :
  ∃W:Nat->Nat->List V->St->Hp->Prop,(∃m,W 0 m [] (eU [x] [] σ) (upd H D (.lst []))) /\
 ∀i m ys σ' H,W i m ys σ' H->((j_ K p).stop i H/\Qp H)\/((j_ K p).go i H/\∃m',m' < m/\∀x H',(j_ K p).m_ i H x H'->dQ 0 x σ' H' λσ2 H2=>ix σ2 H2 λb H3 =>
  if b=true then tQ (gE (gX 0) (gE (tC v) rC)) σ2 H3 λy H4=>H4 D=some (.lst ys)/\ys.length < sizeLine/\W (i+1) m' (ys++[y]) σ2 (upd H4 D (.lst (ys++[y]))) else W (i+1) m' ys σ2 H3):=by
 refine cE (xs:=zs.map V.str) (λi ys σ2 H2=>∃ts:List Addr,ys=ts.map V.ref/\ts.length=i/\Paired (λt h=>aQ K H2 t [.str h,v]) ts (zs.take i)/\(∃y0,σ2=[y0])/\aC H H2/\H2 D=some (.lst ys))
  ⟨[],rfl,rfl,.nil,⟨none,rfl⟩,af hD _,ae⟩ (λi ys σ2 H2 _ h=>?_) (λi x ys σ2 H2 ex h=>?_) (λys σ2 H2 h=>?_)
 .obtain⟨_,_,_,_,_,sm,_⟩:=h;exact sm.seq hp
 .obtain⟨ts,rfl,ht,pI,⟨y0,rfl⟩,sm,hd⟩:=h;rw [bh] at ex;obtain⟨z,ez,rfl⟩:=cq.mp ex;have li:=(bq.mp ez).1;refine goN (yB ?_);refine⟨_,rfl,kc,λt ji=>⟨?_,bL (by rw [au];omega),ts++[t],?_,?_,?_,⟨_,rfl⟩,?_,ae⟩⟩
  .rw [aj (ay hd ji)];exact hd
  .rw [bG];rfl
  .rw [bM,ht];rfl
  .rw [cS,ez];have jh:upd H2 t (.tup [.str z,v]) D=some (.lst (ts.map V.ref)):=by rw [aj (ay hd ji)];exact hd
   exact gR (Paired.dJ pI λt' h' z=>aT jh ((af ji _).tup z)) (aT jh (aQ.of ae))
  intro b o hb;rw [aj (λz=>by rw [z,hD] at hb;cases hb)];exact af ji _ _ _ (sm b o hb)
 obtain⟨ts,rfl,ht,pI,_,sm,hd⟩:=h;rw [au,cR] at pI;exact q ts H2 sm hd pI
def Tab.same {T:Addr}{pos:Pos}{qual:Str}{H H':Hp}(h:Tab T pos qual H)(s:aC H H'):Tab T pos qual H':=by
 obtain⟨ps,a,b,c⟩:=h;refine⟨ps,s _ _ a,b,c.imp id ?_⟩;rintro⟨c',e,g⟩;exact⟨c',e,s _ _ g⟩
def Tab.JR {T d:Addr}{pos:Pos}{qual:Str}{H H':Hp}{kvs:List (aS×V)}(h:Tab T pos qual H)(s:d0 d H H')(hd:H d=some (.dK kvs)):Tab T pos qual H':=by
 obtain⟨ps,a,b,c⟩:=h;refine⟨ps,s _ _ (λz=>by rw [z,hd] at a;cases a) a,b,c.imp id ?_⟩;rintro⟨c',e,g⟩;exact⟨c',e,s _ _ (λz=>by rw [z,hd] at g;cases g) g⟩
structure ym (K:a9)(x qual:Str)(st:Stmt)(f:Addr)(fd:FuncData)(T:Addr):Prop where
 ex:∃(oc:Value)(od:Option Addr)(kV doc pm:Value)(an:Option Addr)(c:Addr)(ct:Value)(xu:Array (Option Value)),
  fd=PySem.W.fnOf x qual (dF st) (cx st) (av st) .none kV doc pm an (.ref c) ct/\K.lookup f=some ⟨oc,od,.func fd,xu⟩/\PySem.W.codeIn K (.ref c) qual=true/\PySem.W.codeHdIn K c T=true
 kp:PySem.W.keepIn K (.ref f)=true
def ym.ok {P:Program}{w:World}{K:a9}{mg:Str->Option Value}{base:Heap}{x qual:Str}{st:Stmt}{f:Addr}{fd:FuncData}{T:Addr}{N ps:List Str}{k:Nat}{sp:Sp}(F:ym K x qual st f fd T)(S:aK N ps (av st))(len:∀vs H Q E,sp vs H Q E->vs.length=ps.length)
  (jA:∀(c:Addr)(A:Around)(outer:List Env)(s:Shared)(H:Hp)(vs:List V)(Q:VK)(E:XK),PySem.W.codeHdIn K c T=true->fj k (A.deeper (PyProof.Rows.envOfC qual (av st) s.heap.objs.size f (.ref c)))->sp vs H Q E ->
   ∃t,AJ (pQ fk P w K mg base N qual (av st) f (.ref c) A outer s H E).CB (cx st) t/\t { nx:=λ_ H'=>Q .d7 H',rt:=Q } (start N vs) H):bO P w K mg base fk (k+1) f fd ps sp:=by
 obtain⟨oc,od,kV,doc,pm,an,c,ct,xu,rfl,lk,wk,hC⟩:=F.ex;refine Gs lk wk S len λA outer s H vs Q E hr yy=>?_;obtain⟨t,h,q⟩:=jA c A outer s H vs Q E hC hr yy;exact⟨t,h.CB,q⟩
theorem ux {v:V}:∀(hs:List Str)(bA:List (aS×V)) (as:List Str),bA.map (·.1)=as.map Sum.inr->(cK (hs.map λh=>((Sum.inr h:aS),v)) bA).map (·.1)=(M11.tN as hs).map Sum.inr
 | [],bA,as,e=>e
 | h::r,bA,as,e=>ux r (bS bA (Sum.inr h) v) (M11.gP as h) (gL.kX e h)
theorem kM {v:V}:∀(hs:List Str)(bA:List (aS×V))(z:Str),bB (cK (hs.map λh=>((Sum.inr h:aS),v)) bA) (Sum.inr z)=if z∈hs then some v else bB bA (Sum.inr z)
 | [],bA,z=>by simp [cK]
 | h::r,bA,z=>by
  have ih:=kM (v:=v) r (bS bA (Sum.inr h) v) z;show bB (cK (r.map λh=>((Sum.inr h:aS),v)) (bS bA (Sum.inr h) v)) (Sum.inr z)=_;rw [ih,wV];by_cases c:z∈r
  .rw [ax c,ax (du _ c)]
  rw [az c];by_cases c2:z=h
  .rw [ax (by rw [c2]),ax (by rw [c2];exact cV)]
  rw [az (λe=>c2 (md e)),az (λe=>(cA.mp e).elim c2 c)]
end L2
namespace gL
open PySem L2 M11
def PD:List Stmt->Arguments×Expr×Scope×Pos
 | [.Return (some (.Call _ [_,_,.Lambda p b s pos] _ _)) _]=>(p,b,s,pos)
 | _=>(⟨[],[],none,[],[],none,[]⟩,.Constant .none 0 ⟨0,0,0,0⟩,av rQ,⟨0,0,0,0⟩)
abbrev sf:=PD (cx rQ)
abbrev Aa:=PD (cx vM)
abbrev yw:Str := "least_sizes" ++ ".<locals>." ++ "<lambda>"
abbrev Kc:Str := "greatest_empty_sizes" ++ ".<locals>." ++ "<lambda>"
def Ll:aK ["size","known"] ["size","known"] sf.2.2.1:=ir rfl rfl rfl rfl nofun
def Lm:aK ["size","known"] ["size","known"] Aa.2.2.1:=ir rfl rfl rfl rfl nofun
section
def zR (F:g_ K "settled_sizes" "settled_sizes" nF f fd)(T:Txt mg):bO P w K mg base fk 2 f fd ["rules","sizes","better"] (iI K yw sf.1 sf.2.1 sf.2.2.1 M11.bl) :=
 uv F T Ll (λpm gA c' us hl=>match us,hl with | [_,_],_=>rfl) (λ_ _ _ _ _ _=>eQ nV (pv 0) (pv 1) (bu _)) (λa b H Q h=>⟨_,rfl,_,rfl,_,_,rfl,rfl,h⟩)
def zS (F:g_ K "settled_sizes" "settled_sizes" nF f fd)(T:Txt mg):bO P w K mg base fk 2 f fd ["rules","sizes","better"] (iI K Kc Aa.1 Aa.2.1 Aa.2.2.1 M11.bg) :=
 uv F T Lm (λpm gA c' us hl=>match us,hl with | [_,_],_=>rfl) (λ_ _ _ _ _ _=>eQ rZ (pv 0) (pv 1) (bu _)) (λa b H Q h=>⟨_,rfl,_,rfl,_,_,rfl,rfl,h⟩)
def yC (aa:List aw):G:=λz=>if z∈tK (hd aa) [] (aa.flatMap (·.2)) then some 0 else none
def qC (K:a9)(T1:Addr):Sp:=λvs H Q _=>∃(R:Addr)(rs:List Addr)(aa:List aw),vs=[.ref R]/\aI K H R (rs.map V.ref)/\bI K H rs aa/\aa.length<=1000/\(∀ru∈aa,ru.2.length<=8)/\Tab T1 sf.2.2.2 yw H /\
 ∀(d:Addr)(kvs:List (aS×V)) (ks:List Str)(g:G)(H':Hp),H d=none->d0 T1 H H'->Tab T1 sf.2.2.2 yw H'->H' d=some (.dK kvs)->kvs.map (·.1)=ks.map Sum.inr->(∀z,bB kvs (Sum.inr z)=(g z).map V.int)->eJ M11.bl aa (yC aa) g->i_ M11.bl aa g->kvs.length<=20000->Q (.ref d) H'
def Ii:aK ["rules"] ["rules"] (av rQ):=ir rfl rfl rfl rfl nofun
def Fu {T1:Addr}(F:ym K "least_sizes" "least_sizes" rQ f fd T1)(T:Txt mg)(hB:tJ mg base)(GW:aB P w K mg base 1 "words_in" ["rules"] (A5 K))
  (GS:aB P w K mg base 2 "settled_sizes" ["rules","sizes","better"] (iI K yw sf.1 sf.2.1 sf.2.2.1 M11.bl)):bO P w K mg base fk 3 f fd ["rules"] (qC K T1):=by
 refine F.ok Ii (λvs H Q E h=>?_) (λc A outer s H vs Q E hC hr h=>?_)
 .obtain⟨R,rs,aa,rfl,_⟩:=h;rfl
 obtain⟨R,rs,aa,rfl,hR,b_,br,h8,hT,q⟩:=h;refine⟨_,ak (aL (a8 GS hr rfl (ab (pv 0) (ab (bE (dD rfl) rfl T.yG eZ (ab
  (bF ["word"] [] rfl (aZ (a8 (GW.mono (by decide:1<=2)) hr rfl (ab (pv 0) ah))) (bp rfl rfl) nofun rfl nofun
   (λ_ _ _ _ _=>aq (i:=0) (show (["word"]:List Str).Nodup by decide +kernel) rfl (bx rfl)) (λ_ _ _ _ _=>bY)
   (λ_ _ _ _ _=>bD (ab (pv 0) (ab ao ah)))) ah)) (ab (E_ (T:=T1) rfl hC hB nofun) ah))))),?_⟩
 dsimp only [AA];refine⟨_,rfl,_,rfl,R,rs,aa,rfl,hR,b_,br,h8,λD1 H1 f1 s1 e1=>?_⟩;have lw:(tK (hd aa) [] (aa.flatMap (·.2))).length<=8000:=by
  have h1:=vm (hd aa) (aa.flatMap (·.2)) [];have h2:=jC aa 1000 br h8;simp only [iV] at h1;omega
 refine⟨D1,rfl,⟨_,aI.of e1⟩,λD2 i9=>k0 (aI.of e1) ∅ i9 λts H2 s2 e2 p2=>?_⟩;have kp:Paired (λt (kv:aS×V)=>aQ K H2 t [kV kv.1,kv.2]) ts ((tK (hd aa) [] (aa.flatMap (·.2))).map λh=>((Sum.inr h:aS),V.int 0)):=cv p2 λ_ _ z=>z;refine⟨D2,ts,_,rfl,e2,kp,λd hd2=>?_⟩;have k1:=ux (v:=.int 0) (tK (hd aa) [] (aa.flatMap (·.2))) [] [] rfl;have k2:∀z,bB (cK ((tK (hd aa) [] (aa.flatMap (·.2))).map λh=>((Sum.inr h:aS),V.int 0)) []) (Sum.inr z)=(yC aa z).map V.int:=λz=>by
  rw [kM];unfold yC
  split <;> rfl
 have lk:=hV (tK (hd aa) [] (aa.flatMap (·.2))) [];simp only [iV] at lk;generalize cK ((tK (hd aa) [] (aa.flatMap (·.2))).map λh=>((Sum.inr h:aS),V.int 0)) []=PL at k1 k2;have s3:=(s1.trans s2).trans (af hd2 (.dK PL));have e3:upd H2 d (.dK PL) d=some (.dK PL):=ae;have yE:H d=none:=(s1.trans s2).free hd2;generalize upd H2 d (.dK PL)=H3 at s3 e3;refine⟨hT.same s3,λfl c' gA H4 s4 t4 ffl e4 Wo=>?_⟩;have nT:d≠T1:=λz=>by
  obtain⟨ps,a,_⟩:=hT.same s3;rw [<-z,e3] at a;cases a
 have DP:=s4 d _ nT e3;have Uu:∀{a xs},aQ K H a xs->aQ K H4 a xs:=λ{a xs} h=>by
  obtain⟨ps,b,_⟩:=hT;rcases h with (h | ⟨u,h⟩) | h
  .exact .inl (.inl (s4 _ _ (λz=>by rw [z,b] at h;cases h) (s3 _ _ h)))
  .exact .inl (.inr ⟨u,s4 _ _ (λz=>by rw [z,b] at h;cases h) (s3 _ _ h)⟩)
  exact .inr h
 have Uv:∀{a xs},aI K H a xs->aI K H4 a xs:=λ{a xs} h=>by
  obtain⟨ps,b,_⟩:=hT;rcases h with (h | ⟨u,h⟩) | h
  .exact .inl (.inl (s4 _ _ (λz=>by rw [z,b] at h;cases h) (s3 _ _ h)))
  .exact .inl (.inr ⟨u,s4 _ _ (λz=>by rw [z,b] at h;cases h) (s3 _ _ h)⟩)
  exact .inr h
 refine⟨R,rs,aa,d,fl,c',_,gA,PL,_,yC aa,rfl,Uv hR,b_.keep λ_ _ z=>Uu z,br,h8,DP,k1,pP _ lL,∅,k2,Ac aa _ λz n e=>?_,e4,Wo,λmD PM g' H5 s5 e5 k5 v5 st se Yr=>?_⟩
 .unfold yC at e
  split at e
  .cases e;exact oF _
  cases e
 refine q d mD PM g' H5 yE (λb o n hb=>s5 b o (λz=>?_) (s4 b o n (s3 b o hb))) (t4.JR s5 DP) e5 k5 v5 st se Yr;rw [z,yE] at hb;cases hb
def vw (K:a9)(T2:Addr):Sp:=λvs H Q _=>∃(R:Addr)(rs:List Addr)(aa:List aw)(b:Str->Int),vs=[.ref R]/\aI K H R (rs.map V.ref)/\bI K H rs aa/\aa.length<=1000/\(∀ru∈aa,ru.2.length<=8)/\yq aa b/\Tab T2 Aa.2.2.2 Kc H /\
 ∀(d:Addr)(kvs:List (aS×V)) (ks:List Str)(g:G)(H':Hp),H d=none->d0 T2 H H'->Tab T2 Aa.2.2.2 Kc H'->H' d=some (.dK kvs)->kvs.map (·.1)=ks.map Sum.inr->(∀z,bB kvs (Sum.inr z)=(g z).map V.int)->GJ aa b g->eJ M11.bg aa (λ_=>none) g->i_ M11.bg aa g->Q (.ref d) H'
def Il:aK ["rules"] ["rules"] (av vM):=ir rfl rfl rfl rfl nofun
def Fw {T2:Addr}(F:ym K "greatest_empty_sizes" "greatest_empty_sizes" vM f fd T2)(hB:tJ mg base)
  (GS:aB P w K mg base 2 "settled_sizes" ["rules","sizes","better"] (iI K Kc Aa.1 Aa.2.1 Aa.2.2.1 M11.bg)):bO P w K mg base fk 3 f fd ["rules"] (vw K T2):=by
 refine F.ok Il (λvs H Q E h=>?_) (λc A outer s H vs Q E hC hr h=>?_)
 .obtain⟨R,rs,aa,b,rfl,_⟩:=h;rfl
 obtain⟨R,rs,aa,b,rfl,hR,b_,br,h8,Zg,hT,q⟩:=h;refine⟨_,ak (aL (a8 GS hr rfl (ab (pv 0) (ab ij (ab (E_ (T:=T2) rfl hC hB nofun) ah))))),?_⟩;refine⟨_,rfl,λd yE=>?_⟩;have s3:=af yE (.dK []);have e3:upd H d (.dK []) d=some (.dK []):=ae;generalize upd H d (.dK [])=H3 at s3 e3;refine⟨hT.same s3,λfl c' gA H4 s4 t4 ffl e4 Wo=>?_⟩;have nT:d≠T2:=λz=>by
  obtain⟨ps,a,_⟩:=hT.same s3;rw [<-z,e3] at a;cases a
 have DP:=s4 d _ nT e3;have Uu:∀{a xs},aQ K H a xs->aQ K H4 a xs:=λ{a xs} h=>by
  obtain⟨ps,b,_⟩:=hT;rcases h with (h | ⟨u,h⟩) | h
  .exact .inl (.inl (s4 _ _ (λz=>by rw [z,b] at h;cases h) (s3 _ _ h)))
  .exact .inl (.inr ⟨u,s4 _ _ (λz=>by rw [z,b] at h;cases h) (s3 _ _ h)⟩)
  exact .inr h
 have Uv:∀{a xs},aI K H a xs->aI K H4 a xs:=λ{a xs} h=>by
  obtain⟨ps,b,_⟩:=hT;rcases h with (h | ⟨u,h⟩) | h
  .exact .inl (.inl (s4 _ _ (λz=>by rw [z,b] at h;cases h) (s3 _ _ h)))
  .exact .inl (.inr ⟨u,s4 _ _ (λz=>by rw [z,b] at h;cases h) (s3 _ _ h)⟩)
  exact .inr h
 have j0:GJ aa b (λ_=>none):=λz n e=>nomatch e;refine⟨R,rs,aa,d,fl,c',_,gA,[],[],λ_=>none,rfl,Uv hR,b_.keep λ_ _ z=>Uu z,br,h8,DP,rfl,lL,gB _,λ_=>rfl,Ak Zg _ j0,e4,Wo,λmD PM g' H5 s5 e5 k5 v5 st se Yr=>?_⟩;refine q d mD PM g' H5 yE (λb o n hb=>s5 b o (λz=>?_) (s4 b o n (s3 b o hb))) (t4.JR s5 DP) e5 k5 v5 (xP Zg st j0) st se;rw [z,yE] at hb;cases hb
end
end gL
namespace L2
open PySem PySem.Spec PyProof.Rows
def M3 (o:Obj):Nat:=match o.data with
 | .dict _ ep=>ep
 | _=>0
def Rm (d:Addr)(o:Obj)(kvs:List (aS×V)):It :=
 ⟨λi H=>H d=some (.kj o (.dK kvs))/\i < kvs.length,λi H x H'=>H'=H/\∃kv,kvs[i]?=some kv/\x=kV kv.1,λi H=>H d=some (.kj o (.dK kvs))/\kvs.length<=i⟩
def Ar {X:Cx}{ag:List (Addr×Obj)}{σ:St}{H:Hp}{s:Shared}{d:Addr}{o:Obj}{kvs:List (aS×V)}(I:Inv X ag σ H s)(e:H d=some (.kj o (.dK kvs))) :
  (d == sysModules)=false/\∃vs,KV kvs vs/\s.heap.DictAt (bj X.prog X.w) d vs (M3 o):=by
 obtain⟨ho,hz,hs,vs,r,o',es,ep,h1,h2,h3,h4⟩:=(show cH X.prog X.w H s.heap d (.kj o (.dK kvs)) from I.b8 d _ e);rw [ho] at h1;cases h1;refine⟨hs,vs,r,o,es,ho,h2,?_,h4⟩;unfold M3;rw [h3]
def B7 {P:Program}{w:World}{K:a9}{tg:Expr}(d it:Addr)(o:Obj)(kvs:List (aS×V)):Turn P w K tg (Rm d o kvs) [it] it (λi h=>h.IsKeyIter it d i kvs.length (M3 o)) where
 mem:=by simp
 obj:=λi h st b hb=>by
  have e:b=it:=by simpa using hb
  subst e;obtain⟨o,e,c,d⟩:=st;exact⟨o,e,λv z=>by rw [d] at z;cases z⟩
 keep:=λi h h' st k=>let ⟨o,e,r⟩:=st;⟨o,k it (by simp) o e,r⟩
 item:=by
  intro X hP hw hK hc i ag s σ H E I hf st hg;subst hP hw hK;obtain⟨hq,hi⟩:=hg;obtain⟨hs,vs,r,da⟩:=Ar I hq;have l:=r.length;obtain⟨kv,Sk⟩:∃kv,kvs[i]?=some kv:=⟨kvs[i],cf hi⟩;obtain⟨q,eq⟩:∃q,vs[i]?=some q:=⟨vs[i]'∅,cf ∅⟩;have ek:kv.1=q.1:=by
   have:=congrArg (λl:List aS=>l[i]?) r.keys;simp only [bh,Sk,eq] at this;exact gS this
  obtain⟨f0,f1,f2,f3,f4,f5⟩:=hf it (by simp);rw [l] at st;refine wpAny_pyNext_dict_item (k:=q.1) (v:=q.2) st da eq λkey h' hk wK sb=>?_;have I1:Inv X ag σ H { s with heap:=h' }:=I.turned (t':=s.toks) (λb o hb e=>(sb.2 b hb).trans e) f0 f1 f3 f4 f5;obtain⟨o2,e,c,dd⟩:=id wK;rw [<-l] at wK;exact⟨key,rfl,BA (s:={ s with heap:=h' }) e c dd nofun ⟨kV kv.1,H,I1,by rw [ek];exact Kj hk,⟨rfl,kv,Sk,rfl⟩,wK,λb hb=>(hf b hb).1⟩⟩
 done:=by
  intro X hP hw hK hc i ag s σ H E I hf st hg;subst hP hw hK;obtain⟨hq,hi⟩:=hg;obtain⟨hs,vs,r,da⟩:=Ar I hq;have l:=r.length;obtain⟨f0,f1,f2,f3,f4,f5⟩:=hf it (by simp);rw [l] at st;exact wpAny_pyNext_dict_end (I.ok.hd hc) st da (vc ∅) λh' eb=>⟨rfl,I.turned (t':=s.toks) (λb o hb e=>eb b o hb e) f0 f1 f3 f4 f5⟩
 self:=λ_ _ _ _ _ st h=>wpAny_pyIter_keyiter st h
def PZ (tl:TE):TI:=λσ H R=>tl σ H λx H1=>∃d kvs,x=.ref d/\H1 d=some (.dK kvs)/\∀o,R (Rm d o kvs) (upd H1 d (.kj o (.dK kvs)))
def Br {X:Cx}{tg l:Expr}{tl:TE}(hl:PE X l tl):PI X tg l (PZ tl):=by
 intro ag s σ H R I h;refine cJ (hl ag s σ H _ I h) λv s1 bz=>?_;obtain⟨x,H1,I1,r1,q1⟩:=bz;obtain⟨d,kvs,e,hd,q⟩:=q1;subst e;cases r1;obtain⟨hz,hs,vs,r,o,es,ep,h1,h2⟩:=(show cH X.prog X.w H1 s1.heap d (.dK kvs) from I1.b8 d _ hd);have I2:Inv X ag σ (upd H1 d (.kj o (.dK kvs))) { s1 with heap:=s1.heap,toks:=s1.toks }:=I1.write (x:=d) (e:=d) (by rw [hd];exact True.intro) (.inl rfl) (λb u _ e=>e) ⟨o,h1⟩ ⟨h1,hz,hs,vs,r,o,es,ep,h1,h2⟩;have e2:upd H1 d (.kj o (.dK kvs)) d=some (.kj o (.dK kvs)):=ae;obtain⟨_,Ow,r2,da⟩:=Ar I2 e2;have q2:=q o;generalize upd H1 d (.kj o (.dK kvs))=H2 at I2 e2 q2;refine wpAny_pyIter_dict hs da ?_;refine⟨s1.heap.objs.size,[s1.heap.objs.size],_,_,H2,rfl,I2.kept (t':=s1.toks) λb o e=>bJ _ e,B7 d _ o kvs,⟨_,cW _ rfl,rfl,by rw [r2.length];rfl⟩,λb hb=>?_,q2⟩;have e:b=s1.heap.objs.size:=by simpa using hb
 subst e;exact I2.wm (aH _) (I2.b8.fresh (aH _))
section
variable {d D:Addr}{o:Obj}{kvs:List (aS×V)}{ts:List Str}{js:List (Nat×Str)}{g:TG}{tif:TT}{te:TE}{R:Hp->Prop}{σ:St}{H:Hp}
def s_ (Pv:Nat->List V->St->Hp->Prop)(h0:Pv 0 [] (eU ts js σ) (upd H D (.lst [])))(hl:∀i ys σ H,i<=kvs.length->Pv i ys σ H->H d=some (.kj o (.dK kvs)))
  (hs:∀i kv ys σ H,kvs[i]?=some kv->Pv i ys σ H->g (kV kv.1) σ H λσ2 H2=>tif σ2 H2 λb H3=>if b=true then te σ2 H3 λy H4=>H4 D=some (.lst ys)/\ys.length < sizeLine/\Pv (i+1) (ys++[y]) σ2 (upd H4 D (.lst (ys++[y]))) else Pv (i+1) ys σ2 H3)
  (hd:∀ys σ H,Pv kvs.length ys σ H->R H) :
  ∃W:Nat->Nat->List V->St->Hp->Prop,(∃m,W 0 m [] (eU ts js σ) (upd H D (.lst []))) /\
 ∀i m ys σ' H,W i m ys σ' H->((Rm d o kvs).stop i H/\R H)\/((Rm d o kvs).go i H/\∃m',m' < m/\∀x H',(Rm d o kvs).m_ i H x H'->g x σ' H' λσ2 H2=>tif σ2 H2 λb H3 =>
  if b=true then te σ2 H3 λy H4=>H4 D=some (.lst ys)/\ys.length < sizeLine/\W (i+1) m' (ys++[y]) σ2 (upd H4 D (.lst (ys++[y]))) else W (i+1) m' ys σ2 H3):=by
 refine⟨λi m ys σ H=>m=kvs.length - i/\i<=kvs.length/\Pv i ys σ H,⟨kvs.length,by simp,gB _,h0⟩,?_⟩;rintro i m ys σ' H ⟨rfl,hi,p⟩;have q:=hl i ys σ' H hi p;by_cases ki:i < kvs.length
 .refine .inr ⟨⟨q,ki⟩,kvs.length - (i+1),∅,λx H' y=>?_⟩;obtain⟨e,kv,Sk,rfl⟩:=y;subst e;have z:=hs i kv ys σ' _ Sk p;have h1:(i+1<=kvs.length)=True:=eq_true ki;simp only [h1,true_and];exact z
 have e:i=kvs.length:=by omega
 subst e;exact .inl ⟨⟨q,aH _⟩,hd ys σ' H p⟩
end
def uI {A:Around}{s:Shared}{l b:Addr}{ys xs:List Int}{aU cI:List Value}(r:a_ (ys.map V.int) aU)(r2:a_ (xs.map V.int) cI)(hl:s.heap.IsList l aU.toArray)(hb:s.heap.IsList b cI.toArray)(ne:l≠b)(hu:A.units < cLine) :
  SeqAt.EqAt A s (.ref l) (.ref b) (decide (ys=xs)):=by
 have l1:=r.length;have l2:=r2.length;rw [au] at l1 l2;by_cases br:ys.length=xs.length
 .have h:=SeqAt.RcAt.lists (A:=A) (e:=λj=>decide (ys[j]?=xs[j]?)) hl hb (by simp only [bR];omega) hu λj h1 h2=>?_
  .have e:((List.range aU.toArray.size).all λj=>decide (ys[j]?=xs[j]?))=decide (ys=xs):=by
    rw [mP,gC,decide_eq_true_iff];constructor
    .intro h;refine List.ext_getElem? λj=>?_;by_cases c:j < ys.length
     .exact dr (h j (kK.mpr (by simp only [bR];omega)))
     rw [vc ∅,vc ∅]
    intro h j _;rw [h];exact bW rfl
   rw [e] at h;exact .of_refs ne h
  have k1:j < aU.length:=by simpa using h1
  have k2:j < cI.length:=by simpa using h2
  have e1:ys[j]?=some (ys[j]'∅):=cf ∅;have e2:xs[j]?=some (xs[j]'∅):=cf ∅;obtain⟨u1,f1,q1⟩:=r.get (show (ys.map V.int)[j]?=some (.int (ys[j]'∅)) by rw [bh,e1];rfl);obtain⟨u2,f2,q2⟩:=r2.get (show (xs.map V.int)[j]?=some (.int (xs[j]'∅)) by rw [bh,e2];rfl);have g1:aU.toArray[j]=u1:=by
   have:=(bq.mp f1).2;simpa using this
  have g2:cI.toArray[j]=u2:=by
   have:=(bq.mp f2).2;simpa using this
  rw [g1,g2,e1,e2];obtain⟨t1,rfl⟩:=q1;obtain⟨t2,rfl⟩:=q2;have:=SeqAt.EqAt.int_int (A:=A.in1) (s:=s) (ys[j]'∅) t1 (xs[j]'∅) t2;have e3:(ys[j]'∅ == xs[j]'∅)=decide (some (ys[j]'∅)=some (xs[j]'∅)):=by
   rw [mP,beq_iff_eq,decide_eq_true_iff,Option.some.injEq]
  rw [e3] at this;exact this
 have h:=SeqAt.RcAt.lists_lengths (A:=A) hl hb (by simp only [bR,bne_iff_ne];omega) hu;rw [dq (λz=>br (by rw [z]))];exact .of_refs ne h
def Co {X:Cx}(hu:X.A.units+1 < cLine):jj X (compareOp .In) (λx y H Q=>∃t a l1 l2 xs ys zs,x=.ref a/\y=.ref t/\aQ X.K H t [.ref l1,.ref l2]/\aI X.K H a (List.map V.int xs)/\aI X.K H l1 (List.map V.int ys)/\aI X.K H l2 (List.map V.int zs)/\l1≠a/\l2≠a /\
  Q (.bl (decide (ys=xs) || decide (zs=xs))) H):=by
 intro ag s σ H x y v u Q I rx ry h;obtain⟨t,a,l1,l2,xs,ys,zs,rfl,rfl,ht,ha,h1,h2,n1,n2,q⟩:=h;cases rx;cases ry;obtain⟨aU,r,pl,hz⟩:=I.tuple ht;obtain⟨u1,u2,rfl,q1,q2⟩:=vals2 r;cases (show u1=Value.ref l1 from q1);cases (show u2=Value.ref l2 from q2);obtain⟨xa,ra,pa,za⟩:=I.list ha;obtain⟨x1,r1,p1,z1⟩:=I.list h1;obtain⟨x2,r2,p2,z2⟩:=I.list h2;have e1:=uI (A:=X.A.in1) (s:=s) r1 ra p1.isList pa.isList n1 hu;have e2:=uI (A:=X.A.in1) (s:=s) r2 ra p2.isList pa.isList n2 hu;refine SeqAt.in_tupleAt (λy=>if y == .ref l1 then decide (ys=xs) else decide (zs=xs)) (show s.heap.IsTuple t #[.ref l1,.ref l2] from pl) (λy hy=>?_) ?_
 .have U0:y=.ref l1\/y=.ref l2:=by simpa using hy
  by_cases c:y=.ref l1
  .subst c;rw [ax (oU _)];exact e1
  rcases U0 with z | z
  .exact absurd z c
  subst z;rw [az (λq=>c (eq_of_beq q))];exact e2
 refine⟨.bl (decide (ys=xs) || decide (zs=xs)),H,I,?_,q⟩
 show Value.bool _=Value.bool _
 congr 1
 by_cases c:l2=l1
 .subst c;have e3:=I.sg h1 h2;have e4:ys=zs:=by
   have:=congrArg (List.map λv:V=>match v with | .int n=>n | _=>0) e3
   simpa [iG,Function.comp_def] using this
  subst e4;simp
 simp [c]
end L2
namespace M11
open PySem L2
def C7 (b:Str->Bool) (zs:List Str) (i:Nat):List Int:=((List.range i).filter λj=>!(zs[j]?.elim true b)).map λj:Nat=>(j:Int)
def xR (b:Str->Bool) (zs:List Str) (i:Nat){z:Str}(e:zs[i]?=some z):C7 b zs (i+1)=C7 b zs i++(if b z=true then [] else [(i:Int)]):=by
 unfold C7;rw [List.range_succ,oY,bG]
 congr 1
 by_cases h:b z=true
 .rw [ax h];simp [e,h]
 rw [az h];simp [e,h]
def Jj (b:Str->Bool) (zs:List Str) (i:Nat):(C7 b zs i).length<=i:=by
 unfold C7;rw [au];have:=rq (λj=>!(zs[j]?.elim true b)) (List.range i);rw [u3] at this;exact this
def IZ (b:Str->Bool) (zs:List Str) (j:Nat):Bool:=decide ([]=C7 b zs zs.length) || decide ([(j:Int)]=C7 b zs zs.length)
def Oj (aa:List aw) (names:List Str)(b:Str->Bool)(n:Str) (k j:Nat):Prop:=∃ru z,aa[k]?=some ru/\ru.1=n/\ru.2[j]?=some z/\z∈names/\IZ b ru.2 j=true
end M11
namespace L2
open PySem M11
def jF (p:Str×Addr):aS×V:=(Sum.inr p.1,.ref p.2)
theorem ot:∀(ps bA:List (aS×V)),((bA++ps).map (·.1)).Nodup->cK ps bA=bA++ps
 | [],bA,_=>by simp [cK]
 | p::r,bA,h=>by
  have n:bB bA p.1=none:=by
   cases e:bB bA p.1 with
   | none=>rfl
   | some v =>
    have hm:=(fg bA p.1).mp (by rw [e];rfl);rw [bG,cu] at h;exact absurd rfl ((kx.mp h).2.2 p.1 hm p.1 cV)
  show cK r (bS bA p.1 p.2)=_;rw [xq p.2 n,ot r (bA++[(p.1,p.2)]) (by rw [ku];exact h),ku];rfl
theorem gW:∀(ps:List (Str×Addr)),(ps.map (·.1)).Nodup->∀p∈ps,bB (ps.map jF) (Sum.inr p.1)=some (.ref p.2)
 | q::r,h,p,hp=>by
  rw [cu] at h ⊢;rcases cA.mp hp with z | z
  .rw [z];exact eX rfl
  rw [eY,gW r (mS.mp h).2 p z];intro e;have e':q.1=p.1:=md e;exact(mS.mp h).1 (by rw [e'];exact jZ z)
def nX (ps:List (Str×Addr)):(ps.map jF).map (·.1)=(ps.map (·.1)).map Sum.inr:=by
 rw [iG,iG];rfl
def sZ {K:a9}{H:Hp}{p D:Addr}{zs:List Str}{σ:St}{x:Str}{Qp:Hp->Prop}(hp:aI K H p (zs.map V.str))(hz:zs.length<=10000)(hD:H D=none)
  (q:∀ts (ps:List (Str×Addr)) H2,aC H H2->H2 D=some (.lst (ts.map V.ref))->ps.map (·.1)=zs->Paired (λt (p:Str×Addr)=>aQ K H2 t [.str p.1,.ref p.2]) ts ps->(∀p∈ps,H2 p.2=some (.lst [])/\H p.2=none/\p.2≠D)->(ps.map (·.2)).Nodup->Qp H2) :
  ∃W:Nat->Nat->List V->St->Hp->Prop,(∃m,W 0 m [] (eU [x] [] σ) (upd H D (.lst []))) /\
 ∀i m ys σ' H,W i m ys σ' H->((j_ K p).stop i H/\Qp H)\/((j_ K p).go i H/\∃m',m' < m/\∀x H',(j_ K p).m_ i H x H'->dQ 0 x σ' H' λσ2 H2=>ix σ2 H2 λb H3 =>
  if b=true then tQ (gE (gX 0) (gE (OK rC) rC)) σ2 H3 λy H4=>H4 D=some (.lst ys)/\ys.length < sizeLine/\W (i+1) m' (ys++[y]) σ2 (upd H4 D (.lst (ys++[y]))) else W (i+1) m' ys σ2 H3):=by
 refine cE (xs:=zs.map V.str) (λi ys σ2 H2=>∃(ts:List Addr)(ps:List (Str×Addr)),ys=ts.map V.ref/\ts.length=i/\ps.map (·.1)=zs.take i/\Paired (λt (p:Str×Addr)=>aQ K H2 t [.str p.1,.ref p.2]) ts ps /\
   (∀p∈ps,H2 p.2=some (.lst [])/\H p.2=none/\p.2≠D)/\(ps.map (·.2)).Nodup/\(∃y0,σ2=[y0])/\aC H H2/\H2 D=some (.lst ys))
  ⟨[],[],rfl,rfl,rfl,.nil,by simp,by simp,⟨none,rfl⟩,af hD _,ae⟩ (λi ys σ2 H2 _ h=>?_) (λi x ys σ2 H2 ex h=>?_) (λys σ2 H2 h=>?_)
 .obtain⟨_,_,_,_,_,_,_,_,_,sm,_⟩:=h;exact sm.seq hp
 .obtain⟨ts,ps,rfl,ht,hm,pI,hl,hn,⟨y0,rfl⟩,sm,hd⟩:=h;rw [bh] at ex;obtain⟨z,ez,rfl⟩:=cq.mp ex;have li:=(bq.mp ez).1;refine goN (yB ?_);refine⟨_,rfl,o7,λl tV=>⟨kc,λt ji=>?_⟩⟩;have Mb:l≠D:=(ay hd tV).symm;have nt:t≠l:=λe=>by rw [e,ae] at ji;cases ji
  have P7:H2 t=none:=by rw [aj nt] at ji;exact ji
  have ntD:t≠D:=(ay hd P7).symm;have ke:aC H2 (upd (upd H2 l (.lst [])) t (.tup [.str z,.ref l])):=(af tV _).trans (af ji _);have jh:=ke _ _ hd;have el:upd (upd H2 l (.lst [])) t (.tup [.str z,.ref l]) l=some (.lst []):=by rw [aj nt.symm,ae]
  have et:aQ K (upd (upd H2 l (.lst [])) t (.tup [.str z,.ref l])) t [.str z,.ref l]:=aQ.of ae;generalize upd (upd H2 l (.lst [])) t (.tup [.str z,.ref l])=H4 at ke jh el et;refine⟨jh,bL (by rw [au];omega),ts++[t],ps++[(z,l)],by rw [bG];rfl,by rw [bM,ht];rfl,by rw [bG,hm,cS,ez];rfl,?_,?_,?_,⟨_,rfl⟩,?_,ae⟩
  .exact gR (Paired.dJ pI λt' h' z=>aT jh (ke.tup z)) (aT jh et)
  .intro p' n8;rcases cC.mp n8 with h | h
   .obtain⟨a1,a2,a3⟩:=hl p' h;exact⟨by rw [aj a3];exact ke _ _ a1,a2,a3⟩
   rw [bV.mp h];exact⟨by rw [aj Mb];exact el,sm.free tV,Mb⟩
  .rw [bG];refine kx.mpr ⟨hn,by simp,λa ha b hb e=>?_⟩;rw [oZ,bV] at hb;obtain⟨p',n8,rfl⟩:=cQ.mp ha;have:=(hl p' n8).1;rw [e,hb] at this;rw [show H2 l=none from tV] at this;cases this
  intro b o hb;rw [aj (λz=>by rw [z,hD] at hb;cases hb)];exact ke _ _ (sm b o hb)
 obtain⟨ts,ps,rfl,ht,hm,pI,hl,hn,_,sm,hd⟩:=h;rw [au,cR] at hm;exact q ts ps H2 sm hd hm pI hl hn
def yb {K:a9}{H:Hp}{p D d:Addr}{zs:List Str}{kvs:List (aS×V)}{σ:St}{js:List (Nat×Str)}{Qp:Hp->Prop}(hσ:eU ["place","part"] js σ=[none,none,aP d])(hp:aQ K H p (zs.map V.str))(hz:zs.length<=1000)
  (hd:H d=some (.dK kvs))(hD:H D=none)(q:∀H2,aC H H2->H2 D=some (.lst ((C7 (λz=>(bB kvs (Sum.inr z)).isSome) zs zs.length).map V.int))->Qp H2) :
  ∃W:Nat->Nat->List V->St->Hp->Prop,(∃m,W 0 m [] (eU ["place","part"] js σ) (upd H D (.lst []))) /\
 ∀i m ys σ' H,W i m ys σ' H->((tH K p).stop i H/\Qp H)\/((tH K p).go i H/\∃m',m' < m/\∀x H',(tH K p).m_ i H x H'->An K 2 (jB (dQ 0) (jB (dQ 1) C0)) x σ' H' λσ2 H2=>tB (AV (gX 1) (gX 2)) σ2 H2 λb H3 =>
  if b=true then gX 0 σ2 H3 λy H4=>H4 D=some (.lst ys)/\ys.length < sizeLine/\W (i+1) m' (ys++[y]) σ2 (upd H4 D (.lst (ys++[y]))) else W (i+1) m' ys σ2 H3):=by
 refine yc (xs:=zs.map V.str) (λi ys σ2 H2=>ys=(C7 (λz=>(bB kvs (Sum.inr z)).isSome) zs i).map V.int/\(∃y0 y1,σ2=[y0,y1,aP d])/\aC H H2/\H2 D=some (.lst ys))
  ⟨rfl,⟨none,none,hσ⟩,af hD _,ae⟩ (λi ys σ2 H2 _ h=>h.2.2.1.tup hp) (λi x ys σ2 H2 t ex h ht=>?_) (λys σ2 H2 h=>?_)
 .obtain⟨rfl,⟨y0,y1,rfl⟩,sm,hd2⟩:=h;rw [bh] at ex;obtain⟨z,ez,rfl⟩:=cq.mp ex;have li:=(bq.mp ez).1;have ke:=sm.trans (af ht (.tup [.int (i:Int),.str z]));have jh:upd H2 t (.tup [.int (i:Int),.str z]) D=some (.lst ((C7 (λz=>(bB kvs (Sum.inr z)).isSome) zs i).map V.int)):=by rw [aj (ay hd2 ht)];exact hd2
  have hv:aQ K (upd H2 t (.tup [.int (i:Int),.str z])) t [.int (i:Int),.str z]:=aQ.of ae;generalize upd H2 t (.tup [.int (i:Int),.str z])=H3 at ke jh hv;have fl:=Jj (λz=>(bB kvs (Sum.inr z)).isSome) zs i;refine⟨t,_,rfl,hv,rfl,_,_,rfl,_,_,rfl,rfl,?_⟩;refine⟨_,rfl,_,rfl,d,_,rfl,cz.k (k:=Sum.inr z) (ke _ _ hd),_,rfl,?_⟩;refine bZ (λc=>?_) (λc=>?_)
  .refine⟨_,rfl,jh,bL (by rw [au];omega),?_,⟨_,_,rfl⟩,?_,ae⟩
   .rw [xR _ zs i ez,az (λe=>by rw [e] at c;exact absurd c nofun),bG];rfl
   intro b o hb;rw [aj (λz=>by rw [z,hD] at hb;cases hb)];exact ke b o hb
  refine⟨?_,⟨_,_,rfl⟩,ke,jh⟩;rw [xR _ zs i ez,ax,iu];cases hq:(bB kvs (Sum.inr z)).isSome with
  | true=>rfl
  | false=>exact absurd (by rw [hq];rfl) c
 obtain⟨rfl,_,sm,hd2⟩:=h;rw [au] at hd2;exact q H2 sm hd2
open PySem PySem.Spec PyProof.Rows
def iA {X:Cx}{elt iter tg:Expr}{iy:Nat}{y:Str}{py OW:Pos}{ifs:List Expr}{scope:Scope}{pos:Pos}{wi:TI}{g:TG}{tif:TT}{te:TE}(ts:List Str)(js:List (Nat×Str))(hN:X.N.Nodup)(hiy:X.N[iy]?=some y)(hy:X.env.scope.names.lookup y=some .local)(hc:X.calm=true)(hi:PI X tg iter wi)
  (cp:JE X scope js)(jz:∀y∈scope.names,y.2≠.cell)(jy:scope.kind=.function)
  (Ah:∀y∈scope.names,y.2=.local->scope.names.lookup y.1=some .local)
  (hg:∀cl C s1 H1 fp,PG (sV X scope cl C s1 H1 (ts++js.map (·.2)) fp) tg g)
  (Vv:∀cl C s1 H1 fp,Dx (sV X scope cl C s1 H1 (ts++js.map (·.2)) fp) ifs tif)(he:∀cl C s1 H1 fp,PE (sV X scope cl C s1 H1 (ts++js.map (·.2)) fp) elt te)
  (hsw:swapsWith (.ListComp elt [⟨tg,iter,ifs,0⟩] scope pos) (some (.Name y py)) OW.line X.env=pure true:=by rfl)(hs:∀x,foldedSetIterable iter X.env x=pure x:=by intro _;rfl) :
  PS X (.Assign [.Name y py] (.ListComp elt [⟨tg,iter,ifs,0⟩] scope pos) OW) (OR (Ei wi ts js g tif te) (dQ iy)):=by
 intro ag s σ H DD I h;rw [exec_Assign_Name_used _ _ _ _ hsw];refine ar (wpAny_standAt (ar ?_));show wpAny _ _ (do let _ <-comprehension (.ListComp elt [⟨tg,iter,ifs,0⟩] scope pos) scope X.env _ (newList []) false (eval iter X.env) (some (assign (.Name y py) X.env))) _ _ s;obtain⟨cl,pJ⟩:=wA (env:=X.env) (scope:=scope) λy hy=>I.ok.has y (.inl (cp.all y hy));refine ar (dH (wpAny_comprehension_free (use:=some (assign (.Name y py) X.env)) (Q:=λ_ s'=>SP X ag DD .next s') rfl hs pJ.eq jy Ah (cJ (hi ag s σ H _ I h) λv s1 h1=>cJ h1 λRQ s2 h2=>?_)) (λ_ s' hq=>aR (aR hq)) λ_ _ e=>e);obtain⟨it,fp,tn,J,H2,e,I2,T,Hj,f2,h2⟩:=h2;subst e;obtain⟨W,⟨m0,w0⟩,turn⟩:=h2 s2.heap.objs.size I2.fresh;have Gg:∀b∈fp,b < s2.heap.objs.size:=λb hb=>by obtain⟨o,e,_⟩:=T.obj _ _ Hj b hb;exact ba e
 refine iW (wpAny_newFunctionEnv jz (by intro y hy;simp at hy) (λh₁ Ag wc=>?_) jy);dsimp only at Ag wc ⊢;generalize MJ:s2.heap.push { cls:=.type "list",dict:=none,data:=.seq ([]:List Value).toArray }=G2 at Ag wc ⊢;have Jh:G2.objs.size=s2.heap.objs.size+1:=by rw [<-MJ,jk]
 have VX:s2.heap.objs.size≠G2.objs.size:=by rw [Jh];exact bN (mT _)
 have old:∀b o,s2.heap.get? b=some o->h₁.get? b=some o:=λb o e =>
  wc.extBut b o (by rw [Jh];exact bN (ky (ba e))) (bJ _ (MJ ▸ bJ _ e))
 have lJ:h₁.get? s2.heap.objs.size=some { cls:=.type "list",data:=.seq ([]:List Value).toArray 0 }:=wc.extBut _ _ VX (bJ _ (MJ ▸ cW _ rfl));generalize oi:sV X scope cl G2.objs.size s2 H2 (ts++js.map (·.2)) fp=X2;have I4:Inv X2 [] (eU ts js σ) (upd H2 s2.heap.objs.size (.lst [])) { s2 with heap:=h₁,toks:=s2.toks+([]:List (Str×Value)).length }:=by
  rw [<-oi];exact uA I2 f2 Gg jy jz cp pJ (by rw [Jh];exact mT _) rfl rfl old Ag lJ
 have x1:X2.prog=X.prog:=by rw [<-oi];rfl
 have x2:X2.w=X.w:=by rw [<-oi];rfl
 have x3:X2.K=X.K:=by rw [<-oi];rfl
 have x4:X2.calm=true:=by rw [<-oi];exact hc
 have x5:X2.A=X.A:=by rw [<-oi];rfl
 have x6:X2.env=compEnvC scope cl G2.objs.size X.env:=by rw [<-oi];rfl
 have x7:X2.xe=λ_ _=>False:=by rw [<-oi];rfl
 have Vx:PG X2 tg g:=by rw [<-oi];exact hg _ _ _ _ _
 have Mv:Dx X2 ifs tif:=by rw [<-oi];exact Vv _ _ _ _ _
 have Ht:PE X2 elt te:=by rw [<-oi];exact he _ _ _ _ _
 have OU:tn 0 h₁:=T.keep _ _ _ Hj λb _ o e=>old b o e;have rF:∀{H':Hp}{j6:List (Addr×Obj)},(∀b∈fp,H' b=none)->(∀p∈j6,p.1∉fp)->∀b∈fp,wH X2 j6 H' b:=λ{H' j6} hn hp b hb=>by
  have o4:=I4.ok;subst oi;exact⟨hn b hb,(o4.N3 b hb).1,o4.C8 b hb,.inl hb,(o4.N3 b hb).2,λp n8=>by
   have oC:p∈([]:List (Addr×Obj))++j6:=n8;rw [mR] at oC;intro z;exact hp p oC (by rw [z];exact hb)⟩
 have fin:∀{s':Shared}{σ':St}{H':Hp},Inv X2 [] σ' H' s'->DD.nx (σ.set iy (some (.ref s2.heap.objs.size))) H' ->
   compPost (model X.prog X.w) X.A X.xe (some (assign (.Name y py) X.env)) (λ_ s'=>SP X ag DD .next s') (.ref s2.heap.objs.size) G2.objs.size (.ok .next) s':=λ{s' σ' H'} J' q=>by
  subst oi;obtain⟨m',Jc,_⟩:=J'.loc;have I5:Inv X ag σ H' s':=I2.KQ (s':=s') J'.os J'.base J'.b8 J'.bare λb hb=>by
   obtain⟨_,f1,_,f3,f4,f5⟩:=f2 b hb;exact⟨f3,f1,f4,f5⟩
  obtain⟨f0,f1,_,f3,f4,f5⟩:=I2.wm (H':=H') (b:=G2.objs.size) (by rw [Jh];exact oG _) J'.free;show wpAny _ _ (assign (.Name y py) X.env (.ref s2.heap.objs.size)) _ _ s';refine wpAny_assign_Name (uh I5 hN hiy (.inl hy) (v:=.ref s2.heap.objs.size) rfl (λO5 I6 bz=>?_) (.inr hy));obtain⟨a,sb,ha⟩:=bz;have nCa:G2.objs.size≠a:=by
   rcases ha with ha | ha
   .rw [ha];exact f1
   exact(f4 _ _ ha).symm
  refine⟨m',Jc.sameBut sb nCa,λh' NS=>?_⟩;exact⟨_,H',I6.turned (t':=O5.toks) (λb o hb e=>(NS.2 b hb).trans e) f0 f1 f3 f4 f5,q⟩
 have loop:∀s₃:Shared,s₃={ s2 with heap:=h₁,toks:=s2.toks+([]:List (Str×Value)).length } ->
   codeAny (model X.prog X.w) X.A (.compLoop (.ListComp elt [⟨tg,iter,ifs,0⟩] scope pos) 0 (.ref it) (.ref s2.heap.objs.size) (compEnvC scope cl G2.objs.size X.env))
    (compPost (model X.prog X.w) X.A X.xe (some (assign (.Name y py) X.env)) (λ_ s'=>SP X ag DD .next s') (.ref s2.heap.objs.size) G2.objs.size) s₃:=by
  rintro s₃ rfl;subst oi;refine qi (λn s'=>∃i ys σ' H',Inv (sV X scope cl G2.objs.size s2 H2 (ts++js.map (·.2)) fp) [] σ' H' s'/\tn i s'.heap/\(∀b∈fp,H' b=none)/\W i n ys σ' H') ?_ m0
   ⟨0,[],_,_,I4,OU,λb hb=>by rw [aj (bN (Gg b hb))];exact(f2 b hb).1,w0⟩
  rintro n s' ⟨i,ys,σ0,H',J',wK,QF,w'⟩;rcases turn i n ys σ0 H' w' with ⟨stop,q⟩ | ⟨go,m',hm,step⟩
  .refine dH (T.done (sV X scope cl G2.objs.size s2 H2 (ts++js.map (·.2)) fp) rfl rfl rfl hc i [] s' _ H' (λ_ _=>False) J' (rF QF (by simp)) wK stop) (λr s4 ⟨hr,J4⟩=>?_) λ_ _ z=>z;subst hr;exact fin J4 q
  refine dH (T.item (sV X scope cl G2.objs.size s2 H2 (ts++js.map (·.2)) fp) rfl rfl rfl hc i [] s' _ H' (λ_ _=>False) J' (rF QF (by simp)) wK go) (λr s4 ⟨u,hr,h4⟩=>?_) λ_ _ z=>z;subst hr;refine dH h4 (λ_ s5 bz=>?_) λ_ _ z=>z;obtain⟨xv,H5,J5,r5,y5,Ca,QE⟩:=bz;have Xh:=J5.pinned (rF QE (by simp)) (T.obj _ _ Ca);have back:∀{s7:Shared}{σ7:St}{H7:Hp},Inv (sV X scope cl G2.objs.size s2 H2 (ts++js.map (·.2)) fp) ([]++pC fp s5.heap) σ7 H7 s7->Inv (sV X scope cl G2.objs.size s2 H2 (ts++js.map (·.2)) fp) [] σ7 H7 s7/\tn (i+1) s7.heap/\∀b∈fp,H7 b=none:=λ{s7 σ7 H7} J7=>by
   refine⟨J7.kN,T.keep _ _ _ Ca λb hb o e=>(J7.pin (b,o) (fY _ (fY _ (g6 hb e)))).1,λb hb=>?_⟩;obtain⟨o,e,d⟩:=T.obj _ _ Ca b hb;exact(J7.pin (b,o) (fY _ (fY _ (g6 hb e)))).2.1
  show wpAny _ _ (assign tg (sV X scope cl G2.objs.size s2 H2 (ts++js.map (·.2)) fp).env u) _ _ s5;refine dH (Vx _ s5 _ H5 xv u _ Xh r5 (step xv H5 y5)) (λ_ s6 bz=>?_) λ_ _ z=>z;obtain⟨σ6,H6,J6,q6⟩:=bz;refine dH (Mv _ s6 _ H6 _ J6 q6) (λb s7 bz=>?_) λ_ _ z=>z;obtain⟨H7,J7,q7⟩:=bz;cases b with
  | false =>
   rw [az dP] at q7 ⊢;obtain⟨J8,TB,V7⟩:=back J7;exact⟨m',hm,i+1,ys,σ6,H7,J8,TB,V7,q7⟩
  | true =>
   rw [ax rfl] at q7 ⊢;refine dH (Ht _ s7 _ H7 _ J7 q7) (λyv s8 bz=>?_) λ_ _ z=>z;obtain⟨y,H8,J8,r8,MM,UY,w8⟩:=bz;refine dH (bK (X:=sV X scope cl G2.objs.size s2 H2 (ts++js.map (·.2)) fp) _ s8 _ H8 (.ref s2.heap.objs.size) [y] (.ref s2.heap.objs.size) [yv] (λv H'=>W (i+1) m' (ys++[y]) σ6 H') J8 rfl (.cons r8 .nil) ⟨s2.heap.objs.size,ys,y,rfl,rfl,MM,UY,w8⟩)
    (λ_ s9 ⟨_,H9,J9,_,w9⟩=>?_) λ_ _ z=>z
   obtain⟨Xi,Lj,MT⟩:=back J9;exact⟨m',hm,i+1,ys++[y],σ6,H9,Xi,Lj,MT,w9⟩
 exact codeAny_compStart_list (loop _ rfl) (T.self _ _ _ _ _ OU (loop _ rfl))
end L2
namespace gL
open PySem L2 M11
section
def vZ {l:List Str}(h:l.Nodup):(l.map (Sum.inr:Str->aS)).Nodup:=List.Pairwise.map _ (λa b hab e=>hab (md e)) h
structure DT (K:a9)(ps:List (Str×Addr))(st:Str->List (Nat×Nat))(H:Hp)(d:Addr):Prop where
 hd:Rd H d (.dK (ps.map jF))
 n1:(ps.map (·.1)).Nodup
 n2:(ps.map (·.2)).Nodup
 lst:∀p∈ps,∃ts,H p.2=some (.lst (ts.map V.ref))/\Paired (λt (e:Nat×Nat)=>aQ K H t [.int (e.1:Int),.int (e.2:Int)]) ts (st p.1)
def Rd.same {H H':Hp}{a:Addr}{u:HO}(h:Rd H a u)(s:aC H H'):Rd H' a u:=h.elim (λz=>.inl (s _ _ z)) λ⟨o,z⟩=>.inr ⟨o,s _ _ z⟩
theorem DT.same {ps:List (Str×Addr)}{st:Str->List (Nat×Nat)}{H H':Hp}{d:Addr}(h:DT K ps st H d)(s:aC H H'):DT K ps st H' d :=
 ⟨Rd.same h.hd s,h.n1,h.n2,λp hp=>let ⟨ts,a,b⟩:=h.lst p hp;⟨ts,s _ _ a,Paired.dJ b λ_ _ z=>s.tup z⟩⟩
def uV (st:Str->List (Nat×Nat))(n:Str)(e:Nat×Nat):Str->List (Nat×Nat):=λz=>if z=n then st z++[e] else st z
def DT.more {ps:List (Str×Addr)}{st:Str->List (Nat×Nat)}{H:Hp}{d:Addr}(h:DT K ps st H d){p:Str×Addr}(hp:p∈ps){ts:List Addr}{t:Addr}{e:Nat×Nat}(a:H p.2=some (.lst (ts.map V.ref)))
  (b:Paired (λt (e:Nat×Nat)=>aQ K H t [.int (e.1:Int),.int (e.2:Int)]) ts (st p.1))(c:aQ K H t [.int (e.1:Int),.int (e.2:Int)]) :
  DT K ps (uV st p.1 e) (upd H p.2 (.lst (ts.map V.ref++[.ref t]))) d:=by
 have nd:d≠p.2:=λz=>by
  rcases h.hd with q | ⟨o,q⟩
  .rw [z,a] at q;cases q
  rw [z,a] at q;cases q
 refine⟨?_,h.n1,h.n2,λp' n8=>?_⟩
 .rcases h.hd with q | ⟨o,q⟩
  .exact .inl (by rw [aj nd];exact q)
  exact .inr ⟨o,by rw [aj nd];exact q⟩
 by_cases z:p'=p
 .rw [z];refine⟨ts++[t],by rw [ae,bG];rfl,?_⟩;have e1:uV st p.1 e p.1=st p.1++[e]:=ax rfl;rw [e1];exact gR (Paired.dJ b λ_ _ z=>aT a z) (aT a c)
 have n1:p'.1≠p.1:=λq=>z (by
  have w1:=gW ps h.n1 p' n8;have w2:=gW ps h.n1 p hp;rw [q,w2] at w1;injection w1 with w3;injection w3 with w4;exact Prod.ext q w4.symm)
 have n2:p'.2≠p.2:=λq=>by
  obtain⟨i,hi,ei⟩:=qR.mp n8;obtain⟨j,hj,ej⟩:=qR.mp hp;have Jd:i=j:=by
   refine(uY (xs:=ps.map (·.2)) (h₀:=by simpa using hi) (h₁:=by simpa using hj) h.n2).mp ?_;rw [oS,oS,ei,ej];exact q
  subst Jd;exact z (ei.symm.trans ej)
 obtain⟨fC,a',b'⟩:=h.lst p' n8;refine⟨fC,by rw [aj n2];exact a',?_⟩;have e1:uV st p.1 e p'.1=st p'.1:=az n1;rw [e1];exact Paired.dJ b' λ_ _ z=>aT a z
def A8 (K:a9):Sp:=λvs H Q _=>∃(R:Addr)(rs:List Addr)(aa:List aw),vs=[.ref R]/\aI K H R (rs.map V.ref)/\bI K H rs aa/\aa.length<=1000/\(∀ru∈aa,ru.2.length<=8) /\
 ∀(d:Addr)(ps:List (Str×Addr))(st:Str->List (Nat×Nat))(bC:List (Str×Nat))(H':Hp),H d=none->aC H H'->H' d=some (.dK (ps.map jF))->DT K ps st H' d->ps.map (·.1)=hd aa->(∀p∈ps,H p.2=none)->wI aa bC->yo aa aa.length bC ->
  (∀n k j,n∈hd aa->((k,j)∈st n↔Oj aa (hd aa) (λz=>decide (z∈bC.map (·.1))) n k j))->Q (.ref d) H'
def iY:aK ["rules","empty","steps","number","rule","place","part","filled"] ["rules"] (av zf):=ir rfl rfl rfl rfl nofun
def Fm (F:g_ K "steps_with_like_rows" "steps_with_like_rows" zf f fd)(T:Txt mg)(GE:aB P w K mg base 1 "found_empties" ["rules"] (pb K))(GH:aB P w K mg base 1 "heads_of" ["rules"] (iX K)):bO P w K mg base fk 2 f fd ["rules"] (A8 K):=by
 refine F.ok iY (λvs H Q E h=>?_) (λdW A outer s H vs Q E hr h=>?_)
 .obtain⟨R,rs,aa,rfl,_⟩:=h;rfl
 obtain⟨R,rs,aa,rfl,hR,b_,br,h8,q⟩:=h;have hu:=fS hr;refine⟨_,ai (aA (i:=1) iY.nd rfl (Or.inr rfl) (bE (dD rfl) rfl T.yG eZ (ab (a8 GE hr rfl (ab (pv 0) ah)) ah)))
  (ai (aA (i:=2) iY.nd rfl (bx rfl) (bE (dD rfl) rfl T.yG eZ (ab
   (bF ["name"] [] rfl (aZ (a8 GH hr rfl (ab (pv 0) ah))) (bp rfl rfl) nofun rfl nofun
    (λ_ _ _ _ _=>aq (i:=0) (show (["name"]:List Str).Nodup by decide +kernel) rfl (bx rfl)) (λ_ _ _ _ _=>bY)
    (λ_ _ _ _ _=>bD (ab (pv 0) (ab (bc ah) ah)))) ah)))
  (ai (bQ b0 rfl (nU rfl T.Jl (ab (pv 0) ah)) (gJ rfl (aE (aq (i:=3) iY.nd rfl (bx rfl)) (aE (aq (i:=4) iY.nd rfl (bx rfl)) b9)))
   (ai (iA (iy:=7) ["place","part"] [(1,"empty")] iY.nd rfl rfl rfl (nQ rfl T.Jl (ab (aF aN (pv 4) ao (λ_ _=>rfl)) ah)) (bp rfl rfl) nofun rfl nofun
    (λ_ _ _ _ _=>fJ (n:=2) K rfl (aE (aq (i:=0) (show (["place","part","empty"]:List Str).Nodup by decide +kernel) rfl (bx rfl)) (aE (aq (i:=1) (show (["place","part","empty"]:List Str).Nodup by decide +kernel) rfl (bx rfl)) b9)))
    (λ_ _ _ _ _=>hJ (cZ (dZ hu (pv 1) (pv 2)))) (λ_ _ _ _ _=>pv 0))
   (ak (bQ b0 rfl (nQ rfl T.Jl (ab (aF aN (pv 4) ao (λ_ _=>rfl)) ah)) (gJ rfl (aE (aq (i:=5) iY.nd rfl (bx rfl)) (aE (aq (i:=6) iY.nd rfl (bx rfl)) b9)))
    (ak (bw (PW.pt (iK (cZ (jN hu (pv 6) (pv 2))) (gF (aV (Co hu) (pv 7) (bD (ab (bc ah) (ab (bc (ab (pv 5) ah)) ah))) rfl))))
     (ak (bX (ft eG fZ f_ bK (fK hu (pv 2) (aF aN (pv 4) ao (λ_ _=>rfl)) (λ_ _=>rfl)) (ab (bD (ab (pv 3) (ab (pv 5) ah))) ah)))) aM)))))
   )
  (ak (aL (pv 2))))),?_⟩
 nofun
 have ll:=aY b_;refine⟨_,rfl,R,rs,aa,rfl,hR,b_,br,h8,λD1 B9 bC H1 f1 s1 e1 w1 emp De=>?_⟩;have UO:Paired (λt (kv:aS×V)=>aQ K H1 t [kV kv.1,kv.2]) B9 (bC.map λp=>((Sum.inr p.1:aS),V.int (p.2:Int))):=cv w1 λ_ _ z=>z;refine⟨D1,B9,_,rfl,e1,UO,λe he=>?_⟩;have ekE:cK (bC.map λp=>((Sum.inr p.1:aS),V.int (p.2:Int))) []=bC.map λp=>((Sum.inr p.1:aS),V.int (p.2:Int)):=ot _ [] (by
  rw [mR,iG];have:=vZ emp.nd;rw [iG] at this;exact this)
 rw [ekE];have CF:∀z,(bB (bC.map λp=>((Sum.inr p.1:aS),V.int (p.2:Int))) (Sum.inr z)).isSome=decide (z∈bC.map (·.1)):=λz=>by
  rw [mP,fg,decide_eq_true_iff,iG];have:(bC.map λp:Str×Nat=>(Sum.inr p.1:aS))=(bC.map (·.1)).map Sum.inr:=by rw [iG];rfl
  show _∈(bC.map λp:Str×Nat=>(Sum.inr p.1:aS))↔_;rw [this];exact di
 generalize (bC.map λp=>((Sum.inr p.1:aS),V.int (p.2:Int)))=kE at CF ⊢;have s2:=s1.trans (af he (.dK kE));have e2:upd H1 e (.dK kE) e=some (.dK kE):=ae;generalize upd H1 e (.dK kE)=H2 at s2 e2;refine⟨_,rfl,R,rs,aa,rfl,s2.seq hR,b_.same s2,br,λD2 H3 f3 s3 e3=>?_⟩;have FQ:=hV (aa.map (·.1)) [];simp only [iV,au] at FQ;refine⟨D2,rfl,⟨_,aI.of e3⟩,λD3 Aj=>sZ (aI.of e3) ∅ Aj λts ps H4 s4 e4 m4 p4 l4 n4=>?_⟩;have n1:(ps.map (·.1)).Nodup:=by rw [m4];exact pP _ lL
 have FV:Paired (λt (kv:aS×V)=>aQ K H4 t [kV kv.1,kv.2]) ts (ps.map jF):=cv p4 λ_ _ z=>z;refine⟨D3,ts,_,rfl,e4,FV,λd qL=>?_⟩;have QN:cK (ps.map jF) []=ps.map jF:=ot _ [] (by
  rw [mR,nX];exact vZ n1)
 rw [QN];have s5:=((s2.trans s3).trans s4).trans (af qL (.dK (ps.map jF)));have xj:=af qL (.dK (ps.map jF));have e5:upd H4 d (.dK (ps.map jF)) d=some (.dK (ps.map jF)):=ae;have QR:=xj _ _ (s4 _ _ (s3 _ _ e2));have yE:H d=none:=((s2.trans s3).trans s4).free qL;have S5:DT K ps (λ_=>[]) (upd H4 d (.dK (ps.map jF))) d:=⟨.inl e5,n1,n4,λp hp=>⟨[],xj _ _ (l4 p hp).1,.nil⟩⟩;have N0:∀p∈ps,H p.2=none:=λp hp=>(s2.trans s3).free (l4 p hp).2.1;generalize upd H4 d (.dK (ps.map jF))=H5 at s5 e5 QR S5;clear xj;have eb:(λz=>(bB kE (Sum.inr z)).isSome)=λz=>decide (z∈bC.map (·.1)):=funext CF;refine⟨_,rfl,R,_,rfl,s5.seq hR,?_⟩
 let wG:tG:=λi σ H6=>∃(st:Str->List (Nat×Nat))(y3 y4 y5 y6 y7:Option V),σ=[aP R,aP e,aP d,y3,y4,y5,y6,y7]/\aC H H6/\H6 e=some (.dK kE)/\H6 d=some (.dK (ps.map jF))/\DT K ps st H6 d /\
  (∀n,(st n).length<=8 * i)/\∀n k j,n∈hd aa->((k,j)∈st n↔k < i/\Oj aa (hd aa) (λz=>decide (z∈bC.map (·.1))) n k j)
 refine kZ (xs:=rs.map V.ref) wG
  ⟨λ_=>[],none,none,none,none,none,rfl,s5,QR,e5,S5,by simp,by simp⟩ ?_ ?_ ?_
 .rintro i σ H6 _ ⟨st,y3,y4,y5,y6,y7,rfl,s6,_⟩;exact s6.seq hR
 .rintro i x σ H6 t ex ⟨st,y3,y4,y5,y6,y7,rfl,s6,M_,Ky,S6,l6,c6⟩ ht
  ac_nf0
  rw [bh] at ex;obtain⟨r,er,rfl⟩:=cq.mp ex;obtain⟨ru,sQ,p,v1,v2⟩:=b_.get er;have lH:=cg sQ;have NX:=h8 ru lH;have li:=(bq.mp sQ).1;have yu:=af ht (.tup [.int (i:Int),.ref r]);have Kl:aQ K (upd H6 t (.tup [.int (i:Int),.ref r])) t [.int (i:Int),.ref r]:=aQ.of ae;have s7:=s6.trans yu;have M8:=yu _ _ M_;have ZF:=yu _ _ Ky;have S7:=S6.same yu;generalize upd H6 t (.tup [.int (i:Int),.ref r])=H7 at Kl s7 M8 ZF S7;refine⟨t,_,rfl,Kl,rfl,_,_,rfl,_,_,rfl,rfl,?_⟩;refine⟨_,rfl,r,_,_,_,rfl,rfl,s7.tup v1,rfl,p,_,rfl,s7.tup v2,λD5 NW=>yb rfl (s7.tup v2) ∅ M8 NW λH8 ND e8=>?_⟩;rw [eb] at e8;have s8:=s7.trans ND;have ee8:=ND _ _ M8;have Wn:=ND _ _ ZF;have S8:=S7.same ND;have nD5:∀p∈ps,p.2≠D5:=λp hp z=>by
   obtain⟨fC,a,_⟩:=S7.lst p hp;rw [z,NW] at a;cases a
  obtain⟨pn,xN,yF⟩:∃pn∈ps,pn.1=ru.1:=by
   have:ru.1∈ps.map (·.1):=by rw [m4];exact(hU _ _ _).mpr (.inr (jZ lH))
   obtain⟨pn,a,b⟩:=cQ.mp this;exact⟨pn,a,b⟩
  refine⟨_,rfl,r,_,_,_,rfl,rfl,s8.tup v1,rfl,p,_,rfl,s8.tup v2,?_⟩
  let Dy:tG:=λj σ H9=>∃(st:Str->List (Nat×Nat))(y5 y6:Option V),σ=[aP R,aP e,aP d,some (.int (i:Int)),aP r,y5,y6,aP D5]/\aC H H9/\H9 e=some (.dK kE)/\H9 d=some (.dK (ps.map jF))/\DT K ps st H9 d /\
   H9 D5=some (.lst ((C7 (λz=>decide (z∈bC.map (·.1))) ru.2 ru.2.length).map V.int))/\(∀n,(st n).length<=8 * i+j)/\∀n k j',n∈hd aa->((k,j')∈st n↔(k < i\/(k=i/\j' < j))/\Oj aa (hd aa) (λz=>decide (z∈bC.map (·.1))) n k j')
  refine pL (xs:=ru.2.map V.str) Dy
   ⟨st,_,_,rfl,s8,ee8,Wn,S8,e8,λn=>l6 n,λn k j' hn=>by rw [c6 n k j' hn];simp⟩ ?_ ?_ ?_
  .rintro j σ H9 _ ⟨st,y5,y6,rfl,s9,_⟩;exact s9.tup v2
  .rintro j x σ H9 t2 pM ⟨st,y5,y6,rfl,s9,Wl,Na,S9,e9,l9,c9⟩ ji
   ac_nf0
   rw [bh] at pM;obtain⟨z,ez,rfl⟩:=cq.mp pM;have lj:=(bq.mp ez).1;have xi:=af ji (.tup [.int (j:Int),.str z]);have F5:aQ K (upd H9 t2 (.tup [.int (j:Int),.str z])) t2 [.int (j:Int),.str z]:=aQ.of ae;have vT:=s9.trans xi;have wu:=xi _ _ Wl;have qw:=xi _ _ Na;have DQ:=xi _ _ e9;have K1:=S9.same xi;generalize upd H9 t2 (.tup [.int (j:Int),.str z])=AN at F5 vT wu qw DQ K1;have mem:(bB (ps.map jF) (Sum.inr z)).isSome=true↔z∈hd aa:=by rw [fg,nX,m4];exact di
   have ka:¬(z∈hd aa/\IZ (λz=>decide (z∈bC.map (·.1))) ru.2 j=true)->∀n k j',n∈hd aa->((k,j')∈st n↔(k < i\/(k=i/\j' < j+1))/\Oj aa (hd aa) (λz=>decide (z∈bC.map (·.1))) n k j'):=λhn n k j' Vm=>by
    rw [c9 n k j' Vm];constructor
    .rintro⟨h1,h3⟩;exact⟨∅,h3⟩
    rintro⟨h1,h3⟩;refine⟨?_,h3⟩;by_cases c:k=i/\j'=j
    .obtain⟨Ce,z',a1,a2,a3,a4,a5⟩:=h3;rw [c.1,sQ] at a1;cases a1;rw [c.2] at a5;rw [c.2,ez] at a3;cases a3;exact absurd ⟨a4,a5⟩ hn
    omega
   have Yv:∀n,(st n).length<=8 * i+(j+1):=λn=>by have:=l9 n;omega
   refine⟨t2,_,rfl,F5,rfl,_,_,rfl,_,_,rfl,rfl,?_⟩;refine⟨_,rfl,_,rfl,d,_,rfl,cz.k (k:=Sum.inr z) qw,_,rfl,?_⟩;refine bZ (λc=>?_) (λc=>?_)
   .have hz:=mem.mp c;refine⟨_,rfl,o7,λl1 YZ=>?_⟩;have Iq:=af YZ (.lst []);have HM:upd AN l1 (.lst []) l1=some (.lst []):=ae;have nl1:l1≠D5:=(ay DQ YZ).symm;generalize upd AN l1 (.lst [])=DE at Iq HM;refine⟨_,rfl,vk,λl2 tV=>?_⟩;have JT:=af tV (.lst [.int (j:Int)]);have KJ:upd DE l2 (.lst [.int (j:Int)]) l2=some (.lst [.int (j:Int)]):=ae;have Up:l2≠D5:=(ay (Iq _ _ DQ) tV).symm;generalize upd DE l2 (.lst [.int (j:Int)])=yl at JT KJ;refine⟨kc,λt3 P7=>?_⟩;have RF:=af P7 (.tup [.ref l1,.ref l2]);have Z9:aQ K (upd yl t3 (.tup [.ref l1,.ref l2])) t3 [.ref l1,.ref l2]:=aQ.of ae;generalize upd yl t3 (.tup [.ref l1,.ref l2])=B0 at RF Z9;have qp:=(Iq.trans JT).trans RF;refine⟨t3,D5,l1,l2,_,[],[(j:Int)],rfl,rfl,Z9,aI.of (qp _ _ DQ),aI.of (RF _ _ (JT _ _ HM)),aI.of (RF _ _ KJ),nl1,Up,_,rfl,?_⟩;have Ha:=K1.same qp;have Lz:=vT.trans qp;refine bZ (λc2=>?_) (λc2=>?_)
    .obtain⟨XA,an,bn⟩:=Ha.lst pn xN;have vn:=gW ps n1 pn xN;rw [yF] at vn;have hg:cz B0 d (.str ru.1) (some (.ref pn.2)):=by
      have:=cz.k (k:=Sum.inr ru.1) (qp _ _ qw);rw [vn] at this;exact this
     have ltn:=aY bn;have l9n:=l9 pn.1;refine⟨_,rfl,_,rfl,r,_,_,_,rfl,rfl,Lz.tup v1,rfl,d,_,rfl,hg,.inl ⟨rfl,_,aI.of an⟩,_,rfl,_,rfl,kc,λt4 CN=>?_⟩;have zy:=af CN (.tup [.int (i:Int),.int (j:Int)]);have Z8:aQ K (upd B0 t4 (.tup [.int (i:Int),.int (j:Int)])) t4 [.int (i:Int),.int (j:Int)]:=aQ.of ae;generalize upd B0 t4 (.tup [.int (i:Int),.int (j:Int)])=H14 at zy Z8;have Rg:=Ha.same zy;have Jw:=zy _ _ an;have WN:=Paired.dJ bn λt' (e':Nat×Nat)(z:aQ K B0 t' [.int (e'.1:Int),.int (e'.2:Int)])=>zy.tup z;refine⟨pn.2,_,_,rfl,rfl,Jw,bL (by rw [au];omega),?_⟩;have Xe:=Rg.more (e:=(i,j)) xN Jw WN Z8;have ne1:e≠pn.2:=λz=>by have:=zy _ _ (qp _ _ wu);rw [z,Jw] at this;cases this
     have ne2:d≠pn.2:=λz=>by have:=zy _ _ (qp _ _ qw);rw [z,Jw] at this;cases this
     refine⟨uV st pn.1 (i,j),_,_,rfl,λb o hb=>?_,by rw [aj ne1];exact zy _ _ (qp _ _ wu),by rw [aj ne2];exact zy _ _ (qp _ _ qw),Xe,by rw [aj (nD5 pn xN).symm];exact zy _ _ (qp _ _ DQ),λn=>?_,λn k j' Vm=>?_⟩
     .rw [aj (λz=>by rw [z,N0 pn xN] at hb;cases hb)];exact zy _ _ (Lz b o hb)
     .have:=l9 n;unfold uV
      split
      .rw [bM];simp;omega
      omega
     have hit:Oj aa (hd aa) (λz=>decide (z∈bC.map (·.1))) ru.1 i j:=⟨ru,z,sQ,rfl,ez,hz,c2⟩;have KS:=c9 n k j' Vm;unfold uV;by_cases cn:n=pn.1
     .rw [ax cn,cC,bV,KS];constructor
      .rintro(⟨h1,h3⟩ | h1)
       .exact⟨∅,h3⟩
       cases h1;exact⟨∅,by rw [cn,yF];exact hit⟩
      rintro⟨h1,h3⟩;by_cases cc:k=i/\j'=j
      .exact .inr (by rw [cc.1,cc.2])
      exact .inl ⟨∅,h3⟩
     rw [az cn,KS];constructor
     .rintro⟨h1,h3⟩;exact⟨∅,h3⟩
     rintro⟨h1,h3⟩;refine⟨?_,h3⟩;by_cases cc:k=i/\j'=j
     .obtain⟨Ce,z',a1,a2,_⟩:=h3;rw [cc.1,sQ] at a1;cases a1;exact absurd (a2.symm.trans yF.symm) cn
     omega
    exact⟨st,_,_,rfl,Lz,qp _ _ wu,qp _ _ qw,Ha,qp _ _ DQ,Yv,ka λ⟨_,h⟩=>c2 h⟩
   exact⟨st,_,_,rfl,vT,wu,qw,K1,DQ,Yv,ka λ⟨h,_⟩=>c (mem.mpr h)⟩
  rintro σ H9 ⟨st,y5,y6,rfl,s9,Wl,Na,S9,e9,l9,c9⟩;rw [au] at l9 c9;refine⟨st,_,_,_,_,_,rfl,s9,Wl,Na,S9,λn=>?_,λn k j' hn=>?_⟩
  .have:=l9 n;omega
  rw [c9 n k j' hn];constructor
  .rintro⟨h1 | ⟨h1,h2⟩,h3⟩
   .exact⟨∅,h3⟩
   exact⟨∅,h3⟩
  rintro⟨h1,h3⟩;refine⟨?_,h3⟩;by_cases c:k < i
  .exact .inl c
  refine .inr ⟨∅,?_⟩;obtain⟨Ce,z',a1,_,a3,_⟩:=h3;have:k=i:=by omega
  rw [this,sQ] at a1;cases a1;exact(bq.mp a3).1
 rintro σ H6 ⟨st,y3,y4,y5,y6,y7,rfl,s6,M_,Ky,S6,l6,c6⟩;rw [au,ll] at c6;refine⟨_,rfl,q d ps st bC H6 yE s6 Ky S6 m4 N0 emp De λn k j hn=>?_⟩;rw [c6 n k j hn];constructor
 .exact λh=>h.2
 intro h;obtain⟨Ce,_,a1,_⟩:=id h;exact⟨(bq.mp a1).1,h⟩
end
end gL
namespace L2
open PySem
def cz.r {H:Hp}{a:Addr}{kvs:List (aS×V)}{k:aS}(e:Rd H a (.dK kvs)):cz H a (kV k) (bB kvs k):=.inl ⟨kvs,k,e,rfl,rfl⟩
end L2
namespace gL
open PySem L2 M11
section
def Down (aa:List aw) (names:List Str)(st:Str->List (Nat×Nat))(rk:Str->Nat):Prop:=∀n∈names,∀e∈st n,∃ru z,aa[e.1]?=some ru/\ru.2[e.2]?=some z/\z∈names/\rk z < rk n
def JK (K:a9):Sp:=λvs H Q _=>∃(R d:Addr)(rs:List Addr)(aa:List aw)(ps:List (Str×Addr))(st:Str->List (Nat×Nat))(name:Str)(rk:Str->Nat),vs=[.ref R,.ref d,.str name]/\aI K H R (rs.map V.ref)/\bI K H rs aa/\aa.length<=1000 /\
 DT K ps st H d/\ps.length<=1000/\name∈ps.map (·.1)/\Down aa (ps.map (·.1)) st rk/\∀(D:Addr)(H':Hp),H D=none->aC H H'->H' D=some (.lst [])->Q (.ref D) H'
structure DS (K:a9) (names:List Str)(rk:Str->Nat)(name:Str)(H H5:Hp)(D m:Addr)(ml:List Addr)(j5:List (Str×Addr)) (ms:List Str)(kvs:List (aS×V)):Prop where
 sm:aC H H5
 hD:H5 D=some (.lst (ml.map V.ref))
 hm:H5 m=some (.dK kvs)
 keys:kvs.map (·.1)=ms.map Sum.inr
 nd:ms.Nodup
 sub:∀x∈ms,x∈names
 wl:j5.length=ms.length+1
 wv:Paired (λt (e:Str×Addr)=>aQ K H5 t [.str e.1,.ref e.2]) ml j5
 we:∀e∈j5,e.1∈names/\rk e.1<=rk name/\∃xs,H5 e.2=some (.lst xs)/\xs.length<=j5.length/\e.2≠D
def DS.same {names:List Str}{rk:Str->Nat}{name:Str}{H H5 H6:Hp}{D m:Addr}{ml:List Addr}{j5:List (Str×Addr)}{ms:List Str}{kvs:List (aS×V)}(h:DS K names rk name H H5 D m ml j5 ms kvs)(s:aC H5 H6):DS K names rk name H H6 D m ml j5 ms kvs :=
 ⟨h.sm.trans s,s _ _ h.hD,s _ _ h.hm,h.keys,h.nd,h.sub,h.wl,Paired.dJ h.wv λ_ _ z=>s.tup z,λe he=>let ⟨a,b,xs,c,d⟩:=h.we e he;⟨a,b,xs,s _ _ c,d⟩⟩
def DS.len {names:List Str}{rk:Str->Nat}{name:Str}{H H5:Hp}{D m:Addr}{ml:List Addr}{j5:List (Str×Addr)}{ms:List Str}{kvs:List (aS×V)}(h:DS K names rk name H H5 D m ml j5 ms kvs):ml.length=j5.length/\kvs.length=ms.length/\ms.length<=names.length:=by
 refine⟨aY h.wv,?_,gr _ _ h.nd h.sub⟩;have:=congrArg List.length h.keys;simpa using this
def DS.more {names:List Str}{rk:Str->Nat}{name z:Str}{H H5 H9:Hp}{D m t c:Addr}{ml:List Addr}{j5:List (Str×Addr)}{ms:List Str}{kvs:List (aS×V)}{xs:List V}(h:DS K names rk name H H5 D m ml j5 ms kvs)(fD:H D=none)(fm:H m=none)
  (hz:z∈names)(hr:rk z<=rk name)(hn:z∉ms)(s:aC (upd H5 m (.dK (bS kvs (Sum.inr z) (.bl true)))) H9)(ht:aQ K H9 t [.str z,.ref c])(hc:H9 c=some (.lst xs))(hx:xs.length<=j5.length+1)(nc:c≠D) :
  DS K names rk name H (upd H9 D (.lst (ml.map V.ref++[.ref t]))) D m (ml++[t]) (j5++[(z,c)]) (ms++[z]) (bS kvs (Sum.inr z) (.bl true)):=by
 have RN:D≠m:=λe=>by have:=h.hD;rw [e,h.hm] at this;cases this
 have Ko:H9 D=some (.lst (ml.map V.ref)):=s _ _ (by rw [aj RN];exact h.hD);have hm9:H9 m=some (.dK (bS kvs (Sum.inr z) (.bl true))):=s _ _ ae;refine⟨λb o hb=>?_,by rw [ae,bG];rfl,by rw [aj RN.symm];exact hm9,?_,?_,?_,?_,?_,?_⟩
 .rw [aj (λe=>by rw [e,fD] at hb;cases hb)];exact s _ _ (by rw [aj (λe=>by rw [e,fm] at hb;cases hb)];exact h.sm b o hb)
 .rw [iZ (by rw [h.keys];exact λe=>hn (di.mp e)),h.keys,bG];rfl
 .refine kx.mpr ⟨h.nd,by simp,λa ha b hb e=>?_⟩;rw [bV.mp hb] at e;exact hn (e ▸ ha)
 .intro x U1;rcases cC.mp U1 with e | e
  .exact h.sub x e
  rw [bV.mp e];exact hz
 .rw [bM,bM,h.wl];rfl
 .exact gR (Paired.dJ h.wv λ_ _ e=>aT Ko (s.tup (ib h.hm e))) (aT Ko ht)
 intro e he;rw [bM];rcases cC.mp he with e' | e'
 .obtain⟨a,b,ys,c1,d1,n1⟩:=h.we e e';exact⟨a,b,ys,by rw [aj n1];exact s _ _ (by rw [aj (λq=>by rw [q,h.hm] at c1;cases c1)];exact c1),∅,n1⟩
 rw [bV.mp e'];exact⟨hz,hr,xs,by rw [aj nc];exact hc,hx,nc⟩
def nj:aK ["rules","steps","name","ways","met","at","way","number","place","part"] ["rules","steps","name"] (av Lo):=ir rfl rfl rfl rfl nofun
def LU (F:g_ K "way_back" "way_back" Lo f fd)(T:Txt mg):bO P w K mg base fk 1 f fd ["rules","steps","name"] (JK K):=by
 refine F.ok nj (λvs H Q E h=>?_) (λdW A outer s H vs Q E hr h=>?_)
 .obtain⟨R,d,rs,aa,ps,st,name,rk,rfl,_⟩:=h;rfl
 obtain⟨R,d,rs,aa,ps,st,name,rk,rfl,hR,b_,br,S,YU,Ga,VG,q⟩:=h;have hu:=fS hr;refine⟨_,ai (aA (i:=3) nj.nd rfl (bx rfl) (bc (ab (bD (ab (pv 2) (ab (bc ah) ah))) ah)))
  (ai (aA (i:=4) nj.nd rfl (bx rfl) ij)
  (ai (aA (i:=5) nj.nd rfl (bx rfl) ao)
  (ai (iL b0 (aV nV (pv 5) (aD aG rfl T.len cU (ab (pv 3) ah)) (bu _))
   (ai (aA (i:=6) nj.nd rfl (bx rfl) (aF aN (aF bo (pv 3) (pv 5) (λ_ _=>rfl)) ao (λ_ _=>rfl)))
   (ai (bQ b0 rfl (aZ (fK hu (pv 1) (aF aN (aF bo (pv 3) (pv 5) (λ_ _=>rfl)) ao (λ_ _=>rfl)) (λ_ _=>rfl))) (gJ rfl (aE (aq (i:=7) nj.nd rfl (bx rfl)) (aE (aq (i:=8) nj.nd rfl (bx rfl)) b9)))
    (ai (aA (i:=9) nj.nd rfl (bx rfl) (aF aN (aF aN (aF bo (pv 0) (pv 7) (λ_ _=>rfl)) ao (λ_ _=>rfl)) (pv 8) (λ_ _=>rfl)))
    (ai (bw (aV ik (pv 9) (pv 2) (bu _)) (ak iM) aM)
    (ak (bw (cZ (dZ hu (pv 9) (pv 4)))
     (ai (i0 hu (pv 4) (pv 9) dI rfl) (ak (bX (ft eG fZ f_ bK (pv 3) (ab (bD (ab (pv 9) (ab (aX iN (pv 6) (bc (ab (bD (ab (pv 7) (ab (pv 8) ah))) ah))) ah))) ah))))) aM)))))
   (ak (LJ (i:=5) nj.nd rfl (bx rfl) ao Mn)))))
  (ak (aL (bc ah)))))),?_⟩
 nofun
 have yz:(ps.map (·.1)).length=ps.length:=au _;refine⟨_,rfl,o7,λl0 RW=>?_⟩;have s1:=af RW (.lst []);have e1:upd H l0 (.lst []) l0=some (.lst []):=ae;generalize upd H l0 (.lst [])=H1 at s1 e1;refine⟨kc,λt0 U6=>?_⟩;have s2:=af U6 (.tup [.str name,.ref l0]);have e2:aQ K (upd H1 t0 (.tup [.str name,.ref l0])) t0 [.str name,.ref l0]:=aQ.of ae;generalize upd H1 t0 (.tup [.str name,.ref l0])=H2 at s2 e2;refine⟨vk,λD hD=>?_⟩;have s3:=af hD (.lst [.ref t0]);have e3:upd H2 D (.lst [.ref t0]) D=some (.lst ([t0].map V.ref)):=ae;have nl0:l0≠D:=ay (s2 _ _ e1) hD;generalize upd H2 D (.lst [.ref t0])=H3 at s3 e3;intro m hm;have s4:=af hm (.dK []);have e4:upd H3 m (.dK []) m=some (.dK []):=ae;generalize upd H3 m (.dK [])=H4 at s4 e4;have fD:H D=none:=(s1.trans s2).free hD;have fm:H m=none:=((s1.trans s2).trans s3).free hm;have W0:DS K (ps.map (·.1)) rk name H H4 D m [t0] [(name,l0)] [] []:=⟨((s1.trans s2).trans s3).trans s4,s4 _ _ e3,e4,rfl,lL,by simp,rfl,.cons ((s3.trans s4).tup e2) .nil,λe he=>by
  rw [bV.mp he];exact⟨Ga,aH _,[],s4 _ _ (s3 _ _ (s2 _ _ e1)),by simp,nl0⟩⟩
 refine⟨λmm σ H5=>∃(ml:List Addr)(j5:List (Str×Addr)) (ms:List Str)(kvs:List (aS×V)) (at_:Nat)(y6 y7 y8 y9:Option V),σ=[aP R,aP d,some (.str name),aP D,aP m,some (.int (at_:Int)),y6,y7,y8,y9]/\DS K (ps.map (·.1)) rk name H H5 D m ml j5 ms kvs /\
  at_<=j5.length/\mm=1002 - at_,⟨1002,[t0],[(name,l0)],[],[],0,none,none,none,none,rfl,W0,by simp,rfl⟩,?_⟩
 rintro mm σ H5 ⟨ml,j5,ms,kvs,at_,y6,y7,y8,y9,rfl,W,hat,rfl⟩;obtain⟨lw,lk,lm⟩:=W.len;have aac:=W.wl;refine⟨_,rfl,_,rfl,D,_,rfl,.inl (aI.of W.hD),_,_,rfl,rfl,_,rfl,?_⟩;refine bZ (λc=>?_) (λc=>?_)
 .have c':=dr c;rw [au,lw] at c';have ki:at_ < j5.length:=by omega
  obtain⟨n,l,en⟩:∃n l,j5[at_]?=some (n,l):=⟨(j5[at_]).1,(j5[at_]).2,cf ki⟩;obtain⟨t1,et1,NR⟩:=Paired.at_ W.wv at_ (n,l) en;have at1:j9 (ml.map V.ref) (at_:Int)=some (.ref t1):=bT (by rw [bh,et1];rfl);obtain⟨hn,hrn,xs,hl,hxl,Mb⟩:=W.we (n,l) (cg en);dsimp only at hn hrn hl Mb;obtain⟨pn,xN,yF⟩:=cQ.mp hn;have vn:=gW ps S.n1 pn xN;rw [yF] at vn;obtain⟨XA,an,bn⟩:=S.lst pn xN;rw [yF] at bn;refine⟨λσ H5=>∃(ml:List Addr)(j5:List (Str×Addr)) (ms:List Str)(kvs:List (aS×V))(y6 y7 y8 y9:Option V),σ=[aP R,aP d,some (.str name),aP D,aP m,some (.int ((at_+1:Nat):Int)),y6,y7,y8,y9]/\DS K (ps.map (·.1)) rk name H H5 D m ml j5 ms kvs/\at_+1<=j5.length,?_,?_⟩
  .rintro σ H6 ⟨ml,j5,ms,kvs,y6,y7,y8,y9,rfl,W2,h2⟩;exact⟨1002 - (at_+1),∅,ml,j5,ms,kvs,at_+1,_,_,_,_,rfl,W2,h2,rfl⟩
  refine⟨_,rfl,_,rfl,D,_,_,_,rfl,rfl,aI.of W.hD,at1,t1,_,_,_,rfl,rfl,NR,rfl,?_⟩;have hg:cz H5 d (.str n) (some (.ref pn.2)):=by
   have:=cz.r (k:=Sum.inr n) (Rd.same S.hd W.sm);rw [vn] at this;exact this
  refine⟨_,rfl,_,rfl,_,rfl,D,_,_,_,rfl,rfl,aI.of W.hD,at1,t1,_,_,_,rfl,rfl,NR,rfl,d,_,rfl,hg,pn.2,rfl,⟨_,aI.of (W.sm _ _ an)⟩,?_⟩
  let wG:tG:=λi σ H6=>∃(ml:List Addr)(j5:List (Str×Addr)) (ms:List Str)(kvs:List (aS×V))(y7 y8 y9:Option V),σ=[aP R,aP d,some (.str name),aP D,aP m,some (.int (at_:Int)),aP l,y7,y8,y9]/\DS K (ps.map (·.1)) rk name H H6 D m ml j5 ms kvs /\
   at_+1<=j5.length/\∃e∈j5,e.2=l
  refine cD (xs:=XA.map V.ref) wG ⟨ml,j5,ms,kvs,_,_,_,rfl,W,ki,(n,l),cg en,rfl⟩ ?_ ?_ ?_
  .rintro i σ H6 _ ⟨ml,j5,ms,kvs,y7,y8,y9,rfl,W2,_⟩;exact aI.of (W2.sm _ _ an)
  .rintro i x σ H6 ex ⟨ml,j5,ms,kvs,y7,y8,y9,rfl,W2,h2,e0,VD,Wm⟩
   ac_nf0
   rw [bh] at ex;obtain⟨ti,Zp,rfl⟩:=cq.mp ex;have lbn:=aY bn;have lti:=(bq.mp Zp).1;obtain⟨⟨k,j⟩,ZA⟩:∃e,(st n)[i]?=some e:=⟨(st n)[i]'∅,cf ∅⟩;obtain⟨ti',QK,hti⟩:=Paired.at_ bn i (k,j) ZA;rw [Zp] at QK;cases QK;obtain⟨ru,z,er,ez,hz,hrk⟩:=VG n hn (k,j) (cg ZA);obtain⟨r,Jk,p,v1,v2⟩:=Paired.at_ b_ k ru er;have atr:j9 (rs.map V.ref) (k:Int)=some (.ref r):=bT (by rw [bh,Jk];rfl);have WY:j9 (ru.2.map V.str) (j:Int)=some (.str z):=bT (by rw [bh,ez];rfl);obtain⟨lw2,Hn,lm2⟩:=W2.len;have Yn:=W2.wl;refine⟨ti,_,rfl,W2.sm.tup hti,rfl,_,_,rfl,_,_,rfl,rfl,?_⟩;refine⟨_,rfl,_,rfl,R,_,_,_,rfl,rfl,W2.sm.seq hR,atr,r,_,_,_,rfl,rfl,W2.sm.tup v1,rfl,_,rfl,p,_,_,_,rfl,rfl,W2.sm.tup v2,WY,?_⟩;refine⟨_,rfl,_,rfl,rfl,_,rfl,?_⟩;have nz:z≠name:=λe=>by rw [e] at hrk;omega
   refine bZ (λc=>absurd (dr c) (λe=>nz (by injection e))) (λ_=>?_);have mem:(bB kvs (Sum.inr z)).isSome=true↔z∈ms:=by rw [fg,W2.keys];exact di
   refine⟨_,rfl,_,rfl,m,_,rfl,cz.k (k:=Sum.inr z) W2.hm,_,rfl,?_⟩;refine bZ (λc=>?_) (λc=>?_)
   .have nm:z∉ms:=λh=>by rw [mem.mpr h] at c;exact absurd c nofun
    refine⟨_,rfl,_,rfl,m,_,rfl,pV.k (k:=Sum.inr z) W2.hm (bL ∅),?_⟩;obtain⟨_,_,DG,tV,aah,Up⟩:=W2.we e0 VD;rw [Wm] at tV Up;have RN:D≠m:=λe=>by have:=W2.hD;rw [e,W2.hm] at this;cases this
    have nlm:l≠m:=λe=>by rw [e,W2.hm] at tV;cases tV
    have MK:upd H6 m (.dK (bS kvs (Sum.inr z) (.bl true))) D=some (.lst (ml.map V.ref)):=by rw [aj RN];exact W2.hD
    have hlu:upd H6 m (.dK (bS kvs (Sum.inr z) (.bl true))) l=some (.lst DG):=by rw [aj nlm];exact tV
    refine⟨_,rfl,.inl ⟨rfl,_,aI.of MK⟩,_,rfl,_,rfl,_,rfl,_,rfl,kc,λt4 CN=>?_⟩;have XT:=af CN (.tup [.int (k:Int),.int (j:Int)]);generalize upd (upd H6 m (.dK (bS kvs (Sum.inr z) (.bl true)))) t4 (.tup [.int (k:Int),.int (j:Int)])=H7 at XT;refine⟨vk,λl4 hl4=>?_⟩;have XS:=af hl4 (.lst [.ref t4]);have Z7:upd H7 l4 (.lst [.ref t4]) l4=some (.lst [.ref t4]):=ae;generalize upd H7 l4 (.lst [.ref t4])=H8 at XS Z7;have NH:=XT.trans XS;refine⟨l,l4,DG,[.ref t4],rfl,rfl,NH _ _ hlu,Z7,fits (by simp;omega),λc0 R8=>?_⟩;have XQ:=af R8 (.lst (DG++[.ref t4]));have Z6:upd H8 c0 (.lst (DG++[.ref t4])) c0=some (.lst (DG++[.ref t4])):=ae;have nc0:c0≠D:=(ay (NH _ _ MK) R8).symm;generalize upd H8 c0 (.lst (DG++[.ref t4]))=H9 at XQ Z6;refine⟨kc,λt5 P6=>?_⟩;have TL:=af P6 (.tup [.str z,.ref c0]);have Z4:aQ K (upd H9 t5 (.tup [.str z,.ref c0])) t5 [.str z,.ref c0]:=aQ.of ae;generalize upd H9 t5 (.tup [.str z,.ref c0])=AN at TL Z4;have sA:=(NH.trans XQ).trans TL;refine⟨D,_,_,rfl,rfl,sA _ _ MK,bL (by rw [au];omega),?_⟩;exact⟨ml++[t5],j5++[(z,c0)],ms++[z],_,_,_,_,rfl,W2.more fD fm hz ∅ nm sA Z4 (TL _ _ Z6) (by rw [bM];simp;omega) nc0,by rw [bM];omega,e0,jm _ VD,Wm⟩
   exact⟨ml,j5,ms,kvs,_,_,_,rfl,W2,h2,e0,VD,Wm⟩
  rintro σ H6 ⟨ml,j5,ms,kvs,y7,y8,y9,rfl,W2,h2,_⟩;exact⟨_,rfl,_,_,rfl,rfl,ml,j5,ms,kvs,_,_,_,_,rfl,W2,h2⟩
 refine⟨o7,λD9 Ko=>q D9 _ (W.sm.free Ko) (W.sm.trans (af Ko _)) ae⟩
end
end gL
namespace L2
open PySem PySem.Spec PyProof.Rows
section
variable {prog:Program}{w:World}{A:Around}{E:Value->Shared->Prop}{s:Shared}
def yi (a b c:Value):argsOk "min" ⟨[a],[("key",b),("default",c)]⟩:=by unfold argsOk;kernel_rfl
def tY {l:Addr}{kf dv:Value}{Q:Value->Shared->Prop}(hh:A.handled=none)(hl:s.heap.IsList l #[])(h:∀h' tk,(∀b o,s.heap.get? b=some o->h'.get? b=some o)->Q dv { s with heap:=h',toks:=tk }) :
  wpAny (model prog w) A (call (.builtin "min") [.ref l] [("key",kf),("default",dv)]) Q E s:=by
 have Ga:(toString "min" ++ toString ".loop":String) = "min.loop" := by decide
 refine wpAny_call (codeAny_call_builtin F.plain_min F.entry_min ?_);have core:wpAny (model prog w) A.in1 (Builtin.«min» ⟨[.ref l],[("key",kf),("default",dv)]⟩) (λfin s'=>match fin with
   | .done f=>(match (Except.ok f:Result) with | .ok (.ret v)=>Q v s' | .ok _=>False | .error e=>E e s')
   | .again c'=>c'.quiet=true/\codeAny (model prog w) A c' (λr s'=>match r with | .ok (.ret v)=>Q v s' | .ok _=>False | .error e=>E e s') s') E s:=by
  show wpAny _ A.in1 (Builtin.Builtins.bindParams "min" ["key","default"] 0 ⟨[],[("key",kf),("default",dv)]⟩ >>= _) _ _ s;refine ar (wpAny_of_eq (show Builtin.Builtins.bindParams "min" ["key","default"] 0 ⟨[],[("key",kf),("default",dv)]⟩=pure [some kf,some dv] from rfl) ?_);refine ar (aR ?_);refine ar (oR hl ?_);refine ar (iW ?_);rw [Ga];obtain⟨ol,h1,h2⟩:=id hl;generalize hG:s.heap.push { cls:=.type "list_iterator",data:=.fields #[.ref l,.int 0 0] }=G;have k1:∀b o,s.heap.get? b=some o->G.get? b=some o:=λb o e=>by rw [<-hG];exact bJ _ e
  have hi:G.get? s.heap.objs.size=some { cls:=.type "list_iterator",data:=.fields #[.ref l,.int 0 0] }:=by rw [<-hG];exact cW _ rfl
  refine aR ⟨kI F.plain_min_loop _,mf F.entry_min_loop ?_⟩;rw [qQ F.plain_min_loop _];show wpAny _ A.in1 (seqItems? (.ref G.objs.size) >>= _) _ _ _;refine ar (jl (cW _ rfl) rfl ?_);show wpAny _ A.in1 (tryCatch (pyNext (.ref s.heap.objs.size)) _ >>= _) _ _ _;refine ar (wpAny_tryCatch (u_ (show A.in1.handled=none from hh) ⟨_,bJ _ hi,rfl,rfl⟩ ⟨ol,bJ _ (k1 _ _ h1),h2⟩ (by simp) λh' eb=>?_));refine ar (ja (aR ?_));exact h h' _ λb o e=>eb b o (bN (ba e)) (bJ _ (k1 b o e))
 simp only [checkBuiltinCall,F.kind_min];cases Va:Manifest.signature? "min" with
 | none=>exact aR core
 | some sig =>
  have VL:Bind.checkArgs "min" sig ⟨[.ref l],[("key",kf),("default",dv)]⟩=pure ():=by have:=yi (.ref l) kf dv;simpa only [argsOk,Va] using this
  simp only [VL];exact aR core
end
def OH (K:a9)(t:TA)(td:TE):TE:=λσ H Q=>t σ H λvs H1=>td σ H1 λdv H2=>∃a,vs=[.ref a]/\aI K H2 a []/\Q dv H2
def IA {X:Cx}{p pos lp UO FV:Pos}{e e2:Expr}{t:TA}{td:TE}(hc:X.calm=true)(hg:Gl X "min")(hm:X.mg "min"=none)(Vw:Gl X "len")(Vo:X.mg "len"=none)(ha:PA X [e] t)(hd:PE X e2 td)
  (he:backTo pos (starEach [e] X.env)=(false,eval e X.env)::backTo pos (starEach [] X.env):=by rfl)(hp:(backTo pos (starEach [e] X.env)).any (·.1)=false:=by rfl) :
  PE X (.Call (.Name "min" p) [e] [⟨some "key",.Name "len" lp,UO⟩,⟨some "default",e2,FV⟩] pos) (OH X.K t td):=by
 intro ag s σ H Q I h;refine mU (iR I hg hm boot_min ?_);refine callWith_kw (cJ (ha pos ag s σ H _ I h) λus s1 bz=>?_) he hp rfl rfl;obtain⟨vs,H1,I1,r1,q1⟩:=bz;refine kws_cons (iR I1 Vw Vo cU (kws_cons (cJ (hd ag s1 σ H1 _ I1 q1) λu2 s2 bz=>?_)));obtain⟨dv,H2,I2,r2,a,ev,hs,q⟩:=bz;refine kws_nil ?_;subst ev;obtain⟨u,rfl,rx⟩:=vals1 r1;cases (show u=Value.ref a from rx);obtain⟨aU,rv,pl,hz⟩:=I2.list hs;cases rv;exact tY (I2.ok.hd hc) pl.isList λh' tk kk=>⟨dv,H2,I2.kept (t':=tk) kk,r2,q⟩
open PySem
def Dn {K:a9}{H:Hp}{p D:Addr}{ls:List Addr}{σ:St}{x:Str}{Qp:Hp->Prop}(hp:H p=some (.lst (ls.map V.ref)))(hl:∀l∈ls,H l=some (.lst []))(hD:H D=none)(q:∀H2,aC H H2->H2 D=some (.lst [])->Qp H2) :
  ∃W:Nat->Nat->List V->St->Hp->Prop,(∃m,W 0 m [] (eU [x] [] σ) (upd H D (.lst []))) /\
 ∀i m ys σ' H,W i m ys σ' H->((j_ K p).stop i H/\Qp H)\/((j_ K p).go i H/\∃m',m' < m/\∀x H',(j_ K p).m_ i H x H'->dQ 0 x σ' H' λσ2 H2=>gX 0 σ2 H2 λx H'=>∃k,G_ K x H' k/\(λb H3 =>
  if b=true then gX 0 σ2 H3 λy H4=>H4 D=some (.lst ys)/\ys.length < sizeLine/\W (i+1) m' (ys++[y]) σ2 (upd H4 D (.lst (ys++[y]))) else W (i+1) m' ys σ2 H3) k H'):=by
 refine cE (tif:=λσ H Q=>gX 0 σ H λx H'=>∃k,G_ K x H' k/\Q k H') (xs:=ls.map V.ref) (λi ys σ2 H5=>ys=[]/\(∃y0,σ2=[y0])/\aC H H5/\H5 D=some (.lst [])) ⟨rfl,⟨none,rfl⟩,af hD _,ae⟩ (λi ys σ2 H5 _ h=>aI.of (h.2.2.1 _ _ hp)) (λi x ys σ2 H5 ex h=>?_) (λys σ2 H5 h=>?_)
 .obtain⟨rfl,⟨y0,rfl⟩,s5,e5⟩:=h;rw [bh] at ex;obtain⟨l,el,rfl⟩:=cq.mp ex;refine goN ?_;refine⟨_,rfl,false,.inl ⟨[],aI.of (s5 _ _ (hl l (cg el))),rfl⟩,?_⟩;refine df ?_;exact⟨rfl,⟨_,rfl⟩,s5,e5⟩
 obtain⟨rfl,_,s5,e5⟩:=h;exact q H5 s5 e5
end L2
namespace gL
open PySem L2 M11
section
def Hd (aa:List aw)(rk:Str->Nat):Prop:=∀bC,wI aa bC->yo aa aa.length bC->∀n k j,Oj aa (hd aa) (λz=>decide (z∈bC.map (·.1))) n k j->∀ru z,aa[k]?=some ru->ru.2[j]?=some z->rk z < rk n
def Es (K:a9):Sp:=λvs H Q _=>∃(R:Addr)(rs:List Addr)(aa:List aw)(rk:Str->Nat),vs=[.ref R]/\aI K H R (rs.map V.ref)/\bI K H rs aa/\aa.length<=1000/\(∀ru∈aa,ru.2.length<=8)/\Hd aa rk /\
 ∀(D:Addr)(H':Hp),H D=none->aC H H'->H' D=some (.lst [])->Q (.ref D) H'
def y_:aK ["rules","steps","loops"] ["rules"] (av EH):=ir rfl rfl rfl rfl nofun
def IM (F:g_ K "find_loop" "find_loop" EH f fd)(T:Txt mg)(GS:aB P w K mg base 2 "steps_with_like_rows" ["rules"] (A8 K))(GW:aB P w K mg base 1 "way_back" ["rules","steps","name"] (JK K)):bO P w K mg base fk 3 f fd ["rules"] (Es K):=by
 refine F.ok y_ (λvs H Q E h=>?_) (λdW A outer s H vs Q E hr h=>?_)
 .obtain⟨R,rs,aa,rk,rfl,_⟩:=h;rfl
 obtain⟨R,rs,aa,rk,rfl,hR,b_,br,h8,hnl,q⟩:=h;refine⟨_,ai (aA (i:=1) y_.nd rfl (Or.inr rfl) (a8 GS hr rfl (ab (pv 0) ah)))
  (ai (iA (iy:=2) ["name"] [(0,"rules"),(1,"steps")] y_.nd rfl rfl rfl (Br (pv 1)) (bp rfl rfl) nofun rfl nofun
   (λ_ _ _ _ _=>aq (i:=0) (show (["name","rules","steps"]:List Str).Nodup by decide +kernel) rfl (bx rfl)) (λ_ _ _ _ _=>bY)
   (λ_ _ _ _ _=>a8 (GW.mono (by decide:1<=2)) hr rfl (ab (pv 1) (ab (pv 2) (ab (pv 0) ah)))))
  (ak (aL (IA rfl rfl T.min rfl T.len (ab (bF ["loop"] [] rfl (aZ (pv 2)) (bp rfl rfl) nofun rfl nofun
   (λ_ _ _ _ _=>aq (i:=0) (show (["loop"]:List Str).Nodup by decide +kernel) rfl (bx rfl)) (λ_ _ _ _ _=>hJ (Cj K (pv 0) (λ_=>rfl))) (λ_ _ _ _ _=>pv 0)) ah) (bc ah))))),?_⟩
 nofun
 refine⟨_,rfl,R,rs,aa,rfl,hR,b_,br,h8,λd ps st bC H1 fd1 s1 e1 S1 m1 N0 emp De hits=>?_⟩;have lps:ps.length<=1000:=by
  have h1:=congrArg List.length m1;have h2:=hV (aa.map (·.1)) [];simp only [iV,au] at h2;rw [au] at h1;have h3:(hd aa).length=(tN [] (aa.map (·.1))).length:=rfl;omega
 have VG:Down aa (ps.map (·.1)) st rk:=λn hn e he=>by
  rw [m1] at hn ⊢;have hit:=(hits n e.1 e.2 hn).mp he;obtain⟨ru,z,er,_,ez,hz,_⟩:=id hit;exact⟨ru,z,er,ez,hz,hnl bC emp De n e.1 e.2 hit ru z er ez⟩
 refine⟨_,rfl,d,_,rfl,e1,λo D hD=>?_⟩;have Uk:∀p∈ps,p.2≠d:=λp hp z=>by
  obtain⟨ts,a,_⟩:=S1.lst p hp;rw [z,e1] at a;cases a
 have s2:aC H (upd H1 d (.kj o (.dK (ps.map jF)))):=λb u hb=>by
  rw [aj (λz=>by rw [z,fd1] at hb;cases hb)];exact s1 b u hb
 have S2:DT K ps st (upd H1 d (.kj o (.dK (ps.map jF)))) d:=⟨.inr ⟨o,ae⟩,S1.n1,S1.n2,λp hp=>by
  obtain⟨ts,a,b⟩:=S1.lst p hp;exact⟨ts,by rw [aj (Uk p hp)];exact a,Paired.dJ b λ_ _ z=>ib e1 z⟩⟩
 have e2:upd H1 d (.kj o (.dK (ps.map jF))) d=some (.kj o (.dK (ps.map jF))):=ae;generalize upd H1 d (.kj o (.dK (ps.map jF)))=H2 at hD s2 S2 e2 ⊢;refine s_ (λi ys σ2 H3=>∃ls:List Addr,ys=ls.map V.ref/\ls.length=i/\(∀l∈ls,H3 l=some (.lst [])/\l≠D)/\(∃y0,σ2=[y0,aP R,aP d])/\aC H2 H3/\H3 D=some (.lst ys))
  ⟨[],rfl,rfl,by simp,⟨none,rfl⟩,af hD _,ae⟩ (λi ys σ2 H3 _ h=>?_) (λi kv ys σ2 H3 ex h=>?_) (λys σ2 H3 h=>?_)
 .obtain⟨_,_,_,_,_,sm,_⟩:=h;exact sm _ _ e2
 .obtain⟨ls,rfl,YY,hl,⟨y0,rfl⟩,sm,jh⟩:=h;rw [bh] at ex;obtain⟨p,ep,rfl⟩:=cq.mp ex;have hp:=cg ep;have li:=(bq.mp ep).1;refine goN (yB ?_);have s3:=s2.trans sm;refine⟨_,rfl,_,rfl,_,rfl,R,d,rs,aa,ps,st,p.1,rk,rfl,s3.seq hR,b_.same s3,br,S2.same sm,lps,jZ hp,VG,λD4 H4 f4 s4 e4=>?_⟩;have DP:=s4 _ _ jh;have Yk:D4≠D:=λz=>by rw [z,jh] at f4;cases f4
  refine⟨DP,bL (by rw [au];omega),ls++[D4],by rw [bG];rfl,by rw [bM,YY];rfl,λl Vr=>?_,⟨_,rfl⟩,λb u hb=>?_,ae⟩
  .rcases cC.mp Vr with h | h
   .obtain⟨a1,a2⟩:=hl l h;exact⟨by rw [aj a2];exact s4 _ _ a1,a2⟩
   rw [bV.mp h];exact⟨by rw [aj Yk];exact e4,Yk⟩
  rw [aj (λz=>by rw [z,hD] at hb;cases hb)];exact s4 _ _ (sm b u hb)
 obtain⟨ls,rfl,YY,hl,_,sm,jh⟩:=h;have s3:=s2.trans sm;refine⟨_,rfl,D,rfl,⟨_,aI.of jh⟩,λD5 NW=>?_⟩;refine Dn jh (λl Vr=>(hl l Vr).1) NW λH5 s5 e5=>?_;refine⟨o7,λD6 VY=>⟨D5,rfl,aI.of (af VY _ _ _ e5),?_⟩⟩;exact q D6 _ ((s3.trans s5).free VY) ((s3.trans s5).trans (af VY _)) ae
end
end gL
namespace L2
open PySem
def AR {K:a9}{T:Addr}{pos:Pos}{qu:Str}{H H':Hp}{a:Addr}{xs:List V}(s:d0 T H H')(t:Tab T pos qu H)(h:aQ K H a xs):aQ K H' a xs:=by
 obtain⟨ps,b,_⟩:=t;rcases h with (h | ⟨u,h⟩) | h
 .exact .inl (.inl (s _ _ (λz=>by rw [z,b] at h;cases h) h))
 .exact .inl (.inr ⟨u,s _ _ (λz=>by rw [z,b] at h;cases h) h⟩)
 exact .inr h
def Bl {K:a9}{T:Addr}{pos:Pos}{qu:Str}{H H':Hp}{a:Addr}{xs:List V}(s:d0 T H H')(t:Tab T pos qu H)(h:aI K H a xs):aI K H' a xs:=by
 obtain⟨ps,b,_⟩:=t;rcases h with (h | ⟨u,h⟩) | h
 .exact .inl (.inl (s _ _ (λz=>by rw [z,b] at h;cases h) h))
 .exact .inl (.inr ⟨u,s _ _ (λz=>by rw [z,b] at h;cases h) h⟩)
 exact .inr h
def AU {T T':Addr}{pos pos':Pos}{qu Hk:Str}{H H':Hp}(s:d0 T H H')(t:Tab T pos qu H)(h:Tab T' pos' Hk H)(n:T'≠T):Tab T' pos' Hk H':=by
 obtain⟨ps,b,_⟩:=t;obtain⟨JY,a,o,c⟩:=h;refine⟨JY,s _ _ n a,o,c.imp id ?_⟩;rintro⟨c',e,g⟩;exact⟨c',e,s _ _ (λz=>by rw [z,b] at g;cases g) g⟩
def sX {K:a9}{H:Hp}{p D:Addr}{zs:List Str}{σ:St}{js:List (Nat×Str)}{cs:List (Option V)}{tif:TT}{te:TE}{Qp:Hp->Prop}(hσ:eU ["name"] js σ=none::cs)(hp:aI K H p (zs.map V.str))(hD:H D=none)
  (ht:∀z∈zs,∀H2 Q,aC H H2->Q false H2->tif (some (.str z)::cs) H2 Q)(q:∀H2,aC H H2->H2 D=some (.lst [])->Qp H2) :
  ∃W:Nat->Nat->List V->St->Hp->Prop,(∃m,W 0 m [] (eU ["name"] js σ) (upd H D (.lst []))) /\
 ∀i m ys σ' H,W i m ys σ' H->((j_ K p).stop i H/\Qp H)\/((j_ K p).go i H/\∃m',m' < m/\∀x H',(j_ K p).m_ i H x H'->dQ 0 x σ' H' λσ2 H2=>tif σ2 H2 λb H3 =>
  if b=true then te σ2 H3 λy H4=>H4 D=some (.lst ys)/\ys.length < sizeLine/\W (i+1) m' (ys++[y]) σ2 (upd H4 D (.lst (ys++[y]))) else W (i+1) m' ys σ2 H3):=by
 refine cE (xs:=zs.map V.str) (λi ys σ2 H5=>ys=[]/\(∃y0,σ2=y0::cs)/\aC H H5/\H5 D=some (.lst [])) ⟨rfl,⟨none,hσ⟩,af hD _,ae⟩ (λi ys σ2 H5 _ h=>h.2.2.1.seq hp) (λi x ys σ2 H5 ex h=>?_) (λys σ2 H5 h=>?_)
 .obtain⟨rfl,⟨y0,rfl⟩,s5,e5⟩:=h;rw [bh] at ex;obtain⟨z,ez,rfl⟩:=cq.mp ex;refine goN ?_;refine ht z (cg ez) H5 _ s5 ?_;refine df ?_;exact⟨rfl,⟨_,rfl⟩,s5,e5⟩
 obtain⟨rfl,_,s5,e5⟩:=h;exact q H5 s5 e5
end L2
namespace gL
open PySem L2 M11
section
structure Good (aa:List aw)(rk:Str->Nat)(b:Str->Int):Prop where
 least:∀g,eJ M11.bl aa (yC aa) g->i_ M11.bl aa g->∀h∈hd aa,∃n,g h=some n/\n<=60
 met:∀lU ms,aa[0]?=some lU->lU.1∈ms->He aa aa.length ms->∀h∈hd aa,h∈ms
 loop:Hd aa rk
 Sz:yq aa b
 most:∀h∈hd aa,b h<=60
def l7 (T1 T2:Addr)(H H':Hp):Prop:=∀b o,b≠T1->b≠T2->H b=some o->H' b=some o
def rJ (K:a9)(T1 T2:Addr):Sp:=λvs H Q _=>∃(R S:Addr)(rs ss:List Addr)(aa str:List aw)(rk:Str->Nat)(b:Str->Int),vs=[.ref R,.ref S]/\aI K H R (rs.map V.ref)/\bI K H rs aa/\aa.length<=1000/\(∀ru∈aa,ru.2.length<=8)/\aa≠[] /\
 aI K H S (ss.map V.ref)/\bI K H ss str/\str.length<=1000/\(∀ru∈str,ru.2.length<=8)/\(str.flatMap (·.2)).Nodup/\Good aa rk b/\Tab T1 sf.2.2.2 yw H/\Tab T2 Aa.2.2.2 Kc H/\T1≠T2 /\
 ∀H',l7 T1 T2 H H'->Tab T1 sf.2.2.2 yw H'->Tab T2 Aa.2.2.2 Kc H'->Q .d7 H'
def ie:aK ["rules","strengths","least","endless","met","unmet","steps","greatest","vast"] ["rules","strengths"] (av vK):=ir rfl rfl rfl rfl nofun
def Cs {T1 T2:Addr}{tm:Tok}(F:g_ K "refuse_faults" "refuse_faults" vK f fd)(T:Txt mg)(hM:mg "MOST_RULES"=some (.int 60 tm))(GT:aB P w K mg base 1 "refuse_twice" ["strengths"] (A7 K))(GL:aB P w K mg base 3 "least_sizes" ["rules"] (qC K T1))
  (GH:aB P w K mg base 1 "heads_of" ["rules"] (iX K))(GM:aB P w K mg base 1 "names_met" ["rules"] (JN K))(GF:aB P w K mg base 3 "find_loop" ["rules"] (Es K))(GG:aB P w K mg base 3 "greatest_empty_sizes" ["rules"] (vw K T2)) :
  bO P w K mg base fk 4 f fd ["rules","strengths"] (rJ K T1 T2):=by
 refine F.ok ie (λvs H Q E h=>?_) (λdW A outer s H vs Q E hr h=>?_)
 .obtain⟨R,S,rs,ss,aa,str,rk,b,rfl,_⟩:=h;rfl
 obtain⟨R,S,rs,ss,aa,str,rk,b,rfl,hR,b_,br,h8,DO,hS,RS,U7,Vd,Vc,gd,Jf,Sb,nT,q⟩:=h;have hu:=fS hr;refine⟨_,ai (bw (gk (gG (pv 0) (λ_=>rfl))) (ak iM) aM)
  (ai (bX (a8 (GT.mono (by decide:1<=3)) hr rfl (ab (pv 1) ah)))
  (ai (aA (i:=2) ie.nd rfl (Or.inr rfl) (a8 GL hr rfl (ab (pv 0) ah)))
  (ai (iA (iy:=3) ["name"] [(2,"least")] ie.nd rfl rfl rfl (aZ (a8 (GH.mono (by decide:1<=3)) hr rfl (ab (pv 0) ah))) (bp rfl rfl) nofun rfl nofun
   (λ_ _ _ _ _=>aq (i:=0) (show (["name","least"]:List Str).Nodup by decide +kernel) rfl (bx rfl)) (λ_ _ _ _ _=>hJ (cZ (dZ hu (pv 0) (pv 1)))) (λ_ _ _ _ _=>pv 0))
  (ai (bw (gG (pv 3) (λ_=>rfl)) (ak iM) aM)
  (ai (aA (i:=4) ie.nd rfl (Or.inr rfl) (a8 (GM.mono (by decide:1<=3)) hr rfl (ab (pv 0) ah)))
  (ai (iA (iy:=5) ["name"] [(4,"met")] ie.nd rfl rfl rfl (aZ (a8 (GH.mono (by decide:1<=3)) hr rfl (ab (pv 0) ah))) (bp rfl rfl) nofun rfl nofun
   (λ_ _ _ _ _=>aq (i:=0) (show (["name","met"]:List Str).Nodup by decide +kernel) rfl (bx rfl)) (λ_ _ _ _ _=>hJ (cZ (dZ hu (pv 0) (pv 1)))) (λ_ _ _ _ _=>pv 0))
  (ai (bw (gG (pv 5) (λ_=>rfl)) (ak iM) aM)
  (ai (aA (i:=6) ie.nd rfl (bx rfl) (a8 GF hr rfl (ab (pv 0) ah)))
  (ai (bw (gG (pv 6) (λ_=>rfl)) (ak iM) aM)
  (ai (aA (i:=7) ie.nd rfl (Or.inr rfl) (a8 GG hr rfl (ab (pv 0) ah)))
  (ai (iA (iy:=8) ["name"] [(2,"least"),(7,"greatest")] ie.nd rfl rfl rfl (aZ (a8 (GH.mono (by decide:1<=3)) hr rfl (ab (pv 0) ah))) (bp rfl rfl) nofun rfl nofun
   (λ_ _ _ _ _=>aq (i:=0) (show (["name","least","greatest"]:List Str).Nodup by decide +kernel) rfl (bx rfl)) (λ_ _ _ _ _=>hJ (aV rZ (aD (Dr rfl) rfl T.max PyProof.Rows.boot_max (ab (fK hu (pv 1) (pv 0) (λ_ _=>rfl)) (ab (Fc hu (pv 2) (pv 0) ao ⟨rfl,rfl,rfl,rfl⟩) ah))) (IC (v:=.int 60) rfl hM ⟨tm,rfl⟩) (bu _))) (λ_ _ _ _ _=>pv 0))
  (ak (bw (gG (pv 8) (λ_=>rfl)) (ak iM) aM))))))))))))),?_⟩
 nofun
 have ll:=aY b_;obtain⟨lU,F7⟩:∃lU,aa[0]?=some lU:=by
  cases aa with
  | nil=>exact absurd rfl DO
  | cons a r=>exact⟨a,rfl⟩
 have eR:(rs.map V.ref).isEmpty=false:=by
  have l0:=(bq.mp F7).1;cases rs with
  | nil=>simp at ll;omega
  | cons a r=>rfl
 refine⟨_,rfl,true,.inl ⟨_,hR,by rw [eR];rfl⟩,?_⟩;refine df ?_;refine⟨_,rfl,S,ss,str,rfl,hS,RS,U7,Vd,Vc,λH1 s1=>?_⟩;have RA:=Jf.same s1;have t21:=Sb.same s1;refine⟨_,rfl,R,rs,aa,rfl,s1.seq hR,b_.same s1,br,h8,RA,λdl kl ksl gl H2 fl s2 t12 el kkl vl stl sel _=>?_⟩;have Hz:=Bl s2 RA (s1.seq hR);have CQ:=(b_.same s1).keep λ_ _ z=>AR s2 RA z;have t22:=AU s2 RA t21 nT.symm;have hl:=gd.least gl stl sel;have S02:l7 T1 T2 H H2:=λb o n1 _ hb=>s2 b o n1 (s1 b o hb);refine⟨_,rfl,R,rs,aa,rfl,Hz,CQ,br,λD3 H3 f3 s3 e3=>⟨D3,rfl,⟨_,aI.of e3⟩,λD4 hD4=>sX rfl (aI.of e3) hD4 (λz hz H' Q' s' hQ=>?_) λH4 s4 e4=>?_⟩⟩
 .obtain⟨n,en,_⟩:=hl z hz;have hg:cz H' dl (.str z) (some (.int n)):=by
   have:=cz.k (k:=Sum.inr z) (s' _ _ (s3 _ _ el));rw [vl,en] at this;exact this
  exact⟨_,rfl,_,rfl,dl,_,rfl,hg,_,rfl,hQ⟩
 refine⟨_,rfl,false,.inl ⟨[],aI.of e4,rfl⟩,?_⟩;refine df ?_;have Ly:=s3.trans s4;refine⟨_,rfl,R,rs,aa,lU,rfl,Ly.seq Hz,CQ.same Ly,F7,br,h8,λdm km ms H5 f5 s5 em kkm Ca _ mc5=>?_⟩;have TN:=Ly.trans s5;refine⟨_,rfl,R,rs,aa,rfl,TN.seq Hz,CQ.same TN,br,λD6 H6 f6 s6 e6=>⟨D6,rfl,⟨_,aI.of e6⟩,λD7 QA=>sX rfl (aI.of e6) QA (λz hz H' Q' s' hQ=>?_) λH7 s7 e7=>?_⟩⟩
 .have hm:=gd.met lU ms F7 Ca mc5 z hz;have hv:(bB km (Sum.inr z)).isSome=true:=by rw [fg,kkm];exact di.mpr hm
  refine⟨_,rfl,_,rfl,dm,_,rfl,cz.k (k:=Sum.inr z) (s' _ _ (s6 _ _ em)),_,rfl,?_⟩;rw [hv];exact hQ
 refine⟨_,rfl,false,.inl ⟨[],aI.of e7,rfl⟩,?_⟩;refine df ?_;have TM:=(TN.trans s6).trans s7;refine⟨_,rfl,R,rs,aa,rk,rfl,TM.seq Hz,CQ.same TM,br,h8,gd.loop,λD8 H8 f8 s8 e8=>?_⟩;refine⟨_,rfl,false,.inl ⟨[],aI.of e8,rfl⟩,?_⟩;refine df ?_;have JS:=TM.trans s8;have t18:=t12.same JS;have OT:=t22.same JS;refine⟨_,rfl,R,rs,aa,b,rfl,JS.seq Hz,CQ.same JS,br,h8,gd.Sz,OT,λdg kg ksg gg H9 f9 s9 t29 eg kkg vg jg _ _=>?_⟩;have hR9:=Bl s9 OT (JS.seq Hz);have Ve:=(CQ.same JS).keep λ_ _ z=>AR s9 OT z;have Tx:=AU s9 OT t18 nT;have Zz:=JS _ _ el;have el9:=s9 _ _ (λz=>by obtain⟨ps,a,_⟩:=OT;rw [<-z,Zz] at a;cases a) Zz;refine⟨_,rfl,R,rs,aa,rfl,hR9,Ve,br,λXl AN f10 vT DQ=>⟨Xl,rfl,⟨_,aI.of DQ⟩,λD11 VZ=>sX rfl (aI.of DQ) VZ (λz hz H' Q' s' hQ=>?_) λDE Iq HM=>?_⟩⟩
 .obtain⟨n,en,aaj⟩:=hl z hz;have Je:cz H' dl (.str z) (some (.int n)):=by
   have:=cz.k (k:=Sum.inr z) (s' _ _ (vT _ _ el9));rw [vl,en] at this;exact this
  have ZD:=s' _ _ (vT _ _ eg);obtain⟨v,Km,hv2⟩:∃v:Int,((gg z).map V.int).getD (.int 0)=.int v/\v<=60:=by
   cases e:gg z with
   | none=>exact⟨0,rfl,nofun⟩
   | some v=>exact⟨v,rfl,Int.le_trans (jg z v e).2.1 (gd.most z hz)⟩
  have Vw:cz H' dg (.str z) ((gg z).map V.int):=by
   have:=cz.k (k:=Sum.inr z) ZD;rw [vg] at this;exact this
  refine⟨_,rfl,_,rfl,dl,_,rfl,Je,_,rfl,dg,rfl,.inl ⟨_,.inl ZD⟩,_,rfl,_,Vw,?_⟩;rw [Km];refine⟨n,v,rfl,_,_,rfl,rfl,_,rfl,?_⟩;rw [dq (by split <;> omega)]
  exact hQ
 refine⟨_,rfl,false,.inl ⟨[],aI.of HM,rfl⟩,?_⟩;refine df ?_;have Lx:=vT.trans Iq;exact q DE (λc o n1 n2 hc=>Lx c o (s9 c o n2 (JS c o (S02 c o n1 n2 hc)))) (Tx.same Lx) (t29.same Lx)
end
end gL
namespace M11
open PySem L2
abbrev Be:=Str×Str×Nat×Nat
def gw (cM:List Be):List (Str×Str):=cM.map λb=>(b.1,b.2.1)
def oq (cM:List Be)(n:Str):List Str:=(cM.filter λb=>decide (b.1=n)).map (·.2.1)
def qo (names:List Str)(cM:List Be)(z:Str):List Str:=if z∈names then oq cM z else [z]
inductive wO (aa:List aw) (names:List Str)(b:Str->Bool):List Be->Prop
 | nil:wO aa names b []
 | snoc {cM:List Be}{k j:Nat}{ru:aw}{z w:Str}:wO aa names b cM->aa[k]?=some ru->ru.2[j]?=some z->j < C6 b ru.2->w∈qo names cM z->(ru.1,w)∉gw cM->wO aa names b (cM++[(ru.1,w,k,j)])
def Ap {cM:List Be}{n w:Str}:w∈oq cM n↔(n,w)∈gw cM:=by
 unfold oq gw;rw [cQ,cQ];constructor
 .rintro⟨b,hb,rfl⟩;obtain⟨h1,h2⟩:=lP.mp hb;exact⟨b,h1,by rw [dr h2]⟩
 rintro⟨b,hb,e⟩;cases e;exact⟨b,lP.mpr ⟨hb,bW rfl⟩,rfl⟩
def BD (cM:List Be)(b:Be)(n:Str):oq (cM++[b]) n=oq cM n++(if b.1=n then [b.2.1] else []):=by
 unfold oq;rw [oY,bG];by_cases c:b.1=n
 .rw [ax c];simp [c]
 rw [az c];simp [c]
end M11
namespace gL
open PySem L2 M11
def Jt:Stmt->List Stmt
 | .ClassDef _ _ _ b _ _ _ _ _ _ _=>b
 | _=>[]
abbrev Px (st:Stmt) (i:Nat):Stmt:=(Jt st).getD i (.Pass ⟨0,0,0,0⟩)
abbrev zw:Stmt:=Px zu 0
abbrev EL:Stmt:=Px zu 1
abbrev zj:Stmt:=Px zu 2
abbrev vN:Stmt:=Px EI 0
section
structure BC (K:a9)(C:Addr):Prop where
 cls:DF K C
 a1:d5 K C "empties"
 a2:d5 K C "empty"
 a3:d5 K C "begins"
 a4:d5 K C "firsts"
structure ua (K:a9)(C:Addr)(H0 H:Hp)(a e d bg:Addr)(kE:List (aS×V))(bC:List (Str×Nat))(ps:List (Str×Addr))(cM:List Be):Prop where
 sm:aC H0 H
 ia:∃dx fs,H a=some (.ins C dx fs)/\fs.lookup ("empty":Str)=some (.ref e)/\fs.lookup ("begins":Str)=some (.ref bg)/\fs.lookup ("firsts":Str)=some (.ref d)/\fs.lookup ("find_begins":Str)=none/\fs.lookup ("words_of_part":Str)=none
 he:H e=some (.dK kE)
 hd:H d=some (.dK (ps.map jF))
 n1:(ps.map (·.1)).Nodup
 n2:(ps.map (·.2)).Nodup
 dk:∀p∈ps,(∃kvs,H p.2=some (.dK kvs)/\kvs.map (·.1)=(oq cM p.1).map Sum.inr)/\H0 p.2=none/\p.2≠e/\p.2≠d
 lb:∃ts,H bg=some (.lst (ts.map V.ref))/\Paired (λt (b:Be)=>aQ K H t [.str b.1,.str b.2.1,.int (b.2.2.1:Int),.int (b.2.2.2:Int)]) ts cM
 fb:H0 bg=none
 em:∃e1 ts,(∃dx fs,H a=some (.ins C dx fs)/\fs.lookup ("empties":Str)=some (.ref e1))/\H e1=some (.lst (ts.map V.ref))/\pS K H ts bC/\e1≠bg
def ua.same {C:Addr}{H0 H H':Hp}{a e d bg:Addr}{kE:List (aS×V)}{bC:List (Str×Nat)}{ps:List (Str×Addr)}{cM:List Be}(h:ua K C H0 H a e d bg kE bC ps cM)(s:aC H H'):ua K C H0 H' a e d bg kE bC ps cM:=by
 refine⟨h.sm.trans s,?_,s _ _ h.he,s _ _ h.hd,h.n1,h.n2,λp hp=>?_,?_,h.fb,?_⟩
 .obtain⟨dx,fs,q,r⟩:=h.ia;exact⟨dx,fs,s _ _ q,r⟩
 .obtain⟨⟨kvs,q,r⟩,t⟩:=h.dk p hp;exact⟨⟨kvs,s _ _ q,r⟩,t⟩
 .obtain⟨ts,q,r⟩:=h.lb;exact⟨ts,s _ _ q,Paired.dJ r λ_ _ z=>s.tup z⟩
 obtain⟨e1,ts,⟨dx,fs,q1,q2⟩,q3,q4,q5⟩:=h.em;exact⟨e1,ts,⟨dx,fs,s _ _ q1,q2⟩,s _ _ q3,q4.keep λ_ _ z=>s.tup z,q5⟩
def Ba (K:a9)(C:Addr):Sp:=λvs H Q _=>∃(H0:Hp)(a e d bg:Addr)(kE:List (aS×V))(bC:List (Str×Nat))(ps:List (Str×Addr))(cM:List Be)(z:Str),vs=[.ref a,.str z]/\ua K C H0 H a e d bg kE bC ps cM /\
 ∀(D:Addr)(H':Hp),H D=none->aC H H'->H' D=some (.lst ((qo (ps.map (·.1)) cM z).map V.str))->Q (.ref D) H'
def Ih:aK ["self","part"] ["self","part"] (av zj):=ir rfl rfl rfl rfl nofun
def Fq {C:Addr}(F:g_ K "words_of_part" "BeginTable.words_of_part" zj f fd)(T:Txt mg)(B:BC K C):bO P w K mg base fk 1 f fd ["self","part"] (Ba K C):=by
 refine F.ok Ih (λvs H Q E h=>?_) (λdW A outer s H vs Q E hr h=>?_)
 .obtain⟨H0,a,e,d,bg,kE,bC,ps,cM,z,rfl,_⟩:=h;rfl
 obtain⟨H0,a,e,d,bg,kE,bC,ps,cM,z,rfl,S,q⟩:=h;have hu:=fS hr;obtain⟨dx,fs,ea,f1,f2,f3,f4,f5⟩:=S.ia;refine⟨_,ak (aL (rW (cZ (jN hu (pv 1) (fc (pv 0) rfl))) (bE (mJ rfl) rfl T.lst iU (ab (fK hu (fc (pv 0) rfl) (pv 1) (λ_ _=>rfl)) ah)) (bc (ab (pv 1) ah)))),?_⟩;dsimp only [AA];have mem:(bB (ps.map jF) (Sum.inr z)).isSome=true↔z∈ps.map (·.1):=by rw [fg,nX];exact di
 refine⟨_,rfl,_,rfl,a,C,dx,fs,_,rfl,ea,B.cls,B.a4,f3,d,_,rfl,cz.k (k:=Sum.inr z) S.hd,_,rfl,?_⟩;refine bZ (λc=>?_) (λc=>?_)
 .have hz:=mem.mp c;obtain⟨p,hp,ep⟩:=cQ.mp hz;obtain⟨⟨kvs,hk,kk⟩,_⟩:=S.dk p hp;have vn:=gW ps S.n1 p hp;rw [ep] at vn;have hg:cz H d (.str z) (some (.ref p.2)):=by
   have:=cz.k (k:=Sum.inr z) S.hd;rw [vn] at this;exact this
  refine⟨_,rfl,a,C,dx,fs,_,rfl,ea,B.cls,B.a4,f3,_,rfl,d,_,rfl,hg,p.2,kvs,rfl,hk,λD hD=>?_⟩;refine q D _ hD (af hD _) ?_;rw [ae,keys_str kk,ep];unfold qo;rw [ax hz]
 refine⟨_,rfl,vk,λD hD=>?_⟩;refine q D _ hD (af hD _) ?_;rw [ae];unfold qo;rw [az (λh=>c (mem.mpr h))];rfl
def ua.more {C:Addr}{H0 H H2:Hp}{a e d bg t:Addr}{kE kvs:List (aS×V)}{bC:List (Str×Nat)}{ps:List (Str×Addr)}{cM:List Be}{p:Str×Addr}{wd:Str}{k j:Nat}{ts:List Addr}(h:ua K C H0 H a e d bg kE bC ps cM)(hp:p∈ps)(hk:H p.2=some (.dK kvs))(kk:kvs.map (·.1)=(oq cM p.1).map Sum.inr)
  (hn:(p.1,wd)∉gw cM)(hb:H bg=some (.lst (ts.map V.ref)))(NV:Paired (λt (b:Be)=>aQ K H t [.str b.1,.str b.2.1,.int (b.2.2.1:Int),.int (b.2.2.2:Int)]) ts cM)
  (s:aC (upd H p.2 (.dK (bS kvs (Sum.inr wd) (.bl true)))) H2)(ht:aQ K H2 t [.str p.1,.str wd,.int (k:Int),.int (j:Int)]) :
  ua K C H0 (upd H2 bg (.lst (ts.map V.ref++[.ref t]))) a e d bg kE bC ps (cM++[(p.1,wd,k,j)]):=by
 have RM:bg≠p.2:=λz=>by rw [z,hk] at hb;cases hb
 have Hw:H2 bg=some (.lst (ts.map V.ref)):=s _ _ (by rw [aj RM];exact hb);obtain⟨_,fp,Yb,Yc⟩:=h.dk p hp;have up:∀c o,c≠bg->c≠p.2->H c=some o->upd H2 bg (.lst (ts.map V.ref++[.ref t])) c=some o:=λc o n1 n2 q=>by
  rw [aj n1];exact s _ _ (by rw [aj n2];exact q)
 refine⟨λc o hc=>up c o (λz=>by rw [z,h.fb] at hc;cases hc) (λz=>by rw [z,fp] at hc;cases hc) (h.sm c o hc),?_,up _ _ (λz=>by have:=h.he;rw [z,hb] at this;cases this) Yb.symm h.he,up _ _ (λz=>by have:=h.hd;rw [z,hb] at this;cases this) Yc.symm h.hd,h.n1,h.n2,λp' n8=>?_,⟨ts++[t],by rw [ae,bG];rfl,?_⟩,h.fb,?_⟩
 .obtain⟨dx,fs,q,r⟩:=h.ia;exact⟨dx,fs,up _ _ (λz=>by rw [z,hb] at q;cases q) (λz=>by rw [z,hk] at q;cases q) q,r⟩
 .obtain⟨⟨mD,q,r⟩,t'⟩:=h.dk p' n8;refine⟨?_,t'⟩;by_cases z:p'=p
  .rw [z];refine⟨bS kvs (Sum.inr wd) (.bl true),by rw [aj RM.symm];exact s _ _ ae,?_⟩;rw [iZ (by rw [kk];exact λq=>hn (Ap.mp (di.mp q))),kk,BD,ax rfl,bG];rfl
  have n1:p'.1≠p.1:=λq'=>z (by
   have w1:=gW ps h.n1 p' n8;have w2:=gW ps h.n1 p hp;rw [q',w2] at w1;injection w1 with w3;injection w3 with w4;exact Prod.ext q' w4.symm)
  have n2:p'.2≠p.2:=λq'=>by
   obtain⟨i,hi,ei⟩:=qR.mp n8;obtain⟨j',hj,ej⟩:=qR.mp hp;have Jd:i=j':=by
    refine(uY (xs:=ps.map (·.2)) (h₀:=by simpa using hi) (h₁:=by simpa using hj) h.n2).mp ?_;rw [oS,oS,ei,ej];exact q'
   subst Jd;exact z (ei.symm.trans ej)
  refine⟨mD,up _ _ (λz=>by rw [z,hb] at q;cases q) n2 q,?_⟩;rw [r,BD,az (λq'=>n1 q'.symm),iu]
 .exact gR (Paired.dJ NV λ_ _ z=>aT Hw (s.tup (ib hk z))) (aT Hw ht)
 obtain⟨e1,te,⟨dx,fs,q1,q2⟩,q3,q4,q5⟩:=h.em;exact⟨e1,te,⟨dx,fs,up _ _ (λz=>by rw [z,hb] at q1;cases q1) (λz=>by rw [z,hk] at q1;cases q1) q1,q2⟩,up _ _ q5 (λz=>by rw [z,hk] at q3;cases q3) q3,q4.keep λ_ _ z=>aT Hw (s.tup (ib hk z)),q5⟩
def MR (l m:List Be)(n:Str):oq (l++m) n=oq l n++oq m n:=by
 unfold oq;rw [oY,bG]
def HZ {names:List Str}(l m:List Be){z x:Str}(h:x∈qo names l z):x∈qo names (l++m) z:=by
 unfold qo at h ⊢
 split
 .rename_i c
  rw [ax c] at h;rw [MR];exact jm _ h
 rename_i c
 rw [az c] at h;exact h
def MQ (cM:List Be)(n:Str):(oq cM n).length<=cM.length:=by
 unfold oq;rw [au];exact rq _ _
def Nl {n i:Nat}(h:i < n):(cnt n)[i]?=some (.int (i:Int)):=by
 unfold cnt;rw [bh,List.getElem?_range h];rfl
def BN (n:Nat):(cnt n).length=n:=by unfold cnt;rw [au,u3]
def Ew (K:a9)(C:Addr):Sp:=λvs H Q _=>∃(H0:Hp)(a e d bg r:Addr)(kE:List (aS×V))(bC:List (Str×Nat))(ps:List (Str×Addr))(cM:List Be) (k:Nat)(ru:aw)(aa:List aw),vs=[.ref a,.int (k:Int),.ref r]/\ua K C H0 H a e d bg kE bC ps cM/\BZ K H0 r ru/\aa[k]?=some ru/\ru.2.length<=8 /\
 ru.1∈ps.map (·.1)/\(∀wB:List Be,wO aa (ps.map (·.1)) (λz=>(bB kE (Sum.inr z)).isSome) wB->wB.length<=900000)/\wO aa (ps.map (·.1)) (λz=>(bB kE (Sum.inr z)).isSome) cM /\
 ∀(wB:List Be)(H':Hp),ua K C H0 H' a e d bg kE bC ps wB->wO aa (ps.map (·.1)) (λz=>(bB kE (Sum.inr z)).isSome) wB->cM.length<=wB.length->(wB.length=cM.length->wB=cM/\∀j z,j < C6 (λz=>(bB kE (Sum.inr z)).isSome) ru.2->ru.2[j]?=some z->∀wd∈qo (ps.map (·.1)) cM z,(ru.1,wd)∈gw cM)->Q .d7 H'
def vG:aK ["self","number","rule","own","place","word"] ["self","number","rule"] (av EL):=ir rfl rfl rfl rfl nofun
def IS {C fW:Addr}{Zj:FuncData}(F:g_ K "find_begins" "BeginTable.find_begins" EL f fd)(T:Txt mg)(B:BC K C)(GP:aB P w K mg base 1 "first_places" ["parts","empty"] (w6 K))(FW:bO P w K mg base fk 1 fW Zj ["self","part"] (Ba K C))(MW:Meth K C "words_of_part" fW)(BW:Binds K Zj ["self","part"] []) :
  bO P w K mg base fk 2 f fd ["self","number","rule"] (Ew K C):=by
 refine F.ok vG (λvs H Q E h=>?_) (λdW A outer s H vs Q E hr h=>?_)
 .obtain⟨H0,a,e,d,bg,r,kE,bC,ps,cM,k,ru,aa,rfl,_⟩:=h;rfl
 obtain⟨H0,a,e,d,bg,r,kE,bC,ps,cM,k,ru,aa,rfl,S,⟨p,v1,v2⟩,er,h8,hh,hbd,VJ,q⟩:=h;have hu:=fS hr;refine⟨_,ai (aA (i:=3) vG.nd rfl (bx rfl) (fK hu (fc (pv 0) rfl) (aF aN (pv 2) ao (λ_ _=>rfl)) (λ_ _=>rfl)))
  (ak (bQ b0 rfl (aZ (a8 GP hr rfl (ab (aF aN (pv 2) ao (λ_ _=>rfl)) (ab (fc (pv 0) rfl) ah)))) (aq (i:=4) vG.nd rfl (bx rfl))
   (ak (bQ b0 rfl (aZ (Bs (pv 0) B.cls MW FW hr BW .nil uo (ab (aF aN (aF aN (pv 2) ao (λ_ _=>rfl)) (pv 4) (λ_ _=>rfl)) ah))) (aq (i:=5) vG.nd rfl (bx rfl))
    (ak (bw (cZ (dZ hu (pv 5) (pv 3)))
     (ai (i0 hu (pv 3) (pv 5) dI rfl)
     (ak (bX (ft eG fZ f_ bK (fc (pv 0) rfl) (ab (bD (ab (aF aN (pv 2) ao (λ_ _=>rfl)) (ab (pv 5) (ab (pv 1) (ab (pv 4) ah))))) ah))))) aM)))))),?_⟩
 nofun
 obtain⟨pn,xN,yF⟩:=cQ.mp hh;have vn:=gW ps S.n1 pn xN;rw [yF] at vn;obtain⟨dx,fs,ea,f1,f2,f3,f4,f5⟩:=S.ia;have hg:cz H d (.str ru.1) (some (.ref pn.2)):=by
  have:=cz.k (k:=Sum.inr ru.1) S.hd;rw [vn] at this;exact this
 refine⟨_,rfl,a,C,dx,fs,_,rfl,ea,B.cls,B.a4,f3,_,rfl,r,_,_,_,rfl,rfl,S.sm.tup v1,rfl,d,_,rfl,hg,?_⟩;refine⟨_,rfl,r,_,_,_,rfl,rfl,S.sm.tup v1,rfl,_,rfl,a,C,dx,fs,_,rfl,ea,B.cls,B.a2,f1,p,e,ru.2,kE,rfl,S.sm.tup v2,∅,S.he,λD5 H5 f6 s5 e5=>⟨D5,rfl,⟨_,aI.of e5⟩,?_⟩⟩;obtain⟨ts0,hb0,_⟩:=S.lb;have nDb:D5≠bg:=λz=>by rw [z,hb0] at f6;cases f6
 have fle:=Gq (λz=>(bB kE (Sum.inr z)).isSome) ru.2;generalize hb:(λz=>(bB kE (Sum.inr z)).isSome)=b at *;generalize hn:C6 b ru.2=n at *
 let wG:tG:=λi σ H6=>∃(d_:List Be)(y4 y5:Option V),σ=[aP a,some (.int (k:Int)),aP r,some (.ref pn.2),y4,y5]/\ua K C H0 H6 a e d bg kE bC ps d_/\H6 D5=some (.lst (cnt n))/\wO aa (ps.map (·.1)) b d_/\cM.length<=d_.length /\
  (d_.length=cM.length->d_=cM/\∀j z,j < i->ru.2[j]?=some z->∀wd∈qo (ps.map (·.1)) cM z,(ru.1,wd)∈gw cM)
 refine cD (xs:=cnt n) wG ⟨cM,none,none,rfl,S.same s5,e5,VJ,aH _,λ_=>⟨rfl,λj z hj=>by omega⟩⟩ ?_ ?_ ?_
 .rintro i σ H6 _ ⟨d_,y4,y5,rfl,S2,e6,_⟩;exact aI.of e6
 .intro i x σ H6 ex jQ
  ac_nf0
  obtain⟨d_,y4,y5,rfl,S2,e6,WO,l2,c2⟩:=jQ;have li:i < n:=by have:=(bq.mp ex).1;rw [BN] at this;exact this
  rw [Nl li] at ex;cases ex;have lz:i < ru.2.length:=by omega
  obtain⟨z,ez⟩:∃z,ru.2[i]?=some z:=⟨ru.2[i],cf lz⟩;have WY:j9 (ru.2.map V.str) (i:Int)=some (.str z):=bT (by rw [bh,ez];rfl);obtain⟨Sw,tW,QU,g1,g2,g3,g4,g5⟩:=S2.ia;refine goN ?_
  ac_nf
  refine⟨_,rfl,a,Sw,tW,rfl,QU,g5,_,rfl,r,_,_,_,rfl,rfl,S2.sm.tup v1,rfl,_,rfl,p,_,_,_,rfl,rfl,S2.sm.tup v2,WY,H0,a,e,d,bg,kE,bC,ps,d_,z,rfl,S2,λD6 H7 f7 s7 e7=>⟨D6,rfl,⟨_,aI.of e7⟩,?_⟩⟩;obtain⟨tL,Hw,_⟩:=S2.lb;have nD6:D6≠bg:=λz=>by rw [z,Hw] at f7;cases f7
  generalize YL:qo (ps.map (·.1)) d_ z=ws at *
  let Dy:tG:=λm σ H8=>∃(l:List Be)(y5:Option V),σ=[aP a,some (.int (k:Int)),aP r,some (.ref pn.2),some (.int (i:Int)),y5]/\ua K C H0 H8 a e d bg kE bC ps (d_++l)/\H8 D5=some (.lst (cnt n))/\H8 D6=some (.lst (ws.map V.str))/\wO aa (ps.map (·.1)) b (d_++l) /\
   (l=[]->∀wd∈ws.take m,(ru.1,wd)∈gw d_)
  refine cD (xs:=ws.map V.str) Dy ⟨[],_,rfl,by rw [iu];exact S2.same s7,s7 _ _ e6,e7,by rw [iu];exact WO,λ_ wd h=>by simp at h⟩ ?_ ?_ ?_
  .rintro m σ H8 _ ⟨l,y5,rfl,S3,e8,e9,_⟩;exact aI.of e9
  .intro m x σ H8 ex jQ
   ac_nf0
   obtain⟨l,y5,rfl,S3,e8,e9,Q7,c3⟩:=jQ;rw [bh] at ex;obtain⟨wd,ew,rfl⟩:=cq.mp ex;obtain⟨⟨kvs,hk,kk⟩,fp,Yb,Yc⟩:=S3.dk pn xN;obtain⟨Rx,R9,Qu⟩:=S3.lb;have lim:=hbd _ Q7;have ltk:kvs.length<=900000:=by
    have h1:=congrArg List.length kk;rw [au,au] at h1;have:=MQ (d_++l) pn.1;omega
   have ltt:=aY Qu;have mem:(bB kvs (Sum.inr wd)).isSome=true↔(ru.1,wd)∈gw (d_++l):=by rw [fg,kk,di,Ap,yF]
   refine goN ?_
   ac_nf
   refine⟨_,rfl,_,rfl,pn.2,_,rfl,cz.k (k:=Sum.inr wd) hk,_,rfl,?_⟩;refine bZ (λc=>?_) (λc=>?_)
   .have nm:(ru.1,wd)∉gw (d_++l):=λh=>by rw [mem.mpr h] at c;exact absurd c nofun
    refine⟨_,rfl,_,rfl,_,_,rfl,pV.k (k:=Sum.inr wd) hk (bL ∅),?_⟩;obtain⟨Z_,HG,Wq,k1,k2,k3,k4,k5⟩:=S3.ia;have nap:a≠pn.2:=λz=>by rw [z,hk] at Wq;cases Wq
    have RM:bg≠pn.2:=λz=>by rw [z,hk] at R9;cases R9
    have GI:upd H8 pn.2 (.dK (bS kvs (Sum.inr wd) (.bl true))) a=some (.ins C Z_ HG):=by rw [aj nap];exact Wq
    have Y_:upd H8 pn.2 (.dK (bS kvs (Sum.inr wd) (.bl true))) bg=some (.lst (Rx.map V.ref)):=by rw [aj RM];exact R9
    refine⟨_,rfl,a,C,Z_,HG,_,rfl,GI,B.cls,B.a3,k2,.inl ⟨rfl,_,aI.of Y_⟩,_,rfl,r,_,_,_,rfl,rfl,ib hk (S3.sm.tup v1),rfl,_,rfl,_,rfl,_,rfl,zl4,λt4 CN=>?_⟩;have s4:=af CN (.tup [.str ru.1,.str wd,.int (k:Int),.int (i:Int)]);have e4:aQ K (upd (upd H8 pn.2 (.dK (bS kvs (Sum.inr wd) (.bl true)))) t4 (.tup [.str ru.1,.str wd,.int (k:Int),.int (i:Int)])) t4 [.str ru.1,.str wd,.int (k:Int),.int (i:Int)]:=aQ.of ae;generalize upd (upd H8 pn.2 (.dK (bS kvs (Sum.inr wd) (.bl true)))) t4 (.tup [.str ru.1,.str wd,.int (k:Int),.int (i:Int)])=H9 at s4 e4;refine⟨bg,_,_,rfl,rfl,s4 _ _ Y_,bL (by rw [au];omega),?_⟩;have nm':(pn.1,wd)∉gw (d_++l):=by rw [yF];exact nm
    have S4:=S3.more (k:=k) (j:=i) xN hk kk nm' R9 Qu s4 (by rw [yF];exact e4);have Kg:∀D ys,H8 D=some (.lst ys)->D≠bg->upd H9 bg (.lst (Rx.map V.ref++[.ref t4])) D=some (.lst ys):=λD ys hD nb=>by
     rw [aj nb];exact s4 _ _ (by rw [aj (λz=>by rw [z,hk] at hD;cases hD)];exact hD)
    rw [ku,yF] at S4;refine⟨l++[(ru.1,wd,k,i)],_,rfl,S4,Kg _ _ e8 nDb,Kg _ _ e9 nD6,?_,λh=>by simp at h⟩;rw [<-ku];refine .snoc Q7 er ez (by rw [hn];exact li) (HZ d_ l (by rw [YL];exact cg ew)) nm
   refine⟨l,_,rfl,S3,e8,e9,Q7,λhl x hx=>?_⟩;rw [cS,ew] at hx;rcases cC.mp hx with h | h
   .exact c3 hl x h
   rw [Option.toList_some,bV] at h;subst h;have hm:(ru.1,x)∈gw (d_++l):=mem.mp (by
    cases hq:(bB kvs (Sum.inr x)).isSome with
    | true=>rfl
    | false=>exact absurd (by rw [hq];rfl) c)
   rw [hl,iu] at hm;exact hm
  rintro σ H8 ⟨l,y5,rfl,S3,e8,e9,Q7,c3⟩;rw [au,cR] at c3;refine⟨d_++l,_,_,rfl,S3,e8,Q7,by rw [bM];omega,λQi=>?_⟩;rw [bM] at Qi;have RW:l=[]:=List.length_eq_zero_iff.mp ∅;obtain⟨ME,pJ⟩:=c2 ∅;rw [RW,iu];refine⟨ME,λj z' hj Wc wd YN=>?_⟩;by_cases cj:j < i
  .exact pJ j z' cj Wc wd YN
  have:j=i:=by omega
  subst this;rw [ez] at Wc;cases Wc;have:=c3 RW wd (by rw [<-YL,ME];exact YN);rw [ME] at this;exact this
 rintro σ H6 ⟨d_,y4,y5,rfl,S2,e6,WO,l2,c2⟩;rw [BN] at c2;exact q d_ H6 S2 WO l2 c2
end
end gL
namespace L2
open PySem M11
def ya {K:a9}{H:Hp}{p D:Addr}{zs:List Str}{σ:St}{x:Str}{Qp:Hp->Prop}(hp:aI K H p (zs.map V.str))(hz:zs.length<=10000)(hD:H D=none)
  (q:∀ts (ps:List (Str×Addr)) H2,aC H H2->H2 D=some (.lst (ts.map V.ref))->ps.map (·.1)=zs->Paired (λt (p:Str×Addr)=>aQ K H2 t [.str p.1,.ref p.2]) ts ps->(∀p∈ps,H2 p.2=some (.dK [])/\H p.2=none/\p.2≠D)->(ps.map (·.2)).Nodup->Qp H2) :
  ∃W:Nat->Nat->List V->St->Hp->Prop,(∃m,W 0 m [] (eU [x] [] σ) (upd H D (.lst []))) /\
 ∀i m ys σ' H,W i m ys σ' H->((j_ K p).stop i H/\Qp H)\/((j_ K p).go i H/\∃m',m' < m/\∀x H',(j_ K p).m_ i H x H'->dQ 0 x σ' H' λσ2 H2=>ix σ2 H2 λb H3 =>
  if b=true then tQ (gE (gX 0) (gE (Eh) rC)) σ2 H3 λy H4=>H4 D=some (.lst ys)/\ys.length < sizeLine/\W (i+1) m' (ys++[y]) σ2 (upd H4 D (.lst (ys++[y]))) else W (i+1) m' ys σ2 H3):=by
 refine cE (xs:=zs.map V.str) (λi ys σ2 H2=>∃(ts:List Addr)(ps:List (Str×Addr)),ys=ts.map V.ref/\ts.length=i/\ps.map (·.1)=zs.take i/\Paired (λt (p:Str×Addr)=>aQ K H2 t [.str p.1,.ref p.2]) ts ps /\
   (∀p∈ps,H2 p.2=some (.dK [])/\H p.2=none/\p.2≠D)/\(ps.map (·.2)).Nodup/\(∃y0,σ2=[y0])/\aC H H2/\H2 D=some (.lst ys))
  ⟨[],[],rfl,rfl,rfl,.nil,by simp,by simp,⟨none,rfl⟩,af hD _,ae⟩ (λi ys σ2 H2 _ h=>?_) (λi x ys σ2 H2 ex h=>?_) (λys σ2 H2 h=>?_)
 .obtain⟨_,_,_,_,_,_,_,_,_,sm,_⟩:=h;exact sm.seq hp
 .obtain⟨ts,ps,rfl,ht,hm,pI,hl,hn,⟨y0,rfl⟩,sm,hd⟩:=h;rw [bh] at ex;obtain⟨z,ez,rfl⟩:=cq.mp ex;have li:=(bq.mp ez).1;refine goN (yB ?_);refine⟨_,rfl,λl tV=>⟨kc,λt ji=>?_⟩⟩;have Mb:l≠D:=(ay hd tV).symm;have nt:t≠l:=λe=>by rw [e,ae] at ji;cases ji
  have P7:H2 t=none:=by rw [aj nt] at ji;exact ji
  have ntD:t≠D:=(ay hd P7).symm;have ke:aC H2 (upd (upd H2 l (.dK [])) t (.tup [.str z,.ref l])):=(af tV _).trans (af ji _);have jh:=ke _ _ hd;have el:upd (upd H2 l (.dK [])) t (.tup [.str z,.ref l]) l=some (.dK []):=by rw [aj nt.symm,ae]
  have et:aQ K (upd (upd H2 l (.dK [])) t (.tup [.str z,.ref l])) t [.str z,.ref l]:=aQ.of ae;generalize upd (upd H2 l (.dK [])) t (.tup [.str z,.ref l])=H4 at ke jh el et;refine⟨jh,bL (by rw [au];omega),ts++[t],ps++[(z,l)],by rw [bG];rfl,by rw [bM,ht];rfl,by rw [bG,hm,cS,ez];rfl,?_,?_,?_,⟨_,rfl⟩,?_,ae⟩
  .exact gR (Paired.dJ pI λt' h' z=>aT jh (ke.tup z)) (aT jh et)
  .intro p' n8;rcases cC.mp n8 with h | h
   .obtain⟨a1,a2,a3⟩:=hl p' h;exact⟨by rw [aj a3];exact ke _ _ a1,a2,a3⟩
   rw [bV.mp h];exact⟨by rw [aj Mb];exact el,sm.free tV,Mb⟩
  .rw [bG];refine kx.mpr ⟨hn,by simp,λa ha b hb e=>?_⟩;rw [oZ,bV] at hb;obtain⟨p',n8,rfl⟩:=cQ.mp ha;have:=(hl p' n8).1;rw [e,hb] at this;rw [show H2 l=none from tV] at this;cases this
  intro b o hb;rw [aj (λz=>by rw [z,hD] at hb;cases hb)];exact ke _ _ (sm b o hb)
 obtain⟨ts,ps,rfl,ht,hm,pI,hl,hn,_,sm,hd⟩:=h;rw [au,cR] at hm;exact q ts ps H2 sm hd hm pI hl hn
def ic {K:a9}{H:Hp}{D a C dx:Addr}{xs:List V}{fs:List (Str×V)}{o:HO}(hD:H D=some (.ins C dx fs))(h:aQ K H a xs):aQ K (upd H D o) a xs:=by
 rcases h with (h | ⟨u,h⟩) | h
 .exact .inl (.inl (by rw [aj (λz=>by rw [z,hD] at h;cases h)];exact h))
 .exact .inl (.inr ⟨u,by rw [aj (λz=>by rw [z,hD] at h;cases h)];exact h⟩)
 exact .inr h
def x_ {K:a9}{H:Hp}{R D:Addr}{rs:List Addr}{es:List (Str×Nat)}{σ:St}{x1 x2:Str}{Qp:Hp->Prop}(hR:aI K H R (rs.map V.ref))(b_:Paired (λt (e:Str×Nat)=>aQ K H t [.str e.1,.int (e.2:Int)]) rs es)(br:es.length<=1000)(hD:H D=none)
  (q:∀ts H2,aC H H2->H2 D=some (.lst (ts.map V.ref))->Paired (λt h=>aQ K H2 t [.str h,.bl true]) ts (es.map (·.1))->Qp H2) :
  ∃W:Nat->Nat->List V->St->Hp->Prop,(∃m,W 0 m [] (eU [x1,x2] [] σ) (upd H D (.lst []))) /\
 ∀i m ys σ' H,W i m ys σ' H->((j_ K R).stop i H/\Qp H)\/((j_ K R).go i H/\∃m',m' < m/\∀x H',(j_ K R).m_ i H x H'->An K 2 (jB (dQ 0) (jB (dQ 1) C0)) x σ' H' λσ2 H2=>ix σ2 H2 λb H3 =>
  if b=true then tQ (gE (gX 0) (gE (tC (.bl true)) rC)) σ2 H3 λy H4=>H4 D=some (.lst ys)/\ys.length < sizeLine/\W (i+1) m' (ys++[y]) σ2 (upd H4 D (.lst (ys++[y]))) else W (i+1) m' ys σ2 H3):=by
 have ll:=aY b_;refine cE (xs:=rs.map V.ref) (λi ys σ2 H2=>∃ts:List Addr,ys=ts.map V.ref/\ts.length=i/\Paired (λt h=>aQ K H2 t [.str h,.bl true]) ts ((es.take i).map (·.1))/\(∃y0 y1,σ2=[y0,y1])/\aC H H2/\H2 D=some (.lst ys))
  ⟨[],rfl,rfl,.nil,⟨none,none,rfl⟩,af hD _,ae⟩ (λi ys σ2 H2 _ h=>?_) (λi x ys σ2 H2 ex h=>?_) (λys σ2 H2 h=>?_)
 .obtain⟨_,_,_,_,_,sm,_⟩:=h;exact sm.seq hR
 .obtain⟨ts,rfl,ht,hp,⟨y0,y1,rfl⟩,sm,hd⟩:=h;rw [bh] at ex;obtain⟨r,er,rfl⟩:=cq.mp ex;have lr:=(bq.mp er).1;obtain⟨ru,e1⟩:∃ru,es[i]?=some ru:=⟨es[i]'∅,cf ∅⟩;obtain⟨r',QL,v1⟩:=Paired.at_ b_ i ru e1;rw [er] at QL;cases QL;have li:=(bq.mp e1).1;refine⟨r,_,rfl,sm.tup v1,rfl,_,_,rfl,_,_,rfl,rfl,?_⟩;refine yB ?_;refine⟨_,rfl,kc,λt ji=>⟨?_,bL (by rw [au];omega),ts++[t],?_,?_,?_,⟨_,_,rfl⟩,?_,ae⟩⟩
  .rw [aj (ay hd ji)];exact hd
  .rw [bG];rfl
  .rw [bM,ht];rfl
  .rw [cS,e1,bG];have jh:upd H2 t (.tup [.str ru.1,.bl true]) D=some (.lst (ts.map V.ref)):=by rw [aj (ay hd ji)];exact hd
   exact gR (Paired.dJ hp λt' h' z=>aT jh ((af ji _).tup z)) (aT jh (aQ.of ae))
  intro b o hb;rw [aj (λz=>by rw [z,hD] at hb;cases hb)];exact af ji _ _ _ (sm b o hb)
 obtain⟨ts,rfl,ht,hp,_,sm,hd⟩:=h;rw [au,ll,cR] at hp;exact q ts H2 sm hd hp
end L2
namespace M11
open PySem L2
def wO.sub {aa:List aw}{names:List Str}{b:Str->Bool}{cM:List Be}(h:wO aa names b cM):∀q∈gw cM,q.1∈aa.map (·.1)/\q.2∈aa.flatMap (·.2):=by
 induction h with
 | nil=>intro q hq;cases hq
 | @snoc cM k j ru z wd hb er ez _ hw _ ih =>
  intro q hq;unfold gw at hq;rw [bG] at hq;rcases cC.mp hq with hq | hq
  .exact ih q hq
  rw [oZ,bV] at hq;rw [hq];have hm:=cg er;refine⟨jZ hm,?_⟩;unfold qo at hw
  split at hw
  .exact(ih (z,wd) (Ap.mp hw)).2
  rw [bV.mp hw];exact q8.mpr ⟨ru,hm,cg ez⟩
def wO.nd {aa:List aw}{names:List Str}{b:Str->Bool}{cM:List Be}(h:wO aa names b cM):(gw cM).Nodup:=by
 induction h with
 | nil=>exact lL
 | @snoc cM k j ru z wd hb er ez _ hw hn ih =>
  unfold gw;rw [bG];refine kx.mpr ⟨ih,by simp,λx hx y hy e=>?_⟩;rw [oZ,bV] at hy;rw [e,hy] at hx;exact hn hx
theorem xr (m:List Str):∀l:List Str,(l.flatMap λn=>m.map λwd=>(n,wd)).length=l.length * m.length
 | []=>by simp
 | n::l=>by
  rw [rf,bM,xr m l,au,dN,Nat.add_mul];omega
def wO.len {aa:List aw}{names:List Str}{b:Str->Bool}{cM:List Be}(h:wO aa names b cM)(hl:aa.length<=100)(h8:∀ru∈aa,ru.2.length<=8):cM.length<=80000:=by
 have h1:=gr (gw cM) ((aa.map (·.1)).flatMap λn=>(aa.flatMap (·.2)).map λwd=>(n,wd)) h.nd λq hq=>by
  obtain⟨a,c⟩:=h.sub q hq;exact q8.mpr ⟨q.1,a,cQ.mpr ⟨q.2,c,rfl⟩⟩
 rw [xr] at h1;have h2:=gL.jC aa 100 hl h8;unfold gw at h1;rw [au,au] at h1;have h3:aa.length * (aa.flatMap (·.2)).length<=100 * 800:=Nat.mul_le_mul hl h2;omega
def JF (aa:List aw) (names:List Str)(b:Str->Bool) (n:Nat)(cM:List Be):Prop:=∀k ru,k < n->aa[k]?=some ru->∀j z,j < C6 b ru.2->ru.2[j]?=some z->∀wd∈qo names cM z,(ru.1,wd)∈gw cM
end M11
namespace gL
open PySem L2 M11
section
def Bj (K:a9)(C:Addr):Sp:=λvs H Q _=>∃(H0:Hp)(a dx R:Addr)(rs:List Addr)(aa:List aw),vs=[.ref a,.ref R]/\aC H0 H/\H0 a=none/\H a=some (.ins C dx [])/\aI K H0 R (rs.map V.ref)/\bI K H0 rs aa/\aa.length<=100/\(∀ru∈aa,ru.2.length<=8) /\
 ∀(e d bg:Addr)(kE:List (aS×V))(bC:List (Str×Nat))(ps:List (Str×Addr))(cM:List Be)(H':Hp),ua K C H0 H' a e d bg kE bC ps cM->ps.map (·.1)=hd aa->wI aa bC->yo aa aa.length bC->(∀z,(bB kE (Sum.inr z)).isSome=decide (z∈bC.map (·.1))) ->
  wO aa (hd aa) (λz=>decide (z∈bC.map (·.1))) cM->JF aa (hd aa) (λz=>decide (z∈bC.map (·.1))) aa.length cM->Q .d7 H'
def nE:aK ["self","rules","number","many","rule"] ["self","rules"] (av zw):=ir rfl rfl rfl rfl nofun
def FC {C fF:Addr}{Zm:FuncData}(F:g_ K "__init__" "BeginTable.__init__" zw f fd)(T:Txt mg)(B:BC K C)(GE:aB P w K mg base 1 "found_empties" ["rules"] (pb K))(GH:aB P w K mg base 1 "heads_of" ["rules"] (iX K))
  (FF:bO P w K mg base fk 2 fF Zm ["self","number","rule"] (Ew K C))(MF:Meth K C "find_begins" fF)(BF:Binds K Zm ["self","number","rule"] []):bO P w K mg base fk 3 f fd ["self","rules"] (Bj K C):=by
 refine F.ok nE (λvs H Q E h=>?_) (λdW A outer s H vs Q E hr h=>?_)
 .obtain⟨H0,a,dx,R,rs,aa,rfl,_⟩:=h;rfl
 obtain⟨H0,a,dx,R,rs,aa,rfl,s0,f0,ea,hR,b_,br,h8,q⟩:=h;refine⟨_,ai (gH (pv 0) (a8 (GE.mono (by decide:1<=2)) hr rfl (ab (pv 1) ah)) rfl)
  (ai (gH (pv 0) (bE (dD rfl) rfl T.yG eZ (ab (bF ["name","number"] [] rfl (aZ (fc (pv 0) rfl)) (bp rfl rfl) nofun rfl nofun
   (λ_ _ _ _ _=>fJ (n:=2) K rfl (aE (aq (i:=0) (show (["name","number"]:List Str).Nodup by decide +kernel) rfl (bx rfl)) (aE (aq (i:=1) (show (["name","number"]:List Str).Nodup by decide +kernel) rfl (bx rfl)) b9))) (λ_ _ _ _ _=>bY)
   (λ_ _ _ _ _=>bD (ab (pv 0) (ab dI ah)))) ah)) rfl)
  (ai (gH (pv 0) (bc ah) rfl)
  (ai (gH (pv 0) (bE (dD rfl) rfl T.yG eZ (ab (bF ["name"] [] rfl (aZ (a8 (GH.mono (by decide:1<=2)) hr rfl (ab (pv 1) ah))) (bp rfl rfl) nofun rfl nofun
   (λ_ _ _ _ _=>aq (i:=0) (show (["name"]:List Str).Nodup by decide +kernel) rfl (bx rfl)) (λ_ _ _ _ _=>bY)
   (λ_ _ _ _ _=>bD (ab (pv 0) (ab ij ah)))) ah)) rfl)
  (ai (aA (i:=3) nE.nd rfl (bx rfl) (j7 ip ao))
  (ak (iL b0 (aV nV (pv 3) (aD aG rfl T.len cU (ab (fc (pv 0) rfl) ah)) (bu _))
   (ai (aA (i:=3) nE.nd rfl (bx rfl) (aD aG rfl T.len cU (ab (fc (pv 0) rfl) ah)))
   (ak (bQ b0 rfl (nU rfl T.Jl (ab (pv 1) ah)) (gJ rfl (aE (aq (i:=2) nE.nd rfl (bx rfl)) (aE (aq (i:=4) nE.nd rfl (bx rfl)) b9)))
    (ak (bX (Bs (pv 0) B.cls MF FF hr BF .nil uo (ab (pv 2) (ab (pv 4) ah)))))))))))))),?_⟩
 nofun
 have ll:=aY b_;refine⟨_,rfl,R,rs,aa,rfl,s0.seq hR,b_.same s0,∅,h8,λD1 B9 bC H1 f1 s1 e1 w1 emp De=>?_⟩;have Wr:=s1 _ _ ea;refine⟨_,rfl,a,C,dx,[],rfl,Wr,B.cls,B.a1,(by show 0 < 1000;decide),?_⟩;have e2:upd H1 a (.ins C dx (dX "empties" (.ref D1) [])) D1=some (.lst (B9.map V.ref)):=by rw [aj (λz=>by rw [z,Wr] at e1;cases e1)];exact e1
 have w2:pS K (upd H1 a (.ins C dx (dX "empties" (.ref D1) []))) B9 bC:=w1.keep λ_ _ z=>ic Wr z;have ER:aC H0 (upd H1 a (.ins C dx (dX "empties" (.ref D1) []))):=λc o hc=>by rw [aj (λz=>by rw [z,f0] at hc;cases hc)];exact s1 _ _ (s0 c o hc)
 have QU:upd H1 a (.ins C dx (dX "empties" (.ref D1) [])) a=some (.ins C dx (dX "empties" (.ref D1) [])):=ae;generalize upd H1 a (.ins C dx (dX "empties" (.ref D1) []))=H2 at e2 w2 ER QU;have lets:=emp.len;refine⟨_,rfl,a,C,dx,_,_,rfl,QU,B.cls,B.a1,rfl,D1,rfl,⟨_,aI.of e2⟩,λD2 i9=>x_ (aI.of e2) w2 ∅ i9 λtL H3 s3 e3 p3=>?_⟩;have kp:Paired (λt (kv:aS×V)=>aQ K H3 t [kV kv.1,kv.2]) tL ((bC.map (·.1)).map λh=>((Sum.inr h:aS),V.bl true)):=cv p3 λ_ _ z=>z;refine⟨D2,tL,_,rfl,e3,kp,λe he=>?_⟩;have CF:∀z,(bB (cK ((bC.map (·.1)).map λh=>((Sum.inr h:aS),V.bl true)) []) (Sum.inr z)).isSome=decide (z∈bC.map (·.1)):=λz=>by
  rw [kM];by_cases c:z∈bC.map (·.1)
  .rw [ax c,bW c];rfl
  rw [az c,dq c];rfl
 generalize cK ((bC.map (·.1)).map λh=>((Sum.inr h:aS),V.bl true)) []=kE at CF;have xm:=(ER.trans s3).trans (af he (.dK kE));have GI:=af he (.dK kE) _ _ (s3 _ _ QU);have So:upd H3 e (.dK kE) e=some (.dK kE):=ae;have Ly:aC H2 (upd H3 e (.dK kE)):=s3.trans (af he (.dK kE));generalize upd H3 e (.dK kE)=H4 at xm GI So Ly;have WG:=Ly _ _ e2;have wE4:pS K H4 B9 bC:=w2.keep λ_ _ z=>Ly.tup z;refine⟨_,rfl,a,C,dx,_,rfl,GI,B.cls,B.a2,(by show 1 < 1000;decide),?_⟩;generalize VA:dX "empty" (.ref e) (dX "empties" (.ref D1) [])=Kr;have QR:upd H4 a (.ins C dx Kr) e=some (.dK kE):=by rw [aj (λz=>by rw [z,GI] at So;cases So)];exact So
 have xl:aC H0 (upd H4 a (.ins C dx Kr)):=λc o hc=>by rw [aj (λz=>by rw [z,f0] at hc;cases hc)];exact xm c o hc
 have ZL:upd H4 a (.ins C dx Kr) a=some (.ins C dx Kr):=ae;have WE:upd H4 a (.ins C dx Kr) D1=some (.lst (B9.map V.ref)):=by rw [aj (λz=>by rw [z,GI] at WG;cases WG)];exact WG
 have Xq:pS K (upd H4 a (.ins C dx Kr)) B9 bC:=wE4.keep λ_ _ z=>ic GI z;generalize upd H4 a (.ins C dx Kr)=H5 at QR xl ZL WE Xq;refine⟨o7,λbg MC=>?_⟩;have fbg:H0 bg=none:=xl.free MC;have Sq:upd H5 bg (.lst []) bg=some (.lst []):=ae;have EN:=xl.trans (af MC (.lst []));have M_:=af MC (.lst []) _ _ QR;have N7:=af MC (.lst []) _ _ ZL;have Ux:D1≠bg:=ay WE MC;have Sx:=af MC (.lst []) _ _ WE;have Xp:pS K (upd H5 bg (.lst [])) B9 bC:=Xq.keep λ_ _ z=>(af MC (.lst [])).tup z;generalize upd H5 bg (.lst [])=H6 at Sq EN M_ N7 Sx Xp;refine⟨_,rfl,a,C,dx,_,rfl,N7,B.cls,B.a3,(by rw [<-VA];show 2 < 1000;decide),?_⟩;generalize Y5:dX "begins" (.ref bg) Kr=Ji;have M8:upd H6 a (.ins C dx Ji) e=some (.dK kE):=by rw [aj (λz=>by rw [z,N7] at M_;cases M_)];exact M_
 have ZJ:upd H6 a (.ins C dx Ji) bg=some (.lst []):=by rw [aj (λz=>by rw [z,N7] at Sq;cases Sq)];exact Sq
 have Bn:aC H0 (upd H6 a (.ins C dx Ji)):=λc o hc=>by rw [aj (λz=>by rw [z,f0] at hc;cases hc)];exact EN c o hc
 have ZK:upd H6 a (.ins C dx Ji) a=some (.ins C dx Ji):=ae;have dE7:upd H6 a (.ins C dx Ji) D1=some (.lst (B9.map V.ref)):=by rw [aj (λz=>by rw [z,N7] at Sx;cases Sx)];exact Sx
 have Xo:pS K (upd H6 a (.ins C dx Ji)) B9 bC:=Xp.keep λ_ _ z=>ic N7 z;generalize upd H6 a (.ins C dx Ji)=H7 at M8 ZJ Bn ZK dE7 Xo;refine⟨_,rfl,R,rs,aa,rfl,Bn.seq hR,b_.same Bn,∅,λD4 H8 f8 s8 e8=>?_⟩;have FQ:=hV (aa.map (·.1)) [];simp only [iV,au] at FQ;refine⟨D4,rfl,⟨_,aI.of e8⟩,λD5 NW=>ya (aI.of e8) ∅ NW λts ps H9 s9 e9 m9 p9 l9 n9=>?_⟩;have n1:(ps.map (·.1)).Nodup:=by rw [m9];exact pP _ lL
 have FV:Paired (λt (kv:aS×V)=>aQ K H9 t [kV kv.1,kv.2]) ts (ps.map jF):=cv p9 λ_ _ z=>z;refine⟨D5,ts,_,rfl,e9,FV,λd qL=>?_⟩;have QN:cK (ps.map jF) []=ps.map jF:=ot _ [] (by
  rw [mR,nX];exact vZ n1)
 rw [QN];have ND:=s8.trans s9;have sd:=af qL (.dK (ps.map jF));have zx:=ND.trans sd;have qw:upd H9 d (.dK (ps.map jF)) d=some (.dK (ps.map jF)):=ae;have Mc:∀p∈ps,upd H9 d (.dK (ps.map jF)) p.2=some (.dK [])/\p.2≠d:=λp hp=>⟨sd _ _ (l9 p hp).1,λz=>by have:=(l9 p hp).1;rw [z,qL] at this;cases this⟩;generalize upd H9 d (.dK (ps.map jF))=AN at zx qw Mc;have Ay:=zx _ _ ZK;have wu:=zx _ _ M8;have Nb:=zx _ _ ZJ;have TQ:=Bn.trans zx;have Nk:=zx _ _ dE7;have S_:pS K AN B9 bC:=Xo.keep λ_ _ z=>zx.tup z;refine⟨_,rfl,a,C,dx,_,rfl,Ay,B.cls,B.a4,(by rw [<-Y5,<-VA];show 3 < 1000;decide),?_⟩;have fp:∀p∈ps,H0 p.2=none/\p.2≠e:=λp hp=>by
  have Zh:H8 p.2=none:=(l9 p hp).2.1;refine⟨(Bn.trans s8).free Zh,λz=>?_⟩;have:=s8 _ _ M8;rw [<-z,Zh] at this;cases this
 have hfs:∃fs,dX "firsts" (.ref d) Ji=fs/\fs.lookup ("empty":Str)=some (.ref e)/\fs.lookup ("begins":Str)=some (.ref bg)/\fs.lookup ("firsts":Str)=some (.ref d)/\fs.lookup ("find_begins":Str)=none/\fs.lookup ("words_of_part":Str)=none/\fs.lookup ("empties":Str)=some (.ref D1):=by
  refine⟨_,rfl,?_⟩;rw [<-Y5,<-VA];refine⟨?_,?_,?_,?_,?_,?_⟩ <;> rfl
 obtain⟨fs,efs,k1,k2,k3,k4,k5,k6⟩:=hfs;rw [efs];have DW:ua K C H0 (upd AN a (.ins C dx fs)) a e d bg kE bC ps []:=by
  refine⟨λc o hc=>by rw [aj (λz=>by rw [z,f0] at hc;cases hc)];exact TQ c o hc,⟨dx,fs,ae,k1,k2,k3,k4,k5⟩,?_,?_,n1,n9,λp hp=>⟨⟨[],?_,rfl⟩,(fp p hp).1,(fp p hp).2,(Mc p hp).2⟩,⟨[],?_,.nil⟩,fbg,⟨D1,B9,⟨dx,fs,ae,k6⟩,by rw [aj (λz=>by rw [z,Ay] at Nk;cases Nk)];exact Nk,S_.keep λ_ _ z=>ic Ay z,Ux⟩⟩
  .rw [aj (λz=>by rw [z,Ay] at wu;cases wu)];exact wu
  .rw [aj (λz=>by rw [z,Ay] at qw;cases qw)];exact qw
  .have:=(Mc p hp).1;rw [aj (λz=>by rw [z,Ay] at this;cases this)];exact this
  rw [aj (λz=>by rw [z,Ay] at Nb;cases Nb)];exact Nb
 generalize upd AN a (.ins C dx fs)=DE at DW;have eb:(λz=>(bB kE (Sum.inr z)).isSome)=λz=>decide (z∈bC.map (·.1)):=funext CF;refine⟨1,rfl,?_⟩;refine⟨λmm σ yl=>∃(cM:List Be) (many:Int)(y2 y4:Option V),σ=[aP a,aP R,y2,some (.int many),y4]/\ua K C H0 yl a e d bg kE bC ps cM/\wO aa (hd aa) (λz=>decide (z∈bC.map (·.1))) cM/\-1<=many/\many<=cM.length /\
  (many=cM.length->JF aa (hd aa) (λz=>decide (z∈bC.map (·.1))) aa.length cM)/\(mm:Int)=80001 - many,⟨80002,[],-1,none,none,rfl,DW,.nil,∅,by simp,by simp,∅⟩,?_⟩
 rintro mm σ yl ⟨cM,many,y2,y4,rfl,HR,Np,b1,b2,cl,em⟩;obtain⟨Sw,tW,q1,q2,q3,q4,q5,q6⟩:=HR.ia;obtain⟨tb,R_,Hw⟩:=HR.lb;have lb:=aY Hw;have Mf:=Np.len br h8;refine⟨_,rfl,_,rfl,a,C,Sw,tW,_,rfl,q1,B.cls,B.a3,q3,bg,_,rfl,.inl (aI.of R_),_,_,rfl,rfl,_,rfl,?_⟩;refine bZ (λc=>?_) (λc=>?_)
 .have c':=dr c;rw [au,lb] at c';refine⟨λσ B0=>∃(d_:List Be)(y2 y4:Option V),σ=[aP a,aP R,y2,some (.int (cM.length:Int)),y4]/\ua K C H0 B0 a e d bg kE bC ps d_/\wO aa (hd aa) (λz=>decide (z∈bC.map (·.1))) d_/\cM.length<=d_.length /\
   (d_.length=cM.length->d_=cM/\JF aa (hd aa) (λz=>decide (z∈bC.map (·.1))) aa.length cM),?_,?_⟩
  .rintro σ B0 ⟨d_,y2,y4,rfl,Ha,Dt,RO,G0⟩;have:=Dt.len br h8;refine⟨(80001 - cM.length:Int).toNat,∅,d_,_,_,_,rfl,Ha,Dt,∅,∅,λz=>?_,∅⟩;obtain⟨Jp,Dg⟩:=G0 ∅;rw [Jp];exact Dg
  refine⟨_,rfl,a,C,Sw,tW,_,rfl,q1,B.cls,B.a3,q3,bg,_,rfl,.inl (aI.of R_),?_⟩;rw [au,lb];refine⟨_,rfl,R,_,rfl,HR.sm.seq hR,?_⟩;refine kZ (xs:=rs.map V.ref) (λi σ B0=>∃(d_:List Be)(y2 y4:Option V),σ=[aP a,aP R,y2,some (.int (cM.length:Int)),y4]/\ua K C H0 B0 a e d bg kE bC ps d_/\wO aa (hd aa) (λz=>decide (z∈bC.map (·.1))) d_/\cM.length<=d_.length /\
   (d_.length=cM.length->d_=cM/\JF aa (hd aa) (λz=>decide (z∈bC.map (·.1))) i cM)) ⟨cM,_,_,rfl,HR,Np,aH _,λ_=>⟨rfl,λk ru hk=>by omega⟩⟩ ?_ ?_ ?_
  .rintro i σ B0 _ ⟨d_,y2,y4,rfl,Ha,_⟩;exact Ha.sm.seq hR
  .rintro i x σ B0 t ex ⟨d_,y2,y4,rfl,Ha,Dt,RO,G0⟩ ht
   ac_nf0
   rw [bh] at ex;obtain⟨r,er,rfl⟩:=cq.mp ex;obtain⟨ru,sQ,rv⟩:=b_.get er;have lH:=cg sQ;have Rg:=Ha.same (af ht (.tup [.int (i:Int),.ref r]));have P2:aQ K (upd B0 t (.tup [.int (i:Int),.ref r])) t [.int (i:Int),.ref r]:=aQ.of ae;generalize upd B0 t (.tup [.int (i:Int),.ref r])=H14 at Rg P2;obtain⟨dx4,NZ,r1,r2,r3,r4,r5,r6⟩:=Rg.ia;refine⟨t,_,rfl,P2,rfl,_,_,rfl,_,_,rfl,rfl,?_⟩;refine⟨_,rfl,a,dx4,NZ,rfl,r1,r5,_,rfl,_,rfl,H0,a,e,d,bg,r,kE,bC,ps,d_,i,ru,aa,rfl,Rg,rv,sQ,h8 ru lH,by rw [m9];exact(hU _ _ _).mpr (.inr (jZ lH)),?_,?_,?_⟩
   .intro wB Hy;have:=Hy.len br h8;omega
   .rw [m9,eb];exact Dt
   rw [m9,eb];intro WR H15 Xe WQ l15 WM;refine⟨WR,_,_,rfl,Xe,WQ,∅,λhl3=>?_⟩;obtain⟨x1,x2⟩:=G0 ∅;obtain⟨x3,x4⟩:=WM ∅;refine⟨x3.trans x1,λk Ce hk N4 j z hj ez wd hw=>?_⟩;by_cases ck:k < i
   .exact x2 k Ce ck N4 j z hj ez wd hw
   have:k=i:=by omega
   subst this;rw [sQ] at N4;cases N4;rw [<-x1] at hw ⊢;exact x4 j z hj ez wd hw
  rintro σ B0 ⟨d_,y2,y4,rfl,Ha,Dt,RO,G0⟩;rw [au,ll] at G0;exact⟨d_,_,_,rfl,Ha,Dt,RO,G0⟩
 have c':=of_decide_eq_false (q_.mpr c);rw [au,lb] at c';exact q e d bg kE bC ps cM yl HR m9 emp De CF Np (cl ∅)
end
end gL
namespace L2
open PySem PySem.W
section
variable {X:Cx}{ag:List (Addr×Obj)}{σ:St}{H:Hp}{s:Shared}{a:Addr}{kvs:List (aS×V)}{k:aS}{u:Value}{A:Around}{E:Value->Shared->Prop}
def Ni {z:V}{r:Value}{Q:Value->Shared->Prop}(I:Inv X ag σ H s)(e:H a=some (.dK kvs))(hl:kvs.length < sizeLine)(ry:RelV (kV k) u)(rz:RelV z r)
  (h1:∀v w' s',bB kvs k=some v->Inv X ag σ H s'->RelV v w'->Q w' s')(h2:bB kvs k=none->∀s',Inv X ag σ (upd H a (.dK (bS kvs k z))) s'->Q r s') :
  wpAny (model X.prog X.w) A (call (.builtin "dict.setdefault") [.ref a,u,r]) Q E s:=by
 obtain⟨zl,hd,vs,rel,dd⟩:=xX I.b8 e;refine call_meetsIn PySem.F.slot_dict_setdefault dd.typeIs PySem.F.entry_dict_setdefault (PySem.F.args_dict_setdefault_3 _ _ _) (kt_meets_setdefault (bj X.prog X.w) a (lY ry) hd r)
  ⟨vs,dd,by rw [<-rel.length];exact zl,λv hv=>?_,λhn h' HP hs=>?_⟩
 .have rv:=rel.val k;rw [hv] at rv;cases e2:bB kvs k with
  | none=>rw [e2] at rv;cases rv
  | some x=>rw [e2] at rv;exact h1 x v _ e2 (I.tok _) rv
 have Gb:bB kvs k=none:=by
  have rv:=rel.val k;rw [hn] at rv;cases e2:bB kvs k with
  | none=>rfl
  | some x=>rw [e2] at rv;cases rv
 have he:∃q,h'.get? a=some q:=let ⟨q,_,_,hq,_⟩:=HP;⟨q,hq⟩;exact h2 Gb _ (qP I (by rw [e];exact True.intro) hs he (sS (by have:=fu kvs k z;omega) hd (rel.put k rz) HP))
end
section
variable {X:Cx}{o e f:Expr}{apos gO:Pos}{td ty tx:TE}
def Lf (td ty tx:TE):TE:=λσ H Q=>td σ H λx H1=>∃a,x=.ref a/\SH H1 a/\ty σ H1 λy H2=>tx σ H2 λz H3=>∃kvs k,H3 a=some (.dK kvs)/\y=kV k/\kvs.length < sizeLine /\
 (∀v,bB kvs k=some v->Q v H3)/\(bB kvs k=none->Q z (upd H3 a (.dK (bS kvs k z))))
def Fb (ho:PE X o td)(he:PE X e ty)(hf:PE X f tx)(m:M2 X o "setdefault" apos e f gO):PE X (.Call (.Attribute o "setdefault" apos) [e,f] [] gO) (Lf td ty tx):=by
 intro ag s σ H Q I h;refine wpAny_Call_method m.base m.BH m.line yL PySem.F.slot_dict_setdefault PySem.F.type_dict_setdefault (cJ (ho ag s σ H _ I h) λu s1 bz=>?_);obtain⟨x,H1,I1,rx,a,ex,d,q1⟩:=bz;subst ex;obtain rfl:u=Value.ref a:=rx;obtain⟨t1,t2,_⟩:=Af I1 d;refine⟨t1,t2,?_⟩;rw [m.trees];refine rp rfl (u5 (mi (cJ (he ag s1 σ H1 _ I1 q1) λiv s2 ⟨y,H2,I2,ry,q2⟩ =>
  mi (cJ (hf ag s2 σ H2 _ I2 q2) λfv s3 ⟨z,H3,I3,rz,kvs,k,ea,ey,hl,q3,q4⟩=>qZ ?_))))
 subst ey;exact Ni I3 ea hl ry rz (λv w' s4 l I4 zz=>⟨v,_,I4,zz,q3 v l⟩) λl s4 I4=>⟨z,_,I4,rz,q4 l⟩
end
end L2
namespace gL
open PySem L2 M11
section
def Pa {ps:List (Str×Addr)}(n1:(ps.map (·.1)).Nodup)(n2:(ps.map (·.2)).Nodup){p p':Str×Addr}(hp:p∈ps)(n8:p'∈ps)(z:p'≠p):p'.1≠p.1/\p'.2≠p.2:=by
 refine⟨λq=>z ?_,λq=>z ?_⟩
 .have w1:=gW ps n1 p' n8;have w2:=gW ps n1 p hp;rw [q,w2] at w1;injection w1 with w3;injection w3 with w4;exact Prod.ext q w4.symm
 obtain⟨i,hi,ei⟩:=qR.mp n8;obtain⟨j,hj,ej⟩:=qR.mp hp;have Jd:i=j:=by
  refine(uY (xs:=ps.map (·.2)) (h₀:=by simpa using hi) (h₁:=by simpa using hj) n2).mp ?_;rw [oS,oS,ei,ej];exact q
 subst Jd;exact ei.symm.trans ej
structure HS (ps:List (Str×Addr))(st:Str->List Int)(H:Hp)(d:Addr):Prop where
 hd:H d=some (.dK (ps.map jF))
 n1:(ps.map (·.1)).Nodup
 n2:(ps.map (·.2)).Nodup
 lst:∀p∈ps,H p.2=some (.lst ((st p.1).map V.int))
def HS.same {ps:List (Str×Addr)}{st:Str->List Int}{H H':Hp}{d:Addr}(h:HS ps st H d)(s:aC H H'):HS ps st H' d:=⟨s _ _ h.hd,h.n1,h.n2,λp hp=>s _ _ (h.lst p hp)⟩
def BS (st:Str->List Int)(n:Str) (k:Int):Str->List Int:=λz=>if z=n then st z++[k] else st z
def HS.more {ps:List (Str×Addr)}{st:Str->List Int}{H:Hp}{d:Addr}(h:HS ps st H d){p:Str×Addr}(hp:p∈ps) (k:Int):HS ps (BS st p.1 k) (upd H p.2 (.lst ((st p.1).map V.int++[.int k]))) d:=by
 have a:=h.lst p hp;have nd:d≠p.2:=λz=>by have:=h.hd;rw [z,a] at this;cases this
 refine⟨by rw [aj nd];exact h.hd,h.n1,h.n2,λp' n8=>?_⟩;by_cases z:p'=p
 .rw [z,ae];have e1:BS st p.1 k p.1=st p.1++[k]:=ax rfl;rw [e1,bG];rfl
 obtain⟨a1,a2⟩:=Pa h.n1 h.n2 hp n8 z;have e1:BS st p.1 k p'.1=st p'.1:=az a1;rw [aj a2,e1];exact h.lst p' n8
def Ep (K:a9):Sp:=λvs H Q _=>∃(R:Addr)(rs:List Addr)(aa:List aw),vs=[.ref R]/\aI K H R (rs.map V.ref)/\bI K H rs aa/\aa.length<=1000 /\
 ∀(d:Addr)(ps:List (Str×Addr))(H':Hp),H d=none->aC H H'->HS ps (λn=>nums aa n aa.length) H' d->ps.map (·.1)=hd aa->(∀p∈ps,H p.2=none)->Q (.ref d) H'
def vF:aK ["rules","numbers","number","rule"] ["rules"] (av EF):=ir rfl rfl rfl rfl nofun
def IK (F:g_ K "numbers_by_name" "numbers_by_name" EF f fd)(T:Txt mg)(GH:aB P w K mg base 1 "heads_of" ["rules"] (iX K)):bO P w K mg base fk 2 f fd ["rules"] (Ep K):=by
 refine F.ok vF (λvs H Q E h=>?_) (λdW A outer s H vs Q E hr h=>?_)
 .obtain⟨R,rs,aa,rfl,_⟩:=h;rfl
 obtain⟨R,rs,aa,rfl,hR,b_,br,q⟩:=h;have hu:=fS hr;refine⟨_,ai (aA (i:=1) vF.nd rfl (bx rfl) (bE (dD rfl) rfl T.yG eZ (ab
   (bF ["name"] [] rfl (aZ (a8 GH hr rfl (ab (pv 0) ah))) (bp rfl rfl) nofun rfl nofun
    (λ_ _ _ _ _=>aq (i:=0) (show (["name"]:List Str).Nodup by decide +kernel) rfl (bx rfl)) (λ_ _ _ _ _=>bY)
    (λ_ _ _ _ _=>bD (ab (pv 0) (ab (bc ah) ah)))) ah)))
  (ai (bQ b0 rfl (nU rfl T.Jl (ab (pv 0) ah)) (gJ rfl (aE (aq (i:=2) vF.nd rfl (bx rfl)) (aE (aq (i:=3) vF.nd rfl (bx rfl)) b9)))
   (ak (bX (ft eG fZ f_ bK (fK hu (pv 1) (aF aN (pv 3) ao (λ_ _=>rfl)) (λ_ _=>rfl)) (ab (pv 2) ah)))))
  (ak (aL (pv 1)))),?_⟩
 nofun
 have ll:=aY b_;refine⟨_,rfl,R,rs,aa,rfl,hR,b_,br,λD2 H3 f3 s3 e3=>?_⟩;have FQ:=hV (aa.map (·.1)) [];simp only [iV,au] at FQ;refine⟨D2,rfl,⟨_,aI.of e3⟩,λD3 Aj=>sZ (aI.of e3) ∅ Aj λts ps H4 s4 e4 m4 p4 l4 n4=>?_⟩;have n1:(ps.map (·.1)).Nodup:=by rw [m4];exact pP _ lL
 have FV:Paired (λt (kv:aS×V)=>aQ K H4 t [kV kv.1,kv.2]) ts (ps.map jF):=cv p4 λ_ _ z=>z;refine⟨D3,ts,_,rfl,e4,FV,λd qL=>?_⟩;have QN:cK (ps.map jF) []=ps.map jF:=ot _ [] (by
  rw [mR,nX];exact vZ n1)
 rw [QN];have s5:=(s3.trans s4).trans (af qL (.dK (ps.map jF)));have xj:=af qL (.dK (ps.map jF));have yE:H d=none:=(s3.trans s4).free qL;have S5:HS ps (λn=>nums aa n 0) (upd H4 d (.dK (ps.map jF))) d:=⟨ae,n1,n4,λp hp=>xj _ _ (l4 p hp).1⟩;have N0:∀p∈ps,H p.2=none:=λp hp=>s3.free (l4 p hp).2.1;generalize upd H4 d (.dK (ps.map jF))=H5 at s5 S5;clear xj;refine⟨_,rfl,R,_,rfl,s5.seq hR,?_⟩
 let wG:tG:=λi σ H6=>∃(y2 y3:Option V),σ=[aP R,aP d,y2,y3]/\aC H H6/\HS ps (λn=>nums aa n i) H6 d
 refine kZ (xs:=rs.map V.ref) wG ⟨none,none,rfl,s5,S5⟩ ?_ ?_ ?_
 .rintro i σ H6 _ ⟨y2,y3,rfl,s6,_⟩;exact s6.seq hR
 .rintro i x σ H6 t ex ⟨y2,y3,rfl,s6,S6⟩ ht
  ac_nf0
  rw [bh] at ex;obtain⟨r,er,rfl⟩:=cq.mp ex;obtain⟨ru,sQ,p,v1,v2⟩:=b_.get er;have lH:=cg sQ;have li:=(bq.mp sQ).1;have yu:=af ht (.tup [.int (i:Int),.ref r]);have Kl:aQ K (upd H6 t (.tup [.int (i:Int),.ref r])) t [.int (i:Int),.ref r]:=aQ.of ae;have s7:=s6.trans yu;have S7:=S6.same yu;generalize upd H6 t (.tup [.int (i:Int),.ref r])=H7 at Kl s7 S7;obtain⟨pn,xN,yF⟩:∃pn∈ps,pn.1=ru.1:=by
   have:ru.1∈ps.map (·.1):=by rw [m4];exact(hU _ _ _).mpr (.inr (jZ lH))
   obtain⟨pn,a,b⟩:=cQ.mp this;exact⟨pn,a,b⟩
  have an:=S7.lst pn xN;have vn:=gW ps n1 pn xN;rw [yF] at vn;have hg:cz H7 d (.str ru.1) (some (.ref pn.2)):=by
   have:=cz.k (k:=Sum.inr ru.1) S7.hd;rw [vn] at this;exact this
  have ln:=xA aa pn.1 i;refine⟨t,_,rfl,Kl,rfl,_,_,rfl,_,_,rfl,rfl,?_⟩;refine⟨_,rfl,_,rfl,r,_,_,_,rfl,rfl,s7.tup v1,rfl,d,_,rfl,hg,.inl ⟨rfl,_,aI.of an⟩,_,rfl,pn.2,_,_,rfl,rfl,an,bL (by rw [au];omega),?_⟩;have S8:=S7.more xN (i:Int);refine⟨_,_,rfl,λb o hb=>by rw [aj (λz=>by rw [z,N0 pn xN] at hb;cases hb)];exact s7 b o hb,S8.hd,S8.n1,S8.n2,λp' n8=>?_⟩;have:=S8.lst p' n8;rw [this]
  congr 3
  unfold BS;rw [CA];by_cases c:p'.1=pn.1
  .rw [ax c,ax];unfold NO;rw [sQ,c,yF];simp
  rw [az c,az,iu];unfold NO;rw [sQ];intro z;have z2:=dr z;injection z2 with z3;exact c (by rw [yF];exact z3.symm)
 rintro σ H6 ⟨y2,y3,rfl,s6,S6⟩;rw [au,ll] at S6;exact⟨_,rfl,q d ps H6 yE s6 S6 m4 N0⟩
def JM (K:a9):Sp:=λvs H Q _=>∃(R:Addr)(rs:List Addr)(aa:List aw),vs=[.ref R]/\aI K H R (rs.map V.ref)/\bI K H rs aa/\aa.length<=1000/\(∀ru∈aa,ru.2.length<=8) /\
 ∀(d:Addr)(H':Hp),H d=none->aC H H'->Q (.ref d) H'
structure DU (H0 H:Hp)(d:Addr)(kvs:List (aS×V)) (n:Nat):Prop where
 hd:H d=some (.dK kvs)
 ln:kvs.length<=n
 lst:∀kv∈kvs,∃a xs,kv.2=.ref a/\H a=some (.lst xs)/\H0 a=none/\xs.length<=n
def DU.same {H0 H H':Hp}{d:Addr}{kvs:List (aS×V)}{n:Nat}(h:DU H0 H d kvs n)(s:aC H H'):DU H0 H' d kvs n:=⟨s _ _ h.hd,h.ln,λkv hk=>let ⟨a,xs,e1,e2,e3,e4⟩:=h.lst kv hk;⟨a,xs,e1,s _ _ e2,e3,e4⟩⟩
def DU.more {H0 H:Hp}{d a:Addr}{kvs:List (aS×V)}{n:Nat}{xs:List V}{y:V}(h:DU H0 H d kvs (n+1))(ha:H a=some (.lst xs))(lx:xs.length<=n)(l2:∀kv∈kvs,∃a xs,kv.2=.ref a/\H a=some (.lst xs)/\H0 a=none/\xs.length<=n):DU H0 (upd H a (.lst (xs++[y]))) d kvs (n+1):=by
 have nd:d≠a:=λz=>by have:=h.hd;rw [z,ha] at this;cases this
 refine⟨by rw [aj nd];exact h.hd,h.ln,λkv hk=>?_⟩;obtain⟨b,ys,e1,e2,e3,e4⟩:=l2 kv hk;by_cases c:b=a
 .exact⟨b,xs++[y],e1,by rw [c,ae],e3,by rw [bM];simp;omega⟩
 exact⟨b,ys,e1,by rw [aj c];exact e2,e3,∅⟩
def K8 {kvs:List (aS×V)}{k:aS}{v:V}(h:bB kvs k=some v):∃kv∈kvs,kv.2=v:=by
 unfold bB at h;obtain⟨kv,e1,e2⟩:=cq.mp h;exact⟨kv,List.mem_of_find?_eq_some e1,e2⟩
def uk:aK ["rules","standings","number","rule","place","part"] ["rules"] (av Lq):=ir rfl rfl rfl rfl nofun
def LW (F:g_ K "standings_by_part" "standings_by_part" Lq f fd)(T:Txt mg):bO P w K mg base fk 1 f fd ["rules"] (JM K):=by
 refine F.ok uk (λvs H Q E h=>?_) (λdW A outer s H vs Q E hr h=>?_)
 .obtain⟨R,rs,aa,rfl,_⟩:=h;rfl
 obtain⟨R,rs,aa,rfl,hR,b_,br,h8,q⟩:=h;have hu:=fS hr;refine⟨_,ai (aA (i:=1) uk.nd rfl (bx rfl) ij)
  (ai (bQ b0 rfl (nU rfl T.Jl (ab (pv 0) ah)) (gJ rfl (aE (aq (i:=2) uk.nd rfl (bx rfl)) (aE (aq (i:=3) uk.nd rfl (bx rfl)) b9)))
   (ak (bQ b0 rfl (nQ rfl T.Jl (ab (aF aN (pv 3) ao (λ_ _=>rfl)) ah)) (gJ rfl (aE (aq (i:=4) uk.nd rfl (bx rfl)) (aE (aq (i:=5) uk.nd rfl (bx rfl)) b9)))
    (ak (bX (ft eG fZ f_ bK (Fb (pv 1) (pv 5) (bc ah) ⟨rfl,rfl,rfl,rfl⟩) (ab (bD (ab (pv 2) (ab (pv 4) ah))) ah)))))))
  (ak (aL (pv 1)))),?_⟩
 nofun
 have ll:=aY b_;intro d qL;have s1:=af qL (.dK []);have S1:DU H (upd H d (.dK [])) d [] (8 * 0):=⟨ae,aH _,λkv hk=>by cases hk⟩;generalize upd H d (.dK [])=H1 at s1 S1;refine⟨_,rfl,R,_,rfl,s1.seq hR,?_⟩
 let Dy:tG:=λi σ H6=>∃(kvs:List (aS×V))(y2 y3 y4 y5:Option V),σ=[aP R,aP d,y2,y3,y4,y5]/\aC H H6/\DU H H6 d kvs (8 * i)
 refine kZ (xs:=rs.map V.ref) Dy ⟨[],none,none,none,none,rfl,s1,S1⟩ ?_ ?_ ?_
 .rintro i σ H6 _ ⟨kvs,y2,y3,y4,y5,rfl,s6,_⟩;exact s6.seq hR
 .rintro i x σ H6 t ex ⟨kvs,y2,y3,y4,y5,rfl,s6,S6⟩ ht
  ac_nf0
  rw [bh] at ex;obtain⟨r,er,rfl⟩:=cq.mp ex;obtain⟨ru,sQ,p,v1,v2⟩:=b_.get er;have lH:=cg sQ;have NX:=h8 ru lH;have li:=(bq.mp sQ).1;have yu:=af ht (.tup [.int (i:Int),.ref r]);have Kl:aQ K (upd H6 t (.tup [.int (i:Int),.ref r])) t [.int (i:Int),.ref r]:=aQ.of ae;have s7:=s6.trans yu;have S7:=S6.same yu;generalize upd H6 t (.tup [.int (i:Int),.ref r])=H7 at Kl s7 S7;refine⟨t,_,rfl,Kl,rfl,_,_,rfl,_,_,rfl,rfl,?_⟩;refine⟨_,rfl,r,_,_,_,rfl,rfl,s7.tup v1,rfl,p,_,rfl,s7.tup v2,?_⟩
  let Rk:tG:=λj σ H9=>∃(kvs:List (aS×V))(y4 y5:Option V),σ=[aP R,aP d,some (.int (i:Int)),aP r,y4,y5]/\aC H H9/\DU H H9 d kvs (8 * i+j)
  refine pL (xs:=ru.2.map V.str) Rk ⟨kvs,_,_,rfl,s7,S7⟩ ?_ ?_ ?_
  .rintro j σ H9 _ ⟨kvs,y4,y5,rfl,s9,_⟩;exact s9.tup v2
  .rintro j x σ H9 t2 pM ⟨kvs,y4,y5,rfl,s9,S9⟩ ji
   ac_nf0
   rw [bh] at pM;obtain⟨z,ez,rfl⟩:=cq.mp pM;have lj:=(bq.mp ez).1;have xi:=af ji (.tup [.int (j:Int),.str z]);have F5:aQ K (upd H9 t2 (.tup [.int (j:Int),.str z])) t2 [.int (j:Int),.str z]:=aQ.of ae;have vT:=s9.trans xi;have K1:=S9.same xi;generalize upd H9 t2 (.tup [.int (j:Int),.str z])=AN at F5 vT K1;refine⟨t2,_,rfl,F5,rfl,_,_,rfl,_,_,rfl,rfl,?_⟩;have lk:=K1.ln;refine⟨_,rfl,d,rfl,.inl ⟨kvs,.inl K1.hd⟩,_,rfl,o7,λl hl=>?_⟩;have Iq:=af hl (.lst []);have HM:upd AN l (.lst []) l=some (.lst []):=ae;have fl:H l=none:=vT.free hl;have DW:=K1.same Iq;have sA:=vT.trans Iq;generalize upd AN l (.lst [])=DE at Iq HM DW sA;have fin:∀(a:Addr)(xs:List V)(mD:List (aS×V))(yl:Hp),yl a=some (.lst xs)->H a=none->xs.length<=8 * i+j->DU H yl d mD (8 * i+j+1)->(∀kv∈mD,∃a xs,kv.2=.ref a/\yl a=some (.lst xs)/\H a=none/\xs.length<=8 * i+j)->aC H yl ->
     ∀t4,yl t4=none->xs.length < sizeLine/\∃(kvs:List (aS×V))(y4 y5:Option V),[some (V.ref R),aP d,some (.int (i:Int)),aP r,some (.int (j:Int)),some (.str z)]=[aP R,aP d,some (.int (i:Int)),aP r,y4,y5]/\aC H (upd (upd yl t4 (.tup [.int (i:Int),.int (j:Int)])) a (.lst (xs++[.ref t4])))/\DU H (upd (upd yl t4 (.tup [.int (i:Int),.int (j:Int)])) a (.lst (xs++[.ref t4]))) d kvs (8 * i+(j+1)) :=
    λa xs mD yl ea fa lx HR DL JT t4 CN=>by
     have zy:=af CN (.tup [.int (i:Int),.int (j:Int)]);refine⟨bL ∅,mD,_,_,rfl,λb o hb=>by rw [aj (λz=>by rw [z,fa] at hb;cases hb)];exact zy _ _ (JT b o hb),?_⟩;exact(HR.same zy).more (zy _ _ ea) lx λkv hk=>let ⟨b,ys,e1,e2,e3,e4⟩:=DL kv hk;⟨b,ys,e1,zy _ _ e2,e3,e4⟩
   refine⟨kvs,Sum.inr z,DW.hd,rfl,bL ∅,λv hv=>?_,λhn=>?_⟩
   .obtain⟨kv,hk,ek⟩:=K8 hv;obtain⟨a,xs,e1,e2,e3,e4⟩:=DW.lst kv hk;rw [e1] at ek;subst ek;refine⟨.inl ⟨rfl,_,aI.of e2⟩,_,rfl,_,rfl,kc,λt4 CN=>?_⟩;obtain⟨g1,g2⟩:=fin a xs kvs DE e2 e3 e4 ⟨DW.hd,∅,λkv hk=>let ⟨b,ys,e1,e2,e3,e4⟩:=DW.lst kv hk;⟨b,ys,e1,e2,e3,∅⟩⟩ DW.lst sA t4 CN;exact⟨a,_,_,rfl,rfl,af CN _ _ _ e2,g1,g2⟩
   have nd:d≠l:=λz=>by have:=DW.hd;rw [z,HM] at this;cases this
   have KJ:upd DE d (.dK (bS kvs (Sum.inr z) (.ref l))) l=some (.lst []):=by rw [aj nd.symm];exact HM
   have yE:H d=none:=qL;have JT:aC H (upd DE d (.dK (bS kvs (Sum.inr z) (.ref l)))):=λb o hb=>by rw [aj (λz=>by rw [z,yE] at hb;cases hb)];exact sA b o hb
   have DL:∀kv∈bS kvs (Sum.inr z) (.ref l),∃a xs,kv.2=.ref a/\upd DE d (.dK (bS kvs (Sum.inr z) (.ref l))) a=some (.lst xs)/\H a=none/\xs.length<=8 * i+j:=λkv hk=>by
    rw [xq _ hn] at hk;rcases cC.mp hk with h | h
    .obtain⟨b,ys,e1,e2,e3,e4⟩:=DW.lst kv h;exact⟨b,ys,e1,by rw [aj (λz=>by rw [z,DW.hd] at e2;cases e2)];exact e2,e3,e4⟩
    rw [bV.mp h];exact⟨l,[],rfl,KJ,fl,by simp⟩
   have lp:=fu kvs (Sum.inr z:aS) (.ref l);have HR:DU H (upd DE d (.dK (bS kvs (Sum.inr z) (.ref l)))) d (bS kvs (Sum.inr z) (.ref l)) (8 * i+j+1):=⟨ae,∅,λkv hk=>let ⟨b,ys,e1,e2,e3,e4⟩:=DL kv hk;⟨b,ys,e1,e2,e3,∅⟩⟩;generalize upd DE d (.dK (bS kvs (Sum.inr z) (.ref l)))=yl at KJ JT DL HR;refine⟨.inl ⟨rfl,_,aI.of KJ⟩,_,rfl,_,rfl,kc,λt4 CN=>?_⟩;obtain⟨g1,g2⟩:=fin l [] _ yl KJ fl (by simp) HR DL JT t4 CN;exact⟨l,_,_,rfl,rfl,af CN _ _ _ KJ,g1,g2⟩
  rintro σ H9 ⟨kvs,y4,y5,rfl,s9,S9⟩;rw [au] at S9;refine⟨kvs,_,_,_,_,rfl,s9,S9.hd,by have:=S9.ln;omega,λkv hk=>let ⟨b,ys,e1,e2,e3,e4⟩:=S9.lst kv hk;⟨b,ys,e1,e2,e3,∅⟩⟩
 rintro σ H6 ⟨kvs,y2,y3,y4,y5,rfl,s6,S6⟩;exact⟨_,rfl,q d H6 qL s6⟩
end
end gL
namespace L2
open PySem PySem.Spec PyProof.Rows
open PySem
def gp {X:Cx}(K:a9)(hK:X.K=K:=by rfl):jj X (compareOp .In) (RI K false):=by
 subst hK;exact lC
def ur {X:Cx}(hu:X.A.units < cLine):jj X (compareOp .NotEq) (λx y H Q=>∃a b xs,x=.ref a/\y=.ref b/\aI X.K H a xs/\aI X.K H b []/\Q (.bl (!xs.isEmpty)) H):=by
 intro ag s σ H x y v u Q I rx ry h;obtain⟨a,b,xs,rfl,rfl,ha,hb,q⟩:=h;cases rx;cases ry;obtain⟨aU,r,pl,hz⟩:=I.list ha;obtain⟨cI,r2,tT,NP⟩:=I.list hb;have e2:cI=[]:=a_.zero r2;subst e2;have br:=r.length;cases xs with
 | nil =>
  have e:aU=[]:=a_.zero r;subst e;exact SeqAt.RcNeAt.lists (e:=λ_=>true) pl.isList tT.isList rfl hu (λj h1 _=>absurd h1 (by simp)) X.prog X.w X.xe _ ⟨.bl false,H,I,rfl,q⟩
 | cons y ys =>
  refine SeqAt.RcNeAt.lists_lengths pl.isList tT.isList ?_ hu X.prog X.w X.xe _ ⟨.bl true,H,I,rfl,q⟩;rw [bR,bR,<-br];simp
def uW (K:a9)(H:Hp):Nat->V->V->Prop
 | 0,x,y=>x=y/\mK x
 | n+1,x,y=>(x=y/\mK x)\/∃a b xs ys,x=.ref a/\y=.ref b/\((aI K H a xs/\aI K H b ys)\/(aQ K H a xs/\aQ K H b ys))/\Paired (uW K H n) xs ys
def uW.self {K:a9}{H:Hp}{x:V}(h:mK x):∀n,uW K H n x x
 | 0=>⟨rfl,h⟩
 | _+1=>.inl ⟨rfl,h⟩
def jD {A:Around}{s:Shared}{F:V->V->Prop}{xs ys:List V}{aU cI:List Value}(r:a_ xs aU)(r2:a_ ys cI)(p:Paired F xs ys)(hF:∀x y u v,F x y->RelV x u->RelV y v->SeqAt.EqAt A s u v true) (j:Nat)(h1:j < aU.toArray.size)(h2:j < cI.toArray.size) :
  SeqAt.EqAt A s aU.toArray[j] cI.toArray[j] true:=by
 have l1:=r.length;have l2:=r2.length;have k1:j < aU.length:=by simpa using h1
 have k2:j < cI.length:=by simpa using h2
 have g2:ys[j]?=some (ys[j]'∅):=cf ∅;obtain⟨x,g1,fx⟩:=Paired.at_ p j _ g2;obtain⟨u1,e1,q1⟩:=r.get g1;obtain⟨u2,e2,q2⟩:=r2.get g2;have f1:aU.toArray[j]=u1:=by
  have:=(bq.mp e1).2;simpa using this
 have f2:cI.toArray[j]=u2:=by
  have:=(bq.mp e2).2;simpa using this
 rw [f1,f2];exact hF _ _ _ _ fx q1 q2
theorem sU {X:Cx}{ag:List (Addr×Obj)}{σ:St}{H:Hp}{s:Shared}(I:Inv X ag σ H s):∀(n:Nat)(A:Around)(x y:V)(u v:Value),uW X.K H n x y->RelV x u->RelV y v->A.units+n < cLine->SeqAt.EqAt A s u v true
 | 0,A,x,y,u,v,⟨e,h⟩,ru,rv,_=>by subst e;exact mI h ru rv
 | n+1,A,x,y,u,v,.inl ⟨e,h⟩,ru,rv,_=>by subst e;exact mI h ru rv
 | n+1,A,x,y,u,v,.inr ⟨a,b,xs,ys,ex,ey,hs,p⟩,ru,rv,hu=>by
  subst ex;subst ey;cases (show u=Value.ref a from ru);cases (show v=Value.ref b from rv);by_cases e:a=b
  .subst e;exact .same _
  refine .of_refs e ?_;have lp:=aY p;rcases hs with ⟨ha,hb⟩ | ⟨ha,hb⟩
  .obtain⟨aU,r,pl,_⟩:=I.list ha;obtain⟨cI,r2,tT,_⟩:=I.list hb;have l1:=r.length;have l2:=r2.length;have q:=SeqAt.RcAt.lists (A:=A) (s:=s) (e:=λ_=>true) pl.isList tT.isList (by simp only [bR];omega) ∅ (λj h1 h2=>jD r r2 p (λx y u v d r1 r2=>sU I n A.in1 x y u v d r1 r2 (by rw [oP];omega)) j h1 h2);have e:((List.range aU.toArray.size).all λ_=>true)=true:=by simp
   rw [e] at q;exact q
  obtain⟨aU,r,pl,_⟩:=I.tuple ha;obtain⟨cI,r2,tT,_⟩:=I.tuple hb;have l1:=r.length;have l2:=r2.length;have q:=SeqAt.RcAt.tuples (A:=A) (s:=s) (e:=λ_=>true) pl tT ∅ (λj h1 h2=>jD r r2 p (λx y u v d r1 r2=>sU I n A.in1 x y u v d r1 r2 (by rw [oP];omega)) j h1 h2);have e1:((List.range (min aU.toArray.size cI.toArray.size)).all (λ_=>true) && aU.toArray.size == cI.toArray.size)=true:=by
   have:aU.toArray.size=cI.toArray.size:=by simp only [bR];omega
   rw [this];simp
  rw [e1] at q;exact q
def JX (K:a9)(b:Bool) (n:Nat):V->V->Hp->VK->Prop:=λx y H Q=>∃p q xs ys,x=.ref p/\y=.ref q/\aI K H p xs/\aI K H q ys/\Paired (uW K H n) xs ys/\Q (.bl b) H
def rY {X:Cx}(n:Nat)(hu:X.A.units+(n+1) < cLine):jj X (compareOp .NotEq) (JX X.K false n):=by
 intro ag s σ H x y v u Q I rx ry h;obtain⟨a,b,xs,ys,rfl,rfl,ha,hb,p,q⟩:=h;cases rx;cases ry;obtain⟨aU,r,pl,hz⟩:=I.list ha;obtain⟨cI,r2,tT,NP⟩:=I.list hb;have l1:=r.length;have l2:=r2.length;have lp:=aY p;refine SeqAt.RcNeAt.lists (e:=λ_=>true) pl.isList tT.isList (by simp only [bR];omega) ∅ (λj h1 h2=>jD r r2 p (λx y u v d r1 r2=>sU I n X.A.in1 x y u v d r1 r2 (by rw [oP];omega)) j h1 h2) X.prog X.w X.xe _ ?_;have e:(!(List.range aU.toArray.size).all λ_=>true)=false:=by simp
 rw [e];exact⟨.bl false,H,I,rfl,q⟩
section
variable {prog:Program}{w:World}{A:Around}{E:Value->Shared->Prop}{s:Shared}
abbrev d6 (h:Heap)(z:Addr)(f0 f1:Value)(TI TO:Addr):Prop:=h.get? z=some { cls:=.type "zip",data:=.fields #[f0,f1,.bool false,.ref TI,.ref TO] }
def qb {M:Model}{a:Addr}{Q:Option Obj->Shared->Prop}(h:Q (s.heap.get? a) s):wpAny M A (loadIfAlive a) Q E s:=by
 intro Γ p _;show Sem.wp M Γ (Sem.loadIfAlive a Sem.pure) _ _ p s;rw [Sem.wp_loadIfAlive];exact h
def B4 {z TI TO i1 i2 l1 l2:Addr}{i:Nat}{xs ys:Array Value}{x y a b f0 f1:Value}{Q:Option Value->Shared->Prop}(ap:ZipApart z TI TO i1 i2 l1 l2)(hz:d6 s.heap z f0 f1 TI TO)(hI:IsPair s.heap TI (.ref i1) (.ref i2))(hO:IsPair s.heap TO a b)
  (h1:s.heap.IsTupleIter i1 l1 i)(h2:s.heap.IsTupleIter i2 l2 i)(t1:s.heap.IsTuple l1 xs)(t2:s.heap.IsTuple l2 ys)(hx:xs[i]?=some x)(hy:ys[i]?=some y)(hf:f0=.none\/∃T:Nat,f0=rawInt T)
  (hQ:∀h' QH Wb a' b',d6 h' z QH Wb TI TO->(QH=.none\/∃T:Nat,QH=rawInt T)->IsPair h' TO a' b'->h'.IsTupleIter i1 l1 (i+1)->h'.IsTupleIter i2 l2 (i+1)->IsPair h' s.heap.objs.size x y ->
   (∀c o,c≠z->c≠TO->c≠i1->c≠i2->s.heap.get? c=some o->h'.get? c=some o)->Q (some (.ref s.heap.objs.size)) { s with heap:=h' }) :
  wpAny (model prog w) A (pyNext (.ref z)) Q E s:=by
 have hT:s.TypeIs (.ref z) "zip" := ⟨_,hz,rfl⟩;unfold pyNext;refine ar (oH (mW (name:=Str.ofString "__next__") hT F.slot_zip_next (lQ F.slot_zip_next hT F.entry_zip_next ?_ (F.args_zip_next_1 _))));obtain⟨hp,g,d,tk,os⟩:=s;show wpAny _ _ (field (.ref z) 2 >>= λv=>_) _ _ _;refine ar (eF hz rfl (x:=.bool false) (by rfl) ?_);show wpAny _ _ (field (.ref z) 3 >>= λv=>_) _ _ _;refine ar (eF hz rfl (x:=.ref TI) (by rfl) (ar (jl hI rfl ?_)));show wpAny _ _ (Builtin.SmallTypes.ownedTupleIsFree (.ref z) >>= λv=>_) _ _ _;have free:∀(Q':Bool->Shared->Prop) E',Q' true ⟨hp,g,d,tk,os⟩->(∀h',d6 h' z f0 (.bool true) TI TO->Heap.SameBut z hp h'->Q' false ⟨h',g,d,tk,os⟩)->wpAny (model prog w) A.in1 (Builtin.SmallTypes.ownedTupleIsFree (.ref z)) Q' E' ⟨hp,g,d,tk,os⟩:=by
  intro Q' E' q1 q2;unfold Builtin.SmallTypes.ownedTupleIsFree;refine ar (eF hz rfl (x:=f0) (by rfl) ?_);rcases hf with rfl | ⟨T,rfl⟩
  .exact aR q1
  show wpAny _ _ (loadIfAlive (T:Int).toNat >>= λv=>_) _ _ _;refine ar (qb ?_);by_cases c:(hp.get? (T:Int).toNat).isNone=true
  .show wpAny _ _ (if (hp.get? (T:Int).toNat).isNone=true then _ else _) _ _ _;rw [ax c];exact aR q1
  show wpAny _ _ (if (hp.get? (T:Int).toNat).isNone=true then _ else _) _ _ _;rw [az c];refine ar (eF hz rfl (x:=f1) (by rfl) ?_);by_cases c2:f1=.bool true
  .subst c2;show wpAny _ _ (if (Value.bool true != Value.bool true)=true then _ else _) _ _ _;rw [az (by simp)];exact aR (q2 hp hz ⟨rfl,λ_ _=>rfl⟩)
  show wpAny _ _ (if (f1 != Value.bool true)=true then _ else _) _ _ _;rw [ax (by simpa using c2)];exact ar (jX hz (by simp) λh' f' k'=>aR (q2 h' f' k'))
 refine ar (free _ _ ?_ λh' RR sb=>?_)
 .show wpAny _ _ (rule _ >>= λ_=>_) _ _ _;refine ar (ja (ar (eF hz rfl (x:=.ref TO) (by rfl) ?_)));show wpAny _ _ (setField (.ref z) 0 .ellipsis >>= λ_=>_) _ _ _;refine ar (jX hz (by simp) λh₁ f₁ k₁=>?_);replace k₁:Heap.SameBut z hp h₁:=k₁;have UX:d6 h₁ z .ellipsis f1 TI TO:=f₁;have VR:IsPair h₁ TO a b:=k₁.extBut _ _ ap.TOz hO;have a₁:h₁.IsTupleIter i1 l1 i:=h1.at λo q=>k₁.extBut i1 o ap.i1z q;have b₁:h₁.IsTupleIter i2 l2 i:=h2.at λo q=>k₁.extBut i2 o ap.i2z q;have c₁:h₁.IsTuple l1 xs:=t1.extBut k₁.extBut ap.l1z;have d₁:h₁.IsTuple l2 ys:=t2.extBut k₁.extBut ap.l2z;refine ar ?_;show wpAny _ _ (forIn [(Value.ref i1,0),(Value.ref i2,1)] (none,()) _) _ _ ⟨h₁,g,d,tk,os⟩;rw [mQ];refine ar (ar (wpAny_onRaise ?_));show wpAny _ _ (Builtin.SmallTypes.nextOf (.ref i1) >>= λv=>pure (some v)) _ _ _;refine ar (iP a₁ c₁ hx λh₂ a₂ k₂=>aR ?_);replace k₂:Heap.SameBut i1 h₁ h₂:=k₂;have F4:d6 h₂ z .ellipsis f1 TI TO:=k₂.extBut _ _ (cP ap.i1z) UX;have Se:IsPair h₂ TO a b:=k₂.extBut _ _ ap.TOi1 VR;have b₂:h₂.IsTupleIter i2 l2 i:=b₁.at λo q=>k₂.extBut i2 o (cP ap.i12) q;have d₂:h₂.IsTuple l2 ys:=d₁.extBut k₂.extBut ap.l2i1;show wpAny _ _ (seqItems? (.ref TO) >>= λv=>_) _ _ ⟨h₂,g,d,tk,os⟩;refine ar (jl Se rfl ?_);show wpAny _ _ (updateSeq TO (λSX=>SX.setIfInBounds 0 x) >>= λ_=>_) _ _ _;refine ar (wpAny_updateSeq_pair Se λh₃ f₃ k₃=>ar (wpAny_letGo (aR ?_)));replace k₃:Heap.SameBut TO h₂ h₃:=k₃;have hO₃:IsPair h₃ TO x b:=f₃;have hz₃:d6 h₃ z .ellipsis f1 TI TO:=k₃.extBut _ _ (cP ap.TOz) F4;have a₃:h₃.IsTupleIter i1 l1 (i+1):=a₂.at λo q=>k₃.extBut i1 o (cP ap.TOi1) q;have b₃:h₃.IsTupleIter i2 l2 i:=b₂.at λo q=>k₃.extBut i2 o (cP ap.TOi2) q;have d₃:h₃.IsTuple l2 ys:=d₂.extBut k₃.extBut ap.l2TO;show wpAny _ _ (forIn [(Value.ref i2,1)] (none,()) _) _ _ ⟨h₃,g,d,tk,os⟩;rw [mQ];refine ar (ar (wpAny_onRaise ?_));show wpAny _ _ (Builtin.SmallTypes.nextOf (.ref i2) >>= λv=>pure (some v)) _ _ _;refine ar (iP b₃ d₃ hy λh₄ b₄ k₄=>aR ?_);replace k₄:Heap.SameBut i2 h₃ h₄:=k₄;have UW:d6 h₄ z .ellipsis f1 TI TO:=k₄.extBut _ _ (cP ap.i2z) hz₃;have Sd:IsPair h₄ TO x b:=k₄.extBut _ _ ap.TOi2 hO₃;have a₄:h₄.IsTupleIter i1 l1 (i+1):=a₃.at λo q=>k₄.extBut i1 o ap.i12 q;show wpAny _ _ (seqItems? (.ref TO) >>= λv=>_) _ _ ⟨h₄,g,d,tk,os⟩;refine ar (jl Sd rfl ?_);show wpAny _ _ (updateSeq TO (λSX=>SX.setIfInBounds 1 y) >>= λ_=>_) _ _ _;refine ar (wpAny_updateSeq_pair Sd λh₅ f₅ k₅=>ar (wpAny_letGo (aR ?_)));replace k₅:Heap.SameBut TO h₄ h₅:=k₅;have Ze:IsPair h₅ TO x y:=f₅;have hz₅:d6 h₅ z .ellipsis f1 TI TO:=k₅.extBut _ _ (cP ap.TOz) UW;have a₅:h₅.IsTupleIter i1 l1 (i+1):=a₄.at λo q=>k₅.extBut i1 o (cP ap.TOi1) q;have b₅:h₅.IsTupleIter i2 l2 (i+1):=b₄.at λo q=>k₅.extBut i2 o (cP ap.TOi2) q;show wpAny _ _ (pure (none,())) _ _ ⟨h₅,g,d,tk,os⟩;refine aR ?_;show wpAny _ _ (seqItems? (.ref TO) >>= λv=>_) _ _ ⟨h₅,g,d,tk,os⟩;refine ar (jl Ze rfl ?_);show wpAny _ _ (newTuple [x,y] >>= λv=>_) _ _ ⟨h₅,g,d,tk,os⟩;have hsz:h₅.objs.size=hp.objs.size:=by rw [k₅.1,k₄.1,k₃.1,k₂.1,k₁.1]
  refine ar (qT ?_);rw [hsz];have up:∀{c o},h₅.get? c=some o->(h₅.push { cls:=.type "tuple",data:=.seq #[x,y] }).get? c=some o:=λq=>bJ _ q;have hN:IsPair (h₅.push { cls:=.type "tuple",data:=.seq #[x,y] }) hp.objs.size x y:=by
   show _=_;rw [<-hsz];exact cW _ rfl
  have YI:=up hz₅;have Zd:=up Ze;have a₆:=a₅.at λo q=>up q;have b₆:=b₅.at λo q=>up q;have kk:∀c o,c≠z->c≠TO->c≠i1->c≠i2->hp.get? c=some o->(h₅.push { cls:=.type "tuple",data:=.seq #[x,y] }).get? c=some o:=λc o n1 n2 n3 n4 q=>up (k₅.extBut c o n2 (k₄.extBut c o n4 (k₃.extBut c o n2 (k₂.extBut c o n3 (k₁.extBut c o n1 q)))));have hzl:z < hp.objs.size:=ba hz;have hOl:TO < hp.objs.size:=ba hO;generalize h₅.push { cls:=.type "tuple",data:=.seq #[x,y] }=h₆ at hN YI Zd a₆ b₆ kk;refine ar (by
   unfold Builtin.SmallTypes.ownedTupleHandOut;refine ar (jX YI (by simp) λh₇ f₇ k₇=>?_);have hz₇:d6 h₇ z (rawInt (hp.objs.size:Int)) f1 TI TO:=f₇;replace k₇:Heap.SameBut z h₆ h₇:=k₇;refine jX hz₇ (by simp) λh₈ f₈ k₈=>?_;have hz₈:d6 h₈ z (rawInt (hp.objs.size:Int)) (.bool false) TI TO:=f₈;replace k₈:Heap.SameBut z h₇ h₈:=k₈;have Oy:∀c o,c≠z->h₆.get? c=some o->h₈.get? c=some o:=λc o n q=>k₈.extBut c o n (k₇.extBut c o n q);exact aR ⟨_,rfl,aR (hQ h₈ _ _ _ _ hz₈ (.inr ⟨hp.objs.size,rfl⟩) (Oy _ _ ap.TOz Zd) (a₆.at λo q=>Oy _ _ ap.i1z q) (b₆.at λo q=>Oy _ _ ap.i2z q) (Oy _ _ (ff hzl) hN) λc o n1 n2 n3 n4 q=>Oy c o n1 (kk c o n1 n2 n3 n4 q))⟩)
 replace sb:Heap.SameBut z hp h':=sb;have a₁:h'.IsTupleIter i1 l1 i:=h1.at λo q=>sb.extBut i1 o ap.i1z q;have b₁:h'.IsTupleIter i2 l2 i:=h2.at λo q=>sb.extBut i2 o ap.i2z q;have c₁:h'.IsTuple l1 xs:=t1.extBut sb.extBut ap.l1z;have d₁:h'.IsTuple l2 ys:=t2.extBut sb.extBut ap.l2z;have VR:IsPair h' TO a b:=sb.extBut _ _ ap.TOz hO;show wpAny _ _ (forIn #[Value.ref i1,Value.ref i2] (none,#[]) _ >>= λv=>_) _ _ ⟨h',g,d,tk,os⟩;refine ar ?_;rw [show (#[Value.ref i1,Value.ref i2]:Array Value)=[Value.ref i1,Value.ref i2].toArray from rfl,List.forIn_toArray,mQ];refine ar (ar (iH ?_));show wpAny _ _ (Builtin.SmallTypes.nextOf (.ref i1) >>= λv=>pure (some v)) _ _ _;refine ar (iP a₁ c₁ hx λh₂ a₂ k₂=>aR (aR ?_));replace k₂:Heap.SameBut i1 h' h₂:=k₂;have F4:d6 h₂ z f0 (.bool true) TI TO:=k₂.extBut _ _ (cP ap.i1z) RR;have Se:IsPair h₂ TO a b:=k₂.extBut _ _ ap.TOi1 VR;have b₂:h₂.IsTupleIter i2 l2 i:=b₁.at λo q=>k₂.extBut i2 o (cP ap.i12) q;have d₂:h₂.IsTuple l2 ys:=d₁.extBut k₂.extBut ap.l2i1;show wpAny _ _ (forIn [Value.ref i2] (none,#[x]) _) _ _ ⟨h₂,g,d,tk,os⟩;rw [mQ];refine ar (ar (iH ?_));show wpAny _ _ (Builtin.SmallTypes.nextOf (.ref i2) >>= λv=>pure (some v)) _ _ _;refine ar (iP b₂ d₂ hy λh₄ b₄ k₄=>aR (aR ?_));replace k₄:Heap.SameBut i2 h₂ h₄:=k₄;have UW:d6 h₄ z f0 (.bool true) TI TO:=k₄.extBut _ _ (cP ap.i2z) F4;have Sd:IsPair h₄ TO a b:=k₄.extBut _ _ ap.TOi2 Se;have a₄:h₄.IsTupleIter i1 l1 (i+1):=a₂.at λo q=>k₄.extBut i1 o ap.i12 q;show wpAny _ _ (pure (none,#[x,y])) _ _ ⟨h₄,g,d,tk,os⟩;refine aR ?_;show wpAny _ _ (newTuple [x,y] >>= λv=>_) _ _ ⟨h₄,g,d,tk,os⟩;have hsz:h₄.objs.size=hp.objs.size:=by rw [k₄.1,k₂.1,sb.1]
 refine ar (qT ?_);rw [hsz];have up:∀{c o},h₄.get? c=some o->(h₄.push { cls:=.type "tuple",data:=.seq #[x,y] }).get? c=some o:=λq=>bJ _ q;have hN:IsPair (h₄.push { cls:=.type "tuple",data:=.seq #[x,y] }) hp.objs.size x y:=by
  show _=_;rw [<-hsz];exact cW _ rfl
 exact aR ⟨_,rfl,aR (hQ _ _ _ _ _ (up UW) hf (up Sd) (a₄.at λo q=>up q) (b₄.at λo q=>up q) hN λc o n1 n2 n3 n4 q=>up (k₄.extBut c o n4 (k₂.extBut c o n3 (sb.extBut c o n1 q))))⟩
def D_ {z TI TO i1 i2 l1 l2:Addr}{i:Nat}{xs:Array Value}{f0 f1:Value}{Q:Option Value->Shared->Prop}(hh:A.handled=none)(ap:ZipApart z TI TO i1 i2 l1 l2)(hz:d6 s.heap z f0 f1 TI TO)(hI:IsPair s.heap TI (.ref i1) (.ref i2))
  (h1:s.heap.IsTupleIter i1 l1 i)(t1:s.heap.IsTuple l1 xs)(hx:xs[i]?=none)(hf:f0=.none\/∃T:Nat,f0=rawInt T)
  (hQ:∀h',(∀c o,c≠z->c≠i1->s.heap.get? c=some o->h'.get? c=some o)->Q none { s with heap:=h' }):wpAny (model prog w) A (pyNext (.ref z)) Q E s:=by
 have hT:s.TypeIs (.ref z) "zip" := ⟨_,hz,rfl⟩;unfold pyNext;refine ar (oH (mW (name:=Str.ofString "__next__") hT F.slot_zip_next (lQ F.slot_zip_next hT F.entry_zip_next ?_ (F.args_zip_next_1 _))));obtain⟨hp,g,d,tk,os⟩:=s;show wpAny _ _ (field (.ref z) 2 >>= λv=>_) _ _ _;refine ar (eF hz rfl (x:=.bool false) (by rfl) ?_);show wpAny _ _ (field (.ref z) 3 >>= λv=>_) _ _ _;refine ar (eF hz rfl (x:=.ref TI) (by rfl) (ar (jl hI rfl ?_)));show wpAny _ _ (Builtin.SmallTypes.ownedTupleIsFree (.ref z) >>= λv=>_) _ _ _;have free:∀(Q':Bool->Shared->Prop) E',Q' true ⟨hp,g,d,tk,os⟩->(∀h',d6 h' z f0 (.bool true) TI TO->Heap.SameBut z hp h'->Q' false ⟨h',g,d,tk,os⟩)->wpAny (model prog w) A.in1 (Builtin.SmallTypes.ownedTupleIsFree (.ref z)) Q' E' ⟨hp,g,d,tk,os⟩:=by
  intro Q' E' q1 q2;unfold Builtin.SmallTypes.ownedTupleIsFree;refine ar (eF hz rfl (x:=f0) (by rfl) ?_);rcases hf with rfl | ⟨T,rfl⟩
  .exact aR q1
  show wpAny _ _ (loadIfAlive (T:Int).toNat >>= λv=>_) _ _ _;refine ar (qb ?_);by_cases c:(hp.get? (T:Int).toNat).isNone=true
  .show wpAny _ _ (if (hp.get? (T:Int).toNat).isNone=true then _ else _) _ _ _;rw [ax c];exact aR q1
  show wpAny _ _ (if (hp.get? (T:Int).toNat).isNone=true then _ else _) _ _ _;rw [az c];refine ar (eF hz rfl (x:=f1) (by rfl) ?_);by_cases c2:f1=.bool true
  .subst c2;show wpAny _ _ (if (Value.bool true != Value.bool true)=true then _ else _) _ _ _;rw [az (by simp)];exact aR (q2 hp hz ⟨rfl,λ_ _=>rfl⟩)
  show wpAny _ _ (if (f1 != Value.bool true)=true then _ else _) _ _ _;rw [ax (by simpa using c2)];exact ar (jX hz (by simp) λh' f' k'=>aR (q2 h' f' k'))
 have stop:∀(h':Heap)(e:Addr),(∀c o,c≠z->c≠i1->hp.get? c=some o->h'.get? c=some o)->(∃o,h'.get? e=some o/\o.cls=.type "StopIteration")->wpAny (model prog w) A (match (Except.error (Value.ref e):Except Value (Option Value)) with
   | Except.ok (some v)=>pure (some v)
   | Except.ok none=>unsupported "iter:the-iterator's-class-has-lost-its-__next__-amid-the-walk"
   | Except.error e=>do
    if <-isInstance e (.type "StopIteration") then pure none else throw e) Q E ⟨h',g,d,tk,os⟩:=λh' e kk hs=>by
  obtain⟨o,ho,hc⟩:=hs;exact ar (wpAny_isInstance (T := "StopIteration") (b:=true) ⟨o,ho,hc⟩ isSubtype_stop (aR (hQ h' kk)))
 refine ar (free _ _ ?_ λh' RR sb=>?_)
 .show wpAny _ _ (rule _ >>= λ_=>_) _ _ _;refine ar (ja (ar (eF hz rfl (x:=.ref TO) (by rfl) ?_)));show wpAny _ _ (setField (.ref z) 0 .ellipsis >>= λ_=>_) _ _ _;refine ar (jX hz (by simp) λh₁ f₁ k₁=>?_);replace k₁:Heap.SameBut z hp h₁:=k₁;have UX:d6 h₁ z .ellipsis f1 TI TO:=f₁;have a₁:h₁.IsTupleIter i1 l1 i:=h1.at λo q=>k₁.extBut i1 o ap.i1z q;have c₁:h₁.IsTuple l1 xs:=t1.extBut k₁.extBut ap.l1z;refine ar ?_;show wpAny _ _ (forIn [(Value.ref i1,0),(Value.ref i2,1)] (none,()) _) _ _ ⟨h₁,g,d,tk,os⟩;rw [mQ];refine ar (ar (wpAny_onRaise ?_));show wpAny _ _ (Builtin.SmallTypes.nextOf (.ref i1) >>= λv=>pure (some v)) _ _ _;refine ar (iO (show A.in1.handled=none from hh) a₁ c₁ hx λh₂ e k₂ hs=>?_);replace k₂:Heap.ExtBut i1 h₁ h₂:=k₂;have F4:d6 h₂ z .ellipsis f1 TI TO:=k₂ _ _ (cP ap.i1z) UX;refine jX F4 (by simp) λh₃ f₃ k₃=>?_;replace k₃:Heap.SameBut z h₂ h₃:=k₃;refine stop h₃ e (λc o n1 n2 q=>k₃.extBut c o n1 (k₂ c o n2 (k₁.extBut c o n1 q))) ?_;obtain⟨o,ho,hc⟩:=hs;have ne:e≠z:=λy=>by
   rw [y] at ho;have:=gS (ho.symm.trans F4);rw [this] at hc;exact absurd (show Value.type "zip"=Value.type "StopIteration" from hc) nofun
  exact⟨o,k₃.extBut e o ne ho,hc⟩
 replace sb:Heap.SameBut z hp h':=sb;have a₁:h'.IsTupleIter i1 l1 i:=h1.at λo q=>sb.extBut i1 o ap.i1z q;have c₁:h'.IsTuple l1 xs:=t1.extBut sb.extBut ap.l1z;show wpAny _ _ (forIn #[Value.ref i1,Value.ref i2] (none,#[]) _ >>= λv=>_) _ _ ⟨h',g,d,tk,os⟩;refine ar ?_;rw [show (#[Value.ref i1,Value.ref i2]:Array Value)=[Value.ref i1,Value.ref i2].toArray from rfl,List.forIn_toArray,mQ];refine ar (ar (iH ?_));show wpAny _ _ (Builtin.SmallTypes.nextOf (.ref i1) >>= λv=>pure (some v)) _ _ _;refine ar (iO (show A.in1.handled=none from hh) a₁ c₁ hx λh₂ e k₂ hs=>?_);replace k₂:Heap.ExtBut i1 h' h₂:=k₂;exact stop h₂ e (λc o n1 n2 q=>k₂ c o n2 (sb.extBut c o n1 q)) hs
end
def zT (h:Heap)(l1 l2:Addr):Heap :=
 ((((h.push { cls:=.type "tuple_iterator",data:=.fields #[.ref l1,.int 0 0] }).push { cls:=.type "tuple_iterator",data:=.fields #[.ref l2,.int 0 0] }).push
  { cls:=.type "tuple",data:=.seq #[.ref h.objs.size,.ref (h.objs.size+1)] }).push { cls:=.type "tuple",data:=.seq #[.none,.none] }).push
  { cls:=.type "zip",data:=.fields #[.none,.bool false,.bool false,.ref (h.objs.size+2),.ref (h.objs.size+3)] }
def vY (a b:Value):Builtin.SmallTypes.newClass "zip" ⟨[.type "zip",a,b],[]⟩=pure (.type "zip",[a,b]):=by
 unfold Builtin.SmallTypes.newClass;show (isType (.type "zip") >>= λv=>_)=_;have e:isType (.type "zip")=pure true:=rfl;rw [e];show (isSubtype (.type "zip") (.type "zip") >>= λv=>_)=_;rw [sub_zip];rfl
def z5 (l1 l2:Addr)(xs ys:Array Value):Meets (Builtin.«zip.__new__» ⟨[.type "zip",.ref l1,.ref l2],[]⟩) λ_ R s =>
  s.heap.IsTuple l1 xs/\s.heap.IsTuple l2 ys/\R (.ok (.ret (.ref (s.heap.objs.size+4)))) { s with heap:=zT s.heap l1 l2 }:=by
 refine Meets.of_wp λprog w A R s h=>?_;obtain⟨t1,t2,q⟩:=h;obtain⟨hp,g,d,tk,os⟩:=s;unfold Builtin.«zip.__new__»;rw [vY];refine ar (aR ?_);show wpAny _ _ (Builtin.SmallTypes.iterAll [.ref l1,.ref l2] >>= λv=>_) _ _ _;refine ar (by
  unfold Builtin.SmallTypes.iterAll;refine ar ?_;rw [mQ];refine ar (ar (iH (oW t1 (aR ?_))));show wpAny _ _ (forIn [Value.ref l2] #[Value.ref hp.objs.size] _) _ _ _;rw [mQ];refine ar (ar (iH (oW (t2.push _) (aR ?_))));show wpAny _ _ (pure #[Value.ref hp.objs.size,Value.ref _]) _ _ _;refine aR (aR ?_);show wpAny _ _ (newTuple [.ref hp.objs.size,.ref _] >>= λv=>_) _ _ _;refine ar (qT ?_);show wpAny _ _ (newTuple [.none,.none] >>= λv=>_) _ _ _;refine ar (qT ?_);show wpAny _ _ (newObj (.type "zip") (.fields #[.none,.bool false,.bool false,.ref _,.ref _]) >>= λv=>_) _ _ _;refine ar (iW ?_ (by size_fits));refine aR ⟨_,rfl,?_⟩;simp only [jk];exact q)
def Dq {prog:Program}{w:World}{A:Around}{E:Value->Shared->Prop}{s:Shared}{l1 l2:Addr}{xs ys:Array Value}{Q:Value->Shared->Prop}(t1:s.heap.IsTuple l1 xs)(t2:s.heap.IsTuple l2 ys)
  (hQ:Q (.ref (s.heap.objs.size+4)) { s with heap:=zT s.heap l1 l2 }):wpAny (model prog w) A (call (.type "zip") [.ref l1,.ref l2]) Q E s:=by
 refine callType_new F.called_zip rfl (F.typeCall_zip_2 _ _) (F.newCall_zip_2 _ _) (λobj=>F.args_object_init_3 _ _ _) F.entry_zip_new (z5 l1 l2 xs ys) ⟨t1,t2,?_⟩;refine⟨?_,hQ⟩;refine⟨{ cls:=.type "zip",data:=.fields #[.none,.bool false,.bool false,.ref (s.heap.objs.size+2),.ref (s.heap.objs.size+3)] },?_,rfl⟩;show (zT s.heap l1 l2).get? (s.heap.objs.size+4)=_;unfold zT;have e:((((s.heap.push { cls:=.type "tuple_iterator",data:=.fields #[.ref l1,.int 0 0] }).push { cls:=.type "tuple_iterator",data:=.fields #[.ref l2,.int 0 0] }).push
  { cls:=.type "tuple",data:=.seq #[.ref s.heap.objs.size,.ref (s.heap.objs.size+1)] }).push { cls:=.type "tuple",data:=.seq #[.none,.none] }).objs.size=s.heap.objs.size+4:=by simp only [jk]
 rw [<-e];exact cW _ rfl
structure Nr (h:Heap)(z TI TO i1 i2 l1 l2:Addr)(xs ys:Array Value) (i:Nat):Prop where
 hz:∃f0 f1,d6 h z f0 f1 TI TO/\(f0=.none\/∃T:Nat,f0=rawInt T)
 hI:IsPair h TI (.ref i1) (.ref i2)
 hO:∃a b,IsPair h TO a b
 h1:h.IsTupleIter i1 l1 i
 h2:h.IsTupleIter i2 l2 i
 t1:h.IsTuple l1 xs
 t2:h.IsTuple l2 ys
def jq {h h':Heap}{l:Addr}{xs:Array Value}(t:h.IsTuple l xs)(k:∀o,h.get? l=some o->h'.get? l=some o):h'.IsTuple l xs:=by
 obtain⟨o,a,b,c⟩:=t;exact⟨o,k o a,b,c⟩
def lg (h:Heap) (N:Nat)(xs ys bA:Array Value):Prop:=∃Ts:List Nat,bA.toList=Ts.map Value.ref/\Ts.Pairwise (· < ·)/\∀(j T:Nat),Ts[j]?=some T->N<=T/\∃x y:Value,IsPair h T x y/\xs[j]?=some x/\ys[j]?=some y
def lg.keep {h h':Heap}{N:Nat}{xs ys bA:Array Value}(a:lg h N xs ys bA)(k:∀(T:Nat) o,N<=T->h.get? T=some o->h'.get? T=some o):lg h' N xs ys bA:=by
 obtain⟨Ts,e1,e2,e3⟩:=a;refine⟨Ts,e1,e2,λj T hj=>?_⟩;obtain⟨l,x,y,p,q⟩:=e3 j T hj;exact⟨l,x,y,k T _ l p,q⟩
def lg.more {h:Heap}{N T0:Nat}{xs ys bA:Array Value}{x y:Value}(a:lg h N xs ys bA)(lt:∀(Ts:List Nat),bA.toList=Ts.map Value.ref->∀T∈Ts,T < T0)(hN:N<=T0)(p:IsPair h T0 x y)(hx:xs[bA.size]?=some x)(hy:ys[bA.size]?=some y):lg h N xs ys (bA.push (.ref T0)):=by
 obtain⟨Ts,e1,e2,e3⟩:=a;have el:Ts.length=bA.size:=by
  have:=congrArg List.length e1;rw [au] at this;rw [<-this];simp
 refine⟨Ts++[T0],by rw [Array.toList_push,e1,bG];rfl,List.pairwise_append.mpr ⟨e2,by simp,λT hT b hb=>by rw [bV.mp hb];exact lt Ts e1 T hT⟩,λj T hj=>?_⟩;by_cases c:j < Ts.length
 .rw [mY c] at hj;exact e3 j T hj
 rw [lR ∅] at hj;have c2:j - Ts.length=0:=by
  have:=(bq.mp hj).1;simp at this;omega
 rw [c2] at hj;cases hj;have:j=bA.size:=by omega
 rw [this];exact⟨hN,x,y,p,hx,hy⟩
def DZ {prog:Program}{w:World}{A:Around}{R:Result->Shared->Prop}{S z TI TO i1 i2 l1 l2:Addr}{xs ys:Array Value}{res:Value}{N n:Nat}(hh:A.handled=none)(ap:ZipApart z TI TO i1 i2 l1 l2)(ex:xs.size=n)(ey:ys.size=n)(hn:n<=1000000)
  (lz:z < N/\TI < N/\TO < N/\i1 < N/\i2 < N/\l1 < N/\l2 < N/\S < N)(nS:S≠z/\S≠TI/\S≠TO/\S≠i1/\S≠i2/\S≠l1/\S≠l2) :
  ∀(k i:Nat)(s:Shared)(bA:Array Value) (c:Nat),n - i=k->i<=n->N<=s.heap.objs.size->Nr s.heap z TI TO i1 i2 l1 l2 xs ys i->s.heap.get? S=some { cls:=.type "list",data:=.seq bA c }->bA.size=i->lg s.heap N xs ys bA ->
   (∀(h':Heap)(AH:Array Value) (c':Nat),(∀b o,b≠S->b≠z->b≠TO->b≠i1->b≠i2->s.heap.get? b=some o->h'.get? b=some o)->h'.get? S=some { cls:=.type "list",data:=.seq AH c' }->AH.size=n->lg h' N xs ys AH->R (.ok (.ret res)) { s with heap:=h' }) ->
   codeAny (model prog w) A (Code.builtin "list.extend.loop" ⟨[.ref S,.ref z,res],[]⟩) R s:=by
 have Ku:∀T:Nat,N<=T->T≠S/\T≠z/\T≠TO/\T≠i1/\T≠i2:=λT h=>⟨ff (eV lz.2.2.2.2.2.2.2 h),ff (eV lz.1 h),ff (eV lz.2.2.1 h),ff (eV lz.2.2.2.1 h),ff (eV lz.2.2.2.2.1 h)⟩;intro k
 induction k with
 | zero =>
  intro i s bA c hk hi hN st hS ha lJ q;have e:i=n:=by omega
  subst e;refine mf F.entry_extend_loop ?_;rw [qQ uZ];show wpAny _ _ (pyNext (.ref z) >>= λv=>_) _ _ _;obtain⟨f0,f1,hz,hf⟩:=st.hz;refine ar (D_ (show A.in1.handled=none from hh) ap hz st.hI st.h1 st.t1 (by rw [yI ∅]) hf λh' kk=>?_);refine aR ?_;exact q h' bA c (λb o n1 n2 n3 n4 n5 hb=>kk b o n2 n4 hb) (kk _ _ nS.1 nS.2.2.2.1 hS) ha (lJ.keep λT o l hT=>kk _ _ (Ku T l).2.1 (Ku T l).2.2.2.1 hT)
 | succ k ih =>
  intro i s bA c hk hi hN st hS ha lJ q;refine mf F.entry_extend_loop ?_;rw [qQ uZ];show wpAny _ _ (pyNext (.ref z) >>= λv=>_) _ _ _;obtain⟨f0,f1,hz,hf⟩:=st.hz;obtain⟨a,b,hO⟩:=st.hO;obtain⟨x0,hx⟩:∃x0,xs[i]?=some x0:=⟨xs[i]'∅,Array.getElem?_eq_getElem ∅⟩;obtain⟨y0,hy⟩:∃y0,ys[i]?=some y0:=⟨ys[i]'∅,Array.getElem?_eq_getElem ∅⟩;refine ar (B4 (A:=A.in1) ap hz st.hI hO st.h1 st.h2 st.t1 st.t2 hx hy hf λh' QH Wb a' b' RR hf' hO' V5 V3 hN' kk=>?_);show wpAny _ _ (updateSeq S (λu=>u.push (.ref s.heap.objs.size)) >>= λ_=>_) _ _ _;have Zb:h'.get? S=some { cls:=.type "list",data:=.seq bA c }:=kk _ _ nS.1 nS.2.2.1 nS.2.2.2.1 nS.2.2.2.2.1 hS;have sz1:bA.size<=sizeLine:=fits ∅;have sz2:(bA.push (Value.ref s.heap.objs.size)).size<=sizeLine+1:=by rw [Array.size_push];omega
  refine ar (qW Zb rfl ?_ sz1 sz2);refine aR ⟨kI uZ _,?_⟩;have up:∀b o,b≠S->h'.get? b=some o->(h'.update S (Obj.mapSeq λu=>u.push (.ref s.heap.objs.size))).get? b=some o:=λb o nb hb=>by
   rw [o6 _ _ (cP nb)];exact hb
  have lt:∀b o,s.heap.get? b=some o->b≠s.heap.objs.size:=λb o hb=>bN (ba hb);obtain⟨c2,Za⟩:∃c2,(h'.update S (Obj.mapSeq λu=>u.push (.ref s.heap.objs.size))).get? S=some { cls:=.type "list",data:=.seq (bA.push (.ref s.heap.objs.size)) c2 }:=⟨_,o5 _ Zb rfl⟩;have VS:=up _ _ (Ku _ hN).1 hN';generalize h'.update S (Obj.mapSeq λu=>u.push (.ref s.heap.objs.size))=h₂ at up Za VS;have st₂:Nr h₂ z TI TO i1 i2 l1 l2 xs ys (i+1):=⟨⟨QH,Wb,up _ _ nS.1.symm RR,hf'⟩,up _ _ nS.2.1.symm (kk _ _ ap.TIz ap.TITO ap.TIi1 ap.TIi2 st.hI),⟨a',b',up _ _ nS.2.2.1.symm hO'⟩,
   V5.at λo q=>up _ _ nS.2.2.2.1.symm q,V3.at λo q=>up _ _ nS.2.2.2.2.1.symm q,jq st.t1 λo q=>up _ _ nS.2.2.2.2.2.1.symm (kk _ _ ap.l1z ap.l1TO ap.l1i1 ap.l1i2 q),jq st.t2 λo q=>up _ _ nS.2.2.2.2.2.2.symm (kk _ _ ap.l2z ap.l2TO ap.l2i1 ap.l2i2 q)⟩
  refine ih (i+1) ⟨h₂,s.gens,s.drawn,s.toks,s.os⟩ (bA.push (.ref s.heap.objs.size)) c2 ∅ ∅ (fX hN (jH (ba VS))) st₂ Za (by rw [Array.size_push,ha]) ?_ λh₃ AH c' k₃ e₃ s₃ a₃=>?_
  .have W8:lg h₂ N xs ys bA:=lJ.keep λT o l hT=>up _ _ (Ku T l).1 (kk _ _ (Ku T l).2.1 (Ku T l).2.2.1 (Ku T l).2.2.2.1 (Ku T l).2.2.2.2 hT);refine W8.more (λTs eT T hT=>?_) hN VS (by rw [ha];exact hx) (by rw [ha];exact hy);obtain⟨Ts',e1,_,e3⟩:=lJ;have:Ts'=Ts:=by
    have e:=e1.symm.trans eT;exact List.map_inj_right (λ_ _ z=>by cases z;rfl) |>.mp e
   subst this;obtain⟨j,hj⟩:=iw hT;obtain⟨_,x,y,p,_⟩:=e3 j T hj;exact ba p
  exact q h₃ AH c' (λb o n1 n2 n3 n4 n5 hb=>k₃ b o n1 n2 n3 n4 n5 (up _ _ n1 (kk _ _ n2 n3 n4 n5 hb))) e₃ s₃ a₃
def Nr.keep {h h':Heap}{z TI TO i1 i2 l1 l2:Addr}{xs ys:Array Value}{i:Nat}(st:Nr h z TI TO i1 i2 l1 l2 xs ys i)(k:∀b o,h.get? b=some o->h'.get? b=some o):Nr h' z TI TO i1 i2 l1 l2 xs ys i:=by
 obtain⟨⟨f0,f1,a,b⟩,hI,⟨c,d,hO⟩,h1,h2,t1,t2⟩:=st;exact⟨⟨f0,f1,k _ _ a,b⟩,k _ _ hI,⟨c,d,k _ _ hO⟩,h1.at λo q=>k _ _ q,h2.at λo q=>k _ _ q,jq t1 λo q=>k _ _ q,jq t2 λo q=>k _ _ q⟩
def yO:typeLookup (.type "zip") (Str.ofString "__len__")=pure none:=by kernel_rfl
def wU:typeLookup (.type "zip") (Str.ofString "__length_hint__")=pure none:=by kernel_rfl
def AD {prog:Program}{w:World}{A:Around}{E:Value->Shared->Prop}{s:Shared}{z TI TO i1 i2 l1 l2:Addr}{xs ys:Array Value}{n:Nat}{Q:Value->Shared->Prop}(hh:A.handled=none)(ap:ZipApart z TI TO i1 i2 l1 l2)(ex:xs.size=n)(ey:ys.size=n)(hn:n<=1000000)
  (YJ:d6 s.heap z .none (.bool false) TI TO)(st:Nr s.heap z TI TO i1 i2 l1 l2 xs ys 0)(lz:z < s.heap.objs.size/\TI < s.heap.objs.size/\TO < s.heap.objs.size/\i1 < s.heap.objs.size/\i2 < s.heap.objs.size/\l1 < s.heap.objs.size/\l2 < s.heap.objs.size)
  (hQ:∀(h':Heap)(bA:Array Value) (c:Nat),(∀b o,b≠z->b≠TO->b≠i1->b≠i2->s.heap.get? b=some o->h'.get? b=some o)->h'.get? s.heap.objs.size=some { cls:=.type "list",data:=.seq bA c }->bA.size=n->lg h' (s.heap.objs.size+1) xs ys bA->Q (.ref s.heap.objs.size) { s with heap:=h' }) :
  wpAny (model prog w) A (call (.type "list") [.ref z]) Q E s:=by
 refine callType_codes (Q₁:=λobj s₁=>obj=.ref s.heap.objs.size/\s₁={ s with heap:=s.heap.push { cls:=.type "list",data:=.seq #[] } }) F.called_list (F.typeCall_list_1 _) F.entry_list_init (code_list_new _ ⟨rfl,rfl⟩) ?_;rintro obj s₁ ⟨rfl,rfl⟩;refine⟨⟨_,cW _ rfl,rfl⟩,F.args_list_init_2 _ _,?_⟩;have hS:(s.heap.push { cls:=.type "list",data:=.seq #[] }).get? s.heap.objs.size=some { cls:=.type "list",data:=.seq #[] }:=cW _ rfl;have up:∀b o,s.heap.get? b=some o->(s.heap.push { cls:=.type "list",data:=.seq #[] }).get? b=some o:=λb o q=>bJ _ q;have Hl:s.heap.objs.size < (s.heap.push { cls:=.type "list",data:=.seq #[] }).objs.size:=ba hS;generalize s.heap.push { cls:=.type "list",data:=.seq #[] }=h₁ at hS up Hl;show wpAny _ _ (Builtin.List.listItems (.ref s.heap.objs.size) >>= λv=>_) _ _ _;refine ar (by
  unfold Builtin.List.listItems;refine ar (jl hS rfl (aR ?_));show wpAny _ _ (updateSeq s.heap.objs.size (λ_=>#[]) >>= λ_=>_) _ _ _;refine ar (qW hS rfl ?_ nofun nofun);refine ar (wpAny_letGo ?_);have Qw:∃c2,(h₁.update s.heap.objs.size (Obj.mapSeq λ_=>#[])).get? s.heap.objs.size=some { cls:=.type "list",data:=.seq #[] c2 }:=⟨_,o5 _ hS rfl⟩;obtain⟨c2,Qw⟩:=Qw;have Xw:∀b o,b≠s.heap.objs.size->h₁.get? b=some o->(h₁.update s.heap.objs.size (Obj.mapSeq λ_=>#[])).get? b=some o:=λb o nb q=>by rw [o6 _ _ (cP nb)];exact q
  show wpAny _ _ (Builtin.List.listExtendWith (.ref s.heap.objs.size) (.ref z) .none) _ _ _;generalize h₁.update s.heap.objs.size (Obj.mapSeq λ_=>#[])=h₂ at Qw Xw;have nz:z≠s.heap.objs.size:=bN lz.1;have ko:∀b o,s.heap.get? b=some o->h₂.get? b=some o:=λb o q=>Xw _ _ (bN (ba q)) (up _ _ q);have F4:=ko _ _ YJ;unfold Builtin.List.listExtendWith;refine ar (jV (T := "zip") ⟨_,F4,rfl⟩ ?_);rw [az (by
   show ¬((s.heap.objs.size == z) || (Value.type "zip" == Value.type "list") || (Value.type "zip" == Value.type "tuple"))=true
   simp [cP nz])]
  refine ar (wpAny_pyIter_zip F4 ?_);refine ar (iH ?_);unfold Builtin.List.listLengthHint;refine ar (wpAny_specialOf (T := "zip") ⟨_,F4,rfl⟩ yO ?_);show wpAny _ _ (specialOf (.ref z) (Str.ofString "__length_hint__") >>= λv=>_) _ _ _;refine ar (wpAny_specialOf (T := "zip") ⟨_,F4,rfl⟩ wU ?_);show wpAny _ _ (pure true) _ _ _;refine aR ?_;show wpAny _ _ (rule _ >>= λ_=>_) _ _ _;refine ar (ja (ar ?_));unfold Builtin.List.listTouch;show wpAny _ _ (updateSeq s.heap.objs.size (λx=>x.push Value.none) >>= λ_=>_) _ _ _;refine ar (qW Qw rfl ?_ nofun nofun);obtain⟨c3,VO⟩:∃c3,(h₂.update s.heap.objs.size (Obj.mapSeq λx=>x.push Value.none)).get? s.heap.objs.size=some { cls:=.type "list",data:=.seq #[Value.none] c3 }:=⟨_,o5 _ Qw rfl⟩;have Xv:∀b o,b≠s.heap.objs.size->h₂.get? b=some o->(h₂.update s.heap.objs.size (Obj.mapSeq λx=>x.push Value.none)).get? b=some o:=λb o nb q=>by rw [o6 _ _ (cP nb)];exact q
  show wpAny _ _ (updateSeq s.heap.objs.size (λx=>x.pop)) _ _ ⟨h₂.update s.heap.objs.size (Obj.mapSeq λx=>x.push Value.none),s.gens,s.drawn,s.toks,s.os⟩;generalize h₂.update s.heap.objs.size (Obj.mapSeq λx=>x.push Value.none)=h₃ at VO Xv;refine qW VO rfl ?_ nofun nofun;obtain⟨c4,VN⟩:∃c4,(h₃.update s.heap.objs.size (Obj.mapSeq λx=>x.pop)).get? s.heap.objs.size=some { cls:=.type "list",data:=.seq #[] c4 }:=⟨_,o5 _ VO rfl⟩;have Xu:∀b o,b≠s.heap.objs.size->h₃.get? b=some o->(h₃.update s.heap.objs.size (Obj.mapSeq λx=>x.pop)).get? b=some o:=λb o nb q=>by rw [o6 _ _ (cP nb)];exact q
  show wpAny _ _ (again (Code.builtin "list.extend.loop" ⟨[.ref s.heap.objs.size,.ref z,.none],[]⟩)) _ _ ⟨h₃.update s.heap.objs.size (Obj.mapSeq λx=>x.pop),s.gens,s.drawn,s.toks,s.os⟩;generalize h₃.update s.heap.objs.size (Obj.mapSeq λx=>x.pop)=h₄ at VN Xu;have Yw:∀b o,s.heap.get? b=some o->h₄.get? b=some o:=λb o q=>Xu _ _ (bN (ba q)) (Xv _ _ (bN (ba q)) (ko _ _ q));refine aR ⟨kI uZ _,?_⟩;have lS:=ba VN;refine DZ (N:=s.heap.objs.size+1) (n:=n) (show A.in1.handled=none from hh) ap ex ey hn ⟨ky lz.1,ky lz.2.1,ky lz.2.2.1,ky lz.2.2.2.1,ky lz.2.2.2.2.1,ky lz.2.2.2.2.2.1,ky lz.2.2.2.2.2.2,mT _⟩
   ⟨ff lz.1,ff lz.2.1,ff lz.2.2.1,ff lz.2.2.2.1,ff lz.2.2.2.2.1,ff lz.2.2.2.2.2.1,ff lz.2.2.2.2.2.2⟩ (n - 0) 0 ⟨h₄,s.gens,s.drawn,s.toks,s.os⟩ #[] c4 rfl (gB _) lS (st.keep Yw) VN rfl ⟨[],rfl,.nil,λj T hj=>by simp at hj⟩ λh' AH c' k' e' s' a'=>?_
  refine⟨rfl,hQ h' AH c' (λb o n1 n2 n3 n4 q=>k' b o (bN (ba q)) n1 n2 n3 n4 (Yw _ _ q)) e' s' a'⟩)
def Inv.PF {X:Cx}{ag:List (Addr×Obj)}{σ:St}{H H':Hp}{s:Shared}{h':Heap}{t':Nat}(I:Inv X ag σ H s)(k:∀b u,s.heap.get? b=some u->h'.get? b=some u)(hold:∀b:Nat,b < s.heap.objs.size->H' b=H b)
  (new:∀(b:Nat) u,s.heap.objs.size<=b->H' b=some u->cH X.prog X.w H' h' b u):Inv X ag σ H' { s with heap:=h',toks:=t' }:=by
 have lt:∀b u,H b=some u->b < s.heap.objs.size:=λb u e=>Nat.lt_of_not_le λz=>by rw [I.b8.fresh z] at e;cases e
 refine I.un ⟨λb o e _ _ _=>k b o e,λb o e _ _ _=>⟨o.slots,k b o e⟩,λb o e n _=>?_,λb o e _=>⟨o,k b o e⟩,λb xs e=>?_,λb o u e=>?_,λb ps e=>⟨#[],?_⟩⟩ λb u e=>?_
 .rw [hold b (ba e)];exact n
 .rw [hold b (lt b _ e)];exact e
 .rw [hold b (lt b _ e)];exact e
 .rw [hold b (lt b _ e),e];simp
 by_cases c:b < s.heap.objs.size
 .rw [hold b c] at e;exact(I.b8 b u e).ka (λc v _ q=>k c v q) (λc q=>by rw [hold c (lt c _ q)];exact q) λc xs q=>by rw [hold c (lt c _ q)];exact q
 exact new b u (Nat.le_of_not_lt c) e
def HW (h:Heap)(l1 l2:Addr):(zT h l1 l2).objs.size=h.objs.size+5:=by
 unfold zT;simp only [jk]
def yQ {h:Heap}{l1 l2 b:Addr}{o:Obj}(q:h.get? b=some o):(zT h l1 l2).get? b=some o:=by
 unfold zT;exact bJ _ (bJ _ (bJ _ (bJ _ (bJ _ q))))
def nK {h:Heap}{o:Obj}{n:Nat}(e:h.objs.size=n)(f:o.isFreed=false):(h.push o).get? n=some o:=by
 rw [<-e];exact cW _ f
def Ea (h:Heap)(l1 l2:Addr):d6 (zT h l1 l2) (h.objs.size+4) .none (.bool false) (h.objs.size+2) (h.objs.size+3):=by
 unfold zT;exact nK (by simp only [jk]) rfl
def Ou {h:Heap}{l1 l2:Addr}{xs ys:Array Value}(t1:h.IsTuple l1 xs)(t2:h.IsTuple l2 ys):Nr (zT h l1 l2) (h.objs.size+4) (h.objs.size+2) (h.objs.size+3) h.objs.size (h.objs.size+1) l1 l2 xs ys 0:=by
 refine⟨⟨_,_,Ea h l1 l2,.inl rfl⟩,?_,⟨.none,.none,?_⟩,⟨{ cls:=.type "tuple_iterator",data:=.fields #[.ref l1,.int 0 0] },?_,rfl,rfl⟩,⟨{ cls:=.type "tuple_iterator",data:=.fields #[.ref l2,.int 0 0] },?_,rfl,rfl⟩,jq t1 λo q=>yQ q,jq t2 λo q=>yQ q⟩
 .exact bJ _ (bJ _ (nK (by simp only [jk]) rfl))
 .exact bJ _ (nK (by simp only [jk]) rfl)
 .exact bJ _ (bJ _ (bJ _ (bJ _ (nK rfl rfl))))
 exact bJ _ (bJ _ (bJ _ (nK (by simp only [jk]) rfl)))
theorem r_ {α:Type}:∀{ts:List Nat}{ps:List α}{j T:Nat}{p:α},ts.Pairwise (· < ·)->ts[j]?=some T->ps[j]?=some p->(ts.zip ps).lookup T=some p
 | t::ts,q::ps,0,T,p,_,e1,e2=>by
  cases e1;cases e2;simp
 | t::ts,q::ps,j+1,T,p,h,e1,e2=>by
  have hp:=List.pairwise_cons.mp h;have hT:T∈ts:=cg (show ts[j]?=some T from e1);have ne:(T == t)=false:=j4.mpr (λz=>by have:=hp.1 T hT;omega);rw [List.zip_cons_cons,List.lookup_cons,ne];exact r_ hp.2 e1 e2
 | [],_,_,_,_,_,e1,_=>by simp at e1
 | _::_,[],_,_,_,_,_,e2=>by simp at e2
theorem lookup_some {α:Type}:∀{ts:List Nat}{ps:List α}{T:Nat}{p:α},(ts.zip ps).lookup T=some p->∃j:Nat,ts[j]?=some T/\ps[j]?=some p
 | t::ts,q::ps,T,p,h=>by
  rw [List.zip_cons_cons,List.lookup_cons] at h;cases c:T == t with
  | true =>
   rw [c] at h;cases h;exact⟨0,by rw [beq_iff_eq.mp c];rfl,rfl⟩
  | false =>
   rw [c] at h;obtain⟨j,a,b⟩:=lookup_some h;exact⟨j+1,a,b⟩
 | [],_,_,_,h=>by simp at h
 | _::_,[],_,_,h=>by simp at h
def Ef (K:a9)(t:TA):TE:=λσ H Q=>t σ H λvs H1=>∃l1 l2 xs ys,vs=[.ref l1,.ref l2]/\aQ K H1 l1 xs/\aQ K H1 l2 ys/\xs.length=ys.length/\xs.length<=1000000 /\
 ∀(L:Addr)(ts:List Addr)(H2:Hp),H1 L=none->aC H1 H2->H2 L=some (.lst (ts.map V.ref))->Paired (λT (p:V×V)=>aQ K H2 T [p.1,p.2]) ts (xs.zip ys)->Q (.ref L) H2
def zJ {X:Cx}{a b:Expr}{t:TA}{p1 p2 T7 E5:Pos}(hc:X.calm=true)(hgL:Gl X "list")(hmL:X.mg "list"=none)(hgZ:Gl X "zip")(hmZ:X.mg "zip"=none)(ha:PA X [a,b] t)
  (Y8:starEach [.Call (.Name "zip" p2) [a,b] [] E5] X.env=[(false,eval (.Call (.Name "zip" p2) [a,b] [] E5) X.env)]:=by rfl)(he:starEach [a,b] X.env=(false,eval a X.env)::starEach [b] X.env:=by rfl)(yz:(backTo E5 (starEach [b] X.env)).any (·.1)=false:=by rfl) :
  PE X (.Call (.Name "list" p1) [.Call (.Name "zip" p2) [a,b] [] E5] [] T7) (Ef X.K t):=by
 intro ag s σ H Q I h;refine mU (iR I hgL hmL (by decide +kernel:bootBuiltins "list"=some (.type "list")) ?_ nofun nofun);refine ub ?_ Y8 rfl;rw [Y8];show wpAny _ _ (spliced ((false,_)::[])) _ _ s;refine mi ?_;refine mU (iR I hgZ hmZ (by decide +kernel:bootBuiltins "zip"=some (.type "zip")) ?_ nofun nofun);refine ub (cJ (ha E5 ag s σ H _ I h) λus s1 bz=>?_) he yz;obtain⟨vs,H1,I1,r1,q1⟩:=bz;obtain⟨l1,l2,xs,ys,rfl,hx,hy,hl,hn,q⟩:=q1;obtain⟨u1,u2,rfl,rx,ry⟩:=vals2 r1;cases (show u1=Value.ref l1 from rx);cases (show u2=Value.ref l2 from ry);obtain⟨i1,v1,t1,z1⟩:=I1.tuple hx;obtain⟨i2,v2,t2,z2⟩:=I1.tuple hy;refine Dq t1 t2 ?_;refine qZ ?_;obtain⟨o1,g1,_,_⟩:=id t1;obtain⟨o2,g2,_,_⟩:=id t2;have Yp:=ba g1;have Yo:=ba g2;have e1:=v1.length;have e2:=v2.length;have sz:=HW s1.heap l1 l2;refine AD (n:=i1.length) (show X.A.handled=none from I1.ok.hd hc) (zipApart_new Yp Yo) (by simp) (by simp;omega) ∅ (Ea s1.heap l1 l2) (Ou t1 t2) ?_ λh' bA c kk hL hsz lJ=>?_
 .show _ < (zT s1.heap l1 l2).objs.size/\_ < (zT s1.heap l1 l2).objs.size/\_ < (zT s1.heap l1 l2).objs.size/\_ < (zT s1.heap l1 l2).objs.size/\_ < (zT s1.heap l1 l2).objs.size/\_ < (zT s1.heap l1 l2).objs.size/\_ < (zT s1.heap l1 l2).objs.size;rw [sz];refine⟨∅,∅,∅,∅,∅,?_,?_⟩
  .exact q9 5 Yp
  exact q9 5 Yo
 replace kk:∀b o,b≠s1.heap.objs.size+4->b≠s1.heap.objs.size+3->b≠s1.heap.objs.size->b≠s1.heap.objs.size+1->(zT s1.heap l1 l2).get? b=some o->h'.get? b=some o:=kk;replace hL:h'.get? (zT s1.heap l1 l2).objs.size=some { cls:=.type "list",data:=.seq bA c }:=hL;replace lJ:lg h' ((zT s1.heap l1 l2).objs.size+1) i1.toArray i2.toArray bA:=lJ;show EP X ag σ Q (.ref (zT s1.heap l1 l2).objs.size) { s1 with heap:=h' };rw [sz] at hL lJ ⊢;obtain⟨Ts,eT,pT,cT⟩:=lJ;have lT:Ts.length=i1.length:=by
  have:=congrArg List.length eT;rw [au] at this;rw [<-this];simpa using hsz
 have k1:∀b u,s1.heap.get? b=some u->h'.get? b=some u:=λb u q=>by
  have lb:b < s1.heap.objs.size:=ba q;exact kk b u (bN (q9 4 lb)) (bN (q9 3 lb)) (bN lb) (bN (q9 1 lb)) (yQ q)
 refine⟨.ref (s1.heap.objs.size+5),λb:Nat=>if b < s1.heap.objs.size then H1 b else if b=s1.heap.objs.size+5 then some (.lst (Ts.map V.ref)) else ((Ts.zip (xs.zip ys)).lookup b).map λp=>.tup [p.1,p.2],I1.PF (t':=s1.toks) k1 (λb hb=>ax hb) λb u hb e=>?_,rfl,?_⟩
 .have e':(if b < s1.heap.objs.size then H1 b else if b=s1.heap.objs.size+5 then some (.lst (Ts.map V.ref)) else ((Ts.zip (xs.zip ys)).lookup b).map λp=>.tup [p.1,p.2])=some u:=e;rw [az ∅] at e';by_cases cL:b=s1.heap.objs.size+5
  .rw [ax cL] at e';cases e';subst cL;refine⟨fits (by rw [au];omega),bA.toList,c,?_,by simpa using hL⟩;rw [eT];exact jv (by simp) λj x y ex ey=>by
    rw [bh] at ex ey;obtain⟨T,Sr,rfl⟩:=cq.mp ex;rw [Sr] at ey;cases ey;rfl
  rw [az cL] at e';obtain⟨p,ep,rfl⟩:=cq.mp e';obtain⟨j,ej,epj⟩:=lookup_some ep;obtain⟨_,x,y,hp,hx1,hy1⟩:=cT j b ej;obtain⟨ex,ey⟩:=vj.mp epj;obtain⟨x',MZ,rx'⟩:=v1.get ex;obtain⟨y',ey',ry'⟩:=v2.get ey;have q1:x'=x:=by
   have:i1[j]?=some x:=by simpa using hx1
   rw [MZ] at this;cases this;rfl
  have q2:y'=y:=by
   have:i2[j]?=some y:=by simpa using hy1
   rw [ey'] at this;cases this;rfl
  subst q1;subst q2;exact⟨fits (by simp),[x',y'],.cons rx' (.cons ry' .nil),⟨_,hp,rfl,_,rfl⟩⟩
 refine q (s1.heap.objs.size+5) Ts _ (I1.b8.fresh (Nat.le_add_right _ 5)) (λb u hb=>?_) ?_ ?_
 .show (if b < s1.heap.objs.size then H1 b else _)=some u;have lb:b < s1.heap.objs.size:=Nat.lt_of_not_le λz=>by rw [I1.b8.fresh z] at hb;cases hb
  rw [ax lb];exact hb
 .show (if s1.heap.objs.size+5 < s1.heap.objs.size then _ else if s1.heap.objs.size+5=s1.heap.objs.size+5 then _ else _)=_;rw [az ∅,ax rfl]
 refine jv (by rw [lT,List.length_zip];omega) λj T p Sr ep=>?_;obtain⟨lN,_⟩:=cT j T Sr;refine .inl (.inl ?_);show (if T < s1.heap.objs.size then _ else if T=s1.heap.objs.size+5 then _ else _)=_;rw [az (Nat.not_lt.mpr (fX (by omega:s1.heap.objs.size<=s1.heap.objs.size+5+1) lN)),az (ff (Nat.lt_of_succ_le lN)),r_ pT Sr ep];rfl
end L2
namespace HT
open PySem PyProof.Rows
section
variable {prog:Program}{w:World}{A:Around}{E:Value->Shared->Prop}{s:Shared}
def zF (n:Nat):Builtin.Slice.slicePlaces ((n:Int) - 1) (-1) (-1)=n:=by
 unfold Builtin.Slice.slicePlaces;have h1:¬((-1:Int) > 0):=by omega
 simp only [h1,if_false,Int.neg_neg,Int.ediv_one]
 split <;> omega
def E6 (xs:Array Value):((List.range xs.size).filterMap λ(k:Nat)=>xs[((xs.size:Int) - 1+(k:Int) * (-1)).toNat]?).toArray=xs.toList.reverse.toArray:=by
 have e:=PySem.W.krv_pick xs;unfold slicePick at e;rw [PySem.W.krv_bounds,PySem.W.krv_sliceRange,List.filterMap_map] at e;rw [<-e];have key:∀l:List Nat,(∀k∈l,k < xs.size)->(l.filterMap λ(k:Nat)=>xs[((xs.size:Int) - 1+(k:Int) * (-1)).toNat]?)=l.filterMap ((λx=>xs[x]?) ∘ λk=>xs.size - 1 - k):=by
  intro l
  induction l with
  | nil=>exact λ_=>rfl
  | cons k r ih =>
   intro h;have hk:=h k cV;have e2:((xs.size:Int) - 1+(k:Int) * (-1)).toNat=xs.size - 1 - k:=by omega
   rw [rj,rj,ih λm hm=>h m (du _ hm),e2];rfl
 rw [key _ λk hk=>kK.mp hk]
def ph {sl:Addr}{n:Nat}{u:Tok}{Q:Int×Int×Nat->Shared->Prop}(hs:s.heap.IsSliceOf sl .none .none (.int (-1) u))(h:Q ((n:Int) - 1,-1,n) s):wpAny (model prog w) A (Builtin.Slice.sliceApplied (.ref sl) (pure (n:Int))) Q E s:=by
 obtain⟨os,CS,CY,Hu⟩:=id hs;unfold Builtin.Slice.sliceApplied Builtin.Slice.sliceFields;refine ar (ar (eF CS Hu (x:=.none) rfl (ar (eF CS Hu (x:=.none) rfl (ar (eF CS Hu (x:=.int (-1) u) rfl (aR ?_)))))));refine ar (slicePart_int ?_);show wpAny _ _ (if ((-1:Int) == 0)=true then _ else _) _ _ s;rw [az nofun];refine ar (slicePart_none (ar (slicePart_none (ar (aR ?_)))));show wpAny _ _ (pure ((n:Int) - 1,(-1:Int),Builtin.Slice.slicePlaces ((n:Int) - 1) (-1) (-1))) _ _ s;rw [zF];exact aR h
def oj {t sl:Addr}{items:Array Value}{u:Tok}{Q:Value->Shared->Prop}(ht:IsTup s.heap t items)(hs:s.heap.IsSliceOf sl .none .none (.int (-1) u))
  (h:Q (.ref s.heap.objs.size) { s with heap:=s.heap.push { cls:=.type "tuple",data:=.seq items.toList.reverse.toArray } })(hsz:items.size<=sizeLine):wpAny (model prog w) A (getItem (.ref t) (.ref sl)) Q E s:=by
 have n6:sizeOk (.seq items.toList.reverse.toArray):=by
  show items.toList.reverse.toArray.size<=sizeLine;rw [bR,pZ,rh];exact hsz
 obtain⟨os,CS,CY,Hu⟩:=id hs;have Qv:s.TypeIs (.ref sl) "slice" := ⟨os,CS,CY⟩;unfold getItem
 try with_reducible refine iH ?_
 first | refine ar (aR ?_) | skip
 refine ar (wpAny_sequenceKey ht.typeIs nofun ?_);refine ar (mW (name:=Str.ofString "__getitem__") ht.typeIs mZ
  (lQ mZ ht.typeIs entry_tuple_getitem ?_ (args_tuple_getitem _ _)))
 show wpAny _ _ (Builtin.Tuple.tupleItemsOf (.ref t) >>= _) _ _ s;refine ar (tupleItemsOf_ ht ?_);refine ar (jV Qv ?_);rw [ax nofun];refine ar (ph hs ?_);show wpAny _ _ (if (((items.size:Int) - 1 == 0) && ((-1:Int) == 1) && (items.size == items.size))=true then _ else _) _ _ s;rw [az (by simp),E6]
 first
  | exact ar (m:=Builtin.Tuple.tupleExact _) (iW (aR ⟨_,rfl,aR h⟩) n6)
  | exact ar (m:=Builtin.Tuple.tupleExact _) (iW (ar (aR (aR ⟨_,rfl,aR h⟩))) n6)
  | exact ar (ar (m:=Builtin.Tuple.tupleExact _) (iW (aR (aR ⟨_,rfl,aR h⟩)) n6))
  | exact ar (ar (m:=Builtin.Tuple.tupleExact _) (iW (aR ⟨_,rfl,aR h⟩) n6))
end
end HT
namespace L2
open PySem PySem.Spec PyProof.Rows
theorem Paired.Cf {α β:Type}{F:α->β->Prop}:∀{a:List α}{c:List β},Paired F a c->Paired F a.reverse c.reverse
 | _,_,.nil=>.nil
 | _,_,.cons h t=>by rw [mj,mj];exact gR (Paired.Cf t) h
def Tg (K:a9)(te:TE):TE:=λσ H Q=>te σ H λx H1=>∃a xs,x=.ref a/\aQ K H1 a xs/\∀p,H1 p=none->Q (.ref p) (upd H1 p (.tup xs.reverse))
def E9 {X:Cx}{e:Expr}{te:TE}{p2 pos pu pc:Pos}(he:PE X e te):PE X (.Subscript e (.Slice none none (some (.UnaryOp .USub (.Constant (.int 1) 0 pc) pu)) p2) pos) (Tg X.K te):=by
 intro ag s σ H Q I h;refine Subscript_ (cJ (he ag s σ H _ I h) λv s1 bz=>?_);obtain⟨x,H1,I1,r1,q1⟩:=bz;obtain⟨a,xs,rfl,hx,q⟩:=q1;cases (show v=Value.ref a from r1);refine wpAny_Slice ?_;rw [evalPart_none];refine aR (aR ?_);have hs:PO X (some (.UnaryOp .USub (.Constant (.int 1) 0 pc) pu)) _:=dS (j7 ip ao);refine cJ (hs ag s1 σ H1 (λl H'=>l=some (-1)/\H'=H1) I1 ⟨_,rfl,_,rfl,rfl,rfl⟩) λvst s2 bz=>?_;obtain⟨l,H2,I2,pl,q2⟩:=bz;obtain⟨rfl,rfl⟩:=q2;cases pl with
 | int i u =>
  have I3:Inv X ag σ H2 { s2 with heap:=s2.heap.push { cls:=.type "slice",data:=.fields #[.none,.none,.int (-1) u] } }:=I2.kept (t':=s2.toks) λb ob q=>bJ _ q;obtain⟨aU,r,ht,hz⟩:=I3.tuple hx;have br:=r.length;refine tail_any (T := "tuple") (ops:=[.ref a,.ref s2.heap.objs.size]) ht.typeIs mZ.lookup ?_ (by with_unfolding_all rfl);refine HT.oj ht (Heap.IsSliceOf.new ..) ?_ (by rw [bR];omega);refine⟨.ref _,_,I3.laid (t':=s2.toks) (o:=.tup xs.reverse) (λb ob q=>bJ _ q) (aH _) ?_,rfl,q _ (I3.b8.fresh (aH _))⟩;exact⟨by rw [pZ];exact hz,aU.reverse,Paired.Cf r,IsTup.new _ _⟩
def EY (K:a9):V->List V->Hp->VK->Prop:=λx vs H Q=>∃l b xs zs,x=.ref l/\vs=[.ref b]/\H l=some (.lst xs)/\aQ K H b zs/\xs.length+zs.length<=sizeLine/\Q .d7 (upd H l (.lst (xs++zs)))
def zZ {X:Cx}:SG X "list.extend" (EY X.K):=by
 intro ag s σ H x vs v us Q I rx rv h;obtain⟨l,b,xs,zs,rfl,rfl,hH,hB,hz,q⟩:=h;cases rx;obtain⟨u,rfl,ru⟩:=rv.one;cases ru;obtain⟨z,aU,n,r,hl,e⟩:=I.z9 hH;obtain⟨cI,r2,t2,z2⟩:=I.tuple hB;have l2:=r2.length;have hsz:aU.toArray.size+cI.toArray.size<=sizeLine:=by rw [bR,bR];omega
 have Gd:¬(!aU.toArray.isEmpty && Builtin.List.listTooLong (aU.toArray.size+cI.toArray.size))=true:=by
  rw [xB hsz,Bool.and_false];exact dP
 refine lQ F.slot_list_extend ⟨_,e,rfl⟩ F.entry_list_extend ?_ (F.args_list_extend_2 _ _);show wpAny _ _ (Builtin.List.listExtendWith (.ref l) (.ref b) .none) _ _ _;unfold Builtin.List.listExtendWith;refine ar (jV t2.typeIs ?_);rw [ax (by simp)];obtain⟨o2,g2,c2,n2,d2⟩:=id t2;unfold Builtin.List.listItems;refine ar (ar (jl g2 d2 (aR ?_)));refine ar (ar (jl e rfl (aR ?_)));show wpAny _ _ (if (!aU.toArray.isEmpty && Builtin.List.listTooLong (aU.toArray.size+cI.toArray.size))=true then _ else _) _ _ _;rw [az Gd];show wpAny _ _ (updateSeq l (λx=>x++cI.toArray) >>= λ_=>_) _ _ _;refine ar (qW e rfl ?_ (by rw [bR];omega) (by rw [Array.size_append];omega));refine aR ⟨_,rfl,?_⟩;refine⟨.d7,_,I.IY (so:=aU++cI) hH e (by simp) (r.append r2) ?_,rfl,q⟩;rw [bM];omega
open PySem
section
variable {prog:Program}{w:World}{A:Around}{E:Value->Shared->Prop}{s:Shared}
end
structure ZTn (h:Heap)(z TI TO i1 i2 l1 l2:Addr) (i:Nat):Prop where
 hz:∃f0 f1,d6 h z f0 f1 TI TO/\(f0=.none\/∃T:Nat,f0=rawInt T)
 hI:IsPair h TI (.ref i1) (.ref i2)
 hO:∃a b,IsPair h TO a b
 h1:h.IsTupleIter i1 l1 i
 h2:h.IsTupleIter i2 l2 i
end L2
namespace HT
open PySem PySem.Spec PyProof.Rows
section
variable {prog:Program}{w:World}{A:Around}{E:Value->Shared->Prop}{s:Shared}
def oo {t sl:Addr}{items:Array Value}{vl vu:Value}{lo hi:Option Int}{Q:Value->Shared->Prop}(ht:IsTup s.heap t items)(hs:s.heap.IsSliceOf sl vl vu .none)(pl:IsPart vl lo)(pu:IsPart vu hi)
  (hw:fR items.size 0 lo=0/\fR items.size items.size hi=items.size)(h:Q (.ref t) s):wpAny (model prog w) A (getItem (.ref t) (.ref sl)) Q E s:=by
 obtain⟨os,CS,CY,Hu⟩:=id hs;have Qv:s.TypeIs (.ref sl) "slice" := ⟨os,CS,CY⟩;unfold getItem
 try with_reducible refine iH ?_
 first | refine ar (aR ?_) | skip
 refine ar (wpAny_sequenceKey ht.typeIs nofun ?_);refine ar (mW (name:=Str.ofString "__getitem__") ht.typeIs mZ
  (lQ mZ ht.typeIs entry_tuple_getitem ?_ (args_tuple_getitem _ _)))
 show wpAny _ _ (Builtin.Tuple.tupleItemsOf (.ref t) >>= _) _ _ s;refine ar (tupleItemsOf_ ht ?_);refine ar (jV Qv ?_);rw [ax nofun];refine ar (jr hs pl pu ?_);have UZ:(((fR items.size 0 lo:Nat):Int) == 0 && (1:Int) == 1 && (fR items.size items.size hi - fR items.size 0 lo) == items.size)=true:=by
  rw [hw.1,hw.2];simp
 show wpAny _ _ (if (((fR items.size 0 lo:Nat):Int) == 0 && (1:Int) == 1 && (fR items.size items.size hi - fR items.size 0 lo) == items.size)=true then _ else _) _ _ s;rw [ax UZ];refine ar ?_;unfold Builtin.Tuple.tupleIsExact;refine ar (jV ht.typeIs (aR ?_));rw [ax nofun];refine ar (ja ?_);exact aR ⟨_,rfl,aR h⟩
end
end HT
namespace L2
open PySem PySem.Spec PyProof.Rows
def O6 (K:a9):V->Option Int->Option Int->Hp->VK->Prop:=λx lo hi H Q=>∃a xs,x=.ref a/\aQ K H a xs/\∀p H',aC H H'->aQ K H' p (gy xs lo hi)->Q (.ref p) H'
def qD {X:Cx}:K0 X (O6 X.K):=by
 intro ag s σ H x v vl vu lo hi sl Q I rx hs pl pu h;obtain⟨a,xs,rfl,hx,q⟩:=h;by_cases hw:HT.fR xs.length 0 lo=0/\HT.fR xs.length xs.length hi=xs.length
 .have ec:gy xs lo hi=xs:=by
   unfold gy;rw [hw.1,hw.2,oN,kC,cR]
  cases rx;obtain⟨aU,r,ht,hz⟩:=I.tuple hx;have br:aU.toArray.size=xs.length:=by rw [bR];exact r.length.symm
  refine⟨"tuple",_,mZ.lookup,ht.typeIs,?_⟩;exact HT.oo ht hs pl pu (by rw [br];exact hw) ⟨.ref a,H,I,rfl,q a H (λ_ _ h=>h) (by rw [ec];exact hx)⟩
 exact Lk ag s σ H _ v vl vu lo hi sl Q I rx hs pl pu ⟨a,xs,rfl,hx,hw,λp hp=>q p _ (af hp _) (aQ.of ae)⟩
def O_ (K:a9):R2:=λx y H Q=>∃a b xs ys,x=.ref a/\y=.ref b/\aQ K H a xs/\aQ K H b ys/\xs.length+ys.length<=sizeLine/\∀p H',aC H H'->aQ K H' p (xs++ys)->Q (.ref p) H'
def vW {X:Cx}:jj X (binaryOp .Add) (O_ X.K):=by
 intro ag s σ H x y v u Q I rx ry h;obtain⟨a,b,xs,ys,rfl,rfl,ha,hb,hz,q⟩:=h;by_cases hx:xs=[]
 .cases rx;cases ry;obtain⟨aU,r1,p1,_⟩:=I.tuple ha;obtain⟨cI,r2,p2,_⟩:=I.tuple hb;have e1:aU=[]:=r1.qG.mpr hx;obtain⟨⟨cls,dd,data,sl⟩,ho,hc,n,hd⟩:=id p1;obtain⟨⟨WH,Ob,data2,RD⟩,Hr,MA,n2,hd2⟩:=id p2;simp only at hc hd MA hd2;subst hc hd MA hd2;exact concat_meets ⟨_,ho,rfl⟩ ⟨_,Hr,rfl⟩ noFill_tuple_add seq_tuple_add yJ yK (yM _ _)
   (tuple_addW0 a b aU.toArray cI.toArray n n2 dd Ob sl RD (by simp [e1])) ⟨ho,Hr,.ref b,H,I,rfl,q b H (λ_ _ h=>h) (by rw [hx];exact hb)⟩
 refine II ag s σ H _ _ v u Q I rx ry ⟨a,b,xs,ys,rfl,rfl,ha,hb,hx,hz,λe=>q a H (λ_ _ h=>h) (by rw [e,iu];exact ha),λ_ p hp=>q p _ (af hp _) (aQ.of ae)⟩
theorem lt_trans:∀a b c:List Nat,ltCps b a=false->ltCps c b=false->ltCps c a=false
 | [],b,[],_,_=>ltCps.eq_1
 | [],b,_::_,_,_=>ltCps.eq_3 _ _
 | x::r,[],c,h,_=>by rw [ltCps.eq_2] at h;cases h
 | x::r,y::t,[],_,k=>by rw [ltCps.eq_2] at k;cases k
 | x::r,y::t,z::u,h,k=>by
  rw [ltCps.eq_4,Bool.or_eq_false_iff,decide_eq_false_iff_not] at h k ⊢;refine⟨∅,?_⟩;by_cases e:z=x
  .have e1:y=x:=by omega
   subst e;subst e1;have h2:=h.2;have k2:=k.2;rw [oU,jc] at h2 k2 ⊢;exact lt_trans r t u h2 k2
  rw [j4.mpr e,qX]
def EW (x:Str):Nat->Str
 | 0=>Str.empty
 | 1=>x
 | _=>x++x
def IH {X:Cx}:jj X (binaryOp .Mult) (λa b H Q=>∃x n,a=.str x/\b=.int ((n:Nat):Int)/\n<=2/\x.length=1/\Q (.str (EW x n)) H):=by
 intro ag s σ H a b v u Q I ra rb h;obtain⟨x,n,rfl,rfl,hn,hx,q⟩:=h;obtain⟨t,rfl⟩:=ra;obtain⟨t2,rfl⟩:=rb
 match n,hn,q with
 | 0,_,q=>exact PySem.P.mul_str_none nofun nofun ⟨.str Str.empty,H,I.tok _,⟨_,rfl⟩,q⟩
 | 1,_,q =>
  refine PySem.P.mul_str nofun (λ_ h=>by simp at h) (λ_ h=>by simp at h) ?_;rw [az nofun,ax (by rfl)];exact⟨.str x,H,I,⟨_,rfl⟩,q⟩
 | 2,_,q =>
  refine PySem.P.mul_str nofun (λ_ _=>by rw [hx];decide) (λ_ _=>by rw [hx];decide) ?_;rw [az nofun,az (by rw [hx];decide)];have le:(Str.mk (#[]++x.cps++x.cps)).length<=sizeLine:=by
   show (#[]++x.cps++x.cps).size<=sizeLine;rw [Array.empty_append,Array.size_append];have:x.cps.size=1:=hx;rw [this];decide
  refine⟨le,⟨.str (x++x),H,I.tok _,⟨s.toks,?_⟩,q⟩⟩;show Value.str ⟨#[]++x.cps++x.cps⟩ _=Value.str ⟨x.cps++x.cps⟩ _;rw [Array.empty_append]
section
variable {prog:Program}{w:World}{A:Around}{E:Value->Shared->Prop}{s:Shared}
end
def OC (K:a9)(te:TE):TE:=λσ H Q=>te σ H λx H1=>∃a xs,x=.ref a/\aI K H1 a xs/\∀p,H1 p=none->Q (.ref p) (upd H1 p (.lst xs.reverse))
def Iz {X:Cx}{e:Expr}{te:TE}{p2 pos pu pc:Pos}(he:PE X e te):PE X (.Subscript e (.Slice none none (some (.UnaryOp .USub (.Constant (.int 1) 0 pc) pu)) p2) pos) (OC X.K te):=by
 intro ag s σ H Q I h;refine Subscript_ (cJ (he ag s σ H _ I h) λv s1 bz=>?_);obtain⟨x,H1,I1,r1,q1⟩:=bz;obtain⟨a,xs,rfl,hx,q⟩:=q1;cases (show v=Value.ref a from r1);refine wpAny_Slice ?_;rw [evalPart_none];refine aR (aR ?_);have hs:PO X (some (.UnaryOp .USub (.Constant (.int 1) 0 pc) pu)) _:=dS (j7 ip ao);refine cJ (hs ag s1 σ H1 (λl H'=>l=some (-1)/\H'=H1) I1 ⟨_,rfl,_,rfl,rfl,rfl⟩) λvst s2 bz=>?_;obtain⟨l,H2,I2,pl,q2⟩:=bz;obtain⟨rfl,rfl⟩:=q2;cases pl with
 | int i u =>
  have I3:Inv X ag σ H2 { s2 with heap:=s2.heap.push { cls:=.type "slice",data:=.fields #[.none,.none,.int (-1) u] } }:=I2.kept (t':=s2.toks) λb ob q=>bJ _ q;obtain⟨aU,r,ht,hz⟩:=I3.list hx;have br:=r.length;refine tail_any (T := "list") (ops:=[.ref a,.ref s2.heap.objs.size]) ht.isList.typeIs slot_list_getitem.lookup ?_ (by with_unfolding_all rfl);refine wpAny_getItem_list_slice ht.isList (Heap.IsSliceOf.new ..) .none .none (.int (-1) u) (by simp) ?_ (by rw [bR];omega);rw [PySem.W.krv_pick];refine⟨.ref _,_,I3.laid (t':=s2.toks) (o:=.lst xs.reverse) (λb ob q=>bJ _ q) (aH _) ?_,rfl,q _ (I3.b8.fresh (aH _))⟩;exact⟨by rw [pZ];exact hz,aU.reverse,0,Paired.Cf r,cW _ rfl⟩
open PySem PySem.W PyProof.Rows
section
variable {n:Nat}{lt:Nat->Nat->Bool}{cmp:Nat->Nat->(Bool->Shared->Prop)->Shared->Prop}{s:Shared}
structure JB (n:Nat)(lt:Nat->Nat->Bool):Prop where
 trans:∀a b c,a < n->b < n->c < n->lt b a=false->lt c b=false->lt c a=false
 W7:∀a b,a < n->b < n->lt a b=true->lt b a=false
structure Of (n:Nat)(p:Array Nat):Prop where
 pm:p.Perm (List.range n).toArray
theorem Of.size {p:Array Nat}(h:Of n p):p.size=n:=by
 have:=h.pm.size_eq;simpa using this
def Of.Kk {p:Array Nat}(h:Of n p){i:Nat}(hi:i < n):p.getD i 0 < n:=by
 have hs:=h.size;have e:p.getD i 0=p[i]'∅:=by simp [Array.getD,hs,hi]
 rw [e];have:p[i]'∅∈(List.range n).toArray:=h.pm.mem_iff.mp (Array.getElem_mem _);simpa using this
abbrev at_ (p:Array Nat) (i:Nat):Nat:=p.getD i 0
def Nt (lt:Nat->Nat->Bool)(p:Array Nat) (k:Nat):Prop:=∀i j,i<=j->j < k->lt (at_ p j) (at_ p i)=false
def Nx (lt:Nat->Nat->Bool)(p:Array Nat) (k:Nat):Prop:=∀i j,i<=j->j < k->lt (at_ p i) (at_ p j)=false
def JB.YD (o:JB n lt){a:Nat}(h:a < n):lt a a=false:=by
 cases e:lt a a with
 | false=>rfl
 | true=>rw [<-o.W7 a a h h e,e]
def Nt.more {p:Array Nat}{m:Nat}(o:JB n lt)(P:Of n p)(h:Nt lt p m)(hm:1<=m)(hn:m < n)(c:lt (at_ p m) (at_ p (m - 1))=false):Nt lt p (m+1):=by
 intro i j Jd hj;by_cases e:j=m
 .subst e;by_cases e2:i=j
  .subst e2;exact o.YD (P.Kk hn)
  exact o.trans _ (at_ p (j - 1)) _ (P.Kk ∅) (P.Kk ∅) (P.Kk hn) (h i (j - 1) ∅ ∅) c
 exact h i j Jd ∅
def Nx.more {p:Array Nat}{m:Nat}(o:JB n lt)(P:Of n p)(h:Nx lt p m)(hm:1<=m)(hn:m < n)(c:lt (at_ p (m - 1)) (at_ p m)=false):Nx lt p (m+1):=by
 intro i j Jd hj;by_cases e:j=m
 .subst e;by_cases e2:i=j
  .subst e2;exact o.YD (P.Kk hn)
  exact o.trans _ (at_ p (j - 1)) _ (P.Kk hn) (P.Kk ∅) (P.Kk ∅) c (h i (j - 1) ∅ ∅)
 exact h i j Jd ∅
end
def Inv.PH {X:Cx}{ag:List (Addr×Obj)}{σ:St}{H:Hp}{s:Shared}{h':Heap}{a:Addr}{o:HO}{t':Nat}(I:Inv X ag σ H s)(k:∀b u,b≠X.env.locals->s.heap.get? b=some u->h'.get? b=some u)
  (ns:∀m,s.heap.Ns X.env.locals m->h'.Ns X.env.locals m)(hp:s.heap.get? a=none)(hn:H a=none)(new:cH X.prog X.w (upd H a o) h' a o):Inv X ag σ (upd H a o) { s with heap:=h',toks:=t' }:=by
 have ne:∀b u,s.heap.get? b=some u->b≠a:=λb u q z=>by rw [z,hp] at q;cases q
 refine I.step (g':=s.gens) (d':=s.drawn) (ch:=[]) (λ_ z=>nomatch z) (λb u hb _ _ e _=>k b u hb e) (λb u hb _ _ e _=>⟨u.slots,k b u hb e⟩) (λb u _ e n=>by rw [aj (ne b u e)];exact n)
  (λb u _ e=>?_) (λb xs q=>by rw [aj (ay q hn)];exact q) (λb u xs q=>by rw [aj (ay q hn)];exact q) (λb ps q=>⟨#[],by rw [aj (ay q hn),q];simp⟩) ns (λb u e=>?_) I.bare
 .by_cases hb:b=X.env.locals
  .obtain⟨m,hm,_⟩:=I.loc;obtain⟨o',_,_,CT,_⟩:=ns m hm;exact⟨o',by rw [hb];exact CT⟩
  exact⟨u,k b u hb e⟩
 by_cases hb:b=a
 .subst hb;rw [ae] at e;cases e;exact new
 rw [aj hb] at e;refine(I.b8 b u e).ka (λc v hc q=>k c v ?_ q) (λc q=>by rw [aj (ay q hn)];exact q) λc xs q=>by rw [aj (ay q hn)];exact q
 rintro rfl;rcases hc with rfl | hc
 .rw [I.free] at e;cases e
 rw [I.free] at hc;cases hc
def Fl {P:Program}{w:World}{H:Hp}{h:Heap}{a:Addr}{o:HO}(x:cH P w H h a o):∃u,h.get? a=some u:=by
 cases o with
 | lst xs=>obtain⟨_,_,_,_,e⟩:=x;exact⟨_,e⟩
 | tup xs=>obtain⟨_,_,_,ob,e,_⟩:=x;exact⟨_,e⟩
 | dK kvs=>obtain⟨_,_,_,_,o,_,_,e,_⟩:=x;exact⟨_,e⟩
 | dT kvs=>obtain⟨_,_,_,_,o,_,_,e,_⟩:=x;exact⟨_,e⟩
 | set S n=>obtain⟨o,_,_,_,e,_⟩:=x;exact⟨_,e⟩
 | ins C dx fs=>obtain⟨_,_,_,e,_⟩:=x;exact⟨_,e⟩
 | own y=>obtain⟨_,e⟩:=x;exact⟨_,e⟩
 | xd fs=>obtain⟨_,⟨_,_,_,e,_⟩,_⟩:=x;exact⟨_,e⟩
 | DJ lo hi=>obtain⟨_,_,_,e⟩:=x;exact⟨_,e⟩
 | kj ob u=>obtain⟨e,_⟩:=x;exact⟨_,e⟩
 | tM ps=>exact⟨_,(show h.get? a=some _ from x)⟩
 | met f y=>exact⟨_,(show h.get? a=some _ from x)⟩
 | ext φ=>obtain⟨_,⟨_,e⟩,_⟩:=x;exact⟨_,e⟩
open PySem PySem.Spec PyProof.Rows PySem.W
section
variable {P:Program}{w:World}{A:Around}{E:Value->Shared->Prop}{s:Shared}
def FZ {f c' c d:Addr}{q:Str}{params:Arguments}{scope:Scope}{cl:List (Str×Addr)}{pm gA:Value}{p1 p2 p3:Pos}{xs xh:Str}{vs:List (aS×Value)}{z:Str}{t:Tok}{u:Value}{oc:Obj}{Q:Value->Shared->Prop}
  (P9:A.depth < recursionLimit)(nl:s.heap.NoLimit)(hf:s.heap.get? f=some (kla_obj "<lambda>" q params (.Subscript (.Name xs p1) (.Name xh p2) p3) scope cl pm c' gA))(hc:s.heap.CodeRec (.ref c') q)
  (hb:∀us:List Value,us.length=1->bindArgs (kla_fn "<lambda>" q params (.Subscript (.Name xs p1) (.Name xh p2) p3) scope cl pm (.ref c') gA) ⟨us,[]⟩=pure ([xh].zip us))
  (hk:scope.kind=.function)(VH:scope.isCoroutine=false)(Mw:scope.isGenerator=false)(Vn:∀x∈scope.names,x.2≠.cell)(hh:scope.names.lookup xh=some .local)(hs:scope.names.lookup xs=some .free)
  (pJ:cl.lookup xs=some c)(ho:s.heap.get? c=some oc)(yA:oc.data=.cell (some (.ref d)))(dd:s.heap.DictOf (bj P w) d vs)(hv:valueAt vs (Sum.inr z)=some u)
  (d1:(xs == ("__debug__":Str))=false)(d2:(xh == ("__debug__":Str))=false)(d3:(xs == ("__classdict__":Str))=false)
  (h:∀h' tk,(∀b o,s.heap.get? b=some o->h'.get? b=some o)->Q u { s with heap:=h',toks:=tk }):wpAny (model P w) A (call (.ref f) [.str z t]) Q E s:=by
 refine wpAny_call (kla_callFunE P9 hf rfl VH Mw rfl hc ?_);rw [hb [.str z t] rfl];refine aR (wpAny_newFunctionEnv Vn (λx hx=>?_) (λh₁ wL YS=>⟨nl.fresh _ YS,?_⟩) hk)
 .have:x=(xh,Value.str z t):=by simpa using hx
  rw [this];exact hh
 show codeAny _ _ (.expr (.Subscript (.Name xs p1) (.Name xh p2) p3) (envX q scope s.heap.objs.size f (.ref c') cl)) _ _;have k1:∀b o,s.heap.get? b=some o->h₁.get? b=some o:=λb o e=>YS.extBut b o (bN (ba e)) (bJ _ e);refine kla_codeExpr (A1 PySem.F.slot_dict_getitem.lookup (λ_ _=>rfl) ?_);refine wpAny_Name (wpAny_loadName_free hk hs pJ ⟨oc,k1 _ _ ho,yA⟩ ?_ d3) d1;refine wpAny_Name (u6 hk hh wL (show ([(xh,Value.str z t)]:List (Str×Value)).reverse.lookup xh=some (.str z t) by simp [List.lookup]) ?_) d2;have dd1:h₁.DictOf (bj P w) d vs:=by
  obtain⟨o,es,ep,g,r⟩:=dd;exact⟨o,es,ep,k1 _ _ g,r⟩
 refine⟨dd1.typeIs,wpAny_getItem_of (lY (k:=Sum.inr z) ⟨t,rfl⟩) dd1.mapOf hv ?_⟩;exact h h₁ _ k1
end
section
variable {X:Cx}{params:Arguments}{body:Expr}{scope:Scope}{pos:Pos}{c T:Addr}
abbrev i5 (X:Cx)(params:Arguments)(body:Expr)(scope:Scope)(cl:List (Str×Addr))(c':Addr)(gA:Value):Obj:=kla_obj "<lambda>" (X.env.qual ++ "<lambda>") params body scope cl ((X.mg "__name__").getD .none) c' gA
def OL (X:Cx)(params:Arguments)(body:Expr)(scope:Scope)(pos:Pos)(T:Addr):TE:=λσ H Q=>Tab T pos (X.env.qual ++ "<lambda>") H /\
 ∀f c' gA cl H',JD X.env scope cl->d0 T H H'->Tab T pos (X.env.qual ++ "<lambda>") H'->H f=none->H' f=some (pD f (i5 X params body scope cl c' gA))->H' c'=some (j8 c' (X.env.qual ++ "<lambda>"))->Q (.ref f) H'
def IB (sF:X.env.code=.ref c)(hC:codeHdIn X.K c T=true)(hB:tJ X.mg X.base)(og:∀y,(y,NameKind.free)∈scope.names->X.env.scope.names.lookup y=some .cell)(Gh:defaultsOf params X.env=([],[]):=by rfl):PE X (.Lambda params body scope pos) (OL X params body scope pos T):=by
 intro ag s σ H Q I h;obtain⟨⟨ps,hT,ht,Gi⟩,q⟩:=h;refine kla_eval Gh ?_;obtain⟨cl,pJ⟩:=wA (env:=X.env) (scope:=scope) λy hy=>I.ok.has y (.inl (og y hy));have MH:s.heap.get? T=some (tabObj ps):=(show cH X.prog X.w H s.heap T (.tM ps) from I.b8 T _ hT);have hg:=I.mod.glob.keeps I.bk;have C:=codeHd_of_K I.wa hC;obtain⟨bm,ob,b1,b2,b3,b4,b5,b6,b7⟩:=hB;have WX:=I.bk _ _ b4;have Ut:bm≠T:=λz=>by
  have:=(I.bs _ _ b4).2;rw [z,hT] at this;cases this
 have Uq:mainGlobals≠T:=λz=>by
  obtain⟨o,es,ep,e,d,_⟩:=hg;rw [z,MH] at e;cases e;cases d
 have QD:s.heap.BuiltinsAt X.mg T:=⟨bm,ob,b1,b2,b3,Ut,WX,b5,b6,b7⟩;have Hi:∀b v,H b=some v->b < s.heap.objs.size:=λb v e=>I.b8.lt e;rcases Gi with Qh | ⟨c',hf,lI⟩
 .refine kla_makeFunction pJ.eq I.ok.glob hg sF C MH ht Qh Uq QD λc' gA h' tk hx Mx ki F6 P5=>?_;have hcr:∃oc,h'.get? c'=some oc:=by
   obtain⟨c2,oc,vs,t,e,yA,_⟩:=F6;cases e;exact⟨oc,yA⟩
  have sE:h'.objs.size > s.heap.objs.size:=pY Mx ki;have keep:∀b o,b≠T->s.heap.get? b=some o->(h'.push (i5 X params body scope cl c' gA)).get? b=some o:=λb o n e=>bJ _ (hx b o n e)
  let H':Hp:=upd (upd (upd H T (.tM (ps++#[rawInt pos.line,rawInt pos.col,.ref c']))) c' (j8 c' (X.env.qual ++ "<lambda>"))) h'.objs.size (pD h'.objs.size (i5 X params body scope cl c' gA))
  have z8:∀b v,H b=some v->b≠c'/\b≠h'.objs.size:=λb v e=>⟨bN (eV (Hi b v e) Mx),bN (me (Hi b v e) sE)⟩;have Us:c'≠h'.objs.size:=bN ki;have Pr:=z8 T _ hT;have eT:H' T=some (.tM (ps++#[rawInt pos.line,rawInt pos.col,.ref c'])):=by
   show upd (upd (upd H T _) c' _) h'.objs.size _ T=_;rw [aj Pr.2,aj Pr.1,ae]
  have ec:H' c'=some (j8 c' (X.env.qual ++ "<lambda>")):=by
   show upd (upd (upd H T _) c' _) h'.objs.size _ c'=_;rw [aj Us,ae]
  have ef:H' h'.objs.size=some (pD h'.objs.size (i5 X params body scope cl c' gA)):=ae;have eo:∀b,b≠T->b≠c'->b≠h'.objs.size->H' b=H b:=λb n1 n2 n3=>by
   show upd (upd (upd H T _) c' _) h'.objs.size _ b=_;rw [aj n3,aj n2,aj n1]
  have sT:d0 T H H':=λb o n e=>by rw [eo b n (z8 b o e).1 (z8 b o e).2];exact e
  have I2:Inv X ag σ H' { s with heap:=h'.push (i5 X params body scope cl c' gA),toks:=tk }:=by
   refine I.call (g':=s.gens) (t':=tk) (d':=s.drawn) (ch:=[]) ⟨λb o e n _ _=>keep b o (λz=>by rw [z,hT] at n;cases n) e,λb o e n _ _=>⟨o.slots,keep b o (λz=>by rw [z,hT] at n;cases n) e⟩,λb o e n _=>?_,λb o e _=>?_,λb xs e=>?_,λb o u e=>?_,λb JY e=>?_⟩ (λb v e=>?_) I.bare (λb hb=>nomatch hb)
   .have lb:=ba e;rw [eo b (λz=>by rw [z,hT] at n;cases n) (bN (eV lb Mx)) (bN (me lb sE))];exact n
   .by_cases z:b=T
    .exact⟨_,by rw [z];exact bJ _ P5⟩
    exact⟨o,keep b o z e⟩
   .exact sT b _ (λz=>by rw [z,hT] at e;cases e) e
   .exact sT b _ (λz=>by rw [z,hT] at e;cases e) e
   .by_cases z:b=T
    .subst z;rw [hT] at e;cases e;exact⟨_,eT⟩
    exact⟨#[],by rw [Array.append_empty];exact sT b _ z e⟩
   by_cases z1:b=h'.objs.size
   .subst z1;rw [ef] at e;cases e;exact qI (cW _ rfl)
   by_cases z2:b=c'
   .subst z2;rw [ec] at e;cases e;refine yd ?_;obtain⟨c2,oc,vs,t,e',yA,hd,hv⟩:=F6;cases e';exact⟨_,oc,vs,t,rfl,bJ _ yA,hd,hv⟩
   by_cases z3:b=T
   .subst z3;rw [eT] at e;cases e;exact bJ _ P5
   rw [eo b z3 z2 z1] at e;refine(I.b8 b v e).ka (λd o CW e'=>?_) (λd e'=>sT d _ (λz=>by rw [z,hT] at e';cases e') e') λd ys e'=>sT d _ (λz=>by rw [z,hT] at e';cases e') e';rcases CW with rfl | CW
   .exact keep d o z3 e'
   exact keep d o (λz=>by rw [z,hT] at CW;cases CW) e'
  have fresh:H h'.objs.size=none:=I.b8.fresh (jH sE);exact⟨.ref h'.objs.size,H',I2,rfl,q _ c' gA cl H' pJ sT ⟨_,eT,by rw [u7];exact jI _ ht,.inr ⟨c',by rw [u7];exact codeAmong_snoc _ ht Qh,ec⟩⟩ fresh ef ec⟩
 refine kla_makeFunctionHit pJ.eq I.ok.glob hg sF C MH ht hf QD λgA h' tk hk hsz=>?_;have keep:∀b o,s.heap.get? b=some o->(h'.push (i5 X params body scope cl c' gA)).get? b=some o:=λb o e=>bJ _ (hk b o e);have fresh:H h'.objs.size=none:=I.b8.fresh hsz;refine⟨.ref h'.objs.size,_,I.laid (a:=h'.objs.size) (o:=pD h'.objs.size (i5 X params body scope cl c' gA)) (t':=tk) keep hsz (qI (cW _ rfl)),rfl,?_⟩;refine q _ c' gA cl _ pJ (λb o _ e=>by rw [aj (ay e fresh)];exact e) ⟨ps,by rw [aj (ay hT fresh)];exact hT,ht,.inr ⟨c',hf,by rw [aj (ay lI fresh)];exact lI⟩⟩ fresh ae (by rw [aj (ay lI fresh)];exact lI)
end
theorem A2:∀{zs:List Str}{aU:List Value},a_ (zs.map V.str) aU->∀(i:Nat)(v:Value),aU[i]?=some v->∃z t,zs[i]?=some z/\v=.str z t
 | [],[],_,i,v,h=>by simp at h
 | z::r,u::aU,h,i,v,hi=>by
  cases h with
  | cons a b =>
   cases i with
   | zero =>
    cases hi;obtain⟨t,e⟩:=(show ∃t,u=Value.str z t from a);exact⟨z,t,rfl,e⟩
   | succ i=>exact A2 b i v hi
theorem uf:∀(ps:List (Str×Tok)),a_ ((ps.map (·.1)).map V.str) (ps.map λp=>Value.str p.1 p.2)
 | []=>.nil
 | p::r=>.cons ⟨p.2,rfl⟩ (uf r)
theorem ug:∀{zs:List Str}{aU:List Value},a_ (zs.map V.str) aU->∃ps:List (Str×Tok),ps.map (·.1)=zs/\aU=ps.map λp=>Value.str p.1 p.2
 | [],[],_=>⟨[],rfl,rfl⟩
 | z::r,u::aU,h=>by
  cases h with
  | cons a b =>
   obtain⟨t,e⟩:=(show ∃t,u=Value.str z t from a);obtain⟨ps,e1,e2⟩:=ug b;exact⟨(z,t)::ps,by rw [cu,e1],by rw [cu,e2,e]⟩
def zH {α β:Type}{f:α->β}{l m:List β}(h:l.Perm m):∀ps:List α,m=ps.map f->∃qs:List α,l=qs.map f/\qs.Perm ps:=by
 induction h with
 | nil =>
  intro ps e;cases ps with
  | nil=>exact⟨[],rfl,.nil⟩
  | cons p r=>cases e
 | cons x h ih =>
  intro ps e;cases ps with
  | nil=>cases e
  | cons p r =>
   rw [cu] at e;injection e with e1 e2;obtain⟨qs,a,b⟩:=ih r e2;exact⟨p::qs,by rw [cu,a,e1],b.cons p⟩
 | swap x y l =>
  intro ps e
  match ps,e with
  | [],e=>cases e
  | [_],e=>cases e
  | p::p2::r,e =>
   rw [cu,cu] at e;injection e with e1 e2;injection e2 with e3 e4;exact⟨p2::p::r,by rw [cu,cu,e1,e3,e4],.swap p p2 r⟩
 | trans h1 h2 i1 i2 =>
  intro ps e;obtain⟨qs,a,b⟩:=i2 ps e;obtain⟨rs,c,d⟩:=i1 qs a;exact⟨rs,c,d.trans b⟩
def Fe {g:Str->Int}{ps:List (Str×Tok)}{out:List Value}(h:KskOut false ((ps.map (·.1)).map g) (ps.map λp=>Value.str p.1 p.2) out) :
  ∃qs:List (Str×Tok),out=qs.map (λp=>Value.str p.1 p.2)/\(qs.map (·.1)).Perm (ps.map (·.1))/\(qs.map (·.1)).Pairwise λx y=>g x<=g y:=by
 obtain⟨rs,h1,h2,h3⟩:=h;have ez:((ps.map (·.1)).map g).zip (ps.map λp=>Value.str p.1 p.2)=ps.map λp=>(g p.1,Value.str p.1 p.2):=by
  rw [iG,List.zip_map,List.zip_eq_zipWith]
  induction ps with
  | nil=>rfl
  | cons p r ih=>simp_all
 rw [ez] at h1;obtain⟨qs,q1,q2⟩:∃qs:List (Str×Tok),rs=qs.map (λp=>(g p.1,Value.str p.1 p.2))/\qs.Perm ps:=by
  exact zH h1 ps rfl
 subst q1;refine⟨qs,by rw [h2,iG];rfl,q2.map _,?_⟩;rw [List.pairwise_map] at h3 ⊢;exact h3.imp λh=>by simpa using h
section
variable {X:Cx}{i:Nat}{xs xh:Str}{params:Arguments}{scope:Scope}{p pos z_ kp p1 p2 p3:Pos}{e:Expr}{ta:TA}{c T:Addr}{k:Nat}
abbrev BQ (xs xh:Str)(p1 p2 p3:Pos):Expr:=.Subscript (.Name xs p1) (.Name xh p2) p3
def Lb (X:Cx) (i:Nat)(z_:Pos)(T:Addr)(ta:TA):TE:=λσ H Q=>ta σ H λvs H1=>Tab T z_ (X.env.qual ++ "<lambda>") H1/\∃(a:Addr) (zs:List Str)(d:Addr)(kvs:List (aS×V))(g:Str->Int),vs=[.ref a]/\aI X.K H1 a (zs.map V.str)/\zs.length < 64/\σ[i]?=some (some (.ref d))/\Rd H1 d (.dK kvs) /\
 (∀z∈zs,bB kvs (Sum.inr z)=some (.int (g z)))/\∀(l:Addr) (K5:List Str)(H':Hp),d0 T H1 H'->Tab T z_ (X.env.qual ++ "<lambda>") H'->H1 l=none->K5.Perm zs->K5.Pairwise (λx y=>g x<=g y)->H' l=some (.lst (K5.map V.str))->Q (.ref l) H'
def E8 (hr:fj (k+1) X.A)(sF:X.env.code=.ref c)(hC:codeHdIn X.K c T=true)(hB:tJ X.mg X.base)(hg:Gl X "sorted")(hm:X.mg "sorted"=none)(ha:PA X [e] ta)
  (hN:X.N[i]?=some xs)(hx:X.env.scope.names.lookup xs=some .cell)(og:∀y,(y,NameKind.free)∈scope.names->X.env.scope.names.lookup y=some .cell)
  (hb:∀(q:Str)(cl:List (Str×Addr))(pm gA:Value)(c':Addr)(us:List Value),us.length=1->bindArgs (kla_fn "<lambda>" q params (BQ xs xh p1 p2 p3) scope cl pm (.ref c') gA) ⟨us,[]⟩=pure ([xh].zip us))
  (hk:scope.kind=.function)(VH:scope.isCoroutine=false)(Mw:scope.isGenerator=false)(Vn:∀x∈scope.names,x.2≠.cell)(hh:scope.names.lookup xh=some .local)(hs:scope.names.lookup xs=some .free)
  (d1:(xs == ("__debug__":Str))=false:=by decide)(d2:(xh == ("__debug__":Str))=false:=by decide)(d3:(xs == ("__classdict__":Str))=false:=by decide)
  (Gh:defaultsOf params X.env=([],[]):=by rfl)
  (he:backTo pos (starEach [e] X.env)=(false,eval e X.env)::backTo pos (starEach [] X.env):=by rfl)(hp:(backTo pos (starEach [e] X.env)).any (·.1)=false:=by rfl) :
  PE X (.Call (.Name "sorted" p) [e] [⟨some "key",.Lambda params (BQ xs xh p1 p2 p3) scope z_,kp⟩] pos) (Lb X i z_ T ta):=by
 intro ag s σ H Q I h;refine mU (iR I hg hm boot_sorted ?_);refine callWith_kw (cJ (ha pos ag s σ H _ I h) λus s1 bz=>?_) he hp rfl rfl;obtain⟨vs,H1,I1,r1,Jf,a,zs,d,kvs,g,ev,hq,h64,hσ,hd,hv,q1⟩:=bz;subst ev;have low:=IB (X:=X) (params:=params) (body:=BQ xs xh p1 p2 p3) (scope:=scope) (pos:=z_) (c:=c) (T:=T) sF hC hB og Gh ag s1 σ H1
  (λfv H2=>∃f c' gA cl,fv=.ref f/\JD X.env scope cl/\d0 T H1 H2/\Tab T z_ (X.env.qual ++ "<lambda>") H2/\H2 f=some (pD f (i5 X params (BQ xs xh p1 p2 p3) scope cl c' gA))/\H2 c'=some (j8 c' (X.env.qual ++ "<lambda>"))) I1
  ⟨Jf,λf c' gA cl H' a1 a2 a3 a4 a5 a6=>⟨f,c',gA,cl,rfl,a1,a2,a3,a5,a6⟩⟩
 refine kws_cons (cJ low λu2 s2 bz=>?_);obtain⟨fv,H2,I2,r2,f,c',gA,cl,ef,pJ,st,Sb,hf,lI⟩:=bz;refine kws_nil ?_;subst ef;cases (show u2=Value.ref f from r2);obtain⟨u,rfl,rx⟩:=vals1 r1;cases (show u=Value.ref a from rx);obtain⟨pt,eT,_⟩:=id Jf;have hq2:aI X.K H2 a (zs.map V.str):=by
  rcases hq with (h | ⟨o,h⟩) | h
  .exact .inl (.inl (st _ _ (λz=>by rw [z,eT] at h;cases h) h))
  .exact .inl (.inr ⟨o,st _ _ (λz=>by rw [z,eT] at h;cases h) h⟩)
  exact .inr h
 have hd2:Rd H2 d (.dK kvs):=by
  rcases hd with h | ⟨o,h⟩
  .exact .inl (st _ _ (λz=>by rw [z,eT] at h;cases h) h)
  exact .inr ⟨o,st _ _ (λz=>by rw [z,eT] at h;cases h) h⟩
 obtain⟨aU,rv,pl,hz⟩:=I2.list hq2;obtain⟨pzs,ez,ei⟩:=ug rv;have tT:=pl.isList;obtain⟨oa,ga,ca,na,da⟩:=id tT;obtain⟨m,wL,lk⟩:=id I2.loc;have IV:∀b o,H2 b=some o->b≠X.env.locals:=λb o hb z=>by rw [z,I2.free] at hb;cases hb
 have Pj:d≠X.env.locals:=by
  rcases hd2 with h | ⟨o,h⟩
  .exact IV d _ h
  exact IV d _ h
 have neA:a≠X.env.locals:=λz=>by
  obtain⟨o,es,ep,ho,Bz,_⟩:=wL;rw [<-z,ga] at ho;cases ho;rw [da] at Bz;cases Bz
 obtain⟨ud,rd,lkd⟩:=lk i xs (.ref d) hN hσ (.inr (.inl hx));cases (show ud=Value.ref d from rd);obtain⟨cc,ecc,oc,Qf,Qe⟩:∃cc,X.env.cells.lookup xs=some cc/\s2.heap.IsCell cc (some (.ref d)):=by
  rcases lkd with ⟨l,_⟩ | ⟨_,c2,e2,h2⟩
  .have l':X.env.scope.names.lookup xs=some .local:=l;rw [hx] at l';cases l'
  exact⟨c2,e2,h2⟩
 obtain⟨cc',ZH⟩:=pJ.all xs (v3 hs);have e3:=pJ.sub _ _ ZH;rw [ecc] at e3;cases e3;have NK:cc≠X.env.locals:=λz=>by
  obtain⟨o,es,ep,ho,Bz,_⟩:=wL;rw [<-z,Qf] at ho;cases ho;rw [Qe] at Bz;cases Bz
 obtain⟨gf,_⟩:=I2.b8 f _ hf;obtain⟨gc,_⟩:=I2.b8 c' _ lI;obtain⟨zl,CO,dvs,rel,dd⟩:=ox I2.b8 hd2;obtain⟨m0,F0⟩:=I2.fr;refine ksk_sorted (kz:=zs.map g) (f:=.ref f) (b:=false) (vs:=aU) (h₀:=HU.r9 s2.heap) (L:=X.env.locals) (m:=m) (news:=(a,oa)::HU.ledger s2.heap X.env.locals a) (HU.MS wL) (HU.xG neA ga) tT (by rw [au,<-rv.length,au]) (by rw [<-rv.length,au];exact h64)
  (ksk_s1 _ _) (λx=>ksk_l1 _ _) (λx=>ksk_t1 f x) (λj v kk hj Y1 oC tk own F N=>?_) λD h' tk out cnt F' N' lt' ko=>?_
 .obtain⟨z,t,Sl,rfl⟩:=A2 rv j v hj;rw [bh,Sl] at Y1;cases Y1;have keep:∀b u,b≠X.env.locals->s2.heap.get? b=some u->oC.get? b=some u:=λb u nb hb=>by
   by_cases e:b=a
   .subst e;rw [ga] at hb;cases hb;exact(N (b,oa) (by simp)).1
   exact(N (b,u) (jm _ (du _ (HU.jO.mpr ⟨nb,e,hb⟩)))).1
  have hvz:=hv z (cg Sl);obtain⟨w',hw,zz⟩:=jS.some_of (v:=.int (g z)) (o:=valueAt dvs (Sum.inr z)) (by rw [<-hvz];exact rel.val (Sum.inr z));obtain⟨tw,rfl⟩:=(show ∃t,w'=Value.int (g z) t from zz);have Ob:oC.DictOf (bj X.prog X.w) d dvs:=by
   obtain⟨o,es,ep,g1,r⟩:=dd;exact⟨o,es,ep,keep _ _ Pj g1,r⟩
  have gc2:oC.CodeRec (.ref c') (X.env.qual ++ "<lambda>"):=by
   obtain⟨c2,oc2,Ow,t2,e2,yA,jh,NQ⟩:=gc;cases e2;exact⟨_,oc2,Ow,t2,rfl,keep _ _ (IV c' _ lI) yA,jh,NQ⟩
  have nl:oC.NoLimit:=I2.mod.nolimit.keeps λb o e=>keep b o (bN (eV (ba e) F0.above)) (I2.bk b o e);exact FZ (s:={ s2 with heap:=oC,toks:=tk }) (A:=X.A.in1.in1) hr.depth nl (keep _ _ (IV f _ hf) gf) gc2 (λus hl=>hb _ _ _ _ _ us hl) hk VH Mw Vn hh hs ZH (keep _ _ NK Qf) Qe Ob hw d1 d2 d3
   λh3 tk3 Yx=>KskEnd.intro (F.kept Yx) (N.grown Yx) λp hp=>hp
 have keep:∀b u,b≠X.env.locals->s2.heap.get? b=some u->h'.get? b=some u:=λb u nb hb=>by
  by_cases e:b=a
  .subst e;rw [ga] at hb;cases hb;exact(N' (b,oa) (by simp)).1
  exact(N' (b,u) (du _ (du _ (HU.jO.mpr ⟨nb,e,hb⟩)))).1
 have hD:s2.heap.get? D=none:=by
  cases e:s2.heap.get? D with
  | none=>rfl
  | some o =>
   exfalso;have nD:D≠X.env.locals:=(N' (D,_) cV).2.1;by_cases ea:D=a
   .have:=lt' (a,oa) cV;rw [ea] at this;exact absurd this (kJ _)
   exact absurd (lt' (D,o) (du _ (HU.jO.mpr ⟨nD,ea,e⟩))) (kJ _)
 have fD:H2 D=none:=by
  cases e:H2 D with
  | none=>rfl
  | some u =>
   obtain⟨ob,g⟩:=Fl (I2.b8 D u e);rw [hD] at g;cases g
 have fD1:H1 D=none:=by
  cases e:H1 D with
  | none=>rfl
  | some u =>
   by_cases z:D=T
   .obtain⟨pt2,eT2,_⟩:=Sb;rw [z,eT2] at fD;cases fD
   rw [st _ _ z e] at fD;cases fD
 rw [ei,<-ez] at ko;obtain⟨qs,eo,pe,ps⟩:=Fe ko;rw [ez] at pe;have gD:=(N' (D,_) cV).1;have lq:qs.length=zs.length:=by have:=pe.length_eq;rw [au] at this;exact this
 have sl:=af fD (.lst ((qs.map (·.1)).map V.str));refine⟨.ref D,_,I2.PH (t':=tk) keep (λm' hm=>?_) hD fD (show cH X.prog X.w _ _ _ (.lst ((qs.map (·.1)).map V.str)) from ⟨by rw [au,au];exact fits ∅,qs.map (λp=>Value.str p.1 p.2),cnt,uf qs,by rw [<-eo];simpa using gD⟩),rfl,q1 D (qs.map (·.1)) _ (λb o n hb=>sl _ _ (st b o n hb)) ?_ fD1 pe ps ae⟩
 .have:=F'.ns;have e:m'=m:=by
   obtain⟨o,es,ep,ho,Bz,_,hf⟩:=hm;obtain⟨o2,es2,QM,Hr,Qq,_,Qk⟩:=wL;rw [ho] at Hr;cases Hr;rw [Bz] at Qq;cases Qq
   funext x
   rw [<-hf x,<-Qk x]
  rw [e];exact this
 obtain⟨RJ,b1,b2,b3⟩:=Sb;refine⟨RJ,sl _ _ b1,b2,b3.imp id λbz=>?_⟩;obtain⟨c3,e3,g3⟩:=bz;exact⟨c3,e3,sl _ _ g3⟩
end
open PySem M11
def AB {K:a9}{H:Hp}{p D d:Addr}{zs:List Str}{kvs:List (aS×V)}{g:G}{σ:St}{js:List (Nat×Str)}{Qp:Hp->Prop}(hσ:eU ["part"] js σ=[none,aP d])(hp:aQ K H p (zs.map V.str))(hz:zs.length<=1000)
  (hd:Rd H d (.dK kvs))(hv:∀z,bB kvs (Sum.inr z)=(g z).map V.int)(ha:∀z∈zs,(g z).isSome=true)(hD:H D=none)(q:∀H2,aC H H2->H2 D=some (.lst ((zs.map λz=>(g z).getD 0).map V.int))->Qp H2) :
  ∃W:Nat->Nat->List V->St->Hp->Prop,(∃m,W 0 m [] (eU ["part"] js σ) (upd H D (.lst []))) /\
 ∀i m ys σ' H,W i m ys σ' H->((ql K p).stop i H/\Qp H)\/((ql K p).go i H/\∃m',m' < m/\∀x H',(ql K p).m_ i H x H'->dQ 0 x σ' H' λσ2 H2=>ix σ2 H2 λb H3 =>
  if b=true then AW (gX 1) (gX 0) σ2 H3 λy H4=>H4 D=some (.lst ys)/\ys.length < sizeLine/\W (i+1) m' (ys++[y]) σ2 (upd H4 D (.lst (ys++[y]))) else W (i+1) m' ys σ2 H3):=by
 refine g9 (xs:=zs.map V.str) (λi ys σ2 H2=>ys=(((zs.take i).map λz=>(g z).getD 0).map V.int)/\(∃y0,σ2=[y0,aP d])/\aC H H2/\H2 D=some (.lst ys))
  ⟨rfl,⟨none,hσ⟩,af hD _,ae⟩ (λi ys σ2 H2 _ h=>h.2.2.1.tup hp) (λi x ys σ2 H2 ex h=>?_) (λys σ2 H2 h=>?_)
 .obtain⟨rfl,⟨y0,rfl⟩,sm,hd2⟩:=h;rw [bh] at ex;obtain⟨z,ez,rfl⟩:=cq.mp ex;have li:=(bq.mp ez).1;obtain⟨n,en⟩:=mX.mp (ha z (cg ez));have hg:cz H2 d (.str z) (some (.int n)):=by
   have:=cz.r (k:=Sum.inr z) (gL.Rd.same hd sm);rw [hv,en] at this;exact this
  refine goN (yB ?_);refine⟨_,rfl,_,rfl,d,_,rfl,hg,hd2,bL (by rw [au,au,dO];omega),?_,⟨_,rfl⟩,?_,ae⟩
  .rw [cS,ez,bG,bG];show _=_++[V.int ((g z).getD 0)];rw [en];rfl
  intro b o hb;rw [aj (λz=>by rw [z,hD] at hb;cases hb)];exact sm b o hb
 obtain⟨rfl,_,sm,hd2⟩:=h;rw [au,cR] at hd2;exact q H2 sm hd2
end L2
namespace gL
open PySem L2 M11
section
def rH (K:a9):Sp:=λvs H Q _=>∃(d r:Addr)(kvs:List (aS×V))(g:G)(ru:aw),vs=[.ref d,.ref r]/\Rd H d (.dK kvs)/\(∀z,bB kvs (Sum.inr z)=(g z).map V.int)/\BZ K H r ru/\ru.2.length<=8/\(∀z∈ru.2,(g z).isSome=true)/\∀H',aC H H'->Q (.int (aW g ru)) H'
def yZ:aK ["sizes","rule"] ["sizes","rule"] (av pj):=ir rfl rfl rfl rfl nofun
def xx (F:g_ K "rule_size" "rule_size" pj f fd)(T:Txt mg):bO P w K mg base fk 1 f fd ["sizes","rule"] (rH K):=by
 refine F.ok yZ (λvs H Q E h=>?_) (λdW A outer s H vs Q E hr h=>?_)
 .obtain⟨d,r,kvs,g,ru,rfl,_⟩:=h;rfl
 obtain⟨d,r,kvs,g,ru,rfl,hd,hv,⟨p,v1,v2⟩,h8,al,q⟩:=h;have hu:=fS hr;refine⟨_,ak (aL (aX gq ao (aD (uN rfl) rfl T.sum PyProof.Rows.boot_sum (ab (bF ["part"] [(0,"sizes")] rfl (gI (aF aN (pv 1) ao (λ_ _=>rfl))) (bp rfl rfl) nofun rfl nofun
   (λ_ _ _ _ _=>aq (i:=0) (show (["part","sizes"]:List Str).Nodup by decide +kernel) rfl (bx rfl)) (λ_ _ _ _ _=>bY) (λ_ _ _ _ _=>fK hu (pv 1) (pv 0) (λ_ _=>rfl))) ah)))),?_⟩
 dsimp only [AA];refine⟨_,rfl,r,_,_,_,rfl,rfl,v1,rfl,p,rfl,⟨_,v2⟩,λD hD=>AB (g:=g) rfl v2 ∅ hd hv al hD λH2 s2 e2=>?_⟩;refine⟨D,_,rfl,aI.of e2,_,_,rfl,rfl,?_⟩;exact q H2 s2
end
end gL
namespace M11
open PySem
def wI.at_ {aa:List aw}{bC:List (Str×Nat)}(h:wI aa bC):∀(i:Nat)(x:Str) (k:Nat),bC[i]?=some (x,k)->∃bH,aa[k]?=some (x,bH)/\∀p∈bH,p∈(bC.take i).map (·.1):=by
 induction h with
 | nil=>intro i x k e;simp at e
 | @snoc bC k2 ru h e n p ih =>
  intro i x k ei;by_cases hi:i < bC.length
  .rw [mY hi] at ei;obtain⟨bH,a,b⟩:=ih i x k ei;exact⟨bH,a,λq hq=>by rw [qa (jH hi)];exact b q hq⟩
  have li:=(bq.mp ei).1;rw [bM,fQ] at li;have e2:i=bC.length:=by omega
  subst e2;rw [lR (aH _),oI] at ei;cases ei;exact⟨ru.2,e,λq hq=>by rw [List.take_left'];exact p q hq;rfl⟩
end M11
namespace gL
open PySem L2 M11
section
def sW {H:Hp}{p D d:Addr}{zs:List Str}{kvs:List (aS×V)}{σ:St}{js:List (Nat×Str)}{Qp:Hp->Prop}(hσ:eU ["part"] js σ=[none,aP d])(hp:aQ K H p (zs.map V.str))(hz:zs.length<=1000)
  (hd:H d=some (.dK kvs))(ha:∀z∈zs,(Sum.inr z:aS)∈kvs.map (·.1))(hD:H D=none)(q:∀ys H2,ys.length=zs.length->aC H H2->H2 D=some (.lst ys)->Qp H2) :
  ∃W:Nat->Nat->List V->St->Hp->Prop,(∃m,W 0 m [] (eU ["part"] js σ) (upd H D (.lst []))) /\
 ∀i m ys σ' H,W i m ys σ' H->((ql K p).stop i H/\Qp H)\/((ql K p).go i H/\∃m',m' < m/\∀x H',(ql K p).m_ i H x H'->dQ 0 x σ' H' λσ2 H2=>ix σ2 H2 λb H3 =>
  if b=true then AW (gX 1) (gX 0) σ2 H3 λy H4=>H4 D=some (.lst ys)/\ys.length < sizeLine/\W (i+1) m' (ys++[y]) σ2 (upd H4 D (.lst (ys++[y]))) else W (i+1) m' ys σ2 H3):=by
 refine g9 (xs:=zs.map V.str) (λi ys σ2 H2=>ys.length=i/\(∃y0,σ2=[y0,aP d])/\aC H H2/\H2 D=some (.lst ys))
  ⟨rfl,⟨none,hσ⟩,af hD _,ae⟩ (λi ys σ2 H2 _ h=>h.2.2.1.tup hp) (λi x ys σ2 H2 ex h=>?_) (λys σ2 H2 h=>?_)
 .obtain⟨rfl,⟨y0,rfl⟩,sm,hd2⟩:=h;rw [bh] at ex;obtain⟨z,ez,rfl⟩:=cq.mp ex;have li:=(bq.mp ez).1;obtain⟨v,ev⟩:=mX.mp ((fg kvs (Sum.inr z)).mpr (ha z (cg ez)));have hg:cz H2 d (.str z) (some v):=by
   have:=cz.k (k:=Sum.inr z) (sm _ _ hd);rw [ev] at this;exact this
  refine goN (yB ?_);refine⟨_,rfl,_,rfl,d,_,rfl,hg,hd2,bL ∅,by rw [bM];rfl,⟨_,rfl⟩,?_,ae⟩;intro b o hb;rw [aj (λz=>by rw [z,hD] at hb;cases hb)];exact sm b o hb
 obtain⟨e,_,sm,hd2⟩:=h;rw [au] at e;exact q ys H2 e sm hd2
def uj (K:a9):Sp:=λvs H Q _=>∃(R D:Addr)(rs ts:List Addr)(aa:List aw)(bC:List (Str×Nat)),vs=[.ref R,.ref D]/\aI K H R (rs.map V.ref)/\bI K H rs aa/\aa.length<=1000/\(∀ru∈aa,ru.2.length<=8)/\aI K H D (ts.map V.ref)/\pS K H ts bC/\wI aa bC/\bC.length<=1000 /\
 ∀(d:Addr)(kvs:List (aS×V))(H':Hp),H d=none->aC H H'->H' d=some (.dK kvs)->kvs.map (·.1)=(bC.map (·.1)).map Sum.inr->Q (.ref d) H'
def lB:aK ["rules","empties","trees","name","number"] ["rules","empties"] (av rS):=ir rfl rfl rfl rfl nofun
def zV (F:g_ K "empty_by_name" "empty_by_name" rS f fd)(T:Txt mg):bO P w K mg base fk 1 f fd ["rules","empties"] (uj K):=by
 refine F.ok lB (λvs H Q E h=>?_) (λdW A outer s H vs Q E hr h=>?_)
 .obtain⟨R,D,rs,ts,aa,bC,rfl,_⟩:=h;rfl
 obtain⟨R,D,rs,ts,aa,bC,rfl,hR,b_,br,h8,hD,Y7,Ql,Qn,q⟩:=h;have hu:=fS hr;refine⟨_,ai (aA (i:=2) lB.nd rfl (Or.inr rfl) ij)
  (ai (bQ b0 rfl (aZ (pv 1)) (fJ (n:=2) K rfl (aE (aq (i:=3) lB.nd rfl (bx rfl)) (aE (aq (i:=4) lB.nd rfl (bx rfl)) b9)))
   (ak (i0 hu (pv 2) (pv 3) (bD (ab (pv 4) (ab (bE gb rfl T.tup qS (ab (bF ["part"] [(2,"trees")] rfl (gI (aF aN (aF bo (pv 0) (pv 4) (λ_ _=>rfl)) ao (λ_ _=>rfl))) (bp rfl rfl) nofun rfl nofun
    (λ_ _ _ _ _=>aq (i:=0) (show (["part","trees"]:List Str).Nodup by decide +kernel) rfl (bx rfl)) (λ_ _ _ _ _=>bY) (λ_ _ _ _ _=>fK hu (pv 1) (pv 0) (λ_ _=>rfl))) ah)) ah))) rfl)))
  (ak (aL (pv 2)))),?_⟩
 nofun
 refine λd yE=>?_;have s1:=af yE (.dK []);have e1:upd H d (.dK []) d=some (.dK []):=ae;generalize upd H d (.dK [])=H1 at s1 e1;refine goN ?_
 ac_rfl
 have lt:=aY Y7;have ll:=aY b_;have nd:=Ql.nd
 let wG:tG:=λi σ H3=>∃(kvs:List (aS×V))(y3 y4:Option V),σ=[aP R,aP D,aP d,y3,y4]/\aC H H3/\H3 d=some (.dK kvs)/\kvs.map (·.1)=((bC.take i).map (·.1)).map Sum.inr
 refine⟨_,rfl,D,rfl,⟨_,s1.seq hD⟩,cD (xs:=ts.map V.ref) wG ⟨[],_,_,rfl,s1,e1,rfl⟩ ?_ ?_ ?_⟩
 .rintro i σ H3 _ ⟨kvs,y3,y4,rfl,s3,_⟩;exact s3.seq hD
 .rintro i x σ H3 ex ⟨kvs,y3,y4,rfl,s3,ed,ek⟩
  ac_nf0
  rw [bh] at ex;obtain⟨t,et,rfl⟩:=cq.mp ex;have li:=(bq.mp et).1;obtain⟨e,ee⟩:∃e,bC[i]?=some e:=⟨bC[i]'∅,cf ∅⟩;obtain⟨t',Zq,vt⟩:=Paired.at_ Y7 i e ee;rw [et] at Zq;cases Zq;obtain⟨x,k⟩:=e;obtain⟨bH,hk,YU⟩:=Ql.at_ i x k ee;obtain⟨r,er,p,v1,v2⟩:=Paired.at_ b_ k _ hk;have tO:j9 (rs.map V.ref) (k:Int)=some (.ref r):=bT (by rw [bh,er];rfl);have YV:bH.length<=8:=h8 _ (cg hk);refine⟨t,_,rfl,s3.tup vt,rfl,_,_,rfl,_,_,rfl,rfl,?_⟩;refine⟨_,rfl,_,rfl,_,rfl,R,_,_,_,rfl,rfl,s3.seq hR,tO,r,_,_,_,rfl,rfl,s3.tup v1,rfl,p,rfl,⟨_,s3.tup v2⟩,λD2 i9=>sW (zs:=bH) rfl (s3.tup v2) ∅ ed (λz hz=>by rw [ek];exact di.mpr (YU z hz)) i9 λys H4 ly s4 e4=>?_⟩;refine⟨D2,ys,rfl,.inl ⟨aI.of e4,λt2 V6=>⟨kc,λFK MV=>?_⟩⟩⟩;have k5:=(af V6 (.tup ys)).trans (af MV (.tup [.int (k:Int),.ref t2]));generalize upd (upd H4 t2 (.tup ys)) FK (.tup [.int (k:Int),.ref t2])=H5 at k5;have ed5:=k5 _ _ (s4 _ _ ed);have lkv:kvs.length=i:=by
   have:=congrArg List.length ek;rw [au,au,au,dO] at this;omega
  have nx:x∉(bC.take i).map (·.1):=λz=>by
   obtain⟨e2,m2,q2⟩:=cQ.mp z;obtain⟨j,hj⟩:=iw m2;rw [List.getElem?_take] at hj
   split at hj
   .rename_i Y2
    have a1:(bC.map (·.1))[j]?=some x:=by rw [bh,hj];exact congrArg some q2
    have a2:(bC.map (·.1))[i]?=some x:=by rw [bh,ee];rfl
    have:=(List.getElem?_inj (by rw [au];omega) nd).mp (a1.trans a2.symm);omega
   cases hj
  refine⟨_,rfl,_,rfl,d,_,rfl,.inl ⟨kvs,Sum.inr x,ed5,rfl,bL ∅,rfl⟩,?_⟩;refine⟨_,_,_,rfl,λb o hb=>?_,ae,?_⟩
  .rw [aj (λz=>by rw [z,yE] at hb;cases hb)];exact k5 _ _ (s4 _ _ (s3 b o hb))
  rw [iZ (by rw [ek];exact λz=>nx (di.mp z)),ek,cS,ee,bG,bG];rfl
 rintro σ H3 ⟨kvs,y3,y4,rfl,s3,ed,ek⟩;rw [au,lt,cR] at ek;exact⟨_,rfl,q d kvs H3 yE s3 ed ek⟩
end
end gL
namespace M11
open PySem
def Le (g' g:G):Prop:=∀z n,g z=some n->∃m,g' z=some m/\m<=n
def xT {g:G}{ru:aw}(f:cO bl g ru=true):k_ g ru=true/\∀n,g ru.1=some n->aW g ru < n:=by
 unfold cO at f;rw [pW] at f;refine⟨f.1,λn e=>?_⟩;have:=f.2;rw [e] at this;have:(!(some n:Option Int).isSome || bl (aW g ru) n)=true:=this
 simpa [bl] using this
def le_step {g:G}{ru:aw}(f:cO bl g ru=true):Le (eK g ru.1 (aW g ru)) g:=λz n e=>by
 unfold eK;by_cases c:z=ru.1
 .rw [ax c];subst c;exact⟨_,rfl,Int.le_of_lt ((xT f).2 n e)⟩
 rw [az c];exact⟨n,e,oF _⟩
theorem Ek {g g':G}(h:Le g' g):∀ps:List Str,(∀p∈ps,(g p).isSome=true)->(∀p∈ps,(g' p).isSome=true)/\(ps.map λp=>(g' p).getD 0).sum<=(ps.map λp=>(g p).getD 0).sum
 | [],_=>⟨λp hp=>(by cases hp),oF _⟩
 | p::r,a=>by
  obtain⟨h1,h2⟩:=Ek h r λq hq=>a q (du _ hq);obtain⟨n,en⟩:=mX.mp (a p cV);obtain⟨m,em,lm⟩:=h p n en;refine⟨λq hq=>?_,?_⟩
  .rcases cA.mp hq with rfl | hq
   .rw [em];rfl
   exact h1 q hq
  rw [cu,cu,jW,jW,en,em];show m+_<=n+_;omega
def uU {g:G}{ru:aw}:k_ g ru=true↔∀p∈ru.2,(g p).isSome=true:=by
 unfold k_;rw [gC]
def size_le {g g':G}{ru:aw}(h:Le g' g)(a:k_ g ru=true):k_ g' ru=true/\aW g' ru<=aW g ru:=by
 obtain⟨h1,h2⟩:=Ek h ru.2 (uU.mp a);exact⟨uU.mpr h1,by unfold aW;omega⟩
def Od (aa:List aw) (hs:List Str)(g:G):Prop:=∀h n,g h=some n->h∉hs\/∃ru∈aa,ru.1=h/\k_ g ru=true/\aW g ru<=n
def Eb {aa:List aw}{hs:List Str}(g:G)(ru:aw)(j:Od aa hs g)(m:ru∈aa)(f:cO bl g ru=true):Od aa hs (eK g ru.1 (aW g ru)):=λh n e=>by
 have le:=le_step f;by_cases c:h=ru.1
 .have e2:n=aW g ru:=by
   unfold eK at e;rw [ax c] at e;exact(gS e).symm
  obtain⟨a1,a2⟩:=size_le le (xT f).1;exact .inr ⟨ru,m,c.symm,a1,∅⟩
 have e2:g h=some n:=by
  unfold eK at e;rw [az c] at e;exact e
 rcases j h n e2 with h1 | ⟨NI,m2,q2,a2,l2⟩
 .exact .inl h1
 obtain⟨b1,b2⟩:=size_le le a2;exact .inr ⟨NI,m2,q2,b1,∅⟩
def CH {aa:List aw}{hs:List Str}{g0 g:G}(j0:Od aa hs g0)(st:eJ bl aa g0 g)(se:i_ bl aa g){h:Str}{n:Int}(hh:h∈hs)(e:g h=some n):∃ru∈aa,ru.1=h/\k_ g ru=true/\aW g ru=n:=by
 have j:Od aa hs g:=eJ.keep (J:=Od aa hs) (λg ru j m f=>Eb g ru j m f) st j0;rcases j h n e with z | ⟨ru,m,q,a,l⟩
 .exact absurd hh z
 refine⟨ru,m,q,a,?_⟩;have f:=se ru m;unfold cO at f;rw [a,q,e] at f;have f:(true && (!(some n:Option Int).isSome || bl (aW g ru) n))=false:=f
 have f2:¬aW g ru < n:=by simpa [bl] using f
 omega
theorem Bu {g:G}(nn:NN g):∀(ps:List Str)(p:Str) (m:Int),p∈ps->g p=some m->m<=(ps.map λp=>(g p).getD 0).sum
 | q::r,p,m,hp,e=>by
  rw [cu,jW];have h1:=jJ g nn r;rcases cA.mp hp with rfl | hp
  .rw [e];show m<=m+_;omega
  have h2:=Bu nn r p m hp e;have h3:0<=(g q).getD 0:=by
   cases eq:g q with
   | none=>exact oF _
   | some n=>exact nn q n eq
  omega
def Cn {g:G}(nn:NN g){ru:aw}{p:Str}{m:Int}(hp:p∈ru.2)(e:g p=some m):m < aW g ru:=by
 have:=Bu nn ru.2 p m hp e;unfold aW;omega
theorem AO:∀(bf ps bA:List Str),(∀z∈bA,z∉bf)->∀z∈tK bf bA ps,z∉bf
 | _,[],bA,h=>h
 | bf,p::r,bA,h=>by
  show ∀z∈tK bf (addW bf bA p) r,z∉bf;refine AO bf r _ ?_;unfold addW
  split
  .exact h
  rename_i hp
  unfold gP
  split
  .exact h
  intro z hz;rcases cC.mp hz with hz | hz
  .exact h z hz
  rw [bV.mp hz];exact hp
def vy {g:Str->Int}{zs:List Str}(h:zs.Pairwise λx y=>g x<=g y){i:Nat}{x p:Str}(e:zs[i]?=some x)(hp:p∈zs)(l:g p < g x):p∈zs.take i:=by
 obtain⟨j,ej⟩:=iw hp;obtain⟨li,ei⟩:=bq.mp e;obtain⟨lj,ej2⟩:=bq.mp ej;have Y2:j < i:=by
  rcases Nat.lt_trichotomy j i with h1 | h1 | h1
  .exact h1
  .subst h1;rw [e] at ej;cases ej;omega
  have:=List.pairwise_iff_getElem.mp h i j li lj h1;rw [ei,ej2] at this;omega
 rw [List.mem_iff_getElem?];exact⟨j,by rw [List.getElem?_take,ax Y2];exact ej⟩
end M11
namespace gL
open PySem L2 M11
def SY (aa:List aw):Od aa (hd aa) (yC aa):=λh n e=>by
 unfold yC at e;by_cases c:h∈tK (hd aa) [] (aa.flatMap (·.2))
 .exact .inl (AO _ _ [] (λz hz=>by cases hz) h c)
 rw [az c] at e;cases e
def nn0 (aa:List aw):NN (yC aa):=λh n e=>by
 unfold yC at e;by_cases c:h∈tK (hd aa) [] (aa.flatMap (·.2))
 .rw [ax c] at e;cases e;exact oF _
 rw [az c] at e;cases e
def Ma {aa:List aw}{g:G}(st:eJ M11.bl aa (yC aa) g):NN g:=eJ.keep (J:=NN) (λg ru j m f=>vX j ru) st (nn0 aa)
theorem vo (bf:List Str):∀(ps bA:List Str)(x:Str),(x∈bA\/(x∈ps/\x∉bf))->x∈tK bf bA ps
 | [],bA,x,h=>by
  rcases h with h | ⟨h,_⟩
  .exact h
  cases h
 | p::r,bA,x,h=>by
  show x∈tK bf (addW bf bA p) r;apply vo bf r;unfold addW;by_cases c:p∈bf
  .rw [ax c];rcases h with h | ⟨h,n⟩
   .exact .inl h
   rcases cA.mp h with z | z
   .exact absurd (z ▸ c) n
   exact .inr ⟨z,n⟩
  rw [az c];rcases h with h | ⟨h,n⟩
  .exact .inl ((oB _ _ _).mpr (.inl h))
  rcases cA.mp h with z | z
  .exact .inl ((oB _ _ _).mpr (.inr z))
  exact .inr ⟨z,n⟩
def Pb:List Stmt->Pos
 | [_,_,_,.For _ (.Call _ _ [⟨_,.Lambda _ _ _ pos,_⟩] _) _ _ _,_]=>pos
 | _=>⟨0,0,0,0⟩
abbrev posB:Pos:=Pb (cx nH)
abbrev Hm:Str := "least_by_part" ++ ".<locals>." ++ "<lambda>"
section
def o_ (K:a9)(T1 T3:Addr):Sp:=λvs H Q _=>∃(R:Addr)(rs:List Addr)(aa:List aw),vs=[.ref R]/\aI K H R (rs.map V.ref)/\bI K H rs aa/\aa.length < 64/\(∀ru∈aa,ru.2.length<=8)/\(∀g,eJ M11.bl aa (yC aa) g->i_ M11.bl aa g->∀h∈hd aa,∃n,g h=some n/\n<=60)/\Tab T1 sf.2.2.2 yw H/\Tab T3 posB Hm H/\T1≠T3 /\
 ∀(d:Addr)(kvs:List (aS×V))(H':Hp),H d=none->l7 T1 T3 H H'->Tab T1 sf.2.2.2 yw H'->Tab T3 posB Hm H'->H' d=some (.dK kvs)->(∀z,z∈hd aa->(Sum.inr z:aS)∈kvs.map (·.1))->Q (.ref d) H'
structure LB (K:a9)(rs:List Addr)(aa:List aw)(qJ:List (aS×V))(ps:List (Str×Addr))(R dz dn T1 T3:Addr)(H5:Hp):Prop where
 hR:aI K H5 R (rs.map V.ref)
 b_:bI K H5 rs aa
 nm:HS ps (λn=>nums aa n aa.length) H5 dn
 rz:Rd H5 dz (.dK qJ)
 t1:Tab T1 sf.2.2.2 yw H5
 t3:Tab T3 posB Hm H5
theorem LB.same {rs:List Addr}{aa:List aw}{qJ:List (aS×V)}{ps:List (Str×Addr)}{R dz dn T1 T3:Addr}{H5 H6:Hp}(h:LB K rs aa qJ ps R dz dn T1 T3 H5)(s:aC H5 H6):LB K rs aa qJ ps R dz dn T1 T3 H6 :=
 ⟨s.seq h.hR,h.b_.same s,h.nm.same s,gL.Rd.same h.rz s,h.t1.same s,h.t3.same s⟩
def LB.Kf {rs:List Addr}{aa:List aw}{qJ:List (aS×V)}{ps:List (Str×Addr)}{R dz dn T1 T3 d:Addr}{H5 H6:Hp}{kv:List (aS×V)}(h:LB K rs aa qJ ps R dz dn T1 T3 H5)(e:H5 d=some (.dK kv))(n1:dn≠d)(n2:dz≠d)(s:d0 d H5 H6):LB K rs aa qJ ps R dz dn T1 T3 H6:=by
 have tk:∀a xs,aQ K H5 a xs->aQ K H6 a xs:=λa xs z=>by
  rcases z with (z | ⟨u,z⟩) | z
  .exact .inl (.inl (s _ _ (λy=>by rw [y,e] at z;cases z) z))
  .exact .inl (.inr ⟨u,s _ _ (λy=>by rw [y,e] at z;cases z) z⟩)
  exact .inr z
 have tb:∀{T':Addr}{pos':Pos}{Hk:Str},Tab T' pos' Hk H5->Tab T' pos' Hk H6:=λ{T' pos' Hk} ⟨p,a,b,cc⟩=>⟨p,s _ _ (λy=>by rw [y,e] at a;cases a) a,b,cc.imp id λ⟨c',e1,e2⟩=>⟨c',e1,s _ _ (λy=>by rw [y,e] at e2;cases e2) e2⟩⟩;refine⟨?_,h.b_.keep tk,⟨s _ _ n1 h.nm.hd,h.nm.n1,h.nm.n2,λp hp=>s _ _ (λy=>by have a:=h.nm.lst p hp;rw [y,e] at a;cases a) (h.nm.lst p hp)⟩,?_,tb h.t1,tb h.t3⟩
 .rcases h.hR with (z | ⟨u,z⟩) | z
  .exact .inl (.inl (s _ _ (λy=>by rw [y,e] at z;cases z) z))
  .exact .inl (.inr ⟨u,s _ _ (λy=>by rw [y,e] at z;cases z) z⟩)
  exact .inr z
 rcases h.rz with z | ⟨u,z⟩
 .exact .inl (s _ _ n2 z)
 exact .inr ⟨u,s _ _ n2 z⟩
def LB.OX {rs:List Addr}{aa:List aw}{qJ:List (aS×V)}{ps:List (Str×Addr)}{R dz dn T1 T3:Addr}{H5 H6:Hp}(h:LB K rs aa qJ ps R dz dn T1 T3 H5)(nT:T1≠T3)(s:d0 T3 H5 H6)(t:Tab T3 posB Hm H6):LB K rs aa qJ ps R dz dn T1 T3 H6:=by
 obtain⟨pt,eT,_⟩:=id h.t3;refine⟨Bl s h.t3 h.hR,h.b_.keep λ_ _ z=>AR s h.t3 z,⟨s _ _ (λy=>by have a:=h.nm.hd;rw [y,eT] at a;cases a) h.nm.hd,h.nm.n1,h.nm.n2,λp hp=>s _ _ (λy=>by have a:=h.nm.lst p hp;rw [y,eT] at a;cases a) (h.nm.lst p hp)⟩,?_,AU s h.t3 h.t1 nT,t⟩;rcases h.rz with z | ⟨u,z⟩
 .exact .inl (s _ _ (λy=>by rw [y,eT] at z;cases z) z)
 exact .inr ⟨u,s _ _ (λy=>by rw [y,eT] at z;cases z) z⟩
theorem pH:∀(hs:List Str)(bA:List (aS×V)) (as:List Str),bA.map (·.1)=as.map Sum.inr->(cK (hs.map λh=>((Sum.inr h:aS),V.str h)) bA).map (·.1)=(M11.tN as hs).map Sum.inr
 | [],bA,as,e=>e
 | h::r,bA,as,e=>pH r (bS bA (Sum.inr h) (.str h)) (M11.gP as h) (gL.kX e h)
def iE:aK ["rules","numbers","trees","name","least","sizes"] ["rules"] (av nH):=ir rfl rfl rfl rfl nofun
def zU {T1 T3:Addr}(F:ym K "least_by_part" "least_by_part" nH f fd T3)(T:Txt mg)(hB:tJ mg base)(hS:mg "sorted"=none)(GH:aB P w K mg base 3 "heads_of" ["rules"] (iX K))(GL:aB P w K mg base 3 "least_sizes" ["rules"] (qC K T1))(GN:aB P w K mg base 3 "numbers_by_name" ["rules"] (Ep K))(GZ:aB P w K mg base 3 "rule_size" ["sizes","rule"] (rH K)):bO P w K mg base fk 4 f fd ["rules"] (o_ K T1 T3):=by
 refine F.ok iE (λvs H Q E h=>?_) (λc A outer s H vs Q E hC hr h=>?_)
 .obtain⟨R,rs,aa,rfl,_⟩:=h;rfl
 obtain⟨R,rs,aa,rfl,hR,b_,br,h8,Gf,Jf,VM,nT,q⟩:=h;have hu:=fS hr;refine⟨_,ai (aA (i:=5) iE.nd rfl (Or.inr rfl) (a8 GL hr rfl (ab (pv 0) ah)))
  (ai (aA (i:=1) iE.nd rfl (Or.inr rfl) (a8 GN hr rfl (ab (pv 0) ah)))
  (ai (aA (i:=2) iE.nd rfl (Or.inr rfl) (bE (dD rfl) rfl T.yG eZ (ab (bF ["part"] [(1,"numbers")] rfl (Br (pv 5)) (bp rfl rfl) nofun rfl nofun
    (λ_ _ _ _ _=>aq (i:=0) (show (["part","numbers"]:List Str).Nodup by decide +kernel) rfl (bx rfl)) (λ_ _ _ _ _=>hJ (cZ (dZ hu (pv 0) (pv 1)))) (λ_ _ _ _ _=>bD (ab (pv 0) (ab (pv 0) ah)))) ah)))
  (ai (bQ b0 rfl (aZ (E8 (i:=5) (T:=T3) hr rfl hC hB rfl hS (ab (a8 GH hr rfl (ab (pv 0) ah)) ah) rfl rfl (λy hy=>by
    rcases cA.mp hy with h | h
    .cases h
    rcases cA.mp h with h | h
    .cases h;rfl
    cases h) (λq cl pm gA c' us hl=>match us,hl with | [_],_=>rfl) rfl rfl rfl nofun rfl rfl)) (aq (i:=3) iE.nd rfl (Or.inr rfl))
   (ai (iA (iy:=4) ["number"] [(5,"sizes"),(0,"rules"),(3,"name")] iE.nd rfl rfl rfl (aZ (fK hu (pv 1) (pv 3) (λ_ _=>rfl))) (bp rfl rfl) nofun rfl nofun
    (λ_ _ _ _ _=>aq (i:=0) (show (["number","sizes","rules","name"]:List Str).Nodup by decide +kernel) rfl (bx rfl)) (λ_ _ _ _ _=>hJ (aV ik (a8 GZ hr rfl (ab (pv 1) (ab (aF (F2 K) (pv 2) (pv 0) (λ_ _=>rfl)) ah))) (fK hu (pv 1) (pv 3) (λ_ _=>rfl)) (bu _))) (λ_ _ _ _ _=>pv 0))
   (ak (i0 hu (pv 2) (pv 3) (bD (ab (aF bo (pv 4) ao (λ_ _=>rfl)) (ab (bE gb rfl T.tup qS (ab (bF ["part"] [(2,"trees")] rfl (gI (aF aN (aF bo (pv 0) (aF bo (pv 4) ao (λ_ _=>rfl)) (λ_ _=>rfl)) ao (λ_ _=>rfl))) (bp rfl rfl) nofun rfl nofun
    (λ_ _ _ _ _=>aq (i:=0) (show (["part","trees"]:List Str).Nodup by decide +kernel) rfl (bx rfl)) (λ_ _ _ _ _=>bY) (λ_ _ _ _ _=>fK hu (pv 1) (pv 0) (λ_ _=>rfl))) ah)) ah))) rfl))))
  (ak (aL (pv 2)))))),?_⟩
 nofun
 refine⟨_,rfl,R,rs,aa,rfl,hR,b_,∅,h8,Jf,λdz qJ Kd g H1 fz s1 t1 ez kz vz RB XM lz=>?_⟩;refine goN ?_
 ac_rfl
 have Zc:=Bl s1 Jf hR;have Qb:=b_.keep λ_ _ z=>AR s1 Jf z;have XD:=AU s1 Jf VM (cP nT);refine⟨_,rfl,R,rs,aa,rfl,Zc,Qb,∅,λdn ps H2 fn s2 nm pk pf=>?_⟩;refine goN ?_
 ac_rfl
 have N2:=s2 _ _ ez;refine⟨_,rfl,dz,qJ,rfl,N2,λo D hD=>?_⟩;have Uk:∀p∈ps,p.2≠dz:=λp hp z=>by
  have a:=nm.lst p hp;rw [z,N2] at a;cases a
 have ndz:dn≠dz:=λz=>by rw [z,ez] at fn;cases fn
 have nz1:T1≠dz:=λz=>by
  obtain⟨p,a,_⟩:=t1;rw [z,ez] at a;cases a
 have nz3:T3≠dz:=λz=>by
  obtain⟨p,a,_⟩:=XD;rw [z,ez] at a;cases a
 have OB:∀{T':Addr}{pos':Pos}{Hk:Str},T'≠dz->Tab T' pos' Hk H2->Tab T' pos' Hk (upd H2 dz (.kj o (.dK qJ))):=λ{T' pos' Hk} n ⟨p,a,b,cc⟩=>⟨p,by rw [aj n];exact a,b,cc.imp id λ⟨c',e1,e2⟩=>⟨c',e1,by rw [aj (λz=>by rw [z,N2] at e2;cases e2)];exact e2⟩⟩;have L3:LB K rs aa qJ ps R dz dn T1 T3 (upd H2 dz (.kj o (.dK qJ))):=by
  refine⟨?_,(Qb.same s2).keep λ_ _ z=>ib N2 z,⟨by rw [aj ndz];exact nm.hd,nm.n1,nm.n2,λp hp=>by rw [aj (Uk p hp)];exact nm.lst p hp⟩,.inr ⟨o,ae⟩,OB nz1 (t1.same s2),OB nz3 (XD.same s2)⟩;rcases s2.seq Zc with (h | ⟨u,h⟩) | h
  .exact .inl (.inl (by rw [aj (λz=>by rw [z,N2] at h;cases h)];exact h))
  .exact .inl (.inr ⟨u,by rw [aj (λz=>by rw [z,N2] at h;cases h)];exact h⟩)
  exact .inr h
 have e3:upd H2 dz (.kj o (.dK qJ)) dz=some (.kj o (.dK qJ)):=ae;have Cd:l7 T1 T3 H (upd H2 dz (.kj o (.dK qJ))):=λb u n1 n3 hb=>by
  rw [aj (λz=>by rw [z,fz] at hb;cases hb)];exact s2 _ _ (s1 b u n1 hb)
 generalize upd H2 dz (.kj o (.dK qJ))=H3 at hD L3 e3 Cd ⊢;have lkz:qJ.length=Kd.length:=by
  have:=congrArg List.length kz;rwa [au,au] at this
 refine s_ (λi ys σ2 H4=>∃ts:List Addr,ys=ts.map V.ref/\(∃y0,σ2=[y0,aP dn])/\aC H3 H4/\H4 D=some (.lst ys)/\ts.length<=i/\Paired (λt h=>aQ K H4 t [.str h,.str h]) ts ((Kd.take i).filter λz=>!decide (z∈hd aa)))
  ⟨[],rfl,⟨none,rfl⟩,af hD _,ae,aH _,.nil⟩ (λi ys σ2 H4 _ h=>?_) (λi kv ys σ2 H4 ex h=>?_) (λys σ2 H4 h=>?_)
 .obtain⟨_,_,_,sm,_⟩:=h;exact sm _ _ e3
 .obtain⟨ts,rfl,⟨y0,rfl⟩,sm,e4,lts,pt⟩:=h;obtain⟨z,ezz,ekz⟩:∃z,Kd[i]?=some z/\kv.1=Sum.inr z:=by
   have a1:(qJ.map (·.1))[i]?=some kv.1:=by rw [bh,ex];rfl
   rw [kz,bh] at a1;obtain⟨z,a2,a3⟩:=cq.mp a1;exact⟨z,a2,a3.symm⟩
  rw [ekz];have L4:=L3.same sm;have Vu:(bB (ps.map jF) (Sum.inr z)).isSome=decide (z∈hd aa):=by
   rw [mP,fg,decide_eq_true_iff,<-pk];rw [iG];constructor
   .intro h;obtain⟨p,hp,e⟩:=cQ.mp h;exact cQ.mpr ⟨p,hp,md e⟩
   intro h;obtain⟨p,hp,e⟩:=cQ.mp h;exact cQ.mpr ⟨p,hp,congrArg Sum.inr e⟩
  refine goN ?_;refine⟨_,rfl,_,rfl,dn,_,rfl,cz.k (k:=Sum.inr z) L4.nm.hd,_,rfl,?_⟩;rw [Vu];have Gv:((Kd.take (i+1)).filter λz=>!decide (z∈hd aa))=((Kd.take i).filter λz=>!decide (z∈hd aa))++(if (!decide (z∈hd aa))=true then [z] else []):=by
   rw [cS,ezz,oY]
   congr 1
   by_cases c:z∈hd aa <;> simp [c]
  refine bZ (λcc=>?_) (λcc=>?_)
  .refine⟨_,rfl,_,rfl,kc,λt ht=>?_⟩;have k5:=af ht (.tup [kV (Sum.inr z),kV (Sum.inr z)]);have v5:aQ K (upd H4 t (.tup [kV (Sum.inr z),kV (Sum.inr z)])) t [.str z,.str z]:=aQ.of ae;generalize upd H4 t (.tup [kV (Sum.inr z),kV (Sum.inr z)])=H5 at k5 v5;have li:=(bq.mp ex).1;have e5:=k5 _ _ e4;refine⟨e5,bL (by rw [au];omega),ts++[t],by rw [bG];rfl,⟨_,rfl⟩,λb u hb=>?_,ae,by rw [bM,fQ];omega,?_⟩
   .rw [aj (λz=>by rw [z,hD] at hb;cases hb)];exact k5 _ _ (sm b u hb)
   rw [Gv,ax cc];exact gR (Paired.dJ pt λ_ _ z=>aT e5 (k5.tup z)) (aT e5 v5)
  refine⟨ts,rfl,⟨_,rfl⟩,sm,e4,∅,?_⟩;rw [Gv,az cc,iu];exact pt
 obtain⟨ts,rfl,_,s4,e4,lts,pt⟩:=h;rw [lkz,cR] at pt;have YM:∀z,z∉hd aa->(g z).isSome=true->z∈Kd.filter λz=>!decide (z∈hd aa):=λz hz gz=>by
  refine lP.mpr ⟨?_,by simpa using hz⟩;have a1:(bB qJ (Sum.inr z)).isSome=true:=by rw [vz,oX];exact gz
  rw [fg,kz] at a1;exact di.mp a1
 have lws:(Kd.filter λz=>!decide (z∈hd aa)).length<=20000:=fX (rq _ _) ∅;generalize Kd.filter (λz=>!decide (z∈hd aa))=ws at pt YM lws;have kp:Paired (λt (kv:aS×V)=>aQ K H4 t [kV kv.1,kv.2]) ts (ws.map λh=>((Sum.inr h:aS),V.str h)):=cv pt λ_ _ z=>z;refine⟨D,ts,_,rfl,e4,kp,λdt Bz=>?_⟩;have kt:∀z∈ws,(Sum.inr z:aS)∈(cK (ws.map λh=>((Sum.inr h:aS),V.str h)) []).map (·.1):=λz hz=>by
  rw [pH ws [] [] rfl];exact di.mpr ((hU ws [] z).mpr (.inr hz))
 have lkt:(cK (ws.map λh=>((Sum.inr h:aS),V.str h)) []).length<=20000:=by
  have a:=congrArg List.length (pH ws [] [] rfl);rw [au,au] at a;have:=hV ws [];simp only [iV] at this;omega
 generalize cK (ws.map λh=>((Sum.inr h:aS),V.str h)) []=PK at kt lkt;have s5:=s4.trans (af Bz (.dK PK));have e5:upd H4 dt (.dK PK) dt=some (.dK PK):=ae;have Kt:H3 dt=none:=s4.free Bz;generalize upd H4 dt (.dK PK)=H5 at s5 e5;have L5:=L3.same s5;refine goN ?_
 ac_rfl
 refine⟨_,rfl,R,rs,aa,rfl,L5.hR,L5.b_,∅,λDH H6 fH s6 eH=>?_⟩;have L6:=L5.same s6;have FQ:=hV (aa.map (·.1)) [];simp only [iV,au] at FQ;have gz:∀z∈hd aa,∃n,g z=some n:=λz hz=>by
  obtain⟨n,e,_⟩:=Gf g RB XM z hz;exact⟨n,e⟩
 refine⟨L6.t3,DH,hd aa,dz,qJ,λz=>(g z).getD 0,rfl,aI.of eH,by unfold hd;omega,rfl,L6.rz,λz hz=>by obtain⟨n,e⟩:=gz z hz;rw [vz,e];show _=some (V.int ((g z).getD 0));rw [e];rfl,λl K5 H7 s7 t37 fl pe pw el=>?_⟩;have L7:=L6.OX nT s7 t37;have Ur:dt≠T3:=λz=>by
  obtain⟨p,a,_⟩:=L5.t3;rw [<-z,e5] at a;cases a
 have e7:=s7 _ _ Ur (s6 _ _ e5);have Yg:dn≠dt:=λz=>by have a:=L3.nm.hd;rw [z,Kt] at a;cases a
 have X9:dz≠dt:=λz=>by rw [<-z,e3] at Kt;cases Kt
 have Bn:l7 T1 T3 H H7:=λb u n1 n3 hb=>s7 _ _ n3 (s6 _ _ (s5 _ _ (Cd b u n1 n3 hb)));have Uo:l≠dt:=λz=>by rw [z,s6 _ _ e5] at fl;cases fl
 have nn:=Ma RB;have hlz:K5.length < 64:=by rw [pe.length_eq];unfold hd;omega
 have Q_:∀ru∈aa,∀p∈ru.2,(g p).isSome=true:=λru i8 p hp=>by
  by_cases hh:p∈hd aa
  .obtain⟨n,e⟩:=gz p hh;rw [e];rfl
  have j0:∃n,yC aa p=some n:=⟨0,ax (vo _ _ [] p (.inr ⟨q8.mpr ⟨ru,i8,hp⟩,hh⟩))⟩;have:∃n,g p=some n:=eJ.keep (J:=λg=>∃n,g p=some n) (λg ru ⟨n,e⟩ m f=>by obtain⟨k,a,_⟩:=le_step f p n e;exact⟨k,a⟩) RB j0;obtain⟨n,e⟩:=this;rw [e];rfl
 have ll:=aY b_
 let wG:tG:=λi σ H8=>∃(kvs:List (aS×V))(y3 y4:Option V),σ=[aP R,aP dn,aP dt,y3,y4,aP dz]/\d0 dt H7 H8/\H8 dt=some (.dK kvs)/\kvs.length<=20000+i/\(∀z∈ws,(Sum.inr z:aS)∈kvs.map (·.1))/\(∀z∈K5.take i,(Sum.inr z:aS)∈kvs.map (·.1))
 refine⟨l,rfl,⟨_,aI.of el⟩,cD (xs:=K5.map V.str) wG ⟨PK,_,_,rfl,λ_ _ _ h=>h,e7,∅,kt,λz hz=>by cases hz⟩ ?_ ?_ ?_⟩
 .rintro i σ H8 _ ⟨kvs,y3,y4,rfl,s8,_⟩;exact aI.of (s8 _ _ Uo el)
 .rintro i x σ H8 ex ⟨kvs,y3,y4,rfl,s8,e8,UE,UK,PJ⟩
  ac_nf0
  rw [bh] at ex;obtain⟨z,Sh,rfl⟩:=cq.mp ex;have li:=(bq.mp Sh).1;have hz:z∈hd aa:=pe.mem_iff.mp (cg Sh);obtain⟨n,Wj⟩:=gz z hz;have L8:=L7.Kf e7 Yg X9 s8;obtain⟨p,hp,Vi⟩:=cQ.mp (show z∈ps.map (·.1) by rw [pk];exact hz);refine goN ?_
  ac_rfl
  have hgn:cz H8 dn (.str z) (some (.ref p.2)):=by
   have:=cz.k (k:=Sum.inr z) L8.nm.hd;rw [<-Vi,gW ps L8.nm.n1 p hp] at this;rw [Vi] at this;exact this
  have RV:=L8.nm.lst p hp;have RV:H8 p.2=some (.lst ((nums aa z aa.length).map V.int)):=by rw [<-Vi];exact RV
  have numOf:∀(m:Nat) (v:Int),(nums aa z aa.length)[m]?=some v->∃(j:Nat)(ru:aw),v=(j:Int)/\aa[j]?=some ru/\ru.1=z:=λm v e=>by
   unfold nums at e;rw [bh] at e;obtain⟨j,e1,rfl⟩:=cq.mp e;have hj:=(lP.mp (cg e1)).2;have hj:(aa[j]?.map (·.1))=some z:=dr hj;obtain⟨ru,e2,e3⟩:=cq.mp hj;exact⟨j,ru,rfl,e2,e3⟩
  have aab:=xA aa z aa.length
  let good:Int->Bool:=λv=>match aa[v.toNat]? with | some ru=>decide (aW g ru=n) | none=>false
  have wit:∃v∈nums aa z aa.length,good v=true:=by
   obtain⟨ru,i8,q1,_,q3⟩:=CH (SY aa) RB XM hz Wj;obtain⟨j,ej⟩:=iw i8;have lj:=(bq.mp ej).1;refine⟨(j:Int),cQ.mpr ⟨j,lP.mpr ⟨kK.mpr lj,bW (by rw [ej];exact congrArg some q1)⟩,rfl⟩,?_⟩;show (match aa[(j:Int).toNat]? with | some ru=>decide (aW g ru=n) | none=>false)=true
   rw [kr,ej];exact bW q3
  refine⟨_,rfl,_,rfl,dn,_,rfl,hgn,p.2,rfl,⟨_,aI.of RV⟩,λD9 Ko=>cE (xs:=(nums aa z aa.length).map V.int) (λm ys σ2 H9=>ys=(((nums aa z aa.length).take m).filter good).map V.int/\(∃y0,σ2=[y0,aP dz,aP R,some (.str z)])/\aC H8 H9/\H9 D9=some (.lst ys))
   ⟨rfl,⟨none,rfl⟩,af Ko _,ae⟩ (λm ys σ2 H9 _ h=>?_) (λm x ys σ2 H9 em h=>?_) (λys σ2 H9 h=>?_)⟩
  .obtain⟨_,_,sm,_⟩:=h;exact aI.of (sm _ _ RV)
  .obtain⟨rfl,⟨y0,rfl⟩,sm,e9⟩:=h;rw [bh] at em;obtain⟨v,ev,rfl⟩:=cq.mp em;have lm:=(bq.mp ev).1;obtain⟨j,ru,rfl,ej,Sl⟩:=numOf m v ev;have L9:=L8.same sm;obtain⟨r,er,rv⟩:=Paired.at_ L9.b_ j ru ej;have tO:j9 (rs.map V.ref) (j:Int)=some (.ref r):=bT (by rw [bh,er];rfl);have gj:good (j:Int)=decide (V.int (aW g ru)=V.int n):=by
    show (match aa[(j:Int).toNat]? with | some ru=>decide (aW g ru=n) | none=>false)=_
    rw [kr,ej];show decide (aW g ru=n)=_;by_cases c:aW g ru=n
    .rw [bW c,bW (congrArg V.int c)]
    rw [dq c,dq (λy=>c (by injection y))]
   refine goN ?_;refine⟨_,rfl,_,rfl,_,rfl,R,_,_,_,rfl,rfl,L9.hR,tO,dz,r,qJ,g,ru,rfl,L9.rz,vz,rv,h8 ru (cg ej),Q_ ru (cg ej),λAN vT=>?_⟩;have hgz:cz AN dz (.str z) (some (.int n)):=by
    have:=cz.r (k:=Sum.inr z) (L9.same vT).rz;rw [vz,Wj] at this;exact this
   refine⟨_,rfl,_,rfl,dz,_,rfl,hgz,rfl,_,rfl,?_⟩;rw [<-gj];have Gv:((nums aa z aa.length).take (m+1)).filter good=((nums aa z aa.length).take m).filter good++(if good (j:Int)=true then [(j:Int)] else []):=by
    rw [cS,ev,oY]
    congr 1
    show List.filter good [(j:Int)]=_;by_cases c:good (j:Int)=true
    .rw [ax c,uX,ax c,List.filter_nil]
    rw [az c,uX,az c,List.filter_nil]
   have lf:(((nums aa z aa.length).take m).filter good).length<=1000:=fX (rq _ _) (by rw [dO];omega);refine bZ (λcc=>?_) (λcc=>?_)
   .refine⟨_,rfl,vT _ _ e9,bL (by rw [au];omega),by rw [Gv,ax cc,bG];rfl,⟨_,rfl⟩,λb u hb=>?_,ae⟩;rw [aj (λz=>by rw [z,Ko] at hb;cases hb)];exact vT _ _ (sm b u hb)
   exact⟨by rw [Gv,az cc,iu],⟨_,rfl⟩,sm.trans vT,vT _ _ e9⟩
  obtain⟨rfl,_,s9,e9⟩:=h;rw [au,cR] at e9;refine goN ?_
  ac_rfl
  have L9:=L8.same s9;cases hf:(nums aa z aa.length).filter good with
  | nil =>
   obtain⟨v,hv,gv⟩:=wit;have:v∈(nums aa z aa.length).filter good:=lP.mpr ⟨hv,gv⟩;rw [hf] at this;cases this
  | cons v0 vr =>
   rw [hf] at e9;have hm0:v0∈(nums aa z aa.length).filter good:=by rw [hf];exact cV
   obtain⟨Vp,RX⟩:=lP.mp hm0;obtain⟨m0,Wi⟩:=iw Vp;obtain⟨j,ru,rfl,ej,Sl⟩:=numOf m0 v0 Wi;have hsz:aW g ru=n:=by
    have RX:(match aa[(j:Int).toNat]? with | some ru=>decide (aW g ru=n) | none=>false)=true:=RX
    rw [kr,ej] at RX;exact dr RX
   have i8:=cg ej;obtain⟨r,er,pp,v1,v2⟩:=Paired.at_ L9.b_ j ru ej;have tO:j9 (rs.map V.ref) (j:Int)=some (.ref r):=bT (by rw [bh,er];rfl);have tZ:j9 (V.int (j:Int)::vr.map V.int) 0=some (.int (j:Int)):=bT (j:=0) rfl;have e9:H9 D9=some (.lst (V.int (j:Int)::vr.map V.int)):=e9;have e89:=s9 _ _ e8;have r8:=h8 ru i8;have UP:∀p∈ru.2,(Sum.inr p:aS)∈kvs.map (·.1):=λy hy=>by
    obtain⟨my,ey⟩:=mX.mp (Q_ ru i8 y hy);by_cases hh:y∈hd aa
    .refine PJ y (vy pw Sh (pe.mem_iff.mpr hh) ?_);show (g y).getD 0 < (g z).getD 0;rw [ey,Wj];show my < n;rw [<-hsz];exact Cn nn hy ey
    exact UK y (YM y hh (by rw [ey];rfl))
   refine⟨_,rfl,D9,_,_,_,rfl,rfl,aI.of e9,tZ,_,rfl,_,rfl,D9,_,_,_,rfl,rfl,aI.of e9,tZ,R,_,_,_,rfl,rfl,L9.hR,tO,r,_,_,_,rfl,rfl,v1,rfl,pp,rfl,⟨_,v2⟩,λXl V0=>sW (zs:=ru.2) rfl v2 ∅ e89 UP V0 λys AN ly vT DQ=>?_⟩;refine⟨Xl,ys,rfl,.inl ⟨aI.of DQ,λt2 V6=>⟨kc,λFK MV=>?_⟩⟩⟩;have YB:=(af V6 (.tup ys)).trans (af MV (.tup [.int (j:Int),.ref t2]));generalize upd (upd AN t2 (.tup ys)) FK (.tup [.int (j:Int),.ref t2])=DE at YB;have O4:=(s9.trans vT).trans YB;have HM:=O4 _ _ e8;refine⟨_,rfl,_,rfl,dt,_,rfl,.inl ⟨kvs,Sum.inr z,HM,rfl,bL ∅,rfl⟩,?_⟩;have FV:∀y:aS,(y∈kvs.map (·.1)\/y=Sum.inr z)->y∈(bS kvs (Sum.inr z) (.ref FK)).map (·.1):=λy hy=>by
    by_cases hk:(Sum.inr z:aS)∈kvs.map (·.1)
    .rw [zD hk];rcases hy with hy | rfl
     .exact hy
     exact hk
    rw [iZ hk];rcases hy with hy | rfl
    .exact jm _ hy
    exact fY _ cV
   have aaf:(bS kvs (Sum.inr z) (.ref FK)).length<=kvs.length+1:=by
    have a:=congrArg List.length (Eq.refl ((bS kvs (Sum.inr z) (.ref FK)).map (·.1)));by_cases hk:(Sum.inr z:aS)∈kvs.map (·.1)
    .have b:=congrArg List.length (zD (v:=.ref FK) hk);rw [au,au] at b;omega
    have b:=congrArg List.length (iZ (v:=.ref FK) hk);rw [au,bM,au,fQ] at b;omega
   refine⟨_,_,_,rfl,λb u nb hb=>?_,ae,∅,λy hy=>FV _ (.inl (UK y hy)),λy hy=>?_⟩
   .rw [aj nb];exact O4 _ _ (s8 b u nb hb)
   rw [cS,Sh] at hy;rcases cC.mp hy with hy | hy
   .exact FV _ (.inl (PJ y hy))
   exact FV _ (.inr (by rw [bV.mp (show y∈[z] from hy)]))
 rintro σ H8 ⟨kvs,y3,y4,rfl,s8,e8,UE,UK,PJ⟩;rw [au,cR] at PJ;have L8:=L7.Kf e7 Yg X9 s8;refine⟨_,rfl,q dt kvs H8 ?_ (λb u n1 n3 hb=>?_) L8.t1 L8.t3 e8 λz hz=>PJ z (pe.mem_iff.mpr hz)⟩
 .cases c:H dt with
  | none=>rfl
  | some u =>
   by_cases h1:dt=T1
   .obtain⟨pp,a,_⟩:=L3.t1;rw [<-h1,Kt] at a;cases a
   rw [Cd dt u h1 Ur c] at Kt;cases Kt
 refine s8 _ _ (λz=>?_) (Bn b u n1 n3 hb);rw [z] at hb;rw [Cd dt u (λy=>n1 (z.trans y)) Ur hb] at Kt;cases Kt
end
end gL
namespace L2
open PySem PySem.Spec PyProof.Rows
section
variable {prog:Program}{w:World}{A:Around}{E:Value->Shared->Prop}
def vq {h h':Heap}{ks:List aS}{a:Addr}(p:(tupleKind (bj prog w)).is h ks a)(k:∀b o,o.cls=.type "tuple" -> h.get? b=some o->h'.get? b=some o):(tupleKind (bj prog w)).is h' ks a :=
 let ⟨o,aU,n,h1,h2,h3,h4⟩:=p;⟨o,aU,n,k a o h2 h1,h2,h3,h4⟩
def wy {h h':Heap}{d:Addr}{xs:List (List aS×Addr×Value)}(hd:h.DictOfH (tupleKind (bj prog w)) d xs)(kd:∀o,h.get? d=some o->h'.get? d=some o)(k:∀b o,o.cls=.type "tuple" -> h.get? b=some o->h'.get? b=some o) :
  h'.DictOfH (tupleKind (bj prog w)) d xs :=
 let ⟨o,es,ep,q,c,dd,e,is,n⟩:=hd;⟨o,es,ep,kd o q,c,dd,e,λx hx=>vq (is x hx) k,n⟩
def lG (prog:Program)(w:World)(h:Heap)(u:Value)(kv:List aS×Addr×Value):Prop :=
 ∃t n o,u=.ref t/\(tupleKind (bj prog w)).is h kv.1 kv.2.1/\h.get? t=some o/\o.cls=.type "tuple" /\ o.data=.seq #[.ref kv.2.1,kv.2.2] n
def lG.keep {h h':Heap}{u:Value}{kv:List aS×Addr×Value}(p:lG prog w h u kv)(k:∀b o,o.cls=.type "tuple" -> h.get? b=some o->h'.get? b=some o):lG prog w h' u kv :=
 let ⟨t,n,o,a,b,c,d,e⟩:=p;⟨t,n,o,a,vq b k,k t o d c,d,e⟩
def BG (more xs:List (List aS×Addr×Value)):List (List aS×Addr×Value):=more.foldl (λa p=>storedH a p.1 p.2.1 p.2.2) xs
def Jq {R:Result->Shared->Prop}{d it l:Addr}{items:Array Value}(hh:A.handled=none)(hu:A.units+1 < cLine):∀(more:List (List aS×Addr×Value)) (i:Nat)(s:Shared)(kvs:List (List aS×Addr×Value)) (j:Int)(tk:Tok),items.size=i+more.length ->
  s.heap.DictOfH (tupleKind (bj prog w)) d kvs->s.heap.IsListIter it l i->s.heap.IsList l items->(∀m kv,more[m]?=some kv->∃u,items[i+m]?=some u/\lG prog w s.heap u kv)->kvs.length+more.length<=sizeLine ->
  (∀h' t',h'.DictOfH (tupleKind (bj prog w)) d (BG more kvs)->(∀b o,b≠d->b≠it->s.heap.get? b=some o->h'.get? b=some o)->R (.ok (.ret .none)) { s with heap:=h',toks:=t' }) ->
  codeAny (model prog w) A (.builtin "dict.update.loop" ⟨[.ref d,.ref it,.int j tk,.none],[]⟩) R s:=by
 intro more
 induction more with
 | nil =>
  intro i s kvs j tk hi hd hit hl hp hz hR;refine mf lD ?_;rw [qQ fI _];unfold Builtin.«dict.update.loop»;have hs:items[i]?=none:=yI (by rw [hi];exact aH _);refine ar (u_ hh hit hl hs λh1 eb=>?_);have nd:d≠it:=λz=>by
   obtain⟨o,_,_,q,_,c,_⟩:=hd;obtain⟨o',q',_,c'⟩:=hit;rw [z,q'] at q;cases q;rw [c'] at c;cases c
  have nt:∀b o,o.cls=.type "tuple" -> s.heap.get? b=some o->b≠it:=λb o c q z=>by
   obtain⟨o',q',c',_⟩:=hit;rw [z,q'] at q;cases q;rw [c'] at c;exact absurd c nofun
  show wpAny _ _ (Builtin.Dict.addKeywords d [] >>= _) _ _ _;exact ar (aR (aR (hR h1 s.toks (wy hd (λo q=>eb d o nd q) λb o c q=>eb b o (nt b o c q) q) λb o n1 n2 q=>eb b o n2 q)))
 | cons kv more ih =>
  intro i s kvs j tk hi hd hit hl hp hz hR;refine mf lD ?_;rw [qQ fI _];unfold Builtin.«dict.update.loop»;obtain⟨u,U3,t,n,o,rfl,hk,ho,hc,Bz⟩:=hp 0 kv rfl;refine ar (wpAny_pyNext_list_item hit hl U3 λh1 US sb=>?_);have nd:d≠it:=λz=>by
   obtain⟨o,_,_,q,_,c,_⟩:=hd;obtain⟨o',q',_,c'⟩:=hit;rw [z,q'] at q;cases q;rw [c'] at c;cases c
  have n2:∀b o,(o.cls=.type "tuple" \/ o.cls=.type "list")->s.heap.get? b=some o->b≠d/\b≠it:=by
   intro b o c q;constructor
   .intro z;obtain⟨o',q',c'⟩:=hd.typeIs;rw [z,q'] at q;cases q;rw [c'] at c;rcases c with c | c <;> exact absurd c nofun
   intro z;obtain⟨o',q',c',_⟩:=hit;rw [z,q'] at q;cases q;rw [c'] at c;rcases c with c | c <;> exact absurd c nofun
  have nt:∀b o,o.cls=.type "tuple" -> s.heap.get? b=some o->b≠d/\b≠it:=λb o c q=>n2 b o (.inl c) q;have nl:l≠d/\l≠it:=by
   obtain⟨o,q,c,_⟩:=hl;exact n2 l o (.inr c) q
  have UM:∀b o,o.cls=.type "tuple" -> s.heap.get? b=some o->h1.get? b=some o:=λb o c q=>(sb.2 b (nt b o c q).2).trans q;have Qg:h1.get? t=some o:=UM t o hc ho;have wM:h1.DictOfH (tupleKind (bj prog w)) d kvs:=wy hd (λo q=>(sb.2 d nd).trans q) UM;refine ar (iH (ar (wpAny_tryCatch ?_)));unfold Builtin.Dict.pairItems;refine ar (jV (T := "tuple") ⟨o,Qg,hc⟩ ?_);rw [ax nofun];refine ar (jl Qg Bz (aR ?_));show wpAny _ _ (holding [.ref kv.2.1,kv.2.2] (dictSet d (.ref kv.2.1) kv.2.2)) _ _ _;rw [dN] at hz hi;refine iH (wpAny_dictSet_heap (s:={ s with heap:=h1 }) (oV hu) (vq hk UM) wM (λh2 hd2 O2=>?_) ∅);have kk:∀b o,b≠d->b≠it->s.heap.get? b=some o->h2.get? b=some o:=λb o n1 n2 q=>(O2.2 b n1).trans ((sb.2 b n2).trans q);have ln:(storedH kvs kv.1 kv.2.1 kv.2.2).length<=kvs.length+1:=by
   unfold storedH
   split
   .simp
   simp
  refine aR ⟨kI fI _,ih (i+1) _ _ _ _ ∅ hd2 (US.at λo q=>(O2.2 it (cP nd)).trans q) (hl.at λo q=>kk l o nl.1 nl.2 q) (λm UL e=>?_) ∅ λh3 t3 jh k3=>?_⟩
  .obtain⟨u',e1,e2⟩:=hp (m+1) UL e;exact⟨u',by rw [<-e1];congr 1;omega,e2.keep λb o c q=>kk b o (nt b o c q).1 (nt b o c q).2 q⟩
  exact hR h3 t3 jh λb o n1 n2 q=>k3 b o n1 n2 (kk b o n1 n2 q)
def qy {s:Shared}{l:Addr}{items:Array Value}{n:Nat}{more:List (List aS×Addr×Value)}{Q:Value->Shared->Prop}(hh:A.handled=none)(hu:A.units+2 < cLine)(hx:s.heap.get? l=some { cls:=.type "list",data:=.seq items n })
  (hi:items.size=more.length)(hp:∀(m:Nat) kv,more[m]?=some kv->∃u,items[m]?=some u/\lG prog w s.heap u kv)(hz:more.length<=sizeLine)
  (h:∀h' t',h'.DictOfH (tupleKind (bj prog w)) s.heap.objs.size (BG more [])->(∀b o,s.heap.get? b=some o->h'.get? b=some o)->Q (.ref s.heap.objs.size) { s with heap:=h',toks:=t' }) :
  wpAny (model prog w) A (call (.type "dict") [.ref l]) Q E s:=by
 refine callType_codes (Q₁:=λobj s₁=>obj=.ref s.heap.objs.size/\s₁={ s with heap:=s.heap.push { cls:=.type "dict",data:=.dict #[] } }) F.kt_called_dict (F.kt_typeCall_dict_1 _) F.entry_dict_init (kt_code_dict_new _ ⟨rfl,rfl⟩) ?_;rintro obj s₁ ⟨rfl,rfl⟩;have zX:(s.heap.push { cls:=.type "dict",data:=.dict #[] }).DictOfH (tupleKind (bj prog w)) s.heap.objs.size []:=Heap.DictOfH.new s.heap;have l0:=bJ { cls:=.type "dict",data:=.dict #[] } hx;refine⟨zX.typeIs,F.args_dict_init_2 _ _,?_⟩;unfold Builtin.«dict.__init__» Builtin.Dict.selfAndRest;refine ar (ar (wpAny_notOrdered_dict zX.typeIs (aR ?_)));show wpAny _ _ (Builtin.Dict.updateFrom "dict.__init__" s.heap.objs.size (.ref l) [] .none) _ _ _;unfold Builtin.Dict.updateFrom;refine ar (jV (T := "list") ⟨_,l0,rfl⟩ ?_);rw [ax yW];refine ar (pG l0 hh λh1 t1 k1=>?_);refine ar (ja ?_);have l1:=k1 _ _ l0;refine ar (oR ⟨_,l1,rfl,_,rfl⟩ ?_);have k2:∀b o,s.heap.get? b=some o->(h1.push { cls:=.type "list_iterator",data:=.fields #[.ref l,.int 0 0] }).get? b=some o:=λb o q=>bJ _ (k1 _ _ (bJ _ q));refine aR ⟨kI fI _,Jq (A:=A.in1) (l:=l) (items:=items) (show A.in1.handled=none from hh) (show A.in1.units+1 < cLine by rw [oP];omega) more 0 _ [] _ _ (by rw [hi,oJ]) ?_ ⟨_,cW _ rfl,rfl,rfl⟩ ⟨_,k2 _ _ hx,rfl,n,rfl⟩ (λm kv e=>?_) (by simpa using hz) λh' t' hd k3=>?_⟩
 .exact wy zX (λo q=>bJ _ (k1 _ _ q)) λb o _ q=>bJ _ (k1 _ _ q)
 .obtain⟨u,e1,e2⟩:=hp m kv e;exact⟨u,by rw [oJ];exact e1,e2.keep λb o _ q=>k2 b o q⟩
 refine⟨rfl,h h' t' hd λb o q=>k3 b o (bN (ba q)) ?_ (k2 b o q)⟩;have:=ba (k1 _ _ (bJ { cls:=.type "dict",data:=.dict #[] } q));exact bN this
end
def ou (kvs bA:List (List aS×V)):List (List aS×V):=kvs.foldl (λa p=>bS a p.1 p.2) bA
theorem uF {H:Hp}:∀{kvs:List (List aS×V)}{vs:List (List aS×Addr×Value)}{bA:List (List aS×V)}{G4:List (List aS×Addr×Value)},KT H kvs vs->KT H bA G4->KT H (ou kvs bA) (BG vs G4)
 | _,_,_,_,.nil,h=>h
 | _,_,_,_,.cons (a:=p) (b:=q) r t,h=>by
  obtain⟨e,hb,rv⟩:=r;show KT H (ou _ (bS _ p.1 p.2)) (BG _ (storedH _ q.1 q.2.1 q.2.2));rw [<-e];exact uF t (h.put p.1 hb rv)
theorem uG:∀(kvs bA:List (List aS×V)),(ou kvs bA).length<=bA.length+kvs.length
 | [],bA=>by simp [ou]
 | p::r,bA=>by
  have:=uG r (bS bA p.1 p.2);have:=fu bA p.1 p.2;show (ou r (bS bA p.1 p.2)).length<=_;rw [dN];omega
section
variable {X:Cx}{ag:List (Addr×Obj)}{σ:St}{H:Hp}{s:Shared}
abbrev Oe (K:a9)(H:Hp)(t:Addr)(kv:List aS×V):Prop:=∃b,aQ K H t [.ref b,kv.2]/\H b=some (.tup (kv.1.map kV))
theorem uq (I:Inv X ag σ H s):∀{ts:List Addr}{kvs:List (List aS×V)}{aU:List Value},Paired (Oe X.K H) ts kvs->a_ (ts.map V.ref) aU ->
  ∃vs:List (List aS×Addr×Value),KT H kvs vs/\Paired (λu kv=>lG X.prog X.w s.heap u kv) aU vs
 | [],_,_,.nil,r=>by
  rw [jG] at r;cases r;exact⟨[],.nil,.nil⟩
 | t::ts,kv::kvs,_,.cons h p,r=>by
  rw [cu] at r;cases r with
  | cons r1 r2 =>
   obtain⟨vs,e1,e2⟩:=uq I p r2;obtain⟨b,h0,hb⟩:=h;obtain⟨aU,rv,⟨o,h1,h2,n,h3⟩,_⟩:=I.tuple h0;obtain⟨u1,u2,rfl,q1,q2⟩:=vals2 rv;cases (show u1=Value.ref b from q1);exact⟨(kv.1,b,u2)::vs,.cons ⟨rfl,hb,q2⟩ e1,.cons ⟨t,n,o,r1,mE I.b8 hb,h1,h2,h3⟩ e2⟩
def yg (hc:X.calm=true)(hu:X.A.units+2 < cLine):il X (.type "dict") (λxs H Q=>∃a ts kvs,xs=[.ref a]/\H a=some (.lst (ts.map V.ref))/\Paired (Oe X.K H) ts kvs/\∀d,H d=none->Q (.ref d) (upd H d (.dT (ou kvs [])))):=by
 intro ag s σ H xs us Q I r h;obtain⟨a,ts,kvs,rfl,e,p,q⟩:=h;obtain⟨u,rfl,rx⟩:=vals1 r;cases (show u=Value.ref a from rx);obtain⟨z,aU,n,rv,ho⟩:=(show cH X.prog X.w H s.heap a (.lst _) from I.b8 a _ e);obtain⟨vs,r1,r2⟩:=uq I p rv;have l1:=aY r2;have l2:=aY r1;have l3:=aY p;rw [au] at z;refine qy (I.ok.hd hc) hu ho (by simpa using l1) (λm kv em=>?_) ∅ λh' t' hd kk=>?_
 .obtain⟨u,e1,e2⟩:=Paired.at_ r2 m kv em;exact⟨u,by simpa using e1,e2⟩
 have fr:=I.b8.fresh (aH s.heap.objs.size);have new:cH X.prog X.w (upd H s.heap.objs.size (.dT (ou kvs []))) h' s.heap.objs.size (.dT (ou kvs [])):=by
  obtain⟨o,es,ep,hq,h2,h3,h4,_,h5⟩:=hd;refine⟨?_,?_,_,(uF r1 .nil).keeps λc ys ec=>?_,o,es,ep,hq,h2,h3,h4,h5⟩
  .have:=uG kvs [];simp at this;omega
  .have:=I.big;exact j4.mpr (ff this)
  rw [aj (ay ec fr)];exact ec
 exact⟨.ref s.heap.objs.size,_,I.laid (t':=t') kk (aH _) new,rfl,q _ fr⟩
end
open PySem M11
def Dp {K:a9}{H:Hp}{bg D:Addr}{ts:List Addr}{cM:List Be}{σ:St}{x1 x2 x3 x4:Str}{Qp:Hp->Prop}(hb:aI K H bg (ts.map V.ref))(NV:Paired (λt (b:Be)=>aQ K H t [.str b.1,.str b.2.1,.int (b.2.2.1:Int),.int (b.2.2.2:Int)]) ts cM)(br:cM.length<=900000)(hD:H D=none)
  (q:∀us H2,aC H H2->H2 D=some (.lst (us.map V.ref))->Paired (λu (b:Be)=>∃v,Oe K H2 u ([Sum.inr b.1,Sum.inr b.2.1],.ref v)) us cM->Qp H2) :
  ∃W:Nat->Nat->List V->St->Hp->Prop,(∃m,W 0 m [] (eU [x1,x2,x3,x4] [] σ) (upd H D (.lst []))) /\
 ∀i m ys σ' H,W i m ys σ' H->((j_ K bg).stop i H/\Qp H)\/((j_ K bg).go i H/\∃m',m' < m/\∀x H',(j_ K bg).m_ i H x H'->An K 4 (jB (dQ 0) (jB (dQ 1) (jB (dQ 2) (jB (dQ 3) C0)))) x σ' H' λσ2 H2=>ix σ2 H2 λb H3 =>
  if b=true then tQ (gE (tQ (gE (gX 0) (gE (gX 1) rC))) (gE (tQ (gE (gX 2) (gE (gX 3) rC))) rC)) σ2 H3 λy H4=>H4 D=some (.lst ys)/\ys.length < sizeLine/\W (i+1) m' (ys++[y]) σ2 (upd H4 D (.lst (ys++[y]))) else W (i+1) m' ys σ2 H3):=by
 have ll:=aY NV;refine cE (xs:=ts.map V.ref) (λi ys σ2 H2=>∃us:List Addr,ys=us.map V.ref/\us.length=i/\Paired (λu (b:Be)=>∃v,Oe K H2 u ([Sum.inr b.1,Sum.inr b.2.1],.ref v)) us (cM.take i)/\(∃y0 y1 y2 y3,σ2=[y0,y1,y2,y3])/\aC H H2/\H2 D=some (.lst ys))
  ⟨[],rfl,rfl,.nil,⟨none,none,none,none,rfl⟩,af hD _,ae⟩ (λi ys σ2 H2 _ h=>?_) (λi x ys σ2 H2 ex h=>?_) (λys σ2 H2 h=>?_)
 .obtain⟨_,_,_,_,_,sm,_⟩:=h;exact sm.seq hb
 .obtain⟨us,rfl,hu,hp,⟨y0,y1,y2,y3,rfl⟩,sm,hd⟩:=h;rw [bh] at ex;obtain⟨r,er,rfl⟩:=cq.mp ex;have lr:=(bq.mp er).1;obtain⟨b,e1⟩:∃b,cM[i]?=some b:=⟨cM[i]'∅,cf ∅⟩;obtain⟨r',QL,v1⟩:=Paired.at_ NV i b e1;rw [er] at QL;cases QL;have li:=(bq.mp e1).1;refine⟨r,_,rfl,sm.tup v1,rfl,_,_,rfl,_,_,rfl,_,_,rfl,_,_,rfl,rfl,?_⟩;refine yB ?_;refine⟨_,rfl,_,rfl,kc,λk hk=>⟨_,rfl,_,rfl,kc,λv hv=>⟨kc,λu tU=>?_⟩⟩⟩;have s3:=(af hk (.tup [V.str b.1,V.str b.2.1])).trans ((af hv (.tup [V.int (b.2.2.1:Int),V.int (b.2.2.2:Int)])).trans (af tU (.tup [.ref k,.ref v])));have ek:=((af hv (.tup [V.int (b.2.2.1:Int),V.int (b.2.2.2:Int)])).trans (af tU (.tup [.ref k,.ref v]))) k _ ae;have eu:aQ K (upd (upd (upd H2 k (.tup [V.str b.1,V.str b.2.1])) v (.tup [V.int (b.2.2.1:Int),V.int (b.2.2.2:Int)])) u (.tup [.ref k,.ref v])) u [.ref k,.ref v]:=aQ.of ae;generalize upd (upd (upd H2 k (.tup [V.str b.1,V.str b.2.1])) v (.tup [V.int (b.2.2.1:Int),V.int (b.2.2.2:Int)])) u (.tup [.ref k,.ref v])=H4 at s3 ek eu;have DP:=s3 _ _ hd;refine⟨DP,bL (by rw [au];omega),us++[u],by rw [bG];rfl,by rw [bM,hu];rfl,?_,⟨_,_,_,_,rfl⟩,?_,ae⟩
  .rw [cS,e1];have kD:k≠D:=λz=>by rw [z,DP] at ek;cases ek
   refine gR (Paired.dJ hp λu' b' bz=>?_) ⟨v,k,aT DP eu,by rw [aj kD];exact ek⟩;obtain⟨v',bb,p1,p2⟩:=bz;exact⟨v',bb,aT DP (s3.tup p1),by rw [aj (λz=>by rw [z,hd] at p2;cases p2)];exact s3 _ _ p2⟩
  intro c o hc;rw [aj (λz=>by rw [z,hD] at hc;cases hc)];exact s3 _ _ (sm c o hc)
 obtain⟨us,rfl,hu,hp,_,sm,hd⟩:=h;rw [au,ll,cR] at hp;exact q us H2 sm hd hp
theorem E3 {K:a9}{H:Hp}:∀{us:List Addr}{cM:List Be},Paired (λu (b:Be)=>∃v,Oe K H u ([Sum.inr b.1,Sum.inr b.2.1],.ref v)) us cM->∃kvs,Paired (Oe K H) us kvs
 | _,_,.nil=>⟨[],.nil⟩
 | _,_,.cons ⟨v,h⟩ t=>let ⟨kvs,p⟩:=E3 t;⟨_::kvs,.cons h p⟩
end L2
namespace gL
open PySem L2 M11
def Tab.s2 {T T1 T2:Addr}{p p1 p2:Pos}{q q1 q2:Str}{H H':Hp}(h:Tab T p q H)(s:l7 T1 T2 H H')(t1:Tab T1 p1 q1 H)(t2:Tab T2 p2 q2 H)(n1:T≠T1)(n2:T≠T2):Tab T p q H':=by
 obtain⟨ps,a,b,c⟩:=h;obtain⟨RJ,b1,_⟩:=t1;obtain⟨X1,b2,_⟩:=t2;refine⟨ps,s _ _ n1 n2 a,b,c.imp id ?_⟩;rintro⟨c',e,g⟩;exact⟨c',e,s _ _ (λz=>by rw [z,b1] at g;cases g) (λz=>by rw [z,b2] at g;cases g) g⟩
def kP {T a C dx:Addr}{pos:Pos}{qu:Str}{H:Hp}{fs:List (Str×V)}{o:HO}(h:Tab T pos qu H)(ha:H a=some (.ins C dx fs)):Tab T pos qu (upd H a o):=by
 obtain⟨ps,p,r,c⟩:=h;refine⟨ps,by rw [aj (λz=>by rw [z,ha] at p;cases p)];exact p,r,c.imp id ?_⟩;rintro⟨c',e,g⟩;exact⟨c',e,by rw [aj (λz=>by rw [z,ha] at g;cases g)];exact g⟩
def Kp (H H':Hp):Prop:=∀b o,H b=some o->(∀ps,o≠.tM ps)->H' b=some o
def Kp.trans {H H1 H2:Hp}(a:Kp H H1)(b:Kp H1 H2):Kp H H2:=λc o h n=>b c o (a c o h n) n
def Kp.of {H H':Hp}(s:aC H H'):Kp H H':=λb o h _=>s b o h
def Kp.of2 {T1 T2:Addr}{p1 p2:Pos}{q1 q2:Str}{H H':Hp}(s:l7 T1 T2 H H')(t1:Tab T1 p1 q1 H)(t2:Tab T2 p2 q2 H):Kp H H':=λc o hc hn=>by
 obtain⟨RJ,b1,_⟩:=t1;obtain⟨X1,b2,_⟩:=t2;exact s c o (λz=>by rw [z,b1] at hc;cases hc;exact hn _ rfl) (λz=>by rw [z,b2] at hc;cases hc;exact hn _ rfl) hc
section
theorem Kp.lst {H H':Hp}(k:Kp H H'){a:Addr}{xs:List V}(h:H a=some (.lst xs)):H' a=some (.lst xs):=k a _ h (λ_ z=>by cases z)
def Kp.tup {H H':Hp}(k:Kp H H'){a:Addr}{xs:List V}(h:aQ K H a xs):aQ K H' a xs:=by
 rcases h with (h | ⟨u,h⟩) | h
 .exact .inl (.inl (k _ _ h (λ_ z=>by cases z)))
 .exact .inl (.inr ⟨u,k _ _ h (λ_ z=>by cases z)⟩)
 exact .inr h
def Kp.seq {H H':Hp}(k:Kp H H'){a:Addr}{xs:List V}(h:aI K H a xs):aI K H' a xs:=by
 rcases h with (h | ⟨u,h⟩) | h
 .exact .inl (.inl (k _ _ h (λ_ z=>by cases z)))
 .exact .inl (.inr ⟨u,k _ _ h (λ_ z=>by cases z)⟩)
 exact .inr h
theorem Kp.aa {H H':Hp}(k:Kp H H'){rs:List Addr}{aa:List aw}(h:bI K H rs aa):bI K H' rs aa:=h.keep λ_ _ z=>k.tup z
abbrev zo:Stmt:=Px sLT 0
structure LC (K:a9)(C:Addr):Prop where
 cls:DF K C
 a1:d5 K C "rules"
 a2:d5 K C "empty"
 a3:d5 K C "least"
 a4:d5 K C "hollow"
 a5:d5 K C "beginnings"
structure DX (C3 T1 T3:Addr)(H0 H:Hp)(a dx:Addr)(fs:List (Str×V)):Prop where
 sm:l7 T1 T3 H0 H
 ia:H a=some (.ins C3 dx fs)
 fa:H0 a=none
 t1:Tab T1 sf.2.2.2 yw H
 t3:Tab T3 posB Hm H
 o1:Tab T1 sf.2.2.2 yw H0
 o3:Tab T3 posB Hm H0
def DX.kp {C3 T1 T3 a dx:Addr}{H0 H:Hp}{fs:List (Str×V)}(h:DX C3 T1 T3 H0 H a dx fs):Kp H0 H:=Kp.of2 h.sm h.o1 h.o3
def DX.set {C3 T1 T3 a dx:Addr}{H0 H:Hp}{fs:List (Str×V)}(h:DX C3 T1 T3 H0 H a dx fs)(HH:List (Str×V)):DX C3 T1 T3 H0 (upd H a (.ins C3 dx HH)) a dx HH :=
 ⟨λb o n1 n3 hb=>by rw [aj (λz=>by rw [z,h.fa] at hb;cases hb)];exact h.sm b o n1 n3 hb,ae,h.fa,kP h.t1 h.ia,kP h.t3 h.ia,h.o1,h.o3⟩
def DX.next {C3 T1 T3 a dx:Addr}{H0 H H':Hp}{fs:List (Str×V)}(h:DX C3 T1 T3 H0 H a dx fs)(s:aC H H'):DX C3 T1 T3 H0 H' a dx fs :=
 ⟨λb o n1 n3 hb=>s _ _ (h.sm b o n1 n3 hb),s _ _ h.ia,h.fa,h.t1.same s,h.t3.same s,h.o1,h.o3⟩
def DX.Po {C3 T1 T3 a dx:Addr}{H0 H H':Hp}{fs:List (Str×V)}(h:DX C3 T1 T3 H0 H a dx fs)(s:l7 T1 T3 H H')(t1:Tab T1 sf.2.2.2 yw H')(t3:Tab T3 posB Hm H'):DX C3 T1 T3 H0 H' a dx fs :=
 ⟨λb o n1 n3 hb=>s _ _ n1 n3 (h.sm b o n1 n3 hb),Kp.of2 s h.t1 h.t3 _ _ h.ia (λ_ z=>by cases z),h.fa,t1,t3,h.o1,h.o3⟩
def Bd (K:a9)(C C3 T1 T3:Addr):Sp:=λvs H Q _=>∃(H0 Hb:Hp)(a dx R x e d bg:Addr)(rs:List Addr)(aa:List aw)(kE:List (aS×V))(bC:List (Str×Nat))(ps:List (Str×Addr))(cM:List Be),vs=[.ref a,.ref R,.ref x]/\aC H0 H/\H0 a=none/\H a=some (.ins C3 dx [])/\aI K H0 R (rs.map V.ref)/\bI K H0 rs aa /\
 aa.length < 64/\(∀ru∈aa,ru.2.length<=8)/\(∀g,eJ M11.bl aa (yC aa) g->i_ M11.bl aa g->∀h∈hd aa,∃n,g h=some n/\n<=60)/\ua K C Hb H0 x e d bg kE bC ps cM/\wI aa bC/\cM.length<=80000/\Tab T1 sf.2.2.2 yw H0/\Tab T3 posB Hm H0/\T1≠T3 /\
 ∀H',l7 T1 T3 H0 H'->Tab T1 sf.2.2.2 yw H'->Tab T3 posB Hm H'->Q .d7 H'
def Ij:aK ["self","rules","begin_table"] ["self","rules","begin_table"] (av zo):=ir rfl rfl rfl rfl nofun
def Ft {C C3 T1 T3:Addr}(F:g_ K "__init__" "LeastTrees.__init__" zo f fd)(T:Txt mg)(B:BC K C)(L:LC K C3)(GL:aB P w K mg base 4 "least_by_part" ["rules"] (o_ K T1 T3))(GE:aB P w K mg base 4 "empty_by_name" ["rules","empties"] (uj K)) :
  bO P w K mg base fk 5 f fd ["self","rules","begin_table"] (Bd K C C3 T1 T3):=by
 refine F.ok Ij (λvs H Q E h=>?_) (λdW A outer s H vs Q E hr h=>?_)
 .obtain⟨H0,Hb,a,dx,R,x,e,d,bg,rs,aa,kE,bC,ps,cM,rfl,_⟩:=h;rfl
 obtain⟨H0,Hb,a,dx,R,x,e,d,bg,rs,aa,kE,bC,ps,cM,rfl,s0,f0,ea,hR,b_,br,h8,Gf,S,emp,Mf,t1,t3,nT,q⟩:=h;have hu:=pY (rm (by decide:2<=64) _) hr.units;refine⟨_,ai (gH (pv 0) (pv 1) rfl)
  (ai (gH (pv 0) (fc (pv 2) rfl) rfl)
  (ai (gH (pv 0) (a8 GL hr rfl (ab (pv 1) ah)) rfl)
  (ai (gH (pv 0) (a8 GE hr rfl (ab (pv 1) (ab (fc (pv 2) rfl) ah))) rfl)
  (ak (gH (pv 0) (bE (yg rfl hu) rfl T.yG eZ (ab (bF ["name","word","number","place"] [] rfl (aZ (fc (pv 2) rfl)) (bp rfl rfl) nofun rfl nofun
   (λ_ _ _ _ _=>fJ (n:=4) K rfl (aE (aq (i:=0) (show (["name","word","number","place"]:List Str).Nodup by decide +kernel) rfl (bx rfl)) (aE (aq (i:=1) (show (["name","word","number","place"]:List Str).Nodup by decide +kernel) rfl (bx rfl)) (aE (aq (i:=2) (show (["name","word","number","place"]:List Str).Nodup by decide +kernel) rfl (bx rfl)) (aE (aq (i:=3) (show (["name","word","number","place"]:List Str).Nodup by decide +kernel) rfl (bx rfl)) b9))))) (λ_ _ _ _ _=>bY)
   (λ_ _ _ _ _=>bD (ab (bD (ab (pv 0) (ab (pv 1) ah))) (ab (bD (ab (pv 2) (ab (pv 3) ah))) ah)))) ah)) rfl))))),?_⟩
 nofun
 have S0:DX C3 T1 T3 H0 H a dx []:=⟨λb o _ _ hb=>s0 b o hb,ea,f0,t1.same s0,t3.same s0,t1,t3⟩;obtain⟨e1,te,⟨Oa,NY,Sj,leb⟩,ee1,evb,_⟩:=S.em;obtain⟨aap,aam,QI,l1,l2,_⟩:=S.ia;rw [Sj] at QI;cases QI;obtain⟨tb,ebg,NV⟩:=S.lb;have lets:=emp.len;refine⟨_,rfl,_,rfl,a,C3,dx,[],rfl,S0.ia,L.cls,L.a1,(by show 0 < 1000;decide),?_⟩;have S1:=S0.set (dX "rules" (.ref R) []);generalize RY:dX "rules" (.ref R) []=Sg at S1;generalize upd H a (.ins C3 dx Sg)=H1 at S1;have x1:H1 x=some (.ins C Oa NY):=S1.kp _ _ Sj (λ_ z=>by cases z);refine⟨_,rfl,x,C,Oa,NY,_,rfl,x1,B.cls,B.a2,l1,_,rfl,a,C3,dx,Sg,rfl,S1.ia,L.cls,L.a2,(by rw [<-RY];show 1 < 1000;decide),?_⟩;have S2:=S1.set (dX "empty" (.ref e) Sg);generalize Qk:dX "empty" (.ref e) Sg=tW at S2;generalize upd H1 a (.ins C3 dx tW)=H2 at S2;refine⟨_,rfl,R,rs,aa,rfl,S2.kp.seq hR,S2.kp.aa b_,br,h8,Gf,S2.t1,S2.t3,nT,λdl kl H3 fdl s3 yt t33 edl kdl=>?_⟩;have S3:=S2.Po s3 yt t33;refine⟨_,rfl,a,C3,dx,tW,rfl,S3.ia,L.cls,L.a3,(by rw [<-Qk,<-RY];show 2 < 1000;decide),?_⟩;have S4:=S3.set (dX "least" (.ref dl) tW);generalize Y6:dX "least" (.ref dl) tW=NZ at S4;generalize upd H3 a (.ins C3 dx NZ)=H4 at S4;have x4:H4 x=some (.ins C Oa NY):=S4.kp _ _ Sj (λ_ z=>by cases z);refine⟨_,rfl,_,rfl,x,C,Oa,NY,_,rfl,x4,B.cls,B.a1,leb,R,e1,rs,te,aa,bC,rfl,S4.kp.seq hR,S4.kp.aa b_,∅,h8,aI.of (S4.kp.lst ee1),evb.keep λ_ _ z=>S4.kp.tup z,emp,∅,λdh kh H5 fdh s5 edh kdh=>?_⟩;have S5:=S4.next s5;refine⟨_,rfl,a,C3,dx,NZ,rfl,S5.ia,L.cls,L.a4,(by rw [<-Y6,<-Qk,<-RY];show 3 < 1000;decide),?_⟩;have S6:=S5.set (dX "hollow" (.ref dh) NZ);generalize hf6:dX "hollow" (.ref dh) NZ=yD at S6;generalize upd H5 a (.ins C3 dx yD)=H6 at S6;have x6:H6 x=some (.ins C Oa NY):=S6.kp _ _ Sj (λ_ z=>by cases z);have b6:=S6.kp.lst ebg;have v6:Paired (λt (b:Be)=>aQ K H6 t [.str b.1,.str b.2.1,.int (b.2.2.1:Int),.int (b.2.2.2:Int)]) tb cM:=Paired.dJ NV λ_ _ z=>S6.kp.tup z;refine⟨_,rfl,x,C,Oa,NY,_,rfl,x6,B.cls,B.a3,l2,bg,rfl,⟨_,aI.of b6⟩,λD7 QA=>Dp (aI.of b6) v6 ∅ QA λus H7 s7 e7 p7=>?_⟩;obtain⟨kvs,pk⟩:=E3 p7;refine⟨D7,us,kvs,rfl,e7,pk,λdb CV=>?_⟩;have S8:=(S6.next s7).next (af CV (.dT (ou kvs [])));refine⟨_,rfl,a,C3,dx,yD,rfl,S8.ia,L.cls,L.a5,(by rw [<-hf6,<-Y6,<-Qk,<-RY];show 4 < 1000;decide),?_⟩;have S9:=S8.set (dX "beginnings" (.ref db) yD);exact q _ S9.sm S9.t1 S9.t3
structure Hg (K:a9)(x qual:Str)(st:Stmt)(f:Addr)(fd:FuncData):Prop where
 ex:∃(oc:Value)(od:Option Addr)(kV doc pm:Value)(an:Option Addr)(dW ct:Value)(xu:Array (Option Value))(T:Addr)(o:Obj) (n:Nat),
  fd=PySem.W.fnOf x qual (dF st) (cx st) (av st) (.ref T) kV doc pm an dW ct/\K.lookup f=some ⟨oc,od,.func fd,xu⟩/\PySem.W.codeIn K dW qual=true/\K.lookup T=some o/\o.data=.seq #[.none] n
 kp:PySem.W.keepIn K (.ref f)=true
def Hg.ok {x qual:Str}{st:Stmt}{f:Addr}{fd:FuncData}{N ps:List Str}{k:Nat}{sp:Sp}(F:Hg K x qual st f fd)(S:aK N ps (av st))(len:∀vs H Q E,sp vs H Q E->vs.length=ps.length)
  (jA:∀(dW:Value)(A:Around)(outer:List Env)(s:Shared)(H:Hp)(vs:List V)(Q:VK)(E:XK),fj k (A.deeper (PyProof.Rows.envOfC qual (av st) s.heap.objs.size f dW))->sp vs H Q E ->
   ∃t,AJ (pQ fk P w K mg base N qual (av st) f dW A outer s H E).CB (cx st) t/\t { nx:=λ_ H'=>Q .d7 H',rt:=Q } (start N vs) H):bO P w K mg base fk (k+1) f fd ps sp:=by
 obtain⟨oc,od,kV,doc,pm,an,dW,ct,xu,T,o,n,rfl,lk,wk,_⟩:=F.ex;refine Gs lk wk S len λA outer s H vs Q E hr yy=>?_;obtain⟨t,h,q⟩:=jA dW A outer s H vs Q E hr yy;exact⟨t,h.CB,q⟩
def Gm {f:Addr}{fd:FuncData}(F:Hg K "__init__" "Grammar.__init__" vN f fd):Binds K fd ["self","rules","strengths"] [.none]:=by
 obtain⟨oc,od,kV,doc,pm,an,dW,ct,xu,T,o,n,rfl,lk,wk,lT,dT⟩:=F.ex;intro s us KI hl;have tV:us.length=2:=by
  have:(us++[Value.none]).length=3:=hl;rw [bM] at this;exact Nat.succ.inj this
 match us,tV with
 | [u1,u2],_=>exact BindsTo.of_defaults rfl (KI T o lT) dT rfl rfl
structure GC (K:a9)(C:Addr):Prop where
 cls:DF K C
 a1:d5 K C "rules"
 a2:d5 K C "strengths"
 a3:d5 K C "begin_table"
 a4:d5 K C "standings"
 a5:d5 K C "small_trees"
def StrIn (K:a9)(H:Hp)(sv:V)(ss:List Addr)(str:List aw):Prop:=(sv=.d7/\ss=[]/\str=[])\/∃S,sv=.ref S/\aI K H S (ss.map V.ref)/\bI K H ss str
def GrV (H0 H:Hp)(Cg g:Addr)(rs ss:List Addr)(bt:Addr):Prop:=∃gx fs R2 S2,H g=some (.ins Cg gx fs)/\fs.lookup ("rules":Str)=some (.ref R2)/\fs.lookup ("strengths":Str)=some (.ref S2)/\fs.lookup ("begin_table":Str)=some (.ref bt)/\fs.lookup ("start":Str)=none /\
 H R2=some (.lst (rs.map V.ref))/\H S2=some (.lst (ss.map V.ref))/\H0 R2=none/\H0 S2=none
def qk (T1 T2 T3:Addr)(H H':Hp):Prop:=∀b o,b≠T1->b≠T2->b≠T3->H b=some o->H' b=some o
structure BY (T1 T2 T3:Addr)(H:Hp):Prop where
 t1:Tab T1 sf.2.2.2 yw H
 t2:Tab T2 Aa.2.2.2 Kc H
 t3:Tab T3 posB Hm H
 J_:T1≠T2
 J3:T1≠T3
 J2:T2≠T3
theorem BY.same {T1 T2 T3:Addr}{H H':Hp}(h:BY T1 T2 T3 H)(s:aC H H'):BY T1 T2 T3 H':=⟨h.t1.same s,h.t2.same s,h.t3.same s,h.J_,h.J3,h.J2⟩
def BY.Ed {T1 T2 T3 a C dx:Addr}{H:Hp}{fs:List (Str×V)}{o:HO}(h:BY T1 T2 T3 H)(ha:H a=some (.ins C dx fs)):BY T1 T2 T3 (upd H a o):=⟨kP h.t1 ha,kP h.t2 ha,kP h.t3 ha,h.J_,h.J3,h.J2⟩
def Kp.of3 {T1 T2 T3:Addr}{H H':Hp}(s:qk T1 T2 T3 H H')(t:BY T1 T2 T3 H):Kp H H':=λc o hc hn=>by
 obtain⟨RJ,b1,_⟩:=t.t1;obtain⟨X1,b2,_⟩:=t.t2;obtain⟨ps3,b3,_⟩:=t.t3;exact s c o (λz=>by rw [z,b1] at hc;cases hc;exact hn _ rfl) (λz=>by rw [z,b2] at hc;cases hc;exact hn _ rfl) (λz=>by rw [z,b3] at hc;cases hc;exact hn _ rfl) hc
def Bf (K:a9)(Cg C T1 T2 T3:Addr):Sp:=λvs H Q _=>∃(H0:Hp)(g gx R:Addr)(sv:V)(rs ss:List Addr)(aa str:List aw)(rk:Str->Nat)(b:Str->Int),vs=[.ref g,.ref R,sv]/\aC H0 H/\H0 g=none/\H g=some (.ins Cg gx [])/\aI K H0 R (rs.map V.ref)/\bI K H0 rs aa/\aa.length < 64/\(∀ru∈aa,ru.2.length<=8)/\aa≠[] /\
 StrIn K H0 sv ss str/\str.length<=1000/\(∀ru∈str,ru.2.length<=8)/\(str.flatMap (·.2)).Nodup/\Good aa rk b/\BY T1 T2 T3 H0 /\
 ∀(bt:Addr)(H':Hp),qk T1 T2 T3 H0 H'->BY T1 T2 T3 H'->GrV H0 H' Cg g rs ss bt->Q .d7 H'
def ua.Ed {C:Addr}{H0 H:Hp}{a e d bg:Addr}{kE:List (aS×V)}{bC:List (Str×Nat)}{ps:List (Str×Addr)}{cM:List Be}{g Cg gx:Addr}{fs HH:List (Str×V)}(h:ua K C H0 H a e d bg kE bC ps cM)(hg:H0 g=some (.ins Cg gx fs))(na:a≠g) :
  ua K C (upd H0 g (.ins Cg gx HH)) (upd H g (.ins Cg gx HH)) a e d bg kE bC ps cM:=by
 have Je:=h.sm _ _ hg;have up:∀c o,c≠g->H c=some o->upd H g (.ins Cg gx HH) c=some o:=λc o n q=>by rw [aj n];exact q
 refine⟨λc o hc=>?_,?_,up _ _ (λz=>by have:=h.he;rw [z,Je] at this;cases this) h.he,up _ _ (λz=>by have:=h.hd;rw [z,Je] at this;cases this) h.hd,h.n1,h.n2,λp hp=>?_,?_,?_,?_⟩
 .by_cases z:c=g
  .rw [z,ae] at hc ⊢;exact hc
  rw [aj z] at hc ⊢;exact h.sm _ _ hc
 .obtain⟨dx,fs,q,r⟩:=h.ia;exact⟨dx,fs,up _ _ na q,r⟩
 .obtain⟨⟨kvs,q,r⟩,t1,t2⟩:=h.dk p hp;exact⟨⟨kvs,up _ _ (λz=>by rw [z,Je] at q;cases q) q,r⟩,by rw [aj (λz=>by rw [z,hg] at t1;cases t1)];exact t1,t2⟩
 .obtain⟨ts,q,r⟩:=h.lb;exact⟨ts,up _ _ (λz=>by rw [z,Je] at q;cases q) q,Paired.dJ r λ_ _ z=>ic Je z⟩
 .have t1:=h.fb;rw [aj (λz=>by rw [z,hg] at t1;cases t1)];exact t1
 obtain⟨e1,ts,⟨dx,fs,q1,q2⟩,q3,q4,q5⟩:=h.em;exact⟨e1,ts,⟨dx,fs,up _ _ na q1,q2⟩,up _ _ (λz=>by rw [z,Je] at q3;cases q3) q3,q4.keep λ_ _ z=>ic Je z,q5⟩
def Im:aK ["self","rules","strengths"] ["self","rules","strengths"] (av vN):=ir rfl rfl rfl rfl nofun
def Fx {Cg C C3 T1 T2 T3 fB fL:Addr}{Zn Zk:FuncData}(F:Hg K "__init__" "Grammar.__init__" vN f fd)(T:Txt mg)(G:GC K Cg)(GR:aB P w K mg base 6 "refuse_faults" ["rules","strengths"] (rJ K T1 T2))(GS:aB P w K mg base 6 "standings_by_part" ["rules"] (JM K))
  (FB:bO P w K mg base fk 5 fB Zn ["self","rules"] (Bj K C))(MB:Mk K C fB)(BB:Binds K Zn ["self","rules"] [])(mB:mg "BeginTable"=some (.ref C))
  (FL:bO P w K mg base fk 5 fL Zk ["self","rules","begin_table"] (Bd K C C3 T1 T3))(ML:Mk K C3 fL)(BL:Binds K Zk ["self","rules","begin_table"] [])(mL:mg "LeastTrees"=some (.ref C3)):bO P w K mg base fk 7 f fd ["self","rules","strengths"] (Bf K Cg C T1 T2 T3):=by
 refine F.ok Im (λvs H Q E h=>?_) (λdW A outer s H vs Q E hr h=>?_)
 .obtain⟨H0,g,gx,R,sv,rs,ss,aa,str,rk,b,rfl,_⟩:=h;rfl
 obtain⟨H0,g,gx,R,sv,rs,ss,aa,str,rk,b,rfl,s0,f0,eg,hR,b_,br,h8,DO,yx,U7,Vd,Vc,gd,VM,q⟩:=h;refine⟨_,ai (gH (pv 0) (bE iD rfl T.lst iU (ab (pv 1) ah)) rfl)
  (ai (nO (gH (pv 0) (rW (cZ (rX (pv 2))) (bc ah) (bE iD rfl T.lst iU (ab (pv 2) ah))) rfl))
  (ai (bX (a8 GR hr rfl (ab (fc (pv 0) rfl) (ab (fc (pv 0) rfl) ah))))
  (ai (gH (pv 0) (a8 GS hr rfl (ab (fc (pv 0) rfl) ah)) rfl)
  (ai (gH (pv 0) (vV MB FB hr rfl mB BB .nil uo (ab (fc (pv 0) rfl) ah)) rfl)
  (ak (gH (pv 0) (vV ML FL hr rfl mL BL .nil uo (ab (fc (pv 0) rfl) (ab (fc (pv 0) rfl) ah))) rfl)))))),?_⟩
 nofun
 refine⟨_,rfl,R,_,rfl,.inl (s0.seq hR),λR2 Hz=>?_⟩;have Wk:=af Hz (.lst (rs.map V.ref)) _ _ eg;have sQ:upd H R2 (.lst (rs.map V.ref)) R2=some (.lst (rs.map V.ref)):=ae;have XU:=s0.trans (af Hz (.lst (rs.map V.ref)));generalize upd H R2 (.lst (rs.map V.ref))=H1 at Wk sQ XU;refine⟨_,rfl,g,Cg,gx,[],rfl,Wk,G.cls,G.a1,(by show 0 < 1000;decide),?_⟩;generalize n_:dX "rules" (.ref R2) []=tW;have Jk:upd H1 g (.ins Cg gx tW) R2=some (.lst (rs.map V.ref)):=by rw [aj (λz=>by rw [z,Wk] at sQ;cases sQ)];exact sQ
 have ER:aC H0 (upd H1 g (.ins Cg gx tW)):=λc o hc=>by rw [aj (λz=>by rw [z,f0] at hc;cases hc)];exact XU c o hc
 have Sn:upd H1 g (.ins Cg gx tW) g=some (.ins Cg gx tW):=ae;generalize upd H1 g (.ins Cg gx tW)=H2 at Jk ER Sn;refine⟨λσ H3=>σ=[aP g,aP R,some sv]/\∃S2 fs,aC H0 H3/\H3 g=some (.ins Cg gx fs)/\fs=dX "strengths" (.ref S2) tW/\H3 R2=some (.lst (rs.map V.ref))/\H3 S2=some (.lst (ss.map V.ref))/\H0 S2=none,?_,?_⟩
 .have fin:∀S2,H2 S2=none->(λH3=>∃S2 fs,aC H0 H3/\H3 g=some (.ins Cg gx fs)/\fs=dX "strengths" (.ref S2) tW/\H3 R2=some (.lst (rs.map V.ref))/\H3 S2=some (.lst (ss.map V.ref))/\H0 S2=none) (upd (upd H2 S2 (.lst (ss.map V.ref))) g (.ins Cg gx (dX "strengths" (.ref S2) tW)))/\upd H2 S2 (.lst (ss.map V.ref)) g=some (.ins Cg gx tW):=λS2 Gk=>by
   have sl:=af Gk (.lst (ss.map V.ref));have eS:upd H2 S2 (.lst (ss.map V.ref)) S2=some (.lst (ss.map V.ref)):=ae;have QQ:=sl _ _ Sn;refine⟨⟨S2,_,λc o hc=>?_,ae,rfl,?_,?_,ER.free Gk⟩,QQ⟩
   .rw [aj (λz=>by rw [z,f0] at hc;cases hc)];exact sl _ _ (ER c o hc)
   .rw [aj (λz=>by rw [z,Sn] at Jk;cases Jk)];exact sl _ _ Jk
   rw [aj (λz=>by rw [z,Sn] at Gk;cases Gk)];exact eS
  rcases yx with ⟨rfl,rfl,rfl⟩ | ⟨S,rfl,hS,RS⟩
  .refine⟨_,rfl,_,rfl,?_⟩;refine g7 ?_;refine⟨o7,λS2 Gk=>?_⟩;obtain⟨x1,x2⟩:=fin S2 Gk;exact⟨_,rfl,g,Cg,gx,tW,rfl,x2,G.cls,G.a2,(by rw [<-n_];show 1 < 1000;decide),rfl,x1⟩
  refine⟨_,rfl,_,rfl,?_⟩;refine df ?_;refine⟨_,rfl,S,_,rfl,.inl (ER.seq hS),λS2 Gk=>?_⟩;obtain⟨x1,x2⟩:=fin S2 Gk;exact⟨_,rfl,g,Cg,gx,tW,rfl,x2,G.cls,G.a2,(by rw [<-n_];show 1 < 1000;decide),rfl,x1⟩
 rintro σ H3 ⟨rfl,S2,HG,Cd,QQ,qt,Zv,Zt,fS2⟩;have Yq:HG.lookup ("rules":Str)=some (.ref R2):=by rw [qt,<-n_];rfl
 have Hn:HG.lookup ("strengths":Str)=some (.ref S2):=by rw [qt,<-n_];rfl
 have U_:bI K H3 ss str:=by
  rcases yx with ⟨_,rfl,rfl⟩ | ⟨S,_,_,RS⟩
  .exact .nil
  exact RS.same Cd
 have yt:=VM.same Cd;refine⟨_,rfl,g,Cg,gx,HG,_,rfl,QQ,G.cls,G.a1,Yq,_,rfl,g,Cg,gx,HG,_,rfl,QQ,G.cls,G.a2,Hn,R2,S2,rs,ss,aa,str,rk,b,rfl,aI.of Zv,b_.same Cd,∅,h8,DO,aI.of Zt,U_,U7,Vd,Vc,gd,yt.t1,yt.t2,yt.J_,λH4 RE XF XE=>?_⟩;have I9:=Kp.of2 RE yt.t1 yt.t2;have t4:BY T1 T2 T3 H4:=⟨XF,XE,Tab.s2 yt.t3 RE yt.t1 yt.t2 yt.J3.symm yt.J2.symm,yt.J_,yt.J3,yt.J2⟩;have S04:qk T1 T2 T3 H0 H4:=λc o n1 n2 _ hc=>RE c o n1 n2 (Cd c o hc);have ZC:=I9 _ _ QQ (λ_ z=>by cases z);have Zu:=I9.lst Zv;have es4:=I9.lst Zt;have Qa:bI K H4 rs aa:=I9.aa (b_.same Cd);clear XF XE RE yt;refine⟨_,rfl,g,Cg,gx,HG,_,rfl,ZC,G.cls,G.a1,Yq,R2,rs,aa,rfl,aI.of Zu,Qa,∅,h8,λds H5 fds xj=>?_⟩;have N6:=xj _ _ ZC;have er5:=xj _ _ Zu;have es5:=xj _ _ es4;have Vg:=Qa.same xj;have t5:=t4.same xj;have S05:qk T1 T2 T3 H0 H5:=λc o n1 n2 n3 hc=>xj _ _ (S04 c o n1 n2 n3 hc);refine⟨_,rfl,g,Cg,gx,HG,rfl,N6,G.cls,G.a4,(by rw [qt,<-n_];show 2 < 1000;decide),?_⟩;generalize wg:dX "standings" (.ref ds) HG=yD;have Ui:∀{Hx:Hp}{fx fy:List (Str×V)},Hx g=some (.ins Cg gx fx)->qk T1 T2 T3 H0 Hx->qk T1 T2 T3 H0 (upd Hx g (.ins Cg gx fy)):=λ{Hx fx fy} hg hs c o n1 n2 n3 hc=>by
  rw [aj (λz=>by rw [z,f0] at hc;cases hc)];exact hs c o n1 n2 n3 hc
 have NM:∀{Hx:Hp}{fx fy:List (Str×V)}{b:Addr}{xs:List V},Hx g=some (.ins Cg gx fx)->Hx b=some (.lst xs)->upd Hx g (.ins Cg gx fy) b=some (.lst xs):=λ{Hx fx fy b xs} hg hb=>by
  rw [aj (λz=>by rw [z,hg] at hb;cases hb)];exact hb
 have S06:=Ui (fy:=yD) N6 S05;have Wg:=NM (fy:=yD) N6 er5;have Zs:=NM (fy:=yD) N6 es5;have CP:bI K (upd H5 g (.ins Cg gx yD)) rs aa:=Vg.keep λ_ _ z=>ic N6 z;have t6:BY T1 T2 T3 (upd H5 g (.ins Cg gx yD)):=t5.Ed N6;have QP:upd H5 g (.ins Cg gx yD) g=some (.ins Cg gx yD):=ae;generalize upd H5 g (.ins Cg gx yD)=H6 at S06 Wg Zs CP t6 QP;have lk6:yD.lookup ("rules":Str)=some (.ref R2):=by rw [<-wg,qt,<-n_];rfl
 refine⟨_,rfl,g,Cg,gx,yD,_,rfl,QP,G.cls,G.a1,lk6,λx dx hx hdx ndx=>?_⟩;have sx:aC H6 (upd (upd H6 dx (.own x)) x (.ins C dx [])):=(af hdx _).trans (af (by rw [aj ndx.symm];exact hx) _);refine⟨H6,x,dx,R2,rs,aa,rfl,sx,hx,ae,aI.of Wg,CP,∅,h8,λe d bg kE bC ps cM H7 S7 m7 emp _ _ beg _=>⟨rfl,?_⟩⟩;have N5:=S7.sm _ _ QP;have er7:=S7.sm _ _ Wg;have es7:=S7.sm _ _ Zs;have t7:=t6.same S7.sm;have Vf:=CP.same S7.sm;have S07:qk T1 T2 T3 H0 H7:=λc o n1 n2 n3 hc=>S7.sm _ _ (S06 c o n1 n2 n3 hc);refine⟨_,rfl,g,Cg,gx,yD,rfl,N5,G.cls,G.a3,(by rw [<-wg,qt,<-n_];show 3 < 1000;decide),?_⟩;generalize Ai:dX "begin_table" (.ref x) yD=Aq;have S08:=Ui (fy:=Aq) N5 S07;have Wf:=NM (fy:=Aq) N5 er7;have Zr:=NM (fy:=Aq) N5 es7;have P_:bI K (upd H7 g (.ins Cg gx Aq)) rs aa:=Vf.keep λ_ _ z=>ic N5 z;have t8:BY T1 T2 T3 (upd H7 g (.ins Cg gx Aq)):=t7.Ed N5;have Sm:upd H7 g (.ins Cg gx Aq) g=some (.ins Cg gx Aq):=ae;have B8:ua K C (upd H6 g (.ins Cg gx Aq)) (upd H7 g (.ins Cg gx Aq)) x e d bg kE bC ps cM:=S7.Ed QP (λz=>by rw [z,QP] at hx;cases hx);generalize upd H7 g (.ins Cg gx Aq)=H8 at S08 Wf Zr P_ t8 Sm B8;have UE:Aq.lookup ("rules":Str)=some (.ref R2):=by rw [<-Ai,<-wg,qt,<-n_];rfl
 have lb8:Aq.lookup ("begin_table":Str)=some (.ref x):=by rw [<-Ai,<-wg,qt,<-n_];rfl
 refine⟨_,rfl,g,Cg,gx,Aq,_,rfl,Sm,G.cls,G.a1,UE,_,rfl,g,Cg,gx,Aq,_,rfl,Sm,G.cls,G.a3,lb8,λy dy hy hdy ndy=>?_⟩;have sy:aC H8 (upd (upd H8 dy (.own y)) y (.ins C3 dy [])):=(af hdy _).trans (af (by rw [aj ndy.symm];exact hy) _);have Mf:=beg.len ∅ h8;refine⟨H8,_,y,dy,R2,x,e,d,bg,rs,aa,kE,bC,ps,cM,rfl,sy,hy,ae,aI.of Wf,P_,br,h8,gd.least,B8,emp,Mf,t8.t1,t8.t3,t8.J3,λH9 TK Tx t39=>⟨rfl,?_⟩⟩;have Mh:=Kp.of2 TK t8.t1 t8.t3;have QO:=Mh _ _ Sm (λ_ z=>by cases z);have er9:=Mh.lst Wf;have es9:=Mh.lst Zr;have t9:BY T1 T2 T3 H9:=⟨Tx,Tab.s2 t8.t2 TK t8.t1 t8.t3 t8.J_.symm t8.J2,t39,t8.J_,t8.J3,t8.J2⟩;have S09:qk T1 T2 T3 H0 H9:=λc o n1 n2 n3 hc=>TK _ _ n1 n3 (S08 c o n1 n2 n3 hc);refine⟨_,rfl,g,Cg,gx,Aq,rfl,QO,G.cls,G.a5,(by rw [<-Ai,<-wg,qt,<-n_];show 4 < 1000;decide),?_⟩;refine q x _ (Ui QO S09) (t9.Ed QO) ⟨gx,_,R2,S2,ae,?_,?_,?_,?_,NM QO er9,NM QO es9,s0.free Hz,fS2⟩
 .rw [<-Ai,<-wg,qt,<-n_];rfl
 .rw [<-Ai,<-wg,qt,<-n_];rfl
 .rw [<-Ai,<-wg,qt,<-n_];rfl
 rw [<-Ai,<-wg,qt,<-n_];rfl
end
def DN:List Str->Str->Nat
 | [],_=>0
 | a::r,x=>if a=x then 0 else DN r x+1
theorem sj:∀(l:List Str)(x:Str),x∈l->l[DN l x]?=some x
 | [],x,h=>by cases h
 | a::r,x,h=>by
  unfold DN;by_cases c:a=x
  .rw [ax c];exact congrArg some c
  rw [az c];rcases cA.mp h with e | e
  .exact absurd e.symm c
  rw [List.getElem?_cons_succ];exact sj r x e
theorem nZ:∀(l:List Str)(x:Str) (i:Nat),x∈l.take i->DN l x < i
 | [],x,i,h=>by simp at h
 | a::r,x,0,h=>by simp at h
 | a::r,x,i+1,h=>by
  unfold DN;by_cases c:a=x
  .rw [ax c];omega
  rw [az c];rw [List.take_succ_cons] at h;rcases cA.mp h with e | e
  .exact absurd e.symm c
  have:=nZ r x i e;omega
def qA {l:List Str}{x:Str}{i:Nat}(h:x∈l.take i):∃j,j < i/\l[j]?=some x:=by
 obtain⟨j,hj⟩:=iw h;have lj:=(bq.mp hj).1;rw [dO] at lj;rw [rB ∅] at hj;exact⟨j,∅,hj⟩
def uC {aa:List aw}{ru:aw}(h:ru∈aa):ru.1∈hd aa:=(hU _ _ _).mpr (.inr (jZ h))
def Kn {aa:List aw}{x:Str}(h:x∈hd aa):∃ru∈aa,ru.1=x:=by
 rcases (hU _ _ _).mp h with h | h
 .cases h
 obtain⟨ru,a,b⟩:=cQ.mp h;exact⟨ru,a,b⟩
def Kx {aa:List aw}{x:Str}(h:Em aa x):x∈hd aa:=by
 cases h with
 | mk h _=>exact uC h
def M6 {aa:List aw}{bC:List (Str×Nat)}(h:wI aa bC):∀y∈bC.map (·.1),Em aa y:=by
 induction h with
 | nil=>intro y hy;cases hy
 | @snoc bC k ru _ e _ p ih =>
  intro y hy;rw [bG] at hy;rcases cC.mp hy with h | h
  .exact ih y h
  rw [bV.mp h];exact .mk (cg e) λq hq=>ih q (p q hq)
def FP {b:Str->Bool}{zs:List Str}{i j:Nat}{x:Str}(h:IZ b zs j=true)(e:zs[i]?=some x)(n:i≠j):b x=true:=by
 cases hb:b x with
 | true=>rfl
 | false =>
  have li:=(bq.mp e).1;have m:((i:Nat):Int)∈C7 b zs zs.length:=by
   unfold C7;exact cQ.mpr ⟨i,lP.mpr ⟨kK.mpr li,by rw [e];show (!(b x))=true;rw [hb];rfl⟩,rfl⟩
  unfold IZ at h;rcases Bool.or_eq_true_iff.mp h with h | h
  .rw [<-dr h] at m;cases m
  rw [<-dr h] at m;have:=bV.mp m;omega
theorem AZ {f:Str->Int}{c:Int}:∀(ps:List Str),(∀x∈ps,f x<=c)->(ps.map f).sum<=ps.length * c
 | [],_=>by simp
 | p::r,h=>by
  have h1:=AZ r λx hx=>h x (du _ hx);have h2:=h p cV;rw [cu,jW,dN];have:((r.length+1:Nat):Int) * c=(r.length:Int) * c+c:=by rw [Int.natCast_add,Int.add_mul];omega
  omega
structure yk (aa:List aw) (ns E M Pl:List Str):Prop where
 n3:ns.length<=3
 wL:∀ru∈aa,ru.1∈ns
 p3:∀ru∈aa,ru.2.length<=3
 eN:E.Nodup
 eNs:∀x∈E,x∈ns
 eO:∀(i:Nat)(h:Str),E[i]?=some h->∃bH,(h,bH)∈aa/\∀p∈bH,p∈E.take i\/p∉hd aa
 eA:∀h∈hd aa,h∈E
 mO:∀(i:Nat)(h:Str),M[i]?=some h->(∃lU,aa[0]?=some lU/\h=lU.1)\/∃ru∈aa,ru.1∈M.take i/\h∈ru.2
 mA:∀h∈hd aa,h∈M
 lN:Pl.Nodup
 Yt:∀x∈Pl,x∈ns
 lO:∀(i:Nat)(h:Str),Pl[i]?=some h->∀ru∈aa,ru.1=h->∀(j:Nat)(z:Str),ru.2[j]?=some z->z∈hd aa->(∀(k:Nat)(y:Str),k≠j->ru.2[k]?=some y->Em aa y)->z∈Pl.take i
 lA:∀h∈hd aa,h∈Pl
def b3:Nat->Int
 | 0=>1
 | 1=>4
 | _=>13
def c3:Nat->Int
 | 0=>0
 | 1=>1
 | _=>4
def KW {i j:Nat}(hi:i < 3)(h:j < i):b3 j<=c3 i:=by
 have:∀i:Nat,i < 3->∀j:Nat,j < i->b3 j<=c3 i:=by decide
 exact this i hi j h
def Q6 {i:Nat}:1+3 * c3 i=b3 i:=by
 match i with
 | 0=>rfl
 | 1=>rfl
 | _+2=>rfl
def KR {i:Nat}:0<=c3 i:=by
 match i with
 | 0=>decide
 | 1=>decide
 | _+2=>exact(by decide:(0:Int)<=4)
def G1 {i:Nat}:0<=b3 i/\b3 i<=60:=by
 match i with
 | 0=>decide
 | 1=>decide
 | _+2=>exact(by decide:(0:Int)<=13/\(13:Int)<=60)
def JQ {f:Str->Int}{i:Nat}{ps:List Str}(h3:ps.length<=3)(h:∀x∈ps,f x<=c3 i):1+(ps.map f).sum<=b3 i:=by
 have h1:=AZ ps h;have h2:(ps.length:Int) * c3 i<=3 * c3 i:=Int.mul_le_mul_of_nonneg_right ∅ KR;have:=@Q6 i;omega
def bP (Pl:List Str)(x:Str):Int:=if x∈Pl then b3 (DN Pl x) else 0
def yk.good {aa:List aw}{ns E M Pl:List Str}(O:yk aa ns E M Pl):Good aa (DN Pl) (bP Pl) where
 least g st se:=by
  have le3:E.length<=3:=fX (gr E ns O.eN O.eNs) O.n3;have a7:∀x,x∉hd aa->∀ru∈aa,x∈ru.2->g x=some 0:=by
   intro x nn ru i8 hm;refine eJ.keep (J:=λg=>g x=some 0) (λg NI j h2 _=>?_) st ?_
   .show eK g NI.1 _ x=some 0;unfold eK;have:x≠NI.1:=λz=>nn (z ▸ uC h2);rw [az this];exact j
   show yC aa x=some 0;unfold yC;rw [ax (vo _ _ _ _ (.inr ⟨q8.mpr ⟨ru,i8,hm⟩,nn⟩))]
  have key:∀(n i:Nat),i < n->∀h:Str,E[i]?=some h->∃m,g h=some m/\m<=b3 i:=by
   intro n
   induction n with
   | zero=>intro i hi;omega
   | succ n ih =>
    intro i hi h e;have li:=(bq.mp e).1;obtain⟨ps,hm,hp⟩:=O.eO i h e;have hv:∀p∈ps,∃m,g p=some m/\m<=c3 i:=λp F8=>by
     rcases hp p F8 with h1 | h1
     .obtain⟨j,lj,ej⟩:=qA h1;obtain⟨m,e1,e2⟩:=ih j ∅ p ej;exact⟨m,e1,Int.le_trans e2 (KW ∅ lj)⟩
     exact⟨0,a7 p h1 _ hm F8,KR⟩
    have hs:=se _ hm;unfold cO at hs;have a1:k_ g (h,ps)=true:=gC.mpr λp hp=>by obtain⟨m,e1,_⟩:=hv p hp;show (g p).isSome=true;rw [e1];rfl
    have s0:aW g (h,ps)<=b3 i:=by
     unfold aW;exact JQ (O.p3 _ hm) λp hp=>by obtain⟨m,e1,e2⟩:=hv p hp;show (g p).getD 0<=_;rw [e1];exact e2
    rw [a1,jc] at hs;cases gn:g h with
    | none=>rw [show g (h,ps).1=none from gn] at hs;cases hs
    | some m =>
     rw [show g (h,ps).1=some m from gn] at hs;refine⟨m,rfl,?_⟩;have:¬aW g (h,ps) < m:=by simpa [M11.bl] using hs
     omega
  intro h hh;obtain⟨i,hi⟩:=iw (O.eA h hh);obtain⟨m,e1,e2⟩:=key (i+1) i ∅ h hi;exact⟨m,e1,Int.le_trans e2 G1.2⟩
 met lU ms e0 h0 mc:=by
  have key:∀(n i:Nat),i < n->∀h:Str,M[i]?=some h->h∈ms:=by
   intro n
   induction n with
   | zero=>intro i hi;omega
   | succ n ih =>
    intro i hi h e;rcases O.mO i h e with ⟨r0,e1,e2⟩ | ⟨ru,i8,h1,h2⟩
    .rw [e0] at e1;cases e1;rw [e2];exact h0
    obtain⟨j,lj,ej⟩:=qA h1;exact mc ru (by rw [cR];exact i8) (ih j ∅ _ ej) h h2
  intro h hh;obtain⟨i,hi⟩:=iw (O.mA h hh);exact key (i+1) i ∅ h hi
 loop:=by
  rintro bC emp De n k j ⟨lU,z0,e1,e2,e3,e4,e5⟩ ru z er ez;rw [er] at e1;obtain rfl:ru=lU:=gS e1;rw [ez] at e3;obtain rfl:z=z0:=gS e3;have i8:=cg er;have hn:n∈Pl:=O.lA n (e2 ▸ uC i8);refine nZ Pl z _ (O.lO _ n (sj Pl n hn) ru i8 e2 j z ez e4 λk' y nk ey=>?_);have:=FP e5 ey nk;exact M6 emp y (dr this)
 Sz:=by
  refine⟨λz=>?_,λru i8 NU=>?_⟩
  .unfold bP
   split
   .exact G1.1
   decide
  have hn:ru.1∈Pl:=O.lA _ (uC i8);have li:=(bq.mp (sj Pl ru.1 hn)).1;have le3:Pl.length<=3:=fX (gr Pl ns O.lN O.Yt) O.n3;have e:bP Pl ru.1=b3 (DN Pl ru.1):=ax hn;rw [e];refine JQ (O.p3 ru i8) λp hp=>?_;obtain⟨j,ej⟩:=iw hp;have ht:=O.lO _ ru.1 (sj Pl ru.1 hn) ru i8 rfl j p ej (Kx (NU p hp)) λk' y _ ey=>NU y (cg ey);have e2:bP Pl p=b3 (DN Pl p):=ax (p_ ht);rw [e2];exact KW ∅ (nZ Pl p _ ht)
 most h hh:=by
  unfold bP
  split
  .exact G1.2
  decide
end gL
namespace M11
open PySem
def eI (a7:Bool) (bf e:List Str)(ru:aw):List Str:=if ((ru.2.all λp=>decide (p∈e) || (a7 && !decide (p∈bf))) && !decide (ru.1∈e))=true then e++[ru.1] else e
def gU (a7:Bool) (bf e:List Str)(aa:List aw):List Str:=aa.foldl (eI a7 bf) e
def passes {α:Type}(f:α->α):Nat->α->α
 | 0,a=>a
 | n+1,a=>f (passes f n a)
def dM (a7:Bool)(aa:List aw):List Str:=passes (λe=>gU a7 (aa.map (·.1)) e aa) aa.length []
structure EO (a7:Bool) (bf:List Str)(aa:List aw) (e:List Str):Prop where
 nd:e.Nodup
 ord:∀(i:Nat)(h:Str),e[i]?=some h->∃bH,(h,bH)∈aa/\∀p∈bH,p∈e.take i\/(a7=true/\p∉bf)
def EO.step {a7:Bool}{bf:List Str}{aa:List aw}{e:List Str}(h:EO a7 bf aa e){ru:aw}(hr:ru∈aa):EO a7 bf aa (eI a7 bf e ru):=by
 unfold eI
 split
 .rename_i c
  obtain⟨c1,c2⟩:=h_.mp c;have Oc:ru.1∉e:=by simpa using c2
  refine⟨kx.mpr ⟨h.nd,by simp,λa ha b hb z=>Oc (by rw [<-bV.mp hb,<-z];exact ha)⟩,λi x hx=>?_⟩;by_cases l:i < e.length
  .rw [mY l] at hx;obtain⟨bH,a,b⟩:=h.ord i x hx;refine⟨bH,a,λp hp=>?_⟩;rw [qa ∅];exact b p hp
  have li:=(bq.mp hx).1;rw [bM,fQ] at li;have:i=e.length:=by omega
  subst this;rw [lR (aH _),oI] at hx;cases hx;refine⟨ru.2,hr,λp hp=>?_⟩;rw [qa (aH _),cR];have:=gC.mp c1 p hp;simp only [Bool.or_eq_true,decide_eq_true_eq,pW,Bool.not_eq_true',decide_eq_false_iff_not] at this;exact this
 exact h
theorem EO.pass {a7:Bool}{bf:List Str}{aa:List aw}:∀(rs:List aw){e:List Str},(∀ru∈rs,ru∈aa)->EO a7 bf aa e->EO a7 bf aa (rs.foldl (eI a7 bf) e)
 | [],_,_,h=>h
 | ru::rs,_,hs,h=>EO.pass rs (λr hr=>hs r (du _ hr)) (h.step (hs ru cV))
def Gy (a7:Bool)(aa:List aw):EO a7 (aa.map (·.1)) aa (dM a7 aa):=by
 have:∀n,EO a7 (aa.map (·.1)) aa (passes (λe=>gU a7 (aa.map (·.1)) e aa) n []):=by
  intro n
  induction n with
  | zero=>exact⟨lL,λi h e=>by cases e⟩
  | succ n ih=>exact EO.pass aa (λ_ h=>h) ih
 exact this _
def ui (a7:Bool) (bf e:List Str)(ru:aw):eI a7 bf e ru=e\/e.length < (eI a7 bf e ru).length:=by
 unfold eI
 split
 .right;simp
 left;rfl
theorem xQ (a7:Bool) (bf:List Str):∀(rs:List aw) (e:List Str),e.length<=(rs.foldl (eI a7 bf) e).length
 | [],_=>aH _
 | ru::rs,e=>by
  have h1:=xQ a7 bf rs (eI a7 bf e ru);have h2:=ui a7 bf e ru;show _<=(rs.foldl (eI a7 bf) (eI a7 bf e ru)).length;rcases h2 with h | h
  .rw [h] at h1 ⊢;exact h1
  omega
theorem sM (a7:Bool) (bf:List Str):∀(rs:List aw) (e:List Str),(rs.foldl (eI a7 bf) e=e/\∀ru∈rs,eI a7 bf e ru=e)\/e.length < (rs.foldl (eI a7 bf) e).length
 | [],_=>.inl ⟨rfl,λ_ h=>by cases h⟩
 | ru::rs,e=>by
  show (rs.foldl (eI a7 bf) (eI a7 bf e ru)=e/\_)\/_ < (rs.foldl (eI a7 bf) (eI a7 bf e ru)).length;rcases ui a7 bf e ru with h | h
  .rw [h];rcases sM a7 bf rs e with ⟨a,b⟩ | c
   .refine .inl ⟨a,λr hr=>?_⟩;rcases cA.mp hr with rfl | hr
    .exact h
    exact b r hr
   exact .inr c
  right;have:=xQ a7 bf rs (eI a7 bf e ru);omega
theorem mr:∀(l m:List Str),l.Nodup->(∀z∈l,z∈m)->l.length<=m.length
 | [],m,_,_=>gB _
 | x::r,m,hn,hs=>by
  have hx:=hs x cV;have Gb:=mS.mp hn;have:=mr r (m.erase x) Gb.2 λz hz=>(List.mem_erase_of_ne (λe=>Gb.1 (by rw [<-e];exact hz))).mpr (hs z (du _ hz));rw [List.length_erase_of_mem hx] at this;have:0 < m.length:=List.length_pos_of_mem hx;rw [dN];omega
def EO.sub {a7:Bool}{bf:List Str}{aa:List aw}{e:List Str}(h:EO a7 bf aa e):∀x∈e,x∈aa.map (·.1):=λx hx=>by
 obtain⟨i,hi⟩:=iw hx;obtain⟨bH,a,_⟩:=h.ord i x hi;exact cQ.mpr ⟨_,a,rfl⟩
def C_ (a7:Bool)(aa:List aw):∀ru∈aa,eI a7 (aa.map (·.1)) (dM a7 aa) ru=dM a7 aa:=by
 have eo:∀n,EO a7 (aa.map (·.1)) aa (passes (λe=>gU a7 (aa.map (·.1)) e aa) n []):=by
  intro n
  induction n with
  | zero=>exact⟨lL,λi h e=>by cases e⟩
  | succ n ih=>exact EO.pass aa (λ_ h=>h) ih
 have key:∀n,(passes (λe=>gU a7 (aa.map (·.1)) e aa) (n+1) []=passes (λe=>gU a7 (aa.map (·.1)) e aa) n []/\∀ru∈aa,eI a7 (aa.map (·.1)) (passes (λe=>gU a7 (aa.map (·.1)) e aa) n []) ru=passes (λe=>gU a7 (aa.map (·.1)) e aa) n [])\/n < (passes (λe=>gU a7 (aa.map (·.1)) e aa) (n+1) []).length:=by
  intro n
  induction n with
  | zero =>
   rcases sM a7 (aa.map (·.1)) aa [] with h | h
   .exact .inl h
   exact .inr h
  | succ n ih =>
   rcases ih with ⟨a,b⟩ | c
   .left;rw [show passes (λe=>gU a7 (aa.map (·.1)) e aa) (n+1+1) []=gU a7 (aa.map (·.1)) (passes (λe=>gU a7 (aa.map (·.1)) e aa) (n+1) []) aa from rfl,a];exact⟨a,b⟩
   rcases sM a7 (aa.map (·.1)) aa (passes (λe=>gU a7 (aa.map (·.1)) e aa) (n+1) []) with h | h
   .exact .inl h
   right;have h2:(passes (λe=>gU a7 (aa.map (·.1)) e aa) (n+1) []).length < (passes (λe=>gU a7 (aa.map (·.1)) e aa) (n+1+1) []).length:=h;omega
 rcases key aa.length with ⟨_,b⟩ | c
 .exact b
 have e1:=eo (aa.length+1);have:=mr _ _ e1.nd e1.sub;rw [au] at this;omega
def ow {a7:Bool}{aa:List aw}{ru:aw}(hr:ru∈aa)(h:∀p∈ru.2,p∈dM a7 aa\/(a7=true/\p∉aa.map (·.1))):ru.1∈dM a7 aa:=by
 have:=C_ a7 aa ru hr;unfold eI at this;by_cases c:ru.1∈dM a7 aa
 .exact c
 rw [ax] at this
 .have:=congrArg List.length this;rw [bM] at this;simp at this
 refine h_.mpr ⟨gC.mpr λp hp=>?_,by simpa using c⟩;simp only [Bool.or_eq_true,decide_eq_true_eq,pW,Bool.not_eq_true',decide_eq_false_iff_not];exact h p hp
def Gz {aa:List aw}{x:Str}(h:Em aa x):x∈dM false aa:=by
 induction h with
 | mk hr _ ih=>exact ow hr λp hp=>.inl (ih p hp)
end M11
namespace gL
open PySem L2 M11
abbrev EM:Stmt:=top 51
abbrev zk:Stmt:=top 52
abbrev vH:Stmt:=top 53
abbrev vR:Stmt:=top 54
abbrev EE:Stmt:=top 55
abbrev EG:Stmt:=top 56
abbrev zq:Stmt:=top 57
abbrev EK:Stmt:=top 58
abbrev EJ:Stmt:=top 59
def SA {zs:List Str}{m:Int}(h:(zs.length:Int)=m)(hm:0 < m) (n:Int):∃z∈zs,j9 (zs.map V.str) (n % m)=some (.str z):=by
 subst h;have h1:=Int.emod_lt_of_pos n hm;have h2:=Int.emod_nonneg n (show (zs.length:Int)≠0 by omega);have l:(n % (zs.length:Int)).toNat < zs.length:=by omega
 have e:n % (zs.length:Int)=(((n % (zs.length:Int)).toNat:Nat):Int):=by omega
 refine⟨zs[(n % (zs.length:Int)).toNat],oT l,?_⟩;have t:j9 (zs.map V.str) (((n % (zs.length:Int)).toNat:Nat):Int)=some (.str zs[(n % (zs.length:Int)).toNat]):=bT (by rw [bh,cf l];rfl);rw [<-e] at t;exact t
def xt {α:Type}(i:Nat)(x y z:α):α:=match i with | 0=>x | 1=>y | _=>z
def Py {H:Hp}{L1 L2 L3 LL:Addr}{xs ys zs:List V}(h1:H L1=none)(h2:upd H L1 (.lst xs) L2=none)(h3:upd (upd H L1 (.lst xs)) L2 (.lst ys) L3=none)
  (h4:upd (upd (upd H L1 (.lst xs)) L2 (.lst ys)) L3 (.lst zs) LL=none):aC H (upd (upd (upd (upd H L1 (.lst xs)) L2 (.lst ys)) L3 (.lst zs)) LL (.lst [.ref L1,.ref L2,.ref L3]))/\∀i:Nat,i < 3->∃Li,j9 [V.ref L1,V.ref L2,V.ref L3] (i:Int)=some (.ref Li)/\H Li=none /\
   upd (upd (upd (upd H L1 (.lst xs)) L2 (.lst ys)) L3 (.lst zs)) LL (.lst [.ref L1,.ref L2,.ref L3]) Li=some (.lst (xt i xs ys zs)):=by
 have s1:=af h1 (.lst xs);have s2:=af h2 (.lst ys);have s3:=af h3 (.lst zs);have s4:=af h4 (.lst [.ref L1,.ref L2,.ref L3]);refine⟨s1.trans (s2.trans (s3.trans s4)),λi hi=>?_⟩
 match i,hi with
 | 0,_=>exact⟨L1,rfl,h1,s4 _ _ (s3 _ _ (s2 _ _ ae))⟩
 | 1,_=>exact⟨L2,rfl,s1.free h2,s4 _ _ (s3 _ _ ae)⟩
 | 2,_=>exact⟨L3,rfl,s1.free (s2.free h3),s4 _ _ ae⟩
def Bw (i:Nat):List Str:=xt i ["s","t","u"] ["b","aa","k"] ["a","ab","n"]
def Rv (i:Nat):List Str:=xt i ["a","b","c"] ["ab","a","c"] ["b","+","ba"]
def NJ (i j:Nat):List Str:=(Bw i).map λz=>z++EW "y" j
def IW (i:Nat):xt i [V.str "s",V.str "t",V.str "u"] [V.str "b",V.str "aa",V.str "k"] [V.str "a",V.str "ab",V.str "n"]=(Bw i).map V.str:=by
 match i with
 | 0=>rfl
 | 1=>rfl
 | _+2=>rfl
def H_ (i:Nat):xt i [V.str "a",V.str "b",V.str "c"] [V.str "ab",V.str "a",V.str "c"] [V.str "b",V.str "+",V.str "ba"]=(Rv i).map V.str:=by
 match i with
 | 0=>rfl
 | 1=>rfl
 | _+2=>rfl
def FI (i:Nat):(Bw i).length=3:=by
 match i with
 | 0=>rfl
 | 1=>rfl
 | _+2=>rfl
def K7 (i:Nat):(Rv i).length=3:=by
 match i with
 | 0=>rfl
 | 1=>rfl
 | _+2=>rfl
def FH (i:Nat):∀z∈Bw i,z.length<=2:=by
 match i with
 | 0=>decide +kernel
 | 1=>decide +kernel
 | n+2=>exact(by decide +kernel:∀z∈Bw 2,z.length<=2)
def Ci {j:Nat}(h:j < 3):(EW "y" j).length<=2:=by
 match j,h with
 | 0,_=>decide +kernel
 | 1,_=>decide +kernel
 | 2,_=>decide +kernel
section
def cellAt (ns:List Int) (k:Nat):Int:=(ns[k]?).getD 0
def rM (K:a9):Sp:=λvs H Q _=>∃(a:Addr)(ns:List Int) (k:Nat),vs=[.ref a,.int (k:Int)]/\aI K H a (ns.map V.int)/\ns.length<=1000/\∀n:Int,n=cellAt ns k->Q (.int n) H
def Ln:aK ["_law_script","_law_k"] ["_law_script","_law_k"] (av EM):=ir rfl rfl rfl rfl nofun
def IT (F:g_ K "_law_cell_at" "_law_cell_at" EM f fd)(T:Txt mg):bO P w K mg base fk 1 f fd ["_law_script","_law_k"] (rM K):=by
 refine F.ok Ln (λvs H Q E h=>?_) (λdW A outer s H vs Q E hr h=>?_)
 .obtain⟨a,ns,k,rfl,_⟩:=h;rfl
 obtain⟨a,ns,k,rfl,hS,hn,q⟩:=h;refine⟨_,ai (bw (aV nV (pv 1) (aD aG rfl T.len cU (ab (pv 0) ah)) (bu _)) (ak (aL (aF bo (pv 0) (pv 1) (λ_ _=>rfl)))) aM) (ak (aL ao)),?_⟩
 nofun
 refine⟨_,rfl,_,rfl,a,_,rfl,.inl hS,_,_,rfl,rfl,_,rfl,?_⟩;refine bZ (λcc=>?_) (λcc=>q 0 ?_)
 rotate_left
 .have ge:¬((k:Int) < ((ns.map V.int).length:Int)):=λz=>cc (bW z);rw [au] at ge;unfold cellAt;rw [vc ∅];rfl
 have lt:=dr cc;rw [au] at lt;have lt':k < ns.length:=by omega
 refine⟨_,rfl,_,rfl,a,_,_,.int ns[k],rfl,rfl,hS,bT (by rw [bh,cf lt'];rfl),q _ (by unfold cellAt;rw [cf lt'];rfl)⟩
def rK:Sp:=λvs H Q _=>∃(c:Int) (m:Nat)(S:Addr) (zs:List Str),vs=[.int c,.int (m:Int),.ref S]/\m<=100/\H S=some (.lst (zs.map V.str))/\0 < zs.length/\zs.length<=1000/\∀(p:Addr) (ps:List Str)(H':Hp),aC H H'->H' p=some (.tup (ps.map V.str))->ps.length=m->(∀x∈ps,x∈zs)->Q (.ref p) H'
def jt:aK ["_law_cell","_law_many","_law_some","_law_parts","_law_seed","_law_k"] ["_law_cell","_law_many","_law_some"] (av vR):=ir rfl rfl rfl rfl nofun
def Cy (F:g_ K "_law_digits" "_law_digits" vR f fd)(T:Txt mg):bO P w K mg base fk 1 f fd ["_law_cell","_law_many","_law_some"] rK:=by
 refine F.ok jt (λvs H Q E h=>?_) (λdW A outer s H vs Q E hr h=>?_)
 .obtain⟨c,m,S,zs,rfl,_⟩:=h;rfl
 obtain⟨c,m,S,zs,rfl,hm,hS,YJ,hz1,q⟩:=h;refine⟨_,ai (aA (i:=3) jt.nd rfl (bx rfl) (bc ah))
  (ai (aA (i:=4) jt.nd rfl (bx rfl) (aX gq (aX c_ (pv 0) ao) ao))
  (ai (bQ b0 rfl (gZ rfl T.DJ (ab (pv 1) ah)) (aq (i:=5) jt.nd rfl (bx rfl))
   (ak (bw (aV rZ (pv 0) ao (bu _))
    (ai (bX (ft eG fZ f_ bK (pv 3) (ab (aF bo (pv 2) (aX c_ (aX zN (pv 0) ao) (aD aG rfl T.len cU (ab (pv 2) ah))) (λ_ _=>rfl)) ah)))
    (ak (aA (i:=0) jt.nd rfl (bx rfl) (aX dU (aX zN (pv 0) ao) (aD aG rfl T.len cU (ab (pv 2) ah))))))
    (ai (aA (i:=4) jt.nd rfl (bx rfl) (aX c_ (aX LO (pv 4) ao) ao))
    (ak (bX (ft eG fZ f_ bK (pv 3) (ab (aF bo (pv 2) (aX c_ (aX dU (pv 4) ao) (aD aG rfl T.len cU (ab (pv 2) ah))) (λ_ _=>rfl)) ah))))))))
  (ak (aL (bE gb rfl T.tup qS (ab (pv 3) ah)))))),?_⟩
 nofun
 have P1:(0:Int) < (zs.length:Int):=by omega
 refine⟨o7,λL hL=>?_⟩;have hS1:=af hL (.lst []) _ _ hS;have nS:S≠L:=λz=>by rw [z,hL] at hS;cases hS
 refine⟨_,rfl,_,_,rfl,rfl,(by show (0:Int) < 2147483647;decide),_,_,rfl,rfl,?_⟩;refine⟨_,rfl,(m:Int),rfl,∅,∅,?_⟩;rw [kr m];refine g8 (n:=m) (λi σ H2=>∃(c2 c4:Int)(k2:Option V) (ps:List Str),σ=[some (.int c2),some (.int (m:Int)),aP S,aP L,some (.int c4),k2]/\H2=upd H L (.lst (ps.map V.str))/\ps.length=i/\∀x∈ps,x∈zs) ⟨c,_,none,[],rfl,rfl,rfl,λ_ h=>(by cases h)⟩ ?_ ?_
 .rintro i σ H2 hi ⟨c2,c4,k2,ps,rfl,rfl,hp,F8⟩
  ac_nf0
  have eS:upd H L (.lst (ps.map V.str)) S=some (.lst (zs.map V.str)):=by rw [aj nS];exact hS
  refine goN ?_
  ac_nf
  refine⟨_,rfl,_,_,rfl,rfl,_,rfl,?_⟩;refine bZ (λ_=>?_) (λ_=>?_)
  .obtain⟨z,P0,ez⟩:=SA (zs:=zs) rfl P1 (c2 - 1);refine⟨_,rfl,.inl ⟨rfl,_,aI.of ae⟩,_,rfl,_,rfl,_,_,rfl,rfl,_,rfl,S,_,rfl,.inl (aI.of eS),_,_,rfl,rfl,(by rw [au];exact P1),?_⟩;rw [au];refine⟨S,_,_,_,rfl,rfl,aI.of eS,ez,L,_,_,rfl,rfl,ae,bL (by rw [au];omega),?_⟩;rw [ng];have eS2:upd H L (.lst (ps.map V.str++[.str z])) S=some (.lst (zs.map V.str)):=by rw [aj nS];exact hS
   refine⟨_,rfl,_,_,rfl,rfl,_,rfl,S,_,rfl,.inl (aI.of eS2),_,_,rfl,rfl,(by rw [au];exact⟨P1,by show (zs.length:Int) < 1073741824;omega⟩),?_⟩;rw [au];exact⟨_,_,_,ps++[z],rfl,by rw [bG];rfl,by rw [bM,hp];rfl,λx hx=>(cC.mp hx).elim (F8 x) λh=>(bV.mp h) ▸ P0⟩
  refine⟨_,rfl,_,_,rfl,rfl,.inr ⟨nofun,nofun⟩,_,_,rfl,rfl,(by show (0:Int) < 2147483647;decide),?_⟩;obtain⟨z,P0,ez⟩:=SA (zs:=zs) rfl P1 (c4 * 48271 % 2147483647 / 3);refine⟨_,rfl,.inl ⟨rfl,_,aI.of ae⟩,_,rfl,_,rfl,_,_,rfl,rfl,⟨nofun,nofun⟩,_,rfl,S,_,rfl,.inl (aI.of eS),_,_,rfl,rfl,(by rw [au];exact P1),?_⟩;rw [au];refine⟨S,_,_,_,rfl,rfl,aI.of eS,ez,L,_,_,rfl,rfl,ae,bL (by rw [au];omega),?_⟩;rw [ng];exact⟨_,_,_,ps++[z],rfl,by rw [bG];rfl,by rw [bM,hp];rfl,λx hx=>(cC.mp hx).elim (F8 x) λh=>(bV.mp h) ▸ P0⟩
 rintro σ H2 ⟨c2,c4,k2,ps,rfl,rfl,hp,F8⟩;refine⟨_,rfl,L,_,rfl,.inl ⟨aI.of ae,λp oC=>?_⟩⟩;exact q p ps _ ((af hL _).trans (af oC _)) ae hp F8
def i3 (c:Int):Nat:=(c / 72 % 3).toNat
def j3 (c:Int):Nat:=(c / 3 % 3).toNat
def k3 (c:Int):Nat:=(1+c % 3).toNat
def By (c:Int):i3 c < 3/\c / 72 % 3=(i3 c:Int):=by unfold i3;omega
def F1 (c:Int):j3 c < 3/\c / 3 % 3=(j3 c:Int):=by unfold j3;omega
def Kh (c:Int):1<=k3 c/\k3 c<=3/\1+c % 3=(k3 c:Int):=by unfold k3;omega
def dC (c:Int):List Str:=(NJ (i3 c) (j3 c)).take (k3 c)
def gK (c:Int):List Str:=Rv (i3 c)
def FJ {i j:Nat}(hi:i < 3)(hj:j < 3):(NJ i j).Nodup/\∀x∈NJ i j,x∉Rv i:=by
 match i,j,hi,hj with
 | 0,0,_,_=>decide +kernel
 | 0,1,_,_=>decide +kernel
 | 0,2,_,_=>decide +kernel
 | 1,0,_,_=>decide +kernel
 | 1,1,_,_=>decide +kernel
 | 1,2,_,_=>decide +kernel
 | 2,0,_,_=>decide +kernel
 | 2,1,_,_=>decide +kernel
 | 2,2,_,_=>decide +kernel
def C4 (c:Int):(dC c).Nodup:=(FJ (By c).1 (F1 c).1).1.sublist (List.take_sublist _ _)
def uD (c:Int):∀x∈dC c,x∉gK c:=λx hx=>(FJ (By c).1 (F1 c).1).2 x (p_ hx)
def IX (i j:Nat):(NJ i j).length=3:=by unfold NJ;rw [au];exact FI i
def Ao (c:Int):1<=(dC c).length/\(dC c).length<=3:=by
 have:=Kh c;unfold dC;rw [dO,IX];omega
def sI (c:Int):(gK c).length=3:=K7 _
def Bb:Sp:=λvs H Q _=>∃(c:Int),vs=[.int c]/\∀(N:Addr)(H':Hp),H N=none->aC H H'->H' N=some (.lst ((dC c).map V.str))->Q (.ref N) H'
def Bm:aK ["_law_cell","_law_some"] ["_law_cell"] (av zk):=ir rfl rfl rfl rfl nofun
def Fs (F:g_ K "_law_names" "_law_names" zk f fd)(T:Txt mg):bO P w K mg base fk 1 f fd ["_law_cell"] Bb:=by
 refine F.ok Bm (λvs H Q E h=>?_) (λdW A outer s H vs Q E hr h=>?_)
 .obtain⟨c,rfl,_⟩:=h;rfl
 obtain⟨c,rfl,q⟩:=h;refine⟨_,@ai _ _ _ _ _ (@aA _ _ 1 _ _ _ _ Bm.nd rfl (bx rfl) (@aF _ _ _ _ _ _ _ bo (@bc _ _ _ _ (@ab _ _ _ _ _ (@bc _ _ _ _ (@ab _ _ _ _ _ (@bU _ _ _ _) (@ab _ _ _ _ _ (@bU _ _ _ _) (@ab _ _ _ _ _ (@bU _ _ _ _) (@ah _) rfl) rfl) rfl)) (@ab _ _ _ _ _ (@bc _ _ _ _ (@ab _ _ _ _ _ (@bU _ _ _ _) (@ab _ _ _ _ _ (@bU _ _ _ _) (@ab _ _ _ _ _ (@bU _ _ _ _) (@ah _) rfl) rfl) rfl)) (@ab _ _ _ _ _ (@bc _ _ _ _ (@ab _ _ _ _ _ (@bU _ _ _ _) (@ab _ _ _ _ _ (@bU _ _ _ _) (@ab _ _ _ _ _ (@bU _ _ _ _) (@ah _) rfl) rfl) rfl)) (@ah _) rfl) rfl) rfl)) (aX c_ (aX dU (pv 0) ao) ao) (λ_ _=>rfl)) rfl (.inr rfl))
  (ak (aL (bF ["_law_name"] [(0,"_law_cell")] rfl (aZ (dY iz (pv 1) gh (dS (aX gq ao (aX c_ (pv 0) ao))))) (bp rfl rfl) nofun rfl nofun
   (λ_ _ _ _ _=>aq (i:=0) (show (["_law_name","_law_cell"]:List Str).Nodup by decide +kernel) rfl (bx rfl)) (λ_ _ _ _ _=>bY)
   (λ_ _ _ _ _=>aX zQ (pv 0) (aX IH bU (aX c_ (aX dU (pv 1) ao) ao)))))),?_⟩
 nofun
 obtain⟨hi,ei⟩:=By c;obtain⟨hj,ej⟩:=F1 c;obtain⟨hk1,hk3,ek⟩:=Kh c;refine⟨JG,λL1 h1=>⟨JG,λL2 h2=>⟨JG,λL3 h3=>⟨JG,λLL VT=>?_⟩⟩⟩⟩;obtain⟨s1,p1⟩:=Py h1 h2 h3 VT;obtain⟨Li,a1,f1,e1⟩:=p1 (i3 c) hi;rw [IW] at e1;refine⟨_,rfl,_,_,rfl,rfl,⟨nofun,nofun⟩,_,_,rfl,rfl,(by show (0:Int) < 3;decide),?_⟩;refine⟨LL,_,(i3 c:Int),.ref Li,rfl,congrArg V.int ei,aI.of ae,a1,?_⟩;generalize upd (upd (upd (upd H L1 _) L2 _) L3 _) LL _=H1 at s1 e1;refine⟨_,rfl,_,rfl,_,_,rfl,rfl,(by show (0:Int) < 3;decide),_,_,rfl,rfl,_,rfl,Li,_,rfl,aI.of e1,λM hM=>?_⟩;have cut:gy ((Bw (i3 c)).map V.str) none (some (1+c % 3))=((Bw (i3 c)).take (k3 c)).map V.str:=by
  rw [ek];unfold gy;rw [show HT.fR ((Bw (i3 c)).map V.str).length 0 none=0 from rfl,HT.jL,oN,kC,oK,<-List.take_eq_take_min]
 rw [cut];have s2:=s1.trans (af hM (.lst (((Bw (i3 c)).take (k3 c)).map V.str)));have eM:upd H1 M (.lst (((Bw (i3 c)).take (k3 c)).map V.str)) M=some (.lst (((Bw (i3 c)).take (k3 c)).map V.str)):=ae;generalize upd H1 M (.lst (((Bw (i3 c)).take (k3 c)).map V.str))=H2 at s2 eM;have gN:dC c=((Bw (i3 c)).take (k3 c)).map λz=>z++EW "y" (j3 c):=by
  unfold dC NJ;rw [oK]
 refine⟨M,rfl,⟨_,aI.of eM⟩,λD hD=>cE (xs:=((Bw (i3 c)).take (k3 c)).map V.str) (λk ys σ2 H3=>ys=((dC c).take k).map V.str/\(∃y0,σ2=[y0,some (.int c)])/\aC H2 H3/\H3 D=some (.lst ys))
    ⟨rfl,⟨none,rfl⟩,af hD _,ae⟩ (λk ys σ2 H3 _ h=>?_) (λk x ys σ2 H3 ex h=>?_) (λys σ2 H3 h=>?_)⟩
 .obtain⟨_,_,sm,_⟩:=h;exact aI.of (sm _ _ eM)
 .obtain⟨rfl,⟨y0,rfl⟩,sm,eD⟩:=h;have lk:=(bq.mp ex).1;rw [au,dO,FI] at lk;rw [bh] at ex;obtain⟨z,ez,rfl⟩:=cq.mp ex;have hz:=FH (i3 c) z (p_ (cg ez));have hy:=Ci hj;refine goN (yB ?_);refine⟨_,rfl,_,rfl,_,_,rfl,rfl,⟨nofun,nofun⟩,_,_,rfl,rfl,(by show (0:Int) < 3;decide),?_⟩;have ly:("y":Str).length=1:=by decide +kernel
  refine⟨"y",j3 c,rfl,congrArg V.int ej,∅,ly,_,_,rfl,rfl,fits ∅,?_⟩;refine⟨eD,bL (by rw [au,dO];omega),?_,⟨_,rfl⟩,λb o hb=>?_,ae⟩
  .have:(dC c)[k]?=some (z++EW "y" (j3 c)):=by rw [gN,bh,ez];rfl
   rw [cS,this,bG];rfl
  rw [aj (λz=>by rw [z,hD] at hb;cases hb)];exact sm b o hb
 obtain⟨rfl,_,sm,eD⟩:=h;rw [mV (by rw [gN,au,au];exact aH _)] at eD;exact q D _ (s2.free hD) (s2.trans sm) eD
def rG:Sp:=λvs H Q _=>∃(c:Int),vs=[.int c]/\∀(N:Addr)(H':Hp),H N=none->aC H H'->H' N=some (.lst ((gK c).map V.str))->Q (.ref N) H'
def Ez:aK ["_law_cell"] ["_law_cell"] (av vH):=ir rfl rfl rfl rfl nofun
def Cp (F:g_ K "_law_words" "_law_words" vH f fd)(T:Txt mg):bO P w K mg base fk 1 f fd ["_law_cell"] rG:=by
 refine F.ok Ez (λvs H Q E h=>?_) (λdW A outer s H vs Q E hr h=>?_)
 .obtain⟨c,rfl,_⟩:=h;rfl
 obtain⟨c,rfl,q⟩:=h;refine⟨_,ak (aL (@aF _ _ _ _ _ _ _ bo (@bc _ _ _ _ (@ab _ _ _ _ _ (@bc _ _ _ _ (@ab _ _ _ _ _ (@bU _ _ _ _) (@ab _ _ _ _ _ (@bU _ _ _ _) (@ab _ _ _ _ _ (@bU _ _ _ _) (@ah _) rfl) rfl) rfl)) (@ab _ _ _ _ _ (@bc _ _ _ _ (@ab _ _ _ _ _ (@bU _ _ _ _) (@ab _ _ _ _ _ (@bU _ _ _ _) (@ab _ _ _ _ _ (@bU _ _ _ _) (@ah _) rfl) rfl) rfl)) (@ab _ _ _ _ _ (@bc _ _ _ _ (@ab _ _ _ _ _ (@bU _ _ _ _) (@ab _ _ _ _ _ (@bU _ _ _ _) (@ab _ _ _ _ _ (@bU _ _ _ _) (@ah _) rfl) rfl) rfl)) (@ah _) rfl) rfl) rfl)) (aX c_ (aX dU (pv 0) ao) ao) (λ_ _=>rfl))),?_⟩;dsimp only [AA];obtain⟨hi,ei⟩:=By c;refine⟨JG,λL1 h1=>⟨JG,λL2 h2=>⟨JG,λL3 h3=>⟨JG,λLL VT=>?_⟩⟩⟩⟩;obtain⟨s1,p1⟩:=Py h1 h2 h3 VT;obtain⟨Li,a1,f1,e1⟩:=p1 (i3 c) hi;rw [H_] at e1;refine⟨_,rfl,_,_,rfl,rfl,⟨nofun,nofun⟩,_,_,rfl,rfl,(by show (0:Int) < 3;decide),?_⟩;refine⟨LL,_,(i3 c:Int),.ref Li,rfl,congrArg V.int ei,aI.of ae,a1,?_⟩;exact q Li _ f1 s1 e1
def Er (K:a9):Sp:=λvs H Q _=>∃(S N W:Addr)(ns:List Int) (at_ m:Nat) (fU ws:List Str),vs=[.ref S,.int (at_:Int),.ref N,.int (m:Int),.ref W]/\aI K H S (ns.map V.int)/\ns.length<=1000/\H N=some (.lst (fU.map V.str))/\H W=some (.lst (ws.map V.str))/\0 < fU.length/\fU.length<=5/\ws.length<=10/\m<=10 /\
 ∀(R:Addr)(rs:List Addr)(aa:List aw)(H':Hp),H R=none->aC H H'->H' R=some (.lst (rs.map V.ref))->bI K H' rs aa->aa.length=m->(∀ru∈aa,ru.1∈fU/\ru.2.length<=3/\∀x∈ru.2,x∈fU++ws)->Q (.ref R) H'
def rO:aK ["_law_script","_law_at","_law_names_here","_law_many","_law_words_here","_law_rules","_law_some","_law_k","_law_cell"] ["_law_script","_law_at","_law_names_here","_law_many","_law_words_here"] (av EG):=ir rfl rfl rfl rfl nofun
def IL (F:g_ K "_law_more" "_law_more" EG f fd)(T:Txt mg)(GC:aB P w K mg base 1 "_law_cell_at" ["_law_script","_law_k"] (rM K))(GD:aB P w K mg base 1 "_law_digits" ["_law_cell","_law_many","_law_some"] rK):bO P w K mg base fk 2 f fd ["_law_script","_law_at","_law_names_here","_law_many","_law_words_here"] (Er K):=by
 refine F.ok rO (λvs H Q E h=>?_) (λdW A outer s H vs Q E hr h=>?_)
 .obtain⟨S,N,W,ns,at_,m,fU,ws,rfl,_⟩:=h;rfl
 obtain⟨S,N,W,ns,at_,m,fU,ws,rfl,hS,hn,hN,hW,RU,hn1,hw1,hm,q⟩:=h;refine⟨_,ai (aA (i:=5) rO.nd rfl (bx rfl) (bc ah))
  (ai (aA (i:=6) rO.nd rfl (bx rfl) (aX iN (pv 2) (pv 4)))
  (ai (bQ b0 rfl (gZ rfl T.DJ (ab (pv 3) ah)) (aq (i:=7) rO.nd rfl (bx rfl))
   (ai (aA (i:=8) rO.nd rfl (bx rfl) (a8 GC hr rfl (ab (pv 0) (ab (aX gq (pv 1) (pv 7)) ah))))
   (ak (bX (ft eG fZ f_ bK (pv 5) (ab (bD (ab (aF bo (pv 2) (aX c_ (pv 8) (aD aG rfl T.len cU (ab (pv 2) ah))) (λ_ _=>rfl))
    (ab (a8 GD hr rfl (ab (aX dU (pv 8) ao) (ab (aX c_ (aX dU (pv 8) ao) ao) (ab (pv 6) ah)))) ah))) ah))))))
  (ak (aL (pv 5))))),?_⟩
 nofun
 refine⟨o7,λL hL=>?_⟩;have s1:=af hL (.lst []);have e1:upd H L (.lst []) L=some (.lst []):=ae;generalize upd H L (.lst [])=H1 at s1 e1;refine⟨_,rfl,_,rfl,N,W,_,_,rfl,rfl,s1 _ _ hN,s1 _ _ hW,fits (by rw [au,au];omega),λM hM=>?_⟩;rw [<-bG];have k2:=af hM (.lst ((fU++ws).map V.str));have s2:=s1.trans k2;have e2:=k2 _ _ e1;have m2:upd H1 M (.lst ((fU++ws).map V.str)) M=some (.lst ((fU++ws).map V.str)):=ae;have nM:M≠L:=λz=>by rw [z,e1] at hM;cases hM
 generalize upd H1 M (.lst ((fU++ws).map V.str))=H2 at k2 s2 e2 m2;refine⟨_,rfl,(m:Int),rfl,∅,∅,?_⟩;rw [kr m];refine g8 (n:=m) (λi σ H3=>∃(rs:List Addr)(aa:List aw)(y7 y8:Option V),σ=[aP S,some (.int (at_:Int)),aP N,some (.int (m:Int)),aP W,aP L,aP M,y7,y8]/\aC H H3/\H3 L=some (.lst (rs.map V.ref))/\H3 M=some (.lst ((fU++ws).map V.str))/\bI K H3 rs aa/\aa.length=i/\∀ru∈aa,ru.1∈fU/\ru.2.length<=3/\∀x∈ru.2,x∈fU++ws) ⟨[],[],none,none,rfl,s2,e2,m2,.nil,rfl,λ_ h=>by cases h⟩ ?_ ?_
 .intro i σ H3 hi jQ
  ac_nf0
  obtain⟨rs,aa,y7,y8,rfl,s3,eL,eM,rl,hl,hf⟩:=jQ;have lr:=aY rl;refine goN ?_
  ac_rfl
  refine⟨_,rfl,_,rfl,_,rfl,_,_,rfl,rfl,?_⟩;refine⟨S,ns,at_+i,(by show [V.ref S,V.int ((at_:Int)+(0+(i:Int)))]=_;congr 3;push_cast;omega),s3.seq hS,hn,λc _=>?_⟩;have YX:(0:Int) < (fU.length:Int):=by omega
  obtain⟨z,P0,ez⟩:=SA (zs:=fU) rfl YX c;obtain⟨d,hd⟩:∃d:Nat,c / 3 % 4=(d:Int):=⟨(c / 3 % 4).toNat,∅⟩;refine⟨_,rfl,.inl ⟨rfl,_,aI.of eL⟩,_,rfl,_,rfl,_,rfl,N,_,rfl,.inl (aI.of (s3 _ _ hN)),_,_,rfl,rfl,(by rw [au];exact YX),?_⟩;rw [au];refine⟨N,_,_,_,rfl,rfl,aI.of (s3 _ _ hN),ez,?_⟩;refine⟨_,rfl,_,_,rfl,rfl,⟨nofun,nofun⟩,_,rfl,_,_,rfl,rfl,⟨nofun,nofun⟩,_,_,rfl,rfl,(by show (0:Int) < 4;decide),_,rfl,?_⟩;refine⟨_,d,M,fU++ws,(by show [_,V.int (c / 3 % 4),_]=_;rw [hd]),∅,eM,by rw [bM];omega,by rw [bM];omega,λp ps H4 s4 e4 l4 F8=>⟨kc,λR hR=>?_⟩⟩;have k5:=s4.trans (af hR (.tup [.str z,.ref p]));have v1:aQ K (upd H4 R (.tup [.str z,.ref p])) R [.str z,.ref p]:=aQ.of ae;have v2:aQ K (upd H4 R (.tup [.str z,.ref p])) p (ps.map V.str):=(af hR _).tup (aQ.of e4);generalize upd H4 R (.tup [.str z,.ref p])=H5 at k5 v1 v2;have Df:=k5 _ _ eL;refine⟨L,_,_,rfl,rfl,Df,bL (by rw [au];omega),?_⟩;refine⟨rs++[R],aa++[(z,ps)],_,_,rfl,λb o hb=>?_,by rw [ae,bG];rfl,by rw [aj nM];exact k5 _ _ eM,gR (rl.keep λb xs z=>aT Df (k5.tup z)) ⟨p,aT Df v1,aT Df v2⟩,by rw [bM,hl];rfl,λru i8=>?_⟩
  .rw [aj (λz=>by rw [z,hL] at hb;cases hb)];exact k5 _ _ (s3 b o hb)
  rcases cC.mp i8 with h | h
  .exact hf ru h
  rw [bV.mp h];exact⟨P0,by show ps.length<=3;omega,F8⟩
 rintro σ H3 ⟨rs,aa,y7,y8,rfl,s3,eL,eM,rl,hl,hf⟩;exact⟨_,rfl,q L rs aa H3 hL s3 eL rl hl hf⟩
def pR (ns ws:List Str) (a:Nat) (bH:List Str):Prop :=
 (∃n' wx,ns[a+1]?=some n'/\wx≠[]/\(∀x∈wx,x∈ws)/\wx.length<=2/\(bH=wx++[n']\/bH=n'::wx))\/(ns.length<=a+1/\(∀x∈bH,x∈ws)/\bH.length<=2)
def GX (l:List Str)(n:Str):gy ((l++[n]).map V.str) (some (-1)) none=[V.str n]:=by
 unfold gy;have h1:HT.fR ((l++[n]).map V.str).length 0 (some (-1))=l.length:=by
  rw [au,bM,fQ];show (if (-1:Int) < 0 then ((-1:Int)+((l.length+1:Nat):Int)).toNat else min (-1:Int).toNat (l.length+1))=l.length;rw [ax nofun];omega
 rw [h1,HT.ig,<-List.map_drop,List.drop_append_of_le_length (aH _),List.drop_length,mR];rw [au,bM,fQ,show l.length+1 - l.length=1 by omega];rfl
def GY (l:List Str)(n:Str):gy ((l++[n]).map V.str) none (some (-1))=l.map V.str:=by
 unfold gy;have h1:HT.fR ((l++[n]).map V.str).length ((l++[n]).map V.str).length (some (-1))=l.length:=by
  rw [au,bM,fQ];show (if (-1:Int) < 0 then ((-1:Int)+((l.length+1:Nat):Int)).toNat else min (-1:Int).toNat (l.length+1))=l.length;rw [ax nofun];omega
 rw [h1,HT.ig,oN,kC,<-oK,qa (aH _),cR]
def Eo (K:a9):Sp:=λvs H Q _=>∃(S N W:Addr)(ns:List Int) (at_:Nat) (fU ws:List Str),vs=[.ref S,.int (at_:Int),.ref N,.ref W]/\aI K H S (ns.map V.int)/\ns.length<=1000/\H N=some (.lst (fU.map V.str))/\H W=some (.lst (ws.map V.str))/\0 < fU.length/\fU.length<=5/\0 < ws.length/\ws.length<=10 /\
 ∀(R:Addr)(rs:List Addr)(aa:List aw)(H':Hp),H R=none->aC H H'->H' R=some (.lst (rs.map V.ref))->bI K H' rs aa->aa.length=fU.length->(∀(j:Nat)(ru:aw),aa[j]?=some ru->fU[j]?=some ru.1/\pR fU ws j ru.2)->Q (.ref R) H'
def mn:aK ["_law_script","_law_at","_law_names_here","_law_words_here","_law_rules","_law_k","_law_cell","_law_parts"] ["_law_script","_law_at","_law_names_here","_law_words_here"] (av EE):=ir rfl rfl rfl rfl nofun
def IJ (F:g_ K "_law_skeleton" "_law_skeleton" EE f fd)(T:Txt mg)(GC:aB P w K mg base 1 "_law_cell_at" ["_law_script","_law_k"] (rM K))(GD:aB P w K mg base 1 "_law_digits" ["_law_cell","_law_many","_law_some"] rK):bO P w K mg base fk 2 f fd ["_law_script","_law_at","_law_names_here","_law_words_here"] (Eo K):=by
 refine F.ok mn (λvs H Q E h=>?_) (λdW A outer s H vs Q E hr h=>?_)
 .obtain⟨S,N,W,ns,at_,fU,ws,rfl,_⟩:=h;rfl
 obtain⟨S,N,W,ns,at_,fU,ws,rfl,hS,hn,hN,hW,RU,hn1,YO,hw1,q⟩:=h;refine⟨_,ai (aA (i:=4) mn.nd rfl (bx rfl) (bc ah))
  (ai (bQ b0 rfl (gZ rfl T.DJ (ab (aD aG rfl T.len cU (ab (pv 2) ah)) ah)) (aq (i:=5) mn.nd rfl (bx rfl))
   (ai (aA (i:=6) mn.nd rfl (bx rfl) (a8 GC hr rfl (ab (pv 0) (ab (aX gq (pv 1) (pv 5)) ah))))
   (ai (aA (i:=7) mn.nd rfl (bx rfl) (a8 GD hr rfl (ab (aX dU (pv 6) ao) (ab (aX c_ (pv 6) ao) (ab (pv 3) ah)))))
   (ai (nO (bw (aV nV (aX gq (pv 5) ao) (aD aG rfl T.len cU (ab (pv 2) ah)) (bu _))
    (ai (aA (i:=7) mn.nd rfl (bx rfl) (aX vW (a8 GD hr rfl (ab (aX dU (pv 6) ao) (ab (aX gq ao (aX c_ (pv 6) ao)) (ab (pv 3) ah)))) (bD (ab (aF bo (pv 2) (aX gq (pv 5) ao) (λ_ _=>rfl)) ah))))
    (ak (bw (aV ik (aX c_ (aX dU (pv 6) ao) ao) ao (bu _))
     (ak (aA (i:=7) mn.nd rfl (bx rfl) (aX vW (dY qD (pv 7) (dS (j7 ip ao)) gh) (dY qD (pv 7) gh (dS (j7 ip ao)))))) aM))) aM))
   (ak (bX (ft eG fZ f_ bK (pv 4) (ab (bD (ab (aF bo (pv 2) (pv 5) (λ_ _=>rfl)) (ab (pv 7) ah))) ah))))))))
  (ak (aL (pv 4)))),?_⟩
 nofun
 refine⟨o7,λL hL=>?_⟩;have s1:=af hL (.lst []);have e1:upd H L (.lst []) L=some (.lst []):=ae;generalize upd H L (.lst [])=H1 at s1 e1;refine⟨_,rfl,N,_,rfl,.inl (aI.of (s1 _ _ hN)),((fU.map V.str).length:Int),rfl,by rw [au];omega,by rw [au];omega,?_⟩;rw [au,kr];refine g8 (n:=fU.length) (λi σ H3=>∃(rs:List Addr)(aa:List aw)(y5 y6 y7:Option V),σ=[aP S,some (.int (at_:Int)),aP N,aP W,aP L,y5,y6,y7]/\aC H H3/\H3 L=some (.lst (rs.map V.ref))/\bI K H3 rs aa/\aa.length=i/\∀(j:Nat)(ru:aw),aa[j]?=some ru->fU[j]?=some ru.1/\pR fU ws j ru.2) ⟨[],[],none,none,none,rfl,s1,e1,.nil,rfl,λj ru e=>by cases e⟩ ?_ ?_
 .intro i σ H3 hi jQ
  ac_nf0
  obtain⟨rs,aa,y5,y6,y7,rfl,s3,eL,rl,hl,hf⟩:=jQ;have lr:=aY rl;obtain⟨nm,YW⟩:∃nm,fU[i]?=some nm:=⟨fU[i],cf hi⟩;have atn:j9 (fU.map V.str) (0+(i:Int))=some (.str nm):=by
   rw [jb];exact bT (by rw [bh,YW];rfl)
  refine goN ?_
  ac_rfl
  refine⟨_,rfl,_,rfl,_,rfl,_,_,rfl,rfl,?_⟩;refine⟨S,ns,at_+i,(by show [V.ref S,V.int ((at_:Int)+(0+(i:Int)))]=_;congr 3;push_cast;omega),s3.seq hS,hn,λc _=>?_⟩;obtain⟨d,hd⟩:∃d:Nat,c % 3=(d:Int):=⟨(c % 3).toNat,∅⟩;refine⟨_,rfl,_,_,rfl,rfl,⟨nofun,nofun⟩,_,rfl,_,_,rfl,rfl,(by show (0:Int) < 3;decide),_,rfl,?_⟩;refine⟨_,d,W,ws,(by show [_,V.int (c % 3),_]=_;rw [hd]),∅,s3 _ _ hW,YO,∅,λp ps H4 s4 e4 l4 F8=>?_⟩;have xm:=s3.trans s4;have HL:=s4 _ _ eL;have RG:=rl.same s4;refine⟨λσ H5=>∃(p5:Addr) (bH:List Str),σ=[aP S,some (.int (at_:Int)),aP N,aP W,aP L,some (.int (0+(i:Int))),some (.int c),aP p5]/\aC H4 H5/\aQ K H5 p5 (bH.map V.str)/\pR fU ws i bH,?_,?_⟩
  .refine⟨_,rfl,_,_,rfl,rfl,_,rfl,N,_,rfl,.inl (aI.of (xm _ _ hN)),_,_,rfl,rfl,_,rfl,?_⟩;refine bZ (λcc=>?_) (λcc=>?_)
   .have lt:=dr cc;rw [au] at lt;have lt':i+1 < fU.length:=by omega
    obtain⟨n',Jc⟩:∃n',fU[i+1]?=some n':=⟨fU[i+1],cf lt'⟩;have W3:j9 (fU.map V.str) (0+(i:Int)+1)=some (.str n'):=by
     rw [jb,show (i:Int)+1=((i+1:Nat):Int) by push_cast;rfl];exact bT (by rw [bh,Jc];rfl)
    obtain⟨d2,hd2⟩:∃d2:Nat,1+c % 2=(d2:Int):=⟨(1+c % 2).toNat,∅⟩;refine⟨_,rfl,_,_,rfl,rfl,⟨nofun,nofun⟩,_,rfl,_,_,rfl,rfl,(by show (0:Int) < 2;decide),_,_,rfl,rfl,_,rfl,?_⟩;refine⟨_,d2,W,ws,(by show [_,V.int (1+c % 2),_]=_;rw [hd2]),∅,xm _ _ hW,YO,∅,λp6 wx H6 s6 e6 l6 YK=>?_⟩;have EN:=xm.trans s6;refine⟨_,rfl,_,rfl,_,_,rfl,rfl,N,_,_,_,rfl,rfl,aI.of (EN _ _ hN),W3,vk,λu hu=>?_⟩;have k7:=af hu (.tup [V.str n']);refine⟨p6,u,_,_,rfl,rfl,k7.tup (aQ.of e6),aQ.of ae,(by rw [au];show wx.length+1<=sizeLine;exact fits ∅),λp8 H8 s8 e8=>?_⟩;have Wz:aQ K H8 p8 ((wx++[n']).map V.str):=by rw [bG];exact e8
    have NH:=s6.trans (k7.trans s8);have Ru:wx≠[]:=λz=>by rw [z] at l6;simp at l6;omega
    refine⟨_,rfl,_,_,rfl,rfl,⟨nofun,nofun⟩,_,_,rfl,rfl,(by show (0:Int) < 2;decide),rfl,_,rfl,?_⟩;refine bZ (λc2=>?_) (λc2=>?_)
    .refine⟨_,rfl,_,rfl,_,rfl,p8,_,rfl,Wz,λp9 H9 s9 e9=>?_⟩;rw [GX] at e9;refine⟨_,rfl,_,rfl,_,rfl,p8,_,rfl,s9.tup Wz,λpA HA sA eA=>?_⟩;rw [GY] at eA;refine⟨p9,pA,_,_,rfl,rfl,sA.tup e9,eA,(by rw [au];show 1+wx.length<=sizeLine;exact fits ∅),λpB HB sB eB=>?_⟩;exact⟨pB,n'::wx,rfl,NH.trans (s9.trans (sA.trans sB)),eB,.inl ⟨n',wx,Jc,Ru,YK,∅,.inr rfl⟩⟩
    exact⟨p8,wx++[n'],rfl,NH,Wz,.inl ⟨n',wx,Jc,Ru,YK,∅,.inl rfl⟩⟩
   have ge:¬(0+(i:Int)+1 < ((fU.map V.str).length:Int)):=λz=>cc (bW z);rw [au] at ge;exact⟨p,ps,rfl,aC.refl _,aQ.of e4,.inr ⟨∅,F8,∅⟩⟩
  rintro σ H5 ⟨p5,bH,rfl,s5,e5,sk⟩;have xl:=xm.trans s5;have Df:=s5 _ _ HL;refine⟨_,rfl,.inl ⟨rfl,_,aI.of Df⟩,_,rfl,_,rfl,N,_,_,_,rfl,rfl,aI.of (xl _ _ hN),atn,_,rfl,kc,λR hR=>?_⟩;have k6:=af hR (.tup [.str nm,.ref p5]);have v1:aQ K (upd H5 R (.tup [.str nm,.ref p5])) R [.str nm,.ref p5]:=aQ.of ae;have v2:=k6.tup e5;generalize upd H5 R (.tup [.str nm,.ref p5])=H6 at k6 v1 v2;have HK:=k6 _ _ Df;refine⟨L,_,_,rfl,rfl,HK,bL (by rw [au];omega),?_⟩;refine⟨rs++[R],aa++[(nm,bH)],_,_,_,rfl,λb o hb=>?_,by rw [ae,bG];rfl,gR ((RG.same (s5.trans k6)).keep λb xs z=>aT HK z) ⟨p5,aT HK v1,aT HK v2⟩,by rw [bM,hl];rfl,λj ru e=>?_⟩
  .rw [aj (λz=>by rw [z,hL] at hb;cases hb)];exact k6 _ _ (xl b o hb)
  by_cases cj:j < aa.length
  .rw [mY cj] at e;exact hf j ru e
  have lj:=(bq.mp e).1;rw [bM,fQ] at lj;have ej:j=aa.length:=by omega
  subst ej;rw [lR (aH _),oI] at e;cases e;rw [hl];exact⟨YW,sk⟩
 rintro σ H3 ⟨rs,aa,y5,y6,y7,rfl,s3,eL,rl,hl,hf⟩;exact⟨_,rfl,q L rs aa H3 hL s3 eL rl hl hf⟩
end
end gL
namespace L2
open PySem
def lV {X:Cx}(K:a9)(hK:X.K=K:=by rfl):jj X (compareOp .NotIn) (RI K true):=by
 subst hK;exact iB
def gi (h:Str) (zs:List Str):Mo (.str h) (zs.map V.str)=decide (h∈zs):=by
 have:Mo (.str h) (zs.map V.str)=true↔h∈zs:=by
  unfold Mo;rw [List.any_eq_true];constructor
  .rintro⟨x,h1,h2⟩;obtain⟨z,hz,rfl⟩:=cQ.mp h1;have:z=h:=by simpa [xU] using h2
   rw [<-this];exact hz
  intro hm;exact⟨.str h,cQ.mpr ⟨h,hm,rfl⟩,by simp [xU]⟩
 by_cases c:h∈zs
 .rw [bW c];exact this.mpr c
 rw [dq c];cases e:Mo (.str h) (zs.map V.str) with
 | false=>rfl
 | true=>exact absurd (this.mp e) c
def cN (zs:List Str):(zs.map V.str).all iS=true:=by
 rw [gC];intro x hx;obtain⟨z,_,rfl⟩:=cQ.mp hx;rfl
section
variable {K:a9}{H:Hp}{p D:Addr}{zs:List Str}{σ:St}{x:Str}{js:List (Nat×Str)}{te:TE}{Qp:Hp->Prop}
def qg (rest:St)(pr:Str->Bool)(hc:eU [x] js σ=none::rest)(hp:aQ K H p (zs.map V.str))(hz:zs.length<=1000)(hD:H D=none)
  (P4:∀z∈zs,∀(H':Hp)(Qy:VK),aC H H'->Qy (.bl (pr z)) H'->te (some (.str z)::rest) H' Qy)
  (q:∀H2,aC H H2->H2 D=some (.lst ((zs.map pr).map V.bl))->Qp H2) :
  ∃W:Nat->Nat->List V->St->Hp->Prop,(∃m,W 0 m [] (eU [x] js σ) (upd H D (.lst []))) /\
 ∀i m ys σ' H,W i m ys σ' H->((ql K p).stop i H/\Qp H)\/((ql K p).go i H/\∃m',m' < m/\∀x H',(ql K p).m_ i H x H'->dQ 0 x σ' H' λσ2 H2=>ix σ2 H2 λb H3 =>
  if b=true then te σ2 H3 λy H4=>H4 D=some (.lst ys)/\ys.length < sizeLine/\W (i+1) m' (ys++[y]) σ2 (upd H4 D (.lst (ys++[y]))) else W (i+1) m' ys σ2 H3):=by
 refine g9 (xs:=zs.map V.str) (λi ys σ2 H2=>ys=((zs.take i).map pr).map V.bl/\(∃y0,σ2=y0::rest)/\aC H H2/\H2 D=some (.lst ys))
  ⟨rfl,⟨none,hc⟩,af hD _,ae⟩ (λi ys σ2 H2 _ h=>?_) (λi v ys σ2 H2 ex h=>?_) (λys σ2 H2 h=>?_)
 .obtain⟨_,_,sm,_⟩:=h;exact sm.tup hp
 .obtain⟨rfl,⟨y0,rfl⟩,sm,hd⟩:=h;rw [bh] at ex;obtain⟨z,ez,rfl⟩:=cq.mp ex;have li:=(bq.mp ez).1;refine goN (yB (P4 z (cg ez) _ _ sm ⟨hd,bL (by rw [au,au,dO];omega),?_,⟨_,rfl⟩,λb o hb=>?_,ae⟩))
  .rw [cS,ez,bG,bG];rfl
  rw [aj (λz=>by rw [z,hD] at hb;cases hb)];exact sm b o hb
 obtain⟨rfl,_,sm,hd⟩:=h;rw [au,cR] at hd;exact q H2 sm hd
def qh (rest:St)(pr:Str->Bool)(hc:eU [x] js σ=none::rest)(hp:aI K H p (zs.map V.str))(hz:zs.length<=1000)(hD:H D=none)
  (P4:∀z∈zs,∀(H':Hp)(Qy:VK),aC H H'->Qy (.bl (pr z)) H'->te (some (.str z)::rest) H' Qy)
  (q:∀H2,aC H H2->H2 D=some (.lst ((zs.map pr).map V.bl))->Qp H2) :
  ∃W:Nat->Nat->List V->St->Hp->Prop,(∃m,W 0 m [] (eU [x] js σ) (upd H D (.lst []))) /\
 ∀i m ys σ' H,W i m ys σ' H->((j_ K p).stop i H/\Qp H)\/((j_ K p).go i H/\∃m',m' < m/\∀x H',(j_ K p).m_ i H x H'->dQ 0 x σ' H' λσ2 H2=>ix σ2 H2 λb H3 =>
  if b=true then te σ2 H3 λy H4=>H4 D=some (.lst ys)/\ys.length < sizeLine/\W (i+1) m' (ys++[y]) σ2 (upd H4 D (.lst (ys++[y]))) else W (i+1) m' ys σ2 H3):=by
 refine cE (xs:=zs.map V.str) (λi ys σ2 H2=>ys=((zs.take i).map pr).map V.bl/\(∃y0,σ2=y0::rest)/\aC H H2/\H2 D=some (.lst ys))
  ⟨rfl,⟨none,hc⟩,af hD _,ae⟩ (λi ys σ2 H2 _ h=>?_) (λi v ys σ2 H2 ex h=>?_) (λys σ2 H2 h=>?_)
 .obtain⟨_,_,sm,_⟩:=h;exact sm.seq hp
 .obtain⟨rfl,⟨y0,rfl⟩,sm,hd⟩:=h;rw [bh] at ex;obtain⟨z,ez,rfl⟩:=cq.mp ex;have li:=(bq.mp ez).1;refine goN (yB (P4 z (cg ez) _ _ sm ⟨hd,bL (by rw [au,au,dO];omega),?_,⟨_,rfl⟩,λb o hb=>?_,ae⟩))
  .rw [cS,ez,bG,bG];rfl
  rw [aj (λz=>by rw [z,hD] at hb;cases hb)];exact sm b o hb
 obtain⟨rfl,_,sm,hd⟩:=h;rw [au,cR] at hd;exact q H2 sm hd
end
theorem all_map (zs:List Str)(pr:Str->Bool):(zs.map pr).all id=zs.all pr:=by
 rw [List.all_map];rfl
end L2
namespace gL
open PySem M11
abbrev hm (aa:List aw):List Str:=aa.map (·.1)
structure Small (aa:List aw):Prop where
 one:1<=aa.length
 most:aa.length<=8
 BH:∀ru∈aa,ru.2.length<=4
open PySem L2 M11
section
def jR {H:Hp}{R D:Addr}{rs:List Addr}{aa:List aw}{σ:St}{Qp:Hp->Prop}(hR:aI K H R (rs.map V.ref))(b_:bI K H rs aa)(br:aa.length<=1000)(hD:H D=none)
  (q:∀H2,aC H H2->H2 D=some (.lst ((hm aa).map V.str))->Qp H2) :
  ∃W:Nat->Nat->List V->St->Hp->Prop,(∃m,W 0 m [] (eU ["_law_head","_law_parts"] [] σ) (upd H D (.lst []))) /\
 ∀i m ys σ' H,W i m ys σ' H->((j_ K R).stop i H/\Qp H)\/((j_ K R).go i H/\∃m',m' < m/\∀x H',(j_ K R).m_ i H x H'->An K 2 (jB (dQ 0) (jB (dQ 1) C0)) x σ' H' λσ2 H2=>ix σ2 H2 λb H3 =>
  if b=true then gX 0 σ2 H3 λy H4=>H4 D=some (.lst ys)/\ys.length < sizeLine/\W (i+1) m' (ys++[y]) σ2 (upd H4 D (.lst (ys++[y]))) else W (i+1) m' ys σ2 H3):=by
 have ll:=aY b_;refine cE (xs:=rs.map V.ref) (λi ys σ2 H2=>ys=((hm aa).take i).map V.str/\(∃y0 y1,σ2=[y0,y1])/\aC H H2/\H2 D=some (.lst ys))
  ⟨rfl,⟨none,none,rfl⟩,af hD _,ae⟩ (λi ys σ2 H2 _ h=>?_) (λi x ys σ2 H2 ex h=>?_) (λys σ2 H2 h=>?_)
 .obtain⟨_,_,sm,_⟩:=h;exact sm.seq hR
 .obtain⟨rfl,⟨y0,y1,rfl⟩,sm,wM⟩:=h;rw [bh] at ex;obtain⟨r,er,rfl⟩:=cq.mp ex;obtain⟨ru,e1,p,v1,v2⟩:=b_.get er;have li:=(bq.mp e1).1;refine⟨r,_,rfl,sm.tup v1,rfl,_,_,rfl,_,_,rfl,rfl,?_⟩;refine yB ?_;refine⟨_,rfl,wM,bL (by rw [au,dO];omega),?_,⟨_,_,rfl⟩,λb o hb=>?_,ae⟩
  .have:(hm aa)[i]?=some ru.1:=by unfold hm;rw [bh,e1];rfl
   rw [cS,this,bG];rfl
  rw [aj (λz=>by rw [z,hD] at hb;cases hb)];exact sm b o hb
 obtain⟨rfl,_,sm,wM⟩:=h;rw [au,ll,mV (by unfold hm;rw [au];exact aH _)] at wM;exact q H2 sm wM
def Bg (K:a9):Sp:=λvs H Q _=>∃(R:Addr)(rs:List Addr)(aa:List aw)(b:Bool),vs=[.ref R,.bl b]/\aI K H R (rs.map V.ref)/\bI K H rs aa/\Small aa /\
 ∀(D:Addr)(H':Hp),H D=none->aC H H'->H' D=some (.lst ((dM b aa).map V.str))->(dM b aa).length<=64->Q (.ref D) H'
abbrev NE:List Str:=["_law_rules","_law_words_here","_law_head","_law_parts","_law_heads","_law_ended_here","_law_again","_law_good_here"]
def jK:aK NE ["_law_rules","_law_words_here"] (av zq):=ir rfl rfl rfl rfl nofun
def Fy (F:g_ K "_law_ended" "_law_ended" zq f fd)(T:Txt mg):bO P w K mg base fk 1 f fd ["_law_rules","_law_words_here"] (Bg K):=by
 refine F.ok jK (λvs H Q E h=>?_) (λdW A outer s H vs Q E hr h=>?_)
 .obtain⟨R,rs,aa,b,rfl,_⟩:=h;rfl
 obtain⟨R,rs,aa,b,rfl,hR,b_,CO,q⟩:=h;have U9:=CO.one;have U8:=CO.most;refine⟨_,ai (aA (i:=4) jK.nd rfl (Or.inr rfl) (bF ["_law_head","_law_parts"] [] rfl (aZ (pv 0)) (bp rfl rfl) nofun rfl nofun
   (λ_ _ _ _ _=>fJ (n:=2) K rfl (aE (aq (i:=0) (show (["_law_head","_law_parts"]:List Str).Nodup by decide +kernel) rfl (bx rfl)) (aE (aq (i:=1) (show (["_law_head","_law_parts"]:List Str).Nodup by decide +kernel) rfl (bx rfl)) b9))) (λ_ _ _ _ _=>bY)
   (λ_ _ _ _ _=>pv 0)))
  (ai (aA (i:=5) jK.nd rfl (Or.inr rfl) (bc ah))
  (ai (bQ b0 rfl (aZ (pv 0)) (aq (i:=6) jK.nd rfl (bx rfl))
   (ak (bQ b0 rfl (aZ (pv 0)) (fJ (n:=2) K rfl (aE (aq (i:=2) jK.nd rfl (bx rfl)) (aE (aq (i:=3) jK.nd rfl (bx rfl)) b9)))
    (ai (aA (i:=7) jK.nd rfl (bx rfl) (aD (iF rfl) rfl T.all boot_all (ab
      (bF ["_law_part"] [(5,"_law_ended_here"),(4,"_law_heads"),(1,"_law_words_here")] rfl (gI (pv 3)) (bp rfl rfl) nofun rfl nofun
       (λ_ _ _ _ _=>aq (i:=0) (show (["_law_part","_law_ended_here","_law_heads","_law_words_here"]:List Str).Nodup by decide +kernel) rfl (bx rfl)) (λ_ _ _ _ _=>bY)
       (λ_ _ _ _ _=>Pc (eQ (gp K) (pv 0) (pv 1) rfl) (kR (jM (pv 3) (kR (eQ (lV K) (pv 0) (pv 2) rfl)))))) ah)))
    (ak (bw (PW.pt (iK (cY (pv 7)) (gF (aV iB (pv 2) (pv 5) rfl))))
     (ak (bX (ft eG fZ f_ bK (pv 5) (ab (pv 2) ah)))) aM))))))
  (ak (aL (pv 5))))),?_⟩
 nofun
 refine⟨_,rfl,R,rfl,⟨_,hR⟩,λD hD=>jR hR b_ ∅ hD λH1 s1 eD=>?_⟩;refine goN ?_
 ac_rfl
 refine⟨o7,λL hL=>?_⟩;have s2:=s1.trans (af hL (.lst []));have KD:=af hL (.lst []) _ _ eD;have nL:L≠D:=λz=>by rw [z,eD] at hL;cases hL
 have fL:H L=none:=s1.free hL;have e2:upd H1 L (.lst []) L=some (.lst []):=ae;generalize upd H1 L (.lst [])=H2 at s2 KD e2;refine goN ?_
 ac_rfl
 have ll:=aY b_
 let wG:tG:=λi σ H3=>∃(es:List Str)(y2 y3 y6 y7:Option V),σ=[aP R,some (.bl b),y2,y3,aP D,aP L,y6,y7]/\aC H H3/\H3 D=some (.lst ((hm aa).map V.str))/\H3 L=some (.lst (es.map V.str))/\es=passes (λe=>gU b (hm aa) e aa) i []/\es.length<=8 * i
 refine⟨_,rfl,R,rfl,⟨_,s2.seq hR⟩,cD (xs:=rs.map V.ref) wG ⟨[],_,_,_,_,rfl,s2,KD,e2,rfl,by simp⟩ ?_ ?_ ?_⟩
 .rintro i σ H3 _ ⟨es,y2,y3,y6,y7,rfl,s3,_⟩;exact s3.seq hR
 .intro i x σ H3 ex jQ
  ac_nf0
  obtain⟨es,y2,y3,y6,y7,rfl,s3,Jo,Nd,he,Qn⟩:=jQ;have li:=(bq.mp ex).1;rw [au] at li;refine goN ?_
  ac_nf
  let Dy:tG:=λj σ H4=>∃(wt:List Str)(y2 y3 y7:Option V),σ=[aP R,some (.bl b),y2,y3,aP D,aP L,some x,y7]/\aC H H4/\H4 D=some (.lst ((hm aa).map V.str))/\H4 L=some (.lst (wt.map V.str))/\wt=gU b (hm aa) es (aa.take j)/\wt.length<=8 * i+j
  refine⟨_,rfl,R,rfl,⟨_,s3.seq hR⟩,cD (xs:=rs.map V.ref) Dy ⟨es,_,_,_,rfl,s3,Jo,Nd,rfl,∅⟩ ?_ ?_ ?_⟩
  .rintro j σ H4 _ ⟨wt,y2,y3,y7,rfl,s4,_⟩;exact s4.seq hR
  .intro j x2 σ H4 pM jQ
   ac_nf0
   obtain⟨wt,y2,y3,y7,rfl,s4,KC,HL,Ht,Qm⟩:=jQ;have lj:=(bq.mp pM).1;rw [au] at lj;rw [bh] at pM;obtain⟨r,er,rfl⟩:=cq.mp pM;obtain⟨ru,e1,p,v1,v2⟩:=b_.get er;have i8:=CO.BH ru (cg e1);refine⟨r,_,rfl,s4.tup v1,rfl,_,_,rfl,_,_,rfl,rfl,?_⟩;refine⟨_,rfl,p,rfl,⟨_,s4.tup v2⟩,λD2 i9=>qg (zs:=ru.2) [aP L,aP D,some (.bl b)] (λz=>decide (z∈wt) || (b && !decide (z∈hm aa))) rfl (s4.tup v2) ∅ i9 (λz _ H5 Qy s5 hq=>?_) λH5 s5 Nf=>?_⟩
   .refine⟨_,rfl,_,rfl,L,_,rfl,.inl (aI.of (s5 _ _ HL)),rfl,cN _,?_⟩;refine⟨_,rfl,?_⟩;rw [gi];show if decide (z∈wt)=true then _ else _;refine bZ (λc=>?_) (λc=>?_)
    .rw [c] at hq;exact hq
    have c':decide (z∈wt)=false:=by simpa using c
    rw [c',Bool.false_or] at hq;refine⟨_,rfl,b,rfl,?_⟩;refine bZ (λcb=>?_) (λcb=>?_)
    .rw [cb,jc] at hq;refine⟨_,rfl,_,rfl,D,_,rfl,.inl (aI.of (s5 _ _ KC)),rfl,cN _,?_⟩;rw [gi];exact hq
    have cb':b=false:=by simpa using cb
    rw [cb',qX] at hq;exact hq
   refine⟨D2,_,rfl,aI.of Nf,?_⟩;rw [all_map];refine goN ?_
   ac_rfl
   have xj:=s4.trans s5;have Df:=s5 _ _ HL;have pe:gU b (hm aa) es (aa.take (j+1))=eI b (hm aa) wt ru:=by
    rw [Ht,cS,e1];unfold gU;rw [List.foldl_append];rfl
   refine⟨_,rfl,_,rfl,?_⟩;refine bZ (λc=>?_) (λc=>?_)
   .refine⟨_,rfl,_,rfl,L,_,rfl,.inl (aI.of Df),rfl,cN _,_,rfl,?_⟩;rw [gi];show if (!decide (ru.1∈wt))=true then _ else _;refine bZ (λc2=>?_) (λc2=>?_)
    .refine⟨_,rfl,.inl ⟨rfl,_,aI.of Df⟩,_,rfl,L,_,_,rfl,rfl,Df,bL (by rw [au];omega),?_⟩;refine⟨wt++[ru.1],_,_,_,rfl,λb o hb=>?_,by rw [aj (cP nL)];exact s5 _ _ KC,by rw [ae,bG];rfl,?_,by rw [bM];simp;omega⟩
     .rw [aj (λz=>by rw [z,fL] at hb;cases hb)];exact xj b o hb
     rw [pe];unfold eI;rw [c,jc,ax c2]
    refine⟨wt,_,_,_,rfl,xj,s5 _ _ KC,Df,?_,∅⟩;rw [pe];unfold eI;rw [c,jc,az c2]
   refine⟨wt,_,_,_,rfl,xj,s5 _ _ KC,Df,?_,∅⟩;rw [pe];unfold eI;rw [az (λz=>c (h_.mp z).1)]
  rintro σ H4 ⟨wt,y2,y3,y7,rfl,s4,KC,HL,Ht,Qm⟩;rw [au,ll] at Qm;rw [au,ll,cR] at Ht;exact⟨wt,_,_,_,_,rfl,s4,KC,HL,by rw [Ht,he];rfl,∅⟩
 rintro σ H3 ⟨es,y2,y3,y6,y7,rfl,s3,Jo,Nd,he,Qn⟩;rw [au,ll] at he Qn;refine⟨_,rfl,?_⟩;have e:dM b aa=es:=he.symm;exact q L H3 fL s3 (by rw [e];exact Nd) (by rw [e];omega)
end
def uJ (zs:List Str) (j:Nat):gy (zs.map V.str) none (some (0+(j:Int)))=(zs.take j).map V.str:=by
 rw [jb];unfold gy;rw [HT.ig,HT.jL,oN,kC,au,oK]
 conv=>rhs;rw [List.take_eq_take_min,au]
def Dl (zs:List Str) (j:Nat):gy (zs.map V.str) (some (0+(j:Int)+1)) none=(zs.drop (j+1)).map V.str:=by
 rw [jb,show (j:Int)+1=((j+1:Nat):Int) by push_cast;rfl];unfold gy;rw [HT.ig,HT.jL,au,List.map_drop];by_cases h:j+1<=zs.length
 .rw [Nat.min_eq_left h,mV (by rw [pX,au];exact aH _)]
 rw [Nat.min_eq_right ∅,oI,oO,List.drop_eq_nil_of_le (by rw [au];omega)]
def AL (aa:List aw) (ms:List Str):Prop:=∀(i:Nat)(h:Str),ms[i]?=some h->(∃lU,aa[0]?=some lU/\h=lU.1)\/∃ru∈aa,ru.1∈ms.take i/\h∈ru.2
def Hf (aa:List aw)(ru:aw) (j:Nat)(z:Str):Prop:=ru.2[j]?=some z/\z∈hm aa/\∀(k:Nat)(y:Str),k≠j->ru.2[k]?=some y->y∈dM false aa
def PlO (aa:List aw) (cs:List Str):Prop:=∀(i:Nat)(h:Str),cs[i]?=some h->∀ru∈aa,ru.1=h->∀(j:Nat)(z:Str),Hf aa ru j z->z∈cs.take i
structure B2 (aa:List aw) (ms cs:List Str):Prop where
 en:∀z∈hm aa,z∈dM true aa
 mo:AL aa ms
 ma:∀z∈hm aa,z∈ms
 cn:cs.Nodup
 ch:∀x∈cs,x∈hm aa
 co:PlO aa cs
 ca:∀z∈hm aa,z∈cs
def AL.app {aa:List aw}{ms zs:List Str}{ru:aw}(h:AL aa ms)(hr:ru∈aa)(h1:ru.1∈ms)(h2:∀z∈zs,z∈ru.2):AL aa (ms++zs):=by
 intro i x hx;by_cases l:i < ms.length
 .rw [mY l] at hx;rcases h i x hx with a | ⟨r,a,b,c⟩
  .exact .inl a
  exact .inr ⟨r,a,by rw [qa ∅];exact b,c⟩
 rw [lR ∅] at hx;refine .inr ⟨ru,hr,?_,h2 x (cg hx)⟩;rw [List.take_append,mV ∅];exact jm _ h1
def Xn (aa:List aw)(ri:List aw)(gw:List (Str×Str)):Prop:=∀ru∈ri,∀(j:Nat)(z:Str),Hf aa ru j z->(ru.1,z)∈gw
structure Om (aa:List aw)(gw:List (Str×Str)) (cs:List Str):Prop where
 cn:cs.Nodup
 ch:∀x∈cs,x∈hm aa
 co:∀(i:Nat)(h:Str),cs[i]?=some h->∀z,(h,z)∈gw->z∈cs.take i
def Om.add {aa:List aw}{gw:List (Str×Str)}{cs:List Str}{nm:Str}(h:Om aa gw cs)(n:nm∉cs)(hh:nm∈hm aa)(a:∀z,(nm,z)∈gw->z∈cs):Om aa gw (cs++[nm]):=by
 refine⟨kx.mpr ⟨h.cn,by simp,λx hx y hy z=>n (by rw [<-bV.mp hy,<-z];exact hx)⟩,λx hx=>?_,λi x hx z hz=>?_⟩
 .rcases cC.mp hx with q | q
  .exact h.ch x q
  rw [bV.mp q];exact hh
 by_cases l:i < cs.length
 .rw [mY l] at hx;rw [qa ∅];exact h.co i x hx z hz
 have li:=(bq.mp hx).1;rw [bM,fQ] at li;have:i=cs.length:=by omega
 subst this;rw [lR (aH _),oI] at hx;cases hx;rw [qa (aH _),cR];exact a z hz
section
def Eu (K:a9):Sp:=λvs H Q _=>∃(R:Addr)(rs:List Addr)(aa:List aw),vs=[.ref R]/\aI K H R (rs.map V.ref)/\bI K H rs aa/\Small aa /\
 ∀(b:Bool)(H':Hp),aC H H'->(b=true->∃ms cs,B2 aa ms cs)->Q (.bl b) H'
abbrev NG:List Str:=["_law_rules","_law_head","_law_parts","_law_heads","_law_ended_here","_law_met","_law_again","_law_empty","_law_alone","_law_k","_law_others","_law_placed","_law_name","_law_later"]
def e_:aK NG ["_law_rules"] (av EK):=ir rfl rfl rfl rfl nofun
def IQ (F:g_ K "_law_good" "_law_good" EK f fd)(T:Txt mg)(GE:aB P w K mg base 1 "_law_ended" ["_law_rules","_law_words_here"] (Bg K)):bO P w K mg base fk 2 f fd ["_law_rules"] (Eu K):=by
 refine F.ok e_ (λvs H Q E h=>?_) (λdW A outer s H vs Q E hr h=>?_)
 .obtain⟨R,rs,aa,rfl,_⟩:=h;rfl
 obtain⟨R,rs,aa,rfl,hR,b_,CO,q⟩:=h;have U9:=CO.one;have U8:=CO.most;refine⟨_,ai (aA (i:=3) e_.nd rfl (Or.inr rfl) (bF ["_law_head","_law_parts"] [] rfl (aZ (pv 0)) (bp rfl rfl) nofun rfl nofun
   (λ_ _ _ _ _=>fJ (n:=2) K rfl (aE (aq (i:=0) (show (["_law_head","_law_parts"]:List Str).Nodup by decide +kernel) rfl (bx rfl)) (aE (aq (i:=1) (show (["_law_head","_law_parts"]:List Str).Nodup by decide +kernel) rfl (bx rfl)) b9))) (λ_ _ _ _ _=>bY)
   (λ_ _ _ _ _=>pv 0)))
  (ai (aA (i:=4) e_.nd rfl (Or.inr rfl) (a8 GE hr rfl (ab (pv 0) (ab dI ah))))
  (ai (aA (i:=5) e_.nd rfl (Or.inr rfl) (dY iz (pv 3) gh (dS ao)))
  (ai (bQ b0 rfl (aZ (pv 0)) (aq (i:=6) e_.nd rfl (bx rfl))
   (ak (bQ b0 rfl (aZ (pv 0)) (fJ (n:=2) K rfl (aE (aq (i:=1) e_.nd rfl (bx rfl)) (aE (aq (i:=2) e_.nd rfl (bx rfl)) b9)))
    (ak (bw (aV lC (pv 1) (pv 5) rfl)
     (ak (aA (i:=5) e_.nd rfl (Or.inr rfl) (aX iN (pv 5)
      (bF ["_law_part"] [(3,"_law_heads"),(5,"_law_met")] rfl (gI (pv 2)) (bp rfl rfl) nofun rfl nofun
       (λ_ _ _ _ _=>aq (i:=0) (show (["_law_part","_law_heads","_law_met"]:List Str).Nodup by decide +kernel) rfl (bx rfl))
       (λ_ _ _ _ _=>hJ (PW.pt (iK (aV (gp K) (pv 0) (pv 1) rfl) (gF (aV (lV K) (pv 0) (pv 2) rfl)))))
       (λ_ _ _ _ _=>pv 0))))) aM)))))
  (ai (aA (i:=7) e_.nd rfl (Or.inr rfl) (a8 GE hr rfl (ab (pv 0) (ab dI ah))))
  (ai (aA (i:=8) e_.nd rfl (bx rfl) (bc ah))
  (ai (bQ b0 rfl (aZ (pv 0)) (fJ (n:=2) K rfl (aE (aq (i:=1) e_.nd rfl (bx rfl)) (aE (aq (i:=2) e_.nd rfl (bx rfl)) b9)))
   (ak (bQ b0 rfl (gZ rfl T.DJ (ab (aD aG rfl T.len cU (ab (pv 2) ah)) ah)) (aq (i:=9) e_.nd rfl (bx rfl))
    (ai (aA (i:=10) e_.nd rfl (bx rfl) (aX vW (dY qD (pv 2) gh (dS (pv 9))) (dY qD (pv 2) (dS (aX gq (pv 9) ao)) gh)))
    (ak (bw (PW.pt (iK (aV lC (aF aN (pv 2) (pv 9) (λ_ _=>rfl)) (pv 3) rfl) (gF (cY (aD (iF rfl) rfl T.all boot_all (ab
      (bF ["_law_part"] [(7,"_law_empty")] rfl (gI (pv 10)) (bp rfl rfl) nofun rfl nofun
       (λ_ _ _ _ _=>aq (i:=0) (show (["_law_part","_law_empty"]:List Str).Nodup by decide +kernel) rfl (bx rfl)) (λ_ _ _ _ _=>bY)
       (λ_ _ _ _ _=>eQ (gp K) (pv 0) (pv 1) rfl)) ah))))))
     (ak (bX (ft eG fZ f_ bK (pv 8) (ab (bD (ab (pv 1) (ab (aF aN (pv 2) (pv 9) (λ_ _=>rfl)) ah))) ah)))) aM))))))
  (ai (aA (i:=11) e_.nd rfl (Or.inr rfl) (bc ah))
  (ai (bQ b0 rfl (aZ (pv 0)) (aq (i:=6) e_.nd rfl (bx rfl))
   (ak (bQ b0 rfl (aZ (pv 3)) (aq (i:=12) e_.nd rfl (Or.inr rfl))
    (ai (iA (iy:=13) ["_law_pair"] [(12,"_law_name")] e_.nd rfl rfl rfl (aZ (pv 8)) (bp rfl rfl) nofun rfl nofun
      (λ_ _ _ _ _=>aq (i:=0) (show (["_law_pair","_law_name"]:List Str).Nodup by decide +kernel) rfl (bx rfl))
      (λ_ _ _ _ _=>hJ (aV ik (aF (qK K) (pv 0) ao (λ_ _=>rfl)) (pv 1) (bu _))) (λ_ _ _ _ _=>aF (qK K) (pv 0) ao (λ_ _=>rfl)))
    (ak (bw (PW.pt (iK (cY (aD (iF rfl) rfl T.all boot_all (ab
      (bF ["_law_other"] [(11,"_law_placed")] rfl (aZ (pv 13)) (bp rfl rfl) nofun rfl nofun
       (λ_ _ _ _ _=>aq (i:=0) (show (["_law_other","_law_placed"]:List Str).Nodup by decide +kernel) rfl (bx rfl)) (λ_ _ _ _ _=>bY)
       (λ_ _ _ _ _=>eQ (gp K) (pv 0) (pv 1) rfl)) ah))) (gF (aV iB (pv 12) (pv 11) rfl))))
     (ak (bX (ft eG fZ f_ bK (pv 11) (ab (pv 12) ah)))) aM))))))
  (ak (aL (aD (iF rfl) rfl T.all boot_all (ab
   (bF ["_law_name"] [(4,"_law_ended_here"),(5,"_law_met"),(11,"_law_placed")] rfl (aZ (pv 3)) (bp rfl rfl) nofun rfl nofun
    (λ_ _ _ _ _=>aq (i:=0) (show (["_law_name","_law_ended_here","_law_met","_law_placed"]:List Str).Nodup by decide +kernel) rfl (bx rfl)) (λ_ _ _ _ _=>bY)
    (λ_ _ _ _ _=>jM (eQ (gp K) (pv 0) (pv 1) rfl) (jM (eQ (gp K) (pv 0) (pv 2) rfl) (kR (eQ (gp K) (pv 0) (pv 3) rfl))))) ah)))))))))))),?_⟩
 nofun
 have ll:=aY b_;refine⟨_,rfl,R,rfl,⟨_,hR⟩,λD hD=>jR hR b_ ∅ hD λH1 s1 eD=>?_⟩;refine goN ?_
 ac_rfl
 refine⟨_,rfl,R,rs,aa,true,rfl,s1.seq hR,b_.same s1,CO,λEn H2 fE s2 eE lE=>?_⟩;refine goN ?_
 ac_rfl
 have Wi:gy ((hm aa).map V.str) none (some 1)=((hm aa).take 1).map V.str:=uJ (hm aa) 1;have Qr:(hm aa).length=aa.length:=by unfold hm;rw [au]
 refine⟨_,rfl,_,rfl,D,_,rfl,aI.of (s2 _ _ eD),λM0 hM0=>?_⟩;rw [Wi];have lm0:((hm aa).take 1).length<=1:=by rw [dO];omega
 have Ym:AL aa ((hm aa).take 1):=λi h e=>by
  have li:=(bq.mp e).1;have:i=0:=by omega
  subst this;rw [rB ∅] at e;rw [bh] at e;obtain⟨r0,e0,rfl⟩:=cq.mp e;exact .inl ⟨r0,e0,rfl⟩
 generalize (hm aa).take 1=m0 at lm0 Ym;have k3:=af hM0 (.lst (m0.map V.str));have s3:=(s1.trans s2).trans k3;have Jo:=k3 _ _ (s2 _ _ eD);have Wt:=k3 _ _ eE;have ZS:upd H2 M0 (.lst (m0.map V.str)) M0=some (.lst (m0.map V.str)):=ae;generalize upd H2 M0 (.lst (m0.map V.str))=H3 at k3 s3 Jo Wt ZS;refine goN ?_
 ac_rfl
 let wG:tG:=λi σ H4=>∃(M:Addr) (ms:List Str)(y1 y2 y6:Option V),σ=[aP R,y1,y2,aP D,aP En,aP M,y6,none,none,none,none,none,none,none]/\aC H3 H4/\H4 M=some (.lst (ms.map V.str))/\ms.length<=8+40 * i/\AL aa ms
 refine⟨_,rfl,R,rfl,⟨_,s3.seq hR⟩,cD (xs:=rs.map V.ref) wG ⟨M0,m0,_,_,_,rfl,λ_ _ h=>h,ZS,∅,Ym⟩ ?_ ?_ ?_⟩
 .rintro i σ H4 _ ⟨M,ms,y1,y2,y6,rfl,s4,_⟩;exact s4.seq (s3.seq hR)
 .intro i x σ H4 ex jQ
  ac_nf0
  obtain⟨M,ms,y1,y2,y6,rfl,s4,eM,lM,mO⟩:=jQ;have li:=(bq.mp ex).1;rw [au] at li;refine goN ?_
  ac_nf
  let Dy:tG:=λj σ H5=>∃(M:Addr) (ms:List Str)(y1 y2:Option V),σ=[aP R,y1,y2,aP D,aP En,aP M,some x,none,none,none,none,none,none,none]/\aC H3 H5/\H5 M=some (.lst (ms.map V.str))/\ms.length<=8+40 * i+4 * j/\AL aa ms
  refine⟨_,rfl,R,rfl,⟨_,s4.seq (s3.seq hR)⟩,cD (xs:=rs.map V.ref) Dy ⟨M,ms,_,_,rfl,s4,eM,∅,mO⟩ ?_ ?_ ?_⟩
  .rintro j σ H5 _ ⟨M,ms,y1,y2,rfl,s5,_⟩;exact s5.seq (s3.seq hR)
  .intro j x2 σ H5 pM jQ
   ac_nf0
   obtain⟨M,ms,y1,y2,rfl,s5,eM,lM,mO⟩:=jQ;have lj:=(bq.mp pM).1;rw [au] at lj;rw [bh] at pM;obtain⟨r,er,rfl⟩:=cq.mp pM;obtain⟨ru,e1,p,v1,v2⟩:=b_.get er;have i8:=CO.BH ru (cg e1);have xl:=s3.trans s5;refine⟨r,_,rfl,xl.tup v1,rfl,_,_,rfl,_,_,rfl,rfl,?_⟩;refine⟨_,rfl,_,rfl,M,_,rfl,.inl (aI.of eM),rfl,cN _,_,rfl,?_⟩;refine bZ (λc=>?_) (λc=>?_)
   .refine⟨_,rfl,_,rfl,p,rfl,⟨_,xl.tup v2⟩,λD2 i9=>g9 (xs:=ru.2.map V.str) (λk ys σ2 H6=>∃zs:List Str,ys=zs.map V.str/\zs.length<=k/\(∃y0,σ2=[y0,aP D,aP M])/\aC H5 H6/\H6 D2=some (.lst ys)/\∀z∈zs,z∈ru.2)
     ⟨[],rfl,aH _,⟨none,rfl⟩,af i9 _,ae,λ_ h=>(by cases h)⟩ (λk ys σ2 H6 _ h=>?_) (λk v ys σ2 H6 ex h=>?_) (λys σ2 H6 h=>?_)⟩
    .obtain⟨_,_,_,_,s6,_⟩:=h;exact s6.tup (xl.tup v2)
    .obtain⟨zs,rfl,lz,⟨y0,rfl⟩,s6,KD,zm⟩:=h;have lk:=(bq.mp ex).1;rw [au] at lk;rw [bh] at ex;obtain⟨z,ez,rfl⟩:=cq.mp ex;refine goN ?_;refine⟨_,rfl,_,rfl,D,_,rfl,.inl (aI.of (s6 _ _ (s5 _ _ Jo))),rfl,cN _,_,rfl,?_⟩;refine bZ (λc1=>?_) (λc1=>?_)
     .refine⟨_,rfl,_,rfl,M,_,rfl,.inl (aI.of (s6 _ _ eM)),rfl,cN _,_,rfl,?_⟩;refine bZ (λc2=>?_) (λc2=>?_)
      .refine⟨_,rfl,KD,bL (by rw [au];omega),zs++[z],by rw [bG];rfl,by rw [bM];simp;omega,⟨_,rfl⟩,λb o hb=>?_,ae,λy hy=>(cC.mp hy).elim (zm y) λq=>(bV.mp q) ▸ cg ez⟩;rw [aj (λz=>by rw [z,i9] at hb;cases hb)];exact s6 b o hb
      exact⟨zs,rfl,∅,⟨_,rfl⟩,s6,KD,zm⟩
     refine df ?_;exact⟨zs,rfl,∅,⟨_,rfl⟩,s6,KD,zm⟩
    obtain⟨zs,rfl,lz,_,s6,KD,zm⟩:=h;have cm:ru.1∈ms:=dr ((gi _ _).symm.trans c);rw [au] at lz;refine⟨M,D2,_,_,rfl,rfl,s6 _ _ eM,KD,fits (by rw [au,au];omega),λM2 hM2=>?_⟩;rw [<-bG];refine⟨M2,ms++zs,_,_,rfl,(s5.trans s6).trans (af hM2 _),ae,by rw [bM];omega,mO.app (cg e1) cm zm⟩
   exact⟨M,ms,_,_,rfl,s5,eM,∅,mO⟩
  rintro σ H5 ⟨M,ms,y1,y2,rfl,s5,eM,lM,mO⟩;rw [au,ll] at lM;exact⟨M,ms,_,_,_,rfl,s5,eM,∅,mO⟩
 rintro σ H4 ⟨M,ms,y1,y2,y6,rfl,s4,eM,lM,mO⟩;have xm:=s3.trans s4;refine⟨_,rfl,R,rs,aa,false,rfl,xm.seq hR,b_.same xm,CO,λEm H5 fEm s5 ZT lEm=>?_⟩;refine goN ?_
 ac_rfl
 refine⟨o7,λAl V2=>?_⟩;have k6:=af V2 (.lst []);have s6:=(xm.trans s5).trans k6;have Sv:=k6 _ _ (s5 _ _ (s4 _ _ Jo));have ZU:=k6 _ _ (s5 _ _ (s4 _ _ Wt));have ZR:=k6 _ _ (s5 _ _ eM);have QX:=k6 _ _ ZT;have Z2:upd H5 Al (.lst []) Al=some (.lst []):=ae;have nA:∀b o,H5 b=some o->b≠Al:=λb o h z=>by rw [z,V2] at h;cases h
 have nAD:=nA _ _ (s5 _ _ (s4 _ _ Jo));have nAE:=nA _ _ (s5 _ _ (s4 _ _ Wt));have nAM:=nA _ _ (s5 _ _ eM);have nAm:=nA _ _ ZT;have fAl:H Al=none:=(xm.trans s5).free V2;generalize upd H5 Al (.lst [])=H6 at k6 s6 Sv ZU ZR QX Z2;refine goN ?_
 ac_rfl
 let Kp:Hp->Prop:=λH7=>aC H H7/\H7 D=some (.lst ((hm aa).map V.str))/\H7 En=some (.lst ((dM true aa).map V.str))/\H7 M=some (.lst (ms.map V.str))/\H7 Em=some (.lst ((dM false aa).map V.str))
 have i6:∀{H7 H8:Hp},Kp H7->aC H7 H8->Kp H8:=λh s=>⟨h.1.trans s,s _ _ h.2.1,s _ _ h.2.2.1,s _ _ h.2.2.2.1,s _ _ h.2.2.2.2⟩;have PQ:∀{H7:Hp}{xs:List V},Kp H7->Kp (upd H7 Al (.lst xs)):=λh=>⟨λb o hb=>by rw [aj (λz=>by rw [z,fAl] at hb;cases hb)];exact h.1 b o hb,by rw [aj nAD];exact h.2.1,by rw [aj nAE];exact h.2.2.1,by rw [aj nAM];exact h.2.2.2.1,by rw [aj nAm];exact h.2.2.2.2⟩
 let K3:Hp->List Addr->List (Str×Str)->Prop:=λH7 as gw=>Paired (λa (pr:Str×Str)=>aQ K H7 a [.str pr.1,.str pr.2]) as gw
 let Rk:tG:=λi σ H7=>∃(as:List Addr)(gw:List (Str×Str))(y1 y2 y6 y9 yr:Option V),σ=[aP R,y1,y2,aP D,aP En,aP M,y6,aP Em,aP Al,y9,yr,none,none,none]/\Kp H7/\H7 Al=some (.lst (as.map V.ref))/\K3 H7 as gw/\as.length<=4 * i/\Xn aa (aa.take i) gw
 refine⟨_,rfl,R,rfl,⟨_,s6.seq hR⟩,cD (xs:=rs.map V.ref) Rk ⟨[],[],_,_,_,_,_,rfl,⟨s6,Sv,ZU,ZR,QX⟩,Z2,.nil,by simp,λru h=>(by simp at h)⟩ ?_ ?_ ?_⟩
 .rintro i σ H7 _ ⟨as,gw,y1,y2,y6,y9,yr,rfl,kp,_⟩;exact kp.1.seq hR
 .intro i x2 σ H7 pM jQ
  ac_nf0
  obtain⟨as,gw,y1,y2,y6,y9,yr,rfl,kp,eA,pA,lA,aO⟩:=jQ;have lj:=(bq.mp pM).1;rw [au] at lj;rw [bh] at pM;obtain⟨r,er,rfl⟩:=cq.mp pM;obtain⟨ru,e1,p,v1,v2⟩:=b_.get er;have i8:=CO.BH ru (cg e1);refine⟨r,_,rfl,kp.1.tup v1,rfl,_,_,rfl,_,_,rfl,rfl,?_⟩;refine⟨_,rfl,p,_,rfl,.inr (kp.1.tup v2),_,rfl,by rw [au];omega,by rw [au];omega,?_⟩;rw [au,kr]
  let Iz4:tG:=λj σ H8=>∃(as:List Addr)(gw:List (Str×Str))(y9 yr:Option V),σ=[aP R,some (.str ru.1),aP p,aP D,aP En,aP M,y6,aP Em,aP Al,y9,yr,none,none,none]/\Kp H8/\H8 Al=some (.lst (as.map V.ref))/\K3 H8 as gw/\as.length<=4 * i+j/\Xn aa (aa.take i) gw/\∀(j2:Nat)(z2:Str),j2 < j->Hf aa ru j2 z2->(ru.1,z2)∈gw
  refine g8 (n:=ru.2.length) Iz4 ⟨as,gw,_,_,rfl,kp,eA,pA,∅,aO,λj2 _ h=>by omega⟩ ?_ ?_
  .intro j σ H8 hj jQ
   ac_nf0
   obtain⟨as,gw,y9,yr,rfl,kp,eA,pA,lA,aO,aJ⟩:=jQ;obtain⟨z,ez⟩:∃z,ru.2[j]?=some z:=⟨ru.2[j]'∅,cf ∅⟩;have atj:j9 (ru.2.map V.str) (0+(j:Int))=some (.str z):=by
    rw [jb];exact bT (by rw [bh,ez];rfl)
   have eq1:=uJ ru.2 j;have eq2:=Dl ru.2 j;have lq1:(ru.2.take j).length<=ru.2.length:=by rw [dO];omega
   have lq2:(ru.2.drop (j+1)).length<=ru.2.length:=by rw [pX];omega
   have LN:∀y,y∈ru.2.take j++ru.2.drop (j+1)->∃k,k≠j/\ru.2[k]?=some y:=λy hy=>by
    rcases cC.mp hy with h | h
    .obtain⟨k,lk,ek⟩:=qA h;exact⟨k,∅,ek⟩
    obtain⟨k,ek⟩:=iw h;rw [rg] at ek;exact⟨j+1+k,∅,ek⟩
   generalize ru.2.take j=q1 at eq1 lq1 LN;generalize ru.2.drop (j+1)=q2 at eq2 lq2 LN;refine goN ?_
   ac_rfl
   refine⟨_,rfl,_,rfl,_,rfl,p,_,rfl,kp.1.tup v2,λt1 H9 s9 e9=>?_⟩;rw [eq1] at e9;refine⟨_,rfl,_,rfl,_,_,rfl,rfl,_,rfl,p,_,rfl,s9.tup (kp.1.tup v2),λt2 HA sA Z3=>?_⟩;rw [eq2] at Z3;refine⟨t1,t2,_,_,rfl,rfl,sA.tup e9,Z3,fits (by rw [au,au];omega),λt3 HB sB eB=>?_⟩;rw [<-bG] at eB;refine goN ?_
   ac_rfl
   have TJ:=s9.trans (sA.trans sB);have FU:=i6 kp TJ;have Wy:=TJ _ _ eA;have X6:K3 HB as gw:=Paired.dJ pA λa pr z=>TJ.tup z;have xF:∀{HC:Hp},aC HB HC->¬Hf aa ru j z->∃(as:List Addr)(gw:List (Str×Str))(y9' SW:Option V),[aP R,some (.str ru.1),aP p,aP D,aP En,aP M,y6,aP Em,aP Al,some (.int (0+(j:Int))),aP t3,none,none,none]=[aP R,some (.str ru.1),aP p,aP D,aP En,aP M,y6,aP Em,aP Al,y9',SW,none,none,none]/\Kp HC/\HC Al=some (.lst (as.map V.ref))/\K3 HC as gw/\as.length<=4 * i+(j+1)/\Xn aa (aa.take i) gw/\∀(j2:Nat)(z2:Str),j2 < j+1->Hf aa ru j2 z2->(ru.1,z2)∈gw:=λ{HC} sC nl=>⟨as,gw,_,_,rfl,i6 FU sC,sC _ _ Wy,Paired.dJ X6 λa pr z=>sC.tup z,∅,aO,λj2 z2 h lo=>by
    by_cases c:j2 < j
    .exact aJ j2 z2 c lo
    have:j2=j:=by omega
    subst this;have e2:=lo.1;rw [ez] at e2;cases e2;exact absurd lo nl⟩
   refine⟨_,rfl,_,rfl,p,_,_,_,rfl,rfl,FU.1.tup v2,atj,_,rfl,D,_,rfl,.inl (aI.of FU.2.1),rfl,cN _,_,rfl,?_⟩;refine bZ (λc1=>?_) (λc1=>?_)
   .refine⟨_,rfl,t3,rfl,⟨_,eB⟩,λD2 i9=>qg (zs:=q1++q2) [aP Em] (λz=>decide (z∈dM false aa)) rfl eB (by rw [bM];omega) i9 (λz _ H5 Qy s5 hq=>?_) λHC sC eC=>?_⟩
    .refine⟨_,rfl,_,rfl,Em,_,rfl,.inl (aI.of (s5 _ _ FU.2.2.2.2)),rfl,cN _,?_⟩;rw [gi];exact hq
    refine⟨D2,_,rfl,aI.of eC,_,rfl,?_⟩;refine bZ (λc2=>?_) (λc2=>?_)
    .have kpC:=i6 FU sC;refine⟨_,rfl,.inl ⟨rfl,_,aI.of (sC _ _ Wy)⟩,_,rfl,_,rfl,_,rfl,p,_,_,_,rfl,rfl,kpC.1.tup v2,atj,kc,λt ht=>?_⟩;have kD:=af ht (.tup [.str ru.1,.str z]);have sD:=sC.trans kD;have vD:aQ K (upd HC t (.tup [.str ru.1,.str z])) t [.str ru.1,.str z]:=aQ.of ae;generalize upd HC t (.tup [.str ru.1,.str z])=HD at kD sD vD;have Wx:=sD _ _ Wy;refine⟨Al,_,_,rfl,rfl,Wx,bL (by rw [au];omega),?_⟩;exact⟨as++[t],gw++[(ru.1,z)],_,_,rfl,PQ (i6 FU sD),by rw [ae,bG];rfl,gR (Paired.dJ X6 λa pr z=>aT Wx (sD.tup z)) (aT Wx vD),by rw [bM];simp;omega,λr RT j2 z2 lo=>jm _ (aO r RT j2 z2 lo),λj2 z2 h lo=>by
      by_cases c:j2 < j
      .exact jm _ (aJ j2 z2 c lo)
      have:j2=j:=by omega
      subst this;have e2:=lo.1;rw [ez] at e2;cases e2;exact fY _ cV⟩
    refine xF sC λlo=>c2 ?_;rw [all_map];refine gC.mpr λy hy=>bW ?_;obtain⟨k,nk,ek⟩:=LN y hy;exact lo.2.2 k y nk ek
   refine df ?_;exact xF (λ_ _ h=>h) λlo=>c1 ((gi _ _).trans (bW lo.2.1))
  rintro σ H8 ⟨as,gw,y9,yr,rfl,kp,eA,pA,lA,aO,aJ⟩;refine⟨as,gw,_,_,_,_,_,rfl,kp,eA,pA,∅,λr RT j2 z2 lo=>?_⟩;rw [cS,e1] at RT;rcases cC.mp RT with h | h
  .exact aO r h j2 z2 lo
  have:r=ru:=bV.mp h;subst this;exact aJ j2 z2 (bq.mp lo.1).1 lo
 rintro σ H7 ⟨as,gw,y1,y2,y6,y9,yr,rfl,kp,eA,pA,lA,aO⟩;rw [au,ll] at lA aO;rw [cR] at aO;refine⟨o7,λCm V1=>?_⟩;have k8:=af V1 (.lst []);have UN:=i6 kp k8;have Z1:=k8 _ _ eA;have X8:K3 (upd H7 Cm (.lst [])) as gw:=Paired.dJ pA λa pr z=>k8.tup z;have ZX:upd H7 Cm (.lst []) Cm=some (.lst []):=ae;have nC:∀b o,H7 b=some o->b≠Cm:=λb o h z=>by rw [z,V1] at h;cases h
 have nCA:=nC _ _ eA;have nCD:=nC _ _ kp.2.1;have nCE:=nC _ _ kp.2.2.1;have nCM:=nC _ _ kp.2.2.2.1;have nCm:=nC _ _ kp.2.2.2.2;have fCm:H Cm=none:=kp.1.free V1;have PN:∀{H7:Hp}{xs:List V},Kp H7->Kp (upd H7 Cm (.lst xs)):=λh=>⟨λb o hb=>by rw [aj (λz=>by rw [z,fCm] at hb;cases hb)];exact h.1 b o hb,by rw [aj nCD];exact h.2.1,by rw [aj nCE];exact h.2.2.1,by rw [aj nCM];exact h.2.2.2.1,by rw [aj nCm];exact h.2.2.2.2⟩;generalize upd H7 Cm (.lst [])=H8 at k8 UN Z1 X8 ZX;refine goN ?_
 ac_rfl
 have lap:=aY pA
 let Iz5:tG:=λi σ H9=>∃(cs:List Str)(y1 y2 y6 y9 yr HY HX:Option V),σ=[aP R,y1,y2,aP D,aP En,aP M,y6,aP Em,aP Al,y9,yr,aP Cm,HY,HX]/\Kp H9/\H9 Al=some (.lst (as.map V.ref))/\K3 H9 as gw/\H9 Cm=some (.lst (cs.map V.str))/\cs.length<=8 * i/\Om aa gw cs
 refine⟨_,rfl,R,rfl,⟨_,UN.1.seq hR⟩,cD (xs:=rs.map V.ref) Iz5 ⟨[],_,_,_,_,_,_,_,rfl,UN,Z1,X8,ZX,by simp,⟨by simp,λ_ h=>(by cases h),λi h e=>(by cases e)⟩⟩ ?_ ?_ ?_⟩
 .rintro i σ H9 _ ⟨cs,y1,y2,y6,y9,yr,HY,HX,rfl,Hq,_⟩;exact Hq.1.seq hR
 .intro i x σ H9 ex jQ
  ac_nf0
  obtain⟨cs,y1,y2,y6,y9,yr,HY,HX,rfl,Hq,Z0,X7,KG,lC9,Q5⟩:=jQ;have li:=(bq.mp ex).1;rw [au] at li;refine goN ?_
  ac_nf
  let Iz6:tG:=λj σ HA=>∃(cs:List Str)(HY HX:Option V),σ=[aP R,y1,y2,aP D,aP En,aP M,some x,aP Em,aP Al,y9,yr,aP Cm,HY,HX]/\Kp HA/\HA Al=some (.lst (as.map V.ref))/\K3 HA as gw/\HA Cm=some (.lst (cs.map V.str))/\cs.length<=8 * i+j/\Om aa gw cs
  refine⟨_,rfl,D,rfl,⟨_,aI.of Hq.2.1⟩,cD (xs:=(hm aa).map V.str) Iz6 ⟨cs,_,_,rfl,Hq,Z0,X7,KG,∅,Q5⟩ ?_ ?_ ?_⟩
  .rintro j σ HA _ ⟨cs,HY,HX,rfl,PR,_⟩;exact aI.of PR.2.1
  .intro j x2 σ HA pM jQ
   ac_nf0
   obtain⟨cs,HY,HX,rfl,PR,N_,Pd,N9,Yu,Sy⟩:=jQ;have lj:=(bq.mp pM).1;rw [au] at lj;rw [bh] at pM;obtain⟨nm,enm,rfl⟩:=cq.mp pM;refine goN ?_
   ac_rfl
   refine⟨_,rfl,Al,rfl,⟨_,aI.of N_⟩,λD2 i9=>cE (xs:=as.map V.ref) (λk ys σ2 HB=>∃zs:List Str,ys=zs.map V.str/\zs.length<=k/\(∃y0,σ2=[y0,some (.str nm)])/\aC HA HB/\HB D2=some (.lst ys)/\∀pr∈gw.take k,pr.1=nm->pr.2∈zs)
    ⟨[],rfl,aH _,⟨none,rfl⟩,af i9 _,ae,λ_ h=>(by simp at h)⟩ (λk ys σ2 HB _ h=>?_) (λk v ys σ2 HB ex h=>?_) (λys σ2 HB h=>?_)⟩
   .obtain⟨_,_,_,_,sB,_⟩:=h;exact aI.of (sB _ _ N_)
   .obtain⟨zs,rfl,lz,⟨u0,rfl⟩,sB,eB,zA⟩:=h;have lk:=(bq.mp ex).1;rw [au] at lk;rw [bh] at ex;obtain⟨a,ea,rfl⟩:=cq.mp ex;obtain⟨pr,Zx⟩:∃pr,gw[k]?=some pr:=⟨gw[k]'∅,cf ∅⟩;obtain⟨a',Kz,va⟩:=Paired.at_ Pd k pr Zx;rw [ea] at Kz;cases Kz;refine goN ?_;have tk:gw.take (k+1)=gw.take k++[pr]:=by rw [cS,Zx];rfl
    refine⟨_,rfl,a,_,_,_,rfl,rfl,sB.tup va,rfl,_,rfl,rfl,_,rfl,?_⟩;refine bZ (λc1=>?_) (λc1=>?_)
    .refine⟨_,rfl,a,_,_,_,rfl,rfl,sB.tup va,rfl,eB,bL (by rw [au];omega),zs++[pr.2],by rw [bG];rfl,by rw [bM];simp;omega,⟨_,rfl⟩,λb o hb=>?_,ae,λp2 oC e2=>?_⟩
     .rw [aj (λz=>by rw [z,i9] at hb;cases hb)];exact sB b o hb
     rw [tk] at oC;rcases cC.mp oC with h | h
     .exact jm _ (zA p2 h e2)
     rw [bV.mp h];exact fY _ cV
    refine⟨zs,rfl,∅,⟨_,rfl⟩,sB,eB,λp2 oC e2=>?_⟩;rw [tk] at oC;rcases cC.mp oC with h | h
    .exact zA p2 h e2
    have:p2=pr:=bV.mp h;rw [this] at e2;exact absurd (bW (congrArg V.str e2)) c1
   obtain⟨zs,rfl,lz,_,sB,eB,zA⟩:=h;rw [au] at lz zA;rw [lap,cR] at zA;refine goN ?_
   ac_rfl
   have FU:=i6 PR sB;have xF:∀{HC:Hp},aC HB HC->∃(cs:List Str)(SV SU:Option V),[aP R,y1,y2,aP D,aP En,aP M,some x,aP Em,aP Al,y9,yr,aP Cm,some (.str nm),aP D2]=[aP R,y1,y2,aP D,aP En,aP M,some x,aP Em,aP Al,y9,yr,aP Cm,SV,SU]/\Kp HC/\HC Al=some (.lst (as.map V.ref))/\K3 HC as gw/\HC Cm=some (.lst (cs.map V.str))/\cs.length<=8 * i+(j+1)/\Om aa gw cs:=λ{HC} sC=>⟨cs,_,_,rfl,i6 FU sC,sC _ _ (sB _ _ N_),Paired.dJ Pd λa pr z=>sC.tup (sB.tup z),sC _ _ (sB _ _ N9),∅,Sy⟩;refine⟨_,rfl,D2,rfl,⟨_,aI.of eB⟩,λD3 Aj=>qh (zs:=zs) [aP Cm] (λz=>decide (z∈cs)) rfl (aI.of eB) ∅ Aj (λz _ H5 Qy s5 hq=>?_) λHC sC eC=>?_⟩
   .refine⟨_,rfl,_,rfl,Cm,_,rfl,.inl (aI.of (s5 _ _ (sB _ _ N9))),rfl,cN _,?_⟩;rw [gi];exact hq
   refine⟨D3,_,rfl,aI.of eC,_,rfl,?_⟩;refine bZ (λc2=>?_) (λc2=>?_)
   .refine⟨_,rfl,_,rfl,Cm,_,rfl,.inl (aI.of (sC _ _ (sB _ _ N9))),rfl,cN _,_,rfl,?_⟩;refine bZ (λc1=>?_) (λc1=>?_)
    .have Wv:=sC _ _ (sB _ _ N9);have nc:nm∉cs:=λh=>by
      have c1':(!Mo (V.str nm) (cs.map V.str))=true:=c1;rw [gi,bW h] at c1';cases c1'
     have ac:∀z∈zs,z∈cs:=λz hz=>by
      rw [all_map] at c2;exact dr (gC.mp c2 z hz)
     refine⟨_,rfl,.inl ⟨rfl,_,aI.of Wv⟩,_,rfl,Cm,_,_,rfl,rfl,Wv,bL (by rw [au];omega),?_⟩;exact⟨cs++[nm],_,_,rfl,PN (i6 FU sC),by rw [aj nCA];exact sC _ _ (sB _ _ N_),Paired.dJ Pd λa pr z=>aT Wv (sC.tup (sB.tup z)),by rw [ae,bG];rfl,by rw [bM];simp;omega,Sy.add nc (cg enm) λz hz=>ac z (zA (nm,z) hz rfl)⟩
    exact xF sC
   refine df ?_;exact xF sC
  rintro σ HA ⟨cs,HY,HX,rfl,PR,N_,Pd,N9,Yu,Sy⟩;rw [au,Qr] at Yu;exact⟨cs,_,_,_,_,_,_,_,rfl,PR,N_,Pd,N9,∅,Sy⟩
 rintro σ H9 ⟨cs,y1,y2,y6,y9,yr,HY,HX,rfl,Hq,Z0,X7,KG,lC9,Q5⟩;refine⟨_,rfl,D,rfl,⟨_,aI.of Hq.2.1⟩,λD3 Aj=>qh (zs:=hm aa) [aP En,aP M,aP Cm] (λz=>decide (z∈dM true aa) && (decide (z∈ms) && decide (z∈cs))) rfl (aI.of Hq.2.1) ∅ Aj (λz _ H5 Qy s5 hq=>?_) λHC sC eC=>?_⟩
 .refine⟨_,rfl,_,rfl,En,_,rfl,.inl (aI.of (s5 _ _ Hq.2.2.1)),rfl,cN _,_,rfl,?_⟩;rw [gi];show if decide (z∈dM true aa)=true then _ else _;refine bZ (λc=>?_) (λc=>?_)
  .rw [c,jc] at hq;refine⟨_,rfl,_,rfl,M,_,rfl,.inl (aI.of (s5 _ _ Hq.2.2.2.1)),rfl,cN _,_,rfl,?_⟩;rw [gi];show if decide (z∈ms)=true then _ else _;refine bZ (λc=>?_) (λc=>?_)
   .rw [c,jc] at hq;refine⟨_,rfl,_,rfl,Cm,_,rfl,.inl (aI.of (s5 _ _ KG)),rfl,cN _,?_⟩;rw [gi];exact hq
   have c':decide (z∈ms)=false:=by simpa using c
   rw [c',qX] at hq;exact hq
  have c':decide (z∈dM true aa)=false:=by simpa using c
  rw [c',qX] at hq;exact hq
 refine⟨D3,_,rfl,aI.of eC,?_⟩;rw [all_map];refine q _ _ (Hq.1.trans sC) λhb=>⟨ms,cs,?_⟩;have al:=λz hz=>h_.mp (gC.mp hb z hz);refine⟨λz hz=>dr (al z hz).1,mO,λz hz=>dr (h_.mp (al z hz).2).1,Q5.cn,Q5.ch,λi h e ru i8 er j z lo=>?_,λz hz=>dr (h_.mp (al z hz).2).2⟩;exact Q5.co i h e z (er ▸ aO ru i8 j z lo)
end
theorem dw {α β:Type}{F:α->β->Prop}:∀{xs:List α}{ys:List β}{DG:List α}{Ov:List β},Paired F xs ys->Paired F DG Ov->Paired F (xs++DG) (ys++Ov)
 | _,_,_,_,.nil,h=>h
 | _,_,_,_,.cons a b,h=>.cons a (dw b h)
def kY {aa:List aw}{x:Str}:x∈hm aa↔x∈hd aa:=by
 constructor
 .intro h;obtain⟨ru,a,b⟩:=cQ.mp h;exact b ▸ uC a
 intro h;obtain⟨ru,a,b⟩:=Kn h;exact cQ.mpr ⟨ru,a,b⟩
def B2.Pe {aa:List aw}{fU ms cs:List Str}(g:B2 aa ms cs)(n3:fU.length<=3)(wL:∀ru∈aa,ru.1∈fU)(p3:∀ru∈aa,ru.2.length<=3):yk aa fU (dM true aa) ms cs:=by
 have YF:∀x∈hm aa,x∈fU:=λx hx=>by
  obtain⟨ru,a,b⟩:=cQ.mp hx;exact b ▸ wL ru a
 have eo:=Gy true aa;refine⟨n3,wL,p3,eo.nd,λx hx=>YF x (eo.sub x hx),λi h e=>?_,λh hh=>g.en h (kY.mpr hh),g.mo,λh hh=>g.ma h (kY.mpr hh),g.cn,λx hx=>YF x (g.ch x hx),λi h e ru i8 er j z ez hz NU=>?_,λh hh=>g.ca h (kY.mpr hh)⟩
 .obtain⟨bH,a,b⟩:=eo.ord i h e;exact⟨bH,a,λp hp=>(b p hp).imp id λq z=>q.2 (kY.mpr z)⟩
 exact g.co i h e ru i8 er j z ⟨ez,kY.mpr hz,λk y nk ey=>Gz (NU k y nk ey)⟩
def Cb {aa:List aw}{fU ws:List Str}(nd:fU.Nodup)(n0:0 < fU.length)(n3:fU.length<=3)(dj:∀x∈fU,x∉ws)(hl:aa.length=fU.length)
  (hs:∀(j:Nat)(ru:aw),aa[j]?=some ru->fU[j]?=some ru.1/\pR fU ws j ru.2):yk aa fU fU.reverse fU fU:=by
 have at_:∀(a:Nat)(h:Str),fU[a]?=some h->∃bH,aa[a]?=some (h,bH)/\pR fU ws a bH:=λa h e=>by
  have la:=(bq.mp e).1;have e2:aa[a]?=some (aa[a]'∅):=cf ∅;obtain⟨x1,x2⟩:=hs a _ e2;rw [e] at x1;refine⟨(aa[a]'∅).2,?_,x2⟩;rw [e2]
  congr 1
  exact Prod.ext (gS x1).symm rfl
 have Bp:∀ru∈aa,∃a:Nat,fU[a]?=some ru.1/\pR fU ws a ru.2:=λru h=>by
  obtain⟨a,e⟩:=iw h;exact⟨a,hs a ru e⟩
 have R6:∀x,x∈hd aa->x∈fU:=λx hx=>by
  obtain⟨ru,a,b⟩:=Kn hx;obtain⟨k,e,_⟩:=Bp ru a;exact b ▸ cg e
 have wN:∀x∈ws,x∉hd aa:=λx hx h=>dj x (R6 x h) hx;refine⟨n3,λru h=>?_,λru h=>?_,List.pairwise_reverse.mpr (nd.imp λh=>h.symm),λx hx=>List.mem_reverse.mp hx,λi h e=>?_,λh hh=>List.mem_reverse.mpr (R6 h hh),λi h e=>?_,λh hh=>R6 h hh,nd,λ_ h=>h,λi h e ru i8 er j z ez hz NU=>?_,λh hh=>R6 h hh⟩
 .obtain⟨a,e,_⟩:=Bp ru h;exact cg e
 .obtain⟨a,e,sk⟩:=Bp ru h;rcases sk with ⟨n',wx,_,_,_,l2,h | h⟩ | ⟨_,_,l2⟩
  .rw [h,bM];simp;omega
  .rw [h,dN];omega
  omega
 .have li:=(bq.mp e).1;rw [pZ] at li;rw [ve li] at e;obtain⟨bH,e2,sk⟩:=at_ _ h e;refine⟨bH,cg e2,λp hp=>?_⟩;rcases sk with ⟨n',wx,e3,_,hw,_,pI⟩ | ⟨_,hw,_⟩
  .have cs:p=n'\/p∈wx:=by
    rcases pI with h | h
    .rw [h] at hp;rcases cC.mp hp with q | q
     .exact .inr q
     exact .inl (bV.mp q)
    rw [h] at hp;rcases cA.mp hp with q | q
    .exact .inl q
    exact .inr q
   rcases cs with rfl | q
   .left;have l3:=(bq.mp e3).1;have e4:fU.reverse[i - 1]?=some p:=by
     rw [ve ∅,<-e3]
     congr 1
     omega
    refine cg (i:=i - 1) ?_;rw [rB ∅];exact e4
   exact .inr (wN p (hw p q))
  exact .inr (wN p (hw p hp))
 .match i,e with
  | 0,e =>
   obtain⟨bH,e2,_⟩:=at_ 0 h e;exact .inl ⟨_,e2,rfl⟩
  | i+1,e =>
   have li:=(bq.mp e).1;have e5:fU[i]?=some (fU[i]'∅):=cf ∅;obtain⟨bH,e2,sk⟩:=at_ i _ e5;refine .inr ⟨_,cg e2,?_,?_⟩
   .refine cg (i:=i) ?_;rw [rB ∅];exact e5
   rcases sk with ⟨n',wx,e3,_,hw,_,pI⟩ | ⟨l,_,_⟩
   .rw [e] at e3;cases e3;show h∈bH;rcases pI with q | q
    .rw [q];exact fY _ cV
    rw [q];exact cV
   omega
 exfalso;obtain⟨a,_,sk⟩:=Bp ru i8;rcases sk with ⟨n',wx,_,Ru,hw,_,pI⟩ | ⟨_,hw,_⟩
 .obtain⟨y,hy⟩:=List.exists_mem_of_ne_nil wx Ru;have hy2:y∈ru.2:=by
   rcases pI with q | q
   .rw [q];exact jm _ hy
   rw [q];exact du _ hy
  obtain⟨k,ek⟩:=iw hy2;by_cases c:k=j
  .subst c;rw [ez] at ek;cases ek;exact wN _ (hw _ hy) hz
  exact wN y (hw y hy) (Kx (NU k y c ek))
 exact wN z (hw z (cg ez)) hz
def yk.en {aa:List aw}{fU E M Pl:List Str}(O:yk aa fU E M Pl):∀z∈hm aa,z∈dM true aa:=λz hz=>by
 have all:∀(n i:Nat)(h:Str),i < n->E[i]?=some h->h∈dM true aa:=by
  intro n
  induction n with
  | zero=>intro i h l;omega
  | succ n ih =>
   intro i h l e;obtain⟨bH,a,b⟩:=O.eO i h e;refine ow a λp hp=>?_;rcases b p hp with q | q
   .obtain⟨j,lj,ej⟩:=qA q;exact .inl (ih j p ∅ ej)
   exact .inr ⟨rfl,λw=>q (kY.mp w)⟩
 obtain⟨i,e⟩:=iw (O.eA z (kY.mp hz));exact all (i+1) i z ∅ e
def K2 (aa:List aw)(rk:Str->Nat):Prop:=(∀x,rk x<=3)/\∀ru∈aa,∀(j:Nat)(z:Str),ru.2[j]?=some z->z∈hd aa->(∀(k:Nat)(y:Str),k≠j->ru.2[k]?=some y->Em aa y)->rk z < rk ru.1
theorem F3:∀(l:List Str)(x:Str),DN l x<=l.length
 | [],x=>aH _
 | a::r,x=>by
  unfold DN;by_cases c:a=x
  .rw [ax c];exact gB _
  rw [az c];exact Nat.succ_le_succ (F3 r x)
def yk.rank {aa:List aw}{ns E M Pl:List Str}(o:yk aa ns E M Pl):K2 aa (DN Pl):=by
 refine⟨λx=>?_,λru i8 j z ez hz h=>?_⟩
 .have h1:=F3 Pl x;have h2:=mr _ _ o.lN o.Yt;have h3:=o.n3;omega
 exact nZ _ _ _ (o.lO _ _ (sj Pl ru.1 (o.lA _ (uC i8))) ru i8 rfl j z ez hz h)
structure Rn (c:Int)(aa:List aw):Prop where
 one:1<=aa.length
 six:aa.length<=6
 ins:∀ru∈aa,ru.1∈dC c/\ru.2.length<=3/\∀x∈ru.2,x∈dC c++gK c
 en:∀z∈hm aa,z∈dM true aa
 rank:∃rk,K2 aa rk
 good:∃rk b,Good aa rk b
section
def Et (K:a9):Sp:=λvs H Q _=>∃(S:Addr)(ns:List Int) (at_:Nat),vs=[.ref S,.int (at_:Int)]/\aI K H S (ns.map V.int)/\ns.length<=1000 /\
 ∀(c:Int)(R:Addr)(rs:List Addr)(aa:List aw)(H':Hp),c=cellAt ns at_->H R=none->aC H H'->H' R=some (.lst (rs.map V.ref))->bI K H' rs aa->Rn c aa->Q (.ref R) H'
def mq:aK ["_law_script","_law_at","_law_cell","_law_names_here","_law_words_here","_law_rules","_law_more_here","_law_free"] ["_law_script","_law_at"] (av EJ):=ir rfl rfl rfl rfl nofun
def IP (F:g_ K "_law_grammar" "_law_grammar" EJ f fd)(T:Txt mg)(GC:aB P w K mg base 2 "_law_cell_at" ["_law_script","_law_k"] (rM K))(GN:aB P w K mg base 2 "_law_names" ["_law_cell"] Bb)(GW:aB P w K mg base 2 "_law_words" ["_law_cell"] rG)
  (GS:aB P w K mg base 2 "_law_skeleton" ["_law_script","_law_at","_law_names_here","_law_words_here"] (Eo K))(GM:aB P w K mg base 2 "_law_more" ["_law_script","_law_at","_law_names_here","_law_many","_law_words_here"] (Er K))(GG:aB P w K mg base 2 "_law_good" ["_law_rules"] (Eu K)) :
  bO P w K mg base fk 3 f fd ["_law_script","_law_at"] (Et K):=by
 refine F.ok mq (λvs H Q E h=>?_) (λdW A outer s H vs Q E hr h=>?_)
 .obtain⟨S,ns,at_,rfl,_⟩:=h;rfl
 obtain⟨S,ns,at_,rfl,hS,hn,q⟩:=h;refine⟨_,ai (aA (i:=2) mq.nd rfl (bx rfl) (a8 GC hr rfl (ab (pv 0) (ab (pv 1) ah))))
  (ai (aA (i:=3) mq.nd rfl (bx rfl) (a8 GN hr rfl (ab (pv 2) ah)))
  (ai (aA (i:=4) mq.nd rfl (bx rfl) (a8 GW hr rfl (ab (pv 2) ah)))
  (ai (aA (i:=5) mq.nd rfl (bx rfl) (a8 GS hr rfl (ab (pv 0) (ab (aX gq (pv 1) ao) (ab (pv 3) (ab (pv 4) ah))))))
  (ai (aA (i:=6) mq.nd rfl (bx rfl) (a8 GM hr rfl (ab (pv 0) (ab (aX gq (pv 1) ao) (ab (pv 3) (ab (aX c_ (aX dU (pv 2) ao) ao) (ab (pv 4) ah)))))))
  (ai (nO (bw (aV ik (aX c_ (aX dU (pv 2) ao) ao) ao (bu _))
   (ai (aA (i:=7) mq.nd rfl (bx rfl) (a8 GM hr rfl (ab (pv 0) (ab (aX gq (pv 1) ao) (ab (pv 3) (ab (aX gq ao (aX c_ (aX dU (pv 2) ao) ao)) (ab (pv 4) ah)))))))
   (ak (bw (cY (a8 GG hr rfl (ab (pv 7) ah))) (ak (aL (pv 7))) aM))) aM))
  (ai (bw (cY (a8 GG hr rfl (ab (aX iN (pv 5) (pv 6)) ah))) (ak (aL (aX iN (pv 5) (pv 6)))) aM)
  (ak (aL (pv 5))))))))),?_⟩
 refine⟨_,rfl,_,rfl,S,ns,at_,rfl,hS,hn,λc hc=>?_⟩;have gl:=Ao c;have wl:=sI c;refine⟨_,rfl,c,rfl,λN H1 fN s1 eN=>?_⟩;refine⟨_,rfl,c,rfl,λW H2 fW s2 eW=>?_⟩;have ER:=s1.trans s2;have HJ:=s2 _ _ eN;refine⟨_,rfl,_,rfl,_,_,rfl,rfl,_,rfl,_,rfl,S,N,W,ns,at_+1,dC c,gK c,(by show [V.ref S,V.int ((at_:Int)+1),V.ref N,V.ref W]=_;congr 3),ER.seq hS,hn,HJ,eW,∅,∅,∅,∅,λR1 JU kQ H3 f3 s3 e3 TR l3 XJ=>?_⟩;have Cd:=ER.trans s3;obtain⟨m,Vp⟩:∃m:Nat,c / 9 % 4=(m:Int):=⟨(c / 9 % 4).toNat,∅⟩;refine⟨_,rfl,_,rfl,_,_,rfl,rfl,_,rfl,_,rfl,_,_,rfl,rfl,⟨nofun,nofun⟩,_,_,rfl,rfl,(by show (0:Int) < 4;decide),_,rfl,S,N,W,ns,at_+4,m,dC c,gK c,(by show [V.ref S,V.int ((at_:Int)+4),V.ref N,V.int (c / 9 % 4),V.ref W]=_;rw [Vp];congr 3),Cd.seq hS,hn,s3 _ _ HJ,s3 _ _ eW,∅,∅,∅,∅,λR2 LA px H4 f4 s4 e4 RG l4 in4=>?_⟩;have xm:=Cd.trans s4;have e34:=s4 _ _ e3;have LF:=TR.same s4;have O1:=Cb (C4 c) gl.1 gl.2 (uD c) l3 XJ;have in1:∀ru∈kQ,ru.1∈dC c/\ru.2.length<=3/\∀x∈ru.2,x∈dC c++gK c:=λru h=>by
  refine⟨O1.wL ru h,O1.p3 ru h,λx hx=>?_⟩;obtain⟨a,e⟩:=iw h;rcases (XJ a ru e).2 with ⟨n',wx,en,_,hw,_,pI⟩ | ⟨_,hw,_⟩
  .have cs:x=n'\/x∈wx:=by
    rcases pI with h | h
    .rw [h] at hx;rcases cC.mp hx with q | q
     .exact .inr q
     exact .inl (bV.mp q)
    rw [h] at hx;rcases cA.mp hx with q | q
    .exact .inl q
    exact .inr q
   rcases cs with rfl | q
   .exact jm _ (cg en)
   exact fY _ (hw x q)
  exact fY _ (hw x hx)
 have Pg:∀{aa:List aw}{ms cs:List Str},B2 aa ms cs->1<=aa.length->aa.length<=6->(∀ru∈aa,ru.1∈dC c/\ru.2.length<=3/\∀x∈ru.2,x∈dC c++gK c)->Rn c aa:=λg a b i=>⟨a,b,i,g.en,⟨_,(g.Pe gl.2 (λru h=>(i ru h).1) λru h=>(i ru h).2.1).rank⟩,_,_,(g.Pe gl.2 (λru h=>(i ru h).1) λru h=>(i ru h).2.1).good⟩;have OY:∀{aa:List aw},1<=aa.length->aa.length<=6->(∀ru∈aa,ru.1∈dC c/\ru.2.length<=3/\∀x∈ru.2,x∈dC c++gK c)->Small aa:=λa b i=>⟨a,∅,λru h=>by have:=(i ru h).2.1;omega⟩;refine⟨λσ H5=>∃y7,σ=[aP S,some (.int (at_:Int)),some (.int c),aP N,aP W,aP R1,aP R2,y7]/\aC H4 H5,?_,?_⟩
 .refine⟨_,rfl,_,_,rfl,rfl,⟨nofun,nofun⟩,_,_,rfl,rfl,(by show (0:Int) < 2;decide),rfl,_,rfl,?_⟩;refine bZ (λcc=>?_) (λcc=>?_)
  .have Vo:1+c / 9 % 4=((m+1:Nat):Int):=by omega
   refine⟨_,rfl,_,rfl,_,_,rfl,rfl,_,rfl,_,rfl,_,_,rfl,rfl,⟨nofun,nofun⟩,_,_,rfl,rfl,(by show (0:Int) < 4;decide),_,_,rfl,rfl,_,rfl,S,N,W,ns,at_+4,m+1,dC c,gK c,(by show [V.ref S,V.int ((at_:Int)+4),V.ref N,V.int (1+c / 9 % 4),V.ref W]=_;rw [Vo];congr 3),xm.seq hS,hn,s4 _ _ (s3 _ _ HJ),s4 _ _ (s3 _ _ eW),∅,∅,∅,∅,λR3 XW EV H5 f5 s5 e5 LD l5 YH=>?_⟩;have xl:=xm.trans s5;refine⟨_,rfl,R3,XW,EV,rfl,aI.of e5,LD,OY ∅ ∅ YH,λb H6 s6 hb=>⟨b,rfl,?_⟩⟩;refine bZ (λc2=>?_) (λc2=>?_)
   .obtain⟨ms,cs,g⟩:=hb c2;exact⟨_,rfl,q c R3 XW EV H6 hc (xm.free f5) (xl.trans s6) (s6 _ _ e5) (LD.same s6) (Pg g ∅ ∅ YH)⟩
   exact⟨_,rfl,s5.trans s6⟩
  exact⟨_,rfl,aC.refl _⟩
 rintro σ H5 ⟨y7,rfl,s5⟩;have xl:=xm.trans s5;have eA:=s5 _ _ e34;have eB:=s5 _ _ e4;have aae:=aY LF;have aad:=aY RG;have YG:∀ru∈kQ++px,ru.1∈dC c/\ru.2.length<=3/\∀x∈ru.2,x∈dC c++gK c:=λru h=>(cC.mp h).elim (in1 ru) (in4 ru);have DL:1<=(kQ++px).length/\(kQ++px).length<=6:=by rw [bM];omega
 have XX:bI K H5 (JU++LA) (kQ++px):=dw (LF.same s5) (RG.same s5);refine⟨_,rfl,_,rfl,R1,R2,_,_,rfl,rfl,eA,eB,fits (by rw [au,au];omega),λR4 hR4=>?_⟩;rw [<-bG];have k6:=af hR4 (.lst ((JU++LA).map V.ref));have e6:upd H5 R4 (.lst ((JU++LA).map V.ref)) R4=some (.lst ((JU++LA).map V.ref)):=ae;generalize upd H5 R4 (.lst ((JU++LA).map V.ref))=H6 at k6 e6;have EN:=xl.trans k6;refine⟨R4,JU++LA,kQ++px,rfl,aI.of e6,XX.same k6,OY DL.1 DL.2 YG,λb H7 s7 hb=>⟨b,rfl,?_⟩⟩;have yu:=k6.trans s7;refine bZ (λc2=>?_) (λc2=>?_)
 .obtain⟨ms,cs,g⟩:=hb c2;refine⟨_,rfl,_,rfl,R1,R2,_,_,rfl,rfl,yu _ _ eA,yu _ _ eB,fits (by rw [au,au];omega),λR5 VQ=>?_⟩;rw [<-bG];exact q c R5 (JU++LA) (kQ++px) _ hc ((EN.trans s7).free VQ) ((EN.trans s7).trans (af VQ _)) ae ((XX.same yu).same (af VQ _)) (Pg g DL.1 DL.2 YG)
 exact⟨_,rfl,q c R1 JU kQ H7 hc (ER.free f3) (EN.trans s7) (yu _ _ eA) ((LF.same s5).same yu) ⟨∅,∅,in1,O1.en,⟨_,O1.rank⟩,_,_,O1.good⟩⟩
end
abbrev vJ:Stmt:=top 6
abbrev zt:Stmt:=top 7
abbrev zh:Stmt:=top 47
abbrev zg:Stmt:=top 48
abbrev Lp:Stmt:=top 49
section
def pE:PySem.W.kitOne K (.type "tuple") (.type "str")=some false:=by kernel_rfl
def vx:Sp:=λvs H Q _=>∃(k m:Nat),vs=[.int (k:Int),.int (m:Int)]/\k < m/\Q (.bl true) H
def Ip:aK ["number","many"] ["number","many"] (av zt):=ir rfl rfl rfl rfl nofun
def FD (F:g_ K "is_number_below" "is_number_below" zt f fd)(T:Txt mg):bO P w K mg base fk 1 f fd ["number","many"] vx:=by
 refine F.ok Ip (λvs H Q E h=>?_) (λdW A outer s H vs Q E hr h=>?_)
 .obtain⟨k,m,rfl,_⟩:=h;rfl
 obtain⟨k,m,rfl,hk,q⟩:=h;refine⟨_,ak (aL (jM (aD cw rfl T.CM jn (ab (pv 0) (ab (fM (v:=.ty "int") rfl T.int PyProof.Rows.boot_int rfl) ah)))
  (jM (zI (aD cw rfl T.CM jn (ab (pv 0) (ab (fM (v:=.ty "bool") rfl T.boo PyProof.Rows.boot_bool rfl) ah))))
  (kR (Fd J1 nV ao (pv 0) (pv 1)))))),?_⟩
 refine⟨_,rfl,.int k,"int","int",true,rfl,.int k,fA,true,rfl,?_⟩;refine g7 ?_;refine⟨_,rfl,.int k,"int","bool",false,rfl,.int k,FY,false,rfl,true,rfl,?_⟩;refine g7 ?_;refine⟨_,rfl,_,_,rfl,rfl,_,rfl,?_⟩;refine bZ (λ_=>?_) (λc=>absurd (bW ∅) c);refine⟨_,rfl,_,_,rfl,rfl,?_⟩;show Q (.bl (decide ((k:Int) < (m:Int)))) H;rw [bW ∅];exact q
def w5 (K:a9):Sp:=λvs H Q _=>∃(R:Addr)(rs:List Addr)(aa:List aw) (k:Nat)(x:Str)(ru:aw),vs=[.ref R,.int (k:Int),.str x]/\aI K H R (rs.map V.ref)/\bI K H rs aa/\aa[k]?=some ru/\Q (.bl (decide (V.str ru.1=V.str x))) H
def EA:aK ["rules","number","name"] ["rules","number","name"] (av vJ):=ir rfl rfl rfl rfl nofun
def Cr (F:g_ K "is_rule_of" "is_rule_of" vJ f fd)(T:Txt mg)(GB:aB P w K mg base 1 "is_number_below" ["number","many"] vx):bO P w K mg base fk 2 f fd ["rules","number","name"] (w5 K):=by
 refine F.ok EA (λvs H Q E h=>?_) (λdW A outer s H vs Q E hr h=>?_)
 .obtain⟨R,rs,aa,k,x,ru,rfl,_⟩:=h;rfl
 obtain⟨R,rs,aa,k,x,ru,rfl,hR,b_,hk,q⟩:=h;refine⟨_,ak (aL (jM (a8 GB hr rfl (ab (pv 1) (ab (aD aG rfl T.len cU (ab (pv 0) ah)) ah)))
  (kR (eQ ik (aF aN (aF bo (pv 0) (pv 1) (λ_ _=>rfl)) ao (λ_ _=>rfl)) (pv 2) (bu _))))),?_⟩
 have ll:=aY b_;have lk:=(bq.mp hk).1;obtain⟨r,er,p,v1,v2⟩:=Paired.at_ b_ k ru hk;have tO:j9 (rs.map V.ref) (k:Int)=some (.ref r):=bT (by rw [bh,er];rfl);refine⟨_,rfl,_,rfl,R,_,rfl,.inl hR,k,(rs.map V.ref).length,rfl,by rw [au];omega,true,rfl,?_⟩;refine g7 ?_;exact⟨_,rfl,_,rfl,R,_,_,_,rfl,rfl,hR,tO,r,_,_,_,rfl,rfl,v1,rfl,_,rfl,rfl,q⟩
def JL (K:a9):Sp:=λvs H Q _=>∃(R:Addr)(rs:List Addr)(aa:List aw)(v:V)(x:Str),vs=[.ref R,v,.str x]/\aI K H R (rs.map V.ref)/\bI K H rs aa /\
 ((∃z,v=.str z/\Q (.bl false) H)\/∃(a p:Addr) (k:Nat)(us:List V)(ru:aw),v=.ref a/\aQ K H a [.int (k:Int),.ref p]/\aQ K H p us/\aa[k]?=some ru/\((ru.1≠x/\Q (.bl false) H)\/(ru.1=x/\us.length=ru.2.length/\Q (.bl true) H)))
def O0:aK ["rules","tree","name"] ["rules","tree","name"] (av Lp):=ir rfl rfl rfl rfl nofun
def LV (F:g_ K "is_top_of" "is_top_of" Lp f fd)(T:Txt mg)(GR:aB P w K mg base 2 "is_rule_of" ["rules","number","name"] (w5 K)):bO P w K mg base fk 3 f fd ["rules","tree","name"] (JL K):=by
 refine F.ok O0 (λvs H Q E h=>?_) (λdW A outer s H vs Q E hr h=>?_)
 .obtain⟨R,rs,aa,v,x,rfl,_⟩:=h;rfl
 obtain⟨R,rs,aa,v,x,rfl,hR,b_,hc⟩:=h;refine⟨_,ai (bw (PW.pt (ju (cY (aD cw rfl T.CM jn (ab (pv 1) (ab (fM (v:=.ty "str") rfl T.str iT rfl) ah))))
   (iq (gk (cY (a8 GR hr rfl (ab (pv 0) (ab (aF aN (pv 1) ao (λ_ _=>rfl)) (ab (pv 2) ah))))))))) (ak (aL dI)) aM)
  (ak (aL (eQ ik (aD aG rfl T.len cU (ab (aF aN (pv 1) ao (λ_ _=>rfl)) ah))
   (aD aG rfl T.len cU (ab (aF aN (aF bo (pv 0) (aF aN (pv 1) ao (λ_ _=>rfl)) (λ_ _=>rfl)) ao (λ_ _=>rfl)) ah)) (bu _)))),?_⟩
 rcases hc with ⟨z,rfl,q⟩ | ⟨a,p,k,us,ru,rfl,ha,hp,hk,hc⟩
 .refine⟨_,rfl,.str z,"str","str",true,rfl,.str z,fA,true,rfl,?_⟩;refine g7 ?_;exact q
 refine⟨_,rfl,.ref a,"tuple","str",false,rfl,.tup ha,pE,false,rfl,?_⟩;refine df ?_;have ll:=aY b_;have lk:=(bq.mp hk).1;obtain⟨r,er,p2,v1,v2⟩:=Paired.at_ b_ k ru hk;have tO:j9 (rs.map V.ref) (k:Int)=some (.ref r):=bT (by rw [bh,er];rfl);refine⟨_,rfl,_,rfl,a,_,_,_,rfl,rfl,ha,rfl,_,rfl,R,rs,aa,k,x,ru,rfl,hR,b_,hk,?_⟩;rcases hc with ⟨ne,q⟩ | ⟨e,el,q⟩
 .rw [dq (λz=>ne (by injection z))];refine⟨false,rfl,?_⟩;refine g7 ?_;exact q
 rw [bW (by rw [e])];refine⟨true,rfl,?_⟩;refine df ?_;refine⟨_,rfl,a,_,_,_,rfl,rfl,ha,rfl,p,us,rfl,.inr hp,_,rfl,_,rfl,a,_,_,_,rfl,rfl,ha,rfl,R,_,_,_,rfl,rfl,hR,tO,r,_,_,_,rfl,rfl,v1,rfl,p2,_,rfl,.inr v2,rfl,?_⟩;rw [au,el,bW rfl];exact q
end
mutual
inductive Tr
 | w (z:Str)
 | n (k:Nat)(cs:jE)
inductive jE
 | nil
 | cons (t:Tr)(r:jE)
end
def jE.kO:jE->List Tr
 | .nil=>[]
 | .cons t r=>t::r.kO
mutual
def fV (K:a9)(H:Hp):Tr->V->Prop
 | .w z,v=>v=.str z
 | .n k cs,v=>∃a p vs,v=.ref a/\aQ K H a [.int (k:Int),.ref p]/\aQ K H p vs/\gQ K H cs vs
def gQ (K:a9)(H:Hp):jE->List V->Prop
 | .nil,vs=>vs=[]
 | .cons t r,vs=>∃v yR,vs=v::yR/\fV K H t v/\gQ K H r yR
end
mutual
def row:Tr->List Str
 | .w z=>[z]
 | .n _ cs=>rows cs
def rows:jE->List Str
 | .nil=>[]
 | .cons t r=>row t++rows r
end
mutual
def sz:Tr->Nat
 | .w _=>1
 | .n _ cs=>1+AY cs
def AY:jE->Nat
 | .nil=>0
 | .cons t r=>sz t+AY r
end
mutual
def dp:Tr->Nat
 | .w _=>0
 | .n _ cs=>1+DR cs
def DR:jE->Nat
 | .nil=>0
 | .cons t r=>max (dp t) (DR r)
end
mutual
def Is (aa:List aw):Tr->Str->Prop
 | .w z,x=>x=z/\z∉hd aa
 | .n k cs,x=>∃bH,aa[k]?=some (x,bH)/\DY aa cs bH
def DY (aa:List aw):jE->List Str->Prop
 | .nil,ps=>ps=[]
 | .cons t r,ps=>∃p JY,ps=p::JY/\Is aa t p/\DY aa r JY
end
section
variable {K:a9}
mutual
theorem fV.keep {H H':Hp}(k:∀a xs,aQ K H a xs->aQ K H' a xs):∀(t:Tr){v:V},fV K H t v->fV K H' t v
 | .w z,v,h=>by unfold fV at *;exact h
 | .n m cs,v,h=>by
  unfold fV at *;obtain⟨a,p,vs,e,h1,h2,h3⟩:=h;exact⟨a,p,vs,e,k _ _ h1,k _ _ h2,gQ.keep k cs h3⟩
theorem gQ.keep {H H':Hp}(k:∀a xs,aQ K H a xs->aQ K H' a xs):∀(ts:jE){vs:List V},gQ K H ts vs->gQ K H' ts vs
 | .nil,vs,h=>by unfold gQ at *;exact h
 | .cons t r,vs,h=>by
  unfold gQ at *;obtain⟨v,yR,e,h1,h2⟩:=h;exact⟨v,yR,e,fV.keep k t h1,gQ.keep k r h2⟩
end
theorem gQ.paired {H:Hp}:∀(ts:jE){vs:List V},gQ K H ts vs->Paired (λv t=>fV K H t v) vs ts.kO
 | .nil,vs,h=>by unfold gQ at h;subst h;exact .nil
 | .cons t r,vs,h=>by
  unfold gQ at h;obtain⟨v,yR,rfl,h1,h2⟩:=h;exact .cons h1 (gQ.paired r h2)
theorem xp:∀ts:jE,rows ts=ts.kO.flatMap row
 | .nil=>by unfold rows;rfl
 | .cons t r=>by unfold rows;rw [xp r];rfl
theorem vv:∀ts:jE,AY ts=(ts.kO.map sz).sum
 | .nil=>by unfold AY;rfl
 | .cons t r=>by unfold AY;rw [vv r];rfl
def rD:∀t:Tr,1<=sz t
 | .w _=>by unfold sz;exact aH _
 | .n _ cs=>by unfold sz;omega
theorem DY.paired {aa:List aw}:∀(ts:jE){ps:List Str},DY aa ts ps->ts.kO.length=ps.length/\∀(j:Nat) t p,ts.kO[j]?=some t->ps[j]?=some p->Is aa t p
 | .nil,ps,h=>by
  unfold DY at h;subst h;exact⟨rfl,λj t p e=>by simp [jE.kO] at e⟩
 | .cons t r,ps,h=>by
  unfold DY at h;obtain⟨p,JY,rfl,h1,h2⟩:=h;obtain⟨a,b⟩:=DY.paired r h2;refine⟨by show r.kO.length+1=JY.length+1;omega,λj u q e1 e2=>?_⟩;cases j with
  | zero=>cases e1;cases e2;exact h1
  | succ j=>exact b j u q e1 e2
theorem GO:∀(ts:jE)(t:Tr),t∈ts.kO->dp t<=DR ts
 | .nil,t,h=>by cases h
 | .cons u r,t,h=>by
  unfold DR;rcases cA.mp h with e | e
  .rw [e];omega
  have:=GO r t e;omega
end
section
def qc {α β:Type}{F:α->β->Prop}{us:List α}{ts:List β}(p:Paired F us ts)(h:us≠[]):∃gT u fC t,us=gT++[u]/\ts=fC++[t]/\Paired F gT fC/\F u t:=by
 have p2:=Paired.Cf p;have hr:us.reverse≠[]:=λz=>h (List.reverse_eq_nil_iff.mp z);generalize e1:us.reverse=AQ at p2 hr;generalize e2:ts.reverse=tL at p2;cases p2 with
 | nil=>exact absurd rfl hr
 | @cons u t DI Rx a b =>
  refine⟨DI.reverse,u,Rx.reverse,t,?_,?_,Paired.Cf b,a⟩
  .rw [<-vb us,e1,mj]
  rw [<-vb ts,e2,mj]
theorem Paired.Nq {α β:Type}{F:α->β->Prop}:∀{xs:List α}{ys:List β}{DG:List α}{Ov:List β},Paired F xs ys->Paired F DG Ov->Paired F (xs++DG) (ys++Ov)
 | _,_,_,_,.nil,h=>h
 | _,_,_,_,.cons a b,h=>.cons a (Paired.Nq b h)
def rV {us:List V}{u:V}:(us++[u])[(us++[u]).length - 1]?=some u:=by
 rw [bM];simp
def A_ (K:a9):Sp:=λvs H Q _=>∃(v:V)(t:Tr),vs=[v]/\fV K H t v/\sz t<=1000000/\∀D H',H D=none->aC H H'->H' D=some (.lst ((row t).map V.str))->Q (.ref D) H'
def qF:aK ["tree","row","waiting","one"] ["tree"] (av zh):=ir rfl rfl rfl rfl nofun
def Fo (F:g_ K "row_of" "row_of" zh f fd)(T:Txt mg):bO P w K mg base fk 1 f fd ["tree"] (A_ K):=by
 refine F.ok qF (λvs H Q E h=>?_) (λdW A outer s H vs Q E hr h=>?_)
 .obtain⟨v,t,rfl,_⟩:=h;rfl
 obtain⟨v,t,rfl,ht,hsz,q⟩:=h;refine⟨_,ai (aA (i:=1) qF.nd rfl (bx rfl) (bc ah))
  (ai (aA (i:=2) qF.nd rfl (bx rfl) (bc (ab (pv 0) ah)))
  (ai (iL b0 (gG (pv 2) (λ_=>rfl))
   (ai (aA (i:=3) qF.nd rfl (bx rfl) (zM eG PySem.F.slot_list_pop PySem.F.type_list_pop zY (pv 2)))
   (ak (bw (cY (aD cw rfl T.CM jn (ab (pv 3) (ab (fM (v:=.ty "str") rfl T.str iT rfl) ah))))
    (ak (bX (ft eG fZ f_ bK (pv 1) (ab (pv 3) ah))))
    (ak (bX (ft eG PySem.F.slot_list_extend PySem.F.type_list_extend zZ (pv 2) (ab (E9 (aF aN (pv 3) ao (λ_ _=>rfl))) ah))))))))
  (ak (aL (pv 1))))),?_⟩
 nofun
 refine⟨o7,λL hL=>?_⟩;have s1:=af hL (.lst []);have e1:upd H L (.lst []) L=some (.lst []):=ae;generalize upd H L (.lst [])=H1 at s1 e1;refine⟨_,rfl,vk,λW hW=>?_⟩;have s2:=s1.trans (af hW (.lst [v]));have e2:=af hW (.lst [v]) _ _ e1;have fW:H W=none:=s1.free hW;have nW:W≠L:=λz=>by rw [z,e1] at hW;cases hW
 have e3:upd H1 W (.lst [v]) W=some (.lst [v]):=ae;generalize upd H1 W (.lst [v])=H2 at s2 e2 e3;refine⟨λm σ H5=>∃(zs:List Str)(us:List V)(ts:List Tr)(y:Option V),σ=[some v,aP L,aP W,y]/\aC H H5/\H5 L=some (.lst (zs.map V.str))/\H5 W=some (.lst us)/\Paired (λv t=>fV K H5 t v) us ts/\zs++ts.reverse.flatMap row=row t/\m=(ts.map sz).sum/\zs.length+m<=sz t,
  ⟨sz t,[],[v],[t],none,rfl,s2,e2,e3,.cons (fV.keep (λ_ _ z=>s2.tup z) t ht) .nil,by simp,by simp,by simp⟩,?_⟩
 rintro m σ H5 ⟨zs,us,ts,y,rfl,sm,eL,eW,pr,er,em,ez⟩;have lp:=aY pr;refine⟨_,rfl,!us.isEmpty,?_,?_⟩
 .exact .inl ⟨us,aI.of eW,rfl⟩
 refine bZ (λc=>?_) (λc=>?_)
 .obtain⟨gT,u,fC,t0,rfl,rfl,T6,h0⟩:=qc pr (λz=>by rw [z] at c;cases c);rw [bG,List.sum_append] at em;simp only [cu,jG,jW,List.sum_nil] at em;rw [List.reverse_append,List.reverse_singleton] at er;have sp:=rD t0;refine⟨_,λ_ _ h=>h,?_⟩;refine⟨_,rfl,.inl ⟨rfl,_,aI.of eW⟩,W,_,u,rfl,rfl,eW,rV,?_⟩;rw [List.dropLast_concat];have QW:upd H5 W (.lst gT) L=some (.lst (zs.map V.str)):=by rw [aj (cP nW)];exact eL
  have ke:aC H (upd H5 W (.lst gT)):=λb o hb=>by rw [aj (λz=>by rw [z,fW] at hb;cases hb)];exact sm b o hb
  have tk:∀a xs,aQ K H5 a xs->aQ K (upd H5 W (.lst gT)) a xs:=λa xs z=>aT eW z;have h1:=fV.keep tk t0 h0;have Iw:Paired (λv t=>fV K (upd H5 W (.lst gT)) t v) gT fC:=Paired.dJ T6 λv t z=>fV.keep tk t z;have HI:upd H5 W (.lst gT) W=some (.lst gT):=ae;generalize upd H5 W (.lst gT)=H6 at QW ke h1 Iw HI;cases t0 with
  | w z =>
   unfold fV at h1;subst h1;refine⟨_,rfl,.str z,"str","str",true,rfl,.str z,fA,true,rfl,?_⟩;refine g7 ?_;refine⟨_,rfl,.inl ⟨rfl,_,aI.of QW⟩,_,rfl,L,_,_,rfl,rfl,QW,bL (by rw [au];omega),?_⟩;have e7:(sz (.w z))=1:=by unfold sz;rfl
   refine⟨(fC.map sz).sum,∅,zs++[z],gT,fC,_,rfl,λb o hb=>?_,by rw [ae,bG];rfl,by rw [aj nW];exact HI,Paired.dJ Iw λv t z=>fV.keep (λa xs z=>aT QW z) t z,?_,rfl,by rw [bM];simp;omega⟩
   .rw [aj (λz=>by rw [z,hL] at hb;cases hb)];exact ke b o hb
   rw [<-er,ku]
   congr 1
  | n k cs =>
   unfold fV at h1;obtain⟨a,p,vs,rfl,ha,hp,CY⟩:=h1;refine⟨_,rfl,.ref a,"tuple","str",false,rfl,.tup ha,pE,false,rfl,?_⟩;refine df ?_;have J0:=gQ.paired cs CY;have lcs:=aY J0;have e7:sz (.n k cs)=1+(cs.kO.map sz).sum:=by unfold sz;rw [vv]
   have Hl:∀l:List Tr,l.length<=(l.map sz).sum:=λl=>by
    induction l with
    | nil=>exact aH _
    | cons x r ih =>
     have:=rD x;rw [cu,jW,dN];omega
   have l1:=Hl cs.kO;have l2:=Hl fC;have l3:=aY Iw;refine⟨_,rfl,.inl ⟨rfl,_,aI.of HI⟩,_,rfl,a,_,_,_,rfl,rfl,ha,rfl,p,vs,rfl,hp,λp2 oC=>?_⟩;have s7:=af oC (.tup vs.reverse);have e8:aQ K (upd H6 p2 (.tup vs.reverse)) p2 vs.reverse:=aQ.of ae;generalize upd H6 p2 (.tup vs.reverse)=H7 at s7 e8;refine⟨W,p2,gT,vs.reverse,rfl,rfl,s7 _ _ HI,e8,fits (by rw [pZ];omega),?_⟩;have QV:=s7 _ _ HI;refine⟨(fC.map sz).sum+(cs.kO.map sz).sum,∅,zs,gT++vs.reverse,fC++cs.kO.reverse,_,rfl,λb o hb=>?_,by rw [aj (cP nW)];exact s7 _ _ QW,ae,?_,?_,?_,∅⟩
   .rw [aj (λz=>by rw [z,fW] at hb;cases hb)];exact s7 _ _ (ke b o hb)
   .exact Paired.dJ (Paired.Nq Iw (Paired.Cf J0)) λv t z=>fV.keep (λa xs z=>aT QV (s7.tup z)) t z
   .rw [<-er]
    congr 1
    rw [List.reverse_append,vb,jY,List.singleton_append,rf]
    congr 1
    unfold row;rw [xp]
   rw [bG,List.sum_append,List.map_reverse,List.sum_reverse]
 have e0:us=[]:=by
  cases us with
  | nil=>rfl
  | cons _ _=>exact absurd rfl c
 subst e0;cases pr;rw [List.reverse_nil,List.flatMap_nil,iu] at er;refine⟨_,rfl,q L H5 hL sm ?_⟩;rw [<-er];exact eL
end
theorem x8:∀(hs bA:List Str)(x:Str),x∈tN bA hs↔x∈bA\/x∈hs
 | [],bA,x=>by simp [tN]
 | h::r,bA,x=>by
  show x∈tN (gP bA h) r↔_;rw [x8 r,cA];unfold gP;by_cases c:h∈bA
  .rw [ax c];constructor
   .rintro(a | a)
    .exact .inl a
    exact .inr (.inr a)
   rintro(a | a | a)
   .exact .inl a
   .exact .inl (a ▸ c)
   exact .inr a
  rw [az c,cC,bV];constructor
  .rintro((a | a) | a)
   .exact .inl a
   .exact .inr (.inl a)
   exact .inr (.inr a)
  rintro(a | a | a)
  .exact .inl (.inl a)
  .exact .inl (.inr a)
  exact .inr a
def Mz {aa:List aw}{x:Str}:x∈hd aa↔∃ru∈aa,ru.1=x:=by
 unfold hd;rw [x8];constructor
 .rintro(h | h)
  .cases h
  obtain⟨ru,a,b⟩:=cQ.mp h;exact⟨ru,a,b⟩
 rintro⟨ru,a,b⟩;exact .inr (cQ.mpr ⟨ru,a,b⟩)
section
def BX (aa:List aw)(t:Tr)(x:Str):Prop:=(∃z,t=.w z)\/∃k cs ru,t=.n k cs/\aa[k]?=some ru/\ru.1≠x
def Jz (aa:List aw)(t:Tr)(x:Str)(b:Bool):Prop:=(x∉hd aa/\b=false)\/(x∈hd aa/\((Is aa t x/\b=true)\/(BX aa t x/\b=false)))
def A9 (K:a9):Sp:=λvs H Q _=>∃(R:Addr)(rs:List Addr)(aa:List aw)(v:V)(t:Tr)(x:Str)(b:Bool),vs=[.ref R,v,.str x]/\aI K H R (rs.map V.ref)/\bI K H rs aa/\aa.length<=1000/\fV K H t v/\sz t<=1000000/\Jz aa t x b/\∀H',aC H H'->Q (.bl b) H'
def qE:aK ["rules","tree","name","heads","waiting","pair"] ["rules","tree","name"] (av zg):=ir rfl rfl rfl rfl nofun
def Fn (F:g_ K "tree_stands" "tree_stands" zg f fd)(T:Txt mg)(hZ:mg "zip"=none)(GH:aB P w K mg base 3 "heads_of" ["rules"] (iX K))(GT:aB P w K mg base 3 "is_top_of" ["rules","tree","name"] (JL K)):bO P w K mg base fk 4 f fd ["rules","tree","name"] (A9 K):=by
 refine F.ok qE (λvs H Q E h=>?_) (λdW A outer s H vs Q E hr h=>?_)
 .obtain⟨R,rs,aa,v,t,x,b,rfl,_⟩:=h;rfl
 obtain⟨R,rs,aa,v,t,x,b,rfl,hR,b_,br,ht,hsz,vd,q⟩:=h;have hu:=fS hr;refine⟨_,ai (aA (i:=3) qE.nd rfl (bx rfl) (bE (dD rfl) rfl T.yG eZ (ab (bF ["head"] [] rfl (aZ (a8 GH hr rfl (ab (pv 0) ah))) (bp rfl rfl) nofun rfl nofun
   (λ_ _ _ _ _=>aq (i:=0) (show (["head"]:List Str).Nodup by decide +kernel) rfl (bx rfl)) (λ_ _ _ _ _=>bY) (λ_ _ _ _ _=>bD (ab (pv 0) (ab dI ah)))) ah)))
  (ai (bw (cZ (dZ hu (pv 2) (pv 3))) (ak (aL dI)) aM)
  (ai (aA (i:=4) qE.nd rfl (bx rfl) (bc (ab (bD (ab (pv 1) (ab (pv 2) ah))) ah)))
  (ai (iL b0 (gG (pv 4) (λ_=>rfl))
   (ai (aA (i:=5) qE.nd rfl (bx rfl) (zM eG PySem.F.slot_list_pop PySem.F.type_list_pop zY (pv 4)))
   (ak (bw (cZ (jN hu (aF aN (pv 5) ao (λ_ _=>rfl)) (pv 3)))
    (ai (bw (gk (cY (a8 GT hr rfl (ab (pv 0) (ab (aF aN (pv 5) ao (λ_ _=>rfl)) (ab (aF aN (pv 5) ao (λ_ _=>rfl)) ah)))))) (ak (aL dI)) aM)
    (ak (bX (ft eG PySem.F.slot_list_extend PySem.F.type_list_extend CC (pv 4) (ab (zJ rfl rfl T.lst rfl hZ (ab (aF aN (aF aN (pv 5) ao (λ_ _=>rfl)) ao (λ_ _=>rfl))
     (ab (aF aN (aF bo (pv 0) (aF aN (aF aN (pv 5) ao (λ_ _=>rfl)) ao (λ_ _=>rfl)) (λ_ _=>rfl)) ao (λ_ _=>rfl)) ah))) ah)))))
    (ak (bw (aV uu (aF aN (pv 5) ao (λ_ _=>rfl)) (aF aN (pv 5) ao (λ_ _=>rfl)) (bu _)) (ak (aL dI)) aM))))))
  (ak (aL dI))))),?_⟩
 nofun
 refine⟨_,rfl,R,rs,aa,rfl,hR,b_,br,λD1 H1 f1 s1 e1=>?_⟩;have FQ:=hV (aa.map (·.1)) [];simp only [iV,au] at FQ;refine⟨D1,rfl,⟨_,aI.of e1⟩,λD2 i9=>k0 (aI.of e1) ∅ i9 λts H2 s2 e2 p2=>?_⟩;have kp:Paired (λt (kv:aS×V)=>aQ K H2 t [kV kv.1,kv.2]) ts ((hd aa).map λh=>((Sum.inr h:aS),V.bl true)):=cv p2 λ_ _ z=>z;refine⟨D2,ts,_,rfl,e2,kp,λd qL=>?_⟩;have CD:∀z,(bB (cK ((hd aa).map λh=>((Sum.inr h:aS),V.bl true)) []) (Sum.inr z)).isSome=decide (z∈hd aa):=λz=>by
  rw [kM];by_cases c:z∈hd aa
  .rw [ax c,bW c];rfl
  rw [az c,dq c];rfl
 generalize cK ((hd aa).map λh=>((Sum.inr h:aS),V.bl true)) []=kE at CD;have s3:=(s1.trans s2).trans (af qL (.dK kE));have e3:upd H2 d (.dK kE) d=some (.dK kE):=ae;generalize upd H2 d (.dK kE)=H3 at s3 e3;refine⟨_,rfl,_,rfl,d,_,rfl,cz.k (k:=Sum.inr x) e3,_,rfl,?_⟩;rw [CD];refine bZ (λc=>?_) (λc=>?_)
 .have nx:x∉hd aa:=by simpa using c
  rcases vd with ⟨_,rfl⟩ | ⟨h,_⟩
  .exact q H3 s3
  exact absurd h nx
 have hx:x∈hd aa:=by simpa using c
 have vd2:(Is aa t x/\b=true)\/(BX aa t x/\b=false):=by
  rcases vd with ⟨h,_⟩ | ⟨_,h⟩
  .exact absurd hx h
  exact h
 refine⟨_,rfl,_,rfl,kc,λr0 F7=>⟨vk,λW hW=>?_⟩⟩;have fW:H W=none:=(s3.trans (af F7 _)).free hW;have s4:=s3.trans ((af F7 (.tup [v,.str x])).trans (af hW (.lst [.ref r0])));have e4:=(af F7 (.tup [v,.str x])).trans (af hW (.lst [.ref r0])) _ _ e3;have v4:aQ K (upd (upd H3 r0 (.tup [v,.str x])) W (.lst [.ref r0])) r0 [v,.str x]:=(af hW _).tup (aQ.of ae);have ZM:upd (upd H3 r0 (.tup [v,.str x])) W (.lst [.ref r0]) W=some (.lst [.ref r0]):=ae;have Yi:W≠d:=λz=>by
  have:=(af F7 (.tup [v,.str x])) _ _ e3;rw [<-z,hW] at this;cases this
 generalize upd (upd H3 r0 (.tup [v,.str x])) W (.lst [.ref r0])=H4 at s4 e4 v4 ZM;refine⟨λm σ H5=>∃(us:List Addr)(ts:List (Tr×Str))(y:Option V),σ=[aP R,some v,some (.str x),aP d,aP W,y]/\aC H H5/\H5 d=some (.dK kE)/\H5 W=some (.lst (us.map V.ref))/\Paired (λr (p:Tr×Str)=>∃v,aQ K H5 r [v,.str p.2]/\fV K H5 p.1 v) us ts /\
   (((∀p∈ts,Is aa p.1 p.2)/\b=true)\/(ts=[(t,x)]/\BX aa t x/\b=false))/\m=(ts.map λp=>sz p.1).sum/\m<=sz t,
  ⟨sz t,[r0],[(t,x)],none,rfl,s4,e4,ZM,.cons ⟨v,v4,fV.keep (λ_ _ z=>s4.tup z) t ht⟩ .nil,?_,by simp,aH _⟩,?_⟩
 .rcases vd2 with ⟨h,e⟩ | ⟨h,e⟩
  .exact .inl ⟨λp hp=>by rw [bV.mp hp];exact h,e⟩
  exact .inr ⟨rfl,h,e⟩
 rintro m σ H5 ⟨us,ts,y,rfl,sm,e5,eW,pr,jd,em,ez⟩;have lp:=aY pr;refine⟨_,rfl,!us.isEmpty,.inl ⟨us.map V.ref,aI.of eW,by simp⟩,?_⟩;refine bZ (λc=>?_) (λc=>?_)
 .obtain⟨gT,r,fC,p0,rfl,rfl,T6,v0,h0,t0v⟩:=qc pr (λz=>by rw [z] at c;cases c);obtain⟨t0,x0⟩:=p0;rw [bG,List.sum_append] at em;simp only [cu,jG,jW,List.sum_nil] at em;have sp:=rD t0;refine⟨_,λ_ _ h=>h,?_⟩;rw [bG] at eW;refine⟨_,rfl,.inl ⟨rfl,_,aI.of eW⟩,W,_,.ref r,rfl,rfl,eW,rV,?_⟩;rw [show (gT.map V.ref++[r].map V.ref).dropLast=gT.map V.ref from List.dropLast_concat];have ke:aC H (upd H5 W (.lst (gT.map V.ref))):=λb o hb=>by rw [aj (λz=>by rw [z,fW] at hb;cases hb)];exact sm b o hb
  have tk:∀a xs,aQ K H5 a xs->aQ K (upd H5 W (.lst (gT.map V.ref))) a xs:=λa xs z=>aT eW z;have h1:=tk _ _ h0;have t1:=fV.keep tk t0 t0v;have Iw:Paired (λr (p:Tr×Str)=>∃v,aQ K (upd H5 W (.lst (gT.map V.ref))) r [v,.str p.2]/\fV K (upd H5 W (.lst (gT.map V.ref))) p.1 v) gT fC:=Paired.dJ T6 λr p ⟨v,z1,z2⟩=>⟨v,tk _ _ z1,fV.keep tk p.1 z2⟩;have HI:upd H5 W (.lst (gT.map V.ref)) W=some (.lst (gT.map V.ref)):=ae;have e6:upd H5 W (.lst (gT.map V.ref)) d=some (.dK kE):=by rw [aj (cP Yi)];exact e5
  generalize upd H5 W (.lst (gT.map V.ref))=H6 at ke h1 t1 Iw HI e6;refine⟨_,rfl,r,_,_,_,rfl,rfl,h1,rfl,_,rfl,d,_,rfl,cz.k (k:=Sum.inr x0) e6,_,rfl,?_⟩;rw [CD];have j0:(Is aa t0 x0/\b=true/\∀p∈fC,Is aa p.1 p.2)\/(x0∈hd aa/\BX aa t0 x0/\b=false):=by
   rcases jd with ⟨j,e⟩ | ⟨e1,e2,e3⟩
   .exact .inl ⟨j _ (cC.mpr (.inr (bV.mpr rfl))),e,λp hp=>j p (cC.mpr (.inl hp))⟩
   have:(t0,x0)=(t,x):=by
    have:=congrArg List.getLast? e1;simpa using this
   cases this;exact .inr ⟨hx,e2,e3⟩
  refine bZ (λc2=>?_) (λc2=>?_)
  .have hx0:x0∈hd aa:=dr c2;rcases j0 with ⟨j1,j2,j3⟩ | ⟨_,tn,j2⟩
   .cases t0 with
    | w z =>
     unfold Is at j1;exact absurd (j1.1 ▸ hx0) j1.2
    | n k cs =>
     unfold Is at j1;obtain⟨bH,hk,CY⟩:=j1;unfold fV at t1;obtain⟨a,p,vs,rfl,ha,hp,YQ⟩:=t1;have J0:=gQ.paired cs YQ;have lcs:=aY J0;obtain⟨lis,his⟩:=DY.paired cs CY;have lk:=(bq.mp hk).1;have CP:=b_.same ke;obtain⟨rr,er,p2,v1,v2⟩:=Paired.at_ CP k _ hk;have tO:j9 (rs.map V.ref) (k:Int)=some (.ref rr):=bT (by rw [bh,er];rfl);have e7:sz (.n k cs)=1+(cs.kO.map sz).sum:=by unfold sz;rw [vv]
     have Hl:∀l:List Tr,l.length<=(l.map sz).sum:=λl=>by
      induction l with
      | nil=>exact aH _
      | cons x r ih =>
       have:=rD x;rw [cu,jW,dN];omega
     have l1:=Hl cs.kO;have l2:=Hl (fC.map (·.1));have l3:=aY Iw;rw [au,iG] at l2;have l2':fC.length<=(fC.map λp=>sz p.1).sum:=l2;refine⟨_,rfl,_,rfl,r,_,_,_,rfl,rfl,h1,rfl,_,rfl,r,_,_,_,rfl,rfl,h1,rfl,R,rs,aa,.ref a,x0,rfl,ke.seq hR,CP,.inr ⟨a,p,k,vs,_,rfl,ha,hp,hk,.inr ⟨rfl,by show vs.length=bH.length;omega,true,rfl,?_⟩⟩⟩;refine df ?_;refine⟨_,rfl,.inl ⟨rfl,_,aI.of HI⟩,_,rfl,r,_,_,_,rfl,rfl,h1,rfl,a,_,_,_,rfl,rfl,ha,rfl,_,rfl,_,rfl,r,_,_,_,rfl,rfl,h1,rfl,a,_,_,_,rfl,rfl,ha,rfl,R,_,_,_,rfl,rfl,ke.seq hR,tO,rr,_,_,_,rfl,rfl,v1,rfl,p,p2,vs,bH.map V.str,rfl,hp,v2,by rw [au];omega,∅,λL tL H7 fL s7 eL pz=>?_⟩;have QV:=s7 _ _ HI;have lz:=aY pz;rw [List.length_zip,au] at lz;refine⟨W,L,_,_,rfl,rfl,QV,eL,fits (by rw [au,au];omega),?_⟩;rw [<-bG];have k8:∀a xs,aQ K H6 a xs->aQ K (upd H7 W (.lst ((gT++tL).map V.ref))) a xs:=λa xs z=>aT QV (s7.tup z);have Tz:((cs.kO.zip bH).map λp=>sz p.1).sum=(cs.kO.map sz).sum:=by
      have:((cs.kO.zip bH).map λp=>sz p.1)=((cs.kO.zip bH).map Prod.fst).map sz:=by rw [iG];rfl
      rw [this,List.map_fst_zip ∅]
     refine⟨(fC.map λp=>sz p.1).sum+(cs.kO.map sz).sum,∅,gT++tL,fC++cs.kO.zip bH,_,rfl,λb o hb=>?_,by rw [aj (cP Yi)];exact s7 _ _ e6,ae,?_,.inl ⟨λpp pI=>?_,j2⟩,by rw [bG,List.sum_append,Tz],∅⟩
     .rw [aj (λz=>by rw [z,fW] at hb;cases hb)];exact s7 _ _ (ke b o hb)
     .refine Paired.Nq (Paired.dJ Iw λr p ⟨v,z1,z2⟩=>⟨v,k8 _ _ z1,fV.keep k8 p.1 z2⟩) (jv (by rw [List.length_zip];omega) λj T pp eT ep=>?_);obtain⟨ec,eq⟩:=vj.mp ep;obtain⟨u,eu,tU⟩:=Paired.at_ J0 j _ ec;have ezp:(vs.zip (bH.map V.str))[j]?=some (u,.str pp.2):=vj.mpr ⟨eu,by rw [bh,eq];rfl⟩;obtain⟨T',ZN,hT'⟩:=Paired.at_ pz j _ ezp;rw [eT] at ZN;cases ZN;exact⟨u,aT QV hT',fV.keep k8 pp.1 tU⟩
     rcases cC.mp pI with h | h
     .exact j3 pp h
     obtain⟨j,hj⟩:=iw h;obtain⟨ec,eq⟩:=vj.mp hj;exact his j _ _ ec eq
   rcases tn with ⟨z,rfl⟩ | ⟨k,cs,ru,rfl,hk,ne⟩
   .unfold fV at t1;subst t1;refine⟨_,rfl,_,rfl,r,_,_,_,rfl,rfl,h1,rfl,_,rfl,r,_,_,_,rfl,rfl,h1,rfl,R,rs,aa,.str z,x0,rfl,ke.seq hR,b_.same ke,.inl ⟨z,rfl,false,rfl,?_⟩⟩;refine g7 ?_;subst j2;exact q H6 ke
   unfold fV at t1;obtain⟨a,p,vs,rfl,ha,hp,YQ⟩:=t1;refine⟨_,rfl,_,rfl,r,_,_,_,rfl,rfl,h1,rfl,_,rfl,r,_,_,_,rfl,rfl,h1,rfl,R,rs,aa,.ref a,x0,rfl,ke.seq hR,b_.same ke,.inr ⟨a,p,k,vs,ru,rfl,ha,hp,hk,.inl ⟨ne,false,rfl,?_⟩⟩⟩;refine g7 ?_;subst j2;exact q H6 ke
  have X_:x0∉hd aa:=λz=>c2 (bW z);rcases j0 with ⟨j1,j2,j3⟩ | ⟨j1,_⟩
  .cases t0 with
   | n k cs =>
    unfold Is at j1;obtain⟨bH,e,_⟩:=j1;exact absurd (Mz.mpr ⟨_,cg e,rfl⟩) X_
   | w z =>
    unfold Is at j1;unfold fV at t1;obtain⟨rfl,_⟩:=j1;subst t1;refine⟨_,rfl,r,_,_,_,rfl,rfl,h1,rfl,_,rfl,r,_,_,_,rfl,rfl,h1,rfl,rfl,_,rfl,?_⟩;refine bZ (λc3=>absurd c3 (by simp)) (λ_=>?_);have e7:sz (.w x0)=1:=by unfold sz;rfl
    exact⟨_,∅,gT,fC,_,rfl,ke,e6,HI,Iw,.inl ⟨j3,j2⟩,rfl,∅⟩
  exact absurd j1 X_
 have e0:us=[]:=by
  cases us with
  | nil=>rfl
  | cons _ _=>exact absurd rfl c
 subst e0;cases pr;rcases jd with ⟨_,e⟩ | ⟨e,_⟩
 .subst e;exact q H5 sm
 cases e
end
end gL
namespace L2
open PySem
def TZ (K:a9):R2:=λx y H Q=>∃y',y=.str y'/\((∃z,x=.str z/\Q (.bl (decide (V.str z=V.str y'))) H)\/∃a xs,x=.ref a/\aQ K H a xs/\Q (.bl false) H)
def Fg {X:Cx}(hu:X.A.units < cLine):jj X (compareOp .Eq) (TZ X.K):=by
 intro ag s σ H x y v u Q I rx ry h;obtain⟨y',rfl,h⟩:=h;rcases h with ⟨z,rfl,q⟩ | ⟨a,xs,rfl,ha,q⟩
 .exact ik ag s σ H _ _ v u Q I rx ry ⟨rfl,q⟩
 cases rx;obtain⟨t,rfl⟩:=ry;obtain⟨aU,r,pl,hz⟩:=I.tuple ha;exact SeqAt.RcAt.tuple_str y' t pl hu X.prog X.w X.xe _ ⟨.bl false,H,I,rfl,q⟩
end L2
namespace gL
open PySem L2 M11
inductive Dd
 | step (z:Str)
 | make (k:Nat)
def l_ (K:a9)(H:Hp)(a:Addr):Dd->Prop
 | .step z=>aQ K H a [.str "step",.str z]
 | .make k=>aQ K H a [.str "make",.int (k:Int)]
def l_.keep {K:a9}{H H':Hp}(k:∀a xs,aQ K H a xs->aQ K H' a xs){a:Addr}:∀{d:Dd},l_ K H a d->l_ K H' a d
 | .step z,h=>k _ _ h
 | .make _,h=>k _ _ h
mutual
def mN:Tr->List Dd
 | .w z=>[.step z]
 | .n k cs=>qx cs++[.make k]
def qx:jE->List Dd
 | .nil=>[]
 | .cons t r=>mN t++qx r
end
def KO (k:Nat)(cs:jE):mN (.n k cs)=qx cs++[.make k]:=by rw [mN]
theorem oy:∀ts:jE,qx ts=ts.kO.flatMap mN
 | .nil=>by unfold qx;rfl
 | .cons t r=>by unfold qx;rw [oy r];rfl
mutual
theorem qO:∀t:Tr,(mN t).length=sz t
 | .w z=>by unfold mN sz;rfl
 | .n k cs=>by
  unfold mN sz;rw [bM,oz cs,fQ];omega
theorem oz:∀ts:jE,(qx ts).length=AY ts
 | .nil=>by unfold qx AY;rfl
 | .cons t r=>by unfold qx AY;rw [bM,qO t,oz r]
end
theorem Hl:∀l:List Tr,l.length<=(l.map sz).sum
 | []=>aH _
 | x::r=>by
  have:=rD x;have:=Hl r;rw [cu,jW,dN];omega
def jE.xy:List Tr->jE
 | []=>.nil
 | t::r=>.cons t (jE.xy r)
theorem AS:∀l:List Tr,(jE.xy l).kO=l
 | []=>rfl
 | t::r=>by show t::(jE.xy r).kO=t::r;rw [AS r]
theorem gQ.Ub {K:a9}{H:Hp}:∀{vs:List V}{ts:List Tr},Paired (λv t=>fV K H t v) vs ts->gQ K H (jE.xy ts) vs
 | _,_,.nil=>by unfold jE.xy gQ;rfl
 | _,_,.cons h p=>by unfold jE.xy gQ;exact⟨_,_,rfl,h,gQ.Ub p⟩
def wj (aa:List aw) (k:Nat):Option Str:=aa[k]?.map (·.1)
def gM (aa:List aw)(t:Tr)(part:Str):Bool:=match t with
 | .w z=>!decide (part∈hd aa) && decide (z=part)
 | .n k _=>decide (part∈hd aa) && decide (wj aa k=some part)
def kb (aa:List aw):List Tr->List Str->Bool
 | [],[]=>true
 | t::ts,p::ps=>gM aa t p && kb aa ts ps
 | _,_=>false
def iQ (aa:List aw) (k:Nat)(cX:List Tr):Option (List Tr):=match aa[k]? with
 | none=>none
 | some ru=>if (decide (ru.2.length<=cX.length) && kb aa (cX.drop (cX.length - ru.2.length)) ru.2)=true then some (cX.take (cX.length - ru.2.length)++[.n k (jE.xy (cX.drop (cX.length - ru.2.length)))]) else none
def pN (aa:List aw)(cX:List Tr):Dd->Option (List Tr)
 | .step z=>some (cX++[.w z])
 | .make k=>iQ aa k cX
def gu (aa:List aw):List Dd->List Tr->Option (List Tr)
 | [],p=>some p
 | d::r,p=>(pN aa p d).bind (gu aa r)
theorem nI (aa:List aw):∀(ds es:List Dd)(p:List Tr),gu aa (ds++es) p=(gu aa ds p).bind (gu aa es)
 | [],es,p=>rfl
 | d::r,es,p=>by
  show (pN aa p d).bind (gu aa (r++es))=((pN aa p d).bind (gu aa r)).bind (gu aa es);cases pN aa p d with
  | none=>rfl
  | some q=>exact nI aa r es q
def xo (aa:List aw)(d:Dd)(p:List Tr):gu aa [d] p=pN aa p d:=by
 show (pN aa p d).bind (gu aa [])=_;cases pN aa p d with
 | none=>rfl
 | some q=>rfl
def tI (aa:List aw):Dd->Prop
 | .step z=>z∉hd aa
 | .make k=>k < aa.length
structure tP (aa:List aw)(ds:List Dd)(cX:List Tr):Prop where
 is:∀t∈cX,∃x,Is aa t x
 dd:cX.flatMap mN=ds
def MY {aa:List aw}{t:Tr}{x p:Str}(h:Is aa t x)(f:gM aa t p=true):Is aa t p:=by
 cases t with
 | w z =>
  unfold gM at f;have f2:=h_.mp f;unfold Is at h ⊢;have e:=dr f2.2;exact⟨e.symm,h.2⟩
 | n k cs =>
  unfold gM at f;have f2:=h_.mp f;unfold Is at h ⊢;obtain⟨bH,e1,e2⟩:=h;have e:=dr f2.2;unfold wj at e;rw [e1] at e;have e3:x=p:=by
   have:some x=some p:=e;injection this
  exact⟨bH,by rw [e1,e3],e2⟩
theorem xS {aa:List aw}:∀(ts:List Tr) (ps:List Str),(∀t∈ts,∃x,Is aa t x)->kb aa ts ps=true->DY aa (jE.xy ts) ps
 | [],[],_,_=>by unfold jE.xy DY;rfl
 | [],_::_,_,f=>by cases f
 | _::_,[],_,f=>by cases f
 | t::ts,p::ps,h,f=>by
  have f2:=h_.mp (show (gM aa t p && kb aa ts ps)=true from f);obtain⟨x,hx⟩:=h t cV;unfold jE.xy DY;exact⟨p,ps,rfl,MY hx f2.1,xS ts ps (λu hu=>h u (du _ hu)) f2.2⟩
def mx {aa:List aw}{k:Nat}{cX i4:List Tr}(e:iQ aa k cX=some i4):∃ru,aa[k]?=some ru/\ru.2.length<=cX.length/\kb aa (cX.drop (cX.length - ru.2.length)) ru.2=true/\i4=cX.take (cX.length - ru.2.length)++[.n k (jE.xy (cX.drop (cX.length - ru.2.length)))]:=by
 unfold iQ at e;cases er:aa[k]? with
 | none=>rw [er] at e;cases e
 | some ru =>
  rw [er] at e;have e:(if (decide (ru.2.length<=cX.length) && kb aa (cX.drop (cX.length - ru.2.length)) ru.2)=true then some (cX.take (cX.length - ru.2.length)++[.n k (jE.xy (cX.drop (cX.length - ru.2.length)))]) else none)=some i4:=e;by_cases c:(decide (ru.2.length<=cX.length) && kb aa (cX.drop (cX.length - ru.2.length)) ru.2)=true
  .rw [ax c] at e;obtain⟨c1,c2⟩:=h_.mp c;exact⟨ru,rfl,dr c1,c2,(gS e).symm⟩
  rw [az c] at e;cases e
theorem tP.pN {aa:List aw}{ds:List Dd}{cX i4:List Tr}{d:Dd}(h:tP aa ds cX)(hd2:tI aa d)(e:gL.pN aa cX d=some i4):tP aa (ds++[d]) i4:=by
 cases d with
 | step z =>
  cases (show some (cX++[Tr.w z])=some i4 from e);refine⟨λt ht=>?_,?_⟩
  .rcases cC.mp ht with q | q
   .exact h.is t q
   rw [bV.mp q];exact⟨z,by unfold Is;exact⟨rfl,hd2⟩⟩
  rw [jY,h.dd];simp [mN]
 | make k =>
  obtain⟨ru,er,le,fl,rfl⟩:=mx (show iQ aa k cX=some i4 from e);refine⟨λt ht=>?_,?_⟩
  .rcases cC.mp ht with q | q
   .exact h.is t (p_ q)
   rw [bV.mp q];refine⟨ru.1,?_⟩;unfold Is;exact⟨ru.2,er,xS _ _ (λt ht=>h.is t (List.mem_of_mem_drop ht)) fl⟩
  rw [jY,List.flatMap_singleton,KO,oy,AS,<-ku,<-jY,rA,h.dd]
def tP.top {aa:List aw}{ds:List Dd}{cX:List Tr}(h:tP aa ds cX){k:Nat}{cs:jE}(ht:Tr.n k cs∈cX):k < aa.length:=by
 obtain⟨x,hx⟩:=h.is _ ht;unfold Is at hx;obtain⟨bH,e,_⟩:=hx;exact(bq.mp e).1
theorem tP.gu {aa:List aw}:∀{es ds:List Dd}{cX i4:List Tr},tP aa ds cX->(∀d∈es,tI aa d)->gL.gu aa es cX=some i4->tP aa (ds++es) i4
 | [],ds,cX,i4,h,_,e=>by cases e;rw [iu];exact h
 | d::r,ds,cX,i4,h,hd2,e=>by
  have e:(gL.pN aa cX d).bind (gL.gu aa r)=some i4:=e;cases e1:gL.pN aa cX d with
  | none=>rw [e1] at e;cases e
  | some p1 =>
   rw [e1] at e;have:=tP.gu (h.pN (hd2 d cV) e1) (λx hx=>hd2 x (du _ hx)) e;rw [ku] at this;exact this
def tP.nil {aa:List aw}:tP aa [] []:=⟨λ_ h=>(by cases h),rfl⟩
def Ic:Dd->List Str
 | .step z=>[z]
 | .make _=>[]
mutual
theorem A3:∀t:Tr,(mN t).flatMap Ic=row t
 | .w z=>by unfold mN row;rfl
 | .n k cs=>by
  unfold mN row;rw [jY,wY cs];simp [Ic]
theorem wY:∀ts:jE,(qx ts).flatMap Ic=rows ts
 | .nil=>by unfold qx rows;rfl
 | .cons t r=>by unfold qx rows;rw [jY,A3 t,wY r]
end
mutual
theorem KN:∀t:Tr,dp t<=sz t
 | .w z=>by unfold dp sz;omega
 | .n k cs=>by
  have:=BI cs;unfold dp sz;omega
theorem BI:∀ts:jE,DR ts<=AY ts
 | .nil=>by unfold DR AY;omega
 | .cons t r=>by
  have:=KN t;have:=BI r;unfold DR AY;omega
end
def Jm (o:Option (List Tr)):Option Tr:=match o with
 | some [.n k cs]=>some (.n k cs)
 | _=>none
abbrev vI:Stmt:=top 9
abbrev vQ:Stmt:=top 10
abbrev vO:Stmt:=top 11
abbrev vP:Stmt:=top 12
abbrev rR:Stmt:=top 13
abbrev jT (K:a9)(H:Hp)(us:List V)(ts:List Tr):Prop:=Paired (λv t=>fV K H t v) us ts
theorem jT.keep {K:a9}{H H':Hp}{us:List V}{ts:List Tr}(k:∀a xs,aQ K H a xs->aQ K H' a xs)(h:jT K H us ts):jT K H' us ts:=Paired.dJ h λ_ t z=>fV.keep k t z
def jU (H:Hp)(d:Addr)(aa:List aw):Prop:=∃kE,H d=some (.dK kE)/\∀z,(bB kE (Sum.inr z)).isSome=decide (z∈hd aa)
def jU.same {H H':Hp}{d:Addr}{aa:List aw}(h:jU H d aa)(s:aC H H'):jU H' d aa:=let ⟨kE,a,b⟩:=h;⟨kE,s _ _ a,b⟩
theorem jU.upd {H:Hp}{d P:Addr}{aa:List aw}{xs:List V}{o:HO}(h:jU H d aa)(e:H P=some (.lst xs)):jU (upd H P o) d aa:=let ⟨kE,a,b⟩:=h;⟨kE,by rw [aj (λz=>by rw [z,e] at a;cases a)];exact a,b⟩
section
def Bi (K:a9):Sp:=λvs H Q _=>∃(R d:Addr)(rs:List Addr)(aa:List aw)(v:V)(t:Tr)(part:Str),vs=[.ref R,.ref d,v,.str part]/\aI K H R (rs.map V.ref)/\bI K H rs aa/\jU H d aa/\fV K H t v/\(∀k cs,t=.n k cs->k < aa.length)/\Q (.bl (gM aa t part)) H
def Io:aK ["rules","heads","child","part"] ["rules","heads","child","part"] (av rR):=ir rfl rfl rfl rfl nofun
def FA (F:g_ K "is_child" "is_child" rR f fd)(T:Txt mg):bO P w K mg base fk 1 f fd ["rules","heads","child","part"] (Bi K):=by
 refine F.ok Io (λvs H Q E h=>?_) (λdW A outer s H vs Q E hr h=>?_)
 .obtain⟨R,d,rs,aa,v,t,part,rfl,_⟩:=h;rfl
 obtain⟨R,d,rs,aa,v,t,part,rfl,hR,b_,⟨kE,wM,hd2⟩,ht,hk,q⟩:=h;have hu:=fS hr;have U4:=u4 hu;refine⟨_,ai (bw (cZ (jN hu (pv 3) (pv 1)))
   (ak (aL (jM (zI (aD cw rfl T.CM jn (ab (pv 2) (ab (fM (v:=.ty "str") rfl T.str iT rfl) ah))))
    (kR (eQ ik (aF aN (aF bo (pv 0) (aF aN (pv 2) ao (λ_ _=>rfl)) (λ_ _=>rfl)) ao (λ_ _=>rfl)) (pv 3) (bu _)))))) aM)
  (ak (aL (eQ (Fg U4) (pv 2) (pv 3) (bu _)))),?_⟩
 nofun
 refine⟨_,rfl,_,rfl,d,_,rfl,cz.k (k:=Sum.inr part) wM,_,rfl,?_⟩;rw [hd2 part];refine bZ (λc=>?_) (λc=>?_)
 .cases t with
  | w z =>
   unfold fV at ht;subst ht;have e:gM aa (.w z) part=false:=by
    unfold gM;rw [c];rfl
   rw [e] at q;refine⟨_,rfl,.str z,"str","str",true,rfl,.str z,fA,true,rfl,false,rfl,?_⟩;refine df ?_;exact q
  | n k cs =>
   unfold fV at ht;obtain⟨a,p,us,rfl,ha,hp,_⟩:=ht;have lk:=hk k cs rfl;have er:aa[k]?=some aa[k]:=cf lk;obtain⟨r,err,p2,v1,v2⟩:=Paired.at_ b_ k _ er;have tO:j9 (rs.map V.ref) (k:Int)=some (.ref r):=bT (by rw [bh,err];rfl);have e:gM aa (.n k cs) part=decide (V.str aa[k].1=V.str part):=by
    have eh:wj aa k=some aa[k].1:=by unfold wj;rw [er];rfl
    show (decide (part∈hd aa) && decide (wj aa k=some part))=_;rw [c,eh];rw [jc];by_cases h:aa[k].1=part
    .rw [bW (congrArg some h),bW (congrArg V.str h)]
    rw [dq (λz=>h (gS z)),dq (λz=>h (by injection z))]
   rw [e] at q;refine⟨_,rfl,.ref a,"tuple","str",false,rfl,.tup ha,pE,false,rfl,true,rfl,?_⟩;refine g7 ?_;exact⟨_,rfl,_,rfl,a,_,_,_,rfl,rfl,ha,rfl,R,_,_,_,rfl,rfl,hR,tO,r,_,_,_,rfl,rfl,v1,rfl,_,rfl,rfl,q⟩
 have c':decide (part∈hd aa)=false:=by simpa using c
 cases t with
 | w z =>
  unfold fV at ht;subst ht;have e:gM aa (.w z) part=decide (V.str z=V.str part):=by
   unfold gM;rw [c'];show (true && decide (z=part))=_;rw [jc];by_cases h:z=part
   .rw [bW h,bW (congrArg V.str h)]
   rw [dq h,dq (λy=>h (by injection y))]
  rw [e] at q;exact⟨_,rfl,_,rfl,part,rfl,.inl ⟨z,rfl,q⟩⟩
 | n k cs =>
  unfold fV at ht;obtain⟨a,p,us,rfl,ha,hp,_⟩:=ht;have e:gM aa (.n k cs) part=false:=by
   unfold gM;rw [c'];rfl
  rw [e] at q;exact⟨_,rfl,_,rfl,part,rfl,.inr ⟨a,_,rfl,ha,q⟩⟩
def w_ (K:a9):Sp:=λvs H Q _=>∃(d Pl:Addr)(aa:List aw)(us:List V)(z:Str),vs=[.ref d,.ref Pl,.str z]/\jU H d aa/\H Pl=some (.lst us)/\us.length<=1000/\z∉hd aa/\Q (.bl true) (upd H Pl (.lst (us++[.str z])))
def EB:aK ["heads","pile","word"] ["heads","pile","word"] (av vO):=ir rfl rfl rfl rfl nofun
def Cu (F:g_ K "do_step" "do_step" vO f fd)(T:Txt mg):bO P w K mg base fk 1 f fd ["heads","pile","word"] (w_ K):=by
 refine F.ok EB (λvs H Q E h=>?_) (λdW A outer s H vs Q E hr h=>?_)
 .obtain⟨d,Pl,aa,us,z,rfl,_⟩:=h;rfl
 obtain⟨d,Pl,aa,us,z,rfl,⟨kE,wM,hd2⟩,hP,hl,hz,q⟩:=h;have hu:=fS hr;refine⟨_,ai (bw (PW.pt (ju (gk (cY (aD cw rfl T.CM jn (ab (pv 2) (ab (fM (v:=.ty "str") rfl T.str iT rfl) ah)))))
   (iq (cZ (jN hu (pv 2) (pv 0)))))) (ak (aL dI)) aM)
  (ai (bX (ft eG fZ f_ bK (pv 1) (ab (pv 2) ah)))
  (ak (aL dI))),?_⟩
 nofun
 refine⟨_,rfl,.str z,"str","str",true,rfl,.str z,fA,true,rfl,?_⟩;refine df ?_;refine⟨_,rfl,_,rfl,d,_,rfl,cz.k (k:=Sum.inr z) wM,_,rfl,?_⟩;rw [hd2 z,dq hz];refine df ?_;exact⟨_,rfl,.inl ⟨rfl,_,aI.of hP⟩,_,rfl,Pl,_,_,rfl,rfl,hP,bL ∅,q⟩
theorem wq {aa:List aw}:∀{ts:List Tr}{ps:List Str}{i:Nat}{t:Tr}{p:Str},kb aa ts ps=true->ts[i]?=some t->ps[i]?=some p->gM aa t p=true
 | [],[],_,_,_,_,e,_=>by cases e
 | [],_::_,_,_,_,f,_,_=>by cases f
 | _::_,[],_,_,_,f,_,_=>by cases f
 | a::ts,b::ps,0,t,p,f,e1,e2=>by
  have f2:=h_.mp (show (gM aa a b && kb aa ts ps)=true from f);cases e1;cases e2;exact f2.1
 | a::ts,b::ps,i+1,t,p,f,e1,e2=>by
  have f2:=h_.mp (show (gM aa a b && kb aa ts ps)=true from f);exact wq f2.2 e1 e2
theorem wo {aa:List aw}:∀{ts:List Tr}{ps:List Str},ts.length=ps.length->(∀(i:Nat) t p,ts[i]?=some t->ps[i]?=some p->gM aa t p=true)->kb aa ts ps=true
 | [],[],_,_=>rfl
 | [],_::_,e,_=>by cases e
 | _::_,[],e,_=>by cases e
 | a::ts,b::ps,e,h=>by
  show (gM aa a b && kb aa ts ps)=true;rw [h 0 a b rfl rfl,wo (Nat.succ.inj e) λi t p e1 e2=>h (i+1) t p e1 e2];rfl
end
theorem kS {α β:Type}{F:α->β->Prop}:∀{xs:List α}{ys:List β},Paired F xs ys->∀n,Paired F (xs.take n) (ys.take n)
 | _,_,_,0=>by rw [oO,oO];exact .nil
 | _,_,.nil,_+1=>.nil
 | _,_,.cons a b,n+1=>.cons a (kS b n)
theorem kT {α β:Type}{F:α->β->Prop}:∀{xs:List α}{ys:List β},Paired F xs ys->∀n,Paired F (xs.drop n) (ys.drop n)
 | _,_,h,0=>h
 | _,_,.nil,_+1=>.nil
 | _,_,.cons a b,n+1=>kT b n
def B_ {α:Type}{us:List α}{n:Nat}(h:n < us.length):us.take (n+1)=us.take n++[us[n]]:=by
 rw [cS,cf h];rfl
section
structure Xf (K:a9)(H:Hp)(R d Pl:Addr)(rs:List Addr)(aa:List aw)(us:List V)(ts:List Tr):Prop where
 hR:H R=some (.lst (rs.map V.ref))
 b_:bI K H rs aa
 wM:jU H d aa
 hP:H Pl=some (.lst us)
 pl:jT K H us ts
 BH:us.length<=1000
 nR:R≠Pl
 sh:∀ru∈aa,ru.2.length<=8
 sr:aa.length<=1000
 top:∀j cs,Tr.n j cs∈ts->j < aa.length
def xb (K:a9):Sp:=λvs H Q _=>∃(R d Pl:Addr)(rs:List Addr)(aa:List aw)(us:List V)(ts:List Tr) (k:Nat),vs=[.ref R,.ref d,.ref Pl,.int (k:Int)]/\Xf K H R d Pl rs aa us ts/\k < aa.length /\
 (∀H',d0 Pl H H'->iQ aa k ts=none->Q (.bl false) H')/\(∀H' gT fC,d0 Pl H H'->iQ aa k ts=some fC->H' Pl=some (.lst gT)->jT K H' gT fC->gT.length<=us.length+1->Q (.bl true) H')
def rP:aK ["rules","heads","pile","number","children","part"] ["rules","heads","pile","number"] (av vP):=ir rfl rfl rfl rfl nofun
def Cv (F:g_ K "do_make" "do_make" vP f fd)(T:Txt mg)(GB:aB P w K mg base 1 "is_number_below" ["number","many"] vx)(GC:aB P w K mg base 1 "is_child" ["rules","heads","child","part"] (Bi K)):bO P w K mg base fk 2 f fd ["rules","heads","pile","number"] (xb K):=by
 refine F.ok rP (λvs H Q E h=>?_) (λdW A outer s H vs Q E hr h=>?_)
 .obtain⟨R,d,Pl,rs,aa,us,ts,k,rfl,_⟩:=h;rfl
 obtain⟨R,d,Pl,rs,aa,us,ts,k,rfl,M,lk,q0,q1⟩:=h;refine⟨_,ai (bw (gk (cY (a8 GB hr rfl (ab (pv 3) (ab (aD aG rfl T.len cU (ab (pv 0) ah)) ah))))) (ak (aL dI)) aM)
  (ai (aA (i:=4) rP.nd rfl (bx rfl) (bc ah))
  (ai (bQ b0 rfl (gI (E9 (aF aN (aF bo (pv 0) (pv 3) (λ_ _=>rfl)) ao (λ_ _=>rfl)))) (aq (i:=5) rP.nd rfl (bx rfl))
   (ai (bw (PW.pt (ju (gk (gG (pv 2) (λ_=>rfl))) (iq (gk (cY (a8 GC hr rfl (ab (pv 0) (ab (pv 1) (ab (aF bo (pv 2) (j7 ip ao) (λ_ _=>rfl)) (ab (pv 5) ah)))))))))) (ak (aL dI)) aM)
   (ak (bX (ft eG fZ f_ bK (pv 4) (ab (zM eG PySem.F.slot_list_pop PySem.F.type_list_pop zY (pv 2)) ah))))))
  (ai (bX (ft eG fZ f_ bK (pv 2) (ab (bD (ab (pv 3) (ab (bE gb rfl T.tup qS (ab (Iz (pv 4)) ah)) ah))) ah)))
  (ak (aL dI))))),?_⟩
 nofun
 have ll:=aY M.b_;have lp:=aY M.pl;have fw:=M.BH;have er:aa[k]?=some aa[k]:=cf lk;generalize i8:aa[k]=ru at er;have h8:=M.sh ru (cg er);obtain⟨r,err,p,v1,v2⟩:=Paired.at_ M.b_ k ru er;have tO:j9 (rs.map V.ref) (k:Int)=some (.ref r):=bT (by rw [bh,err];rfl);refine⟨_,rfl,_,rfl,R,_,rfl,.inl (aI.of M.hR),k,(rs.map V.ref).length,rfl,by rw [au];omega,true,rfl,?_⟩;refine df ?_;refine⟨o7,λC hC=>?_⟩;have s1:=af hC (.lst []);have Yl:C≠Pl:=λz=>by rw [z,M.hP] at hC;cases hC
 have ZZ:upd H C (.lst []) C=some (.lst []):=ae;generalize upd H C (.lst [])=H1 at s1 ZZ;refine⟨_,rfl,_,rfl,R,_,_,_,rfl,rfl,aI.of (s1 _ _ M.hR),tO,r,_,_,_,rfl,rfl,s1.tup v1,rfl,p,_,rfl,s1.tup v2,λp2 oC=>?_⟩;have s2:=s1.trans (af oC (.tup (ru.2.map V.str).reverse));have KH:=af oC (.tup (ru.2.map V.str).reverse) _ _ ZZ;have QM:aQ K (upd H1 p2 (.tup (ru.2.map V.str).reverse)) p2 (ru.2.map V.str).reverse:=aQ.of ae;generalize upd H1 p2 (.tup (ru.2.map V.str).reverse)=H2 at s2 KH QM;rw [<-List.map_reverse] at QM
 let Kq:Hp->Prop:=λH5=>d0 Pl H H5/\aQ K H5 p2 (ru.2.reverse.map V.str)
 have Mg:∀{H5:Hp},Kq H5->∀a xs,aQ K H a xs->aQ K H5 a xs:=λkq a xs z=>by
  rcases z with (z | ⟨u,z⟩) | z
  .exact .inl (.inl (kq.1 _ _ (λy=>by rw [y,M.hP] at z;cases z) z))
  .exact .inl (.inr ⟨u,kq.1 _ _ (λy=>by rw [y,M.hP] at z;cases z) z⟩)
  exact .inr z
 have Pk:∀fC,iQ aa k ts=some fC->ru.2.length<=ts.length/\kb aa (ts.drop (ts.length - ru.2.length)) ru.2=true:=λfC e=>by
  obtain⟨NI,e1,e2,e3,_⟩:=mx e;rw [er] at e1;cases e1;exact⟨e2,e3⟩
 have none_of:(∀fC,iQ aa k ts≠some fC)->iQ aa k ts=none:=λh=>by
  cases e:iQ aa k ts with
  | none=>rfl
  | some x=>exact absurd e (h x)
 refine⟨p2,rfl,⟨_,QM⟩,?_⟩;refine qN (xs:=ru.2.reverse.map V.str) (λi σ H5=>∃(y5:Option V),σ=[aP R,aP d,aP Pl,some (.int (k:Int)),aP C,y5]/\Kq H5/\i<=us.length/\H5 Pl=some (.lst (us.take (us.length - i)))/\H5 C=some (.lst (us.drop (us.length - i)).reverse) /\
  ∀(j:Nat) t x,j < i->ts[ts.length - 1 - j]?=some t->ru.2.reverse[j]?=some x->gM aa t x=true) ⟨none,rfl,⟨λb o _ hb=>s2 _ _ hb,QM⟩,gB _,by rw [kC,cR];exact s2 _ _ M.hP,by rw [kC,List.drop_length];exact KH,λj _ _ h=>by omega⟩ ?_ ?_ ?_
 .rintro i σ H5 _ ⟨y5,rfl,kq,_⟩;exact kq.2
 .intro i x σ H5 ex jQ
  ac_nf0
  obtain⟨y5,rfl,kq,li,eP,eC,fa⟩:=jQ;rw [bh] at ex;obtain⟨x,Si,rfl⟩:=cq.mp ex;have lx:=(bq.mp Si).1;rw [pZ] at lx;refine goN ?_
  ac_rfl
  refine⟨_,rfl,!(us.take (us.length - i)).isEmpty,.inl ⟨_,aI.of eP,rfl⟩,?_⟩;refine bZ (λc=>?_) (λc=>?_)
  .have e0:us.take (us.length - i)=[]:=by
    cases hh:us.take (us.length - i) with
    | nil=>rfl
    | cons a b=>rw [hh] at c;cases c
   have l0:=congrArg List.length e0;rw [dO,iV] at l0;refine q0 H5 kq.1 (none_of λfC e=>?_);have:=(Pk fC e).1;omega
  have ln:us.length - i≠0:=λz=>by rw [z,oO] at c;exact c rfl
  obtain⟨m,hm⟩:∃m,us.length - i=m+1:=⟨us.length - i - 1,∅⟩;have lm:m < us.length:=by omega
  have et:us.take (us.length - i)=us.take m++[us[m]]:=by rw [hm];exact B_ lm
  have em:us[m]?=some us[m]:=cf lm;have QJ:ts[m]?=some (ts[m]'∅):=cf ∅;obtain⟨u,eu,tv⟩:=Paired.at_ M.pl m _ QJ;rw [em] at eu;have eu:us[m]=u:=gS eu;generalize htm:ts[m]'∅=t0 at QJ tv;have tv5:=fV.keep (Mg kq) t0 tv;have W4:j9 (us.take m++[u]) (-1)=some u:=yh _ _;rw [et,eu] at eP;have tp:∀j cs,t0=.n j cs->j < aa.length:=λj cs e=>M.top j cs (e ▸ cg QJ);refine⟨_,rfl,_,rfl,_,rfl,_,rfl,Pl,_,_,_,rfl,rfl,aI.of eP,W4,_,rfl,R,d,rs,aa,u,t0,x,rfl,aI.of (kq.1 _ _ M.nR M.hR),M.b_.keep (Mg kq),?_,tv5,tp,?_⟩
  .obtain⟨kE,a1,a2⟩:=M.wM;exact⟨kE,kq.1 _ _ (λz=>by rw [z,M.hP] at a1;cases a1) a1,a2⟩
  refine⟨_,rfl,?_⟩;refine bZ (λc2=>?_) (λc2=>?_)
  .have Oc:gM aa t0 x=false:=by simpa using c2
   refine q0 H5 kq.1 (none_of λfC e=>?_);obtain⟨a1,a2⟩:=Pk fC e;have a3:(ts.drop (ts.length - ru.2.length))[ru.2.length - 1 - i]?=some t0:=by
    rw [rg,<-QJ]
    congr 1
    omega
   have a4:ru.2[ru.2.length - 1 - i]?=some x:=by
    rw [ve lx] at Si;exact Si
   rw [wq a2 a3 a4] at Oc;cases Oc
  have Oc:gM aa t0 x=true:=by
   cases hh:gM aa t0 x with
   | true=>rfl
   | false=>rw [hh] at c2;exact absurd rfl c2
  have nPC:Pl≠C:=Yl.symm;refine⟨_,rfl,.inl ⟨rfl,_,aI.of eC⟩,_,rfl,.inl ⟨rfl,_,aI.of eP⟩,Pl,_,u,rfl,rfl,eP,rV,?_⟩;rw [List.dropLast_concat];have ZY:upd H5 Pl (.lst (us.take m)) C=some (.lst (us.drop (us.length - i)).reverse):=by rw [aj Yl];exact eC
  refine⟨C,_,_,rfl,rfl,ZY,bL (by rw [pZ,pX];omega),?_⟩;have Zy:us.length - (i+1)=m:=by omega
  have ed:(us.drop m).reverse=(us.drop (us.length - i)).reverse++[u]:=by
   rw [hm,List.drop_eq_getElem_cons lm,mj,eu]
  refine⟨_,rfl,⟨λb o nb hb=>?_,?_⟩,∅,?_,?_,λj t x2 hj e1 e2=>?_⟩
  .rw [aj (λz=>by rw [z,hC] at hb;cases hb),aj nb];exact kq.1 b o nb hb
  .exact aT ZY (aT eP kq.2)
  .rw [Zy,aj nPC,ae]
  .rw [Zy,ae,ed]
  by_cases cj:j < i
  .exact fa j t x2 cj e1 e2
  have:j=i:=by omega
  subst this;rw [Si] at e2;cases e2;have e3:ts[ts.length - 1 - j]?=some t0:=by rw [<-QJ];congr 1;omega
  rw [e3] at e1;cases e1;exact Oc
 rintro σ H5 ⟨y5,rfl,kq,li,eP,eC,fa⟩;rw [au,pZ] at li eP eC fa;have fl:kb aa (ts.drop (ts.length - ru.2.length)) ru.2=true:=wo (by rw [pX];omega) λi t x e1 e2=>by
  have l2:=(bq.mp e2).1;rw [rg] at e1;refine fa (ru.2.length - 1 - i) t x ∅ ?_ ?_
  .rw [<-e1];congr 1;omega
  rw [ve ∅,<-e2];congr 1;omega
 have mk:iQ aa k ts=some (ts.take (ts.length - ru.2.length)++[.n k (jE.xy (ts.drop (ts.length - ru.2.length)))]):=by
  unfold iQ;rw [er];show (if (decide (ru.2.length<=ts.length) && kb aa (ts.drop (ts.length - ru.2.length)) ru.2)=true then _ else none)=_;rw [ax (by rw [fl,bW ∅];rfl)]
 refine⟨_,rfl,.inl ⟨rfl,_,aI.of eP⟩,_,rfl,_,rfl,C,_,rfl,aI.of eC,λL2 Jg=>?_⟩;rw [vb];have s6:=af Jg (.lst (us.drop (us.length - ru.2.length)));have HK:upd H5 L2 (.lst (us.drop (us.length - ru.2.length))) L2=some (.lst (us.drop (us.length - ru.2.length))):=ae;generalize upd H5 L2 (.lst (us.drop (us.length - ru.2.length)))=H6 at s6 HK;refine⟨L2,_,rfl,.inl ⟨aI.of HK,λt2 ji=>⟨kc,λnd Hs=>?_⟩⟩⟩;have s8:=s6.trans ((af ji (.tup (us.drop (us.length - ru.2.length)))).trans (af Hs (.tup [.int (k:Int),.ref t2])));have vt:aQ K (upd (upd H6 t2 (.tup (us.drop (us.length - ru.2.length)))) nd (.tup [.int (k:Int),.ref t2])) t2 (us.drop (us.length - ru.2.length)):=(af Hs _).tup (aQ.of ae);have vn:aQ K (upd (upd H6 t2 (.tup (us.drop (us.length - ru.2.length)))) nd (.tup [.int (k:Int),.ref t2])) nd [.int (k:Int),.ref t2]:=aQ.of ae;generalize upd (upd H6 t2 (.tup (us.drop (us.length - ru.2.length)))) nd (.tup [.int (k:Int),.ref t2])=H8 at s8 vt vn;have Su:=s8 _ _ eP;refine⟨Pl,_,_,rfl,rfl,Su,bL (by rw [dO];omega),?_⟩;have kt:∀a xs,aQ K H a xs->aQ K (upd H8 Pl (.lst (us.take (us.length - ru.2.length)++[.ref nd]))) a xs:=λa xs z=>aT Su (s8.tup (Mg kq a xs z));have DK:=jT.keep kt M.pl;refine q1 _ _ _ (λb o nb hb=>?_) mk ae ?_ (by rw [bM,dO,fQ];omega)
 .rw [aj nb];exact s8 _ _ (kq.1 b o nb hb)
 rw [<-lp];refine dw (kS DK _) (.cons ?_ .nil);unfold fV;exact⟨nd,t2,us.drop (us.length - ru.2.length),rfl,aT Su vn,aT Su vt,gQ.Ub (kT DK _)⟩
def xc (K:a9):Sp:=λvs H Q _=>∃(R d Pl a:Addr)(rs:List Addr)(aa:List aw)(us:List V)(ts:List Tr)(de:Dd),vs=[.ref R,.ref d,.ref Pl,.ref a]/\Xf K H R d Pl rs aa us ts/\l_ K H a de/\tI aa de /\
 (∀H',d0 Pl H H'->pN aa ts de=none->Q (.bl false) H')/\(∀H' gT fC,d0 Pl H H'->pN aa ts de=some fC->H' Pl=some (.lst gT)->jT K H' gT fC->gT.length<=us.length+1->Q (.bl true) H')
def EC:aK ["rules","heads","pile","deed"] ["rules","heads","pile","deed"] (av vQ):=ir rfl rfl rfl rfl nofun
def Cw (F:g_ K "do_deed" "do_deed" vQ f fd)(T:Txt mg)(GS:aB P w K mg base 2 "do_step" ["heads","pile","word"] (w_ K))(GM:aB P w K mg base 2 "do_make" ["rules","heads","pile","number"] (xb K)):bO P w K mg base fk 3 f fd ["rules","heads","pile","deed"] (xc K):=by
 refine F.ok EC (λvs H Q E h=>?_) (λdW A outer s H vs Q E hr h=>?_)
 .obtain⟨R,d,Pl,a,rs,aa,us,ts,de,rfl,_⟩:=h;rfl
 obtain⟨R,d,Pl,a,rs,aa,us,ts,de,rfl,M,hv,ok,q0,q1⟩:=h;have fw:=M.BH;refine⟨_,ai (bw (aV uu (aD aG rfl T.len cU (ab (pv 3) ah)) ao (bu _)) (ak (aL dI)) aM)
  (ai (bw (aV ik (aF aN (pv 3) ao (λ_ _=>rfl)) bU (bu _)) (ak (aL (a8 GS hr rfl (ab (pv 1) (ab (pv 2) (ab (aF aN (pv 3) ao (λ_ _=>rfl)) ah)))))) aM)
  (ak (aL (jM (eQ ik (aF aN (pv 3) ao (λ_ _=>rfl)) bU (bu _)) (kR (a8 GM hr rfl (ab (pv 0) (ab (pv 1) (ab (pv 2) (ab (aF aN (pv 3) ao (λ_ _=>rfl)) ah)))))))))),?_⟩
 nofun
 cases de with
 | step z =>
  have hv:aQ K H a [.str "step",.str z]:=hv;refine⟨_,rfl,a,_,rfl,.inr hv,rfl,false,rfl,?_⟩;refine df ?_;refine⟨_,rfl,a,_,_,_,rfl,rfl,hv,rfl,rfl,true,rfl,?_⟩;refine g7 ?_;refine⟨_,rfl,_,rfl,_,rfl,a,_,_,_,rfl,rfl,hv,rfl,d,Pl,aa,us,z,rfl,M.wM,M.hP,fw,ok,?_⟩;refine q1 _ _ (ts++[.w z]) (λb o nb hb=>by rw [aj nb];exact hb) rfl ae ?_ (by rw [bM];simp);refine dw (jT.keep (λ_ _ z=>aT M.hP z) M.pl) (.cons ?_ .nil);unfold fV;rfl
 | make k =>
  have hv:aQ K H a [.str "make",.int (k:Int)]:=hv;refine⟨_,rfl,a,_,rfl,.inr hv,rfl,false,rfl,?_⟩;refine df ?_;refine⟨_,rfl,a,_,_,_,rfl,rfl,hv,rfl,rfl,false,rfl,?_⟩;refine df ?_;refine⟨_,rfl,a,_,_,_,rfl,rfl,hv,rfl,rfl,true,rfl,?_⟩;refine g7 ?_;exact⟨_,rfl,_,rfl,_,rfl,_,rfl,a,_,_,_,rfl,rfl,hv,rfl,R,d,Pl,rs,aa,us,ts,k,rfl,M,ok,q0,q1⟩
def uK (l:List Addr)(n:Addr):gy ((l++[n]).map V.ref) (some (-1)) none=[V.ref n]:=by
 unfold gy;have h1:HT.fR ((l++[n]).map V.ref).length 0 (some (-1))=l.length:=by
  rw [au,bM,fQ];show (if (-1:Int) < 0 then ((-1:Int)+((l.length+1:Nat):Int)).toNat else min (-1:Int).toNat (l.length+1))=l.length;rw [ax nofun];omega
 rw [h1,HT.ig,<-List.map_drop,List.drop_append_of_le_length (aH _),List.drop_length,mR];rw [au,bM,fQ,show l.length+1 - l.length=1 by omega];rfl
def uL (l:List Addr)(n:Addr):gy ((l++[n]).map V.ref) none (some (-1))=l.map V.ref:=by
 unfold gy;have h1:HT.fR ((l++[n]).map V.ref).length ((l++[n]).map V.ref).length (some (-1))=l.length:=by
  rw [au,bM,fQ];show (if (-1:Int) < 0 then ((-1:Int)+((l.length+1:Nat):Int)).toNat else min (-1:Int).toNat (l.length+1))=l.length;rw [ax nofun];omega
 rw [h1,HT.ig,oN,kC,<-oK,qa (aH _),cR]
structure Ol (K:a9)(H:Hp)(L:Addr)(as:List Addr)(a0:Addr)(ds:List Dd):Prop where
 hL:aI K H L ((as++[a0]).map V.ref)
 pr:Paired (λa d=>l_ K H a d) as ds
 dn:aQ K H a0 [.str "done"]
def Ol.same {H H':Hp}{L a0:Addr}{as:List Addr}{ds:List Dd}(h:Ol K H L as a0 ds)(s:aC H H'):Ol K H' L as a0 ds:=⟨s.seq h.hL,Paired.dJ h.pr λ_ _ z=>l_.keep (λ_ _ y=>s.tup y) z,s.tup h.dn⟩
def xn {aa:List aw}{ds:List Dd}{i:Nat}{d:Dd}{ts:List Tr}(e:ds[i]?=some d)(h:gu aa (ds.take i) []=some ts)(n:pN aa ts d=none):gu aa ds []=none:=by
 have e1:ds=ds.take i++(d::ds.drop (i+1)):=by
  have li:=(bq.mp e).1;have e2:ds.drop i=d::ds.drop (i+1):=by
   rw [List.drop_eq_getElem_cons li]
   congr 1
   exact(bq.mp e).2
  rw [<-e2,rA]
 rw [e1,nI,h];show (pN aa ts d).bind _=none;rw [n];rfl
def wZ (K:a9):Sp:=λvs H Q _=>∃(R L:Addr)(rs as:List Addr)(a0:Addr)(aa:List aw)(ds:List Dd),vs=[.ref R,.ref L]/\H R=some (.lst (rs.map V.ref))/\bI K H rs aa/\(∀ru∈aa,ru.2.length<=8)/\aa.length<=1000/\Ol K H L as a0 ds/\(∀d∈ds,tI aa d)/\ds.length<=900 /\
 ∀H',aC H H'->(Jm (gu aa ds [])=none->Q .d7 H')/\∀t v,Jm (gu aa ds [])=some t->fV K H' t v->Q v H'
def nr:aK ["rules","deeds","heads","pile","deed"] ["rules","deeds"] (av vI):=ir rfl rfl rfl rfl nofun
def Cq (F:g_ K "tree_of" "tree_of" vI f fd)(T:Txt mg)(GH:aB P w K mg base 3 "heads_of" ["rules"] (iX K))(GD:aB P w K mg base 3 "do_deed" ["rules","heads","pile","deed"] (xc K)):bO P w K mg base fk 4 f fd ["rules","deeds"] (wZ K):=by
 refine F.ok nr (λvs H Q E h=>?_) (λdW A outer s H vs Q E hr h=>?_)
 .obtain⟨R,L,rs,as,a0,aa,ds,rfl,_⟩:=h;rfl
 obtain⟨R,L,rs,as,a0,aa,ds,rfl,hR,b_,h8,br,D0,HN,dl,q⟩:=h;have tU:=pY (rm (by decide:1+1<=64) _) hr.units;refine⟨_,ai (bw (aV (rY 1 tU) (dY iz (pv 1) (dS (j7 ip ao)) gh) (bc (ab (bD (ab bU ah)) ah)) (bu _)) (ak (aL jf)) aM)
  (ai (aA (i:=2) nr.nd rfl (bx rfl) (bE (dD rfl) rfl T.yG eZ (ab (bF ["head"] [] rfl (aZ (a8 GH hr rfl (ab (pv 0) ah))) (bp rfl rfl) nofun rfl nofun
   (λ_ _ _ _ _=>aq (i:=0) (show (["head"]:List Str).Nodup by decide +kernel) rfl (bx rfl)) (λ_ _ _ _ _=>bY) (λ_ _ _ _ _=>bD (ab (pv 0) (ab dI ah)))) ah)))
  (ai (aA (i:=3) nr.nd rfl (bx rfl) (bc ah))
  (ai (bQ b0 rfl (aZ (dY iz (pv 1) gh (dS (j7 ip ao)))) (aq (i:=4) nr.nd rfl (bx rfl))
   (ak (bw (gk (cY (a8 GD hr rfl (ab (pv 0) (ab (pv 2) (ab (pv 3) (ab (pv 4) ah))))))) (ak (aL jf)) aM)))
  (ak (aL (rW (PW.pt (iK (aV ik (aD aG rfl T.len cU (ab (pv 3) ah)) ao (bu _)) (gF (gk (cY (aD cw rfl T.CM jn (ab (aF bo (pv 3) ao (λ_ _=>rfl)) (ab (fM (v:=.ty "str") rfl T.str iT rfl) ah)))))))) (aF bo (pv 3) ao (λ_ _=>rfl)) jf)))))),?_⟩
 nofun
 refine⟨_,rfl,_,rfl,_,rfl,L,_,rfl,D0.hL,λC1 QB=>?_⟩;rw [uK];have s1:=af QB (.lst [V.ref a0]);have e1:upd H C1 (.lst [V.ref a0]) C1=some (.lst [V.ref a0]):=ae;generalize upd H C1 (.lst [V.ref a0])=H1 at s1 e1;refine⟨vk,λt1 NR=>⟨vk,λC2 MP=>?_⟩⟩;have k3:=(af NR (.tup [V.str "done"])).trans (af MP (.lst [V.ref t1]));have et:aQ K (upd (upd H1 t1 (.tup [V.str "done"])) C2 (.lst [V.ref t1])) t1 [.str "done"]:=(af MP _).tup (aQ.of ae);have KH:upd (upd H1 t1 (.tup [V.str "done"])) C2 (.lst [V.ref t1]) C2=some (.lst [V.ref t1]):=ae;generalize upd (upd H1 t1 (.tup [V.str "done"])) C2 (.lst [V.ref t1])=H3 at k3 et KH;have s3:=s1.trans k3;refine⟨C1,C2,_,_,rfl,rfl,aI.of (k3 _ _ e1),aI.of KH,.cons (.inr ⟨a0,t1,_,_,rfl,rfl,.inr ⟨s3.tup D0.dn,et⟩,.cons (uW.self (.inl rfl) 0) .nil⟩) .nil,false,rfl,?_⟩;refine df ?_;have R3:=s3 _ _ hR;have TR:=b_.same s3;have D3:=D0.same s3;refine⟨_,rfl,R,rs,aa,rfl,aI.of R3,TR,br,λD1 H4 f4 s4 e4=>?_⟩;have FQ:=hV (aa.map (·.1)) [];simp only [iV,au] at FQ;refine⟨D1,rfl,⟨_,aI.of e4⟩,λD2 i9=>k0 (aI.of e4) ∅ i9 λtz H5 s5 e5 p5=>?_⟩;have kp:Paired (λt (kv:aS×V)=>aQ K H5 t [kV kv.1,kv.2]) tz ((hd aa).map λh=>((Sum.inr h:aS),V.bl true)):=cv p5 λ_ _ z=>z;refine⟨D2,tz,_,rfl,e5,kp,λd qL=>?_⟩;have CD:∀z,(bB (cK ((hd aa).map λh=>((Sum.inr h:aS),V.bl true)) []) (Sum.inr z)).isSome=decide (z∈hd aa):=λz=>by
  rw [kM];by_cases c:z∈hd aa
  .rw [ax c,bW c];rfl
  rw [az c,dq c];rfl
 generalize cK ((hd aa).map λh=>((Sum.inr h:aS),V.bl true)) []=kE at CD;have s6:=(s4.trans s5).trans (af qL (.dK kE));have Ky:upd H5 d (.dK kE) d=some (.dK kE):=ae;generalize upd H5 d (.dK kE)=H6 at s6 Ky;have EN:=s3.trans s6;refine⟨o7,λPl MI=>?_⟩;have k7:=af MI (.lst []);have Ws:upd H6 Pl (.lst []) Pl=some (.lst []):=ae;have Zo:H Pl=none:=EN.free MI;have nRP:R≠Pl:=λz=>by rw [z,Zo] at hR;cases hR
 have RL:d≠Pl:=λz=>by rw [z,MI] at Ky;cases Ky
 generalize upd H6 Pl (.lst [])=H7 at k7 Ws;have Bn:=EN.trans k7;refine⟨_,rfl,_,rfl,_,rfl,L,_,rfl,Bn.seq D0.hL,λC3 MO=>?_⟩;rw [uL];have k8:=af MO (.lst (as.map V.ref));have Ng:upd H7 C3 (.lst (as.map V.ref)) C3=some (.lst (as.map V.ref)):=ae;have Uy:C3≠Pl:=λz=>by rw [z,Ws] at MO;cases MO
 generalize upd H7 C3 (.lst (as.map V.ref))=H8 at k8 Ng;have s08:=Bn.trans k8;have Wn:=k8 _ _ (k7 _ _ Ky);have UJ:=aY D0.pr;refine⟨C3,rfl,⟨_,aI.of Ng⟩,?_⟩;refine cD (xs:=as.map V.ref) (λi σ H9=>∃(us:List V)(ts:List Tr)(y4:Option V),σ=[aP R,aP L,aP d,aP Pl,y4]/\aC H H9/\H9 C3=some (.lst (as.map V.ref))/\H9 d=some (.dK kE)/\H9 Pl=some (.lst us)/\jT K H9 us ts/\gu aa (ds.take i) []=some ts/\us.length<=i) ⟨[],[],none,rfl,s08,Ng,Wn,k8 _ _ Ws,.nil,rfl,aH _⟩ ?_ ?_ ?_
 .rintro i σ H9 _ ⟨us,ts,y4,rfl,s9,KG,_⟩;exact aI.of KG
 .intro i x σ H9 ex jQ
  ac_nf0
  obtain⟨us,ts,y4,rfl,s9,KG,Na,xW,DK,pq,l9⟩:=jQ;rw [bh] at ex;obtain⟨a,ea,rfl⟩:=cq.mp ex;have li:=(bq.mp ea).1;obtain⟨de,Jn⟩:∃de,ds[i]?=some de:=⟨ds[i]'∅,cf ∅⟩;obtain⟨a',Kz,va⟩:=Paired.at_ D0.pr i de Jn;rw [ea] at Kz;cases Kz;have T9:=HN de (cg Jn);have LS:=tP.gu (aa:=aa) tP.nil (λx hx=>HN x (p_ hx)) pq;have M9:Xf K H9 R d Pl rs aa us ts:=⟨s9 _ _ hR,b_.same s9,⟨kE,Na,CD⟩,xW,DK,∅,nRP,h8,br,λj cs h=>LS.top h⟩;refine goN ?_
  ac_nf
  have back:∀{HA:Hp},d0 Pl H9 HA->aC H HA:=λsT b o hb=>sT b o (λz=>by rw [z,Zo] at hb;cases hb) (s9 b o hb);refine⟨_,rfl,_,rfl,_,rfl,_,rfl,R,d,Pl,a,rs,aa,us,ts,de,rfl,M9,l_.keep (λ_ _ y=>s9.tup y) va,T9,λHA sT e=>⟨false,rfl,?_⟩,λHA gT fC sT e Nc JZ l'=>⟨true,rfl,?_⟩⟩
  .refine g7 ?_;refine(q HA (back sT)).1 ?_;rw [xn Jn pq e];rfl
  refine df ?_;refine⟨gT,fC,_,rfl,back sT,sT _ _ Uy KG,sT _ _ RL Na,Nc,JZ,?_,∅⟩;rw [cS,Jn];show gu aa (ds.take i++[de]) []=_;rw [nI,pq];show gu aa [de] ts=_;rw [xo,e]
 rintro σ H9 ⟨us,ts,y4,rfl,s9,KG,Na,xW,DK,pq,l9⟩;rw [au,UJ,cR] at pq;have lp:=aY DK;have hq:=q H9 s9;rw [pq] at hq;refine⟨_,rfl,Pl,_,rfl,.inl (aI.of xW),rfl,decide (us.length=1),?_,?_⟩
 .show V.bl (decide (V.int (us.length:Int)=V.int 1))=V.bl (decide (us.length=1));by_cases h:us.length=1
  .rw [bW h,bW (by rw [h];rfl)]
  rw [dq h,dq (λy=>h (by injection y with y2;omega))]
 refine bZ (λc=>?_) (λc=>?_)
 .have l1:=dr c
  match us,ts,l1,lp,DK,xW,hq with
  | [u],[t],_,_,.cons tv .nil,xW,hq =>
   have tZ:j9 [u] 0=some u:=bT (j:=0) rfl;cases t with
   | w z =>
    unfold fV at tv;subst tv;refine⟨_,rfl,Pl,_,_,_,rfl,rfl,aI.of xW,tZ,.str z,"str","str",true,rfl,.str z,fA,true,rfl,?_⟩;refine df ?_;exact hq.1 rfl
   | n k cs =>
    have JH:=tv;unfold fV at JH;obtain⟨a,p,vs,rfl,ha,hp,_⟩:=JH;refine⟨_,rfl,Pl,_,_,_,rfl,rfl,aI.of xW,tZ,.ref a,"tuple","str",false,rfl,.tup ha,pE,false,rfl,?_⟩;refine g7 ?_;exact⟨_,rfl,Pl,_,_,_,rfl,rfl,aI.of xW,tZ,hq.2 _ _ rfl tv⟩
 have n1:us.length≠1:=λh=>c (bW h);refine df ?_;refine hq.1 ?_
 match ts,lp with
 | [],_=>rfl
 | [t],lp=>exact absurd lp n1
 | a::_::_,_=>cases a <;> rfl
end
abbrev zd:Stmt:=top 60
abbrev zi:Stmt:=top 61
section
def FX:PySem.W.kitOne K (.type "str") (.type "tuple")=some false:=by kernel_rfl
def A6:Sp:=λvs H Q _=>∃n:Int,vs=[.int n]/\Q (.bl true) H
def Ig:aK ["_law_thing"] ["_law_thing"] (av zd):=ir rfl rfl rfl rfl nofun
def Fi (F:g_ K "_law_whole" "_law_whole" zd f fd)(T:Txt mg):bO P w K mg base fk 1 f fd ["_law_thing"] A6:=by
 refine F.ok Ig (λvs H Q E h=>?_) (λdW A outer s H vs Q E hr h=>?_)
 .obtain⟨n,rfl,_⟩:=h;rfl
 obtain⟨n,rfl,q⟩:=h;refine⟨_,ak (aL (jM (aD cw rfl T.CM jn (ab (pv 0) (ab (fM (v:=.ty "int") rfl T.int PyProof.Rows.boot_int rfl) ah)))
  (kR (zI (aD cw rfl T.CM jn (ab (pv 0) (ab (fM (v:=.ty "bool") rfl T.boo PyProof.Rows.boot_bool rfl) ah))))))),?_⟩
 dsimp only [AA];refine⟨_,rfl,.int n,"int","int",true,rfl,.int n,fA,true,rfl,?_⟩;refine g7 ?_;exact⟨_,rfl,.int n,"int","bool",false,rfl,.int n,FY,false,rfl,q⟩
def Dj (us:List V) (n:Nat)(h:n<=us.length):gy us none (some (n:Int))=us.take n:=by
 unfold gy;rw [HT.ig,HT.jL,oN,kC,Nat.min_eq_left h]
def Dk (us:List V) (n:Nat)(h:n<=us.length):gy us (some (n:Int)) none=us.drop n:=by
 unfold gy;rw [HT.ig,HT.jL,Nat.min_eq_left h,mV (by rw [pX];exact aH _)]
structure Nv (K:a9)(H:Hp)(R N Pl:Addr)(rs:List Addr)(aa:List aw)(us:List V)(ts:List Tr):Prop where
 hR:aI K H R (rs.map V.ref)
 b_:bI K H rs aa
 hN:H N=some (.lst ((hm aa).map V.str))
 hP:H Pl=some (.lst us)
 pl:jT K H us ts
 BH:us.length<=1000
 sh:∀ru∈aa,ru.2.length<=8
 sr:aa.length<=1000
 top:∀j cs,Tr.n j cs∈ts->j < aa.length
theorem Nv.same {H H':Hp}{R N Pl:Addr}{rs:List Addr}{aa:List aw}{us:List V}{ts:List Tr}(h:Nv K H R N Pl rs aa us ts)(s:aC H H'):Nv K H' R N Pl rs aa us ts :=
 ⟨s.seq h.hR,h.b_.same s,s _ _ h.hN,s _ _ h.hP,jT.keep (λ_ _ z=>s.tup z) h.pl,h.BH,h.sh,h.sr,h.top⟩
def qB (K:a9):Sp:=λvs H Q _=>∃(R N Pl a:Addr)(rs:List Addr)(aa:List aw)(us:List V)(ts:List Tr)(de:Dd),vs=[.ref R,.ref N,.ref Pl,.ref a]/\Nv K H R N Pl rs aa us ts/\l_ K H a de/\tI aa de /\
 (∀H',aC H H'->pN aa ts de=none->Q .d7 H')/\(∀P' H' gT fC,aC H H'->pN aa ts de=some fC->H P'=none->H' P'=some (.lst gT)->jT K H' gT fC->gT.length<=us.length+1->Q (.ref P') H')
def nv:aK ["_law_rules","_law_heads","_law_pile","_law_deed","_law_parts","_law_rest","_law_k","_law_child"] ["_law_rules","_law_heads","_law_pile","_law_deed"] (av zi):=ir rfl rfl rfl rfl nofun
def Fp (F:g_ K "_law_piled" "_law_piled" zi f fd)(T:Txt mg)(GW:aB P w K mg base 1 "_law_whole" ["_law_thing"] A6):bO P w K mg base fk 2 f fd ["_law_rules","_law_heads","_law_pile","_law_deed"] (qB K):=by
 refine F.ok nv (λvs H Q E h=>?_) (λdW A outer s H vs Q E hr h=>?_)
 .obtain⟨R,N,Pl,a,rs,aa,us,ts,de,rfl,_⟩:=h;rfl
 obtain⟨R,N,Pl,a,rs,aa,us,ts,de,rfl,M,hv,ok,q0,q1⟩:=h;have fw:=M.BH;have lp:=aY M.pl;refine⟨_,ai (bw (PW.pt (ju (aV uu (aD aG rfl T.len cU (ab (pv 3) ah)) ao (bu _)) (iq (aV iB (aF aN (pv 3) ao (λ_ _=>rfl)) (bc (ab bU (ab bU ah))) rfl)))) (ak (aL jf)) aM)
  (ai (bw (aV ik (aF aN (pv 3) ao (λ_ _=>rfl)) bU (bu _)) (ak (aL (aX iN (pv 2) (bc (ab (aF aN (pv 3) ao (λ_ _=>rfl)) ah))))) aM)
  (ai (bw (PW.pt (ju (gk (cY (a8 GW hr rfl (ab (aF aN (pv 3) ao (λ_ _=>rfl)) ah)))) (ju (gk (EZ J1 nV ao (aF aN (pv 3) ao (λ_ _=>rfl)) (aD aG rfl T.len cU (ab (pv 0) ah))))
    (iq (aV rZ (aD aG rfl T.len cU (ab (aF aN (aF bo (pv 0) (aF aN (pv 3) ao (λ_ _=>rfl)) (λ_ _=>rfl)) ao (λ_ _=>rfl)) ah)) (aD aG rfl T.len cU (ab (pv 2) ah)) (bu _)))))) (ak (aL jf)) aM)
  (ai (aA (i:=4) nv.nd rfl (bx rfl) (aF aN (aF bo (pv 0) (aF aN (pv 3) ao (λ_ _=>rfl)) (λ_ _=>rfl)) ao (λ_ _=>rfl)))
  (ai (aA (i:=5) nv.nd rfl (bx rfl) (aX zN (aD aG rfl T.len cU (ab (pv 2) ah)) (aD aG rfl T.len cU (ab (pv 4) ah))))
  (ai (bQ b0 rfl (gZ rfl T.DJ (ab (aD aG rfl T.len cU (ab (pv 4) ah)) ah)) (aq (i:=6) nv.nd rfl (bx rfl))
   (ai (aA (i:=7) nv.nd rfl (bx rfl) (aF bo (pv 2) (aX gq (pv 5) (pv 6)) (λ_ _=>rfl)))
   (ak (bw (aV lC (aF aN (pv 4) (pv 6) (λ_ _=>rfl)) (pv 1) rfl)
    (ak (bw (PW.pt (ju (gk (cY (aD cw rfl T.CM jn (ab (pv 7) (ab (fM (v:=.ty "tuple") rfl T.tup qS rfl) ah))))) (iq (aV uu (aF aN (aF bo (pv 0) (aF aN (pv 7) ao (λ_ _=>rfl)) (λ_ _=>rfl)) ao (λ_ _=>rfl)) (aF aN (pv 4) (pv 6) (λ_ _=>rfl)) (bu _))))) (ak (aL jf)) aM))
    (ak (bw (PW.pt (ju (gk (cY (aD cw rfl T.CM jn (ab (pv 7) (ab (fM (v:=.ty "str") rfl T.str iT rfl) ah))))) (iq (aV uu (pv 7) (aF aN (pv 4) (pv 6) (λ_ _=>rfl)) (bu _))))) (ak (aL jf)) aM))))))
  (ak (aL (aX iN (dY iz (pv 2) gh (dS (pv 5))) (bc (ab (bD (ab (aF aN (pv 3) ao (λ_ _=>rfl)) (ab (bE gb rfl T.tup qS (ab (dY iz (pv 2) (dS (pv 5)) gh) ah)) ah))) ah)))))))))),?_⟩
 nofun
 cases de with
 | step z =>
  have hv:aQ K H a [.str "step",.str z]:=hv;refine⟨_,rfl,a,_,rfl,.inr hv,rfl,false,rfl,?_⟩;refine df ?_;refine⟨_,rfl,a,_,_,_,rfl,rfl,hv,rfl,kc,λL hL=>?_⟩;have s1:=af hL (.lst [V.str "step",V.str "make"]);refine⟨L,_,rfl,.inl (aI.of ae),rfl,rfl,false,nofun,?_⟩;refine df ?_;generalize upd H L (.lst [V.str "step",V.str "make"])=H1 at s1;refine⟨_,rfl,a,_,_,_,rfl,rfl,s1.tup hv,rfl,rfl,true,rfl,?_⟩;refine g7 ?_;refine⟨_,rfl,_,rfl,a,_,_,_,rfl,rfl,s1.tup hv,rfl,vk,λL2 Jg=>?_⟩;have s2:=s1.trans (af Jg (.lst [V.str z]));have e2:upd H1 L2 (.lst [V.str z]) L2=some (.lst [V.str z]):=ae;generalize upd H1 L2 (.lst [V.str z])=H2 at s2 e2;refine⟨Pl,L2,_,_,rfl,rfl,s2 _ _ M.hP,e2,fits (by show us.length+1<=1000000;omega),λP' Qx=>?_⟩;have s3:=s2.trans (af Qx (.lst (us++[V.str z])));refine q1 P' _ _ (ts++[.w z]) s3 rfl (s2.free Qx) ae ?_ (by rw [bM];simp);refine dw (jT.keep (λ_ _ z=>s3.tup z) M.pl) (.cons ?_ .nil);unfold fV;rfl
 | make k =>
  have hv:aQ K H a [.str "make",.int (k:Int)]:=hv;have lk:k < aa.length:=ok;refine⟨_,rfl,a,_,rfl,.inr hv,rfl,false,rfl,?_⟩;refine df ?_;refine⟨_,rfl,a,_,_,_,rfl,rfl,hv,rfl,kc,λL hL=>?_⟩;have s1:=af hL (.lst [V.str "step",V.str "make"]);refine⟨L,_,rfl,.inl (aI.of ae),rfl,rfl,false,nofun,?_⟩;refine df ?_;generalize upd H L (.lst [V.str "step",V.str "make"])=H1 at s1;have Km:=s1.tup hv;have M1:=M.same s1;refine⟨_,rfl,a,_,_,_,rfl,rfl,Km,rfl,rfl,false,rfl,?_⟩;refine df ?_;have ll:=aY M.b_;have er:aa[k]?=some aa[k]:=cf lk;generalize i8:aa[k]=ru at er;have h8:=M.sh ru (cg er);obtain⟨r,err,p,v1,v2⟩:=Paired.at_ M1.b_ k ru er;have tO:j9 (rs.map V.ref) (k:Int)=some (.ref r):=bT (by rw [bh,err];rfl);have Pk:∀fC,pN aa ts (.make k)=some fC->ru.2.length<=ts.length/\kb aa (ts.drop (ts.length - ru.2.length)) ru.2=true:=λfC e=>by
   obtain⟨NI,e1,e2,e3,_⟩:=mx (show iQ aa k ts=some fC from e);rw [er] at e1;cases e1;exact⟨e2,e3⟩
  have none_of:(∀fC,pN aa ts (.make k)≠some fC)->pN aa ts (.make k)=none:=λh=>by
   cases e:pN aa ts (.make k) with
   | none=>rfl
   | some x=>exact absurd e (h x)
  refine⟨_,rfl,a,_,_,_,rfl,rfl,Km,rfl,(k:Int),rfl,true,rfl,?_⟩;refine df ?_;refine⟨_,rfl,a,_,_,_,rfl,rfl,Km,rfl,_,_,rfl,rfl,_,rfl,?_⟩;refine bZ (λ_=>?_) (λc=>absurd (bW ∅) c);refine⟨_,rfl,R,_,rfl,.inl M1.hR,_,_,rfl,rfl,true,?_,?_⟩
  .show V.bl (decide ((k:Int) < ((rs.map V.ref).length:Int)))=V.bl true;rw [au,bW ∅]
  refine df ?_;refine⟨_,rfl,_,rfl,a,_,_,_,rfl,rfl,Km,rfl,R,_,_,_,rfl,rfl,M1.hR,tO,r,_,_,_,rfl,rfl,v1,rfl,p,_,rfl,.inr v2,_,rfl,Pl,_,rfl,.inl (aI.of M1.hP),_,_,rfl,rfl,_,rfl,?_⟩;refine bZ (λc=>?_) (λc=>?_)
  .have c':=dr c;rw [au] at c';refine q0 H1 s1 (none_of λfC e=>?_);have:=(Pk fC e).1;omega
  have c':¬(us.length:Int) < ((ru.2.map V.str).length:Int):=λz=>c (bW z);rw [au] at c';have lle:ru.2.length<=us.length:=by omega
  refine⟨_,rfl,_,rfl,a,_,_,_,rfl,rfl,Km,rfl,R,_,_,_,rfl,rfl,M1.hR,tO,r,_,_,_,rfl,rfl,v1,rfl,?_⟩;refine⟨_,rfl,Pl,_,rfl,.inl (aI.of M1.hP),_,rfl,p,_,rfl,.inr v2,_,_,rfl,rfl,?_⟩;have Qc:(us.length:Int) - ((ru.2.map V.str).length:Int)=((us.length - ru.2.length:Nat):Int):=by rw [au];omega
  refine⟨_,rfl,p,_,rfl,.inr v2,((ru.2.map V.str).length:Int),rfl,by rw [au];omega,by rw [au];omega,?_⟩;rw [show (((ru.2.map V.str).length:Nat):Int).toNat=ru.2.length by rw [au];exact kr _];refine g8 (n:=ru.2.length) (λi σ H5=>∃(y6 y7:Option V),σ=[aP R,aP N,aP Pl,aP a,aP p,some (.int ((us.length - ru.2.length:Nat):Int)),y6,y7]/\aC H1 H5 /\
   ∀(j:Nat) t x,j < i->ts[us.length - ru.2.length+j]?=some t->ru.2[j]?=some x->gM aa t x=true) ⟨none,none,congrArg (λz:Int=>[some (V.ref R),aP N,aP Pl,aP a,aP p,some (.int z),none,none]) Qc,aC.refl H1,λj _ _ h=>by omega⟩ ?_ ?_
  .intro i σ H5 hi jQ
   ac_nf0
   obtain⟨y6,y7,rfl,s5,fa⟩:=jQ;have M5:=M1.same s5;obtain⟨x,ex⟩:∃x,ru.2[i]?=some x:=⟨ru.2[i],cf hi⟩;have lt:us.length - ru.2.length+i < ts.length:=by omega
   have et:ts[us.length - ru.2.length+i]?=some (ts[us.length - ru.2.length+i]'lt):=cf lt;obtain⟨u,eu,tv⟩:=Paired.at_ M5.pl _ _ et;generalize ts[us.length - ru.2.length+i]'lt=t0 at et tv;have atu:j9 us (((us.length - ru.2.length:Nat):Int)+(0+(i:Int)))=some u:=by
    rw [jb,show ((us.length - ru.2.length:Nat):Int)+(i:Int)=((us.length - ru.2.length+i:Nat):Int) by push_cast;rfl];exact bT eu
   have WZ:j9 (ru.2.map V.str) (0+(i:Int))=some (.str x):=by
    rw [jb];exact bT (by rw [bh,ex];rfl)
   have Tb:=s5.tup v2;have bad:gM aa t0 x=false->Q .d7 H5:=λh=>q0 H5 (s1.trans s5) (none_of λfC e=>by
    obtain⟨a1,a2⟩:=Pk fC e;have a3:(ts.drop (ts.length - ru.2.length))[i]?=some t0:=by
     rw [rg,<-et]
     congr 1
     omega
    rw [wq a2 a3 ex] at h;cases h)
   have good:gM aa t0 x=true->∃(y6' y7':Option V),[some (V.ref R),aP N,aP Pl,aP a,aP p,some (.int ((us.length - ru.2.length:Nat):Int)),some (.int (0+(i:Int))),some u]=[aP R,aP N,aP Pl,aP a,aP p,some (.int ((us.length - ru.2.length:Nat):Int)),y6',y7']/\aC H1 H5 /\
     ∀(j:Nat) t x,j < i+1->ts[us.length - ru.2.length+j]?=some t->ru.2[j]?=some x->gM aa t x=true:=λh=>⟨_,_,rfl,s5,λj t x2 hj e1 e2=>by
    by_cases cj:j < i
    .exact fa j t x2 cj e1 e2
    have:j=i:=by omega
    subst this;rw [et] at e1;rw [ex] at e2;cases e1;cases e2;exact h⟩
   refine goN ?_
   ac_rfl
   refine⟨_,rfl,_,rfl,_,rfl,_,_,rfl,rfl,Pl,_,_,_,rfl,rfl,aI.of M5.hP,atu,?_⟩;refine⟨_,rfl,_,rfl,p,_,_,_,rfl,rfl,Tb,WZ,_,rfl,N,_,rfl,.inl (aI.of M5.hN),rfl,cN _,_,rfl,?_⟩;rw [gi];show if decide (x∈hm aa)=true then _ else _;refine bZ (λch=>?_) (λch=>?_)
   .have YE:decide (x∈hd aa)=true:=bW (kY.mp (dr ch));cases t0 with
    | w z =>
     unfold fV at tv;subst tv;refine⟨_,rfl,.str z,"str","tuple",false,rfl,.str z,FX,false,rfl,?_⟩;refine g7 ?_;refine bad ?_;show (!decide (x∈hd aa) && decide (z=x))=false;rw [YE];rfl
    | n k2 cs =>
     have Hn:=M.top k2 cs (cg et);unfold fV at tv;obtain⟨a2,p3,vs,rfl,Sa,hp3,_⟩:=tv;have Jk:aa[k2]?=some aa[k2]:=cf Hn;obtain⟨r2,We,p4,w1,w2⟩:=Paired.at_ M5.b_ k2 _ Jk;have W5:j9 (rs.map V.ref) (k2:Int)=some (.ref r2):=bT (by rw [bh,We];rfl);have ef:gM aa (.n k2 cs) x=decide (aa[k2].1=x):=by
      have eh:wj aa k2=some aa[k2].1:=by unfold wj;rw [Jk];rfl
      show (decide (x∈hd aa) && decide (wj aa k2=some x))=_;rw [YE,eh,jc];by_cases h:aa[k2].1=x
      .rw [bW (congrArg some h),bW h]
      rw [dq (λz=>h (gS z)),dq h]
     refine⟨_,rfl,.ref a2,"tuple","tuple",true,rfl,.tup Sa,fA,true,rfl,?_⟩;refine df ?_;refine⟨_,rfl,_,rfl,a2,_,_,_,rfl,rfl,Sa,rfl,R,_,_,_,rfl,rfl,M5.hR,W5,r2,_,_,_,rfl,rfl,w1,rfl,_,rfl,_,rfl,p,_,_,_,rfl,rfl,Tb,WZ,rfl,!decide (aa[k2].1=x),?_,?_⟩
     .show V.bl (!decide (V.str aa[k2].1=V.str x))=_;by_cases h:aa[k2].1=x
      .rw [bW h,bW (congrArg V.str h)]
      rw [dq h,dq (λy=>h (by injection y))]
     refine bZ (λc3=>?_) (λc3=>?_)
     .exact bad (by rw [ef];simpa using c3)
     exact good (by rw [ef];simpa using c3)
   have Pn:decide (x∈hd aa)=false:=dq λh=>ch (bW (kY.mpr h));cases t0 with
   | w z =>
    unfold fV at tv;subst tv;have ef:gM aa (.w z) x=decide (z=x):=by
     show (!decide (x∈hd aa) && decide (z=x))=_;rw [Pn];rfl
    refine⟨_,rfl,.str z,"str","str",true,rfl,.str z,fA,true,rfl,?_⟩;refine df ?_;refine⟨_,rfl,_,rfl,_,rfl,p,_,_,_,rfl,rfl,Tb,WZ,rfl,!decide (z=x),?_,?_⟩
    .show V.bl (!decide (V.str z=V.str x))=_;by_cases h:z=x
     .rw [bW h,bW (congrArg V.str h)]
     rw [dq h,dq (λy=>h (by injection y))]
    refine bZ (λc3=>?_) (λc3=>?_)
    .exact bad (by rw [ef];simpa using c3)
    exact good (by rw [ef];simpa using c3)
   | n k2 cs =>
    unfold fV at tv;obtain⟨a2,p3,vs,rfl,Sa,hp3,_⟩:=tv;refine⟨_,rfl,.ref a2,"tuple","str",false,rfl,.tup Sa,pE,false,rfl,?_⟩;refine g7 ?_;refine bad ?_;show (decide (x∈hd aa) && decide (wj aa k2=some x))=false;rw [Pn];rfl
  rintro σ H5 ⟨y6,y7,rfl,s5,fa⟩;have M5:=M1.same s5;have lr:us.length - ru.2.length<=us.length:=by omega
  have fl:kb aa (ts.drop (ts.length - ru.2.length)) ru.2=true:=wo (by rw [pX];omega) λi t x e1 e2=>by
   have l2:=(bq.mp e2).1;rw [rg,<-lp] at e1;exact fa i t x l2 e1 e2
  have mk:pN aa ts (.make k)=some (ts.take (ts.length - ru.2.length)++[.n k (jE.xy (ts.drop (ts.length - ru.2.length)))]):=by
   show iQ aa k ts=_;unfold iQ;rw [er];show (if (decide (ru.2.length<=ts.length) && kb aa (ts.drop (ts.length - ru.2.length)) ru.2)=true then _ else none)=_;rw [ax (by rw [fl,bW ∅];rfl)]
  have xl:=s1.trans s5;refine⟨_,rfl,_,rfl,_,rfl,Pl,_,rfl,aI.of M5.hP,λL1 Sf=>?_⟩;rw [Dj us _ lr];have s6:=af Sf (.lst (us.take (us.length - ru.2.length)));have e6:upd H5 L1 (.lst (us.take (us.length - ru.2.length))) L1=some (.lst (us.take (us.length - ru.2.length))):=ae;generalize upd H5 L1 (.lst (us.take (us.length - ru.2.length)))=H6 at s6 e6;refine⟨_,rfl,a,_,_,_,rfl,rfl,(s5.trans s6).tup Km,rfl,_,rfl,_,rfl,_,rfl,Pl,_,rfl,aI.of (s6 _ _ M5.hP),λL2 Jg=>?_⟩;rw [Dk us _ lr];have s7:=s6.trans (af Jg (.lst (us.drop (us.length - ru.2.length))));have Z5:=af Jg (.lst (us.drop (us.length - ru.2.length))) _ _ e6;have e7:upd H6 L2 (.lst (us.drop (us.length - ru.2.length))) L2=some (.lst (us.drop (us.length - ru.2.length))):=ae;generalize upd H6 L2 (.lst (us.drop (us.length - ru.2.length)))=H7 at s7 Z5 e7;refine⟨L2,_,rfl,.inl ⟨aI.of e7,λt2 ji=>⟨kc,λnd Hs=>⟨vk,λL3 VW=>?_⟩⟩⟩⟩;have k9:=(af ji (.tup (us.drop (us.length - ru.2.length)))).trans ((af Hs (.tup [.int (k:Int),.ref t2])).trans (af VW (.lst [V.ref nd])));have vt:aQ K (upd (upd (upd H7 t2 (.tup (us.drop (us.length - ru.2.length)))) nd (.tup [.int (k:Int),.ref t2])) L3 (.lst [V.ref nd])) t2 (us.drop (us.length - ru.2.length)):=((af Hs _).trans (af VW _)).tup (aQ.of ae);have vn:aQ K (upd (upd (upd H7 t2 (.tup (us.drop (us.length - ru.2.length)))) nd (.tup [.int (k:Int),.ref t2])) L3 (.lst [V.ref nd])) nd [.int (k:Int),.ref t2]:=(af VW _).tup (aQ.of ae);have e9:upd (upd (upd H7 t2 (.tup (us.drop (us.length - ru.2.length)))) nd (.tup [.int (k:Int),.ref t2])) L3 (.lst [V.ref nd]) L3=some (.lst [V.ref nd]):=ae;generalize upd (upd (upd H7 t2 (.tup (us.drop (us.length - ru.2.length)))) nd (.tup [.int (k:Int),.ref t2])) L3 (.lst [V.ref nd])=H9 at k9 vt vn e9;refine⟨L1,L3,_,_,rfl,rfl,k9 _ _ Z5,e9,fits (by rw [dO];show _+1<=1000000;omega),λP' Qx=>?_⟩;have XR:=s7.trans k9;have kA:=af Qx (.lst (us.take (us.length - ru.2.length)++[V.ref nd]));have sA:=(xl.trans XR).trans kA;have X3:=jT.keep (λ_ _ z=>sA.tup z) M.pl;refine q1 P' _ _ _ sA mk ((xl.trans XR).free Qx) ae ?_ (by rw [bM,dO,fQ];omega);rw [<-lp];refine dw (kS X3 _) (.cons ?_ .nil);unfold fV;exact⟨nd,t2,us.drop (us.length - ru.2.length),rfl,kA.tup vn,kA.tup vt,gQ.Ub (kT X3 _)⟩
end
end gL
namespace L2
open PySem PySem.Spec PyProof.Rows
def Kw:List V->List V->Bool
 | [],[]=>true
 | x::xs,y::ys=>xU x y && Kw xs ys
 | _,_=>false
theorem uH:∀(xs ys:List V),((List.range (min xs.length ys.length)).all (λj=>xU (xs.getD j .d7) (ys.getD j .d7)) && (xs.length == ys.length))=Kw xs ys
 | [],[]=>rfl
 | [],y::ys=>by simp [Kw]
 | x::xs,[]=>by simp [Kw]
 | x::xs,y::ys=>by
  have ih:=uH xs ys;show _=(xU x y && Kw xs ys);rw [<-ih,dN,dN,Nat.succ_min_succ,List.range_succ_eq_map,List.all_cons,List.all_map];simp only [Function.comp_def,List.getD_cons_zero,List.getD_cons_succ,Nat.succ_eq_add_one];rw [Bool.and_assoc]
  congr 2
  simp
def As {A:Around}{s:Shared}{xs ys:List V}{aU cI:List Value}(r:a_ xs aU)(r2:a_ ys cI)(fx:xs.all iS=true)(fy:ys.all iS=true) (j:Nat)(h1:j < aU.toArray.size)(h2:j < cI.toArray.size) :
  SeqAt.EqAt A s aU.toArray[j] cI.toArray[j] (xU (xs.getD j .d7) (ys.getD j .d7)):=by
 have l1:=r.length;have l2:=r2.length;have k1:j < aU.length:=by simpa using h1
 have k2:j < cI.length:=by simpa using h2
 have g1:xs[j]?=some (xs[j]'∅):=cf ∅;have g2:ys[j]?=some (ys[j]'∅):=cf ∅;obtain⟨u1,e1,q1⟩:=r.get g1;obtain⟨u2,e2,q2⟩:=r2.get g2;have f1:aU.toArray[j]=u1:=by
  have:=(bq.mp e1).2;simpa using this
 have f2:cI.toArray[j]=u2:=by
  have:=(bq.mp e2).2;simpa using this
 rw [f1,f2];have d1:xs.getD j .d7=xs[j]'∅:=by rw [wQ,g1];rfl
 have d2:ys.getD j .d7=ys[j]'∅:=by rw [wQ,g2];rfl
 rw [d1,d2];exact Aw q1 q2 (gC.mp fx _ (oT _)) (gC.mp fy _ (oT _))
def rTT (K:a9)(neg:Bool):R2:=λx y H Q=>∃a b xs ys,x=.ref a/\y=.ref b/\aQ K H a xs/\aQ K H b ys/\xs.all iS=true/\ys.all iS=true/\Q (.bl (if neg then !Kw xs ys else Kw xs ys)) H
def IG {X:Cx}(hu:X.A.units < cLine):jj X (compareOp .NotEq) (rTT X.K true):=by
 intro ag s σ H x y v u Q I rx ry h;obtain⟨a,b,xs,ys,rfl,rfl,ha,hb,fx,fy,q⟩:=h;cases rx;cases ry;obtain⟨aU,r,pl,hz⟩:=I.tuple ha;obtain⟨cI,r2,tT,NP⟩:=I.tuple hb;have l1:=r.length;have l2:=r2.length;refine SeqAt.RcNeAt.tuples (e:=λj=>xU (xs.getD j .d7) (ys.getD j .d7)) pl tT hu (λj h1 h2=>As r r2 fx fy j h1 h2) X.prog X.w X.xe _ ?_;have e:((List.range (min aU.toArray.size cI.toArray.size)).all (λj=>xU (xs.getD j .d7) (ys.getD j .d7)) && aU.toArray.size == cI.toArray.size)=Kw xs ys:=by
  rw [<-uH];simp only [bR,<-l1,<-l2]
 rw [e];exact⟨.bl _,H,I,rfl,q⟩
def zP {X:Cx}(n:Nat)(hu:X.A.units+(n+1) < cLine):jj X (compareOp .Eq) (JX X.K true n):=by
 intro ag s σ H x y v u Q I rx ry h;obtain⟨a,b,xs,ys,rfl,rfl,ha,hb,p,q⟩:=h;cases rx;cases ry;obtain⟨aU,r,pl,hz⟩:=I.list ha;obtain⟨cI,r2,tT,NP⟩:=I.list hb;have l1:=r.length;have l2:=r2.length;have lp:=aY p;refine SeqAt.eq_listAt (e:=λ_=>true) pl.isList tT.isList (by simp only [bR];omega) ∅ (λj h1 h2=>jD r r2 p (λx y u v d r1 r2=>sU I n X.A.in1 x y u v d r1 r2 (by rw [oP];omega)) j h1 h2) ?_;have e:((List.range aU.toArray.size).all λ_=>true)=true:=by simp
 rw [e];exact⟨.bl true,H,I,rfl,q⟩
def LI (K:a9) (n:Nat):V->V->Hp->VK->Prop:=λx y H Q=>∃p q xs ys,x=.ref p/\y=.ref q/\aQ K H p xs/\aQ K H q ys/\Paired (uW K H n) xs ys/\Q (.bl false) H
def xw {X:Cx}(n:Nat)(hu:X.A.units+(n+1) < cLine):jj X (compareOp .NotEq) (LI X.K n):=by
 intro ag s σ H x y v u Q I rx ry h;obtain⟨a,b,xs,ys,rfl,rfl,ha,hb,p,q⟩:=h;cases rx;cases ry;obtain⟨aU,r,pl,hz⟩:=I.tuple ha;obtain⟨cI,r2,tT,NP⟩:=I.tuple hb;have l1:=r.length;have l2:=r2.length;have lp:=aY p;refine SeqAt.RcNeAt.tuples (e:=λ_=>true) pl tT ∅ (λj h1 h2=>jD r r2 p (λx y u v d r1 r2=>sU I n X.A.in1 x y u v d r1 r2 (by rw [oP];omega)) j h1 h2) X.prog X.w X.xe _ ?_;have e:(!((List.range (min aU.toArray.size cI.toArray.size)).all (λ_=>true) && aU.toArray.size == cI.toArray.size))=false:=by
  have:aU.toArray.size=cI.toArray.size:=by simp only [bR];omega
  rw [this];simp
 rw [e];exact⟨.bl false,H,I,rfl,q⟩
end L2
namespace gL
open PySem L2 M11
theorem AX:∀(ts:jE)(t:Tr),t∈ts.kO->sz t<=AY ts
 | .nil,t,h=>by cases h
 | .cons u r,t,h=>by
  unfold AY;rcases cA.mp h with e | e
  .rw [e];omega
  have:=AX r t e;omega
abbrev Lv:Stmt:=top 62
abbrev vS:Stmt:=top 63
abbrev Lw:Stmt:=top 64
abbrev zr:Stmt:=top 65
abbrev Ls:Stmt:=top 66
section
def JO (K:a9):Sp:=λvs H Q _=>∃(R L:Addr)(rs as:List Addr)(a0:Addr)(aa:List aw)(ds:List Dd),vs=[.ref R,.ref L]/\aI K H R (rs.map V.ref)/\bI K H rs aa/\(∀ru∈aa,ru.2.length<=8)/\aa.length<=1000/\Ol K H L as a0 ds/\(∀d∈ds,tI aa d)/\ds.length<=900 /\
 ∀H',aC H H'->(Jm (gu aa ds [])=none->Q .d7 H')/\∀t v,Jm (gu aa ds [])=some t->fV K H' t v->Q v H'
def xg:aK ["_law_rules","_law_deeds_here","_law_heads","_law_pile","_law_deed"] ["_law_rules","_law_deeds_here"] (av Lv):=ir rfl rfl rfl rfl nofun
def LZ (F:g_ K "_law_due" "_law_due" Lv f fd)(T:Txt mg)(GP:aB P w K mg base 2 "_law_piled" ["_law_rules","_law_heads","_law_pile","_law_deed"] (qB K)):bO P w K mg base fk 3 f fd ["_law_rules","_law_deeds_here"] (JO K):=by
 refine F.ok xg (λvs H Q E h=>?_) (λdW A outer s H vs Q E hr h=>?_)
 .obtain⟨R,L,rs,as,a0,aa,ds,rfl,_⟩:=h;rfl
 obtain⟨R,L,rs,as,a0,aa,ds,rfl,hR,b_,h8,br,D0,HN,dl,q⟩:=h;have tU:=pY (rm (by decide:1+1<=64) _) hr.units;refine⟨_,ai (iA (iy:=2) ["_law_head","_law_parts"] [] xg.nd rfl rfl rfl (aZ (pv 0)) (bp rfl rfl) nofun rfl nofun
   (λ_ _ _ _ _=>fJ (n:=2) K rfl (aE (aq (i:=0) (show (["_law_head","_law_parts"]:List Str).Nodup by decide +kernel) rfl (bx rfl)) (aE (aq (i:=1) (show (["_law_head","_law_parts"]:List Str).Nodup by decide +kernel) rfl (bx rfl)) b9))) (λ_ _ _ _ _=>bY) (λ_ _ _ _ _=>pv 0))
  (ai (aA (i:=3) xg.nd rfl (bx rfl) (bc ah))
  (ai (bw (aV (rY 1 tU) (dY iz (pv 1) (dS (j7 ip ao)) gh) (bc (ab (bD (ab bU ah)) ah)) (bu _)) (ak (aL jf)) aM)
  (ai (bQ b0 rfl (aZ (dY iz (pv 1) gh (dS (j7 ip ao)))) (aq (i:=4) xg.nd rfl (bx rfl))
   (ai (aA (i:=3) xg.nd rfl (bx rfl) (a8 GP hr rfl (ab (pv 0) (ab (pv 2) (ab (pv 3) (ab (pv 4) ah))))))
   (ak (bw (cZ (rX (pv 3))) (ak (aL jf)) aM))))
  (ai (bw (PW.pt (ju (aV uu (aD aG rfl T.len cU (ab (pv 3) ah)) ao (bu _)) (iq (gk (cY (aD cw rfl T.CM jn (ab (aF bo (pv 3) ao (λ_ _=>rfl)) (ab (fM (v:=.ty "tuple") rfl T.tup qS rfl) ah)))))))) (ak (aL jf)) aM)
  (ak (aL (aF bo (pv 3) ao (λ_ _=>rfl)))))))),?_⟩
 nofun
 have ll:=aY b_;refine⟨_,rfl,R,rfl,⟨_,hR⟩,λN hN=>jR hR b_ ∅ hN λH1 s1 eN=>?_⟩;refine goN ?_
 ac_rfl
 refine⟨o7,λPl MI=>?_⟩;have k2:=af MI (.lst []);have HJ:=k2 _ _ eN;have N8:upd H1 Pl (.lst []) Pl=some (.lst []):=ae;generalize upd H1 Pl (.lst [])=H2 at k2 HJ N8;have s2:=s1.trans k2;refine goN ?_
 ac_rfl
 refine⟨_,rfl,_,rfl,_,rfl,L,_,rfl,s2.seq D0.hL,λC1 QB=>?_⟩;rw [uK];have k3:=af QB (.lst [V.ref a0]);have e3:upd H2 C1 (.lst [V.ref a0]) C1=some (.lst [V.ref a0]):=ae;generalize upd H2 C1 (.lst [V.ref a0])=H3 at k3 e3;refine⟨vk,λt1 NR=>⟨vk,λC2 MP=>?_⟩⟩;have k4:=(af NR (.tup [V.str "done"])).trans (af MP (.lst [V.ref t1]));have et:aQ K (upd (upd H3 t1 (.tup [V.str "done"])) C2 (.lst [V.ref t1])) t1 [.str "done"]:=(af MP _).tup (aQ.of ae);have KH:upd (upd H3 t1 (.tup [V.str "done"])) C2 (.lst [V.ref t1]) C2=some (.lst [V.ref t1]):=ae;generalize upd (upd H3 t1 (.tup [V.str "done"])) C2 (.lst [V.ref t1])=H4 at k4 et KH;have YA:=k3.trans k4;have s4:=s2.trans YA;refine⟨C1,C2,_,_,rfl,rfl,aI.of (k4 _ _ e3),aI.of KH,.cons (.inr ⟨a0,t1,_,_,rfl,rfl,.inr ⟨s4.tup D0.dn,et⟩,.cons (uW.self (.inl rfl) 0) .nil⟩) .nil,false,rfl,?_⟩;refine df ?_;refine⟨_,rfl,_,rfl,_,rfl,L,_,rfl,s4.seq D0.hL,λC3 MO=>?_⟩;rw [uL];have k5:=af MO (.lst (as.map V.ref));have Ng:upd H4 C3 (.lst (as.map V.ref)) C3=some (.lst (as.map V.ref)):=ae;generalize upd H4 C3 (.lst (as.map V.ref))=H5 at k5 Ng;have s5:=s4.trans k5;have Yz:=YA.trans k5;have UJ:=aY D0.pr;refine⟨C3,rfl,⟨_,aI.of Ng⟩,?_⟩;refine cD (xs:=as.map V.ref) (λi σ H9=>∃(Pl:Addr)(us:List V)(ts:List Tr)(y4:Option V),σ=[aP R,aP L,aP N,aP Pl,y4]/\aC H5 H9/\H9 Pl=some (.lst us)/\jT K H9 us ts/\gu aa (ds.take i) []=some ts/\us.length<=i) ⟨Pl,[],[],none,rfl,aC.refl H5,Yz _ _ N8,.nil,rfl,aH _⟩ ?_ ?_ ?_
 .rintro i σ H9 _ ⟨Pl,us,ts,y4,rfl,s9,_⟩;exact aI.of (s9 _ _ Ng)
 .intro i x σ H9 ex jQ
  ac_nf0
  obtain⟨Pl,us,ts,y4,rfl,s9,xW,DK,pq,l9⟩:=jQ;rw [bh] at ex;obtain⟨a,ea,rfl⟩:=cq.mp ex;have li:=(bq.mp ea).1;obtain⟨de,Jn⟩:∃de,ds[i]?=some de:=⟨ds[i]'∅,cf ∅⟩;obtain⟨a',Kz,va⟩:=Paired.at_ D0.pr i de Jn;rw [ea] at Kz;cases Kz;have T9:=HN de (cg Jn);have LS:=tP.gu (aa:=aa) tP.nil (λx hx=>HN x (p_ hx)) pq;have Ir:=s5.trans s9;have M9:Nv K H9 R N Pl rs aa us ts:=⟨Ir.seq hR,b_.same Ir,s9 _ _ (Yz _ _ HJ),xW,DK,∅,h8,br,λj cs h=>LS.top h⟩;refine goN ?_
  ac_rfl
  refine⟨_,rfl,_,rfl,_,rfl,_,rfl,R,N,Pl,a,rs,aa,us,ts,de,rfl,M9,l_.keep (λ_ _ y=>Ir.tup y) va,T9,λHA sA e=>?_,λP' HA gT fC sA e N1 Nc JZ l'=>?_⟩
  .refine⟨_,rfl,_,rfl,?_⟩;refine g7 ?_;refine(q HA (Ir.trans sA)).1 ?_;rw [xn Jn pq e];rfl
  refine⟨_,rfl,_,rfl,?_⟩;refine df ?_;refine⟨P',gT,fC,_,rfl,s9.trans sA,Nc,JZ,?_,∅⟩;rw [cS,Jn];show gu aa (ds.take i++[de]) []=_;rw [nI,pq];show gu aa [de] ts=_;rw [xo,e]
 rintro σ H9 ⟨Pl,us,ts,y4,rfl,s9,xW,DK,pq,l9⟩;rw [au,UJ,cR] at pq;have lp:=aY DK;have hq:=q H9 (s5.trans s9);rw [pq] at hq;refine⟨_,rfl,Pl,_,rfl,.inl (aI.of xW),rfl,!decide (us.length=1),?_,?_⟩
 .show V.bl (!decide (V.int (us.length:Int)=V.int 1))=V.bl (!decide (us.length=1));by_cases h:us.length=1
  .rw [bW h,bW (by rw [h];rfl)]
  rw [dq h,dq (λy=>h (by injection y with y2;omega))]
 refine bZ (λc=>?_) (λc=>?_)
 .have n1:us.length≠1:=λh=>by rw [bW h] at c;cases c
  refine hq.1 ?_
  match ts,lp with
  | [],_=>rfl
  | [t],lp=>exact absurd lp n1
  | a::_::_,_=>cases a <;> rfl
 have l1:us.length=1:=by
  cases hh:decide (us.length=1) with
  | true=>exact dr hh
  | false=>rw [hh] at c;exact absurd rfl c
 match us,ts,l1,lp,DK,xW,hq with
 | [u],[t],_,_,.cons tv .nil,xW,hq =>
  have tZ:j9 [u] 0=some u:=bT (j:=0) rfl;cases t with
  | w z =>
   unfold fV at tv;subst tv;refine⟨_,rfl,Pl,_,_,_,rfl,rfl,aI.of xW,tZ,.str z,"str","tuple",false,rfl,.str z,FX,false,rfl,?_⟩;refine g7 ?_;exact hq.1 rfl
  | n k cs =>
   have JH:=tv;unfold fV at JH;obtain⟨a,p,vs,rfl,ha,hp,_⟩:=JH;refine⟨_,rfl,Pl,_,_,_,rfl,rfl,aI.of xW,tZ,.ref a,"tuple","tuple",true,rfl,.tup ha,fA,true,rfl,?_⟩;refine df ?_;exact⟨_,rfl,Pl,_,_,_,rfl,rfl,aI.of xW,tZ,hq.2 _ _ rfl tv⟩
def rL (K:a9) (n:Nat):Sp:=λvs H Q _=>∃(v:V)(t:Tr),vs=[v]/\fV K H t v/\dp t < n/\sz t<=1000/\∀(D:Addr)(as:List Addr)(H':Hp),H D=none->aC H H'->H' D=some (.lst (as.map V.ref))->Paired (λa d=>l_ K H' a d) as (mN t)->Q (.ref D) H'
def ny:aK ["_law_tree","_law_deeds_here","_law_child"] ["_law_tree"] (av vS):=ir rfl rfl rfl rfl nofun
theorem uw (F:g_ K "_law_deeds" "_law_deeds" vS f fd)(T:Txt mg)(b1:Binds K fd ["_law_tree"] [])(m1:mg "_law_deeds"=some (.ref f)):∀n,bO P w K mg base fk n f fd ["_law_tree"] (rL K n)
 | 0=>⟨λvs H Q E ⟨_,_,e,_⟩=>by rw [e];rfl,λA outer s H args us vs Q E _ _ _ _ ⟨_,_,_,_,h,_⟩=>absurd h (Nat.not_lt_zero _)⟩
 | n+1=>by
  have G:aB P w K mg base n "_law_deeds" ["_law_tree"] (rL K n):=⟨f,fd,uw F T b1 m1 n,b1,F.kp,m1⟩;refine F.ok ny (λvs H Q E h=>?_) (λdW A outer s H vs Q E hr h=>?_)
  .obtain⟨_,_,rfl,_⟩:=h;rfl
  obtain⟨v,t,rfl,ht,VF,hsz,q⟩:=h;refine⟨_,ai (bw (cY (aD cw rfl T.CM jn (ab (pv 0) (ab (fM (v:=.ty "str") rfl T.str iT rfl) ah)))) (ak (aL (bc (ab (bD (ab bU (ab (pv 0) ah))) ah)))) aM)
   (ai (aA (i:=1) ny.nd rfl (bx rfl) (bc ah))
   (ai (bQ b0 rfl (gI (aF aN (pv 0) ao (λ_ _=>rfl))) (aq (i:=2) ny.nd rfl (bx rfl))
    (ak (aA (i:=1) ny.nd rfl (bx rfl) (aX iN (pv 1) (a8 G hr rfl (ab (pv 2) ah))))))
   (ak (aL (aX iN (pv 1) (bc (ab (bD (ab bU (ab (aF aN (pv 0) ao (λ_ _=>rfl)) ah))) ah))))))),?_⟩
  nofun
  cases t with
  | w z =>
   unfold fV at ht;subst ht;refine⟨_,rfl,.str z,"str","str",true,rfl,.str z,fA,true,rfl,?_⟩;refine g7 ?_;refine⟨_,rfl,kc,λu hu=>⟨vk,λD hD=>?_⟩⟩;have k1:=af hu (.tup [V.str "step",V.str z]);have e1:aQ K (upd H u (.tup [V.str "step",V.str z])) u [.str "step",.str z]:=aQ.of ae;generalize upd H u (.tup [V.str "step",V.str z])=H1 at k1 e1 hD;refine q D [u] _ (k1.free hD) (k1.trans (af hD _)) ae ?_;unfold mN;exact .cons ((af hD _).tup e1) .nil
  | n k cs =>
   have Hl:=qO (.n k cs);unfold fV at ht;obtain⟨a,p,us,rfl,ha,hp,CY⟩:=ht;have J0:=gQ.paired cs CY;have lcs:=aY J0;have wM:1+DR cs < n+1:=by unfold dp at VF;exact VF
   have hs1:1+AY cs<=1000:=by unfold sz at hsz;exact hsz
   refine⟨_,rfl,.ref a,"tuple","str",false,rfl,.tup ha,pE,false,rfl,?_⟩;refine df ?_;refine⟨o7,λL hL=>?_⟩;have k1:=af hL (.lst []);have e1:upd H L (.lst []) L=some (.lst []):=ae;generalize upd H L (.lst [])=H1 at k1 e1;refine⟨_,rfl,a,_,_,_,rfl,rfl,k1.tup ha,rfl,p,rfl,⟨_,k1.tup hp⟩,?_⟩;refine qN (xs:=us) (λi σ H5=>∃(D:Addr)(as:List Addr)(y2:Option V),σ=[aP a,aP D,y2]/\aC H H5/\H D=none/\H5 D=some (.lst (as.map V.ref))/\Paired (λa d=>l_ K H5 a d) as ((cs.kO.take i).flatMap mN)) ⟨L,[],none,rfl,k1,hL,e1,.nil⟩ ?_ ?_ ?_
   .rintro i σ H5 _ ⟨D,as,y2,rfl,s5,_⟩;exact s5.tup hp
   .intro i x σ H5 ex jQ
    ac_nf0
    obtain⟨D,as,y2,rfl,s5,fD,eD,pd⟩:=jQ;have li:=(bq.mp ex).1;obtain⟨tc,Wd⟩:∃tc,cs.kO[i]?=some tc:=⟨cs.kO[i]'∅,cf ∅⟩;obtain⟨x',MZ,tv⟩:=Paired.at_ J0 i tc Wd;rw [ex] at MZ;cases MZ;have lH:=cg Wd;have d1:=GO cs tc lH;have z1:=AX cs tc lH;have tot:((cs.kO.take (i+1)).flatMap mN).length<=1000:=by
     have h1:((cs.kO.take (i+1)).flatMap mN).length<=(cs.kO.flatMap mN).length:=by
      conv=>rhs;rw [<-rA (i+1) cs.kO,jY,bM]
      omega
     rw [<-oy,oz] at h1;omega
    refine goN ?_
    ac_nf
    refine⟨_,rfl,_,rfl,x,tc,rfl,fV.keep (λ_ _ z=>s5.tup z) tc tv,∅,∅,λD2 as2 H6 f6 s6 e6 p6=>?_⟩;have Sv:=s6 _ _ eD;have DL:=aY pd;have l26:=aY p6;have Gv:(cs.kO.take (i+1)).flatMap mN=(cs.kO.take i).flatMap mN++mN tc:=by
     rw [cS,Wd,jY];simp
    rw [Gv,bM] at tot;refine⟨D,D2,_,_,rfl,rfl,Sv,e6,fits (by rw [au,au];omega),λD3 Aj=>?_⟩;rw [<-bG];have k7:=af Aj (.lst ((as++as2).map V.ref));refine⟨D3,as++as2,_,rfl,(s5.trans s6).trans k7,(s5.trans s6).free Aj,ae,?_⟩;rw [Gv];exact dw (Paired.dJ pd λ_ _ z=>l_.keep (λ_ _ y=>k7.tup (s6.tup y)) z) (Paired.dJ p6 λ_ _ z=>l_.keep (λ_ _ y=>k7.tup y) z)
   rintro σ H5 ⟨D,as,y2,rfl,s5,fD,eD,pd⟩;rw [show us.length=cs.kO.length from lcs,cR,<-oy] at pd;have DL:=aY pd;have RO:=oz cs;refine⟨_,rfl,_,rfl,a,_,_,_,rfl,rfl,s5.tup ha,rfl,kc,λu hu=>⟨vk,λL2 Jg=>?_⟩⟩;have k6:=(af hu (.tup [V.str "make",V.int (k:Int)])).trans (af Jg (.lst [V.ref u]));have vu:aQ K (upd (upd H5 u (.tup [V.str "make",V.int (k:Int)])) L2 (.lst [V.ref u])) u [.str "make",.int (k:Int)]:=(af Jg _).tup (aQ.of ae);have e6:upd (upd H5 u (.tup [V.str "make",V.int (k:Int)])) L2 (.lst [V.ref u]) L2=some (.lst [V.ref u]):=ae;generalize upd (upd H5 u (.tup [V.str "make",V.int (k:Int)])) L2 (.lst [V.ref u])=H6 at k6 vu e6;refine⟨D,L2,_,_,rfl,rfl,k6 _ _ eD,e6,fits (by rw [au];show _+1<=1000000;omega),λD3 Aj=>?_⟩;have k7:=af Aj (.lst (as.map V.ref++[V.ref u]));refine q D3 (as++[u]) _ ((s5.trans k6).free Aj) ((s5.trans k6).trans k7) (by rw [ae,bG];rfl) ?_;rw [KO];exact dw (Paired.dJ pd λ_ _ z=>l_.keep (λ_ _ y=>k7.tup (k6.tup y)) z) (.cons (show aQ K _ u [.str "make",.int (k:Int)] from k7.tup vu) .nil)
def i7 (ks:List Nat):List V:=ks.map λk:Nat=>V.int (k:Int)
def JP (K:a9):Sp:=λvs H Q _=>∃(R N Pl:Addr)(rs:List Addr)(aa:List aw)(us:List V)(ts:List Tr),vs=[.ref R,.ref N,.ref Pl]/\Nv K H R N Pl rs aa us ts /\
 ∀(D:Addr)(ks:List Nat)(H':Hp),H D=none->aC H H'->H' D=some (.lst (i7 ks))->ks.length<=aa.length->(∀k∈ks,k < aa.length/\∃fC,pN aa ts (.make k)=some fC)->Q (.ref D) H'
def ED:aK ["_law_rules","_law_heads","_law_pile","_law_found","_law_number"] ["_law_rules","_law_heads","_law_pile"] (av Lw):=ir rfl rfl rfl rfl nofun
def L0 (F:g_ K "_law_can" "_law_can" Lw f fd)(T:Txt mg)(GP:aB P w K mg base 2 "_law_piled" ["_law_rules","_law_heads","_law_pile","_law_deed"] (qB K)):bO P w K mg base fk 3 f fd ["_law_rules","_law_heads","_law_pile"] (JP K):=by
 refine F.ok ED (λvs H Q E h=>?_) (λdW A outer s H vs Q E hr h=>?_)
 .obtain⟨R,N,Pl,rs,aa,us,ts,rfl,_⟩:=h;rfl
 obtain⟨R,N,Pl,rs,aa,us,ts,rfl,M,q⟩:=h;have hu:=u4 (fS hr);have sr:=M.sr;have ll:=aY M.b_;refine⟨_,ai (aA (i:=3) ED.nd rfl (bx rfl) (bc ah))
  (ai (bQ b0 rfl (gZ rfl T.DJ (ab (aD aG rfl T.len cU (ab (pv 0) ah)) ah)) (aq (i:=4) ED.nd rfl (bx rfl))
   (ak (bw (PW.pt (iK (cZ (Bt (a8 GP hr rfl (ab (pv 0) (ab (pv 1) (ab (pv 2) (ab (bD (ab bU (ab (pv 4) ah))) ah))))))) (gF (aV (IG hu) (aF aN (aF bo (pv 0) (pv 4) (λ_ _=>rfl)) ao (λ_ _=>rfl)) (bD ah) (bu _)))))
    (ak (bX (ft eG fZ f_ bK (pv 3) (ab (pv 4) ah)))) aM)))
  (ak (aL (pv 3)))),?_⟩
 nofun
 refine⟨o7,λL hL=>?_⟩;have k1:=af hL (.lst []);have e1:upd H L (.lst []) L=some (.lst []):=ae;generalize upd H L (.lst [])=H1 at k1 e1;refine⟨_,rfl,R,_,rfl,.inl (k1.seq M.hR),((rs.map V.ref).length:Int),rfl,by rw [au];omega,by rw [au];omega,?_⟩;rw [show (((rs.map V.ref).length:Nat):Int).toNat=aa.length by rw [au];omega];refine g8 (n:=aa.length) (λi σ H5=>∃(ks:List Nat)(y4:Option V),σ=[aP R,aP N,aP Pl,aP L,y4]/\aC H H5/\H5 L=some (.lst (i7 ks))/\ks.length<=i/\∀k∈ks,k < aa.length/\∃fC,pN aa ts (.make k)=some fC) ⟨[],none,rfl,k1,e1,aH _,λk h=>by cases h⟩ ?_ ?_
 .intro i σ H5 hi jQ
  ac_nf0
  obtain⟨ks,y4,rfl,s5,e5,l5,m5⟩:=jQ;have er:aa[i]?=some aa[i]:=cf hi;generalize i8:aa[i]=ru at er;refine goN ?_
  ac_nf
  refine⟨_,rfl,_,rfl,_,rfl,_,rfl,kc,λu tU=>?_⟩;have k6:=af tU (.tup [V.str "make",V.int (0+(i:Int))]);have e6:aQ K (upd H5 u (.tup [V.str "make",V.int (0+(i:Int))])) u [.str "make",.int (i:Int)]:=by
   have:aQ K (upd H5 u (.tup [V.str "make",V.int (0+(i:Int))])) u [.str "make",.int (0+(i:Int))]:=aQ.of ae;rw [jb] at this ⊢;exact this
  generalize upd H5 u (.tup [V.str "make",V.int (0+(i:Int))])=H6 at k6 e6;have s6:=s5.trans k6;refine⟨R,N,Pl,u,rs,aa,us,ts,.make i,rfl,M.same s6,e6,hi,λH7 s7 e=>?_,λP' H7 gT fC s7 e fP eP JZ l'=>?_⟩
  .refine⟨false,rfl,?_⟩;refine df ?_;exact⟨ks,_,rfl,s6.trans s7,(k6.trans s7) _ _ e5,∅,m5⟩
  refine⟨true,rfl,?_⟩;refine g7 ?_;have Bn:=s6.trans s7;have M7:=M.same Bn;obtain⟨r,err,p,v1,v2⟩:=Paired.at_ M7.b_ i ru er;have tO:j9 (rs.map V.ref) (0+(i:Int))=some (.ref r):=by
   rw [jb];exact bT (by rw [bh,err];rfl)
  refine⟨_,rfl,_,rfl,R,_,_,_,rfl,rfl,M7.hR,tO,r,_,_,_,rfl,rfl,v1,rfl,o7,λt0 U6=>?_⟩;have k8:=af U6 (.tup []);have e8:aQ K (upd H7 t0 (.tup [])) t0 []:=aQ.of ae;generalize upd H7 t0 (.tup [])=H8 at k8 e8;have WA:=(k6.trans (s7.trans k8)) _ _ e5;refine⟨p,t0,_,_,rfl,rfl,k8.tup v2,e8,cN _,rfl,_,rfl,?_⟩;refine bZ (λ_=>?_) (λ_=>?_)
  .refine⟨_,rfl,.inl ⟨rfl,_,aI.of WA⟩,_,rfl,L,_,_,rfl,rfl,WA,bL (by unfold i7;rw [au];omega),?_⟩;refine⟨ks++[i],_,rfl,?_,?_,by rw [bM,fQ];omega,λk hk=>?_⟩
   .intro b o hb;rw [aj (λz=>by rw [z,hL] at hb;cases hb)];exact(Bn.trans k8) b o hb
   .rw [ae];unfold i7;rw [bG,jb];rfl
   rcases cC.mp hk with h | h
   .exact m5 k h
   rw [bV.mp h];exact⟨hi,fC,e⟩
  exact⟨ks,_,rfl,Bn.trans k8,WA,∅,m5⟩
 rintro σ H5 ⟨ks,y4,rfl,s5,e5,l5,m5⟩;exact⟨_,rfl,q L ks H5 hL s5 e5 l5 m5⟩
def W6 {ks:List Nat}(h:ks≠[]) (n:Int):(0:Int) < ((i7 ks).length:Int)/\∃k∈ks,j9 (i7 ks) (n % ((i7 ks).length:Int))=some (.int (k:Int)):=by
 have l0:0 < ks.length:=List.length_pos_iff.mpr h;have le:(i7 ks).length=ks.length:=by unfold i7;rw [au]
 have hp:(0:Int) < (ks.length:Int):=by omega
 have lt:(n % (ks.length:Int)).toNat < ks.length:=by
  have:=Int.emod_lt_of_pos n hp;have:=Int.emod_nonneg n (show (ks.length:Int)≠0 by omega);omega
 have eN:(((n % (ks.length:Int)).toNat:Nat):Int)=n % (ks.length:Int):=by
  have:=Int.emod_nonneg n (show (ks.length:Int)≠0 by omega);omega
 rw [le];refine⟨hp,ks[(n % (ks.length:Int)).toNat],oT lt,?_⟩;have:=bT (xs:=i7 ks) (j:=(n % (ks.length:Int)).toNat) (v:=.int ((ks[(n % (ks.length:Int)).toNat]:Nat):Int)) (by unfold i7;rw [bh,cf lt];rfl);rw [eN] at this;exact this
def Bx {ks:List Nat}(h:(!(i7 ks).isEmpty)=true):ks≠[]:=λz=>by rw [z] at h;cases h
def Js (ns:List Int):∃cs:List Int,gy (ns.map V.int) (some 8) (some 48)=cs.map V.int/\cs.length<=40:=by
 refine⟨(ns.drop (min 8 ns.length)).take (min 48 ns.length - min 8 ns.length),?_,?_⟩
 .unfold gy;rw [show (some (8:Int))=some ((8:Nat):Int) from rfl,show (some (48:Int))=some ((48:Nat):Int) from rfl,HT.jL,HT.jL,au,<-List.map_drop,<-oK]
 rw [dO];omega
structure lK (K:a9)(H H5:Hp)(N Pl L C:Addr)(aa:List aw)(cs:List Int)(us:List V)(ts:List Tr)(as:List Addr)(ds:List Dd):Prop where
 s:aC H H5
 hN:H5 N=some (.lst ((hm aa).map V.str))
 hC:H5 C=some (.lst (cs.map V.int))
 hP:H5 Pl=some (.lst us)
 pl:jT K H5 us ts
 hL:H5 L=some (.lst (as.map V.ref))
 pr:Paired (λa d=>l_ K H5 a d) as ds
 ok:∃es,tP aa es ts
 dk:∀d∈ds,tI aa d
 nN:N≠L
 nC:C≠L
 nP:Pl≠L
 fL:H L=none
section
variable {H H5 H6:Hp}{N Pl L C:Addr}{aa:List aw}{cs:List Int}{us:List V}{ts:List Tr}{as:List Addr}{ds:List Dd}
def lK.same (h:lK K H H5 N Pl L C aa cs us ts as ds)(s6:aC H5 H6):lK K H H6 N Pl L C aa cs us ts as ds :=
 ⟨h.s.trans s6,s6 _ _ h.hN,s6 _ _ h.hC,s6 _ _ h.hP,jT.keep (λ_ _ z=>s6.tup z) h.pl,s6 _ _ h.hL,Paired.dJ h.pr λ_ _ z=>l_.keep (λ_ _ y=>s6.tup y) z,h.ok,h.dk,h.nN,h.nC,h.nP,h.fL⟩
def lK.push (h:lK K H H5 N Pl L C aa cs us ts as ds){a:Addr}{de:Dd}(va:l_ K H5 a de)(ok:tI aa de):lK K H (upd H5 L (.lst (as.map V.ref++[.ref a]))) N Pl L C aa cs us ts (as++[a]) (ds++[de]):=by
 have kp:∀b xs,aQ K H5 b xs->aQ K (upd H5 L (.lst (as.map V.ref++[.ref a]))) b xs:=λ_ _ z=>aT h.hL z;refine⟨λb o hb=>?_,?_,?_,?_,jT.keep kp h.pl,?_,?_,h.ok,λd hd2=>?_,h.nN,h.nC,h.nP,h.fL⟩
 .rw [aj (λz=>by rw [z,h.fL] at hb;cases hb)];exact h.s b o hb
 .rw [aj h.nN];exact h.hN
 .rw [aj h.nC];exact h.hC
 .rw [aj h.nP];exact h.hP
 .rw [ae,bG];rfl
 .exact dw (Paired.dJ h.pr λ_ _ z=>l_.keep kp z) (.cons (l_.keep kp va) .nil)
 rcases cC.mp hd2 with q | q
 .exact h.dk d q
 rw [bV.mp q];exact ok
def lK.cX (h:lK K H H5 N Pl L C aa cs us ts as ds){P':Addr}{gT:List V}{fC:List Tr}(e:H5 P'=some (.lst gT))(p:jT K H5 gT fC)(n:P'≠L)(ok:∃es,tP aa es fC):lK K H H5 N P' L C aa cs gT fC as ds :=
 ⟨h.s,h.hN,h.hC,e,p,h.hL,h.pr,ok,h.dk,h.nN,h.nC,n,h.fL⟩
def lK.pd (h:lK K H H5 N Pl L C aa cs us ts as ds){R:Addr}{rs:List Addr}(hR:aI K H R (rs.map V.ref))(b_:bI K H rs aa)(fw:us.length<=1000)(sh:∀ru∈aa,ru.2.length<=8)(sr:aa.length<=1000):Nv K H5 R N Pl rs aa us ts:=by
 obtain⟨es,o⟩:=h.ok;exact⟨h.s.seq hR,b_.same h.s,h.hN,h.hP,h.pl,fw,sh,sr,λj cs z=>o.top z⟩
end
def Bh (K:a9):Sp:=λvs H Q _=>∃(R S:Addr)(rs:List Addr)(aa:List aw)(ns:List Int),vs=[.ref R,.ref S]/\aI K H R (rs.map V.ref)/\bI K H rs aa/\(∀ru∈aa,ru.2.length<=8)/\aa.length<=1000/\1<=aa.length/\aI K H S (ns.map V.int)/\ns.length<=1000/\(∀c,c=cellAt ns 0->∀z∈gK c,z∉hd aa) /\
 ∀(D:Addr)(as:List Addr)(ds:List Dd)(H':Hp),H D=none->aC H H'->H' D=some (.lst (as.map V.ref))->Paired (λa d=>l_ K H' a d) as ds->(∀d∈ds,tI aa d)->ds.length<=60->Q (.ref D) H'
def fh:aK ["_law_rules","_law_script","_law_heads","_law_pile","_law_deeds_here","_law_cell","_law_can_here","_law_deed","_law_there","_law_k"] ["_law_rules","_law_script"] (av zr):=ir rfl rfl rfl rfl nofun
def Fz (F:g_ K "_law_drawn" "_law_drawn" zr f fd)(T:Txt mg)(GP:aB P w K mg base 3 "_law_piled" ["_law_rules","_law_heads","_law_pile","_law_deed"] (qB K))(GA:aB P w K mg base 3 "_law_can" ["_law_rules","_law_heads","_law_pile"] (JP K))
  (GC:aB P w K mg base 3 "_law_cell_at" ["_law_script","_law_k"] (rM K))(GW:aB P w K mg base 3 "_law_words" ["_law_cell"] rG):bO P w K mg base fk 4 f fd ["_law_rules","_law_script"] (Bh K):=by
 refine F.ok fh (λvs H Q E h=>?_) (λdW A outer s H vs Q E hr h=>?_)
 .obtain⟨R,S,rs,aa,ns,rfl,_⟩:=h;rfl
 obtain⟨R,S,rs,aa,ns,rfl,hR,b_,h8,br,h1,hS,hn,hw,q⟩:=h;have hu:=u4 (fS hr);have ll:=aY b_;refine⟨_,ai (iA (iy:=2) ["_law_head","_law_parts"] [] fh.nd rfl rfl rfl (aZ (pv 0)) (bp rfl rfl) nofun rfl nofun
   (λ_ _ _ _ _=>fJ (n:=2) K rfl (aE (aq (i:=0) (show (["_law_head","_law_parts"]:List Str).Nodup by decide +kernel) rfl (bx rfl)) (aE (aq (i:=1) (show (["_law_head","_law_parts"]:List Str).Nodup by decide +kernel) rfl (bx rfl)) b9))) (λ_ _ _ _ _=>bY) (λ_ _ _ _ _=>pv 0))
  (ai (aA (i:=3) fh.nd rfl (bx rfl) (bc ah))
  (ai (aA (i:=4) fh.nd rfl (bx rfl) (bc ah))
  (ai (bQ b0 rfl (aZ (dY iz (pv 1) (dS ao) (dS ao))) (aq (i:=5) fh.nd rfl (bx rfl))
   (ai (aA (i:=6) fh.nd rfl (bx rfl) (a8 GA hr rfl (ab (pv 0) (ab (pv 2) (ab (pv 3) ah)))))
   (ai (aA (i:=7) fh.nd rfl (bx rfl) (bD (ab bU (ab (aF bo (a8 GW hr rfl (ab (a8 GC hr rfl (ab (pv 1) (ab ao ah))) ah)) (aX c_ (aX dU (pv 5) ao) ao) (λ_ _=>rfl)) ah))))
   (ai (nO (bw (aV ik (aX c_ (pv 5) ao) ao (bu _)) (ak (aA (i:=7) fh.nd rfl (bx rfl) (bD (ab bU (ab (aX c_ (aX dU (pv 5) ao) (aD aG rfl T.len cU (ab (pv 0) ah))) ah))))) aM))
   (ai (nO (bw (PW.pt (iK (aV (ur hu) (pv 6) (bc ah) (bu _)) (gF (PW.pt (ju (aV rZ (aX c_ (pv 5) ao) ao (bu _)) (iq (PW.pt (iK (aV ik (aX c_ (pv 5) ao) ao (bu _)) (gF (aV rZ (aX c_ (a8 GC hr rfl (ab (pv 1) (ab ao ah))) ao) ao (bu _)))))))))))
    (ak (aA (i:=7) fh.nd rfl (bx rfl) (bD (ab bU (ab (aF bo (pv 6) (aX c_ (aX dU (pv 5) ao) (aD aG rfl T.len cU (ab (pv 6) ah))) (λ_ _=>rfl)) ah))))) aM))
   (ai (aA (i:=8) fh.nd rfl (bx rfl) (a8 GP hr rfl (ab (pv 0) (ab (pv 2) (ab (pv 3) (ab (pv 7) ah))))))
   (ai (bw (PW.pt (ju (cZ (Bt (pv 8))) (iq (aV ik (aX c_ (a8 GC hr rfl (ab (pv 1) (ab ao ah))) ao) ao (bu _)))))
    (ai (bX (ft eG fZ f_ bK (pv 4) (ab (pv 7) ah)))
    (ak (aA (i:=3) fh.nd rfl (bx rfl) (pv 8)))) aM)
   (ak (bw (cZ (rX (pv 3))) (ak (aL (pv 4))) aM)))))))))
  (ai (bQ b0 rfl (gZ rfl T.DJ (ab ao ah)) (aq (i:=9) fh.nd rfl (bx rfl))
   (ai (aA (i:=6) fh.nd rfl (bx rfl) (a8 GA hr rfl (ab (pv 0) (ab (pv 2) (ab (pv 3) ah)))))
   (ak (bw (PW.pt (iK (aV (ur hu) (pv 6) (bc ah) (bu _)) (gF (aV rZ (aD aG rfl T.len cU (ab (pv 3) ah)) ao (bu _)))))
    (ai (bX (ft eG fZ f_ bK (pv 4) (ab (bD (ab bU (ab (aF bo (pv 6) ao (λ_ _=>rfl)) ah))) ah)))
    (ak (aA (i:=3) fh.nd rfl (bx rfl) (a8 GP hr rfl (ab (pv 0) (ab (pv 2) (ab (pv 3) (ab (aF bo (pv 4) (j7 ip ao) (λ_ _=>rfl)) ah)))))))) aM))))
  (ak (aL (pv 4))))))),?_⟩
 nofun
 refine⟨_,rfl,R,rfl,⟨_,hR⟩,λN hN=>jR hR b_ ∅ hN λH1 s1 eN=>?_⟩;refine goN ?_
 ac_rfl
 refine⟨o7,λPl MI=>?_⟩;have k2:=af MI (.lst []);have HJ:=k2 _ _ eN;have N8:upd H1 Pl (.lst []) Pl=some (.lst []):=ae;generalize upd H1 Pl (.lst [])=H2 at k2 HJ N8;have s2:=s1.trans k2;refine⟨o7,λL hL=>?_⟩;have k3:=af hL (.lst []);have ZQ:=k3 _ _ HJ;have ZP:=k3 _ _ N8;have Nd:upd H2 L (.lst []) L=some (.lst []):=ae;have nN:N≠L:=λz=>by rw [<-z,HJ] at hL;cases hL
 have nP:Pl≠L:=λz=>by rw [<-z,N8] at hL;cases hL
 generalize upd H2 L (.lst [])=H3 at k3 ZQ ZP Nd;have s3:=s2.trans k3;refine⟨_,rfl,_,rfl,_,rfl,S,_,rfl,s3.seq hS,λC hC=>?_⟩;obtain⟨cs,ecs,lcs⟩:=Js ns;rw [ecs];have k4:=af hC (.lst (cs.map V.int));have Ww:upd H3 C (.lst (cs.map V.int)) C=some (.lst (cs.map V.int)):=ae;have nC:C≠L:=λz=>by rw [z,Nd] at hC;cases hC
 generalize upd H3 C (.lst (cs.map V.int))=H4 at k4 Ww;have D4:lK K H H4 N Pl L C aa cs [] [] [] []:=⟨s3.trans k4,k4 _ _ ZQ,Ww,k4 _ _ ZP,.nil,k4 _ _ Nd,.nil,⟨[],tP.nil⟩,(λd h=>by cases h),nN,nC,nP,s2.free hL⟩;refine⟨C,rfl,⟨_,aI.of Ww⟩,?_⟩;refine cD (xs:=cs.map V.int) (λi σ H5=>∃(Pl:Addr)(us:List V)(ts:List Tr)(as:List Addr)(ds:List Dd)(y5 y6 y7 y8 y9:Option V),σ=[aP R,aP S,aP N,aP Pl,aP L,y5,y6,y7,y8,y9]/\lK K H H5 N Pl L C aa cs us ts as ds/\us.length<=i/\ds.length<=i)
  ⟨Pl,[],[],[],[],none,none,none,none,none,rfl,D4,aH _,aH _⟩ ?_ ?_ ?_
 .rintro i σ H5 _ ⟨Pl,us,ts,as,ds,y5,y6,y7,y8,y9,rfl,D5,_⟩;exact aI.of D5.hC
 .intro i x σ H5 ex jQ
  ac_nf0
  obtain⟨Pl,us,ts,as,ds,y5,y6,y7,y8,y9,rfl,D5,l5,m5⟩:=jQ;have li:=(bq.mp ex).1;rw [au] at li;rw [bh] at ex;obtain⟨c,ec,rfl⟩:=cq.mp ex;refine goN ?_
  ac_rfl
  refine⟨_,rfl,_,rfl,_,rfl,R,N,Pl,rs,aa,us,ts,rfl,D5.pd hR b_ ∅ h8 br,λDc ks H6 fD s6 e6 lk mk=>?_⟩;have D6:=D5.same s6;refine⟨_,rfl,S,ns,0,rfl,D6.s.seq hS,hn,λc0 R8=>⟨c0,rfl,λW H7 fW s7 eW=>?_⟩⟩;obtain⟨z,hz,ez⟩:=SA (zs:=gK c0) (m:=3) (by rw [sI];rfl) nofun (c / 4);refine⟨_,rfl,_,_,rfl,rfl,⟨nofun,nofun⟩,_,_,rfl,rfl,(by show (0:Int) < 3;decide),W,_,_,_,rfl,rfl,aI.of eW,ez,kc,λa ha=>?_⟩;have k8:=af ha (.tup [V.str "step",V.str z]);have va:aQ K (upd H7 a (.tup [V.str "step",V.str z])) a [.str "step",.str z]:=aQ.of ae;generalize upd H7 a (.tup [V.str "step",V.str z])=H8 at k8 va;have NF:=s7.trans k8;have D8:=D6.same NF;have e8:=NF _ _ e6;refine⟨λσ H9=>∃(a:Addr)(de:Dd),σ=[aP R,aP S,aP N,aP Pl,aP L,some (.int c),aP Dc,aP a,y8,y9]/\lK K H H9 N Pl L C aa cs us ts as ds/\H9 Dc=some (.lst (i7 ks))/\l_ K H9 a de/\tI aa de,?_,?_⟩
  .refine⟨_,rfl,_,_,rfl,rfl,(by show (0:Int) < 4;decide),rfl,_,rfl,?_⟩;refine bZ (λ_=>?_) (λ_=>?_)
   .have hp:(0:Int) < ((rs.map V.ref).length:Int):=by rw [au];omega
    refine⟨_,rfl,_,_,rfl,rfl,⟨nofun,nofun⟩,_,rfl,R,_,rfl,.inl (D8.s.seq hR),_,_,rfl,rfl,hp,kc,λu tU=>?_⟩;have eN:(((c / 4 % ((rs.map V.ref).length:Int)).toNat:Nat):Int)=c / 4 % ((rs.map V.ref).length:Int):=by
     have:=Int.emod_nonneg (c / 4) (show ((rs.map V.ref).length:Int)≠0 by omega);omega
    have lt:=Int.emod_lt_of_pos (c / 4) hp;refine⟨u,.make (c / 4 % ((rs.map V.ref).length:Int)).toNat,rfl,D8.same (af tU _),af tU _ _ _ e8,?_,?_⟩
    .have:aQ K (upd H8 u (.tup [V.str "make",V.int (c / 4 % ((rs.map V.ref).length:Int))])) u [.str "make",.int (c / 4 % ((rs.map V.ref).length:Int))]:=aQ.of ae;show aQ K _ u [.str "make",.int (((c / 4 % ((rs.map V.ref).length:Int)).toNat:Nat):Int)];rw [eN];exact this
    show (c / 4 % ((rs.map V.ref).length:Int)).toNat < aa.length;rw [au] at lt ⊢;omega
   exact⟨a,.step z,rfl,D8,e8,va,hw c0 R8 z hz⟩
  rintro σ H9 ⟨a,de,rfl,D9,e9,Xs,Ua⟩;clear va D8 e8 k8 NF ez;refine⟨λσ H9=>∃(a:Addr)(de:Dd),σ=[aP R,aP S,aP N,aP Pl,aP L,some (.int c),aP Dc,aP a,y8,y9]/\lK K H H9 N Pl L C aa cs us ts as ds/\l_ K H9 a de/\tI aa de,?_,?_⟩
  .refine⟨_,rfl,o7,λL4 VU=>?_⟩;have kA:=af VU (.lst []);have eA:upd H9 L4 (.lst []) L4=some (.lst []):=ae;generalize upd H9 L4 (.lst [])=HA at kA eA;have DA:=D9.same kA;have KA:=kA _ _ e9;have K9:=l_.keep (λ_ _ y=>kA.tup y) Xs;refine⟨Dc,L4,_,rfl,rfl,aI.of KA,aI.of eA,_,rfl,?_⟩;refine bZ (λcn=>?_) (λ_=>?_)
   .obtain⟨hp,k,hk,ek⟩:=W6 (Bx cn) (c / 4);refine⟨_,rfl,_,_,rfl,rfl,(by show (0:Int) < 4;decide),_,_,rfl,rfl,_,rfl,?_⟩;refine bZ (λ_=>?_) (λ_=>?_)
    rotate_left
    .refine⟨_,rfl,_,_,rfl,rfl,(by show (0:Int) < 4;decide),rfl,_,rfl,?_⟩;refine bZ (λ_=>?_) (λ_=>?_)
     .refine⟨_,rfl,S,ns,7,rfl,DA.s.seq hS,hn,λc7 hc7=>⟨_,_,rfl,rfl,(by show (0:Int) < 3;decide),_,_,rfl,rfl,_,rfl,?_⟩⟩;refine bZ (λ_=>?_) (λ_=>?_)
      rotate_left
      .exact⟨a,de,rfl,DA,K9,Ua⟩
      refine⟨_,rfl,_,rfl,_,_,rfl,rfl,⟨nofun,nofun⟩,_,rfl,Dc,_,rfl,.inl (aI.of KA),_,_,rfl,rfl,hp,Dc,_,_,_,rfl,rfl,aI.of KA,ek,kc,λu tU=>?_⟩;exact⟨u,.make k,rfl,DA.same (af tU _),aQ.of ae,(mk k hk).1⟩
     exact⟨a,de,rfl,DA,K9,Ua⟩
    refine⟨_,rfl,_,rfl,_,_,rfl,rfl,⟨nofun,nofun⟩,_,rfl,Dc,_,rfl,.inl (aI.of KA),_,_,rfl,rfl,hp,Dc,_,_,_,rfl,rfl,aI.of KA,ek,kc,λu tU=>?_⟩;exact⟨u,.make k,rfl,DA.same (af tU _),aQ.of ae,(mk k hk).1⟩
   exact⟨a,de,rfl,DA,K9,Ua⟩
  rintro σ HB ⟨a,de,rfl,DB,Ta,RK⟩;clear Xs D9 e9;have Ys:=aY DB.pr;refine⟨_,rfl,_,rfl,_,rfl,_,rfl,R,N,Pl,a,rs,aa,us,ts,de,rfl,DB.pd hR b_ ∅ h8 br,Ta,RK,λHA sA e=>?_,λP' HA gT fC sA e N1 Nc JZ l'=>?_⟩
  .have DA:=DB.same sA;have K9:=l_.keep (λ_ _ y=>sA.tup y) Ta;refine⟨_,rfl,_,rfl,?_⟩;refine df ?_;refine⟨_,rfl,S,ns,7,rfl,DA.s.seq hS,hn,λc7 hc7=>⟨_,_,rfl,rfl,(by show (0:Int) < 3;decide),rfl,_,rfl,?_⟩⟩;refine bZ (λ_=>?_) (λ_=>?_)
   .refine⟨_,rfl,.inl ⟨rfl,_,aI.of DA.hL⟩,_,rfl,L,_,_,rfl,rfl,DA.hL,bL (by rw [au];omega),?_⟩;have DC:=DA.push K9 RK;refine⟨_,rfl,_,rfl,_,rfl,?_⟩;refine g7 ?_;exact⟨_,rfl,q L _ _ _ DC.fL DC.s DC.hL DC.pr DC.dk (by rw [bM,fQ];omega)⟩
   refine⟨_,rfl,_,rfl,?_⟩;refine df ?_;exact⟨Pl,us,ts,as,ds,_,_,_,_,_,rfl,DA,∅,∅⟩
  have DA:=DB.same sA;have K9:=l_.keep (λ_ _ y=>sA.tup y) Ta;have Uw:P'≠L:=λz=>by rw [z,DB.hL] at N1;cases N1
  have T_:∃es,tP aa es fC:=by
   obtain⟨es,o⟩:=DB.ok;exact⟨_,o.pN RK e⟩
  refine⟨_,rfl,_,rfl,?_⟩;refine g7 ?_;refine⟨_,rfl,.inl ⟨rfl,_,aI.of DA.hL⟩,_,rfl,L,_,_,rfl,rfl,DA.hL,bL (by rw [au];omega),?_⟩;have DC:=(DA.cX Nc JZ Uw T_).push K9 RK;refine⟨_,rfl,_,rfl,_,rfl,?_⟩;refine df ?_;exact⟨P',gT,fC,_,_,_,_,_,_,_,rfl,DC,∅,by rw [bM,fQ];omega⟩
 rintro σ H5 ⟨Pl,us,ts,as,ds,y5,y6,y7,y8,y9,rfl,D5,l5,m5⟩;rw [au] at l5 m5;refine⟨20,rfl,nofun,nofun,?_⟩;refine g8 (n:=20) (λi σ H5=>∃(Pl:Addr)(us:List V)(ts:List Tr)(as:List Addr)(ds:List Dd)(y5 y6 y7 y8 y9:Option V),σ=[aP R,aP S,aP N,aP Pl,aP L,y5,y6,y7,y8,y9]/\lK K H H5 N Pl L C aa cs us ts as ds/\us.length<=40+i/\ds.length<=40+i)
  ⟨Pl,us,ts,as,ds,y5,y6,y7,y8,y9,rfl,D5,∅,∅⟩ ?_ ?_
 .intro i σ H5 hi jQ
  ac_nf0
  obtain⟨Pl,us,ts,as,ds,y5,y6,y7,y8,y9,rfl,D5,l5,m5⟩:=jQ;have Ys:=aY D5.pr;refine goN ?_
  ac_rfl
  refine⟨_,rfl,_,rfl,_,rfl,R,N,Pl,rs,aa,us,ts,rfl,D5.pd hR b_ ∅ h8 br,λDc ks H6 fD s6 e6 lk mk=>?_⟩;have D6:=D5.same s6;refine⟨_,rfl,o7,λL4 VU=>?_⟩;have kA:=af VU (.lst []);have eA:upd H6 L4 (.lst []) L4=some (.lst []):=ae;generalize upd H6 L4 (.lst [])=HA at kA eA;have DA:=D6.same kA;have KA:=kA _ _ e6;have nD:Dc≠L:=λz=>by rw [z,D5.hL] at fD;cases fD
  refine⟨Dc,L4,_,rfl,rfl,aI.of KA,aI.of eA,_,rfl,?_⟩;refine bZ (λcn=>?_) (λ_=>?_)
  .refine⟨_,rfl,Pl,_,rfl,.inl (aI.of DA.hP),_,_,rfl,rfl,_,rfl,?_⟩;refine bZ (λ_=>?_) (λ_=>?_)
   .obtain⟨k,hk,ek⟩:∃k∈ks,j9 (i7 ks) 0=some (.int (k:Int)):=by
     cases ks with
     | nil=>exact absurd rfl (Bx cn)
     | cons k r=>exact⟨k,cV,bT (j:=0) rfl⟩
    obtain⟨Hn,tL,e2⟩:=mk k hk;refine⟨_,rfl,.inl ⟨rfl,_,aI.of DA.hL⟩,_,rfl,Dc,_,_,_,rfl,rfl,aI.of KA,ek,kc,λu tU=>?_⟩;have kB:=af tU (.tup [V.str "make",V.int (k:Int)]);have vB:aQ K (upd HA u (.tup [V.str "make",V.int (k:Int)])) u [.str "make",.int (k:Int)]:=aQ.of ae;generalize upd HA u (.tup [V.str "make",V.int (k:Int)])=HB at kB vB;have DB:=DA.same kB;refine⟨L,_,_,rfl,rfl,DB.hL,bL (by rw [au];omega),?_⟩;have DC:=DB.push (a:=u) (de:=.make k) vB Hn;have vC:l_ K (upd HB L (.lst (as.map V.ref++[.ref u]))) u (.make k):=aT DB.hL vB;generalize upd HB L (.lst (as.map V.ref++[.ref u]))=HC at DC vC;have W4:j9 ((as++[u]).map V.ref) (-1)=some (.ref u):=by
     rw [bG];exact yh _ _
    refine⟨_,rfl,_,rfl,_,rfl,_,rfl,_,rfl,L,_,_,_,rfl,rfl,aI.of DC.hL,W4,?_⟩;refine⟨R,N,Pl,u,rs,aa,us,ts,.make k,rfl,DC.pd hR b_ ∅ h8 br,vC,Hn,λHD sD e=>?_,λP' HD gT fC sD e N1 Nc JZ l'=>?_⟩
    .rw [e2] at e;cases e
    have Uw:P'≠L:=λz=>by rw [z,DC.hL] at N1;cases N1
    have T_:∃es,tP aa es fC:=by
     obtain⟨es,o⟩:=DC.ok;exact⟨_,o.pN (d:=.make k) Hn e⟩
    exact⟨P',gT,fC,_,_,_,_,_,_,_,rfl,(DC.same sD).cX Nc JZ Uw T_,∅,by rw [bM,fQ];omega⟩
   exact⟨Pl,us,ts,as,ds,_,_,_,_,_,rfl,DA,∅,∅⟩
  exact⟨Pl,us,ts,as,ds,_,_,_,_,_,rfl,DA,∅,∅⟩
 rintro σ H5 ⟨Pl,us,ts,as,ds,y5,y6,y7,y8,y9,rfl,D5,l5,m5⟩;exact⟨_,rfl,q L as ds H5 D5.fL D5.s D5.hL D5.pr D5.dk ∅⟩
end
mutual
theorem GQ {K:a9}{H:Hp}:∀(t:Tr)(v v':V) (n:Nat),fV K H t v->fV K H t v'->2 * dp t<=n->uW K H n v v'
 | .w z,v,v',n,h,h',_=>by
  unfold fV at h h';subst h;subst h';exact uW.self (.inl rfl) n
 | .n k cs,v,v',n,h,h',hn=>by
  unfold fV at h h';obtain⟨a,p,vs,rfl,ha,hp,hc⟩:=h;obtain⟨a',p',yR,rfl,VL,n8,lI⟩:=h';unfold dp at hn;obtain⟨m,rfl⟩:∃m,n=m+2:=⟨n - 2,∅⟩;refine .inr ⟨a,a',_,_,rfl,rfl,.inr ⟨ha,VL⟩,.cons (uW.self (.inl rfl) _) (.cons ?_ .nil)⟩;exact .inr ⟨p,p',vs,yR,rfl,rfl,.inr ⟨hp,n8⟩,pO cs vs yR m hc lI ∅⟩
theorem pO {K:a9}{H:Hp}:∀(ts:jE)(vs yR:List V) (n:Nat),gQ K H ts vs->gQ K H ts yR->2 * DR ts<=n->Paired (uW K H n) vs yR
 | .nil,vs,yR,n,h,h',_=>by
  unfold gQ at h h';subst h;subst h';exact .nil
 | .cons t r,vs,yR,n,h,h',hn=>by
  unfold gQ at h h';obtain⟨v,us,rfl,h1,h2⟩:=h;obtain⟨v',gT,rfl,V5,V3⟩:=h';unfold DR at hn;exact .cons (GQ t v v' n h1 V5 ∅) (pO r us gT n h2 V3 ∅)
end
theorem zB:∀(ds:List Dd),(ds.flatMap Ic).length<=ds.length
 | []=>aH _
 | .step z::r=>by rw [rf,bM,dN];have:=zB r;show 1+_<=_;omega
 | .make k::r=>by rw [rf,bM,dN];have:=zB r;show 0+_<=_;omega
def Oz {A:Around}{k n:Nat}(hr:fj k A)(h:n<=16 * k+200):A.units+n < cLine:=by have:=hr.un;omega
theorem wz {K:a9}{H:Hp}:∀{as bs:List Addr}{ds:List Dd},Paired (λa d=>l_ K H a d) as ds->Paired (λa d=>l_ K H a d) bs ds->Paired (uW K H 1) (as.map V.ref) (bs.map V.ref)
 | _,_,_,.nil,.nil=>.nil
 | _,_,.step z::_,.cons a t,.cons b u=>.cons (.inr ⟨_,_,_,_,rfl,rfl,.inr ⟨a,b⟩,.cons (uW.self (.inl rfl) 0) (.cons (uW.self (.inl rfl) 0) .nil)⟩) (wz t u)
 | _,_,.make k::_,.cons a t,.cons b u=>.cons (.inr ⟨_,_,_,_,rfl,rfl,.inr ⟨a,b⟩,.cons (uW.self (.inl rfl) 0) (.cons (uW.self (.inl rfl) 0) .nil)⟩) (wz t u)
section
def Bc (K:a9)(T1 T2 T3:Addr):Sp:=λvs H Q _=>∃(a:Addr)(ns:List Int),vs=[.ref a]/\aI K H a (ns.map V.int)/\ns.length<=63/\BY T1 T2 T3 H/\∀H',Q (.bl true) H'
def xf:aK ["_law_script","_law_rules","_law_deeds_here","_law_due_here","_law_answer"] ["_law_script"] (av Ls):=ir rfl rfl rfl rfl nofun
def LY {Cg C T1 T2 T3 fG:Addr}{Zl:FuncData}(F:g_ K "law" "law" Ls f fd)(T:Txt mg)
  (GG:aB P w K mg base 61 "_law_grammar" ["_law_script","_law_at"] (Et K))(GDr:aB P w K mg base 61 "_law_drawn" ["_law_rules","_law_script"] (Bh K))(GDu:aB P w K mg base 61 "_law_due" ["_law_rules","_law_deeds_here"] (JO K))(GTo:aB P w K mg base 61 "tree_of" ["rules","deeds"] (wZ K))
  (GSt:aB P w K mg base 61 "tree_stands" ["rules","tree","name"] (A9 K))(GRo:aB P w K mg base 61 "row_of" ["tree"] (A_ K))(GDL:aB P w K mg base 61 "_law_deeds" ["_law_tree"] (rL K 61))
  (G:GC K Cg)(MG:Mk K Cg fG)(FG:bO P w K mg base fk 60 fG Zl ["self","rules","strengths"] (Bf K Cg C T1 T2 T3))(B1:Binds K Zl ["self","rules","strengths"] [.none])(mG:mg "Grammar"=some (.ref Cg)):bO P w K mg base fk 62 f fd ["_law_script"] (Bc K T1 T2 T3):=by
 refine F.ok xf (λvs H Q E h=>?_) (λdW A outer s H vs Q E hr h=>?_)
 .obtain⟨a,ns,rfl,_⟩:=h;rfl
 obtain⟨S,ns,rfl,hS,hl,hT,q⟩:=h;have U4:=u4 (fS hr);have tU:=pY (rm (by decide:1+1<=64) _) hr.units;have U3:=Oz (n:=122+1) hr nofun;refine⟨_,ai (aA (i:=1) xf.nd rfl (bx rfl) (fc (vV (dvs:=[.d7]) MG FG hr rfl mG B1 (.cons rfl .nil) uo (ab (a8 GG hr rfl (ab (pv 0) (ab ao ah))) ah)) rfl))
  (ai (aA (i:=2) xf.nd rfl (bx rfl) (aX iN (a8 GDr hr rfl (ab (pv 1) (ab (pv 0) ah))) (bc (ab (bD (ab bU ah)) ah))))
  (ai (aA (i:=3) xf.nd rfl (bx rfl) (a8 GDu hr rfl (ab (pv 1) (ab (pv 2) ah))))
  (ai (aA (i:=4) xf.nd rfl (bx rfl) (a8 GTo hr rfl (ab (bE iD rfl T.lst iU (ab (pv 1) ah)) (ab (bE iD rfl T.lst iU (ab (pv 2) ah)) ah))))
  (ai (bw (cZ (rX (pv 3))) (ak (aL (zK (rX (pv 4))))) aM)
  (ai (bw (PW.pt (ju (aV (xw 122 U3) (pv 4) (pv 3) (bu _)) (iq (gk (cY (a8 GSt hr rfl (ab (pv 1) (ab (pv 4) (ab (aF aN (aF bo (pv 1) (aF aN (pv 3) ao (λ_ _=>rfl)) (λ_ _=>rfl)) ao (λ_ _=>rfl)) ah)))))))))
   (ak (aL dI)) aM)
  (ai (bw (aV (zO U4) (a8 GRo hr rfl (ab (pv 4) ah)) (bF ["_law_deed"] [] rfl (aZ (pv 2)) (bp rfl rfl) nofun rfl nofun
    (λ_ _ _ _ _=>aq (i:=0) (show (["_law_deed"]:List Str).Nodup by decide +kernel) rfl (bx rfl)) (λ_ _ _ _ _=>hJ (aV ik (aF (qK K) (pv 0) ao (λ_ _=>rfl)) bU (bu _))) (λ_ _ _ _ _=>aF (qK K) (pv 0) ao (λ_ _=>rfl))) (bu _)) (ak (aL dI)) aM)
  (ak (aL (eQ (zP 1 tU) (aX iN (a8 GDL hr rfl (ab (pv 4) ah)) (bc (ab (bD (ab bU ah)) ah))) (pv 2) (bu _)))))))))),?_⟩
 nofun
 refine⟨_,rfl,S,ns,0,rfl,hS,∅,λc R0 rs aa H1 hc f0 s1 eR0 X0 go=>?_⟩;obtain⟨rk,bb,gd⟩:=go.good;have six:=go.six;have one:=go.one;have h8:∀ru∈aa,ru.2.length<=8:=λru h=>by have:=(go.ins ru h).2.1;omega
 have DO:aa≠[]:=λz=>by rw [z] at one;cases one
 have t1:=hT.same s1;intro g x hg hx nx;refine⟨H1,g,x,R0,.d7,rs,[],aa,[],rk,bb,rfl,(af hx _).trans (af (by rw [aj nx.symm];exact hg) _),hg,ae,aI.of eR0,X0,∅,h8,DO,.inl ⟨rfl,rfl,rfl⟩,by simp,λru h=>(by cases h),by simp,gd,t1,λbt H2 s2 t2 gv=>⟨rfl,?_⟩⟩;have k2:=Kp.of3 s2 t1;clear s2 t2;obtain⟨gx,fs,R,S2,eg,lr,_,_,_,eR,_,_,_⟩:=gv;refine⟨g,Cg,gx,fs,_,rfl,eg,G.cls,G.a1,lr,?_⟩;have XZ:=k2.aa X0;have Gk:=k2.seq (s1.seq hS);have hw:∀c0,c0=cellAt ns 0->∀z∈gK c0,z∉hd aa:=λc0 e z hz hh=>by
  obtain⟨ru,i8,er⟩:=cQ.mp (kY.mpr hh);have:=(go.ins ru i8).1;rw [show ru.1=z from er,hc,<-e] at this;exact uD c0 z this hz
 refine⟨_,rfl,_,rfl,R,S,rs,aa,ns,rfl,aI.of eR,XZ,h8,∅,one,Gk,∅,hw,λD0 as ds H3 fD0 s3 ZW T5 HN dl=>?_⟩;have Ys:=aY T5;refine⟨vk,λa0 ha0=>⟨vk,λL1 Sf=>?_⟩⟩;have k4:=(af ha0 (.tup [V.str "done"])).trans (af Sf (.lst [V.ref a0]));have GI:aQ K (upd (upd H3 a0 (.tup [V.str "done"])) L1 (.lst [V.ref a0])) a0 [.str "done"]:=(af Sf _).tup (aQ.of ae);have HL:upd (upd H3 a0 (.tup [V.str "done"])) L1 (.lst [V.ref a0]) L1=some (.lst [V.ref a0]):=ae;generalize upd (upd H3 a0 (.tup [V.str "done"])) L1 (.lst [V.ref a0])=H4 at k4 GI HL;refine⟨D0,L1,_,_,rfl,rfl,k4 _ _ ZW,HL,fits (by rw [au];show _+1<=1000000;omega),λD hD=>?_⟩;have k5:=af hD (.lst (as.map V.ref++[V.ref a0]));have Nf:upd H4 D (.lst (as.map V.ref++[V.ref a0])) D=some (.lst ((as++[a0]).map V.ref)):=by rw [ae,bG];rfl
 generalize upd H4 D (.lst (as.map V.ref++[V.ref a0]))=H5 at k5 Nf;have s5:=s3.trans (k4.trans k5);have QZ:Ol K H5 D as a0 ds:=⟨aI.of Nf,Paired.dJ T5 λ_ _ z=>l_.keep (λ_ _ y=>(k4.trans k5).tup y) z,k5.tup GI⟩;have Ss:=s5 _ _ eR;have LD:=XZ.same s5;clear HL GI ZW T5 Gk k4 k5;refine⟨_,rfl,_,rfl,R,D,rs,as,a0,aa,ds,rfl,aI.of Ss,LD,h8,∅,QZ,HN,∅,λH6 s6=>?_⟩;refine⟨λe=>?_,λt v e Xy=>?_⟩
 .refine⟨_,rfl,R,_,rfl,.inl (aI.of (s6 _ _ Ss)),λR7 VP=>?_⟩;have k7:=af VP (.lst (rs.map V.ref));have e7:upd H6 R7 (.lst (rs.map V.ref)) R7=some (.lst (rs.map V.ref)):=ae;generalize upd H6 R7 (.lst (rs.map V.ref))=H7 at k7 e7;have s7:=s6.trans k7;refine⟨_,rfl,D,_,rfl,.inl (aI.of (s7 _ _ Nf)),λD8 MM=>?_⟩;have k8:=af MM (.lst ((as++[a0]).map V.ref));have e8:upd H7 D8 (.lst ((as++[a0]).map V.ref)) D8=some (.lst ((as++[a0]).map V.ref)):=ae;generalize upd H7 D8 (.lst ((as++[a0]).map V.ref))=H8 at k8 e8;have s8:=s7.trans k8;have d8:=QZ.same s8;refine⟨R7,D8,rs,as,a0,aa,ds,rfl,k8 _ _ e7,LD.same s8,h8,∅,⟨aI.of e8,d8.pr,d8.dn⟩,HN,∅,λH9 s9=>⟨λ_=>?_,(λt v e2 _=>by rw [e] at e2;cases e2)⟩⟩;refine⟨_,rfl,_,rfl,?_⟩;refine g7 ?_;exact⟨_,rfl,q _⟩
 refine⟨_,rfl,R,_,rfl,.inl (aI.of (s6 _ _ Ss)),λR7 VP=>?_⟩;have k7:=af VP (.lst (rs.map V.ref));have e7:upd H6 R7 (.lst (rs.map V.ref)) R7=some (.lst (rs.map V.ref)):=ae;generalize upd H6 R7 (.lst (rs.map V.ref))=H7 at k7 e7;have s7:=s6.trans k7;refine⟨_,rfl,D,_,rfl,.inl (aI.of (s7 _ _ Nf)),λD8 MM=>?_⟩;have k8:=af MM (.lst ((as++[a0]).map V.ref));have e8:upd H7 D8 (.lst ((as++[a0]).map V.ref)) D8=some (.lst ((as++[a0]).map V.ref)):=ae;generalize upd H7 D8 (.lst ((as++[a0]).map V.ref))=H8 at k8 e8;have s8:=s7.trans k8;have d8:=QZ.same s8;have NF:=k7.trans k8;refine⟨R7,D8,rs,as,a0,aa,ds,rfl,k8 _ _ e7,LD.same s8,h8,∅,⟨aI.of e8,d8.pr,d8.dn⟩,HN,∅,λH9 s9=>⟨(λe2=>by rw [e] at e2;cases e2),λt2 v2 e2 Te=>?_⟩⟩;rw [e] at e2;cases e2;have XO:=NF.trans s9;have tvd:=fV.keep (λ_ _ z=>XO.tup z) t Xy;have Ir:=s8.trans s9;have d9:=QZ.same Ir;have ZO:=Ir _ _ Ss;have XY:=LD.same Ir;have eD9:=Ir _ _ Nf;clear d8 e8 e7 k7 k8 Xy QZ s7 s8 NF XO;obtain⟨k,cs,rfl,er⟩:∃k cs,t=.n k cs/\gu aa ds []=some [.n k cs]:=by
  revert e;cases gu aa ds [] with
  | none=>intro e;cases e
  | some p =>
   match p with
   | []=>intro e;cases e
   | [.w z]=>intro e;cases e
   | [.n k cs]=>intro e;cases e;exact⟨k,cs,rfl,rfl⟩
   | .w _::_::_=>intro e;cases e
   | .n _ _::_::_=>intro e;cases e
 have LS:=tP.gu (aa:=aa) tP.nil HN er;rw [mR] at LS;obtain⟨x0,YC⟩:=LS.is _ cV;have ZE:mN (.n k cs)=ds:=by
  have:=LS.dd;rw [List.flatMap_singleton] at this;exact this
 have esz:sz (.n k cs)=ds.length:=by rw [<-qO,ZE]
 have dpz:=KN (.n k cs);have VF:dp (.n k cs)<=60:=by omega
 obtain⟨bH,N4,_⟩:∃bH,aa[k]?=some (x0,bH)/\DY aa cs bH:=by
  have:=YC;unfold Is at this;exact this
 have Vu:x0∈hd aa:=kY.mp (cQ.mpr ⟨_,cg N4,rfl⟩);have Xz:=Te;have JH:=tvd;unfold fV at Xz JH;obtain⟨b1,p1,Xr,rfl,R_,hp1,hc1⟩:=Xz;obtain⟨b2,p2,Ow,rfl,Hw,oC,MA⟩:=JH;refine⟨_,rfl,_,rfl,?_⟩;refine df ?_;have VE:2 * DR cs<=121:=by
  have:dp (.n k cs)=1+DR cs:=by unfold dp;rfl
  omega
 refine⟨_,rfl,_,rfl,b1,b2,_,_,rfl,rfl,R_,Hw,.cons (uW.self (.inl rfl) _) (.cons (.inr ⟨p1,p2,Xr,Ow,rfl,rfl,.inr ⟨hp1,oC⟩,pO cs Xr Ow 121 hc1 MA VE⟩) .nil),false,rfl,?_⟩;refine df ?_;obtain⟨r,err,p,v1,v2⟩:=Paired.at_ XY k _ N4;have tO:j9 (rs.map V.ref) (k:Int)=some (.ref r):=bT (by rw [bh,err];rfl);refine⟨_,rfl,_,rfl,_,rfl,_,rfl,b2,_,_,_,rfl,rfl,Hw,rfl,R,_,_,_,rfl,rfl,aI.of ZO,tO,r,_,_,_,rfl,rfl,v1,rfl,?_⟩;refine⟨R,rs,aa,.ref b1,.n k cs,x0,true,rfl,aI.of ZO,XY,∅,Te,∅,.inr ⟨Vu,.inl ⟨YC,rfl⟩⟩,λHA sA=>⟨true,rfl,?_⟩⟩;refine df ?_;have Xx:=fV.keep (λ_ _ z=>sA.tup z) _ Te;refine⟨_,rfl,.ref b1,.n k cs,rfl,Xx,∅,λD3 HB fD3 sB Jo=>?_⟩;have XN:=sA.trans sB;have Wu:=XN _ _ eD9;have dB:=d9.same XN;have tvB:=fV.keep (λ_ _ z=>sB.tup z) _ Xx;have X4:Paired (λa d=>l_ K HB a d) as (mN (.n k cs)):=by rw [ZE];exact dB.pr
 have ldd:=qO (.n k cs);generalize ht:Tr.n k cs=t at *;refine⟨_,rfl,D,rfl,⟨_,aI.of Wu⟩,λD2 i9=>cE (xs:=(as++[a0]).map V.ref) (λk ys σ2 HC=>ys=(((mN t).take k).flatMap Ic).map V.str/\(∃y0,σ2=[y0])/\aC HB HC/\HC D2=some (.lst ys))
   ⟨rfl,⟨none,rfl⟩,af i9 _,ae⟩ (λk ys σ2 HC _ h=>?_) (λk x ys σ2 HC ex h=>?_) (λys σ2 HC h=>?_)⟩
 .obtain⟨_,_,sC,_⟩:=h;exact aI.of (sC _ _ Wu)
 .obtain⟨rfl,⟨y0,rfl⟩,sC,eC⟩:=h;rw [bh] at ex;obtain⟨ad,QT,rfl⟩:=cq.mp ex;have Sz:((((mN t).take k).flatMap Ic).map V.str).length<=1000000:=by
   rw [au];have:=zB ((mN t).take k);rw [dO] at this;omega
  refine goN ?_;by_cases ck:k < as.length
  .rw [mY ck] at QT;obtain⟨d,ed⟩:∃d,(mN t)[k]?=some d:=⟨(mN t)[k]'∅,cf ∅⟩;obtain⟨ad',QS,vd⟩:=Paired.at_ X4 k d ed;rw [QT] at QS;cases QS;have Gv:((mN t).take (k+1)).flatMap Ic=((mN t).take k).flatMap Ic++Ic d:=by
    rw [cS,ed,jY];simp
   cases d with
   | step z =>
    have vA:aQ K HC ad [.str "step",.str z]:=sC.tup vd;refine⟨_,rfl,ad,_,_,_,rfl,rfl,vA,rfl,rfl,_,rfl,?_⟩;refine g7 ?_;refine⟨_,rfl,ad,_,_,_,rfl,rfl,vA,rfl,eC,bL Sz,?_,⟨_,rfl⟩,λb o hb=>?_,ae⟩
    .rw [Gv,bG];rfl
    rw [aj (λz=>by rw [z,i9] at hb;cases hb)];exact sC b o hb
   | make k2 =>
    have vA:aQ K HC ad [.str "make",.int (k2:Int)]:=sC.tup vd;refine⟨_,rfl,ad,_,_,_,rfl,rfl,vA,rfl,rfl,_,rfl,?_⟩;refine df ?_;refine⟨?_,⟨_,rfl⟩,sC,eC⟩;rw [Gv];show _=(_++[]).map V.str;rw [iu]
  have lk:=(bq.mp QT).1;rw [bM,fQ] at lk;have ek2:k=as.length:=by omega
  subst ek2;rw [lR (aH _),oI] at QT;cases QT;have vA:aQ K HC a0 [.str "done"]:=sC.tup dB.dn;refine⟨_,rfl,a0,_,_,_,rfl,rfl,vA,rfl,rfl,_,rfl,?_⟩;refine df ?_;refine⟨?_,⟨_,rfl⟩,sC,eC⟩;rw [mV ∅,mV ∅]
 obtain⟨rfl,_,sC,eC⟩:=h;rw [au,bM,fQ,mV ∅,A3] at eC;refine⟨D3,D2,_,rfl,rfl,aI.of (sC _ _ Jo),aI.of eC,zE _,false,rfl,?_⟩;refine df ?_;have tvC:=fV.keep (λ_ _ z=>sC.tup z) t tvB;refine⟨_,rfl,.ref b1,t,rfl,tvC,∅,∅,λD4 bs HD fD4 sD KC X5=>?_⟩;refine⟨vk,λd1 wM=>⟨vk,λL6 Zf=>?_⟩⟩;have kE:=(af wM (.tup [V.str "done"])).trans (af Zf (.lst [V.ref d1]));have ZG:aQ K (upd (upd HD d1 (.tup [V.str "done"])) L6 (.lst [V.ref d1])) d1 [.str "done"]:=(af Zf _).tup (aQ.of ae);have HK:upd (upd HD d1 (.tup [V.str "done"])) L6 (.lst [V.ref d1]) L6=some (.lst [V.ref d1]):=ae;generalize upd (upd HD d1 (.tup [V.str "done"])) L6 (.lst [V.ref d1])=HE at kE ZG HK;have lbs:=aY X5;refine⟨D4,L6,_,_,rfl,rfl,kE _ _ KC,HK,fits (by rw [au];show _+1<=1000000;omega),λD7 QA=>?_⟩;have kF:=af QA (.lst (bs.map V.ref++[V.ref d1]));have e7:upd HE D7 (.lst (bs.map V.ref++[V.ref d1])) D7=some (.lst (bs.map V.ref++[V.ref d1])):=ae;generalize upd HE D7 (.lst (bs.map V.ref++[V.ref d1]))=HF at kF e7;have Yy:=kE.trans kF;have UR:=(sC.trans sD).trans Yy;have ZV:=UR _ _ Wu;rw [bG] at ZV;have pa:Paired (uW K HF 1) (bs.map V.ref) (as.map V.ref):=wz (Paired.dJ X5 λ_ _ z=>l_.keep (λ_ _ y=>Yy.tup y) z) (Paired.dJ X4 λ_ _ z=>l_.keep (λ_ _ y=>UR.tup y) z);refine⟨_,rfl,D7,D,_,_,rfl,rfl,aI.of e7,aI.of ZV,dw pa (.cons (.inr ⟨d1,a0,_,_,rfl,rfl,.inr ⟨kF.tup ZG,UR.tup dB.dn⟩,.cons (uW.self (.inl rfl) 0) .nil⟩) .nil),q _⟩
end
end gL
namespace L2
open PySem
def wJ {C:List Value->Prop}(h:∀a,C [a]):∀us:List Value,us.length=1->C us
 | [a],_=>h a
def AQ {C:List Value->Prop}(h:∀a b,C [a,b]):∀us:List Value,us.length=2->C us
 | [a,b],_=>h a b
def DI {C:List Value->Prop}(h:∀a b c,C [a,b,c]):∀us:List Value,us.length=3->C us
 | [a,b,c],_=>h a b c
def Ox {C:List Value->Prop}(h:∀a b c d,C [a,b,c,d]):∀us:List Value,us.length=4->C us
 | [a,b,c,d],_=>h a b c d
def us5 {C:List Value->Prop}(h:∀a b c d e,C [a,b,c,d,e]):∀us:List Value,us.length=5->C us
 | [a,b,c,d,e],_=>h a b c d e
def dG (K:a9)(x:Str)(st:Stmt):Prop:=∃(g:Addr)(oc:Value)(od an:Option Addr)(sl:Array (Option Value))(kV dc pm cd ct:Value),PySem.W.nsIn K mainGlobals x=some (some (.ref g)) /\
 K.lookup g=some ⟨oc,od,.func (PySem.W.fnOf x x (dF st) (cx st) (av st) .none kV dc pm an cd ct),sl⟩/\PySem.W.codeIn K cd x=true/\PySem.W.keepIn K (.ref g)=true
def dG.get {K:a9}{h:Heap}{mg:Str->Option Value}{x:Str}{st:Stmt}(X:K.In h)(G:h.Ns mainGlobals mg)(H:dG K x st):∃g gd,g_ K x x st g gd/\mg x=some (.ref g):=by
 obtain⟨g,oc,od,an,sl,kV,dc,pm,cd,ct,a,l,c,k⟩:=H;exact⟨g,_,Gp (st:=st) l c k,oM X G a⟩
def Dz (K:a9)(x:Str)(st:Stmt)(T:Addr):Prop:=∃(g:Addr)(oc:Value)(od an:Option Addr)(sl:Array (Option Value))(kV dc pm:Value)(c:Addr)(ct:Value),PySem.W.nsIn K mainGlobals x=some (some (.ref g)) /\
 K.lookup g=some ⟨oc,od,.func (PySem.W.fnOf x x (dF st) (cx st) (av st) .none kV dc pm an (.ref c) ct),sl⟩/\PySem.W.codeIn K (.ref c) x=true/\PySem.W.codeHdIn K c T=true/\PySem.W.keepIn K (.ref g)=true
def Dz.get {K:a9}{h:Heap}{mg:Str->Option Value}{x:Str}{st:Stmt}{T:Addr}(X:K.In h)(G:h.Ns mainGlobals mg)(H:Dz K x st T):∃g gd,ym K x x st g gd T/\mg x=some (.ref g):=by
 obtain⟨g,oc,od,an,sl,kV,dc,pm,c,ct,a,l,d,e,k⟩:=H;exact⟨g,_,⟨⟨oc,od,kV,dc,pm,an,c,ct,sl,rfl,l,d,e⟩,k⟩,oM X G a⟩
def ym.binds {K:a9}{x qual:Str}{st:Stmt}{f T:Addr}{fd:FuncData}{ps:List Str}(F:ym K x qual st f fd T)
  (h:∀(kV doc pm:Value)(an:Option Addr)(dW ct:Value)(us:List Value),us.length=ps.length->bindArgs (PySem.W.fnOf x qual (dF st) (cx st) (av st) .none kV doc pm an dW ct) ⟨us,[]⟩=pure (ps.zip us)):Binds K fd ps []:=by
 obtain⟨oc,od,kV,doc,pm,an,c,ct,xu,rfl,lk,wk,_⟩:=F.ex;exact .all (h kV doc pm an (.ref c) ct)
def AM (K:a9)(C:Addr)(m qual:Str)(st:Stmt):Prop:=∃(g:Addr)(oc:Value)(od an:Option Addr)(sl:Array (Option Value))(kV dc pm cd ct:Value),PySem.W.findIn K (.ref C) m=some (some (.ref g)) /\
 K.lookup g=some ⟨oc,od,.func (PySem.W.fnOf m qual (dF st) (cx st) (av st) .none kV dc pm an cd ct),sl⟩/\PySem.W.codeIn K cd qual=true/\PySem.W.keepIn K (.ref g)=true/\PySem.W.isFn K (.ref g)=true
def AM.get {K:a9}{C:Addr}{m qual:Str}{st:Stmt}(H:AM K C m qual st):∃g gd,g_ K m qual st g gd/\Meth K C m g:=by
 obtain⟨g,oc,od,an,sl,kV,dc,pm,cd,ct,a,l,c,k,i⟩:=H;exact⟨g,_,Gp (st:=st) l c k,⟨a,i,k⟩⟩
def dG.c {K:a9}{h:Heap}{mg:Str->Option Value}{x:Str}{st:Stmt}{P:Program}{w:World}{base:Heap}{k:Nat}{ps:List Str}{sp:Sp}(H:dG K x st)(X:K.In h)(G:h.Ns mainGlobals mg)
  (b:∀(kV doc pm:Value)(an:Option Addr)(dW ct:Value)(us:List Value),us.length=ps.length->bindArgs (PySem.W.fnOf x x (dF st) (cx st) (av st) .none kV doc pm an dW ct) ⟨us,[]⟩=pure (ps.zip us))
  (o:∀{f:Addr}{fd:FuncData},g_ K x x st f fd->mg x=some (.ref f)->Binds K fd ps []->bO P w K mg base fk k f fd ps sp):aB P w K mg base k x ps sp:=by
 obtain⟨f,fd,F,m⟩:=H.get X G;have B:=F.binds b;exact⟨f,fd,o F m B,B,F.kp,m⟩
def hD {K:a9}{x:Str}{st:Stmt}(g c:Addr)(pm:Value)(h:(PySem.W.nsIn K mainGlobals x,K.lookup g,PySem.W.codeIn K (.ref c) x,PySem.W.keepIn K (.ref g))=(some (some (.ref g)),some ⟨.type "function",none,.func (PySem.W.fnOf x x (dF st) (cx st) (av st) .none .none .none pm none (.ref c) .none),#[]⟩,true,true)):dG K x st:=by
 simp only [qV] at h;exact⟨g,_,_,_,_,_,_,_,_,_,h.1,h.2.1,h.2.2.1,h.2.2.2⟩
def hC {K:a9}{x:Str}{st:Stmt}{T:Addr}(g c:Addr)(pm:Value)(h:(PySem.W.nsIn K mainGlobals x,K.lookup g,PySem.W.codeIn K (.ref c) x,PySem.W.codeHdIn K c T,PySem.W.keepIn K (.ref g))=(some (some (.ref g)),some ⟨.type "function",none,.func (PySem.W.fnOf x x (dF st) (cx st) (av st) .none .none .none pm none (.ref c) .none),#[]⟩,true,true,true)):Dz K x st T:=by
 simp only [qV] at h;exact⟨g,_,_,_,_,_,_,_,c,_,h.1,h.2.1,h.2.2.1,h.2.2.2.1,h.2.2.2.2⟩
def hM {K:a9}{C:Addr}{m qual:Str}{st:Stmt}(g c:Addr)(pm:Value)(h:(PySem.W.findIn K (.ref C) m,K.lookup g,PySem.W.codeIn K (.ref c) qual,PySem.W.keepIn K (.ref g),PySem.W.isFn K (.ref g))=(some (some (.ref g)),some ⟨.type "function",none,.func (PySem.W.fnOf m qual (dF st) (cx st) (av st) .none .none .none pm none (.ref c) .none),#[]⟩,true,true,true)):AM K C m qual st:=by
 simp only [qV] at h;exact⟨g,_,_,_,_,_,_,_,_,_,h.1,h.2.1,h.2.2.1,h.2.2.2.1,h.2.2.2.2⟩
end L2
namespace gL
open PySem L2 M11
def Ny (K:a9)(C:Addr)(m qual:Str)(st:Stmt):Prop:=∃(g:Addr)(oc:Value)(od an:Option Addr)(sl:Array (Option Value))(kV dc pm cd ct:Value)(T:Addr)(o:Obj) (n:Nat),PySem.W.findIn K (.ref C) m=some (some (.ref g)) /\
 K.lookup g=some ⟨oc,od,.func (PySem.W.fnOf m qual (dF st) (cx st) (av st) (.ref T) kV dc pm an cd ct),sl⟩/\PySem.W.codeIn K cd qual=true/\K.lookup T=some o/\o.data=.seq #[.none] n/\PySem.W.keepIn K (.ref g)=true/\PySem.W.isFn K (.ref g)=true
def Ny.get {K:a9}{C:Addr}{m qual:Str}{st:Stmt}(H:Ny K C m qual st):∃g gd,Hg K m qual st g gd/\PySem.W.findIn K (.ref C) m=some (some (.ref g))/\PySem.W.isFn K (.ref g)=true:=by
 obtain⟨g,oc,od,an,sl,kV,dc,pm,cd,ct,T,o,n,a,l,c,t,d,k,i⟩:=H;exact⟨g,_,⟨⟨oc,od,kV,dc,pm,an,cd,ct,sl,T,o,n,rfl,l,c,t,d⟩,k⟩,a,i⟩
structure Top (K:a9)(C Cg C3 T1 T2 T3:Addr)(tm:Tok):Prop where
 nB:PySem.W.nsIn K mainGlobals "BeginTable"=some (some (.ref C))
 nG:PySem.W.nsIn K mainGlobals "Grammar"=some (some (.ref Cg))
 nL:PySem.W.nsIn K mainGlobals "LeastTrees"=some (some (.ref C3))
 nM:PySem.W.nsIn K mainGlobals "MOST_RULES"=some (some (.int 60 tm))
 HV:PySem.W.nsIn K mainGlobals "sorted"=some none
 SI:PySem.W.nsIn K mainGlobals "zip"=some none
 h0:dG K "heads_of" zp
 h1:dG K "numbers_by_name" EF
 h2:dG K "standings_by_part" Lq
 h3:dG K "rule_size" pj
 h4:dG K "empty_by_name" rS
 h5:dG K "words_in" zc
 h6:dG K "found_empties" rT
 h7:dG K "first_places" vL
 h8:dG K "way_back" Lo
 h9:dG K "steps_with_like_rows" zf
 h10:dG K "find_loop" EH
 h11:dG K "refuse_twice" ze
 h12:dG K "names_met" Lr
 h13:dG K "_law_cell_at" EM
 h14:dG K "_law_digits" vR
 V4:dG K "_law_names" zk
 h16:dG K "_law_words" vH
 h17:dG K "_law_more" EG
 h18:dG K "_law_skeleton" EE
 h19:dG K "_law_ended" zq
 h20:dG K "_law_good" EK
 h21:dG K "_law_grammar" EJ
 h22:dG K "is_number_below" zt
 h23:dG K "is_rule_of" vJ
 h24:dG K "is_top_of" Lp
 h25:dG K "row_of" zh
 h26:dG K "tree_stands" zg
 h27:dG K "is_child" rR
 h28:dG K "do_step" vO
 h29:dG K "do_make" vP
 h30:dG K "do_deed" vQ
 h31:dG K "tree_of" vI
 h32:dG K "_law_whole" zd
 h33:dG K "_law_piled" zi
 h34:dG K "_law_due" Lv
 h35:dG K "_law_deeds" vS
 h36:dG K "_law_can" Lw
 h37:dG K "_law_drawn" zr
 Vq:dG K "law" Ls
 Vb:dG K "settled_sizes" nF
 Vh:dG K "refuse_faults" vK
 hL:Dz K "least_sizes" rQ T1
 hG:Dz K "greatest_empty_sizes" vM T2
 hLB:Dz K "least_by_part" nH T3
 mL1:AM K C3 "__init__" "LeastTrees.__init__" zo
 mB1:AM K C "__init__" "BeginTable.__init__" zw
 mB2:AM K C "find_begins" "BeginTable.find_begins" EL
 mB3:AM K C "words_of_part" "BeginTable.words_of_part" zj
 mG1:Ny K Cg "__init__" "Grammar.__init__" vN
 pgB:PySem.W.plainGet K C Str.empty=true
 hdB:PySem.W.hasDictIn K C=true
 poB:PySem.W.plainOver K C=true
 saB:PySem.W.findIn K (.ref C) "__setattr__"=some (some (.builtin "object.__setattr__"))
 mkB:PySem.W.makesIn K C=true
 FU:PySem.W.keepIn K (.ref C)=true
 pgG:PySem.W.plainGet K Cg Str.empty=true
 hdG:PySem.W.hasDictIn K Cg=true
 poG:PySem.W.plainOver K Cg=true
 saG:PySem.W.findIn K (.ref Cg) "__setattr__"=some (some (.builtin "object.__setattr__"))
 mkG:PySem.W.makesIn K Cg=true
 kpG:PySem.W.keepIn K (.ref Cg)=true
 pgL:PySem.W.plainGet K C3 Str.empty=true
 hdL:PySem.W.hasDictIn K C3=true
 poL:PySem.W.plainOver K C3=true
 saL:PySem.W.findIn K (.ref C3) "__setattr__"=some (some (.builtin "object.__setattr__"))
 mkL:PySem.W.makesIn K C3=true
 kpL:PySem.W.keepIn K (.ref C3)=true
 AI:PySem.W.findIn K (.ref C) "empties"=some none
 G9:PySem.W.findIn K (.ref C) "empty"=some none
 Dw:PySem.W.findIn K (.ref C) "begins"=some none
 Dv:PySem.W.findIn K (.ref C) "firsts"=some none
 G5:PySem.W.findIn K (.ref C3) "rules"=some none
 G7:PySem.W.findIn K (.ref C3) "empty"=some none
 G6:PySem.W.findIn K (.ref C3) "least"=some none
 Du:PySem.W.findIn K (.ref C3) "hollow"=some none
 t_:PySem.W.findIn K (.ref C3) "beginnings"=some none
 G8:PySem.W.findIn K (.ref Cg) "rules"=some none
 wD:PySem.W.findIn K (.ref Cg) "strengths"=some none
 tE:PySem.W.findIn K (.ref Cg) "begin_table"=some none
 wF:PySem.W.findIn K (.ref Cg) "standings"=some none
 tD:PySem.W.findIn K (.ref Cg) "small_trees"=some none
 SO:PySem.W.nsIn K mainGlobals "len"=some none
 K6:PySem.W.nsIn K mainGlobals "range"=some none
 wR:PySem.W.nsIn K mainGlobals "isinstance"=some none
 K4:PySem.W.nsIn K mainGlobals "tuple"=some none
 Oo:PySem.W.nsIn K mainGlobals "list"=some none
 Oq:PySem.W.nsIn K mainGlobals "dict"=some none
 SS:PySem.W.nsIn K mainGlobals "all"=some none
 SR:PySem.W.nsIn K mainGlobals "any"=some none
 SK:PySem.W.nsIn K mainGlobals "str"=some none
 SQ:PySem.W.nsIn K mainGlobals "int"=some none
 Ot:PySem.W.nsIn K mainGlobals "bool"=some none
 yP:PySem.W.nsIn K mainGlobals "enumerate"=some none
 SJ:PySem.W.nsIn K mainGlobals "sum"=some none
 SN:PySem.W.nsIn K mainGlobals "max"=some none
 SM:PySem.W.nsIn K mainGlobals "min"=some none
def all_mk {l:PySem.W.OpenLaw}{w:World}{K:a9}{h:Heap}{mg:Str->Option Value}{fa C Cg C3 T1 T2 T3:Addr}{tm:Tok}(X:K.In h)(G:h.Ns mainGlobals mg)(hfa:mg "law"=some (.ref fa))(tp:Top K C Cg C3 T1 T2 T3 tm) :
  ∃fd:FuncData,(∀(s:Shared)(v:Value),BindsTo s fd ⟨[v],[]⟩ [("_law_script",v)])/\∀base:Heap,K.In base->base.Ns mainGlobals mg->tJ mg base->bO l.prog w K mg base fk 62 fa fd ["_law_script"] (Bc K T1 T2 T3):=by
 have T:Txt mg:=⟨hX X G tp.SO,hX X G tp.K6,hX X G tp.wR,hX X G tp.K4,hX X G tp.Oo,hX X G tp.Oq,hX X G tp.SS,hX X G tp.SR,hX X G tp.SK,hX X G tp.SQ,hX X G tp.Ot,hX X G tp.yP,hX X G tp.SJ,hX X G tp.SN,hX X G tp.SM⟩;obtain⟨Kv,KP,yn,Kb⟩:=tp.Vb.get X G;have KU:=yn.binds (ps:=["rules","sizes","better"]) λ_ _ _ _ _ _=>by exact DI λ_ _ _=>rfl
 obtain⟨QG,Q0,Hh,Pt⟩:=tp.Vh.get X G;have Q8:=Hh.binds (ps:=["rules","strengths"]) λ_ _ _ _ _ _=>by exact AQ λ_ _=>rfl
 obtain⟨f_L,d_L,Xj,m_L⟩:=tp.hL.get X G;have b_L:=Xj.binds (ps:=["rules"]) λ_ _ _ _ _ _=>by exact wJ λ_=>rfl
 obtain⟨f_G,d_G,Xk,m_G⟩:=tp.hG.get X G;have b_G:=Xk.binds (ps:=["rules"]) λ_ _ _ _ _ _=>by exact wJ λ_=>rfl
 obtain⟨V8,WD,Nz,Uz⟩:=tp.hLB.get X G;have WS:=Nz.binds (ps:=["rules"]) λ_ _ _ _ _ _=>by exact wJ λ_=>rfl
 obtain⟨Wa,aau,Rt,Pw⟩:=tp.mB1.get;have WW:=Rt.binds (ps:=["self","rules"]) λ_ _ _ _ _ _=>by exact AQ λ_ _=>rfl
 obtain⟨aao,aat,Rr,UC⟩:=tp.mB2.get;have WV:=Rr.binds (ps:=["self","number","rule"]) λ_ _ _ _ _ _=>by exact DI λ_ _ _=>rfl
 obtain⟨aan,aas,Rq,UB⟩:=tp.mB3.get;have WU:=Rq.binds (ps:=["self","part"]) λ_ _ _ _ _ _=>by exact AQ λ_ _=>rfl
 obtain⟨V9,aaq,Ro,Pu⟩:=tp.mL1.get;have WT:=Ro.binds (ps:=["self","rules","begin_table"]) λ_ _ _ _ _ _=>by exact DI λ_ _ _=>rfl
 obtain⟨V_,aar,Rp,UA,UT⟩:=tp.mG1.get;have cB:BC K C:=⟨⟨tp.pgB,tp.hdB,tp.poB,tp.saB⟩,tp.AI,tp.G9,tp.Dw,tp.Dv⟩;have cG:GC K Cg:=⟨⟨tp.pgG,tp.hdG,tp.poG,tp.saG⟩,tp.G8,tp.wD,tp.tE,tp.wF,tp.tD⟩;have cL:LC K C3:=⟨⟨tp.pgL,tp.hdL,tp.poL,tp.saL⟩,tp.G5,tp.G7,tp.G6,tp.Du,tp.t_⟩;have kL:Mk K C3 V9:=⟨tp.mkL,Pu.at_,Pu.fn,tp.kpL⟩;have kB:Mk K C Wa:=⟨tp.mkB,Pw.at_,Pw.fn,tp.FU⟩;have kG:Mk K Cg V_:=⟨tp.mkG,UA,UT,tp.kpG⟩;obtain⟨f9,d9,F9,m9⟩:=tp.Vq.get X G;have e:=hfa.symm.trans m9;cases e;obtain⟨oc,od,kV,doc,pm,an,dW,ct,xu,eL,lk,wk⟩:=F9.ex;refine⟨d9,λs v=>?_,λbase _ _ QC=>?_⟩
 .rw [eL];exact .of_eq rfl
 have c0:=tp.h0.c (P:=l.prog) (w:=w) (base:=base) X G (λ_ _ _ _ _ _=>by exact wJ λ_=>rfl) λF m B=>Fv F T;have c1:=tp.h1.c (P:=l.prog) (w:=w) (base:=base) X G (λ_ _ _ _ _ _=>by exact wJ λ_=>rfl) λF m B=>IK F T c0;have c2:=tp.h2.c (P:=l.prog) (w:=w) (base:=base) X G (λ_ _ _ _ _ _=>by exact wJ λ_=>rfl) λF m B=>LW F T;have c3:=tp.h3.c (P:=l.prog) (w:=w) (base:=base) X G (λ_ _ _ _ _ _=>by exact AQ λ_ _=>rfl) λF m B=>xx F T;have c4:=tp.h4.c (P:=l.prog) (w:=w) (base:=base) X G (λ_ _ _ _ _ _=>by exact AQ λ_ _=>rfl) λF m B=>zV F T;have c5:=tp.h5.c (P:=l.prog) (w:=w) (base:=base) X G (λ_ _ _ _ _ _=>by exact wJ λ_=>rfl) λF m B=>Fh F T;have c6:=tp.h6.c (P:=l.prog) (w:=w) (base:=base) X G (λ_ _ _ _ _ _=>by exact wJ λ_=>rfl) λF m B=>zW F T;have c7:=tp.h7.c (P:=l.prog) (w:=w) (base:=base) X G (λ_ _ _ _ _ _=>by exact AQ λ_ _=>rfl) λF m B=>Ct F T;have c8:=tp.h8.c (P:=l.prog) (w:=w) (base:=base) X G (λ_ _ _ _ _ _=>by exact DI λ_ _ _=>rfl) λF m B=>LU F T;have c9:=tp.h9.c (P:=l.prog) (w:=w) (base:=base) X G (λ_ _ _ _ _ _=>by exact wJ λ_=>rfl) λF m B=>Fm F T c6 c0;have c10:=tp.h10.c (P:=l.prog) (w:=w) (base:=base) X G (λ_ _ _ _ _ _=>by exact wJ λ_=>rfl) λF m B=>IM F T c9 c8;have c11:=tp.h11.c (P:=l.prog) (w:=w) (base:=base) X G (λ_ _ _ _ _ _=>by exact wJ λ_=>rfl) λF m B=>Fj F T;have c12:=tp.h12.c (P:=l.prog) (w:=w) (base:=base) X G (λ_ _ _ _ _ _=>by exact wJ λ_=>rfl) λF m B=>LX F T;have G0:=tp.h13.c (P:=l.prog) (w:=w) (base:=base) X G (λ_ _ _ _ _ _=>by exact AQ λ_ _=>rfl) λF m B=>IT F T;have c14:=tp.h14.c (P:=l.prog) (w:=w) (base:=base) X G (λ_ _ _ _ _ _=>by exact DI λ_ _ _=>rfl) λF m B=>Cy F T;have WM:=tp.V4.c (P:=l.prog) (w:=w) (base:=base) X G (λ_ _ _ _ _ _=>by exact wJ λ_=>rfl) λF m B=>Fs F T;have c16:=tp.h16.c (P:=l.prog) (w:=w) (base:=base) X G (λ_ _ _ _ _ _=>by exact wJ λ_=>rfl) λF m B=>Cp F T;have c17:=tp.h17.c (P:=l.prog) (w:=w) (base:=base) X G (λ_ _ _ _ _ _=>by exact us5 λ_ _ _ _ _=>rfl) λF m B=>IL F T (G0.mono nofun) (c14.mono nofun);have c18:=tp.h18.c (P:=l.prog) (w:=w) (base:=base) X G (λ_ _ _ _ _ _=>by exact Ox λ_ _ _ _=>rfl) λF m B=>IJ F T (G0.mono nofun) (c14.mono nofun);have c19:=tp.h19.c (P:=l.prog) (w:=w) (base:=base) X G (λ_ _ _ _ _ _=>by exact AQ λ_ _=>rfl) λF m B=>Fy F T;have c20:=tp.h20.c (P:=l.prog) (w:=w) (base:=base) X G (λ_ _ _ _ _ _=>by exact wJ λ_=>rfl) λF m B=>IQ F T (c19.mono nofun);have c21:=tp.h21.c (P:=l.prog) (w:=w) (base:=base) X G (λ_ _ _ _ _ _=>by exact AQ λ_ _=>rfl) λF m B=>IP F T (G0.mono nofun) (WM.mono nofun) (c16.mono nofun) (c18.mono nofun) (c17.mono nofun) (c20.mono nofun);have c22:=tp.h22.c (P:=l.prog) (w:=w) (base:=base) X G (λ_ _ _ _ _ _=>by exact AQ λ_ _=>rfl) λF m B=>FD F T;have c23:=tp.h23.c (P:=l.prog) (w:=w) (base:=base) X G (λ_ _ _ _ _ _=>by exact DI λ_ _ _=>rfl) λF m B=>Cr F T (c22.mono nofun);have c24:=tp.h24.c (P:=l.prog) (w:=w) (base:=base) X G (λ_ _ _ _ _ _=>by exact DI λ_ _ _=>rfl) λF m B=>LV F T (c23.mono nofun);have c25:=tp.h25.c (P:=l.prog) (w:=w) (base:=base) X G (λ_ _ _ _ _ _=>by exact wJ λ_=>rfl) λF m B=>Fo F T;have c26:=tp.h26.c (P:=l.prog) (w:=w) (base:=base) X G (λ_ _ _ _ _ _=>by exact DI λ_ _ _=>rfl) λF m B=>Fn F T (hX X G tp.SI) (c0.mono nofun) (c24.mono nofun);have c27:=tp.h27.c (P:=l.prog) (w:=w) (base:=base) X G (λ_ _ _ _ _ _=>by exact Ox λ_ _ _ _=>rfl) λF m B=>FA F T;have c28:=tp.h28.c (P:=l.prog) (w:=w) (base:=base) X G (λ_ _ _ _ _ _=>by exact DI λ_ _ _=>rfl) λF m B=>Cu F T;have c29:=tp.h29.c (P:=l.prog) (w:=w) (base:=base) X G (λ_ _ _ _ _ _=>by exact Ox λ_ _ _ _=>rfl) λF m B=>Cv F T (c22.mono nofun) (c27.mono nofun);have c30:=tp.h30.c (P:=l.prog) (w:=w) (base:=base) X G (λ_ _ _ _ _ _=>by exact Ox λ_ _ _ _=>rfl) λF m B=>Cw F T (c28.mono nofun) (c29.mono nofun);have c31:=tp.h31.c (P:=l.prog) (w:=w) (base:=base) X G (λ_ _ _ _ _ _=>by exact AQ λ_ _=>rfl) λF m B=>Cq F T (c0.mono nofun) (c30.mono nofun);have c32:=tp.h32.c (P:=l.prog) (w:=w) (base:=base) X G (λ_ _ _ _ _ _=>by exact wJ λ_=>rfl) λF m B=>Fi F T;have WL:=tp.h33.c (P:=l.prog) (w:=w) (base:=base) X G (λ_ _ _ _ _ _=>by exact Ox λ_ _ _ _=>rfl) λF m B=>Fp F T (c32.mono nofun);have c34:=tp.h34.c (P:=l.prog) (w:=w) (base:=base) X G (λ_ _ _ _ _ _=>by exact AQ λ_ _=>rfl) λF m B=>LZ F T (WL.mono nofun);have c35:=tp.h35.c (P:=l.prog) (w:=w) (base:=base) X G (λ_ _ _ _ _ _=>by exact wJ λ_=>rfl) λF m B=>uw F T B m 61;have c36:=tp.h36.c (P:=l.prog) (w:=w) (base:=base) X G (λ_ _ _ _ _ _=>by exact DI λ_ _ _=>rfl) λF m B=>L0 F T (WL.mono nofun);have c37:=tp.h37.c (P:=l.prog) (w:=w) (base:=base) X G (λ_ _ _ _ _ _=>by exact AQ λ_ _=>rfl) λF m B=>Fz F T (WL.mono nofun) (c36.mono nofun) (G0.mono nofun) (c16.mono nofun);have WI:aB l.prog w K mg base 2 "settled_sizes" ["rules","sizes","better"] (iI K yw sf.1 sf.2.1 sf.2.2.1 M11.bl):=⟨Kv,KP,zR yn T,KU,yn.kp,Kb⟩;have WJ:aB l.prog w K mg base 2 "settled_sizes" ["rules","sizes","better"] (iI K Kc Aa.1 Aa.2.1 Aa.2.2.1 M11.bg):=⟨Kv,KP,zS yn T,KU,yn.kp,Kb⟩;have c_L:aB l.prog w K mg base 3 "least_sizes" ["rules"] (qC K T1):=⟨f_L,d_L,Fu Xj T QC c5 WI,b_L,Xj.kp,m_L⟩;have c_G:aB l.prog w K mg base 3 "greatest_empty_sizes" ["rules"] (vw K T2):=⟨f_G,d_G,Fw Xk QC WJ,b_G,Xk.kp,m_G⟩;have Q4:aB l.prog w K mg base 4 "refuse_faults" ["rules","strengths"] (rJ K T1 T2):=⟨QG,Q0,Cs Hh T (oM X G tp.nM) c11 c_L c0 c12 c10 c_G,Q8,Hh.kp,Pt⟩;have WK:aB l.prog w K mg base 4 "least_by_part" ["rules"] (o_ K T1 T3):=⟨V8,WD,zU Nz T QC (hX X G tp.HV) (c0.mono nofun) c_L (c1.mono nofun) (c3.mono nofun),WS,Nz.kp,Uz⟩;have Ue:=Fq (P:=l.prog) (w:=w) (base:=base) Rq T cB;have Ug:=IS Rr T cB c7 Ue UB WU;have Uh:=FC Rt T cB c6 c0 Ug UC WV;have Uc:=Ft Ro T cB cL WK (c4.mono nofun);have Ud:=Fx Rp T cG (Q4.mono nofun) (c2.mono nofun) (Uh.mono nofun) kB WW (oM X G tp.nB) Uc kL WT (oM X G tp.nL);exact LY F9 T (c21.mono nofun) (c37.mono nofun) (c34.mono nofun) (c31.mono nofun) (c26.mono nofun) (c25.mono nofun) (c35.mono nofun) cG kG (Ud.mono nofun) (Gm Rp) (oM X G tp.nG)
def walk {l:PySem.W.OpenLaw}{q:Program}{loose:List Str}{XP:(Str->Option Value)->Heap->Prop}{YP:World->Heap->Prop}{d:DefRec}{K:Params->a9}(T1 T2 T3 c1 c2 c3:Addr)(J_:T1≠T2)(J3:T1≠T3)(J2:T2≠T3)(hn:l.most=some 63)(My:d.params.defaults=[])
  (hY:∀(w:World)(h:Heap),YP w h->(K w.params).In h/\∀T∈[T3,T2,T1],h.get? T=some (PySem.W.tabObj #[]))
  (hK1:∀w:World,(K w.params).lookup T1=none)(hK2:∀w:World,(K w.params).lookup T2=none)(hK3:∀w:World,(K w.params).lookup T3=none)(QB:∀w:World,PySem.W.codeHdIn (K w.params) c1 T1=true)(MP:∀w:World,PySem.W.codeHdIn (K w.params) c2 T2=true)(MO:∀w:World,PySem.W.codeHdIn (K w.params) c3 T3=true)
  (F:∀(w:World)(mg:Str->Option Value)(fa:Addr)(h:Heap),(K w.params).In h->h.Ns mainGlobals mg->mg d.name=some (.ref fa) ->
   ∃fd:FuncData,(∀(s:Shared)(u:Value),BindsTo s fd ⟨[u],[]⟩ [("_law_script",u)])/\∀base:Heap,(K w.params).In base->base.Ns mainGlobals mg->tJ mg base->bO l.prog w (K w.params) mg base fk 62 fa fd ["_law_script"] (Bc (K w.params) T1 T2 T3)) :
  PySem.W.WalkO q loose XP YP l.row.toRowW d [] (λf vs=>PySem.call f vs) :=
 L2.Ec (n:=63) (k:=62) (x := "_law_script") (CX:=λ_=>fk) (sp:=λw=>Bc (K w.params) T1 T2 T3) hn nofun My ⟨rfl,nofun,nofun⟩ hY (λw T hT=>by
  rcases cA.mp hT with e | hT
  .subst e;exact⟨hK3 w,c3,MO w⟩
  rcases cA.mp hT with e | hT
  .subst e;exact⟨hK2 w,c2,MP w⟩
  rw [bV.mp hT];exact⟨hK1 w,c1,QB w⟩) F (λ_ H a ns hl _ hT hS=>⟨a,ns,rfl,hS,hl,⟨⟨#[],hT T1 (by simp),by trivial,.inl rfl⟩,⟨#[],hT T2 (by simp),by trivial,.inl rfl⟩,⟨#[],hT T3 (by simp),by trivial,.inl rfl⟩,J_,J3,J2⟩,λ_=>rfl⟩) λ_ _ _ _ _ z=>z
end gL
set_option maxHeartbeats 0
end
namespace HD
open PySem PySem.W L2
def Tf (P:Params):gL.Top (K P) 152 414 385 295 300 329 600:=⟨nofun,nofun,nofun,nofun,nofun,nofun,
 hD 26 25 HD.m1 (nofun),
 hD 36 35 HD.m1 (nofun),
 hD 43 42 HD.m1 (nofun),
 hD 337 336 HD.m8 (nofun),
 hD 342 341 HD.m8 (nofun),
 hD 31 30 HD.m1 (nofun),
 hD 95 94 HD.m3 (nofun),
 hD 102 101 HD.m3 (nofun),
 hD 293 292 HD.m5 (nofun),
 hD 286 285 HD.m5 (nofun),
 hD 281 280 HD.m5 (nofun),
 hD 322 321 HD.m7 (nofun),
 hD 327 326 HD.m7 (nofun),
 hD 444 443 HD.lW (nofun),
 hD 463 462 HD.lW (nofun),
 hD 449 448 HD.lW (nofun),
 hD 456 455 HD.lW (nofun),
 hD 477 476 HD.lW (nofun),
 hD 470 469 HD.lW (nofun),
 hD 482 481 HD.lW (nofun),
 hD 487 486 HD.lW (nofun),
 hD 494 493 HD.lW (nofun),
 hD 57 56 HD.m1 (nofun),
 hD 50 49 HD.m1 (nofun),
 hD 437 436 HD.NL (nofun),
 hD 425 424 HD.NL (nofun),
 hD 430 429 HD.NL (nofun),
 hD 90 89 HD.m2 (nofun),
 hD 76 75 HD.m2 (nofun),
 hD 83 82 HD.m2 (nofun),
 hD 69 68 HD.m2 (nofun),
 hD 62 61 HD.m2 (nofun),
 hD 501 500 HD.lW (nofun),
 hD 508 507 HD.lW (nofun),
 hD 513 512 HD.lW (nofun),
 hD 520 519 HD.lW (nofun),
 hD 527 526 HD.lW (nofun),
 hD 532 531 HD.lW (nofun),
 hD 537 536 HD.lW (nofun),
 hD 310 309 HD.m6 (nofun),
 hD 315 314 HD.m7 (nofun),
 hC 298 297 HD.m6 (nofun),
 hC 305 304 HD.m6 (nofun),
 hC 332 331 HD.m8 (nofun),
 hM 354 353 HD.m8 (nofun),
 hM 114 113 HD.m3 (nofun),
 hM 121 120 HD.m3 (nofun),
 hM 128 127 HD.m3 (nofun),
 ⟨404,.type "function",none,none,#[],.none,.none,.str "wright.grammars" 711,.ref 403,.none,397,⟨.type "tuple",none,.seq #[.none] 0,#[]⟩,0,nofun,nofun,nofun,nofun,rfl,nofun,nofun⟩,nofun,nofun,nofun,nofun,nofun,nofun,nofun,nofun,nofun,nofun,nofun,nofun,nofun,nofun,nofun,nofun,nofun,nofun,nofun,nofun,nofun,nofun,nofun,nofun,nofun,nofun,nofun,nofun,nofun,nofun,nofun,nofun,nofun,nofun,nofun,nofun,nofun,nofun,nofun,nofun,nofun,nofun,nofun,nofun,nofun,nofun,nofun⟩
end HD
theorem PySem.Challenge.cw_wright_k69_whole_deeds_and_trees_holds : PySem.Challenge.rw_wright_k69_whole_deeds_and_trees.Holds := by
 refine HD.hold ?_ ?hw
 case hw=>w_witness2
 refine gL.walk (l:=PySem.Challenge.rw_wright_k69_whole_deeds_and_trees) (K:=HD.K) 295 300 329 297 304 331 nofun nofun nofun rfl HD.ok5 (λw h Y=>⟨PySem.W.km_in_of Y,PySem.W.km_tabs_of Y⟩) (λw=>by kernel_rfl) (λw=>by kernel_rfl) (λw=>by kernel_rfl) (λw=>by kernel_rfl) (λw=>by kernel_rfl) (λw=>by kernel_rfl) ?F;intro w mg fa h KX G Ms;exact gL.all_mk KX G Ms (HD.Tf w.params)
