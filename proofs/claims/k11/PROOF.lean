import PyProof.Rows.All
import Wide.All
import OpenK.AllK
import Wide.FinOn
import Lean
import PyProof.EqAt
import PyProof.EqKinds
import PyProof.TupleCall
import PyProof.CompFree
import PyProof.IsiH_list
import PyProof.RaisesAny
import KE.KDictOf
import PyProof.CollectWalk
import KE.KDictList
import PyProof.NeKinds
import PyProof.ConsumeWalk
import PyProof.StrBlockI
import PyProof.EnumFor
import PyProof.TupleIter
import PyProof.EnumMake
import KE.KLam
import KE.KNestM
import PyProof.DictUpdate
import PyProof.SeqI3
import PyProof.DictWalks
import PyProof.ConsumeS
import PyProof.Rows.CallKwBuiltin
import PyProof.AutoListH
import PyProof.ZipIter
import PyProof.ListNew
import KE.KRevSl
import PyProof.StrOps
import PyProof.StrOps2
import KE.KSortKey
import KE.KDictLaws
import PySem.Challenge.RW_wright_k11_grammars_kept
set_option Elab.async false
set_option linter.all false
set_option maxRecDepth 100000
namespace L2
open PySem PySem.Spec PyProof.Rows
abbrev Key:=Sum Int Str
def keyIs:Key→Value→Bool
 | .inl k,v=>Value.isInt k v
 | .inr x,v=>Value.isStrOf x v
def keyH (w:World):Key→Int
 | .inl k=>hashInt k
 | .inr x=>hashStr w x
theorem keyIs_shape:∀ {k:Key} {v:Value},keyIs k v=true→(∃ i t,k=Sum.inl i∧v=Value.int i t)∨(∃ x t,k=Sum.inr x∧v=Value.str x t)
 | .inl i,v,h=>by
  obtain ⟨t,e⟩:=Value.isInt_shape (k:=i) (v:=v) h
  exact .inl ⟨i,t,rfl,e⟩
 | .inr x,v,h=>by
  obtain ⟨t,e⟩:=Value.isStrOf_shape (x:=x) (v:=v) h
  exact .inr ⟨x,t,rfl,e⟩
theorem keyIs_int (i:Int) (t:Tok):keyIs (.inl i) (.int i t)=true:=by simp [keyIs,Value.isInt]
theorem keyIs_str (x:Str) (t:Tok):keyIs (.inr x) (.str x t)=true:=by simp [keyIs,Value.isStrOf]
theorem key_ll (a b:Int):decide ((Sum.inl a:Key)=Sum.inl b)=(a == b):=by
 by_cases e:a=b
 ·subst e; simp
 ·have h:¬ (Sum.inl a:Key)=Sum.inl b:=fun q=>e (Sum.inl.inj q)
  rw [decide_eq_false h]
  exact (beq_eq_false_iff_ne.mpr e).symm
theorem key_rr (a b:Str):decide ((Sum.inr a:Key)=Sum.inr b)=decide (a=b):=by
 by_cases e:a=b
 ·subst e; simp
 ·have h:¬ (Sum.inr a:Key)=Sum.inr b:=fun q=>e (Sum.inr.inj q)
  rw [decide_eq_false h,decide_eq_false e]
theorem key_lr (a:Int) (b:Str):decide ((Sum.inl a:Key)=Sum.inr b)=false:=decide_eq_false (fun q=>nomatch q)
theorem key_rl (a:Str) (b:Int):decide ((Sum.inr a:Key)=Sum.inl b)=false:=decide_eq_false (fun q=>nomatch q)
def mixKind (prog:Program) (w:World):PySem.KeyKind prog w Key where
 is:=keyIs
 hash:=keyH w
 inj:=fun v a b ha hb=>by
  rcases keyIs_shape ha with ⟨i,t,rfl,rfl⟩ | ⟨x,t,rfl,rfl⟩
  ·rcases keyIs_shape hb with ⟨j,u,rfl,e⟩ | ⟨y,u,rfl,e⟩
   ·injection e with e1 _; rw [e1]
   ·exact nomatch e
  ·rcases keyIs_shape hb with ⟨j,u,rfl,e⟩ | ⟨y,u,rfl,e⟩
   ·exact nomatch e
   ·injection e with e1 _; rw [e1]
 byValue:=fun k v h=>by
  rcases keyIs_shape h with ⟨i,t,rfl,rfl⟩ | ⟨x,t,rfl,rfl⟩ <;> rfl
 pyHash:=fun hv h=>by
  rcases keyIs_shape hv with ⟨i,t,rfl,rfl⟩ | ⟨x,t,rfl,rfl⟩
  ·exact wpAny_pyHash_int h
  ·exact wpAny_pyHash_str h
 eqBool:=fun hu hv h=>by
  rcases keyIs_shape hu with ⟨i,t,rfl,rfl⟩ | ⟨x,t,rfl,rfl⟩
  ·rcases keyIs_shape hv with ⟨j,u,rfl,rfl⟩ | ⟨y,u,rfl,rfl⟩
   ·rw [key_ll] at h; exact wpAny_eqBool_int h
   ·rw [key_lr] at h; exact SeqAt.EqAt.int_str i t y u _ _ _ _ h
  ·rcases keyIs_shape hv with ⟨j,u,rfl,rfl⟩ | ⟨y,u,rfl,rfl⟩
   ·rw [key_rl] at h; exact SeqAt.EqAt.str_int x t j u _ _ _ _ h
   ·rw [key_rr] at h; exact wpAny_eqBool_str h
 «strs»:=fun k x t v h=>by
  rcases keyIs_shape h with ⟨i,u,rfl,e⟩ | ⟨y,u,rfl,e⟩
  ·exact nomatch e
  ·injection e with e1 _
   subst e1
   cases v <;> rfl
theorem mixKind_int (prog:Program) (w:World) (i:Int) (t:Tok):(mixKind prog w).is (.inl i) (.int i t)=true:=keyIs_int i t
theorem mixKind_str (prog:Program) (w:World) (x:Str) (t:Tok):(mixKind prog w).is (.inr x) (.str x t)=true:=keyIs_str x t
end L2
namespace L2
open PySem PySem.Spec PyProof.Rows
inductive V where
 | non | bl (b:Bool) | int (i:Int) | str (x:Str) | byt (b:Array UInt8) | flt (b:UInt64) | ref (a:Addr) | ty (n:String)
 deriving DecidableEq
def RelV:V→Value→Prop
 | .non,u=>u=Value.none
 | .bl b,u=>u=Value.bool b
 | .int i,u=>∃ t,u=Value.int i t
 | .str x,u=>∃ t,u=Value.str x t
 | .byt b,u=>∃ t,u=Value.bytes b t
 | .flt b,u=>∃ t,u=Value.float b t
 | .ref a,u=>u=Value.ref a
 | .ty n,u=>u=Value.type n
abbrev Vals:List V→List Value→Prop:=Paired RelV
theorem Vals.length {xs:List V} {us:List Value} (r:Vals xs us):xs.length=us.length:=Paired.length r
theorem Vals.get:∀ {xs:List V} {us:List Value} {i:Nat} {x:V},Vals xs us→xs[i]?=some x→∃ u,us[i]?=some u∧RelV x u
 | _,_,_,_,.nil,e=>by simp at e
 | _,_,0,_,.cons r _,e=>by simp at e; subst e; exact ⟨_,rfl,r⟩
 | _,_,i+1,x,.cons _ t,e=>by
  obtain ⟨u,h1,h2⟩:=Vals.get (i:=i) (x:=x) t (by simpa using e)
  exact ⟨u,by simpa using h1,h2⟩
theorem Vals.set {x:V} {u:Value} (r:RelV x u):∀ {xs:List V} {us:List Value} (i:Nat),Vals xs us→Vals (xs.set i x) (us.set i u)
 | _,_,_,.nil=>.nil
 | _,_,0,.cons _ t=>.cons r t
 | _,_,i+1,.cons q t=>.cons q (Vals.set r i t)
theorem Vals.append:∀ {xs ys:List V} {us ws:List Value},Vals xs us→Vals ys ws→Vals (xs++ys) (us++ws)
 | _,_,_,_,.nil,s=>s
 | _,_,_,_,.cons r t,s=>.cons r (Vals.append t s)
theorem Vals.take:∀ {xs:List V} {us:List Value} (n:Nat),Vals xs us→Vals (xs.take n) (us.take n)
 | _,_,0,_=>.nil
 | _,_,_+1,.nil=>.nil
 | _,_,n+1,.cons r t=>.cons r (Vals.take n t)
theorem Vals.drop:∀ {xs:List V} {us:List Value} (n:Nat),Vals xs us→Vals (xs.drop n) (us.drop n)
 | _,_,0,r=>r
 | _,_,_+1,.nil=>.nil
 | _,_,n+1,.cons _ t=>Vals.drop n t
theorem Vals.none_of:∀ {xs:List V} {us:List Value} {i:Nat},Vals xs us→xs[i]?=none→us[i]?=none:=fun {xs us i} r e=>by
 have h1:=r.length
 have h2:xs.length≤i:=List.getElem?_eq_none_iff.mp e
 exact List.getElem?_eq_none_iff.mpr (by omega)
def RelO:Option V→Option Value→Prop
 | some v,some u=>RelV v u
 | none,none=>True
 | _,_=>False
def KV {κ:Type}:List (κ×V)→List (κ×Value)→Prop:=Paired fun (p:κ×V) (q:κ×Value)=>p.1=q.1∧RelV p.2 q.2
def kV:Key→V
 | .inl i=>.int i
 | .inr x=>.str x
inductive HO where
 /-- a list -/
 | lst (xs:List V)
 /-- a tuple (never changes) -/
 | tup (xs:List V)
 /-- a dict whose keys are ints and texts; one whose keys are tuples of ints and texts (the empty one is both) -/
 | dK (kvs:List (Key×V)) | dT (kvs:List (List Key×V))
 /-- a set of ints: its members,its size -/
 | set (S:Int→Bool) (n:Nat)
 /-- an instance of the class at C,its dict at dx,its attributes -/
 | ins (C dx:Addr) (fs:List (Str×V))
 /-- the dict of the instance at x -/
 | own (x:Addr)
 /-- the dict of an exception -/
 | xd (fs:List (Str×V))
 /-- a bound method,f of x -/
 | met (f x:Addr)
 /-- a range object lo,lo+1,.. below hi -/
 | rng (lo hi:Int)
 /-- a thing that is known to the object (the script; a dict while a loop walks it): read,never written while it is so -/
 | frz (o:Obj) (u:HO)
 /-- a code object's table -/
 | tbl (ps:Array Value)
 /-- any other thing,by what is true of its one object (a def of one's own: SetO a S n:=HO.ext fun h=>..) -/
 | ext (φ:Heap→Prop)
abbrev Hp:=Addr→Option HO
def upd (H:Hp) (a:Addr) (o:HO):Hp:=fun b=>if b=a then some o else H b
theorem upd_same {H:Hp} {a:Addr} {o:HO}:upd H a o a=some o:=by unfold upd; rw [if_pos rfl]
theorem upd_ne {H:Hp} {a b:Addr} {o:HO} (h:b≠a):upd H a o b=H b:=by unfold upd; rw [if_neg h]
theorem upd_upd {H:Hp} {a:Addr} {o u:HO}:upd (upd H a o) a u=upd H a u:=by
 funext b; unfold upd; split <;> rfl
theorem ne_of {H:Hp} {a b:Addr} {o u:HO} (h:H a=some o) (h':H b=some u) (d:o≠u):a≠b:=by
 intro e; subst e; rw [h] at h'; exact d (Option.some.inj h')
theorem ne_of_none {H:Hp} {a b:Addr} {o:HO} (h:H a=some o) (h':H b=none):a≠b:=by
 intro e; subst e; rw [h] at h'; cases h'
section
variable (P:Program) (w:World)
def ObjOk (H:Hp) (h:Heap) (a:Addr):HO→Prop
 | .lst xs=>xs.length≤sizeLine∧∃ (its:List Value) (n:Nat),Vals xs its∧h.get? a=some { cls:=.type "list",data:=.seq its.toArray n }
 | .tup xs=>xs.length≤sizeLine∧∃ its:List Value,Vals xs its∧IsTup h a its.toArray
 | .dK kvs=>kvs.length≤sizeLine∧(a == sysModules)=false∧∃ vs,KV kvs vs∧h.DictOf (mixKind P w) a vs
 | .dT kvs=>kvs.length≤sizeLine∧(a == sysModules)=false∧∃ xs:List (List Key×Addr×Value),
   Paired (fun (p:List Key×V) (q:List Key×Addr×Value)=>p.1=q.1∧H q.2.1=some (.tup (p.1.map kV))∧RelV p.2 q.2.2) kvs xs ∧
   ∃ o es ep,h.get? a=some o∧o.ExactDict∧o.data=.dict es ep∧es.toList=xs.map (entryOfKey (tupleKind (mixKind P w)))∧(xs.map (·.1)).Nodup
 | .set S n=>h.SetOf (intKind P w) a S n
 | .ins C dx fs=>H dx=some (.own a)∧fs.length≤1000∧dx≠a∧h.get? a=some (PySem.W.instObj C dx) ∧
   ∃ mA,h.Ns1 dx mA∧(∀ f,RelO (fs.lookup f) (mA f))∧PySem.Within mA (fs.map (·.1))
 | .own _=>∃ o,h.get? a=some o
 | .xd fs=>∃ mA,h.Ns1 a mA∧∀ f,RelO (fs.lookup f) (mA f)
 | .rng lo hi=>∃ t u v,h.get? a=some { cls:=.type "range",data:=.fields #[.int lo t,.int hi u,.int 1 v] }
 | .frz o u=>h.get? a=some o∧ObjOk H h a u
 | .tbl ps=>h.get? a=some { cls:=.none,data:=.fields ps }
 | .met f x=>h.get? a=some (PySem.W.methodObj (.ref f) (.ref x))
 | .ext φ=>φ h∧(∃ o,h.get? a=some o)∧∀ h1 h2:Heap,φ h1→(∀ o,h1.get? a=some o→h2.get? a=some o)→φ h2
def HOk (H:Hp) (h:Heap):Prop:=∀ a o,H a=some o→ObjOk P w H h a o
end
section
variable {P:Program} {w:World} {H H':Hp} {h h':Heap} {a:Addr} {o:HO}
theorem ObjOk.lt (x:ObjOk P w H h a o):a < h.objs.size:=by
 cases o with
 | lst xs=>obtain ⟨_,_,_,_,e⟩:=x; exact Heap.lt_size e
 | tup xs=>obtain ⟨_,_,_,p⟩:=x; exact p.lt
 | dK kvs=>obtain ⟨_,_,_,_,o,_,_,e,_⟩:=x; exact Heap.lt_size e
 | dT kvs=>obtain ⟨_,_,_,_,o,_,_,e,_⟩:=x; exact Heap.lt_size e
 | set S n=>obtain ⟨o,_,_,_,e,_⟩:=x; exact Heap.lt_size e
 | ins C dx fs=>obtain ⟨_,_,_,e,_⟩:=x; exact Heap.lt_size e
 | own y=>obtain ⟨_,e⟩:=x; exact Heap.lt_size e
 | xd fs=>obtain ⟨_,⟨_,_,_,e,_⟩,_⟩:=x; exact Heap.lt_size e
 | rng lo hi=>obtain ⟨_,_,_,e⟩:=x; exact Heap.lt_size e
 | frz ob u=>obtain ⟨e,_⟩:=x; exact Heap.lt_size e
 | tbl ps=>exact Heap.lt_size (show h.get? a=some _ from x)
 | met f y=>exact Heap.lt_size (show h.get? a=some _ from x)
 | ext φ=>obtain ⟨_,⟨_,e⟩,_⟩:=x; exact Heap.lt_size e
theorem Paired.mapP {α β:Type} {F G:α→β→Prop}:∀ {l₁:List α} {l₂:List β},Paired F l₁ l₂→(∀ a b,F a b→G a b)→Paired G l₁ l₂
 | _,_,.nil,_=>.nil
 | _,_,.cons r t,f=>.cons (f _ _ r) (Paired.mapP t f)
theorem ObjOk.stay (x:ObjOk P w H h a o) (k:∀ b u,(b=a∨H b=some (.own a))→h.get? b=some u→h'.get? b=some u)
  (ho:∀ b,H b=some (.own a)→H' b=some (.own a)) (ht:∀ b xs,H b=some (.tup xs)→H' b=some (.tup xs)):ObjOk P w H' h' a o:=by
 induction o with
 | lst xs=>obtain ⟨z,its,n,r,e⟩:=x; exact ⟨z,its,n,r,k _ _ (.inl rfl) e⟩
 | tup xs=>obtain ⟨z,its,r,ob,e,c⟩:=x; exact ⟨z,its,r,ob,k _ _ (.inl rfl) e,c⟩
 | dK kvs=>obtain ⟨z,y,vs,r,ob,es,ep,e,c⟩:=x; exact ⟨z,y,vs,r,ob,es,ep,k _ _ (.inl rfl) e,c⟩
 | dT kvs =>
  obtain ⟨z,y,xs,r,ob,es,ep,e,c⟩:=x
  exact ⟨z,y,xs,Paired.mapP r fun p q z=>⟨z.1,ht _ _ z.2.1,z.2.2⟩,ob,es,ep,k _ _ (.inl rfl) e,c⟩
 | set S n=>obtain ⟨ob,es,ep,t,e,c⟩:=x; exact ⟨ob,es,ep,t,k _ _ (.inl rfl) e,c⟩
 | ins C dx fs =>
  obtain ⟨d,z,ne,e,mA,⟨od,es,ep,e2,c⟩,r⟩:=x
  exact ⟨ho _ d,z,ne,k _ _ (.inl rfl) e,mA,⟨od,es,ep,k _ _ (.inr d) e2,c⟩,r⟩
 | own y=>obtain ⟨ob,e⟩:=x; exact ⟨ob,k _ _ (.inl rfl) e⟩
 | xd fs=>obtain ⟨mA,⟨od,es,ep,e,c⟩,r⟩:=x; exact ⟨mA,⟨od,es,ep,k _ _ (.inl rfl) e,c⟩,r⟩
 | rng lo hi=>obtain ⟨t,u,v,e⟩:=x; exact ⟨t,u,v,k _ _ (.inl rfl) e⟩
 | frz ob u ih=>obtain ⟨e,q⟩:=x; exact ⟨k _ _ (.inl rfl) e,ih q⟩
 | tbl ps =>
  have e:h.get? a=some { cls:=.none,data:=.fields ps }:=x
  show h'.get? a=some { cls:=.none,data:=.fields ps }
  exact k a _ (.inl rfl) e
 | met f y =>
  have e:h.get? a=some (PySem.W.methodObj (.ref f) (.ref y)):=x
  show h'.get? a=some (PySem.W.methodObj (.ref f) (.ref y))
  exact k a _ (.inl rfl) e
 | ext φ=>obtain ⟨p,⟨o,e⟩,st⟩:=x; exact ⟨st _ _ p fun o q=>k _ _ (.inl rfl) q,⟨o,k _ _ (.inl rfl) e⟩,st⟩
theorem HOk.lt (x:HOk P w H h) (e:H a=some o):a < h.objs.size:=(x a o e).lt
theorem HOk.fresh (x:HOk P w H h) (e:h.objs.size≤a):H a=none:=by
 cases q:H a with
 | none=>rfl
 | some u=>exact absurd (Nat.lt_of_lt_of_le (x.lt q) e) (Nat.lt_irrefl _)
theorem HOk.kept (x:HOk P w H h) (k:∀ b u,h.get? b=some u→h'.get? b=some u):HOk P w H h':=fun a o e =>
 (x a o e).stay (fun b u _ q=>k b u q) (fun _ q=>q) fun _ _ q=>q
theorem HOk.laid (x:HOk P w H h) (k:∀ b u,h.get? b=some u→h'.get? b=some u) (hp:h.objs.size≤a) (new:ObjOk P w (upd H a o) h' a o):HOk P w (upd H a o) h':=fun b u e=>by
 have hn:=x.fresh hp
 by_cases hb:b=a
 ·subst hb; rw [upd_same] at e; cases e; exact new
 ·rw [upd_ne hb] at e
  exact (x b u e).stay (fun c v _ q=>k c v q) (fun c q=>by rw [upd_ne (ne_of_none q hn)]; exact q) fun c xs q=>by rw [upd_ne (ne_of_none q hn)]; exact q
end
def Rd (H:Hp) (a:Addr) (u:HO):Prop:=H a=some u∨∃ o,H a=some (.frz o u)
theorem Rd.of {H:Hp} {a:Addr} {u:HO} (h:H a=some u):Rd H a u:=.inl h
theorem Rd.ok {P:Program} {w:World} {H:Hp} {h:Heap} {a:Addr} {u:HO} (r:Rd H a u) (x:HOk P w H h):ObjOk P w H h a u:=by
 rcases r with r | ⟨o,r⟩
 ·exact x a u r
 ·obtain ⟨_,q⟩:=x a _ r
  exact q
def Mut:Option HO→Prop
 | some (.lst _)=>True
 | some (.dK _)=>True
 | some (.dT _)=>True
 | some (.set _ _)=>True
 | some (.ins _ _ _)=>True
 | some (.ext _)=>True
 | _=>False
section
variable {P:Program} {w:World} {H:Hp} {h h':Heap} {x e:Addr} {o':HO}
theorem HOk.write (ok:HOk P w H h) (mu:Mut (H x)) (he:e=x∨H e=some (.own x)) (k:∀ b u,b≠e→h.get? b=some u→h'.get? b=some u) (heo:∃ u,h'.get? e=some u)
  (new:ObjOk P w (upd H x o') h' x o'):HOk P w (upd H x o') h':=fun b u q=>by
 have nown:∀ c y,H c=some (.own y)→c≠x:=fun c y r z=>by subst z; rw [r] at mu; exact mu
 have ntup:∀ c xs,H c=some (.tup xs)→c≠x:=fun c xs r z=>by subst z; rw [r] at mu; exact mu
 by_cases hb:b=x
 ·subst hb; rw [upd_same] at q; cases q; exact new
 ·rw [upd_ne hb] at q
  by_cases hbe:b=e
  ·have q':H b=some (.own x):=by
    rcases he with z | z
    ·exact absurd (hbe.trans z) hb
    ·rw [hbe]; exact z
   rw [q] at q'; cases q'
   obtain ⟨v,hv⟩:=heo
   exact ⟨v,by rw [hbe]; exact hv⟩
  ·refine (ok b u q).stay (fun c v hc r=>k c v ?_ r) (fun c r=>by rw [upd_ne (nown c b r)]; exact r) fun c xs r=>by rw [upd_ne (ntup c xs r)]; exact r
   rcases hc with rfl | hc
   ·exact hbe
   ·rintro rfl
    rcases he with z | z
    ·exact nown c b hc z
    ·rw [hc] at z; cases z; exact hb rfl
end
structure Un (fs ex:List Addr) (H H':Hp) (h h':Heap):Prop where
 keep:∀ b o,h.get? b=some o→H b=none→b∉fs→b∉ex→h'.get? b=some o
 slot:∀ b o,h.get? b=some o→H b=none→b∈fs→b∉ex→∃ sl,h'.get? b=some { o with slots:=sl }
 free:∀ b o,h.get? b=some o→H b=none→b∉ex→H' b=none
 there:∀ b o,h.get? b=some o→b∉ex→∃ o',h'.get? b=some o'
 tups:∀ b xs,H b=some (.tup xs)→H' b=some (.tup xs)
 frzs:∀ b o u,H b=some (.frz o u)→H' b=some (.frz o u)
 tbls:∀ b ps,H b=some (.tbl ps)→∃ more,H' b=some (.tbl (ps++more))
section
variable {fs fs' ex ex':List Addr} {H H1 H2:Hp} {h h1 h2 h':Heap} {a x e:Addr} {o:HO}
theorem Un.any (u:Un fs ex H H1 h h1) {b:Addr} {ob:Obj} (q:h.get? b=some ob) (n:H b=none) (hx:b∉ex):∃ sl,h1.get? b=some { ob with slots:=sl }:=by
 by_cases hb:b∈fs
 ·exact u.slot b ob q n hb hx
 ·exact ⟨ob.slots,u.keep b ob q n hb hx⟩
theorem Un.trans (a:Un fs ex H H1 h h1) (b:Un fs ex H1 H2 h1 h2):Un fs ex H H2 h h2 where
 keep:=fun c ob q n hc hx=>b.keep c ob (a.keep c ob q n hc hx) (a.free c ob q n hx) hc hx
 slot:=fun c ob q n hc hx=>by
  obtain ⟨sl,e1⟩:=a.slot c ob q n hc hx
  obtain ⟨sl',e2⟩:=b.slot c _ e1 (a.free c ob q n hx) hc hx
  exact ⟨sl',e2⟩
 free:=fun c ob q n hx=>by
  obtain ⟨o',e1⟩:=a.there c ob q hx
  exact b.free c o' e1 (a.free c ob q n hx) hx
 there:=fun c ob q hx=>by
  obtain ⟨o',e1⟩:=a.there c ob q hx
  exact b.there c o' e1 hx
 tups:=fun c xs q=>b.tups c xs (a.tups c xs q)
 frzs:=fun c ob xs q=>b.frzs c ob xs (a.frzs c ob xs q)
 tbls:=fun c ps q=>by
  obtain ⟨m1,e1⟩:=a.tbls c ps q
  obtain ⟨m2,e2⟩:=b.tbls c _ e1
  exact ⟨m1++m2,by rw [e2,Array.append_assoc]⟩
theorem Un.kept (k:∀ b u,h.get? b=some u→h'.get? b=some u):Un fs ex H H h h' :=
 ⟨fun b ob q _ _ _=>k b ob q,fun b ob q _ _ _=>⟨ob.slots,k b ob q⟩,fun _ _ _ n _=>n,fun b ob q _=>⟨ob,k b ob q⟩,fun _ _ q=>q,fun _ _ _ q=>q,fun _ ps q=>⟨#[],by rw [q]; simp⟩⟩
theorem Un.refl:Un fs ex H H h h:=Un.kept fun _ _ q=>q
theorem Un.laid (k:∀ b u,h.get? b=some u→h'.get? b=some u) (hp:h.objs.size≤a) (hn:H a=none):Un fs ex H (upd H a o) h h' where
 keep:=fun b u q _ _ _=>k b u q
 slot:=fun b u q _ _ _=>⟨u.slots,k b u q⟩
 free:=fun b u q n _=>by rw [upd_ne (Nat.ne_of_lt (Nat.lt_of_lt_of_le (Heap.lt_size q) hp))]; exact n
 there:=fun b u q _=>⟨u,k b u q⟩
 tups:=fun b xs q=>by rw [upd_ne (ne_of_none q hn)]; exact q
 frzs:=fun b u xs q=>by rw [upd_ne (ne_of_none q hn)]; exact q
 tbls:=fun b ps q=>⟨#[],by rw [upd_ne (ne_of_none q hn),q]; simp⟩
theorem Un.write (mu:Mut (H x)) (he:e=x∨H e=some (.own x)) (k:∀ b u,b≠e→h.get? b=some u→h'.get? b=some u) (heo:∃ u,h'.get? e=some u):Un fs ex H (upd H x o) h h':=by
 have hx:∀ b,H b=none→b≠x:=fun b n z=>by subst z; rw [n] at mu; exact mu
 have hb:∀ b,H b=none→b≠e:=fun b n z=>by
  subst z
  rcases he with r | r
  ·exact hx b n r
  ·rw [n] at r; cases r
 have hm:∀ b u,H b=some u→¬ Mut (some u)→b≠x:=fun b u q nm z=>by subst z; rw [q] at mu; exact nm mu
 refine ⟨fun b u q n _ _=>k b u (hb b n) q,fun b u q n _ _=>⟨u.slots,k b u (hb b n) q⟩,fun b u q n _=>by rw [upd_ne (hx b n)]; exact n,fun b u q _=>?_,
  fun b xs q=>by rw [upd_ne (hm b _ q fun z=>z)]; exact q,fun b u xs q=>by rw [upd_ne (hm b _ q fun z=>z)]; exact q,fun b ps q=>⟨#[],by rw [upd_ne (hm b _ q fun z=>z),q]; simp⟩⟩
 by_cases hbe:b=e
 ·subst hbe; exact heo
 ·exact ⟨u,k b u hbe q⟩
theorem Un.mono (u:Un fs ex H H1 h h1) (hs:∀ b∈fs,b∈fs') (hx:∀ b∈ex,b∈ex'):Un fs' ex' H H1 h h1 :=
 ⟨fun b ob q n hb he=>u.keep b ob q n (fun z=>hb (hs b z)) fun z=>he (hx b z),fun _ _ q n _ he=>u.any q n fun z=>he (hx _ z),fun b ob q n he=>u.free b ob q n fun z=>he (hx b z),fun b ob q he=>u.there b ob q fun z=>he (hx b z),u.tups,u.frzs,u.tbls⟩
end
def trk (h:Heap) (H:Hp):List Addr:=(List.range h.objs.size).filter fun a=>(H a).isSome
def hidT (h:Heap) (H:Hp):Heap:=PySem.W.hideAll h (trk h H)
theorem hidT_size (h:Heap) (H:Hp):(hidT h H).objs.size=h.objs.size:=PySem.W.hideAll_size _ _
theorem hidT_get {h:Heap} {H:Hp} {b:Addr} {o:Obj} (e:h.get? b=some o) (n:H b=none):(hidT h H).get? b=some o :=
 PySem.W.hideAll_get _ e fun hm=>by
  have q:(H b).isSome=true:=(List.mem_filter.mp hm).2
  rw [n] at q; simp at q
theorem of_hidT {h:Heap} {H:Hp} {b:Addr} {o:Obj} (e:(hidT h H).get? b=some o):h.get? b=some o∧H b=none:=by
 have e':h.get? b=some o:=PySem.W.of_hideAll (trk h H) e
 refine ⟨e',?_⟩
 cases q:H b with
 | none=>rfl
 | some x =>
  have hm:b∈trk h H:=List.mem_filter.mpr ⟨List.mem_range.mpr (Heap.lt_size e'),by simp [q]⟩
  have z:(hidT h H).get? b=none:=PySem.W.hideAll_none (trk h H) hm
  rw [z] at e; cases e
def allNews (g h:Heap) (L:Addr):List (Addr×Obj):=(List.range h.objs.size).filterMap fun a=>if a=L∨(g.get? a).isSome=true then none else (h.get? a).map fun o=>(a,o)
def rest (g h:Heap) (L d:Addr):List (Addr×Obj):=(allNews g h L).filter fun p=>decide (p.1≠d)
end L2
namespace L2
open PySem PySem.Spec PyProof.Rows
structure Mod (K:PySem.W.Frag) (mg:Str→Option Value) (base:Heap):Prop where
 kin:K.In base
 glob:base.Ns mainGlobals mg
 blt:∃ mb,base.Ns builtinsNs mb∧∀ x:Str,x ≠ "__name__" → mb x=bootBuiltins x
 nolimit:base.NoLimit
structure Cx where
 prog:Program
 w:World
 K:PySem.W.Frag
 mg:Str→Option Value
 base:Heap
 A:Around
 N:List Str
 s₀:Shared
 H₀:Hp
 env:Env
 outer:List Env
 stack:List Env
 ex:List Addr
 fn:Str→Bool
 calm:Bool
 pn:List (Addr×Obj)
 xe:Value→Shared→Prop
def frs (l:List Env):List Addr:=l.filterMap (·.frame)
abbrev Cx.fs (X:Cx):List Addr:=frs X.outer
def Vis (sc:Scope) (x:Str):Prop:=sc.names.lookup x=some .local∨sc.names.lookup x=some .cell∨sc.names.lookup x=some .free
def Loc (sc:Scope) (x:Str):Prop:=sc.names.lookup x=some .local∨sc.names.lookup x=some .cell
def Look (env:Env) (h:Heap) (m:Str→Option Value) (x:Str) (u:Value):Prop :=
 (env.kindOf x=some .local∧m x=some u)∨((env.kindOf x=some .cell∨env.kindOf x=some .free)∧∃ c,env.cells.lookup x=some c∧h.IsCell c (some u))
structure Cx.Ok (X:Cx):Prop where
 mod:Mod X.K X.mg X.base
 kind:X.env.scope.kind=.function
 glob:X.env.globals=mainGlobals
 blt:X.env.builtins=builtinsNs
 above:X.s₀.heap.objs.size≤X.env.locals
 inj:∀ x y c,X.env.cells.lookup x=some c→X.env.cells.lookup y=some c→x=y
 has:∀ x,(X.env.kindOf x=some .cell∨X.env.kindOf x=some .free)→∃ c,X.env.cells.lookup x=some c
 cab:∀ x c,X.fn x=true→X.env.cells.lookup x=some c→X.s₀.heap.objs.size≤c
 hd:X.calm=true→X.A.handled=none
 frames:X.A.frames=some X.stack
 stk:X.stack=X.outer∨(X.stack=X.env::X.outer∧X.env.frame=some X.env.locals)
 exf:∀ b∈X.ex,b≠X.env.locals∧∀ x c,X.env.cells.lookup x=some c→c≠b
 bs:∀ b o,X.base.get? b=some o→X.s₀.heap.get? b=some o∧X.H₀ b=none
 bsz:X.base.objs.size≤X.s₀.heap.objs.size
 noex:∀ b o,X.base.get? b=some o→b∉X.ex
 exfs:∀ b∈X.ex,b∉X.fs
 funs:X.s₀.heap.FunFrames X.base X.outer
 frf:∀ b∈X.fs,X.H₀ b=none
structure Inv (X:Cx) (pins:List (Addr×Obj)) (σ:List (Option V)) (H:Hp) (s:Shared):Prop where
 ok:X.Ok
 os:s.os=X.s₀.os
 bare:AllBare s.gens
 base:Un X.fs X.ex X.H₀ H X.s₀.heap s.heap
 loc:∃ m,s.heap.Ns X.env.locals m∧∀ (i:Nat) (x:Str) (v:V),X.N[i]?=some x→σ[i]?=some (some v)→Vis X.env.scope x→∃ u,RelV v u∧Look X.env s.heap m x u
 cell:∀ x c,X.env.cells.lookup x=some c→∃ v,s.heap.IsCell c v
 free:H X.env.locals=none
 freeC:∀ x c,X.env.cells.lookup x=some c→H c=none
 pin:∀ p∈X.pn++pins,s.heap.get? p.1=some p.2∧H p.1=none∧p.1≠X.env.locals∧p.1∉X.fs∧∀ v,p.2.data≠.cell v
 hok:HOk X.prog X.w H s.heap
 len:σ.length=X.N.length
section
variable {X:Cx} {pins:List (Addr×Obj)} {σ:List (Option V)} {H H':Hp} {s:Shared} {h':Heap}
theorem Cx.Ok.nofr (ok:X.Ok) {b:Addr} {o:Obj} (e:X.base.get? b=some o):b∉X.fs:=fun hb=>by
 have:=(ok.funs.mem hb).1
 rw [e] at this; cases this
theorem Inv.bs (I:Inv X pins σ H s):∀ b o,X.base.get? b=some o→s.heap.get? b=some o∧H b=none:=fun b o e =>
 ⟨I.base.keep b o (I.ok.bs b o e).1 (I.ok.bs b o e).2 (I.ok.nofr e) (I.ok.noex b o e),I.base.free b o (I.ok.bs b o e).1 (I.ok.bs b o e).2 (I.ok.noex b o e)⟩
theorem Inv.bk (I:Inv X pins σ H s):∀ b o,X.base.get? b=some o→s.heap.get? b=some o:=fun b o e=>(I.bs b o e).1
theorem Inv.mod (I:Inv X pins σ H s):Mod X.K X.mg X.base:=I.ok.mod
theorem Inv.kIn (I:Inv X pins σ H s):X.K.In s.heap:=I.ok.mod.kin.keeps I.bk
theorem Inv.nolimit (I:Inv X pins σ H s):s.heap.NoLimit:=I.ok.mod.nolimit.keeps I.bk
theorem Inv.fr (I:Inv X pins σ H s):∃ m,Fr X.base X.env.locals s.heap m :=
 let ⟨m,hn,_⟩:=I.loc
 ⟨m,hn,I.bk,Nat.le_trans I.ok.bsz I.ok.above⟩
theorem Inv.lt (I:Inv X pins σ H s):X.env.locals < s.heap.objs.size:=let ⟨_,hn,_⟩:=I.loc; hn.lt
theorem Inv.sz (I:Inv X pins σ H s):X.s₀.heap.objs.size≤s.heap.objs.size:=Nat.le_trans I.ok.above (Nat.le_of_lt I.lt)
theorem Inv.nofs (I:Inv X pins σ H s) {a:Addr} (h:s.heap.objs.size≤a):a∉X.fs:=fun hb=>by
 obtain ⟨_,o,ho,_⟩:=I.ok.funs.mem hb
 exact absurd (Nat.lt_of_lt_of_le (Heap.lt_size ho) (Nat.le_trans I.sz h)) (Nat.lt_irrefl _)
theorem Inv.cne (I:Inv X pins σ H s):∀ x c,X.env.cells.lookup x=some c→c≠X.env.locals:=fun x c e z=>by
 obtain ⟨v,o,ho,hd⟩:=I.cell x c e
 obtain ⟨m,⟨o',es,ep,ho',hd',_⟩,_⟩:=I.loc
 rw [z,ho'] at ho; cases ho; rw [hd'] at hd; cases hd
theorem Inv.funs (I:Inv X pins σ H s):s.heap.FunFrames X.base X.outer:=by
 have all:∀ (l:List Env),(∀ b∈frs l,b∈X.fs)→X.s₀.heap.FunFrames X.base l→s.heap.FunFrames X.base l:=by
  intro l
  induction l with
  | nil=>intro _ _; trivial
  | cons env r ih =>
   intro hs hl
   obtain ⟨hk,⟨L,o,hf,hn,ho,hd⟩,hr⟩:=hl
   have hL:L∈X.fs:=hs L (by unfold frs; rw [List.filterMap_cons,hf]; exact List.mem_cons_self)
   obtain ⟨sl,e⟩:=I.base.slot L o ho (I.ok.frf L hL) hL fun z=>I.ok.exfs L z hL
   exact ⟨hk,⟨L,_,hf,hn,e,hd⟩,ih (fun b hb=>hs b (by unfold frs; rw [List.filterMap_cons,hf]; exact List.mem_cons_of_mem _ hb)) hr⟩
 exact all X.outer (fun _ hb=>hb) I.ok.funs
theorem Inv.stack (I:Inv X pins σ H s):s.heap.FunFrames X.base X.stack:=by
 rcases I.ok.stk with e | ⟨e,hf⟩
 ·rw [e]; exact I.funs
 ·rw [e]
  obtain ⟨m,hn,_⟩:=I.loc
  refine .cons (by rw [I.ok.kind]; decide) hf hn ?_ I.funs
  exact Heap.get?_none_of_le (Nat.le_trans I.ok.bsz I.ok.above)
theorem Inv.stkSub (I:Inv X pins σ H s):∀ b∈frs X.stack,b∈X.env.locals::X.fs:=fun b hb=>by
 rcases I.ok.stk with e | ⟨e,hf⟩
 ·rw [e] at hb; exact List.mem_cons_of_mem _ hb
 ·rw [e] at hb
  unfold frs at hb
  rw [List.filterMap_cons,hf] at hb
  exact hb
theorem Inv.stkFree (I:Inv X pins σ H s):∀ b∈frs X.stack,H b=none:=fun b hb=>by
 rcases List.mem_cons.mp (I.stkSub b hb) with e | hb
 ·rw [e]; exact I.free
 ·obtain ⟨_,o,ho,_⟩:=I.ok.funs.mem hb
  exact I.base.free b o ho (I.ok.frf b hb) fun z=>I.ok.exfs b z hb
theorem Inv.step {g':Array GenState} {t':Nat} {d':Drawn} {ch:List Addr} (I:Inv X pins σ H s)
  (hch:∀ b∈ch,(b∈X.ex∨X.s₀.heap.objs.size≤b)∧b≠X.env.locals∧(∀ x c,X.env.cells.lookup x=some c→c≠b)∧∀ p∈X.pn++pins,p.1≠b)
  (keep:∀ b o,b≠X.env.locals→b∉X.fs→b∉ch→s.heap.get? b=some o→H b=none→h'.get? b=some o)
  (slot:∀ b o,b≠X.env.locals→b∈X.fs→b∉ch→s.heap.get? b=some o→H b=none→∃ sl,h'.get? b=some { o with slots:=sl }) (free:∀ b o,b∉ch→s.heap.get? b=some o→H b=none→H' b=none)
  (there:∀ b o,b∉ch→s.heap.get? b=some o→∃ o',h'.get? b=some o')
  (tups:∀ b xs,H b=some (.tup xs)→H' b=some (.tup xs)) (frzs:∀ b o u,H b=some (.frz o u)→H' b=some (.frz o u)) (tbls:∀ b ps,H b=some (.tbl ps)→∃ more,H' b=some (.tbl (ps++more)))
  (ns:∀ m,s.heap.Ns X.env.locals m→h'.Ns X.env.locals m) (hok:HOk X.prog X.w H' h') (hg:AllBare g') :
  Inv X pins σ H' { s with heap:=h',gens:=g',drawn:=d',toks:=t' }:=by
 have neL:∀ b o,X.s₀.heap.get? b=some o→b≠X.env.locals:=fun b o e=>Nat.ne_of_lt (Nat.lt_of_lt_of_le (Heap.lt_size e) I.ok.above)
 have neC:∀ b o,X.s₀.heap.get? b=some o→b∉X.ex→b∉ch:=fun b o e hx hb=>by
  rcases (hch b hb).1 with z | z
  ·exact hx z
  ·exact absurd (Nat.lt_of_lt_of_le (Heap.lt_size e) z) (Nat.lt_irrefl _)
 have cellK:∀ x c,X.env.cells.lookup x=some c→∀ v,s.heap.IsCell c v→h'.IsCell c v:=fun x c e v ⟨o,ho,hd⟩=>by
  have nch:c∉ch:=fun z=>(hch c z).2.2.1 x c e rfl
  by_cases hc:c∈X.fs
  ·obtain ⟨sl,q⟩:=slot c o (I.cne x c e) hc nch ho (I.freeC x c e)
   exact ⟨_,q,hd⟩
  ·exact ⟨o,keep c o (I.cne x c e) hc nch ho (I.freeC x c e),hd⟩
 refine ⟨I.ok,I.os,hg,⟨fun b o e n hb hx=>?_,fun b o e n hb hx=>?_,fun b o e n hx=>?_,fun b o e hx=>?_,fun b xs e=>tups b xs (I.base.tups b xs e),fun b o xs e=>frzs b o xs (I.base.frzs b o xs e),fun b ps e=>?_⟩,?_,fun x c e=>?_,?_,fun x c e=>?_,fun p hp=>?_,hok,I.len⟩
 ·exact keep b o (neL b o e) hb (neC b o e hx) (I.base.keep b o e n hb hx) (I.base.free b o e n hx)
 ·obtain ⟨sl,e1⟩:=I.base.slot b o e n hb hx
  obtain ⟨sl',e2⟩:=slot b _ (neL b o e) hb (neC b o e hx) e1 (I.base.free b o e n hx)
  exact ⟨sl',e2⟩
 ·obtain ⟨o',e1⟩:=I.base.there b o e hx
  exact free b o' (neC b o e hx) e1 (I.base.free b o e n hx)
 ·obtain ⟨o',e1⟩:=I.base.there b o e hx
  exact there b o' (neC b o e hx) e1
 ·obtain ⟨m1,e1⟩:=I.base.tbls b ps e
  obtain ⟨m2,e2⟩:=tbls b _ e1
  exact ⟨m1++m2,by rw [e2,Array.append_assoc]⟩
 ·obtain ⟨m,hn,hl⟩:=I.loc
  refine ⟨m,ns m hn,fun i x v e1 e2 e3=>?_⟩
  obtain ⟨u,r,l⟩:=hl i x v e1 e2 e3
  refine ⟨u,r,?_⟩
  rcases l with l | ⟨k,c,e,z⟩
  ·exact .inl l
  ·exact .inr ⟨k,c,e,cellK x c e _ z⟩
 ·obtain ⟨v,z⟩:=I.cell x c e
  exact ⟨v,cellK x c e v z⟩
 ·obtain ⟨m,⟨o,_,_,ho,_⟩,_⟩:=I.loc
  exact free _ o (fun z=>(hch _ z).2.1 rfl) ho I.free
 ·obtain ⟨v,o,ho,hd⟩:=I.cell x c e
  exact free c o (fun z=>(hch c z).2.2.1 x c e rfl) ho (I.freeC x c e)
 ·obtain ⟨e,n,ne,nf,d⟩:=I.pin p hp
  have nch:p.1∉ch:=fun z=>(hch p.1 z).2.2.2 p hp rfl
  exact ⟨keep p.1 p.2 ne nf nch e n,free p.1 p.2 nch e n,ne,nf,d⟩
theorem Inv.un {t':Nat} (I:Inv X pins σ H s) (u:Un X.fs [] H H' s.heap h') (hok:HOk X.prog X.w H' h'):Inv X pins σ H' { s with heap:=h',toks:=t' }:=by
 obtain ⟨m,⟨o,es,ep,ho,r⟩,_⟩:=id I.loc
 obtain ⟨sl,hL⟩:=u.any ho I.free (by simp)
 exact I.step (g':=s.gens) (d':=s.drawn) (ch:=[]) (fun _ z=>nomatch z) (fun b o _ hb _ e n=>u.keep b o e n hb (by simp)) (fun b o _ hb _ e n=>u.slot b o e n hb (by simp)) (fun b o _ e n=>u.free b o e n (by simp)) (fun b o _ e=>u.there b o e (by simp)) u.tups u.frzs u.tbls (fun m' hm=>by
  obtain ⟨o',es',ep',ho',r'⟩:=hm
  rw [ho] at ho'; cases ho'
  exact ⟨_,es',ep',hL,r'⟩) hok I.bare
theorem Inv.call {g':Array GenState} {t':Nat} {d':Drawn} {ch:List Addr} (I:Inv X pins σ H s) (u:Un (frs X.stack) ch H H' s.heap h') (hok:HOk X.prog X.w H' h') (hg:AllBare g')
  (hch:∀ b∈ch,(b∈X.ex∨X.s₀.heap.objs.size≤b)∧b≠X.env.locals∧(∀ x c,X.env.cells.lookup x=some c→c≠b)∧∀ p∈X.pn++pins,p.1≠b) :
  Inv X pins σ H' { s with heap:=h',gens:=g',drawn:=d',toks:=t' }:=by
 obtain ⟨m,⟨o,es,ep,ho,r⟩,_⟩:=id I.loc
 obtain ⟨sl,hL⟩:=u.any ho I.free fun z=>(hch _ z).2.1 rfl
 exact I.step (ch:=ch) hch (fun b o hL hb hc e n=>u.keep b o e n (fun z=>(List.mem_cons.mp (I.stkSub b z)).elim hL hb) hc) (fun b o _ _ hc e n=>u.any e n hc) (fun b o hc e n=>u.free b o e n hc) (fun b o hc e=>u.there b o e hc) u.tups u.frzs u.tbls (fun m' hm=>by
  obtain ⟨o',es',ep',ho',r'⟩:=hm
  rw [ho] at ho'; cases ho'
  exact ⟨_,es',ep',hL,r'⟩) hok hg
theorem Inv.turned {t':Nat} {it:Addr} (I:Inv X pins σ H s) (k:∀ b o,b≠it→s.heap.get? b=some o→h'.get? b=some o) (hn:H it=none) (hL:it≠X.env.locals)
  (h1:it∈X.ex∨X.s₀.heap.objs.size≤it) (h2:∀ x c,X.env.cells.lookup x=some c→c≠it) (h3:∀ p∈X.pn++pins,p.1≠it):Inv X pins σ H { s with heap:=h',toks:=t' }:=by
 have nit:∀ b u,H b=some u→b≠it:=fun b u e z=>by rw [z,hn] at e; cases e
 refine I.step (g':=s.gens) (d':=s.drawn) (ch:=[it]) (fun b hb=>?_) (fun b o _ _ hc e _=>k b o (fun z=>hc (by simp [z])) e) (fun b o _ _ hc e _=>⟨o.slots,k b o (fun z=>hc (by simp [z])) e⟩) (fun _ _ _ _ n=>n)
  (fun b o hc e=>⟨o,k b o (fun z=>hc (by simp [z])) e⟩) (fun _ _ e=>e) (fun _ _ _ e=>e) (fun b ps e=>⟨#[],by rw [e]; simp⟩) (fun m hm=>?_) (fun b u e=>?_) I.bare
 ·have e:b=it:=by simpa using hb
  subst e
  exact ⟨h1,hL,h2,h3⟩
 ·obtain ⟨o,es,ep,ho,r⟩:=hm
  exact ⟨o,es,ep,k _ o (Ne.symm hL) ho,r⟩
 ·refine (I.hok b u e).stay (fun c v hc q=>k c v ?_ q) (fun _ q=>q) fun _ _ q=>q
  rcases hc with z | z
  ·rw [z]; exact nit b u e
  ·exact nit c _ z
theorem Inv.tok (I:Inv X pins σ H s) (t:Nat):Inv X pins σ H { s with toks:=t }:=I.un (h':=s.heap) (t':=t) Un.refl I.hok
theorem Inv.kept {t':Nat} (I:Inv X pins σ H s) (k:∀ b u,s.heap.get? b=some u→h'.get? b=some u):Inv X pins σ H { s with heap:=h',toks:=t' }:=I.un (Un.kept k) (I.hok.kept k)
theorem Inv.laid {a:Addr} {o:HO} {t':Nat} (I:Inv X pins σ H s) (k:∀ b u,s.heap.get? b=some u→h'.get? b=some u) (hp:s.heap.objs.size≤a) (new:ObjOk X.prog X.w (upd H a o) h' a o) :
  Inv X pins σ (upd H a o) { s with heap:=h',toks:=t' }:=I.un (Un.laid k hp (I.hok.fresh hp)) (I.hok.laid k hp new)
theorem Inv.write {x e:Addr} {o:HO} {t':Nat} (I:Inv X pins σ H s) (mu:Mut (H x)) (he:e=x∨H e=some (.own x)) (k:∀ b u,b≠e→s.heap.get? b=some u→h'.get? b=some u) (heo:∃ u,h'.get? e=some u)
  (new:ObjOk X.prog X.w (upd H x o) h' x o):Inv X pins σ (upd H x o) { s with heap:=h',toks:=t' }:=I.un (Un.write mu he k heo) (I.hok.write mu he k heo new)
theorem Inv.pins_of {pins':List (Addr×Obj)} (I:Inv X pins σ H s) (h:∀ p∈pins',s.heap.get? p.1=some p.2∧H p.1=none∧p.1≠X.env.locals∧p.1∉X.fs∧∀ v,p.2.data≠.cell v):Inv X pins' σ H s :=
 ⟨I.ok,I.os,I.bare,I.base,I.loc,I.cell,I.free,I.freeC,fun p hp=>(List.mem_append.mp hp).elim (fun z=>I.pin p (List.mem_append_left _ z)) (h p),I.hok,I.len⟩
theorem nodup_ix {N:List Str} (hN:N.Nodup) {i j:Nat} {x:Str} (a:N[i]?=some x) (b:N[j]?=some x):i=j:=by
 obtain ⟨h1,e1⟩:=List.getElem?_eq_some_iff.mp a
 obtain ⟨h2,e2⟩:=List.getElem?_eq_some_iff.mp b
 exact (List.getElem_inj hN).mp (e1.trans e2.symm)
theorem store_ok2 {M:Model} {A:Around} {E:Value→Shared→Prop} {i:Nat} {x:Str} {v:V} {u:Value} {Q:Unit→Shared→Prop} (I:Inv X pins σ H s) (hN:X.N.Nodup) (hi:X.N[i]?=some x) (hx:Loc X.env.scope x) (r:RelV v u)
  (h:∀ s',Inv X pins (σ.set i (some v)) H s'→(∃ a,Heap.SameBut a s.heap s'.heap∧(a=X.env.locals∨X.env.cells.lookup x=some a))→Q () s') (hf:X.fn x=true∨X.env.scope.names.lookup x=some .local:=by first | exact .inl rfl | exact .inr rfl | assumption):wpAny M A (storeName X.env x u) Q E s:=by
 obtain ⟨m,hn,hl⟩:=id I.loc
 have hcls:(X.env.scope.kind == .class || (X.env.scope.kind == .module && X.env.locals != X.env.globals))=false:=by rw [I.ok.kind]; rfl
 have hiσ:i < σ.length:=by rw [I.len]; exact (List.getElem?_eq_some_iff.mp hi).1
 have cne:=I.cne
 have tracked:∀ {a:Addr} {h':Heap},(∃ o,s.heap.get? a=some o∧H a=none)→Heap.SameBut a s.heap h'→HOk X.prog X.w H h':=fun {a h'} ha hs b ob e=>by
  obtain ⟨_,_,hfree⟩:=ha
  refine (I.hok b ob e).stay (fun c w' hc q=>(hs.2 c ?_).trans q) (fun _ q=>q) fun _ _ q=>q
  rintro rfl
  rcases hc with rfl | hc
  ·rw [hfree] at e; cases e
  ·rw [hfree] at hc; cases hc
 rcases hx with hk | hk
 ·refine wpAny_storeName_local hk hn (fun h' hn' hs=>?_) hcls
  obtain ⟨oL,_,_,hoL,_⟩:=id hn
  refine h _ ⟨I.ok,I.os,I.bare,⟨fun b o e n hb hx=>?_,fun b o e n hb hx=>?_,I.base.free,fun b o e hx=>?_,I.base.tups,I.base.frzs,I.base.tbls⟩,⟨_,hn',fun j y v' e1 e2 e3=>?_⟩,fun y c e=>?_,I.free,I.freeC,fun p hp=>?_,tracked ⟨oL,hoL,I.free⟩ hs,by simpa using I.len⟩ ⟨_,hs,.inl rfl⟩
  ·exact (hs.2 b (Nat.ne_of_lt (Nat.lt_of_lt_of_le (Heap.lt_size e) I.ok.above))).trans (I.base.keep b o e n hb hx)
  ·obtain ⟨sl,e1⟩:=I.base.slot b o e n hb hx
   exact ⟨sl,(hs.2 b (Nat.ne_of_lt (Nat.lt_of_lt_of_le (Heap.lt_size e) I.ok.above))).trans e1⟩
  ·obtain ⟨o',e1⟩:=I.base.there b o e hx
   exact ⟨o',(hs.2 b (Nat.ne_of_lt (Nat.lt_of_lt_of_le (Heap.lt_size e) I.ok.above))).trans e1⟩
  ·by_cases hj:j=i
   ·subst hj
    rw [hi] at e1; cases e1
    rw [List.getElem?_set_self hiσ] at e2
    cases e2
    exact ⟨u,r,.inl ⟨hk,by simp⟩⟩
   ·rw [List.getElem?_set_ne (Ne.symm hj)] at e2
    obtain ⟨u',r',q⟩:=hl j y v' e1 e2 e3
    refine ⟨u',r',?_⟩
    rcases q with ⟨k,e⟩ | ⟨k,c,e,z⟩
    ·refine .inl ⟨k,?_⟩
     have:y≠x:=fun e=>hj (nodup_ix hN e1 (e ▸ hi))
     simp [this,e]
    ·exact .inr ⟨k,c,e,z.sameBut hs (cne y c e)⟩
  ·obtain ⟨w',z⟩:=I.cell y c e
   exact ⟨w',z.sameBut hs (cne y c e)⟩
  ·obtain ⟨e,n,ne,nf,d⟩:=I.pin p hp
   exact ⟨(hs.2 p.1 ne).trans e,n,ne,nf,d⟩
 ·have hfn:X.fn x=true:=by
   rcases hf with z | z
   ·exact z
   ·rw [z] at hk; cases hk
  obtain ⟨c,hc⟩:=I.ok.has x (.inl hk)
  obtain ⟨w',z⟩:=I.cell x c hc
  refine wpAny_storeName_cell I.ok.kind hk hc z (fun h' hc' hs=>?_)
  obtain ⟨oc,hoc,hocd⟩:=id z
  refine h { s with heap:=h' } ⟨I.ok,I.os,I.bare,⟨fun b o e n hb hx=>?_,fun b o e n hb hx=>?_,I.base.free,fun b o e hx=>?_,I.base.tups,I.base.frzs,I.base.tbls⟩,⟨m,hn.sameBut hs (Ne.symm (cne x c hc)),fun j y v' e1 e2 e3=>?_⟩,fun y c' e=>?_,I.free,I.freeC,fun p hp=>?_,tracked ⟨oc,hoc,I.freeC x c hc⟩ hs,by simpa using I.len⟩ ⟨c,hs,.inr hc⟩
  ·exact (hs.2 b (Nat.ne_of_lt (Nat.lt_of_lt_of_le (Heap.lt_size e) (I.ok.cab x c hfn hc)))).trans (I.base.keep b o e n hb hx)
  ·obtain ⟨sl,e1⟩:=I.base.slot b o e n hb hx
   exact ⟨sl,(hs.2 b (Nat.ne_of_lt (Nat.lt_of_lt_of_le (Heap.lt_size e) (I.ok.cab x c hfn hc)))).trans e1⟩
  ·obtain ⟨o',e1⟩:=I.base.there b o e hx
   exact ⟨o',(hs.2 b (Nat.ne_of_lt (Nat.lt_of_lt_of_le (Heap.lt_size e) (I.ok.cab x c hfn hc)))).trans e1⟩
  ·by_cases hj:j=i
   ·subst hj
    rw [hi] at e1; cases e1
    rw [List.getElem?_set_self hiσ] at e2
    cases e2
    exact ⟨u,r,.inr ⟨.inl hk,c,hc,hc'⟩⟩
   ·rw [List.getElem?_set_ne (Ne.symm hj)] at e2
    obtain ⟨u',r',q⟩:=hl j y v' e1 e2 e3
    refine ⟨u',r',?_⟩
    rcases q with q | ⟨k,c',e,z'⟩
    ·exact .inl q
    ·refine .inr ⟨k,c',e,z'.sameBut hs ?_⟩
     rintro rfl
     exact hj (nodup_ix hN e1 (I.ok.inj _ _ _ e hc ▸ hi))
  ·by_cases hcc:c'=c
   ·subst hcc; exact ⟨_,hc'⟩
   ·obtain ⟨w2,z2⟩:=I.cell y c' e
    exact ⟨w2,z2.sameBut hs hcc⟩
  ·obtain ⟨e,n,ne,nf,d⟩:=I.pin p hp
   refine ⟨(hs.2 p.1 ?_).trans e,n,ne,nf,d⟩
   intro q
   rw [q,hoc] at e
   have q':oc=p.2:=Option.some.inj e
   exact d w' (by rw [← q']; exact hocd)
theorem store_ok {M:Model} {A:Around} {E:Value→Shared→Prop} {i:Nat} {x:Str} {v:V} {u:Value} {Q:Unit→Shared→Prop} (I:Inv X pins σ H s) (hN:X.N.Nodup) (hi:X.N[i]?=some x) (hx:Loc X.env.scope x) (r:RelV v u)
  (h:∀ s',Inv X pins (σ.set i (some v)) H s'→Q () s') (hf:X.fn x=true∨X.env.scope.names.lookup x=some .local:=by first | exact .inl rfl | exact .inr rfl | assumption):wpAny M A (storeName X.env x u) Q E s :=
 store_ok2 I hN hi hx r (fun s' I' _=>h s' I') hf
theorem Inv.call' {s':Shared} {ch:List Addr} (I:Inv X pins σ H s) (ho:s'.os=s.os) (u:Un (frs X.stack) ch H H' s.heap s'.heap) (hok:HOk X.prog X.w H' s'.heap) (hg:AllBare s'.gens)
  (hch:∀ b∈ch,(b∈X.ex∨X.s₀.heap.objs.size≤b)∧b≠X.env.locals∧(∀ x c,X.env.cells.lookup x=some c→c≠b)∧∀ p∈X.pn++pins,p.1≠b):Inv X pins σ H' s':=by
 obtain ⟨h',g',d',t',o'⟩:=s'
 have e:o'=s.os:=ho
 subst e
 exact I.call (g':=g') (t':=t') (d':=d') u hok hg hch
end
abbrev XK:=Value→Option Addr→Hp→Prop
abbrev St:=List (Option V)
abbrev VK:=V→Hp→Prop
abbrev TE:=St→Hp→VK→Prop
abbrev TT:=St→Hp→(Bool→Hp→Prop)→Prop
abbrev TA:=St→Hp→(List V→Hp→Prop)→Prop
structure Ends where
 nx:St→Hp→Prop
 rt:VK
 bk:St→Hp→Prop:=fun _ _=>False
 ct:St→Hp→Prop:=fun _ _=>False
abbrev TS:=Ends→St→Hp→Prop
def EP (X:Cx) (pins:List (Addr×Obj)) (σ:St) (Q:VK) (u:Value) (s':Shared):Prop:=∃ v H',Inv X pins σ H' s'∧RelV v u∧Q v H'
def TP (X:Cx) (pins:List (Addr×Obj)) (σ:St) (Q:Bool→Hp→Prop) (b:Bool) (s':Shared):Prop:=∃ H',Inv X pins σ H' s'∧Q b H'
def AP (X:Cx) (pins:List (Addr×Obj)) (σ:St) (Q:List V→Hp→Prop) (us:List Value) (s':Shared):Prop:=∃ vs H',Inv X pins σ H' s'∧Vals vs us∧Q vs H'
def SP (X:Cx) (pins:List (Addr×Obj)) (D:Ends) (f:Flow) (s':Shared):Prop :=
 match f with
 | .next=>∃ σ' H',Inv X pins σ' H' s'∧D.nx σ' H'
 | .brk=>∃ σ' H',Inv X pins σ' H' s'∧D.bk σ' H'
 | .cont=>∃ σ' H',Inv X pins σ' H' s'∧D.ct σ' H'
 | .ret u=>∃ v σ' H',Inv X pins σ' H' s'∧RelV v u∧D.rt v H'
def PE (X:Cx) (e:Expr) (t:TE):Prop :=
 ∀ (pins:List (Addr×Obj)) (s:Shared) (σ:St) (H:Hp) (Q:VK),Inv X pins σ H s→t σ H Q→wpAny (model X.prog X.w) X.A (eval e X.env) (EP X pins σ Q) X.xe s
def PT (X:Cx) (e:Expr) (t:TT):Prop :=
 ∀ (pins:List (Addr×Obj)) (s:Shared) (σ:St) (H:Hp) (Q:Bool→Hp→Prop),Inv X pins σ H s→t σ H Q→wpAny (model X.prog X.w) X.A (isTrue e X.env (eval e X.env)) (TP X pins σ Q) X.xe s
def PW (X:Cx) (e:Expr) (t:TT):Prop :=
 ∀ (whole:Sem Value) (pins:List (Addr×Obj)) (s:Shared) (σ:St) (H:Hp) (Q:Bool→Hp→Prop),Inv X pins σ H s→t σ H Q→wpAny (model X.prog X.w) X.A (isTrue e X.env whole) (TP X pins σ Q) X.xe s
theorem PW.pt {X:Cx} {e:Expr} {t:TT} (h:PW X e t):PT X e t:=h _
def PA (X:Cx) (es:List Expr) (t:TA):Prop :=
 ∀ (pos:Pos) (pins:List (Addr×Obj)) (s:Shared) (σ:St) (H:Hp) (Q:List V→Hp→Prop),Inv X pins σ H s→t σ H Q→wpAny (model X.prog X.w) X.A (spliced (backTo pos (starEach es X.env))) (AP X pins σ Q) X.xe s
def PS (X:Cx) (st:Stmt) (t:TS):Prop :=
 ∀ (pins:List (Addr×Obj)) (s:Shared) (σ:St) (H:Hp) (D:Ends),Inv X pins σ H s→t D σ H→wpAny (model X.prog X.w) X.A (exec st X.env) (SP X pins D) X.xe s
def PSs (X:Cx) (st:List Stmt) (t:TS):Prop :=
 ∀ (pins:List (Addr×Obj)) (s:Shared) (σ:St) (H:Hp) (D:Ends),Inv X pins σ H s→t D σ H→wpAny (model X.prog X.w) X.A (execs st X.env) (SP X pins D) X.xe s
theorem thn {α:Type} {t:Sem α} {Q Q':α→Shared→Prop} {M:Model} {A:Around} {E:Value→Shared→Prop} {s:Shared} (h:wpAny M A t Q E s) (hQ:∀ a s,Q a s→Q' a s):wpAny M A t Q' E s:=wpAny_mono h hQ fun _ _ x=>x
end L2
namespace L2
open PySem PySem.Spec PyProof.Rows
section
variable {X:Cx}
theorem bin {a b:Expr} {ta tb:TE} (ha:PE X a ta) (hb:PE X b tb) {pins:List (Addr×Obj)} {s:Shared} {σ:St} {H:Hp} {R:V→V→Hp→Prop} (I:Inv X pins σ H s) (h:ta σ H fun x H1=>tb σ H1 fun y H2=>R x y H2)
  {α:Type} {Q:α→Shared→Prop} {f:Value→Value→Sem α}
  (hf:∀ v u s2 x y H2,Inv X pins σ H2 s2→RelV x v→RelV y u→R x y H2→wpAny (model X.prog X.w) X.A (f v u) Q X.xe s2) :
  wpAny (model X.prog X.w) X.A (eval a X.env) (fun v s₁=>wpAny (model X.prog X.w) X.A (eval b X.env) (fun u s₂=>wpAny (model X.prog X.w) X.A (f v u) Q X.xe s₂) X.xe s₁) X.xe s:=by
 refine thn (ha pins s σ H _ I h) fun v s1 ⟨x,H1,I1,r1,q1⟩=>?_
 refine thn (hb pins s1 σ H1 _ I1 q1) fun u s2 ⟨y,H2,I2,r2,q2⟩=>?_
 exact hf v u s2 x y H2 I2 r1 r2 q2
def tVar (i:Nat):TE:=fun σ H Q=>∃ v,σ[i]?=some (some v)∧Q v H
def tC (v:V):TE:=fun _ H Q=>Q v H
theorem pe_var {i:Nat} {x:Str} {pos:Pos} (hN:X.N[i]?=some x) (hv:Vis X.env.scope x) (hd:(x == ("__debug__":Str))=false:=by decide) (hcd:(x == ("__classdict__":Str))=false:=by decide):PE X (.Name x pos) (tVar i):=by
 intro pins s σ H Q I h
 obtain ⟨v,e,h⟩:=h
 obtain ⟨m,hn,hl⟩:=I.loc
 obtain ⟨u,r,l⟩:=hl i x v hN e hv
 have fin:EP X pins σ Q u s:=⟨v,H,I,r,h⟩
 rcases l with ⟨hk,hm⟩ | ⟨hk,c,hc,hcell⟩
 ·exact wpAny_Name (wpAny_loadName_local I.ok.kind hk hn hm fin) hd
 ·rcases hk with hk | hk
  ·exact wpAny_Name (wpAny_loadName_cell I.ok.kind hk hc hcell fin) hd
  ·exact wpAny_Name (wpAny_loadName_free I.ok.kind hk hc hcell fin hcd) hd
theorem pe_int {i j pos}:PE X (.Constant (.int i) j pos) (tC (.int i)):=fun _ _ _ H _ I h=>wpAny_Constant_int ⟨.int i,H,I.tok _,⟨_,rfl⟩,h⟩
theorem pe_bl {b j pos}:PE X (.Constant (.bool b) j pos) (tC (.bl b)):=fun _ _ _ H _ I h=>Constant_bool ⟨.bl b,H,I,rfl,h⟩
theorem pe_non {j pos}:PE X (.Constant .none j pos) (tC .non):=fun _ _ _ H _ I h=>Constant_none ⟨.non,H,I,rfl,h⟩
theorem pe_str {x j pos}:PE X (.Constant (.str x) j pos) (tC (.str x)):=fun _ _ _ H _ I h=>Calls.Constant_str ⟨.str x,H,I.tok _,⟨_,rfl⟩,h⟩
def Gl (X:Cx) (x:Str):Prop:=X.env.kindOf x=some .globalImplicit
theorem ld_glob {E:Value→Shared→Prop} {pins:List (Addr×Obj)} {s:Shared} {σ:St} {H:Hp} {x:Str} {u:Value} {pos:Pos} {Q:Value→Shared→Prop} (I:Inv X pins σ H s) (hg:Gl X x) (hm:X.mg x=some u) (h:Q u s)
  (hd:(x == ("__debug__":Str))=false:=by decide):wpAny (model X.prog X.w) X.A (eval (.Name x pos) X.env) Q E s :=
 Calls.Name_function_global I.ok.kind hg (Calls.loadGlobal_global (by rw [I.ok.glob]; exact I.mod.glob.keeps I.bk) hm h) hd
theorem ld_blt {E:Value→Shared→Prop} {pins:List (Addr×Obj)} {s:Shared} {σ:St} {H:Hp} {x:Str} {u:Value} {pos:Pos} {Q:Value→Shared→Prop} (I:Inv X pins σ H s) (hg:Gl X x) (hm:X.mg x=none) (hv:bootBuiltins x=some u) (h:Q u s)
  (hn:x ≠ "__name__" := by decide) (hd:(x == ("__debug__":Str))=false:=by decide):wpAny (model X.prog X.w) X.A (eval (.Name x pos) X.env) Q E s:=by
 obtain ⟨mb,h1,h2⟩:=I.mod.blt
 exact Calls.Name_function_global I.ok.kind hg (Calls.loadGlobal_builtin (by rw [I.ok.glob]; exact I.mod.glob.keeps I.bk) hm (by rw [I.ok.blt]; exact h1.keeps I.bk) ((h2 x hn).trans hv) h) hd
theorem pe_glob {x:Str} {v:V} {u:Value} {pos:Pos} (hg:Gl X x) (hm:X.mg x=some u) (r:RelV v u) (hd:(x == ("__debug__":Str))=false:=by decide):PE X (.Name x pos) (tC v) :=
 fun _ _ _ H _ I h=>ld_glob I hg hm ⟨v,H,I,r,h⟩ hd
theorem pe_bltn {x:Str} {v:V} {u:Value} {pos:Pos} (hg:Gl X x) (hm:X.mg x=none) (hv:bootBuiltins x=some u) (r:RelV v u) (hn:x ≠ "__name__" := by decide) (hd:(x == ("__debug__":Str))=false:=by decide):PE X (.Name x pos) (tC v) :=
 fun _ _ _ H _ I h=>ld_blt I hg hm hv ⟨v,H,I,r,h⟩ hn hd
variable {a b:Expr} {ta tb:TE} {pos:Pos}
def PC (X:Cx) (op:CmpOp) (a b:Expr) (t:TE):Prop :=
 ∀ (pins:List (Addr×Obj)) (s:Shared) (σ:St) (H:Hp) (Q:VK),Inv X pins σ H s→t σ H Q →
  wpAny (model X.prog X.w) X.A (eval a X.env) (fun v s₁=>wpAny (model X.prog X.w) X.A (eval b X.env) (fun u s₂=>wpAny (model X.prog X.w) X.A (compareOp op v u) (EP X pins σ Q) X.xe s₂) X.xe s₁) X.xe s
theorem nobehind (b:Expr) {op:CmpOp} (h:op≠.In) (h2:op≠.NotIn):behindInMarks op b=false:=by
 have e1:(op == CmpOp.In)=false:=by cases op <;> first | rfl | exact absurd rfl h
 have e2:(op == CmpOp.NotIn)=false:=by cases op <;> first | rfl | exact absurd rfl h2
 cases b <;> simp [behindInMarks,e1,e2]
def tIsN (ta:TE):TE:=fun σ H Q=>ta σ H fun x H1=>Q (.bl (decide (x=.non))) H1
theorem RelV.none_iff {x:V} {v:Value} (r:RelV x v):(v == Value.none)=decide (x=.non):=by
 cases x with
 | non=>cases r; rfl
 | bl _=>cases r; rfl
 | int _=>obtain ⟨t,rfl⟩:=r; rfl
 | str _=>obtain ⟨t,rfl⟩:=r; rfl
 | byt _=>obtain ⟨t,rfl⟩:=r; rfl
 | flt _=>obtain ⟨t,rfl⟩:=r; rfl
 | ref _=>cases r; rfl
 | ty _=>cases r; rfl
theorem pc_isN {j pos'} (ha:PE X a ta):PC X .Is a (.Constant .none j pos') (tIsN ta):=by
 intro pins s σ H Q I h
 refine thn (ha pins s σ H _ I h) fun v s1 ⟨x,H1,I1,r1,q1⟩=>?_
 exact Constant_none (is_none_gen ⟨.bl _,H1,I1,by rw [r1.none_iff]; rfl,q1⟩)
def tB (t:TE):TT:=fun σ H Q=>t σ H fun x H1=>∃ c,x=.bl c∧Q c H1
theorem pe_cmp {op:CmpOp} {t:TE} (h:PC X op a b t) (h1:behindInMarks op b=false:=by first | exact nobehind _ (by decide) (by decide) | rfl):PE X (.Compare a [op] [b] pos) t:=fun pins s σ H Q I hw=>wpAny_Compare1 (h pins s σ H Q I hw) h1
theorem pt_cmp {op:CmpOp} {t:TE} (h:PC X op a b t) (h1:behindInMarks op b=false:=by first | exact nobehind _ (by decide) (by decide) | rfl):PT X (.Compare a [op] [b] pos) (tB t):=by
 intro pins s σ H Q I hw
 refine wpAny_isTrue_Compare1 (thn (h pins s σ H _ I hw) fun v s1 h1=>thn h1 fun u s2 h2=>thn h2 fun c s3 ⟨x,H1,I1,r1,q1⟩=>?_) h1
 obtain ⟨d,rfl,q⟩:=q1
 cases r1
 exact wpAny_truthy_bool ⟨H1,I1,q⟩
theorem pt_val {e:Expr} {t:TE} (h:PE X e t) (he:∀ whole,isTrue e X.env whole=(do let v ← whole; standAt e.pos; holding [v] (truthy v)):=by intro _; rfl):PT X e (tB t):=by
 intro pins s σ H Q I hw
 refine isTrue_plain (thn (h pins s σ H _ I hw) fun v s1 ⟨x,H1,I1,r1,q1⟩=>?_) (he _)
 obtain ⟨d,rfl,q⟩:=q1
 cases r1
 exact wpAny_truthy_bool ⟨H1,I1,q⟩
variable {tA tB':TT} {rest:List Expr}
def tAnd (t u:TT):TT:=fun σ H Q=>t σ H fun c H1=>if c=true then u σ H1 Q else Q false H1
def tOr (t u:TT):TT:=fun σ H Q=>t σ H fun c H1=>if c=true then Q true H1 else u σ H1 Q
def tNot (t:TT):TT:=fun σ H Q=>t σ H fun c H1=>Q (!c) H1
theorem pw_and1 (ha:PT X a tA):PW X (.BoolOp .And [a] pos) tA:=by
 intro wh pins s σ H Q I h
 refine isTrue_and (thn (ha pins s σ H Q I h) fun c s1 e=>?_)
 cases c with
 | true=>exact isTrue_and_nil e
 | false=>exact e
theorem pw_or1 (ha:PT X a tA):PW X (.BoolOp .Or [a] pos) tA:=by
 intro wh pins s σ H Q I h
 refine isTrue_or (thn (ha pins s σ H Q I h) fun c s1 e=>?_)
 cases c with
 | false=>exact isTrue_or_nil e
 | true=>exact e
theorem pw_and (ha:PT X a tA) (hb:PW X (.BoolOp .And (b::rest) pos) tB'):PW X (.BoolOp .And (a::b::rest) pos) (tAnd tA tB'):=by
 intro wh pins s σ H Q I h
 refine isTrue_and (thn (ha pins s σ H _ I h) fun c s1 ⟨H1,I1,q1⟩=>?_)
 cases c with
 | true=>exact hb wh pins s1 σ H1 Q I1 q1
 | false=>exact ⟨H1,I1,q1⟩
theorem pw_or (ha:PT X a tA) (hb:PW X (.BoolOp .Or (b::rest) pos) tB'):PW X (.BoolOp .Or (a::b::rest) pos) (tOr tA tB'):=by
 intro wh pins s σ H Q I h
 refine isTrue_or (thn (ha pins s σ H _ I h) fun c s1 ⟨H1,I1,q1⟩=>?_)
 cases c with
 | true=>exact ⟨H1,I1,q1⟩
 | false=>exact hb wh pins s1 σ H1 Q I1 q1
theorem pt_not (ha:PT X a tA):PT X (.UnaryOp .Not a pos) (tNot tA):=by
 intro pins s σ H Q I h
 exact isTrue_not (ha pins s σ H (fun c H1=>Q (!c) H1) I h)
def tIf (t:TT) (ta tb:TE):TE:=fun σ H Q=>t σ H fun c H1=>if c=true then ta σ H1 Q else tb σ H1 Q
theorem pe_ifExp {c:Expr} (hc:PT X c tA) (ha:PE X a ta) (hb:PE X b tb):PE X (.IfExp c a b pos) (tIf tA ta tb):=by
 intro pins s σ H Q I h
 refine wpAny_IfExp (thn (hc pins s σ H _ I h) fun d s1 ⟨H1,I1,q1⟩=>?_)
 cases d with
 | true=>exact ha pins s1 σ H1 Q I1 q1
 | false=>exact hb pins s1 σ H1 Q I1 q1
end
end L2
namespace L2
open PySem PySem.Spec PyProof.Rows
def SqL (K:PySem.W.Frag) (H:Hp) (a:Addr) (xs:List V):Prop :=
 Rd H a (.lst xs) ∨
  ∃ (o:Obj) (its:Array Value) (n:Nat),K.lookup a=some o∧o.cls=.type "list" ∧ o.dict=none∧o.data=.seq its n∧its.size≤sizeLine∧Vals xs its.toList
def SqT (K:PySem.W.Frag) (H:Hp) (a:Addr) (xs:List V):Prop :=
 Rd H a (.tup xs) ∨
  ∃ (o:Obj) (its:Array Value) (n:Nat),K.lookup a=some o∧o.cls=.type "tuple" ∧ o.data=.seq its n∧its.size≤sizeLine∧Vals xs its.toList
def absV:Value→Option V
 | .none=>some .non
 | .bool b=>some (.bl b)
 | .int i _=>some (.int i)
 | .str x _=>some (.str x)
 | .bytes b _=>some (.byt b)
 | .float b _=>some (.flt b)
 | .ref a=>some (.ref a)
 | .type n=>some (.ty n)
 | _=>none
theorem RelV.abs {x:V} {u:Value} (r:RelV x u):absV u=some x:=by
 cases x with
 | non=>cases r; rfl
 | bl _=>cases r; rfl
 | int _=>obtain ⟨t,rfl⟩:=r; rfl
 | str _=>obtain ⟨t,rfl⟩:=r; rfl
 | byt _=>obtain ⟨t,rfl⟩:=r; rfl
 | flt _=>obtain ⟨t,rfl⟩:=r; rfl
 | ref _=>cases r; rfl
 | ty _=>cases r; rfl
theorem RelV.inj {x y:V} {u:Value} (r:RelV x u) (q:RelV y u):x=y:=Option.some.inj (r.abs.symm.trans q.abs)
theorem Vals.inj:∀ {xs ys:List V} {us:List Value},Vals xs us→Vals ys us→xs=ys
 | _,_,_,.nil,.nil=>rfl
 | _,_,_,.cons r t,.cons r' t'=>by rw [r.inj r',Vals.inj t t']
section
variable {X:Cx} {pins:List (Addr×Obj)} {σ:St} {H:Hp} {s:Shared} {a:Addr} {xs ys:List V}
theorem SqL.of {K:PySem.W.Frag} (h:H a=some (.lst xs)):SqL K H a xs:=.inl (.inl h)
theorem SqT.of {K:PySem.W.Frag} (h:H a=some (.tup xs)):SqT K H a xs:=.inl (.inl h)
theorem Inv.list (I:Inv X pins σ H s) (h:SqL X.K H a xs):∃ its:List Value,Vals xs its∧PlainL s.heap a its.toArray∧xs.length≤sizeLine:=by
 rcases h with h | ⟨o,its,n,hk,hc,hd,hs,hz,r⟩
 ·obtain ⟨z,its,n,r,e⟩:=h.ok I.hok
  exact ⟨its,r,⟨_,n,e,rfl,rfl,rfl⟩,z⟩
 ·refine ⟨its.toList,r,⟨o,n,I.kIn a o hk,hc,hd,by simpa using hs⟩,?_⟩
  have e:=r.length
  simp only [Array.length_toList] at e
  omega
theorem Inv.tuple (I:Inv X pins σ H s) (h:SqT X.K H a xs):∃ its:List Value,Vals xs its∧IsTup s.heap a its.toArray∧xs.length≤sizeLine:=by
 rcases h with h | ⟨o,its,n,hk,hc,hs,hz,r⟩
 ·obtain ⟨z,its,r,p⟩:=h.ok I.hok
  exact ⟨its,r,p,z⟩
 ·refine ⟨its.toList,r,⟨o,I.kIn a o hk,hc,n,by simpa using hs⟩,?_⟩
  have e:=r.length
  simp only [Array.length_toList] at e
  omega
theorem Inv.list_inj (I:Inv X pins σ H s) (h:SqL X.K H a xs) (h':SqL X.K H a ys):xs=ys:=by
 obtain ⟨its,r,⟨o,n,e,_,_,d⟩,_⟩:=I.list h
 obtain ⟨its',r',⟨o',n',e',_,_,d'⟩,_⟩:=I.list h'
 rw [e] at e'; cases e'
 rw [d] at d'
 injection d' with d1 _
 have:its=its':=by simpa using congrArg Array.toList d1
 subst this
 exact r.inj r'
theorem Inv.tuple_inj (I:Inv X pins σ H s) (h:SqT X.K H a xs) (h':SqT X.K H a ys):xs=ys:=by
 obtain ⟨its,r,⟨o,e,_,n,d⟩,_⟩:=I.tuple h
 obtain ⟨its',r',⟨o',e',_,n',d'⟩,_⟩:=I.tuple h'
 rw [e] at e'; cases e'
 rw [d] at d'
 injection d' with d1 _
 have:its=its':=by simpa using congrArg Array.toList d1
 subst this
 exact r.inj r'
end
abbrev Cx.wish (X:Cx) (E:Value→Shared→Prop):Cx:={ X with xe:=E }
abbrev Cx.nox (X:Cx):Cx:=X.wish fun _ _=>False
theorem Cx.Ok.wish {X:Cx} (ok:X.Ok) (E:Value→Shared→Prop):(X.wish E).Ok :=
 ⟨ok.mod,ok.kind,ok.glob,ok.blt,ok.above,ok.inj,ok.has,ok.cab,ok.hd,ok.frames,ok.stk,ok.exf,ok.bs,ok.bsz,ok.noex,ok.exfs,ok.funs,ok.frf⟩
theorem Cx.Ok.unwish {X:Cx} {E:Value→Shared→Prop} (ok:(X.wish E).Ok):X.Ok :=
 ⟨ok.mod,ok.kind,ok.glob,ok.blt,ok.above,ok.inj,ok.has,ok.cab,ok.hd,ok.frames,ok.stk,ok.exf,ok.bs,ok.bsz,ok.noex,ok.exfs,ok.funs,ok.frf⟩
section
variable {X:Cx} {pins:List (Addr×Obj)} {σ:St} {H:Hp} {s:Shared} {E:Value→Shared→Prop}
theorem Inv.wish (I:Inv X pins σ H s) (E:Value→Shared→Prop):Inv (X.wish E) pins σ H s:=⟨I.ok.wish E,I.os,I.bare,I.base,I.loc,I.cell,I.free,I.freeC,I.pin,I.hok,I.len⟩
theorem Inv.unwish (I:Inv (X.wish E) pins σ H s):Inv X pins σ H s:=⟨I.ok.unwish,I.os,I.bare,I.base,I.loc,I.cell,I.free,I.freeC,I.pin,I.hok,I.len⟩
theorem SP.unwish {D:Ends} {f:Flow} {s':Shared} (h:SP (X.wish E) pins D f s'):SP X pins D f s':=by
 cases f with
 | next=>obtain ⟨σ',H',I,q⟩:=h; exact ⟨σ',H',I.unwish,q⟩
 | brk=>obtain ⟨σ',H',I,q⟩:=h; exact ⟨σ',H',I.unwish,q⟩
 | cont=>obtain ⟨σ',H',I,q⟩:=h; exact ⟨σ',H',I.unwish,q⟩
 | ret u=>obtain ⟨v,σ',H',I,r,q⟩:=h; exact ⟨v,σ',H',I.unwish,r,q⟩
theorem PE.nox {e:Expr} {t:TE} (h:PE X.nox e t):PE X e t:=fun pins s σ H Q I hw =>
 wpAny_mono (h pins s σ H Q (I.wish _) hw) (fun _ _ ⟨v,H',I',r,q⟩=>⟨v,H',I'.unwish,r,q⟩) fun _ _ z=>False.elim z
theorem PT.nox {e:Expr} {t:TT} (h:PT X.nox e t):PT X e t:=fun pins s σ H Q I hw =>
 wpAny_mono (h pins s σ H Q (I.wish _) hw) (fun _ _ ⟨H',I',q⟩=>⟨H',I'.unwish,q⟩) fun _ _ z=>False.elim z
theorem PSs.nox {st:List Stmt} {t:TS} (h:PSs X.nox st t):PSs X st t:=fun pins s σ H D I hw =>
 wpAny_mono (h pins s σ H D (I.wish _) hw) (fun _ _ q=>q.unwish) fun _ _ z=>False.elim z
end
section
variable {X:Cx} {st:Stmt} {rest:List Stmt} {t u:TS} {e:Expr} {te:TE} {pos:Pos}
def tNext:TS:=fun D σ H=>D.nx σ H
def tSeq (t u:TS):TS:=fun D σ H=>t { D with nx:=u D } σ H
theorem pss_nil:PSs X [] tNext:=fun _ _ σ H _ I h=>wpAny_execs_nil ⟨σ,H,I,h⟩
theorem pss_cons (h1:PS X st t) (h2:PSs X rest u):PSs X (st::rest) (tSeq t u):=by
 intro pins s σ H D I h
 refine wpAny_execs_cons (thn (h1 pins s σ H { D with nx:=u D } I h) fun f s1 q=>?_)
 cases f with
 | next =>
  obtain ⟨σ',H',I',q⟩:=q
  exact h2 pins s1 σ' H' D I' q
 | ret v=>exact q
 | brk=>exact q
 | cont=>exact q
theorem pss_one (h1:PS X st t):PSs X [st] t:=by
 intro pins s σ H D I h
 refine wpAny_execs_cons (thn (h1 pins s σ H D I h) fun f s1 q=>?_)
 cases f with
 | next=>exact wpAny_execs_nil q
 | ret v=>exact q
 | brk=>exact q
 | cont=>exact q
def tBreak:TS:=fun D σ H=>D.bk σ H
theorem ps_break:PS X (.Break pos) tBreak:=fun _ _ σ H _ I h=>wpAny_Break ⟨σ,H,I,h⟩
theorem Inv.quiet {pins:List (Addr×Obj)} {σ:St} {H:Hp} {s:Shared} (I:Inv X pins σ H s):interactive X.env=false:=by simp [interactive,I.ok.kind]
def tDrop (te:TE):TS:=fun D σ H=>te σ H fun _ H1=>D.nx σ H1
theorem ps_expr (he:PE X e te) (hs:swapsWith e none pos.line X.env=pure false:=by rfl):PS X (.Expr e pos) (tDrop te):=by
 intro pins s σ H D I h
 exact wpAny_Expr_any (thn (he pins s σ H _ I h) fun v s1 ⟨x,H1,I1,r1,q1⟩=>⟨σ,H1,I1,q1⟩) I.quiet hs
def tRet (te:TE):TS:=fun D σ H=>te σ H D.rt
theorem ps_ret (he:PE X e te):PS X (.Return (some e) pos) (tRet te):=by
 intro pins s σ H D I h
 exact wpAny_Return_some (thn (he pins s σ H _ I h) fun v s1 ⟨x,H1,I1,r1,q1⟩=>⟨x,σ,H1,I1,r1,q1⟩)
def tIfS (c:TT) (t u:TS):TS:=fun D σ H=>c σ H fun b H1=>if b=true then t D σ H1 else u D σ H1
theorem ps_if {c:Expr} {a b:List Stmt} {tc:TT} (hc:PT X c tc) (ha:PSs X a t) (hb:PSs X b u):PS X (.If c a b pos) (tIfS tc t u):=by
 intro pins s σ H D I h
 refine wpAny_If (thn (hc pins s σ H _ I h) fun d s1 ⟨H1,I1,q1⟩=>?_)
 cases d with
 | true=>exact ha pins s1 σ H1 D I1 q1
 | false=>exact hb pins s1 σ H1 D I1 q1
def tNever:TS:=fun _ _ _=>False
theorem ps_never:PS X st tNever:=fun _ _ _ _ _ _ h=>h.elim
end
abbrev TG:=V→St→Hp→(St→Hp→Prop)→Prop
abbrev TGs:=List V→St→Hp→(St→Hp→Prop)→Prop
def PG (X:Cx) (target:Expr) (t:TG):Prop :=
 ∀ (pins:List (Addr×Obj)) (s:Shared) (σ:St) (H:Hp) (v:V) (u:Value) (Q:St→Hp→Prop),Inv X pins σ H s→RelV v u→t v σ H Q →
  wpAny (model X.prog X.w) X.A (assign target X.env u) (fun _ s'=>∃ σ' H',Inv X pins σ' H' s'∧Q σ' H') X.xe s
def PGs (X:Cx) (ts:List Expr) (t:TGs):Prop :=
 ∀ (pins:List (Addr×Obj)) (s:Shared) (σ:St) (H:Hp) (vs:List V) (us:List Value) (Q:St→Hp→Prop),Inv X pins σ H s→Vals vs us→t vs σ H Q →
  wpAny (model X.prog X.w) X.A (assignInOrder ((assignEach ts X.env).map (·.2)) us) (fun _ s'=>∃ σ' H',Inv X pins σ' H' s'∧Q σ' H') X.xe s
abbrev TSet:=V→V→V→Hp→(Hp→Prop)→Prop
def PSet (X:Cx) (t:TSet):Prop :=
 ∀ (pins:List (Addr×Obj)) (s:Shared) (σ:St) (H:Hp) (o i v:V) (ov iv u:Value) (Q:Hp→Prop),Inv X pins σ H s→RelV o ov→RelV i iv→RelV v u→t o i v H Q →
  wpAny (model X.prog X.w) X.A (setItem ov iv u) (fun _ s'=>∃ H',Inv X pins σ H' s'∧Q H') X.xe s
abbrev TIp:=V→V→Hp→VK→Prop
def PIp (X:Cx) (op:Operator) (t:TIp):Prop :=
 ∀ (pins:List (Addr×Obj)) (s:Shared) (σ:St) (H:Hp) (x y:V) (v u:Value) (Q:VK),Inv X pins σ H s→RelV x v→RelV y u→t x y H Q →
  wpAny (model X.prog X.w) X.A (inplaceOp op v u) (EP X pins σ Q) X.xe s
section
variable {X:Cx} {pos:Pos}
def gName (i:Nat):TG:=fun v σ H Q=>Q (σ.set i (some v)) H
theorem pg_name {i:Nat} {x:Str} (hN:X.N.Nodup) (hi:X.N[i]?=some x) (hx:Loc X.env.scope x) (hf:X.fn x=true∨X.env.scope.names.lookup x=some .local:=by first | exact .inl rfl | exact .inr rfl | assumption):PG X (.Name x pos) (gName i):=by
 intro pins s σ H v u Q I r h
 exact wpAny_assign_Name (store_ok I hN hi hx r (fun s' I'=>⟨_,H,I',h⟩) hf)
def gNil:TGs:=fun vs σ H Q=>vs=[]∧Q σ H
def gCons (t:TG) (u:TGs):TGs:=fun vs σ H Q=>∃ v r,vs=v::r∧t v σ H fun σ' H'=>u r σ' H' Q
theorem pgs_nil:PGs X [] gNil:=by
 intro pins s σ H vs us Q I r h
 obtain ⟨e,h⟩:=h
 subst e
 cases r
 exact assignInOrder_nil ⟨σ,H,I,h⟩
theorem pgs_cons {e:Expr} {es:List Expr} {t:TG} {u:TGs} (h1:PG X e t) (h2:PGs X es u)
  (hs:(assignEach (e::es) X.env).map (·.2)=assign e X.env::(assignEach es X.env).map (·.2):=by rfl):PGs X (e::es) (gCons t u):=by
 intro pins s σ H vs us Q I r h
 obtain ⟨v,vr,e1,h⟩:=h
 subst e1
 cases r with
 | cons r rr =>
  rw [hs]
  refine assignInOrder_cons (thn (h1 pins s σ H _ _ _ I r h) fun _ s1 ⟨σ1,H1,I1,q1⟩=>?_)
  exact h2 pins s1 σ1 H1 _ _ Q I1 rr q1
def gTup (K:PySem.W.Frag) (n:Nat) (t:TGs):TG:=fun v σ H Q=>∃ a xs,v=.ref a∧SqT K H a xs∧xs.length=n∧t xs σ H Q
theorem pg_tup {es:List Expr} {k:Nat} {t:TGs} {n:Nat} (hc:X.calm=true) (h:PGs X es t)
  (hn:(assignEach es X.env).length=n:=by rfl) (hst:(assignEach es X.env).findIdx? (·.1)=none:=by rfl):PG X (.Tuple es k pos) (gTup X.K n t):=by
 intro pins s σ H v u Q I r hw
 obtain ⟨a,xs,e1,hq,hl,hw⟩:=hw
 subst e1
 cases r
 obtain ⟨its,rv,ht,hz⟩:=I.tuple hq
 refine assign_Tuple_tuple (I.ok.hd hc) ht (by simp [hn,← hl,rv.length]) hst fun h' hx=>?_
 have I1:Inv X pins σ H { s with heap:=h' }:=I.kept (t':=s.toks) fun b o e=>hx b o (Nat.ne_of_lt (Heap.lt_size e)) e
 exact h pins _ σ H xs _ Q I1 (by simpa using rv) hw
def gSub (to ti:TE) (t:TSet):TG:=fun v σ H Q=>to σ H fun o H1=>ti σ H1 fun i H2=>t o i v H2 fun H3=>Q σ H3
theorem pg_sub {o i:Expr} {to ti:TE} {t:TSet} (ho:PE X o to) (hi:PE X i ti) (hs:PSet X t)
  (ha:∀ v,assign (.Subscript o i pos) X.env v=(do
   let ov ← holding [v] (eval o X.env)
   let iv ← holding [v,ov] (eval i X.env)
   standAt pos
   holding [v,ov,iv] (setItem ov iv v)
   release [v,ov,iv] []):=by intro _; rfl):PG X (.Subscript o i pos) (gSub to ti t):=by
 intro pins s σ H v u Q I r h
 rw [ha]
 refine wpAny_bind (wpAny_holding (thn (ho pins s σ H _ I h) fun ov s1 ⟨x,H1,I1,r1,q1⟩=>?_))
 refine wpAny_bind (wpAny_holding (thn (hi pins s1 σ H1 _ I1 q1) fun iv s2 ⟨y,H2,I2,r2,q2⟩=>?_))
 refine wpAny_bind (wpAny_standAt (wpAny_bind (wpAny_holding (thn (hs pins s2 σ H2 x y v ov iv u _ I2 r1 r2 r q2) fun _ s3 ⟨H3,I3,q3⟩=>?_))))
 exact wpAny_release ⟨σ,H3,I3,q3⟩
def tAsg (te:TE) (g:TG):TS:=fun D σ H=>te σ H fun x H1=>g x σ H1 D.nx
theorem ps_asg {tg e:Expr} {te:TE} {g:TG} (he:PE X e te) (hg:PG X tg g) (hs:swapsWithSole [tg] e pos.line X.env=pure false:=by rfl) (hw:swappedStores [tg] e X.env=pure none:=by rfl)
  (h1:(assignEach [tg] X.env).map (·.2)=[assign tg X.env]:=by rfl):PS X (.Assign [tg] e pos) (tAsg te g):=by
 intro pins s σ H D I h
 refine wpAny_Assign_stores (thn (he pins s σ H _ I h) fun v s1 ⟨x,H1,I1,r1,q1⟩=>?_) hs hw
 rw [h1]
 exact thn (hg pins s1 σ H1 x v _ I1 r1 q1) fun _ s2 q=>q
theorem ps_set {i:Nat} {x:Str} {e:Expr} {te:TE} {pos':Pos} (hN:X.N.Nodup) (hi:X.N[i]?=some x) (hx:Loc X.env.scope x) (he:PE X e te) (hs:swapsWith e (some (.Name x pos')) pos.line X.env=pure false:=by rfl) (hf:X.fn x=true∨X.env.scope.names.lookup x=some .local:=by first | exact .inl rfl | exact .inr rfl | assumption) :
  PS X (.Assign [.Name x pos'] e pos) (tAsg te (gName i)):=by
 intro pins s σ H D I h
 refine wpAny_Assign_Name (thn (he pins s σ H _ I h) fun v s1 ⟨y,H1,I1,r1,q1⟩=>?_) hs
 exact store_ok I1 hN hi hx r1 (fun s2 I2=>⟨_,H1,I2,q1⟩) hf
def tAug (i:Nat) (te:TE) (ti:TIp):TS:=fun D σ H=>∃ x,σ[i]?=some (some x)∧te σ H fun y H1=>ti x y H1 fun z H2=>D.nx (σ.set i (some z)) H2
theorem ps_aug {i:Nat} {x:Str} {e:Expr} {te:TE} {op:Operator} {ti:TIp} {pos':Pos} (hN:X.N.Nodup) (hi:X.N[i]?=some x) (hx:Loc X.env.scope x) (he:PE X e te) (ho:PIp X op ti) (hf:X.fn x=true∨X.env.scope.names.lookup x=some .local:=by first | exact .inl rfl | exact .inr rfl | assumption) :
  PS X (.AugAssign (.Name x pos') op e pos) (tAug i te ti):=by
 intro pins s σ H D I h
 obtain ⟨v,e1,h⟩:=h
 obtain ⟨m,hn,hl⟩:=I.loc
 have vis:Vis X.env.scope x:=by rcases hx with k | k; exact .inl k; exact .inr (.inl k)
 obtain ⟨u,r,l⟩:=hl i x v hi e1 vis
 refine wpAny_AugAssign_Name ?_
 have go:wpAny (model X.prog X.w) X.A (eval e X.env) (fun w s₂=>wpAny (model X.prog X.w) X.A (inplaceOp op u w) (fun r s₃=>wpAny (model X.prog X.w) X.A (storeName X.env x r) (fun _=>SP X pins D .next) X.xe s₃) X.xe s₂) X.xe s:=by
  refine thn (he pins s σ H _ I h) fun w s1 ⟨y,H1,I1,r1,q1⟩=>?_
  refine thn (ho pins s1 σ H1 v y u w _ I1 r r1 q1) fun z s2 ⟨zv,H2,I2,r2,q2⟩=>?_
  exact store_ok I2 hN hi hx r2 (fun s3 I3=>⟨_,H2,I3,q2⟩) hf
 rcases l with ⟨hk,hm⟩ | ⟨hk,c,hc,hcell⟩
 ·exact wpAny_loadName_local I.ok.kind hk hn hm go
 ·rcases hk with hk | hk
  ·exact wpAny_loadName_cell I.ok.kind hk hc hcell go
  ·rcases hx with k | k
   ·have:X.env.scope.names.lookup x=some .free:=hk
    rw [k] at this; cases this
   ·have:X.env.scope.names.lookup x=some .free:=hk
    rw [k] at this; cases this
def ipI (f:Int→Int→Int):TIp:=fun x y H Q=>∃ i j,x=.int i∧y=.int j∧Q (.int (f i j)) H
theorem ip_add:PIp X .Add (ipI fun i j=>i+j):=by
 intro pins s σ H x y v u Q I r1 r2 h
 obtain ⟨i,j,e1,e2,q⟩:=h
 subst e1; subst e2
 obtain ⟨t,rfl⟩:=r1
 obtain ⟨t',rfl⟩:=r2
 exact iadd_int ⟨.int _,H,I.tok _,⟨_,rfl⟩,q⟩
end
section
variable {X:Cx} {pos:Pos}
def tWhile (c:TT) (tb:TS):TS:=fun D σ H=>∃ W:Nat→St→Hp→Prop,(∃ m,W m σ H)∧∀ m σ H,W m σ H →
 c σ H fun b H1=>if b=true then ∃ N:St→Hp→Prop,(∀ σ' H',N σ' H'→∃ m',m' < m∧W m' σ' H')∧tb { D with nx:=N,ct:=N,bk:=D.nx } σ H1 else D.nx σ H1
theorem ps_while {c:Expr} {body:List Stmt} {tc:TT} {tb:TS} (hp:PassesOwn (model X.prog X.w) X.A X.env X.xe) (hc:PT X c tc) (hb:PSs X body tb):PS X (.While c body [] pos) (tWhile tc tb):=by
 intro pins s σ H D I h
 obtain ⟨W,⟨m0,w0⟩,turn⟩:=h
 refine wpAny_While (codeAny_whileLoop (fun n s'=>∃ σ' H',Inv X pins σ' H' s'∧W n σ' H') ?_ m0 ⟨σ,H,I,w0⟩)
 rintro n s1 ⟨σ1,H1,I1,w1⟩
 refine wpAny_passesOwn hp (thn (hc pins s1 σ1 H1 _ I1 (turn n σ1 H1 w1)) fun b s2 ⟨H2,I2,q2⟩=>?_)
 cases b with
 | true =>
  obtain ⟨N,hN,q2⟩:=q2
  rw [if_pos rfl]
  refine wpAny_passesOwn hp (thn (hb pins s2 σ1 H2 _ I2 q2) fun f s3 q3=>?_)
  cases f with
  | next =>
   obtain ⟨σ3,H3,I3,n3⟩:=q3
   obtain ⟨m',hm,w3⟩:=hN σ3 H3 n3
   exact ⟨m',hm,σ3,H3,I3,w3⟩
  | cont =>
   obtain ⟨σ3,H3,I3,n3⟩:=q3
   obtain ⟨m',hm,w3⟩:=hN σ3 H3 n3
   exact ⟨m',hm,σ3,H3,I3,w3⟩
  | brk=>exact q3
  | ret v=>exact q3
 | false =>
  rw [if_neg Bool.false_ne_true]
  exact wpAny_execs_nil ⟨σ1,H2,I2,q2⟩
end
structure It where
 go:Nat→Hp→Prop
 yld:Nat→Hp→V→Hp→Prop
 stop:Nat→Hp→Prop
def FpOk (X:Cx) (pins:List (Addr×Obj)) (H:Hp) (b:Addr):Prop :=
 H b=none∧b≠X.env.locals∧b∉X.fs∧(b∈X.ex∨X.s₀.heap.objs.size≤b)∧(∀ x c,X.env.cells.lookup x=some c→c≠b)∧∀ p∈X.pn++pins,p.1≠b
theorem Inv.fpOk {X:Cx} {pins:List (Addr×Obj)} {σ:St} {H H':Hp} {s:Shared} {b:Addr} (I:Inv X pins σ H s) (hb:s.heap.objs.size≤b) (hn:H' b=none):FpOk X pins H' b:=by
 refine ⟨hn,Nat.ne_of_gt (Nat.lt_of_lt_of_le I.lt hb),I.nofs hb,.inr (Nat.le_trans I.sz hb),fun x c e z=>?_,fun p hp z=>?_⟩
 ·obtain ⟨v,q⟩:=I.cell x c e
  exact absurd (Nat.lt_of_lt_of_le q.lt (by rw [z]; exact hb)) (Nat.lt_irrefl _)
 ·exact absurd (Nat.lt_of_lt_of_le (Heap.lt_size (I.pin p hp).1) (by rw [z]; exact hb)) (Nat.lt_irrefl _)
structure Turn (P:Program) (w:World) (K:PySem.W.Frag) (tg:Expr) (J:It) (fp:List Addr) (it:Addr) (tn:Nat→Heap→Prop):Prop where
 mem:it∈fp
 obj:∀ i h,tn i h→∀ b∈fp,∃ o,h.get? b=some o∧∀ v,o.data≠.cell v
 keep:∀ i h h',tn i h→(∀ b∈fp,∀ o,h.get? b=some o→h'.get? b=some o)→tn i h'
 item:∀ (X:Cx),X.prog=P→X.w=w→X.K=K→X.calm=true→∀ (i:Nat) (pins:List (Addr×Obj)) (s:Shared) (σ:St) (H:Hp) (E:Value→Shared→Prop),Inv X pins σ H s→(∀ b∈fp,FpOk X pins H b)→tn i s.heap→J.go i H →
  wpAny (model P w) X.A (pyNext (.ref it)) (fun r s1=>∃ u,r=some u ∧
   wpAny (model P w) X.A (letOwnedTupleGo tg (.ref it) u) (fun _ s2=>∃ x H',Inv X pins σ H' s2∧RelV x u∧J.yld i H x H'∧tn (i+1) s2.heap∧∀ b∈fp,H' b=none) E s1) E s
 done:∀ (X:Cx),X.prog=P→X.w=w→X.K=K→X.calm=true→∀ (i:Nat) (pins:List (Addr×Obj)) (s:Shared) (σ:St) (H:Hp) (E:Value→Shared→Prop),Inv X pins σ H s→(∀ b∈fp,FpOk X pins H b)→tn i s.heap→J.stop i H →
  wpAny (model P w) X.A (pyNext (.ref it)) (fun r s1=>r=none∧Inv X pins σ H s1) E s
 self:∀ (A:Around) (i:Nat) (s:Shared) (Q:Value→Shared→Prop) (E:Value→Shared→Prop),tn i s.heap→Q (.ref it) s→wpAny (model P w) A (pyIter (.ref it)) Q E s
abbrev TI:=St→Hp→(It→Hp→Prop)→Prop
def PIE (X:Cx) (pins:List (Addr×Obj)) (σ:St) (tg:Expr) (R:It→Hp→Prop) (itv:Value) (s2:Shared):Prop :=
 ∃ (it:Addr) (fp:List Addr) (tn:Nat→Heap→Prop) (J:It) (H':Hp),itv=.ref it∧Inv X pins σ H' s2∧Turn X.prog X.w X.K tg J fp it tn∧tn 0 s2.heap∧(∀ b∈fp,FpOk X pins H' b)∧R J H'
def PI (X:Cx) (tg iter:Expr) (wi:TI):Prop :=
 ∀ (pins:List (Addr×Obj)) (s:Shared) (σ:St) (H:Hp) (R:It→Hp→Prop),Inv X pins σ H s→wi σ H R →
  wpAny (model X.prog X.w) X.A (eval iter X.env) (fun v s1=>wpAny (model X.prog X.w) X.A (pyIter v) (PIE X pins σ tg R) X.xe s1) X.xe s
theorem go_of {M:Model} {A:Around} {E:Value→Shared→Prop} {s:Shared} {tg:Expr} {it:Addr} {u:Value} {o:Obj} {n:String} {vs:Array Value} {Q:Unit→Shared→Prop} (ho:s.heap.get? it=some o) (hc:o.cls=.type n) (hd:o.data=.fields vs)
  (hn:["enumerate","zip","dict_itemiterator","dict_reverseitemiterator","odict_iterator","itertools.zip_longest","itertools.pairwise"].contains n=false) (hQ:Q () s):wpAny M A (letOwnedTupleGo tg (.ref it) u) Q E s:=by
 unfold letOwnedTupleGo
 cases tg <;> first
  | exact wpAny_pure hQ
  | (cases u <;> first
    | exact wpAny_pure hQ
    | (refine wpAny_bind (wpAny_load ho ?_)
       rw [hc,hd]
       show wpAny M A (if (["enumerate","zip","dict_itemiterator","dict_reverseitemiterator","odict_iterator","itertools.zip_longest","itertools.pairwise"].contains n && vs[0]? == some (rawInt _))=true then _ else _) Q E s
       rw [if_neg (by intro h; rw [hn,Bool.false_and] at h; cases h)]
       exact wpAny_pure hQ))
def Itl (K:PySem.W.Frag) (a:Addr):It :=
 ⟨fun i H=>∃ xs x,SqL K H a xs∧xs[i]?=some x,fun i H x H'=>H'=H∧∀ xs,SqL K H a xs→xs[i]?=some x,fun i H=>∃ xs,SqL K H a xs∧xs.length≤i⟩
def Itt (K:PySem.W.Frag) (a:Addr):It :=
 ⟨fun i H=>∃ xs x,SqT K H a xs∧xs[i]?=some x,fun i H x H'=>H'=H∧∀ xs,SqT K H a xs→xs[i]?=some x,fun i H=>∃ xs,SqT K H a xs∧xs.length≤i⟩
def Itr (lo:Int) (n:Nat):It:=⟨fun i _=>i < n,fun i H x H'=>H'=H∧x=.int (lo+i),fun i _=>n≤i⟩
theorem turn_list {P:Program} {w:World} {K:PySem.W.Frag} {tg:Expr} (a it:Addr):Turn P w K tg (Itl K a) [it] it (fun i h=>h.IsListIter it a i) where
 mem:=by simp
 obj:=fun i h st b hb=>by
  have e:b=it:=by simpa using hb
  subst e
  obtain ⟨o,e,c,d⟩:=st
  exact ⟨o,e,fun v z=>by rw [d] at z; cases z⟩
 keep:=fun i h h' st k=>st.at fun o e=>k it (by simp) o e
 item:=by
  intro X hP hw hK hc i pins s σ H E I hf st hg
  subst hP hw hK
  obtain ⟨xs,x,hq,hx⟩:=hg
  obtain ⟨its,rv,p,hz⟩:=I.list hq
  obtain ⟨u,hu,ru⟩:=rv.get hx
  obtain ⟨f0,f1,f2,f3,f4,f5⟩:=hf it (by simp)
  refine wpAny_pyNext_list_item st p.isList (x:=u) (by simpa using hu) fun h' st' sb=>?_
  have I1:Inv X pins σ H { s with heap:=h' }:=I.turned (t':=s.toks) (fun b o hb e=>(sb.2 b hb).trans e) f0 f1 f3 f4 f5
  obtain ⟨o,e,c,d⟩:=id st'
  exact ⟨u,rfl,go_of (s:={ s with heap:=h' }) e c d (by decide) ⟨x,H,I1,ru,⟨rfl,fun ys hy=>by rw [I.list_inj hy hq]; exact hx⟩,st',fun b hb=>(hf b hb).1⟩⟩
 done:=by
  intro X hP hw hK hc i pins s σ H E I hf st hg
  subst hP hw hK
  obtain ⟨xs,hq,hx⟩:=hg
  obtain ⟨its,rv,p,hz⟩:=I.list hq
  obtain ⟨f0,f1,f2,f3,f4,f5⟩:=hf it (by simp)
  have hl:=rv.length
  exact wpAny_pyNext_list_end (I.ok.hd hc) st p.isList (by simp; omega) fun h' eb=>⟨rfl,I.turned (t':=s.toks) (fun b o hb e=>eb b o hb e) f0 f1 f3 f4 f5⟩
 self:=fun _ _ _ _ _ st h=>wpAny_pyIter_listiter st h
theorem turn_tuple {P:Program} {w:World} {K:PySem.W.Frag} {tg:Expr} (a it:Addr):Turn P w K tg (Itt K a) [it] it (fun i h=>h.IsTupleIter it a i) where
 mem:=by simp
 obj:=fun i h st b hb=>by
  have e:b=it:=by simpa using hb
  subst e
  obtain ⟨o,e,c,d⟩:=st
  exact ⟨o,e,fun v z=>by rw [d] at z; cases z⟩
 keep:=fun i h h' st k=>st.at fun o e=>k it (by simp) o e
 item:=by
  intro X hP hw hK hc i pins s σ H E I hf st hg
  subst hP hw hK
  obtain ⟨xs,x,hq,hx⟩:=hg
  obtain ⟨its,rv,p,hz⟩:=I.tuple hq
  obtain ⟨u,hu,ru⟩:=rv.get hx
  obtain ⟨f0,f1,f2,f3,f4,f5⟩:=hf it (by simp)
  refine wpAny_pyNext_tuple_item st (show s.heap.IsTuple a its.toArray from p) (x:=u) (by simpa using hu) fun h' st' sb=>?_
  have I1:Inv X pins σ H { s with heap:=h' }:=I.turned (t':=s.toks) (fun b o hb e=>(sb.2 b hb).trans e) f0 f1 f3 f4 f5
  obtain ⟨o,e,c,d⟩:=id st'
  exact ⟨u,rfl,go_of (s:={ s with heap:=h' }) e c d (by decide) ⟨x,H,I1,ru,⟨rfl,fun ys hy=>by rw [I.tuple_inj hy hq]; exact hx⟩,st',fun b hb=>(hf b hb).1⟩⟩
 done:=by
  intro X hP hw hK hc i pins s σ H E I hf st hg
  subst hP hw hK
  obtain ⟨xs,hq,hx⟩:=hg
  obtain ⟨its,rv,p,hz⟩:=I.tuple hq
  obtain ⟨f0,f1,f2,f3,f4,f5⟩:=hf it (by simp)
  have hl:=rv.length
  exact wpAny_pyNext_tuple_end (I.ok.hd hc) st (show s.heap.IsTuple a its.toArray from p) (by simp; omega) fun h' eb=>⟨rfl,I.turned (t':=s.toks) (fun b o hb e=>eb b o hb e) f0 f1 f3 f4 f5⟩
 self:=fun _ _ _ _ _ st h=>wpAny_pyIter_tupleiter st h
theorem turn_range {P:Program} {w:World} {K:PySem.W.Frag} {tg:Expr} (it:Addr) (lo:Int) (n:Nat):Turn P w K tg (Itr lo n) [it] it (fun i h=>IsRangeIter h it (lo+(i:Nat) * 1) ((n:Int) - (i:Nat)) 1) where
 mem:=by simp
 obj:=fun i h st b hb=>by
  have e:b=it:=by simpa using hb
  subst e
  exact ⟨_,st,fun v z=>by
   have z':Data.fields _=Data.cell v:=z
   cases z'⟩
 keep:=fun i h h' st k=>k it (by simp) _ st
 item:=by
  intro X hP hw hK hc i pins s σ H E I hf st hg
  subst hP hw hK
  obtain ⟨f0,f1,f2,f3,f4,f5⟩:=hf it (by simp)
  have W:=Walks.range (prog:=X.prog) (w:=X.w) (I.ok.hd hc) it lo 1 n
  refine W.item i s _ _ hg st fun v h' tk hv st' kk=>?_
  obtain ⟨t,rfl⟩:=hv
  have I1:Inv X pins σ H { s with heap:=h',toks:=tk }:=I.turned (fun b o hb e=>kk b o (by simpa using hb) e) f0 f1 f3 f4 f5
  refine ⟨_,rfl,go_of (s:={ s with heap:=h',toks:=tk }) (n := "range_iterator") st' rfl rfl (by decide) ⟨.int (lo+i),H,I1,⟨t,?_⟩,⟨rfl,rfl⟩,st',fun b hb=>(hf b hb).1⟩⟩
  rw [Int.mul_one]
 done:=by
  intro X hP hw hK hc i pins s σ H E I hf st hg
  subst hP hw hK
  obtain ⟨f0,f1,f2,f3,f4,f5⟩:=hf it (by simp)
  exact wpAny_pyNext_range_end (I.ok.hd hc) st (by have:n≤i:=hg; omega) fun h' eb=>⟨rfl,I.turned (t':=s.toks) (fun b o hb e=>eb b o hb e) f0 f1 f3 f4 f5⟩
 self:=fun _ _ _ _ _ st h=>wpAny_pyIter_rangeiter st h
end L2
namespace L2
open PySem PySem.Spec PyProof.Rows
section
variable {X:Cx} {tg:Expr}
def iList (K:PySem.W.Frag) (tl:TE):TI:=fun σ H R=>tl σ H fun x H1=>∃ a,x=.ref a∧(∃ xs,SqL K H1 a xs)∧R (Itl K a) H1
def iTup (K:PySem.W.Frag) (tl:TE):TI:=fun σ H R=>tl σ H fun x H1=>∃ a,x=.ref a∧(∃ xs,SqT K H1 a xs)∧R (Itt K a) H1
theorem pi_list {l:Expr} {tl:TE} (hl:PE X l tl):PI X tg l (iList X.K tl):=by
 intro pins s σ H R I h
 refine thn (hl pins s σ H _ I h) fun v s1 ⟨x,H1,I1,r1,q1⟩=>?_
 obtain ⟨a,e,⟨xs,hq⟩,q⟩:=q1
 subst e
 cases r1
 obtain ⟨its,rv,p,hz⟩:=I1.list hq
 refine wpAny_pyIter_list p.isList ?_
 refine ⟨s1.heap.objs.size,[s1.heap.objs.size],_,_,H1,rfl,I1.kept (t':=s1.toks) fun b o e=>Heap.get?_push_of_some _ e,turn_list a _,⟨_,Heap.get?_push_size _ rfl,rfl,rfl⟩,fun b hb=>?_,q⟩
 have e:b=s1.heap.objs.size:=by simpa using hb
 subst e
 exact I1.fpOk (Nat.le_refl _) (I1.hok.fresh (Nat.le_refl _))
theorem pi_tup {l:Expr} {tl:TE} (hl:PE X l tl):PI X tg l (iTup X.K tl):=by
 intro pins s σ H R I h
 refine thn (hl pins s σ H _ I h) fun v s1 ⟨x,H1,I1,r1,q1⟩=>?_
 obtain ⟨a,e,⟨xs,hq⟩,q⟩:=q1
 subst e
 cases r1
 obtain ⟨its,rv,p,hz⟩:=I1.tuple hq
 refine wpAny_pyIter_tuple (show s1.heap.IsTuple a its.toArray from p) ?_
 refine ⟨s1.heap.objs.size,[s1.heap.objs.size],_,_,H1,rfl,I1.kept (t':=s1.toks) fun b o e=>Heap.get?_push_of_some _ e,turn_tuple a _,⟨_,Heap.get?_push_size _ rfl,rfl,rfl⟩,fun b hb=>?_,q⟩
 have e:b=s1.heap.objs.size:=by simpa using hb
 subst e
 exact I1.fpOk (Nat.le_refl _) (I1.hok.fresh (Nat.le_refl _))
theorem range_it {pins:List (Addr×Obj)} {σ:St} {H:Hp} {s:Shared} {R:It→Hp→Prop} {E:Value→Shared→Prop} {lo hi:Int} {t u v:Tok} {tk:Nat} (I:Inv X pins σ H s) (h1:-(2 ^ 62)≤lo) (h2:lo < 2 ^ 62) (h3:-(2 ^ 62)≤hi) (h4:hi < 2 ^ 62)
  (q:R (Itr lo (hi - lo).toNat) H):wpAny (model X.prog X.w) X.A (pyIter (.ref s.heap.objs.size)) (PIE X pins σ tg R) E { s with heap:=s.heap.push { cls:=.type "range",data:=.fields #[.int lo t,.int hi u,.int 1 v] },toks:=tk }:=by
 refine wpAny_pyIter_range (IsRange.new ..) (small_one h1 h2 h3 h4) ?_
 have I1:Inv X pins σ H { s with heap:=s.heap.push { cls:=.type "range",data:=.fields #[.int lo t,.int hi u,.int 1 v] },toks:=tk }:=I.kept fun b o e=>Heap.get?_push_of_some _ e
 refine ⟨(s.heap.push { cls:=.type "range",data:=.fields #[.int lo t,.int hi u,.int 1 v] }).objs.size,[(s.heap.push { cls:=.type "range",data:=.fields #[.int lo t,.int hi u,.int 1 v] }).objs.size],_,_,H,rfl,
  I1.kept (t':=tk) fun b o e=>Heap.get?_push_of_some _ e,turn_range _ lo (hi - lo).toNat,?_,fun b hb=>?_,q⟩
 ·have e1:lo+((0:Nat):Int) * 1=lo:=by simp
  have e2:(((hi - lo).toNat:Nat):Int) - ((0:Nat):Int)=Builtin.Range.rangeSize lo hi 1:=by rw [rangeSize_one]; split <;> omega
  show IsRangeIter _ _ (lo+((0:Nat):Int) * 1) ((((hi - lo).toNat:Nat):Int) - ((0:Nat):Int)) 1
  rw [e1,e2]
  exact Heap.get?_push_size _ rfl
 ·have e:b=(s.heap.push { cls:=.type "range",data:=.fields #[.int lo t,.int hi u,.int 1 v] }).objs.size:=by simpa using hb
  subst e
  exact I1.fpOk (Nat.le_refl _) (I1.hok.fresh (Nat.le_refl _))
def iRng1 (ta:TA):TI:=fun σ H R=>ta σ H fun vs H1=>∃ j:Int,vs=[.int j]∧-(2 ^ 62)≤j∧j < 2 ^ 62∧R (Itr 0 j.toNat) H1
theorem pi_range1 {a:Expr} {ta:TA} {p pos:Pos} (hg:Gl X "range") (hm:X.mg "range"=none) (ha:PA X [a] ta) (hs:starEach [a] X.env=[(false,eval a X.env)]:=by rfl):PI X tg (.Call (.Name "range" p) [a] [] pos) (iRng1 ta):=by
 intro pins s σ H R I h
 refine Call_ (ld_blt I hg hm boot_range (PyProof.Rows.callWith_type1 (thn (ha pos pins s σ H _ I h) fun us s1 ⟨vs,H1,I1,r1,q1⟩=>?_) hs rfl))
 obtain ⟨j,e,q1,q2,q⟩:=q1
 subst e
 cases r1 with
 | cons r rr =>
  cases rr
  obtain ⟨t,rfl⟩:=r
  exact call_range_1 (range_it I1 (by omega) (by omega) q1 q2 (by simpa using q))
def tFor (wi:TI) (g:TG) (tb:TS):TS:=fun D σ H=>wi σ H fun J H1=>∃ W:Nat→Nat→St→Hp→Prop,(∃ m,W 0 m σ H1)∧∀ i m σ H,W i m σ H →
 (J.stop i H∧D.nx σ H)∨(J.go i H∧∃ N:St→Hp→Prop,(∀ σ' H',N σ' H'→∃ m',m' < m∧W (i+1) m' σ' H')∧∀ x H',J.yld i H x H'→g x σ H' fun σ2 H2=>tb { D with nx:=N,ct:=N,bk:=D.nx } σ2 H2)
def pinsAt (fp:List Addr) (h:Heap):List (Addr×Obj):=fp.filterMap fun b=>(h.get? b).map fun o=>(b,o)
theorem mem_pinsAt {fp:List Addr} {h:Heap} {b:Addr} {o:Obj} (hb:b∈fp) (e:h.get? b=some o):(b,o)∈pinsAt fp h:=List.mem_filterMap.mpr ⟨b,hb,by rw [e]; rfl⟩
theorem of_pinsAt {fp:List Addr} {h:Heap} {p:Addr×Obj} (hp:p∈pinsAt fp h):p.1∈fp∧h.get? p.1=some p.2:=by
 obtain ⟨b,hb,e⟩:=List.mem_filterMap.mp hp
 cases q:h.get? b with
 | none=>rw [q] at e; cases e
 | some o =>
  rw [q] at e
  have e':(b,o)=p:=Option.some.inj e
  subst e'
  exact ⟨hb,q⟩
theorem Inv.pinned {pins:List (Addr×Obj)} {σ:St} {H:Hp} {s:Shared} {fp:List Addr} (I:Inv X pins σ H s) (hf:∀ b∈fp,FpOk X pins H b) (ho:∀ b∈fp,∃ o,s.heap.get? b=some o∧∀ v,o.data≠.cell v):Inv X (pins++pinsAt fp s.heap) σ H s :=
 I.pins_of fun p hp=>(List.mem_append.mp hp).elim (fun z=>I.pin p (List.mem_append_right _ z)) fun z=>by
  obtain ⟨hb,e⟩:=of_pinsAt z
  obtain ⟨f0,f1,f2,_⟩:=hf p.1 hb
  obtain ⟨o,e',d⟩:=ho p.1 hb
  rw [e] at e'; cases e'
  exact ⟨e,f0,f1,f2,d⟩
theorem Inv.unpinned {pins pl:List (Addr×Obj)} {σ:St} {H:Hp} {s:Shared} (I:Inv X (pins++pl) σ H s):Inv X pins σ H s:=I.pins_of fun p hp=>I.pin p (List.mem_append_right _ (List.mem_append_left _ hp))
theorem ps_for {iter:Expr} {body:List Stmt} {wi:TI} {g:TG} {tb:TS} {pos:Pos} (hp:PassesOwn (model X.prog X.w) X.A X.env X.xe) (hc:X.calm=true) (hi:PI X tg iter wi) (hg:PG X tg g) (hb:PSs X body tb)
  (hs:∀ x,foldedSetIterable iter X.env x=pure x:=by intro _; rfl):PS X (.For tg iter body [] pos) (tFor wi g tb):=by
 intro pins s σ H D I h
 refine wpAny_For (thn (hi pins s σ H _ I h) fun v s1 h1=>thn h1 fun itv s2 h2=>?_) hs
 obtain ⟨it,fp,tn,J,H2,e,I2,T,st2,f2,W,⟨m0,w0⟩,turn⟩:=h2
 subst e
 have stat:∀ {H':Hp},(∀ b∈fp,H' b=none)→∀ b∈fp,FpOk X pins H' b:=fun hn b hb=>⟨hn b hb,(f2 b hb).2⟩
 refine codeAny_forLoop_any (fun n s'=>∃ i σ' H',Inv X pins σ' H' s'∧tn i s'.heap∧(∀ b∈fp,H' b=none)∧W i n σ' H') ?_ m0 ⟨0,σ,H2,I2,st2,fun b hb=>(f2 b hb).1,w0⟩
 rintro n s3 ⟨i,σ3,H3,I3,st3,fr3,w3⟩
 rcases turn i n σ3 H3 w3 with ⟨stop,qn⟩ | ⟨go,N,hN,step⟩
 ·refine wpAny_passesOwn hp (thn (T.done X rfl rfl rfl hc i pins s3 σ3 H3 X.xe I3 (stat fr3) st3 stop) fun r s4 ⟨hr,I4⟩=>?_)
  subst hr
  exact wpAny_execs_nil ⟨σ3,H3,I4,qn⟩
 ·refine wpAny_passesOwn hp (thn (T.item X rfl rfl rfl hc i pins s3 σ3 H3 X.xe I3 (stat fr3) st3 go) fun r s4 ⟨u,hr,h4⟩=>?_)
  subst hr
  refine wpAny_passesOwn hp (thn h4 fun _ s5 ⟨x,H5,I5,r5,y5,st5,fr5⟩=>?_)
  have I5':=I5.pinned (stat fr5) (T.obj _ _ st5)
  refine wpAny_passesOwn hp (thn (hg _ s5 σ3 H5 x u _ I5' r5 (step x H5 y5)) fun _ s6 ⟨σ6,H6,I6,q6⟩=>?_)
  refine wpAny_passesOwn hp (thn (hb _ s6 σ6 H6 _ I6 q6) fun f s7 q7=>?_)
  have again:∀ {σ7:St} {H7:Hp},Inv X (pins++pinsAt fp s5.heap) σ7 H7 s7→N σ7 H7→∃ m,m < n∧∃ i σ' H',Inv X pins σ' H' s7∧tn i s7.heap∧(∀ b∈fp,H' b=none)∧W i m σ' H':=fun {σ7 H7} I7 n7=>by
   obtain ⟨m',hm,w7⟩:=hN σ7 H7 n7
   refine ⟨m',hm,i+1,σ7,H7,I7.unpinned,T.keep _ _ _ st5 fun b hb o e=>(I7.pin (b,o) (List.mem_append_right _ (List.mem_append_right _ (mem_pinsAt hb e)))).1,fun b hb=>?_,w7⟩
   obtain ⟨o,e,d⟩:=T.obj _ _ st5 b hb
   exact (I7.pin (b,o) (List.mem_append_right _ (List.mem_append_right _ (mem_pinsAt hb e)))).2.1
  cases f with
  | next=>obtain ⟨σ7,H7,I7,n7⟩:=q7; exact again I7 n7
  | cont=>obtain ⟨σ7,H7,I7,n7⟩:=q7; exact again I7 n7
  | brk=>obtain ⟨σ7,H7,I7,q7⟩:=q7; exact ⟨σ7,H7,I7.unpinned,q7⟩
  | ret v=>obtain ⟨x7,σ7,H7,I7,r7,q7⟩:=q7; exact ⟨x7,σ7,H7,I7.unpinned,r7,q7⟩
end
theorem for_list {K:PySem.W.Frag} {a:Addr} {xs:List V} {g:TG} {tb:TS} {D:Ends} {σ:St} {H:Hp} (Pv:Nat→St→Hp→Prop) (h0:Pv 0 σ H) (hl:∀ i σ H,i≤xs.length→Pv i σ H→SqL K H a xs)
  (hs:∀ i x σ H,xs[i]?=some x→Pv i σ H→g x σ H fun σ2 H2=>tb { D with nx:=Pv (i+1),ct:=Pv (i+1),bk:=D.nx } σ2 H2) (hd:∀ σ H,Pv xs.length σ H→D.nx σ H) :
  ∃ W:Nat→Nat→St→Hp→Prop,(∃ m,W 0 m σ H)∧∀ i m σ H,W i m σ H →
   ((Itl K a).stop i H∧D.nx σ H)∨((Itl K a).go i H∧∃ N:St→Hp→Prop,(∀ σ' H',N σ' H'→∃ m',m' < m∧W (i+1) m' σ' H')∧∀ x H',(Itl K a).yld i H x H'→g x σ H' fun σ2 H2=>tb { D with nx:=N,ct:=N,bk:=D.nx } σ2 H2):=by
 refine ⟨fun i m σ H=>m=xs.length - i∧i≤xs.length∧Pv i σ H,⟨xs.length,by simp,Nat.zero_le _,h0⟩,?_⟩
 rintro i m σ H ⟨rfl,hi,p⟩
 have q:=hl i σ H hi p
 by_cases hlt:i < xs.length
 ·refine .inr ⟨⟨xs,xs[i],q,by simp [hlt]⟩,Pv (i+1),fun σ' H' p'=>⟨xs.length - (i+1),by omega,rfl,hlt,p'⟩,fun x H' y=>?_⟩
  obtain ⟨e,y⟩:=y
  subst e
  exact hs i x σ _ (y xs q) p
 ·have e:i=xs.length:=by omega
  subst e
  exact .inl ⟨⟨xs,q,Nat.le_refl _⟩,hd σ H p⟩
theorem for_tup {K:PySem.W.Frag} {a:Addr} {xs:List V} {g:TG} {tb:TS} {D:Ends} {σ:St} {H:Hp} (Pv:Nat→St→Hp→Prop) (h0:Pv 0 σ H) (hl:∀ i σ H,i≤xs.length→Pv i σ H→SqT K H a xs)
  (hs:∀ i x σ H,xs[i]?=some x→Pv i σ H→g x σ H fun σ2 H2=>tb { D with nx:=Pv (i+1),ct:=Pv (i+1),bk:=D.nx } σ2 H2) (hd:∀ σ H,Pv xs.length σ H→D.nx σ H) :
  ∃ W:Nat→Nat→St→Hp→Prop,(∃ m,W 0 m σ H)∧∀ i m σ H,W i m σ H →
   ((Itt K a).stop i H∧D.nx σ H)∨((Itt K a).go i H∧∃ N:St→Hp→Prop,(∀ σ' H',N σ' H'→∃ m',m' < m∧W (i+1) m' σ' H')∧∀ x H',(Itt K a).yld i H x H'→g x σ H' fun σ2 H2=>tb { D with nx:=N,ct:=N,bk:=D.nx } σ2 H2):=by
 refine ⟨fun i m σ H=>m=xs.length - i∧i≤xs.length∧Pv i σ H,⟨xs.length,by simp,Nat.zero_le _,h0⟩,?_⟩
 rintro i m σ H ⟨rfl,hi,p⟩
 have q:=hl i σ H hi p
 by_cases hlt:i < xs.length
 ·refine .inr ⟨⟨xs,xs[i],q,by simp [hlt]⟩,Pv (i+1),fun σ' H' p'=>⟨xs.length - (i+1),by omega,rfl,hlt,p'⟩,fun x H' y=>?_⟩
  obtain ⟨e,y⟩:=y
  subst e
  exact hs i x σ _ (y xs q) p
 ·have e:i=xs.length:=by omega
  subst e
  exact .inl ⟨⟨xs,q,Nat.le_refl _⟩,hd σ H p⟩
theorem for_range {lo:Int} {n:Nat} {g:TG} {tb:TS} {D:Ends} {σ:St} {H:Hp} (Pv:Nat→St→Hp→Prop) (h0:Pv 0 σ H)
  (hs:∀ i σ H,i < n→Pv i σ H→g (.int (lo+i)) σ H fun σ2 H2=>tb { D with nx:=Pv (i+1),ct:=Pv (i+1),bk:=D.nx } σ2 H2) (hd:∀ σ H,Pv n σ H→D.nx σ H) :
  ∃ W:Nat→Nat→St→Hp→Prop,(∃ m,W 0 m σ H)∧∀ i m σ H,W i m σ H →
   ((Itr lo n).stop i H∧D.nx σ H)∨((Itr lo n).go i H∧∃ N:St→Hp→Prop,(∀ σ' H',N σ' H'→∃ m',m' < m∧W (i+1) m' σ' H')∧∀ x H',(Itr lo n).yld i H x H'→g x σ H' fun σ2 H2=>tb { D with nx:=N,ct:=N,bk:=D.nx } σ2 H2):=by
 refine ⟨fun i m σ H=>m=n - i∧i≤n∧Pv i σ H,⟨n,by simp,Nat.zero_le _,h0⟩,?_⟩
 rintro i m σ H ⟨rfl,hi,p⟩
 by_cases hlt:i < n
 ·refine .inr ⟨hlt,Pv (i+1),fun σ' H' p'=>⟨n - (i+1),by omega,rfl,hlt,p'⟩,fun x H' y=>?_⟩
  obtain ⟨e,y⟩:=y
  subst e y
  exact hs i σ _ hlt p
 ·have e:i=n:=by omega
  subst e
  exact .inl ⟨Nat.le_refl _,hd σ H p⟩
end L2
namespace L2
open PySem PySem.Spec PyProof.Rows
abbrev R2:=V→V→Hp→VK→Prop
def OpR (X:Cx) (f:Value→Value→Sem Value) (r:R2):Prop :=
 ∀ (pins:List (Addr×Obj)) (s:Shared) (σ:St) (H:Hp) (x y:V) (v u:Value) (Q:VK),Inv X pins σ H s→RelV x v→RelV y u→r x y H Q →
  wpAny (model X.prog X.w) X.A (f v u) (EP X pins σ Q) X.xe s
def UnR (X:Cx) (f:Value→Sem Value) (r:V→Hp→VK→Prop):Prop :=
 ∀ (pins:List (Addr×Obj)) (s:Shared) (σ:St) (H:Hp) (x:V) (v:Value) (Q:VK),Inv X pins σ H s→RelV x v→r x H Q →
  wpAny (model X.prog X.w) X.A (f v) (EP X pins σ Q) X.xe s
def CallR (X:Cx) (f:Value) (r:List V→Hp→VK→Prop):Prop :=
 ∀ (pins:List (Addr×Obj)) (s:Shared) (σ:St) (H:Hp) (xs:List V) (us:List Value) (Q:VK),Inv X pins σ H s→Vals xs us→r xs H Q →
  wpAny (model X.prog X.w) X.A (call f us) (EP X pins σ Q) X.xe s
def TruR (X:Cx) (r:V→Hp→(Bool→Hp→Prop)→Prop):Prop :=
 ∀ (pins:List (Addr×Obj)) (s:Shared) (σ:St) (H:Hp) (x:V) (v:Value) (Q:Bool→Hp→Prop),Inv X pins σ H s→RelV x v→r x H Q →
  wpAny (model X.prog X.w) X.A (truthy v) (TP X pins σ Q) X.xe s
def tOp (r:R2) (ta tb:TE):TE:=fun σ H Q=>ta σ H fun x H1=>tb σ H1 fun y H2=>r x y H2 Q
def tUn (r:V→Hp→VK→Prop) (ta:TE):TE:=fun σ H Q=>ta σ H fun x H1=>r x H1 Q
def rI (C:Int→Int→Prop) (g:Int→Int→V):R2:=fun x y H Q=>∃ i j,x=.int i∧y=.int j∧C i j∧Q (g i j) H
def rI0 (g:Int→Int→V):R2:=fun x y H Q=>∃ i j,x=.int i∧y=.int j∧Q (g i j) H
def rU (g:Int→V):V→Hp→VK→Prop:=fun x H Q=>∃ i,x=.int i∧Q (g i) H
section
variable {X:Cx} {a b c:Expr} {ta tb tc:TE} {pos:Pos}
theorem binT (ha:PE X a ta) (hb:PE X b tb) {pins:List (Addr×Obj)} {s:Shared} {σ:St} {H:Hp} {R:V→V→Hp→Prop} (I:Inv X pins σ H s)
  (h:ta σ H fun x H1=>tb σ H1 fun y H2=>R x y H2) {Q:Value→Shared→Prop} {f:Value→Value→Sem Value}
  (hf:∀ v u s2 x y H2,Inv X pins σ H2 s2→RelV x v→RelV y u→R x y H2→wpAny (model X.prog X.w) X.A (f v u) Q X.xe s2) :
  wpAny (model X.prog X.w) X.A (eval a X.env) (fun v s₁=>wpAny (model X.prog X.w) X.A (eval b X.env) (fun u s₂=>wpAny (model X.prog X.w) X.A (f v u) Q X.xe s₂) X.xe s₁) X.xe s:=by
 refine thn (ha pins s σ H _ I h) fun v s1 ⟨x,H1,I1,r1,q1⟩=>?_
 refine thn (hb pins s1 σ H1 _ I1 q1) fun u s2 ⟨y,H2,I2,r2,q2⟩=>?_
 exact hf v u s2 x y H2 I2 r1 r2 q2
theorem pe_op {op:Operator} {r:R2} (ho:OpR X (binaryOp op) r) (ha:PE X a ta) (hb:PE X b tb):PE X (.BinOp a op b pos) (tOp r ta tb):=by
 intro pins s σ H Q I h
 exact wpAny_BinOp (binT ha hb I h fun v u s2 x y H2 I2 rx ry q=>ho pins s2 σ H2 x y v u Q I2 rx ry q)
theorem pe_un {op:UnaryOp} {r:V→Hp→VK→Prop} (ho:UnR X (unaryOp op) r) (ha:PE X a ta):PE X (.UnaryOp op a pos) (tUn r ta):=by
 intro pins s σ H Q I h
 exact UnaryOp_ (thn (ha pins s σ H _ I h) fun v s1 ⟨x,H1,I1,r1,q1⟩=>ho pins s1 σ H1 x v Q I1 r1 q1)
theorem opI {f:Value→Value→Sem Value} {C:Int→Int→Prop} {g:Int→Int→Int}
  (rule:∀ (i j:Int) (t u:Tok) (s:Shared) (Q:Value→Shared→Prop) (E:Value→Shared→Prop),C i j→Q (.int (g i j) s.toks) { s with toks:=s.toks+1 }→wpAny (model X.prog X.w) X.A (f (.int i t) (.int j u)) Q E s) :
  OpR X f (rI C fun i j=>.int (g i j)):=by
 intro pins s σ H x y v u Q I rx ry h
 obtain ⟨i,j,rfl,rfl,hc,q⟩:=h
 obtain ⟨t,rfl⟩:=rx
 obtain ⟨t',rfl⟩:=ry
 exact rule i j t t' s _ _ hc ⟨.int (g i j),H,I.tok _,⟨_,rfl⟩,q⟩
theorem opI0 {f:Value→Value→Sem Value} {g:Int→Int→Int}
  (rule:∀ (i j:Int) (t u:Tok) (s:Shared) (Q:Value→Shared→Prop) (E:Value→Shared→Prop),Q (.int (g i j) s.toks) { s with toks:=s.toks+1 }→wpAny (model X.prog X.w) X.A (f (.int i t) (.int j u)) Q E s) :
  OpR X f (rI0 fun i j=>.int (g i j)):=by
 intro pins s σ H x y v u Q I rx ry h
 obtain ⟨i,j,rfl,rfl,q⟩:=h
 obtain ⟨t,rfl⟩:=rx
 obtain ⟨t',rfl⟩:=ry
 exact rule i j t t' s _ _ ⟨.int (g i j),H,I.tok _,⟨_,rfl⟩,q⟩
theorem opB0 {f:Value→Value→Sem Value} {g:Int→Int→Bool}
  (rule:∀ (i j:Int) (t u:Tok) (s:Shared) (Q:Value→Shared→Prop) (E:Value→Shared→Prop),Q (.bool (g i j)) s→wpAny (model X.prog X.w) X.A (f (.int i t) (.int j u)) Q E s) :
  OpR X f (rI0 fun i j=>.bl (g i j)):=by
 intro pins s σ H x y v u Q I rx ry h
 obtain ⟨i,j,rfl,rfl,q⟩:=h
 obtain ⟨t,rfl⟩:=rx
 obtain ⟨t',rfl⟩:=ry
 exact rule i j t t' s _ _ ⟨.bl (g i j),H,I,rfl,q⟩
def CDiv (i j:Int):Prop:=0 < j∧j < 1073741824
def CMul (i j:Int):Prop:=(-(2 ^ 64) < i∧i < 2 ^ 64)∨(-(2 ^ 64) < j∧j < 2 ^ 64)
theorem CMul.ok {i j:Int} (h:CMul i j):IntMulOk i j:=by
 rcases h with ⟨h1,h2⟩ | ⟨h1,h2⟩
 ·exact .of_left (intBits_le_64 h1 h2)
 ·exact .of_right (intBits_le_64 h1 h2)
theorem op_add:OpR X (binaryOp .Add) (rI0 fun i j=>.int (i+j)):=opI0 fun _ _ _ _ _ _ _ q=>add_int q
theorem op_sub:OpR X (binaryOp .Sub) (rI0 fun i j=>.int (i - j)):=opI0 fun _ _ _ _ _ _ _ q=>sub_int q
theorem op_mul:OpR X (binaryOp .Mult) (rI CMul fun i j=>.int (i * j)):=opI fun _ _ _ _ _ _ _ hc q=>mul_int q hc.ok
theorem op_fdiv:OpR X (binaryOp .FloorDiv) (rI CDiv fun i j=>.int (i / j)):=opI fun i j _ _ _ _ _ hc q=>by
 have h1:(0:Int) < j:=hc.1
 have h2:j < 1073741824:=hc.2
 exact floordiv_int (by omega) (by rw [Int.fdiv_eq_ediv_of_nonneg i (by omega)]; exact q) (.inl (PyProof.noPylong_small (by omega)))
theorem op_mod:OpR X (binaryOp .Mod) (rI (fun _ j=>0 < j) fun i j=>.int (i % j)):=opI fun i j _ _ _ _ _ hc q=>by
 have h1:(0:Int) < j:=hc
 exact mod_int' (by omega) (by rw [Int.fmod_eq_emod_of_nonneg i (by omega)]; exact q)
theorem unI {f:Value→Sem Value} {g:Int→Int}
  (rule:∀ (i:Int) (t:Tok) (s:Shared) (Q:Value→Shared→Prop) (E:Value→Shared→Prop),Q (.int (g i) s.toks) { s with toks:=s.toks+1 }→wpAny (model X.prog X.w) X.A (f (.int i t)) Q E s) :
  UnR X f (rU fun i=>.int (g i)):=by
 intro pins s σ H x v Q I rx h
 obtain ⟨i,rfl,q⟩:=h
 obtain ⟨t,rfl⟩:=rx
 exact rule i t s _ _ ⟨.int (g i),H,I.tok _,⟨_,rfl⟩,q⟩
theorem un_neg:UnR X (unaryOp .USub) (rU fun i=>.int (-i)):=unI fun _ _ _ _ _ q=>neg_int q
end
def scal:V→V→Bool
 | .non,.non=>true | .non,.int _=>true | .int _,.non=>true | .non,.bl _=>true | .bl _,.non=>true | .non,.str _=>true | .str _,.non=>true
 | .int _,.int _=>true | .bl _,.bl _=>true | .str _,.str _=>true | .byt _,.byt _=>true
 | .int _,.str _=>true | .str _,.int _=>true | .bl _,.str _=>true | .str _,.bl _=>true
 | _,_=>false
def rEq:R2:=fun x y H Q=>scal x y=true∧Q (.bl (decide (x=y))) H
theorem dec_int {i j:Int}:decide (V.int i=V.int j)=(i == j):=by
 rw [Bool.eq_iff_iff]
 simp
theorem dec_bl {i j:Bool}:decide (V.bl i=V.bl j)=(i == j):=by
 rw [Bool.eq_iff_iff]
 simp
theorem dec_str {i j:Str}:decide (V.str i=V.str j)=(i == j):=by
 rw [Bool.eq_iff_iff]
 simp
theorem dec_byt {i j:Array UInt8}:decide (V.byt i=V.byt j)=(i.toList == j.toList):=by
 rw [Bool.eq_iff_iff]
 cases i
 cases j
 simp
section
variable {X:Cx} {a b c:Expr} {ta tb tc:TE} {pos:Pos}
theorem fin_bl {pins:List (Addr×Obj)} {σ:St} {H:Hp} {s:Shared} {Q:VK} {k k':Bool} (I:Inv X pins σ H s) (q:Q (.bl k) H) (e:k=k'):EP X pins σ Q (.bool k') s:=by
 subst e
 exact ⟨.bl k,H,I,rfl,q⟩
theorem op_eq:OpR X (compareOp .Eq) rEq:=by
 intro pins s σ H x y v u Q I rx ry h
 obtain ⟨hs,q⟩:=h
 cases x with
 | non =>
  cases rx
  cases y with
  | non=>cases ry; exact PySem.EqNone.eq_none_none (fin_bl I q (by simp))
  | bl j=>cases ry; exact PySem.EqNone.eq_none_bool (fin_bl I q (by simp))
  | int j=>obtain ⟨t',rfl⟩:=ry; exact PySem.EqNone.eq_none_int (fin_bl I q (by simp))
  | str j=>obtain ⟨t',rfl⟩:=ry; exact PySem.EqNone.eq_none_str (fin_bl I q (by simp))
  | _=>exact absurd (show false=true from hs) Bool.false_ne_true
 | bl i =>
  cases rx
  cases y with
  | non=>cases ry; exact PySem.EqNone.eq_bool_none (fin_bl I q (by simp))
  | bl j=>cases ry; exact eq_bool (fin_bl I q dec_bl)
  | str j=>obtain ⟨t',rfl⟩:=ry; exact PySem.EqMixed.eq_bool_str (fin_bl I q (by simp))
  | _=>exact absurd (show false=true from hs) Bool.false_ne_true
 | int i =>
  obtain ⟨t,rfl⟩:=rx
  cases y with
  | non=>cases ry; exact PySem.EqNone.eq_int_none (fin_bl I q (by simp))
  | int j=>obtain ⟨t',rfl⟩:=ry; exact eq_int (fin_bl I q dec_int)
  | str j=>obtain ⟨t',rfl⟩:=ry; exact PySem.EqMixed.eq_int_str (fin_bl I q (by simp))
  | _=>exact absurd (show false=true from hs) Bool.false_ne_true
 | str i =>
  obtain ⟨t,rfl⟩:=rx
  cases y with
  | non=>cases ry; exact PySem.EqNone.eq_str_none (fin_bl I q (by simp))
  | bl j=>cases ry; exact PySem.EqMixed.eq_str_bool (fin_bl I q (by simp))
  | int j=>obtain ⟨t',rfl⟩:=ry; exact PySem.EqMixed.eq_str_int (fin_bl I q (by simp))
  | str j=>obtain ⟨t',rfl⟩:=ry; exact eq_str (fin_bl I q dec_str)
  | _=>exact absurd (show false=true from hs) Bool.false_ne_true
 | byt i =>
  obtain ⟨t,rfl⟩:=rx
  cases y with
  | byt j=>obtain ⟨t',rfl⟩:=ry; exact PySem.W.eq_bytes (fin_bl I q dec_byt)
  | _=>exact absurd (show false=true from hs) Bool.false_ne_true
 | _=>cases y <;> exact absurd (show false=true from hs) Bool.false_ne_true
theorem op_lt:OpR X (compareOp .Lt) (rI0 fun i j=>.bl (decide (i < j))):=opB0 fun _ _ _ _ _ _ _ q=>lt_int q
theorem op_gt:OpR X (compareOp .Gt) (rI0 fun i j=>.bl (decide (j < i))):=opB0 fun _ _ _ _ _ _ _ q=>gt_int q
theorem OpR.or {f:Value→Value→Sem Value} {r r':R2} (h:OpR X f r) (h':OpR X f r'):OpR X f (fun x y H Q=>r x y H Q∨r' x y H Q):=by
 intro pins s σ H x y v u Q I rx ry q
 rcases q with q | q
 ·exact h pins s σ H x y v u Q I rx ry q
 ·exact h' pins s σ H x y v u Q I rx ry q
theorem nomark (b:Expr) {op:CmpOp} (h:op≠.In:=by decide) (h2:op≠.NotIn:=by decide):behindInMarks op b=false:=by
 have e1:(op == CmpOp.In)=false:=by cases op <;> first | rfl | exact absurd rfl h
 have e2:(op == CmpOp.NotIn)=false:=by cases op <;> first | rfl | exact absurd rfl h2
 cases b <;> simp [behindInMarks,e1,e2]
theorem pe_cmpR {op:CmpOp} {r:R2} (ho:OpR X (compareOp op) r) (ha:PE X a ta) (hb:PE X b tb) (hm:behindInMarks op b=false):PE X (.Compare a [op] [b] pos) (tOp r ta tb):=by
 intro pins s σ H Q I h
 exact wpAny_Compare1 (binT ha hb I h fun v u s2 x y H2 I2 rx ry q=>ho pins s2 σ H2 x y v u Q I2 rx ry q) hm
def tTest (t:TE):TT:=fun σ H Q=>t σ H fun x H'=>∃ k,x=.bl k∧Q k H'
theorem pt_cmpR {op:CmpOp} {r:R2} (ho:OpR X (compareOp op) r) (ha:PE X a ta) (hb:PE X b tb) (hm:behindInMarks op b=false):PT X (.Compare a [op] [b] pos) (tTest (tOp r ta tb)):=by
 intro pins s σ H Q I h
 refine wpAny_isTrue_Compare1 (thn (ha pins s σ H _ I h) fun v s1 ⟨x,H1,I1,r1,q1⟩=>thn (hb pins s1 σ H1 _ I1 q1) fun u s2 ⟨y,H2,I2,r2,q2⟩ =>
  thn (ho pins s2 σ H2 x y v u _ I2 r1 r2 q2) fun c s3 ⟨z,H3,I3,r3,k,e,q3⟩=>?_) hm
 subst e
 cases r3
 exact wpAny_truthy_bool ⟨H3,I3,q3⟩
def TruV (K:PySem.W.Frag) (x:V) (H:Hp) (k:Bool):Prop :=
 match x with
 | .non=>k=false
 | .bl b=>k=b
 | .int i=>k=(i != 0)
 | .str y=>y.length≤sizeLine∧k=((y.length:Int) != 0)
 | .byt y=>y.size≤sizeLine∧k=((y.size:Int) != 0)
 | .ref p=>(∃ xs,SqL K H p xs∧k=!xs.isEmpty)∨(∃ xs,SqT K H p xs∧k=!xs.isEmpty)∨∃ kvs,H p=some (.dK kvs)∧k=!kvs.isEmpty
 | _=>False
theorem isEmpty_kv {κ:Type} {kvs:List (κ×V)} {vs:List (κ×Value)} (r:KV kvs vs):(!vs.isEmpty)=!kvs.isEmpty:=by
 cases r <;> rfl
theorem isEmpty_of {xs:List V} {its:List Value} (r:Vals xs its):(!its.toArray.isEmpty)=!xs.isEmpty:=by
 cases r <;> simp
theorem line63:(sizeLine:Nat) < 2 ^ 63:=by rw [sizeLine_eq]; decide
theorem tru_ok:TruR X (fun x H Q=>∃ k,TruV X.K x H k∧Q k H):=by
 intro pins s σ H x v Q I rx h
 obtain ⟨k,e,q⟩:=h
 have hl:=line63
 have hs:sizeLine=16777216:=sizeLine_eq
 cases x with
 | non =>
  cases rx
  have e':k=false:=e
  subst e'
  exact truthy_none ⟨H,I,q⟩
 | bl b =>
  cases rx
  have e':k=b:=e
  subst e'
  exact wpAny_truthy_bool ⟨H,I,q⟩
 | int i =>
  obtain ⟨t,rfl⟩:=rx
  have e':k=(i != 0):=e
  subst e'
  exact PySem.P.truthy_int ⟨H,I,q⟩
 | str y =>
  obtain ⟨t,rfl⟩:=rx
  obtain ⟨hy,e'⟩:y.length≤sizeLine∧k=((y.length:Int) != 0):=e
  subst e'
  exact PySem.P.truthy_str (by omega) ⟨H,I.tok _,q⟩
 | byt y =>
  obtain ⟨t,rfl⟩:=rx
  obtain ⟨hy,e'⟩:y.size≤sizeLine∧k=((y.size:Int) != 0):=e
  subst e'
  exact PySem.W.truthy_bytes (by omega) ⟨H,I.tok _,q⟩
 | ref p =>
  cases rx
  have e':(∃ xs,SqL X.K H p xs∧k=!xs.isEmpty)∨(∃ xs,SqT X.K H p xs∧k=!xs.isEmpty)∨∃ kvs,H p=some (.dK kvs)∧k=!kvs.isEmpty:=e
  rcases e' with ⟨xs,hx,e'⟩ | ⟨xs,hx,e'⟩ | ⟨kvs,hx,e'⟩
  ·subst e'
   obtain ⟨its,r,pl,hz⟩:=I.list hx
   have hlen:=r.length
   exact wpAny_truthy_list pl.isList (by simp only [List.size_toArray]; omega) ⟨H,I.tok _,by rw [isEmpty_of r]; exact q⟩
  ·subst e'
   obtain ⟨its,r,pl,hz⟩:=I.tuple hx
   have hlen:=r.length
   exact truthy_tuple pl (by simp only [List.size_toArray]; omega) ⟨H,I.tok _,by rw [isEmpty_of r]; exact q⟩
  ·subst e'
   obtain ⟨hz,hS,vs,r,m⟩:kvs.length≤sizeLine∧(p == sysModules)=false∧∃ vs,KV kvs vs∧s.heap.DictOf (mixKind X.prog X.w) p vs:=I.hok p _ hx
   have hlen:kvs.length=vs.length:=Paired.length r
   exact wpAny_truthy_dict hS m (by omega) ⟨H,I.tok _,by rw [isEmpty_kv r]; exact q⟩
 | _=>exact (show False from e).elim
theorem pt_truth (ha:PE X a ta) (he:∀ whole,isTrue a X.env whole=(do let v ← whole; standAt a.pos; holding [v] (truthy v))) :
  PT X a (fun σ H Q=>ta σ H fun x H'=>∃ k,TruV X.K x H' k∧Q k H'):=by
 intro pins s σ H Q I h
 exact isTrue_plain (thn (ha pins s σ H _ I h) fun v s1 ⟨x,H1,I1,r1,q1⟩=>tru_ok pins s1 σ H1 x v Q I1 r1 q1) (he _)
theorem op_add_str:OpR X (binaryOp .Add) (fun x y H Q=>∃ i j,x=.str i∧y=.str j∧i.length+j.length≤sizeLine∧Q (.str (i++j)) H):=by
 intro pins s σ H x y v u Q I rx ry h
 obtain ⟨i,j,rfl,rfl,hz,q⟩:=h
 obtain ⟨t,rfl⟩:=rx
 obtain ⟨t',rfl⟩:=ry
 exact add_str (fun t' tk=>⟨.str (i++j),H,I.tok _,⟨_,rfl⟩,q⟩) hz
theorem vals1 {x:V} {us:List Value} (r:Vals [x] us):∃ u,us=[u]∧RelV x u:=by
 cases r with
 | cons r1 r2=>cases r2; exact ⟨_,rfl,r1⟩
theorem vals2 {x y:V} {us:List Value} (r:Vals [x,y] us):∃ u w',us=[u,w']∧RelV x u∧RelV y w':=by
 cases r with
 | cons r1 r2 =>
  cases r2 with
  | cons r3 r4=>cases r4; exact ⟨_,_,rfl,r1,r3⟩
theorem call_max2 (hc:X.calm=true):CallR X (.builtin "max") (fun xs H Q=>∃ i j,xs=[.int i,.int j]∧Q (.int (if j > i then j else i)) H):=by
 intro pins s σ H xs us Q I r h
 obtain ⟨i,j,rfl,q⟩:=h
 obtain ⟨u,w',rfl,⟨t,rfl⟩,⟨t',rfl⟩⟩:=vals2 r
 refine max_two_ints (I.ok.hd hc) fun h' tk k=>⟨_,H,I.kept k,?_,q⟩
 by_cases hj:j > i
 ·rw [if_pos hj,if_pos hj]; exact ⟨_,rfl⟩
 ·rw [if_neg hj,if_neg hj]; exact ⟨_,rfl⟩
end
end L2
namespace L2
open PySem PySem.Spec PyProof.Rows
structure ObjM (h:Heap) (x dx C:Addr) (mA:Str→Option Value):Prop where
 obj:h.get? x=some (PySem.W.instObj C dx)
 ns:h.Ns1 dx mA
 ne:dx≠x
theorem lookIn_ns {h:Heap} {dx:Addr} {mA:Str→Option Value} (n:h.Ns1 dx mA):∃ od,h.get? dx=some od∧∀ name,PySem.W.lookIn name od=some (mA name):=by
 obtain ⟨o,es,ep,ho,hd,hk,_,hm⟩:=n
 refine ⟨o,ho,fun name=>?_⟩
 have e:=hm name
 unfold nsFind findBy at e
 rw [← Array.find?_toList] at e
 unfold PySem.W.lookIn
 rw [hd]
 dsimp only
 split
 ·rename_i y q
  rw [q] at e
  exact congrArg some e
 ·rename_i q
  rw [q] at e
  have a:es.toList.any (·.refKey)=false:=by
   rw [List.any_eq_false]
   intro y hy
   obtain ⟨z,t,hkey⟩:=hk y (Array.mem_toList_iff.mp hy)
   simp [DictEntry.refKey,hkey]
  have a':¬ es.toList.any (·.refKey)=true:=by rw [a]; exact Bool.false_ne_true
  rw [if_neg a']
  exact congrArg some e
theorem ObjM.look {h:Heap} {x dx C:Addr} {mA:Str→Option Value} (I:ObjM h x dx C mA):∃ od,PySem.W.InstAt h x (PySem.W.instObj C dx) C (some od)∧∀ name,PySem.W.lookIn name od=some (mA name) :=
 let ⟨od,ho,hl⟩:=lookIn_ns I.ns
 ⟨od,⟨I.obj,rfl,rfl,ho⟩,hl⟩
section
variable {prog:Program} {w:World} {A:Around} {E:Value→Shared→Prop} {s:Shared} {K:PySem.W.Frag} {x dx C f:Addr} {mA:Str→Option Value} {name:Str} {v:Value}
theorem get_map {expr:Bool} {Q:Value→Shared→Prop} (X:K.In s.heap) (I:ObjM s.heap x dx C mA) (hg:PySem.W.plainGet K C name=true) (hh:PySem.W.hasDictIn K C=true)
  (ha:PySem.W.findIn K (.ref C) name=some none) (hv:mA name=some v) (hv':PySem.W.handedIn v=true) (h:Q v { s with toks:=s.toks+1 }) :
  wpAny (model prog w) A (getAttr (.ref x) name expr) Q E s:=by
 obtain ⟨od,J,hl⟩:=I.look
 exact PySem.W.get_value X J (PySem.W.plainGet_of hg).1 (PySem.W.findObj_own hh ha rfl (by rw [hl,hv])) hv' h
theorem get_meth {pl:Sem Bool} {Q:Value×List Value→Shared→Prop} (X:K.In s.heap) (I:ObjM s.heap x dx C mA) (hg:PySem.W.plainGet K C name=true)
  (hf:PySem.W.findIn K (.ref C) name=some (some (.ref f))) (ht:PySem.W.isFn K (.ref f)=true) (hv:mA name=none) (h:Q (.ref f,[.ref x]) s) :
  wpAny (model prog w) A (getMethod (.ref x) name pl) Q E s:=by
 obtain ⟨od,J,hl⟩:=I.look
 exact PySem.W.method_fn X J (PySem.W.plainGet_of hg).1 (PySem.W.plainGet_of hg).2 hf (beq_iff_eq.mp ht) (by show (PySem.W.lookIn name od).map (·.isSome)=some false; rw [hl,hv]; rfl) h
theorem set_map {ns:List Str} {Q:Unit→Shared→Prop} (X:K.In s.heap) (I:ObjM s.heap x dx C mA)
  (hs:PySem.W.findIn K (.ref C) "__setattr__"=some (some (.builtin "object.__setattr__"))) (hp:PySem.W.plainOver K C=true) (ht:PySem.W.takerIn K C name=some none) (hh:PySem.W.hasDictIn K C=true)
  (hw:PySem.Within mA ns) (hsz:ns.length≤sizeLine)
  (h:∀ h',ObjM h' x dx C (fun y=>if y=name then some v else mA y)→Heap.SameBut dx s.heap h'→Q () { s with heap:=h',toks:=s.toks+2 }) :
  wpAny (model prog w) A (setAttr (.ref x) name v) Q E s:=by
 obtain ⟨od,J,hl⟩:=I.look
 refine PySem.W.set_plain X J hs (PySem.W.osa_open (s:={ s with toks:=s.toks+1 }) (r:=none) X J hp ht fun b=>?_)
 obtain ⟨cd,hc,hd'⟩:=PySem.W.any_some hh
 have hx:s.heap.get? x=some ⟨.ref C,some dx,.plain,#[]⟩:=I.obj
 refine wpAny_bind (wpAny_pure (wpAny_bind (wpAny_bind (wpAny_loadPart hx (wpAny_bind (PySem.W.Looks.here (s:={ s with toks:=s.toks+1 }) (PySem.W.looks_clsIn X hc) ?_))))))
 rw [hd']
 refine wpAny_pure (a:=some dx) (wpAny_bind (wpAny_pure (wpAny_bind ?_)))
 refine wpAny_nsSet1 (s:={ s with toks:=s.toks+1 }) I.ns fun h' hn2 hs2=>?_
 obtain ⟨oD,esD,epD,hoD,hdD,hcD⟩:=hn2.count (PySem.Within.cons name v hw)
 refine wpAny_bind (wpAny_lookBehind hoD (by rw [hdD]; exact pastItsLine_dict (Nat.le_trans hcD (by rw [List.length_cons]; omega))) ?_)
 exact wpAny_pure (h _ ⟨(hs2.2 _ (Ne.symm I.ne)).trans I.obj,hn2,I.ne⟩ hs2)
theorem make_map {R:Result→Shared→Prop} {vs:List Value} {kw:List (Str×Value)} (X:K.In s.heap) (hm:PySem.W.makesIn K C=true)
  (hi:PySem.W.findIn K (.ref C) "__init__"=some (some (.ref f))) (hf:PySem.W.typeIn K (.ref f)=some (.type "function"))
  (h:codeAny (model prog w) (A.under (.builtin "type.__call__" ⟨.ref C::vs,kw⟩)) (.call (.ref f) ⟨.ref (s.heap.objs.size+1)::vs,kw⟩) (PySem.W.InitBack (s.heap.objs.size+1) R)
   { s with heap:=(s.heap.push PySem.W.emptyDict).push (PySem.W.instObj C s.heap.objs.size) }) :
  codeAny (model prog w) A (.call (.ref C) ⟨vs,kw⟩) R s:=by
 obtain ⟨hh,g,d,t,os⟩:=s
 exact PySem.W.make_core (PySem.W.makes_of X hm) (PySem.W.looks_findIn X hi) (fun self=>PySem.W.bind_fn X self hf) (.inl rfl) h
end
def putF (f:Str) (v:V):List (Str×V)→List (Str×V)
 | []=>[(f,v)]
 | (g,x)::r=>if g=f then (g,v)::r else (g,x)::putF f v r
theorem lookup_putF (f g:Str) (v:V):∀ fs:List (Str×V),(putF f v fs).lookup g=if g=f then some v else fs.lookup g
 | []=>by
  show List.lookup g [(f,v)]=_
  by_cases h:g=f
  ·have hb:(g == f)=true:=beq_iff_eq.mpr h
   simp only [List.lookup,hb,if_pos h]
  ·have hb:(g == f)=false:=beq_eq_false_iff_ne.mpr h
   simp only [List.lookup,hb,if_neg h]
 | (k,x)::r=>by
  have ih:=lookup_putF f g v r
  rw [show putF f v ((k,x)::r)=(if k=f then (k,v)::r else (k,x)::putF f v r) from rfl]
  by_cases hk:k=f
  ·rw [if_pos hk]
   by_cases h:g=k
   ·have hb:(g == k)=true:=beq_iff_eq.mpr h
    simp only [List.lookup,hb,if_pos (h.trans hk)]
   ·have hb:(g == k)=false:=beq_eq_false_iff_ne.mpr h
    simp only [List.lookup,hb,if_neg (fun e:g=f=>h (e.trans hk.symm))]
  ·rw [if_neg hk]
   by_cases h:g=k
   ·have hb:(g == k)=true:=beq_iff_eq.mpr h
    simp only [List.lookup,hb,if_neg (fun e:g=f=>hk (h.symm.trans e))]
   ·have hb:(g == k)=false:=beq_eq_false_iff_ne.mpr h
    simp only [List.lookup,hb]
    exact ih
theorem keys_putF (f:Str) (v:V):∀ fs:List (Str×V),f∈(putF f v fs).map (·.1)∧∀ g,g∈fs.map (·.1)→g∈(putF f v fs).map (·.1)
 | []=>⟨by simp [putF],fun g h=>by simp at h⟩
 | (k,x)::r=>by
  obtain ⟨i1,i2⟩:=keys_putF f v r
  rw [show putF f v ((k,x)::r)=(if k=f then (k,v)::r else (k,x)::putF f v r) from rfl]
  by_cases hk:k=f
  ·rw [if_pos hk]
   subst hk
   exact ⟨by simp,fun g h=>by simpa using h⟩
  ·rw [if_neg hk]
   refine ⟨?_,fun g h=>?_⟩
   ·rw [List.map_cons]
    exact List.mem_cons_of_mem _ i1
   ·rw [List.map_cons] at h ⊢
    rcases List.mem_cons.mp h with e | e
    ·exact List.mem_cons.mpr (.inl e)
    ·exact List.mem_cons_of_mem _ (i2 g e)
theorem length_putF (f:Str) (v:V):∀ fs:List (Str×V),(putF f v fs).length≤fs.length+1
 | []=>by simp [putF]
 | (k,x)::r=>by
  have ih:=length_putF f v r
  rw [show putF f v ((k,x)::r)=(if k=f then (k,v)::r else (k,x)::putF f v r) from rfl]
  by_cases hk:k=f
  ·rw [if_pos hk,List.length_cons,List.length_cons]; omega
  ·rw [if_neg hk,List.length_cons,List.length_cons]; omega
theorem RelO.some_of {v:V} {o:Option Value} (r:RelO (some v) o):∃ u,o=some u∧RelV v u:=by
 cases o with
 | none=>exact (show False from r).elim
 | some u=>exact ⟨u,rfl,r⟩
theorem RelO.none_of {o:Option Value} (r:RelO none o):o=none:=by
 cases o with
 | none=>rfl
 | some u=>exact (show False from r).elim
theorem handed_of {v:V} {u:Value} (r:RelV v u):PySem.W.handedIn u=true:=by
 cases v with
 | non=>cases (show u=Value.none from r); rfl
 | bl b=>cases (show u=Value.bool b from r); rfl
 | int i=>obtain ⟨t,e⟩:=(show ∃ t,u=Value.int i t from r); cases e; rfl
 | str x=>obtain ⟨t,e⟩:=(show ∃ t,u=Value.str x t from r); cases e; rfl
 | byt b=>obtain ⟨t,e⟩:=(show ∃ t,u=Value.bytes b t from r); cases e; rfl
 | flt b=>obtain ⟨t,e⟩:=(show ∃ t,u=Value.float b t from r); cases e; rfl
 | ref a=>cases (show u=Value.ref a from r); rfl
 | ty n=>cases (show u=Value.type n from r); rfl
section
variable {P:Program} {w:World} {H H':Hp} {h h':Heap} {a C dx:Addr} {fs fs':List (Str×V)}
theorem ins_get (hok:HOk P w H h) (e:H a=some (.ins C dx fs)):∃ mA,ObjM h a dx C mA∧(∀ f,RelO (fs.lookup f) (mA f))∧PySem.Within mA (fs.map (·.1))∧fs.length≤1000∧H dx=some (.own a):=by
 obtain ⟨d,z,ne,ob,mA,n,r,q⟩:=(show ObjOk P w H h a (.ins C dx fs) from hok a _ e)
 exact ⟨mA,⟨ob,n,ne⟩,r,q,z,d⟩
end
structure Cls (K:PySem.W.Frag) (C:Addr):Prop where
 pg:PySem.W.plainGet K C Str.empty=true
 hd:PySem.W.hasDictIn K C=true
 po:PySem.W.plainOver K C=true
 sa:PySem.W.findIn K (.ref C) "__setattr__"=some (some (.builtin "object.__setattr__"))
theorem Cls.get {K:PySem.W.Frag} {C:Addr} (c:Cls K C) (f:Str):PySem.W.plainGet K C f=true:=c.pg
def NoAttr (K:PySem.W.Frag) (C:Addr) (f:Str):Prop:=PySem.W.findIn K (.ref C) f=some none
theorem NoAttr.taker {K:PySem.W.Frag} {C:Addr} {f:Str} (n:NoAttr K C f):PySem.W.takerIn K C f=some none:=by
 unfold PySem.W.takerIn
 rw [show PySem.W.findIn K (.ref C) f=some none from n]
 rfl
structure Con (K:PySem.W.Frag) (C:Addr) (f:Str) (v:V) (u:Value):Prop where
 at_:PySem.W.findIn K (.ref C) f=some (some u)
 rel:RelV v u
 get:PySem.W.specialIn K u "__get__"=some none
 cp:PySem.W.copiedNames.contains f=false
structure Meth (K:PySem.W.Frag) (C:Addr) (m:Str) (f:Addr):Prop where
 at_:PySem.W.findIn K (.ref C) m=some (some (.ref f))
 fn:PySem.W.isFn K (.ref f)=true
 kp:PySem.W.keepIn K (.ref f)=true
section
variable {X:Cx} {pins:List (Addr×Obj)} {σ:St} {H:Hp} {s:Shared} {a C dx:Addr} {fs:List (Str×V)} {f:Str} {v:V} {A:Around} {E:Value→Shared→Prop}
theorem getattr_ok {b:Bool} {Q:Value→Shared→Prop} (I:Inv X pins σ H s) (e:H a=some (.ins C dx fs)) (c:Cls X.K C) (n:NoAttr X.K C f) (l:fs.lookup f=some v)
  (h:∀ u s',Inv X pins σ H s'→RelV v u→Q u s'):wpAny (model X.prog X.w) A (getAttr (.ref a) f b) Q E s:=by
 obtain ⟨mA,O,r,_,_,_⟩:=ins_get I.hok e
 obtain ⟨u,hu,ru⟩:=RelO.some_of (v:=v) (o:=mA f) (by rw [← l]; exact r f)
 exact get_map I.kIn O (c.get f) c.hd n hu (handed_of ru) (h u _ (I.tok _) ru)
theorem getmeth_ok {m:Str} {g:Addr} {pl:Sem Bool} {Q:Value×List Value→Shared→Prop} (I:Inv X pins σ H s) (e:H a=some (.ins C dx fs)) (c:Cls X.K C) (k:Meth X.K C m g) (l:fs.lookup m=none)
  (h:Q (.ref g,[.ref a]) s):wpAny (model X.prog X.w) A (getMethod (.ref a) m pl) Q E s:=by
 obtain ⟨mA,O,r,_,_,_⟩:=ins_get I.hok e
 have hn:mA m=none:=RelO.none_of (by rw [← l]; exact r m)
 exact get_meth I.kIn O (c.get m) k.at_ k.fn hn h
theorem setattr_ok {y:V} {u:Value} {Q:Unit→Shared→Prop} (I:Inv X pins σ H s) (e:H a=some (.ins C dx fs)) (c:Cls X.K C) (n:NoAttr X.K C f) (hl:fs.length < 1000) (ry:RelV y u)
  (h:∀ s',Inv X pins σ (upd H a (.ins C dx (putF f y fs))) s'→Q () s'):wpAny (model X.prog X.w) A (setAttr (.ref a) f u) Q E s:=by
 obtain ⟨mA,O,r,wi,_,ho⟩:=ins_get I.hok e
 have hz:(fs.map (·.1)).length≤sizeLine:=by rw [List.length_map,sizeLine_eq]; omega
 refine set_map I.kIn O c.sa c.po n.taker c.hd wi hz fun h' O' sb=>h _ ?_
 have hd:∃ o,h'.get? dx=some o:=let ⟨o,_,_,e',_⟩:=O'.ns; ⟨o,e'⟩
 refine I.write (x:=a) (e:=dx) (by rw [e]; exact True.intro) (.inr ho) (fun b q hb z=>(sb.2 b hb).trans z) hd ?_
 refine ⟨by rw [upd_ne O.ne]; exact ho,?_,O.ne,O'.obj,_,O'.ns,fun g=>?_,fun g hg=>?_⟩
 ·have:=length_putF f y fs; omega
 ·show RelO ((putF f y fs).lookup g) (if g=f then some u else mA g)
  rw [lookup_putF]
  by_cases q:g=f
  ·rw [if_pos q,if_pos q]; exact ry
  ·rw [if_neg q,if_neg q]; exact r g
 ·by_cases q:g=f
  ·rw [q]; exact (keys_putF f y fs).1
  ·refine (keys_putF f y fs).2 g (wi g fun z=>hg ?_)
   show (if g=f then some u else mA g)=none
   rw [if_neg q]; exact z
theorem Inv.made (I:Inv X pins σ H s):Inv X pins σ (upd (upd H s.heap.objs.size (.own (s.heap.objs.size+1))) (s.heap.objs.size+1) (.ins C s.heap.objs.size []))
  { s with heap:=(s.heap.push PySem.W.emptyDict).push (PySem.W.instObj C s.heap.objs.size) }:=by
 have e1:(s.heap.push PySem.W.emptyDict).get? s.heap.objs.size=some PySem.W.emptyDict:=Heap.get?_push_size s.heap rfl
 have e2:((s.heap.push PySem.W.emptyDict).push (PySem.W.instObj C s.heap.objs.size)).get? (s.heap.objs.size+1)=some (PySem.W.instObj C s.heap.objs.size):=by
  have:=Heap.get?_push_size (s.heap.push PySem.W.emptyDict) (o:=PySem.W.instObj C s.heap.objs.size) rfl
  rwa [Heap.size_push] at this
 have e3:(s.heap.push PySem.W.emptyDict).Ns s.heap.objs.size (fun _=>none):=⟨PySem.W.emptyDict,#[],_,e1,rfl,(fun e he=>absurd he (by simp)),fun _=>rfl⟩
 have I1:=I.laid (a:=s.heap.objs.size) (o:=.own (s.heap.objs.size+1)) (h':=s.heap.push PySem.W.emptyDict) (t':=s.toks) (fun b u q=>Heap.get?_push_of_some _ q) (Nat.le_refl _) ⟨_,e1⟩
 refine I1.laid (a:=s.heap.objs.size+1) (o:=.ins C s.heap.objs.size []) (t':=s.toks) (fun b u q=>Heap.get?_push_of_some _ q) (Nat.le_of_eq (Heap.size_push _ _)) ?_
 have ne:s.heap.objs.size≠s.heap.objs.size+1:=Nat.ne_of_lt (Nat.lt_succ_self _)
 refine ⟨by rw [upd_ne ne,upd_same],Nat.zero_le _,ne,e2,fun _=>none,(Heap.Ns1.of_empty e3).at fun o q=>Heap.get?_push_of_some _ q,fun _=>True.intro,fun y hy=>absurd rfl hy⟩
theorem attr_of {prog:Program} {w:World} {env:Env} {e:Expr} {f:Str} {pos:Pos} {s:Shared} {Q:Value→Shared→Prop} (hb:attributeBase e f env (eval e env)=eval e env)
  (h:wpAny (model prog w) A (eval e env) (fun o s₁=>wpAny (model prog w) A (getAttr o f true) Q E s₁) E s):wpAny (model prog w) A (eval (.Attribute e f pos) env) Q E s :=
 Attribute_any_ h (by rw [arm_eval_Attribute,hb])
end
def tFld (K:PySem.W.Frag) (ta:TE) (f:Str):TE:=fun σ H Q=>ta σ H fun x H1=>∃ a C dx fs v,x=.ref a∧H1 a=some (.ins C dx fs)∧Cls K C∧NoAttr K C f∧fs.lookup f=some v∧Q v H1
def sFld (K:PySem.W.Frag) (ta tv:TE) (f:Str):TS:=fun D σ H=>tv σ H fun y H1=>ta σ H1 fun x H2=>∃ a C dx fs,x=.ref a∧H2 a=some (.ins C dx fs)∧Cls K C∧NoAttr K C f∧fs.length < 1000 ∧
 D.nx σ (upd H2 a (.ins C dx (putF f y fs)))
section
variable {X:Cx} {o e value:Expr} {f:Str} {pos pos' tpos:Pos} {ta tv:TE}
theorem pe_fld (he:PE X e ta) (hb:attributeBase e f X.env (eval e X.env)=eval e X.env):PE X (.Attribute e f pos) (tFld X.K ta f):=by
 intro pins s σ H Q I h
 refine attr_of hb (thn (he pins s σ H _ I h) fun u s1 ⟨x,H1,I1,rx,a,C,dx,fs,v,ex,ea,c,n,l,q⟩=>?_)
 subst ex
 obtain rfl:u=Value.ref a:=rx
 exact getattr_ok I1 ea c n l fun u' s2 I2 ru=>⟨v,H1,I2,ru,q⟩
theorem ps_fld (ha:PE X o ta) (hv:PE X value tv) (hs:swapsWith value (some (.Attribute o f pos')) pos.line X.env=pure false):PS X (.Assign [.Attribute o f pos'] value pos) (sFld X.K ta tv f):=by
 intro pins s σ H D I h
 refine plainObj_wpAny_Assign_Attribute (thn (hv pins s σ H _ I h) fun u s1 ⟨y,H1,I1,ry,q⟩=>thn (ha pins s1 σ H1 _ I1 q) fun ov s2 ⟨x,H2,I2,rx,a,C,dx,fs,ex,ea,c,n,l,q2⟩=>?_) hs
 subst ex
 obtain rfl:ov=Value.ref a:=rx
 exact setattr_ok I2 ea c n l ry fun s3 I3=>⟨σ,_,I3,q2⟩
theorem methcall_of {pl:Sem Bool} {m:Str} {apos:Pos} {args:List Expr} {pins:List (Addr×Obj)} {s:Shared} {σ:St} {H:Hp} {Q:Value→Shared→Prop} {te:TE} (he:PE X e te) (I:Inv X pins σ H s)
  (h:te σ H fun x H1=>∃ a C dx fs g,x=.ref a∧H1 a=some (.ins C dx fs)∧Cls X.K C∧Meth X.K C m g∧fs.lookup m=none ∧
   ∀ s1,Inv X pins σ H1 s1→wpAny (model X.prog X.w) X.A (callWith pos (.ref g) [.ref a] (backTo pos (starEach args X.env)) (backToKw pos (keywordEach [] X.env))) Q X.xe s1)
  (ht:eval (.Call (.Attribute e m apos) args [] pos) X.env=(do
   let ov ← eval e X.env
   standAt apos.atName
   let (f,first) ← holding [ov] (getMethod ov m pl)
   callWith pos f first (backTo pos (starEach args X.env)) (backToKw pos (keywordEach [] X.env)))) :
  wpAny (model X.prog X.w) X.A (eval (.Call (.Attribute e m apos) args [] pos) X.env) Q X.xe s:=by
 refine PySem.W.methodCall_KW (pl:=pl) (thn (he pins s σ H _ I h) fun u s1 ⟨x,H1,I1,rx,a,C,dx,fs,g,ex,ea,c,k,l,q⟩=>?_) ht
 subst ex
 obtain rfl:u=Value.ref a:=rx
 exact getmeth_ok I1 ea c k l (q s1 I1)
end
section
variable {X:Cx} {pins:List (Addr×Obj)} {σ:St} {H:Hp} {s:Shared} {A:Around} {E:Value→Shared→Prop} {Q:Value→Shared→Prop} {c:Value} {b:Bool}
inductive TyOf (K:PySem.W.Frag) (H:Hp):V→Value→Prop where
 | non:TyOf K H .non (.type "NoneType")
 | bl (x:Bool):TyOf K H (.bl x) (.type "bool")
 | int (i:Int):TyOf K H (.int i) (.type "int")
 | str (x:Str):TyOf K H (.str x) (.type "str")
 | flt (x:UInt64):TyOf K H (.flt x) (.type "float")
 | lst {a:Addr} {xs:List V} (e:H a=some (.lst xs)):TyOf K H (.ref a) (.type "list")
 | frz {a:Addr} {o:Obj} {xs:List V} (e:H a=some (.frz o (.lst xs))):TyOf K H (.ref a) (.type "list")
 | tup {a:Addr} {xs:List V} (e:H a=some (.tup xs)):TyOf K H (.ref a) (.type "tuple")
 | dK {a:Addr} {kvs:List (Key×V)} (e:H a=some (.dK kvs)):TyOf K H (.ref a) (.type "dict")
 | dT {a:Addr} {kvs:List (List Key×V)} (e:H a=some (.dT kvs)):TyOf K H (.ref a) (.type "dict")
 | ins {a C dx:Addr} {fs:List (Str×V)} (e:H a=some (.ins C dx fs)) (cl:Cls K C) (ha:PySem.W.findIn K (.ref C) "__class__"=some (some (.builtin "object.__class__")))
   (hn:PySem.W.specialIn K (.builtin "object.__class__") "__get__"=some (some (.builtin "getset_descriptor.__get__"))) (htk:PySem.W.takesIn K (.builtin "object.__class__")=some true)
   (hm:PySem.W.mroIn K C (.type "object")=some true):TyOf K H (.ref a) (.ref C)
end
end L2
namespace L2
open PySem PySem.Spec PyProof.Rows
structure Room (k:Nat) (A:Around):Prop where
 hd:A.handled=none
 dp:A.depth+3 * k+5 < recursionLimit
 un:A.units+16 * k+200 < cLine
theorem Room.mono {j k:Nat} {A:Around} (r:Room k A) (h:j≤k):Room j A:=⟨r.hd,by have:=r.dp; omega,by have:=r.un; omega⟩
theorem Room.deeper {k:Nat} {A:Around} (r:Room (k+1) A) (env:Env):Room k (A.deeper env) :=
 ⟨r.hd,by have:=r.dp; show A.depth+1+3 * k+5 < _; omega,by have:=r.un; show A.units+3+16 * k+200 < _; omega⟩
theorem Room.in1 {k:Nat} {A:Around} (r:Room (k+1) A):Room k A.in1 :=
 ⟨r.hd,by have:=r.dp; show A.depth+3 * k+5 < _; omega,by have:=r.un; show A.units+1+16 * k+200 < _; omega⟩
theorem make_depth {A:Around} {C:Addr} {us:List Value} {kw:List (Str×Value)}:(A.under (.builtin "type.__call__" ⟨.ref C::us,kw⟩)).depth=A.depth+1:=by
 first | rfl | simp [Around.under,Code.weight,Code.isCreation,Code.isGuard,Code.isCaller,Code.frames,Code.isFrame,guardIds]
theorem make_units {A:Around} {C:Addr} {us:List Value} {kw:List (Str×Value)}:(A.under (.builtin "type.__call__" ⟨.ref C::us,kw⟩)).units=A.units+1:=by
 first | rfl | simp [Around.under,Code.cUnits,Code.frames,Code.isFrame]
theorem Room.make {k:Nat} {A:Around} (r:Room (k+1) A) (C:Addr) (us:List Value) (kw:List (Str×Value)):Room k (A.under (.builtin "type.__call__" ⟨.ref C::us,kw⟩)) :=
 ⟨r.hd,by have:=r.dp; rw [make_depth]; omega,by have:=r.un; rw [make_units]; omega⟩
theorem Room.depth {k:Nat} {A:Around} (r:Room k A):A.depth < recursionLimit:=by have:=r.dp; omega
theorem Room.units {k:Nat} {A:Around} (r:Room k A):A.units+64 < cLine:=by have:=r.un; omega
def tNil:TA:=fun _ H Q=>Q [] H
def tCons (ta:TE) (tr:TA):TA:=fun σ H Q=>ta σ H fun x H1=>tr σ H1 fun xs H2=>Q (x::xs) H2
section
variable {X:Cx} {e:Expr} {es:List Expr} {te:TE} {t:TA} {pos:Pos}
theorem pa_nil:PA X [] tNil:=fun _ _ _ _ H Q I h=>Calls.spliced_nil ⟨[],H,I,.nil,h⟩
theorem pa_cons (ha:PE X e te) (hr:PA X es t) (hs:starEach (e::es) X.env=(false,eval e X.env)::starEach es X.env:=by rfl):PA X (e::es) (tCons te t):=by
 intro pos pins s σ H Q I h
 rw [hs]
 show wpAny _ _ (spliced ((false,eval e X.env)::backTo pos (starEach es X.env))) _ _ s
 refine Calls.spliced_cons (thn (ha pins s σ H _ I h) fun u s1 ⟨x,H1,I1,r1,q1⟩=>?_)
 exact thn (hr pos pins s1 σ H1 _ I1 q1) fun us s2 ⟨xs,H2,I2,r2,q2⟩=>⟨x::xs,H2,I2,.cons r1 r2,q2⟩
def tTup (t:TA):TE:=fun σ H Q=>t σ H fun xs H1=>xs.length≤sizeLine∧∀ p,H1 p=none→Q (.ref p) (upd H1 p (.tup xs))
def tLst (t:TA):TE:=fun σ H Q=>t σ H fun xs H1=>xs.length≤sizeLine∧∀ p,H1 p=none→Q (.ref p) (upd H1 p (.lst xs))
theorem pe_tup {x1} (h:PA X es t):PE X (.Tuple es x1 pos) (tTup t):=by
 intro pins s σ H Q I hq
 refine wpAny_Tuple_spliced (thn (h pos pins s σ H _ I hq) fun us s1 ⟨xs,H1,I1,r,z,q⟩=>⟨by rw [← r.length]; exact z,?_⟩)
 have hf:H1 s1.heap.objs.size=none:=I1.hok.fresh (Nat.le_refl _)
 refine ⟨.ref s1.heap.objs.size,upd H1 s1.heap.objs.size (.tup xs),I1.laid (t':=s1.toks) (fun b u e=>Heap.get?_push_of_some _ e) (Nat.le_refl _) ?_,rfl,q _ hf⟩
 exact ⟨z,us,r,⟨_,Heap.get?_push_size _ rfl,rfl,_,rfl⟩⟩
theorem pe_lst (h:PA X es t):PE X (.List es pos) (tLst t):=by
 intro pins s σ H Q I hq
 refine wpAny_List_spliced (thn (h pos pins s σ H _ I hq) fun us s1 ⟨xs,H1,I1,r,z,q⟩=>⟨by rw [← r.length]; exact z,?_⟩)
 have hf:H1 s1.heap.objs.size=none:=I1.hok.fresh (Nat.le_refl _)
 refine ⟨.ref s1.heap.objs.size,upd H1 s1.heap.objs.size (.lst xs),I1.laid (t':=s1.toks) (fun b u e=>Heap.get?_push_of_some _ e) (Nat.le_refl _) ?_,rfl,q _ hf⟩
 exact ⟨z,us,0,r,Heap.get?_push_size _ rfl⟩
end
abbrev Sp:=List V→Hp→VK→XK→Prop
abbrev CXT:=List Env→Hp→Shared→XK→Value→Shared→Prop
structure Env0 (P:Program) (w:World) (K:PySem.W.Frag) (mg:Str→Option Value) (base:Heap) (A:Around) (outer:List Env) (s:Shared) (H:Hp):Prop where
 frames:A.frames=some outer
 mod:Mod K mg base
 bs:∀ b o,base.get? b=some o→s.heap.get? b=some o∧H b=none
 bsz:base.objs.size≤s.heap.objs.size
 funs:s.heap.FunFrames base outer
 frf:∀ b∈frs outer,H b=none
 hok:HOk P w H s.heap
 bare:AllBare s.gens
def CE (outer:List Env) (P:Program) (w:World) (H:Hp) (s:Shared) (Q:VK) (u:Value) (s':Shared):Prop :=
 ∃ v H',s'.os=s.os∧AllBare s'.gens∧Un (frs outer) [] H H' s.heap s'.heap∧HOk P w H' s'.heap∧RelV v u∧Q v H'
def CR (CX:CXT) (outer:List Env) (P:Program) (w:World) (H:Hp) (s:Shared) (Q:VK) (E:XK) (r:Result) (s':Shared):Prop :=
 match r with
 | .ok (.ret u)=>CE outer P w H s Q u s'
 | .ok _=>False
 | .error e=>CX outer H s E e s'
structure FnOk (P:Program) (w:World) (K:PySem.W.Frag) (mg:Str→Option Value) (base:Heap) (CX:CXT) (k:Nat) (f:Addr) (fd:FuncData) (ps:List Str) (sp:Sp):Prop where
 len:∀ vs H Q E,sp vs H Q E→vs.length=ps.length
 run:∀ (A:Around) (outer:List Env) (s:Shared) (H:Hp) (args:Args) (us:List Value) (vs:List V) (Q:VK) (E:XK),Room k A→Env0 P w K mg base A outer s H→BindsTo s fd args (ps.zip us)→Vals vs us→sp vs H Q E →
  codeAny (model P w) A (.call (.ref f) args) (CR CX outer P w H s Q E) s
theorem FnOk.mono {P:Program} {w:World} {K:PySem.W.Frag} {mg:Str→Option Value} {base:Heap} {CX:CXT} {j k:Nat} {f:Addr} {fd:FuncData} {ps:List Str} {sp:Sp} (F:FnOk P w K mg base CX j f fd ps sp) (h:j≤k) :
  FnOk P w K mg base CX k f fd ps sp:=⟨F.len,fun A outer s H args us vs Q E hr=>F.run A outer s H args us vs Q E (hr.mono h)⟩
theorem FnOk.imp {P:Program} {w:World} {K:PySem.W.Frag} {mg:Str→Option Value} {base:Heap} {CX:CXT} {k:Nat} {f:Addr} {fd:FuncData} {ps:List Str} {sp sp':Sp} (F:FnOk P w K mg base CX k f fd ps sp)
  (h:∀ vs H Q E,sp' vs H Q E→sp vs H Q E):FnOk P w K mg base CX k f fd ps sp' :=
 ⟨fun vs H Q E q=>F.len vs H Q E (h _ _ _ _ q),fun A outer s H args us vs Q E hr he hb hv hs=>F.run A outer s H args us vs Q E hr he hb hv (h _ _ _ _ hs)⟩
theorem Env0.make {P:Program} {w:World} {K:PySem.W.Frag} {mg:Str→Option Value} {base:Heap} {A:Around} {outer:List Env} {s:Shared} {H:Hp} (e:Env0 P w K mg base A outer s H) (C:Addr) (us:List Value) (kw:List (Str×Value)) :
  Env0 P w K mg base (A.under (.builtin "type.__call__" ⟨.ref C::us,kw⟩)) outer s H:=⟨by first | exact e.frames | (simpa [Around.under,Code.envs,Code.isFrame,pushEnvs] using e.frames),e.mod,e.bs,e.bsz,e.funs,e.frf,e.hok,e.bare⟩
theorem Env0.in1 {P:Program} {w:World} {K:PySem.W.Frag} {mg:Str→Option Value} {base:Heap} {A:Around} {outer:List Env} {s:Shared} {H:Hp} (e:Env0 P w K mg base A outer s H) :
  Env0 P w K mg base A.in1 outer s H:=⟨e.frames,e.mod,e.bs,e.bsz,e.funs,e.frf,e.hok,e.bare⟩
section
variable {X:Cx} {pins:List (Addr×Obj)} {σ:St} {H:Hp} {s s':Shared}
theorem Inv.env0 (I:Inv X pins σ H s):Env0 X.prog X.w X.K X.mg X.base X.A X.stack s H :=
 ⟨I.ok.frames,I.ok.mod,I.bs,Nat.le_trans I.ok.bsz I.sz,I.stack,I.stkFree,I.hok,I.bare⟩
theorem Inv.after {Q:VK} {u:Value} (I:Inv X pins σ H s) (h:CE X.stack X.prog X.w H s Q u s'):EP X pins σ Q u s':=by
 obtain ⟨v,H',os,bare,un,hok,r,q⟩:=h
 obtain ⟨hh,g,d,t,os'⟩:=s'
 obtain rfl:os'=s.os:=os
 exact ⟨v,H',I.call (h':=hh) (g':=g) (d':=d) (t':=t) (ch:=[]) un hok bare (fun b z=>absurd z (by simp)),r,q⟩
end
def tCall (sp:Sp) (dvs:List V) (E:XK) (t:TA):TE:=fun σ H Q=>t σ H fun vs H1=>sp (vs++dvs) H1 Q E
def tMeth (C:Addr) (m:Str) (sp:Sp) (dvs:List V) (E:XK) (ta:TE) (t:TA):TE:=fun σ H Q=>ta σ H fun x H1=>∃ a dx fs,x=.ref a∧H1 a=some (.ins C dx fs)∧fs.lookup m=none ∧
 t σ H1 fun vs H2=>sp (x::(vs++dvs)) H2 Q E
def tMake (C:Addr) (sp:Sp) (dvs:List V) (E:XK) (t:TA):TE:=fun σ H Q=>t σ H fun vs H1=>∀ x dx,H1 x=none→H1 dx=none→dx≠x →
 sp (.ref x::(vs++dvs)) (upd (upd H1 dx (.own x)) x (.ins C dx [])) (fun v H2=>v=.non∧Q (.ref x) H2) E
def Binds (K:PySem.W.Frag) (fd:FuncData) (ps:List Str) (ds:List Value):Prop :=
 ∀ (s:Shared) (us:List Value),K.In s.heap→(us++ds).length=ps.length→BindsTo s fd ⟨us,[]⟩ (ps.zip (us++ds))
theorem Binds.all {K:PySem.W.Frag} {fd:FuncData} {ps:List Str} (h:∀ us:List Value,us.length=ps.length→bindArgs fd ⟨us,[]⟩=pure (ps.zip us)):Binds K fd ps []:=fun s us _ hl=>by
 rw [List.append_nil] at hl ⊢
 exact .of_eq (h us hl)
def Passes (CX:CXT) (X:Cx) (E:XK):Prop:=∀ (pins:List (Addr×Obj)) (σ:St) (H:Hp) (s:Shared) (e:Value) (s':Shared),Inv X pins σ H s→CX X.stack H s E e s'→X.xe e s'
section
variable {X:Cx} {CX:CXT} {k:Nat} {f C:Addr} {fd:FuncData} {ps:List Str} {sp:Sp} {dvs:List V} {ds:List Value} {E:XK} {x m:Str} {p pos apos:Pos} {e o:Expr} {es:List Expr} {ta:TE} {t:TA}
theorem run_fn {pins:List (Addr×Obj)} {σ:St} {H:Hp} {s:Shared} {Q:VK} {us:List Value} {vs:List V} (F:FnOk X.prog X.w X.K X.mg X.base CX k f fd ps sp) (hr:Room k X.A) (hb:Binds X.K fd ps ds) (hd:Vals dvs ds) (hx:Passes CX X E)
  (I:Inv X pins σ H s) (r:Vals vs us) (h:sp (vs++dvs) H Q E):wpAny (model X.prog X.w) X.A (call (.ref f) us) (EP X pins σ Q) X.xe s:=by
 have r2:Vals (vs++dvs) (us++ds):=r.append hd
 have hl:(us++ds).length=ps.length:=by rw [← r2.length]; exact F.len _ _ _ _ h
 refine wpAny_call (codeAny_mono (F.run X.A X.stack s H ⟨us,[]⟩ (us++ds) (vs++dvs) Q E hr I.env0 (hb s us I.kIn hl) r2 h) fun r s' hq=>?_)
 cases r with
 | error e=>exact hx pins σ H s e s' I hq
 | ok fl =>
  cases fl with
  | ret u=>exact I.after hq
  | next=>exact False.elim hq
  | brk=>exact False.elim hq
  | cont=>exact False.elim hq
theorem pe_call (F:FnOk X.prog X.w X.K X.mg X.base CX k f fd ps sp) (hr:Room k X.A) (hg:Gl X x) (hm:X.mg x=some (.ref f)) (hk:PySem.W.keepIn X.K (.ref f)=true) (hb:Binds X.K fd ps ds) (hd:Vals dvs ds) (hx:Passes CX X E)
  (ha:PA X (e::es) t) (hdb:(x == ("__debug__":Str))=false:=by decide) (he:starEach (e::es) X.env=(false,eval e X.env)::starEach es X.env:=by rfl) (hpl:(backTo pos (starEach es X.env)).any (·.1)=false:=by rfl) :
  PE X (.Call (.Name x p) (e::es) [] pos) (tCall sp dvs E t):=by
 intro pins s σ H Q I h
 refine wpAny_Call_Name_kw (ld_glob I hg hm ?_ hdb)
 refine PySem.W.callWith_K (h₀:=X.base) I.ok.mod.kin hk (thn (ha pos pins s σ H _ I h) fun us s1 ⟨vs,H1,I1,r,q⟩=>⟨I1.kIn,?_⟩) he hpl
 exact run_fn F hr hb hd hx I1 r q
theorem pe_meth {pl:Sem Bool} (he:PE X o ta) (c:Cls X.K C) (hm:Meth X.K C m f) (F:FnOk X.prog X.w X.K X.mg X.base CX k f fd ps sp) (hr:Room k X.A) (hb:Binds X.K fd ps ds) (hd:Vals dvs ds) (hx:Passes CX X E) (ha:PA X (e::es) t)
  (hst:starEach (e::es) X.env=(false,eval e X.env)::starEach es X.env:=by rfl) (hpl:(backTo pos (starEach es X.env)).any (·.1)=false:=by rfl)
  (ht:eval (.Call (.Attribute o m apos) (e::es) [] pos) X.env=(do
   let ov ← eval o X.env
   standAt apos.atName
   let (f,first) ← holding [ov] (getMethod ov m pl)
   callWith pos f first (backTo pos (starEach (e::es) X.env)) (backToKw pos (keywordEach [] X.env))):=by rfl) :
  PE X (.Call (.Attribute o m apos) (e::es) [] pos) (tMeth C m sp dvs E ta t):=by
 intro pins s σ H Q I h
 refine PySem.W.methodCall_KW (pl:=pl) (thn (he pins s σ H _ I h) fun u s1 ⟨x,H1,I1,rx,a,dx,fs,ex,ea,l,q⟩=>?_) ht
 subst ex
 obtain rfl:u=Value.ref a:=rx
 refine getmeth_ok I1 ea c hm l ?_
 refine PySem.W.callWith_K (first:=[.ref a]) (h₀:=X.base) I.ok.mod.kin hm.kp (thn (ha pos pins s1 σ H1 _ I1 q) fun us s2 ⟨vs,H2,I2,r,q2⟩=>⟨I2.kIn,?_⟩) hst hpl
 exact run_fn (us:=.ref a::us) (vs:=.ref a::vs) F hr hb hd hx I2 (.cons rfl r) q2
theorem pe_meth0 {pl:Sem Bool} (he:PE X o ta) (c:Cls X.K C) (hm:Meth X.K C m f) (F:FnOk X.prog X.w X.K X.mg X.base CX k f fd ps sp) (hr:Room k X.A) (hb:Binds X.K fd ps ds) (hd:Vals dvs ds) (hx:Passes CX X E)
  (ht:eval (.Call (.Attribute o m apos) [] [] pos) X.env=(do
   let ov ← eval o X.env
   standAt apos.atName
   let (f,first) ← holding [ov] (getMethod ov m pl)
   callWith pos f first (backTo pos (starEach [] X.env)) (backToKw pos (keywordEach [] X.env))):=by rfl) :
  PE X (.Call (.Attribute o m apos) [] [] pos) (tMeth C m sp dvs E ta tNil):=by
 intro pins s σ H Q I h
 refine PySem.W.methodCall_KW (pl:=pl) (thn (he pins s σ H _ I h) fun u s1 ⟨x,H1,I1,rx,a,dx,fs,ex,ea,l,q⟩=>?_) ht
 subst ex
 obtain rfl:u=Value.ref a:=rx
 refine getmeth_ok I1 ea c hm l ?_
 exact PySem.W.callWith_K0 (first:=[.ref a]) I1.kIn hm.kp (run_fn (us:=[.ref a]) (vs:=[.ref a]) F hr hb hd hx I1 (.cons rfl .nil) q)
structure Mk (K:PySem.W.Frag) (C f:Addr):Prop where
 makes:PySem.W.makesIn K C=true
 init:PySem.W.findIn K (.ref C) "__init__"=some (some (.ref f))
 fn:PySem.W.isFn K (.ref f)=true
 kp:PySem.W.keepIn K (.ref C)=true
theorem run_make {pins:List (Addr×Obj)} {σ:St} {H:Hp} {s:Shared} {Q:VK} {us:List Value} {vs:List V} (M:Mk X.K C f) (F:FnOk X.prog X.w X.K X.mg X.base CX k f fd ps sp) (hr:Room (k+1) X.A) (hb:Binds X.K fd ps ds) (hd:Vals dvs ds)
  (hx:Passes CX X E) (I:Inv X pins σ H s) (r:Vals vs us)
  (h:∀ x dx,H x=none→H dx=none→dx≠x→sp (.ref x::(vs++dvs)) (upd (upd H dx (.own x)) x (.ins C dx [])) (fun v H2=>v=.non∧Q (.ref x) H2) E) :
  wpAny (model X.prog X.w) X.A (call (.ref C) us) (EP X pins σ Q) X.xe s:=by
 have hq:=h (s.heap.objs.size+1) s.heap.objs.size (I.hok.fresh (Nat.le_succ _)) (I.hok.fresh (Nat.le_refl _)) (Nat.ne_of_lt (Nat.lt_succ_self _))
 have I2:=Inv.made (C:=C) I
 have r2:Vals (V.ref (s.heap.objs.size+1)::(vs++dvs)) (Value.ref (s.heap.objs.size+1)::(us++ds)):=.cons rfl (r.append hd)
 have hl:(Value.ref (s.heap.objs.size+1)::us++ds).length=ps.length:=by
  have e:=r2.length
  rw [F.len _ _ _ _ hq] at e
  exact e.symm
 refine wpAny_call (make_map (f:=f) I.kIn M.makes M.init (beq_iff_eq.mp M.fn) (codeAny_mono (F.run _ X.stack _ _ ⟨Value.ref (s.heap.objs.size+1)::us,[]⟩ (Value.ref (s.heap.objs.size+1)::(us++ds)) _ _ E (hr.make C us [])
  (I2.env0.make C us []) (hb _ (Value.ref (s.heap.objs.size+1)::us) I2.kIn hl) r2 hq) fun r s' hq'=>?_))
 cases r with
 | error e=>exact hx pins σ _ _ e s' I2 hq'
 | ok fl =>
  cases fl with
  | ret u =>
   obtain ⟨v,H',I3,rv,ev,q3⟩:=I2.after hq'
   subst ev
   exact ⟨rv,⟨V.ref (s.heap.objs.size+1),H',I3,rfl,q3⟩⟩
  | next=>exact False.elim hq'
  | brk=>exact False.elim hq'
  | cont=>exact False.elim hq'
theorem pe_make (M:Mk X.K C f) (F:FnOk X.prog X.w X.K X.mg X.base CX k f fd ps sp) (hr:Room (k+1) X.A) (hg:Gl X x) (hm:X.mg x=some (.ref C)) (hb:Binds X.K fd ps ds) (hd:Vals dvs ds) (hx:Passes CX X E)
  (ha:PA X (e::es) t) (hdb:(x == ("__debug__":Str))=false:=by decide) (he:starEach (e::es) X.env=(false,eval e X.env)::starEach es X.env:=by rfl) (hpl:(backTo pos (starEach es X.env)).any (·.1)=false:=by rfl) :
  PE X (.Call (.Name x p) (e::es) [] pos) (tMake C sp dvs E t):=by
 intro pins s σ H Q I h
 refine wpAny_Call_Name_kw (ld_glob I hg hm ?_ hdb)
 refine PySem.W.callWith_K (h₀:=X.base) I.ok.mod.kin M.kp (thn (ha pos pins s σ H _ I h) fun us s1 ⟨vs,H1,I1,r,q⟩=>⟨I1.kIn,?_⟩) he hpl
 exact run_make M F hr hb hd hx I1 r q
end
section
variable {X:Cx} {CX:CXT} {k:Nat} {f C:Addr} {fd:FuncData} {ps ks:List Str} {sp:Sp} {E:XK} {x m:Str} {p pos apos kpos:Pos} {e o:Expr} {es:List Expr} {kws:List Keyword} {te ta:TE} {t tk:TA} {nm:Option Str}
structure KBinds (K:PySem.W.Frag) (fd:FuncData) (ps ks:List Str) (g:List Value→List Value→List Value) (gV:List V→List V→List V):Prop where
 to:∀ (s:Shared) (us ws:List Value),K.In s.heap→(g us ws).length=ps.length→BindsTo s fd ⟨us,ks.zip ws⟩ (ps.zip (g us ws))
 rel:∀ {vs:List V} {us:List Value} {zs:List V} {ws:List Value},Vals vs us→Vals zs ws→Vals (gV vs zs) (g us ws)
variable {g:List Value→List Value→List Value} {gV:List V→List V→List V}
end
structure FnScope (N P:List Str) (sc:Scope):Prop where
 kind:sc.kind=.function
 co:sc.isCoroutine=false
 gen:sc.isGenerator=false
 nd:N.Nodup
 pre:N.take P.length=P
 par:∀ x∈P,sc.names.lookup x=some .local∨sc.names.lookup x=some .cell
 nofree:∀ y∈sc.names,y.2≠.free
theorem bindL_out {kindOf:Str→Option NameKind} {x:Str}:∀ {binds:List (Str×Value)} {m:Str→Option Value},(∀ v,(x,v)∉binds)→bindL kindOf binds m x=m x
 | [],_,_=>rfl
 | (n,v)::r,m,h=>by
  unfold bindL
  rw [bindL_out fun w hw=>h w (List.mem_cons_of_mem _ hw)]
  split
  ·have:x≠n:=by rintro rfl; exact h v List.mem_cons_self
   simp [this]
  ·rfl
theorem bindC_out {kindOf:Str→Option NameKind} {x:Str}:∀ {binds:List (Str×Value)} {m:Str→Option Value},(∀ v,(x,v)∉binds)→bindC kindOf binds m x=m x
 | [],_,_=>rfl
 | (n,v)::r,m,h=>by
  unfold bindC
  rw [bindC_out fun w hw=>h w (List.mem_cons_of_mem _ hw)]
  split
  ·rfl
  ·have:x≠n:=by rintro rfl; exact h v List.mem_cons_self
   simp [this]
theorem bindL_get {kindOf:Str→Option NameKind} {x:Str} {v:Value}:∀ {P:List Str} {vs:List Value} {i:Nat} {m:Str→Option Value},P.Nodup→P[i]?=some x→vs[i]?=some v→kindOf x=some .local →
  bindL kindOf (P.zip vs) m x=some v
 | [],_,_,_,_,h,_,_=>by simp at h
 | _::_,[],_,_,_,_,h,_=>by simp at h
 | p::P,w::vs,0,m,nd,h1,h2,hk=>by
  simp at h1 h2; subst h1; subst h2
  show bindL kindOf ((p,w)::P.zip vs) m p=_
  unfold bindL
  rw [bindL_out fun v hv=>(List.nodup_cons.mp nd).1 (List.of_mem_zip hv).1,if_pos hk]
  simp
 | p::P,w::vs,i+1,m,nd,h1,h2,hk=>by
  show bindL kindOf ((p,w)::P.zip vs) m x=_
  unfold bindL
  exact bindL_get (i:=i) (List.nodup_cons.mp nd).2 (by simpa using h1) (by simpa using h2) hk
theorem bindC_get {kindOf:Str→Option NameKind} {x:Str} {v:Value}:∀ {P:List Str} {vs:List Value} {i:Nat} {m:Str→Option Value},P.Nodup→P[i]?=some x→vs[i]?=some v→kindOf x≠some .local →
  bindC kindOf (P.zip vs) m x=some v
 | [],_,_,_,_,h,_,_=>by simp at h
 | _::_,[],_,_,_,_,h,_=>by simp at h
 | p::P,w::vs,0,m,nd,h1,h2,hk=>by
  simp at h1 h2; subst h1; subst h2
  show bindC kindOf ((p,w)::P.zip vs) m p=_
  unfold bindC
  rw [bindC_out fun v hv=>(List.nodup_cons.mp nd).1 (List.of_mem_zip hv).1,if_neg hk]
  simp
 | p::P,w::vs,i+1,m,nd,h1,h2,hk=>by
  show bindC kindOf ((p,w)::P.zip vs) m x=_
  unfold bindC
  exact bindC_get (i:=i) (List.nodup_cons.mp nd).2 (by simpa using h1) (by simpa using h2) hk
def start (N:List Str) (vs:List V):St:=vs.map some++List.replicate (N.length - vs.length) none
def cxOf (CX:CXT) (P:Program) (w:World) (K:PySem.W.Frag) (mg:Str→Option Value) (base:Heap) (N:List Str) (qual:Str) (scope:Scope) (f:Addr) (cd:Value) (A:Around) (outer:List Env) (s:Shared) (H:Hp) (E:XK):Cx where
 prog:=P
 w:=w
 K:=K
 mg:=mg
 base:=base
 A:=A.deeper (envOfC qual scope s.heap.objs.size f cd)
 N:=N
 s₀:=s
 H₀:=H
 env:=envOfC qual scope s.heap.objs.size f cd
 outer:=outer
 stack:=envOfC qual scope s.heap.objs.size f cd::outer
 ex:=[]
 calm:=true
 fn:=fun _=>true
 pn:=[]
 xe:=fun e s'=>wpAny (model P w) (A.deeper (envOfC qual scope s.heap.objs.size f cd)) (leaving (envOfC qual scope s.heap.objs.size f cd) e) (fun _ s''=>CX outer H s E e s'') (fun e' s''=>CX outer H s E e' s'') s'
theorem cell_has {sc:Scope} {n:Nat} {x:Str} (h:sc.names.lookup x=some .cell):∃ c,(cellsFrom n sc.names []).lookup x=some c:=by
 have q:=PySem.W.cellsFrom_some sc.names n [] (.inl h)
 exact Option.isSome_iff_exists.mp q
theorem inv_start {CX:CXT} {P:Program} {w:World} {K:PySem.W.Frag} {mg:Str→Option Value} {base:Heap} {N ps:List Str} {qual:Str} {scope:Scope} {f:Addr} {cd:Value} {A:Around} {outer:List Env} {s s1:Shared} {H:Hp} {E:XK} {us:List Value} {vs:List V}
  (S:FnScope N ps scope) (hd:A.handled=none) (e0:Env0 P w K mg base A outer s H) (hl:vs.length=ps.length) (r:Vals vs us)
  (x:InCallC s s.heap.objs.size (bindL (envOfC qual scope s.heap.objs.size f cd).kindOf (ps.zip us) fun _=>none) (cellsFrom (s.heap.objs.size+1) scope.names []) (bindC (envOfC qual scope s.heap.objs.size f cd).kindOf (ps.zip us) fun _=>none) s1) :
  Inv (cxOf CX P w K mg base N qual scope f cd A outer s H E) [] (start N vs) H s1:=by
 have hpl:ps.length≤N.length:=by have:=congrArg List.length S.pre; rw [List.length_take] at this; omega
 obtain ⟨h1,tk,rfl,hk⟩:=x.done
 have noA:∀ b:Addr,b∉(cxOf CX P w K mg base N qual scope f cd A outer s H E).ex:=fun b z=>absurd (show b∈([]:List Addr) from z) (by simp)
 refine ⟨⟨e0.mod,S.kind,rfl,rfl,Nat.le_refl _,fun y z c h1 h2=>?_,fun y hy=>?_,fun y c _ h=>?_,fun _=>hd,Around.frames_deeper e0.frames,.inr ⟨rfl,rfl⟩,fun b z=>absurd z (noA b),e0.bs,e0.bsz,fun b _ _=>noA b,fun b z=>absurd z (noA b),e0.funs,e0.frf⟩,
  rfl,e0.bare,Un.kept hk,⟨_,x.toInCall.ns,fun i y v h1 h2 h3=>?_⟩,fun y c h=>⟨_,x.cell y c h⟩,e0.hok.fresh (Nat.le_refl _),fun y c h=>?_,fun p hp=>absurd (show p∈([]:List (Addr×Obj)) from hp) (by simp),e0.hok.kept hk,?_⟩
 ·exact name_of_addr x.apart (PySem.mem_of_lookup h1) (PySem.mem_of_lookup h2)
 ·have hy:scope.names.lookup y=some .cell∨scope.names.lookup y=some .free:=hy
  rcases hy with hy | hy
  ·exact cell_has hy
  ·exact absurd rfl (S.nofree _ (PySem.mem_of_lookup hy))
 ·exact Nat.le_of_lt (x.above y c (PySem.mem_of_lookup h))
 ·have hi:i < vs.length:=by
   unfold start at h2
   by_cases hi:i < vs.length
   ·exact hi
   ·rw [List.getElem?_append_right (by simpa using hi)] at h2
    rw [List.getElem?_replicate] at h2
    split at h2 <;> cases h2
  have ha:vs[i]?=some v:=by
   unfold start at h2
   rw [List.getElem?_append_left (by simpa using hi),List.getElem?_map] at h2
   cases e:vs[i]? with
   | none=>rw [e] at h2; cases h2
   | some a=>rw [e] at h2; cases h2; rfl
  obtain ⟨u,hu,rv⟩:=r.get ha
  have hp:ps[i]?=some y:=by
   rw [← S.pre,List.getElem?_take_of_lt (by omega)]; exact h1
  have ndP:ps.Nodup:=by rw [← S.pre]; exact S.nd.sublist (List.take_sublist _ _)
  refine ⟨u,rv,?_⟩
  rcases S.par y (List.mem_of_getElem? hp) with k | k
  ·exact .inl ⟨k,bindL_get ndP hp hu k⟩
  ·obtain ⟨c,e⟩:=cell_has (n:=s.heap.objs.size+1) k
   refine .inr ⟨.inl k,c,e,?_⟩
   have q:=x.cell y c e
   rw [bindC_get ndP hp hu (by show scope.names.lookup y≠_; rw [k]; decide)] at q
   exact q
 ·exact e0.hok.fresh (Nat.le_of_lt (x.above y c (PySem.mem_of_lookup h)))
 ·unfold start
  show _=N.length
  rw [List.length_append,List.length_map,List.length_replicate]
  omega
theorem fn_of {CX:CXT} {P:Program} {w:World} {K:PySem.W.Frag} {mg:Str→Option Value} {base:Heap} {k:Nat} {f:Addr} {name qual:Str} {params:Arguments} {body:List Stmt} {scope:Scope} {dV kV doc pm cdv ct oc:Value} {an od:Option Addr}
  {osl:Array (Option Value)} {N ps:List Str} {sp:Sp} (lk:K.lookup f=some ⟨oc,od,.func (PySem.W.fnOf name qual params body scope dV kV doc pm an cdv ct),osl⟩) (hcd:PySem.W.codeIn K cdv qual=true) (S:FnScope N ps scope)
  (len:∀ vs H Q E,sp vs H Q E→vs.length=ps.length)
  (hbody:∀ (A:Around) (outer:List Env) (s:Shared) (H:Hp) (vs:List V) (Q:VK) (E:XK),Room k (A.deeper (envOfC qual scope s.heap.objs.size f cdv))→sp vs H Q E →
   ∃ t,PSs (cxOf CX P w K mg base N qual scope f cdv A outer s H E) body t∧t { nx:=fun _ H'=>Q .non H',rt:=Q } (start N vs) H) :
  FnOk P w K mg base CX (k+1) f (PySem.W.fnOf name qual params body scope dV kV doc pm an cdv ct) ps sp:=by
 refine ⟨len,fun A outer s H args us vs Q E hr e0 hb r hsp=>?_⟩
 have hl:=len _ _ _ _ hsp
 have KX:K.In s.heap:=e0.mod.kin.keeps fun b o e=>(e0.bs b o e).1
 have lim:s.heap.NoLimit:=e0.mod.nolimit.keeps fun b o e=>(e0.bs b o e).1
 have hkind:∀ y∈ps.zip us,scope.names.lookup y.1=some .local∨(scope.names.lookup y.1=some .cell∧((cellsFrom (s.heap.objs.size+1) scope.names []).lookup y.1).isSome=true):=fun ⟨n,v⟩ hy=>by
  rcases S.par n (List.of_mem_zip hy).1 with q | q
  ·exact .inl q
  ·exact .inr ⟨q,PySem.W.cellsFrom_some _ _ _ (.inl q)⟩
 refine codeAny_call_function hr.depth (KX _ _ lk) rfl S.co S.gen rfl (PySem.W.codeRec_of KX hcd) (hb _ _ _ _ ?_)
 refine wpAny_newFunctionEnv_cells S.kind hkind fun env he s1 x=>?_
 subst he
 refine ⟨lim.keeps x.toInCall.keep,codeAny_func ?_⟩
 obtain ⟨t,ht,hq⟩:=hbody A outer s H vs Q E (hr.deeper _) hsp
 have I:Inv (cxOf CX P w K mg base N qual scope f cdv A outer s H E) [] (start N vs) H s1:=inv_start S hr.hd e0 hl r x
 refine wpAny_mono (ht [] s1 (start N vs) H _ I hq) (fun fl s' hs=>?_) fun e s' hs=>hs
 have fin:∀ {σ':St} {H':Hp} {v:V} {u:Value},Inv (cxOf CX P w K mg base N qual scope f cdv A outer s H E) [] σ' H' s'→RelV v u→Q v H'→CE outer P w H s Q u s' :=
  fun {σ' H' v u} J rv q=>⟨v,H',J.os,J.bare,J.base,J.hok,rv,q⟩
 cases fl with
 | ret u =>
  obtain ⟨v,σ',H',J,rv,q⟩:=hs
  exact fin J rv q
 | next =>
  obtain ⟨σ',H',J,q⟩:=hs
  exact fin (v:=V.non) (u:=Value.none) J rfl q
 | brk =>
  obtain ⟨_,_,_,q⟩:=hs
  exact False.elim q
 | cont =>
  obtain ⟨_,_,_,q⟩:=hs
  exact False.elim q
end L2
namespace L2
open PySem PySem.Spec PyProof.Rows
section
variable {X:Cx} {x:Str} {p pos:Pos} {e:Expr} {es:List Expr} {t:TA} {id T:String} {r:List V→Hp→VK→Prop}
def tCB (r:List V→Hp→VK→Prop) (t:TA):TE:=fun σ H Q=>t σ H fun vs H1=>r vs H1 Q
theorem pe_callB (hc:CallR X (.builtin id) r) (hg:Gl X x) (hm:X.mg x=none) (hv:bootBuiltins x=some (.builtin id)) (ha:PA X (e::es) t) (hn:x ≠ "__name__" := by decide) (hdb:(x == ("__debug__":Str))=false:=by decide)
  (he:starEach (e::es) X.env=(false,eval e X.env)::starEach es X.env:=by rfl) (hpl:(backTo pos (starEach es X.env)).any (·.1)=false:=by rfl):PE X (.Call (.Name x p) (e::es) [] pos) (tCB r t):=by
 intro pins s σ H Q I h
 refine wpAny_Call_Name_kw (ld_blt I hg hm hv ?_ hn hdb)
 exact PyProof.Rows.callWith_builtin1 (thn (ha pos pins s σ H _ I h) fun us s1 ⟨vs,H1,I1,r1,q1⟩=>hc pins s1 σ H1 vs us Q I1 r1 q1) he hpl
theorem pe_callTy (hc:CallR X (.type T) r) (hg:Gl X x) (hm:X.mg x=none) (hv:bootBuiltins x=some (.type T)) (ha:PA X (e::es) t) (hn:x ≠ "__name__" := by decide) (hdb:(x == ("__debug__":Str))=false:=by decide)
  (he:starEach (e::es) X.env=(false,eval e X.env)::starEach es X.env:=by rfl) (hpl:(backTo pos (starEach es X.env)).any (·.1)=false:=by rfl):PE X (.Call (.Name x p) (e::es) [] pos) (tCB r t):=by
 intro pins s σ H Q I h
 refine wpAny_Call_Name_kw (ld_blt I hg hm hv ?_ hn hdb)
 exact PyProof.Rows.callWith_type1 (thn (ha pos pins s σ H _ I h) fun us s1 ⟨vs,H1,I1,r1,q1⟩=>hc pins s1 σ H1 vs us Q I1 r1 q1) he hpl
end
end L2
namespace HT
open PySem PyProof.Rows
section
open PySem.SeqAt
open PySem.AutoSeq1 (wpAny_loadPart')
open PySem.MeetsSeq PySem.MeetsSeq2 PySem.MeetsSeq3
end
section
variable {prog:Program} {w:World} {A:Around} {E:Value→Shared→Prop} {s:Shared}
def sIx (n d:Nat):Option Int→Nat
 | none=>d
 | some v=>if v < 0 then (v+(n:Int)).toNat else min v.toNat n
theorem sIx_none (n d:Nat):sIx n d none=d:=rfl
theorem sIx_nat (n d k:Nat):sIx n d (some (k:Int))=min k n:=by
 show (if (k:Int) < 0 then ((k:Int)+(n:Int)).toNat else min (k:Int).toNat n)=min k n
 rw [if_neg (by omega),Int.toNat_natCast]
end
end HT
namespace L2
open PySem PySem.Spec PyProof.Rows
abbrev TO:=St→Hp→(Option Int→Hp→Prop)→Prop
def PO (X:Cx) (e:Option Expr) (t:TO):Prop :=
 ∀ (pins:List (Addr×Obj)) (s:Shared) (σ:St) (H:Hp) (Q:Option Int→Hp→Prop),Inv X pins σ H s→t σ H Q →
  wpAny (model X.prog X.w) X.A (evalPart e X.env) (fun u s'=>∃ o H',Inv X pins σ H' s'∧IsPart u o∧Q o H') X.xe s
def tNoPart:TO:=fun _ H Q=>Q none H
def tPart (t:TE):TO:=fun σ H Q=>t σ H fun x H1=>∃ i,x=.int i∧Q (some i) H1
theorem intsAre_of {ns:List Int}:∀ {us:List Value},Vals (ns.map V.int) us→IntsAre us ns:=by
 induction ns with
 | nil=>intro us r; rw [List.map_nil] at r; cases r; exact .nil
 | cons n ns ih =>
  intro us r
  rw [List.map_cons] at r
  cases r with
  | cons r1 r2 =>
   obtain ⟨t,e⟩:=r1
   subst e
   exact .cons n t (ih r2)
section
variable {X:Cx} {e:Expr} {te:TE} {lo hi:Option Expr} {tl th:TO} {pos p2:Pos}
theorem po_none:PO X none tNoPart:=by
 intro pins s σ H Q I h
 rw [evalPart_none]
 exact wpAny_pure ⟨none,H,I,.none,h⟩
theorem po_some (h:PE X e te):PO X (some e) (tPart te):=by
 intro pins s σ H Q I hw
 rw [evalPart_some]
 refine thn (h pins s σ H _ I hw) fun u s1 ⟨x,H1,I1,r1,q1⟩=>?_
 obtain ⟨i,rfl,q⟩:=q1
 obtain ⟨t,rfl⟩:=r1
 exact ⟨some i,H1,I1,.int i t,q⟩
def SlR (X:Cx) (r:V→Option Int→Option Int→Hp→VK→Prop):Prop :=
 ∀ (pins:List (Addr×Obj)) (s:Shared) (σ:St) (H:Hp) (x:V) (v vl vu:Value) (lo hi:Option Int) (sl:Addr) (Q:VK),Inv X pins σ H s→RelV x v→s.heap.IsSliceOf sl vl vu .none→IsPart vl lo→IsPart vu hi→r x lo hi H Q →
  ∃ T id,typeLookup (.type T) "__getitem__"=pure (some (.builtin id))∧s.TypeIs v T∧wpAny (model X.prog X.w) X.A (getItem v (.ref sl)) (EP X pins σ Q) X.xe s
theorem SlR.or {r r':V→Option Int→Option Int→Hp→VK→Prop} (h:SlR X r) (h':SlR X r'):SlR X (fun x lo hi H Q=>r x lo hi H Q∨r' x lo hi H Q):=by
 intro pins s σ H x v vl vu lo hi sl Q I rx hs pl pu q
 rcases q with q | q
 ·exact h pins s σ H x v vl vu lo hi sl Q I rx hs pl pu q
 ·exact h' pins s σ H x v vl vu lo hi sl Q I rx hs pl pu q
def tSl (r:V→Option Int→Option Int→Hp→VK→Prop) (te:TE) (tl th:TO):TE:=fun σ H Q=>te σ H fun x H1=>tl σ H1 fun l H2=>th σ H2 fun u H3=>r x l u H3 Q
theorem pe_slice {r:V→Option Int→Option Int→Hp→VK→Prop} (hr:SlR X r) (he:PE X e te) (hl:PO X lo tl) (hu:PO X hi th):PE X (.Subscript e (.Slice lo hi none p2) pos) (tSl r te tl th):=by
 intro pins s σ H Q I h
 refine Subscript_ (thn (he pins s σ H _ I h) fun v s1 ⟨x,H1,I1,r1,q1⟩=>?_)
 refine wpAny_Slice (thn (hl pins s1 σ H1 _ I1 q1) fun vl s2 ⟨l,H2,I2,pl,q2⟩=>thn (hu pins s2 σ H2 _ I2 q2) fun vu s3 ⟨u,H3,I3,pu,q3⟩=>?_)
 rw [evalPart_none]
 refine wpAny_pure ?_
 have I4:Inv X pins σ H3 { s3 with heap:=s3.heap.push { cls:=.type "slice",data:=.fields #[vl,vu,.none] } }:=I3.kept (t':=s3.toks) fun b ob q=>Heap.get?_push_of_some _ q
 obtain ⟨T,id,hT,ht,hg⟩:=hr pins { s3 with heap:=s3.heap.push { cls:=.type "slice",data:=.fields #[vl,vu,.none] } } σ H3 x v vl vu l u s3.heap.objs.size Q I4 r1 (Heap.IsSliceOf.new ..) pl pu q3
 show wpAny (model X.prog X.w) X.A (subscriptTail e (.Slice lo hi none p2) v (.ref s3.heap.objs.size)) (EP X pins σ Q) X.xe { s3 with heap:=s3.heap.push { cls:=.type "slice",data:=.fields #[vl,vu,.none] } }
 exact tail_any (ops:=[.ref s3.heap.objs.size,v]) ht hT hg (by with_unfolding_all rfl)
def cutV (xs:List V) (lo hi:Option Int):List V:=(xs.drop (HT.sIx xs.length 0 lo)).take (HT.sIx xs.length xs.length hi - HT.sIx xs.length 0 lo)
theorem cutV_length (xs:List V) (lo hi:Option Int):(cutV xs lo hi).length≤xs.length:=by
 unfold cutV
 rw [List.length_take,List.length_drop]
 omega
end
end L2
namespace L2
open PySem PySem.Spec PyProof.Rows
def ixN (n:Nat) (i:Int):Option Nat:=if 0≤i then (if i < n then some i.toNat else none) else if -(n:Int)≤i then some (i+n).toNat else none
def atI {α:Type} (xs:List α) (i:Int):Option α:=(ixN xs.length i).bind fun j=>xs[j]?
theorem ixN_seq {n:Nat} {i:Int} {j:Nat} (h:ixN n i=some j):seqIndex? i n=some j∧j < n∧-(n:Int)≤i∧i < n:=by
 unfold ixN at h
 by_cases h0:0≤i
 ·rw [if_pos h0] at h
  by_cases h1:i < n
  ·rw [if_pos h1] at h
   have e:i.toNat=j:=Option.some.inj h
   exact ⟨by rw [seqIndex_of h0 h1,e],by omega,by omega,h1⟩
  ·rw [if_neg h1] at h; cases h
 ·rw [if_neg h0] at h
  by_cases h1:-(n:Int)≤i
  ·rw [if_pos h1] at h
   have e:(i+n).toNat=j:=Option.some.inj h
   exact ⟨by rw [seqIndex_neg (by omega) h1,e],by omega,h1,by omega⟩
  ·rw [if_neg h1] at h; cases h
theorem atI_get {α:Type} {xs:List α} {i:Int} {v:α} (h:atI xs i=some v):∃ j,seqIndex? i xs.length=some j∧xs[j]?=some v∧j < xs.length∧-(xs.length:Int)≤i∧i < xs.length:=by
 unfold atI at h
 cases e:ixN xs.length i with
 | none=>rw [e] at h; cases h
 | some j =>
  rw [e] at h
  obtain ⟨h1,h2,h3,h4⟩:=ixN_seq e
  exact ⟨j,h1,h,h2,h3,h4⟩
theorem atI_nat {α:Type} {xs:List α} {j:Nat} {v:α} (h:xs[j]?=some v):atI xs (j:Int)=some v:=by
 have hj:j < xs.length:=(List.getElem?_eq_some_iff.mp h).1
 have e:ixN xs.length (j:Int)=some j:=by
  unfold ixN
  rw [if_pos (by omega),if_pos (by omega)]; simp
 unfold atI; rw [e]; exact h
def PlainIx (b:Expr):Prop:=∀ o i,subscripted b false o i=operate [o,i] (getItem o i)
def IxR (X:Cx) (r:R2):Prop :=
 ∀ (value slice:Expr) (pins:List (Addr×Obj)) (s:Shared) (σ:St) (H:Hp) (x y:V) (v u:Value) (Q:VK),Inv X pins σ H s→RelV x v→RelV y u→r x y H Q →
  subscripted slice false v u=operate [v,u] (getItem v u)→wpAny (model X.prog X.w) X.A (subscriptTail value slice v u) (EP X pins σ Q) X.xe s
def MtR (X:Cx) (id:String) (r:V→List V→Hp→VK→Prop):Prop :=
 ∀ (pins:List (Addr×Obj)) (s:Shared) (σ:St) (H:Hp) (x:V) (xs:List V) (v:Value) (us:List Value) (Q:VK),Inv X pins σ H s→RelV x v→Vals xs us→r x xs H Q →
  wpAny (model X.prog X.w) X.A (call (.builtin id) (v::us)) (EP X pins σ Q) X.xe s
section
variable {X:Cx} {a b:Expr} {ta tb:TE} {pos:Pos}
theorem IxR.or {r r':R2} (h:IxR X r) (h':IxR X r'):IxR X (fun x y H Q=>r x y H Q∨r' x y H Q):=by
 intro value slice pins s σ H x y v u Q I rx ry q hs
 rcases q with q | q
 ·exact h value slice pins s σ H x y v u Q I rx ry q hs
 ·exact h' value slice pins s σ H x y v u Q I rx ry q hs
theorem MtR.or {id:String} {r r':V→List V→Hp→VK→Prop} (h:MtR X id r) (h':MtR X id r'):MtR X id (fun x xs H Q=>r x xs H Q∨r' x xs H Q):=by
 intro pins s σ H x xs v us Q I rx rs q
 rcases q with q | q
 ·exact h pins s σ H x xs v us Q I rx rs q
 ·exact h' pins s σ H x xs v us Q I rx rs q
theorem pe_ix {r:R2} (hr:IxR X r) (ha:PE X a ta) (hb:PE X b tb) (hs:PlainIx b):PE X (.Subscript a b pos) (tOp r ta tb):=by
 intro pins s σ H Q I h
 exact Subscript_ (binT ha hb I h fun v u s2 x y H2 I2 rx ry q=>hr a b pins s2 σ H2 x y v u Q I2 rx ry q (hs _ _))
def rIxL (K:PySem.W.Frag):R2:=fun x y H Q=>∃ p xs i v,x=.ref p∧y=.int i∧SqL K H p xs∧atI xs i=some v∧Q v H
def rIxT (K:PySem.W.Frag):R2:=fun x y H Q=>∃ p xs i v,x=.ref p∧y=.int i∧SqT K H p xs∧atI xs i=some v∧Q v H
def rIxS:R2:=fun x y H Q=>∃ z i c,x=.str z∧y=.int i∧z.length≤sizeLine∧atI z.cps.toList i=some c∧Q (.str ⟨#[c]⟩) H
theorem ix_list:IxR X (rIxL X.K):=by
 intro value slice pins s σ H x y v u Q I rx ry h hs
 obtain ⟨p,xs,i,z,rfl,rfl,hq,he,q⟩:=h
 cases rx
 obtain ⟨t,rfl⟩:=ry
 obtain ⟨its,r,pl,hz⟩:=I.list hq
 obtain ⟨j,h1,h2,h3,h4,h5⟩:=atI_get he
 obtain ⟨w,ew,rw'⟩:=r.get h2
 have hl:=r.length
 have hn:=line63
 have fin:EP X pins σ Q w s:=⟨z,H,I,rw',q⟩
 by_cases h0:0≤i
 ·have hj:i.toNat=j:=by
   rw [seqIndex_of h0 h5] at h1
   exact Option.some.inj h1
  exact item_listR pl.isList h0 (by omega) (by rw [hj]; simpa using ew) fin hs
 ·have hj:(i+(its.toArray.size:Int)).toNat=j:=by
   rw [seqIndex_neg (by omega) h4] at h1
   rw [List.size_toArray,← hl]
   exact Option.some.inj h1
  exact subscriptTail_builtinR (x:=w) pl.isList.typeIs slot_list_getitem.lookup
   (wpAny_getItem_list_neg (Q:=fun r s'=>r=w∧EP X pins σ Q r s') pl.isList (by omega) (by rw [List.size_toArray] <;> omega) (by omega) (by rw [hj]; simpa using ew) ⟨rfl,fin⟩) hs
theorem ix_tup:IxR X (rIxT X.K):=by
 intro value slice pins s σ H x y v u Q I rx ry h hs
 obtain ⟨p,xs,i,z,rfl,rfl,hq,he,q⟩:=h
 cases rx
 obtain ⟨t,rfl⟩:=ry
 obtain ⟨its,r,pl,hz⟩:=I.tuple hq
 obtain ⟨j,h1,h2,h3,h4,h5⟩:=atI_get he
 obtain ⟨w,ew,rw'⟩:=r.get h2
 have hl:=r.length
 have hn:=line63
 have fin:EP X pins σ Q w s:=⟨z,H,I,rw',q⟩
 exact subscriptTail_builtinR (x:=w) pl.typeIs slot_tuple_getitem.lookup
  (getItem_tuple (j:=j) (Q:=fun r s'=>r=w∧EP X pins σ Q r s') pl (by omega) (by omega) (by rw [List.size_toArray,← hl]; exact h1) (by simpa using ew) ⟨rfl,fin⟩) hs
theorem ix_str:IxR X rIxS:=by
 intro value slice pins s σ H x y v u Q I rx ry h hs
 obtain ⟨z,i,c,rfl,rfl,hz,he,q⟩:=h
 obtain ⟨t,rfl⟩:=rx
 obtain ⟨t',rfl⟩:=ry
 obtain ⟨j,h1,h2,h3,h4,h5⟩:=atI_get he
 have hl:z.cps.toList.length=z.length:=by simp [Str.length]
 rw [hl] at h1 h4 h5
 have hn:=line63
 exact tail_any (typeIs_str s z t) slot_str_getitem.lookup (getItem_str (c:=c) (by
  have e1:decide (i < -(2 ^ 63:Int))=false:=decide_eq_false (by omega)
  have e2:decide (i≥2 ^ 63)=false:=decide_eq_false (by omega)
  rw [e1,e2,Bool.or_false]) (by rw [h1]; simpa using h2) ⟨.str ⟨#[c]⟩,H,I.tok _,⟨_,rfl⟩,q⟩) hs
theorem mapSeq_set (its:List Value) (n j:Nat) (u:Value):Obj.mapSeq (·.setIfInBounds j u) { cls:=.type "list",data:=.seq its.toArray n }={ cls:=.type "list",data:=.seq (its.set j u).toArray n }:=by
 simp [Obj.mapSeq]
theorem Inv.lst {pins:List (Addr×Obj)} {σ:St} {H:Hp} {s:Shared} {p:Addr} {xs:List V} (I:Inv X pins σ H s) (h:H p=some (.lst xs)) :
  ∃ (its:List Value) (n:Nat),Vals xs its∧s.heap.get? p=some { cls:=.type "list",data:=.seq its.toArray n }∧xs.length≤sizeLine:=by
 obtain ⟨z,its,n,r,e⟩:=I.hok p _ h
 exact ⟨its,n,r,e,z⟩
theorem Inv.lstUpd {pins:List (Addr×Obj)} {σ:St} {H:Hp} {s:Shared} {p:Addr} {xs ys:List V} {its its':List Value} {n n':Nat} {f:Obj→Obj} (I:Inv X pins σ H s) (h:H p=some (.lst xs))
  (ho:s.heap.get? p=some { cls:=.type "list",data:=.seq its.toArray n }) (hf:f { cls:=.type "list",data:=.seq its.toArray n }={ cls:=.type "list",data:=.seq its'.toArray n' }) (r:Vals ys its') (hz:ys.length≤sizeLine) (t:Nat) :
  Inv X pins σ (upd H p (.lst ys)) { s with heap:=s.heap.update p f,toks:=t }:=by
 have e:(s.heap.update p f).get? p=some { cls:=.type "list",data:=.seq its'.toArray n' }:=by
  rw [Heap.get?_update_self f ho (by rw [hf] <;> rfl),hf]
 refine I.write (x:=p) (e:=p) (by rw [h]; trivial) (.inl rfl) (fun b u hb q=>(Heap.get?_update_other _ _ (Ne.symm hb)).trans q) ⟨_,e⟩ ?_
 exact ⟨hz,its',n',r,e⟩
def rSetL:V→V→V→Hp→(Hp→Prop)→Prop:=fun o i v H Q=>∃ p xs k j,o=.ref p∧i=.int k∧H p=some (.lst xs)∧ixN xs.length k=some j∧Q (upd H p (.lst (xs.set j v)))
theorem set_list:PSet X rSetL:=by
 intro pins s σ H o i v ov iv u Q I ro ri rv h
 obtain ⟨p,xs,k,j,rfl,rfl,hp,hj,q⟩:=h
 cases ro
 obtain ⟨t,rfl⟩:=ri
 obtain ⟨its,n,r,ho,hz⟩:=I.lst hp
 obtain ⟨h1,h2,h3,h4⟩:=ixN_seq hj
 have hl:=r.length
 have hn:=line63
 have I':Inv X pins σ (upd H p (.lst (xs.set j v))) { s with heap:=s.heap.update p (Obj.mapSeq (·.setIfInBounds j u)) } :=
  I.lstUpd hp ho (mapSeq_set its n j u) (r.set rv j) (by rw [List.length_set]; exact hz) s.toks
 by_cases h0:0≤k
 ·have hk:k.toNat=j:=by
   rw [seqIndex_of h0 h4] at h1
   exact Option.some.inj h1
  exact PySem.W.ki_setAt ho h0 (by omega) (by rw [List.size_toArray,← hl]; exact h4) (by rw [hk]; exact ⟨_,I',q⟩)
 ·have hk:(k+(its.toArray.size:Int)).toNat=j:=by
   rw [seqIndex_neg (by omega) h3] at h1
   rw [List.size_toArray,← hl]
   exact Option.some.inj h1
  exact PySem.W.ki_setBack ho (by omega) (by rw [List.size_toArray,← hl]; exact h3) (by omega) (by rw [hk]; exact ⟨_,I',q⟩)
theorem slice_bounds (lo hi:Option Int) (n:Nat):(sliceBounds lo hi none n).1=((HT.sIx n 0 lo:Nat):Int)∧(sliceBounds lo hi none n).2.1=((HT.sIx n n hi:Nat):Int)∧(sliceBounds lo hi none n).2.2=1:=by
 refine ⟨?_,?_,rfl⟩
 ·cases lo with
  | none=>simp [sliceBounds,HT.sIx]
  | some i =>
   simp only [sliceBounds,HT.sIx,Option.getD_none,show (1:Int) > 0 by decide,if_true]
   by_cases h:i < 0
   ·simp only [h,if_true] <;> omega
   ·simp only [h,if_false] <;> omega
 ·cases hi with
  | none=>simp [sliceBounds,HT.sIx]
  | some i =>
   simp only [sliceBounds,HT.sIx,Option.getD_none,show (1:Int) > 0 by decide,if_true]
   by_cases h:i < 0
   ·simp only [h,if_true] <;> omega
   ·simp only [h,if_false] <;> omega
theorem slicePick_cut (its:List Value) (lo hi:Option Int):slicePick its.toArray lo hi none=((its.drop (HT.sIx its.length 0 lo)).take (HT.sIx its.length its.length hi - HT.sIx its.length 0 lo)).toArray:=by
 obtain ⟨h1,h2,h3⟩:=slice_bounds lo hi its.toArray.size
 unfold slicePick
 rw [h1,h2,h3]
 simp only [sliceRange_one,pick_run,List.size_toArray] <;> rfl
def rSlL (K:PySem.W.Frag):V→Option Int→Option Int→Hp→VK→Prop:=fun x lo hi H Q=>∃ a xs,x=.ref a∧SqL K H a xs∧∀ p,H p=none→Q (.ref p) (upd H p (.lst (cutV xs lo hi)))
theorem sl_list:SlR X (rSlL X.K):=by
 intro pins s σ H x v vl vu lo hi sl Q I rx hs pl pu h
 obtain ⟨a,xs,rfl,hx,q⟩:=h
 cases rx
 obtain ⟨its,r,ht,hz⟩:=I.list hx
 have hlen:=r.length
 refine ⟨"list",_,slot_list_getitem.lookup,ht.isList.typeIs,?_⟩
 refine wpAny_getItem_list_slice ht.isList hs pl pu .none (by simp) ?_ (by rw [List.size_toArray] <;> omega)
 rw [slicePick_cut,← hlen]
 refine ⟨.ref s.heap.objs.size,_,I.laid (t':=s.toks) (o:=.lst (cutV xs lo hi)) (fun b ob q=>Heap.get?_push_of_some _ q) (Nat.le_refl _) ?_,rfl,q _ (I.hok.fresh (Nat.le_refl _))⟩
 exact ⟨Nat.le_trans (cutV_length xs lo hi) hz,_,0,(r.drop (HT.sIx xs.length 0 lo)).take (HT.sIx xs.length xs.length hi - HT.sIx xs.length 0 lo),Heap.get?_push_size _ rfl⟩
def flatV:V→Bool
 | .non=>true
 | .bl _=>true
 | .int _=>true
 | .str _=>true
 | _=>false
def eqV:V→V→Bool
 | .non,.non=>true
 | .bl a,.bl b=>a == b
 | .bl a,.int b=>(if a then 1 else 0) == b
 | .int a,.bl b=>a == (if b then 1 else 0)
 | .int a,.int b=>a == b
 | .str a,.str b=>a == b
 | _,_=>false
theorem eqAt_V {A:Around} {s:Shared} {y x:V} {u v:Value} (ry:RelV y u) (rx:RelV x v) (fy:flatV y=true) (fx:flatV x=true):SeqAt.EqAt A s u v (eqV y x):=by
 cases y with
 | non =>
  cases ry
  cases x with
  | non=>cases rx; exact SeqAt.EqAt.same _
  | bl b=>cases rx; exact SeqAt.EqAt.none_bool b
  | int b=>obtain ⟨t,rfl⟩:=rx; exact SeqAt.EqAt.none_int b t
  | str b=>obtain ⟨t,rfl⟩:=rx; exact SeqAt.EqAt.none_str b t
  | _=>exact absurd (show false=true from fx) Bool.false_ne_true
 | bl a =>
  cases ry
  cases x with
  | non=>cases rx; exact SeqAt.EqAt.bool_none a
  | bl b=>cases rx; exact SeqAt.EqAt.bool_bool a b
  | int b=>obtain ⟨t,rfl⟩:=rx; exact SeqAt.EqAt.bool_int a b t
  | str b=>obtain ⟨t,rfl⟩:=rx; exact SeqAt.EqAt.bool_str a b t
  | _=>exact absurd (show false=true from fx) Bool.false_ne_true
 | int a =>
  obtain ⟨t',rfl⟩:=ry
  cases x with
  | non=>cases rx; exact SeqAt.EqAt.int_none a t'
  | bl b=>cases rx; exact SeqAt.EqAt.int_bool a t' b
  | int b=>obtain ⟨t,rfl⟩:=rx; exact SeqAt.EqAt.int_int a t' b t
  | str b=>obtain ⟨t,rfl⟩:=rx; exact SeqAt.EqAt.int_str a t' b t
  | _=>exact absurd (show false=true from fx) Bool.false_ne_true
 | str a =>
  obtain ⟨t',rfl⟩:=ry
  cases x with
  | non=>cases rx; exact SeqAt.EqAt.str_none a t'
  | bl b=>cases rx; exact SeqAt.EqAt.str_bool a t' b
  | int b=>obtain ⟨t,rfl⟩:=rx; exact SeqAt.EqAt.str_int a t' b t
  | str b=>obtain ⟨t,rfl⟩:=rx; exact SeqAt.EqAt.str_str a t' b t
  | _=>exact absurd (show false=true from fx) Bool.false_ne_true
 | _=>exact absurd (show false=true from fy) Bool.false_ne_true
def eqU (x:V) (u:Value):Bool:=match u with
 | .none=>eqV .non x
 | .bool b=>eqV (.bl b) x
 | .int i _=>eqV (.int i) x
 | .str z _=>eqV (.str z) x
 | _=>false
theorem eqU_of {x y:V} {u:Value} (r:RelV y u) (f:flatV y=true):eqU x u=eqV y x:=by
 cases y with
 | non=>cases r; rfl
 | bl b=>cases r; rfl
 | int i=>obtain ⟨t,rfl⟩:=r; rfl
 | str z=>obtain ⟨t,rfl⟩:=r; rfl
 | _=>exact absurd (show false=true from f) Bool.false_ne_true
theorem any_eqU {x:V}:∀ {xs:List V} {us:List Value},Vals xs us→xs.all flatV=true→us.any (eqU x)=xs.any fun y=>eqV y x
 | _,_,.nil,_=>rfl
 | y::xs,u::us,.cons r t,f=>by
  rw [List.all_cons,Bool.and_eq_true] at f
  rw [List.any_cons,List.any_cons,eqU_of r f.1,any_eqU t f.2]
theorem mem_eqAt {A:Around} {s:Shared} {x:V} {v:Value} (rx:RelV x v) (fx:flatV x=true):∀ {xs:List V} {us:List Value},Vals xs us→xs.all flatV=true→∀ u∈us,SeqAt.EqAt A s u v (eqU x u)
 | _,_,.nil,_=>fun u hu=>by cases hu
 | y::xs,u::us,.cons r t,f=>fun u' hu=>by
  rw [List.all_cons,Bool.and_eq_true] at f
  rcases List.mem_cons.mp hu with rfl | hu
  ·rw [eqU_of r f.1]; exact eqAt_V r rx f.1 fx
  ·exact mem_eqAt rx fx t f.2 u' hu
def inV (x:V) (xs:List V):Bool:=xs.any fun y=>eqV y x
def rIn (K:PySem.W.Frag) (neg:Bool):R2:=fun x y H Q=>∃ p xs,y=.ref p∧(SqL K H p xs∨SqT K H p xs)∧flatV x=true∧xs.all flatV=true∧Q (.bl (if neg then !inV x xs else inV x xs)) H
theorem op_in_seq:OpR X (compareOp .In) (rIn X.K false):=by
 intro pins s σ H x y v u Q I rx ry h
 obtain ⟨p,xs,rfl,hq,fx,fs,q⟩:=h
 cases ry
 rcases hq with hq | hq
 ·obtain ⟨its,r,pl,hz⟩:=I.list hq
  refine SeqAt.in_listAt (eqU x) pl.isList (fun w hw=>mem_eqAt rx fx r fs w (by simpa using hw)) ⟨.bl _,H,I,rfl,?_⟩
  rw [show its.toArray.any (eqU x)=its.any (eqU x) by simp,any_eqU r fs]
  exact q
 ·obtain ⟨its,r,pl,hz⟩:=I.tuple hq
  refine SeqAt.in_tupleAt (eqU x) pl (fun w hw=>mem_eqAt rx fx r fs w (by simpa using hw)) ⟨.bl _,H,I,rfl,?_⟩
  rw [show its.toArray.any (eqU x)=its.any (eqU x) by simp,any_eqU r fs]
  exact q
theorem call_len_seq:CallR X (.builtin "len") (fun xs H Q=>∃ p ys,xs=[.ref p]∧(SqL X.K H p ys∨SqT X.K H p ys)∧Q (.int ys.length) H):=by
 intro pins s σ H xs us Q I r h
 obtain ⟨p,ys,rfl,hq,q⟩:=h
 obtain ⟨u,rfl,rx⟩:=vals1 r
 cases rx
 have hn:=line63
 rcases hq with hq | hq
 ·obtain ⟨its,r',pl,hz⟩:=I.list hq
  have hlen:=r'.length
  exact Calls.call_len_list pl.isList (by simp only [List.size_toArray] <;> omega) ⟨.int ys.length,H,I.tok _,⟨s.toks+1,by rw [List.size_toArray,hlen]⟩,q⟩
 ·obtain ⟨its,r',pl,hz⟩:=I.tuple hq
  have hlen:=r'.length
  exact len_tuple pl (by simp only [List.size_toArray] <;> omega) ⟨.int ys.length,H,I.tok _,⟨s.toks+1,by rw [List.size_toArray,hlen]⟩,q⟩
theorem CallR.or {f:Value} {r r':List V→Hp→VK→Prop} (h:CallR X f r) (h':CallR X f r'):CallR X f (fun xs H Q=>r xs H Q∨r' xs H Q):=by
 intro pins s σ H xs us Q I rs q
 rcases q with q | q
 ·exact h pins s σ H xs us Q I rs q
 ·exact h' pins s σ H xs us Q I rs q
theorem call_list_of:CallR X (.type "list") (fun xs H Q=>∃ p ys,xs=[.ref p]∧(SqL X.K H p ys∨SqT X.K H p ys)∧∀ l,H l=none→Q (.ref l) (upd H l (.lst ys))):=by
 intro pins s σ H xs us Q I r h
 obtain ⟨p,ys,rfl,hq,q⟩:=h
 obtain ⟨u,rfl,rx⟩:=vals1 r
 cases rx
 have fin:∀ (its:List Value),Vals ys its→ys.length≤sizeLine→∀ (h':Heap) (c':Nat),(∀ b o',s.heap.get? b=some o'→h'.get? b=some o') →
   h'.get? s.heap.objs.size=some { cls:=.type "list",dict:=none,data:=.seq its.toArray c',slots:=#[] }→EP X pins σ Q (.ref s.heap.objs.size) { s with heap:=h' }:=fun its r' hz h' c' kp e =>
  ⟨.ref s.heap.objs.size,_,I.laid (t':=s.toks) kp (Nat.le_refl _) (show ObjOk X.prog X.w _ h' _ (.lst ys) from ⟨hz,its,c',r',e⟩),rfl,q _ (I.hok.fresh (Nat.le_refl _))⟩
 rcases hq with hq | hq
 ·obtain ⟨its,r',pl,hz⟩:=I.list hq
  have hlen:=r'.length
  obtain ⟨o,ho,hc,n,hd⟩:=pl.isList
  exact call_list_seq p (.inl rfl) ho hc hd (fun h' c' kp e=>fin its r' hz h' c' kp e) (by simp only [List.size_toArray] <;> omega)
 ·obtain ⟨its,r',pl,hz⟩:=I.tuple hq
  have hlen:=r'.length
  obtain ⟨o,ho,hc,n,hd⟩:=pl
  exact call_list_seq p (.inr rfl) ho hc hd (fun h' c' kp e=>fin its r' hz h' c' kp e) (by simp only [List.size_toArray] <;> omega)
theorem call_tuple_of:CallR X (.type "tuple") (fun xs H Q=>∃ p ys,xs=[.ref p]∧((SqL X.K H p ys∧∀ l,H l=none→Q (.ref l) (upd H l (.tup ys)))∨(SqT X.K H p ys∧Q (.ref p) H))):=by
 intro pins s σ H xs us Q I r h
 obtain ⟨p,ys,rfl,h⟩:=h
 obtain ⟨u,rfl,rx⟩:=vals1 r
 cases rx
 rcases h with ⟨hq,q⟩ | ⟨hq,q⟩
 ·obtain ⟨its,r',pl,hz⟩:=I.list hq
  have hlen:=r'.length
  refine call_tuple_list pl.isList (fun h' kp=>?_) (by simp only [List.size_toArray] <;> omega)
  have I1:Inv X pins σ H { s with heap:=h' }:=I.kept (t':=s.toks) kp
  have I2:Inv X pins σ (upd H h'.objs.size (.tup ys)) { s with heap:=h'.push { cls:=.type "tuple",data:=.seq its.toArray } } :=
   I1.laid (t':=s.toks) (fun b o e=>Heap.get?_push_of_some _ e) (Nat.le_refl _) (show ObjOk X.prog X.w _ _ _ (.tup ys) from ⟨hz,its,r',IsTup.new _ _⟩)
  exact ⟨.ref h'.objs.size,_,I2,rfl,q _ (I1.hok.fresh (Nat.le_refl _))⟩
 ·obtain ⟨its,r',pl,hz⟩:=I.tuple hq
  exact call_tuple_same pl ⟨.ref p,H,I,rfl,q⟩
def tyV (K:PySem.W.Frag) (T:String) (x:V) (H:Hp):Prop:=match x with
 | .str _=>T = "str"
 | .int _=>T = "int"
 | .ref p=>(T = "list" ∧ ∃ xs,SqL K H p xs)∨(T = "tuple" ∧ ∃ o,K.lookup p=some o∧o.cls=.type "tuple" ∧ o.dict=none) ∨
   (T = "dict" ∧ ((∃ kvs,H p=some (.dK kvs))∨∃ kvs,H p=some (.dT kvs)))∨(T = "set" ∧ ∃ S n,H p=some (.set S n))
 | _=>False
theorem tyV_is {pins:List (Addr×Obj)} {σ:St} {H:Hp} {s:Shared} {T:String} {x:V} {v:Value} (I:Inv X pins σ H s) (r:RelV x v) (ty:tyV X.K T x H) :
  s.TypeIs v T∧∀ a,v=.ref a→∃ ob,s.heap.get? a=some ob∧ob.dict=none:=by
 cases x with
 | str z =>
  obtain ⟨t,rfl⟩:=r
  cases (show T = "str" from ty)
  exact ⟨typeIs_str s z t,fun _ e=>nomatch e⟩
 | int i =>
  obtain ⟨t,rfl⟩:=r
  cases (show T = "int" from ty)
  exact ⟨typeIs_int s i t,fun _ e=>nomatch e⟩
 | ref p =>
  cases r
  rcases ty with ⟨rfl,xs,hq⟩ | ⟨rfl,o,hk,hc,hd⟩ | ⟨rfl,hk⟩ | ⟨rfl,S,n,hk⟩
  ·obtain ⟨its,_,pl,_⟩:=I.list hq
   refine ⟨pl.isList.typeIs,fun a e=>?_⟩
   cases e
   obtain ⟨o,n,e,c,hd,_⟩:=pl
   exact ⟨o,e,hd⟩
  ·refine ⟨⟨o,I.kIn p o hk,hc⟩,fun a e=>?_⟩
   cases e
   exact ⟨o,I.kIn _ o hk,hd⟩
  ·have z:∃ o,s.heap.get? p=some o∧o.ExactDict:=by
    rcases hk with ⟨kvs,hk⟩ | ⟨kvs,hk⟩
    ·obtain ⟨_,_,_,_,o,_,_,e,ex,_⟩:=I.hok p _ hk
     exact ⟨o,e,ex⟩
    ·obtain ⟨_,_,_,_,o,_,_,e,ex,_⟩:=I.hok p _ hk
     exact ⟨o,e,ex⟩
   obtain ⟨o,e,ex⟩:=z
   refine ⟨⟨o,e,ex.1⟩,fun a e2=>?_⟩
   cases e2
   exact ⟨o,e,ex.2.1⟩
  ·obtain ⟨o,_,_,_,e,ex,_⟩:=I.hok p _ hk
   refine ⟨⟨o,e,ex.1⟩,fun a e2=>?_⟩
   cases e2
   exact ⟨o,e,ex.2.1⟩
 | _=>exact False.elim ty
def tBM0 (K:PySem.W.Frag) (T:String) (r:V→List V→Hp→VK→Prop) (to:TE):TE:=fun σ H Q=>to σ H fun x H1=>tyV K T x H1∧r x [] H1 Q
def tBM (K:PySem.W.Frag) (T:String) (r:V→List V→Hp→VK→Prop) (to:TE) (t:TA):TE:=fun σ H Q=>to σ H fun x H1=>tyV K T x H1∧t σ H1 fun xs H2=>r x xs H2 Q
variable {o e:Expr} {es:List Expr} {to:TE} {t:TA} {name:Str} {apos cpos:Pos} {T id:String} {r:V→List V→Hp→VK→Prop}
theorem pe_bm0 (pa:PlainAttrs T) (slot:Slot T name id) (hty:typeOf (.builtin id)=pure (.type "method_descriptor")) (hm:MtR X id r) (ho:PE X o to)
  (hbase:attributeBase o name X.env (eval o X.env)=eval o X.env:=by rfl) (hline:(apos.endLine == cpos.line)=true:=by rfl):PE X (.Call (.Attribute o name apos) [] [] cpos) (tBM0 X.K T r to):=by
 intro pins s σ H Q I h
 refine wpAny_Call_method0_late hbase hline (thn (ho pins s σ H _ I h) fun v s1 ⟨x,H1,I1,r1,ty,q1⟩=>?_)
 obtain ⟨h1,h2⟩:=tyV_is I1 r1 ty
 exact ⟨T,id,pa,slot,hty,h1,h2,Calls.callWith_builtin rfl (PySem.evalArgs_none (hm pins s1 σ H1 x [] v [] Q I1 r1 .nil q1))⟩
theorem pe_bm (pa:PlainAttrs T) (slot:Slot T name id) (hty:typeOf (.builtin id)=pure (.type "method_descriptor")) (hm:MtR X id r) (ho:PE X o to) (ha:PA X (e::es) t)
  (hbase:attributeBase o name X.env (eval o X.env)=eval o X.env:=by rfl)
  (hfew:((backTo cpos (starEach (e::es) X.env)).all (fun x=>!x.1) && (backToKw cpos (keywordEach [] X.env)).all (fun x=>x.1.isSome)
   && decide ((e::es).length+([]:List Keyword).length+(if ([]:List Keyword).isEmpty then 0 else 1) < 30))=true:=by rfl)
  (hline:(apos.endLine == cpos.line)=true:=by rfl) (hs:starEach (e::es) X.env=(false,eval e X.env)::starEach es X.env:=by rfl) (hplain:(backTo cpos (starEach es X.env)).any (·.1)=false:=by rfl) :
  PE X (.Call (.Attribute o name apos) (e::es) [] cpos) (tBM X.K T r to t):=by
 intro pins s σ H Q I h
 refine wpAny_Call_method_late hbase hfew hline rfl (thn (ho pins s σ H _ I h) fun v s1 ⟨x,H1,I1,r1,ty,q1⟩=>?_)
 obtain ⟨h1,h2⟩:=tyV_is I1 r1 ty
 refine ⟨T,id,pa,slot,hty,h1,h2,?_⟩
 have hA:=ha cpos pins s1 σ H1 _ I1 q1
 rw [hs] at hA ⊢
 refine Calls.callWith_builtin (by show (false || (backTo cpos (starEach es X.env)).any (·.1))=false; rw [hplain] <;> rfl) (Calls.evalArgs_plain ?_)
 exact thn hA fun us s2 ⟨vs,H2,I2,r2,q2⟩=>hm pins s2 σ H2 x vs v us Q I2 r1 r2 q2
/- xs.append(e),list.index on a module's tuple .. are MtR facts of 06m -/
end
end L2
namespace L2
open PySem PySem.Spec PyProof.Rows
def MtM (X:Cx) (id:String) (r:V→List V→Hp→VK→Prop):Prop :=
 ∀ (pins:List (Addr×Obj)) (s:Shared) (σ:St) (H:Hp) (x:V) (xs:List V) (v:Value) (us:List Value) (Q:VK),Inv X pins σ H s→RelV x v→Vals xs us→r x xs H Q →
  wpAny (model X.prog X.w) X.A (call (.builtin id) (v::us)) (EP X pins σ Q) X.xe s
theorem Vals.one:∀ {x:V} {us:List Value},Vals [x] us→∃ u,us=[u]∧RelV x u
 | _,_,.cons r .nil=>⟨_,rfl,r⟩
theorem Vals.two:∀ {x y:V} {us:List Value},Vals [x,y] us→∃ u v,us=[u,v]∧RelV x u∧RelV y v
 | _,_,_,.cons r (.cons q .nil)=>⟨_,_,rfl,r,q⟩
theorem Vals.zero:∀ {us:List Value},Vals [] us→us=[]
 | _,.nil=>rfl
theorem Vals.dropLast {xs:List V} {us:List Value} (h:Vals xs us):Vals xs.dropLast us.dropLast:=by
 induction h with
 | nil=>exact .nil
 | cons r t ih =>
  cases t with
  | nil=>exact .nil
  | cons q t'=>exact .cons r ih
theorem Vals.eraseIdx:∀ {xs:List V} {us:List Value} (i:Nat),Vals xs us→Vals (xs.eraseIdx i) (us.eraseIdx i)
 | _,_,_,.nil=>.nil
 | _,_,0,.cons _ t=>t
 | _,_,i+1,.cons r t=>.cons r (Vals.eraseIdx i t)
theorem Vals.reverse {xs:List V} {us:List Value} (h:Vals xs us):Vals xs.reverse us.reverse:=by
 induction h with
 | nil=>exact .nil
 | cons r t ih=>rw [List.reverse_cons,List.reverse_cons]; exact Vals.append ih (.cons r .nil)
theorem erase_last {α:Type} (l:List α):l.eraseIdx (l.length - 1)=l.dropLast:=by
 induction l with
 | nil=>rfl
 | cons a r ih =>
  cases r with
  | nil=>rfl
  | cons b r =>
   have e:(a::b::r).length - 1=((b::r).length - 1)+1:=by
    have h1:(a::b::r).length=r.length+2:=rfl
    have h2:(b::r).length=r.length+1:=rfl
    omega
   rw [e,List.eraseIdx_cons_succ,ih]
   all_goals rfl
section
variable {X:Cx} {pins:List (Addr×Obj)} {σ:St} {H:Hp} {s:Shared} {l b:Addr} {xs ys zs:List V}
theorem Inv.lset {its its':List Value} {n:Nat} {f:Array Value→Array Value} {t':Nat} (I:Inv X pins σ H s) (hH:H l=some (.lst xs))
  (e:s.heap.get? l=some { cls:=.type "list",data:=.seq its.toArray n }) (hf:f its.toArray=its'.toArray) (hv:Vals ys its') (hz:ys.length≤sizeLine) :
  Inv X pins σ (upd H l (.lst ys)) { s with heap:=s.heap.update l (Obj.mapSeq f),toks:=t' }:=by
 have q:=PySem.IsL.update e f
 rw [hf] at q
 refine I.write (x:=l) (e:=l) (by rw [hH]; exact trivial) (.inl rfl) (fun b' u hb hu=>(Heap.get?_update_other s.heap (Obj.mapSeq f) (Ne.symm hb)).trans hu) ⟨_,q⟩ ?_
 exact ⟨hz,its',_,hv,q⟩
theorem Inv.lnew {its:List Value} {t':Nat} (I:Inv X pins σ H s) (hv:Vals ys its) (hz:ys.length≤sizeLine) :
  Inv X pins σ (upd H s.heap.objs.size (.lst ys)) { s with heap:=s.heap.push { cls:=.type "list",data:=.seq its.toArray },toks:=t' } :=
 I.laid (fun _ _ q=>Heap.get?_push_of_some _ q) (Nat.le_refl _) ⟨hz,its,0,hv,Heap.get?_push_size _ rfl⟩
theorem Inv.fresh (I:Inv X pins σ H s):H s.heap.objs.size=none:=I.hok.fresh (Nat.le_refl _)
theorem Inv.lstM (I:Inv X pins σ H s) (hH:H l=some (.lst xs)):xs.length≤sizeLine∧∃ (its:List Value) (n:Nat),Vals xs its∧xs.length=its.length∧s.heap.get? l=some { cls:=.type "list",data:=.seq its.toArray n }:=by
 obtain ⟨z,its,n,r,e⟩:=I.hok l _ hH
 exact ⟨z,its,n,r,r.length,e⟩
theorem notLongL {n:Nat} (h:n≤sizeLine):Builtin.List.listTooLong n=false:=by
 unfold Builtin.List.listTooLong
 exact decide_eq_false (by omega)
end
section
variable {X:Cx}
def rAppend:V→List V→Hp→VK→Prop:=fun x vs H Q=>∃ l xs y,x=.ref l∧vs=[y]∧H l=some (.lst xs)∧xs.length < sizeLine∧Q .non (upd H l (.lst (xs++[y])))
theorem mt_append:MtM X "list.append" rAppend:=by
 intro pins s σ H x vs v us Q I rx rv h
 obtain ⟨l,xs,y,rfl,rfl,hH,hz,q⟩:=h
 cases rx
 obtain ⟨u,rfl,ru⟩:=rv.one
 obtain ⟨z,its,n,r,hl,e⟩:=I.lstM hH
 refine call_meets F.slot_list_append ⟨_,e,rfl⟩ F.entry_list_append (F.args_list_append_2 _ _) (PySem.list_append l its.toArray n u (by rw [List.size_toArray]; omega)) ⟨e,?_⟩
 refine ⟨.non,_,I.lset (its':=its++[u]) hH e (by simp) (r.append (.cons ru .nil)) ?_,rfl,q⟩
 rw [List.length_append,List.length_singleton]
 omega
def rExtend:V→List V→Hp→VK→Prop:=fun x vs H Q=>∃ l b xs zs,x=.ref l∧vs=[.ref b]∧H l=some (.lst xs)∧H b=some (.lst zs)∧xs.length+zs.length≤sizeLine∧Q .non (upd H l (.lst (xs++zs)))
theorem mt_extend:MtM X "list.extend" rExtend:=by
 intro pins s σ H x vs v us Q I rx rv h
 obtain ⟨l,b,xs,zs,rfl,rfl,hH,hB,hz,q⟩:=h
 cases rx
 obtain ⟨u,rfl,ru⟩:=rv.one
 cases ru
 obtain ⟨z,its,n,r,hl,e⟩:=I.lstM hH
 obtain ⟨z2,its2,n2,r2,hl2,e2⟩:=I.lstM hB
 have hsz:its.toArray.size+its2.toArray.size≤sizeLine:=by rw [List.size_toArray,List.size_toArray]; omega
 have hlong:¬ (!its.toArray.isEmpty && Builtin.List.listTooLong (its.toArray.size+its2.toArray.size))=true:=by
  rw [notLongL hsz,Bool.and_false]
  exact Bool.false_ne_true
 refine call_meets F.slot_list_extend ⟨_,e,rfl⟩ F.entry_list_extend (F.args_list_extend_2 _ _)
  (AutoSeq1.list_extend_list_list_0 l its.toArray n b its2.toArray n2 hlong (by rw [List.size_toArray]; omega) (by omega)) ⟨e,e2,?_⟩
 refine ⟨.non,_,I.lset (its':=its++its2) hH e (by simp) (r.append r2) ?_,rfl,q⟩
 rw [List.length_append]
 omega
def rPop:V→List V→Hp→VK→Prop:=fun x vs H Q=>∃ l xs y,x=.ref l∧vs=[]∧H l=some (.lst xs)∧xs[xs.length - 1]?=some y∧Q y (upd H l (.lst xs.dropLast))
theorem mt_pop:MtM X "list.pop" rPop:=by
 intro pins s σ H x vs v us Q I rx rv h
 obtain ⟨l,xs,y,rfl,rfl,hH,hy,q⟩:=h
 cases rx
 have hus:=rv.zero
 subst hus
 obtain ⟨z,its,n,r,hl,e⟩:=I.lstM hH
 obtain ⟨u,hu,ru⟩:=r.get hy
 have hy':its.toArray[its.toArray.size - 1]?=some u:=by
  show its.toArray[its.length - 1]?=some u
  rw [← Array.getElem?_toList,← hl]
  exact hu
 refine call_meets F.slot_list_pop ⟨_,e,rfl⟩ F.entry_list_pop (F.args_list_pop_1 _) (MeetsSeq.list_pop_last l its.toArray n u hy' (by rw [List.size_toArray]; omega)) ⟨e,?_⟩
 refine ⟨y,_,I.lset (its':=its.dropLast) hH e ?_ r.dropLast ?_,ru,q⟩
 ·show its.toArray.eraseIdxIfInBounds (its.toArray.size - 1)=its.dropLast.toArray
  rw [List.size_toArray,List.eraseIdxIfInBounds_toArray,erase_last]
 ·rw [List.length_dropLast]
  omega
def rClear:V→List V→Hp→VK→Prop:=fun x vs H Q=>∃ l xs,x=.ref l∧vs=[]∧H l=some (.lst xs)∧Q .non (upd H l (.lst []))
theorem mt_clear:MtM X "list.clear" rClear:=by
 intro pins s σ H x vs v us Q I rx rv h
 obtain ⟨l,xs,rfl,rfl,hH,q⟩:=h
 cases rx
 have hus:=rv.zero
 subst hus
 obtain ⟨z,its,n,r,hl,e⟩:=I.lstM hH
 refine call_meets F.slot_list_clear ⟨_,e,rfl⟩ F.entry_list_clear (F.args_list_clear_1 _) (AutoSeq1.list_clear_list_0 l its.toArray n (by rw [List.size_toArray]; omega)) ⟨e,?_⟩
 exact ⟨.non,_,I.lset (its':=[]) (ys:=[]) hH e rfl .nil (Nat.zero_le _),rfl,q⟩
def rCat:R2:=fun x y H Q=>∃ l b xs zs,x=.ref l∧y=.ref b∧H l=some (.lst xs)∧H b=some (.lst zs)∧xs.length+zs.length≤sizeLine∧∀ p,H p=none→Q (.ref p) (upd H p (.lst (xs++zs)))
theorem op_cat:OpR X (binaryOp .Add) rCat:=by
 intro pins s σ H x y v u Q I rx ry h
 obtain ⟨l,b,xs,zs,rfl,rfl,hH,hB,hz,q⟩:=h
 cases rx
 cases ry
 obtain ⟨z,its,n,r,hl,e⟩:=I.lstM hH
 obtain ⟨z2,its2,n2,r2,hl2,e2⟩:=I.lstM hB
 refine PySem.P.add_list e e2 ?_ (by rw [List.size_toArray,List.size_toArray]; omega)
 have ea:its.toArray++its2.toArray=(its++its2).toArray:=by simp
 rw [ea]
 exact ⟨.ref _,_,I.lnew (t':=s.toks) (r.append r2) (by rw [List.length_append]; omega),rfl,q _ I.fresh⟩
end
section
variable {prog:Program} {w:World} {A:Around} {E:Value→Shared→Prop} {s:Shared}
set_option maxRecDepth 100000 in
end
section
variable {X:Cx}
end
end L2
namespace Att
open PySem PySem.W PySem.Calls PyProof.Rows
theorem ints_of_wellAll {P:Params} {h:Heap}:∀ (ns:List Int) (vs:List Value),WellAll P h vs (ns.map WData.int)→IntsAre vs ns:=by
 intro ns
 induction ns with
 | nil =>
  intro vs w
  rw [List.map_nil] at w
  cases w
  exact .nil
 | cons n ns ih =>
  intro vs w
  rw [List.map_cons] at w
  cases w with
  | cons a b =>
   cases a
   exact .cons _ _ (ih _ b)
theorem script_of {l:OpenLaw} {n:Nat} (hn:l.most=some n) {P:Params} {h:Heap} {args:List WData} {vals:List Value}
  (hpre:l.row.toRowW.claim.pre args=true) (hwl:WellAll P h vals args) :
  ∃ a vs ns,vals=[Value.ref a]∧args=[WData.list (ns.map WData.int)]∧h.get? a=some { cls:=.type "list",data:=.seq vs.toArray }∧IntsAre vs ns∧ns.length≤n:=by
 have hsh:WShape.hasAll [] args [.list .int]=true:=(pre_splitW hpre).1
 have hc:l.pre.holds [] { args:=args }=true:=(pre_splitW hpre).2
 obtain ⟨d,r,rfl,h1,h2⟩:=hasAllW_cons hsh
 obtain rfl:=hasAllW_nil h2
 obtain ⟨xs,rfl,h3⟩:=hasW_list h1
 obtain ⟨ns,rfl⟩:=items_int h3
 have hlen:ns.length≤n:=by
  unfold OpenLaw.pre at hc
  have h4:(WTm.not (.lt (.lit (.int (n:Int))) (.len (.arg 0)))).holds [] { args:=[.list (ns.map .int)] }=true:=by
   have h4:=(holds_andW hc).1
   rw [hn] at h4
   exact h4
  have h5:=condW_of h4 (w_not (w_lt w_lit (w_len_list (w_arg rfl))))
  rw [List.length_map] at h5
  refine Nat.le_of_not_lt fun q=>?_
  have q':(n:Int) < ((ns.length:Nat):Int):=by omega
  first
   | (rw [decide_eq_true q'] at h5; exact absurd h5 (by decide))
   | (simp at h5; omega)
 cases hwl with
 | cons w1 w2 =>
  cases w2
  cases w1 with
  | list ho hall=>exact ⟨_,_,ns,rfl,rfl,ho,ints_of_wellAll ns _ hall,hlen⟩
theorem post_true (l:OpenLaw) (args:List WData):l.row.toRowW.claim.post args (.bool true) args=true :=
 postW_of (r:=l.row.toRowW) (X:=(true == true))
  (show WShape.has [] (.bool true) .bool=true by first | rfl | decide | simp [WShape.has,WShape.arms,WShape.armsAll])
  (show (WTm.eq .res (.lit (.bool true))).value [] { args:=args,res:=some (.bool true),after:=args }=some (.bool (true == true)) from w_eq_bool (w_res rfl) w_lit) rfl
theorem attach_call {l:OpenLaw} {n:Nat} {q:Program} {loose:List Str} {XP:(Str→Option Value)→Heap→Prop} {YP:World→Heap→Prop} {d:DefRec}
  (hn:l.most=some n) (hdf:d.params.defaults=[])
  (call:∀ (w:World) (s₀ s₁:Shared) (mg mb:Str→Option Value) (fa:Addr) (o:Obj) (pm cd doc:Value) (a:Addr) (vs:List Value) (ns:List Int),
   Ground q loose [] XP w s₀ mg mb s₁.heap→YP w s₁.heap →
   s₁.heap.get? fa=some o→o.data=.func (docDef d.name d.params d.body d.scope pm cd doc)→s₁.heap.CodeRec cd d.name→mg d.name=some (.ref fa) →
   s₁.heap.get? a=some { cls:=.type "list",data:=.seq vs.toArray }→IntsAre vs ns→ns.length≤n→s₁.gens=#[] →
   codeAny (model l.prog w) callerA (.call (.ref fa) ⟨[.ref a],[]⟩) (fun r s'=>r=.ok (.ret (.bool true))∧OldK s₁.heap s'.heap∧s'.os=s₁.os∧AllBare s'.gens) s₁) :
  WalkO q loose XP YP l.row.toRowW d [] (fun f vs=>PySem.call f vs):=by
 intro w s₀ s₁ mg mb G Y fa o pm cd doc dV kV ho hd hcd hD hmg hg args vals as hpre hlay hrd hwl hlo
 obtain rfl:dV=.none:=Dflts.none hD hdf
 obtain rfl:kV=.none:=Dflts.noKw hD
 obtain ⟨a,vs,ns,rfl,rfl,hobj,hints,hlen⟩:=script_of hn hpre hwl
 refine enter_call (codeAny_mono (call w s₀ s₁ mg mb fa o pm cd doc a vs ns G Y ho (fd_plain hd) hcd hmg hobj hints hlen hg) fun r s' hq=>?_)
 obtain ⟨rfl,h2,h3,h4⟩:=hq
 exact ⟨.inl ⟨.bool true,.bool true,[],rfl,fun _=>rfl,.bool true,post_true l _,fun _=>⟨List.Pairwise.nil,fun _ hm=>(nomatch hm)⟩⟩,h2,h3,h4⟩
section
variable {prog:Program} {w:World} {A:Around} {E:Value→Shared→Prop} {s:Shared} {K:Frag}
def noObjs (h:Heap):Heap:={ h with objs:=#[] }
theorem noObjs_get (h:Heap) (b:Addr):(noObjs h).get? b=none:=by
 cases e:(noObjs h).get? b with
 | none=>rfl
 | some o=>exact absurd (Heap.lt_size e) (Nat.not_lt_zero _)
def ledger (h:Heap) (L d:Addr):List (Addr×Obj):=(List.range h.objs.size).filterMap fun a=>if a=L∨a=d then none else (h.get? a).map fun o=>(a,o)
theorem mem_ledger {h:Heap} {L d a:Addr} {o:Obj}:(a,o)∈ledger h L d↔a≠L∧a≠d∧h.get? a=some o:=by
 unfold ledger
 rw [List.mem_filterMap]
 constructor
 ·rintro ⟨b,_,e⟩
  split at e
  ·cases e
  ·rename_i hb
   obtain ⟨o',ho,e'⟩:=Option.map_eq_some_iff.mp e
   cases e'
   exact ⟨fun q=>hb (.inl q),fun q=>hb (.inr q),ho⟩
 ·rintro ⟨n1,n2,ho⟩
  refine ⟨a,List.mem_range.mpr (Heap.lt_size ho),?_⟩
  rw [if_neg (show ¬ (a=L∨a=d) from fun q=>q.elim n1 n2),ho] <;> rfl
theorem news_ledger {h:Heap} {L d:Addr} {od:Obj} (hne:d≠L) (ho:h.get? d=some od):News (noObjs h) L h ([]++(d,od)::ledger h L d):=by
 rintro ⟨a,o⟩ hp
 rcases List.mem_cons.mp hp with e | hp
 ·cases e
  exact ⟨ho,hne,noObjs_get _ _⟩
 ·obtain ⟨n1,n2,e⟩:=mem_ledger.mp hp
  exact ⟨e,n1,noObjs_get _ _⟩
theorem fr_all {h:Heap} {L:Addr} {m:Str→Option Value} (n:h.Ns L m):Fr (noObjs h) L h m :=
 ⟨n,fun b o e=>(by rw [noObjs_get] at e; cases e),Nat.zero_le _⟩
end
end Att
namespace L2
open PySem PySem.Spec PyProof.Rows
theorem vals_ints:∀ {vs:List Value} {ns:List Int},IntsAre vs ns→Vals (ns.map V.int) vs
 | _,_,.nil=>.nil
 | _,_,.cons n t h=>.cons ⟨t,rfl⟩ (vals_ints h)
def Only (H:Hp):Prop:=∀ b,H b=none∨∃ o xs,H b=some (.frz o (.lst xs))
theorem law_call {P:Program} {w:World} {K:PySem.W.Frag} {mg mb:Str→Option Value} {CX:CXT} {k:Nat} {fa a:Addr} {fd:FuncData} {x:Str} {sp:Sp} {s₁:Shared} {vs:List Value} {ns:List Int}
  (KX:K.In s₁.heap) (hns:s₁.heap.Ns mainGlobals mg) (hb:s₁.heap.Ns builtinsNs mb) (hbb:∀ x:Str,x ≠ "__name__" → mb x=bootBuiltins x) (hlim:s₁.heap.NoLimit) (hg:s₁.gens=#[])
  (ha:s₁.heap.get? a=some { cls:=.type "list",data:=.seq vs.toArray }) (hi:IntsAre vs ns) (hl:ns.length≤sizeLine) (hr:Room k callerA)
  (F:∀ base:Heap,K.In base→base.Ns mainGlobals mg→FnOk P w K mg base CX k fa fd [x] sp) (hbind:∀ (s:Shared) (u:Value),BindsTo s fd ⟨[u],[]⟩ [(x,u)])
  (hsp:∀ H:Hp,Only H→SqL K H a (ns.map V.int)→sp [.ref a] H (fun v _=>v=.bl true) fun _ _ _=>False)
  (hCX:∀ H e s',CX [] H s₁ (fun _ _ _=>False) e s'→False) :
  codeAny (model P w) callerA (.call (.ref fa) ⟨[.ref a],[]⟩) (fun r s'=>r=.ok (.ret (.bool true))∧OldK s₁.heap s'.heap∧s'.os=s₁.os∧AllBare s'.gens) s₁:=by
 have rv:=vals_ints hi
 have lenV:=hi.length
 have core:∀ H:Hp,Only H→SqL K H a (ns.map V.int)→HOk P w H s₁.heap→(∀ b,H b≠none→b=a)→(H a≠none→K.lookup a=none) →
   codeAny (model P w) callerA (.call (.ref fa) ⟨[.ref a],[]⟩) (fun r s'=>r=.ok (.ret (.bool true))∧OldK s₁.heap s'.heap∧s'.os=s₁.os∧AllBare s'.gens) s₁:=by
  intro H hO hS hok hA hK
  have base_of:∀ {b:Addr} {o:Obj},s₁.heap.get? b=some o→H b=none→(hidT s₁.heap H).get? b=some o:=fun e n=>hidT_get e n
  have noA:∀ {b:Addr} {o:Obj} {es:Array DictEntry} {ep:Nat},s₁.heap.get? b=some o→o.data=.dict es ep→H b=none:=fun {b o es ep} e d=>by
   cases q:H b with
   | none=>rfl
   | some u =>
    have e':b=a:=hA b (by rw [q]; simp)
    subst e'
    rw [ha] at e; cases e
    have d':Data.seq vs.toArray _=Data.dict es ep:=d
    cases d'
  have nsK:∀ {b:Addr} {m:Str→Option Value},s₁.heap.Ns b m→(hidT s₁.heap H).Ns b m:=fun {b m} ⟨o,es,ep,e,d,r⟩=>⟨o,es,ep,base_of e (noA e d),d,r⟩
  have hKb:K.In (hidT s₁.heap H):=fun b o e=>base_of (KX b o e) (by
   cases q:H b with
   | none=>rfl
   | some u =>
    have e':b=a:=hA b (by rw [q]; simp)
    subst e'
    rw [hK (by rw [q]; simp)] at e; cases e)
  have hM:Mod K mg (hidT s₁.heap H):=⟨hKb,nsK hns,⟨mb,nsK hb,hbb⟩,let ⟨mc,h1,h2⟩:=hlim; ⟨mc,nsK h1,h2⟩⟩
  have e0:Env0 P w K mg (hidT s₁.heap H) callerA [] s₁ H:=⟨rfl,hM,fun b o e=>of_hidT e,Nat.le_of_eq (hidT_size _ _),trivial,fun b hb=>absurd (show b∈([]:List Addr) from hb) (by simp),hok,.of_eq hg⟩
  refine codeAny_mono ((F _ hKb (nsK hns)).run callerA [] s₁ H ⟨[.ref a],[]⟩ [.ref a] [.ref a] _ _ hr e0 (hbind s₁ (.ref a)) (.cons rfl .nil) (hsp H hO hS)) fun r s' h=>?_
  cases r with
  | error e=>exact (hCX H e s' h).elim
  | ok fl =>
   cases fl with
   | next=>exact False.elim h
   | brk=>exact False.elim h
   | cont=>exact False.elim h
   | ret u =>
    obtain ⟨v,H',os,bare,un,hok',r',q⟩:=h
    have q':v=.bl true:=q
    subst q'
    obtain rfl:u=Value.bool true:=r'
    refine ⟨rfl,OldK.of_keep fun b o e=>?_,os,bare⟩
    cases q:H b with
    | none=>exact un.keep b o e q (by intro z; exact absurd (show b∈([]:List Addr) from z) (by simp)) (by simp)
    | some u =>
     rcases hO b with z | ⟨ob,xs,z⟩
     ·rw [q] at z; cases z
     ·have z2:=un.frzs b ob _ z
      obtain ⟨e1,_⟩:=hok b _ z
      obtain ⟨e2,_⟩:=hok' b _ z2
      rw [e] at e1; cases e1
      exact e2
 cases hk:K.lookup a with
 | some o =>
  have e:=KX a o hk
  rw [ha] at e
  cases e
  refine core (fun _=>none) (fun _=>.inl rfl) (.inr ⟨_,vs.toArray,_,hk,rfl,rfl,rfl,by rw [List.size_toArray,lenV]; exact hl,by simpa using rv⟩) (fun b u z=>by have z':(none:Option HO)=some u:=z; cases z') (fun b z=>absurd rfl z) fun z=>absurd rfl z
 | none =>
  refine core (fun b=>if b=a then some (.frz { cls:=.type "list",data:=.seq vs.toArray } (.lst (ns.map V.int))) else none) (fun b=>?_) (.inl (.inr ⟨{ cls:=.type "list",data:=.seq vs.toArray },if_pos rfl⟩)) (fun b u z=>?_) (fun b z=>?_) fun _=>hk
  ·by_cases hb:b=a
   ·exact .inr ⟨_,_,if_pos hb⟩
   ·exact .inl (if_neg hb)
  ·by_cases hb:b=a
   ·have z':=(if_pos hb).symm.trans z
    cases z'
    subst hb
    exact ⟨ha,by rw [List.length_map]; exact hl,vs,_,rv,ha⟩
   ·have z':=(if_neg hb).symm.trans z
    cases z'
  ·by_cases hb:b=a
   ·exact hb
   ·exact absurd (if_neg hb) z
end L2
namespace L2
open PySem PySem.Spec PyProof.Rows
abbrev KOf {K:PySem.W.Frag} {h:Heap} (_:K.In h):PySem.W.Frag:=K
theorem walk_of {l:PySem.W.OpenLaw} {n k:Nat} {q:Program} {loose:List Str} {XP:(Str→Option Value)→Heap→Prop} {YP:World→Heap→Prop} {d:DefRec} {K:Params→PySem.W.Frag} {CX:World→CXT} {sp:World→Sp} {x:Str}
  (hn:l.most=some n) (hn2:n≤sizeLine) (hdf:d.params.defaults=[]) (hr:Room k callerA)
  (hY:∀ (w:World) (h:Heap),YP w h→(K w.params).In h)
  (F:∀ (w:World) (mg:Str→Option Value) (fa:Addr) (h:Heap),(K w.params).In h→h.Ns mainGlobals mg→mg d.name=some (.ref fa) →
   ∃ fd:FuncData,(∀ (s:Shared) (u:Value),BindsTo s fd ⟨[u],[]⟩ [(x,u)]) ∧
    ∀ base:Heap,(K w.params).In base→base.Ns mainGlobals mg→FnOk l.prog w (K w.params) mg base (CX w) k fa fd [x] (sp w))
  (hsp:∀ (w:World) (H:Hp) (a:Addr) (ns:List Int),ns.length≤n→Only H→SqL (K w.params) H a (ns.map V.int)→sp w [.ref a] H (fun v _=>v=.bl true) fun _ _ _=>False)
  (hCX:∀ (w:World) (H:Hp) (s:Shared) (e:Value) (s':Shared),CX w [] H s (fun _ _ _=>False) e s'→False) :
  PySem.W.WalkO q loose XP YP l.row.toRowW d [] (fun f vs=>PySem.call f vs):=by
 refine Att.attach_call hn hdf fun w s₀ s₁ mg mb fa o pm cd doc a vs ns G Y ho hd hcd hmg hobj hints hlen hg=>?_
 have KX:=hY w _ Y
 obtain ⟨fd,hb,hF⟩:=F w mg fa _ KX G.T.g hmg
 exact law_call KX G.T.g G.T.b G.T.builtins G.T.nolimit hg hobj hints (Nat.le_trans hlen hn2) hr hF hb (fun H hO hS=>hsp w H a ns hlen hO hS) fun H e s'=>hCX w H s₁ e s'
end L2
/- THE LAST THEOREM (shape; LID,My.* are yours):
  My.Adr: a structure of the addresses that your layer names (classes,functions); My.Txt K t: a structure (Prop) of the equations over K;
  My.txt_mk:{K} {implicit addresses ..} (e1:nsIn K mainGlobals "law"=some (some (.ref f))) (e2:K.lookup f=some ⟨oc,od,.func (fnOf "law" "law" params body scope dV kV doc pm an cdv ct),sl⟩) (e3:codeIn K cdv "law"=true) .. : ∃ t,My.Txt K t
set_option maxRecDepth 100000 in
set_option maxHeartbeats 0 in
theorem PySem.Challenge.cw_LID_holds : PySem.Challenge.rw_LID.Holds := by
 w_on; o_law; k_head; (case hw=>w_witness2)
 k_fill
 refine L2.walk_of (l:=PySem.Challenge.rw_LID) (n:=63) (k:=40) (x := "script") (CX:=fun w=>..) (sp:=fun _=>My.sp_law) rfl (by decide) rfl ⟨rfl,by decide,by decide⟩ (fun w h Y=>PySem.W.kIn_of Y) ?F ?S ?C
 case F =>
  intro w mg fa h KX G hmg
  have T:∃ t,My.Txt (L2.KOf KX) t:=by
   dsimp only [L2.KOf]                          -- K must stand as «<heap const> w.params» for k_is
   refine' My.txt_mk ?e1 ?e2 ?e3 ..
   (case e1=>PySem.W.k_is)                    -- in the order: a name -> its address -> its object -> its parts
   (case e2=>PySem.W.k_is)
   ..
  obtain ⟨t,T⟩:=T
  have e0:=hmg.symm.trans (PySem.W.mg_of KX G T.law)
  cases e0                                       -- fa is the law's own address
  exact ⟨_,fun s u=>.of_eq rfl,fun base kb nb=>My.law_fn T kb nb⟩     -- if «.of_eq rfl» comes too early: refine' ⟨_,?b,fun base kb nb=>My.law_fn T kb nb⟩; exact fun s u=>.of_eq rfl
 case S=>exact fun w H a ns hl hO hS=>..
 case C=>exact ..
(the tactic k_is has no namespace: write k_is) -/
namespace L2
open PySem PySem.Spec PyProof.Rows
def defArgs (s:Stmt):Arguments:=match s with
 | .FunctionDef _ a _ _ _ _ _ _ _ _=>a
 | _=>{ posonlyargs:=[],args:=[],vararg:=none,kwonlyargs:=[],kw_defaults:=[],kwarg:=none,defaults:=[] }
def defBody (s:Stmt):List Stmt:=match s with
 | .FunctionDef _ _ b _ _ _ _ _ _ _=>b
 | _=>[]
def defScope (s:Stmt):Scope:=match s with
 | .FunctionDef _ _ _ _ _ _ sc _ _ _=>sc
 | _=>{ kind:=.function,names:=[],isGenerator:=false,isCoroutine:=false }
abbrev CX0:CXT:=fun _ _ _ _ _ _=>False
abbrev E0:XK:=fun _ _ _=>False
theorem pass0 {X:Cx}:Passes CX0 X E0:=fun _ _ _ _ _ _ _ h=>h.elim
structure Fun (K:PySem.W.Frag) (x qual:Str) (st:Stmt) (f:Addr) (fd:FuncData):Prop where
 ex:∃ (oc:Value) (od:Option Addr) (kV doc pm:Value) (an:Option Addr) (cdv ct:Value) (osl:Array (Option Value)),
  fd=PySem.W.fnOf x qual (defArgs st) (defBody st) (defScope st) .none kV doc pm an cdv ct∧K.lookup f=some ⟨oc,od,.func fd,osl⟩∧PySem.W.codeIn K cdv qual=true
 kp:PySem.W.keepIn K (.ref f)=true
section
variable {P:Program} {w:World} {K:PySem.W.Frag} {mg:Str→Option Value} {base:Heap}
theorem Fun.ok {x qual:Str} {st:Stmt} {f:Addr} {fd:FuncData} {N ps:List Str} {k:Nat} {sp:Sp} (F:Fun K x qual st f fd) (S:FnScope N ps (defScope st)) (len:∀ vs H Q E,sp vs H Q E→vs.length=ps.length)
  (hbody:∀ (cdv:Value) (A:Around) (outer:List Env) (s:Shared) (H:Hp) (vs:List V) (Q:VK) (E:XK),Room k (A.deeper (envOfC qual (defScope st) s.heap.objs.size f cdv))→sp vs H Q E →
   ∃ t,PSs (cxOf CX0 P w K mg base N qual (defScope st) f cdv A outer s H E).nox (defBody st) t∧t { nx:=fun _ H'=>Q .non H',rt:=Q } (start N vs) H):FnOk P w K mg base CX0 (k+1) f fd ps sp:=by
 obtain ⟨oc,od,kV,doc,pm,an,cdv,ct,osl,rfl,lk,hcd⟩:=F.ex
 refine fn_of lk hcd S len fun A outer s H vs Q E hr hsp=>?_
 obtain ⟨t,h,q⟩:=hbody cdv A outer s H vs Q E hr hsp
 exact ⟨t,h.nox,q⟩
theorem Fun.binds {x qual:Str} {st:Stmt} {f:Addr} {fd:FuncData} {ps:List Str} (F:Fun K x qual st f fd)
  (h:∀ (kV doc pm:Value) (an:Option Addr) (cdv ct:Value) (us:List Value),us.length=ps.length→bindArgs (PySem.W.fnOf x qual (defArgs st) (defBody st) (defScope st) .none kV doc pm an cdv ct) ⟨us,[]⟩=pure (ps.zip us)):Binds K fd ps []:=by
 obtain ⟨oc,od,kV,doc,pm,an,cdv,ct,osl,rfl,lk,hcd⟩:=F.ex
 exact .all (h kV doc pm an cdv ct)
theorem fun_mk {x qual:Str} {st:Stmt} {f:Addr} {oc:Value} {od an:Option Addr} {osl:Array (Option Value)} {kV doc pm cdv ct:Value} (l:K.lookup f=some ⟨oc,od,.func (PySem.W.fnOf x qual (defArgs st) (defBody st) (defScope st) .none kV doc pm an cdv ct),osl⟩)
  (c:PySem.W.codeIn K cdv qual=true) (k:PySem.W.keepIn K (.ref f)=true):Fun K x qual st f (PySem.W.fnOf x qual (defArgs st) (defBody st) (defScope st) .none kV doc pm an cdv ct):=⟨⟨oc,od,kV,doc,pm,an,cdv,ct,osl,rfl,l,c⟩,k⟩
end
theorem hu_of {A:Around} {k:Nat} (hr:Room k A):A.units+1 < cLine:=Nat.lt_of_le_of_lt (Nat.add_le_add_left (by decide:1≤64) _) hr.units
section
variable {X:Cx}
theorem pv (i:Nat) {x:Str} {pos:Pos} (hN:X.N[i]?=some x:=by rfl) (hv:Vis X.env.scope x:=by first | exact Or.inl rfl | exact Or.inr (Or.inl rfl) | exact Or.inr (Or.inr rfl)) (hd:(x == ("__debug__":Str))=false:=by decide)
  (hcd:(x == ("__classdict__":Str))=false:=by decide):PE X (.Name x pos) (tVar i):=pe_var hN hv hd hcd
end
theorem iteF {A B:Prop} (h:B):if false=true then A else B:=by
 rw [if_neg Bool.false_ne_true]
 exact h
theorem iteT {A B:Prop} (h:A):if true=true then A else B:=by
 rw [if_pos rfl]
 exact h
theorem ite2 {c A B:Prop} [Decidable c] (h1:c→A) (h2:¬ c→B):if c then A else B:=by
 by_cases h:c
 ·rw [if_pos h]
  exact h1 h
 ·rw [if_neg h]
  exact h2 h
def Same (H H':Hp):Prop:=∀ b o,H b=some o→H' b=some o
theorem Same.refl (H:Hp):Same H H:=fun _ _ h=>h
theorem Same.trans {H H1 H2:Hp} (a:Same H H1) (b:Same H1 H2):Same H H2:=fun c o h=>b c o (a c o h)
theorem Same.free {H H':Hp} (e:Same H H') {l:Addr} (h:H' l=Option.none):H l=Option.none:=by
 cases q:H l with
 | none=>rfl
 | some o =>
  rw [e l o q] at h
  cases h
theorem Same.seq {K:PySem.W.Frag} {H H':Hp} {a:Addr} {xs:List V} (e:Same H H') (h:SqL K H a xs):SqL K H' a xs:=by
 rcases h with (h | ⟨o,h⟩) | h
 ·exact .inl (.inl (e _ _ h))
 ·exact .inl (.inr ⟨o,e _ _ h⟩)
 ·exact .inr h
end L2
set_option maxHeartbeats 4000000
namespace L2
open PySem PySem.Spec PyProof.Rows
def cxC (X:Cx) (scope:Scope) (C:Addr) (s1:Shared) (H1:Hp) (N:List Str) (fp:List Addr):Cx :=
 { X with N:=N,s₀:=s1,H₀:=H1,env:=compEnvC scope [] C X.env,outer:=X.stack,stack:=X.stack,ex:=fp,fn:=fun _=>false,pn:=[],xe:=fun _ _=>False }
theorem relabel_names {scope:Scope} {env:Env} (h:∀ y∈scope.names,y.2≠.free):(relabel scope env).names=scope.names:=by
 unfold relabel
 exact map_eq_self fun x hx=>by
  obtain ⟨n,k⟩:=x
  have e:(k == NameKind.free)=false:=by simpa using h _ hx
  simp [e]
theorem inv_comp {X:Cx} {pins:List (Addr×Obj)} {σ:St} {H:Hp} {s1 s4:Shared} {scope:Scope} {x:Str} {fp:List Addr} {C:Addr} {m:Str→Option Value}
  (I:Inv X pins σ H s1) (hf:∀ b∈fp,FpOk X pins H b) (hfl:∀ b∈fp,b < s1.heap.objs.size) (hkind:scope.kind=.function) (hfree:∀ y∈scope.names,y.2≠.free) (hcell:∀ y∈scope.names,y.2≠.cell)
  (hC:s1.heap.objs.size < C) (ho:s4.os=s1.os) (hg:s4.gens=s1.gens) (old:∀ b o,s1.heap.get? b=some o→s4.heap.get? b=some o) (hn:s4.heap.Ns C m)
  (hD:s4.heap.get? s1.heap.objs.size=some { cls:=.type "list",data:=.seq ([]:List Value).toArray 0 }) :
  Inv (cxC X scope C s1 H [x] fp) [] [none] (upd H s1.heap.objs.size (.lst [])) s4:=by
 have nocell:∀ y,(cxC X scope C s1 H [x] fp).env.kindOf y=some .cell∨(cxC X scope C s1 H [x] fp).env.kindOf y=some .free→False:=fun y hy=>by
  have e:(cxC X scope C s1 H [x] fp).env.kindOf y=scope.names.lookup y:=by
   show (relabel scope X.env).names.lookup y=_
   rw [relabel_names hfree]
  rw [e] at hy
  rcases hy with hy | hy
  ·exact hcell _ (PySem.mem_of_lookup hy) rfl
  ·exact hfree _ (PySem.mem_of_lookup hy) rfl
 have nolk:∀ (y:Str) (c:Addr),(cxC X scope C s1 H [x] fp).env.cells.lookup y=some c→False:=fun y c h=>by
  have h':([]:List (Str×Addr)).lookup y=some c:=h
  simp at h'
 refine ⟨⟨I.ok.mod,hkind,I.ok.glob,I.ok.blt,Nat.le_of_lt hC,fun y z c h1 _=>(nolk y c h1).elim,fun y hy=>(nocell y hy).elim,fun y c h _=>absurd (show false=true from h) Bool.false_ne_true,I.ok.hd,I.ok.frames,.inl rfl,
   fun b hb=>⟨Nat.ne_of_lt (Nat.lt_trans (hfl b hb) hC),fun y c h=>(nolk y c h).elim⟩,I.bs,Nat.le_trans I.ok.bsz I.sz,fun b o e hb=>?_,fun b hb=>?_,I.stack,I.stkFree⟩,
  ho,?_,Un.laid old (Nat.le_refl _) I.fresh,⟨m,hn,fun i y v _ e2 _=>?_⟩,fun y c h=>(nolk y c h).elim,?_,fun y c h=>(nolk y c h).elim,fun p hp=>absurd (show p∈([]:List (Addr×Obj)) from hp) (by simp),I.hok.laid old (Nat.le_refl _) ?_,rfl⟩
 ·obtain ⟨_,_,_,h4,_⟩:=hf b hb
  rcases h4 with h4 | h4
  ·exact I.ok.noex b o e h4
  ·exact absurd (Nat.lt_of_lt_of_le (Heap.lt_size (I.ok.bs b o e).1) h4) (Nat.lt_irrefl _)
 ·intro hb'
  obtain ⟨_,h2,h3,_⟩:=hf b hb
  rcases List.mem_cons.mp (I.stkSub b hb') with z | z
  ·exact h2 z
  ·exact h3 z
 ·rw [hg]; exact I.bare
 ·have e2':([none]:St)[i]?=some (some v):=e2
  cases i with
  | zero=>simp at e2'
  | succ i=>simp at e2'
 ·show upd H s1.heap.objs.size (.lst []) C=none
  rw [upd_ne (Nat.ne_of_gt hC)]
  exact I.hok.fresh (Nat.le_of_lt hC)
 ·exact ⟨by show 0≤sizeLine; decide,[],0,.nil,hD⟩
def PIfs (X:Cx) (ifs:List Expr) (t:TT):Prop :=
 ∀ (pins:List (Addr×Obj)) (s:Shared) (σ:St) (H:Hp) (Q:Bool→Hp→Prop),Inv X pins σ H s→t σ H Q →
  wpAny (model X.prog X.w) X.A (forIn ifs true fun c r=>if r=true then do let ok ← isTrue c X.env (eval c X.env); pure (ForInStep.yield ok) else pure (ForInStep.yield r)) (TP X pins σ Q) X.xe s
def tTrue:TT:=fun _ H Q=>Q true H
theorem pif_nil {X:Cx}:PIfs X [] tTrue:=fun _ _ _ H _ I h=>wpAny_tests_nil ⟨H,I,h⟩
theorem pif_one {X:Cx} {c:Expr} {t:TT} (h:PT X c t):PIfs X [c] t:=fun pins s σ H Q I hw=>wpAny_tests_one (h pins s σ H Q I hw)
def tComp (wi:TI) (tif:TT) (te:TE):TE:=fun σ H Q=>wi σ H fun J H1=>∀ D,H1 D=none→∃ W:Nat→Nat→List V→Hp→Prop,(∃ m,W 0 m [] (upd H1 D (.lst []))) ∧
 ∀ i m ys H,W i m ys H→(J.stop i H∧Q (.ref D) H)∨(J.go i H∧∃ m',m' < m∧∀ x H',J.yld i H x H'→tif [some x] H' fun b H2 =>
  if b=true then te [some x] H2 fun y H3=>H3 D=some (.lst ys)∧ys.length < sizeLine∧W (i+1) m' (ys++[y]) (upd H3 D (.lst (ys++[y]))) else W (i+1) m' ys H2)
theorem compLoop_go {prog:Program} {w:World} {A:Around} {R:Result→Shared→Prop} {s:Shared} {elt target iter:Expr} {ifs:List Expr} {scope:Scope} {pos:Pos} {it acc:Value} {env:Env} (I:Nat→Shared→Prop)
  (turn:∀ n s,I n s→wpAny (model prog w) A (pyNext it) (fun r s₁=>match r with
   | none=>R (.ok .next) s₁
   | some v=>wpAny (model prog w) A (letOwnedTupleGo target it v) (fun _ s₁=>wpAny (model prog w) A (assign target env v) (fun _ s₂ =>
     wpAny (model prog w) A (forIn ifs true fun c r=>if r=true then do let ok ← isTrue c env (eval c env); pure (ForInStep.yield ok) else pure (ForInStep.yield r)) (fun ok s₃ =>
      if ok=true then wpAny (model prog w) A (eval elt env) (fun x s₄ =>
       wpAny (model prog w) A (call (.builtin "list.append") [acc,x]) (fun _ s₅=>∃ m,m < n∧I m s₅) (fun _ _=>False) s₄) (fun _ _=>False) s₃
      else ∃ m,m < n∧I m s₃) (fun _ _=>False) s₂) (fun _ _=>False) s₁) (fun _ _=>False) s₁) (fun _ _=>False) s)
  (n:Nat) (h:I n s) :
  codeAny (model prog w) A (.compLoop (.ListComp elt [⟨target,iter,ifs,0⟩] scope pos) 0 it acc env) R s:=by
 refine codeAny_loop rfl I (fun n s hI=>?_) n h
 show wpAny _ A ((compTurn (.ListComp elt [⟨target,iter,ifs,0⟩] scope pos) 0 it acc env).onRaise (fun x=>do noteFrame x env; theTreesLotGoes x)) _ _ s
 refine wpAny_noted ?_
 rw [compTurn_list]
 refine wpAny_bind (wpAny_standAt (wpAny_bind (wpAny_mono (turn n s hI) (fun r s₁ h₁=>?_) fun _ _ h'=>h'.elim)))
 cases r with
 | none=>exact wpAny_pure h₁
 | some v =>
  refine wpAny_bind (wpAny_mono h₁ (fun _ s₂ h₂=>?_) fun _ _ h'=>h'.elim)
  refine wpAny_bind (wpAny_mono h₂ (fun _ s₂ h₂=>wpAny_bind (wpAny_mono h₂ (fun ok s₃ h₃=>?_) fun _ _ h'=>h'.elim)) fun _ _ h'=>h'.elim)
  cases ok with
  | false=>exact wpAny_pure ⟨rfl,h₃⟩
  | true =>
   exact wpAny_bind (wpAny_bind (wpAny_mono h₃ (fun x s₄ h₄=>wpAny_bind (wpAny_mono h₄ (fun _ s₅ h₅=>wpAny_pure (wpAny_pure ⟨rfl,h₅⟩)) fun _ _ h'=>h'.elim)) fun _ _ h'=>h'.elim))
theorem pe_comp {X:Cx} {elt iter:Expr} {x:Str} {px:Pos} {ifs:List Expr} {scope:Scope} {pos:Pos} {wi:TI} {tif:TT} {te:TE} (hc:X.calm=true) (hi:PI X (.Name x px) iter wi)
  (hfree:∀ y∈scope.names,y.2≠.free) (hcell:∀ y∈scope.names,y.2≠.cell) (hkind:scope.kind=.function)
  (hnames:∀ y∈scope.names,y.2=.local→scope.names.lookup y.1=some .local) (hx:scope.names.lookup x=some .local)
  (hif:∀ C s1 H1 fp,PIfs (cxC X scope C s1 H1 [x] fp) ifs tif) (he:∀ C s1 H1 fp,PE (cxC X scope C s1 H1 [x] fp) elt te)
  (hs:∀ x,foldedSetIterable iter X.env x=pure x:=by intro _; rfl) :
  PE X (.ListComp elt [⟨.Name x px,iter,ifs,0⟩] scope pos) (tComp wi tif te):=by
 intro pins s σ H Q I h
 rw [eval_ListComp]
 refine wpAny_comprehension_free (use:=none) rfl hs (closureFor_none hfree) hkind hnames (thn (hi pins s σ H _ I h) fun v s1 h1=>thn h1 fun itv s2 h2=>?_)
 obtain ⟨it,fp,tn,J,H2,e,I2,T,st2,f2,h2⟩:=h2
 subst e
 obtain ⟨W,⟨m0,w0⟩,turn⟩:=h2 s2.heap.objs.size I2.fresh
 have hfl:∀ b∈fp,b < s2.heap.objs.size:=fun b hb=>by obtain ⟨o,e,_⟩:=T.obj _ _ st2 b hb; exact Heap.lt_size e
 refine wpAny_newObj_type (wpAny_newFunctionEnv hcell (by intro y hy; simp at hy) (fun h₁ hns₁ hsb₁=>?_) hkind)
 dsimp only at hns₁ hsb₁ ⊢
 generalize hH2:s2.heap.push { cls:=.type "list",dict:=none,data:=.seq ([]:List Value).toArray }=G2 at hns₁ hsb₁ ⊢
 have hCs:G2.objs.size=s2.heap.objs.size+1:=by rw [← hH2,Heap.size_push]
 have hDC:s2.heap.objs.size≠G2.objs.size:=by rw [hCs]; exact Nat.ne_of_lt (Nat.lt_succ_self _)
 have old:∀ b o,s2.heap.get? b=some o→h₁.get? b=some o:=fun b o e =>
  hsb₁.extBut b o (by rw [hCs]; exact Nat.ne_of_lt (Nat.lt_succ_of_lt (Heap.lt_size e))) (Heap.get?_push_of_some _ (hH2 ▸ Heap.get?_push_of_some _ e))
 have hacc:h₁.get? s2.heap.objs.size=some { cls:=.type "list",data:=.seq ([]:List Value).toArray 0 }:=hsb₁.extBut _ _ hDC (Heap.get?_push_of_some _ (hH2 ▸ Heap.get?_push_size _ rfl))
 have I4:Inv (cxC X scope G2.objs.size s2 H2 [x] fp) [] [none] (upd H2 s2.heap.objs.size (.lst [])) { s2 with heap:=h₁,toks:=s2.toks+([]:List (Str×Value)).length } :=
  inv_comp I2 f2 hfl hkind hfree hcell (by rw [hCs]; exact Nat.lt_succ_self _) rfl rfl old hns₁ hacc
 have st4:tn 0 h₁:=T.keep _ _ _ st2 fun b _ o e=>old b o e
 have stat:∀ {H':Hp} {pins':List (Addr×Obj)},(∀ b∈fp,H' b=none)→(∀ p∈pins',p.1∉fp)→∀ b∈fp,FpOk (cxC X scope G2.objs.size s2 H2 [x] fp) pins' H' b:=fun {H' pins'} hn hp b hb =>
  ⟨hn b hb,(I4.ok.exf b hb).1,I4.ok.exfs b hb,.inl hb,(I4.ok.exf b hb).2,fun p hp'=>by
   have hp2:p∈([]:List (Addr×Obj))++pins':=hp'
   rw [List.nil_append] at hp2
   intro z; exact hp p hp2 (by rw [z]; exact hb)⟩
 have fin:∀ {s':Shared} {σ':St} {H':Hp},Inv (cxC X scope G2.objs.size s2 H2 [x] fp) [] σ' H' s'→Q (.ref s2.heap.objs.size) H' →
   compPost (model X.prog X.w) X.A X.xe none (EP X pins σ Q) (.ref s2.heap.objs.size) G2.objs.size (.ok .next) s':=fun {s' σ' H'} J' q=>by
  obtain ⟨m',hn',_⟩:=J'.loc
  refine ⟨m',hn',fun h' hs'=>?_⟩
  have u:Un (frs X.stack) fp H2 H' s2.heap s'.heap:=J'.base
  have nC:∀ b o,s2.heap.get? b=some o→b≠G2.objs.size:=fun b o e=>by rw [hCs]; exact Nat.ne_of_lt (Nat.lt_succ_of_lt (Heap.lt_size e))
  have u':Un (frs X.stack) fp H2 H' s2.heap h':=⟨fun b o e n hb hx=>(hs'.2 b (nC b o e)).trans (u.keep b o e n hb hx),fun b o e n hb hx=>by
    obtain ⟨sl,z⟩:=u.slot b o e n hb hx
    exact ⟨sl,(hs'.2 b (nC b o e)).trans z⟩,u.free,fun b o e hx=>by
    obtain ⟨o',z⟩:=u.there b o e hx
    exact ⟨o',(hs'.2 b (nC b o e)).trans z⟩,u.tups,u.frzs,u.tbls⟩
  have hok:HOk X.prog X.w H' h':=fun b ob e=>by
   refine (J'.hok b ob e).stay (fun c w' hc' q'=>(hs'.2 c ?_).trans q') (fun _ q=>q) fun _ _ q=>q
   intro z
   have fr:H' G2.objs.size=none:=J'.free
   rcases hc' with z' | z'
   ·rw [← z'] at e; rw [z,fr] at e; cases e
   ·rw [z,fr] at z'; cases z'
  have I5:Inv X pins σ H' { s' with heap:=h' }:=I2.call' (s':={ s' with heap:=h' }) J'.os u' hok J'.bare fun b hb=>by
   obtain ⟨_,f1,_,f3,f4,f5⟩:=f2 b hb
   exact ⟨f3,f1,f4,f5⟩
  exact ⟨.ref s2.heap.objs.size,H',I5,rfl,q⟩
 have loop:∀ s₃:Shared,s₃={ s2 with heap:=h₁,toks:=s2.toks+([]:List (Str×Value)).length } →
   codeAny (model X.prog X.w) X.A (.compLoop (.ListComp elt [⟨.Name x px,iter,ifs,0⟩] scope pos) 0 (.ref it) (.ref s2.heap.objs.size) (compEnvC scope [] G2.objs.size X.env))
    (compPost (model X.prog X.w) X.A X.xe none (EP X pins σ Q) (.ref s2.heap.objs.size) G2.objs.size) s₃:=by
  rintro s₃ rfl
  refine compLoop_go (fun n s'=>∃ i ys y H',Inv (cxC X scope G2.objs.size s2 H2 [x] fp) [] [y] H' s'∧tn i s'.heap∧(∀ b∈fp,H' b=none)∧W i n ys H') ?_ m0
   ⟨0,[],none,_,I4,st4,fun b hb=>by rw [upd_ne (Nat.ne_of_lt (hfl b hb))]; exact (f2 b hb).1,w0⟩
  rintro n s' ⟨i,ys,y0,H',J',st',fr',w'⟩
  rcases turn i n ys H' w' with ⟨stop,q⟩ | ⟨go,m',hm,step⟩
  ·refine wpAny_mono (T.done (cxC X scope G2.objs.size s2 H2 [x] fp) rfl rfl rfl hc i [] s' _ H' (fun _ _=>False) J' (stat fr' (by simp)) st' stop) (fun r s4 ⟨hr,J4⟩=>?_) fun _ _ z=>z
   subst hr
   exact fin J4 q
  ·refine wpAny_mono (T.item (cxC X scope G2.objs.size s2 H2 [x] fp) rfl rfl rfl hc i [] s' _ H' (fun _ _=>False) J' (stat fr' (by simp)) st' go) (fun r s4 ⟨u,hr,h4⟩=>?_) fun _ _ z=>z
   subst hr
   refine wpAny_mono h4 (fun _ s5 ⟨xv,H5,J5,r5,y5,st5,fr5⟩=>?_) fun _ _ z=>z
   have J5':=J5.pinned (stat fr5 (by simp)) (T.obj _ _ st5)
   have back:∀ {s7:Shared} {σ7:St} {H7:Hp},Inv (cxC X scope G2.objs.size s2 H2 [x] fp) ([]++pinsAt fp s5.heap) σ7 H7 s7→Inv (cxC X scope G2.objs.size s2 H2 [x] fp) [] σ7 H7 s7∧tn (i+1) s7.heap∧∀ b∈fp,H7 b=none:=fun {s7 σ7 H7} J7=>by
    refine ⟨J7.unpinned,T.keep _ _ _ st5 fun b hb o e=>(J7.pin (b,o) (List.mem_append_right _ (List.mem_append_right _ (mem_pinsAt hb e)))).1,fun b hb=>?_⟩
    obtain ⟨o,e,d⟩:=T.obj _ _ st5 b hb
    exact (J7.pin (b,o) (List.mem_append_right _ (List.mem_append_right _ (mem_pinsAt hb e)))).2.1
   have hloc:(cxC X scope G2.objs.size s2 H2 [x] fp).env.scope.names.lookup x=some .local:=by
    show (relabel scope X.env).names.lookup x=_
    rw [relabel_names hfree]; exact hx
   show wpAny _ _ (assign (.Name x px) (cxC X scope G2.objs.size s2 H2 [x] fp).env u) _ _ s5
   refine wpAny_assign_Name (store_ok (i:=0) J5' (by show [x].Nodup; simp) rfl (.inl hloc) r5 (fun s6 J6=>?_) (.inr hloc))
   have J6':Inv (cxC X scope G2.objs.size s2 H2 [x] fp) ([]++pinsAt fp s5.heap) [some xv] H5 s6:=J6
   refine wpAny_mono (hif G2.objs.size s2 H2 fp _ s6 _ H5 _ J6' (step xv H5 y5)) (fun b s7 ⟨H7,J7,q7⟩=>?_) fun _ _ z=>z
   cases b with
   | false =>
    rw [if_neg Bool.false_ne_true] at q7 ⊢
    obtain ⟨J8,st8,fr8⟩:=back J7
    exact ⟨m',hm,i+1,ys,some xv,H7,J8,st8,fr8,q7⟩
   | true =>
    rw [if_pos rfl] at q7 ⊢
    refine wpAny_mono (he G2.objs.size s2 H2 fp _ s7 _ H7 _ J7 q7) (fun yv s8 ⟨y,H8,J8,r8,hD8,hz8,w8⟩=>?_) fun _ _ z=>z
    refine wpAny_mono (mt_append (X:=cxC X scope G2.objs.size s2 H2 [x] fp) _ s8 _ H8 (.ref s2.heap.objs.size) [y] (.ref s2.heap.objs.size) [yv] (fun v H'=>W (i+1) m' (ys++[y]) H') J8 rfl (.cons r8 .nil) ⟨s2.heap.objs.size,ys,y,rfl,rfl,hD8,hz8,w8⟩)
     (fun _ s9 ⟨_,H9,J9,_,w9⟩=>?_) fun _ _ z=>z
    obtain ⟨J10,st10,fr10⟩:=back J9
    exact ⟨m',hm,i+1,ys++[y],some xv,H9,J10,st10,fr10,w9⟩
 exact codeAny_compStart_list (loop _ rfl) (T.self _ _ _ _ _ st4 (loop _ rfl))
end L2
namespace L2
open PySem PySem.Spec PyProof.Rows
def Itv (K:PySem.W.Frag) (a:Addr) (n:Nat):It :=
 ⟨fun i H=>i < n∧∃ xs,SqL K H a xs∧xs.length=n,fun i H x H'=>H'=H∧∀ xs,SqL K H a xs→xs[n - 1 - i]?=some x,fun i _=>n≤i⟩
theorem for_rev {K:PySem.W.Frag} {a:Addr} {xs:List V} {g:TG} {tb:TS} {D:Ends} {σ:St} {H:Hp} (Pv:Nat→St→Hp→Prop) (h0:Pv 0 σ H) (hl:∀ i σ H,i≤xs.length→Pv i σ H→SqL K H a xs)
  (hs:∀ i x σ H,i < xs.length→xs[xs.length - 1 - i]?=some x→Pv i σ H→g x σ H fun σ2 H2=>tb { D with nx:=Pv (i+1),ct:=Pv (i+1),bk:=D.nx } σ2 H2) (hd:∀ σ H,Pv xs.length σ H→D.nx σ H) :
  ∃ W:Nat→Nat→St→Hp→Prop,(∃ m,W 0 m σ H)∧∀ i m σ H,W i m σ H →
   ((Itv K a xs.length).stop i H∧D.nx σ H)∨((Itv K a xs.length).go i H∧∃ N:St→Hp→Prop,(∀ σ' H',N σ' H'→∃ m',m' < m∧W (i+1) m' σ' H')∧∀ x H',(Itv K a xs.length).yld i H x H'→g x σ H' fun σ2 H2=>tb { D with nx:=N,ct:=N,bk:=D.nx } σ2 H2):=by
 refine ⟨fun i m σ H=>m=xs.length - i∧i≤xs.length∧Pv i σ H,⟨xs.length,by simp,Nat.zero_le _,h0⟩,?_⟩
 rintro i m σ H ⟨rfl,hi,p⟩
 have q:=hl i σ H hi p
 by_cases hlt:i < xs.length
 ·refine .inr ⟨⟨hlt,xs,q,rfl⟩,Pv (i+1),fun σ' H' p'=>⟨xs.length - (i+1),by omega,rfl,hlt,p'⟩,fun x H' y=>?_⟩
  obtain ⟨e,y⟩:=y
  subst e
  exact hs i x σ _ hlt (y xs q) p
 ·have e:i=xs.length:=by omega
  subst e
  exact .inl ⟨Nat.le_refl _,hd σ H p⟩
inductive ClsOf (K:PySem.W.Frag) (H:Hp):V→String→Prop where
 | bl (x:Bool):ClsOf K H (.bl x) "bool"
 | int (i:Int):ClsOf K H (.int i) "int"
 | str (x:Str):ClsOf K H (.str x) "str"
 | tup {a:Addr} {xs:List V} (e:SqT K H a xs):ClsOf K H (.ref a) "tuple"
theorem call_isinst {X:Cx}:CallR X (.builtin "isinstance") (fun xs H Q=>∃ x T n b,xs=[x,.ty n]∧ClsOf X.K H x T∧PySem.W.kitOne X.K (.type T) (.type n)=some b∧Q (.bl b) H):=by
 intro pins s σ H xs us Q I r h
 obtain ⟨x,T,n,b,rfl,ty,e,q⟩:=h
 obtain ⟨u,w',rfl,rx,rn⟩:=vals2 r
 cases (show w'=Value.type n from rn)
 have fin:∀ tk,EP X pins σ Q (.bool b) { s with toks:=tk }:=fun tk=>⟨.bl b,H,I.tok _,rfl,q⟩
 cases ty with
 | bl y=>cases (show u=Value.bool y from rx); exact PySem.W.kia_one PySem.W.kitx_bool I.kIn True.intro e (fun z=>nomatch z) fin
 | int i=>obtain ⟨t,z⟩:=(show ∃ t,u=Value.int i t from rx); cases z; exact PySem.W.kia_one PySem.W.kitx_int I.kIn True.intro e (fun z=>nomatch z) fin
 | str y=>obtain ⟨t,z⟩:=(show ∃ t,u=Value.str y t from rx); cases z; exact PySem.W.kia_one PySem.W.kitx_str I.kIn True.intro e (fun z=>nomatch z) fin
 | @tup a ys hq =>
  cases (show u=Value.ref a from rx)
  obtain ⟨its,_,⟨o,h1,h2,_⟩,_⟩:=I.tuple hq
  exact PySem.W.kia_one PySem.W.kitx_tuple I.kIn ⟨o,h1,h2⟩ e (fun z=>nomatch z) fin
theorem call_isinstK {X:Cx} (K:PySem.W.Frag) (hK:X.K=K:=by rfl):CallR X (.builtin "isinstance") (fun xs H Q=>∃ x T n b,xs=[x,.ty n]∧ClsOf K H x T∧PySem.W.kitOne K (.type T) (.type n)=some b∧Q (.bl b) H):=by
 subst hK
 exact call_isinst
theorem pt_truthK {X:Cx} {a:Expr} {ta:TE} (K:PySem.W.Frag) (ha:PE X a ta) (he:∀ whole,isTrue a X.env whole=(do let v ← whole; standAt a.pos; holding [v] (truthy v))) (hK:X.K=K:=by rfl) :
  PT X a (fun σ H Q=>ta σ H fun x H'=>∃ k,TruV K x H' k∧Q k H'):=by
 subst hK
 exact pt_truth ha he
theorem op_eq_nil {X:Cx} (hu:X.A.units < cLine):OpR X (compareOp .Eq) (fun x y H Q=>∃ a b xs,x=.ref a∧y=.ref b∧SqL X.K H a xs∧SqL X.K H b []∧Q (.bl (xs.isEmpty)) H):=by
 intro pins s σ H x y v u Q I rx ry h
 obtain ⟨a,b,xs,rfl,rfl,ha,hb,q⟩:=h
 cases rx
 cases ry
 obtain ⟨its,r,pl,hz⟩:=I.list ha
 obtain ⟨its2,r2,pl2,hz2⟩:=I.list hb
 have e2:its2=[]:=Vals.zero r2
 subst e2
 have hlen:=r.length
 cases xs with
 | nil =>
  have e:its=[]:=Vals.zero r
  subst e
  refine SeqAt.eq_listAt (e:=fun _=>true) pl.isList pl2.isList rfl hu (fun j h1 _=>absurd h1 (by simp)) ⟨.bl true,H,I,rfl,q⟩
 | cons y ys =>
  refine SeqAt.eq_list_lengthsAt pl.isList pl2.isList ?_ hu ⟨.bl false,H,I,rfl,q⟩
  rw [List.size_toArray,List.size_toArray,← hlen]
  simp
theorem comp_tup {K:PySem.W.Frag} {a D:Addr} {xs:List V} {tif:TT} {te:TE} {R:Hp→Prop} {H:Hp} (Pv:Nat→List V→Hp→Prop) (h0:Pv 0 [] (upd H D (.lst [])))
  (hl:∀ i ys H,i≤xs.length→Pv i ys H→SqT K H a xs)
  (hs:∀ i x ys H,xs[i]?=some x→Pv i ys H→tif [some x] H fun b H2=>if b=true then te [some x] H2 fun y H3=>H3 D=some (.lst ys)∧ys.length < sizeLine∧Pv (i+1) (ys++[y]) (upd H3 D (.lst (ys++[y]))) else Pv (i+1) ys H2)
  (hd:∀ ys H,Pv xs.length ys H→R H) :
  ∃ W:Nat→Nat→List V→Hp→Prop,(∃ m,W 0 m [] (upd H D (.lst []))) ∧
 ∀ i m ys H,W i m ys H→((Itt K a).stop i H∧R H)∨((Itt K a).go i H∧∃ m',m' < m∧∀ x H',(Itt K a).yld i H x H'→tif [some x] H' fun b H2 =>
  if b=true then te [some x] H2 fun y H3=>H3 D=some (.lst ys)∧ys.length < sizeLine∧W (i+1) m' (ys++[y]) (upd H3 D (.lst (ys++[y]))) else W (i+1) m' ys H2):=by
 refine ⟨fun i m ys H=>m=xs.length - i∧i≤xs.length∧Pv i ys H,⟨xs.length,by simp,Nat.zero_le _,h0⟩,?_⟩
 rintro i m ys H ⟨rfl,hi,p⟩
 have q:=hl i ys H hi p
 by_cases hlt:i < xs.length
 ·refine .inr ⟨⟨xs,xs[i],q,by simp [hlt]⟩,xs.length - (i+1),by omega,fun x H' y=>?_⟩
  obtain ⟨e,y⟩:=y
  subst e
  have z:=hs i x ys _ (y xs q) p
  have h1:(i+1≤xs.length)=True:=eq_true hlt
  simp only [h1,true_and]
  exact z
 ·have e:i=xs.length:=by omega
  subst e
  exact .inl ⟨⟨xs,q,Nat.le_refl _⟩,hd ys H p⟩
end L2
namespace L2
open PySem
structure Clos (env:Env) (scope:Scope) (cl:List (Str×Addr)):Prop where
 eq:closureFor scope env=pure cl
 sub:∀ y c,cl.lookup y=some c→env.cells.lookup y=some c
 all:∀ y,(y,NameKind.free)∈scope.names→∃ c,cl.lookup y=some c
theorem lookup_put {y n:Str} {c:Addr} {l:List (Str×Addr)}:((n,c)::l).lookup y=if y=n then some c else l.lookup y:=by
 by_cases h:y=n
 ·rw [if_pos h]; simp [List.lookup,h]
 ·rw [if_neg h]; simp [List.lookup,beq_eq_false_iff_ne.mpr h]
theorem clos_of {env:Env} {scope:Scope} (h:∀ y,(y,NameKind.free)∈scope.names→∃ c,env.cells.lookup y=some c):∃ cl,Clos env scope cl:=by
 have go:∀ (names:List (Str×NameKind)) (acc:List (Str×Addr)),(∀ y,(y,NameKind.free)∈names→∃ c,env.cells.lookup y=some c)→(∀ y c,acc.lookup y=some c→env.cells.lookup y=some c) →
   ∃ cl,(forIn names acc fun (x:Str×NameKind) (cs:List (Str×Addr))=>(if x.2 == .free then do let c ← cellOf env x.1; pure (ForInStep.yield ((x.1,c)::cs)) else pure (ForInStep.yield cs):Sem (ForInStep (List (Str×Addr)))))=pure cl ∧
    (∀ y c,cl.lookup y=some c→env.cells.lookup y=some c)∧(∀ y,(y,NameKind.free)∈names→∃ c,cl.lookup y=some c)∧∀ y c,acc.lookup y=some c→∃ c',cl.lookup y=some c':=by
  intro names
  induction names with
  | nil=>intro acc _ hs; exact ⟨acc,rfl,hs,fun y hy=>absurd hy (by simp),fun y c e=>⟨c,e⟩⟩
  | cons x r ih =>
   intro acc hf hs
   obtain ⟨n,k⟩:=x
   rw [List.forIn_cons]
   by_cases hk:k=.free
   ·subst hk
    obtain ⟨c0,e0⟩:=hf n List.mem_cons_self
    obtain ⟨cl,e1,e2,e3,e4⟩:=ih ((n,c0)::acc) (fun y hy=>hf y (List.mem_cons_of_mem _ hy)) (fun y c e=>by
     rw [lookup_put] at e
     by_cases z:y=n
     ·rw [if_pos z] at e; cases e; rw [z]; exact e0
     ·rw [if_neg z] at e; exact hs y c e)
    refine ⟨cl,?_,e2,fun y hy=>?_,fun y c e=>?_⟩
    ·rw [← e1]
     have:cellOf env n=pure c0:=by unfold cellOf; rw [e0]
     simp only [this]
     rfl
    ·rcases List.mem_cons.mp hy with z | z
     ·cases z; exact e4 n c0 (by rw [lookup_put,if_pos rfl])
     ·exact e3 y z
    ·by_cases z:y=n
     ·exact e4 y c0 (by rw [lookup_put,if_pos z])
     ·exact e4 y c (by rw [lookup_put,if_neg z]; exact e)
   ·obtain ⟨cl,e1,e2,e3,e4⟩:=ih acc (fun y hy=>hf y (List.mem_cons_of_mem _ hy)) hs
    refine ⟨cl,?_,e2,fun y hy=>?_,e4⟩
    ·rw [← e1]
     have:(k == NameKind.free)=false:=by simpa using hk
     simp only [this]
     rfl
    ·rcases List.mem_cons.mp hy with z | z
     ·cases z; exact absurd rfl hk
     ·exact e3 y z
 obtain ⟨cl,e1,e2,e3,_⟩:=go scope.names [] h (fun y c e=>by simp at e)
 refine ⟨cl,?_,e2,e3⟩
 unfold closureFor
 exact Eq.trans (congrArg (fun t:Sem (List (Str×Addr))=>t >>= fun cs=>pure cs) e1) rfl
theorem relabel_free {scope:Scope} {env:Env} {y:Str} (hk:env.scope.kind=.function) (hy:scope.names.lookup y=some .free) (he:env.kindOf y=some .cell):(relabel scope env).names.lookup y=some .cell:=by
 have go:∀ l:List (Str×NameKind),l.lookup y=some .free→(l.map fun (x:Str×NameKind)=>if (x.2 == NameKind.free && env.scope.kind == .function && env.kindOf x.1 == some .cell) then (x.1,NameKind.cell) else (x.1,x.2)).lookup y=some .cell:=by
  intro l
  induction l with
  | nil=>intro z; cases z
  | cons x r ih =>
   obtain ⟨n,k⟩:=x
   intro hy
   rw [List.map_cons]
   by_cases z:y=n
   ·subst z
    simp [List.lookup] at hy
    subst hy
    simp [List.lookup,hk,he]
   ·have zb:(y == n)=false:=beq_eq_false_iff_ne.mpr z
    simp only [List.lookup,zb] at hy
    have:=ih hy
    dsimp only
    split <;> simp only [List.lookup,zb] <;> exact this
 exact go _ hy
theorem mem_lk {α:Type} {y:Str} {v:α}:∀ {l:List (Str×α)},l.lookup y=some v→(y,v)∈l
 | [],h=>by cases h
 | (n,u)::r,h=>by
  by_cases z:y=n
  ·subst z
   simp [List.lookup] at h
   subst h
   exact List.mem_cons_self
  ·have zb:(y == n)=false:=beq_eq_false_iff_ne.mpr z
   simp only [List.lookup,zb] at h
   exact List.mem_cons_of_mem _ (mem_lk h)
theorem relabel_kind {scope:Scope} {env:Env} {y:Str} {k:NameKind} (h:(relabel scope env).names.lookup y=some k) (hk:k=.cell∨k=.free) (hc:∀ z∈scope.names,z.2≠.cell):(y,NameKind.free)∈scope.names:=by
 have m:=mem_lk h
 unfold relabel at m
 obtain ⟨⟨n,k'⟩,m1,m2⟩:=List.mem_map.mp m
 dsimp only at m2
 split at m2
 ·rename_i q
  cases m2
  simp at q
  obtain ⟨⟨q,_⟩,_⟩:=q
  subst q
  exact m1
 ·cases m2
  rcases hk with hk | hk
  ·exact absurd hk (hc _ m1)
  ·rw [← hk]; exact m1
end L2
namespace L2
open PySem PySem.Spec PyProof.Rows
def cxD (X:Cx) (scope:Scope) (cl:List (Str×Addr)) (C:Addr) (s1:Shared) (H1:Hp) (N:List Str) (fp:List Addr):Cx :=
 { X with N:=N,s₀:=s1,H₀:=H1,env:=compEnvC scope cl C X.env,outer:=X.stack,stack:=X.stack,ex:=fp,fn:=fun _=>false,pn:=[],xe:=fun _ _=>False }
structure Caps (X:Cx) (scope:Scope) (js:List (Nat×Str)):Prop where
 at_:∀ p∈js,X.N[p.1]?=some p.2∧X.env.scope.names.lookup p.2=some .cell∧scope.names.lookup p.2=some .free
 all:∀ y,(y,NameKind.free)∈scope.names→X.env.scope.names.lookup y=some .cell
def capS (ts:List Str) (js:List (Nat×Str)) (σ:St):St:=ts.map (fun _=>none)++js.map fun p=>(σ[p.1]?).join
theorem inv_compG {X:Cx} {pins:List (Addr×Obj)} {σ:St} {H:Hp} {s1 s4:Shared} {scope:Scope} {ts:List Str} {js:List (Nat×Str)} {cl:List (Str×Addr)} {fp:List Addr} {C:Addr} {m:Str→Option Value}
  (I:Inv X pins σ H s1) (hf:∀ b∈fp,FpOk X pins H b) (hfl:∀ b∈fp,b < s1.heap.objs.size) (hkind:scope.kind=.function) (hcell:∀ y∈scope.names,y.2≠.cell) (cp:Caps X scope js) (hcl:Clos X.env scope cl)
  (hC:s1.heap.objs.size < C) (ho:s4.os=s1.os) (hg:s4.gens=s1.gens) (old:∀ b o,s1.heap.get? b=some o→s4.heap.get? b=some o) (hn:s4.heap.Ns C m)
  (hD:s4.heap.get? s1.heap.objs.size=some { cls:=.type "list",data:=.seq ([]:List Value).toArray 0 }) :
  Inv (cxD X scope cl C s1 H (ts++js.map (·.2)) fp) [] (capS ts js σ) (upd H s1.heap.objs.size (.lst [])) s4:=by
 have xk:X.env.scope.kind=.function:=I.ok.kind
 have has:∀ y,((relabel scope X.env).names.lookup y=some .cell∨(relabel scope X.env).names.lookup y=some .free)→∃ c,cl.lookup y=some c:=fun y hy=>hcl.all y (by
  rcases hy with hy | hy
  ·exact relabel_kind hy (.inl rfl) hcell
  ·exact relabel_kind hy (.inr rfl) hcell)
 have lt:∀ y c,cl.lookup y=some c→c < s1.heap.objs.size:=fun y c e=>by
  obtain ⟨v,o,ho,_⟩:=I.cell y c (hcl.sub y c e)
  exact Heap.lt_size ho
 refine ⟨⟨I.ok.mod,hkind,I.ok.glob,I.ok.blt,Nat.le_of_lt hC,fun y z c h1 h2=>I.ok.inj y z c (hcl.sub _ _ h1) (hcl.sub _ _ h2),has,fun y c h _=>absurd (show false=true from h) Bool.false_ne_true,I.ok.hd,I.ok.frames,.inl rfl,
   fun b hb=>⟨Nat.ne_of_lt (Nat.lt_trans (hfl b hb) hC),fun y c h=>(hf b hb).2.2.2.2.1 y c (hcl.sub _ _ h)⟩,I.bs,Nat.le_trans I.ok.bsz I.sz,fun b o e hb=>?_,fun b hb=>?_,I.stack,I.stkFree⟩,
  ho,?_,Un.laid old (Nat.le_refl _) I.fresh,⟨m,hn,fun i y v e1 e2 _=>?_⟩,fun y c h=>?_,?_,fun y c h=>?_,fun p hp=>absurd (show p∈([]:List (Addr×Obj)) from hp) (by simp),I.hok.laid old (Nat.le_refl _) ?_,?_⟩
 ·obtain ⟨_,_,_,h4,_⟩:=hf b hb
  rcases h4 with h4 | h4
  ·exact I.ok.noex b o e h4
  ·exact absurd (Nat.lt_of_lt_of_le (Heap.lt_size (I.ok.bs b o e).1) h4) (Nat.lt_irrefl _)
 ·intro hb'
  obtain ⟨_,h2,h3,_⟩:=hf b hb
  rcases List.mem_cons.mp (I.stkSub b hb') with z | z
  ·exact h2 z
  ·exact h3 z
 ·rw [hg]; exact I.bare
 ·have e1':(ts++js.map (·.2))[i]?=some y:=e1
  have e2':(ts.map (fun _=>(none:Option V))++js.map fun p=>(σ[p.1]?).join)[i]?=some (some v):=e2
  by_cases hi:i < ts.length
  ·rw [List.getElem?_append_left (by simpa using hi)] at e2'
   simp [hi] at e2'
  ·rw [List.getElem?_append_right (by omega)] at e1'
   rw [List.getElem?_append_right (by simpa using Nat.le_of_not_lt hi)] at e2'
   rw [List.length_map] at e2'
   rw [List.getElem?_map] at e1' e2'
   cases hj:js[i - ts.length]? with
   | none=>rw [hj] at e1'; cases e1'
   | some p =>
    rw [hj] at e1' e2'
    simp only [Option.map_some,Option.some.injEq] at e1' e2'
    obtain ⟨a1,a2,a3⟩:=cp.at_ p (List.mem_of_getElem? hj)
    subst e1'
    have es:σ[p.1]?=some (some v):=by
     cases q:σ[p.1]? with
     | none=>rw [q] at e2'; cases e2'
     | some z=>rw [q] at e2'; exact congrArg some e2'
    obtain ⟨m0,hn0,lk⟩:=I.loc
    obtain ⟨u,ru,l⟩:=lk p.1 p.2 v a1 es (.inr (.inl a2))
    rcases l with l | ⟨_,c,ec,o,hc,hd⟩
    ·have l1:X.env.scope.names.lookup p.2=some .local:=l.1
     rw [a2] at l1; cases l1
    ·obtain ⟨c',ec'⟩:=hcl.all p.2 (mem_lk a3)
     have e3:=hcl.sub _ _ ec'
     rw [ec] at e3
     cases e3
     exact ⟨u,ru,.inr ⟨.inl (relabel_free xk a3 a2),c,ec',o,old _ _ hc,hd⟩⟩
 ·obtain ⟨v,o,h1,h2⟩:=I.cell y c (hcl.sub y c h)
  exact ⟨v,o,old _ _ h1,h2⟩
 ·show upd H s1.heap.objs.size (.lst []) C=none
  rw [upd_ne (Nat.ne_of_gt hC)]
  exact I.hok.fresh (Nat.le_of_lt hC)
 ·show upd H s1.heap.objs.size (.lst []) c=none
  rw [upd_ne (Nat.ne_of_lt (lt y c h))]
  exact I.freeC y c (hcl.sub y c h)
 ·exact ⟨by show 0≤sizeLine; decide,[],0,.nil,hD⟩
 ·show (capS ts js σ).length=(ts++js.map (·.2)).length
  simp [capS]
def tCompG (wi:TI) (ts:List Str) (js:List (Nat×Str)) (g:TG) (tif:TT) (te:TE):TE:=fun σ H Q=>wi σ H fun J H1=>∀ D,H1 D=none→∃ W:Nat→Nat→List V→St→Hp→Prop,(∃ m,W 0 m [] (capS ts js σ) (upd H1 D (.lst []))) ∧
 ∀ i m ys σ' H,W i m ys σ' H→(J.stop i H∧Q (.ref D) H)∨(J.go i H∧∃ m',m' < m∧∀ x H',J.yld i H x H'→g x σ' H' fun σ2 H2=>tif σ2 H2 fun b H3 =>
  if b=true then te σ2 H3 fun y H4=>H4 D=some (.lst ys)∧ys.length < sizeLine∧W (i+1) m' (ys++[y]) σ2 (upd H4 D (.lst (ys++[y]))) else W (i+1) m' ys σ2 H3)
theorem pe_compG {X:Cx} {elt iter tg:Expr} {ifs:List Expr} {scope:Scope} {pos:Pos} {wi:TI} {g:TG} {tif:TT} {te:TE} (ts:List Str) (js:List (Nat×Str)) (hc:X.calm=true) (hi:PI X tg iter wi)
  (cp:Caps X scope js) (hcell:∀ y∈scope.names,y.2≠.cell) (hkind:scope.kind=.function)
  (hnames:∀ y∈scope.names,y.2=.local→scope.names.lookup y.1=some .local)
  (hg:∀ cl C s1 H1 fp,PG (cxD X scope cl C s1 H1 (ts++js.map (·.2)) fp) tg g)
  (hif:∀ cl C s1 H1 fp,PIfs (cxD X scope cl C s1 H1 (ts++js.map (·.2)) fp) ifs tif) (he:∀ cl C s1 H1 fp,PE (cxD X scope cl C s1 H1 (ts++js.map (·.2)) fp) elt te)
  (hs:∀ x,foldedSetIterable iter X.env x=pure x:=by intro _; rfl) :
  PE X (.ListComp elt [⟨tg,iter,ifs,0⟩] scope pos) (tCompG wi ts js g tif te):=by
 intro pins s σ H Q I h
 rw [eval_ListComp]
 obtain ⟨cl,hcl⟩:=clos_of (env:=X.env) (scope:=scope) fun y hy=>I.ok.has y (.inl (cp.all y hy))
 refine wpAny_comprehension_free (use:=none) rfl hs hcl.eq hkind hnames (thn (hi pins s σ H _ I h) fun v s1 h1=>thn h1 fun itv s2 h2=>?_)
 obtain ⟨it,fp,tn,J,H2,e,I2,T,st2,f2,h2⟩:=h2
 subst e
 obtain ⟨W,⟨m0,w0⟩,turn⟩:=h2 s2.heap.objs.size I2.fresh
 have hfl:∀ b∈fp,b < s2.heap.objs.size:=fun b hb=>by obtain ⟨o,e,_⟩:=T.obj _ _ st2 b hb; exact Heap.lt_size e
 refine wpAny_newObj_type (wpAny_newFunctionEnv hcell (by intro y hy; simp at hy) (fun h₁ hns₁ hsb₁=>?_) hkind)
 dsimp only at hns₁ hsb₁ ⊢
 generalize hH2:s2.heap.push { cls:=.type "list",dict:=none,data:=.seq ([]:List Value).toArray }=G2 at hns₁ hsb₁ ⊢
 have hCs:G2.objs.size=s2.heap.objs.size+1:=by rw [← hH2,Heap.size_push]
 have hDC:s2.heap.objs.size≠G2.objs.size:=by rw [hCs]; exact Nat.ne_of_lt (Nat.lt_succ_self _)
 have old:∀ b o,s2.heap.get? b=some o→h₁.get? b=some o:=fun b o e =>
  hsb₁.extBut b o (by rw [hCs]; exact Nat.ne_of_lt (Nat.lt_succ_of_lt (Heap.lt_size e))) (Heap.get?_push_of_some _ (hH2 ▸ Heap.get?_push_of_some _ e))
 have hacc:h₁.get? s2.heap.objs.size=some { cls:=.type "list",data:=.seq ([]:List Value).toArray 0 }:=hsb₁.extBut _ _ hDC (Heap.get?_push_of_some _ (hH2 ▸ Heap.get?_push_size _ rfl))
 generalize hX2:cxD X scope cl G2.objs.size s2 H2 (ts++js.map (·.2)) fp=X2
 have I4:Inv X2 [] (capS ts js σ) (upd H2 s2.heap.objs.size (.lst [])) { s2 with heap:=h₁,toks:=s2.toks+([]:List (Str×Value)).length }:=by
  rw [← hX2]
  exact inv_compG I2 f2 hfl hkind hcell cp hcl (by rw [hCs]; exact Nat.lt_succ_self _) rfl rfl old hns₁ hacc
 have x1:X2.prog=X.prog:=by rw [← hX2]; rfl
 have x2:X2.w=X.w:=by rw [← hX2]; rfl
 have x3:X2.K=X.K:=by rw [← hX2]; rfl
 have x4:X2.calm=true:=by rw [← hX2]; exact hc
 have x5:X2.A=X.A:=by rw [← hX2]; rfl
 have x6:X2.env=compEnvC scope cl G2.objs.size X.env:=by rw [← hX2]; rfl
 have x7:X2.xe=fun _ _=>False:=by rw [← hX2]; rfl
 have hg':PG X2 tg g:=by rw [← hX2]; exact hg _ _ _ _ _
 have hif':PIfs X2 ifs tif:=by rw [← hX2]; exact hif _ _ _ _ _
 have he':PE X2 elt te:=by rw [← hX2]; exact he _ _ _ _ _
 have st4:tn 0 h₁:=T.keep _ _ _ st2 fun b _ o e=>old b o e
 have stat:∀ {H':Hp} {pins':List (Addr×Obj)},(∀ b∈fp,H' b=none)→(∀ p∈pins',p.1∉fp)→∀ b∈fp,FpOk X2 pins' H' b:=fun {H' pins'} hn hp b hb=>by
  have o4:=I4.ok
  subst hX2
  exact ⟨hn b hb,(o4.exf b hb).1,o4.exfs b hb,.inl hb,(o4.exf b hb).2,fun p hp'=>by
   have hp2:p∈([]:List (Addr×Obj))++pins':=hp'
   rw [List.nil_append] at hp2
   intro z; exact hp p hp2 (by rw [z]; exact hb)⟩
 have fin:∀ {s':Shared} {σ':St} {H':Hp},Inv X2 [] σ' H' s'→Q (.ref s2.heap.objs.size) H' →
   compPost (model X.prog X.w) X.A X.xe none (EP X pins σ Q) (.ref s2.heap.objs.size) G2.objs.size (.ok .next) s':=fun {s' σ' H'} J' q=>by
  subst hX2
  obtain ⟨m',hn',_⟩:=J'.loc
  refine ⟨m',hn',fun h' hs'=>?_⟩
  have u:Un (frs X.stack) fp H2 H' s2.heap s'.heap:=J'.base
  have nC:∀ b o,s2.heap.get? b=some o→b≠G2.objs.size:=fun b o e=>by rw [hCs]; exact Nat.ne_of_lt (Nat.lt_succ_of_lt (Heap.lt_size e))
  have u':Un (frs X.stack) fp H2 H' s2.heap h':=⟨fun b o e n hb hx=>(hs'.2 b (nC b o e)).trans (u.keep b o e n hb hx),fun b o e n hb hx=>by
    obtain ⟨sl,z⟩:=u.slot b o e n hb hx
    exact ⟨sl,(hs'.2 b (nC b o e)).trans z⟩,u.free,fun b o e hx=>by
    obtain ⟨o',z⟩:=u.there b o e hx
    exact ⟨o',(hs'.2 b (nC b o e)).trans z⟩,u.tups,u.frzs,u.tbls⟩
  have hok:HOk X.prog X.w H' h':=fun b ob e=>by
   refine (J'.hok b ob e).stay (fun c w' hc' q'=>(hs'.2 c ?_).trans q') (fun _ q=>q) fun _ _ q=>q
   intro z
   have fr:H' G2.objs.size=none:=J'.free
   rcases hc' with z' | z'
   ·rw [← z'] at e; rw [z,fr] at e; cases e
   ·rw [z,fr] at z'; cases z'
  have I5:Inv X pins σ H' { s' with heap:=h' }:=I2.call' (s':={ s' with heap:=h' }) J'.os u' hok J'.bare fun b hb=>by
   obtain ⟨_,f1,_,f3,f4,f5⟩:=f2 b hb
   exact ⟨f3,f1,f4,f5⟩
  exact ⟨.ref s2.heap.objs.size,H',I5,rfl,q⟩
 have loop:∀ s₃:Shared,s₃={ s2 with heap:=h₁,toks:=s2.toks+([]:List (Str×Value)).length } →
   codeAny (model X.prog X.w) X.A (.compLoop (.ListComp elt [⟨tg,iter,ifs,0⟩] scope pos) 0 (.ref it) (.ref s2.heap.objs.size) (compEnvC scope cl G2.objs.size X.env))
    (compPost (model X.prog X.w) X.A X.xe none (EP X pins σ Q) (.ref s2.heap.objs.size) G2.objs.size) s₃:=by
  rintro s₃ rfl
  subst hX2
  refine compLoop_go (fun n s'=>∃ i ys σ' H',Inv (cxD X scope cl G2.objs.size s2 H2 (ts++js.map (·.2)) fp) [] σ' H' s'∧tn i s'.heap∧(∀ b∈fp,H' b=none)∧W i n ys σ' H') ?_ m0
   ⟨0,[],_,_,I4,st4,fun b hb=>by rw [upd_ne (Nat.ne_of_lt (hfl b hb))]; exact (f2 b hb).1,w0⟩
  rintro n s' ⟨i,ys,σ0,H',J',st',fr',w'⟩
  rcases turn i n ys σ0 H' w' with ⟨stop,q⟩ | ⟨go,m',hm,step⟩
  ·refine wpAny_mono (T.done (cxD X scope cl G2.objs.size s2 H2 (ts++js.map (·.2)) fp) rfl rfl rfl hc i [] s' _ H' (fun _ _=>False) J' (stat fr' (by simp)) st' stop) (fun r s4 ⟨hr,J4⟩=>?_) fun _ _ z=>z
   subst hr
   exact fin J4 q
  ·refine wpAny_mono (T.item (cxD X scope cl G2.objs.size s2 H2 (ts++js.map (·.2)) fp) rfl rfl rfl hc i [] s' _ H' (fun _ _=>False) J' (stat fr' (by simp)) st' go) (fun r s4 ⟨u,hr,h4⟩=>?_) fun _ _ z=>z
   subst hr
   refine wpAny_mono h4 (fun _ s5 ⟨xv,H5,J5,r5,y5,st5,fr5⟩=>?_) fun _ _ z=>z
   have J5':=J5.pinned (stat fr5 (by simp)) (T.obj _ _ st5)
   have back:∀ {s7:Shared} {σ7:St} {H7:Hp},Inv (cxD X scope cl G2.objs.size s2 H2 (ts++js.map (·.2)) fp) ([]++pinsAt fp s5.heap) σ7 H7 s7→Inv (cxD X scope cl G2.objs.size s2 H2 (ts++js.map (·.2)) fp) [] σ7 H7 s7∧tn (i+1) s7.heap∧∀ b∈fp,H7 b=none:=fun {s7 σ7 H7} J7=>by
    refine ⟨J7.unpinned,T.keep _ _ _ st5 fun b hb o e=>(J7.pin (b,o) (List.mem_append_right _ (List.mem_append_right _ (mem_pinsAt hb e)))).1,fun b hb=>?_⟩
    obtain ⟨o,e,d⟩:=T.obj _ _ st5 b hb
    exact (J7.pin (b,o) (List.mem_append_right _ (List.mem_append_right _ (mem_pinsAt hb e)))).2.1
   show wpAny _ _ (assign tg (cxD X scope cl G2.objs.size s2 H2 (ts++js.map (·.2)) fp).env u) _ _ s5
   refine wpAny_mono (hg' _ s5 _ H5 xv u _ J5' r5 (step xv H5 y5)) (fun _ s6 ⟨σ6,H6,J6,q6⟩=>?_) fun _ _ z=>z
   refine wpAny_mono (hif' _ s6 _ H6 _ J6 q6) (fun b s7 ⟨H7,J7,q7⟩=>?_) fun _ _ z=>z
   cases b with
   | false =>
    rw [if_neg Bool.false_ne_true] at q7 ⊢
    obtain ⟨J8,st8,fr8⟩:=back J7
    exact ⟨m',hm,i+1,ys,σ6,H7,J8,st8,fr8,q7⟩
   | true =>
    rw [if_pos rfl] at q7 ⊢
    refine wpAny_mono (he' _ s7 _ H7 _ J7 q7) (fun yv s8 ⟨y,H8,J8,r8,hD8,hz8,w8⟩=>?_) fun _ _ z=>z
    refine wpAny_mono (mt_append (X:=cxD X scope cl G2.objs.size s2 H2 (ts++js.map (·.2)) fp) _ s8 _ H8 (.ref s2.heap.objs.size) [y] (.ref s2.heap.objs.size) [yv] (fun v H'=>W (i+1) m' (ys++[y]) σ6 H') J8 rfl (.cons r8 .nil) ⟨s2.heap.objs.size,ys,y,rfl,rfl,hD8,hz8,w8⟩)
     (fun _ s9 ⟨_,H9,J9,_,w9⟩=>?_) fun _ _ z=>z
    obtain ⟨J10,st10,fr10⟩:=back J9
    exact ⟨m',hm,i+1,ys++[y],σ6,H9,J10,st10,fr10,w9⟩
 exact codeAny_compStart_list (loop _ rfl) (T.self _ _ _ _ _ st4 (loop _ rfl))
end L2
namespace L2
open PySem PySem.Spec PyProof.Rows
def Ite (K:PySem.W.Frag) (a:Addr):It :=
 ⟨fun i H=>∃ xs x,SqL K H a xs∧xs[i]?=some x,fun i H x H'=>∃ t y,x=.ref t∧H t=none∧H'=upd H t (.tup [.int (i:Int),y])∧∀ xs,SqL K H a xs→xs[i]?=some y,fun i H=>∃ xs,SqL K H a xs∧xs.length≤i⟩
theorem turn_enum {P:Program} {w:World} {K:PySem.W.Frag} {elts:List Expr} {k:Nat} {tpos:Pos} (a e it:Addr) (hei:e≠it) :
  Turn P w K (.Tuple elts k tpos) (Ite K a) [e,it] e (fun i h=>(∃ old,IsEnum h e it i old)∧h.IsListIter it a i) where
 mem:=by simp
 obj:=fun i h st b hb=>by
  obtain ⟨⟨old,he⟩,o,e1,c,d⟩:=st
  rcases List.mem_cons.mp hb with rfl | hb
  ·exact ⟨_,he,fun v z=>by cases z⟩
  ·obtain rfl:b=it:=by simpa using hb
   exact ⟨o,e1,fun v z=>by rw [d] at z; cases z⟩
 keep:=fun i h h' st k=>⟨⟨st.1.choose,k e (by simp) _ st.1.choose_spec⟩,st.2.at fun o q=>k it (by simp) o q⟩
 item:=by
  intro X hP hw hK hc i pins s σ H E I hf st hg
  subst hP hw hK
  obtain ⟨xs,x,hq,hx⟩:=hg
  obtain ⟨its,rv,p,hz⟩:=I.list hq
  obtain ⟨u,hu,ru⟩:=rv.get hx
  obtain ⟨⟨old,he⟩,hit⟩:=st
  refine wpAny_pyNext_enum_item he hit p.isList (x:=u) (by simpa using hu) hei fun h1 ho hit1 hT hsz hk=>?_
  refine ⟨_,rfl,wpAny_letOwnedTupleGo_enum ho fun h2 he2 sb=>?_⟩
  have ne:s.heap.objs.size≠e:=Nat.ne_of_gt (Heap.lt_size he)
  have kk:∀ b o,b≠e→b≠it→s.heap.get? b=some o→h2.get? b=some o:=fun b o n1 n2 q=>(sb.2 b n1).trans (hk b o n1 n2 q)
  have T2:h2.get? s.heap.objs.size=some { cls:=.type "tuple",data:=.seq #[.int i s.toks,u] }:=(sb.2 _ ne).trans hT
  have fe:=hf e (by simp)
  have fi:=hf it (by simp)
  have fT:H s.heap.objs.size=none:=I.hok.fresh (Nat.le_refl _)
  have tr:∀ b v,H b=some v→b≠e∧b≠it:=fun b v q=>⟨fun z=>(by rw [z,fe.1] at q; cases q),fun z=>(by rw [z,fi.1] at q; cases q)⟩
  have nc:∀ b,b∉[e,it]→b≠e∧b≠it:=fun b z=>⟨fun q=>z (by simp [q]),fun q=>z (by simp [q])⟩
  have lt:∀ b o,s.heap.get? b=some o→b≠s.heap.objs.size:=fun b o q=>Nat.ne_of_lt (Heap.lt_size q)
  have I2:Inv X pins σ (upd H s.heap.objs.size (.tup [.int (i:Int),x])) { s with heap:=h2,toks:=s.toks+1 }:=by
   refine I.call (g':=s.gens) (t':=s.toks+1) (d':=s.drawn) (ch:=[e,it]) ⟨fun b o q _ _ c=>kk b o (nc b c).1 (nc b c).2 q,fun b o q _ _ c=>⟨o.slots,kk b o (nc b c).1 (nc b c).2 q⟩,
    fun b o q n _=>by rw [upd_ne (lt b o q)]; exact n,fun b o q c=>⟨o,kk b o (nc b c).1 (nc b c).2 q⟩,fun b ys q=>by rw [upd_ne (ne_of_none q fT)]; exact q,fun b o v q=>by rw [upd_ne (ne_of_none q fT)]; exact q,
    fun b ps q=>⟨#[],by rw [upd_ne (ne_of_none q fT),q]; simp⟩⟩ (fun b v q=>?_) I.bare (fun b hb=>?_)
   ·by_cases hb:b=s.heap.objs.size
    ·subst hb
     rw [upd_same] at q
     cases q
     exact ⟨by show 2≤sizeLine; decide,[.int i s.toks,u],.cons ⟨_,rfl⟩ (.cons ru .nil),_,T2,rfl,_,rfl⟩
    ·rw [upd_ne hb] at q
     refine (I.hok b v q).stay (fun c o hc' z=>?_) (fun c q'=>by rw [upd_ne (ne_of_none q' fT)]; exact q') fun c ys q'=>by rw [upd_ne (ne_of_none q' fT)]; exact q'
     rcases hc' with rfl | hc'
     ·exact kk c o (tr c _ q).1 (tr c _ q).2 z
     ·exact kk c o (tr c _ hc').1 (tr c _ hc').2 z
   ·rcases List.mem_cons.mp hb with rfl | hb
    ·exact ⟨fe.2.2.2.1,fe.2.1,fe.2.2.2.2.1,fe.2.2.2.2.2⟩
    ·obtain rfl:b=it:=by simpa using hb
     exact ⟨fi.2.2.2.1,fi.2.1,fi.2.2.2.2.1,fi.2.2.2.2.2⟩
  refine ⟨.ref s.heap.objs.size,_,I2,rfl,⟨_,x,rfl,fT,rfl,fun ys hy=>by rw [I.list_inj hy hq]; exact hx⟩,⟨⟨_,he2⟩,hit1.at fun o q=>(sb.2 it hei.symm).trans q⟩,fun b hb=>?_⟩
  have hb':H b=none∧∃ o,s.heap.get? b=some o:=by
   rcases List.mem_cons.mp hb with rfl | hb
   ·exact ⟨fe.1,_,he⟩
   ·obtain rfl:b=it:=by simpa using hb
    obtain ⟨o,q,_⟩:=hit
    exact ⟨fi.1,o,q⟩
  obtain ⟨n,o,q⟩:=hb'
  rw [upd_ne (lt b o q)]
  exact n
 done:=by
  intro X hP hw hK hc i pins s σ H E I hf st hg
  subst hP hw hK
  obtain ⟨xs,hq,hx⟩:=hg
  obtain ⟨its,rv,p,hz⟩:=I.list hq
  obtain ⟨⟨old,he⟩,hit⟩:=st
  obtain ⟨f0,f1,f2,f3,f4,f5⟩:=hf it (by simp)
  have hl:=rv.length
  exact wpAny_pyNext_enum_end (I.ok.hd hc) he hit p.isList (by simp; omega) fun h' eb=>⟨rfl,I.turned (t':=s.toks) (fun b o hb e=>eb b o hb e) f0 f1 f3 f4 f5⟩
 self:=fun _ _ _ _ _ st h=>wpAny_pyIter_enum st.1.choose_spec h
theorem boot_enum:bootBuiltins "enumerate"=some (.type "enumerate"):=by decide +kernel
def iEnum (K:PySem.W.Frag) (ta:TA):TI:=fun σ H R=>ta σ H fun vs H1=>∃ a xs,vs=[.ref a]∧SqL K H1 a xs∧R (Ite K a) H1
theorem pi_enum {X:Cx} {elts:List Expr} {k:Nat} {tpos:Pos} {l:Expr} {ta:TA} {p pos:Pos} (hg:Gl X "enumerate") (hm:X.mg "enumerate"=none) (ha:PA X [l] ta) (hs:starEach [l] X.env=[(false,eval l X.env)]:=by rfl) :
  PI X (.Tuple elts k tpos) (.Call (.Name "enumerate" p) [l] [] pos) (iEnum X.K ta):=by
 intro pins s σ H R I h
 refine Call_ (ld_blt I hg hm boot_enum (PyProof.Rows.callWith_type1 (thn (ha pos pins s σ H _ I h) fun us s1 ⟨vs,H1,I1,r1,q1⟩=>?_) hs rfl))
 obtain ⟨a,xs,e,hq,q⟩:=q1
 subst e
 obtain ⟨u,rfl,rx⟩:=r1.one
 cases rx
 obtain ⟨its,rv,pl,hz⟩:=I1.list hq
 refine call_enumerate_list pl.isList fun h1 he hit hsz hk=>wpAny_pyIter_enum he ?_
 refine ⟨s1.heap.objs.size+1,[s1.heap.objs.size+1,s1.heap.objs.size],_,_,H1,rfl,I1.kept (t':=s1.toks) fun b o e=>hk b o e,turn_enum a _ _ (Nat.ne_of_gt (Nat.lt_succ_self _)),⟨⟨_,he⟩,hit⟩,fun b hb=>?_,q⟩
 rcases List.mem_cons.mp hb with rfl | hb
 ·exact I1.fpOk (Nat.le_succ _) (I1.hok.fresh (Nat.le_succ _))
 ·obtain rfl:b=s1.heap.objs.size:=by simpa using hb
  exact I1.fpOk (Nat.le_refl _) (I1.hok.fresh (Nat.le_refl _))
end L2
namespace L2
open PySem PySem.Spec PyProof.Rows
section
variable {κ:Type} [DecidableEq κ]
def valV (kvs:List (κ×V)) (k:κ):Option V:=(kvs.find? fun kv=>decide (kv.1=k)).map (·.2)
def putK (kvs:List (κ×V)) (k:κ) (v:V):List (κ×V) :=
 if (kvs.any fun kv=>decide (kv.1=k))=true then kvs.map (fun kv=>if kv.1=k then (kv.1,v) else kv) else kvs++[(k,v)]
def dropK (kvs:List (κ×V)) (k:κ):List (κ×V):=kvs.filter fun kv=>decide (kv.1≠k)
theorem valV_pos {p:κ×V} {r:List (κ×V)} {k:κ} (e:p.1=k):valV (p::r) k=some p.2:=by simp [valV,List.find?_cons,e]
theorem valV_neg {p:κ×V} {r:List (κ×V)} {k:κ} (e:¬ p.1=k):valV (p::r) k=valV r k:=by simp [valV,List.find?_cons,e]
theorem valV_any (k:κ):∀ kvs:List (κ×V),(kvs.any fun kv=>decide (kv.1=k))=(valV kvs k).isSome
 | []=>rfl
 | p::r=>by
  rw [List.any_cons]
  by_cases e:p.1=k
  ·simp only [valV_pos e,decide_eq_true e,Bool.true_or,Option.isSome_some]
  ·rw [valV_neg e,decide_eq_false e,Bool.false_or]; exact valV_any k r
theorem valV_map (k j:κ) (y:V):∀ kvs:List (κ×V),valV (kvs.map fun kv=>if kv.1=k then (kv.1,y) else kv) j=(valV kvs j).map fun x=>if j=k then y else x
 | []=>rfl
 | p::r=>by
  have ih:=valV_map k j y r
  rw [List.map_cons]
  by_cases h:p.1=k
  ·rw [if_pos h]
   by_cases e:p.1=j
   ·rw [valV_pos (p:=(p.1,y)) e,valV_pos e,Option.map_some,if_pos (e.symm.trans h)]
   ·rw [valV_neg (p:=(p.1,y)) e,valV_neg e,ih]
  ·rw [if_neg h]
   by_cases e:p.1=j
   ·rw [valV_pos (p:=p) e,valV_pos e,Option.map_some,if_neg (fun z=>h (e.trans z))]
   ·rw [valV_neg (p:=p) e,valV_neg e,ih]
theorem valV_snoc (k j:κ) (y:V):∀ kvs:List (κ×V),valV kvs k=none→valV (kvs++[(k,y)]) j=if j=k then some y else valV kvs j
 | [],_=>by
  by_cases e:k=j
  ·rw [if_pos e.symm]; exact valV_pos (p:=(k,y)) e
  ·rw [if_neg (fun z=>e z.symm)]; exact valV_neg (p:=(k,y)) e
 | p::r,hn=>by
  rw [List.cons_append]
  have hk:¬ p.1=k:=fun z=>by rw [valV_pos z] at hn; cases hn
  rw [valV_neg hk] at hn
  have ih:=valV_snoc k j y r hn
  by_cases e:p.1=j
  ·rw [valV_pos e,valV_pos e,if_neg (fun z=>hk (e.trans z))]
  ·rw [valV_neg e,valV_neg e,ih]
theorem valV_put (kvs:List (κ×V)) (k j:κ) (y:V):valV (putK kvs k y) j=if j=k then some y else valV kvs j:=by
 unfold putK
 by_cases a:(kvs.any fun kv=>decide (kv.1=k))=true
 ·rw [if_pos a,valV_map]
  rw [valV_any] at a
  by_cases e:j=k
  ·obtain ⟨x,hx⟩:=Option.isSome_iff_exists.mp a
   rw [if_pos e,e,hx,Option.map_some,if_pos rfl]
  ·rw [if_neg e]
   cases valV kvs j with
   | none=>rfl
   | some x=>rw [Option.map_some,if_neg e]
 ·rw [if_neg a]
  refine valV_snoc k j y kvs ?_
  rw [valV_any] at a
  cases q:valV kvs k with
  | none=>rfl
  | some x=>rw [q] at a; exact (a rfl).elim
theorem length_putK (kvs:List (κ×V)) (k:κ) (v:V):(putK kvs k v).length≤kvs.length+1:=by
 unfold putK
 split
 ·rw [List.length_map]; omega
 ·rw [List.length_append,List.length_cons,List.length_nil]; omega
theorem putK_new {kvs:List (κ×V)} {k:κ} (v:V) (h:valV kvs k=none):putK kvs k v=kvs++[(k,v)]:=by
 unfold putK
 rw [valV_any,h]
 exact if_neg (by decide)
theorem RelO.isSome_eq {o:Option V} {u:Option Value} (r:RelO o u):o.isSome=u.isSome:=by
 cases o with
 | none=>cases u with
  | none=>rfl
  | some _=>exact (show False from r).elim
 | some _=>cases u with
  | none=>exact (show False from r).elim
  | some _=>rfl
theorem RelO.getD {o:Option V} {u:Option Value} {d:V} {d':Value} (r:RelO o u) (rd:RelV d d'):RelV (o.getD d) (u.getD d'):=by
 cases o with
 | none=>cases u with
  | none=>exact rd
  | some _=>exact (show False from r).elim
 | some _=>cases u with
  | none=>exact (show False from r).elim
  | some _=>exact r
theorem KV.val {kvs:List (κ×V)} {vs:List (κ×Value)} (r:KV kvs vs) (k:κ):RelO (valV kvs k) (valueAt vs k):=by
 unfold KV at r
 induction r with
 | nil=>exact True.intro
 | @cons p q ps qs h t ih =>
  obtain ⟨h1,h2⟩:=h
  by_cases e:p.1=k
  ·have e':q.1=k:=h1.symm.trans e
   have b:valueAt (q::qs) k=some q.2:=by simp [valueAt,List.find?_cons,e']
   rw [valV_pos e,b]; exact h2
  ·have e':¬ q.1=k:=fun z=>e (h1.trans z)
   have b:valueAt (q::qs) k=valueAt qs k:=by simp [valueAt,List.find?_cons,e']
   rw [valV_neg e,b]; exact ih
theorem KV.any {kvs:List (κ×V)} {vs:List (κ×Value)} (r:KV kvs vs) (k:κ):(kvs.any fun kv=>decide (kv.1=k))=vs.any fun kv=>decide (kv.1=k):=by
 unfold KV at r
 induction r with
 | nil=>rfl
 | cons h t ih=>rw [List.any_cons,List.any_cons,ih,h.1]
theorem KV.repl {kvs:List (κ×V)} {vs:List (κ×Value)} (r:KV kvs vs) (k:κ) {y:V} {u:Value} (ry:RelV y u) :
  KV (kvs.map fun kv=>if kv.1=k then (kv.1,y) else kv) (vs.map fun kv=>if kv.1=k then (kv.1,u) else kv):=by
 unfold KV at r ⊢
 induction r with
 | nil=>exact .nil
 | @cons p q ps qs h t ih =>
  rw [List.map_cons,List.map_cons]
  refine .cons ?_ ih
  obtain ⟨h1,h2⟩:=h
  by_cases e:p.1=k
  ·rw [if_pos e,if_pos (h1.symm.trans e)]; exact ⟨h1,ry⟩
  ·rw [if_neg e,if_neg (fun z=>e (h1.trans z))]; exact ⟨h1,h2⟩
theorem KV.put {kvs:List (κ×V)} {vs:List (κ×Value)} (r:KV kvs vs) (k:κ) {y:V} {u:Value} (ry:RelV y u):KV (putK kvs k y) (stored vs k u):=by
 unfold putK stored
 rw [r.any k]
 by_cases e:(vs.any fun kv=>decide (kv.1=k))=true
 ·rw [if_pos e,if_pos e]; exact r.repl k ry
 ·rw [if_neg e,if_neg e]; exact Paired.snoc r ⟨rfl,ry⟩
theorem KV.drop {kvs:List (κ×V)} {vs:List (κ×Value)} (r:KV kvs vs) (k:κ):KV (dropK kvs k) (without vs k):=by
 unfold KV at r ⊢
 unfold dropK without
 induction r with
 | nil=>exact .nil
 | @cons p q ps qs h t ih =>
  obtain ⟨h1,h2⟩:=h
  rw [List.filter_cons,List.filter_cons]
  by_cases e:p.1=k
  ·have a:¬ decide (p.1≠k)=true:=by simp [e]
   have b:¬ decide (q.1≠k)=true:=by simp [h1.symm.trans e]
   rw [if_neg a,if_neg b]; exact ih
  ·have e':¬ q.1=k:=fun z=>e (h1.trans z)
   have a:decide (p.1≠k)=true:=by simp [e]
   have b:decide (q.1≠k)=true:=by simp [e']
   rw [if_pos a,if_pos b]; exact .cons ⟨h1,h2⟩ ih
theorem KV.keys {kvs:List (κ×V)} {vs:List (κ×Value)} (r:KV kvs vs):kvs.map (·.1)=vs.map (·.1):=by
 unfold KV at r
 induction r with
 | nil=>rfl
 | cons h t ih=>rw [List.map_cons,List.map_cons,ih,h.1]
theorem KV.length {kvs:List (κ×V)} {vs:List (κ×Value)} (r:KV kvs vs):kvs.length=vs.length:=Paired.length r
end
theorem kV_is {P:Program} {w:World} {k:Key} {u:Value} (r:RelV (kV k) u):(mixKind P w).is k u=true:=by
 cases k with
 | inl i=>obtain ⟨t,e⟩:=(show ∃ t,u=Value.int i t from r); subst e; exact mixKind_int P w i t
 | inr x=>obtain ⟨t,e⟩:=(show ∃ t,u=Value.str x t from r); subst e; exact mixKind_str P w x t
theorem items_are {P:Program} {w:World}:∀ {ks:List Key} {us:List Value},Vals (ks.map kV) us→ItemsAre (mixKind P w) ks us
 | [],_,r=>by rw [List.map_nil] at r; cases r; exact .nil
 | k::ks,_,r=>by
  rw [List.map_cons] at r
  cases r with
  | cons h t=>exact .cons (kV_is h) (items_are t)
abbrev KT (H:Hp):List (List Key×V)→List (List Key×Addr×Value)→Prop:=Paired fun p q=>p.1=q.1∧H q.2.1=some (.tup (p.1.map kV))∧RelV p.2 q.2.2
theorem KT.val {H:Hp} {kvs:List (List Key×V)} {xs:List (List Key×Addr×Value)} (r:KT H kvs xs) (k:List Key):RelO (valV kvs k) ((atKey xs k).map (·.2)):=by
 induction r with
 | nil=>exact True.intro
 | @cons p q ps qs h t ih =>
  obtain ⟨h1,_,h2⟩:=h
  by_cases e:p.1=k
  ·have e':q.1=k:=h1.symm.trans e
   have b:atKey (q::qs) k=some q.2:=by simp [atKey,List.find?_cons,e']
   rw [valV_pos e,b]; exact h2
  ·have e':¬ q.1=k:=fun z=>e (h1.trans z)
   have b:atKey (q::qs) k=atKey qs k:=by simp [atKey,List.find?_cons,e']
   rw [valV_neg e,b]; exact ih
theorem KT.repl {H:Hp} {kvs:List (List Key×V)} {xs:List (List Key×Addr×Value)} (r:KT H kvs xs) (k:List Key) {y:V} {u:Value} (ry:RelV y u) :
  KT H (kvs.map fun kv=>if kv.1=k then (kv.1,y) else kv) (xs.map (putAt k u)):=by
 induction r with
 | nil=>exact .nil
 | @cons p q ps qs h t ih =>
  rw [List.map_cons,List.map_cons]
  refine .cons ?_ ih
  obtain ⟨h1,h2,h3⟩:=h
  unfold putAt
  by_cases e:p.1=k
  ·rw [if_pos e,if_pos (h1.symm.trans e)]; exact ⟨h1,h2,ry⟩
  ·rw [if_neg e,if_neg (fun z=>e (h1.trans z))]; exact ⟨h1,h2,h3⟩
theorem KT.put {H:Hp} {kvs:List (List Key×V)} {xs:List (List Key×Addr×Value)} (r:KT H kvs xs) (k:List Key) {b:Addr} {y:V} {u:Value} (hb:H b=some (.tup (k.map kV))) (ry:RelV y u) :
  KT H (putK kvs k y) (storedH xs k b u):=by
 have e:(kvs.any fun kv=>decide (kv.1=k))=(atKey xs k).isSome:=by
  rw [valV_any,(r.val k).isSome_eq,Option.isSome_map]
 unfold putK storedH
 rw [e]
 by_cases q:(atKey xs k).isSome=true
 ·rw [if_pos q,if_pos q]; exact r.repl k ry
 ·rw [if_neg q,if_neg q]; exact Paired.snoc r ⟨rfl,hb,ry⟩
theorem KT.keeps {H H':Hp} {kvs:List (List Key×V)} {xs:List (List Key×Addr×Value)} (r:KT H kvs xs) (ht:∀ b ys,H b=some (.tup ys)→H' b=some (.tup ys)):KT H' kvs xs :=
 Paired.mapP r fun _ _ z=>⟨z.1,ht _ _ z.2.1,z.2.2⟩
section
variable {P:Program} {w:World} {H:Hp} {h:Heap} {a:Addr}
theorem rd_of {u:HO} (ok:HOk P w H h) (e:Rd H a u):ObjOk P w H h a u:=e.ok ok
theorem dk_rd {kvs:List (Key×V)} (ok:HOk P w H h) (e:Rd H a (.dK kvs)):kvs.length≤sizeLine∧(a == sysModules)=false∧∃ vs,KV kvs vs∧h.DictOf (mixKind P w) a vs :=
 show ObjOk P w H h a (.dK kvs) from rd_of ok e
theorem dk_of {kvs:List (Key×V)} (ok:HOk P w H h) (e:H a=some (.dK kvs)):kvs.length≤sizeLine∧(a == sysModules)=false∧∃ vs,KV kvs vs∧h.DictOf (mixKind P w) a vs:=dk_rd ok (.inl e)
theorem key_of {ks:List Key} (ok:HOk P w H h) (e:H a=some (.tup (ks.map kV))):(tupleKind (mixKind P w)).is h ks a:=by
 obtain ⟨_,its,r,o,h1,h2,n,h3⟩:=(show ObjOk P w H h a (.tup (ks.map kV)) from ok a _ e)
 exact ⟨o,its.toArray,n,h1,h2,h3,by simpa using items_are r⟩
theorem dt_rd {kvs:List (List Key×V)} (ok:HOk P w H h) (e:Rd H a (.dT kvs)):kvs.length≤sizeLine∧(a == sysModules)=false ∧
  ∃ xs,KT H kvs xs∧h.DictOfH (tupleKind (mixKind P w)) a xs:=by
 obtain ⟨z,y,xs,r,o,es,ep,h1,h2,h3,h4,h5⟩:=(show ObjOk P w H h a (.dT kvs) from rd_of ok e)
 refine ⟨z,y,xs,r,o,es,ep,h1,h2,h3,h4,fun x hx=>?_,h5⟩
 have all:∀ {l:List (List Key×V)} {m:List (List Key×Addr×Value)},KT H l m→∀ x∈m,(tupleKind (mixKind P w)).is h x.1 x.2.1:=by
  intro l m q
  induction q with
  | nil=>intro x hx; exact nomatch hx
  | @cons p q ps qs hq t ih =>
   intro x hx
   rcases List.mem_cons.mp hx with e | hx
   ·subst e
    exact key_of ok (by rw [← hq.1]; exact hq.2.1)
   ·exact ih x hx
 exact all r x hx
theorem dt_of {kvs:List (List Key×V)} (ok:HOk P w H h) (e:H a=some (.dT kvs)):kvs.length≤sizeLine∧(a == sysModules)=false ∧
  ∃ xs,KT H kvs xs∧h.DictOfH (tupleKind (mixKind P w)) a xs:=dt_rd ok (.inl e)
end
def DGet (H:Hp) (a:Addr) (y:V) (r:Option V):Prop :=
 (∃ kvs k,Rd H a (.dK kvs)∧y=kV k∧r=valV kvs k)∨∃ kvs k b,Rd H a (.dT kvs)∧y=.ref b∧H b=some (.tup (k.map kV))∧r=valV kvs k
def DPut (H:Hp) (a:Addr) (y v:V) (H':Hp):Prop :=
 (∃ kvs k,H a=some (.dK kvs)∧y=kV k∧kvs.length < sizeLine∧H'=upd H a (.dK (putK kvs k v))) ∨
 ∃ kvs k b,H a=some (.dT kvs)∧y=.ref b∧H b=some (.tup (k.map kV))∧kvs.length < sizeLine∧H'=upd H a (.dT (putK kvs k v))
theorem DGet.k {H:Hp} {a:Addr} {kvs:List (Key×V)} {k:Key} (e:H a=some (.dK kvs)):DGet H a (kV k) (valV kvs k):=.inl ⟨kvs,k,.inl e,rfl,rfl⟩
theorem DGet.t {H:Hp} {a b:Addr} {kvs:List (List Key×V)} {k:List Key} (e:H a=some (.dT kvs)) (eb:H b=some (.tup (k.map kV))):DGet H a (.ref b) (valV kvs k):=.inr ⟨kvs,k,b,.inl e,rfl,eb,rfl⟩
theorem DPut.k {H:Hp} {a:Addr} {kvs:List (Key×V)} {k:Key} {v:V} (e:H a=some (.dK kvs)) (hl:kvs.length < sizeLine):DPut H a (kV k) v (upd H a (.dK (putK kvs k v))):=.inl ⟨kvs,k,e,rfl,hl,rfl⟩
theorem DPut.t {H:Hp} {a b:Addr} {kvs:List (List Key×V)} {k:List Key} {v:V} (e:H a=some (.dT kvs)) (eb:H b=some (.tup (k.map kV))) (hl:kvs.length < sizeLine) :
  DPut H a (.ref b) v (upd H a (.dT (putK kvs k v))):=.inr ⟨kvs,k,b,e,rfl,eb,hl,rfl⟩
section
variable {X:Cx} {pins:List (Addr×Obj)} {σ:St} {H:Hp} {s:Shared} {a:Addr} {y v:V} {u r:Value} {o:Option V} {A:Around} {E:Value→Shared→Prop}
theorem Inv.big (I:Inv X pins σ H s):sysModules < s.heap.objs.size:=by
 have h:mainGlobals < s.heap.objs.size:=(I.mod.glob.keeps I.bk).lt
 exact Nat.lt_trans (by decide) h
theorem d_getItem {Q:Value→Shared→Prop} (hu:A.units+1 < cLine) (I:Inv X pins σ H s) (g:DGet H a y (some v)) (ry:RelV y u) (h:∀ w' s',Inv X pins σ H s'→RelV v w'→Q w' s') :
  wpAny (model X.prog X.w) A (getItem (.ref a) u) Q E s:=by
 rcases g with ⟨kvs,k,e,ey,l⟩ | ⟨kvs,k,b,e,ey,eb,l⟩
 ·subst ey
  obtain ⟨z,hd,vs,rel,dd⟩:=dk_rd I.hok e
  obtain ⟨w',hw,rw'⟩:=RelO.some_of (v:=v) (o:=valueAt vs k) (by rw [l]; exact rel.val k)
  exact wpAny_getItem_of (kV_is ry) dd.mapOf hw (h w' _ (I.tok _) rw')
 ·subst ey
  cases (show u=Value.ref b from ry)
  obtain ⟨z,hd,xs,rel,dd⟩:=dt_rd I.hok e
  obtain ⟨w',hw,rw'⟩:=RelO.some_of (v:=v) (o:=(atKey xs k).map (·.2)) (by rw [l]; exact rel.val k)
  obtain ⟨p,hp,hp2⟩:=Option.map_eq_some_iff.mp hw
  refine wpAny_getItem_heap (tupleKind_room_in1 hu) (key_of I.hok eb) dd hp ?_
  rw [hp2]
  exact h w' _ (I.tok _) rw'
theorem d_in {Q:Value→Shared→Prop} (hu:A.units+1 < cLine) (I:Inv X pins σ H s) (g:DGet H a y o) (ry:RelV y u) (h:∀ s',Inv X pins σ H s'→Q (.bool o.isSome) s') :
  wpAny (model X.prog X.w) A (compareOp .In u (.ref a)) Q E s:=by
 rcases g with ⟨kvs,k,e,ey,l⟩ | ⟨kvs,k,b,e,ey,eb,l⟩
 ·subst ey
  obtain ⟨z,hd,vs,rel,dd⟩:=dk_rd I.hok e
  refine wpAny_in_of (kV_is ry) hd dd.mapOf ?_
  rw [← (rel.val k).isSome_eq,← l]
  exact h _ (I.tok _)
 ·subst ey
  cases (show u=Value.ref b from ry)
  obtain ⟨z,hd,xs,rel,dd⟩:=dt_rd I.hok e
  refine wpAny_in_heap (tupleKind_room_in1 hu) (key_of I.hok eb) hd dd ?_
  have q:=(rel.val k).isSome_eq
  rw [Option.isSome_map] at q
  rw [← q,← l]
  exact h _ (I.tok _)
theorem d_notIn {Q:Value→Shared→Prop} (hu:A.units+1 < cLine) (I:Inv X pins σ H s) (g:DGet H a y o) (ry:RelV y u) (h:∀ s',Inv X pins σ H s'→Q (.bool (!o.isSome)) s') :
  wpAny (model X.prog X.w) A (compareOp .NotIn u (.ref a)) Q E s:=by
 rcases g with ⟨kvs,k,e,ey,l⟩ | ⟨kvs,k,b,e,ey,eb,l⟩
 ·subst ey
  obtain ⟨z,hd,vs,rel,dd⟩:=dk_rd I.hok e
  refine wpAny_notIn_of (kV_is ry) hd dd.mapOf ?_
  rw [← (rel.val k).isSome_eq,← l]
  exact h _ (I.tok _)
 ·subst ey
  cases (show u=Value.ref b from ry)
  obtain ⟨z,hd,xs,rel,dd⟩:=dt_rd I.hok e
  refine wpAny_notIn_heap (tupleKind_room_in1 hu) (key_of I.hok eb) hd dd ?_
  have q:=(rel.val k).isSome_eq
  rw [Option.isSome_map] at q
  rw [← q,← l]
  exact h _ (I.tok _)
theorem d_write {h':Heap} {t':Nat} {ob:HO} (I:Inv X pins σ H s) (mu:Mut (H a)) (hs:Heap.SameBut a s.heap h') (he:∃ q,h'.get? a=some q) (new:ObjOk X.prog X.w (upd H a ob) h' a ob) :
  Inv X pins σ (upd H a ob) { s with heap:=h',toks:=t' } :=
 I.write (x:=a) (e:=a) mu (.inl rfl) (fun b q hb z=>(hs.2 b hb).trans z) he new
theorem dk_new {P:Program} {w:World} {H':Hp} {h':Heap} {kvs:List (Key×V)} {vs:List (Key×Value)} (z:kvs.length≤sizeLine) (hd:(a == sysModules)=false) (rel:KV kvs vs) (dd:h'.DictOf (mixKind P w) a vs) :
  ObjOk P w H' h' a (.dK kvs):=⟨z,hd,vs,rel,dd⟩
theorem d_setItem {H':Hp} {Q:Unit→Shared→Prop} (hu:A.units+1 < cLine) (I:Inv X pins σ H s) (g:DPut H a y v H') (ry:RelV y u) (rv:RelV v r) (h:∀ s',Inv X pins σ H' s'→Q () s') :
  wpAny (model X.prog X.w) A (setItem (.ref a) u r) Q E s:=by
 rcases g with ⟨kvs,k,e,ey,l,eH⟩ | ⟨kvs,k,b,e,ey,eb,l,eH⟩
 ·subst ey eH
  obtain ⟨z,hd,vs,rel,dd⟩:=dk_of I.hok e
  have hz:vs.length≤sizeLine:=by rw [← rel.length]; exact z
  have hl:(putK kvs k v).length≤sizeLine:=by have:=length_putK kvs k v; omega
  refine wpAny_setItem_pairs (hsz:=hz) (kV_is ry) dd fun h' dd' hs=>h _ ?_
  have he:∃ q,h'.get? a=some q:=let ⟨q,_,_,hq,_⟩:=dd'; ⟨q,hq⟩
  exact d_write I (by rw [e]; exact True.intro) hs he (dk_new hl hd (rel.put k rv) dd')
 ·subst ey eH
  cases (show u=Value.ref b from ry)
  obtain ⟨z,hd,xs,rel,dd⟩:=dt_of I.hok e
  have hz:xs.length≤sizeLine:=by rw [← Paired.length rel]; exact z
  have hl:(putK kvs k v).length≤sizeLine:=by have:=length_putK kvs k v; omega
  refine wpAny_setItem_heap (hsz:=hz) (tupleKind_room_in1 hu) (key_of I.hok eb) dd fun h' dd' hs=>h _ ?_
  obtain ⟨q,es,ep,hq,h2,h3,h4,_,h5⟩:=dd'
  refine d_write I (by rw [e]; exact True.intro) hs ⟨q,hq⟩ ⟨hl,hd,_,(rel.put k eb rv).keeps fun c ys ec=>?_,q,es,ep,hq,h2,h3,h4,h5⟩
  rw [upd_ne (ne_of ec e (fun z=>nomatch z))]
  exact ec
end
section
variable {X:Cx} {pins:List (Addr×Obj)} {σ:St} {H:Hp} {s:Shared} {a:Addr} {kvs:List (Key×V)} {k:Key} {u:Value} {A:Around} {E:Value→Shared→Prop}
theorem d_len {Q:Value→Shared→Prop} (I:Inv X pins σ H s) (e:Rd H a (.dK kvs)) (h:∀ t s',Inv X pins σ H s'→Q (.int kvs.length t) s'):wpAny (model X.prog X.w) A (call (.builtin "len") [.ref a]) Q E s:=by
 obtain ⟨z,hd,vs,rel,dd⟩:=dk_rd I.hok e
 refine call_len_dict hd dd (by rw [← rel.length]; rw [sizeLine_eq] at z; omega) ?_
 rw [← rel.length]
 exact h _ _ (I.tok _)
end
def NoSl (i:Expr):Prop:=∀ ov iv,subscripted i false ov iv=operate [ov,iv] (getItem ov iv)
theorem subD_of {prog:Program} {w:World} {A:Around} {E:Value→Shared→Prop} {s:Shared} {env:Env} {value slice:Expr} {pos:Pos} {T id:String} {Q:Value→Shared→Prop}
  (hl:typeLookup (.type T) "__getitem__"=pure (some (.builtin id))) (hs:NoSl slice)
  (h:wpAny (model prog w) A (eval value env) (fun o s₁=>wpAny (model prog w) A (eval slice env) (fun i s₂=>s₂.TypeIs o T∧wpAny (model prog w) A (getItem o i) Q E s₂) E s₁) E s) :
  wpAny (model prog w) A (eval (.Subscript value slice pos) env) Q E s:=by
 refine Subscript_ (wpAny_mono h (fun o s₁ h₁=>wpAny_mono h₁ (fun i s₂ h₂=>?_) fun _ _ x=>x) fun _ _ x=>x)
 obtain ⟨hT,h₂⟩:=h₂
 unfold subscriptTail
 refine wpAny_bind ?_
 rw [getitemInPython_of_ne hT.not_modules]
 refine wpAny_bind (wpAny_specialOf hT hl ?_)
 have fin:wpAny (model prog w) A (subscripted slice false o i) (fun r s₃=>wpAny (model prog w) A (letTemporaryGo value o r >>= fun _=>pure r) Q E s₃) E s₂:=by
  rw [hs o i]
  exact wpAny_operating (wpAny_mono h₂ (fun r s₃ h₃=>wpAny_bind (wpAny_letTemporaryGo (wpAny_pure h₃))) fun _ _ x=>x)
 first
  | exact wpAny_pure (wpAny_bind fin)
  | exact wpAny_bind (wpAny_pure (wpAny_bind fin))
  | exact wpAny_bind fin
theorem dict_typeIs {X:Cx} {pins:List (Addr×Obj)} {σ:St} {H:Hp} {s:Shared} {a:Addr} {y:V} {o:Option V} (I:Inv X pins σ H s) (g:DGet H a y o):s.TypeIs (.ref a) "dict" := by
 rcases g with ⟨kvs,k,e,_,_⟩ | ⟨kvs,k,b,e,_,_,_⟩
 ·obtain ⟨_,_,vs,_,dd⟩:=dk_rd I.hok e
  exact dd.typeIs
 ·obtain ⟨_,_,xs,_,dd⟩:=dt_rd I.hok e
  exact dd.typeIs
def tDGet (td ty:TE):TE:=fun σ H Q=>td σ H fun x H1=>ty σ H1 fun y H2=>∃ a v,x=.ref a∧DGet H2 a y (some v)∧Q v H2
def tDIn (ty td:TE):TE:=fun σ H Q=>ty σ H fun y H1=>td σ H1 fun x H2=>∃ a o,x=.ref a∧DGet H2 a y o∧Q (.bl o.isSome) H2
def tDNotIn (ty td:TE):TE:=fun σ H Q=>ty σ H fun y H1=>td σ H1 fun x H2=>∃ a o,x=.ref a∧DGet H2 a y o∧Q (.bl (!o.isSome)) H2
def sDPut (td ty tv:TE):TS:=fun D σ H=>tv σ H fun v H1=>td σ H1 fun x H2=>ty σ H2 fun y H3=>∃ a H4,x=.ref a∧DPut H3 a y v H4∧D.nx σ H4
section
variable {X:Cx} {o i e value:Expr} {pos pos' tpos:Pos} {td ty tv:TE}
theorem pe_dget (hu:X.A.units+1 < cLine) (ho:PE X o td) (hi:PE X i ty) (hs:NoSl i):PE X (.Subscript o i pos) (tDGet td ty):=by
 intro pins s σ H Q I h
 refine subD_of PySem.F.slot_dict_getitem.lookup hs (thn (ho pins s σ H _ I h) fun u s1 ⟨x,H1,I1,rx,q1⟩=>thn (hi pins s1 σ H1 _ I1 q1) fun iv s2 ⟨y,H2,I2,ry,a,v,ex,g,q2⟩=>?_)
 subst ex
 obtain rfl:u=Value.ref a:=rx
 exact ⟨dict_typeIs I2 g,d_getItem hu I2 g ry fun w' s3 I3 rw'=>⟨v,H2,I3,rw',q2⟩⟩
theorem pc_din (hu:X.A.units+1 < cLine) (hi:PE X i ty) (ho:PE X o td):PC X .In i o (tDIn ty td):=by
 intro pins s σ H Q I h
 refine thn (hi pins s σ H _ I h) fun iv s1 ⟨y,H1,I1,ry,q1⟩=>thn (ho pins s1 σ H1 _ I1 q1) fun u s2 ⟨x,H2,I2,rx,a,ov,ex,g,q2⟩=>?_
 subst ex
 obtain rfl:u=Value.ref a:=rx
 exact d_in hu I2 g ry fun s3 I3=>⟨.bl ov.isSome,H2,I3,rfl,q2⟩
theorem pc_dnotin (hu:X.A.units+1 < cLine) (hi:PE X i ty) (ho:PE X o td):PC X .NotIn i o (tDNotIn ty td):=by
 intro pins s σ H Q I h
 refine thn (hi pins s σ H _ I h) fun iv s1 ⟨y,H1,I1,ry,q1⟩=>thn (ho pins s1 σ H1 _ I1 q1) fun u s2 ⟨x,H2,I2,rx,a,ov,ex,g,q2⟩=>?_
 subst ex
 obtain rfl:u=Value.ref a:=rx
 exact d_notIn hu I2 g ry fun s3 I3=>⟨.bl (!ov.isSome),H2,I3,rfl,q2⟩
theorem ps_dput (hu:X.A.units+1 < cLine) (ho:PE X o td) (hi:PE X i ty) (hv:PE X value tv) (hs:swapsWith value (some (.Subscript o i pos')) pos.line X.env=pure false) :
  PS X (.Assign [.Subscript o i pos'] value pos) (sDPut td ty tv):=by
 intro pins s σ H D I h
 refine wpAny_Assign_Subscript (thn (hv pins s σ H _ I h) fun r s1 ⟨v,H1,I1,rv,q1⟩=>thn (ho pins s1 σ H1 _ I1 q1) fun u s2 ⟨x,H2,I2,rx,q2⟩=>thn (hi pins s2 σ H2 _ I2 q2) fun iv s3 ⟨y,H3,I3,ry,a,H4,ex,g,q3⟩=>?_) hs
 subst ex
 obtain rfl:u=Value.ref a:=rx
 exact d_setItem hu I3 g ry rv fun s4 I4=>⟨σ,H4,I4,q3⟩
end
theorem dk_empty {P:Program} {w:World} {H:Hp} (h:Heap) (hb:sysModules < h.objs.size):ObjOk P w H (h.push { cls:=.type "dict",data:=.dict #[] }) h.objs.size (.dK []) :=
 ⟨Nat.zero_le _,beq_eq_false_iff_ne.mpr (Ne.symm (Nat.ne_of_lt hb)),[],.nil,Heap.DictOf.new h⟩
def tDNewK:TE:=fun _ H Q=>∀ p,H p=none→Q (.ref p) (upd H p (.dK []))
section
variable {X:Cx} {pos:Pos}
theorem pe_dnewK:PE X (.Dict [] [] pos) tDNewK:=fun pins s σ H Q I h =>
 wpAny_Dict_empty ⟨.ref s.heap.objs.size,_,I.laid (a:=s.heap.objs.size) (o:=.dK []) (t':=s.toks) (fun _ _ q=>Heap.get?_push_of_some _ q) (Nat.le_refl _) (dk_empty s.heap I.big),rfl,h _ (I.hok.fresh (Nat.le_refl _))⟩
end
def tPairs:List (TE×TE)→St→Hp→(List (V×V)→Hp→Prop)→Prop
 | [],_,H,Q=>Q [] H
 | (tk,tv)::r,σ,H,Q=>tk σ H fun x H1=>tv σ H1 fun y H2=>tPairs r σ H2 fun ps H3=>Q ((x,y)::ps) H3
abbrev VV:List (V×V)→List (Value×Value)→Prop:=Paired fun p q=>RelV p.1 q.1∧RelV p.2 q.2
def PPs (X:Cx) (pos:Pos) (keys:List (Option Expr)) (values:List Expr) (trs:List (TE×TE)):Prop :=
 ∀ (pins:List (Addr×Obj)) (s:Shared) (σ:St) (H:Hp) (Q:List (V×V)→Hp→Prop),Inv X pins σ H s→tPairs trs σ H Q →
  wpAny (model X.prog X.w) X.A (evalPairs (pairTrees keys values X.env pos)) (fun vs s'=>∃ ps H',Inv X pins σ H' s'∧VV ps vs∧Q ps H') X.xe s
theorem pps_nil {X:Cx} {pos:Pos}:PPs X pos [] [] []:=fun pins s σ H Q I h=>pairTrees_nil_walk ⟨[],H,I,.nil,h⟩
theorem pps_cons {X:Cx} {pos:Pos} {k v:Expr} {ks:List (Option Expr)} {vs:List Expr} {tk tv:TE} {trs:List (TE×TE)} (hk:PE X k tk) (hv:PE X v tv) (hr:PPs X pos ks vs trs) :
  PPs X pos (some k::ks) (v::vs) ((tk,tv)::trs):=fun pins s σ H Q I h =>
 pairTrees_cons_walk (thn (hk pins s σ H _ I h) fun u s1 ⟨x,H1,I1,rx,q1⟩=>thn (hv pins s1 σ H1 _ I1 q1) fun w2 s2 ⟨y,H2,I2,ry,q2⟩ =>
  thn (hr pins s2 σ H2 _ I2 q2) fun ws s3 ⟨ps,H3,I3,rel,q3⟩=>⟨(x,y)::ps,H3,I3,.cons ⟨rx,ry⟩ rel,q3⟩)
def mergeK (kvs more:List (Key×V)):List (Key×V):=more.foldl (fun acc kv=>putK acc kv.1 kv.2) kvs
theorem KV.merge:∀ {more:List (Key×V)} {rs:List (Key×Value)} {kvs:List (Key×V)} {vs:List (Key×Value)},KV more rs→KV kvs vs→KV (mergeK kvs more) (merged vs rs):=by
 intro more rs kvs vs r
 unfold KV at r
 induction r generalizing kvs vs with
 | nil=>intro q; exact q
 | @cons p q ps qs h t ih =>
  intro r0
  have e:KV (putK kvs p.1 p.2) (stored vs q.1 q.2):=by
   have:=r0.put p.1 h.2
   rw [← h.1]; exact this
  exact ih e
theorem length_mergeK:∀ (more kvs:List (Key×V)),(mergeK kvs more).length≤kvs.length+more.length
 | [],kvs=>by show kvs.length≤kvs.length+0; omega
 | p::r,kvs=>by
  have h1:=length_mergeK r (putK kvs p.1 p.2)
  have h2:=length_putK kvs p.1 p.2
  show (mergeK (putK kvs p.1 p.2) r).length≤_
  rw [List.length_cons]; omega
theorem carries_of {P:Program} {w:World}:∀ {kvs:List (Key×V)} {ws:List (Value×Value)},VV (kvs.map fun kv=>(kV kv.1,kv.2)) ws→∃ rs,Carries (mixKind P w) ws rs∧KV kvs rs
 | [],_,r=>by rw [List.map_nil] at r; cases r; exact ⟨[],True.intro,.nil⟩
 | p::kvs,_,r=>by
  rw [List.map_cons] at r
  cases r with
  | @cons a b as bs h t =>
   obtain ⟨rs,c,q⟩:=carries_of (P:=P) (w:=w) t
   obtain ⟨b1,b2⟩:=b
   exact ⟨(p.1,b2)::rs,⟨kV_is h.1,rfl,c⟩,.cons ⟨rfl,h.2⟩ q⟩
def tDisp (trs:List (TE×TE)):TE:=fun σ H Q=>∀ p,H p=none→tPairs trs σ (upd H p (.dK [])) fun ps H2=>H2 p=some (.dK [])∧∃ kvs:List (Key×V),ps=kvs.map (fun kv=>(kV kv.1,kv.2))∧kvs.length≤15∧Q (.ref p) (upd H2 p (.dK (mergeK [] kvs)))
theorem pe_disp {X:Cx} {pos:Pos} {keys:List (Option Expr)} {values:List Expr} {trs:List (TE×TE)} (h:PPs X pos keys values trs) (hall:keys.all (·.isSome)=true) (hl:keys.length=values.length) (h0:keys≠[])
  (h15:keys.length≤15):PE X (.Dict keys values pos) (tDisp trs):=by
 intro pins s σ H Q I q
 have hn:=I.hok.fresh (Nat.le_refl s.heap.objs.size)
 have I1:=I.laid (a:=s.heap.objs.size) (o:=.dK []) (h':=s.heap.push { cls:=.type "dict",data:=.dict #[] }) (t':=s.toks) (fun _ _ q=>Heap.get?_push_of_some _ q) (Nat.le_refl _) (dk_empty s.heap I.big)
 refine wpAny_Dict_walk (knd:=mixKind X.prog X.w) hall hl h0 h15 (thn (h pins _ σ _ _ I1 (q _ hn)) fun ws s2 ⟨ps,H2,I2,rel,e,kvs,ep,lk,q2⟩=>?_)
 subst ep
 obtain ⟨rs,c,rk⟩:=carries_of (P:=X.prog) (w:=X.w) rel
 obtain ⟨z,hd,vs0,r0,dd⟩:=dk_of I2.hok e
 cases r0
 refine ⟨rs,c,dd,fun h' dd' hs=>⟨.ref s.heap.objs.size,_,?_,rfl,q2⟩⟩
 have hz:(mergeK [] kvs).length≤sizeLine:=by
  have h1:=length_mergeK kvs []
  rw [List.length_nil] at h1
  rw [sizeLine_eq]; omega
 have he:∃ q,h'.get? s.heap.objs.size=some q:=let ⟨q,_,_,hq,_⟩:=dd'; ⟨q,hq⟩
 exact d_write I2 (by rw [e]; exact True.intro) hs he (dk_new hz hd (rk.merge .nil) dd')
structure M1 (X:Cx) (o:Expr) (m:Str) (apos:Pos) (e:Expr) (cpos:Pos):Prop where
 base:attributeBase o m X.env (eval o X.env)=eval o X.env
 few:((backTo cpos (starEach [e] X.env)).all (fun x=>!x.1) && (backToKw cpos (keywordEach [] X.env)).all (fun x=>x.1.isSome)
  && decide (([e]:List Expr).length+([]:List Keyword).length+(if ([]:List Keyword).isEmpty then 0 else 1) < 30))=true
 line:(apos.endLine == cpos.line)=true
 trees:backTo cpos (starEach [e] X.env)=[(false,eval e X.env)]
structure M2 (X:Cx) (o:Expr) (m:Str) (apos:Pos) (e f:Expr) (cpos:Pos):Prop where
 base:attributeBase o m X.env (eval o X.env)=eval o X.env
 few:((backTo cpos (starEach [e,f] X.env)).all (fun x=>!x.1) && (backToKw cpos (keywordEach [] X.env)).all (fun x=>x.1.isSome)
  && decide (([e,f]:List Expr).length+([]:List Keyword).length+(if ([]:List Keyword).isEmpty then 0 else 1) < 30))=true
 line:(apos.endLine == cpos.line)=true
 trees:backTo cpos (starEach [e,f] X.env)=[(false,eval e X.env),(false,eval f X.env)]
def IsD (H:Hp) (a:Addr):Prop:=(∃ kvs,Rd H a (.dK kvs))∨∃ kvs,Rd H a (.dT kvs)
theorem isD_at {X:Cx} {pins:List (Addr×Obj)} {σ:St} {H:Hp} {s:Shared} {a:Addr} (I:Inv X pins σ H s) (d:IsD H a) :
  s.TypeIs (.ref a) "dict" ∧ (∀ b,Value.ref a=.ref b→∃ ob,s.heap.get? b=some ob∧ob.dict=none)∧(a == sysModules)=false:=by
 rcases d with ⟨kvs,e⟩ | ⟨kvs,e⟩
 ·obtain ⟨_,hd,vs,_,dd⟩:=dk_rd I.hok e
  refine ⟨dd.typeIs,fun b q=>?_,hd⟩
  cases q
  obtain ⟨ob,_,_,h1,h2,_⟩:=dd
  exact ⟨ob,h1,h2.2.1⟩
 ·obtain ⟨_,hd,xs,_,dd⟩:=dt_rd I.hok e
  refine ⟨dd.typeIs,fun b q=>?_,hd⟩
  cases q
  obtain ⟨ob,_,_,h1,h2,_⟩:=dd
  exact ⟨ob,h1,h2.2.1⟩
section
variable {X:Cx} {pins:List (Addr×Obj)} {σ:St} {H:Hp} {s:Shared} {a:Addr} {y d:V} {u r:Value} {o:Option V} {A:Around} {E:Value→Shared→Prop}
theorem d_get2 {Q:Value→Shared→Prop} (hu:A.units+1 < cLine) (I:Inv X pins σ H s) (g:DGet H a y o) (ry:RelV y u) (rd:RelV d r) (h:∀ w' s',Inv X pins σ H s'→RelV (o.getD d) w'→Q w' s') :
  wpAny (model X.prog X.w) A (call (.builtin "dict.get") [.ref a,u,r]) Q E s:=by
 rcases g with ⟨kvs,k,e,ey,l⟩ | ⟨kvs,k,b,e,ey,eb,l⟩
 ·subst ey
  obtain ⟨z,hd,vs,rel,dd⟩:=dk_rd I.hok e
  refine call_meetsIn PySem.F.slot_dict_get dd.typeIs PySem.F.entry_dict_get (PySem.F.args_dict_get_3 _ _ _) (meets_dict_get_default (mixKind X.prog X.w) a (kV_is ry) hd r) ⟨_,dd.mapOf,h _ _ (I.tok _) ?_⟩
  rw [l]
  exact (rel.val k).getD rd
 ·subst ey
  cases (show u=Value.ref b from ry)
  obtain ⟨z,hd,xs,rel,dd⟩:=dt_rd I.hok e
  refine call_meetsIn PySem.F.slot_dict_get dd.typeIs PySem.F.entry_dict_get (PySem.F.args_dict_get_3 _ _ _) (meetsH_dict_get_default (tupleKind (mixKind X.prog X.w)) a b hd r) ⟨tupleKind_room_in1 hu,k,xs,key_of I.hok eb,dd,h _ _ (I.tok _) ?_⟩
  rw [l]
  exact (rel.val k).getD rd
end
def tDGet2 (td ty tx:TE):TE:=fun σ H Q=>td σ H fun x H1=>∃ a,x=.ref a∧IsD H1 a∧ty σ H1 fun y H2=>tx σ H2 fun z H3=>∃ o,DGet H3 a y o∧Q (o.getD z) H3
section
variable {X:Cx} {o e f:Expr} {apos cpos:Pos} {td ty tx:TE}
theorem pe_dget2 (hu:X.A.units+1 < cLine) (ho:PE X o td) (he:PE X e ty) (hf:PE X f tx) (m:M2 X o "get" apos e f cpos):PE X (.Call (.Attribute o "get" apos) [e,f] [] cpos) (tDGet2 td ty tx):=by
 intro pins s σ H Q I h
 refine wpAny_Call_method m.base m.few m.line PySem.F.plainAttrs_dict PySem.F.slot_dict_get PySem.F.type_dict_get (thn (ho pins s σ H _ I h) fun u s1 ⟨x,H1,I1,rx,a,ex,d,q1⟩=>?_)
 subst ex
 obtain rfl:u=Value.ref a:=rx
 obtain ⟨t1,t2,_⟩:=isD_at I1 d
 refine ⟨t1,t2,?_⟩
 rw [m.trees]
 refine Calls.callWith_builtin rfl (Calls.evalArgs_plain (Calls.spliced_cons (thn (he pins s1 σ H1 _ I1 q1) fun iv s2 ⟨y,H2,I2,ry,q2⟩ =>
  Calls.spliced_cons (thn (hf pins s2 σ H2 _ I2 q2) fun fv s3 ⟨z,H3,I3,rz,ov,g,q3⟩=>Calls.spliced_nil ?_))))
 exact d_get2 hu I3 g ry rz fun w' s4 I4 rw'=>⟨_,H3,I4,rw',q3⟩
end
section
variable {X:Cx} {pins:List (Addr×Obj)} {σ:St} {H:Hp} {s:Shared} {a:Addr} {kvs:List (Key×V)} {A:Around} {E:Value→Shared→Prop}
end
section
variable {X:Cx} {pins:List (Addr×Obj)} {σ:St} {H:Hp} {s:Shared} {a:Addr} {y:V} {u:Value} {A:Around} {E:Value→Shared→Prop}
end
end L2
namespace L2
open PySem
theorem lk_list_keys:typeLookup (.type "list") "keys"=pure none:=by rw [typeLookup_type,builtinLookup_eq_fast]; kernel_rfl
theorem lk_list_hook:typeLookup (.type "list") "__getattr__"=pure none:=by rw [typeLookup_type,builtinLookup_eq_fast]; kernel_rfl
section
variable {prog:Program} {w:World} {A:Around} {E:Value→Shared→Prop} {h:Heap} {g:Array GenState} {d:Drawn} {t:Nat} {os:OsState} {a:Addr} {o:Obj}
theorem sub_AE:isSubtype (.type "AttributeError") (.type "AttributeError")=pure true:=by rw [isSubtype_type]; kernel_rfl
theorem own_AE {m:Str} {tk:Tok}:ownMembersOf (.type "AttributeError") [.str m tk]=#[unsetMember,unsetMember]:=by kernel_rfl
theorem first_AE {m:Str} {tk:Tok}:firstArgMember (.type "AttributeError") [.str m tk]=pure .none:=by kernel_rfl
theorem raise_attr {α:Type} {self:Value} {name msg:Str} {Q:α→Shared→Prop} (hm:msg.length≤sizeLine) (hh:A.handled=none)
  (hq:∀ h' t' e oe,(∀ b o,h.get? b=some o→h'.get? b=some o)→h'.get? e=some oe→oe.cls=.type "AttributeError" → E (.ref e) ⟨h',g,d,t',os⟩) :
  wpAny (model prog w) A (raiseAttrError self name msg) Q E ⟨h,g,d,t,os⟩:=by
 have f1:=sub_AE
 unfold raiseAttrError newExc
 refine wpAny_bind (wpAny_mkStr ?_ hm)
 have fe:=first_AE (m:=msg) (tk:=t)
 rw [own_AE]
 repeat (any_goals (first | assumption | wp_step))
 unfold raiseNew
 refine wpAny_bind (wpAny_handled ?_)
 rw [hh]
 refine wpAny_bind (wpAny_pure ?_)
 refine wpAny_throw ?_
 refine hq _ _ _ _ (fun b o q=>?_) (Heap.get?_update_self _ (Heap.get?_push_size _ rfl) rfl) rfl
 have lt:=Heap.lt_size q
 rw [Heap.get?_update_other _ _ (by rw [Heap.size_push]; exact Nat.ne_of_gt (Nat.lt_succ_of_lt lt))]
 exact Heap.get?_push_of_some _ (Heap.get?_push_of_some _ q)
theorem keys_entry {tk:Tok} {its:Array Value} {n:Nat} {Q:Fin→Shared→Prop} (hx:h.get? a=some { cls:=.type "list",data:=.seq its n }) (hh:A.handled=none)
  (hq:∀ h' t' e oe,(∀ b o,h.get? b=some o→h'.get? b=some o)→h'.get? e=some oe→oe.cls=.type "AttributeError" → E (.ref e) ⟨h',g,d,t',os⟩) :
  wpAny (model prog w) A (Builtin.«object.__getattribute__» ⟨[.ref a,.str "keys" tk],[]⟩) Q E ⟨h,g,d,t,os⟩:=by
 have hT:(⟨h,g,d,t,os⟩:Shared).TypeIs (.ref a) "list" := ⟨_,hx,rfl⟩
 have f4:=lk_list_keys
 repeat (any_goals (first | assumption | wp_step))
 exact raise_attr (by decide +kernel) hh hq
theorem keys_none {its:Array Value} {n:Nat} {Q:Option Value→Shared→Prop} (hx:h.get? a=some { cls:=.type "list",data:=.seq its n }) (hh:A.handled=none)
  (hq:∀ h' t',(∀ b o,h.get? b=some o→h'.get? b=some o)→Q none ⟨h',g,d,t',os⟩):wpAny (model prog w) A (getAttr? (.ref a) "keys") Q E ⟨h,g,d,t,os⟩:=by
 have hT:∀ t',(⟨h,g,d,t',os⟩:Shared).TypeIs (.ref a) "list" := fun t'=>⟨_,hx,rfl⟩
 have f1:=sub_AE
 have f2:=F.slot_list_getattribute.lookup
 have f3:=F.slot_list_getattribute.bind (.ref a)
 have f4:=lk_list_hook
 unfold getAttr? getAttrBy? getAttrBy
 refine wpAny_bind (wpAny_mkText (wpAny_bind (wpAny_attempt (wpAny_holding (wpAny_bind (wpAny_typeOf (hT _) ?_))))))
 rw [f2]
 refine wpAny_bind (wpAny_pure ?_)
 show wpAny _ _ (getAttrByItsOwn _ _ _ _ _ _) _ _ _
 unfold getAttrByItsOwn
 refine wpAny_bind (wpAny_pure (a:=none) (wpAny_bind (wpAny_attempt (wpAny_holding ?_))))
 show wpAny _ _ (boundAndCalled _ _ _) _ _ _
 unfold boundAndCalled
 rw [f3]
 refine wpAny_bind (wpAny_pure (wpAny_call (codeAny_call_builtin F.slot_list_getattribute.plain F.entry_list_ga (F.slot_list_getattribute.check _ _ _ _ _ _ _ _ (hT _) (F.args_list_getattribute_2 _ _) (keys_entry hx hh fun h' t' e oe k ee ec=>?_)))))
 have te:(⟨h',g,d,t',os⟩:Shared).TypeIs (.ref e) "AttributeError" := ⟨oe,ee,ec⟩
 show wpAny _ _ (getattributeRaised _ _ _ _ _ _ _) _ _ _
 unfold getattributeRaised
 refine wpAny_bind (wpAny_isInstance te f1 ?_)
 rw [if_pos rfl]
 show wpAny _ _ (typeLookup _ _ >>= _) _ _ _
 rw [f4]
 refine wpAny_bind (wpAny_pure ?_)
 show wpAny _ _ (throw _) _ _ _
 refine wpAny_throw ?_
 refine wpAny_bind (wpAny_isInstance te f1 ?_)
 rw [if_pos rfl]
 exact wpAny_pure (hq h' t' k)
end
end L2
namespace L2
open PySem
theorem plain_dul:plainId "dict.update.loop"=true:=by decide +kernel
theorem entry_dul:entryFor table "dict.update.loop"=some Builtin.«dict.update.loop»:=entryFor_of_tree (by kernel_rfl)
section
variable {prog:Program} {w:World} {K:Type} [DecidableEq K] {knd:KeyKind prog w K} {A:Around} {E:Value→Shared→Prop}
def PairAt (knd:KeyKind prog w K) (h:Heap) (u:Value) (kv:K×Value):Prop :=
 ∃ t key n o,u=.ref t∧knd.is kv.1 key=true∧h.get? t=some o∧o.cls=.type "tuple" ∧ o.data=.seq #[key,kv.2] n
theorem PairAt.keep {h h':Heap} {u:Value} {kv:K×Value} (p:PairAt knd h u kv) (k:∀ b o,o.cls=.type "tuple" → h.get? b=some o→h'.get? b=some o):PairAt knd h' u kv :=
 let ⟨t,key,n,o,a,b,c,d,e⟩:=p; ⟨t,key,n,o,a,b,k t o d c,d,e⟩
theorem dul_go {R:Result→Shared→Prop} {d it l:Addr} {items:Array Value} (hh:A.handled=none):∀ (more:List (K×Value)) (i:Nat) (s:Shared) (kvs:List (K×Value)) (j:Int) (tk:Tok),items.size=i+more.length →
  s.heap.DictOf knd d kvs→s.heap.IsListIter it l i→s.heap.IsList l items→(∀ m kv,more[m]?=some kv→∃ u,items[i+m]?=some u∧PairAt knd s.heap u kv)→kvs.length+more.length≤sizeLine →
  (∀ h' t',h'.DictOf knd d (more.foldl (fun a p=>stored a p.1 p.2) kvs)→(∀ b o,b≠d→b≠it→s.heap.get? b=some o→h'.get? b=some o)→R (.ok (.ret .none)) { s with heap:=h',toks:=t' }) →
  codeAny (model prog w) A (.builtin "dict.update.loop" ⟨[.ref d,.ref it,.int j tk,.none],[]⟩) R s:=by
 intro more
 induction more with
 | nil =>
  intro i s kvs j tk hi hd hit hl hp hz hR
  refine codeAny_builtin entry_dul ?_
  rw [Around.under_plainId plain_dul _]
  unfold Builtin.«dict.update.loop»
  have hs:items[i]?=none:=Array.getElem?_eq_none (by rw [hi]; exact Nat.le_refl _)
  refine wpAny_bind (wpAny_pyNext_list_end hh hit hl hs fun h1 eb=>?_)
  have nd:d≠it:=fun z=>by
   obtain ⟨o,_,_,q,_,c,_⟩:=hd
   obtain ⟨o',q',_,c'⟩:=hit
   rw [z,q'] at q; cases q; rw [c'] at c; cases c
  show wpAny _ _ (Builtin.Dict.addKeywords d [] >>= _) _ _ _
  exact wpAny_bind (wpAny_pure (wpAny_pure (hR h1 s.toks (hd.extBut eb nd) fun b o n1 n2 q=>eb b o n2 q)))
 | cons kv more ih =>
  intro i s kvs j tk hi hd hit hl hp hz hR
  refine codeAny_builtin entry_dul ?_
  rw [Around.under_plainId plain_dul _]
  unfold Builtin.«dict.update.loop»
  obtain ⟨u,hu,t,key,n,o,rfl,hk,ho,hc,hdt⟩:=hp 0 kv rfl
  refine wpAny_bind (wpAny_pyNext_list_item hit hl hu fun h1 it1 sb=>?_)
  have nd:d≠it:=fun z=>by
   obtain ⟨o,_,_,q,_,c,_⟩:=hd
   obtain ⟨o',q',_,c'⟩:=hit
   rw [z,q'] at q; cases q; rw [c'] at c; cases c
  have n2:∀ b o,(o.cls=.type "tuple" ∨ o.cls=.type "list")→s.heap.get? b=some o→b≠d∧b≠it:=by
   intro b o c q
   constructor
   ·intro z
    obtain ⟨o',q',c'⟩:=hd.typeIs
    rw [z,q'] at q; cases q; rw [c'] at c; rcases c with c | c <;> exact absurd c (by decide)
   ·intro z
    obtain ⟨o',q',c',_⟩:=hit
    rw [z,q'] at q; cases q; rw [c'] at c; rcases c with c | c <;> exact absurd c (by decide)
  have nt:∀ b o,o.cls=.type "tuple" → s.heap.get? b=some o→b≠d∧b≠it:=fun b o c q=>n2 b o (.inl c) q
  have nl:l≠d∧l≠it:=by
   obtain ⟨o,q,c,_⟩:=hl
   exact n2 l o (.inr c) q
  have ho1:h1.get? t=some o:=(sb.2 t (nt t o hc ho).2).trans ho
  have hd1:h1.DictOf knd d kvs:=hd.sameBut sb nd
  refine wpAny_bind (wpAny_holding (wpAny_bind (wpAny_tryCatch ?_)))
  unfold Builtin.Dict.pairItems
  refine wpAny_bind (wpAny_typeOf (T := "tuple") ⟨o,ho1,hc⟩ ?_)
  rw [if_pos (by decide)]
  refine wpAny_bind (wpAny_seqItems ho1 hdt (wpAny_pure ?_))
  show wpAny _ _ (holding [key,kv.2] (dictSet d key kv.2)) _ _ _
  rw [List.length_cons] at hz hi
  refine wpAny_holding (wpAny_dictSet_pairs (s:={ s with heap:=h1 }) hk hd1 (fun h2 hd2 sb2=>?_) (by omega))
  have kk:∀ b o,b≠d→b≠it→s.heap.get? b=some o→h2.get? b=some o:=fun b o n1 n2 q=>(sb2.2 b n1).trans ((sb.2 b n2).trans q)
  have ln:(stored kvs kv.1 kv.2).length≤kvs.length+1:=by
   unfold stored
   split
   ·simp
   ·simp
  refine wpAny_pure ⟨plainId_quiet plain_dul _,ih (i+1) _ _ _ _ (by omega) hd2 (it1.at fun o q=>(sb2.2 it (Ne.symm nd)).trans q) (hl.at fun o q=>kk l o nl.1 nl.2 q) (fun m kv' e=>?_) (by omega) fun h3 t3 hd3 k3=>?_⟩
  ·obtain ⟨u',e1,e2⟩:=hp (m+1) kv' e
   exact ⟨u',by rw [← e1]; congr 1; omega,e2.keep fun b o c q=>kk b o (nt b o c q).1 (nt b o c q).2 q⟩
  ·exact hR h3 t3 hd3 fun b o n1 n2 q=>k3 b o n1 n2 (kk b o n1 n2 q)
theorem sub_ld:(Value.type "list" != Value.type "dict")=true:=by decide
theorem call_dict_list {s:Shared} {l:Addr} {items:Array Value} {n:Nat} {more:List (K×Value)} {Q:Value→Shared→Prop} (knd:KeyKind prog w K) (hh:A.handled=none) (hx:s.heap.get? l=some { cls:=.type "list",data:=.seq items n })
  (hi:items.size=more.length) (hp:∀ (m:Nat) kv,more[m]?=some kv→∃ u,items[m]?=some u∧PairAt knd s.heap u kv) (hz:more.length≤sizeLine)
  (h:∀ h' t',h'.DictOf knd s.heap.objs.size (more.foldl (fun a p=>stored a p.1 p.2) [])→(∀ b o,s.heap.get? b=some o→h'.get? b=some o)→Q (.ref s.heap.objs.size) { s with heap:=h',toks:=t' }) :
  wpAny (model prog w) A (call (.type "dict") [.ref l]) Q E s:=by
 refine callType_codes (Q₁:=fun obj s₁=>obj=.ref s.heap.objs.size∧s₁={ s with heap:=s.heap.push { cls:=.type "dict",data:=.dict #[] } }) F.kt_called_dict (F.kt_typeCall_dict_1 _) F.entry_dict_init (kt_code_dict_new _ ⟨rfl,rfl⟩) ?_
 rintro obj s₁ ⟨rfl,rfl⟩
 have new0:(s.heap.push { cls:=.type "dict",data:=.dict #[] }).DictOf knd s.heap.objs.size []:=Heap.DictOf.new s.heap
 have l0:=Heap.get?_push_of_some { cls:=.type "dict",data:=.dict #[] } hx
 refine ⟨new0.typeIs,F.args_dict_init_2 _ _,?_⟩
 unfold Builtin.«dict.__init__» Builtin.Dict.selfAndRest
 refine wpAny_bind (wpAny_bind (wpAny_notOrdered_dict new0.typeIs (wpAny_pure ?_)))
 show wpAny _ _ (Builtin.Dict.updateFrom "dict.__init__" s.heap.objs.size (.ref l) [] .none) _ _ _
 unfold Builtin.Dict.updateFrom
 refine wpAny_bind (wpAny_typeOf (T := "list") ⟨_,l0,rfl⟩ ?_)
 rw [if_pos sub_ld]
 refine wpAny_bind (keys_none l0 hh fun h1 t1 k1=>?_)
 refine wpAny_bind (wpAny_rule ?_)
 have l1:=k1 _ _ l0
 refine wpAny_bind (wpAny_pyIter_list ⟨_,l1,rfl,_,rfl⟩ ?_)
 have k2:∀ b o,s.heap.get? b=some o→(h1.push { cls:=.type "list_iterator",data:=.fields #[.ref l,.int 0 0] }).get? b=some o:=fun b o q=>Heap.get?_push_of_some _ (k1 _ _ (Heap.get?_push_of_some _ q))
 refine wpAny_pure ⟨plainId_quiet plain_dul _,dul_go (knd:=knd) (A:=A.in1) (l:=l) (items:=items) (show A.in1.handled=none from hh) more 0 _ [] _ _ (by rw [hi,Nat.zero_add]) ?_ ⟨_,Heap.get?_push_size _ rfl,rfl,rfl⟩ ⟨_,k2 _ _ hx,rfl,n,rfl⟩ (fun m kv e=>?_) (by simpa using hz) fun h' t' hd k3=>?_⟩
 ·obtain ⟨o,es,ep,q,r⟩:=new0
  exact ⟨o,es,ep,Heap.get?_push_of_some _ (k1 _ _ q),r⟩
 ·obtain ⟨u,e1,e2⟩:=hp m kv e
  exact ⟨u,by rw [Nat.zero_add]; exact e1,e2.keep fun b o _ q=>k2 b o q⟩
 ·refine ⟨rfl,h h' t' hd fun b o q=>k3 b o (Nat.ne_of_lt (Heap.lt_size q)) ?_ (k2 b o q)⟩
  have:=Heap.lt_size (k1 _ _ (Heap.get?_push_of_some { cls:=.type "dict",data:=.dict #[] } q))
  exact Nat.ne_of_lt this
end
end L2
namespace L2
open PySem PySem.Spec PyProof.Rows
def fillK (kvs acc:List (Key×V)):List (Key×V):=kvs.foldl (fun a p=>putK a p.1 p.2) acc
theorem fill_rel:∀ {kvs:List (Key×V)} {vs:List (Key×Value)} {acc:List (Key×V)} {accv:List (Key×Value)},KV kvs vs→KV acc accv→KV (fillK kvs acc) (vs.foldl (fun a p=>stored a p.1 p.2) accv)
 | _,_,_,_,.nil,h=>h
 | _,_,_,_,.cons (a:=p) (b:=q) r t,h=>by
  obtain ⟨e,rv⟩:=r
  show KV (fillK _ (putK _ p.1 p.2)) (List.foldl _ (stored _ q.1 q.2) _)
  rw [← e]
  exact fill_rel t (h.put p.1 rv)
theorem fill_len:∀ (kvs acc:List (Key×V)),(fillK kvs acc).length≤acc.length+kvs.length
 | [],acc=>by simp [fillK]
 | p::r,acc=>by
  have:=fill_len r (putK acc p.1 p.2)
  have:=length_putK acc p.1 p.2
  show (fillK r (putK acc p.1 p.2)).length≤_
  rw [List.length_cons]
  omega
section
variable {X:Cx} {pins:List (Addr×Obj)} {σ:St} {H:Hp} {s:Shared}
theorem pairs_at (I:Inv X pins σ H s):∀ {ts:List Addr} {kvs:List (Key×V)} {its:List Value},Paired (fun t kv=>SqT X.K H t [kV kv.1,kv.2]) ts kvs→Vals (ts.map V.ref) its →
  ∃ vs:List (Key×Value),KV kvs vs∧Paired (fun u kv=>PairAt (mixKind X.prog X.w) s.heap u kv) its vs
 | [],_,_,.nil,r=>by
  rw [List.map_nil] at r
  cases r
  exact ⟨[],.nil,.nil⟩
 | t::ts,kv::kvs,_,.cons h p,r=>by
  rw [List.map_cons] at r
  cases r with
  | cons r1 r2 =>
   obtain ⟨vs,e1,e2⟩:=pairs_at I p r2
   obtain ⟨its,rv,⟨o,h1,h2,n,h3⟩,_⟩:=I.tuple h
   obtain ⟨u1,u2,rfl,q1,q2⟩:=vals2 rv
   exact ⟨(kv.1,u2)::vs,.cons ⟨rfl,q2⟩ e1,.cons ⟨t,u1,n,o,r1,kV_is q1,h1,h2,h3⟩ e2⟩
theorem Paired.at_ {α β:Type} {F:α→β→Prop}:∀ {xs:List α} {ys:List β},Paired F xs ys→∀ (m:Nat) (y:β),ys[m]?=some y→∃ x,xs[m]?=some x∧F x y
 | _,_,.nil,m,y,e=>by cases m <;> cases e
 | _,_,.cons h t,0,y,e=>by cases e; exact ⟨_,rfl,h⟩
 | _,_,.cons h t,m+1,y,e=>Paired.at_ t m y e
theorem call_dictP (hc:X.calm=true):CallR X (.type "dict") (fun xs H Q=>∃ a ts kvs,xs=[.ref a]∧H a=some (.lst (ts.map V.ref))∧Paired (fun t kv=>SqT X.K H t [kV kv.1,kv.2]) ts kvs∧∀ d,H d=none→Q (.ref d) (upd H d (.dK (fillK kvs [])))):=by
 intro pins s σ H xs us Q I r h
 obtain ⟨a,ts,kvs,rfl,e,p,q⟩:=h
 obtain ⟨u,rfl,rx⟩:=vals1 r
 cases (show u=Value.ref a from rx)
 obtain ⟨z,its,n,rv,ho⟩:=(show ObjOk X.prog X.w H s.heap a (.lst _) from I.hok a _ e)
 obtain ⟨vs,r1,r2⟩:=pairs_at I p rv
 have l1:=Paired.length r2
 have l2:=r1.length
 have l3:=Paired.length p
 rw [List.length_map] at z
 refine call_dict_list (mixKind X.prog X.w) (I.ok.hd hc) ho (by simpa using l1) (fun m kv em=>?_) (by omega) fun h' t' hd kk=>?_
 ·obtain ⟨u,e1,e2⟩:=Paired.at_ r2 m kv em
  exact ⟨u,by simpa using e1,e2⟩
 ·have new:ObjOk X.prog X.w (upd H s.heap.objs.size (.dK (fillK kvs []))) h' s.heap.objs.size (.dK (fillK kvs [])):=by
   refine dk_new ?_ ?_ (fill_rel r1 .nil) hd
   ·have:=fill_len kvs []
    simp at this
    omega
   ·have:=I.big
    exact beq_eq_false_iff_ne.mpr (Nat.ne_of_gt this)
  exact ⟨.ref s.heap.objs.size,_,I.laid (t':=t') kk (Nat.le_refl _) new,rfl,q _ (I.hok.fresh (Nat.le_refl _))⟩
theorem paired_of {α β:Type} {F:α→β→Prop}:∀ {xs:List α} {ys:List β},xs.length=ys.length→(∀ (j:Nat) x y,xs[j]?=some x→ys[j]?=some y→F x y)→Paired F xs ys
 | [],[],_,_=>.nil
 | [],_::_,e,_=>by cases e
 | _::_,[],e,_=>by cases e
 | x::xs,y::ys,e,h=>.cons (h 0 x y rfl rfl) (paired_of (Nat.succ.inj e) fun j a b e1 e2=>h (j+1) a b e1 e2)
theorem is_kV {P:Program} {w:World} {k:Key} {u:Value} (h:(mixKind P w).is k u=true):RelV (kV k) u:=by
 rcases keyIs_shape (show keyIs k u=true from h) with ⟨i,t,rfl,rfl⟩ | ⟨x,t,rfl,rfl⟩
 ·exact ⟨t,rfl⟩
 ·exact ⟨t,rfl⟩
theorem call_listD (hc:X.calm=true):CallR X (.type "list") (fun xs H Q=>∃ a kvs,xs=[.ref a]∧H a=some (.dK kvs)∧∀ D,H D=none→Q (.ref D) (upd H D (.lst (kvs.map fun p=>kV p.1)))):=by
 intro pins s σ H xs us Q I r h
 obtain ⟨a,kvs,rfl,e,q⟩:=h
 obtain ⟨u,rfl,rx⟩:=vals1 r
 cases (show u=Value.ref a from rx)
 obtain ⟨z,hs,vs,rel,dd⟩:=dk_of I.hok e
 obtain ⟨o,es,ep,d1,d2,d3,d4⟩:=dd
 have l1:=rel.length
 refine PySem.W.kdl_call (PySem.W.kdl_dict (knd:=mixKind X.prog X.w) (kvs:=vs) (ep:=ep) hs) (I.ok.hd hc) ⟨o,es,d1,d2,d3,d4⟩ (by omega) fun h' tk acc c kk hD hacc=>?_
 have keys:=rel.keys
 have vals:Vals (kvs.map fun p=>kV p.1) acc.toList:=by
  refine paired_of (by have h1:=hacc.1; simp only [List.length_map,Array.length_toList]; omega) fun j x y e1 e2=>?_
  rw [Array.getElem?_toList] at e2
  obtain ⟨k,v,e3,e4⟩:=hacc.2 j y e2
  rw [List.getElem?_map] at e1
  obtain ⟨p,e5,rfl⟩:=Option.map_eq_some_iff.mp e1
  have e6:(kvs.map (·.1))[j]?=some p.1:=by rw [List.getElem?_map,e5]; rfl
  rw [keys,List.getElem?_map,e3] at e6
  cases e6
  exact is_kV e4
 have new:ObjOk X.prog X.w (upd H s.heap.objs.size (.lst (kvs.map fun p=>kV p.1))) h' s.heap.objs.size (.lst (kvs.map fun p=>kV p.1)):=⟨by rw [List.length_map]; exact z,acc.toList,c,vals,by simpa using hD⟩
 exact ⟨.ref s.heap.objs.size,_,I.laid (t':=tk) kk (Nat.le_refl _) new,rfl,q _ (I.hok.fresh (Nat.le_refl _))⟩
end
end L2
namespace L2
open PySem PySem.Spec PyProof.Rows
def PlainV (v:V):Prop:=flatV v=true∨∃ r,v=.ref r
theorem eqV_self {x:V} (h:flatV x=true):eqV x x=true:=by
 cases x with
 | non=>rfl
 | bl b=>exact beq_self_eq_true b
 | int i=>exact beq_self_eq_true i
 | str z=>exact beq_self_eq_true z
 | _=>cases h
theorem eq_at_self {A:Around} {s:Shared} {x:V} {u v:Value} (h:PlainV x) (ru:RelV x u) (rv:RelV x v):SeqAt.EqAt A s u v true:=by
 rcases h with h | ⟨r,rfl⟩
 ·have q:=eqAt_V (A:=A) (s:=s) ru rv h h
  rw [eqV_self h] at q
  exact q
 ·cases (show u=Value.ref r from ru)
  cases (show v=Value.ref r from rv)
  exact .same _
theorem items_same {A:Around} {s:Shared} {xs:List V} {its its2:List Value} (r:Vals xs its) (r2:Vals xs its2) (hx:∀ v∈xs,PlainV v) (j:Nat) (h1:j < its.toArray.size) (h2:j < its2.toArray.size) :
  SeqAt.EqAt A s its.toArray[j] its2.toArray[j] true:=by
 have l1:=r.length
 have k1:j < its.length:=by simpa using h1
 have k2:j < its2.length:=by simpa using h2
 have g1:xs[j]?=some (xs[j]'(by omega)):=List.getElem?_eq_getElem (by omega)
 obtain ⟨u1,e1,q1⟩:=r.get g1
 obtain ⟨u2,e2,q2⟩:=r2.get g1
 have f1:its.toArray[j]=u1:=by
  have:=(List.getElem?_eq_some_iff.mp e1).2
  simpa using this
 have f2:its2.toArray[j]=u2:=by
  have:=(List.getElem?_eq_some_iff.mp e2).2
  simpa using this
 rw [f1,f2]
 exact eq_at_self (hx _ (List.getElem_mem _)) q1 q2
def rSame (K:PySem.W.Frag) (b:Bool):V→V→Hp→VK→Prop:=fun x y H Q=>∃ p q xs,x=.ref p∧y=.ref q∧SqL K H p xs∧SqL K H q xs∧(∀ v∈xs,PlainV v)∧Q (.bl b) H
theorem op_eq_same {X:Cx} (hu:X.A.units < cLine):OpR X (compareOp .Eq) (rSame X.K true):=by
 intro pins s σ H x y v u Q I rx ry h
 obtain ⟨a,b,xs,rfl,rfl,ha,hb,hx,q⟩:=h
 cases rx
 cases ry
 obtain ⟨its,r,pl,hz⟩:=I.list ha
 obtain ⟨its2,r2,pl2,hz2⟩:=I.list hb
 have l1:=r.length
 have l2:=r2.length
 refine SeqAt.eq_listAt (e:=fun _=>true) pl.isList pl2.isList (by simp only [List.size_toArray]; omega) hu (fun j h1 h2=>items_same r r2 hx j h1 h2) ?_
 have e:((List.range its.toArray.size).all fun _=>true)=true:=by simp
 rw [e]
 exact ⟨.bl true,H,I,rfl,q⟩
theorem call_allT {X:Cx} (hc:X.calm=true):CallR X (.builtin "all") (fun xs H Q=>∃ a n,xs=[.ref a]∧SqL X.K H a (List.replicate n (V.bl true))∧Q (.bl true) H):=by
 intro pins s σ H xs us Q I r h
 obtain ⟨a,n,rfl,hq,q⟩:=h
 obtain ⟨u,rfl,rx⟩:=vals1 r
 cases (show u=Value.ref a from rx)
 obtain ⟨its,rv,pl,hz⟩:=I.list hq
 obtain ⟨o,h1,h2,m,h3⟩:=id pl.isList
 have la:a < s.heap.objs.size:=Heap.lt_size h1
 have allT:∀ (i:Nat) v,its.toArray[i]?=some v→v=.bool true:=fun i v e=>by
  have e':its[i]?=some v:=by simpa using e
  obtain ⟨x,e2,e3⟩:=Paired.at_ rv i v e'
  rw [List.getElem?_replicate] at e2
  split at e2
  ·cases e2; exact e3
  ·cases e2
 refine call_all_walk (wpAny_pyIter_list pl.isList ?_)
 refine ⟨s.heap.objs.size,_,_,_,_,_,fun _=>true,rfl,Walks.list (A:=X.A.in1) (show X.A.in1.handled=none from I.ok.hd hc) s.heap.objs.size a (Nat.ne_of_lt la) its.toArray,⟨⟨_,Heap.get?_push_size _ rfl,rfl,rfl⟩,⟨o,Heap.get?_push_of_some _ h1,h2,m,h3⟩⟩,?_,fun h' tk kk=>?_⟩
 ·intro i v s1 Q1 E1 hP hQ1
  rw [allT i v hP]
  exact wpAny_truthy_bool hQ1
 ·have e:((List.range its.toArray.size).all fun _=>true)=true:=by simp
  rw [e]
  exact ⟨.bl true,H,I.kept (t':=tk) fun b o' e'=>kk b o' (by simp; exact Nat.ne_of_lt (Heap.lt_size e')) (Heap.get?_push_of_some _ e'),rfl,q⟩
theorem strs_of:∀ {ts:List Str} {its:List Value},Vals (ts.map V.str) its→StrsAre its ts
 | [],_,r=>by rw [List.map_nil] at r; cases r; exact .nil
 | z::ts,_,r=>by
  rw [List.map_cons] at r
  cases r with
  | cons h t =>
   obtain ⟨tk,e⟩:=(show ∃ tk,_=Value.str z tk from h)
   subst e
   exact .cons z tk (strs_of t)
def rJoin (K:PySem.W.Frag):V→List V→Hp→VK→Prop:=fun x vs H Q=>∃ z a ts,x=.str z∧vs=[.ref a]∧SqL K H a (ts.map V.str)∧(ts.map (·.length)).sum+ts.length * z.length≤16777216∧Q (.str (Txt.join z ts)) H
theorem mt_join {X:Cx}:MtM X "str.join" (rJoin X.K):=by
 intro pins s σ H x vs v us Q I rx rv h
 obtain ⟨z,a,ts,rfl,rfl,hq,hz,q⟩:=h
 obtain ⟨t,rfl⟩:=rx
 obtain ⟨u,rfl,ru⟩:=rv.one
 cases (show u=Value.ref a from ru)
 obtain ⟨its,r,pl,_⟩:=I.list hq
 exact join_list pl.isList (by simpa using strs_of r) hz fun t' k=>⟨.str _,H,I.tok _,⟨_,rfl⟩,q⟩
end L2
namespace L2
open PySem PySem.Spec PyProof.Rows
section
variable {K:PySem.W.Frag} {a D:Addr} {xs:List V} {ts:List Str} {js:List (Nat×Str)} {g:TG} {tif:TT} {te:TE} {R:Hp→Prop} {σ:St} {H:Hp}
theorem compG_list (Pv:Nat→List V→St→Hp→Prop) (h0:Pv 0 [] (capS ts js σ) (upd H D (.lst []))) (hl:∀ i ys σ H,i≤xs.length→Pv i ys σ H→SqL K H a xs)
  (hs:∀ i x ys σ H,xs[i]?=some x→Pv i ys σ H→g x σ H fun σ2 H2=>tif σ2 H2 fun b H3=>if b=true then te σ2 H3 fun y H4=>H4 D=some (.lst ys)∧ys.length < sizeLine∧Pv (i+1) (ys++[y]) σ2 (upd H4 D (.lst (ys++[y]))) else Pv (i+1) ys σ2 H3)
  (hd:∀ ys σ H,Pv xs.length ys σ H→R H) :
  ∃ W:Nat→Nat→List V→St→Hp→Prop,(∃ m,W 0 m [] (capS ts js σ) (upd H D (.lst []))) ∧
 ∀ i m ys σ' H,W i m ys σ' H→((Itl K a).stop i H∧R H)∨((Itl K a).go i H∧∃ m',m' < m∧∀ x H',(Itl K a).yld i H x H'→g x σ' H' fun σ2 H2=>tif σ2 H2 fun b H3 =>
  if b=true then te σ2 H3 fun y H4=>H4 D=some (.lst ys)∧ys.length < sizeLine∧W (i+1) m' (ys++[y]) σ2 (upd H4 D (.lst (ys++[y]))) else W (i+1) m' ys σ2 H3):=by
 refine ⟨fun i m ys σ H=>m=xs.length - i∧i≤xs.length∧Pv i ys σ H,⟨xs.length,by simp,Nat.zero_le _,h0⟩,?_⟩
 rintro i m ys σ' H ⟨rfl,hi,p⟩
 have q:=hl i ys σ' H hi p
 by_cases hlt:i < xs.length
 ·refine .inr ⟨⟨xs,xs[i],q,by simp [hlt]⟩,xs.length - (i+1),by omega,fun x H' y=>?_⟩
  obtain ⟨e,y⟩:=y
  subst e
  have z:=hs i x ys σ' _ (y xs q) p
  have h1:(i+1≤xs.length)=True:=eq_true hlt
  simp only [h1,true_and]
  exact z
 ·have e:i=xs.length:=by omega
  subst e
  exact .inl ⟨⟨xs,q,Nat.le_refl _⟩,hd ys σ' H p⟩
theorem compG_range {lo:Int} {n:Nat} (Pv:Nat→List V→St→Hp→Prop) (h0:Pv 0 [] (capS ts js σ) (upd H D (.lst [])))
  (hs:∀ i ys σ H,i < n→Pv i ys σ H→g (.int (lo+i)) σ H fun σ2 H2=>tif σ2 H2 fun b H3=>if b=true then te σ2 H3 fun y H4=>H4 D=some (.lst ys)∧ys.length < sizeLine∧Pv (i+1) (ys++[y]) σ2 (upd H4 D (.lst (ys++[y]))) else Pv (i+1) ys σ2 H3)
  (hd:∀ ys σ H,Pv n ys σ H→R H) :
  ∃ W:Nat→Nat→List V→St→Hp→Prop,(∃ m,W 0 m [] (capS ts js σ) (upd H D (.lst []))) ∧
 ∀ i m ys σ' H,W i m ys σ' H→((Itr lo n).stop i H∧R H)∨((Itr lo n).go i H∧∃ m',m' < m∧∀ x H',(Itr lo n).yld i H x H'→g x σ' H' fun σ2 H2=>tif σ2 H2 fun b H3 =>
  if b=true then te σ2 H3 fun y H4=>H4 D=some (.lst ys)∧ys.length < sizeLine∧W (i+1) m' (ys++[y]) σ2 (upd H4 D (.lst (ys++[y]))) else W (i+1) m' ys σ2 H3):=by
 refine ⟨fun i m ys σ H=>m=n - i∧i≤n∧Pv i ys σ H,⟨n,by simp,Nat.zero_le _,h0⟩,?_⟩
 rintro i m ys σ' H ⟨rfl,hi,p⟩
 by_cases hlt:i < n
 ·refine .inr ⟨hlt,n - (i+1),by omega,fun x H' y=>?_⟩
  obtain ⟨rfl,rfl⟩:=y
  have z:=hs i ys σ' _ hlt p
  have h1:(i+1≤n)=True:=eq_true hlt
  simp only [h1,true_and]
  exact z
 ·have e:i=n:=by omega
  subst e
  exact .inl ⟨Nat.le_refl _,hd ys σ' H p⟩
end
theorem call_isinstL {X:Cx}:CallR X (.builtin "isinstance") (fun xs H Q=>∃ a ys n b,xs=[.ref a,.ty n]∧SqL X.K H a ys∧PySem.W.kitOne X.K (.type "list") (.type n)=some b∧Q (.bl b) H):=by
 intro pins s σ H xs us Q I r h
 obtain ⟨a,ys,n,b,rfl,hq,e,q⟩:=h
 obtain ⟨u,w',rfl,rx,rn⟩:=vals2 r
 cases (show u=Value.ref a from rx)
 cases (show w'=Value.type n from rn)
 obtain ⟨its,_,pl,_⟩:=I.list hq
 obtain ⟨o,h1,h2,_⟩:=pl.isList
 exact PySem.W.kia_one PySem.W.kitx_list I.kIn ⟨o,h1,h2⟩ e (fun z=>nomatch z) fun tk=>⟨.bl b,H,I.tok _,rfl,q⟩
theorem kit_self {K:PySem.W.Frag} {t:Value}:PySem.W.kitOne K t t=some true:=by unfold PySem.W.kitOne; rw [if_pos (beq_self_eq_true t)]
def tCutS (t:TS):TS:=fun D σ H=>∃ R:St→Hp→Prop,t { D with nx:=R } σ H∧∀ σ' H',R σ' H'→D.nx σ' H'
theorem ps_cutS {X:Cx} {st:Stmt} {t:TS} (h:PS X st t):PS X st (tCutS t):=by
 intro pins s σ H D I ⟨R,q,m⟩
 refine thn (h pins s σ H _ I q) fun f s1 z=>?_
 cases f with
 | next=>obtain ⟨σ',H',I',r⟩:=z; exact ⟨σ',H',I',m _ _ r⟩
 | ret v=>exact z
 | brk=>exact z
 | cont=>exact z
def CalleeD (P:Program) (w:World) (K:PySem.W.Frag) (mg:Str→Option Value) (base:Heap) (k:Nat) (x:Str) (ps:List Str) (sp:Sp):Prop :=
 ∃ f fd,FnOk P w K mg base CX0 k f fd ps sp∧Binds K fd ps []∧PySem.W.keepIn K (.ref f)=true∧mg x=some (.ref f)
theorem CalleeD.mono {P:Program} {w:World} {K:PySem.W.Frag} {mg:Str→Option Value} {base:Heap} {j k:Nat} {x:Str} {ps:List Str} {sp:Sp} (c:CalleeD P w K mg base j x ps sp) (h:j≤k):CalleeD P w K mg base k x ps sp :=
 let ⟨f,fd,a,b⟩:=c; ⟨f,fd,a.mono h,b⟩
theorem pe_fn {X:Cx} {k:Nat} {x:Str} {ps:List Str} {sp:Sp} {e:Expr} {es:List Expr} {t:TA} {p pos:Pos} (c:CalleeD X.prog X.w X.K X.mg X.base k x ps sp) (hr:Room k X.A) (hg:Gl X x) (ha:PA X (e::es) t)
  (hdb:(x == ("__debug__":Str))=false:=by decide) (he:starEach (e::es) X.env=(false,eval e X.env)::starEach es X.env:=by rfl) (hpl:(backTo pos (starEach es X.env)).any (·.1)=false:=by rfl) :
  PE X (.Call (.Name x p) (e::es) [] pos) (tCall sp [] E0 t):=by
 obtain ⟨f,fd,G,b,kp,m⟩:=c
 exact pe_call G hr hg m kp b .nil pass0 ha hdb he hpl
theorem fits {n:Nat} (h:n≤1000000):n≤sizeLine:=Nat.le_trans h (by decide)
theorem fits' {n:Nat} (h:n≤1000000):n < sizeLine:=Nat.lt_of_le_of_lt h (by decide)
theorem same_laid {H:Hp} {p:Addr} (h:H p=none) (o:HO):Same H (upd H p o):=fun b u q=>by rw [upd_ne (ne_of_none q h)]; exact q
theorem Same.tup {K:PySem.W.Frag} {H H':Hp} {a:Addr} {xs:List V} (e:Same H H') (h:SqT K H a xs):SqT K H' a xs:=by
 rcases h with (h | ⟨o,h⟩) | h
 ·exact .inl (.inl (e _ _ h))
 ·exact .inl (.inr ⟨o,e _ _ h⟩)
 ·exact .inr h
end L2
namespace L2
open PySem PySem.Spec PyProof.Rows
theorem call_allB {X:Cx} (hc:X.calm=true):CallR X (.builtin "all") (fun xs H Q=>∃ (a:Addr) (bs:List Bool),xs=[.ref a]∧SqL X.K H a (bs.map V.bl)∧Q (.bl (bs.all id)) H):=by
 intro pins s σ H xs us Q I r h
 obtain ⟨a,bs,rfl,hq,q⟩:=h
 obtain ⟨u,rfl,rx⟩:=vals1 r
 cases (show u=Value.ref a from rx)
 obtain ⟨its,rv,pl,hz⟩:=I.list hq
 obtain ⟨o,h1,h2,m,h3⟩:=id pl.isList
 have la:a < s.heap.objs.size:=Heap.lt_size h1
 have ln:=rv.length
 rw [List.length_map] at ln
 have isB:∀ (i:Nat) v,its.toArray[i]?=some v→v=.bool (bs.getD i true):=fun i v e=>by
  have e':its[i]?=some v:=by simpa using e
  obtain ⟨x,e2,e3⟩:=Paired.at_ rv i v e'
  rw [List.getElem?_map] at e2
  obtain ⟨b,e4,rfl⟩:=Option.map_eq_some_iff.mp e2
  rw [List.getD_eq_getElem?_getD,e4]
  exact e3
 refine call_all_walk (wpAny_pyIter_list pl.isList ?_)
 refine ⟨s.heap.objs.size,_,_,_,_,_,fun i=>bs.getD i true,rfl,Walks.list (A:=X.A.in1) (show X.A.in1.handled=none from I.ok.hd hc) s.heap.objs.size a (Nat.ne_of_lt la) its.toArray,⟨⟨_,Heap.get?_push_size _ rfl,rfl,rfl⟩,⟨o,Heap.get?_push_of_some _ h1,h2,m,h3⟩⟩,?_,fun h' tk kk=>?_⟩
 ·intro i v s1 Q1 E1 hP hQ1
  rw [isB i v hP]
  exact wpAny_truthy_bool hQ1
 ·have e:((List.range its.toArray.size).all fun i=>bs.getD i true)=bs.all id:=by
   rw [List.size_toArray,← ln,Bool.eq_iff_iff,List.all_eq_true,List.all_eq_true]
   constructor
   ·intro h b hb
    obtain ⟨i,hi,e⟩:=List.mem_iff_getElem.mp hb
    have:=h i (List.mem_range.mpr hi)
    rw [List.getD_eq_getElem?_getD,List.getElem?_eq_getElem hi,e] at this
    exact this
   ·intro h i hi
    have hi':=List.mem_range.mp hi
    rw [List.getD_eq_getElem?_getD,List.getElem?_eq_getElem hi']
    exact h _ (List.getElem_mem hi')
  rw [e]
  exact ⟨.bl _,H,I.kept (t':=tk) fun b o' e'=>kk b o' (by simp; exact Nat.ne_of_lt (Heap.lt_size e')) (Heap.get?_push_of_some _ e'),rfl,q⟩
section
variable {prog:Program} {w:World} {A:Around} {E:Value→Shared→Prop} {s:Shared}
theorem nextOf_tup {it l:Addr} {i:Nat} {items:Array Value} {x:Value} {Q:Value→Shared→Prop} (hit:s.heap.IsTupleIter it l i) (hl:s.heap.IsTuple l items) (hx:items[i]?=some x)
  (hQ:∀ h',h'.IsTupleIter it l (i+1)→Heap.SameBut it s.heap h'→Q x { s with heap:=h' }):wpAny (model prog w) A (Builtin.SmallTypes.nextOf (.ref it)) Q E s:=by
 obtain ⟨o,ho,hc,hd⟩:=id hit
 obtain ⟨ol,hol,_,nl,hdl⟩:=hl
 unfold Builtin.SmallTypes.nextOf
 refine wpAny_bind (wpAny_callSpecial?_slot (name:=Str.ofString "__next__") hit.typeIs F.slot_tuple_iterator_next (wpAny_call_entry F.slot_tuple_iterator_next hit.typeIs F.entry_tuple_iterator_next ?_ (F.args_tuple_iterator_next_1 _)))
 show wpAny _ _ (field (.ref it) 0 >>= fun v=>_) _ _ s
 refine wpAny_bind (wpAny_field ho hd (x:=.ref l) (by rfl) ?_)
 show wpAny _ _ (if (Value.ref l == .none)=true then _ else _) _ _ s
 rw [if_neg (by exact Bool.false_ne_true)]
 show wpAny _ _ (field (.ref it) 1 >>= fun v=>_) _ _ s
 refine wpAny_bind (wpAny_field ho hd (x:=.int i 0) (by rfl) ?_)
 show wpAny _ _ (seqItems? (.ref l) >>= fun v=>_) _ _ s
 refine wpAny_bind (wpAny_seqItems hol hdl (by
  simp only [Int.toNat_natCast,hx]
  refine wpAny_bind (wpAny_setField ho hd (by simp) (wpAny_pure ⟨x,rfl,wpAny_pure (hQ _ ⟨_,Heap.get?_update_self _ ho (Obj.isFreed_of_fields (Obj.data_mapFields hd _)),(Obj.cls_mapFields ..).trans hc,?_⟩ (Heap.SameBut.update ..))⟩))
  rw [Obj.data_mapFields hd]
  simp [rawInt]))
theorem enumT_item {e it l:Addr} {i:Nat} {items:Array Value} {x old:Value} {Q:Option Value→Shared→Prop} (he:IsEnum s.heap e it i old) (hit:s.heap.IsTupleIter it l i) (hl:s.heap.IsTuple l items) (hx:items[i]?=some x) (hne:e≠it)
  (hQ:∀ h',IsEnumOut h' e it ((i:Int)+1) x s.heap.objs.size→h'.IsTupleIter it l (i+1)→h'.get? s.heap.objs.size=some { cls:=.type "tuple",data:=.seq #[.int i s.toks,x] } →
   (∀ b o,b≠e→b≠it→s.heap.get? b=some o→h'.get? b=some o)→Q (some (.ref s.heap.objs.size)) { s with heap:=h',toks:=s.toks+1 }) :
  wpAny (model prog w) A (pyNext (.ref e)) Q E s:=by
 have hT:s.TypeIs (.ref e) "enumerate" := ⟨_,he,rfl⟩
 unfold pyNext
 refine wpAny_bind (wpAny_attempt (wpAny_callSpecial?_slot (name:=Str.ofString "__next__") hT F.slot_enumerate_next (wpAny_call_entry F.slot_enumerate_next hT F.entry_enumerate_next ?_ (F.args_enumerate_next_1 _))))
 obtain ⟨hp,g,d,tk,os⟩:=s
 show wpAny _ _ (field (.ref e) 2 >>= fun v=>_) _ _ _
 refine wpAny_bind (wpAny_field he rfl (x:=.ref it) (by rfl) (wpAny_bind (nextOf_tup hit hl hx fun h₁ hit₁ hs₁=>?_)))
 replace hs₁:Heap.SameBut it hp h₁:=hs₁
 have he₁:IsEnum h₁ e it i old:=(hs₁.2 e hne).trans he
 show wpAny _ _ (field (.ref e) 3 >>= fun v=>_) _ _ ⟨h₁,g,d,tk,os⟩
 refine wpAny_bind (wpAny_field he₁ rfl (x:=rawInt i) (by rfl) ?_)
 show wpAny _ _ (field (.ref e) 4 >>= fun v=>_) _ _ ⟨h₁,g,d,tk,os⟩
 refine wpAny_bind (wpAny_field he₁ rfl (x:=.none) (by rfl) ?_)
 show wpAny _ _ (mkInt i >>= fun v=>_) _ _ ⟨h₁,g,d,tk,os⟩
 refine wpAny_bind (wpAny_mkInt ?_)
 show wpAny _ _ (setField (.ref e) 3 (rawInt ((i:Int)+1)) >>= fun v=>_) _ _ ⟨h₁,g,d,tk+1,os⟩
 refine wpAny_bind (wpAny_setField_rec he₁ (by simp) fun h₂ f₂ hs₂=>?_)
 have he₂:IsEnum h₂ e it ((i:Int)+1) old:=f₂
 have k₂:Heap.SameBut e h₁ h₂:=hs₂
 show wpAny _ _ (setField (.ref e) 4 .none >>= fun v=>_) _ _ ⟨h₂,g,d,tk+1,os⟩
 refine wpAny_bind (wpAny_setField_rec he₂ (by simp) fun h₃ f₃ hs₃=>?_)
 have he₃:IsEnum h₃ e it ((i:Int)+1) old:=f₃
 have k₃:Heap.SameBut e h₂ h₃:=hs₃
 show wpAny _ _ (newTuple [.int i tk,x] >>= fun v=>_) _ _ ⟨h₃,g,d,tk+1,os⟩
 refine wpAny_bind (wpAny_newTuple ?_)
 have he₄:IsEnum (h₃.push { cls:=.type "tuple",data:=.seq #[.int i tk,x] }) e it ((i:Int)+1) old:=Heap.get?_push_of_some _ he₃
 have hsz:h₃.objs.size=hp.objs.size:=by rw [k₃.1,k₂.1,hs₁.1]
 have hel:e < hp.objs.size:=Heap.lt_size he
 have ht₄:(h₃.push { cls:=.type "tuple",data:=.seq #[.int i tk,x] }).get? hp.objs.size=some { cls:=.type "tuple",data:=.seq #[.int i tk,x] }:=by rw [← hsz]; exact Heap.get?_push_size _ rfl
 have hk₄:∀ b o,b≠e→b≠it→hp.get? b=some o→(h₃.push { cls:=.type "tuple",data:=.seq #[.int i tk,x] }).get? b=some o:=fun b o n1 n2 hb=>Heap.get?_push_of_some _ (k₃.extBut b o n1 (k₂.extBut b o n1 (hs₁.extBut b o n2 hb)))
 have hit₄:(h₃.push { cls:=.type "tuple",data:=.seq #[.int i tk,x] }).IsTupleIter it l (i+1):=hit₁.at fun o q=>Heap.get?_push_of_some _ (k₃.extBut it o (Ne.symm hne) (k₂.extBut it o (Ne.symm hne) q))
 generalize h₃.push { cls:=.type "tuple",data:=.seq #[.int i tk,x] }=h₄ at he₄ ht₄ hk₄ hit₄ ⊢
 rw [hsz]
 show wpAny _ _ (Builtin.SmallTypes.ownedTupleIsFree (.ref e) >>= fun v=>_) _ _ ⟨h₄,g,d,tk+1,os⟩
 refine wpAny_bind (by
  unfold Builtin.SmallTypes.ownedTupleIsFree
  refine wpAny_bind (wpAny_field he₄ rfl (x:=.none) (by rfl) (wpAny_pure (by
   simp only [if_true]
   refine wpAny_bind (wpAny_rule (wpAny_bind (wpAny_field he₄ rfl (x:=old) (by rfl) (wpAny_bind (wpAny_setField_rec he₄ (by simp) fun h₅ f₅ hs₅=>?_)))))
   have he₅:IsEnum h₅ e it ((i:Int)+1) x:=f₅
   have k₅:Heap.SameBut e h₄ h₅:=hs₅
   show wpAny _ _ (Builtin.SmallTypes.ownedTupleHandOut (.ref e) (.ref hp.objs.size) >>= fun v=>_) _ _ ⟨h₅,g,d,tk+1,os⟩
   refine wpAny_bind (by
    unfold Builtin.SmallTypes.ownedTupleHandOut
    refine wpAny_bind (wpAny_setField_rec he₅ (by simp) fun h₆ f₆ hs₆=>?_)
    have he₆:IsEnumOut h₆ e it ((i:Int)+1) x hp.objs.size:=f₆
    have k₆:Heap.SameBut e h₅ h₆:=hs₆
    refine wpAny_setField_rec he₆ (by simp) fun h₇ f₇ hs₇=>?_
    have he₇:IsEnumOut h₇ e it ((i:Int)+1) x hp.objs.size:=f₇
    have k₇:Heap.SameBut e h₆ h₇:=hs₇
    have up:∀ b o,b≠e→h₄.get? b=some o→h₇.get? b=some o:=fun b o n q=>k₇.extBut b o n (k₆.extBut b o n (k₅.extBut b o n q))
    exact wpAny_bind (wpAny_letGo (wpAny_pure ⟨_,rfl,wpAny_pure (hQ h₇ he₇ (hit₄.at fun o q=>up it o (Ne.symm hne) q) (up _ _ (Nat.ne_of_gt hel) ht₄) fun b o n1 n2 q=>up b o n1 (hk₄ b o n1 n2 q))⟩)))))))
theorem nextOf_tup_end {it l:Addr} {i:Nat} {items:Array Value} {Q:Value→Shared→Prop} (hh:A.handled=none) (hit:s.heap.IsTupleIter it l i) (hl:s.heap.IsTuple l items) (hx:items[i]?=none)
  (hE:∀ h' e,Heap.ExtBut it s.heap h'→(∃ o,h'.get? e=some o∧o.cls=.type "StopIteration")→E (.ref e) { s with heap:=h' }):wpAny (model prog w) A (Builtin.SmallTypes.nextOf (.ref it)) Q E s:=by
 obtain ⟨o,ho,hc,hd⟩:=id hit
 obtain ⟨ol,hol,_,nl,hdl⟩:=hl
 unfold Builtin.SmallTypes.nextOf
 refine wpAny_bind (wpAny_callSpecial?_slot (name:=Str.ofString "__next__") hit.typeIs F.slot_tuple_iterator_next (wpAny_call_entry F.slot_tuple_iterator_next hit.typeIs F.entry_tuple_iterator_next ?_ (F.args_tuple_iterator_next_1 _)))
 show wpAny _ _ (field (.ref it) 0 >>= fun v=>_) _ _ s
 refine wpAny_bind (wpAny_field ho hd (x:=.ref l) (by rfl) ?_)
 show wpAny _ _ (if (Value.ref l == .none)=true then _ else _) _ _ s
 rw [if_neg (by exact Bool.false_ne_true)]
 show wpAny _ _ (field (.ref it) 1 >>= fun v=>_) _ _ s
 refine wpAny_bind (wpAny_field ho hd (x:=.int i 0) (by rfl) ?_)
 show wpAny _ _ (seqItems? (.ref l) >>= fun v=>_) _ _ s
 refine wpAny_bind (wpAny_seqItems hol hdl ?_); simp only [Int.toNat_natCast,hx]
 refine wpAny_bind (wpAny_rule (wpAny_bind (wpAny_setField ho hd (by simp) (wpAny_bind ?_)))); simp only [newExc,newTuple]
 refine wpAny_bind (wpAny_newObj_type ?_ (by size_fits)); refine wpAny_bind (m:=firstArgMember _ _) (wpAny_of_eq (a:=Value.none) (by first | rfl | (simp only [firstArgMember]; rfl)) ?_)
 refine wpAny_newObj_type ?_ (by size_fits); simp only [raiseNew]; refine wpAny_bind (wpAny_handled ?_)
 first | rw [show A.in1.handled=none from hh] | rw [hh]
 refine wpAny_bind (wpAny_pure (wpAny_throw (hE _ _ (((Heap.SameBut.update ..).extBut.push _).push _) ⟨_,Heap.get?_push_size _ rfl,rfl⟩)))
theorem enumT_end {e it l:Addr} {i:Nat} {items:Array Value} {old:Value} {Q:Option Value→Shared→Prop} (hh:A.handled=none) (he:IsEnum s.heap e it i old) (hit:s.heap.IsTupleIter it l i) (hl:s.heap.IsTuple l items) (hx:items[i]?=none)
  (hQ:∀ h',Heap.ExtBut it s.heap h'→Q none { s with heap:=h' }):wpAny (model prog w) A (pyNext (.ref e)) Q E s:=by
 have hT:s.TypeIs (.ref e) "enumerate" := ⟨_,he,rfl⟩
 unfold pyNext
 refine wpAny_bind (wpAny_attempt (wpAny_callSpecial?_slot (name:=Str.ofString "__next__") hT F.slot_enumerate_next (wpAny_call_entry F.slot_enumerate_next hT F.entry_enumerate_next ?_ (F.args_enumerate_next_1 _))))
 show wpAny _ _ (field (.ref e) 2 >>= fun v=>_) _ _ _
 refine wpAny_bind (wpAny_field he rfl (x:=.ref it) (by rfl) (wpAny_bind (nextOf_tup_end hh hit hl hx fun h' x he' hx'=>?_)))
 obtain ⟨o,ho,hc⟩:=hx'
 exact wpAny_bind (wpAny_isInstance (T := "StopIteration") (b:=true) ⟨o,ho,hc⟩ isSubtype_stop (wpAny_pure (hQ _ he')))
end
end L2
namespace L2
open PySem PySem.Spec PyProof.Rows
open AutoSeq1 (wpAny_loadPart')
theorem meets_enumT (l:Addr) (items:Array Value) (n:Nat) (dct:Option Addr) (sl:Array (Option Value)) :
  Meets (Builtin.«enumerate.__new__» ⟨[.type "enumerate",.ref l],[]⟩) (fun _ R s=>s.heap.get? l=some { cls:=.type "tuple",dict:=dct,data:=.seq items n,slots:=sl } ∧
   R (.ok (.ret (.ref (s.heap.push { cls:=.type "tuple_iterator",data:=.fields #[.ref l,.int 0 0] }).objs.size)))
    { s with heap:=(s.heap.push { cls:=.type "tuple_iterator",data:=.fields #[.ref l,.int 0 0] }).push { cls:=.type "enumerate",data:=.fields #[.none,.bool false,.ref s.heap.objs.size,rawInt 0,.none,.none] } }) :=
 .of_wp fun prog w A R s h=>by
  obtain ⟨hp,g,d,tk,os⟩:=s; obtain ⟨hl,h⟩:=h
  have hsub:=sub_enumerate
  have hT:Heap.IsTuple (Shared.heap ⟨hp,g,d,tk,os⟩) l items:=⟨_,hl,rfl,n,rfl⟩
  wp_walk using wpAny_loadPart' hl
  refine wpAny_stack_any fun st=>wpAny_pure ?_; split
  ·rename_i c _ _ _ _ _
   cases (c == Value.type "enumerate")
   ·wp_walk using wpAny_loadPart' hl,wpAny_pyIter_tuple hT; exact ⟨_,rfl,h⟩
   ·wp_walk using wpAny_loadPart' hl,wpAny_pyIter_tuple hT; exact ⟨_,rfl,h⟩
  ·wp_walk using wpAny_loadPart' hl,wpAny_pyIter_tuple hT; exact ⟨_,rfl,h⟩
section
variable {prog:Program} {w:World} {A:Around} {E:Value→Shared→Prop} {s:Shared}
theorem call_enumT {l:Addr} {items:Array Value} {Q:Value→Shared→Prop} (hL:s.heap.IsTuple l items)
  (h:∀ h',IsEnum h' (s.heap.objs.size+1) s.heap.objs.size 0 .none→h'.IsTupleIter s.heap.objs.size l 0→(∀ b o,s.heap.get? b=some o→h'.get? b=some o)→Q (.ref (s.heap.objs.size+1)) { s with heap:=h' }) :
  wpAny (model prog w) A (call (.type "enumerate") [.ref l]) Q E s:=by
 obtain ⟨⟨c,dct,dt,sl⟩,hl,hc,n,hd⟩:=hL
 replace hc:c=.type "tuple" := hc
 replace hd:dt=.seq items n:=hd
 subst hc hd
 refine callType_new F.called_enumerate (by decide) (F.typeCall_enumerate_1 _) (F.newCall_enumerate_1 _) (fun obj=>F.args_object_init_2 obj _) F.entry_enumerate_new (meets_enumT l items n dct sl) ⟨hl,?_⟩
 have hz:(s.heap.push { cls:=.type "tuple_iterator",data:=.fields #[.ref l,.int 0 0] }).objs.size=s.heap.objs.size+1:=Heap.size_push ..
 show _∧_
 rw [hz]
 have he:IsEnum ((s.heap.push { cls:=.type "tuple_iterator",data:=.fields #[.ref l,.int 0 0] }).push { cls:=.type "enumerate",data:=.fields #[.none,.bool false,.ref s.heap.objs.size,rawInt 0,.none,.none] }) (s.heap.objs.size+1) s.heap.objs.size 0 .none:=by
  have:=Heap.get?_push_size (s.heap.push { cls:=.type "tuple_iterator",data:=.fields #[.ref l,.int 0 0] }) (o:={ cls:=.type "enumerate",data:=.fields #[.none,.bool false,.ref s.heap.objs.size,rawInt 0,.none,.none] }) rfl
  rw [hz] at this; exact this
 exact ⟨⟨_,he,rfl⟩,h _ he ⟨_,Heap.get?_push_of_some _ (Heap.get?_push_size _ rfl),rfl,rfl⟩ fun b o x=>Heap.get?_push_of_some _ (Heap.get?_push_of_some _ x)⟩
end
def Itet (K:PySem.W.Frag) (a:Addr):It :=
 ⟨fun i H=>∃ xs x,SqT K H a xs∧xs[i]?=some x,fun i H x H'=>∃ t y,x=.ref t∧H t=none∧H'=upd H t (.tup [.int (i:Int),y])∧∀ xs,SqT K H a xs→xs[i]?=some y,fun i H=>∃ xs,SqT K H a xs∧xs.length≤i⟩
theorem turn_enumT {P:Program} {w:World} {K:PySem.W.Frag} {elts:List Expr} {k:Nat} {tpos:Pos} (a e it:Addr) (hei:e≠it) :
  Turn P w K (.Tuple elts k tpos) (Itet K a) [e,it] e (fun i h=>(∃ old,IsEnum h e it i old)∧h.IsTupleIter it a i) where
 mem:=by simp
 obj:=fun i h st b hb=>by
  obtain ⟨⟨old,he⟩,o,e1,c,d⟩:=st
  rcases List.mem_cons.mp hb with rfl | hb
  ·exact ⟨_,he,fun v z=>by cases z⟩
  ·obtain rfl:b=it:=by simpa using hb
   exact ⟨o,e1,fun v z=>by rw [d] at z; cases z⟩
 keep:=fun i h h' st k=>⟨⟨st.1.choose,k e (by simp) _ st.1.choose_spec⟩,st.2.at fun o q=>k it (by simp) o q⟩
 item:=by
  intro X hP hw hK hc i pins s σ H E I hf st hg
  subst hP hw hK
  obtain ⟨xs,x,hq,hx⟩:=hg
  obtain ⟨its,rv,p,hz⟩:=I.tuple hq
  obtain ⟨u,hu,ru⟩:=rv.get hx
  obtain ⟨⟨old,he⟩,hit⟩:=st
  refine enumT_item he hit (show s.heap.IsTuple a its.toArray from p) (x:=u) (by simpa using hu) hei fun h1 ho hit1 hT hk=>?_
  refine ⟨_,rfl,wpAny_letOwnedTupleGo_enum ho fun h2 he2 sb=>?_⟩
  have ne:s.heap.objs.size≠e:=Nat.ne_of_gt (Heap.lt_size he)
  have kk:∀ b o,b≠e→b≠it→s.heap.get? b=some o→h2.get? b=some o:=fun b o n1 n2 q=>(sb.2 b n1).trans (hk b o n1 n2 q)
  have T2:h2.get? s.heap.objs.size=some { cls:=.type "tuple",data:=.seq #[.int i s.toks,u] }:=(sb.2 _ ne).trans hT
  have fe:=hf e (by simp)
  have fi:=hf it (by simp)
  have fT:H s.heap.objs.size=none:=I.hok.fresh (Nat.le_refl _)
  have tr:∀ b v,H b=some v→b≠e∧b≠it:=fun b v q=>⟨fun z=>(by rw [z,fe.1] at q; cases q),fun z=>(by rw [z,fi.1] at q; cases q)⟩
  have nc:∀ b,b∉[e,it]→b≠e∧b≠it:=fun b z=>⟨fun q=>z (by simp [q]),fun q=>z (by simp [q])⟩
  have lt:∀ b o,s.heap.get? b=some o→b≠s.heap.objs.size:=fun b o q=>Nat.ne_of_lt (Heap.lt_size q)
  have I2:Inv X pins σ (upd H s.heap.objs.size (.tup [.int (i:Int),x])) { s with heap:=h2,toks:=s.toks+1 }:=by
   refine I.call (g':=s.gens) (t':=s.toks+1) (d':=s.drawn) (ch:=[e,it]) ⟨fun b o q _ _ c=>kk b o (nc b c).1 (nc b c).2 q,fun b o q _ _ c=>⟨o.slots,kk b o (nc b c).1 (nc b c).2 q⟩,
    fun b o q n _=>by rw [upd_ne (lt b o q)]; exact n,fun b o q c=>⟨o,kk b o (nc b c).1 (nc b c).2 q⟩,fun b ys q=>by rw [upd_ne (ne_of_none q fT)]; exact q,fun b o v q=>by rw [upd_ne (ne_of_none q fT)]; exact q,
    fun b ps q=>⟨#[],by rw [upd_ne (ne_of_none q fT),q]; simp⟩⟩ (fun b v q=>?_) I.bare (fun b hb=>?_)
   ·by_cases hb:b=s.heap.objs.size
    ·subst hb
     rw [upd_same] at q
     cases q
     exact ⟨by show 2≤sizeLine; decide,[.int i s.toks,u],.cons ⟨_,rfl⟩ (.cons ru .nil),_,T2,rfl,_,rfl⟩
    ·rw [upd_ne hb] at q
     refine (I.hok b v q).stay (fun c o hc' z=>?_) (fun c q'=>by rw [upd_ne (ne_of_none q' fT)]; exact q') fun c ys q'=>by rw [upd_ne (ne_of_none q' fT)]; exact q'
     rcases hc' with rfl | hc'
     ·exact kk c o (tr c _ q).1 (tr c _ q).2 z
     ·exact kk c o (tr c _ hc').1 (tr c _ hc').2 z
   ·rcases List.mem_cons.mp hb with rfl | hb
    ·exact ⟨fe.2.2.2.1,fe.2.1,fe.2.2.2.2.1,fe.2.2.2.2.2⟩
    ·obtain rfl:b=it:=by simpa using hb
     exact ⟨fi.2.2.2.1,fi.2.1,fi.2.2.2.2.1,fi.2.2.2.2.2⟩
  refine ⟨.ref s.heap.objs.size,_,I2,rfl,⟨_,x,rfl,fT,rfl,fun ys hy=>by rw [I.tuple_inj hy hq]; exact hx⟩,⟨⟨_,he2⟩,hit1.at fun o q=>(sb.2 it hei.symm).trans q⟩,fun b hb=>?_⟩
  have hb':H b=none∧∃ o,s.heap.get? b=some o:=by
   rcases List.mem_cons.mp hb with rfl | hb
   ·exact ⟨fe.1,_,he⟩
   ·obtain rfl:b=it:=by simpa using hb
    obtain ⟨o,q,_⟩:=hit
    exact ⟨fi.1,o,q⟩
  obtain ⟨n,o,q⟩:=hb'
  rw [upd_ne (lt b o q)]
  exact n
 done:=by
  intro X hP hw hK hc i pins s σ H E I hf st hg
  subst hP hw hK
  obtain ⟨xs,hq,hx⟩:=hg
  obtain ⟨its,rv,p,hz⟩:=I.tuple hq
  obtain ⟨⟨old,he⟩,hit⟩:=st
  obtain ⟨f0,f1,f2,f3,f4,f5⟩:=hf it (by simp)
  have hl:=rv.length
  exact enumT_end (I.ok.hd hc) he hit (show s.heap.IsTuple a its.toArray from p) (by simp; omega) fun h' eb=>⟨rfl,I.turned (t':=s.toks) (fun b o hb e=>eb b o hb e) f0 f1 f3 f4 f5⟩
 self:=fun _ _ _ _ _ st h=>wpAny_pyIter_enum st.1.choose_spec h
def iEnumT (K:PySem.W.Frag) (ta:TA):TI:=fun σ H R=>ta σ H fun vs H1=>∃ a xs,vs=[.ref a]∧SqT K H1 a xs∧R (Itet K a) H1
theorem pi_enumT {X:Cx} {elts:List Expr} {k:Nat} {tpos:Pos} {l:Expr} {ta:TA} {p pos:Pos} (hg:Gl X "enumerate") (hm:X.mg "enumerate"=none) (ha:PA X [l] ta) (hs:starEach [l] X.env=[(false,eval l X.env)]:=by rfl) :
  PI X (.Tuple elts k tpos) (.Call (.Name "enumerate" p) [l] [] pos) (iEnumT X.K ta):=by
 intro pins s σ H R I h
 refine Call_ (ld_blt I hg hm boot_enum (PyProof.Rows.callWith_type1 (thn (ha pos pins s σ H _ I h) fun us s1 ⟨vs,H1,I1,r1,q1⟩=>?_) hs rfl))
 obtain ⟨a,xs,e,hq,q⟩:=q1
 subst e
 obtain ⟨u,rfl,rx⟩:=r1.one
 cases rx
 obtain ⟨its,rv,pl,hz⟩:=I1.tuple hq
 refine call_enumT (show s1.heap.IsTuple a its.toArray from pl) fun h1 he hit hk=>wpAny_pyIter_enum he ?_
 refine ⟨s1.heap.objs.size+1,[s1.heap.objs.size+1,s1.heap.objs.size],_,_,H1,rfl,I1.kept (t':=s1.toks) fun b o e=>hk b o e,turn_enumT a _ _ (Nat.ne_of_gt (Nat.lt_succ_self _)),⟨⟨_,he⟩,hit⟩,fun b hb=>?_,q⟩
 rcases List.mem_cons.mp hb with rfl | hb
 ·exact I1.fpOk (Nat.le_succ _) (I1.hok.fresh (Nat.le_succ _))
 ·obtain rfl:b=s1.heap.objs.size:=by simpa using hb
  exact I1.fpOk (Nat.le_refl _) (I1.hok.fresh (Nat.le_refl _))
end L2
namespace L2
open PySem
section
variable {K:PySem.W.Frag} {a D:Addr} {xs:List V} {ts:List Str} {js:List (Nat×Str)} {g:TG} {tif:TT} {te:TE} {R:Hp→Prop} {σ:St} {H:Hp}
theorem compG_tup (Pv:Nat→List V→St→Hp→Prop) (h0:Pv 0 [] (capS ts js σ) (upd H D (.lst []))) (hl:∀ i ys σ H,i≤xs.length→Pv i ys σ H→SqT K H a xs)
  (hs:∀ i x ys σ H,xs[i]?=some x→Pv i ys σ H→g x σ H fun σ2 H2=>tif σ2 H2 fun b H3=>if b=true then te σ2 H3 fun y H4=>H4 D=some (.lst ys)∧ys.length < sizeLine∧Pv (i+1) (ys++[y]) σ2 (upd H4 D (.lst (ys++[y]))) else Pv (i+1) ys σ2 H3)
  (hd:∀ ys σ H,Pv xs.length ys σ H→R H) :
  ∃ W:Nat→Nat→List V→St→Hp→Prop,(∃ m,W 0 m [] (capS ts js σ) (upd H D (.lst []))) ∧
 ∀ i m ys σ' H,W i m ys σ' H→((Itt K a).stop i H∧R H)∨((Itt K a).go i H∧∃ m',m' < m∧∀ x H',(Itt K a).yld i H x H'→g x σ' H' fun σ2 H2=>tif σ2 H2 fun b H3 =>
  if b=true then te σ2 H3 fun y H4=>H4 D=some (.lst ys)∧ys.length < sizeLine∧W (i+1) m' (ys++[y]) σ2 (upd H4 D (.lst (ys++[y]))) else W (i+1) m' ys σ2 H3):=by
 refine ⟨fun i m ys σ H=>m=xs.length - i∧i≤xs.length∧Pv i ys σ H,⟨xs.length,by simp,Nat.zero_le _,h0⟩,?_⟩
 rintro i m ys σ' H ⟨rfl,hi,p⟩
 have q:=hl i ys σ' H hi p
 by_cases hlt:i < xs.length
 ·refine .inr ⟨⟨xs,xs[i],q,by simp [hlt]⟩,xs.length - (i+1),by omega,fun x H' y=>?_⟩
  obtain ⟨e,y⟩:=y
  subst e
  have z:=hs i x ys σ' _ (y xs q) p
  have h1:(i+1≤xs.length)=True:=eq_true hlt
  simp only [h1,true_and]
  exact z
 ·have e:i=xs.length:=by omega
  subst e
  exact .inl ⟨⟨xs,q,Nat.le_refl _⟩,hd ys σ' H p⟩
theorem compG_enumT (Pv:Nat→List V→St→Hp→Prop) (h0:Pv 0 [] (capS ts js σ) (upd H D (.lst []))) (hl:∀ i ys σ H,i≤xs.length→Pv i ys σ H→SqT K H a xs)
  (hs:∀ i x ys σ H t,xs[i]?=some x→Pv i ys σ H→H t=none→g (.ref t) σ (upd H t (.tup [.int (i:Int),x])) fun σ2 H2=>tif σ2 H2 fun b H3=>if b=true then te σ2 H3 fun y H4=>H4 D=some (.lst ys)∧ys.length < sizeLine∧Pv (i+1) (ys++[y]) σ2 (upd H4 D (.lst (ys++[y]))) else Pv (i+1) ys σ2 H3)
  (hd:∀ ys σ H,Pv xs.length ys σ H→R H) :
  ∃ W:Nat→Nat→List V→St→Hp→Prop,(∃ m,W 0 m [] (capS ts js σ) (upd H D (.lst []))) ∧
 ∀ i m ys σ' H,W i m ys σ' H→((Itet K a).stop i H∧R H)∨((Itet K a).go i H∧∃ m',m' < m∧∀ x H',(Itet K a).yld i H x H'→g x σ' H' fun σ2 H2=>tif σ2 H2 fun b H3 =>
  if b=true then te σ2 H3 fun y H4=>H4 D=some (.lst ys)∧ys.length < sizeLine∧W (i+1) m' (ys++[y]) σ2 (upd H4 D (.lst (ys++[y]))) else W (i+1) m' ys σ2 H3):=by
 refine ⟨fun i m ys σ H=>m=xs.length - i∧i≤xs.length∧Pv i ys σ H,⟨xs.length,by simp,Nat.zero_le _,h0⟩,?_⟩
 rintro i m ys σ' H ⟨rfl,hi,p⟩
 have q:=hl i ys σ' H hi p
 by_cases hlt:i < xs.length
 ·refine .inr ⟨⟨xs,xs[i],q,by simp [hlt]⟩,xs.length - (i+1),by omega,fun x H' y=>?_⟩
  obtain ⟨t,y0,rfl,ht,rfl,y⟩:=y
  have z:=hs i y0 ys σ' _ t (y xs q) p ht
  have h1:(i+1≤xs.length)=True:=eq_true hlt
  simp only [h1,true_and]
  exact z
 ·have e:i=xs.length:=by omega
  subst e
  exact .inl ⟨⟨xs,q,Nat.le_refl _⟩,hd ys σ' H p⟩
end
theorem for_enum {K:PySem.W.Frag} {a:Addr} {xs:List V} {g:TG} {tb:TS} {D:Ends} {σ:St} {H:Hp} (Pv:Nat→St→Hp→Prop) (h0:Pv 0 σ H) (hl:∀ i σ H,i≤xs.length→Pv i σ H→SqL K H a xs)
  (hs:∀ i x σ H t,xs[i]?=some x→Pv i σ H→H t=none→g (.ref t) σ (upd H t (.tup [.int (i:Int),x])) fun σ2 H2=>tb { D with nx:=Pv (i+1),ct:=Pv (i+1),bk:=D.nx } σ2 H2) (hd:∀ σ H,Pv xs.length σ H→D.nx σ H) :
  ∃ W:Nat→Nat→St→Hp→Prop,(∃ m,W 0 m σ H)∧∀ i m σ H,W i m σ H →
   ((Ite K a).stop i H∧D.nx σ H)∨((Ite K a).go i H∧∃ N:St→Hp→Prop,(∀ σ' H',N σ' H'→∃ m',m' < m∧W (i+1) m' σ' H')∧∀ x H',(Ite K a).yld i H x H'→g x σ H' fun σ2 H2=>tb { D with nx:=N,ct:=N,bk:=D.nx } σ2 H2):=by
 refine ⟨fun i m σ H=>m=xs.length - i∧i≤xs.length∧Pv i σ H,⟨xs.length,by simp,Nat.zero_le _,h0⟩,?_⟩
 rintro i m σ H ⟨rfl,hi,p⟩
 have q:=hl i σ H hi p
 by_cases hlt:i < xs.length
 ·refine .inr ⟨⟨xs,xs[i],q,by simp [hlt]⟩,Pv (i+1),fun σ' H' p'=>⟨xs.length - (i+1),by omega,rfl,hlt,p'⟩,fun x H' y=>?_⟩
  obtain ⟨t,y0,rfl,ht,rfl,y⟩:=y
  exact hs i y0 σ _ t (y xs q) p ht
 ·have e:i=xs.length:=by omega
  subst e
  exact .inl ⟨⟨xs,q,Nat.le_refl _⟩,hd σ H p⟩
theorem for_enumT {K:PySem.W.Frag} {a:Addr} {xs:List V} {g:TG} {tb:TS} {D:Ends} {σ:St} {H:Hp} (Pv:Nat→St→Hp→Prop) (h0:Pv 0 σ H) (hl:∀ i σ H,i≤xs.length→Pv i σ H→SqT K H a xs)
  (hs:∀ i x σ H t,xs[i]?=some x→Pv i σ H→H t=none→g (.ref t) σ (upd H t (.tup [.int (i:Int),x])) fun σ2 H2=>tb { D with nx:=Pv (i+1),ct:=Pv (i+1),bk:=D.nx } σ2 H2) (hd:∀ σ H,Pv xs.length σ H→D.nx σ H) :
  ∃ W:Nat→Nat→St→Hp→Prop,(∃ m,W 0 m σ H)∧∀ i m σ H,W i m σ H →
   ((Itet K a).stop i H∧D.nx σ H)∨((Itet K a).go i H∧∃ N:St→Hp→Prop,(∀ σ' H',N σ' H'→∃ m',m' < m∧W (i+1) m' σ' H')∧∀ x H',(Itet K a).yld i H x H'→g x σ H' fun σ2 H2=>tb { D with nx:=N,ct:=N,bk:=D.nx } σ2 H2):=by
 refine ⟨fun i m σ H=>m=xs.length - i∧i≤xs.length∧Pv i σ H,⟨xs.length,by simp,Nat.zero_le _,h0⟩,?_⟩
 rintro i m σ H ⟨rfl,hi,p⟩
 have q:=hl i σ H hi p
 by_cases hlt:i < xs.length
 ·refine .inr ⟨⟨xs,xs[i],q,by simp [hlt]⟩,Pv (i+1),fun σ' H' p'=>⟨xs.length - (i+1),by omega,rfl,hlt,p'⟩,fun x H' y=>?_⟩
  obtain ⟨t,y0,rfl,ht,rfl,y⟩:=y
  exact hs i y0 σ _ t (y xs q) p ht
 ·have e:i=xs.length:=by omega
  subst e
  exact .inl ⟨⟨xs,q,Nat.le_refl _⟩,hd σ H p⟩
end L2
namespace L2
open PySem PySem.Spec PyProof.Rows PySem.W
def codeO (c':Addr) (qual:Str):HO:=.ext fun h=>h.CodeRec (.ref c') qual
def lamO (f:Addr) (o:Obj):HO:=.ext fun h=>h.get? f=some o
theorem codeO_ok {P:Program} {w:World} {H:Hp} {h:Heap} {c':Addr} {qual:Str} (hr:h.CodeRec (.ref c') qual):ObjOk P w H h c' (codeO c' qual):=by
 obtain ⟨c2,oc,vs,t,e,hoc,hd,hv⟩:=id hr
 cases e
 exact ⟨hr,⟨oc,hoc⟩,fun h1 h2 ⟨c3,oc3,vs3,t3,e3,hoc3,hd3,hv3⟩ k=>by cases e3; exact ⟨_,oc3,vs3,t3,rfl,k _ hoc3,hd3,hv3⟩⟩
theorem lamO_ok {P:Program} {w:World} {H:Hp} {h:Heap} {f:Addr} {o:Obj} (e:h.get? f=some o):ObjOk P w H h f (lamO f o):=⟨e,⟨o,e⟩,fun _ _ q k=>k _ q⟩
def Tab (T:Addr) (pos:Pos) (qual:Str) (H:Hp):Prop :=
 ∃ ps,H T=some (.tbl ps)∧TriplesOk ps.toList∧(codeAmong pos ps.toList=none∨∃ c',codeAmong pos ps.toList=some (.ref c')∧H c'=some (codeO c' qual))
def SameT (T:Addr) (H H':Hp):Prop:=∀ b o,b≠T→H b=some o→H' b=some o
def BmAt (mg:Str→Option Value) (base:Heap):Prop :=
 ∃ bm o,mg "__builtins__"=some (.ref bm)∧bm≠builtinsNs∧bm≠mainGlobals∧base.get? bm=some o∧o.cls=.type "module" ∧ o.dict=some builtinsNs∧o.data=.plain
theorem triples_snoc {a b:Int} {ta tb:Tok} {c:Value}:∀ l:List Value,TriplesOk l→TriplesOk (l++[.int a ta,.int b tb,c])
 | [],_=>trivial
 | [x],h=>by cases x <;> exact h.elim
 | [x,y],h=>by cases x <;> cases y <;> exact h.elim
 | x::y::z::r,h=>by
  cases x with
  | int i ti =>
   cases y with
   | int j tj=>exact triples_snoc r h
   | _=>exact h.elim
  | _=>exact h.elim
section
variable {X:Cx} {params:Arguments} {body:Expr} {scope:Scope} {pos:Pos} {c T:Addr}
abbrev lamObj (X:Cx) (params:Arguments) (body:Expr) (scope:Scope) (c':Addr) (ctv:Value):Obj:=kla_obj "<lambda>" (X.env.qual ++ "<lambda>") params body scope [] ((X.mg "__name__").getD .none) c' ctv
def tLam (X:Cx) (params:Arguments) (body:Expr) (scope:Scope) (pos:Pos) (T:Addr):TE:=fun σ H Q=>Tab T pos (X.env.qual ++ "<lambda>") H ∧
 ∀ f c' ctv H',SameT T H H'→Tab T pos (X.env.qual ++ "<lambda>") H'→H f=none→H' f=some (lamO f (lamObj X params body scope c' ctv))→H' c'=some (codeO c' (X.env.qual ++ "<lambda>"))→Q (.ref f) H'
theorem pe_lam (hcode:X.env.code=.ref c) (hC:codeHdIn X.K c T=true) (hB:BmAt X.mg X.base) (hfree:∀ y∈scope.names,y.2≠.free) (hdef:defaultsOf params X.env=([],[]):=by rfl):PE X (.Lambda params body scope pos) (tLam X params body scope pos T):=by
 intro pins s σ H Q I h
 obtain ⟨⟨ps,hT,ht,hcase⟩,q⟩:=h
 refine kla_eval hdef ?_
 have hTa:s.heap.get? T=some (tabObj ps):=(show ObjOk X.prog X.w H s.heap T (.tbl ps) from I.hok T _ hT)
 have hg:=I.mod.glob.keeps I.bk
 have C:=codeHd_of_K I.kIn hC
 obtain ⟨bm,ob,b1,b2,b3,b4,b5,b6,b7⟩:=hB
 have b4':=I.bk _ _ b4
 have nbT:bm≠T:=fun z=>by
  have:=(I.bs _ _ b4).2
  rw [z,hT] at this; cases this
 have ngT:mainGlobals≠T:=fun z=>by
  obtain ⟨o,es,ep,e,d,_⟩:=hg
  rw [z,hTa] at e; cases e; cases d
 have hBA:s.heap.BuiltinsAt X.mg T:=⟨bm,ob,b1,b2,b3,nbT,b4',b5,b6,b7⟩
 have trk:∀ b v,H b=some v→b < s.heap.objs.size:=fun b v e=>I.hok.lt e
 rcases hcase with hnf | ⟨c',hf,hc'⟩
 ·refine kla_makeFunction (closureFor_none hfree) I.ok.glob hg hcode C hTa ht hnf ngT hBA fun c' ctv h' tk hx hge hlt hrec htb=>?_
  have hcr:∃ oc,h'.get? c'=some oc:=by
   obtain ⟨c2,oc,vs,t,e,hoc,_⟩:=hrec
   cases e
   exact ⟨oc,hoc⟩
  have hgrow:h'.objs.size > s.heap.objs.size:=Nat.lt_of_le_of_lt hge hlt
  have keep:∀ b o,b≠T→s.heap.get? b=some o→(h'.push (lamObj X params body scope c' ctv)).get? b=some o:=fun b o n e=>Heap.get?_push_of_some _ (hx b o n e)
  let H':Hp:=upd (upd (upd H T (.tbl (ps++#[rawInt pos.line,rawInt pos.col,.ref c']))) c' (codeO c' (X.env.qual ++ "<lambda>"))) h'.objs.size (lamO h'.objs.size (lamObj X params body scope c' ctv))
  have lt_c:∀ b v,H b=some v→b≠c'∧b≠h'.objs.size:=fun b v e=>⟨Nat.ne_of_lt (Nat.lt_of_lt_of_le (trk b v e) hge),Nat.ne_of_lt (Nat.lt_trans (trk b v e) hgrow)⟩
  have ncf:c'≠h'.objs.size:=Nat.ne_of_lt hlt
  have nTc:=lt_c T _ hT
  have eT:H' T=some (.tbl (ps++#[rawInt pos.line,rawInt pos.col,.ref c'])):=by
   show upd (upd (upd H T _) c' _) h'.objs.size _ T=_
   rw [upd_ne nTc.2,upd_ne nTc.1,upd_same]
  have ec:H' c'=some (codeO c' (X.env.qual ++ "<lambda>")):=by
   show upd (upd (upd H T _) c' _) h'.objs.size _ c'=_
   rw [upd_ne ncf,upd_same]
  have ef:H' h'.objs.size=some (lamO h'.objs.size (lamObj X params body scope c' ctv)):=upd_same
  have eo:∀ b,b≠T→b≠c'→b≠h'.objs.size→H' b=H b:=fun b n1 n2 n3=>by
   show upd (upd (upd H T _) c' _) h'.objs.size _ b=_
   rw [upd_ne n3,upd_ne n2,upd_ne n1]
  have sT:SameT T H H':=fun b o n e=>by rw [eo b n (lt_c b o e).1 (lt_c b o e).2]; exact e
  have I2:Inv X pins σ H' { s with heap:=h'.push (lamObj X params body scope c' ctv),toks:=tk }:=by
   refine I.call (g':=s.gens) (t':=tk) (d':=s.drawn) (ch:=[]) ⟨fun b o e n _ _=>keep b o (fun z=>by rw [z,hT] at n; cases n) e,fun b o e n _ _=>⟨o.slots,keep b o (fun z=>by rw [z,hT] at n; cases n) e⟩,fun b o e n _=>?_,fun b o e _=>?_,fun b xs e=>?_,fun b o u e=>?_,fun b ps' e=>?_⟩ (fun b v e=>?_) I.bare (fun b hb=>nomatch hb)
   ·have lb:=Heap.lt_size e
    rw [eo b (fun z=>by rw [z,hT] at n; cases n) (Nat.ne_of_lt (Nat.lt_of_lt_of_le lb hge)) (Nat.ne_of_lt (Nat.lt_trans lb hgrow))]
    exact n
   ·by_cases z:b=T
    ·exact ⟨_,by rw [z]; exact Heap.get?_push_of_some _ htb⟩
    ·exact ⟨o,keep b o z e⟩
   ·exact sT b _ (fun z=>by rw [z,hT] at e; cases e) e
   ·exact sT b _ (fun z=>by rw [z,hT] at e; cases e) e
   ·by_cases z:b=T
    ·subst z
     rw [hT] at e
     cases e
     exact ⟨_,eT⟩
    ·exact ⟨#[],by rw [Array.append_empty]; exact sT b _ z e⟩
   ·by_cases z1:b=h'.objs.size
    ·subst z1
     rw [ef] at e
     cases e
     exact lamO_ok (Heap.get?_push_size _ rfl)
    ·by_cases z2:b=c'
     ·subst z2
      rw [ec] at e
      cases e
      refine codeO_ok ?_
      obtain ⟨c2,oc,vs,t,e',hoc,hd,hv⟩:=hrec
      cases e'
      exact ⟨_,oc,vs,t,rfl,Heap.get?_push_of_some _ hoc,hd,hv⟩
     ·by_cases z3:b=T
      ·subst z3
       rw [eT] at e
       cases e
       exact Heap.get?_push_of_some _ htb
      ·rw [eo b z3 z2 z1] at e
       refine (I.hok b v e).stay (fun d o hd' e'=>?_) (fun d e'=>sT d _ (fun z=>by rw [z,hT] at e'; cases e') e') fun d ys e'=>sT d _ (fun z=>by rw [z,hT] at e'; cases e') e'
       rcases hd' with rfl | hd'
       ·exact keep d o z3 e'
       ·exact keep d o (fun z=>by rw [z,hT] at hd'; cases hd') e'
  have fresh:H h'.objs.size=none:=I.hok.fresh (Nat.le_of_lt hgrow)
  exact ⟨.ref h'.objs.size,H',I2,rfl,q _ c' ctv H' sT ⟨_,eT,by rw [Array.toList_append]; exact triples_snoc _ ht,.inr ⟨c',by rw [Array.toList_append]; exact codeAmong_snoc _ ht hnf,ec⟩⟩ fresh ef ec⟩
 ·refine kla_makeFunctionHit (closureFor_none hfree) I.ok.glob hg hcode C hTa ht hf hBA fun ctv h' tk hk hsz=>?_
  have keep:∀ b o,s.heap.get? b=some o→(h'.push (lamObj X params body scope c' ctv)).get? b=some o:=fun b o e=>Heap.get?_push_of_some _ (hk b o e)
  have fresh:H h'.objs.size=none:=I.hok.fresh hsz
  refine ⟨.ref h'.objs.size,_,I.laid (a:=h'.objs.size) (o:=lamO h'.objs.size (lamObj X params body scope c' ctv)) (t':=tk) keep hsz (lamO_ok (Heap.get?_push_size _ rfl)),rfl,?_⟩
  refine q _ c' ctv _ (fun b o _ e=>by rw [upd_ne (ne_of_none e fresh)]; exact e) ⟨ps,by rw [upd_ne (ne_of_none hT fresh)]; exact hT,ht,.inr ⟨c',hf,by rw [upd_ne (ne_of_none hc' fresh)]; exact hc'⟩⟩ fresh upd_same (by rw [upd_ne (ne_of_none hc' fresh)]; exact hc')
end
end L2
namespace L2
open PySem PySem.Spec PyProof.Rows PySem.W
section
variable {P:Program} {w:World} {K:Frag} {mg:Str→Option Value} {base:Heap} {f c':Addr} {q:Str} {params:Arguments} {body:Expr} {scope:Scope} {pm ctv:Value} {N ps:List Str} {k:Nat} {te:TE}
theorem lam_run (S:FnScope N ps scope) (hbind:∀ us:List Value,us.length=ps.length→bindArgs (kla_fn "<lambda>" q params body scope [] pm (.ref c') ctv) ⟨us,[]⟩=pure (ps.zip us))
  (hbody:∀ (A:Around) (outer:List Env) (s:Shared) (H:Hp),PE (cxOf CX0 P w K mg base N q scope f (.ref c') A outer s H fun _ _ _=>False) body te)
  (A:Around) (outer:List Env) (s:Shared) (H:Hp) (us:List Value) (vs:List V) (Q:VK) (hr:Room (k+1) A) (e0:Env0 P w K mg base A outer s H) (hf:H f=some (lamO f (kla_obj "<lambda>" q params body scope [] pm c' ctv)))
  (hc:H c'=some (codeO c' q)) (rv:Vals vs us) (hl:vs.length=ps.length) (h:te (start N vs) H Q):codeAny (model P w) A (.call (.ref f) ⟨us,[]⟩) (CR CX0 outer P w H s Q fun _ _ _=>False) s:=by
 obtain ⟨ef,_⟩:=e0.hok f _ hf
 obtain ⟨ec,_⟩:=e0.hok c' _ hc
 have lu:us.length=ps.length:=by rw [← rv.length]; exact hl
 have lim:s.heap.NoLimit:=e0.mod.nolimit.keeps fun b o e=>(e0.bs b o e).1
 have hkind:∀ y∈ps.zip us,scope.names.lookup y.1=some .local∨(scope.names.lookup y.1=some .cell∧((cellsFrom (s.heap.objs.size+1) scope.names []).lookup y.1).isSome=true):=fun ⟨n,v⟩ hy=>by
  rcases S.par n (List.of_mem_zip hy).1 with z | z
  ·exact .inl z
  ·exact .inr ⟨z,cellsFrom_some _ _ _ (.inl z)⟩
 refine kla_callFunE hr.depth ef rfl S.co S.gen rfl ec ?_
 rw [hbind us lu]
 refine wpAny_pure (wpAny_newFunctionEnv_cells S.kind hkind fun env he s1 x=>?_)
 subst he
 refine ⟨lim.keeps x.toInCall.keep,kla_codeExpr ?_⟩
 have I:Inv (cxOf CX0 P w K mg base N q scope f (.ref c') A outer s H fun _ _ _=>False) [] (start N vs) H s1:=inv_start S hr.hd e0 hl rv x
 refine wpAny_mono (hbody A outer s H [] s1 (start N vs) H _ I h) (fun v s' ⟨y,H',J,r,z⟩=>?_) fun e s' z=>z
 exact ⟨y,H',J.os,J.bare,J.base,J.hok,r,z⟩
end
section
variable {X:Cx} {i:Nat} {x:Str} {e:Expr} {es:List Expr} {t:TA} {p pos:Pos} {q:Str} {params:Arguments} {body:Expr} {scope:Scope} {N ps:List Str} {k:Nat} {te:TE}
def tLamCall (i:Nat) (q:Str) (params:Arguments) (body:Expr) (scope:Scope) (N ps:List Str) (t:TA) (te:TE):TE:=fun σ H Q=>∃ f pm c' ctv,σ[i]?=some (some (.ref f)) ∧
 t σ H fun vs H1=>H1 f=some (lamO f (kla_obj "<lambda>" q params body scope [] pm c' ctv))∧H1 c'=some (codeO c' q)∧vs.length=ps.length∧te (start N vs) H1 Q
theorem pe_callLam (hN:X.N[i]?=some x) (hx:X.env.scope.names.lookup x=some .local) (S:FnScope N ps scope) (hr:Room (k+1) X.A)
  (hbind:∀ (pm ctv:Value) (c':Addr) (us:List Value),us.length=ps.length→bindArgs (kla_fn "<lambda>" q params body scope [] pm (.ref c') ctv) ⟨us,[]⟩=pure (ps.zip us))
  (hbody:∀ (f c':Addr) (A:Around) (outer:List Env) (s:Shared) (H:Hp),PE (cxOf CX0 X.prog X.w X.K X.mg X.base N q scope f (.ref c') A outer s H fun _ _ _=>False) body te) (ha:PA X (e::es) t)
  (hdb:(x == ("__debug__":Str))=false:=by decide) (he:starEach (e::es) X.env=(false,eval e X.env)::starEach es X.env:=by rfl) (hpl:(backTo pos (starEach es X.env)).any (·.1)=false:=by rfl) :
  PE X (.Call (.Name x p) (e::es) [] pos) (tLamCall i q params body scope N ps t te):=by
 intro pins s σ H Q I h
 obtain ⟨f,pm,c',ctv,hσ,h⟩:=h
 obtain ⟨m,hn,hl⟩:=I.loc
 obtain ⟨u,ru,lk⟩:=hl i x (.ref f) hN hσ (.inl hx)
 cases (show u=Value.ref f from ru)
 have hm:m x=some (.ref f):=by
  rcases lk with l | ⟨l,_⟩
  ·exact l.2
  ·have l':X.env.scope.names.lookup x=some .cell∨X.env.scope.names.lookup x=some .free:=l
   rw [hx] at l'
   rcases l' with l' | l' <;> cases l'
 refine wpAny_Call_Name_kw (wpAny_Name (wpAny_loadName_local I.ok.kind hx hn hm ?_) hdb)
 refine callWith_def (o:=kla_obj "<lambda>" q params body scope [] pm c' ctv) rfl (thn (ha pos pins s σ H _ I h) fun us s1 ⟨vs,H1,I1,r,z1,z2,z3,z4⟩=>?_) he
 obtain ⟨ef,_⟩:=I1.hok f _ z1
 refine ⟨ef,wpAny_call (codeAny_mono (lam_run (k:=k) S (fun us hl=>hbind pm ctv c' us hl) (hbody f c') X.A X.stack s1 H1 us vs Q hr I1.env0 z1 z2 r z3 z4) fun r' s' z=>?_)⟩
 cases r' with
 | error e=>exact z.elim
 | ok fl =>
  cases fl with
  | ret u=>exact I1.after z
  | next=>exact z.elim
  | brk=>exact z.elim
  | cont=>exact z.elim
end
end L2
namespace L2
open PySem PySem.Spec PyProof.Rows PySem.W
def OnlyT (ts:List Addr) (H:Hp):Prop:=∀ b,H b=none∨(∃ o xs,H b=some (.frz o (.lst xs)))∨(b∈ts∧H b=some (.tbl #[]))
theorem law_callT {P:Program} {w:World} {K:Frag} {mg mb:Str→Option Value} {CX:CXT} {k:Nat} {fa a:Addr} {fd:FuncData} {x:Str} {sp:Sp} {s₁:Shared} {vs:List Value} {ns:List Int} {ts:List Addr}
  (KX:K.In s₁.heap) (hns:s₁.heap.Ns mainGlobals mg) (hb:s₁.heap.Ns builtinsNs mb) (hbb:∀ x:Str,x ≠ "__name__" → mb x=bootBuiltins x) (hlim:s₁.heap.NoLimit)
  (hbm:∃ bm ob,mg "__builtins__"=some (.ref bm)∧bm≠builtinsNs∧s₁.heap.get? bm=some ob∧ob.cls=.type "module" ∧ ob.dict=some builtinsNs∧ob.data=.plain) (hg:s₁.gens=#[])
  (hts:∀ T∈ts,s₁.heap.get? T=some (tabObj #[])∧K.lookup T=none∧∃ c,codeHdIn K c T=true)
  (ha:s₁.heap.get? a=some { cls:=.type "list",data:=.seq vs.toArray }) (hi:IntsAre vs ns) (hl:ns.length≤sizeLine) (hr:Room k callerA)
  (F:∀ base:Heap,K.In base→base.Ns mainGlobals mg→BmAt mg base→FnOk P w K mg base CX k fa fd [x] sp) (hbind:∀ (s:Shared) (u:Value),BindsTo s fd ⟨[u],[]⟩ [(x,u)])
  (hsp:∀ H:Hp,OnlyT ts H→(∀ T∈ts,H T=some (.tbl #[]))→SqL K H a (ns.map V.int)→sp [.ref a] H (fun v _=>v=.bl true) fun _ _ _=>False)
  (hCX:∀ H e s',CX [] H s₁ (fun _ _ _=>False) e s'→False) :
  codeAny (model P w) callerA (.call (.ref fa) ⟨[.ref a],[]⟩) (fun r s'=>r=.ok (.ret (.bool true))∧OldK s₁.heap s'.heap∧s'.os=s₁.os∧AllBare s'.gens) s₁:=by
 have rv:=vals_ints hi
 have lenV:=hi.length
 have core:∀ H:Hp,OnlyT ts H→(∀ T∈ts,H T=some (.tbl #[]))→SqL K H a (ns.map V.int)→HOk P w H s₁.heap→(∀ b,H b≠none→b=a∨b∈ts)→(H a≠none→K.lookup a=none) →
   codeAny (model P w) callerA (.call (.ref fa) ⟨[.ref a],[]⟩) (fun r s'=>r=.ok (.ret (.bool true))∧OldK s₁.heap s'.heap∧s'.os=s₁.os∧AllBare s'.gens) s₁:=by
  intro H hO hT hS hok hA hK
  have base_of:∀ {b:Addr} {o:Obj},s₁.heap.get? b=some o→H b=none→(hidT s₁.heap H).get? b=some o:=fun e n=>hidT_get e n
  have off:∀ {b:Addr} {o:Obj},s₁.heap.get? b=some o→(∀ its n,o.data≠.seq its n)→(∀ fs,o.data≠.fields fs)→H b=none:=fun {b o} e d1 d2=>by
   cases q:H b with
   | none=>rfl
   | some u =>
    rcases hA b (by rw [q]; simp) with e' | e'
    ·subst e'
     rw [ha] at e; cases e
     exact (d1 _ _ rfl).elim
    ·rw [(hts b e').1] at e; cases e
     exact (d2 _ rfl).elim
  have nsK:∀ {b:Addr} {m:Str→Option Value},s₁.heap.Ns b m→(hidT s₁.heap H).Ns b m:=fun {b m} ⟨o,es,ep,e,d,r⟩=>⟨o,es,ep,base_of e (off e (fun _ _ z=>by rw [d] at z; cases z) fun _ z=>by rw [d] at z; cases z),d,r⟩
  have hKb:K.In (hidT s₁.heap H):=fun b o e=>base_of (KX b o e) (by
   cases q:H b with
   | none=>rfl
   | some u =>
    rcases hA b (by rw [q]; simp) with e' | e'
    ·subst e'
     rw [hK (by rw [q]; simp)] at e; cases e
    ·rw [(hts b e').2.1] at e; cases e)
  have hM:Mod K mg (hidT s₁.heap H):=⟨hKb,nsK hns,⟨mb,nsK hb,hbb⟩,let ⟨mc,h1,h2⟩:=hlim; ⟨mc,nsK h1,h2⟩⟩
  have hBm:BmAt mg (hidT s₁.heap H):=by
   obtain ⟨bm,ob,b1,b2,b3,b4,b5,b6⟩:=hbm
   refine ⟨bm,ob,b1,b2,fun z=>?_,base_of b3 (off b3 (fun _ _ z=>by rw [b6] at z; cases z) fun _ z=>by rw [b6] at z; cases z),b4,b5,b6⟩
   obtain ⟨o,es,ep,e,d,_⟩:=hns
   rw [← z,b3] at e; cases e; rw [b6] at d; cases d
  have e0:Env0 P w K mg (hidT s₁.heap H) callerA [] s₁ H:=⟨rfl,hM,fun b o e=>of_hidT e,Nat.le_of_eq (hidT_size _ _),trivial,fun b hb=>absurd (show b∈([]:List Addr) from hb) (by simp),hok,.of_eq hg⟩
  refine codeAny_mono ((F _ hKb (nsK hns) hBm).run callerA [] s₁ H ⟨[.ref a],[]⟩ [.ref a] [.ref a] _ _ hr e0 (hbind s₁ (.ref a)) (.cons rfl .nil) (hsp H hO hT hS)) fun r s' h=>?_
  cases r with
  | error e=>exact (hCX H e s' h).elim
  | ok fl =>
   cases fl with
   | next=>exact False.elim h
   | brk=>exact False.elim h
   | cont=>exact False.elim h
   | ret u =>
    obtain ⟨v,H',os,bare,un,hok',r',q⟩:=h
    have q':v=.bl true:=q
    subst q'
    obtain rfl:u=Value.bool true:=r'
    have each:∀ b o,s₁.heap.get? b=some o→asItWas s₁.heap s'.heap b o∧∃ o',s'.heap.get? b=some o':=fun b o e=>by
     cases q:H b with
     | none =>
      have z:=un.keep b o e q (by intro z; exact absurd (show b∈([]:List Addr) from z) (by simp)) (by simp)
      exact ⟨.inl z,o,z⟩
     | some u =>
      rcases hO b with z | ⟨ob,xs,z⟩ | ⟨hb',z⟩
      ·rw [q] at z; cases z
      ·have z2:=un.frzs b ob _ z
       obtain ⟨e1,_⟩:=hok b _ z
       obtain ⟨e2,_⟩:=hok' b _ z2
       rw [e] at e1; cases e1
       exact ⟨.inl e2,_,e2⟩
      ·obtain ⟨more,z2⟩:=un.tbls b _ z
       have e2:s'.heap.get? b=some (tabObj (#[]++more)):=hok' b _ z2
       rw [(hts b hb').1] at e
       cases e
       obtain ⟨c,hc⟩:=(hts b hb').2.2
       obtain ⟨oc,vs',file,tf,flags,tg,inF,text,tt,d1,d2,d3,d4,_⟩:=codeHd_of_K KX hc
       exact ⟨.inr (.inl ⟨⟨c,oc,vs',d1,d2,d3,d4⟩,rfl,#[],more,rfl,e2⟩),_,e2⟩
    exact ⟨rfl,⟨fun b o e=>(each b o e).1,fun b o e=>(each b o e).2⟩,os,bare⟩
 have na:a∉ts:=fun z=>by
  have:=(hts a z).1
  rw [ha] at this; cases this
 cases hk:K.lookup a with
 | some o =>
  have e:=KX a o hk
  rw [ha] at e
  cases e
  refine core (fun b=>if b∈ts then some (.tbl #[]) else none) (fun b=>?_) (fun T h=>if_pos h) (.inr ⟨_,vs.toArray,_,hk,rfl,rfl,rfl,by rw [List.size_toArray,lenV]; exact hl,by simpa using rv⟩) (fun b u z=>?_) (fun b z=>?_) fun z=>absurd (if_neg na) z
  ·by_cases h:b∈ts
   ·exact .inr (.inr ⟨h,if_pos h⟩)
   ·exact .inl (if_neg h)
  ·by_cases h:b∈ts
   ·have z':=(if_pos h).symm.trans z
    cases z'
    exact (hts b h).1
   ·have z':=(if_neg h).symm.trans z
    cases z'
  ·by_cases h:b∈ts
   ·exact .inr h
   ·exact absurd (if_neg h) z
 | none =>
  refine core (fun b=>if b=a then some (.frz { cls:=.type "list",data:=.seq vs.toArray } (.lst (ns.map V.int))) else if b∈ts then some (.tbl #[]) else none) (fun b=>?_) (fun T h=>?_) (.inl (.inr ⟨{ cls:=.type "list",data:=.seq vs.toArray },if_pos rfl⟩)) (fun b u z=>?_) (fun b z=>?_) fun _=>hk
  ·by_cases hb:b=a
   ·exact .inr (.inl ⟨_,_,if_pos hb⟩)
   ·by_cases h:b∈ts
    ·exact .inr (.inr ⟨h,(if_neg hb).trans (if_pos h)⟩)
    ·exact .inl ((if_neg hb).trans (if_neg h))
  ·exact (if_neg (fun z:T=a=>na (z ▸ h))).trans (if_pos h)
  ·by_cases hb:b=a
   ·have z':=(if_pos hb).symm.trans z
    cases z'
    subst hb
    exact ⟨ha,by rw [List.length_map]; exact hl,vs,_,rv,ha⟩
   ·by_cases h:b∈ts
    ·have z':=((if_neg hb).trans (if_pos h)).symm.trans z
     cases z'
     exact (hts b h).1
    ·have z':=((if_neg hb).trans (if_neg h)).symm.trans z
     cases z'
  ·by_cases hb:b=a
   ·exact .inl hb
   ·by_cases h:b∈ts
    ·exact .inr h
    ·exact absurd ((if_neg hb).trans (if_neg h)) z
theorem walk_ofT {l:OpenLaw} {n k:Nat} {q:Program} {loose:List Str} {XP:(Str→Option Value)→Heap→Prop} {YP:World→Heap→Prop} {d:DefRec} {K:Params→Frag} {CX:World→CXT} {sp:World→Sp} {x:Str} {ts:List Addr}
  (hn:l.most=some n) (hn2:n≤sizeLine) (hdf:d.params.defaults=[]) (hr:Room k callerA)
  (hY:∀ (w:World) (h:Heap),YP w h→(K w.params).In h∧∀ T∈ts,h.get? T=some (tabObj #[]))
  (hK:∀ w:World,∀ T∈ts,(K w.params).lookup T=none∧∃ c,codeHdIn (K w.params) c T=true)
  (F:∀ (w:World) (mg:Str→Option Value) (fa:Addr) (h:Heap),(K w.params).In h→h.Ns mainGlobals mg→mg d.name=some (.ref fa) →
   ∃ fd:FuncData,(∀ (s:Shared) (u:Value),BindsTo s fd ⟨[u],[]⟩ [(x,u)]) ∧
    ∀ base:Heap,(K w.params).In base→base.Ns mainGlobals mg→BmAt mg base→FnOk l.prog w (K w.params) mg base (CX w) k fa fd [x] (sp w))
  (hsp:∀ (w:World) (H:Hp) (a:Addr) (ns:List Int),ns.length≤n→OnlyT ts H→(∀ T∈ts,H T=some (.tbl #[]))→SqL (K w.params) H a (ns.map V.int)→sp w [.ref a] H (fun v _=>v=.bl true) fun _ _ _=>False)
  (hCX:∀ (w:World) (H:Hp) (s:Shared) (e:Value) (s':Shared),CX w [] H s (fun _ _ _=>False) e s'→False) :
  WalkO q loose XP YP l.row.toRowW d [] (fun f vs=>PySem.call f vs):=by
 refine Att.attach_call hn hdf fun w s₀ s₁ mg mb fa o pm cd doc a vs ns G Y ho hd hcd hmg hobj hints hlen hg=>?_
 obtain ⟨KX,TX⟩:=hY w _ Y
 obtain ⟨fd,hb,hF⟩:=F w mg fa _ KX G.T.g hmg
 exact law_callT KX G.T.g G.T.b G.T.builtins G.T.nolimit G.T.bmain hg (fun T hT=>⟨TX T hT,hK w T hT⟩) hobj hints (Nat.le_trans hlen hn2) hr hF hb (fun H hO hT hS=>hsp w H a ns hlen hO hT hS) fun H e s'=>hCX w H s₁ e s'
end L2
namespace L2
open PySem
section
variable {prog:Program} {w:World} {K:Type} [DecidableEq K] {knd:KeyKind prog w K} {A:Around} {E:Value→Shared→Prop}
theorem call_upd_list {s:Shared} {d l:Addr} {items:Array Value} {n:Nat} {kvs more:List (K×Value)} {Q:Value→Shared→Prop} (hh:A.handled=none) (hd0:s.heap.DictOf knd d kvs) (hx:s.heap.get? l=some { cls:=.type "list",data:=.seq items n })
  (hi:items.size=more.length) (hp:∀ (m:Nat) kv,more[m]?=some kv→∃ u,items[m]?=some u∧PairAt knd s.heap u kv) (hz:kvs.length+more.length≤sizeLine)
  (h:∀ h' t',h'.DictOf knd d (more.foldl (fun a p=>stored a p.1 p.2) kvs)→(∀ b o,b≠d→s.heap.get? b=some o→h'.get? b=some o)→Q .none { s with heap:=h',toks:=t' }) :
  wpAny (model prog w) A (call (.builtin "dict.update") [.ref d,.ref l]) Q E s:=by
 refine wpAny_call (codeAny_call_builtin PySem.F.slot_dict_update.plain PySem.F.entry_dict_update (PySem.F.slot_dict_update.check _ _ _ _ _ _ _ _ hd0.typeIs (PySem.F.args_dict_update_2 _ _) ?_))
 unfold Builtin.«dict.update»
 refine wpAny_bind ?_
 unfold Builtin.Dict.selfAndRest
 refine wpAny_bind (wpAny_notOrdered_dict hd0.typeIs ?_)
 show wpAny _ _ (pure (d,[Value.ref l])) _ _ s
 refine wpAny_pure ?_
 show wpAny _ _ (Builtin.Dict.updateFrom "dict.update" d (.ref l) [] .none) _ _ s
 unfold Builtin.Dict.updateFrom
 refine wpAny_bind (wpAny_typeOf (T := "list") ⟨_,hx,rfl⟩ ?_)
 rw [if_pos sub_ld]
 refine wpAny_bind (keys_none hx hh fun h1 t1 k1=>?_)
 refine wpAny_bind (wpAny_rule ?_)
 have l1:=k1 _ _ hx
 refine wpAny_bind (wpAny_pyIter_list ⟨_,l1,rfl,_,rfl⟩ ?_)
 have k2:∀ b o,s.heap.get? b=some o→(h1.push { cls:=.type "list_iterator",data:=.fields #[.ref l,.int 0 0] }).get? b=some o:=fun b o q=>Heap.get?_push_of_some _ (k1 _ _ q)
 refine wpAny_pure ⟨plainId_quiet plain_dul _,dul_go (knd:=knd) (A:=A) (l:=l) (items:=items) hh more 0 _ kvs _ _ (by rw [hi,Nat.zero_add]) ?_ ⟨_,Heap.get?_push_size _ rfl,rfl,rfl⟩ ⟨_,k2 _ _ hx,rfl,n,rfl⟩ (fun m kv e=>?_) hz fun h' t' hd k3=>?_⟩
 ·obtain ⟨o,es,ep,q,r⟩:=hd0
  exact ⟨o,es,ep,k2 _ _ q,r⟩
 ·obtain ⟨u,e1,e2⟩:=hp m kv e
  exact ⟨u,by rw [Nat.zero_add]; exact e1,e2.keep fun b o _ q=>k2 b o q⟩
 ·exact h h' t' hd fun b o n q=>k3 b o n (Nat.ne_of_lt (Heap.lt_size (k1 _ _ q))) (k2 b o q)
end
section
variable {X:Cx} {o e:Expr} {apos cpos:Pos} {td ty:TE}
def tDUpd (K:PySem.W.Frag) (td ty:TE):TE:=fun σ H Q=>td σ H fun x H1=>∃ a,x=.ref a∧IsD H1 a∧ty σ H1 fun y H2=>∃ l ts kvs more,y=.ref l∧H2 a=some (.dK kvs)∧H2 l=some (.lst (ts.map V.ref)) ∧
 Paired (fun t kv=>SqT K H2 t [kV kv.1,kv.2]) ts more∧kvs.length+more.length≤sizeLine∧Q .non (upd H2 a (.dK (fillK more kvs)))
theorem pe_dupd (hc:X.calm=true) (ho:PE X o td) (he:PE X e ty) (m:M1 X o "update" apos e cpos):PE X (.Call (.Attribute o "update" apos) [e] [] cpos) (tDUpd X.K td ty):=by
 intro pins s σ H Q I h
 refine wpAny_Call_method m.base m.few m.line PySem.F.plainAttrs_dict PySem.F.slot_dict_update PySem.F.type_dict_update (thn (ho pins s σ H _ I h) fun u s1 ⟨x,H1,I1,rx,a,ex,d,q1⟩=>?_)
 subst ex
 obtain rfl:u=Value.ref a:=rx
 obtain ⟨t1,t2,_⟩:=isD_at I1 d
 refine ⟨t1,t2,?_⟩
 rw [m.trees]
 refine Calls.callWith_builtin rfl (Calls.evalArgs_plain (Calls.spliced_cons (thn (he pins s1 σ H1 _ I1 q1) fun iv s2 ⟨y,H2,I2,ry,l,ts,kvs,more,ey,ea,el,p,hz,q2⟩=>Calls.spliced_nil ?_)))
 subst ey
 cases (show iv=Value.ref l from ry)
 obtain ⟨z,hsm,vs,rel,dd⟩:=dk_of I2.hok ea
 obtain ⟨z2,its,n,rv,hl⟩:=(show ObjOk X.prog X.w H2 s2.heap l (.lst _) from I2.hok l _ el)
 obtain ⟨ms,r1,r2⟩:=pairs_at I2 p rv
 have l1:=Paired.length r2
 have l2:=r1.length
 have l3:=Paired.length p
 refine call_upd_list (I2.ok.hd hc) dd hl (by simpa using l1) (fun m kv em=>?_) (by rw [← rel.length,← l2]; exact hz) fun h' t' hd kk=>?_
 ·obtain ⟨u,e1,e2⟩:=Paired.at_ r2 m kv em
  exact ⟨u,by simpa using e1,e2⟩
 ·have hn:(fillK more kvs).length≤sizeLine:=Nat.le_trans (fill_len more kvs) hz
  have he:∃ q,h'.get? a=some q:=let ⟨q,_,_,hq,_⟩:=hd; ⟨q,hq⟩
  exact ⟨.non,_,I2.write (x:=a) (e:=a) (by rw [ea]; exact True.intro) (.inl rfl) (fun b q hb z=>kk b q hb z) he (dk_new hn hsm (fill_rel r1 rel) hd),rfl,q2⟩
theorem call_lenD {X:Cx}:CallR X (.builtin "len") (fun xs H Q=>∃ a kvs,xs=[.ref a]∧H a=some (.dK kvs)∧Q (.int kvs.length) H):=by
 intro pins s σ H xs us Q I r h
 obtain ⟨a,kvs,rfl,e,q⟩:=h
 obtain ⟨u,rfl,rx⟩:=vals1 r
 cases (show u=Value.ref a from rx)
 exact d_len I (.inl e) fun t s' I'=>⟨.int _,H,I',⟨_,rfl⟩,q⟩
end
theorem ints_fst:∀ {us:List Value} {ns:List Int},PyProof.Rows.IntsAre us ns→∀ ys:List (Int×Tok),us=ys.map (fun p=>Value.int p.1 p.2)→ys.map (·.1)=ns
 | _,_,.nil,ys,e=>by
  cases ys with
  | nil=>rfl
  | cons _ _=>cases e
 | _,_,.cons n t h,ys,e=>by
  cases ys with
  | nil=>cases e
  | cons y r =>
   rw [List.map_cons] at e
   injection e with e1 e2
   injection e1 with e3 e4
   rw [List.map_cons,ints_fst h r e2,e3]
theorem call_sumN {X:Cx} (hc:X.calm=true):CallR X (.builtin "sum") (fun xs H Q=>∃ a ns,xs=[.ref a]∧SqL X.K H a (List.map V.int ns)∧Q (.int ns.sum) H):=by
 intro pins s σ H xs us Q I r h
 obtain ⟨a,ns,rfl,hq,q⟩:=h
 obtain ⟨u,rfl,rx⟩:=vals1 r
 cases rx
 obtain ⟨its,rv,pl,hz⟩:=I.list hq
 have hi:=intsAre_of rv
 have hall:AllInts its.toArray:=hi.allInts
 obtain ⟨xs,e⟩:=hall.items
 have hl:=pl.isList
 rw [e] at hl
 refine sum_intListG (I.ok.hd hc) hl fun h' tk t' hk=>⟨.int _,H,I.kept hk,⟨_,rfl⟩,?_⟩
 have e5:xs.toList.map (·.1)=ns:=ints_fst hi xs.toList (by
  have:=congrArg Array.toList e
  simpa [intItems] using this)
 have e6:preSum (numAt xs) xs.size=ns.sum:=by
  rw [preSum_eq,e5,List.take_of_length_le (by rw [← e5]; simp)]
 rw [e6]
 exact q
end L2
namespace L2
open PySem PySem.Spec PyProof.Rows
def epOf (o:Obj):Nat:=match o.data with
 | .dict _ ep=>ep
 | _=>0
def Itd (d:Addr) (o:Obj) (kvs:List (Key×V)):It :=
 ⟨fun i H=>H d=some (.frz o (.dK kvs))∧i < kvs.length,fun i H x H'=>H'=H∧∃ kv,kvs[i]?=some kv∧x=kV kv.1,fun i H=>H d=some (.frz o (.dK kvs))∧kvs.length≤i⟩
theorem frz_at {X:Cx} {pins:List (Addr×Obj)} {σ:St} {H:Hp} {s:Shared} {d:Addr} {o:Obj} {kvs:List (Key×V)} (I:Inv X pins σ H s) (e:H d=some (.frz o (.dK kvs))) :
  (d == sysModules)=false∧∃ vs,KV kvs vs∧s.heap.DictAt (mixKind X.prog X.w) d vs (epOf o):=by
 obtain ⟨ho,hz,hs,vs,r,o',es,ep,h1,h2,h3,h4⟩:=(show ObjOk X.prog X.w H s.heap d (.frz o (.dK kvs)) from I.hok d _ e)
 rw [ho] at h1
 cases h1
 refine ⟨hs,vs,r,o,es,ho,h2,?_,h4⟩
 unfold epOf
 rw [h3]
theorem turn_dict {P:Program} {w:World} {K:PySem.W.Frag} {tg:Expr} (d it:Addr) (o:Obj) (kvs:List (Key×V)):Turn P w K tg (Itd d o kvs) [it] it (fun i h=>h.IsKeyIter it d i kvs.length (epOf o)) where
 mem:=by simp
 obj:=fun i h st b hb=>by
  have e:b=it:=by simpa using hb
  subst e
  obtain ⟨o,e,c,d⟩:=st
  exact ⟨o,e,fun v z=>by rw [d] at z; cases z⟩
 keep:=fun i h h' st k=>let ⟨o,e,r⟩:=st; ⟨o,k it (by simp) o e,r⟩
 item:=by
  intro X hP hw hK hc i pins s σ H E I hf st hg
  subst hP hw hK
  obtain ⟨hq,hi⟩:=hg
  obtain ⟨hs,vs,r,da⟩:=frz_at I hq
  have l:=r.length
  obtain ⟨kv,ekv⟩:∃ kv,kvs[i]?=some kv:=⟨kvs[i],List.getElem?_eq_getElem hi⟩
  obtain ⟨q,eq⟩:∃ q,vs[i]?=some q:=⟨vs[i]'(by omega),List.getElem?_eq_getElem (by omega)⟩
  have ek:kv.1=q.1:=by
   have:=congrArg (fun l:List Key=>l[i]?) r.keys
   simp only [List.getElem?_map,ekv,eq] at this
   exact Option.some.inj this
  obtain ⟨f0,f1,f2,f3,f4,f5⟩:=hf it (by simp)
  rw [l] at st
  refine wpAny_pyNext_dict_item (k:=q.1) (v:=q.2) st da eq fun key h' hk st' sb=>?_
  have I1:Inv X pins σ H { s with heap:=h' }:=I.turned (t':=s.toks) (fun b o hb e=>(sb.2 b hb).trans e) f0 f1 f3 f4 f5
  obtain ⟨o2,e,c,dd⟩:=id st'
  rw [← l] at st'
  exact ⟨key,rfl,go_of (s:={ s with heap:=h' }) e c dd (by decide) ⟨kV kv.1,H,I1,by rw [ek]; exact is_kV hk,⟨rfl,kv,ekv,rfl⟩,st',fun b hb=>(hf b hb).1⟩⟩
 done:=by
  intro X hP hw hK hc i pins s σ H E I hf st hg
  subst hP hw hK
  obtain ⟨hq,hi⟩:=hg
  obtain ⟨hs,vs,r,da⟩:=frz_at I hq
  have l:=r.length
  obtain ⟨f0,f1,f2,f3,f4,f5⟩:=hf it (by simp)
  rw [l] at st
  exact wpAny_pyNext_dict_end (I.ok.hd hc) st da (List.getElem?_eq_none (by omega)) fun h' eb=>⟨rfl,I.turned (t':=s.toks) (fun b o hb e=>eb b o hb e) f0 f1 f3 f4 f5⟩
 self:=fun _ _ _ _ _ st h=>wpAny_pyIter_keyiter st h
def iDict (tl:TE):TI:=fun σ H R=>tl σ H fun x H1=>∃ d kvs,x=.ref d∧H1 d=some (.dK kvs)∧∀ o,R (Itd d o kvs) (upd H1 d (.frz o (.dK kvs)))
theorem pi_dict {X:Cx} {tg l:Expr} {tl:TE} (hl:PE X l tl):PI X tg l (iDict tl):=by
 intro pins s σ H R I h
 refine thn (hl pins s σ H _ I h) fun v s1 ⟨x,H1,I1,r1,q1⟩=>?_
 obtain ⟨d,kvs,e,hd,q⟩:=q1
 subst e
 cases r1
 obtain ⟨hz,hs,vs,r,o,es,ep,h1,h2⟩:=(show ObjOk X.prog X.w H1 s1.heap d (.dK kvs) from I1.hok d _ hd)
 have I2:Inv X pins σ (upd H1 d (.frz o (.dK kvs))) { s1 with heap:=s1.heap,toks:=s1.toks }:=I1.write (x:=d) (e:=d) (by rw [hd]; exact True.intro) (.inl rfl) (fun b u _ e=>e) ⟨o,h1⟩ ⟨h1,hz,hs,vs,r,o,es,ep,h1,h2⟩
 have e2:upd H1 d (.frz o (.dK kvs)) d=some (.frz o (.dK kvs)):=upd_same
 obtain ⟨_,vs2,r2,da⟩:=frz_at I2 e2
 have q2:=q o
 generalize upd H1 d (.frz o (.dK kvs))=H2 at I2 e2 q2
 refine wpAny_pyIter_dict hs da ?_
 refine ⟨s1.heap.objs.size,[s1.heap.objs.size],_,_,H2,rfl,I2.kept (t':=s1.toks) fun b o e=>Heap.get?_push_of_some _ e,turn_dict d _ o kvs,⟨_,Heap.get?_push_size _ rfl,rfl,by rw [r2.length]; rfl⟩,fun b hb=>?_,q2⟩
 have e:b=s1.heap.objs.size:=by simpa using hb
 subst e
 exact I2.fpOk (Nat.le_refl _) (I2.hok.fresh (Nat.le_refl _))
section
variable {d D:Addr} {o:Obj} {kvs:List (Key×V)} {ts:List Str} {js:List (Nat×Str)} {g:TG} {tif:TT} {te:TE} {R:Hp→Prop} {σ:St} {H:Hp}
theorem compG_dict (Pv:Nat→List V→St→Hp→Prop) (h0:Pv 0 [] (capS ts js σ) (upd H D (.lst []))) (hl:∀ i ys σ H,i≤kvs.length→Pv i ys σ H→H d=some (.frz o (.dK kvs)))
  (hs:∀ i kv ys σ H,kvs[i]?=some kv→Pv i ys σ H→g (kV kv.1) σ H fun σ2 H2=>tif σ2 H2 fun b H3=>if b=true then te σ2 H3 fun y H4=>H4 D=some (.lst ys)∧ys.length < sizeLine∧Pv (i+1) (ys++[y]) σ2 (upd H4 D (.lst (ys++[y]))) else Pv (i+1) ys σ2 H3)
  (hd:∀ ys σ H,Pv kvs.length ys σ H→R H) :
  ∃ W:Nat→Nat→List V→St→Hp→Prop,(∃ m,W 0 m [] (capS ts js σ) (upd H D (.lst []))) ∧
 ∀ i m ys σ' H,W i m ys σ' H→((Itd d o kvs).stop i H∧R H)∨((Itd d o kvs).go i H∧∃ m',m' < m∧∀ x H',(Itd d o kvs).yld i H x H'→g x σ' H' fun σ2 H2=>tif σ2 H2 fun b H3 =>
  if b=true then te σ2 H3 fun y H4=>H4 D=some (.lst ys)∧ys.length < sizeLine∧W (i+1) m' (ys++[y]) σ2 (upd H4 D (.lst (ys++[y]))) else W (i+1) m' ys σ2 H3):=by
 refine ⟨fun i m ys σ H=>m=kvs.length - i∧i≤kvs.length∧Pv i ys σ H,⟨kvs.length,by simp,Nat.zero_le _,h0⟩,?_⟩
 rintro i m ys σ' H ⟨rfl,hi,p⟩
 have q:=hl i ys σ' H hi p
 by_cases hlt:i < kvs.length
 ·refine .inr ⟨⟨q,hlt⟩,kvs.length - (i+1),by omega,fun x H' y=>?_⟩
  obtain ⟨e,kv,ekv,rfl⟩:=y
  subst e
  have z:=hs i kv ys σ' _ ekv p
  have h1:(i+1≤kvs.length)=True:=eq_true hlt
  simp only [h1,true_and]
  exact z
 ·have e:i=kvs.length:=by omega
  subst e
  exact .inl ⟨⟨q,Nat.le_refl _⟩,hd ys σ' H p⟩
end
end L2
namespace L2
open PySem PySem.Spec PyProof.Rows
theorem eqAt_ints {A:Around} {s:Shared} {l b:Addr} {ys xs:List Int} {its its2:List Value} (r:Vals (ys.map V.int) its) (r2:Vals (xs.map V.int) its2) (hl:s.heap.IsList l its.toArray) (hb:s.heap.IsList b its2.toArray) (ne:l≠b) (hu:A.units < cLine) :
  SeqAt.EqAt A s (.ref l) (.ref b) (decide (ys=xs)):=by
 have l1:=r.length
 have l2:=r2.length
 rw [List.length_map] at l1 l2
 by_cases hlen:ys.length=xs.length
 ·have h:=SeqAt.RcAt.lists (A:=A) (e:=fun j=>decide (ys[j]?=xs[j]?)) hl hb (by simp only [List.size_toArray]; omega) hu fun j h1 h2=>?_
  ·have e:((List.range its.toArray.size).all fun j=>decide (ys[j]?=xs[j]?))=decide (ys=xs):=by
    rw [Bool.eq_iff_iff,List.all_eq_true,decide_eq_true_iff]
    constructor
    ·intro h
     refine List.ext_getElem? fun j=>?_
     by_cases c:j < ys.length
     ·exact of_decide_eq_true (h j (List.mem_range.mpr (by simp only [List.size_toArray]; omega)))
     ·rw [List.getElem?_eq_none (by omega),List.getElem?_eq_none (by omega)]
    ·intro h j _
     rw [h]; exact decide_eq_true rfl
   rw [e] at h
   exact .of_refs ne h
  ·have k1:j < its.length:=by simpa using h1
   have k2:j < its2.length:=by simpa using h2
   have e1:ys[j]?=some (ys[j]'(by omega)):=List.getElem?_eq_getElem (by omega)
   have e2:xs[j]?=some (xs[j]'(by omega)):=List.getElem?_eq_getElem (by omega)
   obtain ⟨u1,f1,q1⟩:=r.get (show (ys.map V.int)[j]?=some (.int (ys[j]'(by omega))) by rw [List.getElem?_map,e1]; rfl)
   obtain ⟨u2,f2,q2⟩:=r2.get (show (xs.map V.int)[j]?=some (.int (xs[j]'(by omega))) by rw [List.getElem?_map,e2]; rfl)
   have g1:its.toArray[j]=u1:=by
    have:=(List.getElem?_eq_some_iff.mp f1).2
    simpa using this
   have g2:its2.toArray[j]=u2:=by
    have:=(List.getElem?_eq_some_iff.mp f2).2
    simpa using this
   rw [g1,g2,e1,e2]
   obtain ⟨t1,rfl⟩:=q1
   obtain ⟨t2,rfl⟩:=q2
   have:=SeqAt.EqAt.int_int (A:=A.in1) (s:=s) (ys[j]'(by omega)) t1 (xs[j]'(by omega)) t2
   have e3:(ys[j]'(by omega) == xs[j]'(by omega))=decide (some (ys[j]'(by omega))=some (xs[j]'(by omega))):=by
    rw [Bool.eq_iff_iff,beq_iff_eq,decide_eq_true_iff,Option.some.injEq]
   rw [e3] at this
   exact this
 ·have h:=SeqAt.RcAt.lists_lengths (A:=A) hl hb (by simp only [List.size_toArray,bne_iff_ne]; omega) hu
  rw [decide_eq_false (fun z=>hlen (by rw [z]))]
  exact .of_refs ne h
theorem op_in_two {X:Cx} (hu:X.A.units+1 < cLine):OpR X (compareOp .In) (fun x y H Q=>∃ t a l1 l2 xs ys zs,x=.ref a∧y=.ref t∧SqT X.K H t [.ref l1,.ref l2]∧SqL X.K H a (List.map V.int xs)∧SqL X.K H l1 (List.map V.int ys)∧SqL X.K H l2 (List.map V.int zs)∧l1≠a∧l2≠a ∧
  Q (.bl (decide (ys=xs) || decide (zs=xs))) H):=by
 intro pins s σ H x y v u Q I rx ry h
 obtain ⟨t,a,l1,l2,xs,ys,zs,rfl,rfl,ht,ha,h1,h2,n1,n2,q⟩:=h
 cases rx
 cases ry
 obtain ⟨its,r,pl,hz⟩:=I.tuple ht
 obtain ⟨u1,u2,rfl,q1,q2⟩:=vals2 r
 cases (show u1=Value.ref l1 from q1)
 cases (show u2=Value.ref l2 from q2)
 obtain ⟨xa,ra,pa,za⟩:=I.list ha
 obtain ⟨x1,r1,p1,z1⟩:=I.list h1
 obtain ⟨x2,r2,p2,z2⟩:=I.list h2
 have e1:=eqAt_ints (A:=X.A.in1) (s:=s) r1 ra p1.isList pa.isList n1 hu
 have e2:=eqAt_ints (A:=X.A.in1) (s:=s) r2 ra p2.isList pa.isList n2 hu
 refine SeqAt.in_tupleAt (fun y=>if y == .ref l1 then decide (ys=xs) else decide (zs=xs)) (show s.heap.IsTuple t #[.ref l1,.ref l2] from pl) (fun y hy=>?_) ?_
 ·have hy':y=.ref l1∨y=.ref l2:=by simpa using hy
  by_cases c:y=.ref l1
  ·subst c
   rw [if_pos (beq_self_eq_true _)]
   exact e1
  ·rcases hy' with z | z
   ·exact absurd z c
   ·subst z
    rw [if_neg (fun q=>c (eq_of_beq q))]
    exact e2
 ·refine ⟨.bl (decide (ys=xs) || decide (zs=xs)),H,I,?_,q⟩
  show Value.bool _=Value.bool _
  congr 1
  by_cases c:l2=l1
  ·subst c
   have e3:=I.list_inj h1 h2
   have e4:ys=zs:=by
    have:=congrArg (List.map fun v:V=>match v with | .int n=>n | _=>0) e3
    simpa [List.map_map,Function.comp_def] using this
   subst e4
   simp
  ·simp [c]
end L2
namespace L2
open PySem PySem.Spec PyProof.Rows
theorem ps_setC {X:Cx} {elt iter tg:Expr} {iy:Nat} {y:Str} {py spos:Pos} {ifs:List Expr} {scope:Scope} {pos:Pos} {wi:TI} {g:TG} {tif:TT} {te:TE} (ts:List Str) (js:List (Nat×Str)) (hN:X.N.Nodup) (hiy:X.N[iy]?=some y) (hy:X.env.scope.names.lookup y=some .local) (hc:X.calm=true) (hi:PI X tg iter wi)
  (cp:Caps X scope js) (hcell:∀ y∈scope.names,y.2≠.cell) (hkind:scope.kind=.function)
  (hnames:∀ y∈scope.names,y.2=.local→scope.names.lookup y.1=some .local)
  (hg:∀ cl C s1 H1 fp,PG (cxD X scope cl C s1 H1 (ts++js.map (·.2)) fp) tg g)
  (hif:∀ cl C s1 H1 fp,PIfs (cxD X scope cl C s1 H1 (ts++js.map (·.2)) fp) ifs tif) (he:∀ cl C s1 H1 fp,PE (cxD X scope cl C s1 H1 (ts++js.map (·.2)) fp) elt te)
  (hsw:swapsWith (.ListComp elt [⟨tg,iter,ifs,0⟩] scope pos) (some (.Name y py)) spos.line X.env=pure true:=by rfl) (hs:∀ x,foldedSetIterable iter X.env x=pure x:=by intro _; rfl) :
  PS X (.Assign [.Name y py] (.ListComp elt [⟨tg,iter,ifs,0⟩] scope pos) spos) (tAsg (tCompG wi ts js g tif te) (gName iy)):=by
 intro pins s σ H DD I h
 rw [exec_Assign_Name_used _ _ _ _ hsw]
 refine wpAny_bind (wpAny_standAt (wpAny_bind ?_))
 show wpAny _ _ (do let _ ← comprehension (.ListComp elt [⟨tg,iter,ifs,0⟩] scope pos) scope X.env _ (newList []) false (eval iter X.env) (some (assign (.Name y py) X.env))) _ _ s
 obtain ⟨cl,hcl⟩:=clos_of (env:=X.env) (scope:=scope) fun y hy=>I.ok.has y (.inl (cp.all y hy))
 refine wpAny_bind (wpAny_mono (wpAny_comprehension_free (use:=some (assign (.Name y py) X.env)) (Q:=fun _ s'=>SP X pins DD .next s') rfl hs hcl.eq hkind hnames (thn (hi pins s σ H _ I h) fun v s1 h1=>thn h1 fun itv s2 h2=>?_)) (fun _ s' hq=>wpAny_pure (wpAny_pure hq)) fun _ _ e=>e)
 obtain ⟨it,fp,tn,J,H2,e,I2,T,st2,f2,h2⟩:=h2
 subst e
 obtain ⟨W,⟨m0,w0⟩,turn⟩:=h2 s2.heap.objs.size I2.fresh
 have hfl:∀ b∈fp,b < s2.heap.objs.size:=fun b hb=>by obtain ⟨o,e,_⟩:=T.obj _ _ st2 b hb; exact Heap.lt_size e
 refine wpAny_newObj_type (wpAny_newFunctionEnv hcell (by intro y hy; simp at hy) (fun h₁ hns₁ hsb₁=>?_) hkind)
 dsimp only at hns₁ hsb₁ ⊢
 generalize hH2:s2.heap.push { cls:=.type "list",dict:=none,data:=.seq ([]:List Value).toArray }=G2 at hns₁ hsb₁ ⊢
 have hCs:G2.objs.size=s2.heap.objs.size+1:=by rw [← hH2,Heap.size_push]
 have hDC:s2.heap.objs.size≠G2.objs.size:=by rw [hCs]; exact Nat.ne_of_lt (Nat.lt_succ_self _)
 have old:∀ b o,s2.heap.get? b=some o→h₁.get? b=some o:=fun b o e =>
  hsb₁.extBut b o (by rw [hCs]; exact Nat.ne_of_lt (Nat.lt_succ_of_lt (Heap.lt_size e))) (Heap.get?_push_of_some _ (hH2 ▸ Heap.get?_push_of_some _ e))
 have hacc:h₁.get? s2.heap.objs.size=some { cls:=.type "list",data:=.seq ([]:List Value).toArray 0 }:=hsb₁.extBut _ _ hDC (Heap.get?_push_of_some _ (hH2 ▸ Heap.get?_push_size _ rfl))
 generalize hX2:cxD X scope cl G2.objs.size s2 H2 (ts++js.map (·.2)) fp=X2
 have I4:Inv X2 [] (capS ts js σ) (upd H2 s2.heap.objs.size (.lst [])) { s2 with heap:=h₁,toks:=s2.toks+([]:List (Str×Value)).length }:=by
  rw [← hX2]
  exact inv_compG I2 f2 hfl hkind hcell cp hcl (by rw [hCs]; exact Nat.lt_succ_self _) rfl rfl old hns₁ hacc
 have x1:X2.prog=X.prog:=by rw [← hX2]; rfl
 have x2:X2.w=X.w:=by rw [← hX2]; rfl
 have x3:X2.K=X.K:=by rw [← hX2]; rfl
 have x4:X2.calm=true:=by rw [← hX2]; exact hc
 have x5:X2.A=X.A:=by rw [← hX2]; rfl
 have x6:X2.env=compEnvC scope cl G2.objs.size X.env:=by rw [← hX2]; rfl
 have x7:X2.xe=fun _ _=>False:=by rw [← hX2]; rfl
 have hg':PG X2 tg g:=by rw [← hX2]; exact hg _ _ _ _ _
 have hif':PIfs X2 ifs tif:=by rw [← hX2]; exact hif _ _ _ _ _
 have he':PE X2 elt te:=by rw [← hX2]; exact he _ _ _ _ _
 have st4:tn 0 h₁:=T.keep _ _ _ st2 fun b _ o e=>old b o e
 have stat:∀ {H':Hp} {pins':List (Addr×Obj)},(∀ b∈fp,H' b=none)→(∀ p∈pins',p.1∉fp)→∀ b∈fp,FpOk X2 pins' H' b:=fun {H' pins'} hn hp b hb=>by
  have o4:=I4.ok
  subst hX2
  exact ⟨hn b hb,(o4.exf b hb).1,o4.exfs b hb,.inl hb,(o4.exf b hb).2,fun p hp'=>by
   have hp2:p∈([]:List (Addr×Obj))++pins':=hp'
   rw [List.nil_append] at hp2
   intro z; exact hp p hp2 (by rw [z]; exact hb)⟩
 have fin:∀ {s':Shared} {σ':St} {H':Hp},Inv X2 [] σ' H' s'→DD.nx (σ.set iy (some (.ref s2.heap.objs.size))) H' →
   compPost (model X.prog X.w) X.A X.xe (some (assign (.Name y py) X.env)) (fun _ s'=>SP X pins DD .next s') (.ref s2.heap.objs.size) G2.objs.size (.ok .next) s':=fun {s' σ' H'} J' q=>by
  subst hX2
  obtain ⟨m',hn',_⟩:=J'.loc
  have I5:Inv X pins σ H' s':=I2.call' (s':=s') J'.os J'.base J'.hok J'.bare fun b hb=>by
   obtain ⟨_,f1,_,f3,f4,f5⟩:=f2 b hb
   exact ⟨f3,f1,f4,f5⟩
  obtain ⟨f0,f1,_,f3,f4,f5⟩:=I2.fpOk (H':=H') (b:=G2.objs.size) (by rw [hCs]; exact Nat.le_succ _) J'.free
  show wpAny _ _ (assign (.Name y py) X.env (.ref s2.heap.objs.size)) _ _ s'
  refine wpAny_assign_Name (store_ok2 I5 hN hiy (.inl hy) (v:=.ref s2.heap.objs.size) rfl (fun s'' I6 ⟨a,sb,ha⟩=>?_) (.inr hy))
  have nCa:G2.objs.size≠a:=by
   rcases ha with ha | ha
   ·rw [ha]; exact f1
   ·exact (f4 _ _ ha).symm
  refine ⟨m',hn'.sameBut sb nCa,fun h' hs'=>?_⟩
  exact ⟨_,H',I6.turned (t':=s''.toks) (fun b o hb e=>(hs'.2 b hb).trans e) f0 f1 f3 f4 f5,q⟩
 have loop:∀ s₃:Shared,s₃={ s2 with heap:=h₁,toks:=s2.toks+([]:List (Str×Value)).length } →
   codeAny (model X.prog X.w) X.A (.compLoop (.ListComp elt [⟨tg,iter,ifs,0⟩] scope pos) 0 (.ref it) (.ref s2.heap.objs.size) (compEnvC scope cl G2.objs.size X.env))
    (compPost (model X.prog X.w) X.A X.xe (some (assign (.Name y py) X.env)) (fun _ s'=>SP X pins DD .next s') (.ref s2.heap.objs.size) G2.objs.size) s₃:=by
  rintro s₃ rfl
  subst hX2
  refine compLoop_go (fun n s'=>∃ i ys σ' H',Inv (cxD X scope cl G2.objs.size s2 H2 (ts++js.map (·.2)) fp) [] σ' H' s'∧tn i s'.heap∧(∀ b∈fp,H' b=none)∧W i n ys σ' H') ?_ m0
   ⟨0,[],_,_,I4,st4,fun b hb=>by rw [upd_ne (Nat.ne_of_lt (hfl b hb))]; exact (f2 b hb).1,w0⟩
  rintro n s' ⟨i,ys,σ0,H',J',st',fr',w'⟩
  rcases turn i n ys σ0 H' w' with ⟨stop,q⟩ | ⟨go,m',hm,step⟩
  ·refine wpAny_mono (T.done (cxD X scope cl G2.objs.size s2 H2 (ts++js.map (·.2)) fp) rfl rfl rfl hc i [] s' _ H' (fun _ _=>False) J' (stat fr' (by simp)) st' stop) (fun r s4 ⟨hr,J4⟩=>?_) fun _ _ z=>z
   subst hr
   exact fin J4 q
  ·refine wpAny_mono (T.item (cxD X scope cl G2.objs.size s2 H2 (ts++js.map (·.2)) fp) rfl rfl rfl hc i [] s' _ H' (fun _ _=>False) J' (stat fr' (by simp)) st' go) (fun r s4 ⟨u,hr,h4⟩=>?_) fun _ _ z=>z
   subst hr
   refine wpAny_mono h4 (fun _ s5 ⟨xv,H5,J5,r5,y5,st5,fr5⟩=>?_) fun _ _ z=>z
   have J5':=J5.pinned (stat fr5 (by simp)) (T.obj _ _ st5)
   have back:∀ {s7:Shared} {σ7:St} {H7:Hp},Inv (cxD X scope cl G2.objs.size s2 H2 (ts++js.map (·.2)) fp) ([]++pinsAt fp s5.heap) σ7 H7 s7→Inv (cxD X scope cl G2.objs.size s2 H2 (ts++js.map (·.2)) fp) [] σ7 H7 s7∧tn (i+1) s7.heap∧∀ b∈fp,H7 b=none:=fun {s7 σ7 H7} J7=>by
    refine ⟨J7.unpinned,T.keep _ _ _ st5 fun b hb o e=>(J7.pin (b,o) (List.mem_append_right _ (List.mem_append_right _ (mem_pinsAt hb e)))).1,fun b hb=>?_⟩
    obtain ⟨o,e,d⟩:=T.obj _ _ st5 b hb
    exact (J7.pin (b,o) (List.mem_append_right _ (List.mem_append_right _ (mem_pinsAt hb e)))).2.1
   show wpAny _ _ (assign tg (cxD X scope cl G2.objs.size s2 H2 (ts++js.map (·.2)) fp).env u) _ _ s5
   refine wpAny_mono (hg' _ s5 _ H5 xv u _ J5' r5 (step xv H5 y5)) (fun _ s6 ⟨σ6,H6,J6,q6⟩=>?_) fun _ _ z=>z
   refine wpAny_mono (hif' _ s6 _ H6 _ J6 q6) (fun b s7 ⟨H7,J7,q7⟩=>?_) fun _ _ z=>z
   cases b with
   | false =>
    rw [if_neg Bool.false_ne_true] at q7 ⊢
    obtain ⟨J8,st8,fr8⟩:=back J7
    exact ⟨m',hm,i+1,ys,σ6,H7,J8,st8,fr8,q7⟩
   | true =>
    rw [if_pos rfl] at q7 ⊢
    refine wpAny_mono (he' _ s7 _ H7 _ J7 q7) (fun yv s8 ⟨y,H8,J8,r8,hD8,hz8,w8⟩=>?_) fun _ _ z=>z
    refine wpAny_mono (mt_append (X:=cxD X scope cl G2.objs.size s2 H2 (ts++js.map (·.2)) fp) _ s8 _ H8 (.ref s2.heap.objs.size) [y] (.ref s2.heap.objs.size) [yv] (fun v H'=>W (i+1) m' (ys++[y]) σ6 H') J8 rfl (.cons r8 .nil) ⟨s2.heap.objs.size,ys,y,rfl,rfl,hD8,hz8,w8⟩)
     (fun _ s9 ⟨_,H9,J9,_,w9⟩=>?_) fun _ _ z=>z
    obtain ⟨J10,st10,fr10⟩:=back J9
    exact ⟨m',hm,i+1,ys++[y],σ6,H9,J10,st10,fr10,w9⟩
 exact codeAny_compStart_list (loop _ rfl) (T.self _ _ _ _ _ st4 (loop _ rfl))
end L2
namespace L2
open PySem PySem.Spec PyProof.Rows
section
variable {prog:Program} {w:World} {A:Around} {E:Value→Shared→Prop} {s:Shared}
theorem args_min_kd (a b c:Value):argsOk "min" ⟨[a],[("key",b),("default",c)]⟩:=by unfold argsOk; kernel_rfl
theorem call_min_dflt {l:Addr} {kf dv:Value} {Q:Value→Shared→Prop} (hh:A.handled=none) (hl:s.heap.IsList l #[]) (h:∀ h' tk,(∀ b o,s.heap.get? b=some o→h'.get? b=some o)→Q dv { s with heap:=h',toks:=tk }) :
  wpAny (model prog w) A (call (.builtin "min") [.ref l] [("key",kf),("default",dv)]) Q E s:=by
 have hname:(toString "min" ++ toString ".loop":String) = "min.loop" := by decide
 refine wpAny_call (codeAny_call_builtin F.plain_min F.entry_min ?_)
 have core:wpAny (model prog w) A.in1 (Builtin.«min» ⟨[.ref l],[("key",kf),("default",dv)]⟩) (fun fin s'=>match fin with
   | .done f=>(match (Except.ok f:Result) with | .ok (.ret v)=>Q v s' | .ok _=>False | .error e=>E e s')
   | .again c'=>c'.quiet=true∧codeAny (model prog w) A c' (fun r s'=>match r with | .ok (.ret v)=>Q v s' | .ok _=>False | .error e=>E e s') s') E s:=by
  show wpAny _ A.in1 (Builtin.Builtins.bindParams "min" ["key","default"] 0 ⟨[],[("key",kf),("default",dv)]⟩ >>= _) _ _ s
  refine wpAny_bind (wpAny_of_eq (show Builtin.Builtins.bindParams "min" ["key","default"] 0 ⟨[],[("key",kf),("default",dv)]⟩=pure [some kf,some dv] from rfl) ?_)
  refine wpAny_bind (wpAny_pure ?_)
  refine wpAny_bind (wpAny_pyIter_list hl ?_)
  refine wpAny_bind (wpAny_newObj_type ?_)
  rw [hname]
  obtain ⟨ol,h1,h2⟩:=id hl
  generalize hG:s.heap.push { cls:=.type "list_iterator",data:=.fields #[.ref l,.int 0 0] }=G
  have k1:∀ b o,s.heap.get? b=some o→G.get? b=some o:=fun b o e=>by rw [← hG]; exact Heap.get?_push_of_some _ e
  have hi:G.get? s.heap.objs.size=some { cls:=.type "list_iterator",data:=.fields #[.ref l,.int 0 0] }:=by rw [← hG]; exact Heap.get?_push_size _ rfl
  refine wpAny_pure ⟨plainId_quiet F.plain_min_loop _,codeAny_builtin F.entry_min_loop ?_⟩
  rw [Around.under_plainId F.plain_min_loop _]
  show wpAny _ A.in1 (seqItems? (.ref G.objs.size) >>= _) _ _ _
  refine wpAny_bind (wpAny_seqItems (Heap.get?_push_size _ rfl) rfl ?_)
  show wpAny _ A.in1 (tryCatch (pyNext (.ref s.heap.objs.size)) _ >>= _) _ _ _
  refine wpAny_bind (wpAny_tryCatch (wpAny_pyNext_list_end (show A.in1.handled=none from hh) ⟨_,Heap.get?_push_of_some _ hi,rfl,rfl⟩ ⟨ol,Heap.get?_push_of_some _ (k1 _ _ h1),h2⟩ (by simp) fun h' eb=>?_))
  refine wpAny_bind (wpAny_rule (wpAny_pure ?_))
  exact h h' _ fun b o e=>eb b o (Nat.ne_of_lt (Heap.lt_size e)) (Heap.get?_push_of_some _ (k1 b o e))
 simp only [checkBuiltinCall,F.kind_min]
 cases hsig:Manifest.signature? "min" with
 | none=>exact wpAny_pure core
 | some sig =>
  have ha':Bind.checkArgs "min" sig ⟨[.ref l],[("key",kf),("default",dv)]⟩=pure ():=by have:=args_min_kd (.ref l) kf dv; simpa only [argsOk,hsig] using this
  simp only [ha']
  exact wpAny_pure core
end
def tMin0 (K:PySem.W.Frag) (t:TA) (td:TE):TE:=fun σ H Q=>t σ H fun vs H1=>td σ H1 fun dv H2=>∃ a,vs=[.ref a]∧SqL K H2 a []∧Q dv H2
theorem pe_min0 {X:Cx} {p pos lp kp1 kp2:Pos} {e e2:Expr} {t:TA} {td:TE} (hc:X.calm=true) (hg:Gl X "min") (hm:X.mg "min"=none) (hg2:Gl X "len") (hm2:X.mg "len"=none) (ha:PA X [e] t) (hd:PE X e2 td)
  (he:backTo pos (starEach [e] X.env)=(false,eval e X.env)::backTo pos (starEach [] X.env):=by rfl) (hp:(backTo pos (starEach [e] X.env)).any (·.1)=false:=by rfl) :
  PE X (.Call (.Name "min" p) [e] [⟨some "key",.Name "len" lp,kp1⟩,⟨some "default",e2,kp2⟩] pos) (tMin0 X.K t td):=by
 intro pins s σ H Q I h
 refine wpAny_Call_Name_kw (ld_blt I hg hm boot_min ?_)
 refine callWith_kw (thn (ha pos pins s σ H _ I h) fun us s1 ⟨vs,H1,I1,r1,q1⟩=>kws_cons (ld_blt I1 hg2 hm2 PySem.boot_len (kws_cons (thn (hd pins s1 σ H1 _ I1 q1) fun u2 s2 ⟨dv,H2,I2,r2,a,ev,hs,q⟩=>kws_nil ?_)))) he hp rfl rfl
 subst ev
 obtain ⟨u,rfl,rx⟩:=vals1 r1
 cases (show u=Value.ref a from rx)
 obtain ⟨its,rv,pl,hz⟩:=I2.list hs
 cases rv
 exact call_min_dflt (I2.ok.hd hc) pl.isList fun h' tk kk=>⟨dv,H2,I2.kept (t':=tk) kk,r2,q⟩
end L2
namespace L2
open PySem PySem.Spec PyProof.Rows
def slc (z:Str) (lo hi:Option Int):Str:=if ((slicePicked z (lo.map fun i=>(i,0)) (hi.map fun i=>(i,0)) none).length == z.length)=true then z else ⟨((slicePicked z (lo.map fun i=>(i,0)) (hi.map fun i=>(i,0)) none).filterMap (z.cps[·]?)).toArray⟩
theorem slc_le (z:Str) (lo hi:Option Int):(slc z lo hi).length≤z.length:=by
 unfold slc
 split
 ·exact Nat.le_refl _
 ·show (List.toArray _).size≤_
  rw [List.size_toArray]
  exact Nat.le_trans (List.length_filterMap_le _ _) (show (slicePicked z _ _ none).length≤z.length from by unfold slicePicked; exact sliceIndices_le _ _ _)
def rSlF:V→Option Int→Option Int→Hp→VK→Prop:=fun x lo hi H Q=>∃ z:Str,x=.str z∧z.length≤sizeLine∧Q (.str (slc z lo hi)) H
theorem slice_F {X:Cx} {pins:List (Addr×Obj)} {s:Shared} {σ:St} {H:Hp} {Q:VK} {z:Str} {t:Tok} (I:Inv X pins σ H s) (hz:z.length≤sizeLine) (l u:Option (Int×Tok)) (q:Q (.str (slc z (l.map (·.1)) (u.map (·.1)))) H) :
  (sliceMade z t l u none).post (EP X pins σ Q) s:=by
 have e:slicePicked z ((l.map (·.1)).map fun i=>(i,(0:Tok))) ((u.map (·.1)).map fun i=>(i,(0:Tok))) none=slicePicked z l u none:=by
  cases l <;> cases u <;> rfl
 unfold slc at q
 rw [e] at q
 unfold sliceMade
 by_cases c:((slicePicked z l u none).length == z.length)=true
 ·rw [if_pos c] at q
  rw [if_pos (by rw [c]; rfl)]
  exact ⟨.str z,H,I,⟨_,rfl⟩,q⟩
 ·rw [if_neg c] at q
  rw [if_neg (by rw [Bool.eq_false_iff.mpr c]; decide)]
  have le:((slicePicked z l u none).filterMap (z.cps[·]?)).length≤z.length:=Nat.le_trans (List.length_filterMap_le _ _) (show (slicePicked z l u none).length≤z.length from by unfold slicePicked; exact sliceIndices_le _ _ _)
  refine ⟨?_,.str _,H,I.tok _,⟨_,rfl⟩,q⟩
  show (List.toArray _).size≤sizeLine
  rw [List.size_toArray]
  exact Nat.le_trans le hz
theorem sl_strF {X:Cx}:SlR X rSlF:=by
 intro pins s σ H x v vl vu lo hi sl Q I rx hs pl pu h
 obtain ⟨z,rfl,hz,q⟩:=h
 obtain ⟨t,rfl⟩:=rx
 refine ⟨"str",_,F.slot_str_getitem.lookup,typeIs_str s z t,?_⟩
 cases pl with
 | none =>
  cases pu with
  | none=>exact wpAny_getItem_str_slice (l:=none) (u:=none) (st:=none) hs rfl (slice_F I hz none none q)
  | int j tu=>exact wpAny_getItem_str_slice (l:=none) (u:=some (j,tu)) (st:=none) hs rfl (slice_F I hz none (some (j,tu)) q)
 | int i ti =>
  cases pu with
  | none=>exact wpAny_getItem_str_slice (l:=some (i,ti)) (u:=none) (st:=none) hs rfl (slice_F I hz (some (i,ti)) none q)
  | int j tu=>exact wpAny_getItem_str_slice (l:=some (i,ti)) (u:=some (j,tu)) (st:=none) hs rfl (slice_F I hz (some (i,ti)) (some (j,tu)) q)
end L2
namespace L2
open PySem PySem.Spec PyProof.Rows
theorem call_anyB {X:Cx} (hc:X.calm=true):CallR X (.builtin "any") (fun xs H Q=>∃ (a:Addr) (bs:List Bool),xs=[.ref a]∧SqL X.K H a (bs.map V.bl)∧Q (.bl (bs.any id)) H):=by
 intro pins s σ H xs us Q I r h
 obtain ⟨a,bs,rfl,hq,q⟩:=h
 obtain ⟨u,rfl,rx⟩:=vals1 r
 cases (show u=Value.ref a from rx)
 obtain ⟨its,rv,pl,hz⟩:=I.list hq
 obtain ⟨o,h1,h2,m,h3⟩:=id pl.isList
 have la:a < s.heap.objs.size:=Heap.lt_size h1
 have ln:=rv.length
 rw [List.length_map] at ln
 have isB:∀ (i:Nat) v,its.toArray[i]?=some v→v=.bool (bs.getD i true):=fun i v e=>by
  have e':its[i]?=some v:=by simpa using e
  obtain ⟨x,e2,e3⟩:=Paired.at_ rv i v e'
  rw [List.getElem?_map] at e2
  obtain ⟨b,e4,rfl⟩:=Option.map_eq_some_iff.mp e2
  rw [List.getD_eq_getElem?_getD,e4]
  exact e3
 refine call_any_walk (wpAny_pyIter_list pl.isList ?_)
 refine ⟨s.heap.objs.size,_,_,_,_,_,fun i=>bs.getD i true,rfl,Walks.list (A:=X.A.in1) (show X.A.in1.handled=none from I.ok.hd hc) s.heap.objs.size a (Nat.ne_of_lt la) its.toArray,⟨⟨_,Heap.get?_push_size _ rfl,rfl,rfl⟩,⟨o,Heap.get?_push_of_some _ h1,h2,m,h3⟩⟩,?_,fun h' tk kk=>?_⟩
 ·intro i v s1 Q1 E1 hP hQ1
  rw [isB i v hP]
  exact wpAny_truthy_bool hQ1
 ·have e:((List.range its.toArray.size).any fun i=>bs.getD i true)=bs.any id:=by
   rw [List.size_toArray,← ln,Bool.eq_iff_iff,List.any_eq_true,List.any_eq_true]
   constructor
   ·rintro ⟨i,hi,h⟩
    have hi':=List.mem_range.mp hi
    rw [List.getD_eq_getElem?_getD,List.getElem?_eq_getElem hi'] at h
    exact ⟨_,List.getElem_mem hi',h⟩
   ·rintro ⟨b,hb,h⟩
    obtain ⟨i,hi,e⟩:=List.mem_iff_getElem.mp hb
    refine ⟨i,List.mem_range.mpr hi,?_⟩
    rw [List.getD_eq_getElem?_getD,List.getElem?_eq_getElem hi,e]
    exact h
  rw [e]
  exact ⟨.bl _,H,I.kept (t':=tk) fun b o' e'=>kk b o' (by simp; exact Nat.ne_of_lt (Heap.lt_size e')) (Heap.get?_push_of_some _ e'),rfl,q⟩
end L2
namespace L2
open PySem PySem.Spec PyProof.Rows
def rInsert:V→List V→Hp→VK→Prop:=fun x vs H Q=>∃ l xs i y,x=.ref l∧vs=[.int ((i:Nat):Int),y]∧H l=some (.lst xs)∧i≤xs.length∧xs.length < 1000000∧Q .non (upd H l (.lst (xs.take i++y::xs.drop i)))
theorem mt_insert {X:Cx}:MtM X "list.insert" rInsert:=by
 intro pins s σ H x vs v us Q I rx rv h
 obtain ⟨l,xs,i,y,rfl,rfl,hH,hi,hz,q⟩:=h
 cases rx
 obtain ⟨x,hx⟩:∃ x:Int,x=((i:Nat):Int):=⟨_,rfl⟩
 rw [← hx] at rv
 obtain ⟨u1,u2,rfl,r1,r2⟩:=vals2 rv
 obtain ⟨t,rfl⟩:=r1
 obtain ⟨z,its,n,r,hl,e⟩:=I.lstM hH
 have ln:=r.length
 have h0:Builtin.List.listFitsIndex x=true:=by
  unfold Builtin.List.listFitsIndex
  rw [Bool.and_eq_true,decide_eq_true_iff,decide_eq_true_iff]
  omega
 have h1:¬ (!Builtin.List.listFitsIndex x)=true:=by rw [h0]; exact Bool.false_ne_true
 have hsz:its.toArray.size≤sizeLine:=by rw [List.size_toArray,← ln]; exact z
 refine call_meets F.slot_list_insert ⟨_,e,rfl⟩ F.entry_list_insert (F.args_list_insert_3 _ _ _) (AutoListH.list_insert_list_int_val_1 l its.toArray n x t u2 h1 hsz) ⟨e,?_⟩
 refine ⟨.non,_,I.lset (its':=its.take i++u2::its.drop i) hH e ?_ (Vals.append (Vals.take i r) (.cons r2 (Vals.drop i r))) ?_,rfl,q⟩
 ·have k0:(if x < 0 then (x+((its.toArray.size:Nat):Int)).toNat else min x.toNat its.toArray.size)=i:=by
   rw [if_neg (by omega),hx,Int.toNat_natCast,List.size_toArray]
   omega
  show ((its.toArray.extract 0 (if x < 0 then (x+((its.toArray.size:Nat):Int)).toNat else min x.toNat its.toArray.size)).push u2++its.toArray.extract (if x < 0 then (x+((its.toArray.size:Nat):Int)).toNat else min x.toNat its.toArray.size))=_
  rw [k0]
  apply Array.ext'
  simp
  exact List.take_of_length_le (by simp)
 ·rw [List.length_append,List.length_cons,List.length_take,List.length_drop]
  exact fits (by omega)
def rIndex (K:PySem.W.Frag):V→List V→Hp→VK→Prop:=fun x vs H Q=>∃ a zs z j,x=.ref a∧vs=[.str z]∧SqL K H a (List.map V.str zs)∧zs[j]?=some z∧(∀ m,m < j→zs[m]?≠some z)∧Q (.int ((j:Nat):Int)) H
theorem mt_index {X:Cx}:MtM X "list.index" (rIndex X.K):=by
 intro pins s σ H x vs v us Q I rx rv h
 obtain ⟨a,zs,z,j,rfl,rfl,hq,ej,hn,q⟩:=h
 cases rx
 obtain ⟨u,rfl,ru⟩:=rv.one
 obtain ⟨t,rfl⟩:=ru
 obtain ⟨its,r,pl,hz⟩:=I.list hq
 obtain ⟨⟨cls,dd,data,sl⟩,ho,hc,n,hd⟩:=id pl.isList
 simp only at hc hd
 subst hc hd
 have ln:=r.length
 rw [List.length_map] at ln
 have lj:=(List.getElem?_eq_some_iff.mp ej).1
 have at_:∀ m (hm:m < its.toArray.size),∃ y,zs[m]?=some y∧RelV (.str y) its.toArray[m]:=fun m hm=>by
  have hm':m < its.length:=by simpa using hm
  obtain ⟨y,ey⟩:∃ y,zs[m]?=some y:=⟨zs[m]'(by omega),List.getElem?_eq_getElem (by omega)⟩
  obtain ⟨u,eu,ru⟩:=r.get (show (zs.map V.str)[m]?=some (.str y) by rw [List.getElem?_map,ey]; rfl)
  refine ⟨y,ey,?_⟩
  have:=(List.getElem?_eq_some_iff.mp eu).2
  have g:its.toArray[m]=u:=by simpa using this
  rw [g]; exact ru
 have eqs:∀ m (hm:m < its.toArray.size) y,zs[m]?=some y→eqU (.str z) its.toArray[m]=decide (y=z):=fun m hm y ey=>by
  obtain ⟨y',ey',ry'⟩:=at_ m hm
  rw [ey] at ey'
  cases ey'
  rw [eqU_of ry' rfl]
  show (y == z)=decide (y=z)
  rw [Bool.eq_iff_iff,beq_iff_eq,decide_eq_true_iff]
 have hj:j < its.toArray.size:=by rw [List.size_toArray]; omega
 refine call_meets F.slot_list_index ⟨_,ho,rfl⟩ F.entry_list_index (F.args_list_index_2 _ _) (SeqAt.list_indexAt a its.toArray n dd sl (.str z t) (eqU (.str z)) j hj (by rw [sizeLine_eq] at hz; rw [List.length_map] at hz; omega) (by rw [eqs j hj z ej]; exact decide_eq_true rfl) (fun m hm hlt=>?_)) ⟨ho,fun u hu=>?_,?_⟩
 ·obtain ⟨y,ey,_⟩:=at_ m hm
  rw [eqs m hm y ey]
  exact decide_eq_false fun h=>hn m hlt (by rw [ey,h])
 ·exact mem_eqAt (x:=.str z) ⟨t,rfl⟩ rfl r (by rw [List.all_map]; exact List.all_eq_true.mpr fun _ _=>rfl) u (by simpa using hu)
 ·exact ⟨.int _,H,I.tok _,⟨_,rfl⟩,q⟩
end L2
namespace L2
open PySem
theorem call_lenK {X:Cx} (K:PySem.W.Frag) (hK:X.K=K:=by rfl):CallR X (.builtin "len") (fun xs H Q=>∃ p ys,xs=[.ref p]∧(SqL K H p ys∨SqT K H p ys)∧Q (.int ys.length) H):=by
 subst hK
 exact call_len_seq
theorem op_in_seqK {X:Cx} (K:PySem.W.Frag) (hK:X.K=K:=by rfl):OpR X (compareOp .In) (rIn K false):=by
 subst hK
 exact op_in_seq
theorem mt_indexK {X:Cx} (K:PySem.W.Frag) (hK:X.K=K:=by rfl):MtM X "list.index" (rIndex K):=by
 subst hK
 exact mt_index
theorem pe_bmK {X:Cx} {o e:Expr} {es:List Expr} {to:TE} {t:TA} {name:Str} {apos cpos:Pos} {T id:String} {r:V→List V→Hp→VK→Prop} (K:PySem.W.Frag) (pa:PlainAttrs T) (slot:Slot T name id) (hty:typeOf (.builtin id)=pure (.type "method_descriptor")) (hm:MtR X id r) (ho:PE X o to) (ha:PA X (e::es) t) (hK:X.K=K:=by rfl)
  (hbase:attributeBase o name X.env (eval o X.env)=eval o X.env:=by rfl)
  (hfew:((backTo cpos (starEach (e::es) X.env)).all (fun x=>!x.1) && (backToKw cpos (keywordEach [] X.env)).all (fun x=>x.1.isSome)
   && decide ((e::es).length+([]:List Keyword).length+(if ([]:List Keyword).isEmpty then 0 else 1) < 30))=true:=by rfl)
  (hline:(apos.endLine == cpos.line)=true:=by rfl) (hs:starEach (e::es) X.env=(false,eval e X.env)::starEach es X.env:=by rfl) (hplain:(backTo cpos (starEach es X.env)).any (·.1)=false:=by rfl) :
  PE X (.Call (.Attribute o name apos) (e::es) [] cpos) (tBM K T r to t):=by
 subst hK
 exact pe_bm pa slot hty hm ho ha hbase hfew hline hs hplain
theorem op_ne_nil {X:Cx} (hu:X.A.units < cLine):OpR X (compareOp .NotEq) (fun x y H Q=>∃ a b xs,x=.ref a∧y=.ref b∧SqL X.K H a xs∧SqL X.K H b []∧Q (.bl (!xs.isEmpty)) H):=by
 intro pins s σ H x y v u Q I rx ry h
 obtain ⟨a,b,xs,rfl,rfl,ha,hb,q⟩:=h
 cases rx
 cases ry
 obtain ⟨its,r,pl,hz⟩:=I.list ha
 obtain ⟨its2,r2,pl2,hz2⟩:=I.list hb
 have e2:its2=[]:=Vals.zero r2
 subst e2
 have hlen:=r.length
 cases xs with
 | nil =>
  have e:its=[]:=Vals.zero r
  subst e
  exact SeqAt.RcNeAt.lists (e:=fun _=>true) pl.isList pl2.isList rfl hu (fun j h1 _=>absurd h1 (by simp)) X.prog X.w X.xe _ ⟨.bl false,H,I,rfl,q⟩
 | cons y ys =>
  refine SeqAt.RcNeAt.lists_lengths pl.isList pl2.isList ?_ hu X.prog X.w X.xe _ ⟨.bl true,H,I,rfl,q⟩
  rw [List.size_toArray,List.size_toArray,← hlen]
  simp
end L2
namespace L2
open PySem PySem.Spec PyProof.Rows
def DEq (K:PySem.W.Frag) (H:Hp):Nat→V→V→Prop
 | 0,x,y=>x=y∧PlainV x
 | n+1,x,y=>(x=y∧PlainV x)∨∃ a b xs ys,x=.ref a∧y=.ref b∧((SqL K H a xs∧SqL K H b ys)∨(SqT K H a xs∧SqT K H b ys))∧Paired (DEq K H n) xs ys
theorem DEq.self {K:PySem.W.Frag} {H:Hp} {x:V} (h:PlainV x):∀ n,DEq K H n x x
 | 0=>⟨rfl,h⟩
 | _+1=>.inl ⟨rfl,h⟩
theorem deq_items {A:Around} {s:Shared} {F:V→V→Prop} {xs ys:List V} {its its2:List Value} (r:Vals xs its) (r2:Vals ys its2) (p:Paired F xs ys) (hF:∀ x y u v,F x y→RelV x u→RelV y v→SeqAt.EqAt A s u v true) (j:Nat) (h1:j < its.toArray.size) (h2:j < its2.toArray.size) :
  SeqAt.EqAt A s its.toArray[j] its2.toArray[j] true:=by
 have l1:=r.length
 have l2:=r2.length
 have k1:j < its.length:=by simpa using h1
 have k2:j < its2.length:=by simpa using h2
 have g2:ys[j]?=some (ys[j]'(by omega)):=List.getElem?_eq_getElem (by omega)
 obtain ⟨x,g1,fx⟩:=Paired.at_ p j _ g2
 obtain ⟨u1,e1,q1⟩:=r.get g1
 obtain ⟨u2,e2,q2⟩:=r2.get g2
 have f1:its.toArray[j]=u1:=by
  have:=(List.getElem?_eq_some_iff.mp e1).2
  simpa using this
 have f2:its2.toArray[j]=u2:=by
  have:=(List.getElem?_eq_some_iff.mp e2).2
  simpa using this
 rw [f1,f2]
 exact hF _ _ _ _ fx q1 q2
theorem deq_eq {X:Cx} {pins:List (Addr×Obj)} {σ:St} {H:Hp} {s:Shared} (I:Inv X pins σ H s):∀ (n:Nat) (A:Around) (x y:V) (u v:Value),DEq X.K H n x y→RelV x u→RelV y v→A.units+n < cLine→SeqAt.EqAt A s u v true
 | 0,A,x,y,u,v,⟨e,h⟩,ru,rv,_=>by subst e; exact eq_at_self h ru rv
 | n+1,A,x,y,u,v,.inl ⟨e,h⟩,ru,rv,_=>by subst e; exact eq_at_self h ru rv
 | n+1,A,x,y,u,v,.inr ⟨a,b,xs,ys,ex,ey,hs,p⟩,ru,rv,hu=>by
  subst ex; subst ey
  cases (show u=Value.ref a from ru)
  cases (show v=Value.ref b from rv)
  by_cases e:a=b
  ·subst e; exact .same _
  refine .of_refs e ?_
  have lp:=Paired.length p
  rcases hs with ⟨ha,hb⟩ | ⟨ha,hb⟩
  ·obtain ⟨its,r,pl,_⟩:=I.list ha
   obtain ⟨its2,r2,pl2,_⟩:=I.list hb
   have l1:=r.length
   have l2:=r2.length
   have q:=SeqAt.RcAt.lists (A:=A) (s:=s) (e:=fun _=>true) pl.isList pl2.isList (by simp only [List.size_toArray]; omega) (by omega) (fun j h1 h2=>deq_items r r2 p (fun x y u v d r1 r2=>deq_eq I n A.in1 x y u v d r1 r2 (by rw [Around.in1_units]; omega)) j h1 h2)
   have e:((List.range its.toArray.size).all fun _=>true)=true:=by simp
   rw [e] at q
   exact q
  ·obtain ⟨its,r,pl,_⟩:=I.tuple ha
   obtain ⟨its2,r2,pl2,_⟩:=I.tuple hb
   have l1:=r.length
   have l2:=r2.length
   have q:=SeqAt.RcAt.tuples (A:=A) (s:=s) (e:=fun _=>true) pl pl2 (by omega) (fun j h1 h2=>deq_items r r2 p (fun x y u v d r1 r2=>deq_eq I n A.in1 x y u v d r1 r2 (by rw [Around.in1_units]; omega)) j h1 h2)
   have e1:((List.range (min its.toArray.size its2.toArray.size)).all (fun _=>true) && its.toArray.size == its2.toArray.size)=true:=by
    have:its.toArray.size=its2.toArray.size:=by simp only [List.size_toArray]; omega
    rw [this]
    simp
   rw [e1] at q
   exact q
def rDeep (K:PySem.W.Frag) (b:Bool) (n:Nat):V→V→Hp→VK→Prop:=fun x y H Q=>∃ p q xs ys,x=.ref p∧y=.ref q∧SqL K H p xs∧SqL K H q ys∧Paired (DEq K H n) xs ys∧Q (.bl b) H
theorem op_ne_deep {X:Cx} (n:Nat) (hu:X.A.units+(n+1) < cLine):OpR X (compareOp .NotEq) (rDeep X.K false n):=by
 intro pins s σ H x y v u Q I rx ry h
 obtain ⟨a,b,xs,ys,rfl,rfl,ha,hb,p,q⟩:=h
 cases rx
 cases ry
 obtain ⟨its,r,pl,hz⟩:=I.list ha
 obtain ⟨its2,r2,pl2,hz2⟩:=I.list hb
 have l1:=r.length
 have l2:=r2.length
 have lp:=Paired.length p
 refine SeqAt.RcNeAt.lists (e:=fun _=>true) pl.isList pl2.isList (by simp only [List.size_toArray]; omega) (by omega) (fun j h1 h2=>deq_items r r2 p (fun x y u v d r1 r2=>deq_eq I n X.A.in1 x y u v d r1 r2 (by rw [Around.in1_units]; omega)) j h1 h2) X.prog X.w X.xe _ ?_
 have e:(!(List.range its.toArray.size).all fun _=>true)=false:=by simp
 rw [e]
 exact ⟨.bl false,H,I,rfl,q⟩
end L2
namespace L2
open PySem PySem.Spec PyProof.Rows
theorem lt_trans:∀ a b c:List Nat,ltCps b a=false→ltCps c b=false→ltCps c a=false
 | [],b,[],_,_=>ltCps.eq_1
 | [],b,_::_,_,_=>ltCps.eq_3 _ _
 | x::r,[],c,h,_=>by rw [ltCps.eq_2] at h; cases h
 | x::r,y::t,[],_,k=>by rw [ltCps.eq_2] at k; cases k
 | x::r,y::t,z::u,h,k=>by
  rw [ltCps.eq_4,Bool.or_eq_false_iff,decide_eq_false_iff_not] at h k ⊢
  refine ⟨by omega,?_⟩
  by_cases e:z=x
  ·have e1:y=x:=by omega
   subst e; subst e1
   have h2:=h.2
   have k2:=k.2
   rw [beq_self_eq_true,Bool.true_and] at h2 k2 ⊢
   exact lt_trans r t u h2 k2
  ·rw [beq_eq_false_iff_ne.mpr e,Bool.false_and]
end L2
namespace L2
open PySem PySem.Spec PyProof.Rows
section
variable {prog:Program} {w:World} {A:Around} {E:Value→Shared→Prop} {s:Shared}
abbrev IsZip2 (h:Heap) (z:Addr) (f0 f1:Value) (TI TO:Addr):Prop:=h.get? z=some { cls:=.type "zip",data:=.fields #[f0,f1,.bool false,.ref TI,.ref TO] }
end
end L2
namespace L2
open PySem PySem.Spec PyProof.Rows
end L2
namespace L2
open PySem PySem.Spec PyProof.Rows
structure ZSt (h:Heap) (z TI TO i1 i2 l1 l2:Addr) (xs ys:Array Value) (i:Nat):Prop where
 hz:∃ f0 f1,IsZip2 h z f0 f1 TI TO∧(f0=.none∨∃ T:Nat,f0=rawInt T)
 hI:IsPair h TI (.ref i1) (.ref i2)
 hO:∃ a b,IsPair h TO a b
 h1:h.IsTupleIter i1 l1 i
 h2:h.IsTupleIter i2 l2 i
 t1:h.IsTuple l1 xs
 t2:h.IsTuple l2 ys
theorem tuple_at {h h':Heap} {l:Addr} {xs:Array Value} (t:h.IsTuple l xs) (k:∀ o,h.get? l=some o→h'.get? l=some o):h'.IsTuple l xs:=by
 obtain ⟨o,a,b,c⟩:=t
 exact ⟨o,k o a,b,c⟩
def AccOk (h:Heap) (N:Nat) (xs ys acc:Array Value):Prop:=∃ Ts:List Nat,acc.toList=Ts.map Value.ref∧Ts.Pairwise (· < ·)∧∀ (j T:Nat),Ts[j]?=some T→N≤T∧∃ x y:Value,IsPair h T x y∧xs[j]?=some x∧ys[j]?=some y
theorem AccOk.keep {h h':Heap} {N:Nat} {xs ys acc:Array Value} (a:AccOk h N xs ys acc) (k:∀ (T:Nat) o,N≤T→h.get? T=some o→h'.get? T=some o):AccOk h' N xs ys acc:=by
 obtain ⟨Ts,e1,e2,e3⟩:=a
 refine ⟨Ts,e1,e2,fun j T hj=>?_⟩
 obtain ⟨l,x,y,p,q⟩:=e3 j T hj
 exact ⟨l,x,y,k T _ l p,q⟩
theorem AccOk.more {h:Heap} {N T0:Nat} {xs ys acc:Array Value} {x y:Value} (a:AccOk h N xs ys acc) (lt:∀ (Ts:List Nat),acc.toList=Ts.map Value.ref→∀ T∈Ts,T < T0) (hN:N≤T0) (p:IsPair h T0 x y) (hx:xs[acc.size]?=some x) (hy:ys[acc.size]?=some y):AccOk h N xs ys (acc.push (.ref T0)):=by
 obtain ⟨Ts,e1,e2,e3⟩:=a
 have el:Ts.length=acc.size:=by
  have:=congrArg List.length e1
  rw [List.length_map] at this
  rw [← this]; simp
 refine ⟨Ts++[T0],by rw [Array.toList_push,e1,List.map_append]; rfl,List.pairwise_append.mpr ⟨e2,by simp,fun T hT b hb=>by rw [List.mem_singleton.mp hb]; exact lt Ts e1 T hT⟩,fun j T hj=>?_⟩
 by_cases c:j < Ts.length
 ·rw [List.getElem?_append_left c] at hj
  exact e3 j T hj
 ·rw [List.getElem?_append_right (by omega)] at hj
  have c2:j - Ts.length=0:=by
   have:=(List.getElem?_eq_some_iff.mp hj).1
   simp at this
   omega
  rw [c2] at hj
  cases hj
  have:j=acc.size:=by omega
  rw [this]
  exact ⟨hN,x,y,p,hx,hy⟩
end L2
namespace L2
open PySem PySem.Spec PyProof.Rows
theorem ZSt.keep {h h':Heap} {z TI TO i1 i2 l1 l2:Addr} {xs ys:Array Value} {i:Nat} (st:ZSt h z TI TO i1 i2 l1 l2 xs ys i) (k:∀ b o,h.get? b=some o→h'.get? b=some o):ZSt h' z TI TO i1 i2 l1 l2 xs ys i:=by
 obtain ⟨⟨f0,f1,a,b⟩,hI,⟨c,d,hO⟩,h1,h2,t1,t2⟩:=st
 exact ⟨⟨f0,f1,k _ _ a,b⟩,k _ _ hI,⟨c,d,k _ _ hO⟩,h1.at fun o q=>k _ _ q,h2.at fun o q=>k _ _ q,tuple_at t1 fun o q=>k _ _ q,tuple_at t2 fun o q=>k _ _ q⟩
end L2
namespace L2
open PySem PySem.Spec PyProof.Rows
end L2
namespace HT
open PySem PyProof.Rows
section
variable {prog:Program} {w:World} {A:Around} {E:Value→Shared→Prop} {s:Shared}
end
end HT
namespace L2
open PySem PySem.Spec PyProof.Rows
end L2
namespace L2
open PySem
end L2
namespace L2
open PySem PySem.Spec PyProof.Rows
section
variable {prog:Program} {w:World} {A:Around} {E:Value→Shared→Prop} {s:Shared}
end
structure ZTn (h:Heap) (z TI TO i1 i2 l1 l2:Addr) (i:Nat):Prop where
 hz:∃ f0 f1,IsZip2 h z f0 f1 TI TO∧(f0=.none∨∃ T:Nat,f0=rawInt T)
 hI:IsPair h TI (.ref i1) (.ref i2)
 hO:∃ a b,IsPair h TO a b
 h1:h.IsTupleIter i1 l1 i
 h2:h.IsTupleIter i2 l2 i
end L2
namespace HT
open PySem PySem.Spec PyProof.Rows
section
variable {prog:Program} {w:World} {A:Around} {E:Value→Shared→Prop} {s:Shared}
end
end HT
namespace L2
open PySem PySem.Spec PyProof.Rows
end L2
namespace L2
open PySem PySem.Spec PyProof.Rows
end L2
namespace L2
open PySem PySem.Spec PyProof.Rows
section
variable {prog:Program} {w:World} {A:Around} {E:Value→Shared→Prop} {s:Shared}
end
end L2
namespace L2
open PySem PySem.Spec PyProof.Rows
end L2
namespace L2
open PySem PySem.W PyProof.Rows
section
variable {n:Nat} {lt:Nat→Nat→Bool} {cmp:Nat→Nat→(Bool→Shared→Prop)→Shared→Prop} {s:Shared}
structure OrdN (n:Nat) (lt:Nat→Nat→Bool):Prop where
 trans:∀ a b c,a < n→b < n→c < n→lt b a=false→lt c b=false→lt c a=false
 asym:∀ a b,a < n→b < n→lt a b=true→lt b a=false
structure PmN (n:Nat) (p:Array Nat):Prop where
 pm:p.Perm (List.range n).toArray
theorem PmN.size {p:Array Nat} (h:PmN n p):p.size=n:=by
 have:=h.pm.size_eq
 simpa using this
theorem PmN.inn {p:Array Nat} (h:PmN n p) {i:Nat} (hi:i < n):p.getD i 0 < n:=by
 have hs:=h.size
 have e:p.getD i 0=p[i]'(by omega):=by simp [Array.getD,hs,hi]
 rw [e]
 have:p[i]'(by omega)∈(List.range n).toArray:=h.pm.mem_iff.mp (Array.getElem_mem _)
 simpa using this
abbrev at_ (p:Array Nat) (i:Nat):Nat:=p.getD i 0
def SrtN (lt:Nat→Nat→Bool) (p:Array Nat) (k:Nat):Prop:=∀ i j,i≤j→j < k→lt (at_ p j) (at_ p i)=false
def NonN (lt:Nat→Nat→Bool) (p:Array Nat) (k:Nat):Prop:=∀ i j,i≤j→j < k→lt (at_ p i) (at_ p j)=false
theorem OrdN.irr (o:OrdN n lt) {a:Nat} (h:a < n):lt a a=false:=by
 cases e:lt a a with
 | false=>rfl
 | true=>rw [← o.asym a a h h e,e]
theorem SrtN.more {p:Array Nat} {m:Nat} (o:OrdN n lt) (P:PmN n p) (h:SrtN lt p m) (hm:1≤m) (hn:m < n) (c:lt (at_ p m) (at_ p (m - 1))=false):SrtN lt p (m+1):=by
 intro i j hij hj
 by_cases e:j=m
 ·subst e
  by_cases e2:i=j
  ·subst e2; exact o.irr (P.inn hn)
  ·exact o.trans _ (at_ p (j - 1)) _ (P.inn (by omega)) (P.inn (by omega)) (P.inn hn) (h i (j - 1) (by omega) (by omega)) c
 ·exact h i j hij (by omega)
theorem NonN.more {p:Array Nat} {m:Nat} (o:OrdN n lt) (P:PmN n p) (h:NonN lt p m) (hm:1≤m) (hn:m < n) (c:lt (at_ p (m - 1)) (at_ p m)=false):NonN lt p (m+1):=by
 intro i j hij hj
 by_cases e:j=m
 ·subst e
  by_cases e2:i=j
  ·subst e2; exact o.irr (P.inn hn)
  ·exact o.trans _ (at_ p (j - 1)) _ (P.inn hn) (P.inn (by omega)) (P.inn (by omega)) c (h i (j - 1) (by omega) (by omega))
 ·exact h i j hij (by omega)
end
end L2
namespace L2
open PySem PySem.Spec PyProof.Rows
theorem Inv.laidL {X:Cx} {pins:List (Addr×Obj)} {σ:St} {H:Hp} {s:Shared} {h':Heap} {a:Addr} {o:HO} {t':Nat} (I:Inv X pins σ H s) (k:∀ b u,b≠X.env.locals→s.heap.get? b=some u→h'.get? b=some u)
  (ns:∀ m,s.heap.Ns X.env.locals m→h'.Ns X.env.locals m) (hp:s.heap.get? a=none) (hn:H a=none) (new:ObjOk X.prog X.w (upd H a o) h' a o):Inv X pins σ (upd H a o) { s with heap:=h',toks:=t' }:=by
 have ne:∀ b u,s.heap.get? b=some u→b≠a:=fun b u q z=>by rw [z,hp] at q; cases q
 refine I.step (g':=s.gens) (d':=s.drawn) (ch:=[]) (fun _ z=>nomatch z) (fun b u hb _ _ e _=>k b u hb e) (fun b u hb _ _ e _=>⟨u.slots,k b u hb e⟩) (fun b u _ e n=>by rw [upd_ne (ne b u e)]; exact n)
  (fun b u _ e=>?_) (fun b xs q=>by rw [upd_ne (ne_of_none q hn)]; exact q) (fun b u xs q=>by rw [upd_ne (ne_of_none q hn)]; exact q) (fun b ps q=>⟨#[],by rw [upd_ne (ne_of_none q hn),q]; simp⟩) ns (fun b u e=>?_) I.bare
 ·by_cases hb:b=X.env.locals
  ·obtain ⟨m,hm,_⟩:=I.loc
   obtain ⟨o',_,_,ho',_⟩:=ns m hm
   exact ⟨o',by rw [hb]; exact ho'⟩
  ·exact ⟨u,k b u hb e⟩
 ·by_cases hb:b=a
  ·subst hb; rw [upd_same] at e; cases e; exact new
  ·rw [upd_ne hb] at e
   refine (I.hok b u e).stay (fun c v hc q=>k c v ?_ q) (fun c q=>by rw [upd_ne (ne_of_none q hn)]; exact q) fun c xs q=>by rw [upd_ne (ne_of_none q hn)]; exact q
   rintro rfl
   rcases hc with rfl | hc
   ·rw [I.free] at e; cases e
   ·rw [I.free] at hc; cases hc
theorem ok_there {P:Program} {w:World} {H:Hp} {h:Heap} {a:Addr} {o:HO} (x:ObjOk P w H h a o):∃ u,h.get? a=some u:=by
 cases o with
 | lst xs=>obtain ⟨_,_,_,_,e⟩:=x; exact ⟨_,e⟩
 | tup xs=>obtain ⟨_,_,_,ob,e,_⟩:=x; exact ⟨_,e⟩
 | dK kvs=>obtain ⟨_,_,_,_,o,_,_,e,_⟩:=x; exact ⟨_,e⟩
 | dT kvs=>obtain ⟨_,_,_,_,o,_,_,e,_⟩:=x; exact ⟨_,e⟩
 | set S n=>obtain ⟨o,_,_,_,e,_⟩:=x; exact ⟨_,e⟩
 | ins C dx fs=>obtain ⟨_,_,_,e,_⟩:=x; exact ⟨_,e⟩
 | own y=>obtain ⟨_,e⟩:=x; exact ⟨_,e⟩
 | xd fs=>obtain ⟨_,⟨_,_,_,e,_⟩,_⟩:=x; exact ⟨_,e⟩
 | rng lo hi=>obtain ⟨_,_,_,e⟩:=x; exact ⟨_,e⟩
 | frz ob u=>obtain ⟨e,_⟩:=x; exact ⟨_,e⟩
 | tbl ps=>exact ⟨_,(show h.get? a=some _ from x)⟩
 | met f y=>exact ⟨_,(show h.get? a=some _ from x)⟩
 | ext φ=>obtain ⟨_,⟨_,e⟩,_⟩:=x; exact ⟨_,e⟩
end L2
namespace L2
open PySem PySem.Spec PyProof.Rows PySem.W
section
variable {P:Program} {w:World} {A:Around} {E:Value→Shared→Prop} {s:Shared}
theorem key_call {f c' c d:Addr} {q:Str} {params:Arguments} {scope:Scope} {cl:List (Str×Addr)} {pm ctv:Value} {p1 p2 p3:Pos} {xs xh:Str} {vs:List (Key×Value)} {z:Str} {t:Tok} {u:Value} {oc:Obj} {Q:Value→Shared→Prop}
  (hroom:A.depth < recursionLimit) (nl:s.heap.NoLimit) (hf:s.heap.get? f=some (kla_obj "<lambda>" q params (.Subscript (.Name xs p1) (.Name xh p2) p3) scope cl pm c' ctv)) (hc:s.heap.CodeRec (.ref c') q)
  (hb:∀ us:List Value,us.length=1→bindArgs (kla_fn "<lambda>" q params (.Subscript (.Name xs p1) (.Name xh p2) p3) scope cl pm (.ref c') ctv) ⟨us,[]⟩=pure ([xh].zip us))
  (hk:scope.kind=.function) (hco:scope.isCoroutine=false) (hgen:scope.isGenerator=false) (hnc:∀ x∈scope.names,x.2≠.cell) (hh:scope.names.lookup xh=some .local) (hs:scope.names.lookup xs=some .free)
  (hcl:cl.lookup xs=some c) (ho:s.heap.get? c=some oc) (hoc:oc.data=.cell (some (.ref d))) (dd:s.heap.DictOf (mixKind P w) d vs) (hv:valueAt vs (Sum.inr z)=some u)
  (d1:(xs == ("__debug__":Str))=false) (d2:(xh == ("__debug__":Str))=false) (d3:(xs == ("__classdict__":Str))=false)
  (h:∀ h' tk,(∀ b o,s.heap.get? b=some o→h'.get? b=some o)→Q u { s with heap:=h',toks:=tk }):wpAny (model P w) A (call (.ref f) [.str z t]) Q E s:=by
 refine wpAny_call (kla_callFunE hroom hf rfl hco hgen rfl hc ?_)
 rw [hb [.str z t] rfl]
 refine wpAny_pure (wpAny_newFunctionEnv hnc (fun x hx=>?_) (fun h₁ hns hsb=>⟨nl.fresh _ hsb,?_⟩) hk)
 ·have:x=(xh,Value.str z t):=by simpa using hx
  rw [this]; exact hh
 show codeAny _ _ (.expr (.Subscript (.Name xs p1) (.Name xh p2) p3) (envX q scope s.heap.objs.size f (.ref c') cl)) _ _
 have k1:∀ b o,s.heap.get? b=some o→h₁.get? b=some o:=fun b o e=>hsb.extBut b o (Nat.ne_of_lt (Heap.lt_size e)) (Heap.get?_push_of_some _ e)
 refine kla_codeExpr (subD_of PySem.F.slot_dict_getitem.lookup (fun _ _=>rfl) ?_)
 refine wpAny_Name (wpAny_loadName_free hk hs hcl ⟨oc,k1 _ _ ho,hoc⟩ ?_ d3) d1
 refine wpAny_Name (wpAny_loadName_local hk hh hns (show ([(xh,Value.str z t)]:List (Str×Value)).reverse.lookup xh=some (.str z t) by simp [List.lookup]) ?_) d2
 have dd1:h₁.DictOf (mixKind P w) d vs:=by
  obtain ⟨o,es,ep,g,r⟩:=dd
  exact ⟨o,es,ep,k1 _ _ g,r⟩
 refine ⟨dd1.typeIs,wpAny_getItem_of (kV_is (k:=Sum.inr z) ⟨t,rfl⟩) dd1.mapOf hv ?_⟩
 exact h h₁ _ k1
end
section
variable {X:Cx} {params:Arguments} {body:Expr} {scope:Scope} {pos:Pos} {c T:Addr}
abbrev lamObjC (X:Cx) (params:Arguments) (body:Expr) (scope:Scope) (cl:List (Str×Addr)) (c':Addr) (ctv:Value):Obj:=kla_obj "<lambda>" (X.env.qual ++ "<lambda>") params body scope cl ((X.mg "__name__").getD .none) c' ctv
def tLamC (X:Cx) (params:Arguments) (body:Expr) (scope:Scope) (pos:Pos) (T:Addr):TE:=fun σ H Q=>Tab T pos (X.env.qual ++ "<lambda>") H ∧
 ∀ f c' ctv cl H',Clos X.env scope cl→SameT T H H'→Tab T pos (X.env.qual ++ "<lambda>") H'→H f=none→H' f=some (lamO f (lamObjC X params body scope cl c' ctv))→H' c'=some (codeO c' (X.env.qual ++ "<lambda>"))→Q (.ref f) H'
theorem pe_lamC (hcode:X.env.code=.ref c) (hC:codeHdIn X.K c T=true) (hB:BmAt X.mg X.base) (hfree:∀ y,(y,NameKind.free)∈scope.names→X.env.scope.names.lookup y=some .cell) (hdef:defaultsOf params X.env=([],[]):=by rfl):PE X (.Lambda params body scope pos) (tLamC X params body scope pos T):=by
 intro pins s σ H Q I h
 obtain ⟨⟨ps,hT,ht,hcase⟩,q⟩:=h
 refine kla_eval hdef ?_
 obtain ⟨cl,hcl⟩:=clos_of (env:=X.env) (scope:=scope) fun y hy=>I.ok.has y (.inl (hfree y hy))
 have hTa:s.heap.get? T=some (tabObj ps):=(show ObjOk X.prog X.w H s.heap T (.tbl ps) from I.hok T _ hT)
 have hg:=I.mod.glob.keeps I.bk
 have C:=codeHd_of_K I.kIn hC
 obtain ⟨bm,ob,b1,b2,b3,b4,b5,b6,b7⟩:=hB
 have b4':=I.bk _ _ b4
 have nbT:bm≠T:=fun z=>by
  have:=(I.bs _ _ b4).2
  rw [z,hT] at this; cases this
 have ngT:mainGlobals≠T:=fun z=>by
  obtain ⟨o,es,ep,e,d,_⟩:=hg
  rw [z,hTa] at e; cases e; cases d
 have hBA:s.heap.BuiltinsAt X.mg T:=⟨bm,ob,b1,b2,b3,nbT,b4',b5,b6,b7⟩
 have trk:∀ b v,H b=some v→b < s.heap.objs.size:=fun b v e=>I.hok.lt e
 rcases hcase with hnf | ⟨c',hf,hc'⟩
 ·refine kla_makeFunction hcl.eq I.ok.glob hg hcode C hTa ht hnf ngT hBA fun c' ctv h' tk hx hge hlt hrec htb=>?_
  have hcr:∃ oc,h'.get? c'=some oc:=by
   obtain ⟨c2,oc,vs,t,e,hoc,_⟩:=hrec
   cases e
   exact ⟨oc,hoc⟩
  have hgrow:h'.objs.size > s.heap.objs.size:=Nat.lt_of_le_of_lt hge hlt
  have keep:∀ b o,b≠T→s.heap.get? b=some o→(h'.push (lamObjC X params body scope cl c' ctv)).get? b=some o:=fun b o n e=>Heap.get?_push_of_some _ (hx b o n e)
  let H':Hp:=upd (upd (upd H T (.tbl (ps++#[rawInt pos.line,rawInt pos.col,.ref c']))) c' (codeO c' (X.env.qual ++ "<lambda>"))) h'.objs.size (lamO h'.objs.size (lamObjC X params body scope cl c' ctv))
  have lt_c:∀ b v,H b=some v→b≠c'∧b≠h'.objs.size:=fun b v e=>⟨Nat.ne_of_lt (Nat.lt_of_lt_of_le (trk b v e) hge),Nat.ne_of_lt (Nat.lt_trans (trk b v e) hgrow)⟩
  have ncf:c'≠h'.objs.size:=Nat.ne_of_lt hlt
  have nTc:=lt_c T _ hT
  have eT:H' T=some (.tbl (ps++#[rawInt pos.line,rawInt pos.col,.ref c'])):=by
   show upd (upd (upd H T _) c' _) h'.objs.size _ T=_
   rw [upd_ne nTc.2,upd_ne nTc.1,upd_same]
  have ec:H' c'=some (codeO c' (X.env.qual ++ "<lambda>")):=by
   show upd (upd (upd H T _) c' _) h'.objs.size _ c'=_
   rw [upd_ne ncf,upd_same]
  have ef:H' h'.objs.size=some (lamO h'.objs.size (lamObjC X params body scope cl c' ctv)):=upd_same
  have eo:∀ b,b≠T→b≠c'→b≠h'.objs.size→H' b=H b:=fun b n1 n2 n3=>by
   show upd (upd (upd H T _) c' _) h'.objs.size _ b=_
   rw [upd_ne n3,upd_ne n2,upd_ne n1]
  have sT:SameT T H H':=fun b o n e=>by rw [eo b n (lt_c b o e).1 (lt_c b o e).2]; exact e
  have I2:Inv X pins σ H' { s with heap:=h'.push (lamObjC X params body scope cl c' ctv),toks:=tk }:=by
   refine I.call (g':=s.gens) (t':=tk) (d':=s.drawn) (ch:=[]) ⟨fun b o e n _ _=>keep b o (fun z=>by rw [z,hT] at n; cases n) e,fun b o e n _ _=>⟨o.slots,keep b o (fun z=>by rw [z,hT] at n; cases n) e⟩,fun b o e n _=>?_,fun b o e _=>?_,fun b xs e=>?_,fun b o u e=>?_,fun b ps' e=>?_⟩ (fun b v e=>?_) I.bare (fun b hb=>nomatch hb)
   ·have lb:=Heap.lt_size e
    rw [eo b (fun z=>by rw [z,hT] at n; cases n) (Nat.ne_of_lt (Nat.lt_of_lt_of_le lb hge)) (Nat.ne_of_lt (Nat.lt_trans lb hgrow))]
    exact n
   ·by_cases z:b=T
    ·exact ⟨_,by rw [z]; exact Heap.get?_push_of_some _ htb⟩
    ·exact ⟨o,keep b o z e⟩
   ·exact sT b _ (fun z=>by rw [z,hT] at e; cases e) e
   ·exact sT b _ (fun z=>by rw [z,hT] at e; cases e) e
   ·by_cases z:b=T
    ·subst z
     rw [hT] at e
     cases e
     exact ⟨_,eT⟩
    ·exact ⟨#[],by rw [Array.append_empty]; exact sT b _ z e⟩
   ·by_cases z1:b=h'.objs.size
    ·subst z1
     rw [ef] at e
     cases e
     exact lamO_ok (Heap.get?_push_size _ rfl)
    ·by_cases z2:b=c'
     ·subst z2
      rw [ec] at e
      cases e
      refine codeO_ok ?_
      obtain ⟨c2,oc,vs,t,e',hoc,hd,hv⟩:=hrec
      cases e'
      exact ⟨_,oc,vs,t,rfl,Heap.get?_push_of_some _ hoc,hd,hv⟩
     ·by_cases z3:b=T
      ·subst z3
       rw [eT] at e
       cases e
       exact Heap.get?_push_of_some _ htb
      ·rw [eo b z3 z2 z1] at e
       refine (I.hok b v e).stay (fun d o hd' e'=>?_) (fun d e'=>sT d _ (fun z=>by rw [z,hT] at e'; cases e') e') fun d ys e'=>sT d _ (fun z=>by rw [z,hT] at e'; cases e') e'
       rcases hd' with rfl | hd'
       ·exact keep d o z3 e'
       ·exact keep d o (fun z=>by rw [z,hT] at hd'; cases hd') e'
  have fresh:H h'.objs.size=none:=I.hok.fresh (Nat.le_of_lt hgrow)
  exact ⟨.ref h'.objs.size,H',I2,rfl,q _ c' ctv cl H' hcl sT ⟨_,eT,by rw [Array.toList_append]; exact triples_snoc _ ht,.inr ⟨c',by rw [Array.toList_append]; exact codeAmong_snoc _ ht hnf,ec⟩⟩ fresh ef ec⟩
 ·refine kla_makeFunctionHit hcl.eq I.ok.glob hg hcode C hTa ht hf hBA fun ctv h' tk hk hsz=>?_
  have keep:∀ b o,s.heap.get? b=some o→(h'.push (lamObjC X params body scope cl c' ctv)).get? b=some o:=fun b o e=>Heap.get?_push_of_some _ (hk b o e)
  have fresh:H h'.objs.size=none:=I.hok.fresh hsz
  refine ⟨.ref h'.objs.size,_,I.laid (a:=h'.objs.size) (o:=lamO h'.objs.size (lamObjC X params body scope cl c' ctv)) (t':=tk) keep hsz (lamO_ok (Heap.get?_push_size _ rfl)),rfl,?_⟩
  refine q _ c' ctv cl _ hcl (fun b o _ e=>by rw [upd_ne (ne_of_none e fresh)]; exact e) ⟨ps,by rw [upd_ne (ne_of_none hT fresh)]; exact hT,ht,.inr ⟨c',hf,by rw [upd_ne (ne_of_none hc' fresh)]; exact hc'⟩⟩ fresh upd_same (by rw [upd_ne (ne_of_none hc' fresh)]; exact hc')
end
end L2
namespace L2
open PySem PySem.Spec PyProof.Rows PySem.W
theorem strs_at:∀ {zs:List Str} {its:List Value},Vals (zs.map V.str) its→∀ (i:Nat) (v:Value),its[i]?=some v→∃ z t,zs[i]?=some z∧v=.str z t
 | [],[],_,i,v,h=>by simp at h
 | z::r,u::its,h,i,v,hi=>by
  cases h with
  | cons a b =>
   cases i with
   | zero =>
    cases hi
    obtain ⟨t,e⟩:=(show ∃ t,u=Value.str z t from a)
    exact ⟨z,t,rfl,e⟩
   | succ i=>exact strs_at b i v hi
theorem strs_vals:∀ (ps:List (Str×Tok)),Vals ((ps.map (·.1)).map V.str) (ps.map fun p=>Value.str p.1 p.2)
 | []=>.nil
 | p::r=>.cons ⟨p.2,rfl⟩ (strs_vals r)
theorem strs_toks:∀ {zs:List Str} {its:List Value},Vals (zs.map V.str) its→∃ ps:List (Str×Tok),ps.map (·.1)=zs∧its=ps.map fun p=>Value.str p.1 p.2
 | [],[],_=>⟨[],rfl,rfl⟩
 | z::r,u::its,h=>by
  cases h with
  | cons a b =>
   obtain ⟨t,e⟩:=(show ∃ t,u=Value.str z t from a)
   obtain ⟨ps,e1,e2⟩:=strs_toks b
   exact ⟨(z,t)::ps,by rw [List.map_cons,e1],by rw [List.map_cons,e2,e]⟩
theorem perm_unmap {α β:Type} {f:α→β} {l m:List β} (h:l.Perm m):∀ ps:List α,m=ps.map f→∃ qs:List α,l=qs.map f∧qs.Perm ps:=by
 induction h with
 | nil =>
  intro ps e
  cases ps with
  | nil=>exact ⟨[],rfl,.nil⟩
  | cons p r=>cases e
 | cons x h ih =>
  intro ps e
  cases ps with
  | nil=>cases e
  | cons p r =>
   rw [List.map_cons] at e
   injection e with e1 e2
   obtain ⟨qs,a,b⟩:=ih r e2
   exact ⟨p::qs,by rw [List.map_cons,a,e1],b.cons p⟩
 | swap x y l =>
  intro ps e
  match ps,e with
  | [],e=>cases e
  | [_],e=>cases e
  | p::p2::r,e =>
   rw [List.map_cons,List.map_cons] at e
   injection e with e1 e2
   injection e2 with e3 e4
   exact ⟨p2::p::r,by rw [List.map_cons,List.map_cons,e1,e3,e4],.swap p p2 r⟩
 | trans h1 h2 i1 i2 =>
  intro ps e
  obtain ⟨qs,a,b⟩:=i2 ps e
  obtain ⟨rs,c,d⟩:=i1 qs a
  exact ⟨rs,c,d.trans b⟩
theorem out_strs {g:Str→Int} {ps:List (Str×Tok)} {out:List Value} (h:KskOut false ((ps.map (·.1)).map g) (ps.map fun p=>Value.str p.1 p.2) out) :
  ∃ qs:List (Str×Tok),out=qs.map (fun p=>Value.str p.1 p.2)∧(qs.map (·.1)).Perm (ps.map (·.1))∧(qs.map (·.1)).Pairwise fun x y=>g x≤g y:=by
 obtain ⟨rs,h1,h2,h3⟩:=h
 have ez:((ps.map (·.1)).map g).zip (ps.map fun p=>Value.str p.1 p.2)=ps.map fun p=>(g p.1,Value.str p.1 p.2):=by
  rw [List.map_map,List.zip_map,List.zip_eq_zipWith]
  induction ps with
  | nil=>rfl
  | cons p r ih=>simp_all
 rw [ez] at h1
 obtain ⟨qs,q1,q2⟩:∃ qs:List (Str×Tok),rs=qs.map (fun p=>(g p.1,Value.str p.1 p.2))∧qs.Perm ps:=by
  exact perm_unmap h1 ps rfl
 subst q1
 refine ⟨qs,by rw [h2,List.map_map]; rfl,q2.map _,?_⟩
 rw [List.pairwise_map] at h3 ⊢
 exact h3.imp fun h=>by simpa using h
section
variable {X:Cx} {i:Nat} {xs xh:Str} {params:Arguments} {scope:Scope} {p pos lpos kp p1 p2 p3:Pos} {e:Expr} {ta:TA} {c T:Addr} {k:Nat}
abbrev bodyK (xs xh:Str) (p1 p2 p3:Pos):Expr:=.Subscript (.Name xs p1) (.Name xh p2) p3
def tSortK (X:Cx) (i:Nat) (lpos:Pos) (T:Addr) (ta:TA):TE:=fun σ H Q=>ta σ H fun vs H1=>Tab T lpos (X.env.qual ++ "<lambda>") H1∧∃ (a:Addr) (zs:List Str) (d:Addr) (kvs:List (Key×V)) (g:Str→Int),vs=[.ref a]∧SqL X.K H1 a (zs.map V.str)∧zs.length < 64∧σ[i]?=some (some (.ref d))∧Rd H1 d (.dK kvs) ∧
 (∀ z∈zs,valV kvs (Sum.inr z)=some (.int (g z)))∧∀ (l:Addr) (zs':List Str) (H':Hp),SameT T H1 H'→Tab T lpos (X.env.qual ++ "<lambda>") H'→H1 l=none→zs'.Perm zs→zs'.Pairwise (fun x y=>g x≤g y)→H' l=some (.lst (zs'.map V.str))→Q (.ref l) H'
theorem pe_sortK (hr:Room (k+1) X.A) (hcode:X.env.code=.ref c) (hC:codeHdIn X.K c T=true) (hB:BmAt X.mg X.base) (hg:Gl X "sorted") (hm:X.mg "sorted"=none) (ha:PA X [e] ta)
  (hN:X.N[i]?=some xs) (hx:X.env.scope.names.lookup xs=some .cell) (hfree:∀ y,(y,NameKind.free)∈scope.names→X.env.scope.names.lookup y=some .cell)
  (hb:∀ (q:Str) (cl:List (Str×Addr)) (pm ctv:Value) (c':Addr) (us:List Value),us.length=1→bindArgs (kla_fn "<lambda>" q params (bodyK xs xh p1 p2 p3) scope cl pm (.ref c') ctv) ⟨us,[]⟩=pure ([xh].zip us))
  (hk:scope.kind=.function) (hco:scope.isCoroutine=false) (hgen:scope.isGenerator=false) (hnc:∀ x∈scope.names,x.2≠.cell) (hh:scope.names.lookup xh=some .local) (hs:scope.names.lookup xs=some .free)
  (d1:(xs == ("__debug__":Str))=false:=by decide) (d2:(xh == ("__debug__":Str))=false:=by decide) (d3:(xs == ("__classdict__":Str))=false:=by decide)
  (hdef:defaultsOf params X.env=([],[]):=by rfl)
  (he:backTo pos (starEach [e] X.env)=(false,eval e X.env)::backTo pos (starEach [] X.env):=by rfl) (hp:(backTo pos (starEach [e] X.env)).any (·.1)=false:=by rfl) :
  PE X (.Call (.Name "sorted" p) [e] [⟨some "key",.Lambda params (bodyK xs xh p1 p2 p3) scope lpos,kp⟩] pos) (tSortK X i lpos T ta):=by
 intro pins s σ H Q I h
 refine wpAny_Call_Name_kw (ld_blt I hg hm boot_sorted ?_)
 refine callWith_kw (thn (ha pos pins s σ H _ I h) fun us s1 ⟨vs,H1,I1,r1,hT1,a,zs,d,kvs,g,ev,hq,h64,hσ,hd,hv,q1⟩=>?_) he hp rfl rfl
 subst ev
 have low:=pe_lamC (X:=X) (params:=params) (body:=bodyK xs xh p1 p2 p3) (scope:=scope) (pos:=lpos) (c:=c) (T:=T) hcode hC hB hfree hdef pins s1 σ H1
  (fun fv H2=>∃ f c' ctv cl,fv=.ref f∧Clos X.env scope cl∧SameT T H1 H2∧Tab T lpos (X.env.qual ++ "<lambda>") H2∧H2 f=some (lamO f (lamObjC X params (bodyK xs xh p1 p2 p3) scope cl c' ctv))∧H2 c'=some (codeO c' (X.env.qual ++ "<lambda>"))) I1
  ⟨hT1,fun f c' ctv cl H' a1 a2 a3 a4 a5 a6=>⟨f,c',ctv,cl,rfl,a1,a2,a3,a5,a6⟩⟩
 refine kws_cons (thn low fun u2 s2 ⟨fv,H2,I2,r2,f,c',ctv,cl,ef,hcl,st,hT2,hf,hc'⟩=>kws_nil ?_)
 subst ef
 cases (show u2=Value.ref f from r2)
 obtain ⟨u,rfl,rx⟩:=vals1 r1
 cases (show u=Value.ref a from rx)
 obtain ⟨pt,eT,_⟩:=id hT1
 have hq2:SqL X.K H2 a (zs.map V.str):=by
  rcases hq with (h | ⟨o,h⟩) | h
  ·exact .inl (.inl (st _ _ (fun z=>by rw [z,eT] at h; cases h) h))
  ·exact .inl (.inr ⟨o,st _ _ (fun z=>by rw [z,eT] at h; cases h) h⟩)
  ·exact .inr h
 have hd2:Rd H2 d (.dK kvs):=by
  rcases hd with h | ⟨o,h⟩
  ·exact .inl (st _ _ (fun z=>by rw [z,eT] at h; cases h) h)
  ·exact .inr ⟨o,st _ _ (fun z=>by rw [z,eT] at h; cases h) h⟩
 obtain ⟨its,rv,pl,hz⟩:=I2.list hq2
 obtain ⟨pzs,ez,ei⟩:=strs_toks rv
 have pl2:=pl.isList
 obtain ⟨oa,ga,ca,na,da⟩:=id pl2
 obtain ⟨m,hns,lk⟩:=id I2.loc
 have notL:∀ b o,H2 b=some o→b≠X.env.locals:=fun b o hb z=>by rw [z,I2.free] at hb; cases hb
 have notLd:d≠X.env.locals:=by
  rcases hd2 with h | ⟨o,h⟩
  ·exact notL d _ h
  ·exact notL d _ h
 have neA:a≠X.env.locals:=fun z=>by
  obtain ⟨o,es,ep,ho,hdt,_⟩:=hns
  rw [← z,ga] at ho
  cases ho
  rw [da] at hdt
  cases hdt
 obtain ⟨ud,rd,lkd⟩:=lk i xs (.ref d) hN hσ (.inr (.inl hx))
 cases (show ud=Value.ref d from rd)
 obtain ⟨cc,ecc,oc,hoc1,hoc2⟩:∃ cc,X.env.cells.lookup xs=some cc∧s2.heap.IsCell cc (some (.ref d)):=by
  rcases lkd with ⟨l,_⟩ | ⟨_,c2,e2,h2⟩
  ·have l':X.env.scope.names.lookup xs=some .local:=l
   rw [hx] at l'; cases l'
  ·exact ⟨c2,e2,h2⟩
 obtain ⟨cc',ecl⟩:=hcl.all xs (mem_lk hs)
 have e3:=hcl.sub _ _ ecl
 rw [ecc] at e3
 cases e3
 have neC:cc≠X.env.locals:=fun z=>by
  obtain ⟨o,es,ep,ho,hdt,_⟩:=hns
  rw [← z,hoc1] at ho
  cases ho
  rw [hoc2] at hdt
  cases hdt
 obtain ⟨gf,_⟩:=I2.hok f _ hf
 obtain ⟨gc,_⟩:=I2.hok c' _ hc'
 obtain ⟨zl,hsm,dvs,rel,dd⟩:=dk_rd I2.hok hd2
 obtain ⟨m0,F0⟩:=I2.fr
 refine ksk_sorted (kz:=zs.map g) (f:=.ref f) (b:=false) (vs:=its) (h₀:=Att.noObjs s2.heap) (L:=X.env.locals) (m:=m) (news:=(a,oa)::Att.ledger s2.heap X.env.locals a) (Att.fr_all hns) (Att.news_ledger neA ga) pl2 (by rw [List.length_map,← rv.length,List.length_map]) (by rw [← rv.length,List.length_map]; exact h64)
  (ksk_s1 _ _) (fun x=>ksk_l1 _ _) (fun x=>ksk_t1 f x) (fun j v kk hj hkk hp2 tk own F N=>?_) fun D h' tk out cnt F' N' lt' ko=>?_
 ·obtain ⟨z,t,ejz,rfl⟩:=strs_at rv j v hj
  rw [List.getElem?_map,ejz] at hkk
  cases hkk
  have keep:∀ b u,b≠X.env.locals→s2.heap.get? b=some u→hp2.get? b=some u:=fun b u nb hb=>by
   by_cases e:b=a
   ·subst e
    rw [ga] at hb
    cases hb
    exact (N (b,oa) (by simp)).1
   ·exact (N (b,u) (List.mem_append_left _ (List.mem_cons_of_mem _ (Att.mem_ledger.mpr ⟨nb,e,hb⟩)))).1
  have hvz:=hv z (List.mem_of_getElem? ejz)
  obtain ⟨w',hw,rw'⟩:=RelO.some_of (v:=.int (g z)) (o:=valueAt dvs (Sum.inr z)) (by rw [← hvz]; exact rel.val (Sum.inr z))
  obtain ⟨tw,rfl⟩:=(show ∃ t,w'=Value.int (g z) t from rw')
  have dd2:hp2.DictOf (mixKind X.prog X.w) d dvs:=by
   obtain ⟨o,es,ep,g1,r⟩:=dd
   exact ⟨o,es,ep,keep _ _ notLd g1,r⟩
  have gc2:hp2.CodeRec (.ref c') (X.env.qual ++ "<lambda>"):=by
   obtain ⟨c2,oc2,vs2,t2,e2,hoc,hd3,hv3⟩:=gc
   cases e2
   exact ⟨_,oc2,vs2,t2,rfl,keep _ _ (notL c' _ hc') hoc,hd3,hv3⟩
  have nl:hp2.NoLimit:=I2.mod.nolimit.keeps fun b o e=>keep b o (Nat.ne_of_lt (Nat.lt_of_lt_of_le (Heap.lt_size e) F0.above)) (I2.bk b o e)
  exact key_call (s:={ s2 with heap:=hp2,toks:=tk }) (A:=X.A.in1.in1) hr.depth nl (keep _ _ (notL f _ hf) gf) gc2 (fun us hl=>hb _ _ _ _ _ us hl) hk hco hgen hnc hh hs ecl (keep _ _ neC hoc1) hoc2 dd2 hw d1 d2 d3
   fun h3 tk3 kk3=>KskEnd.intro (F.kept kk3) (N.grown kk3) fun p hp=>hp
 ·have keep:∀ b u,b≠X.env.locals→s2.heap.get? b=some u→h'.get? b=some u:=fun b u nb hb=>by
   by_cases e:b=a
   ·subst e
    rw [ga] at hb
    cases hb
    exact (N' (b,oa) (by simp)).1
   ·exact (N' (b,u) (List.mem_cons_of_mem _ (List.mem_cons_of_mem _ (Att.mem_ledger.mpr ⟨nb,e,hb⟩)))).1
  have hD:s2.heap.get? D=none:=by
   cases e:s2.heap.get? D with
   | none=>rfl
   | some o =>
    exfalso
    have nD:D≠X.env.locals:=(N' (D,_) List.mem_cons_self).2.1
    by_cases ea:D=a
    ·have:=lt' (a,oa) List.mem_cons_self
     rw [ea] at this
     exact absurd this (Nat.lt_irrefl _)
    ·exact absurd (lt' (D,o) (List.mem_cons_of_mem _ (Att.mem_ledger.mpr ⟨nD,ea,e⟩))) (Nat.lt_irrefl _)
  have fD:H2 D=none:=by
   cases e:H2 D with
   | none=>rfl
   | some u =>
    obtain ⟨ob,g⟩:=ok_there (I2.hok D u e)
    rw [hD] at g
    cases g
  have fD1:H1 D=none:=by
   cases e:H1 D with
   | none=>rfl
   | some u =>
    by_cases z:D=T
    ·obtain ⟨pt2,eT2,_⟩:=hT2
     rw [z,eT2] at fD; cases fD
    ·rw [st _ _ z e] at fD; cases fD
  rw [ei,← ez] at ko
  obtain ⟨qs,eo,pe,ps⟩:=out_strs ko
  rw [ez] at pe
  have gD:=(N' (D,_) List.mem_cons_self).1
  have lq:qs.length=zs.length:=by have:=pe.length_eq; rw [List.length_map] at this; exact this
  have sl:=same_laid fD (.lst ((qs.map (·.1)).map V.str))
  refine ⟨.ref D,_,I2.laidL (t':=tk) keep (fun m' hm=>?_) hD fD (show ObjOk X.prog X.w _ _ _ (.lst ((qs.map (·.1)).map V.str)) from ⟨by rw [List.length_map,List.length_map]; exact fits (by omega),qs.map (fun p=>Value.str p.1 p.2),cnt,strs_vals qs,by rw [← eo]; simpa using gD⟩),rfl,q1 D (qs.map (·.1)) _ (fun b o n hb=>sl _ _ (st b o n hb)) ?_ fD1 pe ps upd_same⟩
  ·have:=F'.ns
   have e:m'=m:=by
    obtain ⟨o,es,ep,ho,hdt,_,hf⟩:=hm
    obtain ⟨o2,es2,ep2,ho2,hdt2,_,hf2⟩:=hns
    rw [ho] at ho2
    cases ho2
    rw [hdt] at hdt2
    cases hdt2
    funext x
    rw [← hf x,← hf2 x]
   rw [e]
   exact this
  ·obtain ⟨ps1,b1,b2,b3⟩:=hT2
   exact ⟨ps1,sl _ _ b1,b2,b3.imp id fun ⟨c3,e3,g3⟩=>⟨c3,e3,sl _ _ g3⟩⟩
end
end L2
namespace L2
open PySem PySem.W
section
variable {X:Cx} {pins:List (Addr×Obj)} {σ:St} {H:Hp} {s:Shared} {a:Addr} {kvs:List (Key×V)} {k:Key} {u:Value} {A:Around} {E:Value→Shared→Prop}
theorem d_setd {z:V} {r:Value} {Q:Value→Shared→Prop} (I:Inv X pins σ H s) (e:H a=some (.dK kvs)) (hl:kvs.length < sizeLine) (ry:RelV (kV k) u) (rz:RelV z r)
  (h1:∀ v w' s',valV kvs k=some v→Inv X pins σ H s'→RelV v w'→Q w' s') (h2:valV kvs k=none→∀ s',Inv X pins σ (upd H a (.dK (putK kvs k z))) s'→Q r s') :
  wpAny (model X.prog X.w) A (call (.builtin "dict.setdefault") [.ref a,u,r]) Q E s:=by
 obtain ⟨zl,hd,vs,rel,dd⟩:=dk_of I.hok e
 refine call_meetsIn PySem.F.slot_dict_setdefault dd.typeIs PySem.F.entry_dict_setdefault (PySem.F.args_dict_setdefault_3 _ _ _) (kt_meets_setdefault (mixKind X.prog X.w) a (kV_is ry) hd r)
  ⟨vs,dd,by rw [← rel.length]; exact zl,fun v hv=>?_,fun hn h' dd' hs=>?_⟩
 ·have rv:=rel.val k
  rw [hv] at rv
  cases e2:valV kvs k with
  | none=>rw [e2] at rv; cases rv
  | some x=>rw [e2] at rv; exact h1 x v _ e2 (I.tok _) rv
 ·have hn2:valV kvs k=none:=by
   have rv:=rel.val k
   rw [hn] at rv
   cases e2:valV kvs k with
   | none=>rfl
   | some x=>rw [e2] at rv; cases rv
  have he:∃ q,h'.get? a=some q:=let ⟨q,_,_,hq,_⟩:=dd'; ⟨q,hq⟩
  exact h2 hn2 _ (d_write I (by rw [e]; exact True.intro) hs he (dk_new (by have:=length_putK kvs k z; omega) hd (rel.put k rz) dd'))
end
section
variable {X:Cx} {o e f:Expr} {apos cpos:Pos} {td ty tx:TE}
def tDSetD (td ty tx:TE):TE:=fun σ H Q=>td σ H fun x H1=>∃ a,x=.ref a∧IsD H1 a∧ty σ H1 fun y H2=>tx σ H2 fun z H3=>∃ kvs k,H3 a=some (.dK kvs)∧y=kV k∧kvs.length < sizeLine ∧
 (∀ v,valV kvs k=some v→Q v H3)∧(valV kvs k=none→Q z (upd H3 a (.dK (putK kvs k z))))
theorem pe_dsetd (ho:PE X o td) (he:PE X e ty) (hf:PE X f tx) (m:M2 X o "setdefault" apos e f cpos):PE X (.Call (.Attribute o "setdefault" apos) [e,f] [] cpos) (tDSetD td ty tx):=by
 intro pins s σ H Q I h
 refine wpAny_Call_method m.base m.few m.line PySem.F.plainAttrs_dict PySem.F.slot_dict_setdefault PySem.F.type_dict_setdefault (thn (ho pins s σ H _ I h) fun u s1 ⟨x,H1,I1,rx,a,ex,d,q1⟩=>?_)
 subst ex
 obtain rfl:u=Value.ref a:=rx
 obtain ⟨t1,t2,_⟩:=isD_at I1 d
 refine ⟨t1,t2,?_⟩
 rw [m.trees]
 refine Calls.callWith_builtin rfl (Calls.evalArgs_plain (Calls.spliced_cons (thn (he pins s1 σ H1 _ I1 q1) fun iv s2 ⟨y,H2,I2,ry,q2⟩ =>
  Calls.spliced_cons (thn (hf pins s2 σ H2 _ I2 q2) fun fv s3 ⟨z,H3,I3,rz,kvs,k,ea,ey,hl,q3,q4⟩=>Calls.spliced_nil ?_))))
 subst ey
 exact d_setd I3 ea hl ry rz (fun v w' s4 l I4 rw'=>⟨v,_,I4,rw',q3 v l⟩) fun l s4 I4=>⟨z,_,I4,rz,q4 l⟩
end
end L2
namespace L2
open PySem PySem.Spec PyProof.Rows
section
variable {prog:Program} {w:World} {A:Around} {E:Value→Shared→Prop}
theorem tk_keep {h h':Heap} {ks:List Key} {a:Addr} (p:(tupleKind (mixKind prog w)).is h ks a) (k:∀ b o,o.cls=.type "tuple" → h.get? b=some o→h'.get? b=some o):(tupleKind (mixKind prog w)).is h' ks a :=
 let ⟨o,its,n,h1,h2,h3,h4⟩:=p; ⟨o,its,n,k a o h2 h1,h2,h3,h4⟩
theorem dh_keep {h h':Heap} {d:Addr} {xs:List (List Key×Addr×Value)} (hd:h.DictOfH (tupleKind (mixKind prog w)) d xs) (kd:∀ o,h.get? d=some o→h'.get? d=some o) (k:∀ b o,o.cls=.type "tuple" → h.get? b=some o→h'.get? b=some o) :
  h'.DictOfH (tupleKind (mixKind prog w)) d xs :=
 let ⟨o,es,ep,q,c,dd,e,is,n⟩:=hd; ⟨o,es,ep,kd o q,c,dd,e,fun x hx=>tk_keep (is x hx) k,n⟩
def PairAtH (prog:Program) (w:World) (h:Heap) (u:Value) (kv:List Key×Addr×Value):Prop :=
 ∃ t n o,u=.ref t∧(tupleKind (mixKind prog w)).is h kv.1 kv.2.1∧h.get? t=some o∧o.cls=.type "tuple" ∧ o.data=.seq #[.ref kv.2.1,kv.2.2] n
theorem PairAtH.keep {h h':Heap} {u:Value} {kv:List Key×Addr×Value} (p:PairAtH prog w h u kv) (k:∀ b o,o.cls=.type "tuple" → h.get? b=some o→h'.get? b=some o):PairAtH prog w h' u kv :=
 let ⟨t,n,o,a,b,c,d,e⟩:=p; ⟨t,n,o,a,tk_keep b k,k t o d c,d,e⟩
def fillH (more xs:List (List Key×Addr×Value)):List (List Key×Addr×Value):=more.foldl (fun a p=>storedH a p.1 p.2.1 p.2.2) xs
theorem dulH_go {R:Result→Shared→Prop} {d it l:Addr} {items:Array Value} (hh:A.handled=none) (hu:A.units+1 < cLine):∀ (more:List (List Key×Addr×Value)) (i:Nat) (s:Shared) (kvs:List (List Key×Addr×Value)) (j:Int) (tk:Tok),items.size=i+more.length →
  s.heap.DictOfH (tupleKind (mixKind prog w)) d kvs→s.heap.IsListIter it l i→s.heap.IsList l items→(∀ m kv,more[m]?=some kv→∃ u,items[i+m]?=some u∧PairAtH prog w s.heap u kv)→kvs.length+more.length≤sizeLine →
  (∀ h' t',h'.DictOfH (tupleKind (mixKind prog w)) d (fillH more kvs)→(∀ b o,b≠d→b≠it→s.heap.get? b=some o→h'.get? b=some o)→R (.ok (.ret .none)) { s with heap:=h',toks:=t' }) →
  codeAny (model prog w) A (.builtin "dict.update.loop" ⟨[.ref d,.ref it,.int j tk,.none],[]⟩) R s:=by
 intro more
 induction more with
 | nil =>
  intro i s kvs j tk hi hd hit hl hp hz hR
  refine codeAny_builtin entry_dul ?_
  rw [Around.under_plainId plain_dul _]
  unfold Builtin.«dict.update.loop»
  have hs:items[i]?=none:=Array.getElem?_eq_none (by rw [hi]; exact Nat.le_refl _)
  refine wpAny_bind (wpAny_pyNext_list_end hh hit hl hs fun h1 eb=>?_)
  have nd:d≠it:=fun z=>by
   obtain ⟨o,_,_,q,_,c,_⟩:=hd
   obtain ⟨o',q',_,c'⟩:=hit
   rw [z,q'] at q; cases q; rw [c'] at c; cases c
  have nt:∀ b o,o.cls=.type "tuple" → s.heap.get? b=some o→b≠it:=fun b o c q z=>by
   obtain ⟨o',q',c',_⟩:=hit
   rw [z,q'] at q; cases q; rw [c'] at c; exact absurd c (by decide)
  show wpAny _ _ (Builtin.Dict.addKeywords d [] >>= _) _ _ _
  exact wpAny_bind (wpAny_pure (wpAny_pure (hR h1 s.toks (dh_keep hd (fun o q=>eb d o nd q) fun b o c q=>eb b o (nt b o c q) q) fun b o n1 n2 q=>eb b o n2 q)))
 | cons kv more ih =>
  intro i s kvs j tk hi hd hit hl hp hz hR
  refine codeAny_builtin entry_dul ?_
  rw [Around.under_plainId plain_dul _]
  unfold Builtin.«dict.update.loop»
  obtain ⟨u,hu1,t,n,o,rfl,hk,ho,hc,hdt⟩:=hp 0 kv rfl
  refine wpAny_bind (wpAny_pyNext_list_item hit hl hu1 fun h1 it1 sb=>?_)
  have nd:d≠it:=fun z=>by
   obtain ⟨o,_,_,q,_,c,_⟩:=hd
   obtain ⟨o',q',_,c'⟩:=hit
   rw [z,q'] at q; cases q; rw [c'] at c; cases c
  have n2:∀ b o,(o.cls=.type "tuple" ∨ o.cls=.type "list")→s.heap.get? b=some o→b≠d∧b≠it:=by
   intro b o c q
   constructor
   ·intro z
    obtain ⟨o',q',c'⟩:=hd.typeIs
    rw [z,q'] at q; cases q; rw [c'] at c; rcases c with c | c <;> exact absurd c (by decide)
   ·intro z
    obtain ⟨o',q',c',_⟩:=hit
    rw [z,q'] at q; cases q; rw [c'] at c; rcases c with c | c <;> exact absurd c (by decide)
  have nt:∀ b o,o.cls=.type "tuple" → s.heap.get? b=some o→b≠d∧b≠it:=fun b o c q=>n2 b o (.inl c) q
  have nl:l≠d∧l≠it:=by
   obtain ⟨o,q,c,_⟩:=hl
   exact n2 l o (.inr c) q
  have kt1:∀ b o,o.cls=.type "tuple" → s.heap.get? b=some o→h1.get? b=some o:=fun b o c q=>(sb.2 b (nt b o c q).2).trans q
  have ho1:h1.get? t=some o:=kt1 t o hc ho
  have hd1:h1.DictOfH (tupleKind (mixKind prog w)) d kvs:=dh_keep hd (fun o q=>(sb.2 d nd).trans q) kt1
  refine wpAny_bind (wpAny_holding (wpAny_bind (wpAny_tryCatch ?_)))
  unfold Builtin.Dict.pairItems
  refine wpAny_bind (wpAny_typeOf (T := "tuple") ⟨o,ho1,hc⟩ ?_)
  rw [if_pos (by decide)]
  refine wpAny_bind (wpAny_seqItems ho1 hdt (wpAny_pure ?_))
  show wpAny _ _ (holding [.ref kv.2.1,kv.2.2] (dictSet d (.ref kv.2.1) kv.2.2)) _ _ _
  rw [List.length_cons] at hz hi
  refine wpAny_holding (wpAny_dictSet_heap (s:={ s with heap:=h1 }) (tupleKind_room_in1 hu) (tk_keep hk kt1) hd1 (fun h2 hd2 sb2=>?_) (by omega))
  have kk:∀ b o,b≠d→b≠it→s.heap.get? b=some o→h2.get? b=some o:=fun b o n1 n2 q=>(sb2.2 b n1).trans ((sb.2 b n2).trans q)
  have ln:(storedH kvs kv.1 kv.2.1 kv.2.2).length≤kvs.length+1:=by
   unfold storedH
   split
   ·simp
   ·simp
  refine wpAny_pure ⟨plainId_quiet plain_dul _,ih (i+1) _ _ _ _ (by omega) hd2 (it1.at fun o q=>(sb2.2 it (Ne.symm nd)).trans q) (hl.at fun o q=>kk l o nl.1 nl.2 q) (fun m kv' e=>?_) (by omega) fun h3 t3 hd3 k3=>?_⟩
  ·obtain ⟨u',e1,e2⟩:=hp (m+1) kv' e
   exact ⟨u',by rw [← e1]; congr 1; omega,e2.keep fun b o c q=>kk b o (nt b o c q).1 (nt b o c q).2 q⟩
  ·exact hR h3 t3 hd3 fun b o n1 n2 q=>k3 b o n1 n2 (kk b o n1 n2 q)
theorem call_dict_listH {s:Shared} {l:Addr} {items:Array Value} {n:Nat} {more:List (List Key×Addr×Value)} {Q:Value→Shared→Prop} (hh:A.handled=none) (hu:A.units+2 < cLine) (hx:s.heap.get? l=some { cls:=.type "list",data:=.seq items n })
  (hi:items.size=more.length) (hp:∀ (m:Nat) kv,more[m]?=some kv→∃ u,items[m]?=some u∧PairAtH prog w s.heap u kv) (hz:more.length≤sizeLine)
  (h:∀ h' t',h'.DictOfH (tupleKind (mixKind prog w)) s.heap.objs.size (fillH more [])→(∀ b o,s.heap.get? b=some o→h'.get? b=some o)→Q (.ref s.heap.objs.size) { s with heap:=h',toks:=t' }) :
  wpAny (model prog w) A (call (.type "dict") [.ref l]) Q E s:=by
 refine callType_codes (Q₁:=fun obj s₁=>obj=.ref s.heap.objs.size∧s₁={ s with heap:=s.heap.push { cls:=.type "dict",data:=.dict #[] } }) F.kt_called_dict (F.kt_typeCall_dict_1 _) F.entry_dict_init (kt_code_dict_new _ ⟨rfl,rfl⟩) ?_
 rintro obj s₁ ⟨rfl,rfl⟩
 have new0:(s.heap.push { cls:=.type "dict",data:=.dict #[] }).DictOfH (tupleKind (mixKind prog w)) s.heap.objs.size []:=Heap.DictOfH.new s.heap
 have l0:=Heap.get?_push_of_some { cls:=.type "dict",data:=.dict #[] } hx
 refine ⟨new0.typeIs,F.args_dict_init_2 _ _,?_⟩
 unfold Builtin.«dict.__init__» Builtin.Dict.selfAndRest
 refine wpAny_bind (wpAny_bind (wpAny_notOrdered_dict new0.typeIs (wpAny_pure ?_)))
 show wpAny _ _ (Builtin.Dict.updateFrom "dict.__init__" s.heap.objs.size (.ref l) [] .none) _ _ _
 unfold Builtin.Dict.updateFrom
 refine wpAny_bind (wpAny_typeOf (T := "list") ⟨_,l0,rfl⟩ ?_)
 rw [if_pos sub_ld]
 refine wpAny_bind (keys_none l0 hh fun h1 t1 k1=>?_)
 refine wpAny_bind (wpAny_rule ?_)
 have l1:=k1 _ _ l0
 refine wpAny_bind (wpAny_pyIter_list ⟨_,l1,rfl,_,rfl⟩ ?_)
 have k2:∀ b o,s.heap.get? b=some o→(h1.push { cls:=.type "list_iterator",data:=.fields #[.ref l,.int 0 0] }).get? b=some o:=fun b o q=>Heap.get?_push_of_some _ (k1 _ _ (Heap.get?_push_of_some _ q))
 refine wpAny_pure ⟨plainId_quiet plain_dul _,dulH_go (A:=A.in1) (l:=l) (items:=items) (show A.in1.handled=none from hh) (show A.in1.units+1 < cLine by rw [Around.in1_units]; omega) more 0 _ [] _ _ (by rw [hi,Nat.zero_add]) ?_ ⟨_,Heap.get?_push_size _ rfl,rfl,rfl⟩ ⟨_,k2 _ _ hx,rfl,n,rfl⟩ (fun m kv e=>?_) (by simpa using hz) fun h' t' hd k3=>?_⟩
 ·exact dh_keep new0 (fun o q=>Heap.get?_push_of_some _ (k1 _ _ q)) fun b o _ q=>Heap.get?_push_of_some _ (k1 _ _ q)
 ·obtain ⟨u,e1,e2⟩:=hp m kv e
  exact ⟨u,by rw [Nat.zero_add]; exact e1,e2.keep fun b o _ q=>k2 b o q⟩
 ·refine ⟨rfl,h h' t' hd fun b o q=>k3 b o (Nat.ne_of_lt (Heap.lt_size q)) ?_ (k2 b o q)⟩
  have:=Heap.lt_size (k1 _ _ (Heap.get?_push_of_some { cls:=.type "dict",data:=.dict #[] } q))
  exact Nat.ne_of_lt this
end
def fillT (kvs acc:List (List Key×V)):List (List Key×V):=kvs.foldl (fun a p=>putK a p.1 p.2) acc
theorem fillT_rel {H:Hp}:∀ {kvs:List (List Key×V)} {vs:List (List Key×Addr×Value)} {acc:List (List Key×V)} {accv:List (List Key×Addr×Value)},KT H kvs vs→KT H acc accv→KT H (fillT kvs acc) (fillH vs accv)
 | _,_,_,_,.nil,h=>h
 | _,_,_,_,.cons (a:=p) (b:=q) r t,h=>by
  obtain ⟨e,hb,rv⟩:=r
  show KT H (fillT _ (putK _ p.1 p.2)) (fillH _ (storedH _ q.1 q.2.1 q.2.2))
  rw [← e]
  exact fillT_rel t (h.put p.1 hb rv)
theorem fillT_len:∀ (kvs acc:List (List Key×V)),(fillT kvs acc).length≤acc.length+kvs.length
 | [],acc=>by simp [fillT]
 | p::r,acc=>by
  have:=fillT_len r (putK acc p.1 p.2)
  have:=length_putK acc p.1 p.2
  show (fillT r (putK acc p.1 p.2)).length≤_
  rw [List.length_cons]
  omega
section
variable {X:Cx} {pins:List (Addr×Obj)} {σ:St} {H:Hp} {s:Shared}
abbrev PrT (K:PySem.W.Frag) (H:Hp) (t:Addr) (kv:List Key×V):Prop:=∃ b,SqT K H t [.ref b,kv.2]∧H b=some (.tup (kv.1.map kV))
theorem pairsT_at (I:Inv X pins σ H s):∀ {ts:List Addr} {kvs:List (List Key×V)} {its:List Value},Paired (PrT X.K H) ts kvs→Vals (ts.map V.ref) its →
  ∃ vs:List (List Key×Addr×Value),KT H kvs vs∧Paired (fun u kv=>PairAtH X.prog X.w s.heap u kv) its vs
 | [],_,_,.nil,r=>by
  rw [List.map_nil] at r
  cases r
  exact ⟨[],.nil,.nil⟩
 | t::ts,kv::kvs,_,.cons h p,r=>by
  rw [List.map_cons] at r
  cases r with
  | cons r1 r2 =>
   obtain ⟨vs,e1,e2⟩:=pairsT_at I p r2
   obtain ⟨b,h0,hb⟩:=h
   obtain ⟨its,rv,⟨o,h1,h2,n,h3⟩,_⟩:=I.tuple h0
   obtain ⟨u1,u2,rfl,q1,q2⟩:=vals2 rv
   cases (show u1=Value.ref b from q1)
   exact ⟨(kv.1,b,u2)::vs,.cons ⟨rfl,hb,q2⟩ e1,.cons ⟨t,n,o,r1,key_of I.hok hb,h1,h2,h3⟩ e2⟩
theorem call_dictPT (hc:X.calm=true) (hu:X.A.units+2 < cLine):CallR X (.type "dict") (fun xs H Q=>∃ a ts kvs,xs=[.ref a]∧H a=some (.lst (ts.map V.ref))∧Paired (PrT X.K H) ts kvs∧∀ d,H d=none→Q (.ref d) (upd H d (.dT (fillT kvs [])))):=by
 intro pins s σ H xs us Q I r h
 obtain ⟨a,ts,kvs,rfl,e,p,q⟩:=h
 obtain ⟨u,rfl,rx⟩:=vals1 r
 cases (show u=Value.ref a from rx)
 obtain ⟨z,its,n,rv,ho⟩:=(show ObjOk X.prog X.w H s.heap a (.lst _) from I.hok a _ e)
 obtain ⟨vs,r1,r2⟩:=pairsT_at I p rv
 have l1:=Paired.length r2
 have l2:=Paired.length r1
 have l3:=Paired.length p
 rw [List.length_map] at z
 refine call_dict_listH (I.ok.hd hc) hu ho (by simpa using l1) (fun m kv em=>?_) (by omega) fun h' t' hd kk=>?_
 ·obtain ⟨u,e1,e2⟩:=Paired.at_ r2 m kv em
  exact ⟨u,by simpa using e1,e2⟩
 ·have fr:=I.hok.fresh (Nat.le_refl s.heap.objs.size)
  have new:ObjOk X.prog X.w (upd H s.heap.objs.size (.dT (fillT kvs []))) h' s.heap.objs.size (.dT (fillT kvs [])):=by
   obtain ⟨o,es,ep,hq,h2,h3,h4,_,h5⟩:=hd
   refine ⟨?_,?_,_,(fillT_rel r1 .nil).keeps fun c ys ec=>?_,o,es,ep,hq,h2,h3,h4,h5⟩
   ·have:=fillT_len kvs []
    simp at this
    omega
   ·have:=I.big
    exact beq_eq_false_iff_ne.mpr (Nat.ne_of_gt this)
   ·rw [upd_ne (ne_of_none ec fr)]; exact ec
  exact ⟨.ref s.heap.objs.size,_,I.laid (t':=t') kk (Nat.le_refl _) new,rfl,q _ fr⟩
end
end L2
namespace L2
open PySem
theorem caps_of {X:Cx} {scope:Scope} {js:List (Nat×Str)} (h:(js.all fun p=>X.N[p.1]? == some p.2 && X.env.scope.names.lookup p.2 == some .cell && scope.names.lookup p.2 == some .free)=true)
  (h2:(scope.names.all fun y=>y.2 != .free || X.env.scope.names.lookup y.1 == some .cell)=true):Caps X scope js:=by
 refine ⟨fun p hp=>?_,fun y hy=>?_⟩
 ·have:=List.all_eq_true.mp h p hp
  simp only [Bool.and_eq_true,beq_iff_eq] at this
  exact ⟨this.1.1,this.1.2,this.2⟩
 ·have:=List.all_eq_true.mp h2 _ hy
  simpa using this
theorem goT {σ:St} {H:Hp} {A B:Hp→Prop} (h:A H):tTrue σ H fun b H3=>if b=true then A H3 else B H3:=by
 show if true=true then A H else B H
 exact iteT h
theorem goN {i:Nat} {v:V} {σ:St} {H:Hp} {Q:St→Hp→Prop} (h:Q (σ.set i (some v)) H):gName i v σ H Q:=h
theorem str_len_app (x y:Str):(x++y).length=x.length+y.length:=by
 show (x.cps++y.cps).size=_
 rw [Array.size_append]
 rfl
theorem cut_ints (ns:List Int) (lo hi:Option Int):∃ ns':List Int,cutV (ns.map V.int) lo hi=ns'.map V.int∧(∀ n∈ns',n∈ns)∧ns'.length≤ns.length :=
 ⟨(ns.drop (HT.sIx (ns.map V.int).length 0 lo)).take (HT.sIx (ns.map V.int).length (ns.map V.int).length hi - HT.sIx (ns.map V.int).length 0 lo),by unfold cutV; rw [← List.map_drop,← List.map_take],fun n hn=>List.mem_of_mem_drop (List.mem_of_mem_take hn),by rw [List.length_take,List.length_drop]; omega⟩
end L2
namespace L2
open PySem
theorem ix_listK {X:Cx} (K:PySem.W.Frag) (hK:X.K=K:=by rfl):IxR X (rIxL K):=by
 subst hK
 exact ix_list
theorem pg_tupK {X:Cx} {es:List Expr} {k:Nat} {t:TGs} {n:Nat} {pos:Pos} (K:PySem.W.Frag) (hc:X.calm=true) (h:PGs X es t) (hK:X.K=K:=by rfl)
  (hn:(assignEach es X.env).length=n:=by rfl) (hst:(assignEach es X.env).findIdx? (·.1)=none:=by rfl):PG X (.Tuple es k pos) (gTup K n t):=by
 subst hK
 exact pg_tup hc h hn hst
theorem ixN_nat {n k:Nat} (h:k < n):ixN n (k:Int)=some k:=by
 unfold ixN
 rw [if_pos (by omega),if_pos (by omega)]
 simp
theorem at_ints {ns:List Int} {k:Nat} (h:k < ns.length):atI (ns.map V.int) (k:Int)=some (.int ns[k]):=atI_nat (by rw [List.getElem?_map,List.getElem?_eq_getElem h]; rfl)
end L2
namespace K11
open PySem L2
def top (i:Nat):Stmt:=PySem.Challenge.pw_wright_k11_grammars_kept.main.body.getD i (.Pass ⟨0,0,0,0⟩)
abbrev sHeads:Stmt:=top 2
abbrev sWords:Stmt:=top 3
abbrev sEmpties:Stmt:=top 7
abbrev sPlaces:Stmt:=top 8
abbrev sBegin:Stmt:=top 9
abbrev sLoop:Stmt:=top 19
abbrev sSteps:Stmt:=top 20
abbrev sWay:Stmt:=top 21
abbrev sLeast:Stmt:=top 23
abbrev sGreat:Stmt:=top 24
abbrev sSettle:Stmt:=top 25
abbrev sRefuse:Stmt:=top 28
abbrev sTwice:Stmt:=top 29
abbrev sMet:Stmt:=top 30
abbrev sGrammar:Stmt:=top 37
abbrev sNums:Stmt:=top 4
abbrev sStd:Stmt:=top 5
abbrev sLeastBy:Stmt:=top 32
abbrev sRuleSize:Stmt:=top 33
abbrev sEmptyBy:Stmt:=top 34
abbrev sLT:Stmt:=top 35
structure Txt (mg:Str→Option Value):Prop where
 len:mg "len"=none
 rng:mg "range"=none
 isi:mg "isinstance"=none
 tup:mg "tuple"=none
 lst:mg "list"=none
 dct:mg "dict"=none
 all:mg "all"=none
 any:mg "any"=none
 str:mg "str"=none
 int:mg "int"=none
 boo:mg "bool"=none
 enu:mg "enumerate"=none
 sum:mg "sum"=none
 max:mg "max"=none
 min:mg "min"=none
section
variable {P:Program} {w:World} {K:PySem.W.Frag} {mg:Str→Option Value} {base:Heap} {f:Addr} {fd:FuncData}
theorem boot_all:bootBuiltins "all"=some (.builtin "all"):=by decide +kernel
theorem boot_lst:bootBuiltins "list"=some (.type "list"):=by decide +kernel
theorem boot_txt:bootBuiltins "str"=some (.type "str"):=by decide +kernel
theorem boot_dct:bootBuiltins "dict"=some (.type "dict"):=by decide +kernel
theorem plain_strs (zs:List Str):∀ v∈zs.map V.str,PlainV v:=fun v hv=>by
 obtain ⟨z,_,rfl⟩:=List.mem_map.mp hv
 exact .inl rfl
end
end K11
namespace L2
open PySem
theorem sqt_upd {K:PySem.W.Frag} {H:Hp} {D a:Addr} {xs ys:List V} {o:HO} (hD:H D=some (.lst ys)) (h:SqT K H a xs):SqT K (upd H D o) a xs:=by
 rcases h with (h | ⟨u,h⟩) | h
 ·exact .inl (.inl (by rw [upd_ne (fun z=>by rw [z,hD] at h; cases h)]; exact h))
 ·exact .inl (.inr ⟨u,by rw [upd_ne (fun z=>by rw [z,hD] at h; cases h)]; exact h⟩)
 ·exact .inr h
theorem any_key (kvs:List (Key×V)) (k:Key):(kvs.any fun kv=>decide (kv.1=k))=true↔k∈kvs.map (·.1):=by
 rw [List.any_eq_true,List.mem_map]
 constructor
 ·rintro ⟨x,h1,h2⟩; exact ⟨x,h1,of_decide_eq_true h2⟩
 ·rintro ⟨x,h1,h2⟩; exact ⟨x,h1,decide_eq_true h2⟩
theorem put_in {kvs:List (Key×V)} {k:Key} {v:V} (h:k∈kvs.map (·.1)):(putK kvs k v).map (·.1)=kvs.map (·.1):=by
 unfold putK
 rw [if_pos ((any_key kvs k).mpr h),List.map_map]
 refine List.map_congr_left fun x hx=>?_
 show (if x.1=k then (x.1,v) else x).1=x.1
 split <;> rfl
theorem put_out {kvs:List (Key×V)} {k:Key} {v:V} (h:¬ k∈kvs.map (·.1)):(putK kvs k v).map (·.1)=kvs.map (·.1)++[k]:=by
 unfold putK
 rw [if_neg (fun z=>h ((any_key kvs k).mp z)),List.map_append]
 rfl
theorem val_mem (kvs:List (Key×V)) (k:Key):(valV kvs k).isSome=true↔k∈kvs.map (·.1):=by
 rw [← valV_any]
 exact any_key kvs k
theorem paired_mapR {α β γ:Type} {F:α→β→Prop} {G:α→γ→Prop} {φ:β→γ}:∀ {xs:List α} {ys:List β},Paired F xs ys→(∀ a b,F a b→G a (φ b))→Paired G xs (ys.map φ)
 | _,_,.nil,_=>.nil
 | _,_,.cons h t,k=>.cons (k _ _ h) (paired_mapR t k)
theorem inr_mem {z:Str} {l:List Str}:(Sum.inr z:Key)∈l.map Sum.inr↔z∈l:=by
 rw [List.mem_map]
 constructor
 ·rintro ⟨x,h1,h2⟩; rw [← Sum.inr.inj h2]; exact h1
 ·intro h; exact ⟨z,h,rfl⟩
end L2
namespace M11
abbrev Rule:=PySem.Str×List PySem.Str
def add1 (a:List PySem.Str) (h:PySem.Str):List PySem.Str:=if h∈a then a else a++[h]
def ded (acc hs:List PySem.Str):List PySem.Str:=hs.foldl add1 acc
def addW (heads a:List PySem.Str) (p:PySem.Str):List PySem.Str:=if p∈heads then a else add1 a p
def wds (heads acc ps:List PySem.Str):List PySem.Str:=ps.foldl (addW heads) acc
def isH (rules:List Rule) (name:PySem.Str) (k:Nat):Bool:=decide ((rules[k]?.map (·.1))=some name)
def nums (rules:List Rule) (name:PySem.Str) (i:Nat):List Int:=((List.range i).filter (isH rules name)).map fun k:Nat=>(k:Int)
theorem nums_succ (rules:List Rule) (name:PySem.Str) (i:Nat):nums rules name (i+1)=nums rules name i++(if isH rules name i=true then [(i:Int)] else []):=by
 unfold nums
 rw [List.range_succ,List.filter_append,List.map_append]
 congr 1
 by_cases h:isH rules name i=true
 ·rw [if_pos h]; simp [h]
 ·rw [if_neg h]; simp [h]
theorem nums_len (rules:List Rule) (name:PySem.Str) (i:Nat):(nums rules name i).length≤i:=by
 unfold nums
 rw [List.length_map]
 have:=List.length_filter_le (isH rules name) (List.range i)
 rw [List.length_range] at this
 exact this
theorem add1_len (a:List PySem.Str) (h:PySem.Str):(add1 a h).length≤a.length+1:=by
 unfold add1; split <;> simp
theorem ded_len:∀ (hs acc:List PySem.Str),(ded acc hs).length≤acc.length+hs.length
 | [],acc=>by simp [ded]
 | h::r,acc=>by
  have:=ded_len r (add1 acc h)
  have:=add1_len acc h
  show (ded (add1 acc h) r).length≤_
  rw [List.length_cons]; omega
theorem addW_len (heads a:List PySem.Str) (p:PySem.Str):(addW heads a p).length≤a.length+1:=by
 unfold addW; split
 ·omega
 ·exact add1_len a p
theorem wds_len (heads:List PySem.Str):∀ (ps acc:List PySem.Str),(wds heads acc ps).length≤acc.length+ps.length
 | [],acc=>by simp [wds]
 | p::r,acc=>by
  have:=wds_len heads r (addW heads acc p)
  have:=addW_len heads acc p
  show (wds heads (addW heads acc p) r).length≤_
  rw [List.length_cons]; omega
end M11
namespace K11
open PySem L2 M11
theorem keys_add {acc:List (Key×V)} {as:List Str} (e:acc.map (·.1)=as.map Sum.inr) (h:Str) {v:V}:(putK acc (Sum.inr h) v).map (·.1)=(add1 as h).map Sum.inr:=by
 unfold add1
 by_cases q:h∈as
 ·rw [if_pos q,put_in (by rw [e]; exact inr_mem.mpr q),e]
 ·rw [if_neg q,put_out (by rw [e]; exact fun z=>q (inr_mem.mp z)),e,List.map_append]; rfl
theorem keys_ded:∀ (hs:List Str) (acc:List (Key×V)) (as:List Str),acc.map (·.1)=as.map Sum.inr→(fillK (hs.map fun h=>((Sum.inr h:Key),V.bl true)) acc).map (·.1)=(ded as hs).map Sum.inr
 | [],acc,as,e=>e
 | h::r,acc,as,e=>by
  refine keys_ded r (putK acc (Sum.inr h) (.bl true)) (add1 as h) ?_
  exact keys_add e h
theorem keys_str {kvs:List (Key×V)} {zs:List Str} (e:kvs.map (·.1)=zs.map Sum.inr):(kvs.map fun p=>kV p.1)=zs.map V.str:=by
 have e2:(kvs.map fun p=>kV p.1)=(kvs.map (·.1)).map kV:=by rw [List.map_map]; rfl
 rw [e2,e,List.map_map]
 rfl
section
variable {P:Program} {w:World} {K:PySem.W.Frag} {mg:Str→Option Value} {base:Heap} {f:Addr} {fd:FuncData}
def RuleV (K:PySem.W.Frag) (H:Hp) (r:Addr) (ru:Rule):Prop:=∃ p,SqT K H r [.str ru.1,.ref p]∧SqT K H p (ru.2.map V.str)
def Rules (K:PySem.W.Frag) (H:Hp) (rs:List Addr) (rules:List Rule):Prop:=Paired (fun r ru=>RuleV K H r ru) rs rules
theorem Rules.keep {H H':Hp} {rs:List Addr} {rules:List Rule} (h:Rules K H rs rules) (k:∀ a xs,SqT K H a xs→SqT K H' a xs):Rules K H' rs rules:=Paired.mapP h fun r ru ⟨p,a,b⟩=>⟨p,k _ _ a,k _ _ b⟩
theorem Rules.same {H H':Hp} {rs:List Addr} {rules:List Rule} (h:Rules K H rs rules) (s:Same H H'):Rules K H' rs rules:=h.keep fun _ _ z=>s.tup z
theorem Rules.get {H:Hp} {rs:List Addr} {rules:List Rule} (h:Rules K H rs rules) {i:Nat} {r:Addr} (e:rs[i]?=some r):∃ ru,rules[i]?=some ru∧RuleV K H r ru:=by
 have l:=Paired.length h
 have li:=(List.getElem?_eq_some_iff.mp e).1
 have e2:rules[i]?=some (rules[i]'(by omega)):=List.getElem?_eq_getElem (by omega)
 obtain ⟨x,e3,e4⟩:=Paired.at_ h i _ e2
 rw [e] at e3
 cases e3
 exact ⟨_,e2,e4⟩
theorem comp_pairs {H:Hp} {R D:Addr} {rs:List Addr} {rules:List Rule} {σ:St} {Qp:Hp→Prop} (hR:SqL K H R (rs.map V.ref)) (hrl:Rules K H rs rules) (hlen:rules.length≤1000) (hD:H D=none)
  (q:∀ ts H2,Same H H2→H2 D=some (.lst (ts.map V.ref))→Paired (fun t h=>SqT K H2 t [.str h,.bl true]) ts (rules.map (·.1))→Qp H2) :
  ∃ W:Nat→Nat→List V→St→Hp→Prop,(∃ m,W 0 m [] (capS ["head","parts"] [] σ) (upd H D (.lst []))) ∧
 ∀ i m ys σ' H,W i m ys σ' H→((Itl K R).stop i H∧Qp H)∨((Itl K R).go i H∧∃ m',m' < m∧∀ x H',(Itl K R).yld i H x H'→gTup K 2 (gCons (gName 0) (gCons (gName 1) gNil)) x σ' H' fun σ2 H2=>tTrue σ2 H2 fun b H3 =>
  if b=true then tTup (tCons (tVar 0) (tCons (tC (.bl true)) tNil)) σ2 H3 fun y H4=>H4 D=some (.lst ys)∧ys.length < sizeLine∧W (i+1) m' (ys++[y]) σ2 (upd H4 D (.lst (ys++[y]))) else W (i+1) m' ys σ2 H3):=by
 have ll:=Paired.length hrl
 refine compG_list (xs:=rs.map V.ref) (fun i ys σ2 H2=>∃ ts:List Addr,ys=ts.map V.ref∧ts.length=i∧Paired (fun t h=>SqT K H2 t [.str h,.bl true]) ts ((rules.take i).map (·.1))∧(∃ y0 y1,σ2=[y0,y1])∧Same H H2∧H2 D=some (.lst ys))
  ⟨[],rfl,rfl,.nil,⟨none,none,rfl⟩,same_laid hD _,upd_same⟩ (fun i ys σ2 H2 _ h=>?_) (fun i x ys σ2 H2 ex h=>?_) (fun ys σ2 H2 h=>?_)
 ·obtain ⟨_,_,_,_,_,sm,_⟩:=h
  exact sm.seq hR
 ·obtain ⟨ts,rfl,ht,hp,⟨y0,y1,rfl⟩,sm,hd⟩:=h
  rw [List.getElem?_map] at ex
  obtain ⟨r,er,rfl⟩:=Option.map_eq_some_iff.mp ex
  obtain ⟨ru,e1,p,v1,v2⟩:=hrl.get er
  have li:=(List.getElem?_eq_some_iff.mp e1).1
  refine ⟨r,_,rfl,sm.tup v1,rfl,_,_,rfl,_,_,rfl,rfl,?_⟩
  refine goT ?_
  refine ⟨_,rfl,(by show 2≤sizeLine; decide),fun t ht2=>⟨?_,fits' (by rw [List.length_map]; omega),ts++[t],?_,?_,?_,⟨_,_,rfl⟩,?_,upd_same⟩⟩
  ·rw [upd_ne (ne_of_none hd ht2)]; exact hd
  ·rw [List.map_append]; rfl
  ·rw [List.length_append,ht]; rfl
  ·rw [List.take_add_one,e1,List.map_append]
   have hd3:upd H2 t (.tup [.str ru.1,.bl true]) D=some (.lst (ts.map V.ref)):=by rw [upd_ne (ne_of_none hd ht2)]; exact hd
   exact Paired.snoc (Paired.mapP hp fun t' h' z=>sqt_upd hd3 ((same_laid ht2 _).tup z)) (sqt_upd hd3 (SqT.of upd_same))
  ·intro b o hb
   rw [upd_ne (fun z=>by rw [z,hD] at hb; cases hb)]
   exact same_laid ht2 _ _ _ (sm b o hb)
 ·obtain ⟨ts,rfl,ht,hp,_,sm,hd⟩:=h
  rw [List.length_map,ll,List.take_length] at hp
  exact q ts H2 sm hd hp
def spHeads (K:PySem.W.Frag):Sp:=fun vs H Q _=>∃ (R:Addr) (rs:List Addr) (rules:List Rule),vs=[.ref R]∧SqL K H R (rs.map V.ref)∧Rules K H rs rules∧rules.length≤1000 ∧
 ∀ D H',H D=none→Same H H'→H' D=some (.lst ((ded [] (rules.map (·.1))).map V.str))→Q (.ref D) H'
theorem scHeads:FnScope ["rules"] ["rules"] (defScope sHeads):=⟨rfl,rfl,rfl,by decide +kernel,rfl,by decide +kernel,by decide +kernel⟩
theorem ok_heads (F:Fun K "heads_of" "heads_of" sHeads f fd) (T:Txt mg):FnOk P w K mg base CX0 1 f fd ["rules"] (spHeads K):=by
 refine F.ok scHeads (fun vs H Q E h=>?_) (fun cdv A outer s H vs Q E hr h=>?_)
 ·obtain ⟨R,rs,rules,rfl,_⟩:=h; rfl
 ·obtain ⟨R,rs,rules,rfl,hR,hrl,hlen,q⟩:=h
  refine ⟨_,pss_one (ps_ret (pe_callTy (call_listD rfl) rfl T.lst boot_lst (pa_cons (pe_callTy (call_dictP rfl) rfl T.dct boot_dct (pa_cons
   (pe_compG ["head","parts"] [] rfl (pi_list (pv 0)) (caps_of rfl rfl) (by decide +kernel) rfl (by decide +kernel)
    (fun _ _ _ _ _=>pg_tupK (n:=2) K rfl (pgs_cons (pg_name (i:=0) (show (["head","parts"]:List Str).Nodup by decide +kernel) rfl (Or.inl rfl)) (pgs_cons (pg_name (i:=1) (show (["head","parts"]:List Str).Nodup by decide +kernel) rfl (Or.inl rfl)) pgs_nil))) (fun _ _ _ _ _=>pif_nil)
    (fun _ _ _ _ _=>pe_tup (pa_cons (pv 0) (pa_cons pe_bl pa_nil)))) pa_nil)) pa_nil))),?_⟩
  refine ⟨_,rfl,R,rfl,⟨_,hR⟩,fun D hD=>comp_pairs hR hrl hlen hD fun ts H2 sm hd hp=>?_⟩
  have kp:Paired (fun t (kv:Key×V)=>SqT K H2 t [kV kv.1,kv.2]) ts ((rules.map (·.1)).map fun h=>((Sum.inr h:Key),V.bl true)):=paired_mapR hp fun _ _ z=>z
  refine ⟨D,ts,_,rfl,hd,kp,fun d hd2=>?_⟩
  refine ⟨d,_,rfl,upd_same,fun D2 hD2=>?_⟩
  rw [keys_str (keys_ded (rules.map (·.1)) [] [] rfl)]
  have nd:D2≠d:=fun z=>by rw [z,upd_same] at hD2; cases hD2
  exact q D2 _ (sm.free (by rw [upd_ne nd] at hD2; exact hD2)) (sm.trans ((same_laid hd2 _).trans (same_laid hD2 _))) upd_same
end
end K11
namespace K11
open PySem L2 M11
section
variable {P:Program} {w:World} {K:PySem.W.Frag} {mg:Str→Option Value} {base:Heap} {f:Addr} {fd:FuncData}
theorem flat_len:∀ (rules:List Rule) (n:Nat),rules.length≤n→(∀ ru∈rules,ru.2.length≤8)→(rules.flatMap (·.2)).length≤8 * n
 | [],n,_,_=>by simp
 | ru::r,n,hl,h=>by
  rw [List.length_cons] at hl
  have:=flat_len r (n - 1) (by omega) fun x hx=>h x (List.mem_cons_of_mem _ hx)
  have:=h ru List.mem_cons_self
  rw [List.flatMap_cons,List.length_append]
  omega
def hd (rules:List Rule):List Str:=ded [] (rules.map (·.1))
def spWords (K:PySem.W.Frag):Sp:=fun vs H Q _=>∃ (R:Addr) (rs:List Addr) (rules:List Rule),vs=[.ref R]∧SqL K H R (rs.map V.ref)∧Rules K H rs rules∧rules.length≤1000∧(∀ ru∈rules,ru.2.length≤8) ∧
 ∀ D H',H D=none→Same H H'→H' D=some (.lst ((wds (hd rules) [] (rules.flatMap (·.2))).map V.str))→Q (.ref D) H'
theorem scWords:FnScope ["rules","heads","words","head","parts","part"] ["rules"] (defScope sWords):=⟨rfl,rfl,rfl,by decide +kernel,rfl,by decide +kernel,by decide +kernel⟩
theorem ok_words (F:Fun K "words_in" "words_in" sWords f fd) (T:Txt mg):FnOk P w K mg base CX0 1 f fd ["rules"] (spWords K):=by
 refine F.ok scWords (fun vs H Q E h=>?_) (fun cdv A outer s H vs Q E hr h=>?_)
 ·obtain ⟨R,rs,rules,rfl,_⟩:=h; rfl
 ·obtain ⟨R,rs,rules,rfl,hR,hrl,hlen,h8,q⟩:=h
  have hu:=hu_of hr
  refine ⟨_,pss_cons (ps_set (i:=1) scWords.nd rfl (Or.inl rfl) (pe_callTy (call_dictP rfl) rfl T.dct boot_dct (pa_cons
   (pe_compG ["head","parts"] [] rfl (pi_list (pv 0)) (caps_of rfl rfl) (by decide +kernel) rfl (by decide +kernel)
    (fun _ _ _ _ _=>pg_tupK (n:=2) K rfl (pgs_cons (pg_name (i:=0) (show (["head","parts"]:List Str).Nodup by decide +kernel) rfl (Or.inl rfl)) (pgs_cons (pg_name (i:=1) (show (["head","parts"]:List Str).Nodup by decide +kernel) rfl (Or.inl rfl)) pgs_nil))) (fun _ _ _ _ _=>pif_nil)
    (fun _ _ _ _ _=>pe_tup (pa_cons (pv 0) (pa_cons pe_bl pa_nil)))) pa_nil)))
   (pss_cons (ps_set (i:=2) scWords.nd rfl (Or.inl rfl) pe_dnewK)
   (pss_cons (ps_for PassesOwn.never rfl (pi_list (pv 0)) (pg_tup rfl (pgs_cons (pg_name (i:=3) scWords.nd rfl (Or.inl rfl)) (pgs_cons (pg_name (i:=4) scWords.nd rfl (Or.inl rfl)) pgs_nil)))
    (pss_one (ps_for PassesOwn.never rfl (pi_tup (pv 4)) (pg_name (i:=5) scWords.nd rfl (Or.inl rfl))
     (pss_one (ps_if (pt_cmp (pc_dnotin hu (pv 5) (pv 1))) (pss_one (ps_dput hu (pv 2) (pv 5) pe_bl rfl)) pss_nil)))))
   (pss_one (ps_ret (pe_callTy (call_listD rfl) rfl T.lst boot_lst (pa_cons (pv 2) pa_nil)))))),?_⟩
  refine ⟨_,rfl,R,rfl,⟨_,hR⟩,fun D hD=>comp_pairs hR hrl hlen hD fun ts H2 sm hd2 hp=>?_⟩
  have kp:Paired (fun t (kv:Key×V)=>SqT K H2 t [kV kv.1,kv.2]) ts ((rules.map (·.1)).map fun h=>((Sum.inr h:Key),V.bl true)):=paired_mapR hp fun _ _ z=>z
  refine ⟨D,ts,_,rfl,hd2,kp,fun d hdd=>?_⟩
  have keysH:(fillK ((rules.map (·.1)).map fun h=>((Sum.inr h:Key),V.bl true)) []).map (·.1)=(hd rules).map Sum.inr:=keys_ded (rules.map (·.1)) [] [] rfl
  generalize fillK ((rules.map (·.1)).map fun h=>((Sum.inr h:Key),V.bl true)) []=kH at keysH ⊢
  have sm3:=sm.trans (same_laid hdd (.dK kH))
  have hd3:upd H2 d (.dK kH) d=some (.dK kH):=upd_same
  generalize upd H2 d (.dK kH)=H3 at sm3 hd3
  intro e he
  have hde:∀ o,upd H3 e o d=some (.dK kH):=fun o=>by rw [upd_ne (ne_of_none hd3 he)]; exact hd3
  have sme:∀ o,Same H (upd H3 e o):=fun o=>sm3.trans (same_laid he o)
  have ll:=Paired.length hrl
  refine ⟨_,rfl,R,rfl,⟨_,(sme _).seq hR⟩,for_list (xs:=rs.map V.ref) (fun i σ H5=>∃ (kvs:List (Key×V)) (y3 y4 y5:Option V),σ=[some (.ref R),some (.ref d),some (.ref e),y3,y4,y5]∧H5=upd H3 e (.dK kvs) ∧
   kvs.map (·.1)=(wds (hd rules) [] ((rules.take i).flatMap (·.2))).map Sum.inr) ⟨[],none,none,none,rfl,rfl,rfl⟩ ?_ ?_ ?_⟩
  ·rintro i σ H5 _ ⟨kvs,y3,y4,y5,rfl,rfl,_⟩
   exact (sme _).seq hR
  ·rintro i x σ H5 ex ⟨kvs,y3,y4,y5,rfl,rfl,hk⟩
   rw [List.getElem?_map] at ex
   obtain ⟨r,er,rfl⟩:=Option.map_eq_some_iff.mp ex
   obtain ⟨ru,e1,p,v1,v2⟩:=hrl.get er
   have li:=(List.getElem?_eq_some_iff.mp e1).1
   have h8r:=h8 ru (List.mem_of_getElem? e1)
   have eT:(rules.take (i+1)).flatMap (·.2)=(rules.take i).flatMap (·.2)++ru.2:=by
    rw [List.take_add_one,e1,List.flatMap_append]
    simp
   have lA:((rules.take i).flatMap (·.2)).length≤8 * i:=flat_len (rules.take i) i (by rw [List.length_take]; omega) fun ru hru=>h8 ru (List.mem_of_mem_take hru)
   refine ⟨r,_,rfl,(sme _).tup v1,rfl,_,_,rfl,_,_,rfl,rfl,?_⟩
   refine ⟨_,rfl,p,rfl,⟨_,(sme _).tup v2⟩,for_tup (xs:=ru.2.map V.str) (fun j σ H6=>∃ (kvs:List (Key×V)) (y5:Option V),σ=[some (.ref R),some (.ref d),some (.ref e),some (.str ru.1),some (.ref p),y5]∧H6=upd H3 e (.dK kvs) ∧
    kvs.map (·.1)=(wds (hd rules) [] ((rules.take i).flatMap (·.2)++ru.2.take j)).map Sum.inr) ⟨kvs,_,rfl,rfl,by rw [List.take_zero,List.append_nil]; exact hk⟩ ?_ ?_ ?_⟩
   ·rintro j σ H6 _ ⟨kvs,y5,rfl,rfl,_⟩
    exact (sme _).tup v2
   ·rintro j x σ H6 ex2 ⟨kvs,y5,rfl,rfl,hk2⟩
    rw [List.getElem?_map] at ex2
    obtain ⟨z,ez,rfl⟩:=Option.map_eq_some_iff.mp ex2
    have lj:=(List.getElem?_eq_some_iff.mp ez).1
    have eS:wds (hd rules) [] ((rules.take i).flatMap (·.2)++ru.2.take (j+1))=addW (hd rules) (wds (hd rules) [] ((rules.take i).flatMap (·.2)++ru.2.take j)) z:=by
     rw [List.take_add_one,ez,← List.append_assoc]
     exact List.foldl_append
    have lk:kvs.length≤8 * i+8:=by
     have h1:kvs.length=(wds (hd rules) [] ((rules.take i).flatMap (·.2)++ru.2.take j)).length:=by
      have:=congrArg List.length hk2
      rw [List.length_map,List.length_map] at this
      exact this
     have h2:=wds_len (hd rules) ((rules.take i).flatMap (·.2)++ru.2.take j) []
     rw [List.length_append,List.length_take] at h2
     simp only [List.length_nil] at h2
     omega
    have mem:(valV kH (Sum.inr z)).isSome=true↔z∈hd rules:=by rw [val_mem,keysH]; exact inr_mem
    refine ⟨_,rfl,_,rfl,d,_,rfl,DGet.k (k:=Sum.inr z) (hde _),_,rfl,?_⟩
    refine ite2 (fun c=>?_) (fun c=>?_)
    ·have nm:z∉hd rules:=fun h=>by rw [mem.mpr h] at c; exact absurd c (by decide)
     refine ⟨_,rfl,_,rfl,e,_,rfl,DPut.k (k:=Sum.inr z) upd_same (fits' (by omega)),?_⟩
     refine ⟨putK kvs (Sum.inr z) (.bl true),_,rfl,by rw [upd_upd],?_⟩
     rw [eS]
     unfold addW
     rw [if_neg nm]
     exact keys_add hk2 z
    ·have im:z∈hd rules:=mem.mp (by
      cases h:(valV kH (Sum.inr z)).isSome with
      | true=>rfl
      | false=>exact absurd (by rw [h]; rfl) c)
     refine ⟨kvs,_,rfl,rfl,?_⟩
     rw [eS]
     unfold addW
     rw [if_pos im]
     exact hk2
   ·rintro σ H6 ⟨kvs,y5,rfl,rfl,hk2⟩
    rw [List.length_map,List.take_length,← eT] at hk2
    exact ⟨kvs,_,_,_,rfl,rfl,hk2⟩
  ·rintro σ H5 ⟨kvs,y3,y4,y5,rfl,rfl,hk⟩
   rw [List.length_map,ll,List.take_length] at hk
   refine ⟨_,rfl,e,_,rfl,upd_same,fun D2 hD2=>?_⟩
   rw [keys_str hk]
   exact q D2 _ ((sme _).free hD2) ((sme _).trans (same_laid hD2 _)) upd_same
end
end K11
namespace L2
open PySem
theorem comp_isin {K:PySem.W.Frag} {H:Hp} {p D d:Addr} {zs:List Str} {kvs:List (Key×V)} {σ:St} {js:List (Nat×Str)} {Qp:Hp→Prop} (hσ:capS ["part"] js σ=[none,some (.ref d)]) (hp:SqT K H p (zs.map V.str)) (hz:zs.length≤1000)
  (hd:H d=some (.dK kvs)) (hD:H D=none) (q:∀ H2,Same H H2→H2 D=some (.lst ((zs.map fun z=>(valV kvs (Sum.inr z)).isSome).map V.bl))→Qp H2) :
  ∃ W:Nat→Nat→List V→St→Hp→Prop,(∃ m,W 0 m [] (capS ["part"] js σ) (upd H D (.lst []))) ∧
 ∀ i m ys σ' H,W i m ys σ' H→((Itt K p).stop i H∧Qp H)∨((Itt K p).go i H∧∃ m',m' < m∧∀ x H',(Itt K p).yld i H x H'→gName 0 x σ' H' fun σ2 H2=>tTrue σ2 H2 fun b H3 =>
  if b=true then tDIn (tVar 0) (tVar 1) σ2 H3 fun y H4=>H4 D=some (.lst ys)∧ys.length < sizeLine∧W (i+1) m' (ys++[y]) σ2 (upd H4 D (.lst (ys++[y]))) else W (i+1) m' ys σ2 H3):=by
 refine compG_tup (xs:=zs.map V.str) (fun i ys σ2 H2=>ys=(((zs.take i).map fun z=>(valV kvs (Sum.inr z)).isSome).map V.bl)∧(∃ y0,σ2=[y0,some (.ref d)])∧Same H H2∧H2 D=some (.lst ys))
  ⟨rfl,⟨none,hσ⟩,same_laid hD _,upd_same⟩ (fun i ys σ2 H2 _ h=>h.2.2.1.tup hp) (fun i x ys σ2 H2 ex h=>?_) (fun ys σ2 H2 h=>?_)
 ·obtain ⟨rfl,⟨y0,rfl⟩,sm,hd2⟩:=h
  rw [List.getElem?_map] at ex
  obtain ⟨z,ez,rfl⟩:=Option.map_eq_some_iff.mp ex
  have li:=(List.getElem?_eq_some_iff.mp ez).1
  refine goN (goT ?_)
  refine ⟨_,rfl,_,rfl,d,_,rfl,DGet.k (k:=Sum.inr z) (sm _ _ hd),hd2,fits' (by rw [List.length_map,List.length_map,List.length_take]; omega),?_,⟨_,rfl⟩,?_,upd_same⟩
  ·rw [List.take_add_one,ez,List.map_append,List.map_append]; rfl
  ·intro b o hb
   rw [upd_ne (fun z=>by rw [z,hD] at hb; cases hb)]
   exact sm b o hb
 ·obtain ⟨rfl,_,sm,hd2⟩:=h
  rw [List.length_map,List.take_length] at hd2
  exact q H2 sm hd2
theorem sqt_updK {K:PySem.W.Frag} {H:Hp} {D a:Addr} {xs:List V} {ys:List (Key×V)} {o:HO} (hD:H D=some (.dK ys)) (h:SqT K H a xs):SqT K (upd H D o) a xs:=by
 rcases h with (h | ⟨u,h⟩) | h
 ·exact .inl (.inl (by rw [upd_ne (fun z=>by rw [z,hD] at h; cases h)]; exact h))
 ·exact .inl (.inr ⟨u,by rw [upd_ne (fun z=>by rw [z,hD] at h; cases h)]; exact h⟩)
 ·exact .inr h
theorem nodup_len {α:Type} [DecidableEq α]:∀ (l m:List α),l.Nodup→(∀ x∈l,x∈m)→l.length≤m.length
 | [],m,_,_=>Nat.zero_le _
 | a::l,m,hn,h=>by
  have hm:=h a List.mem_cons_self
  have:=nodup_len l (m.erase a) (List.nodup_cons.mp hn).2 fun x hx=>(List.mem_erase_of_ne (fun z:x=a=>(List.nodup_cons.mp hn).1 (by rw [← z]; exact hx))).mpr (h x (List.mem_cons_of_mem _ hx))
  rw [List.length_erase_of_mem hm] at this
  have:=List.length_pos_of_mem hm
  rw [List.length_cons]; omega
end L2
namespace M11
open PySem L2
inductive Emp (rules:List Rule):List (Str×Nat)→Prop
 | nil:Emp rules []
 | snoc {ets:List (Str×Nat)} {k:Nat} {ru:Rule}:Emp rules ets→rules[k]?=some ru→ru.1∉ets.map (·.1)→(∀ p∈ru.2,p∈ets.map (·.1))→Emp rules (ets++[(ru.1,k)])
def EmpC (rules:List Rule) (n:Nat) (ets:List (Str×Nat)):Prop:=∀ ru∈rules.take n,(∀ p∈ru.2,p∈ets.map (·.1))→ru.1∈ets.map (·.1)
theorem Emp.nd {rules:List Rule} {ets:List (Str×Nat)} (h:Emp rules ets):(ets.map (·.1)).Nodup:=by
 induction h with
 | nil=>exact List.nodup_nil
 | snoc h e n p ih =>
  rw [List.map_append]
  refine List.nodup_append.mpr ⟨ih,by simp,fun a ha b hb=>?_⟩
  rw [List.map_singleton,List.mem_singleton] at hb
  exact fun z=>n (by rw [← hb,← z]; exact ha)
theorem Emp.head {rules:List Rule} {ets:List (Str×Nat)} (h:Emp rules ets):∀ x∈ets.map (·.1),x∈rules.map (·.1):=by
 induction h with
 | nil=>simp
 | snoc h e n p ih =>
  intro x hx
  rw [List.map_append] at hx
  rcases List.mem_append.mp hx with hx | hx
  ·exact ih x hx
  ·rw [List.map_singleton,List.mem_singleton] at hx
   rw [hx]
   exact List.mem_map_of_mem (List.mem_of_getElem? e)
theorem Emp.len {rules:List Rule} {ets:List (Str×Nat)} (h:Emp rules ets):ets.length≤rules.length:=by
 have:=nodup_len _ _ h.nd h.head
 rw [List.length_map,List.length_map] at this
 exact this
end M11
namespace K11
open PySem L2 M11
section
variable {P:Program} {w:World} {K:PySem.W.Frag} {mg:Str→Option Value} {base:Heap} {f:Addr} {fd:FuncData}
def EtsV (K:PySem.W.Frag) (H:Hp) (ts:List Addr) (ets:List (Str×Nat)):Prop:=Paired (fun t (e:Str×Nat)=>SqT K H t [.str e.1,.int (e.2:Int)]) ts ets
theorem EtsV.keep {H H':Hp} {ts:List Addr} {ets:List (Str×Nat)} (h:EtsV K H ts ets) (k:∀ a xs,SqT K H a xs→SqT K H' a xs):EtsV K H' ts ets:=Paired.mapP h fun t e z=>k _ _ z
structure ESt (K:PySem.W.Frag) (rules:List Rule) (H H5:Hp) (D d:Addr) (ts:List Addr) (ets:List (Str×Nat)) (kvs:List (Key×V)):Prop where
 sm:Same H H5
 hD:H5 D=some (.lst (ts.map V.ref))
 hd:H5 d=some (.dK kvs)
 keys:kvs.map (·.1)=(ets.map (·.1)).map Sum.inr
 ev:EtsV K H5 ts ets
 emp:Emp rules ets
theorem ESt.same {rules:List Rule} {H H5 H6:Hp} {D d:Addr} {ts:List Addr} {ets:List (Str×Nat)} {kvs:List (Key×V)} (h:ESt K rules H H5 D d ts ets kvs) (s:Same H5 H6):ESt K rules H H6 D d ts ets kvs :=
 ⟨h.sm.trans s,s _ _ h.hD,s _ _ h.hd,h.keys,h.ev.keep fun _ _ z=>s.tup z,h.emp⟩
theorem ESt.mem {rules:List Rule} {H H5:Hp} {D d:Addr} {ts:List Addr} {ets:List (Str×Nat)} {kvs:List (Key×V)} (h:ESt K rules H H5 D d ts ets kvs) (z:Str):(valV kvs (Sum.inr z)).isSome=true↔z∈ets.map (·.1):=by
 rw [val_mem,h.keys]; exact inr_mem
theorem ESt.len {rules:List Rule} {H H5:Hp} {D d:Addr} {ts:List Addr} {ets:List (Str×Nat)} {kvs:List (Key×V)} (h:ESt K rules H H5 D d ts ets kvs):ts.length=ets.length∧kvs.length=ets.length:=by
 refine ⟨Paired.length h.ev,?_⟩
 have:=congrArg List.length h.keys
 simpa using this
theorem ESt.more {rules:List Rule} {H H5:Hp} {D d t:Addr} {ts:List Addr} {ets:List (Str×Nat)} {kvs:List (Key×V)} (h:ESt K rules H H5 D d ts ets kvs) (fD:H D=none) (fd:H d=none) {k:Nat} {ru:Rule} (e:rules[k]?=some ru)
  (n:ru.1∉ets.map (·.1)) (p:∀ x∈ru.2,x∈ets.map (·.1)) (ht:upd H5 d (.dK (putK kvs (Sum.inr ru.1) (.bl true))) t=none) :
  ESt K rules H (upd (upd (upd H5 d (.dK (putK kvs (Sum.inr ru.1) (.bl true)))) t (.tup [.str ru.1,.int (k:Int)])) D (.lst (ts.map V.ref++[.ref t]))) D d (ts++[t]) (ets++[(ru.1,k)]) (putK kvs (Sum.inr ru.1) (.bl true)):=by
 have nDd:D≠d:=fun z=>by have:=h.hD; rw [z,h.hd] at this; cases this
 have nt:t≠d:=fun z=>by rw [z,upd_same] at ht; cases ht
 have ht5:H5 t=none:=by rw [upd_ne nt] at ht; exact ht
 have nDt:D≠t:=fun z=>by rw [← z,h.hD] at ht5; cases ht5
 have hD2:upd (upd H5 d (.dK (putK kvs (Sum.inr ru.1) (.bl true)))) t (.tup [.str ru.1,.int (k:Int)]) D=some (.lst (ts.map V.ref)):=by rw [upd_ne nDt,upd_ne nDd]; exact h.hD
 have kp:∀ a xs,SqT K H5 a xs→SqT K (upd (upd (upd H5 d (.dK (putK kvs (Sum.inr ru.1) (.bl true)))) t (.tup [.str ru.1,.int (k:Int)])) D (.lst (ts.map V.ref++[.ref t]))) a xs:=fun a xs z =>
  sqt_upd hD2 ((same_laid ht _).tup (sqt_updK h.hd z))
 refine ⟨fun b o hb=>?_,by rw [upd_same,List.map_append]; rfl,by rw [upd_ne nDd.symm,upd_ne nt.symm,upd_same],?_,Paired.snoc (h.ev.keep kp) (sqt_upd hD2 (SqT.of upd_same)),.snoc h.emp e n p⟩
 ·have:=h.sm b o hb
  rw [upd_ne (fun z=>by rw [z,fD] at hb; cases hb),upd_ne (fun z=>by rw [z,ht5] at this; cases this),upd_ne (fun z=>by rw [z,fd] at hb; cases hb)]
  exact this
 ·rw [put_out (by rw [h.keys]; exact fun z=>n (inr_mem.mp z)),h.keys,List.map_append,List.map_append]; rfl
def spEmpties (K:PySem.W.Frag):Sp:=fun vs H Q _=>∃ (R:Addr) (rs:List Addr) (rules:List Rule),vs=[.ref R]∧SqL K H R (rs.map V.ref)∧Rules K H rs rules∧rules.length≤1000∧(∀ ru∈rules,ru.2.length≤8) ∧
 ∀ D ts ets H',H D=none→Same H H'→H' D=some (.lst (ts.map V.ref))→EtsV K H' ts ets→Emp rules ets→EmpC rules rules.length ets→Q (.ref D) H'
theorem scEmpties:FnScope ["rules","told","empty","many","number","rule"] ["rules"] (defScope sEmpties):=⟨rfl,rfl,rfl,by decide +kernel,rfl,by decide +kernel,by decide +kernel⟩
theorem ok_empties (F:Fun K "found_empties" "found_empties" sEmpties f fd) (T:Txt mg):FnOk P w K mg base CX0 1 f fd ["rules"] (spEmpties K):=by
 refine F.ok scEmpties (fun vs H Q E h=>?_) (fun cdv A outer s H vs Q E hr h=>?_)
 ·obtain ⟨R,rs,rules,rfl,_⟩:=h; rfl
 ·obtain ⟨R,rs,rules,rfl,hR,hrl,hlen,h8,q⟩:=h
  have hu:=hu_of hr
  refine ⟨_,pss_cons (ps_set (i:=1) scEmpties.nd rfl (Or.inl rfl) (pe_lst pa_nil))
   (pss_cons (ps_set (i:=2) scEmpties.nd rfl (Or.inr rfl) pe_dnewK)
   (pss_cons (ps_set (i:=3) scEmpties.nd rfl (Or.inl rfl) (pe_un un_neg pe_int))
   (pss_cons (ps_while PassesOwn.never (pt_cmpR op_lt (pv 3) (pe_callB call_len_seq rfl T.len PySem.boot_len (pa_cons (pv 1) pa_nil)) (nomark _))
    (pss_cons (ps_set (i:=3) scEmpties.nd rfl (Or.inl rfl) (pe_callB call_len_seq rfl T.len PySem.boot_len (pa_cons (pv 1) pa_nil)))
    (pss_one (ps_for PassesOwn.never rfl (pi_enum rfl T.enu (pa_cons (pv 0) pa_nil)) (pg_tup rfl (pgs_cons (pg_name (i:=4) scEmpties.nd rfl (Or.inl rfl)) (pgs_cons (pg_name (i:=5) scEmpties.nd rfl (Or.inl rfl)) pgs_nil)))
     (pss_one (ps_if (PW.pt (pw_and (pt_cmp (pc_dnotin hu (pe_ix ix_tup (pv 5) pe_int (fun _ _=>rfl)) (pv 2)))
       (pw_and1 (pt_val (pe_callB (call_allB rfl) rfl T.all boot_all (pa_cons (pe_compG ["part"] [(2,"empty")] rfl (pi_tup (pe_ix ix_tup (pv 5) pe_int (fun _ _=>rfl))) (caps_of rfl rfl) (by decide +kernel) rfl (by decide +kernel)
        (fun _ _ _ _ _=>pg_name (i:=0) (show (["part","empty"]:List Str).Nodup by decide +kernel) rfl (Or.inl rfl)) (fun _ _ _ _ _=>pif_nil) (fun _ _ _ _ _=>pe_cmp (pc_din hu (pv 0) (pv 1)))) pa_nil))))))
      (pss_cons (ps_dput hu (pv 2) (pe_ix ix_tup (pv 5) pe_int (fun _ _=>rfl)) pe_bl rfl)
      (pss_one (ps_expr (pe_bm PySem.F.plainAttrs_list PySem.F.slot_list_append PySem.F.type_list_append mt_append (pv 1) (pa_cons (pe_tup (pa_cons (pe_ix ix_tup (pv 5) pe_int (fun _ _=>rfl)) (pa_cons (pv 4) pa_nil))) pa_nil))))) pss_nil))))))
   (pss_one (ps_ret (pv 1)))))),?_⟩
  refine ⟨(by show 0≤sizeLine; decide),fun D hD d hd=>?_⟩
  have nd0:d≠D:=fun z=>by rw [z,upd_same] at hd; cases hd
  have hd0:H d=none:=by rw [upd_ne nd0] at hd; exact hd
  have e0:ESt K rules H (upd (upd H D (.lst [])) d (.dK [])) D d [] [] []:=⟨(same_laid hD _).trans (same_laid hd _),by rw [upd_ne nd0.symm,upd_same]; rfl,upd_same,rfl,.nil,.nil⟩
  generalize upd (upd H D (.lst [])) d (.dK [])=H0 at e0
  refine ⟨1,rfl,?_⟩
  refine ⟨fun m σ H5=>∃ (ts:List Addr) (ets:List (Str×Nat)) (kvs:List (Key×V)) (many:Int) (y4 y5:Option V),σ=[some (.ref R),some (.ref D),some (.ref d),some (.int many),y4,y5]∧ESt K rules H H5 D d ts ets kvs∧-1≤many∧many≤ets.length∧(many=ets.length→EmpC rules rules.length ets)∧(m:Int)=rules.length+1 - many,
   ⟨rules.length+2,[],[],[],-1,none,none,rfl,e0,by omega,by simp,by simp,by simp; omega⟩,?_⟩
  rintro m σ H5 ⟨ts,ets,kvs,many,y4,y5,rfl,S,b1,b2,cl,em⟩
  obtain ⟨lt,lk⟩:=S.len
  refine ⟨_,rfl,_,rfl,D,_,rfl,.inl (SqL.of S.hD),_,_,rfl,rfl,_,rfl,?_⟩
  refine ite2 (fun c=>?_) (fun c=>?_)
  ·have c':=of_decide_eq_true c
   rw [List.length_map,lt] at c'
   refine ⟨fun σ H5=>∃ (ts2:List Addr) (ets2:List (Str×Nat)) (kvs2:List (Key×V)) (y4 y5:Option V),σ=[some (.ref R),some (.ref D),some (.ref d),some (.int (ets.length:Int)),y4,y5]∧ESt K rules H H5 D d ts2 ets2 kvs2∧ets.length≤ets2.length∧(ets2.length=ets.length→EmpC rules rules.length ets2),?_,?_⟩
   ·rintro σ H6 ⟨ts2,ets2,kvs2,y4,y5,rfl,S2,l2,c2⟩
    have:=S2.emp.len
    exact ⟨(rules.length+1 - ets.length:Int).toNat,by omega,ts2,ets2,kvs2,_,_,_,rfl,S2,by omega,by omega,fun z=>c2 (by omega),by omega⟩
   ·refine ⟨_,rfl,D,_,rfl,.inl (SqL.of S.hD),?_⟩
    rw [List.length_map,lt]
    refine ⟨_,rfl,R,_,rfl,S.sm.seq hR,?_⟩
    refine for_enum (xs:=rs.map V.ref) (fun i σ H6=>∃ (ts2:List Addr) (ets2:List (Str×Nat)) (kvs2:List (Key×V)) (y4 y5:Option V),σ=[some (.ref R),some (.ref D),some (.ref d),some (.int (ets.length:Int)),y4,y5]∧ESt K rules H H6 D d ts2 ets2 kvs2∧ets.length≤ets2.length∧(ets2.length=ets.length→EmpC rules i ets2))
     ⟨ts,ets,kvs,_,_,rfl,S,Nat.le_refl _,fun _ ru hru=>by simp at hru⟩ ?_ ?_ ?_
    ·rintro i σ H6 _ ⟨ts2,ets2,kvs2,y4,y5,rfl,S2,_⟩
     exact S2.sm.seq hR
    ·rintro i x σ H6 t ex ⟨ts2,ets2,kvs2,y4,y5,rfl,S2,l2,c2⟩ ht
     rw [List.getElem?_map] at ex
     obtain ⟨r,er,rfl⟩:=Option.map_eq_some_iff.mp ex
     obtain ⟨ru,e1,p,v1,v2⟩:=hrl.get er
     have h8r:=h8 ru (List.mem_of_getElem? e1)
     have S3:=S2.same (same_laid ht (.tup [.int (i:Int),.ref r]))
     have hv3:SqT K (upd H6 t (.tup [.int (i:Int),.ref r])) t [.int (i:Int),.ref r]:=SqT.of upd_same
     generalize upd H6 t (.tup [.int (i:Int),.ref r])=H7 at S3 hv3
     obtain ⟨lt2,lk2⟩:=S3.len
     have el2:=S3.emp.len
     have tk:rules.take (i+1)=rules.take i++[ru]:=by rw [List.take_add_one,e1]; rfl
     have stay:(¬ ((∀ p∈ru.2,p∈ets2.map (·.1))∧ru.1∉ets2.map (·.1)))→(ets2.length=ets.length→EmpC rules (i+1) ets2):=fun hn z ru' hru' hp=>by
      rw [tk] at hru'
      rcases List.mem_append.mp hru' with h | h
      ·exact c2 z ru' h hp
      ·rw [List.mem_singleton.mp h] at hp ⊢
       exact Classical.byContradiction fun hc=>hn ⟨hp,hc⟩
     refine ⟨t,_,rfl,hv3,rfl,_,_,rfl,_,_,rfl,rfl,?_⟩
     refine ⟨_,rfl,r,_,_,_,rfl,rfl,S3.sm.tup v1,rfl,?_⟩
     refine ⟨_,rfl,d,_,rfl,DGet.k (k:=Sum.inr ru.1) S3.hd,_,rfl,?_⟩
     refine ite2 (fun c3=>?_) (fun c3=>?_)
     ·have nm:ru.1∉ets2.map (·.1):=fun h=>by rw [(S3.mem _).mpr h] at c3; exact absurd c3 (by decide)
      refine ⟨_,rfl,r,_,_,_,rfl,rfl,S3.sm.tup v1,rfl,p,rfl,⟨_,S3.sm.tup v2⟩,fun D2 hD2=>comp_isin rfl (S3.sm.tup v2) (by omega) S3.hd hD2 fun H8 sm8 hd8=>?_⟩
      have S4:=S3.same sm8
      refine ⟨D2,_,rfl,SqL.of hd8,_,rfl,?_⟩
      refine ite2 (fun c4=>?_) (fun c4=>?_)
      ·have al:∀ x∈ru.2,x∈ets2.map (·.1):=fun x hx=>(S4.mem x).mp (List.all_eq_true.mp c4 _ (List.mem_map_of_mem hx))
       refine ⟨_,rfl,_,rfl,r,_,_,_,rfl,rfl,S4.sm.tup v1,rfl,d,_,rfl,DPut.k (k:=Sum.inr ru.1) S4.hd (fits' (by omega)),?_⟩
       have v1':SqT K (upd H8 d (.dK (putK kvs2 (Sum.inr ru.1) (.bl true)))) r [.str ru.1,.ref p]:=sqt_updK S4.hd (S4.sm.tup v1)
       have hDu:upd H8 d (.dK (putK kvs2 (Sum.inr ru.1) (.bl true))) D=some (.lst (ts2.map V.ref)):=by rw [upd_ne (fun z=>by have:=S4.hD; rw [z,S4.hd] at this; cases this)]; exact S4.hD
       refine ⟨_,rfl,.inl ⟨rfl,_,SqL.of hDu⟩,_,rfl,r,_,_,_,rfl,rfl,v1',rfl,_,rfl,(by show 2≤sizeLine; decide),fun t2 ht2=>?_⟩
       refine ⟨D,_,_,rfl,rfl,(by rw [upd_ne (ne_of_none hDu ht2)]; exact hDu),fits' (by rw [List.length_map]; omega),?_⟩
       have S5:=S4.more hD hd0 e1 nm al ht2
       exact ⟨ts2++[t2],ets2++[(ru.1,i)],_,_,_,rfl,S5,by rw [List.length_append]; omega,fun z=>by rw [List.length_append] at z; simp at z; omega⟩
      ·refine ⟨ts2,ets2,kvs2,_,_,rfl,S4,l2,stay fun ⟨ha,_⟩=>c4 (List.all_eq_true.mpr fun b hb=>?_)⟩
       obtain ⟨x,hx,rfl⟩:=List.mem_map.mp hb
       exact (S4.mem x).mpr (ha x hx)
     ·refine ⟨ts2,ets2,kvs2,_,_,rfl,S3,l2,stay fun ⟨_,hn⟩=>c3 ?_⟩
      cases hq:(valV kvs2 (Sum.inr ru.1)).isSome with
      | true=>exact absurd ((S3.mem _).mp hq) hn
      | false=>rfl
    ·rintro σ H6 ⟨ts2,ets2,kvs2,y4,y5,rfl,S2,l2,c2⟩
     rw [List.length_map,Paired.length hrl] at c2
     exact ⟨ts2,ets2,kvs2,_,_,rfl,S2,l2,c2⟩
  ·have c':=of_decide_eq_false (Bool.eq_false_iff.mpr c)
   rw [List.length_map,lt] at c'
   exact ⟨_,rfl,q D ts ets H5 hD S.sm S.hD S.ev S.emp (cl (by omega))⟩
end
end K11
namespace M11
open PySem L2
def fpN (b:Str→Bool):List Str→Nat
 | []=>0
 | z::r=>if b z=true then fpN b r+1 else 1
theorem fpN_all (b:Str→Bool):∀ zs:List Str,(∀ z∈zs,b z=true)→fpN b zs=zs.length
 | [],_=>rfl
 | z::r,h=>by
  unfold fpN
  rw [if_pos (h z List.mem_cons_self),fpN_all b r fun x hx=>h x (List.mem_cons_of_mem _ hx)]; rfl
theorem fpN_at (b:Str→Bool):∀ (zs:List Str) (i:Nat) (z:Str),(∀ x∈zs.take i,b x=true)→zs[i]?=some z→¬ b z=true→fpN b zs=i+1
 | y::r,0,z,_,e,n=>by
  cases e
  unfold fpN
  rw [if_neg n]
 | y::r,i+1,z,h,e,n=>by
  unfold fpN
  rw [if_pos (h y (by rw [List.take_succ_cons]; exact List.mem_cons_self)),fpN_at b r i z (fun x hx=>h x (by rw [List.take_succ_cons]; exact List.mem_cons_of_mem _ hx)) e n]
theorem fpN_le (b:Str→Bool):∀ zs:List Str,fpN b zs≤zs.length
 | []=>Nat.le_refl _
 | z::r=>by
  have:=fpN_le b r
  unfold fpN
  rw [List.length_cons]
  split <;> omega
def cnt (n:Nat):List V:=(List.range n).map fun k:Nat=>V.int (k:Int)
end M11
namespace K11
open PySem L2 M11
section
variable {P:Program} {w:World} {K:PySem.W.Frag} {mg:Str→Option Value} {base:Heap} {f:Addr} {fd:FuncData}
def spTwice (K:PySem.W.Frag):Sp:=fun vs H Q _=>∃ (R:Addr) (rs:List Addr) (rules:List Rule),vs=[.ref R]∧SqL K H R (rs.map V.ref)∧Rules K H rs rules∧rules.length≤1000∧(∀ ru∈rules,ru.2.length≤8)∧(rules.flatMap (·.2)).Nodup ∧
 ∀ H',Same H H'→Q .non H'
theorem scTwice:FnScope ["strengths","met","way","words","word"] ["strengths"] (defScope sTwice):=⟨rfl,rfl,rfl,by decide +kernel,rfl,by decide +kernel,by decide +kernel⟩
theorem ok_twice (F:Fun K "refuse_twice" "refuse_twice" sTwice f fd) (T:Txt mg):FnOk P w K mg base CX0 1 f fd ["strengths"] (spTwice K):=by
 refine F.ok scTwice (fun vs H Q E h=>?_) (fun cdv A outer s H vs Q E hr h=>?_)
 ·obtain ⟨R,rs,rules,rfl,_⟩:=h; rfl
 ·obtain ⟨R,rs,rules,rfl,hR,hrl,hlen,h8,hnd,q⟩:=h
  have hu:=hu_of hr
  refine ⟨_,pss_cons (ps_set (i:=1) scTwice.nd rfl (Or.inl rfl) pe_dnewK)
   (pss_one (ps_for PassesOwn.never rfl (pi_list (pv 0)) (pg_tup rfl (pgs_cons (pg_name (i:=2) scTwice.nd rfl (Or.inl rfl)) (pgs_cons (pg_name (i:=3) scTwice.nd rfl (Or.inl rfl)) pgs_nil)))
    (pss_one (ps_for PassesOwn.never rfl (pi_tup (pv 3)) (pg_name (i:=4) scTwice.nd rfl (Or.inl rfl))
     (pss_cons (ps_if (pt_cmp (pc_din hu (pv 4) (pv 1))) (pss_one ps_never) pss_nil) (pss_one (ps_dput hu (pv 1) (pv 4) pe_bl rfl))))))),?_⟩
  intro e he
  have sme:∀ o,Same H (upd H e o):=fun o=>same_laid he o
  have ll:=Paired.length hrl
  refine ⟨_,rfl,R,rfl,⟨_,(sme _).seq hR⟩,for_list (xs:=rs.map V.ref) (fun i σ H5=>∃ (kvs:List (Key×V)) (y3 y4 y5:Option V),σ=[some (.ref R),some (.ref e),y3,y4,y5]∧H5=upd H e (.dK kvs) ∧
   kvs.map (·.1)=((rules.take i).flatMap (·.2)).map Sum.inr) ⟨[],none,none,none,rfl,rfl,rfl⟩ ?_ ?_ ?_⟩
  ·rintro i σ H5 _ ⟨kvs,y3,y4,y5,rfl,rfl,_⟩
   exact (sme _).seq hR
  ·rintro i x σ H5 ex ⟨kvs,y3,y4,y5,rfl,rfl,hk⟩
   rw [List.getElem?_map] at ex
   obtain ⟨r,er,rfl⟩:=Option.map_eq_some_iff.mp ex
   obtain ⟨ru,e1,p,v1,v2⟩:=hrl.get er
   have li:=(List.getElem?_eq_some_iff.mp e1).1
   have h8r:=h8 ru (List.mem_of_getElem? e1)
   have eT:(rules.take (i+1)).flatMap (·.2)=(rules.take i).flatMap (·.2)++ru.2:=by
    rw [List.take_add_one,e1,List.flatMap_append]
    simp
   have lA:((rules.take i).flatMap (·.2)).length≤8 * i:=flat_len (rules.take i) i (by rw [List.length_take]; omega) fun ru hru=>h8 ru (List.mem_of_mem_take hru)
   have nd2:((rules.take i).flatMap (·.2)++ru.2).Nodup:=by
    have e2:rules.flatMap (·.2)=((rules.take i).flatMap (·.2)++ru.2)++(rules.drop (i+1)).flatMap (·.2):=by
     rw [← eT,← List.flatMap_append,List.take_append_drop]
    rw [e2] at hnd
    exact (List.nodup_append.mp hnd).1
   refine ⟨r,_,rfl,(sme _).tup v1,rfl,_,_,rfl,_,_,rfl,rfl,?_⟩
   refine ⟨_,rfl,p,rfl,⟨_,(sme _).tup v2⟩,for_tup (xs:=ru.2.map V.str) (fun j σ H6=>∃ (kvs:List (Key×V)) (y5:Option V),σ=[some (.ref R),some (.ref e),some (.str ru.1),some (.ref p),y5]∧H6=upd H e (.dK kvs) ∧
    kvs.map (·.1)=((rules.take i).flatMap (·.2)++ru.2.take j).map Sum.inr) ⟨kvs,_,rfl,rfl,by rw [List.take_zero,List.append_nil]; exact hk⟩ ?_ ?_ ?_⟩
   ·rintro j σ H6 _ ⟨kvs,y5,rfl,rfl,_⟩
    exact (sme _).tup v2
   ·rintro j x σ H6 ex2 ⟨kvs,y5,rfl,rfl,hk2⟩
    rw [List.getElem?_map] at ex2
    obtain ⟨z,ez,rfl⟩:=Option.map_eq_some_iff.mp ex2
    have lj:=(List.getElem?_eq_some_iff.mp ez).1
    have eS:ru.2.take (j+1)=ru.2.take j++[z]:=by rw [List.take_add_one,ez]; rfl
    have lk:kvs.length≤8 * i+8:=by
     have h1:=congrArg List.length hk2
     rw [List.length_map,List.length_map,List.length_append,List.length_take] at h1
     omega
    have nz:z∉(rules.take i).flatMap (·.2)++ru.2.take j:=fun hz=>by
     have e3:(rules.take i).flatMap (·.2)++ru.2=((rules.take i).flatMap (·.2)++ru.2.take j)++([z]++ru.2.drop (j+1)):=by
      rw [List.append_assoc,← List.append_assoc (ru.2.take j),← eS,List.take_append_drop]
     rw [e3] at nd2
     exact (List.nodup_append.mp nd2).2.2 z hz z (by simp) rfl
    have nk:¬ (Sum.inr z:Key)∈kvs.map (·.1):=by rw [hk2]; exact fun h=>nz (inr_mem.mp h)
    refine ⟨_,rfl,_,rfl,e,_,rfl,DGet.k (k:=Sum.inr z) upd_same,_,rfl,?_⟩
    refine ite2 (fun c=>absurd ((val_mem kvs _).mp c) nk) (fun _=>?_)
    refine ⟨_,rfl,_,rfl,e,_,rfl,DPut.k (k:=Sum.inr z) upd_same (fits' (by omega)),?_⟩
    refine ⟨putK kvs (Sum.inr z) (.bl true),_,rfl,by rw [upd_upd],?_⟩
    rw [put_out nk,hk2,eS,← List.append_assoc]
    simp only [List.map_append,List.map_cons,List.map_nil]
   ·rintro σ H6 ⟨kvs,y5,rfl,rfl,hk2⟩
    rw [List.length_map,List.take_length,← eT] at hk2
    exact ⟨kvs,_,_,_,rfl,rfl,hk2⟩
  ·rintro σ H5 ⟨kvs,y3,y4,y5,rfl,rfl,hk⟩
   exact q _ (sme _)
def spPlaces (K:PySem.W.Frag):Sp:=fun vs H Q _=>∃ (p d:Addr) (zs:List Str) (kvs:List (Key×V)),vs=[.ref p,.ref d]∧SqT K H p (zs.map V.str)∧zs.length≤1000∧H d=some (.dK kvs) ∧
 ∀ D H',H D=none→Same H H'→H' D=some (.lst (cnt (fpN (fun z=>(valV kvs (Sum.inr z)).isSome) zs)))→Q (.ref D) H'
theorem scPlaces:FnScope ["parts","empty","places","place","part"] ["parts","empty"] (defScope sPlaces):=⟨rfl,rfl,rfl,by decide +kernel,rfl,by decide +kernel,by decide +kernel⟩
theorem ok_places (F:Fun K "first_places" "first_places" sPlaces f fd) (T:Txt mg):FnOk P w K mg base CX0 1 f fd ["parts","empty"] (spPlaces K):=by
 refine F.ok scPlaces (fun vs H Q E h=>?_) (fun cdv A outer s H vs Q E hr h=>?_)
 ·obtain ⟨p,d,zs,kvs,rfl,_⟩:=h; rfl
 ·obtain ⟨p,d,zs,kvs,rfl,hp,hz,hd,q⟩:=h
  have hu:=hu_of hr
  refine ⟨_,pss_cons (ps_set (i:=2) scPlaces.nd rfl (Or.inl rfl) (pe_lst pa_nil))
   (pss_cons (ps_for PassesOwn.never rfl (pi_enumT rfl T.enu (pa_cons (pv 0) pa_nil)) (pg_tup rfl (pgs_cons (pg_name (i:=3) scPlaces.nd rfl (Or.inl rfl)) (pgs_cons (pg_name (i:=4) scPlaces.nd rfl (Or.inl rfl)) pgs_nil)))
    (pss_cons (ps_expr (pe_bm PySem.F.plainAttrs_list PySem.F.slot_list_append PySem.F.type_list_append mt_append (pv 2) (pa_cons (pv 3) pa_nil)))
    (pss_one (ps_if (pt_cmp (pc_dnotin hu (pv 4) (pv 1))) (pss_one ps_break) pss_nil))))
   (pss_one (ps_ret (pv 2)))),?_⟩
  refine ⟨(by show 0≤sizeLine; decide),fun D hD=>?_⟩
  have up1:∀ n,cnt n++[V.int (n:Int)]=cnt (n+1):=fun n=>by
   unfold cnt
   rw [List.range_succ,List.map_append]; rfl
  refine ⟨_,rfl,p,_,rfl,(same_laid hD _).tup hp,?_⟩
  refine for_enumT (xs:=zs.map V.str) (fun i σ H5=>∃ (y3 y4:Option V),σ=[some (.ref p),some (.ref d),some (.ref D),y3,y4]∧Same H H5∧H5 D=some (.lst (cnt i))∧∀ z∈zs.take i,(valV kvs (Sum.inr z)).isSome=true)
   ⟨none,none,rfl,same_laid hD _,upd_same,by simp⟩ ?_ ?_ ?_
  ·rintro i σ H5 _ ⟨y3,y4,rfl,sm,_⟩
   exact sm.tup hp
  ·rintro i x σ H5 t ex ⟨y3,y4,rfl,sm,hd5,hall⟩ ht
   rw [List.getElem?_map] at ex
   obtain ⟨z,ez,rfl⟩:=Option.map_eq_some_iff.mp ex
   have li:=(List.getElem?_eq_some_iff.mp ez).1
   have sm2:=sm.trans (same_laid ht (.tup [.int (i:Int),.str z]))
   have hD2:upd H5 t (.tup [.int (i:Int),.str z]) D=some (.lst (cnt i)):=by rw [upd_ne (ne_of_none hd5 ht)]; exact hd5
   have hv:SqT K (upd H5 t (.tup [.int (i:Int),.str z])) t [.int (i:Int),.str z]:=SqT.of upd_same
   generalize upd H5 t (.tup [.int (i:Int),.str z])=H6 at sm2 hD2 hv
   have sm3:Same H (upd H6 D (.lst (cnt i++[V.int (i:Int)]))):=fun b o hb=>by
    rw [upd_ne (fun z=>by rw [z,hD] at hb; cases hb)]
    exact sm2 b o hb
   refine ⟨t,_,rfl,hv,rfl,_,_,rfl,_,_,rfl,rfl,?_⟩
   refine ⟨_,rfl,.inl ⟨rfl,_,SqL.of hD2⟩,_,rfl,D,_,_,rfl,rfl,hD2,fits' (by unfold cnt; rw [List.length_map,List.length_range]; omega),?_⟩
   refine ⟨_,rfl,_,rfl,d,_,rfl,DGet.k (k:=Sum.inr z) (sm3 _ _ hd),_,rfl,?_⟩
   refine ite2 (fun c=>?_) (fun c=>?_)
   ·refine ⟨_,rfl,q D _ hD sm3 ?_⟩
    rw [upd_same,up1,fpN_at _ zs i z hall ez (fun h=>by rw [h] at c; exact absurd c (by decide))]
   ·refine ⟨_,_,rfl,sm3,by rw [upd_same,up1],fun x hx=>?_⟩
    rw [List.take_add_one,ez] at hx
    rcases List.mem_append.mp hx with h | h
    ·exact hall x h
    ·rw [Option.toList_some,List.mem_singleton] at h
     subst h
     cases hq:(valV kvs (Sum.inr x)).isSome with
     | true=>rfl
     | false=>exact absurd (by rw [hq]; rfl) c
  ·rintro σ H5 ⟨y3,y4,rfl,sm,hd5,hall⟩
   rw [List.length_map] at hd5 hall
   rw [List.take_length] at hall
   exact ⟨_,rfl,q D _ hD sm (by rw [fpN_all _ zs hall]; exact hd5)⟩
end
end K11
namespace L2
open PySem
theorem comp_pairsT {K:PySem.W.Frag} {H:Hp} {p D:Addr} {zs:List Str} {σ:St} {v:V} {x:Str} {Qp:Hp→Prop} (hp:SqT K H p (zs.map V.str)) (hz:zs.length≤1000) (hD:H D=none)
  (q:∀ ts H2,Same H H2→H2 D=some (.lst (ts.map V.ref))→Paired (fun t h=>SqT K H2 t [.str h,v]) ts zs→Qp H2) :
  ∃ W:Nat→Nat→List V→St→Hp→Prop,(∃ m,W 0 m [] (capS [x] [] σ) (upd H D (.lst []))) ∧
 ∀ i m ys σ' H,W i m ys σ' H→((Itt K p).stop i H∧Qp H)∨((Itt K p).go i H∧∃ m',m' < m∧∀ x H',(Itt K p).yld i H x H'→gName 0 x σ' H' fun σ2 H2=>tTrue σ2 H2 fun b H3 =>
  if b=true then tTup (tCons (tVar 0) (tCons (tC v) tNil)) σ2 H3 fun y H4=>H4 D=some (.lst ys)∧ys.length < sizeLine∧W (i+1) m' (ys++[y]) σ2 (upd H4 D (.lst (ys++[y]))) else W (i+1) m' ys σ2 H3):=by
 refine compG_tup (xs:=zs.map V.str) (fun i ys σ2 H2=>∃ ts:List Addr,ys=ts.map V.ref∧ts.length=i∧Paired (fun t h=>SqT K H2 t [.str h,v]) ts (zs.take i)∧(∃ y0,σ2=[y0])∧Same H H2∧H2 D=some (.lst ys))
  ⟨[],rfl,rfl,.nil,⟨none,rfl⟩,same_laid hD _,upd_same⟩ (fun i ys σ2 H2 _ h=>?_) (fun i x ys σ2 H2 ex h=>?_) (fun ys σ2 H2 h=>?_)
 ·obtain ⟨_,_,_,_,_,sm,_⟩:=h
  exact sm.tup hp
 ·obtain ⟨ts,rfl,ht,hpp,⟨y0,rfl⟩,sm,hd⟩:=h
  rw [List.getElem?_map] at ex
  obtain ⟨z,ez,rfl⟩:=Option.map_eq_some_iff.mp ex
  have li:=(List.getElem?_eq_some_iff.mp ez).1
  refine goN (goT ?_)
  refine ⟨_,rfl,(by show 2≤sizeLine; decide),fun t ht2=>⟨?_,fits' (by rw [List.length_map]; omega),ts++[t],?_,?_,?_,⟨_,rfl⟩,?_,upd_same⟩⟩
  ·rw [upd_ne (ne_of_none hd ht2)]; exact hd
  ·rw [List.map_append]; rfl
  ·rw [List.length_append,ht]; rfl
  ·rw [List.take_add_one,ez]
   have hd3:upd H2 t (.tup [.str z,v]) D=some (.lst (ts.map V.ref)):=by rw [upd_ne (ne_of_none hd ht2)]; exact hd
   exact Paired.snoc (Paired.mapP hpp fun t' h' z=>sqt_upd hd3 ((same_laid ht2 _).tup z)) (sqt_upd hd3 (SqT.of upd_same))
  ·intro b o hb
   rw [upd_ne (fun z=>by rw [z,hD] at hb; cases hb)]
   exact same_laid ht2 _ _ _ (sm b o hb)
 ·obtain ⟨ts,rfl,ht,hpp,_,sm,hd⟩:=h
  rw [List.length_map,List.take_length] at hpp
  exact q ts H2 sm hd hpp
end L2
namespace M11
open PySem L2
theorem add1_mem (a:List Str) (h x:Str):x∈add1 a h↔x∈a∨x=h:=by
 unfold add1; split
 ·constructor
  ·exact .inl
  ·rintro (z | rfl) <;> assumption
 ·simp
theorem add1_nd {a:List Str} (h:Str) (n:a.Nodup):(add1 a h).Nodup:=by
 unfold add1; split
 ·exact n
 ·rename_i q
  refine List.nodup_append.mpr ⟨n,by simp,fun x hx y hy=>?_⟩
  rw [List.mem_singleton.mp hy]
  exact fun z=>q (z ▸ hx)
theorem add1_le (a:List Str) (h:Str):a.length≤(add1 a h).length:=by
 unfold add1; split <;> simp
theorem add1_eq {a:List Str} {h:Str} (e:(add1 a h).length=a.length):add1 a h=a:=by
 unfold add1 at e ⊢; split
 ·rfl
 ·rename_i q
  rw [if_neg q,List.length_append] at e
  simp at e
theorem ded_mem:∀ (hs acc:List Str) (x:Str),x∈ded acc hs↔x∈acc∨x∈hs
 | [],acc,x=>by simp [ded]
 | h::r,acc,x=>by
  show x∈ded (add1 acc h) r↔_
  rw [ded_mem r,add1_mem,List.mem_cons,or_assoc]
theorem ded_nd:∀ (hs:List Str) {acc:List Str},acc.Nodup→(ded acc hs).Nodup
 | [],_,n=>n
 | h::r,_,n=>ded_nd r (add1_nd h n)
theorem ded_le:∀ (hs acc:List Str),acc.length≤(ded acc hs).length
 | [],_=>Nat.le_refl _
 | h::r,acc=>Nat.le_trans (add1_le acc h) (ded_le r _)
theorem ded_eq:∀ (hs acc:List Str),(ded acc hs).length=acc.length→ded acc hs=acc
 | [],_,_=>rfl
 | h::r,acc,e=>by
  have h1:=add1_le acc h
  have h2:=ded_le r (add1 acc h)
  have e':(ded (add1 acc h) r).length=acc.length:=e
  show ded (add1 acc h) r=acc
  rw [ded_eq r _ (by omega)]
  exact add1_eq (by omega)
inductive Rch (rules:List Rule) (s:Str):Str→Prop
 | start:Rch rules s s
 | step {ru:Rule} {x:Str}:Rch rules s ru.1→ru∈rules→x∈ru.2→Rch rules s x
def MetC (rules:List Rule) (n:Nat) (ms:List Str):Prop:=∀ ru∈rules.take n,ru.1∈ms→∀ x∈ru.2,x∈ms
theorem Rch.among {rules:List Rule} {s x:Str} (h:Rch rules s x):x∈s::rules.flatMap (·.2):=by
 cases h with
 | start=>exact List.mem_cons_self
 | step _ h1 h2=>exact List.mem_cons_of_mem _ (List.mem_flatMap.mpr ⟨_,h1,h2⟩)
end M11
namespace K11
open PySem L2 M11
section
variable {P:Program} {w:World} {K:PySem.W.Frag} {mg:Str→Option Value} {base:Heap} {f:Addr} {fd:FuncData}
def spMet (K:PySem.W.Frag):Sp:=fun vs H Q _=>∃ (R:Addr) (rs:List Addr) (rules:List Rule) (ru0:Rule),vs=[.ref R]∧SqL K H R (rs.map V.ref)∧Rules K H rs rules∧rules[0]?=some ru0∧rules.length≤1000∧(∀ ru∈rules,ru.2.length≤8) ∧
 ∀ d kvs ms H',H d=none→Same H H'→H' d=some (.dK kvs)→kvs.map (·.1)=ms.map Sum.inr→ru0.1∈ms→(∀ x∈ms,Rch rules ru0.1 x)→MetC rules rules.length ms→Q (.ref d) H'
theorem scMet:FnScope ["rules","met","many","head","parts"] ["rules"] (defScope sMet):=⟨rfl,rfl,rfl,by decide +kernel,rfl,by decide +kernel,by decide +kernel⟩
structure MSt (K:PySem.W.Frag) (rules:List Rule) (s0:Str) (H H5:Hp) (d:Addr) (ms:List Str) (kvs:List (Key×V)):Prop where
 sm:Same H H5
 hd:H5 d=some (.dK kvs)
 keys:kvs.map (·.1)=ms.map Sum.inr
 nd:ms.Nodup
 st:s0∈ms
 rch:∀ x∈ms,Rch rules s0 x
theorem MSt.len {rules:List Rule} {s0:Str} {H H5:Hp} {d:Addr} {ms:List Str} {kvs:List (Key×V)} (h:MSt K rules s0 H H5 d ms kvs) (hl:rules.length≤1000) (h8:∀ ru∈rules,ru.2.length≤8):kvs.length=ms.length∧ms.length≤8001:=by
 refine ⟨?_,?_⟩
 ·have:=congrArg List.length h.keys
  simpa using this
 ·have h1:=nodup_len ms _ h.nd fun x hx=>(h.rch x hx).among
  have h2:=flat_len rules 1000 hl h8
  rw [List.length_cons] at h1
  omega
theorem ok_met (F:Fun K "names_met" "names_met" sMet f fd) (T:Txt mg):FnOk P w K mg base CX0 1 f fd ["rules"] (spMet K):=by
 refine F.ok scMet (fun vs H Q E h=>?_) (fun cdv A outer s H vs Q E hr h=>?_)
 ·obtain ⟨R,rs,rules,ru0,rfl,_⟩:=h; rfl
 ·obtain ⟨R,rs,rules,ru0,rfl,hR,hrl,hr0,hlen,h8,q⟩:=h
  have hu:=hu_of hr
  refine ⟨_,pss_cons (ps_set (i:=1) scMet.nd rfl (Or.inl rfl) (pe_disp (pps_cons (pe_ix ix_tup (pe_ix ix_list (pv 0) pe_int (fun _ _=>rfl)) pe_int (fun _ _=>rfl)) pe_bl pps_nil) rfl rfl (by simp) (show 1≤15 by decide)))
   (pss_cons (ps_set (i:=2) scMet.nd rfl (Or.inl rfl) pe_int)
   (pss_cons (ps_while PassesOwn.never (pt_cmpR op_lt (pv 2) (pe_callB call_lenD rfl T.len PySem.boot_len (pa_cons (pv 1) pa_nil)) (nomark _))
    (pss_cons (ps_set (i:=2) scMet.nd rfl (Or.inl rfl) (pe_callB call_lenD rfl T.len PySem.boot_len (pa_cons (pv 1) pa_nil)))
    (pss_one (ps_for PassesOwn.never rfl (pi_list (pv 0)) (pg_tup rfl (pgs_cons (pg_name (i:=3) scMet.nd rfl (Or.inl rfl)) (pgs_cons (pg_name (i:=4) scMet.nd rfl (Or.inl rfl)) pgs_nil)))
     (pss_one (ps_if (pt_cmp (pc_din hu (pv 3) (pv 1)))
      (pss_one (ps_expr (pe_dupd rfl (pv 1) (pe_compG ["part"] [] rfl (pi_tup (pv 4)) (caps_of rfl rfl) (by decide +kernel) rfl (by decide +kernel)
        (fun _ _ _ _ _=>pg_name (i:=0) (show (["part"]:List Str).Nodup by decide +kernel) rfl (Or.inl rfl)) (fun _ _ _ _ _=>pif_nil) (fun _ _ _ _ _=>pe_tup (pa_cons (pv 0) (pa_cons pe_bl pa_nil)))) ⟨rfl,rfl,rfl,rfl⟩))) pss_nil))))))
   (pss_one (ps_ret (pv 1))))),?_⟩
  intro d hd
  have ll:=Paired.length hrl
  have l0:=(List.getElem?_eq_some_iff.mp hr0).1
  obtain ⟨r0,er0⟩:∃ r,rs[0]?=some r:=⟨rs[0]'(by omega),List.getElem?_eq_getElem (by omega)⟩
  obtain ⟨ru0',e0,p0,w1,w2⟩:=hrl.get er0
  rw [hr0] at e0
  cases e0
  have sm0:=same_laid hd (.dK [])
  refine ⟨_,rfl,R,_,_,.ref r0,rfl,rfl,sm0.seq hR,?_,r0,_,_,_,rfl,rfl,sm0.tup w1,rfl,?_⟩
  ·have e7:(rs.map V.ref)[0]?=some (.ref r0):=by rw [List.getElem?_map,er0]; rfl
   exact atI_nat (j:=0) e7
  refine ⟨upd_same,[((Sum.inr ru0.1:Key),.bl true)],rfl,(by show 1≤15; decide),?_⟩
  have S0:MSt K rules ru0.1 H (upd (upd H d (.dK [])) d (.dK (mergeK [] [((Sum.inr ru0.1:Key),.bl true)]))) d [ru0.1] [((Sum.inr ru0.1:Key),.bl true)]:=by
   rw [upd_upd]
   exact ⟨same_laid hd _,upd_same,rfl,by simp,by simp,fun x hx=>by rw [List.mem_singleton.mp hx]; exact .start⟩
  generalize upd (upd H d (.dK [])) d (.dK (mergeK [] [((Sum.inr ru0.1:Key),.bl true)]))=H0 at S0
  refine ⟨fun m σ H5=>∃ (ms:List Str) (kvs:List (Key×V)) (many:Int) (y3 y4:Option V),σ=[some (.ref R),some (.ref d),some (.int many),y3,y4]∧MSt K rules ru0.1 H H5 d ms kvs∧0≤many∧many≤ms.length∧(many=ms.length→MetC rules rules.length ms)∧(m:Int)=8002 - many,
   ⟨8002,[ru0.1],_,0,none,none,rfl,S0,by omega,by simp,by simp,by omega⟩,?_⟩
  rintro m σ H5 ⟨ms,kvs,many,y3,y4,rfl,S,b1,b2,cl,em⟩
  obtain ⟨lk,lm⟩:=S.len hlen h8
  refine ⟨_,rfl,_,rfl,d,_,rfl,S.hd,_,_,rfl,rfl,_,rfl,?_⟩
  refine ite2 (fun c=>?_) (fun c=>?_)
  ·have c':=of_decide_eq_true c
   rw [lk] at c'
   refine ⟨fun σ H5=>∃ (ms2:List Str) (kvs2:List (Key×V)) (y3 y4:Option V),σ=[some (.ref R),some (.ref d),some (.int (ms.length:Int)),y3,y4]∧MSt K rules ru0.1 H H5 d ms2 kvs2∧ms.length≤ms2.length∧(ms2.length=ms.length→MetC rules rules.length ms2),?_,?_⟩
   ·rintro σ H6 ⟨ms2,kvs2,y3,y4,rfl,S2,l2,c2⟩
    exact ⟨(8002 - ms.length:Int).toNat,by omega,ms2,kvs2,_,_,_,rfl,S2,by omega,by omega,fun z=>c2 (by omega),by omega⟩
   ·refine ⟨_,rfl,d,_,rfl,S.hd,?_⟩
    rw [lk]
    refine ⟨_,rfl,R,rfl,⟨_,S.sm.seq hR⟩,?_⟩
    refine for_list (xs:=rs.map V.ref) (fun i σ H6=>∃ (ms2:List Str) (kvs2:List (Key×V)) (y3 y4:Option V),σ=[some (.ref R),some (.ref d),some (.int (ms.length:Int)),y3,y4]∧MSt K rules ru0.1 H H6 d ms2 kvs2∧ms.length≤ms2.length∧(ms2.length=ms.length→MetC rules i ms2))
     ⟨ms,kvs,_,_,rfl,S,Nat.le_refl _,fun _ ru hru=>by simp at hru⟩ ?_ ?_ ?_
    ·rintro i σ H6 _ ⟨ms2,kvs2,y3,y4,rfl,S2,_⟩
     exact S2.sm.seq hR
    ·rintro i x σ H6 ex ⟨ms2,kvs2,y3,y4,rfl,S2,l2,c2⟩
     rw [List.getElem?_map] at ex
     obtain ⟨r,er,rfl⟩:=Option.map_eq_some_iff.mp ex
     obtain ⟨ru,e1,p,v1,v2⟩:=hrl.get er
     have h8r:=h8 ru (List.mem_of_getElem? e1)
     have tk:rules.take (i+1)=rules.take i++[ru]:=by rw [List.take_add_one,e1]; rfl
     obtain ⟨lk2,lm2⟩:=S2.len hlen h8
     have mem:(valV kvs2 (Sum.inr ru.1)).isSome=true↔ru.1∈ms2:=by rw [val_mem,S2.keys]; exact inr_mem
     refine ⟨r,_,rfl,S2.sm.tup v1,rfl,_,_,rfl,_,_,rfl,rfl,?_⟩
     refine ⟨_,rfl,_,rfl,d,_,rfl,DGet.k (k:=Sum.inr ru.1) S2.hd,_,rfl,?_⟩
     refine ite2 (fun c3=>?_) (fun c3=>?_)
     ·have im:=mem.mp c3
      refine ⟨_,rfl,d,rfl,.inl ⟨_,.inl S2.hd⟩,_,rfl,p,rfl,⟨_,S2.sm.tup v2⟩,fun D2 hD2=>comp_pairsT (S2.sm.tup v2) (by omega) hD2 fun ts H8 sm8 hd8 hp8=>?_⟩
      have kp:Paired (fun t (kv:Key×V)=>SqT K H8 t [kV kv.1,kv.2]) ts (ru.2.map fun h=>((Sum.inr h:Key),V.bl true)):=paired_mapR hp8 fun _ _ z=>z
      refine ⟨D2,ts,kvs2,_,rfl,sm8 _ _ S2.hd,hd8,kp,fits (by rw [List.length_map]; omega),?_⟩
      have hdle:=ded_le ru.2 ms2
      refine ⟨ded ms2 ru.2,fillK (ru.2.map fun h=>((Sum.inr h:Key),V.bl true)) kvs2,_,_,rfl,⟨fun b o hb=>?_,upd_same,keys_ded ru.2 kvs2 ms2 S2.keys,ded_nd ru.2 S2.nd,(ded_mem ru.2 ms2 _).mpr (.inl S2.st),fun x hx=>?_⟩,by omega,fun z ru' hru' hh=>?_⟩
      ·rw [upd_ne (fun z=>by rw [z,hd] at hb; cases hb)]
       exact sm8 _ _ (S2.sm b o hb)
      ·rcases (ded_mem ru.2 ms2 x).mp hx with h | h
       ·exact S2.rch x h
       ·exact .step (S2.rch _ im) (List.mem_of_getElem? e1) h
      ·have e9:=ded_eq ru.2 ms2 (by omega)
       rw [e9] at hh ⊢
       rw [tk] at hru'
       rcases List.mem_append.mp hru' with h | h
       ·exact c2 (by omega) ru' h hh
       ·rw [List.mem_singleton.mp h]
        intro x hx
        rw [← e9]
        exact (ded_mem ru.2 ms2 x).mpr (.inr hx)
     ·refine ⟨ms2,kvs2,_,_,rfl,S2,l2,fun z ru' hru' hh=>?_⟩
      rw [tk] at hru'
      rcases List.mem_append.mp hru' with h | h
      ·exact c2 z ru' h hh
      ·rw [List.mem_singleton.mp h] at hh
       exact absurd (mem.mpr hh) c3
    ·rintro σ H6 ⟨ms2,kvs2,y3,y4,rfl,S2,l2,c2⟩
     rw [List.length_map,ll] at c2
     exact ⟨ms2,kvs2,_,_,rfl,S2,l2,c2⟩
  ·have c':=of_decide_eq_false (Bool.eq_false_iff.mpr c)
   rw [lk] at c'
   exact ⟨_,rfl,q d kvs ms H5 hd S.sm S.hd S.keys S.st S.rch (cl (by omega))⟩
end
end K11
namespace M11
open PySem L2
abbrev G:=Str→Option Int
def setG (g:G) (h:Str) (n:Int):G:=fun z=>if z=h then some n else g z
def sizeG (g:G) (ru:Rule):Int:=1+(ru.2.map fun p=>(g p).getD 0).sum
def allIn (g:G) (ru:Rule):Bool:=ru.2.all fun p=>(g p).isSome
def firesB (bt:Int→Int→Bool) (g:G) (ru:Rule):Bool:=allIn g ru && (!(g ru.1).isSome || bt (sizeG g ru) ((g ru.1).getD 0))
def sstep (bt:Int→Int→Bool) (a:G×Bool) (ru:Rule):G×Bool:=if firesB bt a.1 ru=true then (setG a.1 ru.1 (sizeG a.1 ru),true) else a
def srnd (bt:Int→Int→Bool) (rules:List Rule) (g:G):G×Bool:=rules.foldl (sstep bt) (g,false)
inductive Steps (bt:Int→Int→Bool) (rules:List Rule):G→G→Prop
 | refl {g:G}:Steps bt rules g g
 | step {g g1:G} {ru:Rule}:Steps bt rules g g1→ru∈rules→firesB bt g1 ru=true→Steps bt rules g (setG g1 ru.1 (sizeG g1 ru))
def Settled (bt:Int→Int→Bool) (rules:List Rule) (g:G):Prop:=∀ ru∈rules,firesB bt g ru=false
def EndsIn (bt:Int→Int→Bool) (rules:List Rule):Nat→G→Prop
 | 0,g=>(srnd bt rules g).2=false
 | n+1,g=>(srnd bt rules g).2=false∨EndsIn bt rules n (srnd bt rules g).1
theorem Steps.trans {bt:Int→Int→Bool} {rules:List Rule} {g g1 g2:G} (h:Steps bt rules g g1) (k:Steps bt rules g1 g2):Steps bt rules g g2:=by
 induction k with
 | refl=>exact h
 | step _ a b ih=>exact .step ih a b
theorem fold_steps (bt:Int→Int→Bool) (rules:List Rule):∀ (l:List Rule) (a:G×Bool),(∀ ru∈l,ru∈rules)→Steps bt rules a.1 (l.foldl (sstep bt) a).1
 | [],a,_=>.refl
 | ru::l,a,h=>by
  have ih:=fold_steps bt rules l (sstep bt a ru) fun x hx=>h x (List.mem_cons_of_mem _ hx)
  refine Steps.trans ?_ ih
  unfold sstep
  by_cases c:firesB bt a.1 ru=true
  ·rw [if_pos c]
   exact .step .refl (h ru List.mem_cons_self) c
  ·rw [if_neg c]
   exact .refl
theorem fold_true (bt:Int→Int→Bool):∀ (l:List Rule) (a:G×Bool),a.2=true→(l.foldl (sstep bt) a).2=true
 | [],a,h=>h
 | ru::l,a,h=>by
  refine fold_true bt l (sstep bt a ru) ?_
  unfold sstep
  split
  ·rfl
  ·exact h
theorem fold_false (bt:Int→Int→Bool):∀ (l:List Rule) (a:G×Bool),(l.foldl (sstep bt) a).2=false→(l.foldl (sstep bt) a).1=a.1∧∀ ru∈l,firesB bt a.1 ru=false
 | [],a,_=>⟨rfl,fun _ h=>nomatch h⟩
 | ru::l,a,h=>by
  by_cases c:firesB bt a.1 ru=true
  ·have e:sstep bt a ru=(setG a.1 ru.1 (sizeG a.1 ru),true):=if_pos c
   have h':(l.foldl (sstep bt) (sstep bt a ru)).2=false:=h
   rw [e,fold_true bt l _ rfl] at h'
   cases h'
  ·have e:sstep bt a ru=a:=if_neg c
   have h':(l.foldl (sstep bt) (sstep bt a ru)).2=false:=h
   rw [e] at h'
   obtain ⟨i1,i2⟩:=fold_false bt l a h'
   refine ⟨by rw [List.foldl_cons,e]; exact i1,fun ru' hr=>?_⟩
   rcases List.mem_cons.mp hr with z | z
   ·rw [z]; exact Bool.eq_false_iff.mpr c
   ·exact i2 ru' z
end M11
namespace L2
open PySem M11
theorem SameT.tup {K:PySem.W.Frag} {H H':Hp} {d a:Addr} {kvs:List (Key×V)} {xs:List V} (s:SameT d H H') (hd:H d=some (.dK kvs)) (h:SqT K H a xs):SqT K H' a xs:=by
 rcases h with (h | ⟨u,h⟩) | h
 ·exact .inl (.inl (s _ _ (fun z=>by rw [z,hd] at h; cases h) h))
 ·exact .inl (.inr ⟨u,s _ _ (fun z=>by rw [z,hd] at h; cases h) h⟩)
 ·exact .inr h
theorem SameT.seq {K:PySem.W.Frag} {H H':Hp} {d a:Addr} {kvs:List (Key×V)} {xs:List V} (s:SameT d H H') (hd:H d=some (.dK kvs)) (h:SqL K H a xs):SqL K H' a xs:=by
 rcases h with (h | ⟨u,h⟩) | h
 ·exact .inl (.inl (s _ _ (fun z=>by rw [z,hd] at h; cases h) h))
 ·exact .inl (.inr ⟨u,s _ _ (fun z=>by rw [z,hd] at h; cases h) h⟩)
 ·exact .inr h
theorem comp_vals {K:PySem.W.Frag} {H:Hp} {p D d:Addr} {zs:List Str} {kvs:List (Key×V)} {g:G} {σ:St} {js:List (Nat×Str)} {Qp:Hp→Prop} (hσ:capS ["part"] js σ=[none,some (.ref d)]) (hp:SqT K H p (zs.map V.str)) (hz:zs.length≤1000)
  (hd:H d=some (.dK kvs)) (hv:∀ z,valV kvs (Sum.inr z)=(g z).map V.int) (ha:∀ z∈zs,(g z).isSome=true) (hD:H D=none) (q:∀ H2,Same H H2→H2 D=some (.lst ((zs.map fun z=>(g z).getD 0).map V.int))→Qp H2) :
  ∃ W:Nat→Nat→List V→St→Hp→Prop,(∃ m,W 0 m [] (capS ["part"] js σ) (upd H D (.lst []))) ∧
 ∀ i m ys σ' H,W i m ys σ' H→((Itt K p).stop i H∧Qp H)∨((Itt K p).go i H∧∃ m',m' < m∧∀ x H',(Itt K p).yld i H x H'→gName 0 x σ' H' fun σ2 H2=>tTrue σ2 H2 fun b H3 =>
  if b=true then tDGet (tVar 1) (tVar 0) σ2 H3 fun y H4=>H4 D=some (.lst ys)∧ys.length < sizeLine∧W (i+1) m' (ys++[y]) σ2 (upd H4 D (.lst (ys++[y]))) else W (i+1) m' ys σ2 H3):=by
 refine compG_tup (xs:=zs.map V.str) (fun i ys σ2 H2=>ys=(((zs.take i).map fun z=>(g z).getD 0).map V.int)∧(∃ y0,σ2=[y0,some (.ref d)])∧Same H H2∧H2 D=some (.lst ys))
  ⟨rfl,⟨none,hσ⟩,same_laid hD _,upd_same⟩ (fun i ys σ2 H2 _ h=>h.2.2.1.tup hp) (fun i x ys σ2 H2 ex h=>?_) (fun ys σ2 H2 h=>?_)
 ·obtain ⟨rfl,⟨y0,rfl⟩,sm,hd2⟩:=h
  rw [List.getElem?_map] at ex
  obtain ⟨z,ez,rfl⟩:=Option.map_eq_some_iff.mp ex
  have li:=(List.getElem?_eq_some_iff.mp ez).1
  obtain ⟨n,en⟩:=Option.isSome_iff_exists.mp (ha z (List.mem_of_getElem? ez))
  have hg:DGet H2 d (.str z) (some (.int n)):=by
   have:=DGet.k (k:=Sum.inr z) (sm _ _ hd)
   rw [hv,en] at this
   exact this
  refine goN (goT ?_)
  refine ⟨_,rfl,_,rfl,d,_,rfl,hg,hd2,fits' (by rw [List.length_map,List.length_map,List.length_take]; omega),?_,⟨_,rfl⟩,?_,upd_same⟩
  ·rw [List.take_add_one,ez,List.map_append,List.map_append]
   show _=_++[V.int ((g z).getD 0)]
   rw [en]; rfl
  ·intro b o hb
   rw [upd_ne (fun z=>by rw [z,hD] at hb; cases hb)]
   exact sm b o hb
 ·obtain ⟨rfl,_,sm,hd2⟩:=h
  rw [List.length_map,List.take_length] at hd2
  exact q H2 sm hd2
end L2
namespace K11
open PySem L2 M11
section
variable {P:Program} {w:World} {K:PySem.W.Frag} {mg:Str→Option Value} {base:Heap} {f:Addr} {fd:FuncData}
def spSettle (K:PySem.W.Frag) (q:Str) (params:Arguments) (body:Expr) (scope:Scope) (bt:Int→Int→Bool):Sp:=fun vs H Q _=>∃ (R:Addr) (rs:List Addr) (rules:List Rule) (d fl c':Addr) (pm ctv:Value) (kvs:List (Key×V)) (ks:List Str) (g:G),
 vs=[.ref R,.ref d,.ref fl]∧SqL K H R (rs.map V.ref)∧Rules K H rs rules∧rules.length≤1000∧(∀ ru∈rules,ru.2.length≤8)∧H d=some (.dK kvs)∧kvs.map (·.1)=ks.map Sum.inr∧ks.Nodup∧ks.length≤10000 ∧
 (∀ z,valV kvs (Sum.inr z)=(g z).map V.int)∧(∃ n,EndsIn bt rules n g)∧H fl=some (lamO fl (PySem.W.kla_obj "<lambda>" q params body scope [] pm c' ctv))∧H c'=some (codeO c' q) ∧
 ∀ (kvs':List (Key×V)) (ks':List Str) (g':G) (H':Hp),SameT d H H'→H' d=some (.dK kvs')→kvs'.map (·.1)=ks'.map Sum.inr→(∀ z,valV kvs' (Sum.inr z)=(g' z).map V.int)→Steps bt rules g g'→Settled bt rules g'→kvs'.length≤20000→Q (.ref d) H'
theorem scSettle:FnScope ["rules","sizes","better","changed","head","parts","size"] ["rules","sizes","better"] (defScope sSettle):=⟨rfl,rfl,rfl,by decide +kernel,rfl,by decide +kernel,by decide +kernel⟩
structure SSt (K:PySem.W.Frag) (rules:List Rule) (ks0:List Str) (H H5:Hp) (d:Addr) (kvs:List (Key×V)) (ks:List Str) (g:G):Prop where
 sm:SameT d H H5
 hd:H5 d=some (.dK kvs)
 keys:kvs.map (·.1)=ks.map Sum.inr
 nd:ks.Nodup
 sub:∀ x∈ks,x∈ks0++rules.map (·.1)
 val:∀ z,valV kvs (Sum.inr z)=(g z).map V.int
theorem SSt.len {rules:List Rule} {ks0:List Str} {H H5:Hp} {d:Addr} {kvs:List (Key×V)} {ks:List Str} {g:G} (h:SSt K rules ks0 H H5 d kvs ks g):kvs.length≤ks0.length+rules.length:=by
 have h1:=congrArg List.length h.keys
 have h2:=nodup_len ks _ h.nd h.sub
 rw [List.length_append,List.length_map] at h2
 rw [List.length_map,List.length_map] at h1
 omega
theorem SSt.same {rules:List Rule} {ks0:List Str} {H H5 H6:Hp} {d:Addr} {kvs:List (Key×V)} {ks:List Str} {g:G} (h:SSt K rules ks0 H H5 d kvs ks g) (s:Same H5 H6):SSt K rules ks0 H H6 d kvs ks g :=
 ⟨fun b o n e=>s _ _ (h.sm b o n e),s _ _ h.hd,h.keys,h.nd,h.sub,h.val⟩
theorem SSt.put {rules:List Rule} {ks0:List Str} {H H5:Hp} {d:Addr} {kvs:List (Key×V)} {ks:List Str} {g:G} (h:SSt K rules ks0 H H5 d kvs ks g) {ru:Rule} (hr:ru∈rules) (n:Int) :
  SSt K rules ks0 H (upd H5 d (.dK (putK kvs (Sum.inr ru.1) (.int n)))) d (putK kvs (Sum.inr ru.1) (.int n)) (add1 ks ru.1) (setG g ru.1 n):=by
 refine ⟨fun b o nb e=>by rw [upd_ne nb]; exact h.sm b o nb e,upd_same,keys_add h.keys ru.1,add1_nd ru.1 h.nd,fun x hx=>?_,fun z=>?_⟩
 ·rcases (add1_mem ks ru.1 x).mp hx with z | z
  ·exact h.sub x z
  ·rw [z]; exact List.mem_append_right _ (List.mem_map_of_mem hr)
 ·rw [valV_put]
  unfold setG
  by_cases c:z=ru.1
  ·rw [if_pos c,if_pos (by rw [c])]; rfl
  ·rw [if_neg c,if_neg (fun e=>c (Sum.inr.inj e)),h.val]
theorem ok_settle (F:Fun K "settled_sizes" "settled_sizes" sSettle f fd) (T:Txt mg) {q:Str} {params:Arguments} {body:Expr} {scope:Scope} {bt:Int→Int→Bool} {te:TE} (S:FnScope ["size","known"] ["size","known"] scope)
  (hbind:∀ (pm ctv:Value) (c':Addr) (us:List Value),us.length=(["size","known"]:List Str).length→bindArgs (PySem.W.kla_fn "<lambda>" q params body scope [] pm (.ref c') ctv) ⟨us,[]⟩=pure ((["size","known"]:List Str).zip us))
  (hbody:∀ (f c':Addr) (A:Around) (outer:List Env) (s:Shared) (H:Hp),PE (cxOf CX0 P w K mg base ["size","known"] q scope f (.ref c') A outer s H fun _ _ _=>False) body te)
  (hte:∀ a b H Q,Q (.bl (bt a b)) H→te [some (.int a),some (.int b)] H Q):FnOk P w K mg base CX0 2 f fd ["rules","sizes","better"] (spSettle K q params body scope bt):=by
 refine F.ok scSettle (fun vs H Q E h=>?_) (fun cdv A outer s H vs Q E hr h=>?_)
 ·obtain ⟨R,rs,rules,d,fl,c',pm,ctv,kvs,ks,g,rfl,_⟩:=h; rfl
 ·obtain ⟨R,rs,rules,d,fl,c',pm,ctv,kvs,ks,g,rfl,hR,hrl,hlen,h8,hd,hk,hnd,hkl,hv,⟨n0,hn0⟩,hfl,hc',qq⟩:=h
  have hu:=hu_of hr
  refine ⟨_,pss_cons (ps_set (i:=3) scSettle.nd rfl (Or.inl rfl) pe_bl)
   (pss_cons (ps_while PassesOwn.never (pt_val (pv 3))
    (pss_cons (ps_set (i:=3) scSettle.nd rfl (Or.inl rfl) pe_bl)
    (pss_one (ps_for PassesOwn.never rfl (pi_list (pv 0)) (pg_tup rfl (pgs_cons (pg_name (i:=4) scSettle.nd rfl (Or.inl rfl)) (pgs_cons (pg_name (i:=5) scSettle.nd rfl (Or.inl rfl)) pgs_nil)))
     (pss_one (ps_if (pt_val (pe_callB (call_allB rfl) rfl T.all boot_all (pa_cons (pe_compG ["part"] [(1,"sizes")] rfl (pi_tup (pv 5)) (caps_of rfl rfl) (by decide +kernel) rfl (by decide +kernel)
        (fun _ _ _ _ _=>pg_name (i:=0) (show (["part","sizes"]:List Str).Nodup by decide +kernel) rfl (Or.inl rfl)) (fun _ _ _ _ _=>pif_nil) (fun _ _ _ _ _=>pe_cmp (pc_din hu (pv 0) (pv 1)))) pa_nil)))
      (pss_cons (ps_set (i:=6) scSettle.nd rfl (Or.inl rfl) (pe_op op_add pe_int (pe_callB (call_sumN rfl) rfl T.sum PyProof.Rows.boot_sum (pa_cons (pe_compG ["part"] [(1,"sizes")] rfl (pi_tup (pv 5)) (caps_of rfl rfl) (by decide +kernel) rfl (by decide +kernel)
        (fun _ _ _ _ _=>pg_name (i:=0) (show (["part","sizes"]:List Str).Nodup by decide +kernel) rfl (Or.inl rfl)) (fun _ _ _ _ _=>pif_nil) (fun _ _ _ _ _=>pe_dget hu (pv 1) (pv 0) (fun _ _=>rfl))) pa_nil))))
      (pss_one (ps_if (PW.pt (pw_or (pt_cmp (pc_dnotin hu (pv 4) (pv 1))) (pw_or1 (pt_val (pe_callLam (i:=2) (k:=0) rfl rfl S hr hbind hbody (pa_cons (pv 6) (pa_cons (pe_dget hu (pv 1) (pv 4) (fun _ _=>rfl)) pa_nil)))))))
       (pss_cons (ps_dput hu (pv 1) (pv 4) (pv 6) rfl) (pss_one (ps_set (i:=3) scSettle.nd rfl (Or.inl rfl) pe_bl))) pss_nil))) pss_nil))))))
   (pss_one (ps_ret (pv 1)))),?_⟩
  have ll:=Paired.length hrl
  have S0:SSt K rules ks H H d kvs ks g:=⟨fun _ _ _ e=>e,hd,hk,hnd,fun x hx=>List.mem_append_left _ hx,hv⟩
  refine ⟨fun m σ H5=>∃ (kvs2:List (Key×V)) (ks2:List Str) (g2:G) (ch:Bool) (y4 y5 y6:Option V),σ=[some (.ref R),some (.ref d),some (.ref fl),some (.bl ch),y4,y5,y6]∧SSt K rules ks H H5 d kvs2 ks2 g2∧Steps bt rules g g2 ∧
   ((ch=true∧∃ n,m=n+1∧EndsIn bt rules n g2)∨(ch=false∧Settled bt rules g2)),⟨n0+1,kvs,ks,g,true,none,none,none,rfl,S0,.refl,.inl ⟨rfl,n0,rfl,hn0⟩⟩,?_⟩
  rintro m σ H5 ⟨kvs2,ks2,g2,ch,y4,y5,y6,rfl,S2,st2,cs⟩
  refine ⟨_,rfl,ch,rfl,?_⟩
  refine ite2 (fun c=>?_) (fun c=>?_)
  ·rcases cs with ⟨_,n,em,en⟩ | ⟨c',_⟩
   case inr=>rw [c'] at c; cases c
   refine ⟨fun σ H6=>∃ (kvs3:List (Key×V)) (ks3:List Str) (g3:G) (ch3:Bool) (y4 y5 y6:Option V),σ=[some (.ref R),some (.ref d),some (.ref fl),some (.bl ch3),y4,y5,y6]∧SSt K rules ks H H6 d kvs3 ks3 g3∧(g3,ch3)=srnd bt rules g2,?_,?_⟩
   ·rintro σ H6 ⟨kvs3,ks3,g3,ch3,y4,y5,y6,rfl,S3,e3⟩
    have e31:g3=(srnd bt rules g2).1:=congrArg Prod.fst e3
    have e32:ch3=(srnd bt rules g2).2:=congrArg Prod.snd e3
    have st3:Steps bt rules g g3:=by
     rw [e31]
     exact st2.trans (fold_steps bt rules rules (g2,false) fun _ h=>h)
    cases h3:ch3 with
    | false =>
     rw [h3] at e32
     obtain ⟨f1,f2⟩:=fold_false bt rules (g2,false) e32.symm
     refine ⟨0,by omega,kvs3,ks3,g3,false,_,_,_,rfl,S3,st3,.inr ⟨rfl,?_⟩⟩
     have e33:g3=g2:=e31.trans f1
     rw [e33]
     exact f2
    | true =>
     rw [h3] at e32
     cases n with
     | zero=>rw [show (srnd bt rules g2).2=false from en] at e32; cases e32
     | succ n' =>
      rcases en with en | en
      ·rw [en] at e32; cases e32
      ·exact ⟨n'+1,by omega,kvs3,ks3,g3,true,_,_,_,rfl,S3,st3,.inl ⟨rfl,n',rfl,by rw [e31]; exact en⟩⟩
   ·refine ⟨_,rfl,R,rfl,⟨_,S2.sm.seq hd hR⟩,?_⟩
    refine for_list (xs:=rs.map V.ref) (fun i σ H6=>∃ (kvs3:List (Key×V)) (ks3:List Str) (g3:G) (ch3:Bool) (y4 y5 y6:Option V),σ=[some (.ref R),some (.ref d),some (.ref fl),some (.bl ch3),y4,y5,y6]∧SSt K rules ks H H6 d kvs3 ks3 g3∧(g3,ch3)=(rules.take i).foldl (sstep bt) (g2,false))
     ⟨kvs2,ks2,g2,false,_,_,_,rfl,S2,rfl⟩ ?_ ?_ ?_
    ·rintro i σ H6 _ ⟨kvs3,ks3,g3,ch3,y4,y5,y6,rfl,S3,_⟩
     exact S3.sm.seq hd hR
    ·rintro i x σ H6 ex ⟨kvs3,ks3,g3,ch3,y4,y5,y6,rfl,S3,e3⟩
     rw [List.getElem?_map] at ex
     obtain ⟨r,er,rfl⟩:=Option.map_eq_some_iff.mp ex
     obtain ⟨ru,e1,p,v1,v2⟩:=hrl.get er
     have hmem:=List.mem_of_getElem? e1
     have h8r:=h8 ru hmem
     have fo:(rules.take (i+1)).foldl (sstep bt) (g2,false)=sstep bt (g3,ch3) ru:=by
      rw [List.take_add_one,e1,List.foldl_append,← e3]; rfl
     rw [fo]
     have v2':=S3.sm.tup hd v2
     refine ⟨r,_,rfl,S3.sm.tup hd v1,rfl,_,_,rfl,_,_,rfl,rfl,?_⟩
     refine ⟨_,rfl,p,rfl,⟨_,v2'⟩,fun D2 hD2=>comp_isin rfl v2' (by omega) S3.hd hD2 fun H7 sm7 hd7=>?_⟩
     have S4:=S3.same sm7
     have v4:=sm7.tup v2'
     have eb:(ru.2.map fun z=>(valV kvs3 (Sum.inr z)).isSome).all id=allIn g3 ru:=by
      unfold allIn
      rw [List.all_map]
      refine List.all_congr rfl fun z=>?_
      show (valV kvs3 (Sum.inr z)).isSome=_
      rw [S3.val,Option.isSome_map]
     refine ⟨D2,_,rfl,SqL.of hd7,_,rfl,?_⟩
     rw [eb]
     refine ite2 (fun c4=>?_) (fun c4=>?_)
     ·have al:∀ z∈ru.2,(g3 z).isSome=true:=fun z hz=>List.all_eq_true.mp c4 z hz
      refine ⟨_,rfl,p,rfl,⟨_,v4⟩,fun D3 hD3=>comp_vals (g:=g3) rfl v4 (by omega) S4.hd S4.val al hD3 fun H8 sm8 hd8=>?_⟩
      have S5:=S4.same sm8
      have esz:1+(ru.2.map fun z=>(g3 z).getD 0).sum=sizeG g3 ru:=rfl
      refine ⟨D3,_,rfl,SqL.of hd8,_,_,rfl,rfl,?_⟩
      have mem:(valV kvs3 (Sum.inr ru.1)).isSome=(g3 ru.1).isSome:=by rw [S5.val,Option.isSome_map]
      have fl5:=S5.sm fl _ (fun z=>by rw [z,hd] at hfl; cases hfl) hfl
      have c5':=S5.sm c' _ (fun z=>by rw [z,hd] at hc'; cases hc') hc'
      have l5:=S5.len
      refine ⟨_,rfl,_,rfl,d,_,rfl,DGet.k (k:=Sum.inr ru.1) S5.hd,_,rfl,?_⟩
      refine ite2 (fun c5=>?_) (fun c5=>?_)
      ·have fr:firesB bt g3 ru=true:=by
        unfold firesB
        rw [← mem,c4,c5]; rfl
       refine ⟨_,rfl,_,rfl,_,rfl,d,_,rfl,DPut.k (k:=Sum.inr ru.1) S5.hd (fits' (by omega)),?_⟩
       exact ⟨_,_,setG g3 ru.1 (sizeG g3 ru),true,_,_,_,rfl,S5.put hmem (sizeG g3 ru),(if_pos fr).symm⟩
      ·have isS:(g3 ru.1).isSome=true:=by
        rw [mem] at c5
        cases hq:(g3 ru.1).isSome with
        | true=>rfl
        | false=>rw [hq] at c5; exact absurd rfl c5
       obtain ⟨k,ek⟩:=Option.isSome_iff_exists.mp isS
       have hg:DGet H8 d (.str ru.1) (some (.int k)):=by
        have:=DGet.k (k:=Sum.inr ru.1) S5.hd
        rw [S5.val,ek] at this
        exact this
       refine ⟨fl,pm,c',ctv,rfl,_,rfl,_,rfl,_,rfl,d,_,rfl,hg,fl5,c5',rfl,hte (sizeG g3 ru) k _ _ ⟨_,rfl,?_⟩⟩
       refine ite2 (fun c6=>?_) (fun c6=>?_)
       ·have fr:firesB bt g3 ru=true:=by
         unfold firesB
         rw [c4,ek]
         show (true && (false || bt (sizeG g3 ru) k))=true
         rw [c6]; rfl
        refine ⟨_,rfl,_,rfl,_,rfl,d,_,rfl,DPut.k (k:=Sum.inr ru.1) S5.hd (fits' (by omega)),?_⟩
        exact ⟨_,_,setG g3 ru.1 (sizeG g3 ru),true,_,_,_,rfl,S5.put hmem (sizeG g3 ru),(if_pos fr).symm⟩
       ·have fr:¬ firesB bt g3 ru=true:=by
         unfold firesB
         rw [c4,ek]
         show ¬ (true && (false || bt (sizeG g3 ru) k))=true
         rw [Bool.eq_false_iff.mpr c6]; exact (by decide)
        exact ⟨kvs3,ks3,g3,ch3,_,_,_,rfl,S5,(if_neg fr).symm⟩
     ·have e5:sstep bt (g3,ch3) ru=(g3,ch3):=if_neg (fun z=>c4 (by unfold firesB at z; exact (Bool.and_eq_true_iff.mp z).1))
      exact ⟨kvs3,ks3,g3,ch3,_,_,_,rfl,S4,e5.symm⟩
    ·rintro σ H6 ⟨kvs3,ks3,g3,ch3,y4,y5,y6,rfl,S3,e3⟩
     rw [List.length_map,ll,List.take_length] at e3
     exact ⟨kvs3,ks3,g3,ch3,_,_,_,rfl,S3,e3⟩
  ·rcases cs with ⟨c',_⟩ | ⟨_,se⟩
   ·rw [c'] at c; exact absurd rfl c
   ·exact ⟨_,rfl,qq kvs2 ks2 g2 H5 S2.sm S2.hd S2.keys S2.val st2 se (by have:=S2.len; omega)⟩
end
end K11
namespace M11
open PySem L2
theorem fold_lt {bt:Int→Int→Bool} {rules:List Rule} {J:G→Prop} {r:G→G→Prop} (tr:∀ a b c,r a b→r b c→r a c)
  (hst:∀ g ru,J g→ru∈rules→firesB bt g ru=true→J (setG g ru.1 (sizeG g ru))∧r (setG g ru.1 (sizeG g ru)) g) :
  ∀ (l:List Rule) (a:G×Bool),(∀ ru∈l,ru∈rules)→J a.1→J (l.foldl (sstep bt) a).1∧(l.foldl (sstep bt) a=a∨r (l.foldl (sstep bt) a).1 a.1)
 | [],a,_,j=>⟨j,.inl rfl⟩
 | ru::l,a,h,j=>by
  by_cases c:firesB bt a.1 ru=true
  ·have e:sstep bt a ru=(setG a.1 ru.1 (sizeG a.1 ru),true):=if_pos c
   obtain ⟨j1,r1⟩:=hst a.1 ru j (h ru List.mem_cons_self) c
   obtain ⟨j2,r2⟩:=fold_lt tr hst l (setG a.1 ru.1 (sizeG a.1 ru),true) (fun x hx=>h x (List.mem_cons_of_mem _ hx)) j1
   rw [List.foldl_cons,e]
   refine ⟨j2,.inr ?_⟩
   rcases r2 with r2 | r2
   ·rw [r2]; exact r1
   ·exact tr _ _ _ r2 r1
  ·have e:sstep bt a ru=a:=if_neg c
   rw [List.foldl_cons,e]
   exact fold_lt tr hst l a (fun x hx=>h x (List.mem_cons_of_mem _ hx)) j
theorem ends_ofJ {bt:Int→Int→Bool} {rules:List Rule} {J:G→Prop} {r:G→G→Prop} (tr:∀ a b c,r a b→r b c→r a c)
  (hst:∀ g ru,J g→ru∈rules→firesB bt g ru=true→J (setG g ru.1 (sizeG g ru))∧r (setG g ru.1 (sizeG g ru)) g) {g:G} (h:Acc r g) (j:J g):∃ n,EndsIn bt rules n g:=by
 induction h with
 | intro g _ ih =>
  cases c:(srnd bt rules g).2 with
  | false=>exact ⟨0,c⟩
  | true =>
   obtain ⟨j2,r2⟩:=fold_lt tr hst rules (g,false) (fun _ h=>h) j
   have r3:r (srnd bt rules g).1 g:=by
    rcases r2 with r2 | r2
    ·have e:(srnd bt rules g)=(g,false):=r2
     rw [e] at c; cases c
    ·exact r2
   obtain ⟨n,hn⟩:=ih _ r3 j2
   exact ⟨n+1,.inr hn⟩
theorem Steps.keep {bt:Int→Int→Bool} {rules:List Rule} {J:G→Prop} (hst:∀ g ru,J g→ru∈rules→firesB bt g ru=true→J (setG g ru.1 (sizeG g ru))) {g g':G} (h:Steps bt rules g g') (j:J g):J g':=by
 induction h with
 | refl=>exact j
 | step _ a b ih=>exact hst _ _ ih a b
def sumOn (f:Str→Nat) (hs:List Str):Nat:=(hs.map f).sum
theorem sumOn_le {f k:Str→Nat}:∀ {hs:List Str},(∀ x∈hs,f x≤k x)→sumOn f hs≤sumOn k hs
 | [],_=>Nat.le_refl _
 | h::r,q=>by
  have h1:=q h List.mem_cons_self
  have h2:=sumOn_le (hs:=r) fun x hx=>q x (List.mem_cons_of_mem _ hx)
  show f h+sumOn f r≤k h+sumOn k r
  omega
theorem sumOn_lt {f k:Str→Nat}:∀ {hs:List Str} {h:Str},(∀ x∈hs,f x≤k x)→h∈hs→f h < k h→sumOn f hs < sumOn k hs
 | a::r,h,q,m,l=>by
  have h1:=q a List.mem_cons_self
  have h2:∀ x∈r,f x≤k x:=fun x hx=>q x (List.mem_cons_of_mem _ hx)
  show f a+sumOn f r < k a+sumOn k r
  rcases List.mem_cons.mp m with z | z
  ·have:=sumOn_le h2
   rw [z] at l
   omega
  ·have:=sumOn_lt h2 z l
   omega
theorem sum_nonneg (g:G) (J:∀ z n,g z=some n→(0:Int)≤n):∀ ps:List Str,0≤(ps.map fun p=>(g p).getD 0).sum
 | []=>by simp
 | p::r=>by
  have h1:=sum_nonneg g J r
  have h2:0≤(g p).getD 0:=by
   cases e:g p with
   | none=>exact Int.le_refl _
   | some n=>exact J p n e
  rw [List.map_cons,List.sum_cons]
  omega
def NN (g:G):Prop:=∀ z n,g z=some n→(0:Int)≤n
theorem nn_step {g:G} (j:NN g) (ru:Rule):NN (setG g ru.1 (sizeG g ru)):=fun z n e=>by
 unfold setG at e
 by_cases c:z=ru.1
 ·rw [if_pos c] at e
  cases e
  have:=sum_nonneg g j ru.2
  unfold sizeG
  omega
 ·rw [if_neg c] at e
  exact j z n e
def bl (a b:Int):Bool:=decide (a < b)
def bg (a b:Int):Bool:=decide (a > b)
def lexR (hs:List Str) (g' g:G):Prop :=
 sumOn (fun h=>if (g' h).isSome then 0 else 1) hs < sumOn (fun h=>if (g h).isSome then 0 else 1) hs ∨
 (sumOn (fun h=>if (g' h).isSome then 0 else 1) hs=sumOn (fun h=>if (g h).isSome then 0 else 1) hs∧sumOn (fun h=>((g' h).getD 0).toNat) hs < sumOn (fun h=>((g h).getD 0).toNat) hs)
theorem lex_acc (hs:List Str) (g:G):Acc (lexR hs) g:=by
 have wf:=(Prod.lex (β:=Nat) (α:=Nat) ⟨(· < ·),Nat.lt_wfRel.wf⟩ ⟨(· < ·),Nat.lt_wfRel.wf⟩).wf
 have key:∀ p:Nat×Nat,∀ g:G,(sumOn (fun h=>if (g h).isSome then 0 else 1) hs,sumOn (fun h=>((g h).getD 0).toNat) hs)=p→Acc (lexR hs) g:=fun p=>by
  induction p using wf.induction with
  | _ p ih =>
   intro g e
   refine ⟨g,fun g' r=>ih _ ?_ g' rfl⟩
   rw [← e]
   rcases r with r | ⟨r1,r2⟩
   ·exact Prod.Lex.left _ _ r
   ·show Prod.Lex _ _ (sumOn (fun h=>if (g' h).isSome then 0 else 1) hs,_) _
    rw [r1]
    exact Prod.Lex.right _ r2
 exact key _ g rfl
theorem lex_tr (hs:List Str) (a b c:G) (h:lexR hs a b) (k:lexR hs b c):lexR hs a c:=by
 unfold lexR at *
 omega
theorem lex_step {rules:List Rule} (g:G) (ru:Rule) (j:NN g) (m:ru∈rules) (f:firesB bl g ru=true):NN (setG g ru.1 (sizeG g ru))∧lexR (rules.map (·.1)) (setG g ru.1 (sizeG g ru)) g:=by
 refine ⟨nn_step j ru,?_⟩
 have hm:ru.1∈rules.map (·.1):=List.mem_map_of_mem m
 have nn:=nn_step j ru
 have at0:setG g ru.1 (sizeG g ru) ru.1=some (sizeG g ru):=if_pos rfl
 have ne:∀ z,z≠ru.1→setG g ru.1 (sizeG g ru) z=g z:=fun z n=>if_neg n
 unfold firesB at f
 have f2:=(Bool.and_eq_true_iff.mp f).2
 cases e:g ru.1 with
 | none =>
  refine .inl (sumOn_lt (fun x _=>?_) hm ?_)
  ·by_cases c:x=ru.1
   ·show (if (setG g ru.1 (sizeG g ru) x).isSome then 0 else 1)≤_
    rw [c,at0]; exact Nat.zero_le _
   ·show (if (setG g ru.1 (sizeG g ru) x).isSome then 0 else 1)≤_
    rw [ne x c]; exact Nat.le_refl _
  ·show (if (setG g ru.1 (sizeG g ru) ru.1).isSome then 0 else 1) < (if (g ru.1).isSome then 0 else 1)
   rw [at0,e]
   show 0 < 1
   exact Nat.one_pos
 | some k =>
  rw [e] at f2
  have lt:sizeG g ru < k:=of_decide_eq_true (by simpa [bl] using f2)
  have h0:=nn ru.1 _ at0
  refine .inr ⟨?_,sumOn_lt (fun x _=>?_) hm ?_⟩
  ·unfold sumOn
   congr 1
   refine List.map_congr_left fun x _=>?_
   by_cases c:x=ru.1
   ·show (if (setG g ru.1 (sizeG g ru) x).isSome then 0 else 1)=(if (g x).isSome then 0 else 1)
    rw [c,at0,e]; rfl
   ·show (if (setG g ru.1 (sizeG g ru) x).isSome then 0 else 1)=(if (g x).isSome then 0 else 1)
    rw [ne x c]
  ·by_cases c:x=ru.1
   ·show ((setG g ru.1 (sizeG g ru) x).getD 0).toNat≤((g x).getD 0).toNat
    rw [c,at0,e]
    show (sizeG g ru).toNat≤k.toNat
    omega
   ·show ((setG g ru.1 (sizeG g ru) x).getD 0).toNat≤((g x).getD 0).toNat
    rw [ne x c]; exact Nat.le_refl _
  ·show ((setG g ru.1 (sizeG g ru) ru.1).getD 0).toNat < ((g ru.1).getD 0).toNat
   rw [at0,e]
   show (sizeG g ru).toNat < k.toNat
   omega
theorem least_ends (rules:List Rule) (g:G) (j:NN g):∃ n,EndsIn bl rules n g:=ends_ofJ (lex_tr (rules.map (·.1))) (fun g ru=>lex_step g ru) (lex_acc _ g) j
inductive Em (rules:List Rule):Str→Prop
 | mk {ru:Rule}:ru∈rules→(∀ p∈ru.2,Em rules p)→Em rules ru.1
def BndOk (rules:List Rule) (b:Str→Int):Prop:=(∀ z,0≤b z)∧∀ ru∈rules,(∀ p∈ru.2,Em rules p)→1+(ru.2.map b).sum≤b ru.1
def GJ (rules:List Rule) (b:Str→Int) (g:G):Prop:=∀ z n,g z=some n→0≤n∧n≤b z∧Em rules z
theorem sum_bnd {rules:List Rule} {b:Str→Int} {g:G} (j:GJ rules b g) (hb:∀ z,0≤b z):∀ ps:List Str,(ps.map fun p=>(g p).getD 0).sum≤(ps.map b).sum
 | []=>by simp
 | p::r=>by
  have h1:=sum_bnd j hb r
  have h2:(g p).getD 0≤b p:=by
   cases e:g p with
   | none=>exact hb p
   | some n=>exact (j p n e).2.1
  rw [List.map_cons,List.sum_cons,List.map_cons,List.sum_cons]
  omega
def gm (b:Str→Int) (g:G) (h:Str):Nat:=if (g h).isSome then (b h - (g h).getD 0).toNat else (b h).toNat+1
theorem great_step {rules:List Rule} {b:Str→Int} (B:BndOk rules b) (g:G) (ru:Rule) (j:GJ rules b g) (m:ru∈rules) (f:firesB bg g ru=true) :
  GJ rules b (setG g ru.1 (sizeG g ru))∧sumOn (gm b (setG g ru.1 (sizeG g ru))) (rules.map (·.1)) < sumOn (gm b g) (rules.map (·.1)):=by
 have hm:ru.1∈rules.map (·.1):=List.mem_map_of_mem m
 have at0:setG g ru.1 (sizeG g ru) ru.1=some (sizeG g ru):=if_pos rfl
 have ne:∀ z,z≠ru.1→setG g ru.1 (sizeG g ru) z=g z:=fun z n=>if_neg n
 unfold firesB at f
 obtain ⟨f1,f2⟩:=Bool.and_eq_true_iff.mp f
 have em:∀ p∈ru.2,Em rules p:=fun p hp=>by
  obtain ⟨n,en⟩:=Option.isSome_iff_exists.mp (List.all_eq_true.mp f1 p hp)
  exact (j p n en).2.2
 have bd:=B.2 ru m em
 have sb:=sum_bnd j B.1 ru.2
 have s0:=sum_nonneg g (fun z n e=>(j z n e).1) ru.2
 have sz:0≤sizeG g ru∧sizeG g ru≤b ru.1:=by unfold sizeG; omega
 refine ⟨fun z n e=>?_,sumOn_lt (fun x _=>?_) hm ?_⟩
 ·by_cases c:z=ru.1
  ·rw [c,at0] at e
   cases e
   rw [c]
   exact ⟨sz.1,sz.2,.mk m em⟩
  ·rw [ne z c] at e
   exact j z n e
 ·by_cases c:x=ru.1
  ·rw [c]
   unfold gm
   rw [at0]
   show (b ru.1 - sizeG g ru).toNat≤_
   cases e:g ru.1 with
   | none=>show _≤(b ru.1).toNat+1; omega
   | some k =>
    rw [e] at f2
    have lt:sizeG g ru > k:=of_decide_eq_true (by simpa [bg] using f2)
    show _≤(b ru.1 - k).toNat
    omega
  ·unfold gm
   rw [ne x c]
   exact Nat.le_refl _
 ·unfold gm
  rw [at0]
  show (b ru.1 - sizeG g ru).toNat < _
  cases e:g ru.1 with
  | none=>show _ < (b ru.1).toNat+1; omega
  | some k =>
   rw [e] at f2
   have lt:sizeG g ru > k:=of_decide_eq_true (by simpa [bg] using f2)
   show _ < (b ru.1 - k).toNat
   omega
theorem great_ends {rules:List Rule} {b:Str→Int} (B:BndOk rules b) (g:G) (j:GJ rules b g):∃ n,EndsIn bg rules n g :=
 ends_ofJ (r:=fun g' g=>sumOn (gm b g') (rules.map (·.1)) < sumOn (gm b g) (rules.map (·.1))) (fun _ _ _ h k=>Nat.lt_trans h k) (great_step B) ((InvImage.wf (fun g:G=>sumOn (gm b g) (rules.map fun x:Rule=>x.1)) Nat.lt_wfRel.wf).apply g) j
theorem great_keeps {rules:List Rule} {b:Str→Int} (B:BndOk rules b) {g g':G} (h:Steps bg rules g g') (j:GJ rules b g):GJ rules b g':=h.keep (fun g ru a m f=>(great_step B g ru a m f).1) j
end M11
namespace L2
open PySem
theorem comp_pairsL {K:PySem.W.Frag} {H:Hp} {p D:Addr} {zs:List Str} {σ:St} {v:V} {x:Str} {Qp:Hp→Prop} (hp:SqL K H p (zs.map V.str)) (hz:zs.length≤10000) (hD:H D=none)
  (q:∀ ts H2,Same H H2→H2 D=some (.lst (ts.map V.ref))→Paired (fun t h=>SqT K H2 t [.str h,v]) ts zs→Qp H2) :
  ∃ W:Nat→Nat→List V→St→Hp→Prop,(∃ m,W 0 m [] (capS [x] [] σ) (upd H D (.lst []))) ∧
 ∀ i m ys σ' H,W i m ys σ' H→((Itl K p).stop i H∧Qp H)∨((Itl K p).go i H∧∃ m',m' < m∧∀ x H',(Itl K p).yld i H x H'→gName 0 x σ' H' fun σ2 H2=>tTrue σ2 H2 fun b H3 =>
  if b=true then tTup (tCons (tVar 0) (tCons (tC v) tNil)) σ2 H3 fun y H4=>H4 D=some (.lst ys)∧ys.length < sizeLine∧W (i+1) m' (ys++[y]) σ2 (upd H4 D (.lst (ys++[y]))) else W (i+1) m' ys σ2 H3):=by
 refine compG_list (xs:=zs.map V.str) (fun i ys σ2 H2=>∃ ts:List Addr,ys=ts.map V.ref∧ts.length=i∧Paired (fun t h=>SqT K H2 t [.str h,v]) ts (zs.take i)∧(∃ y0,σ2=[y0])∧Same H H2∧H2 D=some (.lst ys))
  ⟨[],rfl,rfl,.nil,⟨none,rfl⟩,same_laid hD _,upd_same⟩ (fun i ys σ2 H2 _ h=>?_) (fun i x ys σ2 H2 ex h=>?_) (fun ys σ2 H2 h=>?_)
 ·obtain ⟨_,_,_,_,_,sm,_⟩:=h
  exact sm.seq hp
 ·obtain ⟨ts,rfl,ht,hpp,⟨y0,rfl⟩,sm,hd⟩:=h
  rw [List.getElem?_map] at ex
  obtain ⟨z,ez,rfl⟩:=Option.map_eq_some_iff.mp ex
  have li:=(List.getElem?_eq_some_iff.mp ez).1
  refine goN (goT ?_)
  refine ⟨_,rfl,(by show 2≤sizeLine; decide),fun t ht2=>⟨?_,fits' (by rw [List.length_map]; omega),ts++[t],?_,?_,?_,⟨_,rfl⟩,?_,upd_same⟩⟩
  ·rw [upd_ne (ne_of_none hd ht2)]; exact hd
  ·rw [List.map_append]; rfl
  ·rw [List.length_append,ht]; rfl
  ·rw [List.take_add_one,ez]
   have hd3:upd H2 t (.tup [.str z,v]) D=some (.lst (ts.map V.ref)):=by rw [upd_ne (ne_of_none hd ht2)]; exact hd
   exact Paired.snoc (Paired.mapP hpp fun t' h' z=>sqt_upd hd3 ((same_laid ht2 _).tup z)) (sqt_upd hd3 (SqT.of upd_same))
  ·intro b o hb
   rw [upd_ne (fun z=>by rw [z,hD] at hb; cases hb)]
   exact same_laid ht2 _ _ _ (sm b o hb)
 ·obtain ⟨ts,rfl,ht,hpp,_,sm,hd⟩:=h
  rw [List.length_map,List.take_length] at hpp
  exact q ts H2 sm hd hpp
theorem Tab.same {T:Addr} {pos:Pos} {qual:Str} {H H':Hp} (h:Tab T pos qual H) (s:Same H H'):Tab T pos qual H':=by
 obtain ⟨ps,a,b,c⟩:=h
 refine ⟨ps,s _ _ a,b,c.imp id ?_⟩
 rintro ⟨c',e,g⟩
 exact ⟨c',e,s _ _ g⟩
theorem Tab.sameT {T d:Addr} {pos:Pos} {qual:Str} {H H':Hp} {kvs:List (Key×V)} (h:Tab T pos qual H) (s:SameT d H H') (hd:H d=some (.dK kvs)):Tab T pos qual H':=by
 obtain ⟨ps,a,b,c⟩:=h
 refine ⟨ps,s _ _ (fun z=>by rw [z,hd] at a; cases a) a,b,c.imp id ?_⟩
 rintro ⟨c',e,g⟩
 exact ⟨c',e,s _ _ (fun z=>by rw [z,hd] at g; cases g) g⟩
structure FunC (K:PySem.W.Frag) (x qual:Str) (st:Stmt) (f:Addr) (fd:FuncData) (T:Addr):Prop where
 ex:∃ (oc:Value) (od:Option Addr) (kV doc pm:Value) (an:Option Addr) (c:Addr) (ct:Value) (osl:Array (Option Value)),
  fd=PySem.W.fnOf x qual (defArgs st) (defBody st) (defScope st) .none kV doc pm an (.ref c) ct∧K.lookup f=some ⟨oc,od,.func fd,osl⟩∧PySem.W.codeIn K (.ref c) qual=true∧PySem.W.codeHdIn K c T=true
 kp:PySem.W.keepIn K (.ref f)=true
theorem FunC.ok {P:Program} {w:World} {K:PySem.W.Frag} {mg:Str→Option Value} {base:Heap} {x qual:Str} {st:Stmt} {f:Addr} {fd:FuncData} {T:Addr} {N ps:List Str} {k:Nat} {sp:Sp} (F:FunC K x qual st f fd T) (S:FnScope N ps (defScope st)) (len:∀ vs H Q E,sp vs H Q E→vs.length=ps.length)
  (hbody:∀ (c:Addr) (A:Around) (outer:List Env) (s:Shared) (H:Hp) (vs:List V) (Q:VK) (E:XK),PySem.W.codeHdIn K c T=true→Room k (A.deeper (PyProof.Rows.envOfC qual (defScope st) s.heap.objs.size f (.ref c)))→sp vs H Q E →
   ∃ t,PSs (cxOf CX0 P w K mg base N qual (defScope st) f (.ref c) A outer s H E).nox (defBody st) t∧t { nx:=fun _ H'=>Q .non H',rt:=Q } (start N vs) H):FnOk P w K mg base CX0 (k+1) f fd ps sp:=by
 obtain ⟨oc,od,kV,doc,pm,an,c,ct,osl,rfl,lk,hcd,hC⟩:=F.ex
 refine fn_of lk hcd S len fun A outer s H vs Q E hr hsp=>?_
 obtain ⟨t,h,q⟩:=hbody c A outer s H vs Q E hC hr hsp
 exact ⟨t,h.nox,q⟩
theorem keys_dedV {v:V}:∀ (hs:List Str) (acc:List (Key×V)) (as:List Str),acc.map (·.1)=as.map Sum.inr→(fillK (hs.map fun h=>((Sum.inr h:Key),v)) acc).map (·.1)=(M11.ded as hs).map Sum.inr
 | [],acc,as,e=>e
 | h::r,acc,as,e=>keys_dedV r (putK acc (Sum.inr h) v) (M11.add1 as h) (K11.keys_add e h)
theorem val_fill {v:V}:∀ (hs:List Str) (acc:List (Key×V)) (z:Str),valV (fillK (hs.map fun h=>((Sum.inr h:Key),v)) acc) (Sum.inr z)=if z∈hs then some v else valV acc (Sum.inr z)
 | [],acc,z=>by simp [fillK]
 | h::r,acc,z=>by
  have ih:=val_fill (v:=v) r (putK acc (Sum.inr h) v) z
  show valV (fillK (r.map fun h=>((Sum.inr h:Key),v)) (putK acc (Sum.inr h) v)) (Sum.inr z)=_
  rw [ih,valV_put]
  by_cases c:z∈r
  ·rw [if_pos c,if_pos (List.mem_cons_of_mem _ c)]
  ·rw [if_neg c]
   by_cases c2:z=h
   ·rw [if_pos (by rw [c2]),if_pos (by rw [c2]; exact List.mem_cons_self)]
   ·rw [if_neg (fun e=>c2 (Sum.inr.inj e)),if_neg (fun e=>(List.mem_cons.mp e).elim c2 c)]
end L2
namespace K11
open PySem L2 M11
def lam3:List Stmt→Arguments×Expr×Scope×Pos
 | [.Return (some (.Call _ [_,_,.Lambda p b s pos] _ _)) _]=>(p,b,s,pos)
 | _=>(⟨[],[],none,[],[],none,[]⟩,.Constant .none 0 ⟨0,0,0,0⟩,defScope sLeast,⟨0,0,0,0⟩)
abbrev lmL:=lam3 (defBody sLeast)
abbrev lmG:=lam3 (defBody sGreat)
abbrev lqL:Str := "least_sizes" ++ ".<locals>." ++ "<lambda>"
abbrev lqG:Str := "greatest_empty_sizes" ++ ".<locals>." ++ "<lambda>"
theorem scLamL:FnScope ["size","known"] ["size","known"] lmL.2.2.1:=⟨rfl,rfl,rfl,by decide +kernel,rfl,by decide +kernel,by decide +kernel⟩
theorem scLamG:FnScope ["size","known"] ["size","known"] lmG.2.2.1:=⟨rfl,rfl,rfl,by decide +kernel,rfl,by decide +kernel,by decide +kernel⟩
section
variable {P:Program} {w:World} {K:PySem.W.Frag} {mg:Str→Option Value} {base:Heap} {f:Addr} {fd:FuncData}
theorem ok_settleL (F:Fun K "settled_sizes" "settled_sizes" sSettle f fd) (T:Txt mg):FnOk P w K mg base CX0 2 f fd ["rules","sizes","better"] (spSettle K lqL lmL.1 lmL.2.1 lmL.2.2.1 M11.bl) :=
 ok_settle F T scLamL (fun pm ctv c' us hl=>match us,hl with | [_,_],_=>rfl) (fun _ _ _ _ _ _=>pe_cmpR op_lt (pv 0) (pv 1) (nomark _)) (fun a b H Q h=>⟨_,rfl,_,rfl,_,_,rfl,rfl,h⟩)
theorem ok_settleG (F:Fun K "settled_sizes" "settled_sizes" sSettle f fd) (T:Txt mg):FnOk P w K mg base CX0 2 f fd ["rules","sizes","better"] (spSettle K lqG lmG.1 lmG.2.1 lmG.2.2.1 M11.bg) :=
 ok_settle F T scLamG (fun pm ctv c' us hl=>match us,hl with | [_,_],_=>rfl) (fun _ _ _ _ _ _=>pe_cmpR op_gt (pv 0) (pv 1) (nomark _)) (fun a b H Q h=>⟨_,rfl,_,rfl,_,_,rfl,rfl,h⟩)
def g0L (rules:List Rule):G:=fun z=>if z∈wds (hd rules) [] (rules.flatMap (·.2)) then some 0 else none
def spLeast (K:PySem.W.Frag) (T1:Addr):Sp:=fun vs H Q _=>∃ (R:Addr) (rs:List Addr) (rules:List Rule),vs=[.ref R]∧SqL K H R (rs.map V.ref)∧Rules K H rs rules∧rules.length≤1000∧(∀ ru∈rules,ru.2.length≤8)∧Tab T1 lmL.2.2.2 lqL H ∧
 ∀ (d:Addr) (kvs:List (Key×V)) (ks:List Str) (g:G) (H':Hp),H d=none→SameT T1 H H'→Tab T1 lmL.2.2.2 lqL H'→H' d=some (.dK kvs)→kvs.map (·.1)=ks.map Sum.inr→(∀ z,valV kvs (Sum.inr z)=(g z).map V.int)→Steps M11.bl rules (g0L rules) g→Settled M11.bl rules g→kvs.length≤20000→Q (.ref d) H'
theorem scLeast:FnScope ["rules"] ["rules"] (defScope sLeast):=⟨rfl,rfl,rfl,by decide +kernel,rfl,by decide +kernel,by decide +kernel⟩
theorem ok_least {T1:Addr} (F:FunC K "least_sizes" "least_sizes" sLeast f fd T1) (T:Txt mg) (hB:BmAt mg base) (GW:CalleeD P w K mg base 1 "words_in" ["rules"] (spWords K))
  (GS:CalleeD P w K mg base 2 "settled_sizes" ["rules","sizes","better"] (spSettle K lqL lmL.1 lmL.2.1 lmL.2.2.1 M11.bl)):FnOk P w K mg base CX0 3 f fd ["rules"] (spLeast K T1):=by
 refine F.ok scLeast (fun vs H Q E h=>?_) (fun c A outer s H vs Q E hC hr h=>?_)
 ·obtain ⟨R,rs,rules,rfl,_⟩:=h; rfl
 ·obtain ⟨R,rs,rules,rfl,hR,hrl,hlen,h8,hT,q⟩:=h
  refine ⟨_,pss_one (ps_ret (pe_fn GS hr rfl (pa_cons (pv 0) (pa_cons (pe_callTy (call_dictP rfl) rfl T.dct boot_dct (pa_cons
   (pe_compG ["word"] [] rfl (pi_list (pe_fn (GW.mono (by decide:1≤2)) hr rfl (pa_cons (pv 0) pa_nil))) (caps_of rfl rfl) (by decide +kernel) rfl (by decide +kernel)
    (fun _ _ _ _ _=>pg_name (i:=0) (show (["word"]:List Str).Nodup by decide +kernel) rfl (Or.inl rfl)) (fun _ _ _ _ _=>pif_nil)
    (fun _ _ _ _ _=>pe_tup (pa_cons (pv 0) (pa_cons pe_int pa_nil)))) pa_nil)) (pa_cons (pe_lam (T:=T1) rfl hC hB (by decide +kernel)) pa_nil))))),?_⟩
  refine ⟨_,rfl,_,rfl,R,rs,rules,rfl,hR,hrl,hlen,h8,fun D1 H1 f1 s1 e1=>?_⟩
  have lw:(wds (hd rules) [] (rules.flatMap (·.2))).length≤8000:=by
   have h1:=wds_len (hd rules) (rules.flatMap (·.2)) []
   have h2:=flat_len rules 1000 hlen h8
   simp only [List.length_nil] at h1
   omega
  refine ⟨D1,rfl,⟨_,SqL.of e1⟩,fun D2 hD2=>comp_pairsL (SqL.of e1) (by omega) hD2 fun ts H2 s2 e2 p2=>?_⟩
  have kp:Paired (fun t (kv:Key×V)=>SqT K H2 t [kV kv.1,kv.2]) ts ((wds (hd rules) [] (rules.flatMap (·.2))).map fun h=>((Sum.inr h:Key),V.int 0)):=paired_mapR p2 fun _ _ z=>z
  refine ⟨D2,ts,_,rfl,e2,kp,fun d hd2=>?_⟩
  have k1:=keys_dedV (v:=.int 0) (wds (hd rules) [] (rules.flatMap (·.2))) [] [] rfl
  have k2:∀ z,valV (fillK ((wds (hd rules) [] (rules.flatMap (·.2))).map fun h=>((Sum.inr h:Key),V.int 0)) []) (Sum.inr z)=(g0L rules z).map V.int:=fun z=>by
   rw [val_fill]
   unfold g0L
   split <;> rfl
  have lk:=ded_len (wds (hd rules) [] (rules.flatMap (·.2))) []
  simp only [List.length_nil] at lk
  generalize fillK ((wds (hd rules) [] (rules.flatMap (·.2))).map fun h=>((Sum.inr h:Key),V.int 0)) []=kv0 at k1 k2
  have s3:=(s1.trans s2).trans (same_laid hd2 (.dK kv0))
  have e3:upd H2 d (.dK kv0) d=some (.dK kv0):=upd_same
  have fd0:H d=none:=(s1.trans s2).free hd2
  generalize upd H2 d (.dK kv0)=H3 at s3 e3
  refine ⟨hT.same s3,fun fl c' ctv H4 s4 t4 ffl e4 ec4=>?_⟩
  have nT:d≠T1:=fun z=>by
   obtain ⟨ps,a,_⟩:=hT.same s3
   rw [← z,e3] at a; cases a
  have hd4:=s4 d _ nT e3
  have nTt:∀ {a xs},SqT K H a xs→SqT K H4 a xs:=fun {a xs} h=>by
   obtain ⟨ps,b,_⟩:=hT
   rcases h with (h | ⟨u,h⟩) | h
   ·exact .inl (.inl (s4 _ _ (fun z=>by rw [z,b] at h; cases h) (s3 _ _ h)))
   ·exact .inl (.inr ⟨u,s4 _ _ (fun z=>by rw [z,b] at h; cases h) (s3 _ _ h)⟩)
   ·exact .inr h
  have nTl:∀ {a xs},SqL K H a xs→SqL K H4 a xs:=fun {a xs} h=>by
   obtain ⟨ps,b,_⟩:=hT
   rcases h with (h | ⟨u,h⟩) | h
   ·exact .inl (.inl (s4 _ _ (fun z=>by rw [z,b] at h; cases h) (s3 _ _ h)))
   ·exact .inl (.inr ⟨u,s4 _ _ (fun z=>by rw [z,b] at h; cases h) (s3 _ _ h)⟩)
   ·exact .inr h
  refine ⟨R,rs,rules,d,fl,c',_,ctv,kv0,_,g0L rules,rfl,nTl hR,hrl.keep fun _ _ z=>nTt z,hlen,h8,hd4,k1,ded_nd _ List.nodup_nil,by omega,k2,least_ends rules _ fun z n e=>?_,e4,ec4,fun kvs' ks' g' H5 s5 e5 k5 v5 st se lk'=>?_⟩
  ·unfold g0L at e
   split at e
   ·cases e; exact Int.le_refl _
   ·cases e
  ·refine q d kvs' ks' g' H5 fd0 (fun b o n hb=>s5 b o (fun z=>?_) (s4 b o n (s3 b o hb))) (t4.sameT s5 hd4) e5 k5 v5 st se lk'
   rw [z,fd0] at hb; cases hb
def spGreat (K:PySem.W.Frag) (T2:Addr):Sp:=fun vs H Q _=>∃ (R:Addr) (rs:List Addr) (rules:List Rule) (b:Str→Int),vs=[.ref R]∧SqL K H R (rs.map V.ref)∧Rules K H rs rules∧rules.length≤1000∧(∀ ru∈rules,ru.2.length≤8)∧BndOk rules b∧Tab T2 lmG.2.2.2 lqG H ∧
 ∀ (d:Addr) (kvs:List (Key×V)) (ks:List Str) (g:G) (H':Hp),H d=none→SameT T2 H H'→Tab T2 lmG.2.2.2 lqG H'→H' d=some (.dK kvs)→kvs.map (·.1)=ks.map Sum.inr→(∀ z,valV kvs (Sum.inr z)=(g z).map V.int)→GJ rules b g→Steps M11.bg rules (fun _=>none) g→Settled M11.bg rules g→Q (.ref d) H'
theorem scGreat:FnScope ["rules"] ["rules"] (defScope sGreat):=⟨rfl,rfl,rfl,by decide +kernel,rfl,by decide +kernel,by decide +kernel⟩
theorem ok_great {T2:Addr} (F:FunC K "greatest_empty_sizes" "greatest_empty_sizes" sGreat f fd T2) (hB:BmAt mg base)
  (GS:CalleeD P w K mg base 2 "settled_sizes" ["rules","sizes","better"] (spSettle K lqG lmG.1 lmG.2.1 lmG.2.2.1 M11.bg)):FnOk P w K mg base CX0 3 f fd ["rules"] (spGreat K T2):=by
 refine F.ok scGreat (fun vs H Q E h=>?_) (fun c A outer s H vs Q E hC hr h=>?_)
 ·obtain ⟨R,rs,rules,b,rfl,_⟩:=h; rfl
 ·obtain ⟨R,rs,rules,b,rfl,hR,hrl,hlen,h8,hBd,hT,q⟩:=h
  refine ⟨_,pss_one (ps_ret (pe_fn GS hr rfl (pa_cons (pv 0) (pa_cons pe_dnewK (pa_cons (pe_lam (T:=T2) rfl hC hB (by decide +kernel)) pa_nil))))),?_⟩
  refine ⟨_,rfl,fun d fd0=>?_⟩
  have s3:=same_laid fd0 (.dK [])
  have e3:upd H d (.dK []) d=some (.dK []):=upd_same
  generalize upd H d (.dK [])=H3 at s3 e3
  refine ⟨hT.same s3,fun fl c' ctv H4 s4 t4 ffl e4 ec4=>?_⟩
  have nT:d≠T2:=fun z=>by
   obtain ⟨ps,a,_⟩:=hT.same s3
   rw [← z,e3] at a; cases a
  have hd4:=s4 d _ nT e3
  have nTt:∀ {a xs},SqT K H a xs→SqT K H4 a xs:=fun {a xs} h=>by
   obtain ⟨ps,b,_⟩:=hT
   rcases h with (h | ⟨u,h⟩) | h
   ·exact .inl (.inl (s4 _ _ (fun z=>by rw [z,b] at h; cases h) (s3 _ _ h)))
   ·exact .inl (.inr ⟨u,s4 _ _ (fun z=>by rw [z,b] at h; cases h) (s3 _ _ h)⟩)
   ·exact .inr h
  have nTl:∀ {a xs},SqL K H a xs→SqL K H4 a xs:=fun {a xs} h=>by
   obtain ⟨ps,b,_⟩:=hT
   rcases h with (h | ⟨u,h⟩) | h
   ·exact .inl (.inl (s4 _ _ (fun z=>by rw [z,b] at h; cases h) (s3 _ _ h)))
   ·exact .inl (.inr ⟨u,s4 _ _ (fun z=>by rw [z,b] at h; cases h) (s3 _ _ h)⟩)
   ·exact .inr h
  have j0:GJ rules b (fun _=>none):=fun z n e=>nomatch e
  refine ⟨R,rs,rules,d,fl,c',_,ctv,[],[],fun _=>none,rfl,nTl hR,hrl.keep fun _ _ z=>nTt z,hlen,h8,hd4,rfl,List.nodup_nil,Nat.zero_le _,fun _=>rfl,great_ends hBd _ j0,e4,ec4,fun kvs' ks' g' H5 s5 e5 k5 v5 st se lk'=>?_⟩
  refine q d kvs' ks' g' H5 fd0 (fun b o n hb=>s5 b o (fun z=>?_) (s4 b o n (s3 b o hb))) (t4.sameT s5 hd4) e5 k5 v5 (great_keeps hBd st j0) st se
  rw [z,fd0] at hb; cases hb
end
end K11
namespace M11
open PySem L2
def flN (b:Str→Bool) (zs:List Str) (i:Nat):List Int:=((List.range i).filter fun j=>!(zs[j]?.elim true b)).map fun j:Nat=>(j:Int)
theorem flN_succ (b:Str→Bool) (zs:List Str) (i:Nat) {z:Str} (e:zs[i]?=some z):flN b zs (i+1)=flN b zs i++(if b z=true then [] else [(i:Int)]):=by
 unfold flN
 rw [List.range_succ,List.filter_append,List.map_append]
 congr 1
 by_cases h:b z=true
 ·rw [if_pos h]; simp [e,h]
 ·rw [if_neg h]; simp [e,h]
theorem flN_len (b:Str→Bool) (zs:List Str) (i:Nat):(flN b zs i).length≤i:=by
 unfold flN
 rw [List.length_map]
 have:=List.length_filter_le (fun j=>!(zs[j]?.elim true b)) (List.range i)
 rw [List.length_range] at this
 exact this
def like (b:Str→Bool) (zs:List Str) (j:Nat):Bool:=decide ([]=flN b zs zs.length) || decide ([(j:Int)]=flN b zs zs.length)
def Hit (rules:List Rule) (names:List Str) (b:Str→Bool) (n:Str) (k j:Nat):Prop:=∃ ru z,rules[k]?=some ru∧ru.1=n∧ru.2[j]?=some z∧z∈names∧like b ru.2 j=true
end M11
namespace L2
open PySem M11
def kvA (p:Str×Addr):Key×V:=(Sum.inr p.1,.ref p.2)
theorem fill_nd:∀ (ps acc:List (Key×V)),((acc++ps).map (·.1)).Nodup→fillK ps acc=acc++ps
 | [],acc,_=>by simp [fillK]
 | p::r,acc,h=>by
  have n:valV acc p.1=none:=by
   cases e:valV acc p.1 with
   | none=>rfl
   | some v =>
    have hm:=(val_mem acc p.1).mp (by rw [e]; rfl)
    rw [List.map_append,List.map_cons] at h
    exact absurd rfl ((List.nodup_append.mp h).2.2 p.1 hm p.1 List.mem_cons_self)
  show fillK r (putK acc p.1 p.2)=_
  rw [putK_new p.2 n,fill_nd r (acc++[(p.1,p.2)]) (by rw [List.append_assoc]; exact h),List.append_assoc]
  rfl
theorem val_ps:∀ (ps:List (Str×Addr)),(ps.map (·.1)).Nodup→∀ p∈ps,valV (ps.map kvA) (Sum.inr p.1)=some (.ref p.2)
 | q::r,h,p,hp=>by
  rw [List.map_cons] at h ⊢
  rcases List.mem_cons.mp hp with z | z
  ·rw [z]; exact valV_pos rfl
  ·rw [valV_neg,val_ps r (List.nodup_cons.mp h).2 p z]
   intro e
   have e':q.1=p.1:=Sum.inr.inj e
   exact (List.nodup_cons.mp h).1 (by rw [e']; exact List.mem_map_of_mem z)
theorem keys_ps (ps:List (Str×Addr)):(ps.map kvA).map (·.1)=(ps.map (·.1)).map Sum.inr:=by
 rw [List.map_map,List.map_map]; rfl
theorem comp_fresh {K:PySem.W.Frag} {H:Hp} {p D:Addr} {zs:List Str} {σ:St} {x:Str} {Qp:Hp→Prop} (hp:SqL K H p (zs.map V.str)) (hz:zs.length≤10000) (hD:H D=none)
  (q:∀ ts (ps:List (Str×Addr)) H2,Same H H2→H2 D=some (.lst (ts.map V.ref))→ps.map (·.1)=zs→Paired (fun t (p:Str×Addr)=>SqT K H2 t [.str p.1,.ref p.2]) ts ps→(∀ p∈ps,H2 p.2=some (.lst [])∧H p.2=none∧p.2≠D)→(ps.map (·.2)).Nodup→Qp H2) :
  ∃ W:Nat→Nat→List V→St→Hp→Prop,(∃ m,W 0 m [] (capS [x] [] σ) (upd H D (.lst []))) ∧
 ∀ i m ys σ' H,W i m ys σ' H→((Itl K p).stop i H∧Qp H)∨((Itl K p).go i H∧∃ m',m' < m∧∀ x H',(Itl K p).yld i H x H'→gName 0 x σ' H' fun σ2 H2=>tTrue σ2 H2 fun b H3 =>
  if b=true then tTup (tCons (tVar 0) (tCons (tLst tNil) tNil)) σ2 H3 fun y H4=>H4 D=some (.lst ys)∧ys.length < sizeLine∧W (i+1) m' (ys++[y]) σ2 (upd H4 D (.lst (ys++[y]))) else W (i+1) m' ys σ2 H3):=by
 refine compG_list (xs:=zs.map V.str) (fun i ys σ2 H2=>∃ (ts:List Addr) (ps:List (Str×Addr)),ys=ts.map V.ref∧ts.length=i∧ps.map (·.1)=zs.take i∧Paired (fun t (p:Str×Addr)=>SqT K H2 t [.str p.1,.ref p.2]) ts ps ∧
   (∀ p∈ps,H2 p.2=some (.lst [])∧H p.2=none∧p.2≠D)∧(ps.map (·.2)).Nodup∧(∃ y0,σ2=[y0])∧Same H H2∧H2 D=some (.lst ys))
  ⟨[],[],rfl,rfl,rfl,.nil,by simp,by simp,⟨none,rfl⟩,same_laid hD _,upd_same⟩ (fun i ys σ2 H2 _ h=>?_) (fun i x ys σ2 H2 ex h=>?_) (fun ys σ2 H2 h=>?_)
 ·obtain ⟨_,_,_,_,_,_,_,_,_,sm,_⟩:=h
  exact sm.seq hp
 ·obtain ⟨ts,ps,rfl,ht,hm,hpp,hl,hn,⟨y0,rfl⟩,sm,hd⟩:=h
  rw [List.getElem?_map] at ex
  obtain ⟨z,ez,rfl⟩:=Option.map_eq_some_iff.mp ex
  have li:=(List.getElem?_eq_some_iff.mp ez).1
  refine goN (goT ?_)
  refine ⟨_,rfl,(by show 0≤sizeLine; decide),fun l hl2=>⟨(by show 2≤sizeLine; decide),fun t ht2=>?_⟩⟩
  have nlD:l≠D:=(ne_of_none hd hl2).symm
  have nt:t≠l:=fun e=>by rw [e,upd_same] at ht2; cases ht2
  have ht3:H2 t=none:=by rw [upd_ne nt] at ht2; exact ht2
  have ntD:t≠D:=(ne_of_none hd ht3).symm
  have sm2:Same H2 (upd (upd H2 l (.lst [])) t (.tup [.str z,.ref l])):=(same_laid hl2 _).trans (same_laid ht2 _)
  have hd3:=sm2 _ _ hd
  have el:upd (upd H2 l (.lst [])) t (.tup [.str z,.ref l]) l=some (.lst []):=by rw [upd_ne nt.symm,upd_same]
  have et:SqT K (upd (upd H2 l (.lst [])) t (.tup [.str z,.ref l])) t [.str z,.ref l]:=SqT.of upd_same
  generalize upd (upd H2 l (.lst [])) t (.tup [.str z,.ref l])=H4 at sm2 hd3 el et
  refine ⟨hd3,fits' (by rw [List.length_map]; omega),ts++[t],ps++[(z,l)],by rw [List.map_append]; rfl,by rw [List.length_append,ht]; rfl,by rw [List.map_append,hm,List.take_add_one,ez]; rfl,?_,?_,?_,⟨_,rfl⟩,?_,upd_same⟩
  ·exact Paired.snoc (Paired.mapP hpp fun t' h' z=>sqt_upd hd3 (sm2.tup z)) (sqt_upd hd3 et)
  ·intro p' hp'
   rcases List.mem_append.mp hp' with h | h
   ·obtain ⟨a1,a2,a3⟩:=hl p' h
    exact ⟨by rw [upd_ne a3]; exact sm2 _ _ a1,a2,a3⟩
   ·rw [List.mem_singleton.mp h]
    exact ⟨by rw [upd_ne nlD]; exact el,sm.free hl2,nlD⟩
  ·rw [List.map_append]
   refine List.nodup_append.mpr ⟨hn,by simp,fun a ha b hb e=>?_⟩
   rw [List.map_singleton,List.mem_singleton] at hb
   obtain ⟨p',hp',rfl⟩:=List.mem_map.mp ha
   have:=(hl p' hp').1
   rw [e,hb] at this
   rw [show H2 l=none from hl2] at this
   cases this
  ·intro b o hb
   rw [upd_ne (fun z=>by rw [z,hD] at hb; cases hb)]
   exact sm2 _ _ (sm b o hb)
 ·obtain ⟨ts,ps,rfl,ht,hm,hpp,hl,hn,_,sm,hd⟩:=h
  rw [List.length_map,List.take_length] at hm
  exact q ts ps H2 sm hd hm hpp hl hn
theorem comp_filled {K:PySem.W.Frag} {H:Hp} {p D d:Addr} {zs:List Str} {kvs:List (Key×V)} {σ:St} {js:List (Nat×Str)} {Qp:Hp→Prop} (hσ:capS ["place","part"] js σ=[none,none,some (.ref d)]) (hp:SqT K H p (zs.map V.str)) (hz:zs.length≤1000)
  (hd:H d=some (.dK kvs)) (hD:H D=none) (q:∀ H2,Same H H2→H2 D=some (.lst ((flN (fun z=>(valV kvs (Sum.inr z)).isSome) zs zs.length).map V.int))→Qp H2) :
  ∃ W:Nat→Nat→List V→St→Hp→Prop,(∃ m,W 0 m [] (capS ["place","part"] js σ) (upd H D (.lst []))) ∧
 ∀ i m ys σ' H,W i m ys σ' H→((Itet K p).stop i H∧Qp H)∨((Itet K p).go i H∧∃ m',m' < m∧∀ x H',(Itet K p).yld i H x H'→gTup K 2 (gCons (gName 0) (gCons (gName 1) gNil)) x σ' H' fun σ2 H2=>tB (tDNotIn (tVar 1) (tVar 2)) σ2 H2 fun b H3 =>
  if b=true then tVar 0 σ2 H3 fun y H4=>H4 D=some (.lst ys)∧ys.length < sizeLine∧W (i+1) m' (ys++[y]) σ2 (upd H4 D (.lst (ys++[y]))) else W (i+1) m' ys σ2 H3):=by
 refine compG_enumT (xs:=zs.map V.str) (fun i ys σ2 H2=>ys=(flN (fun z=>(valV kvs (Sum.inr z)).isSome) zs i).map V.int∧(∃ y0 y1,σ2=[y0,y1,some (.ref d)])∧Same H H2∧H2 D=some (.lst ys))
  ⟨rfl,⟨none,none,hσ⟩,same_laid hD _,upd_same⟩ (fun i ys σ2 H2 _ h=>h.2.2.1.tup hp) (fun i x ys σ2 H2 t ex h ht=>?_) (fun ys σ2 H2 h=>?_)
 ·obtain ⟨rfl,⟨y0,y1,rfl⟩,sm,hd2⟩:=h
  rw [List.getElem?_map] at ex
  obtain ⟨z,ez,rfl⟩:=Option.map_eq_some_iff.mp ex
  have li:=(List.getElem?_eq_some_iff.mp ez).1
  have sm2:=sm.trans (same_laid ht (.tup [.int (i:Int),.str z]))
  have hd3:upd H2 t (.tup [.int (i:Int),.str z]) D=some (.lst ((flN (fun z=>(valV kvs (Sum.inr z)).isSome) zs i).map V.int)):=by rw [upd_ne (ne_of_none hd2 ht)]; exact hd2
  have hv:SqT K (upd H2 t (.tup [.int (i:Int),.str z])) t [.int (i:Int),.str z]:=SqT.of upd_same
  generalize upd H2 t (.tup [.int (i:Int),.str z])=H3 at sm2 hd3 hv
  have fl:=flN_len (fun z=>(valV kvs (Sum.inr z)).isSome) zs i
  refine ⟨t,_,rfl,hv,rfl,_,_,rfl,_,_,rfl,rfl,?_⟩
  refine ⟨_,rfl,_,rfl,d,_,rfl,DGet.k (k:=Sum.inr z) (sm2 _ _ hd),_,rfl,?_⟩
  refine ite2 (fun c=>?_) (fun c=>?_)
  ·refine ⟨_,rfl,hd3,fits' (by rw [List.length_map]; omega),?_,⟨_,_,rfl⟩,?_,upd_same⟩
   ·rw [flN_succ _ zs i ez,if_neg (fun e=>by rw [e] at c; exact absurd c (by decide)),List.map_append]; rfl
   ·intro b o hb
    rw [upd_ne (fun z=>by rw [z,hD] at hb; cases hb)]
    exact sm2 b o hb
  ·refine ⟨?_,⟨_,_,rfl⟩,sm2,hd3⟩
   rw [flN_succ _ zs i ez,if_pos,List.append_nil]
   cases hq:(valV kvs (Sum.inr z)).isSome with
   | true=>rfl
   | false=>exact absurd (by rw [hq]; rfl) c
 ·obtain ⟨rfl,_,sm,hd2⟩:=h
  rw [List.length_map] at hd2
  exact q H2 sm hd2
end L2
namespace K11
open PySem L2 M11
section
variable {P:Program} {w:World} {K:PySem.W.Frag} {mg:Str→Option Value} {base:Heap} {f:Addr} {fd:FuncData}
theorem nd_inr {l:List Str} (h:l.Nodup):(l.map (Sum.inr:Str→Key)).Nodup:=List.Pairwise.map _ (fun a b hab e=>hab (Sum.inr.inj e)) h
structure StV (K:PySem.W.Frag) (ps:List (Str×Addr)) (st:Str→List (Nat×Nat)) (H:Hp) (d:Addr):Prop where
 hd:Rd H d (.dK (ps.map kvA))
 n1:(ps.map (·.1)).Nodup
 n2:(ps.map (·.2)).Nodup
 lst:∀ p∈ps,∃ ts,H p.2=some (.lst (ts.map V.ref))∧Paired (fun t (e:Nat×Nat)=>SqT K H t [.int (e.1:Int),.int (e.2:Int)]) ts (st p.1)
theorem Rd.same {H H':Hp} {a:Addr} {u:HO} (h:Rd H a u) (s:Same H H'):Rd H' a u:=h.elim (fun z=>.inl (s _ _ z)) fun ⟨o,z⟩=>.inr ⟨o,s _ _ z⟩
theorem StV.same {ps:List (Str×Addr)} {st:Str→List (Nat×Nat)} {H H':Hp} {d:Addr} (h:StV K ps st H d) (s:Same H H'):StV K ps st H' d :=
 ⟨Rd.same h.hd s,h.n1,h.n2,fun p hp=>let ⟨ts,a,b⟩:=h.lst p hp; ⟨ts,s _ _ a,Paired.mapP b fun _ _ z=>s.tup z⟩⟩
def addSt (st:Str→List (Nat×Nat)) (n:Str) (e:Nat×Nat):Str→List (Nat×Nat):=fun z=>if z=n then st z++[e] else st z
theorem StV.more {ps:List (Str×Addr)} {st:Str→List (Nat×Nat)} {H:Hp} {d:Addr} (h:StV K ps st H d) {p:Str×Addr} (hp:p∈ps) {ts:List Addr} {t:Addr} {e:Nat×Nat} (a:H p.2=some (.lst (ts.map V.ref)))
  (b:Paired (fun t (e:Nat×Nat)=>SqT K H t [.int (e.1:Int),.int (e.2:Int)]) ts (st p.1)) (c:SqT K H t [.int (e.1:Int),.int (e.2:Int)]) :
  StV K ps (addSt st p.1 e) (upd H p.2 (.lst (ts.map V.ref++[.ref t]))) d:=by
 have nd:d≠p.2:=fun z=>by
  rcases h.hd with q | ⟨o,q⟩
  ·rw [z,a] at q; cases q
  ·rw [z,a] at q; cases q
 refine ⟨?_,h.n1,h.n2,fun p' hp'=>?_⟩
 ·rcases h.hd with q | ⟨o,q⟩
  ·exact .inl (by rw [upd_ne nd]; exact q)
  ·exact .inr ⟨o,by rw [upd_ne nd]; exact q⟩
 ·by_cases z:p'=p
  ·rw [z]
   refine ⟨ts++[t],by rw [upd_same,List.map_append]; rfl,?_⟩
   have e1:addSt st p.1 e p.1=st p.1++[e]:=if_pos rfl
   rw [e1]
   exact Paired.snoc (Paired.mapP b fun _ _ z=>sqt_upd a z) (sqt_upd a c)
  ·have n1:p'.1≠p.1:=fun q=>z (by
    have w1:=val_ps ps h.n1 p' hp'
    have w2:=val_ps ps h.n1 p hp
    rw [q,w2] at w1
    injection w1 with w3
    injection w3 with w4
    exact Prod.ext q w4.symm)
   have n2:p'.2≠p.2:=fun q=>by
    obtain ⟨i,hi,ei⟩:=List.mem_iff_getElem.mp hp'
    obtain ⟨j,hj,ej⟩:=List.mem_iff_getElem.mp hp
    have hij:i=j:=by
     refine (List.getElem_inj (xs:=ps.map (·.2)) (h₀:=by simpa using hi) (h₁:=by simpa using hj) h.n2).mp ?_
     rw [List.getElem_map,List.getElem_map,ei,ej]; exact q
    subst hij
    exact z (ei.symm.trans ej)
   obtain ⟨ts',a',b'⟩:=h.lst p' hp'
   refine ⟨ts',by rw [upd_ne n2]; exact a',?_⟩
   have e1:addSt st p.1 e p'.1=st p'.1:=if_neg n1
   rw [e1]
   exact Paired.mapP b' fun _ _ z=>sqt_upd a z
def spSteps (K:PySem.W.Frag):Sp:=fun vs H Q _=>∃ (R:Addr) (rs:List Addr) (rules:List Rule),vs=[.ref R]∧SqL K H R (rs.map V.ref)∧Rules K H rs rules∧rules.length≤1000∧(∀ ru∈rules,ru.2.length≤8) ∧
 ∀ (d:Addr) (ps:List (Str×Addr)) (st:Str→List (Nat×Nat)) (ets:List (Str×Nat)) (H':Hp),H d=none→Same H H'→H' d=some (.dK (ps.map kvA))→StV K ps st H' d→ps.map (·.1)=hd rules→(∀ p∈ps,H p.2=none)→Emp rules ets→EmpC rules rules.length ets →
  (∀ n k j,n∈hd rules→((k,j)∈st n↔Hit rules (hd rules) (fun z=>decide (z∈ets.map (·.1))) n k j))→Q (.ref d) H'
theorem scSteps:FnScope ["rules","empty","steps","number","rule","place","part","filled"] ["rules"] (defScope sSteps):=⟨rfl,rfl,rfl,by decide +kernel,rfl,by decide +kernel,by decide +kernel⟩
theorem ok_steps (F:Fun K "steps_with_like_rows" "steps_with_like_rows" sSteps f fd) (T:Txt mg) (GE:CalleeD P w K mg base 1 "found_empties" ["rules"] (spEmpties K)) (GH:CalleeD P w K mg base 1 "heads_of" ["rules"] (spHeads K)):FnOk P w K mg base CX0 2 f fd ["rules"] (spSteps K):=by
 refine F.ok scSteps (fun vs H Q E h=>?_) (fun cdv A outer s H vs Q E hr h=>?_)
 ·obtain ⟨R,rs,rules,rfl,_⟩:=h; rfl
 ·obtain ⟨R,rs,rules,rfl,hR,hrl,hlen,h8,q⟩:=h
  have hu:=hu_of hr
  refine ⟨_,pss_cons (ps_set (i:=1) scSteps.nd rfl (Or.inr rfl) (pe_callTy (call_dictP rfl) rfl T.dct boot_dct (pa_cons (pe_fn GE hr rfl (pa_cons (pv 0) pa_nil)) pa_nil)))
   (pss_cons (ps_set (i:=2) scSteps.nd rfl (Or.inl rfl) (pe_callTy (call_dictP rfl) rfl T.dct boot_dct (pa_cons
    (pe_compG ["name"] [] rfl (pi_list (pe_fn GH hr rfl (pa_cons (pv 0) pa_nil))) (caps_of rfl rfl) (by decide +kernel) rfl (by decide +kernel)
     (fun _ _ _ _ _=>pg_name (i:=0) (show (["name"]:List Str).Nodup by decide +kernel) rfl (Or.inl rfl)) (fun _ _ _ _ _=>pif_nil)
     (fun _ _ _ _ _=>pe_tup (pa_cons (pv 0) (pa_cons (pe_lst pa_nil) pa_nil)))) pa_nil)))
   (pss_cons (ps_for PassesOwn.never rfl (pi_enum rfl T.enu (pa_cons (pv 0) pa_nil)) (pg_tup rfl (pgs_cons (pg_name (i:=3) scSteps.nd rfl (Or.inl rfl)) (pgs_cons (pg_name (i:=4) scSteps.nd rfl (Or.inl rfl)) pgs_nil)))
    (pss_cons (ps_setC (iy:=7) ["place","part"] [(1,"empty")] scSteps.nd rfl rfl rfl (pi_enumT rfl T.enu (pa_cons (pe_ix ix_tup (pv 4) pe_int (fun _ _=>rfl)) pa_nil)) (caps_of rfl rfl) (by decide +kernel) rfl (by decide +kernel)
     (fun _ _ _ _ _=>pg_tupK (n:=2) K rfl (pgs_cons (pg_name (i:=0) (show (["place","part","empty"]:List Str).Nodup by decide +kernel) rfl (Or.inl rfl)) (pgs_cons (pg_name (i:=1) (show (["place","part","empty"]:List Str).Nodup by decide +kernel) rfl (Or.inl rfl)) pgs_nil)))
     (fun _ _ _ _ _=>pif_one (pt_cmp (pc_dnotin hu (pv 1) (pv 2)))) (fun _ _ _ _ _=>pv 0))
    (pss_one (ps_for PassesOwn.never rfl (pi_enumT rfl T.enu (pa_cons (pe_ix ix_tup (pv 4) pe_int (fun _ _=>rfl)) pa_nil)) (pg_tup rfl (pgs_cons (pg_name (i:=5) scSteps.nd rfl (Or.inl rfl)) (pgs_cons (pg_name (i:=6) scSteps.nd rfl (Or.inl rfl)) pgs_nil)))
     (pss_one (ps_if (PW.pt (pw_and (pt_cmp (pc_din hu (pv 6) (pv 2))) (pw_and1 (pt_cmpR (op_in_two hu) (pv 7) (pe_tup (pa_cons (pe_lst pa_nil) (pa_cons (pe_lst (pa_cons (pv 5) pa_nil)) pa_nil))) rfl))))
      (pss_one (ps_expr (pe_bm PySem.F.plainAttrs_list PySem.F.slot_list_append PySem.F.type_list_append mt_append (pe_dget hu (pv 2) (pe_ix ix_tup (pv 4) pe_int (fun _ _=>rfl)) (fun _ _=>rfl)) (pa_cons (pe_tup (pa_cons (pv 3) (pa_cons (pv 5) pa_nil))) pa_nil)))) pss_nil)))))
    )
   (pss_one (ps_ret (pv 2))))),?_⟩
  have ll:=Paired.length hrl
  refine ⟨_,rfl,R,rs,rules,rfl,hR,hrl,hlen,h8,fun D1 ts1 ets H1 f1 s1 e1 w1 emp empc=>?_⟩
  have kp1:Paired (fun t (kv:Key×V)=>SqT K H1 t [kV kv.1,kv.2]) ts1 (ets.map fun p=>((Sum.inr p.1:Key),V.int (p.2:Int))):=paired_mapR w1 fun _ _ z=>z
  refine ⟨D1,ts1,_,rfl,e1,kp1,fun e he=>?_⟩
  have ekE:fillK (ets.map fun p=>((Sum.inr p.1:Key),V.int (p.2:Int))) []=ets.map fun p=>((Sum.inr p.1:Key),V.int (p.2:Int)):=fill_nd _ [] (by
   rw [List.nil_append,List.map_map]
   have:=nd_inr emp.nd
   rw [List.map_map] at this
   exact this)
  rw [ekE]
  have memE:∀ z,(valV (ets.map fun p=>((Sum.inr p.1:Key),V.int (p.2:Int))) (Sum.inr z)).isSome=decide (z∈ets.map (·.1)):=fun z=>by
   rw [Bool.eq_iff_iff,val_mem,decide_eq_true_iff,List.map_map]
   have:(ets.map fun p:Str×Nat=>(Sum.inr p.1:Key))=(ets.map (·.1)).map Sum.inr:=by rw [List.map_map]; rfl
   show _∈(ets.map fun p:Str×Nat=>(Sum.inr p.1:Key))↔_
   rw [this]; exact inr_mem
  generalize (ets.map fun p=>((Sum.inr p.1:Key),V.int (p.2:Int)))=kE at memE ⊢
  have s2:=s1.trans (same_laid he (.dK kE))
  have e2:upd H1 e (.dK kE) e=some (.dK kE):=upd_same
  generalize upd H1 e (.dK kE)=H2 at s2 e2
  refine ⟨_,rfl,R,rs,rules,rfl,s2.seq hR,hrl.same s2,hlen,fun D2 H3 f3 s3 e3=>?_⟩
  have lhd:=ded_len (rules.map (·.1)) []
  simp only [List.length_nil,List.length_map] at lhd
  refine ⟨D2,rfl,⟨_,SqL.of e3⟩,fun D3 hD3=>comp_fresh (SqL.of e3) (by omega) hD3 fun ts ps H4 s4 e4 m4 p4 l4 n4=>?_⟩
  have n1:(ps.map (·.1)).Nodup:=by rw [m4]; exact ded_nd _ List.nodup_nil
  have kp2:Paired (fun t (kv:Key×V)=>SqT K H4 t [kV kv.1,kv.2]) ts (ps.map kvA):=paired_mapR p4 fun _ _ z=>z
  refine ⟨D3,ts,_,rfl,e4,kp2,fun d hd0=>?_⟩
  have ekS:fillK (ps.map kvA) []=ps.map kvA:=fill_nd _ [] (by
   rw [List.nil_append,keys_ps]
   exact nd_inr n1)
  rw [ekS]
  have s5:=((s2.trans s3).trans s4).trans (same_laid hd0 (.dK (ps.map kvA)))
  have s45:=same_laid hd0 (.dK (ps.map kvA))
  have e5:upd H4 d (.dK (ps.map kvA)) d=some (.dK (ps.map kvA)):=upd_same
  have ee5:=s45 _ _ (s4 _ _ (s3 _ _ e2))
  have fd0:H d=none:=((s2.trans s3).trans s4).free hd0
  have S5:StV K ps (fun _=>[]) (upd H4 d (.dK (ps.map kvA))) d:=⟨.inl e5,n1,n4,fun p hp=>⟨[],s45 _ _ (l4 p hp).1,.nil⟩⟩
  have fps:∀ p∈ps,H p.2=none:=fun p hp=>(s2.trans s3).free (l4 p hp).2.1
  generalize upd H4 d (.dK (ps.map kvA))=H5 at s5 e5 ee5 S5
  clear s45
  have eb:(fun z=>(valV kE (Sum.inr z)).isSome)=fun z=>decide (z∈ets.map (·.1)):=funext memE
  refine ⟨_,rfl,R,_,rfl,s5.seq hR,?_⟩
  refine for_enum (xs:=rs.map V.ref) (fun i σ H6=>∃ (st:Str→List (Nat×Nat)) (y3 y4 y5 y6 y7:Option V),σ=[some (.ref R),some (.ref e),some (.ref d),y3,y4,y5,y6,y7]∧Same H H6∧H6 e=some (.dK kE)∧H6 d=some (.dK (ps.map kvA))∧StV K ps st H6 d ∧
   (∀ n,(st n).length≤8 * i)∧∀ n k j,n∈hd rules→((k,j)∈st n↔k < i∧Hit rules (hd rules) (fun z=>decide (z∈ets.map (·.1))) n k j))
   ⟨fun _=>[],none,none,none,none,none,rfl,s5,ee5,e5,S5,by simp,by simp⟩ ?_ ?_ ?_
  ·rintro i σ H6 _ ⟨st,y3,y4,y5,y6,y7,rfl,s6,_⟩
   exact s6.seq hR
  ·rintro i x σ H6 t ex ⟨st,y3,y4,y5,y6,y7,rfl,s6,ee6,ed6,S6,l6,c6⟩ ht
   rw [List.getElem?_map] at ex
   obtain ⟨r,er,rfl⟩:=Option.map_eq_some_iff.mp ex
   obtain ⟨ru,er1,p,v1,v2⟩:=hrl.get er
   have hmem:=List.mem_of_getElem? er1
   have h8r:=h8 ru hmem
   have li:=(List.getElem?_eq_some_iff.mp er1).1
   have s67:=same_laid ht (.tup [.int (i:Int),.ref r])
   have hv7:SqT K (upd H6 t (.tup [.int (i:Int),.ref r])) t [.int (i:Int),.ref r]:=SqT.of upd_same
   have s7:=s6.trans s67
   have ee7:=s67 _ _ ee6
   have ed7:=s67 _ _ ed6
   have S7:=S6.same s67
   generalize upd H6 t (.tup [.int (i:Int),.ref r])=H7 at hv7 s7 ee7 ed7 S7
   refine ⟨t,_,rfl,hv7,rfl,_,_,rfl,_,_,rfl,rfl,?_⟩
   refine ⟨_,rfl,r,_,_,_,rfl,rfl,s7.tup v1,rfl,p,_,rfl,s7.tup v2,fun D5 hD5=>comp_filled rfl (s7.tup v2) (by omega) ee7 hD5 fun H8 s78 e8=>?_⟩
   rw [eb] at e8
   have s8:=s7.trans s78
   have ee8:=s78 _ _ ee7
   have ed8:=s78 _ _ ed7
   have S8:=S7.same s78
   have nD5:∀ p∈ps,p.2≠D5:=fun p hp z=>by
    obtain ⟨ts',a,_⟩:=S7.lst p hp
    rw [z,hD5] at a; cases a
   obtain ⟨pn,hpn,epn⟩:∃ pn∈ps,pn.1=ru.1:=by
    have:ru.1∈ps.map (·.1):=by rw [m4]; exact (ded_mem _ _ _).mpr (.inr (List.mem_map_of_mem hmem))
    obtain ⟨pn,a,b⟩:=List.mem_map.mp this
    exact ⟨pn,a,b⟩
   refine ⟨_,rfl,r,_,_,_,rfl,rfl,s8.tup v1,rfl,p,_,rfl,s8.tup v2,?_⟩
   refine for_enumT (xs:=ru.2.map V.str) (fun j σ H9=>∃ (st:Str→List (Nat×Nat)) (y5 y6:Option V),σ=[some (.ref R),some (.ref e),some (.ref d),some (.int (i:Int)),some (.ref r),y5,y6,some (.ref D5)]∧Same H H9∧H9 e=some (.dK kE)∧H9 d=some (.dK (ps.map kvA))∧StV K ps st H9 d ∧
    H9 D5=some (.lst ((flN (fun z=>decide (z∈ets.map (·.1))) ru.2 ru.2.length).map V.int))∧(∀ n,(st n).length≤8 * i+j)∧∀ n k j',n∈hd rules→((k,j')∈st n↔(k < i∨(k=i∧j' < j))∧Hit rules (hd rules) (fun z=>decide (z∈ets.map (·.1))) n k j'))
    ⟨st,_,_,rfl,s8,ee8,ed8,S8,e8,fun n=>l6 n,fun n k j' hn=>by rw [c6 n k j' hn]; simp⟩ ?_ ?_ ?_
   ·rintro j σ H9 _ ⟨st,y5,y6,rfl,s9,_⟩
    exact s9.tup v2
   ·rintro j x σ H9 t2 ex2 ⟨st,y5,y6,rfl,s9,ee9,ed9,S9,e9,l9,c9⟩ ht2
    rw [List.getElem?_map] at ex2
    obtain ⟨z,ez,rfl⟩:=Option.map_eq_some_iff.mp ex2
    have lj:=(List.getElem?_eq_some_iff.mp ez).1
    have s910:=same_laid ht2 (.tup [.int (j:Int),.str z])
    have hv10:SqT K (upd H9 t2 (.tup [.int (j:Int),.str z])) t2 [.int (j:Int),.str z]:=SqT.of upd_same
    have s10:=s9.trans s910
    have ee10:=s910 _ _ ee9
    have ed10:=s910 _ _ ed9
    have e10:=s910 _ _ e9
    have S10:=S9.same s910
    generalize upd H9 t2 (.tup [.int (j:Int),.str z])=H10 at hv10 s10 ee10 ed10 e10 S10
    have mem:(valV (ps.map kvA) (Sum.inr z)).isSome=true↔z∈hd rules:=by rw [val_mem,keys_ps,m4]; exact inr_mem
    have stay:¬ (z∈hd rules∧like (fun z=>decide (z∈ets.map (·.1))) ru.2 j=true)→∀ n k j',n∈hd rules→((k,j')∈st n↔(k < i∨(k=i∧j' < j+1))∧Hit rules (hd rules) (fun z=>decide (z∈ets.map (·.1))) n k j'):=fun hn n k j' hnn=>by
     rw [c9 n k j' hnn]
     constructor
     ·rintro ⟨h1,h3⟩
      exact ⟨by omega,h3⟩
     ·rintro ⟨h1,h3⟩
      refine ⟨?_,h3⟩
      by_cases c:k=i∧j'=j
      ·obtain ⟨ru',z',a1,a2,a3,a4,a5⟩:=h3
       rw [c.1,er1] at a1
       cases a1
       rw [c.2] at a5
       rw [c.2,ez] at a3
       cases a3
       exact absurd ⟨a4,a5⟩ hn
      ·omega
    have l9':∀ n,(st n).length≤8 * i+(j+1):=fun n=>by have:=l9 n; omega
    refine ⟨t2,_,rfl,hv10,rfl,_,_,rfl,_,_,rfl,rfl,?_⟩
    refine ⟨_,rfl,_,rfl,d,_,rfl,DGet.k (k:=Sum.inr z) ed10,_,rfl,?_⟩
    refine ite2 (fun c=>?_) (fun c=>?_)
    ·have hz:=mem.mp c
     refine ⟨_,rfl,(by show 0≤sizeLine; decide),fun l1 hl1=>?_⟩
     have s11:=same_laid hl1 (.lst [])
     have e11:upd H10 l1 (.lst []) l1=some (.lst []):=upd_same
     have nl1:l1≠D5:=(ne_of_none e10 hl1).symm
     generalize upd H10 l1 (.lst [])=H11 at s11 e11
     refine ⟨_,rfl,(by show 1≤sizeLine; decide),fun l2 hl2=>?_⟩
     have s12:=same_laid hl2 (.lst [.int (j:Int)])
     have e12:upd H11 l2 (.lst [.int (j:Int)]) l2=some (.lst [.int (j:Int)]):=upd_same
     have nl2:l2≠D5:=(ne_of_none (s11 _ _ e10) hl2).symm
     generalize upd H11 l2 (.lst [.int (j:Int)])=H12 at s12 e12
     refine ⟨(by show 2≤sizeLine; decide),fun t3 ht3=>?_⟩
     have s13:=same_laid ht3 (.tup [.ref l1,.ref l2])
     have e13:SqT K (upd H12 t3 (.tup [.ref l1,.ref l2])) t3 [.ref l1,.ref l2]:=SqT.of upd_same
     generalize upd H12 t3 (.tup [.ref l1,.ref l2])=H13 at s13 e13
     have sAll:=(s11.trans s12).trans s13
     refine ⟨t3,D5,l1,l2,_,[],[(j:Int)],rfl,rfl,e13,SqL.of (sAll _ _ e10),SqL.of (s13 _ _ (s12 _ _ e11)),SqL.of (s13 _ _ e12),nl1,nl2,_,rfl,?_⟩
     have S13:=S10.same sAll
     have s13':=s10.trans sAll
     refine ite2 (fun c2=>?_) (fun c2=>?_)
     ·obtain ⟨tsn,an,bn⟩:=S13.lst pn hpn
      have vn:=val_ps ps n1 pn hpn
      rw [epn] at vn
      have hg:DGet H13 d (.str ru.1) (some (.ref pn.2)):=by
       have:=DGet.k (k:=Sum.inr ru.1) (sAll _ _ ed10)
       rw [vn] at this
       exact this
      have ltn:=Paired.length bn
      have l9n:=l9 pn.1
      refine ⟨_,rfl,_,rfl,r,_,_,_,rfl,rfl,s13'.tup v1,rfl,d,_,rfl,hg,.inl ⟨rfl,_,SqL.of an⟩,_,rfl,_,rfl,(by show 2≤sizeLine; decide),fun t4 ht4=>?_⟩
      have s14:=same_laid ht4 (.tup [.int (i:Int),.int (j:Int)])
      have e14:SqT K (upd H13 t4 (.tup [.int (i:Int),.int (j:Int)])) t4 [.int (i:Int),.int (j:Int)]:=SqT.of upd_same
      generalize upd H13 t4 (.tup [.int (i:Int),.int (j:Int)])=H14 at s14 e14
      have S14:=S13.same s14
      have an14:=s14 _ _ an
      have bn14:=Paired.mapP bn fun t' (e':Nat×Nat) (z:SqT K H13 t' [.int (e'.1:Int),.int (e'.2:Int)])=>s14.tup z
      refine ⟨pn.2,_,_,rfl,rfl,an14,fits' (by rw [List.length_map]; omega),?_⟩
      have S15:=S14.more (e:=(i,j)) hpn an14 bn14 e14
      have ne1:e≠pn.2:=fun z=>by have:=s14 _ _ (sAll _ _ ee10); rw [z,an14] at this; cases this
      have ne2:d≠pn.2:=fun z=>by have:=s14 _ _ (sAll _ _ ed10); rw [z,an14] at this; cases this
      refine ⟨addSt st pn.1 (i,j),_,_,rfl,fun b o hb=>?_,by rw [upd_ne ne1]; exact s14 _ _ (sAll _ _ ee10),by rw [upd_ne ne2]; exact s14 _ _ (sAll _ _ ed10),S15,by rw [upd_ne (nD5 pn hpn).symm]; exact s14 _ _ (sAll _ _ e10),fun n=>?_,fun n k j' hnn=>?_⟩
      ·rw [upd_ne (fun z=>by rw [z,fps pn hpn] at hb; cases hb)]
       exact s14 _ _ (s13' b o hb)
      ·have:=l9 n
       unfold addSt
       split
       ·rw [List.length_append]; simp; omega
       ·omega
      ·have hit:Hit rules (hd rules) (fun z=>decide (z∈ets.map (·.1))) ru.1 i j:=⟨ru,z,er1,rfl,ez,hz,c2⟩
       have base9:=c9 n k j' hnn
       unfold addSt
       by_cases cn:n=pn.1
       ·rw [if_pos cn,List.mem_append,List.mem_singleton,base9]
        constructor
        ·rintro (⟨h1,h3⟩ | h1)
         ·exact ⟨by omega,h3⟩
         ·cases h1
          exact ⟨by omega,by rw [cn,epn]; exact hit⟩
        ·rintro ⟨h1,h3⟩
         by_cases cc:k=i∧j'=j
         ·exact .inr (by rw [cc.1,cc.2])
         ·exact .inl ⟨by omega,h3⟩
       ·rw [if_neg cn,base9]
        constructor
        ·rintro ⟨h1,h3⟩
         exact ⟨by omega,h3⟩
        ·rintro ⟨h1,h3⟩
         refine ⟨?_,h3⟩
         by_cases cc:k=i∧j'=j
         ·obtain ⟨ru',z',a1,a2,_⟩:=h3
          rw [cc.1,er1] at a1
          cases a1
          exact absurd (a2.symm.trans epn.symm) cn
         ·omega
     ·exact ⟨st,_,_,rfl,s13',sAll _ _ ee10,sAll _ _ ed10,S13,sAll _ _ e10,l9',stay fun ⟨_,h⟩=>c2 h⟩
    ·exact ⟨st,_,_,rfl,s10,ee10,ed10,S10,e10,l9',stay fun ⟨h,_⟩=>c (mem.mpr h)⟩
   ·rintro σ H9 ⟨st,y5,y6,rfl,s9,ee9,ed9,S9,e9,l9,c9⟩
    rw [List.length_map] at l9 c9
    refine ⟨st,_,_,_,_,_,rfl,s9,ee9,ed9,S9,fun n=>?_,fun n k j' hn=>?_⟩
    ·have:=l9 n; omega
    ·rw [c9 n k j' hn]
     constructor
     ·rintro ⟨h1 | ⟨h1,h2⟩,h3⟩
      ·exact ⟨by omega,h3⟩
      ·exact ⟨by omega,h3⟩
     ·rintro ⟨h1,h3⟩
      refine ⟨?_,h3⟩
      by_cases c:k < i
      ·exact .inl c
      ·refine .inr ⟨by omega,?_⟩
       obtain ⟨ru',z',a1,_,a3,_⟩:=h3
       have:k=i:=by omega
       rw [this,er1] at a1
       cases a1
       exact (List.getElem?_eq_some_iff.mp a3).1
  ·rintro σ H6 ⟨st,y3,y4,y5,y6,y7,rfl,s6,ee6,ed6,S6,l6,c6⟩
   rw [List.length_map,ll] at c6
   refine ⟨_,rfl,q d ps st ets H6 fd0 s6 ed6 S6 m4 fps emp empc fun n k j hn=>?_⟩
   rw [c6 n k j hn]
   constructor
   ·exact fun h=>h.2
   ·intro h
    obtain ⟨ru',_,a1,_⟩:=id h
    exact ⟨(List.getElem?_eq_some_iff.mp a1).1,h⟩
end
end K11
namespace L2
open PySem
theorem DGet.r {H:Hp} {a:Addr} {kvs:List (Key×V)} {k:Key} (e:Rd H a (.dK kvs)):DGet H a (kV k) (valV kvs k):=.inl ⟨kvs,k,e,rfl,rfl⟩
end L2
namespace K11
open PySem L2 M11
section
variable {P:Program} {w:World} {K:PySem.W.Frag} {mg:Str→Option Value} {base:Heap} {f:Addr} {fd:FuncData}
def Down (rules:List Rule) (names:List Str) (st:Str→List (Nat×Nat)) (rk:Str→Nat):Prop:=∀ n∈names,∀ e∈st n,∃ ru z,rules[e.1]?=some ru∧ru.2[e.2]?=some z∧z∈names∧rk z < rk n
def spWay (K:PySem.W.Frag):Sp:=fun vs H Q _=>∃ (R d:Addr) (rs:List Addr) (rules:List Rule) (ps:List (Str×Addr)) (st:Str→List (Nat×Nat)) (name:Str) (rk:Str→Nat),vs=[.ref R,.ref d,.str name]∧SqL K H R (rs.map V.ref)∧Rules K H rs rules∧rules.length≤1000 ∧
 StV K ps st H d∧ps.length≤1000∧name∈ps.map (·.1)∧Down rules (ps.map (·.1)) st rk∧∀ (D:Addr) (H':Hp),H D=none→Same H H'→H' D=some (.lst [])→Q (.ref D) H'
structure WSt (K:PySem.W.Frag) (names:List Str) (rk:Str→Nat) (name:Str) (H H5:Hp) (D m:Addr) (wts:List Addr) (wes:List (Str×Addr)) (ms:List Str) (kvs:List (Key×V)):Prop where
 sm:Same H H5
 hD:H5 D=some (.lst (wts.map V.ref))
 hm:H5 m=some (.dK kvs)
 keys:kvs.map (·.1)=ms.map Sum.inr
 nd:ms.Nodup
 sub:∀ x∈ms,x∈names
 wl:wes.length=ms.length+1
 wv:Paired (fun t (e:Str×Addr)=>SqT K H5 t [.str e.1,.ref e.2]) wts wes
 we:∀ e∈wes,e.1∈names∧rk e.1≤rk name∧∃ xs,H5 e.2=some (.lst xs)∧xs.length≤wes.length∧e.2≠D
theorem WSt.same {names:List Str} {rk:Str→Nat} {name:Str} {H H5 H6:Hp} {D m:Addr} {wts:List Addr} {wes:List (Str×Addr)} {ms:List Str} {kvs:List (Key×V)} (h:WSt K names rk name H H5 D m wts wes ms kvs) (s:Same H5 H6):WSt K names rk name H H6 D m wts wes ms kvs :=
 ⟨h.sm.trans s,s _ _ h.hD,s _ _ h.hm,h.keys,h.nd,h.sub,h.wl,Paired.mapP h.wv fun _ _ z=>s.tup z,fun e he=>let ⟨a,b,xs,c,d⟩:=h.we e he; ⟨a,b,xs,s _ _ c,d⟩⟩
theorem WSt.len {names:List Str} {rk:Str→Nat} {name:Str} {H H5:Hp} {D m:Addr} {wts:List Addr} {wes:List (Str×Addr)} {ms:List Str} {kvs:List (Key×V)} (h:WSt K names rk name H H5 D m wts wes ms kvs):wts.length=wes.length∧kvs.length=ms.length∧ms.length≤names.length:=by
 refine ⟨Paired.length h.wv,?_,nodup_len _ _ h.nd h.sub⟩
 have:=congrArg List.length h.keys
 simpa using this
theorem WSt.more {names:List Str} {rk:Str→Nat} {name z:Str} {H H5 H9:Hp} {D m t c:Addr} {wts:List Addr} {wes:List (Str×Addr)} {ms:List Str} {kvs:List (Key×V)} {xs:List V} (h:WSt K names rk name H H5 D m wts wes ms kvs) (fD:H D=none) (fm:H m=none)
  (hz:z∈names) (hr:rk z≤rk name) (hn:z∉ms) (s:Same (upd H5 m (.dK (putK kvs (Sum.inr z) (.bl true)))) H9) (ht:SqT K H9 t [.str z,.ref c]) (hc:H9 c=some (.lst xs)) (hx:xs.length≤wes.length+1) (nc:c≠D) :
  WSt K names rk name H (upd H9 D (.lst (wts.map V.ref++[.ref t]))) D m (wts++[t]) (wes++[(z,c)]) (ms++[z]) (putK kvs (Sum.inr z) (.bl true)):=by
 have nDm:D≠m:=fun e=>by have:=h.hD; rw [e,h.hm] at this; cases this
 have hD9:H9 D=some (.lst (wts.map V.ref)):=s _ _ (by rw [upd_ne nDm]; exact h.hD)
 have hm9:H9 m=some (.dK (putK kvs (Sum.inr z) (.bl true))):=s _ _ upd_same
 refine ⟨fun b o hb=>?_,by rw [upd_same,List.map_append]; rfl,by rw [upd_ne nDm.symm]; exact hm9,?_,?_,?_,?_,?_,?_⟩
 ·rw [upd_ne (fun e=>by rw [e,fD] at hb; cases hb)]
  exact s _ _ (by rw [upd_ne (fun e=>by rw [e,fm] at hb; cases hb)]; exact h.sm b o hb)
 ·rw [put_out (by rw [h.keys]; exact fun e=>hn (inr_mem.mp e)),h.keys,List.map_append]; rfl
 ·refine List.nodup_append.mpr ⟨h.nd,by simp,fun a ha b hb e=>?_⟩
  rw [List.mem_singleton.mp hb] at e
  exact hn (e ▸ ha)
 ·intro x hx'
  rcases List.mem_append.mp hx' with e | e
  ·exact h.sub x e
  ·rw [List.mem_singleton.mp e]; exact hz
 ·rw [List.length_append,List.length_append,h.wl]; rfl
 ·exact Paired.snoc (Paired.mapP h.wv fun _ _ e=>sqt_upd hD9 (s.tup (sqt_updK h.hm e))) (sqt_upd hD9 ht)
 ·intro e he
  rw [List.length_append]
  rcases List.mem_append.mp he with e' | e'
  ·obtain ⟨a,b,ys,c1,d1,n1⟩:=h.we e e'
   exact ⟨a,b,ys,by rw [upd_ne n1]; exact s _ _ (by rw [upd_ne (fun q=>by rw [q,h.hm] at c1; cases c1)]; exact c1),by omega,n1⟩
  ·rw [List.mem_singleton.mp e']
   exact ⟨hz,hr,xs,by rw [upd_ne nc]; exact hc,hx,nc⟩
theorem scWay:FnScope ["rules","steps","name","ways","met","at","way","number","place","part"] ["rules","steps","name"] (defScope sWay):=⟨rfl,rfl,rfl,by decide +kernel,rfl,by decide +kernel,by decide +kernel⟩
theorem ok_way (F:Fun K "way_back" "way_back" sWay f fd) (T:Txt mg):FnOk P w K mg base CX0 1 f fd ["rules","steps","name"] (spWay K):=by
 refine F.ok scWay (fun vs H Q E h=>?_) (fun cdv A outer s H vs Q E hr h=>?_)
 ·obtain ⟨R,d,rs,rules,ps,st,name,rk,rfl,_⟩:=h; rfl
 ·obtain ⟨R,d,rs,rules,ps,st,name,rk,rfl,hR,hrl,hlen,S,hps,hname,hdn,q⟩:=h
  have hu:=hu_of hr
  refine ⟨_,pss_cons (ps_set (i:=3) scWay.nd rfl (Or.inl rfl) (pe_lst (pa_cons (pe_tup (pa_cons (pv 2) (pa_cons (pe_lst pa_nil) pa_nil))) pa_nil)))
   (pss_cons (ps_set (i:=4) scWay.nd rfl (Or.inl rfl) pe_dnewK)
   (pss_cons (ps_set (i:=5) scWay.nd rfl (Or.inl rfl) pe_int)
   (pss_cons (ps_while PassesOwn.never (pt_cmpR op_lt (pv 5) (pe_callB call_len_seq rfl T.len PySem.boot_len (pa_cons (pv 3) pa_nil)) (nomark _))
    (pss_cons (ps_set (i:=6) scWay.nd rfl (Or.inl rfl) (pe_ix ix_tup (pe_ix ix_list (pv 3) (pv 5) (fun _ _=>rfl)) pe_int (fun _ _=>rfl)))
    (pss_cons (ps_for PassesOwn.never rfl (pi_list (pe_dget hu (pv 1) (pe_ix ix_tup (pe_ix ix_list (pv 3) (pv 5) (fun _ _=>rfl)) pe_int (fun _ _=>rfl)) (fun _ _=>rfl))) (pg_tup rfl (pgs_cons (pg_name (i:=7) scWay.nd rfl (Or.inl rfl)) (pgs_cons (pg_name (i:=8) scWay.nd rfl (Or.inl rfl)) pgs_nil)))
     (pss_cons (ps_set (i:=9) scWay.nd rfl (Or.inl rfl) (pe_ix ix_tup (pe_ix ix_tup (pe_ix ix_list (pv 0) (pv 7) (fun _ _=>rfl)) pe_int (fun _ _=>rfl)) (pv 8) (fun _ _=>rfl)))
     (pss_cons (ps_if (pt_cmpR op_eq (pv 9) (pv 2) (nomark _)) (pss_one ps_never) pss_nil)
     (pss_one (ps_if (pt_cmp (pc_dnotin hu (pv 9) (pv 4)))
      (pss_cons (ps_dput hu (pv 4) (pv 9) pe_bl rfl) (pss_one (ps_expr (pe_bm PySem.F.plainAttrs_list PySem.F.slot_list_append PySem.F.type_list_append mt_append (pv 3) (pa_cons (pe_tup (pa_cons (pv 9) (pa_cons (pe_op op_cat (pv 6) (pe_lst (pa_cons (pe_tup (pa_cons (pv 7) (pa_cons (pv 8) pa_nil))) pa_nil))) pa_nil))) pa_nil))))) pss_nil)))))
    (pss_one (ps_aug (i:=5) scWay.nd rfl (Or.inl rfl) pe_int ip_add)))))
   (pss_one (ps_ret (pe_lst pa_nil)))))),?_⟩
  have hpl:(ps.map (·.1)).length=ps.length:=List.length_map _
  refine ⟨_,rfl,(by show 0≤sizeLine; decide),fun l0 hl0=>?_⟩
  have s1:=same_laid hl0 (.lst [])
  have e1:upd H l0 (.lst []) l0=some (.lst []):=upd_same
  generalize upd H l0 (.lst [])=H1 at s1 e1
  refine ⟨(by show 2≤sizeLine; decide),fun t0 ht0=>?_⟩
  have s2:=same_laid ht0 (.tup [.str name,.ref l0])
  have e2:SqT K (upd H1 t0 (.tup [.str name,.ref l0])) t0 [.str name,.ref l0]:=SqT.of upd_same
  generalize upd H1 t0 (.tup [.str name,.ref l0])=H2 at s2 e2
  refine ⟨(by show 1≤sizeLine; decide),fun D hD=>?_⟩
  have s3:=same_laid hD (.lst [.ref t0])
  have e3:upd H2 D (.lst [.ref t0]) D=some (.lst ([t0].map V.ref)):=upd_same
  have nl0:l0≠D:=ne_of_none (s2 _ _ e1) hD
  generalize upd H2 D (.lst [.ref t0])=H3 at s3 e3
  intro m hm
  have s4:=same_laid hm (.dK [])
  have e4:upd H3 m (.dK []) m=some (.dK []):=upd_same
  generalize upd H3 m (.dK [])=H4 at s4 e4
  have fD:H D=none:=(s1.trans s2).free hD
  have fm:H m=none:=((s1.trans s2).trans s3).free hm
  have W0:WSt K (ps.map (·.1)) rk name H H4 D m [t0] [(name,l0)] [] []:=⟨((s1.trans s2).trans s3).trans s4,s4 _ _ e3,e4,rfl,List.nodup_nil,by simp,rfl,.cons ((s3.trans s4).tup e2) .nil,fun e he=>by
   rw [List.mem_singleton.mp he]
   exact ⟨hname,Nat.le_refl _,[],s4 _ _ (s3 _ _ (s2 _ _ e1)),by simp,nl0⟩⟩
  refine ⟨fun mm σ H5=>∃ (wts:List Addr) (wes:List (Str×Addr)) (ms:List Str) (kvs:List (Key×V)) (at_:Nat) (y6 y7 y8 y9:Option V),σ=[some (.ref R),some (.ref d),some (.str name),some (.ref D),some (.ref m),some (.int (at_:Int)),y6,y7,y8,y9]∧WSt K (ps.map (·.1)) rk name H H5 D m wts wes ms kvs ∧
   at_≤wes.length∧mm=1002 - at_,⟨1002,[t0],[(name,l0)],[],[],0,none,none,none,none,rfl,W0,by simp,rfl⟩,?_⟩
  rintro mm σ H5 ⟨wts,wes,ms,kvs,at_,y6,y7,y8,y9,rfl,W,hat,rfl⟩
  obtain ⟨lw,lk,lm⟩:=W.len
  have lwes:=W.wl
  refine ⟨_,rfl,_,rfl,D,_,rfl,.inl (SqL.of W.hD),_,_,rfl,rfl,_,rfl,?_⟩
  refine ite2 (fun c=>?_) (fun c=>?_)
  ·have c':=of_decide_eq_true c
   rw [List.length_map,lw] at c'
   have hlt:at_ < wes.length:=by omega
   obtain ⟨n,l,en⟩:∃ n l,wes[at_]?=some (n,l):=⟨(wes[at_]).1,(wes[at_]).2,List.getElem?_eq_getElem hlt⟩
   obtain ⟨t1,et1,ht1⟩:=Paired.at_ W.wv at_ (n,l) en
   have at1:atI (wts.map V.ref) (at_:Int)=some (.ref t1):=atI_nat (by rw [List.getElem?_map,et1]; rfl)
   obtain ⟨hn,hrn,xs,hl,hxl,nlD⟩:=W.we (n,l) (List.mem_of_getElem? en)
   dsimp only at hn hrn hl nlD
   obtain ⟨pn,hpn,epn⟩:=List.mem_map.mp hn
   have vn:=val_ps ps S.n1 pn hpn
   rw [epn] at vn
   obtain ⟨tsn,an,bn⟩:=S.lst pn hpn
   rw [epn] at bn
   refine ⟨fun σ H5=>∃ (wts:List Addr) (wes:List (Str×Addr)) (ms:List Str) (kvs:List (Key×V)) (y6 y7 y8 y9:Option V),σ=[some (.ref R),some (.ref d),some (.str name),some (.ref D),some (.ref m),some (.int ((at_+1:Nat):Int)),y6,y7,y8,y9]∧WSt K (ps.map (·.1)) rk name H H5 D m wts wes ms kvs∧at_+1≤wes.length,?_,?_⟩
   ·rintro σ H6 ⟨wts,wes,ms,kvs,y6,y7,y8,y9,rfl,W2,h2⟩
    exact ⟨1002 - (at_+1),by omega,wts,wes,ms,kvs,at_+1,_,_,_,_,rfl,W2,h2,rfl⟩
   ·refine ⟨_,rfl,_,rfl,D,_,_,_,rfl,rfl,SqL.of W.hD,at1,t1,_,_,_,rfl,rfl,ht1,rfl,?_⟩
    have hg:DGet H5 d (.str n) (some (.ref pn.2)):=by
     have:=DGet.r (k:=Sum.inr n) (Rd.same S.hd W.sm)
     rw [vn] at this
     exact this
    refine ⟨_,rfl,_,rfl,_,rfl,D,_,_,_,rfl,rfl,SqL.of W.hD,at1,t1,_,_,_,rfl,rfl,ht1,rfl,d,_,rfl,hg,pn.2,rfl,⟨_,SqL.of (W.sm _ _ an)⟩,?_⟩
    refine for_list (xs:=tsn.map V.ref) (fun i σ H6=>∃ (wts:List Addr) (wes:List (Str×Addr)) (ms:List Str) (kvs:List (Key×V)) (y7 y8 y9:Option V),σ=[some (.ref R),some (.ref d),some (.str name),some (.ref D),some (.ref m),some (.int (at_:Int)),some (.ref l),y7,y8,y9]∧WSt K (ps.map (·.1)) rk name H H6 D m wts wes ms kvs ∧
     at_+1≤wes.length∧∃ e∈wes,e.2=l) ⟨wts,wes,ms,kvs,_,_,_,rfl,W,hlt,(n,l),List.mem_of_getElem? en,rfl⟩ ?_ ?_ ?_
    ·rintro i σ H6 _ ⟨wts,wes,ms,kvs,y7,y8,y9,rfl,W2,_⟩
     exact SqL.of (W2.sm _ _ an)
    ·rintro i x σ H6 ex ⟨wts,wes,ms,kvs,y7,y8,y9,rfl,W2,h2,e0,he0,ee0⟩
     rw [List.getElem?_map] at ex
     obtain ⟨ti,eti,rfl⟩:=Option.map_eq_some_iff.mp ex
     have lbn:=Paired.length bn
     have lti:=(List.getElem?_eq_some_iff.mp eti).1
     obtain ⟨⟨k,j⟩,ekj⟩:∃ e,(st n)[i]?=some e:=⟨(st n)[i]'(by omega),List.getElem?_eq_getElem (by omega)⟩
     obtain ⟨ti',eti',hti⟩:=Paired.at_ bn i (k,j) ekj
     rw [eti] at eti'
     cases eti'
     obtain ⟨ru,z,er,ez,hz,hrk⟩:=hdn n hn (k,j) (List.mem_of_getElem? ekj)
     obtain ⟨r,er2,p,v1,v2⟩:=Paired.at_ hrl k ru er
     have atr:atI (rs.map V.ref) (k:Int)=some (.ref r):=atI_nat (by rw [List.getElem?_map,er2]; rfl)
     have atz:atI (ru.2.map V.str) (j:Int)=some (.str z):=atI_nat (by rw [List.getElem?_map,ez]; rfl)
     obtain ⟨lw2,lk2,lm2⟩:=W2.len
     have lwes2:=W2.wl
     refine ⟨ti,_,rfl,W2.sm.tup hti,rfl,_,_,rfl,_,_,rfl,rfl,?_⟩
     refine ⟨_,rfl,_,rfl,R,_,_,_,rfl,rfl,W2.sm.seq hR,atr,r,_,_,_,rfl,rfl,W2.sm.tup v1,rfl,_,rfl,p,_,_,_,rfl,rfl,W2.sm.tup v2,atz,?_⟩
     refine ⟨_,rfl,_,rfl,rfl,_,rfl,?_⟩
     have nz:z≠name:=fun e=>by rw [e] at hrk; omega
     refine ite2 (fun c=>absurd (of_decide_eq_true c) (fun e=>nz (by injection e))) (fun _=>?_)
     have mem:(valV kvs (Sum.inr z)).isSome=true↔z∈ms:=by rw [val_mem,W2.keys]; exact inr_mem
     refine ⟨_,rfl,_,rfl,m,_,rfl,DGet.k (k:=Sum.inr z) W2.hm,_,rfl,?_⟩
     refine ite2 (fun c=>?_) (fun c=>?_)
     ·have nm:z∉ms:=fun h=>by rw [mem.mpr h] at c; exact absurd c (by decide)
      refine ⟨_,rfl,_,rfl,m,_,rfl,DPut.k (k:=Sum.inr z) W2.hm (fits' (by omega)),?_⟩
      obtain ⟨_,_,xs2,hl2,hxl2,nl2⟩:=W2.we e0 he0
      rw [ee0] at hl2 nl2
      have nDm:D≠m:=fun e=>by have:=W2.hD; rw [e,W2.hm] at this; cases this
      have nlm:l≠m:=fun e=>by rw [e,W2.hm] at hl2; cases hl2
      have hDu:upd H6 m (.dK (putK kvs (Sum.inr z) (.bl true))) D=some (.lst (wts.map V.ref)):=by rw [upd_ne nDm]; exact W2.hD
      have hlu:upd H6 m (.dK (putK kvs (Sum.inr z) (.bl true))) l=some (.lst xs2):=by rw [upd_ne nlm]; exact hl2
      refine ⟨_,rfl,.inl ⟨rfl,_,SqL.of hDu⟩,_,rfl,_,rfl,_,rfl,_,rfl,(by show 2≤sizeLine; decide),fun t4 ht4=>?_⟩
      have s4':=same_laid ht4 (.tup [.int (k:Int),.int (j:Int)])
      generalize upd (upd H6 m (.dK (putK kvs (Sum.inr z) (.bl true)))) t4 (.tup [.int (k:Int),.int (j:Int)])=H7 at s4'
      refine ⟨(by show 1≤sizeLine; decide),fun l4 hl4=>?_⟩
      have s5':=same_laid hl4 (.lst [.ref t4])
      have e5':upd H7 l4 (.lst [.ref t4]) l4=some (.lst [.ref t4]):=upd_same
      generalize upd H7 l4 (.lst [.ref t4])=H8 at s5' e5'
      have s48:=s4'.trans s5'
      refine ⟨l,l4,xs2,[.ref t4],rfl,rfl,s48 _ _ hlu,e5',fits (by simp; omega),fun c0 hc0=>?_⟩
      have s6':=same_laid hc0 (.lst (xs2++[.ref t4]))
      have e6':upd H8 c0 (.lst (xs2++[.ref t4])) c0=some (.lst (xs2++[.ref t4])):=upd_same
      have nc0:c0≠D:=(ne_of_none (s48 _ _ hDu) hc0).symm
      generalize upd H8 c0 (.lst (xs2++[.ref t4]))=H9 at s6' e6'
      refine ⟨(by show 2≤sizeLine; decide),fun t5 ht5=>?_⟩
      have s7':=same_laid ht5 (.tup [.str z,.ref c0])
      have e7':SqT K (upd H9 t5 (.tup [.str z,.ref c0])) t5 [.str z,.ref c0]:=SqT.of upd_same
      generalize upd H9 t5 (.tup [.str z,.ref c0])=H10 at s7' e7'
      have sA:=(s48.trans s6').trans s7'
      refine ⟨D,_,_,rfl,rfl,sA _ _ hDu,fits' (by rw [List.length_map]; omega),?_⟩
      exact ⟨wts++[t5],wes++[(z,c0)],ms++[z],_,_,_,_,rfl,W2.more fD fm hz (by omega) nm sA e7' (s7' _ _ e6') (by rw [List.length_append]; simp; omega) nc0,by rw [List.length_append]; omega,e0,List.mem_append_left _ he0,ee0⟩
     ·exact ⟨wts,wes,ms,kvs,_,_,_,rfl,W2,h2,e0,he0,ee0⟩
    ·rintro σ H6 ⟨wts,wes,ms,kvs,y7,y8,y9,rfl,W2,h2,_⟩
     exact ⟨_,rfl,_,_,rfl,rfl,wts,wes,ms,kvs,_,_,_,_,rfl,W2,h2⟩
  ·refine ⟨(by show 0≤sizeLine; decide),fun D9 hD9=>q D9 _ (W.sm.free hD9) (W.sm.trans (same_laid hD9 _)) upd_same⟩
end
end K11
namespace L2
open PySem
theorem comp_none {K:PySem.W.Frag} {H:Hp} {p D:Addr} {ls:List Addr} {σ:St} {x:Str} {Qp:Hp→Prop} (hp:H p=some (.lst (ls.map V.ref))) (hl:∀ l∈ls,H l=some (.lst [])) (hD:H D=none) (q:∀ H2,Same H H2→H2 D=some (.lst [])→Qp H2) :
  ∃ W:Nat→Nat→List V→St→Hp→Prop,(∃ m,W 0 m [] (capS [x] [] σ) (upd H D (.lst []))) ∧
 ∀ i m ys σ' H,W i m ys σ' H→((Itl K p).stop i H∧Qp H)∨((Itl K p).go i H∧∃ m',m' < m∧∀ x H',(Itl K p).yld i H x H'→gName 0 x σ' H' fun σ2 H2=>tVar 0 σ2 H2 fun x H'=>∃ k,TruV K x H' k∧(fun b H3 =>
  if b=true then tVar 0 σ2 H3 fun y H4=>H4 D=some (.lst ys)∧ys.length < sizeLine∧W (i+1) m' (ys++[y]) σ2 (upd H4 D (.lst (ys++[y]))) else W (i+1) m' ys σ2 H3) k H'):=by
 refine compG_list (tif:=fun σ H Q=>tVar 0 σ H fun x H'=>∃ k,TruV K x H' k∧Q k H') (xs:=ls.map V.ref) (fun i ys σ2 H5=>ys=[]∧(∃ y0,σ2=[y0])∧Same H H5∧H5 D=some (.lst [])) ⟨rfl,⟨none,rfl⟩,same_laid hD _,upd_same⟩ (fun i ys σ2 H5 _ h=>SqL.of (h.2.2.1 _ _ hp)) (fun i x ys σ2 H5 ex h=>?_) (fun ys σ2 H5 h=>?_)
 ·obtain ⟨rfl,⟨y0,rfl⟩,s5,e5⟩:=h
  rw [List.getElem?_map] at ex
  obtain ⟨l,el,rfl⟩:=Option.map_eq_some_iff.mp ex
  refine goN ?_
  refine ⟨_,rfl,false,.inl ⟨[],SqL.of (s5 _ _ (hl l (List.mem_of_getElem? el))),rfl⟩,?_⟩
  refine iteF ?_
  exact ⟨rfl,⟨_,rfl⟩,s5,e5⟩
 ·obtain ⟨rfl,_,s5,e5⟩:=h
  exact q H5 s5 e5
end L2
namespace K11
open PySem L2 M11
section
variable {P:Program} {w:World} {K:PySem.W.Frag} {mg:Str→Option Value} {base:Heap} {f:Addr} {fd:FuncData}
def NoLoop (rules:List Rule) (rk:Str→Nat):Prop:=∀ ets,Emp rules ets→EmpC rules rules.length ets→∀ n k j,Hit rules (hd rules) (fun z=>decide (z∈ets.map (·.1))) n k j→∀ ru z,rules[k]?=some ru→ru.2[j]?=some z→rk z < rk n
def spLoop (K:PySem.W.Frag):Sp:=fun vs H Q _=>∃ (R:Addr) (rs:List Addr) (rules:List Rule) (rk:Str→Nat),vs=[.ref R]∧SqL K H R (rs.map V.ref)∧Rules K H rs rules∧rules.length≤1000∧(∀ ru∈rules,ru.2.length≤8)∧NoLoop rules rk ∧
 ∀ (D:Addr) (H':Hp),H D=none→Same H H'→H' D=some (.lst [])→Q (.ref D) H'
theorem scLoop:FnScope ["rules","steps","loops"] ["rules"] (defScope sLoop):=⟨rfl,rfl,rfl,by decide +kernel,rfl,by decide +kernel,by decide +kernel⟩
theorem ok_loop (F:Fun K "find_loop" "find_loop" sLoop f fd) (T:Txt mg) (GS:CalleeD P w K mg base 2 "steps_with_like_rows" ["rules"] (spSteps K)) (GW:CalleeD P w K mg base 1 "way_back" ["rules","steps","name"] (spWay K)):FnOk P w K mg base CX0 3 f fd ["rules"] (spLoop K):=by
 refine F.ok scLoop (fun vs H Q E h=>?_) (fun cdv A outer s H vs Q E hr h=>?_)
 ·obtain ⟨R,rs,rules,rk,rfl,_⟩:=h; rfl
 ·obtain ⟨R,rs,rules,rk,rfl,hR,hrl,hlen,h8,hnl,q⟩:=h
  refine ⟨_,pss_cons (ps_set (i:=1) scLoop.nd rfl (Or.inr rfl) (pe_fn GS hr rfl (pa_cons (pv 0) pa_nil)))
   (pss_cons (ps_setC (iy:=2) ["name"] [(0,"rules"),(1,"steps")] scLoop.nd rfl rfl rfl (pi_dict (pv 1)) (caps_of rfl rfl) (by decide +kernel) rfl (by decide +kernel)
    (fun _ _ _ _ _=>pg_name (i:=0) (show (["name","rules","steps"]:List Str).Nodup by decide +kernel) rfl (Or.inl rfl)) (fun _ _ _ _ _=>pif_nil)
    (fun _ _ _ _ _=>pe_fn (GW.mono (by decide:1≤2)) hr rfl (pa_cons (pv 1) (pa_cons (pv 2) (pa_cons (pv 0) pa_nil)))))
   (pss_one (ps_ret (pe_min0 rfl rfl T.min rfl T.len (pa_cons (pe_compG ["loop"] [] rfl (pi_list (pv 2)) (caps_of rfl rfl) (by decide +kernel) rfl (by decide +kernel)
    (fun _ _ _ _ _=>pg_name (i:=0) (show (["loop"]:List Str).Nodup by decide +kernel) rfl (Or.inl rfl)) (fun _ _ _ _ _=>pif_one (pt_truthK K (pv 0) (fun _=>rfl))) (fun _ _ _ _ _=>pv 0)) pa_nil) (pe_lst pa_nil))))),?_⟩
  refine ⟨_,rfl,R,rs,rules,rfl,hR,hrl,hlen,h8,fun d ps st ets H1 fd1 s1 e1 S1 m1 fps emp empc hits=>?_⟩
  have lps:ps.length≤1000:=by
   have h1:=congrArg List.length m1
   have h2:=ded_len (rules.map (·.1)) []
   simp only [List.length_nil,List.length_map] at h2
   rw [List.length_map] at h1
   have h3:(hd rules).length=(ded [] (rules.map (·.1))).length:=rfl
   omega
  have hdn:Down rules (ps.map (·.1)) st rk:=fun n hn e he=>by
   rw [m1] at hn ⊢
   have hit:=(hits n e.1 e.2 hn).mp he
   obtain ⟨ru,z,er,_,ez,hz,_⟩:=id hit
   exact ⟨ru,z,er,ez,hz,hnl ets emp empc n e.1 e.2 hit ru z er ez⟩
  refine ⟨_,rfl,d,_,rfl,e1,fun o D hD=>?_⟩
  have nps:∀ p∈ps,p.2≠d:=fun p hp z=>by
   obtain ⟨ts,a,_⟩:=S1.lst p hp
   rw [z,e1] at a; cases a
  have s2:Same H (upd H1 d (.frz o (.dK (ps.map kvA)))):=fun b u hb=>by
   rw [upd_ne (fun z=>by rw [z,fd1] at hb; cases hb)]
   exact s1 b u hb
  have S2:StV K ps st (upd H1 d (.frz o (.dK (ps.map kvA)))) d:=⟨.inr ⟨o,upd_same⟩,S1.n1,S1.n2,fun p hp=>by
   obtain ⟨ts,a,b⟩:=S1.lst p hp
   exact ⟨ts,by rw [upd_ne (nps p hp)]; exact a,Paired.mapP b fun _ _ z=>sqt_updK e1 z⟩⟩
  have e2:upd H1 d (.frz o (.dK (ps.map kvA))) d=some (.frz o (.dK (ps.map kvA))):=upd_same
  generalize upd H1 d (.frz o (.dK (ps.map kvA)))=H2 at hD s2 S2 e2 ⊢
  refine compG_dict (fun i ys σ2 H3=>∃ ls:List Addr,ys=ls.map V.ref∧ls.length=i∧(∀ l∈ls,H3 l=some (.lst [])∧l≠D)∧(∃ y0,σ2=[y0,some (.ref R),some (.ref d)])∧Same H2 H3∧H3 D=some (.lst ys))
   ⟨[],rfl,rfl,by simp,⟨none,rfl⟩,same_laid hD _,upd_same⟩ (fun i ys σ2 H3 _ h=>?_) (fun i kv ys σ2 H3 ex h=>?_) (fun ys σ2 H3 h=>?_)
  ·obtain ⟨_,_,_,_,_,sm,_⟩:=h
   exact sm _ _ e2
  ·obtain ⟨ls,rfl,hls,hl,⟨y0,rfl⟩,sm,hd3⟩:=h
   rw [List.getElem?_map] at ex
   obtain ⟨p,ep,rfl⟩:=Option.map_eq_some_iff.mp ex
   have hp:=List.mem_of_getElem? ep
   have li:=(List.getElem?_eq_some_iff.mp ep).1
   refine goN (goT ?_)
   have s3:=s2.trans sm
   refine ⟨_,rfl,_,rfl,_,rfl,R,d,rs,rules,ps,st,p.1,rk,rfl,s3.seq hR,hrl.same s3,hlen,S2.same sm,lps,List.mem_map_of_mem hp,hdn,fun D4 H4 f4 s4 e4=>?_⟩
   have hd4:=s4 _ _ hd3
   have nD4:D4≠D:=fun z=>by rw [z,hd3] at f4; cases f4
   refine ⟨hd4,fits' (by rw [List.length_map]; omega),ls++[D4],by rw [List.map_append]; rfl,by rw [List.length_append,hls]; rfl,fun l hl'=>?_,⟨_,rfl⟩,fun b u hb=>?_,upd_same⟩
   ·rcases List.mem_append.mp hl' with h | h
    ·obtain ⟨a1,a2⟩:=hl l h
     exact ⟨by rw [upd_ne a2]; exact s4 _ _ a1,a2⟩
    ·rw [List.mem_singleton.mp h]
     exact ⟨by rw [upd_ne nD4]; exact e4,nD4⟩
   ·rw [upd_ne (fun z=>by rw [z,hD] at hb; cases hb)]
    exact s4 _ _ (sm b u hb)
  ·obtain ⟨ls,rfl,hls,hl,_,sm,hd3⟩:=h
   have s3:=s2.trans sm
   refine ⟨_,rfl,D,rfl,⟨_,SqL.of hd3⟩,fun D5 hD5=>?_⟩
   refine comp_none hd3 (fun l hl'=>(hl l hl').1) hD5 fun H5 s5 e5=>?_
   refine ⟨(by show 0≤sizeLine; decide),fun D6 hD6=>⟨D5,rfl,SqL.of (same_laid hD6 _ _ _ e5),?_⟩⟩
   exact q D6 _ ((s3.trans s5).free hD6) ((s3.trans s5).trans (same_laid hD6 _)) upd_same
end
end K11
namespace L2
open PySem
theorem tupTT {K:PySem.W.Frag} {T:Addr} {pos:Pos} {qu:Str} {H H':Hp} {a:Addr} {xs:List V} (s:SameT T H H') (t:Tab T pos qu H) (h:SqT K H a xs):SqT K H' a xs:=by
 obtain ⟨ps,b,_⟩:=t
 rcases h with (h | ⟨u,h⟩) | h
 ·exact .inl (.inl (s _ _ (fun z=>by rw [z,b] at h; cases h) h))
 ·exact .inl (.inr ⟨u,s _ _ (fun z=>by rw [z,b] at h; cases h) h⟩)
 ·exact .inr h
theorem seqTT {K:PySem.W.Frag} {T:Addr} {pos:Pos} {qu:Str} {H H':Hp} {a:Addr} {xs:List V} (s:SameT T H H') (t:Tab T pos qu H) (h:SqL K H a xs):SqL K H' a xs:=by
 obtain ⟨ps,b,_⟩:=t
 rcases h with (h | ⟨u,h⟩) | h
 ·exact .inl (.inl (s _ _ (fun z=>by rw [z,b] at h; cases h) h))
 ·exact .inl (.inr ⟨u,s _ _ (fun z=>by rw [z,b] at h; cases h) h⟩)
 ·exact .inr h
theorem tabTT {T T':Addr} {pos pos':Pos} {qu qu':Str} {H H':Hp} (s:SameT T H H') (t:Tab T pos qu H) (h:Tab T' pos' qu' H) (n:T'≠T):Tab T' pos' qu' H':=by
 obtain ⟨ps,b,_⟩:=t
 obtain ⟨ps',a,o,c⟩:=h
 refine ⟨ps',s _ _ n a,o,c.imp id ?_⟩
 rintro ⟨c',e,g⟩
 exact ⟨c',e,s _ _ (fun z=>by rw [z,b] at g; cases g) g⟩
theorem comp_rej {K:PySem.W.Frag} {H:Hp} {p D:Addr} {zs:List Str} {σ:St} {js:List (Nat×Str)} {cs:List (Option V)} {tif:TT} {te:TE} {Qp:Hp→Prop} (hσ:capS ["name"] js σ=none::cs) (hp:SqL K H p (zs.map V.str)) (hD:H D=none)
  (ht:∀ z∈zs,∀ H2 Q,Same H H2→Q false H2→tif (some (.str z)::cs) H2 Q) (q:∀ H2,Same H H2→H2 D=some (.lst [])→Qp H2) :
  ∃ W:Nat→Nat→List V→St→Hp→Prop,(∃ m,W 0 m [] (capS ["name"] js σ) (upd H D (.lst []))) ∧
 ∀ i m ys σ' H,W i m ys σ' H→((Itl K p).stop i H∧Qp H)∨((Itl K p).go i H∧∃ m',m' < m∧∀ x H',(Itl K p).yld i H x H'→gName 0 x σ' H' fun σ2 H2=>tif σ2 H2 fun b H3 =>
  if b=true then te σ2 H3 fun y H4=>H4 D=some (.lst ys)∧ys.length < sizeLine∧W (i+1) m' (ys++[y]) σ2 (upd H4 D (.lst (ys++[y]))) else W (i+1) m' ys σ2 H3):=by
 refine compG_list (xs:=zs.map V.str) (fun i ys σ2 H5=>ys=[]∧(∃ y0,σ2=y0::cs)∧Same H H5∧H5 D=some (.lst [])) ⟨rfl,⟨none,hσ⟩,same_laid hD _,upd_same⟩ (fun i ys σ2 H5 _ h=>h.2.2.1.seq hp) (fun i x ys σ2 H5 ex h=>?_) (fun ys σ2 H5 h=>?_)
 ·obtain ⟨rfl,⟨y0,rfl⟩,s5,e5⟩:=h
  rw [List.getElem?_map] at ex
  obtain ⟨z,ez,rfl⟩:=Option.map_eq_some_iff.mp ex
  refine goN ?_
  refine ht z (List.mem_of_getElem? ez) H5 _ s5 ?_
  refine iteF ?_
  exact ⟨rfl,⟨_,rfl⟩,s5,e5⟩
 ·obtain ⟨rfl,_,s5,e5⟩:=h
  exact q H5 s5 e5
end L2
namespace K11
open PySem L2 M11
section
variable {P:Program} {w:World} {K:PySem.W.Frag} {mg:Str→Option Value} {base:Heap} {f:Addr} {fd:FuncData}
structure Good (rules:List Rule) (rk:Str→Nat) (b:Str→Int):Prop where
 least:∀ g,Steps M11.bl rules (g0L rules) g→Settled M11.bl rules g→∀ h∈hd rules,∃ n,g h=some n∧n≤60
 met:∀ ru0 ms,rules[0]?=some ru0→ru0.1∈ms→MetC rules rules.length ms→∀ h∈hd rules,h∈ms
 loop:NoLoop rules rk
 bnd:BndOk rules b
 most:∀ h∈hd rules,b h≤60
def Same2 (T1 T2:Addr) (H H':Hp):Prop:=∀ b o,b≠T1→b≠T2→H b=some o→H' b=some o
def spRefuse (K:PySem.W.Frag) (T1 T2:Addr):Sp:=fun vs H Q _=>∃ (R S:Addr) (rs ss:List Addr) (rules str:List Rule) (rk:Str→Nat) (b:Str→Int),vs=[.ref R,.ref S]∧SqL K H R (rs.map V.ref)∧Rules K H rs rules∧rules.length≤1000∧(∀ ru∈rules,ru.2.length≤8)∧rules≠[] ∧
 SqL K H S (ss.map V.ref)∧Rules K H ss str∧str.length≤1000∧(∀ ru∈str,ru.2.length≤8)∧(str.flatMap (·.2)).Nodup∧Good rules rk b∧Tab T1 lmL.2.2.2 lqL H∧Tab T2 lmG.2.2.2 lqG H∧T1≠T2 ∧
 ∀ H',Same2 T1 T2 H H'→Tab T1 lmL.2.2.2 lqL H'→Tab T2 lmG.2.2.2 lqG H'→Q .non H'
theorem scRefuse:FnScope ["rules","strengths","least","endless","met","unmet","steps","greatest","vast"] ["rules","strengths"] (defScope sRefuse):=⟨rfl,rfl,rfl,by decide +kernel,rfl,by decide +kernel,by decide +kernel⟩
theorem ok_refuse {T1 T2:Addr} {tm:Tok} (F:Fun K "refuse_faults" "refuse_faults" sRefuse f fd) (T:Txt mg) (hM:mg "MOST_RULES"=some (.int 60 tm)) (GT:CalleeD P w K mg base 1 "refuse_twice" ["strengths"] (spTwice K)) (GL:CalleeD P w K mg base 3 "least_sizes" ["rules"] (spLeast K T1))
  (GH:CalleeD P w K mg base 1 "heads_of" ["rules"] (spHeads K)) (GM:CalleeD P w K mg base 1 "names_met" ["rules"] (spMet K)) (GF:CalleeD P w K mg base 3 "find_loop" ["rules"] (spLoop K)) (GG:CalleeD P w K mg base 3 "greatest_empty_sizes" ["rules"] (spGreat K T2)) :
  FnOk P w K mg base CX0 4 f fd ["rules","strengths"] (spRefuse K T1 T2):=by
 refine F.ok scRefuse (fun vs H Q E h=>?_) (fun cdv A outer s H vs Q E hr h=>?_)
 ·obtain ⟨R,S,rs,ss,rules,str,rk,b,rfl,_⟩:=h; rfl
 ·obtain ⟨R,S,rs,ss,rules,str,rk,b,rfl,hR,hrl,hlen,h8,hne,hS,hsl,hsn,hs8,hsd,gd,hT1,hT2,nT,q⟩:=h
  have hu:=hu_of hr
  refine ⟨_,pss_cons (ps_if (pt_not (pt_truth (pv 0) (fun _=>rfl))) (pss_one ps_never) pss_nil)
   (pss_cons (ps_expr (pe_fn (GT.mono (by decide:1≤3)) hr rfl (pa_cons (pv 1) pa_nil)))
   (pss_cons (ps_set (i:=2) scRefuse.nd rfl (Or.inr rfl) (pe_fn GL hr rfl (pa_cons (pv 0) pa_nil)))
   (pss_cons (ps_setC (iy:=3) ["name"] [(2,"least")] scRefuse.nd rfl rfl rfl (pi_list (pe_fn (GH.mono (by decide:1≤3)) hr rfl (pa_cons (pv 0) pa_nil))) (caps_of rfl rfl) (by decide +kernel) rfl (by decide +kernel)
    (fun _ _ _ _ _=>pg_name (i:=0) (show (["name","least"]:List Str).Nodup by decide +kernel) rfl (Or.inl rfl)) (fun _ _ _ _ _=>pif_one (pt_cmp (pc_dnotin hu (pv 0) (pv 1)))) (fun _ _ _ _ _=>pv 0))
   (pss_cons (ps_if (pt_truth (pv 3) (fun _=>rfl)) (pss_one ps_never) pss_nil)
   (pss_cons (ps_set (i:=4) scRefuse.nd rfl (Or.inr rfl) (pe_fn (GM.mono (by decide:1≤3)) hr rfl (pa_cons (pv 0) pa_nil)))
   (pss_cons (ps_setC (iy:=5) ["name"] [(4,"met")] scRefuse.nd rfl rfl rfl (pi_list (pe_fn (GH.mono (by decide:1≤3)) hr rfl (pa_cons (pv 0) pa_nil))) (caps_of rfl rfl) (by decide +kernel) rfl (by decide +kernel)
    (fun _ _ _ _ _=>pg_name (i:=0) (show (["name","met"]:List Str).Nodup by decide +kernel) rfl (Or.inl rfl)) (fun _ _ _ _ _=>pif_one (pt_cmp (pc_dnotin hu (pv 0) (pv 1)))) (fun _ _ _ _ _=>pv 0))
   (pss_cons (ps_if (pt_truth (pv 5) (fun _=>rfl)) (pss_one ps_never) pss_nil)
   (pss_cons (ps_set (i:=6) scRefuse.nd rfl (Or.inl rfl) (pe_fn GF hr rfl (pa_cons (pv 0) pa_nil)))
   (pss_cons (ps_if (pt_truth (pv 6) (fun _=>rfl)) (pss_one ps_never) pss_nil)
   (pss_cons (ps_set (i:=7) scRefuse.nd rfl (Or.inr rfl) (pe_fn GG hr rfl (pa_cons (pv 0) pa_nil)))
   (pss_cons (ps_setC (iy:=8) ["name"] [(2,"least"),(7,"greatest")] scRefuse.nd rfl rfl rfl (pi_list (pe_fn (GH.mono (by decide:1≤3)) hr rfl (pa_cons (pv 0) pa_nil))) (caps_of rfl rfl) (by decide +kernel) rfl (by decide +kernel)
    (fun _ _ _ _ _=>pg_name (i:=0) (show (["name","least","greatest"]:List Str).Nodup by decide +kernel) rfl (Or.inl rfl)) (fun _ _ _ _ _=>pif_one (pt_cmpR op_gt (pe_callB (call_max2 rfl) rfl T.max PyProof.Rows.boot_max (pa_cons (pe_dget hu (pv 1) (pv 0) (fun _ _=>rfl)) (pa_cons (pe_dget2 hu (pv 2) (pv 0) pe_int ⟨rfl,rfl,rfl,rfl⟩) pa_nil))) (pe_glob (v:=.int 60) rfl hM ⟨tm,rfl⟩) (nomark _))) (fun _ _ _ _ _=>pv 0))
   (pss_one (ps_if (pt_truth (pv 8) (fun _=>rfl)) (pss_one ps_never) pss_nil))))))))))))),?_⟩
  have ll:=Paired.length hrl
  obtain ⟨ru0,hr0⟩:∃ ru0,rules[0]?=some ru0:=by
   cases rules with
   | nil=>exact absurd rfl hne
   | cons a r=>exact ⟨a,rfl⟩
  have eR:(rs.map V.ref).isEmpty=false:=by
   have l0:=(List.getElem?_eq_some_iff.mp hr0).1
   cases rs with
   | nil=>simp at ll; omega
   | cons a r=>rfl
  refine ⟨_,rfl,true,.inl ⟨_,hR,by rw [eR]; rfl⟩,?_⟩
  refine iteF ?_
  refine ⟨_,rfl,S,ss,str,rfl,hS,hsl,hsn,hs8,hsd,fun H1 s1=>?_⟩
  have t11:=hT1.same s1
  have t21:=hT2.same s1
  refine ⟨_,rfl,R,rs,rules,rfl,s1.seq hR,hrl.same s1,hlen,h8,t11,fun dl kl ksl gl H2 fl s2 t12 el kkl vl stl sel _=>?_⟩
  have hR2:=seqTT s2 t11 (s1.seq hR)
  have hrl2:=(hrl.same s1).keep fun _ _ z=>tupTT s2 t11 z
  have t22:=tabTT s2 t11 t21 nT.symm
  have hl:=gd.least gl stl sel
  have S02:Same2 T1 T2 H H2:=fun b o n1 _ hb=>s2 b o n1 (s1 b o hb)
  refine ⟨_,rfl,R,rs,rules,rfl,hR2,hrl2,hlen,fun D3 H3 f3 s3 e3=>⟨D3,rfl,⟨_,SqL.of e3⟩,fun D4 hD4=>comp_rej rfl (SqL.of e3) hD4 (fun z hz H' Q' s' hQ=>?_) fun H4 s4 e4=>?_⟩⟩
  ·obtain ⟨n,en,_⟩:=hl z hz
   have hg:DGet H' dl (.str z) (some (.int n)):=by
    have:=DGet.k (k:=Sum.inr z) (s' _ _ (s3 _ _ el))
    rw [vl,en] at this
    exact this
   exact ⟨_,rfl,_,rfl,dl,_,rfl,hg,_,rfl,hQ⟩
  refine ⟨_,rfl,false,.inl ⟨[],SqL.of e4,rfl⟩,?_⟩
  refine iteF ?_
  have s24:=s3.trans s4
  refine ⟨_,rfl,R,rs,rules,ru0,rfl,s24.seq hR2,hrl2.same s24,hr0,hlen,h8,fun dm km ms H5 f5 s5 em kkm st5 _ mc5=>?_⟩
  have s25:=s24.trans s5
  refine ⟨_,rfl,R,rs,rules,rfl,s25.seq hR2,hrl2.same s25,hlen,fun D6 H6 f6 s6 e6=>⟨D6,rfl,⟨_,SqL.of e6⟩,fun D7 hD7=>comp_rej rfl (SqL.of e6) hD7 (fun z hz H' Q' s' hQ=>?_) fun H7 s7 e7=>?_⟩⟩
  ·have hm:=gd.met ru0 ms hr0 st5 mc5 z hz
   have hv:(valV km (Sum.inr z)).isSome=true:=by rw [val_mem,kkm]; exact inr_mem.mpr hm
   refine ⟨_,rfl,_,rfl,dm,_,rfl,DGet.k (k:=Sum.inr z) (s' _ _ (s6 _ _ em)),_,rfl,?_⟩
   rw [hv]
   exact hQ
  refine ⟨_,rfl,false,.inl ⟨[],SqL.of e7,rfl⟩,?_⟩
  refine iteF ?_
  have s27:=(s25.trans s6).trans s7
  refine ⟨_,rfl,R,rs,rules,rk,rfl,s27.seq hR2,hrl2.same s27,hlen,h8,gd.loop,fun D8 H8 f8 s8 e8=>?_⟩
  refine ⟨_,rfl,false,.inl ⟨[],SqL.of e8,rfl⟩,?_⟩
  refine iteF ?_
  have s28:=s27.trans s8
  have t18:=t12.same s28
  have t28:=t22.same s28
  refine ⟨_,rfl,R,rs,rules,b,rfl,s28.seq hR2,hrl2.same s28,hlen,h8,gd.bnd,t28,fun dg kg ksg gg H9 f9 s9 t29 eg kkg vg jg _ _=>?_⟩
  have hR9:=seqTT s9 t28 (s28.seq hR2)
  have hrl9:=(hrl2.same s28).keep fun _ _ z=>tupTT s9 t28 z
  have t19:=tabTT s9 t28 t18 nT
  have el8:=s28 _ _ el
  have el9:=s9 _ _ (fun z=>by obtain ⟨ps,a,_⟩:=t28; rw [← z,el8] at a; cases a) el8
  refine ⟨_,rfl,R,rs,rules,rfl,hR9,hrl9,hlen,fun D10 H10 f10 s10 e10=>⟨D10,rfl,⟨_,SqL.of e10⟩,fun D11 hD11=>comp_rej rfl (SqL.of e10) hD11 (fun z hz H' Q' s' hQ=>?_) fun H11 s11 e11=>?_⟩⟩
  ·obtain ⟨n,en,hn60⟩:=hl z hz
   have hg1:DGet H' dl (.str z) (some (.int n)):=by
    have:=DGet.k (k:=Sum.inr z) (s' _ _ (s10 _ _ el9))
    rw [vl,en] at this
    exact this
   have eg':=s' _ _ (s10 _ _ eg)
   obtain ⟨v,hv1,hv2⟩:∃ v:Int,((gg z).map V.int).getD (.int 0)=.int v∧v≤60:=by
    cases e:gg z with
    | none=>exact ⟨0,rfl,by decide⟩
    | some v=>exact ⟨v,rfl,Int.le_trans (jg z v e).2.1 (gd.most z hz)⟩
   have hg2:DGet H' dg (.str z) ((gg z).map V.int):=by
    have:=DGet.k (k:=Sum.inr z) eg'
    rw [vg] at this
    exact this
   refine ⟨_,rfl,_,rfl,dl,_,rfl,hg1,_,rfl,dg,rfl,.inl ⟨_,.inl eg'⟩,_,rfl,_,hg2,?_⟩
   rw [hv1]
   refine ⟨n,v,rfl,_,_,rfl,rfl,_,rfl,?_⟩
   rw [decide_eq_false (by split <;> omega)]
   exact hQ
  refine ⟨_,rfl,false,.inl ⟨[],SqL.of e11,rfl⟩,?_⟩
  refine iteF ?_
  have s911:=s10.trans s11
  exact q H11 (fun c o n1 n2 hc=>s911 c o (s9 c o n2 (s28 c o (S02 c o n1 n2 hc)))) (t19.same s911) (t29.same s911)
end
end K11
namespace M11
open PySem L2
abbrev Be:=Str×Str×Nat×Nat
def prs (bes:List Be):List (Str×Str):=bes.map fun b=>(b.1,b.2.1)
def fwOf (bes:List Be) (n:Str):List Str:=(bes.filter fun b=>decide (b.1=n)).map (·.2.1)
def wdsP (names:List Str) (bes:List Be) (z:Str):List Str:=if z∈names then fwOf bes z else [z]
inductive Beg (rules:List Rule) (names:List Str) (b:Str→Bool):List Be→Prop
 | nil:Beg rules names b []
 | snoc {bes:List Be} {k j:Nat} {ru:Rule} {z w:Str}:Beg rules names b bes→rules[k]?=some ru→ru.2[j]?=some z→j < fpN b ru.2→w∈wdsP names bes z→(ru.1,w)∉prs bes→Beg rules names b (bes++[(ru.1,w,k,j)])
theorem fw_mem {bes:List Be} {n w:Str}:w∈fwOf bes n↔(n,w)∈prs bes:=by
 unfold fwOf prs
 rw [List.mem_map,List.mem_map]
 constructor
 ·rintro ⟨b,hb,rfl⟩
  obtain ⟨h1,h2⟩:=List.mem_filter.mp hb
  exact ⟨b,h1,by rw [of_decide_eq_true h2]⟩
 ·rintro ⟨b,hb,e⟩
  cases e
  exact ⟨b,List.mem_filter.mpr ⟨hb,decide_eq_true rfl⟩,rfl⟩
theorem fw_snoc (bes:List Be) (b:Be) (n:Str):fwOf (bes++[b]) n=fwOf bes n++(if b.1=n then [b.2.1] else []):=by
 unfold fwOf
 rw [List.filter_append,List.map_append]
 by_cases c:b.1=n
 ·rw [if_pos c]; simp [c]
 ·rw [if_neg c]; simp [c]
end M11
namespace K11
open PySem L2 M11
def clsBody:Stmt→List Stmt
 | .ClassDef _ _ _ b _ _ _ _ _ _ _=>b
 | _=>[]
abbrev mAt (st:Stmt) (i:Nat):Stmt:=(clsBody st).getD i (.Pass ⟨0,0,0,0⟩)
abbrev sBInit:Stmt:=mAt sBegin 0
abbrev sFind:Stmt:=mAt sBegin 1
abbrev sPartW:Stmt:=mAt sBegin 2
abbrev sGInit:Stmt:=mAt sGrammar 0
abbrev sStart:Stmt:=mAt sGrammar 1
section
variable {P:Program} {w:World} {K:PySem.W.Frag} {mg:Str→Option Value} {base:Heap} {f:Addr} {fd:FuncData}
structure BC (K:PySem.W.Frag) (C:Addr):Prop where
 cls:Cls K C
 a1:NoAttr K C "empties"
 a2:NoAttr K C "empty"
 a3:NoAttr K C "begins"
 a4:NoAttr K C "firsts"
structure BSt (K:PySem.W.Frag) (C:Addr) (H0 H:Hp) (a e d bg:Addr) (kE:List (Key×V)) (ets:List (Str×Nat)) (ps:List (Str×Addr)) (bes:List Be):Prop where
 sm:Same H0 H
 ia:∃ dx fs,H a=some (.ins C dx fs)∧fs.lookup ("empty":Str)=some (.ref e)∧fs.lookup ("begins":Str)=some (.ref bg)∧fs.lookup ("firsts":Str)=some (.ref d)∧fs.lookup ("find_begins":Str)=none∧fs.lookup ("words_of_part":Str)=none
 he:H e=some (.dK kE)
 hd:H d=some (.dK (ps.map kvA))
 n1:(ps.map (·.1)).Nodup
 n2:(ps.map (·.2)).Nodup
 dk:∀ p∈ps,(∃ kvs,H p.2=some (.dK kvs)∧kvs.map (·.1)=(fwOf bes p.1).map Sum.inr)∧H0 p.2=none∧p.2≠e∧p.2≠d
 lb:∃ ts,H bg=some (.lst (ts.map V.ref))∧Paired (fun t (b:Be)=>SqT K H t [.str b.1,.str b.2.1,.int (b.2.2.1:Int),.int (b.2.2.2:Int)]) ts bes
 fb:H0 bg=none
 em:∃ e1 ts,(∃ dx fs,H a=some (.ins C dx fs)∧fs.lookup ("empties":Str)=some (.ref e1))∧H e1=some (.lst (ts.map V.ref))∧EtsV K H ts ets∧e1≠bg
theorem BSt.same {C:Addr} {H0 H H':Hp} {a e d bg:Addr} {kE:List (Key×V)} {ets:List (Str×Nat)} {ps:List (Str×Addr)} {bes:List Be} (h:BSt K C H0 H a e d bg kE ets ps bes) (s:Same H H'):BSt K C H0 H' a e d bg kE ets ps bes:=by
 refine ⟨h.sm.trans s,?_,s _ _ h.he,s _ _ h.hd,h.n1,h.n2,fun p hp=>?_,?_,h.fb,?_⟩
 ·obtain ⟨dx,fs,q,r⟩:=h.ia
  exact ⟨dx,fs,s _ _ q,r⟩
 ·obtain ⟨⟨kvs,q,r⟩,t⟩:=h.dk p hp
  exact ⟨⟨kvs,s _ _ q,r⟩,t⟩
 ·obtain ⟨ts,q,r⟩:=h.lb
  exact ⟨ts,s _ _ q,Paired.mapP r fun _ _ z=>s.tup z⟩
 ·obtain ⟨e1,ts,⟨dx,fs,q1,q2⟩,q3,q4,q5⟩:=h.em
  exact ⟨e1,ts,⟨dx,fs,s _ _ q1,q2⟩,s _ _ q3,q4.keep fun _ _ z=>s.tup z,q5⟩
def spPartW (K:PySem.W.Frag) (C:Addr):Sp:=fun vs H Q _=>∃ (H0:Hp) (a e d bg:Addr) (kE:List (Key×V)) (ets:List (Str×Nat)) (ps:List (Str×Addr)) (bes:List Be) (z:Str),vs=[.ref a,.str z]∧BSt K C H0 H a e d bg kE ets ps bes ∧
 ∀ (D:Addr) (H':Hp),H D=none→Same H H'→H' D=some (.lst ((wdsP (ps.map (·.1)) bes z).map V.str))→Q (.ref D) H'
theorem scPartW:FnScope ["self","part"] ["self","part"] (defScope sPartW):=⟨rfl,rfl,rfl,by decide +kernel,rfl,by decide +kernel,by decide +kernel⟩
theorem ok_partW {C:Addr} (F:Fun K "words_of_part" "BeginTable.words_of_part" sPartW f fd) (T:Txt mg) (B:BC K C):FnOk P w K mg base CX0 1 f fd ["self","part"] (spPartW K C):=by
 refine F.ok scPartW (fun vs H Q E h=>?_) (fun cdv A outer s H vs Q E hr h=>?_)
 ·obtain ⟨H0,a,e,d,bg,kE,ets,ps,bes,z,rfl,_⟩:=h; rfl
 ·obtain ⟨H0,a,e,d,bg,kE,ets,ps,bes,z,rfl,S,q⟩:=h
  have hu:=hu_of hr
  obtain ⟨dx,fs,ea,f1,f2,f3,f4,f5⟩:=S.ia
  refine ⟨_,pss_one (ps_ret (pe_ifExp (pt_cmp (pc_din hu (pv 1) (pe_fld (pv 0) rfl))) (pe_callTy (call_listD rfl) rfl T.lst boot_lst (pa_cons (pe_dget hu (pe_fld (pv 0) rfl) (pv 1) (fun _ _=>rfl)) pa_nil)) (pe_lst (pa_cons (pv 1) pa_nil)))),?_⟩
  have mem:(valV (ps.map kvA) (Sum.inr z)).isSome=true↔z∈ps.map (·.1):=by rw [val_mem,keys_ps]; exact inr_mem
  refine ⟨_,rfl,_,rfl,a,C,dx,fs,_,rfl,ea,B.cls,B.a4,f3,d,_,rfl,DGet.k (k:=Sum.inr z) S.hd,_,rfl,?_⟩
  refine ite2 (fun c=>?_) (fun c=>?_)
  ·have hz:=mem.mp c
   obtain ⟨p,hp,ep⟩:=List.mem_map.mp hz
   obtain ⟨⟨kvs,hk,kk⟩,_⟩:=S.dk p hp
   have vn:=val_ps ps S.n1 p hp
   rw [ep] at vn
   have hg:DGet H d (.str z) (some (.ref p.2)):=by
    have:=DGet.k (k:=Sum.inr z) S.hd
    rw [vn] at this
    exact this
   refine ⟨_,rfl,a,C,dx,fs,_,rfl,ea,B.cls,B.a4,f3,_,rfl,d,_,rfl,hg,p.2,kvs,rfl,hk,fun D hD=>?_⟩
   refine q D _ hD (same_laid hD _) ?_
   rw [upd_same,keys_str kk,ep]
   unfold wdsP
   rw [if_pos hz]
  ·refine ⟨_,rfl,(by show 1≤sizeLine; decide),fun D hD=>?_⟩
   refine q D _ hD (same_laid hD _) ?_
   rw [upd_same]
   unfold wdsP
   rw [if_neg (fun h=>c (mem.mpr h))]
   rfl
end
end K11
namespace K11
open PySem L2 M11
section
variable {P:Program} {w:World} {K:PySem.W.Frag} {mg:Str→Option Value} {base:Heap} {f:Addr} {fd:FuncData}
theorem BSt.more {C:Addr} {H0 H H2:Hp} {a e d bg t:Addr} {kE kvs:List (Key×V)} {ets:List (Str×Nat)} {ps:List (Str×Addr)} {bes:List Be} {p:Str×Addr} {wd:Str} {k j:Nat} {ts:List Addr} (h:BSt K C H0 H a e d bg kE ets ps bes) (hp:p∈ps) (hk:H p.2=some (.dK kvs)) (kk:kvs.map (·.1)=(fwOf bes p.1).map Sum.inr)
  (hn:(p.1,wd)∉prs bes) (hb:H bg=some (.lst (ts.map V.ref))) (hbv:Paired (fun t (b:Be)=>SqT K H t [.str b.1,.str b.2.1,.int (b.2.2.1:Int),.int (b.2.2.2:Int)]) ts bes)
  (s:Same (upd H p.2 (.dK (putK kvs (Sum.inr wd) (.bl true)))) H2) (ht:SqT K H2 t [.str p.1,.str wd,.int (k:Int),.int (j:Int)]) :
  BSt K C H0 (upd H2 bg (.lst (ts.map V.ref++[.ref t]))) a e d bg kE ets ps (bes++[(p.1,wd,k,j)]):=by
 have nbp:bg≠p.2:=fun z=>by rw [z,hk] at hb; cases hb
 have hb2:H2 bg=some (.lst (ts.map V.ref)):=s _ _ (by rw [upd_ne nbp]; exact hb)
 obtain ⟨_,fp,npe,npd⟩:=h.dk p hp
 have up:∀ c o,c≠bg→c≠p.2→H c=some o→upd H2 bg (.lst (ts.map V.ref++[.ref t])) c=some o:=fun c o n1 n2 q=>by
  rw [upd_ne n1]
  exact s _ _ (by rw [upd_ne n2]; exact q)
 refine ⟨fun c o hc=>up c o (fun z=>by rw [z,h.fb] at hc; cases hc) (fun z=>by rw [z,fp] at hc; cases hc) (h.sm c o hc),?_,up _ _ (fun z=>by have:=h.he; rw [z,hb] at this; cases this) npe.symm h.he,up _ _ (fun z=>by have:=h.hd; rw [z,hb] at this; cases this) npd.symm h.hd,h.n1,h.n2,fun p' hp'=>?_,⟨ts++[t],by rw [upd_same,List.map_append]; rfl,?_⟩,h.fb,?_⟩
 ·obtain ⟨dx,fs,q,r⟩:=h.ia
  exact ⟨dx,fs,up _ _ (fun z=>by rw [z,hb] at q; cases q) (fun z=>by rw [z,hk] at q; cases q) q,r⟩
 ·obtain ⟨⟨kvs',q,r⟩,t'⟩:=h.dk p' hp'
  refine ⟨?_,t'⟩
  by_cases z:p'=p
  ·rw [z]
   refine ⟨putK kvs (Sum.inr wd) (.bl true),by rw [upd_ne nbp.symm]; exact s _ _ upd_same,?_⟩
   rw [put_out (by rw [kk]; exact fun q=>hn (fw_mem.mp (inr_mem.mp q))),kk,fw_snoc,if_pos rfl,List.map_append]
   rfl
  ·have n1:p'.1≠p.1:=fun q'=>z (by
    have w1:=val_ps ps h.n1 p' hp'
    have w2:=val_ps ps h.n1 p hp
    rw [q',w2] at w1
    injection w1 with w3
    injection w3 with w4
    exact Prod.ext q' w4.symm)
   have n2:p'.2≠p.2:=fun q'=>by
    obtain ⟨i,hi,ei⟩:=List.mem_iff_getElem.mp hp'
    obtain ⟨j',hj,ej⟩:=List.mem_iff_getElem.mp hp
    have hij:i=j':=by
     refine (List.getElem_inj (xs:=ps.map (·.2)) (h₀:=by simpa using hi) (h₁:=by simpa using hj) h.n2).mp ?_
     rw [List.getElem_map,List.getElem_map,ei,ej]; exact q'
    subst hij
    exact z (ei.symm.trans ej)
   refine ⟨kvs',up _ _ (fun z=>by rw [z,hb] at q; cases q) n2 q,?_⟩
   rw [r,fw_snoc,if_neg (fun q'=>n1 q'.symm),List.append_nil]
 ·exact Paired.snoc (Paired.mapP hbv fun _ _ z=>sqt_upd hb2 (s.tup (sqt_updK hk z))) (sqt_upd hb2 ht)
 ·obtain ⟨e1,te,⟨dx,fs,q1,q2⟩,q3,q4,q5⟩:=h.em
  exact ⟨e1,te,⟨dx,fs,up _ _ (fun z=>by rw [z,hb] at q1; cases q1) (fun z=>by rw [z,hk] at q1; cases q1) q1,q2⟩,up _ _ q5 (fun z=>by rw [z,hk] at q3; cases q3) q3,q4.keep fun _ _ z=>sqt_upd hb2 (s.tup (sqt_updK hk z)),q5⟩
theorem fw_app (l m:List Be) (n:Str):fwOf (l++m) n=fwOf l n++fwOf m n:=by
 unfold fwOf
 rw [List.filter_append,List.map_append]
theorem wds_app {names:List Str} (l m:List Be) {z x:Str} (h:x∈wdsP names l z):x∈wdsP names (l++m) z:=by
 unfold wdsP at h ⊢
 split
 ·rename_i c
  rw [if_pos c] at h
  rw [fw_app]; exact List.mem_append_left _ h
 ·rename_i c
  rw [if_neg c] at h
  exact h
theorem fw_len (bes:List Be) (n:Str):(fwOf bes n).length≤bes.length:=by
 unfold fwOf
 rw [List.length_map]
 exact List.length_filter_le _ _
theorem cnt_at {n i:Nat} (h:i < n):(cnt n)[i]?=some (.int (i:Int)):=by
 unfold cnt
 rw [List.getElem?_map,List.getElem?_range h]; rfl
theorem cnt_len (n:Nat):(cnt n).length=n:=by unfold cnt; rw [List.length_map,List.length_range]
def spFind (K:PySem.W.Frag) (C:Addr):Sp:=fun vs H Q _=>∃ (H0:Hp) (a e d bg r:Addr) (kE:List (Key×V)) (ets:List (Str×Nat)) (ps:List (Str×Addr)) (bes:List Be) (k:Nat) (ru:Rule) (rules:List Rule),vs=[.ref a,.int (k:Int),.ref r]∧BSt K C H0 H a e d bg kE ets ps bes∧RuleV K H0 r ru∧rules[k]?=some ru∧ru.2.length≤8 ∧
 ru.1∈ps.map (·.1)∧(∀ bes':List Be,Beg rules (ps.map (·.1)) (fun z=>(valV kE (Sum.inr z)).isSome) bes'→bes'.length≤900000)∧Beg rules (ps.map (·.1)) (fun z=>(valV kE (Sum.inr z)).isSome) bes ∧
 ∀ (bes':List Be) (H':Hp),BSt K C H0 H' a e d bg kE ets ps bes'→Beg rules (ps.map (·.1)) (fun z=>(valV kE (Sum.inr z)).isSome) bes'→bes.length≤bes'.length→(bes'.length=bes.length→bes'=bes∧∀ j z,j < fpN (fun z=>(valV kE (Sum.inr z)).isSome) ru.2→ru.2[j]?=some z→∀ wd∈wdsP (ps.map (·.1)) bes z,(ru.1,wd)∈prs bes)→Q .non H'
theorem scFind:FnScope ["self","number","rule","own","place","word"] ["self","number","rule"] (defScope sFind):=⟨rfl,rfl,rfl,by decide +kernel,rfl,by decide +kernel,by decide +kernel⟩
theorem ok_find {C fW:Addr} {fdW:FuncData} (F:Fun K "find_begins" "BeginTable.find_begins" sFind f fd) (T:Txt mg) (B:BC K C) (GP:CalleeD P w K mg base 1 "first_places" ["parts","empty"] (spPlaces K)) (FW:FnOk P w K mg base CX0 1 fW fdW ["self","part"] (spPartW K C)) (MW:Meth K C "words_of_part" fW) (BW:Binds K fdW ["self","part"] []) :
  FnOk P w K mg base CX0 2 f fd ["self","number","rule"] (spFind K C):=by
 refine F.ok scFind (fun vs H Q E h=>?_) (fun cdv A outer s H vs Q E hr h=>?_)
 ·obtain ⟨H0,a,e,d,bg,r,kE,ets,ps,bes,k,ru,rules,rfl,_⟩:=h; rfl
 ·obtain ⟨H0,a,e,d,bg,r,kE,ets,ps,bes,k,ru,rules,rfl,S,⟨p,v1,v2⟩,er,h8,hh,hbd,hbeg,q⟩:=h
  have hu:=hu_of hr
  refine ⟨_,pss_cons (ps_set (i:=3) scFind.nd rfl (Or.inl rfl) (pe_dget hu (pe_fld (pv 0) rfl) (pe_ix ix_tup (pv 2) pe_int (fun _ _=>rfl)) (fun _ _=>rfl)))
   (pss_one (ps_for PassesOwn.never rfl (pi_list (pe_fn GP hr rfl (pa_cons (pe_ix ix_tup (pv 2) pe_int (fun _ _=>rfl)) (pa_cons (pe_fld (pv 0) rfl) pa_nil)))) (pg_name (i:=4) scFind.nd rfl (Or.inl rfl))
    (pss_one (ps_for PassesOwn.never rfl (pi_list (pe_meth (pv 0) B.cls MW FW hr BW .nil pass0 (pa_cons (pe_ix ix_tup (pe_ix ix_tup (pv 2) pe_int (fun _ _=>rfl)) (pv 4) (fun _ _=>rfl)) pa_nil))) (pg_name (i:=5) scFind.nd rfl (Or.inl rfl))
     (pss_one (ps_if (pt_cmp (pc_dnotin hu (pv 5) (pv 3)))
      (pss_cons (ps_dput hu (pv 3) (pv 5) pe_bl rfl)
      (pss_one (ps_expr (pe_bm PySem.F.plainAttrs_list PySem.F.slot_list_append PySem.F.type_list_append mt_append (pe_fld (pv 0) rfl) (pa_cons (pe_tup (pa_cons (pe_ix ix_tup (pv 2) pe_int (fun _ _=>rfl)) (pa_cons (pv 5) (pa_cons (pv 1) (pa_cons (pv 4) pa_nil))))) pa_nil))))) pss_nil)))))),?_⟩
  obtain ⟨pn,hpn,epn⟩:=List.mem_map.mp hh
  have vn:=val_ps ps S.n1 pn hpn
  rw [epn] at vn
  obtain ⟨dx,fs,ea,f1,f2,f3,f4,f5⟩:=S.ia
  have hg:DGet H d (.str ru.1) (some (.ref pn.2)):=by
   have:=DGet.k (k:=Sum.inr ru.1) S.hd
   rw [vn] at this
   exact this
  refine ⟨_,rfl,a,C,dx,fs,_,rfl,ea,B.cls,B.a4,f3,_,rfl,r,_,_,_,rfl,rfl,S.sm.tup v1,rfl,d,_,rfl,hg,?_⟩
  refine ⟨_,rfl,r,_,_,_,rfl,rfl,S.sm.tup v1,rfl,_,rfl,a,C,dx,fs,_,rfl,ea,B.cls,B.a2,f1,p,e,ru.2,kE,rfl,S.sm.tup v2,by omega,S.he,fun D5 H5 f6 s5 e5=>⟨D5,rfl,⟨_,SqL.of e5⟩,?_⟩⟩
  obtain ⟨ts0,hb0,_⟩:=S.lb
  have nDb:D5≠bg:=fun z=>by rw [z,hb0] at f6; cases f6
  have fle:=fpN_le (fun z=>(valV kE (Sum.inr z)).isSome) ru.2
  generalize hb:(fun z=>(valV kE (Sum.inr z)).isSome)=b at *
  generalize hn:fpN b ru.2=n at *
  refine for_list (xs:=cnt n) (fun i σ H6=>∃ (bes2:List Be) (y4 y5:Option V),σ=[some (.ref a),some (.int (k:Int)),some (.ref r),some (.ref pn.2),y4,y5]∧BSt K C H0 H6 a e d bg kE ets ps bes2∧H6 D5=some (.lst (cnt n))∧Beg rules (ps.map (·.1)) b bes2∧bes.length≤bes2.length ∧
   (bes2.length=bes.length→bes2=bes∧∀ j z,j < i→ru.2[j]?=some z→∀ wd∈wdsP (ps.map (·.1)) bes z,(ru.1,wd)∈prs bes)) ⟨bes,none,none,rfl,S.same s5,e5,hbeg,Nat.le_refl _,fun _=>⟨rfl,fun j z hj=>by omega⟩⟩ ?_ ?_ ?_
  ·rintro i σ H6 _ ⟨bes2,y4,y5,rfl,S2,e6,_⟩
   exact SqL.of e6
  ·rintro i x σ H6 ex ⟨bes2,y4,y5,rfl,S2,e6,bg2,l2,c2⟩
   have li:i < n:=by have:=(List.getElem?_eq_some_iff.mp ex).1; rw [cnt_len] at this; exact this
   rw [cnt_at li] at ex
   cases ex
   have lz:i < ru.2.length:=by omega
   obtain ⟨z,ez⟩:∃ z,ru.2[i]?=some z:=⟨ru.2[i],List.getElem?_eq_getElem lz⟩
   have atz:atI (ru.2.map V.str) (i:Int)=some (.str z):=atI_nat (by rw [List.getElem?_map,ez]; rfl)
   obtain ⟨dx2,fs2,ea2,g1,g2,g3,g4,g5⟩:=S2.ia
   refine goN ?_
   refine ⟨_,rfl,a,dx2,fs2,rfl,ea2,g5,_,rfl,r,_,_,_,rfl,rfl,S2.sm.tup v1,rfl,_,rfl,p,_,_,_,rfl,rfl,S2.sm.tup v2,atz,H0,a,e,d,bg,kE,ets,ps,bes2,z,rfl,S2,fun D6 H7 f7 s7 e7=>⟨D6,rfl,⟨_,SqL.of e7⟩,?_⟩⟩
   obtain ⟨ts2,hb2,_⟩:=S2.lb
   have nD6:D6≠bg:=fun z=>by rw [z,hb2] at f7; cases f7
   generalize hws:wdsP (ps.map (·.1)) bes2 z=ws at *
   refine for_list (xs:=ws.map V.str) (fun m σ H8=>∃ (l:List Be) (y5:Option V),σ=[some (.ref a),some (.int (k:Int)),some (.ref r),some (.ref pn.2),some (.int (i:Int)),y5]∧BSt K C H0 H8 a e d bg kE ets ps (bes2++l)∧H8 D5=some (.lst (cnt n))∧H8 D6=some (.lst (ws.map V.str))∧Beg rules (ps.map (·.1)) b (bes2++l) ∧
    (l=[]→∀ wd∈ws.take m,(ru.1,wd)∈prs bes2)) ⟨[],_,rfl,by rw [List.append_nil]; exact S2.same s7,s7 _ _ e6,e7,by rw [List.append_nil]; exact bg2,fun _ wd h=>by simp at h⟩ ?_ ?_ ?_
   ·rintro m σ H8 _ ⟨l,y5,rfl,S3,e8,e9,_⟩
    exact SqL.of e9
   ·rintro m x σ H8 ex ⟨l,y5,rfl,S3,e8,e9,bg3,c3⟩
    rw [List.getElem?_map] at ex
    obtain ⟨wd,ew,rfl⟩:=Option.map_eq_some_iff.mp ex
    obtain ⟨⟨kvs,hk,kk⟩,fp,npe,npd⟩:=S3.dk pn hpn
    obtain ⟨ts3,hb3,hbv3⟩:=S3.lb
    have lim:=hbd _ bg3
    have ltk:kvs.length≤900000:=by
     have h1:=congrArg List.length kk
     rw [List.length_map,List.length_map] at h1
     have:=fw_len (bes2++l) pn.1
     omega
    have ltt:=Paired.length hbv3
    have mem:(valV kvs (Sum.inr wd)).isSome=true↔(ru.1,wd)∈prs (bes2++l):=by rw [val_mem,kk,inr_mem,fw_mem,epn]
    refine goN ?_
    refine ⟨_,rfl,_,rfl,pn.2,_,rfl,DGet.k (k:=Sum.inr wd) hk,_,rfl,?_⟩
    refine ite2 (fun c=>?_) (fun c=>?_)
    ·have nm:(ru.1,wd)∉prs (bes2++l):=fun h=>by rw [mem.mpr h] at c; exact absurd c (by decide)
     refine ⟨_,rfl,_,rfl,_,_,rfl,DPut.k (k:=Sum.inr wd) hk (fits' (by omega)),?_⟩
     obtain ⟨dx3,fs3,ea3,k1,k2,k3,k4,k5⟩:=S3.ia
     have nap:a≠pn.2:=fun z=>by rw [z,hk] at ea3; cases ea3
     have nbp:bg≠pn.2:=fun z=>by rw [z,hk] at hb3; cases hb3
     have ea4:upd H8 pn.2 (.dK (putK kvs (Sum.inr wd) (.bl true))) a=some (.ins C dx3 fs3):=by rw [upd_ne nap]; exact ea3
     have hb4:upd H8 pn.2 (.dK (putK kvs (Sum.inr wd) (.bl true))) bg=some (.lst (ts3.map V.ref)):=by rw [upd_ne nbp]; exact hb3
     refine ⟨_,rfl,a,C,dx3,fs3,_,rfl,ea4,B.cls,B.a3,k2,.inl ⟨rfl,_,SqL.of hb4⟩,_,rfl,r,_,_,_,rfl,rfl,sqt_updK hk (S3.sm.tup v1),rfl,_,rfl,_,rfl,_,rfl,(by show 4≤sizeLine; decide),fun t4 ht4=>?_⟩
     have s4:=same_laid ht4 (.tup [.str ru.1,.str wd,.int (k:Int),.int (i:Int)])
     have e4:SqT K (upd (upd H8 pn.2 (.dK (putK kvs (Sum.inr wd) (.bl true)))) t4 (.tup [.str ru.1,.str wd,.int (k:Int),.int (i:Int)])) t4 [.str ru.1,.str wd,.int (k:Int),.int (i:Int)]:=SqT.of upd_same
     generalize upd (upd H8 pn.2 (.dK (putK kvs (Sum.inr wd) (.bl true)))) t4 (.tup [.str ru.1,.str wd,.int (k:Int),.int (i:Int)])=H9 at s4 e4
     refine ⟨bg,_,_,rfl,rfl,s4 _ _ hb4,fits' (by rw [List.length_map]; omega),?_⟩
     have nm':(pn.1,wd)∉prs (bes2++l):=by rw [epn]; exact nm
     have S4:=S3.more (k:=k) (j:=i) hpn hk kk nm' hb3 hbv3 s4 (by rw [epn]; exact e4)
     have keepL:∀ D ys,H8 D=some (.lst ys)→D≠bg→upd H9 bg (.lst (ts3.map V.ref++[.ref t4])) D=some (.lst ys):=fun D ys hD nb=>by
      rw [upd_ne nb]
      exact s4 _ _ (by rw [upd_ne (fun z=>by rw [z,hk] at hD; cases hD)]; exact hD)
     rw [List.append_assoc,epn] at S4
     refine ⟨l++[(ru.1,wd,k,i)],_,rfl,S4,keepL _ _ e8 nDb,keepL _ _ e9 nD6,?_,fun h=>by simp at h⟩
     rw [← List.append_assoc]
     refine .snoc bg3 er ez (by rw [hn]; exact li) (wds_app bes2 l (by rw [hws]; exact List.mem_of_getElem? ew)) nm
    ·refine ⟨l,_,rfl,S3,e8,e9,bg3,fun hl x hx=>?_⟩
     rw [List.take_add_one,ew] at hx
     rcases List.mem_append.mp hx with h | h
     ·exact c3 hl x h
     ·rw [Option.toList_some,List.mem_singleton] at h
      subst h
      have hm:(ru.1,x)∈prs (bes2++l):=mem.mp (by
       cases hq:(valV kvs (Sum.inr x)).isSome with
       | true=>rfl
       | false=>exact absurd (by rw [hq]; rfl) c)
      rw [hl,List.append_nil] at hm
      exact hm
   ·rintro σ H8 ⟨l,y5,rfl,S3,e8,e9,bg3,c3⟩
    rw [List.length_map,List.take_length] at c3
    refine ⟨bes2++l,_,_,rfl,S3,e8,bg3,by rw [List.length_append]; omega,fun hlen2=>?_⟩
    rw [List.length_append] at hlen2
    have hl0:l=[]:=List.length_eq_zero_iff.mp (by omega)
    obtain ⟨hbb,hcl⟩:=c2 (by omega)
    rw [hl0,List.append_nil]
    refine ⟨hbb,fun j z' hj ez' wd hwd=>?_⟩
    by_cases cj:j < i
    ·exact hcl j z' cj ez' wd hwd
    ·have:j=i:=by omega
     subst this
     rw [ez] at ez'
     cases ez'
     have:=c3 hl0 wd (by rw [← hws,hbb]; exact hwd)
     rw [hbb] at this
     exact this
  ·rintro σ H6 ⟨bes2,y4,y5,rfl,S2,e6,bg2,l2,c2⟩
   rw [cnt_len] at c2
   exact q bes2 H6 S2 bg2 l2 c2
end
end K11
namespace L2
open PySem M11
theorem comp_freshD {K:PySem.W.Frag} {H:Hp} {p D:Addr} {zs:List Str} {σ:St} {x:Str} {Qp:Hp→Prop} (hp:SqL K H p (zs.map V.str)) (hz:zs.length≤10000) (hD:H D=none)
  (q:∀ ts (ps:List (Str×Addr)) H2,Same H H2→H2 D=some (.lst (ts.map V.ref))→ps.map (·.1)=zs→Paired (fun t (p:Str×Addr)=>SqT K H2 t [.str p.1,.ref p.2]) ts ps→(∀ p∈ps,H2 p.2=some (.dK [])∧H p.2=none∧p.2≠D)→(ps.map (·.2)).Nodup→Qp H2) :
  ∃ W:Nat→Nat→List V→St→Hp→Prop,(∃ m,W 0 m [] (capS [x] [] σ) (upd H D (.lst []))) ∧
 ∀ i m ys σ' H,W i m ys σ' H→((Itl K p).stop i H∧Qp H)∨((Itl K p).go i H∧∃ m',m' < m∧∀ x H',(Itl K p).yld i H x H'→gName 0 x σ' H' fun σ2 H2=>tTrue σ2 H2 fun b H3 =>
  if b=true then tTup (tCons (tVar 0) (tCons (tDNewK) tNil)) σ2 H3 fun y H4=>H4 D=some (.lst ys)∧ys.length < sizeLine∧W (i+1) m' (ys++[y]) σ2 (upd H4 D (.lst (ys++[y]))) else W (i+1) m' ys σ2 H3):=by
 refine compG_list (xs:=zs.map V.str) (fun i ys σ2 H2=>∃ (ts:List Addr) (ps:List (Str×Addr)),ys=ts.map V.ref∧ts.length=i∧ps.map (·.1)=zs.take i∧Paired (fun t (p:Str×Addr)=>SqT K H2 t [.str p.1,.ref p.2]) ts ps ∧
   (∀ p∈ps,H2 p.2=some (.dK [])∧H p.2=none∧p.2≠D)∧(ps.map (·.2)).Nodup∧(∃ y0,σ2=[y0])∧Same H H2∧H2 D=some (.lst ys))
  ⟨[],[],rfl,rfl,rfl,.nil,by simp,by simp,⟨none,rfl⟩,same_laid hD _,upd_same⟩ (fun i ys σ2 H2 _ h=>?_) (fun i x ys σ2 H2 ex h=>?_) (fun ys σ2 H2 h=>?_)
 ·obtain ⟨_,_,_,_,_,_,_,_,_,sm,_⟩:=h
  exact sm.seq hp
 ·obtain ⟨ts,ps,rfl,ht,hm,hpp,hl,hn,⟨y0,rfl⟩,sm,hd⟩:=h
  rw [List.getElem?_map] at ex
  obtain ⟨z,ez,rfl⟩:=Option.map_eq_some_iff.mp ex
  have li:=(List.getElem?_eq_some_iff.mp ez).1
  refine goN (goT ?_)
  refine ⟨_,rfl,fun l hl2=>⟨(by show 2≤sizeLine; decide),fun t ht2=>?_⟩⟩
  have nlD:l≠D:=(ne_of_none hd hl2).symm
  have nt:t≠l:=fun e=>by rw [e,upd_same] at ht2; cases ht2
  have ht3:H2 t=none:=by rw [upd_ne nt] at ht2; exact ht2
  have ntD:t≠D:=(ne_of_none hd ht3).symm
  have sm2:Same H2 (upd (upd H2 l (.dK [])) t (.tup [.str z,.ref l])):=(same_laid hl2 _).trans (same_laid ht2 _)
  have hd3:=sm2 _ _ hd
  have el:upd (upd H2 l (.dK [])) t (.tup [.str z,.ref l]) l=some (.dK []):=by rw [upd_ne nt.symm,upd_same]
  have et:SqT K (upd (upd H2 l (.dK [])) t (.tup [.str z,.ref l])) t [.str z,.ref l]:=SqT.of upd_same
  generalize upd (upd H2 l (.dK [])) t (.tup [.str z,.ref l])=H4 at sm2 hd3 el et
  refine ⟨hd3,fits' (by rw [List.length_map]; omega),ts++[t],ps++[(z,l)],by rw [List.map_append]; rfl,by rw [List.length_append,ht]; rfl,by rw [List.map_append,hm,List.take_add_one,ez]; rfl,?_,?_,?_,⟨_,rfl⟩,?_,upd_same⟩
  ·exact Paired.snoc (Paired.mapP hpp fun t' h' z=>sqt_upd hd3 (sm2.tup z)) (sqt_upd hd3 et)
  ·intro p' hp'
   rcases List.mem_append.mp hp' with h | h
   ·obtain ⟨a1,a2,a3⟩:=hl p' h
    exact ⟨by rw [upd_ne a3]; exact sm2 _ _ a1,a2,a3⟩
   ·rw [List.mem_singleton.mp h]
    exact ⟨by rw [upd_ne nlD]; exact el,sm.free hl2,nlD⟩
  ·rw [List.map_append]
   refine List.nodup_append.mpr ⟨hn,by simp,fun a ha b hb e=>?_⟩
   rw [List.map_singleton,List.mem_singleton] at hb
   obtain ⟨p',hp',rfl⟩:=List.mem_map.mp ha
   have:=(hl p' hp').1
   rw [e,hb] at this
   rw [show H2 l=none from hl2] at this
   cases this
  ·intro b o hb
   rw [upd_ne (fun z=>by rw [z,hD] at hb; cases hb)]
   exact sm2 _ _ (sm b o hb)
 ·obtain ⟨ts,ps,rfl,ht,hm,hpp,hl,hn,_,sm,hd⟩:=h
  rw [List.length_map,List.take_length] at hm
  exact q ts ps H2 sm hd hm hpp hl hn
theorem sqt_updI {K:PySem.W.Frag} {H:Hp} {D a C dx:Addr} {xs:List V} {fs:List (Str×V)} {o:HO} (hD:H D=some (.ins C dx fs)) (h:SqT K H a xs):SqT K (upd H D o) a xs:=by
 rcases h with (h | ⟨u,h⟩) | h
 ·exact .inl (.inl (by rw [upd_ne (fun z=>by rw [z,hD] at h; cases h)]; exact h))
 ·exact .inl (.inr ⟨u,by rw [upd_ne (fun z=>by rw [z,hD] at h; cases h)]; exact h⟩)
 ·exact .inr h
theorem comp_pairsE {K:PySem.W.Frag} {H:Hp} {R D:Addr} {rs:List Addr} {es:List (Str×Nat)} {σ:St} {x1 x2:Str} {Qp:Hp→Prop} (hR:SqL K H R (rs.map V.ref)) (hrl:Paired (fun t (e:Str×Nat)=>SqT K H t [.str e.1,.int (e.2:Int)]) rs es) (hlen:es.length≤1000) (hD:H D=none)
  (q:∀ ts H2,Same H H2→H2 D=some (.lst (ts.map V.ref))→Paired (fun t h=>SqT K H2 t [.str h,.bl true]) ts (es.map (·.1))→Qp H2) :
  ∃ W:Nat→Nat→List V→St→Hp→Prop,(∃ m,W 0 m [] (capS [x1,x2] [] σ) (upd H D (.lst []))) ∧
 ∀ i m ys σ' H,W i m ys σ' H→((Itl K R).stop i H∧Qp H)∨((Itl K R).go i H∧∃ m',m' < m∧∀ x H',(Itl K R).yld i H x H'→gTup K 2 (gCons (gName 0) (gCons (gName 1) gNil)) x σ' H' fun σ2 H2=>tTrue σ2 H2 fun b H3 =>
  if b=true then tTup (tCons (tVar 0) (tCons (tC (.bl true)) tNil)) σ2 H3 fun y H4=>H4 D=some (.lst ys)∧ys.length < sizeLine∧W (i+1) m' (ys++[y]) σ2 (upd H4 D (.lst (ys++[y]))) else W (i+1) m' ys σ2 H3):=by
 have ll:=Paired.length hrl
 refine compG_list (xs:=rs.map V.ref) (fun i ys σ2 H2=>∃ ts:List Addr,ys=ts.map V.ref∧ts.length=i∧Paired (fun t h=>SqT K H2 t [.str h,.bl true]) ts ((es.take i).map (·.1))∧(∃ y0 y1,σ2=[y0,y1])∧Same H H2∧H2 D=some (.lst ys))
  ⟨[],rfl,rfl,.nil,⟨none,none,rfl⟩,same_laid hD _,upd_same⟩ (fun i ys σ2 H2 _ h=>?_) (fun i x ys σ2 H2 ex h=>?_) (fun ys σ2 H2 h=>?_)
 ·obtain ⟨_,_,_,_,_,sm,_⟩:=h
  exact sm.seq hR
 ·obtain ⟨ts,rfl,ht,hp,⟨y0,y1,rfl⟩,sm,hd⟩:=h
  rw [List.getElem?_map] at ex
  obtain ⟨r,er,rfl⟩:=Option.map_eq_some_iff.mp ex
  have lr:=(List.getElem?_eq_some_iff.mp er).1
  obtain ⟨ru,e1⟩:∃ ru,es[i]?=some ru:=⟨es[i]'(by omega),List.getElem?_eq_getElem (by omega)⟩
  obtain ⟨r',er',v1⟩:=Paired.at_ hrl i ru e1
  rw [er] at er'
  cases er'
  have li:=(List.getElem?_eq_some_iff.mp e1).1
  refine ⟨r,_,rfl,sm.tup v1,rfl,_,_,rfl,_,_,rfl,rfl,?_⟩
  refine goT ?_
  refine ⟨_,rfl,(by show 2≤sizeLine; decide),fun t ht2=>⟨?_,fits' (by rw [List.length_map]; omega),ts++[t],?_,?_,?_,⟨_,_,rfl⟩,?_,upd_same⟩⟩
  ·rw [upd_ne (ne_of_none hd ht2)]; exact hd
  ·rw [List.map_append]; rfl
  ·rw [List.length_append,ht]; rfl
  ·rw [List.take_add_one,e1,List.map_append]
   have hd3:upd H2 t (.tup [.str ru.1,.bl true]) D=some (.lst (ts.map V.ref)):=by rw [upd_ne (ne_of_none hd ht2)]; exact hd
   exact Paired.snoc (Paired.mapP hp fun t' h' z=>sqt_upd hd3 ((same_laid ht2 _).tup z)) (sqt_upd hd3 (SqT.of upd_same))
  ·intro b o hb
   rw [upd_ne (fun z=>by rw [z,hD] at hb; cases hb)]
   exact same_laid ht2 _ _ _ (sm b o hb)
 ·obtain ⟨ts,rfl,ht,hp,_,sm,hd⟩:=h
  rw [List.length_map,ll,List.take_length] at hp
  exact q ts H2 sm hd hp
end L2
namespace M11
open PySem L2
theorem Beg.sub {rules:List Rule} {names:List Str} {b:Str→Bool} {bes:List Be} (h:Beg rules names b bes):∀ q∈prs bes,q.1∈rules.map (·.1)∧q.2∈rules.flatMap (·.2):=by
 induction h with
 | nil=>intro q hq; cases hq
 | @snoc bes k j ru z wd hb er ez _ hw _ ih =>
  intro q hq
  unfold prs at hq
  rw [List.map_append] at hq
  rcases List.mem_append.mp hq with hq | hq
  ·exact ih q hq
  ·rw [List.map_singleton,List.mem_singleton] at hq
   rw [hq]
   have hm:=List.mem_of_getElem? er
   refine ⟨List.mem_map_of_mem hm,?_⟩
   unfold wdsP at hw
   split at hw
   ·exact (ih (z,wd) (fw_mem.mp hw)).2
   ·rw [List.mem_singleton.mp hw]
    exact List.mem_flatMap.mpr ⟨ru,hm,List.mem_of_getElem? ez⟩
theorem Beg.nd {rules:List Rule} {names:List Str} {b:Str→Bool} {bes:List Be} (h:Beg rules names b bes):(prs bes).Nodup:=by
 induction h with
 | nil=>exact List.nodup_nil
 | @snoc bes k j ru z wd hb er ez _ hw hn ih =>
  unfold prs
  rw [List.map_append]
  refine List.nodup_append.mpr ⟨ih,by simp,fun x hx y hy e=>?_⟩
  rw [List.map_singleton,List.mem_singleton] at hy
  rw [e,hy] at hx
  exact hn hx
theorem prod_len (m:List Str):∀ l:List Str,(l.flatMap fun n=>m.map fun wd=>(n,wd)).length=l.length * m.length
 | []=>by simp
 | n::l=>by
  rw [List.flatMap_cons,List.length_append,prod_len m l,List.length_map,List.length_cons,Nat.add_mul]
  omega
theorem Beg.len {rules:List Rule} {names:List Str} {b:Str→Bool} {bes:List Be} (h:Beg rules names b bes) (hl:rules.length≤100) (h8:∀ ru∈rules,ru.2.length≤8):bes.length≤80000:=by
 have h1:=nodup_len (prs bes) ((rules.map (·.1)).flatMap fun n=>(rules.flatMap (·.2)).map fun wd=>(n,wd)) h.nd fun q hq=>by
  obtain ⟨a,c⟩:=h.sub q hq
  exact List.mem_flatMap.mpr ⟨q.1,a,List.mem_map.mpr ⟨q.2,c,rfl⟩⟩
 rw [prod_len] at h1
 have h2:=K11.flat_len rules 100 hl h8
 unfold prs at h1
 rw [List.length_map,List.length_map] at h1
 have h3:rules.length * (rules.flatMap (·.2)).length≤100 * 800:=Nat.mul_le_mul hl h2
 omega
def BegC (rules:List Rule) (names:List Str) (b:Str→Bool) (n:Nat) (bes:List Be):Prop:=∀ k ru,k < n→rules[k]?=some ru→∀ j z,j < fpN b ru.2→ru.2[j]?=some z→∀ wd∈wdsP names bes z,(ru.1,wd)∈prs bes
end M11
namespace K11
open PySem L2 M11
section
variable {P:Program} {w:World} {K:PySem.W.Frag} {mg:Str→Option Value} {base:Heap} {f:Addr} {fd:FuncData}
def spBInit (K:PySem.W.Frag) (C:Addr):Sp:=fun vs H Q _=>∃ (H0:Hp) (a dx R:Addr) (rs:List Addr) (rules:List Rule),vs=[.ref a,.ref R]∧Same H0 H∧H0 a=none∧H a=some (.ins C dx [])∧SqL K H0 R (rs.map V.ref)∧Rules K H0 rs rules∧rules.length≤100∧(∀ ru∈rules,ru.2.length≤8) ∧
 ∀ (e d bg:Addr) (kE:List (Key×V)) (ets:List (Str×Nat)) (ps:List (Str×Addr)) (bes:List Be) (H':Hp),BSt K C H0 H' a e d bg kE ets ps bes→ps.map (·.1)=hd rules→Emp rules ets→EmpC rules rules.length ets→(∀ z,(valV kE (Sum.inr z)).isSome=decide (z∈ets.map (·.1))) →
  Beg rules (hd rules) (fun z=>decide (z∈ets.map (·.1))) bes→BegC rules (hd rules) (fun z=>decide (z∈ets.map (·.1))) rules.length bes→Q .non H'
theorem scBInit:FnScope ["self","rules","number","many","rule"] ["self","rules"] (defScope sBInit):=⟨rfl,rfl,rfl,by decide +kernel,rfl,by decide +kernel,by decide +kernel⟩
theorem ok_binit {C fF:Addr} {fdF:FuncData} (F:Fun K "__init__" "BeginTable.__init__" sBInit f fd) (T:Txt mg) (B:BC K C) (GE:CalleeD P w K mg base 1 "found_empties" ["rules"] (spEmpties K)) (GH:CalleeD P w K mg base 1 "heads_of" ["rules"] (spHeads K))
  (FF:FnOk P w K mg base CX0 2 fF fdF ["self","number","rule"] (spFind K C)) (MF:Meth K C "find_begins" fF) (BF:Binds K fdF ["self","number","rule"] []):FnOk P w K mg base CX0 3 f fd ["self","rules"] (spBInit K C):=by
 refine F.ok scBInit (fun vs H Q E h=>?_) (fun cdv A outer s H vs Q E hr h=>?_)
 ·obtain ⟨H0,a,dx,R,rs,rules,rfl,_⟩:=h; rfl
 ·obtain ⟨H0,a,dx,R,rs,rules,rfl,s0,f0,ea,hR,hrl,hlen,h8,q⟩:=h
  refine ⟨_,pss_cons (ps_fld (pv 0) (pe_fn (GE.mono (by decide:1≤2)) hr rfl (pa_cons (pv 1) pa_nil)) rfl)
   (pss_cons (ps_fld (pv 0) (pe_callTy (call_dictP rfl) rfl T.dct boot_dct (pa_cons (pe_compG ["name","number"] [] rfl (pi_list (pe_fld (pv 0) rfl)) (caps_of rfl rfl) (by decide +kernel) rfl (by decide +kernel)
    (fun _ _ _ _ _=>pg_tupK (n:=2) K rfl (pgs_cons (pg_name (i:=0) (show (["name","number"]:List Str).Nodup by decide +kernel) rfl (Or.inl rfl)) (pgs_cons (pg_name (i:=1) (show (["name","number"]:List Str).Nodup by decide +kernel) rfl (Or.inl rfl)) pgs_nil))) (fun _ _ _ _ _=>pif_nil)
    (fun _ _ _ _ _=>pe_tup (pa_cons (pv 0) (pa_cons pe_bl pa_nil)))) pa_nil)) rfl)
   (pss_cons (ps_fld (pv 0) (pe_lst pa_nil) rfl)
   (pss_cons (ps_fld (pv 0) (pe_callTy (call_dictP rfl) rfl T.dct boot_dct (pa_cons (pe_compG ["name"] [] rfl (pi_list (pe_fn (GH.mono (by decide:1≤2)) hr rfl (pa_cons (pv 1) pa_nil))) (caps_of rfl rfl) (by decide +kernel) rfl (by decide +kernel)
    (fun _ _ _ _ _=>pg_name (i:=0) (show (["name"]:List Str).Nodup by decide +kernel) rfl (Or.inl rfl)) (fun _ _ _ _ _=>pif_nil)
    (fun _ _ _ _ _=>pe_tup (pa_cons (pv 0) (pa_cons pe_dnewK pa_nil)))) pa_nil)) rfl)
   (pss_cons (ps_set (i:=3) scBInit.nd rfl (Or.inl rfl) (pe_un un_neg pe_int))
   (pss_one (ps_while PassesOwn.never (pt_cmpR op_lt (pv 3) (pe_callB call_len_seq rfl T.len PySem.boot_len (pa_cons (pe_fld (pv 0) rfl) pa_nil)) (nomark _))
    (pss_cons (ps_set (i:=3) scBInit.nd rfl (Or.inl rfl) (pe_callB call_len_seq rfl T.len PySem.boot_len (pa_cons (pe_fld (pv 0) rfl) pa_nil)))
    (pss_one (ps_for PassesOwn.never rfl (pi_enum rfl T.enu (pa_cons (pv 1) pa_nil)) (pg_tup rfl (pgs_cons (pg_name (i:=2) scBInit.nd rfl (Or.inl rfl)) (pgs_cons (pg_name (i:=4) scBInit.nd rfl (Or.inl rfl)) pgs_nil)))
     (pss_one (ps_expr (pe_meth (pv 0) B.cls MF FF hr BF .nil pass0 (pa_cons (pv 2) (pa_cons (pv 4) pa_nil)))))))))))))),?_⟩
  have ll:=Paired.length hrl
  refine ⟨_,rfl,R,rs,rules,rfl,s0.seq hR,hrl.same s0,by omega,h8,fun D1 ts1 ets H1 f1 s1 e1 w1 emp empc=>?_⟩
  have ea1:=s1 _ _ ea
  refine ⟨_,rfl,a,C,dx,[],rfl,ea1,B.cls,B.a1,(by show 0 < 1000; decide),?_⟩
  have e2:upd H1 a (.ins C dx (putF "empties" (.ref D1) [])) D1=some (.lst (ts1.map V.ref)):=by rw [upd_ne (fun z=>by rw [z,ea1] at e1; cases e1)]; exact e1
  have w2:EtsV K (upd H1 a (.ins C dx (putF "empties" (.ref D1) []))) ts1 ets:=w1.keep fun _ _ z=>sqt_updI ea1 z
  have s02:Same H0 (upd H1 a (.ins C dx (putF "empties" (.ref D1) []))):=fun c o hc=>by rw [upd_ne (fun z=>by rw [z,f0] at hc; cases hc)]; exact s1 _ _ (s0 c o hc)
  have ea2:upd H1 a (.ins C dx (putF "empties" (.ref D1) [])) a=some (.ins C dx (putF "empties" (.ref D1) [])):=upd_same
  generalize upd H1 a (.ins C dx (putF "empties" (.ref D1) []))=H2 at e2 w2 s02 ea2
  have lets:=emp.len
  refine ⟨_,rfl,a,C,dx,_,_,rfl,ea2,B.cls,B.a1,rfl,D1,rfl,⟨_,SqL.of e2⟩,fun D2 hD2=>comp_pairsE (SqL.of e2) w2 (by omega) hD2 fun ts2 H3 s3 e3 p3=>?_⟩
  have kp:Paired (fun t (kv:Key×V)=>SqT K H3 t [kV kv.1,kv.2]) ts2 ((ets.map (·.1)).map fun h=>((Sum.inr h:Key),V.bl true)):=paired_mapR p3 fun _ _ z=>z
  refine ⟨D2,ts2,_,rfl,e3,kp,fun e he=>?_⟩
  have memE:∀ z,(valV (fillK ((ets.map (·.1)).map fun h=>((Sum.inr h:Key),V.bl true)) []) (Sum.inr z)).isSome=decide (z∈ets.map (·.1)):=fun z=>by
   rw [val_fill]
   by_cases c:z∈ets.map (·.1)
   ·rw [if_pos c,decide_eq_true c]; rfl
   ·rw [if_neg c,decide_eq_false c]; rfl
  generalize fillK ((ets.map (·.1)).map fun h=>((Sum.inr h:Key),V.bl true)) []=kE at memE
  have s04:=(s02.trans s3).trans (same_laid he (.dK kE))
  have ea4:=same_laid he (.dK kE) _ _ (s3 _ _ ea2)
  have ee4:upd H3 e (.dK kE) e=some (.dK kE):=upd_same
  have s24:Same H2 (upd H3 e (.dK kE)):=s3.trans (same_laid he (.dK kE))
  generalize upd H3 e (.dK kE)=H4 at s04 ea4 ee4 s24
  have dE4:=s24 _ _ e2
  have wE4:EtsV K H4 ts1 ets:=w2.keep fun _ _ z=>s24.tup z
  refine ⟨_,rfl,a,C,dx,_,rfl,ea4,B.cls,B.a2,(by show 1 < 1000; decide),?_⟩
  generalize hf5:putF "empty" (.ref e) (putF "empties" (.ref D1) [])=fs5
  have ee5:upd H4 a (.ins C dx fs5) e=some (.dK kE):=by rw [upd_ne (fun z=>by rw [z,ea4] at ee4; cases ee4)]; exact ee4
  have s05:Same H0 (upd H4 a (.ins C dx fs5)):=fun c o hc=>by rw [upd_ne (fun z=>by rw [z,f0] at hc; cases hc)]; exact s04 c o hc
  have ea5:upd H4 a (.ins C dx fs5) a=some (.ins C dx fs5):=upd_same
  have dE5:upd H4 a (.ins C dx fs5) D1=some (.lst (ts1.map V.ref)):=by rw [upd_ne (fun z=>by rw [z,ea4] at dE4; cases dE4)]; exact dE4
  have wE5:EtsV K (upd H4 a (.ins C dx fs5)) ts1 ets:=wE4.keep fun _ _ z=>sqt_updI ea4 z
  generalize upd H4 a (.ins C dx fs5)=H5 at ee5 s05 ea5 dE5 wE5
  refine ⟨(by show 0≤sizeLine; decide),fun bg hbg=>?_⟩
  have fbg:H0 bg=none:=s05.free hbg
  have eb6:upd H5 bg (.lst []) bg=some (.lst []):=upd_same
  have s06:=s05.trans (same_laid hbg (.lst []))
  have ee6:=same_laid hbg (.lst []) _ _ ee5
  have ea6:=same_laid hbg (.lst []) _ _ ea5
  have nDbg:D1≠bg:=ne_of_none dE5 hbg
  have dE6:=same_laid hbg (.lst []) _ _ dE5
  have wE6:EtsV K (upd H5 bg (.lst [])) ts1 ets:=wE5.keep fun _ _ z=>(same_laid hbg (.lst [])).tup z
  generalize upd H5 bg (.lst [])=H6 at eb6 s06 ee6 ea6 dE6 wE6
  refine ⟨_,rfl,a,C,dx,_,rfl,ea6,B.cls,B.a3,(by rw [← hf5]; show 2 < 1000; decide),?_⟩
  generalize hf7:putF "begins" (.ref bg) fs5=fs7
  have ee7:upd H6 a (.ins C dx fs7) e=some (.dK kE):=by rw [upd_ne (fun z=>by rw [z,ea6] at ee6; cases ee6)]; exact ee6
  have eb7:upd H6 a (.ins C dx fs7) bg=some (.lst []):=by rw [upd_ne (fun z=>by rw [z,ea6] at eb6; cases eb6)]; exact eb6
  have s07:Same H0 (upd H6 a (.ins C dx fs7)):=fun c o hc=>by rw [upd_ne (fun z=>by rw [z,f0] at hc; cases hc)]; exact s06 c o hc
  have ea7:upd H6 a (.ins C dx fs7) a=some (.ins C dx fs7):=upd_same
  have dE7:upd H6 a (.ins C dx fs7) D1=some (.lst (ts1.map V.ref)):=by rw [upd_ne (fun z=>by rw [z,ea6] at dE6; cases dE6)]; exact dE6
  have wE7:EtsV K (upd H6 a (.ins C dx fs7)) ts1 ets:=wE6.keep fun _ _ z=>sqt_updI ea6 z
  generalize upd H6 a (.ins C dx fs7)=H7 at ee7 eb7 s07 ea7 dE7 wE7
  refine ⟨_,rfl,R,rs,rules,rfl,s07.seq hR,hrl.same s07,by omega,fun D4 H8 f8 s8 e8=>?_⟩
  have lhd:=ded_len (rules.map (·.1)) []
  simp only [List.length_nil,List.length_map] at lhd
  refine ⟨D4,rfl,⟨_,SqL.of e8⟩,fun D5 hD5=>comp_freshD (SqL.of e8) (by omega) hD5 fun ts ps H9 s9 e9 m9 p9 l9 n9=>?_⟩
  have n1:(ps.map (·.1)).Nodup:=by rw [m9]; exact ded_nd _ List.nodup_nil
  have kp2:Paired (fun t (kv:Key×V)=>SqT K H9 t [kV kv.1,kv.2]) ts (ps.map kvA):=paired_mapR p9 fun _ _ z=>z
  refine ⟨D5,ts,_,rfl,e9,kp2,fun d hd0=>?_⟩
  have ekS:fillK (ps.map kvA) []=ps.map kvA:=fill_nd _ [] (by
   rw [List.nil_append,keys_ps]
   exact nd_inr n1)
  rw [ekS]
  have s78:=s8.trans s9
  have sd:=same_laid hd0 (.dK (ps.map kvA))
  have s710:=s78.trans sd
  have ed10:upd H9 d (.dK (ps.map kvA)) d=some (.dK (ps.map kvA)):=upd_same
  have lp10:∀ p∈ps,upd H9 d (.dK (ps.map kvA)) p.2=some (.dK [])∧p.2≠d:=fun p hp=>⟨sd _ _ (l9 p hp).1,fun z=>by have:=(l9 p hp).1; rw [z,hd0] at this; cases this⟩
  generalize upd H9 d (.dK (ps.map kvA))=H10 at s710 ed10 lp10
  have ea10:=s710 _ _ ea7
  have ee10:=s710 _ _ ee7
  have eb10:=s710 _ _ eb7
  have s010:=s07.trans s710
  have dE10:=s710 _ _ dE7
  have wE10:EtsV K H10 ts1 ets:=wE7.keep fun _ _ z=>s710.tup z
  refine ⟨_,rfl,a,C,dx,_,rfl,ea10,B.cls,B.a4,(by rw [← hf7,← hf5]; show 3 < 1000; decide),?_⟩
  have fp:∀ p∈ps,H0 p.2=none∧p.2≠e:=fun p hp=>by
   have h8':H8 p.2=none:=(l9 p hp).2.1
   refine ⟨(s07.trans s8).free h8',fun z=>?_⟩
   have:=s8 _ _ ee7
   rw [← z,h8'] at this; cases this
  have hfs:∃ fs,putF "firsts" (.ref d) fs7=fs∧fs.lookup ("empty":Str)=some (.ref e)∧fs.lookup ("begins":Str)=some (.ref bg)∧fs.lookup ("firsts":Str)=some (.ref d)∧fs.lookup ("find_begins":Str)=none∧fs.lookup ("words_of_part":Str)=none∧fs.lookup ("empties":Str)=some (.ref D1):=by
   refine ⟨_,rfl,?_⟩
   rw [← hf7,← hf5]
   refine ⟨?_,?_,?_,?_,?_,?_⟩ <;> rfl
  obtain ⟨fs,efs,k1,k2,k3,k4,k5,k6⟩:=hfs
  rw [efs]
  have S11:BSt K C H0 (upd H10 a (.ins C dx fs)) a e d bg kE ets ps []:=by
   refine ⟨fun c o hc=>by rw [upd_ne (fun z=>by rw [z,f0] at hc; cases hc)]; exact s010 c o hc,⟨dx,fs,upd_same,k1,k2,k3,k4,k5⟩,?_,?_,n1,n9,fun p hp=>⟨⟨[],?_,rfl⟩,(fp p hp).1,(fp p hp).2,(lp10 p hp).2⟩,⟨[],?_,.nil⟩,fbg,⟨D1,ts1,⟨dx,fs,upd_same,k6⟩,by rw [upd_ne (fun z=>by rw [z,ea10] at dE10; cases dE10)]; exact dE10,wE10.keep fun _ _ z=>sqt_updI ea10 z,nDbg⟩⟩
   ·rw [upd_ne (fun z=>by rw [z,ea10] at ee10; cases ee10)]; exact ee10
   ·rw [upd_ne (fun z=>by rw [z,ea10] at ed10; cases ed10)]; exact ed10
   ·have:=(lp10 p hp).1
    rw [upd_ne (fun z=>by rw [z,ea10] at this; cases this)]; exact this
   ·rw [upd_ne (fun z=>by rw [z,ea10] at eb10; cases eb10)]; exact eb10
  generalize upd H10 a (.ins C dx fs)=H11 at S11
  have eb:(fun z=>(valV kE (Sum.inr z)).isSome)=fun z=>decide (z∈ets.map (·.1)):=funext memE
  refine ⟨1,rfl,?_⟩
  refine ⟨fun mm σ H12=>∃ (bes:List Be) (many:Int) (y2 y4:Option V),σ=[some (.ref a),some (.ref R),y2,some (.int many),y4]∧BSt K C H0 H12 a e d bg kE ets ps bes∧Beg rules (hd rules) (fun z=>decide (z∈ets.map (·.1))) bes∧-1≤many∧many≤bes.length ∧
   (many=bes.length→BegC rules (hd rules) (fun z=>decide (z∈ets.map (·.1))) rules.length bes)∧(mm:Int)=80001 - many,⟨80002,[],-1,none,none,rfl,S11,.nil,by omega,by simp,by simp,by omega⟩,?_⟩
  rintro mm σ H12 ⟨bes,many,y2,y4,rfl,S12,bg12,b1,b2,cl,em⟩
  obtain ⟨dx2,fs2,q1,q2,q3,q4,q5,q6⟩:=S12.ia
  obtain ⟨tb,hb1,hb2⟩:=S12.lb
  have lb:=Paired.length hb2
  have lbes:=bg12.len hlen h8
  refine ⟨_,rfl,_,rfl,a,C,dx2,fs2,_,rfl,q1,B.cls,B.a3,q3,bg,_,rfl,.inl (SqL.of hb1),_,_,rfl,rfl,_,rfl,?_⟩
  refine ite2 (fun c=>?_) (fun c=>?_)
  ·have c':=of_decide_eq_true c
   rw [List.length_map,lb] at c'
   refine ⟨fun σ H13=>∃ (bes2:List Be) (y2 y4:Option V),σ=[some (.ref a),some (.ref R),y2,some (.int (bes.length:Int)),y4]∧BSt K C H0 H13 a e d bg kE ets ps bes2∧Beg rules (hd rules) (fun z=>decide (z∈ets.map (·.1))) bes2∧bes.length≤bes2.length ∧
    (bes2.length=bes.length→bes2=bes∧BegC rules (hd rules) (fun z=>decide (z∈ets.map (·.1))) rules.length bes),?_,?_⟩
   ·rintro σ H13 ⟨bes2,y2,y4,rfl,S13,bg13,l13,c13⟩
    have:=bg13.len hlen h8
    refine ⟨(80001 - bes.length:Int).toNat,by omega,bes2,_,_,_,rfl,S13,bg13,by omega,by omega,fun z=>?_,by omega⟩
    obtain ⟨e1',e2'⟩:=c13 (by omega)
    rw [e1']; exact e2'
   ·refine ⟨_,rfl,a,C,dx2,fs2,_,rfl,q1,B.cls,B.a3,q3,bg,_,rfl,.inl (SqL.of hb1),?_⟩
    rw [List.length_map,lb]
    refine ⟨_,rfl,R,_,rfl,S12.sm.seq hR,?_⟩
    refine for_enum (xs:=rs.map V.ref) (fun i σ H13=>∃ (bes2:List Be) (y2 y4:Option V),σ=[some (.ref a),some (.ref R),y2,some (.int (bes.length:Int)),y4]∧BSt K C H0 H13 a e d bg kE ets ps bes2∧Beg rules (hd rules) (fun z=>decide (z∈ets.map (·.1))) bes2∧bes.length≤bes2.length ∧
     (bes2.length=bes.length→bes2=bes∧BegC rules (hd rules) (fun z=>decide (z∈ets.map (·.1))) i bes)) ⟨bes,_,_,rfl,S12,bg12,Nat.le_refl _,fun _=>⟨rfl,fun k ru hk=>by omega⟩⟩ ?_ ?_ ?_
    ·rintro i σ H13 _ ⟨bes2,y2,y4,rfl,S13,_⟩
     exact S13.sm.seq hR
    ·rintro i x σ H13 t ex ⟨bes2,y2,y4,rfl,S13,bg13,l13,c13⟩ ht
     rw [List.getElem?_map] at ex
     obtain ⟨r,er,rfl⟩:=Option.map_eq_some_iff.mp ex
     obtain ⟨ru,er1,rv⟩:=hrl.get er
     have hmem:=List.mem_of_getElem? er1
     have S14:=S13.same (same_laid ht (.tup [.int (i:Int),.ref r]))
     have hv14:SqT K (upd H13 t (.tup [.int (i:Int),.ref r])) t [.int (i:Int),.ref r]:=SqT.of upd_same
     generalize upd H13 t (.tup [.int (i:Int),.ref r])=H14 at S14 hv14
     obtain ⟨dx4,fs4,r1,r2,r3,r4,r5,r6⟩:=S14.ia
     refine ⟨t,_,rfl,hv14,rfl,_,_,rfl,_,_,rfl,rfl,?_⟩
     refine ⟨_,rfl,a,dx4,fs4,rfl,r1,r5,_,rfl,_,rfl,H0,a,e,d,bg,r,kE,ets,ps,bes2,i,ru,rules,rfl,S14,rv,er1,h8 ru hmem,by rw [m9]; exact (ded_mem _ _ _).mpr (.inr (List.mem_map_of_mem hmem)),?_,?_,?_⟩
     ·intro bes' hb'
      have:=hb'.len hlen h8
      omega
     ·rw [m9,eb]; exact bg13
     ·rw [m9,eb]
      intro bes3 H15 S15 bg15 l15 c15
      refine ⟨bes3,_,_,rfl,S15,bg15,by omega,fun hl3=>?_⟩
      obtain ⟨x1,x2⟩:=c13 (by omega)
      obtain ⟨x3,x4⟩:=c15 (by omega)
      refine ⟨x3.trans x1,fun k ru' hk erk j z hj ez wd hw=>?_⟩
      by_cases ck:k < i
      ·exact x2 k ru' ck erk j z hj ez wd hw
      ·have:k=i:=by omega
       subst this
       rw [er1] at erk
       cases erk
       rw [← x1] at hw ⊢
       exact x4 j z hj ez wd hw
    ·rintro σ H13 ⟨bes2,y2,y4,rfl,S13,bg13,l13,c13⟩
     rw [List.length_map,ll] at c13
     exact ⟨bes2,_,_,rfl,S13,bg13,l13,c13⟩
  ·have c':=of_decide_eq_false (Bool.eq_false_iff.mpr c)
   rw [List.length_map,lb] at c'
   exact q e d bg kE ets ps bes H12 S12 m9 emp empc memE bg12 (cl (by omega))
end
end K11
namespace K11
open PySem L2 M11
section
variable {P:Program} {w:World} {K:PySem.W.Frag} {mg:Str→Option Value} {base:Heap} {f:Addr} {fd:FuncData}
theorem ps_ne {ps:List (Str×Addr)} (n1:(ps.map (·.1)).Nodup) (n2:(ps.map (·.2)).Nodup) {p p':Str×Addr} (hp:p∈ps) (hp':p'∈ps) (z:p'≠p):p'.1≠p.1∧p'.2≠p.2:=by
 refine ⟨fun q=>z ?_,fun q=>z ?_⟩
 ·have w1:=val_ps ps n1 p' hp'
  have w2:=val_ps ps n1 p hp
  rw [q,w2] at w1
  injection w1 with w3
  injection w3 with w4
  exact Prod.ext q w4.symm
 ·obtain ⟨i,hi,ei⟩:=List.mem_iff_getElem.mp hp'
  obtain ⟨j,hj,ej⟩:=List.mem_iff_getElem.mp hp
  have hij:i=j:=by
   refine (List.getElem_inj (xs:=ps.map (·.2)) (h₀:=by simpa using hi) (h₁:=by simpa using hj) n2).mp ?_
   rw [List.getElem_map,List.getElem_map,ei,ej]; exact q
  subst hij
  exact ei.symm.trans ej
structure NmV (ps:List (Str×Addr)) (st:Str→List Int) (H:Hp) (d:Addr):Prop where
 hd:H d=some (.dK (ps.map kvA))
 n1:(ps.map (·.1)).Nodup
 n2:(ps.map (·.2)).Nodup
 lst:∀ p∈ps,H p.2=some (.lst ((st p.1).map V.int))
theorem NmV.same {ps:List (Str×Addr)} {st:Str→List Int} {H H':Hp} {d:Addr} (h:NmV ps st H d) (s:Same H H'):NmV ps st H' d:=⟨s _ _ h.hd,h.n1,h.n2,fun p hp=>s _ _ (h.lst p hp)⟩
def addNm (st:Str→List Int) (n:Str) (k:Int):Str→List Int:=fun z=>if z=n then st z++[k] else st z
theorem NmV.more {ps:List (Str×Addr)} {st:Str→List Int} {H:Hp} {d:Addr} (h:NmV ps st H d) {p:Str×Addr} (hp:p∈ps) (k:Int):NmV ps (addNm st p.1 k) (upd H p.2 (.lst ((st p.1).map V.int++[.int k]))) d:=by
 have a:=h.lst p hp
 have nd:d≠p.2:=fun z=>by have:=h.hd; rw [z,a] at this; cases this
 refine ⟨by rw [upd_ne nd]; exact h.hd,h.n1,h.n2,fun p' hp'=>?_⟩
 by_cases z:p'=p
 ·rw [z,upd_same]
  have e1:addNm st p.1 k p.1=st p.1++[k]:=if_pos rfl
  rw [e1,List.map_append]; rfl
 ·obtain ⟨a1,a2⟩:=ps_ne h.n1 h.n2 hp hp' z
  have e1:addNm st p.1 k p'.1=st p'.1:=if_neg a1
  rw [upd_ne a2,e1]
  exact h.lst p' hp'
def spNums (K:PySem.W.Frag):Sp:=fun vs H Q _=>∃ (R:Addr) (rs:List Addr) (rules:List Rule),vs=[.ref R]∧SqL K H R (rs.map V.ref)∧Rules K H rs rules∧rules.length≤1000 ∧
 ∀ (d:Addr) (ps:List (Str×Addr)) (H':Hp),H d=none→Same H H'→NmV ps (fun n=>nums rules n rules.length) H' d→ps.map (·.1)=hd rules→(∀ p∈ps,H p.2=none)→Q (.ref d) H'
theorem scNums:FnScope ["rules","numbers","number","rule"] ["rules"] (defScope sNums):=⟨rfl,rfl,rfl,by decide +kernel,rfl,by decide +kernel,by decide +kernel⟩
theorem ok_nums (F:Fun K "numbers_by_name" "numbers_by_name" sNums f fd) (T:Txt mg) (GH:CalleeD P w K mg base 1 "heads_of" ["rules"] (spHeads K)):FnOk P w K mg base CX0 2 f fd ["rules"] (spNums K):=by
 refine F.ok scNums (fun vs H Q E h=>?_) (fun cdv A outer s H vs Q E hr h=>?_)
 ·obtain ⟨R,rs,rules,rfl,_⟩:=h; rfl
 ·obtain ⟨R,rs,rules,rfl,hR,hrl,hlen,q⟩:=h
  have hu:=hu_of hr
  refine ⟨_,pss_cons (ps_set (i:=1) scNums.nd rfl (Or.inl rfl) (pe_callTy (call_dictP rfl) rfl T.dct boot_dct (pa_cons
    (pe_compG ["name"] [] rfl (pi_list (pe_fn GH hr rfl (pa_cons (pv 0) pa_nil))) (caps_of rfl rfl) (by decide +kernel) rfl (by decide +kernel)
     (fun _ _ _ _ _=>pg_name (i:=0) (show (["name"]:List Str).Nodup by decide +kernel) rfl (Or.inl rfl)) (fun _ _ _ _ _=>pif_nil)
     (fun _ _ _ _ _=>pe_tup (pa_cons (pv 0) (pa_cons (pe_lst pa_nil) pa_nil)))) pa_nil)))
   (pss_cons (ps_for PassesOwn.never rfl (pi_enum rfl T.enu (pa_cons (pv 0) pa_nil)) (pg_tup rfl (pgs_cons (pg_name (i:=2) scNums.nd rfl (Or.inl rfl)) (pgs_cons (pg_name (i:=3) scNums.nd rfl (Or.inl rfl)) pgs_nil)))
    (pss_one (ps_expr (pe_bm PySem.F.plainAttrs_list PySem.F.slot_list_append PySem.F.type_list_append mt_append (pe_dget hu (pv 1) (pe_ix ix_tup (pv 3) pe_int (fun _ _=>rfl)) (fun _ _=>rfl)) (pa_cons (pv 2) pa_nil)))))
   (pss_one (ps_ret (pv 1)))),?_⟩
  have ll:=Paired.length hrl
  refine ⟨_,rfl,R,rs,rules,rfl,hR,hrl,hlen,fun D2 H3 f3 s3 e3=>?_⟩
  have lhd:=ded_len (rules.map (·.1)) []
  simp only [List.length_nil,List.length_map] at lhd
  refine ⟨D2,rfl,⟨_,SqL.of e3⟩,fun D3 hD3=>comp_fresh (SqL.of e3) (by omega) hD3 fun ts ps H4 s4 e4 m4 p4 l4 n4=>?_⟩
  have n1:(ps.map (·.1)).Nodup:=by rw [m4]; exact ded_nd _ List.nodup_nil
  have kp2:Paired (fun t (kv:Key×V)=>SqT K H4 t [kV kv.1,kv.2]) ts (ps.map kvA):=paired_mapR p4 fun _ _ z=>z
  refine ⟨D3,ts,_,rfl,e4,kp2,fun d hd0=>?_⟩
  have ekS:fillK (ps.map kvA) []=ps.map kvA:=fill_nd _ [] (by
   rw [List.nil_append,keys_ps]
   exact nd_inr n1)
  rw [ekS]
  have s5:=(s3.trans s4).trans (same_laid hd0 (.dK (ps.map kvA)))
  have s45:=same_laid hd0 (.dK (ps.map kvA))
  have fd0:H d=none:=(s3.trans s4).free hd0
  have S5:NmV ps (fun n=>nums rules n 0) (upd H4 d (.dK (ps.map kvA))) d:=⟨upd_same,n1,n4,fun p hp=>s45 _ _ (l4 p hp).1⟩
  have fps:∀ p∈ps,H p.2=none:=fun p hp=>s3.free (l4 p hp).2.1
  generalize upd H4 d (.dK (ps.map kvA))=H5 at s5 S5
  clear s45
  refine ⟨_,rfl,R,_,rfl,s5.seq hR,?_⟩
  refine for_enum (xs:=rs.map V.ref) (fun i σ H6=>∃ (y2 y3:Option V),σ=[some (.ref R),some (.ref d),y2,y3]∧Same H H6∧NmV ps (fun n=>nums rules n i) H6 d) ⟨none,none,rfl,s5,S5⟩ ?_ ?_ ?_
  ·rintro i σ H6 _ ⟨y2,y3,rfl,s6,_⟩
   exact s6.seq hR
  ·rintro i x σ H6 t ex ⟨y2,y3,rfl,s6,S6⟩ ht
   rw [List.getElem?_map] at ex
   obtain ⟨r,er,rfl⟩:=Option.map_eq_some_iff.mp ex
   obtain ⟨ru,er1,p,v1,v2⟩:=hrl.get er
   have hmem:=List.mem_of_getElem? er1
   have li:=(List.getElem?_eq_some_iff.mp er1).1
   have s67:=same_laid ht (.tup [.int (i:Int),.ref r])
   have hv7:SqT K (upd H6 t (.tup [.int (i:Int),.ref r])) t [.int (i:Int),.ref r]:=SqT.of upd_same
   have s7:=s6.trans s67
   have S7:=S6.same s67
   generalize upd H6 t (.tup [.int (i:Int),.ref r])=H7 at hv7 s7 S7
   obtain ⟨pn,hpn,epn⟩:∃ pn∈ps,pn.1=ru.1:=by
    have:ru.1∈ps.map (·.1):=by rw [m4]; exact (ded_mem _ _ _).mpr (.inr (List.mem_map_of_mem hmem))
    obtain ⟨pn,a,b⟩:=List.mem_map.mp this
    exact ⟨pn,a,b⟩
   have an:=S7.lst pn hpn
   have vn:=val_ps ps n1 pn hpn
   rw [epn] at vn
   have hg:DGet H7 d (.str ru.1) (some (.ref pn.2)):=by
    have:=DGet.k (k:=Sum.inr ru.1) S7.hd
    rw [vn] at this
    exact this
   have ln:=nums_len rules pn.1 i
   refine ⟨t,_,rfl,hv7,rfl,_,_,rfl,_,_,rfl,rfl,?_⟩
   refine ⟨_,rfl,_,rfl,r,_,_,_,rfl,rfl,s7.tup v1,rfl,d,_,rfl,hg,.inl ⟨rfl,_,SqL.of an⟩,_,rfl,pn.2,_,_,rfl,rfl,an,fits' (by rw [List.length_map]; omega),?_⟩
   have S8:=S7.more hpn (i:Int)
   refine ⟨_,_,rfl,fun b o hb=>by rw [upd_ne (fun z=>by rw [z,fps pn hpn] at hb; cases hb)]; exact s7 b o hb,S8.hd,S8.n1,S8.n2,fun p' hp'=>?_⟩
   have:=S8.lst p' hp'
   rw [this]
   congr 3
   unfold addNm
   rw [nums_succ]
   by_cases c:p'.1=pn.1
   ·rw [if_pos c,if_pos]
    unfold isH
    rw [er1,c,epn]
    simp
   ·rw [if_neg c,if_neg,List.append_nil]
    unfold isH
    rw [er1]
    intro z
    have z2:=of_decide_eq_true z
    injection z2 with z3
    exact c (by rw [epn]; exact z3.symm)
  ·rintro σ H6 ⟨y2,y3,rfl,s6,S6⟩
   rw [List.length_map,ll] at S6
   exact ⟨_,rfl,q d ps H6 fd0 s6 S6 m4 fps⟩
def spStd (K:PySem.W.Frag):Sp:=fun vs H Q _=>∃ (R:Addr) (rs:List Addr) (rules:List Rule),vs=[.ref R]∧SqL K H R (rs.map V.ref)∧Rules K H rs rules∧rules.length≤1000∧(∀ ru∈rules,ru.2.length≤8) ∧
 ∀ (d:Addr) (H':Hp),H d=none→Same H H'→Q (.ref d) H'
structure SdV (H0 H:Hp) (d:Addr) (kvs:List (Key×V)) (n:Nat):Prop where
 hd:H d=some (.dK kvs)
 ln:kvs.length≤n
 lst:∀ kv∈kvs,∃ a xs,kv.2=.ref a∧H a=some (.lst xs)∧H0 a=none∧xs.length≤n
theorem SdV.same {H0 H H':Hp} {d:Addr} {kvs:List (Key×V)} {n:Nat} (h:SdV H0 H d kvs n) (s:Same H H'):SdV H0 H' d kvs n:=⟨s _ _ h.hd,h.ln,fun kv hk=>let ⟨a,xs,e1,e2,e3,e4⟩:=h.lst kv hk; ⟨a,xs,e1,s _ _ e2,e3,e4⟩⟩
theorem SdV.more {H0 H:Hp} {d a:Addr} {kvs:List (Key×V)} {n:Nat} {xs:List V} {y:V} (h:SdV H0 H d kvs (n+1)) (ha:H a=some (.lst xs)) (lx:xs.length≤n) (l2:∀ kv∈kvs,∃ a xs,kv.2=.ref a∧H a=some (.lst xs)∧H0 a=none∧xs.length≤n):SdV H0 (upd H a (.lst (xs++[y]))) d kvs (n+1):=by
 have nd:d≠a:=fun z=>by have:=h.hd; rw [z,ha] at this; cases this
 refine ⟨by rw [upd_ne nd]; exact h.hd,h.ln,fun kv hk=>?_⟩
 obtain ⟨b,ys,e1,e2,e3,e4⟩:=l2 kv hk
 by_cases c:b=a
 ·exact ⟨b,xs++[y],e1,by rw [c,upd_same],e3,by rw [List.length_append]; simp; omega⟩
 ·exact ⟨b,ys,e1,by rw [upd_ne c]; exact e2,e3,by omega⟩
theorem val_in {kvs:List (Key×V)} {k:Key} {v:V} (h:valV kvs k=some v):∃ kv∈kvs,kv.2=v:=by
 unfold valV at h
 obtain ⟨kv,e1,e2⟩:=Option.map_eq_some_iff.mp h
 exact ⟨kv,List.mem_of_find?_eq_some e1,e2⟩
theorem scStd:FnScope ["rules","standings","number","rule","place","part"] ["rules"] (defScope sStd):=⟨rfl,rfl,rfl,by decide +kernel,rfl,by decide +kernel,by decide +kernel⟩
theorem ok_std (F:Fun K "standings_by_part" "standings_by_part" sStd f fd) (T:Txt mg):FnOk P w K mg base CX0 1 f fd ["rules"] (spStd K):=by
 refine F.ok scStd (fun vs H Q E h=>?_) (fun cdv A outer s H vs Q E hr h=>?_)
 ·obtain ⟨R,rs,rules,rfl,_⟩:=h; rfl
 ·obtain ⟨R,rs,rules,rfl,hR,hrl,hlen,h8,q⟩:=h
  have hu:=hu_of hr
  refine ⟨_,pss_cons (ps_set (i:=1) scStd.nd rfl (Or.inl rfl) pe_dnewK)
   (pss_cons (ps_for PassesOwn.never rfl (pi_enum rfl T.enu (pa_cons (pv 0) pa_nil)) (pg_tup rfl (pgs_cons (pg_name (i:=2) scStd.nd rfl (Or.inl rfl)) (pgs_cons (pg_name (i:=3) scStd.nd rfl (Or.inl rfl)) pgs_nil)))
    (pss_one (ps_for PassesOwn.never rfl (pi_enumT rfl T.enu (pa_cons (pe_ix ix_tup (pv 3) pe_int (fun _ _=>rfl)) pa_nil)) (pg_tup rfl (pgs_cons (pg_name (i:=4) scStd.nd rfl (Or.inl rfl)) (pgs_cons (pg_name (i:=5) scStd.nd rfl (Or.inl rfl)) pgs_nil)))
     (pss_one (ps_expr (pe_bm PySem.F.plainAttrs_list PySem.F.slot_list_append PySem.F.type_list_append mt_append (pe_dsetd (pv 1) (pv 5) (pe_lst pa_nil) ⟨rfl,rfl,rfl,rfl⟩) (pa_cons (pe_tup (pa_cons (pv 2) (pa_cons (pv 4) pa_nil))) pa_nil)))))))
   (pss_one (ps_ret (pv 1)))),?_⟩
  have ll:=Paired.length hrl
  intro d hd0
  have s1:=same_laid hd0 (.dK [])
  have S1:SdV H (upd H d (.dK [])) d [] (8 * 0):=⟨upd_same,Nat.le_refl _,fun kv hk=>by cases hk⟩
  generalize upd H d (.dK [])=H1 at s1 S1
  refine ⟨_,rfl,R,_,rfl,s1.seq hR,?_⟩
  refine for_enum (xs:=rs.map V.ref) (fun i σ H6=>∃ (kvs:List (Key×V)) (y2 y3 y4 y5:Option V),σ=[some (.ref R),some (.ref d),y2,y3,y4,y5]∧Same H H6∧SdV H H6 d kvs (8 * i)) ⟨[],none,none,none,none,rfl,s1,S1⟩ ?_ ?_ ?_
  ·rintro i σ H6 _ ⟨kvs,y2,y3,y4,y5,rfl,s6,_⟩
   exact s6.seq hR
  ·rintro i x σ H6 t ex ⟨kvs,y2,y3,y4,y5,rfl,s6,S6⟩ ht
   rw [List.getElem?_map] at ex
   obtain ⟨r,er,rfl⟩:=Option.map_eq_some_iff.mp ex
   obtain ⟨ru,er1,p,v1,v2⟩:=hrl.get er
   have hmem:=List.mem_of_getElem? er1
   have h8r:=h8 ru hmem
   have li:=(List.getElem?_eq_some_iff.mp er1).1
   have s67:=same_laid ht (.tup [.int (i:Int),.ref r])
   have hv7:SqT K (upd H6 t (.tup [.int (i:Int),.ref r])) t [.int (i:Int),.ref r]:=SqT.of upd_same
   have s7:=s6.trans s67
   have S7:=S6.same s67
   generalize upd H6 t (.tup [.int (i:Int),.ref r])=H7 at hv7 s7 S7
   refine ⟨t,_,rfl,hv7,rfl,_,_,rfl,_,_,rfl,rfl,?_⟩
   refine ⟨_,rfl,r,_,_,_,rfl,rfl,s7.tup v1,rfl,p,_,rfl,s7.tup v2,?_⟩
   refine for_enumT (xs:=ru.2.map V.str) (fun j σ H9=>∃ (kvs:List (Key×V)) (y4 y5:Option V),σ=[some (.ref R),some (.ref d),some (.int (i:Int)),some (.ref r),y4,y5]∧Same H H9∧SdV H H9 d kvs (8 * i+j)) ⟨kvs,_,_,rfl,s7,S7⟩ ?_ ?_ ?_
   ·rintro j σ H9 _ ⟨kvs,y4,y5,rfl,s9,_⟩
    exact s9.tup v2
   ·rintro j x σ H9 t2 ex2 ⟨kvs,y4,y5,rfl,s9,S9⟩ ht2
    rw [List.getElem?_map] at ex2
    obtain ⟨z,ez,rfl⟩:=Option.map_eq_some_iff.mp ex2
    have lj:=(List.getElem?_eq_some_iff.mp ez).1
    have s910:=same_laid ht2 (.tup [.int (j:Int),.str z])
    have hv10:SqT K (upd H9 t2 (.tup [.int (j:Int),.str z])) t2 [.int (j:Int),.str z]:=SqT.of upd_same
    have s10:=s9.trans s910
    have S10:=S9.same s910
    generalize upd H9 t2 (.tup [.int (j:Int),.str z])=H10 at hv10 s10 S10
    refine ⟨t2,_,rfl,hv10,rfl,_,_,rfl,_,_,rfl,rfl,?_⟩
    have lk:=S10.ln
    refine ⟨_,rfl,d,rfl,.inl ⟨kvs,.inl S10.hd⟩,_,rfl,(by show 0≤sizeLine; decide),fun l hl=>?_⟩
    have s11:=same_laid hl (.lst [])
    have e11:upd H10 l (.lst []) l=some (.lst []):=upd_same
    have fl:H l=none:=s10.free hl
    have S11:=S10.same s11
    have sA:=s10.trans s11
    generalize upd H10 l (.lst [])=H11 at s11 e11 S11 sA
    have fin:∀ (a:Addr) (xs:List V) (kvs':List (Key×V)) (H12:Hp),H12 a=some (.lst xs)→H a=none→xs.length≤8 * i+j→SdV H H12 d kvs' (8 * i+j+1)→(∀ kv∈kvs',∃ a xs,kv.2=.ref a∧H12 a=some (.lst xs)∧H a=none∧xs.length≤8 * i+j)→Same H H12 →
      ∀ t4,H12 t4=none→xs.length < sizeLine∧∃ (kvs:List (Key×V)) (y4 y5:Option V),[some (V.ref R),some (.ref d),some (.int (i:Int)),some (.ref r),some (.int (j:Int)),some (.str z)]=[some (.ref R),some (.ref d),some (.int (i:Int)),some (.ref r),y4,y5]∧Same H (upd (upd H12 t4 (.tup [.int (i:Int),.int (j:Int)])) a (.lst (xs++[.ref t4])))∧SdV H (upd (upd H12 t4 (.tup [.int (i:Int),.int (j:Int)])) a (.lst (xs++[.ref t4]))) d kvs (8 * i+(j+1)) :=
     fun a xs kvs' H12 ea fa lx S12 l12 s12 t4 ht4=>by
      have s14:=same_laid ht4 (.tup [.int (i:Int),.int (j:Int)])
      refine ⟨fits' (by omega),kvs',_,_,rfl,fun b o hb=>by rw [upd_ne (fun z=>by rw [z,fa] at hb; cases hb)]; exact s14 _ _ (s12 b o hb),?_⟩
      exact (S12.same s14).more (s14 _ _ ea) lx fun kv hk=>let ⟨b,ys,e1,e2,e3,e4⟩:=l12 kv hk; ⟨b,ys,e1,s14 _ _ e2,e3,e4⟩
    refine ⟨kvs,Sum.inr z,S11.hd,rfl,fits' (by omega),fun v hv=>?_,fun hn=>?_⟩
    ·obtain ⟨kv,hk,ek⟩:=val_in hv
     obtain ⟨a,xs,e1,e2,e3,e4⟩:=S11.lst kv hk
     rw [e1] at ek
     subst ek
     refine ⟨.inl ⟨rfl,_,SqL.of e2⟩,_,rfl,_,rfl,(by show 2≤sizeLine; decide),fun t4 ht4=>?_⟩
     obtain ⟨g1,g2⟩:=fin a xs kvs H11 e2 e3 e4 ⟨S11.hd,by omega,fun kv hk=>let ⟨b,ys,e1,e2,e3,e4⟩:=S11.lst kv hk; ⟨b,ys,e1,e2,e3,by omega⟩⟩ S11.lst sA t4 ht4
     exact ⟨a,_,_,rfl,rfl,same_laid ht4 _ _ _ e2,g1,g2⟩
    ·have nd:d≠l:=fun z=>by have:=S11.hd; rw [z,e11] at this; cases this
     have e12:upd H11 d (.dK (putK kvs (Sum.inr z) (.ref l))) l=some (.lst []):=by rw [upd_ne nd.symm]; exact e11
     have fd0:H d=none:=hd0
     have s12:Same H (upd H11 d (.dK (putK kvs (Sum.inr z) (.ref l)))):=fun b o hb=>by rw [upd_ne (fun z=>by rw [z,fd0] at hb; cases hb)]; exact sA b o hb
     have l12:∀ kv∈putK kvs (Sum.inr z) (.ref l),∃ a xs,kv.2=.ref a∧upd H11 d (.dK (putK kvs (Sum.inr z) (.ref l))) a=some (.lst xs)∧H a=none∧xs.length≤8 * i+j:=fun kv hk=>by
      rw [putK_new _ hn] at hk
      rcases List.mem_append.mp hk with h | h
      ·obtain ⟨b,ys,e1,e2,e3,e4⟩:=S11.lst kv h
       exact ⟨b,ys,e1,by rw [upd_ne (fun z=>by rw [z,S11.hd] at e2; cases e2)]; exact e2,e3,e4⟩
      ·rw [List.mem_singleton.mp h]
       exact ⟨l,[],rfl,e12,fl,by simp⟩
     have lp:=length_putK kvs (Sum.inr z:Key) (.ref l)
     have S12:SdV H (upd H11 d (.dK (putK kvs (Sum.inr z) (.ref l)))) d (putK kvs (Sum.inr z) (.ref l)) (8 * i+j+1):=⟨upd_same,by omega,fun kv hk=>let ⟨b,ys,e1,e2,e3,e4⟩:=l12 kv hk; ⟨b,ys,e1,e2,e3,by omega⟩⟩
     generalize upd H11 d (.dK (putK kvs (Sum.inr z) (.ref l)))=H12 at e12 s12 l12 S12
     refine ⟨.inl ⟨rfl,_,SqL.of e12⟩,_,rfl,_,rfl,(by show 2≤sizeLine; decide),fun t4 ht4=>?_⟩
     obtain ⟨g1,g2⟩:=fin l [] _ H12 e12 fl (by simp) S12 l12 s12 t4 ht4
     exact ⟨l,_,_,rfl,rfl,same_laid ht4 _ _ _ e12,g1,g2⟩
   ·rintro σ H9 ⟨kvs,y4,y5,rfl,s9,S9⟩
    rw [List.length_map] at S9
    refine ⟨kvs,_,_,_,_,rfl,s9,S9.hd,by have:=S9.ln; omega,fun kv hk=>let ⟨b,ys,e1,e2,e3,e4⟩:=S9.lst kv hk; ⟨b,ys,e1,e2,e3,by omega⟩⟩
  ·rintro σ H6 ⟨kvs,y2,y3,y4,y5,rfl,s6,S6⟩
   exact ⟨_,rfl,q d H6 hd0 s6⟩
end
end K11
namespace L2
open PySem M11
theorem comp_valsR {K:PySem.W.Frag} {H:Hp} {p D d:Addr} {zs:List Str} {kvs:List (Key×V)} {g:G} {σ:St} {js:List (Nat×Str)} {Qp:Hp→Prop} (hσ:capS ["part"] js σ=[none,some (.ref d)]) (hp:SqT K H p (zs.map V.str)) (hz:zs.length≤1000)
  (hd:Rd H d (.dK kvs)) (hv:∀ z,valV kvs (Sum.inr z)=(g z).map V.int) (ha:∀ z∈zs,(g z).isSome=true) (hD:H D=none) (q:∀ H2,Same H H2→H2 D=some (.lst ((zs.map fun z=>(g z).getD 0).map V.int))→Qp H2) :
  ∃ W:Nat→Nat→List V→St→Hp→Prop,(∃ m,W 0 m [] (capS ["part"] js σ) (upd H D (.lst []))) ∧
 ∀ i m ys σ' H,W i m ys σ' H→((Itt K p).stop i H∧Qp H)∨((Itt K p).go i H∧∃ m',m' < m∧∀ x H',(Itt K p).yld i H x H'→gName 0 x σ' H' fun σ2 H2=>tTrue σ2 H2 fun b H3 =>
  if b=true then tDGet (tVar 1) (tVar 0) σ2 H3 fun y H4=>H4 D=some (.lst ys)∧ys.length < sizeLine∧W (i+1) m' (ys++[y]) σ2 (upd H4 D (.lst (ys++[y]))) else W (i+1) m' ys σ2 H3):=by
 refine compG_tup (xs:=zs.map V.str) (fun i ys σ2 H2=>ys=(((zs.take i).map fun z=>(g z).getD 0).map V.int)∧(∃ y0,σ2=[y0,some (.ref d)])∧Same H H2∧H2 D=some (.lst ys))
  ⟨rfl,⟨none,hσ⟩,same_laid hD _,upd_same⟩ (fun i ys σ2 H2 _ h=>h.2.2.1.tup hp) (fun i x ys σ2 H2 ex h=>?_) (fun ys σ2 H2 h=>?_)
 ·obtain ⟨rfl,⟨y0,rfl⟩,sm,hd2⟩:=h
  rw [List.getElem?_map] at ex
  obtain ⟨z,ez,rfl⟩:=Option.map_eq_some_iff.mp ex
  have li:=(List.getElem?_eq_some_iff.mp ez).1
  obtain ⟨n,en⟩:=Option.isSome_iff_exists.mp (ha z (List.mem_of_getElem? ez))
  have hg:DGet H2 d (.str z) (some (.int n)):=by
   have:=DGet.r (k:=Sum.inr z) (K11.Rd.same hd sm)
   rw [hv,en] at this
   exact this
  refine goN (goT ?_)
  refine ⟨_,rfl,_,rfl,d,_,rfl,hg,hd2,fits' (by rw [List.length_map,List.length_map,List.length_take]; omega),?_,⟨_,rfl⟩,?_,upd_same⟩
  ·rw [List.take_add_one,ez,List.map_append,List.map_append]
   show _=_++[V.int ((g z).getD 0)]
   rw [en]; rfl
  ·intro b o hb
   rw [upd_ne (fun z=>by rw [z,hD] at hb; cases hb)]
   exact sm b o hb
 ·obtain ⟨rfl,_,sm,hd2⟩:=h
  rw [List.length_map,List.take_length] at hd2
  exact q H2 sm hd2
end L2
namespace K11
open PySem L2 M11
section
variable {P:Program} {w:World} {K:PySem.W.Frag} {mg:Str→Option Value} {base:Heap} {f:Addr} {fd:FuncData}
def spRuleSize (K:PySem.W.Frag):Sp:=fun vs H Q _=>∃ (d r:Addr) (kvs:List (Key×V)) (g:G) (ru:Rule),vs=[.ref d,.ref r]∧Rd H d (.dK kvs)∧(∀ z,valV kvs (Sum.inr z)=(g z).map V.int)∧RuleV K H r ru∧ru.2.length≤8∧(∀ z∈ru.2,(g z).isSome=true)∧∀ H',Same H H'→Q (.int (sizeG g ru)) H'
theorem scRuleSize:FnScope ["sizes","rule"] ["sizes","rule"] (defScope sRuleSize):=⟨rfl,rfl,rfl,by decide +kernel,rfl,by decide +kernel,by decide +kernel⟩
theorem ok_ruleSize (F:Fun K "rule_size" "rule_size" sRuleSize f fd) (T:Txt mg):FnOk P w K mg base CX0 1 f fd ["sizes","rule"] (spRuleSize K):=by
 refine F.ok scRuleSize (fun vs H Q E h=>?_) (fun cdv A outer s H vs Q E hr h=>?_)
 ·obtain ⟨d,r,kvs,g,ru,rfl,_⟩:=h; rfl
 ·obtain ⟨d,r,kvs,g,ru,rfl,hd,hv,⟨p,v1,v2⟩,h8,al,q⟩:=h
  have hu:=hu_of hr
  refine ⟨_,pss_one (ps_ret (pe_op op_add pe_int (pe_callB (call_sumN rfl) rfl T.sum PyProof.Rows.boot_sum (pa_cons (pe_compG ["part"] [(0,"sizes")] rfl (pi_tup (pe_ix ix_tup (pv 1) pe_int (fun _ _=>rfl))) (caps_of rfl rfl) (by decide +kernel) rfl (by decide +kernel)
    (fun _ _ _ _ _=>pg_name (i:=0) (show (["part","sizes"]:List Str).Nodup by decide +kernel) rfl (Or.inl rfl)) (fun _ _ _ _ _=>pif_nil) (fun _ _ _ _ _=>pe_dget hu (pv 1) (pv 0) (fun _ _=>rfl))) pa_nil)))),?_⟩
  refine ⟨_,rfl,r,_,_,_,rfl,rfl,v1,rfl,p,rfl,⟨_,v2⟩,fun D hD=>comp_valsR (g:=g) rfl v2 (by omega) hd hv al hD fun H2 s2 e2=>?_⟩
  refine ⟨D,_,rfl,SqL.of e2,_,_,rfl,rfl,?_⟩
  exact q H2 s2
end
end K11
namespace M11
open PySem
theorem Emp.at_ {rules:List Rule} {ets:List (Str×Nat)} (h:Emp rules ets):∀ (i:Nat) (x:Str) (k:Nat),ets[i]?=some (x,k)→∃ parts,rules[k]?=some (x,parts)∧∀ p∈parts,p∈(ets.take i).map (·.1):=by
 induction h with
 | nil=>intro i x k e; simp at e
 | @snoc ets k2 ru h e n p ih =>
  intro i x k ei
  by_cases hi:i < ets.length
  ·rw [List.getElem?_append_left hi] at ei
   obtain ⟨parts,a,b⟩:=ih i x k ei
   exact ⟨parts,a,fun q hq=>by rw [List.take_append_of_le_length (Nat.le_of_lt hi)]; exact b q hq⟩
  ·have li:=(List.getElem?_eq_some_iff.mp ei).1
   rw [List.length_append,List.length_singleton] at li
   have e2:i=ets.length:=by omega
   subst e2
   rw [List.getElem?_append_right (Nat.le_refl _),Nat.sub_self] at ei
   cases ei
   exact ⟨ru.2,e,fun q hq=>by rw [List.take_left']; exact p q hq; rfl⟩
end M11
namespace K11
open PySem L2 M11
section
variable {P:Program} {w:World} {K:PySem.W.Frag} {mg:Str→Option Value} {base:Heap} {f:Addr} {fd:FuncData}
theorem comp_trees {H:Hp} {p D d:Addr} {zs:List Str} {kvs:List (Key×V)} {σ:St} {js:List (Nat×Str)} {Qp:Hp→Prop} (hσ:capS ["part"] js σ=[none,some (.ref d)]) (hp:SqT K H p (zs.map V.str)) (hz:zs.length≤1000)
  (hd:H d=some (.dK kvs)) (ha:∀ z∈zs,(Sum.inr z:Key)∈kvs.map (·.1)) (hD:H D=none) (q:∀ ys H2,ys.length=zs.length→Same H H2→H2 D=some (.lst ys)→Qp H2) :
  ∃ W:Nat→Nat→List V→St→Hp→Prop,(∃ m,W 0 m [] (capS ["part"] js σ) (upd H D (.lst []))) ∧
 ∀ i m ys σ' H,W i m ys σ' H→((Itt K p).stop i H∧Qp H)∨((Itt K p).go i H∧∃ m',m' < m∧∀ x H',(Itt K p).yld i H x H'→gName 0 x σ' H' fun σ2 H2=>tTrue σ2 H2 fun b H3 =>
  if b=true then tDGet (tVar 1) (tVar 0) σ2 H3 fun y H4=>H4 D=some (.lst ys)∧ys.length < sizeLine∧W (i+1) m' (ys++[y]) σ2 (upd H4 D (.lst (ys++[y]))) else W (i+1) m' ys σ2 H3):=by
 refine compG_tup (xs:=zs.map V.str) (fun i ys σ2 H2=>ys.length=i∧(∃ y0,σ2=[y0,some (.ref d)])∧Same H H2∧H2 D=some (.lst ys))
  ⟨rfl,⟨none,hσ⟩,same_laid hD _,upd_same⟩ (fun i ys σ2 H2 _ h=>h.2.2.1.tup hp) (fun i x ys σ2 H2 ex h=>?_) (fun ys σ2 H2 h=>?_)
 ·obtain ⟨rfl,⟨y0,rfl⟩,sm,hd2⟩:=h
  rw [List.getElem?_map] at ex
  obtain ⟨z,ez,rfl⟩:=Option.map_eq_some_iff.mp ex
  have li:=(List.getElem?_eq_some_iff.mp ez).1
  obtain ⟨v,ev⟩:=Option.isSome_iff_exists.mp ((val_mem kvs (Sum.inr z)).mpr (ha z (List.mem_of_getElem? ez)))
  have hg:DGet H2 d (.str z) (some v):=by
   have:=DGet.k (k:=Sum.inr z) (sm _ _ hd)
   rw [ev] at this
   exact this
  refine goN (goT ?_)
  refine ⟨_,rfl,_,rfl,d,_,rfl,hg,hd2,fits' (by omega),by rw [List.length_append]; rfl,⟨_,rfl⟩,?_,upd_same⟩
  intro b o hb
  rw [upd_ne (fun z=>by rw [z,hD] at hb; cases hb)]
  exact sm b o hb
 ·obtain ⟨e,_,sm,hd2⟩:=h
  rw [List.length_map] at e
  exact q ys H2 e sm hd2
def spEmptyBy (K:PySem.W.Frag):Sp:=fun vs H Q _=>∃ (R D:Addr) (rs ts:List Addr) (rules:List Rule) (ets:List (Str×Nat)),vs=[.ref R,.ref D]∧SqL K H R (rs.map V.ref)∧Rules K H rs rules∧rules.length≤1000∧(∀ ru∈rules,ru.2.length≤8)∧SqL K H D (ts.map V.ref)∧EtsV K H ts ets∧Emp rules ets∧ets.length≤1000 ∧
 ∀ (d:Addr) (kvs:List (Key×V)) (H':Hp),H d=none→Same H H'→H' d=some (.dK kvs)→kvs.map (·.1)=(ets.map (·.1)).map Sum.inr→Q (.ref d) H'
theorem scEmptyBy:FnScope ["rules","empties","trees","name","number"] ["rules","empties"] (defScope sEmptyBy):=⟨rfl,rfl,rfl,by decide +kernel,rfl,by decide +kernel,by decide +kernel⟩
theorem ok_emptyBy (F:Fun K "empty_by_name" "empty_by_name" sEmptyBy f fd) (T:Txt mg):FnOk P w K mg base CX0 1 f fd ["rules","empties"] (spEmptyBy K):=by
 refine F.ok scEmptyBy (fun vs H Q E h=>?_) (fun cdv A outer s H vs Q E hr h=>?_)
 ·obtain ⟨R,D,rs,ts,rules,ets,rfl,_⟩:=h; rfl
 ·obtain ⟨R,D,rs,ts,rules,ets,rfl,hR,hrl,hlen,h8,hD,hev,hemp,hel,q⟩:=h
  have hu:=hu_of hr
  refine ⟨_,pss_cons (ps_set (i:=2) scEmptyBy.nd rfl (Or.inr rfl) pe_dnewK)
   (pss_cons (ps_for PassesOwn.never rfl (pi_list (pv 1)) (pg_tupK (n:=2) K rfl (pgs_cons (pg_name (i:=3) scEmptyBy.nd rfl (Or.inl rfl)) (pgs_cons (pg_name (i:=4) scEmptyBy.nd rfl (Or.inl rfl)) pgs_nil)))
    (pss_one (ps_dput hu (pv 2) (pv 3) (pe_tup (pa_cons (pv 4) (pa_cons (pe_callTy call_tuple_of rfl T.tup PyProof.Rows.boot_tuple (pa_cons (pe_compG ["part"] [(2,"trees")] rfl (pi_tup (pe_ix ix_tup (pe_ix ix_list (pv 0) (pv 4) (fun _ _=>rfl)) pe_int (fun _ _=>rfl))) (caps_of rfl rfl) (by decide +kernel) rfl (by decide +kernel)
     (fun _ _ _ _ _=>pg_name (i:=0) (show (["part","trees"]:List Str).Nodup by decide +kernel) rfl (Or.inl rfl)) (fun _ _ _ _ _=>pif_nil) (fun _ _ _ _ _=>pe_dget hu (pv 1) (pv 0) (fun _ _=>rfl))) pa_nil)) pa_nil))) rfl)))
   (pss_one (ps_ret (pv 2)))),?_⟩
  refine fun d fd0=>?_
  have s1:=same_laid fd0 (.dK [])
  have e1:upd H d (.dK []) d=some (.dK []):=upd_same
  generalize upd H d (.dK [])=H1 at s1 e1
  refine goN ?_
  have lt:=Paired.length hev
  have ll:=Paired.length hrl
  have nd:=hemp.nd
  refine ⟨_,rfl,D,rfl,⟨_,s1.seq hD⟩,for_list (xs:=ts.map V.ref) (fun i σ H3=>∃ (kvs:List (Key×V)) (y3 y4:Option V),σ=[some (.ref R),some (.ref D),some (.ref d),y3,y4]∧Same H H3∧H3 d=some (.dK kvs)∧kvs.map (·.1)=((ets.take i).map (·.1)).map Sum.inr) ⟨[],_,_,rfl,s1,e1,rfl⟩ ?_ ?_ ?_⟩
  ·rintro i σ H3 _ ⟨kvs,y3,y4,rfl,s3,_⟩
   exact s3.seq hD
  ·rintro i x σ H3 ex ⟨kvs,y3,y4,rfl,s3,ed,ek⟩
   rw [List.getElem?_map] at ex
   obtain ⟨t,et,rfl⟩:=Option.map_eq_some_iff.mp ex
   have li:=(List.getElem?_eq_some_iff.mp et).1
   obtain ⟨e,ee⟩:∃ e,ets[i]?=some e:=⟨ets[i]'(by omega),List.getElem?_eq_getElem (by omega)⟩
   obtain ⟨t',et',vt⟩:=Paired.at_ hev i e ee
   rw [et] at et'
   cases et'
   obtain ⟨x,k⟩:=e
   obtain ⟨parts,hk,hps⟩:=hemp.at_ i x k ee
   obtain ⟨r,er,p,v1,v2⟩:=Paired.at_ hrl k _ hk
   have atk:atI (rs.map V.ref) (k:Int)=some (.ref r):=atI_nat (by rw [List.getElem?_map,er]; rfl)
   have hp8:parts.length≤8:=h8 _ (List.mem_of_getElem? hk)
   refine ⟨t,_,rfl,s3.tup vt,rfl,_,_,rfl,_,_,rfl,rfl,?_⟩
   refine ⟨_,rfl,_,rfl,_,rfl,R,_,_,_,rfl,rfl,s3.seq hR,atk,r,_,_,_,rfl,rfl,s3.tup v1,rfl,p,rfl,⟨_,s3.tup v2⟩,fun D2 hD2=>comp_trees (zs:=parts) rfl (s3.tup v2) (by omega) ed (fun z hz=>by rw [ek]; exact inr_mem.mpr (hps z hz)) hD2 fun ys H4 ly s4 e4=>?_⟩
   refine ⟨D2,ys,rfl,.inl ⟨SqL.of e4,fun t2 ft2=>⟨(by show 2≤sizeLine; decide),fun nd2 fnd2=>?_⟩⟩⟩
   have k5:=(same_laid ft2 (.tup ys)).trans (same_laid fnd2 (.tup [.int (k:Int),.ref t2]))
   generalize upd (upd H4 t2 (.tup ys)) nd2 (.tup [.int (k:Int),.ref t2])=H5 at k5
   have ed5:=k5 _ _ (s4 _ _ ed)
   have lkv:kvs.length=i:=by
    have:=congrArg List.length ek
    rw [List.length_map,List.length_map,List.length_map,List.length_take] at this
    omega
   have nx:x∉(ets.take i).map (·.1):=fun z=>by
    obtain ⟨e2,m2,q2⟩:=List.mem_map.mp z
    obtain ⟨j,hj⟩:=List.getElem?_of_mem m2
    rw [List.getElem?_take] at hj
    split at hj
    ·rename_i hji
     have a1:(ets.map (·.1))[j]?=some x:=by rw [List.getElem?_map,hj]; exact congrArg some q2
     have a2:(ets.map (·.1))[i]?=some x:=by rw [List.getElem?_map,ee]; rfl
     have:=(List.getElem?_inj (by rw [List.length_map]; omega) nd).mp (a1.trans a2.symm)
     omega
    ·cases hj
   refine ⟨_,rfl,_,rfl,d,_,rfl,.inl ⟨kvs,Sum.inr x,ed5,rfl,fits' (by omega),rfl⟩,?_⟩
   refine ⟨_,_,_,rfl,fun b o hb=>?_,upd_same,?_⟩
   ·rw [upd_ne (fun z=>by rw [z,fd0] at hb; cases hb)]
    exact k5 _ _ (s4 _ _ (s3 b o hb))
   ·rw [put_out (by rw [ek]; exact fun z=>nx (inr_mem.mp z)),ek,List.take_add_one,ee,List.map_append,List.map_append]
    rfl
  ·rintro σ H3 ⟨kvs,y3,y4,rfl,s3,ed,ek⟩
   rw [List.length_map,lt,List.take_length] at ek
   exact ⟨_,rfl,q d kvs H3 fd0 s3 ed ek⟩
end
end K11
namespace M11
open PySem
def Le (g' g:G):Prop:=∀ z n,g z=some n→∃ m,g' z=some m∧m≤n
theorem fires_lt {g:G} {ru:Rule} (f:firesB bl g ru=true):allIn g ru=true∧∀ n,g ru.1=some n→sizeG g ru < n:=by
 unfold firesB at f
 rw [Bool.and_eq_true] at f
 refine ⟨f.1,fun n e=>?_⟩
 have:=f.2
 rw [e] at this
 have:(!(some n:Option Int).isSome || bl (sizeG g ru) n)=true:=this
 simpa [bl] using this
theorem le_step {g:G} {ru:Rule} (f:firesB bl g ru=true):Le (setG g ru.1 (sizeG g ru)) g:=fun z n e=>by
 unfold setG
 by_cases c:z=ru.1
 ·rw [if_pos c]
  subst c
  exact ⟨_,rfl,Int.le_of_lt ((fires_lt f).2 n e)⟩
 ·rw [if_neg c]
  exact ⟨n,e,Int.le_refl _⟩
theorem sum_le {g g':G} (h:Le g' g):∀ ps:List Str,(∀ p∈ps,(g p).isSome=true)→(∀ p∈ps,(g' p).isSome=true)∧(ps.map fun p=>(g' p).getD 0).sum≤(ps.map fun p=>(g p).getD 0).sum
 | [],_=>⟨fun p hp=>(by cases hp),Int.le_refl _⟩
 | p::r,a=>by
  obtain ⟨h1,h2⟩:=sum_le h r fun q hq=>a q (List.mem_cons_of_mem _ hq)
  obtain ⟨n,en⟩:=Option.isSome_iff_exists.mp (a p List.mem_cons_self)
  obtain ⟨m,em,lm⟩:=h p n en
  refine ⟨fun q hq=>?_,?_⟩
  ·rcases List.mem_cons.mp hq with rfl | hq
   ·rw [em]; rfl
   ·exact h1 q hq
  ·rw [List.map_cons,List.map_cons,List.sum_cons,List.sum_cons,en,em]
   show m+_≤n+_
   omega
theorem allIn_iff {g:G} {ru:Rule}:allIn g ru=true↔∀ p∈ru.2,(g p).isSome=true:=by
 unfold allIn
 rw [List.all_eq_true]
theorem size_le {g g':G} {ru:Rule} (h:Le g' g) (a:allIn g ru=true):allIn g' ru=true∧sizeG g' ru≤sizeG g ru:=by
 obtain ⟨h1,h2⟩:=sum_le h ru.2 (allIn_iff.mp a)
 exact ⟨allIn_iff.mpr h1,by unfold sizeG; omega⟩
def Wit (rules:List Rule) (hs:List Str) (g:G):Prop:=∀ h n,g h=some n→h∉hs∨∃ ru∈rules,ru.1=h∧allIn g ru=true∧sizeG g ru≤n
theorem wit_step {rules:List Rule} {hs:List Str} (g:G) (ru:Rule) (j:Wit rules hs g) (m:ru∈rules) (f:firesB bl g ru=true):Wit rules hs (setG g ru.1 (sizeG g ru)):=fun h n e=>by
 have le:=le_step f
 by_cases c:h=ru.1
 ·have e2:n=sizeG g ru:=by
   unfold setG at e
   rw [if_pos c] at e
   exact (Option.some.inj e).symm
  obtain ⟨a1,a2⟩:=size_le le (fires_lt f).1
  exact .inr ⟨ru,m,c.symm,a1,by omega⟩
 ·have e2:g h=some n:=by
   unfold setG at e
   rw [if_neg c] at e
   exact e
  rcases j h n e2 with h1 | ⟨ru2,m2,q2,a2,l2⟩
  ·exact .inl h1
  ·obtain ⟨b1,b2⟩:=size_le le a2
   exact .inr ⟨ru2,m2,q2,b1,by omega⟩
theorem least_wit {rules:List Rule} {hs:List Str} {g0 g:G} (j0:Wit rules hs g0) (st:Steps bl rules g0 g) (se:Settled bl rules g) {h:Str} {n:Int} (hh:h∈hs) (e:g h=some n):∃ ru∈rules,ru.1=h∧allIn g ru=true∧sizeG g ru=n:=by
 have j:Wit rules hs g:=Steps.keep (J:=Wit rules hs) (fun g ru j m f=>wit_step g ru j m f) st j0
 rcases j h n e with z | ⟨ru,m,q,a,l⟩
 ·exact absurd hh z
 ·refine ⟨ru,m,q,a,?_⟩
  have f:=se ru m
  unfold firesB at f
  rw [a,q,e] at f
  have f:(true && (!(some n:Option Int).isSome || bl (sizeG g ru) n))=false:=f
  have f2:¬ sizeG g ru < n:=by simpa [bl] using f
  omega
theorem part_lt {g:G} (nn:NN g):∀ (ps:List Str) (p:Str) (m:Int),p∈ps→g p=some m→m≤(ps.map fun p=>(g p).getD 0).sum
 | q::r,p,m,hp,e=>by
  rw [List.map_cons,List.sum_cons]
  have h1:=sum_nonneg g nn r
  rcases List.mem_cons.mp hp with rfl | hp
  ·rw [e]
   show m≤m+_
   omega
  ·have h2:=part_lt nn r p m hp e
   have h3:0≤(g q).getD 0:=by
    cases eq:g q with
    | none=>exact Int.le_refl _
    | some n=>exact nn q n eq
   omega
theorem part_size {g:G} (nn:NN g) {ru:Rule} {p:Str} {m:Int} (hp:p∈ru.2) (e:g p=some m):m < sizeG g ru:=by
 have:=part_lt nn ru.2 p m hp e
 unfold sizeG
 omega
theorem wds_out:∀ (heads ps acc:List Str),(∀ z∈acc,z∉heads)→∀ z∈wds heads acc ps,z∉heads
 | _,[],acc,h=>h
 | heads,p::r,acc,h=>by
  show ∀ z∈wds heads (addW heads acc p) r,z∉heads
  refine wds_out heads r _ ?_
  unfold addW
  split
  ·exact h
  ·rename_i hp
   unfold add1
   split
   ·exact h
   ·intro z hz
    rcases List.mem_append.mp hz with hz | hz
    ·exact h z hz
    ·rw [List.mem_singleton.mp hz]; exact hp
theorem sorted_ahead {g:Str→Int} {zs:List Str} (h:zs.Pairwise fun x y=>g x≤g y) {i:Nat} {x p:Str} (e:zs[i]?=some x) (hp:p∈zs) (l:g p < g x):p∈zs.take i:=by
 obtain ⟨j,ej⟩:=List.getElem?_of_mem hp
 obtain ⟨li,ei⟩:=List.getElem?_eq_some_iff.mp e
 obtain ⟨lj,ej2⟩:=List.getElem?_eq_some_iff.mp ej
 have hji:j < i:=by
  rcases Nat.lt_trichotomy j i with h1 | h1 | h1
  ·exact h1
  ·subst h1
   rw [e] at ej
   cases ej
   omega
  ·have:=List.pairwise_iff_getElem.mp h i j li lj h1
   rw [ei,ej2] at this
   omega
 rw [List.mem_iff_getElem?]
 exact ⟨j,by rw [List.getElem?_take,if_pos hji]; exact ej⟩
end M11
namespace K11
open PySem L2 M11
theorem wit0 (rules:List Rule):Wit rules (hd rules) (g0L rules):=fun h n e=>by
 unfold g0L at e
 by_cases c:h∈wds (hd rules) [] (rules.flatMap (·.2))
 ·exact .inl (wds_out _ _ [] (fun z hz=>by cases hz) h c)
 ·rw [if_neg c] at e; cases e
theorem nn0 (rules:List Rule):NN (g0L rules):=fun h n e=>by
 unfold g0L at e
 by_cases c:h∈wds (hd rules) [] (rules.flatMap (·.2))
 ·rw [if_pos c] at e; cases e; exact Int.le_refl _
 ·rw [if_neg c] at e; cases e
theorem nn_all {rules:List Rule} {g:G} (st:Steps M11.bl rules (g0L rules) g):NN g:=Steps.keep (J:=NN) (fun g ru j m f=>nn_step j ru) st (nn0 rules)
end K11
namespace K11
open PySem L2 M11
theorem wds_inn (heads:List Str):∀ (ps acc:List Str) (x:Str),(x∈acc∨(x∈ps∧x∉heads))→x∈wds heads acc ps
 | [],acc,x,h=>by
  rcases h with h | ⟨h,_⟩
  ·exact h
  ·cases h
 | p::r,acc,x,h=>by
  show x∈wds heads (addW heads acc p) r
  apply wds_inn heads r
  unfold addW
  by_cases c:p∈heads
  ·rw [if_pos c]
   rcases h with h | ⟨h,n⟩
   ·exact .inl h
   ·rcases List.mem_cons.mp h with z | z
    ·exact absurd (z ▸ c) n
    ·exact .inr ⟨z,n⟩
  ·rw [if_neg c]
   rcases h with h | ⟨h,n⟩
   ·exact .inl ((add1_mem _ _ _).mpr (.inl h))
   ·rcases List.mem_cons.mp h with z | z
    ·exact .inl ((add1_mem _ _ _).mpr (.inr z))
    ·exact .inr ⟨z,n⟩
def posIn:List Stmt→Pos
 | [_,_,_,.For _ (.Call _ _ [⟨_,.Lambda _ _ _ pos,_⟩] _) _ _ _,_]=>pos
 | _=>⟨0,0,0,0⟩
abbrev posB:Pos:=posIn (defBody sLeastBy)
abbrev lqB:Str := "least_by_part" ++ ".<locals>." ++ "<lambda>"
section
variable {P:Program} {w:World} {K:PySem.W.Frag} {mg:Str→Option Value} {base:Heap} {f:Addr} {fd:FuncData}
def spLeastBy (K:PySem.W.Frag) (T1 T3:Addr):Sp:=fun vs H Q _=>∃ (R:Addr) (rs:List Addr) (rules:List Rule),vs=[.ref R]∧SqL K H R (rs.map V.ref)∧Rules K H rs rules∧rules.length < 64∧(∀ ru∈rules,ru.2.length≤8)∧(∀ g,Steps M11.bl rules (g0L rules) g→Settled M11.bl rules g→∀ h∈hd rules,∃ n,g h=some n∧n≤60)∧Tab T1 lmL.2.2.2 lqL H∧Tab T3 posB lqB H∧T1≠T3 ∧
 ∀ (d:Addr) (kvs:List (Key×V)) (H':Hp),H d=none→Same2 T1 T3 H H'→Tab T1 lmL.2.2.2 lqL H'→Tab T3 posB lqB H'→H' d=some (.dK kvs)→(∀ z,z∈hd rules→(Sum.inr z:Key)∈kvs.map (·.1))→Q (.ref d) H'
structure LB (K:PySem.W.Frag) (rs:List Addr) (rules:List Rule) (kvz:List (Key×V)) (ps:List (Str×Addr)) (R dz dn T1 T3:Addr) (H5:Hp):Prop where
 hR:SqL K H5 R (rs.map V.ref)
 hrl:Rules K H5 rs rules
 nm:NmV ps (fun n=>nums rules n rules.length) H5 dn
 rz:Rd H5 dz (.dK kvz)
 t1:Tab T1 lmL.2.2.2 lqL H5
 t3:Tab T3 posB lqB H5
theorem LB.same {rs:List Addr} {rules:List Rule} {kvz:List (Key×V)} {ps:List (Str×Addr)} {R dz dn T1 T3:Addr} {H5 H6:Hp} (h:LB K rs rules kvz ps R dz dn T1 T3 H5) (s:Same H5 H6):LB K rs rules kvz ps R dz dn T1 T3 H6 :=
 ⟨s.seq h.hR,h.hrl.same s,h.nm.same s,K11.Rd.same h.rz s,h.t1.same s,h.t3.same s⟩
theorem LB.keepT {rs:List Addr} {rules:List Rule} {kvz:List (Key×V)} {ps:List (Str×Addr)} {R dz dn T1 T3 d:Addr} {H5 H6:Hp} {kv:List (Key×V)} (h:LB K rs rules kvz ps R dz dn T1 T3 H5) (e:H5 d=some (.dK kv)) (n1:dn≠d) (n2:dz≠d) (s:SameT d H5 H6):LB K rs rules kvz ps R dz dn T1 T3 H6:=by
 have tk:∀ a xs,SqT K H5 a xs→SqT K H6 a xs:=fun a xs z=>by
  rcases z with (z | ⟨u,z⟩) | z
  ·exact .inl (.inl (s _ _ (fun y=>by rw [y,e] at z; cases z) z))
  ·exact .inl (.inr ⟨u,s _ _ (fun y=>by rw [y,e] at z; cases z) z⟩)
  ·exact .inr z
 have tb:∀ {T':Addr} {pos':Pos} {qu':Str},Tab T' pos' qu' H5→Tab T' pos' qu' H6:=fun {T' pos' qu'} ⟨p,a,b,cc⟩=>⟨p,s _ _ (fun y=>by rw [y,e] at a; cases a) a,b,cc.imp id fun ⟨c',e1,e2⟩=>⟨c',e1,s _ _ (fun y=>by rw [y,e] at e2; cases e2) e2⟩⟩
 refine ⟨?_,h.hrl.keep tk,⟨s _ _ n1 h.nm.hd,h.nm.n1,h.nm.n2,fun p hp=>s _ _ (fun y=>by have a:=h.nm.lst p hp; rw [y,e] at a; cases a) (h.nm.lst p hp)⟩,?_,tb h.t1,tb h.t3⟩
 ·rcases h.hR with (z | ⟨u,z⟩) | z
  ·exact .inl (.inl (s _ _ (fun y=>by rw [y,e] at z; cases z) z))
  ·exact .inl (.inr ⟨u,s _ _ (fun y=>by rw [y,e] at z; cases z) z⟩)
  ·exact .inr z
 ·rcases h.rz with z | ⟨u,z⟩
  ·exact .inl (s _ _ n2 z)
  ·exact .inr ⟨u,s _ _ n2 z⟩
theorem LB.sortT {rs:List Addr} {rules:List Rule} {kvz:List (Key×V)} {ps:List (Str×Addr)} {R dz dn T1 T3:Addr} {H5 H6:Hp} (h:LB K rs rules kvz ps R dz dn T1 T3 H5) (nT:T1≠T3) (s:SameT T3 H5 H6) (t:Tab T3 posB lqB H6):LB K rs rules kvz ps R dz dn T1 T3 H6:=by
 obtain ⟨pt,eT,_⟩:=id h.t3
 refine ⟨seqTT s h.t3 h.hR,h.hrl.keep fun _ _ z=>tupTT s h.t3 z,⟨s _ _ (fun y=>by have a:=h.nm.hd; rw [y,eT] at a; cases a) h.nm.hd,h.nm.n1,h.nm.n2,fun p hp=>s _ _ (fun y=>by have a:=h.nm.lst p hp; rw [y,eT] at a; cases a) (h.nm.lst p hp)⟩,?_,tabTT s h.t3 h.t1 nT,t⟩
 rcases h.rz with z | ⟨u,z⟩
 ·exact .inl (s _ _ (fun y=>by rw [y,eT] at z; cases z) z)
 ·exact .inr ⟨u,s _ _ (fun y=>by rw [y,eT] at z; cases z) z⟩
theorem keys_dedS:∀ (hs:List Str) (acc:List (Key×V)) (as:List Str),acc.map (·.1)=as.map Sum.inr→(fillK (hs.map fun h=>((Sum.inr h:Key),V.str h)) acc).map (·.1)=(M11.ded as hs).map Sum.inr
 | [],acc,as,e=>e
 | h::r,acc,as,e=>keys_dedS r (putK acc (Sum.inr h) (.str h)) (M11.add1 as h) (K11.keys_add e h)
theorem scLeastBy:FnScope ["rules","numbers","trees","name","least","sizes"] ["rules"] (defScope sLeastBy):=⟨rfl,rfl,rfl,by decide +kernel,rfl,by decide +kernel,by decide +kernel⟩
theorem ok_leastBy {T1 T3:Addr} (F:FunC K "least_by_part" "least_by_part" sLeastBy f fd T3) (T:Txt mg) (hB:BmAt mg base) (hS:mg "sorted"=none) (GH:CalleeD P w K mg base 3 "heads_of" ["rules"] (spHeads K)) (GL:CalleeD P w K mg base 3 "least_sizes" ["rules"] (spLeast K T1)) (GN:CalleeD P w K mg base 3 "numbers_by_name" ["rules"] (spNums K)) (GZ:CalleeD P w K mg base 3 "rule_size" ["sizes","rule"] (spRuleSize K)):FnOk P w K mg base CX0 4 f fd ["rules"] (spLeastBy K T1 T3):=by
 refine F.ok scLeastBy (fun vs H Q E h=>?_) (fun c A outer s H vs Q E hC hr h=>?_)
 ·obtain ⟨R,rs,rules,rfl,_⟩:=h; rfl
 ·obtain ⟨R,rs,rules,rfl,hR,hrl,hlen,h8,hgood,hT1,hT3,nT,q⟩:=h
  have hu:=hu_of hr
  refine ⟨_,pss_cons (ps_set (i:=5) scLeastBy.nd rfl (Or.inr rfl) (pe_fn GL hr rfl (pa_cons (pv 0) pa_nil)))
   (pss_cons (ps_set (i:=1) scLeastBy.nd rfl (Or.inr rfl) (pe_fn GN hr rfl (pa_cons (pv 0) pa_nil)))
   (pss_cons (ps_set (i:=2) scLeastBy.nd rfl (Or.inr rfl) (pe_callTy (call_dictP rfl) rfl T.dct boot_dct (pa_cons (pe_compG ["part"] [(1,"numbers")] rfl (pi_dict (pv 5)) (caps_of rfl rfl) (by decide +kernel) rfl (by decide +kernel)
     (fun _ _ _ _ _=>pg_name (i:=0) (show (["part","numbers"]:List Str).Nodup by decide +kernel) rfl (Or.inl rfl)) (fun _ _ _ _ _=>pif_one (pt_cmp (pc_dnotin hu (pv 0) (pv 1)))) (fun _ _ _ _ _=>pe_tup (pa_cons (pv 0) (pa_cons (pv 0) pa_nil)))) pa_nil)))
   (pss_cons (ps_for PassesOwn.never rfl (pi_list (pe_sortK (i:=5) (T:=T3) hr rfl hC hB rfl hS (pa_cons (pe_fn GH hr rfl (pa_cons (pv 0) pa_nil)) pa_nil) rfl rfl (fun y hy=>by
     rcases List.mem_cons.mp hy with h | h
     ·cases h
     ·rcases List.mem_cons.mp h with h | h
      ·cases h; rfl
      ·cases h) (fun q cl pm ctv c' us hl=>match us,hl with | [_],_=>rfl) rfl rfl rfl (by decide +kernel) rfl rfl)) (pg_name (i:=3) scLeastBy.nd rfl (Or.inr rfl))
    (pss_cons (ps_setC (iy:=4) ["number"] [(5,"sizes"),(0,"rules"),(3,"name")] scLeastBy.nd rfl rfl rfl (pi_list (pe_dget hu (pv 1) (pv 3) (fun _ _=>rfl))) (caps_of rfl rfl) (by decide +kernel) rfl (by decide +kernel)
     (fun _ _ _ _ _=>pg_name (i:=0) (show (["number","sizes","rules","name"]:List Str).Nodup by decide +kernel) rfl (Or.inl rfl)) (fun _ _ _ _ _=>pif_one (pt_cmpR op_eq (pe_fn GZ hr rfl (pa_cons (pv 1) (pa_cons (pe_ix (ix_listK K) (pv 2) (pv 0) (fun _ _=>rfl)) pa_nil))) (pe_dget hu (pv 1) (pv 3) (fun _ _=>rfl)) (nomark _))) (fun _ _ _ _ _=>pv 0))
    (pss_one (ps_dput hu (pv 2) (pv 3) (pe_tup (pa_cons (pe_ix ix_list (pv 4) pe_int (fun _ _=>rfl)) (pa_cons (pe_callTy call_tuple_of rfl T.tup PyProof.Rows.boot_tuple (pa_cons (pe_compG ["part"] [(2,"trees")] rfl (pi_tup (pe_ix ix_tup (pe_ix ix_list (pv 0) (pe_ix ix_list (pv 4) pe_int (fun _ _=>rfl)) (fun _ _=>rfl)) pe_int (fun _ _=>rfl))) (caps_of rfl rfl) (by decide +kernel) rfl (by decide +kernel)
     (fun _ _ _ _ _=>pg_name (i:=0) (show (["part","trees"]:List Str).Nodup by decide +kernel) rfl (Or.inl rfl)) (fun _ _ _ _ _=>pif_nil) (fun _ _ _ _ _=>pe_dget hu (pv 1) (pv 0) (fun _ _=>rfl))) pa_nil)) pa_nil))) rfl))))
   (pss_one (ps_ret (pv 2)))))),?_⟩
  refine ⟨_,rfl,R,rs,rules,rfl,hR,hrl,by omega,h8,hT1,fun dz kvz ksz g H1 fz s1 t1 ez kz vz stz sez lz=>?_⟩
  refine goN ?_
  have hR1:=seqTT s1 hT1 hR
  have hrl1:=hrl.keep fun _ _ z=>tupTT s1 hT1 z
  have t31:=tabTT s1 hT1 hT3 (Ne.symm nT)
  refine ⟨_,rfl,R,rs,rules,rfl,hR1,hrl1,by omega,fun dn ps H2 fn s2 nm pk pf=>?_⟩
  refine goN ?_
  have ez2:=s2 _ _ ez
  refine ⟨_,rfl,dz,kvz,rfl,ez2,fun o D hD=>?_⟩
  have nps:∀ p∈ps,p.2≠dz:=fun p hp z=>by
   have a:=nm.lst p hp
   rw [z,ez2] at a; cases a
  have ndz:dn≠dz:=fun z=>by rw [z,ez] at fn; cases fn
  have nz1:T1≠dz:=fun z=>by
   obtain ⟨p,a,_⟩:=t1
   rw [z,ez] at a; cases a
  have nz3:T3≠dz:=fun z=>by
   obtain ⟨p,a,_⟩:=t31
   rw [z,ez] at a; cases a
  have tabU:∀ {T':Addr} {pos':Pos} {qu':Str},T'≠dz→Tab T' pos' qu' H2→Tab T' pos' qu' (upd H2 dz (.frz o (.dK kvz))):=fun {T' pos' qu'} n ⟨p,a,b,cc⟩=>⟨p,by rw [upd_ne n]; exact a,b,cc.imp id fun ⟨c',e1,e2⟩=>⟨c',e1,by rw [upd_ne (fun z=>by rw [z,ez2] at e2; cases e2)]; exact e2⟩⟩
  have L3:LB K rs rules kvz ps R dz dn T1 T3 (upd H2 dz (.frz o (.dK kvz))):=by
   refine ⟨?_,(hrl1.same s2).keep fun _ _ z=>sqt_updK ez2 z,⟨by rw [upd_ne ndz]; exact nm.hd,nm.n1,nm.n2,fun p hp=>by rw [upd_ne (nps p hp)]; exact nm.lst p hp⟩,.inr ⟨o,upd_same⟩,tabU nz1 (t1.same s2),tabU nz3 (t31.same s2)⟩
   rcases s2.seq hR1 with (h | ⟨u,h⟩) | h
   ·exact .inl (.inl (by rw [upd_ne (fun z=>by rw [z,ez2] at h; cases h)]; exact h))
   ·exact .inl (.inr ⟨u,by rw [upd_ne (fun z=>by rw [z,ez2] at h; cases h)]; exact h⟩)
   ·exact .inr h
  have e3:upd H2 dz (.frz o (.dK kvz)) dz=some (.frz o (.dK kvz)):=upd_same
  have s03:Same2 T1 T3 H (upd H2 dz (.frz o (.dK kvz))):=fun b u n1 n3 hb=>by
   rw [upd_ne (fun z=>by rw [z,fz] at hb; cases hb)]
   exact s2 _ _ (s1 b u n1 hb)
  generalize upd H2 dz (.frz o (.dK kvz))=H3 at hD L3 e3 s03 ⊢
  have lkz:kvz.length=ksz.length:=by
   have:=congrArg List.length kz
   rwa [List.length_map,List.length_map] at this
  refine compG_dict (fun i ys σ2 H4=>∃ ts:List Addr,ys=ts.map V.ref∧(∃ y0,σ2=[y0,some (.ref dn)])∧Same H3 H4∧H4 D=some (.lst ys)∧ts.length≤i∧Paired (fun t h=>SqT K H4 t [.str h,.str h]) ts ((ksz.take i).filter fun z=>!decide (z∈hd rules)))
   ⟨[],rfl,⟨none,rfl⟩,same_laid hD _,upd_same,Nat.le_refl _,.nil⟩ (fun i ys σ2 H4 _ h=>?_) (fun i kv ys σ2 H4 ex h=>?_) (fun ys σ2 H4 h=>?_)
  ·obtain ⟨_,_,_,sm,_⟩:=h
   exact sm _ _ e3
  ·obtain ⟨ts,rfl,⟨y0,rfl⟩,sm,e4,lts,pt⟩:=h
   obtain ⟨z,ezz,ekz⟩:∃ z,ksz[i]?=some z∧kv.1=Sum.inr z:=by
    have a1:(kvz.map (·.1))[i]?=some kv.1:=by rw [List.getElem?_map,ex]; rfl
    rw [kz,List.getElem?_map] at a1
    obtain ⟨z,a2,a3⟩:=Option.map_eq_some_iff.mp a1
    exact ⟨z,a2,a3.symm⟩
   rw [ekz]
   have L4:=L3.same sm
   have hin:(valV (ps.map kvA) (Sum.inr z)).isSome=decide (z∈hd rules):=by
    rw [Bool.eq_iff_iff,val_mem,decide_eq_true_iff,← pk]
    rw [List.map_map]
    constructor
    ·intro h
     obtain ⟨p,hp,e⟩:=List.mem_map.mp h
     exact List.mem_map.mpr ⟨p,hp,Sum.inr.inj e⟩
    ·intro h
     obtain ⟨p,hp,e⟩:=List.mem_map.mp h
     exact List.mem_map.mpr ⟨p,hp,congrArg Sum.inr e⟩
   refine goN ?_
   refine ⟨_,rfl,_,rfl,dn,_,rfl,DGet.k (k:=Sum.inr z) L4.nm.hd,_,rfl,?_⟩
   rw [hin]
   have etk:((ksz.take (i+1)).filter fun z=>!decide (z∈hd rules))=((ksz.take i).filter fun z=>!decide (z∈hd rules))++(if (!decide (z∈hd rules))=true then [z] else []):=by
    rw [List.take_add_one,ezz,List.filter_append]
    congr 1
    by_cases c:z∈hd rules <;> simp [c]
   refine ite2 (fun cc=>?_) (fun cc=>?_)
   ·refine ⟨_,rfl,_,rfl,(by show 2≤sizeLine; decide),fun t ht=>?_⟩
    have k5:=same_laid ht (.tup [kV (Sum.inr z),kV (Sum.inr z)])
    have v5:SqT K (upd H4 t (.tup [kV (Sum.inr z),kV (Sum.inr z)])) t [.str z,.str z]:=SqT.of upd_same
    generalize upd H4 t (.tup [kV (Sum.inr z),kV (Sum.inr z)])=H5 at k5 v5
    have li:=(List.getElem?_eq_some_iff.mp ex).1
    have e5:=k5 _ _ e4
    refine ⟨e5,fits' (by rw [List.length_map]; omega),ts++[t],by rw [List.map_append]; rfl,⟨_,rfl⟩,fun b u hb=>?_,upd_same,by rw [List.length_append,List.length_singleton]; omega,?_⟩
    ·rw [upd_ne (fun z=>by rw [z,hD] at hb; cases hb)]
     exact k5 _ _ (sm b u hb)
    ·rw [etk,if_pos cc]
     exact Paired.snoc (Paired.mapP pt fun _ _ z=>sqt_upd e5 (k5.tup z)) (sqt_upd e5 v5)
   ·refine ⟨ts,rfl,⟨_,rfl⟩,sm,e4,by omega,?_⟩
    rw [etk,if_neg cc,List.append_nil]
    exact pt
  obtain ⟨ts,rfl,_,s4,e4,lts,pt⟩:=h
  rw [lkz,List.take_length] at pt
  have hwk:∀ z,z∉hd rules→(g z).isSome=true→z∈ksz.filter fun z=>!decide (z∈hd rules):=fun z hz gz=>by
   refine List.mem_filter.mpr ⟨?_,by simpa using hz⟩
   have a1:(valV kvz (Sum.inr z)).isSome=true:=by rw [vz,Option.isSome_map]; exact gz
   rw [val_mem,kz] at a1
   exact inr_mem.mp a1
  have lws:(ksz.filter fun z=>!decide (z∈hd rules)).length≤20000:=Nat.le_trans (List.length_filter_le _ _) (by omega)
  generalize ksz.filter (fun z=>!decide (z∈hd rules))=ws at pt hwk lws
  have kp:Paired (fun t (kv:Key×V)=>SqT K H4 t [kV kv.1,kv.2]) ts (ws.map fun h=>((Sum.inr h:Key),V.str h)):=paired_mapR pt fun _ _ z=>z
  refine ⟨D,ts,_,rfl,e4,kp,fun dt hdt=>?_⟩
  have kt:∀ z∈ws,(Sum.inr z:Key)∈(fillK (ws.map fun h=>((Sum.inr h:Key),V.str h)) []).map (·.1):=fun z hz=>by
   rw [keys_dedS ws [] [] rfl]
   exact inr_mem.mpr ((ded_mem ws [] z).mpr (.inr hz))
  have lkt:(fillK (ws.map fun h=>((Sum.inr h:Key),V.str h)) []).length≤20000:=by
   have a:=congrArg List.length (keys_dedS ws [] [] rfl)
   rw [List.length_map,List.length_map] at a
   have:=ded_len ws []
   simp only [List.length_nil] at this
   omega
  generalize fillK (ws.map fun h=>((Sum.inr h:Key),V.str h)) []=kvt at kt lkt
  have s5:=s4.trans (same_laid hdt (.dK kvt))
  have e5:upd H4 dt (.dK kvt) dt=some (.dK kvt):=upd_same
  have fdt:H3 dt=none:=s4.free hdt
  generalize upd H4 dt (.dK kvt)=H5 at s5 e5
  have L5:=L3.same s5
  refine goN ?_
  refine ⟨_,rfl,R,rs,rules,rfl,L5.hR,L5.hrl,by omega,fun DH H6 fH s6 eH=>?_⟩
  have L6:=L5.same s6
  have lhd:=ded_len (rules.map (·.1)) []
  simp only [List.length_nil,List.length_map] at lhd
  have gz:∀ z∈hd rules,∃ n,g z=some n:=fun z hz=>by
   obtain ⟨n,e,_⟩:=hgood g stz sez z hz
   exact ⟨n,e⟩
  refine ⟨L6.t3,DH,hd rules,dz,kvz,fun z=>(g z).getD 0,rfl,SqL.of eH,by unfold hd; omega,rfl,L6.rz,fun z hz=>by obtain ⟨n,e⟩:=gz z hz; rw [vz,e]; show _=some (V.int ((g z).getD 0)); rw [e]; rfl,fun l zs' H7 s7 t37 fl pe pw el=>?_⟩
  have L7:=L6.sortT nT s7 t37
  have nd3:dt≠T3:=fun z=>by
   obtain ⟨p,a,_⟩:=L5.t3
   rw [← z,e5] at a; cases a
  have e7:=s7 _ _ nd3 (s6 _ _ e5)
  have ndn:dn≠dt:=fun z=>by have a:=L3.nm.hd; rw [z,fdt] at a; cases a
  have nzt:dz≠dt:=fun z=>by rw [← z,e3] at fdt; cases fdt
  have s07:Same2 T1 T3 H H7:=fun b u n1 n3 hb=>s7 _ _ n3 (s6 _ _ (s5 _ _ (s03 b u n1 n3 hb)))
  have nldt:l≠dt:=fun z=>by rw [z,s6 _ _ e5] at fl; cases fl
  have nn:=nn_all stz
  have hlz:zs'.length < 64:=by rw [pe.length_eq]; unfold hd; omega
  have allg:∀ ru∈rules,∀ p∈ru.2,(g p).isSome=true:=fun ru hru p hp=>by
   by_cases hh:p∈hd rules
   ·obtain ⟨n,e⟩:=gz p hh
    rw [e]; rfl
   ·have j0:∃ n,g0L rules p=some n:=⟨0,if_pos (wds_inn _ _ [] p (.inr ⟨List.mem_flatMap.mpr ⟨ru,hru,hp⟩,hh⟩))⟩
    have:∃ n,g p=some n:=Steps.keep (J:=fun g=>∃ n,g p=some n) (fun g ru ⟨n,e⟩ m f=>by obtain ⟨k,a,_⟩:=le_step f p n e; exact ⟨k,a⟩) stz j0
    obtain ⟨n,e⟩:=this
    rw [e]; rfl
  have ll:=Paired.length hrl
  refine ⟨l,rfl,⟨_,SqL.of el⟩,for_list (xs:=zs'.map V.str) (fun i σ H8=>∃ (kvs:List (Key×V)) (y3 y4:Option V),σ=[some (.ref R),some (.ref dn),some (.ref dt),y3,y4,some (.ref dz)]∧SameT dt H7 H8∧H8 dt=some (.dK kvs)∧kvs.length≤20000+i∧(∀ z∈ws,(Sum.inr z:Key)∈kvs.map (·.1))∧(∀ z∈zs'.take i,(Sum.inr z:Key)∈kvs.map (·.1))) ⟨kvt,_,_,rfl,fun _ _ _ h=>h,e7,by omega,kt,fun z hz=>by cases hz⟩ ?_ ?_ ?_⟩
  ·rintro i σ H8 _ ⟨kvs,y3,y4,rfl,s8,_⟩
   exact SqL.of (s8 _ _ nldt el)
  ·rintro i x σ H8 ex ⟨kvs,y3,y4,rfl,s8,e8,lk8,kw8,kz8⟩
   rw [List.getElem?_map] at ex
   obtain ⟨z,ezi,rfl⟩:=Option.map_eq_some_iff.mp ex
   have li:=(List.getElem?_eq_some_iff.mp ezi).1
   have hz:z∈hd rules:=pe.mem_iff.mp (List.mem_of_getElem? ezi)
   obtain ⟨n,egz⟩:=gz z hz
   have L8:=L7.keepT e7 ndn nzt s8
   obtain ⟨p,hp,hpz⟩:=List.mem_map.mp (show z∈ps.map (·.1) by rw [pk]; exact hz)
   refine goN ?_
   have hgn:DGet H8 dn (.str z) (some (.ref p.2)):=by
    have:=DGet.k (k:=Sum.inr z) L8.nm.hd
    rw [← hpz,val_ps ps L8.nm.n1 p hp] at this
    rw [hpz] at this
    exact this
   have hln:=L8.nm.lst p hp
   have hln:H8 p.2=some (.lst ((nums rules z rules.length).map V.int)):=by rw [← hpz]; exact hln
   have numOf:∀ (m:Nat) (v:Int),(nums rules z rules.length)[m]?=some v→∃ (j:Nat) (ru:Rule),v=(j:Int)∧rules[j]?=some ru∧ru.1=z:=fun m v e=>by
    unfold nums at e
    rw [List.getElem?_map] at e
    obtain ⟨j,e1,rfl⟩:=Option.map_eq_some_iff.mp e
    have hj:=(List.mem_filter.mp (List.mem_of_getElem? e1)).2
    have hj:(rules[j]?.map (·.1))=some z:=of_decide_eq_true hj
    obtain ⟨ru,e2,e3⟩:=Option.map_eq_some_iff.mp hj
    exact ⟨j,ru,rfl,e2,e3⟩
   have nlen:=nums_len rules z rules.length
   let good:Int→Bool:=fun v=>match rules[v.toNat]? with | some ru=>decide (sizeG g ru=n) | none=>false
   have wit:∃ v∈nums rules z rules.length,good v=true:=by
    obtain ⟨ru,hru,q1,_,q3⟩:=least_wit (wit0 rules) stz sez hz egz
    obtain ⟨j,ej⟩:=List.getElem?_of_mem hru
    have lj:=(List.getElem?_eq_some_iff.mp ej).1
    refine ⟨(j:Int),List.mem_map.mpr ⟨j,List.mem_filter.mpr ⟨List.mem_range.mpr lj,decide_eq_true (by rw [ej]; exact congrArg some q1)⟩,rfl⟩,?_⟩
    show (match rules[(j:Int).toNat]? with | some ru=>decide (sizeG g ru=n) | none=>false)=true
    rw [Int.toNat_natCast,ej]
    exact decide_eq_true q3
   refine ⟨_,rfl,_,rfl,dn,_,rfl,hgn,p.2,rfl,⟨_,SqL.of hln⟩,fun D9 hD9=>compG_list (xs:=(nums rules z rules.length).map V.int) (fun m ys σ2 H9=>ys=(((nums rules z rules.length).take m).filter good).map V.int∧(∃ y0,σ2=[y0,some (.ref dz),some (.ref R),some (.str z)])∧Same H8 H9∧H9 D9=some (.lst ys))
    ⟨rfl,⟨none,rfl⟩,same_laid hD9 _,upd_same⟩ (fun m ys σ2 H9 _ h=>?_) (fun m x ys σ2 H9 em h=>?_) (fun ys σ2 H9 h=>?_)⟩
   ·obtain ⟨_,_,sm,_⟩:=h
    exact SqL.of (sm _ _ hln)
   ·obtain ⟨rfl,⟨y0,rfl⟩,sm,e9⟩:=h
    rw [List.getElem?_map] at em
    obtain ⟨v,ev,rfl⟩:=Option.map_eq_some_iff.mp em
    have lm:=(List.getElem?_eq_some_iff.mp ev).1
    obtain ⟨j,ru,rfl,ej,ejz⟩:=numOf m v ev
    have L9:=L8.same sm
    obtain ⟨r,er,rv⟩:=Paired.at_ L9.hrl j ru ej
    have atk:atI (rs.map V.ref) (j:Int)=some (.ref r):=atI_nat (by rw [List.getElem?_map,er]; rfl)
    have gj:good (j:Int)=decide (V.int (sizeG g ru)=V.int n):=by
     show (match rules[(j:Int).toNat]? with | some ru=>decide (sizeG g ru=n) | none=>false)=_
     rw [Int.toNat_natCast,ej]
     show decide (sizeG g ru=n)=_
     by_cases c:sizeG g ru=n
     ·rw [decide_eq_true c,decide_eq_true (congrArg V.int c)]
     ·rw [decide_eq_false c,decide_eq_false (fun y=>c (by injection y))]
    refine goN ?_
    refine ⟨_,rfl,_,rfl,_,rfl,R,_,_,_,rfl,rfl,L9.hR,atk,dz,r,kvz,g,ru,rfl,L9.rz,vz,rv,h8 ru (List.mem_of_getElem? ej),allg ru (List.mem_of_getElem? ej),fun H10 s10=>?_⟩
    have hgz:DGet H10 dz (.str z) (some (.int n)):=by
     have:=DGet.r (k:=Sum.inr z) (L9.same s10).rz
     rw [vz,egz] at this
     exact this
    refine ⟨_,rfl,_,rfl,dz,_,rfl,hgz,rfl,_,rfl,?_⟩
    rw [← gj]
    have etk:((nums rules z rules.length).take (m+1)).filter good=((nums rules z rules.length).take m).filter good++(if good (j:Int)=true then [(j:Int)] else []):=by
     rw [List.take_add_one,ev,List.filter_append]
     congr 1
     show List.filter good [(j:Int)]=_
     by_cases c:good (j:Int)=true
     ·rw [if_pos c,List.filter_cons,if_pos c,List.filter_nil]
     ·rw [if_neg c,List.filter_cons,if_neg c,List.filter_nil]
    have lf:(((nums rules z rules.length).take m).filter good).length≤1000:=Nat.le_trans (List.length_filter_le _ _) (by rw [List.length_take]; omega)
    refine ite2 (fun cc=>?_) (fun cc=>?_)
    ·refine ⟨_,rfl,s10 _ _ e9,fits' (by rw [List.length_map]; omega),by rw [etk,if_pos cc,List.map_append]; rfl,⟨_,rfl⟩,fun b u hb=>?_,upd_same⟩
     rw [upd_ne (fun z=>by rw [z,hD9] at hb; cases hb)]
     exact s10 _ _ (sm b u hb)
    ·exact ⟨by rw [etk,if_neg cc,List.append_nil],⟨_,rfl⟩,sm.trans s10,s10 _ _ e9⟩
   obtain ⟨rfl,_,s9,e9⟩:=h
   rw [List.length_map,List.take_length] at e9
   refine goN ?_
   have L9:=L8.same s9
   cases hf:(nums rules z rules.length).filter good with
   | nil =>
    obtain ⟨v,hv,gv⟩:=wit
    have:v∈(nums rules z rules.length).filter good:=List.mem_filter.mpr ⟨hv,gv⟩
    rw [hf] at this
    cases this
   | cons v0 vr =>
    rw [hf] at e9
    have hm0:v0∈(nums rules z rules.length).filter good:=by rw [hf]; exact List.mem_cons_self
    obtain ⟨hm1,hg0⟩:=List.mem_filter.mp hm0
    obtain ⟨m0,em0⟩:=List.getElem?_of_mem hm1
    obtain ⟨j,ru,rfl,ej,ejz⟩:=numOf m0 v0 em0
    have hsz:sizeG g ru=n:=by
     have hg0:(match rules[(j:Int).toNat]? with | some ru=>decide (sizeG g ru=n) | none=>false)=true:=hg0
     rw [Int.toNat_natCast,ej] at hg0
     exact of_decide_eq_true hg0
    have hru:=List.mem_of_getElem? ej
    obtain ⟨r,er,pp,v1,v2⟩:=Paired.at_ L9.hrl j ru ej
    have atk:atI (rs.map V.ref) (j:Int)=some (.ref r):=atI_nat (by rw [List.getElem?_map,er]; rfl)
    have at0:atI (V.int (j:Int)::vr.map V.int) 0=some (.int (j:Int)):=atI_nat (j:=0) rfl
    have e9:H9 D9=some (.lst (V.int (j:Int)::vr.map V.int)):=e9
    have e89:=s9 _ _ e8
    have r8:=h8 ru hru
    have keyp:∀ p∈ru.2,(Sum.inr p:Key)∈kvs.map (·.1):=fun y hy=>by
     obtain ⟨my,ey⟩:=Option.isSome_iff_exists.mp (allg ru hru y hy)
     by_cases hh:y∈hd rules
     ·refine kz8 y (sorted_ahead pw ezi (pe.mem_iff.mpr hh) ?_)
      show (g y).getD 0 < (g z).getD 0
      rw [ey,egz]
      show my < n
      rw [← hsz]
      exact part_size nn hy ey
     ·exact kw8 y (hwk y hh (by rw [ey]; rfl))
    refine ⟨_,rfl,D9,_,_,_,rfl,rfl,SqL.of e9,at0,_,rfl,_,rfl,D9,_,_,_,rfl,rfl,SqL.of e9,at0,R,_,_,_,rfl,rfl,L9.hR,atk,r,_,_,_,rfl,rfl,v1,rfl,pp,rfl,⟨_,v2⟩,fun D10 hD10=>comp_trees (zs:=ru.2) rfl v2 (by omega) e89 keyp hD10 fun ys H10 ly s10 e10=>?_⟩
    refine ⟨D10,ys,rfl,.inl ⟨SqL.of e10,fun t2 ft2=>⟨(by show 2≤sizeLine; decide),fun nd2 fnd2=>?_⟩⟩⟩
    have k11:=(same_laid ft2 (.tup ys)).trans (same_laid fnd2 (.tup [.int (j:Int),.ref t2]))
    generalize upd (upd H10 t2 (.tup ys)) nd2 (.tup [.int (j:Int),.ref t2])=H11 at k11
    have s811:=(s9.trans s10).trans k11
    have e11:=s811 _ _ e8
    refine ⟨_,rfl,_,rfl,dt,_,rfl,.inl ⟨kvs,Sum.inr z,e11,rfl,fits' (by omega),rfl⟩,?_⟩
    have kp2:∀ y:Key,(y∈kvs.map (·.1)∨y=Sum.inr z)→y∈(putK kvs (Sum.inr z) (.ref nd2)).map (·.1):=fun y hy=>by
     by_cases hk:(Sum.inr z:Key)∈kvs.map (·.1)
     ·rw [put_in hk]
      rcases hy with hy | rfl
      ·exact hy
      ·exact hk
     ·rw [put_out hk]
      rcases hy with hy | rfl
      ·exact List.mem_append_left _ hy
      ·exact List.mem_append_right _ List.mem_cons_self
    have lput:(putK kvs (Sum.inr z) (.ref nd2)).length≤kvs.length+1:=by
     have a:=congrArg List.length (Eq.refl ((putK kvs (Sum.inr z) (.ref nd2)).map (·.1)))
     by_cases hk:(Sum.inr z:Key)∈kvs.map (·.1)
     ·have b:=congrArg List.length (put_in (v:=.ref nd2) hk)
      rw [List.length_map,List.length_map] at b
      omega
     ·have b:=congrArg List.length (put_out (v:=.ref nd2) hk)
      rw [List.length_map,List.length_append,List.length_map,List.length_singleton] at b
      omega
    refine ⟨_,_,_,rfl,fun b u nb hb=>?_,upd_same,by omega,fun y hy=>kp2 _ (.inl (kw8 y hy)),fun y hy=>?_⟩
    ·rw [upd_ne nb]
     exact s811 _ _ (s8 b u nb hb)
    ·rw [List.take_add_one,ezi] at hy
     rcases List.mem_append.mp hy with hy | hy
     ·exact kp2 _ (.inl (kz8 y hy))
     ·exact kp2 _ (.inr (by rw [List.mem_singleton.mp (show y∈[z] from hy)]))
  ·rintro σ H8 ⟨kvs,y3,y4,rfl,s8,e8,lk8,kw8,kz8⟩
   rw [List.length_map,List.take_length] at kz8
   have L8:=L7.keepT e7 ndn nzt s8
   refine ⟨_,rfl,q dt kvs H8 ?_ (fun b u n1 n3 hb=>?_) L8.t1 L8.t3 e8 fun z hz=>kz8 z (pe.mem_iff.mpr hz)⟩
   ·cases c:H dt with
    | none=>rfl
    | some u =>
     by_cases h1:dt=T1
     ·obtain ⟨pp,a,_⟩:=L3.t1
      rw [← h1,fdt] at a; cases a
     ·rw [s03 dt u h1 nd3 c] at fdt; cases fdt
   ·refine s8 _ _ (fun z=>?_) (s07 b u n1 n3 hb)
    rw [z] at hb
    rw [s03 dt u (fun y=>n1 (z.trans y)) nd3 hb] at fdt
    cases fdt
end
end K11
namespace L2
open PySem M11
theorem comp_begs {K:PySem.W.Frag} {H:Hp} {bg D:Addr} {ts:List Addr} {bes:List Be} {σ:St} {x1 x2 x3 x4:Str} {Qp:Hp→Prop} (hb:SqL K H bg (ts.map V.ref)) (hbv:Paired (fun t (b:Be)=>SqT K H t [.str b.1,.str b.2.1,.int (b.2.2.1:Int),.int (b.2.2.2:Int)]) ts bes) (hlen:bes.length≤900000) (hD:H D=none)
  (q:∀ us H2,Same H H2→H2 D=some (.lst (us.map V.ref))→Paired (fun u (b:Be)=>∃ v,PrT K H2 u ([Sum.inr b.1,Sum.inr b.2.1],.ref v)) us bes→Qp H2) :
  ∃ W:Nat→Nat→List V→St→Hp→Prop,(∃ m,W 0 m [] (capS [x1,x2,x3,x4] [] σ) (upd H D (.lst []))) ∧
 ∀ i m ys σ' H,W i m ys σ' H→((Itl K bg).stop i H∧Qp H)∨((Itl K bg).go i H∧∃ m',m' < m∧∀ x H',(Itl K bg).yld i H x H'→gTup K 4 (gCons (gName 0) (gCons (gName 1) (gCons (gName 2) (gCons (gName 3) gNil)))) x σ' H' fun σ2 H2=>tTrue σ2 H2 fun b H3 =>
  if b=true then tTup (tCons (tTup (tCons (tVar 0) (tCons (tVar 1) tNil))) (tCons (tTup (tCons (tVar 2) (tCons (tVar 3) tNil))) tNil)) σ2 H3 fun y H4=>H4 D=some (.lst ys)∧ys.length < sizeLine∧W (i+1) m' (ys++[y]) σ2 (upd H4 D (.lst (ys++[y]))) else W (i+1) m' ys σ2 H3):=by
 have ll:=Paired.length hbv
 refine compG_list (xs:=ts.map V.ref) (fun i ys σ2 H2=>∃ us:List Addr,ys=us.map V.ref∧us.length=i∧Paired (fun u (b:Be)=>∃ v,PrT K H2 u ([Sum.inr b.1,Sum.inr b.2.1],.ref v)) us (bes.take i)∧(∃ y0 y1 y2 y3,σ2=[y0,y1,y2,y3])∧Same H H2∧H2 D=some (.lst ys))
  ⟨[],rfl,rfl,.nil,⟨none,none,none,none,rfl⟩,same_laid hD _,upd_same⟩ (fun i ys σ2 H2 _ h=>?_) (fun i x ys σ2 H2 ex h=>?_) (fun ys σ2 H2 h=>?_)
 ·obtain ⟨_,_,_,_,_,sm,_⟩:=h
  exact sm.seq hb
 ·obtain ⟨us,rfl,hu,hp,⟨y0,y1,y2,y3,rfl⟩,sm,hd⟩:=h
  rw [List.getElem?_map] at ex
  obtain ⟨r,er,rfl⟩:=Option.map_eq_some_iff.mp ex
  have lr:=(List.getElem?_eq_some_iff.mp er).1
  obtain ⟨b,e1⟩:∃ b,bes[i]?=some b:=⟨bes[i]'(by omega),List.getElem?_eq_getElem (by omega)⟩
  obtain ⟨r',er',v1⟩:=Paired.at_ hbv i b e1
  rw [er] at er'
  cases er'
  have li:=(List.getElem?_eq_some_iff.mp e1).1
  refine ⟨r,_,rfl,sm.tup v1,rfl,_,_,rfl,_,_,rfl,_,_,rfl,_,_,rfl,rfl,?_⟩
  refine goT ?_
  refine ⟨_,rfl,_,rfl,(by show 2≤sizeLine; decide),fun k hk=>⟨_,rfl,_,rfl,(by show 2≤sizeLine; decide),fun v hv=>⟨(by show 2≤sizeLine; decide),fun u hu2=>?_⟩⟩⟩
  have s3:=(same_laid hk (.tup [V.str b.1,V.str b.2.1])).trans ((same_laid hv (.tup [V.int (b.2.2.1:Int),V.int (b.2.2.2:Int)])).trans (same_laid hu2 (.tup [.ref k,.ref v])))
  have ek:=((same_laid hv (.tup [V.int (b.2.2.1:Int),V.int (b.2.2.2:Int)])).trans (same_laid hu2 (.tup [.ref k,.ref v]))) k _ upd_same
  have eu:SqT K (upd (upd (upd H2 k (.tup [V.str b.1,V.str b.2.1])) v (.tup [V.int (b.2.2.1:Int),V.int (b.2.2.2:Int)])) u (.tup [.ref k,.ref v])) u [.ref k,.ref v]:=SqT.of upd_same
  generalize upd (upd (upd H2 k (.tup [V.str b.1,V.str b.2.1])) v (.tup [V.int (b.2.2.1:Int),V.int (b.2.2.2:Int)])) u (.tup [.ref k,.ref v])=H4 at s3 ek eu
  have hd4:=s3 _ _ hd
  refine ⟨hd4,fits' (by rw [List.length_map]; omega),us++[u],by rw [List.map_append]; rfl,by rw [List.length_append,hu]; rfl,?_,⟨_,_,_,_,rfl⟩,?_,upd_same⟩
  ·rw [List.take_add_one,e1]
   have kD:k≠D:=fun z=>by rw [z,hd4] at ek; cases ek
   exact Paired.snoc (Paired.mapP hp fun u' b' ⟨v',bb,p1,p2⟩=>⟨v',bb,sqt_upd hd4 (s3.tup p1),by rw [upd_ne (fun z=>by rw [z,hd] at p2; cases p2)]; exact s3 _ _ p2⟩) ⟨v,k,sqt_upd hd4 eu,by rw [upd_ne kD]; exact ek⟩
  ·intro c o hc
   rw [upd_ne (fun z=>by rw [z,hD] at hc; cases hc)]
   exact s3 _ _ (sm c o hc)
 ·obtain ⟨us,rfl,hu,hp,_,sm,hd⟩:=h
  rw [List.length_map,ll,List.take_length] at hp
  exact q us H2 sm hd hp
theorem prT_ex {K:PySem.W.Frag} {H:Hp}:∀ {us:List Addr} {bes:List Be},Paired (fun u (b:Be)=>∃ v,PrT K H u ([Sum.inr b.1,Sum.inr b.2.1],.ref v)) us bes→∃ kvs,Paired (PrT K H) us kvs
 | _,_,.nil=>⟨[],.nil⟩
 | _,_,.cons ⟨v,h⟩ t=>let ⟨kvs,p⟩:=prT_ex t; ⟨_::kvs,.cons h p⟩
end L2
namespace K11
open PySem L2 M11
theorem Tab.s2 {T T1 T2:Addr} {p p1 p2:Pos} {q q1 q2:Str} {H H':Hp} (h:Tab T p q H) (s:Same2 T1 T2 H H') (t1:Tab T1 p1 q1 H) (t2:Tab T2 p2 q2 H) (n1:T≠T1) (n2:T≠T2):Tab T p q H':=by
 obtain ⟨ps,a,b,c⟩:=h
 obtain ⟨ps1,b1,_⟩:=t1
 obtain ⟨ps2,b2,_⟩:=t2
 refine ⟨ps,s _ _ n1 n2 a,b,c.imp id ?_⟩
 rintro ⟨c',e,g⟩
 exact ⟨c',e,s _ _ (fun z=>by rw [z,b1] at g; cases g) (fun z=>by rw [z,b2] at g; cases g) g⟩
theorem tab_updI {T a C dx:Addr} {pos:Pos} {qu:Str} {H:Hp} {fs:List (Str×V)} {o:HO} (h:Tab T pos qu H) (ha:H a=some (.ins C dx fs)):Tab T pos qu (upd H a o):=by
 obtain ⟨ps,p,r,c⟩:=h
 refine ⟨ps,by rw [upd_ne (fun z=>by rw [z,ha] at p; cases p)]; exact p,r,c.imp id ?_⟩
 rintro ⟨c',e,g⟩
 exact ⟨c',e,by rw [upd_ne (fun z=>by rw [z,ha] at g; cases g)]; exact g⟩
def Kp (H H':Hp):Prop:=∀ b o,H b=some o→(∀ ps,o≠.tbl ps)→H' b=some o
theorem Kp.trans {H H1 H2:Hp} (a:Kp H H1) (b:Kp H1 H2):Kp H H2:=fun c o h n=>b c o (a c o h n) n
theorem Kp.of {H H':Hp} (s:Same H H'):Kp H H':=fun b o h _=>s b o h
theorem Kp.of2 {T1 T2:Addr} {p1 p2:Pos} {q1 q2:Str} {H H':Hp} (s:Same2 T1 T2 H H') (t1:Tab T1 p1 q1 H) (t2:Tab T2 p2 q2 H):Kp H H':=fun c o hc hn=>by
 obtain ⟨ps1,b1,_⟩:=t1
 obtain ⟨ps2,b2,_⟩:=t2
 exact s c o (fun z=>by rw [z,b1] at hc; cases hc; exact hn _ rfl) (fun z=>by rw [z,b2] at hc; cases hc; exact hn _ rfl) hc
section
variable {P:Program} {w:World} {K:PySem.W.Frag} {mg:Str→Option Value} {base:Heap} {f:Addr} {fd:FuncData}
theorem Kp.lst {H H':Hp} (k:Kp H H') {a:Addr} {xs:List V} (h:H a=some (.lst xs)):H' a=some (.lst xs):=k a _ h (fun _ z=>by cases z)
theorem Kp.tup {H H':Hp} (k:Kp H H') {a:Addr} {xs:List V} (h:SqT K H a xs):SqT K H' a xs:=by
 rcases h with (h | ⟨u,h⟩) | h
 ·exact .inl (.inl (k _ _ h (fun _ z=>by cases z)))
 ·exact .inl (.inr ⟨u,k _ _ h (fun _ z=>by cases z)⟩)
 ·exact .inr h
theorem Kp.seq {H H':Hp} (k:Kp H H') {a:Addr} {xs:List V} (h:SqL K H a xs):SqL K H' a xs:=by
 rcases h with (h | ⟨u,h⟩) | h
 ·exact .inl (.inl (k _ _ h (fun _ z=>by cases z)))
 ·exact .inl (.inr ⟨u,k _ _ h (fun _ z=>by cases z)⟩)
 ·exact .inr h
theorem Kp.rules {H H':Hp} (k:Kp H H') {rs:List Addr} {rules:List Rule} (h:Rules K H rs rules):Rules K H' rs rules:=h.keep fun _ _ z=>k.tup z
abbrev sLInit:Stmt:=mAt sLT 0
structure LC (K:PySem.W.Frag) (C:Addr):Prop where
 cls:Cls K C
 a1:NoAttr K C "rules"
 a2:NoAttr K C "empty"
 a3:NoAttr K C "least"
 a4:NoAttr K C "hollow"
 a5:NoAttr K C "beginnings"
structure LSt (C3 T1 T3:Addr) (H0 H:Hp) (a dx:Addr) (fs:List (Str×V)):Prop where
 sm:Same2 T1 T3 H0 H
 ia:H a=some (.ins C3 dx fs)
 fa:H0 a=none
 t1:Tab T1 lmL.2.2.2 lqL H
 t3:Tab T3 posB lqB H
 o1:Tab T1 lmL.2.2.2 lqL H0
 o3:Tab T3 posB lqB H0
theorem LSt.kp {C3 T1 T3 a dx:Addr} {H0 H:Hp} {fs:List (Str×V)} (h:LSt C3 T1 T3 H0 H a dx fs):Kp H0 H:=Kp.of2 h.sm h.o1 h.o3
theorem LSt.set {C3 T1 T3 a dx:Addr} {H0 H:Hp} {fs:List (Str×V)} (h:LSt C3 T1 T3 H0 H a dx fs) (fs':List (Str×V)):LSt C3 T1 T3 H0 (upd H a (.ins C3 dx fs')) a dx fs' :=
 ⟨fun b o n1 n3 hb=>by rw [upd_ne (fun z=>by rw [z,h.fa] at hb; cases hb)]; exact h.sm b o n1 n3 hb,upd_same,h.fa,tab_updI h.t1 h.ia,tab_updI h.t3 h.ia,h.o1,h.o3⟩
theorem LSt.next {C3 T1 T3 a dx:Addr} {H0 H H':Hp} {fs:List (Str×V)} (h:LSt C3 T1 T3 H0 H a dx fs) (s:Same H H'):LSt C3 T1 T3 H0 H' a dx fs :=
 ⟨fun b o n1 n3 hb=>s _ _ (h.sm b o n1 n3 hb),s _ _ h.ia,h.fa,h.t1.same s,h.t3.same s,h.o1,h.o3⟩
theorem LSt.next2 {C3 T1 T3 a dx:Addr} {H0 H H':Hp} {fs:List (Str×V)} (h:LSt C3 T1 T3 H0 H a dx fs) (s:Same2 T1 T3 H H') (t1:Tab T1 lmL.2.2.2 lqL H') (t3:Tab T3 posB lqB H'):LSt C3 T1 T3 H0 H' a dx fs :=
 ⟨fun b o n1 n3 hb=>s _ _ n1 n3 (h.sm b o n1 n3 hb),Kp.of2 s h.t1 h.t3 _ _ h.ia (fun _ z=>by cases z),h.fa,t1,t3,h.o1,h.o3⟩
def spLInit (K:PySem.W.Frag) (C C3 T1 T3:Addr):Sp:=fun vs H Q _=>∃ (H0 Hb:Hp) (a dx R x e d bg:Addr) (rs:List Addr) (rules:List Rule) (kE:List (Key×V)) (ets:List (Str×Nat)) (ps:List (Str×Addr)) (bes:List Be),vs=[.ref a,.ref R,.ref x]∧Same H0 H∧H0 a=none∧H a=some (.ins C3 dx [])∧SqL K H0 R (rs.map V.ref)∧Rules K H0 rs rules ∧
 rules.length < 64∧(∀ ru∈rules,ru.2.length≤8)∧(∀ g,Steps M11.bl rules (g0L rules) g→Settled M11.bl rules g→∀ h∈hd rules,∃ n,g h=some n∧n≤60)∧BSt K C Hb H0 x e d bg kE ets ps bes∧Emp rules ets∧bes.length≤80000∧Tab T1 lmL.2.2.2 lqL H0∧Tab T3 posB lqB H0∧T1≠T3 ∧
 ∀ H',Same2 T1 T3 H0 H'→Tab T1 lmL.2.2.2 lqL H'→Tab T3 posB lqB H'→Q .non H'
theorem scLInit:FnScope ["self","rules","begin_table"] ["self","rules","begin_table"] (defScope sLInit):=⟨rfl,rfl,rfl,by decide +kernel,rfl,by decide +kernel,by decide +kernel⟩
theorem ok_linit {C C3 T1 T3:Addr} (F:Fun K "__init__" "LeastTrees.__init__" sLInit f fd) (T:Txt mg) (B:BC K C) (L:LC K C3) (GL:CalleeD P w K mg base 4 "least_by_part" ["rules"] (spLeastBy K T1 T3)) (GE:CalleeD P w K mg base 4 "empty_by_name" ["rules","empties"] (spEmptyBy K)) :
  FnOk P w K mg base CX0 5 f fd ["self","rules","begin_table"] (spLInit K C C3 T1 T3):=by
 refine F.ok scLInit (fun vs H Q E h=>?_) (fun cdv A outer s H vs Q E hr h=>?_)
 ·obtain ⟨H0,Hb,a,dx,R,x,e,d,bg,rs,rules,kE,ets,ps,bes,rfl,_⟩:=h; rfl
 ·obtain ⟨H0,Hb,a,dx,R,x,e,d,bg,rs,rules,kE,ets,ps,bes,rfl,s0,f0,ea,hR,hrl,hlen,h8,hgood,S,emp,lbes,t1,t3,nT,q⟩:=h
  have hu:=Nat.lt_of_le_of_lt (Nat.add_le_add_left (by decide:2≤64) _) hr.units
  refine ⟨_,pss_cons (ps_fld (pv 0) (pv 1) rfl)
   (pss_cons (ps_fld (pv 0) (pe_fld (pv 2) rfl) rfl)
   (pss_cons (ps_fld (pv 0) (pe_fn GL hr rfl (pa_cons (pv 1) pa_nil)) rfl)
   (pss_cons (ps_fld (pv 0) (pe_fn GE hr rfl (pa_cons (pv 1) (pa_cons (pe_fld (pv 2) rfl) pa_nil))) rfl)
   (pss_one (ps_fld (pv 0) (pe_callTy (call_dictPT rfl hu) rfl T.dct boot_dct (pa_cons (pe_compG ["name","word","number","place"] [] rfl (pi_list (pe_fld (pv 2) rfl)) (caps_of rfl rfl) (by decide +kernel) rfl (by decide +kernel)
    (fun _ _ _ _ _=>pg_tupK (n:=4) K rfl (pgs_cons (pg_name (i:=0) (show (["name","word","number","place"]:List Str).Nodup by decide +kernel) rfl (Or.inl rfl)) (pgs_cons (pg_name (i:=1) (show (["name","word","number","place"]:List Str).Nodup by decide +kernel) rfl (Or.inl rfl)) (pgs_cons (pg_name (i:=2) (show (["name","word","number","place"]:List Str).Nodup by decide +kernel) rfl (Or.inl rfl)) (pgs_cons (pg_name (i:=3) (show (["name","word","number","place"]:List Str).Nodup by decide +kernel) rfl (Or.inl rfl)) pgs_nil))))) (fun _ _ _ _ _=>pif_nil)
    (fun _ _ _ _ _=>pe_tup (pa_cons (pe_tup (pa_cons (pv 0) (pa_cons (pv 1) pa_nil))) (pa_cons (pe_tup (pa_cons (pv 2) (pa_cons (pv 3) pa_nil))) pa_nil)))) pa_nil)) rfl))))),?_⟩
  have S0:LSt C3 T1 T3 H0 H a dx []:=⟨fun b o _ _ hb=>s0 b o hb,ea,f0,t1.same s0,t3.same s0,t1,t3⟩
  obtain ⟨e1,te,⟨dxb,fsb,exb,leb⟩,ee1,evb,_⟩:=S.em
  obtain ⟨dxb2,fsb2,exb2,l1,l2,_⟩:=S.ia
  rw [exb] at exb2
  cases exb2
  obtain ⟨tb,ebg,hbv⟩:=S.lb
  have lets:=emp.len
  refine ⟨_,rfl,_,rfl,a,C3,dx,[],rfl,S0.ia,L.cls,L.a1,(by show 0 < 1000; decide),?_⟩
  have S1:=S0.set (putF "rules" (.ref R) [])
  generalize hf1:putF "rules" (.ref R) []=fs1 at S1
  generalize upd H a (.ins C3 dx fs1)=H1 at S1
  have x1:H1 x=some (.ins C dxb fsb):=S1.kp _ _ exb (fun _ z=>by cases z)
  refine ⟨_,rfl,x,C,dxb,fsb,_,rfl,x1,B.cls,B.a2,l1,_,rfl,a,C3,dx,fs1,rfl,S1.ia,L.cls,L.a2,(by rw [← hf1]; show 1 < 1000; decide),?_⟩
  have S2:=S1.set (putF "empty" (.ref e) fs1)
  generalize hf2:putF "empty" (.ref e) fs1=fs2 at S2
  generalize upd H1 a (.ins C3 dx fs2)=H2 at S2
  refine ⟨_,rfl,R,rs,rules,rfl,S2.kp.seq hR,S2.kp.rules hrl,hlen,h8,hgood,S2.t1,S2.t3,nT,fun dl kl H3 fdl s3 t13 t33 edl kdl=>?_⟩
  have S3:=S2.next2 s3 t13 t33
  refine ⟨_,rfl,a,C3,dx,fs2,rfl,S3.ia,L.cls,L.a3,(by rw [← hf2,← hf1]; show 2 < 1000; decide),?_⟩
  have S4:=S3.set (putF "least" (.ref dl) fs2)
  generalize hf4:putF "least" (.ref dl) fs2=fs4 at S4
  generalize upd H3 a (.ins C3 dx fs4)=H4 at S4
  have x4:H4 x=some (.ins C dxb fsb):=S4.kp _ _ exb (fun _ z=>by cases z)
  refine ⟨_,rfl,_,rfl,x,C,dxb,fsb,_,rfl,x4,B.cls,B.a1,leb,R,e1,rs,te,rules,ets,rfl,S4.kp.seq hR,S4.kp.rules hrl,by omega,h8,SqL.of (S4.kp.lst ee1),evb.keep fun _ _ z=>S4.kp.tup z,emp,by omega,fun dh kh H5 fdh s5 edh kdh=>?_⟩
  have S5:=S4.next s5
  refine ⟨_,rfl,a,C3,dx,fs4,rfl,S5.ia,L.cls,L.a4,(by rw [← hf4,← hf2,← hf1]; show 3 < 1000; decide),?_⟩
  have S6:=S5.set (putF "hollow" (.ref dh) fs4)
  generalize hf6:putF "hollow" (.ref dh) fs4=fs6 at S6
  generalize upd H5 a (.ins C3 dx fs6)=H6 at S6
  have x6:H6 x=some (.ins C dxb fsb):=S6.kp _ _ exb (fun _ z=>by cases z)
  have b6:=S6.kp.lst ebg
  have v6:Paired (fun t (b:Be)=>SqT K H6 t [.str b.1,.str b.2.1,.int (b.2.2.1:Int),.int (b.2.2.2:Int)]) tb bes:=Paired.mapP hbv fun _ _ z=>S6.kp.tup z
  refine ⟨_,rfl,x,C,dxb,fsb,_,rfl,x6,B.cls,B.a3,l2,bg,rfl,⟨_,SqL.of b6⟩,fun D7 hD7=>comp_begs (SqL.of b6) v6 (by omega) hD7 fun us H7 s7 e7 p7=>?_⟩
  obtain ⟨kvs,pk⟩:=prT_ex p7
  refine ⟨D7,us,kvs,rfl,e7,pk,fun db hdb=>?_⟩
  have S8:=(S6.next s7).next (same_laid hdb (.dT (fillT kvs [])))
  refine ⟨_,rfl,a,C3,dx,fs6,rfl,S8.ia,L.cls,L.a5,(by rw [← hf6,← hf4,← hf2,← hf1]; show 4 < 1000; decide),?_⟩
  have S9:=S8.set (putF "beginnings" (.ref db) fs6)
  exact q _ S9.sm S9.t1 S9.t3
end
end K11
namespace K11
open PySem L2 M11
section
variable {P:Program} {w:World} {K:PySem.W.Frag} {mg:Str→Option Value} {base:Heap} {f:Addr} {fd:FuncData}
structure FunV (K:PySem.W.Frag) (x qual:Str) (st:Stmt) (f:Addr) (fd:FuncData):Prop where
 ex:∃ (oc:Value) (od:Option Addr) (kV doc pm:Value) (an:Option Addr) (cdv ct:Value) (osl:Array (Option Value)) (T:Addr) (o:Obj) (n:Nat),
  fd=PySem.W.fnOf x qual (defArgs st) (defBody st) (defScope st) (.ref T) kV doc pm an cdv ct∧K.lookup f=some ⟨oc,od,.func fd,osl⟩∧PySem.W.codeIn K cdv qual=true∧K.lookup T=some o∧o.data=.seq #[.none] n
 kp:PySem.W.keepIn K (.ref f)=true
theorem FunV.ok {x qual:Str} {st:Stmt} {f:Addr} {fd:FuncData} {N ps:List Str} {k:Nat} {sp:Sp} (F:FunV K x qual st f fd) (S:FnScope N ps (defScope st)) (len:∀ vs H Q E,sp vs H Q E→vs.length=ps.length)
  (hbody:∀ (cdv:Value) (A:Around) (outer:List Env) (s:Shared) (H:Hp) (vs:List V) (Q:VK) (E:XK),Room k (A.deeper (PyProof.Rows.envOfC qual (defScope st) s.heap.objs.size f cdv))→sp vs H Q E →
   ∃ t,PSs (cxOf CX0 P w K mg base N qual (defScope st) f cdv A outer s H E).nox (defBody st) t∧t { nx:=fun _ H'=>Q .non H',rt:=Q } (start N vs) H):FnOk P w K mg base CX0 (k+1) f fd ps sp:=by
 obtain ⟨oc,od,kV,doc,pm,an,cdv,ct,osl,T,o,n,rfl,lk,hcd,_⟩:=F.ex
 refine fn_of lk hcd S len fun A outer s H vs Q E hr hsp=>?_
 obtain ⟨t,h,q⟩:=hbody cdv A outer s H vs Q E hr hsp
 exact ⟨t,h.nox,q⟩
theorem ginit_b0 {f:Addr} {fd:FuncData} (F:FunV K "__init__" "Grammar.__init__" sGInit f fd):Binds K fd ["self","rules","strengths"] []:=by
 obtain ⟨oc,od,kV,doc,pm,an,cdv,ct,osl,T,o,n,rfl,lk,hcd,lT,dT⟩:=F.ex
 intro s us KI hl
 match us,hl with
 | [u1,u2,u3],_=>exact BindsTo.of_defaults rfl (KI T o lT) dT rfl rfl
theorem ginit_b1 {f:Addr} {fd:FuncData} (F:FunV K "__init__" "Grammar.__init__" sGInit f fd):Binds K fd ["self","rules","strengths"] [.none]:=by
 obtain ⟨oc,od,kV,doc,pm,an,cdv,ct,osl,T,o,n,rfl,lk,hcd,lT,dT⟩:=F.ex
 intro s us KI hl
 have hl2:us.length=2:=by
  have:(us++[Value.none]).length=3:=hl
  rw [List.length_append] at this
  exact Nat.succ.inj this
 match us,hl2 with
 | [u1,u2],_=>exact BindsTo.of_defaults rfl (KI T o lT) dT rfl rfl
structure GC (K:PySem.W.Frag) (C:Addr):Prop where
 cls:Cls K C
 a1:NoAttr K C "rules"
 a2:NoAttr K C "strengths"
 a3:NoAttr K C "begin_table"
 a4:NoAttr K C "standings"
 a5:NoAttr K C "small_trees"
def StrIn (K:PySem.W.Frag) (H:Hp) (sv:V) (ss:List Addr) (str:List Rule):Prop:=(sv=.non∧ss=[]∧str=[])∨∃ S,sv=.ref S∧SqL K H S (ss.map V.ref)∧Rules K H ss str
def GrV (H0 H:Hp) (Cg g:Addr) (rs ss:List Addr) (bt:Addr):Prop:=∃ gx fs R2 S2,H g=some (.ins Cg gx fs)∧fs.lookup ("rules":Str)=some (.ref R2)∧fs.lookup ("strengths":Str)=some (.ref S2)∧fs.lookup ("begin_table":Str)=some (.ref bt)∧fs.lookup ("start":Str)=none ∧
 H R2=some (.lst (rs.map V.ref))∧H S2=some (.lst (ss.map V.ref))∧H0 R2=none∧H0 S2=none
def Same3 (T1 T2 T3:Addr) (H H':Hp):Prop:=∀ b o,b≠T1→b≠T2→b≠T3→H b=some o→H' b=some o
structure Tb3 (T1 T2 T3:Addr) (H:Hp):Prop where
 t1:Tab T1 lmL.2.2.2 lqL H
 t2:Tab T2 lmG.2.2.2 lqG H
 t3:Tab T3 posB lqB H
 n12:T1≠T2
 n13:T1≠T3
 n23:T2≠T3
theorem Tb3.same {T1 T2 T3:Addr} {H H':Hp} (h:Tb3 T1 T2 T3 H) (s:Same H H'):Tb3 T1 T2 T3 H':=⟨h.t1.same s,h.t2.same s,h.t3.same s,h.n12,h.n13,h.n23⟩
theorem Tb3.updI {T1 T2 T3 a C dx:Addr} {H:Hp} {fs:List (Str×V)} {o:HO} (h:Tb3 T1 T2 T3 H) (ha:H a=some (.ins C dx fs)):Tb3 T1 T2 T3 (upd H a o):=⟨tab_updI h.t1 ha,tab_updI h.t2 ha,tab_updI h.t3 ha,h.n12,h.n13,h.n23⟩
theorem Kp.of3 {T1 T2 T3:Addr} {H H':Hp} (s:Same3 T1 T2 T3 H H') (t:Tb3 T1 T2 T3 H):Kp H H':=fun c o hc hn=>by
 obtain ⟨ps1,b1,_⟩:=t.t1
 obtain ⟨ps2,b2,_⟩:=t.t2
 obtain ⟨ps3,b3,_⟩:=t.t3
 exact s c o (fun z=>by rw [z,b1] at hc; cases hc; exact hn _ rfl) (fun z=>by rw [z,b2] at hc; cases hc; exact hn _ rfl) (fun z=>by rw [z,b3] at hc; cases hc; exact hn _ rfl) hc
def spGInit (K:PySem.W.Frag) (Cg C T1 T2 T3:Addr):Sp:=fun vs H Q _=>∃ (H0:Hp) (g gx R:Addr) (sv:V) (rs ss:List Addr) (rules str:List Rule) (rk:Str→Nat) (b:Str→Int),vs=[.ref g,.ref R,sv]∧Same H0 H∧H0 g=none∧H g=some (.ins Cg gx [])∧SqL K H0 R (rs.map V.ref)∧Rules K H0 rs rules∧rules.length < 64∧(∀ ru∈rules,ru.2.length≤8)∧rules≠[] ∧
 StrIn K H0 sv ss str∧str.length≤1000∧(∀ ru∈str,ru.2.length≤8)∧(str.flatMap (·.2)).Nodup∧Good rules rk b∧Tb3 T1 T2 T3 H0 ∧
 ∀ (bt:Addr) (H':Hp),Same3 T1 T2 T3 H0 H'→Tb3 T1 T2 T3 H'→GrV H0 H' Cg g rs ss bt→Q .non H'
theorem BSt.updI {C:Addr} {H0 H:Hp} {a e d bg:Addr} {kE:List (Key×V)} {ets:List (Str×Nat)} {ps:List (Str×Addr)} {bes:List Be} {g Cg gx:Addr} {fs fs':List (Str×V)} (h:BSt K C H0 H a e d bg kE ets ps bes) (hg:H0 g=some (.ins Cg gx fs)) (na:a≠g) :
  BSt K C (upd H0 g (.ins Cg gx fs')) (upd H g (.ins Cg gx fs')) a e d bg kE ets ps bes:=by
 have hg1:=h.sm _ _ hg
 have up:∀ c o,c≠g→H c=some o→upd H g (.ins Cg gx fs') c=some o:=fun c o n q=>by rw [upd_ne n]; exact q
 refine ⟨fun c o hc=>?_,?_,up _ _ (fun z=>by have:=h.he; rw [z,hg1] at this; cases this) h.he,up _ _ (fun z=>by have:=h.hd; rw [z,hg1] at this; cases this) h.hd,h.n1,h.n2,fun p hp=>?_,?_,?_,?_⟩
 ·by_cases z:c=g
  ·rw [z,upd_same] at hc ⊢; exact hc
  ·rw [upd_ne z] at hc ⊢; exact h.sm _ _ hc
 ·obtain ⟨dx,fs,q,r⟩:=h.ia
  exact ⟨dx,fs,up _ _ na q,r⟩
 ·obtain ⟨⟨kvs,q,r⟩,t1,t2⟩:=h.dk p hp
  exact ⟨⟨kvs,up _ _ (fun z=>by rw [z,hg1] at q; cases q) q,r⟩,by rw [upd_ne (fun z=>by rw [z,hg] at t1; cases t1)]; exact t1,t2⟩
 ·obtain ⟨ts,q,r⟩:=h.lb
  exact ⟨ts,up _ _ (fun z=>by rw [z,hg1] at q; cases q) q,Paired.mapP r fun _ _ z=>sqt_updI hg1 z⟩
 ·have t1:=h.fb
  rw [upd_ne (fun z=>by rw [z,hg] at t1; cases t1)]; exact t1
 ·obtain ⟨e1,ts,⟨dx,fs,q1,q2⟩,q3,q4,q5⟩:=h.em
  exact ⟨e1,ts,⟨dx,fs,up _ _ na q1,q2⟩,up _ _ (fun z=>by rw [z,hg1] at q3; cases q3) q3,q4.keep fun _ _ z=>sqt_updI hg1 z,q5⟩
theorem scGInit:FnScope ["self","rules","strengths"] ["self","rules","strengths"] (defScope sGInit):=⟨rfl,rfl,rfl,by decide +kernel,rfl,by decide +kernel,by decide +kernel⟩
theorem ok_ginit {Cg C C3 T1 T2 T3 fB fL:Addr} {fdB fdL:FuncData} (F:FunV K "__init__" "Grammar.__init__" sGInit f fd) (T:Txt mg) (G:GC K Cg) (GR:CalleeD P w K mg base 6 "refuse_faults" ["rules","strengths"] (spRefuse K T1 T2)) (GS:CalleeD P w K mg base 6 "standings_by_part" ["rules"] (spStd K))
  (FB:FnOk P w K mg base CX0 5 fB fdB ["self","rules"] (spBInit K C)) (MB:Mk K C fB) (BB:Binds K fdB ["self","rules"] []) (mB:mg "BeginTable"=some (.ref C))
  (FL:FnOk P w K mg base CX0 5 fL fdL ["self","rules","begin_table"] (spLInit K C C3 T1 T3)) (ML:Mk K C3 fL) (BL:Binds K fdL ["self","rules","begin_table"] []) (mL:mg "LeastTrees"=some (.ref C3)):FnOk P w K mg base CX0 7 f fd ["self","rules","strengths"] (spGInit K Cg C T1 T2 T3):=by
 refine F.ok scGInit (fun vs H Q E h=>?_) (fun cdv A outer s H vs Q E hr h=>?_)
 ·obtain ⟨H0,g,gx,R,sv,rs,ss,rules,str,rk,b,rfl,_⟩:=h; rfl
 ·obtain ⟨H0,g,gx,R,sv,rs,ss,rules,str,rk,b,rfl,s0,f0,eg,hR,hrl,hlen,h8,hne,hst,hsn,hs8,hsd,gd,hT3,q⟩:=h
  refine ⟨_,pss_cons (ps_fld (pv 0) (pe_callTy call_list_of rfl T.lst boot_lst (pa_cons (pv 1) pa_nil)) rfl)
   (pss_cons (ps_cutS (ps_fld (pv 0) (pe_ifExp (pt_cmp (pc_isN (pv 2))) (pe_lst pa_nil) (pe_callTy call_list_of rfl T.lst boot_lst (pa_cons (pv 2) pa_nil))) rfl))
   (pss_cons (ps_expr (pe_fn GR hr rfl (pa_cons (pe_fld (pv 0) rfl) (pa_cons (pe_fld (pv 0) rfl) pa_nil))))
   (pss_cons (ps_fld (pv 0) (pe_fn GS hr rfl (pa_cons (pe_fld (pv 0) rfl) pa_nil)) rfl)
   (pss_cons (ps_fld (pv 0) (pe_make MB FB hr rfl mB BB .nil pass0 (pa_cons (pe_fld (pv 0) rfl) pa_nil)) rfl)
   (pss_one (ps_fld (pv 0) (pe_make ML FL hr rfl mL BL .nil pass0 (pa_cons (pe_fld (pv 0) rfl) (pa_cons (pe_fld (pv 0) rfl) pa_nil))) rfl)))))),?_⟩
  refine ⟨_,rfl,R,_,rfl,.inl (s0.seq hR),fun R2 hR2=>?_⟩
  have eg1:=same_laid hR2 (.lst (rs.map V.ref)) _ _ eg
  have er1:upd H R2 (.lst (rs.map V.ref)) R2=some (.lst (rs.map V.ref)):=upd_same
  have s01:=s0.trans (same_laid hR2 (.lst (rs.map V.ref)))
  generalize upd H R2 (.lst (rs.map V.ref))=H1 at eg1 er1 s01
  refine ⟨_,rfl,g,Cg,gx,[],rfl,eg1,G.cls,G.a1,(by show 0 < 1000; decide),?_⟩
  generalize hfs2:putF "rules" (.ref R2) []=fs2
  have er2:upd H1 g (.ins Cg gx fs2) R2=some (.lst (rs.map V.ref)):=by rw [upd_ne (fun z=>by rw [z,eg1] at er1; cases er1)]; exact er1
  have s02:Same H0 (upd H1 g (.ins Cg gx fs2)):=fun c o hc=>by rw [upd_ne (fun z=>by rw [z,f0] at hc; cases hc)]; exact s01 c o hc
  have eg2:upd H1 g (.ins Cg gx fs2) g=some (.ins Cg gx fs2):=upd_same
  generalize upd H1 g (.ins Cg gx fs2)=H2 at er2 s02 eg2
  refine ⟨fun σ H3=>σ=[some (.ref g),some (.ref R),some sv]∧∃ S2 fs,Same H0 H3∧H3 g=some (.ins Cg gx fs)∧fs=putF "strengths" (.ref S2) fs2∧H3 R2=some (.lst (rs.map V.ref))∧H3 S2=some (.lst (ss.map V.ref))∧H0 S2=none,?_,?_⟩
  ·have fin:∀ S2,H2 S2=none→(fun H3=>∃ S2 fs,Same H0 H3∧H3 g=some (.ins Cg gx fs)∧fs=putF "strengths" (.ref S2) fs2∧H3 R2=some (.lst (rs.map V.ref))∧H3 S2=some (.lst (ss.map V.ref))∧H0 S2=none) (upd (upd H2 S2 (.lst (ss.map V.ref))) g (.ins Cg gx (putF "strengths" (.ref S2) fs2)))∧upd H2 S2 (.lst (ss.map V.ref)) g=some (.ins Cg gx fs2):=fun S2 hS2=>by
    have sl:=same_laid hS2 (.lst (ss.map V.ref))
    have eS:upd H2 S2 (.lst (ss.map V.ref)) S2=some (.lst (ss.map V.ref)):=upd_same
    have eg3:=sl _ _ eg2
    refine ⟨⟨S2,_,fun c o hc=>?_,upd_same,rfl,?_,?_,s02.free hS2⟩,eg3⟩
    ·rw [upd_ne (fun z=>by rw [z,f0] at hc; cases hc)]; exact sl _ _ (s02 c o hc)
    ·rw [upd_ne (fun z=>by rw [z,eg2] at er2; cases er2)]; exact sl _ _ er2
    ·rw [upd_ne (fun z=>by rw [z,eg2] at hS2; cases hS2)]; exact eS
   rcases hst with ⟨rfl,rfl,rfl⟩ | ⟨S,rfl,hS,hsl⟩
   ·refine ⟨_,rfl,_,rfl,?_⟩
    refine iteT ?_
    refine ⟨(by show 0≤sizeLine; decide),fun S2 hS2=>?_⟩
    obtain ⟨x1,x2⟩:=fin S2 hS2
    exact ⟨_,rfl,g,Cg,gx,fs2,rfl,x2,G.cls,G.a2,(by rw [← hfs2]; show 1 < 1000; decide),rfl,x1⟩
   ·refine ⟨_,rfl,_,rfl,?_⟩
    refine iteF ?_
    refine ⟨_,rfl,S,_,rfl,.inl (s02.seq hS),fun S2 hS2=>?_⟩
    obtain ⟨x1,x2⟩:=fin S2 hS2
    exact ⟨_,rfl,g,Cg,gx,fs2,rfl,x2,G.cls,G.a2,(by rw [← hfs2]; show 1 < 1000; decide),rfl,x1⟩
  ·rintro σ H3 ⟨rfl,S2,fs3,s03,eg3,hfs3,er3,es3,fS2⟩
   have lk1:fs3.lookup ("rules":Str)=some (.ref R2):=by rw [hfs3,← hfs2]; rfl
   have lk2:fs3.lookup ("strengths":Str)=some (.ref S2):=by rw [hfs3,← hfs2]; rfl
   have hsl3:Rules K H3 ss str:=by
    rcases hst with ⟨_,rfl,rfl⟩ | ⟨S,_,_,hsl⟩
    ·exact .nil
    ·exact hsl.same s03
   have t13:=hT3.same s03
   refine ⟨_,rfl,g,Cg,gx,fs3,_,rfl,eg3,G.cls,G.a1,lk1,_,rfl,g,Cg,gx,fs3,_,rfl,eg3,G.cls,G.a2,lk2,R2,S2,rs,ss,rules,str,rk,b,rfl,SqL.of er3,hrl.same s03,by omega,h8,hne,SqL.of es3,hsl3,hsn,hs8,hsd,gd,t13.t1,t13.t2,t13.n12,fun H4 s34 t14 t24=>?_⟩
   have kp34:=Kp.of2 s34 t13.t1 t13.t2
   have t4:Tb3 T1 T2 T3 H4:=⟨t14,t24,Tab.s2 t13.t3 s34 t13.t1 t13.t2 t13.n13.symm t13.n23.symm,t13.n12,t13.n13,t13.n23⟩
   have S04:Same3 T1 T2 T3 H0 H4:=fun c o n1 n2 _ hc=>s34 c o n1 n2 (s03 c o hc)
   have eg4:=kp34 _ _ eg3 (fun _ z=>by cases z)
   have er4:=kp34.lst er3
   have es4:=kp34.lst es3
   have hrl4:Rules K H4 rs rules:=kp34.rules (hrl.same s03)
   clear t14 t24 s34 t13
   refine ⟨_,rfl,g,Cg,gx,fs3,_,rfl,eg4,G.cls,G.a1,lk1,R2,rs,rules,rfl,SqL.of er4,hrl4,by omega,h8,fun ds H5 fds s45=>?_⟩
   have eg5:=s45 _ _ eg4
   have er5:=s45 _ _ er4
   have es5:=s45 _ _ es4
   have hrl5:=hrl4.same s45
   have t5:=t4.same s45
   have S05:Same3 T1 T2 T3 H0 H5:=fun c o n1 n2 n3 hc=>s45 _ _ (S04 c o n1 n2 n3 hc)
   refine ⟨_,rfl,g,Cg,gx,fs3,rfl,eg5,G.cls,G.a4,(by rw [hfs3,← hfs2]; show 2 < 1000; decide),?_⟩
   generalize hfs6:putF "standings" (.ref ds) fs3=fs6
   have nup:∀ {Hx:Hp} {fx fy:List (Str×V)},Hx g=some (.ins Cg gx fx)→Same3 T1 T2 T3 H0 Hx→Same3 T1 T2 T3 H0 (upd Hx g (.ins Cg gx fy)):=fun {Hx fx fy} hg hs c o n1 n2 n3 hc=>by
    rw [upd_ne (fun z=>by rw [z,f0] at hc; cases hc)]
    exact hs c o n1 n2 n3 hc
   have lup:∀ {Hx:Hp} {fx fy:List (Str×V)} {b:Addr} {xs:List V},Hx g=some (.ins Cg gx fx)→Hx b=some (.lst xs)→upd Hx g (.ins Cg gx fy) b=some (.lst xs):=fun {Hx fx fy b xs} hg hb=>by
    rw [upd_ne (fun z=>by rw [z,hg] at hb; cases hb)]
    exact hb
   have S06:=nup (fy:=fs6) eg5 S05
   have er6:=lup (fy:=fs6) eg5 er5
   have es6:=lup (fy:=fs6) eg5 es5
   have hrl6:Rules K (upd H5 g (.ins Cg gx fs6)) rs rules:=hrl5.keep fun _ _ z=>sqt_updI eg5 z
   have t6:Tb3 T1 T2 T3 (upd H5 g (.ins Cg gx fs6)):=t5.updI eg5
   have eg6:upd H5 g (.ins Cg gx fs6) g=some (.ins Cg gx fs6):=upd_same
   generalize upd H5 g (.ins Cg gx fs6)=H6 at S06 er6 es6 hrl6 t6 eg6
   have lk6:fs6.lookup ("rules":Str)=some (.ref R2):=by rw [← hfs6,hfs3,← hfs2]; rfl
   refine ⟨_,rfl,g,Cg,gx,fs6,_,rfl,eg6,G.cls,G.a1,lk6,fun x dx hx hdx ndx=>?_⟩
   have sx:Same H6 (upd (upd H6 dx (.own x)) x (.ins C dx [])):=(same_laid hdx _).trans (same_laid (by rw [upd_ne ndx.symm]; exact hx) _)
   refine ⟨H6,x,dx,R2,rs,rules,rfl,sx,hx,upd_same,SqL.of er6,hrl6,by omega,h8,fun e d bg kE ets ps bes H7 S7 m7 emp _ _ beg _=>⟨rfl,?_⟩⟩
   have eg7:=S7.sm _ _ eg6
   have er7:=S7.sm _ _ er6
   have es7:=S7.sm _ _ es6
   have t7:=t6.same S7.sm
   have hrl7:=hrl6.same S7.sm
   have S07:Same3 T1 T2 T3 H0 H7:=fun c o n1 n2 n3 hc=>S7.sm _ _ (S06 c o n1 n2 n3 hc)
   refine ⟨_,rfl,g,Cg,gx,fs6,rfl,eg7,G.cls,G.a3,(by rw [← hfs6,hfs3,← hfs2]; show 3 < 1000; decide),?_⟩
   generalize hfs8:putF "begin_table" (.ref x) fs6=fs8
   have S08:=nup (fy:=fs8) eg7 S07
   have er8:=lup (fy:=fs8) eg7 er7
   have es8:=lup (fy:=fs8) eg7 es7
   have hrl8:Rules K (upd H7 g (.ins Cg gx fs8)) rs rules:=hrl7.keep fun _ _ z=>sqt_updI eg7 z
   have t8:Tb3 T1 T2 T3 (upd H7 g (.ins Cg gx fs8)):=t7.updI eg7
   have eg8:upd H7 g (.ins Cg gx fs8) g=some (.ins Cg gx fs8):=upd_same
   have B8:BSt K C (upd H6 g (.ins Cg gx fs8)) (upd H7 g (.ins Cg gx fs8)) x e d bg kE ets ps bes:=S7.updI eg6 (fun z=>by rw [z,eg6] at hx; cases hx)
   generalize upd H7 g (.ins Cg gx fs8)=H8 at S08 er8 es8 hrl8 t8 eg8 B8
   have lk8:fs8.lookup ("rules":Str)=some (.ref R2):=by rw [← hfs8,← hfs6,hfs3,← hfs2]; rfl
   have lb8:fs8.lookup ("begin_table":Str)=some (.ref x):=by rw [← hfs8,← hfs6,hfs3,← hfs2]; rfl
   refine ⟨_,rfl,g,Cg,gx,fs8,_,rfl,eg8,G.cls,G.a1,lk8,_,rfl,g,Cg,gx,fs8,_,rfl,eg8,G.cls,G.a3,lb8,fun y dy hy hdy ndy=>?_⟩
   have sy:Same H8 (upd (upd H8 dy (.own y)) y (.ins C3 dy [])):=(same_laid hdy _).trans (same_laid (by rw [upd_ne ndy.symm]; exact hy) _)
   have lbes:=beg.len (by omega) h8
   refine ⟨H8,_,y,dy,R2,x,e,d,bg,rs,rules,kE,ets,ps,bes,rfl,sy,hy,upd_same,SqL.of er8,hrl8,hlen,h8,gd.least,B8,emp,lbes,t8.t1,t8.t3,t8.n13,fun H9 s89 t19 t39=>⟨rfl,?_⟩⟩
   have kp89:=Kp.of2 s89 t8.t1 t8.t3
   have eg9:=kp89 _ _ eg8 (fun _ z=>by cases z)
   have er9:=kp89.lst er8
   have es9:=kp89.lst es8
   have t9:Tb3 T1 T2 T3 H9:=⟨t19,Tab.s2 t8.t2 s89 t8.t1 t8.t3 t8.n12.symm t8.n23,t39,t8.n12,t8.n13,t8.n23⟩
   have S09:Same3 T1 T2 T3 H0 H9:=fun c o n1 n2 n3 hc=>s89 _ _ n1 n3 (S08 c o n1 n2 n3 hc)
   refine ⟨_,rfl,g,Cg,gx,fs8,rfl,eg9,G.cls,G.a5,(by rw [← hfs8,← hfs6,hfs3,← hfs2]; show 4 < 1000; decide),?_⟩
   refine q x _ (nup eg9 S09) (t9.updI eg9) ⟨gx,_,R2,S2,upd_same,?_,?_,?_,?_,lup eg9 er9,lup eg9 es9,s0.free hR2,fS2⟩
   ·rw [← hfs8,← hfs6,hfs3,← hfs2]; rfl
   ·rw [← hfs8,← hfs6,hfs3,← hfs2]; rfl
   ·rw [← hfs8,← hfs6,hfs3,← hfs2]; rfl
   ·rw [← hfs8,← hfs6,hfs3,← hfs2]; rfl
def spStart (K:PySem.W.Frag) (Cg:Addr):Sp:=fun vs H Q _=>∃ (H0:Hp) (g bt:Addr) (rs ss:List Addr) (rules:List Rule) (ru0:Rule),vs=[.ref g]∧GrV H0 H Cg g rs ss bt∧Rules K H rs rules∧rules[0]?=some ru0∧Q (.str ru0.1) H
theorem scStart:FnScope ["self"] ["self"] (defScope sStart):=⟨rfl,rfl,rfl,by decide +kernel,rfl,by decide +kernel,by decide +kernel⟩
theorem ok_start {Cg:Addr} (F:Fun K "start" "Grammar.start" sStart f fd) (G:GC K Cg):FnOk P w K mg base CX0 1 f fd ["self"] (spStart K Cg):=by
 refine F.ok scStart (fun vs H Q E h=>?_) (fun cdv A outer s H vs Q E hr h=>?_)
 ·obtain ⟨H0,g,bt,rs,ss,rules,ru0,rfl,_⟩:=h; rfl
 ·obtain ⟨H0,g,bt,rs,ss,rules,ru0,rfl,⟨gx,fs,R2,S2,eg,l1,l2,l3,l4,e1,e2,_⟩,hrl,hr0,q⟩:=h
  refine ⟨_,pss_one (ps_ret (pe_ix ix_tup (pe_ix ix_list (pe_fld (pv 0) rfl) pe_int (fun _ _=>rfl)) pe_int (fun _ _=>rfl))),?_⟩
  have ll:=Paired.length hrl
  have l0:=(List.getElem?_eq_some_iff.mp hr0).1
  obtain ⟨r0,er0,p,v1,v2⟩:=Paired.at_ hrl 0 ru0 hr0
  have at0:atI (rs.map V.ref) ((0:Nat):Int)=some (.ref r0):=atI_nat (by rw [List.getElem?_map,er0]; rfl)
  exact ⟨_,rfl,g,Cg,gx,fs,_,rfl,eg,G.cls,G.a1,l1,R2,_,_,_,rfl,rfl,SqL.of e1,at0,r0,_,_,_,rfl,rfl,v1,rfl,q⟩
end
end K11
namespace K11
open PySem L2 M11
abbrev sCell:Stmt:=top 39
abbrev sStream:Stmt:=top 40
abbrev sPool:Stmt:=top 41
section
variable {P:Program} {w:World} {K:PySem.W.Frag} {mg:Str→Option Value} {base:Heap} {f:Addr} {fd:FuncData}
def spCell (K:PySem.W.Frag):Sp:=fun vs H Q _=>∃ (a:Addr) (ns:List Int) (k:Nat),vs=[.ref a,.int (k:Int)]∧SqL K H a (ns.map V.int)∧ns.length≤1000∧∀ n:Int,Q (.int n) H
theorem scCell:FnScope ["_law_script","_law_k"] ["_law_script","_law_k"] (defScope sCell):=⟨rfl,rfl,rfl,by decide +kernel,rfl,by decide +kernel,by decide +kernel⟩
theorem ok_cell (F:Fun K "_law_cell_at" "_law_cell_at" sCell f fd) (T:Txt mg):FnOk P w K mg base CX0 1 f fd ["_law_script","_law_k"] (spCell K):=by
 refine F.ok scCell (fun vs H Q E h=>?_) (fun cdv A outer s H vs Q E hr h=>?_)
 ·obtain ⟨a,ns,k,rfl,_⟩:=h; rfl
 ·obtain ⟨a,ns,k,rfl,hS,hn,q⟩:=h
  refine ⟨_,pss_cons (ps_if (pt_cmpR op_lt (pv 1) (pe_callB call_len_seq rfl T.len PySem.boot_len (pa_cons (pv 0) pa_nil)) (nomark _)) (pss_one (ps_ret (pe_ix ix_list (pv 0) (pv 1) (fun _ _=>rfl)))) pss_nil) (pss_one (ps_ret pe_int)),?_⟩
  refine ⟨_,rfl,_,rfl,a,_,rfl,.inl hS,_,_,rfl,rfl,_,rfl,?_⟩
  refine ite2 (fun cc=>?_) (fun _=>q 0)
  have lt:=of_decide_eq_true cc
  rw [List.length_map] at lt
  have lt':k < ns.length:=by omega
  refine ⟨_,rfl,_,rfl,a,_,_,.int ns[k],rfl,rfl,hS,atI_nat (by rw [List.getElem?_map,List.getElem?_eq_getElem lt']; rfl),q _⟩
def spStream:Sp:=fun vs H Q _=>∃ (c:Int) (m:Nat),vs=[.int c,.int (m:Int)]∧m≤100∧∀ D ns H',H D=none→Same H H'→H' D=some (.lst (List.map V.int ns))→ns.length=m→(∀ n∈ns,(0:Int)≤n∧n < 4294967311)→Q (.ref D) H'
theorem scStream:FnScope ["_law_cell","_law_many","_law_found","_law_number","_law_k"] ["_law_cell","_law_many"] (defScope sStream):=⟨rfl,rfl,rfl,by decide +kernel,rfl,by decide +kernel,by decide +kernel⟩
theorem cut1 (xs:List V):cutV xs (some 1) none=xs.drop 1:=by
 have e1:HT.sIx xs.length 0 (some 1)=min 1 xs.length:=HT.sIx_nat _ _ 1
 have e2:HT.sIx xs.length xs.length none=xs.length:=rfl
 unfold cutV
 rw [e1,e2]
 cases xs with
 | nil=>rfl
 | cons x r=>simp
theorem ok_stream (F:Fun K "_law_stream" "_law_stream" sStream f fd) (T:Txt mg):FnOk P w K mg base CX0 1 f fd ["_law_cell","_law_many"] spStream:=by
 refine F.ok scStream (fun vs H Q E h=>?_) (fun cdv A outer s H vs Q E hr h=>?_)
 ·obtain ⟨c,m,rfl,_⟩:=h; rfl
 ·obtain ⟨c,m,rfl,hm,q⟩:=h
  refine ⟨_,pss_cons (ps_set (i:=2) scStream.nd rfl (Or.inl rfl) (pe_lst pa_nil))
   (pss_cons (ps_set (i:=3) scStream.nd rfl (Or.inl rfl) (pe_op op_add (pe_op op_mod (pv 0) pe_int) pe_int))
   (pss_cons (ps_for PassesOwn.never rfl (pi_range1 rfl T.rng (pa_cons (pe_op op_add (pv 1) pe_int) pa_nil)) (pg_name (i:=4) scStream.nd rfl (Or.inl rfl))
    (pss_cons (ps_set (i:=3) scStream.nd rfl (Or.inl rfl) (pe_op op_mod (pe_op op_add (pe_op op_add (pe_op op_mul (pv 3) (pv 3)) (pe_op op_mul pe_int (pv 3))) (pv 4)) pe_int))
    (pss_one (ps_expr (pe_bm PySem.F.plainAttrs_list PySem.F.slot_list_append PySem.F.type_list_append mt_append (pv 2) (pa_cons (pv 3) pa_nil))))))
   (pss_one (ps_ret (pe_slice sl_list (pv 2) (po_some pe_int) po_none))))),?_⟩
  refine ⟨(by show 0≤sizeLine; decide),fun l hl=>?_⟩
  refine ⟨_,rfl,_,_,rfl,rfl,(by show (0:Int) < 4294967311; decide),_,_,rfl,rfl,?_⟩
  refine ⟨_,rfl,_,_,rfl,rfl,_,rfl,(by omega),(by omega),?_⟩
  have e0:((m:Int)+1).toNat=m+1:=by omega
  rw [e0]
  have hx0:(0:Int)≤c % 4294967311+48271∧c % 4294967311+48271 < 8589934592:=by omega
  refine for_range (n:=m+1) (fun i σ H2=>∃ (x:Int) (ns:List Int) (kk:Option V),σ=[some (.int c),some (.int (m:Int)),some (.ref l),some (.int x),kk]∧H2=upd H l (.lst (ns.map V.int))∧ns.length=i∧((0:Int)≤x∧x < 8589934592)∧∀ n∈ns,(0:Int)≤n∧n < 4294967311)
   ⟨c % 4294967311+48271,[],none,rfl,rfl,rfl,hx0,by simp⟩ ?_ ?_
  ·rintro i σ H2 hi ⟨x,ns,kk,rfl,rfl,hl2,hx,hns⟩
   refine ⟨_,rfl,_,rfl,_,_,rfl,rfl,.inl ⟨by omega,by omega⟩,_,rfl,_,_,rfl,rfl,.inl ⟨by decide,by decide⟩,_,_,rfl,rfl,_,rfl,_,_,rfl,rfl,_,_,rfl,rfl,(by show (0:Int) < 4294967311; decide),?_⟩
   have hy:(0:Int)≤(x * x+69621 * x+(0+(i:Int))) % 4294967311∧(x * x+69621 * x+(0+(i:Int))) % 4294967311 < 4294967311:=by omega
   refine ⟨_,rfl,.inl ⟨rfl,_,SqL.of upd_same⟩,_,rfl,l,_,_,rfl,rfl,upd_same,fits' (by rw [List.length_map]; omega),?_⟩
   refine ⟨(x * x+69621 * x+(0+(i:Int))) % 4294967311,ns++[(x * x+69621 * x+(0+(i:Int))) % 4294967311],_,rfl,by rw [upd_upd,List.map_append]; rfl,by rw [List.length_append,hl2]; rfl,⟨hy.1,by omega⟩,fun n hn=>?_⟩
   rcases List.mem_append.mp hn with h | h
   ·exact hns n h
   ·rw [List.mem_singleton.mp h]; exact hy
  ·rintro σ H2 ⟨x,ns,kk,rfl,rfl,hl2,hx,hns⟩
   refine ⟨_,rfl,1,rfl,l,_,rfl,SqL.of upd_same,fun p hp=>?_⟩
   rw [cut1]
   have hpl:p≠l:=fun z=>by rw [z,upd_same] at hp; cases hp
   refine q p (ns.drop 1) _ (by rw [upd_ne hpl] at hp; exact hp) ((same_laid hl _).trans (same_laid hp _)) (by rw [upd_same,List.map_drop]) (by rw [List.length_drop,hl2]; omega) fun n hn=>hns n (List.mem_of_mem_drop hn)
def zs93:Str := "!\"#$&'()*+,-./0123456789:;<=>?@ABCDEFGHIJKLMNOPQRSTUVWXYZ[\\]^_`abcdefghijklmnopqrstuvwxyz{|}~"
theorem len93:zs93.cps.toList.length=93:=by decide +kernel
theorem at93 (n:Int):∃ c,atI zs93.cps.toList (n % 93)=some c:=by
 have h:(n % 93).toNat < zs93.cps.toList.length:=by rw [len93]; omega
 refine ⟨zs93.cps.toList[(n % 93).toNat],?_⟩
 have e:n % 93=(((n % 93).toNat:Nat):Int):=by omega
 have:=atI_nat (List.getElem?_eq_getElem h)
 rw [← e] at this
 exact this
theorem nd93:zs93.cps.toList.Nodup:=by decide +kernel
theorem inj93 {a b:Int} {c:Nat} (h1:atI zs93.cps.toList (a % 93)=some c) (h2:atI zs93.cps.toList (b % 93)=some c):a % 93=b % 93:=by
 have e1:a % 93=(((a % 93).toNat:Nat):Int):=by omega
 have e2:b % 93=(((b % 93).toNat:Nat):Int):=by omega
 have l1:(a % 93).toNat < zs93.cps.toList.length:=by rw [len93]; omega
 have l2:(b % 93).toNat < zs93.cps.toList.length:=by rw [len93]; omega
 have g1:=atI_nat (List.getElem?_eq_getElem l1)
 have g2:=atI_nat (List.getElem?_eq_getElem l2)
 rw [← e1,h1] at g1
 rw [← e2,h2] at g2
 have e3:zs93.cps.toList[(a % 93).toNat]=zs93.cps.toList[(b % 93).toNat]:=(Option.some.inj g1).symm.trans (Option.some.inj g2)
 have:=(List.getElem_inj nd93).mp e3
 omega
def PoolAt (pre:Str) (n2:Int) (j:Nat) (z:Str):Prop:=∃ cc suf,z=pre++⟨#[cc]⟩++suf∧atI zs93.cps.toList ((n2+5 * (j:Int)) % 93)=some cc
theorem pool_nd {pre:Str} {n2:Int} {ws:List Str} (hl:ws.length≤14) (h:∀ j z,ws[j]?=some z→PoolAt pre n2 j z):ws.Nodup:=by
 refine List.pairwise_iff_getElem.mpr fun i j hi hj hij e=>?_
 obtain ⟨c1,s1,e1,a1⟩:=h i _ (List.getElem?_eq_getElem hi)
 obtain ⟨c2,s2,e2,a2⟩:=h j _ (List.getElem?_eq_getElem hj)
 rw [e1,e2] at e
 have e':=congrArg (fun z:Str=>z.cps.toList) e
 have q:pre.cps.toList++(c1::s1.cps.toList)=pre.cps.toList++(c2::s2.cps.toList):=by
  have f:∀ (c:Nat) (s:Str),(pre++(⟨#[c]⟩:Str)++s).cps.toList=pre.cps.toList++(c::s.cps.toList):=fun c s=>by
   show ((pre.cps++#[c])++s.cps).toList=_
   simp
  rw [← f,← f]; exact e'
 have q2:=List.append_cancel_left q
 injection q2 with q3 _
 rw [← q3] at a2
 have:=inj93 a1 a2
 omega
def spPool:Sp:=fun vs H Q _=>∃ (c:Int) (m:Nat),vs=[.int c,.int (m:Int)]∧m≤14∧∀ D zs H',H D=none→Same H H'→H' D=some (.lst (List.map V.str zs))→zs.length=m→(∀ z∈zs,z.length≤100)→zs.Nodup→Q (.ref D) H'
theorem scPool:FnScope ["_law_cell","_law_many","_law_signs","_law_draws","_law_size","_law_at","_law_base","_law_found","_law_k","_law_sign","_law_end"] ["_law_cell","_law_many"] (defScope sPool):=⟨rfl,rfl,rfl,by decide +kernel,rfl,by decide +kernel,by decide +kernel⟩
theorem ok_pool (F:Fun K "_law_pool" "_law_pool" sPool f fd) (T:Txt mg) (GS:CalleeD P w K mg base 1 "_law_stream" ["_law_cell","_law_many"] spStream):FnOk P w K mg base CX0 2 f fd ["_law_cell","_law_many"] spPool:=by
 refine F.ok scPool (fun vs H Q E h=>?_) (fun cdv A outer s H vs Q E hr h=>?_)
 ·obtain ⟨c,m,rfl,_⟩:=h; rfl
 ·obtain ⟨c,m,rfl,hm14,q⟩:=h
  refine ⟨_,pss_cons (ps_set (i:=2) scPool.nd rfl (Or.inr rfl) pe_str)
   (pss_cons (ps_set (i:=3) scPool.nd rfl (Or.inl rfl) (pe_fn GS hr rfl (pa_cons (pv 0) (pa_cons pe_int pa_nil))))
   (pss_cons (ps_set (i:=4) scPool.nd rfl (Or.inl rfl) (pe_op op_add pe_int (pe_op op_mod (pe_ix ix_list (pv 3) pe_int (fun _ _=>rfl)) pe_int)))
   (pss_cons (ps_set (i:=5) scPool.nd rfl (Or.inl rfl) (pe_op op_mod (pe_ix ix_list (pv 3) pe_int (fun _ _=>rfl)) (pv 4)))
   (pss_cons (ps_set (i:=6) scPool.nd rfl (Or.inl rfl) (pe_bm PySem.F.plainAttrs_str PySem.F.slot_str_join PySem.F.type_str_join mt_join pe_str
    (pa_cons (pe_compG ["_law_draw"] [(2,"_law_signs")] rfl (pi_list (pe_slice sl_list (pv 3) (po_some pe_int) (po_some (pe_op op_add pe_int (pv 4))))) (caps_of rfl rfl) (by decide +kernel) rfl (by decide +kernel)
     (fun _ _ _ _ _=>pg_name (i:=0) (show (["_law_draw","_law_signs"]:List Str).Nodup by decide +kernel) rfl (Or.inl rfl)) (fun _ _ _ _ _=>pif_nil) (fun _ _ _ _ _=>pe_ix ix_str (pv 1) (pe_op op_mod (pv 0) pe_int) (fun _ _=>rfl))) pa_nil)))
   (pss_cons (ps_set (i:=7) scPool.nd rfl (Or.inl rfl) (pe_lst pa_nil))
   (pss_cons (ps_for PassesOwn.never rfl (pi_range1 rfl T.rng (pa_cons (pv 1) pa_nil)) (pg_name (i:=8) scPool.nd rfl (Or.inl rfl))
    (pss_cons (ps_set (i:=9) scPool.nd rfl (Or.inl rfl) (pe_ix ix_str (pv 2) (pe_op op_mod (pe_op op_add (pe_ix ix_list (pv 3) (pe_op op_add pe_int (pv 5)) (fun _ _=>rfl)) (pe_op op_mul pe_int (pv 8))) pe_int) (fun _ _=>rfl)))
    (pss_cons (ps_set (i:=10) scPool.nd rfl (Or.inl rfl) (pe_op op_add (pe_op op_add (pv 5) pe_int) (pe_op op_mod (pe_op op_fdiv (pe_ix ix_list (pv 3) pe_int (fun _ _=>rfl)) (pe_op op_add (pv 8) pe_int)) pe_int)))
    (pss_one (ps_expr (pe_bm PySem.F.plainAttrs_list PySem.F.slot_list_append PySem.F.type_list_append mt_append (pv 7)
     (pa_cons (pe_op op_add_str (pe_op op_add_str (pe_slice sl_strF (pv 6) po_none (po_some (pv 5))) (pv 9)) (pe_slice sl_strF (pv 6) (po_some (pe_op op_add (pv 5) pe_int)) (po_some (pv 10)))) pa_nil)))))))
   (pss_one (ps_ret (pv 7))))))))),?_⟩
  refine ⟨_,rfl,c,16,rfl,by decide,fun D ns H1 hf0 s1 hD hlen hns=>?_⟩
  have getN:∀ i:Nat,i < 16→∃ x:Int,(0:Int)≤x∧x < 4294967311∧atI (ns.map V.int) (i:Int)=some (.int x):=fun i hi=>by
   have lt:i < ns.length:=by omega
   obtain ⟨a1,a2⟩:=hns ns[i] (List.getElem_mem lt)
   exact ⟨ns[i],a1,a2,atI_nat (by rw [List.getElem?_map,List.getElem?_eq_getElem lt]; rfl)⟩
  obtain ⟨n0,a0,b0,g0⟩:=getN 0 (by decide)
  obtain ⟨n1,a1,b1,g1⟩:=getN 1 (by decide)
  refine ⟨_,rfl,D,_,_,.int n0,rfl,rfl,SqL.of hD,g0,_,_,rfl,rfl,(by show (0:Int) < 14; decide),_,_,rfl,rfl,?_⟩
  refine ⟨_,rfl,D,_,_,.int n1,rfl,rfl,SqL.of hD,g1,_,rfl,_,_,rfl,rfl,(by show (0:Int) < 1+n0 % 14; omega),?_⟩
  have hat:(0:Int)≤n1 % (1+n0 % 14)∧n1 % (1+n0 % 14) < 14:=by
   have h1:(0:Int) < 1+n0 % 14:=by omega
   have h2:=Int.emod_nonneg n1 (Int.ne_of_gt h1)
   have h3:=Int.emod_lt_of_pos n1 h1
   omega
  refine ⟨rfl,_,rfl,2,rfl,_,rfl,_,_,rfl,rfl,_,rfl,D,_,rfl,SqL.of hD,fun c1 hc1=>?_⟩
  obtain ⟨ns',e1,_,l1⟩:=cut_ints ns (some 2) (some (2+(1+n0 % 14)))
  rw [e1]
  have s2:=s1.trans (same_laid hc1 (.lst (ns'.map V.int)))
  have hD1:upd H1 c1 (.lst (ns'.map V.int)) D=some (.lst (ns.map V.int)):=by rw [upd_ne (ne_of_none hD hc1)]; exact hD
  have hc2:upd H1 c1 (.lst (ns'.map V.int)) c1=some (.lst (ns'.map V.int)):=upd_same
  generalize upd H1 c1 (.lst (ns'.map V.int))=H2 at s2 hD1 hc2
  refine ⟨c1,rfl,⟨_,SqL.of hc2⟩,fun D2 hD2=>compG_list (xs:=ns'.map V.int) (fun i ys σ2 H3=>∃ zs:List Str,ys=zs.map V.str∧zs.length=i∧(∀ z∈zs,z.length=1)∧(∃ y,σ2=[y,some (.str zs93)])∧Same H2 H3∧H3 D2=some (.lst ys))
   ⟨[],rfl,rfl,by simp,⟨none,rfl⟩,same_laid hD2 _,upd_same⟩ (fun i ys σ2 H3 _ h=>?_) (fun i x ys σ2 H3 ex h=>?_) (fun ys σ2 H3 h=>?_)⟩
  ·obtain ⟨_,_,_,_,_,sm,_⟩:=h
   exact SqL.of (sm _ _ hc2)
  ·obtain ⟨zs,rfl,hz,hz1,⟨y,rfl⟩,sm,hd3⟩:=h
   rw [List.getElem?_map] at ex
   obtain ⟨n,en,rfl⟩:=Option.map_eq_some_iff.mp ex
   obtain ⟨cc,hcc⟩:=at93 n
   have li:i < ns'.length:=(List.getElem?_eq_some_iff.mp en).1
   refine goN ?_
   refine goT ?_
   refine ⟨_,rfl,_,rfl,_,_,rfl,rfl,(by show (0:Int) < 93; decide),zs93,_,cc,rfl,rfl,(by decide +kernel),hcc,hd3,fits' (by rw [List.length_map]; omega),zs++[⟨#[cc]⟩],?_,?_,?_,⟨_,rfl⟩,?_,?_⟩
   ·rw [List.map_append]; rfl
   ·rw [List.length_append,hz]; rfl
   ·intro z hzm
    rcases List.mem_append.mp hzm with h | h
    ·exact hz1 z h
    ·rw [List.mem_singleton.mp h]; rfl
   ·intro b o hb
    rw [upd_ne (fun z=>by rw [z,hD2] at hb; cases hb)]
    exact sm b o hb
   ·rw [upd_same]
  ·obtain ⟨zs,rfl,hz,hz1,⟨y,rfl⟩,sm,hd3⟩:=h
   have hsum:∀ l:List Str,(∀ z∈l,z.length=1)→(l.map (·.length)).sum=l.length:=by
    intro l
    induction l with
    | nil=>intro _; rfl
    | cons z r ih=>intro h; rw [List.map_cons,List.sum_cons,ih (fun z hz=>h z (List.mem_cons_of_mem _ hz)),h z List.mem_cons_self,List.length_cons]; omega
   rw [List.length_map] at hz
   refine ⟨_,D2,zs,rfl,rfl,SqL.of hd3,?_,?_⟩
   ·have e0:(Str.ofString "").length=0:=rfl
    rw [hsum zs hz1,e0]
    omega
   have hb:(Txt.join (Str.ofString "") zs).length≤16:=by
    have h1:=StrLaws.join_length_le (Str.ofString "") zs
    have e0:(Str.ofString "").length=0:=rfl
    rw [hsum zs hz1,e0] at h1
    have e2:Txt.join (Str.ofString "") zs=Str.join (Str.ofString "") zs:=StrLaws.glued_eq_join _ _
    rw [e2]
    omega
   generalize Txt.join (Str.ofString "") zs=b0' at hb ⊢
   have hD3:=sm _ _ hD1
   have s3:=s2.trans sm
   clear sm hd3 hD2 hc2
   refine ⟨(by show 0≤sizeLine; decide),fun l hl=>?_⟩
   refine ⟨_,rfl,(m:Int),rfl,by omega,by omega,?_⟩
   rw [Int.toNat_natCast m]
   obtain ⟨k1,ek1⟩:=Int.eq_ofNat_of_zero_le hat.1
   obtain ⟨n2,a2,b2,g2⟩:=getN (2+k1) (by omega)
   have hDl:∀ o,upd H3 l o D=some (.lst (ns.map V.int)):=fun o=>by rw [upd_ne (ne_of_none hD3 hl)]; exact hD3
   refine for_range (n:=m) (fun i σ H4=>∃ (ws:List Str) (k2 k3 k4:Option V),σ=[some (.int c),some (.int (m:Int)),some (.str zs93),some (.ref D),some (.int (1+n0 % 14)),some (.int (n1 % (1+n0 % 14))),some (.str b0'),some (.ref l),k2,k3,k4] ∧
    H4=upd H3 l (.lst (ws.map V.str))∧ws.length=i∧(∀ z∈ws,z.length≤100)∧∀ j z,ws[j]?=some z→PoolAt (slc b0' none (some (n1 % (1+n0 % 14)))) n2 j z) ⟨[],none,none,none,rfl,rfl,rfl,by simp,by simp⟩ ?_ ?_
   ·rintro i σ H4 hi ⟨ws,k2,k3,k4,rfl,rfl,hw,hwl,hwp⟩
    obtain ⟨cc,hcc⟩:=at93 (n2+5 * (0+(i:Int)))
    refine ⟨_,rfl,_,rfl,_,rfl,_,_,rfl,rfl,D,_,_,.int n2,rfl,rfl,SqL.of (hDl _),?_,_,rfl,_,_,rfl,rfl,.inl ⟨by decide,by decide⟩,_,_,rfl,rfl,_,_,rfl,rfl,(by show (0:Int) < 93; decide),zs93,_,cc,rfl,rfl,(by decide +kernel),hcc,?_⟩
    ·rw [ek1]
     have e:(2:Int)+(k1:Int)=((2+k1:Nat):Int):=by omega
     rw [e]
     exact g2
    refine ⟨_,rfl,_,_,rfl,rfl,_,rfl,D,_,_,.int n1,rfl,rfl,SqL.of (hDl _),g1,_,rfl,_,_,rfl,rfl,_,_,rfl,rfl,⟨by show (0:Int) < 0+(i:Int)+2; omega,by show (0:Int)+(i:Int)+2 < 1073741824; omega⟩,_,_,rfl,rfl,(by show (0:Int) < 15; decide),_,_,rfl,rfl,?_⟩
    refine ⟨_,rfl,.inl ⟨rfl,_,SqL.of upd_same⟩,?_⟩
    refine ⟨_,rfl,_,rfl,_,rfl,b0',rfl,fits (by omega),?_⟩
    have hz1':=slc_le b0' none (some (n1 % (1+n0 % 14)))
    generalize hz1e:slc b0' none (some (n1 % (1+n0 % 14)))=z1 at hz1' hwp ⊢
    refine ⟨_,rfl,_,_,rfl,rfl,fits (by show z1.length+1≤_; omega),?_⟩
    refine ⟨_,rfl,_,rfl,_,_,rfl,rfl,_,rfl,_,rfl,_,rfl,b0',rfl,fits (by omega),?_⟩
    have hz2':=slc_le b0' (some (n1 % (1+n0 % 14)+1)) (some (n1 % (1+n0 % 14)+1+n1 / (0+(i:Int)+2) % 15))
    generalize slc b0' (some (n1 % (1+n0 % 14)+1)) (some (n1 % (1+n0 % 14)+1+n1 / (0+(i:Int)+2) % 15))=z2 at hz2' ⊢
    have l1':(z1++(⟨#[cc]⟩:Str)).length=z1.length+1:=str_len_app _ _
    refine ⟨_,_,rfl,rfl,fits (by rw [l1']; omega),?_⟩
    refine ⟨l,_,_,rfl,rfl,upd_same,fits' (by rw [List.length_map]; omega),?_⟩
    refine ⟨ws++[z1++⟨#[cc]⟩++z2],_,_,_,rfl,by rw [upd_upd,List.map_append]; rfl,by rw [List.length_append,hw]; rfl,fun z hz'=>?_,fun j z hj=>?_⟩
    ·rcases List.mem_append.mp hz' with h | h
     ·exact hwl z h
     ·rw [List.mem_singleton.mp h,str_len_app,l1']
      omega
    ·rw [List.getElem?_append] at hj
     split at hj
     ·exact hwp j z hj
     ·rename_i hlt
      have ej:j=i:=by
       have:=(List.getElem?_eq_some_iff.mp hj).1
       simp at this
       omega
      subst ej
      rw [hw,Nat.sub_self] at hj
      cases hj
      refine ⟨cc,z2,rfl,?_⟩
      have e0:n2+5 * (0+(j:Int))=n2+5 * (j:Int):=by omega
      rw [← e0]; exact hcc
   ·rintro σ H4 ⟨ws,k2,k3,k4,rfl,rfl,hw,hwl,hwp⟩
    exact ⟨_,rfl,q l ws _ (s3.free hl) (s3.trans (same_laid hl _)) upd_same hw hwl (pool_nd (by omega) hwp)⟩
end
end K11
namespace K11
open PySem L2 M11
abbrev sDigits:Stmt:=top 42
abbrev sFirst:Stmt:=top 43
abbrev sRule:Stmt:=top 44
abbrev sRules:Stmt:=top 45
abbrev sStr:Stmt:=top 46
abbrev sTuples:Stmt:=top 47
abbrev sLaw:Stmt:=top 48
section
variable {P:Program} {w:World} {K:PySem.W.Frag} {mg:Str→Option Value} {base:Heap} {f:Addr} {fd:FuncData}
def spDigits:Sp:=fun vs H Q _=>∃ (c:Int) (m:Nat),vs=[.int c,.int (m:Int)]∧m≤100∧∀ (D:Addr) (ns:List Int) (H':Hp),H D=none→Same H H'→H' D=some (.lst (List.map V.int ns))→ns.length=m→Q (.ref D) H'
theorem scDigits:FnScope ["_law_cell","_law_many","_law_digits_here","_law_k"] ["_law_cell","_law_many"] (defScope sDigits):=⟨rfl,rfl,rfl,by decide +kernel,rfl,by decide +kernel,by decide +kernel⟩
theorem ok_digits (F:Fun K "_law_digits" "_law_digits" sDigits f fd) (T:Txt mg) (GS:CalleeD P w K mg base 1 "_law_stream" ["_law_cell","_law_many"] spStream):FnOk P w K mg base CX0 2 f fd ["_law_cell","_law_many"] spDigits:=by
 refine F.ok scDigits (fun vs H Q E h=>?_) (fun cdv A outer s H vs Q E hr h=>?_)
 ·obtain ⟨c,m,rfl,_⟩:=h; rfl
 ·obtain ⟨c,m,rfl,hm0,q⟩:=h
  refine ⟨_,pss_cons (ps_set (i:=2) scDigits.nd rfl (Or.inl rfl) (pe_fn GS hr rfl (pa_cons (pv 0) (pa_cons (pv 1) pa_nil))))
   (pss_cons (ps_for PassesOwn.never rfl (pi_range1 rfl T.rng (pa_cons (pv 1) pa_nil)) (pg_name (i:=3) scDigits.nd rfl (Or.inl rfl))
    (pss_cons (ps_asg (pe_op op_mod (pe_op op_fdiv (pe_ix ix_list (pv 2) (pv 3) (fun _ _=>rfl)) pe_int) pe_int) (pg_sub (pv 2) (pv 3) set_list))
    (pss_one (ps_if (pt_cmpR op_gt (pv 0) pe_int (nomark _))
     (pss_cons (ps_asg (pe_op op_mod (pe_op op_sub (pv 0) pe_int) pe_int) (pg_sub (pv 2) (pv 3) set_list))
     (pss_one (ps_set (i:=0) scDigits.nd rfl (Or.inl rfl) (pe_op op_fdiv (pe_op op_sub (pv 0) pe_int) pe_int)))) pss_nil))))
   (pss_one (ps_ret (pv 2)))),?_⟩
  refine ⟨_,rfl,_,rfl,c,m,rfl,hm0,fun D ns H1 hf0 s1 hD hlen _=>?_⟩
  refine ⟨_,rfl,(m:Int),rfl,by omega,by omega,?_⟩
  rw [Int.toNat_natCast m]
  refine for_range (n:=m) (fun i σ H2=>∃ (c2:Int) (ms:List Int) (k2:Option V),σ=[some (.int c2),some (.int (m:Int)),some (.ref D),k2]∧H2=upd H1 D (.lst (ms.map V.int))∧ms.length=m) ⟨c,ns,none,rfl,?_,hlen⟩ ?_ ?_
  ·funext b
   by_cases h:b=D
   ·rw [h,upd_same]; exact hD
   ·rw [upd_ne h]
  ·rintro i σ H2 hi ⟨c2,ms,k2,rfl,rfl,hm⟩
   have e0:(0:Int)+(i:Int)=((i:Nat):Int):=by omega
   rw [e0]
   have lt:i < ms.length:=by omega
   refine ⟨_,rfl,_,rfl,D,_,_,_,rfl,rfl,SqL.of upd_same,at_ints lt,_,_,rfl,rfl,⟨by decide,by decide⟩,_,_,rfl,rfl,(by show (0:Int) < 16; decide),_,rfl,_,rfl,D,_,_,i,rfl,rfl,upd_same,ixN_nat (by rw [List.length_map]; exact lt),?_⟩
   rw [upd_upd,← List.map_set]
   refine ⟨_,rfl,_,_,rfl,rfl,_,rfl,?_⟩
   refine ite2 (fun _=>?_) (fun _=>?_)
   ·refine ⟨_,rfl,_,_,rfl,rfl,_,_,rfl,rfl,(by show (0:Int) < 16; decide),_,rfl,_,rfl,D,_,_,i,rfl,rfl,upd_same,ixN_nat (by rw [List.length_map,List.length_set]; exact lt),?_⟩
    refine ⟨_,rfl,_,_,rfl,rfl,_,_,rfl,rfl,⟨by decide,by decide⟩,?_⟩
    exact ⟨_,_,_,rfl,by rw [upd_upd,← List.map_set],by rw [List.length_set,List.length_set]; exact hm⟩
   ·exact ⟨_,_,_,rfl,rfl,by rw [List.length_set]; exact hm⟩
  ·rintro σ H2 ⟨c2,ms,k2,rfl,rfl,hm⟩
   exact ⟨_,rfl,q D ms _ hf0 (fun b o hb=>by rw [upd_ne (ne_of_none hb hf0)]; exact s1 _ _ hb) upd_same hm⟩
end
end K11
namespace K11
open PySem L2 M11
section
variable {P:Program} {w:World} {K:PySem.W.Frag} {mg:Str→Option Value} {base:Heap} {f:Addr} {fd:FuncData}
theorem cut_strs (ns:List Str) (lo hi:Option Int):∃ ns':List Str,cutV (ns.map V.str) lo hi=ns'.map V.str∧(∀ n∈ns',n∈ns)∧ns'.length≤ns.length :=
 ⟨(ns.drop (HT.sIx (ns.map V.str).length 0 lo)).take (HT.sIx (ns.map V.str).length (ns.map V.str).length hi - HT.sIx (ns.map V.str).length 0 lo),by unfold cutV; rw [← List.map_drop,← List.map_take],fun n hn=>List.mem_of_mem_drop (List.mem_of_mem_take hn),by rw [List.length_take,List.length_drop]; omega⟩
theorem at4 {zs:List Str} (h:zs.length=4) (n:Int):∃ z∈zs,atI (zs.map V.str) (n % 4)=some (.str z):=by
 have l:(n % 4).toNat < zs.length:=by omega
 have e:n % 4=(((n % 4).toNat:Nat):Int):=by omega
 refine ⟨zs[(n % 4).toNat],List.getElem_mem l,?_⟩
 have t:atI (zs.map V.str) (((n % 4).toNat:Nat):Int)=some (.str zs[(n % 4).toNat]):=atI_nat (by rw [List.getElem?_map,List.getElem?_eq_getElem l]; rfl)
 rw [← e] at t
 exact t
def FirstOk (ns ws:List Str) (a:Nat) (parts:List Str):Prop:=(∃ l1 l2 n',ns[a+1]?=some n'∧parts=l1++n'::l2∧∀ x∈l1++l2,x∈ws)∨(ns.length≤a+1∧parts≠[]∧∀ x∈parts,x∈ws)
def spFirst (K:PySem.W.Frag):Sp:=fun vs H Q _=>∃ (N W:Addr) (ns ws:List Str) (a:Nat) (dr:Int) (n:Str),vs=[.ref N,.ref W,.int (a:Int),.int dr]∧SqL K H N (ns.map V.str)∧SqL K H W (ws.map V.str)∧ws.length=4∧ns[a]?=some n∧ns.length≤1000∧(0≤dr∧dr < 4294967311) ∧
 ∀ (R p:Addr) (parts:List Str) (H':Hp),Same H H'→SqT K H' R [.str n,.ref p]→SqT K H' p (parts.map V.str)→parts.length≤4→FirstOk ns ws a parts→Q (.ref R) H'
theorem scFirst:FnScope ["_law_names","_law_words","_law_at","_law_draw","_law_parts"] ["_law_names","_law_words","_law_at","_law_draw"] (defScope sFirst):=⟨rfl,rfl,rfl,by decide +kernel,rfl,by decide +kernel,by decide +kernel⟩
theorem ok_first (F:Fun K "_law_first" "_law_first" sFirst f fd) (T:Txt mg):FnOk P w K mg base CX0 1 f fd ["_law_names","_law_words","_law_at","_law_draw"] (spFirst K):=by
 refine F.ok scFirst (fun vs H Q E h=>?_) (fun cdv A outer s H vs Q E hr h=>?_)
 ·obtain ⟨N,W,ns,ws,a,dr,n,rfl,_⟩:=h; rfl
 ·obtain ⟨N,W,ns,ws,a,dr,n,rfl,hN,hW,h4,ha,hnl,hdr,q⟩:=h
  have hu:=Nat.lt_of_succ_lt (hu_of hr)
  refine ⟨_,pss_cons (ps_set (i:=4) scFirst.nd rfl (Or.inl rfl) (pe_slice sl_list (pe_compG ["_law_size"] [(1,"_law_words"),(3,"_law_draw")] rfl (pi_list (pe_lst (pa_cons pe_int (pa_cons pe_int (pa_cons pe_int pa_nil))))) (caps_of rfl rfl) (by decide +kernel) rfl (by decide +kernel)
    (fun _ _ _ _ _=>pg_name (i:=0) (show (["_law_size","_law_words","_law_draw"]:List Str).Nodup by decide +kernel) rfl (Or.inl rfl)) (fun _ _ _ _ _=>pif_nil) (fun _ _ _ _ _=>pe_ix (ix_listK K) (pv 1) (pe_op op_mod (pe_op op_fdiv (pv 2) (pv 0)) pe_int) (fun _ _=>rfl)))
    po_none (po_some (pe_op op_mod (pe_op op_fdiv (pv 3) pe_int) pe_int))))
   (pss_cons (ps_cutS (ps_if (pt_cmpR op_lt (pe_op op_add (pv 2) pe_int) (pe_callB call_len_seq rfl T.len PySem.boot_len (pa_cons (pv 0) pa_nil)) (nomark _))
    (pss_one (ps_expr (pe_bm PySem.F.plainAttrs_list PySem.F.slot_list_insert PySem.F.type_list_insert mt_insert (pv 4) (pa_cons (pe_op op_mod (pe_op op_fdiv (pv 3) pe_int) (pe_op op_add (pe_callB call_len_seq rfl T.len PySem.boot_len (pa_cons (pv 4) pa_nil)) pe_int)) (pa_cons (pe_ix ix_list (pv 0) (pe_op op_add (pv 2) pe_int) (fun _ _=>rfl)) pa_nil)))))
    (pss_one (ps_if (pt_cmpR (op_eq_nil hu) (pv 4) (pe_lst pa_nil) (nomark _)) (pss_one (ps_set (i:=4) scFirst.nd rfl (Or.inl rfl) (pe_lst (pa_cons (pe_ix ix_list (pv 1) (pe_op op_mod (pv 3) pe_int) (fun _ _=>rfl)) pa_nil)))) pss_nil))))
   (pss_one (ps_ret (pe_tup (pa_cons (pe_ix ix_list (pv 0) (pv 2) (fun _ _=>rfl)) (pa_cons (pe_callTy call_tuple_of rfl T.tup PyProof.Rows.boot_tuple (pa_cons (pv 4) pa_nil)) pa_nil)))))),?_⟩
  refine ⟨(by show 3≤sizeLine; decide),fun L0 hL0=>?_⟩
  have s1:=same_laid hL0 (.lst [.int 1,.int 4,.int 16])
  have e1:upd H L0 (.lst [.int 1,.int 4,.int 16]) L0=some (.lst [.int 1,.int 4,.int 16]):=upd_same
  generalize upd H L0 (.lst [.int 1,.int 4,.int 16])=H1 at s1 e1
  refine ⟨L0,rfl,⟨_,SqL.of e1⟩,fun D hD=>compG_list (xs:=[.int 1,.int 4,.int 16]) (fun i ys σ2 H2=>∃ zs:List Str,ys=zs.map V.str∧zs.length=i∧(∀ z∈zs,z∈ws)∧(∃ y0,σ2=[y0,some (.ref W),some (.int dr)])∧Same H1 H2∧H2 D=some (.lst ys))
   ⟨[],rfl,rfl,by simp,⟨none,rfl⟩,same_laid hD _,upd_same⟩ (fun i ys σ2 H2 _ h=>?_) (fun i x ys σ2 H2 ex h=>?_) (fun ys σ2 H2 h=>?_)⟩
  ·obtain ⟨_,_,_,_,_,sm,_⟩:=h
   exact SqL.of (sm _ _ e1)
  ·obtain ⟨zs,rfl,hz,hzw,⟨y0,rfl⟩,sm,hd⟩:=h
   obtain ⟨k,rfl,hk1,hk2⟩:∃ k:Int,x=.int k∧0 < k∧k < 1073741824:=by
    match i,ex with
    | 0,ex=>cases ex; exact ⟨1,rfl,by decide,by decide⟩
    | 1,ex=>cases ex; exact ⟨4,rfl,by decide,by decide⟩
    | 2,ex=>cases ex; exact ⟨16,rfl,by decide,by decide⟩
   have li:i < 3:=(List.getElem?_eq_some_iff.mp ex).1
   obtain ⟨z,hzm,hza⟩:=at4 h4 (dr / k)
   refine goN (goT ?_)
   refine ⟨_,rfl,_,rfl,_,rfl,_,_,rfl,rfl,⟨hk1,hk2⟩,_,_,rfl,rfl,(by show (0:Int) < 4; decide),W,_,_,_,rfl,rfl,(s1.trans sm).seq hW,hza,hd,fits' (by rw [List.length_map]; omega),zs++[z],by rw [List.map_append]; rfl,by rw [List.length_append,hz]; rfl,?_,⟨_,rfl⟩,?_,upd_same⟩
   ·intro z' hz'
    rcases List.mem_append.mp hz' with h | h
    ·exact hzw z' h
    ·rw [List.mem_singleton.mp h]; exact hzm
   ·intro b o hb
    rw [upd_ne (fun z=>by rw [z,hD] at hb; cases hb)]
    exact sm b o hb
  ·obtain ⟨zs,rfl,hz,hzw,_,sm,hd⟩:=h
   have s2:=s1.trans sm
   refine ⟨_,rfl,_,_,rfl,rfl,⟨by decide,by decide⟩,_,_,rfl,rfl,(by show (0:Int) < 3; decide),_,rfl,D,_,rfl,SqL.of hd,fun D2 hD2=>?_⟩
   obtain ⟨ps,ep,hpm,hpl⟩:=cut_strs zs none (some (dr / 64 % 3))
   rw [ep]
   have hzl:zs.length=3:=hz
   have fD2:H D2=none:=s2.free hD2
   have s3:=s2.trans (same_laid hD2 (.lst (ps.map V.str)))
   have e3:upd H2 D2 (.lst (ps.map V.str)) D2=some (.lst (ps.map V.str)):=upd_same
   generalize upd H2 D2 (.lst (ps.map V.str))=H3 at s3 e3
   have hpw:∀ z∈ps,z∈ws:=fun z h=>hzw z (hpm z h)
   refine ⟨fun σ H4=>∃ (D3:Addr) (parts:List Str),σ=[some (.ref N),some (.ref W),some (.int (a:Int)),some (.int dr),some (.ref D3)]∧Same H H4∧H4 D3=some (.lst (parts.map V.str))∧parts.length≤4∧FirstOk ns ws a parts,?_,?_⟩
   ·refine ⟨_,rfl,_,_,rfl,rfl,_,rfl,N,_,rfl,.inl (s3.seq hN),_,_,rfl,rfl,_,rfl,?_⟩
    refine ite2 (fun c=>?_) (fun c=>?_)
    ·have c':=of_decide_eq_true c
     rw [List.length_map] at c'
     obtain ⟨n',en'⟩:∃ n',ns[a+1]?=some n':=⟨ns[a+1]'(by omega),List.getElem?_eq_getElem (by omega)⟩
     have at1:atI (ns.map V.str) ((a:Int)+1)=some (.str n'):=by
      have e:(a:Int)+1=((a+1:Nat):Int):=by omega
      rw [e]
      exact atI_nat (by rw [List.getElem?_map,en']; rfl)
     obtain ⟨ix,hix⟩:∃ ix:Nat,dr / 192 % ((ps.length:Int)+1)=(ix:Int):=⟨(dr / 192 % ((ps.length:Int)+1)).toNat,by
      have:=Int.emod_nonneg (dr / 192) (show ((ps.length:Int)+1)≠0 by omega)
      omega⟩
     have hle:ix≤ps.length:=by
      have:=Int.emod_lt_of_pos (dr / 192) (show (0:Int) < (ps.length:Int)+1 by omega)
      omega
     refine ⟨_,rfl,.inl ⟨rfl,_,SqL.of e3⟩,_,rfl,_,_,rfl,rfl,⟨by decide,by decide⟩,_,rfl,D2,_,rfl,.inl (SqL.of e3),_,_,rfl,rfl,?_⟩
     rw [List.length_map]
     refine ⟨_,_,rfl,rfl,(by show (0:Int) < (ps.length:Int)+1; omega),?_⟩
     refine ⟨_,rfl,_,rfl,_,_,rfl,rfl,N,_,_,_,rfl,rfl,s3.seq hN,at1,D2,_,ix,.str n',rfl,(by show [V.int (dr / 192 % ((ps.length:Int)+1)),V.str n']=_; rw [hix]),e3,by rw [List.length_map]; exact hle,by rw [List.length_map]; omega,?_⟩
     refine ⟨D2,ps.take ix++n'::ps.drop ix,rfl,fun b o hb=>?_,by rw [upd_same,List.map_append,List.map_cons,List.map_take,List.map_drop],by rw [List.length_append,List.length_cons,List.length_take,List.length_drop]; omega,.inl ⟨_,_,n',en',rfl,fun x hx=>hpw x ?_⟩⟩
     ·rw [upd_ne (fun z=>by rw [z,fD2] at hb; cases hb)]; exact s3 b o hb
     ·rw [List.take_append_drop] at hx; exact hx
    ·have c':=of_decide_eq_false (Bool.eq_false_iff.mpr c)
     rw [List.length_map] at c'
     refine ⟨_,rfl,(by show 0≤sizeLine; decide),fun L4 hL4=>?_⟩
     have s4:=s3.trans (same_laid hL4 (.lst []))
     have e4:=same_laid hL4 (.lst []) _ _ e3
     have e5:upd H3 L4 (.lst []) L4=some (.lst []):=upd_same
     generalize upd H3 L4 (.lst [])=H4 at s4 e4 e5
     refine ⟨D2,L4,_,rfl,rfl,SqL.of e4,SqL.of e5,_,rfl,?_⟩
     refine ite2 (fun c2=>?_) (fun c2=>?_)
     ·obtain ⟨z,hzm,hza⟩:=at4 h4 dr
      refine ⟨_,rfl,_,rfl,_,_,rfl,rfl,(by show (0:Int) < 4; decide),W,_,_,_,rfl,rfl,s4.seq hW,hza,(by show 1≤sizeLine; decide),fun D5 hD5=>?_⟩
      exact ⟨D5,[z],rfl,s4.trans (same_laid hD5 _),upd_same,by simp,.inr ⟨by omega,by simp,fun x hx=>by rw [List.mem_singleton.mp hx]; exact hzm⟩⟩
     ·refine ⟨D2,ps,rfl,s4,e4,by omega,.inr ⟨by omega,fun h=>c2 (by rw [h]; rfl),hpw⟩⟩
   ·rintro σ H4 ⟨D3,parts,rfl,s4,e4,l4,fo⟩
    have atn:atI (ns.map V.str) (a:Int)=some (.str n):=atI_nat (by rw [List.getElem?_map,ha]; rfl)
    refine ⟨_,rfl,_,rfl,N,_,_,_,rfl,rfl,s4.seq hN,atn,_,rfl,D3,_,rfl,.inl ⟨SqL.of e4,fun t1 ht1=>⟨(by show 2≤sizeLine; decide),fun R hR=>?_⟩⟩⟩
    exact q R t1 parts _ (s4.trans ((same_laid ht1 _).trans (same_laid hR _))) (SqT.of upd_same) ((same_laid hR _).tup (SqT.of upd_same)) l4 fo
end
end K11
namespace K11
open PySem L2 M11
def RuleOk (ns ws:List Str) (a:Nat) (parts:List Str):Prop:=(∀ x∈parts,x∈ns∨x∈ws)∧((∃ x∈parts,x∈ws)∨((∀ x∈parts,∃ b,a < b∧ns[b]?=some x)∧parts.length≤3))
structure Made (ns ws:List Str) (rules:List Rule):Prop where
 nd:ns.Nodup
 pos:0 < ns.length
 le:ns.length≤4
 dj:∀ x∈ns,x∉ws
 first:∀ (i:Nat) (n:Str),ns[i]?=some n→∃ parts,rules[i]?=some (n,parts)∧FirstOk ns ws i parts
 all:∀ ru∈rules,∃ a,ns[a]?=some ru.1∧(FirstOk ns ws a ru.2∨RuleOk ns ws a ru.2)
theorem FirstOk.mem {ns ws:List Str} {a:Nat} {ps:List Str} (h:FirstOk ns ws a ps):∀ x∈ps,x∈ns∨x∈ws:=by
 intro x hx
 rcases h with ⟨l1,l2,n',e,rfl,h⟩ | ⟨_,_,h⟩
 ·rcases List.mem_append.mp hx with h1 | h1
  ·exact .inr (h x (List.mem_append.mpr (.inl h1)))
  ·rcases List.mem_cons.mp h1 with h2 | h2
   ·exact .inl (h2 ▸ List.mem_of_getElem? e)
   ·exact .inr (h x (List.mem_append.mpr (.inr h2)))
 ·exact .inr (h x hx)
theorem FirstOk.late {ns ws:List Str} {a:Nat} {ps:List Str} (h:FirstOk ns ws a ps) (nw:∀ x∈ps,x∉ws):(∀ x∈ps,∃ b,a < b∧ns[b]?=some x)∧ps.length≤3:=by
 rcases h with ⟨l1,l2,n',e,rfl,h⟩ | ⟨_,ne,h⟩
 ·have e1:l1=[]:=List.eq_nil_iff_forall_not_mem.mpr fun x hx=>nw x (List.mem_append.mpr (.inl hx)) (h x (List.mem_append.mpr (.inl hx)))
  have e2:l2=[]:=List.eq_nil_iff_forall_not_mem.mpr fun x hx=>nw x (List.mem_append.mpr (.inr (List.mem_cons_of_mem _ hx))) (h x (List.mem_append.mpr (.inr hx)))
  subst e1; subst e2
  refine ⟨fun x hx=>?_,by simp⟩
  have:x=n':=by simpa using hx
  exact ⟨a+1,by omega,this ▸ e⟩
 ·obtain ⟨x,hx⟩:=List.exists_mem_of_ne_nil _ ne
  exact absurd (h x hx) (nw x hx)
theorem RuleOk.late {ns ws:List Str} {a:Nat} {ps:List Str} (h:RuleOk ns ws a ps) (nw:∀ x∈ps,x∉ws):(∀ x∈ps,∃ b,a < b∧ns[b]?=some x)∧ps.length≤3:=by
 rcases h.2 with ⟨x,hx,hw⟩ | h
 ·exact absurd hw (nw x hx)
 ·exact h
def ixN (ns:List Str) (x:Str):Nat:=ns.idxOf x
theorem ixN_at {ns:List Str} (nd:ns.Nodup) {a:Nat} {x:Str} (h:ns[a]?=some x):ixN ns x=a:=by
 obtain ⟨l,e⟩:=List.getElem?_eq_some_iff.mp h
 rw [← e]
 exact List.Nodup.idxOf_getElem nd a l
def bb:Nat→Int
 | 0=>40
 | 1=>13
 | 2=>4
 | _=>1
def bN (ns:List Str) (x:Str):Int:=bb (ixN ns x)
theorem bb_pos (n:Nat):1≤bb n:=by
 match n with
 | 0=>decide
 | 1=>decide
 | 2=>decide
 | n+3=>exact Int.le_refl _
theorem bb_next (a b:Nat) (h:a < b) (hb:b < 4):1+3 * bb b≤bb a:=by
 have:∀ b:Nat,b < 4→∀ a:Nat,a < b→1+3 * bb b≤bb a:=by decide
 exact this b hb a h
theorem sum_le {f:Str→Int} {c:Int}:∀ (ps:List Str),(∀ x∈ps,f x≤c)→(ps.map f).sum≤ps.length * c
 | [],_=>by simp
 | p::r,h=>by
  have h1:=sum_le r fun x hx=>h x (List.mem_cons_of_mem _ hx)
  have h2:=h p List.mem_cons_self
  rw [List.map_cons,List.sum_cons,List.length_cons]
  have:((r.length+1:Nat):Int) * c=(r.length:Int) * c+c:=by rw [Int.natCast_add,Int.add_mul]; omega
  omega
theorem Made.head {ns ws:List Str} {rules:List Rule} (M:Made ns ws rules) {x:Str}:x∈hd rules↔x∈ns:=by
 unfold hd
 rw [ded_mem]
 constructor
 ·rintro (h | h)
  ·cases h
  ·obtain ⟨ru,hru,rfl⟩:=List.mem_map.mp h
   obtain ⟨a,ha,_⟩:=M.all ru hru
   exact List.mem_of_getElem? ha
 ·intro h
  obtain ⟨i,hi⟩:=List.getElem?_of_mem h
  obtain ⟨ps,e,_⟩:=M.first i x hi
  exact .inr (List.mem_map.mpr ⟨_,List.mem_of_getElem? e,rfl⟩)
theorem Made.mem {ns ws:List Str} {rules:List Rule} (M:Made ns ws rules) {ru:Rule} (h:ru∈rules):∀ x∈ru.2,x∈ns∨x∈ws:=by
 obtain ⟨a,_,h | h⟩:=M.all ru h
 ·exact h.mem
 ·exact h.1
theorem Made.late {ns ws:List Str} {rules:List Rule} (M:Made ns ws rules) {ru:Rule} (h:ru∈rules) (nw:∀ x∈ru.2,x∉ws):∃ a:Nat,ns[a]?=some ru.1∧(∀ x∈ru.2,∃ b,a < b∧ns[b]?=some x)∧ru.2.length≤3:=by
 obtain ⟨a,ha,h | h⟩:=M.all ru h
 ·exact ⟨a,ha,h.late nw⟩
 ·exact ⟨a,ha,h.late nw⟩
theorem wds_mem (heads:List Str):∀ (ps acc:List Str) (x:Str),(x∈acc∨(x∈ps∧x∉heads))→x∈wds heads acc ps
 | [],acc,x,h=>by
  rcases h with h | ⟨h,_⟩
  ·exact h
  ·cases h
 | p::r,acc,x,h=>by
  show x∈wds heads (addW heads acc p) r
  apply wds_mem heads r
  unfold addW
  by_cases c:p∈heads
  ·rw [if_pos c]
   rcases h with h | ⟨h,n⟩
   ·exact .inl h
   ·rcases List.mem_cons.mp h with z | z
    ·exact absurd (z ▸ c) n
    ·exact .inr ⟨z,n⟩
  ·rw [if_neg c]
   rcases h with h | ⟨h,n⟩
   ·exact .inl ((add1_mem _ _ _).mpr (.inl h))
   ·rcases List.mem_cons.mp h with z | z
    ·exact .inl ((add1_mem _ _ _).mpr (.inr z))
    ·exact .inr ⟨z,n⟩
theorem Made.em {ns ws:List Str} {rules:List Rule} (M:Made ns ws rules) {x:Str} (h:Em rules x):x∈ns:=by
 cases h with
 | mk h _ =>
  obtain ⟨a,ha,_⟩:=M.all _ h
  exact List.mem_of_getElem? ha
theorem like_in {b:Str→Bool} {zs:List Str} {i j:Nat} {x:Str} (h:like b zs j=true) (e:zs[i]?=some x) (n:i≠j):b x=true:=by
 cases hb:b x with
 | true=>rfl
 | false =>
  have li:=(List.getElem?_eq_some_iff.mp e).1
  have m:((i:Nat):Int)∈flN b zs zs.length:=by
   unfold flN
   exact List.mem_map.mpr ⟨i,List.mem_filter.mpr ⟨List.mem_range.mpr li,by rw [e]; show (!(b x))=true; rw [hb]; rfl⟩,rfl⟩
  unfold like at h
  rcases Bool.or_eq_true_iff.mp h with h | h
  ·rw [← of_decide_eq_true h] at m; cases m
  ·rw [← of_decide_eq_true h] at m
   have:=List.mem_singleton.mp m
   omega
theorem Made.good {ns ws:List Str} {rules:List Rule} (M:Made ns ws rules):Good rules (fun x=>8 - ixN ns x) (bN ns) where
 least g st se:=by
  have words:∀ x∈ws,∀ ru∈rules,x∈ru.2→g x=some 0:=by
   intro x hx ru hru hm
   have nn:x∉ns:=fun h=>M.dj x h hx
   refine Steps.keep (J:=fun g=>g x=some 0) (fun g ru2 j h2 _=>?_) st ?_
   ·show setG g ru2.1 _ x=some 0
    unfold setG
    have:x≠ru2.1:=fun z=>by
     obtain ⟨a,ha,_⟩:=M.all _ h2
     exact nn (z ▸ List.mem_of_getElem? ha)
    rw [if_neg this]; exact j
   ·show g0L rules x=some 0
    unfold g0L
    rw [if_pos (wds_mem _ _ _ _ (.inr ⟨List.mem_flatMap.mpr ⟨ru,hru,hm⟩,fun h=>nn (M.head.mp h)⟩))]
  have key:∀ (k i:Nat) (n:Str),i+k+1=ns.length→ns[i]?=some n→∃ m,g n=some m∧m≤(k:Int)+1:=by
   intro k
   induction k with
   | zero =>
    intro i n hi hn
    obtain ⟨ps,e,f⟩:=M.first i n hn
    have hm:=List.mem_of_getElem? e
    rcases f with ⟨l1,l2,n',e',_⟩ | ⟨_,_,hw⟩
    ·have:=(List.getElem?_eq_some_iff.mp e').1
     omega
    have z:∀ p∈ps,g p=some 0:=fun p hp=>words p (hw p hp) _ hm hp
    have:=se _ hm
    unfold firesB at this
    have a1:allIn g (n,ps)=true:=List.all_eq_true.mpr fun p hp=>by show (g p).isSome=true; rw [z p hp]; rfl
    have s0:sizeG g (n,ps)=1:=by
     unfold sizeG
     have:(ps.map fun p=>(g p).getD 0)=ps.map fun _=>0:=List.map_congr_left fun p hp=>by rw [z p hp]; rfl
     show 1+(ps.map fun p=>(g p).getD 0).sum=1
     rw [this]
     have:∀ l:List Str,(l.map fun _=>(0:Int)).sum=0:=fun l=>by
      induction l with
      | nil=>rfl
      | cons a r ih=>rw [List.map_cons,List.sum_cons,ih]; rfl
     rw [this]; rfl
    rw [a1,s0,Bool.true_and] at this
    cases gn:g n with
    | none=>rw [show g (n,ps).1=none from gn] at this; cases this
    | some m =>
     rw [show g (n,ps).1=some m from gn] at this
     refine ⟨m,rfl,?_⟩
     have:¬ (1:Int) < m:=by
      simpa [M11.bl] using this
     omega
   | succ k ih =>
    intro i n hi hn
    obtain ⟨ps,e,f⟩:=M.first i n hn
    have hm:=List.mem_of_getElem? e
    have ⟨l1,l2,n',e',ep,hw⟩:∃ l1 l2 n',ns[i+1]?=some n'∧ps=l1++n'::l2∧∀ x∈l1++l2,x∈ws:=by
     rcases f with f | ⟨l,_,_⟩
     ·exact f
     ·omega
    subst ep
    obtain ⟨m',gm',lm'⟩:=ih (i+1) n' (by omega) e'
    have z:∀ p∈l1++l2,g p=some 0:=fun p hp=>words p (hw p hp) _ hm (by
     rcases List.mem_append.mp hp with h | h
     ·exact List.mem_append.mpr (.inl h)
     ·exact List.mem_append.mpr (.inr (List.mem_cons_of_mem _ h)))
    have:=se _ hm
    unfold firesB at this
    have zs:∀ l:List Str,(∀ p∈l,g p=some 0)→(l.map fun p=>(g p).getD 0).sum=0:=fun l=>by
     induction l with
     | nil=>exact fun _=>rfl
     | cons a r ih =>
      intro h
      rw [List.map_cons,List.sum_cons,ih fun p hp=>h p (List.mem_cons_of_mem _ hp),h a List.mem_cons_self]; rfl
    have a1:allIn g (n,l1++n'::l2)=true:=List.all_eq_true.mpr fun p hp=>by
     show (g p).isSome=true
     rcases List.mem_append.mp hp with h | h
     ·rw [z p (List.mem_append.mpr (.inl h))]; rfl
     ·rcases List.mem_cons.mp h with h | h
      ·rw [h,gm']; rfl
      ·rw [z p (List.mem_append.mpr (.inr h))]; rfl
    have s0:sizeG g (n,l1++n'::l2)=1+m':=by
     unfold sizeG
     show 1+((l1++n'::l2).map fun p=>(g p).getD 0).sum=1+m'
     rw [List.map_append,List.map_cons,List.sum_append,List.sum_cons,zs l1 fun p hp=>z p (List.mem_append.mpr (.inl hp)),zs l2 fun p hp=>z p (List.mem_append.mpr (.inr hp)),gm']
     show 1+(0+(m'+0))=1+m'
     omega
    rw [a1,s0,Bool.true_and] at this
    cases gn:g n with
    | none=>rw [show g (n,l1++n'::l2).1=none from gn] at this; cases this
    | some m =>
     rw [show g (n,l1++n'::l2).1=some m from gn] at this
     refine ⟨m,rfl,?_⟩
     have:¬ (1+m':Int) < m:=by
      simpa [M11.bl] using this
     omega
  intro h hh
  obtain ⟨i,hi⟩:=List.getElem?_of_mem (M.head.mp hh)
  have li:=(List.getElem?_eq_some_iff.mp hi).1
  obtain ⟨m,gm,lm⟩:=key (ns.length - 1 - i) i h (by omega) hi
  have:=M.le
  exact ⟨m,gm,by omega⟩
 met ru0 ms e0 h0 mc:=by
  have key:∀ (i:Nat) (n:Str),ns[i]?=some n→n∈ms:=by
   intro i
   induction i with
   | zero =>
    intro n hn
    obtain ⟨ps,e,_⟩:=M.first 0 n hn
    rw [e0] at e
    cases e
    exact h0
   | succ i ih =>
    intro n hn
    have li:=(List.getElem?_eq_some_iff.mp hn).1
    obtain ⟨n0,hn0⟩:∃ n0,ns[i]?=some n0:=⟨ns[i]'(by omega),List.getElem?_eq_getElem (by omega)⟩
    obtain ⟨ps,e,f⟩:=M.first i n0 hn0
    rcases f with ⟨l1,l2,n',e',rfl,hw⟩ | ⟨l,_,_⟩
    ·rw [hn] at e'
     cases e'
     exact mc _ (by rw [List.take_length]; exact List.mem_of_getElem? e) (ih n0 hn0) n (List.mem_append.mpr (.inr List.mem_cons_self))
    ·omega
  intro h hh
  obtain ⟨i,hi⟩:=List.getElem?_of_mem (M.head.mp hh)
  exact key i h hi
 loop ets he _ n k j hit ru z ek ez:=by
  obtain ⟨ru',z',e1,rfl,e2,hz,hl⟩:=hit
  rw [ek] at e1; cases e1
  rw [ez] at e2; cases e2
  have nw:∀ x∈ru.2,x∉ws:=by
   intro x hx hw
   obtain ⟨i,hi⟩:=List.getElem?_of_mem hx
   by_cases c:i=j
   ·subst c
    rw [ez] at hi; cases hi
    exact M.dj _ (M.head.mp hz) hw
   ·have hin:=like_in hl hi c
    have:=he.head x (of_decide_eq_true hin)
    exact M.dj x (M.head.mp ((ded_mem _ _ _).mpr (.inr this))) hw
  obtain ⟨a,ha,hb,_⟩:=M.late (List.mem_of_getElem? ek) nw
  obtain ⟨b,lb,eb⟩:=hb z (List.mem_of_getElem? ez)
  show 8 - ixN ns z < 8 - ixN ns ru.1
  rw [ixN_at M.nd ha,ixN_at M.nd eb]
  have:=(List.getElem?_eq_some_iff.mp eb).1
  have:=M.le
  omega
 bnd:=by
  refine ⟨fun z=>Int.le_trans (by decide) (bb_pos _),fun ru hru hem=>?_⟩
  have nw:∀ x∈ru.2,x∉ws:=fun x hx hw=>M.dj x (M.em (hem x hx)) hw
  obtain ⟨a,ha,hb,h3⟩:=M.late hru nw
  have la:=(List.getElem?_eq_some_iff.mp ha).1
  have l4:=M.le
  show 1+(ru.2.map (bN ns)).sum≤bb (ixN ns ru.1)
  rw [ixN_at M.nd ha]
  by_cases c:ru.2=[]
  ·rw [c]
   have:=bb_pos a
   simp only [List.map_nil,List.sum_nil]
   omega
  ·obtain ⟨x,hx⟩:=List.exists_mem_of_ne_nil _ c
   obtain ⟨b,lb,eb⟩:=hb x hx
   have lb4:=(List.getElem?_eq_some_iff.mp eb).1
   have s:=sum_le (f:=bN ns) (c:=bb (a+1)) ru.2 (fun y hy=>by
    obtain ⟨b',lb',eb'⟩:=hb y hy
    have lb4':=(List.getElem?_eq_some_iff.mp eb').1
    show bb (ixN ns y)≤_
    rw [ixN_at M.nd eb']
    by_cases c2:b'=a+1
    ·rw [c2]; exact Int.le_refl _
    ·have:=bb_next (a+1) b' (by omega) (by omega)
     have:=bb_pos b'
     omega)
   have nx:=bb_next a (a+1) (by omega) (by omega)
   have bp:=bb_pos (a+1)
   have:(ru.2.length:Int) * bb (a+1)≤3 * bb (a+1):=Int.mul_le_mul_of_nonneg_right (by omega) (by omega)
   omega
 most h hh:=by
  show bb _≤60
  generalize ixN ns h=k
  match k with
  | 0=>decide
  | 1=>decide
  | 2=>decide
  | k+3=>show (1:Int)≤60; decide
end K11
namespace K11
open PySem L2 M11
section
variable {P:Program} {w:World} {K:PySem.W.Frag} {mg:Str→Option Value} {base:Heap} {f:Addr} {fd:FuncData}
theorem inV_str (h:Str) (zs:List Str):inV (.str h) (zs.map V.str)=true↔h∈zs:=by
 unfold inV
 rw [List.any_eq_true]
 constructor
 ·rintro ⟨x,h1,h2⟩
  obtain ⟨z,hz,rfl⟩:=List.mem_map.mp h1
  have:z=h:=by simpa [eqV] using h2
  rw [← this]; exact hz
 ·intro hm
  exact ⟨.str h,List.mem_map.mpr ⟨h,hm,rfl⟩,by simp [eqV]⟩
theorem flat_strs (zs:List Str):(zs.map V.str).all flatV=true:=by
 rw [List.all_eq_true]
 intro x hx
 obtain ⟨z,_,rfl⟩:=List.mem_map.mp hx
 rfl
theorem cut3 (ns:List Str):∃ ns':List Str,cutV (ns.map V.str) none (some 3)=ns'.map V.str∧(∀ n∈ns',n∈ns)∧ns'.length≤3:=by
 refine ⟨ns.take (min 3 ns.length),?_,fun n hn=>List.mem_of_mem_take hn,by rw [List.length_take]; omega⟩
 have e:HT.sIx (ns.map V.str).length (ns.map V.str).length (some 3)=min 3 ns.length:=by
  have:=HT.sIx_nat (ns.map V.str).length (ns.map V.str).length 3
  rw [List.length_map] at this
  rw [List.length_map]; exact this
 unfold cutV
 rw [e,HT.sIx_none,List.drop_zero,Nat.sub_zero,← List.map_take]
def spRule (K:PySem.W.Frag):Sp:=fun vs H Q _=>∃ (N W D:Addr) (ns ws:List Str) (ms:List Int),vs=[.ref N,.ref W,.ref D]∧H N=some (.lst (ns.map V.str))∧H W=some (.lst (ws.map V.str))∧H D=some (.lst (ms.map V.int))∧ws.length=4∧0 < ns.length∧ns.length≤4∧ns.Nodup∧ms.length=8 ∧
 ∀ (R p:Addr) (a:Nat) (n:Str) (parts:List Str) (H':Hp),Same H H'→SqT K H' R [.str n,.ref p]→SqT K H' p (parts.map V.str)→ns[a]?=some n→parts.length≤8→RuleOk ns ws a parts→Q (.ref R) H'
theorem scRule:FnScope ["_law_names","_law_words","_law_digits_here","_law_at","_law_pool_here","_law_parts"] ["_law_names","_law_words","_law_digits_here"] (defScope sRule):=⟨rfl,rfl,rfl,by decide +kernel,rfl,by decide +kernel,by decide +kernel⟩
theorem ok_rule (F:Fun K "_law_rule" "_law_rule" sRule f fd) (T:Txt mg):FnOk P w K mg base CX0 1 f fd ["_law_names","_law_words","_law_digits_here"] (spRule K):=by
 refine F.ok scRule (fun vs H Q E h=>?_) (fun cdv A outer s H vs Q E hr h=>?_)
 ·obtain ⟨N,W,D,ns,ws,ms,rfl,_⟩:=h; rfl
 ·obtain ⟨N,W,D,ns,ws,ms,rfl,hN,hW,hD,h4,hn0,hn4,hnd,h8,q⟩:=h
  have hu:=Nat.lt_of_succ_lt (hu_of hr)
  refine ⟨_,pss_cons (ps_cutS (ps_set (i:=3) scRule.nd rfl (Or.inr rfl) (pe_op op_mod (pe_ix ix_list (pv 2) pe_int (fun _ _=>rfl)) (pe_callB call_len_seq rfl T.len PySem.boot_len (pa_cons (pv 0) pa_nil)))))
   (pss_cons (ps_set (i:=4) scRule.nd rfl (Or.inr rfl) (pe_op op_cat (pv 0) (pv 1)))
   (pss_cons (ps_setC (iy:=5) ["_law_digit"] [(4,"_law_pool_here")] scRule.nd rfl rfl rfl (pi_list (pe_slice sl_list (pv 2) (po_some pe_int) (po_some (pe_op op_add pe_int (pe_op op_mod (pe_ix ix_list (pv 2) pe_int (fun _ _=>rfl)) pe_int))))) (caps_of rfl rfl) (by decide +kernel) rfl (by decide +kernel)
    (fun _ _ _ _ _=>pg_name (i:=0) (show (["_law_digit","_law_pool_here"]:List Str).Nodup by decide +kernel) rfl (Or.inl rfl)) (fun _ _ _ _ _=>pif_nil) (fun _ _ _ _ _=>pe_ix (ix_listK K) (pv 1) (pe_op op_mod (pv 0) (pe_callB (call_lenK K) rfl T.len PySem.boot_len (pa_cons (pv 1) pa_nil))) (fun _ _=>rfl)))
   (pss_cons (ps_cutS (ps_if (PW.pt (pw_and (pt_cmpR (op_ne_nil hu) (pv 5) (pe_lst pa_nil) (nomark _)) (pw_and1 (pt_not (pt_val (pe_callB (call_anyB rfl) rfl T.any PyProof.Rows.boot_any (pa_cons (pe_compG ["_law_part"] [(1,"_law_words")] rfl (pi_list (pv 5)) (caps_of rfl rfl) (by decide +kernel) rfl (by decide +kernel)
     (fun _ _ _ _ _=>pg_name (i:=0) (show (["_law_part","_law_words"]:List Str).Nodup by decide +kernel) rfl (Or.inl rfl)) (fun _ _ _ _ _=>pif_nil) (fun _ _ _ _ _=>pe_cmpR (op_in_seqK K) (pv 0) (pv 1) rfl)) pa_nil)))))))
    (pss_one (ps_setC (iy:=5) ["_law_part"] [(0,"_law_names"),(3,"_law_at")] scRule.nd rfl rfl rfl (pi_list (pe_slice sl_list (pv 5) po_none (po_some pe_int))) (caps_of rfl rfl) (by decide +kernel) rfl (by decide +kernel)
     (fun _ _ _ _ _=>pg_name (i:=0) (show (["_law_part","_law_names","_law_at"]:List Str).Nodup by decide +kernel) rfl (Or.inl rfl))
     (fun _ _ _ _ _=>pif_one (pt_cmpR op_lt (pe_op op_add (pv 2) pe_int) (pe_callB (call_lenK K) rfl T.len PySem.boot_len (pa_cons (pv 1) pa_nil)) (nomark _)))
     (fun _ _ _ _ _=>pe_ix (ix_listK K) (pv 1) (pe_callB (call_max2 rfl) rfl T.max PyProof.Rows.boot_max (pa_cons (pe_op op_add (pv 2) pe_int) (pa_cons (pe_bmK K PySem.F.plainAttrs_list PySem.F.slot_list_index PySem.F.type_list_index (mt_indexK K) (pv 1) (pa_cons (pv 0) pa_nil)) pa_nil))) (fun _ _=>rfl)))) pss_nil))
   (pss_one (ps_ret (pe_tup (pa_cons (pe_ix ix_list (pv 0) (pv 3) (fun _ _=>rfl)) (pa_cons (pe_callTy call_tuple_of rfl T.tup PyProof.Rows.boot_tuple (pa_cons (pv 5) pa_nil)) pa_nil)))))))),?_⟩
  obtain ⟨m0,em0⟩:∃ m,ms[0]?=some m:=⟨ms[0]'(by omega),List.getElem?_eq_getElem (by omega)⟩
  obtain ⟨m1,em1⟩:∃ m,ms[1]?=some m:=⟨ms[1]'(by omega),List.getElem?_eq_getElem (by omega)⟩
  have at0:atI (ms.map V.int) 0=some (.int m0):=atI_nat (j:=0) (by rw [List.getElem?_map,em0]; rfl)
  have at1:atI (ms.map V.int) 1=some (.int m1):=atI_nat (j:=1) (by rw [List.getElem?_map,em1]; rfl)
  have hpos:(0:Int) < (ns.length:Int):=by omega
  refine ⟨fun σ H1=>∃ a:Nat,a < ns.length∧σ=[some (.ref N),some (.ref W),some (.ref D),some (.int (a:Int)),none,none]∧H1=H,?_,?_⟩
  ·refine ⟨_,rfl,D,_,_,_,rfl,rfl,SqL.of hD,at0,_,rfl,N,_,rfl,.inl (SqL.of hN),_,_,rfl,rfl,?_⟩
   rw [List.length_map]
   refine ⟨hpos,(m0 % (ns.length:Int)).toNat,?_,?_,rfl⟩
   ·have:=Int.emod_lt_of_pos m0 hpos
    have:=Int.emod_nonneg m0 (show (ns.length:Int)≠0 by omega)
    omega
   ·have:=Int.emod_nonneg m0 (show (ns.length:Int)≠0 by omega)
    have e:(((m0 % (ns.length:Int)).toNat:Nat):Int)=m0 % (ns.length:Int):=by omega
    rw [e]
    rfl
  ·rintro σ H1 ⟨a,la,rfl,rfl⟩
   refine ⟨_,rfl,_,rfl,N,W,_,_,rfl,rfl,hN,hW,Nat.le_of_lt (fits' (by rw [List.length_map,List.length_map]; omega)),fun PL hPL=>?_⟩
   rw [← List.map_append]
   have s1:=same_laid hPL (.lst ((ns++ws).map V.str))
   have e1:upd H1 PL (.lst ((ns++ws).map V.str)) PL=some (.lst ((ns++ws).map V.str)):=upd_same
   generalize upd H1 PL (.lst ((ns++ws).map V.str))=H2 at s1 e1
   refine ⟨_,rfl,_,rfl,_,rfl,D,_,_,_,rfl,rfl,SqL.of (s1 _ _ hD),at1,_,_,rfl,rfl,(by show (0:Int) < 7; decide),_,_,rfl,rfl,_,rfl,D,_,rfl,SqL.of (s1 _ _ hD),fun D1 hD1=>?_⟩
   obtain ⟨ds,ed,hdm,hdl⟩:=cut_ints ms (some 2) (some (2+m1 % 7))
   rw [ed]
   have s2:=s1.trans (same_laid hD1 (.lst (ds.map V.int)))
   have e2:=same_laid hD1 (.lst (ds.map V.int)) _ _ e1
   have e3:upd H2 D1 (.lst (ds.map V.int)) D1=some (.lst (ds.map V.int)):=upd_same
   generalize upd H2 D1 (.lst (ds.map V.int))=H3 at s2 e2 e3
   refine ⟨D1,rfl,⟨_,SqL.of e3⟩,fun D2 hD2=>compG_list (xs:=ds.map V.int) (fun i ys σ2 H4=>∃ zs:List Str,ys=zs.map V.str∧zs.length=i∧(∀ z∈zs,z∈ns++ws)∧(∃ y0,σ2=[y0,some (.ref PL)])∧Same H3 H4∧H4 D2=some (.lst ys))
    ⟨[],rfl,rfl,by simp,⟨none,rfl⟩,same_laid hD2 _,upd_same⟩ (fun i ys σ2 H4 _ h=>?_) (fun i x ys σ2 H4 ex h=>?_) (fun ys σ2 H4 h=>?_)⟩
   ·obtain ⟨_,_,_,_,_,sm,_⟩:=h
    exact SqL.of (sm _ _ e3)
   ·obtain ⟨zs,rfl,hz,hzw,⟨y0,rfl⟩,sm,hd⟩:=h
    have li:=(List.getElem?_eq_some_iff.mp ex).1
    rw [List.length_map] at li
    rw [List.getElem?_map] at ex
    obtain ⟨d,ed2,rfl⟩:=Option.map_eq_some_iff.mp ex
    have hpl:(0:Int) < ((ns++ws).length:Int):=by rw [List.length_append]; omega
    have lt:(d % ((ns++ws).length:Int)).toNat < (ns++ws).length:=by
     have:=Int.emod_lt_of_pos d hpl
     have:=Int.emod_nonneg d (show ((ns++ws).length:Int)≠0 by omega)
     omega
    have eN:(((d % ((ns++ws).length:Int)).toNat:Nat):Int)=d % ((ns++ws).length:Int):=by
     have:=Int.emod_nonneg d (show ((ns++ws).length:Int)≠0 by omega)
     omega
    have atz:atI ((ns++ws).map V.str) (d % ((ns++ws).length:Int))=some (.str (ns++ws)[(d % ((ns++ws).length:Int)).toNat]):=by
     have:=atI_nat (xs:=(ns++ws).map V.str) (j:=(d % ((ns++ws).length:Int)).toNat) (v:=.str (ns++ws)[(d % ((ns++ws).length:Int)).toNat]) (by rw [List.getElem?_map,List.getElem?_eq_getElem lt]; rfl)
     rw [eN] at this
     exact this
    generalize hzz:(ns++ws)[(d % ((ns++ws).length:Int)).toNat]=zz at atz
    have hzm:zz∈ns++ws:=by rw [← hzz]; exact List.getElem_mem lt
    refine goN (goT ?_)
    refine ⟨_,rfl,_,rfl,_,rfl,PL,_,rfl,.inl (SqL.of (sm _ _ e2)),_,_,rfl,rfl,?_⟩
    rw [List.length_map]
    refine ⟨hpl,PL,_,_,_,rfl,rfl,SqL.of (sm _ _ e2),atz,hd,fits' (by rw [List.length_map]; omega),zs++[zz],by rw [List.map_append]; rfl,by rw [List.length_append,hz]; rfl,?_,⟨_,rfl⟩,?_,upd_same⟩
    ·intro z' hz'
     rcases List.mem_append.mp hz' with h | h
     ·exact hzw z' h
     ·rw [List.mem_singleton.mp h]; exact hzm
    ·intro b o hb
     rw [upd_ne (fun z=>by rw [z,hD2] at hb; cases hb)]
     exact sm b o hb
   ·obtain ⟨zs,rfl,hz,hzw,_,sm,hd⟩:=h
    rw [List.length_map] at hz
    have s4:=s2.trans sm
    have e4:=sm _ _ e2
    clear e1 e2 e3 ed
    refine goN ?_
    refine ⟨fun σ H5=>∃ (D3:Addr) (parts:List Str),σ=[some (.ref N),some (.ref W),some (.ref D),some (.int (a:Int)),some (.ref PL),some (.ref D3)]∧Same H1 H5∧H5 D3=some (.lst (parts.map V.str))∧parts.length≤8∧RuleOk ns ws a parts,?_,?_⟩
    ·have hz8:zs.length≤8:=by omega
     refine ⟨_,rfl,(by show 0≤sizeLine; decide),fun L4 hL4=>?_⟩
     have s5:=s4.trans (same_laid hL4 (.lst []))
     have e5:=same_laid hL4 (.lst []) _ _ hd
     have e6:upd H4 L4 (.lst []) L4=some (.lst []):=upd_same
     generalize upd H4 L4 (.lst [])=H5 at s5 e5 e6
     refine ⟨D2,L4,_,rfl,rfl,SqL.of e5,SqL.of e6,_,rfl,?_⟩
     have stay:(∃ x∈zs,x∈ws)∨zs=[]→RuleOk ns ws a zs:=fun h=>⟨fun x hx=>List.mem_append.mp (hzw x hx),h.elim .inl fun e=>.inr ⟨fun x hx=>(by rw [e] at hx; cases hx),(by rw [e]; exact Nat.zero_le _)⟩⟩
     refine ite2 (fun c=>?_) (fun c=>?_)
     ·refine ⟨_,rfl,D2,rfl,⟨_,SqL.of e5⟩,fun D6 hD6=>compG_list (xs:=zs.map V.str) (fun i ys σ2 H6=>ys=((zs.take i).map fun z=>inV (.str z) (ws.map V.str)).map V.bl∧(∃ y0,σ2=[y0,some (.ref W)])∧Same H5 H6∧H6 D6=some (.lst ys))
       ⟨rfl,⟨none,rfl⟩,same_laid hD6 _,upd_same⟩ (fun i ys σ2 H6 _ h=>?_) (fun i x ys σ2 H6 ex h=>?_) (fun ys σ2 H6 h=>?_)⟩
      ·exact SqL.of (h.2.2.1 _ _ e5)
      ·obtain ⟨rfl,⟨y0,rfl⟩,sm6,hd6⟩:=h
       rw [List.getElem?_map] at ex
       obtain ⟨z,ez,rfl⟩:=Option.map_eq_some_iff.mp ex
       have li:=(List.getElem?_eq_some_iff.mp ez).1
       refine goN (goT ?_)
       refine ⟨_,rfl,_,rfl,W,_,rfl,.inl (SqL.of (sm6 _ _ (s5 _ _ hW))),rfl,flat_strs ws,hd6,fits' (by rw [List.length_map,List.length_map,List.length_take]; omega),?_,⟨_,rfl⟩,?_,upd_same⟩
       ·rw [List.take_succ,ez,List.map_append,List.map_append]; rfl
       ·intro b o hb
        rw [upd_ne (fun z=>by rw [z,hD6] at hb; cases hb)]
        exact sm6 b o hb
      ·obtain ⟨rfl,_,sm6,hd6⟩:=h
       rw [List.length_map,List.take_length] at hd6
       have s6:=s5.trans sm6
       have e7:=sm6 _ _ e5
       refine ⟨D6,_,rfl,SqL.of hd6,_,rfl,?_⟩
       refine ite2 (fun c2=>?_) (fun c2=>?_)
       ·have nw:∀ x∈zs,x∉ws:=fun x hx hw=>by
         have:((zs.map fun z=>inV (.str z) (ws.map V.str)).any id)=true:=List.any_eq_true.mpr ⟨true,List.mem_map.mpr ⟨x,hx,(inV_str x ws).mpr hw⟩,rfl⟩
         rw [this] at c2; cases c2
        obtain ⟨ps,ep,hpm,hpl⟩:=cut3 zs
        refine ⟨_,rfl,_,rfl,D2,_,rfl,SqL.of e7,fun D7 hD7=>?_⟩
        rw [ep]
        have s7:=s6.trans (same_laid hD7 (.lst (ps.map V.str)))
        have e8:upd H6 D7 (.lst (ps.map V.str)) D7=some (.lst (ps.map V.str)):=upd_same
        generalize upd H6 D7 (.lst (ps.map V.str))=H7 at s7 e8
        refine ⟨D7,rfl,⟨_,SqL.of e8⟩,fun D8 hD8=>compG_list (xs:=ps.map V.str) (fun i ys σ2 H8=>∃ vs:List Str,ys=vs.map V.str∧vs.length≤i∧(∀ x∈vs,∃ b,a < b∧ns[b]?=some x)∧(∃ y0,σ2=[y0,some (.ref N),some (.int (a:Int))])∧Same H7 H8∧H8 D8=some (.lst ys))
         ⟨[],rfl,Nat.le_refl _,fun x hx=>(by cases hx),⟨none,rfl⟩,same_laid hD8 _,upd_same⟩ (fun i ys σ2 H8 _ h=>?_) (fun i x ys σ2 H8 ex h=>?_) (fun ys σ2 H8 h=>?_)⟩
        ·obtain ⟨_,_,_,_,_,sm,_⟩:=h
         exact SqL.of (sm _ _ e8)
        ·obtain ⟨vs,rfl,hv,hvb,⟨y0,rfl⟩,sm8,hd8⟩:=h
         have li:=(List.getElem?_eq_some_iff.mp ex).1
         rw [List.length_map] at li
         rw [List.getElem?_map] at ex
         obtain ⟨z,ez,rfl⟩:=Option.map_eq_some_iff.mp ex
         have hzz:=hpm z (List.mem_of_getElem? ez)
         have hzn:z∈ns:=(List.mem_append.mp (hzw z hzz)).resolve_right (nw z hzz)
         obtain ⟨j,hj⟩:=List.getElem?_of_mem hzn
         have lj:=(List.getElem?_eq_some_iff.mp hj).1
         have fst:∀ m,m < j→ns[m]?≠some z:=fun m hm e=>by
          have h1:=ixN_at hnd hj
          have h2:=ixN_at hnd e
          omega
         refine goN ?_
         have nsq:SqL K H8 N (ns.map V.str):=SqL.of (sm8 _ _ (s7 _ _ hN))
         refine ⟨_,rfl,_,_,rfl,rfl,_,rfl,N,_,rfl,.inl nsq,_,_,rfl,rfl,_,rfl,?_⟩
         refine ite2 (fun c3=>?_) (fun c3=>?_)
         ·have c3':(a:Int)+1 < (ns.length:Int):=by
           have:=of_decide_eq_true c3
           rw [List.length_map] at this
           exact this
          obtain ⟨b,hb1,hb2,hb3⟩:∃ b:Nat,a < b∧b < ns.length∧((b:Nat):Int)=(if ((j:Nat):Int) > (a:Int)+1 then ((j:Nat):Int) else (a:Int)+1):=by
           by_cases c4:((j:Nat):Int) > (a:Int)+1
           ·exact ⟨j,by omega,lj,by rw [if_pos c4]⟩
           ·exact ⟨a+1,by omega,by omega,by rw [if_neg c4]; omega⟩
          have hbe:ns[b]?=some ns[b]:=List.getElem?_eq_getElem hb2
          have atb:atI (ns.map V.str) (if ((j:Nat):Int) > (a:Int)+1 then ((j:Nat):Int) else (a:Int)+1)=some (.str ns[b]):=by
           rw [← hb3]
           exact atI_nat (by rw [List.getElem?_map,hbe]; rfl)
          refine ⟨_,rfl,_,rfl,_,_,rfl,rfl,_,rfl,.inl ⟨rfl,_,nsq⟩,_,rfl,N,ns,z,j,rfl,rfl,nsq,hj,fst,_,_,rfl,N,_,_,_,rfl,rfl,nsq,atb,hd8,fits' (by rw [List.length_map]; omega),vs++[ns[b]],by rw [List.map_append]; rfl,by rw [List.length_append]; simp; omega,?_,⟨_,rfl⟩,?_,upd_same⟩
          ·intro x hx
           rcases List.mem_append.mp hx with h | h
           ·exact hvb x h
           ·rw [List.mem_singleton.mp h]; exact ⟨b,hb1,hbe⟩
          ·intro b o hb
           rw [upd_ne (fun z=>by rw [z,hD8] at hb; cases hb)]
           exact sm8 b o hb
         ·exact ⟨vs,rfl,by omega,hvb,⟨_,rfl⟩,sm8,hd8⟩
        ·obtain ⟨vs,rfl,hv,hvb,_,sm8,hd8⟩:=h
         rw [List.length_map] at hv
         exact ⟨D8,vs,rfl,s7.trans sm8,hd8,by omega,fun x hx=>.inl (by obtain ⟨b,_,e⟩:=hvb x hx; exact List.mem_of_getElem? e),.inr ⟨hvb,by omega⟩⟩
       ·have:((zs.map fun z=>inV (.str z) (ws.map V.str)).any id)=true:=by simpa using c2
        obtain ⟨b,hb,hbt⟩:=List.any_eq_true.mp this
        obtain ⟨x,hx,rfl⟩:=List.mem_map.mp hb
        exact ⟨D2,zs,rfl,s6,e7,hz8,stay (.inl ⟨x,hx,(inV_str x ws).mp hbt⟩)⟩
     ·refine ite2 (fun c2=>by cases c2) (fun _=>?_)
      have e0:zs=[]:=by
       cases zs with
       | nil=>rfl
       | cons z r=>exact absurd rfl c
      exact ⟨D2,zs,rfl,s5,e5,hz8,stay (.inr e0)⟩
    ·rintro σ H5 ⟨D3,parts,rfl,s5,e5,l5,ro⟩
     obtain ⟨n,hn⟩:∃ n,ns[a]?=some n:=⟨ns[a],List.getElem?_eq_getElem la⟩
     have atn:atI (ns.map V.str) (a:Int)=some (.str n):=atI_nat (by rw [List.getElem?_map,hn]; rfl)
     refine ⟨_,rfl,_,rfl,N,_,_,_,rfl,rfl,SqL.of (s5 _ _ hN),atn,_,rfl,D3,_,rfl,.inl ⟨SqL.of e5,fun t1 ht1=>⟨(by show 2≤sizeLine; decide),fun R hR=>?_⟩⟩⟩
     exact q R t1 a n parts _ (s5.trans ((same_laid ht1 _).trans (same_laid hR _))) (SqT.of upd_same) ((same_laid hR _).tup (SqT.of upd_same)) hn l5 ro
end
end K11
namespace K11
open PySem L2 M11
section
variable {P:Program} {w:World} {K:PySem.W.Frag} {mg:Str→Option Value} {base:Heap} {f:Addr} {fd:FuncData}
theorem Paired.app {α β:Type} {F:α→β→Prop}:∀ {xs:List α} {ys:List β} {xs2:List α} {ys2:List β},Paired F xs ys→Paired F xs2 ys2→Paired F (xs++xs2) (ys++ys2)
 | _,_,_,_,.nil,h=>h
 | _,_,_,_,.cons a b,h=>.cons a (Paired.app b h)
theorem made_app {ns ws:List Str} {r1 r2:List Rule} (nd:ns.Nodup) (h0:0 < ns.length) (h4:ns.length≤4) (dj:∀ x∈ns,x∉ws) (l1:r1.length=ns.length)
  (f1:∀ (j:Nat) (ru:Rule),r1[j]?=some ru→ns[j]?=some ru.1∧FirstOk ns ws j ru.2∧ru.2.length≤8) (f2:∀ ru∈r2,∃ a:Nat,ns[a]?=some ru.1∧RuleOk ns ws a ru.2∧ru.2.length≤8):Made ns ws (r1++r2) where
 nd:=nd
 pos:=h0
 le:=h4
 dj:=dj
 first i n hn:=by
  have li:=(List.getElem?_eq_some_iff.mp hn).1
  have e:r1[i]?=some (r1[i]'(by omega)):=List.getElem?_eq_getElem (by omega)
  obtain ⟨a,b,_⟩:=f1 i _ e
  rw [hn] at a
  refine ⟨(r1[i]'(by omega)).2,?_,b⟩
  rw [List.getElem?_append_left (by omega),e]
  congr 1
  exact Prod.ext (by cases a; rfl) rfl
 all ru hru:=by
  rcases List.mem_append.mp hru with h | h
  ·obtain ⟨j,hj⟩:=List.getElem?_of_mem h
   obtain ⟨a,b,_⟩:=f1 j ru hj
   exact ⟨j,a,.inl b⟩
  ·obtain ⟨a,b,c,_⟩:=f2 ru h
   exact ⟨a,b,.inr c⟩
def spRules (K:PySem.W.Frag):Sp:=fun vs H Q _=>∃ (c:Int) (N W C:Addr) (ns ws:List Str) (cs:List Int),vs=[.int c,.ref N,.ref W,.ref C]∧H N=some (.lst (ns.map V.str))∧H W=some (.lst (ws.map V.str))∧SqL K H C (cs.map V.int)∧ws.length=4∧0 < ns.length∧ns.length≤4∧ns.Nodup∧(∀ x∈ns,x∉ws)∧cs.length≤50 ∧
 ∀ (R:Addr) (rs:List Addr) (rules:List Rule) (H':Hp),Same H H'→H' R=some (.lst (rs.map V.ref))→Rules K H' rs rules→Made ns ws rules→rules.length < 64→(∀ ru∈rules,ru.2.length≤8)→Q (.ref R) H'
theorem scRules:FnScope ["_law_cell","_law_names","_law_words","_law_cells","_law_draws","_law_rules_here"] ["_law_cell","_law_names","_law_words","_law_cells"] (defScope sRules):=⟨rfl,rfl,rfl,by decide +kernel,rfl,by decide +kernel,by decide +kernel⟩
theorem ok_rules (F:Fun K "_law_rules" "_law_rules" sRules f fd) (T:Txt mg) (GS:CalleeD P w K mg base 1 "_law_stream" ["_law_cell","_law_many"] spStream) (GF:CalleeD P w K mg base 1 "_law_first" ["_law_names","_law_words","_law_at","_law_draw"] (spFirst K))
  (GR:CalleeD P w K mg base 1 "_law_rule" ["_law_names","_law_words","_law_digits_here"] (spRule K)) (GD:CalleeD P w K mg base 2 "_law_digits" ["_law_cell","_law_many"] spDigits):FnOk P w K mg base CX0 3 f fd ["_law_cell","_law_names","_law_words","_law_cells"] (spRules K):=by
 refine F.ok scRules (fun vs H Q E h=>?_) (fun cdv A outer s H vs Q E hr h=>?_)
 ·obtain ⟨c,N,W,C,ns,ws,cs,rfl,_⟩:=h; rfl
 ·obtain ⟨c,N,W,C,ns,ws,cs,rfl,hN,hW,hC,h4,hn0,hn4,hnd,hdj,hcs,q⟩:=h
  refine ⟨_,pss_cons (ps_set (i:=4) scRules.nd rfl (Or.inr rfl) (pe_fn (GS.mono (by decide:1≤2)) hr rfl (pa_cons (pv 0) (pa_cons (pe_callB call_len_seq rfl T.len PySem.boot_len (pa_cons (pv 1) pa_nil)) pa_nil))))
   (pss_cons (ps_setC (iy:=5) ["_law_at"] [(1,"_law_names"),(2,"_law_words"),(4,"_law_draws")] scRules.nd rfl rfl rfl (pi_range1 rfl T.rng (pa_cons (pe_callB call_len_seq rfl T.len PySem.boot_len (pa_cons (pv 1) pa_nil)) pa_nil)) (caps_of rfl rfl) (by decide +kernel) rfl (by decide +kernel)
    (fun _ _ _ _ _=>pg_name (i:=0) (show (["_law_at","_law_names","_law_words","_law_draws"]:List Str).Nodup by decide +kernel) rfl (Or.inl rfl)) (fun _ _ _ _ _=>pif_nil)
    (fun _ _ _ _ _=>pe_fn (GF.mono (by decide:1≤2)) hr rfl (pa_cons (pv 1) (pa_cons (pv 2) (pa_cons (pv 0) (pa_cons (pe_ix (ix_listK K) (pv 3) (pv 0) (fun _ _=>rfl)) pa_nil))))))
   (pss_one (ps_ret (pe_op op_cat (pv 5) (pe_compG ["_law_one"] [(1,"_law_names"),(2,"_law_words")] rfl (pi_list (pv 3)) (caps_of rfl rfl) (by decide +kernel) rfl (by decide +kernel)
    (fun _ _ _ _ _=>pg_name (i:=0) (show (["_law_one","_law_names","_law_words"]:List Str).Nodup by decide +kernel) rfl (Or.inl rfl)) (fun _ _ _ _ _=>pif_nil)
    (fun _ _ _ _ _=>pe_fn (GR.mono (by decide:1≤2)) hr rfl (pa_cons (pv 1) (pa_cons (pv 2) (pa_cons (pe_fn GD hr rfl (pa_cons (pv 0) (pa_cons pe_int pa_nil))) pa_nil))))))))),?_⟩
  refine ⟨_,rfl,_,rfl,N,_,rfl,.inl (SqL.of hN),c,(ns.map V.str).length,rfl,by rw [List.length_map]; omega,fun D ds H1 fD s1 e1 l1 b1=>?_⟩
  rw [List.length_map] at l1
  refine ⟨_,rfl,N,_,rfl,.inl (SqL.of (s1 _ _ hN)),_,rfl,by rw [List.length_map]; omega,by rw [List.length_map]; omega,fun D2 hD2=>?_⟩
  rw [List.length_map,Int.toNat_natCast]
  refine compG_range (fun i ys σ2 H3=>∃ (rs:List Addr) (rules:List Rule),ys=rs.map V.ref∧rules.length=i∧Rules K H3 rs rules∧(∀ (j:Nat) (ru:Rule),rules[j]?=some ru→ns[j]?=some ru.1∧FirstOk ns ws j ru.2∧ru.2.length≤8)∧(∃ y0,σ2=[y0,some (.ref N),some (.ref W),some (.ref D)])∧Same H1 H3∧H3 D2=some (.lst ys))
   ⟨[],[],rfl,rfl,.nil,fun j ru e=>(by cases e),⟨none,rfl⟩,same_laid hD2 _,upd_same⟩ (fun i ys σ2 H3 hi h=>?_) (fun ys σ2 H3 h=>?_)
  ·obtain ⟨rs,rules,rfl,hl,hrl,hf,⟨y0,rfl⟩,sm,hd⟩:=h
   have s3:=s1.trans sm
   obtain ⟨n,hn⟩:∃ n,ns[i]?=some n:=⟨ns[i],List.getElem?_eq_getElem hi⟩
   obtain ⟨dr,hdr⟩:∃ dr,ds[i]?=some dr:=⟨ds[i]'(by omega),List.getElem?_eq_getElem (by omega)⟩
   have atd:atI (ds.map V.int) (0+(i:Int))=some (.int dr):=by
    rw [Int.zero_add]
    exact atI_nat (by rw [List.getElem?_map,hdr]; rfl)
   refine goN (goT ?_)
   refine ⟨_,rfl,_,rfl,_,rfl,_,rfl,_,rfl,D,_,_,_,rfl,rfl,SqL.of (sm _ _ e1),atd,N,W,ns,ws,i,dr,n,(by show [V.ref N,V.ref W,V.int (0+(i:Int)),V.int dr]=_; rw [Int.zero_add]),SqL.of (s3 _ _ hN),SqL.of (s3 _ _ hW),h4,hn,by omega,b1 dr (List.mem_of_getElem? hdr),fun R p parts H4 s4 v1 v2 l4 fo=>?_⟩
   have hd4:=s4 _ _ hd
   have lrs:=Paired.length hrl
   refine ⟨hd4,fits' (by rw [List.length_map]; omega),rs++[R],rules++[(n,parts)],by rw [List.map_append]; rfl,by rw [List.length_append,hl]; rfl,Paired.snoc (hrl.keep fun b xs z=>sqt_upd hd4 (s4.tup z)) ⟨p,sqt_upd hd4 v1,sqt_upd hd4 v2⟩,fun j ru e=>?_,⟨_,rfl⟩,fun b o hb=>?_,upd_same⟩
   ·by_cases c2:j < rules.length
    ·rw [List.getElem?_append_left c2] at e
     exact hf j ru e
    ·rw [List.getElem?_append_right (by omega)] at e
     have:j - rules.length=0:=by
      have:=(List.getElem?_eq_some_iff.mp e).1
      simp at this
      omega
     rw [this] at e
     cases e
     have:j=i:=by omega
     rw [this]
     exact ⟨hn,fo,Nat.le_trans l4 (by decide)⟩
   ·rw [upd_ne (fun z=>by rw [z,hD2] at hb; cases hb)]
    exact s4 _ _ (sm b o hb)
  ·obtain ⟨rs,rules,rfl,hl,hrl,hf,_,sm,hd⟩:=h
   have s3:=s1.trans sm
   have lrs:=Paired.length hrl
   refine ⟨_,rfl,_,rfl,C,rfl,⟨_,s3.seq hC⟩,fun D4 hD4=>compG_list (xs:=cs.map V.int) (fun i ys σ2 H5=>∃ (rs2:List Addr) (rules2:List Rule),ys=rs2.map V.ref∧rules2.length=i∧Rules K H5 rs2 rules2∧(∀ ru∈rules2,∃ a:Nat,ns[a]?=some ru.1∧RuleOk ns ws a ru.2∧ru.2.length≤8)∧(∃ y0,σ2=[y0,some (.ref N),some (.ref W)])∧Same H3 H5∧H5 D4=some (.lst ys))
    ⟨[],[],rfl,rfl,.nil,fun ru h=>(by cases h),⟨none,rfl⟩,same_laid hD4 _,upd_same⟩ (fun i ys σ2 H5 _ h=>?_) (fun i x ys σ2 H5 ex h=>?_) (fun ys σ2 H5 h=>?_)⟩
   ·obtain ⟨_,_,_,_,_,_,_,sm5,_⟩:=h
    exact (s3.trans sm5).seq hC
   ·obtain ⟨rs2,rules2,rfl,hl2,hrl2,hf2,⟨y0,rfl⟩,sm5,hd5⟩:=h
    have li:=(List.getElem?_eq_some_iff.mp ex).1
    rw [List.length_map] at li
    rw [List.getElem?_map] at ex
    obtain ⟨d,ed2,rfl⟩:=Option.map_eq_some_iff.mp ex
    refine goN (goT ?_)
    refine ⟨_,rfl,_,rfl,_,rfl,d,8,rfl,by decide,fun D6 dg H6 f6 s6 e6 l6=>?_⟩
    have s7:=(s3.trans sm5).trans s6
    refine ⟨N,W,D6,ns,ws,dg,rfl,s7 _ _ hN,s7 _ _ hW,e6,h4,hn0,hn4,hnd,l6,fun R p a n parts H8 s8 v1 v2 hn l8 ro=>?_⟩
    have hd8:=s8 _ _ (s6 _ _ hd5)
    have lrs2:=Paired.length hrl2
    refine ⟨hd8,fits' (by rw [List.length_map]; omega),rs2++[R],rules2++[(n,parts)],by rw [List.map_append]; rfl,by rw [List.length_append,hl2]; rfl,Paired.snoc (hrl2.keep fun b xs z=>sqt_upd hd8 (s8.tup (s6.tup z))) ⟨p,sqt_upd hd8 v1,sqt_upd hd8 v2⟩,fun ru hru=>?_,⟨_,rfl⟩,fun b o hb=>?_,upd_same⟩
    ·rcases List.mem_append.mp hru with h | h
     ·exact hf2 ru h
     ·rw [List.mem_singleton.mp h]
      exact ⟨a,hn,ro,l8⟩
    ·rw [upd_ne (fun z=>by rw [z,hD4] at hb; cases hb)]
     exact s8 _ _ (s6 _ _ (sm5 b o hb))
   ·obtain ⟨rs2,rules2,rfl,hl2,hrl2,hf2,_,sm5,hd5⟩:=h
    rw [List.length_map] at hl2
    have lrs2:=Paired.length hrl2
    refine ⟨D2,D4,_,_,rfl,rfl,sm5 _ _ hd,hd5,fits (by rw [List.length_map,List.length_map]; omega),fun R hR=>?_⟩
    rw [← List.map_append]
    refine q R (rs++rs2) (rules++rules2) _ ((s3.trans sm5).trans (same_laid hR _)) upd_same (Rules.same (Paired.app (Rules.same hrl sm5) hrl2) (same_laid hR _)) (made_app hnd hn0 hn4 hdj hl hf hf2) (by rw [List.length_append]; omega) fun ru hru=>?_
    rcases List.mem_append.mp hru with h | h
    ·obtain ⟨j,hj⟩:=List.getElem?_of_mem h
     exact (hf j ru hj).2.2
    ·obtain ⟨_,_,_,l⟩:=hf2 ru h
     exact l
end
end K11
namespace K11
open PySem L2 M11
section
variable {P:Program} {w:World} {K:PySem.W.Frag} {mg:Str→Option Value} {base:Heap} {f:Addr} {fd:FuncData}
theorem cut_take (ns:List Str) (k:Nat):cutV (ns.map V.str) none (some (k:Int))=(ns.take k).map V.str:=by
 unfold cutV
 rw [HT.sIx_nat,HT.sIx_none,List.drop_zero,Nat.sub_zero,List.length_map,← List.map_take]
 congr 1
 by_cases h:k≤ns.length
 ·rw [Nat.min_eq_left h]
 ·rw [Nat.min_eq_right (by omega),List.take_length,List.take_of_length_le (by omega)]
theorem cut_drop (ns:List Str) (k:Nat):cutV (ns.map V.str) (some (k:Int)) none=(ns.drop k).map V.str:=by
 unfold cutV
 rw [HT.sIx_nat,HT.sIx_none,List.length_map,← List.map_drop,← List.map_take]
 congr 1
 by_cases h:k≤ns.length
 ·rw [Nat.min_eq_left h,List.take_of_length_le (by rw [List.length_drop]; omega)]
 ·rw [Nat.min_eq_right (by omega),Nat.sub_self,List.take_zero,List.drop_eq_nil_of_le (by omega)]
theorem at3 {zs:List Str} (h:zs.length=3) (n:Int):∃ z∈zs,atI (zs.map V.str) (n % 3)=some (.str z):=by
 have l:(n % 3).toNat < zs.length:=by omega
 have e:n % 3=(((n % 3).toNat:Nat):Int):=by omega
 refine ⟨zs[(n % 3).toNat],List.getElem_mem l,?_⟩
 have t:atI (zs.map V.str) (((n % 3).toNat:Nat):Int)=some (.str zs[(n % 3).toNat]):=atI_nat (by rw [List.getElem?_map,List.getElem?_eq_getElem l]; rfl)
 rw [← e] at t
 exact t
def spStr (K:PySem.W.Frag):Sp:=fun vs H Q _=>∃ (c:Int) (W:Addr) (ws:List Str),vs=[.int c,.ref W]∧SqL K H W (ws.map V.str)∧ws.length≤8∧ws.Nodup ∧
 ∀ (R:Addr) (rs:List Addr) (str:List Rule) (H':Hp),Same H H'→H' R=some (.lst (rs.map V.ref))→Rules K H' rs str→str.length≤100→(∀ ru∈str,ru.2.length≤8)→(str.flatMap (·.2)).Nodup→Q (.ref R) H'
theorem scStr:FnScope ["_law_cell","_law_words","_law_rows","_law_left","_law_draw","_law_some"] ["_law_cell","_law_words"] (defScope sStr):=⟨rfl,rfl,rfl,by decide +kernel,rfl,by decide +kernel,by decide +kernel⟩
theorem ok_str (F:Fun K "_law_strengths" "_law_strengths" sStr f fd) (T:Txt mg) (GS:CalleeD P w K mg base 1 "_law_stream" ["_law_cell","_law_many"] spStream):FnOk P w K mg base CX0 2 f fd ["_law_cell","_law_words"] (spStr K):=by
 refine F.ok scStr (fun vs H Q E h=>?_) (fun cdv A outer s H vs Q E hr h=>?_)
 ·obtain ⟨c,W,ws,rfl,_⟩:=h; rfl
 ·obtain ⟨c,W,ws,rfl,hW,hw8,hnd,q⟩:=h
  have hu:=Nat.lt_of_succ_lt (hu_of hr)
  refine ⟨_,pss_cons (ps_set (i:=2) scStr.nd rfl (Or.inl rfl) (pe_lst pa_nil))
   (pss_cons (ps_set (i:=3) scStr.nd rfl (Or.inl rfl) (pe_callTy call_list_of rfl T.lst boot_lst (pa_cons (pv 1) pa_nil)))
   (pss_cons (ps_for PassesOwn.never rfl (pi_list (pe_fn GS hr rfl (pa_cons (pv 0) (pa_cons (pe_op op_mod (pv 0) pe_int) pa_nil)))) (pg_name (i:=4) scStr.nd rfl (Or.inl rfl))
    (pss_cons (ps_set (i:=5) scStr.nd rfl (Or.inl rfl) (pe_slice sl_list (pv 3) po_none (po_some (pe_op op_add pe_int (pe_op op_mod (pv 4) pe_int)))))
    (pss_cons (ps_set (i:=3) scStr.nd rfl (Or.inl rfl) (pe_slice sl_list (pv 3) (po_some (pe_op op_add pe_int (pe_op op_mod (pv 4) pe_int))) po_none))
    (pss_one (ps_if (pt_cmpR (op_ne_nil hu) (pv 5) (pe_lst pa_nil) (nomark _))
     (pss_one (ps_expr (pe_bm PySem.F.plainAttrs_list PySem.F.slot_list_append PySem.F.type_list_append mt_append (pv 2) (pa_cons (pe_tup (pa_cons (pe_ix ix_list (pe_lst (pa_cons pe_str (pa_cons pe_str (pa_cons pe_str pa_nil)))) (pe_op op_mod (pe_op op_fdiv (pv 4) pe_int) pe_int) (fun _ _=>rfl)) (pa_cons (pe_callTy call_tuple_of rfl T.tup PyProof.Rows.boot_tuple (pa_cons (pv 5) pa_nil)) pa_nil))) pa_nil)))) pss_nil)))))
   (pss_one (ps_ret (pv 2))))),?_⟩
  refine ⟨(by show 0≤sizeLine; decide),fun L hL=>?_⟩
  have s1:=same_laid hL (.lst [])
  have e1:upd H L (.lst []) L=some (.lst []):=upd_same
  generalize upd H L (.lst [])=H1 at s1 e1
  refine ⟨_,rfl,W,_,rfl,.inl (s1.seq hW),fun L0 hL0=>?_⟩
  have s2:=s1.trans (same_laid hL0 (.lst (ws.map V.str)))
  have e2:=same_laid hL0 (.lst (ws.map V.str)) _ _ e1
  have n0:L0≠L:=fun z=>by rw [z,e1] at hL0; cases hL0
  have e3:upd H1 L0 (.lst (ws.map V.str)) L0=some (.lst (ws.map V.str)):=upd_same
  generalize upd H1 L0 (.lst (ws.map V.str))=H2 at s2 e2 e3
  have hc5:c % 5=(((c % 5).toNat:Nat):Int):=by omega
  refine ⟨_,rfl,_,rfl,_,_,rfl,rfl,(by show (0:Int) < 5; decide),c,(c % 5).toNat,(by show [V.int c,V.int (c % 5)]=_; rw [← hc5]),by omega,fun D3 ds H3 f3 s3 e4 l3 b3=>?_⟩
  have nD:D3≠L:=fun z=>by rw [z,e2] at f3; cases f3
  have nD0:D3≠L0:=fun z=>by rw [z,e3] at f3; cases f3
  refine ⟨D3,rfl,⟨_,SqL.of e4⟩,for_list (xs:=ds.map V.int) (fun i σ H4=>∃ (L2:Addr) (rs:List Addr) (str:List Rule) (left:List Str) (y4 y5:Option V),σ=[some (.int c),some (.ref W),some (.ref L),some (.ref L2),y4,y5]∧Same H H4∧H4 L=some (.lst (rs.map V.ref))∧L2≠L∧H4 L2=some (.lst (left.map V.str))∧H4 D3=some (.lst (ds.map V.int))∧Rules K H4 rs str∧str.length≤i∧(∀ ru∈str,ru.2.length≤8)∧str.flatMap (·.2)++left=ws)
   ⟨L0,[],[],ws,none,none,rfl,s2.trans s3,s3 _ _ e2,n0,s3 _ _ e3,e4,.nil,Nat.le_refl _,fun ru h=>(by cases h),rfl⟩ ?_ ?_ ?_⟩
  ·rintro i σ H4 _ ⟨L2,rs,str,left,y4,y5,rfl,sm,eL,nL,eL2,eD,_⟩
   exact SqL.of eD
  ·rintro i x σ H4 ex ⟨L2,rs,str,left,y4,y5,rfl,sm,eL,nL,eL2,eD,hrl,hl,h8,hfl⟩
   have li:=(List.getElem?_eq_some_iff.mp ex).1
   rw [List.length_map] at li
   rw [List.getElem?_map] at ex
   obtain ⟨d,ed2,rfl⟩:=Option.map_eq_some_iff.mp ex
   obtain ⟨k,hk⟩:∃ k:Nat,1+d % 3=(k:Int):=⟨(1+d % 3).toNat,by omega⟩
   have lrs:=Paired.length hrl
   refine goN ?_
   refine ⟨_,rfl,_,rfl,_,_,rfl,rfl,(by show (0:Int) < 3; decide),_,_,rfl,rfl,_,rfl,L2,_,rfl,SqL.of eL2,fun A1 hA1=>?_⟩
   rw [show cutV (left.map V.str) none (some (1+d % 3))=(left.take k).map V.str by rw [hk]; exact cut_take left k]
   have sA:=same_laid hA1 (.lst ((left.take k).map V.str))
   have nA:A1≠L:=fun z=>by rw [z,eL] at hA1; cases hA1
   have eA:upd H4 A1 (.lst ((left.take k).map V.str)) A1=some (.lst ((left.take k).map V.str)):=upd_same
   generalize upd H4 A1 (.lst ((left.take k).map V.str))=H5 at sA eA
   refine ⟨_,rfl,_,rfl,_,_,rfl,rfl,(by show (0:Int) < 3; decide),_,_,rfl,rfl,_,rfl,L2,_,rfl,SqL.of (sA _ _ eL2),fun B1 hB1=>?_⟩
   rw [show cutV (left.map V.str) (some (1+d % 3)) none=(left.drop k).map V.str by rw [hk]; exact cut_drop left k]
   have sB:=sA.trans (same_laid hB1 (.lst ((left.drop k).map V.str)))
   have eA2:=same_laid hB1 (.lst ((left.drop k).map V.str)) _ _ eA
   have nB:B1≠L:=fun z=>by rw [z,sA _ _ eL] at hB1; cases hB1
   have eB:upd H5 B1 (.lst ((left.drop k).map V.str)) B1=some (.lst ((left.drop k).map V.str)):=upd_same
   generalize upd H5 B1 (.lst ((left.drop k).map V.str))=H6 at sB eA2 eB
   refine ⟨_,rfl,(by show 0≤sizeLine; decide),fun L4 hL4=>?_⟩
   have s7:=sB.trans (same_laid hL4 (.lst []))
   have eA3:=same_laid hL4 (.lst []) _ _ eA2
   have eB3:=same_laid hL4 (.lst []) _ _ eB
   have eN:upd H6 L4 (.lst []) L4=some (.lst []):=upd_same
   generalize upd H6 L4 (.lst [])=H7 at s7 eA3 eB3 eN
   refine ⟨A1,L4,_,rfl,rfl,SqL.of eA3,SqL.of eN,_,rfl,?_⟩
   have hws:ws.length≤8:=hw8
   have hll:left.length≤8:=by
    have:=congrArg List.length hfl
    rw [List.length_append] at this
    omega
   refine ite2 (fun c2=>?_) (fun c2=>?_)
   ·refine ⟨_,rfl,.inl ⟨rfl,_,SqL.of (s7 _ _ eL)⟩,(by show 3≤sizeLine; decide),fun L5 hL5=>?_⟩
    obtain ⟨zw,_,hat⟩:=at3 (zs:=["left","right","none"]) rfl (d / 3)
    have s8:=s7.trans (same_laid hL5 (.lst [.str "left",.str "right",.str "none"]))
    have eA4:=same_laid hL5 (.lst [.str "left",.str "right",.str "none"]) _ _ eA3
    have eB4:=same_laid hL5 (.lst [.str "left",.str "right",.str "none"]) _ _ eB3
    have e5:upd H7 L5 (.lst [.str "left",.str "right",.str "none"]) L5=some (.lst [.str "left",.str "right",.str "none"]):=upd_same
    generalize upd H7 L5 (.lst [.str "left",.str "right",.str "none"])=H8 at s8 e5 eA4 eB4
    refine ⟨_,rfl,_,_,rfl,rfl,⟨by decide,by decide⟩,_,_,rfl,rfl,(by show (0:Int) < 3; decide),L5,_,_,_,rfl,rfl,SqL.of e5,hat,_,rfl,A1,_,rfl,.inl ⟨SqL.of eA4,fun t1 ht1=>⟨(by show 2≤sizeLine; decide),fun R hR=>?_⟩⟩⟩
    have s9:=s8.trans ((same_laid ht1 _).trans (same_laid hR (.tup [.str zw,.ref t1])))
    have v1:SqT K (upd (upd H8 t1 (.tup ((left.take k).map V.str))) R (.tup [.str zw,.ref t1])) R [.str zw,.ref t1]:=SqT.of upd_same
    have v2:SqT K (upd (upd H8 t1 (.tup ((left.take k).map V.str))) R (.tup [.str zw,.ref t1])) t1 ((left.take k).map V.str):=(same_laid hR _).tup (SqT.of upd_same)
    have eB5:=same_laid hR (.tup [.str zw,.ref t1]) _ _ (same_laid ht1 (.tup ((left.take k).map V.str)) _ _ eB4)
    generalize upd (upd H8 t1 (.tup ((left.take k).map V.str))) R (.tup [.str zw,.ref t1])=H9 at s9 v1 v2 eB5
    have eL9:=s9 _ _ eL
    refine ⟨L,_,_,rfl,rfl,eL9,fits' (by rw [List.length_map]; omega),?_⟩
    refine ⟨B1,rs++[R],str++[(zw,left.take k)],left.drop k,_,_,rfl,fun b o hb=>?_,by rw [upd_same,List.map_append]; rfl,nB,by rw [upd_ne nB]; exact eB5,by rw [upd_ne nD]; exact s9 _ _ eD,Paired.snoc (hrl.keep fun b xs z=>sqt_upd eL9 (s9.tup z)) ⟨t1,sqt_upd eL9 v1,sqt_upd eL9 v2⟩,by rw [List.length_append]; simp; omega,fun ru hru=>?_,?_⟩
    ·rw [upd_ne (fun z=>by rw [z,hL] at hb; cases hb)]
     exact s9 _ _ (sm b o hb)
    ·rcases List.mem_append.mp hru with h | h
     ·exact h8 ru h
     ·rw [List.mem_singleton.mp h]
      show (left.take k).length≤8
      rw [List.length_take]; omega
    ·rw [List.flatMap_append,List.flatMap_singleton,List.append_assoc,List.take_append_drop]
     exact hfl
   ·have e0:left.take k=[]:=by
     cases hh:left.take k with
     | nil=>rfl
     | cons z r=>exact absurd (by rw [hh]; rfl) c2
    have hd0:left.drop k=left:=by
     have:=List.take_append_drop k left
     rw [e0] at this
     exact this
    refine ⟨B1,rs,str,left,_,_,rfl,sm.trans s7,s7 _ _ eL,nB,by rw [← hd0]; exact eB3,s7 _ _ eD,hrl.same s7,by omega,h8,hfl⟩
  ·rintro σ H4 ⟨L2,rs,str,left,y4,y5,rfl,sm,eL,nL,eL2,eD,hrl,hl,h8,hfl⟩
   rw [List.length_map] at hl
   refine ⟨_,rfl,q L rs str H4 sm eL hrl (by omega) h8 ?_⟩
   rw [← hfl] at hnd
   exact (List.nodup_append.mp hnd).1
end
end K11
namespace K11
open PySem L2 M11
section
variable {P:Program} {w:World} {K:PySem.W.Frag} {mg:Str→Option Value} {base:Heap} {f:Addr} {fd:FuncData}
theorem plain_refs (rs:List Addr):∀ v∈rs.map V.ref,PlainV v:=fun v hv=>by
 obtain ⟨z,_,rfl⟩:=List.mem_map.mp hv
 exact .inr ⟨_,rfl⟩
theorem paired_self {F:V→V→Prop}:∀ (xs:List V),(∀ x∈xs,F x x)→Paired F xs xs
 | [],_=>.nil
 | x::r,h=>.cons (h x List.mem_cons_self) (paired_self r fun y hy=>h y (List.mem_cons_of_mem _ hy))
theorem rules_deq {H:Hp}:∀ {rs rs2:List Addr} {rules:List Rule},Rules K H rs rules→Rules K H rs2 rules→Paired (DEq K H 2) (rs.map V.ref) (rs2.map V.ref)
 | _,_,_,.nil,.nil=>.nil
 | _,_,_,.cons ⟨p,a1,a2⟩ t,.cons ⟨p2,b1,b2⟩ t2=>.cons (.inr ⟨_,_,_,_,rfl,rfl,.inr ⟨a1,b1⟩,.cons (DEq.self (.inl rfl) 1) (.cons (.inr ⟨_,_,_,_,rfl,rfl,.inr ⟨a2,b2⟩,paired_self _ fun x hx=>DEq.self (plain_strs _ x hx) 0⟩) .nil)⟩) (rules_deq t t2)
def spTuples (K:PySem.W.Frag):Sp:=fun vs H Q _=>∃ (R R2:Addr) (rs rs2:List Addr) (rules:List Rule),vs=[.ref R,.ref R2]∧SqL K H R (rs.map V.ref)∧SqL K H R2 (rs2.map V.ref)∧Rules K H rs rules∧Rules K H rs2 rules∧(∀ ru∈rules,ru.2.length≤8) ∧
 ∀ H',Same H H'→Q (.bl true) H'
theorem scTuples:FnScope ["_law_found","_law_due","_law_one"] ["_law_found","_law_due"] (defScope sTuples):=⟨rfl,rfl,rfl,by decide +kernel,rfl,by decide +kernel,by decide +kernel⟩
theorem ok_tuples (F:Fun K "_law_tuples" "_law_tuples" sTuples f fd) (T:Txt mg):FnOk P w K mg base CX0 1 f fd ["_law_found","_law_due"] (spTuples K):=by
 refine F.ok scTuples (fun vs H Q E h=>?_) (fun cdv A outer s H vs Q E hr h=>?_)
 ·obtain ⟨R,R2,rs,rs2,rules,rfl,_⟩:=h; rfl
 ·obtain ⟨R,R2,rs,rs2,rules,rfl,hR,hR2,hrl,hrl2,h8,q⟩:=h
  have hu:=Nat.lt_of_le_of_lt (Nat.add_le_add_left (by decide:3≤64) _) hr.units
  refine ⟨_,pss_cons (ps_if (PW.pt (pw_or (pt_not (pt_val (pe_callB call_isinstL rfl T.isi PyProof.Rows.boot_isinstance (pa_cons (pv 0) (pa_cons (pe_bltn (v:=.ty "list") rfl T.lst boot_lst rfl) pa_nil)))))
    (pw_or1 (pt_cmpR (op_ne_deep 2 hu) (pv 0) (pv 1) (nomark _))))) (pss_one (ps_ret pe_bl)) pss_nil)
   (pss_cons (ps_for PassesOwn.never rfl (pi_list (pv 0)) (pg_name (i:=2) scTuples.nd rfl (Or.inl rfl))
    (pss_cons (ps_if (PW.pt (pw_or (pt_not (pt_val (pe_callB call_isinst rfl T.isi PyProof.Rows.boot_isinstance (pa_cons (pv 2) (pa_cons (pe_bltn (v:=.ty "tuple") rfl T.tup PyProof.Rows.boot_tuple rfl) pa_nil)))))
     (pw_or (pt_not (pt_val (pe_callB call_isinst rfl T.isi PyProof.Rows.boot_isinstance (pa_cons (pe_ix ix_tup (pv 2) pe_int (fun _ _=>rfl)) (pa_cons (pe_bltn (v:=.ty "str") rfl T.str boot_txt rfl) pa_nil)))))
     (pw_or1 (pt_not (pt_val (pe_callB call_isinst rfl T.isi PyProof.Rows.boot_isinstance (pa_cons (pe_ix ix_tup (pv 2) pe_int (fun _ _=>rfl)) (pa_cons (pe_bltn (v:=.ty "tuple") rfl T.tup PyProof.Rows.boot_tuple rfl) pa_nil))))))))) (pss_one (ps_ret pe_bl)) pss_nil)
    (pss_one (ps_if (pt_not (pt_val (pe_callB (call_allT rfl) rfl T.all boot_all (pa_cons (pe_comp rfl (pi_tup (pe_ix ix_tup (pv 2) pe_int (fun _ _=>rfl))) (by decide +kernel) (by decide +kernel) rfl (by decide +kernel) (by decide +kernel) (fun _ _ _ _=>pif_nil)
     (fun _ _ _ _=>pe_callB (call_isinstK K) rfl T.isi PyProof.Rows.boot_isinstance (pa_cons (pv 0) (pa_cons (pe_bltn (v:=.ty "str") rfl T.str boot_txt rfl) pa_nil)))) pa_nil)))) (pss_one (ps_ret pe_bl)) pss_nil))))
   (pss_one (ps_ret pe_bl))),?_⟩
  refine ⟨_,rfl,R,_,"list",true,rfl,hR,kit_self,true,rfl,?_⟩
  refine iteF ?_
  refine ⟨_,rfl,_,rfl,R,R2,_,_,rfl,rfl,hR,hR2,rules_deq hrl hrl2,false,rfl,?_⟩
  refine iteF ?_
  refine ⟨_,rfl,R,rfl,⟨_,hR⟩,for_list (xs:=rs.map V.ref) (fun i σ H2=>(∃ y,σ=[some (.ref R),some (.ref R2),y])∧Same H H2) ⟨⟨none,rfl⟩,fun _ _ h=>h⟩ ?_ ?_ ?_⟩
  ·rintro i σ H2 _ ⟨_,sm⟩
   exact sm.seq hR
  ·rintro i x σ H2 ex ⟨⟨y,rfl⟩,sm⟩
   rw [List.getElem?_map] at ex
   obtain ⟨r,er,rfl⟩:=Option.map_eq_some_iff.mp ex
   obtain ⟨ru,e1,p,v1,v2⟩:=hrl.get er
   have t1:=sm.tup v1
   have t2:=sm.tup v2
   have l8:=h8 ru (List.mem_of_getElem? e1)
   refine goN ?_
   refine ⟨_,rfl,.ref r,"tuple","tuple",true,rfl,.tup t1,kit_self,true,rfl,?_⟩
   refine iteF ?_
   refine ⟨_,rfl,r,_,0,_,rfl,rfl,t1,rfl,.str ru.1,"str","str",true,rfl,.str _,kit_self,true,rfl,?_⟩
   refine iteF ?_
   refine ⟨_,rfl,r,_,1,_,rfl,rfl,t1,rfl,.ref p,"tuple","tuple",true,rfl,.tup t2,kit_self,true,rfl,?_⟩
   refine iteF ?_
   refine ⟨_,rfl,r,_,1,_,rfl,rfl,t1,rfl,p,rfl,⟨_,t2⟩,fun D hD=>comp_tup (xs:=ru.2.map V.str) (fun i ys H3=>ys=List.replicate i (V.bl true)∧Same H2 H3∧H3 D=some (.lst ys)) ⟨rfl,same_laid hD _,upd_same⟩ (fun i ys H3 _ h=>h.2.1.tup t2) (fun i x ys H3 ex h=>?_) (fun ys H3 h=>?_)⟩
   ·obtain ⟨rfl,sm3,hd⟩:=h
    have li:=(List.getElem?_eq_some_iff.mp ex).1
    rw [List.length_map] at li
    rw [List.getElem?_map] at ex
    obtain ⟨z,_,rfl⟩:=Option.map_eq_some_iff.mp ex
    refine goT ?_
    refine ⟨_,rfl,.str z,"str","str",true,rfl,.str z,kit_self,hd,fits' (by rw [List.length_replicate]; omega),List.replicate_succ'.symm,?_,upd_same⟩
    intro b' o hb'
    rw [upd_ne (fun e=>by rw [e,hD] at hb'; cases hb')]
    exact sm3 b' o hb'
   ·obtain ⟨rfl,sm3,hd⟩:=h
    refine ⟨D,_,rfl,SqL.of hd,true,rfl,?_⟩
    refine iteF ?_
    exact ⟨⟨_,rfl⟩,sm.trans sm3⟩
  ·rintro σ H2 ⟨_,sm⟩
   exact q H2 sm
end
end K11
namespace K11
open PySem L2 M11
section
variable {P:Program} {w:World} {K:PySem.W.Frag} {mg:Str→Option Value} {base:Heap} {f:Addr} {fd:FuncData}
theorem Kp.gr {H0 H H':Hp} (k:Kp H H') {Cg g bt:Addr} {rs ss:List Addr} (h:GrV H0 H Cg g rs ss bt):GrV H0 H' Cg g rs ss bt:=by
 obtain ⟨gx,fs,R2,S2,e1,l1,l2,l3,l4,e2,e3,f1,f2⟩:=h
 exact ⟨gx,fs,R2,S2,k _ _ e1 (fun _ z=>by cases z),l1,l2,l3,l4,k.lst e2,k.lst e3,f1,f2⟩
theorem Kp.free {H H':Hp} (k:Kp H H') {a:Addr} (h:H' a=none) {o:HO} (e:H a=some o) (n:∀ ps,o≠.tbl ps):False:=by
 rw [k a o e n] at h; cases h
theorem GrV.cleared {H0 H:Hp} {Cg g bt L:Addr} {rs ss:List Addr} {xs ys:List V} (h:GrV H0 H Cg g rs ss bt) (h0:H0 L=some (.lst xs)) (hL:H L=some (.lst ys)):GrV H0 (upd H L (.lst [])) Cg g rs ss bt:=by
 obtain ⟨gx,fs,R2,S2,e1,l1,l2,l3,l4,e2,e3,f1,f2⟩:=h
 refine ⟨gx,fs,R2,S2,?_,l1,l2,l3,l4,?_,?_,f1,f2⟩
 ·rw [upd_ne (fun z=>by rw [z,hL] at e1; cases e1)]; exact e1
 ·rw [upd_ne (fun z=>by rw [z,h0] at f1; cases f1)]; exact e2
 ·rw [upd_ne (fun z=>by rw [z,h0] at f2; cases f2)]; exact e3
theorem cut_mid (ns:List Str) (i j:Nat) (hj:j≤ns.length) (hi:i≤j):cutV (ns.map V.str) (some (i:Int)) (some (j:Int))=((ns.drop i).take (j - i)).map V.str:=by
 unfold cutV
 rw [HT.sIx_nat,HT.sIx_nat,List.length_map,Nat.min_eq_left hj,Nat.min_eq_left (show i≤ns.length by omega),← List.map_drop,← List.map_take]
theorem cut_len (xs:List V) (i j:Nat):(cutV xs (some (i:Int)) (some (j:Int))).length≤j - i:=by
 unfold cutV
 rw [HT.sIx_nat,HT.sIx_nat,List.length_take,List.length_drop]
 omega
theorem made_one {x y:Str} (n:x≠y):Made [x] [y] [(x,[y])] where
 nd:=by simp
 pos:=by simp
 le:=by simp
 dj z hz hw:=n (by rw [← List.mem_singleton.mp hz,← List.mem_singleton.mp hw])
 first i m hm:=by
  have li:=(List.getElem?_eq_some_iff.mp hm).1
  have:i=0:=by simpa using li
  subst this
  cases hm
  exact ⟨[y],rfl,.inr ⟨by simp,by simp,fun _ h=>h⟩⟩
 all ru hru:=by
  rw [List.mem_singleton.mp hru]
  exact ⟨0,rfl,.inl (.inr ⟨by simp,by simp,fun _ h=>h⟩)⟩
def spLaw (K:PySem.W.Frag) (T1 T2 T3:Addr):Sp:=fun vs H Q _=>∃ (a:Addr) (ns:List Int),vs=[.ref a]∧SqL K H a (ns.map V.int)∧ns.length≤63∧Tb3 T1 T2 T3 H∧∀ H',Q (.bl true) H'
theorem scLaw:FnScope ["_law_script","_law_pool_here","_law_cell","_law_names","_law_rules_here","_law_strengths_here","_law_handed","_law_grammar","_law_plain","_law_beside"] ["_law_script"] (defScope sLaw):=⟨rfl,rfl,rfl,by decide +kernel,rfl,by decide +kernel,by decide +kernel⟩
theorem ok_law {Cg C T1 T2 T3 fG fS:Addr} {fdG fdS:FuncData} (F:Fun K "law" "law" sLaw f fd) (T:Txt mg) (GC1:CalleeD P w K mg base 8 "_law_cell_at" ["_law_script","_law_k"] (spCell K)) (GP:CalleeD P w K mg base 8 "_law_pool" ["_law_cell","_law_many"] spPool)
  (GR:CalleeD P w K mg base 8 "_law_rules" ["_law_cell","_law_names","_law_words","_law_cells"] (spRules K)) (GSt:CalleeD P w K mg base 8 "_law_strengths" ["_law_cell","_law_words"] (spStr K)) (GT:CalleeD P w K mg base 8 "_law_tuples" ["_law_found","_law_due"] (spTuples K))
  (G:GC K Cg) (MG:Mk K Cg fG) (FG:FnOk P w K mg base CX0 7 fG fdG ["self","rules","strengths"] (spGInit K Cg C T1 T2 T3)) (B0:Binds K fdG ["self","rules","strengths"] []) (B1:Binds K fdG ["self","rules","strengths"] [.none]) (mG:mg "Grammar"=some (.ref Cg))
  (MS:Meth K Cg "start" fS) (FS:FnOk P w K mg base CX0 8 fS fdS ["self"] (spStart K Cg)) (BS:Binds K fdS ["self"] []):FnOk P w K mg base CX0 9 f fd ["_law_script"] (spLaw K T1 T2 T3):=by
 refine F.ok scLaw (fun vs H Q E h=>?_) (fun cdv A outer s H vs Q E hr h=>?_)
 ·obtain ⟨a,ns,rfl,_⟩:=h; rfl
 ·obtain ⟨a,ns,rfl,hS,hl,hT,q⟩:=h
  have hu:=Nat.lt_of_succ_lt (hu_of hr)
  have hu2:=Nat.lt_of_le_of_lt (Nat.add_le_add_left (by decide:2≤64) _) hr.units
  refine ⟨_,pss_cons (ps_set (i:=1) scLaw.nd rfl (Or.inl rfl) (pe_fn GP hr rfl (pa_cons (pe_fn GC1 hr rfl (pa_cons (pv 0) (pa_cons pe_int pa_nil))) (pa_cons pe_int pa_nil))))
   (pss_cons (ps_set (i:=2) scLaw.nd rfl (Or.inl rfl) (pe_fn GC1 hr rfl (pa_cons (pv 0) (pa_cons pe_int pa_nil))))
   (pss_cons (ps_set (i:=3) scLaw.nd rfl (Or.inl rfl) (pe_slice sl_list (pv 1) po_none (po_some (pe_op op_add pe_int (pe_op op_mod (pv 2) pe_int)))))
   (pss_cons (ps_set (i:=4) scLaw.nd rfl (Or.inl rfl) (pe_fn GR hr rfl (pa_cons (pe_op op_fdiv (pv 2) pe_int) (pa_cons (pv 3) (pa_cons (pe_slice sl_list (pv 1) (po_some pe_int) (po_some pe_int)) (pa_cons (pe_slice sl_list (pv 0) (po_some pe_int) (po_some pe_int)) pa_nil))))))
   (pss_cons (ps_set (i:=5) scLaw.nd rfl (Or.inl rfl) (pe_fn GSt hr rfl (pa_cons (pe_op op_fdiv (pv 2) pe_int) (pa_cons (pe_slice sl_list (pv 1) (po_some pe_int) po_none) pa_nil))))
   (pss_cons (ps_set (i:=6) scLaw.nd rfl (Or.inl rfl) (pe_lst (pa_cons (pe_callTy call_list_of rfl T.lst boot_lst (pa_cons (pv 4) pa_nil)) (pa_cons (pe_callTy call_list_of rfl T.lst boot_lst (pa_cons (pv 5) pa_nil)) pa_nil))))
   (pss_cons (ps_set (i:=7) scLaw.nd rfl (Or.inl rfl) (pe_make MG FG hr rfl mG B0 .nil pass0 (pa_cons (pe_ix ix_list (pv 6) pe_int (fun _ _=>rfl)) (pa_cons (pe_ix ix_list (pv 6) pe_int (fun _ _=>rfl)) pa_nil))))
   (pss_cons (ps_set (i:=8) scLaw.nd rfl (Or.inl rfl) (pe_make (dvs:=[.non]) MG FG hr rfl mG B1 (.cons rfl .nil) pass0 (pa_cons (pv 4) pa_nil)))
   (pss_cons (ps_set (i:=9) scLaw.nd rfl (Or.inl rfl) (pe_make MG FG hr rfl mG B0 .nil pass0 (pa_cons (pe_lst (pa_cons (pe_tup (pa_cons (pe_ix ix_list (pv 1) pe_int (fun _ _=>rfl)) (pa_cons (pe_tup (pa_cons (pe_ix ix_list (pv 1) pe_int (fun _ _=>rfl)) pa_nil)) pa_nil))) pa_nil)) (pa_cons pe_non pa_nil))))
   (pss_cons (ps_if (pt_cmpR (op_ne_deep 1 hu2) (pv 6) (pe_lst (pa_cons (pv 4) (pa_cons (pv 5) pa_nil))) (nomark _)) (pss_one (ps_ret pe_bl)) pss_nil)
   (pss_cons (ps_expr (pe_bm0 PySem.F.plainAttrs_list PySem.F.slot_list_clear PySem.F.type_list_clear mt_clear (pe_ix ix_list (pv 6) pe_int (fun _ _=>rfl))))
   (pss_cons (ps_expr (pe_bm0 PySem.F.plainAttrs_list PySem.F.slot_list_clear PySem.F.type_list_clear mt_clear (pe_ix ix_list (pv 6) pe_int (fun _ _=>rfl))))
   (pss_cons (ps_if (PW.pt (pw_or (pt_not (pt_val (pe_fn GT hr rfl (pa_cons (pe_fld (pv 7) rfl) (pa_cons (pv 4) pa_nil))))) (pw_or1 (pt_not (pt_val (pe_fn GT hr rfl (pa_cons (pe_fld (pv 7) rfl) (pa_cons (pv 5) pa_nil)))))))) (pss_one (ps_ret pe_bl)) pss_nil)
   (pss_cons (ps_if (PW.pt (pw_or (pt_not (pt_val (pe_fn GT hr rfl (pa_cons (pe_fld (pv 8) rfl) (pa_cons (pv 4) pa_nil))))) (pw_or1 (pt_not (pt_val (pe_fn GT hr rfl (pa_cons (pe_fld (pv 8) rfl) (pa_cons (pe_lst pa_nil) pa_nil)))))))) (pss_one (ps_ret pe_bl)) pss_nil)
   (pss_cons (ps_if (PW.pt (pw_or (pt_not (pt_val (pe_fn GT hr rfl (pa_cons (pe_fld (pv 9) rfl) (pa_cons (pe_lst (pa_cons (pe_tup (pa_cons (pe_ix ix_list (pv 1) pe_int (fun _ _=>rfl)) (pa_cons (pe_tup (pa_cons (pe_ix ix_list (pv 1) pe_int (fun _ _=>rfl)) pa_nil)) pa_nil))) pa_nil)) pa_nil))))) (pw_or1 (pt_cmpR (op_ne_nil hu) (pe_fld (pv 9) rfl) (pe_lst pa_nil) (nomark _))))) (pss_one (ps_ret pe_bl)) pss_nil)
   (pss_one (ps_ret (pe_cmpR (op_eq_same hu) (pe_lst (pa_cons (pe_meth0 (pv 7) G.cls MS FS hr BS .nil pass0) (pa_cons (pe_meth0 (pv 8) G.cls MS FS hr BS .nil pass0) (pa_cons (pe_meth0 (pv 9) G.cls MS FS hr BS .nil pass0) pa_nil)))) (pe_lst (pa_cons (pe_ix ix_list (pv 3) pe_int (fun _ _=>rfl)) (pa_cons (pe_ix ix_list (pv 3) pe_int (fun _ _=>rfl)) (pa_cons (pe_ix ix_list (pv 1) pe_int (fun _ _=>rfl)) pa_nil)))) (nomark _)))))))))))))))))),?_⟩
  refine ⟨_,rfl,a,ns,0,rfl,hS,by omega,fun c0=>⟨c0,14,rfl,by decide,fun PL zs H1 fP s1 e1 l1 _ nd1=>?_⟩⟩
  refine ⟨_,rfl,a,ns,1,rfl,s1.seq hS,by omega,fun c=>?_⟩
  obtain ⟨k,hk⟩:∃ k:Nat,1+c % 4=(k:Int):=⟨(1+c % 4).toNat,by omega⟩
  have hk1:1≤k∧k≤4:=by omega
  refine ⟨_,rfl,_,rfl,_,_,rfl,rfl,(by show (0:Int) < 4; decide),_,_,rfl,rfl,_,rfl,PL,_,rfl,SqL.of e1,fun N hN=>?_⟩
  rw [show cutV (zs.map V.str) none (some (1+c % 4))=(zs.take k).map V.str by rw [hk]; exact cut_take zs k]
  have s2:=s1.trans (same_laid hN (.lst ((zs.take k).map V.str)))
  have eP2:=same_laid hN (.lst ((zs.take k).map V.str)) _ _ e1
  have eN2:upd H1 N (.lst ((zs.take k).map V.str)) N=some (.lst ((zs.take k).map V.str)):=upd_same
  generalize upd H1 N (.lst ((zs.take k).map V.str))=H2 at s2 eP2 eN2
  refine ⟨_,rfl,_,_,rfl,rfl,⟨by decide,by decide⟩,_,rfl,_,rfl,_,rfl,_,rfl,PL,_,rfl,SqL.of eP2,fun W hW=>?_⟩
  rw [show cutV (zs.map V.str) (some 4) (some 8)=((zs.drop 4).take 4).map V.str from cut_mid zs 4 8 (by omega) (by decide)]
  have s3:=s2.trans (same_laid hW (.lst (((zs.drop 4).take 4).map V.str)))
  have eP3:=same_laid hW (.lst (((zs.drop 4).take 4).map V.str)) _ _ eP2
  have eN3:=same_laid hW (.lst (((zs.drop 4).take 4).map V.str)) _ _ eN2
  have eW3:upd H2 W (.lst (((zs.drop 4).take 4).map V.str)) W=some (.lst (((zs.drop 4).take 4).map V.str)):=upd_same
  generalize upd H2 W (.lst (((zs.drop 4).take 4).map V.str))=H3 at s3 eP3 eN3 eW3
  obtain ⟨cs,ec,_,hcl⟩:=cut_ints ns (some 2) (some 22)
  have hcl2:cs.length≤20:=by
   have h1:=congrArg List.length ec
   have h2:(cutV (ns.map V.int) (some 2) (some 22)).length≤22 - 2:=cut_len (ns.map V.int) 2 22
   rw [List.length_map] at h1
   omega
  refine ⟨_,rfl,_,rfl,_,rfl,a,_,rfl,s3.seq hS,fun Cs hCs=>?_⟩
  rw [ec]
  have s4:=s3.trans (same_laid hCs (.lst (cs.map V.int)))
  have eP4:=same_laid hCs (.lst (cs.map V.int)) _ _ eP3
  have eN4:=same_laid hCs (.lst (cs.map V.int)) _ _ eN3
  have eW4:=same_laid hCs (.lst (cs.map V.int)) _ _ eW3
  have eC4:upd H3 Cs (.lst (cs.map V.int)) Cs=some (.lst (cs.map V.int)):=upd_same
  generalize upd H3 Cs (.lst (cs.map V.int))=H4 at s4 eP4 eN4 eW4 eC4
  have ndt:(zs.take k).Nodup:=nd1.sublist (List.take_sublist _ _)
  have dj:∀ x∈zs.take k,x∉(zs.drop 4).take 4:=by
   intro x hx hw
   obtain ⟨i,hi⟩:=List.getElem?_of_mem hx
   obtain ⟨j,hj⟩:=List.getElem?_of_mem hw
   have li:=(List.getElem?_eq_some_iff.mp hi).1
   rw [List.length_take] at li
   rw [List.getElem?_take_of_lt (by omega)] at hi
   have lj:=(List.getElem?_eq_some_iff.mp hj).1
   rw [List.length_take] at lj
   rw [List.getElem?_take_of_lt (by omega),List.getElem?_drop] at hj
   have h1:=ixN_at nd1 hi
   have h2:=ixN_at nd1 hj
   omega
  refine ⟨c / 4,N,W,Cs,zs.take k,(zs.drop 4).take 4,cs,rfl,eN4,eW4,SqL.of eC4,by rw [List.length_take,List.length_drop]; omega,by rw [List.length_take]; omega,by rw [List.length_take]; omega,ndt,dj,by omega,fun R rs rules H5 s5 eR rl5 M lr h8=>?_⟩
  have s05:=s4.trans s5
  have eP5:=s5 _ _ eP4
  have eN5:=s5 _ _ eN4
  clear eC4 eW4 eW3 eP4 eN4 eP3 eN3 eP2 eN2
  refine ⟨_,rfl,_,_,rfl,rfl,⟨by decide,by decide⟩,_,rfl,_,rfl,PL,_,rfl,SqL.of eP5,fun W2 hW2=>?_⟩
  rw [show cutV (zs.map V.str) (some 6) none=(zs.drop 6).map V.str from cut_drop zs 6]
  have s6:=s05.trans (same_laid hW2 (.lst ((zs.drop 6).map V.str)))
  have k6:=same_laid hW2 (.lst ((zs.drop 6).map V.str))
  have eW6:upd H5 W2 (.lst ((zs.drop 6).map V.str)) W2=some (.lst ((zs.drop 6).map V.str)):=upd_same
  generalize upd H5 W2 (.lst ((zs.drop 6).map V.str))=H6 at s6 k6 eW6
  refine ⟨c / 4,W2,zs.drop 6,rfl,SqL.of eW6,by rw [List.length_drop]; omega,nd1.sublist (List.drop_sublist _ _),fun S ss str H7 s7 eS sl7 lstr hs8 hsd=>?_⟩
  have k7:=k6.trans s7
  have s07:=s6.trans s7
  have eP7:=k7 _ _ eP5
  have eN7:=k7 _ _ eN5
  have eR7:=k7 _ _ eR
  have rl7:=rl5.same k7
  refine ⟨_,rfl,R,_,rfl,.inl (SqL.of eR7),fun L1 hL1=>?_⟩
  have k8:=same_laid hL1 (.lst (rs.map V.ref))
  have nL1:∀ b o,H7 b=some o→b≠L1:=fun b o h z=>by rw [z,hL1] at h; cases h
  have eL18:upd H7 L1 (.lst (rs.map V.ref)) L1=some (.lst (rs.map V.ref)):=upd_same
  generalize upd H7 L1 (.lst (rs.map V.ref))=H8 at k8 eL18
  refine ⟨_,rfl,S,_,rfl,.inl (SqL.of (k8 _ _ eS)),fun L2 hL2=>?_⟩
  have nL12:L2≠L1:=fun z=>by rw [z,eL18] at hL2; cases hL2
  have k9:=k8.trans (same_laid hL2 (.lst (ss.map V.ref)))
  have nL2:∀ b o,H7 b=some o→b≠L2:=fun b o h z=>by rw [z] at h; rw [k8 _ _ h] at hL2; cases hL2
  have eL19:=same_laid hL2 (.lst (ss.map V.ref)) _ _ eL18
  have eL29:upd H8 L2 (.lst (ss.map V.ref)) L2=some (.lst (ss.map V.ref)):=upd_same
  generalize upd H8 L2 (.lst (ss.map V.ref))=H9 at k9 eL19 eL29
  refine ⟨(by show 2≤sizeLine; decide),fun Hd hHd=>?_⟩
  have kA:=same_laid hHd (.lst [.ref L1,.ref L2])
  have eHd:upd H9 Hd (.lst [.ref L1,.ref L2]) Hd=some (.lst [.ref L1,.ref L2]):=upd_same
  have nHd1:Hd≠L1:=fun z=>by rw [z,eL19] at hHd; cases hHd
  have nHd2:Hd≠L2:=fun z=>by rw [z,eL29] at hHd; cases hHd
  generalize upd H9 Hd (.lst [.ref L1,.ref L2])=HA at kA eHd
  have k7A:=k9.trans kA
  have eL1:=kA _ _ eL19
  have eL2:=kA _ _ eL29
  have rlA:=rl7.same k7A
  have slA:=sl7.same k7A
  have tA:=hT.same (s07.trans k7A)
  have hne:rules≠[]:=fun z=>by
   obtain ⟨n0,hn0⟩:∃ n0,(zs.take k)[0]?=some n0:=⟨(zs.take k)[0]'(by rw [List.length_take]; omega),List.getElem?_eq_getElem _⟩
   obtain ⟨ps,e,_⟩:=M.first 0 n0 hn0
   rw [z] at e; cases e
  refine ⟨_,rfl,Hd,_,_,_,rfl,rfl,SqL.of eHd,(show atI [V.ref L1,V.ref L2] 0=some (.ref L1) from rfl),_,rfl,Hd,_,_,_,rfl,rfl,SqL.of eHd,(show atI [V.ref L1,V.ref L2] 1=some (.ref L2) from rfl),fun g1 x1 hg1 hx1 nx1=>?_⟩
  refine ⟨HA,g1,x1,L1,.ref L2,rs,ss,rules,str,_,_,rfl,(same_laid hx1 _).trans (same_laid (by rw [upd_ne nx1.symm]; exact hg1) _),hg1,upd_same,SqL.of eL1,rlA,lr,h8,hne,.inr ⟨L2,rfl,SqL.of eL2,slA⟩,by omega,hs8,hsd,M.good,tA,fun bt1 HB sB tB gv1=>⟨rfl,?_⟩⟩
  have kB:=Kp.of3 sB tA
  clear sB
  refine ⟨_,rfl,fun g2 x2 hg2 hx2 nx2=>?_⟩
  have eRB:=kB.lst (k7A _ _ eR7)
  refine ⟨HB,g2,x2,R,.non,rs,[],rules,[],_,_,rfl,(same_laid hx2 _).trans (same_laid (by rw [upd_ne nx2.symm]; exact hg2) _),hg2,upd_same,SqL.of eRB,kB.rules rlA,lr,h8,hne,.inl ⟨rfl,rfl,rfl⟩,by simp,fun ru h=>(by cases h),by simp,M.good,tB,fun bt2 HC sC tC gv2=>⟨rfl,?_⟩⟩
  have kC:=Kp.of3 sC tB
  clear sC
  have ePC:=(kB.trans kC).lst (k7A _ _ eP7)
  obtain ⟨z9,hz9⟩:∃ z,zs[9]?=some z:=⟨zs[9]'(by omega),List.getElem?_eq_getElem (by omega)⟩
  obtain ⟨z10,hz10⟩:∃ z,zs[10]?=some z:=⟨zs[10]'(by omega),List.getElem?_eq_getElem (by omega)⟩
  have at9:atI (zs.map V.str) 9=some (.str z9):=atI_nat (j:=9) (by rw [List.getElem?_map,hz9]; rfl)
  have at10:atI (zs.map V.str) 10=some (.str z10):=atI_nat (j:=10) (by rw [List.getElem?_map,hz10]; rfl)
  have n910:z9≠z10:=fun z=>by
   have h1:=ixN_at nd1 hz9
   have h2:=ixN_at nd1 hz10
   rw [z] at h1
   omega
  refine ⟨_,rfl,PL,_,_,_,rfl,rfl,SqL.of ePC,at9,_,rfl,PL,_,_,_,rfl,rfl,SqL.of ePC,at10,(by show 1≤sizeLine; decide),fun p1 hp1=>⟨(by show 2≤sizeLine; decide),fun r1 hr1=>⟨(by show 1≤sizeLine; decide),fun B1l hB1l=>?_⟩⟩⟩
  have kD:=(same_laid hp1 (.tup [.str z10])).trans ((same_laid hr1 (.tup [.str z9,.ref p1])).trans (same_laid hB1l (.lst [.ref r1])))
  have vD:Rules K (upd (upd (upd HC p1 (.tup [.str z10])) r1 (.tup [.str z9,.ref p1])) B1l (.lst [.ref r1])) [r1] [(z9,[z10])]:=.cons ⟨p1,(same_laid hB1l _).tup (SqT.of upd_same),((same_laid hr1 _).trans (same_laid hB1l _)).tup (SqT.of upd_same)⟩ .nil
  have eBl:upd (upd (upd HC p1 (.tup [.str z10])) r1 (.tup [.str z9,.ref p1])) B1l (.lst [.ref r1]) B1l=some (.lst [.ref r1]):=upd_same
  generalize upd (upd (upd HC p1 (.tup [.str z10])) r1 (.tup [.str z9,.ref p1])) B1l (.lst [.ref r1])=HD at kD vD eBl
  intro g3 x3 hg3 hx3 nx3
  refine ⟨HD,g3,x3,B1l,.non,[r1],[],[(z9,[z10])],[],_,_,rfl,(same_laid hx3 _).trans (same_laid (by rw [upd_ne nx3.symm]; exact hg3) _),hg3,upd_same,SqL.of eBl,vD,by simp,fun ru h=>(by rw [List.mem_singleton.mp h]; show 1≤8; decide),by simp,.inl ⟨rfl,rfl,rfl⟩,by simp,fun ru h=>(by cases h),by simp,(made_one n910).good,tC.same kD,fun bt3 HE sE tE gv3=>⟨rfl,?_⟩⟩
  have kE:=Kp.of3 sE (tC.same kD)
  have kCE:Kp HC HE:=(Kp.of kD).trans kE
  have kBE:Kp HB HE:=kC.trans kCE
  have kAE:Kp HA HE:=kB.trans kBE
  have k7E:Kp H7 HE:=(Kp.of k7A).trans kAE
  have vE:=kE.rules vD
  clear sE tE tC tB tA
  have gw1:=kBE.gr gv1
  have gw2:=kCE.gr gv2
  have ePE:=k7E.lst eP7
  have eNE:=k7E.lst eN7
  have eRE:=k7E.lst eR7
  have eSE:=k7E.lst eS
  have eL1E:=kAE.lst eL1
  have eL2E:=kAE.lst eL2
  have eHdE:=kAE.lst eHd
  have rlE:=kAE.rules rlA
  have slE:=kAE.rules slA
  have l1B:=kB.lst eL1
  have l2B:=kB.lst eL2
  have l1D:=kD _ _ (kC.lst l1B)
  have l2D:=kD _ _ (kC.lst l2B)
  clear kD kC kB vD eBl
  refine ⟨_,rfl,_,rfl,_,rfl,(by show 2≤sizeLine; decide),fun L9 hL9=>?_⟩
  have kF:=same_laid hL9 (.lst [.ref R,.ref S])
  have e9:upd HE L9 (.lst [.ref R,.ref S]) L9=some (.lst [.ref R,.ref S]):=upd_same
  generalize upd HE L9 (.lst [.ref R,.ref S])=HF at kF e9
  have dq:∀ (x y:Addr) (zs:List Addr),SqL K HF x (zs.map V.ref)→SqL K HF y (zs.map V.ref)→DEq K HF 1 (.ref x) (.ref y):=fun x y zs h1 h2=>.inr ⟨x,y,_,_,rfl,rfl,.inl ⟨h1,h2⟩,paired_self _ fun v hv=>DEq.self (plain_refs _ v hv) 0⟩
  refine ⟨Hd,L9,_,_,rfl,rfl,SqL.of (kF _ _ eHdE),SqL.of e9,.cons (dq L1 R rs (SqL.of (kF _ _ eL1E)) (SqL.of (kF _ _ eRE))) (.cons (dq L2 S ss (SqL.of (kF _ _ eL2E)) (SqL.of (kF _ _ eSE))) .nil),false,rfl,?_⟩
  refine iteF ?_
  refine ⟨_,rfl,Hd,_,_,_,rfl,rfl,SqL.of (kF _ _ eHdE),(show atI [V.ref L1,V.ref L2] 0=some (.ref L1) from rfl),.inl ⟨rfl,_,SqL.of (kF _ _ eL1E)⟩,L1,_,rfl,rfl,kF _ _ eL1E,?_⟩
  have eHdG:upd HF L1 (.lst []) Hd=some (.lst [.ref L1,.ref L2]):=by rw [upd_ne nHd1]; exact kF _ _ eHdE
  have eL2G:upd HF L1 (.lst []) L2=some (.lst (ss.map V.ref)):=by rw [upd_ne nL12]; exact kF _ _ eL2E
  refine ⟨_,rfl,Hd,_,_,_,rfl,rfl,SqL.of eHdG,(show atI [V.ref L1,V.ref L2] 1=some (.ref L2) from rfl),.inl ⟨rfl,_,SqL.of eL2G⟩,L2,_,rfl,rfl,eL2G,?_⟩
  have kF':=Kp.of kF
  have go1:=((kF'.gr gw1).cleared eL1 (kF _ _ eL1E)).cleared eL2 eL2G
  have go2:=((kF'.gr gw2).cleared l1B (kF _ _ eL1E)).cleared l2B eL2G
  have go3:=((kF'.gr gv3).cleared l1D (kF _ _ eL1E)).cleared l2D eL2G
  have keep:∀ b xs,H7 b=some (.lst xs)→upd (upd HF L1 (.lst [])) L2 (.lst []) b=some (.lst xs):=fun b xs h=>by
   rw [upd_ne (nL2 _ _ h),upd_ne (nL1 _ _ h)]
   exact kF _ _ (k7E.lst h)
  have ePG:=keep _ _ eP7
  have eNG:=keep _ _ eN7
  have eRG:=keep _ _ eR7
  have eSG:=keep _ _ eS
  have rkeep:∀ {as:List Addr} {rus:List Rule},Rules K HE as rus→Rules K (upd (upd HF L1 (.lst [])) L2 (.lst [])) as rus:=fun h=>h.keep fun b xs z=>sqt_upd eL2G (sqt_upd (kF _ _ eL1E) (kF.tup z))
  have rlG:=rkeep rlE
  have slG:=rkeep slE
  have vG:=rkeep vE
  generalize upd (upd HF L1 (.lst [])) L2 (.lst [])=HG at go1 go2 go3 ePG eNG eRG eSG rlG slG vG
  obtain ⟨y1,fs1,R1,S1,eg1,lr1,ls1,lb1,lt1,er1,es1,_,_⟩:=id go1
  obtain ⟨y2,fs2,R2,S2,eg2,lr2,ls2,lb2,lt2,er2,es2,_,_⟩:=id go2
  obtain ⟨y3,fs3,R3,S3,eg3,lr3,ls3,lb3,lt3,er3,es3,_,_⟩:=id go3
  have h81:∀ ru∈[(z9,[z10])],ru.2.length≤8:=fun ru h=>(by rw [List.mem_singleton.mp h]; show 1≤8; decide)
  refine ⟨_,rfl,g1,Cg,y1,fs1,_,rfl,eg1,G.cls,G.a1,lr1,_,rfl,R1,R,rs,rs,rules,rfl,SqL.of er1,SqL.of eRG,rlG,rlG,h8,fun J1 j1=>⟨true,rfl,?_⟩⟩
  refine iteF ?_
  refine ⟨_,rfl,g1,Cg,y1,fs1,_,rfl,j1 _ _ eg1,G.cls,G.a2,ls1,_,rfl,S1,S,ss,ss,str,rfl,SqL.of (j1 _ _ es1),SqL.of (j1 _ _ eSG),slG.same j1,slG.same j1,hs8,fun J2 j2'=>⟨true,rfl,?_⟩⟩
  have j2:=j1.trans j2'
  refine iteF ?_
  refine ⟨_,rfl,g2,Cg,y2,fs2,_,rfl,j2 _ _ eg2,G.cls,G.a1,lr2,_,rfl,R2,R,rs,rs,rules,rfl,SqL.of (j2 _ _ er2),SqL.of (j2 _ _ eRG),rlG.same j2,rlG.same j2,h8,fun J3 j3'=>⟨true,rfl,?_⟩⟩
  have j3:=j2.trans j3'
  refine iteF ?_
  refine ⟨_,rfl,g2,Cg,y2,fs2,_,rfl,j3 _ _ eg2,G.cls,G.a2,ls2,(by show 0≤sizeLine; decide),fun E1 hE1=>?_⟩
  have j4:=j3.trans (same_laid hE1 (.lst []))
  refine ⟨S2,E1,[],[],[],rfl,SqL.of (j4 _ _ es2),SqL.of upd_same,.nil,.nil,fun ru h=>(by cases h),fun J5 j5'=>⟨true,rfl,?_⟩⟩
  have j5:=j4.trans j5'
  refine iteF ?_
  refine ⟨_,rfl,g3,Cg,y3,fs3,_,rfl,j5 _ _ eg3,G.cls,G.a1,lr3,_,rfl,PL,_,_,_,rfl,rfl,SqL.of (j5 _ _ ePG),at9,_,rfl,PL,_,_,_,rfl,rfl,SqL.of (j5 _ _ ePG),at10,(by show 1≤sizeLine; decide),fun p2 hp2=>⟨(by show 2≤sizeLine; decide),fun r2 hr2=>⟨(by show 1≤sizeLine; decide),fun B2l hB2l=>?_⟩⟩⟩
  have kD:=(same_laid hp2 (.tup [.str z10])).trans ((same_laid hr2 (.tup [.str z9,.ref p2])).trans (same_laid hB2l (.lst [.ref r2])))
  have vD:Rules K (upd (upd (upd J5 p2 (.tup [.str z10])) r2 (.tup [.str z9,.ref p2])) B2l (.lst [.ref r2])) [r2] [(z9,[z10])]:=.cons ⟨p2,(same_laid hB2l _).tup (SqT.of upd_same),((same_laid hr2 _).trans (same_laid hB2l _)).tup (SqT.of upd_same)⟩ .nil
  have eBl:upd (upd (upd J5 p2 (.tup [.str z10])) r2 (.tup [.str z9,.ref p2])) B2l (.lst [.ref r2]) B2l=some (.lst [.ref r2]):=upd_same
  generalize upd (upd (upd J5 p2 (.tup [.str z10])) r2 (.tup [.str z9,.ref p2])) B2l (.lst [.ref r2])=J6 at kD vD eBl
  have j6:=j5.trans kD
  refine ⟨R3,B2l,[r1],[r2],[(z9,[z10])],rfl,SqL.of (j6 _ _ er3),SqL.of eBl,vG.same j6,vD,h81,fun J7 j7'=>⟨true,rfl,?_⟩⟩
  have j7:=j6.trans j7'
  refine iteF ?_
  refine ⟨_,rfl,g3,Cg,y3,fs3,_,rfl,j7 _ _ eg3,G.cls,G.a2,ls3,(by show 0≤sizeLine; decide),fun E2 hE2=>?_⟩
  have j8:=j7.trans (same_laid hE2 (.lst []))
  refine ⟨S3,E2,[],rfl,rfl,SqL.of (j8 _ _ es3),SqL.of upd_same,false,rfl,?_⟩
  refine iteF ?_
  generalize upd J7 E2 (.lst [])=J8 at j8
  have k8:=Kp.of j8
  obtain ⟨n0,hn0⟩:∃ n0,(zs.take k)[0]?=some n0:=⟨(zs.take k)[0]'(by rw [List.length_take]; omega),List.getElem?_eq_getElem _⟩
  obtain ⟨ps0,hr0,_⟩:=M.first 0 n0 hn0
  have atn:atI ((zs.take k).map V.str) 0=some (.str n0):=atI_nat (j:=0) (by rw [List.getElem?_map,hn0]; rfl)
  refine ⟨_,rfl,g1,y1,fs1,rfl,j8 _ _ eg1,lt1,_,g1,bt1,rs,ss,rules,_,rfl,k8.gr go1,rlG.same j8,hr0,?_⟩
  refine ⟨_,rfl,g2,y2,fs2,rfl,j8 _ _ eg2,lt2,_,g2,bt2,rs,[],rules,_,rfl,k8.gr go2,rlG.same j8,hr0,?_⟩
  refine ⟨_,rfl,g3,y3,fs3,rfl,j8 _ _ eg3,lt3,_,g3,bt3,[r1],[],[(z9,[z10])],_,rfl,k8.gr go3,vG.same j8,rfl,?_⟩
  refine ⟨(by show 3≤sizeLine; decide),fun La hLa=>?_⟩
  have j9:=j8.trans (same_laid hLa (.lst [.str n0,.str n0,.str z9]))
  refine ⟨_,rfl,N,_,_,_,rfl,rfl,SqL.of (j9 _ _ eNG),atn,_,rfl,N,_,_,_,rfl,rfl,SqL.of (j9 _ _ eNG),atn,_,rfl,PL,_,_,_,rfl,rfl,SqL.of (j9 _ _ ePG),at9,(by show 3≤sizeLine; decide),fun Lb hLb=>?_⟩
  exact ⟨La,Lb,[.str n0,.str n0,.str z9],rfl,rfl,SqL.of (same_laid hLb _ _ _ upd_same),SqL.of upd_same,plain_strs [n0,n0,z9],q _⟩
end
end K11
namespace L2
open PySem
def HasD (K:PySem.W.Frag) (x:Str) (st:Stmt):Prop:=∃ (g:Addr) (oc:Value) (od an:Option Addr) (sl:Array (Option Value)) (kV dc pm cd ct:Value),PySem.W.nsIn K mainGlobals x=some (some (.ref g)) ∧
 K.lookup g=some ⟨oc,od,.func (PySem.W.fnOf x x (defArgs st) (defBody st) (defScope st) .none kV dc pm an cd ct),sl⟩∧PySem.W.codeIn K cd x=true∧PySem.W.keepIn K (.ref g)=true
theorem HasD.get {K:PySem.W.Frag} {h:Heap} {mg:Str→Option Value} {x:Str} {st:Stmt} (X:K.In h) (G:h.Ns mainGlobals mg) (H:HasD K x st):∃ g gd,Fun K x x st g gd∧mg x=some (.ref g):=by
 obtain ⟨g,oc,od,an,sl,kV,dc,pm,cd,ct,a,l,c,k⟩:=H
 exact ⟨g,_,fun_mk (st:=st) l c k,PySem.W.mg_of X G a⟩
def HasC (K:PySem.W.Frag) (x:Str) (st:Stmt) (T:Addr):Prop:=∃ (g:Addr) (oc:Value) (od an:Option Addr) (sl:Array (Option Value)) (kV dc pm:Value) (c:Addr) (ct:Value),PySem.W.nsIn K mainGlobals x=some (some (.ref g)) ∧
 K.lookup g=some ⟨oc,od,.func (PySem.W.fnOf x x (defArgs st) (defBody st) (defScope st) .none kV dc pm an (.ref c) ct),sl⟩∧PySem.W.codeIn K (.ref c) x=true∧PySem.W.codeHdIn K c T=true∧PySem.W.keepIn K (.ref g)=true
theorem HasC.get {K:PySem.W.Frag} {h:Heap} {mg:Str→Option Value} {x:Str} {st:Stmt} {T:Addr} (X:K.In h) (G:h.Ns mainGlobals mg) (H:HasC K x st T):∃ g gd,FunC K x x st g gd T∧mg x=some (.ref g):=by
 obtain ⟨g,oc,od,an,sl,kV,dc,pm,c,ct,a,l,d,e,k⟩:=H
 exact ⟨g,_,⟨⟨oc,od,kV,dc,pm,an,c,ct,sl,rfl,l,d,e⟩,k⟩,PySem.W.mg_of X G a⟩
theorem FunC.binds {K:PySem.W.Frag} {x qual:Str} {st:Stmt} {f T:Addr} {fd:FuncData} {ps:List Str} (F:FunC K x qual st f fd T)
  (h:∀ (kV doc pm:Value) (an:Option Addr) (cdv ct:Value) (us:List Value),us.length=ps.length→bindArgs (PySem.W.fnOf x qual (defArgs st) (defBody st) (defScope st) .none kV doc pm an cdv ct) ⟨us,[]⟩=pure (ps.zip us)):Binds K fd ps []:=by
 obtain ⟨oc,od,kV,doc,pm,an,c,ct,osl,rfl,lk,hcd,_⟩:=F.ex
 exact .all (h kV doc pm an (.ref c) ct)
def HasM (K:PySem.W.Frag) (C:Addr) (m qual:Str) (st:Stmt):Prop:=∃ (g:Addr) (oc:Value) (od an:Option Addr) (sl:Array (Option Value)) (kV dc pm cd ct:Value),PySem.W.findIn K (.ref C) m=some (some (.ref g)) ∧
 K.lookup g=some ⟨oc,od,.func (PySem.W.fnOf m qual (defArgs st) (defBody st) (defScope st) .none kV dc pm an cd ct),sl⟩∧PySem.W.codeIn K cd qual=true∧PySem.W.keepIn K (.ref g)=true∧PySem.W.isFn K (.ref g)=true
theorem HasM.get {K:PySem.W.Frag} {C:Addr} {m qual:Str} {st:Stmt} (H:HasM K C m qual st):∃ g gd,Fun K m qual st g gd∧Meth K C m g:=by
 obtain ⟨g,oc,od,an,sl,kV,dc,pm,cd,ct,a,l,c,k,i⟩:=H
 exact ⟨g,_,fun_mk (st:=st) l c k,⟨a,i,k⟩⟩
end L2
namespace K11
open PySem L2 M11
def HasV (K:PySem.W.Frag) (C:Addr) (m qual:Str) (st:Stmt):Prop:=∃ (g:Addr) (oc:Value) (od an:Option Addr) (sl:Array (Option Value)) (kV dc pm cd ct:Value) (T:Addr) (o:Obj) (n:Nat),PySem.W.findIn K (.ref C) m=some (some (.ref g)) ∧
 K.lookup g=some ⟨oc,od,.func (PySem.W.fnOf m qual (defArgs st) (defBody st) (defScope st) (.ref T) kV dc pm an cd ct),sl⟩∧PySem.W.codeIn K cd qual=true∧K.lookup T=some o∧o.data=.seq #[.none] n∧PySem.W.keepIn K (.ref g)=true∧PySem.W.isFn K (.ref g)=true
theorem HasV.get {K:PySem.W.Frag} {C:Addr} {m qual:Str} {st:Stmt} (H:HasV K C m qual st):∃ g gd,FunV K m qual st g gd∧PySem.W.findIn K (.ref C) m=some (some (.ref g))∧PySem.W.isFn K (.ref g)=true:=by
 obtain ⟨g,oc,od,an,sl,kV,dc,pm,cd,ct,T,o,n,a,l,c,t,d,k,i⟩:=H
 exact ⟨g,_,⟨⟨oc,od,kV,dc,pm,an,cd,ct,sl,T,o,n,rfl,l,c,t,d⟩,k⟩,a,i⟩
structure Top (K:PySem.W.Frag) (C Cg C3 T1 T2 T3:Addr) (tm:Tok):Prop where
 nB:PySem.W.nsIn K mainGlobals "BeginTable"=some (some (.ref C))
 nG:PySem.W.nsIn K mainGlobals "Grammar"=some (some (.ref Cg))
 nL:PySem.W.nsIn K mainGlobals "LeastTrees"=some (some (.ref C3))
 zsorted:PySem.W.nsIn K mainGlobals "sorted"=some none
 nM:PySem.W.nsIn K mainGlobals "MOST_RULES"=some (some (.int 60 tm))
 h_heads_of:HasD K "heads_of" sHeads
 h_numbers_by_name:HasD K "numbers_by_name" sNums
 h_standings_by_part:HasD K "standings_by_part" sStd
 h_rule_size:HasD K "rule_size" sRuleSize
 h_empty_by_name:HasD K "empty_by_name" sEmptyBy
 h_words_in:HasD K "words_in" sWords
 h_found_empties:HasD K "found_empties" sEmpties
 h_first_places:HasD K "first_places" sPlaces
 h_way_back:HasD K "way_back" sWay
 h_steps_with_like_rows:HasD K "steps_with_like_rows" sSteps
 h_find_loop:HasD K "find_loop" sLoop
 h_refuse_twice:HasD K "refuse_twice" sTwice
 h_names_met:HasD K "names_met" sMet
 h__law_cell_at:HasD K "_law_cell_at" sCell
 h__law_stream:HasD K "_law_stream" sStream
 h__law_pool:HasD K "_law_pool" sPool
 h__law_digits:HasD K "_law_digits" sDigits
 h__law_first:HasD K "_law_first" sFirst
 h__law_rule:HasD K "_law_rule" sRule
 h__law_rules:HasD K "_law_rules" sRules
 h__law_strengths:HasD K "_law_strengths" sStr
 h__law_tuples:HasD K "_law_tuples" sTuples
 hlaw:HasD K "law" sLaw
 hset:HasD K "settled_sizes" sSettle
 href:HasD K "refuse_faults" sRefuse
 hL:HasC K "least_sizes" sLeast T1
 hG:HasC K "greatest_empty_sizes" sGreat T2
 hLB:HasC K "least_by_part" sLeastBy T3
 mL1:HasM K C3 "__init__" "LeastTrees.__init__" sLInit
 mB1:HasM K C "__init__" "BeginTable.__init__" sBInit
 mB2:HasM K C "find_begins" "BeginTable.find_begins" sFind
 mB3:HasM K C "words_of_part" "BeginTable.words_of_part" sPartW
 mG1:HasV K Cg "__init__" "Grammar.__init__" sGInit
 mG2:HasM K Cg "start" "Grammar.start" sStart
 pgB:PySem.W.plainGet K C Str.empty=true
 hdB:PySem.W.hasDictIn K C=true
 poB:PySem.W.plainOver K C=true
 saB:PySem.W.findIn K (.ref C) "__setattr__"=some (some (.builtin "object.__setattr__"))
 mkB:PySem.W.makesIn K C=true
 kpB:PySem.W.keepIn K (.ref C)=true
 pgG:PySem.W.plainGet K Cg Str.empty=true
 hdG:PySem.W.hasDictIn K Cg=true
 poG:PySem.W.plainOver K Cg=true
 saG:PySem.W.findIn K (.ref Cg) "__setattr__"=some (some (.builtin "object.__setattr__"))
 mkG:PySem.W.makesIn K Cg=true
 kpG:PySem.W.keepIn K (.ref Cg)=true
 pgL:PySem.W.plainGet K C3 Str.empty=true
 hdL:PySem.W.hasDictIn K C3=true
 poL:PySem.W.plainOver K C3=true
 saL:PySem.W.findIn K (.ref C3) "__setattr__"=some (some (.builtin "object.__setattr__"))
 mkL:PySem.W.makesIn K C3=true
 kpL:PySem.W.keepIn K (.ref C3)=true
 aB_empties:PySem.W.findIn K (.ref C) "empties"=some none
 aB_empty:PySem.W.findIn K (.ref C) "empty"=some none
 aB_begins:PySem.W.findIn K (.ref C) "begins"=some none
 aB_firsts:PySem.W.findIn K (.ref C) "firsts"=some none
 aL_rules:PySem.W.findIn K (.ref C3) "rules"=some none
 aL_empty:PySem.W.findIn K (.ref C3) "empty"=some none
 aL_least:PySem.W.findIn K (.ref C3) "least"=some none
 aL_hollow:PySem.W.findIn K (.ref C3) "hollow"=some none
 aL_beginnings:PySem.W.findIn K (.ref C3) "beginnings"=some none
 aG_rules:PySem.W.findIn K (.ref Cg) "rules"=some none
 aG_strengths:PySem.W.findIn K (.ref Cg) "strengths"=some none
 aG_begin_table:PySem.W.findIn K (.ref Cg) "begin_table"=some none
 aG_standings:PySem.W.findIn K (.ref Cg) "standings"=some none
 aG_small_trees:PySem.W.findIn K (.ref Cg) "small_trees"=some none
 zlen:PySem.W.nsIn K mainGlobals "len"=some none
 zrange:PySem.W.nsIn K mainGlobals "range"=some none
 zisinstance:PySem.W.nsIn K mainGlobals "isinstance"=some none
 ztuple:PySem.W.nsIn K mainGlobals "tuple"=some none
 zlist:PySem.W.nsIn K mainGlobals "list"=some none
 zdict:PySem.W.nsIn K mainGlobals "dict"=some none
 zall:PySem.W.nsIn K mainGlobals "all"=some none
 zany:PySem.W.nsIn K mainGlobals "any"=some none
 zstr:PySem.W.nsIn K mainGlobals "str"=some none
 zint:PySem.W.nsIn K mainGlobals "int"=some none
 zbool:PySem.W.nsIn K mainGlobals "bool"=some none
 zenumerate:PySem.W.nsIn K mainGlobals "enumerate"=some none
 zsum:PySem.W.nsIn K mainGlobals "sum"=some none
 zmax:PySem.W.nsIn K mainGlobals "max"=some none
 zmin:PySem.W.nsIn K mainGlobals "min"=some none
theorem all_mk {l:PySem.W.OpenLaw} {w:World} {K:PySem.W.Frag} {h:Heap} {mg:Str→Option Value} {fa C Cg C3 T1 T2 T3:Addr} {tm:Tok} (X:K.In h) (G:h.Ns mainGlobals mg) (hfa:mg "law"=some (.ref fa)) (tp:Top K C Cg C3 T1 T2 T3 tm) :
  ∃ fd:FuncData,(∀ (s:Shared) (v:Value),BindsTo s fd ⟨[v],[]⟩ [("_law_script",v)])∧∀ base:Heap,K.In base→base.Ns mainGlobals mg→BmAt mg base→FnOk l.prog w K mg base CX0 9 fa fd ["_law_script"] (spLaw K T1 T2 T3):=by
 have T:Txt mg:=⟨PySem.W.mg_none_of X G tp.zlen,PySem.W.mg_none_of X G tp.zrange,PySem.W.mg_none_of X G tp.zisinstance,PySem.W.mg_none_of X G tp.ztuple,PySem.W.mg_none_of X G tp.zlist,PySem.W.mg_none_of X G tp.zdict,PySem.W.mg_none_of X G tp.zall,PySem.W.mg_none_of X G tp.zany,PySem.W.mg_none_of X G tp.zstr,PySem.W.mg_none_of X G tp.zint,PySem.W.mg_none_of X G tp.zbool,PySem.W.mg_none_of X G tp.zenumerate,PySem.W.mg_none_of X G tp.zsum,PySem.W.mg_none_of X G tp.zmax,PySem.W.mg_none_of X G tp.zmin⟩
 obtain ⟨f_heads_of,d_heads_of,F_heads_of,m_heads_of⟩:=tp.h_heads_of.get X G
 have b_heads_of:=F_heads_of.binds (ps:=["rules"]) fun _ _ _ _ _ _ us hl=>match us,hl with | [_],_=>rfl
 obtain ⟨f_numbers_by_name,d_numbers_by_name,F_numbers_by_name,m_numbers_by_name⟩:=tp.h_numbers_by_name.get X G
 have b_numbers_by_name:=F_numbers_by_name.binds (ps:=["rules"]) fun _ _ _ _ _ _ us hl=>match us,hl with | [_],_=>rfl
 obtain ⟨f_standings_by_part,d_standings_by_part,F_standings_by_part,m_standings_by_part⟩:=tp.h_standings_by_part.get X G
 have b_standings_by_part:=F_standings_by_part.binds (ps:=["rules"]) fun _ _ _ _ _ _ us hl=>match us,hl with | [_],_=>rfl
 obtain ⟨f_rule_size,d_rule_size,F_rule_size,m_rule_size⟩:=tp.h_rule_size.get X G
 have b_rule_size:=F_rule_size.binds (ps:=["sizes","rule"]) fun _ _ _ _ _ _ us hl=>match us,hl with | [_,_],_=>rfl
 obtain ⟨f_empty_by_name,d_empty_by_name,F_empty_by_name,m_empty_by_name⟩:=tp.h_empty_by_name.get X G
 have b_empty_by_name:=F_empty_by_name.binds (ps:=["rules","empties"]) fun _ _ _ _ _ _ us hl=>match us,hl with | [_,_],_=>rfl
 obtain ⟨f_words_in,d_words_in,F_words_in,m_words_in⟩:=tp.h_words_in.get X G
 have b_words_in:=F_words_in.binds (ps:=["rules"]) fun _ _ _ _ _ _ us hl=>match us,hl with | [_],_=>rfl
 obtain ⟨f_found_empties,d_found_empties,F_found_empties,m_found_empties⟩:=tp.h_found_empties.get X G
 have b_found_empties:=F_found_empties.binds (ps:=["rules"]) fun _ _ _ _ _ _ us hl=>match us,hl with | [_],_=>rfl
 obtain ⟨f_first_places,d_first_places,F_first_places,m_first_places⟩:=tp.h_first_places.get X G
 have b_first_places:=F_first_places.binds (ps:=["parts","empty"]) fun _ _ _ _ _ _ us hl=>match us,hl with | [_,_],_=>rfl
 obtain ⟨f_way_back,d_way_back,F_way_back,m_way_back⟩:=tp.h_way_back.get X G
 have b_way_back:=F_way_back.binds (ps:=["rules","steps","name"]) fun _ _ _ _ _ _ us hl=>match us,hl with | [_,_,_],_=>rfl
 obtain ⟨f_steps_with_like_rows,d_steps_with_like_rows,F_steps_with_like_rows,m_steps_with_like_rows⟩:=tp.h_steps_with_like_rows.get X G
 have b_steps_with_like_rows:=F_steps_with_like_rows.binds (ps:=["rules"]) fun _ _ _ _ _ _ us hl=>match us,hl with | [_],_=>rfl
 obtain ⟨f_find_loop,d_find_loop,F_find_loop,m_find_loop⟩:=tp.h_find_loop.get X G
 have b_find_loop:=F_find_loop.binds (ps:=["rules"]) fun _ _ _ _ _ _ us hl=>match us,hl with | [_],_=>rfl
 obtain ⟨f_refuse_twice,d_refuse_twice,F_refuse_twice,m_refuse_twice⟩:=tp.h_refuse_twice.get X G
 have b_refuse_twice:=F_refuse_twice.binds (ps:=["strengths"]) fun _ _ _ _ _ _ us hl=>match us,hl with | [_],_=>rfl
 obtain ⟨f_names_met,d_names_met,F_names_met,m_names_met⟩:=tp.h_names_met.get X G
 have b_names_met:=F_names_met.binds (ps:=["rules"]) fun _ _ _ _ _ _ us hl=>match us,hl with | [_],_=>rfl
 obtain ⟨f__law_cell_at,d__law_cell_at,F__law_cell_at,m__law_cell_at⟩:=tp.h__law_cell_at.get X G
 have b__law_cell_at:=F__law_cell_at.binds (ps:=["_law_script","_law_k"]) fun _ _ _ _ _ _ us hl=>match us,hl with | [_,_],_=>rfl
 obtain ⟨f__law_stream,d__law_stream,F__law_stream,m__law_stream⟩:=tp.h__law_stream.get X G
 have b__law_stream:=F__law_stream.binds (ps:=["_law_cell","_law_many"]) fun _ _ _ _ _ _ us hl=>match us,hl with | [_,_],_=>rfl
 obtain ⟨f__law_pool,d__law_pool,F__law_pool,m__law_pool⟩:=tp.h__law_pool.get X G
 have b__law_pool:=F__law_pool.binds (ps:=["_law_cell","_law_many"]) fun _ _ _ _ _ _ us hl=>match us,hl with | [_,_],_=>rfl
 obtain ⟨f__law_digits,d__law_digits,F__law_digits,m__law_digits⟩:=tp.h__law_digits.get X G
 have b__law_digits:=F__law_digits.binds (ps:=["_law_cell","_law_many"]) fun _ _ _ _ _ _ us hl=>match us,hl with | [_,_],_=>rfl
 obtain ⟨f__law_first,d__law_first,F__law_first,m__law_first⟩:=tp.h__law_first.get X G
 have b__law_first:=F__law_first.binds (ps:=["_law_names","_law_words","_law_at","_law_draw"]) fun _ _ _ _ _ _ us hl=>match us,hl with | [_,_,_,_],_=>rfl
 obtain ⟨f__law_rule,d__law_rule,F__law_rule,m__law_rule⟩:=tp.h__law_rule.get X G
 have b__law_rule:=F__law_rule.binds (ps:=["_law_names","_law_words","_law_digits_here"]) fun _ _ _ _ _ _ us hl=>match us,hl with | [_,_,_],_=>rfl
 obtain ⟨f__law_rules,d__law_rules,F__law_rules,m__law_rules⟩:=tp.h__law_rules.get X G
 have b__law_rules:=F__law_rules.binds (ps:=["_law_cell","_law_names","_law_words","_law_cells"]) fun _ _ _ _ _ _ us hl=>match us,hl with | [_,_,_,_],_=>rfl
 obtain ⟨f__law_strengths,d__law_strengths,F__law_strengths,m__law_strengths⟩:=tp.h__law_strengths.get X G
 have b__law_strengths:=F__law_strengths.binds (ps:=["_law_cell","_law_words"]) fun _ _ _ _ _ _ us hl=>match us,hl with | [_,_],_=>rfl
 obtain ⟨f__law_tuples,d__law_tuples,F__law_tuples,m__law_tuples⟩:=tp.h__law_tuples.get X G
 have b__law_tuples:=F__law_tuples.binds (ps:=["_law_found","_law_due"]) fun _ _ _ _ _ _ us hl=>match us,hl with | [_,_],_=>rfl
 obtain ⟨f_set,d_set,F_set,m_set⟩:=tp.hset.get X G
 have b_set:=F_set.binds (ps:=["rules","sizes","better"]) fun _ _ _ _ _ _ us hl=>match us,hl with | [_,_,_],_=>rfl
 obtain ⟨f_ref,d_ref,F_ref,m_ref⟩:=tp.href.get X G
 have b_ref:=F_ref.binds (ps:=["rules","strengths"]) fun _ _ _ _ _ _ us hl=>match us,hl with | [_,_],_=>rfl
 obtain ⟨f_L,d_L,F_L,m_L⟩:=tp.hL.get X G
 have b_L:=F_L.binds (ps:=["rules"]) fun _ _ _ _ _ _ us hl=>match us,hl with | [_],_=>rfl
 obtain ⟨f_G,d_G,F_G,m_G⟩:=tp.hG.get X G
 have b_G:=F_G.binds (ps:=["rules"]) fun _ _ _ _ _ _ us hl=>match us,hl with | [_],_=>rfl
 obtain ⟨f_LB,d_LB,F_LB,m_LB⟩:=tp.hLB.get X G
 have b_LB:=F_LB.binds (ps:=["rules"]) fun _ _ _ _ _ _ us hl=>match us,hl with | [_],_=>rfl
 obtain ⟨f_B1,d_B1,F_B1,m_B1⟩:=tp.mB1.get
 have b_B1:=F_B1.binds (ps:=["self","rules"]) fun _ _ _ _ _ _ us hl=>match us,hl with | [_,_],_=>rfl
 obtain ⟨f_B2,d_B2,F_B2,m_B2⟩:=tp.mB2.get
 have b_B2:=F_B2.binds (ps:=["self","number","rule"]) fun _ _ _ _ _ _ us hl=>match us,hl with | [_,_,_],_=>rfl
 obtain ⟨f_B3,d_B3,F_B3,m_B3⟩:=tp.mB3.get
 have b_B3:=F_B3.binds (ps:=["self","part"]) fun _ _ _ _ _ _ us hl=>match us,hl with | [_,_],_=>rfl
 obtain ⟨f_G2,d_G2,F_G2,m_G2⟩:=tp.mG2.get
 have b_G2:=F_G2.binds (ps:=["self"]) fun _ _ _ _ _ _ us hl=>match us,hl with | [_],_=>rfl
 obtain ⟨f_L1,d_L1,F_L1,m_L1⟩:=tp.mL1.get
 have b_L1:=F_L1.binds (ps:=["self","rules","begin_table"]) fun _ _ _ _ _ _ us hl=>match us,hl with | [_,_,_],_=>rfl
 obtain ⟨f_G1,d_G1,F_G1,m_G1,i_G1⟩:=tp.mG1.get
 have cB:BC K C:=⟨⟨tp.pgB,tp.hdB,tp.poB,tp.saB⟩,tp.aB_empties,tp.aB_empty,tp.aB_begins,tp.aB_firsts⟩
 have cG:GC K Cg:=⟨⟨tp.pgG,tp.hdG,tp.poG,tp.saG⟩,tp.aG_rules,tp.aG_strengths,tp.aG_begin_table,tp.aG_standings,tp.aG_small_trees⟩
 have cL:LC K C3:=⟨⟨tp.pgL,tp.hdL,tp.poL,tp.saL⟩,tp.aL_rules,tp.aL_empty,tp.aL_least,tp.aL_hollow,tp.aL_beginnings⟩
 have kL:Mk K C3 f_L1:=⟨tp.mkL,m_L1.at_,m_L1.fn,tp.kpL⟩
 have kB:Mk K C f_B1:=⟨tp.mkB,m_B1.at_,m_B1.fn,tp.kpB⟩
 have kG:Mk K Cg f_G1:=⟨tp.mkG,m_G1,i_G1,tp.kpG⟩
 obtain ⟨f9,d9,F9,m9⟩:=tp.hlaw.get X G
 have e:=hfa.symm.trans m9
 cases e
 obtain ⟨oc,od,kV,doc,pm,an,cdv,ct,osl,eL,lk,hcd⟩:=F9.ex
 refine ⟨d9,fun s v=>?_,fun base _ _ hBm=>?_⟩
 ·rw [eL]; exact .of_eq rfl
 have c_heads_of:CalleeD l.prog w K mg base 1 "heads_of" ["rules"] (spHeads K):=⟨f_heads_of,d_heads_of,ok_heads F_heads_of T,b_heads_of,F_heads_of.kp,m_heads_of⟩
 have c_numbers_by_name:CalleeD l.prog w K mg base 2 "numbers_by_name" ["rules"] (spNums K):=⟨f_numbers_by_name,d_numbers_by_name,ok_nums F_numbers_by_name T c_heads_of,b_numbers_by_name,F_numbers_by_name.kp,m_numbers_by_name⟩
 have c_standings_by_part:CalleeD l.prog w K mg base 1 "standings_by_part" ["rules"] (spStd K):=⟨f_standings_by_part,d_standings_by_part,ok_std F_standings_by_part T,b_standings_by_part,F_standings_by_part.kp,m_standings_by_part⟩
 have c_rule_size:CalleeD l.prog w K mg base 1 "rule_size" ["sizes","rule"] (spRuleSize K):=⟨f_rule_size,d_rule_size,ok_ruleSize F_rule_size T,b_rule_size,F_rule_size.kp,m_rule_size⟩
 have c_empty_by_name:CalleeD l.prog w K mg base 1 "empty_by_name" ["rules","empties"] (spEmptyBy K):=⟨f_empty_by_name,d_empty_by_name,ok_emptyBy F_empty_by_name T,b_empty_by_name,F_empty_by_name.kp,m_empty_by_name⟩
 have c_words_in:CalleeD l.prog w K mg base 1 "words_in" ["rules"] (spWords K):=⟨f_words_in,d_words_in,ok_words F_words_in T,b_words_in,F_words_in.kp,m_words_in⟩
 have c_found_empties:CalleeD l.prog w K mg base 1 "found_empties" ["rules"] (spEmpties K):=⟨f_found_empties,d_found_empties,ok_empties F_found_empties T,b_found_empties,F_found_empties.kp,m_found_empties⟩
 have c_first_places:CalleeD l.prog w K mg base 1 "first_places" ["parts","empty"] (spPlaces K):=⟨f_first_places,d_first_places,ok_places F_first_places T,b_first_places,F_first_places.kp,m_first_places⟩
 have c_way_back:CalleeD l.prog w K mg base 1 "way_back" ["rules","steps","name"] (spWay K):=⟨f_way_back,d_way_back,ok_way F_way_back T,b_way_back,F_way_back.kp,m_way_back⟩
 have c_steps_with_like_rows:CalleeD l.prog w K mg base 2 "steps_with_like_rows" ["rules"] (spSteps K):=⟨f_steps_with_like_rows,d_steps_with_like_rows,ok_steps F_steps_with_like_rows T c_found_empties c_heads_of,b_steps_with_like_rows,F_steps_with_like_rows.kp,m_steps_with_like_rows⟩
 have c_find_loop:CalleeD l.prog w K mg base 3 "find_loop" ["rules"] (spLoop K):=⟨f_find_loop,d_find_loop,ok_loop F_find_loop T c_steps_with_like_rows c_way_back,b_find_loop,F_find_loop.kp,m_find_loop⟩
 have c_refuse_twice:CalleeD l.prog w K mg base 1 "refuse_twice" ["strengths"] (spTwice K):=⟨f_refuse_twice,d_refuse_twice,ok_twice F_refuse_twice T,b_refuse_twice,F_refuse_twice.kp,m_refuse_twice⟩
 have c_names_met:CalleeD l.prog w K mg base 1 "names_met" ["rules"] (spMet K):=⟨f_names_met,d_names_met,ok_met F_names_met T,b_names_met,F_names_met.kp,m_names_met⟩
 have c__law_cell_at:CalleeD l.prog w K mg base 1 "_law_cell_at" ["_law_script","_law_k"] (spCell K):=⟨f__law_cell_at,d__law_cell_at,ok_cell F__law_cell_at T,b__law_cell_at,F__law_cell_at.kp,m__law_cell_at⟩
 have c__law_stream:CalleeD l.prog w K mg base 1 "_law_stream" ["_law_cell","_law_many"] spStream:=⟨f__law_stream,d__law_stream,ok_stream F__law_stream T,b__law_stream,F__law_stream.kp,m__law_stream⟩
 have c__law_pool:CalleeD l.prog w K mg base 2 "_law_pool" ["_law_cell","_law_many"] spPool:=⟨f__law_pool,d__law_pool,ok_pool F__law_pool T c__law_stream,b__law_pool,F__law_pool.kp,m__law_pool⟩
 have c__law_digits:CalleeD l.prog w K mg base 2 "_law_digits" ["_law_cell","_law_many"] spDigits:=⟨f__law_digits,d__law_digits,ok_digits F__law_digits T c__law_stream,b__law_digits,F__law_digits.kp,m__law_digits⟩
 have c__law_first:CalleeD l.prog w K mg base 1 "_law_first" ["_law_names","_law_words","_law_at","_law_draw"] (spFirst K):=⟨f__law_first,d__law_first,ok_first F__law_first T,b__law_first,F__law_first.kp,m__law_first⟩
 have c__law_rule:CalleeD l.prog w K mg base 1 "_law_rule" ["_law_names","_law_words","_law_digits_here"] (spRule K):=⟨f__law_rule,d__law_rule,ok_rule F__law_rule T,b__law_rule,F__law_rule.kp,m__law_rule⟩
 have c__law_rules:CalleeD l.prog w K mg base 3 "_law_rules" ["_law_cell","_law_names","_law_words","_law_cells"] (spRules K):=⟨f__law_rules,d__law_rules,ok_rules F__law_rules T c__law_stream c__law_first c__law_rule c__law_digits,b__law_rules,F__law_rules.kp,m__law_rules⟩
 have c__law_strengths:CalleeD l.prog w K mg base 2 "_law_strengths" ["_law_cell","_law_words"] (spStr K):=⟨f__law_strengths,d__law_strengths,ok_str F__law_strengths T c__law_stream,b__law_strengths,F__law_strengths.kp,m__law_strengths⟩
 have c__law_tuples:CalleeD l.prog w K mg base 1 "_law_tuples" ["_law_found","_law_due"] (spTuples K):=⟨f__law_tuples,d__law_tuples,ok_tuples F__law_tuples T,b__law_tuples,F__law_tuples.kp,m__law_tuples⟩
 have c_sL:CalleeD l.prog w K mg base 2 "settled_sizes" ["rules","sizes","better"] (spSettle K lqL lmL.1 lmL.2.1 lmL.2.2.1 M11.bl):=⟨f_set,d_set,ok_settleL F_set T,b_set,F_set.kp,m_set⟩
 have c_sG:CalleeD l.prog w K mg base 2 "settled_sizes" ["rules","sizes","better"] (spSettle K lqG lmG.1 lmG.2.1 lmG.2.2.1 M11.bg):=⟨f_set,d_set,ok_settleG F_set T,b_set,F_set.kp,m_set⟩
 have c_L:CalleeD l.prog w K mg base 3 "least_sizes" ["rules"] (spLeast K T1):=⟨f_L,d_L,ok_least F_L T hBm c_words_in c_sL,b_L,F_L.kp,m_L⟩
 have c_G:CalleeD l.prog w K mg base 3 "greatest_empty_sizes" ["rules"] (spGreat K T2):=⟨f_G,d_G,ok_great F_G hBm c_sG,b_G,F_G.kp,m_G⟩
 have c_ref:CalleeD l.prog w K mg base 4 "refuse_faults" ["rules","strengths"] (spRefuse K T1 T2):=⟨f_ref,d_ref,ok_refuse F_ref T (PySem.W.mg_of X G tp.nM) c_refuse_twice c_L c_heads_of c_names_met c_find_loop c_G,b_ref,F_ref.kp,m_ref⟩
 have c_LB:CalleeD l.prog w K mg base 4 "least_by_part" ["rules"] (spLeastBy K T1 T3):=⟨f_LB,d_LB,ok_leastBy F_LB T hBm (PySem.W.mg_none_of X G tp.zsorted) (c_heads_of.mono (by decide)) c_L (c_numbers_by_name.mono (by decide)) (c_rule_size.mono (by decide)),b_LB,F_LB.kp,m_LB⟩
 have o_B3:=ok_partW (P:=l.prog) (w:=w) (base:=base) F_B3 T cB
 have o_B2:=ok_find F_B2 T cB c_first_places o_B3 m_B3 b_B3
 have o_B1:=ok_binit F_B1 T cB c_found_empties c_heads_of o_B2 m_B2 b_B2
 have o_L1:=ok_linit F_L1 T cB cL c_LB (c_empty_by_name.mono (by decide))
 have o_G1:=ok_ginit F_G1 T cG (c_ref.mono (by decide)) (c_standings_by_part.mono (by decide)) (o_B1.mono (by decide)) kB b_B1 (PySem.W.mg_of X G tp.nB) o_L1 kL b_L1 (PySem.W.mg_of X G tp.nL)
 have o_G2:=ok_start (P:=l.prog) (w:=w) (mg:=mg) (base:=base) F_G2 cG
 exact ok_law F9 T (c__law_cell_at.mono (by decide)) (c__law_pool.mono (by decide)) (c__law_rules.mono (by decide)) (c__law_strengths.mono (by decide)) (c__law_tuples.mono (by decide)) cG kG o_G1 (ginit_b0 F_G1) (ginit_b1 F_G1) (PySem.W.mg_of X G tp.nG) m_G2 (o_G2.mono (by decide)) b_G2
theorem walk {l:PySem.W.OpenLaw} {q:Program} {loose:List Str} {XP:(Str→Option Value)→Heap→Prop} {YP:World→Heap→Prop} {d:DefRec} {K:Params→PySem.W.Frag} (T1 T2 T3 c1 c2 c3:Addr) (n12:T1≠T2) (n13:T1≠T3) (n23:T2≠T3) (hn:l.most=some 63) (hdf:d.params.defaults=[])
  (hY:∀ (w:World) (h:Heap),YP w h→(K w.params).In h∧∀ T∈[T3,T2,T1],h.get? T=some (PySem.W.tabObj #[]))
  (hK1:∀ w:World,(K w.params).lookup T1=none) (hK2:∀ w:World,(K w.params).lookup T2=none) (hK3:∀ w:World,(K w.params).lookup T3=none) (hC1:∀ w:World,PySem.W.codeHdIn (K w.params) c1 T1=true) (hC2:∀ w:World,PySem.W.codeHdIn (K w.params) c2 T2=true) (hC3:∀ w:World,PySem.W.codeHdIn (K w.params) c3 T3=true)
  (F:∀ (w:World) (mg:Str→Option Value) (fa:Addr) (h:Heap),(K w.params).In h→h.Ns mainGlobals mg→mg d.name=some (.ref fa) →
   ∃ fd:FuncData,(∀ (s:Shared) (u:Value),BindsTo s fd ⟨[u],[]⟩ [("_law_script",u)])∧∀ base:Heap,(K w.params).In base→base.Ns mainGlobals mg→BmAt mg base→FnOk l.prog w (K w.params) mg base CX0 9 fa fd ["_law_script"] (spLaw (K w.params) T1 T2 T3)) :
  PySem.W.WalkO q loose XP YP l.row.toRowW d [] (fun f vs=>PySem.call f vs) :=
 L2.walk_ofT (n:=63) (k:=9) (x := "_law_script") (CX:=fun _=>CX0) (sp:=fun w=>spLaw (K w.params) T1 T2 T3) hn (by decide) hdf ⟨rfl,by decide,by decide⟩ hY (fun w T hT=>by
  rcases List.mem_cons.mp hT with e | hT
  ·subst e; exact ⟨hK3 w,c3,hC3 w⟩
  rcases List.mem_cons.mp hT with e | hT
  ·subst e; exact ⟨hK2 w,c2,hC2 w⟩
  ·rw [List.mem_singleton.mp hT]; exact ⟨hK1 w,c1,hC1 w⟩) F (fun _ H a ns hl _ hT hS=>⟨a,ns,rfl,hS,hl,⟨⟨#[],hT T1 (by simp),by trivial,.inl rfl⟩,⟨#[],hT T2 (by simp),by trivial,.inl rfl⟩,⟨#[],hT T3 (by simp),by trivial,.inl rfl⟩,n12,n13,n23⟩,fun _=>rfl⟩) fun _ _ _ _ _ z=>z
end K11
namespace HD
open PySem PySem.W
def runT (st:SharedT→Thread→Option (SharedT×Thread)) (ok:Thread→Bool):Nat→SharedT→Thread→Option SharedT
 | 0,_,_=>none
 | n+1,s,t=>match through t with
  | true=>some s
  | false=>match ok t with
   | false=>none
   | true=>match st s t with
    | some (s',t')=>runT st ok n s' t'
    | none=>none
theorem runT_of {tb:String→Option Builtin} {p:Program} {w:World} {n₀:Nat} {ann:Option Value}:∀ {n:Nat} {s s':SharedT} {t:Thread},runT (stepT (denote tb) p w) (stepOk n₀ ann) n s t=some s'→topRun tb p w n₀ ann n s.abs t=some s'.abs
 | 0,_,_,_,h=>by cases h
 | n+1,s,s',t,h=>by
  unfold runT at h
  unfold topRun
  cases he:through t with
  | true=>rw [he] at h; cases h; rfl
  | false =>
   rw [he] at h
   cases hk:stepOk n₀ ann t with
   | false=>rw [hk] at h; cases h
   | true =>
    rw [hk] at h
    cases hs:stepT (denote tb) p w s t with
    | none=>rw [hs] at h; cases h
    | some r=>obtain ⟨s₂,t₂⟩:=r; rw [hs] at h; rw [stepT_spec hs]; exact runT_of h
def ofL:List Obj→Nat→BT→BT
 | [],_,t=>t
 | o::r,i,t=>ofL r (i+1) (t.ins i o)
noncomputable def bootT (P:Params):BT:=ofL (boot_heap P).objs.toList 0 .nil
theorem bootT_abs (P:Params):absHeap (bootT P) 11 {}=boot_heap P:=by kernel_rfl
def forceO {β:Type}:Obj→(Obj→β)→β
 | ⟨c,d,t,s⟩,k=>k ⟨c,d,t,s⟩
def forceLO {β:Type}:List Obj→(List Obj→β)→β
 | [],k=>k []
 | x::r,k=>forceO x fun y=>forceLO r fun ys=>k (y::ys)
theorem forceLO_eq {β:Type}:∀ (l:List Obj) (k:List Obj→β),forceLO l k=k l
 | [],_=>rfl
 | ⟨c,d,t,s⟩::r,k=>by
  show forceLO r (fun ys=>k (⟨c,d,t,s⟩::ys))=_
  rw [forceLO_eq r]
def looks (p q:Program) (loose:List Str) (Xt:Shared→Bool) {α:Type} (Yf:Shared→α) (g0:Bool) (h₀:Heap) (s:Shared) :=
 ((staticsOk (importedModules p.main.body) h₀ s.heap && namesBound p s.heap && gensDone s && laidKept h₀ s.heap),openSeen q loose (importedModules p.main.body) Xt g0 s,Yf s)
def seenT {β:Type} (f:Shared→β) (s:SharedT):β:=forceLO (s.tree.list s.n) fun l=>f ⟨⟨l.toArray,s.life⟩,s.gens,s.drawn,s.toks,s.os⟩
theorem seenT_eq {β:Type} (f:Shared→β) (s:SharedT):seenT f s=f s.abs:=forceLO_eq _ _
theorem leftT {p q:Program} {loose:List Str} {Xt:Shared→Bool} {α:Type} {Yf:Shared→α} {Ya:World→α} {N:Nat} {g0:Bool} {ann:Option Value} {M:Nat}
  (open_:∀ w:World,(fencedOpening treeTable p w N).map (fun s=>(s.heap,s.gens,s.drawn,s.toks))=some (boot_heap w.params,Array.mk [],boot_drawn,boot_toks))
  (size:∀ w:World,((boot_heap w.params).isNs mainGlobals && (Array.mk []:Array GenState).size == 0,(boot_heap w.params).objs.size,(boot_heap w.params).nsMap mainGlobals "__annotations__")=(true,11,ann))
  (run:∀ (w:World) (os:OsState),(runT (stepT (denote treeTable) p w) (stepOk 11 ann) M ⟨bootT w.params,11,{},Array.mk [],boot_drawn,boot_toks,os⟩ (topStub p)).map (seenT (looks p q loose Xt Yf g0 (boot_heap w.params)))=some (true,openGood q loose,Ya w))
  (le:Nat.ble M N=true):LeftO p q loose Xt Yf Ya N g0:=fun w=>by
 obtain ⟨⟨h,gs,d,k,os⟩,e,e'⟩:=Option.map_eq_some_iff.mp (open_ w)
 obtain ⟨rfl,rfl,rfl,rfl⟩:h=boot_heap w.params∧gs=Array.mk []∧d=boot_drawn∧k=boot_toks:=by simpa using e'
 obtain ⟨z1,z2,z3⟩:_∧_∧_:=by simpa only [Prod.mk.injEq] using size w
 obtain ⟨s',r0,l0⟩:=Option.map_eq_some_iff.mp (run w os)
 rw [seenT_eq] at l0
 obtain ⟨l1,l2,l3⟩:_∧_∧_:=by simpa only [looks,Prod.mk.injEq] using l0
 have r:=runT_of r0
 have ea:SharedT.abs ⟨bootT w.params,11,{},Array.mk [],boot_drawn,boot_toks,os⟩=⟨boot_heap w.params,Array.mk [],boot_drawn,boot_toks,os⟩:=by
  unfold SharedT.abs
  rw [bootT_abs]
 rw [ea] at r
 have r:=topRun_mono (N - M) _ _ _ _ r
 rw [show M+(N - M)=N by have:=Nat.le_of_ble_eq_true le; omega] at r
 have t:topFrom treeTable p w N ⟨boot_heap w.params,Array.mk [],boot_drawn,boot_toks,os⟩=some s'.abs:=by
  unfold topFrom
  dsimp only
  rw [z1,z2,z3,r]
  show (match staticsOk (importedModules p.main.body) (boot_heap w.params) s'.abs.heap && namesBound p s'.abs.heap && gensDone s'.abs && laidKept (boot_heap w.params) s'.abs.heap with | true=>_ | false=>_)=_
  rw [l1]
 unfold openEnds
 rw [e]
 show (topFrom treeTable p w N _).map _=_
 rw [t]
 exact congrArg some (Prod.ext l2 l3)
end HD
set_option maxHeartbeats 0
namespace HD
open PySem PySem.W L2
def dE (P:Params) (x:Str) (t:Tok) (v:Value):DictEntry:=⟨PyData.keyHash P x,.str x t,v⟩
def top (p:Program) (i:Nat):Stmt:=p.main.body.getD i (.Pass ⟨0,0,0,0⟩)
def meth (p:Program) (i j:Nat):Stmt:=match top p i with
 | .ClassDef _ _ _ body _ _ _ _ _ _ _=>body.getD j (.Pass ⟨0,0,0,0⟩)
 | _=>.Pass ⟨0,0,0,0⟩
def posOf (s:Stmt):Pos:=match s with
 | .FunctionDef _ _ _ _ _ _ _ _ _ p=>p
 | _=>⟨0,0,0,0⟩
noncomputable def K' (p:Program) (P:Params):Frag:=[
 (2,⟨.none,none,.dict #[] 0,#[]⟩),
 (3,⟨.type "dict",none,.dict #[dE P "__name__" 165 (.str "law_wright_k11_grammars_kept" 688),dE P "__doc__" 166 (.none),dE P "__package__" 167 (.none),dE P "__loader__" 168 (.builtin "__main__.__loader__#opaque"),dE P "__spec__" 169 (.none),dE P "__annotations__" 170 (.ref 6),dE P "__builtins__" 171 (.ref 4),dE P "__file__" 173 (.str "/claim/cut.py" 172),dE P "__cached__" 174 (.none),dE P "_wall" 193 (.ref 21),dE P "heads_of" 201 (.ref 26),dE P "words_in" 207 (.ref 31),dE P "numbers_by_name" 213 (.ref 36),dE P "standings_by_part" 225 (.ref 43),dE P "found_empties" 233 (.ref 48),dE P "first_places" 244 (.ref 55),dE P "BeginTable" 319 (.ref 105),dE P "WrightError" 339 (.ref 119),dE P "NoRules" 355 (.ref 132),dE P "Twice" 380 (.ref 151),dE P "Endless" 405 (.ref 170),dE P "Unmet" 430 (.ref 189),dE P "Loop" 455 (.ref 208),dE P "Vast" 480 (.ref 227),dE P "find_loop" 488 (.ref 234),dE P "steps_with_like_rows" 494 (.ref 239),dE P "way_back" 510 (.ref 246),dE P "least_sizes" 518 (.ref 251),dE P "greatest_empty_sizes" 525 (.ref 258),dE P "settled_sizes" 531 (.ref 263),dE P "MOST_RULES" 535 (.int (60) 534),dE P "refuse_faults" 541 (.ref 268),dE P "refuse_twice" 552 (.ref 275),dE P "names_met" 558 (.ref 280),dE P "least_by_part" 566 (.ref 285),dE P "rule_size" 572 (.ref 290),dE P "empty_by_name" 578 (.ref 295),dE P "LeastTrees" 644 (.ref 338),dE P "Grammar" 687 (.ref 367),dE P "_law_cell_at" 697 (.ref 378),dE P "_law_stream" 708 (.ref 385),dE P "_law_pool" 714 (.ref 390),dE P "_law_digits" 724 (.ref 397),dE P "_law_first" 730 (.ref 402),dE P "_law_rule" 736 (.ref 407),dE P "_law_rules" 742 (.ref 412),dE P "_law_strengths" 754 (.ref 419),dE P "_law_tuples" 760 (.ref 424),dE P "law" 776 (.ref 431)] 49,#[]⟩),
 (20,⟨.type "code",none,.fields #[.str "_wall" 187,.str "_wall" 188,.str "/claim/cut.py" 189,.int (1) 0,.int (1) 0,.int (0) 0,.int (0) 0,.int (3) 0,.ref 15,.bool true,.int (181) 0,.ref 16,.none,.ref 17,.ref 18,.ref 19,.int (191) 0,.int (1) 0,.str "/claim/cut.py" 192],#[]⟩),
 (21,⟨.type "function",none,.func (fnOf "_wall" "_wall" (defArgs (top p 0)) (defBody (top p 0)) (defScope (top p 0)) (.none) (.none) (.none) (.str "__main__" 164) (none) (.ref 20) (.none)),#[]⟩),
 (25,⟨.type "code",none,.fields #[.str "heads_of" 196,.str "heads_of" 197,.str "/claim/cut.py" 198,.int (5) 0,.int (1) 0,.int (0) 0,.int (0) 0,.int (3) 0,.ref 22,.bool true,.int (181) 0,.ref 23,.none,.none,.none,.ref 24,.int (199) 0,.int (5) 0,.str "/claim/cut.py" 200],#[]⟩),
 (26,⟨.type "function",none,.func (fnOf "heads_of" "heads_of" (defArgs (top p 2)) (defBody (top p 2)) (defScope (top p 2)) (.none) (.none) (.none) (.str "wright.rules" 194) (none) (.ref 25) (.none)),#[]⟩),
 (30,⟨.type "code",none,.fields #[.str "words_in" 202,.str "words_in" 203,.str "/claim/cut.py" 204,.int (7) 0,.int (1) 0,.int (0) 0,.int (0) 0,.int (3) 0,.ref 27,.bool true,.int (181) 0,.ref 28,.none,.none,.none,.ref 29,.int (205) 0,.int (7) 0,.str "/claim/cut.py" 206],#[]⟩),
 (31,⟨.type "function",none,.func (fnOf "words_in" "words_in" (defArgs (top p 3)) (defBody (top p 3)) (defScope (top p 3)) (.none) (.none) (.none) (.str "wright.rules" 194) (none) (.ref 30) (.none)),#[]⟩),
 (35,⟨.type "code",none,.fields #[.str "numbers_by_name" 208,.str "numbers_by_name" 209,.str "/claim/cut.py" 210,.int (15) 0,.int (1) 0,.int (0) 0,.int (0) 0,.int (3) 0,.ref 32,.bool true,.int (181) 0,.ref 33,.none,.none,.none,.ref 34,.int (211) 0,.int (15) 0,.str "/claim/cut.py" 212],#[]⟩),
 (36,⟨.type "function",none,.func (fnOf "numbers_by_name" "numbers_by_name" (defArgs (top p 4)) (defBody (top p 4)) (defScope (top p 4)) (.none) (.none) (.none) (.str "wright.rules" 194) (none) (.ref 35) (.none)),#[]⟩),
 (42,⟨.type "code",none,.fields #[.str "standings_by_part" 214,.str "standings_by_part" 215,.str "/claim/cut.py" 216,.int (20) 0,.int (1) 0,.int (0) 0,.int (0) 0,.int (3) 0,.ref 37,.bool true,.int (181) 0,.ref 38,.none,.ref 39,.ref 40,.ref 41,.int (223) 0,.int (20) 0,.str "/claim/cut.py" 224],#[]⟩),
 (43,⟨.type "function",none,.func (fnOf "standings_by_part" "standings_by_part" (defArgs (top p 5)) (defBody (top p 5)) (defScope (top p 5)) (.none) (.none) (.none) (.str "wright.rules" 194) (none) (.ref 42) (.none)),#[]⟩),
 (47,⟨.type "code",none,.fields #[.str "found_empties" 228,.str "found_empties" 229,.str "/claim/cut.py" 230,.int (27) 0,.int (1) 0,.int (0) 0,.int (0) 0,.int (3) 0,.ref 44,.bool true,.int (181) 0,.ref 45,.none,.none,.none,.ref 46,.int (231) 0,.int (27) 0,.str "/claim/cut.py" 232],#[]⟩),
 (48,⟨.type "function",none,.func (fnOf "found_empties" "found_empties" (defArgs (top p 7)) (defBody (top p 7)) (defScope (top p 7)) (.none) (.none) (.none) (.str "wright.begin_tables" 226) (none) (.ref 47) (.none)),#[]⟩),
 (54,⟨.type "code",none,.fields #[.str "first_places" 234,.str "first_places" 235,.str "/claim/cut.py" 236,.int (38) 0,.int (2) 0,.int (0) 0,.int (0) 0,.int (3) 0,.ref 49,.bool true,.int (181) 0,.ref 50,.none,.ref 51,.ref 52,.ref 53,.int (242) 0,.int (38) 0,.str "/claim/cut.py" 243],#[]⟩),
 (55,⟨.type "function",none,.func (fnOf "first_places" "first_places" (defArgs (top p 8)) (defBody (top p 8)) (defScope (top p 8)) (.none) (.none) (.none) (.str "wright.begin_tables" 226) (none) (.ref 54) (.none)),#[]⟩),
 (66,⟨.type "code",none,.fields #[.str "__init__" 257,.str "BeginTable.__init__" 258,.str "/claim/cut.py" 259,.int (47) 0,.int (2) 0,.int (0) 0,.int (0) 0,.int (3) 0,.ref 63,.bool true,.int (181) 0,.ref 64,.none,.none,.none,.ref 65,.int (260) 0,.int (47) 0,.str "/claim/cut.py" 261],#[]⟩),
 (67,⟨.type "function",none,.func (fnOf "__init__" "BeginTable.__init__" (defArgs (meth p 9 0)) (defBody (meth p 9 0)) (defScope (meth p 9 0)) (.none) (.none) (.none) (.str "wright.begin_tables" 226) (none) (.ref 66) (.none)),#[]⟩),
 (73,⟨.type "code",none,.fields #[.str "find_begins" 263,.str "BeginTable.find_begins" 264,.str "/claim/cut.py" 265,.int (58) 0,.int (3) 0,.int (0) 0,.int (0) 0,.int (3) 0,.ref 68,.bool true,.int (181) 0,.ref 69,.none,.ref 70,.ref 71,.ref 72,.int (272) 0,.int (58) 0,.str "/claim/cut.py" 273],#[]⟩),
 (74,⟨.type "function",none,.func (fnOf "find_begins" "BeginTable.find_begins" (defArgs (meth p 9 1)) (defBody (meth p 9 1)) (defScope (meth p 9 1)) (.none) (.none) (.none) (.str "wright.begin_tables" 226) (none) (.ref 73) (.none)),#[]⟩),
 (80,⟨.type "code",none,.fields #[.str "words_of_part" 275,.str "BeginTable.words_of_part" 276,.str "/claim/cut.py" 277,.int (66) 0,.int (2) 0,.int (0) 0,.int (0) 0,.int (3) 0,.ref 75,.bool true,.int (181) 0,.ref 76,.none,.ref 77,.ref 78,.ref 79,.int (280) 0,.int (66) 0,.str "/claim/cut.py" 281],#[]⟩),
 (81,⟨.type "function",none,.func (fnOf "words_of_part" "BeginTable.words_of_part" (defArgs (meth p 9 2)) (defBody (meth p 9 2)) (defScope (meth p 9 2)) (.none) (.none) (.none) (.str "wright.begin_tables" 226) (none) (.ref 80) (.none)),#[]⟩),
 (87,⟨.type "code",none,.fields #[.str "first_words" 283,.str "BeginTable.first_words" 284,.str "/claim/cut.py" 285,.int (69) 0,.int (2) 0,.int (0) 0,.int (0) 0,.int (3) 0,.ref 82,.bool true,.int (181) 0,.ref 83,.none,.ref 84,.ref 85,.ref 86,.int (288) 0,.int (69) 0,.str "/claim/cut.py" 289],#[]⟩),
 (88,⟨.type "function",none,.func (fnOf "first_words" "BeginTable.first_words" (defArgs (meth p 9 3)) (defBody (meth p 9 3)) (defScope (meth p 9 3)) (.none) (.none) (.none) (.str "wright.begin_tables" 226) (none) (.ref 87) (.none)),#[]⟩),
 (94,⟨.type "code",none,.fields #[.str "all_empty" 291,.str "BeginTable.all_empty" 292,.str "/claim/cut.py" 293,.int (72) 0,.int (2) 0,.int (0) 0,.int (0) 0,.int (3) 0,.ref 89,.bool true,.int (181) 0,.ref 90,.none,.ref 91,.ref 92,.ref 93,.int (296) 0,.int (72) 0,.str "/claim/cut.py" 297],#[]⟩),
 (95,⟨.type "function",none,.func (fnOf "all_empty" "BeginTable.all_empty" (defArgs (meth p 9 4)) (defBody (meth p 9 4)) (defScope (meth p 9 4)) (.none) (.none) (.none) (.str "wright.begin_tables" 226) (none) (.ref 94) (.none)),#[]⟩),
 (101,⟨.type "code",none,.fields #[.str "words_of_parts" 299,.str "BeginTable.words_of_parts" 300,.str "/claim/cut.py" 301,.int (75) 0,.int (3) 0,.int (0) 0,.int (0) 0,.int (3) 0,.ref 96,.bool true,.int (181) 0,.ref 97,.none,.ref 98,.ref 99,.ref 100,.int (305) 0,.int (75) 0,.str "/claim/cut.py" 306],#[]⟩),
 (102,⟨.type "function",none,.func (fnOf "words_of_parts" "BeginTable.words_of_parts" (defArgs (meth p 9 5)) (defBody (meth p 9 5)) (defScope (meth p 9 5)) (.none) (.none) (.none) (.str "wright.begin_tables" 226) (none) (.ref 101) (.none)),#[]⟩),
 (104,⟨.type "dict",none,.dict #[dE P "__module__" 252 (.str "wright.begin_tables" 226),dE P "__firstlineno__" 256 (.int (45) 255),dE P "__init__" 262 (.ref 67),dE P "find_begins" 274 (.ref 74),dE P "words_of_part" 282 (.ref 81),dE P "first_words" 290 (.ref 88),dE P "all_empty" 298 (.ref 95),dE P "words_of_parts" 307 (.ref 102),dE P "__static_attributes__" 312 (.ref 103),dE P "__dict__" 314 (.ref 106),dE P "__weakref__" 316 (.ref 107),dE P "__doc__" 317 (.none)] 4,#[]⟩),
 (105,⟨.type "type",none,.cls ⟨"BeginTable",[.type "object"],[.ref 105,.type "object"],104,"BeginTable",true,[],[],false,none,false⟩,#[none,none,some (.str "BeginTable" 245),some (.str "BeginTable" 253),some (.builtin "object.__new__"),some (.bool true)]⟩),
 (106,⟨.type "getset_descriptor",none,.fields #[.str "__dict__" 313,.ref 105,.builtin "function.__dict__",.builtin "function.__dict__#set"],#[]⟩),
 (107,⟨.type "getset_descriptor",none,.fields #[.str "__weakref__" 315,.ref 105,.builtin "ExceptionGroup.__weakref__",.none],#[]⟩),
 (118,⟨.type "dict",none,.dict #[dE P "__module__" 329 (.str "wright.errors" 320),dE P "__firstlineno__" 333 (.int (78) 332),dE P "__static_attributes__" 334 (.ref 117),dE P "__weakref__" 336 (.ref 120),dE P "__doc__" 337 (.none)] 3,#[]⟩),
 (119,⟨.type "type",none,.cls ⟨"WrightError",[.type "ValueError"],[.ref 119,.type "ValueError",.type "Exception",.type "BaseException",.type "object"],118,"WrightError",true,[],[.ref 132,.ref 151,.ref 170,.ref 189,.ref 208,.ref 227],false,none,false⟩,#[some (.ref 110),none,some (.str "WrightError" 322),some (.str "WrightError" 330),some (.builtin "ValueError.__new__"),some (.bool true)]⟩),
 (120,⟨.type "getset_descriptor",none,.fields #[.str "__weakref__" 335,.ref 119,.builtin "ExceptionGroup.__weakref__",.none],#[]⟩),
 (131,⟨.type "dict",none,.dict #[dE P "__module__" 347 (.str "wright.errors" 320),dE P "__firstlineno__" 351 (.int (80) 350),dE P "__static_attributes__" 352 (.ref 130),dE P "__doc__" 353 (.none)] 2,#[]⟩),
 (132,⟨.type "type",none,.cls ⟨"NoRules",[.ref 119],[.ref 132,.ref 119,.type "ValueError",.type "Exception",.type "BaseException",.type "object"],131,"NoRules",true,[],[],false,none,false⟩,#[some (.ref 123),none,some (.str "NoRules" 340),some (.str "NoRules" 348),some (.builtin "ValueError.__new__"),some (.bool true)]⟩),
 (147,⟨.type "code",none,.fields #[.str "__init__" 368,.str "Twice.__init__" 369,.str "/claim/cut.py" 370,.int (84) 0,.int (2) 0,.int (0) 0,.int (0) 0,.int (3) 0,.ref 142,.bool true,.int (181) 0,.ref 143,.none,.ref 144,.ref 145,.ref 146,.int (373) 0,.int (84) 0,.str "/claim/cut.py" 374],#[]⟩),
 (148,⟨.type "function",none,.func (fnOf "__init__" "Twice.__init__" (defArgs (meth p 13 0)) (defBody (meth p 13 0)) (defScope (meth p 13 0)) (.none) (.none) (.none) (.str "wright.errors" 320) (none) (.ref 147) (.none)),#[]⟩),
 (150,⟨.type "dict",none,.dict #[dE P "__module__" 363 (.str "wright.errors" 320),dE P "__firstlineno__" 367 (.int (82) 366),dE P "__init__" 375 (.ref 148),dE P "__static_attributes__" 377 (.ref 149),dE P "__doc__" 378 (.none)] 2,#[]⟩),
 (151,⟨.type "type",none,.cls ⟨"Twice",[.ref 119],[.ref 151,.ref 119,.type "ValueError",.type "Exception",.type "BaseException",.type "object"],150,"Twice",true,[],[],false,none,false⟩,#[some (.ref 135),none,some (.str "Twice" 356),some (.str "Twice" 364),some (.builtin "ValueError.__new__"),some (.bool true)]⟩),
 (166,⟨.type "code",none,.fields #[.str "__init__" 393,.str "Endless.__init__" 394,.str "/claim/cut.py" 395,.int (89) 0,.int (2) 0,.int (0) 0,.int (0) 0,.int (3) 0,.ref 161,.bool true,.int (181) 0,.ref 162,.none,.ref 163,.ref 164,.ref 165,.int (398) 0,.int (89) 0,.str "/claim/cut.py" 399],#[]⟩),
 (167,⟨.type "function",none,.func (fnOf "__init__" "Endless.__init__" (defArgs (meth p 14 0)) (defBody (meth p 14 0)) (defScope (meth p 14 0)) (.none) (.none) (.none) (.str "wright.errors" 320) (none) (.ref 166) (.none)),#[]⟩),
 (169,⟨.type "dict",none,.dict #[dE P "__module__" 388 (.str "wright.errors" 320),dE P "__firstlineno__" 392 (.int (87) 391),dE P "__init__" 400 (.ref 167),dE P "__static_attributes__" 402 (.ref 168),dE P "__doc__" 403 (.none)] 2,#[]⟩),
 (170,⟨.type "type",none,.cls ⟨"Endless",[.ref 119],[.ref 170,.ref 119,.type "ValueError",.type "Exception",.type "BaseException",.type "object"],169,"Endless",true,[],[],false,none,false⟩,#[some (.ref 154),none,some (.str "Endless" 381),some (.str "Endless" 389),some (.builtin "ValueError.__new__"),some (.bool true)]⟩),
 (185,⟨.type "code",none,.fields #[.str "__init__" 418,.str "Unmet.__init__" 419,.str "/claim/cut.py" 420,.int (94) 0,.int (2) 0,.int (0) 0,.int (0) 0,.int (3) 0,.ref 180,.bool true,.int (181) 0,.ref 181,.none,.ref 182,.ref 183,.ref 184,.int (423) 0,.int (94) 0,.str "/claim/cut.py" 424],#[]⟩),
 (186,⟨.type "function",none,.func (fnOf "__init__" "Unmet.__init__" (defArgs (meth p 15 0)) (defBody (meth p 15 0)) (defScope (meth p 15 0)) (.none) (.none) (.none) (.str "wright.errors" 320) (none) (.ref 185) (.none)),#[]⟩),
 (188,⟨.type "dict",none,.dict #[dE P "__module__" 413 (.str "wright.errors" 320),dE P "__firstlineno__" 417 (.int (92) 416),dE P "__init__" 425 (.ref 186),dE P "__static_attributes__" 427 (.ref 187),dE P "__doc__" 428 (.none)] 2,#[]⟩),
 (189,⟨.type "type",none,.cls ⟨"Unmet",[.ref 119],[.ref 189,.ref 119,.type "ValueError",.type "Exception",.type "BaseException",.type "object"],188,"Unmet",true,[],[],false,none,false⟩,#[some (.ref 173),none,some (.str "Unmet" 406),some (.str "Unmet" 414),some (.builtin "ValueError.__new__"),some (.bool true)]⟩),
 (204,⟨.type "code",none,.fields #[.str "__init__" 443,.str "Loop.__init__" 444,.str "/claim/cut.py" 445,.int (99) 0,.int (2) 0,.int (0) 0,.int (0) 0,.int (3) 0,.ref 199,.bool true,.int (181) 0,.ref 200,.none,.ref 201,.ref 202,.ref 203,.int (448) 0,.int (99) 0,.str "/claim/cut.py" 449],#[]⟩),
 (205,⟨.type "function",none,.func (fnOf "__init__" "Loop.__init__" (defArgs (meth p 16 0)) (defBody (meth p 16 0)) (defScope (meth p 16 0)) (.none) (.none) (.none) (.str "wright.errors" 320) (none) (.ref 204) (.none)),#[]⟩),
 (207,⟨.type "dict",none,.dict #[dE P "__module__" 438 (.str "wright.errors" 320),dE P "__firstlineno__" 442 (.int (97) 441),dE P "__init__" 450 (.ref 205),dE P "__static_attributes__" 452 (.ref 206),dE P "__doc__" 453 (.none)] 2,#[]⟩),
 (208,⟨.type "type",none,.cls ⟨"Loop",[.ref 119],[.ref 208,.ref 119,.type "ValueError",.type "Exception",.type "BaseException",.type "object"],207,"Loop",true,[],[],false,none,false⟩,#[some (.ref 192),none,some (.str "Loop" 431),some (.str "Loop" 439),some (.builtin "ValueError.__new__"),some (.bool true)]⟩),
 (223,⟨.type "code",none,.fields #[.str "__init__" 468,.str "Vast.__init__" 469,.str "/claim/cut.py" 470,.int (104) 0,.int (2) 0,.int (0) 0,.int (0) 0,.int (3) 0,.ref 218,.bool true,.int (181) 0,.ref 219,.none,.ref 220,.ref 221,.ref 222,.int (473) 0,.int (104) 0,.str "/claim/cut.py" 474],#[]⟩),
 (224,⟨.type "function",none,.func (fnOf "__init__" "Vast.__init__" (defArgs (meth p 17 0)) (defBody (meth p 17 0)) (defScope (meth p 17 0)) (.none) (.none) (.none) (.str "wright.errors" 320) (none) (.ref 223) (.none)),#[]⟩),
 (226,⟨.type "dict",none,.dict #[dE P "__module__" 463 (.str "wright.errors" 320),dE P "__firstlineno__" 467 (.int (102) 466),dE P "__init__" 475 (.ref 224),dE P "__static_attributes__" 477 (.ref 225),dE P "__doc__" 478 (.none)] 2,#[]⟩),
 (227,⟨.type "type",none,.cls ⟨"Vast",[.ref 119],[.ref 227,.ref 119,.type "ValueError",.type "Exception",.type "BaseException",.type "object"],226,"Vast",true,[],[],false,none,false⟩,#[some (.ref 211),none,some (.str "Vast" 456),some (.str "Vast" 464),some (.builtin "ValueError.__new__"),some (.bool true)]⟩),
 (233,⟨.type "code",none,.fields #[.str "find_loop" 483,.str "find_loop" 484,.str "/claim/cut.py" 485,.int (108) 0,.int (1) 0,.int (0) 0,.int (0) 0,.int (3) 0,.ref 230,.bool true,.int (181) 0,.ref 231,.none,.none,.none,.ref 232,.int (486) 0,.int (108) 0,.str "/claim/cut.py" 487],#[]⟩),
 (234,⟨.type "function",none,.func (fnOf "find_loop" "find_loop" (defArgs (top p 19)) (defBody (top p 19)) (defScope (top p 19)) (.none) (.none) (.none) (.str "wright.loops" 481) (none) (.ref 233) (.none)),#[]⟩),
 (238,⟨.type "code",none,.fields #[.str "steps_with_like_rows" 489,.str "steps_with_like_rows" 490,.str "/claim/cut.py" 491,.int (112) 0,.int (1) 0,.int (0) 0,.int (0) 0,.int (3) 0,.ref 235,.bool true,.int (181) 0,.ref 236,.none,.none,.none,.ref 237,.int (492) 0,.int (112) 0,.str "/claim/cut.py" 493],#[]⟩),
 (239,⟨.type "function",none,.func (fnOf "steps_with_like_rows" "steps_with_like_rows" (defArgs (top p 20)) (defBody (top p 20)) (defScope (top p 20)) (.none) (.none) (.none) (.str "wright.loops" 481) (none) (.ref 238) (.none)),#[]⟩),
 (245,⟨.type "code",none,.fields #[.str "way_back" 495,.str "way_back" 496,.str "/claim/cut.py" 497,.int (121) 0,.int (3) 0,.int (0) 0,.int (0) 0,.int (3) 0,.ref 240,.bool true,.int (181) 0,.ref 241,.none,.ref 242,.ref 243,.ref 244,.int (508) 0,.int (121) 0,.str "/claim/cut.py" 509],#[]⟩),
 (246,⟨.type "function",none,.func (fnOf "way_back" "way_back" (defArgs (top p 21)) (defBody (top p 21)) (defScope (top p 21)) (.none) (.none) (.none) (.str "wright.loops" 481) (none) (.ref 245) (.none)),#[]⟩),
 (250,⟨.type "code",none,.fields #[.str "least_sizes" 513,.str "least_sizes" 514,.str "/claim/cut.py" 515,.int (137) 0,.int (1) 0,.int (0) 0,.int (0) 0,.int (3) 0,.ref 247,.bool true,.int (181) 0,.ref 248,.none,.none,.none,.ref 249,.int (516) 0,.int (137) 0,.str "/claim/cut.py" 517],#[]⟩),
 (251,⟨.type "function",none,.func (fnOf "least_sizes" "least_sizes" (defArgs (top p 23)) (defBody (top p 23)) (defScope (top p 23)) (.none) (.none) (.none) (.str "wright.tree_sizes" 511) (none) (.ref 250) (.none)),#[]⟩),
 (257,⟨.type "code",none,.fields #[.str "greatest_empty_sizes" 519,.str "greatest_empty_sizes" 520,.str "/claim/cut.py" 521,.int (139) 0,.int (1) 0,.int (0) 0,.int (0) 0,.int (3) 0,.ref 252,.bool true,.int (181) 0,.ref 253,.none,.ref 254,.ref 255,.ref 256,.int (523) 0,.int (139) 0,.str "/claim/cut.py" 524],#[]⟩),
 (258,⟨.type "function",none,.func (fnOf "greatest_empty_sizes" "greatest_empty_sizes" (defArgs (top p 24)) (defBody (top p 24)) (defScope (top p 24)) (.none) (.none) (.none) (.str "wright.tree_sizes" 511) (none) (.ref 257) (.none)),#[]⟩),
 (262,⟨.type "code",none,.fields #[.str "settled_sizes" 526,.str "settled_sizes" 527,.str "/claim/cut.py" 528,.int (141) 0,.int (3) 0,.int (0) 0,.int (0) 0,.int (3) 0,.ref 259,.bool true,.int (181) 0,.ref 260,.none,.none,.none,.ref 261,.int (529) 0,.int (141) 0,.str "/claim/cut.py" 530],#[]⟩),
 (263,⟨.type "function",none,.func (fnOf "settled_sizes" "settled_sizes" (defArgs (top p 25)) (defBody (top p 25)) (defScope (top p 25)) (.none) (.none) (.none) (.str "wright.tree_sizes" 511) (none) (.ref 262) (.none)),#[]⟩),
 (267,⟨.type "code",none,.fields #[.str "refuse_faults" 536,.str "refuse_faults" 537,.str "/claim/cut.py" 538,.int (154) 0,.int (2) 0,.int (0) 0,.int (0) 0,.int (3) 0,.ref 264,.bool true,.int (181) 0,.ref 265,.none,.none,.none,.ref 266,.int (539) 0,.int (154) 0,.str "/claim/cut.py" 540],#[]⟩),
 (268,⟨.type "function",none,.func (fnOf "refuse_faults" "refuse_faults" (defArgs (top p 28)) (defBody (top p 28)) (defScope (top p 28)) (.none) (.none) (.none) (.str "wright.grammar_faults" 532) (none) (.ref 267) (.none)),#[]⟩),
 (274,⟨.type "code",none,.fields #[.str "refuse_twice" 542,.str "refuse_twice" 543,.str "/claim/cut.py" 544,.int (173) 0,.int (1) 0,.int (0) 0,.int (0) 0,.int (3) 0,.ref 269,.bool true,.int (181) 0,.ref 270,.none,.ref 271,.ref 272,.ref 273,.int (550) 0,.int (173) 0,.str "/claim/cut.py" 551],#[]⟩),
 (275,⟨.type "function",none,.func (fnOf "refuse_twice" "refuse_twice" (defArgs (top p 29)) (defBody (top p 29)) (defScope (top p 29)) (.none) (.none) (.none) (.str "wright.grammar_faults" 532) (none) (.ref 274) (.none)),#[]⟩),
 (279,⟨.type "code",none,.fields #[.str "names_met" 553,.str "names_met" 554,.str "/claim/cut.py" 555,.int (180) 0,.int (1) 0,.int (0) 0,.int (0) 0,.int (3) 0,.ref 276,.bool true,.int (181) 0,.ref 277,.none,.none,.none,.ref 278,.int (556) 0,.int (180) 0,.str "/claim/cut.py" 557],#[]⟩),
 (280,⟨.type "function",none,.func (fnOf "names_met" "names_met" (defArgs (top p 30)) (defBody (top p 30)) (defScope (top p 30)) (.none) (.none) (.none) (.str "wright.grammar_faults" 532) (none) (.ref 279) (.none)),#[]⟩),
 (284,⟨.type "code",none,.fields #[.str "least_by_part" 561,.str "least_by_part" 562,.str "/claim/cut.py" 563,.int (190) 0,.int (1) 0,.int (0) 0,.int (0) 0,.int (3) 0,.ref 281,.bool true,.int (181) 0,.ref 282,.none,.none,.none,.ref 283,.int (564) 0,.int (190) 0,.str "/claim/cut.py" 565],#[]⟩),
 (285,⟨.type "function",none,.func (fnOf "least_by_part" "least_by_part" (defArgs (top p 32)) (defBody (top p 32)) (defScope (top p 32)) (.none) (.none) (.none) (.str "wright.least_trees" 559) (none) (.ref 284) (.none)),#[]⟩),
 (289,⟨.type "code",none,.fields #[.str "rule_size" 567,.str "rule_size" 568,.str "/claim/cut.py" 569,.int (198) 0,.int (2) 0,.int (0) 0,.int (0) 0,.int (3) 0,.ref 286,.bool true,.int (181) 0,.ref 287,.none,.none,.none,.ref 288,.int (570) 0,.int (198) 0,.str "/claim/cut.py" 571],#[]⟩),
 (290,⟨.type "function",none,.func (fnOf "rule_size" "rule_size" (defArgs (top p 33)) (defBody (top p 33)) (defScope (top p 33)) (.none) (.none) (.none) (.str "wright.least_trees" 559) (none) (.ref 289) (.none)),#[]⟩),
 (294,⟨.type "code",none,.fields #[.str "empty_by_name" 573,.str "empty_by_name" 574,.str "/claim/cut.py" 575,.int (200) 0,.int (2) 0,.int (0) 0,.int (0) 0,.int (3) 0,.ref 291,.bool true,.int (181) 0,.ref 292,.none,.none,.none,.ref 293,.int (576) 0,.int (200) 0,.str "/claim/cut.py" 577],#[]⟩),
 (295,⟨.type "function",none,.func (fnOf "empty_by_name" "empty_by_name" (defArgs (top p 34)) (defBody (top p 34)) (defScope (top p 34)) (.none) (.none) (.none) (.str "wright.least_trees" 559) (none) (.ref 294) (.none)),#[]⟩),
 (306,⟨.type "code",none,.fields #[.str "__init__" 591,.str "LeastTrees.__init__" 592,.str "/claim/cut.py" 593,.int (207) 0,.int (3) 0,.int (0) 0,.int (0) 0,.int (3) 0,.ref 303,.bool true,.int (181) 0,.ref 304,.none,.none,.none,.ref 305,.int (594) 0,.int (207) 0,.str "/claim/cut.py" 595],#[]⟩),
 (307,⟨.type "function",none,.func (fnOf "__init__" "LeastTrees.__init__" (defArgs (meth p 35 0)) (defBody (meth p 35 0)) (defScope (meth p 35 0)) (.none) (.none) (.none) (.str "wright.least_trees" 559) (none) (.ref 306) (.none)),#[]⟩),
 (313,⟨.type "code",none,.fields #[.str "least_of" 597,.str "LeastTrees.least_of" 598,.str "/claim/cut.py" 599,.int (214) 0,.int (2) 0,.int (0) 0,.int (0) 0,.int (3) 0,.ref 308,.bool true,.int (181) 0,.ref 309,.none,.ref 310,.ref 311,.ref 312,.int (602) 0,.int (214) 0,.str "/claim/cut.py" 603],#[]⟩),
 (314,⟨.type "function",none,.func (fnOf "least_of" "LeastTrees.least_of" (defArgs (meth p 35 1)) (defBody (meth p 35 1)) (defScope (meth p 35 1)) (.none) (.none) (.none) (.str "wright.least_trees" 559) (none) (.ref 313) (.none)),#[]⟩),
 (320,⟨.type "code",none,.fields #[.str "hollow_of" 605,.str "LeastTrees.hollow_of" 606,.str "/claim/cut.py" 607,.int (217) 0,.int (2) 0,.int (0) 0,.int (0) 0,.int (3) 0,.ref 315,.bool true,.int (181) 0,.ref 316,.none,.ref 317,.ref 318,.ref 319,.int (610) 0,.int (217) 0,.str "/claim/cut.py" 611],#[]⟩),
 (321,⟨.type "function",none,.func (fnOf "hollow_of" "LeastTrees.hollow_of" (defArgs (meth p 35 2)) (defBody (meth p 35 2)) (defScope (meth p 35 2)) (.none) (.none) (.none) (.str "wright.least_trees" 559) (none) (.ref 320) (.none)),#[]⟩),
 (327,⟨.type "code",none,.fields #[.str "begun_place" 613,.str "LeastTrees.begun_place" 614,.str "/claim/cut.py" 615,.int (220) 0,.int (3) 0,.int (0) 0,.int (0) 0,.int (3) 0,.ref 322,.bool true,.int (181) 0,.ref 323,.none,.ref 324,.ref 325,.ref 326,.int (619) 0,.int (220) 0,.str "/claim/cut.py" 620],#[]⟩),
 (328,⟨.type "function",none,.func (fnOf "begun_place" "LeastTrees.begun_place" (defArgs (meth p 35 3)) (defBody (meth p 35 3)) (defScope (meth p 35 3)) (.none) (.none) (.none) (.str "wright.least_trees" 559) (none) (.ref 327) (.none)),#[]⟩),
 (334,⟨.type "code",none,.fields #[.str "begun_of" 622,.str "LeastTrees.begun_of" 623,.str "/claim/cut.py" 624,.int (223) 0,.int (4) 0,.int (0) 0,.int (0) 0,.int (3) 0,.ref 329,.bool true,.int (181) 0,.ref 330,.none,.ref 331,.ref 332,.ref 333,.int (629) 0,.int (223) 0,.str "/claim/cut.py" 630],#[]⟩),
 (335,⟨.type "function",none,.func (fnOf "begun_of" "LeastTrees.begun_of" (defArgs (meth p 35 4)) (defBody (meth p 35 4)) (defScope (meth p 35 4)) (.none) (.none) (.none) (.str "wright.least_trees" 559) (none) (.ref 334) (.none)),#[]⟩),
 (337,⟨.type "dict",none,.dict #[dE P "__module__" 586 (.str "wright.least_trees" 559),dE P "__firstlineno__" 590 (.int (205) 589),dE P "__init__" 596 (.ref 307),dE P "least_of" 604 (.ref 314),dE P "hollow_of" 612 (.ref 321),dE P "begun_place" 621 (.ref 328),dE P "begun_of" 631 (.ref 335),dE P "__static_attributes__" 637 (.ref 336),dE P "__dict__" 639 (.ref 339),dE P "__weakref__" 641 (.ref 340),dE P "__doc__" 642 (.none)] 4,#[]⟩),
 (338,⟨.type "type",none,.cls ⟨"LeastTrees",[.type "object"],[.ref 338,.type "object"],337,"LeastTrees",true,[],[],false,none,false⟩,#[none,none,some (.str "LeastTrees" 579),some (.str "LeastTrees" 587),some (.builtin "object.__new__"),some (.bool true)]⟩),
 (339,⟨.type "getset_descriptor",none,.fields #[.str "__dict__" 638,.ref 338,.builtin "function.__dict__",.builtin "function.__dict__#set"],#[]⟩),
 (340,⟨.type "getset_descriptor",none,.fields #[.str "__weakref__" 640,.ref 338,.builtin "ExceptionGroup.__weakref__",.none],#[]⟩),
 (350,⟨.type "tuple",none,.seq #[.none] 0,#[]⟩),
 (356,⟨.type "code",none,.fields #[.str "__init__" 659,.str "Grammar.__init__" 660,.str "/claim/cut.py" 661,.int (228) 0,.int (3) 0,.int (0) 0,.int (0) 0,.int (3) 0,.ref 351,.bool true,.int (181) 0,.ref 352,.none,.ref 353,.ref 354,.ref 355,.int (665) 0,.int (228) 0,.str "/claim/cut.py" 666],#[]⟩),
 (357,⟨.type "function",none,.func (fnOf "__init__" "Grammar.__init__" (defArgs (meth p 37 0)) (defBody (meth p 37 0)) (defScope (meth p 37 0)) (.ref 350) (.none) (.none) (.str "wright.grammars" 645) (none) (.ref 356) (.none)),#[]⟩),
 (363,⟨.type "code",none,.fields #[.str "start" 668,.str "Grammar.start" 669,.str "/claim/cut.py" 670,.int (236) 0,.int (1) 0,.int (0) 0,.int (0) 0,.int (3) 0,.ref 358,.bool true,.int (181) 0,.ref 359,.none,.ref 360,.ref 361,.ref 362,.int (672) 0,.int (236) 0,.str "/claim/cut.py" 673],#[]⟩),
 (364,⟨.type "function",none,.func (fnOf "start" "Grammar.start" (defArgs (meth p 37 1)) (defBody (meth p 37 1)) (defScope (meth p 37 1)) (.none) (.none) (.none) (.str "wright.grammars" 645) (none) (.ref 363) (.none)),#[]⟩),
 (366,⟨.type "dict",none,.dict #[dE P "__module__" 654 (.str "wright.grammars" 645),dE P "__firstlineno__" 658 (.int (226) 657),dE P "__init__" 667 (.ref 357),dE P "start" 674 (.ref 364),dE P "__static_attributes__" 680 (.ref 365),dE P "__dict__" 682 (.ref 368),dE P "__weakref__" 684 (.ref 369),dE P "__doc__" 685 (.none)] 4,#[]⟩),
 (367,⟨.type "type",none,.cls ⟨"Grammar",[.type "object"],[.ref 367,.type "object"],366,"Grammar",true,[],[],false,none,false⟩,#[none,none,some (.str "Grammar" 647),some (.str "Grammar" 655),some (.builtin "object.__new__"),some (.bool true)]⟩),
 (368,⟨.type "getset_descriptor",none,.fields #[.str "__dict__" 681,.ref 367,.builtin "function.__dict__",.builtin "function.__dict__#set"],#[]⟩),
 (369,⟨.type "getset_descriptor",none,.fields #[.str "__weakref__" 683,.ref 367,.builtin "ExceptionGroup.__weakref__",.none],#[]⟩),
 (377,⟨.type "code",none,.fields #[.str "_law_cell_at" 690,.str "_law_cell_at" 691,.str "/claim/cut.py" 692,.int (239) 0,.int (2) 0,.int (0) 0,.int (0) 0,.int (3) 0,.ref 372,.bool true,.int (181) 0,.ref 373,.none,.ref 374,.ref 375,.ref 376,.int (695) 0,.int (239) 0,.str "/claim/cut.py" 696],#[]⟩),
 (378,⟨.type "function",none,.func (fnOf "_law_cell_at" "_law_cell_at" (defArgs (top p 39)) (defBody (top p 39)) (defScope (top p 39)) (.none) (.none) (.none) (.str "law_wright_k11_grammars_kept" 688) (none) (.ref 377) (.none)),#[]⟩),
 (384,⟨.type "code",none,.fields #[.str "_law_stream" 698,.str "_law_stream" 699,.str "/claim/cut.py" 700,.int (243) 0,.int (2) 0,.int (0) 0,.int (0) 0,.int (3) 0,.ref 379,.bool true,.int (181) 0,.ref 380,.none,.ref 381,.ref 382,.ref 383,.int (706) 0,.int (243) 0,.str "/claim/cut.py" 707],#[]⟩),
 (385,⟨.type "function",none,.func (fnOf "_law_stream" "_law_stream" (defArgs (top p 40)) (defBody (top p 40)) (defScope (top p 40)) (.none) (.none) (.none) (.str "law_wright_k11_grammars_kept" 688) (none) (.ref 384) (.none)),#[]⟩),
 (389,⟨.type "code",none,.fields #[.str "_law_pool" 709,.str "_law_pool" 710,.str "/claim/cut.py" 711,.int (250) 0,.int (2) 0,.int (0) 0,.int (0) 0,.int (3) 0,.ref 386,.bool true,.int (181) 0,.ref 387,.none,.none,.none,.ref 388,.int (712) 0,.int (250) 0,.str "/claim/cut.py" 713],#[]⟩),
 (390,⟨.type "function",none,.func (fnOf "_law_pool" "_law_pool" (defArgs (top p 41)) (defBody (top p 41)) (defScope (top p 41)) (.none) (.none) (.none) (.str "law_wright_k11_grammars_kept" 688) (none) (.ref 389) (.none)),#[]⟩),
 (396,⟨.type "code",none,.fields #[.str "_law_digits" 715,.str "_law_digits" 716,.str "/claim/cut.py" 717,.int (262) 0,.int (2) 0,.int (0) 0,.int (0) 0,.int (3) 0,.ref 391,.bool true,.int (181) 0,.ref 392,.none,.ref 393,.ref 394,.ref 395,.int (722) 0,.int (262) 0,.str "/claim/cut.py" 723],#[]⟩),
 (397,⟨.type "function",none,.func (fnOf "_law_digits" "_law_digits" (defArgs (top p 42)) (defBody (top p 42)) (defScope (top p 42)) (.none) (.none) (.none) (.str "law_wright_k11_grammars_kept" 688) (none) (.ref 396) (.none)),#[]⟩),
 (401,⟨.type "code",none,.fields #[.str "_law_first" 725,.str "_law_first" 726,.str "/claim/cut.py" 727,.int (270) 0,.int (4) 0,.int (0) 0,.int (0) 0,.int (3) 0,.ref 398,.bool true,.int (181) 0,.ref 399,.none,.none,.none,.ref 400,.int (728) 0,.int (270) 0,.str "/claim/cut.py" 729],#[]⟩),
 (402,⟨.type "function",none,.func (fnOf "_law_first" "_law_first" (defArgs (top p 43)) (defBody (top p 43)) (defScope (top p 43)) (.none) (.none) (.none) (.str "law_wright_k11_grammars_kept" 688) (none) (.ref 401) (.none)),#[]⟩),
 (406,⟨.type "code",none,.fields #[.str "_law_rule" 731,.str "_law_rule" 732,.str "/claim/cut.py" 733,.int (277) 0,.int (3) 0,.int (0) 0,.int (0) 0,.int (3) 0,.ref 403,.bool true,.int (181) 0,.ref 404,.none,.none,.none,.ref 405,.int (734) 0,.int (277) 0,.str "/claim/cut.py" 735],#[]⟩),
 (407,⟨.type "function",none,.func (fnOf "_law_rule" "_law_rule" (defArgs (top p 44)) (defBody (top p 44)) (defScope (top p 44)) (.none) (.none) (.none) (.str "law_wright_k11_grammars_kept" 688) (none) (.ref 406) (.none)),#[]⟩),
 (411,⟨.type "code",none,.fields #[.str "_law_rules" 737,.str "_law_rules" 738,.str "/claim/cut.py" 739,.int (284) 0,.int (4) 0,.int (0) 0,.int (0) 0,.int (3) 0,.ref 408,.bool true,.int (181) 0,.ref 409,.none,.none,.none,.ref 410,.int (740) 0,.int (284) 0,.str "/claim/cut.py" 741],#[]⟩),
 (412,⟨.type "function",none,.func (fnOf "_law_rules" "_law_rules" (defArgs (top p 45)) (defBody (top p 45)) (defScope (top p 45)) (.none) (.none) (.none) (.str "law_wright_k11_grammars_kept" 688) (none) (.ref 411) (.none)),#[]⟩),
 (418,⟨.type "code",none,.fields #[.str "_law_strengths" 743,.str "_law_strengths" 744,.str "/claim/cut.py" 745,.int (288) 0,.int (2) 0,.int (0) 0,.int (0) 0,.int (3) 0,.ref 413,.bool true,.int (181) 0,.ref 414,.none,.ref 415,.ref 416,.ref 417,.int (752) 0,.int (288) 0,.str "/claim/cut.py" 753],#[]⟩),
 (419,⟨.type "function",none,.func (fnOf "_law_strengths" "_law_strengths" (defArgs (top p 46)) (defBody (top p 46)) (defScope (top p 46)) (.none) (.none) (.none) (.str "law_wright_k11_grammars_kept" 688) (none) (.ref 418) (.none)),#[]⟩),
 (423,⟨.type "code",none,.fields #[.str "_law_tuples" 755,.str "_law_tuples" 756,.str "/claim/cut.py" 757,.int (297) 0,.int (2) 0,.int (0) 0,.int (0) 0,.int (3) 0,.ref 420,.bool true,.int (181) 0,.ref 421,.none,.none,.none,.ref 422,.int (758) 0,.int (297) 0,.str "/claim/cut.py" 759],#[]⟩),
 (424,⟨.type "function",none,.func (fnOf "_law_tuples" "_law_tuples" (defArgs (top p 47)) (defBody (top p 47)) (defScope (top p 47)) (.none) (.none) (.none) (.str "law_wright_k11_grammars_kept" 688) (none) (.ref 423) (.none)),#[]⟩),
 (430,⟨.type "code",none,.fields #[.str "law" 761,.str "law" 762,.str "/claim/cut.py" 763,.int (306) 0,.int (1) 0,.int (0) 0,.int (0) 0,.int (3) 0,.ref 425,.bool true,.int (181) 0,.ref 426,.none,.ref 427,.ref 428,.ref 429,.int (774) 0,.int (306) 0,.str "/claim/cut.py" 775],#[]⟩),
 (431,⟨.type "function",none,.func (fnOf "law" "law" (defArgs (top p 48)) (defBody (top p 48)) (defScope (top p 48)) (.none) (.none) (.none) (.str "law_wright_k11_grammars_kept" 688) (none) (.ref 430) (.none)),#[]⟩)]
def as:List Addr:=[2,3,20,21,25,26,30,31,35,36,42,43,47,48,54,55,66,67,73,74,80,81,87,88,94,95,101,102,104,105,106,107,118,119,120,131,132,147,148,150,151,166,167,169,170,185,186,188,189,204,205,207,208,223,224,226,227,233,234,238,239,245,246,250,251,257,258,262,263,267,268,274,275,279,280,284,285,289,290,294,295,306,307,313,314,320,321,327,328,334,335,337,338,339,340,350,356,357,363,364,366,367,368,369,377,378,384,385,389,390,396,397,401,402,406,407,411,412,418,419,423,424,430,431]
def q' (p:Program):Program:=view p [0,2,3,4,5,7,8,9,11,12,13,14,15,16,17,19,20,21,23,24,25,27,28,29,30,32,33,34,35,37,39,40,41,42,43,44,45,46,47,48]
abbrev loose:List Str:=[]
abbrev steps:Nat:=3566
abbrev bound:Nat:=8112
abbrev law:OpenLaw:=PySem.Challenge.rw_wright_k11_grammars_kept
noncomputable abbrev K (P:Params):Frag:=K' PySem.Challenge.pw_wright_k11_grammars_kept P
theorem as_eq (P:Params):as=(K P).map (·.1):=by kernel_rfl
noncomputable abbrev hook:Hook:=kmHook K as as_eq [282,253,248]
theorem pre (h:law.row.wellSaid=true→law.row.Holds):law.Holds:=by
 o_law
 exact h (by assumption)
abbrev Xt:Shared→Bool:=fun s=>xlAt (q' PySem.Challenge.pw_wright_k11_grammars_kept) [] s && recOk (RowW.records (OpenRow.toRowW (OpenLaw.row PySem.Challenge.rw_wright_k11_grammars_kept))) s
theorem run (w:World) (os:OsState):(runT (stepT (denote treeTable) PySem.Challenge.pw_wright_k11_grammars_kept w) (stepOk 11 (some (.ref 6))) steps ⟨bootT w.params,11,{},Array.mk [],boot_drawn,boot_toks,os⟩ (topStub PySem.Challenge.pw_wright_k11_grammars_kept)).map
  (seenT (looks PySem.Challenge.pw_wright_k11_grammars_kept (q' PySem.Challenge.pw_wright_k11_grammars_kept) loose Xt (Hook.obs hook) true (boot_heap w.params)))=some (true,openGood (q' PySem.Challenge.pw_wright_k11_grammars_kept) loose,Hook.val hook w):=by
 rw [PySem.W.Fast.te10156331382660048174,PySem.W.Fast.te11892475500146522536,PySem.W.Fast.te14364793385576792824,PySem.W.Fast.te6613529449190102663,PySem.W.Fast.te10156049187059087578]
 kernel_rfl
theorem size (w:World):((boot_heap w.params).isNs mainGlobals && (Array.mk []:Array GenState).size == 0,(boot_heap w.params).objs.size,(boot_heap w.params).nsMap mainGlobals "__annotations__")=(true,11,some (.ref 6)):=by kernel_rfl
theorem open_:∀ w:World,(fencedOpening treeTable PySem.Challenge.pw_wright_k11_grammars_kept w bound).map (fun s=>(s.heap,s.gens,s.drawn,s.toks))=some (boot_heap w.params,Array.mk [],boot_drawn,boot_toks) :=
 boot_open (by kernel_rfl) (by decide +kernel) (fun s=>by kernel_rfl)
theorem left:LeftO (OpenRow.toRowW law.row).prog (q' PySem.Challenge.pw_wright_k11_grammars_kept) loose Xt (Hook.obs hook) (Hook.val hook) bound:=leftT open_ size run (by decide +kernel)
def lawRec:DefRec:={ name := "law",params:=defArgs (top PySem.Challenge.pw_wright_k11_grammars_kept 48),body:=defBody (top PySem.Challenge.pw_wright_k11_grammars_kept 48),scope:=defScope (top PySem.Challenge.pw_wright_k11_grammars_kept 48),pos:=posOf (top PySem.Challenge.pw_wright_k11_grammars_kept 48) }
theorem ok1:defOf (q' PySem.Challenge.pw_wright_k11_grammars_kept) law.row.name=some (lawRec,[]):=by kernel_rfl
theorem ok2:law.row.prog.theDef law.row.name=some (lawRec.params,lawRec.body,lawRec.scope):=by kernel_rfl
theorem ok3:kwWritten? lawRec.params.kwonlyargs lawRec.params.kw_defaults=some []:=by kernel_rfl
theorem ok4:(chainsOk (q' PySem.Challenge.pw_wright_k11_grammars_kept) && opensWell law.row.prog && (frees law.row.toRowW && law.row.within.isEmpty))=true:=by kernel_rfl
theorem ok5:lawRec.params.defaults=[]:=by kernel_rfl
theorem hold (h:WalkO (q' PySem.Challenge.pw_wright_k11_grammars_kept) loose (XL (q' PySem.Challenge.pw_wright_k11_grammars_kept) []) (Hook.says hook) law.row.toRowW lawRec [] fun f vs=>PySem.call f vs) (hw:law.row.toRowW.promised):law.Holds :=
 pre fun said=>holds_open (q:=q' PySem.Challenge.pw_wright_k11_grammars_kept) (loose:=loose) (Xt:=Xt) (XP:=XL (q' PySem.Challenge.pw_wright_k11_grammars_kept) []) (Yf:=Hook.obs hook) (Ya:=Hook.val hook) (YP:=Hook.says hook) (N:=bound) left (Hook.of hook) (Hook.keeps hook) (fun s e=>xl_of s (Bool.and_eq_true_iff.mp e).1) XL.keeps ok1 ok2 ok3 (fun s e=>recFacts_of (Bool.and_eq_true_iff.mp e).2) rfl said ok4 ⟨rfl,rfl,rfl,rfl,rfl,by decide +kernel⟩ hw h
end HD
namespace HD
open PySem PySem.W
theorem tops (P:Params):K11.Top (K P) 105 367 338 248 253 282 534:=⟨by kernel_rfl,
 by kernel_rfl,
 by kernel_rfl,
 by kernel_rfl,
 by kernel_rfl,
 ⟨26,.type "function",none,none,#[],.none,.none,.str "wright.rules" 194,.ref 25,.none,by kernel_rfl,by kernel_rfl,by kernel_rfl,by kernel_rfl⟩,
 ⟨36,.type "function",none,none,#[],.none,.none,.str "wright.rules" 194,.ref 35,.none,by kernel_rfl,by kernel_rfl,by kernel_rfl,by kernel_rfl⟩,
 ⟨43,.type "function",none,none,#[],.none,.none,.str "wright.rules" 194,.ref 42,.none,by kernel_rfl,by kernel_rfl,by kernel_rfl,by kernel_rfl⟩,
 ⟨290,.type "function",none,none,#[],.none,.none,.str "wright.least_trees" 559,.ref 289,.none,by kernel_rfl,by kernel_rfl,by kernel_rfl,by kernel_rfl⟩,
 ⟨295,.type "function",none,none,#[],.none,.none,.str "wright.least_trees" 559,.ref 294,.none,by kernel_rfl,by kernel_rfl,by kernel_rfl,by kernel_rfl⟩,
 ⟨31,.type "function",none,none,#[],.none,.none,.str "wright.rules" 194,.ref 30,.none,by kernel_rfl,by kernel_rfl,by kernel_rfl,by kernel_rfl⟩,
 ⟨48,.type "function",none,none,#[],.none,.none,.str "wright.begin_tables" 226,.ref 47,.none,by kernel_rfl,by kernel_rfl,by kernel_rfl,by kernel_rfl⟩,
 ⟨55,.type "function",none,none,#[],.none,.none,.str "wright.begin_tables" 226,.ref 54,.none,by kernel_rfl,by kernel_rfl,by kernel_rfl,by kernel_rfl⟩,
 ⟨246,.type "function",none,none,#[],.none,.none,.str "wright.loops" 481,.ref 245,.none,by kernel_rfl,by kernel_rfl,by kernel_rfl,by kernel_rfl⟩,
 ⟨239,.type "function",none,none,#[],.none,.none,.str "wright.loops" 481,.ref 238,.none,by kernel_rfl,by kernel_rfl,by kernel_rfl,by kernel_rfl⟩,
 ⟨234,.type "function",none,none,#[],.none,.none,.str "wright.loops" 481,.ref 233,.none,by kernel_rfl,by kernel_rfl,by kernel_rfl,by kernel_rfl⟩,
 ⟨275,.type "function",none,none,#[],.none,.none,.str "wright.grammar_faults" 532,.ref 274,.none,by kernel_rfl,by kernel_rfl,by kernel_rfl,by kernel_rfl⟩,
 ⟨280,.type "function",none,none,#[],.none,.none,.str "wright.grammar_faults" 532,.ref 279,.none,by kernel_rfl,by kernel_rfl,by kernel_rfl,by kernel_rfl⟩,
 ⟨378,.type "function",none,none,#[],.none,.none,.str "law_wright_k11_grammars_kept" 688,.ref 377,.none,by kernel_rfl,by kernel_rfl,by kernel_rfl,by kernel_rfl⟩,
 ⟨385,.type "function",none,none,#[],.none,.none,.str "law_wright_k11_grammars_kept" 688,.ref 384,.none,by kernel_rfl,by kernel_rfl,by kernel_rfl,by kernel_rfl⟩,
 ⟨390,.type "function",none,none,#[],.none,.none,.str "law_wright_k11_grammars_kept" 688,.ref 389,.none,by kernel_rfl,by kernel_rfl,by kernel_rfl,by kernel_rfl⟩,
 ⟨397,.type "function",none,none,#[],.none,.none,.str "law_wright_k11_grammars_kept" 688,.ref 396,.none,by kernel_rfl,by kernel_rfl,by kernel_rfl,by kernel_rfl⟩,
 ⟨402,.type "function",none,none,#[],.none,.none,.str "law_wright_k11_grammars_kept" 688,.ref 401,.none,by kernel_rfl,by kernel_rfl,by kernel_rfl,by kernel_rfl⟩,
 ⟨407,.type "function",none,none,#[],.none,.none,.str "law_wright_k11_grammars_kept" 688,.ref 406,.none,by kernel_rfl,by kernel_rfl,by kernel_rfl,by kernel_rfl⟩,
 ⟨412,.type "function",none,none,#[],.none,.none,.str "law_wright_k11_grammars_kept" 688,.ref 411,.none,by kernel_rfl,by kernel_rfl,by kernel_rfl,by kernel_rfl⟩,
 ⟨419,.type "function",none,none,#[],.none,.none,.str "law_wright_k11_grammars_kept" 688,.ref 418,.none,by kernel_rfl,by kernel_rfl,by kernel_rfl,by kernel_rfl⟩,
 ⟨424,.type "function",none,none,#[],.none,.none,.str "law_wright_k11_grammars_kept" 688,.ref 423,.none,by kernel_rfl,by kernel_rfl,by kernel_rfl,by kernel_rfl⟩,
 ⟨431,.type "function",none,none,#[],.none,.none,.str "law_wright_k11_grammars_kept" 688,.ref 430,.none,by kernel_rfl,by kernel_rfl,by kernel_rfl,by kernel_rfl⟩,
 ⟨263,.type "function",none,none,#[],.none,.none,.str "wright.tree_sizes" 511,.ref 262,.none,by kernel_rfl,by kernel_rfl,by kernel_rfl,by kernel_rfl⟩,
 ⟨268,.type "function",none,none,#[],.none,.none,.str "wright.grammar_faults" 532,.ref 267,.none,by kernel_rfl,by kernel_rfl,by kernel_rfl,by kernel_rfl⟩,
 ⟨251,.type "function",none,none,#[],.none,.none,.str "wright.tree_sizes" 511,250,.none,by kernel_rfl,by kernel_rfl,by kernel_rfl,by kernel_rfl,by kernel_rfl⟩,
 ⟨258,.type "function",none,none,#[],.none,.none,.str "wright.tree_sizes" 511,257,.none,by kernel_rfl,by kernel_rfl,by kernel_rfl,by kernel_rfl,by kernel_rfl⟩,
 ⟨285,.type "function",none,none,#[],.none,.none,.str "wright.least_trees" 559,284,.none,by kernel_rfl,by kernel_rfl,by kernel_rfl,by kernel_rfl,by kernel_rfl⟩,
 ⟨307,.type "function",none,none,#[],.none,.none,.str "wright.least_trees" 559,.ref 306,.none,by kernel_rfl,by kernel_rfl,by kernel_rfl,by kernel_rfl,by kernel_rfl⟩,
 ⟨67,.type "function",none,none,#[],.none,.none,.str "wright.begin_tables" 226,.ref 66,.none,by kernel_rfl,by kernel_rfl,by kernel_rfl,by kernel_rfl,by kernel_rfl⟩,
 ⟨74,.type "function",none,none,#[],.none,.none,.str "wright.begin_tables" 226,.ref 73,.none,by kernel_rfl,by kernel_rfl,by kernel_rfl,by kernel_rfl,by kernel_rfl⟩,
 ⟨81,.type "function",none,none,#[],.none,.none,.str "wright.begin_tables" 226,.ref 80,.none,by kernel_rfl,by kernel_rfl,by kernel_rfl,by kernel_rfl,by kernel_rfl⟩,
 ⟨357,.type "function",none,none,#[],.none,.none,.str "wright.grammars" 645,.ref 356,.none,350,⟨.type "tuple",none,.seq #[.none] 0,#[]⟩,0,by kernel_rfl,by kernel_rfl,by kernel_rfl,by kernel_rfl,rfl,by kernel_rfl,by kernel_rfl⟩,
 ⟨364,.type "function",none,none,#[],.none,.none,.str "wright.grammars" 645,.ref 363,.none,by kernel_rfl,by kernel_rfl,by kernel_rfl,by kernel_rfl,by kernel_rfl⟩,
 by kernel_rfl,
 by kernel_rfl,
 by kernel_rfl,
 by kernel_rfl,
 by kernel_rfl,
 by kernel_rfl,
 by kernel_rfl,
 by kernel_rfl,
 by kernel_rfl,
 by kernel_rfl,
 by kernel_rfl,
 by kernel_rfl,
 by kernel_rfl,
 by kernel_rfl,
 by kernel_rfl,
 by kernel_rfl,
 by kernel_rfl,
 by kernel_rfl,
 by kernel_rfl,
 by kernel_rfl,
 by kernel_rfl,
 by kernel_rfl,
 by kernel_rfl,
 by kernel_rfl,
 by kernel_rfl,
 by kernel_rfl,
 by kernel_rfl,
 by kernel_rfl,
 by kernel_rfl,
 by kernel_rfl,
 by kernel_rfl,
 by kernel_rfl,
 by kernel_rfl,
 by kernel_rfl,
 by kernel_rfl,
 by kernel_rfl,
 by kernel_rfl,
 by kernel_rfl,
 by kernel_rfl,
 by kernel_rfl,
 by kernel_rfl,
 by kernel_rfl,
 by kernel_rfl,
 by kernel_rfl,
 by kernel_rfl,
 by kernel_rfl,
 by kernel_rfl⟩
end HD
theorem PySem.Challenge.cw_wright_k11_grammars_kept_holds : PySem.Challenge.rw_wright_k11_grammars_kept.Holds := by
 refine HD.hold ?_ ?hw
 case hw=>w_witness2
 refine K11.walk (l:=PySem.Challenge.rw_wright_k11_grammars_kept) (K:=HD.K) 248 253 282 250 257 284 (by decide) (by decide) (by decide) rfl HD.ok5 (fun w h Y=>⟨PySem.W.km_in_of Y,PySem.W.km_tabs_of Y⟩) (fun w=>by kernel_rfl) (fun w=>by kernel_rfl) (fun w=>by kernel_rfl) (fun w=>by kernel_rfl) (fun w=>by kernel_rfl) (fun w=>by kernel_rfl) ?F
 intro w mg fa h KX G hmg
 exact K11.all_mk KX G hmg (HD.tops w.params)
