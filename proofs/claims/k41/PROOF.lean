import PyProof.Rows.All
import Wide.All
import OpenK.AllK
import Wide.FinOn
import Lean
import PyProof.EqAt
import PyProof.EqKinds
import PyProof.TupleCall
import KE.KNestM
import PyProof.IsiH_list
import PyProof.RaisesAny
import KE.KDictOf
import PyProof.CollectWalk
import PyProof.CompFree
import KE.KDictList
import PyProof.NeKinds
import PyProof.ConsumeWalk
import PyProof.StrBlockI
import PyProof.EnumFor
import PyProof.TupleIter
import PyProof.EnumMake
import KE.KLam
import PyProof.DictUpdate
import PyProof.SeqI3
import PyProof.DictWalks
import PyProof.ConsumeS
import PyProof.Rows.CallKwBuiltin
import KE.KDictLaws
import PyProof.AutoListH
import PyProof.ZipIter
import PyProof.ListNew
import KE.KRevSl
import PyProof.StrOps
import PyProof.StrOps2
import KE.KSortKey
import PyProof.Rows.SetFrom
import PyProof.MinMaxWalk
import KE.KDictSum
import KE.KSortTup
import PyProof.DictItemsLoops
import KE.KPairComp
import KE.KTryMore
import PyProof.InstStoreFacts
import PyProof.ExcInit
import PyProof.ExcClass3
import PyProof.ExcBaseAll.ValueError
import PyProof.FString
import PyProof.RulesAs
import PyProof.RulesDel
import PyProof.ExcClass2
import PyProof.CallStr
import PyProof.ExcAttrAll.ValueError
import PySem.Challenge.RW_wright_k41_too_many_rooms
import Lean
set_option linter.all false
set_option genSizeOf false
inductive Qe2{a b:Type}(P:a→b→Prop):Prop|mk(j k):P j k→Qe2 P
inductive Qe3{a b c:Type}(P:a→b→c→Prop):Prop|mk(j k l):P j k l→Qe3 P
inductive Qe4{a b c d:Type}(P:a→b→c→d→Prop):Prop|mk(j k l m):P j k l m→Qe4 P
inductive Qe5{a b c d e:Type}(P:a→b→c→d→e→Prop):Prop|mk(j k l m n):P j k l m n→Qe5 P
inductive Qe6{a b c d e f:Type}(P:a→b→c→d→e→f→Prop):Prop|mk(j k l m n o):P j k l m n o→Qe6 P
inductive Qe7{a b c d e f g:Type}(P:a→b→c→d→e→f→g→Prop):Prop|mk(j k l m n o p):P j k l m n o p→Qe7 P
inductive Qe8{a b c d e f g h:Type}(P:a→b→c→d→e→f→g→h→Prop):Prop|mk(j k l m n o p q):P j k l m n o p q→Qe8 P
inductive Qa3(a b c:Prop):Prop|mk:a→b→c→Qa3 a b c
inductive Qa4(a b c d:Prop):Prop|mk:a→b→c→d→Qa4 a b c d
inductive Qa5(a b c d e:Prop):Prop|mk:a→b→c→d→e→Qa5 a b c d e
inductive Qa6(a b c d e f:Prop):Prop|mk:a→b→c→d→e→f→Qa6 a b c d e f
inductive Qa7(a b c d e f g:Prop):Prop|mk:a→b→c→d→e→f→g→Qa7 a b c d e f g
inductive Qa8(a b c d e f g h:Prop):Prop|mk:a→b→c→d→e→f→g→h→Qa8 a b c d e f g h
inductive Qa9(a b c d e f g h i:Prop):Prop|mk:a→b→c→d→e→f→g→h→i→Qa9 a b c d e f g h i
inductive Qa10(a b c d e f g h i j:Prop):Prop|mk:a→b→c→d→e→f→g→h→i→j→Qa10 a b c d e f g h i j
inductive Qa11(a b c d e f g h i j k:Prop):Prop|mk:a→b→c→d→e→f→g→h→i→j→k→Qa11 a b c d e f g h i j k
inductive Qa12(a b c d e f g h i j k l:Prop):Prop|mk:a→b→c→d→e→f→g→h→i→j→k→l→Qa12 a b c d e f g h i j k l
open Lean in
def ny(x:Syntax):Array (Syntax×Option Syntax):=Id.run do
 let mut r:=#[]
 let y:=x[0]
 if y.isOfKind ``Lean.unbracketedExplicitBinders then
  let t:=if y[1].getNumArgs=0 then none else some y[1][1]
  for i in y[0].getArgs do r:=r.push (i[0],t)
 else
  for z in y.getArgs do
   for i in z[1].getArgs do r:=r.push (i[0],some z[3])
 return r
open Lean in
def nz(n:Nat)(x:Syntax):Array Syntax:=match n with
 | 0=>#[x]
 | n+1=>if x.isOfKind `«term_∧_» then #[x[0]]++nz n x[2] else #[x]
open Lean in
local macro_rules
 | `(∃ $xs:explicitBinders,$b:term)=>do
  let bs:=ny xs
  let cs:=nz 11 b
  if bs.size<2∧cs.size<3 then Macro.throwUnsupported
  let mut r:TSyntax `term:=b
  if cs.size>2 then
   r:=⟨Syntax.mkApp (mkCIdent (.mkSimple s!"Qa{cs.size}")) (cs.map fun c=>⟨c⟩)⟩
  let k:=(bs.size-1)/8+1
  for j in [0:k] do
   let g:=bs.extract (8*(k-1-j)) (8*(k-j))
   for i in [0:g.size] do
    let (x,t):=g[g.size-1-i]!
    let nm : Ident:=if x.isIdent then ⟨x⟩ else mkIdent `_x
    match t with
    | some t =>
     let ty : TSyntax `term:=⟨t⟩
     r ← `(fun ($nm : $ty) => $r)
    | none => r ← `(fun $nm:ident => $r)
   r:=⟨Syntax.mkApp (mkCIdent (if g.size=1 then `Exists else .mkSimple s!"Qe{g.size}")) #[r]⟩
  return r
set_option Elab.async false
set_option linter.all false
set_option maxRecDepth 100000
set_option hygiene false
local macro_rules
|`(27)=>`((·.1))
|`(56)=>`(List aw)
|`(58)=>`(by simp)
|`(65)=>`(some o)
|`(68)=>`((bT rfl))
|`(70)=>`(List Pl)
|`(71)=>`(Array Keyed)
|`(72)=>`((pv 0))
|`(84)=>`(List V)
|`(86)=>`(List (aI×V))
|`(87)=>`(Inv X ag σ H s)
|`(88)=>`(Sum.inr z)
|`(90)=>`((by simp))
|`(91)=>`(.ref a)
|`(102)=>`((pv 1))
|`(103)=>`((.lst []))
|`(105)=>`((·.2))
|`(106)=>`(Hp->Prop)
|`(107)=>`((Sum.inr z))
|`(108)=>`(List Be)
|`(109)=>`((λ_ _=>rfl))
|`(110)=>`((model X.prog X.w))
|`(121)=>`(by omega)
|`(122)=>`(rs.map V.ref)
|`(124)=>`((j:Int))
|`(126)=>`(Option V)
|`(127)=>`((.ref C))
|`(128)=>`((aE _))
|`(129)=>`(arrOf st)
|`(140)=>`((model prog w))
|`(141)=>`(.int (i:Int))
|`(146)=>`(Shared->Prop)
|`(147)=>`(aD H H')
|`(148)=>`(("":Str))
|`(159)=>`(["rules"])
|`(162)=>`(h'.get? b)
|`(163)=>`(It aa m)
|`(256)=>`(arrOf aS)
|`(257)=>`(zs.map V.str)
|`(258)=>`(some none)
|`(259)=>`(s.heap.get? b=some o)
|`(260)=>`((rs.map V.ref))
|`(375)=>`(some (.dK kvs))
|`(378)=>`(.type "tuple")
|`(417)=>`(kc rfl rfl rfl rfl nofun)
|`(418)=>`((.dK []))
|`(419)=>`((.inl rfl))
|`(420)=>`((λvs H Q E h=>?_))
|`(421)=>`(⟨_,rfl⟩)
|`(422)=>`(("s":Str))
|`(423)=>`(Keyed->Keyed->Bool)
|`(424)=>`(List Keyed)
|`(472)=>`((λeC A outer s H vs Q E hr h=>?_))
|`(473)=>`(cH.mp ex)
|`(474)=>`((arrOf st))
|`(475)=>`((.ref a))
|`(476)=>`(.type "list")
|`(477)=>`(ts.map V.ref)
|`(478)=>`((zs.map V.str))
|`(479)=>`(λ_ _ z=>z)
local macro_rules
|`(480)=>`(some (.lst (ts.map V.ref)))
|`(481)=>`(Value.ref t)
|`(482)=>`((upd H D (.lst [])))
|`(487)=>`((bU rfl rfl))
|`(488)=>`((arrOf aS))
|`(489)=>`((.dK kvs))
|`(490)=>`(Nat->List V->St->Hp->Prop)
|`(491)=>`(.ref s.heap.objs.size)
|`(496)=>`((.dK (ps.map iz)))
|`(497)=>`((ae (pv 0) ao))
|`(498)=>`(out.push y)
|`(499)=>`((b_ aa [] bes))
|`(500)=>`(some (.lst xs))
|`(501)=>`(List (Str×V))
|`(502)=>`(Hp->VK->Prop)
|`(507)=>`(bX (by rw [ay];omega))
|`(509)=>`(s.heap.objs.size+1)
|`(510)=>`(u=Value.ref a)
|`(515)=>`(aU K H a xs)
|`(516)=>`(kj r S a b)
|`(517)=>`({ s with heap:=h' })
|`(518)=>`(List (List aI×V))
|`(519)=>`(SortSt->Prop)
|`(520)=>`(bY K H rs aa)
|`(521)=>`(Sum.inr ru.1)
|`(526)=>`(λy H4=>H4 D=some (.lst ys)/\ys.length < sizeLine/\W (i+1) m' (ys++[y]) σ2 (upd H4 D (.lst (ys++[y]))))
|`(527)=>`(W (i+1) m' ys σ2 H3)
|`(528)=>`((cQ (pv 0) rfl))
|`(529)=>`(W i m ys σ' H)
|`(530)=>`(X.calm=true)
|`(531)=>`(some .local)
|`(534)=>`((λz=>decide (z∈aC.map (·.1))))
|`(538)=>`((s.heap.objs.size+1))
|`(539)=>`((λ_ _ _ _ _=>cO))
|`(544)=>`(by simpa using hb)
|`(545)=>`((ps.map (·.1)))
|`(546)=>`(List (κ×V))
|`(547)=>`((∀ru∈aa,ru.2.length<=8))
|`(548)=>`(by simp;omega)
|`(549)=>`(some (.ins C dx fs))
|`(550)=>`((by simpa using c))
|`(551)=>`(ts.map Value.ref)
|`(556)=>`((ae (pv 1) ao))
|`(557)=>`(.type "object")
|`(558)=>`(a.size+b.size)
|`(559)=>`(by kernel_rfl)
|`(564)=>`(.type "dict")
|`(565)=>`(List (List aI×Addr×Value))
|`(566)=>`(fO (λc=>?_) (λc=>?_))
|`(567)=>`((aa.map (·.1)))
|`(568)=>`(aa.length<=1000)
|`(569)=>`(A.handled=none)
|`(570)=>`((room.take i))
|`(575)=>`(xs[i]?=some x)
|`(576)=>`(λ_ _ _ _ _ _=>by exact vD λ_=>rfl)
|`(581)=>`(.type "ValueError")
|`(582)=>`((ts.map V.ref))
|`(583)=>`(Int->Int->Bool)
|`(584)=>`(Nat×Nat×Nat)
|`(585)=>`(ai (λz=>by rw [z,hD] at hb;cases hb))
local macro_rules
|`(589)=>`((x == ("__debug__":Str))=false)
|`(590)=>`((.tup [.int (i:Int),.ref r]))
|`(591)=>`((X.env.qual ++ "<lambda>"))
|`(592)=>`(.type "BaseException")
|`(599)=>`(boot_heap w.params)
|`(602)=>`(List PySem.Str)
|`(604)=>`(λ_ _ _ _ _ _=>by exact qS λ_ _=>rfl)
|`(605)=>`(p.length+(A1.length+A2.length))
|`(610)=>`((λ_ x=>by cases x))
|`(611)=>`((λ_ z=>by cases z))
|`(616)=>`(List (List Keyed))
|`(617)=>`((m+1) * (m+1)+1)
|`(618)=>`(aD H H2/\H2 D=some (.lst ys))
|`(619)=>`({ s with heap:=h',toks:=t' })
|`(620)=>`((.lst (rs.map V.ref)))
|`(621)=>`((λys σ2 H2 h=>?_))
|`(622)=>`(kvs.map λp=>kV p.1)
|`(623)=>`((·∈a₀.toList))
|`(624)=>`(some (.bool true))
|`(625)=>`({ cls:=.type "dict",data:=.dict #[] })
|`(626)=>`((.tup [.str ("s":Str),.ref t2]))
|`(627)=>`((aQ kb (d_ z.1 z.2.1)).isSome)
|`(632)=>`((aQ kvs (Sum.inr z)).isSome)
|`(634)=>`((aQ kE (Sum.inr z)).isSome)
|`(635)=>`({ s with toks:=s.toks+1 })
|`(640)=>`((dZ g ru.1 (aR g ru)))
|`(641)=>`(λ_ y=>by cases y)
|`(642)=>`(by rw [bp];omega)
|`(647)=>`(k3 aa bes (ig j))
|`(648)=>`((cK (ha pos ag s σ H _ I h) λus s1 ba=>?_))
|`(653)=>`((λ_ _ _ _ _ _=>by exact vD λ_=>rfl))
|`(657)=>`((λi x ys σ2 H2 ex h=>?_))
|`(658)=>`(Sb a₀ sj κ pend lo st)
|`(663)=>`((a == sysModules)=false)
|`(664)=>`((ae (cQ (pv 0) rfl) ao))
|`(665)=>`((aa.flatMap (·.2)))
|`(666)=>`(nums aa z aa.length)
|`(667)=>`((fP I q (by simp)))
|`(668)=>`(k _ _ (.inl rfl) e)
|`(669)=>`(starEach (e::es) X.env=(false,eval e X.env)::starEach es X.env)
|`(674)=>`(q' pw_wright_k41_too_many_rooms)
|`(675)=>`(λh=>((Sum.inr h:aI),V.bl true))
|`(680)=>`(backTo pos (starEach es X.env))
|`(682)=>`(X.env.cells.lookup x=some c)
|`(683)=>`(X.env.scope.names.lookup x)
|`(688)=>`(.str "wright.errors" 194)
|`(689)=>`(tupleKind (aK prog w))
|`(694)=>`((he ag s σ H _ I h))
|`(695)=>`(Option (Array Keyed))
|`(700)=>`(s.heap.get? b=some u)
|`(701)=>`((by simpa using c1))
|`(702)=>`((by simpa using c2))
|`(703)=>`((yM X scope cl C s1 H1 (ts++js.map (·.2)) fp))
|`(704)=>`(some (.builtin "ValueError.__new__"))
|`(705)=>`((q' pw_wright_k41_too_many_rooms))
|`(708)=>`(o9 K C H0 H a e d bg kE aC ps bes)
|`(712)=>`((.dT (kf++[(v7 z,V.bl true)])))
|`(713)=>`((show u=Value.ref a from rx))
|`(718)=>`((.str "wright.errors" 194))
|`(719)=>`(["rules","sizes","better"])
local macro_rules
|`(720)=>`((.ref s.heap.objs.size))
|`(721)=>`(.ref s2.heap.objs.size)
|`(726)=>`((.lst (uI.map V.ref)))
|`(727)=>`(λkv=>decide (kv.1=k))
|`(728)=>`(ip (ro P w) P w K mg base N qual scope g cd A outer s₀ H₀ E)
|`(729)=>`(s4 _ _ (λz=>by rw [z,b] at h;cases h) (s3 _ _ h))
|`(734)=>`(bO X.prog X.w X.K X.mg X.base CX k f fd ps sp)
|`(735)=>`((λ_ _ _ _ _ _=>by exact qS λ_ _=>rfl))
|`(736)=>`(cK (ha ag s σ H _ I h) λv s1 ba=>?_)
|`(737)=>`((.Call (.Name x p) (e::es) [] pos))
|`(738)=>`((λz=>(aQ kE (Sum.inr z)).isSome))
|`(743)=>`((.tup ((d_ z.1 z.2.1).map kV)))
|`(744)=>`(bB kvs (Sum.inr z) (.bl true))
|`(745)=>`((.tup [.int (i:Int),.str z]))
|`(746)=>`(by rw [ai (aB q hn)];exact q)
|`(747)=>`(some (.lst (us.map V.ref)))
|`(748)=>`(out++a.extract ia (ia+k))
|`(752)=>`(.ExceptHandler (some (.Name Cn np)) (some n) (b₀::jF) hp)
|`(753)=>`(envOfC qual scope s.heap.objs.size f cd)
|`(754)=>`(∀z,aQ kvs (Sum.inr z)=(g z).map V.int)
|`(755)=>`(ai (λz=>by rw [z,f0] at hc;cases hc))
|`(756)=>`((jk X params body scope cl c' ic))
|`(763)=>`(h.get? b=some u->h'.get? b=some u)
|`(766)=>`((bF bH (pv 1) aA (λ_ _=>rfl)))
|`(768)=>`((ps.map λp=>(g p).getD 0).sum)
|`(769)=>`(PySem.W.keepIn K (.ref f)=true)
|`(770)=>`(s.heap.push PySem.W.emptyDict)
|`(771)=>`(bB kvs (Sum.inr z) (.ref l))
|`(772)=>`({ cls:=.type "range",data:=.fields #[.int lo t,.int hi u,.int 1 v] })
|`(773)=>`(g x σ H' λσ2 H2=>tb { D with nx:=N,ct:=N,bk:=D.nx } σ2 H2)
|`(776)=>`((∀σ' H',N σ' H'->∃m',m' < m/\W (i+1) m' σ' H'))
|`(780)=>`(by rw [ai (λz=>by rw [z,hD] at h;cases h)];exact h)
|`(781)=>`({ cls:=.type "tuple",data:=.seq #[.int i tk,x] })
|`(782)=>`((.ListComp elt [⟨tg,iter,ifs,0⟩] scope pos))
|`(783)=>`(∀vs H Q E,sp vs H Q E->vs.length=ps.length)
|`(784)=>`((lH P w Na (gH (S1.bM++[k]) (bs++[b]) 0)))
|`(789)=>`((lH P w Na [((aN aa).map pZ,b0,V.int 0)]))
|`(790)=>`((.ins C dx (dN "empties" (.ref D1) [])))
|`(791)=>`(absurd (show false=true from hs) fg)
|`(795)=>`((.tup [.int (i:Int),.int (j:Int)]))
|`(796)=>`((λz=>(aQ kvs (Sum.inr z)).isSome))
|`(797)=>`((bB kvs (Sum.inr z) (.bl true)))
|`(798)=>`((kvs.any λkv=>decide (kv.1=k)))
|`(799)=>`(λσ2 H2=>tif σ2 H2 λb H3=>if b=true then te σ2 H3 λy H4=>H4 D=some (.lst ys)/\ys.length < sizeLine/\Pv (i+1) (ys++[y]) σ2 (upd H4 D (.lst (ys++[y]))) else Pv (i+1) ys σ2 H3)
|`(806)=>`(((s.heap.update a (Obj.mapSeq λ_=>#[])).push (seqObj "tuple" (ts.map Value.ref).toArray 0)).push (seqObj "list" #[] 0))
|`(809)=>`(b≠X.env.locals/\(∀x c,X.env.cells.lookup x=some c->c≠b)/\∀p∈X.pn++ag,p.1≠b)
|`(811)=>`(λh' eb=>⟨rfl,I.turned (t':=s.toks) (λb o hb e=>eb b o hb e) f0 f1 f3 f4 f5⟩)
|`(812)=>`(s.heap.push { cls:=.type "tuple_iterator",data:=.fields #[.ref l,.int 0 0] })
|`(813)=>`((X.pK ag D (.ExceptHandler (some (.Name Cn np)) (some n) (b₀::jF) hp)))
|`(814)=>`(PySem.W.fnOf x qual (cZ st) (b9 st) (ax st) .none kV doc pm an eC ct)
|`(819)=>`(λσ2 H2=>tb { D with nx:=Pv (i+1),ct:=Pv (i+1),bk:=D.nx } σ2 H2)
|`(820)=>`({ cls:=.type "list_iterator",data:=.fields #[.ref l,.int 0 0] })
|`(825)=>`((.lst ((rs.map V.ref).take n++.ref t3::(rs.map V.ref).drop n)))
|`(826)=>`((yM X scope cl G2.objs.size s2 H2 (ts++js.map (·.2)) fp))
|`(831)=>`(A.under (.builtin "type.__call__" ⟨.ref C::us,kw⟩))
|`(832)=>`(X.fn x=true\/X.env.scope.names.lookup x=some .local)
|`(833)=>`((∃m,W 0 m [] (eV [x] [] σ) (upd H D (.lst []))))
|`(834)=>`((∃m,W 0 m [] (eV ts js σ) (upd H D (.lst []))))
|`(835)=>`((∀b o,s.heap.get? b=some o->h'.get? b=some o))
|`(836)=>`(t { nx:=λ_ H'=>Q .gF H',rt:=Q } (start N vs) H)
local macro_rules
|`(837)=>`(aC.map λp=>((Sum.inr p.1:aI),V.int (p.2:Int)))
|`(838)=>`((seqObj "list" (ts.map Value.ref).toArray 0))
|`(839)=>`({ cls:=.type "list",data:=.seq vs.toArray })
|`(843)=>`((.dK (bB (L.map iz) (Sum.inr p) (.ref l))))
|`(844)=>`(((aa.take i).flatMap (·.2)++ru.2.take j))
|`(845)=>`((lH P w Na (gH (S.bM++[k]) (bs++[b]) 0)))
|`(846)=>`((cK (he ag s σ H _ I h) λv s1 ba=>?_))
|`(847)=>`((cK (ho ag s σ H _ I h) λu s1 ba=>?_))
|`(848)=>`(λ_ _ _ _ _ _=>by exact ON λ_ _ _=>rfl)
|`(849)=>`((.dK (bB kvs (Sum.inr wd) (.bl true))))
|`(850)=>`(⟨ok.mod,ok.kind,ok.glob,ok.blt,ok.above,ok.inj,ok.has,ok.Oj,ok.hd,ok.frames,ok.KQ,ok.QY,ok.bs,ok.Hk,ok.zU,ok.Ak,ok.nF,ok.K8⟩)
|`(851)=>`((((fU items.size 0 lo:Nat):Int) == 0 && (1:Int) == 1 && (fU items.size items.size hi - fU items.size 0 lo) == items.size)=true)
|`(852)=>`(.inr ⟨⟨xs,xs[i],q,by simp [jQ]⟩,Pv (i+1),λσ' H' p'=>⟨xs.length - (i+1),∅,rfl,jQ,p'⟩,λx H' y=>?_⟩)
|`(853)=>`(Paired (λt (b:Be)=>aU K H t [.str b.1,.str b.2.1,.int (b.2.2.1:Int),.int (b.2.2.2:Int)]) ts bes)
|`(854)=>`(⟨λi m σ H=>m=xs.length - i/\i<=xs.length/\Pv i σ H,⟨xs.length,by simp,cV _,h0⟩,?_⟩)
|`(855)=>`(some (excClassObj nm qn C N bs bm tV sn sub ab col dd k0 k1 k2 k3 k5 newId))
|`(856)=>`((PySem.W.fnOf x qual (cZ st) (b9 st) (ax st) .none kV doc pm an eC ct))
|`(857)=>`((ip (ro P w) P w K mg base N qual scope g cd A outer s₀ H₀ E).env)
|`(858)=>`((show (["name","word","number","place"]:z0t).Nodup by decide +kernel))
|`(859)=>`(.inl (.inr ⟨u,s4 _ _ (λz=>by rw [z,b] at h;cases h) (s3 _ _ h)⟩))
|`(860)=>`(aU K (upd H6 t (.tup [.int (i:Int),.ref r])) t [.int (i:Int),.ref r])
|`(861)=>`(.inl (.inl (s4 _ _ (λz=>by rw [z,b] at h;cases h) (s3 _ _ h))))
|`(862)=>`(Paired (λt (p:Str×Addr)=>aU K H2 t [.str p.1,.ref p.2]) ts ps)
|`(863)=>`((∃m,W 0 m [] (eV ["part"] js σ) (upd H D (.lst []))))
|`(864)=>`((.tup (((List.range n).map λk=>ig (cn+k)).map V.str)))
|`(865)=>`(((aa.map (·.1)).map λh=>((Sum.inr h:aI),V.bl true)))
|`(866)=>`((if (dZ g ru.1 (aR g ru) x).isSome then 0 else 1))
|`(867)=>`({ cls:=.type "enumerate",data:=.fields #[.none,.bool false,.ref s.heap.objs.size,rawInt 0,.none,.none] })
|`(868)=>`(wpAny M A (leaving X.env (.ref ea)) (λ_ Ig=>ro X.prog X.w X.outer X.H₀ X.s₀ E (.ref ea) Ig) E' s)
|`(869)=>`(⟨λi m ys σ H=>m=xs.length - i/\i<=xs.length/\Pv i ys σ H,⟨xs.length,by simp,cV _,h0⟩,?_⟩)
|`(870)=>`((items.toList.drop (fU items.size 0 lo)).take (fU items.size items.size hi - fU items.size 0 lo))
|`(871)=>`((s.heap.push { cls:=.type "range",data:=.fields #[.int lo t,.int hi u,.int 1 v] }).objs.size)
|`(872)=>`((λ_ _ _ _ _=>az (i:=0) (show (["part","sizes"]:z0t).Nodup by decide +kernel) rfl (bT rfl)))
|`(873)=>`((λr s'=>r=.ok (.ret (.bool true))/\OldK s₁.heap s'.heap/\s'.os=s₁.os/\AllBare s'.gens))
|`(874)=>`((if x < 0 then (x+((aT.toArray.size:Nat):Int)).toNat else min x.toNat aT.toArray.size))
|`(875)=>`(kvs.length<=sizeLine/\(a == sysModules)=false/\∃vs,KV kvs vs/\h.DictOf (aK P w) a vs)
|`(876)=>`((λ_ _ _ _ _=>az (i:=0) (show (["name"]:z0t).Nodup by decide +kernel) rfl (bT rfl)))
|`(877)=>`(PySem.W.findIn K (.ref C) "__setattr__"=some (some (.builtin "object.__setattr__")))
|`(878)=>`({ s3 with heap:=s3.heap.push { cls:=.type "slice",data:=.fields #[vl,vu,.none] } })
|`(879)=>`(∀m aS,Sb a₀ sj κ pend lo aS->1<=m->m<=cD->Up r (arrOf aS) lo m->Q (some m) aS)
|`(880)=>`((h1.push { cls:=.type "list_iterator",data:=.fields #[.ref l,.int 0 0] }).get? b)
|`(881)=>`(∀g,dY M11.bl aa (A8 aa) g->iG M11.bl aa g->∀h∈hd aa,∃n,g h=some n/\n<=60)
|`(882)=>`((.tup [.str ("s":Str),.str (("w":Str)++Str.ofString (toString (0+(j:Int))))]))
|`(883)=>`((match aa[(j:Int).toNat]? with | some ru=>decide (aR g ru=n) | none=>false))
|`(884)=>`(.inr ⟨⟨xs,xs[i],q,by simp [jQ]⟩,xs.length - (i+1),∅,λx H' y=>?_⟩)
|`(885)=>`(∀y,(y,NameKind.free)∈scope.names->X.env.scope.names.lookup y=some .cell)
|`(886)=>`((s.heap.push PySem.W.emptyDict).push (PySem.W.instObj C s.heap.objs.size))
|`(887)=>`((upd H9 D (.lst ((rs.map V.ref).take n++.ref t3::(rs.map V.ref).drop n))))
|`(888)=>`(PySem.W.methodCall_KW (pl:=pl) (cK (he ag s σ H _ I h) λu s1 ba=>?_) ht)
|`(889)=>`((findIn K (.ref C) "__getattribute__",findIn K (.ref C) "__getattr__",mroIn K C (.type "BaseException"),mroIn K C (.type "object"),findIn K (.ref C) "__class__",kitCls K (.ref C) (.ref C))=(some (some (.builtin "BaseException.__getattribute__")),some none,some true,some true,some (some (.builtin "object.__class__")),some true))
|`(890)=>`((nsIn K mainGlobals "WrightError",nsIn K mainGlobals "ValueError",specialIn K (.builtin "object.__class__") "__get__",takesIn K (.builtin "object.__class__"))=(some (some (.ref W)),some none,some (some (.builtin "getset_descriptor.__get__")),some true))
|`(891)=>`(callType_codes (Q₁:=λobj s₁=>obj=.ref s.heap.objs.size/\s₁={ s with heap:=s.heap.push { cls:=.type "dict",data:=.dict #[] } }) F.kt_called_dict (F.kt_typeCall_dict_1 _) F.entry_dict_init (kt_code_dict_new _ ⟨rfl,rfl⟩) ?_)
|`(892)=>`((nsIn K mainGlobals "TooMany",zm K C Kn "ValueError.__new__",keepIn K (.ref C),exmOne K (.ref C) (.ref W),hasDictIn K C,kitOne K (.ref C) (.type "ValueError"))=(some (some (.ref C)),true,true,some true,true,some true))
|`(893)=>`((λ_ _ _ _ _=>jh (n:=2) K rfl (aH (az (i:=0) (show (["head","parts"]:z0t).Nodup by decide +kernel) rfl (bT rfl)) (aH (az (i:=1) (show (["head","parts"]:z0t).Nodup by decide +kernel) rfl (bT rfl)) cI))))
|`(894)=>`(∀(kV doc pm:Value)(an:z0l)(eC ct:Value)(us:z0m),us.length=ps.length->bindArgs (PySem.W.fnOf x qual (cZ st) (b9 st) (ax st) .none kV doc pm an eC ct) ⟨us,[]⟩=pure (ps.zip us))
|`(895)=>`(wpAny (model X.prog X.w) X.A (eval a X.env) (λv s₁=>wpAny (model X.prog X.w) X.A (eval b X.env) (λu s₂=>wpAny (model X.prog X.w) X.A (f v u) Q X.xe s₂) X.xe s₁) X.xe s)
|`(896)=>`(wpAny _ _ (if (((fU items.size 0 lo:Nat):Int) == 0 && (1:Int) == 1 && (fU items.size items.size hi - fU items.size 0 lo) == items.size)=true then _ else _) _ _ s)
|`(897)=>`(codeAny (model P w) callerA (.call (.ref fa) ⟨[.ref a],[]⟩) (λr s'=>r=.ok (.ret (.bool true))/\OldK s₁.heap s'.heap/\s'.os=s₁.os/\AllBare s'.gens) s₁)
|`(898)=>`((λi ys σ2 H2=>∃ts:z0q,ys=ts.map V.ref/\ts.length=i/\Paired (λt h=>aU K H2 t [.str h,v]) ts (zs.take i)/\(∃y0,σ2=[y0])/\aD H H2/\H2 D=some (.lst ys)))
|`(899)=>`(∃S2 fs,aD H0 H3/\H3 g=some (.ins Cg gx fs)/\fs=dN "strengths" (.ref S2) rg/\H3 R2=some (.lst (rs.map V.ref))/\H3 S2=some (.lst (ss.map V.ref))/\H0 S2=none)
local macro_rules
|`(900)=>`(aJ ⟨kQ fE _,ih (i+1) _ _ _ _ ∅ hd2 (ZJ.at λo q=>(Tv.2 it (dC nd)).trans q) (hl.at λo q=>kk l o nl.1 nl.2 q) (λm ZA e=>?_) ∅ λh3 t3 jx k3=>?_⟩)
|`(901)=>`((fs.lookup ("words_of_part":Str)=none/\fs.lookup ("first_words":Str)=none/\fs.lookup ("all_empty":Str)=none/\fs.lookup ("words_of_parts":Str)=none))
|`(902)=>`(scope.names.lookup y.1=some .local\/(scope.names.lookup y.1=some .cell/\((cellsFrom (s.heap.objs.size+1) scope.names []).lookup y.1).isSome=true))
local macro_rules | `(tactic| omega) => `(tactic| first | lia | omega (config := {}))
local macro_rules | `(∅) => `(by omega)
local macro_rules | `(nofun) => `(by first | decide +kernel | kernel_rfl)
abbrev z0a:=Array (Option PySem.Value)
abbrev z0b:=PySem.Value->PySem.Shared->Prop
abbrev z0c:=PySem.Str->Option PySem.Value
abbrev z0d:=List (PySem.Str×PySem.Value)
abbrev z0e:=List (PySem.Addr×PySem.Obj)
abbrev z0f:=List (PySem.Str×PySem.Addr)
abbrev z0g:=List (Nat×Nat)
abbrev z0h:=List (PySem.Str×Nat)
abbrev z0i:=List (Nat×PySem.Str)
abbrev z0j:=Option PySem.Value
abbrev z0k:=Array PySem.Value
abbrev z0l:=Option PySem.Addr
abbrev z0m:=List PySem.Value
abbrev z0n:=PySem.Heap->Prop
abbrev z0o:=Option Int
abbrev z0p:=Option Nat
abbrev z0q:=List PySem.Addr
abbrev z0r:=List PySem.Expr
abbrev z0s:=List PySem.Stmt
abbrev z0t:=602
abbrev z0u:=List Int
def bT:=@Or.inl
abbrev aY:=PySem.W.Frag
def Bu:0<=PySem.sizeLine:=by decide
def Lg:1<=PySem.sizeLine:=by decide
def qF:2<=PySem.sizeLine:=by decide
def OF:3<=PySem.sizeLine:=by decide
def zl4:4<=PySem.sizeLine:=by decide
def zl6:6<=PySem.sizeLine:=by decide
def ay.{u,v}:=@List.length_map.{u,v}
def a7.{u}:=@List.getElem?_eq_some_iff.{u}
def au:=@PySem.wpAny_bind
def bj.{u}:=@List.mem_singleton.{u}
def bW:=@PySem.Heap.get?_push_of_some
def bp.{u}:=@List.length_append.{u}
def bx.{u,v}:=@List.getElem?_map.{u,v}
def cH.{u,v}:=@Option.map_eq_some_iff.{u,v}
def cv.{u}:=@List.mem_of_getElem?.{u}
def aJ:=@PySem.wpAny_pure
def a8.{u}:=@List.mem_cons_self.{u}
def bA.{u}:=@List.mem_cons_of_mem.{u}
def aP.{u,v}:=@List.map_append.{u,v}
def aE:=@Nat.le_refl
def cx.{u}:=@List.getElem?_eq_getElem.{u}
def aq.{u}:=@if_neg.{u}
def ar.{u}:=@if_pos.{u}
def a_.{u}:=@List.mem_cons.{u}
def aV:=@PySem.Heap.lt_size
def bf:=@PySem.Paired.length
def cq.{u}:=@List.size_toArray.{u}
def a9.{u,v}:=@List.mem_map.{u,v}
def cf.{u}:=@List.length_cons.{u}
def cU:=@PySem.Heap.get?_push_size
def bN.{u,v}:=@List.map_cons.{u,v}
def aG:=@PyProof.Rows.wpS_bind
def cw.{u}:=@List.mem_append.{u}
def cb:=@List.mem_range
def bJ:=@Nat.ne_of_lt
def eZ.{u}:=@List.mem_append_right.{u}
def di.{u}:=@List.take_add_one.{u}
def dH.{u}:=@List.append_assoc.{u}
def gK.{u}:=@List.getElem?_append_left.{u}
def aO:=@PyProof.Rows.wpS_pure
def dJ:=@of_decide_eq_true
def cX.{u}:=@Option.some.inj.{u}
def c_:=@PySem.PassesOwn.never
def fg:=@Bool.false_ne_true
def dW.{u}:=@List.take_length.{u}
def dG.{u}:=@List.append_nil.{u}
def iO.{u}:=@List.getElem?_append_right.{u}
def fK:=@Nat.lt_of_lt_of_le
def dU.{u}:=@List.nodup_cons.{u}
def iN:=@PySem.F.plainAttrs_list
def dS:=@decide_eq_true
def hJ.{u}:=@List.pairwise_append.{u}
def g_.{u}:=@List.mem_append_left.{u}
def g9.{u}:=@List.getElem?_of_mem.{u}
def cW:=@Nat.le_trans
def eG.{u}:=@List.nodup_nil.{u}
def fQ.{u}:=@List.length_take.{u}
def gJ:=@PySem.W.mg_none_of
def cV:=@Nat.zero_le
def ix.{u}:=@Array.length_toList.{u}
def jb.{u}:=@List.getElem?_eq_none.{u}
def gh:=@decide_eq_false
def iw.{u}:=@List.pairwise_cons.{u}
def jC:=@PySem.Heap.get?_update_other
def bV.{u,v}:=@Prod.ext.{u,v}
def eE.{u,v,w}:=@List.map_map.{u,v,w}
def kO:=@PySem.F.type_list_append
def kM:=@PySem.F.slot_list_append
def iu:=@List.length_range
def ja.{u,v}:=@List.mem_map_of_mem.{u,v}
def iM.{u}:=@List.nodup_append.{u}
def iL:=@Bool.not_eq_true'
def jB.{u}:=@beq_eq_false_iff_ne.{u}
def gI:=@PySem.boot_len
def dD:=@PySem.wpAny_mono
def iK.{u,v}:=@List.mem_flatMap.{u,v}
def iJ.{u}:=@List.all_eq_true.{u}
def gr:=@PySem.wpAny_holding
def ff:=@PySem.Paired.snoc
def nS.{u}:=@Option.isSome_iff_exists.{u}
def i_:=@PySem.wpAny_call_entry
def gq:=@Nat.le_of_lt
def mi.{u}:=@List.length_singleton.{u}
def mh.{u}:=@Array.getElem?_toList.{u}
def i9.{u}:=@List.mem_filter.{u}
def ku:=@Int.toNat_natCast
def ir:=@Nat.lt_irrefl
def kK:=@Bool.false_eq_true
def kr:=@PySem.wpAny_newObj_type
def mf.{u}:=@Array.toList_append.{u}
def vi:=@PyProof.Rows.slot_tuple_getitem
def rp.{u}:=@Array.getElem?_eq_some_iff.{u}
def qo:=@PySem.wpAny_callSpecial?_slot
def qm.{u}:=@List.take_of_length_le.{u}
def kq.{u}:=@List.length_nil.{u}
def ql.{u}:=@List.length_filter_le.{u}
def iq:=@PyProof.Rows.wpS_forRange
def g8:=@PySem.wpAny_field
def jA.{u}:=@List.sum_cons.{u}
def qk:=@PySem.Heap.get?_update_self
def qj.{u}:=@List.mem_iff_getElem.{u}
def md:=@Bool.and_eq_true
def nR:=@PySem.wpAny_Call_Name_kw
def dC.{u}:=@Ne.symm.{u}
def nQ:=@PySem.wpAny_truthy_bool
def zh.{u}:=@List.eq_nil_of_length_eq_zero.{u}
def pJ.{u}:=@List.pairwise_singleton.{u}
def kX:=@Nat.lt_succ_of_lt
def kU.{u,v}:=@List.flatMap_cons.{u,v}
def jV.{u}:=@List.find?_cons.{u}
def jU:=@Bool.eq_iff_iff
def sg:=@PySem.F.slot_dict_keyiterator_next
def kT.{u,v}:=@List.getElem_map.{u,v}
def iQ:=@Nat.zero_add
def iP:=@Nat.ne_of_gt
def m_.{u}:=@List.filter_append.{u}
def ik.{u,v}:=@Prod.mk.inj.{u,v}
def sf.{u}:=@Array.getElem?_eq_getElem.{u}
def mZ:=@PySem.Obj.data_mapFields
def jT.{u,v}:=@Prod.mk.injEq.{u,v}
def pI:=@PySem.codeAny_call_builtin
def gM:=@PySem.wpAny_call
def mY:=@Nat.lt_succ_self
def jr:=@PySem.wpAny_typeOf
def pH.{u,v}:=@List.map_singleton.{u,v}
def jS:=@PySem.wpAny_attempt
def xF:=@PySem.wpAny_typeNameOfWhole_keyiter
def mX:=@PySem.wpAny_isInstance
def xE:=@PyProof.Rows.callWith_type1
def r_.{u}:=@List.take_append_drop.{u}
def mU.{u}:=@List.nil_append.{u}
def kS:=@PySem.W.mg_of
def pG.{u,v}:=@Option.isSome_map.{u,v}
def r9:=@PySem.Calls.callWith_builtin
def pF:=@PySem.tupleKind_room_in1
def pE:=@PySem.Calls.spliced_cons
def xD.{u}:=@Array.perm_iff_toList_perm.{u}
def rZ:=@Bool.and_eq_true_iff
def fh:=@PyProof.Rows.wpS_mono
def mT:=@PySem.wpAny_specialOf
def mS:=@PySem.wpAny_passesOwn
def pD.{u}:=@List.getElem_inj.{u}
def pC.{u}:=@List.cons_append.{u}
def pB:=@PySem.wpAny_pyIter_list
def kQ:=@PySem.plainId_quiet
def rY:=@PySem.mem_of_lookup
def jR:=@Nat.le_succ
def rX.{u}:=@List.take_succ_cons.{u}
def rW.{u,v}:=@List.flatMap_append.{u,v}
def rV.{u,v}:=@List.filterMap_cons.{u,v}
def pA:=@PySem.Heap.get?_push_ne
def xC:=@PySem.F.slot_list_extend
def kP.{u,v}:=@List.map_nil.{u,v}
def xB:=@PySem.F.slot_tuple_iterator_next
def rT:=@PySem.Around.under_plainId
def mQ:=@PySem.wpAny_setField
def mP:=@PySem.wpAny_seqItems
def xA:=@PyProof.Rows.boot_tuple
def rS:=@Nat.lt_of_le_of_lt
def rR.{u,v}:=@List.mem_filterMap.{u,v}
def rQ.{u}:=@List.getElem?_take.{u}
def mO:=@PySem.Heap.size_push
def rP.{u}:=@Array.append_empty.{u}
def px:=@PySem.Heap.size_update
def xy:=@PySem.wpAny_typeNameOf_keyiter
def jq:=@PySem.wpAny_rule
def xx.{u}:=@List.getElem?_set_self.{u}
def xw:=@PySem.F.slot_list_getattribute
def rO.{u}:=@List.ext_getElem?.{u}
def rN:=@Bool.eq_false_iff
def rM.{u}:=@Array.toList_push.{u}
def rL:=@PySem.wpAny_setField_rec
def xu:=@PySem.wpAny_loadPart'
def xt.{u}:=@List.Perm.append_left.{u}
def rK.{u}:=@List.length_drop.{u}
def rJ.{u}:=@Array.toList_inj.{u}
def rH:=@PySem.wpAny_loadPart_at
def Bt:=@PyProof.Rows.boot_isinstance
def pj:=@Nat.add_assoc
def ph:=@Bool.not_true
def xr:=@PySem.wpAny_pyNext_list_end
def xq:=@PySem.wpAny_notOrdered_dict
def mM.{u,v}:=@Sum.inr.inj.{u,v}
def xp.{u}:=@Option.some_ne_none.{u}
def rG.{u,v}:=@Option.map_some.{u,v}
def xn:=@PySem.Obj.isFreed_of_fields
def rE:=@List.range_succ
def xl.{u,v}:=@List.map_congr_left.{u,v}
def rD.{u,v}:=@List.foldl_cons.{u,v}
def xj:=@PySem.F.slot_enumerate_next
def Bs.{u}:=@Array.getD_eq_getD_getElem?.{u}
def Br.{u}:=@List.perm_ext_iff_of_nodup.{u}
def Bq.{u}:=@List.getD_eq_getElem?_getD.{u}
def xi:=@PySem.wpAny_loadName_local
def xf:=@PySem.W.callWith_K
def xc:=@PySem.Heap.get?_none_of_le
def xb:=@PySem.F.slot_NoneType_hash
def w_:=@PySem.Calls.evalArgs_plain
def Bp:=@PySem.F.slot_dict_getitem
def rC.{u}:=@List.take_zero.{u}
def Bo.{u}:=@List.pairwise_iff_getElem.{u}
def Bn.{u}:=@List.extract_eq_take_drop.{u}
def Bm.{u}:=@List.drop_eq_getElem_cons.{u}
def rB:=@PySem.wpAny_execs_nil
def mK:=@PySem.sizeLine_eq
def rA:=@PySem.codeAny_builtin
def Bl:=@PySem.F.slot_dict_update
def w6.{u}:=@List.reverse_cons.{u}
def w5:=@PySem.Heap.SameBut.update
def Bk:=@PySem.F.plainAttrs_dict
def rq.{u}:=@List.cons.inj.{u}
def pb:=@Int.le_refl
def wZ:=@PySem.wpAny_pyIter_tuple
def o_:=@PySem.codeAny_mono
def wY.{u}:=@beq_self_eq_true.{u}
def wX.{u}:=@List.idxOf?_cons.{u}
def wW.{u}:=@List.getElem_mem.{u}
def wV.{u}:=@List.filter_cons.{u}
def Bj.{u}:=@List.drop_eq_nil_of_le.{u}
def Bi.{u}:=@Array.getElem?_eq_none.{u}
namespace L2
open PySem PySem.Spec PyProof.Rows
abbrev aI:=Sum Int Str
def mw:aI->Value->Bool
 | .inl k,v=>Value.isInt k v
 | .inr x,v=>Value.isStrOf x v
def UA (w:World):aI->Int
 | .inl k=>hashInt k
 | .inr x=>hashStr w x
def cy:∀{k:aI}{v:Value},mw k v=true->(∃i t,k=Sum.inl i/\v=Value.int i t)\/(∃x t,k=Sum.inr x/\v=Value.str x t)
 | .inl i,v,h=>by
  obtain⟨t,e⟩:=Value.isInt_shape (k:=i) (v:=v) h;exact .inl ⟨i,t,rfl,e⟩
 | .inr x,v,h=>by
  obtain⟨t,e⟩:=Value.isStrOf_shape (x:=x) (v:=v) h;exact .inr ⟨x,t,rfl,e⟩
def F4 (i:Int)(t:Tok):mw (.inl i) (.int i t)=true:=by simp [mw,Value.isInt]
def FZ (x:Str)(t:Tok):mw (.inr x) (.str x t)=true:=by simp [mw,Value.isStrOf]
def Ql (a b:Int):decide ((Sum.inl a:aI)=Sum.inl b)=(a == b):=by
 by_cases e:a=b
 .subst e;simp
 have h:¬(Sum.inl a:aI)=Sum.inl b:=λq=>e (Sum.inl.inj q);rw [gh h];exact(jB.mpr e).symm
def Qi (a b:Str):decide ((Sum.inr a:aI)=Sum.inr b)=decide (a=b):=by
 by_cases e:a=b
 .subst e;simp
 have h:¬(Sum.inr a:aI)=Sum.inr b:=λq=>e (mM q);rw [gh h,gh e]
def Qk (a:Int)(b:Str):decide ((Sum.inl a:aI)=Sum.inr b)=false:=gh (λq=>nomatch q)
def Qj (a:Str) (b:Int):decide ((Sum.inr a:aI)=Sum.inl b)=false:=gh (λq=>nomatch q)
def aK (prog:Program)(w:World):PySem.KeyKind prog w aI where
 is:=mw
 hash:=UA w
 inj:=λv a b ha hb=>by
  rcases cy ha with ⟨i,t,rfl,rfl⟩ | ⟨x,t,rfl,rfl⟩
  .rcases cy hb with ⟨j,u,rfl,e⟩ | ⟨y,u,rfl,e⟩
   .injection e with e1 _;rw [e1]
   exact nomatch e
  rcases cy hb with ⟨j,u,rfl,e⟩ | ⟨y,u,rfl,e⟩
  .exact nomatch e
  injection e with e1 _;rw [e1]
 byValue:=λk v h=>by
  rcases cy h with ⟨i,t,rfl,rfl⟩ | ⟨x,t,rfl,rfl⟩ <;> rfl
 pyHash:=λhv h=>by
  rcases cy hv with ⟨i,t,rfl,rfl⟩ | ⟨x,t,rfl,rfl⟩
  .exact wpAny_pyHash_int h
  exact wpAny_pyHash_str h
 eqBool:=λhu hv h=>by
  rcases cy hu with ⟨i,t,rfl,rfl⟩ | ⟨x,t,rfl,rfl⟩
  .rcases cy hv with ⟨j,u,rfl,rfl⟩ | ⟨y,u,rfl,rfl⟩
   .rw [Ql] at h;exact wpAny_eqBool_int h
   rw [Qk] at h;exact SeqAt.EqAt.int_str i t y u _ _ _ _ h
  rcases cy hv with ⟨j,u,rfl,rfl⟩ | ⟨y,u,rfl,rfl⟩
  .rw [Qj] at h;exact SeqAt.EqAt.str_int x t j u _ _ _ _ h
  rw [Qi] at h;exact wpAny_eqBool_str h
 «strs»:=λk x t v h=>by
  rcases cy h with ⟨i,u,rfl,e⟩ | ⟨y,u,rfl,e⟩
  .exact nomatch e
  injection e with e1 _;subst e1;cases v <;> rfl
def lI (prog:Program)(w:World) (i:Int)(t:Tok):(aK prog w).is (.inl i) (.int i t)=true:=F4 i t
def qv (prog:Program)(w:World)(x:Str)(t:Tok):(aK prog w).is (.inr x) (.str x t)=true:=FZ x t
inductive V where
 | gF | bl (b:Bool) | int (i:Int) | str (x:Str) | Gz (b:Array UInt8) | Vt (b:UInt64) | ref (a:Addr) | ty (n:String)
 deriving DecidableEq
def RelV:V->Value->Prop
 | .gF,u=>u=Value.none
 | .bl b,u=>u=Value.bool b
 | .int i,u=>∃t,u=Value.int i t
 | .str x,u=>∃t,u=Value.str x t
 | .Gz b,u=>∃t,u=Value.bytes b t
 | .Vt b,u=>∃t,u=Value.float b t
 | .ref a,u=>510
 | .ty n,u=>u=Value.type n
abbrev bq:84->z0m->Prop:=Paired RelV
theorem bq.length {xs:84}{us:z0m}(r:bq xs us):xs.length=us.length:=bf r
theorem bq.get:∀{xs:84}{us:z0m}{i:Nat}{x:V},bq xs us->575->∃u,us[i]?=some u/\RelV x u
 | _,_,_,_,.nil,e=>by simp at e
 | _,_,0,_,.cons r _,e=>by simp at e;subst e;exact⟨_,rfl,r⟩
 | _,_,i+1,x,.cons _ t,e=>by
  obtain⟨u,h1,h2⟩:=bq.get (i:=i) (x:=x) t (by simpa using e);exact⟨u,by simpa using h1,h2⟩
theorem bq.append:∀{xs ys:84}{us ws:z0m},bq xs us->bq ys ws->bq (xs++ys) (us++ws)
 | _,_,_,_,.nil,s=>s
 | _,_,_,_,.cons r t,s=>.cons r (bq.append t s)
theorem bq.take:∀{xs:84}{us:z0m}(n:Nat),bq xs us->bq (xs.take n) (us.take n)
 | _,_,0,_=>.nil
 | _,_,_+1,.nil=>.nil
 | _,_,n+1,.cons r t=>.cons r (bq.take n t)
theorem bq.drop:∀{xs:84}{us:z0m}(n:Nat),bq xs us->bq (xs.drop n) (us.drop n)
 | _,_,0,r=>r
 | _,_,_+1,.nil=>.nil
 | _,_,n+1,.cons _ t=>bq.drop n t
def jP:126->z0j->Prop
 | some v,some u=>RelV v u
 | none,none=>True
 | _,_=>False
def KV {κ:Type}:546->List (κ×Value)->Prop:=Paired λ(p:κ×V)(q:κ×Value)=>p.1=q.1/\RelV p.2 q.2
def kV:aI->V
 | .inl i=>.int i
 | .inr x=>.str x
inductive HO where
 | lst (xs:84)
 | tup (xs:84)
 | dK (kvs:86) | dT (kvs:518)
 | set (S:Int->Bool) (n:Nat)
 | ins (C dx:Addr)(fs:501)
 | own (x:Addr)
 | xd (fs:501)
 | met (f x:Addr)
 | NB (lo hi:Int)
 | mD (o:Obj)(u:HO)
 | xI (ps:z0k)
 | ext (φ:z0n)
abbrev Hp:=Addr->Option HO
def upd (H:Hp)(a:Addr)(o:HO):Hp:=λb=>if b=a then 65 else H b
def af {H:Hp}{a:Addr}{o:HO}:upd H a o a=65:=by unfold upd;rw [ar rfl]
def ai {H:Hp}{a b:Addr}{o:HO}(h:b≠a):upd H a o b=H b:=by unfold upd;rw [aq h]
def qT {H:Hp}{a:Addr}{o u:HO}:upd (upd H a o) a u=upd H a u:=by
 funext b;unfold upd;split <;> rfl
def Ue {H:Hp}{a b:Addr}{o u:HO}(h:H a=65)(h':H b=some u)(d:o≠u):a≠b:=by
 intro e;subst e;rw [h] at h';exact d (cX h')
def aB {H:Hp}{a b:Addr}{o:HO}(h:H a=65)(h':H b=none):a≠b:=by
 intro e;subst e;rw [h] at h';cases h'
section
variable (P:Program)(w:World)
def bR (H:Hp)(h:Heap)(a:Addr):HO->Prop
 | .lst xs=>xs.length<=sizeLine/\∃(aT:z0m) (n:Nat),bq xs aT/\h.get? a=some { cls:=476,data:=.seq aT.toArray n }
 | .tup xs=>xs.length<=sizeLine/\∃aT:z0m,bq xs aT/\IsTup h a aT.toArray
 | .dK kvs=>875
 | .dT kvs=>kvs.length<=sizeLine/\663/\∃xs:565,
   Paired (λ(p:List aI×V)(q:List aI×Addr×Value)=>p.1=q.1/\H q.2.1=some (.tup (p.1.map kV))/\RelV p.2 q.2.2) kvs xs /\
   ∃o es ep,h.get? a=65/\o.ExactDict/\o.data=.dict es ep/\es.toList=xs.map (entryOfKey (tupleKind (aK P w)))/\(xs.map 27).Nodup
 | .set S n=>h.SetOf (intKind P w) a S n
 | .ins C dx fs=>H dx=some (.own a)/\fs.length<=1000/\dx≠a/\h.get? a=some (PySem.W.instObj C dx) /\
   ∃mA,h.Ns1 dx mA/\(∀f,jP (fs.lookup f) (mA f))/\PySem.Within mA (fs.map 27)
 | .own _=>∃o,h.get? a=65
 | .xd fs=>∃mA,h.Ns1 a mA/\∀f,jP (fs.lookup f) (mA f)
 | .NB lo hi=>∃t u v,h.get? a=some 772
 | .mD o u=>h.get? a=65/\bR H h a u
 | .xI ps=>h.get? a=some { cls:=.none,data:=.fields ps }
 | .met f x=>h.get? a=some (PySem.W.methodObj (.ref f) (.ref x))
 | .ext φ=>φ h/\(∃o,h.get? a=65)/\∀h1 h2:Heap,φ h1->(∀o,h1.get? a=65->h2.get? a=65)->φ h2
def mJ (H:Hp)(h:Heap):Prop:=∀a o,H a=65->bR P w H h a o
end
section
variable {P:Program}{w:World}{H H':Hp}{h h':Heap}{a:Addr}{o:HO}
theorem bR.lt (x:bR P w H h a o):a < h.objs.size:=by
 cases o with
 | lst xs=>obtain⟨_,_,_,_,e⟩:=x;exact aV e
 | tup xs=>obtain⟨_,_,_,p⟩:=x;exact p.lt
 | dK kvs=>obtain⟨_,_,_,_,o,_,_,e,_⟩:=x;exact aV e
 | dT kvs=>obtain⟨_,_,_,_,o,_,_,e,_⟩:=x;exact aV e
 | set S n=>obtain⟨o,_,_,_,e,_⟩:=x;exact aV e
 | ins C dx fs=>obtain⟨_,_,_,e,_⟩:=x;exact aV e
 | own y=>obtain⟨_,e⟩:=x;exact aV e
 | xd fs=>obtain⟨_,⟨_,_,_,e,_⟩,_⟩:=x;exact aV e
 | NB lo hi=>obtain⟨_,_,_,e⟩:=x;exact aV e
 | mD ob u=>obtain⟨e,_⟩:=x;exact aV e
 | xI ps=>exact aV (show h.get? a=some _ from x)
 | met f y=>exact aV (show h.get? a=some _ from x)
 | ext φ=>obtain⟨_,⟨_,e⟩,_⟩:=x;exact aV e
theorem Paired.cJ {α β:Type}{F G:α->β->Prop}:∀{l₁:List α}{l₂:List β},Paired F l₁ l₂->(∀a b,F a b->G a b)->Paired G l₁ l₂
 | _,_,.nil,_=>.nil
 | _,_,.cons r t,f=>.cons (f _ _ r) (Paired.cJ t f)
def bR.jZ (x:bR P w H h a o)(k:∀b u,(b=a\/H b=some (.own a))->763)
  (ho:∀b,H b=some (.own a)->H' b=some (.own a))(ht:∀b xs,H b=some (.tup xs)->H' b=some (.tup xs)):bR P w H' h' a o:=by
 induction o with
 | lst xs=>obtain⟨z,aT,n,r,e⟩:=x;exact⟨z,aT,n,r,668⟩
 | tup xs=>obtain⟨z,aT,r,ob,e,c⟩:=x;exact⟨z,aT,r,ob,668,c⟩
 | dK kvs=>obtain⟨z,y,vs,r,ob,es,ep,e,c⟩:=x;exact⟨z,y,vs,r,ob,es,ep,668,c⟩
 | dT kvs =>
  obtain⟨z,y,xs,r,ob,es,ep,e,c,c1,c2,c3⟩:=x;exact⟨z,y,xs,Paired.cJ r λp q z=>⟨z.1,ht _ _ z.2.1,z.2.2⟩,ob,es,ep,668,c,c1,c2,c3⟩
 | set S n=>obtain⟨ob,es,ep,t,e,c⟩:=x;exact⟨ob,es,ep,t,668,c⟩
 | ins C dx fs =>
  obtain⟨d,z,ne,e,mA,⟨od,es,ep,e2,c⟩,r,r1⟩:=x;exact⟨ho _ d,z,ne,668,mA,⟨od,es,ep,k _ _ (.inr d) e2,c⟩,r,r1⟩
 | own y=>obtain⟨ob,e⟩:=x;exact⟨ob,668⟩
 | xd fs=>obtain⟨mA,⟨od,es,ep,e,c⟩,r⟩:=x;exact⟨mA,⟨od,es,ep,668,c⟩,r⟩
 | NB lo hi=>obtain⟨t,u,v,e⟩:=x;exact⟨t,u,v,668⟩
 | mD ob u ih=>obtain⟨e,q⟩:=x;exact⟨668,ih q⟩
 | xI ps =>
  have e:h.get? a=some { cls:=.none,data:=.fields ps }:=x;show h'.get? a=some { cls:=.none,data:=.fields ps };exact k a _ 419 e
 | met f y =>
  have e:h.get? a=some (PySem.W.methodObj (.ref f) (.ref y)):=x;show h'.get? a=some (PySem.W.methodObj (.ref f) (.ref y));exact k a _ 419 e
 | ext φ=>obtain⟨p,⟨o,e⟩,st⟩:=x;exact⟨st _ _ p λo q=>k _ _ 419 q,⟨o,668⟩,st⟩
theorem mJ.lt (x:mJ P w H h)(e:H a=65):a < h.objs.size:=(x a o e).lt
def mJ.fresh (x:mJ P w H h)(e:h.objs.size<=a):H a=none:=by
 cases q:H a with
 | none=>rfl
 | some u=>exact absurd (fK (x.lt q) e) (ir _)
def mJ.kept (x:mJ P w H h)(k:∀b u,763):mJ P w H h':=λa o e =>
 (x a o e).jZ (λb u _ q=>k b u q) (λ_ q=>q) λ_ _ q=>q
def mJ.laid (x:mJ P w H h)(k:∀b u,763)(hp:h.objs.size<=a)(new:bR P w (upd H a o) h' a o):mJ P w (upd H a o) h':=λb u e=>by
 have hn:=x.fresh hp;by_cases hb:b=a
 .subst hb;rw [af] at e;cases e;exact new
 rw [ai hb] at e;exact(x b u e).jZ (λc v _ q=>k c v q) (λc q=>746) λc xs q=>746
end
def Rd (H:Hp)(a:Addr)(u:HO):Prop:=H a=some u\/∃o,H a=some (.mD o u)
def Rd.ok {P:Program}{w:World}{H:Hp}{h:Heap}{a:Addr}{u:HO}(r:Rd H a u)(x:mJ P w H h):bR P w H h a u:=by
 rcases r with r | ⟨o,r⟩
 .exact x a u r
 obtain⟨_,q⟩:=x a _ r;exact q
def Wk:Option HO->Prop
 | some (.lst _)=>True
 | some (.dK _)=>True
 | some (.dT _)=>True
 | some (.set _ _)=>True
 | some (.ins _ _ _)=>True
 | some (.ext _)=>True
 | _=>False
section
variable {P:Program}{w:World}{H:Hp}{h h':Heap}{x e:Addr}{o':HO}
def mJ.write (ok:mJ P w H h)(mu:Wk (H x))(he:e=x\/H e=some (.own x))(k:∀b u,b≠e->763)(R9:∃u,h'.get? e=some u)
  (new:bR P w (upd H x o') h' x o'):mJ P w (upd H x o') h':=λb u q=>by
 have Ua:∀c y,H c=some (.own y)->c≠x:=λc y r z=>by subst z;rw [r] at mu;exact mu
 have Y5:∀c xs,H c=some (.tup xs)->c≠x:=λc xs r z=>by subst z;rw [r] at mu;exact mu
 by_cases hb:b=x
 .subst hb;rw [af] at q;cases q;exact new
 rw [ai hb] at q;by_cases QO:b=e
 .have q':H b=some (.own x):=by
   rcases he with z | z
   .exact absurd (QO.trans z) hb
   rw [QO];exact z
  rw [q] at q';cases q';obtain⟨v,hv⟩:=R9;exact⟨v,by rw [QO];exact hv⟩
 refine(ok b u q).jZ (λc v hc r=>k c v ?_ r) (λc r=>by rw [ai (Ua c b r)];exact r) λc xs r=>by rw [ai (Y5 c xs r)];exact r
 rcases hc with rfl | hc
 .exact QO
 rintro rfl;rcases he with z | z
 .exact Ua c b hc z
 rw [hc] at z;cases z;exact hb rfl
end
structure Un (fs ex:z0q)(H H':Hp)(h h':Heap):Prop where
 keep:∀b o,h.get? b=65->H b=none->b∉fs->b∉ex->162=65
 slot:∀b o,h.get? b=65->H b=none->b∈fs->b∉ex->∃sl,162=some { o with slots:=sl }
 free:∀b o,h.get? b=65->H b=none->b∉ex->H' b=none
 there:∀b o,h.get? b=65->b∉ex->∃o',162=some o'
 sG:∀b xs,H b=some (.tup xs)->H' b=some (.tup xs)
 qM:∀b o u,H b=some (.mD o u)->H' b=some (.mD o u)
 qG:∀b ps,H b=some (.xI ps)->∃more,H' b=some (.xI (ps++more))
section
variable {fs Oa ex ex':z0q}{H H1 H2:Hp}{h h1 h2 h':Heap}{a x e:Addr}{o:HO}
def Un.any (u:Un fs ex H H1 h h1){b:Addr}{ob:Obj}(q:h.get? b=some ob)(n:H b=none)(hx:b∉ex):∃sl,h1.get? b=some { ob with slots:=sl }:=by
 by_cases hb:b∈fs
 .exact u.slot b ob q n hb hx
 exact⟨ob.slots,u.keep b ob q n hb hx⟩
def Un.kept (k:∀b u,763):Un fs ex H H h h' :=
 ⟨λb ob q _ _ _=>k b ob q,λb ob q _ _ _=>⟨ob.slots,k b ob q⟩,λ_ _ _ n _=>n,λb ob q _=>⟨ob,k b ob q⟩,λ_ _ q=>q,λ_ _ _ q=>q,λ_ ps q=>⟨#[],by rw [q];simp⟩⟩
def Un.refl:Un fs ex H H h h:=Un.kept λ_ _ q=>q
def Un.laid (k:∀b u,763)(hp:h.objs.size<=a)(hn:H a=none):Un fs ex H (upd H a o) h h' where
 keep:=λb u q _ _ _=>k b u q
 slot:=λb u q _ _ _=>⟨u.slots,k b u q⟩
 free:=λb u q n _=>by rw [ai (bJ (fK (aV q) hp))];exact n
 there:=λb u q _=>⟨u,k b u q⟩
 sG:=λb xs q=>746
 qM:=λb u xs q=>746
 qG:=λb ps q=>⟨#[],by rw [ai (aB q hn),q];simp⟩
def Un.write (mu:Wk (H x))(he:e=x\/H e=some (.own x))(k:∀b u,b≠e->763)(R9:∃u,h'.get? e=some u):Un fs ex H (upd H x o) h h':=by
 have hx:∀b,H b=none->b≠x:=λb n z=>by subst z;rw [n] at mu;exact mu
 have hb:∀b,H b=none->b≠e:=λb n z=>by
  subst z;rcases he with r | r
  .exact hx b n r
  rw [n] at r;cases r
 have hm:∀b u,H b=some u->¬Wk (some u)->b≠x:=λb u q nm z=>by subst z;rw [q] at mu;exact nm mu
 refine⟨λb u q n _ _=>k b u (hb b n) q,λb u q n _ _=>⟨u.slots,k b u (hb b n) q⟩,λb u q n _=>by rw [ai (hx b n)];exact n,λb u q _=>?_,
  λb xs q=>by rw [ai (hm b _ q λz=>z)];exact q,λb u xs q=>by rw [ai (hm b _ q λz=>z)];exact q,λb ps q=>⟨#[],by rw [ai (hm b _ q λz=>z),q];simp⟩⟩
 by_cases QO:b=e
 .subst QO;exact R9
 exact⟨u,k b u QO q⟩
end
def OT (h:Heap)(H:Hp):z0q:=(List.range h.objs.size).filter λa=>(H a).isSome
def uZ (h:Heap)(H:Hp):Heap:=PySem.W.hideAll h (OT h H)
def F8 (h:Heap)(H:Hp):(uZ h H).objs.size=h.objs.size:=PySem.W.hideAll_size _ _
def JP {h:Heap}{H:Hp}{b:Addr}{o:Obj}(e:h.get? b=65)(n:H b=none):(uZ h H).get? b=65 :=
 PySem.W.hideAll_get _ e λhm=>by
  have q:(H b).isSome=true:=(i9.mp hm).2;rw [n] at q;simp at q
def Ma {h:Heap}{H:Hp}{b:Addr}{o:Obj}(e:(uZ h H).get? b=65):h.get? b=65/\H b=none:=by
 have e':h.get? b=65:=PySem.W.of_hideAll (OT h H) e;refine⟨e',?_⟩;cases q:H b with
 | none=>rfl
 | some x =>
  have hm:b∈OT h H:=i9.mpr ⟨cb.mpr (aV e'),by simp [q]⟩;have z:(uZ h H).get? b=none:=PySem.W.hideAll_none (OT h H) hm;rw [z] at e;cases e
structure Mod (K:aY)(mg:z0c)(base:Heap):Prop where
 RU:K.In base
 glob:base.Ns mainGlobals mg
 blt:∃mb,base.Ns builtinsNs mb/\∀x:Str,x ≠ "__name__" -> mb x=bootBuiltins x
 nolimit:base.NoLimit
structure Cx where
 prog:Program
 w:World
 K:aY
 mg:Str->z0j
 base:Heap
 A:Around
 N:z0t
 s₀:Shared
 H₀:Hp
 env:Env
 outer:List Env
 stack:List Env
 ex:z0q
 fn:Str->Bool
 calm:Bool
 pn:z0e
 xe:Value->146
def qN (l:List Env):z0q:=l.filterMap (·.frame)
abbrev Cx.fs (X:Cx):z0q:=qN X.outer
def XI (sc:Scope)(x:Str):Prop:=sc.names.lookup x=531\/sc.names.lookup x=some .cell\/sc.names.lookup x=some .free
def Loc (sc:Scope)(x:Str):Prop:=sc.names.lookup x=531\/sc.names.lookup x=some .cell
def Look (env:Env)(h:Heap)(m:z0c)(x:Str)(u:Value):Prop :=
 (env.kindOf x=531/\m x=some u)\/((env.kindOf x=some .cell\/env.kindOf x=some .free)/\∃c,env.cells.lookup x=some c/\h.IsCell c (some u))
structure Cx.Ok (X:Cx):Prop where
 mod:Mod X.K X.mg X.base
 kind:X.env.scope.kind=.function
 glob:X.env.globals=mainGlobals
 blt:X.env.builtins=builtinsNs
 above:X.s₀.heap.objs.size<=X.env.locals
 inj:∀x y c,682->X.env.cells.lookup y=some c->x=y
 has:∀x,(X.env.kindOf x=some .cell\/X.env.kindOf x=some .free)->∃c,682
 Oj:∀x c,X.fn x=true->682->X.s₀.heap.objs.size<=c
 hd:530->X.A.handled=none
 frames:X.A.frames=some X.stack
 KQ:X.stack=X.outer\/(X.stack=X.env::X.outer/\X.env.frame=some X.env.locals)
 QY:∀b∈X.ex,b≠X.env.locals/\∀x c,682->c≠b
 bs:∀b o,X.base.get? b=65->X.s₀.heap.get? b=65/\X.H₀ b=none
 Hk:X.base.objs.size<=X.s₀.heap.objs.size
 zU:∀b o,X.base.get? b=65->b∉X.ex
 Ak:∀b∈X.ex,b∉X.fs
 nF:X.s₀.heap.FunFrames X.base X.outer
 K8:∀b∈X.fs,X.H₀ b=none
structure Inv (X:Cx)(ag:z0e)(σ:List (126))(H:Hp)(s:Shared):Prop where
 ok:X.Ok
 os:s.os=X.s₀.os
 bare:AllBare s.gens
 base:Un X.fs X.ex X.H₀ H X.s₀.heap s.heap
 loc:∃m,s.heap.Ns X.env.locals m/\∀(i:Nat)(x:Str)(v:V),X.N[i]?=some x->σ[i]?=some (some v)->XI X.env.scope x->∃u,RelV v u/\Look X.env s.heap m x u
 cell:∀x c,682->∃v,s.heap.IsCell c v
 free:H X.env.locals=none
 i6:∀x c,682->H c=none
 pin:∀p∈X.pn++ag,s.heap.get? p.1=some p.2/\H p.1=none/\p.1≠X.env.locals/\p.1∉X.fs/\∀v,p.2.data≠.cell v
 bI:mJ X.prog X.w H s.heap
 len:σ.length=X.N.length
section
variable {X:Cx}{ag:z0e}{σ:List (126)}{H H':Hp}{s:Shared}{h':Heap}
def Cx.Ok.Y7 (ok:X.Ok){b:Addr}{o:Obj}(e:X.base.get? b=65):b∉X.fs:=λhb=>by
 have:=(ok.nF.mem hb).1;rw [e] at this;cases this
theorem Inv.bs (I:87):∀b o,X.base.get? b=65->259/\H b=none:=λb o e =>
 ⟨I.base.keep b o (I.ok.bs b o e).1 (I.ok.bs b o e).2 (I.ok.Y7 e) (I.ok.zU b o e),I.base.free b o (I.ok.bs b o e).1 (I.ok.bs b o e).2 (I.ok.zU b o e)⟩
def Inv.bk (I:87):∀b o,X.base.get? b=65->259:=λb o e=>(I.bs b o e).1
theorem Inv.mod (I:87):Mod X.K X.mg X.base:=I.ok.mod
def Inv.uK (I:87):X.K.In s.heap:=I.ok.mod.RU.keeps I.bk
def Inv.fr (I:87):∃m,Fr X.base X.env.locals s.heap m :=
 let ⟨m,hn,_⟩:=I.loc
 ⟨m,hn,I.bk,cW I.ok.Hk I.ok.above⟩
theorem Inv.lt (I:87):X.env.locals < s.heap.objs.size:=let ⟨_,hn,_⟩:=I.loc;hn.lt
def Inv.sz (I:87):X.s₀.heap.objs.size<=s.heap.objs.size:=cW I.ok.above (gq I.lt)
def Inv.Y6 (I:87){a:Addr}(h:s.heap.objs.size<=a):a∉X.fs:=λhb=>by
 obtain⟨_,o,ho,_⟩:=I.ok.nF.mem hb;exact absurd (fK (aV ho) (cW I.sz h)) (ir _)
def Inv.Oi (I:87):∀x c,682->c≠X.env.locals:=λx c e z=>by
 obtain⟨v,o,ho,hd⟩:=I.cell x c e;obtain⟨m,⟨o',es,ep,EF,N7,_⟩,_⟩:=I.loc;rw [z,EF] at ho;cases ho;rw [N7] at hd;cases hd
theorem Inv.nF (I:87):s.heap.FunFrames X.base X.outer:=by
 have all:∀(l:List Env),(∀b∈qN l,b∈X.fs)->X.s₀.heap.FunFrames X.base l->s.heap.FunFrames X.base l:=by
  intro l
  induction l with
  | nil=>intro _ _;trivial
  | cons env r ih =>
   intro hs hl;obtain⟨hk,⟨L,o,hf,hn,ho,hd⟩,hr⟩:=hl;have hL:L∈X.fs:=hs L (by unfold qN;rw [rV,hf];exact a8);obtain⟨sl,e⟩:=I.base.slot L o ho (I.ok.K8 L hL) hL λz=>I.ok.Ak L z hL;exact⟨hk,⟨L,_,hf,hn,e,hd⟩,ih (λb hb=>hs b (by unfold qN;rw [rV,hf];exact bA _ hb)) hr⟩
 exact all X.outer (λ_ hb=>hb) I.ok.nF
theorem Inv.stack (I:87):s.heap.FunFrames X.base X.stack:=by
 rcases I.ok.KQ with e | ⟨e,hf⟩
 .rw [e];exact I.nF
 rw [e];obtain⟨m,hn,_⟩:=I.loc;refine .cons (by rw [I.ok.kind];decide) hf hn ?_ I.nF;exact xc (cW I.ok.Hk I.ok.above)
def Inv.xM (I:87):∀b∈qN X.stack,b∈X.env.locals::X.fs:=λb hb=>by
 rcases I.ok.KQ with e | ⟨e,hf⟩
 .rw [e] at hb;exact bA _ hb
 rw [e] at hb;unfold qN at hb;rw [rV,hf] at hb;exact hb
def Inv.qU (I:87):∀b∈qN X.stack,H b=none:=λb hb=>by
 rcases a_.mp (I.xM b hb) with e | hb
 .rw [e];exact I.free
 obtain⟨_,o,ho,_⟩:=I.ok.nF.mem hb;exact I.base.free b o ho (I.ok.K8 b hb) λz=>I.ok.Ak b z hb
def Inv.step {g':Array GenState}{t':Nat}{d':Drawn}{ch:z0q}(I:87)
  (K1:∀b∈ch,(b∈X.ex\/X.s₀.heap.objs.size<=b)/\809)
  (keep:∀b o,b≠X.env.locals->b∉X.fs->b∉ch->259->H b=none->162=65)
  (slot:∀b o,b≠X.env.locals->b∈X.fs->b∉ch->259->H b=none->∃sl,162=some { o with slots:=sl })(free:∀b o,b∉ch->259->H b=none->H' b=none)
  (there:∀b o,b∉ch->259->∃o',162=some o')
  (sG:∀b xs,H b=some (.tup xs)->H' b=some (.tup xs))(qM:∀b o u,H b=some (.mD o u)->H' b=some (.mD o u))(qG:∀b ps,H b=some (.xI ps)->∃more,H' b=some (.xI (ps++more)))
  (ns:∀m,s.heap.Ns X.env.locals m->h'.Ns X.env.locals m)(bI:mJ X.prog X.w H' h')(hg:AllBare g') :
  Inv X ag σ H' { s with heap:=h',gens:=g',drawn:=d',toks:=t' }:=by
 have neL:∀b o,X.s₀.heap.get? b=65->b≠X.env.locals:=λb o e=>bJ (fK (aV e) I.ok.above);have RP:∀b o,X.s₀.heap.get? b=65->b∉X.ex->b∉ch:=λb o e hx hb=>by
  rcases (K1 b hb).1 with z | z
  .exact hx z
  exact absurd (fK (aV e) z) (ir _)
 have cellK:∀x c,682->∀v,s.heap.IsCell c v->h'.IsCell c v:=λx c e v ⟨o,ho,hd⟩=>by
  have Ug:c∉ch:=λz=>(K1 c z).2.2.1 x c e rfl;by_cases hc:c∈X.fs
  .obtain⟨sl,q⟩:=slot c o (I.Oi x c e) hc Ug ho (I.i6 x c e);exact⟨_,q,hd⟩
  exact⟨o,keep c o (I.Oi x c e) hc Ug ho (I.i6 x c e),hd⟩
 refine⟨I.ok,I.os,hg,⟨λb o e n hb hx=>?_,λb o e n hb hx=>?_,λb o e n hx=>?_,λb o e hx=>?_,λb xs e=>sG b xs (I.base.sG b xs e),λb o xs e=>qM b o xs (I.base.qM b o xs e),λb ps e=>?_⟩,?_,λx c e=>?_,?_,λx c e=>?_,λp hp=>?_,bI,I.len⟩
 .exact keep b o (neL b o e) hb (RP b o e hx) (I.base.keep b o e n hb hx) (I.base.free b o e n hx)
 .obtain⟨sl,e1⟩:=I.base.slot b o e n hb hx;obtain⟨sl',e2⟩:=slot b _ (neL b o e) hb (RP b o e hx) e1 (I.base.free b o e n hx);exact⟨sl',e2⟩
 .obtain⟨o',e1⟩:=I.base.there b o e hx;exact free b o' (RP b o e hx) e1 (I.base.free b o e n hx)
 .obtain⟨o',e1⟩:=I.base.there b o e hx;exact there b o' (RP b o e hx) e1
 .obtain⟨m1,e1⟩:=I.base.qG b ps e;obtain⟨m2,e2⟩:=qG b _ e1;exact⟨m1++m2,by rw [e2,Array.append_assoc]⟩
 .obtain⟨m,hn,hl⟩:=I.loc;refine⟨m,ns m hn,λi x v e1 e2 e3=>?_⟩;obtain⟨u,r,l⟩:=hl i x v e1 e2 e3;refine⟨u,r,?_⟩;rcases l with l | ⟨k,c,e,z⟩
  .exact .inl l
  exact .inr ⟨k,c,e,cellK x c e _ z⟩
 .obtain⟨v,z⟩:=I.cell x c e;exact⟨v,cellK x c e v z⟩
 .obtain⟨m,⟨o,_,_,ho,_⟩,_⟩:=I.loc;exact free _ o (λz=>(K1 _ z).2.1 rfl) ho I.free
 .obtain⟨v,o,ho,hd⟩:=I.cell x c e;exact free c o (λz=>(K1 c z).2.2.1 x c e rfl) ho (I.i6 x c e)
 obtain⟨e,n,ne,nf,d⟩:=I.pin p hp;have Ug:p.1∉ch:=λz=>(K1 p.1 z).2.2.2 p hp rfl;exact⟨keep p.1 p.2 ne nf Ug e n,free p.1 p.2 Ug e n,ne,nf,d⟩
def Inv.un {t':Nat}(I:87)(u:Un X.fs [] H H' s.heap h')(bI:mJ X.prog X.w H' h'):Inv X ag σ H' 619:=by
 obtain⟨m,⟨o,es,ep,ho,r⟩,_⟩:=id I.loc;obtain⟨sl,hL⟩:=u.any ho I.free 90;exact I.step (g':=s.gens) (d':=s.drawn) (ch:=[]) (λ_ z=>nomatch z) (λb o _ hb _ e n=>u.keep b o e n hb 90) (λb o _ hb _ e n=>u.slot b o e n hb 90) (λb o _ e n=>u.free b o e n 90) (λb o _ e=>u.there b o e 90) u.sG u.qM u.qG (λm' hm=>by
  obtain⟨o',Xp,ep',EF,r'⟩:=hm;rw [ho] at EF;cases EF;exact⟨_,Xp,ep',hL,r'⟩) bI I.bare
def Inv.call {g':Array GenState}{t':Nat}{d':Drawn}{ch:z0q}(I:87)(u:Un (qN X.stack) ch H H' s.heap h')(bI:mJ X.prog X.w H' h')(hg:AllBare g')
  (K1:∀b∈ch,(b∈X.ex\/X.s₀.heap.objs.size<=b)/\809) :
  Inv X ag σ H' { s with heap:=h',gens:=g',drawn:=d',toks:=t' }:=by
 obtain⟨m,⟨o,es,ep,ho,r⟩,_⟩:=id I.loc;obtain⟨sl,hL⟩:=u.any ho I.free λz=>(K1 _ z).2.1 rfl;exact I.step (ch:=ch) K1 (λb o hL hb hc e n=>u.keep b o e n (λz=>(a_.mp (I.xM b z)).elim hL hb) hc) (λb o _ _ hc e n=>u.any e n hc) (λb o hc e n=>u.free b o e n hc) (λb o hc e=>u.there b o e hc) u.sG u.qM u.qG (λm' hm=>by
  obtain⟨o',Xp,ep',EF,r'⟩:=hm;rw [ho] at EF;cases EF;exact⟨_,Xp,ep',hL,r'⟩) bI hg
def Inv.turned {t':Nat}{it:Addr}(I:87)(k:∀b o,b≠it->259->162=65)(hn:H it=none)(hL:it≠X.env.locals)
  (h1:it∈X.ex\/X.s₀.heap.objs.size<=it)(h2:∀x c,682->c≠it)(h3:∀p∈X.pn++ag,p.1≠it):Inv X ag σ H 619:=by
 have nit:∀b u,H b=some u->b≠it:=λb u e z=>by rw [z,hn] at e;cases e
 refine I.step (g':=s.gens) (d':=s.drawn) (ch:=[it]) (λb hb=>?_) (λb o _ _ hc e _=>k b o (λz=>hc (by simp [z])) e) (λb o _ _ hc e _=>⟨o.slots,k b o (λz=>hc (by simp [z])) e⟩) (λ_ _ _ _ n=>n)
  (λb o hc e=>⟨o,k b o (λz=>hc (by simp [z])) e⟩) (λ_ _ e=>e) (λ_ _ _ e=>e) (λb ps e=>⟨#[],by rw [e];simp⟩) (λm hm=>?_) (λb u e=>?_) I.bare
 .have e:b=it:=544
  subst e;exact⟨h1,hL,h2,h3⟩
 .obtain⟨o,es,ep,ho,r⟩:=hm;exact⟨o,es,ep,k _ o (dC hL) ho,r⟩
 refine(I.bI b u e).jZ (λc v hc q=>k c v ?_ q) (λ_ q=>q) λ_ _ q=>q;rcases hc with z | z
 .rw [z];exact nit b u e
 exact nit c _ z
def Inv.tok (I:87) (t:Nat):Inv X ag σ H { s with toks:=t }:=I.un (h':=s.heap) (t':=t) Un.refl I.bI
theorem Inv.kept {t':Nat}(I:87)(k:∀b u,700->162=some u):Inv X ag σ H 619:=I.un (Un.kept k) (I.bI.kept k)
theorem Inv.laid {a:Addr}{o:HO}{t':Nat}(I:87)(k:∀b u,700->162=some u)(hp:s.heap.objs.size<=a)(new:bR X.prog X.w (upd H a o) h' a o) :
  Inv X ag σ (upd H a o) 619:=I.un (Un.laid k hp (I.bI.fresh hp)) (I.bI.laid k hp new)
theorem Inv.write {x e:Addr}{o:HO}{t':Nat}(I:87)(mu:Wk (H x))(he:e=x\/H e=some (.own x))(k:∀b u,b≠e->700->162=some u)(R9:∃u,h'.get? e=some u)
  (new:bR X.prog X.w (upd H x o) h' x o):Inv X ag σ (upd H x o) 619:=I.un (Un.write mu he k R9) (I.bI.write mu he k R9 new)
def Inv.Ed {ml:z0e}(I:87)(h:∀p∈ml,s.heap.get? p.1=some p.2/\H p.1=none/\p.1≠X.env.locals/\p.1∉X.fs/\∀v,p.2.data≠.cell v):Inv X ml σ H s :=
 ⟨I.ok,I.os,I.bare,I.base,I.loc,I.cell,I.free,I.i6,λp hp=>(cw.mp hp).elim (λz=>I.pin p (g_ _ z)) (h p),I.bI,I.len⟩
def tI {N:z0t}(hN:N.Nodup){i j:Nat}{x:Str}(a:N[i]?=some x)(b:N[j]?=some x):i=j:=by
 obtain⟨h1,e1⟩:=a7.mp a;obtain⟨h2,e2⟩:=a7.mp b;exact(pD hN).mp (e1.trans e2.symm)
def vK {M:Model}{A:Around}{E:z0b}{i:Nat}{x:Str}{v:V}{u:Value}{Q:Unit->146}(I:87)(hN:X.N.Nodup)(hi:X.N[i]?=some x)(hx:Loc X.env.scope x)(r:RelV v u)
  (h:∀s',Inv X ag (σ.set i (some v)) H s'->(∃a,Heap.SameBut a s.heap s'.heap/\(a=X.env.locals\/X.env.cells.lookup x=some a))->Q () s')(hf:832:=by first | exact .inl rfl | exact .inr rfl | assumption):wpAny M A (storeName X.env x u) Q E s:=by
 obtain⟨m,hn,hl⟩:=id I.loc;have aag:(X.env.scope.kind == .class || (X.env.scope.kind == .module && X.env.locals != X.env.globals))=false:=by rw [I.ok.kind];rfl
 have hiσ:i < σ.length:=by rw [I.len];exact(a7.mp hi).1
 have Oi:=I.Oi;have tracked:∀{a:Addr}{h':Heap},(∃o,s.heap.get? a=65/\H a=none)->Heap.SameBut a s.heap h'->mJ X.prog X.w H h':=λ{a h'} ha hs b ob e=>by
  obtain⟨_,_,oK⟩:=ha;refine(I.bI b ob e).jZ (λc w' hc q=>(hs.2 c ?_).trans q) (λ_ q=>q) λ_ _ q=>q;rintro rfl;rcases hc with rfl | hc
  .rw [oK] at e;cases e
  rw [oK] at hc;cases hc
 rcases hx with hk | hk
 .refine wpAny_storeName_local hk hn (λh' QA hs=>?_) aag;obtain⟨oL,_,_,N3,_⟩:=id hn;refine h _ ⟨I.ok,I.os,I.bare,⟨λb o e n hb hx=>?_,λb o e n hb hx=>?_,I.base.free,λb o e hx=>?_,I.base.sG,I.base.qM,I.base.qG⟩,⟨_,QA,λj y v' e1 e2 e3=>?_⟩,λy c e=>?_,I.free,I.i6,λp hp=>?_,tracked ⟨oL,N3,I.free⟩ hs,by simpa using I.len⟩ ⟨_,hs,.inl rfl⟩
  .exact(hs.2 b (bJ (fK (aV e) I.ok.above))).trans (I.base.keep b o e n hb hx)
  .obtain⟨sl,e1⟩:=I.base.slot b o e n hb hx;exact⟨sl,(hs.2 b (bJ (fK (aV e) I.ok.above))).trans e1⟩
  .obtain⟨o',e1⟩:=I.base.there b o e hx;exact⟨o',(hs.2 b (bJ (fK (aV e) I.ok.above))).trans e1⟩
  .by_cases hj:j=i
   .subst hj;rw [hi] at e1;cases e1;rw [xx hiσ] at e2;cases e2;exact⟨u,r,.inl ⟨hk,58⟩⟩
   rw [List.getElem?_set_ne (dC hj)] at e2;obtain⟨u',r',q⟩:=hl j y v' e1 e2 e3;refine⟨u',r',?_⟩;rcases q with ⟨k,e⟩ | ⟨k,c,e,z⟩
   .refine .inl ⟨k,?_⟩;have:y≠x:=λe=>hj (tI hN e1 (e ▸ hi));simp [this,e]
   exact .inr ⟨k,c,e,z.sameBut hs (Oi y c e)⟩
  .obtain⟨w',z⟩:=I.cell y c e;exact⟨w',z.sameBut hs (Oi y c e)⟩
  obtain⟨e,n,ne,nf,d⟩:=I.pin p hp;exact⟨(hs.2 p.1 ne).trans e,n,ne,nf,d⟩
 have hfn:X.fn x=true:=by
  rcases hf with z | z
  .exact z
  rw [z] at hk;cases hk
 obtain⟨c,hc⟩:=I.ok.has x (.inl hk);obtain⟨w',z⟩:=I.cell x c hc;refine wpAny_storeName_cell I.ok.kind hk hc z (λh' tW hs=>?_);obtain⟨oc,Hf,Z4⟩:=id z;refine h 517 ⟨I.ok,I.os,I.bare,⟨λb o e n hb hx=>?_,λb o e n hb hx=>?_,I.base.free,λb o e hx=>?_,I.base.sG,I.base.qM,I.base.qG⟩,⟨m,hn.sameBut hs (dC (Oi x c hc)),λj y v' e1 e2 e3=>?_⟩,λy c' e=>?_,I.free,I.i6,λp hp=>?_,tracked ⟨oc,Hf,I.i6 x c hc⟩ hs,by simpa using I.len⟩ ⟨c,hs,.inr hc⟩
 .exact(hs.2 b (bJ (fK (aV e) (I.ok.Oj x c hfn hc)))).trans (I.base.keep b o e n hb hx)
 .obtain⟨sl,e1⟩:=I.base.slot b o e n hb hx;exact⟨sl,(hs.2 b (bJ (fK (aV e) (I.ok.Oj x c hfn hc)))).trans e1⟩
 .obtain⟨o',e1⟩:=I.base.there b o e hx;exact⟨o',(hs.2 b (bJ (fK (aV e) (I.ok.Oj x c hfn hc)))).trans e1⟩
 .by_cases hj:j=i
  .subst hj;rw [hi] at e1;cases e1;rw [xx hiσ] at e2;cases e2;exact⟨u,r,.inr ⟨.inl hk,c,hc,tW⟩⟩
  rw [List.getElem?_set_ne (dC hj)] at e2;obtain⟨u',r',q⟩:=hl j y v' e1 e2 e3;refine⟨u',r',?_⟩;rcases q with q | ⟨k,c',e,z'⟩
  .exact .inl q
  refine .inr ⟨k,c',e,z'.sameBut hs ?_⟩;rintro rfl;exact hj (tI hN e1 (I.ok.inj _ _ _ e hc ▸ hi))
 .by_cases hcc:c'=c
  .subst hcc;exact⟨_,tW⟩
  obtain⟨w2,z2⟩:=I.cell y c' e;exact⟨w2,z2.sameBut hs hcc⟩
 obtain⟨e,n,ne,nf,d⟩:=I.pin p hp;refine⟨(hs.2 p.1 ?_).trans e,n,ne,nf,d⟩;intro q;rw [q,Hf] at e;have q':oc=p.2:=cX e;exact d w' (by rw [<-q'];exact Z4)
def lg {M:Model}{A:Around}{E:z0b}{i:Nat}{x:Str}{v:V}{u:Value}{Q:Unit->146}(I:87)(hN:X.N.Nodup)(hi:X.N[i]?=some x)(hx:Loc X.env.scope x)(r:RelV v u)
  (h:∀s',Inv X ag (σ.set i (some v)) H s'->Q () s')(hf:832:=by first | exact .inl rfl | exact .inr rfl | assumption):wpAny M A (storeName X.env x u) Q E s :=
 vK I hN hi hx r (λs' I' _=>h s' I') hf
def Inv.EW {s':Shared}{ch:z0q}(I:87)(ho:s'.os=s.os)(u:Un (qN X.stack) ch H H' s.heap s'.heap)(bI:mJ X.prog X.w H' s'.heap)(hg:AllBare s'.gens)
  (K1:∀b∈ch,(b∈X.ex\/X.s₀.heap.objs.size<=b)/\809):Inv X ag σ H' s':=by
 obtain⟨h',g',d',t',o'⟩:=s';have e:o'=s.os:=ho;subst e;exact I.call (g':=g') (t':=t') (d':=d') u bI hg K1
end
abbrev XK:=Value->z0l->106
abbrev St:=List (126)
abbrev aZ (a:Addr):126:=some 475
abbrev VK:=V->106
abbrev TE:=St->502
abbrev TT:=St->Hp->(Bool->106)->Prop
abbrev TA:=St->Hp->(84->106)->Prop
structure Ends where
 nx:St->106
 rt:VK
 bk:St->106:=λ_ _=>False
 ct:St->106:=λ_ _=>False
abbrev TS:=Ends->St->106
def EP (X:Cx)(ag:z0e)(σ:St)(Q:VK)(u:Value)(s':Shared):Prop:=∃v H',Inv X ag σ H' s'/\RelV v u/\Q v H'
def TP (X:Cx)(ag:z0e)(σ:St)(Q:Bool->106)(b:Bool)(s':Shared):Prop:=∃H',Inv X ag σ H' s'/\Q b H'
def AP (X:Cx)(ag:z0e)(σ:St)(Q:84->106)(us:z0m)(s':Shared):Prop:=∃vs H',Inv X ag σ H' s'/\bq vs us/\Q vs H'
def SP (X:Cx)(ag:z0e)(D:Ends)(f:Flow)(s':Shared):Prop :=
 match f with
 | .next=>∃σ' H',Inv X ag σ' H' s'/\D.nx σ' H'
 | .brk=>∃σ' H',Inv X ag σ' H' s'/\D.bk σ' H'
 | .cont=>∃σ' H',Inv X ag σ' H' s'/\D.ct σ' H'
 | .ret u=>∃v σ' H',Inv X ag σ' H' s'/\RelV v u/\D.rt v H'
def PE (X:Cx)(e:Expr)(t:TE):Prop :=
 ∀(ag:z0e)(s:Shared)(σ:St)(H:Hp)(Q:VK),87->t σ H Q->wpAny 110 X.A (eval e X.env) (EP X ag σ Q) X.xe s
def PT (X:Cx)(e:Expr)(t:TT):Prop :=
 ∀(ag:z0e)(s:Shared)(σ:St)(H:Hp)(Q:Bool->106),87->t σ H Q->wpAny 110 X.A (isTrue e X.env (eval e X.env)) (TP X ag σ Q) X.xe s
def PW (X:Cx)(e:Expr)(t:TT):Prop :=
 ∀(whole:Sem Value)(ag:z0e)(s:Shared)(σ:St)(H:Hp)(Q:Bool->106),87->t σ H Q->wpAny 110 X.A (isTrue e X.env whole) (TP X ag σ Q) X.xe s
def PW.pt {X:Cx}{e:Expr}{t:TT}(h:PW X e t):PT X e t:=h _
def PA (X:Cx)(es:z0r)(t:TA):Prop :=
 ∀(pos:Pos)(ag:z0e)(s:Shared)(σ:St)(H:Hp)(Q:84->106),87->t σ H Q->wpAny 110 X.A (spliced (680)) (AP X ag σ Q) X.xe s
def PS (X:Cx)(st:Stmt)(t:TS):Prop :=
 ∀(ag:z0e)(s:Shared)(σ:St)(H:Hp)(D:Ends),87->t D σ H->wpAny 110 X.A (exec st X.env) (SP X ag D) X.xe s
def yX (X:Cx)(st:z0s)(t:TS):Prop :=
 ∀(ag:z0e)(s:Shared)(σ:St)(H:Hp)(D:Ends),87->t D σ H->wpAny 110 X.A (execs st X.env) (SP X ag D) X.xe s
def cK {α:Type}{t:Sem α}{Q Q':α->146}{M:Model}{A:Around}{E:z0b}{s:Shared}(h:wpAny M A t Q E s)(hQ:∀a s,Q a s->Q' a s):wpAny M A t Q' E s:=dD h hQ λ_ _ x=>x
section
variable {X:Cx}
def bin {a b:Expr}{ta tb:TE}(ha:PE X a ta)(hb:PE X b tb){ag:z0e}{s:Shared}{σ:St}{H:Hp}{R:V->V->106}(I:87)(h:ta σ H λx H1=>tb σ H1 λy H2=>R x y H2)
  {α:Type}{Q:α->146}{f:Value->Value->Sem α}
  (hf:∀v u s2 x y H2,Inv X ag σ H2 s2->RelV x v->RelV y u->R x y H2->wpAny 110 X.A (f v u) Q X.xe s2) :
  895:=by
 refine 736;obtain⟨x,H1,I1,r1,q1⟩:=ba;refine cK (hb ag s1 σ H1 _ I1 q1) λu s2 ba=>?_;obtain⟨y,H2,I2,r2,q2⟩:=ba;exact hf v u s2 x y H2 I2 r1 r2 q2
inductive V_ (o:Option (126))(R:V->Prop):Prop
|mk(v:V)(e:o=some (some v))(q:R v)
inductive XB (x:V)(R:Bool->Prop):Prop
|mk(c:Bool)(e:x=.bl c)(q:R c)
inductive XI1 (x:V)(R:Int->Prop):Prop
|mk(i:Int)(e:x=.int i)(q:R i)
inductive XI0 (x y:V)(R:Int->Int->Prop):Prop
|mk(i j:Int)(e:x=.int i)(e2:y=.int j)(q:R i j)
inductive XI2 (x y:V)(C:Int->Int->Prop)(R:Int->Int->Prop):Prop
|mk(i j:Int)(e:x=.int i)(e2:y=.int j)(c:C i j)(q:R i j)
inductive Ow (vs:84)(R:V->84->Prop):Prop
|mk(v:V)(r:84)(e:vs=v::r)(q:R v r)
inductive Wb (v:V)(S:Addr->84->Prop) (n:Nat)(R:84->Prop):Prop
|mk(a:Addr)(xs:84)(e:v=91)(s:S a xs)(l:xs.length=n)(q:R xs)
inductive XH (x:V)(S:Addr->Prop)(R:Addr->Prop):Prop
|mk(a:Addr)(e:x=91)(s:S a)(q:R a)
inductive XSq (x:V)(S:Addr->84->Prop)(R:84->Prop):Prop
|mk(a:Addr)(xs:84)(e:x=91)(s:S a xs)(q:R xs)
inductive XC2 (S:Addr->84->Prop)(x y:V)(R:84->84->Prop):Prop
|mk(a b:Addr)(xs ys:84)(e:x=91)(e2:y=.ref b)(s:S a xs)(s2:S b ys)(z:xs.length+ys.length<=sizeLine)(q:R xs ys)
inductive XRg (vs:84)(R:Int->Prop):Prop
|mk(j:Int)(e:vs=[.int j])(l:-(2 ^ 62)<=j)(u:j < 2 ^ 62)(q:R j)
inductive XEn (vs:84)(S:Addr->84->Prop)(R:Addr->Prop):Prop
|mk(a:Addr)(xs:84)(e:vs=[91])(s:S a xs)(q:R a)
inductive Rr (xs:84)(S:Addr->84->Prop)(R:84->Prop):Prop
|mk(p:Addr)(ys:84)(e:xs=[.ref p])(s:S p ys)(q:R ys)
def hU (i:Nat):TE:=λσ H Q=>V_ σ[i]? λv=>Q v H
def tC (v:V):TE:=λ_ H Q=>Q v H
def Pz {i:Nat}{x:Str}{pos:Pos}(hN:X.N[i]?=some x)(hv:XI X.env.scope x)(hd:589:=by decide)(wc:(x == ("__classdict__":Str))=false:=by decide):PE X (.Name x pos) (hU i):=by
 intro ag s σ H Q I h;obtain⟨v,e,h⟩:=h;obtain⟨m,hn,hl⟩:=I.loc;obtain⟨u,r,l⟩:=hl i x v hN e hv;have fin:EP X ag σ Q u s:=⟨v,H,I,r,h⟩;rcases l with ⟨hk,hm⟩ | ⟨hk,c,hc,jm⟩
 .exact wpAny_Name (xi I.ok.kind hk hn hm fin) hd
 rcases hk with hk | hk
 .exact wpAny_Name (wpAny_loadName_cell I.ok.kind hk hc jm fin) hd
 exact wpAny_Name (wpAny_loadName_free I.ok.kind hk hc jm fin wc) hd
def aA {i j pos}:PE X (.Constant (.int i) j pos) (tC (.int i)):=λ_ _ _ H _ I h=>wpAny_Constant_int ⟨.int i,H,I.tok _,421,h⟩
def h_ {b j pos}:PE X (.Constant (.bool b) j pos) (tC (.bl b)):=λ_ _ _ H _ I h=>Constant_bool ⟨.bl b,H,I,rfl,h⟩
def yl {j pos}:PE X (.Constant .none j pos) (tC .gF):=λ_ _ _ H _ I h=>Constant_none ⟨.gF,H,I,rfl,h⟩
def lE {x j pos}:PE X (.Constant (.str x) j pos) (tC (.str x)):=λ_ _ _ H _ I h=>Calls.Constant_str ⟨.str x,H,I.tok _,421,h⟩
def Gl (X:Cx)(x:Str):Prop:=X.env.kindOf x=some .globalImplicit
def lY {E:z0b}{ag:z0e}{s:Shared}{σ:St}{H:Hp}{x:Str}{u:Value}{pos:Pos}{Q:z0b}(I:87)(hg:Gl X x)(hm:X.mg x=some u)(h:Q u s)
  (hd:589:=by decide):wpAny 110 X.A (eval (.Name x pos) X.env) Q E s :=
 Calls.Name_function_global I.ok.kind hg (Calls.loadGlobal_global (by rw [I.ok.glob];exact I.mod.glob.keeps I.bk) hm h) hd
def j9 {E:z0b}{ag:z0e}{s:Shared}{σ:St}{H:Hp}{x:Str}{u:Value}{pos:Pos}{Q:z0b}(I:87)(hg:Gl X x)(hm:X.mg x=none)(hv:bootBuiltins x=some u)(h:Q u s)
  (hn:x ≠ "__name__" := by decide)(hd:589:=by decide):wpAny 110 X.A (eval (.Name x pos) X.env) Q E s:=by
 obtain⟨mb,h1,h2⟩:=I.mod.blt;exact Calls.Name_function_global I.ok.kind hg (Calls.loadGlobal_builtin (by rw [I.ok.glob];exact I.mod.glob.keeps I.bk) hm (by rw [I.ok.blt];exact h1.keeps I.bk) ((h2 x hn).trans hv) h) hd
def gW {x:Str}{v:V}{u:Value}{pos:Pos}(hg:Gl X x)(hm:X.mg x=some u)(r:RelV v u)(hd:589:=by decide):PE X (.Name x pos) (tC v) :=
 λ_ _ _ H _ I h=>lY I hg hm ⟨v,H,I,r,h⟩ hd
def LW {x:Str}{v:V}{u:Value}{pos:Pos}(hg:Gl X x)(hm:X.mg x=none)(hv:bootBuiltins x=some u)(r:RelV v u)(hn:x ≠ "__name__" := by decide)(hd:589:=by decide):PE X (.Name x pos) (tC v) :=
 λ_ _ _ H _ I h=>j9 I hg hm hv ⟨v,H,I,r,h⟩ hn hd
variable {a b:Expr}{ta tb:TE}{pos:Pos}
def PC (X:Cx)(op:CmpOp)(a b:Expr)(t:TE):Prop :=
 ∀(ag:z0e)(s:Shared)(σ:St)(H:Hp)(Q:VK),87->t σ H Q ->
  wpAny 110 X.A (eval a X.env) (λv s₁=>wpAny 110 X.A (eval b X.env) (λu s₂=>wpAny 110 X.A (compareOp op v u) (EP X ag σ Q) X.xe s₂) X.xe s₁) X.xe s
def zV (b:Expr){op:CmpOp}(h:op≠.In)(h2:op≠.NotIn):behindInMarks op b=false:=by
 have e1:(op == CmpOp.In)=false:=by cases op <;> first | rfl | exact absurd rfl h
 have e2:(op == CmpOp.NotIn)=false:=by cases op <;> first | rfl | exact absurd rfl h2
 cases b <;> simp [behindInMarks,e1,e2]
def Yi (ta:TE):TE:=λσ H Q=>ta σ H λx H1=>Q (.bl (decide (x=.gF))) H1
def S_ (ta:TE):TE:=λσ H Q=>ta σ H λx H1=>Q (.bl (!decide (x=.gF))) H1
def RelV.zT {x:V}{v:Value}(r:RelV x v):(v == Value.none)=decide (x=.gF):=by
 cases x with
 | gF=>cases r;rfl
 | bl _=>cases r;rfl
 | int _=>obtain⟨t,rfl⟩:=r;rfl
 | str _=>obtain⟨t,rfl⟩:=r;rfl
 | Gz _=>obtain⟨t,rfl⟩:=r;rfl
 | Vt _=>obtain⟨t,rfl⟩:=r;rfl
 | ref _=>cases r;rfl
 | ty _=>cases r;rfl
def PH {j pos'}(ha:PE X a ta):PC X .Is a (.Constant .none j pos') (Yi ta):=by
 intro ag s σ H Q I h;refine 736;obtain⟨x,H1,I1,r1,q1⟩:=ba;exact Constant_none (is_none_gen ⟨.bl _,H1,I1,by rw [r1.zT];rfl,q1⟩)
def LX {j pos'}(ha:PE X a ta):PC X .IsNot a (.Constant .none j pos') (S_ ta):=by
 intro ag s σ H Q I h;refine 736;obtain⟨x,H1,I1,r1,q1⟩:=ba;exact Constant_none (isnot_none_gen ⟨.bl _,H1,I1,by rw [r1.zT];rfl,q1⟩)
def tB (t:TE):TT:=λσ H Q=>t σ H λx H1=>XB x λc=>Q c H1
def Cr {op:CmpOp}{t:TE}(h:PC X op a b t)(h1:behindInMarks op b=false:=by first | exact zV _ nofun nofun | rfl):PE X (.Compare a [op] [b] pos) t:=λag s σ H Q I hw=>wpAny_Compare1 (h ag s σ H Q I hw) h1
def eM {op:CmpOp}{t:TE}(h:PC X op a b t)(h1:behindInMarks op b=false:=by first | exact zV _ nofun nofun | rfl):PT X (.Compare a [op] [b] pos) (tB t):=by
 intro ag s σ H Q I hw;refine wpAny_isTrue_Compare1 (cK (h ag s σ H _ I hw) λv s1 h1=>cK h1 λu s2 h2=>cK h2 λc s3 ba=>?_) h1;obtain⟨x,H1,I1,r1,q1⟩:=ba;obtain⟨d,rfl,q⟩:=q1;cases r1;exact nQ ⟨H1,I1,q⟩
def lC {e:Expr}{t:TE}(h:PE X e t)(he:∀whole,isTrue e X.env whole=(do let v <-whole;standAt e.pos;holding [v] (truthy v)):=by intro _;rfl):PT X e (tB t):=by
 intro ag s σ H Q I hw;refine isTrue_plain (cK (h ag s σ H _ I hw) λv s1 ba=>?_) (he _);obtain⟨x,H1,I1,r1,q1⟩:=ba;obtain⟨d,rfl,q⟩:=q1;cases r1;exact nQ ⟨H1,I1,q⟩
variable {tA WE:TT}{rest:z0r}
def Yn (t u:TT):TT:=λσ H Q=>t σ H λc H1=>if c=true then u σ H1 Q else Q false H1
def tOr (t u:TT):TT:=λσ H Q=>t σ H λc H1=>if c=true then Q true H1 else u σ H1 Q
def Yg (t:TT):TT:=λσ H Q=>t σ H λc H1=>Q (!c) H1
def Eb (ha:PT X a tA):PW X (.BoolOp .And [a] pos) tA:=by
 intro wh ag s σ H Q I h;refine isTrue_and (cK (ha ag s σ H Q I h) λc s1 e=>?_);cases c with
 | true=>exact isTrue_and_nil e
 | false=>exact e
def Il (ha:PT X a tA):PW X (.BoolOp .Or [a] pos) tA:=by
 intro wh ag s σ H Q I h;refine isTrue_or (cK (ha ag s σ H Q I h) λc s1 e=>?_);cases c with
 | false=>exact isTrue_or_nil e
 | true=>exact e
def Im (ha:PT X a tA)(hb:PW X (.BoolOp .And (b::rest) pos) WE):PW X (.BoolOp .And (a::b::rest) pos) (Yn tA WE):=by
 intro wh ag s σ H Q I h;refine isTrue_and (cK (ha ag s σ H _ I h) λc s1 ba=>?_);obtain⟨H1,I1,q1⟩:=ba;cases c with
 | true=>exact hb wh ag s1 σ H1 Q I1 q1
 | false=>exact⟨H1,I1,q1⟩
def ND (ha:PT X a tA)(hb:PW X (.BoolOp .Or (b::rest) pos) WE):PW X (.BoolOp .Or (a::b::rest) pos) (tOr tA WE):=by
 intro wh ag s σ H Q I h;refine isTrue_or (cK (ha ag s σ H _ I h) λc s1 ba=>?_);obtain⟨H1,I1,q1⟩:=ba;cases c with
 | true=>exact⟨H1,I1,q1⟩
 | false=>exact hb wh ag s1 σ H1 Q I1 q1
def Cm (ha:PT X a tA):PT X (.UnaryOp .Not a pos) (Yg tA):=by
 intro ag s σ H Q I h;exact isTrue_not (ha ag s σ H (λc H1=>Q (!c) H1) I h)
def Tp (ta tb:TE):TE:=λσ H Q=>ta σ H λx H1=>XB x λc=>if c=true then tb σ H1 Q else Q (.bl false) H1
def SY (ta:TE):TE:=λσ H Q=>ta σ H λx H1=>XB x λc=>Q (.bl (!c)) H1
def PB {op}{t:TE}(h:PE X a t):PE X (.BoolOp op [a] pos) t:=λag s σ H Q I hw=>BoolOp_one (h ag s σ H Q I hw)
def IL (ha:PE X a ta)(hb:PE X (.BoolOp .And (b::rest) pos) tb):PE X (.BoolOp .And (a::b::rest) pos) (Tp ta tb):=by
 intro ag s σ H Q I h;refine BoolOp_and (736);obtain⟨x,H1,I1,r1,q1⟩:=ba;obtain⟨c,rfl,q1⟩:=q1;cases r1;refine nQ ?_;cases c with
 | true=>exact hb ag s1 σ H1 Q I1 q1
 | false=>exact⟨.bl false,H1,I1,rfl,q1⟩
def PD (ha:PE X a ta):PE X (.UnaryOp .Not a pos) (SY ta):=by
 intro ag s σ H Q I h;refine UnaryOp_ (736);obtain⟨x,H1,I1,r1,q1⟩:=ba;obtain⟨c,rfl,q1⟩:=q1;cases r1;exact not_of (nQ ⟨.bl (!c),H1,I1,rfl,q1⟩)
def tIf (t:TT)(ta tb:TE):TE:=λσ H Q=>t σ H λc H1=>if c=true then ta σ H1 Q else tb σ H1 Q
def lF {c:Expr}(hc:PT X c tA)(ha:PE X a ta)(hb:PE X b tb):PE X (.IfExp c a b pos) (tIf tA ta tb):=by
 intro ag s σ H Q I h;refine wpAny_IfExp (cK (hc ag s σ H _ I h) λd s1 ba=>?_);obtain⟨H1,I1,q1⟩:=ba;cases d with
 | true=>exact ha ag s1 σ H1 Q I1 q1
 | false=>exact hb ag s1 σ H1 Q I1 q1
end
def aX (K:aY)(H:Hp)(a:Addr)(xs:84):Prop :=
 Rd H a (.lst xs) \/
  ∃(o:Obj)(aT:z0k) (n:Nat),K.lookup a=65/\o.cls=476 /\ o.dict=none/\o.data=.seq aT n/\aT.size<=sizeLine/\bq xs aT.toList
def aU (K:aY)(H:Hp)(a:Addr)(xs:84):Prop :=
 Rd H a (.tup xs) \/
  ∃(o:Obj)(aT:z0k) (n:Nat),K.lookup a=65/\o.cls=378 /\ o.data=.seq aT n/\aT.size<=sizeLine/\bq xs aT.toList
def aaR:Value->126
 | .none=>some .gF
 | .bool b=>some (.bl b)
 | .int i _=>some (.int i)
 | .str x _=>some (.str x)
 | .bytes b _=>some (.Gz b)
 | .float b _=>some (.Vt b)
 | .ref a=>some 475
 | .type n=>some (.ty n)
 | _=>none
def RelV.abs {x:V}{u:Value}(r:RelV x u):aaR u=some x:=by
 cases x with
 | gF=>cases r;rfl
 | bl _=>cases r;rfl
 | int _=>obtain⟨t,rfl⟩:=r;rfl
 | str _=>obtain⟨t,rfl⟩:=r;rfl
 | Gz _=>obtain⟨t,rfl⟩:=r;rfl
 | Vt _=>obtain⟨t,rfl⟩:=r;rfl
 | ref _=>cases r;rfl
 | ty _=>cases r;rfl
def RelV.inj {x y:V}{u:Value}(r:RelV x u)(q:RelV y u):x=y:=cX (r.abs.symm.trans q.abs)
theorem bq.inj {xs ys:84}{us:z0m}(h:bq xs us)(g:bq ys us):xs=ys:=by
 induction h generalizing ys with
 | nil=>cases g;rfl
 | cons r t ih=>cases g with | cons r' t'=>rw [r.inj r',ih t']
section
variable {X:Cx}{ag:z0e}{σ:St}{H:Hp}{s:Shared}{a:Addr}{xs ys:84}
def aX.of {K:aY}(h:H a=500):aX K H a xs:=.inl (.inl h)
def aU.of {K:aY}(h:H a=some (.tup xs)):515:=.inl (.inl h)
def Inv.list (I:87)(h:aX X.K H a xs):∃aT:z0m,bq xs aT/\PlainL s.heap a aT.toArray/\xs.length<=sizeLine:=by
 rcases h with h | ⟨o,aT,n,hk,hc,hd,hs,hz,r⟩
 .obtain⟨z,aT,n,r,e⟩:=h.ok I.bI;exact⟨aT,r,⟨_,n,e,rfl,rfl,rfl⟩,z⟩
 refine⟨aT.toList,r,⟨o,n,I.uK a o hk,hc,hd,by simpa using hs⟩,?_⟩;have e:=r.length;simp only [ix] at e;omega
def Inv.tuple (I:87)(h:aU X.K H a xs):∃aT:z0m,bq xs aT/\IsTup s.heap a aT.toArray/\xs.length<=sizeLine:=by
 rcases h with h | ⟨o,aT,n,hk,hc,hs,hz,r⟩
 .obtain⟨z,aT,r,p⟩:=h.ok I.bI;exact⟨aT,r,p,z⟩
 refine⟨aT.toList,r,⟨o,I.uK a o hk,hc,n,by simpa using hs⟩,?_⟩;have e:=r.length;simp only [ix] at e;omega
def Inv.tP (I:87)(h:aX X.K H a xs)(h':aX X.K H a ys):xs=ys:=by
 obtain⟨aT,r,⟨o,n,e,_,_,d⟩,_⟩:=I.list h;obtain⟨tQ,r',⟨o',n',e',_,_,d'⟩,_⟩:=I.list h';rw [e] at e';cases e';rw [d] at d';injection d' with d1 _;have:aT=tQ:=by simpa using congrArg Array.toList d1
 subst this;exact r.inj r'
def Inv.vF (I:87)(h:aU X.K H a xs)(h':aU X.K H a ys):xs=ys:=by
 obtain⟨aT,r,⟨o,e,_,n,d⟩,_⟩:=I.tuple h;obtain⟨tQ,r',⟨o',e',_,n',d'⟩,_⟩:=I.tuple h';rw [e] at e';cases e';rw [d] at d';injection d' with d1 _;have:aT=tQ:=by simpa using congrArg Array.toList d1
 subst this;exact r.inj r'
end
abbrev Cx.uQ (X:Cx)(E:z0b):Cx:={ X with xe:=E }
abbrev Cx.Mb (X:Cx):Cx:=X.uQ λ_ _=>False
theorem Cx.Ok.uQ {X:Cx}(ok:X.Ok)(E:z0b):(X.uQ E).Ok :=
 850
def Cx.Ok.kZ {X:Cx}{E:z0b}(ok:(X.uQ E).Ok):X.Ok :=
 850
section
variable {X:Cx}{ag:z0e}{σ:St}{H:Hp}{s:Shared}{E:z0b}
theorem Inv.uQ (I:87)(E:z0b):Inv (X.uQ E) ag σ H s:=⟨I.ok.uQ E,I.os,I.bare,I.base,I.loc,I.cell,I.free,I.i6,I.pin,I.bI,I.len⟩
theorem Inv.kZ (I:Inv (X.uQ E) ag σ H s):87:=⟨I.ok.kZ,I.os,I.bare,I.base,I.loc,I.cell,I.free,I.i6,I.pin,I.bI,I.len⟩
theorem SP.kZ {D:Ends}{f:Flow}{s':Shared}(h:SP (X.uQ E) ag D f s'):SP X ag D f s':=by
 cases f with
 | next=>obtain⟨σ',H',I,q⟩:=h;exact⟨σ',H',I.kZ,q⟩
 | brk=>obtain⟨σ',H',I,q⟩:=h;exact⟨σ',H',I.kZ,q⟩
 | cont=>obtain⟨σ',H',I,q⟩:=h;exact⟨σ',H',I.kZ,q⟩
 | ret u=>obtain⟨v,σ',H',I,r,q⟩:=h;exact⟨v,σ',H',I.kZ,r,q⟩
theorem yX.Mb {st:z0s}{t:TS}(h:yX X.Mb st t):yX X st t:=λag s σ H D I hw =>
 dD (h ag s σ H D (I.uQ _) hw) (λ_ _ q=>q.kZ) λ_ _ z=>False.elim z
end
section
variable {X:Cx}{st:Stmt}{rest:z0s}{t u:TS}{e:Expr}{te:TE}{pos:Pos}
def Ta:TS:=λD σ H=>D.nx σ H
def OW (t u:TS):TS:=λD σ H=>t { D with nx:=u D } σ H
def bL:yX X [] Ta:=λ_ _ σ H _ I h=>rB ⟨σ,H,I,h⟩
def aj (h1:PS X st t)(h2:yX X rest u):yX X (st::rest) (OW t u):=by
 intro ag s σ H D I h;refine wpAny_execs_cons (cK (h1 ag s σ H { D with nx:=u D } I h) λf s1 q=>?_);cases f with
 | next =>
  obtain⟨σ',H',I',q⟩:=q;exact h2 ag s1 σ' H' D I' q
 | ret v=>exact q
 | brk=>exact q
 | cont=>exact q
def av (h1:PS X st t):yX X [st] t:=by
 intro ag s σ H D I h;refine wpAny_execs_cons (cK (h1 ag s σ H D I h) λf s1 q=>?_);cases f with
 | next=>exact rB q
 | ret v=>exact q
 | brk=>exact q
 | cont=>exact q
def O3:TS:=λD σ H=>D.bk σ H
def Iu:PS X (.Break pos) O3:=λ_ _ σ H _ I h=>wpAny_Break ⟨σ,H,I,h⟩
def Inv.quiet {ag:z0e}{σ:St}{H:Hp}{s:Shared}(I:87):interactive X.env=false:=by simp [interactive,I.ok.kind]
def Th (te:TE):TS:=λD σ H=>te σ H λ_ H1=>D.nx σ H1
def cY (he:PE X e te)(hs:swapsWith e none pos.line X.env=pure false:=by rfl):PS X (.Expr e pos) (Th te):=by
 intro ag s σ H D I h;refine wpAny_Expr_any 846 I.quiet hs;obtain⟨x,H1,I1,r1,q1⟩:=ba;exact⟨σ,H1,I1,q1⟩
def Ye (te:TE):TS:=λD σ H=>te σ H D.rt
def bS (he:PE X e te):PS X (.Return (some e) pos) (Ye te):=by
 intro ag s σ H D I h;refine wpAny_Return_some 846;obtain⟨x,H1,I1,r1,q1⟩:=ba;exact⟨x,σ,H1,I1,r1,q1⟩
def Yj (c:TT)(t u:TS):TS:=λD σ H=>c σ H λb H1=>if b=true then t D σ H1 else u D σ H1
def dq {c:Expr}{a b:z0s}{tc:TT}(hc:PT X c tc)(ha:yX X a t)(hb:yX X b u):PS X (.If c a b pos) (Yj tc t u):=by
 intro ag s σ H D I h;refine wpAny_If (cK (hc ag s σ H _ I h) λd s1 ba=>?_);obtain⟨H1,I1,q1⟩:=ba;cases d with
 | true=>exact ha ag s1 σ H1 D I1 q1
 | false=>exact hb ag s1 σ H1 D I1 q1
def OX:TS:=λ_ _ _=>False
def iY:PS X st OX:=λ_ _ _ _ _ _ h=>h.elim
end
abbrev TG:=V->St->Hp->(St->106)->Prop
abbrev Ox:=84->St->Hp->(St->106)->Prop
def PG (X:Cx)(target:Expr)(t:TG):Prop :=
 ∀(ag:z0e)(s:Shared)(σ:St)(H:Hp)(v:V)(u:Value)(Q:St->106),87->RelV v u->t v σ H Q ->
  wpAny 110 X.A (assign target X.env u) (λ_ s'=>∃σ' H',Inv X ag σ' H' s'/\Q σ' H') X.xe s
def Wi (X:Cx)(ts:z0r)(t:Ox):Prop :=
 ∀(ag:z0e)(s:Shared)(σ:St)(H:Hp)(vs:84)(us:z0m)(Q:St->106),87->bq vs us->t vs σ H Q ->
  wpAny 110 X.A (assignInOrder ((assignEach ts X.env).map 105) us) (λ_ s'=>∃σ' H',Inv X ag σ' H' s'/\Q σ' H') X.xe s
abbrev XM:=V->V->502
def PIp (X:Cx)(op:Operator)(t:XM):Prop :=
 ∀(ag:z0e)(s:Shared)(σ:St)(H:Hp)(x y:V)(v u:Value)(Q:VK),87->RelV x v->RelV y u->t x y H Q ->
  wpAny 110 X.A (inplaceOp op v u) (EP X ag σ Q) X.xe s
section
variable {X:Cx}{pos:Pos}
def dX (i:Nat):TG:=λv σ H Q=>Q (σ.set i (some v)) H
def az {i:Nat}{x:Str}(hN:X.N.Nodup)(hi:X.N[i]?=some x)(hx:Loc X.env.scope x)(hf:832:=by first | exact .inl rfl | exact .inr rfl | assumption):PG X (.Name x pos) (dX i):=by
 intro ag s σ H v u Q I r h;exact wpAny_assign_Name (lg I hN hi hx r (λs' I'=>⟨_,H,I',h⟩) hf)
def J_:Ox:=λvs σ H Q=>vs=[]/\Q σ H
def lM (t:TG)(u:Ox):Ox:=λvs σ H Q=>Ow vs λv r=>t v σ H λσ' H'=>u r σ' H' Q
def cI:Wi X [] J_:=by
 intro ag s σ H vs us Q I r h;obtain⟨e,h⟩:=h;subst e;cases r;exact assignInOrder_nil ⟨σ,H,I,h⟩
def aH {e:Expr}{es:z0r}{t:TG}{u:Ox}(h1:PG X e t)(h2:Wi X es u)
  (hs:(assignEach (e::es) X.env).map 105=assign e X.env::(assignEach es X.env).map 105:=by rfl):Wi X (e::es) (lM t u):=by
 intro ag s σ H vs us Q I r h;obtain⟨v,vr,e1,h⟩:=h;subst e1;cases r with
 | cons r rr =>
  rw [hs];refine assignInOrder_cons (cK (h1 ag s σ H _ _ _ I r h) λ_ s1 ba=>?_);obtain⟨σ1,H1,I1,q1⟩:=ba;exact h2 ag s1 σ1 H1 _ _ Q I1 rr q1
def Ge (K:aY) (n:Nat)(t:Ox):TG:=λv σ H Q=>Wb v (aU K H) n λxs=>t xs σ H Q
def gE {es:z0r}{k:Nat}{t:Ox}{n:Nat}(hc:530)(h:Wi X es t)
  (hn:(assignEach es X.env).length=n:=by rfl)(oG:(assignEach es X.env).findIdx? 27=none:=by rfl):PG X (.Tuple es k pos) (Ge X.K n t):=by
 intro ag s σ H v u Q I r hw;obtain⟨a,xs,e1,hq,hl,hw⟩:=hw;subst e1;cases r;obtain⟨aT,rv,ht,hz⟩:=I.tuple hq;refine assign_Tuple_tuple (I.ok.hd hc) ht (by simp [hn,<-hl,rv.length]) oG λh' hx=>?_;have I1:Inv X ag σ H 517:=I.kept (t':=s.toks) λb o e=>hx b o (bJ (aV e)) e;exact h ag _ σ H xs _ Q I1 (by simpa using rv) hw
def O4 (te:TE)(g:TG):TS:=λD σ H=>te σ H λx H1=>g x σ H1 D.nx
def Iw {tg e:Expr}{te:TE}{g:TG}(he:PE X e te)(hg:PG X tg g)(hs:swapsWithSole [tg] e pos.line X.env=pure false:=by rfl)(hw:swappedStores [tg] e X.env=pure none:=by rfl)
  (h1:(assignEach [tg] X.env).map 105=[assign tg X.env]:=by rfl):PS X (.Assign [tg] e pos) (O4 te g):=by
 intro ag s σ H D I h;refine wpAny_Assign_stores 846 hs hw;obtain⟨x,H1,I1,r1,q1⟩:=ba;rw [h1];exact cK (hg ag s1 σ H1 x v _ I1 r1 q1) λ_ s2 q=>q
def aF {i:Nat}{x:Str}{e:Expr}{te:TE}{pos':Pos}(hN:X.N.Nodup)(hi:X.N[i]?=some x)(hx:Loc X.env.scope x)(he:PE X e te)(hs:swapsWith e (some (.Name x pos')) pos.line X.env=pure false:=by rfl)(hf:832:=by first | exact .inl rfl | exact .inr rfl | assumption) :
  PS X (.Assign [.Name x pos'] e pos) (O4 te (dX i)):=by
 intro ag s σ H D I h;refine wpAny_Assign_Name 846 hs;obtain⟨y,H1,I1,r1,q1⟩:=ba;exact lg I1 hN hi hx r1 (λs2 I2=>⟨_,H1,I2,q1⟩) hf
def Ym (i:Nat)(te:TE)(ti:XM):TS:=λD σ H=>∃x,σ[i]?=some (some x)/\te σ H λy H1=>ti x y H1 λz H2=>D.nx (σ.set i (some z)) H2
def Iv {i:Nat}{x:Str}{e:Expr}{te:TE}{op:Operator}{ti:XM}{pos':Pos}(hN:X.N.Nodup)(hi:X.N[i]?=some x)(hx:Loc X.env.scope x)(he:PE X e te)(ho:PIp X op ti)(hf:832:=by first | exact .inl rfl | exact .inr rfl | assumption) :
  PS X (.AugAssign (.Name x pos') op e pos) (Ym i te ti):=by
 intro ag s σ H D I h;obtain⟨v,e1,h⟩:=h;obtain⟨m,hn,hl⟩:=I.loc;have vis:XI X.env.scope x:=by rcases hx with k | k;exact .inl k;exact .inr (.inl k)
 obtain⟨u,r,l⟩:=hl i x v hi e1 vis;refine wpAny_AugAssign_Name ?_;have go:wpAny 110 X.A (eval e X.env) (λw s₂=>wpAny 110 X.A (inplaceOp op u w) (λr s₃=>wpAny 110 X.A (storeName X.env x r) (λ_=>SP X ag D .next) X.xe s₃) X.xe s₂) X.xe s:=by
  refine cK 694 λw s1 ba=>?_;obtain⟨y,H1,I1,r1,q1⟩:=ba;refine cK (ho ag s1 σ H1 v y u w _ I1 r r1 q1) λz s2 ba=>?_;obtain⟨zv,H2,I2,r2,q2⟩:=ba;exact lg I2 hN hi hx r2 (λs3 I3=>⟨_,H2,I3,q2⟩) hf
 rcases l with ⟨hk,hm⟩ | ⟨hk,c,hc,jm⟩
 .exact xi I.ok.kind hk hn hm go
 rcases hk with hk | hk
 .exact wpAny_loadName_cell I.ok.kind hk hc jm go
 rcases hx with k | k
 .have:683=some .free:=hk;rw [k] at this;cases this
 have:683=some .free:=hk;rw [k] at this;cases this
def ipI (f:Int->Int->Int):XM:=λx y H Q=>∃i j,x=.int i/\y=.int j/\Q (.int (f i j)) H
def JE:PIp X .Add (ipI λi j=>i+j):=by
 intro ag s σ H x y v u Q I r1 r2 h;obtain⟨i,j,e1,e2,q⟩:=h;subst e1;subst e2;obtain⟨t,rfl⟩:=r1;obtain⟨t',rfl⟩:=r2;exact iadd_int ⟨.int _,H,I.tok _,421,q⟩
end
section
variable {X:Cx}{pos:Pos}
def OU (c:TT)(tb:TS):TS:=λD σ H=>∃W:Nat->St->106,(∃m,W m σ H)/\∀m σ H,W m σ H ->
 c σ H λb H1=>if b=true then ∃N:St->106,(∀σ' H',N σ' H'->∃m',m' < m/\W m' σ' H')/\tb { D with nx:=N,ct:=N,bk:=D.nx } σ H1 else D.nx σ H1
def iX {c:Expr}{body:z0s}{tc:TT}{tb:TS}(hp:PassesOwn 110 X.A X.env X.xe)(hc:PT X c tc)(hb:yX X body tb):PS X (.While c body [] pos) (OU tc tb):=by
 intro ag s σ H D I h;obtain⟨W,⟨m0,w0⟩,turn⟩:=h;refine wpAny_While (codeAny_whileLoop (λn s'=>∃σ' H',Inv X ag σ' H' s'/\W n σ' H') ?_ m0 ⟨σ,H,I,w0⟩);rintro n s1 ⟨σ1,H1,I1,w1⟩;refine mS hp (cK (hc ag s1 σ1 H1 _ I1 (turn n σ1 H1 w1)) λb s2 ba=>?_);obtain⟨H2,I2,q2⟩:=ba;cases b with
 | true =>
  obtain⟨N,hN,q2⟩:=q2;rw [ar rfl];refine mS hp (cK (hb ag s2 σ1 H2 _ I2 q2) λf s3 q3=>?_);cases f with
  | next =>
   obtain⟨σ3,H3,I3,n3⟩:=q3;obtain⟨m',hm,w3⟩:=hN σ3 H3 n3;exact⟨m',hm,σ3,H3,I3,w3⟩
  | cont =>
   obtain⟨σ3,H3,I3,n3⟩:=q3;obtain⟨m',hm,w3⟩:=hN σ3 H3 n3;exact⟨m',hm,σ3,H3,I3,w3⟩
  | brk=>exact q3
  | ret v=>exact q3
 | false =>
  rw [aq fg];exact rB ⟨σ1,H2,I2,q2⟩
end
structure It where
 go:Nat->106
 o7:Nat->Hp->V->106
 stop:Nat->106
def yZ (X:Cx)(ag:z0e)(H:Hp)(b:Addr):Prop :=
 H b=none/\b≠X.env.locals/\b∉X.fs/\(b∈X.ex\/X.s₀.heap.objs.size<=b)/\(∀x c,682->c≠b)/\∀p∈X.pn++ag,p.1≠b
def Inv.yG {X:Cx}{ag:z0e}{σ:St}{H H':Hp}{s:Shared}{b:Addr}(I:87)(hb:s.heap.objs.size<=b)(hn:H' b=none):yZ X ag H' b:=by
 refine⟨hn,iP (fK I.lt hb),I.Y6 hb,.inr (cW I.sz hb),λx c e z=>?_,λp hp z=>?_⟩
 .obtain⟨v,q⟩:=I.cell x c e;exact absurd (fK q.lt (by rw [z];exact hb)) (ir _)
 exact absurd (fK (aV (I.pin p hp).1) (by rw [z];exact hb)) (ir _)
structure Turn (P:Program)(w:World)(K:aY)(tg:Expr)(J:It)(fp:z0q)(it:Addr)(tn:Nat->Heap->Prop):Prop where
 mem:it∈fp
 obj:∀i h,tn i h->∀b∈fp,∃o,h.get? b=65/\∀v,o.data≠.cell v
 keep:∀i h h',tn i h->(∀b∈fp,∀o,h.get? b=65->162=65)->tn i h'
 item:∀(X:Cx),X.prog=P->X.w=w->X.K=K->530->∀(i:Nat)(ag:z0e)(s:Shared)(σ:St)(H:Hp)(E:z0b),87->(∀b∈fp,yZ X ag H b)->tn i s.heap->J.go i H ->
  wpAny (model P w) X.A (pyNext (.ref it)) (λr s1=>∃u,r=some u /\
   wpAny (model P w) X.A (letOwnedTupleGo tg (.ref it) u) (λ_ s2=>∃x H',Inv X ag σ H' s2/\RelV x u/\J.o7 i H x H'/\tn (i+1) s2.heap/\∀b∈fp,H' b=none) E s1) E s
 done:∀(X:Cx),X.prog=P->X.w=w->X.K=K->530->∀(i:Nat)(ag:z0e)(s:Shared)(σ:St)(H:Hp)(E:z0b),87->(∀b∈fp,yZ X ag H b)->tn i s.heap->J.stop i H ->
  wpAny (model P w) X.A (pyNext (.ref it)) (λr s1=>r=none/\Inv X ag σ H s1) E s
 self:∀(A:Around) (i:Nat)(s:Shared)(Q:z0b)(E:z0b),tn i s.heap->Q (.ref it) s->wpAny (model P w) A (pyIter (.ref it)) Q E s
abbrev TI:=St->Hp->(It->106)->Prop
def PIE (X:Cx)(ag:z0e)(σ:St)(tg:Expr)(R:It->106)(ZI:Value)(s2:Shared):Prop :=
 ∃(it:Addr)(fp:z0q)(tn:Nat->Heap->Prop)(J:It)(H':Hp),ZI=.ref it/\Inv X ag σ H' s2/\Turn X.prog X.w X.K tg J fp it tn/\tn 0 s2.heap/\(∀b∈fp,yZ X ag H' b)/\R J H'
def PI (X:Cx)(tg iter:Expr)(wi:TI):Prop :=
 ∀(ag:z0e)(s:Shared)(σ:St)(H:Hp)(R:It->106),87->wi σ H R ->
  wpAny 110 X.A (eval iter X.env) (λv s1=>wpAny 110 X.A (pyIter v) (PIE X ag σ tg R) X.xe s1) X.xe s
def EG {M:Model}{A:Around}{E:z0b}{s:Shared}{tg:Expr}{it:Addr}{u:Value}{o:Obj}{n:String}{vs:z0k}{Q:Unit->146}(ho:s.heap.get? it=65)(hc:o.cls=.type n)(hd:o.data=.fields vs)
  (hn:["enumerate","zip","dict_itemiterator","dict_reverseitemiterator","odict_iterator","itertools.zip_longest","itertools.pairwise"].contains n=false)(hQ:Q () s):wpAny M A (letOwnedTupleGo tg (.ref it) u) Q E s:=by
 unfold letOwnedTupleGo;cases tg <;> first
  | exact aJ hQ
  | (cases u <;> first
    | exact aJ hQ
    | (refine au (wpAny_load ho ?_)
       rw [hc,hd];show wpAny M A (if (["enumerate","zip","dict_itemiterator","dict_reverseitemiterator","odict_iterator","itertools.zip_longest","itertools.pairwise"].contains n && vs[0]? == some (rawInt _))=true then _ else _) Q E s;rw [aq (by intro h;rw [hn,Bool.false_and] at h;cases h)];exact aJ hQ))
def mI (K:aY)(a:Addr):It :=
 ⟨λi H=>∃xs x,aX K H a xs/\575,λi H x H'=>H'=H/\∀xs,aX K H a xs->575,λi H=>∃xs,aX K H a xs/\xs.length<=i⟩
def qE (K:aY)(a:Addr):It :=
 ⟨λi H=>∃xs x,515/\575,λi H x H'=>H'=H/\∀xs,515->575,λi H=>∃xs,515/\xs.length<=i⟩
def Ni (lo:Int) (n:Nat):It:=⟨λi _=>i < n,λi H x H'=>H'=H/\x=.int (lo+i),λi _=>n<=i⟩
def Ff {P:Program}{w:World}{K:aY}{tg:Expr}(a it:Addr):Turn P w K tg (mI K a) [it] it (λi h=>h.IsListIter it a i) where
 mem:=58
 obj:=λi h st b hb=>by
  have e:b=it:=544
  subst e;obtain⟨o,e,c,d⟩:=st;exact⟨o,e,λv z=>by rw [d] at z;cases z⟩
 keep:=λi h h' st k=>st.at λo e=>k it 90 o e
 item:=by
  intro X hP hw hK hc i ag s σ H E I hf st hg;subst hP hw hK;obtain⟨xs,x,hq,hx⟩:=hg;obtain⟨aT,rv,p,hz⟩:=I.list hq;obtain⟨u,hu,ru⟩:=rv.get hx;obtain⟨f0,f1,f2,f3,f4,f5⟩:=hf it 90;refine wpAny_pyNext_list_item st p.isList (x:=u) (by simpa using hu) λh' aS sb=>?_;have I1:Inv X ag σ H 517:=I.turned (t':=s.toks) (λb o hb e=>(sb.2 b hb).trans e) f0 f1 f3 f4 f5;obtain⟨o,e,c,d⟩:=id aS;exact⟨u,rfl,EG (s:=517) e c d nofun ⟨x,H,I1,ru,⟨rfl,λys hy=>by rw [I.tP hy hq];exact hx⟩,aS,λb hb=>(hf b hb).1⟩⟩
 done:=by
  intro X hP hw hK hc i ag s σ H E I hf st hg;subst hP hw hK;obtain⟨xs,hq,hx⟩:=hg;obtain⟨aT,rv,p,hz⟩:=I.list hq;obtain⟨f0,f1,f2,f3,f4,f5⟩:=hf it 90;have hl:=rv.length;exact xr (I.ok.hd hc) st p.isList (548) 811
 self:=λ_ _ _ _ _ st h=>wpAny_pyIter_listiter st h
def Bz {P:Program}{w:World}{K:aY}{tg:Expr}(a it:Addr):Turn P w K tg (qE K a) [it] it (λi h=>h.IsTupleIter it a i) where
 mem:=58
 obj:=λi h st b hb=>by
  have e:b=it:=544
  subst e;obtain⟨o,e,c,d⟩:=st;exact⟨o,e,λv z=>by rw [d] at z;cases z⟩
 keep:=λi h h' st k=>st.at λo e=>k it 90 o e
 item:=by
  intro X hP hw hK hc i ag s σ H E I hf st hg;subst hP hw hK;obtain⟨xs,x,hq,hx⟩:=hg;obtain⟨aT,rv,p,hz⟩:=I.tuple hq;obtain⟨u,hu,ru⟩:=rv.get hx;obtain⟨f0,f1,f2,f3,f4,f5⟩:=hf it 90;refine wpAny_pyNext_tuple_item st (show s.heap.IsTuple a aT.toArray from p) (x:=u) (by simpa using hu) λh' aS sb=>?_;have I1:Inv X ag σ H 517:=I.turned (t':=s.toks) (λb o hb e=>(sb.2 b hb).trans e) f0 f1 f3 f4 f5;obtain⟨o,e,c,d⟩:=id aS;exact⟨u,rfl,EG (s:=517) e c d nofun ⟨x,H,I1,ru,⟨rfl,λys hy=>by rw [I.vF hy hq];exact hx⟩,aS,λb hb=>(hf b hb).1⟩⟩
 done:=by
  intro X hP hw hK hc i ag s σ H E I hf st hg;subst hP hw hK;obtain⟨xs,hq,hx⟩:=hg;obtain⟨aT,rv,p,hz⟩:=I.tuple hq;obtain⟨f0,f1,f2,f3,f4,f5⟩:=hf it 90;have hl:=rv.length;exact wpAny_pyNext_tuple_end (I.ok.hd hc) st (show s.heap.IsTuple a aT.toArray from p) (548) 811
 self:=λ_ _ _ _ _ st h=>wpAny_pyIter_tupleiter st h
def BD {P:Program}{w:World}{K:aY}{tg:Expr}(it:Addr) (lo:Int) (n:Nat):Turn P w K tg (Ni lo n) [it] it (λi h=>IsRangeIter h it (lo+(i:Nat) * 1) ((n:Int) - (i:Nat)) 1) where
 mem:=58
 obj:=λi h st b hb=>by
  have e:b=it:=544
  subst e;exact⟨_,st,λv z=>by
   have z':Data.fields _=Data.cell v:=z;cases z'⟩
 keep:=λi h h' st k=>k it 90 _ st
 item:=by
  intro X hP hw hK hc i ag s σ H E I hf st hg;subst hP hw hK;obtain⟨f0,f1,f2,f3,f4,f5⟩:=hf it 90;have W:=Walks.range (prog:=X.prog) (w:=X.w) (I.ok.hd hc) it lo 1 n;refine W.item i s _ _ hg st λv h' tk hv aS kk=>?_;obtain⟨t,rfl⟩:=hv;have I1:Inv X ag σ H { s with heap:=h',toks:=tk }:=I.turned (λb o hb e=>kk b o (544) e) f0 f1 f3 f4 f5;refine⟨_,rfl,EG (s:={ s with heap:=h',toks:=tk }) (n := "range_iterator") aS rfl rfl nofun ⟨.int (lo+i),H,I1,⟨t,?_⟩,⟨rfl,rfl⟩,aS,λb hb=>(hf b hb).1⟩⟩;rw [Int.mul_one]
 done:=by
  intro X hP hw hK hc i ag s σ H E I hf st hg;subst hP hw hK;obtain⟨f0,f1,f2,f3,f4,f5⟩:=hf it 90;exact wpAny_pyNext_range_end (I.ok.hd hc) st (by have:n<=i:=hg;omega) 811
 self:=λ_ _ _ _ _ st h=>wpAny_pyIter_rangeiter st h
section
variable {X:Cx}{tg:Expr}
def UD (K:aY)(tl:TE):TI:=λσ H R=>tl σ H λx H1=>XH x (λa=>∃xs,aX K H1 a xs) λa=>R (mI K a) H1
def ZM (K:aY)(tl:TE):TI:=λσ H R=>tl σ H λx H1=>XH x (λa=>∃xs,aU K H1 a xs) λa=>R (qE K a) H1
def bP {l:Expr}{tl:TE}(hl:PE X l tl):PI X tg l (UD X.K tl):=by
 intro ag s σ H R I h;refine cK (hl ag s σ H _ I h) λv s1 ba=>?_;obtain⟨x,H1,I1,r1,q1⟩:=ba;obtain⟨a,e,⟨xs,hq⟩,q⟩:=q1;subst e;cases r1;obtain⟨aT,rv,p,hz⟩:=I1.list hq;refine pB p.isList ?_;refine⟨s1.heap.objs.size,[s1.heap.objs.size],_,_,H1,rfl,I1.kept (t':=s1.toks) λb o e=>bW _ e,Ff a _,⟨_,cU _ rfl,rfl,rfl⟩,λb hb=>?_,q⟩;have e:b=s1.heap.objs.size:=544
 subst e;exact I1.yG 128 (I1.bI.fresh 128)
def ju {l:Expr}{tl:TE}(hl:PE X l tl):PI X tg l (ZM X.K tl):=by
 intro ag s σ H R I h;refine cK (hl ag s σ H _ I h) λv s1 ba=>?_;obtain⟨x,H1,I1,r1,q1⟩:=ba;obtain⟨a,e,⟨xs,hq⟩,q⟩:=q1;subst e;cases r1;obtain⟨aT,rv,p,hz⟩:=I1.tuple hq;refine wZ (show s1.heap.IsTuple a aT.toArray from p) ?_;refine⟨s1.heap.objs.size,[s1.heap.objs.size],_,_,H1,rfl,I1.kept (t':=s1.toks) λb o e=>bW _ e,Bz a _,⟨_,cU _ rfl,rfl,rfl⟩,λb hb=>?_,q⟩;have e:b=s1.heap.objs.size:=544
 subst e;exact I1.yG 128 (I1.bI.fresh 128)
def Ij {ag:z0e}{σ:St}{H:Hp}{s:Shared}{R:It->106}{E:z0b}{lo hi:Int}{t u v:Tok}{tk:Nat}(I:87)(h1:-(2 ^ 62)<=lo)(h2:lo < 2 ^ 62)(h3:-(2 ^ 62)<=hi)(h4:hi < 2 ^ 62)
  (q:R (Ni lo (hi - lo).toNat) H):wpAny 110 X.A (pyIter 720) (PIE X ag σ tg R) E { s with heap:=s.heap.push 772,toks:=tk }:=by
 refine wpAny_pyIter_range (IsRange.new ..) (small_one h1 h2 h3 h4) ?_;have I1:Inv X ag σ H { s with heap:=s.heap.push 772,toks:=tk }:=I.kept λb o e=>bW _ e;refine⟨871,[871],_,_,H,rfl,
  I1.kept (t':=tk) λb o e=>bW _ e,BD _ lo (hi - lo).toNat,?_,λb hb=>?_,q⟩
 .have e1:lo+((0:Nat):Int) * 1=lo:=58
  have e2:(((hi - lo).toNat:Nat):Int) - ((0:Nat):Int)=Builtin.Range.rangeSize lo hi 1:=by rw [rangeSize_one];split <;> omega
  show IsRangeIter _ _ (lo+((0:Nat):Int) * 1) ((((hi - lo).toNat:Nat):Int) - ((0:Nat):Int)) 1;rw [e1,e2];exact cU _ rfl
 have e:b=871:=544
 subst e;exact I1.yG 128 (I1.bI.fresh 128)
def UC (ta:TA):TI:=λσ H R=>ta σ H λvs H1=>XRg vs λj=>R (Ni 0 j.toNat) H1
def pV {a:Expr}{ta:TA}{p pos:Pos}(hg:Gl X "range")(hm:X.mg "range"=none)(ha:PA X [a] ta)(hs:starEach [a] X.env=[(false,eval a X.env)]:=by rfl):PI X tg (.Call (.Name "range" p) [a] [] pos) (UC ta):=by
 intro ag s σ H R I h;refine Call_ (j9 I hg hm boot_range (xE 648 hs rfl));obtain⟨vs,H1,I1,r1,q1⟩:=ba;obtain⟨j,e,q1,q2,q⟩:=q1;subst e;cases r1 with
 | cons r rr =>
  cases rr;obtain⟨t,rfl⟩:=r;exact call_range_1 (Ij I1 ∅ ∅ q1 q2 (by simpa using q))
def Yk (wi:TI)(g:TG)(tb:TS):TS:=λD σ H=>wi σ H λJ H1=>∃W:Nat->Nat->St->106,(∃m,W 0 m σ H1)/\∀i m σ H,W i m σ H ->
 (J.stop i H/\D.nx σ H)\/(J.go i H/\∃N:St->106,776/\∀x H',J.o7 i H x H'->773)
def s_ (fp:z0q)(h:Heap):z0e:=fp.filterMap λb=>(h.get? b).map λo=>(b,o)
def j6 {fp:z0q}{h:Heap}{b:Addr}{o:Obj}(hb:b∈fp)(e:h.get? b=65):(b,o)∈s_ fp h:=rR.mpr ⟨b,hb,by rw [e];rfl⟩
def FI {fp:z0q}{h:Heap}{p:Addr×Obj}(hp:p∈s_ fp h):p.1∈fp/\h.get? p.1=some p.2:=by
 obtain⟨b,hb,e⟩:=rR.mp hp;cases q:h.get? b with
 | none=>rw [q] at e;cases e
 | some o =>
  rw [q] at e;have e':(b,o)=p:=cX e;subst e';exact⟨hb,q⟩
def Inv.pinned {ag:z0e}{σ:St}{H:Hp}{s:Shared}{fp:z0q}(I:87)(hf:∀b∈fp,yZ X ag H b)(ho:∀b∈fp,∃o,259/\∀v,o.data≠.cell v):Inv X (ag++s_ fp s.heap) σ H s :=
 I.Ed λp hp=>(cw.mp hp).elim (λz=>I.pin p (eZ _ z)) λz=>by
  obtain⟨hb,e⟩:=FI z;obtain⟨f0,f1,f2,_⟩:=hf p.1 hb;obtain⟨o,e',d⟩:=ho p.1 hb;rw [e] at e';cases e';exact⟨e,f0,f1,f2,d⟩
def Inv.nW {ag pl:z0e}{σ:St}{H:Hp}{s:Shared}(I:Inv X (ag++pl) σ H s):87:=I.Ed λp hp=>I.pin p (eZ _ (g_ _ hp))
def cP {iter:Expr}{body:z0s}{wi:TI}{g:TG}{tb:TS}{pos:Pos}(hp:PassesOwn 110 X.A X.env X.xe)(hc:530)(hi:PI X tg iter wi)(hg:PG X tg g)(hb:yX X body tb)
  (hs:∀x,foldedSetIterable iter X.env x=pure x:=by intro _;rfl):PS X (.For tg iter body [] pos) (Yk wi g tb):=by
 intro ag s σ H D I h;refine wpAny_For (cK (hi ag s σ H _ I h) λv s1 h1=>cK h1 λZI s2 h2=>?_) hs;obtain⟨it,fp,tn,J,H2,e,I2,T,gk,f2,W,⟨m0,w0⟩,turn⟩:=h2;subst e;have BJ:∀{H':Hp},(∀b∈fp,H' b=none)->∀b∈fp,yZ X ag H' b:=λhn b hb=>⟨hn b hb,(f2 b hb).2⟩;refine codeAny_forLoop_any (λn s'=>∃i σ' H',Inv X ag σ' H' s'/\tn i s'.heap/\(∀b∈fp,H' b=none)/\W i n σ' H') ?_ m0 ⟨0,σ,H2,I2,gk,λb hb=>(f2 b hb).1,w0⟩;rintro n s3 ⟨i,σ3,H3,I3,y_,fr3,w3⟩;rcases turn i n σ3 H3 w3 with ⟨stop,qn⟩ | ⟨go,N,hN,step⟩
 .refine mS hp (cK (T.done X rfl rfl rfl hc i ag s3 σ3 H3 X.xe I3 (BJ fr3) y_ stop) λr s4 ⟨hr,I4⟩=>?_);subst hr;exact rB ⟨σ3,H3,I4,qn⟩
 refine mS hp (cK (T.item X rfl rfl rfl hc i ag s3 σ3 H3 X.xe I3 (BJ fr3) y_ go) λr s4 ⟨u,hr,h4⟩=>?_);subst hr;refine mS hp (cK h4 λ_ s5 ba=>?_);obtain⟨x,H5,I5,r5,y5,Lo,fr5⟩:=ba;have I5':=I5.pinned (BJ fr5) (T.obj _ _ Lo);refine mS hp (cK (hg _ s5 σ3 H5 x u _ I5' r5 (step x H5 y5)) λ_ s6 ba=>?_);obtain⟨σ6,H6,I6,q6⟩:=ba;refine mS hp (cK (hb _ s6 σ6 H6 _ I6 q6) λf s7 q7=>?_);have again:∀{σ7:St}{H7:Hp},Inv X (ag++s_ fp s5.heap) σ7 H7 s7->N σ7 H7->∃m,m < n/\∃i σ' H',Inv X ag σ' H' s7/\tn i s7.heap/\(∀b∈fp,H' b=none)/\W i m σ' H':=λ{σ7 H7} I7 n7=>by
  obtain⟨m',hm,w7⟩:=hN σ7 H7 n7;refine⟨m',hm,i+1,σ7,H7,I7.nW,T.keep _ _ _ Lo λb hb o e=>(I7.pin (b,o) (eZ _ (eZ _ (j6 hb e)))).1,λb hb=>?_,w7⟩;obtain⟨o,e,d⟩:=T.obj _ _ Lo b hb;exact(I7.pin (b,o) (eZ _ (eZ _ (j6 hb e)))).2.1
 cases f with
 | next=>obtain⟨σ7,H7,I7,n7⟩:=q7;exact again I7 n7
 | cont=>obtain⟨σ7,H7,I7,n7⟩:=q7;exact again I7 n7
 | brk=>obtain⟨σ7,H7,I7,q7⟩:=q7;exact⟨σ7,H7,I7.nW,q7⟩
 | ret v=>obtain⟨x7,σ7,H7,I7,r7,q7⟩:=q7;exact⟨x7,σ7,H7,I7.nW,r7,q7⟩
end
def du {K:aY}{a:Addr}{xs:84}{g:TG}{tb:TS}{D:Ends}{σ:St}{H:Hp}(Pv:Nat->St->106)(h0:Pv 0 σ H)(hl:∀i σ H,i<=xs.length->Pv i σ H->aX K H a xs)
  (hs:∀i x σ H,575->Pv i σ H->g x σ H 819)(hd:∀σ H,Pv xs.length σ H->D.nx σ H) :
  ∃W:Nat->Nat->St->106,(∃m,W 0 m σ H)/\∀i m σ H,W i m σ H ->
   ((mI K a).stop i H/\D.nx σ H)\/((mI K a).go i H/\∃N:St->106,776/\∀x H',(mI K a).o7 i H x H'->773):=by
 refine 854;rintro i m σ H ⟨rfl,hi,p⟩;have q:=hl i σ H hi p;by_cases jQ:i < xs.length
 .refine 852;obtain⟨e,y⟩:=y;subst e;exact hs i x σ _ (y xs q) p
 have e:i=xs.length:=121
 subst e;exact .inl ⟨⟨xs,q,aE _⟩,hd σ H p⟩
def EK {K:aY}{a:Addr}{xs:84}{g:TG}{tb:TS}{D:Ends}{σ:St}{H:Hp}(Pv:Nat->St->106)(h0:Pv 0 σ H)(hl:∀i σ H,i<=xs.length->Pv i σ H->515)
  (hs:∀i x σ H,575->Pv i σ H->g x σ H 819)(hd:∀σ H,Pv xs.length σ H->D.nx σ H) :
  ∃W:Nat->Nat->St->106,(∃m,W 0 m σ H)/\∀i m σ H,W i m σ H ->
   ((qE K a).stop i H/\D.nx σ H)\/((qE K a).go i H/\∃N:St->106,776/\∀x H',(qE K a).o7 i H x H'->773):=by
 refine 854;rintro i m σ H ⟨rfl,hi,p⟩;have q:=hl i σ H hi p;by_cases jQ:i < xs.length
 .refine 852;obtain⟨e,y⟩:=y;subst e;exact hs i x σ _ (y xs q) p
 have e:i=xs.length:=121
 subst e;exact .inl ⟨⟨xs,q,aE _⟩,hd σ H p⟩
def Gf {lo:Int}{n:Nat}{g:TG}{tb:TS}{D:Ends}{σ:St}{H:Hp}(Pv:Nat->St->106)(h0:Pv 0 σ H)
  (hs:∀i σ H,i < n->Pv i σ H->g (.int (lo+i)) σ H 819)(hd:∀σ H,Pv n σ H->D.nx σ H) :
  ∃W:Nat->Nat->St->106,(∃m,W 0 m σ H)/\∀i m σ H,W i m σ H ->
   ((Ni lo n).stop i H/\D.nx σ H)\/((Ni lo n).go i H/\∃N:St->106,776/\∀x H',(Ni lo n).o7 i H x H'->773):=by
 refine⟨λi m σ H=>m=n - i/\i<=n/\Pv i σ H,⟨n,58,cV _,h0⟩,?_⟩;rintro i m σ H ⟨rfl,hi,p⟩;by_cases jQ:i < n
 .refine .inr ⟨jQ,Pv (i+1),λσ' H' p'=>⟨n - (i+1),∅,rfl,jQ,p'⟩,λx H' y=>?_⟩;obtain⟨e,y⟩:=y;subst e y;exact hs i σ _ jQ p
 have e:i=n:=121
 subst e;exact .inl ⟨aE _,hd σ H p⟩
abbrev R2:=V->V->502
def wQ (X:Cx)(f:Value->Value->Sem Value)(r:R2):Prop :=
 ∀(ag:z0e)(s:Shared)(σ:St)(H:Hp)(x y:V)(v u:Value)(Q:VK),87->RelV x v->RelV y u->r x y H Q ->
  wpAny 110 X.A (f v u) (EP X ag σ Q) X.xe s
def UnR (X:Cx)(f:Value->Sem Value)(r:V->502):Prop :=
 ∀(ag:z0e)(s:Shared)(σ:St)(H:Hp)(x:V)(v:Value)(Q:VK),87->RelV x v->r x H Q ->
  wpAny 110 X.A (f v) (EP X ag σ Q) X.xe s
def gL (X:Cx)(f:Value)(r:84->502):Prop :=
 ∀(ag:z0e)(s:Shared)(σ:St)(H:Hp)(xs:84)(us:z0m)(Q:VK),87->bq xs us->r xs H Q ->
  wpAny 110 X.A (call f us) (EP X ag σ Q) X.xe s
def aaS (X:Cx)(r:V->Hp->(Bool->106)->Prop):Prop :=
 ∀(ag:z0e)(s:Shared)(σ:St)(H:Hp)(x:V)(v:Value)(Q:Bool->106),87->RelV x v->r x H Q ->
  wpAny 110 X.A (truthy v) (TP X ag σ Q) X.xe s
def WD (r:R2)(ta tb:TE):TE:=λσ H Q=>ta σ H λx H1=>tb σ H1 λy H2=>r x y H2 Q
def tUn (r:V->502)(ta:TE):TE:=λσ H Q=>ta σ H λx H1=>r x H1 Q
def rI (C:Int->Int->Prop)(g:Int->Int->V):R2:=λx y H Q=>XI2 x y C λi j=>Q (g i j) H
def RL (g:Int->Int->V):R2:=λx y H Q=>XI0 x y λi j=>Q (g i j) H
def rU (g:Int->V):V->502:=λx H Q=>XI1 x λi=>Q (g i) H
section
variable {X:Cx}{a b c:Expr}{ta tb tc:TE}{pos:Pos}
def Ro (ha:PE X a ta)(hb:PE X b tb){ag:z0e}{s:Shared}{σ:St}{H:Hp}{R:V->V->106}(I:87)
  (h:ta σ H λx H1=>tb σ H1 λy H2=>R x y H2){Q:z0b}{f:Value->Value->Sem Value}
  (hf:∀v u s2 x y H2,Inv X ag σ H2 s2->RelV x v->RelV y u->R x y H2->wpAny 110 X.A (f v u) Q X.xe s2) :
  895:=by
 refine 736;obtain⟨x,H1,I1,r1,q1⟩:=ba;refine cK (hb ag s1 σ H1 _ I1 q1) λu s2 ba=>?_;obtain⟨y,H2,I2,r2,q2⟩:=ba;exact hf v u s2 x y H2 I2 r1 r2 q2
def cu {op:Operator}{r:R2}(ho:wQ X (binaryOp op) r)(ha:PE X a ta)(hb:PE X b tb):PE X (.BinOp a op b pos) (WD r ta tb):=by
 intro ag s σ H Q I h;exact wpAny_BinOp (Ro ha hb I h λv u s2 x y H2 I2 rx ry q=>ho ag s2 σ H2 x y v u Q I2 rx ry q)
def NG {op:UnaryOp}{r:V->502}(ho:UnR X (unaryOp op) r)(ha:PE X a ta):PE X (.UnaryOp op a pos) (tUn r ta):=by
 intro ag s σ H Q I h;refine UnaryOp_ (736);obtain⟨x,H1,I1,r1,q1⟩:=ba;exact ho ag s1 σ H1 x v Q I1 r1 q1
def YU {f:Value->Value->Sem Value}{C:Int->Int->Prop}{g:Int->Int->Int}
  (rule:∀(i j:Int)(t u:Tok)(s:Shared)(Q:z0b)(E:z0b),C i j->Q (.int (g i j) s.toks) 635->wpAny 110 X.A (f (.int i t) (.int j u)) Q E s) :
  wQ X f (rI C λi j=>.int (g i j)):=by
 intro ag s σ H x y v u Q I rx ry h;obtain⟨i,j,rfl,rfl,hc,q⟩:=h;obtain⟨t,rfl⟩:=rx;obtain⟨t',rfl⟩:=ry;exact rule i j t t' s _ _ hc ⟨.int (g i j),H,I.tok _,421,q⟩
def T6 {f:Value->Value->Sem Value}{g:Int->Int->Int}
  (rule:∀(i j:Int)(t u:Tok)(s:Shared)(Q:z0b)(E:z0b),Q (.int (g i j) s.toks) 635->wpAny 110 X.A (f (.int i t) (.int j u)) Q E s) :
  wQ X f (RL λi j=>.int (g i j)):=by
 intro ag s σ H x y v u Q I rx ry h;obtain⟨i,j,rfl,rfl,q⟩:=h;obtain⟨t,rfl⟩:=rx;obtain⟨t',rfl⟩:=ry;exact rule i j t t' s _ _ ⟨.int (g i j),H,I.tok _,421,q⟩
def T7 {f:Value->Value->Sem Value}{g:583}
  (rule:∀(i j:Int)(t u:Tok)(s:Shared)(Q:z0b)(E:z0b),Q (.bool (g i j)) s->wpAny 110 X.A (f (.int i t) (.int j u)) Q E s) :
  wQ X f (RL λi j=>.bl (g i j)):=by
 intro ag s σ H x y v u Q I rx ry h;obtain⟨i,j,rfl,rfl,q⟩:=h;obtain⟨t,rfl⟩:=rx;obtain⟨t',rfl⟩:=ry;exact rule i j t t' s _ _ ⟨.bl (g i j),H,I,rfl,q⟩
def aaT (i j:Int):Prop:=0 < j/\j < 1073741824
def RD (i j:Int):Prop:=(-(2 ^ 64) < i/\i < 2 ^ 64)\/(-(2 ^ 64) < j/\j < 2 ^ 64)
def RD.ok {i j:Int}(h:RD i j):IntMulOk i j:=by
 rcases h with ⟨h1,h2⟩ | ⟨h1,h2⟩
 .exact .of_left (intBits_le_64 h1 h2)
 exact .of_right (intBits_le_64 h1 h2)
def d6:wQ X (binaryOp .Add) (RL λi j=>.int (i+j)):=T6 λ_ _ _ _ _ _ _ q=>add_int q
def IW:wQ X (binaryOp .Sub) (RL λi j=>.int (i - j)):=T6 λ_ _ _ _ _ _ _ q=>sub_int q
def PK:wQ X (binaryOp .Mult) (rI RD λi j=>.int (i * j)):=YU λ_ _ _ _ _ _ _ hc q=>mul_int q hc.ok
def oy:wQ X (binaryOp .FloorDiv) (rI aaT λi j=>.int (i / j)):=YU λi j _ _ _ _ _ hc q=>by
 have h1:(0:Int) < j:=hc.1;have h2:j < 1073741824:=hc.2;exact floordiv_int ∅ (by rw [Int.fdiv_eq_ediv_of_nonneg i ∅];exact q) (.inl (PyProof.noPylong_small ∅))
def j5:wQ X (binaryOp .Mod) (rI (λ_ j=>0 < j) λi j=>.int (i % j)):=YU λi j _ _ _ _ _ hc q=>by
 have h1:(0:Int) < j:=hc;exact mod_int' ∅ (by rw [Int.fmod_eq_emod_of_nonneg i ∅];exact q)
def unI {f:Value->Sem Value}{g:Int->Int}
  (rule:∀(i:Int)(t:Tok)(s:Shared)(Q:z0b)(E:z0b),Q (.int (g i) s.toks) 635->wpAny 110 X.A (f (.int i t)) Q E s) :
  UnR X f (rU λi=>.int (g i)):=by
 intro ag s σ H x v Q I rx h;obtain⟨i,rfl,q⟩:=h;obtain⟨t,rfl⟩:=rx;exact rule i t s _ _ ⟨.int (g i),H,I.tok _,421,q⟩
def HG:UnR X (unaryOp .USub) (rU λi=>.int (-i)):=unI λ_ _ _ _ _ q=>neg_int q
end
def Ys:V->V->Bool
 | .gF,.gF=>true | .gF,.int _=>true | .int _,.gF=>true | .gF,.bl _=>true | .bl _,.gF=>true | .gF,.str _=>true | .str _,.gF=>true
 | .int _,.int _=>true | .bl _,.bl _=>true | .str _,.str _=>true | .Gz _,.Gz _=>true
 | .int _,.str _=>true | .str _,.int _=>true | .bl _,.str _=>true | .str _,.bl _=>true
 | _,_=>false
def rEq:R2:=λx y H Q=>Ys x y=true/\Q (.bl (decide (x=y))) H
def MU {i j:Int}:decide (V.int i=V.int j)=(i == j):=by
 rw [jU];simp
def Ri {i j:Bool}:decide (V.bl i=V.bl j)=(i == j):=by
 rw [jU];simp
def MT {i j:Str}:decide (V.str i=V.str j)=(i == j):=by
 rw [jU];simp
def MV {i j:Array UInt8}:decide (V.Gz i=V.Gz j)=(i.toList == j.toList):=by
 rw [jU];cases i;cases j;simp
section
variable {X:Cx}{a b c:Expr}{ta tb tc:TE}{pos:Pos}
def fP {ag:z0e}{σ:St}{H:Hp}{s:Shared}{Q:VK}{k k':Bool}(I:87)(q:Q (.bl k) H)(e:k=k'):EP X ag σ Q (.bool k') s:=by
 subst e;exact⟨.bl k,H,I,rfl,q⟩
def oz:wQ X (compareOp .Eq) rEq:=by
 intro ag s σ H x y v u Q I rx ry h;obtain⟨hs,q⟩:=h;cases x with
 | gF =>
  cases rx;cases y with
  | gF=>cases ry;exact PySem.EqNone.eq_none_none 667
  | bl j=>cases ry;exact PySem.EqNone.eq_none_bool 667
  | int j=>obtain⟨t',rfl⟩:=ry;exact PySem.EqNone.eq_none_int 667
  | str j=>obtain⟨t',rfl⟩:=ry;exact PySem.EqNone.eq_none_str 667
  | _=>exact 791
 | bl i =>
  cases rx;cases y with
  | gF=>cases ry;exact PySem.EqNone.eq_bool_none 667
  | bl j=>cases ry;exact eq_bool (fP I q Ri)
  | str j=>obtain⟨t',rfl⟩:=ry;exact PySem.EqMixed.eq_bool_str 667
  | _=>exact 791
 | int i =>
  obtain⟨t,rfl⟩:=rx;cases y with
  | gF=>cases ry;exact PySem.EqNone.eq_int_none 667
  | int j=>obtain⟨t',rfl⟩:=ry;exact eq_int (fP I q MU)
  | str j=>obtain⟨t',rfl⟩:=ry;exact PySem.EqMixed.eq_int_str 667
  | _=>exact 791
 | str i =>
  obtain⟨t,rfl⟩:=rx;cases y with
  | gF=>cases ry;exact PySem.EqNone.eq_str_none 667
  | bl j=>cases ry;exact PySem.EqMixed.eq_str_bool 667
  | int j=>obtain⟨t',rfl⟩:=ry;exact PySem.EqMixed.eq_str_int 667
  | str j=>obtain⟨t',rfl⟩:=ry;exact eq_str (fP I q MT)
  | _=>exact 791
 | Gz i =>
  obtain⟨t,rfl⟩:=rx;cases y with
  | Gz j=>obtain⟨t',rfl⟩:=ry;exact PySem.W.eq_bytes (fP I q MV)
  | _=>exact 791
 | _=>cases y <;> exact 791
def ow:wQ X (compareOp .Lt) (RL λi j=>.bl (decide (i < j))):=T7 λ_ _ _ _ _ _ _ q=>lt_int q
def zP:wQ X (compareOp .Gt) (RL λi j=>.bl (decide (j < i))):=T7 λ_ _ _ _ _ _ _ q=>gt_int q
def PL:wQ X (compareOp .Is) (λx y H Q=>y=.gF/\Q (.bl (decide (x=.gF))) H):=by
 intro ag s σ H x y v u Q I rx ry h;obtain⟨rfl,q⟩:=h;cases ry;refine is_none_gen (fP I q ?_);cases x <;> first
  | (cases rx;rfl)
  | (obtain⟨t,rfl⟩:=rx;rfl)
def cT (b:Expr){op:CmpOp}(h:op≠.In:=by decide)(h2:op≠.NotIn:=by decide):behindInMarks op b=false:=by
 have e1:(op == CmpOp.In)=false:=by cases op <;> first | rfl | exact absurd rfl h
 have e2:(op == CmpOp.NotIn)=false:=by cases op <;> first | rfl | exact absurd rfl h2
 cases b <;> simp [behindInMarks,e1,e2]
def ji {op:CmpOp}{r:R2}(ho:wQ X (compareOp op) r)(ha:PE X a ta)(hb:PE X b tb)(hm:behindInMarks op b=false):PE X (.Compare a [op] [b] pos) (WD r ta tb):=by
 intro ag s σ H Q I h;exact wpAny_Compare1 (Ro ha hb I h λv u s2 x y H2 I2 rx ry q=>ho ag s2 σ H2 x y v u Q I2 rx ry q) hm
def SW (t:TE):TT:=λσ H Q=>t σ H λx H'=>XB x λk=>Q k H'
def cS {op:CmpOp}{r:R2}(ho:wQ X (compareOp op) r)(ha:PE X a ta)(hb:PE X b tb)(hm:behindInMarks op b=false):PT X (.Compare a [op] [b] pos) (SW (WD r ta tb)):=by
 intro ag s σ H Q I h;refine wpAny_isTrue_Compare1 (cK (ha ag s σ H _ I h) λv s1 ⟨x,H1,I1,r1,q1⟩=>cK (hb ag s1 σ H1 _ I1 q1) λu s2 ⟨y,H2,I2,r2,q2⟩ =>
  cK (ho ag s2 σ H2 x y v u _ I2 r1 r2 q2) λc s3 ⟨z,H3,I3,r3,k,e,q3⟩=>?_) hm
 subst e;cases r3;exact nQ ⟨H3,I3,q3⟩
def Ky (K:aY)(x:V)(H:Hp)(k:Bool):Prop :=
 match x with
 | .gF=>k=false
 | .bl b=>k=b
 | .int i=>k=(i != 0)
 | .str y=>y.length<=sizeLine/\k=((y.length:Int) != 0)
 | .Gz y=>y.size<=sizeLine/\k=((y.size:Int) != 0)
 | .ref p=>(∃xs,aX K H p xs/\k=!xs.isEmpty)\/(∃xs,aU K H p xs/\k=!xs.isEmpty)\/∃kvs,H p=375/\k=!kvs.isEmpty
 | _=>False
def CY {κ:Type}{kvs:546}{vs:List (κ×Value)}(r:KV kvs vs):(!vs.isEmpty)=!kvs.isEmpty:=by
 cases r <;> rfl
def tS {xs:84}{aT:z0m}(r:bq xs aT):(!aT.toArray.isEmpty)=!xs.isEmpty:=by
 cases r <;> simp
def yz:(sizeLine:Nat) < 2 ^ 63:=by rw [mK];decide
def OS:aaS X (λx H Q=>∃k,Ky X.K x H k/\Q k H):=by
 intro ag s σ H x v Q I rx h;obtain⟨k,e,q⟩:=h;have hl:=yz;have hs:sizeLine=16777216:=mK;cases x with
 | gF =>
  cases rx;have e':k=false:=e;subst e';exact truthy_none ⟨H,I,q⟩
 | bl b =>
  cases rx;have e':k=b:=e;subst e';exact nQ ⟨H,I,q⟩
 | int i =>
  obtain⟨t,rfl⟩:=rx;have e':k=(i != 0):=e;subst e';exact PySem.P.truthy_int ⟨H,I,q⟩
 | str y =>
  obtain⟨t,rfl⟩:=rx;obtain⟨hy,e'⟩:y.length<=sizeLine/\k=((y.length:Int) != 0):=e;subst e';exact PySem.P.truthy_str ∅ ⟨H,I.tok _,q⟩
 | Gz y =>
  obtain⟨t,rfl⟩:=rx;obtain⟨hy,e'⟩:y.size<=sizeLine/\k=((y.size:Int) != 0):=e;subst e';exact PySem.W.truthy_bytes ∅ ⟨H,I.tok _,q⟩
 | ref p =>
  cases rx;have e':(∃xs,aX X.K H p xs/\k=!xs.isEmpty)\/(∃xs,aU X.K H p xs/\k=!xs.isEmpty)\/∃kvs,H p=375/\k=!kvs.isEmpty:=e;rcases e' with ⟨xs,hx,e'⟩ | ⟨xs,hx,e'⟩ | ⟨kvs,hx,e'⟩
  .subst e';obtain⟨aT,r,pl,hz⟩:=I.list hx;have bE:=r.length;exact wpAny_truthy_list pl.isList (by simp only [cq];omega) ⟨H,I.tok _,by rw [tS r];exact q⟩
  .subst e';obtain⟨aT,r,pl,hz⟩:=I.tuple hx;have bE:=r.length;exact truthy_tuple pl (by simp only [cq];omega) ⟨H,I.tok _,by rw [tS r];exact q⟩
  subst e';obtain⟨hz,hS,vs,r,m⟩:kvs.length<=sizeLine/\(p == sysModules)=false/\∃vs,KV kvs vs/\s.heap.DictOf (aK X.prog X.w) p vs:=I.bI p _ hx;have bE:kvs.length=vs.length:=bf r;exact wpAny_truthy_dict hS m ∅ ⟨H,I.tok _,by rw [CY r];exact q⟩
 | _=>exact(show False from e).elim
def iW (ha:PE X a ta)(he:∀whole,isTrue a X.env whole=(do let v <-whole;standAt a.pos;holding [v] (truthy v))) :
  PT X a (λσ H Q=>ta σ H λx H'=>∃k,Ky X.K x H' k/\Q k H'):=by
 intro ag s σ H Q I h;refine isTrue_plain (736) (he _);obtain⟨x,H1,I1,r1,q1⟩:=ba;exact OS ag s1 σ H1 x v Q I1 r1 q1
def tG:wQ X (binaryOp .Add) (λx y H Q=>∃i j,x=.str i/\y=.str j/\i.length+j.length<=sizeLine/\Q (.str (i++j)) H):=by
 intro ag s σ H x y v u Q I rx ry h;obtain⟨i,j,rfl,rfl,hz,q⟩:=h;obtain⟨t,rfl⟩:=rx;obtain⟨t',rfl⟩:=ry;exact add_str (λt' tk=>⟨.str (i++j),H,I.tok _,421,q⟩) hz
def vals1 {x:V}{us:z0m}(r:bq [x] us):∃u,us=[u]/\RelV x u:=by
 cases r with
 | cons r1 r2=>cases r2;exact⟨_,rfl,r1⟩
def vals2 {x y:V}{us:z0m}(r:bq [x,y] us):∃u w',us=[u,w']/\RelV x u/\RelV y w':=by
 cases r with
 | cons r1 r2 =>
  cases r2 with
  | cons r3 r4=>cases r4;exact⟨_,_,rfl,r1,r3⟩
def Gw (hc:530):gL X (.builtin "max") (λxs H Q=>∃i j,xs=[.int i,.int j]/\Q (.int (if j > i then j else i)) H):=by
 intro ag s σ H xs us Q I r h;obtain⟨i,j,rfl,q⟩:=h;obtain⟨u,w',rfl,⟨t,rfl⟩,⟨t',rfl⟩⟩:=vals2 r;refine max_two_ints (I.ok.hd hc) λh' tk k=>⟨_,H,I.kept k,?_,q⟩;by_cases hj:j > i
 .rw [ar hj,ar hj];exact 421
 rw [aq hj,aq hj];exact 421
def Gy:gL X (.type "int") (λxs H Q=>(∃i,xs=[.int i]/\Q (.int i) H)\/∃k,xs=[.bl k]/\Q (.int (if k then 1 else 0)) H):=by
 intro ag s σ H xs us Q I r h;rcases h with ⟨i,rfl,q⟩ | ⟨k,rfl,q⟩
 .obtain⟨u,rfl,t,rfl⟩:=vals1 r;exact call_int_int ⟨.int i,H,I,421,q⟩
 obtain⟨u,rfl,r1⟩:=vals1 r;cases r1;exact call_int_bool ⟨.int (if k then 1 else 0),H,I.tok _,421,q⟩
end
structure Du (h:Heap)(x dx C:Addr)(mA:z0c):Prop where
 obj:h.get? x=some (PySem.W.instObj C dx)
 ns:h.Ns1 dx mA
 ne:dx≠x
def FT {h:Heap}{dx:Addr}{mA:z0c}(n:h.Ns1 dx mA):∃od,h.get? dx=some od/\∀name,PySem.W.lookIn name od=some (mA name):=by
 obtain⟨o,es,ep,ho,hd,hk,_,hm⟩:=n;refine⟨o,ho,λname=>?_⟩;have e:=hm name;unfold nsFind findBy at e;rw [<-Array.find?_toList] at e;unfold PySem.W.lookIn;rw [hd];dsimp only
 split
 .rename_i y q
  rw [q] at e;exact congrArg some e
 rename_i q
 rw [q] at e;have a:es.toList.any (·.refKey)=false:=by
  rw [List.any_eq_false];intro y hy;obtain⟨z,t,Mz⟩:=hk y (Array.mem_toList_iff.mp hy);simp [DictEntry.refKey,Mz]
 have a':¬es.toList.any (·.refKey)=true:=by rw [a];exact fg
 rw [aq a'];exact congrArg some e
def Du.look {h:Heap}{x dx C:Addr}{mA:z0c}(I:Du h x dx C mA):∃od,PySem.W.InstAt h x (PySem.W.instObj C dx) C (some od)/\∀name,PySem.W.lookIn name od=some (mA name) :=
 let ⟨od,ho,hl⟩:=FT I.ns
 ⟨od,⟨I.obj,rfl,rfl,ho⟩,hl⟩
section
variable {prog:Program}{w:World}{A:Around}{E:z0b}{s:Shared}{K:aY}{x dx C f:Addr}{mA:z0c}{name:Str}{v:Value}
def get_map {expr:Bool}{Q:z0b}(X:K.In s.heap)(I:Du s.heap x dx C mA)(hg:PySem.W.plainGet K C name=true)(hh:PySem.W.hasDictIn K C=true)
  (ha:PySem.W.findIn K 127 name=258)(hv:mA name=some v)(hv':PySem.W.handedIn v=true)(h:Q v 635) :
  wpAny 140 A (getAttr (.ref x) name expr) Q E s:=by
 obtain⟨od,J,hl⟩:=I.look;exact PySem.W.get_value X J (PySem.W.plainGet_of hg).1 (PySem.W.findObj_own hh ha rfl (by rw [hl,hv])) hv' h
def JZ {pl:Sem Bool}{Q:Value×z0m->146}(X:K.In s.heap)(I:Du s.heap x dx C mA)(hg:PySem.W.plainGet K C name=true)
  (hf:PySem.W.findIn K 127 name=some (some (.ref f)))(ht:PySem.W.isFn K (.ref f)=true)(hv:mA name=none)(h:Q (.ref f,[.ref x]) s) :
  wpAny 140 A (getMethod (.ref x) name pl) Q E s:=by
 obtain⟨od,J,hl⟩:=I.look;exact PySem.W.method_fn X J (PySem.W.plainGet_of hg).1 (PySem.W.plainGet_of hg).2 hf (beq_iff_eq.mp ht) (by show (PySem.W.lookIn name od).map (·.isSome)=some false;rw [hl,hv];rfl) h
def Lr {ns:z0t}{Q:Unit->146}(X:K.In s.heap)(I:Du s.heap x dx C mA)
  (hs:877)(hp:PySem.W.plainOver K C=true)(ht:PySem.W.takerIn K C name=258)(hh:PySem.W.hasDictIn K C=true)
  (hw:PySem.Within mA ns)(hsz:ns.length<=sizeLine)
  (h:∀h',Du h' x dx C (λy=>if y=name then some v else mA y)->Heap.SameBut dx s.heap h'->Q () { s with heap:=h',toks:=s.toks+2 }) :
  wpAny 140 A (setAttr (.ref x) name v) Q E s:=by
 obtain⟨od,J,hl⟩:=I.look;refine PySem.W.set_plain X J hs (PySem.W.osa_open (s:=635) (r:=none) X J hp ht λb=>?_);obtain⟨cd,hc,N7⟩:=PySem.W.any_some hh;have hx:s.heap.get? x=some ⟨.ref C,some dx,.plain,#[]⟩:=I.obj;refine au (aJ (au (au (wpAny_loadPart hx (au (PySem.W.Looks.here (s:=635) (PySem.W.looks_clsIn X hc) ?_))))));rw [N7];refine aJ (a:=some dx) (au (aJ (au ?_)));refine wpAny_nsSet1 (s:=635) I.ns λh' Hh hs2=>?_;obtain⟨oD,esD,epD,hoD,hdD,hcD⟩:=Hh.count (PySem.Within.cons name v hw);refine au (wpAny_lookBehind hoD (by rw [hdD];exact pastItsLine_dict (cW hcD (by rw [cf];omega))) ?_);exact aJ (h _ ⟨(hs2.2 _ (dC I.ne)).trans I.obj,Hh,I.ne⟩ hs2)
def Jp {R:Result->146}{vs:z0m}{kw:z0d}(X:K.In s.heap)(hm:PySem.W.makesIn K C=true)
  (hi:PySem.W.findIn K 127 "__init__"=some (some (.ref f)))(hf:PySem.W.typeIn K (.ref f)=some (.type "function"))
  (h:codeAny 140 (A.under (.builtin "type.__call__" ⟨.ref C::vs,kw⟩)) (.call (.ref f) ⟨.ref 538::vs,kw⟩) (PySem.W.InitBack 538 R)
   { s with heap:=886 }) :
  codeAny 140 A (.call 127 ⟨vs,kw⟩) R s:=by
 obtain⟨hh,g,d,t,os⟩:=s;exact PySem.W.make_core (PySem.W.makes_of X hm) (PySem.W.looks_findIn X hi) (λself=>PySem.W.bind_fn X self hf) 419 h
end
def dN (f:Str)(v:V):501->501
 | []=>[(f,v)]
 | (g,x)::r=>if g=f then (g,v)::r else (g,x)::dN f v r
theorem qx (f g:Str)(v:V):∀fs:501,(dN f v fs).lookup g=if g=f then some v else fs.lookup g
 | []=>by
  show List.lookup g [(f,v)]=_;by_cases h:g=f
  .have hb:(g == f)=true:=beq_iff_eq.mpr h;simp only [List.lookup,hb,ar h]
  have hb:(g == f)=false:=jB.mpr h;simp only [List.lookup,hb,aq h]
 | (k,x)::r=>by
  have ih:=qx f g v r;rw [show dN f v ((k,x)::r)=(if k=f then (k,v)::r else (k,x)::dN f v r) from rfl];by_cases hk:k=f
  .rw [ar hk];by_cases h:g=k
   .have hb:(g == k)=true:=beq_iff_eq.mpr h;simp only [List.lookup,hb,ar (h.trans hk)]
   have hb:(g == k)=false:=jB.mpr h;simp only [List.lookup,hb,aq (λe:g=f=>h (e.trans hk.symm))]
  rw [aq hk];by_cases h:g=k
  .have hb:(g == k)=true:=beq_iff_eq.mpr h;simp only [List.lookup,hb,aq (λe:g=f=>hk (h.symm.trans e))]
  have hb:(g == k)=false:=jB.mpr h;simp only [List.lookup,hb];exact ih
theorem p5 (f:Str)(v:V):∀fs:501,f∈(dN f v fs).map 27/\∀g,g∈fs.map 27->g∈(dN f v fs).map 27
 | []=>⟨by simp [dN],λg h=>by simp at h⟩
 | (k,x)::r=>by
  obtain⟨i1,i2⟩:=p5 f v r;rw [show dN f v ((k,x)::r)=(if k=f then (k,v)::r else (k,x)::dN f v r) from rfl];by_cases hk:k=f
  .rw [ar hk];subst hk;exact⟨58,λg h=>by simpa using h⟩
  rw [aq hk];refine⟨?_,λg h=>?_⟩
  .rw [bN];exact bA _ i1
  rw [bN] at h ⊢;rcases a_.mp h with e | e
  .exact a_.mpr (.inl e)
  exact bA _ (i2 g e)
theorem qy (f:Str)(v:V):∀fs:501,(dN f v fs).length<=fs.length+1
 | []=>by simp [dN]
 | (k,x)::r=>by
  have ih:=qy f v r;rw [show dN f v ((k,x)::r)=(if k=f then (k,v)::r else (k,x)::dN f v r) from rfl];by_cases hk:k=f
  .rw [ar hk,cf,cf];omega
  rw [aq hk,cf,cf];omega
def jP.some_of {v:V}{o:z0j}(r:jP (some v) o):∃u,o=some u/\RelV v u:=by
 cases o with
 | none=>exact(show False from r).elim
 | some u=>exact⟨u,rfl,r⟩
def jP.none_of {o:z0j}(r:jP none o):o=none:=by
 cases o with
 | none=>rfl
 | some u=>exact(show False from r).elim
def Ga {v:V}{u:Value}(r:RelV v u):PySem.W.handedIn u=true:=by
 cases v with
 | gF=>cases (show u=Value.none from r);rfl
 | bl b=>cases (show u=Value.bool b from r);rfl
 | int i=>obtain⟨t,e⟩:=(show ∃t,u=Value.int i t from r);cases e;rfl
 | str x=>obtain⟨t,e⟩:=(show ∃t,u=Value.str x t from r);cases e;rfl
 | Gz b=>obtain⟨t,e⟩:=(show ∃t,u=Value.bytes b t from r);cases e;rfl
 | Vt b=>obtain⟨t,e⟩:=(show ∃t,u=Value.float b t from r);cases e;rfl
 | ref a=>cases (show 510 from r);rfl
 | ty n=>cases (show u=Value.type n from r);rfl
section
variable {P:Program}{w:World}{H H':Hp}{h h':Heap}{a C dx:Addr}{fs Oa:501}
def yC (bI:mJ P w H h)(e:H a=549):∃mA,Du h a dx C mA/\(∀f,jP (fs.lookup f) (mA f))/\PySem.Within mA (fs.map 27)/\fs.length<=1000/\H dx=some (.own a):=by
 obtain⟨d,z,ne,ob,mA,n,r,q⟩:=(show bR P w H h a (.ins C dx fs) from bI a _ e);exact⟨mA,⟨ob,n,ne⟩,r,q,z,d⟩
end
structure G4 (K:aY)(C:Addr):Prop where
 pg:PySem.W.plainGet K C Str.empty=true
 hd:PySem.W.hasDictIn K C=true
 po:PySem.W.plainOver K C=true
 sa:877
def G4.get {K:aY}{C:Addr}(c:G4 K C)(f:Str):PySem.W.plainGet K C f=true:=c.pg
def dO (K:aY)(C:Addr)(f:Str):Prop:=PySem.W.findIn K 127 f=258
def dO.SU {K:aY}{C:Addr}{f:Str}(n:dO K C f):PySem.W.takerIn K C f=258:=by
 unfold PySem.W.takerIn;rw [show PySem.W.findIn K 127 f=258 from n];rfl
structure Meth (K:aY)(C:Addr)(m:Str)(f:Addr):Prop where
 at_:PySem.W.findIn K 127 m=some (some (.ref f))
 fn:PySem.W.isFn K (.ref f)=true
 kp:769
section
variable {X:Cx}{ag:z0e}{σ:St}{H:Hp}{s:Shared}{a C dx:Addr}{fs:501}{f:Str}{v:V}{A:Around}{E:z0b}
def C6 {b:Bool}{Q:z0b}(I:87)(e:H a=549)(c:G4 X.K C)(n:dO X.K C f)(l:fs.lookup f=some v)
  (h:∀u s',Inv X ag σ H s'->RelV v u->Q u s'):wpAny 110 A (getAttr 475 f b) Q E s:=by
 obtain⟨mA,O,r,_,_,_⟩:=yC I.bI e;obtain⟨u,hu,ru⟩:=jP.some_of (v:=v) (o:=mA f) (by rw [<-l];exact r f);exact get_map I.uK O (c.get f) c.hd n hu (Ga ru) (h u _ (I.tok _) ru)
def nE {m:Str}{g:Addr}{pl:Sem Bool}{Q:Value×z0m->146}(I:87)(e:H a=549)(c:G4 X.K C)(k:Meth X.K C m g)(l:fs.lookup m=none)
  (h:Q (.ref g,[91]) s):wpAny 110 A (getMethod 475 m pl) Q E s:=by
 obtain⟨mA,O,r,_,_,_⟩:=yC I.bI e;have hn:mA m=none:=jP.none_of (by rw [<-l];exact r m);exact JZ I.uK O (c.get m) k.at_ k.fn hn h
def BQ {y:V}{u:Value}{Q:Unit->146}(I:87)(e:H a=549)(c:G4 X.K C)(n:dO X.K C f)(hl:fs.length < 1000)(ry:RelV y u)
  (h:∀s',Inv X ag σ (upd H a (.ins C dx (dN f y fs))) s'->Q () s'):wpAny 110 A (setAttr 475 f u) Q E s:=by
 obtain⟨mA,O,r,wi,_,ho⟩:=yC I.bI e;have hz:(fs.map 27).length<=sizeLine:=by rw [ay,mK];omega
 refine Lr I.uK O c.sa c.po n.SU c.hd wi hz λh' O' sb=>h _ ?_;have hd:∃o,h'.get? dx=65:=let ⟨o,_,_,e',_⟩:=O'.ns;⟨o,e'⟩;refine I.write (x:=a) (e:=dx) (by rw [e];exact True.intro) (.inr ho) (λb q hb z=>(sb.2 b hb).trans z) hd ?_;refine⟨by rw [ai O.ne];exact ho,?_,O.ne,O'.obj,_,O'.ns,λg=>?_,λg hg=>?_⟩
 .have:=qy f y fs;omega
 .show jP ((dN f y fs).lookup g) (if g=f then some u else mA g);rw [qx];by_cases q:g=f
  .rw [ar q,ar q];exact ry
  rw [aq q,aq q];exact r g
 by_cases q:g=f
 .rw [q];exact(p5 f y fs).1
 refine(p5 f y fs).2 g (wi g λz=>hg ?_);show (if g=f then some u else mA g)=none;rw [aq q];exact z
def Inv.made (I:87):Inv X ag σ (upd (upd H s.heap.objs.size (.own 538)) 538 (.ins C s.heap.objs.size []))
  { s with heap:=886 }:=by
 have e1:(770).get? s.heap.objs.size=some PySem.W.emptyDict:=cU s.heap rfl;have e2:(886).get? 538=some (PySem.W.instObj C s.heap.objs.size):=by
  have:=cU (770) (o:=PySem.W.instObj C s.heap.objs.size) rfl;rwa [mO] at this
 have e3:(770).Ns s.heap.objs.size (λ_=>none):=⟨PySem.W.emptyDict,#[],_,e1,rfl,(λe he=>absurd he 90),λ_=>rfl⟩;have I1:=I.laid (a:=s.heap.objs.size) (o:=.own 538) (h':=770) (t':=s.toks) (λb u q=>bW _ q) 128 ⟨_,e1⟩;refine I1.laid (a:=509) (o:=.ins C s.heap.objs.size []) (t':=s.toks) (λb u q=>bW _ q) (Nat.le_of_eq (mO _ _)) ?_;have ne:s.heap.objs.size≠509:=bJ (mY _);refine⟨by rw [ai ne,af],cV _,ne,e2,λ_=>none,(Heap.Ns1.of_empty e3).at λo q=>bW _ q,λ_=>True.intro,λy hy=>absurd rfl hy⟩
def M5 {prog:Program}{w:World}{env:Env}{e:Expr}{f:Str}{pos:Pos}{s:Shared}{Q:z0b}(hb:attributeBase e f env (eval e env)=eval e env)
  (h:wpAny 140 A (eval e env) (λo s₁=>wpAny 140 A (getAttr o f true) Q E s₁) E s):wpAny 140 A (eval (.Attribute e f pos) env) Q E s :=
 Attribute_any_ h (by rw [arm_eval_Attribute,hb])
end
inductive Wd (K:aY)(H:Hp)(f:Str)(x:V)(R:V->Prop):Prop
|mk(a C dx:Addr)(fs:501)(v:V)(e:x=91)(h:H a=549)(c:G4 K C)(n:dO K C f)(l:fs.lookup f=some v)(q:R v)
inductive XSf (K:aY)(H:Hp)(f:Str)(x:V)(R:Addr->Addr->Addr->501->Prop):Prop
|mk(a C dx:Addr)(fs:501)(e:x=91)(h:H a=549)(c:G4 K C)(n:dO K C f)(l:fs.length < 1000)(q:R a C dx fs)
def Tg (K:aY)(ta:TE)(f:Str):TE:=λσ H Q=>ta σ H λx H1=>Wd K H1 f x λv=>Q v H1
def Yt (K:aY)(ta tv:TE)(f:Str):TS:=λD σ H=>tv σ H λy H1=>ta σ H1 λx H2=>XSf K H2 f x λa C dx fs=>D.nx σ (upd H2 a (.ins C dx (dN f y fs)))
section
variable {X:Cx}{o e value:Expr}{f:Str}{pos pos' sH:Pos}{ta tv:TE}
def cQ (he:PE X e ta)(hb:attributeBase e f X.env (eval e X.env)=eval e X.env):PE X (.Attribute e f pos) (Tg X.K ta f):=by
 intro ag s σ H Q I h;refine M5 hb (cK 694 λu s1 ba=>?_);obtain⟨x,H1,I1,rx,a,C,dx,fs,v,ex,ea,c,n,l,q⟩:=ba;subst ex;obtain rfl:510:=rx;exact C6 I1 ea c n l λu' s2 I2 ru=>⟨v,H1,I2,ru,q⟩
def gy (ha:PE X o ta)(hv:PE X value tv)(hs:swapsWith value (some (.Attribute o f pos')) pos.line X.env=pure false):PS X (.Assign [.Attribute o f pos'] value pos) (Yt X.K ta tv f):=by
 intro ag s σ H D I h;refine plainObj_wpAny_Assign_Attribute (cK (hv ag s σ H _ I h) λu s1 ba=>?_) hs;obtain⟨y,H1,I1,ry,q⟩:=ba;refine cK (ha ag s1 σ H1 _ I1 q) λov s2 ba=>?_;obtain⟨x,H2,I2,rx,a,C,dx,fs,ex,ea,c,n,l,q2⟩:=ba;subst ex;obtain rfl:ov=Value.ref a:=rx;exact BQ I2 ea c n l ry λs3 I3=>⟨σ,_,I3,q2⟩
def NK {pl:Sem Bool}{m:Str}{apos:Pos}{args:z0r}{ag:z0e}{s:Shared}{σ:St}{H:Hp}{Q:z0b}{te:TE}(he:PE X e te)(I:87)
  (h:te σ H λx H1=>∃a C dx fs g,x=91/\H1 a=549/\G4 X.K C/\Meth X.K C m g/\fs.lookup m=none /\
   ∀s1,Inv X ag σ H1 s1->wpAny 110 X.A (callWith pos (.ref g) [91] (backTo pos (starEach args X.env)) (backToKw pos (keywordEach [] X.env))) Q X.xe s1)
  (ht:eval (.Call (.Attribute e m apos) args [] pos) X.env=(do
   let ov <-eval e X.env
   standAt apos.atName
   let (f,first) <-holding [ov] (getMethod ov m pl)
   callWith pos f first (backTo pos (starEach args X.env)) (backToKw pos (keywordEach [] X.env)))) :
  wpAny 110 X.A (eval (.Call (.Attribute e m apos) args [] pos) X.env) Q X.xe s:=by
 refine 888;obtain⟨x,H1,I1,rx,a,C,dx,fs,g,ex,ea,c,k,l,q⟩:=ba;subst ex;obtain rfl:510:=rx;exact nE I1 ea c k l (q s1 I1)
end
section
variable {X:Cx}{ag:z0e}{σ:St}{H:Hp}{s:Shared}{A:Around}{E:z0b}{Q:z0b}{c:Value}{b:Bool}
end
structure ft (k:Nat)(A:Around):Prop where
 hd:569
 dp:A.depth+3 * k+5 < recursionLimit
 un:A.units+16 * k+200 < cLine
 gd:A.guards=some []
def ft.mono {j k:Nat}{A:Around}(r:ft k A)(h:j<=k):ft j A:=⟨r.hd,by have:=r.dp;omega,by have:=r.un;omega,r.gd⟩
theorem ft.deeper {k:Nat}{A:Around}(r:ft (k+1) A)(env:Env):ft k (A.deeper env) :=
 ⟨r.hd,by have:=r.dp;show A.depth+1+3 * k+5 < _;omega,by have:=r.un;show A.units+3+16 * k+200 < _;omega,r.gd⟩
def CM {A:Around}{C:Addr}{us:z0m}{kw:z0d}:(831).depth=A.depth+1:=by
 first | rfl | simp [Around.under,Code.weight,Code.isCreation,Code.isGuard,Code.isCaller,Code.frames,Code.isFrame,guardIds]
def CL {A:Around}{C:Addr}{us:z0m}{kw:z0d}:(831).units=A.units+1:=by
 first | rfl | simp [Around.under,Code.cUnits,Code.frames,Code.isFrame]
def z8 {A:Around}{C:Addr}{us:z0m}{kw:z0d}:(831).guards=A.guards:=by
 first | rfl | simp [Around.under,Code.guards,Code.isGuard,guardIds,pushGuards]
def ft.make {k:Nat}{A:Around}(r:ft (k+1) A)(C:Addr)(us:z0m)(kw:z0d):ft k (831) :=
 ⟨r.hd,by have:=r.dp;rw [CM];omega,by have:=r.un;rw [CL];omega,by rw [z8];exact r.gd⟩
theorem ft.depth {k:Nat}{A:Around}(r:ft k A):A.depth < recursionLimit:=by have:=r.dp;omega
theorem ft.units {k:Nat}{A:Around}(r:ft k A):A.units+64 < cLine:=by have:=r.un;omega
def qH:TA:=λ_ H Q=>Q [] H
def gu (ta:TE)(tr:TA):TA:=λσ H Q=>ta σ H λx H1=>tr σ H1 λxs H2=>Q (x::xs) H2
section
variable {X:Cx}{e:Expr}{es:z0r}{te:TE}{t:TA}{pos:Pos}
def ao:PA X [] qH:=λ_ _ _ _ H Q I h=>Calls.spliced_nil ⟨[],H,I,.nil,h⟩
def ae (ha:PE X e te)(hr:PA X es t)(hs:669:=by rfl):PA X (e::es) (gu te t):=by
 intro pos ag s σ H Q I h;rw [hs];show wpAny _ _ (spliced ((false,eval e X.env)::680)) _ _ s;refine pE (cK (ha ag s σ H _ I h) λu s1 ba=>?_);obtain⟨x,H1,I1,r1,q1⟩:=ba;refine cK (hr pos ag s1 σ H1 _ I1 q1) λus s2 ba=>?_;obtain⟨xs,H2,I2,r2,q2⟩:=ba;exact⟨x::xs,H2,I2,.cons r1 r2,q2⟩
def uR (t:TA):TE:=λσ H Q=>t σ H λxs H1=>xs.length<=sizeLine/\∀p,H1 p=none->Q (.ref p) (upd H1 p (.tup xs))
def Td (t:TA):TE:=λσ H Q=>t σ H λxs H1=>xs.length<=sizeLine/\∀p,H1 p=none->Q (.ref p) (upd H1 p (.lst xs))
def bG {x1}(h:PA X es t):PE X (.Tuple es x1 pos) (uR t):=by
 intro ag s σ H Q I hq;refine wpAny_Tuple_spliced (cK (h pos ag s σ H _ I hq) λus s1 ba=>?_);obtain⟨xs,H1,I1,r,z,q⟩:=ba;refine⟨by rw [<-r.length];exact z,?_⟩;have hf:H1 s1.heap.objs.size=none:=I1.bI.fresh 128;refine⟨.ref s1.heap.objs.size,upd H1 s1.heap.objs.size (.tup xs),I1.laid (t':=s1.toks) (λb u e=>bW _ e) 128 ?_,rfl,q _ hf⟩;exact⟨z,us,r,⟨_,cU _ rfl,rfl,_,rfl⟩⟩
def dw (h:PA X es t):PE X (.List es pos) (Td t):=by
 intro ag s σ H Q I hq;refine wpAny_List_spliced (cK (h pos ag s σ H _ I hq) λus s1 ba=>?_);obtain⟨xs,H1,I1,r,z,q⟩:=ba;refine⟨by rw [<-r.length];exact z,?_⟩;have hf:H1 s1.heap.objs.size=none:=I1.bI.fresh 128;refine⟨.ref s1.heap.objs.size,upd H1 s1.heap.objs.size (.lst xs),I1.laid (t':=s1.toks) (λb u e=>bW _ e) 128 ?_,rfl,q _ hf⟩;exact⟨z,us,0,r,cU _ rfl⟩
end
abbrev Sp:=84->Hp->VK->XK->Prop
abbrev Bh:=List Env->Hp->Shared->XK->Value->146
structure AY (P:Program)(w:World)(K:aY)(mg:z0c)(base:Heap)(A:Around)(outer:List Env)(s:Shared)(H:Hp):Prop where
 frames:A.frames=some outer
 mod:Mod K mg base
 bs:∀b o,base.get? b=65->259/\H b=none
 Hk:base.objs.size<=s.heap.objs.size
 nF:s.heap.FunFrames base outer
 K8:∀b∈qN outer,H b=none
 bI:mJ P w H s.heap
 bare:AllBare s.gens
def CE (outer:List Env)(P:Program)(w:World)(H:Hp)(s:Shared)(Q:VK)(u:Value)(s':Shared):Prop :=
 ∃v H',s'.os=s.os/\AllBare s'.gens/\Un (qN outer) [] H H' s.heap s'.heap/\mJ P w H' s'.heap/\RelV v u/\Q v H'
def CR (CX:Bh)(outer:List Env)(P:Program)(w:World)(H:Hp)(s:Shared)(Q:VK)(E:XK)(r:Result)(s':Shared):Prop :=
 match r with
 | .ok (.ret u)=>CE outer P w H s Q u s'
 | .ok _=>False
 | .error e=>CX outer H s E e s'
structure bO (P:Program)(w:World)(K:aY)(mg:z0c)(base:Heap)(CX:Bh) (k:Nat)(f:Addr)(fd:FuncData) (ps:z0t)(sp:Sp):Prop where
 len:783
 run:∀(A:Around)(outer:List Env)(s:Shared)(H:Hp)(args:Args)(us:z0m)(vs:84)(Q:VK)(E:XK),ft k A->AY P w K mg base A outer s H->BindsTo s fd args (ps.zip us)->bq vs us->sp vs H Q E ->
  codeAny (model P w) A (.call (.ref f) args) (CR CX outer P w H s Q E) s
theorem bO.mono {P:Program}{w:World}{K:aY}{mg:z0c}{base:Heap}{CX:Bh}{j k:Nat}{f:Addr}{fd:FuncData}{ps:z0t}{sp:Sp}(F:bO P w K mg base CX j f fd ps sp)(h:j<=k) :
  bO P w K mg base CX k f fd ps sp:=⟨F.len,λA outer s H args us vs Q E hr=>F.run A outer s H args us vs Q E (hr.mono h)⟩
def AY.make {P:Program}{w:World}{K:aY}{mg:z0c}{base:Heap}{A:Around}{outer:List Env}{s:Shared}{H:Hp}(e:AY P w K mg base A outer s H)(C:Addr)(us:z0m)(kw:z0d) :
  AY P w K mg base (831) outer s H:=⟨by first | exact e.frames | (simpa [Around.under,Code.envs,Code.isFrame,pushEnvs] using e.frames),e.mod,e.bs,e.Hk,e.nF,e.K8,e.bI,e.bare⟩
section
variable {X:Cx}{ag:z0e}{σ:St}{H:Hp}{s s':Shared}
def Inv.MO (I:87):AY X.prog X.w X.K X.mg X.base X.A X.stack s H :=
 ⟨I.ok.frames,I.ok.mod,I.bs,cW I.ok.Hk I.sz,I.stack,I.qU,I.bI,I.bare⟩
def Inv.after {Q:VK}{u:Value}(I:87)(h:CE X.stack X.prog X.w H s Q u s'):EP X ag σ Q u s':=by
 obtain⟨v,H',os,bare,un,bI,r,q⟩:=h;obtain⟨hh,g,d,t,os'⟩:=s';obtain rfl:os'=s.os:=os;exact⟨v,H',I.call (h':=hh) (g':=g) (d':=d) (t':=t) (ch:=[]) un bI bare (λb z=>absurd z 90),r,q⟩
end
def HN (sp:Sp)(dvs:84)(E:XK)(t:TA):TE:=λσ H Q=>t σ H λvs H1=>sp (vs++dvs) H1 Q E
def Np (C:Addr)(m:Str)(sp:Sp)(dvs:84)(E:XK)(ta:TE)(t:TA):TE:=λσ H Q=>ta σ H λx H1=>∃a dx fs,x=91/\H1 a=549/\fs.lookup m=none /\
 t σ H1 λvs H2=>sp (x::(vs++dvs)) H2 Q E
def Tc (C:Addr)(sp:Sp)(dvs:84)(E:XK)(t:TA):TE:=λσ H Q=>t σ H λvs H1=>∀x dx,H1 x=none->H1 dx=none->dx≠x ->
 sp (.ref x::(vs++dvs)) (upd (upd H1 dx (.own x)) x (.ins C dx [])) (λv H2=>v=.gF/\Q (.ref x) H2) E
def Binds (K:aY)(fd:FuncData) (ps:z0t)(ds:z0m):Prop :=
 ∀(s:Shared)(us:z0m),K.In s.heap->(us++ds).length=ps.length->BindsTo s fd ⟨us,[]⟩ (ps.zip (us++ds))
def Binds.all {K:aY}{fd:FuncData}{ps:z0t}(h:∀us:z0m,us.length=ps.length->bindArgs fd ⟨us,[]⟩=pure (ps.zip us)):Binds K fd ps []:=λs us _ hl=>by
 rw [dG] at hl ⊢;exact .of_eq (h us hl)
def Passes (CX:Bh)(X:Cx)(E:XK):Prop:=∀(ag:z0e)(σ:St)(H:Hp)(s:Shared)(e:Value)(s':Shared),87->CX X.stack H s E e s'->X.xe e s'
section
variable {X:Cx}{CX:Bh}{k:Nat}{f C:Addr}{fd:FuncData}{ps:z0t}{sp:Sp}{dvs:84}{ds:z0m}{E:XK}{x m:Str}{p pos apos:Pos}{e o:Expr}{es:z0r}{ta:TE}{t:TA}
def Ce {ag:z0e}{σ:St}{H:Hp}{s:Shared}{Q:VK}{us:z0m}{vs:84}(F:734)(hr:ft k X.A)(hb:Binds X.K fd ps ds)(hd:bq dvs ds)(hx:Passes CX X E)
  (I:87)(r:bq vs us)(h:sp (vs++dvs) H Q E):wpAny 110 X.A (call (.ref f) us) (EP X ag σ Q) X.xe s:=by
 have r2:bq (vs++dvs) (us++ds):=r.append hd;have hl:(us++ds).length=ps.length:=by rw [<-r2.length];exact F.len _ _ _ _ h
 refine gM (o_ (F.run X.A X.stack s H ⟨us,[]⟩ (us++ds) (vs++dvs) Q E hr I.MO (hb s us I.uK hl) r2 h) λr s' hq=>?_);cases r with
 | error e=>exact hx ag σ H s e s' I hq
 | ok fl =>
  cases fl with
  | ret u=>exact I.after hq
  | next=>exact False.elim hq
  | brk=>exact False.elim hq
  | cont=>exact False.elim hq
def Eh (F:734)(hr:ft k X.A)(hg:Gl X x)(hm:X.mg x=some (.ref f))(hk:PySem.W.keepIn X.K (.ref f)=true)(hb:Binds X.K fd ps ds)(hd:bq dvs ds)(hx:Passes CX X E)
  (ha:PA X (e::es) t)(yE:589:=by decide)(he:669:=by rfl)(uX:(680).any 27=false:=by rfl) :
  PE X 737 (HN sp dvs E t):=by
 intro ag s σ H Q I h;refine nR (lY I hg hm ?_ yE);refine xf (h₀:=X.base) I.ok.mod.RU hk 648 he uX;obtain⟨vs,H1,I1,r,q⟩:=ba;refine⟨I1.uK,?_⟩;exact Ce F hr hb hd hx I1 r q
def ou {pl:Sem Bool}(he:PE X o ta)(c:G4 X.K C)(hm:Meth X.K C m f)(F:734)(hr:ft k X.A)(hb:Binds X.K fd ps ds)(hd:bq dvs ds)(hx:Passes CX X E)(ha:PA X (e::es) t)
  (oG:669:=by rfl)(uX:(680).any 27=false:=by rfl)
  (ht:eval (.Call (.Attribute o m apos) (e::es) [] pos) X.env=(do
   let ov <-eval o X.env
   standAt apos.atName
   let (f,first) <-holding [ov] (getMethod ov m pl)
   callWith pos f first (backTo pos (starEach (e::es) X.env)) (backToKw pos (keywordEach [] X.env))):=by rfl) :
  PE X (.Call (.Attribute o m apos) (e::es) [] pos) (Np C m sp dvs E ta t):=by
 intro ag s σ H Q I h;refine 888;obtain⟨x,H1,I1,rx,a,dx,fs,ex,ea,l,q⟩:=ba;subst ex;obtain rfl:510:=rx;refine nE I1 ea c hm l ?_;refine xf (first:=[91]) (h₀:=X.base) I.ok.mod.RU hm.kp (cK (ha pos ag s1 σ H1 _ I1 q) λus s2 ba=>?_) oG uX;obtain⟨vs,H2,I2,r,q2⟩:=ba;refine⟨I2.uK,?_⟩;exact Ce (us:=91::us) (vs:=91::vs) F hr hb hd hx I2 (.cons rfl r) q2
def IF {pl:Sem Bool}(he:PE X o ta)(c:G4 X.K C)(hm:Meth X.K C m f)(F:734)(hr:ft k X.A)(hb:Binds X.K fd ps ds)(hd:bq dvs ds)(hx:Passes CX X E)
  (ht:eval (.Call (.Attribute o m apos) [] [] pos) X.env=(do
   let ov <-eval o X.env
   standAt apos.atName
   let (f,first) <-holding [ov] (getMethod ov m pl)
   callWith pos f first (backTo pos (starEach [] X.env)) (backToKw pos (keywordEach [] X.env))):=by rfl) :
  PE X (.Call (.Attribute o m apos) [] [] pos) (Np C m sp dvs E ta qH):=by
 intro ag s σ H Q I h;refine 888;obtain⟨x,H1,I1,rx,a,dx,fs,ex,ea,l,q⟩:=ba;subst ex;obtain rfl:510:=rx;refine nE I1 ea c hm l ?_;exact PySem.W.callWith_K0 (first:=[91]) I1.uK hm.kp (Ce (us:=[91]) (vs:=[91]) F hr hb hd hx I1 (.cons rfl .nil) q)
structure Mk (K:aY)(C f:Addr):Prop where
 makes:PySem.W.makesIn K C=true
 init:PySem.W.findIn K 127 "__init__"=some (some (.ref f))
 fn:PySem.W.isFn K (.ref f)=true
 kp:PySem.W.keepIn K 127=true
def Ih {ag:z0e}{σ:St}{H:Hp}{s:Shared}{Q:VK}{us:z0m}{vs:84}(M:Mk X.K C f)(F:734)(hr:ft (k+1) X.A)(hb:Binds X.K fd ps ds)(hd:bq dvs ds)
  (hx:Passes CX X E)(I:87)(r:bq vs us)
  (h:∀x dx,H x=none->H dx=none->dx≠x->sp (.ref x::(vs++dvs)) (upd (upd H dx (.own x)) x (.ins C dx [])) (λv H2=>v=.gF/\Q (.ref x) H2) E) :
  wpAny 110 X.A (call 127 us) (EP X ag σ Q) X.xe s:=by
 have hq:=h 538 s.heap.objs.size (I.bI.fresh (jR _)) (I.bI.fresh 128) (bJ (mY _));have I2:=Inv.made (C:=C) I;have r2:bq (V.ref 538::(vs++dvs)) (Value.ref 538::(us++ds)):=.cons rfl (r.append hd);have hl:(Value.ref 538::us++ds).length=ps.length:=by
  have e:=r2.length;rw [F.len _ _ _ _ hq] at e;exact e.symm
 refine gM (Jp (f:=f) I.uK M.makes M.init (beq_iff_eq.mp M.fn) (o_ (F.run _ X.stack _ _ ⟨Value.ref 538::us,[]⟩ (Value.ref 538::(us++ds)) _ _ E (hr.make C us [])
  (I2.MO.make C us []) (hb _ (Value.ref 538::us) I2.uK hl) r2 hq) λr s' UQ=>?_))
 cases r with
 | error e=>exact hx ag σ _ _ e s' I2 UQ
 | ok fl =>
  cases fl with
  | ret u =>
   obtain⟨v,H',I3,rv,ev,q3⟩:=I2.after UQ;subst ev;exact⟨rv,⟨V.ref 538,H',I3,rfl,q3⟩⟩
  | next=>exact False.elim UQ
  | brk=>exact False.elim UQ
  | cont=>exact False.elim UQ
def ym (M:Mk X.K C f)(F:734)(hr:ft (k+1) X.A)(hg:Gl X x)(hm:X.mg x=some 127)(hb:Binds X.K fd ps ds)(hd:bq dvs ds)(hx:Passes CX X E)
  (ha:PA X (e::es) t)(yE:589:=by decide)(he:669:=by rfl)(uX:(680).any 27=false:=by rfl) :
  PE X 737 (Tc C sp dvs E t):=by
 intro ag s σ H Q I h;refine nR (lY I hg hm ?_ yE);refine xf (h₀:=X.base) I.ok.mod.RU M.kp 648 he uX;obtain⟨vs,H1,I1,r,q⟩:=ba;refine⟨I1.uK,?_⟩;exact Ih M F hr hb hd hx I1 r q
end
section
variable {X:Cx}{CX:Bh}{k:Nat}{f C:Addr}{fd:FuncData}{ps ks:z0t}{sp:Sp}{E:XK}{x m:Str}{p pos apos aa4:Pos}{e o:Expr}{es:z0r}{kws:List Keyword}{te ta:TE}{t tk:TA}{nm:Option Str}
variable {g:z0m->z0m->z0m}{gV:84->84->84}
end
structure aM (N P:z0t)(sc:Scope):Prop where
 kind:sc.kind=.function
 co:sc.isCoroutine=false
 gen:sc.isGenerator=false
 nd:N.Nodup
 pre:N.take P.length=P
 par:∀x∈P,sc.names.lookup x=531\/sc.names.lookup x=some .cell
 PY:∀y∈sc.names,y.2≠.free
def kc {N P:z0t}{sc:Scope}(a:sc.kind=.function)(b:sc.isCoroutine=false)(c:sc.isGenerator=false)(d:N.take P.length=P)(e:N.Nodup/\(∀x∈P,sc.names.lookup x=531\/sc.names.lookup x=some .cell)/\∀y∈sc.names,y.2≠.free):aM N P sc:=⟨a,b,c,e.1,d,e.2.1,e.2.2⟩
theorem wH {kindOf:Str->Option NameKind}{x:Str}:∀{binds:z0d}{m:z0c},(∀v,(x,v)∉binds)->bindL kindOf binds m x=m x
 | [],_,_=>rfl
 | (n,v)::r,m,h=>by
  unfold bindL;rw [wH λw hw=>h w (bA _ hw)]
  split
  .have:x≠n:=by rintro rfl;exact h v a8
   simp [this]
  rfl
theorem wK {kindOf:Str->Option NameKind}{x:Str}:∀{binds:z0d}{m:z0c},(∀v,(x,v)∉binds)->bindC kindOf binds m x=m x
 | [],_,_=>rfl
 | (n,v)::r,m,h=>by
  unfold bindC;rw [wK λw hw=>h w (bA _ hw)]
  split
  .rfl
  have:x≠n:=by rintro rfl;exact h v a8
  simp [this]
theorem wJ {kindOf:Str->Option NameKind}{x:Str}{v:Value}:∀{P:z0t}{vs:z0m}{i:Nat}{m:z0c},P.Nodup->P[i]?=some x->vs[i]?=some v->kindOf x=531 ->
  bindL kindOf (P.zip vs) m x=some v
 | [],_,_,_,_,h,_,_=>by simp at h
 | _::_,[],_,_,_,_,h,_=>by simp at h
 | p::P,w::vs,0,m,nd,h1,h2,hk=>by
  simp at h1 h2;subst h1;subst h2;show bindL kindOf ((p,w)::P.zip vs) m p=_;unfold bindL;rw [wH λv hv=>(dU.mp nd).1 (List.of_mem_zip hv).1,ar hk];simp
 | p::P,w::vs,i+1,m,nd,h1,h2,hk=>by
  show bindL kindOf ((p,w)::P.zip vs) m x=_;unfold bindL;exact wJ (i:=i) (dU.mp nd).2 (by simpa using h1) (by simpa using h2) hk
theorem wL {kindOf:Str->Option NameKind}{x:Str}{v:Value}:∀{P:z0t}{vs:z0m}{i:Nat}{m:z0c},P.Nodup->P[i]?=some x->vs[i]?=some v->kindOf x≠531 ->
  bindC kindOf (P.zip vs) m x=some v
 | [],_,_,_,_,h,_,_=>by simp at h
 | _::_,[],_,_,_,_,h,_=>by simp at h
 | p::P,w::vs,0,m,nd,h1,h2,hk=>by
  simp at h1 h2;subst h1;subst h2;show bindC kindOf ((p,w)::P.zip vs) m p=_;unfold bindC;rw [wK λv hv=>(dU.mp nd).1 (List.of_mem_zip hv).1,aq hk];simp
 | p::P,w::vs,i+1,m,nd,h1,h2,hk=>by
  show bindC kindOf ((p,w)::P.zip vs) m x=_;unfold bindC;exact wL (i:=i) (dU.mp nd).2 (by simpa using h1) (by simpa using h2) hk
def start (N:z0t)(vs:84):St:=vs.map some++List.replicate (N.length - vs.length) none
def ip (CX:Bh)(P:Program)(w:World)(K:aY)(mg:z0c)(base:Heap) (N:z0t)(qual:Str)(scope:Scope)(f:Addr)(cd:Value)(A:Around)(outer:List Env)(s:Shared)(H:Hp)(E:XK):Cx where
 prog:=P
 w:=w
 K:=K
 mg:=mg
 base:=base
 A:=A.deeper (753)
 N:=N
 s₀:=s
 H₀:=H
 env:=753
 outer:=outer
 stack:=753::outer
 ex:=[]
 calm:=true
 fn:=λ_=>true
 pn:=[]
 xe:=λe s'=>wpAny (model P w) (A.deeper (753)) (leaving (753) e) (λ_ Ig=>CX outer H s E e Ig) (λe' Ig=>CX outer H s E e' Ig) s'
def AB {sc:Scope}{n:Nat}{x:Str}(h:sc.names.lookup x=some .cell):∃c,(cellsFrom n sc.names []).lookup x=some c:=by
 have q:=PySem.W.cellsFrom_some sc.names n [] (.inl h);exact nS.mp q
def v_ {CX:Bh}{P:Program}{w:World}{K:aY}{mg:z0c}{base:Heap}{N ps:z0t}{qual:Str}{scope:Scope}{f:Addr}{cd:Value}{A:Around}{outer:List Env}{s s1:Shared}{H:Hp}{E:XK}{us:z0m}{vs:84}
  (S:aM N ps scope)(hd:569)(e0:AY P w K mg base A outer s H)(hl:vs.length=ps.length)(r:bq vs us)
  (x:InCallC s s.heap.objs.size (bindL (753).kindOf (ps.zip us) λ_=>none) (cellsFrom 538 scope.names []) (bindC (753).kindOf (ps.zip us) λ_=>none) s1) :
  Inv (ip CX P w K mg base N qual scope f cd A outer s H E) [] (start N vs) H s1:=by
 have uX:ps.length<=N.length:=by have:=congrArg List.length S.pre;rw [fQ] at this;omega
 obtain⟨h1,tk,rfl,hk⟩:=x.done;have Y8:∀b:Addr,b∉(ip CX P w K mg base N qual scope f cd A outer s H E).ex:=λb z=>absurd (show b∈([]:z0q) from z) 90;refine⟨⟨e0.mod,S.kind,rfl,rfl,aE _,λy z c h1 h2=>?_,λy hy=>?_,λy c _ h=>?_,λ_=>hd,Around.frames_deeper e0.frames,.inr ⟨rfl,rfl⟩,λb z=>absurd z (Y8 b),e0.bs,e0.Hk,λb _ _=>Y8 b,λb z=>absurd z (Y8 b),e0.nF,e0.K8⟩,
  rfl,e0.bare,Un.kept hk,⟨_,x.toInCall.ns,λi y v h1 h2 h3=>?_⟩,λy c h=>⟨_,x.cell y c h⟩,e0.bI.fresh 128,λy c h=>?_,λp hp=>absurd (show p∈([]:z0e) from hp) 90,e0.bI.kept hk,?_⟩
 .exact name_of_addr x.apart (rY h1) (rY h2)
 .have hy:scope.names.lookup y=some .cell\/scope.names.lookup y=some .free:=hy;rcases hy with hy | hy
  .exact AB hy
  exact absurd rfl (S.PY _ (rY hy))
 .exact gq (x.above y c (rY h))
 .have hi:i < vs.length:=by
   unfold start at h2;by_cases hi:i < vs.length
   .exact hi
   rw [iO (by simpa using hi)] at h2;rw [List.getElem?_replicate] at h2
   split at h2 <;> cases h2
  have ha:vs[i]?=some v:=by
   unfold start at h2;rw [gK (by simpa using hi),bx] at h2;cases e:vs[i]? with
   | none=>rw [e] at h2;cases h2
   | some a=>rw [e] at h2;cases h2;rfl
  obtain⟨u,hu,rv⟩:=r.get ha;have hp:ps[i]?=some y:=by
   rw [<-S.pre,List.getElem?_take_of_lt ∅];exact h1
  have ndP:ps.Nodup:=by rw [<-S.pre];exact S.nd.sublist (List.take_sublist _ _)
  refine⟨u,rv,?_⟩;rcases S.par y (cv hp) with k | k
  .exact .inl ⟨k,wJ ndP hp hu k⟩
  obtain⟨c,e⟩:=AB (n:=509) k;refine .inr ⟨.inl k,c,e,?_⟩;have q:=x.cell y c e;rw [wL ndP hp hu (by show scope.names.lookup y≠_;rw [k];decide)] at q;exact q
 .exact e0.bI.fresh (gq (x.above y c (rY h)))
 unfold start;show _=N.length;rw [bp,ay,List.length_replicate];omega
def EL {CX:Bh}{P:Program}{w:World}{K:aY}{mg:z0c}{base:Heap}{k:Nat}{f:Addr}{name qual:Str}{params:Arguments}{body:z0s}{scope:Scope}{dV kV doc pm eC ct oc:Value}{an od:z0l}
  {yp:z0a}{N ps:z0t}{sp:Sp}(lk:K.lookup f=some ⟨oc,od,.func (PySem.W.fnOf name qual params body scope dV kV doc pm an eC ct),yp⟩)(wc:PySem.W.codeIn K eC qual=true)(S:aM N ps scope)
  (len:783)
  (i5:∀(A:Around)(outer:List Env)(s:Shared)(H:Hp)(vs:84)(Q:VK)(E:XK),ft k (A.deeper (envOfC qual scope s.heap.objs.size f eC))->sp vs H Q E ->
   ∃t,yX (ip CX P w K mg base N qual scope f eC A outer s H E) body t/\836) :
  bO P w K mg base CX (k+1) f (PySem.W.fnOf name qual params body scope dV kV doc pm an eC ct) ps sp:=by
 refine⟨len,λA outer s H args us vs Q E hr e0 hb r EE=>?_⟩;have hl:=len _ _ _ _ EE;have KX:K.In s.heap:=e0.mod.RU.keeps λb o e=>(e0.bs b o e).1;have lim:s.heap.NoLimit:=e0.mod.nolimit.keeps λb o e=>(e0.bs b o e).1;have jK:∀y∈ps.zip us,902:=λ⟨n,v⟩ hy=>by
  rcases S.par n (List.of_mem_zip hy).1 with q | q
  .exact .inl q
  exact .inr ⟨q,PySem.W.cellsFrom_some _ _ _ (.inl q)⟩
 refine codeAny_call_function hr.depth (KX _ _ lk) rfl S.co S.gen rfl (PySem.W.codeRec_of KX wc) (hb _ _ _ _ ?_);refine wpAny_newFunctionEnv_cells S.kind jK λenv he s1 x=>?_;subst he;refine⟨lim.keeps x.toInCall.keep,codeAny_func ?_⟩;obtain⟨t,ht,hq⟩:=i5 A outer s H vs Q E (hr.deeper _) EE;have I:Inv (ip CX P w K mg base N qual scope f eC A outer s H E) [] (start N vs) H s1:=v_ S hr.hd e0 hl r x;refine dD (ht [] s1 (start N vs) H _ I hq) (λfl s' hs=>?_) λe s' hs=>hs;have fin:∀{σ':St}{H':Hp}{v:V}{u:Value},Inv (ip CX P w K mg base N qual scope f eC A outer s H E) [] σ' H' s'->RelV v u->Q v H'->CE outer P w H s Q u s' :=
  λ{σ' H' v u} J rv q=>⟨v,H',J.os,J.bare,J.base,J.bI,rv,q⟩
 cases fl with
 | ret u =>
  obtain⟨v,σ',H',J,rv,q⟩:=hs;exact fin J rv q
 | next =>
  obtain⟨σ',H',J,q⟩:=hs;exact fin (v:=V.gF) (u:=Value.none) J rfl q
 | brk =>
  obtain⟨_,_,_,q⟩:=hs;exact False.elim q
 | cont =>
  obtain⟨_,_,_,q⟩:=hs;exact False.elim q
section
variable {X:Cx}{x:Str}{p pos:Pos}{e:Expr}{es:z0r}{t:TA}{id T:String}{r:84->502}
def tCB (r:84->502)(t:TA):TE:=λσ H Q=>t σ H λvs H1=>r vs H1 Q
def bo (hc:gL X (.builtin id) r)(hg:Gl X x)(hm:X.mg x=none)(hv:bootBuiltins x=some (.builtin id))(ha:PA X (e::es) t)(hn:x ≠ "__name__" := by decide)(yE:589:=by decide)
  (he:669:=by rfl)(uX:(680).any 27=false:=by rfl):PE X 737 (tCB r t):=by
 intro ag s σ H Q I h;refine nR (j9 I hg hm hv ?_ hn yE);refine PyProof.Rows.callWith_builtin1 648 he uX;obtain⟨vs,H1,I1,r1,q1⟩:=ba;exact hc ag s1 σ H1 vs us Q I1 r1 q1
def bu (hc:gL X (.type T) r)(hg:Gl X x)(hm:X.mg x=none)(hv:bootBuiltins x=some (.type T))(ha:PA X (e::es) t)(hn:x ≠ "__name__" := by decide)(yE:589:=by decide)
  (he:669:=by rfl)(uX:(680).any 27=false:=by rfl):PE X 737 (tCB r t):=by
 intro ag s σ H Q I h;refine nR (j9 I hg hm hv ?_ hn yE);refine xE 648 he uX;obtain⟨vs,H1,I1,r1,q1⟩:=ba;exact hc ag s1 σ H1 vs us Q I1 r1 q1
end
end L2
namespace HT
open PySem PyProof.Rows
section
open PySem.SeqAt
open PySem.AutoSeq1 (wpAny_loadPart')
open PySem.MeetsSeq PySem.MeetsSeq2 PySem.MeetsSeq3
end
section
variable {prog:Program}{w:World}{A:Around}{E:z0b}{s:Shared}
def fU (n d:Nat):z0o->Nat
 | none=>d
 | some v=>if v < 0 then (v+(n:Int)).toNat else min v.toNat n
def Ia (n d:Nat):fU n d none=d:=rfl
def LF (n d k:Nat):fU n d (some (k:Int))=min k n:=by
 show (if (k:Int) < 0 then ((k:Int)+(n:Int)).toNat else min (k:Int).toNat n)=min k n;rw [aq ∅,ku]
def Pd (n d:Nat)(hd:d<=n)(o:z0o):fU n d o<=n:=by
 cases o with
 | none=>exact hd
 | some v =>
  show (if v < 0 then (v+(n:Int)).toNat else min v.toNat n)<=n;by_cases hv:v < 0
  .rw [ar hv];omega
  rw [aq hv];exact Nat.min_le_right _ _
def EV (v:Int) (n d:Nat):(if v < 0 then max (v+(n:Int)) 0 else min v (n:Int))=((fU n d (some v):Nat):Int):=by
 show (if v < 0 then max (v+(n:Int)) 0 else min v (n:Int))=(((if v < 0 then (v+(n:Int)).toNat else min v.toNat n):Nat):Int);by_cases hv:v < 0
 .simp only [ar hv];omega
 simp only [aq hv];omega
def Dq (lo hi:z0o) (n:Nat):Builtin.Slice.sliceAdjust lo hi 1 (n:Int)=(((fU n 0 lo:Nat):Int),((fU n n hi:Nat):Int)):=by
 have h1:¬((1:Int) < 0):=121
 unfold Builtin.Slice.sliceAdjust;simp only [h1,if_false];refine bV ?_ ?_
 .cases lo with
  | none=>rfl
  | some v=>exact EV v n 0
 cases hi with
 | none=>rfl
 | some v=>exact EV v n n
def Cp (i j:Nat):Builtin.Slice.slicePlaces (i:Int) 124 1=j - i:=by
 unfold Builtin.Slice.slicePlaces;have h1:(1:Int) > 0:=121
 simp only [h1,if_true,Int.ediv_one]
 split <;> omega
def sS {v:Value}{o:z0o}{Q:z0o->146}(p:IsPart v o)(h:Q o s):wpAny 140 A (Builtin.Slice.slicePartIndex v) Q E s:=by
 cases p with
 | none=>exact slicePart_none h
 | int i t=>exact slicePart_int h
def jH {sl:Addr}{vl vu:Value}{lo hi:z0o}{n:Nat}{Q:Int×Int×Nat->146}(hs:s.heap.IsSliceOf sl vl vu .none)(pl:IsPart vl lo)(pu:IsPart vu hi)
  (h:Q (((fU n 0 lo:Nat):Int),1,fU n n hi - fU n 0 lo) s):wpAny 140 A (Builtin.Slice.sliceApplied (.ref sl) (pure (n:Int))) Q E s:=by
 obtain⟨os,Qw,N8,Vc⟩:=id hs;unfold Builtin.Slice.sliceApplied Builtin.Slice.sliceFields;refine au (au (g8 Qw Vc (x:=vl) rfl (au (g8 Qw Vc (x:=vu) rfl (au (g8 Qw Vc (x:=.none) rfl (aJ ?_)))))));refine au (slicePart_none ?_);show wpAny _ _ (if ((1:Int) == 0)=true then _ else _) _ _ s;rw [aq nofun];refine au (sS pl (au (sS pu (au (aJ ?_)))));show wpAny _ _ (match Builtin.Slice.sliceAdjust lo hi 1 (n:Int) with | (lo,hi)=>pure (lo,(1:Int),Builtin.Slice.slicePlaces lo hi 1)) _ _ s
 rw [Dq lo hi n];show wpAny _ _ (pure (((fU n 0 lo:Nat):Int),(1:Int),Builtin.Slice.slicePlaces ((fU n 0 lo:Nat):Int) ((fU n n hi:Nat):Int) 1)) _ _ s;rw [Cp];exact aJ h
def ID (xs:z0k) (i k:Nat):((List.range k).filterMap λ(m:Nat)=>xs[((i:Int)+(m:Int) * 1).toNat]?).toArray=((xs.toList.drop i).take k).toArray:=by
 have e:(λ(m:Nat)=>xs[((i:Int)+(m:Int) * 1).toNat]?)=λm=>xs[i+m]?:=by
  funext m
  have:((i:Int)+(m:Int) * 1).toNat=i+m:=121
  rw [this]
 rw [e];have:=pick_run xs i k;rw [List.filterMap_map] at this;have e2:((λx=>xs[x]?) ∘ λx=>i+x)=λm=>xs[i+m]?:=rfl;rw [e2] at this;rw [this]
def oM {t sl:Addr}{items:z0k}{vl vu:Value}{lo hi:z0o}{Q:z0b}(ht:IsTup s.heap t items)(hs:s.heap.IsSliceOf sl vl vu .none)(pl:IsPart vl lo)(pu:IsPart vu hi)
  (hw:¬(fU items.size 0 lo=0/\fU items.size items.size hi=items.size))
  (h:Q 720 { s with heap:=s.heap.push { cls:=378,data:=.seq (870).toArray } })
  (hsz:items.size<=sizeLine):wpAny 140 A (getItem (.ref t) (.ref sl)) Q E s:=by
 have ED:sizeOk (.seq (870).toArray):=by
  show (870).toArray.size<=sizeLine;rw [cq,fQ,rK,ix];omega
 have hj:fU items.size items.size hi<=items.size:=Pd _ _ 128 hi;obtain⟨os,Qw,N8,Vc⟩:=id hs;have hTs:s.TypeIs (.ref sl) "slice" := ⟨os,Qw,N8⟩;unfold getItem
 try with_reducible refine gr ?_
 first | refine au (aJ ?_) | skip
 refine au (wpAny_sequenceKey ht.typeIs nofun ?_);refine au (qo (name:=Str.ofString "__getitem__") ht.typeIs vi
  (i_ vi ht.typeIs entry_tuple_getitem ?_ (args_tuple_getitem _ _)))
 show wpAny _ _ (Builtin.Tuple.tupleItemsOf (.ref t) >>= _) _ _ s;refine au (tupleItemsOf_ ht ?_);refine au (jr hTs ?_);rw [ar nofun];refine au (jH hs pl pu ?_);have Z7:¬(851):=by
  intro q;rw [md,md] at q;have q1:((fU items.size 0 lo:Nat):Int)=0:=eq_of_beq q.1.1;have q2:fU items.size items.size hi - fU items.size 0 lo=items.size:=eq_of_beq q.2;exact hw ⟨∅,∅⟩
 show 896;rw [aq Z7,ID]
 first
  | exact au (m:=Builtin.Tuple.tupleExact _) (kr (aJ ⟨_,rfl,aJ h⟩) ED)
  | exact au (m:=Builtin.Tuple.tupleExact _) (kr (au (aJ (aJ ⟨_,rfl,aJ h⟩))) ED)
  | exact au (au (m:=Builtin.Tuple.tupleExact _) (kr (aJ (aJ ⟨_,rfl,aJ h⟩)) ED))
  | exact au (au (m:=Builtin.Tuple.tupleExact _) (kr (aJ ⟨_,rfl,aJ h⟩) ED))
end
end HT
namespace L2
open PySem PySem.Spec PyProof.Rows
abbrev TO:=St->Hp->(z0o->106)->Prop
def PO (X:Cx)(e:Option Expr)(t:TO):Prop :=
 ∀(ag:z0e)(s:Shared)(σ:St)(H:Hp)(Q:z0o->106),87->t σ H Q ->
  wpAny 110 X.A (evalPart e X.env) (λu s'=>∃o H',Inv X ag σ H' s'/\IsPart u o/\Q o H') X.xe s
def Ln:TO:=λ_ H Q=>Q none H
def SX (t:TE):TO:=λσ H Q=>t σ H λx H1=>XI1 x λi=>Q (some i) H1
def intsAre_of {ns:z0u}:∀{us:z0m},bq (ns.map V.int) us->IntsAre us ns:=by
 induction ns with
 | nil=>intro us r;rw [kP] at r;cases r;exact .nil
 | cons n ns ih =>
  intro us r;rw [bN] at r;cases r with
  | cons r1 r2 =>
   obtain⟨t,e⟩:=r1;subst e;exact .cons n t (ih r2)
section
variable {X:Cx}{e:Expr}{te:TE}{lo hi:Option Expr}{tl th:TO}{pos p2:Pos}
def yk:PO X none Ln:=by
 intro ag s σ H Q I h;rw [evalPart_none];exact aJ ⟨none,H,I,.none,h⟩
def yj (h:PE X e te):PO X (some e) (SX te):=by
 intro ag s σ H Q I hw;rw [evalPart_some];refine cK (h ag s σ H _ I hw) λu s1 ba=>?_;obtain⟨x,H1,I1,r1,q1⟩:=ba;obtain⟨i,rfl,q⟩:=q1;obtain⟨t,rfl⟩:=r1;exact⟨some i,H1,I1,.int i t,q⟩
def XN (X:Cx)(r:V->z0o->z0o->502):Prop :=
 ∀(ag:z0e)(s:Shared)(σ:St)(H:Hp)(x:V)(v vl vu:Value)(lo hi:z0o)(sl:Addr)(Q:VK),87->RelV x v->s.heap.IsSliceOf sl vl vu .none->IsPart vl lo->IsPart vu hi->r x lo hi H Q ->
  ∃T id,typeLookup (.type T) "__getitem__"=pure (some (.builtin id))/\s.TypeIs v T/\wpAny 110 X.A (getItem v (.ref sl)) (EP X ag σ Q) X.xe s
def tSl (r:V->z0o->z0o->502)(te:TE)(tl th:TO):TE:=λσ H Q=>te σ H λx H1=>tl σ H1 λl H2=>th σ H2 λu H3=>r x l u H3 Q
def tu {r:V->z0o->z0o->502}(hr:XN X r)(he:PE X e te)(hl:PO X lo tl)(hu:PO X hi th):PE X (.Subscript e (.Slice lo hi none p2) pos) (tSl r te tl th):=by
 intro ag s σ H Q I h;refine Subscript_ 846;obtain⟨x,H1,I1,r1,q1⟩:=ba;refine wpAny_Slice (cK (hl ag s1 σ H1 _ I1 q1) λvl s2 ba=>?_);obtain⟨l,H2,I2,pl,q2⟩:=ba;refine cK (hu ag s2 σ H2 _ I2 q2) λvu s3 ba=>?_;obtain⟨u,H3,I3,pu,q3⟩:=ba;rw [evalPart_none];refine aJ ?_;have I4:Inv X ag σ H3 878:=I3.kept (t':=s3.toks) λb ob q=>bW _ q;obtain⟨T,id,hT,ht,hg⟩:=hr ag 878 σ H3 x v vl vu l u s3.heap.objs.size Q I4 r1 (Heap.IsSliceOf.new ..) pl pu q3;show wpAny 110 X.A (subscriptTail e (.Slice lo hi none p2) v (.ref s3.heap.objs.size)) (EP X ag σ Q) X.xe 878;exact tail_any (ops:=[.ref s3.heap.objs.size,v]) ht hT hg (by with_unfolding_all rfl)
def qf (xs:84)(lo hi:z0o):84:=(xs.drop (HT.fU xs.length 0 lo)).take (HT.fU xs.length xs.length hi - HT.fU xs.length 0 lo)
def qA (xs:84)(lo hi:z0o):(qf xs lo hi).length<=xs.length:=by
 unfold qf;rw [fQ,rK];omega
def YK (K:aY):V->z0o->z0o->502:=λx lo hi H Q=>∃a xs,x=91/\515 /\
 ¬(HT.fU xs.length 0 lo=0/\HT.fU xs.length xs.length hi=xs.length)/\∀p,H p=none->Q (.ref p) (upd H p (.tup (qf xs lo hi)))
def BO:XN X (YK X.K):=by
 intro ag s σ H x v vl vu lo hi sl Q I rx hs pl pu h;obtain⟨a,xs,rfl,hx,hw,q⟩:=h;cases rx;obtain⟨aT,r,ht,hz⟩:=I.tuple hx;have bE:aT.toArray.size=xs.length:=by rw [cq];exact r.length.symm
 refine⟨"tuple",_,vi.lookup,ht.typeIs,?_⟩;refine HT.oM ht hs pl pu (by rw [bE];exact hw) ?_ (by rw [bE];exact hz);rw [bE];refine⟨491,_,I.laid (t':=s.toks) (o:=.tup (qf xs lo hi)) (λb ob q=>bW _ q) 128 ?_,rfl,q _ (I.bI.fresh 128)⟩;exact⟨cW (qA xs lo hi) hz,_,(r.drop (HT.fU xs.length 0 lo)).take (HT.fU xs.length xs.length hi - HT.fU xs.length 0 lo),IsTup.new _ _⟩
end
def RV (n:Nat) (i:Int):z0p:=if 0<=i then (if i < n then some i.toNat else none) else if -(n:Int)<=i then some (i+n).toNat else none
def Bc {α:Type}(xs:List α) (i:Int):Option α:=(RV xs.length i).bind λj=>xs[j]?
def Mu {n:Nat}{i:Int}{j:Nat}(h:RV n i=some j):seqIndex? i n=some j/\j < n/\-(n:Int)<=i/\i < n:=by
 unfold RV at h;by_cases h0:0<=i
 .rw [ar h0] at h;by_cases h1:i < n
  .rw [ar h1] at h;have e:i.toNat=j:=cX h;exact⟨by rw [seqIndex_of h0 h1,e],∅,∅,h1⟩
  rw [aq h1] at h;cases h
 rw [aq h0] at h;by_cases h1:-(n:Int)<=i
 .rw [ar h1] at h;have e:(i+n).toNat=j:=cX h;exact⟨by rw [seqIndex_neg ∅ h1,e],∅,h1,∅⟩
 rw [aq h1] at h;cases h
def E2 {α:Type}{xs:List α}{i:Int}{v:α}(h:Bc xs i=some v):∃j,seqIndex? i xs.length=some j/\xs[j]?=some v/\j < xs.length/\-(xs.length:Int)<=i/\i < xs.length:=by
 unfold Bc at h;cases e:RV xs.length i with
 | none=>rw [e] at h;cases h
 | some j =>
  rw [e] at h;obtain⟨h1,h2,h3,h4⟩:=Mu e;exact⟨j,h1,h,h2,h3,h4⟩
def eh {α:Type}{xs:List α}{j:Nat}{v:α}(h:xs[j]?=some v):Bc xs 124=some v:=by
 have hj:j < xs.length:=(a7.mp h).1;have e:RV xs.length 124=some j:=by
  unfold RV;rw [ar ∅,ar ∅];simp
 unfold Bc;rw [e];exact h
def Nf (b:Expr):Prop:=∀o i,subscripted b false o i=operate [o,i] (getItem o i)
def Wr (X:Cx)(r:R2):Prop :=
 ∀(value slice:Expr)(ag:z0e)(s:Shared)(σ:St)(H:Hp)(x y:V)(v u:Value)(Q:VK),87->RelV x v->RelV y u->r x y H Q ->
  subscripted slice false v u=operate [v,u] (getItem v u)->wpAny 110 X.A (subscriptTail value slice v u) (EP X ag σ Q) X.xe s
def MtR (X:Cx)(id:String)(r:V->84->502):Prop :=
 ∀(ag:z0e)(s:Shared)(σ:St)(H:Hp)(x:V)(xs:84)(v:Value)(us:z0m)(Q:VK),87->RelV x v->bq xs us->r x xs H Q ->
  wpAny 110 X.A (call (.builtin id) (v::us)) (EP X ag σ Q) X.xe s
section
variable {X:Cx}{a b:Expr}{ta tb:TE}{pos:Pos}
def bF {r:R2}(hr:Wr X r)(ha:PE X a ta)(hb:PE X b tb)(hs:Nf b):PE X (.Subscript a b pos) (WD r ta tb):=by
 intro ag s σ H Q I h;exact Subscript_ (Ro ha hb I h λv u s2 x y H2 I2 rx ry q=>hr a b ag s2 σ H2 x y v u Q I2 rx ry q (hs _ _))
inductive XF (S:Addr->84->Prop)(x y:V)(R:V->Prop):Prop
|mk(p:Addr)(xs:84) (i:Int)(v:V)(e:x=.ref p)(e2:y=.int i)(s:S p xs)(a:Bc xs i=some v)(q:R v)
def TQ (K:aY):R2:=λx y H Q=>XF (aX K H) x y λv=>Q v H
def YO (K:aY):R2:=λx y H Q=>XF (aU K H) x y λv=>Q v H
def e_:Wr X (TQ X.K):=by
 intro value slice ag s σ H x y v u Q I rx ry h hs;obtain⟨p,xs,i,z,rfl,rfl,hq,he,q⟩:=h;cases rx;obtain⟨t,rfl⟩:=ry;obtain⟨aT,r,pl,hz⟩:=I.list hq;obtain⟨j,h1,h2,h3,h4,h5⟩:=E2 he;obtain⟨w,ew,Cd⟩:=r.get h2;have hl:=r.length;have hn:=yz;have fin:EP X ag σ Q w s:=⟨z,H,I,Cd,q⟩;by_cases h0:0<=i
 .have hj:i.toNat=j:=by
   rw [seqIndex_of h0 h5] at h1;exact cX h1
  exact item_listR pl.isList h0 ∅ (by rw [hj];simpa using ew) fin hs
 have hj:(i+(aT.toArray.size:Int)).toNat=j:=by
  rw [seqIndex_neg ∅ h4] at h1;rw [cq,<-hl];exact cX h1
 exact subscriptTail_builtinR (x:=w) pl.isList.typeIs slot_list_getitem.lookup
  (wpAny_getItem_list_neg (Q:=λr s'=>r=w/\EP X ag σ Q r s') pl.isList ∅ (by rw [cq] <;> omega) ∅ (by rw [hj];simpa using ew) ⟨rfl,fin⟩) hs
def bH:Wr X (YO X.K):=by
 intro value slice ag s σ H x y v u Q I rx ry h hs;obtain⟨p,xs,i,z,rfl,rfl,hq,he,q⟩:=h;cases rx;obtain⟨t,rfl⟩:=ry;obtain⟨aT,r,pl,hz⟩:=I.tuple hq;obtain⟨j,h1,h2,h3,h4,h5⟩:=E2 he;obtain⟨w,ew,Cd⟩:=r.get h2;have hl:=r.length;have hn:=yz;have fin:EP X ag σ Q w s:=⟨z,H,I,Cd,q⟩;exact subscriptTail_builtinR (x:=w) pl.typeIs slot_tuple_getitem.lookup
  (getItem_tuple (j:=j) (Q:=λr s'=>r=w/\EP X ag σ Q r s') pl ∅ ∅ (by rw [cq,<-hl];exact h1) (by simpa using ew) ⟨rfl,fin⟩) hs
def xY (lo hi:z0o) (n:Nat):(sliceBounds lo hi none n).1=((HT.fU n 0 lo:Nat):Int)/\(sliceBounds lo hi none n).2.1=((HT.fU n n hi:Nat):Int)/\(sliceBounds lo hi none n).2.2=1:=by
 refine⟨?_,?_,rfl⟩
 .cases lo with
  | none=>simp [sliceBounds,HT.fU]
  | some i =>
   simp only [sliceBounds,HT.fU,Option.getD_none,show (1:Int) > 0 by decide,if_true];by_cases h:i < 0
   .simp only [h,if_true] <;> omega
   simp only [h,if_false] <;> omega
 cases hi with
 | none=>simp [sliceBounds,HT.fU]
 | some i =>
  simp only [sliceBounds,HT.fU,Option.getD_none,show (1:Int) > 0 by decide,if_true];by_cases h:i < 0
  .simp only [h,if_true] <;> omega
  simp only [h,if_false] <;> omega
def uT (aT:z0m)(lo hi:z0o):slicePick aT.toArray lo hi none=((aT.drop (HT.fU aT.length 0 lo)).take (HT.fU aT.length aT.length hi - HT.fU aT.length 0 lo)).toArray:=by
 obtain⟨h1,h2,h3⟩:=xY lo hi aT.toArray.size;unfold slicePick;rw [h1,h2,h3];simp only [sliceRange_one,pick_run,cq] <;> rfl
def YL (K:aY):V->z0o->z0o->502:=λx lo hi H Q=>XSq x (aX K H) λxs=>∀p,H p=none->Q (.ref p) (upd H p (.lst (qf xs lo hi)))
def WI:XN X (YL X.K):=by
 intro ag s σ H x v vl vu lo hi sl Q I rx hs pl pu h;obtain⟨a,xs,rfl,hx,q⟩:=h;cases rx;obtain⟨aT,r,ht,hz⟩:=I.list hx;have bE:=r.length;refine⟨"list",_,slot_list_getitem.lookup,ht.isList.typeIs,?_⟩;refine wpAny_getItem_list_slice ht.isList hs pl pu .none 90 ?_ (by rw [cq] <;> omega)
 rw [uT,<-bE];refine⟨491,_,I.laid (t':=s.toks) (o:=.lst (qf xs lo hi)) (λb ob q=>bW _ q) 128 ?_,rfl,q _ (I.bI.fresh 128)⟩;exact⟨cW (qA xs lo hi) hz,_,0,(r.drop (HT.fU xs.length 0 lo)).take (HT.fU xs.length xs.length hi - HT.fU xs.length 0 lo),cU _ rfl⟩
def bC:gL X (.builtin "len") (λxs H Q=>Rr xs (λp ys=>aX X.K H p ys\/aU X.K H p ys) λys=>Q (.int ys.length) H):=by
 intro ag s σ H xs us Q I r h;obtain⟨p,ys,rfl,hq,q⟩:=h;obtain⟨u,rfl,rx⟩:=vals1 r;cases rx;have hn:=yz;rcases hq with hq | hq
 .obtain⟨aT,r',pl,hz⟩:=I.list hq;have bE:=r'.length;exact Calls.call_len_list pl.isList (by simp only [cq] <;> omega) ⟨.int ys.length,H,I.tok _,⟨s.toks+1,by rw [cq,bE]⟩,q⟩
 obtain⟨aT,r',pl,hz⟩:=I.tuple hq;have bE:=r'.length;exact len_tuple pl (by simp only [cq] <;> omega) ⟨.int ys.length,H,I.tok _,⟨s.toks+1,by rw [cq,bE]⟩,q⟩
def ke:gL X (476) (λxs H Q=>Rr xs (λp ys=>aX X.K H p ys\/aU X.K H p ys) λys=>∀l,H l=none->Q (.ref l) (upd H l (.lst ys))):=by
 intro ag s σ H xs us Q I r h;obtain⟨p,ys,rfl,hq,q⟩:=h;obtain⟨u,rfl,rx⟩:=vals1 r;cases rx;have fin:∀(aT:z0m),bq ys aT->ys.length<=sizeLine->∀(h':Heap) (c':Nat),(∀b o',s.heap.get? b=some o'->162=some o') ->
   h'.get? s.heap.objs.size=some { cls:=476,dict:=none,data:=.seq aT.toArray c',slots:=#[] }->EP X ag σ Q 720 517:=λaT r' hz h' c' kp e =>
  ⟨491,_,I.laid (t':=s.toks) kp 128 (show bR X.prog X.w _ h' _ (.lst ys) from ⟨hz,aT,c',r',e⟩),rfl,q _ (I.bI.fresh 128)⟩
 rcases hq with hq | hq
 .obtain⟨aT,r',pl,hz⟩:=I.list hq;have bE:=r'.length;obtain⟨o,ho,hc,n,hd⟩:=pl.isList;exact call_list_seq p 419 ho hc hd (λh' c' kp e=>fin aT r' hz h' c' kp e) (by simp only [cq] <;> omega)
 obtain⟨aT,r',pl,hz⟩:=I.tuple hq;have bE:=r'.length;obtain⟨o,ho,hc,n,hd⟩:=pl;exact call_list_seq p (.inr rfl) ho hc hd (λh' c' kp e=>fin aT r' hz h' c' kp e) (by simp only [cq] <;> omega)
def gZ:gL X (378) (λxs H Q=>∃p ys,xs=[.ref p]/\((aX X.K H p ys/\∀l,H l=none->Q (.ref l) (upd H l (.tup ys)))\/(aU X.K H p ys/\Q (.ref p) H))):=by
 intro ag s σ H xs us Q I r h;obtain⟨p,ys,rfl,h⟩:=h;obtain⟨u,rfl,rx⟩:=vals1 r;cases rx;rcases h with ⟨hq,q⟩ | ⟨hq,q⟩
 .obtain⟨aT,r',pl,hz⟩:=I.list hq;have bE:=r'.length;refine call_tuple_list pl.isList (λh' kp=>?_) (by simp only [cq] <;> omega)
  have I1:Inv X ag σ H 517:=I.kept (t':=s.toks) kp;have I2:Inv X ag σ (upd H h'.objs.size (.tup ys)) { s with heap:=h'.push { cls:=378,data:=.seq aT.toArray } } :=
   I1.laid (t':=s.toks) (λb o e=>bW _ e) 128 (show bR X.prog X.w _ _ _ (.tup ys) from ⟨hz,aT,r',IsTup.new _ _⟩)
  exact⟨.ref h'.objs.size,_,I2,rfl,q _ (I1.bI.fresh 128)⟩
 obtain⟨aT,r',pl,hz⟩:=I.tuple hq;exact call_tuple_same pl ⟨.ref p,H,I,rfl,q⟩
def X_ (K:aY)(T:String)(x:V)(H:Hp):Prop:=match x with
 | .str _=>T = "str"
 | .int _=>T = "int"
 | .ref p=>(T = "list" /\ ∃xs,aX K H p xs)\/(T = "tuple" /\ ∃o,K.lookup p=65/\o.cls=378 /\ o.dict=none) \/
   (T = "dict" /\ ((∃kvs,H p=375)\/∃kvs,H p=some (.dT kvs)))\/(T = "set" /\ ∃S n,H p=some (.set S n))
 | _=>False
def HH {ag:z0e}{σ:St}{H:Hp}{s:Shared}{T:String}{x:V}{v:Value}(I:87)(r:RelV x v)(ty:X_ X.K T x H) :
  s.TypeIs v T/\∀a,v=91->∃ob,s.heap.get? a=some ob/\ob.dict=none:=by
 cases x with
 | str z =>
  obtain⟨t,rfl⟩:=r;cases (show T = "str" from ty);exact⟨typeIs_str s z t,λ_ e=>nomatch e⟩
 | int i =>
  obtain⟨t,rfl⟩:=r;cases (show T = "int" from ty);exact⟨typeIs_int s i t,λ_ e=>nomatch e⟩
 | ref p =>
  cases r;rcases ty with ⟨rfl,xs,hq⟩ | ⟨rfl,o,hk,hc,hd⟩ | ⟨rfl,hk⟩ | ⟨rfl,S,n,hk⟩
  .obtain⟨aT,_,pl,_⟩:=I.list hq;refine⟨pl.isList.typeIs,λa e=>?_⟩;cases e;obtain⟨o,n,e,c,hd,_⟩:=pl;exact⟨o,e,hd⟩
  .refine⟨⟨o,I.uK p o hk,hc⟩,λa e=>?_⟩;cases e;exact⟨o,I.uK _ o hk,hd⟩
  .have z:∃o,s.heap.get? p=65/\o.ExactDict:=by
    rcases hk with ⟨kvs,hk⟩ | ⟨kvs,hk⟩
    .obtain⟨_,_,_,_,o,_,_,e,ex,_⟩:=I.bI p _ hk;exact⟨o,e,ex⟩
    obtain⟨_,_,_,_,o,_,_,e,ex,_⟩:=I.bI p _ hk;exact⟨o,e,ex⟩
   obtain⟨o,e,ex⟩:=z;refine⟨⟨o,e,ex.1⟩,λa e2=>?_⟩;cases e2;exact⟨o,e,ex.2.1⟩
  obtain⟨o,_,_,_,e,ex,_⟩:=I.bI p _ hk;refine⟨⟨o,e,ex.1⟩,λa e2=>?_⟩;cases e2;exact⟨o,e,ex.2.1⟩
 | _=>exact False.elim ty
def Yl (K:aY)(T:String)(r:V->84->502)(to:TE):TE:=λσ H Q=>to σ H λx H1=>X_ K T x H1/\r x [] H1 Q
def tBM (K:aY)(T:String)(r:V->84->502)(to:TE)(t:TA):TE:=λσ H Q=>to σ H λx H1=>X_ K T x H1/\t σ H1 λxs H2=>r x xs H2 Q
variable {o e:Expr}{es:z0r}{to:TE}{t:TA}{name:Str}{apos gG:Pos}{T id:String}{r:V->84->502}
def PF (pa:PlainAttrs T)(slot:Slot T name id)(ZP:typeOf (.builtin id)=pure (.type "method_descriptor"))(hm:MtR X id r)(ho:PE X o to)
  (JX:attributeBase o name X.env (eval o X.env)=eval o X.env:=by rfl)(JM:(apos.endLine == gG.line)=true:=by rfl):PE X (.Call (.Attribute o name apos) [] [] gG) (Yl X.K T r to):=by
 intro ag s σ H Q I h;refine wpAny_Call_method0_late JX JM (cK (ho ag s σ H _ I h) λv s1 ba=>?_);obtain⟨x,H1,I1,r1,ty,q1⟩:=ba;obtain⟨h1,h2⟩:=HH I1 r1 ty;exact⟨T,id,pa,slot,ZP,h1,h2,r9 rfl (PySem.evalArgs_none (hm ag s1 σ H1 x [] v [] Q I1 r1 .nil q1))⟩
def jj (pa:PlainAttrs T)(slot:Slot T name id)(ZP:typeOf (.builtin id)=pure (.type "method_descriptor"))(hm:MtR X id r)(ho:PE X o to)(ha:PA X (e::es) t)
  (JX:attributeBase o name X.env (eval o X.env)=eval o X.env:=by rfl)
  (aaf:((backTo gG (starEach (e::es) X.env)).all (λx=>!x.1) && (backToKw gG (keywordEach [] X.env)).all (λx=>x.1.isSome)
   && decide ((e::es).length+([]:List Keyword).length+(if ([]:List Keyword).isEmpty then 0 else 1) < 30))=true:=by rfl)
  (JM:(apos.endLine == gG.line)=true:=by rfl)(hs:669:=by rfl)(Qu:(backTo gG (starEach es X.env)).any 27=false:=by rfl) :
  PE X (.Call (.Attribute o name apos) (e::es) [] gG) (tBM X.K T r to t):=by
 intro ag s σ H Q I h;refine wpAny_Call_method_late JX aaf JM rfl (cK (ho ag s σ H _ I h) λv s1 ba=>?_);obtain⟨x,H1,I1,r1,ty,q1⟩:=ba;obtain⟨h1,h2⟩:=HH I1 r1 ty;refine⟨T,id,pa,slot,ZP,h1,h2,?_⟩;have hA:=ha gG ag s1 σ H1 _ I1 q1;rw [hs] at hA ⊢;refine r9 (by show (false || (backTo gG (starEach es X.env)).any 27)=false;rw [Qu] <;> rfl) (w_ ?_)
 refine cK hA λus s2 ba=>?_;obtain⟨vs,H2,I2,r2,q2⟩:=ba;exact hm ag s2 σ H2 x vs v us Q I2 r1 r2 q2
end
def Wl (X:Cx)(id:String)(r:V->84->502):Prop :=
 ∀(ag:z0e)(s:Shared)(σ:St)(H:Hp)(x:V)(xs:84)(v:Value)(us:z0m)(Q:VK),87->RelV x v->bq xs us->r x xs H Q ->
  wpAny 110 X.A (call (.builtin id) (v::us)) (EP X ag σ Q) X.xe s
def bq.one {x:V}{us:z0m}(h:bq [x] us):∃u,us=[u]/\RelV x u:=by
 cases h with | cons r t=>cases t;exact⟨_,rfl,r⟩
def bq.zero:∀{us:z0m},bq [] us->us=[]
 | _,.nil=>rfl
theorem bq.dropLast {xs:84}{us:z0m}(h:bq xs us):bq xs.dropLast us.dropLast:=by
 induction h with
 | nil=>exact .nil
 | cons r t ih =>
  cases t with
  | nil=>exact .nil
  | cons q t'=>exact .cons r ih
def De {α:Type}(l:List α):l.eraseIdx (l.length - 1)=l.dropLast:=by
 induction l with
 | nil=>rfl
 | cons a r ih =>
  cases r with
  | nil=>rfl
  | cons b r =>
   have e:(a::b::r).length - 1=((b::r).length - 1)+1:=by
    have h1:(a::b::r).length=r.length+2:=rfl;have h2:(b::r).length=r.length+1:=rfl;omega
   rw [e,List.eraseIdx_cons_succ,ih]
   all_goals rfl
section
variable {X:Cx}{ag:z0e}{σ:St}{H:Hp}{s:Shared}{l b:Addr}{xs ys zs:84}
def Inv.Mj {aT tQ:z0m}{n:Nat}{f:z0k->z0k}{t':Nat}(I:87)(hH:H l=500)
  (e:s.heap.get? l=some { cls:=476,data:=.seq aT.toArray n })(hf:f aT.toArray=tQ.toArray)(hv:bq ys tQ)(hz:ys.length<=sizeLine) :
  Inv X ag σ (upd H l (.lst ys)) { s with heap:=s.heap.update l (Obj.mapSeq f),toks:=t' }:=by
 have q:=PySem.IsL.update e f;rw [hf] at q;refine I.write (x:=l) (e:=l) (by rw [hH];exact trivial) 419 (λb' u hb hu=>(jC s.heap (Obj.mapSeq f) (dC hb)).trans hu) ⟨_,q⟩ ?_;exact⟨hz,tQ,_,hv,q⟩
def Inv.Zt {aT:z0m}{t':Nat}(I:87)(hv:bq ys aT)(hz:ys.length<=sizeLine) :
  Inv X ag σ (upd H s.heap.objs.size (.lst ys)) { s with heap:=s.heap.push { cls:=476,data:=.seq aT.toArray },toks:=t' } :=
 I.laid (λ_ _ q=>bW _ q) 128 ⟨hz,aT,0,hv,cU _ rfl⟩
theorem Inv.fresh (I:87):H s.heap.objs.size=none:=I.bI.fresh 128
def Inv.z9 (I:87)(hH:H l=500):xs.length<=sizeLine/\∃(aT:z0m) (n:Nat),bq xs aT/\xs.length=aT.length/\s.heap.get? l=some { cls:=476,data:=.seq aT.toArray n }:=by
 obtain⟨z,aT,n,r,e⟩:=I.bI l _ hH;exact⟨z,aT,n,r,r.length,e⟩
def Jm {n:Nat}(h:n<=sizeLine):Builtin.List.listTooLong n=false:=by
 unfold Builtin.List.listTooLong;exact gh ∅
end
section
variable {X:Cx}
inductive Wf (H:Hp)(x:V)(vs:84)(R:Addr->84->V->Prop):Prop
|mk(l:Addr)(xs:84)(y:V)(e:x=.ref l)(e2:vs=[y])(h:H l=500)(z:xs.length < sizeLine)(q:R l xs y)
def LK:V->84->502:=λx vs H Q=>Wf H x vs λl xs y=>Q .gF (upd H l (.lst (xs++[y])))
def df:Wl X "list.append" LK:=by
 intro ag s σ H x vs v us Q I rx rv h;obtain⟨l,xs,y,rfl,rfl,hH,hz,q⟩:=h;cases rx;obtain⟨u,rfl,ru⟩:=rv.one;obtain⟨z,aT,n,r,hl,e⟩:=I.z9 hH;refine call_meets F.slot_list_append ⟨_,e,rfl⟩ F.entry_list_append (F.args_list_append_2 _ _) (PySem.list_append l aT.toArray n u (by rw [cq];omega)) ⟨e,?_⟩;refine⟨.gF,_,I.Mj (tQ:=aT++[u]) hH e 90 (r.append (.cons ru .nil)) ?_,rfl,q⟩;rw [bp,mi];omega
def LJ:V->84->502:=λx vs H Q=>∃l b xs zs,x=.ref l/\vs=[.ref b]/\H l=500/\H b=some (.lst zs)/\xs.length+zs.length<=sizeLine/\Q .gF (upd H l (.lst (xs++zs)))
def FO:Wl X "list.extend" LJ:=by
 intro ag s σ H x vs v us Q I rx rv h;obtain⟨l,b,xs,zs,rfl,rfl,hH,hB,hz,q⟩:=h;cases rx;obtain⟨u,rfl,ru⟩:=rv.one;cases ru;obtain⟨z,aT,n,r,hl,e⟩:=I.z9 hH;obtain⟨z2,qJ,n2,r2,uY,e2⟩:=I.z9 hB;have hsz:aT.toArray.size+qJ.toArray.size<=sizeLine:=by rw [cq,cq];omega
 have U2:¬(!aT.toArray.isEmpty && Builtin.List.listTooLong (aT.toArray.size+qJ.toArray.size))=true:=by
  rw [Jm hsz,Bool.and_false];exact fg
 refine call_meets F.slot_list_extend ⟨_,e,rfl⟩ F.entry_list_extend (F.args_list_extend_2 _ _)
  (AutoSeq1.list_extend_list_list_0 l aT.toArray n b qJ.toArray n2 U2 (by rw [cq];omega) ∅) ⟨e,e2,?_⟩
 refine⟨.gF,_,I.Mj (tQ:=aT++qJ) hH e 90 (r.append r2) ?_,rfl,q⟩;rw [bp];omega
def YM:V->84->502:=λx vs H Q=>∃l xs y,x=.ref l/\vs=[]/\H l=500/\xs[xs.length - 1]?=some y/\Q y (upd H l (.lst xs.dropLast))
def P4:Wl X "list.pop" YM:=by
 intro ag s σ H x vs v us Q I rx rv h;obtain⟨l,xs,y,rfl,rfl,hH,hy,q⟩:=h;cases rx;have Qr:=rv.zero;subst Qr;obtain⟨z,aT,n,r,hl,e⟩:=I.z9 hH;obtain⟨u,hu,ru⟩:=r.get hy;have N0:aT.toArray[aT.toArray.size - 1]?=some u:=by
  show aT.toArray[aT.length - 1]?=some u;rw [<-mh,<-hl];exact hu
 refine call_meets F.slot_list_pop ⟨_,e,rfl⟩ F.entry_list_pop (F.args_list_pop_1 _) (MeetsSeq.list_pop_last l aT.toArray n u N0 (by rw [cq];omega)) ⟨e,?_⟩;refine⟨y,_,I.Mj (tQ:=aT.dropLast) hH e ?_ r.dropLast ?_,ru,q⟩
 .show aT.toArray.eraseIdxIfInBounds (aT.toArray.size - 1)=aT.dropLast.toArray;rw [cq,List.eraseIdxIfInBounds_toArray,De]
 rw [List.length_dropLast];omega
def YQ:R2:=λx y H Q=>XC2 (λl xs=>H l=500) x y λxs zs=>∀p,H p=none->Q (.ref p) (upd H p (.lst (xs++zs)))
def PN:wQ X (binaryOp .Add) YQ:=by
 intro ag s σ H x y v u Q I rx ry h;obtain⟨l,b,xs,zs,rfl,rfl,hH,hB,hz,q⟩:=h;cases rx;cases ry;obtain⟨z,aT,n,r,hl,e⟩:=I.z9 hH;obtain⟨z2,qJ,n2,r2,uY,e2⟩:=I.z9 hB;refine PySem.P.add_list e e2 ?_ (by rw [cq,cq];omega);have ea:aT.toArray++qJ.toArray=(aT++qJ).toArray:=58
 rw [ea];exact⟨.ref _,_,I.Zt (t':=s.toks) (r.append r2) (642),rfl,q _ I.fresh⟩
end
section
variable {prog:Program}{w:World}{A:Around}{E:z0b}{s:Shared}
end
section
variable {X:Cx}
end
end L2
namespace Nk
open PySem PySem.W PySem.Calls PyProof.Rows
def qK {P:Params}{h:Heap}:∀(ns:z0u)(vs:z0m),WellAll P h vs (ns.map WData.int)->IntsAre vs ns:=by
 intro ns
 induction ns with
 | nil =>
  intro vs w;rw [kP] at w;cases w;exact .nil
 | cons n ns ih =>
  intro vs w;rw [bN] at w;cases w with
  | cons a b =>
   cases a;exact .cons _ _ (ih _ b)
def Fm {l:OpenLaw}{n:Nat}(hn:l.most=some n){P:Params}{h:Heap}{args:List WData}{vals:z0m}
  (Mx:l.row.toRowW.claim.pre args=true)(ZO:WellAll P h vals args) :
  ∃a vs ns,vals=[Value.ref a]/\args=[WData.list (ns.map WData.int)]/\h.get? a=some 839/\IntsAre vs ns/\ns.length<=n:=by
 have hsh:WShape.hasAll [] args [.list .int]=true:=(pre_splitW Mx).1;have hc:l.pre.holds [] { args:=args }=true:=(pre_splitW Mx).2;obtain⟨d,r,rfl,h1,h2⟩:=hasAllW_cons hsh;obtain rfl:=hasAllW_nil h2;obtain⟨xs,rfl,h3⟩:=hasW_list h1;obtain⟨ns,rfl⟩:=items_int h3;have bE:ns.length<=n:=by
  unfold OpenLaw.pre at hc;have h4:(WTm.not (.lt (.lit (.int (n:Int))) (.len (.arg 0)))).holds [] { args:=[.list (ns.map .int)] }=true:=by
   have h4:=(holds_andW hc).1;rw [hn] at h4;exact h4
  have h5:=condW_of h4 (w_not (w_lt w_lit (w_len_list (w_arg rfl))));rw [ay] at h5;refine Nat.le_of_not_lt λq=>?_;have q':(n:Int) < ((ns.length:Nat):Int):=121
  first
   | (rw [dS q'] at h5;exact absurd h5 nofun)
   | (simp at h5;omega)
 cases ZO with
 | cons w1 w2 =>
  cases w2;cases w1 with
  | list ho jM=>exact⟨_,_,ns,rfl,rfl,ho,qK ns _ jM,bE⟩
def Ft (l:OpenLaw)(args:List WData):l.row.toRowW.claim.post args (.bool true) args=true :=
 postW_of (r:=l.row.toRowW) (X:=(true == true))
  (show WShape.has [] (.bool true) .bool=true by first | rfl | decide | simp [WShape.has,WShape.arms,WShape.armsAll])
  (show (WTm.eq .res (.lit (.bool true))).value [] { args:=args,res:=624,after:=args }=some (.bool (true == true)) from w_eq_bool (w_res rfl) w_lit) rfl
def AI {l:OpenLaw}{n:Nat}{q:Program}{loose:z0t}{XP:z0c->Heap->Prop}{YP:World->Heap->Prop}{d:DefRec}
  (hn:l.most=some n)(Vd:d.params.defaults=[])
  (call:∀(w:World)(s₀ s₁:Shared)(mg mb:z0c)(fa:Addr)(o:Obj)(pm cd doc:Value)(a:Addr)(vs:z0m)(ns:z0u),
   Ground q loose [] XP w s₀ mg mb s₁.heap->YP w s₁.heap ->
   s₁.heap.get? fa=65->o.data=.func (docDef d.name d.params d.body d.scope pm cd doc)->s₁.heap.CodeRec cd d.name->mg d.name=some (.ref fa) ->
   s₁.heap.get? a=some 839->IntsAre vs ns->ns.length<=n->s₁.gens=#[] ->
   codeAny (model l.prog w) callerA (.call (.ref fa) ⟨[91],[]⟩) 873 s₁) :
  WalkO q loose XP YP l.row.toRowW d [] (λf vs=>PySem.call f vs):=by
 intro w s₀ s₁ mg mb G Y fa o pm cd doc dV kV ho hd wc hD U1 hg args vals as Mx aa8 hrd ZO QB;obtain rfl:dV=.none:=Dflts.none hD Vd;obtain rfl:kV=.none:=Dflts.noKw hD;obtain⟨a,vs,ns,rfl,rfl,Qx,hints,bE⟩:=Fm hn Mx ZO;refine enter_call (o_ (call w s₀ s₁ mg mb fa o pm cd doc a vs ns G Y ho (fd_plain hd) wc U1 Qx hints bE hg) λr s' hq=>?_);obtain⟨rfl,h2,h3,h4⟩:=hq;exact⟨.inl ⟨.bool true,.bool true,[],rfl,λ_=>rfl,.bool true,Ft l _,λ_=>⟨List.Pairwise.nil,λ_ hm=>(nomatch hm)⟩⟩,h2,h3,h4⟩
section
variable {prog:Program}{w:World}{A:Around}{E:z0b}{s:Shared}{K:Frag}
def tJ (h:Heap):Heap:={ h with objs:=#[] }
def ni (h:Heap)(b:Addr):(tJ h).get? b=none:=by
 cases e:(tJ h).get? b with
 | none=>rfl
 | some o=>exact absurd (aV e) (Nat.not_lt_zero _)
def ledger (h:Heap)(L d:Addr):z0e:=(List.range h.objs.size).filterMap λa=>if a=L\/a=d then none else (h.get? a).map λo=>(a,o)
def j7 {h:Heap}{L d a:Addr}{o:Obj}:(a,o)∈ledger h L d↔a≠L/\a≠d/\h.get? a=65:=by
 unfold ledger;rw [rR];constructor
 .rintro⟨b,_,e⟩
  split at e
  .cases e
  rename_i hb
  obtain⟨o',ho,e'⟩:=cH.mp e;cases e';exact⟨λq=>hb (.inl q),λq=>hb (.inr q),ho⟩
 rintro⟨n1,n2,ho⟩;refine⟨a,cb.mpr (aV ho),?_⟩;rw [aq (show ¬(a=L\/a=d) from λq=>q.elim n1 n2),ho] <;> rfl
def zW {h:Heap}{L d:Addr}{od:Obj}(p_:d≠L)(ho:h.get? d=some od):News (tJ h) L h ([]++(d,od)::ledger h L d):=by
 rintro⟨a,o⟩ hp;rcases a_.mp hp with e | hp
 .cases e;exact⟨ho,p_,ni _ _⟩
 obtain⟨n1,n2,e⟩:=j7.mp hp;exact⟨e,n1,ni _ _⟩
def QV {h:Heap}{L:Addr}{m:z0c}(n:h.Ns L m):Fr (tJ h) L h m :=
 ⟨n,λb o e=>(by rw [ni] at e;cases e),cV _⟩
end
end Nk
namespace L2
open PySem PySem.Spec PyProof.Rows
theorem vB:∀{vs:z0m}{ns:z0u},IntsAre vs ns->bq (ns.map V.int) vs
 | _,_,.nil=>.nil
 | _,_,.cons n t h=>.cons ⟨t,rfl⟩ (vB h)
def cZ (s:Stmt):Arguments:=match s with
 | .FunctionDef _ a _ _ _ _ _ _ _ _=>a
 | _=>{ posonlyargs:=[],args:=[],vararg:=none,kwonlyargs:=[],kw_defaults:=[],kwarg:=none,defaults:=[] }
def b9 (s:Stmt):z0s:=match s with
 | .FunctionDef _ _ b _ _ _ _ _ _ _=>b
 | _=>[]
def ax (s:Stmt):Scope:=match s with
 | .FunctionDef _ _ _ _ _ _ sc _ _ _=>sc
 | _=>{ kind:=.function,names:=[],isGenerator:=false,isCoroutine:=false }
abbrev gb:Bh:=λ_ _ _ _ _ _=>False
abbrev E0:XK:=λ_ _ _=>False
def mq {X:Cx}:Passes gb X E0:=λ_ _ _ _ _ _ _ h=>h.elim
structure jo (K:aY)(x qual:Str)(st:Stmt)(f:Addr)(fd:FuncData):Prop where
 ex:∃(oc:Value)(od:z0l)(kV doc pm:Value)(an:z0l)(eC ct:Value)(yp:z0a),
  fd=814/\K.lookup f=some ⟨oc,od,.func fd,yp⟩/\PySem.W.codeIn K eC qual=true
 kp:769
section
variable {P:Program}{w:World}{K:aY}{mg:z0c}{base:Heap}
def jo.ok {x qual:Str}{st:Stmt}{f:Addr}{fd:FuncData}{N ps:z0t}{k:Nat}{sp:Sp}(F:jo K x qual st f fd)(S:aM N ps (ax st))(len:783)
  (i5:∀(eC:Value)(A:Around)(outer:List Env)(s:Shared)(H:Hp)(vs:84)(Q:VK)(E:XK),ft k (A.deeper (envOfC qual (ax st) s.heap.objs.size f eC))->sp vs H Q E ->
   ∃t,yX (ip gb P w K mg base N qual (ax st) f eC A outer s H E).Mb (b9 st) t/\836):bO P w K mg base gb (k+1) f fd ps sp:=by
 obtain⟨oc,od,kV,doc,pm,an,eC,ct,yp,rfl,lk,wc⟩:=F.ex;refine EL lk wc S len λA outer s H vs Q E hr EE=>?_;obtain⟨t,h,q⟩:=i5 eC A outer s H vs Q E hr EE;exact⟨t,h.Mb,q⟩
def jo.binds {x qual:Str}{st:Stmt}{f:Addr}{fd:FuncData}{ps:z0t}(F:jo K x qual st f fd)
  (h:894):Binds K fd ps []:=by
 obtain⟨oc,od,kV,doc,pm,an,eC,ct,yp,rfl,lk,wc⟩:=F.ex;exact .all (h kV doc pm an eC ct)
def Kb {x qual:Str}{st:Stmt}{f:Addr}{oc:Value}{od an:z0l}{yp:z0a}{kV doc pm eC ct:Value}(l:K.lookup f=some ⟨oc,od,.func 856,yp⟩)
  (c:PySem.W.codeIn K eC qual=true)(k:769):jo K x qual st f 856:=⟨⟨oc,od,kV,doc,pm,an,eC,ct,yp,rfl,l,c⟩,k⟩
end
def fc {A:Around}{k:Nat}(hr:ft k A):A.units+1 < cLine:=rS (Nat.add_le_add_left (by decide:1<=64) _) hr.units
section
variable {X:Cx}
def pv (i:Nat){x:Str}{pos:Pos}(hN:X.N[i]?=some x:=by rfl)(hv:XI X.env.scope x:=by first | exact Or.inl rfl | exact Or.inr 68 | exact Or.inr (Or.inr rfl))(hd:589:=by decide)
  (wc:(x == ("__classdict__":Str))=false:=by decide):PE X (.Name x pos) (hU i):=Pz hN hv hd wc
end
def kI {A B:Prop}(h:B):if false=true then A else B:=by
 rw [aq fg];exact h
def tR {A B:Prop}(h:A):if true=true then A else B:=by
 rw [ar rfl];exact h
def fO {c A B:Prop} [Decidable c] (h1:c->A)(h2:¬c->B):if c then A else B:=by
 by_cases h:c
 .rw [ar h];exact h1 h
 rw [aq h];exact h2 h
def aD (H H':Hp):Prop:=∀b o,H b=65->H' b=65
def aD.refl (H:Hp):aD H H:=λ_ _ h=>h
def aD.trans {H H1 H2:Hp}(a:aD H H1)(b:aD H1 H2):aD H H2:=λc o h=>b c o (a c o h)
def aD.free {H H':Hp}(e:147){l:Addr}(h:H' l=Option.none):H l=Option.none:=by
 cases q:H l with
 | none=>rfl
 | some o =>
  rw [e l o q] at h;cases h
def aD.seq {K:aY}{H H':Hp}{a:Addr}{xs:84}(e:147)(h:aX K H a xs):aX K H' a xs:=by
 rcases h with (h | ⟨o,h⟩) | h
 .exact .inl (.inl (e _ _ h))
 .exact .inl (.inr ⟨o,e _ _ h⟩)
 exact .inr h
end L2
namespace HD
open PySem PySem.W
def Ii (st:SharedT->Thread->Option (SharedT×Thread))(ok:Thread->Bool):Nat->SharedT->Thread->Option SharedT
 | 0,_,_=>none
 | n+1,s,t=>match through t with
  | true=>some s
  | false=>match ok t with
   | false=>none
   | true=>match st s t with
    | some (s',t')=>Ii st ok n s' t'
    | none=>none
theorem D0 {tb:String->Option Builtin}{p:Program}{w:World}{n₀:Nat}{ann:z0j}:∀{n:Nat}{s s':SharedT}{t:Thread},Ii (stepT (denote tb) p w) (stepOk n₀ ann) n s t=some s'->topRun tb p w n₀ ann n s.abs t=some s'.abs
 | 0,_,_,_,h=>by cases h
 | n+1,s,s',t,h=>by
  unfold Ii at h;unfold topRun;cases he:through t with
  | true=>rw [he] at h;cases h;rfl
  | false =>
   rw [he] at h;cases hk:stepOk n₀ ann t with
   | false=>rw [hk] at h;cases h
   | true =>
    rw [hk] at h;cases hs:stepT (denote tb) p w s t with
    | none=>rw [hs] at h;cases h
    | some r=>obtain⟨s₂,t₂⟩:=r;rw [hs] at h;rw [stepT_spec hs];exact D0 h
def ofL:List Obj->Nat->BT->BT
 | [],_,t=>t
 | o::r,i,t=>ofL r (i+1) (t.ins i o)
noncomputable def EX (P:Params):BT:=ofL (boot_heap P).objs.toList 0 .nil
def GK (P:Params):absHeap (EX P) 11 {}=boot_heap P:=559
def QW {β:Type}:Obj->(Obj->β)->β
 | ⟨c,d,t,s⟩,k=>k ⟨c,d,t,s⟩
def rh {β:Type}:List Obj->(List Obj->β)->β
 | [],k=>k []
 | x::r,k=>QW x λy=>rh r λys=>k (y::ys)
theorem tZ {β:Type}:∀(l:List Obj)(k:List Obj->β),rh l k=k l
 | [],_=>rfl
 | ⟨c,d,t,s⟩::r,k=>by
  show rh r (λys=>k (⟨c,d,t,s⟩::ys))=_;rw [tZ r]
def Jr (p q:Program) (loose:z0t)(Xt:Shared->Bool){α:Type}(Yf:Shared->α)(g0:Bool)(h₀:Heap)(s:Shared) :=
 ((staticsOk (importedModules p.main.body) h₀ s.heap && namesBound p s.heap && gensDone s && laidKept h₀ s.heap),openSeen q loose (importedModules p.main.body) Xt g0 s,Yf s)
def HY {β:Type}(f:Shared->β)(s:SharedT):β:=rh (s.tree.list s.n) λl=>f ⟨⟨l.toArray,s.life⟩,s.gens,s.drawn,s.toks,s.os⟩
def HW {β:Type}(f:Shared->β)(s:SharedT):HY f s=f s.abs:=tZ _ _
def Us {p q:Program}{loose:z0t}{Xt:Shared->Bool}{α:Type}{Yf:Shared->α}{Ya:World->α}{N:Nat}{g0:Bool}{ann:z0j}{M:Nat}
  (IV:∀w:World,(fencedOpening treeTable p w N).map (λs=>(s.heap,s.gens,s.drawn,s.toks))=some (599,Array.mk [],boot_drawn,boot_toks))
  (size:∀w:World,((599).isNs mainGlobals && (Array.mk []:Array GenState).size == 0,(599).objs.size,(599).nsMap mainGlobals "__annotations__")=(true,11,ann))
  (run:∀(w:World)(os:OsState),(Ii (stepT (denote treeTable) p w) (stepOk 11 ann) M ⟨EX w.params,11,{},Array.mk [],boot_drawn,boot_toks,os⟩ (topStub p)).map (HY (Jr p q loose Xt Yf g0 (599)))=some (true,openGood q loose,Ya w))
  (le:Nat.ble M N=true):LeftO p q loose Xt Yf Ya N g0:=λw=>by
 obtain⟨⟨h,gs,d,k,os⟩,e,e'⟩:=cH.mp (IV w);obtain⟨rfl,rfl,rfl,rfl⟩:h=599/\gs=Array.mk []/\d=boot_drawn/\k=boot_toks:=by simpa using e'
 obtain⟨z1,z2,z3⟩:_/\_/\_:=by simpa only [jT] using size w
 obtain⟨s',r0,l0⟩:=cH.mp (run w os);rw [HW] at l0;obtain⟨l1,l2,l3⟩:_/\_/\_:=by simpa only [Jr,jT] using l0
 have r:=D0 r0;have ea:SharedT.abs ⟨EX w.params,11,{},Array.mk [],boot_drawn,boot_toks,os⟩=⟨599,Array.mk [],boot_drawn,boot_toks,os⟩:=by
  unfold SharedT.abs;rw [GK]
 rw [ea] at r;have r:=topRun_mono (N - M) _ _ _ _ r;rw [show M+(N - M)=N by have:=Nat.le_of_ble_eq_true le;omega] at r;have t:topFrom treeTable p w N ⟨599,Array.mk [],boot_drawn,boot_toks,os⟩=some s'.abs:=by
  unfold topFrom;dsimp only;rw [z1,z2,z3,r];show (match staticsOk (importedModules p.main.body) (599) s'.abs.heap && namesBound p s'.abs.heap && gensDone s'.abs && laidKept (599) s'.abs.heap with | true=>_ | false=>_)=_
  rw [l1]
 unfold openEnds;rw [e];show (topFrom treeTable p w N _).map _=_;rw [t];exact congrArg some (bV l2 l3)
end HD
set_option maxHeartbeats 0
namespace HD
open PySem PySem.W L2 PySem.Challenge
def dE (P:Params)(x:Str)(t:Tok)(v:Value):DictEntry:=⟨PyData.keyHash P x,.str x t,v⟩
def top (p:Program) (i:Nat):Stmt:=p.main.body.getD i (.Pass ⟨0,0,0,0⟩)
def jv (p:Program) (i j:Nat):Stmt:=match top p i with
 | .ClassDef _ _ _ body _ _ _ _ _ _ _=>body.getD j (.Pass ⟨0,0,0,0⟩)
 | _=>.Pass ⟨0,0,0,0⟩
def posOf (s:Stmt):Pos:=match s with
 | .FunctionDef _ _ _ _ _ _ _ _ _ p=>p
 | _=>⟨0,0,0,0⟩
def cF (a:Addr)(n q:Str)(i:Nat)(l m:Int)(x y:Addr)(u v s t:Value)(z:Int)(w:Nat):Addr×Obj:=(a,⟨.type "code",none,.fields #[.str n i,.str q (i+1),.str "/claim/cut.py" (i+2),.int l 0,.int m 0,.int 0 0,.int 0 0,.int 3 0,.ref x,.bool true,.int 181 0,.ref y,u,v,s,t,.int z 0,.int l 0,.str "/claim/cut.py" w],#[]⟩)
def fF (a:Addr)(n q:Str)(s:Stmt)(m:Value):Addr×Obj:=(a,⟨.type "function",none,.func (fnOf n q (cZ s) (b9 s) (ax s) .none .none .none m none (.ref (a-1)) .none),#[]⟩)
def dR (P:Params)(x:Str)(t:Tok)(a:Addr):DictEntry:=dE P x t 475
def m0:Value:=.str "__main__" 164
def m1:Value:=688
def m2:Value:=.str "wright.rules" 396
def m3:Value:=.str "wright.places" 428
def m4:Value:=.str "wright.rooms" 465
def m5:Value:=.str "wright.begin_tables" 506
def m6:Value:=.str "wright.loops" 601
def m7:Value:=.str "wright.tree_sizes" 631
def m8:Value:=.str "wright.grammar_faults" 652
def m9:Value:=.str "wright.least_trees" 679
def m10:Value:=.str "wright.grammars" 765
def NP:Value:=.str "law_wright_k41_too_many_rooms" 808
noncomputable def K' (p:Program)(P:Params):Frag:=[
 (2,⟨.none,none,.dict #[] 0,#[]⟩),
 (3,⟨564,none,.dict #[dE P "__name__" 165 (.str "law_wright_k41_too_many_rooms" 808),dE P "__doc__" 166 (.none),dE P "__package__" 167 (.none),dE P "__loader__" 168 (.builtin "__main__.__loader__#opaque"),dE P "__spec__" 169 (.none),dR P "__annotations__" 170 6,dR P "__builtins__" 171 4,dE P "__file__" 173 (.str "/claim/cut.py" 172),dE P "__cached__" 174 (.none),dR P "_wall" 193 21,dR P "WrightError" 213 31,dR P "NoRow" 238 51,dR P "NoRules" 254 63,dR P "Twice" 279 82,dR P "Endless" 304 101,dR P "Unmet" 329 120,dR P "Loop" 354 139,dR P "Vast" 379 158,dR P "TooMany" 395 170,dR P "heads_of" 403 177,dR P "words_in" 409 182,dR P "numbers_by_name" 415 187,dR P "standings_by_part" 427 194,dR P "part_at" 438 201,dR P "parts_of" 446 208,dR P "closed_list" 452 213,dR P "texts_behind" 464 220,dE P "MOST_ROOMS" 468 (.int (120) 467),dE P "MOST_PLACES" 470 (.int (300) 469),dR P "rooms_of" 485 227,dR P "closed_room" 494 234,dR P "moved_by_part" 505 241,dR P "found_empties" 513 246,dR P "first_places" 524 253,dR P "BeginTable" 600 301,dR P "find_loop" 608 310,dR P "steps_with_like_rows" 614 315,dR P "way_back" 630 322,dR P "least_sizes" 638 327,dR P "greatest_empty_sizes" 645 334,dR P "settled_sizes" 651 339,dE P "MOST_RULES" 655 (.int (60) 654),dR P "refuse_faults" 661 344,dR P "refuse_twice" 672 351,dR P "names_met" 678 356,dR P "least_by_part" 686 361,dR P "rule_size" 692 366,dR P "empty_by_name" 698 371,dR P "LeastTrees" 764 414,dR P "Grammar" 807 443,dR P "_law_cell_at" 817 454,dR P "_law_apart" 823 459,dR P "_law_itself" 829 464,dR P "law" 842 471] 54,#[]⟩),
 (cF 20 "_wall" "_wall" 187 1 1 15 16 .none (.ref 17) (.ref 18) (.ref 19) 191 192),
 (fF 21 "_wall" "_wall" (top p 0) m0),
 (30,⟨564,none,.dict #[dE P "__module__" 203 718,dE P "__firstlineno__" 207 (.int (5) 206),dR P "__static_attributes__" 208 29,dR P "__weakref__" 210 32,dE P "__doc__" 211 (.none)] 3,#[]⟩),
 (31,⟨.type "type",none,.cls ⟨"WrightError",[581],[.ref 31,581,.type "Exception",592,557],30,"WrightError",true,[],[.ref 51,.ref 63,.ref 82,.ref 101,.ref 120,.ref 139,.ref 158,.ref 170],false,none,false⟩,#[some (.ref 22),none,some (.str "WrightError" 196),some (.str "WrightError" 204),704,624]⟩),
 (32,⟨.type "getset_descriptor",none,.fields #[.str "__weakref__" 209,.ref 31,.builtin "ExceptionGroup.__weakref__",.none],#[]⟩),
 (cF 47 "__init__" "NoRow.__init__" 226 9 2 42 43 .none (.ref 44) (.ref 45) (.ref 46) 231 232),
 (fF 48 "__init__" "NoRow.__init__" (jv p 3 0) m1),
 (50,⟨564,none,.dict #[dE P "__module__" 221 718,dE P "__firstlineno__" 225 (.int (7) 224),dR P "__init__" 233 48,dR P "__static_attributes__" 235 49,dE P "__doc__" 236 (.none)] 2,#[]⟩),
 (51,⟨.type "type",none,.cls ⟨"NoRow",[.ref 31],[.ref 51,.ref 31,581,.type "Exception",592,557],50,"NoRow",true,[],[],false,none,false⟩,#[some (.ref 35),none,some (.str "NoRow" 214),some (.str "NoRow" 222),704,624]⟩),
 (62,⟨564,none,.dict #[dE P "__module__" 246 718,dE P "__firstlineno__" 250 (.int (12) 249),dR P "__static_attributes__" 251 61,dE P "__doc__" 252 (.none)] 2,#[]⟩),
 (63,⟨.type "type",none,.cls ⟨"NoRules",[.ref 31],[.ref 63,.ref 31,581,.type "Exception",592,557],62,"NoRules",true,[],[],false,none,false⟩,#[some (.ref 54),none,some (.str "NoRules" 239),some (.str "NoRules" 247),704,624]⟩),
 (cF 78 "__init__" "Twice.__init__" 267 16 2 73 74 .none (.ref 75) (.ref 76) (.ref 77) 272 273),
 (fF 79 "__init__" "Twice.__init__" (jv p 5 0) m1),
 (81,⟨564,none,.dict #[dE P "__module__" 262 718,dE P "__firstlineno__" 266 (.int (14) 265),dR P "__init__" 274 79,dR P "__static_attributes__" 276 80,dE P "__doc__" 277 (.none)] 2,#[]⟩),
 (82,⟨.type "type",none,.cls ⟨"Twice",[.ref 31],[.ref 82,.ref 31,581,.type "Exception",592,557],81,"Twice",true,[],[],false,none,false⟩,#[some (.ref 66),none,some (.str "Twice" 255),some (.str "Twice" 263),704,624]⟩),
 (cF 97 "__init__" "Endless.__init__" 292 21 2 92 93 .none (.ref 94) (.ref 95) (.ref 96) 297 298),
 (fF 98 "__init__" "Endless.__init__" (jv p 6 0) m1),
 (100,⟨564,none,.dict #[dE P "__module__" 287 718,dE P "__firstlineno__" 291 (.int (19) 290),dR P "__init__" 299 98,dR P "__static_attributes__" 301 99,dE P "__doc__" 302 (.none)] 2,#[]⟩),
 (101,⟨.type "type",none,.cls ⟨"Endless",[.ref 31],[.ref 101,.ref 31,581,.type "Exception",592,557],100,"Endless",true,[],[],false,none,false⟩,#[some (.ref 85),none,some (.str "Endless" 280),some (.str "Endless" 288),704,624]⟩),
 (cF 116 "__init__" "Unmet.__init__" 317 26 2 111 112 .none (.ref 113) (.ref 114) (.ref 115) 322 323),
 (fF 117 "__init__" "Unmet.__init__" (jv p 7 0) m1),
 (119,⟨564,none,.dict #[dE P "__module__" 312 718,dE P "__firstlineno__" 316 (.int (24) 315),dR P "__init__" 324 117,dR P "__static_attributes__" 326 118,dE P "__doc__" 327 (.none)] 2,#[]⟩),
 (120,⟨.type "type",none,.cls ⟨"Unmet",[.ref 31],[.ref 120,.ref 31,581,.type "Exception",592,557],119,"Unmet",true,[],[],false,none,false⟩,#[some (.ref 104),none,some (.str "Unmet" 305),some (.str "Unmet" 313),704,624]⟩),
 (cF 135 "__init__" "Loop.__init__" 342 31 2 130 131 .none (.ref 132) (.ref 133) (.ref 134) 347 348),
 (fF 136 "__init__" "Loop.__init__" (jv p 8 0) m1),
 (138,⟨564,none,.dict #[dE P "__module__" 337 718,dE P "__firstlineno__" 341 (.int (29) 340),dR P "__init__" 349 136,dR P "__static_attributes__" 351 137,dE P "__doc__" 352 (.none)] 2,#[]⟩),
 (139,⟨.type "type",none,.cls ⟨"Loop",[.ref 31],[.ref 139,.ref 31,581,.type "Exception",592,557],138,"Loop",true,[],[],false,none,false⟩,#[some (.ref 123),none,some (.str "Loop" 330),some (.str "Loop" 338),704,624]⟩),
 (cF 154 "__init__" "Vast.__init__" 367 36 2 149 150 .none (.ref 151) (.ref 152) (.ref 153) 372 373),
 (fF 155 "__init__" "Vast.__init__" (jv p 9 0) m1),
 (157,⟨564,none,.dict #[dE P "__module__" 362 718,dE P "__firstlineno__" 366 (.int (34) 365),dR P "__init__" 374 155,dR P "__static_attributes__" 376 156,dE P "__doc__" 377 (.none)] 2,#[]⟩),
 (158,⟨.type "type",none,.cls ⟨"Vast",[.ref 31],[.ref 158,.ref 31,581,.type "Exception",592,557],157,"Vast",true,[],[],false,none,false⟩,#[some (.ref 142),none,some (.str "Vast" 355),some (.str "Vast" 363),704,624]⟩),
 (169,⟨564,none,.dict #[dE P "__module__" 387 718,dE P "__firstlineno__" 391 (.int (39) 390),dR P "__static_attributes__" 392 168,dE P "__doc__" 393 (.none)] 2,#[]⟩),
 (170,⟨.type "type",none,.cls ⟨"TooMany",[.ref 31],[.ref 170,.ref 31,581,.type "Exception",592,557],169,"TooMany",true,[],[],false,none,false⟩,#[some (.ref 161),none,some (.str "TooMany" 380),some (.str "TooMany" 388),704,624]⟩),
 (cF 176 "heads_of" "heads_of" 398 42 1 173 174 .none .none .none (.ref 175) 401 402),
 (fF 177 "heads_of" "heads_of" (top p 12) m2),
 (cF 181 "words_in" "words_in" 404 44 1 178 179 .none .none .none (.ref 180) 407 408),
 (fF 182 "words_in" "words_in" (top p 13) m2),
 (cF 186 "numbers_by_name" "numbers_by_name" 410 52 1 183 184 .none .none .none (.ref 185) 413 414),
 (fF 187 "numbers_by_name" "numbers_by_name" (top p 14) m2),
 (cF 193 "standings_by_part" "standings_by_part" 416 57 1 188 189 .none (.ref 190) (.ref 191) (.ref 192) 425 426),
 (fF 194 "standings_by_part" "standings_by_part" (top p 15) m2),
 (cF 200 "part_at" "part_at" 430 64 2 195 196 .none (.ref 197) (.ref 198) (.ref 199) 436 437),
 (fF 201 "part_at" "part_at" (top p 17) m3),
 (cF 207 "parts_of" "parts_of" 439 67 2 202 203 .none (.ref 204) (.ref 205) (.ref 206) 444 445),
 (fF 208 "parts_of" "parts_of" (top p 18) m3),
 (cF 212 "closed_list" "closed_list" 447 69 2 209 210 .none .none .none (.ref 211) 450 451),
 (fF 213 "closed_list" "closed_list" (top p 19) m3),
 (cF 219 "texts_behind" "texts_behind" 453 83 3 214 215 .none (.ref 216) (.ref 217) (.ref 218) 462 463),
 (fF 220 "texts_behind" "texts_behind" (top p 20) m3),
 (cF 226 "rooms_of" "rooms_of" 471 94 1 221 222 .none (.ref 223) (.ref 224) (.ref 225) 483 484),
 (fF 227 "rooms_of" "rooms_of" (top p 24) m4),
 (cF 233 "closed_room" "closed_room" 486 112 2 228 229 .none (.ref 230) (.ref 231) (.ref 232) 492 493),
 (fF 234 "closed_room" "closed_room" (top p 25) m4),
 (cF 240 "moved_by_part" "moved_by_part" 495 117 2 235 236 .none (.ref 237) (.ref 238) (.ref 239) 503 504),
 (fF 241 "moved_by_part" "moved_by_part" (top p 26) m4),
 (cF 245 "found_empties" "found_empties" 508 125 1 242 243 .none .none .none (.ref 244) 511 512),
 (fF 246 "found_empties" "found_empties" (top p 28) m5),
 (cF 252 "first_places" "first_places" 514 136 2 247 248 .none (.ref 249) (.ref 250) (.ref 251) 522 523),
 (fF 253 "first_places" "first_places" (top p 29) m5),
 (cF 264 "__init__" "BeginTable.__init__" 537 145 2 261 262 .none .none .none (.ref 263) 540 541),
 (fF 265 "__init__" "BeginTable.__init__" (jv p 30 0) m5),
 (cF 271 "find_begins" "BeginTable.find_begins" 543 156 3 266 267 .none (.ref 268) (.ref 269) (.ref 270) 552 553),
 (fF 272 "find_begins" "BeginTable.find_begins" (jv p 30 1) m5),
 (cF 278 "words_of_part" "BeginTable.words_of_part" 555 164 2 273 274 .none (.ref 275) (.ref 276) (.ref 277) 560 561),
 (fF 279 "words_of_part" "BeginTable.words_of_part" (jv p 30 2) m5),
 (cF 285 "first_words" "BeginTable.first_words" 563 167 2 280 281 .none (.ref 282) (.ref 283) (.ref 284) 571 572),
 (fF 286 "first_words" "BeginTable.first_words" (jv p 30 3) m5),
 (cF 290 "all_empty" "BeginTable.all_empty" 574 174 2 287 288 .none .none .none (.ref 289) 577 578),
 (fF 291 "all_empty" "BeginTable.all_empty" (jv p 30 4) m5),
 (cF 297 "words_of_parts" "BeginTable.words_of_parts" 580 177 3 292 293 .none (.ref 294) (.ref 295) (.ref 296) 586 587),
 (fF 298 "words_of_parts" "BeginTable.words_of_parts" (jv p 30 5) m5),
 (300,⟨564,none,.dict #[dE P "__module__" 532 (.str "wright.begin_tables" 506),dE P "__firstlineno__" 536 (.int (143) 535),dR P "__init__" 542 265,dR P "find_begins" 554 272,dR P "words_of_part" 562 279,dR P "first_words" 573 286,dR P "all_empty" 579 291,dR P "words_of_parts" 588 298,dR P "__static_attributes__" 593 299,dR P "__dict__" 595 302,dR P "__weakref__" 597 303,dE P "__doc__" 598 (.none)] 4,#[]⟩),
 (301,⟨.type "type",none,.cls ⟨"BeginTable",[557],[.ref 301,557],300,"BeginTable",true,[],[],false,none,false⟩,#[none,none,some (.str "BeginTable" 525),some (.str "BeginTable" 533),some (.builtin "object.__new__"),624]⟩),
 (302,⟨.type "getset_descriptor",none,.fields #[.str "__dict__" 594,.ref 301,.builtin "function.__dict__",.builtin "function.__dict__#set"],#[]⟩),
 (303,⟨.type "getset_descriptor",none,.fields #[.str "__weakref__" 596,.ref 301,.builtin "ExceptionGroup.__weakref__",.none],#[]⟩),
 (cF 309 "find_loop" "find_loop" 603 180 1 306 307 .none .none .none (.ref 308) 606 607),
 (fF 310 "find_loop" "find_loop" (top p 32) m6),
 (cF 314 "steps_with_like_rows" "steps_with_like_rows" 609 184 1 311 312 .none .none .none (.ref 313) 612 613),
 (fF 315 "steps_with_like_rows" "steps_with_like_rows" (top p 33) m6),
 (cF 321 "way_back" "way_back" 615 193 3 316 317 .none (.ref 318) (.ref 319) (.ref 320) 628 629),
 (fF 322 "way_back" "way_back" (top p 34) m6),
 (cF 326 "least_sizes" "least_sizes" 633 209 1 323 324 .none .none .none (.ref 325) 636 637),
 (fF 327 "least_sizes" "least_sizes" (top p 36) m7),
 (cF 333 "greatest_empty_sizes" "greatest_empty_sizes" 639 211 1 328 329 .none (.ref 330) (.ref 331) (.ref 332) 643 644),
 (fF 334 "greatest_empty_sizes" "greatest_empty_sizes" (top p 37) m7),
 (cF 338 "settled_sizes" "settled_sizes" 646 213 3 335 336 .none .none .none (.ref 337) 649 650),
 (fF 339 "settled_sizes" "settled_sizes" (top p 38) m7),
 (cF 343 "refuse_faults" "refuse_faults" 656 226 2 340 341 .none .none .none (.ref 342) 659 660),
 (fF 344 "refuse_faults" "refuse_faults" (top p 41) m8),
 (cF 350 "refuse_twice" "refuse_twice" 662 245 1 345 346 .none (.ref 347) (.ref 348) (.ref 349) 670 671),
 (fF 351 "refuse_twice" "refuse_twice" (top p 42) m8),
 (cF 355 "names_met" "names_met" 673 252 1 352 353 .none .none .none (.ref 354) 676 677),
 (fF 356 "names_met" "names_met" (top p 43) m8),
 (cF 360 "least_by_part" "least_by_part" 681 262 1 357 358 .none .none .none (.ref 359) 684 685),
 (fF 361 "least_by_part" "least_by_part" (top p 45) m9),
 (cF 365 "rule_size" "rule_size" 687 270 2 362 363 .none .none .none (.ref 364) 690 691),
 (fF 366 "rule_size" "rule_size" (top p 46) m9),
 (cF 370 "empty_by_name" "empty_by_name" 693 272 2 367 368 .none .none .none (.ref 369) 696 697),
 (fF 371 "empty_by_name" "empty_by_name" (top p 47) m9),
 (cF 382 "__init__" "LeastTrees.__init__" 711 279 3 379 380 .none .none .none (.ref 381) 714 715),
 (fF 383 "__init__" "LeastTrees.__init__" (jv p 48 0) m9),
 (cF 389 "least_of" "LeastTrees.least_of" 717 286 2 384 385 .none (.ref 386) (.ref 387) (.ref 388) 722 723),
 (fF 390 "least_of" "LeastTrees.least_of" (jv p 48 1) m9),
 (cF 396 "hollow_of" "LeastTrees.hollow_of" 725 289 2 391 392 .none (.ref 393) (.ref 394) (.ref 395) 730 731),
 (fF 397 "hollow_of" "LeastTrees.hollow_of" (jv p 48 2) m9),
 (cF 403 "begun_place" "LeastTrees.begun_place" 733 292 3 398 399 .none (.ref 400) (.ref 401) (.ref 402) 739 740),
 (fF 404 "begun_place" "LeastTrees.begun_place" (jv p 48 3) m9),
 (cF 410 "begun_of" "LeastTrees.begun_of" 742 295 4 405 406 .none (.ref 407) (.ref 408) (.ref 409) 749 750),
 (fF 411 "begun_of" "LeastTrees.begun_of" (jv p 48 4) m9),
 (413,⟨564,none,.dict #[dE P "__module__" 706 (.str "wright.least_trees" 679),dE P "__firstlineno__" 710 (.int (277) 709),dR P "__init__" 716 383,dR P "least_of" 724 390,dR P "hollow_of" 732 397,dR P "begun_place" 741 404,dR P "begun_of" 751 411,dR P "__static_attributes__" 757 412,dR P "__dict__" 759 415,dR P "__weakref__" 761 416,dE P "__doc__" 762 (.none)] 4,#[]⟩),
 (414,⟨.type "type",none,.cls ⟨"LeastTrees",[557],[.ref 414,557],413,"LeastTrees",true,[],[],false,none,false⟩,#[none,none,some (.str "LeastTrees" 699),some (.str "LeastTrees" 707),some (.builtin "object.__new__"),624]⟩),
 (415,⟨.type "getset_descriptor",none,.fields #[.str "__dict__" 758,.ref 414,.builtin "function.__dict__",.builtin "function.__dict__#set"],#[]⟩),
 (416,⟨.type "getset_descriptor",none,.fields #[.str "__weakref__" 760,.ref 414,.builtin "ExceptionGroup.__weakref__",.none],#[]⟩),
 (426,⟨378,none,.seq #[.none] 0,#[]⟩),
 (cF 432 "__init__" "Grammar.__init__" 779 300 3 427 428 .none (.ref 429) (.ref 430) (.ref 431) 785 786),
 (433,⟨.type "function",none,.func (fnOf "__init__" "Grammar.__init__" (cZ (jv p 50 0)) (b9 (jv p 50 0)) (ax (jv p 50 0)) (.ref 426) (.none) (.none) (.str "wright.grammars" 765) (none) (.ref 432) (.none)),#[]⟩),
 (cF 439 "start" "Grammar.start" 788 308 1 434 435 .none (.ref 436) (.ref 437) (.ref 438) 792 793),
 (fF 440 "start" "Grammar.start" (jv p 50 1) m10),
 (442,⟨564,none,.dict #[dE P "__module__" 774 (.str "wright.grammars" 765),dE P "__firstlineno__" 778 (.int (298) 777),dR P "__init__" 787 433,dR P "start" 794 440,dR P "__static_attributes__" 800 441,dR P "__dict__" 802 444,dR P "__weakref__" 804 445,dE P "__doc__" 805 (.none)] 4,#[]⟩),
 (443,⟨.type "type",none,.cls ⟨"Grammar",[557],[.ref 443,557],442,"Grammar",true,[],[],false,none,false⟩,#[none,none,some (.str "Grammar" 767),some (.str "Grammar" 775),some (.builtin "object.__new__"),624]⟩),
 (444,⟨.type "getset_descriptor",none,.fields #[.str "__dict__" 801,.ref 443,.builtin "function.__dict__",.builtin "function.__dict__#set"],#[]⟩),
 (445,⟨.type "getset_descriptor",none,.fields #[.str "__weakref__" 803,.ref 443,.builtin "ExceptionGroup.__weakref__",.none],#[]⟩),
 (cF 453 "_law_cell_at" "_law_cell_at" 810 311 2 448 449 .none (.ref 450) (.ref 451) (.ref 452) 815 816),
 (fF 454 "_law_cell_at" "_law_cell_at" (top p 52) NP),
 (cF 458 "_law_apart" "_law_apart" 818 315 1 455 456 .none .none .none (.ref 457) 821 822),
 (fF 459 "_law_apart" "_law_apart" (top p 53) NP),
 (cF 463 "_law_itself" "_law_itself" 824 329 1 460 461 .none .none .none (.ref 462) 827 828),
 (fF 464 "_law_itself" "_law_itself" (top p 54) NP),
 (cF 470 "law" "law" 830 335 1 465 466 .none (.ref 467) (.ref 468) (.ref 469) 840 841),
 (fF 471 "law" "law" (top p 55) NP)]
def as:z0q:=[2,3,20,21,30,31,32,47,48,50,51,62,63,78,79,81,82,97,98,100,101,116,117,119,120,135,136,138,139,154,155,157,158,169,170,176,177,181,182,186,187,193,194,200,201,207,208,212,213,219,220,226,227,233,234,240,241,245,246,252,253,264,265,271,272,278,279,285,286,290,291,297,298,300,301,302,303,309,310,314,315,321,322,326,327,333,334,338,339,343,344,350,351,355,356,360,361,365,366,370,371,382,383,389,390,396,397,403,404,410,411,413,414,415,416,426,432,433,439,440,442,443,444,445,453,454,458,459,463,464,470,471]
def q' (p:Program):Program:=view p [0,2,3,4,5,6,7,8,9,10,12,13,14,15,17,18,19,20,22,23,24,25,26,28,29,30,32,33,34,36,37,38,40,41,42,43,45,46,47,48,50,52,53,54,55]
abbrev loose:z0t:=[]
abbrev steps:Nat:=4101
abbrev bound:Nat:=9182
abbrev Ew:OpenLaw:=rw_wright_k41_too_many_rooms
noncomputable abbrev K (P:Params):Frag:=K' pw_wright_k41_too_many_rooms P
theorem V2 (P:Params):as=(K P).map 27:=559
noncomputable abbrev hook:Hook:=kmHook K as V2 [358,329,324]
def O9:Ew.wellSaid=true:=559
def pre (h:Ew.row.wellSaid=true->Ew.row.Holds):Ew.Holds:=holds_law O9 h
abbrev Xt:Shared->Bool:=λs=>xlAt 705 [] s && recOk (RowW.records (OpenRow.toRowW (OpenLaw.row rw_wright_k41_too_many_rooms))) s
def run (w:World)(os:OsState):(Ii (stepT (denote treeTable) pw_wright_k41_too_many_rooms w) (stepOk 11 (some (.ref 6))) steps ⟨EX w.params,11,{},Array.mk [],boot_drawn,boot_toks,os⟩ (topStub pw_wright_k41_too_many_rooms)).map
  (HY (Jr pw_wright_k41_too_many_rooms 705 loose Xt (Hook.obs hook) true (599)))=some (true,openGood 705 loose,Hook.val hook w):=by
 rw [PySem.W.Fast.te10156331382660048174,PySem.W.Fast.te11892475500146522536,PySem.W.Fast.te14364793385576792824,PySem.W.Fast.te6613529449190102663]
 kernel_rfl
theorem size (w:World):((599).isNs mainGlobals && (Array.mk []:Array GenState).size == 0,(599).objs.size,(599).nsMap mainGlobals "__annotations__")=(true,11,some (.ref 6)):=559
def IV:∀w:World,(fencedOpening treeTable pw_wright_k41_too_many_rooms w bound).map (λs=>(s.heap,s.gens,s.drawn,s.toks))=some (599,Array.mk [],boot_drawn,boot_toks) :=
 boot_open (nofun) nofun (λs=>559)
def left:LeftO (OpenRow.toRowW Ew.row).prog 705 loose Xt (Hook.obs hook) (Hook.val hook) bound:=Us IV size run nofun
def lJ:DefRec:={ name := "law",params:=cZ (top pw_wright_k41_too_many_rooms 55),body:=b9 (top pw_wright_k41_too_many_rooms 55),scope:=ax (top pw_wright_k41_too_many_rooms 55),pos:=posOf (top pw_wright_k41_too_many_rooms 55) }
def YW:defOf 705 Ew.row.name=some (lJ,[]):=559
def YV:Ew.row.prog.theDef Ew.row.name=some (lJ.params,lJ.body,lJ.scope):=559
def ok3:kwWritten? lJ.params.kwonlyargs lJ.params.kw_defaults=some []:=559
def ok4:(chainsOk 705 && opensWell Ew.row.prog && (frees Ew.row.toRowW && Ew.row.within.isEmpty))=true:=559
def ok5:lJ.params.defaults=[]:=559
def hold (h:WalkO 705 loose (XL 705 []) (Hook.says hook) Ew.row.toRowW lJ [] λf vs=>PySem.call f vs)(hw:Ew.row.toRowW.promised):Ew.Holds :=
 pre λO9=>holds_open (q:=674) (loose:=loose) (Xt:=Xt) (XP:=XL 705 []) (Yf:=Hook.obs hook) (Ya:=Hook.val hook) (YP:=Hook.says hook) (N:=bound) left (Hook.of hook) (Hook.keeps hook) (λs e=>xl_of s (rZ.mp e).1) XL.keeps YW YV ok3 (λs e=>recFacts_of (rZ.mp e).2) rfl O9 ok4 ⟨rfl,rfl,rfl,rfl,rfl,nofun⟩ hw h
end HD
set_option maxHeartbeats 4000000
namespace L2
open PySem PySem.Spec PyProof.Rows
abbrev Dw:=Nat->St->106
def Dj {CX:Bh}{P:Program}{w:World}{K:aY}{mg:z0c}{base:Heap}{N:z0t}{qual:Str}{scope:Scope}{f:Addr}{cd:Value}{A:Around}{outer:List Env}{s:Shared}{H:Hp}{E:XK}:(ip CX P w K mg base N qual scope f cd A outer s H E).Mb.K=K:=rfl
def Zv {t:TS}{D:Ends}{σ:St}{H:Hp}(h:let E:=D;t E σ H):t D σ H:=h
def pY {t u:TS}{D:Ends}{σ:St}{H:Hp}(h:let E:={ D with nx:=u D };t E σ H):OW t u D σ H:=h
def Ur {t u:TS}{D:Ends}{σ:St}{H:Hp}(h:let E:=D;let F:={ E with nx:=u E };t F σ H):OW t u D σ H:=h
def Zu {g:TG}{x:V}{σ:St}{H:Hp}{t:TS}{D:Ends}(h:let E:=D;g x σ H λσ2 H2=>t E σ2 H2):g x σ H λσ2 H2=>t D σ2 H2:=h
end L2
local macro_rules | `(tactic| nofun) => `(tactic| (dsimp only [L2.Dj];refine L2.pY ?_;intro _))
local macro_rules | `(tactic| ac_rfl) => `(tactic| (refine L2.Ur ?_;intro _ _))
local macro_rules | `(tactic| ac_nf0) => `(tactic| (refine L2.Zu ?_;intro _))
local macro_rules | `(tactic| ac_nf) => `(tactic| (refine L2.Zv ?_;intro _))
namespace L2
open PySem PySem.Spec PyProof.Rows
section
variable {κ:Type} [DecidableEq κ]
def aQ (kvs:546)(k:κ):126:=(kvs.find? 727).map 105
def bB (kvs:546)(k:κ)(v:V):546 :=
 if 798=true then kvs.map (λkv=>if kv.1=k then (kv.1,v) else kv) else kvs++[(k,v)]
def eI {p:κ×V}{r:546}{k:κ}(e:p.1=k):aQ (p::r) k=some p.2:=by simp [aQ,jV,e]
def eJ {p:κ×V}{r:546}{k:κ}(e:¬p.1=k):aQ (p::r) k=aQ r k:=by simp [aQ,jV,e]
theorem iR (k:κ):∀kvs:546,798=(aQ kvs k).isSome
 | []=>rfl
 | p::r=>by
  rw [List.any_cons];by_cases e:p.1=k
  .simp only [eI e,dS e,Bool.true_or,Option.isSome_some]
  rw [eJ e,gh e,Bool.false_or];exact iR k r
theorem zy (k j:κ)(y:V):∀kvs:546,aQ (kvs.map λkv=>if kv.1=k then (kv.1,y) else kv) j=(aQ kvs j).map λx=>if j=k then y else x
 | []=>rfl
 | p::r=>by
  have ih:=zy k j y r;rw [bN];by_cases h:p.1=k
  .rw [ar h];by_cases e:p.1=j
   .rw [eI (p:=(p.1,y)) e,eI e,rG,ar (e.symm.trans h)]
   rw [eJ (p:=(p.1,y)) e,eJ e,ih]
  rw [aq h];by_cases e:p.1=j
  .rw [eI (p:=p) e,eI e,rG,aq (λz=>h (e.trans z))]
  rw [eJ (p:=p) e,eJ e,ih]
theorem vC (k j:κ)(y:V):∀kvs:546,aQ kvs k=none->aQ (kvs++[(k,y)]) j=if j=k then some y else aQ kvs j
 | [],_=>by
  by_cases e:k=j
  .rw [ar e.symm];exact eI (p:=(k,y)) e
  rw [aq (λz=>e z.symm)];exact eJ (p:=(k,y)) e
 | p::r,hn=>by
  rw [pC];have hk:¬p.1=k:=λz=>by rw [eI z] at hn;cases hn
  rw [eJ hk] at hn;have ih:=vC k j y r hn;by_cases e:p.1=j
  .rw [eI e,eI e,aq (λz=>hk (e.trans z))]
  rw [eJ e,eJ e,ih]
def zx (kvs:546)(k j:κ)(y:V):aQ (bB kvs k y) j=if j=k then some y else aQ kvs j:=by
 unfold bB;by_cases a:798=true
 .rw [ar a,zy];rw [iR] at a;by_cases e:j=k
  .obtain⟨x,hx⟩:=nS.mp a;rw [ar e,e,hx,rG,ar rfl]
  rw [aq e];cases aQ kvs j with
  | none=>rfl
  | some x=>rw [rG,aq e]
 rw [aq a];refine vC k j y kvs ?_;rw [iR] at a;cases q:aQ kvs k with
 | none=>rfl
 | some x=>rw [q] at a;exact(a rfl).elim
def fq (kvs:546)(k:κ)(v:V):(bB kvs k v).length<=kvs.length+1:=by
 unfold bB
 split
 .rw [ay];omega
 rw [bp,cf,kq];omega
def lB {kvs:546}{k:κ}(v:V)(h:aQ kvs k=none):bB kvs k v=kvs++[(k,v)]:=by
 unfold bB;rw [iR,h];exact aq nofun
def jP.jJ {o:126}{u:z0j}(r:jP o u):o.isSome=u.isSome:=by
 cases o with
 | none=>cases u with
  | none=>rfl
  | some _=>exact(show False from r).elim
 | some _=>cases u with
  | none=>exact(show False from r).elim
  | some _=>rfl
theorem jP.getD {o:126}{u:z0j}{d:V}{d':Value}(r:jP o u)(rd:RelV d d'):RelV (o.getD d) (u.getD d'):=by
 cases o with
 | none=>cases u with
  | none=>exact rd
  | some _=>exact(show False from r).elim
 | some _=>cases u with
  | none=>exact(show False from r).elim
  | some _=>exact r
def KV.val {kvs:546}{vs:List (κ×Value)}(r:KV kvs vs)(k:κ):jP (aQ kvs k) (valueAt vs k):=by
 unfold KV at r
 induction r with
 | nil=>exact True.intro
 | @cons p q ps qs h t ih =>
  obtain⟨h1,h2⟩:=h;by_cases e:p.1=k
  .have e':q.1=k:=h1.symm.trans e;have b:valueAt (q::qs) k=some q.2:=by simp [valueAt,jV,e']
   rw [eI e,b];exact h2
  have e':¬q.1=k:=λz=>e (h1.trans z);have b:valueAt (q::qs) k=valueAt qs k:=by simp [valueAt,jV,e']
  rw [eJ e,b];exact ih
theorem KV.any {kvs:546}{vs:List (κ×Value)}(r:KV kvs vs)(k:κ):798=vs.any 727:=by
 unfold KV at r
 induction r with
 | nil=>rfl
 | cons h t ih=>rw [List.any_cons,List.any_cons,ih,h.1]
def KV.Po {kvs:546}{vs:List (κ×Value)}(r:KV kvs vs)(k:κ){y:V}{u:Value}(ry:RelV y u) :
  KV (kvs.map λkv=>if kv.1=k then (kv.1,y) else kv) (vs.map λkv=>if kv.1=k then (kv.1,u) else kv):=by
 unfold KV at r ⊢
 induction r with
 | nil=>exact .nil
 | @cons p q ps qs h t ih =>
  rw [bN,bN];refine .cons ?_ ih;obtain⟨h1,h2⟩:=h;by_cases e:p.1=k
  .rw [ar e,ar (h1.symm.trans e)];exact⟨h1,ry⟩
  rw [aq e,aq (λz=>e (h1.trans z))];exact⟨h1,h2⟩
def KV.put {kvs:546}{vs:List (κ×Value)}(r:KV kvs vs)(k:κ){y:V}{u:Value}(ry:RelV y u):KV (bB kvs k y) (stored vs k u):=by
 unfold bB stored;rw [r.any k];by_cases e:(vs.any 727)=true
 .rw [ar e,ar e];exact r.Po k ry
 rw [aq e,aq e];exact ff r ⟨rfl,ry⟩
def KV.keys {kvs:546}{vs:List (κ×Value)}(r:KV kvs vs):kvs.map 27=vs.map 27:=by
 unfold KV at r
 induction r with
 | nil=>rfl
 | cons h t ih=>rw [bN,bN,ih,h.1]
theorem KV.length {kvs:546}{vs:List (κ×Value)}(r:KV kvs vs):kvs.length=vs.length:=bf r
end
def mz {P:Program}{w:World}{k:aI}{u:Value}(r:RelV (kV k) u):(aK P w).is k u=true:=by
 cases k with
 | inl i=>obtain⟨t,e⟩:=(show ∃t,u=Value.int i t from r);subst e;exact lI P w i t
 | inr x=>obtain⟨t,e⟩:=(show ∃t,u=Value.str x t from r);subst e;exact qv P w x t
theorem v8 {P:Program}{w:World}:∀{ks:List aI}{us:z0m},bq (ks.map kV) us->ItemsAre (aK P w) ks us
 | [],_,r=>by rw [kP] at r;cases r;exact .nil
 | k::ks,_,r=>by
  rw [bN] at r;cases r with
  | cons h t=>exact .cons (mz h) (v8 t)
abbrev KT (H:Hp):518->565->Prop:=Paired λp q=>p.1=q.1/\H q.2.1=some (.tup (p.1.map kV))/\RelV p.2 q.2.2
def KT.val {H:Hp}{kvs:518}{xs:565}(r:KT H kvs xs)(k:List aI):jP (aQ kvs k) ((atKey xs k).map 105):=by
 induction r with
 | nil=>exact True.intro
 | @cons p q ps qs h t ih =>
  obtain⟨h1,_,h2⟩:=h;by_cases e:p.1=k
  .have e':q.1=k:=h1.symm.trans e;have b:atKey (q::qs) k=some q.2:=by simp [atKey,jV,e']
   rw [eI e,b];exact h2
  have e':¬q.1=k:=λz=>e (h1.trans z);have b:atKey (q::qs) k=atKey qs k:=by simp [atKey,jV,e']
  rw [eJ e,b];exact ih
def KT.Po {H:Hp}{kvs:518}{xs:565}(r:KT H kvs xs)(k:List aI){y:V}{u:Value}(ry:RelV y u) :
  KT H (kvs.map λkv=>if kv.1=k then (kv.1,y) else kv) (xs.map (putAt k u)):=by
 induction r with
 | nil=>exact .nil
 | @cons p q ps qs h t ih =>
  rw [bN,bN];refine .cons ?_ ih;obtain⟨h1,h2,h3⟩:=h;unfold putAt;by_cases e:p.1=k
  .rw [ar e,ar (h1.symm.trans e)];exact⟨h1,h2,ry⟩
  rw [aq e,aq (λz=>e (h1.trans z))];exact⟨h1,h2,h3⟩
def KT.put {H:Hp}{kvs:518}{xs:565}(r:KT H kvs xs)(k:List aI){b:Addr}{y:V}{u:Value}(hb:H b=some (.tup (k.map kV)))(ry:RelV y u) :
  KT H (bB kvs k y) (storedH xs k b u):=by
 have e:798=(atKey xs k).isSome:=by
  rw [iR,(r.val k).jJ,pG]
 unfold bB storedH;rw [e];by_cases q:(atKey xs k).isSome=true
 .rw [ar q,ar q];exact r.Po k ry
 rw [aq q,aq q];exact ff r ⟨rfl,hb,ry⟩
def KT.keeps {H H':Hp}{kvs:518}{xs:565}(r:KT H kvs xs)(ht:∀b ys,H b=some (.tup ys)->H' b=some (.tup ys)):KT H' kvs xs :=
 Paired.cJ r λ_ _ z=>⟨z.1,ht _ _ z.2.1,z.2.2⟩
section
variable {P:Program}{w:World}{H:Hp}{h:Heap}{a:Addr}
def NC {u:HO}(ok:mJ P w H h)(e:Rd H a u):bR P w H h a u:=e.ok ok
def mE {kvs:86}(ok:mJ P w H h)(e:Rd H a 489):875 :=
 show bR P w H h a 489 from NC ok e
def uj {kvs:86}(ok:mJ P w H h)(e:H a=375):875:=mE ok (.inl e)
def nA {ks:List aI}(ok:mJ P w H h)(e:H a=some (.tup (ks.map kV))):(tupleKind (aK P w)).is h ks a:=by
 obtain⟨_,aT,r,o,h1,h2,n,h3⟩:=(show bR P w H h a (.tup (ks.map kV)) from ok a _ e);exact⟨o,aT.toArray,n,h1,h2,h3,by simpa using v8 r⟩
def ui {kvs:518}(ok:mJ P w H h)(e:Rd H a (.dT kvs)):kvs.length<=sizeLine/\663 /\
  ∃xs,KT H kvs xs/\h.DictOfH (tupleKind (aK P w)) a xs:=by
 obtain⟨z,y,xs,r,o,es,ep,h1,h2,h3,h4,h5⟩:=(show bR P w H h a (.dT kvs) from NC ok e);refine⟨z,y,xs,r,o,es,ep,h1,h2,h3,h4,λx hx=>?_,h5⟩;have all:∀{l:518}{m:565},KT H l m->∀x∈m,(tupleKind (aK P w)).is h x.1 x.2.1:=by
  intro l m q
  induction q with
  | nil=>intro x hx;exact nomatch hx
  | @cons p q ps qs hq t ih =>
   intro x hx;rcases a_.mp hx with e | hx
   .subst e;exact nA ok (by rw [<-hq.1];exact hq.2.1)
   exact ih x hx
 exact all r x hx
def Og {kvs:518}(ok:mJ P w H h)(e:H a=some (.dT kvs)):kvs.length<=sizeLine/\663 /\
  ∃xs,KT H kvs xs/\h.DictOfH (tupleKind (aK P w)) a xs:=ui ok (.inl e)
end
def b8 (H:Hp)(a:Addr)(y:V)(r:126):Prop :=
 (∃kvs k,Rd H a 489/\y=kV k/\r=aQ kvs k)\/∃kvs k b,Rd H a (.dT kvs)/\y=.ref b/\H b=some (.tup (k.map kV))/\r=aQ kvs k
def ma (H:Hp)(a:Addr)(y v:V)(H':Hp):Prop :=
 (∃kvs k,H a=375/\y=kV k/\kvs.length < sizeLine/\H'=upd H a (.dK (bB kvs k v))) \/
 ∃kvs k b,H a=some (.dT kvs)/\y=.ref b/\H b=some (.tup (k.map kV))/\kvs.length < sizeLine/\H'=upd H a (.dT (bB kvs k v))
theorem b8.k {H:Hp}{a:Addr}{kvs:86}{k:aI}(e:H a=375):b8 H a (kV k) (aQ kvs k):=.inl ⟨kvs,k,.inl e,rfl,rfl⟩
def b8.t {H:Hp}{a b:Addr}{kvs:518}{k:List aI}(e:H a=some (.dT kvs))(eb:H b=some (.tup (k.map kV))):b8 H a (.ref b) (aQ kvs k):=.inr ⟨kvs,k,b,.inl e,rfl,eb,rfl⟩
theorem ma.k {H:Hp}{a:Addr}{kvs:86}{k:aI}{v:V}(e:H a=375)(hl:kvs.length < sizeLine):ma H a (kV k) v (upd H a (.dK (bB kvs k v))):=.inl ⟨kvs,k,e,rfl,hl,rfl⟩
def ma.t {H:Hp}{a b:Addr}{kvs:518}{k:List aI}{v:V}(e:H a=some (.dT kvs))(eb:H b=some (.tup (k.map kV)))(hl:kvs.length < sizeLine) :
  ma H a (.ref b) v (upd H a (.dT (bB kvs k v))):=.inr ⟨kvs,k,b,e,rfl,eb,hl,rfl⟩
section
variable {X:Cx}{ag:z0e}{σ:St}{H:Hp}{s:Shared}{a:Addr}{y v:V}{u r:Value}{o:126}{A:Around}{E:z0b}
def Inv.big (I:87):sysModules < s.heap.objs.size:=by
 have h:mainGlobals < s.heap.objs.size:=(I.mod.glob.keeps I.bk).lt;exact Nat.lt_trans nofun h
def Gp {Q:z0b}(hu:A.units+1 < cLine)(I:87)(g:b8 H a y (some v))(ry:RelV y u)(h:∀w' s',Inv X ag σ H s'->RelV v w'->Q w' s') :
  wpAny 110 A (getItem 475 u) Q E s:=by
 rcases g with ⟨kvs,k,e,ey,l⟩ | ⟨kvs,k,b,e,ey,eb,l⟩
 .subst ey;obtain⟨z,hd,vs,rel,dd⟩:=mE I.bI e;obtain⟨w',hw,Cd⟩:=jP.some_of (v:=v) (o:=valueAt vs k) (by rw [l];exact rel.val k);exact wpAny_getItem_of (mz ry) dd.mapOf hw (h w' _ (I.tok _) Cd)
 subst ey;cases (show u=Value.ref b from ry);obtain⟨z,hd,xs,rel,dd⟩:=ui I.bI e;obtain⟨w',hw,Cd⟩:=jP.some_of (v:=v) (o:=(atKey xs k).map 105) (by rw [l];exact rel.val k);obtain⟨p,hp,He⟩:=cH.mp hw;refine wpAny_getItem_heap (pF hu) (nA I.bI eb) dd hp ?_;rw [He];exact h w' _ (I.tok _) Cd
def VQ {Q:z0b}(hu:A.units+1 < cLine)(I:87)(g:b8 H a y o)(ry:RelV y u)(h:∀s',Inv X ag σ H s'->Q (.bool o.isSome) s') :
  wpAny 110 A (compareOp .In u 475) Q E s:=by
 rcases g with ⟨kvs,k,e,ey,l⟩ | ⟨kvs,k,b,e,ey,eb,l⟩
 .subst ey;obtain⟨z,hd,vs,rel,dd⟩:=mE I.bI e;refine wpAny_in_of (mz ry) hd dd.mapOf ?_;rw [<-(rel.val k).jJ,<-l];exact h _ (I.tok _)
 subst ey;cases (show u=Value.ref b from ry);obtain⟨z,hd,xs,rel,dd⟩:=ui I.bI e;refine wpAny_in_heap (pF hu) (nA I.bI eb) hd dd ?_;have q:=(rel.val k).jJ;rw [pG] at q;rw [<-q,<-l];exact h _ (I.tok _)
def MX {Q:z0b}(hu:A.units+1 < cLine)(I:87)(g:b8 H a y o)(ry:RelV y u)(h:∀s',Inv X ag σ H s'->Q (.bool (!o.isSome)) s') :
  wpAny 110 A (compareOp .NotIn u 475) Q E s:=by
 rcases g with ⟨kvs,k,e,ey,l⟩ | ⟨kvs,k,b,e,ey,eb,l⟩
 .subst ey;obtain⟨z,hd,vs,rel,dd⟩:=mE I.bI e;refine wpAny_notIn_of (mz ry) hd dd.mapOf ?_;rw [<-(rel.val k).jJ,<-l];exact h _ (I.tok _)
 subst ey;cases (show u=Value.ref b from ry);obtain⟨z,hd,xs,rel,dd⟩:=ui I.bI e;refine wpAny_notIn_heap (pF hu) (nA I.bI eb) hd dd ?_;have q:=(rel.val k).jJ;rw [pG] at q;rw [<-q,<-l];exact h _ (I.tok _)
def ri {h':Heap}{t':Nat}{ob:HO}(I:87)(mu:Wk (H a))(hs:Heap.SameBut a s.heap h')(he:∃q,h'.get? a=some q)(new:bR X.prog X.w (upd H a ob) h' a ob) :
  Inv X ag σ (upd H a ob) 619 :=
 I.write (x:=a) (e:=a) mu 419 (λb q hb z=>(hs.2 b hb).trans z) he new
def uk {P:Program}{w:World}{H':Hp}{h':Heap}{kvs:86}{vs:List (aI×Value)}(z:kvs.length<=sizeLine)(hd:663)(rel:KV kvs vs)(dd:h'.DictOf (aK P w) a vs) :
  bR P w H' h' a 489:=⟨z,hd,vs,rel,dd⟩
def Gn {H':Hp}{Q:Unit->146}(hu:A.units+1 < cLine)(I:87)(g:ma H a y v H')(ry:RelV y u)(rv:RelV v r)(h:∀s',Inv X ag σ H' s'->Q () s') :
  wpAny 110 A (setItem 475 u r) Q E s:=by
 rcases g with ⟨kvs,k,e,ey,l,eH⟩ | ⟨kvs,k,b,e,ey,eb,l,eH⟩
 .subst ey eH;obtain⟨z,hd,vs,rel,dd⟩:=uj I.bI e;have hz:vs.length<=sizeLine:=by rw [<-rel.length];exact z
  have hl:(bB kvs k v).length<=sizeLine:=by have:=fq kvs k v;omega
  refine wpAny_setItem_pairs (hsz:=hz) (mz ry) dd λh' Bb hs=>h _ ?_;have he:∃q,h'.get? a=some q:=let ⟨q,_,_,hq,_⟩:=Bb;⟨q,hq⟩;exact ri I (by rw [e];exact True.intro) hs he (uk hl hd (rel.put k rv) Bb)
 subst ey eH;cases (show u=Value.ref b from ry);obtain⟨z,hd,xs,rel,dd⟩:=Og I.bI e;have hz:xs.length<=sizeLine:=by rw [<-bf rel];exact z
 have hl:(bB kvs k v).length<=sizeLine:=by have:=fq kvs k v;omega
 refine wpAny_setItem_heap (hsz:=hz) (pF hu) (nA I.bI eb) dd λh' Bb hs=>h _ ?_;obtain⟨q,es,ep,hq,h2,h3,h4,_,h5⟩:=Bb;refine ri I (by rw [e];exact True.intro) hs ⟨q,hq⟩ ⟨hl,hd,_,(rel.put k eb rv).keeps λc ys ec=>?_,q,es,ep,hq,h2,h3,h4,h5⟩;rw [ai (Ue ec e (λz=>nomatch z))];exact ec
end
section
variable {X:Cx}{ag:z0e}{σ:St}{H:Hp}{s:Shared}{a:Addr}{kvs:86}{k:aI}{u:Value}{A:Around}{E:z0b}
def VP {Q:z0b}(I:87)(e:Rd H a 489)(h:∀t s',Inv X ag σ H s'->Q (.int kvs.length t) s'):wpAny 110 A (call (.builtin "len") [91]) Q E s:=by
 obtain⟨z,hd,vs,rel,dd⟩:=mE I.bI e;refine call_len_dict hd dd (by rw [<-rel.length];rw [mK] at z;omega) ?_;rw [<-rel.length];exact h _ _ (I.tok _)
end
def Rx (i:Expr):Prop:=∀ov iv,subscripted i false ov iv=operate [ov,iv] (getItem ov iv)
def xK {prog:Program}{w:World}{A:Around}{E:z0b}{s:Shared}{env:Env}{value slice:Expr}{pos:Pos}{T id:String}{Q:z0b}
  (hl:typeLookup (.type T) "__getitem__"=pure (some (.builtin id)))(hs:Rx slice)
  (h:wpAny 140 A (eval value env) (λo s₁=>wpAny 140 A (eval slice env) (λi s₂=>s₂.TypeIs o T/\wpAny 140 A (getItem o i) Q E s₂) E s₁) E s) :
  wpAny 140 A (eval (.Subscript value slice pos) env) Q E s:=by
 refine Subscript_ (dD h (λo s₁ h₁=>dD h₁ (λi s₂ h₂=>?_) λ_ _ x=>x) λ_ _ x=>x);obtain⟨hT,h₂⟩:=h₂;unfold subscriptTail;refine au ?_;rw [getitemInPython_of_ne hT.not_modules];refine au (mT hT hl ?_);have fin:wpAny 140 A (subscripted slice false o i) (λr s₃=>wpAny 140 A (letTemporaryGo value o r >>= λ_=>pure r) Q E s₃) E s₂:=by
  rw [hs o i];exact wpAny_operating (dD h₂ (λr s₃ h₃=>au (wpAny_letTemporaryGo (aJ h₃))) λ_ _ x=>x)
 first
  | exact aJ (au fin)
  | exact au (aJ (au fin))
  | exact au fin
def Aq {X:Cx}{ag:z0e}{σ:St}{H:Hp}{s:Shared}{a:Addr}{y:V}{o:126}(I:87)(g:b8 H a y o):s.TypeIs 475 "dict" := by
 rcases g with ⟨kvs,k,e,_,_⟩ | ⟨kvs,k,b,e,_,_,_⟩
 .obtain⟨_,_,vs,_,dd⟩:=mE I.bI e;exact dd.typeIs
 obtain⟨_,_,xs,_,dd⟩:=ui I.bI e;exact dd.typeIs
inductive XDp (x:V)(S:Addr->106)(R:106):Prop
|mk(a:Addr)(H4:Hp)(e:x=91)(s:S a H4)(q:R H4)
inductive XDo (S:126->Prop)(R:126->Prop):Prop
|mk(o:126)(s:S o)(q:R o)
inductive XDg (x:V)(S:Addr->V->Prop)(R:V->Prop):Prop
|mk(a:Addr)(v:V)(e:x=91)(s:S a v)(q:R v)
inductive XDi (x:V)(S:Addr->126->Prop)(R:126->Prop):Prop
|mk(a:Addr)(o:126)(e:x=91)(s:S a o)(q:R o)
def DI (td ty:TE):TE:=λσ H Q=>td σ H λx H1=>ty σ H1 λy H2=>XDg x (λa v=>b8 H2 a y (some v)) λv=>Q v H2
def Tn (ty td:TE):TE:=λσ H Q=>ty σ H λy H1=>td σ H1 λx H2=>XDi x (λa o=>b8 H2 a y o) λo=>Q (.bl o.isSome) H2
def DG (ty td:TE):TE:=λσ H Q=>ty σ H λy H1=>td σ H1 λx H2=>XDi x (λa o=>b8 H2 a y o) λo=>Q (.bl (!o.isSome)) H2
def Tx (td ty tv:TE):TS:=λD σ H=>tv σ H λv H1=>td σ H1 λx H2=>ty σ H2 λy H3=>XDp x (λa H4=>ma H3 a y v H4) λH4=>D.nx σ H4
section
variable {X:Cx}{o i e value:Expr}{pos pos' sH:Pos}{td ty tv:TE}
def d5 (hu:X.A.units+1 < cLine)(ho:PE X o td)(hi:PE X i ty)(hs:Rx i):PE X (.Subscript o i pos) (DI td ty):=by
 intro ag s σ H Q I h;refine xK Bp.lookup hs 847;obtain⟨x,H1,I1,rx,q1⟩:=ba;refine cK (hi ag s1 σ H1 _ I1 q1) λiv s2 ba=>?_;obtain⟨y,H2,I2,ry,a,v,ex,g,q2⟩:=ba;subst ex;obtain rfl:510:=rx;exact⟨Aq I2 g,Gp hu I2 g ry λw' s3 I3 Cd=>⟨v,H2,I3,Cd,q2⟩⟩
def nh (hu:X.A.units+1 < cLine)(hi:PE X i ty)(ho:PE X o td):PC X .In i o (Tn ty td):=by
 intro ag s σ H Q I h;refine cK (hi ag s σ H _ I h) λiv s1 ba=>?_;obtain⟨y,H1,I1,ry,q1⟩:=ba;refine cK (ho ag s1 σ H1 _ I1 q1) λu s2 ba=>?_;obtain⟨x,H2,I2,rx,a,ov,ex,g,q2⟩:=ba;subst ex;obtain rfl:510:=rx;exact VQ hu I2 g ry λs3 I3=>⟨.bl ov.isSome,H2,I3,rfl,q2⟩
def de (hu:X.A.units+1 < cLine)(hi:PE X i ty)(ho:PE X o td):PC X .NotIn i o (DG ty td):=by
 intro ag s σ H Q I h;refine cK (hi ag s σ H _ I h) λiv s1 ba=>?_;obtain⟨y,H1,I1,ry,q1⟩:=ba;refine cK (ho ag s1 σ H1 _ I1 q1) λu s2 ba=>?_;obtain⟨x,H2,I2,rx,a,ov,ex,g,q2⟩:=ba;subst ex;obtain rfl:510:=rx;exact MX hu I2 g ry λs3 I3=>⟨.bl (!ov.isSome),H2,I3,rfl,q2⟩
def gC (hu:X.A.units+1 < cLine)(ho:PE X o td)(hi:PE X i ty)(hv:PE X value tv)(hs:swapsWith value (some (.Subscript o i pos')) pos.line X.env=pure false) :
  PS X (.Assign [.Subscript o i pos'] value pos) (Tx td ty tv):=by
 intro ag s σ H D I h;refine wpAny_Assign_Subscript (cK (hv ag s σ H _ I h) λr s1 ba=>?_) hs;obtain⟨v,H1,I1,rv,q1⟩:=ba;refine cK (ho ag s1 σ H1 _ I1 q1) λu s2 ba=>?_;obtain⟨x,H2,I2,rx,q2⟩:=ba;refine cK (hi ag s2 σ H2 _ I2 q2) λiv s3 ba=>?_;obtain⟨y,H3,I3,ry,a,H4,ex,g,q3⟩:=ba;subst ex;obtain rfl:510:=rx;exact Gn hu I3 g ry rv λs4 I4=>⟨σ,H4,I4,q3⟩
end
def Ao {P:Program}{w:World}{H:Hp}(h:Heap)(hb:sysModules < h.objs.size):bR P w H (h.push 625) h.objs.size 418 :=
 ⟨cV _,jB.mpr (dC (bJ hb)),[],.nil,Heap.DictOf.new h⟩
def Ki {P:Program}{w:World}{H:Hp}(h:Heap)(hb:sysModules < h.objs.size):bR P w H (h.push 625) h.objs.size (.dT []) :=
 ⟨cV _,jB.mpr (dC (bJ hb)),[],.nil,_,#[],0,cU _ rfl,⟨rfl,rfl,rfl⟩,rfl,rfl,eG⟩
def HM:TE:=λ_ H Q=>∀p,H p=none->Q (.ref p) (upd H p 418)
def O0:TE:=λ_ H Q=>∀p,H p=none->Q (.ref p) (upd H p (.dT []))
section
variable {X:Cx}{pos:Pos}
def fV:PE X (.Dict [] [] pos) HM:=λag s σ H Q I h =>
 wpAny_Dict_empty ⟨491,_,I.laid (a:=s.heap.objs.size) (o:=.dK []) (t':=s.toks) (λ_ _ q=>bW _ q) 128 (Ao s.heap I.big),rfl,h _ (I.bI.fresh 128)⟩
def zN:PE X (.Dict [] [] pos) O0:=λag s σ H Q I h =>
 wpAny_Dict_empty ⟨491,_,I.laid (a:=s.heap.objs.size) (o:=.dT []) (t':=s.toks) (λ_ _ q=>bW _ q) 128 (Ki s.heap I.big),rfl,h _ (I.bI.fresh 128)⟩
end
def BG:List (TE×TE)->St->Hp->(List (V×V)->106)->Prop
 | [],_,H,Q=>Q [] H
 | (tk,tv)::r,σ,H,Q=>tk σ H λx H1=>tv σ H1 λy H2=>BG r σ H2 λps H3=>Q ((x,y)::ps) H3
abbrev VV:List (V×V)->List (Value×Value)->Prop:=Paired λp q=>RelV p.1 q.1/\RelV p.2 q.2
def XQ (X:Cx)(pos:Pos)(keys:List (Option Expr))(values:z0r)(Lm:List (TE×TE)):Prop :=
 ∀(ag:z0e)(s:Shared)(σ:St)(H:Hp)(Q:List (V×V)->106),87->BG Lm σ H Q ->
  wpAny 110 X.A (evalPairs (pairTrees keys values X.env pos)) (λvs s'=>∃ps H',Inv X ag σ H' s'/\VV ps vs/\Q ps H') X.xe s
def LQ {X:Cx}{pos:Pos}:XQ X pos [] [] []:=λag s σ H Q I h=>pairTrees_nil_walk ⟨[],H,I,.nil,h⟩
def Iz {X:Cx}{pos:Pos}{k v:Expr}{ks:List (Option Expr)}{vs:z0r}{tk tv:TE}{Lm:List (TE×TE)}(hk:PE X k tk)(hv:PE X v tv)(hr:XQ X pos ks vs Lm) :
  XQ X pos (some k::ks) (v::vs) ((tk,tv)::Lm):=λag s σ H Q I h =>
 pairTrees_cons_walk (cK (hk ag s σ H _ I h) λu s1 ⟨x,H1,I1,rx,q1⟩=>cK (hv ag s1 σ H1 _ I1 q1) λw2 s2 ⟨y,H2,I2,ry,q2⟩ =>
  cK (hr ag s2 σ H2 _ I2 q2) λws s3 ⟨ps,H3,I3,rel,q3⟩=>⟨(x,y)::ps,H3,I3,.cons ⟨rx,ry⟩ rel,q3⟩)
def nj (kvs more:86):86:=more.foldl (λbD kv=>bB bD kv.1 kv.2) kvs
def KV.merge:∀{more:86}{rs:List (aI×Value)}{kvs:86}{vs:List (aI×Value)},KV more rs->KV kvs vs->KV (nj kvs more) (merged vs rs):=by
 intro more rs kvs vs r;unfold KV at r
 induction r generalizing kvs vs with
 | nil=>intro q;exact q
 | @cons p q ps qs h t ih =>
  intro r0;have e:KV (bB kvs p.1 p.2) (stored vs q.1 q.2):=by
   have:=r0.put p.1 h.2;rw [<-h.1];exact this
  exact ih e
theorem mr:∀(more kvs:86),(nj kvs more).length<=kvs.length+more.length
 | [],kvs=>by show kvs.length<=kvs.length+0;omega
 | p::r,kvs=>by
  have h1:=mr r (bB kvs p.1 p.2);have h2:=fq kvs p.1 p.2;show (nj (bB kvs p.1 p.2) r).length<=_;rw [cf];omega
theorem ux {P:Program}{w:World}:∀{kvs:86}{ws:List (Value×Value)},VV (kvs.map λkv=>(kV kv.1,kv.2)) ws->∃rs,Carries (aK P w) ws rs/\KV kvs rs
 | [],_,r=>by rw [kP] at r;cases r;exact⟨[],True.intro,.nil⟩
 | p::kvs,_,r=>by
  rw [bN] at r;cases r with
  | @cons a b as bs h t =>
   obtain⟨rs,c,q⟩:=ux (P:=P) (w:=w) t;obtain⟨b1,b2⟩:=b;exact⟨(p.1,b2)::rs,⟨mz h.1,rfl,c⟩,.cons ⟨rfl,h.2⟩ q⟩
def Ti (Lm:List (TE×TE)):TE:=λσ H Q=>∀p,H p=none->BG Lm σ (upd H p 418) λps H2=>H2 p=some 418/\∃kvs:86,ps=kvs.map (λkv=>(kV kv.1,kv.2))/\kvs.length<=15/\Q (.ref p) (upd H2 p (.dK (nj [] kvs)))
def LV {X:Cx}{pos:Pos}{keys:List (Option Expr)}{values:z0r}{Lm:List (TE×TE)}(h:XQ X pos keys values Lm)(jM:keys.all (·.isSome)=true)(hl:keys.length=values.length)(h0:keys≠[])
  (h15:keys.length<=15):PE X (.Dict keys values pos) (Ti Lm):=by
 intro ag s σ H Q I q;have hn:=I.bI.fresh (aE s.heap.objs.size);have I1:=I.laid (a:=s.heap.objs.size) (o:=.dK []) (h':=s.heap.push 625) (t':=s.toks) (λ_ _ q=>bW _ q) 128 (Ao s.heap I.big);refine wpAny_Dict_walk (knd:=aK X.prog X.w) jM hl h0 h15 (cK (h ag _ σ _ _ I1 (q _ hn)) λws s2 ba=>?_);obtain⟨ps,H2,I2,rel,e,kvs,ep,lk,q2⟩:=ba;subst ep;obtain⟨rs,c,rk⟩:=ux (P:=X.prog) (w:=X.w) rel;obtain⟨z,hd,vs0,r0,dd⟩:=uj I2.bI e;cases r0;refine⟨rs,c,dd,λh' Bb hs=>⟨491,_,?_,rfl,q2⟩⟩;have hz:(nj [] kvs).length<=sizeLine:=by
  have h1:=mr kvs [];rw [kq] at h1;rw [mK];omega
 have he:∃q,h'.get? s.heap.objs.size=some q:=let ⟨q,_,_,hq,_⟩:=Bb;⟨q,hq⟩;exact ri I2 (by rw [e];exact True.intro) hs he (uk hz hd (rk.merge .nil) Bb)
structure M1 (X:Cx)(o:Expr)(m:Str)(apos:Pos)(e:Expr)(gG:Pos):Prop where
 base:attributeBase o m X.env (eval o X.env)=eval o X.env
 Gi:((backTo gG (starEach [e] X.env)).all (λx=>!x.1) && (backToKw gG (keywordEach [] X.env)).all (λx=>x.1.isSome)
  && decide (([e]:z0r).length+([]:List Keyword).length+(if ([]:List Keyword).isEmpty then 0 else 1) < 30))=true
 line:(apos.endLine == gG.line)=true
 trees:backTo gG (starEach [e] X.env)=[(false,eval e X.env)]
structure M2 (X:Cx)(o:Expr)(m:Str)(apos:Pos)(e f:Expr)(gG:Pos):Prop where
 base:attributeBase o m X.env (eval o X.env)=eval o X.env
 Gi:((backTo gG (starEach [e,f] X.env)).all (λx=>!x.1) && (backToKw gG (keywordEach [] X.env)).all (λx=>x.1.isSome)
  && decide (([e,f]:z0r).length+([]:List Keyword).length+(if ([]:List Keyword).isEmpty then 0 else 1) < 30))=true
 line:(apos.endLine == gG.line)=true
 trees:backTo gG (starEach [e,f] X.env)=[(false,eval e X.env),(false,eval f X.env)]
def XR (H:Hp)(a:Addr):Prop:=(∃kvs,Rd H a 489)\/∃kvs,Rd H a (.dT kvs)
def CZ {X:Cx}{ag:z0e}{σ:St}{H:Hp}{s:Shared}{a:Addr}(I:87)(d:XR H a) :
  s.TypeIs 475 "dict" /\ (∀b,Value.ref a=.ref b->∃ob,s.heap.get? b=some ob/\ob.dict=none)/\663:=by
 rcases d with ⟨kvs,e⟩ | ⟨kvs,e⟩
 .obtain⟨_,hd,vs,_,dd⟩:=mE I.bI e;refine⟨dd.typeIs,λb q=>?_,hd⟩;cases q;obtain⟨ob,_,_,h1,h2,_⟩:=dd;exact⟨ob,h1,h2.2.1⟩
 obtain⟨_,hd,xs,_,dd⟩:=ui I.bI e;refine⟨dd.typeIs,λb q=>?_,hd⟩;cases q;obtain⟨ob,_,_,h1,h2,_⟩:=dd;exact⟨ob,h1,h2.2.1⟩
section
variable {X:Cx}{ag:z0e}{σ:St}{H:Hp}{s:Shared}{a:Addr}{y d:V}{u r:Value}{o:126}{A:Around}{E:z0b}
def Rk {Q:z0b}(hu:A.units+1 < cLine)(I:87)(g:b8 H a y o)(ry:RelV y u)(rd:RelV d r)(h:∀w' s',Inv X ag σ H s'->RelV (o.getD d) w'->Q w' s') :
  wpAny 110 A (call (.builtin "dict.get") [91,u,r]) Q E s:=by
 rcases g with ⟨kvs,k,e,ey,l⟩ | ⟨kvs,k,b,e,ey,eb,l⟩
 .subst ey;obtain⟨z,hd,vs,rel,dd⟩:=mE I.bI e;refine call_meetsIn PySem.F.slot_dict_get dd.typeIs PySem.F.entry_dict_get (PySem.F.args_dict_get_3 _ _ _) (meets_dict_get_default (aK X.prog X.w) a (mz ry) hd r) ⟨_,dd.mapOf,h _ _ (I.tok _) ?_⟩;rw [l];exact(rel.val k).getD rd
 subst ey;cases (show u=Value.ref b from ry);obtain⟨z,hd,xs,rel,dd⟩:=ui I.bI e;refine call_meetsIn PySem.F.slot_dict_get dd.typeIs PySem.F.entry_dict_get (PySem.F.args_dict_get_3 _ _ _) (meetsH_dict_get_default (tupleKind (aK X.prog X.w)) a b hd r) ⟨pF hu,k,xs,nA I.bI eb,dd,h _ _ (I.tok _) ?_⟩;rw [l];exact(rel.val k).getD rd
end
def O1 (td ty tx:TE):TE:=λσ H Q=>td σ H λx H1=>XH x (XR H1) λa=>ty σ H1 λy H2=>tx σ H2 λz H3=>XDo (b8 H3 a y) λo=>Q (o.getD z) H3
section
variable {X:Cx}{o e f:Expr}{apos gG:Pos}{td ty tx:TE}
def IJ (hu:X.A.units+1 < cLine)(ho:PE X o td)(he:PE X e ty)(hf:PE X f tx)(m:M2 X o "get" apos e f gG):PE X (.Call (.Attribute o "get" apos) [e,f] [] gG) (O1 td ty tx):=by
 intro ag s σ H Q I h;refine wpAny_Call_method m.base m.Gi m.line Bk PySem.F.slot_dict_get PySem.F.type_dict_get 847;obtain⟨x,H1,I1,rx,a,ex,d,q1⟩:=ba;subst ex;obtain rfl:510:=rx;obtain⟨t1,t2,_⟩:=CZ I1 d;refine⟨t1,t2,?_⟩;rw [m.trees];refine r9 rfl (w_ (pE (cK (he ag s1 σ H1 _ I1 q1) λiv s2 ⟨y,H2,I2,ry,q2⟩ =>
  pE (cK (hf ag s2 σ H2 _ I2 q2) λfv s3 ⟨z,H3,I3,rz,ov,g,q3⟩=>Calls.spliced_nil ?_))))
 exact Rk hu I3 g ry rz λw' s4 I4 Cd=>⟨_,H3,I4,Cd,q3⟩
end
section
variable {X:Cx}{ag:z0e}{σ:St}{H:Hp}{s:Shared}{a:Addr}{kvs:86}{A:Around}{E:z0b}
end
section
variable {X:Cx}{ag:z0e}{σ:St}{H:Hp}{s:Shared}{a:Addr}{y:V}{u:Value}{A:Around}{E:z0b}
end
open PySem
def yx:typeLookup (476) "keys"=pure none:=by rw [typeLookup_type,builtinLookup_eq_fast];kernel_rfl
def yy:typeLookup (476) "__getattr__"=pure none:=by rw [typeLookup_type,builtinLookup_eq_fast];kernel_rfl
section
variable {prog:Program}{w:World}{A:Around}{E:z0b}{h:Heap}{g:Array GenState}{d:Drawn}{t:Nat}{os:OsState}{a:Addr}{o:Obj}
def HR:isSubtype (.type "AttributeError") (.type "AttributeError")=pure true:=by rw [isSubtype_type];kernel_rfl
def PJ {m:Str}{tk:Tok}:ownMembersOf (.type "AttributeError") [.str m tk]=#[unsetMember,unsetMember]:=559
def Ke {m:Str}{tk:Tok}:firstArgMember (.type "AttributeError") [.str m tk]=pure .none:=559
def Cj {α:Type}{self:Value}{name msg:Str}{Q:α->146}(hm:msg.length<=sizeLine)(hh:569)
  (hq:∀h' t' e oe,(∀b o,h.get? b=65->162=65)->h'.get? e=some oe->oe.cls=.type "AttributeError" -> E (.ref e) ⟨h',g,d,t',os⟩) :
  wpAny 140 A (raiseAttrError self name msg) Q E ⟨h,g,d,t,os⟩:=by
 have f1:=HR;unfold raiseAttrError newExc;refine au (wpAny_mkStr ?_ hm);have fe:=Ke (m:=msg) (tk:=t);rw [PJ]
 repeat (any_goals (first | assumption | wp_step))
 unfold raiseNew;refine au (wpAny_handled ?_);rw [hh];refine au (aJ ?_);refine wpAny_throw ?_;refine hq _ _ _ _ (λb o q=>?_) (qk _ (cU _ rfl) rfl) rfl;have lt:=aV q;rw [jC _ _ (by rw [mO];exact iP (kX lt))];exact bW _ (bW _ q)
def CV {tk:Tok}{aT:z0k}{n:Nat}{Q:Fin->146}(hx:h.get? a=some { cls:=476,data:=.seq aT n })(hh:569)
  (hq:∀h' t' e oe,(∀b o,h.get? b=65->162=65)->h'.get? e=some oe->oe.cls=.type "AttributeError" -> E (.ref e) ⟨h',g,d,t',os⟩) :
  wpAny 140 A (Builtin.«object.__getattribute__» ⟨[91,.str "keys" tk],[]⟩) Q E ⟨h,g,d,t,os⟩:=by
 have hT:(⟨h,g,d,t,os⟩:Shared).TypeIs 475 "list" := ⟨_,hx,rfl⟩;have f4:=yx
 repeat (any_goals (first | assumption | wp_step))
 exact Cj nofun hh hq
def p6 {aT:z0k}{n:Nat}{Q:z0j->146}(hx:h.get? a=some { cls:=476,data:=.seq aT n })(hh:569)
  (hq:∀h' t',(∀b o,h.get? b=65->162=65)->Q none ⟨h',g,d,t',os⟩):wpAny 140 A (getAttr? 475 "keys") Q E ⟨h,g,d,t,os⟩:=by
 have hT:∀t',(⟨h,g,d,t',os⟩:Shared).TypeIs 475 "list" := λt'=>⟨_,hx,rfl⟩;have f1:=HR;have f2:=xw.lookup;have f3:=xw.bind 475;have f4:=yy;unfold getAttr? getAttrBy? getAttrBy;refine au (wpAny_mkText (au (jS (gr (au (jr (hT _) ?_))))));rw [f2];refine au (aJ ?_);show wpAny _ _ (getAttrByItsOwn _ _ _ _ _ _) _ _ _;unfold getAttrByItsOwn;refine au (aJ (a:=none) (au (jS (gr ?_))));show wpAny _ _ (boundAndCalled _ _ _) _ _ _;unfold boundAndCalled;rw [f3];refine au (aJ (gM (pI xw.plain F.entry_list_ga (xw.check _ _ _ _ _ _ _ _ (hT _) (F.args_list_getattribute_2 _ _) (CV hx hh λh' t' e oe k ee ec=>?_)))));have te:(⟨h',g,d,t',os⟩:Shared).TypeIs (.ref e) "AttributeError" := ⟨oe,ee,ec⟩;show wpAny _ _ (getattributeRaised _ _ _ _ _ _ _) _ _ _;unfold getattributeRaised;refine au (mX te f1 ?_);rw [ar rfl];show wpAny _ _ (typeLookup _ _ >>= _) _ _ _;rw [f4];refine au (aJ ?_);show wpAny _ _ (throw _) _ _ _;refine wpAny_throw ?_;refine au (mX te f1 ?_);rw [ar rfl];exact aJ (hq h' t' k)
end
def fE:plainId "dict.update.loop"=true:=by decide +kernel
def lZ:entryFor table "dict.update.loop"=some Builtin.«dict.update.loop»:=entryFor_of_tree (nofun)
section
variable {prog:Program}{w:World}{K:Type} [DecidableEq K] {knd:KeyKind prog w K}{A:Around}{E:z0b}
def nK (knd:KeyKind prog w K)(h:Heap)(u:Value)(kv:K×Value):Prop :=
 ∃t key n o,u=.ref t/\knd.is kv.1 key=true/\h.get? t=65/\o.cls=378 /\ o.data=.seq #[key,kv.2] n
def nK.keep {h h':Heap}{u:Value}{kv:K×Value}(p:nK knd h u kv)(k:∀b o,o.cls=378 -> h.get? b=65->162=65):nK knd h' u kv :=
 let ⟨t,key,n,o,a,b,c,d,e⟩:=p;⟨t,key,n,o,a,b,k t o d c,d,e⟩
def Kh {R:Result->146}{d it l:Addr}{items:z0k}(hh:569):∀(more:List (K×Value)) (i:Nat)(s:Shared)(kvs:List (K×Value)) (j:Int)(tk:Tok),items.size=i+more.length ->
  s.heap.DictOf knd d kvs->s.heap.IsListIter it l i->s.heap.IsList l items->(∀m kv,more[m]?=some kv->∃u,items[i+m]?=some u/\nK knd s.heap u kv)->kvs.length+more.length<=sizeLine ->
  (∀h' t',h'.DictOf knd d (more.foldl (λa p=>stored a p.1 p.2) kvs)->(∀b o,b≠d->b≠it->259->162=65)->R (.ok (.ret .none)) 619) ->
  codeAny 140 A (.builtin "dict.update.loop" ⟨[.ref d,.ref it,.int j tk,.none],[]⟩) R s:=by
 intro more
 induction more with
 | nil =>
  intro i s kvs j tk hi hd hit hl hp hz hR;refine rA lZ ?_;rw [rT fE _];unfold Builtin.«dict.update.loop»;have hs:items[i]?=none:=Bi (by rw [hi];exact aE _);refine au (xr hh hit hl hs λh1 eb=>?_);have nd:d≠it:=λz=>by
   obtain⟨o,_,_,q,_,c,_⟩:=hd;obtain⟨o',q',_,c'⟩:=hit;rw [z,q'] at q;cases q;rw [c'] at c;cases c
  show wpAny _ _ (Builtin.Dict.addKeywords d [] >>= _) _ _ _;exact au (aJ (aJ (hR h1 s.toks (hd.extBut eb nd) λb o n1 n2 q=>eb b o n2 q)))
 | cons kv more ih =>
  intro i s kvs j tk hi hd hit hl hp hz hR;refine rA lZ ?_;rw [rT fE _];unfold Builtin.«dict.update.loop»;obtain⟨u,hu,t,key,n,o,rfl,hk,ho,hc,ze⟩:=hp 0 kv rfl;refine au (wpAny_pyNext_list_item hit hl hu λh1 ZJ sb=>?_);have nd:d≠it:=λz=>by
   obtain⟨o,_,_,q,_,c,_⟩:=hd;obtain⟨o',q',_,c'⟩:=hit;rw [z,q'] at q;cases q;rw [c'] at c;cases c
  have n2:∀b o,(o.cls=378 \/ o.cls=476)->259->b≠d/\b≠it:=by
   intro b o c q;constructor
   .intro z;obtain⟨o',q',c'⟩:=hd.typeIs;rw [z,q'] at q;cases q;rw [c'] at c;rcases c with c | c <;> exact absurd c nofun
   intro z;obtain⟨o',q',c',_⟩:=hit;rw [z,q'] at q;cases q;rw [c'] at c;rcases c with c | c <;> exact absurd c nofun
  have nt:∀b o,o.cls=378 -> 259->b≠d/\b≠it:=λb o c q=>n2 b o (.inl c) q;have nl:l≠d/\l≠it:=by
   obtain⟨o,q,c,_⟩:=hl;exact n2 l o (.inr c) q
  have JJ:h1.get? t=65:=(sb.2 t (nt t o hc ho).2).trans ho;have hd1:h1.DictOf knd d kvs:=hd.sameBut sb nd;refine au (gr (au (wpAny_tryCatch ?_)));unfold Builtin.Dict.pairItems;refine au (jr (T := "tuple") ⟨o,JJ,hc⟩ ?_);rw [ar nofun];refine au (mP JJ ze (aJ ?_));show wpAny _ _ (holding [key,kv.2] (dictSet d key kv.2)) _ _ _;rw [cf] at hz hi;refine gr (wpAny_dictSet_pairs (s:={ s with heap:=h1 }) hk hd1 (λh2 hd2 Tv=>?_) ∅);have kk:∀b o,b≠d->b≠it->259->h2.get? b=65:=λb o n1 n2 q=>(Tv.2 b n1).trans ((sb.2 b n2).trans q);have ln:(stored kvs kv.1 kv.2).length<=kvs.length+1:=by
   unfold stored
   split
   .simp
   simp
  refine 900
  .obtain⟨u',e1,e2⟩:=hp (m+1) ZA e;exact⟨u',by rw [<-e1];congr 1;omega,e2.keep λb o c q=>kk b o (nt b o c q).1 (nt b o c q).2 q⟩
  exact hR h3 t3 jx λb o n1 n2 q=>k3 b o n1 n2 (kk b o n1 n2 q)
def BI:(Value.type "list" != Value.type "dict")=true:=by decide
def uy {s:Shared}{l:Addr}{items:z0k}{n:Nat}{more:List (K×Value)}{Q:z0b}(knd:KeyKind prog w K)(hh:569)(hx:s.heap.get? l=some { cls:=476,data:=.seq items n })
  (hi:items.size=more.length)(hp:∀(m:Nat) kv,more[m]?=some kv->∃u,items[m]?=some u/\nK knd s.heap u kv)(hz:more.length<=sizeLine)
  (h:∀h' t',h'.DictOf knd s.heap.objs.size (more.foldl (λa p=>stored a p.1 p.2) [])->835->Q 720 619) :
  wpAny 140 A (call (564) [.ref l]) Q E s:=by
 refine 891;rintro obj s₁ ⟨rfl,rfl⟩;have CF:(s.heap.push 625).DictOf knd s.heap.objs.size []:=Heap.DictOf.new s.heap;have l0:=bW 625 hx;refine⟨CF.typeIs,F.args_dict_init_2 _ _,?_⟩;unfold Builtin.«dict.__init__» Builtin.Dict.selfAndRest;refine au (au (xq CF.typeIs (aJ ?_)));show wpAny _ _ (Builtin.Dict.updateFrom "dict.__init__" s.heap.objs.size (.ref l) [] .none) _ _ _;unfold Builtin.Dict.updateFrom;refine au (jr (T := "list") ⟨_,l0,rfl⟩ ?_);rw [ar BI];refine au (p6 l0 hh λh1 t1 k1=>?_);refine au (jq ?_);have l1:=k1 _ _ l0;refine au (pB ⟨_,l1,rfl,_,rfl⟩ ?_);have k2:∀b o,259->880=65:=λb o q=>bW _ (k1 _ _ (bW _ q));refine aJ ⟨kQ fE _,Kh (knd:=knd) (A:=A.in1) (l:=l) (items:=items) (show A.in1.handled=none from hh) more 0 _ [] _ _ (by rw [hi,iQ]) ?_ ⟨_,cU _ rfl,rfl,rfl⟩ ⟨_,k2 _ _ hx,rfl,n,rfl⟩ (λm kv e=>?_) (by simpa using hz) λh' t' hd k3=>?_⟩
 .obtain⟨o,es,ep,q,r⟩:=CF;exact⟨o,es,ep,bW _ (k1 _ _ q),r⟩
 .obtain⟨u,e1,e2⟩:=hp m kv e;exact⟨u,by rw [iQ];exact e1,e2.keep λb o _ q=>k2 b o q⟩
 refine⟨rfl,h h' t' hd λb o q=>k3 b o (bJ (aV q)) ?_ (k2 b o q)⟩;have:=aV (k1 _ _ (bW 625 q));exact bJ this
end
def G0 (X:Cx)(ifs:z0r)(t:TT):Prop :=
 ∀(ag:z0e)(s:Shared)(σ:St)(H:Hp)(Q:Bool->106),87->t σ H Q ->
  wpAny 110 X.A (forIn ifs true λc r=>if r=true then do let ok <-isTrue c X.env (eval c X.env);pure (ForInStep.yield ok) else pure (ForInStep.yield r)) (TP X ag σ Q) X.xe s
def jd:TT:=λ_ H Q=>Q true H
def cO {X:Cx}:G0 X [] jd:=λ_ _ _ H _ I h=>wpAny_tests_nil ⟨H,I,h⟩
def j4 {X:Cx}{c:Expr}{t:TT}(h:PT X c t):G0 X [c] t:=λag s σ H Q I hw=>wpAny_tests_one (h ag s σ H Q I hw)
def Ay {prog:Program}{w:World}{A:Around}{R:Result->146}{s:Shared}{elt target iter:Expr}{ifs:z0r}{scope:Scope}{pos:Pos}{it bD:Value}{env:Env}(I:Nat->146)
  (turn:∀n s,I n s->wpAny 140 A (pyNext it) (λr s₁=>match r with
   | none=>R (.ok .next) s₁
   | some v=>wpAny 140 A (letOwnedTupleGo target it v) (λ_ s₁=>wpAny 140 A (assign target env v) (λ_ s₂ =>
     wpAny 140 A (forIn ifs true λc r=>if r=true then do let ok <-isTrue c env (eval c env);pure (ForInStep.yield ok) else pure (ForInStep.yield r)) (λok s₃ =>
      if ok=true then wpAny 140 A (eval elt env) (λx s₄ =>
       wpAny 140 A (call (.builtin "list.append") [bD,x]) (λ_ s₅=>∃m,m < n/\I m s₅) (λ_ _=>False) s₄) (λ_ _=>False) s₃
      else ∃m,m < n/\I m s₃) (λ_ _=>False) s₂) (λ_ _=>False) s₁) (λ_ _=>False) s₁) (λ_ _=>False) s)
  (n:Nat)(h:I n s) :
  codeAny 140 A (.compLoop (.ListComp elt [⟨target,iter,ifs,0⟩] scope pos) 0 it bD env) R s:=by
 refine codeAny_loop rfl I (λn s hI=>?_) n h;show wpAny _ A ((compTurn (.ListComp elt [⟨target,iter,ifs,0⟩] scope pos) 0 it bD env).onRaise (λx=>do noteFrame x env;theTreesLotGoes x)) _ _ s;refine wpAny_noted ?_;rw [compTurn_list];refine au (wpAny_standAt (au (dD (turn n s hI) (λr s₁ h₁=>?_) λ_ _ h'=>h'.elim)));cases r with
 | none=>exact aJ h₁
 | some v =>
  refine au (dD h₁ (λ_ s₂ h₂=>?_) λ_ _ h'=>h'.elim);refine au (dD h₂ (λ_ s₂ h₂=>au (dD h₂ (λok s₃ h₃=>?_) λ_ _ h'=>h'.elim)) λ_ _ h'=>h'.elim);cases ok with
  | false=>exact aJ ⟨rfl,h₃⟩
  | true =>
   exact au (au (dD h₃ (λx s₄ h₄=>au (dD h₄ (λ_ s₅ h₅=>aJ (aJ ⟨rfl,h₅⟩)) λ_ _ h'=>h'.elim)) λ_ _ h'=>h'.elim))
def Fq {X:Cx}{a:Expr}{ta:TE}(K:aY)(ha:PE X a ta)(he:∀whole,isTrue a X.env whole=(do let v <-whole;standAt a.pos;holding [v] (truthy v)))(hK:X.K=K:=by rfl) :
  PT X a (λσ H Q=>ta σ H λx H'=>∃k,Ky K x H' k/\Q k H'):=by
 subst hK;exact iW ha he
structure Nj (env:Env)(scope:Scope)(cl:z0f):Prop where
 eq:closureFor scope env=pure cl
 sub:∀y c,cl.lookup y=some c->env.cells.lookup y=some c
 all:∀y,(y,NameKind.free)∈scope.names->∃c,cl.lookup y=some c
def j8 {y n:Str}{c:Addr}{l:z0f}:((n,c)::l).lookup y=if y=n then some c else l.lookup y:=by
 by_cases h:y=n
 .rw [ar h];simp [List.lookup,h]
 rw [aq h];simp [List.lookup,jB.mpr h]
def EU {env:Env}{scope:Scope}(h:∀y,(y,NameKind.free)∈scope.names->∃c,env.cells.lookup y=some c):∃cl,Nj env scope cl:=by
 have go:∀(names:List (Str×NameKind))(bD:z0f),(∀y,(y,NameKind.free)∈names->∃c,env.cells.lookup y=some c)->(∀y c,bD.lookup y=some c->env.cells.lookup y=some c) ->
   ∃cl,(forIn names bD λ(x:Str×NameKind)(cs:z0f)=>(if x.2 == .free then do let c <-cellOf env x.1;pure (ForInStep.yield ((x.1,c)::cs)) else pure (ForInStep.yield cs):Sem (ForInStep z0f)))=pure cl /\
    (∀y c,cl.lookup y=some c->env.cells.lookup y=some c)/\(∀y,(y,NameKind.free)∈names->∃c,cl.lookup y=some c)/\∀y c,bD.lookup y=some c->∃c',cl.lookup y=some c':=by
  intro names
  induction names with
  | nil=>intro bD _ hs;exact⟨bD,rfl,hs,λy hy=>absurd hy 90,λy c e=>⟨c,e⟩⟩
  | cons x r ih =>
   intro bD hf hs;obtain⟨n,k⟩:=x;rw [List.forIn_cons];by_cases hk:k=.free
   .subst hk;obtain⟨c0,e0⟩:=hf n a8;obtain⟨cl,e1,e2,e3,e4⟩:=ih ((n,c0)::bD) (λy hy=>hf y (bA _ hy)) (λy c e=>by
     rw [j8] at e;by_cases z:y=n
     .rw [ar z] at e;cases e;rw [z];exact e0
     rw [aq z] at e;exact hs y c e)
    refine⟨cl,?_,e2,λy hy=>?_,λy c e=>?_⟩
    .rw [<-e1];have:cellOf env n=pure c0:=by unfold cellOf;rw [e0]
     simp only [this];rfl
    .rcases a_.mp hy with z | z
     .cases z;exact e4 n c0 (by rw [j8,ar rfl])
     exact e3 y z
    by_cases z:y=n
    .exact e4 y c0 (by rw [j8,ar z])
    exact e4 y c (by rw [j8,aq z];exact e)
   obtain⟨cl,e1,e2,e3,e4⟩:=ih bD (λy hy=>hf y (bA _ hy)) hs;refine⟨cl,?_,e2,λy hy=>?_,e4⟩
   .rw [<-e1];have:(k == NameKind.free)=false:=by simpa using hk
    simp only [this];rfl
   rcases a_.mp hy with z | z
   .cases z;exact absurd rfl hk
   exact e3 y z
 obtain⟨cl,e1,e2,e3,_⟩:=go scope.names [] h (λy c e=>by simp at e);refine⟨cl,?_,e2,e3⟩;unfold closureFor;exact Eq.trans (congrArg (λt:Sem z0f=>t >>= λcs=>pure cs) e1) rfl
def yi {scope:Scope}{env:Env}{y:Str}(hk:env.scope.kind=.function)(hy:scope.names.lookup y=some .free)(he:env.kindOf y=some .cell):(relabel scope env).names.lookup y=some .cell:=by
 have go:∀l:List (Str×NameKind),l.lookup y=some .free->(l.map λ(x:Str×NameKind)=>if (x.2 == NameKind.free && env.scope.kind == .function && env.kindOf x.1 == some .cell) then (x.1,NameKind.cell) else (x.1,x.2)).lookup y=some .cell:=by
  intro l
  induction l with
  | nil=>intro z;cases z
  | cons x r ih =>
   obtain⟨n,k⟩:=x;intro hy;rw [bN];by_cases z:y=n
   .subst z;simp [List.lookup] at hy;subst hy;simp [List.lookup,hk,he]
   have zb:(y == n)=false:=jB.mpr z;simp only [List.lookup,zb] at hy;have:=ih hy;dsimp only
   split <;> simp only [List.lookup,zb] <;> exact this
 exact go _ hy
theorem yw {α:Type}{y:Str}{v:α}:∀{l:List (Str×α)},l.lookup y=some v->(y,v)∈l
 | [],h=>by cases h
 | (n,u)::r,h=>by
  by_cases z:y=n
  .subst z;simp [List.lookup] at h;subst h;exact a8
  have zb:(y == n)=false:=jB.mpr z;simp only [List.lookup,zb] at h;exact bA _ (yw h)
def oo {scope:Scope}{env:Env}{y:Str}{k:NameKind}(h:(relabel scope env).names.lookup y=some k)(hk:k=.cell\/k=.free)(hc:∀z∈scope.names,z.2≠.cell):(y,NameKind.free)∈scope.names:=by
 have m:=yw h;unfold relabel at m;obtain⟨⟨n,k'⟩,m1,m2⟩:=a9.mp m;dsimp only at m2
 split at m2
 .rename_i q
  cases m2;simp at q;obtain⟨⟨q,_⟩,_⟩:=q;subst q;exact m1
 cases m2;rcases hk with hk | hk
 .exact absurd hk (hc _ m1)
 rw [<-hk];exact m1
def yM (X:Cx)(scope:Scope)(cl:z0f)(C:Addr)(s1:Shared)(H1:Hp) (N:z0t)(fp:z0q):Cx :=
 { X with N:=N,s₀:=s1,H₀:=H1,env:=compEnvC scope cl C X.env,outer:=X.stack,stack:=X.stack,ex:=fp,fn:=λ_=>false,pn:=[],xe:=λ_ _=>False }
structure KO (X:Cx)(scope:Scope)(js:z0i):Prop where
 at_:∀p∈js,X.N[p.1]?=some p.2/\X.env.scope.names.lookup p.2=some .cell/\scope.names.lookup p.2=some .free
 all:885
def eV (ts:z0t)(js:z0i)(σ:St):St:=ts.map (λ_=>none)++js.map λp=>(σ[p.1]?).join
def F5 {X:Cx}{ag:z0e}{σ:St}{H:Hp}{s1 s4:Shared}{scope:Scope}{ts:z0t}{js:z0i}{cl:z0f}{fp:z0q}{C:Addr}{m:z0c}
  (I:Inv X ag σ H s1)(hf:∀b∈fp,yZ X ag H b)(N5:∀b∈fp,b < s1.heap.objs.size)(jK:scope.kind=.function)(jm:∀y∈scope.names,y.2≠.cell)(cp:KO X scope js)(nP:Nj X.env scope cl)
  (hC:s1.heap.objs.size < C)(ho:s4.os=s1.os)(hg:s4.gens=s1.gens)(old:∀b o,s1.heap.get? b=65->s4.heap.get? b=65)(hn:s4.heap.Ns C m)
  (hD:s4.heap.get? s1.heap.objs.size=some { cls:=476,data:=.seq ([]:z0m).toArray 0 }) :
  Inv (yM X scope cl C s1 H (ts++js.map 105) fp) [] (eV ts js σ) (upd H s1.heap.objs.size 103) s4:=by
 have xk:X.env.scope.kind=.function:=I.ok.kind;have has:∀y,((relabel scope X.env).names.lookup y=some .cell\/(relabel scope X.env).names.lookup y=some .free)->∃c,cl.lookup y=some c:=λy hy=>nP.all y (by
  rcases hy with hy | hy
  .exact oo hy 419 jm
  exact oo hy (.inr rfl) jm)
 have lt:∀y c,cl.lookup y=some c->c < s1.heap.objs.size:=λy c e=>by
  obtain⟨v,o,ho,_⟩:=I.cell y c (nP.sub y c e);exact aV ho
 refine⟨⟨I.ok.mod,jK,I.ok.glob,I.ok.blt,gq hC,λy z c h1 h2=>I.ok.inj y z c (nP.sub _ _ h1) (nP.sub _ _ h2),has,λy c h _=>absurd (show false=true from h) fg,I.ok.hd,I.ok.frames,.inl rfl,
   λb hb=>⟨bJ (Nat.lt_trans (N5 b hb) hC),λy c h=>(hf b hb).2.2.2.2.1 y c (nP.sub _ _ h)⟩,I.bs,cW I.ok.Hk I.sz,λb o e hb=>?_,λb hb=>?_,I.stack,I.qU⟩,
  ho,?_,Un.laid old 128 I.fresh,⟨m,hn,λi y v e1 e2 _=>?_⟩,λy c h=>?_,?_,λy c h=>?_,λp hp=>absurd (show p∈([]:z0e) from hp) 90,I.bI.laid old 128 ?_,?_⟩
 .obtain⟨_,_,_,h4,_⟩:=hf b hb;rcases h4 with h4 | h4
  .exact I.ok.zU b o e h4
  exact absurd (fK (aV (I.ok.bs b o e).1) h4) (ir _)
 .intro Af;obtain⟨_,h2,h3,_⟩:=hf b hb;rcases a_.mp (I.xM b Af) with z | z
  .exact h2 z
  exact h3 z
 .rw [hg];exact I.bare
 .have MQ:(ts++js.map 105)[i]?=some y:=e1;have Am:(ts.map (λ_=>(none:126))++js.map λp=>(σ[p.1]?).join)[i]?=some (some v):=e2;by_cases hi:i < ts.length
  .rw [gK (by simpa using hi)] at Am;simp [hi] at Am
  rw [iO ∅] at MQ;rw [iO (by simpa using Nat.le_of_not_lt hi)] at Am;rw [ay] at Am;rw [bx] at MQ Am;cases hj:js[i - ts.length]? with
  | none=>rw [hj] at MQ;cases MQ
  | some p =>
   rw [hj] at MQ Am;simp only [rG,Option.some.injEq] at MQ Am;obtain⟨a1,a2,a3⟩:=cp.at_ p (cv hj);subst MQ;have es:σ[p.1]?=some (some v):=by
    cases q:σ[p.1]? with
    | none=>rw [q] at Am;cases Am
    | some z=>rw [q] at Am;exact congrArg some Am
   obtain⟨m0,hn0,lk⟩:=I.loc;obtain⟨u,ru,l⟩:=lk p.1 p.2 v a1 es (.inr (.inl a2));rcases l with l | ⟨_,c,ec,o,hc,hd⟩
   .have l1:X.env.scope.names.lookup p.2=531:=l.1;rw [a2] at l1;cases l1
   obtain⟨c',ec'⟩:=nP.all p.2 (yw a3);have e3:=nP.sub _ _ ec';rw [ec] at e3;cases e3;exact⟨u,ru,.inr ⟨.inl (yi xk a3 a2),c,ec',o,old _ _ hc,hd⟩⟩
 .obtain⟨v,o,h1,h2⟩:=I.cell y c (nP.sub y c h);exact⟨v,o,old _ _ h1,h2⟩
 .show upd H s1.heap.objs.size 103 C=none;rw [ai (iP hC)];exact I.bI.fresh (gq hC)
 .show upd H s1.heap.objs.size 103 c=none;rw [ai (bJ (lt y c h))];exact I.i6 y c (nP.sub y c h)
 .exact⟨by show 0<=sizeLine;decide,[],0,.nil,hD⟩
 show (eV ts js σ).length=(ts++js.map 105).length;simp [eV]
def BH (wi:TI) (ts:z0t)(js:z0i)(g:TG)(tif:TT)(te:TE):TE:=λσ H Q=>wi σ H λJ H1=>∀D,H1 D=none->∃W:Nat->490,(∃m,W 0 m [] (eV ts js σ) (upd H1 D 103)) /\
 ∀i m ys σ' H,529->(J.stop i H/\Q (.ref D) H)\/(J.go i H/\∃m',m' < m/\∀x H',J.o7 i H x H'->g x σ' H' λσ2 H2=>tif σ2 H2 λb H3 =>
  if b=true then te σ2 H3 526 else 527)
def wz {X:Cx}{elt iter tg:Expr}{ifs:z0r}{scope:Scope}{pos p0:Pos}{wi:TI}{g:TG}{tif:TT}{te:TE}(ts:z0t)(js:z0i)(hc:530)(hi:PI X tg iter wi)
  (cp:KO X scope js)(jm:∀y∈scope.names,y.2≠.cell)(jK:scope.kind=.function)
  (tU:∀y∈scope.names,y.2=.local->scope.names.lookup y.1=531)
  (hg:∀cl C s1 H1 fp,PG 703 tg g)
  (U8:∀cl C s1 H1 fp,G0 703 ifs tif)(he:∀cl C s1 H1 fp,PE 703 elt te)
  (hs:∀x,foldedSetIterable iter X.env x=pure x){use:Option (Value->Sem Unit)}{QQ:z0b}{ag:z0e}{s:Shared}{σ:St}{H:Hp}{Q:VK}(I:87)(h:BH wi ts js g tif te σ H Q)
  (fin:∀{cl:z0f}{C:Addr}{s2:Shared}{H2:Hp}{fp:z0q}{s':Shared}{σ':St}{H':Hp},Inv X ag σ H2 s2->(∀b∈fp,yZ X ag H2 b)->C=s2.heap.objs.size+1->Inv (yM X scope cl C s2 H2 (ts++js.map 105) fp) [] σ' H' s'->Q (721) H'->compPost 110 X.A X.xe use QQ (721) C (.ok .next) s') :
  wpAny 110 X.A (comprehension 782 scope X.env p0 (newList []) false (eval iter X.env) use) QQ X.xe s:=by
 obtain⟨cl,nP⟩:=EU (env:=X.env) (scope:=scope) λy hy=>I.ok.has y (.inl (cp.all y hy));refine wpAny_comprehension_free (use:=use) rfl hs nP.eq jK tU (cK (hi ag s σ H _ I h) λv s1 h1=>cK h1 λZI s2 h2=>?_);obtain⟨it,fp,tn,J,H2,e,I2,T,gk,f2,h2⟩:=h2;subst e;obtain⟨W,⟨m0,w0⟩,turn⟩:=h2 s2.heap.objs.size I2.fresh;have N5:∀b∈fp,b < s2.heap.objs.size:=λb hb=>by obtain⟨o,e,_⟩:=T.obj _ _ gk b hb;exact aV e
 refine kr (wpAny_newFunctionEnv jm (by intro y hy;simp at hy) (λh₁ Qz Mv=>?_) jK);dsimp only at Qz Mv ⊢;generalize hH2:s2.heap.push { cls:=476,dict:=none,data:=.seq ([]:z0m).toArray }=G2 at Qz Mv ⊢;have N_:G2.objs.size=s2.heap.objs.size+1:=by rw [<-hH2,mO]
 have hDC:s2.heap.objs.size≠G2.objs.size:=by rw [N_];exact bJ (mY _)
 have old:∀b o,s2.heap.get? b=65->h₁.get? b=65:=λb o e =>
  Mv.extBut b o (by rw [N_];exact bJ (kX (aV e))) (bW _ (hH2 ▸ bW _ e))
 have l_:h₁.get? s2.heap.objs.size=some { cls:=476,data:=.seq ([]:z0m).toArray 0 }:=Mv.extBut _ _ hDC (bW _ (hH2 ▸ cU _ rfl));generalize Sd:yM X scope cl G2.objs.size s2 H2 (ts++js.map 105) fp=X2;have I4:Inv X2 [] (eV ts js σ) (upd H2 s2.heap.objs.size 103) { s2 with heap:=h₁,toks:=s2.toks+([]:z0d).length }:=by
  rw [<-Sd];exact F5 I2 f2 N5 jK jm cp nP (by rw [N_];exact mY _) rfl rfl old Qz l_
 have hg':PG X2 tg g:=by rw [<-Sd];exact hg _ _ _ _ _
 have aae:G0 X2 ifs tif:=by rw [<-Sd];exact U8 _ _ _ _ _
 have Vb:PE X2 elt te:=by rw [<-Sd];exact he _ _ _ _ _
 have Nt:tn 0 h₁:=T.keep _ _ _ gk λb _ o e=>old b o e;have BJ:∀{H':Hp}{ml:z0e},(∀b∈fp,H' b=none)->(∀p∈ml,p.1∉fp)->∀b∈fp,yZ X2 ml H' b:=λ{H' ml} hn hp b hb=>by
  have o4:=I4.ok;subst Sd;exact⟨hn b hb,(o4.QY b hb).1,o4.Ak b hb,.inl hb,(o4.QY b hb).2,λp oH=>by
   have He:p∈([]:z0e)++ml:=oH;rw [mU] at He;intro z;exact hp p He (by rw [z];exact hb)⟩
 have loop:∀s₃:Shared,s₃={ s2 with heap:=h₁,toks:=s2.toks+([]:z0d).length } ->
   codeAny 110 X.A (.compLoop 782 0 (.ref it) (721) (compEnvC scope cl G2.objs.size X.env))
    (compPost 110 X.A X.xe use QQ (721) G2.objs.size) s₃:=by
  rintro s₃ rfl;subst Sd;refine Ay (λn s'=>∃i ys σ' H',Inv 826 [] σ' H' s'/\tn i s'.heap/\(∀b∈fp,H' b=none)/\W i n ys σ' H') ?_ m0
   ⟨0,[],_,_,I4,Nt,λb hb=>by rw [ai (bJ (N5 b hb))];exact(f2 b hb).1,w0⟩
  rintro n s' ⟨i,ys,σ0,H',J',aS,fr',w'⟩;rcases turn i n ys σ0 H' w' with ⟨stop,q⟩ | ⟨go,m',hm,step⟩
  .refine dD (T.done 826 rfl rfl rfl hc i [] s' _ H' (λ_ _=>False) J' (BJ fr' 90) aS stop) (λr s4 ⟨hr,J4⟩=>?_) 479;subst hr;exact fin I2 f2 N_ J4 q
  refine dD (T.item 826 rfl rfl rfl hc i [] s' _ H' (λ_ _=>False) J' (BJ fr' 90) aS go) (λr s4 ⟨u,hr,h4⟩=>?_) 479;subst hr;refine dD h4 (λ_ s5 ba=>?_) 479;obtain⟨xv,H5,J5,r5,y5,Lo,fr5⟩:=ba;have J5':=J5.pinned (BJ fr5 90) (T.obj _ _ Lo);have back:∀{s7:Shared}{σ7:St}{H7:Hp},Inv 826 ([]++s_ fp s5.heap) σ7 H7 s7->Inv 826 [] σ7 H7 s7/\tn (i+1) s7.heap/\∀b∈fp,H7 b=none:=λ{s7 σ7 H7} J7=>by
   refine⟨J7.nW,T.keep _ _ _ Lo λb hb o e=>(J7.pin (b,o) (eZ _ (eZ _ (j6 hb e)))).1,λb hb=>?_⟩;obtain⟨o,e,d⟩:=T.obj _ _ Lo b hb;exact(J7.pin (b,o) (eZ _ (eZ _ (j6 hb e)))).2.1
  show wpAny _ _ (assign tg (yM X scope cl G2.objs.size s2 H2 (ts++js.map 105) fp).env u) _ _ s5;refine dD (hg' _ s5 _ H5 xv u _ J5' r5 (step xv H5 y5)) (λ_ s6 ba=>?_) 479;obtain⟨σ6,H6,J6,q6⟩:=ba;refine dD (aae _ s6 _ H6 _ J6 q6) (λb s7 ba=>?_) 479;obtain⟨H7,J7,q7⟩:=ba;cases b with
  | false =>
   rw [aq fg] at q7 ⊢;obtain⟨J8,st8,fr8⟩:=back J7;exact⟨m',hm,i+1,ys,σ6,H7,J8,st8,fr8,q7⟩
  | true =>
   rw [ar rfl] at q7 ⊢;refine dD (Vb _ s7 _ H7 _ J7 q7) (λyv s8 ba=>?_) 479;obtain⟨y,H8,J8,r8,hD8,Qn,w8⟩:=ba;refine dD (df (X:=yM X scope cl G2.objs.size s2 H2 (ts++js.map 105) fp) _ s8 _ H8 (721) [y] (721) [yv] (λv H'=>W (i+1) m' (ys++[y]) σ6 H') J8 rfl (.cons r8 .nil) ⟨s2.heap.objs.size,ys,y,rfl,rfl,hD8,Qn,w8⟩)
    (λ_ s9 ⟨_,H9,J9,_,w9⟩=>?_) 479
   obtain⟨J10,Yp,aan⟩:=back J9;exact⟨m',hm,i+1,ys++[y],σ6,H9,J10,Yp,aan,w9⟩
 exact codeAny_compStart_list (loop _ rfl) (T.self _ _ _ _ _ Nt (loop _ rfl))
def cm {X:Cx}{elt iter tg:Expr}{ifs:z0r}{scope:Scope}{pos:Pos}{wi:TI}{g:TG}{tif:TT}{te:TE}(ts:z0t)(js:z0i)(hc:530)(hi:PI X tg iter wi)
  (cp:KO X scope js)(jm:∀y∈scope.names,y.2≠.cell)(jK:scope.kind=.function)
  (tU:∀y∈scope.names,y.2=.local->scope.names.lookup y.1=531)
  (hg:∀cl C s1 H1 fp,PG 703 tg g)
  (U8:∀cl C s1 H1 fp,G0 703 ifs tif)(he:∀cl C s1 H1 fp,PE 703 elt te)
  (hs:∀x,foldedSetIterable iter X.env x=pure x:=by intro _;rfl) :
  PE X 782 (BH wi ts js g tif te):=by
 intro ag s σ H Q I h;rw [eval_ListComp];refine wz ts js hc hi cp jm jK tU hg U8 he hs I h λ{cl C s2 H2 fp s' σ' H'} I2 f2 N_ J' q=>?_;obtain⟨m',QA,_⟩:=J'.loc;refine⟨m',QA,λh' j_=>?_⟩;have u:Un (qN X.stack) fp H2 H' s2.heap s'.heap:=J'.base;have nC:∀b o,s2.heap.get? b=65->b≠C:=λb o e=>by rw [N_];exact bJ (kX (aV e))
 have u':Un (qN X.stack) fp H2 H' s2.heap h':=⟨λb o e n hb hx=>(j_.2 b (nC b o e)).trans (u.keep b o e n hb hx),λb o e n hb hx=>by
   obtain⟨sl,z⟩:=u.slot b o e n hb hx;exact⟨sl,(j_.2 b (nC b o e)).trans z⟩,u.free,λb o e hx=>by
   obtain⟨o',z⟩:=u.there b o e hx;exact⟨o',(j_.2 b (nC b o e)).trans z⟩,u.sG,u.qM,u.qG⟩
 have bI:mJ X.prog X.w H' h':=λb ob e=>by
  refine(J'.bI b ob e).jZ (λc w' tW q'=>(j_.2 c ?_).trans q') (λ_ q=>q) λ_ _ q=>q;intro z;have fr:H' C=none:=J'.free;rcases tW with z' | z'
  .rw [<-z'] at e;rw [z,fr] at e;cases e
  rw [z,fr] at z';cases z'
 have I5:Inv X ag σ H' { s' with heap:=h' }:=I2.EW (s':={ s' with heap:=h' }) J'.os u' bI J'.bare λb hb=>by
  obtain⟨_,f1,_,f3,f4,f5⟩:=f2 b hb;exact⟨f3,f1,f4,f5⟩
 exact⟨721,H',I5,rfl,q⟩
def Ws (K:aY)(a:Addr):It :=
 ⟨λi H=>∃xs x,aX K H a xs/\575,λi H x H'=>∃t y,x=.ref t/\H t=none/\H'=upd H t (.tup [141,y])/\∀xs,aX K H a xs->xs[i]?=some y,λi H=>∃xs,aX K H a xs/\xs.length<=i⟩
def sF {P:Program}{w:World}{K:aY}{elts:z0r}{k:Nat}{sH:Pos}{Sq:Hp->84->Prop}{IT:Nat->Heap->Prop}(e it:Addr)(QK:e≠it)(ob:∀{i h},IT i h->∃o,h.get? it=65/\∀v,o.data≠.cell v)(kp:∀{i h h'},IT i h->(∀o,h.get? it=65->h'.get? it=65)->IT i h')
  (inj:∀{X:Cx}{ag:z0e}{σ:St}{H:Hp}{s:Shared}{xs ys:84},X.K=K->87->Sq H ys->Sq H xs->ys=xs)
  (itm:∀{X:Cx}{ag:z0e}{σ:St}{H:Hp}{s:Shared}{E:z0b}{Q:z0j->146}{i:Nat}{xs:84}{x:V}{old:Value},X.K=K->87->Sq H xs->575->IsEnum s.heap e it i old->IT i s.heap ->
   (∀u h',RelV x u->IsEnumOut h' e it ((i:Int)+1) u s.heap.objs.size->IT (i+1) h'->h'.get? s.heap.objs.size=some { cls:=378,data:=.seq #[.int i s.toks,u] }->(∀b o,b≠e->b≠it->259->162=65)->Q (some 720) { s with heap:=h',toks:=s.toks+1 })->wpAny 110 X.A (pyNext (.ref e)) Q E s)
  (dn:∀{X:Cx}{ag:z0e}{σ:St}{H:Hp}{s:Shared}{E:z0b}{Q:z0j->146}{i:Nat}{xs:84}{old:Value},X.K=K->530->87->Sq H xs->xs.length<=i->IsEnum s.heap e it i old->IT i s.heap->(∀h',Heap.ExtBut it s.heap h'->Q none 517)->wpAny 110 X.A (pyNext (.ref e)) Q E s) :
  Turn P w K (.Tuple elts k sH) ⟨λi H=>∃xs x,Sq H xs/\575,λi H x H'=>∃t y,x=.ref t/\H t=none/\H'=upd H t (.tup [141,y])/\∀xs,Sq H xs->xs[i]?=some y,λi H=>∃xs,Sq H xs/\xs.length<=i⟩ [e,it] e (λi h=>(∃old,IsEnum h e it i old)/\IT i h) where
 mem:=58
 obj:=λi h st b hb=>by
  obtain⟨⟨old,he⟩,hit⟩:=st;rcases a_.mp hb with rfl | hb
  .exact⟨_,he,λv z=>by cases z⟩
  obtain rfl:b=it:=544
  exact ob hit
 keep:=λi h h' st k=>⟨⟨st.1.choose,k e 90 _ st.1.choose_spec⟩,kp st.2 λo q=>k it 90 o q⟩
 item:=by
  intro X hP hw hK hc i ag s σ H E I hf st hg;subst hP hw hK;obtain⟨xs,x,hq,hx⟩:=hg;obtain⟨⟨old,he⟩,hit⟩:=st;refine itm rfl I hq hx he hit λu h1 ru ho JN hT hk=>?_;refine⟨_,rfl,wpAny_letOwnedTupleGo_enum ho λh2 he2 sb=>?_⟩;have ne:s.heap.objs.size≠e:=iP (aV he);have kk:∀b o,b≠e->b≠it->259->h2.get? b=65:=λb o n1 n2 q=>(sb.2 b n1).trans (hk b o n1 n2 q);have T2:h2.get? s.heap.objs.size=some { cls:=378,data:=.seq #[.int i s.toks,u] }:=(sb.2 _ ne).trans hT;have fe:=hf e 90;have fi:=hf it 90;have fT:H s.heap.objs.size=none:=I.bI.fresh 128;have tr:∀b v,H b=some v->b≠e/\b≠it:=λb v q=>⟨λz=>(by rw [z,fe.1] at q;cases q),λz=>(by rw [z,fi.1] at q;cases q)⟩;have nc:∀b,b∉[e,it]->b≠e/\b≠it:=λb z=>⟨λq=>z (by simp [q]),λq=>z (by simp [q])⟩;have lt:∀b o,259->b≠s.heap.objs.size:=λb o q=>bJ (aV q);have I2:Inv X ag σ (upd H s.heap.objs.size (.tup [141,x])) { s with heap:=h2,toks:=s.toks+1 }:=by
   refine I.call (g':=s.gens) (t':=s.toks+1) (d':=s.drawn) (ch:=[e,it]) ⟨λb o q _ _ c=>kk b o (nc b c).1 (nc b c).2 q,λb o q _ _ c=>⟨o.slots,kk b o (nc b c).1 (nc b c).2 q⟩,
    λb o q n _=>by rw [ai (lt b o q)];exact n,λb o q c=>⟨o,kk b o (nc b c).1 (nc b c).2 q⟩,λb ys q=>by rw [ai (aB q fT)];exact q,λb o v q=>by rw [ai (aB q fT)];exact q,
    λb ps q=>⟨#[],by rw [ai (aB q fT),q];simp⟩⟩ (λb v q=>?_) I.bare (λb hb=>?_)
   .by_cases hb:b=s.heap.objs.size
    .subst hb;rw [af] at q;cases q;exact⟨by show 2<=sizeLine;decide,[.int i s.toks,u],.cons 421 (.cons ru .nil),_,T2,rfl,_,rfl⟩
    rw [ai hb] at q;refine(I.bI b v q).jZ (λc o tW z=>?_) (λc q'=>by rw [ai (aB q' fT)];exact q') λc ys q'=>by rw [ai (aB q' fT)];exact q'
    rcases tW with rfl | tW
    .exact kk c o (tr c _ q).1 (tr c _ q).2 z
    exact kk c o (tr c _ tW).1 (tr c _ tW).2 z
   rcases a_.mp hb with rfl | hb
   .exact⟨fe.2.2.2.1,fe.2.1,fe.2.2.2.2.1,fe.2.2.2.2.2⟩
   obtain rfl:b=it:=544
   exact⟨fi.2.2.2.1,fi.2.1,fi.2.2.2.2.1,fi.2.2.2.2.2⟩
  refine⟨491,_,I2,rfl,⟨_,x,rfl,fT,rfl,λys hy=>by rw [inj rfl I hy hq];exact hx⟩,⟨⟨_,he2⟩,kp JN λo q=>(sb.2 it QK.symm).trans q⟩,λb hb=>?_⟩;have Af:H b=none/\∃o,259:=by
   rcases a_.mp hb with rfl | hb
   .exact⟨fe.1,_,he⟩
   obtain rfl:b=it:=544
   obtain⟨o,q,_⟩:=ob hit;exact⟨fi.1,o,q⟩
  obtain⟨n,o,q⟩:=Af;rw [ai (lt b o q)];exact n
 done:=by
  intro X hP hw hK hc i ag s σ H E I hf st hg;subst hP hw hK;obtain⟨xs,hq,hx⟩:=hg;obtain⟨⟨old,he⟩,hit⟩:=st;obtain⟨f0,f1,f2,f3,f4,f5⟩:=hf it 90;exact dn rfl hc I hq hx he hit 811
 self:=λ_ _ _ _ _ st h=>wpAny_pyIter_enum st.1.choose_spec h
def Fg {P:Program}{w:World}{K:aY}{elts:z0r}{k:Nat}{sH:Pos}(a e it:Addr)(QK:e≠it) :
  Turn P w K (.Tuple elts k sH) (Ws K a) [e,it] e (λi h=>(∃old,IsEnum h e it i old)/\h.IsListIter it a i) :=
 sF (Sq:=λH xs=>aX K H a xs) e it QK (λ⟨o,e1,_,d⟩=>⟨o,e1,λv z=>by rw [d] at z;cases z⟩) (λst k=>st.at k) (λe I hy hx=>by subst e;exact I.tP hy hx)
  (λe I hq hx he hit hQ=>by
   subst e;obtain⟨aT,rv,p,hz⟩:=I.list hq;obtain⟨u,hu,ru⟩:=rv.get hx;exact wpAny_pyNext_enum_item he hit p.isList (x:=u) (by simpa using hu) QK λh1 ho JN hT hsz hk=>hQ u h1 ru ho JN hT hk)
  λe hc I hq hx he hit hQ=>by
   subst e;obtain⟨aT,rv,p,hz⟩:=I.list hq;have hl:=rv.length;exact wpAny_pyNext_enum_end (I.ok.hd hc) he hit p.isList (548) λh' eb=>hQ h' eb
def wG:bootBuiltins "enumerate"=some (.type "enumerate"):=by decide +kernel
def UE (K:aY)(ta:TA):TI:=λσ H R=>ta σ H λvs H1=>XEn vs (aX K H1) λa=>R (Ws K a) H1
def ot {X:Cx}{elts:z0r}{k:Nat}{sH:Pos}{l:Expr}{ta:TA}{p pos:Pos}(hg:Gl X "enumerate")(hm:X.mg "enumerate"=none)(ha:PA X [l] ta)(hs:starEach [l] X.env=[(false,eval l X.env)]:=by rfl) :
  PI X (.Tuple elts k sH) (.Call (.Name "enumerate" p) [l] [] pos) (UE X.K ta):=by
 intro ag s σ H R I h;refine Call_ (j9 I hg hm wG (xE 648 hs rfl));obtain⟨vs,H1,I1,r1,q1⟩:=ba;obtain⟨a,xs,e,hq,q⟩:=q1;subst e;obtain⟨u,rfl,rx⟩:=r1.one;cases rx;obtain⟨aT,rv,pl,hz⟩:=I1.list hq;refine call_enumerate_list pl.isList λh1 he hit hsz hk=>wpAny_pyIter_enum he ?_;refine⟨s1.heap.objs.size+1,[s1.heap.objs.size+1,s1.heap.objs.size],_,_,H1,rfl,I1.kept (t':=s1.toks) λb o e=>hk b o e,Fg a _ _ (iP (mY _)),⟨⟨_,he⟩,hit⟩,λb hb=>?_,q⟩;rcases a_.mp hb with rfl | hb
 .exact I1.yG (jR _) (I1.bI.fresh (jR _))
 obtain rfl:b=s1.heap.objs.size:=544
 exact I1.yG 128 (I1.bI.fresh 128)
def cR (kvs bD:86):86:=kvs.foldl (λa p=>bB a p.1 p.2) bD
theorem uc:∀{kvs:86}{vs:List (aI×Value)}{bD:86}{Ks:List (aI×Value)},KV kvs vs->KV bD Ks->KV (cR kvs bD) (vs.foldl (λa p=>stored a p.1 p.2) Ks)
 | _,_,_,_,.nil,h=>h
 | _,_,_,_,.cons (a:=p) (b:=q) r t,h=>by
  obtain⟨e,rv⟩:=r;show KV (cR _ (bB _ p.1 p.2)) (List.foldl _ (stored _ q.1 q.2) _);rw [<-e];exact uc t (h.put p.1 rv)
theorem ue:∀(kvs bD:86),(cR kvs bD).length<=bD.length+kvs.length
 | [],bD=>by simp [cR]
 | p::r,bD=>by
  have:=ue r (bB bD p.1 p.2);have:=fq bD p.1 p.2;show (cR r (bB bD p.1 p.2)).length<=_;rw [cf];omega
section
variable {X:Cx}{ag:z0e}{σ:St}{H:Hp}{s:Shared}
theorem pairs_at (I:87):∀{ts:z0q}{kvs:86}{aT:z0m},Paired (λt kv=>aU X.K H t [kV kv.1,kv.2]) ts kvs->bq 582 aT ->
  ∃vs:List (aI×Value),KV kvs vs/\Paired (λu kv=>nK (aK X.prog X.w) s.heap u kv) aT vs
 | [],_,_,.nil,r=>by
  rw [kP] at r;cases r;exact⟨[],.nil,.nil⟩
 | t::ts,kv::kvs,_,.cons h p,r=>by
  rw [bN] at r;cases r with
  | cons r1 r2 =>
   obtain⟨vs,e1,e2⟩:=pairs_at I p r2;obtain⟨aT,rv,⟨o,h1,h2,n,h3⟩,_⟩:=I.tuple h;obtain⟨u1,u2,rfl,q1,q2⟩:=vals2 rv;exact⟨(kv.1,u2)::vs,.cons ⟨rfl,q2⟩ e1,.cons ⟨t,u1,n,o,r1,mz q1,h1,h2,h3⟩ e2⟩
theorem Paired.at_ {α β:Type}{F:α->β->Prop}:∀{xs:List α}{ys:List β},Paired F xs ys->∀(m:Nat)(y:β),ys[m]?=some y->∃x,xs[m]?=some x/\F x y
 | _,_,.nil,m,y,e=>by cases m <;> cases e
 | _,_,.cons h t,0,y,e=>by cases e;exact⟨_,rfl,h⟩
 | _,_,.cons h t,m+1,y,e=>Paired.at_ t m y e
def d8 (hc:530):gL X (564) (λxs H Q=>∃a ts kvs,xs=[91]/\H a=480/\Paired (λt kv=>aU X.K H t [kV kv.1,kv.2]) ts kvs/\∀d,H d=none->Q (.ref d) (upd H d (.dK (cR kvs [])))):=by
 intro ag s σ H xs us Q I r h;obtain⟨a,ts,kvs,rfl,e,p,q⟩:=h;obtain⟨u,rfl,rx⟩:=vals1 r;cases 713;obtain⟨z,aT,n,rv,ho⟩:=(show bR X.prog X.w H s.heap a (.lst _) from I.bI a _ e);obtain⟨vs,r1,r2⟩:=pairs_at I p rv;have l1:=bf r2;have l2:=r1.length;have l3:=bf p;rw [ay] at z;refine uy (aK X.prog X.w) (I.ok.hd hc) ho (by simpa using l1) (λm kv em=>?_) ∅ λh' t' hd kk=>?_
 .obtain⟨u,e1,e2⟩:=Paired.at_ r2 m kv em;exact⟨u,by simpa using e1,e2⟩
 have new:bR X.prog X.w (upd H s.heap.objs.size (.dK (cR kvs []))) h' s.heap.objs.size (.dK (cR kvs [])):=by
  refine uk ?_ ?_ (uc r1 .nil) hd
  .have:=ue kvs [];simp at this;omega
  have:=I.big;exact jB.mpr (iP this)
 exact⟨491,_,I.laid (t':=t') kk 128 new,rfl,q _ (I.bI.fresh 128)⟩
theorem pW {α β:Type}{F:α->β->Prop}:∀{xs:List α}{ys:List β},xs.length=ys.length->(∀(j:Nat) x y,xs[j]?=some x->ys[j]?=some y->F x y)->Paired F xs ys
 | [],[],_,_=>.nil
 | [],_::_,e,_=>by cases e
 | _::_,[],e,_=>by cases e
 | x::xs,y::ys,e,h=>.cons (h 0 x y rfl rfl) (pW (Nat.succ.inj e) λj a b e1 e2=>h (j+1) a b e1 e2)
def EB {P:Program}{w:World}{k:aI}{u:Value}(h:(aK P w).is k u=true):RelV (kV k) u:=by
 rcases cy (show mw k u=true from h) with ⟨i,t,rfl,rfl⟩ | ⟨x,t,rfl,rfl⟩
 .exact⟨t,rfl⟩
 exact⟨t,rfl⟩
def nJ (hc:530):gL X (476) (λxs H Q=>∃a kvs,xs=[91]/\H a=375/\∀D,H D=none->Q (.ref D) (upd H D (.lst (622)))):=by
 intro ag s σ H xs us Q I r h;obtain⟨a,kvs,rfl,e,q⟩:=h;obtain⟨u,rfl,rx⟩:=vals1 r;cases 713;obtain⟨z,hs,vs,rel,dd⟩:=uj I.bI e;obtain⟨o,es,ep,d1,d2,d3,d4⟩:=dd;have l1:=rel.length;refine PySem.W.kdl_call (PySem.W.kdl_dict (knd:=aK X.prog X.w) (kvs:=vs) (ep:=ep) hs) (I.ok.hd hc) ⟨o,es,d1,d2,d3,d4⟩ ∅ λh' tk bD c kk hD l_=>?_;have keys:=rel.keys;have vals:bq (622) bD.toList:=by
  refine pW (by have h1:=l_.1;simp only [ay,ix];omega) λj x y e1 e2=>?_;rw [mh] at e2;obtain⟨k,v,e3,e4⟩:=l_.2 j y e2;rw [bx] at e1;obtain⟨p,e5,rfl⟩:=cH.mp e1;have e6:(kvs.map 27)[j]?=some p.1:=by rw [bx,e5];rfl
  rw [keys,bx,e3] at e6;cases e6;exact EB e4
 have new:bR X.prog X.w (upd H s.heap.objs.size (.lst (622))) h' s.heap.objs.size (.lst (622)):=⟨by rw [ay];exact z,bD.toList,c,vals,by simpa using hD⟩;exact⟨491,_,I.laid (t':=tk) kk 128 new,rfl,q _ (I.bI.fresh 128)⟩
end
section
variable {K:aY}{a D:Addr}{xs:84}{ts:z0t}{js:z0i}{g:TG}{tif:TT}{te:TE}{R:106}{σ:St}{H:Hp}
def dB (Pv:490)(h0:Pv 0 [] (eV ts js σ) 482)(hl:∀i ys σ H,i<=xs.length->Pv i ys σ H->aX K H a xs)
  (hs:∀i x ys σ H,575->Pv i ys σ H->g x σ H 799)
  (hd:∀ys σ H,Pv xs.length ys σ H->R H) :
  ∃W:Nat->490,834 /\
 ∀i m ys σ' H,529->((mI K a).stop i H/\R H)\/((mI K a).go i H/\∃m',m' < m/\∀x H',(mI K a).o7 i H x H'->g x σ' H' λσ2 H2=>tif σ2 H2 λb H3 =>
  if b=true then te σ2 H3 526 else 527):=by
 refine 869;rintro i m ys σ' H ⟨rfl,hi,p⟩;have q:=hl i ys σ' H hi p;by_cases jQ:i < xs.length
 .refine 884;obtain⟨e,y⟩:=y;subst e;have z:=hs i x ys σ' _ (y xs q) p;have h1:(i+1<=xs.length)=True:=eq_true jQ;simp only [h1,true_and];exact z
 have e:i=xs.length:=121
 subst e;exact .inl ⟨⟨xs,q,aE _⟩,hd ys σ' H p⟩
def qB {lo:Int}{n:Nat}(Pv:490)(h0:Pv 0 [] (eV ts js σ) 482)
  (hs:∀i ys σ H,i < n->Pv i ys σ H->g (.int (lo+i)) σ H 799)
  (hd:∀ys σ H,Pv n ys σ H->R H) :
  ∃W:Nat->490,834 /\
 ∀i m ys σ' H,529->((Ni lo n).stop i H/\R H)\/((Ni lo n).go i H/\∃m',m' < m/\∀x H',(Ni lo n).o7 i H x H'->g x σ' H' λσ2 H2=>tif σ2 H2 λb H3 =>
  if b=true then te σ2 H3 526 else 527):=by
 refine⟨λi m ys σ H=>m=n - i/\i<=n/\Pv i ys σ H,⟨n,58,cV _,h0⟩,?_⟩;rintro i m ys σ' H ⟨rfl,hi,p⟩;by_cases jQ:i < n
 .refine .inr ⟨jQ,n - (i+1),∅,λx H' y=>?_⟩;obtain⟨rfl,rfl⟩:=y;have z:=hs i ys σ' _ jQ p;have h1:(i+1<=n)=True:=eq_true jQ;simp only [h1,true_and];exact z
 have e:i=n:=121
 subst e;exact .inl ⟨aE _,hd ys σ' H p⟩
end
def JB {K:aY}{t:Value}:PySem.W.kitOne K t t=some true:=by unfold PySem.W.kitOne;rw [ar (wY t)]
def To (t:TS):TS:=λD σ H=>∃R:St->106,t { D with nx:=R } σ H/\∀σ' H',R σ' H'->D.nx σ' H'
def iC {X:Cx}{st:Stmt}{t:TS}(h:PS X st t):PS X st (To t):=by
 intro ag s σ H D I ⟨R,q,m⟩;refine cK (h ag s σ H _ I q) λf s1 z=>?_;cases f with
 | next=>obtain⟨σ',H',I',r⟩:=z;exact⟨σ',H',I',m _ _ r⟩
 | ret v=>exact z
 | brk=>exact z
 | cont=>exact z
def aL (P:Program)(w:World)(K:aY)(mg:z0c)(base:Heap) (k:Nat)(x:Str) (ps:z0t)(sp:Sp):Prop :=
 ∃f fd,bO P w K mg base gb k f fd ps sp/\Binds K fd ps []/\769/\mg x=some (.ref f)
theorem aL.mono {P:Program}{w:World}{K:aY}{mg:z0c}{base:Heap}{j k:Nat}{x:Str}{ps:z0t}{sp:Sp}(c:aL P w K mg base j x ps sp)(h:j<=k):aL P w K mg base k x ps sp :=
 let ⟨f,fd,a,b,b1,b2⟩:=c;⟨f,fd,a.mono h,b,b1,b2⟩
def bZ {X:Cx}{k:Nat}{x:Str}{ps:z0t}{sp:Sp}{e:Expr}{es:z0r}{t:TA}{p pos:Pos}(c:aL X.prog X.w X.K X.mg X.base k x ps sp)(hr:ft k X.A)(hg:Gl X x)(ha:PA X (e::es) t)
  (yE:589:=by decide)(he:669:=by rfl)(uX:(680).any 27=false:=by rfl) :
  PE X 737 (HN sp [] E0 t):=by
 obtain⟨f,fd,G,b,kp,m⟩:=c;exact Eh G hr hg m kp b .nil mq ha yE he uX
def fits {n:Nat}(h:n<=1000000):n<=sizeLine:=cW h nofun
def bX {n:Nat}(h:n<=1000000):n < sizeLine:=rS h nofun
def ah {H:Hp}{p:Addr}(h:H p=none)(o:HO):aD H (upd H p o):=λb u q=>by rw [ai (aB q h)];exact q
def aD.tup {K:aY}{H H':Hp}{a:Addr}{xs:84}(e:147)(h:515):aU K H' a xs:=by
 rcases h with (h | ⟨o,h⟩) | h
 .exact .inl (.inl (e _ _ h))
 .exact .inl (.inr ⟨o,e _ _ h⟩)
 exact .inr h
def qg {X:Cx}(hc:530):gL X (.builtin "all") (λxs H Q=>∃(a:Addr)(bs:List Bool),xs=[91]/\aX X.K H a (bs.map V.bl)/\Q (.bl (bs.all id)) H):=by
 intro ag s σ H xs us Q I r h;obtain⟨a,bs,rfl,hq,q⟩:=h;obtain⟨u,rfl,rx⟩:=vals1 r;cases 713;obtain⟨aT,rv,pl,hz⟩:=I.list hq;obtain⟨o,h1,h2,m,h3⟩:=id pl.isList;have la:a < s.heap.objs.size:=aV h1;have ln:=rv.length;rw [ay] at ln;have isB:∀(i:Nat) v,aT.toArray[i]?=some v->v=.bool (bs.getD i true):=λi v e=>by
  have e':aT[i]?=some v:=by simpa using e
  obtain⟨x,e2,e3⟩:=Paired.at_ rv i v e';rw [bx] at e2;obtain⟨b,e4,rfl⟩:=cH.mp e2;rw [Bq,e4];exact e3
 refine call_all_walk (pB pl.isList ?_);refine⟨s.heap.objs.size,_,_,_,_,_,λi=>bs.getD i true,rfl,Walks.list (A:=X.A.in1) (show X.A.in1.handled=none from I.ok.hd hc) s.heap.objs.size a (bJ la) aT.toArray,⟨⟨_,cU _ rfl,rfl,rfl⟩,⟨o,bW _ h1,h2,m,h3⟩⟩,?_,λh' tk kk=>?_⟩
 .intro i v s1 Q1 E1 hP hQ1;rw [isB i v hP];exact nQ hQ1
 have e:((List.range aT.toArray.size).all λi=>bs.getD i true)=bs.all id:=by
  rw [cq,<-ln,jU,iJ,iJ];constructor
  .intro h b hb;obtain⟨i,hi,e⟩:=qj.mp hb;have:=h i (cb.mpr hi);rw [Bq,cx hi,e] at this;exact this
  intro h i hi;have jL:=cb.mp hi;rw [Bq,cx jL];exact h _ (wW jL)
 rw [e];exact⟨.bl _,H,I.kept (t':=tk) λb o' e'=>kk b o' (by simp;exact bJ (aV e')) (bW _ e'),rfl,q⟩
section
variable {prog:Program}{w:World}{A:Around}{E:z0b}{s:Shared}
def CD {it l:Addr}{i:Nat}{items:z0k}{x:Value}{Q:z0b}(hit:s.heap.IsTupleIter it l i)(hl:s.heap.IsTuple l items)(hx:items[i]?=some x)
  (hQ:∀h',h'.IsTupleIter it l (i+1)->Heap.SameBut it s.heap h'->Q x 517):wpAny 140 A (Builtin.SmallTypes.nextOf (.ref it)) Q E s:=by
 obtain⟨o,ho,hc,hd⟩:=id hit;obtain⟨ol,Z3,_,nl,hdl⟩:=hl;unfold Builtin.SmallTypes.nextOf;refine au (qo (name:=Str.ofString "__next__") hit.typeIs xB (i_ xB hit.typeIs F.entry_tuple_iterator_next ?_ (F.args_tuple_iterator_next_1 _)));show wpAny _ _ (field (.ref it) 0 >>= λv=>_) _ _ s;refine au (g8 ho hd (x:=.ref l) (by rfl) ?_);show wpAny _ _ (if (Value.ref l == .none)=true then _ else _) _ _ s;rw [aq (by exact fg)];show wpAny _ _ (field (.ref it) 1 >>= λv=>_) _ _ s;refine au (g8 ho hd (x:=.int i 0) (by rfl) ?_);show wpAny _ _ (seqItems? (.ref l) >>= λv=>_) _ _ s;refine au (mP Z3 hdl (by
  simp only [ku,hx];refine au (mQ ho hd 90 (aJ ⟨x,rfl,aJ (hQ _ ⟨_,qk _ ho (xn (mZ hd _)),(Obj.cls_mapFields ..).trans hc,?_⟩ (w5 ..))⟩));rw [mZ hd];simp [rawInt]))
def Df {e it l:Addr}{i:Nat}{items:z0k}{x old:Value}{Q:z0j->146}(he:IsEnum s.heap e it i old)(hit:s.heap.IsTupleIter it l i)(hl:s.heap.IsTuple l items)(hx:items[i]?=some x)(p_:e≠it)
  (hQ:∀h',IsEnumOut h' e it ((i:Int)+1) x s.heap.objs.size->h'.IsTupleIter it l (i+1)->h'.get? s.heap.objs.size=some { cls:=378,data:=.seq #[.int i s.toks,x] } ->
   (∀b o,b≠e->b≠it->259->162=65)->Q (some 720) { s with heap:=h',toks:=s.toks+1 }) :
  wpAny 140 A (pyNext (.ref e)) Q E s:=by
 have hT:s.TypeIs (.ref e) "enumerate" := ⟨_,he,rfl⟩;unfold pyNext;refine au (jS (qo (name:=Str.ofString "__next__") hT xj (i_ xj hT F.entry_enumerate_next ?_ (F.args_enumerate_next_1 _))));obtain⟨hp,g,d,tk,os⟩:=s;show wpAny _ _ (field (.ref e) 2 >>= λv=>_) _ _ _;refine au (g8 he rfl (x:=.ref it) (by rfl) (au (CD hit hl hx λh₁ aad UJ=>?_)));replace UJ:Heap.SameBut it hp h₁:=UJ;have he₁:IsEnum h₁ e it i old:=(UJ.2 e p_).trans he;show wpAny _ _ (field (.ref e) 3 >>= λv=>_) _ _ ⟨h₁,g,d,tk,os⟩;refine au (g8 he₁ rfl (x:=rawInt i) (by rfl) ?_);show wpAny _ _ (field (.ref e) 4 >>= λv=>_) _ _ ⟨h₁,g,d,tk,os⟩;refine au (g8 he₁ rfl (x:=.none) (by rfl) ?_);show wpAny _ _ (mkInt i >>= λv=>_) _ _ ⟨h₁,g,d,tk,os⟩;refine au (wpAny_mkInt ?_);show wpAny _ _ (setField (.ref e) 3 (rawInt ((i:Int)+1)) >>= λv=>_) _ _ ⟨h₁,g,d,tk+1,os⟩;refine au (rL he₁ 90 λh₂ f₂ hs₂=>?_);have he₂:IsEnum h₂ e it ((i:Int)+1) old:=f₂;have k₂:Heap.SameBut e h₁ h₂:=hs₂;show wpAny _ _ (setField (.ref e) 4 .none >>= λv=>_) _ _ ⟨h₂,g,d,tk+1,os⟩;refine au (rL he₂ 90 λh₃ f₃ hs₃=>?_);have he₃:IsEnum h₃ e it ((i:Int)+1) old:=f₃;have k₃:Heap.SameBut e h₂ h₃:=hs₃;show wpAny _ _ (newTuple [.int i tk,x] >>= λv=>_) _ _ ⟨h₃,g,d,tk+1,os⟩;refine au (wpAny_newTuple ?_);have Xd:IsEnum (h₃.push 781) e it ((i:Int)+1) old:=bW _ he₃;have hsz:h₃.objs.size=hp.objs.size:=by rw [k₃.1,k₂.1,UJ.1]
 have hel:e < hp.objs.size:=aV he;have ht₄:(h₃.push 781).get? hp.objs.size=some 781:=by rw [<-hsz];exact cU _ rfl
 have hk₄:∀b o,b≠e->b≠it->hp.get? b=65->(h₃.push 781).get? b=65:=λb o n1 n2 hb=>bW _ (k₃.extBut b o n1 (k₂.extBut b o n1 (UJ.extBut b o n2 hb)));have U7:(h₃.push 781).IsTupleIter it l (i+1):=aad.at λo q=>bW _ (k₃.extBut it o (dC p_) (k₂.extBut it o (dC p_) q));generalize h₃.push 781=h₄ at Xd ht₄ hk₄ U7 ⊢;rw [hsz];show wpAny _ _ (Builtin.SmallTypes.ownedTupleIsFree (.ref e) >>= λv=>_) _ _ ⟨h₄,g,d,tk+1,os⟩;refine au (by
  unfold Builtin.SmallTypes.ownedTupleIsFree;refine au (g8 Xd rfl (x:=.none) (by rfl) (aJ (by
   simp only [if_true];refine au (jq (au (g8 Xd rfl (x:=old) (by rfl) (au (rL Xd 90 λh₅ f₅ hs₅=>?_)))));have he₅:IsEnum h₅ e it ((i:Int)+1) x:=f₅;have k₅:Heap.SameBut e h₄ h₅:=hs₅;show wpAny _ _ (Builtin.SmallTypes.ownedTupleHandOut (.ref e) (.ref hp.objs.size) >>= λv=>_) _ _ ⟨h₅,g,d,tk+1,os⟩;refine au (by
    unfold Builtin.SmallTypes.ownedTupleHandOut;refine au (rL he₅ 90 λh₆ f₆ hs₆=>?_);have he₆:IsEnumOut h₆ e it ((i:Int)+1) x hp.objs.size:=f₆;have k₆:Heap.SameBut e h₅ h₆:=hs₆;refine rL he₆ 90 λh₇ f₇ hs₇=>?_;have he₇:IsEnumOut h₇ e it ((i:Int)+1) x hp.objs.size:=f₇;have k₇:Heap.SameBut e h₆ h₇:=hs₇;have up:∀b o,b≠e->h₄.get? b=65->h₇.get? b=65:=λb o n q=>k₇.extBut b o n (k₆.extBut b o n (k₅.extBut b o n q));exact au (wpAny_letGo (aJ ⟨_,rfl,aJ (hQ h₇ he₇ (U7.at λo q=>up it o (dC p_) q) (up _ _ (iP hel) ht₄) λb o n1 n2 q=>up b o n1 (hk₄ b o n1 n2 q))⟩)))))))
def tK {it l:Addr}{i:Nat}{items:z0k}{Q:z0b}(hh:569)(hit:s.heap.IsTupleIter it l i)(hl:s.heap.IsTuple l items)(hx:items[i]?=none)
  (hE:∀h' e,Heap.ExtBut it s.heap h'->(∃o,h'.get? e=65/\o.cls=.type "StopIteration")->E (.ref e) 517):wpAny 140 A (Builtin.SmallTypes.nextOf (.ref it)) Q E s:=by
 obtain⟨o,ho,hc,hd⟩:=id hit;obtain⟨ol,Z3,_,nl,hdl⟩:=hl;unfold Builtin.SmallTypes.nextOf;refine au (qo (name:=Str.ofString "__next__") hit.typeIs xB (i_ xB hit.typeIs F.entry_tuple_iterator_next ?_ (F.args_tuple_iterator_next_1 _)));show wpAny _ _ (field (.ref it) 0 >>= λv=>_) _ _ s;refine au (g8 ho hd (x:=.ref l) (by rfl) ?_);show wpAny _ _ (if (Value.ref l == .none)=true then _ else _) _ _ s;rw [aq (by exact fg)];show wpAny _ _ (field (.ref it) 1 >>= λv=>_) _ _ s;refine au (g8 ho hd (x:=.int i 0) (by rfl) ?_);show wpAny _ _ (seqItems? (.ref l) >>= λv=>_) _ _ s;refine au (mP Z3 hdl ?_);simp only [ku,hx];refine au (jq (au (mQ ho hd 90 (au ?_))));simp only [newExc,newTuple];refine au (kr ?_ (by size_fits));refine au (m:=firstArgMember _ _) (wpAny_of_eq (a:=Value.none) (by first | rfl | (simp only [firstArgMember];rfl)) ?_)
 refine kr ?_ (by size_fits);simp only [raiseNew];refine au (wpAny_handled ?_)
 first | rw [show A.in1.handled=none from hh] | rw [hh]
 refine au (aJ (wpAny_throw (hE _ _ (((w5 ..).extBut.push _).push _) ⟨_,cU _ rfl,rfl⟩)))
def Gj {e it l:Addr}{i:Nat}{items:z0k}{old:Value}{Q:z0j->146}(hh:569)(he:IsEnum s.heap e it i old)(hit:s.heap.IsTupleIter it l i)(hl:s.heap.IsTuple l items)(hx:items[i]?=none)
  (hQ:∀h',Heap.ExtBut it s.heap h'->Q none 517):wpAny 140 A (pyNext (.ref e)) Q E s:=by
 have hT:s.TypeIs (.ref e) "enumerate" := ⟨_,he,rfl⟩;unfold pyNext;refine au (jS (qo (name:=Str.ofString "__next__") hT xj (i_ xj hT F.entry_enumerate_next ?_ (F.args_enumerate_next_1 _))));show wpAny _ _ (field (.ref e) 2 >>= λv=>_) _ _ _;refine au (g8 he rfl (x:=.ref it) (by rfl) (au (tK hh hit hl hx λh' x Vb Qo=>?_)));obtain⟨o,ho,hc⟩:=Qo;exact au (mX (T := "StopIteration") (b:=true) ⟨o,ho,hc⟩ isSubtype_stop (aJ (hQ _ Vb)))
end
open PySem.AutoSeq1 (wpAny_loadPart')
def z7 (l:Addr)(items:z0k) (n:Nat)(ET:z0l)(sl:z0a) :
  Meets (Builtin.«enumerate.__new__» ⟨[.type "enumerate",.ref l],[]⟩) (λ_ R s=>s.heap.get? l=some { cls:=378,dict:=ET,data:=.seq items n,slots:=sl } /\
   R (.ok (.ret (.ref (812).objs.size)))
    { s with heap:=(812).push 867 }) :=
 .of_wp λprog w A R s h=>by
  obtain⟨hp,g,d,tk,os⟩:=s;obtain⟨hl,h⟩:=h;have aa6:=sub_enumerate;have hT:Heap.IsTuple (Shared.heap ⟨hp,g,d,tk,os⟩) l items:=⟨_,hl,rfl,n,rfl⟩
  wp_walk using xu hl
  refine wpAny_stack_any λst=>aJ ?_;split
  .rename_i c _ _ _ _ _
   cases (c == Value.type "enumerate")
   .wp_walk using xu hl,wZ hT;exact⟨_,rfl,h⟩
   wp_walk using xu hl,wZ hT;exact⟨_,rfl,h⟩
  wp_walk using xu hl,wZ hT;exact⟨_,rfl,h⟩
section
variable {prog:Program}{w:World}{A:Around}{E:z0b}{s:Shared}
def Dm {l:Addr}{items:z0k}{Q:z0b}(hL:s.heap.IsTuple l items)
  (h:∀h',IsEnum h' 538 s.heap.objs.size 0 .none->h'.IsTupleIter s.heap.objs.size l 0->835->Q (.ref 538) 517) :
  wpAny 140 A (call (.type "enumerate") [.ref l]) Q E s:=by
 obtain⟨⟨c,ET,dt,sl⟩,hl,hc,n,hd⟩:=hL;replace hc:c=378 := hc;replace hd:dt=.seq items n:=hd;subst hc hd;refine callType_new F.called_enumerate nofun (F.typeCall_enumerate_1 _) (F.newCall_enumerate_1 _) (λobj=>F.args_object_init_2 obj _) F.entry_enumerate_new (z7 l items n ET sl) ⟨hl,?_⟩;have hz:(812).objs.size=509:=mO ..;show _/\_;rw [hz];have he:IsEnum ((812).push 867) 538 s.heap.objs.size 0 .none:=by
  have:=cU (812) (o:=867) rfl;rw [hz] at this;exact this
 exact⟨⟨_,he,rfl⟩,h _ he ⟨_,bW _ (cU _ rfl),rfl,rfl⟩ λb o x=>bW _ (bW _ x)⟩
end
def uE (K:aY)(a:Addr):It :=
 ⟨λi H=>∃xs x,515/\575,λi H x H'=>∃t y,x=.ref t/\H t=none/\H'=upd H t (.tup [141,y])/\∀xs,515->xs[i]?=some y,λi H=>∃xs,515/\xs.length<=i⟩
def BE {P:Program}{w:World}{K:aY}{elts:z0r}{k:Nat}{sH:Pos}(a e it:Addr)(QK:e≠it) :
  Turn P w K (.Tuple elts k sH) (uE K a) [e,it] e (λi h=>(∃old,IsEnum h e it i old)/\h.IsTupleIter it a i) :=
 sF (Sq:=λH xs=>515) e it QK (λ⟨o,e1,_,d⟩=>⟨o,e1,λv z=>by rw [d] at z;cases z⟩) (λst k=>st.at k) (λe I hy hx=>by subst e;exact I.vF hy hx)
  (λe I hq hx he hit hQ=>by
   subst e;obtain⟨aT,rv,p,hz⟩:=I.tuple hq;obtain⟨u,hu,ru⟩:=rv.get hx;exact Df he hit p (x:=u) (by simpa using hu) QK λh1 ho JN hT hk=>hQ u h1 ru ho JN hT hk)
  λe hc I hq hx he hit hQ=>by
   subst e;obtain⟨aT,rv,p,hz⟩:=I.tuple hq;have hl:=rv.length;exact Gj (I.ok.hd hc) he hit p (548) λh' eb=>hQ h' eb
def Qm (K:aY)(ta:TA):TI:=λσ H R=>ta σ H λvs H1=>XEn vs (aU K H1) λa=>R (uE K a) H1
def oq {X:Cx}{elts:z0r}{k:Nat}{sH:Pos}{l:Expr}{ta:TA}{p pos:Pos}(hg:Gl X "enumerate")(hm:X.mg "enumerate"=none)(ha:PA X [l] ta)(hs:starEach [l] X.env=[(false,eval l X.env)]:=by rfl) :
  PI X (.Tuple elts k sH) (.Call (.Name "enumerate" p) [l] [] pos) (Qm X.K ta):=by
 intro ag s σ H R I h;refine Call_ (j9 I hg hm wG (xE 648 hs rfl));obtain⟨vs,H1,I1,r1,q1⟩:=ba;obtain⟨a,xs,e,hq,q⟩:=q1;subst e;obtain⟨u,rfl,rx⟩:=r1.one;cases rx;obtain⟨aT,rv,pl,hz⟩:=I1.tuple hq;refine Dm (show s1.heap.IsTuple a aT.toArray from pl) λh1 he hit hk=>wpAny_pyIter_enum he ?_;refine⟨s1.heap.objs.size+1,[s1.heap.objs.size+1,s1.heap.objs.size],_,_,H1,rfl,I1.kept (t':=s1.toks) λb o e=>hk b o e,BE a _ _ (iP (mY _)),⟨⟨_,he⟩,hit⟩,λb hb=>?_,q⟩;rcases a_.mp hb with rfl | hb
 .exact I1.yG (jR _) (I1.bI.fresh (jR _))
 obtain rfl:b=s1.heap.objs.size:=544
 exact I1.yG 128 (I1.bI.fresh 128)
open PySem PySem.Spec PyProof.Rows PySem.W
def mF (c':Addr)(qual:Str):HO:=.ext λh=>h.CodeRec (.ref c') qual
def uV (f:Addr)(o:Obj):HO:=.ext λh=>h.get? f=65
def Kl {P:Program}{w:World}{H:Hp}{h:Heap}{c':Addr}{qual:Str}(hr:h.CodeRec (.ref c') qual):bR P w H h c' (mF c' qual):=by
 obtain⟨c2,oc,vs,t,e,Hf,hd,hv⟩:=id hr;cases e;exact⟨hr,⟨oc,Hf⟩,λh1 h2 ⟨c3,oc3,vs3,t3,e3,Z5,jx,RY⟩ k=>by cases e3;exact⟨_,oc3,vs3,t3,rfl,k _ Z5,jx,RY⟩⟩
def Ey {P:Program}{w:World}{H:Hp}{h:Heap}{f:Addr}{o:Obj}(e:h.get? f=65):bR P w H h f (uV f o):=⟨e,⟨o,e⟩,λ_ _ q k=>k _ q⟩
def Tab (T:Addr)(pos:Pos)(qual:Str)(H:Hp):Prop :=
 ∃ps,H T=some (.xI ps)/\TriplesOk ps.toList/\(codeAmong pos ps.toList=none\/∃c',codeAmong pos ps.toList=some (.ref c')/\H c'=some (mF c' qual))
def gi (T:Addr)(H H':Hp):Prop:=∀b o,b≠T->H b=65->H' b=65
def uH (mg:z0c)(base:Heap):Prop :=
 ∃bm o,mg "__builtins__"=some (.ref bm)/\bm≠builtinsNs/\bm≠mainGlobals/\base.get? bm=65/\o.cls=.type "module" /\ o.dict=some builtinsNs/\o.data=.plain
theorem nX {a b:Int}{ta tb:Tok}{c:Value}:∀l:z0m,TriplesOk l->TriplesOk (l++[.int a ta,.int b tb,c])
 | [],_=>trivial
 | [x],h=>by cases x <;> exact h.elim
 | [x,y],h=>by cases x <;> cases y <;> exact h.elim
 | x::y::z::r,h=>by
  cases x with
  | int i ti =>
   cases y with
   | int j tj=>exact nX r h
   | _=>exact h.elim
  | _=>exact h.elim
section
variable {X:Cx}{params:Arguments}{body:Expr}{scope:Scope}{pos:Pos}{c T:Addr}
abbrev jk (X:Cx)(params:Arguments)(body:Expr)(scope:Scope)(cl:z0f)(c':Addr)(ic:Value):Obj:=kla_obj "<lambda>" 591 params body scope cl ((X.mg "__name__").getD .none) c' ic
def Te (X:Cx)(params:Arguments)(body:Expr)(scope:Scope)(pos:Pos)(T:Addr):TE:=λσ H Q=>Tab T pos 591 H /\
 ∀f c' ic cl H',Nj X.env scope cl->gi T H H'->Tab T pos 591 H'->H f=none->H' f=some (uV f 756)->H' c'=some (mF c' 591)->Q (.ref f) H'
def Ef (wb:X.env.code=.ref c)(hC:codeHdIn X.K c T=true)(hB:uH X.mg X.base)(oK:885)(JV:defaultsOf params X.env=([],[]):=by rfl):PE X (.Lambda params body scope pos) (Te X params body scope pos T):=by
 intro ag s σ H Q I h;obtain⟨⟨ps,hT,ht,Vh⟩,q⟩:=h;refine kla_eval JV ?_;obtain⟨cl,nP⟩:=EU (env:=X.env) (scope:=scope) λy hy=>I.ok.has y (.inl (oK y hy));have hTa:s.heap.get? T=some (tabObj ps):=(show bR X.prog X.w H s.heap T (.xI ps) from I.bI T _ hT);have hg:=I.mod.glob.keeps I.bk;have C:=codeHd_of_K I.uK hC;obtain⟨bm,ob,b1,b2,b3,b4,b5,b6,b7⟩:=hB;have b4':=I.bk _ _ b4;have nbT:bm≠T:=λz=>by
  have:=(I.bs _ _ b4).2;rw [z,hT] at this;cases this
 have ngT:mainGlobals≠T:=λz=>by
  obtain⟨o,es,ep,e,d,_⟩:=hg;rw [z,hTa] at e;cases e;cases d
 have hBA:s.heap.BuiltinsAt X.mg T:=⟨bm,ob,b1,b2,b3,nbT,b4',b5,b6,b7⟩;have OT:∀b v,H b=some v->b < s.heap.objs.size:=λb v e=>I.bI.lt e;rcases Vh with hnf | ⟨c',hf,tW⟩
 .refine kla_makeFunction nP.eq I.ok.glob hg wb C hTa ht hnf ngT hBA λc' ic h' tk hx Ae jQ UP htb=>?_;have hcr:∃oc,h'.get? c'=some oc:=by
   obtain⟨c2,oc,vs,t,e,Hf,_⟩:=UP;cases e;exact⟨oc,Hf⟩
  have JS:h'.objs.size > s.heap.objs.size:=rS Ae jQ;have keep:∀b o,b≠T->259->(h'.push 756).get? b=65:=λb o n e=>bW _ (hx b o n e)
  let H':Hp:=upd (upd (upd H T (.xI (ps++#[rawInt pos.line,rawInt pos.col,.ref c']))) c' (mF c' 591)) h'.objs.size (uV h'.objs.size 756)
  have P8:∀b v,H b=some v->b≠c'/\b≠h'.objs.size:=λb v e=>⟨bJ (fK (OT b v e) Ae),bJ (Nat.lt_trans (OT b v e) JS)⟩;have ncf:c'≠h'.objs.size:=bJ jQ;have nTc:=P8 T _ hT;have eT:H' T=some (.xI (ps++#[rawInt pos.line,rawInt pos.col,.ref c'])):=by
   show upd (upd (upd H T _) c' _) h'.objs.size _ T=_;rw [ai nTc.2,ai nTc.1,af]
  have ec:H' c'=some (mF c' 591):=by
   show upd (upd (upd H T _) c' _) h'.objs.size _ c'=_;rw [ai ncf,af]
  have ef:H' h'.objs.size=some (uV h'.objs.size 756):=af;have eo:∀b,b≠T->b≠c'->b≠h'.objs.size->H' b=H b:=λb n1 n2 n3=>by
   show upd (upd (upd H T _) c' _) h'.objs.size _ b=_;rw [ai n3,ai n2,ai n1]
  have sT:gi T H H':=λb o n e=>by rw [eo b n (P8 b o e).1 (P8 b o e).2];exact e
  have I2:Inv X ag σ H' { s with heap:=h'.push 756,toks:=tk }:=by
   refine I.call (g':=s.gens) (t':=tk) (d':=s.drawn) (ch:=[]) ⟨λb o e n _ _=>keep b o (λz=>by rw [z,hT] at n;cases n) e,λb o e n _ _=>⟨o.slots,keep b o (λz=>by rw [z,hT] at n;cases n) e⟩,λb o e n _=>?_,λb o e _=>?_,λb xs e=>?_,λb o u e=>?_,λb ps' e=>?_⟩ (λb v e=>?_) I.bare (λb hb=>nomatch hb)
   .have lb:=aV e;rw [eo b (λz=>by rw [z,hT] at n;cases n) (bJ (fK lb Ae)) (bJ (Nat.lt_trans lb JS))];exact n
   .by_cases z:b=T
    .exact⟨_,by rw [z];exact bW _ htb⟩
    exact⟨o,keep b o z e⟩
   .exact sT b _ (λz=>by rw [z,hT] at e;cases e) e
   .exact sT b _ (λz=>by rw [z,hT] at e;cases e) e
   .by_cases z:b=T
    .subst z;rw [hT] at e;cases e;exact⟨_,eT⟩
    exact⟨#[],by rw [rP];exact sT b _ z e⟩
   by_cases z1:b=h'.objs.size
   .subst z1;rw [ef] at e;cases e;exact Ey (cU _ rfl)
   by_cases z2:b=c'
   .subst z2;rw [ec] at e;cases e;refine Kl ?_;obtain⟨c2,oc,vs,t,e',Hf,hd,hv⟩:=UP;cases e';exact⟨_,oc,vs,t,rfl,bW _ Hf,hd,hv⟩
   by_cases z3:b=T
   .subst z3;rw [eT] at e;cases e;exact bW _ htb
   rw [eo b z3 z2 z1] at e;refine(I.bI b v e).jZ (λd o N7 e'=>?_) (λd e'=>sT d _ (λz=>by rw [z,hT] at e';cases e') e') λd ys e'=>sT d _ (λz=>by rw [z,hT] at e';cases e') e';rcases N7 with rfl | N7
   .exact keep d o z3 e'
   exact keep d o (λz=>by rw [z,hT] at N7;cases N7) e'
  have fresh:H h'.objs.size=none:=I.bI.fresh (gq JS);exact⟨.ref h'.objs.size,H',I2,rfl,q _ c' ic cl H' nP sT ⟨_,eT,by rw [mf];exact nX _ ht,.inr ⟨c',by rw [mf];exact codeAmong_snoc _ ht hnf,ec⟩⟩ fresh ef ec⟩
 refine kla_makeFunctionHit nP.eq I.ok.glob hg wb C hTa ht hf hBA λic h' tk hk hsz=>?_;have keep:∀b o,259->(h'.push 756).get? b=65:=λb o e=>bW _ (hk b o e);have fresh:H h'.objs.size=none:=I.bI.fresh hsz;refine⟨.ref h'.objs.size,_,I.laid (a:=h'.objs.size) (o:=uV h'.objs.size 756) (t':=tk) keep hsz (Ey (cU _ rfl)),rfl,?_⟩;refine q _ c' ic cl _ nP (λb o _ e=>by rw [ai (aB e fresh)];exact e) ⟨ps,by rw [ai (aB hT fresh)];exact hT,ht,.inr ⟨c',hf,by rw [ai (aB tW fresh)];exact tW⟩⟩ fresh af (by rw [ai (aB tW fresh)];exact tW)
abbrev Qf (X:Cx)(params:Arguments)(body:Expr)(scope:Scope)(c':Addr)(ic:Value):Obj:=kla_obj "<lambda>" 591 params body scope [] ((X.mg "__name__").getD .none) c' ic
def Yh (X:Cx)(params:Arguments)(body:Expr)(scope:Scope)(pos:Pos)(T:Addr):TE:=λσ H Q=>Tab T pos 591 H /\
 ∀f c' ic H',gi T H H'->Tab T pos 591 H'->H f=none->H' f=some (uV f (Qf X params body scope c' ic))->H' c'=some (mF c' 591)->Q (.ref f) H'
def IG (wb:X.env.code=.ref c)(hC:codeHdIn X.K c T=true)(hB:uH X.mg X.base)(oK:∀y∈scope.names,y.2≠.free)(JV:defaultsOf params X.env=([],[]):=by rfl):PE X (.Lambda params body scope pos) (Yh X params body scope pos T):=by
 intro ag s σ H Q I ⟨h,q⟩;refine Ef wb hC hB (λy hy=>absurd rfl (oK _ hy)) JV ag s σ H Q I ⟨h,λf c' ic cl H' nP=>?_⟩;have e:=(closureFor_none oK).symm.trans nP.eq;injection e with e;subst e;exact q f c' ic H'
end
section
variable {P:Program}{w:World}{K:Frag}{mg:z0c}{base:Heap}{f c':Addr}{q:Str}{params:Arguments}{body:Expr}{scope:Scope}{pm ic:Value}{N ps:z0t}{k:Nat}{te:TE}
def Mo (S:aM N ps scope)(tX:∀us:z0m,us.length=ps.length->bindArgs (kla_fn "<lambda>" q params body scope [] pm (.ref c') ic) ⟨us,[]⟩=pure (ps.zip us))
  (i5:∀(A:Around)(outer:List Env)(s:Shared)(H:Hp),PE (ip gb P w K mg base N q scope f (.ref c') A outer s H λ_ _ _=>False) body te)
  (A:Around)(outer:List Env)(s:Shared)(H:Hp)(us:z0m)(vs:84)(Q:VK)(hr:ft (k+1) A)(e0:AY P w K mg base A outer s H)(hf:H f=some (uV f (kla_obj "<lambda>" q params body scope [] pm c' ic)))
  (hc:H c'=some (mF c' q))(rv:bq vs us)(hl:vs.length=ps.length)(h:te (start N vs) H Q):codeAny (model P w) A (.call (.ref f) ⟨us,[]⟩) (CR gb outer P w H s Q λ_ _ _=>False) s:=by
 obtain⟨ef,_⟩:=e0.bI f _ hf;obtain⟨ec,_⟩:=e0.bI c' _ hc;have lu:us.length=ps.length:=by rw [<-rv.length];exact hl
 have lim:s.heap.NoLimit:=e0.mod.nolimit.keeps λb o e=>(e0.bs b o e).1;have jK:∀y∈ps.zip us,902:=λ⟨n,v⟩ hy=>by
  rcases S.par n (List.of_mem_zip hy).1 with z | z
  .exact .inl z
  exact .inr ⟨z,cellsFrom_some _ _ _ (.inl z)⟩
 refine kla_callFunE hr.depth ef rfl S.co S.gen rfl ec ?_;rw [tX us lu];refine aJ (wpAny_newFunctionEnv_cells S.kind jK λenv he s1 x=>?_);subst he;refine⟨lim.keeps x.toInCall.keep,kla_codeExpr ?_⟩;have I:Inv (ip gb P w K mg base N q scope f (.ref c') A outer s H λ_ _ _=>False) [] (start N vs) H s1:=v_ S hr.hd e0 hl rv x;refine dD (i5 A outer s H [] s1 (start N vs) H _ I h) (λv s' ba=>?_) λe s' z=>z;obtain⟨y,H',J,r,z⟩:=ba;exact⟨y,H',J.os,J.bare,J.base,J.bI,r,z⟩
end
section
variable {X:Cx}{i:Nat}{x:Str}{e:Expr}{es:z0r}{t:TA}{p pos:Pos}{q:Str}{params:Arguments}{body:Expr}{scope:Scope}{N ps:z0t}{k:Nat}{te:TE}
def HL (i:Nat)(q:Str)(params:Arguments)(body:Expr)(scope:Scope) (N ps:z0t)(t:TA)(te:TE):TE:=λσ H Q=>∃f pm c' ic,σ[i]?=some (some (.ref f)) /\
 t σ H λvs H1=>H1 f=some (uV f (kla_obj "<lambda>" q params body scope [] pm c' ic))/\H1 c'=some (mF c' q)/\vs.length=ps.length/\te (start N vs) H1 Q
def Cs (hN:X.N[i]?=some x)(hx:683=531)(S:aM N ps scope)(hr:ft (k+1) X.A)
  (tX:∀(pm ic:Value)(c':Addr)(us:z0m),us.length=ps.length->bindArgs (kla_fn "<lambda>" q params body scope [] pm (.ref c') ic) ⟨us,[]⟩=pure (ps.zip us))
  (i5:∀(f c':Addr)(A:Around)(outer:List Env)(s:Shared)(H:Hp),PE (ip gb X.prog X.w X.K X.mg X.base N q scope f (.ref c') A outer s H λ_ _ _=>False) body te)(ha:PA X (e::es) t)
  (yE:589:=by decide)(he:669:=by rfl)(uX:(680).any 27=false:=by rfl) :
  PE X 737 (HL i q params body scope N ps t te):=by
 intro ag s σ H Q I h;obtain⟨f,pm,c',ic,hσ,h⟩:=h;obtain⟨m,hn,hl⟩:=I.loc;obtain⟨u,ru,lk⟩:=hl i x (.ref f) hN hσ (.inl hx);cases (show u=Value.ref f from ru);have hm:m x=some (.ref f):=by
  rcases lk with l | ⟨l,_⟩
  .exact l.2
  have l':683=some .cell\/683=some .free:=l;rw [hx] at l';rcases l' with l' | l' <;> cases l'
 refine nR (wpAny_Name (xi I.ok.kind hx hn hm ?_) yE);refine callWith_def (o:=kla_obj "<lambda>" q params body scope [] pm c' ic) rfl 648 he;obtain⟨vs,H1,I1,r,z1,z2,z3,z4⟩:=ba;obtain⟨ef,_⟩:=I1.bI f _ z1;refine⟨ef,gM (o_ (Mo (k:=k) S (λus hl=>tX pm ic c' us hl) (i5 f c') X.A X.stack s1 H1 us vs Q hr I1.MO z1 z2 r z3 z4) λr' s' z=>?_)⟩;cases r' with
 | error e=>exact z.elim
 | ok fl =>
  cases fl with
  | ret u=>exact I1.after z
  | next=>exact z.elim
  | brk=>exact z.elim
  | cont=>exact z.elim
end
def KG (ts:z0q)(H:Hp):Prop:=∀b,H b=none\/(∃o xs,H b=some (.mD o (.lst xs)))\/(b∈ts/\H b=some (.xI #[]))
def FX {P:Program}{w:World}{K:Frag}{mg mb:z0c}{CX:Bh}{k:Nat}{fa a:Addr}{fd:FuncData}{x:Str}{sp:Sp}{s₁:Shared}{vs:z0m}{ns:z0u}{ts:z0q}
  (KX:K.In s₁.heap)(A6:s₁.heap.Ns mainGlobals mg)(hb:s₁.heap.Ns builtinsNs mb)(Vk:∀x:Str,x ≠ "__name__" -> mb x=bootBuiltins x)(aab:s₁.heap.NoLimit)
  (K2:Exists λbm=>Exists λob=>mg "__builtins__"=some (.ref bm)/\bm≠builtinsNs/\s₁.heap.get? bm=some ob/\ob.cls=.type "module" /\ ob.dict=some builtinsNs/\ob.data=.plain)(hg:s₁.gens=#[])
  (Qs:∀T∈ts,s₁.heap.get? T=some (tabObj #[])/\K.lookup T=none/\∃c,codeHdIn K c T=true)
  (ha:s₁.heap.get? a=some 839)(hi:IntsAre vs ns)(hl:ns.length<=sizeLine)(hr:ft k callerA)
  (F:∀base:Heap,K.In base->base.Ns mainGlobals mg->uH mg base->bO P w K mg base CX k fa fd [x] sp)(tX:∀(s:Shared)(u:Value),BindsTo s fd ⟨[u],[]⟩ [(x,u)])
  (EE:∀H:Hp,KG ts H->(∀T∈ts,H T=some (.xI #[]))->aX K H a (ns.map V.int)->sp [91] H (λv _=>v=.bl true) λ_ _ _=>False)
  (hCX:∀H e s',CX [] H s₁ (λ_ _ _=>False) e s'->False) :
  897:=by
 have rv:=vB hi;have Zw:=hi.length;have core:∀H:Hp,KG ts H->(∀T∈ts,H T=some (.xI #[]))->aX K H a (ns.map V.int)->mJ P w H s₁.heap->(∀b,H b≠none->b=a\/b∈ts)->(H a≠none->K.lookup a=none) ->
   897:=by
  intro H hO hT hS bI hA hK;have yQ:∀{b:Addr}{o:Obj},s₁.heap.get? b=65->H b=none->(uZ s₁.heap H).get? b=65:=λe n=>JP e n;have off:∀{b:Addr}{o:Obj},s₁.heap.get? b=65->(∀aT n,o.data≠.seq aT n)->(∀fs,o.data≠.fields fs)->H b=none:=λ{b o} e d1 d2=>by
   cases q:H b with
   | none=>rfl
   | some u =>
    rcases hA b (by rw [q];simp) with e' | e'
    .subst e';rw [ha] at e;cases e;exact(d1 _ _ rfl).elim
    rw [(Qs b e').1] at e;cases e;exact(d2 _ rfl).elim
  have WS:∀{b:Addr}{m:z0c},s₁.heap.Ns b m->(uZ s₁.heap H).Ns b m:=λ{b m} ⟨o,es,ep,e,d,r⟩=>⟨o,es,ep,yQ e (off e (λ_ _ z=>by rw [d] at z;cases z) λ_ z=>by rw [d] at z;cases z),d,r⟩;have hKb:K.In (uZ s₁.heap H):=λb o e=>yQ (KX b o e) (by
   cases q:H b with
   | none=>rfl
   | some u =>
    rcases hA b (by rw [q];simp) with e' | e'
    .subst e';rw [hK (by rw [q];simp)] at e;cases e
    rw [(Qs b e').2.1] at e;cases e)
  have hM:Mod K mg (uZ s₁.heap H):=⟨hKb,WS A6,⟨mb,WS hb,Vk⟩,let ⟨mc,h1,h2⟩:=aab;⟨mc,WS h1,h2⟩⟩;have Vr:uH mg (uZ s₁.heap H):=by
   obtain⟨bm,ob,b1,b2,b3,b4,b5,b6⟩:=K2;refine⟨bm,ob,b1,b2,λz=>?_,yQ b3 (off b3 (λ_ _ z=>by rw [b6] at z;cases z) λ_ z=>by rw [b6] at z;cases z),b4,b5,b6⟩;obtain⟨o,es,ep,e,d,_⟩:=A6;rw [<-z,b3] at e;cases e;rw [b6] at d;cases d
  have e0:AY P w K mg (uZ s₁.heap H) callerA [] s₁ H:=⟨rfl,hM,λb o e=>Ma e,Nat.le_of_eq (F8 _ _),trivial,λb hb=>absurd (show b∈([]:z0q) from hb) 90,bI,.of_eq hg⟩;refine o_ ((F _ hKb (WS A6) Vr).run callerA [] s₁ H ⟨[91],[]⟩ [91] [91] _ _ hr e0 (tX s₁ 475) (.cons rfl .nil) (EE H hO hT hS)) λr s' h=>?_;cases r with
  | error e=>exact(hCX H e s' h).elim
  | ok fl =>
   cases fl with
   | next=>exact False.elim h
   | brk=>exact False.elim h
   | cont=>exact False.elim h
   | ret u =>
    obtain⟨v,H',os,bare,un,UR,r',q⟩:=h;have q':v=.bl true:=q;subst q';obtain rfl:u=Value.bool true:=r';have each:∀b o,s₁.heap.get? b=65->asItWas s₁.heap s'.heap b o/\∃o',s'.heap.get? b=some o':=λb o e=>by
     cases q:H b with
     | none =>
      have z:=un.keep b o e q (by intro z;exact absurd (show b∈([]:z0q) from z) 90) 90;exact⟨.inl z,o,z⟩
     | some u =>
      rcases hO b with z | ⟨ob,xs,z⟩ | ⟨Af,z⟩
      .rw [q] at z;cases z
      .have z2:=un.qM b ob _ z;obtain⟨e1,_⟩:=bI b _ z;obtain⟨e2,_⟩:=UR b _ z2;rw [e] at e1;cases e1;exact⟨.inl e2,_,e2⟩
      obtain⟨more,z2⟩:=un.qG b _ z;have e2:s'.heap.get? b=some (tabObj (#[]++more)):=UR b _ z2;rw [(Qs b Af).1] at e;cases e;obtain⟨c,hc⟩:=(Qs b Af).2.2;obtain⟨oc,vs',file,tf,flags,tg,inF,text,tt,d1,d2,d3,d4,_⟩:=codeHd_of_K KX hc;exact⟨.inr (.inl ⟨⟨c,oc,vs',d1,d2,d3,d4⟩,rfl,#[],more,rfl,e2⟩),_,e2⟩
    exact⟨rfl,⟨λb o e=>(each b o e).1,λb o e=>(each b o e).2⟩,os,bare⟩
 have na:a∉ts:=λz=>by
  have:=(Qs a z).1;rw [ha] at this;cases this
 cases hk:K.lookup a with
 | some o =>
  have e:=KX a o hk;rw [ha] at e;cases e;refine core (λb=>if b∈ts then some (.xI #[]) else none) (λb=>?_) (λT h=>ar h) (.inr ⟨_,vs.toArray,_,hk,rfl,rfl,rfl,by rw [cq,Zw];exact hl,by simpa using rv⟩) (λb u z=>?_) (λb z=>?_) λz=>absurd (aq na) z
  .by_cases h:b∈ts
   .exact .inr (.inr ⟨h,ar h⟩)
   exact .inl (aq h)
  .by_cases h:b∈ts
   .have z':=(ar h).symm.trans z;cases z';exact(Qs b h).1
   have z':=(aq h).symm.trans z;cases z'
  by_cases h:b∈ts
  .exact .inr h
  exact absurd (aq h) z
 | none =>
  refine core (λb=>if b=a then some (.mD 839 (.lst (ns.map V.int))) else if b∈ts then some (.xI #[]) else none) (λb=>?_) (λT h=>?_) (.inl (.inr ⟨839,ar rfl⟩)) (λb u z=>?_) (λb z=>?_) λ_=>hk
  .by_cases hb:b=a
   .exact .inr (.inl ⟨_,_,ar hb⟩)
   by_cases h:b∈ts
   .exact .inr (.inr ⟨h,(aq hb).trans (ar h)⟩)
   exact .inl ((aq hb).trans (aq h))
  .exact(aq (λz:T=a=>na (z ▸ h))).trans (ar h)
  .by_cases hb:b=a
   .have z':=(ar hb).symm.trans z;cases z';subst hb;exact⟨ha,by rw [ay];exact hl,vs,_,rv,ha⟩
   by_cases h:b∈ts
   .have z':=((aq hb).trans (ar h)).symm.trans z;cases z';exact(Qs b h).1
   have z':=((aq hb).trans (aq h)).symm.trans z;cases z'
  by_cases hb:b=a
  .exact .inl hb
  by_cases h:b∈ts
  .exact .inr h
  exact absurd ((aq hb).trans (aq h)) z
def Hz {l:OpenLaw}{n k:Nat}{q:Program}{loose:z0t}{XP:z0c->Heap->Prop}{YP:World->Heap->Prop}{d:DefRec}{K:Params->Frag}{CX:World->Bh}{sp:World->Sp}{x:Str}{ts:z0q}
  (hn:l.most=some n)(Hh:n<=sizeLine)(Vd:d.params.defaults=[])(hr:ft k callerA)
  (hY:∀(w:World)(h:Heap),YP w h->(K w.params).In h/\∀T∈ts,h.get? T=some (tabObj #[]))
  (hK:∀w:World,∀T∈ts,(K w.params).lookup T=none/\∃c,codeHdIn (K w.params) c T=true)
  (F:∀(w:World)(mg:z0c)(fa:Addr)(h:Heap),(K w.params).In h->h.Ns mainGlobals mg->mg d.name=some (.ref fa) ->
   ∃fd:FuncData,(∀(s:Shared)(u:Value),BindsTo s fd ⟨[u],[]⟩ [(x,u)]) /\
    ∀base:Heap,(K w.params).In base->base.Ns mainGlobals mg->uH mg base->bO l.prog w (K w.params) mg base (CX w) k fa fd [x] (sp w))
  (EE:∀(w:World)(H:Hp)(a:Addr)(ns:z0u),ns.length<=n->KG ts H->(∀T∈ts,H T=some (.xI #[]))->aX (K w.params) H a (ns.map V.int)->sp w [91] H (λv _=>v=.bl true) λ_ _ _=>False)
  (hCX:∀(w:World)(H:Hp)(s:Shared)(e:Value)(s':Shared),CX w [] H s (λ_ _ _=>False) e s'->False) :
  WalkO q loose XP YP l.row.toRowW d [] (λf vs=>PySem.call f vs):=by
 refine Nk.AI hn Vd λw s₀ s₁ mg mb fa o pm cd doc a vs ns G Y ho hd wc U1 Qx hints bE hg=>?_;obtain⟨KX,TX⟩:=hY w _ Y;obtain⟨fd,hb,hF⟩:=F w mg fa _ KX G.T.g U1;exact FX KX G.T.g G.T.b G.T.builtins G.T.nolimit G.T.bmain hg (λT hT=>⟨TX T hT,hK w T hT⟩) Qx hints (cW bE Hh) hr hF hb (λH hO hT hS=>EE w H a ns bE hO hT hS) λH e s'=>hCX w H s₁ e s'
def bU {X:Cx}{scope:Scope}{js:z0i}(h:(js.all λp=>X.N[p.1]? == some p.2 && X.env.scope.names.lookup p.2 == some .cell && scope.names.lookup p.2 == some .free)=true)
  (h2:(scope.names.all λy=>y.2 != .free || X.env.scope.names.lookup y.1 == some .cell)=true):KO X scope js:=by
 refine⟨λp hp=>?_,λy hy=>?_⟩
 .have:=iJ.mp h p hp;simp only [md,beq_iff_eq] at this;exact⟨this.1.1,this.1.2,this.2⟩
 have:=iJ.mp h2 _ hy;simpa using this
def A7 {σ:St}{H:Hp}{A B:106}(h:A H):jd σ H λb H3=>if b=true then A H3 else B H3:=by
 show if true=true then A H else B H;exact tR h
def goN {i:Nat}{v:V}{σ:St}{H:Hp}{Q:St->106}(h:Q (σ.set i (some v)) H):dX i v σ H Q:=h
def JD {X:Cx}(K:aY)(hK:X.K=K:=by rfl):Wr X (TQ K):=by
 subst hK;exact e_
def jh {X:Cx}{es:z0r}{k:Nat}{t:Ox}{n:Nat}{pos:Pos}(K:aY)(hc:530)(h:Wi X es t)(hK:X.K=K:=by rfl)
  (hn:(assignEach es X.env).length=n:=by rfl)(oG:(assignEach es X.env).findIdx? 27=none:=by rfl):PG X (.Tuple es k pos) (Ge K n t):=by
 subst hK;exact gE hc h hn oG
end L2
section
variable {P:PySem.Program}{w:PySem.World}{K:aY}{mg:PySem.Str->Option PySem.Value}{base:PySem.Heap}{f:PySem.Addr}{fd:PySem.FuncData}
namespace fC
open PySem L2
def top (i:Nat):Stmt:=PySem.Challenge.pw_wright_k41_too_many_rooms.main.body.getD i (.Pass ⟨0,0,0,0⟩)
abbrev B9:Stmt:=top 12
abbrev BY:Stmt:=top 13
abbrev sX:Stmt:=top 28
abbrev x_:Stmt:=top 29
abbrev sY:Stmt:=top 30
abbrev H_:Stmt:=top 32
abbrev B0:Stmt:=top 33
abbrev O_:Stmt:=top 34
abbrev sV:Stmt:=top 36
abbrev yd:Stmt:=top 37
abbrev oj:Stmt:=top 38
abbrev x9:Stmt:=top 41
abbrev BZ:Stmt:=top 42
abbrev Pb:Stmt:=top 43
abbrev zI:Stmt:=top 50
abbrev HZ:Stmt:=top 14
abbrev Pa:Stmt:=top 15
abbrev om:Stmt:=top 45
abbrev pQ:Stmt:=top 46
abbrev sW:Stmt:=top 47
abbrev sLT:Stmt:=top 48
structure Txt (mg:z0c):Prop where
 len:mg "len"=none
 NB:mg "range"=none
 ZK:mg "isinstance"=none
 tup:mg "tuple"=none
 lst:mg "list"=none
 ET:mg "dict"=none
 all:mg "all"=none
 any:mg "any"=none
 str:mg "str"=none
 int:mg "int"=none
 boo:mg "bool"=none
 MP:mg "enumerate"=none
 sum:mg "sum"=none
 max:mg "max"=none
 min:mg "min"=none
section
def boot_all:bootBuiltins "all"=some (.builtin "all"):=by decide +kernel
def jO:bootBuiltins "list"=some (476):=by decide +kernel
def AG:bootBuiltins "str"=some (.type "str"):=by decide +kernel
def fY:bootBuiltins "dict"=some (564):=by decide +kernel
end
end fC
namespace L2
open PySem
def bK {K:aY}{H:Hp}{D a:Addr}{xs ys:84}{o:HO}(hD:H D=some (.lst ys))(h:515):aU K (upd H D o) a xs:=by
 rcases h with (h | ⟨u,h⟩) | h
 .exact .inl (.inl (780))
 .exact .inl (.inr ⟨u,780⟩)
 exact .inr h
def yS (kvs:86)(k:aI):798=true↔k∈kvs.map 27:=by
 rw [List.any_eq_true,a9];constructor
 .rintro⟨x,h1,h2⟩;exact⟨x,h1,dJ h2⟩
 rintro⟨x,h1,h2⟩;exact⟨x,h1,dS h2⟩
def Ck {kvs:86}{k:aI}{v:V}(h:k∈kvs.map 27):(bB kvs k v).map 27=kvs.map 27:=by
 unfold bB;rw [ar ((yS kvs k).mpr h),eE];refine xl λx hx=>?_;show (if x.1=k then (x.1,v) else x).1=x.1
 split <;> rfl
def jf {kvs:86}{k:aI}{v:V}(h:¬k∈kvs.map 27):(bB kvs k v).map 27=kvs.map 27++[k]:=by
 unfold bB;rw [aq (λz=>h ((yS kvs k).mp z)),aP];rfl
def dj (kvs:86)(k:aI):(aQ kvs k).isSome=true↔k∈kvs.map 27:=by
 rw [<-iR];exact yS kvs k
theorem cM {α β γ:Type}{F:α->β->Prop}{G:α->γ->Prop}{φ:β->γ}:∀{xs:List α}{ys:List β},Paired F xs ys->(∀a b,F a b->G a (φ b))->Paired G xs (ys.map φ)
 | _,_,.nil,_=>.nil
 | _,_,.cons h t,k=>.cons (k _ _ h) (cM t k)
def cC {z:Str}{l:z0t}:(88:aI)∈l.map Sum.inr↔z∈l:=by
 rw [a9];constructor
 .rintro⟨x,h1,h2⟩;rw [<-mM h2];exact h1
 intro h;exact⟨z,h,rfl⟩
end L2
namespace M11
abbrev aw:=PySem.Str×602
def eK (a:602)(h:PySem.Str):602:=if h∈a then a else a++[h]
def yL (bD hs:602):602:=hs.foldl eK bD
def addW (cN a:602)(p:PySem.Str):602:=if p∈cN then a else eK a p
def qR (cN bD ps:602):602:=ps.foldl (addW cN) bD
def K0 (aa:56)(name:PySem.Str) (k:Nat):Bool:=decide ((aa[k]?.map 27)=some name)
def nums (aa:56)(name:PySem.Str) (i:Nat):z0u:=((List.range i).filter (K0 aa name)).map λk:Nat=>(k:Int)
def FJ (aa:56)(name:PySem.Str) (i:Nat):nums aa name (i+1)=nums aa name i++(if K0 aa name i=true then [(i:Int)] else []):=by
 unfold nums;rw [rE,m_,aP]
 congr 1
 by_cases h:K0 aa name i=true
 .rw [ar h];simp [h]
 rw [aq h];simp [h]
def zR (aa:56)(name:PySem.Str) (i:Nat):(nums aa name i).length<=i:=by
 unfold nums;rw [ay];have:=ql (K0 aa name) (List.range i);rw [iu] at this;exact this
def lQ (a:602)(h:PySem.Str):(eK a h).length<=a.length+1:=by
 unfold eK;split <;> simp
theorem jn:∀(hs bD:602),(yL bD hs).length<=bD.length+hs.length
 | [],bD=>by simp [yL]
 | h::r,bD=>by
  have:=jn r (eK bD h);have:=lQ bD h;show (yL (eK bD h) r).length<=_;rw [cf];omega
def Kr (cN a:602)(p:PySem.Str):(addW cN a p).length<=a.length+1:=by
 unfold addW;split
 .omega
 exact lQ a p
theorem nV (cN:602):∀(ps bD:602),(qR cN bD ps).length<=bD.length+ps.length
 | [],bD=>by simp [qR]
 | p::r,bD=>by
  have:=nV cN r (addW cN bD p);have:=Kr cN bD p;show (qR cN (addW cN bD p) r).length<=_;rw [cf];omega
end M11
namespace fC
open PySem L2 M11
def jI {bD:86}{as:z0t}(e:bD.map 27=as.map Sum.inr)(h:Str){v:V}:(bB bD (Sum.inr h) v).map 27=(eK as h).map Sum.inr:=by
 unfold eK;by_cases q:h∈as
 .rw [ar q,Ck (by rw [e];exact cC.mpr q),e]
 rw [aq q,jf (by rw [e];exact λz=>q (cC.mp z)),e,aP];rfl
theorem oF:∀(hs:z0t)(bD:86) (as:z0t),bD.map 27=as.map Sum.inr->(cR (hs.map 675) bD).map 27=(yL as hs).map Sum.inr
 | [],bD,as,e=>e
 | h::r,bD,as,e=>by
  refine oF r (bB bD (Sum.inr h) (.bl true)) (eK as h) ?_;exact jI e h
def keys_str {kvs:86}{zs:z0t}(e:kvs.map 27=zs.map Sum.inr):(622)=257:=by
 have e2:(622)=(kvs.map 27).map kV:=by rw [eE];rfl
 rw [e2,e,eE];rfl
section
def E7 (K:aY)(H:Hp)(r:Addr)(ru:aw):Prop:=∃p,aU K H r [.str ru.1,.ref p]/\aU K H p (ru.2.map V.str)
def bY (K:aY)(H:Hp)(rs:z0q)(aa:56):Prop:=Paired (λr ru=>E7 K H r ru) rs aa
def bY.keep {H H':Hp}{rs:z0q}{aa:56}(h:520)(k:∀a xs,515->aU K H' a xs):bY K H' rs aa:=Paired.cJ h λr ru ⟨p,a,b⟩=>⟨p,k _ _ a,k _ _ b⟩
def bY.same {H H':Hp}{rs:z0q}{aa:56}(h:520)(s:147):bY K H' rs aa:=h.keep λ_ _ z=>s.tup z
def bY.get {H:Hp}{rs:z0q}{aa:56}(h:520){i:Nat}{r:Addr}(e:rs[i]?=some r):∃ru,aa[i]?=some ru/\E7 K H r ru:=by
 have l:=bf h;have li:=(a7.mp e).1;have e2:aa[i]?=some (aa[i]'∅):=cx ∅;obtain⟨x,e3,e4⟩:=Paired.at_ h i _ e2;rw [e] at e3;cases e3;exact⟨_,e2,e4⟩
def uq {H:Hp}{R D:Addr}{rs:z0q}{aa:56}{σ:St}{Qp:106}(hR:aX K H R 260)(dA:520)(bE:568)(hD:H D=none)
  (q:∀ts H2,aD H H2->H2 D=480->Paired (λt h=>aU K H2 t [.str h,.bl true]) ts 567->Qp H2) :
  ∃W:Nat->490,(∃m,W 0 m [] (eV ["head","parts"] [] σ) 482) /\
 ∀i m ys σ' H,529->((mI K R).stop i H/\Qp H)\/((mI K R).go i H/\∃m',m' < m/\∀x H',(mI K R).o7 i H x H'->Ge K 2 (lM (dX 0) (lM (dX 1) J_)) x σ' H' λσ2 H2=>jd σ2 H2 λb H3 =>
  if b=true then uR (gu (hU 0) (gu (tC (.bl true)) qH)) σ2 H3 526 else 527):=by
 have ll:=bf dA;refine dB (xs:=122) (λi ys σ2 H2=>∃ts:z0q,ys=477/\ts.length=i/\Paired (λt h=>aU K H2 t [.str h,.bl true]) ts ((aa.take i).map 27)/\(∃y0 y1,σ2=[y0,y1])/\618)
  ⟨[],rfl,rfl,.nil,⟨none,none,rfl⟩,ah hD _,af⟩ (λi ys σ2 H2 _ h=>?_) 657 621
 .obtain⟨_,_,_,_,_,sm,_⟩:=h;exact sm.seq hR
 .obtain⟨ts,rfl,ht,hp,⟨y0,y1,rfl⟩,sm,hd⟩:=h;rw [bx] at ex;obtain⟨r,er,rfl⟩:=473;obtain⟨ru,e1,p,v1,v2⟩:=dA.get er;have li:=(a7.mp e1).1;refine⟨r,_,rfl,sm.tup v1,rfl,_,_,rfl,_,_,rfl,rfl,?_⟩;refine A7 ?_;refine⟨_,rfl,qF,λt jl=>⟨?_,507,ts++[t],?_,?_,?_,⟨_,_,rfl⟩,?_,af⟩⟩
  .rw [ai (aB hd jl)];exact hd
  .rw [aP];rfl
  .rw [bp,ht];rfl
  .rw [di,e1,aP];have jx:upd H2 t (.tup [.str ru.1,.bl true]) D=480:=by rw [ai (aB hd jl)];exact hd
   exact ff (Paired.cJ hp λt' h' z=>bK jx ((ah jl _).tup z)) (bK jx (aU.of af))
  intro b o hb;rw [585];exact ah jl _ _ _ (sm b o hb)
 obtain⟨ts,rfl,ht,hp,_,sm,hd⟩:=h;rw [ay,ll,dW] at hp;exact q ts H2 sm hd hp
def lV (K:aY):Sp:=λvs H Q _=>∃(R:Addr)(rs:z0q)(aa:56),vs=[.ref R]/\aX K H R 260/\520/\568 /\
 ∀D H',H D=none->147->H' D=some (.lst ((yL [] 567).map V.str))->Q (.ref D) H'
def Ly:aM 159 159 (ax B9):=417
def Je (F:jo K "heads_of" "heads_of" B9 f fd)(T:Txt mg):bO P w K mg base gb 1 f fd 159 (lV K):=by
 refine F.ok Ly 420 472
 .obtain⟨R,rs,aa,rfl,_⟩:=h;rfl
 obtain⟨R,rs,aa,rfl,hR,dA,bE,q⟩:=h;refine⟨_,av (bS (bu (nJ rfl) rfl T.lst jO (ae (bu (d8 rfl) rfl T.ET fY (ae
  (cm ["head","parts"] [] rfl (bP 72) 487 nofun rfl nofun
   893 539
   (λ_ _ _ _ _=>bG (ae 72 (ae h_ ao)))) ao)) ao))),?_⟩
 dsimp only [Dj];refine⟨_,rfl,R,rfl,⟨_,hR⟩,λD hD=>uq hR dA bE hD λts H2 sm hd hp=>?_⟩;have kp:Paired (λt (kv:aI×V)=>aU K H2 t [kV kv.1,kv.2]) ts 865:=cM hp 479;refine⟨D,ts,_,rfl,hd,kp,λd hd2=>?_⟩;refine⟨d,_,rfl,af,λD2 qb=>?_⟩;rw [keys_str (oF 567 [] [] rfl)];have nd:D2≠d:=λz=>by rw [z,af] at qb;cases qb
 exact q D2 _ (sm.free (by rw [ai nd] at qb;exact qb)) (sm.trans ((ah hd2 _).trans (ah qb _))) af
theorem jN:∀(aa:56) (n:Nat),aa.length<=n->547->(aa.flatMap 105).length<=8 * n
 | [],n,_,_=>58
 | ru::r,n,hl,h=>by
  rw [cf] at hl;have:=jN r (n - 1) ∅ λx hx=>h x (bA _ hx);have:=h ru a8;rw [kU,bp];omega
def hd (aa:56):z0t:=yL [] 567
def DL (K:aY):Sp:=λvs H Q _=>∃(R:Addr)(rs:z0q)(aa:56),vs=[.ref R]/\aX K H R 260/\520/\568/\547 /\
 ∀D H',H D=none->147->H' D=some (.lst ((qR (hd aa) [] 665).map V.str))->Q (.ref D) H'
def lW:aM ["rules","heads","words","head","parts","part"] 159 (ax BY):=417
def IX (F:jo K "words_in" "words_in" BY f fd)(T:Txt mg):bO P w K mg base gb 1 f fd 159 (DL K):=by
 refine F.ok lW 420 472
 .obtain⟨R,rs,aa,rfl,_⟩:=h;rfl
 obtain⟨R,rs,aa,rfl,hR,dA,bE,h8,q⟩:=h;have hu:=fc hr;refine⟨_,aj (aF (i:=1) lW.nd rfl 68 (bu (d8 rfl) rfl T.ET fY (ae
  (cm ["head","parts"] [] rfl (bP 72) 487 nofun rfl nofun
   893 539
   (λ_ _ _ _ _=>bG (ae 72 (ae h_ ao)))) ao)))
  (aj (aF (i:=2) lW.nd rfl 68 fV)
  (aj (cP c_ rfl (bP 72) (gE rfl (aH (az (i:=3) lW.nd rfl 68) (aH (az (i:=4) lW.nd rfl 68) cI)))
   (av (cP c_ rfl (ju (pv 4)) (az (i:=5) lW.nd rfl 68)
    (av (dq (eM (de hu (pv 5) 102)) (av (gC hu (pv 2) (pv 5) h_ rfl)) bL)))))
  (av (bS (bu (nJ rfl) rfl T.lst jO (ae (pv 2) ao)))))),?_⟩
 nofun
 refine⟨_,rfl,R,rfl,⟨_,hR⟩,λD hD=>uq hR dA bE hD λts H2 sm hd2 hp=>?_⟩;have kp:Paired (λt (kv:aI×V)=>aU K H2 t [kV kv.1,kv.2]) ts 865:=cM hp 479;refine⟨D,ts,_,rfl,hd2,kp,λd QL=>?_⟩;have NW:(cR 865 []).map 27=(hd aa).map Sum.inr:=oF 567 [] [] rfl;generalize cR 865 []=kH at NW ⊢;have RG:=sm.trans (ah QL (.dK kH));have jx:upd H2 d (.dK kH) d=some (.dK kH):=af;generalize upd H2 d (.dK kH)=H3 at RG jx;intro e he;have hde:∀o,upd H3 e o d=some (.dK kH):=λo=>by rw [ai (aB jx he)];exact jx
 have DX:∀o,aD H (upd H3 e o):=λo=>RG.trans (ah he o);have ll:=bf dA
 let Dv:Dw:=λi σ H5=>∃(kvs:86)(y3 y4 y5:126),σ=[aZ R,aZ d,aZ e,y3,y4,y5]/\H5=upd H3 e 489 /\
  kvs.map 27=(qR (hd aa) [] ((aa.take i).flatMap 105)).map Sum.inr
 refine⟨_,rfl,R,rfl,⟨_,(DX _).seq hR⟩,du (xs:=122) Dv ⟨[],none,none,none,rfl,rfl,rfl⟩ ?_ ?_ ?_⟩
 .rintro i σ H5 _ ⟨kvs,y3,y4,y5,rfl,rfl,_⟩;exact(DX _).seq hR
 .rintro i x σ H5 ex ⟨kvs,y3,y4,y5,rfl,rfl,hk⟩
  ac_nf0
  rw [bx] at ex;obtain⟨r,er,rfl⟩:=473;obtain⟨ru,e1,p,v1,v2⟩:=dA.get er;have li:=(a7.mp e1).1;have Sh:=h8 ru (cv e1);have eT:(aa.take (i+1)).flatMap 105=(aa.take i).flatMap 105++ru.2:=by
   rw [di,e1,rW];simp
  have lA:((aa.take i).flatMap 105).length<=8 * i:=jN (aa.take i) i (by rw [fQ];omega) λru zc=>h8 ru (List.mem_of_mem_take zc);refine⟨r,_,rfl,(DX _).tup v1,rfl,_,_,rfl,_,_,rfl,rfl,?_⟩
  let Nh:Dw:=λj σ H6=>∃(kvs:86)(y5:126),σ=[aZ R,aZ d,aZ e,some (.str ru.1),aZ p,y5]/\H6=upd H3 e 489 /\
   kvs.map 27=(qR (hd aa) [] 844).map Sum.inr
  refine⟨_,rfl,p,rfl,⟨_,(DX _).tup v2⟩,EK (xs:=ru.2.map V.str) Nh ⟨kvs,_,rfl,rfl,by rw [rC,dG];exact hk⟩ ?_ ?_ ?_⟩
  .rintro j σ H6 _ ⟨kvs,y5,rfl,rfl,_⟩;exact(DX _).tup v2
  .rintro j x σ H6 Dd ⟨kvs,y5,rfl,rfl,zd⟩
   ac_nf0
   rw [bx] at Dd;obtain⟨z,ez,rfl⟩:=cH.mp Dd;have lj:=(a7.mp ez).1;have eS:qR (hd aa) [] ((aa.take i).flatMap 105++ru.2.take (j+1))=addW (hd aa) (qR (hd aa) [] 844) z:=by
    rw [di,ez,<-dH];exact List.foldl_append
   have lk:kvs.length<=8 * i+8:=by
    have h1:kvs.length=(qR (hd aa) [] 844).length:=by
     have:=congrArg List.length zd;rw [ay,ay] at this;exact this
    have h2:=nV (hd aa) 844 [];rw [bp,fQ] at h2;simp only [kq] at h2;omega
   have mem:(aQ kH 107).isSome=true↔z∈hd aa:=by rw [dj,NW];exact cC
   refine⟨_,rfl,_,rfl,d,_,rfl,b8.k (k:=88) (hde _),_,rfl,?_⟩;refine 566
   .have nm:z∉hd aa:=λh=>by rw [mem.mpr h] at c;exact absurd c nofun
    refine⟨_,rfl,_,rfl,e,_,rfl,ma.k (k:=88) af (bX ∅),?_⟩;refine⟨744,_,rfl,by rw [qT],?_⟩;rw [eS];unfold addW;rw [aq nm];exact jI zd z
   have im:z∈hd aa:=mem.mp (by
    cases h:(aQ kH 107).isSome with
    | true=>rfl
    | false=>exact absurd (by rw [h];rfl) c)
   refine⟨kvs,_,rfl,rfl,?_⟩;rw [eS];unfold addW;rw [ar im];exact zd
  rintro σ H6 ⟨kvs,y5,rfl,rfl,zd⟩;rw [ay,dW,<-eT] at zd;exact⟨kvs,_,_,_,rfl,rfl,zd⟩
 rintro σ H5 ⟨kvs,y3,y4,y5,rfl,rfl,hk⟩;rw [ay,ll,dW] at hk;refine⟨_,rfl,e,_,rfl,af,λD2 qb=>?_⟩;rw [keys_str hk];exact q D2 _ ((DX _).free qb) ((DX _).trans (ah qb _)) af
end
end fC
namespace L2
open PySem
section
variable {K:aY}{a D:Addr}{xs:84}{ts:z0t}{js:z0i}{g:TG}{tif:TT}{te:TE}{R:106}{σ:St}{H:Hp}
def iI (Pv:490)(h0:Pv 0 [] (eV ts js σ) 482)(hl:∀i ys σ H,i<=xs.length->Pv i ys σ H->515)
  (hs:∀i x ys σ H,575->Pv i ys σ H->g x σ H 799)
  (hd:∀ys σ H,Pv xs.length ys σ H->R H) :
  ∃W:Nat->490,834 /\
 ∀i m ys σ' H,529->((qE K a).stop i H/\R H)\/((qE K a).go i H/\∃m',m' < m/\∀x H',(qE K a).o7 i H x H'->g x σ' H' λσ2 H2=>tif σ2 H2 λb H3 =>
  if b=true then te σ2 H3 526 else 527):=by
 refine 869;rintro i m ys σ' H ⟨rfl,hi,p⟩;have q:=hl i ys σ' H hi p;by_cases jQ:i < xs.length
 .refine 884;obtain⟨e,y⟩:=y;subst e;have z:=hs i x ys σ' _ (y xs q) p;have h1:(i+1<=xs.length)=True:=eq_true jQ;simp only [h1,true_and];exact z
 have e:i=xs.length:=121
 subst e;exact .inl ⟨⟨xs,q,aE _⟩,hd ys σ' H p⟩
def Az (Pv:490)(h0:Pv 0 [] (eV ts js σ) 482)(hl:∀i ys σ H,i<=xs.length->Pv i ys σ H->515)
  (hs:∀i x ys σ H t,575->Pv i ys σ H->H t=none->g (.ref t) σ (upd H t (.tup [141,x])) 799)
  (hd:∀ys σ H,Pv xs.length ys σ H->R H) :
  ∃W:Nat->490,834 /\
 ∀i m ys σ' H,529->((uE K a).stop i H/\R H)\/((uE K a).go i H/\∃m',m' < m/\∀x H',(uE K a).o7 i H x H'->g x σ' H' λσ2 H2=>tif σ2 H2 λb H3 =>
  if b=true then te σ2 H3 526 else 527):=by
 refine 869;rintro i m ys σ' H ⟨rfl,hi,p⟩;have q:=hl i ys σ' H hi p;by_cases jQ:i < xs.length
 .refine 884;obtain⟨t,y0,rfl,ht,rfl,y⟩:=y;have z:=hs i y0 ys σ' _ t (y xs q) p ht;have h1:(i+1<=xs.length)=True:=eq_true jQ;simp only [h1,true_and];exact z
 have e:i=xs.length:=121
 subst e;exact .inl ⟨⟨xs,q,aE _⟩,hd ys σ' H p⟩
end
def lN {K:aY}{a:Addr}{xs:84}{g:TG}{tb:TS}{D:Ends}{σ:St}{H:Hp}(Pv:Nat->St->106)(h0:Pv 0 σ H)(hl:∀i σ H,i<=xs.length->Pv i σ H->aX K H a xs)
  (hs:∀i x σ H t,575->Pv i σ H->H t=none->g (.ref t) σ (upd H t (.tup [141,x])) 819)(hd:∀σ H,Pv xs.length σ H->D.nx σ H) :
  ∃W:Nat->Nat->St->106,(∃m,W 0 m σ H)/\∀i m σ H,W i m σ H ->
   ((Ws K a).stop i H/\D.nx σ H)\/((Ws K a).go i H/\∃N:St->106,776/\∀x H',(Ws K a).o7 i H x H'->773):=by
 refine 854;rintro i m σ H ⟨rfl,hi,p⟩;have q:=hl i σ H hi p;by_cases jQ:i < xs.length
 .refine 852;obtain⟨t,y0,rfl,ht,rfl,y⟩:=y;exact hs i y0 σ _ t (y xs q) p ht
 have e:i=xs.length:=121
 subst e;exact .inl ⟨⟨xs,q,aE _⟩,hd σ H p⟩
def qc {K:aY}{a:Addr}{xs:84}{g:TG}{tb:TS}{D:Ends}{σ:St}{H:Hp}(Pv:Nat->St->106)(h0:Pv 0 σ H)(hl:∀i σ H,i<=xs.length->Pv i σ H->515)
  (hs:∀i x σ H t,575->Pv i σ H->H t=none->g (.ref t) σ (upd H t (.tup [141,x])) 819)(hd:∀σ H,Pv xs.length σ H->D.nx σ H) :
  ∃W:Nat->Nat->St->106,(∃m,W 0 m σ H)/\∀i m σ H,W i m σ H ->
   ((uE K a).stop i H/\D.nx σ H)\/((uE K a).go i H/\∃N:St->106,776/\∀x H',(uE K a).o7 i H x H'->773):=by
 refine 854;rintro i m σ H ⟨rfl,hi,p⟩;have q:=hl i σ H hi p;by_cases jQ:i < xs.length
 .refine 852;obtain⟨t,y0,rfl,ht,rfl,y⟩:=y;exact hs i y0 σ _ t (y xs q) p ht
 have e:i=xs.length:=121
 subst e;exact .inl ⟨⟨xs,q,aE _⟩,hd σ H p⟩
def wy {K:aY}{H:Hp}{p D d:Addr}{zs:z0t}{kvs:86}{σ:St}{js:z0i}{Qp:106}(hσ:eV ["part"] js σ=[none,aZ d])(hp:aU K H p 478)(hz:zs.length<=1000)
  (hd:H d=375)(hD:H D=none)(q:∀H2,aD H H2->H2 D=some (.lst ((zs.map λz=>632).map V.bl))->Qp H2) :
  ∃W:Nat->490,863 /\
 ∀i m ys σ' H,529->((qE K p).stop i H/\Qp H)\/((qE K p).go i H/\∃m',m' < m/\∀x H',(qE K p).o7 i H x H'->dX 0 x σ' H' λσ2 H2=>jd σ2 H2 λb H3 =>
  if b=true then Tn (hU 0) (hU 1) σ2 H3 526 else 527):=by
 refine iI (xs:=257) (λi ys σ2 H2=>ys=(((zs.take i).map λz=>632).map V.bl)/\(∃y0,σ2=[y0,aZ d])/\618)
  ⟨rfl,⟨none,hσ⟩,ah hD _,af⟩ (λi ys σ2 H2 _ h=>h.2.2.1.tup hp) 657 621
 .obtain⟨rfl,⟨y0,rfl⟩,sm,hd2⟩:=h;rw [bx] at ex;obtain⟨z,ez,rfl⟩:=473;have li:=(a7.mp ez).1;refine goN (A7 ?_);refine⟨_,rfl,_,rfl,d,_,rfl,b8.k (k:=88) (sm _ _ hd),hd2,bX (by rw [ay,ay,fQ];omega),?_,421,?_,af⟩
  .rw [di,ez,aP,aP];rfl
  intro b o hb;rw [585];exact sm b o hb
 obtain⟨rfl,_,sm,hd2⟩:=h;rw [ay,dW] at hd2;exact q H2 sm hd2
def hV {K:aY}{H:Hp}{D a:Addr}{xs:84}{ys:86}{o:HO}(hD:H D=some (.dK ys))(h:515):aU K (upd H D o) a xs:=by
 rcases h with (h | ⟨u,h⟩) | h
 .exact .inl (.inl (780))
 .exact .inl (.inr ⟨u,780⟩)
 exact .inr h
theorem gP {α:Type} [DecidableEq α]:∀(l m:List α),l.Nodup->(∀x∈l,x∈m)->l.length<=m.length
 | [],m,_,_=>cV _
 | a::l,m,hn,h=>by
  have hm:=h a a8;have:=gP l (m.erase a) (dU.mp hn).2 λx hx=>(List.mem_erase_of_ne (λz:x=a=>(dU.mp hn).1 (by rw [<-z];exact hx))).mpr (h x (bA _ hx));rw [List.length_erase_of_mem hm] at this;have:=List.length_pos_of_mem hm;rw [cf];omega
end L2
namespace M11
open PySem L2
inductive uO (aa:56):z0h->Prop
 | nil:uO aa []
 | snoc {aC:z0h}{k:Nat}{ru:aw}:uO aa aC->aa[k]?=some ru->ru.1∉aC.map 27->(∀p∈ru.2,p∈aC.map 27)->uO aa (aC++[(ru.1,k)])
def vh (aa:56) (n:Nat)(aC:z0h):Prop:=∀ru∈aa.take n,(∀p∈ru.2,p∈aC.map 27)->ru.1∈aC.map 27
def uO.nd {aa:56}{aC:z0h}(h:uO aa aC):(aC.map 27).Nodup:=by
 induction h with
 | nil=>exact eG
 | snoc h e n p ih =>
  rw [aP];refine iM.mpr ⟨ih,58,λa ha b hb=>?_⟩;rw [pH,bj] at hb;exact λz=>n (by rw [<-hb,<-z];exact ha)
def uO.head {aa:56}{aC:z0h}(h:uO aa aC):∀x∈aC.map 27,x∈aa.map 27:=by
 induction h with
 | nil=>simp
 | snoc h e n p ih =>
  intro x hx;rw [aP] at hx;rcases cw.mp hx with hx | hx
  .exact ih x hx
  rw [pH,bj] at hx;rw [hx];exact ja (cv e)
def uO.len {aa:56}{aC:z0h}(h:uO aa aC):aC.length<=aa.length:=by
 have:=gP _ _ h.nd h.head;rw [ay,ay] at this;exact this
end M11
namespace fC
open PySem L2 M11
section
def oZ (K:aY)(H:Hp)(ts:z0q)(aC:z0h):Prop:=Paired (λt (e:Str×Nat)=>aU K H t [.str e.1,.int (e.2:Int)]) ts aC
def oZ.keep {H H':Hp}{ts:z0q}{aC:z0h}(h:oZ K H ts aC)(k:∀a xs,515->aU K H' a xs):oZ K H' ts aC:=Paired.cJ h λt e z=>k _ _ z
structure E_ (K:aY)(aa:56)(H H5:Hp)(D d:Addr)(ts:z0q)(aC:z0h)(kvs:86):Prop where
 sm:aD H H5
 hD:H5 D=480
 hd:H5 d=375
 keys:kvs.map 27=(aC.map 27).map Sum.inr
 ev:oZ K H5 ts aC
 emp:uO aa aC
def E_.same {aa:56}{H H5 H6:Hp}{D d:Addr}{ts:z0q}{aC:z0h}{kvs:86}(h:E_ K aa H H5 D d ts aC kvs)(s:aD H5 H6):E_ K aa H H6 D d ts aC kvs :=
 ⟨h.sm.trans s,s _ _ h.hD,s _ _ h.hd,h.keys,h.ev.keep λ_ _ z=>s.tup z,h.emp⟩
def E_.mem {aa:56}{H H5:Hp}{D d:Addr}{ts:z0q}{aC:z0h}{kvs:86}(h:E_ K aa H H5 D d ts aC kvs)(z:Str):632=true↔z∈aC.map 27:=by
 rw [dj,h.keys];exact cC
def E_.len {aa:56}{H H5:Hp}{D d:Addr}{ts:z0q}{aC:z0h}{kvs:86}(h:E_ K aa H H5 D d ts aC kvs):ts.length=aC.length/\kvs.length=aC.length:=by
 refine⟨bf h.ev,?_⟩;have:=congrArg List.length h.keys;simpa using this
def E_.more {aa:56}{H H5:Hp}{D d t:Addr}{ts:z0q}{aC:z0h}{kvs:86}(h:E_ K aa H H5 D d ts aC kvs)(fD:H D=none)(fd:H d=none){k:Nat}{ru:aw}(e:aa[k]?=some ru)
  (n:ru.1∉aC.map 27)(p:∀x∈ru.2,x∈aC.map 27)(ht:upd H5 d (.dK (bB kvs (521) (.bl true))) t=none) :
  E_ K aa H (upd (upd (upd H5 d (.dK (bB kvs (521) (.bl true)))) t (.tup [.str ru.1,.int (k:Int)])) D (.lst (477++[.ref t]))) D d (ts++[t]) (aC++[(ru.1,k)]) (bB kvs (521) (.bl true)):=by
 have nDd:D≠d:=λz=>by have:=h.hD;rw [z,h.hd] at this;cases this
 have nt:t≠d:=λz=>by rw [z,af] at ht;cases ht
 have UI:H5 t=none:=by rw [ai nt] at ht;exact ht
 have nDt:D≠t:=λz=>by rw [<-z,h.hD] at UI;cases UI
 have qb:upd (upd H5 d (.dK (bB kvs (521) (.bl true)))) t (.tup [.str ru.1,.int (k:Int)]) D=480:=by rw [ai nDt,ai nDd];exact h.hD
 have kp:∀a xs,aU K H5 a xs->aU K (upd (upd (upd H5 d (.dK (bB kvs (521) (.bl true)))) t (.tup [.str ru.1,.int (k:Int)])) D (.lst (477++[.ref t]))) a xs:=λa xs z =>
  bK qb ((ah ht _).tup (hV h.hd z))
 refine⟨λb o hb=>?_,by rw [af,aP];rfl,by rw [ai nDd.symm,ai nt.symm,af],?_,ff (h.ev.keep kp) (bK qb (aU.of af)),.snoc h.emp e n p⟩
 .have:=h.sm b o hb;rw [ai (λz=>by rw [z,fD] at hb;cases hb),ai (λz=>by rw [z,UI] at this;cases this),ai (λz=>by rw [z,fd] at hb;cases hb)];exact this
 rw [jf (by rw [h.keys];exact λz=>n (cC.mp z)),h.keys,aP,aP];rfl
def pP (K:aY):Sp:=λvs H Q _=>∃(R:Addr)(rs:z0q)(aa:56),vs=[.ref R]/\aX K H R 260/\520/\568/\547 /\
 ∀D ts aC H',H D=none->147->H' D=480->oZ K H' ts aC->uO aa aC->vh aa aa.length aC->Q (.ref D) H'
def gO:aM ["rules","told","empty","many","number","rule"] 159 (ax sX):=417
def CB (F:jo K "found_empties" "found_empties" sX f fd)(T:Txt mg):bO P w K mg base gb 1 f fd 159 (pP K):=by
 refine F.ok gO 420 472
 .obtain⟨R,rs,aa,rfl,_⟩:=h;rfl
 obtain⟨R,rs,aa,rfl,hR,dA,bE,h8,q⟩:=h;have hu:=fc hr;refine⟨_,aj (aF (i:=1) gO.nd rfl 68 (dw ao))
  (aj (aF (i:=2) gO.nd rfl (Or.inr rfl) fV)
  (aj (aF (i:=3) gO.nd rfl 68 (NG HG aA))
  (aj (iX c_ (cS ow (pv 3) (bo bC rfl T.len gI 556) (cT _))
   (aj (aF (i:=3) gO.nd rfl 68 (bo bC rfl T.len gI 556))
   (av (cP c_ rfl (ot rfl T.MP 497) (gE rfl (aH (az (i:=4) gO.nd rfl 68) (aH (az (i:=5) gO.nd rfl 68) cI)))
    (av (dq (PW.pt (Im (eM (de hu (bF bH (pv 5) aA 109) (pv 2)))
      (Eb (lC (bo (qg rfl) rfl T.all boot_all (ae (cm ["part"] [(2,"empty")] rfl (ju (bF bH (pv 5) aA 109)) 487 nofun rfl nofun
       (λ_ _ _ _ _=>az (i:=0) (show (["part","empty"]:z0t).Nodup by decide +kernel) rfl 68) 539 (λ_ _ _ _ _=>Cr (nh hu 72 102))) ao))))))
     (aj (gC hu (pv 2) (bF bH (pv 5) aA 109) h_ rfl)
     (av (cY (jj iN kM kO df 102 (ae (bG (ae (bF bH (pv 5) aA 109) (ae (pv 4) ao))) ao))))) bL))))))
  (av (bS 102))))),?_⟩
 nofun
 refine⟨Bu,λD hD d hd=>?_⟩;have nd0:d≠D:=λz=>by rw [z,af] at hd;cases hd
 have kF:H d=none:=by rw [ai nd0] at hd;exact hd
 have e0:E_ K aa H (upd 482 d 418) D d [] [] []:=⟨(ah hD _).trans (ah hd _),by rw [ai nd0.symm,af];rfl,af,rfl,.nil,.nil⟩;generalize upd 482 d 418=H0 at e0;refine⟨1,rfl,?_⟩;refine⟨λm σ H5=>∃(ts:z0q)(aC:z0h)(kvs:86) (many:Int)(y4 y5:126),σ=[aZ R,aZ D,aZ d,some (.int many),y4,y5]/\E_ K aa H H5 D d ts aC kvs/\-1<=many/\many<=aC.length/\(many=aC.length->vh aa aa.length aC)/\(m:Int)=aa.length+1 - many,
  ⟨aa.length+2,[],[],[],-1,none,none,rfl,e0,∅,58,58,548⟩,?_⟩
 rintro m σ H5 ⟨ts,aC,kvs,many,y4,y5,rfl,S,b1,b2,cl,em⟩;obtain⟨lt,lk⟩:=S.len;refine⟨_,rfl,_,rfl,D,_,rfl,.inl (aX.of S.hD),_,_,rfl,rfl,_,rfl,?_⟩;refine 566
 .have c':=dJ c;rw [ay,lt] at c';refine⟨λσ H5=>∃(qp:z0q)(iF:z0h)(fJ:86)(y4 y5:126),σ=[aZ R,aZ D,aZ d,some (.int (aC.length:Int)),y4,y5]/\E_ K aa H H5 D d qp iF fJ/\aC.length<=iF.length/\(iF.length=aC.length->vh aa aa.length iF),?_,?_⟩
  .rintro σ H6 ⟨qp,iF,fJ,y4,y5,rfl,S2,l2,c2⟩;have:=S2.emp.len;exact⟨(aa.length+1 - aC.length:Int).toNat,∅,qp,iF,fJ,_,_,_,rfl,S2,∅,∅,λz=>c2 ∅,∅⟩
  refine⟨_,rfl,D,_,rfl,.inl (aX.of S.hD),?_⟩;rw [ay,lt];refine⟨_,rfl,R,_,rfl,S.sm.seq hR,?_⟩;refine lN (xs:=122) (λi σ H6=>∃(qp:z0q)(iF:z0h)(fJ:86)(y4 y5:126),σ=[aZ R,aZ D,aZ d,some (.int (aC.length:Int)),y4,y5]/\E_ K aa H H6 D d qp iF fJ/\aC.length<=iF.length/\(iF.length=aC.length->vh aa i iF))
   ⟨ts,aC,kvs,_,_,rfl,S,aE _,λ_ ru zc=>by simp at zc⟩ ?_ ?_ ?_
  .rintro i σ H6 _ ⟨qp,iF,fJ,y4,y5,rfl,S2,_⟩;exact S2.sm.seq hR
  .rintro i x σ H6 t ex ⟨qp,iF,fJ,y4,y5,rfl,S2,l2,c2⟩ ht
   ac_nf0
   rw [bx] at ex;obtain⟨r,er,rfl⟩:=473;obtain⟨ru,e1,p,v1,v2⟩:=dA.get er;have Sh:=h8 ru (cv e1);have S3:=S2.same (ah ht 590);have RY:860:=aU.of af;generalize upd H6 t 590=H7 at S3 RY;obtain⟨lt2,WZ⟩:=S3.len;have el2:=S3.emp.len;have tk:aa.take (i+1)=aa.take i++[ru]:=by rw [di,e1];rfl
   have jZ:(¬((∀p∈ru.2,p∈iF.map 27)/\ru.1∉iF.map 27))->(iF.length=aC.length->vh aa (i+1) iF):=λhn z D_ Ab hp=>by
    rw [tk] at Ab;rcases cw.mp Ab with h | h
    .exact c2 z D_ h hp
    rw [bj.mp h] at hp ⊢;exact Classical.byContradiction λhc=>hn ⟨hp,hc⟩
   refine⟨t,_,rfl,RY,rfl,_,_,rfl,_,_,rfl,rfl,?_⟩;refine⟨_,rfl,r,_,_,_,rfl,rfl,S3.sm.tup v1,rfl,?_⟩;refine⟨_,rfl,d,_,rfl,b8.k (k:=521) S3.hd,_,rfl,?_⟩;refine fO (λc3=>?_) (λc3=>?_)
   .have nm:ru.1∉iF.map 27:=λh=>by rw [(S3.mem _).mpr h] at c3;exact absurd c3 nofun
    refine⟨_,rfl,r,_,_,_,rfl,rfl,S3.sm.tup v1,rfl,p,rfl,⟨_,S3.sm.tup v2⟩,λD2 qb=>wy rfl (S3.sm.tup v2) ∅ S3.hd qb λH8 RE Vf=>?_⟩;have S4:=S3.same RE;refine⟨D2,_,rfl,aX.of Vf,_,rfl,?_⟩;refine fO (λc4=>?_) (λc4=>?_)
    .have al:∀x∈ru.2,x∈iF.map 27:=λx hx=>(S4.mem x).mp (iJ.mp c4 _ (ja hx));refine⟨_,rfl,_,rfl,r,_,_,_,rfl,rfl,S4.sm.tup v1,rfl,d,_,rfl,ma.k (k:=521) S4.hd (bX ∅),?_⟩;have v1':aU K (upd H8 d (.dK (bB fJ (521) (.bl true)))) r [.str ru.1,.ref p]:=hV S4.hd (S4.sm.tup v1);have QS:upd H8 d (.dK (bB fJ (521) (.bl true))) D=some (.lst (qp.map V.ref)):=by rw [ai (λz=>by have:=S4.hD;rw [z,S4.hd] at this;cases this)];exact S4.hD
     refine⟨_,rfl,.inl ⟨rfl,_,aX.of QS⟩,_,rfl,r,_,_,_,rfl,rfl,v1',rfl,_,rfl,qF,λt2 jl=>?_⟩;refine⟨D,_,_,rfl,rfl,(by rw [ai (aB QS jl)];exact QS),507,?_⟩;have S5:=S4.more hD kF e1 nm al jl;exact⟨qp++[t2],iF++[(ru.1,i)],_,_,_,rfl,S5,642,λz=>by rw [bp] at z;simp at z;omega⟩
    refine⟨qp,iF,fJ,_,_,rfl,S4,l2,jZ λ⟨ha,_⟩=>c4 (iJ.mpr λb hb=>?_)⟩;obtain⟨x,hx,rfl⟩:=a9.mp hb;exact(S4.mem x).mpr (ha x hx)
   refine⟨qp,iF,fJ,_,_,rfl,S3,l2,jZ λ⟨_,hn⟩=>c3 ?_⟩;cases hq:(aQ fJ (521)).isSome with
   | true=>exact absurd ((S3.mem _).mp hq) hn
   | false=>rfl
  rintro σ H6 ⟨qp,iF,fJ,y4,y5,rfl,S2,l2,c2⟩;rw [ay,bf dA] at c2;exact⟨qp,iF,fJ,_,_,rfl,S2,l2,c2⟩
 have c':=of_decide_eq_false (rN.mpr c);rw [ay,lt] at c';exact⟨_,rfl,q D ts aC H5 hD S.sm S.hD S.ev S.emp (cl ∅)⟩
end
end fC
namespace M11
open PySem L2
def u5 (b:Str->Bool):z0t->Nat
 | []=>0
 | z::r=>if b z=true then u5 b r+1 else 1
theorem EJ (b:Str->Bool):∀zs:z0t,(∀z∈zs,b z=true)->u5 b zs=zs.length
 | [],_=>rfl
 | z::r,h=>by
  unfold u5;rw [ar (h z a8),EJ b r λx hx=>h x (bA _ hx)];rfl
theorem Kc (b:Str->Bool):∀(zs:z0t) (i:Nat)(z:Str),(∀x∈zs.take i,b x=true)->zs[i]?=some z->¬b z=true->u5 b zs=i+1
 | y::r,0,z,_,e,n=>by
  cases e;unfold u5;rw [aq n]
 | y::r,i+1,z,h,e,n=>by
  unfold u5;rw [ar (h y (by rw [rX];exact a8)),Kc b r i z (λx hx=>h x (by rw [rX];exact bA _ hx)) e n]
theorem C_ (b:Str->Bool):∀zs:z0t,u5 b zs<=zs.length
 | []=>aE _
 | z::r=>by
  have:=C_ b r;unfold u5;rw [cf]
  split <;> omega
def cnt (n:Nat):84:=(List.range n).map λk:Nat=>V.int (k:Int)
end M11
namespace fC
open PySem L2 M11
section
def DM (K:aY):Sp:=λvs H Q _=>∃(R:Addr)(rs:z0q)(aa:56),vs=[.ref R]/\aX K H R 260/\520/\568/\547/\(aa.flatMap 105).Nodup /\
 ∀H',147->Q .gF H'
def n8:aM ["strengths","met","way","words","word"] ["strengths"] (ax BZ):=417
def IY (F:jo K "refuse_twice" "refuse_twice" BZ f fd)(T:Txt mg):bO P w K mg base gb 1 f fd ["strengths"] (DM K):=by
 refine F.ok n8 420 472
 .obtain⟨R,rs,aa,rfl,_⟩:=h;rfl
 obtain⟨R,rs,aa,rfl,hR,dA,bE,h8,W7,q⟩:=h;have hu:=fc hr;refine⟨_,aj (aF (i:=1) n8.nd rfl 68 fV)
  (av (cP c_ rfl (bP 72) (gE rfl (aH (az (i:=2) n8.nd rfl 68) (aH (az (i:=3) n8.nd rfl 68) cI)))
   (av (cP c_ rfl (ju (pv 3)) (az (i:=4) n8.nd rfl 68)
    (aj (dq (eM (nh hu (pv 4) 102)) (av iY) bL) (av (gC hu 102 (pv 4) h_ rfl))))))),?_⟩
 nofun
 intro e he;have DX:∀o,aD H (upd H e o):=λo=>ah he o;have ll:=bf dA
 let Dv:Dw:=λi σ H5=>∃(kvs:86)(y3 y4 y5:126),σ=[aZ R,aZ e,y3,y4,y5]/\H5=upd H e 489 /\
  kvs.map 27=((aa.take i).flatMap 105).map Sum.inr
 refine⟨_,rfl,R,rfl,⟨_,(DX _).seq hR⟩,du (xs:=122) Dv ⟨[],none,none,none,rfl,rfl,rfl⟩ ?_ ?_ ?_⟩
 .rintro i σ H5 _ ⟨kvs,y3,y4,y5,rfl,rfl,_⟩;exact(DX _).seq hR
 .rintro i x σ H5 ex ⟨kvs,y3,y4,y5,rfl,rfl,hk⟩
  ac_nf0
  rw [bx] at ex;obtain⟨r,er,rfl⟩:=473;obtain⟨ru,e1,p,v1,v2⟩:=dA.get er;have li:=(a7.mp e1).1;have Sh:=h8 ru (cv e1);have eT:(aa.take (i+1)).flatMap 105=(aa.take i).flatMap 105++ru.2:=by
   rw [di,e1,rW];simp
  have lA:((aa.take i).flatMap 105).length<=8 * i:=jN (aa.take i) i (by rw [fQ];omega) λru zc=>h8 ru (List.mem_of_mem_take zc);have Eu:((aa.take i).flatMap 105++ru.2).Nodup:=by
   have e2:aa.flatMap 105=((aa.take i).flatMap 105++ru.2)++(aa.drop (i+1)).flatMap 105:=by
    rw [<-eT,<-rW,r_]
   rw [e2] at W7;exact(iM.mp W7).1
  refine⟨r,_,rfl,(DX _).tup v1,rfl,_,_,rfl,_,_,rfl,rfl,?_⟩
  let Nh:Dw:=λj σ H6=>∃(kvs:86)(y5:126),σ=[aZ R,aZ e,some (.str ru.1),aZ p,y5]/\H6=upd H e 489 /\
   kvs.map 27=((aa.take i).flatMap 105++ru.2.take j).map Sum.inr
  refine⟨_,rfl,p,rfl,⟨_,(DX _).tup v2⟩,EK (xs:=ru.2.map V.str) Nh ⟨kvs,_,rfl,rfl,by rw [rC,dG];exact hk⟩ ?_ ?_ ?_⟩
  .rintro j σ H6 _ ⟨kvs,y5,rfl,rfl,_⟩;exact(DX _).tup v2
  .rintro j x σ H6 Dd ⟨kvs,y5,rfl,rfl,zd⟩
   ac_nf0
   rw [bx] at Dd;obtain⟨z,ez,rfl⟩:=cH.mp Dd;have lj:=(a7.mp ez).1;have eS:ru.2.take (j+1)=ru.2.take j++[z]:=by rw [di,ez];rfl
   have lk:kvs.length<=8 * i+8:=by
    have h1:=congrArg List.length zd;rw [ay,ay,bp,fQ] at h1;omega
   have nz:z∉(aa.take i).flatMap 105++ru.2.take j:=λhz=>by
    have e3:(aa.take i).flatMap 105++ru.2=844++([z]++ru.2.drop (j+1)):=by
     rw [dH,<-dH (ru.2.take j),<-eS,r_]
    rw [e3] at Eu;exact(iM.mp Eu).2.2 z hz z 90 rfl
   have nk:¬(88:aI)∈kvs.map 27:=by rw [zd];exact λh=>nz (cC.mp h)
   refine⟨_,rfl,_,rfl,e,_,rfl,b8.k (k:=88) af,_,rfl,?_⟩;refine fO (λc=>absurd ((dj kvs _).mp c) nk) (λ_=>?_);refine⟨_,rfl,_,rfl,e,_,rfl,ma.k (k:=88) af (bX ∅),?_⟩;refine⟨744,_,rfl,by rw [qT],?_⟩;rw [jf nk,zd,eS,<-dH];simp only [aP,bN,kP]
  rintro σ H6 ⟨kvs,y5,rfl,rfl,zd⟩;rw [ay,dW,<-eT] at zd;exact⟨kvs,_,_,_,rfl,rfl,zd⟩
 rintro σ H5 ⟨kvs,y3,y4,y5,rfl,rfl,hk⟩;exact q _ (DX _)
def zC (K:aY):Sp:=λvs H Q _=>∃(p d:Addr) (zs:z0t)(kvs:86),vs=[.ref p,.ref d]/\aU K H p 478/\zs.length<=1000/\H d=375 /\
 ∀D H',H D=none->147->H' D=some (.lst (cnt (u5 796 zs)))->Q (.ref D) H'
def n_:aM ["parts","empty","places","place","part"] ["parts","empty"] (ax x_):=417
def Fz (F:jo K "first_places" "first_places" x_ f fd)(T:Txt mg):bO P w K mg base gb 1 f fd ["parts","empty"] (zC K):=by
 refine F.ok n_ 420 472
 .obtain⟨p,d,zs,kvs,rfl,_⟩:=h;rfl
 obtain⟨p,d,zs,kvs,rfl,hp,hz,hd,q⟩:=h;have hu:=fc hr;refine⟨_,aj (aF (i:=2) n_.nd rfl 68 (dw ao))
  (aj (cP c_ rfl (oq rfl T.MP 497) (gE rfl (aH (az (i:=3) n_.nd rfl 68) (aH (az (i:=4) n_.nd rfl 68) cI)))
   (aj (cY (jj iN kM kO df (pv 2) (ae (pv 3) ao)))
   (av (dq (eM (de hu (pv 4) 102)) (av Iu) bL))))
  (av (bS (pv 2)))),?_⟩
 nofun
 refine⟨Bu,λD hD=>?_⟩;have up1:∀n,cnt n++[V.int (n:Int)]=cnt (n+1):=λn=>by
  unfold cnt;rw [rE,aP];rfl
 refine⟨_,rfl,p,_,rfl,(ah hD _).tup hp,?_⟩
 let Iz3:Dw:=λi σ H5=>∃(y3 y4:126),σ=[aZ p,aZ d,aZ D,y3,y4]/\aD H H5/\H5 D=some (.lst (cnt i))/\∀z∈zs.take i,632=true
 refine qc (xs:=257) Iz3
  ⟨none,none,rfl,ah hD _,af,58⟩ ?_ ?_ ?_
 .rintro i σ H5 _ ⟨y3,y4,rfl,sm,_⟩;exact sm.tup hp
 .rintro i x σ H5 t ex ⟨y3,y4,rfl,sm,Vg,jM⟩ ht
  ac_nf0
  rw [bx] at ex;obtain⟨z,ez,rfl⟩:=473;have li:=(a7.mp ez).1;have i7:=sm.trans (ah ht 745);have qb:upd H5 t 745 D=some (.lst (cnt i)):=by rw [ai (aB Vg ht)];exact Vg
  have hv:aU K (upd H5 t 745) t [141,.str z]:=aU.of af;generalize upd H5 t 745=H6 at i7 qb hv;have RG:aD H (upd H6 D (.lst (cnt i++[V.int (i:Int)]))):=λb o hb=>by
   rw [585];exact i7 b o hb
  refine⟨t,_,rfl,hv,rfl,_,_,rfl,_,_,rfl,rfl,?_⟩;refine⟨_,rfl,.inl ⟨rfl,_,aX.of qb⟩,_,rfl,D,_,_,rfl,rfl,qb,bX (by unfold cnt;rw [ay,iu];omega),?_⟩;refine⟨_,rfl,_,rfl,d,_,rfl,b8.k (k:=88) (RG _ _ hd),_,rfl,?_⟩;refine 566
  .refine⟨_,rfl,q D _ hD RG ?_⟩;rw [af,up1,Kc _ zs i z jM ez (λh=>by rw [h] at c;exact absurd c nofun)]
  refine⟨_,_,rfl,RG,by rw [af,up1],λx hx=>?_⟩;rw [di,ez] at hx;rcases cw.mp hx with h | h
  .exact jM x h
  rw [Option.toList_some,bj] at h;subst h;cases hq:(aQ kvs (Sum.inr x)).isSome with
  | true=>rfl
  | false=>exact absurd (by rw [hq];rfl) c
 rintro σ H5 ⟨y3,y4,rfl,sm,Vg,jM⟩;rw [ay] at Vg jM;rw [dW] at jM;exact⟨_,rfl,q D _ hD sm (by rw [EJ _ zs jM];exact Vg)⟩
end
end fC
namespace L2
open PySem
section
variable {prog:Program}{w:World}{K:Type} [DecidableEq K] {knd:KeyKind prog w K}{A:Around}{E:z0b}
def u6 {s:Shared}{d l:Addr}{items:z0k}{n:Nat}{kvs more:List (K×Value)}{Q:z0b}(hh:569)(kF:s.heap.DictOf knd d kvs)(hx:s.heap.get? l=some { cls:=476,data:=.seq items n })
  (hi:items.size=more.length)(hp:∀(m:Nat) kv,more[m]?=some kv->∃u,items[m]?=some u/\nK knd s.heap u kv)(hz:kvs.length+more.length<=sizeLine)
  (h:∀h' t',h'.DictOf knd d (more.foldl (λa p=>stored a p.1 p.2) kvs)->(∀b o,b≠d->259->162=65)->Q .none 619) :
  wpAny 140 A (call (.builtin "dict.update") [.ref d,.ref l]) Q E s:=by
 refine gM (pI Bl.plain PySem.F.entry_dict_update (Bl.check _ _ _ _ _ _ _ _ kF.typeIs (PySem.F.args_dict_update_2 _ _) ?_));unfold Builtin.«dict.update»;refine au ?_;unfold Builtin.Dict.selfAndRest;refine au (xq kF.typeIs ?_);show wpAny _ _ (pure (d,[Value.ref l])) _ _ s;refine aJ ?_;show wpAny _ _ (Builtin.Dict.updateFrom "dict.update" d (.ref l) [] .none) _ _ s;unfold Builtin.Dict.updateFrom;refine au (jr (T := "list") ⟨_,hx,rfl⟩ ?_);rw [ar BI];refine au (p6 hx hh λh1 t1 k1=>?_);refine au (jq ?_);have l1:=k1 _ _ hx;refine au (pB ⟨_,l1,rfl,_,rfl⟩ ?_);have k2:∀b o,259->880=65:=λb o q=>bW _ (k1 _ _ q);refine aJ ⟨kQ fE _,Kh (knd:=knd) (A:=A) (l:=l) (items:=items) hh more 0 _ kvs _ _ (by rw [hi,iQ]) ?_ ⟨_,cU _ rfl,rfl,rfl⟩ ⟨_,k2 _ _ hx,rfl,n,rfl⟩ (λm kv e=>?_) hz λh' t' hd k3=>?_⟩
 .obtain⟨o,es,ep,q,r⟩:=kF;exact⟨o,es,ep,k2 _ _ q,r⟩
 .obtain⟨u,e1,e2⟩:=hp m kv e;exact⟨u,by rw [iQ];exact e1,e2.keep λb o _ q=>k2 b o q⟩
 exact h h' t' hd λb o n q=>k3 b o n (bJ (aV (k1 _ _ q))) (k2 b o q)
end
section
variable {X:Cx}{o e:Expr}{apos gG:Pos}{td ty:TE}
def Tj (K:aY)(td ty:TE):TE:=λσ H Q=>td σ H λx H1=>∃a,x=91/\XR H1 a/\ty σ H1 λy H2=>∃l ts kvs more,y=.ref l/\H2 a=375/\H2 l=480 /\
 Paired (λt kv=>aU K H2 t [kV kv.1,kv.2]) ts more/\kvs.length+more.length<=sizeLine/\Q .gF (upd H2 a (.dK (cR more kvs)))
def LU (hc:530)(ho:PE X o td)(he:PE X e ty)(m:M1 X o "update" apos e gG):PE X (.Call (.Attribute o "update" apos) [e] [] gG) (Tj X.K td ty):=by
 intro ag s σ H Q I h;refine wpAny_Call_method m.base m.Gi m.line Bk Bl PySem.F.type_dict_update 847;obtain⟨x,H1,I1,rx,a,ex,d,q1⟩:=ba;subst ex;obtain rfl:510:=rx;obtain⟨t1,t2,_⟩:=CZ I1 d;refine⟨t1,t2,?_⟩;rw [m.trees];refine r9 rfl (w_ (pE (cK (he ag s1 σ H1 _ I1 q1) λiv s2 ba=>?_)));obtain⟨y,H2,I2,ry,l,ts,kvs,more,ey,ea,el,p,hz,q2⟩:=ba;refine Calls.spliced_nil ?_;subst ey;cases (show iv=Value.ref l from ry);obtain⟨z,W6,vs,rel,dd⟩:=uj I2.bI ea;obtain⟨z2,aT,n,rv,hl⟩:=(show bR X.prog X.w H2 s2.heap l (.lst _) from I2.bI l _ el);obtain⟨ms,r1,r2⟩:=pairs_at I2 p rv;have l1:=bf r2;have l2:=r1.length;have l3:=bf p;refine u6 (I2.ok.hd hc) dd hl (by simpa using l1) (λm kv em=>?_) (by rw [<-rel.length,<-l2];exact hz) λh' t' hd kk=>?_
 .obtain⟨u,e1,e2⟩:=Paired.at_ r2 m kv em;exact⟨u,by simpa using e1,e2⟩
 have hn:(cR more kvs).length<=sizeLine:=cW (ue more kvs) hz;have he:∃q,h'.get? a=some q:=let ⟨q,_,_,hq,_⟩:=hd;⟨q,hq⟩;exact⟨.gF,_,I2.write (x:=a) (e:=a) (by rw [ea];exact True.intro) 419 (λb q hb z=>kk b q hb z) he (uk hn W6 (uc r1 rel) hd),rfl,q2⟩
def wD {X:Cx}:gL X (.builtin "len") (λxs H Q=>∃a kvs,xs=[91]/\H a=375/\Q (.int kvs.length) H):=by
 intro ag s σ H xs us Q I r h;obtain⟨a,kvs,rfl,e,q⟩:=h;obtain⟨u,rfl,rx⟩:=vals1 r;cases 713;exact VP I (.inl e) λt s' I'=>⟨.int _,H,I',421,q⟩
end
theorem Aa:∀{us:z0m}{ns:z0u},PyProof.Rows.IntsAre us ns->∀ys:List (Int×Tok),us=ys.map (λp=>Value.int p.1 p.2)->ys.map 27=ns
 | _,_,.nil,ys,e=>by
  cases ys with
  | nil=>rfl
  | cons _ _=>cases e
 | _,_,.cons n t h,ys,e=>by
  cases ys with
  | nil=>cases e
  | cons y r =>
   rw [bN] at e;injection e with e1 e2;injection e1 with e3 e4;rw [bN,Aa h r e2,e3]
def wB {X:Cx}(hc:530):gL X (.builtin "sum") (λxs H Q=>∃a ns,xs=[91]/\aX X.K H a (List.map V.int ns)/\Q (.int ns.sum) H):=by
 intro ag s σ H xs us Q I r h;obtain⟨a,ns,rfl,hq,q⟩:=h;obtain⟨u,rfl,rx⟩:=vals1 r;cases rx;obtain⟨aT,rv,pl,hz⟩:=I.list hq;have hi:=intsAre_of rv;have jM:AllInts aT.toArray:=hi.allInts;obtain⟨xs,e⟩:=jM.items;have hl:=pl.isList;rw [e] at hl;refine sum_intListG (I.ok.hd hc) hl λh' tk t' hk=>⟨.int _,H,I.kept hk,421,?_⟩;have e5:xs.toList.map 27=ns:=Aa hi xs.toList (by
  have:=congrArg Array.toList e;simpa [intItems] using this)
 have e6:preSum (numAt xs) xs.size=ns.sum:=by
  rw [preSum_eq,e5,qm (by rw [<-e5];simp)]
 rw [e6];exact q
def Ar {K:aY}{H:Hp}{p D:Addr}{zs:z0t}{σ:St}{v:V}{x:Str}{Qp:106}(hp:aU K H p 478)(hz:zs.length<=1000)(hD:H D=none)
  (q:∀ts H2,aD H H2->H2 D=480->Paired (λt h=>aU K H2 t [.str h,v]) ts zs->Qp H2) :
  ∃W:Nat->490,833 /\
 ∀i m ys σ' H,529->((qE K p).stop i H/\Qp H)\/((qE K p).go i H/\∃m',m' < m/\∀x H',(qE K p).o7 i H x H'->dX 0 x σ' H' λσ2 H2=>jd σ2 H2 λb H3 =>
  if b=true then uR (gu (hU 0) (gu (tC v) qH)) σ2 H3 526 else 527):=by
 refine iI (xs:=257) 898
  ⟨[],rfl,rfl,.nil,⟨none,rfl⟩,ah hD _,af⟩ (λi ys σ2 H2 _ h=>?_) 657 621
 .obtain⟨_,_,_,_,_,sm,_⟩:=h;exact sm.tup hp
 .obtain⟨ts,rfl,ht,Ac,⟨y0,rfl⟩,sm,hd⟩:=h;rw [bx] at ex;obtain⟨z,ez,rfl⟩:=473;have li:=(a7.mp ez).1;refine goN (A7 ?_);refine⟨_,rfl,qF,λt jl=>⟨?_,507,ts++[t],?_,?_,?_,421,?_,af⟩⟩
  .rw [ai (aB hd jl)];exact hd
  .rw [aP];rfl
  .rw [bp,ht];rfl
  .rw [di,ez];have jx:upd H2 t (.tup [.str z,v]) D=480:=by rw [ai (aB hd jl)];exact hd
   exact ff (Paired.cJ Ac λt' h' z=>bK jx ((ah jl _).tup z)) (bK jx (aU.of af))
  intro b o hb;rw [585];exact ah jl _ _ _ (sm b o hb)
 obtain⟨ts,rfl,ht,Ac,_,sm,hd⟩:=h;rw [ay,dW] at Ac;exact q ts H2 sm hd Ac
end L2
namespace M11
open PySem L2
def ie (a:z0t)(h x:Str):x∈eK a h↔x∈a\/x=h:=by
 unfold eK;split
 .constructor
  .exact .inl
  rintro(z | rfl) <;> assumption
 simp
def oV {a:z0t}(h:Str)(n:a.Nodup):(eK a h).Nodup:=by
 unfold eK;split
 .exact n
 rename_i q
 refine iM.mpr ⟨n,58,λx hx y hy=>?_⟩;rw [bj.mp hy];exact λz=>q (z ▸ hx)
def E5 (a:z0t)(h:Str):a.length<=(eK a h).length:=by
 unfold eK;split <;> simp
def M7 {a:z0t}{h:Str}(e:(eK a h).length=a.length):eK a h=a:=by
 unfold eK at e ⊢;split
 .rfl
 rename_i q
 rw [aq q,bp] at e;simp at e
theorem gY:∀(hs bD:z0t)(x:Str),x∈yL bD hs↔x∈bD\/x∈hs
 | [],bD,x=>by simp [yL]
 | h::r,bD,x=>by
  show x∈yL (eK bD h) r↔_;rw [gY r,ie,a_,or_assoc]
theorem qe:∀(hs:z0t){bD:z0t},bD.Nodup->(yL bD hs).Nodup
 | [],_,n=>n
 | h::r,_,n=>qe r (oV h n)
theorem Di:∀(hs bD:z0t),bD.length<=(yL bD hs).length
 | [],_=>aE _
 | h::r,bD=>cW (E5 bD h) (Di r _)
theorem Kj:∀(hs bD:z0t),(yL bD hs).length=bD.length->yL bD hs=bD
 | [],_,_=>rfl
 | h::r,bD,e=>by
  have h1:=E5 bD h;have h2:=Di r (eK bD h);have e':(yL (eK bD h) r).length=bD.length:=e;show yL (eK bD h) r=bD;rw [Kj r _ ∅];exact M7 ∅
inductive Ru (aa:56)(s:Str):Str->Prop
 | start:Ru aa s s
 | step {ru:aw}{x:Str}:Ru aa s ru.1->ru∈aa->x∈ru.2->Ru aa s x
def KJ (aa:56) (n:Nat) (ms:z0t):Prop:=∀ru∈aa.take n,ru.1∈ms->∀x∈ru.2,x∈ms
def Ru.among {aa:56}{s x:Str}(h:Ru aa s x):x∈s::aa.flatMap 105:=by
 cases h with
 | start=>exact a8
 | step _ h1 h2=>exact bA _ (iK.mpr ⟨_,h1,h2⟩)
end M11
namespace fC
open PySem L2 M11
section
def Ny (K:aY):Sp:=λvs H Q _=>∃(R:Addr)(rs:z0q)(aa:56)(ng:aw),vs=[.ref R]/\aX K H R 260/\520/\aa[0]?=some ng/\568/\547 /\
 ∀d kvs ms H',H d=none->147->H' d=375->kvs.map 27=ms.map Sum.inr->ng.1∈ms->(∀x∈ms,Ru aa ng.1 x)->KJ aa aa.length ms->Q (.ref d) H'
def vO:aM ["rules","met","many","head","parts"] 159 (ax Pb):=417
structure Hq (K:aY)(aa:56)(s0:Str)(H H5:Hp)(d:Addr) (ms:z0t)(kvs:86):Prop where
 sm:aD H H5
 hd:H5 d=375
 keys:kvs.map 27=ms.map Sum.inr
 nd:ms.Nodup
 st:s0∈ms
 WM:∀x∈ms,Ru aa s0 x
def Hq.len {aa:56}{s0:Str}{H H5:Hp}{d:Addr}{ms:z0t}{kvs:86}(h:Hq K aa s0 H H5 d ms kvs)(hl:568)(h8:∀ru∈aa,ru.2.length<=8):kvs.length=ms.length/\ms.length<=8001:=by
 refine⟨?_,?_⟩
 .have:=congrArg List.length h.keys;simpa using this
 have h1:=gP ms _ h.nd λx hx=>(h.WM x hx).among;have h2:=jN aa 1000 hl h8;rw [cf] at h1;omega
def PU (F:jo K "names_met" "names_met" Pb f fd)(T:Txt mg):bO P w K mg base gb 1 f fd 159 (Ny K):=by
 refine F.ok vO 420 472
 .obtain⟨R,rs,aa,ng,rfl,_⟩:=h;rfl
 obtain⟨R,rs,aa,ng,rfl,hR,dA,Mw,bE,h8,q⟩:=h;have hu:=fc hr;refine⟨_,aj (aF (i:=1) vO.nd rfl 68 (LV (Iz (bF bH (bF e_ 72 aA 109) aA 109) h_ LQ) rfl rfl 90 (show 1<=15 by decide)))
  (aj (aF (i:=2) vO.nd rfl 68 aA)
  (aj (iX c_ (cS ow (pv 2) (bo wD rfl T.len gI 556) (cT _))
   (aj (aF (i:=2) vO.nd rfl 68 (bo wD rfl T.len gI 556))
   (av (cP c_ rfl (bP 72) (gE rfl (aH (az (i:=3) vO.nd rfl 68) (aH (az (i:=4) vO.nd rfl 68) cI)))
    (av (dq (eM (nh hu (pv 3) 102))
     (av (cY (LU rfl 102 (cm ["part"] [] rfl (ju (pv 4)) 487 nofun rfl nofun
       (λ_ _ _ _ _=>az (i:=0) (show (["part"]:z0t).Nodup by decide +kernel) rfl 68) 539 (λ_ _ _ _ _=>bG (ae 72 (ae h_ ao)))) ⟨rfl,rfl,rfl,rfl⟩))) bL))))))
  (av (bS 102)))),?_⟩
 nofun
 intro d hd;have ll:=bf dA;have l0:=(a7.mp Mw).1;obtain⟨r0,So⟩:∃r,rs[0]?=some r:=⟨rs[0]'∅,cx ∅⟩;obtain⟨aaX,e0,p0,w1,w2⟩:=dA.get So;rw [Mw] at e0;cases e0;have RH:=ah hd 418;refine⟨_,rfl,R,_,_,.ref r0,rfl,rfl,RH.seq hR,?_,r0,_,_,_,rfl,rfl,RH.tup w1,rfl,?_⟩
 .have e7:260[0]?=some (.ref r0):=by rw [bx,So];rfl
  exact eh (j:=0) e7
 refine⟨af,[((Sum.inr ng.1:aI),.bl true)],rfl,(by show 1<=15;decide),?_⟩;have S0:Hq K aa ng.1 H (upd (upd H d 418) d (.dK (nj [] [((Sum.inr ng.1:aI),.bl true)]))) d [ng.1] [((Sum.inr ng.1:aI),.bl true)]:=by
  rw [qT];exact⟨ah hd _,af,rfl,58,58,λx hx=>by rw [bj.mp hx];exact .start⟩
 generalize upd (upd H d 418) d (.dK (nj [] [((Sum.inr ng.1:aI),.bl true)]))=H0 at S0;refine⟨λm σ H5=>∃(ms:z0t)(kvs:86) (many:Int)(y3 y4:126),σ=[aZ R,aZ d,some (.int many),y3,y4]/\Hq K aa ng.1 H H5 d ms kvs/\0<=many/\many<=ms.length/\(many=ms.length->KJ aa aa.length ms)/\(m:Int)=8002 - many,
  ⟨8002,[ng.1],_,0,none,none,rfl,S0,∅,58,58,∅⟩,?_⟩
 rintro m σ H5 ⟨ms,kvs,many,y3,y4,rfl,S,b1,b2,cl,em⟩;obtain⟨lk,lm⟩:=S.len bE h8;refine⟨_,rfl,_,rfl,d,_,rfl,S.hd,_,_,rfl,rfl,_,rfl,?_⟩;refine 566
 .have c':=dJ c;rw [lk] at c';refine⟨λσ H5=>∃(qZ:z0t)(fJ:86)(y3 y4:126),σ=[aZ R,aZ d,some (.int (ms.length:Int)),y3,y4]/\Hq K aa ng.1 H H5 d qZ fJ/\ms.length<=qZ.length/\(qZ.length=ms.length->KJ aa aa.length qZ),?_,?_⟩
  .rintro σ H6 ⟨qZ,fJ,y3,y4,rfl,S2,l2,c2⟩;exact⟨(8002 - ms.length:Int).toNat,∅,qZ,fJ,_,_,_,rfl,S2,∅,∅,λz=>c2 ∅,∅⟩
  refine⟨_,rfl,d,_,rfl,S.hd,?_⟩;rw [lk];refine⟨_,rfl,R,rfl,⟨_,S.sm.seq hR⟩,?_⟩;refine du (xs:=122) (λi σ H6=>∃(qZ:z0t)(fJ:86)(y3 y4:126),σ=[aZ R,aZ d,some (.int (ms.length:Int)),y3,y4]/\Hq K aa ng.1 H H6 d qZ fJ/\ms.length<=qZ.length/\(qZ.length=ms.length->KJ aa i qZ))
   ⟨ms,kvs,_,_,rfl,S,aE _,λ_ ru zc=>by simp at zc⟩ ?_ ?_ ?_
  .rintro i σ H6 _ ⟨qZ,fJ,y3,y4,rfl,S2,_⟩;exact S2.sm.seq hR
  .rintro i x σ H6 ex ⟨qZ,fJ,y3,y4,rfl,S2,l2,c2⟩
   ac_nf0
   rw [bx] at ex;obtain⟨r,er,rfl⟩:=473;obtain⟨ru,e1,p,v1,v2⟩:=dA.get er;have Sh:=h8 ru (cv e1);have tk:aa.take (i+1)=aa.take i++[ru]:=by rw [di,e1];rfl
   obtain⟨WZ,lm2⟩:=S2.len bE h8;have mem:(aQ fJ (521)).isSome=true↔ru.1∈qZ:=by rw [dj,S2.keys];exact cC
   refine⟨r,_,rfl,S2.sm.tup v1,rfl,_,_,rfl,_,_,rfl,rfl,?_⟩;refine⟨_,rfl,_,rfl,d,_,rfl,b8.k (k:=521) S2.hd,_,rfl,?_⟩;refine fO (λc3=>?_) (λc3=>?_)
   .have im:=mem.mp c3;refine⟨_,rfl,d,rfl,.inl ⟨_,.inl S2.hd⟩,_,rfl,p,rfl,⟨_,S2.sm.tup v2⟩,λD2 qb=>Ar (S2.sm.tup v2) ∅ qb λts H8 RE Vf hp8=>?_⟩;have kp:Paired (λt (kv:aI×V)=>aU K H8 t [kV kv.1,kv.2]) ts (ru.2.map 675):=cM hp8 479;refine⟨D2,ts,fJ,_,rfl,RE _ _ S2.hd,Vf,kp,fits (by rw [ay];omega),?_⟩;have aa9:=Di ru.2 qZ;refine⟨yL qZ ru.2,cR (ru.2.map 675) fJ,_,_,rfl,⟨λb o hb=>?_,af,oF ru.2 fJ qZ S2.keys,qe ru.2 S2.nd,(gY ru.2 qZ _).mpr (.inl S2.st),λx hx=>?_⟩,∅,λz D_ Ab hh=>?_⟩
    .rw [ai (λz=>by rw [z,hd] at hb;cases hb)];exact RE _ _ (S2.sm b o hb)
    .rcases (gY ru.2 qZ x).mp hx with h | h
     .exact S2.WM x h
     exact .step (S2.WM _ im) (cv e1) h
    have e9:=Kj ru.2 qZ ∅;rw [e9] at hh ⊢;rw [tk] at Ab;rcases cw.mp Ab with h | h
    .exact c2 ∅ D_ h hh
    rw [bj.mp h];intro x hx;rw [<-e9];exact(gY ru.2 qZ x).mpr (.inr hx)
   refine⟨qZ,fJ,_,_,rfl,S2,l2,λz D_ Ab hh=>?_⟩;rw [tk] at Ab;rcases cw.mp Ab with h | h
   .exact c2 z D_ h hh
   rw [bj.mp h] at hh;exact absurd (mem.mpr hh) c3
  rintro σ H6 ⟨qZ,fJ,y3,y4,rfl,S2,l2,c2⟩;rw [ay,ll] at c2;exact⟨qZ,fJ,_,_,rfl,S2,l2,c2⟩
 have c':=of_decide_eq_false (rN.mpr c);rw [lk] at c';exact⟨_,rfl,q d kvs ms H5 hd S.sm S.hd S.keys S.st S.WM (cl ∅)⟩
end
end fC
namespace M11
open PySem L2
abbrev G:=Str->z0o
def dZ (g:G)(h:Str) (n:Int):G:=λz=>if z=h then some n else g z
def aR (g:G)(ru:aw):Int:=1+(ru.2.map λp=>(g p).getD 0).sum
def lO (g:G)(ru:aw):Bool:=ru.2.all λp=>(g p).isSome
def cE (bt:583)(g:G)(ru:aw):Bool:=lO g ru && (!(g ru.1).isSome || bt (aR g ru) ((g ru.1).getD 0))
def sstep (bt:583)(a:G×Bool)(ru:aw):G×Bool:=if cE bt a.1 ru=true then (dZ a.1 ru.1 (aR a.1 ru),true) else a
def uS (bt:583)(aa:56)(g:G):G×Bool:=aa.foldl (sstep bt) (g,false)
inductive dY (bt:583)(aa:56):G->G->Prop
 | refl {g:G}:dY bt aa g g
 | step {g g1:G}{ru:aw}:dY bt aa g g1->ru∈aa->cE bt g1 ru=true->dY bt aa g (dZ g1 ru.1 (aR g1 ru))
def iG (bt:583)(aa:56)(g:G):Prop:=∀ru∈aa,cE bt g ru=false
def qi (bt:583)(aa:56):Nat->G->Prop
 | 0,g=>(uS bt aa g).2=false
 | n+1,g=>(uS bt aa g).2=false\/qi bt aa n (uS bt aa g).1
def dY.trans {bt:583}{aa:56}{g g1 g2:G}(h:dY bt aa g g1)(k:dY bt aa g1 g2):dY bt aa g g2:=by
 induction k with
 | refl=>exact h
 | step _ a b ih=>exact .step ih a b
theorem t_ (bt:583)(aa:56):∀(l:56)(a:G×Bool),(∀ru∈l,ru∈aa)->dY bt aa a.1 (l.foldl (sstep bt) a).1
 | [],a,_=>.refl
 | ru::l,a,h=>by
  have ih:=t_ bt aa l (sstep bt a ru) λx hx=>h x (bA _ hx);refine dY.trans ?_ ih;unfold sstep;by_cases c:cE bt a.1 ru=true
  .rw [ar c];exact .step .refl (h ru a8) c
  rw [aq c];exact .refl
theorem wj (bt:583):∀(l:56)(a:G×Bool),a.2=true->(l.foldl (sstep bt) a).2=true
 | [],a,h=>h
 | ru::l,a,h=>by
  refine wj bt l (sstep bt a ru) ?_;unfold sstep
  split
  .rfl
  exact h
theorem ua (bt:583):∀(l:56)(a:G×Bool),(l.foldl (sstep bt) a).2=false->(l.foldl (sstep bt) a).1=a.1/\∀ru∈l,cE bt a.1 ru=false
 | [],a,_=>⟨rfl,λ_ h=>nomatch h⟩
 | ru::l,a,h=>by
  by_cases c:cE bt a.1 ru=true
  .have e:sstep bt a ru=(dZ a.1 ru.1 (aR a.1 ru),true):=ar c;have h':(l.foldl (sstep bt) (sstep bt a ru)).2=false:=h;rw [e,wj bt l _ rfl] at h';cases h'
  have e:sstep bt a ru=a:=aq c;have h':(l.foldl (sstep bt) (sstep bt a ru)).2=false:=h;rw [e] at h';obtain⟨i1,i2⟩:=ua bt l a h';refine⟨by rw [rD,e];exact i1,λD_ hr=>?_⟩;rcases a_.mp hr with z | z
  .rw [z];exact rN.mpr c
  exact i2 D_ z
end M11
namespace L2
open PySem M11
def gi.tup {K:aY}{H H':Hp}{d a:Addr}{kvs:86}{xs:84}(s:gi d H H')(hd:H d=375)(h:515):aU K H' a xs:=by
 rcases h with (h | ⟨u,h⟩) | h
 .exact .inl (.inl (s _ _ (λz=>by rw [z,hd] at h;cases h) h))
 .exact .inl (.inr ⟨u,s _ _ (λz=>by rw [z,hd] at h;cases h) h⟩)
 exact .inr h
def gi.seq {K:aY}{H H':Hp}{d a:Addr}{kvs:86}{xs:84}(s:gi d H H')(hd:H d=375)(h:aX K H a xs):aX K H' a xs:=by
 rcases h with (h | ⟨u,h⟩) | h
 .exact .inl (.inl (s _ _ (λz=>by rw [z,hd] at h;cases h) h))
 .exact .inl (.inr ⟨u,s _ _ (λz=>by rw [z,hd] at h;cases h) h⟩)
 exact .inr h
def Gs {K:aY}{H:Hp}{p D d:Addr}{zs:z0t}{kvs:86}{g:G}{σ:St}{js:z0i}{Qp:106}(hσ:eV ["part"] js σ=[none,aZ d])(hp:aU K H p 478)(hz:zs.length<=1000)
  (hd:H d=375)(hv:754)(ha:∀z∈zs,(g z).isSome=true)(hD:H D=none)(q:∀H2,aD H H2->H2 D=some (.lst ((zs.map λz=>(g z).getD 0).map V.int))->Qp H2) :
  ∃W:Nat->490,863 /\
 ∀i m ys σ' H,529->((qE K p).stop i H/\Qp H)\/((qE K p).go i H/\∃m',m' < m/\∀x H',(qE K p).o7 i H x H'->dX 0 x σ' H' λσ2 H2=>jd σ2 H2 λb H3 =>
  if b=true then DI (hU 1) (hU 0) σ2 H3 526 else 527):=by
 refine iI (xs:=257) (λi ys σ2 H2=>ys=(((zs.take i).map λz=>(g z).getD 0).map V.int)/\(∃y0,σ2=[y0,aZ d])/\618)
  ⟨rfl,⟨none,hσ⟩,ah hD _,af⟩ (λi ys σ2 H2 _ h=>h.2.2.1.tup hp) 657 621
 .obtain⟨rfl,⟨y0,rfl⟩,sm,hd2⟩:=h;rw [bx] at ex;obtain⟨z,ez,rfl⟩:=473;have li:=(a7.mp ez).1;obtain⟨n,en⟩:=nS.mp (ha z (cv ez));have hg:b8 H2 d (.str z) (some (.int n)):=by
   have:=b8.k (k:=88) (sm _ _ hd);rw [hv,en] at this;exact this
  refine goN (A7 ?_);refine⟨_,rfl,_,rfl,d,_,rfl,hg,hd2,bX (by rw [ay,ay,fQ];omega),?_,421,?_,af⟩
  .rw [di,ez,aP,aP];show _=_++[V.int ((g z).getD 0)];rw [en];rfl
  intro b o hb;rw [585];exact sm b o hb
 obtain⟨rfl,_,sm,hd2⟩:=h;rw [ay,dW] at hd2;exact q H2 sm hd2
end L2
namespace fC
open PySem L2 M11
section
def iS (K:aY)(q:Str)(params:Arguments)(body:Expr)(scope:Scope)(bt:583):Sp:=λvs H Q _=>∃(R:Addr)(rs:z0q)(aa:56)(d fl c':Addr)(pm ic:Value)(kvs:86) (ks:z0t)(g:G),
 vs=[.ref R,.ref d,.ref fl]/\aX K H R 260/\520/\568/\547/\H d=375/\kvs.map 27=ks.map Sum.inr/\ks.Nodup/\ks.length<=10000 /\
 (754)/\(∃n,qi bt aa n g)/\H fl=some (uV fl (PySem.W.kla_obj "<lambda>" q params body scope [] pm c' ic))/\H c'=some (mF c' q) /\
 ∀(nr:86) (Uz:z0t)(g':G)(H':Hp),gi d H H'->H' d=some (.dK nr)->nr.map 27=Uz.map Sum.inr->(∀z,aQ nr 107=(g' z).map V.int)->dY bt aa g g'->iG bt aa g'->nr.length<=20000->Q (.ref d) H'
def iT:aM ["rules","sizes","better","changed","head","parts","size"] 719 (ax oj):=417
structure Hn (K:aY)(aa:56) (KZ:z0t)(H H5:Hp)(d:Addr)(kvs:86) (ks:z0t)(g:G):Prop where
 sm:gi d H H5
 hd:H5 d=375
 keys:kvs.map 27=ks.map Sum.inr
 nd:ks.Nodup
 sub:∀x∈ks,x∈KZ++aa.map 27
 val:754
def Hn.len {aa:56}{KZ:z0t}{H H5:Hp}{d:Addr}{kvs:86}{ks:z0t}{g:G}(h:Hn K aa KZ H H5 d kvs ks g):kvs.length<=KZ.length+aa.length:=by
 have h1:=congrArg List.length h.keys;have h2:=gP ks _ h.nd h.sub;rw [bp,ay] at h2;rw [ay,ay] at h1;omega
def Hn.same {aa:56}{KZ:z0t}{H H5 H6:Hp}{d:Addr}{kvs:86}{ks:z0t}{g:G}(h:Hn K aa KZ H H5 d kvs ks g)(s:aD H5 H6):Hn K aa KZ H H6 d kvs ks g :=
 ⟨λb o n e=>s _ _ (h.sm b o n e),s _ _ h.hd,h.keys,h.nd,h.sub,h.val⟩
def Hn.put {aa:56}{KZ:z0t}{H H5:Hp}{d:Addr}{kvs:86}{ks:z0t}{g:G}(h:Hn K aa KZ H H5 d kvs ks g){ru:aw}(hr:ru∈aa) (n:Int) :
  Hn K aa KZ H (upd H5 d (.dK (bB kvs (521) (.int n)))) d (bB kvs (521) (.int n)) (eK ks ru.1) (dZ g ru.1 n):=by
 refine⟨λb o nb e=>by rw [ai nb];exact h.sm b o nb e,af,jI h.keys ru.1,oV ru.1 h.nd,λx hx=>?_,λz=>?_⟩
 .rcases (ie ks ru.1 x).mp hx with z | z
  .exact h.sub x z
  rw [z];exact eZ _ (ja hr)
 rw [zx];unfold dZ;by_cases c:z=ru.1
 .rw [ar c,ar (by rw [c])];rfl
 rw [aq c,aq (λe=>c (mM e)),h.val]
def vU (F:jo K "settled_sizes" "settled_sizes" oj f fd)(T:Txt mg){q:Str}{params:Arguments}{body:Expr}{scope:Scope}{bt:583}{te:TE}(S:aM ["size","known"] ["size","known"] scope)
  (tX:∀(pm ic:Value)(c':Addr)(us:z0m),us.length=(["size","known"]:z0t).length->bindArgs (PySem.W.kla_fn "<lambda>" q params body scope [] pm (.ref c') ic) ⟨us,[]⟩=pure ((["size","known"]:z0t).zip us))
  (i5:∀(f c':Addr)(A:Around)(outer:List Env)(s:Shared)(H:Hp),PE (ip gb P w K mg base ["size","known"] q scope f (.ref c') A outer s H λ_ _ _=>False) body te)
  (ZR:∀a b H Q,Q (.bl (bt a b)) H->te [some (.int a),some (.int b)] H Q):bO P w K mg base gb 2 f fd 719 (iS K q params body scope bt):=by
 refine F.ok iT 420 472
 .obtain⟨R,rs,aa,d,fl,c',pm,ic,kvs,ks,g,rfl,_⟩:=h;rfl
 obtain⟨R,rs,aa,d,fl,c',pm,ic,kvs,ks,g,rfl,hR,dA,bE,h8,hd,hk,W7,hkl,hv,⟨n0,hn0⟩,N5,tW,qq⟩:=h;have hu:=fc hr;refine⟨_,aj (aF (i:=3) iT.nd rfl 68 h_)
  (aj (iX c_ (lC (pv 3))
   (aj (aF (i:=3) iT.nd rfl 68 h_)
   (av (cP c_ rfl (bP 72) (gE rfl (aH (az (i:=4) iT.nd rfl 68) (aH (az (i:=5) iT.nd rfl 68) cI)))
    (av (dq (lC (bo (qg rfl) rfl T.all boot_all (ae (cm ["part"] [(1,"sizes")] rfl (ju (pv 5)) 487 nofun rfl nofun
       872 539 (λ_ _ _ _ _=>Cr (nh hu 72 102))) ao)))
     (aj (aF (i:=6) iT.nd rfl 68 (cu d6 aA (bo (wB rfl) rfl T.sum PyProof.Rows.boot_sum (ae (cm ["part"] [(1,"sizes")] rfl (ju (pv 5)) 487 nofun rfl nofun
       872 539 (λ_ _ _ _ _=>d5 hu 102 72 109)) ao))))
     (av (dq (PW.pt (ND (eM (de hu (pv 4) 102)) (Il (lC (Cs (i:=2) (k:=0) rfl rfl S hr tX i5 (ae (pv 6) (ae (d5 hu 102 (pv 4) 109) ao)))))))
      (aj (gC hu 102 (pv 4) (pv 6) rfl) (av (aF (i:=3) iT.nd rfl 68 h_))) bL))) bL))))))
  (av (bS 102))),?_⟩
 nofun
 have ll:=bf dA;have S0:Hn K aa ks H H d kvs ks g:=⟨λ_ _ _ e=>e,hd,hk,W7,λx hx=>g_ _ hx,hv⟩;refine⟨λm σ H5=>∃(fJ:86) (A4:z0t)(g2:G)(ch:Bool)(y4 y5 y6:126),σ=[aZ R,aZ d,aZ fl,some (.bl ch),y4,y5,y6]/\Hn K aa ks H H5 d fJ A4 g2/\dY bt aa g g2 /\
  ((ch=true/\∃n,m=n+1/\qi bt aa n g2)\/(ch=false/\iG bt aa g2)),⟨n0+1,kvs,ks,g,true,none,none,none,rfl,S0,.refl,.inl ⟨rfl,n0,rfl,hn0⟩⟩,?_⟩
 rintro m σ H5 ⟨fJ,A4,g2,ch,y4,y5,y6,rfl,S2,gk,cs⟩;refine⟨_,rfl,ch,rfl,?_⟩;refine 566
 .rcases cs with ⟨_,n,em,en⟩ | ⟨c',_⟩
  case inr=>rw [c'] at c;cases c
  refine⟨λσ H6=>∃(nq:86) (Hd:z0t)(g3:G)(AA:Bool)(y4 y5 y6:126),σ=[aZ R,aZ d,aZ fl,some (.bl AA),y4,y5,y6]/\Hn K aa ks H H6 d nq Hd g3/\(g3,AA)=uS bt aa g2,?_,?_⟩
  .rintro σ H6 ⟨nq,Hd,g3,AA,y4,y5,y6,rfl,S3,e3⟩;have e31:g3=(uS bt aa g2).1:=congrArg Prod.fst e3;have Rf:AA=(uS bt aa g2).2:=congrArg Prod.snd e3;have y_:dY bt aa g g3:=by
    rw [e31];exact gk.trans (t_ bt aa aa (g2,false) λ_ h=>h)
   cases h3:AA with
   | false =>
    rw [h3] at Rf;obtain⟨f1,f2⟩:=ua bt aa (g2,false) Rf.symm;refine⟨0,∅,nq,Hd,g3,false,_,_,_,rfl,S3,y_,.inr ⟨rfl,?_⟩⟩;have e33:g3=g2:=e31.trans f1;rw [e33];exact f2
   | true =>
    rw [h3] at Rf;cases n with
    | zero=>rw [show (uS bt aa g2).2=false from en] at Rf;cases Rf
    | succ n' =>
     rcases en with en | en
     .rw [en] at Rf;cases Rf
     exact⟨n'+1,∅,nq,Hd,g3,true,_,_,_,rfl,S3,y_,.inl ⟨rfl,n',rfl,by rw [e31];exact en⟩⟩
  refine⟨_,rfl,R,rfl,⟨_,S2.sm.seq hd hR⟩,?_⟩;refine du (xs:=122) (λi σ H6=>∃(nq:86) (Hd:z0t)(g3:G)(AA:Bool)(y4 y5 y6:126),σ=[aZ R,aZ d,aZ fl,some (.bl AA),y4,y5,y6]/\Hn K aa ks H H6 d nq Hd g3/\(g3,AA)=(aa.take i).foldl (sstep bt) (g2,false))
   ⟨fJ,A4,g2,false,_,_,_,rfl,S2,rfl⟩ ?_ ?_ ?_
  .rintro i σ H6 _ ⟨nq,Hd,g3,AA,y4,y5,y6,rfl,S3,_⟩;exact S3.sm.seq hd hR
  .rintro i x σ H6 ex ⟨nq,Hd,g3,AA,y4,y5,y6,rfl,S3,e3⟩;rw [bx] at ex;obtain⟨r,er,rfl⟩:=473;obtain⟨ru,e1,p,v1,v2⟩:=dA.get er;have lK:=cv e1;have Sh:=h8 ru lK;have fo:(aa.take (i+1)).foldl (sstep bt) (g2,false)=sstep bt (g3,AA) ru:=by
    rw [di,e1,List.foldl_append,<-e3];rfl
   rw [fo];have X6:=S3.sm.tup hd v2;refine⟨r,_,rfl,S3.sm.tup hd v1,rfl,_,_,rfl,_,_,rfl,rfl,?_⟩;refine⟨_,rfl,p,rfl,⟨_,X6⟩,λD2 qb=>wy rfl X6 ∅ S3.hd qb λH7 RF hd7=>?_⟩;have S4:=S3.same RF;have v4:=RF.tup X6;have eb:(ru.2.map λz=>(aQ nq 107).isSome).all id=lO g3 ru:=by
    unfold lO;rw [List.all_map];refine List.all_congr rfl λz=>?_;show (aQ nq 107).isSome=_;rw [S3.val,pG]
   refine⟨D2,_,rfl,aX.of hd7,_,rfl,?_⟩;rw [eb];refine fO (λc4=>?_) (λc4=>?_)
   .have al:∀z∈ru.2,(g3 z).isSome=true:=λz hz=>iJ.mp c4 z hz;refine⟨_,rfl,p,rfl,⟨_,v4⟩,λD3 Vq=>Gs (g:=g3) rfl v4 ∅ S4.hd S4.val al Vq λH8 RE Vf=>?_⟩;have S5:=S4.same RE;have esz:1+(ru.2.map λz=>(g3 z).getD 0).sum=aR g3 ru:=rfl;refine⟨D3,_,rfl,aX.of Vf,_,_,rfl,rfl,?_⟩;have mem:(aQ nq (521)).isSome=(g3 ru.1).isSome:=by rw [S5.val,pG]
    have fl5:=S5.sm fl _ (λz=>by rw [z,hd] at N5;cases N5) N5;have c5':=S5.sm c' _ (λz=>by rw [z,hd] at tW;cases tW) tW;have l5:=S5.len;refine⟨_,rfl,_,rfl,d,_,rfl,b8.k (k:=521) S5.hd,_,rfl,?_⟩;refine fO (λc5=>?_) (λc5=>?_)
    .have fr:cE bt g3 ru=true:=by
      unfold cE;rw [<-mem,c4,c5];rfl
     refine⟨_,rfl,_,rfl,_,rfl,d,_,rfl,ma.k (k:=521) S5.hd (bX ∅),?_⟩;exact⟨_,_,dZ g3 ru.1 (aR g3 ru),true,_,_,_,rfl,S5.put lK (aR g3 ru),(ar fr).symm⟩
    have isS:(g3 ru.1).isSome=true:=by
     rw [mem] at c5;cases hq:(g3 ru.1).isSome with
     | true=>rfl
     | false=>rw [hq] at c5;exact absurd rfl c5
    obtain⟨k,ek⟩:=nS.mp isS;have hg:b8 H8 d (.str ru.1) (some (.int k)):=by
     have:=b8.k (k:=521) S5.hd;rw [S5.val,ek] at this;exact this
    refine⟨fl,pm,c',ic,rfl,_,rfl,_,rfl,_,rfl,d,_,rfl,hg,fl5,c5',rfl,ZR (aR g3 ru) k _ _ ⟨_,rfl,?_⟩⟩;refine fO (λc6=>?_) (λc6=>?_)
    .have fr:cE bt g3 ru=true:=by
      unfold cE;rw [c4,ek];show (true && (false || bt (aR g3 ru) k))=true
      rw [c6];rfl
     refine⟨_,rfl,_,rfl,_,rfl,d,_,rfl,ma.k (k:=521) S5.hd (bX ∅),?_⟩;exact⟨_,_,dZ g3 ru.1 (aR g3 ru),true,_,_,_,rfl,S5.put lK (aR g3 ru),(ar fr).symm⟩
    have fr:¬cE bt g3 ru=true:=by
     unfold cE;rw [c4,ek];show ¬(true && (false || bt (aR g3 ru) k))=true
     rw [rN.mpr c6];exact nofun
    exact⟨nq,Hd,g3,AA,_,_,_,rfl,S5,(aq fr).symm⟩
   have e5:sstep bt (g3,AA) ru=(g3,AA):=aq (λz=>c4 (by unfold cE at z;exact(rZ.mp z).1));exact⟨nq,Hd,g3,AA,_,_,_,rfl,S4,e5.symm⟩
  rintro σ H6 ⟨nq,Hd,g3,AA,y4,y5,y6,rfl,S3,e3⟩;rw [ay,ll,dW] at e3;exact⟨nq,Hd,g3,AA,_,_,_,rfl,S3,e3⟩
 rcases cs with ⟨c',_⟩ | ⟨_,se⟩
 .rw [c'] at c;exact absurd rfl c
 exact⟨_,rfl,qq fJ A4 g2 H5 S2.sm S2.hd S2.keys S2.val gk se (by have:=S2.len;omega)⟩
end
end fC
namespace M11
open PySem L2
theorem fold_lt {bt:583}{aa:56}{J:G->Prop}{r:G->G->Prop}(tr:∀a b c,r a b->r b c->r a c)
  (oG:∀g ru,J g->ru∈aa->cE bt g ru=true->J 640/\r 640 g) :
  ∀(l:56)(a:G×Bool),(∀ru∈l,ru∈aa)->J a.1->J (l.foldl (sstep bt) a).1/\(l.foldl (sstep bt) a=a\/r (l.foldl (sstep bt) a).1 a.1)
 | [],a,_,j=>⟨j,.inl rfl⟩
 | ru::l,a,h,j=>by
  by_cases c:cE bt a.1 ru=true
  .have e:sstep bt a ru=(dZ a.1 ru.1 (aR a.1 ru),true):=ar c;obtain⟨j1,r1⟩:=oG a.1 ru j (h ru a8) c;obtain⟨j2,r2⟩:=fold_lt tr oG l (dZ a.1 ru.1 (aR a.1 ru),true) (λx hx=>h x (bA _ hx)) j1;rw [rD,e];refine⟨j2,.inr ?_⟩;rcases r2 with r2 | r2
   .rw [r2];exact r1
   exact tr _ _ _ r2 r1
  have e:sstep bt a ru=a:=aq c;rw [rD,e];exact fold_lt tr oG l a (λx hx=>h x (bA _ hx)) j
def Al {bt:583}{aa:56}{J:G->Prop}{r:G->G->Prop}(tr:∀a b c,r a b->r b c->r a c)
  (oG:∀g ru,J g->ru∈aa->cE bt g ru=true->J 640/\r 640 g){g:G}(h:Acc r g)(j:J g):∃n,qi bt aa n g:=by
 induction h with
 | intro g _ ih =>
  cases c:(uS bt aa g).2 with
  | false=>exact⟨0,c⟩
  | true =>
   obtain⟨j2,r2⟩:=fold_lt tr oG aa (g,false) (λ_ h=>h) j;have r3:r (uS bt aa g).1 g:=by
    rcases r2 with r2 | r2
    .have e:(uS bt aa g)=(g,false):=r2;rw [e] at c;cases c
    exact r2
   obtain⟨n,hn⟩:=ih _ r3 j2;exact⟨n+1,.inr hn⟩
def dY.keep {bt:583}{aa:56}{J:G->Prop}(oG:∀g ru,J g->ru∈aa->cE bt g ru=true->J 640){g g':G}(h:dY bt aa g g')(j:J g):J g':=by
 induction h with
 | refl=>exact j
 | step _ a b ih=>exact oG _ _ ih a b
def fj (f:Str->Nat) (hs:z0t):Nat:=(hs.map f).sum
theorem zA {f k:Str->Nat}:∀{hs:z0t},(∀x∈hs,f x<=k x)->fj f hs<=fj k hs
 | [],_=>aE _
 | h::r,q=>by
  have h1:=q h a8;have h2:=zA (hs:=r) λx hx=>q x (bA _ hx);show f h+fj f r<=k h+fj k r;omega
theorem nZ {f k:Str->Nat}:∀{hs:z0t}{h:Str},(∀x∈hs,f x<=k x)->h∈hs->f h < k h->fj f hs < fj k hs
 | a::r,h,q,m,l=>by
  have h1:=q a a8;have h2:∀x∈r,f x<=k x:=λx hx=>q x (bA _ hx);show f a+fj f r < k a+fj k r;rcases a_.mp m with z | z
  .have:=zA h2;rw [z] at l;omega
  have:=nZ h2 z l;omega
theorem jY (g:G)(J:∀z n,g z=some n->(0:Int)<=n):∀ps:z0t,0<=768
 | []=>58
 | p::r=>by
  have h1:=jY g J r;have h2:0<=(g p).getD 0:=by
   cases e:g p with
   | none=>exact pb _
   | some n=>exact J p n e
  rw [bN,jA];omega
def NN (g:G):Prop:=∀z n,g z=some n->(0:Int)<=n
def yq {g:G}(j:NN g)(ru:aw):NN 640:=λz n e=>by
 unfold dZ at e;by_cases c:z=ru.1
 .rw [ar c] at e;cases e;have:=jY g j ru.2;unfold aR;omega
 rw [aq c] at e;exact j z n e
def bl (a b:Int):Bool:=decide (a < b)
def bg (a b:Int):Bool:=decide (a > b)
def CQ (hs:z0t)(g' g:G):Prop :=
 fj (λh=>if (g' h).isSome then 0 else 1) hs < fj (λh=>if (g h).isSome then 0 else 1) hs \/
 (fj (λh=>if (g' h).isSome then 0 else 1) hs=fj (λh=>if (g h).isSome then 0 else 1) hs/\fj (λh=>((g' h).getD 0).toNat) hs < fj (λh=>((g h).getD 0).toNat) hs)
def Mm (hs:z0t)(g:G):Acc (CQ hs) g:=by
 have wf:=(Prod.lex (β:=Nat) (α:=Nat) ⟨(· < ·),Nat.lt_wfRel.wf⟩ ⟨(· < ·),Nat.lt_wfRel.wf⟩).wf;have key:∀p:Nat×Nat,∀g:G,(fj (λh=>if (g h).isSome then 0 else 1) hs,fj (λh=>((g h).getD 0).toNat) hs)=p->Acc (CQ hs) g:=λp=>by
  induction p using wf.induction with
  | _ p ih =>
   intro g e;refine⟨g,λg' r=>ih _ ?_ g' rfl⟩;rw [<-e];rcases r with r | ⟨r1,r2⟩
   .exact Prod.Lex.left _ _ r
   show Prod.Lex _ _ (fj (λh=>if (g' h).isSome then 0 else 1) hs,_) _;rw [r1];exact Prod.Lex.right _ r2
 exact key _ g rfl
def Qc (hs:z0t)(a b c:G)(h:CQ hs a b)(k:CQ hs b c):CQ hs a c:=by
 unfold CQ at *;omega
def Jv {aa:56}(g:G)(ru:aw)(j:NN g)(m:ru∈aa)(f:cE bl g ru=true):NN 640/\CQ 567 640 g:=by
 refine⟨yq j ru,?_⟩;have hm:ru.1∈aa.map 27:=ja m;have nn:=yq j ru;have AJ:dZ g ru.1 (aR g ru) ru.1=some (aR g ru):=ar rfl;have ne:∀z,z≠ru.1->dZ g ru.1 (aR g ru) z=g z:=λz n=>aq n;unfold cE at f;have f2:=(rZ.mp f).2;cases e:g ru.1 with
 | none =>
  refine .inl (nZ (λx _=>?_) hm ?_)
  .by_cases c:x=ru.1
   .show 866<=_;rw [c,AJ];exact cV _
   show 866<=_;rw [ne x c];exact aE _
  show (if (dZ g ru.1 (aR g ru) ru.1).isSome then 0 else 1) < (if (g ru.1).isSome then 0 else 1);rw [AJ,e];show 0 < 1;exact Nat.one_pos
 | some k =>
  rw [e] at f2;have lt:aR g ru < k:=dJ (by simpa [bl] using f2);have h0:=nn ru.1 _ AJ;refine .inr ⟨?_,nZ (λx _=>?_) hm ?_⟩
  .unfold fj
   congr 1
   refine xl λx _=>?_;by_cases c:x=ru.1
   .show 866=(if (g x).isSome then 0 else 1);rw [c,AJ,e];rfl
   show 866=(if (g x).isSome then 0 else 1);rw [ne x c]
  .by_cases c:x=ru.1
   .show ((dZ g ru.1 (aR g ru) x).getD 0).toNat<=((g x).getD 0).toNat;rw [c,AJ,e];show (aR g ru).toNat<=k.toNat;omega
   show ((dZ g ru.1 (aR g ru) x).getD 0).toNat<=((g x).getD 0).toNat;rw [ne x c];exact aE _
  show ((dZ g ru.1 (aR g ru) ru.1).getD 0).toNat < ((g ru.1).getD 0).toNat;rw [AJ,e];show (aR g ru).toNat < k.toNat;omega
def CS (aa:56)(g:G)(j:NN g):∃n,qi bl aa n g:=Al (Qc 567) (λg ru=>Jv g ru) (Mm _ g) j
inductive Em (aa:56):Str->Prop
 | mk {ru:aw}:ru∈aa->(∀p∈ru.2,Em aa p)->Em aa ru.1
def AZ (aa:56)(b:Str->Int):Prop:=(∀z,0<=b z)/\∀ru∈aa,(∀p∈ru.2,Em aa p)->1+(ru.2.map b).sum<=b ru.1
def GJ (aa:56)(b:Str->Int)(g:G):Prop:=∀z n,g z=some n->0<=n/\n<=b z/\Em aa z
theorem DJ {aa:56}{b:Str->Int}{g:G}(j:GJ aa b g)(hb:∀z,0<=b z):∀ps:z0t,768<=(ps.map b).sum
 | []=>58
 | p::r=>by
  have h1:=DJ j hb r;have h2:(g p).getD 0<=b p:=by
   cases e:g p with
   | none=>exact hb p
   | some n=>exact(j p n e).2.1
  rw [bN,jA,bN,jA];omega
def gm (b:Str->Int)(g:G)(h:Str):Nat:=if (g h).isSome then (b h - (g h).getD 0).toNat else (b h).toNat+1
def tY {aa:56}{b:Str->Int}(B:AZ aa b)(g:G)(ru:aw)(j:GJ aa b g)(m:ru∈aa)(f:cE bg g ru=true) :
  GJ aa b 640/\fj (gm b 640) 567 < fj (gm b g) 567:=by
 have hm:ru.1∈aa.map 27:=ja m;have AJ:dZ g ru.1 (aR g ru) ru.1=some (aR g ru):=ar rfl;have ne:∀z,z≠ru.1->dZ g ru.1 (aR g ru) z=g z:=λz n=>aq n;unfold cE at f;obtain⟨f1,f2⟩:=rZ.mp f;have em:∀p∈ru.2,Em aa p:=λp hp=>by
  obtain⟨n,en⟩:=nS.mp (iJ.mp f1 p hp);exact(j p n en).2.2
 have bd:=B.2 ru m em;have sb:=DJ j B.1 ru.2;have s0:=jY g (λz n e=>(j z n e).1) ru.2;have sz:0<=aR g ru/\aR g ru<=b ru.1:=by unfold aR;omega
 refine⟨λz n e=>?_,nZ (λx _=>?_) hm ?_⟩
 .by_cases c:z=ru.1
  .rw [c,AJ] at e;cases e;rw [c];exact⟨sz.1,sz.2,.mk m em⟩
  rw [ne z c] at e;exact j z n e
 .by_cases c:x=ru.1
  .rw [c];unfold gm;rw [AJ];show (b ru.1 - aR g ru).toNat<=_;cases e:g ru.1 with
   | none=>show _<=(b ru.1).toNat+1;omega
   | some k =>
    rw [e] at f2;have lt:aR g ru > k:=dJ (by simpa [bg] using f2);show _<=(b ru.1 - k).toNat;omega
  unfold gm;rw [ne x c];exact aE _
 unfold gm;rw [AJ];show (b ru.1 - aR g ru).toNat < _;cases e:g ru.1 with
 | none=>show _ < (b ru.1).toNat+1;omega
 | some k =>
  rw [e] at f2;have lt:aR g ru > k:=dJ (by simpa [bg] using f2);show _ < (b ru.1 - k).toNat;omega
def C5 {aa:56}{b:Str->Int}(B:AZ aa b)(g:G)(j:GJ aa b g):∃n,qi bg aa n g :=
 Al (r:=λg' g=>fj (gm b g') 567 < fj (gm b g) 567) (λ_ _ _ h k=>Nat.lt_trans h k) (tY B) ((InvImage.wf (λg:G=>fj (gm b g) (aa.map λx:aw=>x.1)) Nat.lt_wfRel.wf).apply g) j
def Ag {aa:56}{b:Str->Int}(B:AZ aa b){g g':G}(h:dY bg aa g g')(j:GJ aa b g):GJ aa b g':=h.keep (λg ru a m f=>(tY B g ru a m f).1) j
end M11
namespace L2
open PySem
def As {K:aY}{H:Hp}{p D:Addr}{zs:z0t}{σ:St}{v:V}{x:Str}{Qp:106}(hp:aX K H p 478)(hz:zs.length<=10000)(hD:H D=none)
  (q:∀ts H2,aD H H2->H2 D=480->Paired (λt h=>aU K H2 t [.str h,v]) ts zs->Qp H2) :
  ∃W:Nat->490,833 /\
 ∀i m ys σ' H,529->((mI K p).stop i H/\Qp H)\/((mI K p).go i H/\∃m',m' < m/\∀x H',(mI K p).o7 i H x H'->dX 0 x σ' H' λσ2 H2=>jd σ2 H2 λb H3 =>
  if b=true then uR (gu (hU 0) (gu (tC v) qH)) σ2 H3 526 else 527):=by
 refine dB (xs:=257) 898
  ⟨[],rfl,rfl,.nil,⟨none,rfl⟩,ah hD _,af⟩ (λi ys σ2 H2 _ h=>?_) 657 621
 .obtain⟨_,_,_,_,_,sm,_⟩:=h;exact sm.seq hp
 .obtain⟨ts,rfl,ht,Ac,⟨y0,rfl⟩,sm,hd⟩:=h;rw [bx] at ex;obtain⟨z,ez,rfl⟩:=473;have li:=(a7.mp ez).1;refine goN (A7 ?_);refine⟨_,rfl,qF,λt jl=>⟨?_,507,ts++[t],?_,?_,?_,421,?_,af⟩⟩
  .rw [ai (aB hd jl)];exact hd
  .rw [aP];rfl
  .rw [bp,ht];rfl
  .rw [di,ez];have jx:upd H2 t (.tup [.str z,v]) D=480:=by rw [ai (aB hd jl)];exact hd
   exact ff (Paired.cJ Ac λt' h' z=>bK jx ((ah jl _).tup z)) (bK jx (aU.of af))
  intro b o hb;rw [585];exact ah jl _ _ _ (sm b o hb)
 obtain⟨ts,rfl,ht,Ac,_,sm,hd⟩:=h;rw [ay,dW] at Ac;exact q ts H2 sm hd Ac
def Tab.same {T:Addr}{pos:Pos}{qual:Str}{H H':Hp}(h:Tab T pos qual H)(s:147):Tab T pos qual H':=by
 obtain⟨ps,a,b,c⟩:=h;refine⟨ps,s _ _ a,b,c.imp id ?_⟩;rintro⟨c',e,g⟩;exact⟨c',e,s _ _ g⟩
def Tab.Nz {T d:Addr}{pos:Pos}{qual:Str}{H H':Hp}{kvs:86}(h:Tab T pos qual H)(s:gi d H H')(hd:H d=375):Tab T pos qual H':=by
 obtain⟨ps,a,b,c⟩:=h;refine⟨ps,s _ _ (λz=>by rw [z,hd] at a;cases a) a,b,c.imp id ?_⟩;rintro⟨c',e,g⟩;exact⟨c',e,s _ _ (λz=>by rw [z,hd] at g;cases g) g⟩
structure AW (K:aY)(x qual:Str)(st:Stmt)(f:Addr)(fd:FuncData)(T:Addr):Prop where
 ex:∃(oc:Value)(od:z0l)(kV doc pm:Value)(an:z0l)(c:Addr)(ct:Value)(yp:z0a),
  fd=PySem.W.fnOf x qual (cZ st) (b9 st) (ax st) .none kV doc pm an (.ref c) ct/\K.lookup f=some ⟨oc,od,.func fd,yp⟩/\PySem.W.codeIn K (.ref c) qual=true/\PySem.W.codeHdIn K c T=true
 kp:769
def AW.ok {P:Program}{w:World}{K:aY}{mg:z0c}{base:Heap}{x qual:Str}{st:Stmt}{f:Addr}{fd:FuncData}{T:Addr}{N ps:z0t}{k:Nat}{sp:Sp}(F:AW K x qual st f fd T)(S:aM N ps (ax st))(len:783)
  (i5:∀(c:Addr)(A:Around)(outer:List Env)(s:Shared)(H:Hp)(vs:84)(Q:VK)(E:XK),PySem.W.codeHdIn K c T=true->ft k (A.deeper (PyProof.Rows.envOfC qual (ax st) s.heap.objs.size f (.ref c)))->sp vs H Q E ->
   ∃t,yX (ip gb P w K mg base N qual (ax st) f (.ref c) A outer s H E).Mb (b9 st) t/\836):bO P w K mg base gb (k+1) f fd ps sp:=by
 obtain⟨oc,od,kV,doc,pm,an,c,ct,yp,rfl,lk,wc,hC⟩:=F.ex;refine EL lk wc S len λA outer s H vs Q E hr EE=>?_;obtain⟨t,h,q⟩:=i5 c A outer s H vs Q E hC hr EE;exact⟨t,h.Mb,q⟩
theorem v3 {v:V}:∀(hs:z0t)(bD:86) (as:z0t),bD.map 27=as.map Sum.inr->(cR (hs.map λh=>((Sum.inr h:aI),v)) bD).map 27=(M11.yL as hs).map Sum.inr
 | [],bD,as,e=>e
 | h::r,bD,as,e=>v3 r (bB bD (Sum.inr h) v) (M11.eK as h) (fC.jI e h)
theorem sC {v:V}:∀(hs:z0t)(bD:86)(z:Str),aQ (cR (hs.map λh=>((Sum.inr h:aI),v)) bD) 107=if z∈hs then some v else aQ bD 107
 | [],bD,z=>by simp [cR]
 | h::r,bD,z=>by
  have ih:=sC (v:=v) r (bB bD (Sum.inr h) v) z;show aQ (cR (r.map λh=>((Sum.inr h:aI),v)) (bB bD (Sum.inr h) v)) 107=_;rw [ih,zx];by_cases c:z∈r
  .rw [ar c,ar (bA _ c)]
  rw [aq c];by_cases c2:z=h
  .rw [ar (by rw [c2]),ar (by rw [c2];exact a8)]
  rw [aq (λe=>c2 (mM e)),aq (λe=>(a_.mp e).elim c2 c)]
end L2
namespace fC
open PySem L2 M11
def Ut:z0s->Arguments×Expr×Scope×Pos
 | [.Return (some (.Call _ [_,_,.Lambda p b s pos] _ _)) _]=>(p,b,s,pos)
 | _=>(⟨[],[],none,[],[],none,[]⟩,.Constant .none 0 ⟨0,0,0,0⟩,ax sV,⟨0,0,0,0⟩)
abbrev tO:=Ut (b9 sV)
abbrev CP:=Ut (b9 yd)
abbrev A3:Str := "least_sizes" ++ ".<locals>." ++ "<lambda>"
abbrev NQ:Str := "greatest_empty_sizes" ++ ".<locals>." ++ "<lambda>"
def O6:aM ["size","known"] ["size","known"] tO.2.2.1:=417
def O7:aM ["size","known"] ["size","known"] CP.2.2.1:=417
section
def Cv (F:jo K "settled_sizes" "settled_sizes" oj f fd)(T:Txt mg):bO P w K mg base gb 2 f fd 719 (iS K A3 tO.1 tO.2.1 tO.2.2.1 M11.bl) :=
 vU F T O6 (λpm ic c' us hl=>match us,hl with | [_,_],_=>rfl) (λ_ _ _ _ _ _=>ji ow 72 102 (cT _)) (λa b H Q h=>⟨_,rfl,_,rfl,_,_,rfl,rfl,h⟩)
def Cw (F:jo K "settled_sizes" "settled_sizes" oj f fd)(T:Txt mg):bO P w K mg base gb 2 f fd 719 (iS K NQ CP.1 CP.2.1 CP.2.2.1 M11.bg) :=
 vU F T O7 (λpm ic c' us hl=>match us,hl with | [_,_],_=>rfl) (λ_ _ _ _ _ _=>ji zP 72 102 (cT _)) (λa b H Q h=>⟨_,rfl,_,rfl,_,_,rfl,rfl,h⟩)
def A8 (aa:56):G:=λz=>if z∈qR (hd aa) [] 665 then some 0 else none
def qV (K:aY)(T1:Addr):Sp:=λvs H Q _=>∃(R:Addr)(rs:z0q)(aa:56),vs=[.ref R]/\aX K H R 260/\520/\568/\547/\Tab T1 tO.2.2.2 A3 H /\
 ∀(d:Addr)(kvs:86) (ks:z0t)(g:G)(H':Hp),H d=none->gi T1 H H'->Tab T1 tO.2.2.2 A3 H'->H' d=375->kvs.map 27=ks.map Sum.inr->(754)->dY M11.bl aa (A8 aa) g->iG M11.bl aa g->kvs.length<=20000->Q (.ref d) H'
def Lw:aM 159 159 (ax sV):=417
def Jd {T1:Addr}(F:AW K "least_sizes" "least_sizes" sV f fd T1)(T:Txt mg)(hB:uH mg base)(GW:aL P w K mg base 1 "words_in" 159 (DL K))
  (GS:aL P w K mg base 2 "settled_sizes" 719 (iS K A3 tO.1 tO.2.1 tO.2.2.1 M11.bl)):bO P w K mg base gb 3 f fd 159 (qV K T1):=by
 refine F.ok Lw 420 (λc A outer s H vs Q E hC hr h=>?_)
 .obtain⟨R,rs,aa,rfl,_⟩:=h;rfl
 obtain⟨R,rs,aa,rfl,hR,dA,bE,h8,hT,q⟩:=h;refine⟨_,av (bS (bZ GS hr rfl (ae 72 (ae (bu (d8 rfl) rfl T.ET fY (ae
  (cm ["word"] [] rfl (bP (bZ (GW.mono (by decide:1<=2)) hr rfl 497)) 487 nofun rfl nofun
   (λ_ _ _ _ _=>az (i:=0) (show (["word"]:z0t).Nodup by decide +kernel) rfl 68) 539
   (λ_ _ _ _ _=>bG (ae 72 (ae aA ao)))) ao)) (ae (IG (T:=T1) rfl hC hB nofun) ao))))),?_⟩
 dsimp only [Dj];refine⟨_,rfl,_,rfl,R,rs,aa,rfl,hR,dA,bE,h8,λD1 H1 f1 s1 e1=>?_⟩;have lw:(qR (hd aa) [] 665).length<=8000:=by
  have h1:=nV (hd aa) 665 [];have h2:=jN aa 1000 bE h8;simp only [kq] at h1;omega
 refine⟨D1,rfl,⟨_,aX.of e1⟩,λD2 qb=>As (aX.of e1) ∅ qb λts H2 s2 e2 p2=>?_⟩;have kp:Paired (λt (kv:aI×V)=>aU K H2 t [kV kv.1,kv.2]) ts ((qR (hd aa) [] 665).map λh=>((Sum.inr h:aI),V.int 0)):=cM p2 479;refine⟨D2,ts,_,rfl,e2,kp,λd hd2=>?_⟩;have k1:=v3 (v:=.int 0) (qR (hd aa) [] 665) [] [] rfl;have k2:∀z,aQ (cR ((qR (hd aa) [] 665).map λh=>((Sum.inr h:aI),V.int 0)) []) 107=(A8 aa z).map V.int:=λz=>by
  rw [sC];unfold A8
  split <;> rfl
 have lk:=jn (qR (hd aa) [] 665) [];simp only [kq] at lk;generalize cR ((qR (hd aa) [] 665).map λh=>((Sum.inr h:aI),V.int 0)) []=Ux at k1 k2;have s3:=(s1.trans s2).trans (ah hd2 (.dK Ux));have e3:upd H2 d (.dK Ux) d=some (.dK Ux):=af;have zf:H d=none:=(s1.trans s2).free hd2;generalize upd H2 d (.dK Ux)=H3 at s3 e3;refine⟨hT.same s3,λfl c' ic H4 s4 t4 ffl e4 ec4=>?_⟩;have nT:d≠T1:=λz=>by
  obtain⟨ps,a,_⟩:=hT.same s3;rw [<-z,e3] at a;cases a
 have Hj:=s4 d _ nT e3;have Zd:∀{a xs},515->aU K H4 a xs:=λ{a xs} h=>by
  obtain⟨ps,b,_⟩:=hT;rcases h with (h | ⟨u,h⟩) | h
  .exact 861
  .exact 859
  exact .inr h
 have Ze:∀{a xs},aX K H a xs->aX K H4 a xs:=λ{a xs} h=>by
  obtain⟨ps,b,_⟩:=hT;rcases h with (h | ⟨u,h⟩) | h
  .exact 861
  .exact 859
  exact .inr h
 refine⟨R,rs,aa,d,fl,c',_,ic,Ux,_,A8 aa,rfl,Ze hR,dA.keep λ_ _ z=>Zd z,bE,h8,Hj,k1,qe _ eG,∅,k2,CS aa _ λz n e=>?_,e4,ec4,λnr Uz g' H5 s5 e5 k5 v5 st se lk'=>?_⟩
 .unfold A8 at e
  split at e
  .cases e;exact pb _
  cases e
 refine q d nr Uz g' H5 zf (λb o n hb=>s5 b o (λz=>?_) (s4 b o n (s3 b o hb))) (t4.Nz s5 Hj) e5 k5 v5 st se lk';rw [z,zf] at hb;cases hb
def xQ (K:aY)(T2:Addr):Sp:=λvs H Q _=>∃(R:Addr)(rs:z0q)(aa:56)(b:Str->Int),vs=[.ref R]/\aX K H R 260/\520/\568/\547/\AZ aa b/\Tab T2 CP.2.2.2 NQ H /\
 ∀(d:Addr)(kvs:86) (ks:z0t)(g:G)(H':Hp),H d=none->gi T2 H H'->Tab T2 CP.2.2.2 NQ H'->H' d=375->kvs.map 27=ks.map Sum.inr->(754)->GJ aa b g->dY M11.bg aa (λ_=>none) g->iG M11.bg aa g->Q (.ref d) H'
def Lz:aM 159 159 (ax yd):=417
def Jf {T2:Addr}(F:AW K "greatest_empty_sizes" "greatest_empty_sizes" yd f fd T2)(hB:uH mg base)
  (GS:aL P w K mg base 2 "settled_sizes" 719 (iS K NQ CP.1 CP.2.1 CP.2.2.1 M11.bg)):bO P w K mg base gb 3 f fd 159 (xQ K T2):=by
 refine F.ok Lz 420 (λc A outer s H vs Q E hC hr h=>?_)
 .obtain⟨R,rs,aa,b,rfl,_⟩:=h;rfl
 obtain⟨R,rs,aa,b,rfl,hR,dA,bE,h8,hBd,hT,q⟩:=h;refine⟨_,av (bS (bZ GS hr rfl (ae 72 (ae fV (ae (IG (T:=T2) rfl hC hB nofun) ao))))),?_⟩;refine⟨_,rfl,λd zf=>?_⟩;have s3:=ah zf 418;have e3:upd H d 418 d=some 418:=af;generalize upd H d 418=H3 at s3 e3;refine⟨hT.same s3,λfl c' ic H4 s4 t4 ffl e4 ec4=>?_⟩;have nT:d≠T2:=λz=>by
  obtain⟨ps,a,_⟩:=hT.same s3;rw [<-z,e3] at a;cases a
 have Hj:=s4 d _ nT e3;have Zd:∀{a xs},515->aU K H4 a xs:=λ{a xs} h=>by
  obtain⟨ps,b,_⟩:=hT;rcases h with (h | ⟨u,h⟩) | h
  .exact 861
  .exact 859
  exact .inr h
 have Ze:∀{a xs},aX K H a xs->aX K H4 a xs:=λ{a xs} h=>by
  obtain⟨ps,b,_⟩:=hT;rcases h with (h | ⟨u,h⟩) | h
  .exact 861
  .exact 859
  exact .inr h
 have j0:GJ aa b (λ_=>none):=λz n e=>nomatch e;refine⟨R,rs,aa,d,fl,c',_,ic,[],[],λ_=>none,rfl,Ze hR,dA.keep λ_ _ z=>Zd z,bE,h8,Hj,rfl,eG,cV _,λ_=>rfl,C5 hBd _ j0,e4,ec4,λnr Uz g' H5 s5 e5 k5 v5 st se lk'=>?_⟩;refine q d nr Uz g' H5 zf (λb o n hb=>s5 b o (λz=>?_) (s4 b o n (s3 b o hb))) (t4.Nz s5 Hj) e5 k5 v5 (Ag hBd st j0) st se;rw [z,zf] at hb;cases hb
end
end fC
namespace L2
open PySem PySem.Spec PyProof.Rows
def Q2 (o:Obj):Nat:=match o.data with
 | .dict _ ep=>ep
 | _=>0
def Wt (d:Addr)(o:Obj)(kvs:86):It :=
 ⟨λi H=>H d=some (.mD o 489)/\i < kvs.length,λi H x H'=>H'=H/\∃kv,kvs[i]?=some kv/\x=kV kv.1,λi H=>H d=some (.mD o 489)/\kvs.length<=i⟩
def C9 {X:Cx}{ag:z0e}{σ:St}{H:Hp}{s:Shared}{d:Addr}{o:Obj}{kvs:86}(I:87)(e:H d=some (.mD o 489)) :
  (d == sysModules)=false/\∃vs,KV kvs vs/\s.heap.DictAt (aK X.prog X.w) d vs (Q2 o):=by
 obtain⟨ho,hz,hs,vs,r,o',es,ep,h1,h2,h3,h4⟩:=(show bR X.prog X.w H s.heap d (.mD o 489) from I.bI d _ e);rw [ho] at h1;cases h1;refine⟨hs,vs,r,o,es,ho,h2,?_,h4⟩;unfold Q2;rw [h3]
def Fh {P:Program}{w:World}{K:aY}{tg:Expr}(d it:Addr)(o:Obj)(kvs:86):Turn P w K tg (Wt d o kvs) [it] it (λi h=>h.IsKeyIter it d i kvs.length (Q2 o)) where
 mem:=58
 obj:=λi h st b hb=>by
  have e:b=it:=544
  subst e;obtain⟨o,e,c,d⟩:=st;exact⟨o,e,λv z=>by rw [d] at z;cases z⟩
 keep:=λi h h' st k=>let ⟨o,e,r⟩:=st;⟨o,k it 90 o e,r⟩
 item:=by
  intro X hP hw hK hc i ag s σ H E I hf st hg;subst hP hw hK;obtain⟨hq,hi⟩:=hg;obtain⟨hs,vs,r,da⟩:=C9 I hq;have l:=r.length;obtain⟨kv,Xq⟩:∃kv,kvs[i]?=some kv:=⟨kvs[i],cx hi⟩;obtain⟨q,eq⟩:∃q,vs[i]?=some q:=⟨vs[i]'∅,cx ∅⟩;have ek:kv.1=q.1:=by
   have:=congrArg (λl:List aI=>l[i]?) r.keys;simp only [bx,Xq,eq] at this;exact cX this
  obtain⟨f0,f1,f2,f3,f4,f5⟩:=hf it 90;rw [l] at st;refine wpAny_pyNext_dict_item (k:=q.1) (v:=q.2) st da eq λkey h' hk aS sb=>?_;have I1:Inv X ag σ H 517:=I.turned (t':=s.toks) (λb o hb e=>(sb.2 b hb).trans e) f0 f1 f3 f4 f5;obtain⟨o2,e,c,dd⟩:=id aS;rw [<-l] at aS;exact⟨key,rfl,EG (s:=517) e c dd nofun ⟨kV kv.1,H,I1,by rw [ek];exact EB hk,⟨rfl,kv,Xq,rfl⟩,aS,λb hb=>(hf b hb).1⟩⟩
 done:=by
  intro X hP hw hK hc i ag s σ H E I hf st hg;subst hP hw hK;obtain⟨hq,hi⟩:=hg;obtain⟨hs,vs,r,da⟩:=C9 I hq;have l:=r.length;obtain⟨f0,f1,f2,f3,f4,f5⟩:=hf it 90;rw [l] at st;exact wpAny_pyNext_dict_end (I.ok.hd hc) st da (jb ∅) 811
 self:=λ_ _ _ _ _ st h=>wpAny_pyIter_keyiter st h
def UG (tl:TE):TI:=λσ H R=>tl σ H λx H1=>∃d kvs,x=.ref d/\H1 d=375/\∀o,R (Wt d o kvs) (upd H1 d (.mD o 489))
def Ee {X:Cx}{tg l:Expr}{tl:TE}(hl:PE X l tl):PI X tg l (UG tl):=by
 intro ag s σ H R I h;refine cK (hl ag s σ H _ I h) λv s1 ba=>?_;obtain⟨x,H1,I1,r1,q1⟩:=ba;obtain⟨d,kvs,e,hd,q⟩:=q1;subst e;cases r1;obtain⟨hz,hs,vs,r,o,es,ep,h1,h2⟩:=(show bR X.prog X.w H1 s1.heap d 489 from I1.bI d _ hd);have I2:Inv X ag σ (upd H1 d (.mD o 489)) { s1 with heap:=s1.heap,toks:=s1.toks }:=I1.write (x:=d) (e:=d) (by rw [hd];exact True.intro) 419 (λb u _ e=>e) ⟨o,h1⟩ ⟨h1,hz,hs,vs,r,o,es,ep,h1,h2⟩;have e2:upd H1 d (.mD o 489) d=some (.mD o 489):=af;obtain⟨_,Nm,r2,da⟩:=C9 I2 e2;have q2:=q o;generalize upd H1 d (.mD o 489)=H2 at I2 e2 q2;refine wpAny_pyIter_dict hs da ?_;refine⟨s1.heap.objs.size,[s1.heap.objs.size],_,_,H2,rfl,I2.kept (t':=s1.toks) λb o e=>bW _ e,Fh d _ o kvs,⟨_,cU _ rfl,rfl,by rw [r2.length];rfl⟩,λb hb=>?_,q2⟩;have e:b=s1.heap.objs.size:=544
 subst e;exact I2.yG 128 (I2.bI.fresh 128)
section
variable {d D:Addr}{o:Obj}{kvs:86}{ts:z0t}{js:z0i}{g:TG}{tif:TT}{te:TE}{R:106}{σ:St}{H:Hp}
def uu (Pv:490)(h0:Pv 0 [] (eV ts js σ) 482)(hl:∀i ys σ H,i<=kvs.length->Pv i ys σ H->H d=some (.mD o 489))
  (hs:∀i kv ys σ H,kvs[i]?=some kv->Pv i ys σ H->g (kV kv.1) σ H 799)
  (hd:∀ys σ H,Pv kvs.length ys σ H->R H) :
  ∃W:Nat->490,834 /\
 ∀i m ys σ' H,529->((Wt d o kvs).stop i H/\R H)\/((Wt d o kvs).go i H/\∃m',m' < m/\∀x H',(Wt d o kvs).o7 i H x H'->g x σ' H' λσ2 H2=>tif σ2 H2 λb H3 =>
  if b=true then te σ2 H3 526 else 527):=by
 refine⟨λi m ys σ H=>m=kvs.length - i/\i<=kvs.length/\Pv i ys σ H,⟨kvs.length,58,cV _,h0⟩,?_⟩;rintro i m ys σ' H ⟨rfl,hi,p⟩;have q:=hl i ys σ' H hi p;by_cases jQ:i < kvs.length
 .refine .inr ⟨⟨q,jQ⟩,kvs.length - (i+1),∅,λx H' y=>?_⟩;obtain⟨e,kv,Xq,rfl⟩:=y;subst e;have z:=hs i kv ys σ' _ Xq p;have h1:(i+1<=kvs.length)=True:=eq_true jQ;simp only [h1,true_and];exact z
 have e:i=kvs.length:=121
 subst e;exact .inl ⟨⟨q,aE _⟩,hd ys σ' H p⟩
end
def wu {A:Around}{s:Shared}{l b:Addr}{ys xs:z0u}{aT qJ:z0m}(r:bq (ys.map V.int) aT)(r2:bq (xs.map V.int) qJ)(hl:s.heap.IsList l aT.toArray)(hb:s.heap.IsList b qJ.toArray)(ne:l≠b)(hu:A.units < cLine) :
  SeqAt.EqAt A s (.ref l) (.ref b) (decide (ys=xs)):=by
 have l1:=r.length;have l2:=r2.length;rw [ay] at l1 l2;by_cases bE:ys.length=xs.length
 .have h:=SeqAt.RcAt.lists (A:=A) (e:=λj=>decide (ys[j]?=xs[j]?)) hl hb (by simp only [cq];omega) hu λj h1 h2=>?_
  .have e:((List.range aT.toArray.size).all λj=>decide (ys[j]?=xs[j]?))=decide (ys=xs):=by
    rw [jU,iJ,decide_eq_true_iff];constructor
    .intro h;refine rO λj=>?_;by_cases c:j < ys.length
     .exact dJ (h j (cb.mpr (by simp only [cq];omega)))
     rw [jb ∅,jb ∅]
    intro h j _;rw [h];exact dS rfl
   rw [e] at h;exact .of_refs ne h
  have k1:j < aT.length:=by simpa using h1
  have k2:j < qJ.length:=by simpa using h2
  have e1:ys[j]?=some (ys[j]'∅):=cx ∅;have e2:xs[j]?=some (xs[j]'∅):=cx ∅;obtain⟨u1,f1,q1⟩:=r.get (show (ys.map V.int)[j]?=some (.int (ys[j]'∅)) by rw [bx,e1];rfl);obtain⟨u2,f2,q2⟩:=r2.get (show (xs.map V.int)[j]?=some (.int (xs[j]'∅)) by rw [bx,e2];rfl);have g1:aT.toArray[j]=u1:=by
   have:=(a7.mp f1).2;simpa using this
  have g2:qJ.toArray[j]=u2:=by
   have:=(a7.mp f2).2;simpa using this
  rw [g1,g2,e1,e2];obtain⟨t1,rfl⟩:=q1;obtain⟨t2,rfl⟩:=q2;have:=SeqAt.EqAt.int_int (A:=A.in1) (s:=s) (ys[j]'∅) t1 (xs[j]'∅) t2;have e3:(ys[j]'∅ == xs[j]'∅)=decide (some (ys[j]'∅)=some (xs[j]'∅)):=by
   rw [jU,beq_iff_eq,decide_eq_true_iff,Option.some.injEq]
  rw [e3] at this;exact this
 have h:=SeqAt.RcAt.lists_lengths (A:=A) hl hb (by simp only [cq,bne_iff_ne];omega) hu;rw [gh (λz=>bE (by rw [z]))];exact .of_refs ne h
def Fx {X:Cx}(hu:X.A.units+1 < cLine):wQ X (compareOp .In) (λx y H Q=>∃t a l1 l2 xs ys zs,x=91/\y=.ref t/\aU X.K H t [.ref l1,.ref l2]/\aX X.K H a (List.map V.int xs)/\aX X.K H l1 (List.map V.int ys)/\aX X.K H l2 (List.map V.int zs)/\l1≠a/\l2≠a /\
  Q (.bl (decide (ys=xs) || decide (zs=xs))) H):=by
 intro ag s σ H x y v u Q I rx ry h;obtain⟨t,a,l1,l2,xs,ys,zs,rfl,rfl,ht,ha,h1,h2,n1,n2,q⟩:=h;cases rx;cases ry;obtain⟨aT,r,pl,hz⟩:=I.tuple ht;obtain⟨u1,u2,rfl,q1,q2⟩:=vals2 r;cases (show u1=Value.ref l1 from q1);cases (show u2=Value.ref l2 from q2);obtain⟨xa,ra,pa,za⟩:=I.list ha;obtain⟨x1,r1,p1,z1⟩:=I.list h1;obtain⟨x2,r2,p2,z2⟩:=I.list h2;have e1:=wu (A:=X.A.in1) (s:=s) r1 ra p1.isList pa.isList n1 hu;have e2:=wu (A:=X.A.in1) (s:=s) r2 ra p2.isList pa.isList n2 hu;refine SeqAt.in_tupleAt (λy=>if y == .ref l1 then decide (ys=xs) else decide (zs=xs)) (show s.heap.IsTuple t #[.ref l1,.ref l2] from pl) (λy hy=>?_) ?_
 .have N0:y=.ref l1\/y=.ref l2:=by simpa using hy
  by_cases c:y=.ref l1
  .subst c;rw [ar (wY _)];exact e1
  rcases N0 with z | z
  .exact absurd z c
  subst z;rw [aq (λq=>c (eq_of_beq q))];exact e2
 refine⟨.bl (decide (ys=xs) || decide (zs=xs)),H,I,?_,q⟩
 show Value.bool _=Value.bool _
 congr 1
 by_cases c:l2=l1
 .subst c;have e3:=I.tP h1 h2;have e4:ys=zs:=by
   have:=congrArg (List.map λv:V=>match v with | .int n=>n | _=>0) e3
   simpa [eE,Function.comp_def] using this
  subst e4;simp
 simp [c]
end L2
namespace M11
open PySem L2
def Gg (b:Str->Bool) (zs:z0t) (i:Nat):z0u:=((List.range i).filter λj=>!(zs[j]?.elim true b)).map λj:Nat=>124
def Ah (b:Str->Bool) (zs:z0t) (i:Nat){z:Str}(e:zs[i]?=some z):Gg b zs (i+1)=Gg b zs i++(if b z=true then [] else [(i:Int)]):=by
 unfold Gg;rw [rE,m_,aP]
 congr 1
 by_cases h:b z=true
 .rw [ar h];simp [e,h]
 rw [aq h];simp [e,h]
def MN (b:Str->Bool) (zs:z0t) (i:Nat):(Gg b zs i).length<=i:=by
 unfold Gg;rw [ay];have:=ql (λj=>!(zs[j]?.elim true b)) (List.range i);rw [iu] at this;exact this
def Ml (b:Str->Bool) (zs:z0t) (j:Nat):Bool:=decide ([]=Gg b zs zs.length) || decide ([124]=Gg b zs zs.length)
def SH (aa:56) (names:z0t)(b:Str->Bool)(n:Str) (k j:Nat):Prop:=∃ru z,aa[k]?=some ru/\ru.1=n/\ru.2[j]?=some z/\z∈names/\Ml b ru.2 j=true
end M11
namespace L2
open PySem M11
def iz (p:Str×Addr):aI×V:=(Sum.inr p.1,.ref p.2)
theorem oP:∀(ps bD:86),((bD++ps).map 27).Nodup->cR ps bD=bD++ps
 | [],bD,_=>by simp [cR]
 | p::r,bD,h=>by
  have n:aQ bD p.1=none:=by
   cases e:aQ bD p.1 with
   | none=>rfl
   | some v =>
    have hm:=(dj bD p.1).mp (by rw [e];rfl);rw [aP,bN] at h;exact absurd rfl ((iM.mp h).2.2 p.1 hm p.1 a8)
  show cR r (bB bD p.1 p.2)=_;rw [lB p.2 n,oP r (bD++[(p.1,p.2)]) (by rw [dH];exact h),dH];rfl
theorem fM:∀(ps:z0f),(ps.map 27).Nodup->∀p∈ps,aQ (ps.map iz) (Sum.inr p.1)=some (.ref p.2)
 | q::r,h,p,hp=>by
  rw [bN] at h ⊢;rcases a_.mp hp with z | z
  .rw [z];exact eI rfl
  rw [eJ,fM r (dU.mp h).2 p z];intro e;have e':q.1=p.1:=mM e;exact(dU.mp h).1 (by rw [e'];exact ja z)
def iE (ps:z0f):(ps.map iz).map 27=(ps.map 27).map Sum.inr:=by
 rw [eE,eE];rfl
def ur {K:aY}{H:Hp}{p D:Addr}{zs:z0t}{σ:St}{x:Str}{Qp:106}(hp:aX K H p 478)(hz:zs.length<=10000)(hD:H D=none)
  (q:∀ts (ps:z0f) H2,aD H H2->H2 D=480->ps.map 27=zs->862->(∀p∈ps,H2 p.2=some 103/\H p.2=none/\p.2≠D)->(ps.map 105).Nodup->Qp H2) :
  ∃W:Nat->490,833 /\
 ∀i m ys σ' H,529->((mI K p).stop i H/\Qp H)\/((mI K p).go i H/\∃m',m' < m/\∀x H',(mI K p).o7 i H x H'->dX 0 x σ' H' λσ2 H2=>jd σ2 H2 λb H3 =>
  if b=true then uR (gu (hU 0) (gu (Td qH) qH)) σ2 H3 526 else 527):=by
 refine dB (xs:=257) (λi ys σ2 H2=>∃(ts:z0q)(ps:z0f),ys=477/\ts.length=i/\ps.map 27=zs.take i/\862 /\
   (∀p∈ps,H2 p.2=some 103/\H p.2=none/\p.2≠D)/\(ps.map 105).Nodup/\(∃y0,σ2=[y0])/\618)
  ⟨[],[],rfl,rfl,rfl,.nil,58,58,⟨none,rfl⟩,ah hD _,af⟩ (λi ys σ2 H2 _ h=>?_) 657 621
 .obtain⟨_,_,_,_,_,_,_,_,_,sm,_⟩:=h;exact sm.seq hp
 .obtain⟨ts,ps,rfl,ht,hm,Ac,hl,hn,⟨y0,rfl⟩,sm,hd⟩:=h;rw [bx] at ex;obtain⟨z,ez,rfl⟩:=473;have li:=(a7.mp ez).1;refine goN (A7 ?_);refine⟨_,rfl,Bu,λl uY=>⟨qF,λt jl=>?_⟩⟩;have P1:l≠D:=(aB hd uY).symm;have nt:t≠l:=λe=>by rw [e,af] at jl;cases jl
  have JI:H2 t=none:=by rw [ai nt] at jl;exact jl
  have ntD:t≠D:=(aB hd JI).symm;have i7:aD H2 (upd (upd H2 l 103) t (.tup [.str z,.ref l])):=(ah uY _).trans (ah jl _);have jx:=i7 _ _ hd;have el:upd (upd H2 l 103) t (.tup [.str z,.ref l]) l=some 103:=by rw [ai nt.symm,af]
  have et:aU K (upd (upd H2 l 103) t (.tup [.str z,.ref l])) t [.str z,.ref l]:=aU.of af;generalize upd (upd H2 l 103) t (.tup [.str z,.ref l])=H4 at i7 jx el et;refine⟨jx,507,ts++[t],ps++[(z,l)],by rw [aP];rfl,by rw [bp,ht];rfl,by rw [aP,hm,di,ez];rfl,?_,?_,?_,421,?_,af⟩
  .exact ff (Paired.cJ Ac λt' h' z=>bK jx (i7.tup z)) (bK jx et)
  .intro p' oH;rcases cw.mp oH with h | h
   .obtain⟨a1,a2,a3⟩:=hl p' h;exact⟨by rw [ai a3];exact i7 _ _ a1,a2,a3⟩
   rw [bj.mp h];exact⟨by rw [ai P1];exact el,sm.free uY,P1⟩
  .rw [aP];refine iM.mpr ⟨hn,58,λa ha b hb e=>?_⟩;rw [pH,bj] at hb;obtain⟨p',oH,rfl⟩:=a9.mp ha;have:=(hl p' oH).1;rw [e,hb] at this;rw [show H2 l=none from uY] at this;cases this
  intro b o hb;rw [585];exact i7 _ _ (sm b o hb)
 obtain⟨ts,ps,rfl,ht,hm,Ac,hl,hn,_,sm,hd⟩:=h;rw [ay,dW] at hm;exact q ts ps H2 sm hd hm Ac hl hn
def Aw {K:aY}{H:Hp}{p D d:Addr}{zs:z0t}{kvs:86}{σ:St}{js:z0i}{Qp:106}(hσ:eV ["place","part"] js σ=[none,none,aZ d])(hp:aU K H p 478)(hz:zs.length<=1000)
  (hd:H d=375)(hD:H D=none)(q:∀H2,aD H H2->H2 D=some (.lst ((Gg 796 zs zs.length).map V.int))->Qp H2) :
  ∃W:Nat->490,(∃m,W 0 m [] (eV ["place","part"] js σ) 482) /\
 ∀i m ys σ' H,529->((uE K p).stop i H/\Qp H)\/((uE K p).go i H/\∃m',m' < m/\∀x H',(uE K p).o7 i H x H'->Ge K 2 (lM (dX 0) (lM (dX 1) J_)) x σ' H' λσ2 H2=>tB (DG (hU 1) (hU 2)) σ2 H2 λb H3 =>
  if b=true then hU 0 σ2 H3 526 else 527):=by
 refine Az (xs:=257) (λi ys σ2 H2=>ys=(Gg 796 zs i).map V.int/\(∃y0 y1,σ2=[y0,y1,aZ d])/\618)
  ⟨rfl,⟨none,none,hσ⟩,ah hD _,af⟩ (λi ys σ2 H2 _ h=>h.2.2.1.tup hp) (λi x ys σ2 H2 t ex h ht=>?_) 621
 .obtain⟨rfl,⟨y0,y1,rfl⟩,sm,hd2⟩:=h;rw [bx] at ex;obtain⟨z,ez,rfl⟩:=473;have li:=(a7.mp ez).1;have i7:=sm.trans (ah ht 745);have jx:upd H2 t 745 D=some (.lst ((Gg 796 zs i).map V.int)):=by rw [ai (aB hd2 ht)];exact hd2
  have hv:aU K (upd H2 t 745) t [141,.str z]:=aU.of af;generalize upd H2 t 745=H3 at i7 jx hv;have fl:=MN 796 zs i;refine⟨t,_,rfl,hv,rfl,_,_,rfl,_,_,rfl,rfl,?_⟩;refine⟨_,rfl,_,rfl,d,_,rfl,b8.k (k:=88) (i7 _ _ hd),_,rfl,?_⟩;refine 566
  .refine⟨_,rfl,jx,507,?_,⟨_,_,rfl⟩,?_,af⟩
   .rw [Ah _ zs i ez,aq (λe=>by rw [e] at c;exact absurd c nofun),aP];rfl
   intro b o hb;rw [585];exact i7 b o hb
  refine⟨?_,⟨_,_,rfl⟩,i7,jx⟩;rw [Ah _ zs i ez,ar,dG];cases hq:632 with
  | true=>rfl
  | false=>exact absurd (by rw [hq];rfl) c
 obtain⟨rfl,_,sm,hd2⟩:=h;rw [ay] at hd2;exact q H2 sm hd2
open PySem PySem.Spec PyProof.Rows
def j3 {X:Cx}{elt iter tg:Expr}{iy:Nat}{y:Str}{py Ts:Pos}{ifs:z0r}{scope:Scope}{pos:Pos}{wi:TI}{g:TG}{tif:TT}{te:TE}(ts:z0t)(js:z0i)(hN:X.N.Nodup)(hiy:X.N[iy]?=some y)(hy:X.env.scope.names.lookup y=531)(hc:530)(hi:PI X tg iter wi)
  (cp:KO X scope js)(jm:∀y∈scope.names,y.2≠.cell)(jK:scope.kind=.function)
  (tU:∀y∈scope.names,y.2=.local->scope.names.lookup y.1=531)
  (hg:∀cl C s1 H1 fp,PG 703 tg g)
  (U8:∀cl C s1 H1 fp,G0 703 ifs tif)(he:∀cl C s1 H1 fp,PE 703 elt te)
  (hsw:swapsWith 782 (some (.Name y py)) Ts.line X.env=pure true:=by rfl)(hs:∀x,foldedSetIterable iter X.env x=pure x:=by intro _;rfl) :
  PS X (.Assign [.Name y py] 782 Ts) (O4 (BH wi ts js g tif te) (dX iy)):=by
 intro ag s σ H DD I h;rw [exec_Assign_Name_used _ _ _ _ hsw];refine au (wpAny_standAt (au ?_));show wpAny _ _ (do let _ <-comprehension 782 scope X.env _ (newList []) false (eval iter X.env) (some (assign (.Name y py) X.env))) _ _ s;refine au (dD (wz (use:=some (assign (.Name y py) X.env)) (QQ:=λ_ s'=>SP X ag DD .next s') (Q:=λv H1=>dX iy v σ H1 DD.nx) ts js hc hi cp jm jK tU hg U8 he hs I h λ{cl C s2 H2 fp s' σ' H'} I2 f2 N_ J' q=>?_) (λ_ s' hq=>aJ (aJ hq)) λ_ _ e=>e);obtain⟨m',QA,_⟩:=J'.loc;have I5:Inv X ag σ H' s':=I2.EW (s':=s') J'.os J'.base J'.bI J'.bare λb hb=>by
  obtain⟨_,f1,_,f3,f4,f5⟩:=f2 b hb;exact⟨f3,f1,f4,f5⟩
 obtain⟨f0,f1,_,f3,f4,f5⟩:=I2.yG (H':=H') (b:=C) (by rw [N_];exact jR _) J'.free;show wpAny _ _ (assign (.Name y py) X.env (721)) _ _ s';refine wpAny_assign_Name (vK I5 hN hiy (.inl hy) (v:=721) rfl (λIg I6 ba=>?_) (.inr hy));obtain⟨a,sb,ha⟩:=ba;have nCa:C≠a:=by
  rcases ha with ha | ha
  .rw [ha];exact f1
  exact(f4 _ _ ha).symm
 refine⟨m',QA.sameBut sb nCa,λh' j_=>?_⟩;exact⟨_,H',I6.turned (t':=Ig.toks) (λb o hb e=>(j_.2 b hb).trans e) f0 f1 f3 f4 f5,q⟩
end L2
namespace fC
open PySem L2 M11
section
def yr {l:z0t}(h:l.Nodup):(l.map (Sum.inr:Str->aI)).Nodup:=List.Pairwise.map _ (λa b Xi e=>Xi (mM e)) h
structure Hl (K:aY)(ps:z0f)(st:Str->z0g)(H:Hp)(d:Addr):Prop where
 hd:Rd H d 496
 n1:(ps.map 27).Nodup
 n2:(ps.map 105).Nodup
 lst:∀p∈ps,∃ts,H p.2=480/\Paired (λt (e:Nat×Nat)=>aU K H t [.int (e.1:Int),.int (e.2:Int)]) ts (st p.1)
def Rd.same {H H':Hp}{a:Addr}{u:HO}(h:Rd H a u)(s:147):Rd H' a u:=h.elim (λz=>.inl (s _ _ z)) λ⟨o,z⟩=>.inr ⟨o,s _ _ z⟩
theorem Hl.same {ps:z0f}{st:Str->z0g}{H H':Hp}{d:Addr}(h:Hl K ps st H d)(s:147):Hl K ps st H' d :=
 ⟨Rd.same h.hd s,h.n1,h.n2,λp hp=>let ⟨ts,a,b⟩:=h.lst p hp;⟨ts,s _ _ a,Paired.cJ b λ_ _ z=>s.tup z⟩⟩
def wN (st:Str->z0g)(n:Str)(e:Nat×Nat):Str->z0g:=λz=>if z=n then st z++[e] else st z
def Hl.more {ps:z0f}{st:Str->z0g}{H:Hp}{d:Addr}(h:Hl K ps st H d){p:Str×Addr}(hp:p∈ps){ts:z0q}{t:Addr}{e:Nat×Nat}(a:H p.2=480)
  (b:Paired (λt (e:Nat×Nat)=>aU K H t [.int (e.1:Int),.int (e.2:Int)]) ts (st p.1))(c:aU K H t [.int (e.1:Int),.int (e.2:Int)]) :
  Hl K ps (wN st p.1 e) (upd H p.2 (.lst (477++[.ref t]))) d:=by
 have nd:d≠p.2:=λz=>by
  rcases h.hd with q | ⟨o,q⟩
  .rw [z,a] at q;cases q
  rw [z,a] at q;cases q
 refine⟨?_,h.n1,h.n2,λp' oH=>?_⟩
 .rcases h.hd with q | ⟨o,q⟩
  .exact .inl (by rw [ai nd];exact q)
  exact .inr ⟨o,by rw [ai nd];exact q⟩
 by_cases z:p'=p
 .rw [z];refine⟨ts++[t],by rw [af,aP];rfl,?_⟩;have e1:wN st p.1 e p.1=st p.1++[e]:=ar rfl;rw [e1];exact ff (Paired.cJ b λ_ _ z=>bK a z) (bK a c)
 have n1:p'.1≠p.1:=λq=>z (by
  have w1:=fM ps h.n1 p' oH;have w2:=fM ps h.n1 p hp;rw [q,w2] at w1;injection w1 with w3;injection w3 with w4;exact bV q w4.symm)
 have n2:p'.2≠p.2:=λq=>by
  obtain⟨i,hi,ei⟩:=qj.mp oH;obtain⟨j,hj,ej⟩:=qj.mp hp;have kJ:i=j:=by
   refine(pD (xs:=ps.map 105) (h₀:=by simpa using hi) (h₁:=by simpa using hj) h.n2).mp ?_;rw [kT,kT,ei,ej];exact q
  subst kJ;exact z (ei.symm.trans ej)
 obtain⟨jc,a',b'⟩:=h.lst p' oH;refine⟨jc,by rw [ai n2];exact a',?_⟩;have e1:wN st p.1 e p'.1=st p'.1:=aq n1;rw [e1];exact Paired.cJ b' λ_ _ z=>bK a z
def DN (K:aY):Sp:=λvs H Q _=>∃(R:Addr)(rs:z0q)(aa:56),vs=[.ref R]/\aX K H R 260/\520/\568/\547 /\
 ∀(d:Addr)(ps:z0f)(st:Str->z0g)(aC:z0h)(H':Hp),H d=none->147->H' d=some 496->Hl K ps st H' d->ps.map 27=hd aa->(∀p∈ps,H p.2=none)->uO aa aC->vh aa aa.length aC ->
  (∀n k j,n∈hd aa->((k,j)∈st n↔SH aa (hd aa) 534 n k j))->Q (.ref d) H'
def je:aM ["rules","empty","steps","number","rule","place","part","filled"] 159 (ax B0):=417
def IZ (F:jo K "steps_with_like_rows" "steps_with_like_rows" B0 f fd)(T:Txt mg)(GE:aL P w K mg base 1 "found_empties" 159 (pP K))(GH:aL P w K mg base 1 "heads_of" 159 (lV K)):bO P w K mg base gb 2 f fd 159 (DN K):=by
 refine F.ok je 420 472
 .obtain⟨R,rs,aa,rfl,_⟩:=h;rfl
 obtain⟨R,rs,aa,rfl,hR,dA,bE,h8,q⟩:=h;have hu:=fc hr;refine⟨_,aj (aF (i:=1) je.nd rfl (Or.inr rfl) (bu (d8 rfl) rfl T.ET fY (ae (bZ GE hr rfl 497) ao)))
  (aj (aF (i:=2) je.nd rfl 68 (bu (d8 rfl) rfl T.ET fY (ae
   (cm ["name"] [] rfl (bP (bZ GH hr rfl 497)) 487 nofun rfl nofun
    876 539
    (λ_ _ _ _ _=>bG (ae 72 (ae (dw ao) ao)))) ao)))
  (aj (cP c_ rfl (ot rfl T.MP 497) (gE rfl (aH (az (i:=3) je.nd rfl 68) (aH (az (i:=4) je.nd rfl 68) cI)))
   (aj (j3 (iy:=7) ["place","part"] [(1,"empty")] je.nd rfl rfl rfl (oq rfl T.MP (ae (bF bH (pv 4) aA 109) ao)) 487 nofun rfl nofun
    (λ_ _ _ _ _=>jh (n:=2) K rfl (aH (az (i:=0) (show (["place","part","empty"]:z0t).Nodup by decide +kernel) rfl 68) (aH (az (i:=1) (show (["place","part","empty"]:z0t).Nodup by decide +kernel) rfl 68) cI)))
    (λ_ _ _ _ _=>j4 (eM (de hu 102 (pv 2)))) (λ_ _ _ _ _=>pv 0))
   (av (cP c_ rfl (oq rfl T.MP (ae (bF bH (pv 4) aA 109) ao)) (gE rfl (aH (az (i:=5) je.nd rfl 68) (aH (az (i:=6) je.nd rfl 68) cI)))
    (av (dq (PW.pt (Im (eM (nh hu (pv 6) (pv 2))) (Eb (cS (Fx hu) (pv 7) (bG (ae (dw ao) (ae (dw (ae (pv 5) ao)) ao))) rfl))))
     (av (cY (jj iN kM kO df (d5 hu (pv 2) (bF bH (pv 4) aA 109) 109) (ae (bG (ae (pv 3) (ae (pv 5) ao))) ao)))) bL)))))
   )
  (av (bS (pv 2))))),?_⟩
 nofun
 have ll:=bf dA;refine⟨_,rfl,R,rs,aa,rfl,hR,dA,bE,h8,λD1 Fi aC H1 f1 s1 e1 w1 emp uh=>?_⟩;have ZD:Paired (λt (kv:aI×V)=>aU K H1 t [kV kv.1,kv.2]) Fi (837):=cM w1 479;refine⟨D1,Fi,_,rfl,e1,ZD,λe he=>?_⟩;have ekE:cR (837) []=837:=oP _ [] (by
  rw [mU,eE];have:=yr emp.nd;rw [eE] at this;exact this)
 rw [ekE];have FP:∀z,(aQ (837) 107).isSome=decide (z∈aC.map 27):=λz=>by
  rw [jU,dj,decide_eq_true_iff,eE];have:(aC.map λp:Str×Nat=>(Sum.inr p.1:aI))=(aC.map 27).map Sum.inr:=by rw [eE];rfl
  show _∈(aC.map λp:Str×Nat=>(Sum.inr p.1:aI))↔_;rw [this];exact cC
 generalize (837)=kE at FP ⊢;have s2:=s1.trans (ah he (.dK kE));have e2:upd H1 e (.dK kE) e=some (.dK kE):=af;generalize upd H1 e (.dK kE)=H2 at s2 e2;refine⟨_,rfl,R,rs,aa,rfl,s2.seq hR,dA.same s2,bE,λD2 H3 f3 s3 e3=>?_⟩;have Qb:=jn 567 [];simp only [kq,ay] at Qb;refine⟨D2,rfl,⟨_,aX.of e3⟩,λD3 Vq=>ur (aX.of e3) ∅ Vq λts ps H4 s4 e4 m4 p4 l4 n4=>?_⟩;have n1:(ps.map 27).Nodup:=by rw [m4];exact qe _ eG
 have JA:Paired (λt (kv:aI×V)=>aU K H4 t [kV kv.1,kv.2]) ts (ps.map iz):=cM p4 479;refine⟨D3,ts,_,rfl,e4,JA,λd kF=>?_⟩;have VH:cR (ps.map iz) []=ps.map iz:=oP _ [] (by
  rw [mU,iE];exact yr n1)
 rw [VH];have s5:=((s2.trans s3).trans s4).trans (ah kF 496);have Fo:=ah kF 496;have e5:upd H4 d 496 d=some 496:=af;have VJ:=Fo _ _ (s4 _ _ (s3 _ _ e2));have zf:H d=none:=((s2.trans s3).trans s4).free kF;have S5:Hl K ps (λ_=>[]) (upd H4 d 496) d:=⟨.inl e5,n1,n4,λp hp=>⟨[],Fo _ _ (l4 p hp).1,.nil⟩⟩;have Sj:∀p∈ps,H p.2=none:=λp hp=>(s2.trans s3).free (l4 p hp).2.1;generalize upd H4 d 496=H5 at s5 e5 VJ S5;clear Fo;have eb:738=λz=>decide (z∈aC.map 27):=funext FP;refine⟨_,rfl,R,_,rfl,s5.seq hR,?_⟩
 let Dv:Dw:=λi σ H6=>∃(st:Str->z0g)(y3 y4 y5 y6 y7:126),σ=[aZ R,aZ e,aZ d,y3,y4,y5,y6,y7]/\aD H H6/\H6 e=some (.dK kE)/\H6 d=some 496/\Hl K ps st H6 d /\
  (∀n,(st n).length<=8 * i)/\∀n k j,n∈hd aa->((k,j)∈st n↔k < i/\SH aa (hd aa) 534 n k j)
 refine lN (xs:=122) Dv
  ⟨λ_=>[],none,none,none,none,none,rfl,s5,VJ,e5,S5,58,58⟩ ?_ ?_ ?_
 .rintro i σ H6 _ ⟨st,y3,y4,y5,y6,y7,rfl,s6,_⟩;exact s6.seq hR
 .rintro i x σ H6 t ex ⟨st,y3,y4,y5,y6,y7,rfl,s6,Q7,ed6,S6,l6,c6⟩ ht
  ac_nf0
  rw [bx] at ex;obtain⟨r,er,rfl⟩:=473;obtain⟨ru,ug,p,v1,v2⟩:=dA.get er;have lK:=cv ug;have Sh:=h8 ru lK;have li:=(a7.mp ug).1;have KR:=ah ht 590;have N1:860:=aU.of af;have s7:=s6.trans KR;have Q6:=KR _ _ Q7;have ed7:=KR _ _ ed6;have S7:=S6.same KR;generalize upd H6 t 590=H7 at N1 s7 Q6 ed7 S7;refine⟨t,_,rfl,N1,rfl,_,_,rfl,_,_,rfl,rfl,?_⟩;refine⟨_,rfl,r,_,_,_,rfl,rfl,s7.tup v1,rfl,p,_,rfl,s7.tup v2,λD5 Sf=>Aw rfl (s7.tup v2) ∅ Q6 Sf λH8 RI e8=>?_⟩;rw [eb] at e8;have s8:=s7.trans RI;have ee8:=RI _ _ Q6;have ed8:=RI _ _ ed7;have S8:=S7.same RI;have nD5:∀p∈ps,p.2≠D5:=λp hp z=>by
   obtain⟨jc,a,_⟩:=S7.lst p hp;rw [z,Sf] at a;cases a
  obtain⟨pn,Ad,A_⟩:∃pn∈ps,pn.1=ru.1:=by
   have:ru.1∈ps.map 27:=by rw [m4];exact(gY _ _ _).mpr (.inr (ja lK))
   obtain⟨pn,a,b⟩:=a9.mp this;exact⟨pn,a,b⟩
  refine⟨_,rfl,r,_,_,_,rfl,rfl,s8.tup v1,rfl,p,_,rfl,s8.tup v2,?_⟩
  let Nh:Dw:=λj σ H9=>∃(st:Str->z0g)(y5 y6:126),σ=[aZ R,aZ e,aZ d,some (141),aZ r,y5,y6,aZ D5]/\aD H H9/\H9 e=some (.dK kE)/\H9 d=some 496/\Hl K ps st H9 d /\
   H9 D5=some (.lst ((Gg 534 ru.2 ru.2.length).map V.int))/\(∀n,(st n).length<=8 * i+j)/\∀n k j',n∈hd aa->((k,j')∈st n↔(k < i\/(k=i/\j' < j))/\SH aa (hd aa) 534 n k j')
  refine qc (xs:=ru.2.map V.str) Nh
   ⟨st,_,_,rfl,s8,ee8,ed8,S8,e8,λn=>l6 n,λn k j' hn=>by rw [c6 n k j' hn];simp⟩ ?_ ?_ ?_
  .rintro j σ H9 _ ⟨st,y5,y6,rfl,s9,_⟩;exact s9.tup v2
  .rintro j x σ H9 t2 Dd ⟨st,y5,y6,rfl,s9,ee9,ed9,S9,e9,l9,c9⟩ jl
   ac_nf0
   rw [bx] at Dd;obtain⟨z,ez,rfl⟩:=cH.mp Dd;have lj:=(a7.mp ez).1;have zJ:=ah jl (.tup [.int 124,.str z]);have JH:aU K (upd H9 t2 (.tup [.int 124,.str z])) t2 [.int 124,.str z]:=aU.of af;have uJ:=s9.trans zJ;have yJ:=zJ _ _ ee9;have qO:=zJ _ _ ed9;have Dh:=zJ _ _ e9;have Oy:=S9.same zJ;generalize upd H9 t2 (.tup [.int 124,.str z])=vf at JH uJ yJ qO Dh Oy;have mem:(aQ (ps.map iz) 107).isSome=true↔z∈hd aa:=by rw [dj,iE,m4];exact cC
   have jZ:¬(z∈hd aa/\Ml 534 ru.2 j=true)->∀n k j',n∈hd aa->((k,j')∈st n↔(k < i\/(k=i/\j' < j+1))/\SH aa (hd aa) 534 n k j'):=λhn n k j' F7=>by
    rw [c9 n k j' F7];constructor
    .rintro⟨h1,h3⟩;exact⟨∅,h3⟩
    rintro⟨h1,h3⟩;refine⟨?_,h3⟩;by_cases c:k=i/\j'=j
    .obtain⟨D_,z',a1,a2,a3,a4,a5⟩:=h3;rw [c.1,ug] at a1;cases a1;rw [c.2] at a5;rw [c.2,ez] at a3;cases a3;exact absurd ⟨a4,a5⟩ hn
    omega
   have l9':∀n,(st n).length<=8 * i+(j+1):=λn=>by have:=l9 n;omega
   refine⟨t2,_,rfl,JH,rfl,_,_,rfl,_,_,rfl,rfl,?_⟩;refine⟨_,rfl,_,rfl,d,_,rfl,b8.k (k:=88) qO,_,rfl,?_⟩;refine 566
   .have hz:=mem.mp c;refine⟨_,rfl,Bu,λl1 hl1=>?_⟩;have Fp:=ah hl1 103;have K9:upd vf l1 103 l1=some 103:=af;have nl1:l1≠D5:=(aB Dh hl1).symm;generalize upd vf l1 103=G3 at Fp K9;refine⟨_,rfl,Lg,λl2 uY=>?_⟩;have G8:=ah uY (.lst [.int 124]);have Of:upd G3 l2 (.lst [.int 124]) l2=some (.lst [.int 124]):=af;have Y_:l2≠D5:=(aB (Fp _ _ Dh) uY).symm;generalize upd G3 l2 (.lst [.int 124])=AR at G8 Of;refine⟨qF,λt3 JI=>?_⟩;have WL:=ah JI (.tup [.ref l1,.ref l2]);have e13:aU K (upd AR t3 (.tup [.ref l1,.ref l2])) t3 [.ref l1,.ref l2]:=aU.of af;generalize upd AR t3 (.tup [.ref l1,.ref l2])=E8 at WL e13;have qI:=(Fp.trans G8).trans WL;refine⟨t3,D5,l1,l2,_,[],[124],rfl,rfl,e13,aX.of (qI _ _ Dh),aX.of (WL _ _ (G8 _ _ K9)),aX.of (WL _ _ Of),nl1,Y_,_,rfl,?_⟩;have KC:=Oy.same qI;have Ph:=uJ.trans qI;refine fO (λc2=>?_) (λc2=>?_)
    .obtain⟨tsn,an,bn⟩:=KC.lst pn Ad;have vn:=fM ps n1 pn Ad;rw [A_] at vn;have hg:b8 E8 d (.str ru.1) (some (.ref pn.2)):=by
      have:=b8.k (k:=521) (qI _ _ qO);rw [vn] at this;exact this
     have ltn:=bf bn;have l9n:=l9 pn.1;refine⟨_,rfl,_,rfl,r,_,_,_,rfl,rfl,Ph.tup v1,rfl,d,_,rfl,hg,.inl ⟨rfl,_,aX.of an⟩,_,rfl,_,rfl,qF,λt4 uW=>?_⟩;have uU:=ah uW 795;have e14:aU K (upd E8 t4 795) t4 [141,.int 124]:=aU.of af;generalize upd E8 t4 795=H14 at uU e14;have Wh:=KC.same uU;have M6:=uU _ _ an;have aaF:=Paired.cJ bn λt' (e':Nat×Nat)(z:aU K E8 t' [.int (e'.1:Int),.int (e'.2:Int)])=>uU.tup z;refine⟨pn.2,_,_,rfl,rfl,M6,507,?_⟩;have S15:=Wh.more (e:=(i,j)) Ad M6 aaF e14;have ne1:e≠pn.2:=λz=>by have:=uU _ _ (qI _ _ yJ);rw [z,M6] at this;cases this
     have ne2:d≠pn.2:=λz=>by have:=uU _ _ (qI _ _ qO);rw [z,M6] at this;cases this
     refine⟨wN st pn.1 (i,j),_,_,rfl,λb o hb=>?_,by rw [ai ne1];exact uU _ _ (qI _ _ yJ),by rw [ai ne2];exact uU _ _ (qI _ _ qO),S15,by rw [ai (nD5 pn Ad).symm];exact uU _ _ (qI _ _ Dh),λn=>?_,λn k j' F7=>?_⟩
     .rw [ai (λz=>by rw [z,Sj pn Ad] at hb;cases hb)];exact uU _ _ (Ph b o hb)
     .have:=l9 n;unfold wN
      split
      .rw [bp];simp;omega
      omega
     have hit:SH aa (hd aa) 534 ru.1 i j:=⟨ru,z,ug,rfl,ez,hz,c2⟩;have Om:=c9 n k j' F7;unfold wN;by_cases cn:n=pn.1
     .rw [ar cn,cw,bj,Om];constructor
      .rintro(⟨h1,h3⟩ | h1)
       .exact⟨∅,h3⟩
       cases h1;exact⟨∅,by rw [cn,A_];exact hit⟩
      rintro⟨h1,h3⟩;by_cases cc:k=i/\j'=j
      .exact .inr (by rw [cc.1,cc.2])
      exact .inl ⟨∅,h3⟩
     rw [aq cn,Om];constructor
     .rintro⟨h1,h3⟩;exact⟨∅,h3⟩
     rintro⟨h1,h3⟩;refine⟨?_,h3⟩;by_cases cc:k=i/\j'=j
     .obtain⟨D_,z',a1,a2,_⟩:=h3;rw [cc.1,ug] at a1;cases a1;exact absurd (a2.symm.trans A_.symm) cn
     omega
    exact⟨st,_,_,rfl,Ph,qI _ _ yJ,qI _ _ qO,KC,qI _ _ Dh,l9',jZ λ⟨_,h⟩=>c2 h⟩
   exact⟨st,_,_,rfl,uJ,yJ,qO,Oy,Dh,l9',jZ λ⟨h,_⟩=>c (mem.mpr h)⟩
  rintro σ H9 ⟨st,y5,y6,rfl,s9,ee9,ed9,S9,e9,l9,c9⟩;rw [ay] at l9 c9;refine⟨st,_,_,_,_,_,rfl,s9,ee9,ed9,S9,λn=>?_,λn k j' hn=>?_⟩
  .have:=l9 n;omega
  rw [c9 n k j' hn];constructor
  .rintro⟨h1 | ⟨h1,h2⟩,h3⟩
   .exact⟨∅,h3⟩
   exact⟨∅,h3⟩
  rintro⟨h1,h3⟩;refine⟨?_,h3⟩;by_cases c:k < i
  .exact .inl c
  refine .inr ⟨∅,?_⟩;obtain⟨D_,z',a1,_,a3,_⟩:=h3;have:k=i:=121
  rw [this,ug] at a1;cases a1;exact(a7.mp a3).1
 rintro σ H6 ⟨st,y3,y4,y5,y6,y7,rfl,s6,Q7,ed6,S6,l6,c6⟩;rw [ay,ll] at c6;refine⟨_,rfl,q d ps st aC H6 zf s6 ed6 S6 m4 Sj emp uh λn k j hn=>?_⟩;rw [c6 n k j hn];constructor
 .exact λh=>h.2
 intro h;obtain⟨D_,_,a1,_⟩:=id h;exact⟨(a7.mp a1).1,h⟩
end
end fC
namespace L2
open PySem
def b8.r {H:Hp}{a:Addr}{kvs:86}{k:aI}(e:Rd H a 489):b8 H a (kV k) (aQ kvs k):=.inl ⟨kvs,k,e,rfl,rfl⟩
end L2
namespace fC
open PySem L2 M11
section
def Down (aa:56) (names:z0t)(st:Str->z0g)(rk:Str->Nat):Prop:=∀n∈names,∀e∈st n,∃ru z,aa[e.1]?=some ru/\ru.2[e.2]?=some z/\z∈names/\rk z < rk n
def Nw (K:aY):Sp:=λvs H Q _=>∃(R d:Addr)(rs:z0q)(aa:56)(ps:z0f)(st:Str->z0g)(name:Str)(rk:Str->Nat),vs=[.ref R,.ref d,.str name]/\aX K H R 260/\520/\568 /\
 Hl K ps st H d/\ps.length<=1000/\name∈ps.map 27/\Down aa 545 st rk/\∀(D:Addr)(H':Hp),H D=none->147->H' D=some 103->Q (.ref D) H'
structure M_ (K:aY) (names:z0t)(rk:Str->Nat)(name:Str)(H H5:Hp)(D m:Addr)(o8:z0q)(kY:z0f) (ms:z0t)(kvs:86):Prop where
 sm:aD H H5
 hD:H5 D=some (.lst (o8.map V.ref))
 hm:H5 m=375
 keys:kvs.map 27=ms.map Sum.inr
 nd:ms.Nodup
 sub:∀x∈ms,x∈names
 wl:kY.length=ms.length+1
 wv:Paired (λt (e:Str×Addr)=>aU K H5 t [.str e.1,.ref e.2]) o8 kY
 we:∀e∈kY,e.1∈names/\rk e.1<=rk name/\∃xs,H5 e.2=500/\xs.length<=kY.length/\e.2≠D
def M_.len {names:z0t}{rk:Str->Nat}{name:Str}{H H5:Hp}{D m:Addr}{o8:z0q}{kY:z0f}{ms:z0t}{kvs:86}(h:M_ K names rk name H H5 D m o8 kY ms kvs):o8.length=kY.length/\kvs.length=ms.length/\ms.length<=names.length:=by
 refine⟨bf h.wv,?_,gP _ _ h.nd h.sub⟩;have:=congrArg List.length h.keys;simpa using this
def M_.more {names:z0t}{rk:Str->Nat}{name z:Str}{H H5 H9:Hp}{D m t c:Addr}{o8:z0q}{kY:z0f}{ms:z0t}{kvs:86}{xs:84}(h:M_ K names rk name H H5 D m o8 kY ms kvs)(fD:H D=none)(fm:H m=none)
  (hz:z∈names)(hr:rk z<=rk name)(hn:z∉ms)(s:aD (upd H5 m (.dK 797)) H9)(ht:aU K H9 t [.str z,.ref c])(hc:H9 c=500)(hx:xs.length<=kY.length+1)(nc:c≠D) :
  M_ K names rk name H (upd H9 D (.lst (o8.map V.ref++[.ref t]))) D m (o8++[t]) (kY++[(z,c)]) (ms++[z]) 797:=by
 have WV:D≠m:=λe=>by have:=h.hD;rw [e,h.hm] at this;cases this
 have K4:H9 D=some (.lst (o8.map V.ref)):=s _ _ (by rw [ai WV];exact h.hD);have hm9:H9 m=some (.dK 797):=s _ _ af;refine⟨λb o hb=>?_,by rw [af,aP];rfl,by rw [ai WV.symm];exact hm9,?_,?_,?_,?_,?_,?_⟩
 .rw [ai (λe=>by rw [e,fD] at hb;cases hb)];exact s _ _ (by rw [ai (λe=>by rw [e,fm] at hb;cases hb)];exact h.sm b o hb)
 .rw [jf (by rw [h.keys];exact λe=>hn (cC.mp e)),h.keys,aP];rfl
 .refine iM.mpr ⟨h.nd,58,λa ha b hb e=>?_⟩;rw [bj.mp hb] at e;exact hn (e ▸ ha)
 .intro x Qo;rcases cw.mp Qo with e | e
  .exact h.sub x e
  rw [bj.mp e];exact hz
 .rw [bp,bp,h.wl];rfl
 .exact ff (Paired.cJ h.wv λ_ _ e=>bK K4 (s.tup (hV h.hm e))) (bK K4 ht)
 intro e he;rw [bp];rcases cw.mp he with e' | e'
 .obtain⟨a,b,ys,c1,d1,n1⟩:=h.we e e';exact⟨a,b,ys,by rw [ai n1];exact s _ _ (by rw [ai (λq=>by rw [q,h.hm] at c1;cases c1)];exact c1),∅,n1⟩
 rw [bj.mp e'];exact⟨hz,hr,xs,by rw [ai nc];exact hc,hx,nc⟩
def n5:aM ["rules","steps","name","ways","met","at","way","number","place","part"] ["rules","steps","name"] (ax O_):=417
def PQ (F:jo K "way_back" "way_back" O_ f fd)(T:Txt mg):bO P w K mg base gb 1 f fd ["rules","steps","name"] (Nw K):=by
 refine F.ok n5 420 472
 .obtain⟨R,d,rs,aa,ps,st,name,rk,rfl,_⟩:=h;rfl
 obtain⟨R,d,rs,aa,ps,st,name,rk,rfl,hR,dA,bE,S,C0,JL,Xf,q⟩:=h;have hu:=fc hr;refine⟨_,aj (aF (i:=3) n5.nd rfl 68 (dw (ae (bG (ae (pv 2) (ae (dw ao) ao))) ao)))
  (aj (aF (i:=4) n5.nd rfl 68 fV)
  (aj (aF (i:=5) n5.nd rfl 68 aA)
  (aj (iX c_ (cS ow (pv 5) (bo bC rfl T.len gI (ae (pv 3) ao)) (cT _))
   (aj (aF (i:=6) n5.nd rfl 68 (bF bH (bF e_ (pv 3) (pv 5) 109) aA 109))
   (aj (cP c_ rfl (bP (d5 hu 102 (bF bH (bF e_ (pv 3) (pv 5) 109) aA 109) 109)) (gE rfl (aH (az (i:=7) n5.nd rfl 68) (aH (az (i:=8) n5.nd rfl 68) cI)))
    (aj (aF (i:=9) n5.nd rfl 68 (bF bH (bF bH (bF e_ 72 (pv 7) 109) aA 109) (pv 8) 109))
    (aj (dq (cS oz (pv 9) (pv 2) (cT _)) (av iY) bL)
    (av (dq (eM (de hu (pv 9) (pv 4)))
     (aj (gC hu (pv 4) (pv 9) h_ rfl) (av (cY (jj iN kM kO df (pv 3) (ae (bG (ae (pv 9) (ae (cu PN (pv 6) (dw (ae (bG (ae (pv 7) (ae (pv 8) ao))) ao))) ao))) ao))))) bL)))))
   (av (Iv (i:=5) n5.nd rfl 68 aA JE)))))
  (av (bS (dw ao)))))),?_⟩
 nofun
 have uX:(ps.map 27).length=ps.length:=ay _;refine⟨_,rfl,Bu,λl0 W9=>?_⟩;have s1:=ah W9 103;have e1:upd H l0 103 l0=some 103:=af;generalize upd H l0 103=H1 at s1 e1;refine⟨qF,λt0 ZS=>?_⟩;have s2:=ah ZS (.tup [.str name,.ref l0]);have e2:aU K (upd H1 t0 (.tup [.str name,.ref l0])) t0 [.str name,.ref l0]:=aU.of af;generalize upd H1 t0 (.tup [.str name,.ref l0])=H2 at s2 e2;refine⟨Lg,λD hD=>?_⟩;have s3:=ah hD (.lst [.ref t0]);have e3:upd H2 D (.lst [.ref t0]) D=some (.lst ([t0].map V.ref)):=af;have nl0:l0≠D:=aB (s2 _ _ e1) hD;generalize upd H2 D (.lst [.ref t0])=H3 at s3 e3;intro m hm;have s4:=ah hm 418;have e4:upd H3 m 418 m=some 418:=af;generalize upd H3 m 418=H4 at s4 e4;have fD:H D=none:=(s1.trans s2).free hD;have fm:H m=none:=((s1.trans s2).trans s3).free hm;have W0:M_ K 545 rk name H H4 D m [t0] [(name,l0)] [] []:=⟨((s1.trans s2).trans s3).trans s4,s4 _ _ e3,e4,rfl,eG,58,rfl,.cons ((s3.trans s4).tup e2) .nil,λe he=>by
  rw [bj.mp he];exact⟨JL,aE _,[],s4 _ _ (s3 _ _ (s2 _ _ e1)),58,nl0⟩⟩
 refine⟨λmm σ H5=>∃(o8:z0q)(kY:z0f) (ms:z0t)(kvs:86) (at_:Nat)(y6 y7 y8 y9:126),σ=[aZ R,aZ d,some (.str name),aZ D,aZ m,some (.int (at_:Int)),y6,y7,y8,y9]/\M_ K 545 rk name H H5 D m o8 kY ms kvs /\
  at_<=kY.length/\mm=1002 - at_,⟨1002,[t0],[(name,l0)],[],[],0,none,none,none,none,rfl,W0,58,rfl⟩,?_⟩
 rintro mm σ H5 ⟨o8,kY,ms,kvs,at_,y6,y7,y8,y9,rfl,W,hat,rfl⟩;obtain⟨lw,lk,lm⟩:=W.len;have aaZ:=W.wl;refine⟨_,rfl,_,rfl,D,_,rfl,.inl (aX.of W.hD),_,_,rfl,rfl,_,rfl,?_⟩;refine 566
 .have c':=dJ c;rw [ay,lw] at c';have jQ:at_ < kY.length:=121
  obtain⟨n,l,en⟩:∃n l,kY[at_]?=some (n,l):=⟨(kY[at_]).1,(kY[at_]).2,cx jQ⟩;obtain⟨t1,et1,ht1⟩:=Paired.at_ W.wv at_ (n,l) en;have at1:Bc (o8.map V.ref) (at_:Int)=some (.ref t1):=eh (by rw [bx,et1];rfl);obtain⟨hn,hrn,xs,hl,hxl,P1⟩:=W.we (n,l) (cv en);dsimp only at hn hrn hl P1;obtain⟨pn,Ad,A_⟩:=a9.mp hn;have vn:=fM ps S.n1 pn Ad;rw [A_] at vn;obtain⟨tsn,an,bn⟩:=S.lst pn Ad;rw [A_] at bn;refine⟨λσ H5=>∃(o8:z0q)(kY:z0f) (ms:z0t)(kvs:86)(y6 y7 y8 y9:126),σ=[aZ R,aZ d,some (.str name),aZ D,aZ m,some (.int ((at_+1:Nat):Int)),y6,y7,y8,y9]/\M_ K 545 rk name H H5 D m o8 kY ms kvs/\at_+1<=kY.length,?_,?_⟩
  .rintro σ H6 ⟨o8,kY,ms,kvs,y6,y7,y8,y9,rfl,W2,h2⟩;exact⟨1002 - (at_+1),∅,o8,kY,ms,kvs,at_+1,_,_,_,_,rfl,W2,h2,rfl⟩
  refine⟨_,rfl,_,rfl,D,_,_,_,rfl,rfl,aX.of W.hD,at1,t1,_,_,_,rfl,rfl,ht1,rfl,?_⟩;have hg:b8 H5 d (.str n) (some (.ref pn.2)):=by
   have:=b8.r (k:=Sum.inr n) (Rd.same S.hd W.sm);rw [vn] at this;exact this
  refine⟨_,rfl,_,rfl,_,rfl,D,_,_,_,rfl,rfl,aX.of W.hD,at1,t1,_,_,_,rfl,rfl,ht1,rfl,d,_,rfl,hg,pn.2,rfl,⟨_,aX.of (W.sm _ _ an)⟩,?_⟩
  let Dv:Dw:=λi σ H6=>∃(o8:z0q)(kY:z0f) (ms:z0t)(kvs:86)(y7 y8 y9:126),σ=[aZ R,aZ d,some (.str name),aZ D,aZ m,some (.int (at_:Int)),aZ l,y7,y8,y9]/\M_ K 545 rk name H H6 D m o8 kY ms kvs /\
   at_+1<=kY.length/\∃e∈kY,e.2=l
  refine du (xs:=tsn.map V.ref) Dv ⟨o8,kY,ms,kvs,_,_,_,rfl,W,jQ,(n,l),cv en,rfl⟩ ?_ ?_ ?_
  .rintro i σ H6 _ ⟨o8,kY,ms,kvs,y7,y8,y9,rfl,W2,_⟩;exact aX.of (W2.sm _ _ an)
  .rintro i x σ H6 ex ⟨o8,kY,ms,kvs,y7,y8,y9,rfl,W2,h2,e0,he0,ee0⟩
   ac_nf0
   rw [bx] at ex;obtain⟨ti,eti,rfl⟩:=473;have lbn:=bf bn;have lti:=(a7.mp eti).1;obtain⟨⟨k,j⟩,ekj⟩:∃e,(st n)[i]?=some e:=⟨(st n)[i]'∅,cx ∅⟩;obtain⟨ti',Vz,hti⟩:=Paired.at_ bn i (k,j) ekj;rw [eti] at Vz;cases Vz;obtain⟨ru,z,er,ez,hz,UO⟩:=Xf n hn (k,j) (cv ekj);obtain⟨r,Sn,p,v1,v2⟩:=Paired.at_ dA k ru er;have atr:Bc 260 (k:Int)=some (.ref r):=eh (by rw [bx,Sn];rfl);have M4:Bc (ru.2.map V.str) 124=some (.str z):=eh (by rw [bx,ez];rfl);obtain⟨lw2,WZ,lm2⟩:=W2.len;have aaV:=W2.wl;refine⟨ti,_,rfl,W2.sm.tup hti,rfl,_,_,rfl,_,_,rfl,rfl,?_⟩;refine⟨_,rfl,_,rfl,R,_,_,_,rfl,rfl,W2.sm.seq hR,atr,r,_,_,_,rfl,rfl,W2.sm.tup v1,rfl,_,rfl,p,_,_,_,rfl,rfl,W2.sm.tup v2,M4,?_⟩;refine⟨_,rfl,_,rfl,rfl,_,rfl,?_⟩;have nz:z≠name:=λe=>by rw [e] at UO;omega
   refine fO (λc=>absurd (dJ c) (λe=>nz (by injection e))) (λ_=>?_);have mem:632=true↔z∈ms:=by rw [dj,W2.keys];exact cC
   refine⟨_,rfl,_,rfl,m,_,rfl,b8.k (k:=88) W2.hm,_,rfl,?_⟩;refine 566
   .have nm:z∉ms:=λh=>by rw [mem.mpr h] at c;exact absurd c nofun
    refine⟨_,rfl,_,rfl,m,_,rfl,ma.k (k:=88) W2.hm (bX ∅),?_⟩;obtain⟨_,_,KP,uY,aa5,Y_⟩:=W2.we e0 he0;rw [ee0] at uY Y_;have WV:D≠m:=λe=>by have:=W2.hD;rw [e,W2.hm] at this;cases this
    have nlm:l≠m:=λe=>by rw [e,W2.hm] at uY;cases uY
    have QS:upd H6 m (.dK 797) D=some (.lst (o8.map V.ref)):=by rw [ai WV];exact W2.hD
    have hlu:upd H6 m (.dK 797) l=some (.lst KP):=by rw [ai nlm];exact uY
    refine⟨_,rfl,.inl ⟨rfl,_,aX.of QS⟩,_,rfl,_,rfl,_,rfl,_,rfl,qF,λt4 uW=>?_⟩;have s4':=ah uW (.tup [.int (k:Int),.int 124]);generalize upd (upd H6 m (.dK 797)) t4 (.tup [.int (k:Int),.int 124])=H7 at s4';refine⟨Lg,λl4 hl4=>?_⟩;have s5':=ah hl4 (.lst [.ref t4]);have e5':upd H7 l4 (.lst [.ref t4]) l4=some (.lst [.ref t4]):=af;generalize upd H7 l4 (.lst [.ref t4])=H8 at s5' e5';have YA:=s4'.trans s5';refine⟨l,l4,KP,[.ref t4],rfl,rfl,YA _ _ hlu,e5',fits (548),λc0 hc0=>?_⟩;have s6':=ah hc0 (.lst (KP++[.ref t4]));have e6':upd H8 c0 (.lst (KP++[.ref t4])) c0=some (.lst (KP++[.ref t4])):=af;have nc0:c0≠D:=(aB (YA _ _ QS) hc0).symm;generalize upd H8 c0 (.lst (KP++[.ref t4]))=H9 at s6' e6';refine⟨qF,λt5 UI=>?_⟩;have Yx:=ah UI (.tup [.str z,.ref c0]);have e7':aU K (upd H9 t5 (.tup [.str z,.ref c0])) t5 [.str z,.ref c0]:=aU.of af;generalize upd H9 t5 (.tup [.str z,.ref c0])=vf at Yx e7';have sA:=(YA.trans s6').trans Yx;refine⟨D,_,_,rfl,rfl,sA _ _ QS,507,?_⟩;exact⟨o8++[t5],kY++[(z,c0)],ms++[z],_,_,_,_,rfl,W2.more fD fm hz ∅ nm sA e7' (Yx _ _ e6') (by rw [bp];simp;omega) nc0,642,e0,g_ _ he0,ee0⟩
   exact⟨o8,kY,ms,kvs,_,_,_,rfl,W2,h2,e0,he0,ee0⟩
  rintro σ H6 ⟨o8,kY,ms,kvs,y7,y8,y9,rfl,W2,h2,_⟩;exact⟨_,rfl,_,_,rfl,rfl,o8,kY,ms,kvs,_,_,_,_,rfl,W2,h2⟩
 refine⟨Bu,λD9 K4=>q D9 _ (W.sm.free K4) (W.sm.trans (ah K4 _)) af⟩
end
end fC
namespace L2
open PySem PySem.Spec PyProof.Rows
section
variable {prog:Program}{w:World}{A:Around}{E:z0b}{s:Shared}
def AK (a b c:Value):argsOk "min" ⟨[a],[("key",b),("default",c)]⟩:=by unfold argsOk;kernel_rfl
def u7 {l:Addr}{kf dv:Value}{Q:z0b}(hh:569)(hl:s.heap.IsList l #[])(h:∀h' tk,835->Q dv { s with heap:=h',toks:=tk }) :
  wpAny 140 A (call (.builtin "min") [.ref l] [("key",kf),("default",dv)]) Q E s:=by
 have JL:(toString "min" ++ toString ".loop":String) = "min.loop" := by decide
 refine gM (pI F.plain_min F.entry_min ?_);have core:wpAny 140 A.in1 (Builtin.«min» ⟨[.ref l],[("key",kf),("default",dv)]⟩) (λfin s'=>match fin with
   | .done f=>(match (Except.ok f:Result) with | .ok (.ret v)=>Q v s' | .ok _=>False | .error e=>E e s')
   | .again c'=>c'.quiet=true/\codeAny 140 A c' (λr s'=>match r with | .ok (.ret v)=>Q v s' | .ok _=>False | .error e=>E e s') s') E s:=by
  show wpAny _ A.in1 (Builtin.Builtins.bindParams "min" ["key","default"] 0 ⟨[],[("key",kf),("default",dv)]⟩ >>= _) _ _ s;refine au (wpAny_of_eq (show Builtin.Builtins.bindParams "min" ["key","default"] 0 ⟨[],[("key",kf),("default",dv)]⟩=pure [some kf,some dv] from rfl) ?_);refine au (aJ ?_);refine au (pB hl ?_);refine au (kr ?_);rw [JL];obtain⟨ol,h1,h2⟩:=id hl;generalize hG:s.heap.push 820=G;have k1:∀b o,259->G.get? b=65:=λb o e=>by rw [<-hG];exact bW _ e
  have hi:G.get? s.heap.objs.size=some 820:=by rw [<-hG];exact cU _ rfl
  refine aJ ⟨kQ F.plain_min_loop _,rA F.entry_min_loop ?_⟩;rw [rT F.plain_min_loop _];show wpAny _ A.in1 (seqItems? (.ref G.objs.size) >>= _) _ _ _;refine au (mP (cU _ rfl) rfl ?_);show wpAny _ A.in1 (tryCatch (pyNext 720) _ >>= _) _ _ _;refine au (wpAny_tryCatch (xr (show A.in1.handled=none from hh) ⟨_,bW _ hi,rfl,rfl⟩ ⟨ol,bW _ (k1 _ _ h1),h2⟩ 90 λh' eb=>?_));refine au (jq (aJ ?_));exact h h' _ λb o e=>eb b o (bJ (aV e)) (bW _ (k1 b o e))
 simp only [checkBuiltinCall,F.kind_min];cases ZU:Manifest.signature? "min" with
 | none=>exact aJ core
 | some sig =>
  have ha':Bind.checkArgs "min" sig ⟨[.ref l],[("key",kf),("default",dv)]⟩=pure ():=by have:=AK (.ref l) kf dv;simpa only [argsOk,ZU] using this
  simp only [ha'];exact aJ core
end
def Tb (K:aY)(t:TA)(td:TE):TE:=λσ H Q=>t σ H λvs H1=>td σ H1 λdv H2=>∃a,vs=[91]/\aX K H2 a []/\Q dv H2
def LR {X:Cx}{p pos lp ZD JA:Pos}{e e2:Expr}{t:TA}{td:TE}(hc:530)(hg:Gl X "min")(hm:X.mg "min"=none)(hg2:Gl X "len")(R6:X.mg "len"=none)(ha:PA X [e] t)(hd:PE X e2 td)
  (he:backTo pos (starEach [e] X.env)=(false,eval e X.env)::backTo pos (starEach [] X.env):=by rfl)(hp:(backTo pos (starEach [e] X.env)).any 27=false:=by rfl) :
  PE X (.Call (.Name "min" p) [e] [⟨some "key",.Name "len" lp,ZD⟩,⟨some "default",e2,JA⟩] pos) (Tb X.K t td):=by
 intro ag s σ H Q I h;refine nR (j9 I hg hm boot_min ?_);refine callWith_kw 648 he hp rfl rfl;obtain⟨vs,H1,I1,r1,q1⟩:=ba;refine kws_cons (j9 I1 hg2 R6 gI (kws_cons (cK (hd ag s1 σ H1 _ I1 q1) λu2 s2 ba=>?_)));obtain⟨dv,H2,I2,r2,a,ev,hs,q⟩:=ba;refine kws_nil ?_;subst ev;obtain⟨u,rfl,rx⟩:=vals1 r1;cases 713;obtain⟨aT,rv,pl,hz⟩:=I2.list hs;cases rv;exact u7 (I2.ok.hd hc) pl.isList λh' tk kk=>⟨dv,H2,I2.kept (t':=tk) kk,r2,q⟩
open PySem
def Gu {K:aY}{H:Hp}{p D:Addr}{ls:z0q}{σ:St}{x:Str}{Qp:106}(hp:H p=some (.lst (ls.map V.ref)))(hl:∀l∈ls,H l=some 103)(hD:H D=none)(q:∀H2,aD H H2->H2 D=some 103->Qp H2) :
  ∃W:Nat->490,833 /\
 ∀i m ys σ' H,529->((mI K p).stop i H/\Qp H)\/((mI K p).go i H/\∃m',m' < m/\∀x H',(mI K p).o7 i H x H'->dX 0 x σ' H' λσ2 H2=>hU 0 σ2 H2 λx H'=>∃k,Ky K x H' k/\(λb H3 =>
  if b=true then hU 0 σ2 H3 526 else 527) k H'):=by
 refine dB (tif:=λσ H Q=>hU 0 σ H λx H'=>∃k,Ky K x H' k/\Q k H') (xs:=ls.map V.ref) (λi ys σ2 H5=>ys=[]/\(∃y0,σ2=[y0])/\aD H H5/\H5 D=some 103) ⟨rfl,⟨none,rfl⟩,ah hD _,af⟩ (λi ys σ2 H5 _ h=>aX.of (h.2.2.1 _ _ hp)) (λi x ys σ2 H5 ex h=>?_) (λys σ2 H5 h=>?_)
 .obtain⟨rfl,⟨y0,rfl⟩,s5,e5⟩:=h;rw [bx] at ex;obtain⟨l,el,rfl⟩:=473;refine goN ?_;refine⟨_,rfl,false,.inl ⟨[],aX.of (s5 _ _ (hl l (cv el))),rfl⟩,?_⟩;refine kI ?_;exact⟨rfl,421,s5,e5⟩
 obtain⟨rfl,_,s5,e5⟩:=h;exact q H5 s5 e5
end L2
namespace fC
open PySem L2 M11
section
def KH (aa:56)(rk:Str->Nat):Prop:=∀aC,uO aa aC->vh aa aa.length aC->∀n k j,SH aa (hd aa) 534 n k j->∀ru z,aa[k]?=some ru->ru.2[j]?=some z->rk z < rk n
def HS (K:aY):Sp:=λvs H Q _=>∃(R:Addr)(rs:z0q)(aa:56)(rk:Str->Nat),vs=[.ref R]/\aX K H R 260/\520/\568/\547/\KH aa rk /\
 ∀(D:Addr)(H':Hp),H D=none->147->H' D=some 103->Q (.ref D) H'
def BX:aM ["rules","steps","loops"] 159 (ax H_):=417
def LZ (F:jo K "find_loop" "find_loop" H_ f fd)(T:Txt mg)(GS:aL P w K mg base 2 "steps_with_like_rows" 159 (DN K))(GW:aL P w K mg base 1 "way_back" ["rules","steps","name"] (Nw K)):bO P w K mg base gb 3 f fd 159 (HS K):=by
 refine F.ok BX 420 472
 .obtain⟨R,rs,aa,rk,rfl,_⟩:=h;rfl
 obtain⟨R,rs,aa,rk,rfl,hR,dA,bE,h8,hnl,q⟩:=h;refine⟨_,aj (aF (i:=1) BX.nd rfl (Or.inr rfl) (bZ GS hr rfl 497))
  (aj (j3 (iy:=2) ["name"] [(0,"rules"),(1,"steps")] BX.nd rfl rfl rfl (Ee 102) 487 nofun rfl nofun
   (λ_ _ _ _ _=>az (i:=0) (show (["name","rules","steps"]:z0t).Nodup by decide +kernel) rfl 68) 539
   (λ_ _ _ _ _=>bZ (GW.mono (by decide:1<=2)) hr rfl (ae 102 (ae (pv 2) 497))))
  (av (bS (LR rfl rfl T.min rfl T.len (ae (cm ["loop"] [] rfl (bP (pv 2)) 487 nofun rfl nofun
   (λ_ _ _ _ _=>az (i:=0) (show (["loop"]:z0t).Nodup by decide +kernel) rfl 68) (λ_ _ _ _ _=>j4 (Fq K 72 (λ_=>rfl))) (λ_ _ _ _ _=>pv 0)) ao) (dw ao))))),?_⟩
 nofun
 refine⟨_,rfl,R,rs,aa,rfl,hR,dA,bE,h8,λd ps st aC H1 fd1 s1 e1 S1 m1 Sj emp uh hits=>?_⟩;have lps:ps.length<=1000:=by
  have h1:=congrArg List.length m1;have h2:=jn 567 [];simp only [kq,ay] at h2;rw [ay] at h1;have h3:(hd aa).length=(yL [] 567).length:=rfl;omega
 have Xf:Down aa 545 st rk:=λn hn e he=>by
  rw [m1] at hn ⊢;have hit:=(hits n e.1 e.2 hn).mp he;obtain⟨ru,z,er,_,ez,hz,_⟩:=id hit;exact⟨ru,z,er,ez,hz,hnl aC emp uh n e.1 e.2 hit ru z er ez⟩
 refine⟨_,rfl,d,_,rfl,e1,λo D hD=>?_⟩;have RN:∀p∈ps,p.2≠d:=λp hp z=>by
  obtain⟨ts,a,_⟩:=S1.lst p hp;rw [z,e1] at a;cases a
 have s2:aD H (upd H1 d (.mD o 496)):=λb u hb=>by
  rw [ai (λz=>by rw [z,fd1] at hb;cases hb)];exact s1 b u hb
 have S2:Hl K ps st (upd H1 d (.mD o 496)) d:=⟨.inr ⟨o,af⟩,S1.n1,S1.n2,λp hp=>by
  obtain⟨ts,a,b⟩:=S1.lst p hp;exact⟨ts,by rw [ai (RN p hp)];exact a,Paired.cJ b λ_ _ z=>hV e1 z⟩⟩
 have e2:upd H1 d (.mD o 496) d=some (.mD o 496):=af;generalize upd H1 d (.mD o 496)=H2 at hD s2 S2 e2 ⊢;refine uu (λi ys σ2 H3=>∃ls:z0q,ys=ls.map V.ref/\ls.length=i/\(∀l∈ls,H3 l=some 103/\l≠D)/\(∃y0,σ2=[y0,aZ R,aZ d])/\aD H2 H3/\H3 D=some (.lst ys))
  ⟨[],rfl,rfl,58,⟨none,rfl⟩,ah hD _,af⟩ (λi ys σ2 H3 _ h=>?_) (λi kv ys σ2 H3 ex h=>?_) (λys σ2 H3 h=>?_)
 .obtain⟨_,_,_,_,_,sm,_⟩:=h;exact sm _ _ e2
 .obtain⟨ls,rfl,hls,hl,⟨y0,rfl⟩,sm,jx⟩:=h;rw [bx] at ex;obtain⟨p,ep,rfl⟩:=473;have hp:=cv ep;have li:=(a7.mp ep).1;refine goN (A7 ?_);have s3:=s2.trans sm;refine⟨_,rfl,_,rfl,_,rfl,R,d,rs,aa,ps,st,p.1,rk,rfl,s3.seq hR,dA.same s3,bE,S2.same sm,lps,ja hp,Xf,λD4 H4 f4 s4 e4=>?_⟩;have Hj:=s4 _ _ jx;have nD4:D4≠D:=λz=>by rw [z,jx] at f4;cases f4
  refine⟨Hj,507,ls++[D4],by rw [aP];rfl,by rw [bp,hls];rfl,λl R7=>?_,421,λb u hb=>?_,af⟩
  .rcases cw.mp R7 with h | h
   .obtain⟨a1,a2⟩:=hl l h;exact⟨by rw [ai a2];exact s4 _ _ a1,a2⟩
   rw [bj.mp h];exact⟨by rw [ai nD4];exact e4,nD4⟩
  rw [585];exact s4 _ _ (sm b u hb)
 obtain⟨ls,rfl,hls,hl,_,sm,jx⟩:=h;have s3:=s2.trans sm;refine⟨_,rfl,D,rfl,⟨_,aX.of jx⟩,λD5 Sf=>?_⟩;refine Gu jx (λl R7=>(hl l R7).1) Sf λH5 s5 e5=>?_;refine⟨Bu,λD6 hD6=>⟨D5,rfl,aX.of (ah hD6 _ _ _ e5),?_⟩⟩;exact q D6 _ ((s3.trans s5).free hD6) ((s3.trans s5).trans (ah hD6 _)) af
end
end fC
namespace L2
open PySem
def DC {K:aY}{T:Addr}{pos:Pos}{qu:Str}{H H':Hp}{a:Addr}{xs:84}(s:gi T H H')(t:Tab T pos qu H)(h:515):aU K H' a xs:=by
 obtain⟨ps,b,_⟩:=t;rcases h with (h | ⟨u,h⟩) | h
 .exact .inl (.inl (s _ _ (λz=>by rw [z,b] at h;cases h) h))
 .exact .inl (.inr ⟨u,s _ _ (λz=>by rw [z,b] at h;cases h) h⟩)
 exact .inr h
def DY {K:aY}{T:Addr}{pos:Pos}{qu:Str}{H H':Hp}{a:Addr}{xs:84}(s:gi T H H')(t:Tab T pos qu H)(h:aX K H a xs):aX K H' a xs:=by
 obtain⟨ps,b,_⟩:=t;rcases h with (h | ⟨u,h⟩) | h
 .exact .inl (.inl (s _ _ (λz=>by rw [z,b] at h;cases h) h))
 .exact .inl (.inr ⟨u,s _ _ (λz=>by rw [z,b] at h;cases h) h⟩)
 exact .inr h
def DF {T T':Addr}{pos pos':Pos}{qu KU:Str}{H H':Hp}(s:gi T H H')(t:Tab T pos qu H)(h:Tab T' pos' KU H)(n:T'≠T):Tab T' pos' KU H':=by
 obtain⟨ps,b,_⟩:=t;obtain⟨ps',a,o,c⟩:=h;refine⟨ps',s _ _ n a,o,c.imp id ?_⟩;rintro⟨c',e,g⟩;exact⟨c',e,s _ _ (λz=>by rw [z,b] at g;cases g) g⟩
def uo {K:aY}{H:Hp}{p D:Addr}{zs:z0t}{σ:St}{js:z0i}{cs:List (126)}{tif:TT}{te:TE}{Qp:106}(hσ:eV ["name"] js σ=none::cs)(hp:aX K H p 478)(hD:H D=none)
  (ht:∀z∈zs,∀H2 Q,aD H H2->Q false H2->tif (some (.str z)::cs) H2 Q)(q:∀H2,aD H H2->H2 D=some 103->Qp H2) :
  ∃W:Nat->490,(∃m,W 0 m [] (eV ["name"] js σ) 482) /\
 ∀i m ys σ' H,529->((mI K p).stop i H/\Qp H)\/((mI K p).go i H/\∃m',m' < m/\∀x H',(mI K p).o7 i H x H'->dX 0 x σ' H' λσ2 H2=>tif σ2 H2 λb H3 =>
  if b=true then te σ2 H3 526 else 527):=by
 refine dB (xs:=257) (λi ys σ2 H5=>ys=[]/\(∃y0,σ2=y0::cs)/\aD H H5/\H5 D=some 103) ⟨rfl,⟨none,hσ⟩,ah hD _,af⟩ (λi ys σ2 H5 _ h=>h.2.2.1.seq hp) (λi x ys σ2 H5 ex h=>?_) (λys σ2 H5 h=>?_)
 .obtain⟨rfl,⟨y0,rfl⟩,s5,e5⟩:=h;rw [bx] at ex;obtain⟨z,ez,rfl⟩:=473;refine goN ?_;refine ht z (cv ez) H5 _ s5 ?_;refine kI ?_;exact⟨rfl,421,s5,e5⟩
 obtain⟨rfl,_,s5,e5⟩:=h;exact q H5 s5 e5
end L2
namespace fC
open PySem L2 M11
section
structure Good (aa:56)(rk:Str->Nat)(b:Str->Int):Prop where
 least:881
 met:∀ng ms,aa[0]?=some ng->ng.1∈ms->KJ aa aa.length ms->∀h∈hd aa,h∈ms
 loop:KH aa rk
 bnd:AZ aa b
 most:∀h∈hd aa,b h<=60
def mH (T1 T2:Addr)(H H':Hp):Prop:=∀b o,b≠T1->b≠T2->H b=65->H' b=65
def sP (K:aY)(T1 T2:Addr):Sp:=λvs H Q _=>∃(R S:Addr)(rs ss:z0q)(aa str:56)(rk:Str->Nat)(b:Str->Int),vs=[.ref R,.ref S]/\aX K H R 260/\520/\568/\547/\aa≠[] /\
 aX K H S (ss.map V.ref)/\bY K H ss str/\str.length<=1000/\(∀ru∈str,ru.2.length<=8)/\(str.flatMap 105).Nodup/\Good aa rk b/\Tab T1 tO.2.2.2 A3 H/\Tab T2 CP.2.2.2 NQ H/\T1≠T2 /\
 ∀H',mH T1 T2 H H'->Tab T1 tO.2.2.2 A3 H'->Tab T2 CP.2.2.2 NQ H'->Q .gF H'
def hX:aM ["rules","strengths","least","endless","met","unmet","steps","greatest","vast"] ["rules","strengths"] (ax x9):=417
def Fy {T1 T2:Addr}{tm:Tok}(F:jo K "refuse_faults" "refuse_faults" x9 f fd)(T:Txt mg)(hM:mg "MOST_RULES"=some (.int 60 tm))(GT:aL P w K mg base 1 "refuse_twice" ["strengths"] (DM K))(GL:aL P w K mg base 3 "least_sizes" 159 (qV K T1))
  (GH:aL P w K mg base 1 "heads_of" 159 (lV K))(GM:aL P w K mg base 1 "names_met" 159 (Ny K))(GF:aL P w K mg base 3 "find_loop" 159 (HS K))(GG:aL P w K mg base 3 "greatest_empty_sizes" 159 (xQ K T2)) :
  bO P w K mg base gb 4 f fd ["rules","strengths"] (sP K T1 T2):=by
 refine F.ok hX 420 472
 .obtain⟨R,S,rs,ss,aa,str,rk,b,rfl,_⟩:=h;rfl
 obtain⟨R,S,rs,ss,aa,str,rk,b,rfl,hR,dA,bE,h8,p_,hS,R0,N2,ZX,ZW,gd,MK,QR,nT,q⟩:=h;have hu:=fc hr;refine⟨_,aj (dq (Cm (iW 72 (λ_=>rfl))) (av iY) bL)
  (aj (cY (bZ (GT.mono (by decide:1<=3)) hr rfl 556))
  (aj (aF (i:=2) hX.nd rfl (Or.inr rfl) (bZ GL hr rfl 497))
  (aj (j3 (iy:=3) ["name"] [(2,"least")] hX.nd rfl rfl rfl (bP (bZ (GH.mono (by decide:1<=3)) hr rfl 497)) 487 nofun rfl nofun
   (λ_ _ _ _ _=>az (i:=0) (show (["name","least"]:z0t).Nodup by decide +kernel) rfl 68) (λ_ _ _ _ _=>j4 (eM (de hu 72 102))) (λ_ _ _ _ _=>pv 0))
  (aj (dq (iW (pv 3) (λ_=>rfl)) (av iY) bL)
  (aj (aF (i:=4) hX.nd rfl (Or.inr rfl) (bZ (GM.mono (by decide:1<=3)) hr rfl 497))
  (aj (j3 (iy:=5) ["name"] [(4,"met")] hX.nd rfl rfl rfl (bP (bZ (GH.mono (by decide:1<=3)) hr rfl 497)) 487 nofun rfl nofun
   (λ_ _ _ _ _=>az (i:=0) (show (["name","met"]:z0t).Nodup by decide +kernel) rfl 68) (λ_ _ _ _ _=>j4 (eM (de hu 72 102))) (λ_ _ _ _ _=>pv 0))
  (aj (dq (iW (pv 5) (λ_=>rfl)) (av iY) bL)
  (aj (aF (i:=6) hX.nd rfl 68 (bZ GF hr rfl 497))
  (aj (dq (iW (pv 6) (λ_=>rfl)) (av iY) bL)
  (aj (aF (i:=7) hX.nd rfl (Or.inr rfl) (bZ GG hr rfl 497))
  (aj (j3 (iy:=8) ["name"] [(2,"least"),(7,"greatest")] hX.nd rfl rfl rfl (bP (bZ (GH.mono (by decide:1<=3)) hr rfl 497)) 487 nofun rfl nofun
   (λ_ _ _ _ _=>az (i:=0) (show (["name","least","greatest"]:z0t).Nodup by decide +kernel) rfl 68) (λ_ _ _ _ _=>j4 (cS zP (bo (Gw rfl) rfl T.max PyProof.Rows.boot_max (ae (d5 hu 102 72 109) (ae (IJ hu (pv 2) 72 aA ⟨rfl,rfl,rfl,rfl⟩) ao))) (gW (v:=.int 60) rfl hM ⟨tm,rfl⟩) (cT _))) (λ_ _ _ _ _=>pv 0))
  (av (dq (iW (pv 8) (λ_=>rfl)) (av iY) bL))))))))))))),?_⟩
 nofun
 have ll:=bf dA;obtain⟨ng,Mw⟩:∃ng,aa[0]?=some ng:=by
  cases aa with
  | nil=>exact absurd rfl p_
  | cons a r=>exact⟨a,rfl⟩
 have eR:(122).isEmpty=false:=by
  have l0:=(a7.mp Mw).1;cases rs with
  | nil=>simp at ll;omega
  | cons a r=>rfl
 refine⟨_,rfl,true,.inl ⟨_,hR,by rw [eR];rfl⟩,?_⟩;refine kI ?_;refine⟨_,rfl,S,ss,str,rfl,hS,R0,N2,ZX,ZW,λH1 s1=>?_⟩;have WG:=MK.same s1;have t21:=QR.same s1;refine⟨_,rfl,R,rs,aa,rfl,s1.seq hR,dA.same s1,bE,h8,WG,λdl kl ksl gl H2 fl s2 t12 el kkl vl stl sel _=>?_⟩;have K3:=DY s2 WG (s1.seq hR);have F6:=(dA.same s1).keep λ_ _ z=>DC s2 WG z;have t22:=DF s2 WG t21 nT.symm;have hl:=gd.least gl stl sel;have S02:mH T1 T2 H H2:=λb o n1 _ hb=>s2 b o n1 (s1 b o hb);refine⟨_,rfl,R,rs,aa,rfl,K3,F6,bE,λD3 H3 f3 s3 e3=>⟨D3,rfl,⟨_,aX.of e3⟩,λD4 hD4=>uo rfl (aX.of e3) hD4 (λz hz H' Q' s' hQ=>?_) λH4 s4 e4=>?_⟩⟩
 .obtain⟨n,en,_⟩:=hl z hz;have hg:b8 H' dl (.str z) (some (.int n)):=by
   have:=b8.k (k:=88) (s' _ _ (s3 _ _ el));rw [vl,en] at this;exact this
  exact⟨_,rfl,_,rfl,dl,_,rfl,hg,_,rfl,hQ⟩
 refine⟨_,rfl,false,.inl ⟨[],aX.of e4,rfl⟩,?_⟩;refine kI ?_;have Pg:=s3.trans s4;refine⟨_,rfl,R,rs,aa,ng,rfl,Pg.seq K3,F6.same Pg,Mw,bE,h8,λdm km ms H5 f5 s5 em kkm Lo _ mc5=>?_⟩;have YC:=Pg.trans s5;refine⟨_,rfl,R,rs,aa,rfl,YC.seq K3,F6.same YC,bE,λD6 H6 f6 s6 e6=>⟨D6,rfl,⟨_,aX.of e6⟩,λD7 hD7=>uo rfl (aX.of e6) hD7 (λz hz H' Q' s' hQ=>?_) λH7 s7 e7=>?_⟩⟩
 .have hm:=gd.met ng ms Mw Lo mc5 z hz;have hv:(aQ km 107).isSome=true:=by rw [dj,kkm];exact cC.mpr hm
  refine⟨_,rfl,_,rfl,dm,_,rfl,b8.k (k:=88) (s' _ _ (s6 _ _ em)),_,rfl,?_⟩;rw [hv];exact hQ
 refine⟨_,rfl,false,.inl ⟨[],aX.of e7,rfl⟩,?_⟩;refine kI ?_;have YB:=(YC.trans s6).trans s7;refine⟨_,rfl,R,rs,aa,rk,rfl,YB.seq K3,F6.same YB,bE,h8,gd.loop,λD8 H8 f8 s8 e8=>?_⟩;refine⟨_,rfl,false,.inl ⟨[],aX.of e8,rfl⟩,?_⟩;refine kI ?_;have NA:=YB.trans s8;have t18:=t12.same NA;have Tq:=t22.same NA;refine⟨_,rfl,R,rs,aa,b,rfl,NA.seq K3,F6.same NA,bE,h8,gd.bnd,Tq,λdg kg ksg gg H9 f9 s9 t29 eg kkg vg jg _ _=>?_⟩;have hR9:=DY s9 Tq (NA.seq K3);have ZY:=(F6.same NA).keep λ_ _ z=>DC s9 Tq z;have Yo:=DF s9 Tq t18 nT;have el8:=NA _ _ el;have el9:=s9 _ _ (λz=>by obtain⟨ps,a,_⟩:=Tq;rw [<-z,el8] at a;cases a) el8;refine⟨_,rfl,R,rs,aa,rfl,hR9,ZY,bE,λD10 vf f10 uJ Dh=>⟨D10,rfl,⟨_,aX.of Dh⟩,λD11 aak=>uo rfl (aX.of Dh) aak (λz hz H' Q' s' hQ=>?_) λG3 Fp K9=>?_⟩⟩
 .obtain⟨n,en,aa7⟩:=hl z hz;have MD:b8 H' dl (.str z) (some (.int n)):=by
   have:=b8.k (k:=88) (s' _ _ (uJ _ _ el9));rw [vl,en] at this;exact this
  have eg':=s' _ _ (uJ _ _ eg);obtain⟨v,hv1,hv2⟩:∃v:Int,((gg z).map V.int).getD (.int 0)=.int v/\v<=60:=by
   cases e:gg z with
   | none=>exact⟨0,rfl,nofun⟩
   | some v=>exact⟨v,rfl,Int.le_trans (jg z v e).2.1 (gd.most z hz)⟩
  have hg2:b8 H' dg (.str z) ((gg z).map V.int):=by
   have:=b8.k (k:=88) eg';rw [vg] at this;exact this
  refine⟨_,rfl,_,rfl,dl,_,rfl,MD,_,rfl,dg,rfl,.inl ⟨_,.inl eg'⟩,_,rfl,_,hg2,?_⟩;rw [hv1];refine⟨n,v,rfl,_,_,rfl,rfl,_,rfl,?_⟩;rw [gh (by split <;> omega)]
  exact hQ
 refine⟨_,rfl,false,.inl ⟨[],aX.of K9,rfl⟩,?_⟩;refine kI ?_;have Pe:=uJ.trans Fp;exact q G3 (λc o n1 n2 hc=>Pe c o (s9 c o n2 (NA c o (S02 c o n1 n2 hc)))) (Yo.same Pe) (t29.same Pe)
end
end fC
namespace M11
open PySem L2
abbrev Be:=Str×Str×Nat×Nat
def qY (bes:108):List (Str×Str):=bes.map λb=>(b.1,b.2.1)
def oO (bes:108)(n:Str):z0t:=(bes.filter λb=>decide (b.1=n)).map (·.2.1)
def jt (names:z0t)(bes:108)(z:Str):z0t:=if z∈names then oO bes z else [z]
inductive uP (aa:56) (names:z0t)(b:Str->Bool):108->Prop
 | nil:uP aa names b []
 | snoc {bes:108}{k j:Nat}{ru:aw}{z w:Str}:uP aa names b bes->aa[k]?=some ru->ru.2[j]?=some z->j < u5 b ru.2->w∈jt names bes z->(ru.1,w)∉qY bes->uP aa names b (bes++[(ru.1,w,k,j)])
def yF {bes:108}{n w:Str}:w∈oO bes n↔(n,w)∈qY bes:=by
 unfold oO qY;rw [a9,a9];constructor
 .rintro⟨b,hb,rfl⟩;obtain⟨h1,h2⟩:=i9.mp hb;exact⟨b,h1,by rw [dJ h2]⟩
 rintro⟨b,hb,e⟩;cases e;exact⟨b,i9.mpr ⟨hb,dS rfl⟩,rfl⟩
def EH (bes:108)(b:Be)(n:Str):oO (bes++[b]) n=oO bes n++(if b.1=n then [b.2.1] else []):=by
 unfold oO;rw [m_,aP];by_cases c:b.1=n
 .rw [ar c];simp [c]
 rw [aq c];simp [c]
end M11
namespace fC
open PySem L2 M11
def MY:Stmt->z0s
 | .ClassDef _ _ _ b _ _ _ _ _ _ _=>b
 | _=>[]
abbrev NO (st:Stmt) (i:Nat):Stmt:=(MY st).getD i (.Pass ⟨0,0,0,0⟩)
abbrev Ca:Stmt:=NO sY 0
abbrev Ib:Stmt:=NO sY 1
abbrev B5:Stmt:=NO sY 2
abbrev ye:Stmt:=NO zI 0
abbrev B4:Stmt:=NO zI 1
section
structure BC (K:aY)(C:Addr):Prop where
 cls:G4 K C
 a1:dO K C "empties"
 a2:dO K C "empty"
 a3:dO K C "begins"
 a4:dO K C "firsts"
structure o9 (K:aY)(C:Addr)(H0 H:Hp)(a e d bg:Addr)(kE:86)(aC:z0h)(ps:z0f)(bes:108):Prop where
 sm:aD H0 H
 ia:∃dx fs,H a=549/\fs.lookup ("empty":Str)=some (.ref e)/\fs.lookup ("begins":Str)=some (.ref bg)/\fs.lookup ("firsts":Str)=some (.ref d)/\fs.lookup ("find_begins":Str)=none/\901
 he:H e=some (.dK kE)
 hd:H d=some 496
 n1:(ps.map 27).Nodup
 n2:(ps.map 105).Nodup
 dk:∀p∈ps,(∃kvs,H p.2=375/\kvs.map 27=(oO bes p.1).map Sum.inr)/\H0 p.2=none/\p.2≠e/\p.2≠d
 lb:∃ts,H bg=480/\853
 fb:H0 bg=none
 em:∃e1 ts,(∃dx fs,H a=549/\fs.lookup ("empties":Str)=some (.ref e1))/\H e1=480/\oZ K H ts aC/\e1≠bg
def o9.same {C:Addr}{H0 H H':Hp}{a e d bg:Addr}{kE:86}{aC:z0h}{ps:z0f}{bes:108}(h:708)(s:147):o9 K C H0 H' a e d bg kE aC ps bes:=by
 refine⟨h.sm.trans s,?_,s _ _ h.he,s _ _ h.hd,h.n1,h.n2,λp hp=>?_,?_,h.fb,?_⟩
 .obtain⟨dx,fs,q,r,Pt,Pr,Pq,Pp⟩:=h.ia;exact⟨dx,fs,s _ _ q,r,Pt,Pr,Pq,Pp⟩
 .obtain⟨⟨kvs,q,r⟩,t⟩:=h.dk p hp;exact⟨⟨kvs,s _ _ q,r⟩,t⟩
 .obtain⟨ts,q,r⟩:=h.lb;exact⟨ts,s _ _ q,Paired.cJ r λ_ _ z=>s.tup z⟩
 obtain⟨e1,ts,⟨dx,fs,q1,q2⟩,q3,q4,q5⟩:=h.em;exact⟨e1,ts,⟨dx,fs,s _ _ q1,q2⟩,s _ _ q3,q4.keep λ_ _ z=>s.tup z,q5⟩
def xP (K:aY)(C:Addr):Sp:=λvs H Q _=>∃(H0:Hp)(a e d bg:Addr)(kE:86)(aC:z0h)(ps:z0f)(bes:108)(z:Str),vs=[91,.str z]/\708 /\
 ∀(D:Addr)(H':Hp),H D=none->147->H' D=some (.lst ((jt 545 bes z).map V.str))->Q (.ref D) H'
def Lv:aM ["self","part"] ["self","part"] (ax B5):=417
def Ja {C:Addr}(F:jo K "words_of_part" "BeginTable.words_of_part" B5 f fd)(T:Txt mg)(B:BC K C):bO P w K mg base gb 1 f fd ["self","part"] (xP K C):=by
 refine F.ok Lv 420 472
 .obtain⟨H0,a,e,d,bg,kE,aC,ps,bes,z,rfl,_⟩:=h;rfl
 obtain⟨H0,a,e,d,bg,kE,aC,ps,bes,z,rfl,S,q⟩:=h;have hu:=fc hr;obtain⟨dx,fs,ea,f1,f2,f3,f4,f5⟩:=S.ia;refine⟨_,av (bS (lF (eM (nh hu 102 528)) (bu (nJ rfl) rfl T.lst jO (ae (d5 hu 528 102 109) ao)) (dw 556))),?_⟩;dsimp only [Dj];have mem:(aQ (ps.map iz) 107).isSome=true↔z∈ps.map 27:=by rw [dj,iE];exact cC
 refine⟨_,rfl,_,rfl,a,C,dx,fs,_,rfl,ea,B.cls,B.a4,f3,d,_,rfl,b8.k (k:=88) S.hd,_,rfl,?_⟩;refine 566
 .have hz:=mem.mp c;obtain⟨p,hp,ep⟩:=a9.mp hz;obtain⟨⟨kvs,hk,kk⟩,_⟩:=S.dk p hp;have vn:=fM ps S.n1 p hp;rw [ep] at vn;have hg:b8 H d (.str z) (some (.ref p.2)):=by
   have:=b8.k (k:=88) S.hd;rw [vn] at this;exact this
  refine⟨_,rfl,a,C,dx,fs,_,rfl,ea,B.cls,B.a4,f3,_,rfl,d,_,rfl,hg,p.2,kvs,rfl,hk,λD hD=>?_⟩;refine q D _ hD (ah hD _) ?_;rw [af,keys_str kk,ep];unfold jt;rw [ar hz]
 refine⟨_,rfl,Lg,λD hD=>?_⟩;refine q D _ hD (ah hD _) ?_;rw [af];unfold jt;rw [aq (λh=>c (mem.mpr h))];rfl
def o9.more {C:Addr}{H0 H H2:Hp}{a e d bg t:Addr}{kE kvs:86}{aC:z0h}{ps:z0f}{bes:108}{p:Str×Addr}{wd:Str}{k j:Nat}{ts:z0q}(h:708)(hp:p∈ps)(hk:H p.2=375)(kk:kvs.map 27=(oO bes p.1).map Sum.inr)
  (hn:(p.1,wd)∉qY bes)(hb:H bg=480)(R_:853)
  (s:aD (upd H p.2 849) H2)(ht:aU K H2 t [.str p.1,.str wd,.int (k:Int),.int 124]) :
  o9 K C H0 (upd H2 bg (.lst (477++[.ref t]))) a e d bg kE aC ps (bes++[(p.1,wd,k,j)]):=by
 have WU:bg≠p.2:=λz=>by rw [z,hk] at hb;cases hb
 have MJ:H2 bg=480:=s _ _ (by rw [ai WU];exact hb);obtain⟨_,fp,npe,npd⟩:=h.dk p hp;have up:∀c o,c≠bg->c≠p.2->H c=65->upd H2 bg (.lst (477++[.ref t])) c=65:=λc o n1 n2 q=>by
  rw [ai n1];exact s _ _ (by rw [ai n2];exact q)
 refine⟨λc o hc=>up c o (λz=>by rw [z,h.fb] at hc;cases hc) (λz=>by rw [z,fp] at hc;cases hc) (h.sm c o hc),?_,up _ _ (λz=>by have:=h.he;rw [z,hb] at this;cases this) npe.symm h.he,up _ _ (λz=>by have:=h.hd;rw [z,hb] at this;cases this) npd.symm h.hd,h.n1,h.n2,λp' oH=>?_,⟨ts++[t],by rw [af,aP];rfl,?_⟩,h.fb,?_⟩
 .obtain⟨dx,fs,q,r,Pt,Pr,Pq,Pp⟩:=h.ia;exact⟨dx,fs,up _ _ (λz=>by rw [z,hb] at q;cases q) (λz=>by rw [z,hk] at q;cases q) q,r,Pt,Pr,Pq,Pp⟩
 .obtain⟨⟨nr,q,r⟩,t'⟩:=h.dk p' oH;refine⟨?_,t'⟩;by_cases z:p'=p
  .rw [z];refine⟨bB kvs (Sum.inr wd) (.bl true),by rw [ai WU.symm];exact s _ _ af,?_⟩;rw [jf (by rw [kk];exact λq=>hn (yF.mp (cC.mp q))),kk,EH,ar rfl,aP];rfl
  have n1:p'.1≠p.1:=λq'=>z (by
   have w1:=fM ps h.n1 p' oH;have w2:=fM ps h.n1 p hp;rw [q',w2] at w1;injection w1 with w3;injection w3 with w4;exact bV q' w4.symm)
  have n2:p'.2≠p.2:=λq'=>by
   obtain⟨i,hi,ei⟩:=qj.mp oH;obtain⟨j',hj,ej⟩:=qj.mp hp;have kJ:i=j':=by
    refine(pD (xs:=ps.map 105) (h₀:=by simpa using hi) (h₁:=by simpa using hj) h.n2).mp ?_;rw [kT,kT,ei,ej];exact q'
   subst kJ;exact z (ei.symm.trans ej)
  refine⟨nr,up _ _ (λz=>by rw [z,hb] at q;cases q) n2 q,?_⟩;rw [r,EH,aq (λq'=>n1 q'.symm),dG]
 .exact ff (Paired.cJ R_ λ_ _ z=>bK MJ (s.tup (hV hk z))) (bK MJ ht)
 obtain⟨e1,te,⟨dx,fs,q1,q2⟩,q3,q4,q5⟩:=h.em;exact⟨e1,te,⟨dx,fs,up _ _ (λz=>by rw [z,hb] at q1;cases q1) (λz=>by rw [z,hk] at q1;cases q1) q1,q2⟩,up _ _ q5 (λz=>by rw [z,hk] at q3;cases q3) q3,q4.keep λ_ _ z=>bK MJ (s.tup (hV hk z)),q5⟩
def QU (l m:108)(n:Str):oO (l++m) n=oO l n++oO m n:=by
 unfold oO;rw [m_,aP]
def Lj {names:z0t}(l m:108){z x:Str}(h:x∈jt names l z):x∈jt names (l++m) z:=by
 unfold jt at h ⊢
 split
 .rename_i c
  rw [ar c] at h;rw [QU];exact g_ _ h
 rename_i c
 rw [aq c] at h;exact h
def Ka (bes:108)(n:Str):(oO bes n).length<=bes.length:=by
 unfold oO;rw [ay];exact ql _ _
def Km {n i:Nat}(h:i < n):(cnt n)[i]?=some (141):=by
 unfold cnt;rw [bx,List.getElem?_range h];rfl
def rj (n:Nat):(cnt n).length=n:=by unfold cnt;rw [ay,iu]
def HU (K:aY)(C:Addr):Sp:=λvs H Q _=>∃(H0:Hp)(a e d bg r:Addr)(kE:86)(aC:z0h)(ps:z0f)(bes:108) (k:Nat)(ru:aw)(aa:56),vs=[91,.int (k:Int),.ref r]/\708/\E7 K H0 r ru/\aa[k]?=some ru/\ru.2.length<=8 /\
 ru.1∈ps.map 27/\(∀yP:108,uP aa 545 738 yP->yP.length<=900000)/\uP aa 545 738 bes /\
 ∀(yP:108)(H':Hp),o9 K C H0 H' a e d bg kE aC ps yP->uP aa 545 738 yP->bes.length<=yP.length->(yP.length=bes.length->yP=bes/\∀j z,j < u5 738 ru.2->ru.2[j]?=some z->∀wd∈jt 545 bes z,(ru.1,wd)∈qY bes)->Q .gF H'
def x5:aM ["self","number","rule","own","place","word"] ["self","number","rule"] (ax Ib):=417
def L0 {C fW:Addr}{Vu:FuncData}(F:jo K "find_begins" "BeginTable.find_begins" Ib f fd)(T:Txt mg)(B:BC K C)(GP:aL P w K mg base 1 "first_places" ["parts","empty"] (zC K))(FW:bO P w K mg base gb 1 fW Vu ["self","part"] (xP K C))(MW:Meth K C "words_of_part" fW)(BW:Binds K Vu ["self","part"] []) :
  bO P w K mg base gb 2 f fd ["self","number","rule"] (HU K C):=by
 refine F.ok x5 420 472
 .obtain⟨H0,a,e,d,bg,r,kE,aC,ps,bes,k,ru,aa,rfl,_⟩:=h;rfl
 obtain⟨H0,a,e,d,bg,r,kE,aC,ps,bes,k,ru,aa,rfl,S,⟨p,v1,v2⟩,er,h8,hh,hbd,aah,q⟩:=h;have hu:=fc hr;refine⟨_,aj (aF (i:=3) x5.nd rfl 68 (d5 hu 528 (bF bH (pv 2) aA 109) 109))
  (av (cP c_ rfl (bP (bZ GP hr rfl (ae (bF bH (pv 2) aA 109) 664))) (az (i:=4) x5.nd rfl 68)
   (av (cP c_ rfl (bP (ou 72 B.cls MW FW hr BW .nil mq (ae (bF bH (bF bH (pv 2) aA 109) (pv 4) 109) ao))) (az (i:=5) x5.nd rfl 68)
    (av (dq (eM (de hu (pv 5) (pv 3)))
     (aj (gC hu (pv 3) (pv 5) h_ rfl)
     (av (cY (jj iN kM kO df 528 (ae (bG (ae (bF bH (pv 2) aA 109) (ae (pv 5) (ae 102 (ae (pv 4) ao))))) ao))))) bL)))))),?_⟩
 nofun
 obtain⟨pn,Ad,A_⟩:=a9.mp hh;have vn:=fM ps S.n1 pn Ad;rw [A_] at vn;obtain⟨dx,fs,ea,f1,f2,f3,f4,f5⟩:=S.ia;have hg:b8 H d (.str ru.1) (some (.ref pn.2)):=by
  have:=b8.k (k:=521) S.hd;rw [vn] at this;exact this
 refine⟨_,rfl,a,C,dx,fs,_,rfl,ea,B.cls,B.a4,f3,_,rfl,r,_,_,_,rfl,rfl,S.sm.tup v1,rfl,d,_,rfl,hg,?_⟩;refine⟨_,rfl,r,_,_,_,rfl,rfl,S.sm.tup v1,rfl,_,rfl,a,C,dx,fs,_,rfl,ea,B.cls,B.a2,f1,p,e,ru.2,kE,rfl,S.sm.tup v2,∅,S.he,λD5 H5 f6 s5 e5=>⟨D5,rfl,⟨_,aX.of e5⟩,?_⟩⟩;obtain⟨ts0,QP,_⟩:=S.lb;have nDb:D5≠bg:=λz=>by rw [z,QP] at f6;cases f6
 have fle:=C_ 738 ru.2;generalize hb:738=b at *;generalize hn:u5 b ru.2=n at *
 let Dv:Dw:=λi σ H6=>∃(dQ:108)(y4 y5:126),σ=[aZ a,some (.int (k:Int)),aZ r,some (.ref pn.2),y4,y5]/\o9 K C H0 H6 a e d bg kE aC ps dQ/\H6 D5=some (.lst (cnt n))/\uP aa 545 b dQ/\bes.length<=dQ.length /\
  (dQ.length=bes.length->dQ=bes/\∀j z,j < i->ru.2[j]?=some z->∀wd∈jt 545 bes z,(ru.1,wd)∈qY bes)
 refine du (xs:=cnt n) Dv ⟨bes,none,none,rfl,S.same s5,e5,aah,aE _,λ_=>⟨rfl,λj z hj=>121⟩⟩ ?_ ?_ ?_
 .rintro i σ H6 _ ⟨dQ,y4,y5,rfl,S2,e6,_⟩;exact aX.of e6
 .intro i x σ H6 ex Vo
  ac_nf0
  obtain⟨dQ,y4,y5,rfl,S2,e6,bg2,l2,c2⟩:=Vo;have li:i < n:=by have:=(a7.mp ex).1;rw [rj] at this;exact this
  rw [Km li] at ex;cases ex;have lz:i < ru.2.length:=121
  obtain⟨z,ez⟩:∃z,ru.2[i]?=some z:=⟨ru.2[i],cx lz⟩;have M4:Bc (ru.2.map V.str) (i:Int)=some (.str z):=eh (by rw [bx,ez];rfl);obtain⟨Rg,rg,Q_,g1,g2,g3,g4,g5⟩:=S2.ia;refine goN ?_
  ac_nf
  refine⟨_,rfl,a,Rg,rg,rfl,Q_,g5.1,_,rfl,r,_,_,_,rfl,rfl,S2.sm.tup v1,rfl,_,rfl,p,_,_,_,rfl,rfl,S2.sm.tup v2,M4,H0,a,e,d,bg,kE,aC,ps,dQ,z,rfl,S2,λD6 H7 f7 s7 e7=>⟨D6,rfl,⟨_,aX.of e7⟩,?_⟩⟩;obtain⟨qp,MJ,_⟩:=S2.lb;have nD6:D6≠bg:=λz=>by rw [z,MJ] at f7;cases f7
  generalize Qq:jt 545 dQ z=ws at *
  let Nh:Dw:=λm σ H8=>∃(l:108)(y5:126),σ=[aZ a,some (.int (k:Int)),aZ r,some (.ref pn.2),some (141),y5]/\o9 K C H0 H8 a e d bg kE aC ps (dQ++l)/\H8 D5=some (.lst (cnt n))/\H8 D6=some (.lst (ws.map V.str))/\uP aa 545 b (dQ++l) /\
   (l=[]->∀wd∈ws.take m,(ru.1,wd)∈qY dQ)
  refine du (xs:=ws.map V.str) Nh ⟨[],_,rfl,by rw [dG];exact S2.same s7,s7 _ _ e6,e7,by rw [dG];exact bg2,λ_ wd h=>by simp at h⟩ ?_ ?_ ?_
  .rintro m σ H8 _ ⟨l,y5,rfl,S3,e8,e9,_⟩;exact aX.of e9
  .intro m x σ H8 ex Vo
   ac_nf0
   obtain⟨l,y5,rfl,S3,e8,e9,VW,c3⟩:=Vo;rw [bx] at ex;obtain⟨wd,ew,rfl⟩:=473;obtain⟨⟨kvs,hk,kk⟩,fp,npe,npd⟩:=S3.dk pn Ad;obtain⟨OR,Xh,Vi⟩:=S3.lb;have lim:=hbd _ VW;have ltk:kvs.length<=900000:=by
    have h1:=congrArg List.length kk;rw [ay,ay] at h1;have:=Ka (dQ++l) pn.1;omega
   have ltt:=bf Vi;have mem:(aQ kvs (Sum.inr wd)).isSome=true↔(ru.1,wd)∈qY (dQ++l):=by rw [dj,kk,cC,yF,A_]
   refine goN ?_
   ac_nf
   refine⟨_,rfl,_,rfl,pn.2,_,rfl,b8.k (k:=Sum.inr wd) hk,_,rfl,?_⟩;refine 566
   .have nm:(ru.1,wd)∉qY (dQ++l):=λh=>by rw [mem.mpr h] at c;exact absurd c nofun
    refine⟨_,rfl,_,rfl,_,_,rfl,ma.k (k:=Sum.inr wd) hk (bX ∅),?_⟩;obtain⟨dx3,K7,ea3,k1,k2,k3,k4,k5⟩:=S3.ia;have nap:a≠pn.2:=λz=>by rw [z,hk] at ea3;cases ea3
    have WU:bg≠pn.2:=λz=>by rw [z,hk] at Xh;cases Xh
    have Q9:upd H8 pn.2 849 a=some (.ins C dx3 K7):=by rw [ai nap];exact ea3
    have hb4:upd H8 pn.2 849 bg=some (.lst (OR.map V.ref)):=by rw [ai WU];exact Xh
    refine⟨_,rfl,a,C,dx3,K7,_,rfl,Q9,B.cls,B.a3,k2,.inl ⟨rfl,_,aX.of hb4⟩,_,rfl,r,_,_,_,rfl,rfl,hV hk (S3.sm.tup v1),rfl,_,rfl,_,rfl,_,rfl,zl4,λt4 uW=>?_⟩;have s4:=ah uW (.tup [.str ru.1,.str wd,.int (k:Int),141]);have e4:aU K (upd (upd H8 pn.2 849) t4 (.tup [.str ru.1,.str wd,.int (k:Int),141])) t4 [.str ru.1,.str wd,.int (k:Int),141]:=aU.of af;generalize upd (upd H8 pn.2 849) t4 (.tup [.str ru.1,.str wd,.int (k:Int),141])=H9 at s4 e4;refine⟨bg,_,_,rfl,rfl,s4 _ _ hb4,507,?_⟩;have nm':(pn.1,wd)∉qY (dQ++l):=by rw [A_];exact nm
    have S4:=S3.more (k:=k) (j:=i) Ad hk kk nm' Xh Vi s4 (by rw [A_];exact e4);have NY:∀D ys,H8 D=some (.lst ys)->D≠bg->upd H9 bg (.lst (OR.map V.ref++[.ref t4])) D=some (.lst ys):=λD ys hD nb=>by
     rw [ai nb];exact s4 _ _ (by rw [ai (λz=>by rw [z,hk] at hD;cases hD)];exact hD)
    rw [dH,A_] at S4;refine⟨l++[(ru.1,wd,k,i)],_,rfl,S4,NY _ _ e8 nDb,NY _ _ e9 nD6,?_,λh=>by simp at h⟩;rw [<-dH];refine .snoc VW er ez (by rw [hn];exact li) (Lj dQ l (by rw [Qq];exact cv ew)) nm
   refine⟨l,_,rfl,S3,e8,e9,VW,λhl x hx=>?_⟩;rw [di,ew] at hx;rcases cw.mp hx with h | h
   .exact c3 hl x h
   rw [Option.toList_some,bj] at h;subst h;have hm:(ru.1,x)∈qY (dQ++l):=mem.mp (by
    cases hq:(aQ kvs (Sum.inr x)).isSome with
    | true=>rfl
    | false=>exact absurd (by rw [hq];rfl) c)
   rw [hl,dG] at hm;exact hm
  rintro σ H8 ⟨l,y5,rfl,S3,e8,e9,VW,c3⟩;rw [ay,dW] at c3;refine⟨dQ++l,_,_,rfl,S3,e8,VW,642,λU3=>?_⟩;rw [bp] at U3;have W9:l=[]:=List.length_eq_zero_iff.mp ∅;obtain⟨Vk,nP⟩:=c2 ∅;rw [W9,dG];refine⟨Vk,λj z' hj ez' wd hwd=>?_⟩;by_cases cj:j < i
  .exact nP j z' cj ez' wd hwd
  have:j=i:=121
  subst this;rw [ez] at ez';cases ez';have:=c3 W9 wd (by rw [<-Qq,Vk];exact hwd);rw [Vk] at this;exact this
 rintro σ H6 ⟨dQ,y4,y5,rfl,S2,e6,bg2,l2,c2⟩;rw [rj] at c2;exact q dQ H6 S2 bg2 l2 c2
end
end fC
namespace L2
open PySem M11
def Av {K:aY}{H:Hp}{p D:Addr}{zs:z0t}{σ:St}{x:Str}{Qp:106}(hp:aX K H p 478)(hz:zs.length<=10000)(hD:H D=none)
  (q:∀ts (ps:z0f) H2,aD H H2->H2 D=480->ps.map 27=zs->862->(∀p∈ps,H2 p.2=some 418/\H p.2=none/\p.2≠D)->(ps.map 105).Nodup->Qp H2) :
  ∃W:Nat->490,833 /\
 ∀i m ys σ' H,529->((mI K p).stop i H/\Qp H)\/((mI K p).go i H/\∃m',m' < m/\∀x H',(mI K p).o7 i H x H'->dX 0 x σ' H' λσ2 H2=>jd σ2 H2 λb H3 =>
  if b=true then uR (gu (hU 0) (gu (HM) qH)) σ2 H3 526 else 527):=by
 refine dB (xs:=257) (λi ys σ2 H2=>∃(ts:z0q)(ps:z0f),ys=477/\ts.length=i/\ps.map 27=zs.take i/\862 /\
   (∀p∈ps,H2 p.2=some 418/\H p.2=none/\p.2≠D)/\(ps.map 105).Nodup/\(∃y0,σ2=[y0])/\618)
  ⟨[],[],rfl,rfl,rfl,.nil,58,58,⟨none,rfl⟩,ah hD _,af⟩ (λi ys σ2 H2 _ h=>?_) 657 621
 .obtain⟨_,_,_,_,_,_,_,_,_,sm,_⟩:=h;exact sm.seq hp
 .obtain⟨ts,ps,rfl,ht,hm,Ac,hl,hn,⟨y0,rfl⟩,sm,hd⟩:=h;rw [bx] at ex;obtain⟨z,ez,rfl⟩:=473;have li:=(a7.mp ez).1;refine goN (A7 ?_);refine⟨_,rfl,λl uY=>⟨qF,λt jl=>?_⟩⟩;have P1:l≠D:=(aB hd uY).symm;have nt:t≠l:=λe=>by rw [e,af] at jl;cases jl
  have JI:H2 t=none:=by rw [ai nt] at jl;exact jl
  have ntD:t≠D:=(aB hd JI).symm;have i7:aD H2 (upd (upd H2 l 418) t (.tup [.str z,.ref l])):=(ah uY _).trans (ah jl _);have jx:=i7 _ _ hd;have el:upd (upd H2 l 418) t (.tup [.str z,.ref l]) l=some 418:=by rw [ai nt.symm,af]
  have et:aU K (upd (upd H2 l 418) t (.tup [.str z,.ref l])) t [.str z,.ref l]:=aU.of af;generalize upd (upd H2 l 418) t (.tup [.str z,.ref l])=H4 at i7 jx el et;refine⟨jx,507,ts++[t],ps++[(z,l)],by rw [aP];rfl,by rw [bp,ht];rfl,by rw [aP,hm,di,ez];rfl,?_,?_,?_,421,?_,af⟩
  .exact ff (Paired.cJ Ac λt' h' z=>bK jx (i7.tup z)) (bK jx et)
  .intro p' oH;rcases cw.mp oH with h | h
   .obtain⟨a1,a2,a3⟩:=hl p' h;exact⟨by rw [ai a3];exact i7 _ _ a1,a2,a3⟩
   rw [bj.mp h];exact⟨by rw [ai P1];exact el,sm.free uY,P1⟩
  .rw [aP];refine iM.mpr ⟨hn,58,λa ha b hb e=>?_⟩;rw [pH,bj] at hb;obtain⟨p',oH,rfl⟩:=a9.mp ha;have:=(hl p' oH).1;rw [e,hb] at this;rw [show H2 l=none from uY] at this;cases this
  intro b o hb;rw [585];exact i7 _ _ (sm b o hb)
 obtain⟨ts,ps,rfl,ht,hm,Ac,hl,hn,_,sm,hd⟩:=h;rw [ay,dW] at hm;exact q ts ps H2 sm hd hm Ac hl hn
def gw {K:aY}{H:Hp}{D a C dx:Addr}{xs:84}{fs:501}{o:HO}(hD:H D=549)(h:515):aU K (upd H D o) a xs:=by
 rcases h with (h | ⟨u,h⟩) | h
 .exact .inl (.inl (780))
 .exact .inl (.inr ⟨u,780⟩)
 exact .inr h
def Au {K:aY}{H:Hp}{R D:Addr}{rs:z0q}{es:z0h}{σ:St}{x1 x2:Str}{Qp:106}(hR:aX K H R 260)(dA:Paired (λt (e:Str×Nat)=>aU K H t [.str e.1,.int (e.2:Int)]) rs es)(bE:es.length<=1000)(hD:H D=none)
  (q:∀ts H2,aD H H2->H2 D=480->Paired (λt h=>aU K H2 t [.str h,.bl true]) ts (es.map 27)->Qp H2) :
  ∃W:Nat->490,(∃m,W 0 m [] (eV [x1,x2] [] σ) 482) /\
 ∀i m ys σ' H,529->((mI K R).stop i H/\Qp H)\/((mI K R).go i H/\∃m',m' < m/\∀x H',(mI K R).o7 i H x H'->Ge K 2 (lM (dX 0) (lM (dX 1) J_)) x σ' H' λσ2 H2=>jd σ2 H2 λb H3 =>
  if b=true then uR (gu (hU 0) (gu (tC (.bl true)) qH)) σ2 H3 526 else 527):=by
 have ll:=bf dA;refine dB (xs:=122) (λi ys σ2 H2=>∃ts:z0q,ys=477/\ts.length=i/\Paired (λt h=>aU K H2 t [.str h,.bl true]) ts ((es.take i).map 27)/\(∃y0 y1,σ2=[y0,y1])/\618)
  ⟨[],rfl,rfl,.nil,⟨none,none,rfl⟩,ah hD _,af⟩ (λi ys σ2 H2 _ h=>?_) 657 621
 .obtain⟨_,_,_,_,_,sm,_⟩:=h;exact sm.seq hR
 .obtain⟨ts,rfl,ht,hp,⟨y0,y1,rfl⟩,sm,hd⟩:=h;rw [bx] at ex;obtain⟨r,er,rfl⟩:=473;have lr:=(a7.mp er).1;obtain⟨ru,e1⟩:∃ru,es[i]?=some ru:=⟨es[i]'∅,cx ∅⟩;obtain⟨r',VG,v1⟩:=Paired.at_ dA i ru e1;rw [er] at VG;cases VG;have li:=(a7.mp e1).1;refine⟨r,_,rfl,sm.tup v1,rfl,_,_,rfl,_,_,rfl,rfl,?_⟩;refine A7 ?_;refine⟨_,rfl,qF,λt jl=>⟨?_,507,ts++[t],?_,?_,?_,⟨_,_,rfl⟩,?_,af⟩⟩
  .rw [ai (aB hd jl)];exact hd
  .rw [aP];rfl
  .rw [bp,ht];rfl
  .rw [di,e1,aP];have jx:upd H2 t (.tup [.str ru.1,.bl true]) D=480:=by rw [ai (aB hd jl)];exact hd
   exact ff (Paired.cJ hp λt' h' z=>bK jx ((ah jl _).tup z)) (bK jx (aU.of af))
  intro b o hb;rw [585];exact ah jl _ _ _ (sm b o hb)
 obtain⟨ts,rfl,ht,hp,_,sm,hd⟩:=h;rw [ay,ll,dW] at hp;exact q ts H2 sm hd hp
end L2
namespace M11
open PySem L2
def uP.sub {aa:56}{names:z0t}{b:Str->Bool}{bes:108}(h:uP aa names b bes):∀q∈qY bes,q.1∈aa.map 27/\q.2∈aa.flatMap 105:=by
 induction h with
 | nil=>intro q hq;cases hq
 | @snoc bes k j ru z wd hb er ez _ hw _ ih =>
  intro q hq;unfold qY at hq;rw [aP] at hq;rcases cw.mp hq with hq | hq
  .exact ih q hq
  rw [pH,bj] at hq;rw [hq];have hm:=cv er;refine⟨ja hm,?_⟩;unfold jt at hw
  split at hw
  .exact(ih (z,wd) (yF.mp hw)).2
  rw [bj.mp hw];exact iK.mpr ⟨ru,hm,cv ez⟩
def uP.nd {aa:56}{names:z0t}{b:Str->Bool}{bes:108}(h:uP aa names b bes):(qY bes).Nodup:=by
 induction h with
 | nil=>exact eG
 | @snoc bes k j ru z wd hb er ez _ hw hn ih =>
  unfold qY;rw [aP];refine iM.mpr ⟨ih,58,λx hx y hy e=>?_⟩;rw [pH,bj] at hy;rw [e,hy] at hx;exact hn hx
theorem lD (m:z0t):∀l:z0t,(l.flatMap λn=>m.map λwd=>(n,wd)).length=l.length * m.length
 | []=>58
 | n::l=>by
  rw [kU,bp,lD m l,ay,cf,Nat.add_mul];omega
def uP.len {aa:56}{names:z0t}{b:Str->Bool}{bes:108}(h:uP aa names b bes)(hl:aa.length<=100)(h8:∀ru∈aa,ru.2.length<=8):bes.length<=80000:=by
 have h1:=gP (qY bes) ((aa.map 27).flatMap λn=>(aa.flatMap 105).map λwd=>(n,wd)) h.nd λq hq=>by
  obtain⟨a,c⟩:=h.sub q hq;exact iK.mpr ⟨q.1,a,a9.mpr ⟨q.2,c,rfl⟩⟩
 rw [lD] at h1;have h2:=fC.jN aa 100 hl h8;unfold qY at h1;rw [ay,ay] at h1;have h3:aa.length * (aa.flatMap 105).length<=100 * 800:=Nat.mul_le_mul hl h2;omega
def G7 (aa:56) (names:z0t)(b:Str->Bool) (n:Nat)(bes:108):Prop:=∀k ru,k < n->aa[k]?=some ru->∀j z,j < u5 b ru.2->ru.2[j]?=some z->∀wd∈jt names bes z,(ru.1,wd)∈qY bes
end M11
namespace fC
open PySem L2 M11
section
def DV (K:aY)(C:Addr):Sp:=λvs H Q _=>∃(H0:Hp)(a dx R:Addr)(rs:z0q)(aa:56),vs=[91,.ref R]/\aD H0 H/\H0 a=none/\H a=some (.ins C dx [])/\aX K H0 R 260/\bY K H0 rs aa/\aa.length<=100/\547 /\
 ∀(e d bg:Addr)(kE:86)(aC:z0h)(ps:z0f)(bes:108)(H':Hp),o9 K C H0 H' a e d bg kE aC ps bes->ps.map 27=hd aa->uO aa aC->vh aa aa.length aC->(∀z,634=decide (z∈aC.map 27)) ->
  uP aa (hd aa) 534 bes->G7 aa (hd aa) 534 aa.length bes->Q .gF H'
def oi:aM ["self","rules","number","many","rule"] ["self","rules"] (ax Ca):=417
def Jj {C fF:Addr}{Vv:FuncData}(F:jo K "__init__" "BeginTable.__init__" Ca f fd)(T:Txt mg)(B:BC K C)(GE:aL P w K mg base 1 "found_empties" 159 (pP K))(GH:aL P w K mg base 1 "heads_of" 159 (lV K))
  (FF:bO P w K mg base gb 2 fF Vv ["self","number","rule"] (HU K C))(MF:Meth K C "find_begins" fF)(BF:Binds K Vv ["self","number","rule"] []):bO P w K mg base gb 3 f fd ["self","rules"] (DV K C):=by
 refine F.ok oi 420 472
 .obtain⟨H0,a,dx,R,rs,aa,rfl,_⟩:=h;rfl
 obtain⟨H0,a,dx,R,rs,aa,rfl,s0,f0,ea,hR,dA,bE,h8,q⟩:=h;refine⟨_,aj (gy 72 (bZ (GE.mono (by decide:1<=2)) hr rfl 556) rfl)
  (aj (gy 72 (bu (d8 rfl) rfl T.ET fY (ae (cm ["name","number"] [] rfl (bP 528) 487 nofun rfl nofun
   (λ_ _ _ _ _=>jh (n:=2) K rfl (aH (az (i:=0) (show (["name","number"]:z0t).Nodup by decide +kernel) rfl 68) (aH (az (i:=1) (show (["name","number"]:z0t).Nodup by decide +kernel) rfl 68) cI))) 539
   (λ_ _ _ _ _=>bG (ae 72 (ae h_ ao)))) ao)) rfl)
  (aj (gy 72 (dw ao) rfl)
  (aj (gy 72 (bu (d8 rfl) rfl T.ET fY (ae (cm ["name"] [] rfl (bP (bZ (GH.mono (by decide:1<=2)) hr rfl 556)) 487 nofun rfl nofun
   876 539
   (λ_ _ _ _ _=>bG (ae 72 (ae fV ao)))) ao)) rfl)
  (aj (aF (i:=3) oi.nd rfl 68 (NG HG aA))
  (av (iX c_ (cS ow (pv 3) (bo bC rfl T.len gI 664) (cT _))
   (aj (aF (i:=3) oi.nd rfl 68 (bo bC rfl T.len gI 664))
   (av (cP c_ rfl (ot rfl T.MP 556) (gE rfl (aH (az (i:=2) oi.nd rfl 68) (aH (az (i:=4) oi.nd rfl 68) cI)))
    (av (cY (ou 72 B.cls MF FF hr BF .nil mq (ae (pv 2) (ae (pv 4) ao)))))))))))))),?_⟩
 nofun
 have ll:=bf dA;refine⟨_,rfl,R,rs,aa,rfl,s0.seq hR,dA.same s0,∅,h8,λD1 Fi aC H1 f1 s1 e1 w1 emp uh=>?_⟩;have ea1:=s1 _ _ ea;refine⟨_,rfl,a,C,dx,[],rfl,ea1,B.cls,B.a1,(by show 0 < 1000;decide),?_⟩;have e2:upd H1 a 790 D1=some (.lst (Fi.map V.ref)):=by rw [ai (λz=>by rw [z,ea1] at e1;cases e1)];exact e1
 have w2:oZ K (upd H1 a 790) Fi aC:=w1.keep λ_ _ z=>gw ea1 z;have Pk:aD H0 (upd H1 a 790):=λc o hc=>by rw [755];exact s1 _ _ (s0 c o hc)
 have Q_:upd H1 a 790 a=some 790:=af;generalize upd H1 a 790=H2 at e2 w2 Pk Q_;have lets:=emp.len;refine⟨_,rfl,a,C,dx,_,_,rfl,Q_,B.cls,B.a1,rfl,D1,rfl,⟨_,aX.of e2⟩,λD2 qb=>Au (aX.of e2) w2 ∅ qb λqp H3 s3 e3 p3=>?_⟩;have kp:Paired (λt (kv:aI×V)=>aU K H3 t [kV kv.1,kv.2]) qp ((aC.map 27).map 675):=cM p3 479;refine⟨D2,qp,_,rfl,e3,kp,λe he=>?_⟩;have FP:∀z,(aQ (cR ((aC.map 27).map 675) []) 107).isSome=decide (z∈aC.map 27):=λz=>by
  rw [sC];by_cases c:z∈aC.map 27
  .rw [ar c,dS c];rfl
  rw [aq c,gh c];rfl
 generalize cR ((aC.map 27).map 675) []=kE at FP;have s04:=(Pk.trans s3).trans (ah he (.dK kE));have Q9:=ah he (.dK kE) _ _ (s3 _ _ Q_);have Xv:upd H3 e (.dK kE) e=some (.dK kE):=af;have Pg:aD H2 (upd H3 e (.dK kE)):=s3.trans (ah he (.dK kE));generalize upd H3 e (.dK kE)=H4 at s04 Q9 Xv Pg;have dE4:=Pg _ _ e2;have wE4:oZ K H4 Fi aC:=w2.keep λ_ _ z=>Pg.tup z;refine⟨_,rfl,a,C,dx,_,rfl,Q9,B.cls,B.a2,(by show 1 < 1000;decide),?_⟩;generalize hf5:dN "empty" (.ref e) (dN "empties" (.ref D1) [])=wg;have VJ:upd H4 a (.ins C dx wg) e=some (.dK kE):=by rw [ai (λz=>by rw [z,Q9] at Xv;cases Xv)];exact Xv
 have YE:aD H0 (upd H4 a (.ins C dx wg)):=λc o hc=>by rw [755];exact s04 c o hc
 have ea5:upd H4 a (.ins C dx wg) a=some (.ins C dx wg):=af;have dE5:upd H4 a (.ins C dx wg) D1=some (.lst (Fi.map V.ref)):=by rw [ai (λz=>by rw [z,Q9] at dE4;cases dE4)];exact dE4
 have wE5:oZ K (upd H4 a (.ins C dx wg)) Fi aC:=wE4.keep λ_ _ z=>gw Q9 z;generalize upd H4 a (.ins C dx wg)=H5 at VJ YE ea5 dE5 wE5;refine⟨Bu,λbg QN=>?_⟩;have fbg:H0 bg=none:=YE.free QN;have Xw:upd H5 bg 103 bg=some 103:=af;have s06:=YE.trans (ah QN 103);have Q7:=ah QN 103 _ _ VJ;have Sw:=ah QN 103 _ _ ea5;have Zh:D1≠bg:=aB dE5 QN;have XC:=ah QN 103 _ _ dE5;have wE6:oZ K (upd H5 bg 103) Fi aC:=wE5.keep λ_ _ z=>(ah QN 103).tup z;generalize upd H5 bg 103=H6 at Xw s06 Q7 Sw XC wE6;refine⟨_,rfl,a,C,dx,_,rfl,Sw,B.cls,B.a3,(by rw [<-hf5];show 2 < 1000;decide),?_⟩;generalize hf7:dN "begins" (.ref bg) wg=MM;have Q6:upd H6 a (.ins C dx MM) e=some (.dK kE):=by rw [ai (λz=>by rw [z,Sw] at Q7;cases Q7)];exact Q7
 have eb7:upd H6 a (.ins C dx MM) bg=some 103:=by rw [ai (λz=>by rw [z,Sw] at Xw;cases Xw)];exact Xw
 have Pj:aD H0 (upd H6 a (.ins C dx MM)):=λc o hc=>by rw [755];exact s06 c o hc
 have ea7:upd H6 a (.ins C dx MM) a=some (.ins C dx MM):=af;have dE7:upd H6 a (.ins C dx MM) D1=some (.lst (Fi.map V.ref)):=by rw [ai (λz=>by rw [z,Sw] at XC;cases XC)];exact XC
 have wE7:oZ K (upd H6 a (.ins C dx MM)) Fi aC:=wE6.keep λ_ _ z=>gw Sw z;generalize upd H6 a (.ins C dx MM)=H7 at Q6 eb7 Pj ea7 dE7 wE7;refine⟨_,rfl,R,rs,aa,rfl,Pj.seq hR,dA.same Pj,∅,λD4 H8 f8 s8 e8=>?_⟩;have Qb:=jn 567 [];simp only [kq,ay] at Qb;refine⟨D4,rfl,⟨_,aX.of e8⟩,λD5 Sf=>Av (aX.of e8) ∅ Sf λts ps H9 s9 e9 m9 p9 l9 n9=>?_⟩;have n1:(ps.map 27).Nodup:=by rw [m9];exact qe _ eG
 have JA:Paired (λt (kv:aI×V)=>aU K H9 t [kV kv.1,kv.2]) ts (ps.map iz):=cM p9 479;refine⟨D5,ts,_,rfl,e9,JA,λd kF=>?_⟩;have VH:cR (ps.map iz) []=ps.map iz:=oP _ [] (by
  rw [mU,iE];exact yr n1)
 rw [VH];have RI:=s8.trans s9;have sd:=ah kF 496;have Cc:=RI.trans sd;have qO:upd H9 d 496 d=some 496:=af;have P9:∀p∈ps,upd H9 d 496 p.2=some 418/\p.2≠d:=λp hp=>⟨sd _ _ (l9 p hp).1,λz=>by have:=(l9 p hp).1;rw [z,kF] at this;cases this⟩;generalize upd H9 d 496=vf at Cc qO P9;have Dg:=Cc _ _ ea7;have yJ:=Cc _ _ Q6;have Q8:=Cc _ _ eb7;have YF:=Pj.trans Cc;have Rl:=Cc _ _ dE7;have X4:oZ K vf Fi aC:=wE7.keep λ_ _ z=>Cc.tup z;refine⟨_,rfl,a,C,dx,_,rfl,Dg,B.cls,B.a4,(by rw [<-hf7,<-hf5];show 3 < 1000;decide),?_⟩;have fp:∀p∈ps,H0 p.2=none/\p.2≠e:=λp hp=>by
  have h8':H8 p.2=none:=(l9 p hp).2.1;refine⟨(Pj.trans s8).free h8',λz=>?_⟩;have:=s8 _ _ Q6;rw [<-z,h8'] at this;cases this
 have hfs:Exists λfs=>dN "firsts" (.ref d) MM=fs/\fs.lookup ("empty":Str)=some (.ref e)/\fs.lookup ("begins":Str)=some (.ref bg)/\fs.lookup ("firsts":Str)=some (.ref d)/\fs.lookup ("find_begins":Str)=none/\901/\fs.lookup ("empties":Str)=some (.ref D1):=by
  refine⟨_,rfl,?_⟩;rw [<-hf7,<-hf5];refine⟨?_,?_,?_,?_,⟨?_,?_,?_,?_⟩,?_⟩ <;> rfl
 obtain⟨fs,efs,k1,k2,k3,k4,k5,k6⟩:=hfs;rw [efs];have Ho:o9 K C H0 (upd vf a (.ins C dx fs)) a e d bg kE aC ps []:=by
  refine⟨λc o hc=>by rw [755];exact YF c o hc,⟨dx,fs,af,k1,k2,k3,k4,k5⟩,?_,?_,n1,n9,λp hp=>⟨⟨[],?_,rfl⟩,(fp p hp).1,(fp p hp).2,(P9 p hp).2⟩,⟨[],?_,.nil⟩,fbg,⟨D1,Fi,⟨dx,fs,af,k6⟩,by rw [ai (λz=>by rw [z,Dg] at Rl;cases Rl)];exact Rl,X4.keep λ_ _ z=>gw Dg z,Zh⟩⟩
  .rw [ai (λz=>by rw [z,Dg] at yJ;cases yJ)];exact yJ
  .rw [ai (λz=>by rw [z,Dg] at qO;cases qO)];exact qO
  .have:=(P9 p hp).1;rw [ai (λz=>by rw [z,Dg] at this;cases this)];exact this
  rw [ai (λz=>by rw [z,Dg] at Q8;cases Q8)];exact Q8
 generalize upd vf a (.ins C dx fs)=G3 at Ho;have eb:738=λz=>decide (z∈aC.map 27):=funext FP;refine⟨1,rfl,?_⟩;refine⟨λmm σ AR=>∃(bes:108) (many:Int)(y2 y4:126),σ=[aZ a,aZ R,y2,some (.int many),y4]/\o9 K C H0 AR a e d bg kE aC ps bes/\uP aa (hd aa) 534 bes/\-1<=many/\many<=bes.length /\
  (many=bes.length->G7 aa (hd aa) 534 aa.length bes)/\(mm:Int)=80001 - many,⟨80002,[],-1,none,none,rfl,Ho,.nil,∅,58,58,∅⟩,?_⟩
 rintro mm σ AR ⟨bes,many,y2,y4,rfl,La,Rp,b1,b2,cl,em⟩;obtain⟨Rg,rg,q1,q2,q3,q4,q5,q6⟩:=La.ia;obtain⟨tb,Vl,MJ⟩:=La.lb;have lb:=bf MJ;have Qd:=Rp.len bE h8;refine⟨_,rfl,_,rfl,a,C,Rg,rg,_,rfl,q1,B.cls,B.a3,q3,bg,_,rfl,.inl (aX.of Vl),_,_,rfl,rfl,_,rfl,?_⟩;refine 566
 .have c':=dJ c;rw [ay,lb] at c';refine⟨λσ E8=>∃(dQ:108)(y2 y4:126),σ=[aZ a,aZ R,y2,some (.int (bes.length:Int)),y4]/\o9 K C H0 E8 a e d bg kE aC ps dQ/\uP aa (hd aa) 534 dQ/\bes.length<=dQ.length /\
   (dQ.length=bes.length->dQ=bes/\G7 aa (hd aa) 534 aa.length bes),?_,?_⟩
  .rintro σ E8 ⟨dQ,y2,y4,rfl,KC,GO,Zx,K_⟩;have:=GO.len bE h8;refine⟨(80001 - bes.length:Int).toNat,∅,dQ,_,_,_,rfl,KC,GO,∅,∅,λz=>?_,∅⟩;obtain⟨MQ,Am⟩:=K_ ∅;rw [MQ];exact Am
  refine⟨_,rfl,a,C,Rg,rg,_,rfl,q1,B.cls,B.a3,q3,bg,_,rfl,.inl (aX.of Vl),?_⟩;rw [ay,lb];refine⟨_,rfl,R,_,rfl,La.sm.seq hR,?_⟩;refine lN (xs:=122) (λi σ E8=>∃(dQ:108)(y2 y4:126),σ=[aZ a,aZ R,y2,some (.int (bes.length:Int)),y4]/\o9 K C H0 E8 a e d bg kE aC ps dQ/\uP aa (hd aa) 534 dQ/\bes.length<=dQ.length /\
   (dQ.length=bes.length->dQ=bes/\G7 aa (hd aa) 534 i bes)) ⟨bes,_,_,rfl,La,Rp,aE _,λ_=>⟨rfl,λk ru hk=>121⟩⟩ ?_ ?_ ?_
  .rintro i σ E8 _ ⟨dQ,y2,y4,rfl,KC,_⟩;exact KC.sm.seq hR
  .rintro i x σ E8 t ex ⟨dQ,y2,y4,rfl,KC,GO,Zx,K_⟩ ht
   ac_nf0
   rw [bx] at ex;obtain⟨r,er,rfl⟩:=473;obtain⟨ru,ug,rv⟩:=dA.get er;have lK:=cv ug;have Wh:=KC.same (ah ht 590);have UH:aU K (upd E8 t 590) t [141,.ref r]:=aU.of af;generalize upd E8 t 590=H14 at Wh UH;obtain⟨dx4,Si,r1,r2,r3,r4,r5,r6⟩:=Wh.ia;refine⟨t,_,rfl,UH,rfl,_,_,rfl,_,_,rfl,rfl,?_⟩;refine⟨_,rfl,a,dx4,Si,rfl,r1,r5,_,rfl,_,rfl,H0,a,e,d,bg,r,kE,aC,ps,dQ,i,ru,aa,rfl,Wh,rv,ug,h8 ru lK,by rw [m9];exact(gY _ _ _).mpr (.inr (ja lK)),?_,?_,?_⟩
   .intro yP Af;have:=Af.len bE h8;omega
   .rw [m9,eb];exact GO
   rw [m9,eb];intro aaH H15 S15 aaG l15 c15;refine⟨aaH,_,_,rfl,S15,aaG,∅,λhl3=>?_⟩;obtain⟨x1,x2⟩:=K_ ∅;obtain⟨x3,x4⟩:=c15 ∅;refine⟨x3.trans x1,λk D_ hk erk j z hj ez wd hw=>?_⟩;by_cases ck:k < i
   .exact x2 k D_ ck erk j z hj ez wd hw
   have:k=i:=121
   subst this;rw [ug] at erk;cases erk;rw [<-x1] at hw ⊢;exact x4 j z hj ez wd hw
  rintro σ E8 ⟨dQ,y2,y4,rfl,KC,GO,Zx,K_⟩;rw [ay,ll] at K_;exact⟨dQ,_,_,rfl,KC,GO,Zx,K_⟩
 have c':=of_decide_eq_false (rN.mpr c);rw [ay,lb] at c';exact q e d bg kE aC ps bes AR La m9 emp uh FP Rp (cl ∅)
end
end fC
namespace L2
open PySem PySem.W
section
variable {X:Cx}{ag:z0e}{σ:St}{H:Hp}{s:Shared}{a:Addr}{kvs:86}{k:aI}{u:Value}{A:Around}{E:z0b}
def Rj {z:V}{r:Value}{Q:z0b}(I:87)(e:H a=375)(hl:kvs.length < sizeLine)(ry:RelV (kV k) u)(rz:RelV z r)
  (h1:∀v w' s',aQ kvs k=some v->Inv X ag σ H s'->RelV v w'->Q w' s')(h2:aQ kvs k=none->∀s',Inv X ag σ (upd H a (.dK (bB kvs k z))) s'->Q r s') :
  wpAny 110 A (call (.builtin "dict.setdefault") [91,u,r]) Q E s:=by
 obtain⟨zl,hd,vs,rel,dd⟩:=uj I.bI e;refine call_meetsIn PySem.F.slot_dict_setdefault dd.typeIs PySem.F.entry_dict_setdefault (PySem.F.args_dict_setdefault_3 _ _ _) (kt_meets_setdefault (aK X.prog X.w) a (mz ry) hd r)
  ⟨vs,dd,by rw [<-rel.length];exact zl,λv hv=>?_,λhn h' Bb hs=>?_⟩
 .have rv:=rel.val k;rw [hv] at rv;cases e2:aQ kvs k with
  | none=>rw [e2] at rv;cases rv
  | some x=>rw [e2] at rv;exact h1 x v _ e2 (I.tok _) rv
 have Hh:aQ kvs k=none:=by
  have rv:=rel.val k;rw [hn] at rv;cases e2:aQ kvs k with
  | none=>rfl
  | some x=>rw [e2] at rv;cases rv
 have he:∃q,h'.get? a=some q:=let ⟨q,_,_,hq,_⟩:=Bb;⟨q,hq⟩;exact h2 Hh _ (ri I (by rw [e];exact True.intro) hs he (uk (by have:=fq kvs k z;omega) hd (rel.put k rz) Bb))
end
section
variable {X:Cx}{o e f:Expr}{apos gG:Pos}{td ty tx:TE}
def OZ (td ty tx:TE):TE:=λσ H Q=>td σ H λx H1=>∃a,x=91/\XR H1 a/\ty σ H1 λy H2=>tx σ H2 λz H3=>∃kvs k,H3 a=375/\y=kV k/\kvs.length < sizeLine /\
 (∀v,aQ kvs k=some v->Q v H3)/\(aQ kvs k=none->Q z (upd H3 a (.dK (bB kvs k z))))
def zM (ho:PE X o td)(he:PE X e ty)(hf:PE X f tx)(m:M2 X o "setdefault" apos e f gG):PE X (.Call (.Attribute o "setdefault" apos) [e,f] [] gG) (OZ td ty tx):=by
 intro ag s σ H Q I h;refine wpAny_Call_method m.base m.Gi m.line Bk PySem.F.slot_dict_setdefault PySem.F.type_dict_setdefault 847;obtain⟨x,H1,I1,rx,a,ex,d,q1⟩:=ba;subst ex;obtain rfl:510:=rx;obtain⟨t1,t2,_⟩:=CZ I1 d;refine⟨t1,t2,?_⟩;rw [m.trees];refine r9 rfl (w_ (pE (cK (he ag s1 σ H1 _ I1 q1) λiv s2 ⟨y,H2,I2,ry,q2⟩ =>
  pE (cK (hf ag s2 σ H2 _ I2 q2) λfv s3 ⟨z,H3,I3,rz,kvs,k,ea,ey,hl,q3,q4⟩=>Calls.spliced_nil ?_))))
 subst ey;exact Rj I3 ea hl ry rz (λv w' s4 l I4 Cd=>⟨v,_,I4,Cd,q3 v l⟩) λl s4 I4=>⟨z,_,I4,rz,q4 l⟩
end
end L2
namespace fC
open PySem L2 M11
section
def NF {ps:z0f}(n1:(ps.map 27).Nodup)(n2:(ps.map 105).Nodup){p p':Str×Addr}(hp:p∈ps)(oH:p'∈ps)(z:p'≠p):p'.1≠p.1/\p'.2≠p.2:=by
 refine⟨λq=>z ?_,λq=>z ?_⟩
 .have w1:=fM ps n1 p' oH;have w2:=fM ps n1 p hp;rw [q,w2] at w1;injection w1 with w3;injection w3 with w4;exact bV q w4.symm
 obtain⟨i,hi,ei⟩:=qj.mp oH;obtain⟨j,hj,ej⟩:=qj.mp hp;have kJ:i=j:=by
  refine(pD (xs:=ps.map 105) (h₀:=by simpa using hi) (h₁:=by simpa using hj) n2).mp ?_;rw [kT,kT,ei,ej];exact q
 subst kJ;exact ei.symm.trans ej
structure Lb (ps:z0f)(st:Str->z0u)(H:Hp)(d:Addr):Prop where
 hd:H d=some 496
 n1:(ps.map 27).Nodup
 n2:(ps.map 105).Nodup
 lst:∀p∈ps,H p.2=some (.lst ((st p.1).map V.int))
def Lb.same {ps:z0f}{st:Str->z0u}{H H':Hp}{d:Addr}(h:Lb ps st H d)(s:147):Lb ps st H' d:=⟨s _ _ h.hd,h.n1,h.n2,λp hp=>s _ _ (h.lst p hp)⟩
def E4 (st:Str->z0u)(n:Str) (k:Int):Str->z0u:=λz=>if z=n then st z++[k] else st z
def Lb.more {ps:z0f}{st:Str->z0u}{H:Hp}{d:Addr}(h:Lb ps st H d){p:Str×Addr}(hp:p∈ps) (k:Int):Lb ps (E4 st p.1 k) (upd H p.2 (.lst ((st p.1).map V.int++[.int k]))) d:=by
 have a:=h.lst p hp;have nd:d≠p.2:=λz=>by have:=h.hd;rw [z,a] at this;cases this
 refine⟨by rw [ai nd];exact h.hd,h.n1,h.n2,λp' oH=>?_⟩;by_cases z:p'=p
 .rw [z,af];have e1:E4 st p.1 k p.1=st p.1++[k]:=ar rfl;rw [e1,aP];rfl
 obtain⟨a1,a2⟩:=NF h.n1 h.n2 hp oH z;have e1:E4 st p.1 k p'.1=st p'.1:=aq a1;rw [ai a2,e1];exact h.lst p' oH
def BM (K:aY):Sp:=λvs H Q _=>∃(R:Addr)(rs:z0q)(aa:56),vs=[.ref R]/\aX K H R 260/\520/\568 /\
 ∀(d:Addr)(ps:z0f)(H':Hp),H d=none->147->Lb ps (λn=>nums aa n aa.length) H' d->ps.map 27=hd aa->(∀p∈ps,H p.2=none)->Q (.ref d) H'
def xZ:aM ["rules","numbers","number","rule"] 159 (ax HZ):=417
def LY (F:jo K "numbers_by_name" "numbers_by_name" HZ f fd)(T:Txt mg)(GH:aL P w K mg base 1 "heads_of" 159 (lV K)):bO P w K mg base gb 2 f fd 159 (BM K):=by
 refine F.ok xZ 420 472
 .obtain⟨R,rs,aa,rfl,_⟩:=h;rfl
 obtain⟨R,rs,aa,rfl,hR,dA,bE,q⟩:=h;have hu:=fc hr;refine⟨_,aj (aF (i:=1) xZ.nd rfl 68 (bu (d8 rfl) rfl T.ET fY (ae
   (cm ["name"] [] rfl (bP (bZ GH hr rfl 497)) 487 nofun rfl nofun
    876 539
    (λ_ _ _ _ _=>bG (ae 72 (ae (dw ao) ao)))) ao)))
  (aj (cP c_ rfl (ot rfl T.MP 497) (gE rfl (aH (az (i:=2) xZ.nd rfl 68) (aH (az (i:=3) xZ.nd rfl 68) cI)))
   (av (cY (jj iN kM kO df (d5 hu 102 (bF bH (pv 3) aA 109) 109) (ae (pv 2) ao)))))
  (av (bS 102))),?_⟩
 nofun
 have ll:=bf dA;refine⟨_,rfl,R,rs,aa,rfl,hR,dA,bE,λD2 H3 f3 s3 e3=>?_⟩;have Qb:=jn 567 [];simp only [kq,ay] at Qb;refine⟨D2,rfl,⟨_,aX.of e3⟩,λD3 Vq=>ur (aX.of e3) ∅ Vq λts ps H4 s4 e4 m4 p4 l4 n4=>?_⟩;have n1:(ps.map 27).Nodup:=by rw [m4];exact qe _ eG
 have JA:Paired (λt (kv:aI×V)=>aU K H4 t [kV kv.1,kv.2]) ts (ps.map iz):=cM p4 479;refine⟨D3,ts,_,rfl,e4,JA,λd kF=>?_⟩;have VH:cR (ps.map iz) []=ps.map iz:=oP _ [] (by
  rw [mU,iE];exact yr n1)
 rw [VH];have s5:=(s3.trans s4).trans (ah kF 496);have Fo:=ah kF 496;have zf:H d=none:=(s3.trans s4).free kF;have S5:Lb ps (λn=>nums aa n 0) (upd H4 d 496) d:=⟨af,n1,n4,λp hp=>Fo _ _ (l4 p hp).1⟩;have Sj:∀p∈ps,H p.2=none:=λp hp=>s3.free (l4 p hp).2.1;generalize upd H4 d 496=H5 at s5 S5;clear Fo;refine⟨_,rfl,R,_,rfl,s5.seq hR,?_⟩
 let Dv:Dw:=λi σ H6=>∃(y2 y3:126),σ=[aZ R,aZ d,y2,y3]/\aD H H6/\Lb ps (λn=>nums aa n i) H6 d
 refine lN (xs:=122) Dv ⟨none,none,rfl,s5,S5⟩ ?_ ?_ ?_
 .rintro i σ H6 _ ⟨y2,y3,rfl,s6,_⟩;exact s6.seq hR
 .rintro i x σ H6 t ex ⟨y2,y3,rfl,s6,S6⟩ ht
  ac_nf0
  rw [bx] at ex;obtain⟨r,er,rfl⟩:=473;obtain⟨ru,ug,p,v1,v2⟩:=dA.get er;have lK:=cv ug;have li:=(a7.mp ug).1;have KR:=ah ht 590;have N1:860:=aU.of af;have s7:=s6.trans KR;have S7:=S6.same KR;generalize upd H6 t 590=H7 at N1 s7 S7;obtain⟨pn,Ad,A_⟩:∃pn∈ps,pn.1=ru.1:=by
   have:ru.1∈ps.map 27:=by rw [m4];exact(gY _ _ _).mpr (.inr (ja lK))
   obtain⟨pn,a,b⟩:=a9.mp this;exact⟨pn,a,b⟩
  have an:=S7.lst pn Ad;have vn:=fM ps n1 pn Ad;rw [A_] at vn;have hg:b8 H7 d (.str ru.1) (some (.ref pn.2)):=by
   have:=b8.k (k:=521) S7.hd;rw [vn] at this;exact this
  have ln:=zR aa pn.1 i;refine⟨t,_,rfl,N1,rfl,_,_,rfl,_,_,rfl,rfl,?_⟩;refine⟨_,rfl,_,rfl,r,_,_,_,rfl,rfl,s7.tup v1,rfl,d,_,rfl,hg,.inl ⟨rfl,_,aX.of an⟩,_,rfl,pn.2,_,_,rfl,rfl,an,507,?_⟩;have S8:=S7.more Ad (i:Int);refine⟨_,_,rfl,λb o hb=>by rw [ai (λz=>by rw [z,Sj pn Ad] at hb;cases hb)];exact s7 b o hb,S8.hd,S8.n1,S8.n2,λp' oH=>?_⟩;have:=S8.lst p' oH;rw [this]
  congr 3
  unfold E4;rw [FJ];by_cases c:p'.1=pn.1
  .rw [ar c,ar];unfold K0;rw [ug,c,A_];simp
  rw [aq c,aq,dG];unfold K0;rw [ug];intro z;have z2:=dJ z;injection z2 with z3;exact c (by rw [A_];exact z3.symm)
 rintro σ H6 ⟨y2,y3,rfl,s6,S6⟩;rw [ay,ll] at S6;exact⟨_,rfl,q d ps H6 zf s6 S6 m4 Sj⟩
def Nx (K:aY):Sp:=λvs H Q _=>∃(R:Addr)(rs:z0q)(aa:56),vs=[.ref R]/\aX K H R 260/\520/\568/\547 /\
 ∀(d:Addr)(H':Hp),H d=none->147->Q (.ref d) H'
structure Hm (H0 H:Hp)(d:Addr)(kvs:86) (n:Nat):Prop where
 hd:H d=375
 ln:kvs.length<=n
 lst:∀kv∈kvs,∃a xs,kv.2=91/\H a=500/\H0 a=none/\xs.length<=n
def Hm.same {H0 H H':Hp}{d:Addr}{kvs:86}{n:Nat}(h:Hm H0 H d kvs n)(s:147):Hm H0 H' d kvs n:=⟨s _ _ h.hd,h.ln,λkv hk=>let ⟨a,xs,e1,e2,e3,e4⟩:=h.lst kv hk;⟨a,xs,e1,s _ _ e2,e3,e4⟩⟩
def Hm.more {H0 H:Hp}{d a:Addr}{kvs:86}{n:Nat}{xs:84}{y:V}(h:Hm H0 H d kvs (n+1))(ha:H a=500)(lx:xs.length<=n)(l2:∀kv∈kvs,∃a xs,kv.2=91/\H a=500/\H0 a=none/\xs.length<=n):Hm H0 (upd H a (.lst (xs++[y]))) d kvs (n+1):=by
 have nd:d≠a:=λz=>by have:=h.hd;rw [z,ha] at this;cases this
 refine⟨by rw [ai nd];exact h.hd,h.ln,λkv hk=>?_⟩;obtain⟨b,ys,e1,e2,e3,e4⟩:=l2 kv hk;by_cases c:b=a
 .exact⟨b,xs++[y],e1,by rw [c,af],e3,by rw [bp];simp;omega⟩
 exact⟨b,ys,e1,by rw [ai c];exact e2,e3,∅⟩
def OM {kvs:86}{k:aI}{v:V}(h:aQ kvs k=some v):∃kv∈kvs,kv.2=v:=by
 unfold aQ at h;obtain⟨kv,e1,e2⟩:=cH.mp h;exact⟨kv,List.mem_of_find?_eq_some e1,e2⟩
def vN:aM ["rules","standings","number","rule","place","part"] 159 (ax Pa):=417
def PR (F:jo K "standings_by_part" "standings_by_part" Pa f fd)(T:Txt mg):bO P w K mg base gb 1 f fd 159 (Nx K):=by
 refine F.ok vN 420 472
 .obtain⟨R,rs,aa,rfl,_⟩:=h;rfl
 obtain⟨R,rs,aa,rfl,hR,dA,bE,h8,q⟩:=h;have hu:=fc hr;refine⟨_,aj (aF (i:=1) vN.nd rfl 68 fV)
  (aj (cP c_ rfl (ot rfl T.MP 497) (gE rfl (aH (az (i:=2) vN.nd rfl 68) (aH (az (i:=3) vN.nd rfl 68) cI)))
   (av (cP c_ rfl (oq rfl T.MP (ae (bF bH (pv 3) aA 109) ao)) (gE rfl (aH (az (i:=4) vN.nd rfl 68) (aH (az (i:=5) vN.nd rfl 68) cI)))
    (av (cY (jj iN kM kO df (zM 102 (pv 5) (dw ao) ⟨rfl,rfl,rfl,rfl⟩) (ae (bG (ae (pv 2) (ae (pv 4) ao))) ao)))))))
  (av (bS 102))),?_⟩
 nofun
 have ll:=bf dA;intro d kF;have s1:=ah kF 418;have S1:Hm H (upd H d 418) d [] (8 * 0):=⟨af,aE _,λkv hk=>by cases hk⟩;generalize upd H d 418=H1 at s1 S1;refine⟨_,rfl,R,_,rfl,s1.seq hR,?_⟩
 let Nh:Dw:=λi σ H6=>∃(kvs:86)(y2 y3 y4 y5:126),σ=[aZ R,aZ d,y2,y3,y4,y5]/\aD H H6/\Hm H H6 d kvs (8 * i)
 refine lN (xs:=122) Nh ⟨[],none,none,none,none,rfl,s1,S1⟩ ?_ ?_ ?_
 .rintro i σ H6 _ ⟨kvs,y2,y3,y4,y5,rfl,s6,_⟩;exact s6.seq hR
 .rintro i x σ H6 t ex ⟨kvs,y2,y3,y4,y5,rfl,s6,S6⟩ ht
  ac_nf0
  rw [bx] at ex;obtain⟨r,er,rfl⟩:=473;obtain⟨ru,ug,p,v1,v2⟩:=dA.get er;have lK:=cv ug;have Sh:=h8 ru lK;have li:=(a7.mp ug).1;have KR:=ah ht 590;have N1:860:=aU.of af;have s7:=s6.trans KR;have S7:=S6.same KR;generalize upd H6 t 590=H7 at N1 s7 S7;refine⟨t,_,rfl,N1,rfl,_,_,rfl,_,_,rfl,rfl,?_⟩;refine⟨_,rfl,r,_,_,_,rfl,rfl,s7.tup v1,rfl,p,_,rfl,s7.tup v2,?_⟩
  let Iz3:Dw:=λj σ H9=>∃(kvs:86)(y4 y5:126),σ=[aZ R,aZ d,some (141),aZ r,y4,y5]/\aD H H9/\Hm H H9 d kvs (8 * i+j)
  refine qc (xs:=ru.2.map V.str) Iz3 ⟨kvs,_,_,rfl,s7,S7⟩ ?_ ?_ ?_
  .rintro j σ H9 _ ⟨kvs,y4,y5,rfl,s9,_⟩;exact s9.tup v2
  .rintro j x σ H9 t2 Dd ⟨kvs,y4,y5,rfl,s9,S9⟩ jl
   ac_nf0
   rw [bx] at Dd;obtain⟨z,ez,rfl⟩:=cH.mp Dd;have lj:=(a7.mp ez).1;have zJ:=ah jl (.tup [.int 124,.str z]);have JH:aU K (upd H9 t2 (.tup [.int 124,.str z])) t2 [.int 124,.str z]:=aU.of af;have uJ:=s9.trans zJ;have Oy:=S9.same zJ;generalize upd H9 t2 (.tup [.int 124,.str z])=vf at JH uJ Oy;refine⟨t2,_,rfl,JH,rfl,_,_,rfl,_,_,rfl,rfl,?_⟩;have lk:=Oy.ln;refine⟨_,rfl,d,rfl,.inl ⟨kvs,.inl Oy.hd⟩,_,rfl,Bu,λl hl=>?_⟩;have Fp:=ah hl 103;have K9:upd vf l 103 l=some 103:=af;have fl:H l=none:=uJ.free hl;have Ho:=Oy.same Fp;have sA:=uJ.trans Fp;generalize upd vf l 103=G3 at Fp K9 Ho sA;have fin:∀(a:Addr)(xs:84)(nr:86)(AR:Hp),AR a=500->H a=none->xs.length<=8 * i+j->Hm H AR d nr (8 * i+j+1)->(∀kv∈nr,∃a xs,kv.2=91/\AR a=500/\H a=none/\xs.length<=8 * i+j)->aD H AR ->
     ∀t4,AR t4=none->xs.length < sizeLine/\∃(kvs:86)(y4 y5:126),[some (V.ref R),aZ d,some (141),aZ r,some (.int 124),some (.str z)]=[aZ R,aZ d,some (141),aZ r,y4,y5]/\aD H (upd (upd AR t4 795) a (.lst (xs++[.ref t4])))/\Hm H (upd (upd AR t4 795) a (.lst (xs++[.ref t4]))) d kvs (8 * i+(j+1)) :=
    λa xs nr AR ea fa lx La Uu G8 t4 uW=>by
     have uU:=ah uW 795;refine⟨bX ∅,nr,_,_,rfl,λb o hb=>by rw [ai (λz=>by rw [z,fa] at hb;cases hb)];exact uU _ _ (G8 b o hb),?_⟩;exact(La.same uU).more (uU _ _ ea) lx λkv hk=>let ⟨b,ys,e1,e2,e3,e4⟩:=Uu kv hk;⟨b,ys,e1,uU _ _ e2,e3,e4⟩
   refine⟨kvs,88,Ho.hd,rfl,bX ∅,λv hv=>?_,λhn=>?_⟩
   .obtain⟨kv,hk,ek⟩:=OM hv;obtain⟨a,xs,e1,e2,e3,e4⟩:=Ho.lst kv hk;rw [e1] at ek;subst ek;refine⟨.inl ⟨rfl,_,aX.of e2⟩,_,rfl,_,rfl,qF,λt4 uW=>?_⟩;obtain⟨g1,g2⟩:=fin a xs kvs G3 e2 e3 e4 ⟨Ho.hd,∅,λkv hk=>let ⟨b,ys,e1,e2,e3,e4⟩:=Ho.lst kv hk;⟨b,ys,e1,e2,e3,∅⟩⟩ Ho.lst sA t4 uW;exact⟨a,_,_,rfl,rfl,ah uW _ _ _ e2,g1,g2⟩
   have nd:d≠l:=λz=>by have:=Ho.hd;rw [z,K9] at this;cases this
   have Of:upd G3 d (.dK (771)) l=some 103:=by rw [ai nd.symm];exact K9
   have zf:H d=none:=kF;have G8:aD H (upd G3 d (.dK (771))):=λb o hb=>by rw [ai (λz=>by rw [z,zf] at hb;cases hb)];exact sA b o hb
   have Uu:∀kv∈771,∃a xs,kv.2=91/\upd G3 d (.dK (771)) a=500/\H a=none/\xs.length<=8 * i+j:=λkv hk=>by
    rw [lB _ hn] at hk;rcases cw.mp hk with h | h
    .obtain⟨b,ys,e1,e2,e3,e4⟩:=Ho.lst kv h;exact⟨b,ys,e1,by rw [ai (λz=>by rw [z,Ho.hd] at e2;cases e2)];exact e2,e3,e4⟩
    rw [bj.mp h];exact⟨l,[],rfl,Of,fl,58⟩
   have lp:=fq kvs (88:aI) (.ref l);have La:Hm H (upd G3 d (.dK (771))) d (771) (8 * i+j+1):=⟨af,∅,λkv hk=>let ⟨b,ys,e1,e2,e3,e4⟩:=Uu kv hk;⟨b,ys,e1,e2,e3,∅⟩⟩;generalize upd G3 d (.dK (771))=AR at Of G8 Uu La;refine⟨.inl ⟨rfl,_,aX.of Of⟩,_,rfl,_,rfl,qF,λt4 uW=>?_⟩;obtain⟨g1,g2⟩:=fin l [] _ AR Of fl 90 La Uu G8 t4 uW;exact⟨l,_,_,rfl,rfl,ah uW _ _ _ Of,g1,g2⟩
  rintro σ H9 ⟨kvs,y4,y5,rfl,s9,S9⟩;rw [ay] at S9;refine⟨kvs,_,_,_,_,rfl,s9,S9.hd,by have:=S9.ln;omega,λkv hk=>let ⟨b,ys,e1,e2,e3,e4⟩:=S9.lst kv hk;⟨b,ys,e1,e2,e3,∅⟩⟩
 rintro σ H6 ⟨kvs,y2,y3,y4,y5,rfl,s6,S6⟩;exact⟨_,rfl,q d H6 kF s6⟩
end
end fC
namespace L2
open PySem PySem.Spec PyProof.Rows
def LI:V->84->502:=λx vs H Q=>∃l xs i y,x=.ref l/\vs=[.int ((i:Nat):Int),y]/\H l=500/\i<=xs.length/\xs.length < 1000000/\Q .gF (upd H l (.lst (xs.take i++y::xs.drop i)))
def FN {X:Cx}:Wl X "list.insert" LI:=by
 intro ag s σ H x vs v us Q I rx rv h;obtain⟨l,xs,i,y,rfl,rfl,hH,hi,hz,q⟩:=h;cases rx;obtain⟨x,hx⟩:∃x:Int,x=((i:Nat):Int):=421;rw [<-hx] at rv;obtain⟨u1,u2,rfl,r1,r2⟩:=vals2 rv;obtain⟨t,rfl⟩:=r1;obtain⟨z,aT,n,r,hl,e⟩:=I.z9 hH;have ln:=r.length;have h0:Builtin.List.listFitsIndex x=true:=by
  unfold Builtin.List.listFitsIndex;rw [md,decide_eq_true_iff,decide_eq_true_iff];omega
 have h1:¬(!Builtin.List.listFitsIndex x)=true:=by rw [h0];exact fg
 have hsz:aT.toArray.size<=sizeLine:=by rw [cq,<-ln];exact z
 refine call_meets F.slot_list_insert ⟨_,e,rfl⟩ F.entry_list_insert (F.args_list_insert_3 _ _ _) (AutoListH.list_insert_list_int_val_1 l aT.toArray n x t u2 h1 hsz) ⟨e,?_⟩;refine⟨.gF,_,I.Mj (tQ:=aT.take i++u2::aT.drop i) hH e ?_ (bq.append (bq.take i r) (.cons r2 (bq.drop i r))) ?_,rfl,q⟩
 .have k0:874=i:=by
   rw [aq ∅,hx,ku,cq];omega
  show ((aT.toArray.extract 0 874).push u2++aT.toArray.extract 874)=_;rw [k0];apply Array.ext';simp;exact qm 90
 rw [bp,cf,fQ,rK];exact fits ∅
open PySem
section
variable {prog:Program}{w:World}{A:Around}{E:z0b}{s:Shared}
end
end L2
namespace HT
open PySem PyProof.Rows
section
variable {prog:Program}{w:World}{A:Around}{E:z0b}{s:Shared}
end
end HT
namespace L2
open PySem PySem.Spec PyProof.Rows
theorem Paired.Pn {α β:Type}{F:α->β->Prop}:∀{a:List α}{c:List β},Paired F a c->Paired F a.reverse c.reverse
 | _,_,.nil=>.nil
 | _,_,.cons h t=>by rw [w6,w6];exact ff (Paired.Pn t) h
open PySem
section
variable {prog:Program}{w:World}{A:Around}{E:z0b}{s:Shared}
end
end L2
namespace HT
open PySem PySem.Spec PyProof.Rows
section
variable {prog:Program}{w:World}{A:Around}{E:z0b}{s:Shared}
def oN {t sl:Addr}{items:z0k}{vl vu:Value}{lo hi:z0o}{Q:z0b}(ht:IsTup s.heap t items)(hs:s.heap.IsSliceOf sl vl vu .none)(pl:IsPart vl lo)(pu:IsPart vu hi)
  (hw:fU items.size 0 lo=0/\fU items.size items.size hi=items.size)(h:Q (.ref t) s):wpAny 140 A (getItem (.ref t) (.ref sl)) Q E s:=by
 obtain⟨os,Qw,N8,Vc⟩:=id hs;have hTs:s.TypeIs (.ref sl) "slice" := ⟨os,Qw,N8⟩;unfold getItem
 try with_reducible refine gr ?_
 first | refine au (aJ ?_) | skip
 refine au (wpAny_sequenceKey ht.typeIs nofun ?_);refine au (qo (name:=Str.ofString "__getitem__") ht.typeIs vi
  (i_ vi ht.typeIs entry_tuple_getitem ?_ (args_tuple_getitem _ _)))
 show wpAny _ _ (Builtin.Tuple.tupleItemsOf (.ref t) >>= _) _ _ s;refine au (tupleItemsOf_ ht ?_);refine au (jr hTs ?_);rw [ar nofun];refine au (jH hs pl pu ?_);have ZN:851:=by
  rw [hw.1,hw.2];simp
 show 896;rw [ar ZN];refine au ?_;unfold Builtin.Tuple.tupleIsExact;refine au (jr ht.typeIs (aJ ?_));rw [ar nofun];refine au (jq ?_);exact aJ ⟨_,rfl,aJ h⟩
end
end HT
namespace L2
open PySem PySem.Spec PyProof.Rows
def TN (K:aY):V->z0o->z0o->502:=λx lo hi H Q=>XSq x (aU K H) λxs=>∀p H',147->aU K H' p (qf xs lo hi)->Q (.ref p) H'
def Lq {X:Cx}:XN X (TN X.K):=by
 intro ag s σ H x v vl vu lo hi sl Q I rx hs pl pu h;obtain⟨a,xs,rfl,hx,q⟩:=h;by_cases hw:HT.fU xs.length 0 lo=0/\HT.fU xs.length xs.length hi=xs.length
 .have ec:qf xs lo hi=xs:=by
   unfold qf;rw [hw.1,hw.2,List.drop_zero,Nat.sub_zero,dW]
  cases rx;obtain⟨aT,r,ht,hz⟩:=I.tuple hx;have bE:aT.toArray.size=xs.length:=by rw [cq];exact r.length.symm
  refine⟨"tuple",_,vi.lookup,ht.typeIs,?_⟩;exact HT.oN ht hs pl pu (by rw [bE];exact hw) ⟨91,H,I,rfl,q a H (λ_ _ h=>h) (by rw [ec];exact hx)⟩
 exact BO ag s σ H _ v vl vu lo hi sl Q I rx hs pl pu ⟨a,xs,rfl,hx,hw,λp hp=>q p _ (ah hp _) (aU.of af)⟩
theorem vw:∀{aT:z0m}{zs:z0t},StrsAre aT zs->bq 478 aT
 | _,_,.nil=>.nil
 | _,_,.cons y t h=>.cons ⟨t,rfl⟩ (vw h)
theorem qw:∀a b:List Nat,ltCps a b=false->ltCps b a=false->a=b
 | [],[],_,_=>rfl
 | [],_::_,h,_=>by rw [ltCps.eq_2] at h;cases h
 | _::_,[],_,h=>by rw [ltCps.eq_2] at h;cases h
 | x::r,y::t,h,k=>by
  rw [ltCps.eq_4,Bool.or_eq_false_iff,decide_eq_false_iff_not] at h k;have e:x=y:=121
  subst e;have h2:=h.2;have k2:=k.2;rw [wY,Bool.true_and] at h2 k2;rw [qw r t h2 k2]
theorem lt_trans:∀a b c:List Nat,ltCps b a=false->ltCps c b=false->ltCps c a=false
 | [],b,[],_,_=>ltCps.eq_1
 | [],b,_::_,_,_=>ltCps.eq_3 _ _
 | x::r,[],c,h,_=>by rw [ltCps.eq_2] at h;cases h
 | x::r,y::t,[],_,k=>by rw [ltCps.eq_2] at k;cases k
 | x::r,y::t,z::u,h,k=>by
  rw [ltCps.eq_4,Bool.or_eq_false_iff,decide_eq_false_iff_not] at h k ⊢;refine⟨∅,?_⟩;by_cases e:z=x
  .have e1:y=x:=121
   subst e;subst e1;have h2:=h.2;have k2:=k.2;rw [wY,Bool.true_and] at h2 k2 ⊢;exact lt_trans r t u h2 k2
  rw [jB.mpr e,Bool.false_and]
def NS (a b:Str):Prop:=ltCps b.cps.toList a.cps.toList=false
theorem vP:∀(x:Str) (r:z0t),risingS x r=true->(x::r).Pairwise NS
 | x,[],_=>pJ _ _
 | x,y::r,h=>by
  rw [risingS.eq_2,md,iL] at h;have ih:=vP y r h.2;refine iw.mpr ⟨λz hz=>?_,ih⟩;rcases a_.mp hz with e | e
  .rw [e];exact h.1
  exact lt_trans _ _ _ h.1 ((iw.mp ih).1 z e)
def vM:∀{l:z0t},sortedS l=true->l.Pairwise NS
 | [],_=>.nil
 | x::r,h=>vP x r h
def yB {a b:Str}(h:NS a b)(k:NS b a):a=b:=by
 have:=qw _ _ h k;cases a with
 | mk x=>cases b with
  | mk y=>rw [show x=y from (rJ.mp this.symm)]
theorem mj:∀{l m:z0t},l.Pairwise NS->m.Pairwise NS->l.Perm m->l=m
 | [],m,_,_,p=>by rw [List.nil_perm.mp p]
 | x::r,[],_,_,p=>absurd p.length_eq 90
 | x::r,y::t,h,k,p=>by
  have e:x=y:=by
   have h1:=iw.mp h;have k1:=iw.mp k;rcases a_.mp (p.mem_iff.mp (a8 (a:=x) (l:=r))) with e | e
   .exact e
   rcases a_.mp (p.mem_iff.mpr (a8 (a:=y) (l:=t))) with e2 | e2
   .exact e2.symm
   exact yB (h1.1 y e2) (k1.1 x e)
  subst e;rw [mj (iw.mp h).2 (iw.mp k).2 (List.perm_cons x |>.mp p)]
def sR {l m:z0t}(h:sortedS l=true)(k:sortedS m=true)(p:l.Perm m):l=m:=mj (vM h) (vM k) p
section
variable {prog:Program}{w:World}{A:Around}{E:z0b}{s:Shared}
end
open PySem PySem.W PyProof.Rows
section
variable {n:Nat}{lt:Nat->Nat->Bool}{cmp:Nat->Nat->(Bool->146)->146}{s:Shared}
end
def Inv.Jz {X:Cx}{ag:z0e}{σ:St}{H:Hp}{s:Shared}{h':Heap}{a:Addr}{o:HO}{t':Nat}(I:87)(k:∀b u,b≠X.env.locals->700->162=some u)
  (ns:∀m,s.heap.Ns X.env.locals m->h'.Ns X.env.locals m)(hp:s.heap.get? a=none)(hn:H a=none)(new:bR X.prog X.w (upd H a o) h' a o):Inv X ag σ (upd H a o) 619:=by
 have ne:∀b u,700->b≠a:=λb u q z=>by rw [z,hp] at q;cases q
 refine I.step (g':=s.gens) (d':=s.drawn) (ch:=[]) (λ_ z=>nomatch z) (λb u hb _ _ e _=>k b u hb e) (λb u hb _ _ e _=>⟨u.slots,k b u hb e⟩) (λb u _ e n=>by rw [ai (ne b u e)];exact n)
  (λb u _ e=>?_) (λb xs q=>746) (λb u xs q=>746) (λb ps q=>⟨#[],by rw [ai (aB q hn),q];simp⟩) ns (λb u e=>?_) I.bare
 .by_cases hb:b=X.env.locals
  .obtain⟨m,hm,_⟩:=I.loc;obtain⟨o',_,_,EF,_⟩:=ns m hm;exact⟨o',by rw [hb];exact EF⟩
  exact⟨u,k b u hb e⟩
 by_cases hb:b=a
 .subst hb;rw [af] at e;cases e;exact new
 rw [ai hb] at e;refine(I.bI b u e).jZ (λc v hc q=>k c v ?_ q) (λc q=>746) λc xs q=>746
 rintro rfl;rcases hc with rfl | hc
 .rw [I.free] at e;cases e
 rw [I.free] at hc;cases hc
def CN (x y:Str):Bool:=decide (x.cps.toList < y.cps.toList)
def Mi {a b c:Str}(h:CN a c=true):CN a b=true\/CN b c=true:=strKind.negTrans a.cps.toList b.cps.toList c.cps.toList h
def Jq {a b:Str}(h:CN a b=true):CN b a=false:=by
 cases e:CN b a with
 | false=>rfl
 | true =>
  have h1:=strKind.trans a.cps.toList b.cps.toList a.cps.toList h e;have h2:=strKind.irrefl a.cps.toList;rw [h2] at h1;cases h1
def FQ {a b:Str}(h:CN a b=false)(k:CN b a=false):a=b:=by
 have:=strKind.total a.cps.toList b.cps.toList h k;cases a with
 | mk x=>cases b with
  | mk y=>rw [show x=y from rJ.mp this]
def tH {P:Program}{w:World}{H:Hp}{h:Heap}{a:Addr}{o:HO}(x:bR P w H h a o):∃u,h.get? a=some u:=by
 cases o with
 | lst xs=>obtain⟨_,_,_,_,e⟩:=x;exact⟨_,e⟩
 | tup xs=>obtain⟨_,_,_,ob,e,_⟩:=x;exact⟨_,e⟩
 | dK kvs=>obtain⟨_,_,_,_,o,_,_,e,_⟩:=x;exact⟨_,e⟩
 | dT kvs=>obtain⟨_,_,_,_,o,_,_,e,_⟩:=x;exact⟨_,e⟩
 | set S n=>obtain⟨o,_,_,_,e,_⟩:=x;exact⟨_,e⟩
 | ins C dx fs=>obtain⟨_,_,_,e,_⟩:=x;exact⟨_,e⟩
 | own y=>obtain⟨_,e⟩:=x;exact⟨_,e⟩
 | xd fs=>obtain⟨_,⟨_,_,_,e,_⟩,_⟩:=x;exact⟨_,e⟩
 | NB lo hi=>obtain⟨_,_,_,e⟩:=x;exact⟨_,e⟩
 | mD ob u=>obtain⟨e,_⟩:=x;exact⟨_,e⟩
 | xI ps=>exact⟨_,(show h.get? a=some _ from x)⟩
 | met f y=>exact⟨_,(show h.get? a=some _ from x)⟩
 | ext φ=>obtain⟨_,⟨_,e⟩,_⟩:=x;exact⟨_,e⟩
theorem vQ:∀{ts:z0q}{aT:z0m},bq 582 aT->aT=551
 | [],[],_=>rfl
 | t::r,u::aT,h=>by
  cases h with
  | cons a b =>
   cases (show u=481 from a);rw [vQ b];rfl
theorem vy:∀(ts:z0q),bq 582 (551)
 | []=>.nil
 | t::r=>.cons rfl (vy r)
open PySem PySem.Spec PyProof.Rows PySem.W
section
variable {P:Program}{w:World}{A:Around}{E:z0b}{s:Shared}
def JC {f c' c d:Addr}{q:Str}{params:Arguments}{scope:Scope}{cl:z0f}{pm ic:Value}{p1 p2 p3:Pos}{xs xh:Str}{vs:List (aI×Value)}{z:Str}{t:Tok}{u:Value}{oc:Obj}{Q:z0b}
  (UK:A.depth < recursionLimit)(nl:s.heap.NoLimit)(hf:s.heap.get? f=some (kla_obj "<lambda>" q params (.Subscript (.Name xs p1) (.Name xh p2) p3) scope cl pm c' ic))(hc:s.heap.CodeRec (.ref c') q)
  (hb:∀us:z0m,us.length=1->bindArgs (kla_fn "<lambda>" q params (.Subscript (.Name xs p1) (.Name xh p2) p3) scope cl pm (.ref c') ic) ⟨us,[]⟩=pure ([xh].zip us))
  (hk:scope.kind=.function)(hco:scope.isCoroutine=false)(QI:scope.isGenerator=false)(Z8:∀x∈scope.names,x.2≠.cell)(hh:scope.names.lookup xh=531)(hs:scope.names.lookup xs=some .free)
  (nP:cl.lookup xs=some c)(ho:s.heap.get? c=some oc)(Hf:oc.data=.cell (some (.ref d)))(dd:s.heap.DictOf (aK P w) d vs)(hv:valueAt vs 107=some u)
  (d1:(xs == ("__debug__":Str))=false)(d2:(xh == ("__debug__":Str))=false)(d3:(xs == ("__classdict__":Str))=false)
  (h:∀h' tk,835->Q u { s with heap:=h',toks:=tk }):wpAny (model P w) A (call (.ref f) [.str z t]) Q E s:=by
 refine gM (kla_callFunE UK hf rfl hco QI rfl hc ?_);rw [hb [.str z t] rfl];refine aJ (wpAny_newFunctionEnv Z8 (λx hx=>?_) (λh₁ A6 hsb=>⟨nl.fresh _ hsb,?_⟩) hk)
 .have:x=(xh,Value.str z t):=by simpa using hx
  rw [this];exact hh
 show codeAny _ _ (.expr (.Subscript (.Name xs p1) (.Name xh p2) p3) (envX q scope s.heap.objs.size f (.ref c') cl)) _ _;have k1:∀b o,259->h₁.get? b=65:=λb o e=>hsb.extBut b o (bJ (aV e)) (bW _ e);refine kla_codeExpr (xK Bp.lookup 109 ?_);refine wpAny_Name (wpAny_loadName_free hk hs nP ⟨oc,k1 _ _ ho,Hf⟩ ?_ d3) d1;refine wpAny_Name (xi hk hh A6 (show ([(xh,Value.str z t)]:z0d).reverse.lookup xh=some (.str z t) by simp [List.lookup]) ?_) d2;have dd1:h₁.DictOf (aK P w) d vs:=by
  obtain⟨o,es,ep,g,r⟩:=dd;exact⟨o,es,ep,k1 _ _ g,r⟩
 refine⟨dd1.typeIs,wpAny_getItem_of (mz (k:=88) ⟨t,rfl⟩) dd1.mapOf hv ?_⟩;exact h h₁ _ k1
end
theorem DK:∀{zs:z0t}{aT:z0m},bq 478 aT->∀(i:Nat)(v:Value),aT[i]?=some v->∃z t,zs[i]?=some z/\v=.str z t
 | [],[],_,i,v,h=>by simp at h
 | z::r,u::aT,h,i,v,hi=>by
  cases h with
  | cons a b =>
   cases i with
   | zero =>
    cases hi;obtain⟨t,e⟩:=(show ∃t,u=Value.str z t from a);exact⟨z,t,rfl,e⟩
   | succ i=>exact DK b i v hi
theorem vH:∀(ps:List (Str×Tok)),bq ((ps.map 27).map V.str) (ps.map λp=>Value.str p.1 p.2)
 | []=>.nil
 | p::r=>.cons ⟨p.2,rfl⟩ (vH r)
theorem vI:∀{zs:z0t}{aT:z0m},bq 478 aT->∃ps:List (Str×Tok),ps.map 27=zs/\aT=ps.map λp=>Value.str p.1 p.2
 | [],[],_=>⟨[],rfl,rfl⟩
 | z::r,u::aT,h=>by
  cases h with
  | cons a b =>
   obtain⟨t,e⟩:=(show ∃t,u=Value.str z t from a);obtain⟨ps,e1,e2⟩:=vI b;exact⟨(z,t)::ps,by rw [bN,e1],by rw [bN,e2,e]⟩
def Cq {α β:Type}{f:α->β}{l m:List β}(h:l.Perm m):∀ps:List α,m=ps.map f->∃qs:List α,l=qs.map f/\qs.Perm ps:=by
 induction h with
 | nil =>
  intro ps e;cases ps with
  | nil=>exact⟨[],rfl,.nil⟩
  | cons p r=>cases e
 | cons x h ih =>
  intro ps e;cases ps with
  | nil=>cases e
  | cons p r =>
   rw [bN] at e;injection e with e1 e2;obtain⟨qs,a,b⟩:=ih r e2;exact⟨p::qs,by rw [bN,a,e1],b.cons p⟩
 | swap x y l =>
  intro ps e
  match ps,e with
  | [],e=>cases e
  | [_],e=>cases e
  | p::p2::r,e =>
   rw [bN,bN] at e;injection e with e1 e2;injection e2 with e3 e4;exact⟨p2::p::r,by rw [bN,bN,e1,e3,e4],.swap p p2 r⟩
 | trans h1 h2 i1 i2 =>
  intro ps e;obtain⟨qs,a,b⟩:=i2 ps e;obtain⟨rs,c,d⟩:=i1 qs a;exact⟨rs,c,d.trans b⟩
def IS {g:Str->Int}{ps:List (Str×Tok)}{out:z0m}(h:KskOut false ((ps.map 27).map g) (ps.map λp=>Value.str p.1 p.2) out) :
  ∃qs:List (Str×Tok),out=qs.map (λp=>Value.str p.1 p.2)/\(qs.map 27).Perm 545/\(qs.map 27).Pairwise λx y=>g x<=g y:=by
 obtain⟨rs,h1,h2,h3⟩:=h;have ez:((ps.map 27).map g).zip (ps.map λp=>Value.str p.1 p.2)=ps.map λp=>(g p.1,Value.str p.1 p.2):=by
  rw [eE,List.zip_map,List.zip_eq_zipWith]
  induction ps with
  | nil=>rfl
  | cons p r ih=>simp_all
 rw [ez] at h1;obtain⟨qs,q1,q2⟩:∃qs:List (Str×Tok),rs=qs.map (λp=>(g p.1,Value.str p.1 p.2))/\qs.Perm ps:=by
  exact Cq h1 ps rfl
 subst q1;refine⟨qs,by rw [h2,eE];rfl,q2.map _,?_⟩;rw [List.pairwise_map] at h3 ⊢;exact h3.imp λh=>by simpa using h
section
variable {X:Cx}{i:Nat}{xs xh:Str}{params:Arguments}{scope:Scope}{p pos CO kp p1 p2 p3:Pos}{e:Expr}{ta:TA}{c T:Addr}{k:Nat}
abbrev EY (xs xh:Str)(p1 p2 p3:Pos):Expr:=.Subscript (.Name xs p1) (.Name xh p2) p3
def OV (X:Cx) (i:Nat)(CO:Pos)(T:Addr)(ta:TA):TE:=λσ H Q=>ta σ H λvs H1=>Tab T CO 591 H1/\∃(a:Addr) (zs:z0t)(d:Addr)(kvs:86)(g:Str->Int),vs=[91]/\aX X.K H1 a 478/\zs.length < 64/\σ[i]?=some (some (.ref d))/\Rd H1 d 489 /\
 (∀z∈zs,aQ kvs 107=some (.int (g z)))/\∀(l:Addr) (lU:z0t)(H':Hp),gi T H1 H'->Tab T CO 591 H'->H1 l=none->lU.Perm zs->lU.Pairwise (λx y=>g x<=g y)->H' l=some (.lst (lU.map V.str))->Q (.ref l) H'
def IE (hr:ft (k+1) X.A)(wb:X.env.code=.ref c)(hC:codeHdIn X.K c T=true)(hB:uH X.mg X.base)(hg:Gl X "sorted")(hm:X.mg "sorted"=none)(ha:PA X [e] ta)
  (hN:X.N[i]?=some xs)(hx:X.env.scope.names.lookup xs=some .cell)(oK:885)
  (hb:∀(q:Str)(cl:z0f)(pm ic:Value)(c':Addr)(us:z0m),us.length=1->bindArgs (kla_fn "<lambda>" q params (EY xs xh p1 p2 p3) scope cl pm (.ref c') ic) ⟨us,[]⟩=pure ([xh].zip us))
  (hk:scope.kind=.function)(hco:scope.isCoroutine=false)(QI:scope.isGenerator=false)(Z8:∀x∈scope.names,x.2≠.cell)(hh:scope.names.lookup xh=531)(hs:scope.names.lookup xs=some .free)
  (d1:(xs == ("__debug__":Str))=false:=by decide)(d2:(xh == ("__debug__":Str))=false:=by decide)(d3:(xs == ("__classdict__":Str))=false:=by decide)
  (JV:defaultsOf params X.env=([],[]):=by rfl)
  (he:backTo pos (starEach [e] X.env)=(false,eval e X.env)::backTo pos (starEach [] X.env):=by rfl)(hp:(backTo pos (starEach [e] X.env)).any 27=false:=by rfl) :
  PE X (.Call (.Name "sorted" p) [e] [⟨some "key",.Lambda params (EY xs xh p1 p2 p3) scope CO,kp⟩] pos) (OV X i CO T ta):=by
 intro ag s σ H Q I h;refine nR (j9 I hg hm boot_sorted ?_);refine callWith_kw 648 he hp rfl rfl;obtain⟨vs,H1,I1,r1,MK,a,zs,d,kvs,g,ev,hq,h64,hσ,hd,hv,q1⟩:=ba;subst ev;have low:=Ef (X:=X) (params:=params) (body:=EY xs xh p1 p2 p3) (scope:=scope) (pos:=CO) (c:=c) (T:=T) wb hC hB oK JV ag s1 σ H1
  (λfv H2=>∃f c' ic cl,fv=.ref f/\Nj X.env scope cl/\gi T H1 H2/\Tab T CO 591 H2/\H2 f=some (uV f (jk X params (EY xs xh p1 p2 p3) scope cl c' ic))/\H2 c'=some (mF c' 591)) I1
  ⟨MK,λf c' ic cl H' a1 a2 a3 a4 a5 a6=>⟨f,c',ic,cl,rfl,a1,a2,a3,a5,a6⟩⟩
 refine kws_cons (cK low λu2 s2 ba=>?_);obtain⟨fv,H2,I2,r2,f,c',ic,cl,ef,nP,st,QR,hf,tW⟩:=ba;refine kws_nil ?_;subst ef;cases (show u2=Value.ref f from r2);obtain⟨u,rfl,rx⟩:=vals1 r1;cases 713;obtain⟨pt,eT,_⟩:=id MK;have hq2:aX X.K H2 a 478:=by
  rcases hq with (h | ⟨o,h⟩) | h
  .exact .inl (.inl (st _ _ (λz=>by rw [z,eT] at h;cases h) h))
  .exact .inl (.inr ⟨o,st _ _ (λz=>by rw [z,eT] at h;cases h) h⟩)
  exact .inr h
 have hd2:Rd H2 d 489:=by
  rcases hd with h | ⟨o,h⟩
  .exact .inl (st _ _ (λz=>by rw [z,eT] at h;cases h) h)
  exact .inr ⟨o,st _ _ (λz=>by rw [z,eT] at h;cases h) h⟩
 obtain⟨aT,rv,pl,hz⟩:=I2.list hq2;obtain⟨pzs,ez,ei⟩:=vI rv;have WO:=pl.isList;obtain⟨oa,ga,ca,na,da⟩:=id WO;obtain⟨m,A6,lk⟩:=id I2.loc;have Mc:∀b o,H2 b=65->b≠X.env.locals:=λb o hb z=>by rw [z,I2.free] at hb;cases hb
 have Ub:d≠X.env.locals:=by
  rcases hd2 with h | ⟨o,h⟩
  .exact Mc d _ h
  exact Mc d _ h
 have neA:a≠X.env.locals:=λz=>by
  obtain⟨o,es,ep,ho,ze,_⟩:=A6;rw [<-z,ga] at ho;cases ho;rw [da] at ze;cases ze
 obtain⟨ud,rd,lkd⟩:=lk i xs (.ref d) hN hσ (.inr (.inl hx));cases (show ud=Value.ref d from rd);obtain⟨cc,ecc,oc,UW,UU⟩:∃cc,X.env.cells.lookup xs=some cc/\s2.heap.IsCell cc (some (.ref d)):=by
  rcases lkd with ⟨l,_⟩ | ⟨_,c2,e2,h2⟩
  .have l':X.env.scope.names.lookup xs=531:=l;rw [hx] at l';cases l'
  exact⟨c2,e2,h2⟩
 obtain⟨cc',ecl⟩:=nP.all xs (yw hs);have e3:=nP.sub _ _ ecl;rw [ecc] at e3;cases e3;have RP:cc≠X.env.locals:=λz=>by
  obtain⟨o,es,ep,ho,ze,_⟩:=A6;rw [<-z,UW] at ho;cases ho;rw [UU] at ze;cases ze
 obtain⟨gf,_⟩:=I2.bI f _ hf;obtain⟨gc,_⟩:=I2.bI c' _ tW;obtain⟨zl,W6,dvs,rel,dd⟩:=mE I2.bI hd2;obtain⟨m0,F0⟩:=I2.fr;refine ksk_sorted (kz:=zs.map g) (f:=.ref f) (b:=false) (vs:=aT) (h₀:=Nk.tJ s2.heap) (L:=X.env.locals) (m:=m) (news:=(a,oa)::Nk.ledger s2.heap X.env.locals a) (Nk.QV A6) (Nk.zW neA ga) WO (by rw [ay,<-rv.length,ay]) (by rw [<-rv.length,ay];exact h64)
  (ksk_s1 _ _) (λx=>ksk_l1 _ _) (λx=>ksk_t1 f x) (λj v kk hj hkk He tk own F N=>?_) λD h' tk out cnt F' N' lt' ko=>?_
 .obtain⟨z,t,Xr,rfl⟩:=DK rv j v hj;rw [bx,Xr] at hkk;cases hkk;have keep:∀b u,b≠X.env.locals->s2.heap.get? b=some u->He.get? b=some u:=λb u nb hb=>by
   by_cases e:b=a
   .subst e;rw [ga] at hb;cases hb;exact(N (b,oa) 90).1
   exact(N (b,u) (g_ _ (bA _ (Nk.j7.mpr ⟨nb,e,hb⟩)))).1
  have hvz:=hv z (cv Xr);obtain⟨w',hw,Cd⟩:=jP.some_of (v:=.int (g z)) (o:=valueAt dvs 107) (by rw [<-hvz];exact rel.val 107);obtain⟨tw,rfl⟩:=(show ∃t,w'=Value.int (g z) t from Cd);have dd2:He.DictOf (aK X.prog X.w) d dvs:=by
   obtain⟨o,es,ep,g1,r⟩:=dd;exact⟨o,es,ep,keep _ _ Ub g1,r⟩
  have gc2:He.CodeRec (.ref c') 591:=by
   obtain⟨c2,oc2,Nm,t2,e2,Hf,jx,RY⟩:=gc;cases e2;exact⟨_,oc2,Nm,t2,rfl,keep _ _ (Mc c' _ tW) Hf,jx,RY⟩
  have nl:He.NoLimit:=I2.mod.nolimit.keeps λb o e=>keep b o (bJ (fK (aV e) F0.above)) (I2.bk b o e);exact JC (s:={ s2 with heap:=He,toks:=tk }) (A:=X.A.in1.in1) hr.depth nl (keep _ _ (Mc f _ hf) gf) gc2 (λus hl=>hb _ _ _ _ _ us hl) hk hco QI Z8 hh hs ecl (keep _ _ RP UW) UU dd2 hw d1 d2 d3
   λh3 tk3 kk3=>KskEnd.intro (F.kept kk3) (N.grown kk3) λp hp=>hp
 have keep:∀b u,b≠X.env.locals->s2.heap.get? b=some u->162=some u:=λb u nb hb=>by
  by_cases e:b=a
  .subst e;rw [ga] at hb;cases hb;exact(N' (b,oa) 90).1
  exact(N' (b,u) (bA _ (bA _ (Nk.j7.mpr ⟨nb,e,hb⟩)))).1
 have hD:s2.heap.get? D=none:=by
  cases e:s2.heap.get? D with
  | none=>rfl
  | some o =>
   exfalso;have nD:D≠X.env.locals:=(N' (D,_) a8).2.1;by_cases ea:D=a
   .have:=lt' (a,oa) a8;rw [ea] at this;exact absurd this (ir _)
   exact absurd (lt' (D,o) (bA _ (Nk.j7.mpr ⟨nD,ea,e⟩))) (ir _)
 have fD:H2 D=none:=by
  cases e:H2 D with
  | none=>rfl
  | some u =>
   obtain⟨ob,g⟩:=tH (I2.bI D u e);rw [hD] at g;cases g
 have fD1:H1 D=none:=by
  cases e:H1 D with
  | none=>rfl
  | some u =>
   by_cases z:D=T
   .obtain⟨pt2,eT2,_⟩:=QR;rw [z,eT2] at fD;cases fD
   rw [st _ _ z e] at fD;cases fD
 rw [ei,<-ez] at ko;obtain⟨qs,eo,pe,ps⟩:=IS ko;rw [ez] at pe;have gD:=(N' (D,_) a8).1;have lq:qs.length=zs.length:=by have:=pe.length_eq;rw [ay] at this;exact this
 have sl:=ah fD (.lst ((qs.map 27).map V.str));refine⟨.ref D,_,I2.Jz (t':=tk) keep (λm' hm=>?_) hD fD (show bR X.prog X.w _ _ _ (.lst ((qs.map 27).map V.str)) from ⟨by rw [ay,ay];exact fits ∅,qs.map (λp=>Value.str p.1 p.2),cnt,vH qs,by rw [<-eo];simpa using gD⟩),rfl,q1 D (qs.map 27) _ (λb o n hb=>sl _ _ (st b o n hb)) ?_ fD1 pe ps af⟩
 .have:=F'.ns;have e:m'=m:=by
   obtain⟨o,es,ep,ho,ze,_,hf⟩:=hm;obtain⟨o2,es2,ep2,UX,JU,_,QJ⟩:=A6;rw [ho] at UX;cases UX;rw [ze] at JU;cases JU
   funext x
   rw [<-hf x,<-QJ x]
  rw [e];exact this
 obtain⟨WN,b1,b2,b3⟩:=QR;refine⟨WN,sl _ _ b1,b2,b3.imp id λba=>?_⟩;obtain⟨c3,e3,g3⟩:=ba;exact⟨c3,e3,sl _ _ g3⟩
end
open PySem M11
def Dk {K:aY}{H:Hp}{p D d:Addr}{zs:z0t}{kvs:86}{g:G}{σ:St}{js:z0i}{Qp:106}(hσ:eV ["part"] js σ=[none,aZ d])(hp:aU K H p 478)(hz:zs.length<=1000)
  (hd:Rd H d 489)(hv:754)(ha:∀z∈zs,(g z).isSome=true)(hD:H D=none)(q:∀H2,aD H H2->H2 D=some (.lst ((zs.map λz=>(g z).getD 0).map V.int))->Qp H2) :
  ∃W:Nat->490,863 /\
 ∀i m ys σ' H,529->((qE K p).stop i H/\Qp H)\/((qE K p).go i H/\∃m',m' < m/\∀x H',(qE K p).o7 i H x H'->dX 0 x σ' H' λσ2 H2=>jd σ2 H2 λb H3 =>
  if b=true then DI (hU 1) (hU 0) σ2 H3 526 else 527):=by
 refine iI (xs:=257) (λi ys σ2 H2=>ys=(((zs.take i).map λz=>(g z).getD 0).map V.int)/\(∃y0,σ2=[y0,aZ d])/\618)
  ⟨rfl,⟨none,hσ⟩,ah hD _,af⟩ (λi ys σ2 H2 _ h=>h.2.2.1.tup hp) 657 621
 .obtain⟨rfl,⟨y0,rfl⟩,sm,hd2⟩:=h;rw [bx] at ex;obtain⟨z,ez,rfl⟩:=473;have li:=(a7.mp ez).1;obtain⟨n,en⟩:=nS.mp (ha z (cv ez));have hg:b8 H2 d (.str z) (some (.int n)):=by
   have:=b8.r (k:=88) (fC.Rd.same hd sm);rw [hv,en] at this;exact this
  refine goN (A7 ?_);refine⟨_,rfl,_,rfl,d,_,rfl,hg,hd2,bX (by rw [ay,ay,fQ];omega),?_,421,?_,af⟩
  .rw [di,ez,aP,aP];show _=_++[V.int ((g z).getD 0)];rw [en];rfl
  intro b o hb;rw [585];exact sm b o hb
 obtain⟨rfl,_,sm,hd2⟩:=h;rw [ay,dW] at hd2;exact q H2 sm hd2
end L2
namespace fC
open PySem L2 M11
section
def sO (K:aY):Sp:=λvs H Q _=>∃(d r:Addr)(kvs:86)(g:G)(ru:aw),vs=[.ref d,.ref r]/\Rd H d 489/\(754)/\E7 K H r ru/\ru.2.length<=8/\(∀z∈ru.2,(g z).isSome=true)/\∀H',147->Q (.int (aR g ru)) H'
def BV:aM ["sizes","rule"] ["sizes","rule"] (ax pQ):=417
def zQ (F:jo K "rule_size" "rule_size" pQ f fd)(T:Txt mg):bO P w K mg base gb 1 f fd ["sizes","rule"] (sO K):=by
 refine F.ok BV 420 472
 .obtain⟨d,r,kvs,g,ru,rfl,_⟩:=h;rfl
 obtain⟨d,r,kvs,g,ru,rfl,hd,hv,⟨p,v1,v2⟩,h8,al,q⟩:=h;have hu:=fc hr;refine⟨_,av (bS (cu d6 aA (bo (wB rfl) rfl T.sum PyProof.Rows.boot_sum (ae (cm ["part"] [(0,"sizes")] rfl (ju 766) 487 nofun rfl nofun
   872 539 (λ_ _ _ _ _=>d5 hu 102 72 109)) ao)))),?_⟩
 dsimp only [Dj];refine⟨_,rfl,r,_,_,_,rfl,rfl,v1,rfl,p,rfl,⟨_,v2⟩,λD hD=>Dk (g:=g) rfl v2 ∅ hd hv al hD λH2 s2 e2=>?_⟩;refine⟨D,_,rfl,aX.of e2,_,_,rfl,rfl,?_⟩;exact q H2 s2
end
end fC
namespace M11
open PySem
def uO.at_ {aa:56}{aC:z0h}(h:uO aa aC):∀(i:Nat)(x:Str) (k:Nat),aC[i]?=some (x,k)->∃tD,aa[k]?=some (x,tD)/\∀p∈tD,p∈(aC.take i).map 27:=by
 induction h with
 | nil=>intro i x k e;simp at e
 | @snoc aC k2 ru h e n p ih =>
  intro i x k ei;by_cases hi:i < aC.length
  .rw [gK hi] at ei;obtain⟨tD,a,b⟩:=ih i x k ei;exact⟨tD,a,λq hq=>by rw [List.take_append_of_le_length (gq hi)];exact b q hq⟩
  have li:=(a7.mp ei).1;rw [bp,mi] at li;have e2:i=aC.length:=121
  subst e2;rw [iO 128,Nat.sub_self] at ei;cases ei;exact⟨ru.2,e,λq hq=>by rw [List.take_left'];exact p q hq;rfl⟩
end M11
namespace fC
open PySem L2 M11
section
def um {H:Hp}{p D d:Addr}{zs:z0t}{kvs:86}{σ:St}{js:z0i}{Qp:106}(hσ:eV ["part"] js σ=[none,aZ d])(hp:aU K H p 478)(hz:zs.length<=1000)
  (hd:H d=375)(ha:∀z∈zs,(88:aI)∈kvs.map 27)(hD:H D=none)(q:∀ys H2,ys.length=zs.length->aD H H2->H2 D=some (.lst ys)->Qp H2) :
  ∃W:Nat->490,863 /\
 ∀i m ys σ' H,529->((qE K p).stop i H/\Qp H)\/((qE K p).go i H/\∃m',m' < m/\∀x H',(qE K p).o7 i H x H'->dX 0 x σ' H' λσ2 H2=>jd σ2 H2 λb H3 =>
  if b=true then DI (hU 1) (hU 0) σ2 H3 526 else 527):=by
 refine iI (xs:=257) (λi ys σ2 H2=>ys.length=i/\(∃y0,σ2=[y0,aZ d])/\618)
  ⟨rfl,⟨none,hσ⟩,ah hD _,af⟩ (λi ys σ2 H2 _ h=>h.2.2.1.tup hp) 657 621
 .obtain⟨rfl,⟨y0,rfl⟩,sm,hd2⟩:=h;rw [bx] at ex;obtain⟨z,ez,rfl⟩:=473;have li:=(a7.mp ez).1;obtain⟨v,ev⟩:=nS.mp ((dj kvs 107).mpr (ha z (cv ez)));have hg:b8 H2 d (.str z) (some v):=by
   have:=b8.k (k:=88) (sm _ _ hd);rw [ev] at this;exact this
  refine goN (A7 ?_);refine⟨_,rfl,_,rfl,d,_,rfl,hg,hd2,bX ∅,by rw [bp];rfl,421,?_,af⟩;intro b o hb;rw [585];exact sm b o hb
 obtain⟨e,_,sm,hd2⟩:=h;rw [ay] at e;exact q ys H2 e sm hd2
def vL (K:aY):Sp:=λvs H Q _=>∃(R D:Addr)(rs ts:z0q)(aa:56)(aC:z0h),vs=[.ref R,.ref D]/\aX K H R 260/\520/\568/\547/\aX K H D 582/\oZ K H ts aC/\uO aa aC/\aC.length<=1000 /\
 ∀(d:Addr)(kvs:86)(H':Hp),H d=none->147->H' d=375->kvs.map 27=(aC.map 27).map Sum.inr->Q (.ref d) H'
def lX:aM ["rules","empties","trees","name","number"] ["rules","empties"] (ax sW):=417
def CA (F:jo K "empty_by_name" "empty_by_name" sW f fd)(T:Txt mg):bO P w K mg base gb 1 f fd ["rules","empties"] (vL K):=by
 refine F.ok lX 420 472
 .obtain⟨R,D,rs,ts,aa,aC,rfl,_⟩:=h;rfl
 obtain⟨R,D,rs,ts,aa,aC,rfl,hR,dA,bE,h8,hD,Xe,Va,hel,q⟩:=h;have hu:=fc hr;refine⟨_,aj (aF (i:=2) lX.nd rfl (Or.inr rfl) fV)
  (aj (cP c_ rfl (bP 102) (jh (n:=2) K rfl (aH (az (i:=3) lX.nd rfl 68) (aH (az (i:=4) lX.nd rfl 68) cI)))
   (av (gC hu (pv 2) (pv 3) (bG (ae (pv 4) (ae (bu gZ rfl T.tup xA (ae (cm ["part"] [(2,"trees")] rfl (ju (bF bH (bF e_ 72 (pv 4) 109) aA 109)) 487 nofun rfl nofun
    (λ_ _ _ _ _=>az (i:=0) (show (["part","trees"]:z0t).Nodup by decide +kernel) rfl 68) 539 (λ_ _ _ _ _=>d5 hu 102 72 109)) ao)) ao))) rfl)))
  (av (bS (pv 2)))),?_⟩
 nofun
 refine λd zf=>?_;have s1:=ah zf 418;have e1:upd H d 418 d=some 418:=af;generalize upd H d 418=H1 at s1 e1;refine goN ?_
 ac_rfl
 have lt:=bf Xe;have ll:=bf dA;have nd:=Va.nd
 let Dv:Dw:=λi σ H3=>∃(kvs:86)(y3 y4:126),σ=[aZ R,aZ D,aZ d,y3,y4]/\aD H H3/\H3 d=375/\kvs.map 27=((aC.take i).map 27).map Sum.inr
 refine⟨_,rfl,D,rfl,⟨_,s1.seq hD⟩,du (xs:=477) Dv ⟨[],_,_,rfl,s1,e1,rfl⟩ ?_ ?_ ?_⟩
 .rintro i σ H3 _ ⟨kvs,y3,y4,rfl,s3,_⟩;exact s3.seq hD
 .rintro i x σ H3 ex ⟨kvs,y3,y4,rfl,s3,ed,ek⟩
  ac_nf0
  rw [bx] at ex;obtain⟨t,et,rfl⟩:=473;have li:=(a7.mp et).1;obtain⟨e,ee⟩:∃e,aC[i]?=some e:=⟨aC[i]'∅,cx ∅⟩;obtain⟨t',et',vt⟩:=Paired.at_ Xe i e ee;rw [et] at et';cases et';obtain⟨x,k⟩:=e;obtain⟨tD,hk,C0⟩:=Va.at_ i x k ee;obtain⟨r,er,p,v1,v2⟩:=Paired.at_ dA k _ hk;have V0:Bc 260 (k:Int)=some (.ref r):=eh (by rw [bx,er];rfl);have hp8:tD.length<=8:=h8 _ (cv hk);refine⟨t,_,rfl,s3.tup vt,rfl,_,_,rfl,_,_,rfl,rfl,?_⟩;refine⟨_,rfl,_,rfl,_,rfl,R,_,_,_,rfl,rfl,s3.seq hR,V0,r,_,_,_,rfl,rfl,s3.tup v1,rfl,p,rfl,⟨_,s3.tup v2⟩,λD2 qb=>um (zs:=tD) rfl (s3.tup v2) ∅ ed (λz hz=>by rw [ek];exact cC.mpr (C0 z hz)) qb λys H4 ly s4 e4=>?_⟩;refine⟨D2,ys,rfl,.inl ⟨aX.of e4,λt2 ft2=>⟨qF,λEu QX=>?_⟩⟩⟩;have k5:=(ah ft2 (.tup ys)).trans (ah QX (.tup [.int (k:Int),.ref t2]));generalize upd (upd H4 t2 (.tup ys)) Eu (.tup [.int (k:Int),.ref t2])=H5 at k5;have ed5:=k5 _ _ (s4 _ _ ed);have lkv:kvs.length=i:=by
   have:=congrArg List.length ek;rw [ay,ay,ay,fQ] at this;omega
  have nx:x∉(aC.take i).map 27:=λz=>by
   obtain⟨e2,m2,q2⟩:=a9.mp z;obtain⟨j,hj⟩:=g9 m2;rw [rQ] at hj
   split at hj
   .rename_i hji
    have a1:(aC.map 27)[j]?=some x:=by rw [bx,hj];exact congrArg some q2
    have a2:(aC.map 27)[i]?=some x:=by rw [bx,ee];rfl
    have:=(List.getElem?_inj (by rw [ay];omega) nd).mp (a1.trans a2.symm);omega
   cases hj
  refine⟨_,rfl,_,rfl,d,_,rfl,.inl ⟨kvs,Sum.inr x,ed5,rfl,bX ∅,rfl⟩,?_⟩;refine⟨_,_,_,rfl,λb o hb=>?_,af,?_⟩
  .rw [ai (λz=>by rw [z,zf] at hb;cases hb)];exact k5 _ _ (s4 _ _ (s3 b o hb))
  rw [jf (by rw [ek];exact λz=>nx (cC.mp z)),ek,di,ee,aP,aP];rfl
 rintro σ H3 ⟨kvs,y3,y4,rfl,s3,ed,ek⟩;rw [ay,lt,dW] at ek;exact⟨_,rfl,q d kvs H3 zf s3 ed ek⟩
end
end fC
namespace M11
open PySem
def Le (g' g:G):Prop:=∀z n,g z=some n->∃m,g' z=some m/\m<=n
def Ai {g:G}{ru:aw}(f:cE bl g ru=true):lO g ru=true/\∀n,g ru.1=some n->aR g ru < n:=by
 unfold cE at f;rw [md] at f;refine⟨f.1,λn e=>?_⟩;have:=f.2;rw [e] at this;have:(!(some n:z0o).isSome || bl (aR g ru) n)=true:=this
 simpa [bl] using this
def le_step {g:G}{ru:aw}(f:cE bl g ru=true):Le 640 g:=λz n e=>by
 unfold dZ;by_cases c:z=ru.1
 .rw [ar c];subst c;exact⟨_,rfl,Int.le_of_lt ((Ai f).2 n e)⟩
 rw [aq c];exact⟨n,e,pb _⟩
theorem HQ {g g':G}(h:Le g' g):∀ps:z0t,(∀p∈ps,(g p).isSome=true)->(∀p∈ps,(g' p).isSome=true)/\(ps.map λp=>(g' p).getD 0).sum<=768
 | [],_=>⟨λp hp=>(by cases hp),pb _⟩
 | p::r,a=>by
  obtain⟨h1,h2⟩:=HQ h r λq hq=>a q (bA _ hq);obtain⟨n,en⟩:=nS.mp (a p a8);obtain⟨m,em,lm⟩:=h p n en;refine⟨λq hq=>?_,?_⟩
  .rcases a_.mp hq with rfl | hq
   .rw [em];rfl
   exact h1 q hq
  rw [bN,bN,jA,jA,en,em];show m+_<=n+_;omega
def wM {g:G}{ru:aw}:lO g ru=true↔∀p∈ru.2,(g p).isSome=true:=by
 unfold lO;rw [iJ]
def size_le {g g':G}{ru:aw}(h:Le g' g)(a:lO g ru=true):lO g' ru=true/\aR g' ru<=aR g ru:=by
 obtain⟨h1,h2⟩:=HQ h ru.2 (wM.mp a);exact⟨wM.mpr h1,by unfold aR;omega⟩
def SF (aa:56) (hs:z0t)(g:G):Prop:=∀h n,g h=some n->h∉hs\/∃ru∈aa,ru.1=h/\lO g ru=true/\aR g ru<=n
def Hw {aa:56}{hs:z0t}(g:G)(ru:aw)(j:SF aa hs g)(m:ru∈aa)(f:cE bl g ru=true):SF aa hs 640:=λh n e=>by
 have le:=le_step f;by_cases c:h=ru.1
 .have e2:n=aR g ru:=by
   unfold dZ at e;rw [ar c] at e;exact(cX e).symm
  obtain⟨a1,a2⟩:=size_le le (Ai f).1;exact .inr ⟨ru,m,c.symm,a1,∅⟩
 have e2:g h=some n:=by
  unfold dZ at e;rw [aq c] at e;exact e
 rcases j h n e2 with h1 | ⟨YI,m2,q2,a2,l2⟩
 .exact .inl h1
 obtain⟨b1,b2⟩:=size_le le a2;exact .inr ⟨YI,m2,q2,b1,∅⟩
def FV {aa:56}{hs:z0t}{g0 g:G}(j0:SF aa hs g0)(st:dY bl aa g0 g)(se:iG bl aa g){h:Str}{n:Int}(hh:h∈hs)(e:g h=some n):∃ru∈aa,ru.1=h/\lO g ru=true/\aR g ru=n:=by
 have j:SF aa hs g:=dY.keep (J:=SF aa hs) (λg ru j m f=>Hw g ru j m f) st j0;rcases j h n e with z | ⟨ru,m,q,a,l⟩
 .exact absurd hh z
 refine⟨ru,m,q,a,?_⟩;have f:=se ru m;unfold cE at f;rw [a,q,e] at f;have f:(true && (!(some n:z0o).isSome || bl (aR g ru) n))=false:=f
 have f2:¬aR g ru < n:=by simpa [bl] using f
 omega
theorem Ei {g:G}(nn:NN g):∀(ps:z0t)(p:Str) (m:Int),p∈ps->g p=some m->m<=768
 | q::r,p,m,hp,e=>by
  rw [bN,jA];have h1:=jY g nn r;rcases a_.mp hp with rfl | hp
  .rw [e];show m<=m+_;omega
  have h2:=Ei nn r p m hp e;have h3:0<=(g q).getD 0:=by
   cases eq:g q with
   | none=>exact pb _
   | some n=>exact nn q n eq
  omega
def Fu {g:G}(nn:NN g){ru:aw}{p:Str}{m:Int}(hp:p∈ru.2)(e:g p=some m):m < aR g ru:=by
 have:=Ei nn ru.2 p m hp e;unfold aR;omega
theorem DA:∀(cN ps bD:z0t),(∀z∈bD,z∉cN)->∀z∈qR cN bD ps,z∉cN
 | _,[],bD,h=>h
 | cN,p::r,bD,h=>by
  show ∀z∈qR cN (addW cN bD p) r,z∉cN;refine DA cN r _ ?_;unfold addW
  split
  .exact h
  rename_i hp
  unfold eK
  split
  .exact h
  intro z hz;rcases cw.mp hz with hz | hz
  .exact h z hz
  rw [bj.mp hz];exact hp
def xV {g:Str->Int}{zs:z0t}(h:zs.Pairwise λx y=>g x<=g y){i:Nat}{x p:Str}(e:zs[i]?=some x)(hp:p∈zs)(l:g p < g x):p∈zs.take i:=by
 obtain⟨j,ej⟩:=g9 hp;obtain⟨li,ei⟩:=a7.mp e;obtain⟨lj,ej2⟩:=a7.mp ej;have hji:j < i:=by
  rcases Nat.lt_trichotomy j i with h1 | h1 | h1
  .exact h1
  .subst h1;rw [e] at ej;cases ej;omega
  have:=Bo.mp h i j li lj h1;rw [ei,ej2] at this;omega
 rw [List.mem_iff_getElem?];exact⟨j,by rw [rQ,ar hji];exact ej⟩
end M11
namespace fC
open PySem L2 M11
def X3 (aa:56):SF aa (hd aa) (A8 aa):=λh n e=>by
 unfold A8 at e;by_cases c:h∈qR (hd aa) [] 665
 .exact .inl (DA _ _ [] (λz hz=>by cases hz) h c)
 rw [aq c] at e;cases e
def nn0 (aa:56):NN (A8 aa):=λh n e=>by
 unfold A8 at e;by_cases c:h∈qR (hd aa) [] 665
 .rw [ar c] at e;cases e;exact pb _
 rw [aq c] at e;cases e
def PZ {aa:56}{g:G}(st:dY M11.bl aa (A8 aa) g):NN g:=dY.keep (J:=NN) (λg ru j m f=>yq j ru) st (nn0 aa)
theorem DB (cN:z0t):∀(ps bD:z0t)(x:Str),(x∈bD\/(x∈ps/\x∉cN))->x∈qR cN bD ps
 | [],bD,x,h=>by
  rcases h with h | ⟨h,_⟩
  .exact h
  cases h
 | p::r,bD,x,h=>by
  show x∈qR cN (addW cN bD p) r;apply DB cN r;unfold addW;by_cases c:p∈cN
  .rw [ar c];rcases h with h | ⟨h,n⟩
   .exact .inl h
   rcases a_.mp h with z | z
   .exact absurd (z ▸ c) n
   exact .inr ⟨z,n⟩
  rw [aq c];rcases h with h | ⟨h,n⟩
  .exact .inl ((ie _ _ _).mpr (.inl h))
  rcases a_.mp h with z | z
  .exact .inl ((ie _ _ _).mpr (.inr z))
  exact .inr ⟨z,n⟩
def TV:z0s->Pos
 | [_,_,_,.For _ (.Call _ _ [⟨_,.Lambda _ _ _ pos,_⟩] _) _ _ _,_]=>pos
 | _=>⟨0,0,0,0⟩
abbrev posB:Pos:=TV (b9 om)
abbrev KY:Str := "least_by_part" ++ ".<locals>." ++ "<lambda>"
section
def pO (K:aY)(T1 T3:Addr):Sp:=λvs H Q _=>∃(R:Addr)(rs:z0q)(aa:56),vs=[.ref R]/\aX K H R 260/\520/\aa.length < 64/\547/\(881)/\Tab T1 tO.2.2.2 A3 H/\Tab T3 posB KY H/\T1≠T3 /\
 ∀(d:Addr)(kvs:86)(H':Hp),H d=none->mH T1 T3 H H'->Tab T1 tO.2.2.2 A3 H'->Tab T3 posB KY H'->H' d=375->(∀z,z∈hd aa->(88:aI)∈kvs.map 27)->Q (.ref d) H'
structure LB (K:aY)(rs:z0q)(aa:56)(rf:86)(ps:z0f)(R dz dn T1 T3:Addr)(H5:Hp):Prop where
 hR:aX K H5 R 260
 dA:bY K H5 rs aa
 nm:Lb ps (λn=>nums aa n aa.length) H5 dn
 rz:Rd H5 dz (.dK rf)
 t1:Tab T1 tO.2.2.2 A3 H5
 t3:Tab T3 posB KY H5
theorem LB.same {rs:z0q}{aa:56}{rf:86}{ps:z0f}{R dz dn T1 T3:Addr}{H5 H6:Hp}(h:LB K rs aa rf ps R dz dn T1 T3 H5)(s:aD H5 H6):LB K rs aa rf ps R dz dn T1 T3 H6 :=
 ⟨s.seq h.hR,h.dA.same s,h.nm.same s,fC.Rd.same h.rz s,h.t1.same s,h.t3.same s⟩
def LB.NX {rs:z0q}{aa:56}{rf:86}{ps:z0f}{R dz dn T1 T3 d:Addr}{H5 H6:Hp}{kv:86}(h:LB K rs aa rf ps R dz dn T1 T3 H5)(e:H5 d=some (.dK kv))(n1:dn≠d)(n2:dz≠d)(s:gi d H5 H6):LB K rs aa rf ps R dz dn T1 T3 H6:=by
 have tk:∀a xs,aU K H5 a xs->aU K H6 a xs:=λa xs z=>by
  rcases z with (z | ⟨u,z⟩) | z
  .exact .inl (.inl (s _ _ (λy=>by rw [y,e] at z;cases z) z))
  .exact .inl (.inr ⟨u,s _ _ (λy=>by rw [y,e] at z;cases z) z⟩)
  exact .inr z
 have tb:∀{T':Addr}{pos':Pos}{KU:Str},Tab T' pos' KU H5->Tab T' pos' KU H6:=λ{T' pos' KU} ⟨p,a,b,cc⟩=>⟨p,s _ _ (λy=>by rw [y,e] at a;cases a) a,b,cc.imp id λ⟨c',e1,e2⟩=>⟨c',e1,s _ _ (λy=>by rw [y,e] at e2;cases e2) e2⟩⟩;refine⟨?_,h.dA.keep tk,⟨s _ _ n1 h.nm.hd,h.nm.n1,h.nm.n2,λp hp=>s _ _ (λy=>by have a:=h.nm.lst p hp;rw [y,e] at a;cases a) (h.nm.lst p hp)⟩,?_,tb h.t1,tb h.t3⟩
 .rcases h.hR with (z | ⟨u,z⟩) | z
  .exact .inl (.inl (s _ _ (λy=>by rw [y,e] at z;cases z) z))
  .exact .inl (.inr ⟨u,s _ _ (λy=>by rw [y,e] at z;cases z) z⟩)
  exact .inr z
 rcases h.rz with z | ⟨u,z⟩
 .exact .inl (s _ _ n2 z)
 exact .inr ⟨u,s _ _ n2 z⟩
def LB.Tu {rs:z0q}{aa:56}{rf:86}{ps:z0f}{R dz dn T1 T3:Addr}{H5 H6:Hp}(h:LB K rs aa rf ps R dz dn T1 T3 H5)(nT:T1≠T3)(s:gi T3 H5 H6)(t:Tab T3 posB KY H6):LB K rs aa rf ps R dz dn T1 T3 H6:=by
 obtain⟨pt,eT,_⟩:=id h.t3;refine⟨DY s h.t3 h.hR,h.dA.keep λ_ _ z=>DC s h.t3 z,⟨s _ _ (λy=>by have a:=h.nm.hd;rw [y,eT] at a;cases a) h.nm.hd,h.nm.n1,h.nm.n2,λp hp=>s _ _ (λy=>by have a:=h.nm.lst p hp;rw [y,eT] at a;cases a) (h.nm.lst p hp)⟩,?_,DF s h.t3 h.t1 nT,t⟩;rcases h.rz with z | ⟨u,z⟩
 .exact .inl (s _ _ (λy=>by rw [y,eT] at z;cases z) z)
 exact .inr ⟨u,s _ _ (λy=>by rw [y,eT] at z;cases z) z⟩
theorem p8:∀(hs:z0t)(bD:86) (as:z0t),bD.map 27=as.map Sum.inr->(cR (hs.map λh=>((Sum.inr h:aI),V.str h)) bD).map 27=(M11.yL as hs).map Sum.inr
 | [],bD,as,e=>e
 | h::r,bD,as,e=>p8 r (bB bD (Sum.inr h) (.str h)) (M11.eK as h) (fC.jI e h)
def iH:aM ["rules","numbers","trees","name","least","sizes"] 159 (ax om):=417
def Cz {T1 T3:Addr}(F:AW K "least_by_part" "least_by_part" om f fd T3)(T:Txt mg)(hB:uH mg base)(hS:mg "sorted"=none)(GH:aL P w K mg base 3 "heads_of" 159 (lV K))(GL:aL P w K mg base 3 "least_sizes" 159 (qV K T1))(GN:aL P w K mg base 3 "numbers_by_name" 159 (BM K))(GZ:aL P w K mg base 3 "rule_size" ["sizes","rule"] (sO K)):bO P w K mg base gb 4 f fd 159 (pO K T1 T3):=by
 refine F.ok iH 420 (λc A outer s H vs Q E hC hr h=>?_)
 .obtain⟨R,rs,aa,rfl,_⟩:=h;rfl
 obtain⟨R,rs,aa,rfl,hR,dA,bE,h8,JT,MK,hT3,nT,q⟩:=h;have hu:=fc hr;refine⟨_,aj (aF (i:=5) iH.nd rfl (Or.inr rfl) (bZ GL hr rfl 497))
  (aj (aF (i:=1) iH.nd rfl (Or.inr rfl) (bZ GN hr rfl 497))
  (aj (aF (i:=2) iH.nd rfl (Or.inr rfl) (bu (d8 rfl) rfl T.ET fY (ae (cm ["part"] [(1,"numbers")] rfl (Ee (pv 5)) 487 nofun rfl nofun
    (λ_ _ _ _ _=>az (i:=0) (show (["part","numbers"]:z0t).Nodup by decide +kernel) rfl 68) (λ_ _ _ _ _=>j4 (eM (de hu 72 102))) (λ_ _ _ _ _=>bG (ae 72 497))) ao)))
  (aj (cP c_ rfl (bP (IE (i:=5) (T:=T3) hr rfl hC hB rfl hS (ae (bZ GH hr rfl 497) ao) rfl rfl (λy hy=>by
    rcases a_.mp hy with h | h
    .cases h
    rcases a_.mp h with h | h
    .cases h;rfl
    cases h) (λq cl pm ic c' us hl=>match us,hl with | [_],_=>rfl) rfl rfl rfl nofun rfl rfl)) (az (i:=3) iH.nd rfl (Or.inr rfl))
   (aj (j3 (iy:=4) ["number"] [(5,"sizes"),(0,"rules"),(3,"name")] iH.nd rfl rfl rfl (bP (d5 hu 102 (pv 3) 109)) 487 nofun rfl nofun
    (λ_ _ _ _ _=>az (i:=0) (show (["number","sizes","rules","name"]:z0t).Nodup by decide +kernel) rfl 68) (λ_ _ _ _ _=>j4 (cS oz (bZ GZ hr rfl (ae 102 (ae (bF (JD K) (pv 2) 72 109) ao))) (d5 hu 102 (pv 3) 109) (cT _))) (λ_ _ _ _ _=>pv 0))
   (av (gC hu (pv 2) (pv 3) (bG (ae (bF e_ (pv 4) aA 109) (ae (bu gZ rfl T.tup xA (ae (cm ["part"] [(2,"trees")] rfl (ju (bF bH (bF e_ 72 (bF e_ (pv 4) aA 109) 109) aA 109)) 487 nofun rfl nofun
    (λ_ _ _ _ _=>az (i:=0) (show (["part","trees"]:z0t).Nodup by decide +kernel) rfl 68) 539 (λ_ _ _ _ _=>d5 hu 102 72 109)) ao)) ao))) rfl))))
  (av (bS (pv 2)))))),?_⟩
 nofun
 refine⟨_,rfl,R,rs,aa,rfl,hR,dA,∅,h8,MK,λdz rf NV g H1 fz s1 t1 ez kz vz WH sez lz=>?_⟩;refine goN ?_
 ac_rfl
 have hR1:=DY s1 MK hR;have UN:=dA.keep λ_ _ z=>DC s1 MK z;have t31:=DF s1 MK hT3 (dC nT);refine⟨_,rfl,R,rs,aa,rfl,hR1,UN,∅,λdn ps H2 fn s2 nm pk pf=>?_⟩;refine goN ?_
 ac_rfl
 have Sl:=s2 _ _ ez;refine⟨_,rfl,dz,rf,rfl,Sl,λo D hD=>?_⟩;have RN:∀p∈ps,p.2≠dz:=λp hp z=>by
  have a:=nm.lst p hp;rw [z,Sl] at a;cases a
 have ndz:dn≠dz:=λz=>by rw [z,ez] at fn;cases fn
 have nz1:T1≠dz:=λz=>by
  obtain⟨p,a,_⟩:=t1;rw [z,ez] at a;cases a
 have nz3:T3≠dz:=λz=>by
  obtain⟨p,a,_⟩:=t31;rw [z,ez] at a;cases a
 have SV:∀{T':Addr}{pos':Pos}{KU:Str},T'≠dz->Tab T' pos' KU H2->Tab T' pos' KU (upd H2 dz (.mD o (.dK rf))):=λ{T' pos' KU} n ⟨p,a,b,cc⟩=>⟨p,by rw [ai n];exact a,b,cc.imp id λ⟨c',e1,e2⟩=>⟨c',e1,by rw [ai (λz=>by rw [z,Sl] at e2;cases e2)];exact e2⟩⟩;have L3:LB K rs aa rf ps R dz dn T1 T3 (upd H2 dz (.mD o (.dK rf))):=by
  refine⟨?_,(UN.same s2).keep λ_ _ z=>hV Sl z,⟨by rw [ai ndz];exact nm.hd,nm.n1,nm.n2,λp hp=>by rw [ai (RN p hp)];exact nm.lst p hp⟩,.inr ⟨o,af⟩,SV nz1 (t1.same s2),SV nz3 (t31.same s2)⟩;rcases s2.seq hR1 with (h | ⟨u,h⟩) | h
  .exact .inl (.inl (by rw [ai (λz=>by rw [z,Sl] at h;cases h)];exact h))
  .exact .inl (.inr ⟨u,by rw [ai (λz=>by rw [z,Sl] at h;cases h)];exact h⟩)
  exact .inr h
 have e3:upd H2 dz (.mD o (.dK rf)) dz=some (.mD o (.dK rf)):=af;have KS:mH T1 T3 H (upd H2 dz (.mD o (.dK rf))):=λb u n1 n3 hb=>by
  rw [ai (λz=>by rw [z,fz] at hb;cases hb)];exact s2 _ _ (s1 b u n1 hb)
 generalize upd H2 dz (.mD o (.dK rf))=H3 at hD L3 e3 KS ⊢;have lkz:rf.length=NV.length:=by
  have:=congrArg List.length kz;rwa [ay,ay] at this
 refine uu (λi ys σ2 H4=>∃ts:z0q,ys=477/\(∃y0,σ2=[y0,aZ dn])/\aD H3 H4/\H4 D=some (.lst ys)/\ts.length<=i/\Paired (λt h=>aU K H4 t [.str h,.str h]) ts ((NV.take i).filter λz=>!decide (z∈hd aa)))
  ⟨[],rfl,⟨none,rfl⟩,ah hD _,af,aE _,.nil⟩ (λi ys σ2 H4 _ h=>?_) (λi kv ys σ2 H4 ex h=>?_) (λys σ2 H4 h=>?_)
 .obtain⟨_,_,_,sm,_⟩:=h;exact sm _ _ e3
 .obtain⟨ts,rfl,⟨y0,rfl⟩,sm,e4,Zr,pt⟩:=h;obtain⟨z,Xm,ekz⟩:∃z,NV[i]?=some z/\kv.1=88:=by
   have a1:(rf.map 27)[i]?=some kv.1:=by rw [bx,ex];rfl
   rw [kz,bx] at a1;obtain⟨z,a2,a3⟩:=cH.mp a1;exact⟨z,a2,a3.symm⟩
  rw [ekz];have L4:=L3.same sm;have uL:(aQ (ps.map iz) 107).isSome=decide (z∈hd aa):=by
   rw [jU,dj,decide_eq_true_iff,<-pk];rw [eE];constructor
   .intro h;obtain⟨p,hp,e⟩:=a9.mp h;exact a9.mpr ⟨p,hp,mM e⟩
   intro h;obtain⟨p,hp,e⟩:=a9.mp h;exact a9.mpr ⟨p,hp,congrArg Sum.inr e⟩
  refine goN ?_;refine⟨_,rfl,_,rfl,dn,_,rfl,b8.k (k:=88) L4.nm.hd,_,rfl,?_⟩;rw [uL];have Vy:((NV.take (i+1)).filter λz=>!decide (z∈hd aa))=((NV.take i).filter λz=>!decide (z∈hd aa))++(if (!decide (z∈hd aa))=true then [z] else []):=by
   rw [di,Xm,m_]
   congr 1
   by_cases c:z∈hd aa <;> simp [c]
  refine fO (λcc=>?_) (λcc=>?_)
  .refine⟨_,rfl,_,rfl,qF,λt ht=>?_⟩;have k5:=ah ht (.tup [kV 107,kV 107]);have v5:aU K (upd H4 t (.tup [kV 107,kV 107])) t [.str z,.str z]:=aU.of af;generalize upd H4 t (.tup [kV 107,kV 107])=H5 at k5 v5;have li:=(a7.mp ex).1;have e5:=k5 _ _ e4;refine⟨e5,507,ts++[t],by rw [aP];rfl,421,λb u hb=>?_,af,by rw [bp,mi];omega,?_⟩
   .rw [585];exact k5 _ _ (sm b u hb)
   rw [Vy,ar cc];exact ff (Paired.cJ pt λ_ _ z=>bK e5 (k5.tup z)) (bK e5 v5)
  refine⟨ts,rfl,421,sm,e4,∅,?_⟩;rw [Vy,aq cc,dG];exact pt
 obtain⟨ts,rfl,_,s4,e4,Zr,pt⟩:=h;rw [lkz,dW] at pt;have hwk:∀z,z∉hd aa->(g z).isSome=true->z∈NV.filter λz=>!decide (z∈hd aa):=λz hz gz=>by
  refine i9.mpr ⟨?_,by simpa using hz⟩;have a1:(aQ rf 107).isSome=true:=by rw [vz,pG];exact gz
  rw [dj,kz] at a1;exact cC.mp a1
 have lws:(NV.filter λz=>!decide (z∈hd aa)).length<=20000:=cW (ql _ _) ∅;generalize NV.filter (λz=>!decide (z∈hd aa))=ws at pt hwk lws;have kp:Paired (λt (kv:aI×V)=>aU K H4 t [kV kv.1,kv.2]) ts (ws.map λh=>((Sum.inr h:aI),V.str h)):=cM pt 479;refine⟨D,ts,_,rfl,e4,kp,λdt ze=>?_⟩;have kt:∀z∈ws,(88:aI)∈(cR (ws.map λh=>((Sum.inr h:aI),V.str h)) []).map 27:=λz hz=>by
  rw [p8 ws [] [] rfl];exact cC.mpr ((gY ws [] z).mpr (.inr hz))
 have lkt:(cR (ws.map λh=>((Sum.inr h:aI),V.str h)) []).length<=20000:=by
  have a:=congrArg List.length (p8 ws [] [] rfl);rw [ay,ay] at a;have:=jn ws [];simp only [kq] at this;omega
 generalize cR (ws.map λh=>((Sum.inr h:aI),V.str h)) []=Uw at kt lkt;have s5:=s4.trans (ah ze (.dK Uw));have e5:upd H4 dt (.dK Uw) dt=some (.dK Uw):=af;have Ob:H3 dt=none:=s4.free ze;generalize upd H4 dt (.dK Uw)=H5 at s5 e5;have L5:=L3.same s5;refine goN ?_
 ac_rfl
 refine⟨_,rfl,R,rs,aa,rfl,L5.hR,L5.dA,∅,λDH H6 fH s6 eH=>?_⟩;have L6:=L5.same s6;have Qb:=jn 567 [];simp only [kq,ay] at Qb;have gz:∀z∈hd aa,∃n,g z=some n:=λz hz=>by
  obtain⟨n,e,_⟩:=JT g WH sez z hz;exact⟨n,e⟩
 refine⟨L6.t3,DH,hd aa,dz,rf,λz=>(g z).getD 0,rfl,aX.of eH,by unfold hd;omega,rfl,L6.rz,λz hz=>by obtain⟨n,e⟩:=gz z hz;rw [vz,e];show _=some (V.int ((g z).getD 0));rw [e];rfl,λl lU H7 s7 t37 fl pe pw el=>?_⟩;have L7:=L6.Tu nT s7 t37;have Zc:dt≠T3:=λz=>by
  obtain⟨p,a,_⟩:=L5.t3;rw [<-z,e5] at a;cases a
 have e7:=s7 _ _ Zc (s6 _ _ e5);have ndn:dn≠dt:=λz=>by have a:=L3.nm.hd;rw [z,Ob] at a;cases a
 have nzt:dz≠dt:=λz=>by rw [<-z,e3] at Ob;cases Ob
 have Pj:mH T1 T3 H H7:=λb u n1 n3 hb=>s7 _ _ n3 (s6 _ _ (s5 _ _ (KS b u n1 n3 hb)));have Y9:l≠dt:=λz=>by rw [z,s6 _ _ e5] at fl;cases fl
 have nn:=PZ WH;have hlz:lU.length < 64:=by rw [pe.length_eq];unfold hd;omega
 have V4:∀ru∈aa,∀p∈ru.2,(g p).isSome=true:=λru zc p hp=>by
  by_cases hh:p∈hd aa
  .obtain⟨n,e⟩:=gz p hh;rw [e];rfl
  have j0:∃n,A8 aa p=some n:=⟨0,ar (DB _ _ [] p (.inr ⟨iK.mpr ⟨ru,zc,hp⟩,hh⟩))⟩;have:∃n,g p=some n:=dY.keep (J:=λg=>∃n,g p=some n) (λg ru ⟨n,e⟩ m f=>by obtain⟨k,a,_⟩:=le_step f p n e;exact⟨k,a⟩) WH j0;obtain⟨n,e⟩:=this;rw [e];rfl
 have ll:=bf dA
 let Dv:Dw:=λi σ H8=>∃(kvs:86)(y3 y4:126),σ=[aZ R,aZ dn,aZ dt,y3,y4,aZ dz]/\gi dt H7 H8/\H8 dt=375/\kvs.length<=20000+i/\(∀z∈ws,(88:aI)∈kvs.map 27)/\(∀z∈lU.take i,(88:aI)∈kvs.map 27)
 refine⟨l,rfl,⟨_,aX.of el⟩,du (xs:=lU.map V.str) Dv ⟨Uw,_,_,rfl,λ_ _ _ h=>h,e7,∅,kt,λz hz=>by cases hz⟩ ?_ ?_ ?_⟩
 .rintro i σ H8 _ ⟨kvs,y3,y4,rfl,s8,_⟩;exact aX.of (s8 _ _ Y9 el)
 .rintro i x σ H8 ex ⟨kvs,y3,y4,rfl,s8,e8,RR,Zz,Uv⟩
  ac_nf0
  rw [bx] at ex;obtain⟨z,Xn,rfl⟩:=473;have li:=(a7.mp Xn).1;have hz:z∈hd aa:=pe.mem_iff.mp (cv Xn);obtain⟨n,egz⟩:=gz z hz;have L8:=L7.NX e7 ndn nzt s8;obtain⟨p,hp,Z2⟩:=a9.mp (show z∈ps.map 27 by rw [pk];exact hz);refine goN ?_
  ac_rfl
  have hgn:b8 H8 dn (.str z) (some (.ref p.2)):=by
   have:=b8.k (k:=88) L8.nm.hd;rw [<-Z2,fM ps L8.nm.n1 p hp] at this;rw [Z2] at this;exact this
  have W8:=L8.nm.lst p hp;have W8:H8 p.2=some (.lst ((666).map V.int)):=by rw [<-Z2];exact W8
  have numOf:∀(m:Nat) (v:Int),(666)[m]?=some v->∃(j:Nat)(ru:aw),v=124/\aa[j]?=some ru/\ru.1=z:=λm v e=>by
   unfold nums at e;rw [bx] at e;obtain⟨j,e1,rfl⟩:=cH.mp e;have hj:=(i9.mp (cv e1)).2;have hj:(aa[j]?.map 27)=some z:=dJ hj;obtain⟨ru,e2,e3⟩:=cH.mp hj;exact⟨j,ru,rfl,e2,e3⟩
  have aaY:=zR aa z aa.length
  let good:Int->Bool:=λv=>match aa[v.toNat]? with | some ru=>decide (aR g ru=n) | none=>false
  have wit:∃v∈666,good v=true:=by
   obtain⟨ru,zc,q1,_,q3⟩:=FV (X3 aa) WH sez hz egz;obtain⟨j,ej⟩:=g9 zc;have lj:=(a7.mp ej).1;refine⟨124,a9.mpr ⟨j,i9.mpr ⟨cb.mpr lj,dS (by rw [ej];exact congrArg some q1)⟩,rfl⟩,?_⟩;show 883=true
   rw [ku,ej];exact dS q3
  refine⟨_,rfl,_,rfl,dn,_,rfl,hgn,p.2,rfl,⟨_,aX.of W8⟩,λD9 K4=>dB (xs:=(666).map V.int) (λm ys σ2 H9=>ys=(((666).take m).filter good).map V.int/\(∃y0,σ2=[y0,aZ dz,aZ R,some (.str z)])/\aD H8 H9/\H9 D9=some (.lst ys))
   ⟨rfl,⟨none,rfl⟩,ah K4 _,af⟩ (λm ys σ2 H9 _ h=>?_) (λm x ys σ2 H9 em h=>?_) (λys σ2 H9 h=>?_)⟩
  .obtain⟨_,_,sm,_⟩:=h;exact aX.of (sm _ _ W8)
  .obtain⟨rfl,⟨y0,rfl⟩,sm,e9⟩:=h;rw [bx] at em;obtain⟨v,ev,rfl⟩:=cH.mp em;have lm:=(a7.mp ev).1;obtain⟨j,ru,rfl,ej,Xr⟩:=numOf m v ev;have L9:=L8.same sm;obtain⟨r,er,rv⟩:=Paired.at_ L9.dA j ru ej;have V0:Bc 260 124=some (.ref r):=eh (by rw [bx,er];rfl);have gj:good 124=decide (V.int (aR g ru)=V.int n):=by
    show 883=_
    rw [ku,ej];show decide (aR g ru=n)=_;by_cases c:aR g ru=n
    .rw [dS c,dS (congrArg V.int c)]
    rw [gh c,gh (λy=>c (by injection y))]
   refine goN ?_;refine⟨_,rfl,_,rfl,_,rfl,R,_,_,_,rfl,rfl,L9.hR,V0,dz,r,rf,g,ru,rfl,L9.rz,vz,rv,h8 ru (cv ej),V4 ru (cv ej),λvf uJ=>?_⟩;have hgz:b8 vf dz (.str z) (some (.int n)):=by
    have:=b8.r (k:=88) (L9.same uJ).rz;rw [vz,egz] at this;exact this
   refine⟨_,rfl,_,rfl,dz,_,rfl,hgz,rfl,_,rfl,?_⟩;rw [<-gj];have Vy:((666).take (m+1)).filter good=((666).take m).filter good++(if good 124=true then [124] else []):=by
    rw [di,ev,m_]
    congr 1
    show List.filter good [124]=_;by_cases c:good 124=true
    .rw [ar c,wV,ar c,List.filter_nil]
    rw [aq c,wV,aq c,List.filter_nil]
   have lf:(((666).take m).filter good).length<=1000:=cW (ql _ _) (by rw [fQ];omega);refine fO (λcc=>?_) (λcc=>?_)
   .refine⟨_,rfl,uJ _ _ e9,507,by rw [Vy,ar cc,aP];rfl,421,λb u hb=>?_,af⟩;rw [ai (λz=>by rw [z,K4] at hb;cases hb)];exact uJ _ _ (sm b u hb)
   exact⟨by rw [Vy,aq cc,dG],421,sm.trans uJ,uJ _ _ e9⟩
  obtain⟨rfl,_,s9,e9⟩:=h;rw [ay,dW] at e9;refine goN ?_
  ac_rfl
  have L9:=L8.same s9;cases hf:(666).filter good with
  | nil =>
   obtain⟨v,hv,gv⟩:=wit;have:v∈(666).filter good:=i9.mpr ⟨hv,gv⟩;rw [hf] at this;cases this
  | cons v0 vr =>
   rw [hf] at e9;have hm0:v0∈(666).filter good:=by rw [hf];exact a8
   obtain⟨Z_,Xb⟩:=i9.mp hm0;obtain⟨m0,em0⟩:=g9 Z_;obtain⟨j,ru,rfl,ej,Xr⟩:=numOf m0 v0 em0;have hsz:aR g ru=n:=by
    have Xb:883=true:=Xb
    rw [ku,ej] at Xb;exact dJ Xb
   have zc:=cv ej;obtain⟨r,er,pp,v1,v2⟩:=Paired.at_ L9.dA j ru ej;have V0:Bc 260 124=some (.ref r):=eh (by rw [bx,er];rfl);have AJ:Bc (V.int 124::vr.map V.int) 0=some (.int 124):=eh (j:=0) rfl;have e9:H9 D9=some (.lst (V.int 124::vr.map V.int)):=e9;have e89:=s9 _ _ e8;have r8:=h8 ru zc;have ZE:∀p∈ru.2,(Sum.inr p:aI)∈kvs.map 27:=λy hy=>by
    obtain⟨my,ey⟩:=nS.mp (V4 ru zc y hy);by_cases hh:y∈hd aa
    .refine Uv y (xV pw Xn (pe.mem_iff.mpr hh) ?_);show (g y).getD 0 < (g z).getD 0;rw [ey,egz];show my < n;rw [<-hsz];exact Fu nn hy ey
    exact Zz y (hwk y hh (by rw [ey];rfl))
   refine⟨_,rfl,D9,_,_,_,rfl,rfl,aX.of e9,AJ,_,rfl,_,rfl,D9,_,_,_,rfl,rfl,aX.of e9,AJ,R,_,_,_,rfl,rfl,L9.hR,V0,r,_,_,_,rfl,rfl,v1,rfl,pp,rfl,⟨_,v2⟩,λD10 aal=>um (zs:=ru.2) rfl v2 ∅ e89 ZE aal λys vf ly uJ Dh=>?_⟩;refine⟨D10,ys,rfl,.inl ⟨aX.of Dh,λt2 ft2=>⟨qF,λEu QX=>?_⟩⟩⟩;have NZ:=(ah ft2 (.tup ys)).trans (ah QX (.tup [.int 124,.ref t2]));generalize upd (upd vf t2 (.tup ys)) Eu (.tup [.int 124,.ref t2])=G3 at NZ;have Tz:=(s9.trans uJ).trans NZ;have K9:=Tz _ _ e8;refine⟨_,rfl,_,rfl,dt,_,rfl,.inl ⟨kvs,88,K9,rfl,bX ∅,rfl⟩,?_⟩;have JA:∀y:aI,(y∈kvs.map 27\/y=88)->y∈(bB kvs 107 (.ref Eu)).map 27:=λy hy=>by
    by_cases hk:(88:aI)∈kvs.map 27
    .rw [Ck hk];rcases hy with hy | rfl
     .exact hy
     exact hk
    rw [jf hk];rcases hy with hy | rfl
    .exact g_ _ hy
    exact eZ _ a8
   have aa1:(bB kvs 107 (.ref Eu)).length<=kvs.length+1:=by
    have a:=congrArg List.length (Eq.refl ((bB kvs 107 (.ref Eu)).map 27));by_cases hk:(88:aI)∈kvs.map 27
    .have b:=congrArg List.length (Ck (v:=.ref Eu) hk);rw [ay,ay] at b;omega
    have b:=congrArg List.length (jf (v:=.ref Eu) hk);rw [ay,bp,ay,mi] at b;omega
   refine⟨_,_,_,rfl,λb u nb hb=>?_,af,∅,λy hy=>JA _ (.inl (Zz y hy)),λy hy=>?_⟩
   .rw [ai nb];exact Tz _ _ (s8 b u nb hb)
   rw [di,Xn] at hy;rcases cw.mp hy with hy | hy
   .exact JA _ (.inl (Uv y hy))
   exact JA _ (.inr (by rw [bj.mp (show y∈[z] from hy)]))
 rintro σ H8 ⟨kvs,y3,y4,rfl,s8,e8,RR,Zz,Uv⟩;rw [ay,dW] at Uv;have L8:=L7.NX e7 ndn nzt s8;refine⟨_,rfl,q dt kvs H8 ?_ (λb u n1 n3 hb=>?_) L8.t1 L8.t3 e8 λz hz=>Uv z (pe.mem_iff.mpr hz)⟩
 .cases c:H dt with
  | none=>rfl
  | some u =>
   by_cases h1:dt=T1
   .obtain⟨pp,a,_⟩:=L3.t1;rw [<-h1,Ob] at a;cases a
   rw [KS dt u h1 Zc c] at Ob;cases Ob
 refine s8 _ _ (λz=>?_) (Pj b u n1 n3 hb);rw [z] at hb;rw [KS dt u (λy=>n1 (z.trans y)) Zc hb] at Ob;cases Ob
end
end fC
namespace L2
open PySem PySem.Spec PyProof.Rows
section
variable {prog:Program}{w:World}{A:Around}{E:z0b}
def xH {h h':Heap}{ks:List aI}{a:Addr}(p:(689).is h ks a)(k:∀b o,o.cls=378 -> h.get? b=65->162=65):(689).is h' ks a :=
 let ⟨o,aT,n,h1,h2,h3,h4⟩:=p;⟨o,aT,n,k a o h2 h1,h2,h3,h4⟩
def yK {h h':Heap}{d:Addr}{xs:565}(hd:h.DictOfH (689) d xs)(kd:∀o,h.get? d=65->h'.get? d=65)(k:∀b o,o.cls=378 -> h.get? b=65->162=65) :
  h'.DictOfH (689) d xs :=
 let ⟨o,es,ep,q,c,dd,e,is,n⟩:=hd;⟨o,es,ep,kd o q,c,dd,e,λx hx=>xH (is x hx) k,n⟩
def l7 (prog:Program)(w:World)(h:Heap)(u:Value)(kv:List aI×Addr×Value):Prop :=
 ∃t n o,u=.ref t/\(689).is h kv.1 kv.2.1/\h.get? t=65/\o.cls=378 /\ o.data=.seq #[.ref kv.2.1,kv.2.2] n
def l7.keep {h h':Heap}{u:Value}{kv:List aI×Addr×Value}(p:l7 prog w h u kv)(k:∀b o,o.cls=378 -> h.get? b=65->162=65):l7 prog w h' u kv :=
 let ⟨t,n,o,a,b,c,d,e⟩:=p;⟨t,n,o,a,xH b k,k t o d c,d,e⟩
def EM (more xs:565):565:=more.foldl (λa p=>storedH a p.1 p.2.1 p.2.2) xs
def MR {R:Result->146}{d it l:Addr}{items:z0k}(hh:569)(hu:A.units+1 < cLine):∀(more:565) (i:Nat)(s:Shared)(kvs:565) (j:Int)(tk:Tok),items.size=i+more.length ->
  s.heap.DictOfH (689) d kvs->s.heap.IsListIter it l i->s.heap.IsList l items->(∀m kv,more[m]?=some kv->∃u,items[i+m]?=some u/\l7 prog w s.heap u kv)->kvs.length+more.length<=sizeLine ->
  (∀h' t',h'.DictOfH (689) d (EM more kvs)->(∀b o,b≠d->b≠it->259->162=65)->R (.ok (.ret .none)) 619) ->
  codeAny 140 A (.builtin "dict.update.loop" ⟨[.ref d,.ref it,.int j tk,.none],[]⟩) R s:=by
 intro more
 induction more with
 | nil =>
  intro i s kvs j tk hi hd hit hl hp hz hR;refine rA lZ ?_;rw [rT fE _];unfold Builtin.«dict.update.loop»;have hs:items[i]?=none:=Bi (by rw [hi];exact aE _);refine au (xr hh hit hl hs λh1 eb=>?_);have nd:d≠it:=λz=>by
   obtain⟨o,_,_,q,_,c,_⟩:=hd;obtain⟨o',q',_,c'⟩:=hit;rw [z,q'] at q;cases q;rw [c'] at c;cases c
  have nt:∀b o,o.cls=378 -> 259->b≠it:=λb o c q z=>by
   obtain⟨o',q',c',_⟩:=hit;rw [z,q'] at q;cases q;rw [c'] at c;exact absurd c nofun
  show wpAny _ _ (Builtin.Dict.addKeywords d [] >>= _) _ _ _;exact au (aJ (aJ (hR h1 s.toks (yK hd (λo q=>eb d o nd q) λb o c q=>eb b o (nt b o c q) q) λb o n1 n2 q=>eb b o n2 q)))
 | cons kv more ih =>
  intro i s kvs j tk hi hd hit hl hp hz hR;refine rA lZ ?_;rw [rT fE _];unfold Builtin.«dict.update.loop»;obtain⟨u,hu1,t,n,o,rfl,hk,ho,hc,ze⟩:=hp 0 kv rfl;refine au (wpAny_pyNext_list_item hit hl hu1 λh1 ZJ sb=>?_);have nd:d≠it:=λz=>by
   obtain⟨o,_,_,q,_,c,_⟩:=hd;obtain⟨o',q',_,c'⟩:=hit;rw [z,q'] at q;cases q;rw [c'] at c;cases c
  have n2:∀b o,(o.cls=378 \/ o.cls=476)->259->b≠d/\b≠it:=by
   intro b o c q;constructor
   .intro z;obtain⟨o',q',c'⟩:=hd.typeIs;rw [z,q'] at q;cases q;rw [c'] at c;rcases c with c | c <;> exact absurd c nofun
   intro z;obtain⟨o',q',c',_⟩:=hit;rw [z,q'] at q;cases q;rw [c'] at c;rcases c with c | c <;> exact absurd c nofun
  have nt:∀b o,o.cls=378 -> 259->b≠d/\b≠it:=λb o c q=>n2 b o (.inl c) q;have nl:l≠d/\l≠it:=by
   obtain⟨o,q,c,_⟩:=hl;exact n2 l o (.inr c) q
  have ZC:∀b o,o.cls=378 -> 259->h1.get? b=65:=λb o c q=>(sb.2 b (nt b o c q).2).trans q;have JJ:h1.get? t=65:=ZC t o hc ho;have hd1:h1.DictOfH (689) d kvs:=yK hd (λo q=>(sb.2 d nd).trans q) ZC;refine au (gr (au (wpAny_tryCatch ?_)));unfold Builtin.Dict.pairItems;refine au (jr (T := "tuple") ⟨o,JJ,hc⟩ ?_);rw [ar nofun];refine au (mP JJ ze (aJ ?_));show wpAny _ _ (holding [.ref kv.2.1,kv.2.2] (dictSet d (.ref kv.2.1) kv.2.2)) _ _ _;rw [cf] at hz hi;refine gr (wpAny_dictSet_heap (s:={ s with heap:=h1 }) (pF hu) (xH hk ZC) hd1 (λh2 hd2 Tv=>?_) ∅);have kk:∀b o,b≠d->b≠it->259->h2.get? b=65:=λb o n1 n2 q=>(Tv.2 b n1).trans ((sb.2 b n2).trans q);have ln:(storedH kvs kv.1 kv.2.1 kv.2.2).length<=kvs.length+1:=by
   unfold storedH
   split
   .simp
   simp
  refine 900
  .obtain⟨u',e1,e2⟩:=hp (m+1) ZA e;exact⟨u',by rw [<-e1];congr 1;omega,e2.keep λb o c q=>kk b o (nt b o c q).1 (nt b o c q).2 q⟩
  exact hR h3 t3 jx λb o n1 n2 q=>k3 b o n1 n2 (kk b o n1 n2 q)
def qP {s:Shared}{l:Addr}{items:z0k}{n:Nat}{more:565}{Q:z0b}(hh:569)(hu:A.units+2 < cLine)(hx:s.heap.get? l=some { cls:=476,data:=.seq items n })
  (hi:items.size=more.length)(hp:∀(m:Nat) kv,more[m]?=some kv->∃u,items[m]?=some u/\l7 prog w s.heap u kv)(hz:more.length<=sizeLine)
  (h:∀h' t',h'.DictOfH (689) s.heap.objs.size (EM more [])->835->Q 720 619) :
  wpAny 140 A (call (564) [.ref l]) Q E s:=by
 refine 891;rintro obj s₁ ⟨rfl,rfl⟩;have CF:(s.heap.push 625).DictOfH (689) s.heap.objs.size []:=Heap.DictOfH.new s.heap;have l0:=bW 625 hx;refine⟨CF.typeIs,F.args_dict_init_2 _ _,?_⟩;unfold Builtin.«dict.__init__» Builtin.Dict.selfAndRest;refine au (au (xq CF.typeIs (aJ ?_)));show wpAny _ _ (Builtin.Dict.updateFrom "dict.__init__" s.heap.objs.size (.ref l) [] .none) _ _ _;unfold Builtin.Dict.updateFrom;refine au (jr (T := "list") ⟨_,l0,rfl⟩ ?_);rw [ar BI];refine au (p6 l0 hh λh1 t1 k1=>?_);refine au (jq ?_);have l1:=k1 _ _ l0;refine au (pB ⟨_,l1,rfl,_,rfl⟩ ?_);have k2:∀b o,259->880=65:=λb o q=>bW _ (k1 _ _ (bW _ q));refine aJ ⟨kQ fE _,MR (A:=A.in1) (l:=l) (items:=items) (show A.in1.handled=none from hh) (show A.in1.units+1 < cLine by rw [Around.in1_units];omega) more 0 _ [] _ _ (by rw [hi,iQ]) ?_ ⟨_,cU _ rfl,rfl,rfl⟩ ⟨_,k2 _ _ hx,rfl,n,rfl⟩ (λm kv e=>?_) (by simpa using hz) λh' t' hd k3=>?_⟩
 .exact yK CF (λo q=>bW _ (k1 _ _ q)) λb o _ q=>bW _ (k1 _ _ q)
 .obtain⟨u,e1,e2⟩:=hp m kv e;exact⟨u,by rw [iQ];exact e1,e2.keep λb o _ q=>k2 b o q⟩
 refine⟨rfl,h h' t' hd λb o q=>k3 b o (bJ (aV q)) ?_ (k2 b o q)⟩;have:=aV (k1 _ _ (bW 625 q));exact bJ this
end
def oQ (kvs bD:518):518:=kvs.foldl (λa p=>bB a p.1 p.2) bD
theorem wq {H:Hp}:∀{kvs:518}{vs:565}{bD:518}{Ks:565},KT H kvs vs->KT H bD Ks->KT H (oQ kvs bD) (EM vs Ks)
 | _,_,_,_,.nil,h=>h
 | _,_,_,_,.cons (a:=p) (b:=q) r t,h=>by
  obtain⟨e,hb,rv⟩:=r;show KT H (oQ _ (bB _ p.1 p.2)) (EM _ (storedH _ q.1 q.2.1 q.2.2));rw [<-e];exact wq t (h.put p.1 hb rv)
theorem wt:∀(kvs bD:518),(oQ kvs bD).length<=bD.length+kvs.length
 | [],bD=>by simp [oQ]
 | p::r,bD=>by
  have:=wt r (bB bD p.1 p.2);have:=fq bD p.1 p.2;show (oQ r (bB bD p.1 p.2)).length<=_;rw [cf];omega
section
variable {X:Cx}{ag:z0e}{σ:St}{H:Hp}{s:Shared}
abbrev SG (K:aY)(H:Hp)(t:Addr)(kv:List aI×V):Prop:=∃b,aU K H t [.ref b,kv.2]/\H b=some (.tup (kv.1.map kV))
theorem vT (I:87):∀{ts:z0q}{kvs:518}{aT:z0m},Paired (SG X.K H) ts kvs->bq 582 aT ->
  ∃vs:565,KT H kvs vs/\Paired (λu kv=>l7 X.prog X.w s.heap u kv) aT vs
 | [],_,_,.nil,r=>by
  rw [kP] at r;cases r;exact⟨[],.nil,.nil⟩
 | t::ts,kv::kvs,_,.cons h p,r=>by
  rw [bN] at r;cases r with
  | cons r1 r2 =>
   obtain⟨vs,e1,e2⟩:=vT I p r2;obtain⟨b,h0,hb⟩:=h;obtain⟨aT,rv,⟨o,h1,h2,n,h3⟩,_⟩:=I.tuple h0;obtain⟨u1,u2,rfl,q1,q2⟩:=vals2 rv;cases (show u1=Value.ref b from q1);exact⟨(kv.1,b,u2)::vs,.cons ⟨rfl,hb,q2⟩ e1,.cons ⟨t,n,o,r1,nA I.bI hb,h1,h2,h3⟩ e2⟩
def AF (hc:530)(hu:X.A.units+2 < cLine):gL X (564) (λxs H Q=>∃a ts kvs,xs=[91]/\H a=480/\Paired (SG X.K H) ts kvs/\∀d,H d=none->Q (.ref d) (upd H d (.dT (oQ kvs [])))):=by
 intro ag s σ H xs us Q I r h;obtain⟨a,ts,kvs,rfl,e,p,q⟩:=h;obtain⟨u,rfl,rx⟩:=vals1 r;cases 713;obtain⟨z,aT,n,rv,ho⟩:=(show bR X.prog X.w H s.heap a (.lst _) from I.bI a _ e);obtain⟨vs,r1,r2⟩:=vT I p rv;have l1:=bf r2;have l2:=bf r1;have l3:=bf p;rw [ay] at z;refine qP (I.ok.hd hc) hu ho (by simpa using l1) (λm kv em=>?_) ∅ λh' t' hd kk=>?_
 .obtain⟨u,e1,e2⟩:=Paired.at_ r2 m kv em;exact⟨u,by simpa using e1,e2⟩
 have fr:=I.bI.fresh (aE s.heap.objs.size);have new:bR X.prog X.w (upd H s.heap.objs.size (.dT (oQ kvs []))) h' s.heap.objs.size (.dT (oQ kvs [])):=by
  obtain⟨o,es,ep,hq,h2,h3,h4,_,h5⟩:=hd;refine⟨?_,?_,_,(wq r1 .nil).keeps λc ys ec=>?_,o,es,ep,hq,h2,h3,h4,h5⟩
  .have:=wt kvs [];simp at this;omega
  .have:=I.big;exact jB.mpr (iP this)
  rw [ai (aB ec fr)];exact ec
 exact⟨491,_,I.laid (t':=t') kk 128 new,rfl,q _ fr⟩
end
open PySem M11
def Gv {K:aY}{H:Hp}{bg D:Addr}{ts:z0q}{bes:108}{σ:St}{x1 x2 x3 x4:Str}{Qp:106}(hb:aX K H bg 582)(R_:853)(bE:bes.length<=900000)(hD:H D=none)
  (q:∀us H2,aD H H2->H2 D=747->Paired (λu (b:Be)=>∃v,SG K H2 u ([Sum.inr b.1,Sum.inr b.2.1],.ref v)) us bes->Qp H2) :
  ∃W:Nat->490,(∃m,W 0 m [] (eV [x1,x2,x3,x4] [] σ) 482) /\
 ∀i m ys σ' H,529->((mI K bg).stop i H/\Qp H)\/((mI K bg).go i H/\∃m',m' < m/\∀x H',(mI K bg).o7 i H x H'->Ge K 4 (lM (dX 0) (lM (dX 1) (lM (dX 2) (lM (dX 3) J_)))) x σ' H' λσ2 H2=>jd σ2 H2 λb H3 =>
  if b=true then uR (gu (uR (gu (hU 0) (gu (hU 1) qH))) (gu (uR (gu (hU 2) (gu (hU 3) qH))) qH)) σ2 H3 526 else 527):=by
 have ll:=bf R_;refine dB (xs:=477) (λi ys σ2 H2=>∃us:z0q,ys=us.map V.ref/\us.length=i/\Paired (λu (b:Be)=>∃v,SG K H2 u ([Sum.inr b.1,Sum.inr b.2.1],.ref v)) us (bes.take i)/\(∃y0 y1 y2 y3,σ2=[y0,y1,y2,y3])/\618)
  ⟨[],rfl,rfl,.nil,⟨none,none,none,none,rfl⟩,ah hD _,af⟩ (λi ys σ2 H2 _ h=>?_) 657 621
 .obtain⟨_,_,_,_,_,sm,_⟩:=h;exact sm.seq hb
 .obtain⟨us,rfl,hu,hp,⟨y0,y1,y2,y3,rfl⟩,sm,hd⟩:=h;rw [bx] at ex;obtain⟨r,er,rfl⟩:=473;have lr:=(a7.mp er).1;obtain⟨b,e1⟩:∃b,bes[i]?=some b:=⟨bes[i]'∅,cx ∅⟩;obtain⟨r',VG,v1⟩:=Paired.at_ R_ i b e1;rw [er] at VG;cases VG;have li:=(a7.mp e1).1;refine⟨r,_,rfl,sm.tup v1,rfl,_,_,rfl,_,_,rfl,_,_,rfl,_,_,rfl,rfl,?_⟩;refine A7 ?_;refine⟨_,rfl,_,rfl,qF,λk hk=>⟨_,rfl,_,rfl,qF,λv hv=>⟨qF,λu RZ=>?_⟩⟩⟩;have s3:=(ah hk (.tup [V.str b.1,V.str b.2.1])).trans ((ah hv (.tup [V.int (b.2.2.1:Int),V.int (b.2.2.2:Int)])).trans (ah RZ (.tup [.ref k,.ref v])));have ek:=((ah hv (.tup [V.int (b.2.2.1:Int),V.int (b.2.2.2:Int)])).trans (ah RZ (.tup [.ref k,.ref v]))) k _ af;have eu:aU K (upd (upd (upd H2 k (.tup [V.str b.1,V.str b.2.1])) v (.tup [V.int (b.2.2.1:Int),V.int (b.2.2.2:Int)])) u (.tup [.ref k,.ref v])) u [.ref k,.ref v]:=aU.of af;generalize upd (upd (upd H2 k (.tup [V.str b.1,V.str b.2.1])) v (.tup [V.int (b.2.2.1:Int),V.int (b.2.2.2:Int)])) u (.tup [.ref k,.ref v])=H4 at s3 ek eu;have Hj:=s3 _ _ hd;refine⟨Hj,507,us++[u],by rw [aP];rfl,by rw [bp,hu];rfl,?_,⟨_,_,_,_,rfl⟩,?_,af⟩
  .rw [di,e1];have kD:k≠D:=λz=>by rw [z,Hj] at ek;cases ek
   refine ff (Paired.cJ hp λu' b' ba=>?_) ⟨v,k,bK Hj eu,by rw [ai kD];exact ek⟩;obtain⟨v',bb,p1,p2⟩:=ba;exact⟨v',bb,bK Hj (s3.tup p1),by rw [ai (λz=>by rw [z,hd] at p2;cases p2)];exact s3 _ _ p2⟩
  intro c o hc;rw [ai (λz=>by rw [z,hD] at hc;cases hc)];exact s3 _ _ (sm c o hc)
 obtain⟨us,rfl,hu,hp,_,sm,hd⟩:=h;rw [ay,ll,dW] at hp;exact q us H2 sm hd hp
theorem Iy {K:aY}{H:Hp}:∀{us:z0q}{bes:108},Paired (λu (b:Be)=>∃v,SG K H u ([Sum.inr b.1,Sum.inr b.2.1],.ref v)) us bes->∃kvs,Paired (SG K H) us kvs
 | _,_,.nil=>⟨[],.nil⟩
 | _,_,.cons ⟨v,h⟩ t=>let ⟨kvs,p⟩:=Iy t;⟨_::kvs,.cons h p⟩
end L2
namespace fC
open PySem L2 M11
def Tab.s2 {T T1 T2:Addr}{p p1 p2:Pos}{q q1 q2:Str}{H H':Hp}(h:Tab T p q H)(s:mH T1 T2 H H')(t1:Tab T1 p1 q1 H)(t2:Tab T2 p2 q2 H)(n1:T≠T1)(n2:T≠T2):Tab T p q H':=by
 obtain⟨ps,a,b,c⟩:=h;obtain⟨WN,b1,_⟩:=t1;obtain⟨ps2,b2,_⟩:=t2;refine⟨ps,s _ _ n1 n2 a,b,c.imp id ?_⟩;rintro⟨c',e,g⟩;exact⟨c',e,s _ _ (λz=>by rw [z,b1] at g;cases g) (λz=>by rw [z,b2] at g;cases g) g⟩
def k_ {T a C dx:Addr}{pos:Pos}{qu:Str}{H:Hp}{fs:501}{o:HO}(h:Tab T pos qu H)(ha:H a=549):Tab T pos qu (upd H a o):=by
 obtain⟨ps,p,r,c⟩:=h;refine⟨ps,by rw [ai (λz=>by rw [z,ha] at p;cases p)];exact p,r,c.imp id ?_⟩;rintro⟨c',e,g⟩;exact⟨c',e,by rw [ai (λz=>by rw [z,ha] at g;cases g)];exact g⟩
def Kp (H H':Hp):Prop:=∀b o,H b=65->(∀ps,o≠.xI ps)->H' b=65
def Kp.of {H H':Hp}(s:147):Kp H H':=λb o h _=>s b o h
def Kp.of2 {T1 T2:Addr}{p1 p2:Pos}{q1 q2:Str}{H H':Hp}(s:mH T1 T2 H H')(t1:Tab T1 p1 q1 H)(t2:Tab T2 p2 q2 H):Kp H H':=λc o hc hn=>by
 obtain⟨WN,b1,_⟩:=t1;obtain⟨ps2,b2,_⟩:=t2;exact s c o (λz=>by rw [z,b1] at hc;cases hc;exact hn _ rfl) (λz=>by rw [z,b2] at hc;cases hc;exact hn _ rfl) hc
section
theorem Kp.lst {H H':Hp}(k:Kp H H'){a:Addr}{xs:84}(h:H a=500):H' a=500:=k a _ h 611
def Kp.tup {H H':Hp}(k:Kp H H'){a:Addr}{xs:84}(h:515):aU K H' a xs:=by
 rcases h with (h | ⟨u,h⟩) | h
 .exact .inl (.inl (k _ _ h 611))
 .exact .inl (.inr ⟨u,k _ _ h 611⟩)
 exact .inr h
def Kp.seq {H H':Hp}(k:Kp H H'){a:Addr}{xs:84}(h:aX K H a xs):aX K H' a xs:=by
 rcases h with (h | ⟨u,h⟩) | h
 .exact .inl (.inl (k _ _ h 611))
 .exact .inl (.inr ⟨u,k _ _ h 611⟩)
 exact .inr h
theorem Kp.aa {H H':Hp}(k:Kp H H'){rs:z0q}{aa:56}(h:520):bY K H' rs aa:=h.keep λ_ _ z=>k.tup z
abbrev B7:Stmt:=NO sLT 0
structure LC (K:aY)(C:Addr):Prop where
 cls:G4 K C
 a1:dO K C "rules"
 a2:dO K C "empty"
 a3:dO K C "least"
 a4:dO K C "hollow"
 a5:dO K C "beginnings"
structure Hr (C3 T1 T3:Addr)(H0 H:Hp)(a dx:Addr)(fs:501):Prop where
 sm:mH T1 T3 H0 H
 ia:H a=some (.ins C3 dx fs)
 fa:H0 a=none
 t1:Tab T1 tO.2.2.2 A3 H
 t3:Tab T3 posB KY H
 o1:Tab T1 tO.2.2.2 A3 H0
 o3:Tab T3 posB KY H0
def Hr.kp {C3 T1 T3 a dx:Addr}{H0 H:Hp}{fs:501}(h:Hr C3 T1 T3 H0 H a dx fs):Kp H0 H:=Kp.of2 h.sm h.o1 h.o3
def Hr.set {C3 T1 T3 a dx:Addr}{H0 H:Hp}{fs:501}(h:Hr C3 T1 T3 H0 H a dx fs)(Oa:501):Hr C3 T1 T3 H0 (upd H a (.ins C3 dx Oa)) a dx Oa :=
 ⟨λb o n1 n3 hb=>by rw [ai (λz=>by rw [z,h.fa] at hb;cases hb)];exact h.sm b o n1 n3 hb,af,h.fa,k_ h.t1 h.ia,k_ h.t3 h.ia,h.o1,h.o3⟩
def Hr.next {C3 T1 T3 a dx:Addr}{H0 H H':Hp}{fs:501}(h:Hr C3 T1 T3 H0 H a dx fs)(s:147):Hr C3 T1 T3 H0 H' a dx fs :=
 ⟨λb o n1 n3 hb=>s _ _ (h.sm b o n1 n3 hb),s _ _ h.ia,h.fa,h.t1.same s,h.t3.same s,h.o1,h.o3⟩
def Hr.Ud {C3 T1 T3 a dx:Addr}{H0 H H':Hp}{fs:501}(h:Hr C3 T1 T3 H0 H a dx fs)(s:mH T1 T3 H H')(t1:Tab T1 tO.2.2.2 A3 H')(t3:Tab T3 posB KY H'):Hr C3 T1 T3 H0 H' a dx fs :=
 ⟨λb o n1 n3 hb=>s _ _ n1 n3 (h.sm b o n1 n3 hb),Kp.of2 s h.t1 h.t3 _ _ h.ia 611,h.fa,t1,t3,h.o1,h.o3⟩
def DS (K:aY)(C C3 T1 T3:Addr):Sp:=λvs H Q _=>∃(H0 Hb:Hp)(a dx R x e d bg:Addr)(rs:z0q)(aa:56)(kE:86)(aC:z0h)(ps:z0f)(bes:108),vs=[91,.ref R,.ref x]/\aD H0 H/\H0 a=none/\H a=some (.ins C3 dx [])/\aX K H0 R 260/\bY K H0 rs aa /\
 aa.length < 64/\547/\(881)/\o9 K C Hb H0 x e d bg kE aC ps bes/\uO aa aC/\bes.length<=80000/\Tab T1 tO.2.2.2 A3 H0/\Tab T3 posB KY H0/\T1≠T3 /\
 ∀H',mH T1 T3 H0 H'->Tab T1 tO.2.2.2 A3 H'->Tab T3 posB KY H'->Q .gF H'
def Lx:aM ["self","rules","begin_table"] ["self","rules","begin_table"] (ax B7):=417
def Jc {C C3 T1 T3:Addr}(F:jo K "__init__" "LeastTrees.__init__" B7 f fd)(T:Txt mg)(B:BC K C)(L:LC K C3)(GL:aL P w K mg base 4 "least_by_part" 159 (pO K T1 T3))(GE:aL P w K mg base 4 "empty_by_name" ["rules","empties"] (vL K)) :
  bO P w K mg base gb 5 f fd ["self","rules","begin_table"] (DS K C C3 T1 T3):=by
 refine F.ok Lx 420 472
 .obtain⟨H0,Hb,a,dx,R,x,e,d,bg,rs,aa,kE,aC,ps,bes,rfl,_⟩:=h;rfl
 obtain⟨H0,Hb,a,dx,R,x,e,d,bg,rs,aa,kE,aC,ps,bes,rfl,s0,f0,ea,hR,dA,bE,h8,JT,S,emp,Qd,t1,t3,nT,q⟩:=h;have hu:=rS (Nat.add_le_add_left (by decide:2<=64) _) hr.units;refine⟨_,aj (gy 72 102 rfl)
  (aj (gy 72 (cQ (pv 2) rfl) rfl)
  (aj (gy 72 (bZ GL hr rfl 556) rfl)
  (aj (gy 72 (bZ GE hr rfl (ae 102 (ae (cQ (pv 2) rfl) ao))) rfl)
  (av (gy 72 (bu (AF rfl hu) rfl T.ET fY (ae (cm ["name","word","number","place"] [] rfl (bP (cQ (pv 2) rfl)) 487 nofun rfl nofun
   (λ_ _ _ _ _=>jh (n:=4) K rfl (aH (az (i:=0) 858 rfl 68) (aH (az (i:=1) 858 rfl 68) (aH (az (i:=2) 858 rfl 68) (aH (az (i:=3) 858 rfl 68) cI))))) 539
   (λ_ _ _ _ _=>bG (ae (bG (ae 72 556)) (ae (bG (ae (pv 2) (ae (pv 3) ao))) ao)))) ao)) rfl))))),?_⟩
 nofun
 have S0:Hr C3 T1 T3 H0 H a dx []:=⟨λb o _ _ hb=>s0 b o hb,ea,f0,t1.same s0,t3.same s0,t1,t3⟩;obtain⟨e1,te,⟨Sy,K6,Xo,leb⟩,ee1,evb,_⟩:=S.em;obtain⟨abi,abb,Vx,l1,l2,_⟩:=S.ia;rw [Xo] at Vx;cases Vx;obtain⟨tb,ebg,R_⟩:=S.lb;have lets:=emp.len;refine⟨_,rfl,_,rfl,a,C3,dx,[],rfl,S0.ia,L.cls,L.a1,(by show 0 < 1000;decide),?_⟩;have S1:=S0.set (dN "rules" (.ref R) []);generalize Xc:dN "rules" (.ref R) []=Xl at S1;generalize upd H a (.ins C3 dx Xl)=H1 at S1;have x1:H1 x=some (.ins C Sy K6):=S1.kp _ _ Xo 611;refine⟨_,rfl,x,C,Sy,K6,_,rfl,x1,B.cls,B.a2,l1,_,rfl,a,C3,dx,Xl,rfl,S1.ia,L.cls,L.a2,(by rw [<-Xc];show 1 < 1000;decide),?_⟩;have S2:=S1.set (dN "empty" (.ref e) Xl);generalize QJ:dN "empty" (.ref e) Xl=rg at S2;generalize upd H1 a (.ins C3 dx rg)=H2 at S2;refine⟨_,rfl,R,rs,aa,rfl,S2.kp.seq hR,S2.kp.aa dA,bE,h8,JT,S2.t1,S2.t3,nT,λdl kl H3 fdl s3 A0 t33 edl kdl=>?_⟩;have S3:=S2.Ud s3 A0 t33;refine⟨_,rfl,a,C3,dx,rg,rfl,S3.ia,L.cls,L.a3,(by rw [<-QJ,<-Xc];show 2 < 1000;decide),?_⟩;have S4:=S3.set (dN "least" (.ref dl) rg);generalize hf4:dN "least" (.ref dl) rg=Si at S4;generalize upd H3 a (.ins C3 dx Si)=H4 at S4;have x4:H4 x=some (.ins C Sy K6):=S4.kp _ _ Xo 611;refine⟨_,rfl,_,rfl,x,C,Sy,K6,_,rfl,x4,B.cls,B.a1,leb,R,e1,rs,te,aa,aC,rfl,S4.kp.seq hR,S4.kp.aa dA,∅,h8,aX.of (S4.kp.lst ee1),evb.keep λ_ _ z=>S4.kp.tup z,emp,∅,λdh kh H5 fdh s5 edh kdh=>?_⟩;have S5:=S4.next s5;refine⟨_,rfl,a,C3,dx,Si,rfl,S5.ia,L.cls,L.a4,(by rw [<-hf4,<-QJ,<-Xc];show 3 < 1000;decide),?_⟩;have S6:=S5.set (dN "hollow" (.ref dh) Si);generalize hf6:dN "hollow" (.ref dh) Si=A9 at S6;generalize upd H5 a (.ins C3 dx A9)=H6 at S6;have x6:H6 x=some (.ins C Sy K6):=S6.kp _ _ Xo 611;have b6:=S6.kp.lst ebg;have v6:Paired (λt (b:Be)=>aU K H6 t [.str b.1,.str b.2.1,.int (b.2.2.1:Int),.int (b.2.2.2:Int)]) tb bes:=Paired.cJ R_ λ_ _ z=>S6.kp.tup z;refine⟨_,rfl,x,C,Sy,K6,_,rfl,x6,B.cls,B.a3,l2,bg,rfl,⟨_,aX.of b6⟩,λD7 hD7=>Gv (aX.of b6) v6 ∅ hD7 λus H7 s7 e7 p7=>?_⟩;obtain⟨kvs,pk⟩:=Iy p7;refine⟨D7,us,kvs,rfl,e7,pk,λdb yE=>?_⟩;have S8:=(S6.next s7).next (ah yE (.dT (oQ kvs [])));refine⟨_,rfl,a,C3,dx,A9,rfl,S8.ia,L.cls,L.a5,(by rw [<-hf6,<-hf4,<-QJ,<-Xc];show 4 < 1000;decide),?_⟩;have S9:=S8.set (dN "beginnings" (.ref db) A9);exact q _ S9.sm S9.t1 S9.t3
structure KL (K:aY)(x qual:Str)(st:Stmt)(f:Addr)(fd:FuncData):Prop where
 ex:∃(oc:Value)(od:z0l)(kV doc pm:Value)(an:z0l)(eC ct:Value)(yp:z0a)(T:Addr)(o:Obj) (n:Nat),
  fd=PySem.W.fnOf x qual (cZ st) (b9 st) (ax st) (.ref T) kV doc pm an eC ct/\K.lookup f=some ⟨oc,od,.func fd,yp⟩/\PySem.W.codeIn K eC qual=true/\K.lookup T=65/\o.data=.seq #[.none] n
 kp:769
def KL.ok {x qual:Str}{st:Stmt}{f:Addr}{fd:FuncData}{N ps:z0t}{k:Nat}{sp:Sp}(F:KL K x qual st f fd)(S:aM N ps (ax st))(len:783)
  (i5:∀(eC:Value)(A:Around)(outer:List Env)(s:Shared)(H:Hp)(vs:84)(Q:VK)(E:XK),ft k (A.deeper (PyProof.Rows.envOfC qual (ax st) s.heap.objs.size f eC))->sp vs H Q E ->
   ∃t,yX (ip gb P w K mg base N qual (ax st) f eC A outer s H E).Mb (b9 st) t/\836):bO P w K mg base gb (k+1) f fd ps sp:=by
 obtain⟨oc,od,kV,doc,pm,an,eC,ct,yp,T,o,n,rfl,lk,wc,_⟩:=F.ex;refine EL lk wc S len λA outer s H vs Q E hr EE=>?_;obtain⟨t,h,q⟩:=i5 eC A outer s H vs Q E hr EE;exact⟨t,h.Mb,q⟩
def JY {f:Addr}{fd:FuncData}(F:KL K "__init__" "Grammar.__init__" ye f fd):Binds K fd ["self","rules","strengths"] [.none]:=by
 obtain⟨oc,od,kV,doc,pm,an,eC,ct,yp,T,o,n,rfl,lk,wc,lT,dT⟩:=F.ex;intro s us KI hl;have uY:us.length=2:=by
  have:(us++[Value.none]).length=3:=hl;rw [bp] at this;exact Nat.succ.inj this
 match us,uY with
 | [u1,u2],_=>exact BindsTo.of_defaults rfl (KI T o lT) dT rfl rfl
structure GC (K:aY)(C:Addr):Prop where
 cls:G4 K C
 a1:dO K C "rules"
 a2:dO K C "strengths"
 a3:dO K C "begin_table"
 a4:dO K C "standings"
 a5:dO K C "small_trees"
def StrIn (K:aY)(H:Hp)(sv:V)(ss:z0q)(str:56):Prop:=(sv=.gF/\ss=[]/\str=[])\/∃S,sv=.ref S/\aX K H S (ss.map V.ref)/\bY K H ss str
def GrV (H0 H:Hp)(Cg g:Addr)(rs ss:z0q)(bt:Addr):Prop:=∃gx fs R2 S2,H g=some (.ins Cg gx fs)/\fs.lookup ("rules":Str)=some (.ref R2)/\fs.lookup ("strengths":Str)=some (.ref S2)/\fs.lookup ("begin_table":Str)=some (.ref bt)/\fs.lookup ("start":Str)=none /\
 H R2=some 620/\H S2=some (.lst (ss.map V.ref))/\H0 R2=none/\H0 S2=none
def qD (T1 T2 T3:Addr)(H H':Hp):Prop:=∀b o,b≠T1->b≠T2->b≠T3->H b=65->H' b=65
structure E6 (T1 T2 T3:Addr)(H:Hp):Prop where
 t1:Tab T1 tO.2.2.2 A3 H
 t2:Tab T2 CP.2.2.2 NQ H
 t3:Tab T3 posB KY H
 Hc:T1≠T2
 Ha:T1≠T3
 Jn:T2≠T3
theorem E6.same {T1 T2 T3:Addr}{H H':Hp}(h:E6 T1 T2 T3 H)(s:147):E6 T1 T2 T3 H':=⟨h.t1.same s,h.t2.same s,h.t3.same s,h.Hc,h.Ha,h.Jn⟩
def E6.HF {T1 T2 T3 a C dx:Addr}{H:Hp}{fs:501}{o:HO}(h:E6 T1 T2 T3 H)(ha:H a=549):E6 T1 T2 T3 (upd H a o):=⟨k_ h.t1 ha,k_ h.t2 ha,k_ h.t3 ha,h.Hc,h.Ha,h.Jn⟩
def Kp.of3 {T1 T2 T3:Addr}{H H':Hp}(s:qD T1 T2 T3 H H')(t:E6 T1 T2 T3 H):Kp H H':=λc o hc hn=>by
 obtain⟨WN,b1,_⟩:=t.t1;obtain⟨ps2,b2,_⟩:=t.t2;obtain⟨ps3,b3,_⟩:=t.t3;exact s c o (λz=>by rw [z,b1] at hc;cases hc;exact hn _ rfl) (λz=>by rw [z,b2] at hc;cases hc;exact hn _ rfl) (λz=>by rw [z,b3] at hc;cases hc;exact hn _ rfl) hc
structure Hs (K:aY)(C:Addr)(H:Hp)(a:Addr)(aa:56)(aC:z0h)(bes:108):Prop where
 ia:∃dx fs e1 bg,H a=549/\fs.lookup ("empties":Str)=some (.ref e1)/\fs.lookup ("begins":Str)=some (.ref bg)/\(∃ts,H e1=480/\oZ K H ts aC) /\
  ∃ts,H bg=480/\853
 emp:uO aa aC
 uh:vh aa aa.length aC
 Ol:uP aa (hd aa) 534 bes
 Ko:G7 aa (hd aa) 534 aa.length bes
 bs:∃e d bg kE ps,o9 K C (λ_=>none) H a e d bg kE aC ps bes/\ps.map 27=hd aa/\∀z,634=decide (z∈aC.map 27)
def Dp {C a e d bg:Addr}{H0 H H':Hp}{kE:86}{aC:z0h}{ps:z0f}{bes:108}(h:708)(k1:∀dx fs,H a=549->H' a=549)(k2:∀b xs,H b=500->H' b=500)(k3:∀b xs,aU K H b xs->aU K H' b xs)(k4:∀b xs,H b=some (.dK xs)->H' b=some (.dK xs)):o9 K C (λ_=>none) H' a e d bg kE aC ps bes:=by
 refine⟨λ_ _ z=>(by cases z),?_,k4 _ _ h.he,k4 _ _ h.hd,h.n1,h.n2,λp hp=>?_,?_,rfl,?_⟩
 .obtain⟨dx,fs,q,r,Pt,Pr,Pq,Pp⟩:=h.ia;exact⟨dx,fs,k1 _ _ q,r,Pt,Pr,Pq,Pp⟩
 .obtain⟨⟨kvs,q,r⟩,t1,t2⟩:=h.dk p hp;exact⟨⟨kvs,k4 _ _ q,r⟩,rfl,t2⟩
 .obtain⟨ts,q,r⟩:=h.lb;exact⟨ts,k2 _ _ q,Paired.cJ r λ_ _ z=>k3 _ _ z⟩
 obtain⟨e1,ts,⟨dx,fs,q1,q2⟩,q3,q4,q5⟩:=h.em;exact⟨e1,ts,⟨dx,fs,k1 _ _ q1,q2⟩,k2 _ _ q3,q4.keep k3,q5⟩
def Hs.mv {C a:Addr}{H H':Hp}{aa:56}{aC:z0h}{bes:108}(h:Hs K C H a aa aC bes)(k1:∀dx fs,H a=549->H' a=549)(k2:∀b xs,H b=500->H' b=500)(k3:∀b xs,aU K H b xs->aU K H' b xs)(k4:∀b xs,H b=some (.dK xs)->H' b=some (.dK xs)):Hs K C H' a aa aC bes:=by
 obtain⟨dx,fs,e1,bg,q1,q2,q3,⟨t1,q4,q5⟩,t2,q6,q7⟩:=h.ia;exact⟨⟨dx,fs,e1,bg,k1 _ _ q1,q2,q3,⟨t1,k2 _ _ q4,q5.keep k3⟩,t2,k2 _ _ q6,Paired.cJ q7 λ_ _ z=>k3 _ _ z⟩,h.emp,h.uh,h.Ol,h.Ko,(let ⟨e,d,bg,kE,ps,b,m,v⟩:=h.bs;⟨e,d,bg,kE,ps,Dp b k1 k2 k3 k4,m,v⟩)⟩
def Hs.kp {C a:Addr}{H H':Hp}{aa:56}{aC:z0h}{bes:108}(h:Hs K C H a aa aC bes)(k:Kp H H'):Hs K C H' a aa aC bes:=h.mv (λ_ _ z=>k _ _ z (641)) (λ_ _ z=>k.lst z) (λ_ _ z=>k.tup z) λ_ _ z=>k _ _ z (641)
def Hs.same {C a:Addr}{H H':Hp}{aa:56}{aC:z0h}{bes:108}(h:Hs K C H a aa aC bes)(k:147):Hs K C H' a aa aC bes:=h.kp (Kp.of k)
def Rm {C:Addr}{H0 H:Hp}{a e d bg:Addr}{kE:86}{aa:56}{aC:z0h}{ps:z0f}{bes:108}(h:708)(emp:uO aa aC)(uh:vh aa aa.length aC)(Ol:uP aa (hd aa) 534 bes)(Ko:G7 aa (hd aa) 534 aa.length bes)(C0:ps.map 27=hd aa)(hkE:∀z,634=decide (z∈aC.map 27)):Hs K C H a aa aC bes:=by
 obtain⟨dx,fs,q1,_,q3,_⟩:=h.ia;obtain⟨e1,t1,⟨Rg,rg,q4,q5⟩,q6,q7,_⟩:=h.em;obtain⟨t2,q8,q9⟩:=h.lb;rw [q1] at q4;cases q4;exact⟨⟨dx,fs,e1,bg,q1,q5,q3,⟨t1,q6,q7⟩,t2,q8,q9⟩,emp,uh,Ol,Ko,e,d,bg,kE,ps,Dp h (479) (479) (479) (479),C0,hkE⟩
def DT (K:aY)(Cg C T1 T2 T3:Addr):Sp:=λvs H Q _=>∃(H0:Hp)(g gx R:Addr)(sv:V)(rs ss:z0q)(aa str:56)(rk:Str->Nat)(b:Str->Int),vs=[.ref g,.ref R,sv]/\aD H0 H/\H0 g=none/\H g=some (.ins Cg gx [])/\aX K H0 R 260/\bY K H0 rs aa/\aa.length < 64/\547/\aa≠[] /\
 StrIn K H0 sv ss str/\str.length<=1000/\(∀ru∈str,ru.2.length<=8)/\(str.flatMap 105).Nodup/\Good aa rk b/\E6 T1 T2 T3 H0 /\
 ∀(bt:Addr)(H':Hp),qD T1 T2 T3 H0 H'->E6 T1 T2 T3 H'->GrV H0 H' Cg g rs ss bt->(∃aC bes,Hs K C H' bt aa aC bes)->Q .gF H'
def o9.HF {C:Addr}{H0 H:Hp}{a e d bg:Addr}{kE:86}{aC:z0h}{ps:z0f}{bes:108}{g Cg gx:Addr}{fs Oa:501}(h:708)(hg:H0 g=some (.ins Cg gx fs))(na:a≠g) :
  o9 K C (upd H0 g (.ins Cg gx Oa)) (upd H g (.ins Cg gx Oa)) a e d bg kE aC ps bes:=by
 have MD:=h.sm _ _ hg;have up:∀c o,c≠g->H c=65->upd H g (.ins Cg gx Oa) c=65:=λc o n q=>by rw [ai n];exact q
 refine⟨λc o hc=>?_,?_,up _ _ (λz=>by have:=h.he;rw [z,MD] at this;cases this) h.he,up _ _ (λz=>by have:=h.hd;rw [z,MD] at this;cases this) h.hd,h.n1,h.n2,λp hp=>?_,?_,?_,?_⟩
 .by_cases z:c=g
  .rw [z,af] at hc ⊢;exact hc
  rw [ai z] at hc ⊢;exact h.sm _ _ hc
 .obtain⟨dx,fs,q,r,Pt,Pr,Pq,Pp⟩:=h.ia;exact⟨dx,fs,up _ _ na q,r,Pt,Pr,Pq,Pp⟩
 .obtain⟨⟨kvs,q,r⟩,t1,t2⟩:=h.dk p hp;exact⟨⟨kvs,up _ _ (λz=>by rw [z,MD] at q;cases q) q,r⟩,by rw [ai (λz=>by rw [z,hg] at t1;cases t1)];exact t1,t2⟩
 .obtain⟨ts,q,r⟩:=h.lb;exact⟨ts,up _ _ (λz=>by rw [z,MD] at q;cases q) q,Paired.cJ r λ_ _ z=>gw MD z⟩
 .have t1:=h.fb;rw [ai (λz=>by rw [z,hg] at t1;cases t1)];exact t1
 obtain⟨e1,ts,⟨dx,fs,q1,q2⟩,q3,q4,q5⟩:=h.em;exact⟨e1,ts,⟨dx,fs,up _ _ na q1,q2⟩,up _ _ (λz=>by rw [z,MD] at q3;cases q3) q3,q4.keep λ_ _ z=>gw MD z,q5⟩
def LA:aM ["self","rules","strengths"] ["self","rules","strengths"] (ax ye):=417
def Jg {Cg C C3 T1 T2 T3 fB fL:Addr}{fdB fdL:FuncData}(F:KL K "__init__" "Grammar.__init__" ye f fd)(T:Txt mg)(G:GC K Cg)(GR:aL P w K mg base 6 "refuse_faults" ["rules","strengths"] (sP K T1 T2))(GS:aL P w K mg base 6 "standings_by_part" 159 (Nx K))
  (FB:bO P w K mg base gb 5 fB fdB ["self","rules"] (DV K C))(MB:Mk K C fB)(BB:Binds K fdB ["self","rules"] [])(mB:mg "BeginTable"=some 127)
  (FL:bO P w K mg base gb 5 fL fdL ["self","rules","begin_table"] (DS K C C3 T1 T3))(ML:Mk K C3 fL)(BL:Binds K fdL ["self","rules","begin_table"] [])(mL:mg "LeastTrees"=some (.ref C3)):bO P w K mg base gb 7 f fd ["self","rules","strengths"] (DT K Cg C T1 T2 T3):=by
 refine F.ok LA 420 472
 .obtain⟨H0,g,gx,R,sv,rs,ss,aa,str,rk,b,rfl,_⟩:=h;rfl
 obtain⟨H0,g,gx,R,sv,rs,ss,aa,str,rk,b,rfl,s0,f0,eg,hR,dA,bE,h8,p_,oG,N2,ZX,ZW,gd,hT3,q⟩:=h;refine⟨_,aj (gy 72 (bu ke rfl T.lst jO 556) rfl)
  (aj (iC (gy 72 (lF (eM (PH (pv 2))) (dw ao) (bu ke rfl T.lst jO (ae (pv 2) ao))) rfl))
  (aj (cY (bZ GR hr rfl (ae 528 664)))
  (aj (gy 72 (bZ GS hr rfl 664) rfl)
  (aj (gy 72 (ym MB FB hr rfl mB BB .nil mq 664) rfl)
  (av (gy 72 (ym ML FL hr rfl mL BL .nil mq (ae 528 664)) rfl)))))),?_⟩
 nofun
 refine⟨_,rfl,R,_,rfl,.inl (s0.seq hR),λR2 K3=>?_⟩;have eg1:=ah K3 620 _ _ eg;have ug:upd H R2 620 R2=some 620:=af;have s01:=s0.trans (ah K3 620);generalize upd H R2 620=H1 at eg1 ug s01;refine⟨_,rfl,g,Cg,gx,[],rfl,eg1,G.cls,G.a1,(by show 0 < 1000;decide),?_⟩;generalize oJ:dN "rules" (.ref R2) []=rg;have Sn:upd H1 g (.ins Cg gx rg) R2=some 620:=by rw [ai (λz=>by rw [z,eg1] at ug;cases ug)];exact ug
 have Pk:aD H0 (upd H1 g (.ins Cg gx rg)):=λc o hc=>by rw [755];exact s01 c o hc
 have Xu:upd H1 g (.ins Cg gx rg) g=some (.ins Cg gx rg):=af;generalize upd H1 g (.ins Cg gx rg)=H2 at Sn Pk Xu;refine⟨λσ H3=>σ=[aZ g,aZ R,some sv]/\899,?_,?_⟩
 .have fin:∀S2,H2 S2=none->(λH3=>899) (upd (upd H2 S2 (.lst (ss.map V.ref))) g (.ins Cg gx (dN "strengths" (.ref S2) rg)))/\upd H2 S2 (.lst (ss.map V.ref)) g=some (.ins Cg gx rg):=λS2 N9=>by
   have sl:=ah N9 (.lst (ss.map V.ref));have eS:upd H2 S2 (.lst (ss.map V.ref)) S2=some (.lst (ss.map V.ref)):=af;have VI:=sl _ _ Xu;refine⟨⟨S2,_,λc o hc=>?_,af,rfl,?_,?_,Pk.free N9⟩,VI⟩
   .rw [755];exact sl _ _ (Pk c o hc)
   .rw [ai (λz=>by rw [z,Xu] at Sn;cases Sn)];exact sl _ _ Sn
   rw [ai (λz=>by rw [z,Xu] at N9;cases N9)];exact eS
  rcases oG with ⟨rfl,rfl,rfl⟩ | ⟨S,rfl,hS,R0⟩
  .refine⟨_,rfl,_,rfl,?_⟩;refine tR ?_;refine⟨Bu,λS2 N9=>?_⟩;obtain⟨x1,x2⟩:=fin S2 N9;exact⟨_,rfl,g,Cg,gx,rg,rfl,x2,G.cls,G.a2,(by rw [<-oJ];show 1 < 1000;decide),rfl,x1⟩
  refine⟨_,rfl,_,rfl,?_⟩;refine kI ?_;refine⟨_,rfl,S,_,rfl,.inl (Pk.seq hS),λS2 N9=>?_⟩;obtain⟨x1,x2⟩:=fin S2 N9;exact⟨_,rfl,g,Cg,gx,rg,rfl,x2,G.cls,G.a2,(by rw [<-oJ];show 1 < 1000;decide),rfl,x1⟩
 rintro σ H3 ⟨rfl,S2,K7,KS,VI,qL,er3,es3,fS2⟩;have lk1:K7.lookup ("rules":Str)=some (.ref R2):=by rw [qL,<-oJ];rfl
 have WZ:K7.lookup ("strengths":Str)=some (.ref S2):=by rw [qL,<-oJ];rfl
 have ZT:bY K H3 ss str:=by
  rcases oG with ⟨_,rfl,rfl⟩ | ⟨S,_,_,R0⟩
  .exact .nil
  exact R0.same KS
 have A0:=hT3.same KS;refine⟨_,rfl,g,Cg,gx,K7,_,rfl,VI,G.cls,G.a1,lk1,_,rfl,g,Cg,gx,K7,_,rfl,VI,G.cls,G.a2,WZ,R2,S2,rs,ss,aa,str,rk,b,rfl,aX.of er3,dA.same KS,∅,h8,p_,aX.of es3,ZT,N2,ZX,ZW,gd,A0.t1,A0.t2,A0.Hc,λH4 WJ t14 t24=>?_⟩;have Mq:=Kp.of2 WJ A0.t1 A0.t2;have t4:E6 T1 T2 T3 H4:=⟨t14,t24,Tab.s2 A0.t3 WJ A0.t1 A0.t2 A0.Ha.symm A0.Jn.symm,A0.Hc,A0.Ha,A0.Jn⟩;have S04:qD T1 T2 T3 H0 H4:=λc o n1 n2 _ hc=>WJ c o n1 n2 (KS c o hc);have eg4:=Mq _ _ VI 611;have er4:=Mq.lst er3;have es4:=Mq.lst es3;have UM:bY K H4 rs aa:=Mq.aa (dA.same KS);clear t14 t24 WJ A0;refine⟨_,rfl,g,Cg,gx,K7,_,rfl,eg4,G.cls,G.a1,lk1,R2,rs,aa,rfl,aX.of er4,UM,∅,h8,λds H5 fds Fo=>?_⟩;have Sv:=Fo _ _ eg4;have er5:=Fo _ _ er4;have es5:=Fo _ _ es4;have Z0:=UM.same Fo;have t5:=t4.same Fo;have S05:qD T1 T2 T3 H0 H5:=λc o n1 n2 n3 hc=>Fo _ _ (S04 c o n1 n2 n3 hc);refine⟨_,rfl,g,Cg,gx,K7,rfl,Sv,G.cls,G.a4,(by rw [qL,<-oJ];show 2 < 1000;decide),?_⟩;generalize yD:dN "standings" (.ref ds) K7=A9;have Y4:∀{Hx:Hp}{fx fy:501},Hx g=some (.ins Cg gx fx)->qD T1 T2 T3 H0 Hx->qD T1 T2 T3 H0 (upd Hx g (.ins Cg gx fy)):=λ{Hx fx fy} hg hs c o n1 n2 n3 hc=>by
  rw [755];exact hs c o n1 n2 n3 hc
 have P7:∀{Hx:Hp}{fx fy:501}{b:Addr}{xs:84},Hx g=some (.ins Cg gx fx)->Hx b=500->upd Hx g (.ins Cg gx fy) b=500:=λ{Hx fx fy b xs} hg hb=>by
  rw [ai (λz=>by rw [z,hg] at hb;cases hb)];exact hb
 have S06:=Y4 (fy:=A9) Sv S05;have er6:=P7 (fy:=A9) Sv er5;have es6:=P7 (fy:=A9) Sv es5;have Qt:bY K (upd H5 g (.ins Cg gx A9)) rs aa:=Z0.keep λ_ _ z=>gw Sv z;have t6:E6 T1 T2 T3 (upd H5 g (.ins Cg gx A9)):=t5.HF Sv;have Su:upd H5 g (.ins Cg gx A9) g=some (.ins Cg gx A9):=af;generalize upd H5 g (.ins Cg gx A9)=H6 at S06 er6 es6 Qt t6 Su;have lk6:A9.lookup ("rules":Str)=some (.ref R2):=by rw [<-yD,qL,<-oJ];rfl
 refine⟨_,rfl,g,Cg,gx,A9,_,rfl,Su,G.cls,G.a1,lk6,λx dx hx hdx ndx=>?_⟩;have sx:aD H6 (upd (upd H6 dx (.own x)) x (.ins C dx [])):=(ah hdx _).trans (ah (by rw [ai ndx.symm];exact hx) _);refine⟨H6,x,dx,R2,rs,aa,rfl,sx,hx,af,aX.of er6,Qt,∅,h8,λe d bg kE aC ps bes H7 S7 m7 emp uh vE Ol Ko=>⟨rfl,?_⟩⟩;have Ss:=S7.sm _ _ Su;have er7:=S7.sm _ _ er6;have es7:=S7.sm _ _ es6;have t7:=t6.same S7.sm;have ZZ:=Qt.same S7.sm;have S07:qD T1 T2 T3 H0 H7:=λc o n1 n2 n3 hc=>S7.sm _ _ (S06 c o n1 n2 n3 hc);refine⟨_,rfl,g,Cg,gx,A9,rfl,Ss,G.cls,G.a3,(by rw [<-yD,qL,<-oJ];show 3 < 1000;decide),?_⟩;generalize C2:dN "begin_table" (.ref x) A9=C8;have S08:=Y4 (fy:=C8) Ss S07;have er8:=P7 (fy:=C8) Ss er7;have es8:=P7 (fy:=C8) Ss es7;have UL:bY K (upd H7 g (.ins Cg gx C8)) rs aa:=ZZ.keep λ_ _ z=>gw Ss z;have t8:E6 T1 T2 T3 (upd H7 g (.ins Cg gx C8)):=t7.HF Ss;have Xs:upd H7 g (.ins Cg gx C8) g=some (.ins Cg gx C8):=af;have B8:o9 K C (upd H6 g (.ins Cg gx C8)) (upd H7 g (.ins Cg gx C8)) x e d bg kE aC ps bes:=S7.HF Su (λz=>by rw [z,Su] at hx;cases hx);generalize upd H7 g (.ins Cg gx C8)=H8 at S08 er8 es8 UL t8 Xs B8;have RR:C8.lookup ("rules":Str)=some (.ref R2):=by rw [<-C2,<-yD,qL,<-oJ];rfl
 have lb8:C8.lookup ("begin_table":Str)=some (.ref x):=by rw [<-C2,<-yD,qL,<-oJ];rfl
 refine⟨_,rfl,g,Cg,gx,C8,_,rfl,Xs,G.cls,G.a1,RR,_,rfl,g,Cg,gx,C8,_,rfl,Xs,G.cls,G.a3,lb8,λy dy hy hdy ndy=>?_⟩;have sy:aD H8 (upd (upd H8 dy (.own y)) y (.ins C3 dy [])):=(ah hdy _).trans (ah (by rw [ai ndy.symm];exact hy) _);have Qd:=Ol.len ∅ h8;refine⟨H8,_,y,dy,R2,x,e,d,bg,rs,aa,kE,aC,ps,bes,rfl,sy,hy,af,aX.of er8,UL,bE,h8,gd.least,B8,emp,Qd,t8.t1,t8.t3,t8.Ha,λH9 Yw Yo t39=>⟨rfl,?_⟩⟩;have Mp:=Kp.of2 Yw t8.t1 t8.t3;have Oe:=Mp _ _ Xs 611;have er9:=Mp.lst er8;have es9:=Mp.lst es8;have t9:E6 T1 T2 T3 H9:=⟨Yo,Tab.s2 t8.t2 Yw t8.t1 t8.t3 t8.Hc.symm t8.Jn,t39,t8.Hc,t8.Ha,t8.Jn⟩;have S09:qD T1 T2 T3 H0 H9:=λc o n1 n2 n3 hc=>Yw _ _ n1 n3 (S08 c o n1 n2 n3 hc);refine⟨_,rfl,g,Cg,gx,C8,rfl,Oe,G.cls,G.a5,(by rw [<-C2,<-yD,qL,<-oJ];show 4 < 1000;decide),?_⟩;refine q x _ (Y4 Oe S09) (t9.HF Oe) ⟨gx,_,R2,S2,af,?_,?_,?_,?_,P7 Oe er9,P7 Oe es9,s0.free K3,fS2⟩ ⟨aC,bes,?_⟩
 .rw [<-C2,<-yD,qL,<-oJ];rfl
 .rw [<-C2,<-yD,qL,<-oJ];rfl
 .rw [<-C2,<-yD,qL,<-oJ];rfl
 .rw [<-C2,<-yD,qL,<-oJ];rfl
 have nxg:x≠g:=λz=>by rw [z,Su] at hx;cases hx
 exact((Rm B8 emp uh Ol Ko m7 vE).kp Mp).mv (λ_ _ z=>by rw [ai nxg];exact z) (λ_ _ z=>P7 Oe z) (λ_ _ z=>gw Oe z) λb xs z=>by rw [ai (λy=>by rw [y,Oe] at z;cases z)];exact z
def DO (K:aY)(Cg:Addr):Sp:=λvs H Q _=>∃(H0:Hp)(g bt:Addr)(rs ss:z0q)(aa:56)(ng:aw),vs=[.ref g]/\GrV H0 H Cg g rs ss bt/\520/\aa[0]?=some ng/\Q (.str ng.1) H
def Lu:aM ["self"] ["self"] (ax B4):=417
def I9 {Cg:Addr}(F:jo K "start" "Grammar.start" B4 f fd)(G:GC K Cg):bO P w K mg base gb 1 f fd ["self"] (DO K Cg):=by
 refine F.ok Lu 420 472
 .obtain⟨H0,g,bt,rs,ss,aa,ng,rfl,_⟩:=h;rfl
 obtain⟨H0,g,bt,rs,ss,aa,ng,rfl,⟨gx,fs,R2,S2,eg,l1,l2,l3,l4,e1,e2,_⟩,dA,Mw,q⟩:=h;refine⟨_,av (bS (bF bH (bF e_ 528 aA 109) aA 109)),?_⟩;dsimp only [Dj];have ll:=bf dA;have l0:=(a7.mp Mw).1;obtain⟨r0,So,p,v1,v2⟩:=Paired.at_ dA 0 ng Mw;have AJ:Bc 260 ((0:Nat):Int)=some (.ref r0):=eh (by rw [bx,So];rfl);exact⟨_,rfl,g,Cg,gx,fs,_,rfl,eg,G.cls,G.a1,l1,R2,_,_,_,rfl,rfl,aX.of e1,AJ,r0,_,_,_,rfl,rfl,v1,rfl,q⟩
end
def JW {aa:56}{ru:aw}(h:ru∈aa):ru.1∈hd aa:=(gY _ _ _).mpr (.inr (ja h))
def N6 {aa:56}{x:Str}(h:x∈hd aa):∃ru∈aa,ru.1=x:=by
 rcases (gY _ _ _).mp h with h | h
 .cases h
 obtain⟨ru,a,b⟩:=a9.mp h;exact⟨ru,a,b⟩
def Kg {aa:56}{aC:z0h}(h:uO aa aC):∀y∈aC.map 27,Em aa y:=by
 induction h with
 | nil=>intro y hy;cases hy
 | @snoc aC k ru _ e _ p ih =>
  intro y hy;rw [aP] at hy;rcases cw.mp hy with h | h
  .exact ih y h
  rw [bj.mp h];exact .mk (cv e) λq hq=>ih q (p q hq)
def Ju {b:Str->Bool}{zs:z0t}{i j:Nat}{x:Str}(h:Ml b zs j=true)(e:zs[i]?=some x)(n:i≠j):b x=true:=by
 cases hb:b x with
 | true=>rfl
 | false =>
  have li:=(a7.mp e).1;have m:((i:Nat):Int)∈Gg b zs zs.length:=by
   unfold Gg;exact a9.mpr ⟨i,i9.mpr ⟨cb.mpr li,by rw [e];show (!(b x))=true;rw [hb];rfl⟩,rfl⟩
  unfold Ml at h;rcases Bool.or_eq_true_iff.mp h with h | h
  .rw [<-dJ h] at m;cases m
  rw [<-dJ h] at m;have:=bj.mp m;omega
end fC
namespace M11
open PySem
end M11
namespace L2
open PySem PySem.Spec PyProof.Rows
section
variable {P:Program}{w:World}{A:Around}{E:z0b}{s:Shared}
end
section
variable {P:Program}{w:World}{A:Around}{R:Result->146}{I:Addr}{fp wr:z0q}{G:Array GenState->Array GenState->Prop}{n:Nat}{Pv:Nat->Value->Prop}{St:Nat->146}
end
section
variable {P:Program}{w:World}{A:Around}{E:z0b}{s:Shared}
end
section
variable {M:Model}{A:Around}{E:z0b}
end
section
variable {P:Program}{w:World}{A:Around}{E:z0b}{s:Shared}
end
section
variable {prog:Program}{w:World}{A:Around}{E:z0b}{s:Shared}
def BN {a:Addr}{vs:z0m}{n:Nat}{P:Fin->146}(ho:s.heap.get? a=some (seqObj "list" vs.toArray n))(h1:vs.length < 2)
  (h:P (.done (.ret .none)) { s with heap:=sortedHeap s.heap a vs ((pairsOf vs).map 105) }) :
  wpAny 140 A (Builtin.«list.sort» ⟨[91],[]⟩) P E s:=by
 rw [list_sort_plain];have ha:a < s.heap.objs.size:=aV ho;refine au (listItems_at ho rfl ?_);refine au (listUpdate_at ho rfl ?_);obtain⟨e1,JJ⟩:∃e1,(s.heap.update a (Obj.mapSeq λ_=>#[])).get? a=some (seqObj "list" #[] e1):=⟨_,get?_update_seq ho (λ_=>#[])⟩;refine au (seqEpoch_at JJ rfl ?_);refine au (wpAny_newTuple ?_);refine au (wpAny_newList ?_);refine gr ?_;have R5:(((s.heap.update a (Obj.mapSeq λ_=>#[])).push (seqObj "tuple" vs.toArray 0)).push (seqObj "list" #[] 0)).get? a=some (seqObj "list" #[] e1):=by
  rw [pA _ _ _ (by rw [size_push',px];exact bJ (kX ha)),pA _ _ _ (by rw [px];exact bJ ha)];exact JJ
 show wpAny 140 A _ P E { s with heap:=((s.heap.update a (Obj.mapSeq λ_=>#[])).push (seqObj "tuple" vs.toArray 0)).push (seqObj "list" #[] 0) };dsimp only;have h2:vs.toArray.size < 2:=by simpa using h1
 rw [ar h2,ar h2];refine au (aJ ?_);rw [StateT.run_pure];refine au (aJ ?_);dsimp only;refine au (seqEpoch_at R5 rfl ?_);refine au (listUpdate_at R5 rfl ?_ (hsz2:=by rw [Array.size_map];show (pairsOf vs).size<=_;rw [pairsOf_size,mK];omega));simp only [bne_self_eq_false,kK,if_false];exact aJ h
end
def Fv:∀(vs:z0m),((pairsOf vs).map 105)=vs.toArray:=λvs=>by
 apply rJ.mp;rw [Array.toList_map,pairsOf_toList,List.map_snd_zip 128]
end L2
namespace Wn
theorem i4 {α:Type} [DecidableEq α]:∀(l m:List α),l.Nodup->(∀z∈l,z∈m)->l.length<=m.length
 | [],m,_,_=>cV _
 | a::l,m,hn,h=>by
  have hm:=h a a8;have:=i4 l (m.erase a) (dU.mp hn).2 λx hx=>(List.mem_erase_of_ne (λz:x=a=>(dU.mp hn).1 (by rw [<-z];exact hx))).mpr (h x (bA _ hx));rw [List.length_erase_of_mem hm] at this;have:=List.length_pos_of_mem hm;rw [cf];omega
end Wn
namespace L2
open PySem
section
variable {K:aY}{H:Hp}{p D:Addr}{zs:z0t}{σ:St}{x:Str}{js:z0i}{te:TE}{Qp:106}
def Ax (rest:St)(pr:Str->Bool)(hc:eV [x] js σ=none::rest)(hp:aU K H p 478)(hz:zs.length<=1000)(hD:H D=none)
  (ZR:∀z∈zs,∀(H':Hp)(Qy:VK),147->Qy (.bl (pr z)) H'->te (some (.str z)::rest) H' Qy)
  (q:∀H2,aD H H2->H2 D=some (.lst ((zs.map pr).map V.bl))->Qp H2) :
  ∃W:Nat->490,(∃m,W 0 m [] (eV [x] js σ) 482) /\
 ∀i m ys σ' H,529->((qE K p).stop i H/\Qp H)\/((qE K p).go i H/\∃m',m' < m/\∀x H',(qE K p).o7 i H x H'->dX 0 x σ' H' λσ2 H2=>jd σ2 H2 λb H3 =>
  if b=true then te σ2 H3 526 else 527):=by
 refine iI (xs:=257) (λi ys σ2 H2=>ys=((zs.take i).map pr).map V.bl/\(∃y0,σ2=y0::rest)/\618)
  ⟨rfl,⟨none,hc⟩,ah hD _,af⟩ (λi ys σ2 H2 _ h=>?_) (λi v ys σ2 H2 ex h=>?_) 621
 .obtain⟨_,_,sm,_⟩:=h;exact sm.tup hp
 .obtain⟨rfl,⟨y0,rfl⟩,sm,hd⟩:=h;rw [bx] at ex;obtain⟨z,ez,rfl⟩:=473;have li:=(a7.mp ez).1;refine goN (A7 (ZR z (cv ez) _ _ sm ⟨hd,bX (by rw [ay,ay,fQ];omega),?_,421,λb o hb=>?_,af⟩))
  .rw [di,ez,aP,aP];rfl
  rw [585];exact sm b o hb
 obtain⟨rfl,_,sm,hd⟩:=h;rw [ay,dW] at hd;exact q H2 sm hd
end
theorem all_map (zs:z0t)(pr:Str->Bool):(zs.map pr).all id=zs.all pr:=by
 rw [List.all_map];rfl
end L2
namespace fC
open PySem L2 M11
abbrev hm (aa:56):z0t:=aa.map 27
def N4 {aa:56}{x:Str}:x∈hm aa↔x∈hd aa:=by
 constructor
 .intro h;obtain⟨ru,a,b⟩:=a9.mp h;exact b ▸ JW a
 intro h;obtain⟨ru,a,b⟩:=N6 h;exact a9.mpr ⟨ru,a,b⟩
def Gq (zs:z0t) (j:Nat):qf 478 (some (0+124+1)) none=(zs.drop (j+1)).map V.str:=by
 rw [Int.zero_add,show 124+1=((j+1:Nat):Int) by push_cast;rfl];unfold qf;rw [HT.Ia,HT.LF,ay,List.map_drop];by_cases h:j+1<=zs.length
 .rw [Nat.min_eq_left h,qm (by rw [rK,ay];exact aE _)]
 rw [Nat.min_eq_right ∅,Nat.sub_self,rC,Bj (by rw [ay];omega)]
def OpI (ns:z0t)(ru:aw) (pl:Nat):Prop:=∀x∈ru.2.take pl,x∈ns
inductive Dy (aa:56) (ns:z0t)(w:Str):Str->Prop
 | word {ru:aw}{pl:Nat}:ru∈aa->OpI ns ru pl->ru.2[pl]?=some w->w∉hm aa->Dy aa ns w ru.1
 | name {ru:aw}{pl:Nat}{p:Str}:ru∈aa->OpI ns ru pl->ru.2[pl]?=some p->Dy aa ns w p->Dy aa ns w ru.1
def Dy.head {aa:56}{ns:z0t}{w h:Str}(b:Dy aa ns w h):h∈hm aa:=by
 cases b with
 | word hr _ _ _=>exact a9.mpr ⟨_,hr,rfl⟩
 | name hr _ _ _=>exact a9.mpr ⟨_,hr,rfl⟩
theorem Paired.V3 {α β:Type}{F:α->β->Prop}:∀{xs:List α}{ys:List β}{KP:List α}{ys2:List β},Paired F xs ys->Paired F KP ys2->Paired F (xs++KP) (ys++ys2)
 | _,_,_,_,.nil,h=>h
 | _,_,_,_,.cons a r,h=>.cons a (Paired.V3 r h)
theorem yH (b:Str->Bool):∀(zs:z0t) (j:Nat),j < u5 b zs↔j < zs.length/\∀x∈zs.take j,b x=true
 | [],j=>⟨λh=>absurd h (Nat.not_lt_zero _),λh=>absurd h.1 (Nat.not_lt_zero _)⟩
 | z::r,0=>⟨λ_=>⟨Nat.succ_pos _,λ_ h=>(by cases h)⟩,λ_=>by unfold u5;split <;> omega⟩
 | z::r,j+1=>by
  have ih:=yH b r j;unfold u5;by_cases c:b z=true
  .rw [ar c,rX,cf];constructor
   .intro h;obtain⟨h1,h2⟩:=ih.mp ∅;refine⟨∅,λx hx=>?_⟩;rcases a_.mp hx with e | e
    .rw [e];exact c
    exact h2 x e
   intro h;have:=ih.mpr ⟨∅,λx hx=>h.2 x (bA _ hx)⟩;omega
  rw [aq c,rX];exact⟨λh=>121,λh=>absurd (h.2 z a8) c⟩
def T5 {ns:z0t}{ru:aw}{j:Nat}{z:Str}(e:ru.2[j]?=some z):j < u5 (λx=>decide (x∈ns)) ru.2↔OpI ns ru j:=by
 rw [yH];exact⟨λh x hx=>dJ (h.2 x hx),λh=>⟨(a7.mp e).1,λx hx=>dS (h x hx)⟩⟩
section
variable {aa:56}{ns:z0t}{bes:108}
def GQ (h:uP aa (hd aa) (λz=>decide (z∈ns)) bes):∀x∈qY bes,Dy aa ns x.2 x.1:=by
 induction h with
 | nil=>intro x h;cases h
 | @snoc bes k j ru z w h e1 e2 lj hw n ih =>
  intro x hx;unfold qY at hx;rw [aP] at hx;rcases cw.mp hx with q | q
  .exact ih x q
  rw [bj.mp q];have o:=(T5 e2).mp lj;have hr:=cv e1;unfold jt at hw;by_cases c:z∈hd aa
  .rw [ar c] at hw;exact .name hr o e2 (ih (z,w) (yF.mp hw))
  rw [aq c] at hw;have:=bj.mp hw;subst this;exact .word hr o e2 λy=>c (N4.mp y)
end
end fC
namespace L2
open PySem PySem.Spec PyProof.Rows
theorem vJ:∀{vs:z0m}{ks:z0t},vs.length=ks.length->(∀(j:Nat)(v:Value),vs[j]?=some v->∃z t,ks[j]?=some z/\v=.str z t)->StrsAre vs ks
 | [],[],_,_=>.nil
 | v::vs,k::ks,hl,h=>by
  obtain⟨z,t,e1,e2⟩:=h 0 v rfl;cases e1;subst e2;exact .cons k t (vJ (Nat.succ.inj hl) λj u hu=>h (j+1) u hu)
 | [],_::_,hl,_=>by cases hl
 | _::_,[],hl,_=>by cases hl
def Dl {X:Cx}(hc:530):gL X (.builtin "sorted") (λxs H Q=>∃a kvs ks,xs=[91]/\H a=375/\kvs.map 27=ks.map Sum.inr/\ks.length < 64/\∀l lU,H l=none->lU.Perm ks->sortedS lU=true->Q (.ref l) (upd H l (.lst (List.map V.str lU)))):=by
 intro ag s σ H xs us Q I r h;obtain⟨a,kvs,ks,rfl,e,hk,h64,q⟩:=h;obtain⟨u,rfl,rx⟩:=vals1 r;cases 713;obtain⟨z,hs,vs,rel,dd⟩:=uj I.bI e;obtain⟨o,es,ep,d1,d2,d3,d4⟩:=dd;have l1:=rel.length;have lk:kvs.length=ks.length:=by have:=congrArg List.length hk;rw [ay,ay] at this;exact this
 refine Calls.call_function_entry kind_sorted plain_sorted entry_sorted (args_sorted1 _) ?_;unfold Builtin.«sorted»;refine au (m:=checkCount "sorted" 1 1 _) (aJ ?_);refine au (PySem.W.kdu_collect (PySem.W.kdl_dict (knd:=aK X.prog X.w) (kvs:=vs) (ep:=ep) hs) (I.ok.hd hc) ⟨o,es,d1,d2,d3,d4⟩ ∅ λh1 tk bD kp l_=>?_);have keys:=rel.keys;have la:bD.toList.length=ks.length:=by rw [ix];have:=l_.1;omega
 have hS:StrsAre bD.toList ks:=vJ la λj v hv=>by
  rw [mh] at hv;obtain⟨k,x,e3,e4⟩:=l_.2 j v hv;have e6:(kvs.map 27)[j]?=some k:=by rw [keys,bx,e3];rfl
  rw [hk,bx] at e6;obtain⟨z2,e7,e8⟩:=cH.mp e6;rw [<-e8] at e4;obtain⟨t,et⟩:=(show ∃t,v=.str z2 t from EB e4);exact⟨z2,t,e7,et⟩
 generalize bD.toList=Nm at la hS;refine au (wpAny_newList ?_);have N3:(h1.push (seqObj "list" Nm.toArray 0)).get? h1.objs.size=some (seqObj "list" Nm.toArray 0):=cU _ rfl;refine au (gr (i_ slot_list_sort ⟨_,N3,rfl⟩ entry_list_sort (list_sort_treeK strKind_oneLt N3 hS.keysOf (λv₁ v₂ rest e=>keyKind_strs (by rw [<-e];exact hS)) ∅ λaS a1 a2=>⟨_,rfl,?_⟩) (args_list_sort _)));obtain⟨ss,b1,b2,b3⟩:=sorted_out_str hS a1 a2;obtain⟨e9,he⟩:=sortedHeap_at (out:=(256).map 105) N3;have UB:∀b u,700->(sortedHeap (h1.push (seqObj "list" Nm.toArray 0)) h1.objs.size Nm ((256).map 105)).get? b=some u:=λb u hb=>by
  have Vl:=kp b u hb;have lb:=aV Vl;rw [sortedHeap_old (bJ lb) (by rw [mO];exact kX lb)];exact bW _ Vl
 have hD:s.heap.get? h1.objs.size=none:=by
  cases e:s.heap.get? h1.objs.size with
  | none=>rfl
  | some ob=>exact absurd (aV (kp _ _ e)) (ir _)
 have fD:H h1.objs.size=none:=by
  cases e:H h1.objs.size with
  | none=>rfl
  | some u =>
   obtain⟨ob,g⟩:=tH (I.bI _ u e);rw [hD] at g;cases g
 have v:=vw b1;refine aJ ⟨_,rfl,.ref h1.objs.size,_,I.Jz (t':=tk) (λb u _ hb=>UB b u hb) (λm hm=>by obtain⟨o',a1,a2,EF,rest⟩:=hm;exact⟨o',a1,a2,UB _ _ EF,rest⟩) hD fD (show bR X.prog X.w _ _ _ (.lst (List.map V.str ss)) from ⟨?_,((256).map 105).toList,e9,v,?_⟩),rfl,q _ ss fD b2 b3⟩
 .rw [ay,b2.length_eq];exact fits ∅
 rw [he]
open PySem
def LS {X:Cx}{e:Expr}{f:Str}{pos:Pos}{ta:TE}(K:aY)(he:PE X e ta)(hb:attributeBase e f X.env (eval e X.env)=eval e X.env)(hK:X.K=K:=by rfl):PE X (.Attribute e f pos) (Tg K ta f):=by subst hK;exact cQ he hb
end L2
namespace fC
open PySem L2 M11
abbrev yf:Stmt:=NO sY 3
abbrev Ie:Stmt:=NO sY 4
def Nd (K:aY)(b:Bool)(H:Hp)(p:Addr)(xs:84):Prop:=if b=true then aU K H p xs else aX K H p xs
def Nd.same {K:aY}{b:Bool}{H H':Hp}{p:Addr}{xs:84}(s:147)(h:Nd K b H p xs):Nd K b H' p xs:=by
 cases b
 .exact s.seq h
 exact s.tup h
def YN (K:aY)(b:Bool):R2:=λx y H Q=>XF (Nd K b H) x y λv=>Q v H
def Wq (names:z0t)(bes:108)(b:Str->Bool) (zs:z0t)(w:Str):Prop:=∃j z,zs[j]?=some z/\j < u5 b zs/\w∈jt names bes z
def Od (kE:86)(z:Str):Bool:=634
def nV (names:z0t)(bes:108)(z:Str):(jt names bes z).length<=bes.length+1:=by
 unfold jt
 split
 .have:=Ka bes z;omega
 show 1<=_;omega
def lQ (a:z0t)(h:Str):(eK a h).length<=a.length+1:=by
 unfold eK
 split
 .omega
 rw [bp];exact aE _
section
def ZH {X:Cx}(b:Bool):Wr X (YN X.K b):=by
 cases b
 .exact e_
 exact bH
def Tt (K:aY)(b:Bool):Sp:=λvs H Q _=>∃(p d:Addr) (zs:z0t)(kvs:86),vs=[.ref p,.ref d]/\Nd K b H p 478/\zs.length<=1000/\H d=375 /\
 ∀D H',H D=none->147->H' D=some (.lst (cnt (u5 796 zs)))->Q (.ref D) H'
def DU (K:aY)(C:Addr)(b:Bool):Sp:=λvs H Q _=>∃(H0:Hp)(a e d bg p:Addr)(kE:86)(aC:z0h)(ps:z0f)(bes:108) (zs:z0t),vs=[91,.ref p]/\708/\Nd K b H p 478/\zs.length<=10/\bes.length<=63 /\
 ∀(D:Addr)(kvs:86) (ks:z0t)(H':Hp),H D=none->147->H' D=375->kvs.map 27=ks.map Sum.inr->ks.Nodup->(∀w,w∈ks↔Wq 545 bes (Od kE) zs w)->ks.length<=1000->Q (.ref D) H'
def qX:aM ["self","parts","words","place","word"] ["self","parts"] (ax yf):=417
def Jh (b:Bool){C fW:Addr}{Vu:FuncData}(F:jo K "first_words" "BeginTable.first_words" yf f fd)(T:Txt mg)(B:BC K C)(GP:aL P w K mg base 1 "first_places" ["parts","empty"] (Tt K b))(FW:bO P w K mg base gb 1 fW Vu ["self","part"] (xP K C))(MW:Meth K C "words_of_part" fW)(BW:Binds K Vu ["self","part"] []) :
  bO P w K mg base gb 2 f fd ["self","parts"] (DU K C b):=by
 refine F.ok qX 420 472
 .obtain⟨H0,a,e,d,bg,p,kE,aC,ps,bes,zs,rfl,_⟩:=h;rfl
 obtain⟨H0,a,e,d,bg,p,kE,aC,ps,bes,zs,rfl,S,hp,hz,aba,q⟩:=h;have hu:=fc hr;refine⟨_,aj (aF (i:=2) qX.nd rfl 68 fV)
  (aj (cP c_ rfl (bP (bZ GP hr rfl (ae 102 664))) (az (i:=3) qX.nd rfl 68)
   (av (cP c_ rfl (bP (ou 72 B.cls MW FW hr BW .nil mq (ae (bF (ZH b) 102 (pv 3) 109) ao))) (az (i:=4) qX.nd rfl 68)
    (av (gC hu (pv 2) (pv 4) h_ rfl)))))
  (av (bS (pv 2)))),?_⟩
 refine λW hW=>?_;have k1:=ah hW 418;have e1:upd H W 418 W=some 418:=af;generalize upd H W 418=H1 at k1 e1;have S1:=S.same k1;obtain⟨dx,fs,ea,f1,f2,f3,f4,f5⟩:=S1.ia;refine⟨_,rfl,_,rfl,a,C,dx,fs,_,rfl,ea,B.cls,B.a2,f1,p,e,zs,kE,rfl,(Nd.same k1 hp),∅,S1.he,λD5 H5 f6 s5 e5=>⟨D5,rfl,⟨_,aX.of e5⟩,?_⟩⟩;have nW5:D5≠W:=λz=>by rw [z,e1] at f6;cases f6
 have fle:=C_ (Od kE) zs;change H5 D5=some (.lst (cnt (u5 (Od kE) zs))) at e5;generalize hn:u5 (Od kE) zs=n at *;refine du (xs:=cnt n) (λi σ H6=>∃(kvs:86) (ks:z0t)(y3 y4:126),σ=[aZ a,aZ p,aZ W,y3,y4]/\aD H H6/\H6 D5=some (.lst (cnt n))/\H6 W=375/\kvs.map 27=ks.map Sum.inr/\ks.Nodup/\ks.length<=64 * i/\∀w,w∈ks↔∃j z,zs[j]?=some z/\j < i/\w∈jt 545 bes z)
  ⟨[],[],none,none,rfl,k1.trans s5,e5,s5 _ _ e1,rfl,eG,cV _,λw=>⟨λh=>(by cases h),λ⟨j,z,_,h,_⟩=>absurd h (Nat.not_lt_zero _)⟩⟩ ?_ ?_ ?_
 .rintro i σ H6 _ ⟨kvs,ks,y3,y4,rfl,s6,e6,_⟩;exact aX.of e6
 .rintro i x σ H6 ex ⟨kvs,ks,y3,y4,rfl,s6,e6,eW,hk,nd,lk,uL⟩;have li:i < n:=by have:=(a7.mp ex).1;rw [rj] at this;exact this
  rw [Km li] at ex;cases ex;have lz:i < zs.length:=121
  obtain⟨z,ez⟩:∃z,zs[i]?=some z:=⟨zs[i],cx lz⟩;have M4:Bc 478 (i:Int)=some (.str z):=eh (by rw [bx,ez];rfl);have S2:=S.same s6;obtain⟨Rg,rg,Q_,g1,g2,g3,g4,g5⟩:=S2.ia;refine goN ?_;refine⟨_,rfl,a,Rg,rg,rfl,Q_,g5.1,_,rfl,_,rfl,p,_,_,_,rfl,rfl,(Nd.same s6 hp),M4,H0,a,e,d,bg,kE,aC,ps,bes,z,rfl,S2,λD6 H7 f7 s7 e7=>⟨D6,rfl,⟨_,aX.of e7⟩,?_⟩⟩;have nW6:D6≠W:=λz=>by rw [z,eW] at f7;cases f7
  have lws:=nV 545 bes z;generalize Qq:jt 545 bes z=ws at *;refine du (xs:=ws.map V.str) (λm σ H8=>∃(kvs:86) (A4:z0t)(y4:126),σ=[aZ a,aZ p,aZ W,some (141),y4]/\aD H H8/\H8 D5=some (.lst (cnt n))/\H8 D6=some (.lst (ws.map V.str))/\H8 W=375/\kvs.map 27=A4.map Sum.inr/\A4.Nodup/\A4.length<=64 * i+m/\∀w,w∈A4↔w∈ks\/w∈ws.take m)
   ⟨kvs,ks,_,rfl,s6.trans s7,s7 _ _ e6,e7,s7 _ _ eW,hk,nd,∅,λw=>⟨.inl,λh=>h.elim id λh=>(by simp at h)⟩⟩ ?_ ?_ ?_
  .rintro m σ H8 _ ⟨kvs,A4,y4,rfl,s8,e8,e9,_⟩;exact aX.of e9
  .rintro m x σ H8 ex ⟨kvs,A4,y4,rfl,s8,e8,e9,eW8,W_,Zb,RR,JO⟩;rw [bx] at ex;obtain⟨wd,ewd,rfl⟩:=473;have lm:=(a7.mp ewd).1;have ll:kvs.length=A4.length:=by have:=congrArg List.length W_;rw [ay,ay] at this;exact this
   refine goN ?_;refine⟨_,rfl,_,rfl,W,_,rfl,ma.k (k:=Sum.inr wd) eW8 (bX ∅),?_⟩;have la:=lQ A4 wd;refine⟨_,eK A4 wd,_,rfl,λb o hb=>?_,by rw [ai nW5];exact e8,by rw [ai nW6];exact e9,af,jI W_ wd,oV wd Zb,∅,λw=>?_⟩
   .rw [ai (λz=>by rw [z,hW] at hb;cases hb)];exact s8 b o hb
   rw [ie,JO,di,ewd,cw];constructor
   .rintro((h | h) | h)
    .exact .inl h
    .exact .inr (.inl h)
    exact .inr (.inr (bj.mpr h))
   rintro(h | h | h)
   .exact .inl (.inl h)
   .exact .inl (.inr h)
   exact .inr (bj.mp h)
  rintro σ H8 ⟨kvs,A4,y4,rfl,s8,e8,e9,eW8,W_,Zb,RR,JO⟩;rw [ay] at RR JO;rw [dW] at JO;refine⟨kvs,A4,_,_,rfl,s8,e8,eW8,W_,Zb,∅,λw=>?_⟩;rw [JO,uL];constructor
  .rintro(⟨j,z2,h1,h2,h3⟩ | h)
   .exact⟨j,z2,h1,∅,h3⟩
   exact⟨i,z,ez,mY _,Qq ▸ h⟩
  rintro⟨j,z2,h1,h2,h3⟩;by_cases c:j < i
  .exact .inl ⟨j,z2,h1,c,h3⟩
  have:j=i:=121
  subst this;rw [ez] at h1;cases h1;exact .inr (Qq ▸ h3)
 rintro σ H6 ⟨kvs,ks,y3,y4,rfl,s6,e6,eW,hk,nd,lk,uL⟩;rw [rj] at lk uL;refine⟨_,rfl,q W kvs ks H6 hW s6 eW hk nd (λw=>?_) ∅⟩;rw [uL];unfold Wq;rw [hn]
def HV (K:aY)(C:Addr)(b:Bool):Sp:=λvs H Q _=>∃(H0:Hp)(a e d bg p:Addr)(kE:86)(aC:z0h)(ps:z0f)(bes:108) (zs:z0t),vs=[91,.ref p]/\708/\Nd K b H p 478/\zs.length<=10/\∀H',147->Q (.bl (zs.all (Od kE))) H'
def LD:aM ["self","parts"] ["self","parts"] (ax Ie):=417
def Jl {C:Addr}(F:jo K "all_empty" "BeginTable.all_empty" Ie f fd)(T:Txt mg)(B:BC K C):bO P w K mg base gb 1 f fd ["self","parts"] (HV K C true):=by
 refine F.ok LD 420 472
 .obtain⟨H0,a,e,d,bg,p,kE,aC,ps,bes,zs,rfl,_⟩:=h;rfl
 obtain⟨H0,a,e,d,bg,p,kE,aC,ps,bes,zs,rfl,S,hp,hz,q⟩:=h;have hu:=fc hr;refine⟨_,av (bS (bo (qg rfl) rfl T.all boot_all (ae (cm ["part"] [(0,"self")] rfl (ju 102) 487 nofun rfl nofun
  (λ_ _ _ _ _=>az (i:=0) (show (["part","self"]:z0t).Nodup by decide +kernel) rfl 68) 539 (λ_ _ _ _ _=>Cr (nh hu 72 (LS K 102 rfl)))) ao))),?_⟩
 refine⟨_,rfl,p,rfl,⟨_,(show aU K H p 478 from hp)⟩,λD9 K4=>Ax (zs:=zs) [aZ a] (Od kE) rfl (show aU K H p 478 from hp) ∅ K4 (λz _ HA Qy sA hq=>?_) λH9 s9 e9=>?_⟩
 .have SA:=S.same sA;obtain⟨dx,fs,ea,f1,f2,f3,f4,f5⟩:=SA.ia;exact⟨_,rfl,_,rfl,a,C,dx,fs,_,rfl,ea,B.cls,B.a2,f1,e,_,rfl,b8.k (k:=88) SA.he,hq⟩
 refine⟨D9,_,rfl,aX.of e9,?_⟩;rw [all_map];exact q H9 s9
end
end fC
namespace ST
open PySem PyProof.Rows
def fZ:Bool->Keyed->71->Nat->Nat->Nat->StateT SortSt Sem z0p:=sortPriv% PySem.Builtin.gallop
def Sz (left:Bool)(key:Keyed)(arr:71) (base i:Nat):StateT SortSt Sem (Option Bool):=do
 let x <-elem' arr (base+i)
 if left then lt' x key else return (<-lt' key x).map (!·)
def C7 (left:Bool)(key:Keyed)(arr:71) (base n hint:Nat):fZ left key arr base n hint=(do
 let mut rb:=0
 let mut G9:=1
 let mut lo:=0
 let mut hi:=0
 let some right <-Sz left key arr base hint | return none
 if right then
  let tN:=n - hint
  for _ in [0:n] do
   if G9≥tN then break
   let some more <-Sz left key arr base (hint+G9) | return none
   if !more then break
   rb:=G9
   G9:=2 * G9+1
  lo:=hint+rb+1
  hi:=hint+min G9 tN
 else
  let tN:=hint+1
  for _ in [0:n] do
   if G9≥tN then break
   let some found <-Sz left key arr base (hint - G9) | return none
   if found then break
   rb:=G9
   G9:=2 * G9+1
  lo:=hint+1 - min G9 tN
  hi:=hint - rb
 for _ in [0:n] do
  if lo≥hi then break
  let m:=lo+(hi - lo) / 2
  let some more <-Sz left key arr base m | return none
  if more then lo:=m+1 else hi:=m
 return some hi):=rfl
section
variable {M:Model}{A:Around}{E:z0b}{s:Shared}
def i8 (M:Model)(A:Around)(E:z0b)(s:Shared)(κ:SortKind)(S:Keyed->Prop)(r:423):Prop :=
 ∀x y,S x->S y->∀(Q:Bool->146),Q (r x y) s->wpAny M A (keyLt' κ x.1 y.1) Q (λ_ _=>False) s
variable {κ:SortKind}{S:Keyed->Prop}{r:423}
def sr (ask:i8 M A E s κ S r){x y:Keyed}{st:SortSt}{Q:Option Bool->519}(hk:kindOf st=κ)(hx:S x)(hy:S y)(h:Q (some (r x y)) st):wpS M A E s (lt' x y) Q st:=by
 rw [lt'_eq];refine aG (wpS_get ?_);rw [hk];refine aG (wpS_lift (jS (dD (ask x y hx hy (λb s'=>s'=s/\b=r x y) ⟨rfl,rfl⟩) (λb s' hb=>?_) λ_ _ hF=>hF.elim)));obtain⟨rfl,rfl⟩:=hb;exact⟨rfl,aO h⟩
def bQ {arr:71}{i:Nat}{x:Keyed}{st:SortSt}{Q:Keyed->519}(e:arr[i]?=some x)(h:Q x st):wpS M A E s (elem' arr i) Q st:=by
 rw [elem'_eq,e];exact aO h
def gN (ask:i8 M A E s κ S r){left:Bool}{key:Keyed}{arr:71}{base n hint:Nat}{st:SortSt}{Q:z0p->519}(hk:kindOf st=κ)(Mz:S key)(b:Nat->Bool)
  (hb:∀i,i < n->∃x,arr[base+i]?=some x/\S x/\b i=if left=true then r x key else !r key x)(mono:∀i j,i<=j->j < n->b j=true->b i=true)(hh:hint < n)
  (h:∀k,k<=n->(∀i,i < k->b i=true)->(∀i,k<=i->i < n->b i=false)->Q (some k) st):wpS M A E s (fZ left key arr base n hint) Q st:=by
 rw [C7];have bd:∀(i:Nat)(Q:Option Bool->519),i < n->Q (some (b i)) st->wpS M A E s (Sz left key arr base i) Q st:=λi Q hi q=>by
  obtain⟨x,e,hx,ex⟩:=hb i hi;refine aG (bQ e ?_);cases left with
  | true =>
   rw [ar rfl] at ex ⊢;refine sr ask hk hx Mz ?_;rw [<-ex];exact q
  | false =>
   rw [aq nofun] at ex ⊢;refine aG (sr ask hk Mz hx (aO ?_));show Q (some (!r key x)) st;rw [<-ex];exact q
 dsimp only;generalize Sz left key arr base=beyond at bd ⊢;refine aG (bd hint _ hh ?_);dsimp only;have fin:∀lo hi,lo<=hi->hi<=n->(∀i,i < lo->b i=true)->(∀i,hi<=i->i < n->b i=false)->wpS M A E s (forIn [0:n] ((none,lo,hi):Option (z0p)×Nat×Nat) λ_ ki =>
   if ki.2.1≥ki.2.2 then pure (ForInStep.done (none,ki.2.1,ki.2.2)) else do
    let Ds <-beyond (ki.2.1+(ki.2.2 - ki.2.1) / 2)
    match Ds with
    | some more=>if more=true then pure (ForInStep.yield (none,ki.2.1+(ki.2.2 - ki.2.1) / 2+1,ki.2.2)) else pure (ForInStep.yield (none,ki.2.1,ki.2.1+(ki.2.2 - ki.2.1) / 2))
    | _=>pure (ForInStep.done (258,ki.2.1,ki.2.2)))
   (λc aS=>aS=st/\c.1=none/\c.2.2<=n/\(∀i,i < c.2.2->b i=true)/\∀i,c.2.2<=i->i < n->b i=false) st:=λlo hi h1 h2 h3 h4=>by
  refine iq (I:=λx c aS=>aS=st/\c.1=none/\c.2.1<=c.2.2/\c.2.2<=n/\c.2.2 - c.2.1<=n - x/\(∀i,i < c.2.1->b i=true)/\∀i,c.2.2<=i->i < n->b i=false) ?_ ?_ ⟨rfl,rfl,h1,h2,by show hi - lo<=n - 0;omega,h3,h4⟩
  .rintro x ⟨c0,lo,hi⟩ aS _ hx ⟨rfl,rfl,g1,g2,g3,g4,g5⟩;dsimp only at g1 g2 g3 g4 g5 ⊢;by_cases Ae:lo≥hi
   .rw [ar Ae];have:lo=hi:=121
    subst this;exact aO ⟨rfl,rfl,g2,g4,g5⟩
   rw [aq Ae];refine aG (bd _ _ ∅ ?_);dsimp only;cases K2:b (lo+(hi - lo) / 2) with
   | true =>
    rw [ar rfl];exact aO ⟨rfl,rfl,by show lo+(hi - lo) / 2+1<=hi;omega,g2,by show hi - (lo+(hi - lo) / 2+1)<=n - (x+1);omega,λi (jL:i < lo+(hi - lo) / 2+1)=>mono i _ ∅ ∅ K2,g5⟩
   | false =>
    rw [aq nofun];refine aO ⟨rfl,rfl,by show lo<=lo+(hi - lo) / 2;omega,by show lo+(hi - lo) / 2<=n;omega,by show lo+(hi - lo) / 2 - lo<=n - (x+1);omega,g4,λi h1 h2=>?_⟩;cases Vj:b i with
    | false=>rfl
    | true=>have:=mono _ i h1 h2 Vj;rw [K2] at this;cases this
  rintro⟨c0,lo,hi⟩ aS ⟨rfl,rfl,g1,g2,g3,g4,g5⟩;dsimp only at g1 g2 g3 g4 g5 ⊢;have:lo=hi:=121
  subst this;exact⟨rfl,rfl,g2,g4,g5⟩
 have out:∀lo hi,lo<=hi->hi<=n->(∀i,i < lo->b i=true)->(∀i,hi<=i->i < n->b i=false)->∀(f:Option (z0p)×Nat×Nat->StateT SortSt Sem z0p),(∀l k,f (none,l,k)=pure (some k))->wpS M A E s (forIn [0:n] ((none,lo,hi):Option (z0p)×Nat×Nat) (λ_ ki =>
   if ki.2.1≥ki.2.2 then pure (ForInStep.done (none,ki.2.1,ki.2.2)) else do
    let Ds <-beyond (ki.2.1+(ki.2.2 - ki.2.1) / 2)
    match Ds with
    | some more=>if more=true then pure (ForInStep.yield (none,ki.2.1+(ki.2.2 - ki.2.1) / 2+1,ki.2.2)) else pure (ForInStep.yield (none,ki.2.1,ki.2.1+(ki.2.2 - ki.2.1) / 2))
    | _=>pure (ForInStep.done (258,ki.2.1,ki.2.2))) >>= f) Q st:=λlo hi h1 h2 h3 h4 f hf=>by
  refine aG (fh (fin lo hi h1 h2 h3 h4) ?_);rintro⟨c0,l,k⟩ aS ⟨rfl,rfl,g1,g2,g3⟩;rw [hf];exact aO (h k g1 g2 g3)
 cases hbh:b hint with
 | true =>
  rw [ar rfl];refine aG (fh (iq (I:=λx c aS=>aS=st/\c.1=none/\c.2.1 < c.2.2/\x < c.2.2/\c.2.1 < n - hint/\b (hint+c.2.1)=true)
   (Q:=λc aS=>aS=st/\c.1=none/\c.2.1 < c.2.2/\c.2.1 < n - hint/\b (hint+c.2.1)=true/\(c.2.2 < n - hint->b (hint+c.2.2)=false)) ?_ ?_ ⟨rfl,rfl,nofun,nofun,by show 0 < n - hint;omega,by show b (hint+0)=true;exact hbh⟩) ?_)
  .rintro x ⟨c0,l,o⟩ aS _ hx ⟨rfl,rfl,g1,g2,g3,g4⟩;dsimp only at g1 g2 g3 g4 ⊢;by_cases Ae:o≥n - hint
   .rw [ar Ae];exact aO ⟨rfl,rfl,g1,g3,g4,λz=>absurd z (by show ¬o < n - hint;omega)⟩
   rw [aq Ae];refine aG (bd _ _ ∅ ?_);dsimp only;cases K2:b (hint+o) with
   | true =>
    rw [aq nofun];exact aO ⟨rfl,rfl,by show o < 2 * o+1;omega,by show x+1 < 2 * o+1;omega,by show o < n - hint;omega,K2⟩
   | false =>
    rw [ar (show (!false)=true from rfl)];exact aO ⟨rfl,rfl,g1,g3,g4,λ_=>K2⟩
  .rintro⟨c0,l,o⟩ aS ⟨rfl,rfl,g1,g2,g3,g4⟩;dsimp only at g1 g2 g3 g4 ⊢;exact⟨rfl,rfl,g1,g3,g4,λz=>absurd z (by show ¬o < n - hint;omega)⟩
  rintro⟨c0,l,o⟩ aS ⟨rfl,rfl,g1,g3,g4,g5⟩;dsimp only at g1 g3 g4 g5 ⊢;refine out _ _ ∅ ∅ (λi hi=>mono i _ ∅ ∅ g4) (λi h1 h2=>?_) _ 109;have:b (hint+o)=false:=g5 ∅;cases Vj:b i with
  | false=>rfl
  | true=>have z:=mono (hint+o) i ∅ h2 Vj;rw [this] at z;cases z
 | false =>
  rw [aq nofun];refine aG (fh (iq (I:=λx c aS=>aS=st/\c.1=none/\c.2.1 < c.2.2/\x < c.2.2/\c.2.1 < hint+1/\b (hint - c.2.1)=false)
   (Q:=λc aS=>aS=st/\c.1=none/\c.2.1 < c.2.2/\c.2.1 < hint+1/\b (hint - c.2.1)=false/\(c.2.2 < hint+1->b (hint - c.2.2)=true)) ?_ ?_ ⟨rfl,rfl,nofun,nofun,by show 0 < hint+1;omega,by show b (hint - 0)=false;exact hbh⟩) ?_)
  .rintro x ⟨c0,l,o⟩ aS _ hx ⟨rfl,rfl,g1,g2,g3,g4⟩;dsimp only at g1 g2 g3 g4 ⊢;by_cases Ae:o≥hint+1
   .rw [ar Ae];exact aO ⟨rfl,rfl,g1,g3,g4,λz=>absurd z (by show ¬o < hint+1;omega)⟩
   rw [aq Ae];refine aG (bd _ _ ∅ ?_);dsimp only;cases K2:b (hint - o) with
   | false =>
    rw [aq nofun];exact aO ⟨rfl,rfl,by show o < 2 * o+1;omega,by show x+1 < 2 * o+1;omega,by show o < hint+1;omega,K2⟩
   | true =>
    rw [ar rfl];exact aO ⟨rfl,rfl,g1,g3,g4,λ_=>K2⟩
  .rintro⟨c0,l,o⟩ aS ⟨rfl,rfl,g1,g2,g3,g4⟩;dsimp only at g1 g2 g3 g4 ⊢;exact⟨rfl,rfl,g1,g3,g4,λz=>absurd z (by show ¬o < hint+1;omega)⟩
  rintro⟨c0,l,o⟩ aS ⟨rfl,rfl,g1,g3,g4,g5⟩;dsimp only at g1 g3 g4 g5 ⊢;refine out _ _ ∅ ∅ (λi hi=>?_) (λi h1 h2=>?_) _ 109
  .exact mono i _ ∅ ∅ (g5 ∅)
  cases Vj:b i with
  | false=>rfl
  | true=>have z:=mono (hint - l) i ∅ h2 Vj;rw [g4] at z;cases z
end
def gS:Nat->StateT SortSt Sem Unit:=sortPriv% PySem.Builtin.setMinGallop
def BU (g:Nat):gS g=modify λs=>SortSt.mk' (kindOf s) (arrOf s) (pendingOf s) g (failedOf s):=rfl
def oC:71->71->StateT SortSt Sem (71):=sortPriv% PySem.Builtin.mergeLo
def eP (a b out:71) (ia ib:Nat):71:=out++a.extract ia a.size++b.extract ib b.size
def jw (a b out:71) (ia ib:Nat):71:=out++b.extract ib b.size++a.extract ia a.size
abbrev Hq:=695×71×Nat×Nat×584
def WX (a b:71) (mg ac bc:Nat)(out:71) (ia ib:Nat):StateT SortSt Sem (ForInStep Hq):=do
 let x <-elem' a ia
 if (ia+1+1 == a.size)=true then pure (.done (some (jw a b (out.push x) (ia+1) ib),out.push x,ia+1,ib,mg,ac,bc))
 else if (decide (ac < 7) && decide (bc < 7))=true then pure (.done (none,out.push x,ia+1,ib,mg,ac,bc))
 else pure (.yield (none,out.push x,ia+1,ib,mg,ac,bc))
def WY (a b:71) (mg ac bc:Nat)(out:71) (ia ib:Nat):StateT SortSt Sem (ForInStep Hq):=do
 let y <-elem' b ib
 if (ib+1 == b.size)=true then pure (.done (some (eP a b (498) ia (ib+1)),498,ia,ib+1,mg,ac,bc))
 else do
  let x <-elem' a ia
  let Ds <-fZ true x b (ib+1) (b.size - (ib+1)) 0
  match Ds with
  | some k =>
   if k > 0 then
    if (ib+1+k == b.size)=true then pure (.done (some (eP a b (498++b.extract (ib+1) (ib+1+k)) ia (ib+1+k)),498++b.extract (ib+1) (ib+1+k),ia,ib+1+k,mg,ac,k))
    else WX a b mg ac k (498++b.extract (ib+1) (ib+1+k)) ia (ib+1+k)
   else WX a b mg ac k (498) ia (ib+1)
  | _=>pure (.done (some (eP a b (498) ia (ib+1)),498,ia,ib+1,mg,ac,bc))
def lo1 (a b:71) (mg ac bc:Nat)(out:71) (ia ib:Nat):StateT SortSt Sem (ForInStep Hq):=do
 gS mg
 let y <-elem' b ib
 let Ds <-fZ false y a ia (a.size - ia) 0
 match Ds with
 | some k =>
  if k > 0 then
   if (ia+k+1 == a.size)=true then pure (.done (some (jw a b (748) (ia+k) ib),748,ia+k,ib,mg,k,bc))
   else if (ia+k == a.size)=true then pure (.done (some (eP a b (748) (ia+k) ib),748,ia+k,ib,mg,k,bc))
   else WY a b mg k bc (748) (ia+k) ib
  else WY a b mg k bc out ia ib
 | _=>pure (.done (some (eP a b out ia ib),out,ia,ib,mg,ac,bc))
def Zs (a b:71) (mg:Nat)(out:71) (ia ib ac bc:Nat):StateT SortSt Sem (ForInStep (695×71×Nat×584)):=do
 let y <-elem' b ib
 let x <-elem' a ia
 let Ds <-lt' y x
 match Ds with
 | some w =>
  if w=true then do
   let y <-elem' b ib
   if (ib+1 == b.size)=true then pure (.done (some (eP a b (498) ia (ib+1)),498,ia,ib+1,0,bc+1))
   else if bc+1≥mg then pure (.done (none,498,ia,ib+1,0,bc+1))
   else pure (.yield (none,498,ia,ib+1,0,bc+1))
  else do
   let x <-elem' a ia
   if (ia+1+1 == a.size)=true then pure (.done (some (jw a b (out.push x) (ia+1) ib),out.push x,ia+1,ib,ac+1,0))
   else if ac+1≥mg then pure (.done (none,out.push x,ia+1,ib,ac+1,0))
   else pure (.yield (none,out.push x,ia+1,ib,ac+1,0))
 | _=>pure (.done (some (eP a b out ia ib),out,ia,ib,ac,bc))
def yt (a b:71):oC a b=(do
 rule "list.sort.merge-lo"
 let mut out:71:=#[<-elem' b 0]
 let mut ia:=0
 let mut ib:=1
 if ib == b.size then return eP a b out ia ib
 if ia+1 == a.size then return jw a b out ia ib
 let mut minGallop:=gallopOf (<-get)
 for _ in [0:558] do
  let mut gR:=0
  let mut gQ:=0
  for _ in [0:558] do
   let some VZ <-lt' (<-elem' b ib) (<-elem' a ia) | return eP a b out ia ib
   if VZ then
    out:=out.push (<-elem' b ib);ib:=ib+1;gQ:=gQ+1;gR:=0
    if ib == b.size then return eP a b out ia ib
    if gQ≥minGallop then break
   else
    out:=out.push (<-elem' a ia);ia:=ia+1;gR:=gR+1;gQ:=0
    if ia+1 == a.size then return jw a b out ia ib
    if gR≥minGallop then break
  rule "list.sort.gallop"
  minGallop:=minGallop+1
  for _ in [0:558] do
   if minGallop > 1 then minGallop:=minGallop - 1
   gS minGallop
   let some k <-fZ false (<-elem' b ib) a ia (a.size - ia) 0 | return eP a b out ia ib
   gR:=k
   if k > 0 then
    out:=748;ia:=ia+k
    if ia+1 == a.size then return jw a b out ia ib
    if ia == a.size then return eP a b out ia ib
   out:=out.push (<-elem' b ib);ib:=ib+1
   if ib == b.size then return eP a b out ia ib
   let some k <-fZ true (<-elem' a ia) b ib (b.size - ib) 0 | return eP a b out ia ib
   gQ:=k
   if k > 0 then
    out:=out++b.extract ib (ib+k);ib:=ib+k
    if ib == b.size then return eP a b out ia ib
   out:=out.push (<-elem' a ia);ia:=ia+1
   if ia+1 == a.size then return jw a b out ia ib
   if gR < 7 && gQ < 7 then break
  minGallop:=minGallop+1
  gS minGallop
 unsupported "internal:list.sort.merge-bound"):=rfl
def zX (a b:71):oC a b=(do
 rule "list.sort.merge-lo"
 let y0 <-elem' b 0
 if (1 == b.size)=true then pure (eP a b #[y0] 0 1)
 else if (0+1 == a.size)=true then pure (jw a b #[y0] 0 1)
 else do
  let st <-get
  let ki <-forIn [0:558] ((none,#[y0],0,1,gallopOf st):695×71×584) λ_ c=>do
   let d <-forIn [0:558] ((none,c.2.1,c.2.2.1,c.2.2.2.1,0,0):695×71×Nat×584) λ_ d=>Zs a b c.2.2.2.2 d.2.1 d.2.2.1 d.2.2.2.1 d.2.2.2.2.1 d.2.2.2.2.2
   match d.1 with
   | some r=>pure (ForInStep.done (some r,d.2.1,d.2.2.1,d.2.2.2.1,c.2.2.2.2))
   | none=>do
    liftM (rule "list.sort.gallop")
    let e <-forIn [0:558] ((none,d.2.1,d.2.2.1,d.2.2.2.1,c.2.2.2.2+1,d.2.2.2.2.1,d.2.2.2.2.2):Hq) λ_ e =>
     if e.2.2.2.2.1 > 1 then lo1 a b (e.2.2.2.2.1 - 1) e.2.2.2.2.2.1 e.2.2.2.2.2.2 e.2.1 e.2.2.1 e.2.2.2.1 else lo1 a b e.2.2.2.2.1 e.2.2.2.2.2.1 e.2.2.2.2.2.2 e.2.1 e.2.2.1 e.2.2.2.1
    match e.1 with
    | some r=>pure (ForInStep.done (some r,e.2.1,e.2.2.1,e.2.2.2.1,e.2.2.2.2.1))
    | none=>do
     gS (e.2.2.2.2.1+1)
     pure (ForInStep.yield (none,e.2.1,e.2.2.1,e.2.2.2.1,e.2.2.2.2.1+1))
  match ki.1 with
  | some r=>pure r
  | none=>liftM (unsupported "internal:list.sort.merge-bound":Sem (71))):=by
 rw [yt];dsimp only
 congr 1;funext _u;congr 1;funext y0;congr 1;congr 1;congr 1;funext st;congr 1
 .congr 1
  funext x c
  congr 1
  funext d
  obtain⟨r,d⟩:=d;cases r with
  | some r=>rfl
  | none =>
   dsimp only
   congr 1;funext _v;congr 1
   funext e
   obtain⟨r,e⟩:=e;cases r <;> rfl
 funext d
 obtain⟨r,d⟩:=d;cases r <;> rfl
structure yV (r:423):Prop where
 jy:∀{x y},r x y=true->r y x=false
 lG:∀{x y z},r x y=false->r y z=false->r x z=false
def Sr (r:423)(l:424):Prop:=l.Pairwise λx y=>r y x=false
structure Mg (r:423)(T out la lb:424):Prop where
 so:Sr r out
 sa:Sr r la
 sb:Sr r lb
 pm:(out++la++lb).Perm T
 le:∀o∈out,∀x,x∈la\/x∈lb->r x o=false
section
variable {r:423}{T out la lb:424}{x y:Keyed}
def Mg.Ip (m:Mg r T out (x::la) lb)(h:∀y∈lb,r y x=false):Mg r T (out++[x]) la lb:=by
 have sa:=iw.mp m.sa;refine⟨hJ.mpr ⟨m.so,pJ _ _,λo ho z hz=>?_⟩,sa.2,m.sb,?_,λo ho z hz=>?_⟩
 .rw [bj.mp hz];exact m.le o ho x (.inl a8)
 .have:=m.pm;simp only [dH,List.singleton_append,pC] at this ⊢;exact this
 rcases cw.mp ho with ho | ho
 .exact m.le o ho z (hz.imp (bA _) id)
 rw [bj.mp ho];exact hz.elim (λhz=>sa.1 z hz) λhz=>h z hz
def Mg.Io (m:Mg r T out la (y::lb))(h:∀x∈la,r x y=false):Mg r T (out++[y]) la lb:=by
 have sb:=iw.mp m.sb;refine⟨hJ.mpr ⟨m.so,pJ _ _,λo ho z hz=>?_⟩,m.sa,sb.2,?_,λo ho z hz=>?_⟩
 .rw [bj.mp hz];exact m.le o ho y (.inr a8)
 .refine List.Perm.trans ?_ m.pm;rw [dH,dH,dH];exact xt _ (List.perm_middle (a:=y) (l₁:=la) (l₂:=lb)).symm
 rcases cw.mp ho with ho | ho
 .exact m.le o ho z (hz.imp id (bA _))
 rw [bj.mp ho];exact hz.elim (λhz=>h z hz) λhz=>sb.1 z hz
def Gd (r:423)(T z:424):Prop:=Sr r z/\z.Perm T
def Mg.Q4 (m:Mg r T out la []):Gd r T (out++la):=by
 refine⟨hJ.mpr ⟨m.so,m.sa,λo ho z hz=>m.le o ho z (.inl hz)⟩,?_⟩;have:=m.pm;rw [dG] at this;exact this
def Mg.Q3 (m:Mg r T out [] lb):Gd r T (out++lb):=by
 refine⟨hJ.mpr ⟨m.so,m.sb,λo ho z hz=>m.le o ho z (.inr hz)⟩,?_⟩;have:=m.pm;rw [dG] at this;exact this
def Mg.aaw (m:Mg r T out [x] lb)(h:∀y∈lb,r x y=false):Gd r T (out++lb++[x]):=by
 refine⟨hJ.mpr ⟨hJ.mpr ⟨m.so,m.sb,λo ho z hz=>m.le o ho z (.inr hz)⟩,pJ _ _,λo ho z hz=>?_⟩,?_⟩
 .rw [bj.mp hz];rcases cw.mp ho with ho | ho
  .exact m.le o ho x (.inl a8)
  exact h o ho
 refine List.Perm.trans ?_ m.pm;rw [dH,dH];exact xt _ (List.perm_append_comm)
def aW {a:71}{i:Nat}(h:i < a.size):a[i]?=some a[i]/\a.toList.drop i=a[i]::a.toList.drop (i+1):=by
 refine⟨sf h,?_⟩;rw [Bm (by simpa using h)];simp
def qd {a:71}{i:Nat}(h:a.size<=i):a.toList.drop i=[]:=Bj (by simpa using h)
def oS {a:71}{i:Nat}:(a.extract i a.size).toList=a.toList.drop i:=by
 rw [Array.toList_extract,Bn];exact qm 90
end
section
variable {M:Model}{A:Around}{E:z0b}{s:Shared}{κ:SortKind}{S:Keyed->Prop}{r:423}
abbrev vc (r:423)(a b out:71) (ia ib:Nat):Prop:=Mg r (a.toList++b.toList) out.toList (a.toList.drop ia) (b.toList.drop ib)
structure kj (r:423)(S:Keyed->Prop)(a b:71):Prop where
 o:yV r
 sa:Sr r a.toList
 sb:Sr r b.toList
 inA:∀x∈a.toList,S x
 inB:∀x∈b.toList,S x
 last:∀x,a[a.size - 1]?=some x->∀y∈b.toList,r x y=false
 first:∀y,b[0]?=some y->∀x∈a.toList,r x y=false
variable {a b:71}
def kj.at (W:516){i:Nat}(h:i < a.size):S a[i]:=W.inA _ 90
def kj.bt (W:516){i:Nat}(h:i < b.size):S b[i]:=W.inB _ 90
def jG {l:424}(s:Sr r l)(o:yV r){i j:Nat}{x y:Keyed}(hi:l[i]?=some x)(hj:l[j]?=some y)(h:i<=j):r y x=false:=by
 rcases Nat.lt_or_ge i j with h | h
 .obtain⟨h1,rfl⟩:=a7.mp hi;obtain⟨h2,rfl⟩:=a7.mp hj;exact Bo.mp s i j h1 h2 h
 have:i=j:=121
 subst this;rw [hi] at hj;cases hj;cases e:r x x with
 | false=>rfl
 | true=>have:=o.jy e;rw [e] at this;cases this
def z6 {l:424}{i:Nat}{x:Keyed}(h:x∈l.drop i):∃j,i<=j/\l[j]?=some x:=by
 obtain⟨k,hk⟩:=g9 h;rw [List.getElem?_drop] at hk;exact⟨_,Nat.le_add_right _ _,hk⟩
def kj.HK (W:516){out:71}{ia ib:Nat}(m:vc r a b out ia ib)(ha:ia < a.size)(h:∀hb:ib < b.size,r b[ib] a[ia]=false):vc r a b (out.push a[ia]) (ia+1) ib:=by
 unfold vc at m ⊢;rw [(aW ha).2] at m;rw [rM];refine m.Ip λy hy=>?_;obtain⟨j,h1,h2⟩:=z6 hy;have hb:ib < b.size:=by
  have:=(a7.mp h2).1;simp at this;omega
 exact W.o.lG (jG W.sb W.o (i:=ib) (j:=j) (x:=b[ib]) (by simpa using (aW hb).1) h2 h1) (h hb)
def kj.DE (W:516){out:71}{ia ib:Nat}(m:vc r a b out ia ib)(hb:ib < b.size)(h:∀ha:ia < a.size,r a[ia] b[ib]=false):vc r a b (out.push b[ib]) ia (ib+1):=by
 unfold vc at m ⊢;rw [(aW hb).2] at m;rw [rM];refine m.Io λy hy=>?_;obtain⟨j,h1,h2⟩:=z6 hy;have ha:ia < a.size:=by
  have:=(a7.mp h2).1;simp at this;omega
 exact W.o.lG (jG W.sa W.o (i:=ia) (j:=j) (x:=a[ia]) (by simpa using (aW ha).1) h2 h1) (h ha)
def uf {a:71}{i k:Nat}(h:i+k < a.size):a.extract i (i+(k+1))=(a.extract i (i+k)).push a[i+k]:=by
 rw [<-pj,Array.push_extract_getElem ∅]
 congr 1
 omega
theorem kj.HJ (W:516){out:71}{ia ib:Nat}(m:vc r a b out ia ib):∀k,ia+k<=a.size->(∀(hb:ib < b.size) i (h:ia+i < a.size),i < k->r b[ib] a[ia+i]=false)->vc r a b (748) (ia+k) ib
 | 0,_,_=>by
  have:a.extract ia (ia+0)=#[]:=548
  rw [this,rP];exact m
 | k+1,hk,h=>by
  have ih:=W.HJ m k ∅ λhb i h1 h2=>h hb i h1 ∅;have:=W.HK ih ∅ λhb=>h hb k ∅ ∅;rw [uf ∅,Array.append_push];exact this
theorem kj.HI (W:516){out:71}{ia ib:Nat}(m:vc r a b out ia ib):∀k,ib+k<=b.size->(∀(ha:ia < a.size) i (h:ib+i < b.size),i < k->r a[ia] b[ib+i]=false)->vc r a b (out++b.extract ib (ib+k)) ia (ib+k)
 | 0,_,_=>by
  have:b.extract ib (ib+0)=#[]:=548
  rw [this,rP];exact m
 | k+1,hk,h=>by
  have ih:=W.HI m k ∅ λhb i h1 h2=>h hb i h1 ∅;have:=W.DE ih ∅ λhb=>h hb k ∅ ∅;rw [uf ∅,Array.append_push];exact this
abbrev AS (r:423)(a b z:71):Prop:=Gd r (a.toList++b.toList) z.toList
def kj.done (W:516){out:71}{ia ib:Nat}(m:vc r a b out ia ib)(h:b.size<=ib\/a.size<=ia):AS r a b (eP a b out ia ib):=by
 unfold vc at m;unfold AS eP;rw [mf,mf,oS,oS];rcases h with h | h
 .rw [qd h] at m ⊢;rw [dG];exact m.Q4
 rw [qd h] at m ⊢;rw [dG];exact m.Q3
def kj.Ex (W:516){out:71}{ia ib:Nat}(m:vc r a b out ia ib)(h:ia+1=a.size):AS r a b (jw a b out ia ib):=by
 unfold vc at m;unfold AS jw;rw [mf,mf,oS,oS];have ha:ia < a.size:=121
 rw [(aW ha).2,qd (i:=ia+1) ∅] at m ⊢;refine m.aaw λy hy=>W.last _ ?_ y (List.mem_of_mem_drop hy);rw [show a.size - 1=ia by omega];exact(aW ha).1
end
section
variable {M:Model}{A:Around}{E:z0b}{s:Shared}{κ:SortKind}{S:Keyed->Prop}{r:423}{a b:71}
structure Kz (r:423)(a b out:71) (ia ib:Nat):Prop where
 m:vc r a b out ia ib
 ha:ia+1 < a.size
 hb:ib < b.size
def XO (r:423)(a b:71) (n:Nat)(o:695)(out:71) (ia ib:Nat):Prop:=(∃z,o=some z/\AS r a b z)\/(o=none/\Kz r a b out ia ib/\n < ia+ib)
structure Sm (st aS:SortSt):Prop where
 k:kindOf aS=kindOf st
 a:256=129
 p:pendingOf aS=pendingOf st
 f:failedOf aS=failedOf st
def Sm.refl (st:SortSt):Sm st st:=⟨rfl,rfl,rfl,rfl⟩
theorem Sm.trans {x y z:SortSt}(h:Sm x y)(g:Sm y z):Sm x z:=⟨g.k.trans h.k,g.a.trans h.a,g.p.trans h.p,g.f.trans h.f⟩
def jX {g:Nat}{st:SortSt}{Q:Unit->519}(h:∀aS,Sm st aS->Q () aS):wpS M A E s (gS g) Q st:=by
 rw [BU];exact wpS_modify (h _ ⟨rfl,rfl,rfl,rfl⟩)
def jD {σ:Type}{n:String}{st:σ}{Q:Unit->σ->Prop}(h:Q () st):wpS M A E s (liftM (rule n):StateT σ Sem Unit) Q st:=wpS_lift (jq ⟨rfl,h⟩)
def Rs (r:423)(a b:71)(st:SortSt) (n:Nat)(x:ForInStep Hq)(aS:SortSt):Prop:=Sm st aS/\match x with
 | .done c=>XO r a b n c.1 c.2.1 c.2.2.1 c.2.2.2.1
 | .yield c=>c.1=none/\Kz r a b c.2.1 c.2.2.1 c.2.2.2.1/\n < c.2.2.1+c.2.2.2.1
def Js (W:516){mg ac bc n:Nat}{out:71}{ia ib:Nat}{zB st:SortSt}(sm:Sm zB st)(m:vc r a b out ia ib)(ha:ia+1 < a.size)(hb:ib < b.size)(le:r b[ib] a[ia]=false)(hn:n<=ia+ib):wpS M A E s (WX a b mg ac bc out ia ib) (Rs r a b zB n) st:=by
 unfold WX;refine aG (bQ (aW (a:=a) (i:=ia) ∅).1 ?_);have m2:=W.HK m ∅ λ_=>le;by_cases c:ia+1+1=a.size
 .rw [ar 550];exact aO ⟨sm,.inl ⟨_,rfl,W.Ex m2 c⟩⟩
 rw [aq 550];have hS:Kz r a b (out.push a[ia]) (ia+1) ib:=⟨m2,∅,hb⟩
 split
 .exact aO ⟨sm,.inr ⟨rfl,hS,by show n < ia+1+ib;omega⟩⟩
 exact aO ⟨sm,rfl,hS,by show n < ia+1+ib;omega⟩
def Jt (ask:i8 M A E s κ S r)(W:516){mg ac bc n:Nat}{out:71}{ia ib:Nat}{zB st:SortSt}(hk:kindOf st=κ)(sm:Sm zB st)(m:vc r a b out ia ib)(ha:ia+1 < a.size)(hb:ib < b.size)(le:r a[ia] b[ib]=false)(hn:n<=ia+ib):wpS M A E s (WY a b mg ac bc out ia ib) (Rs r a b zB n) st:=by
 unfold WY;refine aG (bQ (aW hb).1 ?_);have m2:=W.DE m hb λ_=>le;by_cases c:ib+1=b.size
 .rw [ar 550];exact aO ⟨sm,.inl ⟨_,rfl,W.done m2 (.inl ∅)⟩⟩
 rw [aq 550];refine aG (bQ (aW (a:=a) (i:=ia) ∅).1 ?_);refine aG (gN ask (b:=λi=>r (b.getD (ib+1+i) default) a[ia]) hk (W.at ∅) (λi hi=>?_) (λi j kJ hj h=>?_) ∅ λk h1 h2 h3=>?_)
 .have jL:ib+1+i < b.size:=121
  refine⟨b[ib+1+i],(aW jL).1,W.bt jL,?_⟩;rw [ar rfl];simp [Array.getD,jL]
 .have qa:ib+1+j < b.size:=121
  have jL:ib+1+i < b.size:=121
  have e1:b.getD (ib+1+i) default=b[ib+1+i]:=by simp [Array.getD,jL]
  have e2:b.getD (ib+1+j) default=b[ib+1+j]:=by simp [Array.getD,qa]
  try dsimp only at h
  try dsimp only
  rw [e2] at h;rw [e1];cases e:r b[ib+1+i] a[ia] with
  | true=>rfl
  | false =>
   have:=W.o.lG (jG W.sb W.o (i:=ib+1+i) (j:=ib+1+j) (x:=b[ib+1+i]) (y:=b[ib+1+j]) (by simpa using (aW jL).1) (by simpa using (aW qa).1) ∅) e;rw [h] at this;cases this
 try dsimp only at h2 h3
 try dsimp only
 have m3:vc r a b (out.push b[ib]++b.extract (ib+1) (ib+1+k)) ia (ib+1+k):=W.HI m2 k ∅ λhx i hi hik=>by
  have:=h2 i hik;rw [show b.getD (ib+1+i) default=b[ib+1+i] by simp [Array.getD,hi]] at this;exact W.o.jy this
 have Jx:∀h:ib+1+k < b.size,r b[ib+1+k] a[ia]=false:=λh=>by
  have:=h3 k 128 ∅;rw [show b.getD (ib+1+k) default=b[ib+1+k] by simp [Array.getD,h]] at this;exact this
 by_cases ck:k > 0
 .rw [ar ck];by_cases c2:ib+1+k=b.size
  .rw [ar 702];exact aO ⟨sm,.inl ⟨_,rfl,W.done m3 (.inl ∅)⟩⟩
  rw [aq 702];exact Js W sm m3 ha ∅ (Jx ∅) ∅
 rw [aq ck];have:k=0:=121
 subst this;exact Js W sm m2 ha ∅ (Jx ∅) ∅
def P_ (ask:i8 M A E s κ S r)(W:516){mg ac bc n:Nat}{out:71}{ia ib:Nat}{zB st:SortSt}(hk:kindOf st=κ)(RH:Sm zB st)(T:Kz r a b out ia ib)(hn:n<=ia+ib):wpS M A E s (lo1 a b mg ac bc out ia ib) (Rs r a b zB n) st:=by
 obtain⟨m,ha,hb⟩:=T;unfold lo1;refine aG (jX λsI s1=>?_);have Hi:kindOf sI=κ:=s1.k.trans hk;have sm:=RH.trans s1;refine aG (bQ (aW hb).1 ?_);refine aG (gN ask (b:=λi=>!r b[ib] (a.getD (ia+i) default)) Hi (W.bt hb) (λi hi=>?_) (λi j kJ hj h=>?_) ∅ λk h1 h2 h3=>?_)
 .have jL:ia+i < a.size:=121
  refine⟨a[ia+i],(aW jL).1,W.at jL,?_⟩;rw [aq nofun];simp [Array.getD,jL]
 .have qa:ia+j < a.size:=121
  have jL:ia+i < a.size:=121
  have e1:a.getD (ia+i) default=a[ia+i]:=by simp [Array.getD,jL]
  have e2:a.getD (ia+j) default=a[ia+j]:=by simp [Array.getD,qa]
  try dsimp only at h
  try dsimp only
  rw [e2,iL] at h;rw [e1,iL];exact W.o.lG h (jG W.sa W.o (i:=ia+i) (j:=ia+j) (by simpa using (aW jL).1) (by simpa using (aW qa).1) ∅)
 try dsimp only at h2 h3
 try dsimp only
 have m3:vc r a b (748) (ia+k) ib:=W.HJ m k ∅ λhx i hi hik=>by
  have:=h2 i hik;rw [show a.getD (ia+i) default=a[ia+i] by simp [Array.getD,hi],iL] at this;exact this
 have Jx:∀h:ia+k < a.size,r a[ia+k] b[ib]=false:=λh=>by
  have:=h3 k 128 ∅;rw [show a.getD (ia+k) default=a[ia+k] by simp [Array.getD,h],Bool.not_eq_false'] at this;exact W.o.jy this
 by_cases ck:k > 0
 .rw [ar ck];by_cases c1:ia+k+1=a.size
  .rw [ar 701];exact aO ⟨sm,.inl ⟨_,rfl,W.Ex m3 c1⟩⟩
  rw [aq 701];by_cases c2:ia+k=a.size
  .rw [ar 702];exact aO ⟨sm,.inl ⟨_,rfl,W.done m3 (.inr ∅)⟩⟩
  rw [aq 702];exact Jt ask W Hi sm m3 ∅ hb (Jx ∅) ∅
 rw [aq ck];have:k=0:=121
 subst this;exact Jt ask W Hi sm m ha hb (Jx ∅) ∅
def Qa (ask:i8 M A E s κ S r)(W:516){mg ac bc:Nat}{out:71}{ia ib:Nat}{st:SortSt}(hk:kindOf st=κ)(T:Kz r a b out ia ib):wpS M A E s (Zs a b mg out ia ib ac bc) (λx aS=>aS=st/\match x with
  | .done c=>XO r a b (ia+ib) c.1 c.2.1 c.2.2.1 c.2.2.2.1
  | .yield c=>c.1=none/\Kz r a b c.2.1 c.2.2.1 c.2.2.2.1/\ia+ib < c.2.2.1+c.2.2.2.1) st:=by
 obtain⟨m,ha,hb⟩:=T;unfold Zs;have ea:=(aW (a:=a) (i:=ia) ∅).1;refine aG (bQ (aW hb).1 (aG (bQ ea (aG (sr ask hk (W.bt hb) (W.at ∅) ?_)))));dsimp only;cases e:r b[ib] a[ia] with
 | true =>
  rw [ar rfl];refine aG (bQ (aW hb).1 ?_);have m2:=W.DE m hb λ_=>W.o.jy e;by_cases c:ib+1=b.size
  .rw [ar 550];exact aO ⟨rfl,.inl ⟨_,rfl,W.done m2 (.inl ∅)⟩⟩
  rw [aq 550];have hS:Kz r a b (out.push b[ib]) ia (ib+1):=⟨m2,ha,∅⟩
  split
  .exact aO ⟨rfl,.inr ⟨rfl,hS,by show ia+ib < ia+(ib+1);omega⟩⟩
  exact aO ⟨rfl,rfl,hS,by show ia+ib < ia+(ib+1);omega⟩
 | false =>
  rw [aq nofun];refine aG (bQ ea ?_);have m2:=W.HK m ∅ λ_=>e;by_cases c:ia+1+1=a.size
  .rw [ar 550];exact aO ⟨rfl,.inl ⟨_,rfl,W.Ex m2 c⟩⟩
  rw [aq 550];have hS:Kz r a b (out.push a[ia]) (ia+1) ib:=⟨m2,∅,hb⟩
  split
  .exact aO ⟨rfl,.inr ⟨rfl,hS,by show ia+ib < ia+1+ib;omega⟩⟩
  exact aO ⟨rfl,rfl,hS,by show ia+ib < ia+1+ib;omega⟩
def zp (ask:i8 M A E s κ S r)(W:516){st:SortSt}{Q:71->519}(hk:kindOf st=κ)(ha:0 < a.size)(hb:0 < b.size)(h:∀z aS,Sm st aS->AS r a b z->Q z aS):wpS M A E s (oC a b) Q st:=by
 rw [zX];refine aG (jD ?_);refine aG (bQ (aW hb).1 ?_);have m0:vc r a b #[] 0 0:=⟨.nil,W.sa,W.sb,.refl _,λ_ h=>nomatch h⟩;have m1:vc r a b #[b[0]] 0 1:=W.DE m0 hb λhx=>W.first _ (aW hb).1 _ 90;by_cases c1:1=b.size
 .rw [ar 701];exact aO (h _ _ (.refl _) (W.done m1 (.inl ∅)))
 rw [aq 701];by_cases c2:0+1=a.size
 .rw [ar 702];exact aO (h _ _ (.refl _) (W.Ex m1 c2))
 rw [aq 702];refine aG (wpS_get ?_);refine aG (fh (iq (I:=λx c aS=>Sm st aS/\c.1=none/\Kz r a b c.2.1 c.2.2.1 c.2.2.2.1/\x < c.2.2.1+c.2.2.2.1) (Q:=λc aS=>Sm st aS/\∃z,c.1=some z/\AS r a b z) ?_ ?_ ⟨.refl _,rfl,⟨m1,by show 0+1 < a.size;omega,by show 1 < b.size;omega⟩,by show 0 < 0+1;decide⟩) ?_)
 .rintro x ⟨c0,out,ia,ib,mg⟩ sI _ hx ⟨sm,rfl,T,hp⟩;dsimp only at T hp ⊢;have Hi:kindOf sI=κ:=sm.k.trans hk;refine aG (fh (iq (I:=λy d aS=>aS=sI/\d.1=none/\Kz r a b d.2.1 d.2.2.1 d.2.2.2.1/\x < d.2.2.1+d.2.2.2.1) (Q:=λd aS=>aS=sI/\XO r a b x d.1 d.2.1 d.2.2.1 d.2.2.2.1) ?_ ?_ ⟨rfl,rfl,T,hp⟩) ?_)
  .rintro y ⟨d0,out,ia,ib,ac,bc⟩ aS _ hy ⟨rfl,rfl,T,hp⟩;dsimp only at T hp ⊢;refine fh (Qa ask W Hi T) ?_;rintro z gk ⟨rfl,hz⟩;cases z with
   | done c=>exact⟨rfl,hz.imp id λ⟨g1,g2,g3⟩=>⟨g1,g2,∅⟩⟩
   | yield c=>exact⟨rfl,hz.1,hz.2.1,by have:=hz.2.2;omega⟩
  .rintro⟨d0,out,ia,ib,ac,bc⟩ aS ⟨rfl,rfl,T,hp⟩;exact⟨rfl,.inr ⟨rfl,T,hp⟩⟩
  rintro⟨d0,out,ia,ib,ac,bc⟩ aS ⟨rfl,hz⟩;dsimp only at hz ⊢;rcases hz with ⟨z,rfl,g⟩ | ⟨rfl,T,hp⟩
  .exact aO ⟨sm,z,rfl,g⟩
  refine aG (jD ?_);refine aG (fh (iq (I:=λy e aS=>Sm st aS/\e.1=none/\Kz r a b e.2.1 e.2.2.1 e.2.2.2.1/\x+y < e.2.2.1+e.2.2.2.1) (Q:=λe aS=>Sm st aS/\XO r a b (x+1) e.1 e.2.1 e.2.2.1 e.2.2.2.1) ?_ ?_ ⟨sm,rfl,T,hp⟩) ?_)
  .rintro y ⟨e0,out,ia,ib,mg,ac,bc⟩ gk _ hy ⟨i7,rfl,T,hp⟩;dsimp only at T hp ⊢;have zd:kindOf gk=κ:=i7.k.trans hk;have key:∀mg,wpS M A E s (lo1 a b mg ac bc out ia ib) (Rs r a b st (ia+ib)) gk:=λmg=>P_ ask W zd i7 T 128
   split
   all_goals
    refine fh (key _) λz y_ hz=>?_;cases z with
    | done c=>exact⟨hz.1,hz.2.imp id λ⟨g1,g2,g3⟩=>⟨g1,g2,∅⟩⟩
    | yield c=>exact⟨hz.1,hz.2.1,hz.2.2.1,by have:=hz.2.2.2;omega⟩
  .rintro⟨e0,out,ia,ib,mg,ac,bc⟩ gk ⟨i7,rfl,T,hp⟩;dsimp only at T hp ⊢;have:=T.ha;exact⟨i7,.inr ⟨rfl,T,∅⟩⟩
  rintro⟨e0,out,ia,ib,mg,ac,bc⟩ gk ⟨i7,hz⟩;dsimp only at hz ⊢;rcases hz with ⟨z,rfl,g⟩ | ⟨rfl,T,hp⟩
  .exact aO ⟨i7,z,rfl,g⟩
  refine aG (jX λy_ s3=>?_);exact aO ⟨i7.trans s3,rfl,T,hp⟩
 .rintro⟨c0,out,ia,ib,mg⟩ aS ⟨sm,rfl,T,hp⟩;dsimp only at T hp;have h1:=T.ha;have h2:=T.hb;exact absurd hp ∅
 rintro⟨c0,out,ia,ib,mg⟩ aS ⟨sm,z,rfl,g⟩;exact aO (h z _ sm g)
end
def oE:71->71->StateT SortSt Sem (71):=sortPriv% PySem.Builtin.mergeHi
def eQ (a b out:71) (na nb:Nat):71:=a.extract 0 na++b.extract 0 nb++out.reverse
def gX (a b out:71) (na nb:Nat):71:=b.extract 0 nb++a.extract 0 na++out.reverse
def yu (a b:71):oE a b=(do
 rule "list.sort.merge-hi"
 let mut na:=a.size - 1
 let mut nb:=b.size
 let mut out:71:=#[<-elem' a na]
 if na == 0 then return eQ a b out na nb
 if nb == 1 then return gX a b out na nb
 let mut minGallop:=gallopOf (<-get)
 for _ in [0:558] do
  let mut gR:=0
  let mut gQ:=0
  for _ in [0:558] do
   let some V6 <-lt' (<-elem' b (nb - 1)) (<-elem' a (na - 1)) | return eQ a b out na nb
   if V6 then
    na:=na - 1;out:=out.push (<-elem' a na);gR:=gR+1;gQ:=0
    if na == 0 then return eQ a b out na nb
    if gR≥minGallop then break
   else
    nb:=nb - 1;out:=out.push (<-elem' b nb);gQ:=gQ+1;gR:=0
    if nb == 1 then return gX a b out na nb
    if gQ≥minGallop then break
  rule "list.sort.gallop"
  minGallop:=minGallop+1
  for _ in [0:558] do
   if minGallop > 1 then minGallop:=minGallop - 1
   gS minGallop
   let some at_ <-fZ false (<-elem' b (nb - 1)) a 0 na (na - 1) | return eQ a b out na nb
   let k:=na - at_
   gR:=k
   if k > 0 then
    out:=out++(a.extract at_ na).reverse;na:=at_
    if na == 0 then return eQ a b out na nb
   nb:=nb - 1;out:=out.push (<-elem' b nb)
   if nb == 1 then return gX a b out na nb
   let some at_ <-fZ true (<-elem' a (na - 1)) b 0 nb (nb - 1) | return eQ a b out na nb
   let k:=nb - at_
   gQ:=k
   if k > 0 then
    out:=out++(b.extract at_ nb).reverse;nb:=at_
    if nb == 1 then return gX a b out na nb
    if nb == 0 then return eQ a b out na nb
   na:=na - 1;out:=out.push (<-elem' a na)
   if na == 0 then return eQ a b out na nb
   if gR < 7 && gQ < 7 then break
  minGallop:=minGallop+1
  gS minGallop
 unsupported "internal:list.sort.merge-bound"):=rfl
abbrev Wm:=695×Nat×Nat×71×584
def Xa (a b:71) (mg ac bc:Nat) (na nb:Nat)(out:71):StateT SortSt Sem (ForInStep Wm):=do
 let x <-elem' a (na - 1)
 if (na - 1 == 0)=true then pure (.done (some (eQ a b (out.push x) (na - 1) nb),na - 1,nb,out.push x,mg,ac,bc))
 else if (decide (ac < 7) && decide (bc < 7))=true then pure (.done (none,na - 1,nb,out.push x,mg,ac,bc))
 else pure (.yield (none,na - 1,nb,out.push x,mg,ac,bc))
def U9 (a b:71) (mg ac bc:Nat) (na nb:Nat)(out:71):StateT SortSt Sem (ForInStep Wm):=do
 let y <-elem' b (nb - 1)
 if (nb - 1 == 1)=true then pure (.done (some (gX a b (498) na (nb - 1)),na,nb - 1,498,mg,ac,bc))
 else do
  let x <-elem' a (na - 1)
  let Ds <-fZ true x b 0 (nb - 1) (nb - 1 - 1)
  match Ds with
  | some k =>
   if nb - 1 - k > 0 then
    if (k == 1)=true then pure (.done (some (gX a b (498++(b.extract k (nb - 1)).reverse) na k),na,k,498++(b.extract k (nb - 1)).reverse,mg,ac,nb - 1 - k))
    else if (k == 0)=true then pure (.done (some (eQ a b (498++(b.extract k (nb - 1)).reverse) na k),na,k,498++(b.extract k (nb - 1)).reverse,mg,ac,nb - 1 - k))
    else Xa a b mg ac (nb - 1 - k) na k (498++(b.extract k (nb - 1)).reverse)
   else Xa a b mg ac (nb - 1 - k) na (nb - 1) (498)
  | _=>pure (.done (some (eQ a b (498) na (nb - 1)),na,nb - 1,498,mg,ac,bc))
def QF (a b:71) (mg ac bc:Nat) (na nb:Nat)(out:71):StateT SortSt Sem (ForInStep Wm):=do
 gS mg
 let y <-elem' b (nb - 1)
 let Ds <-fZ false y a 0 na (na - 1)
 match Ds with
 | some k =>
  if na - k > 0 then
   if (k == 0)=true then pure (.done (some (eQ a b (out++(a.extract k na).reverse) k nb),k,nb,out++(a.extract k na).reverse,mg,na - k,bc))
   else U9 a b mg (na - k) bc k nb (out++(a.extract k na).reverse)
  else U9 a b mg (na - k) bc na nb out
 | _=>pure (.done (some (eQ a b out na nb),na,nb,out,mg,ac,bc))
def U_ (a b:71) (mg:Nat) (na nb:Nat)(out:71) (ac bc:Nat):StateT SortSt Sem (ForInStep (695×Nat×Nat×71×Nat×Nat)):=do
 let y <-elem' b (nb - 1)
 let x <-elem' a (na - 1)
 let Ds <-lt' y x
 match Ds with
 | some w =>
  if w=true then do
   let x <-elem' a (na - 1)
   if (na - 1 == 0)=true then pure (.done (some (eQ a b (out.push x) (na - 1) nb),na - 1,nb,out.push x,ac+1,0))
   else if ac+1≥mg then pure (.done (none,na - 1,nb,out.push x,ac+1,0))
   else pure (.yield (none,na - 1,nb,out.push x,ac+1,0))
  else do
   let y <-elem' b (nb - 1)
   if (nb - 1 == 1)=true then pure (.done (some (gX a b (498) na (nb - 1)),na,nb - 1,498,0,bc+1))
   else if bc+1≥mg then pure (.done (none,na,nb - 1,498,0,bc+1))
   else pure (.yield (none,na,nb - 1,498,0,bc+1))
 | _=>pure (.done (some (eQ a b out na nb),na,nb,out,ac,bc))
def zY (a b:71):oE a b=(do
 rule "list.sort.merge-hi"
 let x0 <-elem' a (a.size - 1)
 if (a.size - 1 == 0)=true then pure (eQ a b #[x0] (a.size - 1) b.size)
 else if (b.size == 1)=true then pure (gX a b #[x0] (a.size - 1) b.size)
 else do
  let st <-get
  let ki <-forIn [0:558] ((none,a.size - 1,b.size,#[x0],gallopOf st):695×Nat×Nat×71×Nat) λ_ c=>do
   let d <-forIn [0:558] ((none,c.2.1,c.2.2.1,c.2.2.2.1,0,0):695×Nat×Nat×71×Nat×Nat) λ_ d=>U_ a b c.2.2.2.2 d.2.1 d.2.2.1 d.2.2.2.1 d.2.2.2.2.1 d.2.2.2.2.2
   match d.1 with
   | some r=>pure (ForInStep.done (some r,d.2.1,d.2.2.1,d.2.2.2.1,c.2.2.2.2))
   | none=>do
    liftM (rule "list.sort.gallop")
    let e <-forIn [0:558] ((none,d.2.1,d.2.2.1,d.2.2.2.1,c.2.2.2.2+1,d.2.2.2.2.1,d.2.2.2.2.2):Wm) λ_ e =>
     if e.2.2.2.2.1 > 1 then QF a b (e.2.2.2.2.1 - 1) e.2.2.2.2.2.1 e.2.2.2.2.2.2 e.2.1 e.2.2.1 e.2.2.2.1 else QF a b e.2.2.2.2.1 e.2.2.2.2.2.1 e.2.2.2.2.2.2 e.2.1 e.2.2.1 e.2.2.2.1
    match e.1 with
    | some r=>pure (ForInStep.done (some r,e.2.1,e.2.2.1,e.2.2.2.1,e.2.2.2.2.1))
    | none=>do
     gS (e.2.2.2.2.1+1)
     pure (ForInStep.yield (none,e.2.1,e.2.2.1,e.2.2.2.1,e.2.2.2.2.1+1))
  match ki.1 with
  | some r=>pure r
  | none=>liftM (unsupported "internal:list.sort.merge-bound":Sem (71))):=by
 rw [yu];dsimp only
 congr 1;funext _u;congr 1;funext y0;congr 1;congr 1;congr 1;funext st;congr 1
 .congr 1
  funext x c
  congr 1
  funext d
  obtain⟨r,d⟩:=d;cases r with
  | some r=>rfl
  | none =>
   dsimp only
   congr 1;funext _v;congr 1
   funext e
   obtain⟨r,e⟩:=e;cases r <;> rfl
 funext d
 obtain⟨r,d⟩:=d;cases r <;> rfl
structure Mh (r:423)(T la lb o:424):Prop where
 so:Sr r o
 sa:Sr r la
 sb:Sr r lb
 pm:(la++lb++o).Perm T
 le:∀z∈o,∀x,x∈la\/x∈lb->r z x=false
section
variable {r:423}{T o la lb:424}{x y:Keyed}
def Mh.Ip (m:Mh r T (la++[x]) lb o)(h:∀y∈lb,r x y=false):Mh r T la lb (x::o):=by
 have sa:=hJ.mp m.sa;refine⟨iw.mpr ⟨λz hz=>m.le z hz x (.inl (eZ _ (bj.mpr rfl))),m.so⟩,sa.1,m.sb,?_,λz hz w hw=>?_⟩
 .refine List.Perm.trans ?_ m.pm;rw [dH,dH,dH];exact xt _ (List.perm_middle (a:=x) (l₁:=lb) (l₂:=o))
 rcases a_.mp hz with rfl | hz
 .exact hw.elim (λhw=>sa.2.2 w hw _ (bj.mpr rfl)) λhw=>h w hw
 exact m.le z hz w (hw.imp (g_ _) id)
def Mh.Io (m:Mh r T la (lb++[y]) o)(h:∀x∈la,r y x=false):Mh r T la lb (y::o):=by
 have sb:=hJ.mp m.sb;refine⟨iw.mpr ⟨λz hz=>m.le z hz y (.inr (eZ _ (bj.mpr rfl))),m.so⟩,m.sa,sb.1,?_,λz hz w hw=>?_⟩
 .have:=m.pm;simp only [dH,List.singleton_append] at this ⊢;exact this
 rcases a_.mp hz with rfl | hz
 .exact hw.elim (λhw=>h w hw) λhw=>sb.2.2 w hw _ (bj.mpr rfl)
 exact m.le z hz w (hw.imp id (g_ _))
def Mh.Q4 (m:Mh r T la [] o):Gd r T (la++o):=by
 refine⟨hJ.mpr ⟨m.sa,m.so,λz hz w hw=>m.le w hw z (.inl hz)⟩,?_⟩;have:=m.pm;rw [dG] at this;exact this
def Mh.Q3 (m:Mh r T [] lb o):Gd r T (lb++o):=⟨hJ.mpr ⟨m.sb,m.so,λz hz w hw=>m.le w hw z (.inr hz)⟩,m.pm⟩
def Mh.aax (m:Mh r T la [y] o)(h:∀x∈la,r x y=false):Gd r T ([y]++la++o):=by
 refine⟨hJ.mpr ⟨iw.mpr ⟨h,m.sa⟩,m.so,λz hz w hw=>?_⟩,?_⟩
 .rcases a_.mp hz with rfl | hz
  .exact m.le w hw _ (.inr (bj.mpr rfl))
  exact m.le w hw z (.inl hz)
 refine List.Perm.trans ?_ m.pm;exact List.Perm.append_right _ List.perm_append_comm
def xJ {a:71}{i:Nat}(h:i < a.size):a.toList.take (i+1)=a.toList.take i++[a[i]]:=by
 rw [di];simp [h]
def oR {a:71}{i:Nat}:(a.extract 0 i).toList=a.toList.take i:=by
 rw [Array.toList_extract,Bn];rfl
def z5 {l:424}{i:Nat}{x:Keyed}(h:x∈l.take i):∃j,j < i/\l[j]?=some x:=by
 obtain⟨k,hk⟩:=g9 h;rw [rQ] at hk
 split at hk
 .exact⟨k,by assumption,hk⟩
 cases hk
end
section
variable {M:Model}{A:Around}{E:z0b}{s:Shared}{κ:SortKind}{S:Keyed->Prop}{r:423}{a b:71}
abbrev wU (r:423)(a b:71) (na nb:Nat)(out:71):Prop:=Mh r (a.toList++b.toList) (a.toList.take na) (b.toList.take nb) out.toList.reverse
def kj.WC (W:516){out:71}{n nb:Nat}(m:wU r a b (n+1) nb out)(ha:n < a.size)(hb:nb<=b.size)(h:∀(h0:0 < nb),r a[n] (b[nb - 1]'∅)=false):wU r a b n nb (out.push a[n]):=by
 unfold wU at m ⊢;rw [xJ ha] at m;rw [rM,List.reverse_append];refine m.Ip λy hy=>?_;obtain⟨j,h1,h2⟩:=z5 hy;exact W.o.lG (h ∅) (jG W.sb W.o (i:=j) (j:=nb - 1) (x:=y) (y:=b[nb - 1]) h2 (by simpa using (aW (a:=b) (i:=nb - 1) ∅).1) ∅)
def kj.Yc (W:516){out:71}{na n:Nat}(m:wU r a b na (n+1) out)(hb:n < b.size)(ha:na<=a.size)(h:∀(h0:0 < na),r b[n] (a[na - 1]'∅)=false):wU r a b na n (out.push b[n]):=by
 unfold wU at m ⊢;rw [xJ hb] at m;rw [rM,List.reverse_append];refine m.Io λy hy=>?_;obtain⟨j,h1,h2⟩:=z5 hy;exact W.o.lG (h ∅) (jG W.sa W.o (i:=j) (j:=na - 1) (x:=y) (y:=a[na - 1]) h2 (by simpa using (aW (a:=a) (i:=na - 1) ∅).1) ∅)
def EO {a out:71}{k n:Nat}(hk:k<=n)(hn:n < a.size):out++(a.extract k (n+1)).reverse=out.push a[n]++(a.extract k n).reverse:=by
 obtain⟨d,rfl⟩:∃d,n=k+d:=⟨n - k,∅⟩;rw [show k+d+1=k+(d+1) from rfl,uf hn];generalize a.extract k (k+d)=x;apply rJ.mp;simp
theorem kj.SR (W:516){k nb:Nat}(hb:nb<=b.size):∀(d:Nat){out:71}{na:Nat},wU r a b na nb out->k+d=na->na<=a.size->(∀i (h:i < a.size),k<=i->i < na->∀(h0:0 < nb),r a[i] (b[nb - 1]'∅)=false)->wU r a b k nb (out++(a.extract k na).reverse)
 | 0,out,na,m,e,hn,h=>by
  subst e;have:a.extract k (k+0)=#[]:=548
  rw [this];simpa using m
 | d+1,out,na,m,e,hn,h=>by
  subst e;rw [show k+(d+1)=k+d+1 from rfl,EO ∅ ∅];exact W.SR hb d (W.WC (n:=k+d) m ∅ hb (h (k+d) ∅ ∅ ∅)) rfl ∅ λi h1 h2 h3=>h i h1 h2 ∅
theorem kj.SQ (W:516){k na:Nat}(ha:na<=a.size):∀(d:Nat){out:71}{nb:Nat},wU r a b na nb out->k+d=nb->nb<=b.size->(∀i (h:i < b.size),k<=i->i < nb->∀(h0:0 < na),r b[i] (a[na - 1]'∅)=false)->wU r a b na k (out++(b.extract k nb).reverse)
 | 0,out,nb,m,e,hn,h=>by
  subst e;have:b.extract k (k+0)=#[]:=548
  rw [this];simpa using m
 | d+1,out,nb,m,e,hn,h=>by
  subst e;rw [show k+(d+1)=k+d+1 from rfl,EO ∅ ∅];exact W.SQ ha d (W.Yc (n:=k+d) m ∅ ha (h (k+d) ∅ ∅ ∅)) rfl ∅ λi h1 h2 h3=>h i h1 h2 ∅
def kj.An (W:516){out:71}{na nb:Nat}(m:wU r a b na nb out)(h:nb=0\/na=0):AS r a b (eQ a b out na nb):=by
 unfold wU at m;unfold AS eQ;rw [mf,mf,oR,oR,Array.toList_reverse];rcases h with rfl | rfl
 .rw [rC] at m ⊢;rw [dG];exact m.Q4
 rw [rC] at m ⊢;exact m.Q3
def kj.yI (W:516){out:71}{na:Nat}(m:wU r a b na 1 out)(hb:0 < b.size):AS r a b (gX a b out na 1):=by
 unfold wU at m;unfold AS gX;rw [mf,mf,oR,oR,Array.toList_reverse];have e:b.toList.take 1=[b[0]]:=by have:=xJ hb;simpa using this
 rw [e] at m ⊢;exact m.aax λx hx=>W.first _ (aW hb).1 x (List.mem_of_mem_take hx)
structure Dt (r:423)(a b:71) (na nb:Nat)(out:71):Prop where
 m:wU r a b na nb out
 h1:0 < na
 h2:na<=a.size
 h3:1 < nb
 h4:nb<=b.size
def RsH (r:423)(a b:71) (n:Nat)(o:695) (na nb:Nat)(out:71):Prop:=(∃z,o=some z/\AS r a b z)\/(o=none/\Dt r a b na nb out/\na+nb < n)
def Rh (r:423)(a b:71)(st:SortSt) (n:Nat)(x:ForInStep Wm)(aS:SortSt):Prop:=Sm st aS/\match x with
 | .done c=>RsH r a b n c.1 c.2.1 c.2.2.1 c.2.2.2.1
 | .yield c=>c.1=none/\Dt r a b c.2.1 c.2.2.1 c.2.2.2.1/\c.2.1+c.2.2.1 < n
def JQ (W:516){mg ac bc n na nb:Nat}{out:71}{zB st:SortSt}(sm:Sm zB st)(T:Dt r a b na nb out)(le:r (a[na - 1]'(by have:=T.h1;have:=T.h2;omega)) (b[nb - 1]'(by have:=T.h3;have:=T.h4;omega))=false)(hn:na+nb<=n):wpS M A E s (Xa a b mg ac bc na nb out) (Rh r a b zB n) st:=by
 obtain⟨m,h1,h2,h3,h4⟩:=T;obtain⟨na,rfl⟩:∃k,na=k+1:=⟨na - 1,∅⟩;unfold Xa;simp only [Nat.add_sub_cancel] at le ⊢;refine aG (bQ (aW (a:=a) (i:=na) ∅).1 ?_);have m2:=W.WC m ∅ h4 λ_=>le;by_cases c:na=0
 .rw [ar 550];exact aO ⟨sm,.inl ⟨_,rfl,W.An m2 (.inr c)⟩⟩
 rw [aq 550];have hS:Dt r a b na nb (out.push a[na]):=⟨m2,∅,∅,h3,h4⟩
 split
 .exact aO ⟨sm,.inr ⟨rfl,hS,by show na+nb < n;omega⟩⟩
 exact aO ⟨sm,rfl,hS,by show na+nb < n;omega⟩
def JR (ask:i8 M A E s κ S r)(W:516){mg ac bc n na nb:Nat}{out:71}{zB st:SortSt}(hk:kindOf st=κ)(sm:Sm zB st)(T:Dt r a b na nb out)(le:r (b[nb - 1]'(by have:=T.h3;have:=T.h4;omega)) (a[na - 1]'(by have:=T.h1;have:=T.h2;omega))=false)(hn:na+nb<=n):wpS M A E s (U9 a b mg ac bc na nb out) (Rh r a b zB n) st:=by
 obtain⟨m,h1,h2,h3,h4⟩:=T;obtain⟨nb,rfl⟩:∃k,nb=k+1:=⟨nb - 1,∅⟩;unfold U9;simp only [Nat.add_sub_cancel] at le ⊢;refine aG (bQ (aW (a:=b) (i:=nb) ∅).1 ?_);have m2:=W.Yc m ∅ h2 λ_=>le;by_cases c:nb=1
 .rw [ar 550];subst c;exact aO ⟨sm,.inl ⟨_,rfl,W.yI m2 ∅⟩⟩
 rw [aq 550];have U4:na - 1 < a.size:=121
 refine aG (bQ (aW (a:=a) (i:=na - 1) U4).1 ?_);refine aG (gN ask (b:=λi=>r (b.getD i default) a[na - 1]) hk (W.at ∅) (λi hi=>?_) (λi j kJ hj h=>?_) ∅ λk g1 g2 g3=>?_)
 .have jL:i < b.size:=121
  refine⟨b[i],by rw [iQ];exact(aW jL).1,W.bt jL,?_⟩;rw [ar rfl];simp [Array.getD,jL]
 .have qa:j < b.size:=121
  have jL:i < b.size:=121
  have e1:b.getD i default=b[i]:=by simp [Array.getD,jL]
  have e2:b.getD j default=b[j]:=by simp [Array.getD,qa]
  try dsimp only at h
  try dsimp only
  rw [e2] at h;rw [e1];cases e:r b[i] a[na - 1] with
  | true=>rfl
  | false =>
   have:=W.o.lG (jG W.sb W.o (i:=i) (j:=j) (x:=b[i]) (y:=b[j]) (by simpa using (aW jL).1) (by simpa using (aW qa).1) ∅) e;rw [h] at this;cases this
 try dsimp only at g2 g3
 try dsimp only
 have m3:wU r a b na k (out.push b[nb]++(b.extract k nb).reverse):=W.SQ h2 (nb - k) m2 ∅ ∅ λi hi h5 h6 h0=>by
  have:=g3 i h5 h6;rw [show b.getD i default=b[i] by simp [Array.getD,hi]] at this;exact this
 have Jx:∀(h0:0 < k),r a[na - 1] (b[k - 1]'∅)=false:=λh0=>by
  have:=g2 (k - 1) ∅;rw [show b.getD (k - 1) default=b[k - 1] by simp [Array.getD,show k - 1 < b.size by omega]] at this;exact W.o.jy this
 by_cases ck:nb - k > 0
 .rw [ar ck];by_cases c1:k=1
  .rw [ar 701];subst c1;exact aO ⟨sm,.inl ⟨_,rfl,W.yI m3 ∅⟩⟩
  rw [aq 701];by_cases c2:k=0
  .rw [ar 702];exact aO ⟨sm,.inl ⟨_,rfl,W.An m3 (.inl c2)⟩⟩
  rw [aq 702];exact JQ W sm ⟨m3,h1,h2,∅,∅⟩ (Jx ∅) ∅
 rw [aq ck];have:k=nb:=121
 subst this;exact JQ W sm ⟨m2,h1,h2,∅,∅⟩ (Jx ∅) ∅
def QE (ask:i8 M A E s κ S r)(W:516){mg ac bc n na nb:Nat}{out:71}{zB st:SortSt}(hk:kindOf st=κ)(RH:Sm zB st)(T:Dt r a b na nb out)(hn:na+nb<=n):wpS M A E s (QF a b mg ac bc na nb out) (Rh r a b zB n) st:=by
 obtain⟨m,h1,h2,h3,h4⟩:=T;unfold QF;refine aG (jX λsI s1=>?_);have Hi:kindOf sI=κ:=s1.k.trans hk;have sm:=RH.trans s1;have hlb:nb - 1 < b.size:=121
 refine aG (bQ (aW (a:=b) (i:=nb - 1) hlb).1 ?_);refine aG (gN ask (b:=λi=>!r b[nb - 1] (a.getD i default)) Hi (W.bt ∅) (λi hi=>?_) (λi j kJ hj h=>?_) ∅ λk g1 g2 g3=>?_)
 .have jL:i < a.size:=121
  refine⟨a[i],by rw [iQ];exact(aW jL).1,W.at jL,?_⟩;rw [aq nofun];simp [Array.getD,jL]
 .have qa:j < a.size:=121
  have jL:i < a.size:=121
  have e1:a.getD i default=a[i]:=by simp [Array.getD,jL]
  have e2:a.getD j default=a[j]:=by simp [Array.getD,qa]
  try dsimp only at h
  try dsimp only
  rw [e2,iL] at h;rw [e1,iL];exact W.o.lG h (jG W.sa W.o (i:=i) (j:=j) (x:=a[i]) (y:=a[j]) (by simpa using (aW jL).1) (by simpa using (aW qa).1) ∅)
 try dsimp only at g2 g3
 try dsimp only
 have m3:wU r a b k nb (out++(a.extract k na).reverse):=W.SR h4 (na - k) m ∅ ∅ λi hi h5 h6 h0=>by
  have:=g3 i h5 h6;rw [show a.getD i default=a[i] by simp [Array.getD,hi],Bool.not_eq_false'] at this;exact W.o.jy this
 have Jx:∀(h0:0 < k),r b[nb - 1] (a[k - 1]'∅)=false:=λh0=>by
  have:=g2 (k - 1) ∅;rw [show a.getD (k - 1) default=a[k - 1] by simp [Array.getD,show k - 1 < a.size by omega],iL] at this;exact this
 by_cases ck:na - k > 0
 .rw [ar ck];by_cases c1:k=0
  .rw [ar 701];exact aO ⟨sm,.inl ⟨_,rfl,W.An m3 (.inr c1)⟩⟩
  rw [aq 701];exact JR ask W Hi sm ⟨m3,∅,∅,h3,h4⟩ (Jx ∅) ∅
 rw [aq ck];have:k=na:=121
 subst this;exact JR ask W Hi sm ⟨m,h1,h2,h3,h4⟩ (Jx ∅) ∅
def QG (ask:i8 M A E s κ S r)(W:516){mg ac bc na nb:Nat}{out:71}{st:SortSt}(hk:kindOf st=κ)(T:Dt r a b na nb out):wpS M A E s (U_ a b mg na nb out ac bc) (λx aS=>aS=st/\match x with
  | .done c=>RsH r a b (na+nb) c.1 c.2.1 c.2.2.1 c.2.2.2.1
  | .yield c=>c.1=none/\Dt r a b c.2.1 c.2.2.1 c.2.2.2.1/\c.2.1+c.2.2.1 < na+nb) st:=by
 obtain⟨m,h1,h2,h3,h4⟩:=T;obtain⟨na,rfl⟩:∃k,na=k+1:=⟨na - 1,∅⟩;obtain⟨nb,rfl⟩:∃k,nb=k+1:=⟨nb - 1,∅⟩;unfold U_;simp only [Nat.add_sub_cancel];have ea:=(aW (a:=a) (i:=na) ∅).1;have eb:=(aW (a:=b) (i:=nb) ∅).1;refine aG (bQ eb (aG (bQ ea (aG (sr ask hk (W.bt ∅) (W.at ∅) ?_)))));dsimp only;cases e:r b[nb] a[na] with
 | true =>
  rw [ar rfl];refine aG (bQ ea ?_);have m2:=W.WC m ∅ h4 λ_=>W.o.jy e;by_cases c:na=0
  .rw [ar 550];exact aO ⟨rfl,.inl ⟨_,rfl,W.An m2 (.inr c)⟩⟩
  rw [aq 550];have hS:Dt r a b na (nb+1) (out.push a[na]):=⟨m2,∅,∅,h3,h4⟩
  split
  .exact aO ⟨rfl,.inr ⟨rfl,hS,by show na+(nb+1) < na+1+(nb+1);omega⟩⟩
  exact aO ⟨rfl,rfl,hS,by show na+(nb+1) < na+1+(nb+1);omega⟩
 | false =>
  rw [aq nofun];refine aG (bQ eb ?_);have m2:=W.Yc m ∅ h2 λ_=>e;by_cases c:nb=1
  .rw [ar 550];subst c;exact aO ⟨rfl,.inl ⟨_,rfl,W.yI m2 ∅⟩⟩
  rw [aq 550];have hS:Dt r a b (na+1) nb (out.push b[nb]):=⟨m2,h1,h2,∅,∅⟩
  split
  .exact aO ⟨rfl,.inr ⟨rfl,hS,by show na+1+nb < na+1+(nb+1);omega⟩⟩
  exact aO ⟨rfl,rfl,hS,by show na+1+nb < na+1+(nb+1);omega⟩
def zq (ask:i8 M A E s κ S r)(W:516){st:SortSt}{Q:71->519}(hk:kindOf st=κ)(ha:0 < a.size)(hb:0 < b.size)(h:∀z aS,Sm st aS->AS r a b z->Q z aS):wpS M A E s (oE a b) Q st:=by
 rw [zY];refine aG (jD ?_);have U4:a.size - 1 < a.size:=121
 refine aG (bQ (aW (a:=a) U4).1 ?_);have m0:wU r a b a.size b.size #[]:=⟨.nil,by rw [qm 90];exact W.sa,by rw [qm 90];exact W.sb,by rw [qm 90,qm 90];simp,λ_ h=>by simp at h⟩;have m1:wU r a b (a.size - 1) b.size #[a[a.size - 1]]:=by
  have e:a.size=a.size - 1+1:=121
  have m0':wU r a b (a.size - 1+1) b.size #[]:=by rw [<-e];exact m0
  exact W.WC m0' U4 128 λh0=>W.last _ (aW U4).1 _ 90
 by_cases c1:a.size - 1=0
 .rw [ar 701];exact aO (h _ _ (.refl _) (W.An m1 (.inr c1)))
 rw [aq 701];by_cases c2:b.size=1
 .rw [ar 702];rw [c2] at m1 ⊢;exact aO (h _ _ (.refl _) (W.yI m1 hb))
 rw [aq 702];refine aG (wpS_get ?_);refine aG (fh (iq (I:=λx c aS=>Sm st aS/\c.1=none/\Dt r a b c.2.1 c.2.2.1 c.2.2.2.1/\x+c.2.1+c.2.2.1 < 558) (Q:=λc aS=>Sm st aS/\∃z,c.1=some z/\AS r a b z) ?_ ?_ ⟨.refl _,rfl,⟨m1,by show 0 < a.size - 1;omega,by show a.size - 1<=a.size;omega,by show 1 < b.size;omega,aE _⟩,by show 0+(a.size - 1)+b.size < 558;omega⟩) ?_)
 .rintro x ⟨c0,na,nb,out,mg⟩ sI _ hx ⟨sm,rfl,T,hp⟩;dsimp only at T hp ⊢;have Hi:kindOf sI=κ:=sm.k.trans hk;refine aG (fh (iq (I:=λy d aS=>aS=sI/\d.1=none/\Dt r a b d.2.1 d.2.2.1 d.2.2.2.1/\x+d.2.1+d.2.2.1 < 558) (Q:=λd aS=>aS=sI/\((∃z,d.1=some z/\AS r a b z)\/(d.1=none/\Dt r a b d.2.1 d.2.2.1 d.2.2.2.1/\x+d.2.1+d.2.2.1 < 558))) ?_ ?_ ⟨rfl,rfl,T,hp⟩) ?_)
  .rintro y ⟨d0,na,nb,out,ac,bc⟩ aS _ hy ⟨rfl,rfl,T,hp⟩;dsimp only at T hp ⊢;refine fh (QG ask W Hi T) ?_;rintro z gk ⟨rfl,hz⟩;cases z with
   | done c=>exact⟨rfl,hz.imp id λ⟨g1,g2,g3⟩=>⟨g1,g2,∅⟩⟩
   | yield c=>exact⟨rfl,hz.1,hz.2.1,by have:=hz.2.2;omega⟩
  .rintro⟨d0,na,nb,out,ac,bc⟩ aS ⟨rfl,rfl,T,hp⟩;exact⟨rfl,.inr ⟨rfl,T,hp⟩⟩
  rintro⟨d0,na,nb,out,ac,bc⟩ aS ⟨rfl,hz⟩;dsimp only at hz ⊢;rcases hz with ⟨z,rfl,g⟩ | ⟨rfl,T,hp⟩
  .exact aO ⟨sm,z,rfl,g⟩
  refine aG (jD ?_);refine aG (fh (iq (I:=λy e aS=>Sm st aS/\e.1=none/\Dt r a b e.2.1 e.2.2.1 e.2.2.2.1/\x+y+e.2.1+e.2.2.1 < 558) (Q:=λe aS=>Sm st aS/\((∃z,e.1=some z/\AS r a b z)\/(e.1=none/\Dt r a b e.2.1 e.2.2.1 e.2.2.2.1/\x+1+e.2.1+e.2.2.1 < 558))) ?_ ?_ ⟨sm,rfl,T,hp⟩) ?_)
  .rintro y ⟨e0,na,nb,out,mg,ac,bc⟩ gk _ hy ⟨i7,rfl,T,hp⟩;dsimp only at T hp ⊢;have zd:kindOf gk=κ:=i7.k.trans hk;have key:∀mg,wpS M A E s (QF a b mg ac bc na nb out) (Rh r a b st (na+nb)) gk:=λmg=>QE ask W zd i7 T 128
   split
   all_goals
    refine fh (key _) λz y_ hz=>?_;cases z with
    | done c=>exact⟨hz.1,hz.2.imp id λ⟨g1,g2,g3⟩=>⟨g1,g2,∅⟩⟩
    | yield c=>exact⟨hz.1,hz.2.1,hz.2.2.1,by have:=hz.2.2.2;omega⟩
  .rintro⟨e0,na,nb,out,mg,ac,bc⟩ gk ⟨i7,rfl,T,hp⟩;dsimp only at T hp ⊢;have:=T.h1;exact⟨i7,.inr ⟨rfl,T,∅⟩⟩
  rintro⟨e0,na,nb,out,mg,ac,bc⟩ gk ⟨i7,hz⟩;dsimp only at hz ⊢;rcases hz with ⟨z,rfl,g⟩ | ⟨rfl,T,hp⟩
  .exact aO ⟨i7,z,rfl,g⟩
  refine aG (jX λy_ s3=>?_);exact aO ⟨i7.trans s3,rfl,T,hp⟩
 .rintro⟨c0,na,nb,out,mg⟩ aS ⟨sm,rfl,T,hp⟩;dsimp only at T hp;have h1:=T.h1;exact absurd hp ∅
 rintro⟨c0,na,nb,out,mg⟩ aS ⟨sm,z,rfl,g⟩;exact aO (h z _ sm g)
end
def GU (lo a cD:Nat):StateT SortSt Sem AscSt :=
 forIn [a:cD] ((none,a):AscSt) λ_ c=>do
  let x <-ltAt' (lo+c.2) (lo+c.2 - 1)
  match x with
  | some xX=>if xX=true then pure (ForInStep.done (none,c.2)) else pure (ForInStep.yield (none,c.2+1))
  | _=>pure (ForInStep.done (258,c.2))
def qr (lo n cD:Nat):StateT SortSt Sem z0p:=do
 reverseSlice' lo (lo+n)
 let c <-GU lo n cD
 match c.1 with
 | some r=>pure r
 | none=>pure (some c.2)
def ES (lo n cD:Nat):StateT SortSt Sem DescSt :=
 forIn [n:cD] ((none,n,0):DescSt) λ_ c=>do
  let x <-ltAt' (lo+c.2.1) (lo+c.2.1 - 1)
  match x with
  | some xX =>
   if xX=true then
    if c.2.2 > 0 then do
     reverseSlice' (lo+c.2.1 - (c.2.2+1)) (lo+c.2.1)
     pure (ForInStep.yield (none,c.2.1+1,0))
    else pure (ForInStep.yield (none,c.2.1+1,0))
   else do
    let x <-ltAt' (lo+c.2.1 - 1) (lo+c.2.1)
    match x with
    | some Qe =>
     if Qe=true then pure (ForInStep.done (none,c.2.1,c.2.2))
     else pure (ForInStep.yield (none,c.2.1+1,c.2.2+1))
    | _=>pure (ForInStep.done (258,c.2.1,c.2.2))
  | _=>pure (ForInStep.done (258,c.2.1,c.2.2))
def wx (lo n cD:Nat):StateT SortSt Sem z0p:=do
 liftM (rule "list.sort.descending-run")
 let c <-ES lo (n+1) cD
 match c.1 with
 | some r=>pure r
 | none =>
  if c.2.2 > 0 then do
   reverseSlice' (lo+c.2.1 - (c.2.2+1)) (lo+c.2.1)
   qr lo c.2.1 cD
  else qr lo c.2.1 cD
def nY {lo n cD:Nat}(f:AscSt->StateT SortSt Sem z0p)(h1:∀r n,f (some r,n)=pure r)(h2:∀n,f (none,n)=pure (some n)):(do reverseSlice' lo (lo+n);let c <-GU lo n cD;f c)=qr lo n cD:=by
 unfold qr
 congr 1;funext _;congr 1;funext c
 obtain⟨r,c⟩:=c;cases r with
 | some r=>exact h1 _ _
 | none=>exact h2 _
def yN (lo cD:Nat):countRun' lo cD=(do
  let c <-GU lo 1 cD
  match c.1 with
  | some r=>pure r
  | none =>
   if (c.2 == cD)=true then pure (some c.2)
   else if c.2 > 1 then do
    let x <-ltAt' lo (lo+c.2 - 1)
    match x with
    | some TF=>if TF=true then pure (some c.2) else do
      reverseSlice' lo (lo+c.2)
      wx lo c.2 cD
    | _=>pure none
   else wx lo c.2 cD):=by
 rw [countRun'_eq];have D:∀(n:Nat)(f:DescSt->StateT SortSt Sem z0p),(∀r d,f (some r,d)=pure r)->(∀m q,f (none,m,q)=if q > 0 then (do reverseSlice' (lo+m - (q+1)) (lo+m);qr lo m cD) else qr lo m cD)->(do liftM (rule "list.sort.descending-run");let c <-ES lo (n+1) cD;f c)=wx lo n cD:=λn f h1 h2=>by
  unfold wx
  congr 1;funext _;congr 1;funext c
  obtain⟨r,m,q⟩:=c;cases r with
  | some r=>exact h1 _ _
  | none=>exact h2 _ _
 dsimp only;unfold GU
 congr 1
 funext c
 obtain⟨r,n⟩:=c;cases r with
 | some r=>rfl
 | none =>
  dsimp only
  split
  .rfl
  split
  .congr 1
   funext x
   cases x with
   | none=>rfl
   | some TF =>
    dsimp only
    split
    .rfl
    congr 1
    funext _
    refine D n _ (λr d=>rfl) (λm q=>?_);dsimp only
    split
    .congr 1;funext _
     exact nY _ 109 λ_=>rfl
    exact nY _ 109 λ_=>rfl
  refine D n _ (λr d=>rfl) (λm q=>?_);dsimp only
  split
  .congr 1;funext _
   exact nY _ 109 λ_=>rfl
  exact nY _ 109 λ_=>rfl
def G (xs:71) (i:Nat):Keyed:=xs.getD i (Value.none,Value.none)
def oY {xs ys:71}{i j:Nat}(h:xs[i]?=ys[j]?):G xs i=G ys j:=by
 unfold G;rw [Bs,Bs,h]
def AV {xs:71}{i:Nat}(h:i < xs.size):xs[i]?=some (G xs i):=by
 unfold G;rw [Bs,sf h];rfl
def uF {xs:71}{i j:Nat}(hj:j<=xs.size) (k:Nat):G (mirror xs i j ((j - i) / 2)) k=if i<=k/\k < j then G xs (i+j - 1 - k) else G xs k:=by
 have e:=getElem?_mirror_all (i:=i) hj k;by_cases h1:i<=k/\k < j
 .rw [ar h1] at e ⊢;exact oY e
 rw [aq h1] at e ⊢;exact oY e
def AU {xs:71}{src d:Nat}(hs:src < xs.size)(hd:d<=src) (k:Nat):G (bubble xs src d) k=if k=src - d then G xs src else if src - d < k/\k<=src then G xs (k - 1) else G xs k:=by
 have e:=getElem?_bubble hs d hd k;by_cases h1:k=src - d
 .rw [ar h1] at e ⊢;exact oY e
 rw [aq h1] at e ⊢;by_cases h2:src - d < k/\k<=src
 .rw [ar h2] at e ⊢;exact oY e
 rw [aq h2] at e ⊢;exact oY e
def Up (r:423)(xs:71) (lo n:Nat):Prop:=∀i j,i<=j->j < n->r (G xs (lo+j)) (G xs (lo+i))=false
def Dn (r:423)(xs:71) (lo n:Nat):Prop:=∀i j,i<=j->j < n->r (G xs (lo+i)) (G xs (lo+j))=false
structure Sb (a₀ sj:71)(κ:SortKind)(pend:Array (584)) (lo:Nat)(st:SortSt):Prop where
 pm:(129).Perm a₀
 kd:kindOf st=κ
 fl:failedOf st=none
 pd:pendingOf st=pend
 pre:∀i,i < lo->474[i]?=sj[i]?
section
variable {M:Model}{A:Around}{E:z0b}{s:Shared}{κ:SortKind}{r:423}{a₀ sj:71}{pend:Array (584)}{lo:Nat}
def yV.v9 {r:423}(o:yV r)(x:Keyed):r x x=false:=by
 cases e:r x x with
 | false=>rfl
 | true=>have:=o.jy e;rw [e] at this;cases this
theorem Sb.size {st:SortSt}(B:658):(129).size=a₀.size:=B.pm.size_eq
def Sb.set {st:SortSt}(B:658){xs:71}(hp:xs.Perm 474)(h:∀i,i < lo->xs[i]?=474[i]?):Sb a₀ sj κ pend lo (setArr st xs):=⟨hp.trans B.pm,B.kd,B.fl,B.pd,λi hi=>(h i hi).trans (B.pre i hi)⟩
def Sb.WW {st:SortSt}(B:658){i j:Nat}(hi:lo<=i)(hj:j<=a₀.size):Sb a₀ sj κ pend lo (setArr st (mirror 474 i j ((j - i) / 2))) :=
 B.set (mirror_perm _ _ _ _) λk hk=>by
  rw [getElem?_mirror_all (by rw [B.size];exact hj),aq ∅]
def Sb.mem {st:SortSt}(B:658){i:Nat}(h:i < a₀.size):G 474 i∈a₀.toList:=by
 have h':i < (129).size:=by rw [B.size];exact h
 refine(xD.mp B.pm).mem_iff.mp ?_;have:=AV h';exact cv (by simpa using this)
def nU (ask:i8 M A E s κ 623 r){st:SortSt}{i j:Nat}{Q:Option Bool->519}(B:658)(hi:i < a₀.size)(hj:j < a₀.size)(h:Q (some (r (G 474 i) (G 474 j))) st):wpS M A E s (ltAt' i j) Q st:=by
 rw [ltAt'_eq];refine aG (wpS_get ?_);exact aG (bQ (AV (by rw [B.size];exact hi)) (aG (bQ (AV (by rw [B.size];exact hj)) (sr ask B.kd (B.mem hi) (B.mem hj) h))))
def qQ {st:SortSt}{i j:Nat}{Q:Unit->519}(h:Q () (setArr st (mirror 474 i j ((j - i) / 2)))):wpS M A E s (reverseSlice' i j) Q st:=by
 rw [reverseSlice'_eq];exact wpS_modify h
def Lk (r:423)(x y:Keyed):Prop:=r x y=false/\r y x=false
def nO (o:yV r){xs:71}{i j:Nat}(hj:j<=xs.size)(h:∀k,i<=k->k < j->Lk r (G xs k) (G xs (j - 1))) (k:Nat):Lk r (G (mirror xs i j ((j - i) / 2)) k) (G xs k):=by
 rw [uF hj]
 split
 .have h1:=h (i+j - 1 - k) ∅ ∅;have h2:=h k ∅ ∅;exact⟨o.lG h1.1 h2.2,o.lG h2.1 h1.2⟩
 exact⟨o.v9 _,o.v9 _⟩
def Lk.dn (o:yV r){xs ys:71}{n:Nat}(h:∀k,Lk r (G ys k) (G xs k))(d:Dn r xs lo n):Dn r ys lo n:=λi j kJ hj=>o.lG (h _).1 (o.lG (d i j kJ hj) (h _).2)
def zt (o:yV r)(ask:i8 M A E s κ 623 r){st:SortSt}{a cD:Nat}{Q:AscSt->519}(hn:lo+cD<=a₀.size)(ha:1<=a)(han:a<=cD)(B:658)(hs:Up r 474 lo a)
  (h:∀n,a<=n->n<=cD->Up r 474 lo n->(n=cD\/r (G 474 (lo+n)) (G 474 (lo+n - 1))=true)->Q (none,n) st):wpS M A E s (GU lo a cD) Q st:=by
 unfold GU;refine iq (I:=λx c aS=>aS=st/\c=(none,x)/\Up r 474 lo x) ?_ ?_ ⟨rfl,rfl,hs⟩
 .rintro x c aS hax hxn ⟨rfl,rfl,j_⟩;dsimp only;refine aG (nU ask B ∅ ∅ ?_);dsimp only;cases e:r (G 488 (lo+x)) (G 488 (lo+x - 1)) with
  | true=>rw [ar rfl];exact aO (h x hax ∅ j_ (.inr e))
  | false =>
   rw [aq nofun];refine aO ⟨rfl,rfl,λi j kJ hj=>?_⟩;by_cases U6:j < x
   .exact j_ i j kJ U6
   have qa:j=x:=121
   subst qa;by_cases jL:i=j
   .subst jL;exact o.v9 _
   exact o.lG (by rw [show lo+(j - 1)=lo+j - 1 by omega];exact e) (j_ i (j - 1) ∅ ∅)
 rintro c aS ⟨rfl,rfl,j_⟩;rw [show max a cD=cD by omega] at j_ ⊢;exact h cD han 128 j_ 419
def vo (o:yV r)(ask:i8 M A E s κ 623 r){st:SortSt}{n cD:Nat}{Q:z0p->519}(hn:lo+cD<=a₀.size)(h1:1<=n)(F7:n<=cD)(B:658)
  (hs:Dn r 474 lo n)(h:879):wpS M A E s (qr lo n cD) Q st:=by
 unfold qr;refine aG (qQ ?_);have B':=B.WW (i:=lo) (j:=lo+n) 128 ∅;refine aG (zt o ask hn h1 F7 B' (λi j kJ hj=>?_) λm Z_ R6 W6 _=>aO (h m _ B' ∅ R6 W6));have hsz:lo+n<=(129).size:=by rw [B.size];omega
 show r (G (mirror 474 lo (lo+n) ((lo+n - lo) / 2)) (lo+j)) (G (mirror 474 lo (lo+n) ((lo+n - lo) / 2)) (lo+i))=false;rw [uF hsz,uF hsz,ar ∅,ar ∅,show lo+(lo+n) - 1 - (lo+j)=lo+(n - 1 - j) by omega,show lo+(lo+n) - 1 - (lo+i)=lo+(n - 1 - i) by omega];exact hs _ _ ∅ ∅
def Fd (o:yV r)(ask:i8 M A E s κ 623 r){st:SortSt}{n cD:Nat}{Q:DescSt->519}(hn:lo+cD<=a₀.size)(h1:1<=n)(F7:n<=cD)(B:658)(hs:Dn r 474 lo n)
  (h:∀m CG aS,Sb a₀ sj κ pend lo aS->n<=m->m<=cD->Dn r 488 lo m->CG+1<=m->(∀i,lo+m - (CG+1)<=i->i < lo+m->Lk r (G 488 i) (G 488 (lo+m - 1)))->Q (none,m,CG) aS):wpS M A E s (ES lo n cD) Q st:=by
 unfold ES;refine iq (I:=λx c aS=>Exists λCG=>c=(none,x,CG)/\Sb a₀ sj κ pend lo aS/\Dn r 488 lo x/\CG+1<=x/\(∀i,lo+x - (CG+1)<=i->i < lo+x->Lk r (G 488 i) (G 488 (lo+x - 1)))) ?_ ?_
  ⟨0,rfl,B,hs,∅,λi h1 h2=>by rw [show i=lo+n - 1 by omega];exact⟨o.v9 _,o.v9 _⟩⟩
 .rintro x c aS hax hxn ⟨CG,rfl,B',j_,hq,he⟩;dsimp only;have hsz:lo+x<=(256).size:=by rw [B'.size];omega
  refine aG (nU ask B' ∅ ∅ ?_);dsimp only;cases e:r (G 488 (lo+x)) (G 488 (lo+x - 1)) with
  | true =>
   rw [ar rfl];have Nr:Dn r 488 lo (x+1):=by
    intro i j kJ hj;by_cases U6:j < x
    .exact j_ i j kJ U6
    have qa:j=x:=121
    subst qa;by_cases jL:i=j
    .subst jL;exact o.v9 _
    exact o.lG (j_ i (j - 1) ∅ ∅) (by rw [show lo+(j - 1)=lo+j - 1 by omega];exact o.jy e)
   by_cases JK:CG > 0
   .rw [ar JK];refine aG (qQ (aO ⟨0,rfl,B'.WW ∅ ∅,Lk.dn o (nO o hsz he) Nr,∅,λi h1 h2=>by rw [show i=lo+(x+1) - 1 by omega];exact⟨o.v9 _,o.v9 _⟩⟩))
   rw [aq JK];exact aO ⟨0,rfl,B',Nr,∅,λi h1 h2=>by rw [show i=lo+(x+1) - 1 by omega];exact⟨o.v9 _,o.v9 _⟩⟩
  | false =>
   rw [aq nofun];refine aG (nU ask B' ∅ ∅ ?_);dsimp only;cases e2:r (G 488 (lo+x - 1)) (G 488 (lo+x)) with
   | true=>rw [ar rfl];exact aO (h x CG aS B' hax ∅ j_ hq he)
   | false =>
    rw [aq nofun];refine aO ⟨CG+1,rfl,B',λi j kJ hj=>?_,∅,λi h1 h2=>?_⟩
    .by_cases U6:j < x
     .exact j_ i j kJ U6
     have qa:j=x:=121
     subst qa;by_cases jL:i=j
     .subst jL;exact o.v9 _
     exact o.lG (j_ i (j - 1) ∅ ∅) (by rw [show lo+(j - 1)=lo+j - 1 by omega];exact e2)
    rw [show lo+(x+1) - 1=lo+x by omega];by_cases hix:i=lo+x
    .subst hix;exact⟨o.v9 _,o.v9 _⟩
    have:=he i ∅ ∅;exact⟨o.lG this.1 e2,o.lG e this.2⟩
 rintro c aS ⟨CG,rfl,B',j_,hq,he⟩;rw [show max n cD=cD by omega] at j_ hq he ⊢;exact h cD CG aS B' F7 128 j_ hq he
def vp (o:yV r)(ask:i8 M A E s κ 623 r){st:SortSt}{n cD:Nat}{Q:z0p->519}(hn:lo+cD<=a₀.size)(F7:n+1<=cD)(B:658)(hs:Dn r 474 lo (n+1))
  (h:879):wpS M A E s (wx lo n cD) Q st:=by
 unfold wx;refine aG (jD ?_);refine aG (Fd o ask hn ∅ F7 B hs λm CG aS B' Z_ R6 j_ hq he=>?_);dsimp only;have hsz:lo+m<=(256).size:=by rw [B'.size];omega
 by_cases JK:CG > 0
 .rw [ar JK];exact aG (qQ (vo o ask hn ∅ R6 (B'.WW ∅ ∅) (Lk.dn o (nO o hsz he) j_) h))
 rw [aq JK];exact vo o ask hn ∅ R6 B' j_ h
def Bw (o:yV r)(ask:i8 M A E s κ 623 r){st:SortSt}{cD:Nat}{Q:z0p->519}(hn:lo+cD<=a₀.size)(h1:1<=cD)(B:658)
  (h:879):wpS M A E s (countRun' lo cD) Q st:=by
 rw [yN];refine aG (zt o ask hn (aE 1) h1 B (λi j kJ hj=>by rw [show i=j by omega];exact o.v9 _) λn hn1 Hh N2 hor=>?_);dsimp only;by_cases F7:n=cD
 .rw [ar (by simpa using F7)];exact aO (h n st B hn1 Hh N2)
 rw [aq (by simpa using F7)];have jQ:=hor.resolve_left F7;by_cases hgt:n > 1
 .rw [ar hgt];refine aG (nU ask B ∅ ∅ ?_);dsimp only;cases e:r (G 474 lo) (G 474 (lo+n - 1)) with
  | true=>rw [ar rfl];exact aO (h n st B hn1 Hh N2)
  | false =>
   rw [aq nofun];have hsz:lo+n<=(129).size:=by rw [B.size];omega
   have jM:∀k,lo<=k->k < lo+n->Lk r (G 474 k) (G 474 (lo+n - 1)):=λk Hi zd=>by
    have a1:=N2 0 (k - lo) ∅ ∅;have a2:=N2 (k - lo) (n - 1) ∅ ∅;rw [show lo+(k - lo)=k by omega] at a1 a2;rw [show lo+(n - 1)=lo+n - 1 by omega] at a2;exact⟨o.lG a1 e,a2⟩
   refine aG (qQ (vp o ask hn ∅ (B.WW 128 ∅) (Lk.dn o (nO o hsz jM) ?_) h));intro i j kJ hj;by_cases hjn:j < n
   .exact o.lG (jM (lo+i) ∅ ∅).1 (jM (lo+j) ∅ ∅).2
   have qa:j=n:=121
   subst qa;by_cases jL:i=j
   .subst jL;exact o.v9 _
   exact o.lG (jM (lo+i) ∅ ∅).1 (o.jy jQ)
 rw [aq hgt];have Z9:n=1:=121
 subst Z9;refine vp o ask hn ∅ B ?_ h;intro i j kJ hj;by_cases jL:i=j
 .subst jL;exact o.v9 _
 have U_:i=0:=121
 have hj1:j=1:=121
 subst U_;subst hj1;exact o.jy jQ
def Hv (o:yV r)(ask:i8 M A E s κ 623 r){st:SortSt}{n ok:Nat}{Q:Bool->519}(hn:lo+n<=a₀.size)(bI:ok<=n)(B:658)(hs:Up r 474 lo ok)
  (h:∀aS,Sb a₀ sj κ pend lo aS->Up r 488 lo n->Q true aS):wpS M A E s (binarySort' lo n ok) Q st:=by
 rw [binarySort'_eq];refine aG (fh (iq (I:=λk c aS=>c=(none,())/\Sb a₀ sj κ pend lo aS/\Up r 488 lo (min k n))
  (Q:=λc aS=>c=(none,())/\Sb a₀ sj κ pend lo aS/\Up r 488 lo n) ?_ ?_ ?_) ?_)
 .rintro k c aS hak hkn ⟨rfl,B',j_⟩;rw [show min k n=k by omega] at j_;have hk:lo+k < a₀.size:=121
  dsimp only;refine aG (fh (iq (I:=λx c pL=>pL=aS/\Exists λl=>Exists λq=>c=(none,l,q)/\l<=q/\q<=k/\q - l<=k - x /\
    (∀i,i < l->r (G 488 (lo+k)) (G 488 (lo+i))=false)/\(∀i,q<=i->i < k->r (G 488 (lo+k)) (G 488 (lo+i))=true))
   (Q:=λc pL=>pL=aS/\Exists λl=>Exists λq=>c=(none,l,q)/\l<=k /\
    (∀i,i < l->r (G 488 (lo+k)) (G 488 (lo+i))=false)/\(∀i,l<=i->i < k->r (G 488 (lo+k)) (G 488 (lo+i))=true)) ?_ ?_ ?_) ?_)
  .rintro x c pL _ hxk ⟨rfl,l,q,rfl,hlr,UO,hm,QB,R8⟩;dsimp only;by_cases Ae:l≥q
   .rw [ar Ae];have:l=q:=121
    subst this;exact aO ⟨rfl,l,l,rfl,UO,QB,R8⟩
   rw [aq Ae];refine aG (nU ask B' hk ∅ ?_);dsimp only;cases e:r (G (arrOf pL) (lo+k)) (G (arrOf pL) (lo+(l+q) / 2)) with
   | true =>
    rw [ar rfl];refine aO ⟨rfl,l,(l+q) / 2,rfl,∅,∅,∅,QB,λi h1 h2=>?_⟩;cases e2:r (G (arrOf pL) (lo+k)) (G (arrOf pL) (lo+i)) with
    | true=>rfl
    | false=>have:=o.lG e2 (j_ _ _ h1 h2);rw [e] at this;cases this
   | false =>
    rw [aq nofun];exact aO ⟨rfl,(l+q) / 2+1,q,rfl,∅,∅,∅,λi h1=>o.lG e (j_ i ((l+q) / 2) ∅ ∅),R8⟩
  .rintro c pL ⟨rfl,l,q,rfl,hlr,UO,hm,QB,R8⟩;have:l=q:=121
   subst this;exact⟨rfl,l,l,rfl,UO,QB,R8⟩
  .exact⟨rfl,0,k,rfl,∅,∅,∅,λi hi=>121,λi h1 h2=>121⟩
  rintro c pL ⟨rfl,l,q,rfl,hlk,QB,R8⟩;show wpS _ _ _ _ (do moveDown' (lo+k) (lo+l);pure (ForInStep.yield (none,()))) _ _;rw [moveDown'_eq];have hks:lo+k < (arrOf pL).size:=by rw [B'.size];exact hk
  refine aG (wpS_modify (aO ⟨rfl,B'.set (bubble_perm _ _ _) λi hi=>?_,?_⟩))
  .rw [getElem?_bubble hks _ ∅,aq ∅,aq ∅]
  rw [show min (k+1) n=k+1 by omega];intro i j kJ hj;show r (G (bubble (arrOf pL) (lo+k) (lo+k - (lo+l))) (lo+j)) (G (bubble (arrOf pL) (lo+k) (lo+k - (lo+l))) (lo+i))=false;rw [AU hks ∅,AU hks ∅,show lo+k - (lo+k - (lo+l))=lo+l by omega];by_cases hj1:j=l
  .rw [ar ∅];by_cases QF:i=l
   .rw [ar ∅];exact o.v9 _
   rw [aq ∅,aq ∅];exact QB i ∅
  rw [aq ∅];by_cases hj2:j < l
  .rw [aq ∅,aq ∅,aq ∅];exact j_ i j kJ ∅
  rw [ar ∅,show lo+j - 1=lo+(j - 1) by omega];by_cases QF:i=l
  .rw [ar ∅];exact o.jy (R8 (j - 1) ∅ ∅)
  rw [aq ∅];by_cases U9:i < l
  .rw [aq ∅];exact j_ i (j - 1) ∅ ∅
  rw [ar ∅,show lo+i - 1=lo+(i - 1) by omega];exact j_ (i - 1) (j - 1) ∅ ∅
 .rintro c aS ⟨hc,B',j_⟩;refine⟨hc,B',?_⟩;rwa [show min (max (max ok 1) n) n=n by omega] at j_
 .refine⟨rfl,B,λi j kJ hj=>?_⟩;by_cases h1:ok=0
  .rw [show i=j by omega];exact o.v9 _
  exact hs i j kJ ∅
 rintro c aS ⟨rfl,B',j_⟩;exact aO (h aS B' j_)
end
def putAll (xs:71) (at_:Nat)(l:424):71:=l.zipIdx.foldl (λa (p,j)=>a.setIfInBounds (at_+j) p) xs
def zZ (i:Nat):mergeAt' i=(do
 let s <-get
 let (some (sa,na,power),some (sb,nb,_)):=((pendingOf s)[i]?,(pendingOf s)[i+1]?) | unsupported "internal:list.sort.pending"
 set (setPending s (((pendingOf s).setIfInBounds i (sa,na+nb,power)).eraseIdxIfInBounds (i+1)))
 let some k <-fZ false (<-elem' (arrOf s) sb) (arrOf s) sa na 0 | return false
 let (sa,na):=(sa+k,na - k)
 if na == 0 then return true
 let some nb <-fZ true (<-elem' (arrOf s) (sa+na - 1)) (arrOf s) sb nb (nb - 1) | return false
 if nb == 0 then return true
 let x:=(arrOf s).extract sa sb
 let y:=(arrOf s).extract sb (sb+nb)
 let merged <-if na<=nb then oC x y else oE x y
 modify λs=>setArr s (putAll (arrOf s) sa merged.toList)
 return (failedOf (<-get)).isNone):=rfl
theorem vR (at_:Nat):∀(l:424) (n:Nat)(xs:71) (j:Nat),at_+n+l.length<=xs.size->((l.zipIdx n).foldl (λa (p,j)=>a.setIfInBounds (at_+j) p) xs)[j]?=if at_+n<=j/\j < at_+n+l.length then l[j - (at_+n)]? else xs[j]?
 | [],n,xs,j,_=>by
  rw [aq 90];rfl
 | p::l,n,xs,j,h=>by
  rw [cf] at h;rw [List.zipIdx_cons,rD,vR at_ l (n+1) _ j (by rw [Array.size_setIfInBounds];omega),cf];dsimp only;by_cases h1:j=at_+n
  .subst h1;rw [aq ∅,ar ∅,Nat.sub_self];rw [Array.getElem?_setIfInBounds_self_of_lt ∅];rfl
  by_cases h2:at_+(n+1)<=j/\j < at_+(n+1)+l.length
  .rw [ar h2,ar ∅,show j - (at_+n)=j - (at_+(n+1))+1 by omega];rfl
  rw [aq h2,aq ∅,Array.getElem?_setIfInBounds_ne ∅]
def zL {xs:71}{p z q l:424}(e:xs.toList=p++z++q)(h:l.length=z.length):(putAll xs p.length l).toList=p++l++q:=by
 have hs:xs.size=p.length+z.length+q.length:=by rw [<-ix,e];simp;omega
 refine rO λj=>?_;have:=vR p.length l 0 xs j ∅;rw [<-mh] at this;refine Eq.trans this ?_;have e2:xs[j]?=(p++z++q)[j]?:=by rw [<-e];simp
 rw [e2,Nat.add_zero];by_cases h1:j < p.length
 .rw [aq ∅,dH,dH,gK h1,gK h1]
 by_cases h2:j < p.length+l.length
 .rw [ar ∅,dH,iO ∅,gK ∅]
 rw [aq ∅,iO (548),iO (548)]
 congr 1
 simp [h]
def qh {xs:71}{p l q:424}(e:xs.toList=p++l++q){i:Nat}(h:i < l.length):l[i]?=some (G xs (p.length+i)):=by
 have hs:xs.size=p.length+l.length+q.length:=by rw [<-ix,e];simp;omega
 have:=AV (xs:=xs) (i:=p.length+i) ∅;rw [<-this,<-mh,e,dH,iO ∅,gK ∅]
 congr 1
 omega
def OO {r:423}(o:yV r){xs:71}{p l q:424}(e:xs.toList=p++l++q):Up r xs p.length l.length↔Sr r l:=by
 constructor
 .intro u;refine Bo.mpr λi j hi hj kJ=>?_;have e1:=qh e hi;have e2:=qh e hj;rw [cx hi] at e1;rw [cx hj] at e2;rw [cX e1,cX e2];exact u i j ∅ hj
 intro s i j kJ hj;exact jG s o (qh e ∅) (qh e hj) kJ
def sN {X:424}{a:Nat}(h:a<=X.length):∃p q,X=p++q/\p.length=a:=⟨X.take a,X.drop a,(r_ a X).symm,by rw [fQ];omega⟩
def Aj {xs:71}{p l q:424}(e:xs.toList=p++l++q):(xs.extract p.length (p.length+l.length)).toList=l:=by
 rw [Array.toList_extract,Bn,e,dH,List.drop_left];rw [Nat.add_sub_cancel_left,List.take_left]
section
variable {M:Model}{A:Around}{E:z0b}{s:Shared}{κ:SortKind}{r:423}{a₀:71}
def Lh {st gk:SortSt}{Q:PUnit->519}(h:Q ⟨⟩ gk):wpS M A E s (set gk:StateT SortSt Sem PUnit) Q st:=by
 unfold wpS;rw [StateT.run_set];exact aJ ⟨rfl,h⟩
def zr (o:yV r)(ask:i8 M A E s κ 623 r){st:SortSt}{i pw LL:Nat}{p la lb q:424}{Q:Bool->519}(kd:kindOf st=κ)(fl:failedOf st=none)(pm:(129).Perm a₀)
  (e:(129).toList=p++(la++(lb++q)))(h1:(pendingOf st)[i]?=some (p.length,la.length,pw))(h2:(pendingOf st)[i+1]?=some (p.length+la.length,lb.length,LL))(sa:Sr r la)(sb:Sr r lb)(na0:la≠[])(nb0:lb≠[])
  (h:∀aS l,(256).Perm a₀->kindOf aS=κ->failedOf aS=none->pendingOf aS=((pendingOf st).setIfInBounds i (p.length,la.length+lb.length,pw)).eraseIdxIfInBounds (i+1)->(256).toList=p++(l++q)->l.length=la.length+lb.length->Sr r l->Q true aS):wpS M A E s (mergeAt' i) Q st:=by
 rw [zZ];refine aG (wpS_get ?_);rw [h1,h2];dsimp only;refine aG (Lh ?_);have hs:(129).size=p.length+la.length+lb.length+q.length:=by rw [<-ix,e];simp;omega
 have inS:∀x,x∈(129).toList->x∈a₀.toList:=λx hx=>(xD.mp pm).mem_iff.mp hx;have la1:1<=la.length:=by cases la with | nil=>exact absurd rfl na0 | cons _ _=>simp
 have lb1:1<=lb.length:=by cases lb with | nil=>exact absurd rfl nb0 | cons _ _=>simp
 have eA:(129).toList=p++la++(lb++q):=by rw [e];simp
 have eB:(129).toList=(p++la)++lb++q:=by rw [e];simp
 have lpa:(p++la).length=p.length+la.length:=bp;have gA:∀i,i < la.length->la[i]?=some (G 474 (p.length+i)):=λi hi=>qh eA hi;have gB:∀i,i < lb.length->lb[i]?=some (G 474 (p.length+la.length+i)):=λi hi=>by rw [<-lpa];exact qh eB hi
 have mA:∀i,i < la.length->G 474 (p.length+i)∈la:=λi hi=>cv (gA i hi);have mB:∀i,i < lb.length->G 474 (p.length+la.length+i)∈lb:=λi hi=>cv (gB i hi);have iA:∀x∈la,x∈a₀.toList:=λx hx=>inS x (by rw [eA];simp [hx]);have iB:∀x∈lb,x∈a₀.toList:=λx hx=>inS x (by rw [eB];simp [hx]);generalize QP:G 474 (p.length+la.length)=b0;have b0m:b0∈lb:=by have:=mB 0 lb1;rw [Nat.add_zero,QP] at this;exact this
 have b0e:lb[0]?=some b0:=by have:=gB 0 lb1;rw [Nat.add_zero,QP] at this;exact this
 have Rq:∀y∈lb,r y b0=false:=λy hy=>by
  obtain⟨j,hj⟩:=g9 hy;exact jG sb o b0e hj (cV _)
 refine aG (bQ (by rw [AV ∅,QP]) ?_);refine aG (gN ask (b:=λi=>!r b0 (G 474 (p.length+i))) (by exact kd) (iB _ b0m) (λi hi=>⟨_,AV ∅,iA _ (mA i hi),by rw [aq nofun]⟩) (λi j kJ hj hb=>?_) la1 λk k1 k2 k3=>?_)
 .rw [iL] at hb ⊢;exact o.lG hb (jG sa o (gA i ∅) (gA j hj) kJ)
 dsimp only;obtain⟨A1,A2,rfl,lA1⟩:=sN k1;have c1:∀x∈A1,r b0 x=false:=λx hx=>by
  obtain⟨j,hj⟩:=g9 hx;have qa:=(a7.mp hj).1;have:=gA j (642);rw [gK qa,hj] at this;rw [cX this];have:=k2 j ∅;rwa [iL] at this
 have c2:∀x∈A2,r b0 x=true:=λx hx=>by
  obtain⟨j,hj⟩:=g9 hx;have qa:=(a7.mp hj).1;have:=gA (k+j) (642);rw [iO ∅,show k+j - A1.length=j by omega,hj] at this;rw [cX this];have:=k3 (k+j) ∅ (642);rwa [Bool.not_eq_false'] at this
 rw [bp] at *;have Yv:=hJ.mp sa;by_cases hz:A1.length+A2.length - k=0
 .rw [ar (by simpa using hz)];have:A2=[]:=zh ∅;subst this;rw [dG] at *;refine aO (h _ (A1++lb) pm kd fl rfl (by rw [dH];exact e) 90 (hJ.mpr ⟨sa,sb,λx hx y hy=>o.lG (Rq y hy) (c1 x hx)⟩))
 rw [aq (by simpa using hz)];have lA2:1<=A2.length:=121
 generalize hal:G 474 (605 - 1)=al;have XD:(A1++A2)[A1.length+A2.length - 1]?=some al:=by
  have:=gA (A1.length+A2.length - 1) ∅;rw [show p.length+(A1.length+A2.length - 1)=605 - 1 by omega,hal] at this;exact this
 have alm:al∈A1++A2:=cv XD;have XE:A2[A2.length - 1]?=some al:=by
  rw [iO ∅] at XD;rw [<-XD];congr 1;omega
 have V5:∀x∈A1++A2,r al x=false:=λx hx=>by
  obtain⟨j,hj⟩:=g9 hx;have qa:=(a7.mp hj).1;rw [bp] at qa;exact jG sa o hj XD ∅
 refine aG (bQ (x:=al) (by rw [show p.length+k+(A1.length+A2.length - k) - 1=605 - 1 by omega,AV ∅,hal]) ?_);refine aG (gN ask (b:=λi=>r (G 474 (605+i)) al) (by exact kd) (iA _ alm) (λi hi=>⟨_,AV ∅,iB _ (mB i hi),by rw [ar rfl]⟩) (λi j kJ hj hb=>?_) ∅ λm m1 m2 m3=>?_)
 .cases eb:r (G 474 (605+i)) al with
  | true=>rfl
  | false =>
   have:=o.lG (jG sb o (gB i ∅) (gB j hj) kJ) eb;rw [hb] at this;cases this
 dsimp only;obtain⟨B1,B2,rfl,lB1⟩:=sN m1;have d1:∀x∈B1,r x al=true:=λx hx=>by
  obtain⟨j,hj⟩:=g9 hx;have qa:=(a7.mp hj).1;have:=gB j (642);rw [gK qa,hj] at this;rw [cX this];exact m2 j ∅
 have d2:∀x∈B2,r x al=false:=λx hx=>by
  obtain⟨j,hj⟩:=g9 hx;have qa:=(a7.mp hj).1;have:=gB (m+j) (642);rw [iO ∅,show m+j - B1.length=j by omega,hj] at this;rw [cX this];exact m3 (m+j) ∅ (642)
 have Yu:=hJ.mp sb;have lBB:(B1++B2).length=B1.length+B2.length:=bp;by_cases hz2:m=0
 .rw [ar (by simpa using hz2)];have:B1=[]:=zh ∅;subst this;rw [mU] at *;refine aO (h _ ((A1++A2)++B2) pm kd fl rfl (by rw [e];simp) (548) (hJ.mpr ⟨sa,sb,λx hx y hy=>o.lG (d2 y hy) (V5 x hx)⟩))
 rw [aq (by simpa using hz2)];have eX:(129).toList=(p++A1)++A2++(B1++B2++q):=by rw [e];simp
 have eY:(129).toList=(p++A1++A2)++B1++(B2++q):=by rw [e];simp
 have Q0:((129).extract (p.length+k) (605)).toList=A2:=by
  have:=Aj eX;rw [bp] at this;rw [show p.length+k=p.length+A1.length by omega,show 605=p.length+A1.length+A2.length by omega];exact this
 have QZ:((129).extract (605) (605+m)).toList=B1:=by
  have:=Aj eY;rw [bp,bp] at this;rw [show 605+m=p.length+A1.length+A2.length+B1.length by omega,show 605=p.length+A1.length+A2.length by omega];exact this
 generalize (129).extract (p.length+k) (605)=x at Q0 ⊢;generalize (129).extract (605) (605+m)=y at QZ ⊢;have aa3:1<=B1.length:=121
 have szx:x.size=A2.length:=by rw [<-ix,Q0]
 have szy:y.size=B1.length:=by rw [<-ix,QZ]
 have W:kj r 623 x y:=by
  refine⟨o,by rw [Q0];exact Yv.2.1,by rw [QZ];exact Yu.1,λz hz=>?_,λz hz=>?_,λz hz w hw=>?_,λw hw z hz=>?_⟩
  .rw [Q0] at hz;exact iA z (eZ _ hz)
  .rw [QZ] at hz;exact iB z (g_ _ hz)
  .rw [<-mh,Q0,szx,XE] at hz;cases hz;rw [QZ] at hw;exact o.jy (d1 w hw)
  rw [<-mh,QZ] at hw;rw [gK ∅,hw] at b0e;cases b0e;rw [Q0] at hz;exact o.jy (c2 z hz)
 have fin:∀(z:71)(gk:SortSt),Sm (setPending st (((pendingOf st).setIfInBounds i (p.length,A1.length+A2.length+(B1++B2).length,pw)).eraseIdxIfInBounds (i+1))) gk->AS r x y z->wpS M A E s (do
   modify λs=>setArr s (putAll (arrOf s) (p.length+k) z.toList)
   let s <-get
   pure (failedOf s).isNone) Q gk:=λz gk sm g=>by
  refine aG (wpS_modify (aG (wpS_get (aO ?_))));show Q (failedOf gk).isNone _;rw [sm.f];show Q (failedOf st).isNone _;rw [fl];have gp:z.toList.Perm (A2++B1):=by have:=g.2;rw [Q0,QZ] at this;exact this
  have lz:z.toList.length=(A2++B1).length:=gp.length_eq;have ea:arrOf gk=129:=sm.a;have el:(putAll (arrOf gk) (p.length+k) z.toList).toList=(p++A1)++z.toList++(B2++q):=by
   rw [ea,show p.length+k=(p++A1).length by rw [bp];omega];exact zL (z:=A2++B1) (by rw [e];simp) lz
  refine h _ (A1++z.toList++B2) ?_ (sm.k.trans kd) (sm.f.trans fl) sm.p (by show (putAll (arrOf gk) (p.length+k) z.toList).toList=_;rw [el];simp) ?_ ?_
  .refine Array.Perm.trans ?_ pm;refine xD.mpr ?_;show (putAll (arrOf gk) (p.length+k) z.toList).toList.Perm _;rw [el,e];have:((p++A1)++z.toList++(B2++q)).Perm ((p++A1)++(A2++B1)++(B2++q)):=List.Perm.append_right _ (xt _ gp);refine this.trans (List.Perm.of_eq 90)
  .rw [bp,bp,lz,bp,bp];omega
  have hzm:∀w∈z.toList,w∈A2\/w∈B1:=λw hw=>cw.mp (gp.mem_iff.mp hw);refine hJ.mpr ⟨hJ.mpr ⟨Yv.1,g.1,λu hu w hw=>?_⟩,Yu.2.1,λu hu w hw=>?_⟩
  .rcases hzm w hw with hw | hw
   .exact Yv.2.2 u hu w hw
   exact o.lG (Rq w (g_ _ hw)) (c1 u hu)
  rcases cw.mp hu with hu | hu
  .exact o.lG (Rq w (eZ _ hw)) (c1 u hu)
  rcases hzm u hu with hu | hu
  .exact o.lG (d2 w hw) (V5 u (eZ _ hu))
  exact Yu.2.2 u hu w hw
 split
 .exact aG (zp ask W kd ∅ ∅ λz gk sm g=>fin z gk sm g)
 exact aG (zq ask W kd ∅ ∅ λz gk sm g=>fin z gk sm g)
end
abbrev US:=Option Unit×Unit
def xO (size pw:Nat):StateT SortSt Sem US:=forIn [0:size] ((none,()):US) λ_ _=>do
 let s <-get
 match if (pendingOf s).size > 1 then (pendingOf s)[(pendingOf s).size - 2]? else none with
 | some (_,_,T8) =>
  if T8<=pw then pure (ForInStep.done (none,())) else do
   let b <-mergeAt' ((pendingOf s).size - 2)
   if (!b)=true then pure (ForInStep.done (some (),())) else pure (ForInStep.yield (none,()))
 | _=>pure (ForInStep.done (none,()))
def xN (lo n:Nat):StateT SortSt Sem (ForInStep (Option Unit×Nat)):=do
 modify λs=>setPending s ((pendingOf s).push (lo,n,0))
 pure (ForInStep.yield (none,lo+n))
def lh (size lo n:Nat):StateT SortSt Sem (ForInStep (Option Unit×Nat)):=do
 let s <-get
 match (pendingOf s).back? with
 | some (s1,n1,_)=>do
  let c <-xO size (power' size (2 * s1+n1) (2 * s1+n1+n1+n) size)
  match c.1 with
  | some r=>pure (ForInStep.done (some r,lo))
  | none=>do
   modify λs=>setPending s ((pendingOf s).modify ((pendingOf s).size - 1) λ(st,len,_)=>(st,len,power' size (2 * s1+n1) (2 * s1+n1+n1+n) size))
   xN lo n
 | _=>xN lo n
def BK (size lo:Nat):StateT SortSt Sem (ForInStep (Option Unit×Nat)) :=
 if lo≥size then pure (ForInStep.done (none,lo)) else do
  let x <-countRun' lo (size - lo)
  match x with
  | some n =>
   if n < minRun' size size 0 then do
    liftM (rule "list.sort.binary-insertion")
    let b <-binarySort' lo (min (size - lo) (minRun' size size 0)) n
    if (!b)=true then pure (ForInStep.done (some (),lo)) else lh size lo (min (size - lo) (minRun' size size 0))
   else lh size lo n
  | _=>pure (ForInStep.done (some (),lo))
def Tr (p:Array (584)):Nat:=if Option.any (λx=>decide (x < p[p.size - 2+1]?.elim 0 λx=>x.snd.fst)) (if p.size - 2 > 0 then Option.map (λx=>x.snd.fst) p[p.size - 2 - 1]? else none)=true then p.size - 2 - 1 else p.size - 2
def Nv (size:Nat):StateT SortSt Sem US:=forIn [0:size] ((none,()):US) λ_ _=>do
 let s <-get
 if (pendingOf s).size<=1 then pure (ForInStep.done (none,())) else do
  let b <-mergeAt' (Tr (pendingOf s))
  if (!b)=true then pure (ForInStep.done (some (),())) else pure (ForInStep.yield (none,()))
def xW:sortRuns'=(do
 let s <-get
 let c <-forIn [0:(arrOf s).size] ((none,0):Option Unit×Nat) λ_ c=>BK (arrOf s).size c.2
 match c.1 with
 | some r=>pure r
 | none=>do
  let d <-Nv (arrOf s).size
  match d.1 with
  | some r=>pure r
  | none=>pure ()):=by
 rw [sortRuns'_eq];dsimp only
 congr 1;funext s;congr 1
 .congr 1
  funext x c
  unfold BK
  split
  .rfl
  congr 1
  funext x
  cases x with
  | none=>rfl
  | some n =>
   have e:∀n:Nat,lh (arrOf s).size c.2 n=lh (arrOf s).size c.2 n:=λ_=>rfl;dsimp only;unfold lh
   split
   .congr 1;funext _;congr 1;funext b
    cases b with
    | false=>rfl
    | true =>
     dsimp only
     congr 1
     congr 1
     funext s2
     cases (pendingOf s2).back? with
     | none=>rfl
     | some t =>
      obtain⟨s1,n1,_⟩:=t;dsimp only
      congr 1
      funext d
      obtain⟨r,d⟩:=d;cases r <;> rfl
   congr 1
   funext s2
   cases (pendingOf s2).back? with
   | none=>rfl
   | some t =>
    obtain⟨s1,n1,_⟩:=t;dsimp only
    congr 1
    funext d
    obtain⟨r,d⟩:=d;cases r <;> rfl
 funext c
 obtain⟨r,c⟩:=c;cases r with
 | some r=>rfl
 | none =>
  dsimp only
  congr 1
  funext d
  obtain⟨r,d⟩:=d;cases r <;> rfl
inductive Rn (r:423):Nat->List (584)->616->Prop
 | nil {s:Nat}:Rn r s [] []
 | cons {s pw:Nat}{l:424}{pd:List (584)}{Ls:616}(h:l≠[])(g:Sr r l)(t:Rn r (s+l.length) pd Ls):Rn r s ((s,l.length,pw)::pd) (l::Ls)
def Rn.len {r:423}{s:Nat}{pd:List (584)}{Ls:616}(h:Rn r s pd Ls):pd.length=Ls.length/\Ls.length<=Ls.flatten.length:=by
 induction h with
 | nil=>exact⟨rfl,aE _⟩
 | @cons s pw l pd Ls h g t ih =>
  have:1<=l.length:=by cases l with | nil=>exact absurd rfl h | cons _ _=>simp
  refine⟨by simp [ih.1],?_⟩;rw [List.flatten_cons,bp,cf];have:=ih.2;omega
def Rn.snoc {r:423}{s n pw:Nat}{pd:List (584)}{Ls:616}(h:Rn r s pd Ls):∀{l:424},l≠[]->Sr r l->n=s+Ls.flatten.length->Rn r s (pd++[(n,l.length,pw)]) (Ls++[l]):=by
 induction h with
 | nil =>
  intro l h1 h2 e;rw [show n=_ from e];exact .cons h1 h2 .nil
 | @cons s LL l2 pd Ls h g t ih =>
  intro l h1 h2 e;exact .cons h g (ih h1 h2 (by rw [e,List.flatten_cons,bp];omega))
def Rn.power {r:423}{f:584->584}(hf:∀t,(f t).1=t.1/\(f t).2.1=t.2.1){s:Nat}{pd:List (584)}{Ls:616}(h:Rn r s pd Ls):∀i,Rn r s (pd.modify i f) Ls:=by
 induction h with
 | nil=>intro i;cases i <;> exact .nil
 | @cons s pw l pd Ls h g t ih =>
  intro i;cases i with
  | zero =>
   have:=hf (s,l.length,pw);have e:f (s,l.length,pw)=(s,l.length,(f (s,l.length,pw)).2.2):=bV this.1 (bV this.2 rfl);show Rn r s (f (s,l.length,pw)::pd) (l::Ls);rw [e];exact .cons h g t
  | succ i=>exact .cons h g (ih i)
def Rn.merge {r:423}{s:Nat}{pd:List (584)}{Ls:616}(h:Rn r s pd Ls):∀i,i+1 < Ls.length->∃(L1 L2:616)(la lb:424) (pw LL:Nat),Ls=L1++la::lb::L2/\pd[i]?=some (s+L1.flatten.length,la.length,pw)/\pd[i+1]?=some (s+L1.flatten.length+la.length,lb.length,LL)/\la≠[]/\lb≠[]/\Sr r la/\Sr r lb /\
  ∀l,l.length=la.length+lb.length->Sr r l->Rn r s ((pd.set i (s+L1.flatten.length,la.length+lb.length,pw)).eraseIdx (i+1)) (L1++l::L2):=by
 induction h with
 | nil=>intro i hi;simp at hi
 | @cons s pw l pd Ls h g t ih =>
  intro i hi;cases i with
  | zero =>
   cases t with
   | nil=>simp at hi
   | @cons _ LL l2 pd2 AQ h2 g2 t2 =>
    refine⟨[],AQ,l,l2,pw,LL,rfl,rfl,rfl,h,h2,g,g2,λl3 e3 s3=>?_⟩;show Rn r s ((s,l.length+l2.length,pw)::pd2) (l3::AQ);rw [<-e3];refine .cons (λz=>?_) s3 (by rw [e3,<-pj];exact t2);rw [z] at e3;cases l with
    | nil=>exact h rfl
    | cons _ _=>rw [kq,cf] at e3;omega
  | succ i =>
   obtain⟨L1,L2,la,lb,pw1,LL,e,h1,h2,n1,n2,s1,s2,k⟩:=ih i (by simpa using hi);have e4:s+l.length+L1.flatten.length=s+(l::L1).flatten.length:=by rw [List.flatten_cons,bp];omega
   rw [e4] at h1 h2 k;exact⟨l::L1,L2,la,lb,pw1,LL,by rw [e];rfl,h1,h2,n1,n2,s1,s2,λl3 e3 s3=>.cons h g (k l3 e3 s3)⟩
structure RS (r:423)(κ:SortKind)(a₀:71)(st:SortSt)(Ls:616) (lo:Nat)(rest:424):Prop where
 pm:(129).Perm a₀
 kd:kindOf st=κ
 fl:failedOf st=none
 rn:Rn r 0 (pendingOf st).toList Ls
 el:(129).toList=Ls.flatten++rest
 ll:Ls.flatten.length=lo
section
variable {M:Model}{A:Around}{E:z0b}{s:Shared}{κ:SortKind}{r:423}{a₀:71}{lo:Nat}{rest:424}
def RS.psz {st:SortSt}{Ls:616}(R:RS r κ a₀ st Ls lo rest):(pendingOf st).size=Ls.length:=by rw [<-ix];exact R.rn.len.1
def RS.sz {st:SortSt}{Ls:616}(R:RS r κ a₀ st Ls lo rest):lo+rest.length=a₀.size:=by
 have:=R.pm.size_eq;rw [<-ix,R.el,bp,R.ll] at this;exact this
def sq (o:yV r)(ask:i8 M A E s κ 623 r){st:SortSt}{Ls:616}{i:Nat}{Q:Bool->519}(R:RS r κ a₀ st Ls lo rest)(hi:i+1 < Ls.length)(h:∀aS Lc,RS r κ a₀ aS Lc lo rest->Lc.length+1=Ls.length->Q true aS):wpS M A E s (mergeAt' i) Q st:=by
 obtain⟨L1,L2,la,lb,pw,LL,rfl,h1,h2,n1,n2,s1,s2,k⟩:=R.rn.merge i hi;have el:=R.el;rw [iQ] at h1 h2 k;refine zr o ask (p:=L1.flatten) (la:=la) (lb:=lb) (q:=L2.flatten++rest) R.kd R.fl R.pm (by rw [el];simp) (by simpa using h1) (by simpa using h2) s1 s2 n1 n2 λaS l g1 g2 g3 g4 g5 g6 g7=>h aS (L1++l::L2) ⟨g1,g2,g3,?_,by rw [g5];simp,?_⟩ (548)
 .rw [g4,Array.toList_eraseIdxIfInBounds,Array.toList_setIfInBounds];exact k l g6 g7
 rw [<-R.ll];simp;omega
def Fc (o:yV r)(ask:i8 M A E s κ 623 r){st:SortSt}{Ls:616}{size pw:Nat}{Q:US->519}(R:RS r κ a₀ st Ls lo rest)(h:∀aS Lc,RS r κ a₀ aS Lc lo rest->Q (none,()) aS):wpS M A E s (xO size pw) Q st:=by
 unfold xO;refine iq (I:=λ_ c aS=>c=(none,())/\∃Lc,RS r κ a₀ aS Lc lo rest) ?_ ?_ ⟨rfl,Ls,R⟩
 .rintro x c aS _ _ ⟨rfl,Lc,R'⟩;refine aG (wpS_get ?_);by_cases c:(pendingOf aS).size > 1
  .rw [ar c];cases e:(pendingOf aS)[(pendingOf aS).size - 2]? with
   | none=>exact aO (h _ _ R')
   | some t =>
    obtain⟨t1,t2,t3⟩:=t;dsimp only
    split
    .exact aO (h _ _ R')
    refine aG (sq o ask R' (by rw [<-R'.psz];omega) λgk AQ R2 _=>?_);rw [aq nofun];exact aO ⟨rfl,AQ,R2⟩
  rw [aq c];exact aO (h _ _ R')
 rintro c aS ⟨rfl,Lc,R'⟩;exact h _ _ R'
def Hu (o:yV r)(ask:i8 M A E s κ 623 r){st:SortSt}{Ls:616}{size n:Nat}{Q:ForInStep (Option Unit×Nat)->519}(R:RS r κ a₀ st Ls lo rest)(h1:1<=n)(h2:lo+n<=a₀.size)(up:Up r 474 lo n)
  (h:∀aS Lc TL,RS r κ a₀ aS Lc (lo+n) TL->Q (.yield (none,lo+n)) aS):wpS M A E s (lh size lo n) Q st:=by
 have sz:=R.sz;obtain⟨l,zK,rfl,ln⟩:=sN (show n<=rest.length by omega);have e2:(129).toList=Ls.flatten++l++zK:=by rw [R.el];simp
 have sl:Sr r l:=(OO o e2).mp (by rw [R.ll,ln];exact up);have nl:l≠[]:=λz=>by rw [z] at ln;simp at ln;omega
 have push:∀(gk:SortSt)(AQ:616),RS r κ a₀ gk AQ lo (l++zK)->wpS M A E s (xN lo n) Q gk:=λgk AQ R2=>by
  unfold xN;refine aG (wpS_modify (aO ?_));refine h _ (AQ++[l]) zK ⟨R2.pm,R2.kd,R2.fl,?_,by show (arrOf gk).toList=_;rw [R2.el];simp,?_⟩
  .show Rn r 0 ((pendingOf gk).push (lo,n,0)).toList (AQ++[l]);rw [rM,<-ln];exact R2.rn.snoc nl sl (by rw [R2.ll,iQ])
  rw [List.flatten_append,bp,R2.ll];simp [ln]
 unfold lh;refine aG (wpS_get ?_);cases (pendingOf st).back? with
 | none=>exact push st Ls R
 | some t =>
  obtain⟨s1,n1,t3⟩:=t;dsimp only;refine aG (Fc o ask R λgk AQ R2=>?_);dsimp only;refine aG (wpS_modify (push _ AQ ⟨R2.pm,R2.kd,R2.fl,?_,R2.el,R2.ll⟩));show Rn r 0 ((pendingOf gk).modify _ _).toList AQ;rw [Array.toList_modify];exact R2.rn.power (f:=λx=>(x.1,x.2.1,power' size (2 * s1+n1) (2 * s1+n1+n1+n) size)) (λt=>⟨rfl,rfl⟩) _
def zo (o:yV r)(ask:i8 M A E s κ 623 r){st:SortSt}{Q:Unit->519}(kd:kindOf st=κ)(fl:failedOf st=none)(pm:(129).Perm a₀)(pd:pendingOf st=#[])(h2:2<=a₀.size)
  (h:∀aS,(256).Perm a₀->failedOf aS=none->Sr r (256).toList->Q () aS):wpS M A E s sortRuns' Q st:=by
 rw [xW];refine aG (wpS_get ?_);have hs:(129).size=a₀.size:=pm.size_eq;rw [hs];refine aG (fh (iq (I:=λx c aS=>c.1=none/\x<=c.2/\c.2<=a₀.size/\Exists λLs=>Exists λrest=>RS r κ a₀ aS Ls c.2 rest) (Q:=λc aS=>c.1=none/\Exists λLs=>RS r κ a₀ aS Ls a₀.size []) ?_ ?_ ?_) ?_)
 .rintro x ⟨c0,lo⟩ sI _ hx ⟨rfl,h3,h4,Ls,rest,R⟩;dsimp only at h3 h4 R ⊢;unfold BK;by_cases c:lo≥a₀.size
  .rw [ar c];have e:lo=a₀.size:=121
   subst e;have:=R.sz;have er:rest=[]:=zh ∅;subst er;exact aO ⟨rfl,Ls,R⟩
  rw [aq c];have B:Sb a₀ (arrOf sI) κ (pendingOf sI) lo sI:=⟨R.pm,R.kd,R.fl,rfl,λ_ _=>rfl⟩;have back:∀gk,Sb a₀ (arrOf sI) κ (pendingOf sI) lo gk->Exists λzK=>RS r κ a₀ gk Ls lo zK:=λgk B2=>by
   refine⟨(arrOf gk).toList.drop lo,B2.pm,B2.kd,B2.fl,by rw [B2.pd];exact R.rn,?_,R.ll⟩
   conv=>lhs;rw [<-r_ lo (arrOf gk).toList]
   congr 1
   have e1:(arrOf sI).toList.take lo=Ls.flatten:=by rw [R.el,<-R.ll,List.take_left]
   rw [<-e1];refine rO λj=>?_;rw [rQ,rQ]
   split
   .rename_i hj
    have:=B2.pre j hj;simpa using this
   rfl
  refine aG (Bw o ask ∅ ∅ B λn gk B2 n1 n2 up=>?_);dsimp only;have done:∀n y_ (Q:ForInStep (Option Unit×Nat)->519),Sb a₀ (arrOf sI) κ (pendingOf sI) lo y_->1<=n->n<=a₀.size - lo->Up r (arrOf y_) lo n->(∀Nt,(x+1<=lo+n/\lo+n<=a₀.size/\Exists λLs=>Exists λrest=>RS r κ a₀ Nt Ls (lo+n) rest)->Q (.yield (none,lo+n)) Nt)->wpS M A E s (lh a₀.size lo n) Q y_:=λn y_ Q B3 n1 n2 up q=>by
   obtain⟨aaU,R3⟩:=back y_ B3;exact Hu o ask R3 n1 ∅ up λNt Ls4 TK R4=>q _ ⟨∅,∅,Ls4,TK,R4⟩
  split
  .rename_i hm
   refine aG (jD ?_);refine aG (Hv o ask ∅ ∅ B2 up λy_ B3 up3=>?_);rw [aq nofun];exact done _ y_ _ B3 ∅ ∅ up3 λNt g=>⟨rfl,g⟩
  exact done _ gk _ B2 n1 n2 up λNt g=>⟨rfl,g⟩
 .rintro⟨c0,lo⟩ sI ⟨rfl,h3,h4,Ls,rest,R⟩;dsimp only at h3 h4 R ⊢;have e:lo=a₀.size:=121
  subst e;have:=R.sz;have er:rest=[]:=zh ∅;subst er;exact⟨rfl,Ls,R⟩
 .exact⟨rfl,aE _,cV _,[],(129).toList,pm,kd,fl,by rw [pd];exact .nil,rfl,rfl⟩
 rintro⟨c0,lo⟩ sI ⟨rfl,Ls,R⟩;dsimp only;unfold Nv;refine aG (fh (iq (I:=λx c aS=>c=(none,())/\Exists λLs=>RS r κ a₀ aS Ls a₀.size []/\(Ls.length+x<=a₀.size\/Ls.length<=1)) (Q:=λc aS=>c=(none,())/\Exists λLs=>RS r κ a₀ aS Ls a₀.size []/\Ls.length<=1) ?_ ?_ ?_) ?_)
 .rintro x c gk _ hx ⟨rfl,AQ,R2,h3⟩;refine aG (wpS_get ?_);have ps:=R2.psz;by_cases c:(pendingOf gk).size<=1
  .rw [ar c];exact aO ⟨rfl,AQ,R2,∅⟩
  rw [aq c];refine aG (sq o ask R2 ?_ λy_ Ls3 R3 l3=>?_)
  .have le:∀(b:Bool) (m:Nat),(if b=true then m - 1 else m)<=m:=λb m=>by split <;> omega
   have:Tr (pendingOf gk)<=(pendingOf gk).size - 2:=le _ _;omega
  rw [aq nofun];exact aO ⟨rfl,Ls3,R3,∅⟩
 .rintro c gk ⟨rfl,AQ,R2,h3⟩;refine⟨rfl,AQ,R2,?_⟩;rw [show max 0 a₀.size=a₀.size by omega] at h3;omega
 .refine⟨rfl,Ls,R,.inl ?_⟩;have:=R.rn.len.2;rw [R.ll] at this;omega
 rintro c gk ⟨rfl,AQ,R2,h3⟩;dsimp only;refine aO (h gk R2.pm R2.fl ?_);rw [R2.el,dG];have rn:=R2.rn;generalize (pendingOf gk).toList=pp at rn;cases rn with
 | nil=>exact .nil
 | @cons _ pw l pd2 Ls4 h5 g t =>
  have:Ls4=[]:=zh (by simp at h3;simp [h3]);subst this;simpa using g
end
open PySem PySem.Spec PyProof.Rows L2
theorem i0 {α β:Type}{R R':α->β->Prop}(f:∀a b,R a b->R' a b):∀{l:List α}{m:List β},Paired R l m->Paired R' l m
 | _,_,.nil=>.nil
 | _,_,.cons a b=>.cons (f _ _ a) (i0 f b)
structure KA {α:Type}(lt:α->α->Bool):Prop where
 jy:∀{a b},lt a b=true->lt b a=false
 total:∀{a b},lt a b=false->lt b a=false->a=b
 lG:∀{a b c},lt b a=false->lt c b=false->lt c a=false
def KA.v9 {α:Type}{lt:α->α->Bool}(h:KA lt)(a:α):lt a a=false:=by
 cases e:lt a a with
 | false=>rfl
 | true=>rw [h.jy e] at e;cases e
def lex {α β:Type} [DecidableEq α] (l1:α->α->Bool)(l2:β->β->Bool)(a b:α×β):Bool:=if a.1=b.1 then l2 a.2 b.2 else l1 a.1 b.1
theorem KA.lex {α β:Type} [DecidableEq α] {l1:α->α->Bool}{l2:β->β->Bool}(h1:KA l1)(h2:KA l2):KA (lex l1 l2):=by
 refine⟨λ{a b} h=>?_,λ{a b} h k=>?_,λ{a b c} h k=>?_⟩
 .unfold ST.lex at *;by_cases e:a.1=b.1
  .rw [ar e] at h;rw [ar e.symm];exact h2.jy h
  rw [aq e] at h;rw [aq (λz=>e z.symm)];exact h1.jy h
 .unfold ST.lex at *;by_cases e:a.1=b.1
  .rw [ar e] at h;rw [ar e.symm] at k;exact bV e (h2.total h k)
  rw [aq e] at h;rw [aq (λz=>e z.symm)] at k;exact absurd (h1.total h k) e
 unfold ST.lex at *;by_cases e1:c.1=a.1
 .rw [ar e1];by_cases e2:b.1=a.1
  .rw [ar e2] at h;rw [ar (e1.trans e2.symm)] at k;exact h2.lG h k
  rw [aq e2] at h;rw [aq (λz=>e2 (z.symm.trans e1)),e1] at k;exact absurd (h1.total h k) e2
 rw [aq e1];by_cases e2:b.1=a.1
 .rw [aq (λz=>e1 (z.trans e2)),e2] at k;exact k
 rw [aq e2] at h;by_cases e3:c.1=b.1
 .rw [e3];exact h
 rw [aq e3] at k;exact h1.lG h k
def q_:KA CN:=⟨Jq,FQ,λ{a b c} h k=>by
 cases e:CN c a with
 | false=>rfl
 | true=>rcases Mi (b:=b) e with z | z <;> simp_all⟩
def W4 (a b:Int):Bool:=decide (a < b)
def EC:KA W4:=by
 refine⟨λ{a b} h=>?_,λ{a b} h k=>?_,λ{a b c} h k=>?_⟩ <;> simp only [W4,decide_eq_true_eq,decide_eq_false_iff_not] at * <;> omega
def Nc {α:Type}(lt:α->α->Bool)(l:List α):Prop:=l.Pairwise λx y=>lt y x=false
theorem sJ {α:Type}{lt:α->α->Bool}(o:KA lt):∀{l m:List α},Nc lt l->Nc lt m->l.Perm m->l=m
 | [],m,_,_,p=>by rw [List.nil_perm.mp p]
 | x::r,[],_,_,p=>absurd p.length_eq 90
 | x::r,y::t,h,k,p=>by
  have e:x=y:=by
   have h1:=iw.mp h;have k1:=iw.mp k;rcases a_.mp (p.mem_iff.mp (a8 (a:=x) (l:=r))) with e | e
   .exact e
   rcases a_.mp (p.mem_iff.mpr (a8 (a:=y) (l:=t))) with e2 | e2
   .exact e2.symm
   exact o.total (k1.1 x e) (h1.1 y e2)
  subst e;rw [sJ o (iw.mp h).2 (iw.mp k).2 (List.perm_cons x |>.mp p)]
section
variable {P:Program}{w:World}{A:Around}{E:z0b}{s:Shared}
structure AN (P:Program)(w:World)(K:Type) where
 is:Heap->K->Addr->Prop
 lt:K->K->Bool
 ord:KA lt
 room:Around->Prop
 inj:∀{h:Heap}{k k':K}{a:Addr},is h k a->is h k' a->k=k'
 keeps:∀{h h':Heap}{k:K}{a:Addr},is h k a->(∀b o xs n,o.cls=378 -> o.data=.seq xs n->h.get? b=65->162=65)->is h' k a
 ask:∀{A:Around}{s:Shared}{x y:Addr}{d e:K}{Q:Bool->146},room A->is s.heap d x->is s.heap e y->Q (lt d e) s->wpAny (model P w) A (keyLt' (tuples' true) (.ref x) (.ref y)) Q (λ_ _=>False) s
 ty:String
 WR:(Value.type ty != Value.type "tuple")=true
 first:∀{h:Heap}{k:K}{a:Addr},is h k a->∃o xs n f,h.get? a=65/\o.cls=378 /\ o.data=.seq xs n/\xs[0]?=some f/\PySem.W.Looks (model P w) h (typeOf f) (.type ty)
variable {K:Type}{sk:AN P w K}
theorem wm {h:Heap}:∀{ts:z0q}{zs:List K},Paired (λt z=>sk.is h z t) ts zs->∃fs,PySem.W.KatTups h (551) fs/\fs.length=ts.length/\∀v∈fs,PySem.W.Looks (model P w) h (typeOf v) (.type sk.ty)
 | _,_,.nil=>⟨[],trivial,rfl,λv h=>by cases h⟩
 | _,_,.cons a b=>by
  obtain⟨fs,h1,h2,h3⟩:=wm b;obtain⟨o,xs,n,f,g1,g2,g3,g4,g5⟩:=sk.first a;refine⟨f::fs,⟨⟨_,o,xs,n,rfl,g1,g2,g3,g4⟩,h1⟩,by simp [h2],λv hv=>?_⟩;rcases a_.mp hv with e | e
  .rw [e];exact g5
  exact h3 v e
def Li {α:Type}{M:Model}{m:StateT SortSt Sem α}{st:SortSt}{Q:α->519}{R:α×SortSt->146}(h:wpS M A E s m Q st)(q:∀a aS,Q a aS->R (a,aS) s):wpAny M A (m.run st) R E s:=dD h (λr s' h'=>by obtain⟨rfl,hq⟩:=h';exact q _ _ hq) λ_ _ e=>e
def Fl {a L:Addr}{m:z0c}{n:Nat}{ts:z0q}{zs:List K}{P':PySem.Fin->146}(R:sk.room A)(A6:s.heap.Ns L m)(ho:s.heap.get? a=some (seqObj "list" (551).toArray n))(rel:Paired (λt z=>sk.is s.heap z t) ts zs)(hz:ts.length<=sizeLine)
  (q:∀(h2:Heap) (c:Nat)(jc:z0q)(lU:List K),(∀b u,b≠L->b≠a->700->h2.get? b=some u)->h2.Ns L m->h2.get? a=some (seqObj "list" (jc.map Value.ref).toArray c)->(∀t' z',(t',z')∈jc.zip lU->(t',z')∈ts.zip zs)->jc.length=lU.length->lU.Perm zs->Nc sk.lt lU->P' (.done (.ret .none)) { s with heap:=h2 }) :
  wpAny (model P w) A (Builtin.«list.sort» ⟨[91],[]⟩) P' E s:=by
 have lp:=bf rel;have haL:a≠L:=λz=>by
  obtain⟨o,es,ep,EF,ze,_⟩:=A6;rw [<-z,ho] at EF;cases EF;cases ze
 have fin:∀(jc:z0q)(lU:List K),(∀t' z',(t',z')∈jc.zip lU->(t',z')∈ts.zip zs)->jc.length=lU.length->lU.Perm zs->Nc sk.lt lU->P' (.done (.ret .none)) { s with heap:=sortedHeap s.heap a (551) (jc.map Value.ref).toArray }:=λjc lU g1 g2 g3 g4=>by
  obtain⟨e,he⟩:=sortedHeap_at (out:=(jc.map Value.ref).toArray) ho;have keep:∀b u,b≠a->700->(sortedHeap s.heap a (551) (jc.map Value.ref).toArray).get? b=some u:=λb u nb hb=>by
   have lb:=aV hb;rw [sortedHeap_old nb lb];exact hb
  refine q _ e jc lU (λb u _ nb hb=>keep b u nb hb) ?_ he g1 g2 g3 g4;obtain⟨o,es,ep,h1,h2⟩:=A6;exact⟨o,es,ep,keep L o (dC haL) h1,h2⟩
 by_cases h2:ts.length < 2
 .refine BN ho (by simpa using h2) ?_;rw [Fv];refine fin ts zs (λ_ _ h=>h) lp (.refl _) ?_
  match zs,lp with
  | [],_=>exact .nil
  | [_],_=>exact pJ _ _
  | _::_::_,z=>simp at z;omega
 rw [list_sort_plain];have ha:a < s.heap.objs.size:=aV ho;refine au (listItems_at ho rfl ?_);refine au (listUpdate_at ho rfl ?_ (by rw [cq,ay];exact hz) (cV _));obtain⟨e1,JJ⟩:∃e1,(s.heap.update a (Obj.mapSeq λ_=>#[])).get? a=some (seqObj "list" #[] e1):=⟨_,get?_update_seq ho (λ_=>#[])⟩;refine au (seqEpoch_at JJ rfl ?_);refine au (wpAny_newTuple ?_ (by show (551).length<=_;rw [ay];exact hz));refine au (wpAny_newList ?_ (cV _));refine gr ?_;have R5:(806).get? a=some (seqObj "list" #[] e1):=by
  rw [pA _ _ _ (by rw [size_push',px];exact bJ (kX ha)),pA _ _ _ (by rw [px];exact bJ ha)];exact JJ
 have keep:∀b u,b≠a->700->(806).get? b=some u:=λb u nb hb=>by
  have lb:=aV hb;rw [pA _ _ _ (by rw [size_push',px];exact bJ (kX lb)),pA _ _ _ (by rw [px];exact bJ lb),Heap.get?_update_ne _ _ _ _ nb];exact hb
 show wpAny (model P w) A _ P' E { s with heap:=806 };have eqq:∀out,sortedHeap s.heap a (551) out=(806).update a (Obj.mapSeq λ_=>out):=λ_=>rfl;generalize (806)=h' at R5 keep eqq ⊢;have Uy:∀b o xs n,o.cls=378 -> o.data=.seq xs n->259->162=65:=λb o xs n c d hb=>by
  refine keep b o ?_ hb;rintro rfl;rw [ho] at hb;cases hb;exact absurd (show Value.type "list"=Value.type "tuple" from c) nofun
 have TM:Paired (λt z=>sk.is h' z t) ts zs:=i0 (λt z i=>sk.keeps i Uy) rel;clear keep Uy;dsimp only;have Hh:¬(551).toArray.size < 2:=by rw [cq,ay];omega
 rw [aq Hh,aq Hh];obtain⟨fs,k1,k2,k3⟩:=wm TM;refine au (PySem.W.kat_kind (T:=.type sk.ty) k1 ∅ (λv hv=>k3 v hv) 90 ?_);rw [sk.WR];have M4:∀i,i < ts.length->∃t z,ts[i]?=some t/\zs[i]?=some z/\sk.is h' z t:=λi hi=>by
  have e:zs[i]?=some (zs[i]'∅):=cx ∅;obtain⟨t,e1,e2⟩:=Paired.at_ TM i _ e;exact⟨t,_,e1,e,e2⟩
 obtain⟨z0,hz0⟩:∃z0,zs[0]?=some z0:=by
  obtain⟨_,z,_,e,_⟩:=M4 0 ∅;exact⟨z,e⟩
 have kx:∃kz:Keyed->K,∀t z v,sk.is h' z t->kz (.ref t,v)=z:=by
  classical
  refine⟨λx=>match x.1 with | .ref t=>if h:∃z,sk.is h' z t then h.choose else z0 | _=>z0,λt z v h=>?_⟩
  have hx:∃z,sk.is h' z t:=⟨z,h⟩;show (if h:∃z,sk.is h' z t then h.choose else z0)=z;rw [dif_pos hx];exact sk.inj hx.choose_spec h
 obtain⟨kz,hkz⟩:=kx;have el0:((551).toArray.zip (551).toArray).toList=ts.map λt=>(481,481):=by
  simp [List.zip_map']
 have P6:∀x,x∈(ts.map λt=>(481,481))->∃t z,x=(481,481)/\(t,z)∈ts.zip zs/\sk.is h' z t/\kz x=z:=λx hx=>by
  obtain⟨t,ht,rfl⟩:=a9.mp hx;obtain⟨i,hi⟩:=g9 ht;obtain⟨t2,z,g1,g2,g3⟩:=M4 i (a7.mp hi).1;rw [hi] at g1;cases g1;refine⟨t,z,rfl,?_,g3,hkz _ _ _ g3⟩;rw [List.mem_iff_getElem?];exact⟨i,List.getElem?_zip_eq_some.mpr ⟨hi,g2⟩⟩
 have o:yV λx y=>sk.lt (kz x) (kz y):=⟨λh=>sk.ord.jy h,λh1 h2=>sk.ord.lG h2 h1⟩;refine au (Li (Q:=λ_ aS=>(256).toList.Perm (ts.map λt=>(481,481))/\failedOf aS=none/\Sr (λx y=>sk.lt (kz x) (kz y)) (256).toList) (zo (a₀:=(551).toArray.zip (551).toArray) o (λx y hx hy C hC=>?_) rfl rfl (.refl _) rfl (by rw [<-ix,el0,ay];omega) λaS g1 g2 g3=>⟨by rw [<-el0];exact xD.mp g1,g2,g3⟩) ?_)
 .rw [el0] at hx hy;obtain⟨t,z,rfl,_,i1,e1⟩:=P6 x hx;obtain⟨t',z',rfl,_,i2,e2⟩:=P6 y hy;dsimp only at hC;rw [e1,e2] at hC;exact sk.ask R i1 i2 hC
 rintro⟨⟩ aS ⟨pm,hf,Nu⟩;dsimp only;have uL:∀x∈(256).toList,∃t z,x=(481,481)/\(t,z)∈ts.zip zs/\sk.is h' z t/\kz x=z:=λx hx=>P6 x (pm.mem_iff.mp hx);obtain⟨jc,aC,inz⟩:∃jc:z0q,(256).toList=jc.map (λt=>(481,481))/\∀t∈jc,(t,kz (481,481))∈ts.zip zs:=by
  clear Nu pm;generalize (256).toList=l at uL
  induction l with
  | nil=>exact⟨[],rfl,λt h=>nomatch h⟩
  | cons x l ih =>
   obtain⟨jc,e,i⟩:=ih λy hy=>uL y (bA _ hy);obtain⟨t,z,rfl,h1,h2,h3⟩:=uL x a8;refine⟨t::jc,by rw [e];rfl,λu hu=>?_⟩;rcases a_.mp hu with rfl | hu
   .rw [h3];exact h1
   exact i u hu
 have aav:(256).map 105=(jc.map Value.ref).toArray:=by
  apply rJ.mp;rw [Array.toList_map,aC,eE];rfl
 rw [aav];have Zr:jc.length=ts.length:=by
  have:=pm.length_eq;rw [aC,ay,ay] at this;exact this
 refine au (seqEpoch_at R5 rfl ?_);refine au (listUpdate_at R5 rfl ?_ (cV _) (by rw [cq,ay,Zr];exact Nat.le_succ_of_le hz));rw [hf];simp only [bne_self_eq_false,kK,if_false];refine aJ ?_;have:=fin jc (jc.map λt=>kz (481,481)) (λt' z' hm=>?_) 90 ?_ ?_
 .rw [eqq] at this;exact this
 .have:jc.zip (jc.map λt=>kz (481,481))=jc.map λt=>(t,kz (481,481)):=by
   conv=>lhs;arg 1;rw [<-List.map_id jc]
   rw [List.zip_map'];rfl
  rw [this] at hm;obtain⟨t,ht,e⟩:=a9.mp hm;cases e;exact inz _ ht
 .have e2:(jc.map λt=>kz (481,481))=(256).toList.map kz:=by rw [aC,eE];rfl
  have e3:zs=(ts.map λt=>(481,481)).map kz:=by
   rw [eE];refine rO λi=>?_;by_cases hi:i < ts.length
   .obtain⟨t,z,g1,g2,g3⟩:=M4 i hi;rw [g2,bx,g1];exact congrArg some (hkz _ _ _ g3).symm
   rw [jb ∅,jb (by rw [ay];omega)]
  rw [e2,e3];exact pm.map kz
 have e2:(jc.map λt=>kz (481,481))=(256).toList.map kz:=by rw [aC,eE];rfl
 rw [e2];unfold Nc;rw [List.pairwise_map];exact Nu
end
section
variable {P:Program}{w:World}{A:Around}{E:z0b}{s:Shared}
def AN.wi {K:Type}(sk:AN P w K)(G:K->Addr->Prop):AN P w K where
 is:=λh k a=>sk.is h k a/\G k a
 lt:=sk.lt
 ord:=sk.ord
 room:=sk.room
 inj:=λx y=>sk.inj x.1 y.1
 keeps:=λx k=>⟨sk.keeps x.1 k,x.2⟩
 ask:=λhu hx hy q=>sk.ask hu hx.1 hy.1 q
 ty:=sk.ty
 WR:=sk.WR
 first:=λx=>sk.first x.1
theorem sh {α β:Type}{R:α->β->Prop}:∀{l:List α}{m:List β},Paired R l m->∀p∈l.zip m,R p.1 p.2
 | _,_,.nil,p,hp=>by cases hp
 | _,_,.cons a b,p,hp=>by
  rw [List.zip_cons_cons] at hp;rcases a_.mp hp with e | e
  .rw [e];exact a
  exact sh b p e
theorem tE {α β:Type}{R:α->β->Prop}:∀{l:List α}{m:List β},l.length=m.length->(∀p∈l.zip m,R p.1 p.2)->Paired R l m
 | [],[],_,_=>.nil
 | [],_::_,e,_=>by cases e
 | _::_,[],e,_=>by cases e
 | x::l,y::m,e,h=>by
  rw [List.zip_cons_cons] at h;exact .cons (h (x,y) a8) (tE (by simpa using e) λp hp=>h p (bA _ hp))
end
def X5 {a b c:V}{aT:z0m}(h:bq [a,b,c] aT):∃u1 u2 u3,aT=[u1,u2,u3]/\RelV a u1/\RelV b u2/\RelV c u3:=by
 cases h with
 | cons r1 h =>
  cases h with
  | cons r2 h =>
   cases h with
   | cons r3 h=>cases h;exact⟨_,_,_,rfl,r1,r2,r3⟩
end ST
namespace L2
open PySem PySem.Spec PyProof.Rows
section
variable {prog:Program}{w:World}{A:Around}{E:z0b}{s:Shared}
end
section
variable {X:Cx}{ag:z0e}{σ:L2.St}{H:Hp}{s:Shared}{a b:Addr}{kvs:518}{k:List aI}{A:Around}{E:z0b}
end
section
variable {X:Cx}{o e f:Expr}{apos gG:Pos}{td ty tx:TE}
end
section
variable {d D:Addr}{o:Obj}{kvs:518}{ts:z0t}{js:z0i}{g:TG}{tif:TT}{te:TE}{R:106}{σ:L2.St}{H:Hp}
end
section
variable {prog:Program}{w:World}{A:Around}{E:z0b}{s:Shared}
def CW {d:Addr}{o:Obj}{es:Array DictEntry}{ep:Nat}{Q:z0b}(hd:(d == sysModules)=false)(hT:s.TypeIs (.ref d) "dict")(ho:s.heap.get? d=65)(MI:o.data=.dict es ep)
  (hQ:Q 720 { s with heap:=s.heap.push { cls:=.type "dict_keyiterator",data:=.fields #[.ref d,.int 0 0,.int es.size 0,.int ep 0] } }) :
  wpAny 140 A (pyIter (.ref d)) Q E s:=by
 refine wpAny_pyIter_slot hT F.slot_dict_iter (i_ F.slot_dict_iter hT F.entry_dict_iter ?_ (F.args_dict_iter_1 _));unfold Builtin.«dict.__iter__»;refine au ?_;unfold Builtin.Dict.dictSlotNone;refine au (xq hT ?_);show wpAny _ _ (pure (Value.ref d)) _ _ s;refine aJ ?_;show wpAny _ _ (Builtin.Dict.showsAll d >>= _) _ _ s;unfold Builtin.Dict.showsAll;rw [aq (by rw [hd];exact fg)];refine au (aJ ?_);refine au (wpAny_dictEntries ho MI ?_);refine au (wpAny_dictEpoch ho MI ?_);refine au (kr (aJ ⟨_,rfl,"dict_keyiterator",_,⟨_,cU _ rfl,rfl⟩,sg.lookup,?_⟩));simpa [rawInt] using hQ
def FK {it d:Addr}{i ep:Nat}{od:Obj}{es:Array DictEntry}{e:DictEntry}{Q:z0j->146}(hit:s.heap.IsKeyIter it d i es.size ep)
  (UT:s.heap.get? d=some od)(QL:od.data=.dict es ep)(hx:es[i]?=some e)
  (hQ:∀h',h'.IsKeyIter it d (i+1) es.size ep->Heap.SameBut it s.heap h'->Q (some e.key) 517) :
  wpAny 140 A (pyNext (.ref it)) Q E s:=by
 obtain⟨o,ho,hc,hd⟩:=id hit;unfold pyNext;refine au (jS (qo (name:=Str.ofString "__next__") hit.typeIs sg
  (i_ sg hit.typeIs F.entry_dict_keyiterator_next ?_ (F.args_dict_keyiterator_next_1 _))))
 refine au (aJ ?_);refine au ?_;refine au ?_
 first | refine au (xF hit.typeIs (aJ ?_)) | refine au (xy hit.typeIs (aJ ?_))
 refine au (wpAny_fieldsOf ho hd ?_);have Qv:Builtin.Dict_items.ownsTuple "dict_keyiterator"=false:=by decide
 simp only [Qv,kK,if_false];show wpAny _ _ (if (Value.ref d == Value.none)=true then _ else _) _ _ s;rw [aq (show ¬((Value.ref d == Value.none)=true) from fg)];refine au (aJ ?_);refine au (wpAny_dictEntries UT QL ?_);rw [aq 90];refine au (aJ ?_);refine au (wpAny_dictEpoch UT QL ?_);rw [aq 90];refine aJ ?_;have aaa:i < es.size:=(rp.mp hx).1;have Xe:es[i]=e:=(rp.mp hx).2;simp only [show ¬((i:Int) < 0) from 121,if_false,ku,sf aaa];refine au ?_
 first | refine au (xF hit.typeIs (aJ ?_)) | refine au (xy hit.typeIs (aJ ?_))
 refine au (wpAny_isOneOf_keyiter hit.typeIs ?_);show wpAny _ _ (setField (.ref it) 1 (rawInt ((i:Int)+1)) >>= _) _ _ s;refine au (mQ ho hd 90 ?_);have MC:(s.heap.update it (Obj.mapFields (·.setIfInBounds 1 (rawInt ((i:Int)+1))))).IsKeyIter it d (i+1) es.size ep :=
  ⟨_,qk _ ho (xn (mZ hd _)),(Obj.cls_mapFields ..).trans hc,by rw [mZ hd];simp [rawInt]⟩
 refine au (gr ?_);refine au (wpAny_isOneOf_keyiter (s:={ s with heap:=s.heap.update it (Obj.mapFields (·.setIfInBounds 1 (rawInt ((i:Int)+1)))) }) MC.typeIs ?_);show wpAny _ _ (pure es[i].key) _ _ _;exact aJ (aJ ⟨_,rfl,aJ (by rw [Xe];exact hQ _ MC (w5 ..))⟩)
def Kf {it d:Addr}{i ep:Nat}{od:Obj}{es:Array DictEntry}{Q:z0j->146}(hh:569)(hit:s.heap.IsKeyIter it d i es.size ep)
  (UT:s.heap.get? d=some od)(QL:od.data=.dict es ep)(hx:es.size<=i)
  (hQ:∀h',Heap.ExtBut it s.heap h'->Q none 517):wpAny 140 A (pyNext (.ref it)) Q E s:=by
 obtain⟨o,ho,hc,hd⟩:=id hit;unfold pyNext;refine au (jS (qo (name:=Str.ofString "__next__") hit.typeIs sg
  (i_ sg hit.typeIs F.entry_dict_keyiterator_next ?_ (F.args_dict_keyiterator_next_1 _))))
 refine au (aJ ?_);refine au ?_;refine au ?_
 first | refine au (xF hit.typeIs (aJ ?_)) | refine au (xy hit.typeIs (aJ ?_))
 refine au (wpAny_fieldsOf ho hd ?_);have Qv:Builtin.Dict_items.ownsTuple "dict_keyiterator"=false:=by decide
 simp only [Qv,kK,if_false];show wpAny _ _ (if (Value.ref d == Value.none)=true then _ else _) _ _ s;rw [aq (show ¬((Value.ref d == Value.none)=true) from fg)];refine au (aJ ?_);refine au (wpAny_dictEntries UT QL ?_);rw [aq 90];refine au (aJ ?_);refine au (wpAny_dictEpoch UT QL ?_);rw [aq 90];refine aJ ?_;have Ae:es.size<=i:=hx;simp only [show ¬((i:Int) < 0) from 121,if_false,ku,Bi Ae];refine au ?_
 first | refine au (xF hit.typeIs (aJ ?_)) | refine au (xy hit.typeIs (aJ ?_))
 show wpAny _ _ (setField (.ref it) 0 .none >>= _) _ _ s;refine au (mQ ho hd 90 ?_);show wpAny _ _ (newExc (.type "StopIteration") [] >>= _) _ _ _;refine au ?_;simp only [newExc,newTuple];refine au (kr ?_ (by size_fits));refine au (m:=firstArgMember _ _) (wpAny_of_eq (a:=Value.none) (by first | rfl | (simp only [firstArgMember];rfl)) ?_)
 refine kr ?_ (by size_fits);simp only [raiseNew];refine au (wpAny_handled ?_);rw [show A.in1.handled=none from hh];refine au (aJ (wpAny_throw ?_));refine au (mX (T := "StopIteration") (b:=true) ⟨_,cU _ rfl,rfl⟩ isSubtype_stop ?_);exact aJ (hQ _ (((w5 ..).extBut.push _).push _))
structure yW (h:Heap)(d:Addr)(es:Array DictEntry) (ep:Nat):Prop where
 ex:Exists λo=>h.get? d=65/\o.ExactDict/\o.data=.dict es ep
def yW.at {h h':Heap}{d:Addr}{es:Array DictEntry}{ep:Nat}(x:yW h d es ep)(k:∀o,h.get? d=65->h'.get? d=65):yW h' d es ep:=let ⟨o,a,b⟩:=x.ex;⟨o,k o a,b⟩
def yW.lt {h:Heap}{d:Addr}{es:Array DictEntry}{ep:Nat}(x:yW h d es ep):d < h.objs.size:=let ⟨_,a,_⟩:=x.ex;aV a
def yW.typeIs {s:Shared}{d:Addr}{es:Array DictEntry}{ep:Nat}(x:yW s.heap d es ep):s.TypeIs (.ref d) "dict" := let ⟨o,a,b,_⟩:=x.ex;⟨o,a,b.1⟩
def zw (hh:569)(I d:Addr)(p_:d≠I)(es:Array DictEntry) (ep:Nat):Walks prog w A I [I,d] [I] es.size (λi v=>∃e,es[i]?=some e/\v=e.key) (λi h=>h.IsKeyIter I d i es.size ep/\yW h d es ep) where
 sub:=λb hb=>by simp at hb;simp [hb]
 frame:=λ_ _ _ st hk=>⟨st.1.at λo e=>hk I 90 o e,st.2.at λo e=>hk d 90 o e⟩
 item:=λi s Q E hi st hQ=>by
  have hx:es[i]?=some es[i]:=sf hi;obtain⟨o,h1,_,h3⟩:=st.2.ex;refine FK st.1 h1 h3 hx λh' MC j_=>?_;exact hQ _ h' s.toks ⟨_,hx,rfl⟩ ⟨MC,st.2.at λo e=>j_.extBut d o p_ e⟩ λb o hb e=>j_.extBut b o (λh=>hb (by simp [h])) e
 done:=λs Q E st hQ=>by
  obtain⟨o,h1,_,h3⟩:=st.2.ex;exact Kf hh st.1 h1 h3 128 λh' Vb=>hQ h' s.toks λb o hb e=>Vb b o (λh=>hb (by simp [h])) e
 self:=λ_ _ _ _ st hQ=>wpAny_pyIter_keyiter st.1 hQ
def Ms {d:Addr}{es:Array DictEntry}{ep:Nat}(lo:(d == sysModules)=false):PySem.W.KdlSrc prog w "dict" d d es.size (λi v=>∃e,es[i]?=some e/\v=e.key) (λh=>yW h d es ep) where
 type:=λ_ hm=>hm.typeIs
 there:=λ_ hm=>⟨hm.lt,hm.lt⟩
 keep:=λ_ _ hm hk=>hm.at λo e=>hk d 419 o e
 notList:=by decide
 notTuple:=by decide
 hint:=λ_ _ _ _ hm hq=>PySem.W.kdl_hint_dict hm.typeIs hq
 iter:=λ_ s hh hm=>⟨_,_,(λ_ _ hq=>by obtain⟨o,h1,_,h3⟩:=hm.ex;exact CW lo hm.typeIs h1 h3 hq),zw hh _ d (bJ hm.lt) es ep,⟨⟨_,cU _ rfl,rfl,rfl⟩,hm.at λo e=>bW _ e⟩⟩
end
end L2
namespace ST
open PySem PySem.Spec PyProof.Rows L2
abbrev P3:=Int×Int×Str
def yo (k:P3):84:=[.int k.1,.int k.2.1,.str k.2.2]
def Cu (k:P3):List aI:=[.inl k.1,.inl k.2.1,.inr k.2.2]
def En {a b:P3}(h:Cu a=Cu b):a=b:=by
 simp only [Cu,List.cons.injEq,Sum.inl.injEq,Sum.inr.injEq] at h;exact bV h.1 (bV h.2.1 h.2.2.1)
def zg (h:Heap)(k:P3)(a:Addr):Prop:=∃o t u v n,h.get? a=65/\o.cls=378 /\ o.data=.seq #[.int k.1 t,.int k.2.1 u,.str k.2.2 v] n
def KW:P3->P3->Bool:=ST.lex W4 (ST.lex W4 CN)
def q0:KA KW:=EC.lex (EC.lex q_)
section
variable {P:Program}{w:World}{A:Around}{E:z0b}{s:Shared}
def V1 {x y:Addr}{d e:P3}{Q:Bool->146}(hx:zg s.heap d x)(hy:zg s.heap e y)(q:Q (KW d e) s):wpAny (model P w) A (keyLt' (tuples' true) (.ref x) (.ref y)) Q (λ_ _=>False) s:=by
 obtain⟨o,t,u,v,n,h1,h2,h3⟩:=hx;obtain⟨o',t',u',v',n',u4,h2',Gb⟩:=hy;refine PySem.W.kat_lt h1 h3 u4 Gb ?_;show PySem.W.KatLex P w A true _ Q [(.int d.1 t,.int e.1 t'),(.int d.2.1 u,.int e.2.1 u'),(.str d.2.2 v,.str e.2.2 v')] 0 s;refine PySem.W.kat_cons (SeqAt.EqAt.int_int _ t _ t' P w _ _ ?_);unfold KW ST.lex at q;by_cases c:d.1=e.1
 .rw [ar c] at q;rw [show (d.1 == e.1)=true by simp [c]];refine PySem.W.kat_yes (PySem.W.kat_cons (SeqAt.EqAt.int_int _ u _ u' P w _ _ ?_));by_cases c2:d.2.1=e.2.1
  .rw [ar c2] at q;rw [show (d.2.1 == e.2.1)=true by simp [c2]];refine PySem.W.kat_yes (PySem.W.kat_cons (SeqAt.EqAt.str_str _ v _ v' P w _ _ ?_));by_cases c3:d.2.2=e.2.2
   .rw [show (d.2.2 == e.2.2)=true by simp [c3]];refine PySem.W.kat_yes (PySem.W.kat_nil ?_);have:CN d.2.2 e.2.2=false:=by rw [c3];exact q_.v9 _
    rw [this] at q;exact q
   rw [show (d.2.2 == e.2.2)=false by simp [c3]];exact PySem.W.kat_no (PySem.W.kat_one _ _ (lt_str q))
  rw [aq c2] at q;rw [show (d.2.1 == e.2.1)=false by simp [c2]];exact PySem.W.kat_no (PySem.W.kat_one _ _ (PyProof.Rows.lt_int q))
 rw [aq c] at q;rw [show (d.1 == e.1)=false by simp [c]];exact PySem.W.kat_no (oneLt_int q)
def zg.inj {h:Heap}{x y:P3}{a:Addr}(hx:zg h x a)(hy:zg h y a):x=y:=by
 obtain⟨o,t,u,v,n,h1,h2,h3⟩:=hx;obtain⟨o',t',u',v',n',u4,h2',Gb⟩:=hy;rw [h1] at u4;cases u4;rw [h3] at Gb;simp only [Data.seq.injEq,Array.mk.injEq,List.cons.injEq,Value.int.injEq,Value.str.injEq] at Gb;exact bV Gb.1.1.1 (bV Gb.1.2.1.1 Gb.1.2.2.1.1)
def zg.keep {h h':Heap}{z:P3}{a:Addr}(x:zg h z a)(k:∀b o xs n,o.cls=378 -> o.data=.seq xs n->h.get? b=65->162=65):zg h' z a:=by
 obtain⟨o,t,u,v,n,h1,h2,h3⟩:=x;exact⟨o,t,u,v,n,k _ _ _ _ h2 h3 h1,h2,h3⟩
def El (P:Program)(w:World):AN P w P3 where
 is:=zg
 lt:=KW
 ord:=q0
 room:=λA=>True
 inj:=λx y=>x.inj y
 keeps:=λx k=>x.keep k
 ask:=λhu hx hy q=>V1 hx hy q
 ty := "int"
 WR:=by decide
 first:=λ{h k a} x=>by
  obtain⟨o,t,u,v,n,h1,h2,h3⟩:=x;exact⟨o,_,n,_,h1,h2,h3,rfl,λA Q E s _ q=>aJ q⟩
end
section
variable {X:Cx}{ag:z0e}{σ:L2.St}{H:Hp}{s:Shared}
def NI (I:87){t:Addr}{k:P3}(h:aU X.K H t (yo k)):zg s.heap k t:=by
 obtain⟨aT,rv,⟨o,g1,g2,n,g3⟩,hz⟩:=I.tuple h;obtain⟨u1,u2,u3,e,r1,r2,r3⟩:=X5 rv;obtain⟨t,rfl⟩:=r1;obtain⟨u,rfl⟩:=r2;obtain⟨v,rfl⟩:=r3;subst e;exact⟨o,t,u,v,n,g1,g2,g3⟩
theorem vY (I:87){G:P3->Addr->Prop}(hG:G=λd t=>H t=some (.tup (yo d))):∀{kvs:518}{xs:565}{zs:List P3},KT H kvs xs->kvs.map 27=zs.map Cu->Paired (λt z=>((El X.prog X.w).wi G).is s.heap z t) (xs.map (·.2.1)) zs
 | _,_,[],.nil,_=>.nil
 | _,_,z::zs,.cons a r,e=>by
  rw [bN,bN] at e;obtain⟨e1,e2⟩:=rq e;have h2:=a.2.1;rw [e1] at h2;exact .cons ⟨NI I (aU.of h2),by rw [hG];exact h2⟩ (vY I hG r e2)
 | _,_,[],.cons a r,e=>by cases e
 | _,_,_::_,.nil,e=>by cases e
end
def AD {X:Cx}(hc:530):gL X (.builtin "sorted") (λxs H Q=>∃a kvs zs,xs=[91]/\H a=some (.dT kvs)/\kvs.map 27=zs.map Cu/\∀l jc lU,H l=none->Paired (λt z=>H t=some (.tup (yo z))) jc lU->lU.Perm zs->Nc KW lU->Q (.ref l) (upd H l (.lst (jc.map V.ref)))):=by
 intro ag s σ H xs us Q I r h;obtain⟨a,kvs,zs,rfl,h1,hk,q⟩:=h;obtain⟨u,rfl,rx⟩:=vals1 r;cases 713;obtain⟨sl,sm,xs,kt,o,es,ep,g1,g2,g3,g4,_,_⟩:=Og I.bI h1;have lk:xs.length=zs.length:=by have:=congrArg List.length hk;rw [ay,ay] at this;rw [<-bf kt,this]
 have lz:zs.length<=sizeLine:=by have:=congrArg List.length hk;rw [ay,ay] at this;rw [<-this];exact sl
 have sz:es.size=xs.length:=by rw [<-ix,g4,ay]
 obtain⟨m,A6,_⟩:=id I.loc
 let G:P3->Addr->Prop:=λd t=>H t=some (.tup (yo d))
 refine Calls.call_function_entry kind_sorted plain_sorted entry_sorted (args_sorted1 _) ?_;unfold Builtin.«sorted»;refine au (m:=checkCount "sorted" 1 1 _) (aJ ?_);refine au (PySem.W.kdu_collect (Ms (es:=es) (ep:=ep) sm) (I.ok.hd hc) ⟨o,g1,g2,g3⟩ (by rw [sz,lk];exact lz) λu4 tk bD kp l_=>?_);have ea:bD.toList=(xs.map (·.2.1)).map Value.ref:=by
  refine rO λj=>?_;by_cases c:j < es.size
  .have e1:bD[j]?=some (bD[j]'(by rw [l_.1];exact c)):=sf _;obtain⟨e,e2,e3⟩:=l_.2 j _ e1;rw [mh,e1,e3,bx,bx];rw [<-mh,g4,bx] at e2;obtain⟨y,ey,e4⟩:=cH.mp e2;rw [ey,<-e4];rfl
  rw [jb (by rw [ix,l_.1];omega),jb (by rw [ay,ay];omega)]
 rw [ea];have LH:Paired (λt z=>((El X.prog X.w).wi G).is s.heap z t) (xs.map (·.2.1)) zs:=vY I rfl kt hk;refine au (wpAny_newList ?_ (by simp only [ay];omega));generalize xs.map (·.2.1)=ts at LH;have lt:ts.length=xs.length:=by rw [bf LH,lk]
 have N3:(u4.push 838).get? u4.objs.size=some 838:=cU _ rfl;have keep:∀b o,259->(u4.push 838).get? b=65:=λb o q=>bW _ (kp _ _ q);have Z6:(u4.push 838).Ns X.env.locals m:=by
  obtain⟨o,es,ep,g1,g2⟩:=A6;exact⟨o,es,ep,keep _ _ g1,g2⟩
 have hD:s.heap.get? u4.objs.size=none:=by
  cases e:s.heap.get? u4.objs.size with
  | none=>rfl
  | some ob=>exact absurd (aV (kp _ _ e)) (ir _)
 have fD:H u4.objs.size=none:=by
  cases e:H u4.objs.size with
  | none=>rfl
  | some u =>
   obtain⟨ob,g⟩:=tH (I.bI _ u e);rw [hD] at g;cases g
 refine au (gr (i_ slot_list_sort ⟨_,N3,rfl⟩ entry_list_sort (Fl (sk:=(El X.prog X.w).wi G) (s:={ s with heap:=u4.push 838,toks:=tk }) (True.intro) Z6 N3 (i0 (λt z i=>((El X.prog X.w).wi G).keeps i λb o xs n _ _ g=>keep b o g) LH) ∅ λh2 c jc lU k2 ns2 g2 sub len pm Nu=>⟨_,rfl,?_⟩) (args_list_sort _)));have l3:=pm.length_eq;refine aJ ⟨_,rfl,.ref u4.objs.size,_,I.Jz (a:=u4.objs.size) (o:=.lst (jc.map V.ref)) (t':=tk) (λb u nb hb=>k2 b u nb (bJ (aV (kp b u hb))) (keep b u hb)) (λm' hm=>?_) hD fD (show bR X.prog X.w _ _ _ (.lst (jc.map V.ref)) from ⟨?_,jc.map Value.ref,c,vy _,g2⟩),rfl,q _ jc lU fD (tE len λp hp=>(sh LH p (sub p.1 p.2 hp)).2) pm Nu⟩
 .have e:m'=m:=by
   obtain⟨o,es,ep,ho,ze,_,hf⟩:=hm;obtain⟨o2,es2,ep2,UX,JU,_,QJ⟩:=A6;rw [ho] at UX;cases UX;rw [ze] at JU;cases JU
   funext x
   rw [<-hf x,<-QJ x]
  rw [e];exact ns2
 rw [ay];omega
end ST
namespace L2
open PySem PySem.Spec PyProof.Rows
section
variable {prog:Program}{w:World}{A:Around}{E:z0b}{s:Shared}
def F_ {Q:Int->146}(h:Q 4238894112 635):wpAny 140 A (pyHash .none) Q E s:=by
 have hT:s.TypeIs .none "NoneType" := rfl;unfold pyHash;have hv:[Value.none].any Value.onHeap=false:=rfl;refine au ?_;rw [cRoomFor,aq (by rw [hv];exact fg)];refine aJ ?_;refine au (mT hT xb.lookup ?_);show wpAny _ _ (if (some (Value.builtin "NoneType.__hash__") == some Value.none)=true then _ else _) Q E s;rw [aq (by rw [beq_builtin_none];exact fg)];refine au (mT hT xb.lookup ?_);show wpAny _ _ (callSpecialIfBoundUnlessNone? .none "__hash__" _ >>= _) Q E s;refine au (wpAny_callSpecialIfBoundUnlessNone?_slot hT xb
  (i_ xb hT F.entry_NoneType_hash
   (show wpAny _ _ (do ret (<-mkInt 4238894112)) _ _ s from wpAny_ret_mkInt ?_) (F.args_NoneType_hash_1 _)))
 show wpAny _ _ (if (decide (-(2:Int) ^ 63<=4238894112) && decide ((4238894112:Int) < 2 ^ 63))=true then _ else _) Q E _;rw [ar nofun];exact aJ h
def IU:Option aI->Value->Bool
 | none,.none=>true
 | none,_=>false
 | some k,v=>mw k v
def fk {v:Value}(h:IU none v=true):v=.none:=by cases v <;> first | rfl | (exact nomatch h)
def Kk (a b:aI):decide ((some a:Option aI)=some b)=decide (a=b):=by
 by_cases e:a=b
 .rw [dS e,dS (by rw [e])]
 rw [gh e,gh λz=>e (cX z)]
def optKind (prog:Program)(w:World):PySem.KeyKind prog w (Option aI) where
 is:=IU
 hash:=λk=>match k with | none=>4238894112 | some k=>UA w k
 inj:=λv a b ha hb=>by
  cases a with
  | none =>
   have:=fk ha;subst this;cases b with
   | none=>rfl
   | some k=>cases k <;> exact nomatch hb
  | some k =>
   cases b with
   | none =>
    have:=fk hb;subst this;cases k <;> exact nomatch ha
   | some k2=>exact congrArg some ((aK prog w).inj v k k2 ha hb)
 byValue:=λk v h=>by
  cases k with
  | none=>have:=fk h;subst this;rfl
  | some k=>exact(aK prog w).byValue k v h
 pyHash:=λ{A E s k v Q} hv h=>by
  cases k with
  | none=>have:=fk hv;subst this;exact F_ h
  | some k=>exact(aK prog w).pyHash (k:=k) hv h
 eqBool:=λ{A E s a b u v Q} hu hv h=>by
  cases a with
  | none =>
   have:=fk hu;subst this;cases b with
   | none =>
    have:=fk hv;subst this;exact SeqAt.EqAt.same .none _ _ _ _ h
   | some k =>
    rcases cy (show mw k v=true from hv) with ⟨i,t,rfl,rfl⟩ | ⟨x,t,rfl,rfl⟩
    .exact SeqAt.EqAt.none_int i t _ _ _ _ h
    exact SeqAt.EqAt.none_str x t _ _ _ _ h
  | some k =>
   cases b with
   | none =>
    have:=fk hv;subst this;rcases cy (show mw k u=true from hu) with ⟨i,t,rfl,rfl⟩ | ⟨x,t,rfl,rfl⟩
    .exact SeqAt.EqAt.int_none i t _ _ _ _ h
    exact SeqAt.EqAt.str_none x t _ _ _ _ h
   | some k2=>rw [Kk] at h;exact(aK prog w).eqBool (a:=k) (b:=k2) hu hv h
 «strs»:=λk x t v h=>by
  cases k with
  | none=>exact nomatch h
  | some k=>exact(aK prog w).strs k x t v h
def Mf {h:Heap}{d:Addr}{vs:List (aI×Value)}(hd:h.DictOf (aK prog w) d vs):h.MapOf (optKind prog w) d (λk=>match k with | none=>none | some k=>valueAt vs k):=by
 obtain⟨o,es,ep,ho,hc,MI,hk,hf⟩:=hd.mapOf;refine⟨o,es,ep,ho,hc,MI,λe he=>?_,λk=>?_⟩
 .obtain⟨k,h1,h2⟩:=hk e he;exact⟨some k,h1,h2⟩
 cases k with
 | some k=>exact hf k
 | none =>
  unfold findBy;rw [Option.map_eq_none_iff,Array.find?_eq_none];intro e he z;have e1:=fk (show IU none e.key=true from z);obtain⟨k,h1,_⟩:=hk e he;rw [e1] at h1;cases k <;> exact nomatch h1
end
def DIn (H:Hp)(a:Addr)(y:V)(b:Bool):Prop:=(∃o,b8 H a y o/\b=o.isSome)\/(y=.gF/\b=false/\∃kvs,Rd H a 489)
inductive Wc (H:Hp)(Q:Bool->Prop):V->V->Prop where
 | mk (a:Addr)(y:V)(b:Bool)(h:DIn H a y b)(q:Q b):Wc H Q y 475
def PM {X:Cx}(hu:X.A.units+1 < cLine):wQ X (compareOp .In) (λx y H Q=>Wc H (λb=>Q (.bl b) H) x y):=by
 intro ag s σ H x y v u Q I rx ry h;obtain⟨a,_,b,h,q⟩:=h;cases ry;rcases h with ⟨o,g,rfl⟩ | ⟨rfl,rfl,kvs,e⟩
 .exact VQ hu I g rx λs3 I3=>⟨.bl o.isSome,H,I3,rfl,q⟩
 cases rx;obtain⟨z,hd,vs,rel,dd⟩:=mE I.bI e;exact wpAny_in_of (knd:=optKind X.prog X.w) (k:=none) rfl hd (Mf dd) ⟨.bl false,H,I.tok _,rfl,q⟩
open PySem PySem.Spec PyProof.Rows PySem.W
section
variable {prog:Program}{w:World}{A:Around}{E:z0b}{s:Shared}{T:String}{r d:Addr}{n:Nat}{P:Nat->Value->Prop}{OK:z0n}
def zu {I:Addr}{fp wr:z0q}{St:Nat->Heap->Prop}(W:Walks prog w A I fp wr n P St)(pre:z0k) :
  Walks prog w A I fp wr (pre.size+n) (λj v=>if j < pre.size then pre[j]?=some v else P (j - pre.size) v) (λj h=>pre.size<=j/\St (j - pre.size) h) where
 sub:=W.sub
 frame:=λi h h' st k=>⟨st.1,W.frame _ h h' st.2 k⟩
 item:=λi s Q E hi st hQ=>W.item (i - pre.size) s Q E (by have:=st.1;omega) st.2 λv h' tk p aS k=>hQ v h' tk (by rw [aq (by have:=st.1;omega)];exact p) ⟨by have:=st.1;omega,by have:=st.1;rw [show i+1 - pre.size=i - pre.size+1 by omega];exact aS⟩ k
 done:=λs Q E st hQ=>W.done s Q E (by have:=st.2;rwa [Nat.add_sub_cancel_left] at this) hQ
 self:=λi s Q E st q=>W.self (i - pre.size) s Q E st.2 q
def Dc {R:Result->146}(K:KdlSrc prog w T r d n P OK)(hh:569)(bI:OK s.heap)(S:Addr)(hSr:S≠r)(hSd:S≠d)(res:Value)(pre:z0k) (c₀:Nat)(hS:s.heap.get? S=some { cls:=476,data:=.seq pre c₀ })
  (hR:∀h' tk M8 c',(∀b o,b≠S->259->162=65)->h'.get? S=some { cls:=476,dict:=none,data:=.seq M8 c',slots:=#[] }->ItemsOf (λj v=>if j < pre.size then pre[j]?=some v else P (j - pre.size) v) M8 (pre.size+n)->R (.ok (.ret res)) { s with heap:=h',toks:=tk })(hn:pre.size+n < sizeLine) :
  wpAny 140 A.in1 (Builtin.List.listExtendWith (.ref S) (.ref r) res)
   (λfin s'=>match fin with | .done f=>R (.ok f) s' | .again c'=>c'.quiet=true/\codeAny 140 A c' R s') (λe s'=>R (.error e) s') s:=by
 have hSI:S≠s.heap.objs.size:=bJ (aV hS);have hSf:S∉[s.heap.objs.size,d]:=by simp only [a_,List.not_mem_nil,or_false,not_or];exact⟨hSI,hSd⟩
 obtain⟨oI,St,hit,W,st⟩:=K.iter A.in1 s hh bI;have key:∀(h:Heap) (c₁ tk:Nat),St 0 h->(∀b o,b≠S->259->h.get? b=65) ->
   h.get? S=some { cls:=476,data:=.seq pre c₁ }->codeAny 140 A (.builtin "list.extend.loop" ⟨[.ref S,491,res],[]⟩) R { s with heap:=h,toks:=tk }:=by
  intro h c₁ tk oG hk Vm;refine codeAny_extend_loopS (zu W pre).toS (gq hn) S hSf res n pre.size _ pre c₁ ∅ ∅ ⟨aE _,by rw [Nat.sub_self];exact oG⟩ Vm ⟨rfl,λj v e=>by dsimp only;rw [ar (rp.mp e).1];exact e⟩ λs' M8 c' hm hS' l_=>?_;rw [Moved.eq_with hm];refine hR s'.heap s'.toks M8 c' (λb o hb e=>hm.heap b o (λlK=>?_) (hk b o hb e)) hS' l_;rcases a_.mp lK with e' | lK
  .exact hb e'
  exact absurd (aV e) (by rw [bj.mp lK];exact ir _)
 unfold Builtin.List.listExtendWith;refine au (jr (T:=T) (K.type s bI) ?_);have h1:Builtin.List.listSameRef (.ref S) (.ref r)=false:=by simp [Builtin.List.listSameRef,hSr]
 simp only [h1,K.notList,K.notTuple,Bool.or_false,kK,if_false];refine au (hit _ _ ?_);have Vm:=bW oI hS;refine au (gr (K.hint _ _ _ _ (K.keep _ _ bI λb _ o e=>bW _ e) ?_));refine wpAny_ite_split (λ_=>?_) (λ_=>aJ ⟨kQ PySem.F.plain_extend_loop _,key _ c₀ _ st (λb o _ e=>bW _ e) Vm⟩);refine au (jq ?_);refine au ?_;show wpAny _ _ (updateSeq S (·.push .none) >>= λ_=>updateSeq S (·.pop)) _ _ _;refine au (wpAny_updateSeq Vm rfl ?_ ∅ (by rw [Array.size_push];omega));have hS₂:=qk (Obj.mapSeq (·.push Value.none)) Vm rfl;refine wpAny_updateSeq hS₂ rfl ?_ (by rw [Array.size_push];omega) (by rw [Array.size_pop,Array.size_push];omega);have hS₃:=qk (Obj.mapSeq (·.pop)) hS₂ rfl;obtain⟨c1,hc1⟩:∃c1,Obj.mapSeq (·.pop) (Obj.mapSeq (·.push Value.none) ({ cls:=476,data:=.seq pre c₀ }:Obj))={ cls:=476,data:=.seq pre c1 }:=by
  have e:(pre.push Value.none).pop=pre:=Array.pop_push;refine⟨?_,?_⟩
  rotate_left
  simp only [Obj.mapSeq,e];rfl
 refine aJ ⟨kQ PySem.F.plain_extend_loop _,key _ c1 _ ?_ (λb o hb e=>?_) (by rw [hS₃,hc1])⟩
 .refine W.frame 0 _ _ st λb hb o e=>?_;have hbS:b≠S:=λh=>hSf (h ▸ hb);exact(jC _ _ (dC hbS)).trans ((jC _ _ (dC hbS)).trans e)
 exact(jC _ _ (dC hb)).trans ((jC _ _ (dC hb)).trans (bW _ e))
end
inductive We (H:Hp)(Q:VK):V->84->Prop where
 | mk (l d:Addr)(xs:84)(kvs:86)(h1:H l=500)(h2:H d=375)(h3:xs.length+kvs.length < sizeLine)(q:Q .gF (upd H l (.lst (xs++622)))):We H Q (.ref l) [.ref d]
def CJ {X:Cx}(hc:530):Wl X "list.extend" (λx vs H Q=>We H Q x vs):=by
 intro ag s σ H x vs v us Q I rx rv h;obtain⟨l,d,xs,kvs,hH,hD,hz,q⟩:=h;cases rx;obtain⟨u,rfl,ru⟩:=rv.one;cases ru;obtain⟨z,aT,n,r,hl,e⟩:=I.z9 hH;obtain⟨z2,hs,vs,rel,dd⟩:=uj I.bI hD;obtain⟨o,es,ep,d1,d2,d3,d4⟩:=dd;have l1:=rel.length;have lr:=r.length;have p_:l≠d:=λz=>by rw [z,hD] at hH;cases hH
 refine gM (pI xC.plain PySem.F.entry_list_extend (xC.check _ _ _ _ _ _ _ _ ⟨_,e,rfl⟩ (PySem.F.args_list_extend_2 _ _) ?_));show wpAny _ _ (Builtin.List.listExtendWith (.ref l) (.ref d) .none) _ _ _;refine Dc (R:=λr s'=>match r with | .ok (.ret v)=>EP X ag σ Q v s' | .ok _=>False | .error e=>X.xe e s') (kdl_dict (knd:=aK X.prog X.w) (kvs:=vs) (ep:=ep) hs) (I.ok.hd hc) ⟨o,es,d1,d2,d3,d4⟩ l p_ p_ .none aT.toArray n e (λh' tk bD c kk hA l_=>?_) (by rw [cq];omega)
 have keys:=rel.keys;have vals:bq (xs++622) bD.toList:=by
  refine pW (by have h1:=l_.1;simp only [bp,ay,ix];rw [h1,cq];omega) λj x y e1 e2=>?_;rw [mh] at e2;have hp:=l_.2 j y e2;rw [cq] at hp;by_cases c:j < aT.length
  .rw [ar c] at hp;rw [gK ∅] at e1;obtain⟨u,e3,r3⟩:=bq.get r e1;rw [List.getElem?_toArray,e3] at hp;cases hp;exact r3
  rw [aq c] at hp;obtain⟨k,v,e3,e4⟩:=hp;rw [iO ∅,bx,lr] at e1;obtain⟨p,e5,rfl⟩:=cH.mp e1;have e6:(kvs.map 27)[j - aT.length]?=some p.1:=by rw [bx,e5];rfl
  rw [keys,bx,e3] at e6;cases e6;exact EB e4
 have hz3:(xs++622).length<=sizeLine:=by rw [bp,ay];omega
 have new:bR X.prog X.w (upd H l (.lst (xs++622))) h' l (.lst (xs++622)):=⟨hz3,bD.toList,c,vals,by simpa using hA⟩;exact⟨.gF,_,I.write (x:=l) (e:=l) (by rw [hH];exact True.intro) 419 (λb q hb z=>kk b q hb z) ⟨_,hA⟩ new,rfl,q⟩
end L2
namespace fC
open PySem L2 M11 ST
abbrev sU:Stmt:=top 18
abbrev yb:Stmt:=top 17
abbrev yg:Stmt:=top 19
abbrev yh:Stmt:=top 20
def dP (aa:56) (n:Nat):z0t:=match aa[n]? with | some ru=>ru.2 | none=>match aa[0]? with | some ru=>[ru.1] | none=>[]
def Lf (K:aY)(C Cg:Addr)(H:Hp)(g:Addr)(aa:56)(aC:z0h)(bes:108):Prop:=∃(Hg:Hp)(rs ss:z0q)(bt:Addr),GrV Hg H Cg g rs ss bt/\520/\Hs K C H bt aa aC bes
theorem Lf.same {K:aY}{C Cg:Addr}{H H':Hp}{g:Addr}{aa:56}{aC:z0h}{bes:108}(h:Lf K C Cg H g aa aC bes)(s:147):Lf K C Cg H' g aa aC bes:=by
 obtain⟨Hg,rs,ss,bt,⟨gx,fs,R2,S2,e1,e2,e3,e4,e5,e6,e7,e8,aay⟩,rl,b⟩:=h;exact⟨Hg,rs,ss,bt,⟨gx,fs,R2,S2,s _ _ e1,e2,e3,e4,e5,s _ _ e6,s _ _ e7,e8,aay⟩,rl.same s,b.same s⟩
section
def pM (K:aY)(C Cg:Addr):Sp:=λvs H Q _=>∃(g:Addr) (n:Nat)(aa:56)(aC:z0h)(bes:108),vs=[.ref g,.int (n:Int)]/\Lf K C Cg H g aa aC bes/\aa≠[]/\∀(p:Addr)(H':Hp),147->aU K H' p ((dP aa n).map V.str)->Q (.ref p) H'
def Fn:aM ["grammar","number"] ["grammar","number"] (ax sU):=417
def Cy {C Cg fS:Addr}{fdS:FuncData}(F:jo K "parts_of" "parts_of" sU f fd)(T:Txt mg)(G:GC K Cg)(MS:Meth K Cg "start" fS)(FS:bO P w K mg base gb 1 fS fdS ["self"] (DO K Cg))(BS:Binds K fdS ["self"] []):bO P w K mg base gb 2 f fd ["grammar","number"] (pM K C Cg):=by
 refine F.ok Fn 420 472
 .obtain⟨g,n,aa,aC,bes,rfl,_⟩:=h;rfl
 obtain⟨g,n,aa,aC,bes,rfl,⟨Hg,rs,ss,bt,gv,dA,Xg⟩,p_,q⟩:=h;refine⟨_,av (bS (lF (cS ow 102 (bo bC rfl T.len gI 664) (cT _))
  (bF bH (bF e_ 528 102 109) aA 109)
  (bG (ae (IF 72 G.cls MS FS hr BS .nil mq) ao)))),?_⟩
 dsimp only [Dj];have gv0:=gv;obtain⟨gx,fs,R2,S2,eg,l1,l2,l3,l4,e1,e2,_⟩:=gv;have ll:=bf dA;refine⟨_,rfl,_,rfl,g,Cg,gx,fs,_,rfl,eg,G.cls,G.a1,l1,R2,_,rfl,.inl (aX.of e1),_,_,rfl,rfl,_,rfl,?_⟩;rw [ay,ll];by_cases c:n < aa.length
 .rw [dS ∅];refine tR ?_;obtain⟨r,er,p,v1,v2⟩:=Paired.at_ dA n _ (cx c);have AJ:Bc 260 ((n:Nat):Int)=some (.ref r):=eh (by rw [bx,er];rfl);refine⟨_,rfl,g,Cg,gx,fs,_,rfl,eg,G.cls,G.a1,l1,_,rfl,R2,_,_,_,rfl,rfl,aX.of e1,AJ,r,_,_,_,rfl,rfl,v1,rfl,q p H (aD.refl H) ?_⟩;unfold dP;rw [cx c];exact v2
 rw [gh ∅];refine kI ?_;have l0:0 < aa.length:=List.length_pos_iff.mpr p_;refine⟨_,rfl,g,gx,fs,rfl,eg,l4,Hg,g,bt,rs,ss,aa,_,rfl,gv0,dA,cx l0,?_⟩;refine⟨Lg,λp hp=>?_⟩;refine q p _ (ah hp _) ?_;unfold dP;rw [jb ∅,cx l0];exact aU.of af
end
abbrev Pl:=Nat×Nat×Str
def pZ (z:Pl):P3:=((z.1:Int),(z.2.1:Int),z.2.2)
def IQ {a b:Pl}(h:pZ a=pZ b):a=b:=by
 simp only [pZ,jT] at h;exact bV ∅ (bV ∅ h.2.2)
def kn (H:Hp)(t:Addr)(z:Pl):Prop:=H t=some (.tup (yo (pZ z)))
def paV:Option Str->V
 | some z=>.str z
 | none=>.gF
def AM (B:Addr)(H H':Hp):Prop:=∀y o,y≠B->H y=65->H' y=65
def Gr (zs:z0t) (j:Nat):qf 478 (some (124+1)) none=(zs.drop (j+1)).map V.str:=by
 have:=Gq zs j;rw [Int.zero_add] at this;exact this
def none_of {H H':Hp}{L:Addr}(s:147)(h:H' L=none):H L=none:=by
 cases e:H L with
 | none=>rfl
 | some o=>rw [s _ _ e] at h;cases h
def vG {B:Addr}{H H':Hp}{kb:518}(sx:AM B H H')(hB:H B=some (.dT kb)){y:Addr}{o:HO}(hy:H y=65)(ho:∀k,o≠.dT k):H' y=65 :=
 sx y o (λz=>by rw [z,hB] at hy;cases hy;exact ho _ rfl) hy
def HP {K:aY}{B:Addr}{H H':Hp}{kb:518}(sx:AM B H H')(hB:H B=some (.dT kb)){y:Addr}{xs:84}(hy:aU K H y xs):aU K H' y xs :=
 hy.elim (λh=>.inl (h.elim (λh=>.inl (vG sx hB h λ_ z=>HO.noConfusion z)) λ⟨o,h⟩=>.inr ⟨o,vG sx hB h λ_ z=>HO.noConfusion z⟩)) .inr
def FY {kvs:86}{ks:z0t}(h:kvs.map 27=ks.map Sum.inr):(622)=ks.map V.str:=by
 have:(622)=(kvs.map 27).map kV:=by rw [eE];rfl
 rw [this,h,eE];rfl
def d_ (n d:Nat):List aI:=[.inl (n:Int),.inl (d:Int)]
section
def LM {aa:56}(h8:∀ru∈aa,ru.2.length<=8) (n:Nat):(dP aa n).length<=8:=by
 unfold dP
 split
 .rename_i ru e
  exact h8 ru (cv e)
 split
 .show 1<=8;omega
 show 0<=8;omega
def sQ (K:aY)(C Cg:Addr):Sp:=λvs H Q _=>∃(g t:Addr)(z:Pl)(aa:56)(aC:z0h)(bes:108),vs=[.ref g,.ref t]/\Lf K C Cg H g aa aC bes/\aa≠[]/\aU K H t (yo (pZ z))/\∀(H':Hp),147->Q (paV ((dP aa z.1)[z.2.1]?)) H'
def zH:aM ["grammar","place","parts"] ["grammar","place"] (ax yb):=417
def FC {C Cg:Addr}(F:jo K "part_at" "part_at" yb f fd)(T:Txt mg)(GP:aL P w K mg base 2 "parts_of" ["grammar","number"] (pM K C Cg)):bO P w K mg base gb 3 f fd ["grammar","place"] (sQ K C Cg):=by
 refine F.ok zH 420 472
 .obtain⟨g,t,z,aa,aC,bes,rfl,_⟩:=h;rfl
 obtain⟨g,t,z,aa,aC,bes,rfl,gv,p_,ht,q⟩:=h;refine⟨_,aj (aF (i:=2) zH.nd rfl 68 (bZ GP hr rfl (ae 72 (ae 766 ao))))
  (av (bS (lF (cS ow 766 (bo bC rfl T.len gI (ae (pv 2) ao)) (cT _))
   (bF bH (pv 2) 766 109) yl))),?_⟩
 nofun
 refine⟨_,rfl,_,rfl,t,_,_,_,rfl,rfl,ht,rfl,g,z.1,aa,aC,bes,rfl,gv,p_,λp H1 s1 e1=>?_⟩;refine⟨_,rfl,t,_,_,_,rfl,rfl,s1.tup ht,rfl,_,rfl,p,_,rfl,.inr e1,_,_,rfl,rfl,_,rfl,?_⟩;rw [ay];by_cases c:z.2.1 < (dP aa z.1).length
 .rw [dS (show (pZ z).2.1 < ((dP aa z.1).length:Int) from Int.ofNat_lt.mpr c)];refine tR ?_;refine⟨_,rfl,_,rfl,t,_,_,_,rfl,rfl,s1.tup ht,rfl,p,_,_,_,rfl,rfl,e1,eh (by rw [bx,cx c];rfl),?_⟩;have:=q H1 s1;rw [cx c] at this;exact this
 rw [gh (show ¬(pZ z).2.1 < ((dP aa z.1).length:Int) from λy=>c (Int.ofNat_lt.mp y))];refine kI ?_;have:=q H1 s1;rw [jb ∅] at this;exact this
def zF (K:aY)(C Cg:Addr):Sp:=λvs H Q _=>∃(g t B:Addr)(z:Pl)(aa:56)(aC:z0h)(bes:108)(kb:518),vs=[.ref g,.ref t,.ref B]/\Lf K C Cg H g aa aC bes/\aa≠[]/\547/\bes.length<=63/\aU K H t (yo (pZ z))/\H B=some (.dT kb)/\kb.length<=100000 /\
 ∀(L:Addr) (xG:z0t)(H':Hp),H L=none->AM B H H'->H' L=some (.lst (xG.map V.str))->H' B=some (.dT (if 627=true then kb else kb++[(d_ z.1 z.2.1,.bl true)]))->xG.length<=1001->(∀w,w∈xG↔(w=z.2.2/\((dP aa z.1).drop (z.2.1+1)).all (λy=>decide (y∈aC.map 27))=true)\/(627=false/\Wq (hd aa) bes (λy=>decide (y∈aC.map 27)) ((dP aa z.1).drop (z.2.1+1)) w))->Q (.ref L) H'
def oh:aM ["grammar","place","begun","table","behind","texts"] ["grammar","place","begun"] (ax yh):=417
def FH {C Cg fF fA:Addr}{Vv fdA:FuncData}(F:jo K "texts_behind" "texts_behind" yh f fd)(T:Txt mg)(G:GC K Cg)(B:BC K C)(GP:aL P w K mg base 2 "parts_of" ["grammar","number"] (pM K C Cg))
  (FF:bO P w K mg base gb 2 fF Vv ["self","parts"] (DU K C true))(MF:Meth K C "first_words" fF)(BF:Binds K Vv ["self","parts"] [])
  (FA:bO P w K mg base gb 2 fA fdA ["self","parts"] (HV K C true))(MA:Meth K C "all_empty" fA)(BA:Binds K fdA ["self","parts"] []):bO P w K mg base gb 3 f fd ["grammar","place","begun"] (zF K C Cg):=by
 refine F.ok oh 420 472
 .obtain⟨g,t,B,z,aa,aC,bes,kb,rfl,_⟩:=h;rfl
 obtain⟨g,t,Bd,z,aa,aC,bes,kb,rfl,gv,p_,h8,h63,ht,hB,QD,q⟩:=h;have hu:=fc hr;refine⟨_,aj (aF (i:=3) oh.nd rfl 68 528)
  (aj (aF (i:=4) oh.nd rfl 68 (tu Lq (bZ GP hr rfl (ae 72 (ae 766 ao))) (yj (cu d6 766 aA)) yk))
  (aj (iC (aF (i:=5) oh.nd rfl 68 (lF (lC (ou (pv 3) B.cls MA FA hr BA .nil mq (ae (pv 4) ao))) (dw (ae 766 ao)) (dw ao))))
  (aj (iC (dq (eM (de hu (tu BO 102 yk (yj aA)) (pv 2)))
   (aj (gC hu (pv 2) (tu BO 102 yk (yj aA)) h_ rfl)
   (av (cY (jj iN xC PySem.F.type_list_extend (CJ rfl) (pv 5) (ae (ou (pv 3) B.cls MF FF hr BF .nil mq (ae (pv 4) ao)) ao))))) bL))
  (av (bS (pv 5)))))),?_⟩
 nofun
 have QT:=gv;obtain⟨Hg,rs,ss,bt,⟨gx,fs,R2,S2,eg,l1,l2,l3,l4,e1,e2,_⟩,dA,Xg⟩:=gv;obtain⟨e,d,bg,kE,ps,S,mps,vE⟩:=Xg.bs;refine⟨_,rfl,g,Cg,gx,fs,_,rfl,eg,G.cls,G.a3,l3,?_⟩;refine⟨_,rfl,_,rfl,t,_,_,_,rfl,rfl,ht,rfl,g,z.1,aa,aC,bes,rfl,QT,p_,λp H1 s1 e1=>?_⟩;refine⟨_,rfl,t,_,_,_,rfl,rfl,s1.tup ht,rfl,_,_,rfl,rfl,_,rfl,p,_,rfl,e1,λp2 H2 s2 e2=>?_⟩;have hbl:((dP aa z.1).drop (z.2.1+1)).length<=10:=by
  rw [rK];have:(dP aa z.1).length<=8:=LM h8 z.1;omega
 have Am:aU K H2 p2 (((dP aa z.1).drop (z.2.1+1)).map V.str):=by
  rw [<-Gr];exact e2
 have eqE:∀y,Od kE y=decide (y∈aC.map 27):=vE;have eqF:Od kE=λy=>decide (y∈aC.map 27):=funext eqE;generalize hbh:(dP aa z.1).drop (z.2.1+1)=bh at hbl Am q;clear e2;have G8:=s1.trans s2;have S2:=S.same G8;obtain⟨dx,K6,ea,_,_,_,_,f5⟩:=S2.ia;refine⟨λσ H4=>∃(L:Addr) (OQ:z0t),σ=[aZ g,aZ t,aZ Bd,aZ bt,aZ p2,aZ L]/\H L=none/\aD H2 H4/\H4 L=some (.lst (OQ.map V.str))/\OQ.length<=1/\(∀w,w∈OQ↔w=z.2.2/\bh.all (λy=>decide (y∈aC.map 27))=true),?_,?_⟩
 .refine⟨_,rfl,bt,dx,K6,rfl,ea,f5.2.2.1,_,rfl,(λ_=>none),bt,e,d,bg,p2,kE,aC,ps,bes,bh,rfl,S2,Am,hbl,λH3 s3=>?_⟩;rw [eqF];refine⟨_,rfl,?_⟩;have RJ:=G8.trans s3;refine 566
  .refine⟨_,rfl,t,_,_,_,rfl,rfl,RJ.tup ht,rfl,Lg,λL hL=>?_⟩;exact⟨L,[z.2.2],rfl,none_of RJ hL,s3.trans (ah hL _),af,aE 1,λw=>by rw [bj];exact⟨λy=>⟨y,c⟩,λy=>y.1⟩⟩
  refine⟨Bu,λL hL=>?_⟩;exact⟨L,[],rfl,none_of RJ hL,s3.trans (ah hL _),af,cV _,λw=>⟨λy=>(nomatch y),λy=>absurd y.2 c⟩⟩
 rintro σ H4 ⟨L,OQ,rfl,hL,s4,eL,l1x,in0⟩;have uU:=G8.trans s4;have hB4:=uU _ _ hB;have nLB:L≠Bd:=λy=>by rw [y,hB] at hL;cases hL
 have Uc:¬(HT.fU (yo (pZ z)).length 0 none=0/\HT.fU (yo (pZ z)).length (yo (pZ z)).length (some 2)=(yo (pZ z)).length):=λy=>absurd y.2 (by show ¬(2:Nat)=3;decide);have VR:qf (yo (pZ z)) none (some 2)=(d_ z.1 z.2.1).map kV:=rfl;refine⟨λσ H5=>∃(xG:z0t),σ=[aZ g,aZ t,aZ Bd,aZ bt,aZ p2,aZ L]/\AM Bd H H5/\H5 L=some (.lst (xG.map V.str))/\H5 Bd=some (.dT (if 627=true then kb else kb++[(d_ z.1 z.2.1,.bl true)]))/\xG.length<=1001/\(∀w,w∈xG↔(w=z.2.2/\bh.all (λy=>decide (y∈aC.map 27))=true)\/(627=false/\Wq (hd aa) bes (λy=>decide (y∈aC.map 27)) bh w)),?_,?_⟩
 .refine⟨_,rfl,_,rfl,t,_,rfl,uU.tup ht,Uc,λb hb=>?_⟩;rw [VR];have k5:=ah hb 743;have eb:upd H4 b 743 b=some 743:=af;generalize upd H4 b 743=H5 at k5 eb;have YD:=uU.trans k5;have hB5:=k5 _ _ hB4;refine⟨_,rfl,Bd,_,rfl,b8.t hB5 eb,_,rfl,?_⟩;refine 566
  .have cn:627=false:=by
    cases y:627 with
    | false=>rfl
    | true=>rw [y] at c;cases c
   have vn:aQ kb (d_ z.1 z.2.1)=none:=by
    cases y:aQ kb (d_ z.1 z.2.1) with
    | none=>rfl
    | some _=>rw [y] at cn;cases cn
   refine⟨_,rfl,_,rfl,_,rfl,t,_,rfl,YD.tup ht,Uc,λb2 MJ=>?_⟩;rw [VR];have k6:=ah MJ 743;have eb2:upd H5 b2 743 b2=some 743:=af;generalize upd H5 b2 743=H6 at k6 eb2;have s16:=YD.trans k6;have Sg:=k6 _ _ hB5;refine⟨Bd,_,rfl,ma.t Sg eb2 (bX ∅),?_⟩;rw [lB _ vn];have Nq:AM Bd H6 (upd H6 Bd (.dT (kb++[(d_ z.1 z.2.1,V.bl true)]))):=λy o ny hy=>by rw [ai ny];exact hy
   have Rc:upd H6 Bd (.dT (kb++[(d_ z.1 z.2.1,V.bl true)])) Bd=some (.dT (kb++[(d_ z.1 z.2.1,V.bl true)])):=af;generalize upd H6 Bd (.dT (kb++[(d_ z.1 z.2.1,V.bl true)]))=H7 at Nq Rc;have eL7:H7 L=some (.lst (OQ.map V.str)):=Nq _ _ nLB (k6 _ _ (k5 _ _ eL));have S7:o9 K C (λ_=>none) H7 bt e d bg kE aC ps bes:=Dp (S.same s16) (λ_ _ z=>vG Nq Sg z 641) (λ_ _ z=>vG Nq Sg z 641) (λ_ _ z=>HP Nq Sg z) λ_ _ z=>vG Nq Sg z 641
   obtain⟨dx,K6,ea,_,_,_,_,f5⟩:=S7.ia;refine⟨_,rfl,.inl ⟨rfl,_,aX.of eL7⟩,_,rfl,bt,dx,K6,rfl,ea,f5.2.1,_,rfl,(λ_=>none),bt,e,d,bg,p2,kE,aC,ps,bes,bh,rfl,S7,HP Nq Sg (k6.tup (k5.tup (s4.tup Am))),hbl,h63,λD kvs ks H8 fD s8 eD kk nd uL aaW=>?_⟩;have lk:kvs.length=ks.length:=by have:=congrArg List.length kk;rw [ay,ay] at this;exact this
   have eL8:=s8 _ _ eL7;refine⟨L,D,_,_,eL8,eD,507,?_⟩;refine⟨OQ++ks,rfl,λy o ny hy=>?_,by rw [af,FY kk,aP],?_,642,λw=>?_⟩
   .rw [ai (λy2=>by rw [y2,hL] at hy;cases hy)];exact s8 _ _ (Nq _ _ ny (s16 _ _ hy))
   .rw [ai (dC nLB),cn];exact s8 _ _ Rc
   rw [cw,in0,uL,eqF,mps,cn];exact⟨λy=>y.elim Or.inl λy=>.inr ⟨rfl,y⟩,λy=>y.elim Or.inl λy=>.inr y.2⟩
  have cn:627=true:=by
   cases y:627 with
   | true=>rfl
   | false=>rw [y] at c;exact absurd rfl c
  refine⟨OQ,rfl,λy o ny hy=>YD y o hy,k5 _ _ eL,by rw [ar cn];exact hB5,∅,λw=>?_⟩;rw [in0,cn];exact⟨Or.inl,λy=>y.elim id λy=>by cases y.1⟩
 rintro σ H5 ⟨xG,rfl,sx,eL5,eB5,l5,in5⟩;exact⟨_,rfl,q L xG H5 hL sx eL5 eB5 l5 in5⟩
end
inductive Bg (R:Pl->Pl->Prop)(ps:70):Pl->Prop
 | base {z:Pl}:z∈ps->Bg R ps z
 | step {z y:Pl}:Bg R ps z->R z y->Bg R ps y
structure G6 (R1 R2:Pl->Pl->Prop)(ps fs ws:70)(bs:z0g):Prop where
 nd:fs.Nodup
 snd:∀z,z∈fs\/z∈ws->Bg (λa b=>R1 a b\/R2 a b) ps z
 all:∀z∈ps,z∈fs\/z∈ws
 r:∀z∈fs,∀y,R1 z y\/R2 z y->y∈fs\/y∈ws
 bg:∀z:Pl,(z.1,z.2.1)∈bs->∀y,R2 z y->y∈fs\/y∈ws
def G6.init (R1 R2:Pl->Pl->Prop)(ps:70):G6 R1 R2 ps [] ps [] :=
 ⟨eG,λz h=>h.elim (λh=>(nomatch h)) .base,λz h=>.inr h,λz h=>(nomatch h),λz h=>(nomatch h)⟩
def G6.old {R1 R2:Pl->Pl->Prop}{ps fs ws:70}{bs:z0g}{z:Pl}(h:G6 R1 R2 ps fs (ws++[z]) bs)(hz:z∈fs):G6 R1 R2 ps fs ws bs:=by
 have k:∀y,y∈fs\/y∈ws++[z]->y∈fs\/y∈ws:=λy hy=>hy.elim .inl λhy=>(cw.mp hy).elim .inr λhy=>.inl (bj.mp hy ▸ hz);exact⟨h.nd,λy hy=>h.snd y (hy.imp id λhy=>g_ _ hy),λy hy=>k y (h.all y hy),λy hy x hx=>k x (h.r y hy x hx),λy hy x hx=>k x (h.bg y hy x hx)⟩
theorem G6.new {R1 R2:Pl->Pl->Prop}{ps fs ws new:70}{bs uM:z0g}{z:Pl}(h:G6 R1 R2 ps fs (ws++[z]) bs)(hz:z∉fs)(hn:∀y∈new,R1 z y\/R2 z y)(h1:∀y,R1 z y->y∈new)(h2:∀y,R2 z y->(z.1,z.2.1)∈bs\/y∈new)
  (hb:∀q∈uM,q∈bs\/(q=(z.1,z.2.1)/\(z.1,z.2.1)∉bs))(dep:∀a b y:Pl,(a.1,a.2.1)=(b.1,b.2.1)->R2 a y->R2 b y):G6 R1 R2 ps (fs++[z]) (ws++new) uM:=by
 have k:∀y,y∈fs\/y∈ws++[z]->y∈fs++[z]\/y∈ws++new:=λy hy=>hy.elim (λhy=>.inl (g_ _ hy)) λhy=>(cw.mp hy).elim (λhy=>.inr (g_ _ hy)) λhy=>.inl (eZ _ hy);have cz:=h.snd z (.inr (eZ _ (bj.mpr rfl)));have r2:∀y,R2 z y->y∈fs++[z]\/y∈ws++new:=λy r=>(h2 y r).elim (λq=>k y (h.bg z q y r)) λq=>.inr (eZ _ q);refine⟨iM.mpr ⟨h.nd,dU.mpr ⟨58,eG⟩,λa ha b hb e=>hz (by rw [<-bj.mp hb,<-e];exact ha)⟩,λy hy=>?_,λy hy=>k y (h.all y hy),λy hy x hx=>?_,λy hy x hx=>?_⟩
 .rcases hy with hy | hy
  .rcases cw.mp hy with hy | hy
   .exact h.snd y (.inl hy)
   rw [bj.mp hy];exact cz
  rcases cw.mp hy with hy | hy
  .exact h.snd y (.inr (g_ _ hy))
  exact .step cz (hn y hy)
 .rcases cw.mp hy with hy | hy
  .exact k x (h.r y hy x hx)
  rw [bj.mp hy] at hx;exact hx.elim (λr=>.inr (eZ _ (h1 x r))) (r2 x)
 rcases hb _ hy with q | ⟨q,_⟩
 .exact k x (h.bg y q x hx)
 exact r2 x (dep y z x q hx)
def G6.done {R1 R2:Pl->Pl->Prop}{ps fs:70}{bs:z0g}(h:G6 R1 R2 ps fs [] bs)(z:Pl):z∈fs↔Bg (λa b=>R1 a b\/R2 a b) ps z:=by
 refine⟨λhz=>h.snd z (.inl hz),λc=>?_⟩;have k:∀y,y∈fs\/y∈([]:70)->y∈fs:=λy hy=>hy.elim id λhy=>nomatch hy
 induction c with
 | base hz=>exact k _ (h.all _ hz)
 | step _ r ih=>exact k _ (h.r _ ih _ r)
def Ld (aa:56)(z:Pl) (i:Nat):Prop:=∃nm ru,(dP aa z.1)[z.2.1]?=some nm/\aa[i]?=some ru/\ru.1=nm
def Fb (aa:56)(z:Pl):z0t:=(dP aa z.1).drop (z.2.1+1)
def Nb (aa:56)(nl:Str->Bool)(z y:Pl):Prop:=Ld aa z y.1/\y.2.1=0/\y.2.2=z.2.2/\(Fb aa z).all nl=true
def va (aa:56)(nl:Str->Bool)(bes:108)(z y:Pl):Prop:=Ld aa z y.1/\y.2.1=0/\Wq (hd aa) bes nl (Fb aa z) y.2.2
def va.dep {aa:56}{nl:Str->Bool}{bes:108}(a b y:Pl)(e:(a.1,a.2.1)=(b.1,b.2.1))(h:va aa nl bes a y):va aa nl bes b y:=by
 obtain⟨e1,e2⟩:=ik e;unfold va Ld Fb at h ⊢;rw [e1,e2] at h;exact h
section
def zO {α β:Type}{F:α->β->Prop}{us:List α}{ts:List β}(p:Paired F us ts)(h:us≠[]):∃uI u jc t,us=uI++[u]/\ts=jc++[t]/\Paired F uI jc/\F u t:=by
 have p2:=Paired.Pn p;have hr:us.reverse≠[]:=λz=>h (List.reverse_eq_nil_iff.mp z);generalize e1:us.reverse=qS at p2 hr;generalize e2:ts.reverse=qp at p2;cases p2 with
 | nil=>exact absurd rfl hr
 | @cons u t ON OR a b =>
  refine⟨ON.reverse,u,OR.reverse,t,?_,?_,Paired.Pn b,a⟩
  .rw [<-List.reverse_reverse us,e1,w6]
  rw [<-List.reverse_reverse ts,e2,w6]
def IB {us:84}{u:V}:(us++[u])[(us++[u]).length - 1]?=some u:=by
 rw [bp];simp
def su {κ:Type} [DecidableEq κ] (kvs:546)(k:κ){ks:List κ}(hk:kvs.map 27=ks):(k∈ks->(aQ kvs k).isSome=true)/\(k∉ks->aQ kvs k=none):=by
 subst hk;have h:(aQ kvs k).isSome=true↔k∈kvs.map 27:=by
  rw [<-iR,List.any_eq_true,a9];refine⟨λba=>?_,λ⟨x,h,e⟩=>⟨x,h,dS e⟩⟩;obtain⟨x,h,e⟩:=ba;exact⟨x,h,dJ e⟩
 refine⟨h.mpr,λn=>?_⟩;cases y:aQ kvs k with
 | none=>rfl
 | some _=>exact absurd (h.mp (by rw [y];rfl)) n
def Kq {a b c d:Nat}(h:d_ a b=d_ c d):(a,b)=(c,d):=by
 simp only [d_,List.cons.injEq,Sum.inl.injEq,and_true] at h;exact bV ∅ ∅
def v7 (z:Pl):List aI:=Cu (pZ z)
def Mt {a b:Pl}(h:v7 a=v7 b):a=b:=IQ (En h)
def EA {fs:70}{z:Pl}:v7 z∈fs.map v7↔z∈fs:=⟨λh=>by obtain⟨y,hy,e⟩:=a9.mp h;rw [<-Mt e];exact hy,λh=>ja h⟩
def AH {bs:z0g}{a b:Nat}:d_ a b∈bs.map (λq=>d_ q.1 q.2)↔(a,b)∈bs:=⟨λh=>by obtain⟨y,hy,e⟩:=a9.mp h;rw [<-Kq e];exact hy,λh=>a9.mpr ⟨_,h,rfl⟩⟩
def jE {H H':Hp}{D:Addr}{o:HO}(s:147)(h:H D=none):aD H (upd H' D o):=λb x hb=>by
 rw [ai (λz=>by rw [z,h] at hb;cases hb)];exact s b x hb
structure ClS (H H5:Hp)(F B W:Addr)(us:z0q)(fs ws:70)(bs:z0g):Prop where
 sm:aD H H5
 eF:∃kf,H5 F=some (.dT kf)/\kf.map 27=fs.map v7
 eB:∃kb,H5 B=some (.dT kb)/\kb.map 27=bs.map λq=>d_ q.1 q.2
 eW:H5 W=747
 pw:Paired (kn H5) us ws
def dI {H:Hp}{A t:Addr}{z:Pl}{o o2:HO}(hA:H A=65)(n:∀xs,o≠.tup xs)(h:kn H t z):kn (upd H A o2) t z:=by
 unfold kn at h ⊢;rw [ai (λy=>by rw [y,hA] at h;exact n _ (cX h))];exact h
def eO (aa:56)(nm w:Str):70:=((List.range aa.length).filter (K0 aa nm)).map λk=>(k,0,w)
def pN (k:P3):Pl:=(k.1.toNat,k.2.1.toNat,k.2.2)
def zG {H:Hp}{fs:70}{ts:z0q}{zs:List P3}(pr:Paired (λt z=>H t=some (.tup (yo z))) ts zs)(pm:zs.Perm (fs.map pZ)):zs=(zs.map pN).map pZ/\Paired (kn H) ts (zs.map pN)/\(zs.map pN).Perm fs:=by
 have h1:∀x∈zs,pZ (pN x)=x:=λx hx=>by
  obtain⟨y,_,rfl⟩:=a9.mp (pm.mem_iff.mp hx);rfl
 have h2:zs=(zs.map pN).map pZ:=by
  rw [eE]
  conv=>lhs;rw [<-List.map_id zs]
  exact xl λx hx=>(h1 x hx).symm
 refine⟨h2,?_,?_⟩
 .rw [h2] at pr;clear h1 h2 pm;generalize zs.map pN=l at pr
  induction l generalizing ts with
  | nil=>cases pr;exact .nil
  | cons a l ih=>cases pr with | cons x y=>exact .cons x (ih y)
 have:=pm.map pN;rw [eE] at this;rw [show (pN ∘ pZ)=id from rfl,List.map_id] at this;exact this
def Jy {aa:56}{z:Pl}{nm:Str}(h:(dP aa z.1)[z.2.1]?=some nm) (i:Nat):Ld aa z i↔i < aa.length/\K0 aa nm i=true:=by
 unfold Ld K0;rw [decide_eq_true_iff];constructor
 .rintro⟨nm2,ru,h1,h2,h3⟩;rw [h] at h1;cases h1;exact⟨(a7.mp h2).1,by rw [h2];exact congrArg some h3⟩
 rintro⟨l,e⟩;obtain⟨ru,h2,h3⟩:=cH.mp e;exact⟨nm,ru,h,h2,h3⟩
def CU {aa:56}{z:Pl}{nm:Str}(h:(dP aa z.1)[z.2.1]?=some nm){y:Pl}{w:Str}:y∈eO aa nm w↔y.2=(0,w)/\Ld aa z y.1:=by
 unfold eO;rw [a9];constructor
 .rintro⟨k,hk,rfl⟩;obtain⟨h1,h2⟩:=i9.mp hk;exact⟨rfl,(Jy h k).mpr ⟨cb.mp h1,h2⟩⟩
 rintro⟨e,l⟩;obtain⟨h1,h2⟩:=(Jy h y.1).mp l;exact⟨y.1,i9.mpr ⟨cb.mpr h1,h2⟩,bV rfl e.symm⟩
def tL (aa:56)(nm w:Str):(eO aa nm w).length<=aa.length:=by
 unfold eO;rw [ay];have:=ql (K0 aa nm) (List.range aa.length);rw [iu] at this;exact this
def Mn {aa:56}{z:Pl}{nm:Str}(h:(dP aa z.1)[z.2.1]?=some nm){i:Nat}(l:Ld aa z i):nm∈hd aa:=by
 obtain⟨nm2,ru,h1,h2,h3⟩:=l;rw [h] at h1;cases h1;exact h3 ▸ JW (cv h2)
def P0 (aC:z0h):Str->Bool:=λy=>decide (y∈aC.map 27)
def lR (aa:56)(aC:z0h)(bes:108)(a b:Pl):Prop:=Nb aa (P0 aC) a b\/va aa (P0 aC) bes a b
def zE (K:aY)(C Cg:Addr):Sp:=λvs H Q _=>∃(g p:Addr)(ts:z0q)(ps:70)(aa:56)(aC:z0h)(bes:108),vs=[.ref g,.ref p]/\Lf K C Cg H g aa aC bes/\aa≠[]/\aa.length<=24/\547/\bes.length<=63/\(aX K H p 582\/aU K H p 582)/\Paired (kn H) ts ps/\ps.length<=600/\(∀l:70,l.Nodup->(∀z∈l,Bg (lR aa aC bes) ps z)->l.length<=600) /\
 ∀(L:Addr)(us:z0q)(zs:70)(H':Hp),H L=none->147->H' L=747->Paired (kn H') us zs->Nc KW (zs.map pZ)->zs.Nodup->(∀z,z∈zs↔Bg (lR aa aC bes) ps z)->Q (.ref L) H'
def hZ:aM ["grammar","places","numbers","found","begun","waiting","place","name","text"] ["grammar","places"] (ax yg):=417
def FE {C Cg:Addr}(F:jo K "closed_list" "closed_list" yg f fd)(T:Txt mg)(jW:mg "sorted"=none)(G:GC K Cg)(GN:aL P w K mg base 3 "numbers_by_name" 159 (BM K))
  (GA:aL P w K mg base 3 "part_at" ["grammar","place"] (sQ K C Cg))(GB:aL P w K mg base 3 "texts_behind" ["grammar","place","begun"] (zF K C Cg)):bO P w K mg base gb 4 f fd ["grammar","places"] (zE K C Cg):=by
 refine F.ok hZ 420 472
 .obtain⟨g,p,ts,ps,aa,aC,bes,rfl,_⟩:=h;rfl
 obtain⟨g,p,ts,ps,aa,aC,bes,rfl,gv,p_,r8,h8,h63,hp,C0,lps,Gi,q⟩:=h;have hu:=fc hr;refine⟨_,aj (aF (i:=2) hZ.nd rfl 68 (bZ GN hr rfl 664))
  (aj (aF (i:=3) hZ.nd rfl 68 zN)
  (aj (aF (i:=4) hZ.nd rfl 68 zN)
  (aj (aF (i:=5) hZ.nd rfl 68 (bu ke rfl T.lst jO 556))
  (aj (iX c_ (iW (pv 5) (λ_=>rfl))
   (aj (aF (i:=6) hZ.nd rfl 68 (PF iN PySem.F.slot_list_pop PySem.F.type_list_pop P4 (pv 5)))
   (av (dq (eM (de hu (pv 6) (pv 3)))
    (aj (gC hu (pv 3) (pv 6) h_ rfl)
    (aj (aF (i:=7) hZ.nd rfl 68 (bZ GA hr rfl (ae 72 (ae (pv 6) ao))))
    (av (dq (cS (PM hu) (pv 7) (pv 2) rfl)
     (av (cP c_ rfl (bP (bZ GB hr rfl (ae 72 (ae (pv 6) (ae (pv 4) ao))))) (az (i:=8) hZ.nd rfl (Or.inr rfl))
      (av (cY (jj iN xC PySem.F.type_list_extend FO (pv 5) (ae
       (cm ["number"] [(8,"text")] rfl (bP (d5 hu (pv 2) (pv 7) 109)) 487 nofun rfl nofun
        (λ_ _ _ _ _=>az (i:=0) (show (["number","text"]:z0t).Nodup by decide +kernel) rfl 68) 539
        (λ_ _ _ _ _=>bG (ae 72 (ae aA 556)))) ao))))))
     bL))))
    bL))))
  (av (bS (bo (AD rfl) rfl jW PyProof.Rows.boot_sorted (ae (pv 3) ao)))))))),?_⟩
 nofun
 have QT:=gv;obtain⟨Hg,rs,ss,bt,⟨gx,fs,R2,S2,eg,l1,l2,l3,l4,e1,e2,_,__1⟩,dA,Xg⟩:=gv;refine⟨_,rfl,g,Cg,gx,fs,_,rfl,eg,G.cls,G.a1,l1,R2,rs,aa,rfl,aX.of e1,dA,∅,λd RN H1 Xf s1 nv UY _=>?_⟩;intro Fa hFa;have k2:=ah hFa (.dT []);have XA:upd H1 Fa (.dT []) Fa=some (.dT []):=af;generalize upd H1 Fa (.dT [])=H2 at k2 XA;intro Ba Xj;have k3:=ah Xj (.dT []);have eB3:upd H2 Ba (.dT []) Ba=some (.dT []):=af;have nFB:Fa≠Ba:=λy=>by rw [<-y,XA] at Xj;cases Xj
 generalize upd H2 Ba (.dT [])=H3 at k3 eB3;have s3:=(s1.trans k2).trans k3;refine⟨_,rfl,p,_,rfl,hp.imp (λh=>s3.seq h) (λh=>s3.tup h),λWa Se=>?_⟩;have k4:=ah Se (.lst 582);have eW4:upd H3 Wa (.lst 582) Wa=480:=af;have Zi:Ba≠Wa:=λy=>by rw [<-y,eB3] at Se;cases Se
 have Zg:Fa≠Wa:=λy=>by rw [<-y,k3 _ _ XA] at Se;cases Se
 generalize upd H3 Wa (.lst 582)=H4 at k4 eW4;have fF:H1 Fa=none:=hFa;have fB:H1 Ba=none:=none_of k2 Xj;have fW:H1 Wa=none:=none_of (k2.trans k3) Se;have uU:aD H1 H4:=(k2.trans k3).trans k4;have gv1:=QT.same s1;refine⟨λm σ H5=>∃(us:z0q)(fs ws:70)(bs:z0g)(y6 y7 y8:126),σ=[aZ g,aZ p,aZ d,aZ Fa,aZ Ba,aZ Wa,y6,y7,y8]/\ClS H1 H5 Fa Ba Wa us fs ws bs/\G6 (Nb aa (P0 aC)) (va aa (P0 aC) bes) ps fs ws bs/\m=(601 - fs.length) * 100000+ws.length/\ws.length<=600+fs.length * 24024/\bs.length<=fs.length,
  ⟨_,ts,[],ps,[],none,none,none,rfl,⟨uU,⟨_,k4 _ _ (k3 _ _ XA),rfl⟩,⟨_,k4 _ _ eB3,rfl⟩,eW4,Paired.cJ C0 λ_ _ z=>k4 _ _ (s3 _ _ z)⟩,G6.init _ _ _,rfl,∅,aE _⟩,?_⟩
 rintro m σ H5 ⟨us,wg,ws,bs,y6,y7,y8,rfl,cs,ct,em,lw,lb⟩;refine⟨_,rfl,!(us.map V.ref).isEmpty,.inl ⟨_,aX.of cs.eW,rfl⟩,?_⟩;refine 566
 .obtain⟨uI,u,OJ,z,rfl,rfl,pw',hz⟩:=zO cs.pw (λy=>by rw [y] at c;cases c);refine⟨_,λ_ _ h=>h,?_⟩;obtain⟨kf,eF,QC⟩:=cs.eF;obtain⟨kb,eB,QD⟩:=cs.eB;have eW:H5 Wa=some (.lst (uI.map V.ref++[V.ref u])):=by have:=cs.eW;rw [aP] at this;exact this
  rw [bp] at em lw;simp only [mi] at em lw;have lkf:kf.length=wg.length:=by have:=congrArg List.length QC;rw [ay,ay] at this;exact this
  have lkb:kb.length=bs.length:=by have:=congrArg List.length QD;rw [ay,ay] at this;exact this
  have lfs:wg.length<=600:=Gi wg ct.nd λy hy=>ct.snd y (.inl hy);refine⟨_,rfl,.inl ⟨rfl,_,aX.of eW⟩,Wa,_,.ref u,rfl,rfl,eW,IB,?_⟩;rw [List.dropLast_concat];have Yr:aD H1 (upd H5 Wa 726):=λb o hb=>by rw [ai (λy=>by rw [y,fW] at hb;cases hb)];exact cs.sm b o hb
  have Sx:upd H5 Wa 726 Fa=some (.dT kf):=by rw [ai Zg];exact eF
  have eB6:upd H5 Wa 726 Ba=some (.dT kb):=by rw [ai Zi];exact eB
  have eW6:upd H5 Wa 726 Wa=some 726:=af;have YS:Paired (kn (upd H5 Wa 726)) uI OJ:=Paired.cJ pw' λ_ _ y=>dI eW 610 y;have RX:kn (upd H5 Wa 726) u z:=dI eW 610 hz;generalize upd H5 Wa 726=H6 at Yr Sx eB6 eW6 YS RX;refine⟨_,rfl,_,rfl,Fa,_,rfl,b8.t (k:=v7 z) Sx RX,_,rfl,?_⟩;by_cases RW:z∈wg
  .rw [(su kf (v7 z) QC).1 (EA.mpr RW)];refine kI ?_;exact⟨_,∅,uI,wg,OJ,bs,_,_,_,rfl,⟨Yr,⟨kf,Sx,QC⟩,⟨kb,eB6,QD⟩,eW6,YS⟩,ct.old RW,rfl,∅,lb⟩
  have vn:=(su kf (v7 z) QC).2 λy=>RW (EA.mp y);rw [vn];refine tR ?_;refine⟨_,rfl,_,rfl,Fa,_,rfl,ma.t (k:=v7 z) Sx RX (bX ∅),?_⟩;rw [lB _ vn];have RF:aD H1 (upd H6 Fa 712):=λb o hb=>by rw [ai (λy=>by rw [y,fF] at hb;cases hb)];exact Yr b o hb
  have eF7:upd H6 Fa 712 Fa=some 712:=af;have Rc:upd H6 Fa 712 Ba=some (.dT kb):=by rw [ai (dC nFB)];exact eB6
  have Xx:upd H6 Fa 712 Wa=some 726:=by rw [ai (dC Zg)];exact eW6
  have YR:Paired (kn (upd H6 Fa 712)) uI OJ:=Paired.cJ YS λ_ _ y=>dI Sx 610 y;have JG:kn (upd H6 Fa 712) u z:=dI Sx 610 RX;generalize upd H6 Fa 712=H7 at RF eF7 Rc Xx YR JG;have U5:(kf++[(v7 z,V.bl true)]).map 27=(wg++[z]).map v7:=by rw [aP,aP,QC];rfl
  have aa2:wg.length+1<=600:=by
   have:=Gi (wg++[z]) (iM.mpr ⟨ct.nd,dU.mpr ⟨58,eG⟩,λa ha b hb e=>RW (by rw [<-bj.mp hb,<-e];exact ha)⟩) λy hy=>by
    rcases cw.mp hy with hy | hy
    .exact ct.snd y (.inl hy)
    exact ct.snd y (.inr (eZ _ hy))
   rw [bp] at this;exact this
  refine⟨_,rfl,_,rfl,g,u,z,aa,aC,bes,rfl,gv1.same RF,p_,aU.of JG,λH8 s8=>?_⟩;have WK:=RF.trans s8;have nv8:=nv.same WK;have stop:∀y7 y8:126,(∀i,¬Ld aa z i)->∃m',m' < m/\∃(us:z0q)(fs ws:70)(bs:z0g)(y6 y7' y8':126),[some (V.ref g),aZ p,aZ d,aZ Fa,aZ Ba,aZ Wa,aZ u,y7,y8]=[some (V.ref g),aZ p,aZ d,aZ Fa,aZ Ba,aZ Wa,y6,y7',y8']/\ClS H1 H8 Fa Ba Wa us fs ws bs/\G6 (Nb aa (P0 aC)) (va aa (P0 aC) bes) ps fs ws bs/\m'=(601 - fs.length) * 100000+ws.length/\ws.length<=600+fs.length * 24024/\bs.length<=fs.length:=λy7 y8 no=>by
   have cn:=ct.new (new:=[]) (uM:=bs) RW (λy hy=>nomatch hy) (λy r=>absurd r.1 (no _)) (λy r=>absurd r.1 (no _)) (λq hq=>.inl hq) va.dep;rw [dG] at cn;exact⟨_,by rw [bp];simp only [mi];omega,uI,wg++[z],OJ,bs,_,_,_,rfl,⟨WK,⟨_,s8 _ _ eF7,U5⟩,⟨kb,s8 _ _ Rc,QD⟩,s8 _ _ Xx,Paired.cJ YR λ_ _ y=>s8 _ _ y⟩,cn,rfl,by rw [bp];simp only [mi];omega,642⟩
  cases U0:(dP aa z.1)[z.2.1]? with
  | none =>
   refine⟨_,rfl,_,rfl,d,_,false,.inr ⟨rfl,rfl,_,.inl nv8.hd⟩,_,rfl,?_⟩;refine kI ?_;exact stop _ _ λi ⟨nm,ru,h1,_,__1⟩=>by rw [U0] at h1;cases h1
  | some nm =>
   refine⟨_,rfl,_,rfl,d,_,_,.inl ⟨_,b8.k (k:=.inr nm) nv8.hd,rfl⟩,_,rfl,?_⟩;have mem:(aQ (RN.map iz) (Sum.inr nm)).isSome=true↔nm∈hd aa:=by rw [dj,iE,UY];exact cC
   refine fO (λc2=>?_) (λc2=>stop _ _ λi l=>c2 (mem.mpr (Mn U0 l)));obtain⟨pq,My,epq⟩:=a9.mp (UY ▸ mem.mp c2);subst epq;refine⟨_,rfl,_,rfl,_,rfl,g,u,Ba,z,aa,aC,bes,kb,rfl,gv1.same WK,p_,h8,h63,aU.of (s8 _ _ JG),s8 _ _ Rc,∅,λL xG H9 fL sx eL eB9 ltx uL=>?_⟩;have eB8:=s8 _ _ Rc;have sm9:aD H1 H9:=λb o hb=>sx b o (λy=>by rw [y,fB] at hb;cases hb) (WK b o hb);have eF9:=sx _ _ nFB (s8 _ _ eF7);have eW9:=sx _ _ (dC Zi) (s8 _ _ Xx);have pw9:Paired (kn H9) uI OJ:=Paired.cJ YR λ_ _ y=>vG sx eB8 (s8 _ _ y) λ_ x=>by cases x
   have nv9:=nv.same sm9;have nLW:L≠Wa:=λy=>by rw [y,s8 _ _ Xx] at fL;cases fL
   obtain⟨SD,hb9,aaj,aai,lb9⟩:∃SD:z0g,(if 627=true then kb else kb++[(d_ z.1 z.2.1,V.bl true)]).map 27=SD.map (λq=>d_ q.1 q.2)/\(∀q∈SD,q∈bs\/(q=(z.1,z.2.1)/\(z.1,z.2.1)∉bs))/\(627=true->(z.1,z.2.1)∈bs)/\SD.length<=bs.length+1:=by
    have vm:=su kb (d_ z.1 z.2.1) QD;by_cases hb:(z.1,z.2.1)∈bs
    .rw [vm.1 (AH.mpr hb),ar rfl];exact⟨bs,QD,λq hq=>.inl hq,λ_=>hb,∅⟩
    have vn2:=vm.2 λy=>hb (AH.mp y);rw [vn2];refine⟨bs++[(z.1,z.2.1)],?_,λq hq=>?_,(λy=>by cases y),by rw [bp];simp⟩
    .rw [aq 90,aP,aP,QD];rfl
    rcases cw.mp hq with hq | hq
    .exact .inl hq
    exact .inr ⟨bj.mp hq,hb⟩
   generalize (if 627=true then kb else kb++[(d_ z.1 z.2.1,V.bl true)])=kb9 at eB9 hb9;refine⟨L,rfl,⟨_,aX.of eL⟩,?_⟩;refine du (xs:=xG.map V.str) (λi σ HA=>∃(y8:126)(qS:z0q),σ=[aZ g,aZ p,aZ d,aZ Fa,aZ Ba,aZ Wa,aZ u,some (.str pq.1),y8]/\aD H1 HA/\HA Fa=some 712/\HA Ba=some (.dT kb9)/\HA L=some (.lst (xG.map V.str))/\HA Wa=some (.lst ((uI++qS).map V.ref))/\Paired (kn HA) (uI++qS) (OJ++(xG.take i).flatMap (eO aa pq.1))) ⟨_,[],rfl,sm9,eF9,eB9,eL,by rw [dG];exact eW9,by rw [dG];simpa using pw9⟩ ?_ ?_ ?_
   .rintro i σ HA _ ⟨y8,qS,rfl,_,_,_,Xz,_⟩;exact aX.of Xz
   .intro i x σ HA ex Vo
    ac_nf0
    obtain⟨y8,qS,rfl,sA,eFA,eBA,Xz,VL,TR⟩:=Vo;rw [bx] at ex;obtain⟨w1,ew,rfl⟩:=473;have Y3:=nv.same sA;have QH:b8 HA d (.str pq.1) (some (.ref pq.2)):=by
     have:=b8.k (k:=.inr pq.1) Y3.hd;rw [fM RN Y3.n1 pq My] at this;exact this
    have eq0:=Y3.lst pq My;refine goN ?_
    ac_nf
    refine⟨_,rfl,.inl ⟨rfl,_,aX.of VL⟩,_,rfl,_,rfl,d,_,rfl,QH,pq.2,rfl,⟨_,aX.of eq0⟩,λD hD=>?_⟩;have lnk:=tL aa pq.1 w1;have lnn:(nums aa pq.1 aa.length).length=(eO aa pq.1 w1).length:=by unfold nums eO;rw [ay,ay]
    have nDW:D≠Wa:=λy=>by rw [y,VL] at hD;cases hD
    refine dB (xs:=(nums aa pq.1 aa.length).map V.int) (λj ys σ2 H2=>∃vs:z0q,ys=vs.map V.ref/\Paired (kn H2) vs ((eO aa pq.1 w1).take j)/\(∃y0,σ2=[y0,some (.str w1)])/\aD HA H2/\H2 D=some (.lst ys)) ⟨[],rfl,.nil,⟨none,rfl⟩,ah hD _,af⟩ ?_ ?_ ?_
    .rintro j ys σ2 H2 _ ⟨vs,_,_,_,i7,_⟩;exact aX.of (i7 _ _ eq0)
    .rintro j x ys σ2 H2 Dd ⟨vs,rfl,RM,⟨y0,rfl⟩,i7,eD2⟩;obtain⟨k,ek,en⟩:∃k:Nat,x=V.int (k:Int)/\(eO aa pq.1 w1)[j]?=some (k,0,w1):=by
      unfold nums at Dd;rw [eE,bx] at Dd;obtain⟨k,hk,e⟩:=cH.mp Dd;exact⟨k,e.symm,by unfold eO;rw [bx,hk];rfl⟩
     subst ek;have lv:=bf RM;rw [fQ] at lv;refine goN (A7 ?_);refine⟨_,rfl,_,rfl,OF,λt ht=>?_⟩;have k3:=ah ht (.tup [V.int (k:Int),V.int 0,V.str w1]);have et:kn (upd H2 t (.tup [V.int (k:Int),V.int 0,V.str w1])) t (k,0,w1):=af;generalize upd H2 t (.tup [V.int (k:Int),V.int 0,V.str w1])=H3 at k3 et;have eD3:=k3 _ _ eD2;refine⟨eD3,507,vs++[t],by rw [aP];rfl,?_,421,jE (i7.trans k3) hD,af⟩;rw [di,en];exact ff (Paired.cJ RM λ_ _ y=>dI eD3 610 (k3 _ _ y)) (dI eD3 610 et)
    rintro ys σ2 H2 ⟨vs,rfl,RM,_,i7,eD2⟩;rw [ay,lnn,dW] at RM;have lv:=bf RM;have lpw:=bf TR;have eW2:=i7 _ _ VL;have lfl:((xG.take i).flatMap (eO aa pq.1)).length<=24024:=by
     have h:∀l:z0t,(l.flatMap (eO aa pq.1)).length<=l.length * 24:=λl=>by
      induction l with
      | nil=>simp
      | cons a r ih=>rw [kU,bp,cf];have:=tL aa pq.1 a;omega
     have h2:=h (xG.take i);rw [fQ] at h2;omega
    rw [bp,bp] at lpw;refine⟨Wa,D,_,_,rfl,rfl,eW2,eD2,(by rw [ay,ay,bp,mK];omega),?_⟩;have kW:∀y o,y≠Wa->H2 y=65->upd H2 Wa (.lst ((uI++qS).map V.ref++vs.map V.ref)) y=65:=λy o ny hy=>by rw [ai ny];exact hy
    refine⟨_,qS++vs,rfl,λb o hb=>kW b o (λy=>by rw [y,fW] at hb;cases hb) (i7 _ _ (sA b o hb)),kW _ _ Zg (i7 _ _ eFA),kW _ _ Zi (i7 _ _ eBA),kW _ _ nLW (i7 _ _ Xz),by rw [af,<-aP,dH],?_⟩;rw [<-dH,di,ew,rW,<-dH];refine Paired.V3 (Paired.cJ TR λ_ _ y=>dI eW2 610 (i7 _ _ y)) ?_;have:(some w1).toList.flatMap (eO aa pq.1)=eO aa pq.1 w1:=58
    rw [this];exact Paired.cJ RM λ_ _ y=>dI eW2 610 y
   rintro σ HA ⟨y8,qS,rfl,sA,eFA,eBA,Xz,VL,TR⟩;rw [ay,dW] at TR;have ln:((xG.flatMap (eO aa pq.1))).length<=24024:=by
    have:∀l:z0t,(l.flatMap (eO aa pq.1)).length<=l.length * 24:=λl=>by
     induction l with
     | nil=>simp
     | cons a r ih=>rw [kU,bp,cf];have:=tL aa pq.1 a;omega
    have:=this xG;omega
   have cn:=ct.new (new:=xG.flatMap (eO aa pq.1)) (uM:=SD) RW (λy hy=>?_) (λy r=>?_) (λy r=>?_) aaj va.dep
   .refine⟨_,?_,uI++qS,wg++[z],OJ++xG.flatMap (eO aa pq.1),SD,_,_,_,rfl,⟨sA,⟨_,eFA,U5⟩,⟨_,eBA,hb9⟩,VL,TR⟩,cn,rfl,?_,?_⟩
    .rw [bp,bp];simp only [mi];omega
    .rw [bp,bp];simp only [mi];omega
    rw [bp];simp only [mi];omega
   .obtain⟨w,hw,h2⟩:=iK.mp hy;obtain⟨e,l⟩:=(CU U0).mp h2;rcases (uL w).mp hw with ⟨h3,h4⟩ | ⟨_,h4⟩
    .exact .inl ⟨l,by rw [e],by rw [e];exact h3,h4⟩
    exact .inr ⟨l,by rw [e],by rw [e];exact h4⟩
   .exact iK.mpr ⟨y.2.2,(uL _).mpr (.inl ⟨r.2.2.1,r.2.2.2⟩),(CU U0).mpr ⟨bV r.2.1 rfl,r.1⟩⟩
   cases hv:627 with
   | true=>exact .inl (aai hv)
   | false=>exact .inr (iK.mpr ⟨y.2.2,(uL _).mpr (.inr ⟨hv,r.2.2⟩),(CU U0).mpr ⟨bV r.2.1 rfl,r.1⟩⟩)
 have Qr:us=[]:=by
  cases us with
  | nil=>rfl
  | cons a l=>exact absurd rfl c
 have Qq:ws=[]:=by
  have:=cs.pw;rw [Qr] at this;cases this;rfl
 subst Qr Qq;obtain⟨kf,eF,QC⟩:=cs.eF;refine⟨_,rfl,Fa,kf,wg.map pZ,rfl,eF,by rw [QC,eE];rfl,λL jc lU fL pr pm Nu=>?_⟩;obtain⟨h2,pr2,pm2⟩:=zG pr pm;have sL:=ah fL (.lst (jc.map V.ref));refine q L jc (lU.map pN) _ (none_of (s1.trans cs.sm) fL) ((s1.trans cs.sm).trans sL) af (Paired.cJ pr2 λ_ _ y=>sL _ _ y) (by rw [<-h2];exact Nu) (pm2.nodup_iff.mpr ct.nd) λy=>?_;rw [pm2.mem_iff,ct.done];rfl
end
end fC
namespace ST
open PySem PySem.Spec PyProof.Rows L2
section
variable {P:Program}{w:World}
def oX (h:Heap)(zs:List P3)(a:Addr):Prop:=∃(o:Obj)(bs:z0q) (n:Nat),h.get? a=65/\o.cls=378 /\ o.data=.seq (bs.map Value.ref).toArray n/\Paired (λb z=>zg h z b) bs zs
def zg.key {h:Heap}{z:P3}{a:Addr}(x:zg h z a):IsTupleKey (aK P w) h (Cu z) a:=by
 obtain⟨o,t,u,v,n,h1,h2,h3⟩:=x;exact⟨o,_,n,h1,h2,h3,.cons (lI P w _ _) (.cons (lI P w _ _) (.cons (qv P w _ _) .nil))⟩
theorem oX.inj {h:Heap}{x y:List P3}{a:Addr}(hx:oX h x a)(hy:oX h y a):x=y:=by
 obtain⟨o,bs,n,h1,h2,h3,h4⟩:=hx;obtain⟨o',uM,n',u4,h2',Gb,Xk⟩:=hy;rw [h1] at u4;cases u4;rw [h3] at Gb;have e:(bs.map Value.ref)=uM.map Value.ref:=by injection Gb with e;have:=congrArg Array.toList e;simpa using this
 have e2:bs=uM:=(List.map_inj_right (λa b z=>by injection z)).mp e;subst e2;clear h3 Gb e
 induction h4 generalizing y with
 | nil=>cases Xk;rfl
 | cons a b ih=>cases Xk with | cons a' b'=>rw [a.inj a',ih b']
theorem oX.keep {h h':Heap}{zs:List P3}{a:Addr}(x:oX h zs a)(k:∀b o xs n,o.cls=378 -> o.data=.seq xs n->h.get? b=65->162=65):oX h' zs a:=by
 obtain⟨o,bs,n,h1,h2,h3,h4⟩:=x;exact⟨o,bs,n,k _ _ _ _ h2 h3 h1,h2,h3,i0 (λb z i=>i.keep k) h4⟩
def oX.typeIs {s:Shared}{zs:List P3}{a:Addr}(x:oX s.heap zs a):s.TypeIs 475 "tuple" := let ⟨o,_,_,h1,h2,_,_⟩:=x;⟨o,h1,h2⟩
def Co (P:Program)(w:World)(zs:List P3):Int:=reduceHash (Builtin.Tuple.tupleHashOf (zs.map λz=>tupleKeyHash (aK P w) (Cu z)))
variable {A:Around}{E:z0b}{s:Shared}
def LP {zs:List P3}{a:Addr}{Q:Int->146}(hu:A.units+4 < cLine)(hk:oX s.heap zs a)(h:Q (Co P w zs) { s with toks:=s.toks+(4 * zs.length+1) }):wpAny (model P w) A (pyHash 475) Q E s:=by
 have hT:=hk.typeIs;obtain⟨o,bs,n,ho,_,hd,hi⟩:=hk;unfold pyHash
 first | unfold pyHashByItsType | skip
 first | refine au (wpAny_cRoomFor_or (.inr ∅) ?_) | skip
 refine au (mT hT F.slot_tuple_hash.lookup ?_);show wpAny _ _ (if (some (Value.builtin "tuple.__hash__") == some Value.none)=true then _ else _) Q E s;rw [aq (by rw [beq_builtin_none];exact fg)];refine au (mT hT F.slot_tuple_hash.lookup ?_);show wpAny _ _ (callSpecialIfBoundUnlessNone? 475 "__hash__" _ >>= _) Q E s;refine au (wpAny_callSpecialIfBoundUnlessNone?_slot hT F.slot_tuple_hash (i_ F.slot_tuple_hash hT F.entry_tuple_hash ?_ (F.args_tuple_hash_1 _)));show wpAny _ _ (Builtin.Tuple.tupleItemsOf 475 >>= _) _ _ s;refine au (wpAny_tupleItemsOf ho hd ?_);refine au ?_;rw [<-Array.forIn_toList];refine wpAny_forIn_list _ (λrest (b:Array Int) s'=>Exists λdone=>Exists λleft=>Exists λuM=>zs=done++left/\rest=uM.map Value.ref/\Paired (λb z=>zg s.heap z b) uM left/\b.toList=done.map (λz=>tupleKeyHash (aK P w) (Cu z))/\s'={ s with toks:=s.toks+4 * done.length }) _ ?_ ?_ _ _ ⟨[],zs,bs,rfl,rfl,hi,rfl,rfl⟩
 .rintro x rest b s' ⟨done,left,uM,rfl,hr,hl,hb,rfl⟩;cases hl with
  | nil=>cases hr
  | @cons c z SE NR h1 R7 =>
   cases hr;refine au (wpAny_pyHash_tuple (knd:=aK P w) (ks:=Cu z) (by simp;try omega) h1.key ?_)
   first
    | exact aJ ⟨done++[z],NR,SE,58,rfl,R7,by simp [hb],by simp [Cu,Nat.mul_add,pj]⟩
    | exact au (aJ (aJ ⟨done++[z],NR,SE,58,rfl,R7,by simp [hb],by simp [Cu,Nat.mul_add,pj]⟩))
 rintro b s' ⟨done,left,uM,rfl,hr,hl,hb,rfl⟩;cases hl with
 | cons _ _=>cases hr
 | nil =>
  rw [dG] at h;show wpAny _ _ (retInt (Builtin.Tuple.tupleHashOf b.toList)) _ _ _;rw [hb];refine wpAny_ret_mkInt ?_;unfold Co reduceHash at h;generalize Builtin.Tuple.tupleHashOf (done.map λz=>tupleKeyHash (aK P w) (Cu z))=z at h ⊢;show wpAny _ _ (if (decide (-(2:Int) ^ 63<=z) && decide (z < 2 ^ 63))=true then _ else _) Q E _;by_cases hr:(decide (-(2:Int) ^ 63<=z) && decide (z < 2 ^ 63))=true
  .rw [ar hr];rw [ar hr] at h;exact aJ (by simpa [pj] using h)
  rw [aq hr];rw [aq hr] at h;exact au (jq (aJ (by simpa [pj] using h)))
def TU {x y:List P3}{a b:Addr}{Q:Bool->146}(hu:A.units+4 < cLine)(hx:oX s.heap x a)(hy:oX s.heap y b)(h:Q (decide (x=y)) s):wpAny (model P w) A (eqBool 475 (.ref b)) Q E s:=by
 by_cases Xi:a=b
 .subst Xi;obtain rfl:=hx.inj hy;rw [dS rfl] at h;exact SeqAt.EqAt.same 475 P w E Q h
 have hxt:=hx.typeIs;have hyt:=hy.typeIs;obtain⟨o,bs,n,h1,h2,h3,h4⟩:=hx;obtain⟨o',cs,n',u4,h2',Gb,Xk⟩:=hy;unfold eqBool
 try with_reducible refine gr ?_
 show wpAny _ _ (if (Value.ref a == Value.ref b)=true then _ else _) Q E s;rw [aq (by intro z;exact Xi (by have:=eq_of_beq z;injection this))];refine au (wpAny_richCompare_same_room (op:=.Eq) hxt hyt F.slot_tuple_eq (i_ F.slot_tuple_eq hxt F.entry_tuple_eq ?_ (F.args_tuple_eq_2 _ _)) ∅);show wpAny _ _ (isInstance (.ref b) (378) >>= _) _ _ s;refine au (mX hyt isSubtype_tuple_tuple ?_);simp only [ph,kK,if_false];refine au (wpAny_tupleItemsOf h1 h3 ?_);refine au (wpAny_tupleItemsOf u4 Gb ?_);refine au ?_;have fin:∀v:Bool,v=decide (x=y)->Q v s:=λv e=>by rw [e];exact h
 refine wpAny_forIn_list _ (λrest r s'=>r.1=none/\s'=s/\Exists λx'=>Exists λy'=>Exists λuM=>Exists λVS=>rest=List.zip (uM.map Value.ref) (VS.map Value.ref)/\Paired (λb z=>zg s.heap z b) uM x'/\Paired (λb z=>zg s.heap z b) VS y'/\decide (x'=y')=decide (x=y)/\(uM.length == VS.length)=(bs.length == cs.length)) _ ?_ ?_ _ _ ⟨rfl,rfl,x,y,bs,cs,rfl,h4,Xk,rfl,rfl⟩
 .rintro⟨u,v⟩ rest r s' ⟨hr,rfl,x',y',uM,VS,hz,Qo,N0,MH,bE⟩;cases Qo with
  | nil=>simp at hz
  | @cons c1 z1 SE x2 g1 hx2 =>
   cases N0 with
   | nil=>simp at hz
   | @cons c2 z2 cs2 y2 g2 hy2 =>
    simp only [bN,List.zip_cons_cons,List.cons.injEq,jT] at hz;obtain⟨⟨rfl,rfl⟩,rfl⟩:=hz;refine au (wpAny_eqBool_tuple (knd:=aK P w) (x:=Cu z1) (y:=Cu z2) (by simp;try omega) g1.key g2.key ?_)
    by_cases hk:z1=z2
    .subst hk;rw [dS rfl];simp only [ph,kK,if_false];refine aJ ⟨rfl,rfl,x2,y2,SE,cs2,rfl,hx2,hy2,?_,by simpa using bE⟩;rw [<-MH];by_cases hxy:x2=y2
     .simp [hxy]
     simp [hxy]
    rw [gh (λz=>hk (En z))];simp only [Bool.not_false,if_true];have hf:decide (x=y)=false:=by rw [<-MH];simp [hk]
    exact au (aJ (aJ (aJ ⟨_,rfl,(λe=>nomatch e),nQ (fin _ hf.symm)⟩)))
 rintro⟨r1,r2⟩ s' ⟨hr,rfl,x',y',uM,VS,hz,Qo,N0,MH,bE⟩;simp only at hr;subst hr;refine aJ ⟨_,rfl,(λe=>nomatch e),nQ (fin _ ?_)⟩;simp only [cq,ay];rw [<-MH,<-bE];cases Qo with
 | nil =>
  cases N0 with
  | nil=>simp
  | cons _ _=>simp
 | cons _ _ =>
  cases N0 with
  | nil=>simp
  | cons _ _=>simp at hz
def Iq {zs:List P3}{a:Addr}{Q:Bool->146}(hk:oX s.heap zs a)(h:Q true s):wpAny (model P w) A (eqIsQuiet 8 475) Q E s:=by
 have hT:=hk.typeIs;obtain⟨o,bs,n,h1,h2,h3,h4⟩:=hk;have in7:∀(b:Addr)(z:P3),zg s.heap z b->∀Q':Bool->146,Q' true s->wpAny (model P w) A (eqIsQuiet 7 (.ref b)) Q' E s:=λb z h4 Q' q'=>by
  have QR:=(h4.key (P:=P) (w:=w)).typeIs;obtain⟨o,items,n,ho,_,hd,hi⟩:=h4.key (P:=P) (w:=w);unfold eqIsQuiet;refine au (mT QR F.slot_tuple_eq.lookup ?_);show wpAny _ _ (isInstance (.ref b) (378) >>= _) _ _ s;refine au (mX QR isSubtype_tuple_tuple ?_);simp only [ph,kK,if_false];refine au (mP ho hd ?_);refine au ?_;show wpAny _ _ (forIn items _ _) _ _ s;rw [<-Array.forIn_toList];refine wpAny_forIn_list _ (λrest r s'=>r.1=none/\s'=s/\∀v∈rest,carriedByValue v=true) _ ?_ ?_ _ _ ⟨rfl,rfl,hi.byValue⟩
  .rintro v rest r s' ⟨hr,rfl,jM⟩;rw [eqIsQuiet_byValue _ (jM v a8)];refine au (aJ ?_);simp only [ph,kK,if_false];exact aJ ⟨rfl,rfl,λu hu'=>jM u (bA _ hu')⟩
  rintro⟨r1,r2⟩ s' ⟨hr,rfl,_⟩;simp only at hr;subst hr;exact aJ q'
 unfold eqIsQuiet;refine au (mT hT F.slot_tuple_eq.lookup ?_);show wpAny _ _ (isInstance 475 (378) >>= _) _ _ s;refine au (mX hT isSubtype_tuple_tuple ?_);simp only [ph,kK,if_false];refine au (mP h1 h3 ?_);refine au ?_;show wpAny _ _ (forIn ((bs.map Value.ref).toArray) _ _) _ _ s;rw [<-Array.forIn_toList];refine wpAny_forIn_list _ (λrest r s'=>r.1=none/\s'=s/\Exists λuM=>Exists λlU=>rest=uM.map Value.ref/\Paired (λb z=>zg s.heap z b) uM lU) _ ?_ ?_ _ _ ⟨rfl,rfl,bs,zs,rfl,h4⟩
 .rintro v rest r s' ⟨hr,rfl,uM,lU,e,hp⟩;cases hp with
  | nil=>cases e
  | @cons c z SE zs2 g1 g2 =>
   cases e;refine au (in7 c z g1 _ ?_);simp only [ph,kK,if_false];exact aJ ⟨rfl,rfl,SE,zs2,rfl,g2⟩
 rintro⟨r1,r2⟩ s' ⟨hr,rfl,_⟩;simp only at hr;subst hr;exact aJ h
end
def C1 (P:Program)(w:World):HeapKind P w (List P3) where
 is:=oX
 hash:=Co P w
 draws:=λzs=>4 * zs.length+1
 room:=λA=>A.units+4 < cLine
 inj:=λhx hy=>hx.inj hy
 keeps:=λ{h h' k a d o es ep} x ho hd hs=>x.keep λb ob xs n _ ed e=>by
  rw [hs.2 b]
  .exact e
  rintro rfl;rw [ho] at e;cases e;rw [hd] at ed;cases ed
 pyHash:=λhu hk h=>LP hu hk h
 eqBool:=λhu hx hy h=>TU hu hx hy h
 quiet:=λhk h=>Iq hk h
abbrev EN:=List P3×Addr×V
def Wj (x:EN)(y:List P3×Addr×Value):Prop:=x.1=y.1/\x.2.1=y.2.1/\RelV x.2.2 y.2.2
def lH (P:Program)(w:World)(a:Addr)(xs:List EN):HO:=.ext λh=>663/\∃(o:Obj)(es:Array DictEntry) (ep:Nat)(vs:List (List P3×Addr×Value)),h.get? a=65/\o.ExactDict/\o.data=.dict es ep/\es.toList=vs.map (entryOfKey (C1 P w))/\(vs.map 27).Nodup/\Paired Wj xs vs
def CH {P:Program}{w:World}{H:Hp}{h:Heap}{a:Addr}{xs:List EN}{vs:List (List P3×Addr×Value)}(hs:663){o:Obj}{es:Array DictEntry}{ep:Nat}(h1:h.get? a=65)(h2:o.ExactDict)(h3:o.data=.dict es ep)(h4:es.toList=vs.map (entryOfKey (C1 P w)))(h5:(vs.map 27).Nodup)(h6:Paired Wj xs vs):bR P w H h a (lH P w a xs) :=
 ⟨⟨hs,o,es,ep,vs,h1,h2,h3,h4,h5,h6⟩,⟨o,h1⟩,λha hb ⟨c1,o,es,ep,vs,c2,c3,c4,c5,c6,c7⟩ k=>⟨c1,o,es,ep,vs,k o c2,c3,c4,c5,c6,c7⟩⟩
def Fs (K:aY)(H:Hp)(b:Addr)(zs:List P3):Prop:=∃ts:z0q,aU K H b 582/\Paired (λt z=>aU K H t (yo z)) ts zs
section
variable {X:Cx}{ag:z0e}{σ:L2.St}{H:Hp}{s:Shared}{a b:Addr}{xs:List EN}{zs:List P3}
def Fs.is (I:87)(h:Fs X.K H b zs):oX s.heap zs b:=by
 obtain⟨ts,h1,h2⟩:=h;obtain⟨aT,rv,⟨o,g1,g2,n,g3⟩,hz⟩:=I.tuple h1;rw [vQ rv] at g3;exact⟨o,ts,n,g1,g2,g3,i0 (λt z h=>NI I h) h2⟩
def Et (I:87)(e:H a=some (lH X.prog X.w a xs))(r:∀x∈xs,Fs X.K H x.2.1 x.1):663/\Exists λvs=>s.heap.DictOfH (C1 X.prog X.w) a vs/\Paired Wj xs vs:=by
 obtain⟨c1,o,es,ep,vs,h1,h2,h3,h4,h5,h6⟩:=(show bR X.prog X.w H s.heap a (lH X.prog X.w a xs) from I.bI a _ e).1;refine⟨c1,vs,⟨o,es,ep,h1,h2,h3,h4,λx hx=>?_,h5⟩,h6⟩;clear h4 h5 e
 induction h6 with
 | nil=>cases hx
 | @cons x2 y KP Nm r2 t ih =>
  rcases a_.mp hx with rfl | hx
  .have:=(r x2 a8).is I;rw [r2.1,r2.2.1] at this;exact this
  exact ih (λx hx=>r x (bA _ hx)) hx
end
def valN (xs:List EN)(k:List P3):126:=(xs.find? λx=>decide (x.1=k)).map (·.2.2)
def Es {k:List P3}:∀{xs:List EN}{vs:List (List P3×Addr×Value)},Paired Wj xs vs->jP (valN xs k) ((atKey vs k).map 105):=λ{xs vs} h=>by
 induction h with
 | nil=>exact True.intro
 | @cons x y xs vs r t ih =>
  unfold valN atKey at ih ⊢;rw [jV,jV,<-r.1];by_cases c:x.1=k
  .rw [dS c];exact r.2.2
  rw [gh c];exact ih
def Er {k:List P3}{xs:List EN}{vs:List (List P3×Addr×Value)}(h:Paired Wj xs vs):(atKey vs k).isSome=(valN xs k).isSome:=by
 have:=Es (k:=k) h;cases e:valN xs k with
 | none =>
  rw [e] at this;cases e2:atKey vs k with
  | none=>rfl
  | some p=>rw [e2] at this;exact this.elim
 | some v =>
  rw [e] at this;cases e2:atKey vs k with
  | none=>rw [e2] at this;exact this.elim
  | some p=>rfl
section
variable {X:Cx}{o i value:Expr}{pos pos':Pos}{td ty tv:TE}
inductive Oq (P:Program)(w:World)(K:aY)(H:Hp)(Q:106)(v:V):V->V->Prop where
 | mk (a b:Addr)(xs:List EN)(k:List P3)(h1:H a=some (lH P w a xs))(h2:∀x∈xs,Fs K H x.2.1 x.1)(h3:Fs K H b k)(h4:xs.length < 1000)(h5:valN xs k=none)(q:Q (upd H a (lH P w a (xs++[(k,b,v)])))):Oq P w K H Q v 475 (.ref b)
def Tw (P:Program)(w:World)(K:aY)(td ty tv:TE):TS:=λD σ H=>tv σ H λv H1=>td σ H1 λx H2=>ty σ H2 λy H3=>Oq P w K H3 (λH4=>D.nx σ H4) v x y
def Ir {P:Program}{w:World}{K:aY}(hP:X.prog=P)(hw:X.w=w)(hK:X.K=K)(hu:X.A.units+8 < cLine)(ho:PE X o td)(hi:PE X i ty)(hv:PE X value tv)(hs:swapsWith value (some (.Subscript o i pos')) pos.line X.env=pure false) :
  PS X (.Assign [.Subscript o i pos'] value pos) (Tw P w K td ty tv):=by
 subst hP hw hK;intro ag s σ H D I h;refine wpAny_Assign_Subscript (cK (hv ag s σ H _ I h) λr s1 ba=>?_) hs;obtain⟨v,H1,I1,rv,q1⟩:=ba;refine cK (ho ag s1 σ H1 _ I1 q1) λu s2 ba=>?_;obtain⟨x,H2,I2,rx,q2⟩:=ba;refine cK (hi ag s2 σ H2 _ I2 q2) λiv s3 ba=>?_;obtain⟨y,H3,I3,ry,q3⟩:=ba;obtain⟨a,b,xs,k,h1,h2,h3,h4,h5,q⟩:=q3;obtain rfl:510:=rx;obtain rfl:iv=Value.ref b:=ry;obtain⟨sm,vs,dd,pr⟩:=Et I3 h1 h2;have lv:=bf pr;refine wpAny_setItem_heap (hsz:=fits ∅) (knd:=C1 X.prog X.w) (show X.A.in1.units+4 < cLine by rw [Around.in1_units];omega) (h3.is I3) dd λh' Bb sb=>?_;have Z7:atKey vs k=none:=by
  have:=Er (k:=k) pr;rw [h5] at this;cases e:atKey vs k with
  | none=>rfl
  | some _=>rw [e] at this;cases this
 rw [storedH_new Z7] at Bb;obtain⟨ob,es,ep,g1,g2,g3,g4,_,g5⟩:=Bb;exact⟨σ,_,I3.write (x:=a) (e:=a) (by rw [h1];exact True.intro) 419 (λc q hb z=>(sb.2 c hb).trans z) ⟨ob,g1⟩ (CH sm g1 g2 g3 g4 g5 (ff pr ⟨rfl,rfl,rv⟩)),q⟩
inductive Ot (P:Program)(w:World)(K:aY)(H:Hp)(Q:Bool->Prop):V->V->Prop where
 | mk (a b:Addr)(xs:List EN)(k:List P3)(h1:H a=some (lH P w a xs))(h2:∀x∈xs,Fs K H x.2.1 x.1)(h3:Fs K H b k)(q:Q (!(valN xs k).isSome)):Ot P w K H Q (.ref b) 475
def Fw {P:Program}{w:World}{K:aY}(hP:X.prog=P)(hw:X.w=w)(hK:X.K=K)(hu:X.A.units+8 < cLine):wQ X (compareOp .NotIn) (λx y H Q=>Ot P w K H (λb=>Q (.bl b) H) x y):=by
 subst hP hw hK;intro ag s σ H x y v u Q I rx ry h;obtain⟨a,b,xs,k,h1,h2,h3,q⟩:=h;cases rx;cases ry;obtain⟨sm,vs,dd,pr⟩:=Et I h1 h2;refine wpAny_notIn_heap (knd:=C1 X.prog X.w) (show X.A.in1.units+4 < cLine by rw [Around.in1_units];omega) (h3.is I) sm dd ?_;rw [Er pr];exact⟨.bl _,H,I.tok _,rfl,q⟩
inductive Ou (P:Program)(w:World)(K:aY)(H:Hp)(Q:V->Prop):V->V->Prop where
 | mk (a b:Addr)(xs:List EN)(k:List P3)(v:V)(h1:H a=some (lH P w a xs))(h2:∀x∈xs,Fs K H x.2.1 x.1)(h3:Fs K H b k)(h4:valN xs k=some v)(q:Q v):Ou P w K H Q 475 (.ref b)
def Tf (P:Program)(w:World)(K:aY)(td ty:TE):TE:=λσ H Q=>td σ H λx H1=>ty σ H1 λy H2=>Ou P w K H2 (λv=>Q v H2) x y
def II {P:Program}{w:World}{K:aY}(hP:X.prog=P)(hw:X.w=w)(hK:X.K=K)(hu:X.A.units+8 < cLine)(ho:PE X o td)(hi:PE X i ty)(hs:Rx i):PE X (.Subscript o i pos) (Tf P w K td ty):=by
 subst hP hw hK;intro ag s σ H Q I h;refine xK Bp.lookup hs 847;obtain⟨x,H1,I1,rx,q1⟩:=ba;refine cK (hi ag s1 σ H1 _ I1 q1) λiv s2 ba=>?_;obtain⟨y,H2,I2,ry,q2⟩:=ba;obtain⟨a,b,xs,k,v,h1,h2,h3,h4,q⟩:=q2;obtain rfl:510:=rx;obtain rfl:iv=Value.ref b:=ry;obtain⟨sm,vs,dd,pr⟩:=Et I2 h1 h2;have f:=Es (k:=k) pr;rw [h4] at f;cases e:atKey vs k with
 | none=>rw [e] at f;exact f.elim
 | some p =>
  rw [e] at f;exact⟨dd.typeIs,wpAny_getItem_heap (knd:=C1 X.prog X.w) (show X.A.in1.units+4 < cLine by rw [Around.in1_units];omega) (h3.is I2) dd e ⟨v,H2,I2.tok _,f,q⟩⟩
inductive Ov (K:aY)(H:Hp)(R:Addr->List P3->Prop):V->Prop where
 | mk (b:Addr)(k:List P3)(h3:Fs K H b k)(q:R b k):Ov K H R (.ref b)
def OY (P:Program)(w:World)(K:aY)(tk tv:TE):TE:=λσ H Q=>∀p,H p=none->tk σ (upd H p (lH P w p [])) λy H1=>tv σ H1 λv H2=>H2 p=some (lH P w p [])/\Ov K H2 (λb k=>Q (.ref p) (upd H2 p (lH P w p [(k,b,v)]))) y
def IH {k v:Expr}{tk:TE}{P:Program}{w:World}{K:aY}(hP:X.prog=P)(hw:X.w=w)(hK:X.K=K)(hu:X.A.units+8 < cLine)(hk:PE X k tk)(hv:PE X v tv):PE X (.Dict [some k] [v] pos) (OY P w K tk tv):=by
 subst hP hw hK;intro ag s σ H Q I q;have hn:=I.bI.fresh (aE s.heap.objs.size);have sm:(s.heap.objs.size == sysModules)=false:=jB.mpr (dC (bJ I.big));have I1:=I.laid (a:=s.heap.objs.size) (o:=lH X.prog X.w s.heap.objs.size []) (h':=s.heap.push 625) (t':=s.toks) (λ_ _ q=>bW _ q) 128 (CH (vs:=[]) sm (cU _ rfl) ⟨rfl,rfl,rfl⟩ rfl rfl .nil .nil);refine wpAny_Dict_any rfl rfl 90 90 (pairTrees_cons_walk (cK (hk ag _ σ _ _ I1 (q _ hn)) λu s1 ba=>?_));obtain⟨y,H1,J1,ry,q1⟩:=ba;refine cK (hv ag s1 σ H1 _ J1 q1) λr s2 ba=>?_;obtain⟨x,H2,J2,rx,e,q2⟩:=ba;refine pairTrees_nil_walk ?_;obtain⟨b,k,h3,q⟩:=q2;obtain rfl:u=Value.ref b:=ry;obtain⟨_,vs,dd,pr⟩:=Et J2 e (λ_ h=>nomatch h);cases pr;unfold storeAll;rw [List.forIn_cons];refine au (au (wpAny_dictSet_heap (hsz:=cV _) (knd:=C1 X.prog X.w) (show X.A.units+4 < cLine by omega) (h3.is J2) dd λh' Bb sb=>?_));refine aJ ?_;dsimp only;rw [List.forIn_nil];refine aJ ?_;rw [storedH_new rfl] at Bb;obtain⟨ob,es,ep,g1,g2,g3,g4,_,g5⟩:=Bb;exact⟨491,_,J2.write (x:=s.heap.objs.size) (e:=s.heap.objs.size) (by rw [e];exact True.intro) 419 (λc q hb z=>(sb.2 c hb).trans z) ⟨ob,g1⟩ (CH sm g1 g2 g3 g4 g5 (.cons ⟨rfl,rfl,rx⟩ .nil)),rfl,q⟩
end
end ST
namespace fC
open PySem L2 M11 ST
abbrev B6:Stmt:=top 26
abbrev B_:Stmt:=top 25
abbrev x8:Stmt:=top 24
def Ct {α β:Type}{F:α->β->Prop}{xs:List α}{ys:List β}(h:Paired F xs ys){i:Nat}{x:α}(e:575):∃y,ys[i]?=some y/\F x y:=by
 have hi:=(a7.mp e).1;have e2:ys[i]?=some (ys[i]'(by rw [<-bf h];exact hi)):=cx _;obtain⟨x2,e3,r⟩:=Paired.at_ h i _ e2;rw [e] at e3;cases e3;exact⟨_,e2,r⟩
def iD (aa:56)(z:Pl):Option Str:=(dP aa z.1)[z.2.1]?
def Ep (z:Pl):Pl:=(z.1,z.2.1+1,z.2.2)
def fX (aa:56)(room:70)(p:Str):70:=(room.filter λz=>decide (iD aa z=some p)).map Ep
def br (aa:56)(room:70):z0t:=(room.filterMap (iD aa)).foldl eK []
def vW (aa:56)(room:70)(z:Pl)(p:Str):fX aa (room++[z]) p=fX aa room p++(if iD aa z=some p then [Ep z] else []):=by
 unfold fX;rw [m_,aP];by_cases c:iD aa z=some p
 .rw [ar c,wV,ar 550];rfl
 rw [aq c,wV,aq 550];rfl
def oB (aa:56)(room:70)(z:Pl):br aa (room++[z])=match iD aa z with | some p=>eK (br aa room) p | none=>br aa room:=by
 unfold br;rw [List.filterMap_append,List.foldl_append];cases e:iD aa z with
 | none=>rw [rV,e];rfl
 | some p=>rw [rV,e];rfl
def d7 (aa:56)(room:70):(br aa room).Nodup/\(∀p,p∈br aa room↔∃z∈room,iD aa z=some p):=by
 unfold br;have h:∀(l a:z0t),a.Nodup->(l.foldl eK a).Nodup/\∀p,p∈l.foldl eK a↔p∈a\/p∈l:=λl=>by
  induction l with
  | nil=>intro a n;exact⟨n,λp=>58⟩
  | cons x l ih =>
   intro a n;obtain⟨i1,i2⟩:=ih (eK a x) (oV x n);refine⟨i1,λp=>?_⟩;rw [rD,i2,ie,a_,or_assoc]
 obtain⟨h1,h2⟩:=h (room.filterMap (iD aa)) [] eG;refine⟨h1,λp=>?_⟩;rw [h2,rR];simp
structure Bf (H0 H:Hp)(d:Addr)(L:z0f) (ps:z0t)(f:Str->70):Prop where
 hd:H d=some (.dK (L.map iz))
 ks:L.map 27=ps
 n1:ps.Nodup
 n2:(L.map 105).Nodup
 ls:∀p∈L,H0 p.2=none/\∃ts:z0q,H p.2=480/\Paired (kn H) ts (f p.1)
def Bf.same {H0 H H':Hp}{d:Addr}{L:z0f}{ps:z0t}{f:Str->70}(h:Bf H0 H d L ps f)(s:147):Bf H0 H' d L ps f :=
 ⟨s _ _ h.hd,h.ks,h.n1,h.n2,λp hp=>let ⟨a,ts,b,c⟩:=h.ls p hp;⟨a,ts,s _ _ b,Paired.cJ c λ_ _ z=>s _ _ z⟩⟩
def Bf.congr {H0 H:Hp}{d:Addr}{L:z0f}{ps:z0t}{f g:Str->70}(h:Bf H0 H d L ps f)(e:∀p∈ps,g p=f p):Bf H0 H d L ps g :=
 ⟨h.hd,h.ks,h.n1,h.n2,λp hp=>let ⟨a,ts,b,c⟩:=h.ls p hp;⟨a,ts,b,by rw [e p.1 (h.ks ▸ ja hp)];exact c⟩⟩
def Bf.more {H0 H:Hp}{d:Addr}{L:z0f}{ps:z0t}{f:Str->70}(h:Bf H0 H d L ps f){p:Str×Addr}(hp:p∈L){ts:z0q}(hl:H p.2=480)(C0:Paired (kn H) ts (f p.1)){t:Addr}{z:Pl}(ht:kn H t z) :
  Bf H0 (upd H p.2 (.lst ((ts++[t]).map V.ref))) d L ps (λq=>f q++if q=p.1 then [z] else []):=by
 have nd:d≠p.2:=λy=>by have:=h.hd;rw [y,hl] at this;cases this
 have pl:∀{t:Addr}{z:Pl},kn H t z->kn (upd H p.2 (.lst ((ts++[t]).map V.ref))) t z:=λy=>dI hl 610 y;refine⟨by rw [ai nd];exact h.hd,h.ks,h.n1,h.n2,λq hq=>?_⟩;by_cases e:q=p
 .rw [e];refine⟨(h.ls p hp).1,ts++[t],af,?_⟩
  try dsimp only
  rw [ar rfl];exact ff (Paired.cJ C0 λ_ _ y=>dI hl 610 y) (dI hl 610 ht)
 obtain⟨a1,a2⟩:=NF (by rw [h.ks];exact h.n1) h.n2 hp hq e;obtain⟨b1,us,b2,b3⟩:=h.ls q hq;refine⟨b1,us,by rw [ai a2];exact b2,?_⟩
 try dsimp only
 rw [aq a1,dG];exact Paired.cJ b3 λ_ _ y=>dI hl 610 y
section
def DQ (K:aY)(C Cg:Addr):Sp:=λvs H Q _=>∃(g r:Addr)(ts:z0q)(room:70)(aa:56)(aC:z0h)(bes:108),vs=[.ref g,.ref r]/\Lf K C Cg H g aa aC bes/\aa≠[]/\aX K H r 582/\Paired (kn H) ts room/\room.length<=1000 /\
 ∀(d:Addr)(L:z0f)(H':Hp),H d=none->147->Bf H H' d L (br aa room) (fX aa room)->Q (.ref d) H'
def qW:aM ["grammar","room","moved","place","part"] ["grammar","room"] (ax B6):=417
def Jb {C Cg:Addr}(F:jo K "moved_by_part" "moved_by_part" B6 f fd)(GA:aL P w K mg base 3 "part_at" ["grammar","place"] (sQ K C Cg)):bO P w K mg base gb 4 f fd ["grammar","room"] (DQ K C Cg):=by
 refine F.ok qW 420 472
 .obtain⟨g,r,ts,room,aa,aC,bes,rfl,_⟩:=h;rfl
 obtain⟨g,r,ts,room,aa,aC,bes,rfl,gv,p_,hrm,C0,lrm,q⟩:=h;have hu:=fc hr;refine⟨_,aj (aF (i:=2) qW.nd rfl 68 fV)
  (aj (cP c_ rfl (bP 102) (az (i:=3) qW.nd rfl 68)
   (aj (aF (i:=4) qW.nd rfl 68 (bZ GA hr rfl (ae 72 (ae (pv 3) ao))))
   (av (dq (eM (LX (pv 4)))
    (av (cY (jj iN kM kO df (zM (pv 2) (pv 4) (dw ao) ⟨rfl,rfl,rfl,rfl⟩) (ae (bG (ae (bF bH (pv 3) aA 109) (ae (cu d6 (bF bH (pv 3) aA 109) aA) (ae (bF bH (pv 3) aA 109) ao)))) ao)))) bL))))
  (av (bS (pv 2)))),?_⟩
 nofun
 intro d kF;have s1:=ah kF 418;have S1:Bf H (upd H d 418) d [] [] (λ_=>[]):=⟨af,rfl,eG,eG,λp hp=>nomatch hp⟩;generalize upd H d 418=H1 at s1 S1;refine⟨_,rfl,r,rfl,⟨_,s1.seq hrm⟩,?_⟩;refine du (xs:=477) (λi σ H5=>∃(L:z0f)(y3 y4:126),σ=[aZ g,aZ r,aZ d,y3,y4]/\aD H H5/\Bf H H5 d L (br aa 570) (fX aa 570)) ⟨[],none,none,rfl,s1,S1⟩ ?_ ?_ ?_
 .rintro i σ H5 _ ⟨L,y3,y4,rfl,s5,_⟩;exact s5.seq hrm
 .rintro i x σ H5 ex ⟨L,y3,y4,rfl,s5,S5⟩
  ac_nf0
  rw [bx] at ex;obtain⟨t,et,rfl⟩:=473;obtain⟨z,ez,hz⟩:=Ct C0 et;have hz5:kn H5 t z:=s5 _ _ hz;have tk:room.take (i+1)=room.take i++[z]:=by rw [di,ez];rfl
  refine goN ?_;refine⟨_,rfl,_,rfl,g,t,z,aa,aC,bes,rfl,gv.same s5,p_,aU.of hz5,λH6 s6=>?_⟩;have Yz:=s5.trans s6;have S6:=S5.same s6;have RX:kn H6 t z:=s6 _ _ hz5;refine⟨_,rfl,_,rfl,?_⟩;cases hp:iD aa z with
  | none =>
   rw [show (dP aa z.1)[z.2.1]?=none from hp];refine kI ?_;refine⟨L,_,_,rfl,Yz,?_⟩;rw [tk,oB,hp];exact S6.congr λp _=>by rw [vW,aq (by rw [hp];intro y;cases y),dG]
  | some p =>
   rw [show (dP aa z.1)[z.2.1]?=some p from hp];refine tR ?_;have key:∀(L:z0f)(H7:Hp)(l:Addr)(us:z0q),aD H H7->Bf H H7 d L (eK (br aa 570) p) (fX aa 570)->(p,l)∈L->H7 l=747->Paired (kn H7) us (fX aa 570 p)->kn H7 t z ->
     ∀t4,H7 t4=none->(us.map V.ref).length < sizeLine/\∃(L:z0f)(y3 y4:126),[some (V.ref g),aZ r,aZ d,aZ t,some (.str p)]=[aZ g,aZ r,aZ d,y3,y4]/\aD H (upd (upd H7 t4 (.tup (yo (pZ (Ep z))))) l (.lst (us.map V.ref++[.ref t4])))/\Bf H (upd (upd H7 t4 (.tup (yo (pZ (Ep z))))) l (.lst (us.map V.ref++[.ref t4]))) d L (br aa (room.take (i+1))) (fX aa (room.take (i+1))) :=
    λL H7 l us s7 S7 hm hl Qr JG t4 uW=>by
     have k8:=ah uW (.tup (yo (pZ (Ep z))));have e8:kn (upd H7 t4 (.tup (yo (pZ (Ep z))))) t4 (Ep z):=af;generalize upd H7 t4 (.tup (yo (pZ (Ep z))))=H8 at k8 e8;have S8:=S7.same k8;have fl:=(S7.ls _ hm).1;have lus:us.length<=1000:=by
      rw [bf Qr];unfold fX;rw [ay];have:=ql (λz=>decide (iD aa z=some p)) 570;rw [fQ] at this;omega
     have m8:=S8.more hm (k8 _ _ hl) (Paired.cJ Qr λ_ _ y=>k8 _ _ y) e8;rw [aP] at m8;refine⟨507,L,_,_,rfl,λb o hb=>by rw [ai (λy=>by rw [y,fl] at hb;cases hb)];exact k8 _ _ (s7 b o hb),?_⟩;rw [tk,oB,hp];refine Bf.congr m8 λq _=>?_;rw [vW,hp];by_cases e:q=p
     .rw [ar (by rw [e]),ar e]
     rw [aq (λy=>e (cX y).symm),aq e]
   have ks5:=S6.ks;refine⟨_,rfl,d,rfl,.inl ⟨_,.inl S6.hd⟩,_,rfl,Bu,λl hl=>?_⟩;have k7:=ah hl 103;have e7:upd H6 l 103 l=some 103:=af;have fl:H l=none:=Yz.free hl;have S7:=S6.same k7;have s7:=Yz.trans k7;have JG:kn (upd H6 l 103) t z:=k7 _ _ RX;generalize upd H6 l 103=H7 at k7 e7 S7 s7 JG;have lL:L.length<=1000:=by
    have h1:=congrArg List.length S7.ks;rw [ay] at h1;have h2:=gP _ _ S7.n1 (λx hx=>((d7 aa 570).2 x).mp hx |> λ⟨y,hy,e⟩=>rR.mpr ⟨y,hy,e⟩)
    have h3:=List.length_filterMap_le (iD aa) 570;rw [fQ] at h3;omega
   refine⟨L.map iz,Sum.inr p,S7.hd,rfl,507,λv hv=>?_,λhn=>?_⟩
   .have uL:p∈L.map 27:=by
     have:(aQ (L.map iz) (Sum.inr p:aI)).isSome=true:=by rw [hv];rfl
     rw [dj,iE] at this;exact cC.mp this
    obtain⟨pq,My,rfl⟩:=a9.mp uL;rw [fM L (by rw [S7.ks];exact S7.n1) pq My] at hv;cases hv;obtain⟨_,us,b2,b3⟩:=S7.ls pq My;have ep:eK (br aa 570) pq.1=br aa 570:=ar (S7.ks ▸ uL);refine⟨.inl ⟨rfl,_,aX.of b2⟩,_,rfl,t,_,_,_,rfl,rfl,aU.of JG,rfl,_,rfl,t,_,_,_,rfl,rfl,aU.of JG,rfl,_,_,rfl,rfl,_,rfl,t,_,_,_,rfl,rfl,aU.of JG,rfl,OF,λt4 uW=>?_⟩;obtain⟨g1,g2⟩:=key L H7 pq.2 us s7 (by rw [ep];exact S7) My b2 b3 JG t4 uW;exact⟨pq.2,_,_,rfl,rfl,ah uW _ _ _ b2,g1,g2⟩
   have nd:d≠l:=λy=>by have:=S7.hd;rw [y,e7] at this;cases this
   have hnp:p∉L.map 27:=λy=>by
    have:=(dj (L.map iz) (Sum.inr p:aI)).mpr (by rw [iE];exact cC.mpr y);rw [hn] at this;cases this
   have UZ:p∉br aa 570:=by rw [<-S7.ks];exact hnp
   have ep:eK (br aa 570) p=br aa 570++[p]:=aq UZ;have e8:upd H7 d 843 l=some 103:=by rw [ai nd.symm];exact e7
   have s8:aD H (upd H7 d 843):=λb o hb=>by rw [ai (λy=>by rw [y,kF] at hb;cases hb)];exact s7 b o hb
   have Qn:kn (upd H7 d 843) t z:=dI S7.hd 610 JG;have NJ:fX aa 570 p=[]:=by
    unfold fX;rw [List.map_eq_nil_iff,List.filter_eq_nil_iff];intro y hy e;exact UZ (((d7 aa 570).2 p).mpr ⟨y,hy,dJ e⟩)
   have nl:∀q∈L,q.2≠l:=λq hq y=>by
    obtain⟨_,us,b2,_⟩:=S6.ls q hq;rw [y,hl] at b2;cases b2
   have S8:Bf H (upd H7 d 843) d (L++[(p,l)]) (eK (br aa 570) p) (fX aa 570):=by
    refine⟨?_,by rw [ep,aP,S7.ks];rfl,oV p S7.n1,?_,λq hq=>?_⟩
    .rw [af,lB _ hn,aP];rfl
    .rw [aP];exact iM.mpr ⟨S7.n2,dU.mpr ⟨58,eG⟩,λa ha b hb e=>by
      obtain⟨q,hq,rfl⟩:=a9.mp ha;rw [bN,kP,bj] at hb;exact nl q hq (e.trans hb)⟩
    rcases cw.mp hq with hq | hq
    .obtain⟨b1,us,b2,b3⟩:=S7.ls q hq;exact⟨b1,us,by rw [ai (λy=>by rw [y,S7.hd] at b2;cases b2)];exact b2,Paired.cJ b3 λ_ _ y=>dI S7.hd 610 y⟩
    rw [bj.mp hq];exact⟨fl,[],e8,by rw [NJ];exact .nil⟩
   generalize upd H7 d 843=H8 at e8 s8 Qn S8;refine⟨.inl ⟨rfl,_,aX.of e8⟩,_,rfl,t,_,_,_,rfl,rfl,aU.of Qn,rfl,_,rfl,t,_,_,_,rfl,rfl,aU.of Qn,rfl,_,_,rfl,rfl,_,rfl,t,_,_,_,rfl,rfl,aU.of Qn,rfl,OF,λt4 uW=>?_⟩;obtain⟨g1,g2⟩:=key _ H8 l [] s8 S8 (eZ _ (bj.mpr rfl)) e8 (by rw [NJ];exact .nil) Qn t4 uW;exact⟨l,_,_,rfl,rfl,ah uW _ _ _ e8,g1,g2⟩
 rintro σ H5 ⟨L,y3,y4,rfl,s5,S5⟩;rw [ay,bf C0,dW] at S5;exact⟨_,rfl,q d L H5 kF s5 S5⟩
end
end fC
namespace L2
open PySem PySem.Spec PyProof.Rows
def Gm (o:Obj)(f:z0k->z0k):(o.mapFields f).dict=o.dict:=by
 obtain⟨c,d,dt,sl⟩:=o;cases dt <;> rfl
def uG (h:Heap)(e:Addr)(cls:Value)(dx:z0l)(T:Addr)(fl:Value):Prop :=
 ∃oe vs oT ts,h.get? e=some oe/\oe.cls=cls/\oe.dict=dx/\oe.data=.fields vs/\vs[1]?=some (.ref T)/\T≠e/\h.get? T=some oT/\oT.data=.fields ts/\ts[3]?=some fl
structure Moved (fs as:z0q)(h h':Heap):Prop where
 keep:∀b o,b∉as->b∉fs->h.get? b=65->162=65
 slot:∀b o,b∉as->h.get? b=65->∃sl,162=some { o with slots:=sl }
def Moved.trans {fs as:z0q}{h h1 h2:Heap}(a:Moved fs as h h1)(b:Moved fs as h1 h2):Moved fs as h h2 :=
 ⟨λc o n f e=>b.keep c o n f (a.keep c o n f e),λc o n e=>by
  obtain⟨s1,e1⟩:=a.slot c o n e;obtain⟨s2,e2⟩:=b.slot c _ n e1;exact⟨s2,e2⟩⟩
def Moved.mono {fs as as':z0q}{h h1:Heap}(a:Moved fs as h h1)(s:∀b∈as,b∈as'):Moved fs as' h h1 :=
 ⟨λc o n f e=>a.keep c o (λz=>n (s c z)) f e,λc o n e=>a.slot c o (λz=>n (s c z)) e⟩
section
variable {M:Model}{A:Around}{E:z0b}{s:Shared}{base:Heap}{env:Env}{outer:List Env}{L e:Addr}
def nH {cls fl:Value}{dx:z0l}{T:Addr}{fs:z0q}{Q:Unit->146}(F:uG s.heap e cls dx T fl)
  (hq:∀h',Moved fs [T] s.heap h'->uG h' e cls dx T .none->Q () 517):wpAny M A (setFlight (.ref e) none) Q E s:=by
 obtain⟨oe,vs,oT,ts,he,hc,hx,hd,h1,ne,hT,QM,h3⟩:=F;have sz:3 < ts.size:=(rp.mp h3).1;unfold setFlight;refine au (g8 he hd h1 ?_);rw [ar 90];refine mQ hT QM sz (hq _ ⟨λb o n _ q=>?_,λb o n q=>⟨o.slots,?_⟩⟩ ⟨oe,vs,_,_,?_,hc,hx,hd,h1,ne,qk _ hT (xn (mZ QM _)),mZ QM _,?_⟩)
 .rw [jC _ _ (λz:T=b=>n (by simp [z]))];exact q
 .rw [jC _ _ (λz:T=b=>n (by simp [z]))];exact q
 .rw [jC _ _ ne];exact he
 simp [sz]
def zS {oe:Obj}{vs:z0k}{kF:Value}{hn:Bool}{Q:Unit->146}(ME:A.frames=some (env::outer))(hl:s.heap.FunFrames base (env::outer))(hf:env.frame=some L)
  (he:s.heap.get? e=some oe)(hd:oe.data=.fields vs)(sz:1 < vs.size)
  (hq:∀h' T,Moved (qN (env::outer)) [e] s.heap h'->s.heap.objs.size<=T->uG h' e oe.cls oe.dict T (rawInt L)->Q () 517) :
  wpAny M A (do
   let a <-frameOf env
   let pl <-entryPlaceOf L hn
   let b <-EntryCells.newEntry kF a .none (rawInt L) .none pl
   setField (.ref e) 1 b) Q E s:=by
 have efr:e∉qN (env::outer):=λz=>by
  obtain⟨_,o,ho,nf⟩:=hl.mem z;rw [he] at ho;cases ho;exact nf vs hd
 refine au (wpAny_frameOf_fun ME hl hf λh1 x1=>au (wpAny_entryPlaceOf λpl uX=>?_));unfold EntryCells.newEntry newFields;refine au (kr ?_ (uX.sizeOk5 _ _ _ _ _));have e1:h1.get? e=some oe:=(x1.2.1 e efr).trans he;have ne:h1.objs.size≠e:=iP (aV e1);have hs1:h1.objs.size=s.heap.objs.size:=x1.1;have dF:=mZ hd (·.setIfInBounds 1 (Value.ref h1.objs.size));have old:∀(o₂:Obj)(b:Addr)(o:Obj),b≠e->h1.get? b=65->((h1.push o₂).update e (Obj.mapFields (·.setIfInBounds 1 (Value.ref h1.objs.size)))).get? b=65:=λo₂ b o nb q=>by
  rw [jC _ _ (dC nb)];exact bW _ q
 have tb:∀o₂:Obj,o₂.isFreed=false->((h1.push o₂).update e (Obj.mapFields (·.setIfInBounds 1 (Value.ref h1.objs.size)))).get? h1.objs.size=some o₂:=λo₂ nf=>by
  rw [jC _ _ (dC ne)];exact cU h1 nf
 refine mQ (bW _ e1) hd sz (hq _ h1.objs.size ⟨λb o n f q=>?_,λb o n q=>?_⟩ ?_ ⟨_,_,_,_,qk _ (bW _ e1) (xn dF),Obj.cls_mapFields _ _,Gm _ _,dF,by simp [sz],ne,tb _ rfl,rfl,?_⟩)
 .exact old _ b o (λz=>n (by simp [z])) ((x1.2.1 b f).trans q)
 .obtain⟨sl,q1⟩:=x1.2.2 b o q;exact⟨sl,old _ b _ (λz=>n (by simp [z])) q1⟩
 .exact Nat.le_of_eq hs1.symm
 first
  | (simp;done)
  | (rcases uX with rfl | ⟨_,_,_,_,_,_,_,rfl⟩ <;> simp)
def CC {oe:Obj}{vs:z0k}{Q:Unit->146}(ME:A.frames=some (env::outer))(hl:s.heap.FunFrames base (env::outer))(hf:env.frame=some L)
  (he:s.heap.get? e=some oe)(hd:oe.data=.fields vs)(h1:vs[1]?=some .none)
  (hq:∀h' T,Moved (qN (env::outer)) [e] s.heap h'->s.heap.objs.size<=T->uG h' e oe.cls oe.dict T (rawInt L)->Q () 517):wpAny M A (noteFrame (.ref e) env) Q E s:=by
 unfold noteFrame;simp only [hf];refine au (g8 he hd h1 ?_);rw [aq nofun];exact zS ME hl hf he hd (rp.mp h1).1 hq
def vV {cls:Value}{dx:z0l}{T0:Addr}{Q:Unit->146}(ME:A.frames=some (env::outer))(hl:s.heap.FunFrames base (env::outer))(hf:env.frame=some L)
  (F:uG s.heap e cls dx T0 .none)
  (hq:∀h' T,Moved (qN (env::outer)) [e,T0] s.heap h'->s.heap.objs.size<=T->uG h' e cls dx T (rawInt L)->Q () 517):wpAny M A (noteFrame (.ref e) env) Q E s:=by
 obtain⟨oe,vs,oT,ts,he,hc,hx,hd,h1,ne,hT,QM,h3⟩:=F;subst hc hx;unfold noteFrame;simp only [hf];refine au (g8 he hd h1 ?_);rw [ar 90];refine au (g8 hT QM h3 ?_);rw [aq (by simp [rawInt])];refine au (mQ hT QM (rp.mp h3).1 ?_);have WQ:∀b,b≠T0->(s.heap.update T0 (Obj.mapFields (·.setIfInBounds 3 Value.none))).get? b=s.heap.get? b:=λb n=>jC _ _ (dC n);have nT:∀b o,259->(∀vs,o.data≠.fields vs)->b≠T0:=λb o q nf z=>by
  rw [z,hT] at q;cases q;exact nf ts QM
 refine zS ME (hl.of_keeps λb o q nf=>⟨o,(WQ b (nT b o q nf)).trans q,rfl⟩) hf ((WQ e (dC ne)).trans he) hd (rp.mp h1).1 λh' T m nw fd=>?_;refine hq h' T ⟨λb o n f q=>m.keep b o (λz=>n (by simp at z;simp [z])) f ((WQ b λz=>n (by simp [z])).trans q),λb o n q=>m.slot b o (λz=>n (by simp at z;simp [z])) ((WQ b λz=>n (by simp [z])).trans q)⟩ ?_ fd;rw [Heap.size_after_update] at nw;exact nw
end
def oU (ea:Addr)(cls:Value)(dx:z0l):HO:=.ext λh=>∃oe vs,h.get? ea=some oe/\oe.cls=cls/\oe.dict=dx/\oe.data=.fields vs
def ER {P:Program}{w:World}{H:Hp}{h:Heap}{ea:Addr}{cls:Value}{dx:z0l}{oe:Obj}{vs:z0k}(e:h.get? ea=some oe)(c:oe.cls=cls)(d:oe.dict=dx)(f:oe.data=.fields vs) :
  bR P w H h ea (oU ea cls dx) :=
 ⟨⟨oe,vs,e,c,d,f⟩,⟨oe,e⟩,λ_ _ ⟨o,ws,q,r,r1,r2⟩ k=>⟨o,ws,k o q,r,r1,r2⟩⟩
def uG.ok {P:Program}{w:World}{H:Hp}{h:Heap}{ea T:Addr}{cls fl:Value}{dx:z0l}(F:uG h ea cls dx T fl):bR P w H h ea (oU ea cls dx):=by
 obtain⟨oe,vs,_,_,he,hc,hx,hd,_⟩:=F;exact ER he hc hx hd
def OC (h0:Heap)(H:Hp)(h:Heap)(ea:Addr)(cls:Value)(dx:z0l):Prop :=
 ∃T,uG h ea cls dx T .none/\H T=none/\H ea=some (oU ea cls dx)/\h0.objs.size<=T/\h0.objs.size<=ea
def ro (P:Program)(w:World):Bh:=λouter H s E e s' =>
 ∃ea cls dx H',e=.ref ea/\s'.os=s.os/\AllBare s'.gens/\Un (qN outer) [] H H' s.heap s'.heap/\mJ P w H' s'.heap/\OC s.heap H' s'.heap ea cls dx/\E cls dx H'
section
variable {X:Cx}{ag:z0e}{σ:St}{H:Hp}{s:Shared}{M:Model}{A:Around}{E':z0b}{E:XK}{ea:Addr}{cls:Value}{dx:z0l}
def vX {as:z0q}(J:87)(oG:X.stack=X.env::X.outer)(hex:X.ex=[])
  (hn:∀Q:Unit->146,(∀h' T,Moved (qN X.stack) as s.heap h'->s.heap.objs.size<=T->uG h' ea cls dx T (rawInt X.env.locals)->Q () 517)->wpAny M A (noteFrame (.ref ea) X.env) Q E' s)
  (has:∀b∈as,(H b=none\/b=ea)/\X.s₀.heap.objs.size<=b)(C4:H ea=some (oU ea cls dx)/\X.s₀.heap.objs.size<=ea)(hE:E cls dx H) :
  868:=by
 unfold leaving;refine au (hn _ λh1 T m1 lT F1=>nH (fs:=qN X.stack) F1 λh2 m2 F2=>?_);have nT:s.heap.get? T=none:=xc lT;have fre:H T=none:=J.bI.fresh lT;have mm:Moved (qN X.stack) (T::as) s.heap h2:=(m1.mono λb hb=>bA _ hb).trans (m2.mono λb hb=>by simp at hb;simp [hb]);have s0T:X.s₀.heap.objs.size<=T:=cW J.sz lT;have old:∀b o,X.s₀.heap.get? b=65->b∉T::as:=λb o q z=>by
  rcases a_.mp z with z | z
  .rw [z,xc s0T] at q;cases q
  rw [xc (has b z).2] at q;cases q
 have base:Un X.fs [] X.H₀ H X.s₀.heap s.heap:=by have u:=J.base;rw [hex] at u;exact u
 refine⟨ea,cls,dx,H,rfl,J.os,J.bare,⟨?_,?_,base.free,?_,base.sG,base.qM,base.qG⟩,?_,⟨T,F2,fre,C4.1,s0T,C4.2⟩,hE⟩
 .intro b o q n f x;refine mm.keep b o (old b o q) (λz=>?_) (base.keep b o q n f x);rcases a_.mp (J.xM b z) with z | z
  .exact absurd (fK (aV q) (z ▸ J.ok.above)) (ir _)
  exact f z
 .intro b o q n f x;obtain⟨sl,q1⟩:=base.slot b o q n f x;obtain⟨s2,q2⟩:=mm.slot b _ (old b o q) q1;exact⟨s2,q2⟩
 .intro b o q x;obtain⟨o',q1⟩:=base.there b o q x;obtain⟨s2,q2⟩:=mm.slot b _ (old b o q) q1;exact⟨_,q2⟩
 intro a o q;by_cases ha:a=ea
 .subst ha;rw [C4.1] at q;cases q;exact F2.ok
 have tr:∀b,H b≠none->b≠ea->b∉T::as/\b∉qN X.stack:=λb n ne=>⟨λz=>by
  rcases a_.mp z with z | z
  .exact n (z ▸ fre)
  rcases (has b z).1 with y | y
  .exact n y
  exact ne y,λz=>n (J.qU b z)⟩
 refine(J.bI a o q).jZ (λb u hb e=>?_) (λ_ z=>z) 479;have Af:H b≠none/\b≠ea:=by
  rcases hb with rfl | hb
  .exact⟨by rw [q];exact xp _,ha⟩
  refine⟨by rw [hb];exact xp _,λz=>?_⟩;rw [z,C4.1] at hb;cases hb
 exact mm.keep b u (tr b Af.1 Af.2).1 (tr b Af.1 Af.2).2 e
def FU (J:87)(ME:A.frames=some (X.env::X.outer))(oG:X.stack=X.env::X.outer)(hf:X.env.frame=some X.env.locals)(hex:X.ex=[])(F:OC X.s₀.heap H s.heap ea cls dx)(hE:E cls dx H) :
  868:=by
 obtain⟨T,fd,t1,t2,t3,t4⟩:=F;refine vX (as:=[ea,T]) J oG hex (λQ k=>?_) (λb hb=>?_) ⟨t2,t4⟩ hE
 .have hl:=J.stack;rw [oG] at hl k;exact vV ME hl hf fd k
 rcases a_.mp hb with rfl | hb
 .exact⟨.inr rfl,t4⟩
 obtain rfl:b=T:=544
 exact⟨.inl t1,t3⟩
def yA {oe:Obj}{vs:z0k}(J:87)(ME:A.frames=some (X.env::X.outer))(oG:X.stack=X.env::X.outer)(hf:X.env.frame=some X.env.locals)(hex:X.ex=[])
  (he:s.heap.get? ea=some oe)(hd:oe.data=.fields vs)(h1:vs[1]?=some .none)(C4:H ea=some (oU ea oe.cls oe.dict)/\X.s₀.heap.objs.size<=ea)(hE:E oe.cls oe.dict H) :
  868:=by
 refine vX (as:=[ea]) J oG hex (λQ k=>?_) (λb hb=>?_) C4 hE
 .have hl:=J.stack;rw [oG] at hl k;exact CC ME hl hf he hd h1 k
 obtain rfl:b=ea:=544
 exact⟨.inr rfl,C4.2⟩
end
section
variable {P:Program}{w:World}{K:aY}{mg:z0c}{base:Heap}{N:z0t}{qual:Str}{scope:Scope}{f:Addr}{cd:Value}{A:Around}{outer:List Env}{s:Shared}{H:Hp}{E E':XK}
def TZ (hE:∀c d H',E' c d H'->E c d H'):Passes (ro P w) (ip (ro P w) P w K mg base N qual scope f cd A outer s H E) E':=by
 rintro ag σ H1 s1 e s' I ⟨ea,cls,dx,H',rfl,os,bare,un,bI,⟨T,fd,t1,t2,t3,t4⟩,q⟩;have J:=I.EW (ch:=[]) os un bI bare (λb z=>absurd z 90);have up:s.heap.objs.size<=s1.heap.objs.size:=I.sz;refine dD (FU (E:=E) J I.ok.frames rfl rfl rfl ⟨T,fd,t1,t2,cW up t3,cW up t4⟩ (hE _ _ _ q)) (479) 479
end
open PySem PySem.Spec PyProof.Rows PySem.W PySem.Builtin PySem.Builtin.ObjectAttr
section
variable {prog:Program}{w:World}{A:Around}{E:z0b}{K:Frag}{C x:Addr}{s:Shared}{cd:ClassData}
end
open PySem PySem.Spec PyProof.Rows PySem.W
abbrev newObj (C:Addr)(dx:z0l)(a0:Value):Obj:={ cls:=.ref C,dict:=dx,data:=.fields #[a0,.none,.none,.none,.bool false,.none] }
abbrev E3 (rest:z0m):Obj:={ cls:=378,data:=.seq rest.toArray }
section
variable {prog:Program}{w:World}{A:Around}{E:z0b}{h:Heap}{g:Array GenState}{d:Drawn}{t:Nat}{os:OsState}
variable {nm qn:Str}{C N:Addr}{bs bm EZ:z0m}{tV:Bool}{sn:z0t}{sub:z0m}{ab:Bool}{col:Option Bool}{dd:z0l}{k0 k1 k2 k3 k5:z0j}{B newId tT:String}
 {mN:z0c}{rest:z0m}{fI:Addr}{oI:Obj}
end
def newX (ea C:Addr)(dx:z0l):HO:=.ext λh=>∃a0:Addr,h.get? ea=some (newObj C dx (.ref a0))
def Md {P:Program}{w:World}{H:Hp}{h:Heap}{ea C:Addr}{dx:z0l}{a0:Addr}(e:h.get? ea=some (newObj C dx (.ref a0))):bR P w H h ea (newX ea C dx) :=
 ⟨⟨a0,e⟩,⟨_,e⟩,λ_ _ ⟨a,q⟩ k=>⟨a,k _ q⟩⟩
section
variable {X:Cx}{ag:z0e}{σ:St}{H:Hp}{s:Shared}{h':Heap}{ea C:Addr}{dx:z0l}
def Inv.aau {o:HO}{φ:z0n}{n:Option HO}{t':Nat}(I:87)(e:H ea=some (.ext φ))(k:∀b u,b≠ea->700->162=some u)(hz:∃u,h'.get? ea=some u)
  (p_:ea≠s.heap.objs.size)
  (YW:∀H',bR X.prog X.w H' h' ea o)(YV:∀m,n=some m->∀H',bR X.prog X.w H' h' s.heap.objs.size m) :
  Inv X ag σ (upd (match n with | some m=>upd H s.heap.objs.size m | none=>H) ea o) 619:=by
 have fr:H s.heap.objs.size=none:=I.bI.fresh 128;have other:∀b,b≠ea->b≠s.heap.objs.size->upd (match n with | some m=>upd H s.heap.objs.size m | none=>H) ea o b=H b:=λb n1 n2=>by
  rw [ai n1];cases n with
  | none=>rfl
  | some m=>exact ai n2
 have RO:∀b u,H b=some u->(∀ψ,u≠.ext ψ)->b≠ea:=λb u q d z=>by
  rw [z,e] at q;cases q;exact d _ rfl
 have T_:∀b u,H b=some u->b≠s.heap.objs.size:=λb u q z=>by
  rw [z,fr] at q;cases q
 refine I.un ⟨λb u q n1 _ _=>?_,λb u q n1 _ _=>⟨u.slots,?_⟩,λb u q n1 _=>?_,λb u q _=>?_,λb xs q=>?_,λb u v q=>?_,λb ps q=>⟨#[],?_⟩⟩ λa u q=>?_
 .exact k b u (λz=>by rw [z,e] at n1;cases n1) q
 .exact k b u (λz=>by rw [z,e] at n1;cases n1) q
 .rw [other b (λz=>by rw [z,e] at n1;cases n1) (bJ (aV q))];exact n1
 .by_cases z:b=ea
  .rw [z];exact hz
  exact⟨u,k b u z q⟩
 .rw [other b (RO b _ q 611) (T_ b _ q)];exact q
 .rw [other b (RO b _ q 611) (T_ b _ q)];exact q
 .rw [other b (RO b _ q 611) (T_ b _ q),rP];exact q
 by_cases z:a=ea
 .subst z;rw [af] at q;cases q;exact YW _
 by_cases z2:a=s.heap.objs.size
 .subst z2;rw [ai z] at q;cases n with
  | none=>dsimp only at q;rw [fr] at q;cases q
  | some m =>
   dsimp only at q;rw [af] at q;cases q;exact YV _ rfl _
 rw [other a z z2] at q;refine(I.bI a u q).jZ (λb v hb r=>k b v ?_ r) (λb r=>?_) λb xs r=>?_
 .rcases hb with rfl | hb
  .exact z
  exact RO b _ hb (641)
 .rw [other b (RO b _ r (641)) (T_ b _ r)];exact r
 rw [other b (RO b _ r (641)) (T_ b _ r)];exact r
end
section
variable {X:Cx}
end
section
variable {M:Model}{A:Around}{E:z0b}{s:Shared}{env:Env}
variable {nm qn:Str}{C N:Addr}{bs bm:z0m}{tV:Bool}{sn:z0t}{sub:z0m}{ab:Bool}{col:Option Bool}{dd:z0l}{k0 k1 k2 k3 k5:z0j}{newId:String}
def Ik {x:Sem Value}{Q:Flow->146}(hh:569)
  (h:wpAny M A x (λv s₁=>∃(ea a0 C:Addr)(dx:z0l),v=.ref ea/\s₁.heap.get? ea=some (newObj C dx (.ref a0))/\(∃nm qn N bs bm tV sn sub ab col dd k0 k1 k2 k3 k5 newId,s₁.heap.get? C=855 /\
   bm.contains (592)=true)/\E (.ref ea) s₁) E s):wpAny M A (raiseStmt env (some x) none) Q E s:=by
 unfold raiseStmt;refine au (dD h (λv s₁ z=>?_) 479);obtain⟨ea,a0,C,dx,rfl,he,⟨nm,qn,N,bs,bm,tV,sn,sub,ab,col,dd,k0,k1,k2,k3,k5,newId,hC,hb⟩,hE⟩:=z;have me:(Value.ref C::bm).contains (592)=true:=by rw [List.contains_cons,hb,Bool.or_true]
 obtain⟨hp,g,d,tk,os⟩:=s₁
 repeat (first
  | with_reducible refine rH he ?_
  | with_reducible refine rH hC ?_
  | (with_reducible refine wpAny_isSubtype_exc hC ?_;rw [me])
  | wp_step)
 exact wpAny_raiseNew_none hh hE
end
section
variable {P:Program}{w:World}{K:Frag}{mg:z0c}{base:Heap}{N:z0t}{qual:Str}{scope:Scope}{f:Addr}{cd:Value}{A:Around}{outer:List Env}{s₀:Shared}{H₀:Hp}{E:XK}
end
section
variable {X:Cx}{ag:z0e}{σ:St}{H:Hp}{s:Shared}{h':Heap}{ea:Addr}{cls fl:Value}{dx:z0l}{T:Addr}
def Inv.moved {cs:z0q}(J:87)(mm:Moved (qN X.stack) (ea::cs) s.heap h')(C4:H ea=some (oU ea cls dx))(F:uG h' ea cls dx T fl)
  (N8:∀b∈cs,H b=none/\X.s₀.heap.objs.size<=b/\809):Inv X ag σ H 517:=by
 have ne:∀b,H b=none->b≠ea:=λb n z=>by rw [z,C4] at n;cases n
 have WT:∀b,b≠ea->b∉cs->b∉ea::cs:=λb n m z=>(a_.mp z).elim n m;refine J.call (ch:=cs) ⟨λb o q n f c=>mm.keep b o (WT b (ne b n) c) f q,λb o q n _ c=>mm.slot b o (WT b (ne b n) c) q,λb o q n _=>n,λb o q c=>?_,λ_ _ q=>q,λ_ _ _ q=>q,λb ps q=>⟨#[],by rw [rP];exact q⟩⟩ ?_ J.bare
  λb hb=>⟨.inr (N8 b hb).2.1,(N8 b hb).2.2⟩
 .by_cases z:b=ea
  .obtain⟨oe,_,_,_,he,_⟩:=F;exact⟨oe,z ▸ he⟩
  obtain⟨sl,q1⟩:=mm.slot b o (WT b z c) q;exact⟨_,q1⟩
 intro a o q;by_cases ha:a=ea
 .subst ha;rw [C4] at q;cases q;exact F.ok
 refine(J.bI a o q).jZ (λb u hb e=>?_) (λ_ z=>z) 479;have Af:H b≠none/\b≠ea:=by
  rcases hb with rfl | hb
  .exact⟨by rw [q];exact xp _,ha⟩
  refine⟨by rw [hb];exact xp _,λz=>?_⟩;rw [z,C4] at hb;cases hb
 exact mm.keep b u (WT b Af.2 λz=>Af.1 (N8 b z).1) (λz=>Af.1 (J.qU b z)) e
def Fe {M:Model}{A:Around}{E:z0b}{j:Nat}{n:Str}{v:V}{Q:Unit->146}(I:87)(hN:X.N.Nodup)(hj:X.N[j]?=some n)(hl:X.env.scope.names.lookup n=531)
  (hv:σ[j]?=some (some v))(h:∀s',Inv X ag (σ.set j none) H s'->Q () s'):wpAny M A (unbindName X.env n) Q E s:=by
 obtain⟨m,hn,lk⟩:=id I.loc;obtain⟨u,_,l⟩:=lk j n v hj hv (.inl hl);have hk:X.env.kindOf n=531:=hl;have mn:m n=some u:=by
  rcases l with l | ⟨l,_⟩
  .exact l.2
  rw [hk] at l;rcases l with l | l <;> cases l
 have hc:(X.env.scope.kind == .class || (X.env.scope.kind == .module && X.env.locals != X.env.globals))=false:=by rw [I.ok.kind];rfl
 refine wpAny_unbindName_local hk hn mn hc λh' w' QA hs=>?_;have nl:∀b o,X.s₀.heap.get? b=65->b≠X.env.locals:=λb o e=>bJ (fK (aV e) I.ok.above);have cellK:∀y c,X.env.cells.lookup y=some c->∀z,s.heap.IsCell c z->h'.IsCell c z:=λy c e z ⟨o,ho,hd⟩=>⟨o,(hs.2 c (I.Oi y c e)).trans ho,hd⟩;refine h _ ⟨I.ok,I.os,I.bare,⟨λb o e n' hb hx=>?_,λb o e n' hb hx=>?_,I.base.free,λb o e hx=>?_,I.base.sG,I.base.qM,I.base.qG⟩,⟨_,QA,λi y v' e1 e2 e3=>?_⟩,λy c e=>?_,I.free,I.i6,λp hp=>?_,λb ob e=>?_,by simpa using I.len⟩
 .exact(hs.2 b (nl b o e)).trans (I.base.keep b o e n' hb hx)
 .obtain⟨sl,q⟩:=I.base.slot b o e n' hb hx;exact⟨sl,(hs.2 b (nl b o e)).trans q⟩
 .obtain⟨o',q⟩:=I.base.there b o e hx;exact⟨o',(hs.2 b (nl b o e)).trans q⟩
 .by_cases kJ:i=j
  .subst kJ;have lt:i < σ.length:=(a7.mp hv).1;rw [xx lt] at e2;cases e2
  rw [List.getElem?_set_ne (λz=>kJ z.symm)] at e2;have yn:y≠n:=λz=>kJ (tI hN (z ▸ e1) hj);obtain⟨u',ru,l'⟩:=lk i y v' e1 e2 e3;refine⟨u',ru,?_⟩;rcases l' with l' | ⟨k',c,ec,z⟩
  .exact .inl ⟨l'.1,by show (if y=n then w' else m y)=_;rw [aq yn];exact l'.2⟩
  exact .inr ⟨k',c,ec,cellK y c ec _ z⟩
 .obtain⟨z,q⟩:=I.cell y c e;exact⟨z,cellK y c e z q⟩
 .obtain⟨e,n',ne,nf,d⟩:=I.pin p hp;exact⟨(hs.2 p.1 ne).trans e,n',ne,nf,d⟩
 refine(I.bI b ob e).jZ (λc w'' tW q=>(hs.2 c λz=>?_).trans q) (λ_ q=>q) λ_ _ q=>q;have fr:=I.free;rw [<-z] at fr;rcases tW with y | y
 .rw [<-y,fr] at e;cases e
 rw [fr] at y;cases y
def Inv.away {b:Addr}(I:87)(lb:s.heap.objs.size<=b):X.s₀.heap.objs.size<=b/\809:=by
 have lt:∀{c:Addr}{o:Obj},s.heap.get? c=65->c≠b:=λe z=>absurd (fK (aV e) (z ▸ lb)) (ir _);refine⟨cW I.sz lb,λz=>absurd (fK I.lt (z ▸ lb)) (ir _),λx c ec=>?_,λp hp=>lt (I.pin p hp).1⟩;obtain⟨v,o,ho,_⟩:=I.cell x c ec;exact lt ho
abbrev Cx.hold (X:Cx)(ea:Addr):Cx:={ X with A:=X.A.mark (some (.ref ea)),calm:=false,xe:=λ_ _=>False }
theorem Inv.hold (I:87)(ea:Addr):Inv (X.hold ea) ag σ H s :=
 ⟨⟨I.ok.mod,I.ok.kind,I.ok.glob,I.ok.blt,I.ok.above,I.ok.inj,I.ok.has,I.ok.Oj,(λz=>by cases z),I.ok.frames,I.ok.KQ,I.ok.QY,I.ok.bs,I.ok.Hk,I.ok.zU,I.ok.Ak,I.ok.nF,I.ok.K8⟩,
  I.os,I.bare,I.base,I.loc,I.cell,I.free,I.i6,I.pin,I.bI,I.len⟩
def Inv.OP {ok:X.Ok}(I:Inv (X.hold ea) ag σ H s):87:=⟨ok,I.os,I.bare,I.base,I.loc,I.cell,I.free,I.i6,I.pin,I.bI,I.len⟩
end
section
variable {X:Cx}{k:Nat}{f W:Addr}{fd:FuncData}{ps:z0t}{sp:Sp}{y fn Cn n:Str}{a:Expr}{as:z0r}{t:TA}{i j:Nat}{b₀:Stmt}{jF:z0s}{tb:TS}{p py cp ap np hp pos:Pos}
end
section
variable {X:Cx}{k:Nat}{f W:Addr}{fd:FuncData}{ps:z0t}{sp:Sp}{fn Cn n:Str}{a:Expr}{as:z0r}{t:TA}{j:Nat}{b₀:Stmt}{jF:z0s}{tb:TS}{p cp ap np hp pos:Pos}
end
def oW (CX:Bh)(X:Cx)(E:St->XK):Prop:=∀(ag:z0e)(σ:St)(H:Hp)(s:Shared)(e:Value)(s':Shared),87->CX X.stack H s (E σ) e s'->X.xe e s'
section
variable {X:Cx}{CX:Bh}{k:Nat}{f C:Addr}{fd:FuncData}{ps:z0t}{sp:Sp}{dvs:84}{ds:z0m}{E:St->XK}{x:Str}{p pos:Pos}{e:Expr}{es:z0r}{t:TA}
def LG {ag:z0e}{σ:St}{H:Hp}{s:Shared}{Q:VK}{us:z0m}{vs:84}(F:734)(hr:ft k X.A)(hb:Binds X.K fd ps ds)(hd:bq dvs ds)(hx:oW CX X E)
  (I:87)(r:bq vs us)(h:sp (vs++dvs) H Q (E σ)):wpAny 110 X.A (call (.ref f) us) (EP X ag σ Q) X.xe s:=by
 have r2:bq (vs++dvs) (us++ds):=r.append hd;have hl:(us++ds).length=ps.length:=by rw [<-r2.length];exact F.len _ _ _ _ h
 refine gM (o_ (F.run X.A X.stack s H ⟨us,[]⟩ (us++ds) (vs++dvs) Q (E σ) hr I.MO (hb s us I.uK hl) r2 h) λr s' hq=>?_);cases r with
 | error e=>exact hx ag σ H s e s' I hq
 | ok fl =>
  cases fl with
  | ret u=>exact I.after hq
  | next=>exact False.elim hq
  | brk=>exact False.elim hq
  | cont=>exact False.elim hq
def O2 (sp:Sp)(dvs:84)(E:St->XK)(t:TA):TE:=λσ H Q=>t σ H λvs H1=>sp (vs++dvs) H1 Q (E σ)
def IK (F:734)(hr:ft k X.A)(hg:Gl X x)(hm:X.mg x=some (.ref f))(hk:PySem.W.keepIn X.K (.ref f)=true)(hb:Binds X.K fd ps ds)(hd:bq dvs ds)(hx:oW CX X E)
  (ha:PA X (e::es) t)(yE:589:=by decide)(he:669:=by rfl)(uX:(680).any 27=false:=by rfl) :
  PE X 737 (O2 sp dvs E t):=by
 intro ag s σ H Q I h;refine nR (lY I hg hm ?_ yE);refine xf (h₀:=X.base) I.ok.mod.RU hk 648 he uX;obtain⟨vs,H1,I1,r,q⟩:=ba;refine⟨I1.uK,?_⟩;exact LG F hr hb hd hx I1 r q
end
def Cx.pK (X:Cx)(ag:z0e)(D:Ends)(hd:ExceptHandler):Cx :=
 { X with pn:=X.pn++ag,xe:=λe s₁=>wpAny 110 X.A (noteFrame e X.env) (λ_ s₂=>wpAny 110 X.A (setFlight e none) (λ_ s₃=>wpAny 110 X.A (handleBy e X.env [hd]) (SP X ag D) X.xe s₃) X.xe s₂) X.xe s₁ }
section
variable {X:Cx}{ag ml:z0e}{σ:St}{H:Hp}{s:Shared}{D:Ends}{hd:ExceptHandler}
theorem Cx.Ok.pK (ok:X.Ok):(X.pK ag D hd).Ok:=850
def Cx.Ok.sE (ok:(X.pK ag D hd).Ok):X.Ok:=850
theorem Inv.pK (I:87):Inv (X.pK ag D hd) [] σ H s :=
 ⟨I.ok.pK,I.os,I.bare,I.base,I.loc,I.cell,I.free,I.i6,λp hp=>I.pin p (by rw [dG] at hp;exact hp),I.bI,I.len⟩
theorem Inv.sE (I:Inv (X.pK ag D hd) ml σ H s):87 :=
 ⟨I.ok.sE,I.os,I.bare,I.base,I.loc,I.cell,I.free,I.i6,λp hp=>I.pin p (g_ _ hp),I.bI,I.len⟩
end
section
variable {X:Cx}{W:Addr}{Cn n:Str}{j:Nat}{b₀:Stmt}{jF body:z0s}{tb:TS}{np hp pos:Pos}
def Ek (K:Frag)(W:Addr) (j:Nat)(tb:TS)(D:Ends):St->XK:=λσ cls dx H'=>exmOne K cls (.ref W)=some true /\
  ∀ea,H' ea=some (oU ea cls dx)->tb { nx:=λσ' H''=>(∃v,σ'[j]?=some v)/\D.nx (σ'.set j none) H'',rt:=λ_ _=>False } (σ.set j (some (.ref ea))) H'
def TY {ag:z0e}{D:Ends}(oG:X.stack=X.env::X.outer)(hfm:X.env.frame=some X.env.locals)(hN:X.N.Nodup)(hgC:Gl X Cn)(hmC:X.mg Cn=some (.ref W))(hj:X.N[j]?=some n)(hn:X.env.scope.names.lookup n=531)
  (hsu:∀ea,yX (X.hold ea) (b₀::jF) tb)(hdC:(Cn == ("__debug__":Str))=false:=by decide) :
  oW (ro X.prog X.w) 813 (Ek X.K W j tb D):=by
 rintro ml σ H1 s1 e s' I' ⟨ea,cls,dx,H',rfl,os,bare,un,bI,⟨T0,zf,t1,t2,t3,t4⟩,hex,q⟩;have I1:Inv X ag σ H1 s1:=I'.sE;have I:=I1;have J:=I1.EW (ch:=[]) os un bI bare (λb z=>absurd z 90);have fr:X.A.frames=some (X.env::X.outer):=by rw [<-oG];exact I.ok.frames
 have KQ:=J.stack;rw [oG] at KQ;refine vV fr KQ hfm zf λh1 T m1 lT F1=>nH (fs:=qN X.stack) F1 λh2 m2 F2=>?_;rw [<-oG] at m1;have nT:=J.bI.fresh lT;have J1:=J.moved (cs:=[T0]) m1 t2 F1 (λb hb=>by obtain rfl:b=T0:=(544);exact⟨t1,I1.away t3⟩);have J2:=J1.moved (cs:=[T]) (m2.mono λb hb=>bA _ hb) t2 F2 (λb hb=>by obtain rfl:b=T:=(544);exact⟨nT,J.away lT⟩);refine wpAny_handleBy_cons (codeAny_handlers_test (lY (X:=X.hold ea) (J2.hold ea) hgC hmC ?_ hdC)) (by intro z;cases z);have lk:Looks 110 h2 (typeOf (.ref ea)) cls:=by
  obtain⟨oe,_,_,_,he,hc,_⟩:=F2;rw [<-hc];exact(Looks.ld he).andThen .now
 refine Looks.here (s:={ { { s' with heap:=h1 } with heap:=h2 } with heap:=h2 }) (exm_one J2.uK lk hex) ?_;refine codeAny_handlers_suite_as (nH (fs:=qN X.stack) F2 λh3 m3 F3=>?_);have J3:=J2.moved (cs:=[T]) (m3.mono λb hb=>bA _ hb) t2 F3 (λb hb=>by obtain rfl:b=T:=(544);exact⟨nT,J.away lT⟩);refine lg (X:=X.hold ea) (v:=.ref ea) (J3.hold ea) hN hj (.inl hn) rfl (λs4 I4=>?_) (.inr hn);refine dD (hsu ea ag s4 _ H' _ I4 (q ea t2)) (λfl s5 z=>?_) λ_ _ z=>False.elim z;cases fl with
 | brk=>obtain⟨_,_,_,z⟩:=z;exact False.elim z
 | cont=>obtain⟨_,_,_,z⟩:=z;exact False.elim z
 | ret u=>obtain⟨_,_,_,_,_,z⟩:=z;exact False.elim z
 | next =>
  obtain⟨σ5,H5,I5,⟨v5,e5⟩,q5⟩:=z;have K5:Inv X ag σ5 H5 s5:=Inv.OP (ok:=I.ok) I5;refine au (wpAny_bindName (lg (v:=.gF) K5 hN hj (.inl hn) rfl (λs6 I6=>?_) (.inr hn)));unfold unbindBehindTheSuite;refine wpAny_onRaise (Fe (v:=.gF) I6 hN hj hn ?_ λs7 I7=>?_)
  .exact xx (a7.mp e5).1
  rw [List.set_set] at I7;exact⟨_,H5,I7,q5⟩
def LO {SS:(St->XK)->TS}(hb:∀ag D,yX 813 body (SS (Ek X.K W j tb D))) :
  PS X (.Try body [752] [] [] pos) (λD σ H=>SS (Ek X.K W j tb D) D σ H):=by
 intro ag s σ H D I h;refine wpAny_Try_except (dD (hb ag D [] s σ H D I.pK h) (λfl s1 z=>?_) 479);cases fl with
 | next =>
  obtain⟨σ',H',I',q⟩:=z;exact rB ⟨σ',H',I'.sE,q⟩
 | brk =>
  obtain⟨σ',H',I',q⟩:=z;exact⟨σ',H',I'.sE,q⟩
 | cont =>
  obtain⟨σ',H',I',q⟩:=z;exact⟨σ',H',I'.sE,q⟩
 | ret u =>
  obtain⟨v,σ',H',I',r,q⟩:=z;exact⟨v,σ',H',I'.sE,r,q⟩
end
section
variable {X:Cx}{k:Nat}{f C W:Addr}{fd:FuncData}{ps:z0t}{sp:Sp}{ds:z0m}{dvs:84}{x Cn n:Str}{a:Expr}{as:z0r}{t:TA}{j:Nat}{b₀:Stmt}{jF:z0s}{tb:TS}{p cp ap np hp pos:Pos}
end
section
variable {X:Cx}{k km:Nat}{f fm C W:Addr}{fd fdm:FuncData}{psm:z0t}{spm:Sp}{m y:Str}{i:Nat}{py mp:Pos}{pl:Sem Bool}{ps:z0t}{sp:Sp}{ds:z0m}{dvs:84}{x Cn n:Str}{a:Expr}{as:z0r}{t:TA}{j:Nat}{b₀:Stmt}{jF:z0s}{tb:TS}{p cp ap np hp pos apos:Pos}
end
def zm (K:Frag)(C:Addr)(EZ:z0m)(newId:String):Bool:=match K.lookup C with
 | some ⟨.type "type",_,.cls c,sl⟩=>(match c.mro,sl.toList with
  | .ref D::bm,[_,_,_,_,some (.builtin n),_]=>D == C && n == newId && !c.hasDel && tailIn K EZ bm && nsOkIn K c.ns && (nsIn K c.ns "__init__" == 258)
  | _,_=>false)
 | _=>false
def ns_none_of {K:Frag}{h:Heap}{N:Addr}{m:z0c}{n:Str}(X:K.In h)(G:h.Ns N m)(e:nsIn K N n=258):m n=none:=by
 obtain⟨o,es,ep,ho,hd,_,hf⟩:=G;unfold nsIn at e
 split at e
 .rename_i c d Xp n' sl q
  have:=X _ _ q;rw [ho] at this;cases this;cases hd
  split at e
  .cases e
  rename_i he
  rw [<-hf];unfold nsFind findBy;rw [<-Array.find?_toList,he];rfl
 cases e
def SO {K:Frag}{h:Heap}{C:Addr}{EZ:z0m}{newId:String}(X:K.In h)(q:zm K C EZ newId=true) :
  ∃nm qn N bs bm tV sn sub ab col dd k0 k1 k2 k3 k5 mN,h.get? C=855/\h.Ns N mN/\mN "__init__"=none/\OwnTail h EZ bm:=by
 unfold zm at q
 split at q
 .rename_i dd c sl ho
  split at q
  .rename_i D bm k0 k1 k2 k3 n k5 hm hs
   simp only [md,beq_iff_eq,iL] at q;obtain⟨⟨⟨⟨⟨rfl,rfl⟩,Ve⟩,ht⟩,bI⟩,uL⟩:=q;obtain⟨nm,bs,mro,ns,qn,hd,sn,sub,ab,col,del⟩:=c;dsimp only at hm Ve bI uL;subst hm Ve;have R0:sl=#[k0,k1,k2,k3,some (.builtin n),k5]:=by
    obtain⟨l⟩:=sl;simp only at hs;rw [hs]
   subst R0;have hN:h.Ns ns (h.nsMap ns):=.of_isNs (isNs_of_in X bI);exact⟨nm,qn,ns,bs,bm,hd,sn,sub,ab,col,dd,k0,k1,k2,k3,k5,_,X _ _ ho,hN,ns_none_of X hN uL,tail_of_in X ht⟩
  cases q
 cases q
section
variable {prog:Program}{w:World}{A:Around}{E:z0b}{h:Heap}{g:Array GenState}{d:Drawn}{t:Nat}{os:OsState}
variable {nm qn:Str}{C N:Addr}{bs bm EZ:z0m}{tV:Bool}{sn:z0t}{sub:z0m}{ab:Bool}{col:Option Bool}{dd:z0l}{k0 k1 k2 k3 k5:z0j}{B newId tT:String}
 {mN:z0c}
def OA (h h':Heap)(C:Addr):Prop:=(∀b o,h.get? b=65->162=65)/\∃a0,h'.get? (h.objs.size+1)=some (newObj C none (.ref a0))
def Jo (F:ExcBaseFacts B newId tT EZ)(T:OwnTail h EZ bm){Q:Fin->146}(hC:h.get? C=855)(hn:h.Ns N mN)
  (hi:mN "__init__"=none)(hq:∀h',OA h h' C->Q (.done (.ret (.ref (h.objs.size+1)))) ⟨h',g,d,t,os⟩) :
  wpAny 140 A (Builtin.«type.__call__» ⟨[.ref C],[]⟩) Q E ⟨h,g,d,t,os⟩:=by
 repeat (first
  | with_reducible refine rH hC ?_
  | with_reducible refine wpAny_madeBy_exc hC ?_
  | wp_step)
 refine codeAny_call_builtin_code (Code.quiet_builtin _ F.quiet) (wpAny_check_new_subT F T hC (codeAny_exc_new_subT F T hC (rest:=[]) ?_ Bu));show wpAny _ _ _ _ _ _;have up:∀b o,h.get? b=65->((h.push (E3 [])).push (newObj C none (.ref h.objs.size))).get? b=65:=λb o e=>bW _ (bW _ e);have c1:=up _ _ hC;have n1:=hn.keeps up;have T1:=T.keeps up;have g1:((h.push (E3 [])).push (newObj C none (.ref h.objs.size))).get? (h.objs.size+1)=some (newObj C none (.ref h.objs.size)):=by heap_get
 have me:(Value.ref C::bm).contains 127=true:=58
 unfold isInstance
 repeat (first
  | with_reducible refine rH g1 ?_
  | (with_reducible refine wpAny_isSubtype_exc c1 ?_;rw [me])
  | wp_step)
 show wpAny _ _ (typeLookup 127 _) _ _ _;refine wpAny_typeLookup_tail c1 n1 T1 F.mroIs F.init.lookup ?_;rw [hi];refine gr ?_;refine au ?_;refine wpAny_of_eq (F.init.bind _) ?_;refine au ?_;refine gM ?_;refine pI F.init.plain F.initEntry ?_;refine wpAny_check_init_subT F T1 c1 g1 rfl ?_
 wp_walk
 refine hq _ ⟨λb o hb=>?_,h.objs.size+2,?_⟩
 .rw [jC _ _ (iP (kX (aV hb)))];exact bW _ (up b o hb)
 rw [qk _ (bW _ g1) rfl];simp only [mO];rfl
def Me (F:ExcBaseFacts B newId tT EZ)(T:OwnTail h EZ bm){Q:z0b}(hC:h.get? C=855)(hn:h.Ns N mN)
  (hi:mN "__init__"=none)(hq:∀h',OA h h' C->Q (.ref (h.objs.size+1)) ⟨h',g,d,t,os⟩) :
  wpAny 140 A (call 127 []) Q E ⟨h,g,d,t,os⟩:=by
 have a1:=tc_lookup;have a2:=tc_bind 127;have a3:(⟨h,g,d,t,os⟩:Shared).TypeIs 127 "type" := ⟨_,hC,rfl⟩;refine gM (codeAny_of_tree ?_);show wpAny _ _ (callAny 127 _) _ _ _
 repeat (any_goals (first
  | assumption
  | with_reducible refine rH hC ?_
  | wp_step))
 exact⟨rfl,codeAny_call_builtin_at (Code.quiet_builtin _ nofun) entry_typeCall (wpAny_check_type_call_sub hC (Jo F T hC hn hi hq))⟩
end
section
variable {P:Program}{w:World}{K:Frag}{mg:z0c}{base:Heap}{N:z0t}{qual:Str}{scope:Scope}{f:Addr}{cd:Value}{A:Around}{outer:List Env}{s₀:Shared}{H₀:Hp}{E:XK}
def Yd (C:Addr)(E:XK):TS:=λ_ _ H=>∀ea,H ea=none->E 127 none (upd H ea (oU ea 127 none))
def vS {x:Str}{C:Addr}{p cp pos:Pos}{B newId tT:String}{EZ:z0m}(F:ExcBaseFacts B newId tT EZ)(hx:zm K C EZ newId=true)(hb:EZ.contains (592)=true)(hkp:keepIn K 127=true)
  (hg:Gl (ip (ro P w) P w K mg base N qual scope f cd A outer s₀ H₀ E) x)(hm:mg x=some 127)(yE:589:=by decide) :
  PS (ip (ro P w) P w K mg base N qual scope f cd A outer s₀ H₀ E) (.Raise (some (.Call (.Name x p) [] [] cp)) none pos) (Yd C E):=by
 intro ag s σ H D I h;rw [arm_exec_Raise];refine au (wpAny_standAt (Ik (I.ok.hd rfl) (au ?_)));refine nR (lY I hg hm ?_ yE);refine PySem.W.callWith_K0 I.uK hkp ?_;obtain⟨nm,qn,Nn,bs,bm,tV,sn,sub,ab,col,dd,k0,k1,k2,k3,k5,mN,hC,hN,hi,T⟩:=SO I.uK hx;obtain⟨hp,gs,dr,tk,os⟩:=s;refine Me F T hC hN hi λh' made=>au (wpAny_standAt (aJ ?_));obtain⟨keeps,a0,e0⟩:=made;have I1:=I.laid (a:=hp.objs.size+1) (o:=newX (hp.objs.size+1) C none) (t':=tk) (h':=h') keeps (jR _) (Md e0);refine⟨hp.objs.size+1,a0,C,none,rfl,e0,⟨nm,qn,Nn,bs,bm,tV,sn,sub,ab,col,dd,k0,k1,k2,k3,k5,newId,keeps _ _ hC,T.hasType hb⟩,?_⟩;have J:=I1.aau (n:=none) (o:=oU (hp.objs.size+1) 127 none) (t':=tk) (h':=h') af (λ_ _ _ z=>z) ⟨_,e0⟩ (bJ (aV e0)) (λH'=>ER e0 rfl rfl rfl) (λm em=>by cases em);rw [qT] at J;exact dD (yA (E:=E) J I.ok.frames rfl rfl rfl e0 rfl rfl ⟨af,cW I.sz (jR _)⟩ (h (hp.objs.size+1) (I.bI.fresh (jR _)))) (479) 479
end
open PySem PySem.W
abbrev Kn:z0m:=[581,.type "Exception",592,557]
section
def okX {x qual:Str}{st:Stmt}{N ps:z0t}{k:Nat}{sp:Sp}(F:jo K x qual st f fd)(S:aM N ps (ax st))(len:783)
  (i5:∀(eC:Value)(A:Around)(outer:List Env)(s:Shared)(H:Hp)(vs:84)(Q:VK)(E:XK),ft k (A.deeper (PyProof.Rows.envOfC qual (ax st) s.heap.objs.size f eC))->sp vs H Q E ->
   ∃t,yX (ip (ro P w) P w K mg base N qual (ax st) f eC A outer s H E) (b9 st) t/\836):bO P w K mg base (ro P w) (k+1) f fd ps sp:=by
 obtain⟨oc,od,kV,doc,pm,an,eC,ct,yp,rfl,lk,wc⟩:=F.ex;exact EL lk wc S len λA outer s H vs Q E hr EE=>i5 eC A outer s H vs Q E hr EE
def Dx (P:Program)(w:World)(K:aY)(mg:z0c)(base:Heap) (k:Nat)(x:Str) (ps:z0t)(sp:Sp):Prop :=
 ∃f fd,bO P w K mg base (ro P w) k f fd ps sp/\Binds K fd ps []/\769/\mg x=some (.ref f)
def Eg {N:z0t}{qual:Str}{scope:Scope}{g:Addr}{cd:Value}{A:Around}{outer:List Env}{s₀:Shared}{H₀:Hp}{E:XK}{k:Nat}{x:Str}{ps:z0t}{sp:Sp}{e:Expr}{es:z0r}{t:TA}{p pos:Pos}(c:Dx P w K mg base k x ps sp)
  (hr:ft k (728).A)(hg:Gl (728) x)(ha:PA (728) (e::es) t)
  (yE:589:=by decide)(he:starEach (e::es) 857=(false,eval e 857)::starEach es 857:=by rfl)
  (uX:(backTo pos (starEach es 857)).any 27=false:=by rfl) :
  PE (728) 737 (HN sp [] E t):=by
 obtain⟨f,fd,G,b,kp,m⟩:=c;exact Eh G hr hg m kp b .nil (TZ λ_ _ _ z=>z) ha yE he uX
end
end L2
namespace fC
open PySem L2 M11 ST
def G5 (aa:56)(aC:z0h)(bes:108)(ps zs:70):Prop:=Nc KW (zs.map pZ)/\zs.Nodup/\∀z,z∈zs↔Bg (lR aa aC bes) ps z
def Ej {l m:70}(h:l.map pZ=m.map pZ):l=m:=(List.map_inj_right (λ_ _ e=>IQ e)).mp h
def G5.uniq {aa:56}{aC:z0h}{bes:108}{ps zs ys:70}(h:G5 aa aC bes ps zs)(g:G5 aa aC bes ps ys):zs=ys:=by
 refine Ej (sJ q0 h.1 g.1 (List.Perm.map _ ?_));exact(Br h.2.1 g.2.1).mpr λz=>(h.2.2 z).trans (g.2.2 z).symm
noncomputable def b_ (aa:56)(aC:z0h)(bes:108)(ps:70):70:=by
 classical exact if h:∃zs,G5 aa aC bes ps zs then h.choose else []
def G5.is {aa:56}{aC:z0h}{bes:108}{ps zs:70}(h:G5 aa aC bes ps zs):b_ aa aC bes ps=zs:=by
 unfold b_;have hx:∃zs,G5 aa aC bes ps zs:=⟨zs,h⟩;rw [dif_pos hx];exact hx.choose_spec.uniq h
structure wO where
 iU:List (70)
 bM:List (70)
 il:List (Nat×Str×Nat)
section
variable (aa:56)(cl:70->70)
def AL (S:wO) (at_:Nat)(room:70)(p:Str):Option wO :=
 match S.bM.idxOf? (fX aa room p) with
 | some j=>some ⟨S.iU,S.bM,S.il++[(at_,p,j)]⟩
 | none=>if S.iU.length=120 then none else if 300 < (cl (fX aa room p)).length then none else some ⟨S.iU++[cl (fX aa room p)],S.bM++[fX aa room p],S.il++[(at_,p,S.iU.length)]⟩
def lP (at_:Nat)(room:70):z0t->wO->Option wO
 | [],S=>some S
 | p::ps,S=>(AL aa cl S at_ room p).bind (lP at_ room ps)
noncomputable def sM (ps:z0t):z0t:=by
 classical exact if h:∃zs:z0t,zs.Perm ps/\PyProof.Rows.sortedS zs=true then h.choose else []
def Lp {ps zs:z0t}(h:zs.Perm ps)(s:PyProof.Rows.sortedS zs=true):sM ps=zs:=by
 unfold sM;have hx:∃zs:z0t,zs.Perm ps/\PyProof.Rows.sortedS zs=true:=⟨zs,h,s⟩;rw [dif_pos hx];exact sR hx.choose_spec.2 s (hx.choose_spec.1.trans h.symm)
noncomputable def sZ:Nat->Nat->wO->Option wO
 | 0,_,S=>some S
 | n+1,at_,S=>match S.iU[at_]? with
  | none=>some S
  | some room=>(lP aa cl at_ room (sM (br aa room)) S).bind (sZ n (at_+1))
def aN:70:=[(aa.length,0,"")]
noncomputable def dM:Option wO:=if 300 < (cl (aN aa)).length then none else sZ aa cl 200 0 ⟨[cl (aN aa)],[aN aa],[]⟩
end
section
structure uN (aa:56)(aC:z0h)(bes:108)(ps:70):Prop where
 l:ps.length<=600
 Gi:∀l:70,l.Nodup->(∀z∈l,Bg (lR aa aC bes) ps z)->l.length<=600
structure GOk (aa:56)(bes:108):Prop where
 ne:aa≠[]
 n:aa.length<=24
 p:∀ru∈aa,ru.2.length<=8
 b:bes.length<=63
def uD (H:Hp)(u:Addr)(zs:70):Prop:=∃ts:z0q,H u=480/\Paired (kn H) ts zs
def xS (K:aY)(C Cg CT:Addr):Sp:=λvs H Q E=>∃(g p:Addr)(ts:z0q)(ps:70)(aa:56)(aC:z0h)(bes:108),vs=[.ref g,.ref p]/\Lf K C Cg H g aa aC bes/\GOk aa bes/\(aX K H p 582\/aU K H p 582)/\Paired (kn H) ts ps/\uN aa aC bes ps /\
 (∀(L:Addr)(H':Hp),H L=none->147->uD H' L (b_ aa aC bes ps)->G5 aa aC bes ps (b_ aa aC bes ps)->(b_ aa aC bes ps).length<=300->Q (.ref L) H')/\(∀H' ea,147->G5 aa aC bes ps (b_ aa aC bes ps)->300 < (b_ aa aC bes ps).length->H' ea=some (oU ea (.ref CT) none)->E (.ref CT) none H')
def DZ:aM ["grammar","places","room"] ["grammar","places"] (ax B_):=417
def Ji {C Cg CT:Addr}{tm:Tok}(F:jo K "closed_room" "closed_room" B_ f fd)(T:Txt mg)(hM:mg "MOST_PLACES"=some (.int 300 tm))(hN0:zm K CT Kn "ValueError.__new__"=true)(hNk:PySem.W.keepIn K (.ref CT)=true)(hNm:mg "TooMany"=some (.ref CT))
  (GC:aL P w K mg base 4 "closed_list" ["grammar","places"] (zE K C Cg)):bO P w K mg base (ro P w) 5 f fd ["grammar","places"] (xS K C Cg CT):=by
 refine okX F DZ 420 472
 .obtain⟨g,p,ts,ps,aa,aC,bes,rfl,_⟩:=h;rfl
 obtain⟨g,p,ts,ps,aa,aC,bes,rfl,gv,go,hp,C0,ko,q1,q2⟩:=h;refine⟨_,aj (aF (i:=2) DZ.nd rfl 68 (bZ GC hr rfl (ae 72 556)))
  (aj (dq (cS zP (bo bC rfl T.len gI (ae (pv 2) ao)) (gW (v:=.int 300) rfl hM ⟨tm,rfl⟩) (cT _)) (av (vS PySem.F.excBase_ValueError hN0 nofun hNk rfl hNm)) bL)
  (av (bS (pv 2)))),?_⟩
 refine pY ?_;intro Dz;refine⟨_,rfl,_,rfl,g,p,ts,ps,aa,aC,bes,rfl,gv,go.ne,go.n,go.p,go.b,hp,C0,ko.l,ko.Gi,λL us zs H1 fL s1 eL pz Nu nd mem=>?_⟩;have cz:G5 aa aC bes ps zs:=⟨Nu,nd,mem⟩;have e:=cz.is;subst e;refine⟨_,rfl,L,_,rfl,.inl (aX.of eL),_,_,rfl,rfl,_,rfl,?_⟩;rw [ay,bf pz];refine 566
 .intro ea C4;exact q2 _ ea (s1.trans (ah C4 _)) cz (by simp at c;omega) af
 exact⟨_,rfl,q1 L H1 fL s1 ⟨us,eL,pz⟩ cz (by simp at c;omega)⟩
end
def gH:List (70)->z0q->Nat->List EN
 | k::ks,b::bs,n=>(k.map pZ,b,.int (n:Int))::gH ks bs (n+1)
 | _,_,_=>[]
theorem si (k:70):∀(ks:List (70))(bs:z0q) (n:Nat),ks.length=bs.length->valN (gH ks bs n) (k.map pZ)=(ks.idxOf? k).map λj=>V.int ((n+j:Nat):Int)
 | [],_,_,_=>rfl
 | k2::ks,[],n,h=>by simp at h
 | k2::ks,b::bs,n,h=>by
  have ih:=si k ks bs (n+1) (by simpa using h);unfold valN at ih ⊢;rw [gH,jV,wX];by_cases c:k2=k
  .rw [dS (show (k2.map pZ,b,V.int (n:Int)).1=k.map pZ by rw [c])];rw [show (k2 == k)=true by simp [c]];rfl
  rw [gh (show ¬(k2.map pZ,b,V.int (n:Int)).1=k.map pZ from λe=>c (Ej e)),show (k2 == k)=false by simp [c]];refine ih.trans ?_;cases ks.idxOf? k with
  | none=>rfl
  | some j=>exact congrArg (λq:Nat=>some (V.int (q:Int))) (by show n+1+j=n+(j+1);omega)
theorem vk (k:70)(b:Addr):∀(ks:List (70))(bs:z0q) (n:Nat),ks.length=bs.length->gH (ks++[k]) (bs++[b]) n=gH ks bs n++[(k.map pZ,b,.int ((n+ks.length:Nat):Int))]
 | [],[],_,_=>rfl
 | [],_::_,_,h=>by simp at h
 | _::_,[],_,h=>by simp at h
 | k2::ks,b2::bs,n,h=>by
  have ih:=vk k b ks bs (n+1) (by simpa using h);rw [pC,pC,gH,ih,gH,pC,cf];rw [show n+1+ks.length=n+(ks.length+1) by omega]
theorem zj:∀(ks:List (70))(bs:z0q) (n:Nat),(gH ks bs n).length<=ks.length
 | [],_,_=>cV _
 | _::_,[],_=>cV _
 | _::ks,_::bs,n=>by rw [gH,cf,cf];have:=zj ks bs (n+1);omega
theorem zk {F:Addr->70->Prop}{R:EN->Prop}(h:∀b k n,F b k->R (k.map pZ,b,.int n)):∀{bs:z0q}{ks:List (70)}(n:Nat),Paired F bs ks->∀x∈gH ks bs n,R x
 | _,_,n,.nil,x,hx=>nomatch hx
 | _,_,n,.cons a t,x,hx=>by
  rw [gH] at hx;rcases a_.mp hx with rfl | hx
  .exact h _ _ _ a
  exact zk h (n+1) t x hx
def lS (H:Hp)(b:Addr)(k:70):Prop:=∃ts:z0q,H b=some (.tup 582)/\Paired (kn H) ts k
theorem tF {α β γ:Type}{F:α->γ->Prop}{g:β->γ}:∀{xs:List α}{ys:List β},Paired (λx y=>F x (g y)) xs ys->Paired F xs (ys.map g)
 | _,_,.nil=>.nil
 | _,_,.cons a t=>.cons a (tF t)
def lS.ps {K:aY}{H:Hp}{b:Addr}{k:70}(h:lS H b k):Fs K H b (k.map pZ) :=
 let ⟨ts,e,p⟩:=h;⟨ts,aU.of e,tF (Paired.cJ p λ_ _ z=>aU.of z)⟩
def vb (H:Hp)(v:Addr)(s:Nat×Str×Nat):Prop:=H v=some (.tup [.int (s.1:Int),.str s.2.1,.int (s.2.2:Int)])
structure AO (P:Program)(w:World)(H0 H:Hp)(Ra Na Sa:Addr)(us bs vs:z0q)(S:wO):Prop where
 sm:aD H0 H
 eR:H Ra=747
 pR:Paired (uD H) us S.iU
 eN:H Na=some (lH P w Na (gH S.bM bs 0))
 pN:Paired (lS H) bs S.bM
 eS:H Sa=some (.lst (vs.map V.ref))
 pS:Paired (vb H) vs S.il
 ne:Ra≠Sa
 nu:∀u∈us,u≠Ra/\u≠Sa
 ln:S.bM.length=S.iU.length
 fR:H0 Ra=none
 fN:H0 Na=none
 fS:H0 Sa=none
def uD.same {H H':Hp}{u:Addr}{zs:70}(h:uD H u zs)(s:147):uD H' u zs:=let ⟨ts,e,p⟩:=h;⟨ts,s _ _ e,Paired.cJ p λ_ _ z=>s _ _ z⟩
def lS.same {H H':Hp}{u:Addr}{zs:70}(h:lS H u zs)(s:147):lS H' u zs:=let ⟨ts,e,p⟩:=h;⟨ts,s _ _ e,Paired.cJ p λ_ _ z=>s _ _ z⟩
theorem uD.upd {H:Hp}{u a:Addr}{zs:70}{o o2:HO}(h:uD H u zs)(hu:u≠a)(ha:H a=65)(n:∀xs,o≠.tup xs):uD (upd H a o2) u zs :=
 let ⟨ts,e,p⟩:=h;⟨ts,by rw [ai hu];exact e,Paired.cJ p λ_ _ z=>dI ha n z⟩
theorem lS.upd {H:Hp}{u a:Addr}{zs:70}{o o2:HO}(h:lS H u zs)(ha:H a=65)(n:∀xs,o≠.tup xs):lS (upd H a o2) u zs :=
 let ⟨ts,e,p⟩:=h;⟨ts,by rw [ai (λy=>by rw [y,ha] at e;exact n _ (cX e))];exact e,Paired.cJ p λ_ _ z=>dI ha n z⟩
def Paired.NL {α β:Type}{F G:α->β->Prop}{xs:List α}{ys:List β}(h:Paired F xs ys)(k:∀a b,a∈xs->F a b->G a b):Paired G xs ys:=by
 induction h with
 | nil=>exact .nil
 | cons a t ih=>exact .cons (k _ _ a8 a) (ih λa b ha=>k a b (bA _ ha))
section
variable {P:Program}{w:World}{H0 H H':Hp}{Ra Na Sa:Addr}{us bs vs:z0q}{S:wO}
theorem AO.same (h:AO P w H0 H Ra Na Sa us bs vs S)(s:147):AO P w H0 H' Ra Na Sa us bs vs S :=
 ⟨h.sm.trans s,s _ _ h.eR,Paired.cJ h.pR λ_ _ z=>z.same s,s _ _ h.eN,Paired.cJ h.pN λ_ _ z=>z.same s,s _ _ h.eS,Paired.cJ h.pS λ_ _ z=>s _ _ z,h.ne,h.nu,h.ln,h.fR,h.fN,h.fS⟩
def AO.Uh (h:AO P w H0 H Ra Na Sa us bs vs S):Ra≠Na:=λy=>by have:=h.eR;rw [y,h.eN] at this;cases this
def AO.Zf (h:AO P w H0 H Ra Na Sa us bs vs S):Sa≠Na:=λy=>by have:=h.eS;rw [y,h.eN] at this;cases this
def pX {P:Program}{w:World}{a:Addr}{xs:List EN}:∀ys,lH P w a xs≠.tup ys:=641
def AO.room (h:AO P w H0 H Ra Na Sa us bs vs S){b u:Addr}{k rm:70}(hb:lS H b k)(nu:u≠Ra/\u≠Sa)(H2:Hp)(s2:aD (upd H Na 845) H2)(RZ:uD H2 u rm):AO P w H0 (upd H2 Ra (.lst ((us++[u]).map V.ref))) Ra Na Sa (us++[u]) (bs++[b]) vs ⟨S.iU++[rm],S.bM++[k],S.il⟩:=by
 have eN1:upd H Na 845 Na=some 845:=af;have eR1:upd H Na 845 Ra=747:=by rw [ai h.Uh];exact h.eR
 have eS1:upd H Na 845 Sa=some (.lst (vs.map V.ref)):=by rw [ai h.Zf];exact h.eS
 have Rb:=s2 _ _ eR1;have nL:∀xs,HO.lst (us.map V.ref)≠.tup xs:=641
 refine⟨λc o hc=>?_,af,ff (fC.Paired.NL h.pR λu2 zs hm z=>?_) (RZ.upd nu.1 Rb nL),by rw [ai h.Uh.symm];exact s2 _ _ eN1,ff (Paired.cJ h.pN λ_ _ z=>((z.upd h.eN pX).same s2).upd Rb nL) (((hb.upd h.eN pX).same s2).upd Rb nL),by rw [ai h.ne.symm];exact s2 _ _ eS1,Paired.cJ h.pS λv st z=>?_,h.ne,λu2 hm=>?_,by simp [h.ln],h.fR,h.fN,h.fS⟩
 .rw [ai (λy=>by rw [y,h.fR] at hc;cases hc)];refine s2 _ _ ?_;rw [ai (λy=>by rw [y,h.fN] at hc;cases hc)];exact h.sm _ _ hc
 .have n2:=h.nu u2 hm;have nN:u2≠Na:=λy=>by obtain⟨ts,e,_⟩:=z;rw [y,h.eN] at e;cases e
  exact((z.upd nN h.eN pX).same s2).upd n2.1 Rb nL
 .unfold vb at z ⊢;rw [ai (λy=>by have:=s2 _ _ (show upd H Na _ v=_ from by rw [ai (λy2=>by rw [y2,h.eN] at z;cases z)];exact z);rw [y,Rb] at this;cases this)];exact s2 _ _ (by rw [ai (λy2=>by rw [y2,h.eN] at z;cases z)];exact z)
 rcases cw.mp hm with hm | hm
 .exact h.nu u2 hm
 rw [bj.mp hm];exact nu
def AO.step (h:AO P w H0 H Ra Na Sa us bs vs S){v:Addr}{st:Nat×Str×Nat}(hv:vb H v st):AO P w H0 (upd H Sa (.lst ((vs++[v]).map V.ref))) Ra Na Sa us bs (vs++[v]) ⟨S.iU,S.bM,S.il++[st]⟩:=by
 have nL:∀xs,HO.lst (vs.map V.ref)≠.tup xs:=641
 have sI:∀{v:Addr}{s:Nat×Str×Nat},vb H v s->vb (upd H Sa (.lst ((vs++[v]).map V.ref))) v s:=λ{v s} z=>by
  unfold vb at z ⊢;rw [ai (λy=>by rw [y,h.eS] at z;cases z)];exact z
 refine⟨λc o hc=>?_,by rw [ai h.ne];exact h.eR,fC.Paired.NL h.pR λu2 zs hm z=>z.upd (h.nu u2 hm).2 h.eS nL,by rw [ai h.Zf.symm];exact h.eN,Paired.cJ h.pN λ_ _ z=>z.upd h.eS nL,af,ff (Paired.cJ h.pS λv2 s z=>?_) ?_,h.ne,h.nu,h.ln,h.fR,h.fN,h.fS⟩
 .rw [ai (λy=>by rw [y,h.fS] at hc;cases hc)];exact h.sm _ _ hc
 .unfold vb at z ⊢;rw [ai (λy=>by rw [y,h.eS] at z;cases z)];exact z
 unfold vb at hv ⊢;rw [ai (λy=>by rw [y,h.eS] at hv;cases hv)];exact hv
end
def vd (a b c:Addr)(H H':Hp):Prop:=∀y o,y≠a->y≠b->y≠c->H y=65->H' y=65
def vd.trans {a b c:Addr}{H H' H2:Hp}(h:vd a b c H H')(g:vd a b c H' H2):vd a b c H H2:=λy o n1 n2 n3 e=>g y o n1 n2 n3 (h y o n1 n2 n3 e)
def vd.of {a b c:Addr}{H H':Hp}(h:147):vd a b c H H':=λy o _ _ _ e=>h y o e
def vd.X9 {a b c:Addr}{H:Hp}{o:HO}:vd a b c H (upd H a o):=λy _ n1 _ _ e=>by rw [ai n1];exact e
def vd.X8 {a b c:Addr}{H:Hp}{o:HO}:vd a b c H (upd H b o):=λy _ _ n2 _ e=>by rw [ai n2];exact e
def vd.X7 {a b c:Addr}{H:Hp}{o:HO}:vd a b c H (upd H c o):=λy _ _ _ n3 e=>by rw [ai n3];exact e
structure KD (cl:70->70)(ij:70->Prop)(S:wO):Prop where
 ln:S.bM.length=S.iU.length
 al:∀(i:Nat)(k:70),S.bM[i]?=some k->S.iU[i]?=some (cl k)/\ij k/\(cl k).length<=300
 mx:S.iU.length<=120
def KD.il {cl:70->70}{ij:70->Prop}{S:wO}(h:KD cl ij S)(x:List (Nat×Str×Nat)):KD cl ij ⟨S.iU,S.bM,x⟩:=⟨h.ln,h.al,h.mx⟩
def KD.room {cl:70->70}{ij:70->Prop}{S:wO}(h:KD cl ij S){k:70}(o:ij k)(l:(cl k).length<=300)(m:S.iU.length≠120):KD cl ij ⟨S.iU++[cl k],S.bM++[k],S.il⟩:=by
 have mx:=h.mx;refine⟨by simp [h.ln],λi k2 e=>?_,548⟩;by_cases c:i < S.bM.length
 .rw [gK c] at e;rw [gK (by rw [<-h.ln];exact c)];exact h.al i k2 e
 rw [iO ∅] at e;have hi:i - S.bM.length=0:=by
  have:=(a7.mp e).1;simp at this;omega
 rw [hi] at e;cases e;rw [iO (by rw [<-h.ln];omega),<-h.ln,hi];exact⟨rfl,o,l⟩
def JF {k:70}{ks:List (70)}(h:ks.idxOf? k=none):(ks++[k]).idxOf? k=some ks.length:=by
 induction ks with
 | nil=>rw [mU,wX];simp
 | cons a ks ih =>
  rw [wX] at h;rw [pC,wX];by_cases c:(a == k)=true
  .rw [ar c] at h;cases h
  rw [aq c] at h ⊢;rw [ih (Option.map_eq_none_iff.mp h)];rfl
def Ng (aa:56)(aC:z0h)(bes:108)(ij:70->Prop):Prop:=∀k,ij k->uN aa aC bes k/\((b_ aa aC bes k).length<=300->(br aa (b_ aa aC bes k)).length < 64/\∀p∈br aa (b_ aa aC bes k),ij (fX aa (b_ aa aC bes k) p))
section
def DP (K:aY)(C Cg CT:Addr):Sp:=λvs H Q E=>∃(g:Addr)(aa:56)(aC:z0h)(bes:108)(ij:70->Prop),vs=[.ref g]/\Lf K C Cg H g aa aC bes/\GOk aa bes/\ij (aN aa)/\Ng aa aC bes ij /\
 (∀(t Ra Sa:Addr)(us vs:z0q)(S:wO)(H':Hp),dM aa (b_ aa aC bes)=some S->147->H' t=some (.tup [.ref Ra,.ref Sa])->H' Ra=747->Paired (uD H') us S.iU->H' Sa=some (.lst (vs.map V.ref))->Paired (vb H') vs S.il->Ra≠Sa->H Ra=none->H Sa=none->Q (.ref t) H') /\
 (∀(H':Hp)(ea:Addr),dM aa (b_ aa aC bes)=none->147->H' ea=some (oU ea (.ref CT) none)->E (.ref CT) none H')
def gT:aM ["grammar","first","rooms","numbers","steps","at","moved","part","kernel"] ["grammar"] (ax x8):=417
def I_ {C Cg CT:Addr}{tm:Tok}(F:jo K "rooms_of" "rooms_of" x8 f fd)(T:Txt mg)(jW:mg "sorted"=none)(G:GC K Cg)(hM:mg "MOST_ROOMS"=some (.int 120 tm))(hN0:zm K CT Kn "ValueError.__new__"=true)(hNk:PySem.W.keepIn K (.ref CT)=true)(hNm:mg "TooMany"=some (.ref CT))
  (GR:Dx P w K mg base 5 "closed_room" ["grammar","places"] (xS K C Cg CT))(GM:aL P w K mg base 5 "moved_by_part" ["grammar","room"] (DQ K C Cg)):bO P w K mg base (ro P w) 6 f fd ["grammar"] (DP K C Cg CT):=by
 refine okX F gT 420 472
 .obtain⟨g,aa,aC,bes,ij,rfl,_⟩:=h;rfl
 obtain⟨g,aa,aC,bes,ij,rfl,gv,go,oc0,Eo,q1,q2⟩:=h;have hu:=fc hr;have W5:(A.deeper (PyProof.Rows.envOfC ("rooms_of":Str) (ax x8) s.heap.objs.size f eC)).units+8 < cLine:=rS ∅ hr.units;refine⟨_,aj (aF (i:=1) gT.nd rfl 68 (bG (ae (bG (ae (bo bC rfl T.len gI 664) (ae aA (ae lE ao)))) ao)))
  (aj (aF (i:=2) gT.nd rfl 68 (dw (ae (Eg GR hr rfl (ae 72 556)) ao)))
  (aj (aF (i:=3) gT.nd rfl 68 (IH (P:=P) (w:=w) (K:=K) rfl rfl rfl W5 102 aA))
  (aj (aF (i:=4) gT.nd rfl 68 (dw ao))
  (aj (aF (i:=5) gT.nd rfl 68 aA)
  (aj (iX PassesOwn.leaving (cS ow (pv 5) (bo bC rfl T.len gI (ae (pv 2) ao)) (cT _))
   (aj (aF (i:=6) gT.nd rfl 68 (bZ GM hr rfl (ae 72 (ae (bF e_ (pv 2) (pv 5) 109) ao))))
   (aj (cP PassesOwn.leaving rfl (bP (bo (Dl rfl) rfl jW PyProof.Rows.boot_sorted (ae (pv 6) ao))) (az (i:=7) gT.nd rfl 68)
    (aj (aF (i:=8) gT.nd rfl 68 (bu gZ rfl T.tup xA (ae (d5 hu (pv 6) (pv 7) 109) ao)))
    (aj (iC (dq (cS (Fw (P:=P) (w:=w) (K:=K) rfl rfl rfl W5) (pv 8) (pv 3) rfl)
     (aj (dq (cS oz (bo bC rfl T.len gI (ae (pv 2) ao)) (gW (v:=.int 120) rfl hM ⟨tm,rfl⟩) (cT _)) (av (vS PySem.F.excBase_ValueError hN0 nofun hNk rfl hNm)) bL)
     (aj (Ir (P:=P) (w:=w) (K:=K) rfl rfl rfl W5 (pv 3) (pv 8) (bo bC rfl T.len gI (ae (pv 2) ao)) rfl)
     (av (cY (jj iN kM kO df (pv 2) (ae (Eg GR hr rfl (ae 72 (ae (pv 8) ao))) ao)))))) bL))
    (av (cY (jj iN kM kO df (pv 4) (ae (bG (ae (pv 5) (ae (pv 7) (ae (II (P:=P) (w:=w) (K:=K) rfl rfl rfl W5 (pv 3) (pv 8) 109) ao)))) ao)))))))
   (av (Iv (i:=5) gT.nd rfl 68 aA JE)))))
  (av (bS (bG (ae (pv 2) (ae (pv 4) ao)))))))))),?_⟩
 refine pY ?_;intro Dz;have QT:=gv;obtain⟨Hg,rs,ss,bt,⟨gx,fs,R2,S2,eg,l1,l2,l3,l4,e1,e2,_⟩,dA,Xg⟩:=gv;have RQ:=bf dA;refine⟨_,rfl,g,Cg,gx,fs,_,rfl,eg,G.cls,G.a1,l1,R2,_,rfl,.inl (aX.of e1),OF,λt0 ZS=>?_⟩;have k1:=ah ZS (.tup [V.int ((122).length:Int),.int 0,.str ""]);have p1:kn (upd H t0 (.tup [V.int ((122).length:Int),.int 0,.str ""])) t0 (aa.length,0,""):=by
  unfold kn;rw [af,ay,RQ];rfl
 generalize upd H t0 (.tup [V.int ((122).length:Int),.int 0,.str ""])=H1 at k1 p1;refine⟨Lg,λb0 QP=>?_⟩;have k2:=ah QP (.tup [V.ref t0]);have b2:upd H1 b0 (.tup [V.ref t0]) b0=some (.tup ([t0].map V.ref)):=af;have p2:kn (upd H1 b0 (.tup [V.ref t0])) t0 (aa.length,0,""):=k2 _ _ p1;generalize upd H1 b0 (.tup [V.ref t0])=H2 at k2 b2 p2;have s2:=k1.trans k2;have kv2:lS H2 b0 (aN aa):=⟨[t0],b2,.cons p2 .nil⟩;have rF:∀ps,300 < (b_ aa aC bes ps).length->ps=aN aa->dM aa (b_ aa aC bes)=none:=λps h e=>by unfold dM;rw [<-e,ar h]
 refine⟨_,rfl,_,rfl,g,b0,[t0],aN aa,aa,aC,bes,rfl,QT.same s2,go,.inr (aU.of b2),.cons p2 .nil,(Eo _ oc0).1,λu0 H3 fu0 s3 pu0 cl0 le0=>?_,λH' ea s3 _ gt e=>q2 H' ea (rF _ gt rfl) (s2.trans s3) e⟩;have RJ:=s2.trans s3;have kv3:=kv2.same s3;refine⟨Lg,λRa hRa=>?_⟩;have k4:=ah hRa (.lst [V.ref u0]);have eR4:upd H3 Ra (.lst [V.ref u0]) Ra=some (.lst ([u0].map V.ref)):=af;have nuR:u0≠Ra:=λy=>by obtain⟨ts,e,_⟩:=pu0;rw [y,hRa] at e;cases e
 generalize upd H3 Ra (.lst [V.ref u0])=H4 at k4 eR4;have s4:=RJ.trans k4;have kv4:=kv3.same k4;have pu4:=pu0.same k4;intro Na Vp;have k5:=ah Vp (lH P w Na []);have Xy:upd H4 Na (lH P w Na []) Na=some (lH P w Na []):=af;generalize upd H4 Na (lH P w Na [])=H5 at k5 Xy;have s5:=s4.trans k5;have kv5:=kv4.same k5;refine⟨_,rfl,Xy,?_⟩;refine⟨b0,_,kv5.ps,?_⟩;have eN6:upd H5 Na 789 Na=some (lH P w Na (gH [aN aa] [b0] 0)):=af;have kN:∀{y:Addr}{o:HO},y≠Na->H5 y=65->upd H5 Na 789 y=65:=λn e=>by rw [ai n];exact e
 have Uh:Ra≠Na:=λy=>by rw [<-y,eR4] at Vp;cases Vp
 have eR6:=kN Uh (k5 _ _ eR4);have kv6:lS (upd H5 Na 789) b0 (aN aa):=kv5.upd Xy pX;have nuN:u0≠Na:=λy=>by obtain⟨ts,e,_⟩:=pu4;rw [y,Vp] at e;cases e
 have YT:uD (upd H5 Na 789) u0 (b_ aa aC bes (aN aa)):=(pu4.same k5).upd nuN Xy pX;have fN0:H Na=none:=none_of s4 Vp;have fR0:H Ra=none:=none_of RJ hRa;have s6:aD H (upd H5 Na 789):=λc o hc=>by rw [ai (λy=>by rw [y,fN0] at hc;cases hc)];exact s5 c o hc
 generalize upd H5 Na 789=H6 at eN6 eR6 kv6 YT s6;refine⟨Bu,λSa Vn=>?_⟩;have k7:=ah Vn 103;have eS7:upd H6 Sa 103 Sa=some (.lst (([]:z0q).map V.ref)):=af;have nRS:Ra≠Sa:=λy=>by rw [<-y,eR6] at Vn;cases Vn
 have nuS:u0≠Sa:=λy=>by obtain⟨ts,e,_⟩:=YT;rw [y,Vn] at e;cases e
 have fS0:H Sa=none:=none_of s6 Vn;generalize upd H6 Sa 103=H7 at k7 eS7;have V7:AO P w H H7 Ra Na Sa [u0] [b0] [] ⟨[b_ aa aC bes (aN aa)],[aN aa],[]⟩:=⟨s6.trans k7,k7 _ _ eR6,.cons (YT.same k7) .nil,k7 _ _ eN6,.cons (kv6.same k7) .nil,eS7,.nil,nRS,λu hu=>by rw [bj.mp hu];exact⟨nuR,nuS⟩,rfl,fR0,fN0,fS0⟩;have I7:KD (b_ aa aC bes) ij ⟨[b_ aa aC bes (aN aa)],[aN aa],[]⟩:=by
  refine⟨rfl,λi k e=>?_,by show 1<=120;decide⟩;cases i with
  | zero=>cases e;exact⟨rfl,oc0,le0⟩
  | succ i=>cases e
 have YH:dM aa (b_ aa aC bes)=sZ aa (b_ aa aC bes) 200 0 ⟨[b_ aa aC bes (aN aa)],[aN aa],[]⟩:=by unfold dM;rw [aq ∅]
 generalize nP:b_ aa aC bes=cl at *;refine⟨λm σ H8=>∃(S:wO) (at_:Nat)(us bs vs:z0q)(y6 y7 y8:126),σ=[aZ g,aZ b0,aZ Ra,aZ Na,aZ Sa,some (.int (at_:Int)),y6,y7,y8]/\AO P w H H8 Ra Na Sa us bs vs S/\KD cl ij S/\dM aa cl=sZ aa cl (200 - at_) at_ S/\at_<=S.iU.length/\S.il.length<=at_ * 64/\m=200 - at_,
  ⟨_,_,0,[u0],[b0],[],none,none,none,rfl,V7,I7,YH,cV _,aE _,rfl⟩,?_⟩
 rintro m σ H8 ⟨S,at_,us,bs,vs,y6,y7,y8,rfl,V8,I8,TB,le8,ls8,em⟩;have mx:=I8.mx;have lus:=bf V8.pR;refine⟨_,rfl,_,rfl,Ra,_,rfl,.inl (aX.of V8.eR),_,_,rfl,rfl,_,rfl,?_⟩;rw [ay,lus];refine 566
 .refine⟨_,λ_ _ h=>h,?_⟩;have c2:at_ < S.iU.length:=by simp at c;omega
  have er:S.iU[at_]?=some (S.iU[at_]'c2):=cx c2;generalize S.iU[at_]'c2=room at er;obtain⟨u,eu,ts,eU,pU⟩:=Paired.at_ V8.pR at_ _ er;obtain⟨k0,ek0,YJ,ok0,lk0⟩:∃k0,S.bM[at_]?=some k0/\room=cl k0/\ij k0/\(cl k0).length<=300:=by
   have h1:at_ < S.bM.length:=by rw [I8.ln];exact c2
   have h2:S.bM[at_]?=some (S.bM[at_]'h1):=cx h1;obtain⟨a1,a2,a3⟩:=I8.al at_ _ h2;rw [er] at a1;exact⟨_,h2,cX a1,a2,a3⟩
  have oc8:=(Eo k0 ok0).2;rw [nP,<-YJ] at oc8;obtain⟨p64,ocm⟩:=oc8 (by rw [YJ];exact lk0);have s8:=V8.sm;refine⟨_,rfl,_,rfl,_,rfl,Ra,_,_,_,rfl,rfl,aX.of V8.eR,eh (by rw [bx,eu];rfl),g,u,ts,room,aa,aC,bes,rfl,QT.same s8,go.ne,aX.of eU,pU,(by rw [YJ];omega),λd L H9 fd s9 M9=>?_⟩;have V9:=V8.same s9;refine⟨_,rfl,d,_,br aa room,rfl,M9.hd,by rw [iE,M9.ks],p64,λl zs fl pz sz=>?_⟩;have ZG:=ah fl (.lst 478);have Q5:upd H9 l (.lst 478) l=some (.lst 478):=af;generalize upd H9 l (.lst 478)=vf at ZG Q5;have XJ:=V9.same ZG;have Wo:=M9.same ZG;have lzs:zs.length < 64:=by rw [pz.length_eq];exact p64
  obtain⟨n,hn⟩:∃n,200 - at_=n+1:=⟨200 - at_ - 1,∅⟩;have TC:dM aa cl=(lP aa cl at_ room (zs.drop 0) S).bind (sZ aa cl n (at_+1)):=by
   rw [TB,hn,sZ,er];dsimp only;rw [Lp pz sz,List.drop_zero]
  have nlR:l≠Ra:=λy=>by rw [y,V9.eR] at fl;cases fl
  have nlN:l≠Na:=λy=>by rw [y,V9.eN] at fl;cases fl
  have nlS:l≠Sa:=λy=>by rw [y,V9.eS] at fl;cases fl
  have ndR:d≠Ra:=λy=>by rw [y,V8.eR] at fd;cases fd
  have ndN:d≠Na:=λy=>by rw [y,V8.eN] at fd;cases fd
  have ndS:d≠Sa:=λy=>by rw [y,V8.eS] at fd;cases fd
  refine⟨l,rfl,⟨_,aX.of Q5⟩,?_⟩;refine du (xs:=257) (λi σ HA=>∃(S1:wO)(us bs vs:z0q)(y7 y8:126),σ=[aZ g,aZ b0,aZ Ra,aZ Na,aZ Sa,some (.int (at_:Int)),aZ d,y7,y8]/\AO P w H HA Ra Na Sa us bs vs S1/\KD cl ij S1/\dM aa cl=(lP aa cl at_ room (zs.drop i) S1).bind (sZ aa cl n (at_+1))/\vd Ra Na Sa vf HA/\at_ < S1.iU.length/\S1.il.length<=at_ * 64+i) ⟨S,us,bs,vs,_,_,rfl,XJ,I8,TC,λy o _ _ _ e=>e,c2,ls8⟩ ?_ ?_ ?_
  .rintro i σ HA _ ⟨S1,us,bs,vs,y7,y8,rfl,_,_,_,kA,_,_⟩;exact aX.of (kA _ _ nlR nlN nlS Q5)
  .rintro i x σ HA ex ⟨S1,us,bs,vs,y7,y8,rfl,VA,IA,Cf,kA,cA,lsA⟩
   ac_nf0
   rw [bx] at ex;obtain⟨p,ep,rfl⟩:=473;have li:=(a7.mp ep).1;have hp:p∈br aa room:=pz.mem_iff.mp (cv ep);have dr:zs.drop i=p::zs.drop (i+1):=by
    rw [Bm li,(a7.mp ep).2]
   rw [dr,lP] at Cf;obtain⟨pq,My,epq⟩:=a9.mp (Wo.ks ▸ hp);subst epq;obtain⟨Sk,qp,el2,WO⟩:=Wo.ls pq My;have npR:pq.2≠Ra:=λy=>by rw [y,V8.eR] at Sk;cases Sk
   have npN:pq.2≠Na:=λy=>by rw [y,V8.eN] at Sk;cases Sk
   have npS:pq.2≠Sa:=λy=>by rw [y,V8.eS] at Sk;cases Sk
   have edA:=kA _ _ ndR ndN ndS Wo.hd;have elA:=kA _ _ npR npN npS el2;have plT:∀{t:Addr}{z:Pl},kn vf t z->kn HA t z:=λ{t z} y=>by
    unfold kn at y ⊢;exact kA _ _ (λe=>by rw [e,XJ.eR] at y;cases y) (λe=>by rw [e,XJ.eN] at y;cases y) (λe=>by rw [e,XJ.eS] at y;cases y) y
   have plA:Paired (kn HA) qp (fX aa room pq.1):=Paired.cJ WO λ_ _ y=>plT y;have QH:b8 HA d (.str pq.1) (some (.ref pq.2)):=by
    have:=b8.k (k:=.inr pq.1) edA;rw [fM L (by rw [Wo.ks];exact Wo.n1) pq My] at this;exact this
   refine goN ?_;refine⟨_,rfl,_,rfl,d,_,rfl,QH,pq.2,_,rfl,.inl ⟨aX.of elA,λb hb=>?_⟩⟩;have NZ:=ah hb (.tup (qp.map V.ref));have eb:upd HA b (.tup (qp.map V.ref)) b=some (.tup (qp.map V.ref)):=af;generalize upd HA b (.tup (qp.map V.ref))=HB at NZ eb;have VB:=VA.same NZ;have kB:=kA.trans (vd.of NZ);have RT:lS HB b (fX aa room pq.1):=⟨qp,eb,Paired.cJ plA λ_ _ y=>NZ _ _ y⟩;have plB:Paired (kn HB) qp (fX aa room pq.1):=Paired.cJ plA λ_ _ y=>NZ _ _ y;generalize hk:fX aa room pq.1=k at RT plB;have ock:ij k:=hk ▸ ocm _ hp;have lnB:=bf VB.pN;have allB:∀{HX:Hp}{bs:z0q}{ks:List (70)},Paired (lS HX) bs ks->∀x∈gH ks bs 0,Fs K HX x.2.1 x.1:=λh=>zk (R:=λx=>Fs K _ x.2.1 x.1) (λb k n y=>y.ps) 0 h;have vx:=si k S1.bM bs 0 lnB.symm;have Uq:=bf VB.pR;have mxA:=IA.mx;refine⟨λσ HC=>∃(vD VU:z0q)(Ci qz:List (70)) (j:Nat),σ=[aZ g,aZ b0,aZ Ra,aZ Na,aZ Sa,some (.int (at_:Int)),aZ d,some (.str pq.1),aZ b]/\AO P w H HC Ra Na Sa vD VU vs ⟨Ci,qz,S1.il⟩/\KD cl ij ⟨Ci,qz,S1.il⟩/\AL aa cl S1 at_ room pq.1=some ⟨Ci,qz,S1.il++[(at_,pq.1,j)]⟩/\qz.idxOf? k=some j/\lS HC b k/\vd Ra Na Sa vf HC/\S1.iU.length<=Ci.length,?_,?_⟩
   .refine⟨_,rfl,_,rfl,Na,b,_,k.map pZ,VB.eN,allB VB.pN,RT.ps,_,rfl,?_⟩;rw [vx];cases hx:S1.bM.idxOf? k with
    | some j =>
     refine kI ?_;exact⟨us,bs,S1.iU,S1.bM,j,rfl,VB,IA,by unfold AL;rw [hk,hx],hx,RT,kB,aE _⟩
    | none =>
     refine tR ?_;refine⟨_,rfl,Ra,_,rfl,.inl (aX.of VB.eR),rfl,_,rfl,?_⟩;rw [ay,Uq];by_cases c3:S1.iU.length=120
     .rw [dS (show V.int (S1.iU.length:Int)=V.int 120 by rw [c3];rfl)];refine tR ?_;intro ea C4;refine q2 _ ea ?_ (VB.sm.trans (ah C4 _)) af;rw [Cf];unfold AL;rw [hk,hx];dsimp only;rw [ar c3];rfl
     rw [gh (show ¬V.int (S1.iU.length:Int)=V.int 120 from λy=>c3 (by injection y with y;omega))];refine kI ?_;have lx:=zj S1.bM bs 0;have lnA:=IA.ln;refine⟨_,rfl,Ra,_,rfl,.inl (aX.of VB.eR),_,rfl,_,rfl,Na,b,_,k.map pZ,VB.eN,allB VB.pN,RT.ps,∅,by rw [vx,hx];rfl,?_⟩;have exs:gH S1.bM bs 0++[(k.map pZ,b,V.int ((us.map V.ref).length:Int))]=gH (S1.bM++[k]) (bs++[b]) 0:=by
      rw [vk k b S1.bM bs 0 lnB.symm,ay,Uq,iQ,lnA]
     rw [exs];have W3:lS (upd HB Na 784) b k:=RT.upd VB.eN pX;have VM:upd HB Na 784 Ra=747:=by rw [ai VB.Uh];exact VB.eR
     have eSC:upd HB Na 784 Sa=some (.lst (vs.map V.ref)):=by rw [ai VB.Zf];exact VB.eS
     have Yq:aD H (upd HB Na 784):=λc o hc=>by rw [ai (λy=>by rw [y,VB.fN] at hc;cases hc)];exact VB.sm c o hc
     have kC:vd Ra Na Sa vf (upd HB Na 784):=kB.trans vd.X8;have rmC:=λ(u:Addr)(nu:u≠Ra/\u≠Sa)(H2:Hp) s2 RZ=>VB.room (u:=u) (rm:=cl k) RT nu H2 s2 RZ;generalize upd HB Na 784=HC at W3 VM eSC Yq kC rmC;obtain⟨OR,eb3,pl3⟩:=W3;refine⟨_,rfl,.inl ⟨rfl,_,aX.of VM⟩,_,rfl,_,rfl,g,b,OR,k,aa,aC,bes,rfl,QT.same Yq,go,.inr (aU.of eb3),pl3,(Eo k ock).1,λu1 HD fu sD puD _ leD=>?_,λH' ea sD _ gt e=>?_⟩
     .rw [nP] at puD leD;have nu1:u1≠Ra/\u1≠Sa:=⟨(λy=>by rw [y,VM] at fu;cases fu),(λy=>by rw [y,eSC] at fu;cases fu)⟩;refine⟨Ra,_,_,rfl,rfl,sD _ _ VM,507,?_⟩;have VD:=rmC u1 nu1 HD sD puD;rw [aP] at VD;have nLR:∀xs,HO.lst (us.map V.ref)≠.tup xs:=641
      refine⟨us++[u1],bs++[b],S1.iU++[cl k],S1.bM++[k],S1.iU.length,rfl,VD,IA.room ock leD c3,?_,by rw [JF hx,lnA],(lS.same ⟨OR,eb3,pl3⟩ sD).upd (sD _ _ VM) nLR,(kC.trans (vd.of sD)).trans vd.X9,58⟩;unfold AL;rw [hk,hx];dsimp only;rw [aq c3,aq ∅]
     rw [nP] at gt;refine q2 H' ea ?_ (Yq.trans sD) e;rw [Cf];unfold AL;rw [hk,hx];dsimp only;rw [aq c3,ar gt];rfl
   rintro σ HC ⟨vD,VU,Ci,qz,j,rfl,VC,IC,ak,hj,W3,kC,leC⟩;have lnC:=bf VC.pN;have vj:valN (gH qz VU 0) (k.map pZ)=some (V.int 124):=by
    rw [si k qz VU 0 lnC.symm,hj];exact congrArg (λq:Nat=>some (V.int (q:Int))) ∅
   refine⟨_,rfl,.inl ⟨rfl,_,aX.of VC.eS⟩,_,rfl,_,rfl,_,rfl,_,rfl,Na,b,_,k.map pZ,V.int 124,VC.eN,allB VC.pN,W3.ps,vj,OF,λv hv=>?_⟩;have ZF:=ah hv (.tup [V.int (at_:Int),V.str pq.1,V.int 124]);have ev:vb (upd HC v (.tup [V.int (at_:Int),V.str pq.1,V.int 124])) v (at_,pq.1,j):=af;generalize upd HC v (.tup [V.int (at_:Int),V.str pq.1,V.int 124])=HE at ZF ev;have VE:=VC.same ZF;have lvs:=bf VE.pS;have aa0:vs.length=S1.il.length:=lvs;refine⟨Sa,_,_,rfl,rfl,VE.eS,507,?_⟩;have VF:=VE.step ev;rw [aP] at VF;refine⟨⟨Ci,qz,S1.il++[(at_,pq.1,j)]⟩,vD,VU,vs++[v],_,_,rfl,VF,IC.il _,?_,(kC.trans (vd.of ZF)).trans vd.X7,by show at_ < Ci.length;omega,548⟩;rw [Cf,ak];rfl
  rintro σ HA ⟨S1,us,bs,vs,y7,y8,rfl,VA,IA,Cf,kA,cA,lsA⟩;rw [ay,List.drop_length] at Cf;rw [ay] at lsA;have mxA:=IA.mx;refine⟨_,rfl,_,_,rfl,rfl,n,∅,S1,at_+1,us,bs,vs,_,_,_,rfl,VA,IA,?_,∅,∅,∅⟩;rw [Cf,show 200 - (at_+1)=n by omega];rfl
 have c2:S.iU.length<=at_:=by simp at c;omega
 have YG:dM aa cl=some S:=by
  obtain⟨n,hn⟩:∃n,200 - at_=n+1:=⟨200 - at_ - 1,∅⟩;rw [TB,hn,sZ,jb c2]
 refine⟨_,rfl,_,rfl,qF,λt ht=>?_⟩;have k9:=ah ht (.tup [V.ref Ra,V.ref Sa]);have V9:=V8.same k9;exact q1 t Ra Sa us vs S _ YG V9.sm af V9.eR V9.pR V9.eS V9.pS V9.ne V9.fR V9.fS
end
def xU:∀{l:z0t},l.Pairwise NS->PyProof.Rows.sortedS l=true
 | [],_=>rfl
 | x::r,h=>by
  show PyProof.Rows.risingS x r=true
  induction r generalizing x with
  | nil=>rfl
  | cons y r ih =>
   have h1:=iw.mp h;rw [PyProof.Rows.risingS.eq_2,md,iL];exact⟨h1.1 y a8,ih y h1.2⟩
def Fj (ps:z0t):(sM ps).Perm ps:=by
 have hx:∃zs:z0t,zs.Perm ps/\PyProof.Rows.sortedS zs=true:=by
  refine⟨ps.mergeSort λa b=>!CN b a,List.mergeSort_perm _ _,xU ?_⟩;have:=List.pairwise_mergeSort (le:=λa b:Str=>!CN b a) (λa b c h1 h2=>?_) (λa b=>?_) ps
  .exact this.imp λ{a b} h=>by
    rw [iL] at h;unfold NS;rw [PyProof.Rows.ltCps_eq];exact h
  .rw [iL] at h1 h2 ⊢;exact q_.lG h1 h2
  cases e:CN b a with
  | false=>rfl
  | true=>rw [q_.jy e];rfl
 have:sM ps=hx.choose:=by unfold sM;rw [dif_pos hx]
 rw [this];exact hx.choose_spec.1
section
variable {aa:56}{cl:70->70}{ij:70->Prop}{W:70->Nat}
abbrev pT (aa:56)(cl:70->70)(k:70):z0t:=br aa (cl k)
abbrev nI (aa:56)(cl:70->70)(k:70)(p:Str):70:=fX aa (cl k) p
structure qC (aa:56)(cl:70->70)(ij:70->Prop)(W:70->Nat):Prop where
 o0:ij (aN aa)
 Eo:∀k,ij k->∀p∈pT aa cl k,ij (nI aa cl k p)
 le:∀k,ij k->(cl k).length<=300
 inj:∀k k2 p p2,ij k->ij k2->p∈pT aa cl k->p2∈pT aa cl k2->nI aa cl k p=nI aa cl k2 p2->k=k2/\p=p2
 nf:∀k p,ij k->p∈pT aa cl k->nI aa cl k p≠aN aa
 w:∀k,ij k->W k=1+((pT aa cl k).map λp=>W (nI aa cl k p)).sum
structure TI (aa:56)(cl:70->70)(ij:70->Prop)(W:70->Nat)(S:wO) (at_:Nat) (done:z0t):Prop where
 i:KD cl ij S
 nd:S.bM.Nodup
 k0:S.bM[0]?=some (aN aa)
 ls:S.il.length+1=S.bM.length
 pa:∀(j:Nat)(k:70),S.bM[j+1]?=some k->∃(a:Nat)(ka:70)(p:Str),S.bM[a]?=some ka/\p∈pT aa cl ka/\k=nI aa cl ka p/\(a < at_\/(a=at_/\p∈done))
def TI.room {S:wO}{at_:Nat}{done:z0t}{k0:70}{p:Str}(T:qC aa cl ij W)(h:TI aa cl ij W S at_ done)(hk:S.bM[at_]?=some k0)(hp:p∈pT aa cl k0)(np:p∉done):S.bM.idxOf? (nI aa cl k0 p)=none:=by
 have ok:=(h.i.al at_ k0 hk).2.1;rw [List.idxOf?_eq_none_iff];intro hm;obtain⟨j,hj⟩:=g9 hm;cases j with
 | zero =>
  rw [h.k0] at hj;exact T.nf k0 p ok hp (cX hj).symm
 | succ j =>
  obtain⟨a,ka,p2,e1,e2,e3,e4⟩:=h.pa j _ hj;obtain⟨rfl,rfl⟩:=T.inj k0 ka p p2 ok (h.i.al a ka e1).2.1 hp e2 e3;have ea:a=at_:=by
   have l1:=(a7.mp e1).1;have l2:=(a7.mp hk).1;exact(pD (h₀:=l1) (h₁:=l2) h.nd).mp (by rw [(a7.mp e1).2,(a7.mp hk).2])
  rcases e4 with e4 | ⟨_,e4⟩
  .omega
  exact np e4
def TI.add {S:wO}{at_:Nat}{done:z0t}{k0:70}{p:Str}(T:qC aa cl ij W)(h:TI aa cl ij W S at_ done)(hk:S.bM[at_]?=some k0)(hp:p∈pT aa cl k0)(np:p∉done) :
  AL aa cl S at_ (cl k0) p=(if S.iU.length=120 then none else some ⟨S.iU++[cl (nI aa cl k0 p)],S.bM++[nI aa cl k0 p],S.il++[(at_,p,S.iU.length)]⟩) /\
  (S.iU.length≠120->TI aa cl ij W ⟨S.iU++[cl (nI aa cl k0 p)],S.bM++[nI aa cl k0 p],S.il++[(at_,p,S.iU.length)]⟩ at_ (done++[p])):=by
 have ok:=(h.i.al at_ k0 hk).2.1;have oc:=T.Eo k0 ok p hp;have lc:=T.le _ oc;have hn:=h.room T hk hp np;have l0:=(a7.mp h.k0).1;have la:=(a7.mp hk).1;constructor
 .unfold AL;rw [show fX aa (cl k0) p=nI aa cl k0 p from rfl,hn];dsimp only;rw [aq (show ¬300 < (cl (nI aa cl k0 p)).length by omega)]
 intro m;refine⟨(h.i.room oc lc m).il _,?_,by rw [gK l0];exact h.k0,by have:=h.ls;simp;omega,λj k e=>?_⟩
 .exact iM.mpr ⟨h.nd,dU.mpr ⟨58,eG⟩,λa ha b hb e=>by
   rw [List.idxOf?_eq_none_iff] at hn;exact hn (by rw [<-bj.mp hb,<-e];exact ha)⟩
 by_cases c:j+1 < S.bM.length
 .rw [gK c] at e;obtain⟨a,ka,p2,e1,e2,e3,e4⟩:=h.pa j k e;exact⟨a,ka,p2,by rw [gK (a7.mp e1).1];exact e1,e2,e3,e4.imp id λx=>⟨x.1,g_ _ x.2⟩⟩
 rw [iO ∅] at e;have hi:j+1 - S.bM.length=0:=by
  have:=(a7.mp e).1;simp at this;omega
 rw [hi] at e;cases e;exact⟨at_,k0,p,by rw [gK la];exact hk,hp,rfl,.inr ⟨rfl,eZ _ (bj.mpr rfl)⟩⟩
def Gk (W:70->Nat)(ks:List (70)):Nat:=(ks.map λk=>W k - 1).sum
theorem TI.all {at_:Nat}{k0:70}(T:qC aa cl ij W):∀(ps:z0t)(S:wO) (done:z0t),TI aa cl ij W S at_ done->S.bM[at_]?=some k0->(∀p∈ps,p∈pT aa cl k0)->ps.Nodup->(∀p∈ps,p∉done) ->
  (S.iU.length+ps.length<=120->∃S',lP aa cl at_ (cl k0) ps S=some S'/\TI aa cl ij W S' at_ (done++ps)/\S'.bM=S.bM++ps.map (nI aa cl k0))/\(120 < S.iU.length+ps.length->lP aa cl at_ (cl k0) ps S=none)
 | [],S,done,h,_,_,_,_=>⟨λ_=>⟨S,rfl,by rw [dG];exact h,58⟩,λc=>by have:=h.i.mx;simp at c;omega⟩
 | p::ps,S,done,h,hk,hp,nd,nn=>by
  have n1:=dU.mp nd;obtain⟨a1,a2⟩:=h.add T hk (hp p a8) (nn p a8);have la:=(a7.mp hk).1;have mx:=h.i.mx;unfold lP;rw [a1];by_cases c:S.iU.length=120
  .rw [ar c];exact⟨λy=>by simp at y;omega,λ_=>rfl⟩
  rw [aq c];obtain⟨i1,i2⟩:=TI.all T ps _ _ (a2 c) (by show (S.bM++_)[at_]?=_;rw [gK la];exact hk) (λq hq=>hp q (bA _ hq)) n1.2 λq hq y=>by
   rcases cw.mp y with y | y
   .exact nn q (bA _ hq) y
   exact n1.1 (bj.mp y ▸ hq)
  refine⟨λy=>?_,λy=>i2 (by simp at y ⊢;omega)⟩;obtain⟨S',b1,b2,b3⟩:=i1 (by simp at y ⊢;omega);refine⟨S',b1,by rw [dH] at b2;exact b2,?_⟩;rw [b3];simp
theorem TI.run (T:qC aa cl ij W):∀(n at_:Nat)(S:wO),TI aa cl ij W S at_ []->120 < n+at_->at_<=S.bM.length ->
  (S.bM.length+Gk W (S.bM.drop at_)<=120->∃S',sZ aa cl n at_ S=some S'/\S'.iU.length=S.bM.length+Gk W (S.bM.drop at_)/\S'.il.length+1=S'.iU.length)/\(120 < S.bM.length+Gk W (S.bM.drop at_)->sZ aa cl n at_ S=none)
 | 0,at_,S,h,hn,le=>by have:=h.i.mx;rw [<-h.i.ln] at this;omega
 | n+1,at_,S,h,hn,le=>by
  have ln:=h.i.ln;have mx:=h.i.mx;unfold sZ;by_cases c:at_ < S.bM.length
  .have hk:S.bM[at_]?=some (S.bM[at_]'c):=cx c;generalize hk0:S.bM[at_]'c=k0 at hk;obtain⟨r0,o0,l0⟩:=h.i.al at_ k0 hk;rw [r0];dsimp only;have pm:=Fj (br aa (cl k0));have ndp:=(d7 aa (cl k0)).1;obtain⟨a1,a2⟩:=TI.all T (sM (br aa (cl k0))) S [] h hk (λp hp=>pm.mem_iff.mp hp) (pm.nodup_iff.mpr ndp) (λp _ y=>nomatch y);have lp:(sM (br aa (cl k0))).length=(pT aa cl k0).length:=pm.length_eq;have dr:S.bM.drop at_=k0::S.bM.drop (at_+1):=by rw [Bm c,hk0]
   have wk:=T.w k0 o0;have dk:Gk W (S.bM.drop at_)=((pT aa cl k0).map λp=>W (nI aa cl k0 p)).sum+Gk W (S.bM.drop (at_+1)):=by
    rw [dr];unfold Gk;rw [bN,jA,wk];omega
   have wsum:∀l:z0t,(∀p∈l,p∈pT aa cl k0)->(l.map λp=>W (nI aa cl k0 p)).sum=l.length+Gk W (l.map (nI aa cl k0)):=λl=>by
    induction l with
    | nil=>intro _;rfl
    | cons p l ih =>
     intro hl;have w1:=T.w _ (T.Eo k0 o0 p (hl p a8));have ih2:=ih λq hq=>hl q (bA _ hq);unfold Gk at ih2 ⊢;rw [bN,jA,ih2,bN,bN,jA,cf];omega
   have wp:((pT aa cl k0).map λp=>W (nI aa cl k0 p)).sum=((sM (br aa (cl k0))).map λp=>W (nI aa cl k0 p)).sum:=((pm.map _).sum_nat).symm;have ws:=wsum (sM (br aa (cl k0))) λp hp=>pm.mem_iff.mp hp;by_cases c2:S.iU.length+(sM (br aa (cl k0))).length<=120
   .obtain⟨S',b1,b2,b3⟩:=a1 c2;rw [b1];have le':at_+1<=S'.bM.length:=by rw [b3,bp];omega
    have T':TI aa cl ij W S' (at_+1) []:=⟨b2.i,b2.nd,b2.k0,b2.ls,λj k e=>by
     obtain⟨a,ka,p,e1,e2,e3,e4⟩:=b2.pa j k e;exact⟨a,ka,p,e1,e2,e3,.inl (by rcases e4 with e4 | e4 <;> omega)⟩⟩
    obtain⟨i1,i2⟩:=TI.run T n (at_+1) S' T' ∅ le';have dk':S'.bM.length+Gk W (S'.bM.drop (at_+1))=S.bM.length+Gk W (S.bM.drop at_):=by
     rw [b3,bp,ay,List.drop_append_of_le_length ∅,dk,wp,ws];unfold Gk;rw [aP,List.sum_append];omega
    rw [dk'] at i1 i2;exact⟨i1,i2⟩
   rw [a2 ∅];refine⟨λy=>?_,λ_=>rfl⟩;rw [dk,wp,ws] at y;omega
  rw [jb ∅];dsimp only;have d0:Gk W (S.bM.drop at_)=0:=by rw [Bj ∅];rfl
  rw [d0];exact⟨λ_=>⟨S,rfl,∅,by have:=h.ls;omega⟩,λy=>121⟩
def qC.rooms (T:qC aa cl ij W):(W (aN aa)<=120->∃S,dM aa cl=some S/\S.iU.length=W (aN aa)/\S.il.length+1=S.iU.length)/\(120 < W (aN aa)->dM aa cl=none):=by
 have l0:=T.le _ T.o0;have I0:TI aa cl ij W ⟨[cl (aN aa)],[aN aa],[]⟩ 0 []:=by
  refine⟨⟨rfl,λi k e=>?_,by show 1<=120;decide⟩,dU.mpr ⟨58,eG⟩,rfl,rfl,λj k e=>by cases e⟩;cases i with
  | zero=>cases e;exact⟨rfl,T.o0,l0⟩
  | succ i=>cases e
 have w0:=T.w _ T.o0;have:=TI.run T 200 0 _ I0 ∅ (cV _);have d0:([aN aa]:List (70)).length+Gk W (([aN aa]:List (70)).drop 0)=W (aN aa):=by
  show 1+(W (aN aa) - 1+0)=W (aN aa);omega
 dsimp only at this;rw [d0] at this;unfold dM;rw [aq ∅];exact this
end
def BP {aa:56}{g:G}(se:iG M11.bl aa g){x:Str}{ps:z0t}(hm:(x,ps)∈aa)(hv:∀p∈ps,(g p).isSome=true):∃n,g x=some n/\n<=1+768:=by
 have:=se _ hm;unfold cE at this;have a1:lO g (x,ps)=true:=iJ.mpr λp hp=>hv p hp;have s0:aR g (x,ps)=1+768:=rfl;rw [a1,s0,Bool.true_and] at this;cases gn:g x with
 | none=>rw [show g (x,ps).1=none from gn] at this;cases this
 | some m =>
  rw [show g (x,ps).1=some m from gn] at this;refine⟨m,rfl,?_⟩;have:¬(1+768:Int) < m:=by
   simpa [M11.bl] using this
  omega
theorem vq (cN:z0t):∀(ps bD:z0t)(x:Str),(x∈bD\/(x∈ps/\x∉cN))->x∈qR cN bD ps
 | [],bD,x,h=>by
  rcases h with h | ⟨h,_⟩
  .exact h
  cases h
 | p::r,bD,x,h=>by
  show x∈qR cN (addW cN bD p) r;apply vq cN r;unfold addW;by_cases c:p∈cN
  .rw [ar c];rcases h with h | ⟨h,n⟩
   .exact .inl h
   rcases a_.mp h with z | z
   .exact absurd (z ▸ c) n
   exact .inr ⟨z,n⟩
  rw [aq c];rcases h with h | ⟨h,n⟩
  .exact .inl ((ie _ _ _).mpr (.inl h))
  rcases a_.mp h with z | z
  .exact .inl ((ie _ _ _).mpr (.inr z))
  exact .inr ⟨z,n⟩
structure jz (aa:56):Prop where
 hs:∀ru∈aa,ru.1 = "s"
 l8:∀ru∈aa,ru.2.length<=8
 wd:∀ru∈aa,∃p∈ru.2,p ≠ "s"
 wo:∃ru∈aa,∀p∈ru.2,p ≠ "s"
 G_:aa.length<=24
section
variable {aa:56}
def jz.ne (s:jz aa):aa≠[]:=λe=>by obtain⟨ru,h,_⟩:=s.wo;rw [e] at h;cases h
theorem jz.hd (s:jz aa){x:Str}(h:x∈fC.hd aa):x = "s" := by
 obtain⟨ru,zc,rfl⟩:=N6 h;exact s.hs ru zc
def jz.Za (s:jz aa){x:Str}(h:Em aa x):False:=by
 induction h with
 | mk h1 h2 ih =>
  rename_i ru
  obtain⟨p,hp,_⟩:=s.wd ru h1;exact ih p hp
def jz.good (s:jz aa):Good aa (λ_=>0) (λ_=>1) where
 least gg st se:=by
  obtain⟨ru,m0,hw⟩:=s.wo;have hv:∀p∈ru.2,gg p=some 0:=λp hp=>by
   have nn:p∉fC.hd aa:=λh=>hw p hp (s.hd h);refine dY.keep (J:=λg=>g p=some 0) (λg YI j h2 _=>?_) st ?_
   .show dZ g YI.1 _ p=some 0;unfold dZ;rw [aq (λz=>nn (by rw [z];exact JW h2))];exact j
   show A8 aa p=some 0;unfold A8;rw [ar (vq _ _ _ _ (.inr ⟨iK.mpr ⟨_,m0,hp⟩,nn⟩))]
  obtain⟨n,gn,ln⟩:=BP se (x:=ru.1) (ps:=ru.2) m0 (λp hp=>by rw [hv p hp];rfl);have z:(ru.2.map λp=>(gg p).getD 0).sum=0:=by
   have:∀l:z0t,(∀p∈l,gg p=some 0)->(l.map λp=>(gg p).getD 0).sum=0:=λl=>by
    induction l with
    | nil=>intro _;rfl
    | cons a l ih =>
     intro h;rw [bN,jA,h a a8,ih λp hp=>h p (bA _ hp)];rfl
   exact this _ hv
  rw [z] at ln;intro h hh;rw [s.hd hh,<-s.hs ru m0];exact⟨n,gn,∅⟩
 met ng ms So h0 mc:=by
  intro h hh;rw [s.hd hh,<-s.hs ng (cv So)];exact h0
 loop aC he _ n k j hit ru z ek Xm:=by
  obtain⟨D_,z',e1,rfl,e2,hz,hl⟩:=hit;rw [ek] at e1;cases e1;rw [Xm] at e2;cases e2;exfalso;obtain⟨p,hp,C0⟩:=s.wd ru (cv ek);obtain⟨i,hi⟩:=g9 hp;have nij:i≠j:=λy=>by
   rw [y,Xm] at hi;exact C0 ((cX hi).symm.trans (s.hd hz))
  exact s.Za (Kg he p (dJ (Ju hl hi nij)))
 bnd:=⟨λ_=>(show (0:Int)<=1 by decide),λru zc hem=>by
  obtain⟨p,hp,_⟩:=s.wd ru zc;exact(s.Za (hem p hp)).elim⟩
 most h _:=by show (1:Int)<=60;decide
def jz.noE (s:jz aa){aC:z0h}(h:uO aa aC):aC=[]:=by
 cases aC with
 | nil=>rfl
 | cons a l=>exact(s.Za (Kg h a.1 90)).elim
def jz.aao (s:jz aa){bes:108}(h:uP aa (fC.hd aa) (λz=>decide (z∈(([]:z0h).map 27))) bes)(nd:(qY bes).Nodup):bes.length<=24:=by
 have b:=GQ (ns:=[]) h;have:=Wn.i4 (qY bes) (aa.flatMap λru=>(ru.2.take 1).map λw=>(422,w)) nd λx hx=>?_
 .have l:(aa.flatMap λru=>(ru.2.take 1).map λw=>(422,w)).length<=aa.length:=by
   have:∀l:56,(l.flatMap λru=>(ru.2.take 1).map λw=>(422,w)).length<=l.length:=λl=>by
    induction l with
    | nil=>exact aE _
    | cons a l ih=>rw [kU,bp,ay,fQ,cf];omega
   exact this _
  have e:(qY bes).length=bes.length:=by unfold qY;rw [ay]
  have:=s.G_;omega
 have key:∀y:Str,Dy aa [] x.2 y->(422,x.2)∈aa.flatMap λru=>(ru.2.take 1).map λw=>(422,w):=λy hb=>by
  induction hb with
  | @word ru pl hr ho e hn =>
   have p0:pl=0:=by
    cases pl with
    | zero=>rfl
    | succ n =>
     have l:=(a7.mp e).1;have:=ho (ru.2[0]'∅) (qj.mpr ⟨0,by rw [fQ];omega,58⟩);cases this
   subst p0;refine iK.mpr ⟨ru,hr,a9.mpr ⟨x.2,?_,rfl⟩⟩;have:ru.2.take 1=[x.2]:=by
    cases hh:ru.2 with
    | nil=>rw [hh] at e;cases e
    | cons a l=>rw [hh] at e;cases e;rfl
   rw [this];exact bj.mpr rfl
  | name _ _ _ _ ih=>exact ih
 have hx1:=b x hx;have h1:=s.hd (N4.mp hx1.head);rw [show x=(422,x.2) from bV h1 rfl];exact key _ hx1
def jz.gok (s:jz aa){bes:108}(h:bes.length<=24):GOk aa bes:=⟨s.ne,s.G_,s.l8,∅⟩
def all_nil (zs:z0t)(h:zs≠[]):zs.all (P0 [])=false:=by
 cases zs with
 | nil=>exact absurd rfl h
 | cons a l=>rfl
def jz.O5 (s:jz aa)(bes:108)(z y:Pl):lR aa [] bes z y↔iD aa z=some 422/\y.1 < aa.length/\y.2.1=0/\((Fb aa z=[]/\y.2.2=z.2.2)\/∃a l,Fb aa z=a::l/\y.2.2∈jt (fC.hd aa) bes a):=by
 have ld:∀i,Ld aa z i↔iD aa z=some 422/\i < aa.length:=λi=>by
  unfold Ld;constructor
  .rintro⟨nm,ru,h1,h2,h3⟩;have:=s.hs ru (cv h2);exact⟨by unfold iD;rw [h1,<-h3,this],(a7.mp h2).1⟩
  rintro⟨h1,h2⟩;refine⟨"s",aa[i],h1,cx h2,s.hs _ (wW h2)⟩
 unfold lR Nb va;rw [ld];constructor
 .rintro(⟨⟨h1,h2⟩,h3,h4,h5⟩ | ⟨⟨h1,h2⟩,h3,j,a,e,hj,hw⟩)
  .refine⟨h1,h2,h3,.inl ⟨?_,h4⟩⟩;by_cases c:Fb aa z=[]
   .exact c
   rw [all_nil _ c] at h5;cases h5
  refine⟨h1,h2,h3,.inr ?_⟩;generalize hb:Fb aa z=B at e hj ⊢;cases B with
  | nil=>cases e
  | cons b l =>
   have j0:j=0:=by
    rw [yH] at hj;cases j with
    | zero=>rfl
    | succ n=>have:=hj.2 b (by rw [rX];exact a8);cases this
   subst j0;cases e;exact⟨_,_,rfl,hw⟩
 rintro⟨h1,h2,h3,h4 | ⟨a,l,e,hw⟩⟩
 .exact .inl ⟨⟨h1,h2⟩,h3,h4.2,by rw [h4.1];rfl⟩
 exact .inr ⟨⟨h1,h2⟩,h3,0,a,by rw [e];rfl,by rw [e,yH];exact⟨58,λx hx=>by simp at hx⟩,hw⟩
end
section
variable {aa:56}{aC:z0h}{bes:108}
theorem EI {p:Pl->Prop}{N:Nat}(Gi:∀l:70,l.Nodup->(∀z∈l,p z)->l.length<=N):∀(n:Nat)(l:70),N<=l.length+n->l.Nodup->(∀z∈l,p z)->∃m:70,m.Nodup/\∀z,z∈m↔p z
 | n,l,hn,nd,al=>by
  by_cases c:∃z,p z/\z∉l
  .obtain⟨z,hz,nz⟩:=c;have Eu:(z::l).Nodup:=dU.mpr ⟨nz,nd⟩;have XE:∀y∈z::l,p y:=λy hy=>(a_.mp hy).elim (λe=>e ▸ hz) (al y);have:=Gi _ Eu XE;rw [cf] at this;cases n with
   | zero=>omega
   | succ n=>exact EI Gi n (z::l) (by rw [cf];omega) Eu XE
  refine⟨l,nd,λz=>⟨al z,λhz=>?_⟩⟩;by_cases h:z∈l
  .exact h
  exact absurd ⟨z,hz,h⟩ c
def uN.cl {ps:70}(h:uN aa aC bes ps):G5 aa aC bes ps (b_ aa aC bes ps):=by
 obtain⟨m,nd,mem⟩:=EI h.Gi 600 [] 90 eG (λ_ y=>nomatch y);have hx:G5 aa aC bes ps (m.mergeSort λa b=>!KW (pZ b) (pZ a)):=by
  refine⟨?_,(List.mergeSort_perm _ _).nodup_iff.mpr nd,λz=>(List.mergeSort_perm _ _).mem_iff.trans (mem z)⟩;have:=List.pairwise_mergeSort (le:=λa b:Pl=>!KW (pZ b) (pZ a)) (λa b c h1 h2=>?_) (λa b=>?_) m
  .unfold Nc;rw [List.pairwise_map];exact this.imp λ{a b} h=>by
    rw [iL] at h;exact h
  .rw [iL] at h1 h2 ⊢;exact q0.lG h1 h2
  cases e:KW (pZ b) (pZ a) with
  | false=>rfl
  | true=>rw [q0.jy e];rfl
 rw [hx.is];exact hx
def uN.mem {ps:70}(h:uN aa aC bes ps)(z:Pl):z∈b_ aa aC bes ps↔Bg (lR aa aC bes) ps z:=h.cl.2.2 z
def uN.of {ps:70}(m:70)(l:ps.length<=600)(lm:m.length<=600)(hm:∀z,Bg (lR aa aC bes) ps z->z∈m):uN aa aC bes ps :=
 ⟨l,λk nd al=>cW (Wn.i4 k m nd λz hz=>hm z (al z hz)) lm⟩
def CK {room:70}{p:Str}{z:Pl}:z∈fX aa room p↔∃y∈room,iD aa y=some p/\z=Ep y:=by
 unfold fX;rw [a9];constructor
 .rintro⟨y,hy,rfl⟩;have:=i9.mp hy;exact⟨y,this.1,dJ this.2,rfl⟩
 rintro⟨y,hy,h1,rfl⟩;exact⟨y,i9.mpr ⟨hy,dS h1⟩,rfl⟩
theorem ub {α:Type} [DecidableEq α] {q:α->Bool}{z:α}:∀{l:List α},l.Nodup->z∈l->q z=true->(∀y∈l,q y=true->y=z)->l.filter q=[z]
 | [],_,hz,_,_=>nomatch hz
 | a::l,nd,hz,hq,al=>by
  have n1:=dU.mp nd;by_cases c:q a=true
  .have ea:=al a a8 c;subst ea;rw [List.filter_cons_of_pos c];have:l.filter q=[]:=List.filter_eq_nil_iff.mpr λy hy h=>n1.1 (al y (bA _ hy) h ▸ hy);rw [this]
  rw [List.filter_cons_of_neg c];refine ub n1.2 ?_ hq λy hy h=>al y (bA _ hy) h;rcases a_.mp hz with e | e
  .exact absurd (e ▸ hq) c
  exact e
def P2 {room:70}{p:Str}{z:Pl}(nd:room.Nodup)(hz:z∈room)(hp:iD aa z=some p)(al:∀y∈room,iD aa y=some p->y=z):fX aa room p=[Ep z]:=by
 unfold fX;rw [ub nd hz (dS hp) λy hy h=>al y hy (dJ h)];rfl
def iZ {room:70}{m:z0t}(nd:m.Nodup)(h:∀p,p∈m↔∃z∈room,iD aa z=some p):(br aa room).Perm m :=
 (Br (d7 aa room).1 nd).mpr λp=>((d7 aa room).2 p).trans (h p).symm
def parts_nil {room:70}(h:∀z∈room,iD aa z=none):br aa room=[]:=by
 have:=iZ (aa:=aa) (room:=room) (m:=[]) eG λp=>⟨λy=>(nomatch y),λ⟨z,hz,e⟩=>by rw [h z hz] at e;cases e⟩;exact List.perm_nil.mp this
def uw {ps:70}{z:Pl}(h:∀y∈ps,∀x,¬lR aa aC bes y x):Bg (lR aa aC bes) ps z↔z∈ps:=by
 constructor
 .intro c
  induction c with
  | base m=>exact m
  | step _ r ih=>exact absurd r (h _ ih _)
 exact .base
def ig (n:Nat):Str:=("w":Str)++Str.ofString (toString (n:Int))
def wdB (n:Nat):Bool:=(List.range n).all λk=>decide (ig k≠ig n)
def Hy:(List.range 160).all (λn=>wdB n && decide (ig n≠422) && decide (ig n≠("y":Str)) && decide (ig n≠148))=true:=by decide +kernel
def vv {n:Nat}(h:n < 160):ig n≠422/\ig n≠("y":Str)/\ig n≠148:=by
 have:=iJ.mp Hy n (cb.mpr h);simp only [md,decide_eq_true_eq] at this;exact⟨this.1.1.2,this.1.2,this.2⟩
def Nl {k n:Nat}(h:n < 160)(hk:k < n):ig k≠ig n:=by
 have:=iJ.mp Hy n (cb.mpr h);simp only [md,decide_eq_true_eq] at this;exact dJ (iJ.mp this.1.1.1 k (cb.mpr hk))
def By {k n:Nat}(hk:k < 160)(hn:n < 160)(e:ig k=ig n):k=n:=by
 rcases Nat.lt_trichotomy k n with h | h | h
 .exact absurd e (Nl hn h)
 .exact h
 exact absurd e.symm (Nl hk h)
theorem oA {α β:Type}{f:α->β}:∀{l:List α},l.Nodup->(∀x∈l,∀y∈l,f x=f y->x=y)->(l.map f).Nodup
 | [],_,_=>eG
 | a::l,nd,inj=>by
  have n1:=dU.mp nd;refine dU.mpr ⟨λh=>?_,oA n1.2 λx hx y hy=>inj x (bA _ hx) y (bA _ hy)⟩;obtain⟨b,hb,e⟩:=a9.mp h;exact n1.1 (inj b (bA _ hb) a a8 e ▸ hb)
def Bx {n:Nat}(h:n<=160):((List.range n).map ig).Nodup :=
 oA List.nodup_range λx hx y hy e=>By (by have:=cb.mp hx;omega) (by have:=cb.mp hy;omega) e
end
theorem Kd:∀{aa:56},(aa.flatMap 105).Nodup->∀{i j d e:Nat}{a b:aw}{p:Str},aa[i]?=some a->a.2[d]?=some p->aa[j]?=some b->b.2[e]?=some p->i=j/\d=e
 | [],_,i,_,_,_,_,_,_,h,_,_,_=>by cases h
 | r::rs,nd,i,j,d,e,a,b,p,h1,h2,h3,h4=>by
  rw [kU] at nd;obtain⟨n1,n2,n3⟩:=iM.mp nd;cases i with
  | zero =>
   cases h1;cases j with
   | zero =>
    cases h3;refine⟨rfl,?_⟩;obtain⟨l1,e1⟩:=a7.mp h2;obtain⟨l2,e2⟩:=a7.mp h4;exact(pD (h₀:=l1) (h₁:=l2) n1).mp (e1.trans e2.symm)
   | succ j=>exact absurd rfl (n3 p (cv h2) p (iK.mpr ⟨b,cv h3,cv h4⟩))
  | succ i =>
   cases j with
   | zero =>
    cases h3;exact absurd rfl (n3 p (cv h4) p (iK.mpr ⟨a,cv h1,cv h2⟩))
   | succ j =>
    obtain⟨e1,e2⟩:=Kd n2 h1 h2 h3 h4;exact⟨∅,e2⟩
structure Ap (aa:56) (c:Nat):Prop where
 hs:∀ru∈aa,ru.1=422
 ne:aa≠[]
 G_:aa.length<=24
 l1:∀ru∈aa,1<=ru.2.length
 l6:∀ru∈aa,ru.2.length<=6
 fl:aa.flatMap 105=(List.range c).map ig
 c6:c<=144
section
variable {aa:56}{c:Nat}{bes:108}
def Ap.word (s:Ap aa c){ru:aw}(h:ru∈aa){p:Str}(hp:p∈ru.2):p≠422:=by
 have:p∈aa.flatMap 105:=iK.mpr ⟨ru,h,hp⟩;rw [s.fl] at this;obtain⟨k,hk,rfl⟩:=a9.mp this;have:=s.c6;have:=cb.mp hk;exact(vv ∅).1
def Ap.one (s:Ap aa c):jz aa:=by
 have f:∀ru∈aa,∃p,p∈ru.2:=λru h=>by
  have:=s.l1 ru h;cases e:ru.2 with
  | nil=>rw [e] at this;simp at this
  | cons a l=>exact⟨a,a8⟩
 refine⟨s.hs,λru h=>by have:=s.l6 ru h;omega,λru h=>?_,?_,s.G_⟩
 .obtain⟨p,hp⟩:=f ru h;exact⟨p,hp,s.word h hp⟩
 cases e:aa with
 | nil=>exact absurd e s.ne
 | cons a l=>exact⟨a,a8,λp hp=>s.word (by rw [e];exact a8) hp⟩
def iV {i:Nat}{ru:aw}(h:aa[i]?=some ru):dP aa i=ru.2:=by unfold dP;rw [h]
def jz.top (s:jz aa):dP aa aa.length=[422]:=by
 unfold dP;rw [jb 128];cases e:aa with
 | nil=>exact absurd e s.ne
 | cons a l =>
  have:=s.hs a (by rw [e];exact a8);show [a.1]=_;rw [this]
def Ap.pa (s:Ap aa c){z:Pl}{p:Str}(l:z.1<=aa.length)(h:iD aa z=some p):(z.1=aa.length/\z.2.1=0/\p=422)\/∃ru,aa[z.1]?=some ru/\ru.2[z.2.1]?=some p:=by
 by_cases e:z.1=aa.length
 .unfold iD at h;rw [e,s.one.top] at h;cases kF:z.2.1 with
  | zero=>rw [kF] at h;cases h;exact .inl ⟨e,rfl,rfl⟩
  | succ d=>rw [kF] at h;cases h
 have h1:aa[z.1]?=some (aa[z.1]'∅):=cx ∅;unfold iD at h;rw [iV h1] at h;exact .inr ⟨_,h1,h⟩
def Ap.nd (s:Ap aa c):(aa.flatMap 105).Nodup:=by rw [s.fl];exact Bx (by have:=s.c6;omega)
def Ap.uniq (s:Ap aa c){y z:Pl}{p:Str}(y1:y.1<=aa.length)(z1:z.1<=aa.length)(e:y.2.2=z.2.2)(hy:iD aa y=some p)(hz:iD aa z=some p):y=z:=by
 rcases s.pa y1 hy with ⟨a1,a2,a3⟩ | ⟨a,a1,a2⟩
 .rcases s.pa z1 hz with ⟨b1,b2,b3⟩ | ⟨b,b1,b2⟩
  .exact bV (a1.trans b1.symm) (bV (a2.trans b2.symm) e)
  exact absurd a3 (s.word (cv b1) (cv b2))
 rcases s.pa z1 hz with ⟨b1,b2,b3⟩ | ⟨b,b1,b2⟩
 .exact absurd b3 (s.word (cv a1) (cv a2))
 obtain⟨h1,h2⟩:=Kd s.nd a1 a2 b1 b2;exact bV h1 (bV h2 e)
def Oz (aa:56)(k:70):Prop:=k=aN aa\/∃(i d:Nat),k=[(i,d,148)]/\1<=d/\i<=aa.length/\d<=(dP aa i).length
def Ap.qt (s:Ap aa c){z:Pl}(l:z.1<=aa.length)(d:1<=z.2.1\/z.1 < aa.length)(y:Pl):¬lR aa [] bes z y:=λh=>by
 have:=((s.one.O5 bes z y).mp h).1;rcases s.pa l this with ⟨a1,a2,a3⟩ | ⟨a,a1,a2⟩
 .omega
 exact s.word (cv a1) (cv a2) rfl
def yO {z:Pl}(h:∀y,¬lR aa [] bes z y):b_ aa [] bes [z]=[z]:=by
 have:G5 aa [] bes [z] [z]:=⟨pJ _ _,dU.mpr ⟨58,eG⟩,λy=>(uw λx hx=>by rw [bj.mp hx];exact h).symm⟩;exact this.is
def Ap.uv (s:Ap aa c){z:Pl}:Bg (lR aa [] bes) (aN aa) z↔z=(aa.length,0,148)\/(z.1 < aa.length/\z.2.1=0/\z.2.2=148):=by
 have p0:iD aa (aa.length,0,148)=some 422:=by unfold iD;dsimp only;rw [s.one.top];rfl
 have b0:Fb aa (aa.length,0,148)=[]:=by unfold Fb;dsimp only;rw [s.one.top];rfl
 constructor
 .intro h
  induction h with
  | base m=>exact .inl (bj.mp m)
  | @step z y _ r ih =>
   rcases ih with rfl | ⟨i1,i2,i3⟩
   .obtain⟨a1,a2,a3,a4⟩:=(s.one.O5 bes _ y).mp r;rcases a4 with a4 | ⟨a,l,e,_⟩
    .exact .inr ⟨a2,a3,a4.2⟩
    rw [b0] at e;cases e
   exact absurd r (s.qt (gq i1) (.inr i1) y)
 rintro(rfl | ⟨h1,h2,h3⟩)
 .exact .base (bj.mpr rfl)
 exact .step (z:=(aa.length,0,148)) (.base (bj.mpr rfl)) ((s.one.O5 bes _ z).mpr ⟨p0,h1,h2,.inl ⟨b0,h3⟩⟩)
def Ap.Mr (s:Ap aa c){k:70}(h:Oz aa k):uN aa [] bes k:=by
 have G_:=s.G_;rcases h with rfl | ⟨i,d,rfl,h1,h2,h3⟩
 .refine uN.of ((aa.length,0,148)::(List.range aa.length).map λi=>(i,0,148)) (by unfold aN;simp) (548) λz hz=>?_;rcases s.uv.mp hz with rfl | ⟨a1,a2,a3⟩
  .exact a8
  exact bA _ (a9.mpr ⟨z.1,cb.mpr a1,bV rfl (bV a2.symm a3.symm)⟩)
 refine uN.of [(i,d,148)] 90 90 λz hz=>(uw λx hx=>?_).mp hz;rw [bj.mp hx];exact s.qt h2 (.inl h1)
theorem Ap.mem (s:Ap aa c){k:70}(h:Oz aa k){z:Pl}(hz:z∈b_ aa [] bes k):z.1<=aa.length/\z.2.2=148/\((k=aN aa/\z.2.1=0)\/(k=[z]/\1<=z.2.1)):=by
 have kk:=s.Mr (bes:=bes) h;rcases h with rfl | ⟨i,d,rfl,h1,h2,h3⟩
 .rcases s.uv.mp ((kk.mem z).mp hz) with rfl | ⟨a1,a2,a3⟩
  .exact⟨aE _,rfl,.inl ⟨rfl,rfl⟩⟩
  exact⟨∅,a3,.inl ⟨rfl,a2⟩⟩
 rw [yO (s.qt h2 (.inl h1))] at hz;cases bj.mp hz;exact⟨h2,rfl,.inr ⟨rfl,h1⟩⟩
theorem Ap.nI (s:Ap aa c){k:70}(h:Oz aa k){z:Pl}{p:Str}(hz:z∈b_ aa [] bes k)(hp:iD aa z=some p):fC.nI aa 499 k p=[Ep z]:=by
 have m1:=s.mem h hz;exact P2 (s.Mr h).cl.2.1 hz hp λy hy e=>by
  have m2:=s.mem h hy;exact s.uniq m2.1 m1.1 (m2.2.1.trans m1.2.1.symm) e hp
def Ap.Eo (s:Ap aa c){k:70}(h:Oz aa k){z:Pl}{p:Str}(hz:z∈b_ aa [] bes k)(hp:iD aa z=some p):Oz aa [Ep z]:=by
 have m1:=s.mem h hz;refine .inr ⟨z.1,z.2.1+1,?_,∅,m1.1,?_⟩
 .show [(z.1,z.2.1+1,z.2.2)]=_;rw [m1.2.1]
 exact(a7.mp hp).1
def wA (aa:56) (c:Nat)(k:70):Nat:=match k with | []=>0 | z::_=>if z.2.1=0 then 2+c else 1+((dP aa z.1).length - z.2.1)
def Vs (aa:56) (i:Nat):Str:=((dP aa i)[0]?).getD 148
def Ap.fw (s:Ap aa c){i:Nat}(h:i < aa.length):iD aa (i,0,148)=some (Vs aa i):=by
 have h1:aa[i]?=some (aa[i]'h):=cx h;have:=s.l1 _ (wW h);unfold iD Vs;dsimp only;rw [iV h1,cx ∅];rfl
def Ap.IM (s:Ap aa c):(pT aa 499 (aN aa)).Perm (422::(List.range aa.length).map (Vs aa)):=by
 have kk:=s.Mr (bes:=bes) 419;have p0:iD aa (aa.length,0,148)=some 422:=by unfold iD;dsimp only;rw [s.one.top];rfl
 refine iZ ?_ λp=>?_
 .refine dU.mpr ⟨λh=>?_,oA List.nodup_range λx hx y hy e=>?_⟩
  .obtain⟨i,hi,e⟩:=a9.mp h;have h1:=s.fw (cb.mp hi);rw [e] at h1;have:=s.uniq (y:=(i,0,148)) (z:=(aa.length,0,148)) (gq (cb.mp hi)) 128 rfl h1 p0;have:=(ik this).1;have:=cb.mp hi;omega
  have h1:=s.fw (cb.mp hx);have h2:=s.fw (cb.mp hy);rw [e] at h1;exact(ik (s.uniq (y:=(x,0,148)) (z:=(y,0,148)) (gq (cb.mp hx)) (gq (cb.mp hy)) rfl h1 h2)).1
 rw [a_,a9];constructor
 .rintro(rfl | ⟨i,hi,rfl⟩)
  .exact⟨_,(kk.mem _).mpr (s.uv.mpr 419),p0⟩
  exact⟨(i,0,148),(kk.mem _).mpr (s.uv.mpr (.inr ⟨cb.mp hi,rfl,rfl⟩)),s.fw (cb.mp hi)⟩
 rintro⟨z,hz,e⟩;rcases s.uv.mp ((kk.mem z).mp hz) with rfl | ⟨a1,a2,a3⟩
 .rw [p0] at e;exact .inl (cX e).symm
 have ez:z=(z.1,0,148):=bV rfl (bV a2 a3);rw [ez,s.fw a1] at e;exact .inr ⟨z.1,cb.mpr a1,cX e⟩
def Jw (aa:56):((List.range aa.length).map λi=>(dP aa i).length).sum=(aa.flatMap 105).length:=by
 rw [List.length_flatMap]
 congr 1
 apply List.ext_getElem
 .simp
 intro i h1 h2;simp only [ay] at h2;rw [kT,kT,List.getElem_range,iV (cx h2)]
def Ap.tree (s:Ap aa c):qC aa 499 (Oz aa) (wA aa c) where
 o0:=.inl rfl
 Eo k h p hp:=by
  obtain⟨z,hz,e⟩:=((d7 aa _).2 p).mp hp;rw [s.nI h hz e];exact s.Eo h hz e
 le k h:=by
  have G_:=s.G_;rcases h with rfl | ⟨i,d,rfl,h1,h2,h3⟩
  .have kk:=s.Mr (bes:=bes) 419;have:=Wn.i4 _ ((aa.length,0,148)::(List.range aa.length).map λi=>(i,0,148)) kk.cl.2.1 λz hz=>by
    rcases s.uv.mp ((kk.mem z).mp hz) with rfl | ⟨a1,a2,a3⟩
    .exact a8
    exact bA _ (a9.mpr ⟨z.1,cb.mpr a1,bV rfl (bV a2.symm a3.symm)⟩)
   rw [cf,ay,iu] at this;omega
  rw [yO (s.qt h2 (.inl h1))];simp
 inj k k2 p p2 h h2 hp He e:=by
  obtain⟨z,hz,ez⟩:=((d7 aa _).2 p).mp hp;obtain⟨y,hy,ey⟩:=((d7 aa _).2 p2).mp He;rw [s.nI h hz ez,s.nI h2 hy ey] at e;have m1:=s.mem h hz;have m2:=s.mem h2 hy;have e2:Ep z=Ep y:=(rq e).1;have e3:=ik e2;have e4:=ik e3.2;have ezy:z=y:=bV e3.1 (bV (by have:=e4.1;omega) e4.2);subst ezy;refine⟨?_,cX (ez.symm.trans ey)⟩;rcases m1.2.2 with ⟨a1,a2⟩ | ⟨a1,a2⟩ <;> rcases m2.2.2 with ⟨b1,b2⟩ | ⟨b1,b2⟩
  .rw [a1,b1]
  .omega
  .omega
  rw [a1,b1]
 nf k p h hp e:=by
  obtain⟨z,hz,ez⟩:=((d7 aa _).2 p).mp hp;rw [s.nI h hz ez] at e;have:=(ik (ik (rq e).1).2).1;omega
 w k h:=by
  have oc:=h;rcases h with rfl | ⟨i,d,rfl,h1,h2,h3⟩
  .have kk:=s.Mr (bes:=bes) 419;have p0:iD aa (aa.length,0,148)=some 422:=by unfold iD;dsimp only;rw [s.one.top];rfl
   rw [(s.IM.map _).sum_nat,bN,jA,s.nI oc ((kk.mem _).mpr (s.uv.mpr 419)) p0,eE];have e1:(List.range aa.length).map ((λp=>wA aa c (fC.nI aa 499 (aN aa) p)) ∘ Vs aa)=(List.range aa.length).map λi=>(dP aa i).length:=by
    apply xl;intro i hi;have hi:=cb.mp hi;show wA aa c (fC.nI aa 499 (aN aa) (Vs aa i))=_;rw [s.nI oc ((kk.mem (i,0,148)).mpr (s.uv.mpr (.inr ⟨hi,rfl,rfl⟩))) (s.fw hi)];show (if 0+1=0 then 2+c else 1+((dP aa i).length - (0+1)))=_;rw [aq ∅];have:=s.l1 _ (wW hi);rw [iV (cx hi)];omega
   rw [e1,Jw,s.fl,ay,iu];show 2+c=1+(1+((dP aa aa.length).length - 1)+c);rw [s.one.top];simp;omega
  have st:=yO (bes:=bes) (s.qt (bes:=bes) (z:=(i,d,148)) h2 (.inl h1));have e0:wA aa c [(i,d,148)]=1+((dP aa i).length - d):=aq (show ¬d=0 by omega);rw [e0];by_cases cd:d < (dP aa i).length
  .have hp:iD aa (i,d,148)=some ((dP aa i)[d]'cd):=cx cd;have:(pT aa 499 [(i,d,148)]).Perm [(dP aa i)[d]'cd]:=iZ (dU.mpr ⟨58,eG⟩) λp=>by
    rw [st];constructor
    .intro h;rw [bj.mp h];exact⟨_,bj.mpr rfl,hp⟩
    rintro⟨z,hz,e⟩;rw [bj.mp hz,hp] at e;exact bj.mpr (cX e).symm
   rw [(this.map _).sum_nat,bN,jA,s.nI oc (by rw [st];exact bj.mpr rfl) hp];show _=1+((if d+1=0 then 2+c else 1+((dP aa i).length - (d+1)))+0);rw [aq ∅];omega
  rw [show pT aa 499 [(i,d,148)]=[] from parts_nil λz hz=>by
   rw [st] at hz;rw [bj.mp hz];exact jb (by dsimp only;omega)]
  simp;omega
def Ap.PX (s:Ap aa c):Ng aa [] bes (Oz aa):=λk h=>by
 refine⟨s.Mr h,λ_=>⟨?_,λp hp=>s.tree.Eo k h p hp⟩⟩;have G_:=s.G_;rcases h with rfl | ⟨i,d,rfl,h1,h2,h3⟩
 .have:=(s.IM (bes:=bes)).length_eq;rw [cf,ay,iu] at this;unfold pT at this;omega
 rw [yO (s.qt h2 (.inl h1))];have:(br aa [(i,d,148)]).length<=1:=by
  unfold br;cases e:iD aa (i,d,148) with
  | none=>simp [List.filterMap,e]
  | some p =>
   simp only [List.filterMap,e,List.foldl];exact lQ [] p
 omega
theorem Ap.rooms (s:Ap aa c):(c+2<=120->∃S,dM aa 499=some S/\S.iU.length=c+2/\S.il.length+1=c+2)/\(120 < c+2->dM aa 499=none):=by
 have w0:wA aa c (aN aa)=2+c:=rfl;obtain⟨h1,h2⟩:=(s.tree (bes:=bes)).rooms;rw [w0] at h1 h2;refine⟨λh=>?_,λh=>h2 ∅⟩;obtain⟨S,a1,a2,a3⟩:=h1 ∅;exact⟨S,a1,∅,∅⟩
end
def yR:aw:=(422,[("y":Str)])
def wR (k:Nat):aw:=(422,[422,ig k])
structure It (aa:56) (m:Nat):Prop where
 pm:aa.Perm (yR::(List.range m).map wR)
 m1:1<=m
 m2:m<=23
def OG (m:Nat):z0t:=148::(List.range m).map ig
def NU (n m:Nat):70:=(n,0,148)::(List.range n).flatMap λj=>(OG m).map λx=>(j,0,x)
theorem Ec {xs:z0t}(h:xs.Nodup):∀{l:List Nat},l.Nodup->(l.flatMap λj=>xs.map λx=>((j,0,x):Pl)).Nodup
 | [],_=>eG
 | a::l,nd=>by
  have n1:=dU.mp nd;rw [kU];refine iM.mpr ⟨oA h λx _ y _ e=>(ik (ik e).2).2,Ec h n1.2,λu hu v hv e=>?_⟩;obtain⟨x,_,rfl⟩:=a9.mp hu;obtain⟨b,hb,hv⟩:=iK.mp hv;obtain⟨y,_,rfl⟩:=a9.mp hv;exact n1.1 ((ik e).1 ▸ hb)
theorem lD (xs:z0t):∀(l:List Nat),(l.flatMap λj=>xs.map λx=>((j,0,x):Pl)).length=l.length * xs.length
 | []=>58
 | a::l=>by rw [kU,bp,ay,lD xs l,cf,Nat.succ_mul];omega
def Ez {n m:Nat}{z:Pl}:z∈NU n m↔z=(n,0,148)\/(z.1 < n/\z.2.1=0/\z.2.2∈OG m):=by
 unfold NU;rw [a_,iK];constructor
 .rintro(h | ⟨j,hj,h⟩)
  .exact .inl h
  obtain⟨x,hx,rfl⟩:=a9.mp h;exact .inr ⟨cb.mp hj,rfl,hx⟩
 rintro(h | ⟨h1,h2,h3⟩)
 .exact .inl h
 exact .inr ⟨z.1,cb.mpr h1,a9.mpr ⟨z.2.2,h3,bV rfl (bV h2.symm rfl)⟩⟩
section
variable {aa:56}{m:Nat}{bes:108}
def It.len (s:163):aa.length=m+1:=by have:=s.pm.length_eq;rw [cf,ay,iu] at this;exact this
def It.mem (s:163){ru:aw}:ru∈aa↔ru=yR\/∃k,k < m/\ru=wR k:=by
 rw [s.pm.mem_iff,a_,a9];constructor
 .rintro(h | ⟨k,hk,rfl⟩)
  .exact .inl h
  exact .inr ⟨k,cb.mp hk,rfl⟩
 rintro(h | ⟨k,hk,rfl⟩)
 .exact .inl h
 exact .inr ⟨k,cb.mpr hk,rfl⟩
def OL {j k:Nat}(hj:j < 160)(hk:k < 160)(e:wR j=wR k):j=k:=by
 have:=(ik e).2;exact By hj hk (rq (rq this).2).1
def It.one (s:163):jz aa:=by
 have m2:=s.m2;refine⟨λru h=>?_,λru h=>?_,λru h=>?_,⟨yR,s.mem.mpr 419,λp hp=>?_⟩,by rw [s.len];omega⟩
 .rcases s.mem.mp h with rfl | ⟨k,_,rfl⟩ <;> rfl
 .rcases s.mem.mp h with rfl | ⟨k,_,rfl⟩
  .show 1<=8;decide
  show 2<=8;decide
 .rcases s.mem.mp h with rfl | ⟨k,hk,rfl⟩
  .exact⟨("y":Str),bj.mpr rfl,nofun⟩
  exact⟨ig k,bA _ (bj.mpr rfl),(vv ∅).1⟩
 rw [bj.mp hp];decide
def It.pa (s:163){z:Pl}{p:Str}(l:z.1<=aa.length)(h:iD aa z=some p):(z.1=aa.length/\z.2.1=0/\p=422)\/(aa[z.1]?=some yR/\z.2.1=0/\p=("y":Str))\/∃k,k < m/\(aa[z.1]?=some (wR k)/\((z.2.1=0/\p=422)\/(z.2.1=1/\p=ig k))):=by
 by_cases e:z.1=aa.length
 .unfold iD at h;rw [e,s.one.top] at h;cases kF:z.2.1 with
  | zero=>rw [kF] at h;cases h;exact .inl ⟨e,rfl,rfl⟩
  | succ d=>rw [kF] at h;cases h
 have h1:aa[z.1]?=some (aa[z.1]'∅):=cx ∅;have h2:=s.mem.mp (cv h1);generalize aa[z.1]'∅=ru at h1 h2;unfold iD at h;rw [iV h1] at h;rcases h2 with rfl | ⟨k,hk,rfl⟩
 .cases kF:z.2.1 with
  | zero=>rw [kF] at h;cases h;exact .inr (.inl ⟨h1,rfl,rfl⟩)
  | succ d=>rw [kF] at h;cases h
 refine .inr (.inr ⟨k,hk,h1,?_⟩);cases kF:z.2.1 with
 | zero=>rw [kF] at h;cases h;exact .inl ⟨rfl,rfl⟩
 | succ d =>
  rw [kF] at h;cases d with
  | zero=>cases h;exact .inr ⟨rfl,rfl⟩
  | succ d=>cases h
def It.p0 (s:163)(x:Str):iD aa (aa.length,0,x)=some 422:=by unfold iD;dsimp only;rw [s.one.top];rfl
def T4 {i:Nat}{x:Str}(h:aa[i]?=some yR):iD aa (i,0,x)=some ("y":Str):=by unfold iD;dsimp only;rw [iV h];rfl
def NH {i k:Nat}{x:Str}(h:aa[i]?=some (wR k)):iD aa (i,0,x)=some 422:=by unfold iD;dsimp only;rw [iV h];rfl
def IP {i k:Nat}{x:Str}(h:aa[i]?=some (wR k)):iD aa (i,1,x)=some (ig k):=by unfold iD;dsimp only;rw [iV h];rfl
def It.ya (s:163):∃a:Nat,aa[a]?=some yR:=g9 (s.mem.mpr 419)
def It.wa (s:163){k:Nat}(h:k < m):∃a:Nat,aa[a]?=some (wR k):=g9 (s.mem.mpr (.inr ⟨k,h,rfl⟩))
def It.qt (s:163){z:Pl}(l:z.1<=aa.length)(d:1<=z.2.1)(y:Pl):¬lR aa [] bes z y:=λh=>by
 have m2:=s.m2;have:=((s.one.O5 bes z y).mp h).1;rcases s.pa l this with ⟨_,a2,_⟩ | ⟨_,a2,_⟩ | ⟨k,hk,_,⟨a2,_⟩ | ⟨_,a3⟩⟩
 .omega
 .omega
 .omega
 exact(vv (show k < 160 by omega)).1 a3.symm
def It.uv (s:163){z:Pl}:Bg (lR aa [] bes) (aN aa) z↔z∈NU aa.length m:=by
 have m2:=s.m2;have p0:=s.p0 148;have b0:Fb aa (aa.length,0,148)=[]:=by unfold Fb;dsimp only;rw [s.one.top];rfl
 have bw:∀{i k:Nat}{x:Str},aa[i]?=some (wR k)->Fb aa (i,0,x)=[ig k]:=λh=>by unfold Fb;dsimp only;rw [iV h];rfl
 have ww:∀{k:Nat},k < m->jt (fC.hd aa) bes (ig k)=[ig k]:=λ{k} h=>by
  unfold jt;rw [aq];intro y;exact(vv (show k < 160 by omega)).1 (s.one.hd y)
 have c1:∀j,j < aa.length->Bg (lR aa [] bes) (aN aa) (j,0,148):=λj hj =>
  .step (z:=(aa.length,0,148)) (.base (bj.mpr rfl)) ((s.one.O5 bes _ _).mpr ⟨p0,hj,rfl,.inl ⟨b0,rfl⟩⟩)
 rw [Ez];constructor
 .intro h
  induction h with
  | base m=>exact .inl (bj.mp m)
  | @step z y _ r ih =>
   obtain⟨a1,a2,a3,a4⟩:=(s.one.O5 bes z y).mp r;refine .inr ⟨a2,a3,?_⟩;rcases ih with rfl | ⟨i1,i2,i3⟩
   .rcases a4 with a4 | ⟨a,l,e,_⟩
    .rw [a4.2];exact a8
    rw [b0] at e;cases e
   rcases s.pa (gq i1) a1 with ⟨q,_,_⟩ | ⟨_,_,q⟩ | ⟨k,hk,q,_⟩
   .omega
   .exact absurd q nofun
   have ez:z=(z.1,0,z.2.2):=bV rfl (bV i2 rfl);have bz:Fb aa z=[ig k]:=by rw [ez];exact bw q
   rw [bz] at a4;rcases a4 with a4 | ⟨a,l,e,hw⟩
   .cases a4.1
   cases e;rw [ww hk] at hw;rw [bj.mp hw];exact bA _ (a9.mpr ⟨k,cb.mpr hk,rfl⟩)
 rintro(rfl | ⟨h1,h2,h3⟩)
 .exact .base (bj.mpr rfl)
 rcases a_.mp h3 with h3 | h3
 .have ez:z=(z.1,0,148):=bV rfl (bV h2 h3);rw [ez];exact c1 _ h1
 obtain⟨k,hk,e⟩:=a9.mp h3;have hk:=cb.mp hk;obtain⟨a,ha⟩:=s.wa hk;exact .step (c1 a (a7.mp ha).1) ((s.one.O5 bes _ _).mpr ⟨NH ha,h1,h2,.inr ⟨ig k,[],bw ha,by rw [ww hk,<-e];exact bj.mpr rfl⟩⟩)
def It.Zy (s:163):(NU aa.length m).Nodup:=by
 have m2:=s.m2;refine dU.mpr ⟨λh=>?_,Ec (dU.mpr ⟨λh=>?_,Bx ∅⟩) List.nodup_range⟩
 .obtain⟨j,hj,h⟩:=iK.mp h;obtain⟨x,_,e⟩:=a9.mp h;have:=(ik e).1;have:=cb.mp hj;omega
 obtain⟨k,hk,e⟩:=a9.mp h;have:=cb.mp hk;exact(vv (show k < 160 by omega)).2.2 e
def It.NT (s:163):(NU aa.length m).length=617:=by
 unfold NU OG;rw [cf,lD,cf,ay,iu,iu,s.len]
def It.M3 (s:163):617<=600:=by
 have:=s.m2;have:(m+1) * (m+1)<=24 * 24:=Nat.mul_le_mul ∅ ∅;omega
def It.Qh (s:163):uN aa [] bes (aN aa):=uN.of (NU aa.length m) (by unfold aN;simp) (by rw [s.NT];exact s.M3) λz hz=>s.uv.mp hz
noncomputable def r0 (aa:56)(bes:108):70:=b_ aa [] bes (aN aa)
def It.r0p (s:163):(r0 aa bes).Perm (NU aa.length m) :=
 (Br s.Qh.cl.2.1 s.Zy).mpr λz=>(s.Qh.mem z).trans s.uv
def It.Ea (s:163):(r0 aa bes).length=617:=by rw [s.r0p.length_eq,s.NT]
noncomputable def k1 (aa:56)(bes:108):70:=fX aa (r0 aa bes) 422
noncomputable def k2 (aa:56)(bes:108):70:=fX aa (r0 aa bes) ("y":Str)
noncomputable def k3 (aa:56)(bes:108)(p:Str):70:=fX aa (b_ aa [] bes (k1 aa bes)) p
def CI (room:70)(p:Str):(fX aa room p).length<=room.length:=by unfold fX;rw [ay];exact ql _ _
def It.m0 (s:163){z:Pl}:z∈r0 aa bes↔z=(aa.length,0,148)\/(z.1 < aa.length/\z.2.1=0/\z.2.2∈OG m):=s.r0p.mem_iff.trans Ez
def It.Uj (s:163){z:Pl}:z∈k1 aa bes↔z=(aa.length,1,148)\/∃k,k < m/\(aa[z.1]?=some (wR k)/\z.2.1=1/\z.2.2∈OG m):=by
 unfold k1;rw [CK];constructor
 .rintro⟨y,hy,hp,rfl⟩;rcases s.m0.mp hy with rfl | ⟨h1,h2,h3⟩
  .exact .inl rfl
  rcases s.pa (gq h1) hp with ⟨q,_,_⟩ | ⟨_,_,q⟩ | ⟨k,hk,q,_⟩
  .omega
  .exact absurd q nofun
  exact .inr ⟨k,hk,q,by show y.2.1+1=1;omega,h3⟩
 rintro(rfl | ⟨k,hk,h1,h2,h3⟩)
 .exact⟨_,s.m0.mpr 419,s.p0 _,rfl⟩
 exact⟨(z.1,0,z.2.2),s.m0.mpr (.inr ⟨(a7.mp h1).1,rfl,h3⟩),NH h1,bV rfl (bV h2 rfl)⟩
def It.Ui (s:163){z:Pl}:z∈k2 aa bes↔(aa[z.1]?=some yR/\z.2.1=1/\z.2.2∈OG m):=by
 have m2:=s.m2;unfold k2;rw [CK];constructor
 .rintro⟨y,hy,hp,rfl⟩;rcases s.m0.mp hy with rfl | ⟨h1,h2,h3⟩
  .rw [s.p0] at hp;exact absurd (cX hp) nofun
  rcases s.pa (gq h1) hp with ⟨q,_,_⟩ | ⟨q,_,_⟩ | ⟨k,hk,_,⟨_,q⟩ | ⟨_,q⟩⟩
  .omega
  .exact⟨q,by show y.2.1+1=1;omega,h3⟩
  .exact absurd q nofun
  exact absurd q.symm (vv (show k < 160 by omega)).2.1
 rintro⟨h1,h2,h3⟩;exact⟨(z.1,0,z.2.2),s.m0.mpr (.inr ⟨(a7.mp h1).1,rfl,h3⟩),T4 h1,bV rfl (bV h2 rfl)⟩
def It.b1 (s:163){z:Pl}(h:z∈k1 aa bes):z.1<=aa.length/\z.2.1=1:=by
 rcases s.Uj.mp h with rfl | ⟨k,_,h1,h2,_⟩
 .exact⟨aE _,rfl⟩
 exact⟨gq (a7.mp h1).1,h2⟩
def It.Qg (s:163){k:70}(l:k.length<=600)(h:∀z∈k,z.1<=aa.length/\1<=z.2.1):uN aa [] bes k/\∀z,z∈b_ aa [] bes k↔z∈k:=by
 have c:∀z,Bg (lR aa [] bes) k z↔z∈k:=λz=>uw λy hy x=>s.qt (h y hy).1 (h y hy).2 x;have kk:uN aa [] bes k:=uN.of k l l λz hz=>(c z).mp hz;exact⟨kk,λz=>(kk.mem z).trans (c z)⟩
def It.l1 (s:163):(k1 aa bes).length<=617:=by rw [<-s.Ea (bes:=bes)];exact CI _ _
def It.l2 (s:163):(k2 aa bes).length<=617:=by rw [<-s.Ea (bes:=bes)];exact CI _ _
def It.c1 (s:163):uN aa [] bes (k1 aa bes)/\∀z,z∈b_ aa [] bes (k1 aa bes)↔z∈k1 aa bes :=
 s.Qg (cW s.l1 s.M3) λz hz=>⟨(s.b1 hz).1,by have:=(s.b1 hz).2;omega⟩
def It.c2 (s:163):uN aa [] bes (k2 aa bes)/\∀z,z∈b_ aa [] bes (k2 aa bes)↔z∈k2 aa bes :=
 s.Qg (cW s.l2 s.M3) λz hz=>by
  obtain⟨h1,h2,_⟩:=s.Ui.mp hz;exact⟨gq (a7.mp h1).1,∅⟩
def uN.MZ {k:70}(h:uN aa [] bes k)(g:∀z,z∈b_ aa [] bes k↔z∈k):(b_ aa [] bes k).length<=k.length:=Wn.i4 _ _ h.cl.2.1 λz hz=>(g z).mp hz
def It.P5 (s:163){j:Nat}(hj:j < m){z:Pl}:z∈647↔(aa[z.1]?=some (wR j)/\z.2.1=2/\z.2.2∈OG m):=by
 have m2:=s.m2;unfold k3;rw [CK];constructor
 .rintro⟨y,hy,hp,rfl⟩;have hy:=(s.c1.2 y).mp hy;have b:=s.b1 hy;rcases s.Uj.mp hy with rfl | ⟨k,hk,h1,h2,h3⟩
  .rcases s.pa b.1 hp with ⟨_,q,_⟩ | ⟨_,q,_⟩ | ⟨k,hk,q,_⟩
   .cases q
   .cases q
   have:=(a7.mp q).1;exact absurd this (ir _)
  have ey:y=(y.1,1,y.2.2):=bV rfl (bV h2 rfl);rw [ey,IP h1] at hp;have:=By (show k < 160 by omega) (show j < 160 by omega) (cX hp);subst this;exact⟨h1,by show y.2.1+1=2;omega,h3⟩
 rintro⟨h1,h2,h3⟩;exact⟨(z.1,1,z.2.2),(s.c1.2 _).mpr (s.Uj.mpr (.inr ⟨j,hj,h1,rfl,h3⟩)),IP h1,bV rfl (bV h2 rfl)⟩
def It.l3 (s:163)(p:Str):(k3 aa bes p).length<=617:=cW (CI _ _) (cW (s.c1.1.MZ s.c1.2) s.l1)
def It.c3 (s:163){j:Nat}(hj:j < m):uN aa [] bes (647)/\∀z,z∈b_ aa [] bes (647)↔z∈647 :=
 s.Qg (cW (s.l3 _) s.M3) λz hz=>by
  obtain⟨h1,h2,_⟩:=(s.P5 hj).mp hz;exact⟨gq (a7.mp h1).1,∅⟩
def Rw (aa:56)(bes:108) (m:Nat)(k:70):Prop:=k=aN aa\/k=k1 aa bes\/k=k2 aa bes\/∃j,j < m/\k=647
def It.Py (s:163):(pT aa 499 (aN aa)).Perm [422,("y":Str)]:=by
 have m2:=s.m2;refine iZ nofun λp=>?_;constructor
 .intro h;rcases a_.mp h with rfl | h
  .exact⟨_,s.m0.mpr 419,s.p0 _⟩
  rw [bj.mp h];obtain⟨a,ha⟩:=s.ya;exact⟨(a,0,148),s.m0.mpr (.inr ⟨(a7.mp ha).1,rfl,a8⟩),T4 ha⟩
 rintro⟨z,hz,hp⟩;rcases s.m0.mp hz with rfl | ⟨h1,h2,h3⟩
 .rw [s.p0] at hp;rw [<-cX hp];exact a8
 rcases s.pa (gq h1) hp with ⟨_,_,q⟩ | ⟨_,_,q⟩ | ⟨k,hk,_,⟨_,q⟩ | ⟨q,_⟩⟩
 .rw [q];exact a8
 .rw [q];exact bA _ a8
 .rw [q];exact a8
 omega
def It.Px (s:163):(pT aa 499 (k1 aa bes)).Perm ((List.range m).map ig):=by
 have m2:=s.m2;refine iZ (Bx ∅) λp=>?_;rw [a9];constructor
 .rintro⟨k,hk,rfl⟩;have hk:=cb.mp hk;obtain⟨a,ha⟩:=s.wa hk;exact⟨(a,1,148),(s.c1.2 _).mpr (s.Uj.mpr (.inr ⟨k,hk,ha,rfl,a8⟩)),IP ha⟩
 rintro⟨z,hz,hp⟩;have b:=s.b1 ((s.c1.2 z).mp hz);rcases s.pa b.1 hp with ⟨_,q,_⟩ | ⟨_,q,_⟩ | ⟨k,hk,_,⟨q,_⟩ | ⟨_,q⟩⟩
 .omega
 .omega
 .omega
 exact⟨k,cb.mpr hk,q.symm⟩
def It.Pw (s:163):pT aa 499 (k2 aa bes)=[]:=parts_nil λz hz=>by
 obtain⟨h1,h2,_⟩:=s.Ui.mp ((s.c2.2 z).mp hz);unfold iD;rw [iV h1,h2];rfl
def It.Pu (s:163){j:Nat}(hj:j < m):pT aa 499 (647)=[]:=parts_nil λz hz=>by
 obtain⟨h1,h2,_⟩:=(s.P5 hj).mp (((s.c3 hj).2 z).mp hz);unfold iD;rw [iV h1,h2];rfl
def It.Ll (s:163){k:70}{p:Str}(h:Rw aa bes m k)(hp:p∈pT aa 499 k):(k=aN aa/\p=422)\/(k=aN aa/\p=("y":Str))\/(k=k1 aa bes/\∃j,j < m/\p=ig j):=by
 rcases h with rfl | rfl | rfl | ⟨j,hj,rfl⟩
 .rcases a_.mp (s.Py.mem_iff.mp hp) with h | h
  .exact .inl ⟨rfl,h⟩
  exact .inr (.inl ⟨rfl,bj.mp h⟩)
 .obtain⟨j,hj,e⟩:=a9.mp (s.Px.mem_iff.mp hp);exact .inr (.inr ⟨rfl,j,cb.mp hj,e.symm⟩)
 .rw [s.Pw] at hp;cases hp
 rw [s.Pu hj] at hp;cases hp
def It.i1 (s:163):(aa.length,1,148)∈k1 aa bes:=s.Uj.mpr 419
def It.Hc (s:163):k1 aa bes≠k2 aa bes:=λe=>by
 have:=s.Ui.mp (e ▸ s.i1);exact absurd (a7.mp this.1).1 (ir _)
def It.Ha (s:163){j:Nat}(hj:j < m):k1 aa bes≠647:=λe=>by
 have:=((s.P5 hj).mp (e ▸ s.i1)).2.1;cases this
def It.Jn (s:163){j:Nat}(hj:j < m):k2 aa bes≠647:=λe=>by
 obtain⟨a,ha⟩:=s.ya;have:=((s.P5 hj).mp (e ▸ (s.Ui (z:=(a,1,148))).mpr ⟨ha,rfl,a8⟩)).2.1;cases this
def It.n33 (s:163){i j:Nat}(hi:i < m)(hj:j < m)(e:k3 aa bes (ig i)=647):i=j:=by
 have m2:=s.m2;obtain⟨a,ha⟩:=s.wa hi;have:=((s.P5 hj).mp (e ▸ (s.P5 hi (z:=(a,2,148))).mpr ⟨ha,rfl,a8⟩)).1;exact OL ∅ ∅ (cX (ha.symm.trans this))
def It.f1 (s:163):k1 aa bes≠aN aa:=λe=>by
 have:=(s.b1 (bes:=bes) (z:=(aa.length,0,148)) (by rw [e];exact bj.mpr rfl)).2;cases this
def It.f2 (s:163):k2 aa bes≠aN aa:=λe=>by
 have:=((s.Ui (bes:=bes) (z:=(aa.length,0,148))).mp (by rw [e];exact bj.mpr rfl)).2.1;cases this
def It.f3 (s:163){j:Nat}(hj:j < m):647≠aN aa:=λe=>by
 have:=((s.P5 hj (bes:=bes) (z:=(aa.length,0,148))).mp (by rw [e];exact bj.mpr rfl)).2.1;cases this
def It.Eo (s:163){k:70}{p:Str}(h:Rw aa bes m k)(hp:p∈pT aa 499 k):Rw aa bes m (nI aa 499 k p):=by
 rcases s.Ll h hp with ⟨rfl,rfl⟩ | ⟨rfl,rfl⟩ | ⟨rfl,j,hj,rfl⟩
 .exact .inr 419
 .exact .inr (.inr 419)
 exact .inr (.inr (.inr ⟨j,hj,rfl⟩))
def It.Mr (s:163){k:70}(h:Rw aa bes m k):uN aa [] bes k/\(b_ aa [] bes k).length<=617:=by
 rcases h with rfl | rfl | rfl | ⟨j,hj,rfl⟩
 .exact⟨s.Qh,Nat.le_of_eq s.Ea⟩
 .exact⟨s.c1.1,cW (s.c1.1.MZ s.c1.2) s.l1⟩
 .exact⟨s.c2.1,cW (s.c2.1.MZ s.c2.2) s.l2⟩
 exact⟨(s.c3 hj).1,cW ((s.c3 hj).1.MZ (s.c3 hj).2) (s.l3 _)⟩
def It.PX (s:163):Ng aa [] bes (Rw aa bes m):=λk h=>by
 have m2:=s.m2;refine⟨(s.Mr h).1,λ_=>⟨?_,λp hp=>s.Eo h hp⟩⟩;rcases h with rfl | rfl | rfl | ⟨j,hj,rfl⟩
 .have:=(s.Py (bes:=bes)).length_eq;show (pT aa 499 (aN aa)).length < 64;rw [this];decide
 .have:=(s.Px (bes:=bes)).length_eq;show (pT aa 499 (k1 aa bes)).length < 64;rw [this,ay,iu];omega
 .show (pT aa 499 (k2 aa bes)).length < 64;rw [s.Pw];decide
 show (pT aa 499 (647)).length < 64;rw [s.Pu hj];decide
noncomputable def wI (aa:56)(bes:108) (m:Nat)(k:70):Nat:=if k=aN aa then m+3 else if k=k1 aa bes then m+1 else 1
theorem zz {α:Type}{f:α->Nat}:∀{l:List α},(∀x∈l,f x=1)->(l.map f).sum=l.length
 | [],_=>rfl
 | a::l,h=>by rw [bN,jA,h a a8,zz λx hx=>h x (bA _ hx),cf];omega
def It.tree (s:163)(aam:617<=300):qC aa 499 (Rw aa bes m) (wI aa bes m) where
 o0:=.inl rfl
 Eo k h p hp:=s.Eo h hp
 le k h:=cW (s.Mr h).2 aam
 inj k k' p p' h h' hp oH e:=by
  rcases s.Ll h hp with ⟨rfl,rfl⟩ | ⟨rfl,rfl⟩ | ⟨rfl,j,hj,rfl⟩ <;> rcases s.Ll h' oH with ⟨rfl,rfl⟩ | ⟨rfl,rfl⟩ | ⟨rfl,i,hi,rfl⟩
  .exact⟨rfl,rfl⟩
  .exact absurd e s.Hc
  .exact absurd e (s.Ha hi)
  .exact absurd e.symm s.Hc
  .exact⟨rfl,rfl⟩
  .exact absurd e (s.Jn hi)
  .exact absurd e.symm (s.Ha hj)
  .exact absurd e.symm (s.Jn hj)
  rw [s.n33 hj hi e];exact⟨rfl,rfl⟩
 nf k p h hp:=by
  rcases s.Ll h hp with ⟨rfl,rfl⟩ | ⟨rfl,rfl⟩ | ⟨rfl,j,hj,rfl⟩
  .exact s.f1
  .exact s.f2
  exact s.f3 hj
 w k h:=by
  have w1:wI aa bes m (k1 aa bes)=m+1:=by unfold wI;rw [aq s.f1,ar rfl]
  have w2:wI aa bes m (k2 aa bes)=1:=by unfold wI;rw [aq s.f2,aq λe=>s.Hc e.symm]
  have w3:∀j,j < m->wI aa bes m (647)=1:=λj hj=>by unfold wI;rw [aq (s.f3 hj),aq λe=>s.Ha hj e.symm]
  rcases h with rfl | rfl | rfl | ⟨j,hj,rfl⟩
  .rw [(s.Py.map _).sum_nat];show wI aa bes m (aN aa)=1+(wI aa bes m (k1 aa bes)+(wI aa bes m (k2 aa bes)+0));rw [w1,w2];unfold wI;rw [ar rfl];omega
  .rw [(s.Px.map _).sum_nat,w1,zz,ay,iu]
   .omega
   intro p hp;obtain⟨j,hj,rfl⟩:=a9.mp hp;exact w3 j (cb.mp hj)
  .rw [s.Pw,w2];rfl
  rw [s.Pu hj,w3 j hj];rfl
theorem It.rooms (s:163):(617<=300->∃S,dM aa 499=some S/\S.iU.length=m+3/\S.il.length+1=m+3)/\(300 < 617->dM aa 499=none):=by
 have m2:=s.m2;refine⟨λh=>?_,λh=>?_⟩
 .obtain⟨h1,_⟩:=(s.tree (bes:=bes) h).rooms;have w0:wI aa bes m (aN aa)=m+3:=ar rfl;rw [w0] at h1;obtain⟨S,a1,a2,a3⟩:=h1 ∅;exact⟨S,a1,a2,∅⟩
 unfold dM;rw [ar];have:=s.Ea (bes:=bes);unfold r0 at this;rw [this];exact h
end
end fC
namespace L2
open PySem PySem.Spec PyProof.Rows
def wC {X:Cx}:gL X (.type "str") (λxs H Q=>∃i:Int,xs=[.int i]/\-1000000 < i/\i < 1000000/\Q (.str (Str.ofString (toString i))) H):=by
 intro ag s σ H xs us Q I r h;obtain⟨i,rfl,h1,h2,q⟩:=h;obtain⟨u,rfl,rx⟩:=bq.one r;obtain⟨t,rfl⟩:=rx;exact PySem.P.str_of_int (shown (N:=1000000) h1 h2 nofun) ⟨.str _,H,I.tok _,421,q⟩
end L2
namespace fC
open PySem L2 M11 ST
abbrev Ic:Stmt:=top 52
abbrev Cb:Stmt:=top 53
abbrev yc:Stmt:=top 54
def tM {x lo hi:Int}(h0:0<=lo)(h1:lo<=x)(h2:x<=hi):∃m:Nat,x=(m:Int)/\lo<=(m:Int)/\(m:Int)<=hi:=⟨x.toNat,∅,∅,∅⟩
def OI:(List.range 160).all (λn=>decide ((Str.ofString (toString ((n:Nat):Int))).length<=10))=true:=by decide +kernel
def Ht {n:Nat}(h:n < 160):(Str.ofString (toString (n:Int))).length<=10:=dJ (iJ.mp OI n (cb.mpr h))
section
def cellAt (ns:z0u) (k:Nat):Int:=(ns[k]?).getD 0
def xR (K:aY):Sp:=λvs H Q _=>∃(a:Addr)(ns:z0u) (k:Nat),vs=[91,.int (k:Int)]/\aX K H a (ns.map V.int)/\ns.length<=1000/\∀n:Int,n=cellAt ns k->Q (.int n) H
def O8:aM ["_law_script","_law_k"] ["_law_script","_law_k"] (ax Ic):=417
def L_ (F:jo K "_law_cell_at" "_law_cell_at" Ic f fd)(T:Txt mg):bO P w K mg base gb 1 f fd ["_law_script","_law_k"] (xR K):=by
 refine F.ok O8 420 472
 .obtain⟨a,ns,k,rfl,_⟩:=h;rfl
 obtain⟨a,ns,k,rfl,hS,hn,q⟩:=h;refine⟨_,aj (dq (cS ow 102 (bo bC rfl T.len gI 497) (cT _)) (av (bS (bF e_ 72 102 109))) bL) (av (bS aA)),?_⟩;refine⟨_,rfl,_,rfl,a,_,rfl,.inl hS,_,_,rfl,rfl,_,rfl,?_⟩;refine fO (λcc=>?_) (λcc=>q 0 ?_)
 rotate_left
 .have ge:¬((k:Int) < ((ns.map V.int).length:Int)):=λz=>cc (dS z);rw [ay] at ge;unfold cellAt;rw [jb ∅];rfl
 have lt:=dJ cc;rw [ay] at lt;have lt':k < ns.length:=121
 refine⟨_,rfl,_,rfl,a,_,_,.int ns[k],rfl,rfl,hS,eh (by rw [bx,cx lt'];rfl),q _ (by unfold cellAt;rw [cx lt'];rfl)⟩
structure XS (aa:56) (i c:Nat):Prop where
 ln:aa.length=i
 hs:∀ru∈aa,ru.1=422
 l1:∀ru∈aa,1<=ru.2.length
 l6:∀ru∈aa,ru.2.length<=6
 fl:aa.flatMap 105=(List.range c).map ig
 c6:c<=6 * i
def XS.step {aa:56}{i c n:Nat}(h:XS aa i c)(h1:1<=n)(h6:n<=6):XS (aa++[(422,(List.range n).map λk=>ig (c+k))]) (i+1) (c+n):=by
 have f:∀{p:aw->Prop},(∀ru∈aa,p ru)->p (422,(List.range n).map λk=>ig (c+k))->∀ru∈aa++[(422,(List.range n).map λk=>ig (c+k))],p ru:=λa b ru hr=>by
  rcases cw.mp hr with hr | hr
  .exact a ru hr
  rw [bj.mp hr];exact b
 refine⟨by rw [bp,h.ln];rfl,f h.hs rfl,f h.l1 (548),f h.l6 (548),?_,by have:=h.c6;omega⟩;rw [rW,h.fl,List.range_add,aP,eE];simp
def DW (K:aY):Sp:=λvs H Q _=>∃(a:Addr)(ns:z0u),vs=[91]/\aX K H a (ns.map V.int)/\ns.length<=63 /\
 ∀(t R:Addr)(rs:z0q)(aa:56) (c:Nat)(H':Hp),H R=none->147->H' t=some (.tup [.ref R,.int ((c+2:Nat):Int),.bl (decide (120 < c+2))])->H' R=some 620->bY K H' rs aa->Ap aa c->Q (.ref t) H'
def gU:aM ["_law_script","_law_cell","_law_many","_law_rules","_law_count","_law_k","_law_size"] ["_law_script"] (ax Cb):=417
def Jk (F:jo K "_law_apart" "_law_apart" Cb f fd)(T:Txt mg)(OB:aL P w K mg base 1 "_law_cell_at" ["_law_script","_law_k"] (xR K)):bO P w K mg base gb 2 f fd ["_law_script"] (DW K):=by
 refine F.ok gU 420 472
 .obtain⟨a,ns,rfl,_⟩:=h;rfl
 obtain⟨a,ns,rfl,hS,hn,q⟩:=h;have hu:=fc hr;refine⟨_,aj (aF (i:=1) gU.nd rfl 68 (cu oy (bZ OB hr rfl (ae 72 (ae aA ao))) aA))
  (aj (aF (i:=2) gU.nd rfl 68 (cu d6 aA (cu j5 102 aA)))
  (aj (iC (dq (cS oz (cu j5 (cu oy 102 aA) aA) aA (cT _)) (av (aF (i:=2) gU.nd rfl 68 (cu d6 aA (cu j5 (cu oy 102 aA) aA)))) bL))
  (aj (aF (i:=3) gU.nd rfl 68 (dw ao))
  (aj (aF (i:=4) gU.nd rfl (Or.inr rfl) aA)
  (aj (cP c_ rfl (pV rfl T.NB (ae (pv 2) ao)) (az (i:=5) gU.nd rfl 68)
   (aj (aF (i:=6) gU.nd rfl 68 (cu d6 aA (cu j5 (bZ OB hr rfl (ae 72 (ae (cu d6 aA (pv 5)) ao))) aA)))
   (aj (iC (dq (cS oz (cu j5 (cu oy 102 aA) aA) aA (cT _)) (av (aF (i:=6) gU.nd rfl 68 (cu IW aA (bu Gy rfl T.int PyProof.Rows.boot_int (ae (ji oz (cu j5 (bZ OB hr rfl (ae 72 (ae (cu d6 aA (pv 5)) ao))) aA) aA (cT _)) ao))))) bL))
   (aj (cY (jj iN kM kO df (pv 3) (ae (bG (ae lE (ae (bu gZ rfl T.tup xA (ae (cm ["_law_one"] [(4,"_law_count")] rfl (pV rfl T.NB (ae (pv 6) ao)) 487 nofun rfl nofun
     (λ_ _ _ _ _=>az (i:=0) (show (["_law_one","_law_count"]:z0t).Nodup by decide +kernel) rfl 68) 539 (λ_ _ _ _ _=>cu tG lE (bu wC rfl T.str AG (ae (cu d6 102 72) ao)))) ao)) ao))) ao)))
   (av (aF (i:=4) gU.nd rfl (Or.inr rfl) (cu d6 (pv 4) (pv 6))))))))
  (av (bS (bG (ae (pv 3) (ae (cu d6 (pv 4) aA) (ae (ji zP (cu d6 (pv 4) aA) aA (cT _)) ao))))))))))),?_⟩
 refine pY ?_;intro Dz;refine⟨_,rfl,a,ns,0,rfl,hS,∅,λc0 _=>⟨_,_,rfl,rfl,⟨nofun,nofun⟩,?_⟩⟩;obtain⟨c,hc⟩:∃c,c0 / 3=c:=421;refine pY ?_;intro Dz;refine⟨_,rfl,_,_,rfl,rfl,nofun,_,_,rfl,rfl,?_⟩;refine⟨λσ H'=>∃m:Nat,σ=[aZ a,some (.int c),some (.int (m:Int)),none,none,none,none]/\H=H'/\1<=m/\m<=24,?_,?_⟩
 .refine⟨_,rfl,_,_,rfl,rfl,⟨nofun,nofun⟩,_,_,rfl,rfl,nofun,rfl,_,rfl,?_⟩;refine fO (λ_=>?_) (λ_=>?_)
  .refine⟨_,rfl,_,_,rfl,rfl,⟨nofun,nofun⟩,_,_,rfl,rfl,nofun,_,_,rfl,rfl,?_⟩;obtain⟨m,em,m1,m2⟩:=tM (x:=19+c / 48 % 6) (lo:=1) (hi:=24) nofun ∅ ∅;exact⟨m,by rw [<-em,<-hc];rfl,rfl,∅,∅⟩
  obtain⟨m,em,m1,m2⟩:=tM (x:=1+c % 24) (lo:=1) (hi:=24) nofun ∅ ∅;exact⟨m,by rw [<-em,<-hc];rfl,rfl,∅,∅⟩
 rintro _ _ ⟨m,rfl,rfl,m1,m2⟩;refine pY ?_;intro Dz;refine⟨Bu,λR hR=>?_⟩;have s1:=ah hR 103;have e1:upd H R 103 R=some (.lst (([]:z0q).map V.ref)):=af;generalize upd H R 103=H1 at s1 e1;refine pY ?_;intro Dz;refine⟨_,rfl,(m:Int),rfl,∅,∅,?_⟩;rw [ku m];refine Gf (n:=m) (λi σ H5=>∃(y5 y6:126)(rs:z0q)(aa:56) (cn:Nat),σ=[aZ a,some (.int c),some (.int (m:Int)),aZ R,some (.int (cn:Int)),y5,y6]/\aD H H5/\H5 R=some 620/\bY K H5 rs aa/\XS aa i cn)
  ⟨none,none,[],[],0,rfl,s1,e1,.nil,⟨rfl,λ_ h=>(nomatch h),λ_ h=>(nomatch h),λ_ h=>(nomatch h),rfl,cV _⟩⟩ ?_ ?_
 .rintro i σ H5 hi ⟨y5,y6,rs,aa,cn,rfl,s5,e5,RK,A5⟩
  ac_nf0
  refine goN ?_;have ci:=A5.c6;refine⟨_,rfl,_,rfl,_,_,rfl,rfl,a,ns,1+i,(by rw [show ((1+i:Nat):Int)=1+(0+(i:Int)) by omega];rfl),s5.seq hS,∅,λc1 _=>⟨_,_,rfl,rfl,nofun,_,_,rfl,rfl,?_⟩⟩;refine⟨λσ H'=>∃n:Nat,σ=[aZ a,some (.int c),some (.int (m:Int)),aZ R,some (.int (cn:Int)),some (.int (0+(i:Int))),some (.int (n:Int))]/\H5=H'/\1<=n/\n<=6,?_,?_⟩
  .refine⟨_,rfl,_,_,rfl,rfl,⟨nofun,nofun⟩,_,_,rfl,rfl,nofun,rfl,_,rfl,?_⟩;refine fO (λ_=>?_) (λ_=>?_)
   .refine⟨_,rfl,_,rfl,_,_,rfl,rfl,a,ns,1+i,(by rw [show ((1+i:Nat):Int)=1+(0+(i:Int)) by omega];rfl),s5.seq hS,∅,λc2 _=>⟨_,_,rfl,rfl,nofun,rfl,.inr ⟨_,rfl,_,_,rfl,rfl,?_⟩⟩⟩;generalize decide (V.int (c2 % 3)=V.int 1)=bb;cases bb with
    | true=>exact⟨5,rfl,rfl,nofun,nofun⟩
    | false=>exact⟨6,rfl,rfl,nofun,nofun⟩
   obtain⟨n,en,n1,n2⟩:=tM (x:=1+c1 % 6) (lo:=1) (hi:=6) nofun ∅ ∅;exact⟨n,by rw [<-en];rfl,rfl,∅,∅⟩
  rintro _ _ ⟨n,rfl,rfl,n1,n6⟩;refine pY ?_;intro Dz;refine⟨_,rfl,.inl ⟨rfl,_,aX.of e5⟩,_,rfl,(n:Int),rfl,∅,∅,λD hD=>?_⟩;rw [ku n];refine qB (n:=n) (λj ys σ2 H7=>ys=((List.range j).map λk=>ig (cn+k)).map V.str/\(∃y0,σ2=[y0,some (.int (cn:Int))])/\aD H5 H7/\H7 D=some (.lst ys)) ⟨rfl,⟨none,rfl⟩,ah hD _,af⟩ ?_ ?_
  .rintro j ys σ2 H7 hj ⟨rfl,⟨y0,rfl⟩,s7,e7⟩;refine goN (A7 ?_);refine⟨_,rfl,_,rfl,_,_,rfl,rfl,_,rfl,∅,∅,_,_,rfl,rfl,?_,e7,bX (by rw [ay,ay,iu];omega),?_,421,jE s7 hD,af⟩
   .show ("w":Str).length+(Str.ofString (toString ((cn:Int)+(0+124)))).length<=sizeLine;rw [show ((cn:Int)+(0+124))=((cn+j:Nat):Int) by omega];have:=Ht (n:=cn+j) ∅;exact fits (by show 1+_<=1000000;omega)
   rw [rE,aP,aP]
   congr 1
   show [V.str (("w":Str)++Str.ofString (toString ((cn:Int)+(0+124))))]=[V.str (ig (cn+j))];rw [show ((cn:Int)+(0+124))=((cn+j:Nat):Int) by omega];rfl
  rintro ys σ2 H7 ⟨rfl,_,s7,e7⟩;refine⟨D,_,rfl,.inl ⟨aX.of e7,λt2 jl=>?_⟩⟩;have s8:=ah jl 864;have e8:upd H7 t2 864 t2=some 864:=af;generalize upd H7 t2 864=H8 at s8 e8;refine⟨qF,λt3 JI=>?_⟩;have s9:=ah JI 626;have e9:upd H8 t3 626 t3=some 626:=af;generalize upd H8 t3 626=H9 at s9 e9;have Yy:=s7.trans (s8.trans s9);have e59:=Yy _ _ e5;have RQ:=bf RK;have lr:=A5.ln;refine⟨R,_,_,rfl,rfl,e59,507,?_⟩;have kp:∀b xs,aU K H9 b xs->aU K (upd H9 R (.lst (122++[.ref t3]))) b xs:=λb xs h=>bK e59 h;refine⟨_,rfl,_,rfl,_,_,rfl,rfl,?_⟩;refine⟨_,_,rs++[t3],aa++[(422,(List.range n).map λk=>ig (cn+k))],cn+n,rfl,jE (s5.trans Yy) hR,by rw [af,aP];rfl,ff ((RK.same Yy).keep kp) ⟨t2,kp _ _ (aU.of e9),kp _ _ (aU.of (s9 _ _ e8))⟩,A5.step n1 n6⟩
 rintro σ H5 ⟨y5,y6,rs,aa,cn,rfl,s5,e5,RK,A5⟩;refine⟨_,rfl,_,rfl,_,_,rfl,rfl,_,rfl,_,_,rfl,rfl,_,_,rfl,rfl,OF,λt ht=>?_⟩;have s6:=ah ht (.tup [.ref R,.int ((cn:Int)+2),.bl (decide ((120:Int) < (cn:Int)+2))]);have ci:=A5.c6;have ln:=A5.ln;refine q t R rs aa cn _ hR (s5.trans s6) ?_ (s6 _ _ e5) (RK.same s6) ⟨A5.hs,λe=>by rw [e] at ln;simp at ln;omega,∅,A5.l1,A5.l6,A5.fl,∅⟩;rw [af];have eb:decide ((120:Int) < (cn:Int)+2)=decide (120 < cn+2):=by rw [decide_eq_decide];omega
 rw [<-eb];rfl
def It.of {m at_:Nat}(m1:1<=m)(m2:m<=23):It (((List.range m).map wR).take at_++yR::((List.range m).map wR).drop at_) m:=by
 refine⟨?_,m1,m2⟩;refine List.perm_middle.trans ?_;rw [r_]
def zD (K:aY):Sp:=λvs H Q _=>∃(a:Addr)(ns:z0u),vs=[91]/\aX K H a (ns.map V.int)/\ns.length<=63 /\
 ∀(t R:Addr)(rs:z0q)(aa:56) (m:Nat)(H':Hp),H R=none->147->H' t=some (.tup [.ref R,.int ((m+3:Nat):Int),.bl (decide (300 < 617))])->H' R=some 620->bY K H' rs aa->163->Q (.ref t) H'
def og:aM ["_law_script","_law_many","_law_rules","_law_at"] ["_law_script"] (ax yc):=417
def Paired.ins {α β:Type}{F:α->β->Prop}{xs:List α}{ys:List β}(h:Paired F xs ys) (n:Nat){x:α}{y:β}(r:F x y):Paired F (xs.take n++x::xs.drop n) (ys.take n++y::ys.drop n):=by
 induction h generalizing n with
 | nil=>rw [List.take_nil,List.take_nil,List.drop_nil,List.drop_nil];exact .cons r .nil
 | cons a t ih =>
  cases n with
  | zero=>exact .cons r (.cons a t)
  | succ n=>exact .cons a (ih n)
def FD (F:jo K "_law_itself" "_law_itself" yc f fd)(T:Txt mg)(OB:aL P w K mg base 1 "_law_cell_at" ["_law_script","_law_k"] (xR K)):bO P w K mg base gb 2 f fd ["_law_script"] (zD K):=by
 refine F.ok og 420 472
 .obtain⟨a,ns,rfl,_⟩:=h;rfl
 obtain⟨a,ns,rfl,hS,hn,q⟩:=h;have hu:=fc hr;refine⟨_,aj (iC (aF (i:=1) og.nd rfl 68 (cu d6 aA (cu j5 (cu oy (bZ OB hr rfl (ae 72 (ae aA ao))) aA) aA))))
  (aj (j3 (iy:=2) ["_law_k"] [] og.nd rfl rfl rfl (pV rfl T.NB 556) 487 nofun rfl nofun
    (λ_ _ _ _ _=>az (i:=0) (show (["_law_k"]:z0t).Nodup by decide +kernel) rfl 68) 539 (λ_ _ _ _ _=>bG (ae lE (ae (bG (ae lE (ae (cu tG lE (bu wC rfl T.str AG 497)) ao))) ao))))
  (aj (aF (i:=3) og.nd rfl 68 (cu j5 (bZ OB hr rfl (ae 72 (ae aA ao))) (cu d6 102 aA)))
  (aj (cY (jj iN PySem.F.slot_list_insert PySem.F.type_list_insert FN (pv 2) (ae (pv 3) (ae (bG (ae lE (ae (bG (ae lE ao)) ao))) ao))))
  (av (bS (bG (ae (pv 2) (ae (cu d6 102 aA) (ae (ji zP (cu d6 (cu PK (cu d6 102 aA) (cu d6 102 aA)) aA) aA (cT _)) ao))))))))),?_⟩
 refine pY ?_;intro Dz;refine⟨λσ H'=>∃m:Nat,σ=[aZ a,some (.int (m:Int)),none,none]/\H=H'/\1<=m/\m<=23,?_,?_⟩
 .refine⟨_,rfl,a,ns,0,rfl,hS,∅,λc0 _=>⟨_,_,rfl,rfl,⟨nofun,nofun⟩,_,_,rfl,rfl,nofun,_,_,rfl,rfl,?_⟩⟩;obtain⟨m,em,m1,m2⟩:=tM (x:=10+c0 / 3 % 14) (lo:=1) (hi:=23) nofun ∅ ∅;exact⟨m,by rw [<-em];rfl,rfl,∅,∅⟩
 rintro _ _ ⟨m,rfl,rfl,m1,m2⟩;refine pY ?_;intro Dz;refine⟨_,rfl,(m:Int),rfl,∅,∅,λD hD=>?_⟩;rw [ku m];refine qB (n:=m) (λj ys σ2 H7=>(∃rs:z0q,ys=122/\bY K H7 rs ((List.range j).map wR))/\(∃y0,σ2=[y0])/\aD H H7/\H7 D=some (.lst ys)) ⟨⟨[],rfl,.nil⟩,⟨none,rfl⟩,ah hD _,af⟩ ?_ ?_
 .rintro j ys σ2 H7 hj ⟨⟨rs,rfl,TH⟩,⟨y0,rfl⟩,s7,e7⟩;refine goN (A7 ?_);refine⟨_,rfl,_,rfl,∅,∅,_,_,rfl,rfl,?_,qF,λt2 jl=>?_⟩
  .show ("w":Str).length+(Str.ofString (toString (0+124))).length<=sizeLine;rw [show (0+124)=124 by omega];have:=Ht (n:=j) ∅;exact fits (by show 1+_<=1000000;omega)
  have ew:("w":Str)++Str.ofString (toString (0+124))=ig j:=by rw [show (0+124)=124 by omega];rfl
  have s8:=ah jl 882;have e8:upd H7 t2 882 t2=some (.tup [.str 422,.str (ig j)]):=by rw [af,ew]
  generalize upd H7 t2 882=H8 at s8 e8;refine⟨qF,λt3 JI=>?_⟩;have s9:=ah JI 626;have e9:upd H8 t3 626 t3=some 626:=af;generalize upd H8 t3 626=H9 at s9 e9;have Pf:=s8.trans s9;have VN:=Pf _ _ e7;have RQ:=bf TH;rw [ay,iu] at RQ;have kp:∀b xs,aU K H9 b xs->aU K (upd H9 D (.lst (122++[.ref t3]))) b xs:=λb xs h=>bK VN h;refine⟨VN,507,⟨rs++[t3],by rw [aP];rfl,?_⟩,421,jE (s7.trans Pf) hD,af⟩;rw [rE,aP];exact ff ((TH.same Pf).keep kp) ⟨t2,kp _ _ (aU.of e9),kp _ _ (aU.of (s9 _ _ e8))⟩
 rintro ys σ2 H7 ⟨⟨rs,rfl,TH⟩,_,s7,e7⟩;refine pY ?_;intro Dz;refine⟨_,rfl,a,ns,1,rfl,s7.seq hS,∅,λc1 _=>⟨_,rfl,_,_,rfl,rfl,_,_,rfl,rfl,(by show (0:Int) < (m:Int)+1;omega),?_⟩⟩;obtain⟨n,en,n1,n2⟩:=tM (x:=c1 % ((m:Int)+1)) (lo:=0) (hi:=(m:Int)) nofun (Int.emod_nonneg _ ∅) (by have:=Int.emod_lt_of_pos c1 (show (0:Int) < (m:Int)+1 by omega);omega);have RQ:=bf TH;rw [ay,iu] at RQ;refine pY ?_;intro Dz;refine⟨_,rfl,.inl ⟨rfl,_,aX.of e7⟩,_,rfl,Lg,λt2 jl=>?_⟩;have s8:=ah jl (.tup [.str ("y":Str)]);have e8:upd H7 t2 (.tup [.str ("y":Str)]) t2=some (.tup [.str ("y":Str)]):=af;generalize upd H7 t2 (.tup [.str ("y":Str)])=H8 at s8 e8;refine⟨qF,λt3 JI=>?_⟩;have s9:=ah JI 626;have e9:upd H8 t3 626 t3=some 626:=af;generalize upd H8 t3 626=H9 at s9 e9;have Pf:=s8.trans s9;have VN:=Pf _ _ e7;refine⟨D,_,n,.ref t3,rfl,(by rw [<-en]),VN,by rw [ay];omega,by rw [ay];omega,?_⟩;have kp:∀b xs,aU K H9 b xs->aU K 887 b xs:=λb xs h=>bK VN h;have TJ:bY K 887 (rs.take n++t3::rs.drop n) (((List.range m).map wR).take n++yR::((List.range m).map wR).drop n):=Paired.ins ((TH.same Pf).keep kp) n ⟨t2,kp _ _ (aU.of e9),kp _ _ (aU.of (s9 _ _ e8))⟩;have uJ:aD H 887:=jE (s7.trans Pf) hD;have Dh:upd H9 D 825 D=some (.lst ((rs.take n++t3::rs.drop n).map V.ref)):=by rw [af,aP,List.map_take,bN,List.map_drop]
 generalize upd H9 D 825=vf at TJ uJ Dh;refine⟨_,rfl,_,rfl,_,_,rfl,rfl,_,rfl,_,_,rfl,rfl,_,rfl,_,_,rfl,rfl,_,_,rfl,rfl,(.inl ⟨∅,∅⟩),_,_,rfl,rfl,_,_,rfl,rfl,OF,λt ht=>?_⟩;have Fp:=ah ht (.tup [.ref D,.int ((m:Int)+3),.bl (decide ((300:Int) < ((m:Int)+1) * ((m:Int)+1)+1))]);refine q t D _ _ m _ hD (uJ.trans Fp) ?_ (Fp _ _ Dh) (TJ.same Fp) (It.of m1 m2);rw [af];have eb:decide ((300:Int) < ((m:Int)+1) * ((m:Int)+1)+1)=decide (300 < 617):=by
  rw [decide_eq_decide,show (((m:Int)+1) * ((m:Int)+1)+1)=((617:Nat):Int) by push_cast;rfl];omega
 rw [<-eb];rfl
end
end fC
namespace L2
open PySem PySem.Spec PyProof.Rows PySem.W PySem.Builtin PySem.Builtin.ObjectAttr
structure XG (K:Frag)(C:Addr):Prop where
 dict:hasDictIn K C=true
 ga:findIn K 127 "__getattribute__"=some (some (.builtin "BaseException.__getattribute__"))
 gt:findIn K 127 "__getattr__"=258
 be:mroIn K C (592)=some true
 ob:mroIn K C (557)=some true
 ca:findIn K 127 "__class__"=some (some (.builtin "object.__class__"))
 cg:specialIn K (.builtin "object.__class__") "__get__"=some (some (.builtin "getset_descriptor.__get__"))
 ct:takesIn K (.builtin "object.__class__")=some true
 me:kitCls K 127 127=some true
section
variable {prog:Program}{w:World}{A:Around}{E:z0b}{s:Shared}{K:Frag}{x C:Addr}{ox:Obj}{od:Option Obj}{name:Str}{v:Value}{tk:Tok}
def yY (prog:Program)(w:World)(s:Shared)(x:Addr)(name:Str)(tk:Tok)(v:Value):Prop :=
 ∀(A':Around)(E':z0b)(Q':Fin->146),Q' (.done (.ret v)) s->wpAny 140 A' (Builtin.«object.__getattribute__» ⟨[.ref x,.str name tk],[]⟩) Q' E' s
def J0 (X:K.In s.heap)(I:InstAt s.heap x ox C od)(hf:findObj K C od name=some (.bind (.builtin "getset_descriptor.__get__") (.builtin "object.__class__")))(hm:mroIn K C (557)=some true):yY prog w s x name tk 127:=by
 intro A' E' Q' q;obtain⟨h0,g0,d0,t0,os0⟩:=s;have b0:=I.type (M:=model prog w);have b1:=looks_find (M:=model prog w) X I hf;unfold Builtin.«object.__getattribute__»;refine au (aJ (au (aJ (au (b0.at (au (b1.at ?_)))))));show wpAny _ _ (holding [_] (call _ [_,_,_]) >>= ret) _ _ _;refine au (gr (gM (class_get X I hm ?_)));exact aJ q
set_option maxHeartbeats 400000 in
def SN {fill expr:Bool}{Q:z0b}(X:K.In s.heap)(G:XG K C)(I:InstAt s.heap x ox C od)(t:yY prog w s x name tk v)(hv:handedIn v=true)(q:Q v s) :
  wpAny 140 A (getAttrBy (.ref x) (.str name tk) fill expr) Q E s:=by
 obtain⟨h0,g0,d0,t0,os0⟩:=s;have b0:=I.type (M:=model prog w);have b1:=looks_findIn (M:=model prog w) X G.ga;have b2:=looks_findIn (M:=model prog w) X G.gt;have b3:Looks 140 h0 (isInstance (.ref x) (592)) true:=b0.andThen (looks_mroIn X G.be);have n0:(Value.builtin "BaseException.__getattribute__" == Value.builtin "object.__getattribute__")=false:=by decide +kernel
 have n1:(onTheHeap (Value.ref C) && Value.builtin "BaseException.__getattribute__" == Value.builtin "object.__getattribute__")=false:=by rw [n0,Bool.and_false]
 have n2:(expr && onTheHeap (Value.builtin "BaseException.__getattribute__"))=false:=by cases expr <;> rfl
 unfold getAttrBy;refine gr (au (b0.at (au (b1.at ?_))));show wpAny _ _ (if (onTheHeap (Value.ref C) && Value.builtin "BaseException.__getattribute__" == Value.builtin "object.__getattribute__")=true then _ else _) _ _ _;rw [aq (by rw [n1];exact fg)];unfold getAttrByItsOwn;refine au ?_;show wpAny _ _ (typeLookup 127 "__getattr__") _ _ _;refine b2.at ?_;refine au (jS (gr ?_));unfold callGetattribute;rw [aq (by rw [n2];exact fg)];unfold boundAndCalled;rw [PySem.F.attr_ValueError.ga.bind (.ref x)];refine au (aJ ?_);show wpAny _ _ (call _ _) _ _ _;refine gM ?_;show codeAny _ _ (.call (.builtin "BaseException.__getattribute__") ⟨[.ref x,.str name tk],[]⟩) _ _;refine pI PySem.F.attr_ValueError.ga.plain PySem.F.entry_bexc_ga ?_;refine @check_slot 140 _ _ ⟨h0,g0,d0,t0,os0⟩ "BaseException.__getattribute__" "BaseException" "__getattribute__" (.ref x) [.str name tk] [] _ nofun nofun b3 (PySem.F.args_bexc_ga _ _) ?_;refine t _ _ _ ?_;exact handed_on hv q
def OH {Q:z0j->146}(X:K.In s.heap)(G:XG K C)(I:InstAt s.heap x ox C od)(t:yY prog w 635 x name s.toks v)(hv:handedIn v=true)(q:Q (some v) 635) :
  wpAny 140 A (getAttr? (.ref x) name) Q E s:=by
 unfold getAttr? getAttrBy?;exact au (wpAny_mkText (au (jS (SN (s:=635) X G I t hv (aJ q)))))
end
section
variable {X:Cx}{ag:z0e}{σ:St}{H:Hp}{s:Shared}{ea C dx:Addr}{fs:501}
end
def Gh {K:Frag}{C:Addr}{cd:ClassData}{name:Str}{a g:Value}(hc:clsIn K C=some cd)(ha:findIn K 127 name=some (some a))(hg:specialIn K a "__get__"=some (some g))(ht:takesIn K a=some true):findObj K C none name=some (.bind g a):=by
 unfold findObj;simp [hc,ha,hg,ht]
def vZ {K:Frag}{x C:Addr}(G:XG K C):KitX K (.ref x) 127 (λh=>∃ox,InstAt h x ox C none) where
 ty:=λ_ _ _ ⟨_,I⟩=>I.type
 it:=λM h X _=>(kit_cls (M:=M) X G.me).2.1
 ne:=λh tp dd aT n sl X ZQ=>by
  obtain⟨cd,hc,_⟩:=any_some G.dict;cases e:(Value.ref C == .ref tp) with
  | false=>rfl
  | true =>
   exfalso;have e2:=Value.ref.inj (beq_iff_eq.mp e);rw [<-e2] at ZQ;unfold clsIn at hc
   split at hc
   .next ho=>rw [X _ _ ho] at ZQ;cases ZQ
   cases hc
 ca:=λ{prog w A E Q s} X ⟨ox,I⟩ k=>by
  obtain⟨cd,hc,_⟩:=any_some G.dict;exact OH X G I (J0 (s:=635) X I (Gh hc G.ca G.cg G.ct) G.ob) rfl k
section
variable {X:Cx}
def AE:gL X (.builtin "isinstance") (λxs H Q=>∃ea C c u b,xs=[.ref ea,c]/\H ea=some (oU ea 127 none)/\XG X.K C/\(∀u',RelV c u'->u'=u)/\kitOne X.K 127 u=some b/\Q (.bl b) H):=by
 intro ag s σ H xs us Q I r h;obtain⟨ea,C,c,u,b,rfl,xo,G,hc,e,q⟩:=h;obtain⟨u1,u2,rfl,r1,r2⟩:=vals2 r;cases hc _ r2;cases (show u1=Value.ref ea from r1);obtain⟨⟨oe,vs,e1,c1,d1,f1⟩,_⟩:=I.bI _ _ xo;have J:InstAt s.heap ea oe C none:=⟨e1,c1,by unfold notCls;rw [f1],by rw [d1];trivial⟩;exact kia_one (vZ G) I.uK ⟨oe,J⟩ e (λz=>nomatch z) λtk=>⟨.bl b,H,I.tok _,rfl,q⟩
theorem vA:∀{cs:z0q}{us:z0m},bq (cs.map V.ref) us->us=cs.map Value.ref
 | [],_,h=>by cases h;rfl
 | c::cs,_,h=>by
  cases h with | cons r t =>
  cases (show _=Value.ref c from r);rw [vA t];rfl
theorem z_ {K:Frag}{t:Value}:∀{cs:z0m},(∀c∈cs,kitOne K t c=some false)->kitAny K t cs=some false
 | [],_=>rfl
 | c::cs,h=>by
  rw [kitAny,h c a8];exact z_ λx hx=>h x (bA _ hx)
def Gx:gL X (.builtin "isinstance") (λxs H Q=>∃(ea C t:Addr)(cs:z0q),xs=[.ref ea,.ref t]/\H ea=some (oU ea 127 none)/\XG X.K C/\aU X.K H t (cs.map V.ref)/\(∀c∈cs,kitOne X.K 127 (.ref c)=some false)/\Q (.bl false) H):=by
 intro ag s σ H xs us Q I r h;obtain⟨ea,C,t,cs,rfl,xo,G,hs,e,q⟩:=h;obtain⟨u1,u2,rfl,r1,r2⟩:=vals2 r;cases (show u1=Value.ref ea from r1);cases (show u2=481 from r2);obtain⟨⟨oe,vs,e1,c1,d1,f1⟩,_⟩:=I.bI _ _ xo;have J:InstAt s.heap ea oe C none:=⟨e1,c1,by unfold notCls;rw [f1],by rw [d1];trivial⟩;obtain⟨aT,rv,⟨o,h1,h2,n,h3⟩,_⟩:=I.tuple hs;cases vA rv;obtain⟨oc,odd,oda,yp⟩:=o;cases h2;cases h3;exact kia_tup (vZ G) I.uK ⟨oe,J⟩ h1 (z_ λc hc=>by obtain⟨a,ha,rfl⟩:=a9.mp hc;exact e a ha) (λz=>nomatch z) λtk=>⟨.bl false,H,I.tok _,rfl,q⟩
end
section
variable {X:Cx}{W:Addr}{Cn n:Str}{j:Nat}{b₀:Stmt}{jF body:z0s}{tb:TS}{np hp pos:Pos}
def LN {SS:(St->XK)->TS}(oH:∀ag D,oW (ro X.prog X.w) 813 (Ek X.K W j tb D))
  (hb:∀ag D E,oW (ro X.prog X.w) 813 E->yX 813 body (SS E)) :
  PS X (.Try body [752] [] [] pos) (λD σ H=>SS (Ek X.K W j tb D) D σ H):=LO λag D=>hb ag D _ (oH ag D)
end
end L2
namespace fC
open PySem L2 M11 ST PySem.W
abbrev Pc:Stmt:=top 55
def GD:bootBuiltins "ValueError"=some (581):=by decide +kernel
def Wg (aa:56) (n:Nat)(b:Bool):Prop:=(∃c,Ap aa c/\n=c+2/\b=decide (120 < c+2))\/∃m,163/\n=m+3/\b=decide (300 < 617)
theorem Wg.one {aa:56}{n:Nat}{b:Bool}(h:Wg aa n b):jz aa:=by
 rcases h with ⟨c,h,_⟩ | ⟨m,h,_⟩
 .exact h.one
 exact h.one
theorem Wg.rooms {aa:56}{n:Nat}{b:Bool}(h:Wg aa n b)(bes:108):∃ij:70->Prop,ij (aN aa)/\Ng aa [] bes ij/\(b=false->∃S,dM aa 499=some S/\S.iU.length=n/\S.il.length+1=n)/\(b=true->dM aa 499=none):=by
 rcases h with ⟨c,h,rfl,rfl⟩ | ⟨m,h,rfl,rfl⟩
 .exact⟨Oz aa,.inl rfl,h.PX,λe=>h.rooms.1 (by have:=of_decide_eq_false e;omega),λe=>h.rooms.2 (dJ e)⟩
 exact⟨Rw aa bes m,.inl rfl,h.PX,λe=>h.rooms.1 (by have:=of_decide_eq_false e;omega),λe=>h.rooms.2 (dJ e)⟩
def Rt (K:Frag)(CT:Addr) (n:Nat)(b:Bool)(H:Hp)(v4 v5:V):Prop:=(b=true/\∃ea,v4=.ref ea/\H ea=some (oU ea (.ref CT) none))\/(b=false/\v4=.gF/\∃t Ra Sa us vs,v5=.ref t/\H t=some (.tup [.ref Ra,.ref Sa])/\H Ra=some (.lst us)/\us.length=n/\H Sa=some (.lst vs)/\vs.length+1=n)
section
def Rv (K:aY)(mg:z0c)(C:Addr)(x:Str):Prop:=∃a:Addr,mg x=some 475/\kitOne K 127 475=some false
structure Ry (K:aY)(mg:z0c)(C W:Addr):Prop where
 o1:Rv K mg C "NoRow"
 o2:Rv K mg C "NoRules"
 o3:Rv K mg C "Loop"
 o4:Rv K mg C "Unmet"
 o5:Rv K mg C "Endless"
 o6:Rv K mg C "Vast"
 mC:mg "TooMany"=some 127
 mW:mg "WrightError"=some (.ref W)
 mV:mg "ValueError"=none
 xg:XG K C
 kV:kitOne K 127 (581)=some true
 xm:exmOne K 127 (.ref W)=some true
def DR (K:aY)(T1 T2 T3:Addr):Sp:=λvs H Q _=>∃(a:Addr)(ns:z0u),vs=[91]/\aX K H a (ns.map V.int)/\ns.length<=63/\E6 T1 T2 T3 H/\∀H',Q (.bl true) H'
def ky:aM ["_law_script","_law_rules","_law_count","_law_many","_law_told","_law_found","e"] ["_law_script"] (ax Pc):=417
def PV {C Cg T1 T2 T3 CT W fG fR:Addr}{fdG fdR:FuncData}(F:jo K "law" "law" Pc f fd)(T:Txt mg)(L:Ry K mg CT W)(OB:aL P w K mg base 8 "_law_cell_at" ["_law_script","_law_k"] (xR K))(GA:aL P w K mg base 8 "_law_apart" ["_law_script"] (DW K))(GI:aL P w K mg base 8 "_law_itself" ["_law_script"] (zD K))
  (G:GC K Cg)(MG:Mk K Cg fG)(FG:bO P w K mg base gb 7 fG fdG ["self","rules","strengths"] (DT K Cg C T1 T2 T3))(B1:Binds K fdG ["self","rules","strengths"] [.none])(mG:mg "Grammar"=some (.ref Cg))
  (FR:bO P w K mg base (ro P w) 8 fR fdR ["grammar"] (DP K C Cg CT))(mR:mg "rooms_of"=some (.ref fR))(kR:keepIn K (.ref fR)=true)(BR:Binds K fdR ["grammar"] []):bO P w K mg base gb 9 f fd ["_law_script"] (DR K T1 T2 T3):=by
 obtain⟨a1,m1,k1⟩:=L.o1;obtain⟨a2,m2,k2⟩:=L.o2;obtain⟨a3,m3,k3⟩:=L.o3;obtain⟨a4,m4,k4⟩:=L.o4;obtain⟨a5,m5,k5⟩:=L.o5;obtain⟨a6,m6,k6⟩:=L.o6;refine F.ok ky 420 472
 .obtain⟨a,ns,rfl,_⟩:=h;rfl
 obtain⟨a,ns,rfl,hS,hl,hT,q⟩:=h;refine⟨_,aj (Iw (bZ GA hr rfl 497) (jh (n:=3) K rfl (aH (az (i:=1) ky.nd rfl 68) (aH (az (i:=2) ky.nd rfl 68) (aH (az (i:=3) ky.nd rfl 68) cI)))))
  (aj (iC (dq (cS oz (cu j5 (bZ OB hr rfl (ae 72 (ae aA ao))) aA) aA (cT _))
   (av (Iw (bZ GI hr rfl 497) (jh (n:=3) K rfl (aH (az (i:=1) ky.nd rfl 68) (aH (az (i:=2) ky.nd rfl 68) (aH (az (i:=3) ky.nd rfl 68) cI)))))) bL))
  (aj (aF (i:=4) ky.nd rfl 68 yl)
  (aj (aF (i:=5) ky.nd rfl 68 yl)
  (aj (iC (LN (j:=6) (λ_ _=>TY rfl rfl ky.nd rfl L.mW rfl rfl (λea=>av (aF (i:=4) ky.nd rfl 68 (pv 6))))
   (λag D E hx=>av (aF (i:=5) ky.nd rfl 68 (IK (dvs:=[]) FR hr rfl mR kR BR .nil hx (ae (ym (dvs:=[.gF]) MG FG hr rfl mG B1 (.cons rfl .nil) mq 556) ao))))))
  (aj (dq (lC (pv 3))
   (aj (dq (PW.pt (ND (Cm (lC (bo AE rfl T.ZK Bt (ae (pv 4) (ae (gW (v:=.ref CT) rfl L.mC rfl) ao))))) (Il (Cm (lC (bo AE rfl T.ZK Bt (ae (pv 4) (ae (LW (v:=.ty "ValueError") rfl L.mV GD rfl) ao)))))))) (av (bS h_)) bL)
   (av (bS (PD (bo Gx rfl T.ZK Bt (ae (pv 4) (ae (bG (ae (gW (v:=.ref a1) rfl m1 rfl) (ae (gW (v:=.ref a2) rfl m2 rfl) (ae (gW (v:=.ref a3) rfl m3 rfl) (ae (gW (v:=.ref a4) rfl m4 rfl) (ae (gW (v:=.ref a5) rfl m5 rfl) (ae (gW (v:=.ref a6) rfl m6 rfl) ao))))))) ao))))))) bL)
  (av (bS (IL (ji PL (pv 4) yl (cT _)) (IL (ji oz (bo bC rfl T.len gI (ae (bF bH (pv 5) aA 109) ao)) (pv 2) (cT _)) (PB (ji oz (bo bC rfl T.len gI (ae (bF bH (pv 5) aA 109) ao)) (cu IW (pv 2) aA) (cT _)))))))))))),?_⟩
 refine pY ?_;intro Dz;refine⟨_,rfl,a,ns,rfl,hS,hl,λt R rs aa c H1 fR s1 et eR rl ap=>?_⟩;refine⟨t,_,rfl,aU.of et,rfl,_,_,rfl,_,_,rfl,_,_,rfl,rfl,?_⟩;refine⟨λσ H'=>∃(R:Addr)(rs:z0q)(aa:56) (n:Nat)(b:Bool),σ=[aZ a,aZ R,some (.int (n:Int)),some (.bl b),none,none,none]/\147/\H' R=some 620/\bY K H' rs aa/\Wg aa n b,?_,?_⟩
 .refine⟨_,rfl,a,ns,0,rfl,s1.seq hS,∅,λc0 _=>⟨_,_,rfl,rfl,nofun,rfl,_,rfl,?_⟩⟩;refine fO (λ_=>?_) (λ_=>?_)
  .refine⟨_,rfl,a,ns,rfl,s1.seq hS,hl,λt2 R2 rs2 Pm m H2 fR2 s2 et2 Rb rl2 it=>?_⟩;exact⟨t2,_,rfl,aU.of et2,rfl,_,_,rfl,_,_,rfl,_,_,rfl,rfl,R2,rs2,Pm,m+3,_,rfl,s1.trans s2,Rb,rl2,.inr ⟨m,it,rfl,rfl⟩⟩
  exact⟨R,rs,aa,c+2,_,rfl,s1,eR,rl,.inl ⟨c,ap,rfl,rfl⟩⟩
 clear s1 et eR rl ap fR;rintro _ H2 ⟨R,rs,aa,n,b,rfl,s2,eR,rl,st⟩;have on:=st.one;have t2:=hT.same s2;refine⟨λσ H9=>∃v4 v5:V,σ=[aZ a,aZ R,some (.int (n:Int)),some (.bl b),some v4,some v5,none]/\Rt K CT n b H9 v4 v5,?_,?_⟩
 .refine⟨_,rfl,λg x hg hx nx=>?_⟩;have G_:=on.G_;refine⟨H2,g,x,R,.gF,rs,[],aa,[],_,_,rfl,(ah hx _).trans (ah (by rw [ai nx.symm];exact hg) _),hg,af,aX.of eR,rl,∅,on.l8,on.ne,.inl ⟨rfl,rfl,rfl⟩,58,λru h=>(by cases h),58,on.good,t2,λbt H5 s5 t5 gv btv=>⟨rfl,?_⟩⟩;have kp5:=Kp.of3 s5 t2;have RK:=kp5.aa rl;obtain⟨aC,bes,bv⟩:=btv;obtain rfl:=on.noE bv.emp;have lb:=on.aao bv.Ol bv.Ol.nd;obtain⟨ij,o0,oc,r1,r2⟩:=st.rooms bes;refine⟨g,aa,[],bes,ij,rfl,⟨_,rs,[],bt,gv,RK,bv⟩,on.gok lb,o0,oc,λt Ra Sa us vs S H6 er s6 et eRa pR eSa pS ne f1 f2=>?_,λH6 ea er s6 ee=>⟨L.xm,λea he=>?_⟩⟩
  .cases b with
   | true=>rw [r2 rfl] at er;cases er
   | false =>
    obtain⟨S2,e2,l1,l2⟩:=r1 rfl;rw [e2] at er;cases er;exact⟨_,_,rfl,.inr ⟨rfl,rfl,t,Ra,Sa,_,_,rfl,et,eRa,by rw [ay,bf pR,l1],eSa,by rw [ay,bf pS,l2]⟩⟩
  cases b with
  | false =>
   obtain⟨S2,e2,l1,l2⟩:=r1 rfl;rw [e2] at er;cases er
  | true=>exact⟨_,rfl,421,_,_,rfl,.inl ⟨rfl,ea,rfl,he⟩⟩
 rintro _ H9 ⟨v4,v5,rfl,to⟩;rcases to with ⟨rfl,ea,rfl,he⟩ | ⟨rfl,rfl,t,Ra,Sa,us,vs,rfl,et,eRa,lu,eSa,lv⟩
 .refine⟨_,rfl,true,rfl,?_⟩;refine tR ?_;refine⟨_,rfl,ea,CT,.ref CT,.ref CT,true,rfl,he,L.xg,λ_ h=>h,JB,true,rfl,?_⟩;refine kI ?_;refine⟨_,rfl,ea,CT,.ty "ValueError",581,true,rfl,he,L.xg,λ_ h=>h,L.kV,true,rfl,?_⟩;refine kI ?_;refine⟨_,rfl,zl6,λt6 ht6=>?_⟩;refine⟨ea,CT,t6,[a1,a2,a3,a4,a5,a6],rfl,ah ht6 _ _ _ he,L.xg,aU.of af,?_,false,rfl,q _⟩;intro c hc;simp only [a_,List.not_mem_nil,or_false] at hc;rcases hc with rfl | rfl | rfl | rfl | rfl | rfl <;> assumption
 refine⟨_,rfl,false,rfl,?_⟩;refine kI ?_;refine⟨_,rfl,rfl,true,rfl,?_⟩;refine tR ?_;refine⟨_,rfl,t,_,_,.ref Ra,rfl,rfl,aU.of et,rfl,Ra,_,rfl,.inl (aX.of eRa),_,rfl,rfl,?_⟩;rw [dS (show V.int (us.length:Int)=V.int (n:Int) by rw [lu])];refine⟨_,rfl,tR ?_⟩;refine⟨_,rfl,t,_,_,.ref Sa,rfl,rfl,aU.of et,rfl,Sa,_,rfl,.inl (aX.of eSa),_,rfl,_,_,rfl,rfl,rfl,?_⟩;rw [dS (show V.int (vs.length:Int)=V.int ((n:Int) - 1) by rw [show ((n:Int) - 1)=(vs.length:Int) by omega])];exact q _
end
open PySem L2 M11 PySem.W
def SI (K:Frag)(C W:Addr):Prop:=892/\889 /\
 890
def E9 (K:Frag)(C:Addr)(x:Str):Prop:=∃a:Addr,nsIn K mainGlobals x=some (some 475)/\kitOne K 127 475=some false
section
variable {K:Frag}{nm:Str}{C W:Addr}{mg:z0c}{h:Heap}
def eqT (a:892)
 (b:889)
 (c:890):SI K C W:=⟨a,b,c⟩
def E9.o (e:E9 K C nm)(X:K.In h)(G:h.Ns mainGlobals mg):Rv K mg C nm:=by
 obtain⟨a,e1,e2⟩:=e;exact⟨a,mg_of X G e1,e2⟩
def SI.n0 (e:SI K C W):zm K C Kn "ValueError.__new__"=true/\keepIn K 127=true:=by
 obtain⟨a,b,c⟩:=e;simp only [jT] at a;exact⟨a.2.1,a.2.2.1⟩
def SI.lx (e:SI K C W)(o1:E9 K C "NoRow")(o2:E9 K C "NoRules")(o3:E9 K C "Loop")(o4:E9 K C "Unmet")(o5:E9 K C "Endless")(o6:E9 K C "Vast")(X:K.In h)(G:h.Ns mainGlobals mg):Ry K mg C W:=by
 obtain⟨a,b,c⟩:=e;simp only [jT] at a b c;exact⟨o1.o X G,o2.o X G,o3.o X G,o4.o X G,o5.o X G,o6.o X G,mg_of X G a.1,mg_of X G c.1,mg_none_of X G c.2.1,⟨a.2.2.2.2.1,b.1,b.2.1,b.2.2.1,b.2.2.2.1,b.2.2.2.2.1,c.2.2.1,c.2.2.2,b.2.2.2.2.2⟩,a.2.2.2.2.2,a.2.2.2.1⟩
end
end fC
namespace L2
open PySem
def vD {C:z0m->Prop}(h:∀a,C [a]):∀us:z0m,us.length=1->C us
 | [a],_=>h a
def qS {C:z0m->Prop}(h:∀a b,C [a,b]):∀us:z0m,us.length=2->C us
 | [a,b],_=>h a b
def ON {C:z0m->Prop}(h:∀a b c,C [a,b,c]):∀us:z0m,us.length=3->C us
 | [a,b,c],_=>h a b c
def f_ (K:aY)(x:Str)(st:Stmt):Prop:=∃(g:Addr)(oc:Value)(od an:z0l)(sl:z0a)(kV dc pm cd ct:Value),PySem.W.nsIn K mainGlobals x=some (some (.ref g)) /\
 K.lookup g=some ⟨oc,od,.func (PySem.W.fnOf x x (cZ st) (b9 st) (ax st) .none kV dc pm an cd ct),sl⟩/\PySem.W.codeIn K cd x=true/\PySem.W.keepIn K (.ref g)=true
def f_.get {K:aY}{h:Heap}{mg:z0c}{x:Str}{st:Stmt}(X:K.In h)(G:h.Ns mainGlobals mg)(H:f_ K x st):∃g gd,jo K x x st g gd/\mg x=some (.ref g):=by
 obtain⟨g,oc,od,an,sl,kV,dc,pm,cd,ct,a,l,c,k⟩:=H;exact⟨g,_,Kb (st:=st) l c k,kS X G a⟩
def G1 (K:aY)(x:Str)(st:Stmt)(T:Addr):Prop:=∃(g:Addr)(oc:Value)(od an:z0l)(sl:z0a)(kV dc pm:Value)(c:Addr)(ct:Value),PySem.W.nsIn K mainGlobals x=some (some (.ref g)) /\
 K.lookup g=some ⟨oc,od,.func (PySem.W.fnOf x x (cZ st) (b9 st) (ax st) .none kV dc pm an (.ref c) ct),sl⟩/\PySem.W.codeIn K (.ref c) x=true/\PySem.W.codeHdIn K c T=true/\PySem.W.keepIn K (.ref g)=true
def G1.get {K:aY}{h:Heap}{mg:z0c}{x:Str}{st:Stmt}{T:Addr}(X:K.In h)(G:h.Ns mainGlobals mg)(H:G1 K x st T):∃g gd,AW K x x st g gd T/\mg x=some (.ref g):=by
 obtain⟨g,oc,od,an,sl,kV,dc,pm,c,ct,a,l,d,e,k⟩:=H;exact⟨g,_,⟨⟨oc,od,kV,dc,pm,an,c,ct,sl,rfl,l,d,e⟩,k⟩,kS X G a⟩
def AW.binds {K:aY}{x qual:Str}{st:Stmt}{f T:Addr}{fd:FuncData}{ps:z0t}(F:AW K x qual st f fd T)
  (h:894):Binds K fd ps []:=by
 obtain⟨oc,od,kV,doc,pm,an,c,ct,yp,rfl,lk,wc,_⟩:=F.ex;exact .all (h kV doc pm an (.ref c) ct)
def ve (K:aY)(C:Addr)(m qual:Str)(st:Stmt):Prop:=∃(g:Addr)(oc:Value)(od an:z0l)(sl:z0a)(kV dc pm cd ct:Value),PySem.W.findIn K 127 m=some (some (.ref g)) /\
 K.lookup g=some ⟨oc,od,.func (PySem.W.fnOf m qual (cZ st) (b9 st) (ax st) .none kV dc pm an cd ct),sl⟩/\PySem.W.codeIn K cd qual=true/\PySem.W.keepIn K (.ref g)=true/\PySem.W.isFn K (.ref g)=true
def ve.get {K:aY}{C:Addr}{m qual:Str}{st:Stmt}(H:ve K C m qual st):∃g gd,jo K m qual st g gd/\Meth K C m g:=by
 obtain⟨g,oc,od,an,sl,kV,dc,pm,cd,ct,a,l,c,k,i⟩:=H;exact⟨g,_,Kb (st:=st) l c k,⟨a,i,k⟩⟩
def f_.c {K:aY}{h:Heap}{mg:z0c}{x:Str}{st:Stmt}{P:Program}{w:World}{base:Heap}{k:Nat}{ps:z0t}{sp:Sp}(H:f_ K x st)(X:K.In h)(G:h.Ns mainGlobals mg)
  (b:∀(kV doc pm:Value)(an:z0l)(eC ct:Value)(us:z0m),us.length=ps.length->bindArgs (PySem.W.fnOf x x (cZ st) (b9 st) (ax st) .none kV doc pm an eC ct) ⟨us,[]⟩=pure (ps.zip us))
  (o:∀{f:Addr}{fd:FuncData},jo K x x st f fd->mg x=some (.ref f)->Binds K fd ps []->bO P w K mg base gb k f fd ps sp):aL P w K mg base k x ps sp:=by
 obtain⟨f,fd,F,m⟩:=H.get X G;have B:=F.binds b;exact⟨f,fd,o F m B,B,F.kp,m⟩
def hD {K:aY}{x:Str}{st:Stmt}(g c:Addr)(pm:Value)(h:(PySem.W.nsIn K mainGlobals x,K.lookup g,PySem.W.codeIn K (.ref c) x,PySem.W.keepIn K (.ref g))=(some (some (.ref g)),some ⟨.type "function",none,.func (PySem.W.fnOf x x (cZ st) (b9 st) (ax st) .none .none .none pm none (.ref c) .none),#[]⟩,true,true)):f_ K x st:=by
 simp only [jT] at h;exact⟨g,_,_,_,_,_,_,_,_,_,h.1,h.2.1,h.2.2.1,h.2.2.2⟩
def hC {K:aY}{x:Str}{st:Stmt}{T:Addr}(g c:Addr)(pm:Value)(h:(PySem.W.nsIn K mainGlobals x,K.lookup g,PySem.W.codeIn K (.ref c) x,PySem.W.codeHdIn K c T,PySem.W.keepIn K (.ref g))=(some (some (.ref g)),some ⟨.type "function",none,.func (PySem.W.fnOf x x (cZ st) (b9 st) (ax st) .none .none .none pm none (.ref c) .none),#[]⟩,true,true,true)):G1 K x st T:=by
 simp only [jT] at h;exact⟨g,_,_,_,_,_,_,_,c,_,h.1,h.2.1,h.2.2.1,h.2.2.2.1,h.2.2.2.2⟩
def hM {K:aY}{C:Addr}{m qual:Str}{st:Stmt}(g c:Addr)(pm:Value)(h:(PySem.W.findIn K 127 m,K.lookup g,PySem.W.codeIn K (.ref c) qual,PySem.W.keepIn K (.ref g),PySem.W.isFn K (.ref g))=(some (some (.ref g)),some ⟨.type "function",none,.func (PySem.W.fnOf m qual (cZ st) (b9 st) (ax st) .none .none .none pm none (.ref c) .none),#[]⟩,true,true,true)):ve K C m qual st:=by
 simp only [jT] at h;exact⟨g,_,_,_,_,_,_,_,_,_,h.1,h.2.1,h.2.2.1,h.2.2.2.1,h.2.2.2.2⟩
end L2
namespace fC
open PySem L2 ST M11
def Rz (K:aY)(C:Addr)(m qual:Str)(st:Stmt):Prop:=∃(g:Addr)(oc:Value)(od an:z0l)(sl:z0a)(kV dc pm cd ct:Value)(T:Addr)(o:Obj) (n:Nat),PySem.W.findIn K 127 m=some (some (.ref g)) /\
 K.lookup g=some ⟨oc,od,.func (PySem.W.fnOf m qual (cZ st) (b9 st) (ax st) (.ref T) kV dc pm an cd ct),sl⟩/\PySem.W.codeIn K cd qual=true/\K.lookup T=65/\o.data=.seq #[.none] n/\PySem.W.keepIn K (.ref g)=true/\PySem.W.isFn K (.ref g)=true
def Rz.get {K:aY}{C:Addr}{m qual:Str}{st:Stmt}(H:Rz K C m qual st):∃g gd,KL K m qual st g gd/\PySem.W.findIn K 127 m=some (some (.ref g))/\PySem.W.isFn K (.ref g)=true:=by
 obtain⟨g,oc,od,an,sl,kV,dc,pm,cd,ct,T,o,n,a,l,c,t,d,k,i⟩:=H;exact⟨g,_,⟨⟨oc,od,kV,dc,pm,an,cd,ct,sl,T,o,n,rfl,l,c,t,d⟩,k⟩,a,i⟩
structure Top (K:aY)(C Cg C3 T1 T2 T3 CT W:Addr)(tm tr tq:Tok):Prop where
 xT:SI K CT W
 ot1:E9 K CT "NoRow"
 ot2:E9 K CT "NoRules"
 ot3:E9 K CT "Loop"
 ot4:E9 K CT "Unmet"
 ot5:E9 K CT "Endless"
 ot6:E9 K CT "Vast"
 nMR:PySem.W.nsIn K mainGlobals "MOST_ROOMS"=some (some (.int 120 tr))
 nMP:PySem.W.nsIn K mainGlobals "MOST_PLACES"=some (some (.int 300 tq))
 mB4:ve K C "first_words" "BeginTable.first_words" yf
 mB5:ve K C "all_empty" "BeginTable.all_empty" Ie
 mG2:ve K Cg "start" "Grammar.start" B4
 hPO:f_ K "parts_of" sU
 hPA:f_ K "part_at" yb
 hTB:f_ K "texts_behind" yh
 hCL:f_ K "closed_list" yg
 hMV:f_ K "moved_by_part" B6
 hCR:f_ K "closed_room" B_
 hRM:f_ K "rooms_of" x8
 nB:PySem.W.nsIn K mainGlobals "BeginTable"=some (some 127)
 nG:PySem.W.nsIn K mainGlobals "Grammar"=some (some (.ref Cg))
 nL:PySem.W.nsIn K mainGlobals "LeastTrees"=some (some (.ref C3))
 nM:PySem.W.nsIn K mainGlobals "MOST_RULES"=some (some (.int 60 tm))
 jW:PySem.W.nsIn K mainGlobals "sorted"=258
 h0:f_ K "heads_of" B9
 h1:f_ K "numbers_by_name" HZ
 h2:f_ K "standings_by_part" Pa
 h3:f_ K "rule_size" pQ
 h4:f_ K "empty_by_name" sW
 h5:f_ K "words_in" BY
 h6:f_ K "found_empties" sX
 h7:f_ K "first_places" x_
 h8:f_ K "way_back" O_
 h9:f_ K "steps_with_like_rows" B0
 h10:f_ K "find_loop" H_
 h11:f_ K "refuse_twice" BZ
 h12:f_ K "names_met" Pb
 h13:f_ K "_law_cell_at" Ic
 h14:f_ K "_law_apart" Cb
 h15:f_ K "_law_itself" yc
 aac:f_ K "law" Pc
 ZV:f_ K "settled_sizes" oj
 Z1:f_ K "refuse_faults" x9
 hL:G1 K "least_sizes" sV T1
 hG:G1 K "greatest_empty_sizes" yd T2
 hLB:G1 K "least_by_part" om T3
 mL1:ve K C3 "__init__" "LeastTrees.__init__" B7
 mB1:ve K C "__init__" "BeginTable.__init__" Ca
 mB2:ve K C "find_begins" "BeginTable.find_begins" Ib
 mB3:ve K C "words_of_part" "BeginTable.words_of_part" B5
 mG1:Rz K Cg "__init__" "Grammar.__init__" ye
 pgB:PySem.W.plainGet K C Str.empty=true
 hdB:PySem.W.hasDictIn K C=true
 poB:PySem.W.plainOver K C=true
 saB:877
 mkB:PySem.W.makesIn K C=true
 kpB:PySem.W.keepIn K 127=true
 pgG:PySem.W.plainGet K Cg Str.empty=true
 hdG:PySem.W.hasDictIn K Cg=true
 poG:PySem.W.plainOver K Cg=true
 saG:PySem.W.findIn K (.ref Cg) "__setattr__"=some (some (.builtin "object.__setattr__"))
 mkG:PySem.W.makesIn K Cg=true
 kpG:PySem.W.keepIn K (.ref Cg)=true
 pgL:PySem.W.plainGet K C3 Str.empty=true
 hdL:PySem.W.hasDictIn K C3=true
 poL:PySem.W.plainOver K C3=true
 saL:PySem.W.findIn K (.ref C3) "__setattr__"=some (some (.builtin "object.__setattr__"))
 mkL:PySem.W.makesIn K C3=true
 kpL:PySem.W.keepIn K (.ref C3)=true
 Dr:PySem.W.findIn K 127 "empties"=258
 Kx:PySem.W.findIn K 127 "empty"=258
 GY:PySem.W.findIn K 127 "begins"=258
 GX:PySem.W.findIn K 127 "firsts"=258
 Kt:PySem.W.findIn K (.ref C3) "rules"=258
 Kv:PySem.W.findIn K (.ref C3) "empty"=258
 Ku:PySem.W.findIn K (.ref C3) "least"=258
 GV:PySem.W.findIn K (.ref C3) "hollow"=258
 u_:PySem.W.findIn K (.ref C3) "beginnings"=258
 Kw:PySem.W.findIn K (.ref Cg) "rules"=258
 yT:PySem.W.findIn K (.ref Cg) "strengths"=258
 uC:PySem.W.findIn K (.ref Cg) "begin_table"=258
 yU:PySem.W.findIn K (.ref Cg) "standings"=258
 uB:PySem.W.findIn K (.ref Cg) "small_trees"=258
 XY:PySem.W.nsIn K mainGlobals "len"=258
 OE:PySem.W.nsIn K mainGlobals "range"=258
 zi:PySem.W.nsIn K mainGlobals "isinstance"=258
 OD:PySem.W.nsIn K mainGlobals "tuple"=258
 SJ:PySem.W.nsIn K mainGlobals "list"=258
 SK:PySem.W.nsIn K mainGlobals "dict"=258
 X1:PySem.W.nsIn K mainGlobals "all"=258
 X0:PySem.W.nsIn K mainGlobals "any"=258
 XU:PySem.W.nsIn K mainGlobals "str"=258
 XZ:PySem.W.nsIn K mainGlobals "int"=258
 SM:PySem.W.nsIn K mainGlobals "bool"=258
 Bv:PySem.W.nsIn K mainGlobals "enumerate"=258
 XT:PySem.W.nsIn K mainGlobals "sum"=258
 XX:PySem.W.nsIn K mainGlobals "max"=258
 XW:PySem.W.nsIn K mainGlobals "min"=258
def all_mk {l:PySem.W.OpenLaw}{w:World}{K:aY}{h:Heap}{mg:z0c}{fa C Cg C3 T1 T2 T3 CT W:Addr}{tm tr tq:Tok}(X:K.In h)(G:h.Ns mainGlobals mg)(hfa:mg "law"=some (.ref fa))(tp:Top K C Cg C3 T1 T2 T3 CT W tm tr tq) :
  ∃fd:FuncData,(∀(s:Shared)(v:Value),BindsTo s fd ⟨[v],[]⟩ [("_law_script",v)])/\∀base:Heap,K.In base->base.Ns mainGlobals mg->uH mg base->bO l.prog w K mg base gb 9 fa fd ["_law_script"] (DR K T1 T2 T3):=by
 have T:Txt mg:=⟨gJ X G tp.XY,gJ X G tp.OE,gJ X G tp.zi,gJ X G tp.OD,gJ X G tp.SJ,gJ X G tp.SK,gJ X G tp.X1,gJ X G tp.X0,gJ X G tp.XU,gJ X G tp.XZ,gJ X G tp.SM,gJ X G tp.Bv,gJ X G tp.XT,gJ X G tp.XX,gJ X G tp.XW⟩;obtain⟨Oc,Oh,AX,NM⟩:=tp.ZV.get X G;have Oo:=AX.binds (ps:=719) 848
 obtain⟨Vw,VO,KN,Uk⟩:=tp.Z1.get X G;have VX:=KN.binds (ps:=["rules","strengths"]) 604
 obtain⟨f_L,d_L,F_L,m_L⟩:=tp.hL.get X G;have b_L:=F_L.binds (ps:=159) 576
 obtain⟨f_G,d_G,F_G,m_G⟩:=tp.hG.get X G;have b_G:=F_G.binds (ps:=159) 576
 obtain⟨aap,aaz,RB,Zk⟩:=tp.hLB.get X G;have aaJ:=RB.binds (ps:=159) 576
 obtain⟨aat,abr,WB,Uo⟩:=tp.mB1.get;have aaQ:=WB.binds (ps:=["self","rules"]) 604
 obtain⟨abh,abq,WA,Zq⟩:=tp.mB2.get;have aaP:=WA.binds (ps:=["self","number","rule"]) 848
 obtain⟨abg,abp,Wz,Um⟩:=tp.mB3.get;have VY:=Wz.binds (ps:=["self","part"]) 604
 obtain⟨aaq,abk,Wu,Ul⟩:=tp.mL1.get;have aaK:=Wu.binds (ps:=["self","rules","begin_table"]) 848
 obtain⟨aar,abm,Ww,Zm,ZL⟩:=tp.mG1.get;have cB:BC K C:=⟨⟨tp.pgB,tp.hdB,tp.poB,tp.saB⟩,tp.Dr,tp.Kx,tp.GY,tp.GX⟩;have cG:GC K Cg:=⟨⟨tp.pgG,tp.hdG,tp.poG,tp.saG⟩,tp.Kw,tp.yT,tp.uC,tp.yU,tp.uB⟩;have cL:LC K C3:=⟨⟨tp.pgL,tp.hdL,tp.poL,tp.saL⟩,tp.Kt,tp.Kv,tp.Ku,tp.GV,tp.u_⟩;have kL:Mk K C3 aaq:=⟨tp.mkL,Ul.at_,Ul.fn,tp.kpL⟩;have kB:Mk K C aat:=⟨tp.mkB,Uo.at_,Uo.fn,tp.kpB⟩;have kG:Mk K Cg aar:=⟨tp.mkG,Zm,ZL,tp.kpG⟩;obtain⟨f9,d9,F9,m9⟩:=tp.aac.get X G;have e:=hfa.symm.trans m9;cases e;obtain⟨oc,od,kV,doc,pm,an,eC,ct,yp,eL,lk,wc⟩:=F9.ex;refine⟨d9,λs v=>?_,λbase _ _ Vr=>?_⟩
 .rw [eL];exact .of_eq rfl
 have c0:=tp.h0.c (P:=l.prog) (w:=w) (base:=base) X G 653 λF m B=>Je F T;have c1:=tp.h1.c (P:=l.prog) (w:=w) (base:=base) X G 653 λF m B=>LY F T c0;have c2:=tp.h2.c (P:=l.prog) (w:=w) (base:=base) X G 653 λF m B=>PR F T;have c3:=tp.h3.c (P:=l.prog) (w:=w) (base:=base) X G 735 λF m B=>zQ F T;have c4:=tp.h4.c (P:=l.prog) (w:=w) (base:=base) X G 735 λF m B=>CA F T;have c5:=tp.h5.c (P:=l.prog) (w:=w) (base:=base) X G 653 λF m B=>IX F T;have c6:=tp.h6.c (P:=l.prog) (w:=w) (base:=base) X G 653 λF m B=>CB F T;have c7:=tp.h7.c (P:=l.prog) (w:=w) (base:=base) X G 735 λF m B=>Fz F T;have c8:=tp.h8.c (P:=l.prog) (w:=w) (base:=base) X G (848) λF m B=>PQ F T;have c9:=tp.h9.c (P:=l.prog) (w:=w) (base:=base) X G 653 λF m B=>IZ F T c6 c0;have c10:=tp.h10.c (P:=l.prog) (w:=w) (base:=base) X G 653 λF m B=>LZ F T c9 c8;have c11:=tp.h11.c (P:=l.prog) (w:=w) (base:=base) X G 653 λF m B=>IY F T;have c12:=tp.h12.c (P:=l.prog) (w:=w) (base:=base) X G 653 λF m B=>PU F T;have K_:=tp.h13.c (P:=l.prog) (w:=w) (base:=base) X G 735 λF m B=>L_ F T;have c14:=tp.h14.c (P:=l.prog) (w:=w) (base:=base) X G 653 λF m B=>Jk F T (K_.mono nofun);have c15:=tp.h15.c (P:=l.prog) (w:=w) (base:=base) X G 653 λF m B=>FD F T (K_.mono nofun);have aaB:aL l.prog w K mg base 2 "settled_sizes" 719 (iS K A3 tO.1 tO.2.1 tO.2.2.1 M11.bl):=⟨Oc,Oh,Cv AX T,Oo,AX.kp,NM⟩;have aaC:aL l.prog w K mg base 2 "settled_sizes" 719 (iS K NQ CP.1 CP.2.1 CP.2.2.1 M11.bg):=⟨Oc,Oh,Cw AX T,Oo,AX.kp,NM⟩;have c_L:aL l.prog w K mg base 3 "least_sizes" 159 (qV K T1):=⟨f_L,d_L,Jd F_L T Vr c5 aaB,b_L,F_L.kp,m_L⟩;have c_G:aL l.prog w K mg base 3 "greatest_empty_sizes" 159 (xQ K T2):=⟨f_G,d_G,Jf F_G Vr aaC,b_G,F_G.kp,m_G⟩;have VT:aL l.prog w K mg base 4 "refuse_faults" ["rules","strengths"] (sP K T1 T2):=⟨Vw,VO,Fy KN T (kS X G tp.nM) c11 c_L c0 c12 c10 c_G,VX,KN.kp,Uk⟩;have aaD:aL l.prog w K mg base 4 "least_by_part" 159 (pO K T1 T3):=⟨aap,aaz,Cz RB T Vr (gJ X G tp.jW) (c0.mono nofun) c_L (c1.mono nofun) (c3.mono nofun),aaJ,RB.kp,Zk⟩;have T9:=Ja (P:=l.prog) (w:=w) (base:=base) Wz T cB;have Y1:=L0 WA T cB c7 T9 Um VY;have Y2:=Jj WB T cB c6 c0 Y1 Zq aaP;have YY:=Jc Wu T cB cL aaD (c4.mono nofun);have Y0:=Jg Ww T cG (VT.mono nofun) (c2.mono nofun) (Y2.mono nofun) kB aaQ (kS X G tp.nB) YY kL aaK (kS X G tp.nL);have L41:Ry K mg CT W:=tp.xT.lx tp.ot1 tp.ot2 tp.ot3 tp.ot4 tp.ot5 tp.ot6 X G;obtain⟨abf,abo,Wy,Zp⟩:=tp.mB4.get;have aaO:=Wy.binds (ps:=["self","parts"]) 604
 obtain⟨abe,abn,Wx,Zo⟩:=tp.mB5.get;have aaN:=Wx.binds (ps:=["self","parts"]) 604
 obtain⟨abd,abl,Wv,Zl⟩:=tp.mG2.get;have aaL:=Wv.binds (ps:=["self"]) 576
 have YZ:=I9 (P:=l.prog) (w:=w) (mg:=mg) (base:=base) Wv cG;have o4T:=Jh true Wy T cB c7 T9 Um VY;have o5T:=Jl (P:=l.prog) (w:=w) (base:=base) Wx T cB;have uA:=tp.hPO.c (P:=l.prog) (w:=w) (base:=base) X G 735 λF m B=>Cy (C:=C) F T cG Zl YZ aaL;have wF:=tp.hPA.c (P:=l.prog) (w:=w) (base:=base) X G 735 λF m B=>FC F T uA;have uz:=tp.hTB.c (P:=l.prog) (w:=w) (base:=base) X G (848) λF m B=>FH F T cG cB uA o4T Zp aaO (o5T.mono nofun) Zo aaN;have u9:=tp.hCL.c (P:=l.prog) (w:=w) (base:=base) X G 735 λF m B=>FE F T (gJ X G tp.jW) cG (c1.mono nofun) wF uz;have M0:=tp.hMV.c (P:=l.prog) (w:=w) (base:=base) X G 735 λF m B=>Jb F wF;obtain⟨aas,aaA,RC,Zn⟩:=tp.hCR.get X G;have aaM:=RC.binds (ps:=["grammar","places"]) 604
 have aaE:Dx l.prog w K mg base 5 "closed_room" ["grammar","places"] (xS K C Cg CT):=⟨aas,aaA,Ji RC T (kS X G tp.nMP) tp.xT.n0.1 tp.xT.n0.2 L41.mC u9,aaM,RC.kp,Zn⟩;obtain⟨abc,abj,RA,Zj⟩:=tp.hRM.get X G;have aaI:=RA.binds (ps:=["grammar"]) 576
 have YX:=I_ RA T (gJ X G tp.jW) cG (kS X G tp.nMR) tp.xT.n0.1 tp.xT.n0.2 L41.mC aaE (M0.mono nofun);exact PV F9 T L41 (K_.mono nofun) (c14.mono nofun) (c15.mono nofun) cG kG (Y0.mono nofun) (JY Ww) (kS X G tp.nG) (YX.mono nofun) Zj RA.kp aaI
def walk {l:PySem.W.OpenLaw}{q:Program}{loose:z0t}{XP:z0c->Heap->Prop}{YP:World->Heap->Prop}{d:DefRec}{K:Params->aY}(T1 T2 T3 c1 c2 c3:Addr)(Hc:T1≠T2)(Ha:T1≠T3)(Jn:T2≠T3)(hn:l.most=some 63)(Vd:d.params.defaults=[])
  (hY:∀(w:World)(h:Heap),YP w h->(K w.params).In h/\∀T∈[T3,T2,T1],h.get? T=some (PySem.W.tabObj #[]))
  (hK1:∀w:World,(K w.params).lookup T1=none)(hK2:∀w:World,(K w.params).lookup T2=none)(hK3:∀w:World,(K w.params).lookup T3=none)(hC1:∀w:World,PySem.W.codeHdIn (K w.params) c1 T1=true)(hC2:∀w:World,PySem.W.codeHdIn (K w.params) c2 T2=true)(hC3:∀w:World,PySem.W.codeHdIn (K w.params) c3 T3=true)
  (F:∀(w:World)(mg:z0c)(fa:Addr)(h:Heap),(K w.params).In h->h.Ns mainGlobals mg->mg d.name=some (.ref fa) ->
   ∃fd:FuncData,(∀(s:Shared)(u:Value),BindsTo s fd ⟨[u],[]⟩ [("_law_script",u)])/\∀base:Heap,(K w.params).In base->base.Ns mainGlobals mg->uH mg base->bO l.prog w (K w.params) mg base gb 9 fa fd ["_law_script"] (DR (K w.params) T1 T2 T3)) :
  PySem.W.WalkO q loose XP YP l.row.toRowW d [] (λf vs=>PySem.call f vs) :=
 L2.Hz (n:=63) (k:=9) (x := "_law_script") (CX:=λ_=>gb) (sp:=λw=>DR (K w.params) T1 T2 T3) hn nofun Vd ⟨rfl,nofun,nofun,rfl⟩ hY (λw T hT=>by
  rcases a_.mp hT with e | hT
  .subst e;exact⟨hK3 w,c3,hC3 w⟩
  rcases a_.mp hT with e | hT
  .subst e;exact⟨hK2 w,c2,hC2 w⟩
  rw [bj.mp hT];exact⟨hK1 w,c1,hC1 w⟩) F (λ_ H a ns hl _ hT hS=>⟨a,ns,rfl,hS,hl,⟨⟨#[],hT T1 90,by trivial,.inl rfl⟩,⟨#[],hT T2 90,by trivial,.inl rfl⟩,⟨#[],hT T3 90,by trivial,.inl rfl⟩,Hc,Ha,Jn⟩,λ_=>rfl⟩) λ_ _ _ _ _ z=>z
end fC
set_option maxHeartbeats 0
end
namespace HD
open PySem PySem.W L2
def Yb (P:Params):fC.Top (K P) 301 443 414 324 329 358 170 31 654 467 469:=⟨fC.eqT (nofun) (nofun) (nofun),
 ⟨51,nofun,nofun⟩,
 ⟨63,nofun,nofun⟩,
 ⟨139,nofun,nofun⟩,
 ⟨120,nofun,nofun⟩,
 ⟨101,nofun,nofun⟩,
 ⟨158,nofun,nofun⟩,nofun,nofun,
 hM 286 285 HD.m5 (nofun),
 hM 291 290 HD.m5 (nofun),
 hM 440 439 HD.m10 (nofun),
 hD 208 207 HD.m3 (nofun),
 hD 201 200 HD.m3 (nofun),
 hD 220 219 HD.m3 (nofun),
 hD 213 212 HD.m3 (nofun),
 hD 241 240 HD.m4 (nofun),
 hD 234 233 HD.m4 (nofun),
 hD 227 226 HD.m4 (nofun),nofun,nofun,nofun,nofun,nofun,
 hD 177 176 HD.m2 (nofun),
 hD 187 186 HD.m2 (nofun),
 hD 194 193 HD.m2 (nofun),
 hD 366 365 HD.m9 (nofun),
 hD 371 370 HD.m9 (nofun),
 hD 182 181 HD.m2 (nofun),
 hD 246 245 HD.m5 (nofun),
 hD 253 252 HD.m5 (nofun),
 hD 322 321 HD.m6 (nofun),
 hD 315 314 HD.m6 (nofun),
 hD 310 309 HD.m6 (nofun),
 hD 351 350 HD.m8 (nofun),
 hD 356 355 HD.m8 (nofun),
 hD 454 453 HD.NP (nofun),
 hD 459 458 HD.NP (nofun),
 hD 464 463 HD.NP (nofun),
 hD 471 470 HD.NP (nofun),
 hD 339 338 HD.m7 (nofun),
 hD 344 343 HD.m8 (nofun),
 hC 327 326 HD.m7 (nofun),
 hC 334 333 HD.m7 (nofun),
 hC 361 360 HD.m9 (nofun),
 hM 383 382 HD.m9 (nofun),
 hM 265 264 HD.m5 (nofun),
 hM 272 271 HD.m5 (nofun),
 hM 279 278 HD.m5 (nofun),
 ⟨433,.type "function",none,none,#[],.none,.none,.str "wright.grammars" 765,.ref 432,.none,426,⟨378,none,.seq #[.none] 0,#[]⟩,0,nofun,nofun,nofun,nofun,rfl,nofun,nofun⟩,nofun,nofun,nofun,nofun,nofun,nofun,nofun,nofun,nofun,nofun,nofun,nofun,nofun,nofun,nofun,nofun,nofun,nofun,nofun,nofun,nofun,nofun,nofun,nofun,nofun,nofun,nofun,nofun,nofun,nofun,nofun,nofun,nofun,nofun,nofun,nofun,nofun,nofun,nofun,nofun,nofun,nofun,nofun,nofun,nofun,nofun,nofun⟩
end HD
theorem PySem.Challenge.cw_wright_k41_too_many_rooms_holds : PySem.Challenge.rw_wright_k41_too_many_rooms.Holds := by
 refine HD.hold ?_ ?hw
 case hw=>w_witness2
 refine fC.walk (l:=PySem.Challenge.rw_wright_k41_too_many_rooms) (K:=HD.K) 324 329 358 326 333 360 nofun nofun nofun rfl HD.ok5 (λw h Y=>⟨PySem.W.km_in_of Y,PySem.W.km_tabs_of Y⟩) (λw=>559) (λw=>559) (λw=>559) (λw=>559) (λw=>559) (λw=>559) ?F;intro w mg fa h KX G U1;exact fC.all_mk KX G U1 (HD.Yb w.params)
