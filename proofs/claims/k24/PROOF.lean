import PyProof.Rows.All
import Wide.All
import OpenK.AllK
import Wide.FinOn
import Lean
import PyProof.EqAt
import PyProof.EqKinds
import PyProof.TupleCall
import PyProof.NeKinds
import KE.RegKIsAll
import KE.KTryMore
import KE.RegKTryMore
import PyProof.StationsW
import PyProof.Rows.CatchOwn
import OpenK.KOwn
import PyProof.NsDelKeeps
import PyProof.Rows.RuleN_isinstance
import PyProof.ExcInit
import PyProof.ExcClass2
import PyProof.InstStoreFacts
import PyProof.ExcBaseAll.ValueError
import KE.KSortTup
import PyProof.Rows.StrJoin2
import PyProof.StrCalls2
import KE.KIntText
import PyProof.DictItems
import KE.KMinBuiltin
import PyProof.WalkInts
import PyProof.Rows.CallKwBuiltin
import KE.KPairComp
import PyProof.Rows.SortWalk
import KE.KListMore
import PyProof.ListRange
import PyProof.RangeFor
import PyProof.CompFree
import PyProof.DictCompW
import PyProof.SliceStr2
import PyProof.StrWalks
import PyProof.StrLaws
import PyProof.FString
import PyProof.CallStr
import PyProof.StrOps2
import PyProof.StrLawsOcc
import PyProof.ZipIter
import PyProof.TupleIter
import KE.KUnpackStar
import PyProof.StrLawsTight
import PyProof.StrLawsChain
import PyProof.FitsInt
import PySem.Challenge.RW_nightglass_k24_texts_that_write_no_deed
set_option Elab.async false
set_option linter.all false
set_option maxRecDepth 100000
set_option maxHeartbeats 4000000
set_option autoImplicit false
namespace Sh
open PySem PySem.W PyProof.Rows
theorem RM{α β γ:Type}{o:Option α}{f:α->β}{g:α->γ}{b:β}{c:γ}(h1:o.map f=some b)(h2:o.map g=some c):o.map (λs=>(f s,g s))=some (b,c):=by
 cases o with
 |none=>cases h1
 |some a=>cases h1;cases h2;rfl
theorem PySem.W.holds_open{r:OpenRow}{q:Program}{loose:List Str}{Xt:Shared->Bool}{XP:(Str->Option Value)->Heap->Prop}{α:Type}{Yf:Shared->α}{Ya:World->α}{YP:World->Heap->Prop}{d:DefRec}{kwd:List (Str×Expr)}{N:Nat}
 (_:True)(hY:∀w s,Yf s=Ya w->YP w s.heap)(hYk:∀w h h',YP w h->(∀b o,h.get? b=some o->h'.get? b=some o)->YP w h')
 (hX:∀s,Xt s=true->XP (s.heap.nsMap mainGlobals) s.heap)(hXk:∀mg h h',XP mg h->(∀b o,h.get? b=some o->h'.get? b=some o)->XP mg h')
 (hdef:defOf q r.name=some (d,kwd))(hp:r.prog.theDef r.name=some (d.params,d.body,d.scope))(hk:kwWritten? d.params.kwonlyargs d.params.kw_defaults=some kwd)(hRf:∀s,Xt s=true->RecFacts r.records s.heap)(hwr:(!r.writes||r.records.isEmpty)=true)
 (k1:r.wellSaid=true)(ok:(chainsOk q&&opensWell r.prog&&(frees r.toRowW&&r.within.isEmpty))=true)(hb:r.prog.bare)(hw:r.toRowW.promised)
 (call:LeftO r.prog q loose Xt Yf Ya N/\WalkO q loose XP YP r.toRowW d kwd λf vs=>PySem.call f vs):r.Holds:=
 _root_.PySem.W.holds_open call.1 hY hYk hX hXk hdef hp hk hRf hwr k1 ok hb hw call.2
end Sh
section
open PySem PySem.W PyProof.Rows
namespace Sh
theorem sd:PySem.Challenge.rw_nightglass_k24_texts_that_write_no_deed.wellSaid=true:=by kernel_rfl
end Sh
end
namespace L2
open PySem PySem.Spec PyProof.Rows
noncomputable abbrev _root_.Za:=@wpAny_bind
noncomputable abbrev _root_.Zb:=@wpAny_pure
noncomputable abbrev _root_.Zc:=@List.length_map
noncomputable abbrev _root_.Zd:=@List.getElem?_eq_getElem
noncomputable abbrev _root_.Ze:=@List.getElem?_eq_some_iff
noncomputable abbrev _root_.Zf:=@Heap.get?_push_of_some
noncomputable abbrev _root_.Zg:=@Option.some.inj
noncomputable abbrev _root_.Zh:=@List.map_cons
noncomputable abbrev _root_.Zi:=@List.getElem?_map
noncomputable abbrev _root_.Zj:=@List.mem_cons_of_mem
noncomputable abbrev _root_.Zk:=@List.size_toArray
noncomputable abbrev _root_.Zl:=@List.mem_cons_self
noncomputable abbrev _root_.Zm:=@List.append_nil
noncomputable abbrev _root_.Zn:=@Nat.le_refl
noncomputable abbrev cH:=Sum Int Str
noncomputable def nS:cH->Value->Bool
 |.inl k,v=>Value.isInt k v
 |.inr x,v=>Value.isStrOf x v
noncomputable def UW(w:World):cH->Int
 |.inl k=>hashInt k
 |.inr x=>hashStr w x
theorem cB:∀{k:cH}{v:Value},nS k v=true->(∃i t,k=Sum.inl i/\v=Value.int i t)\/(∃x t,k=Sum.inr x/\v=Value.str x t)
 |.inl i,v,h=>by
  obtain⟨t,e⟩:=Value.isInt_shape (k:=i) (v:=v) h;exact .inl ⟨i,t,rfl,e⟩
 |.inr x,v,h=>by
  obtain⟨t,e⟩:=Value.isStrOf_shape (x:=x) (v:=v) h;exact .inr ⟨x,t,rfl,e⟩
theorem xA(i:Int)(t:Tok):nS (.inl i) (.int i t)=true:=by simp[nS,Value.isInt]
theorem wZ(x:Str)(t:Tok):nS (.inr x) (.str x t)=true:=by simp[nS,Value.isStrOf]
theorem LH(a b:Int):decide ((Sum.inl a:cH)=Sum.inl b)=(a==b):=by
 by_cases e:a=b
 ·subst e;simp
 ·have h:¬(Sum.inl a:cH)=Sum.inl b:=λq=>e (Sum.inl.inj q);rw[decide_eq_false h];exact(beq_eq_false_iff_ne.mpr e).symm
theorem LE(a b:Str):decide ((Sum.inr a:cH)=Sum.inr b)=decide (a=b):=by
 by_cases e:a=b
 ·subst e;simp
 ·have h:¬(Sum.inr a:cH)=Sum.inr b:=λq=>e (Sum.inr.inj q);rw[decide_eq_false h,decide_eq_false e]
theorem LG(a:Int)(b:Str):decide ((Sum.inl a:cH)=Sum.inr b)=false:=decide_eq_false (λq=>nomatch q)
theorem LF(a:Str)(b:Int):decide ((Sum.inr a:cH)=Sum.inl b)=false:=decide_eq_false (λq=>nomatch q)
noncomputable def cI(prog:Program)(w:World):PySem.KeyKind prog w cH where
 is:=nS
 hash:=UW w
 inj:=λv a b ha hb=>by
  rcases cB ha with ⟨i,t,rfl,rfl⟩|⟨x,t,rfl,rfl⟩
  ·rcases cB hb with ⟨j,u,rfl,e⟩|⟨y,u,rfl,e⟩
   ·injection e with e1 _;rw[e1]
   ·exact nomatch e
  ·rcases cB hb with ⟨j,u,rfl,e⟩|⟨y,u,rfl,e⟩
   ·exact nomatch e
   ·injection e with e1 _;rw[e1]
 byValue:=λk v h=>by
  rcases cB h with ⟨i,t,rfl,rfl⟩|⟨x,t,rfl,rfl⟩<;>rfl
 pyHash:=λhv h=>by
  rcases cB hv with ⟨i,t,rfl,rfl⟩|⟨x,t,rfl,rfl⟩
  ·exact wpAny_pyHash_int h
  ·exact wpAny_pyHash_str h
 eqBool:=λhu hv h=>by
  rcases cB hu with ⟨i,t,rfl,rfl⟩|⟨x,t,rfl,rfl⟩
  ·rcases cB hv with ⟨j,u,rfl,rfl⟩|⟨y,u,rfl,rfl⟩
   ·rw[LH] at h;exact wpAny_eqBool_int h
   ·rw[LG] at h;exact SeqAt.EqAt.int_str i t y u _ _ _ _ h
  ·rcases cB hv with ⟨j,u,rfl,rfl⟩|⟨y,u,rfl,rfl⟩
   ·rw[LF] at h;exact SeqAt.EqAt.str_int x t j u _ _ _ _ h
   ·rw[LE] at h;exact wpAny_eqBool_str h
 «strs»:=λk x t v h=>by
  rcases cB h with ⟨i,u,rfl,e⟩|⟨y,u,rfl,e⟩
  ·exact nomatch e
  ·injection e with e1 _;subst e1;cases v<;>rfl
theorem qU(prog:Program)(w:World)(i:Int)(t:Tok):(cI prog w).is (.inl i) (.int i t)=true:=xA i t
theorem qT(prog:Program)(w:World)(x:Str)(t:Tok):(cI prog w).is (.inr x) (.str x t)=true:=wZ x t
end L2
namespace L2
open PySem PySem.Spec PyProof.Rows
inductive V where
 |non|bl (b:Bool)|int (i:Int)|str (x:Str)|byt (b:Array UInt8)|flt (b:UInt64)|ref (a:Addr)|ty (n:String)
 deriving DecidableEq
noncomputable def RelV:V->Value->Prop
 |.non,u=>u=Value.none
 |.bl b,u=>u=Value.bool b
 |.int i,u=>∃t,u=Value.int i t
 |.str x,u=>∃t,u=Value.str x t
 |.byt b,u=>∃t,u=Value.bytes b t
 |.flt b,u=>∃t,u=Value.float b t
 |.ref a,u=>u=Value.ref a
 |.ty n,u=>u=Value.type n
noncomputable abbrev Vals:List V->List Value->Prop:=Paired RelV
theorem Vals.length{xs:List V}{us:List Value}(r:Vals xs us):xs.length=us.length:=Paired.length r
theorem Vals.get:∀{xs:List V}{us:List Value}{i:Nat}{x:V},Vals xs us->xs[i]? =some x->∃u,us[i]? =some u/\RelV x u
 |_,_,_,_,.nil,e=>by simp at e
 |_,_,0,_,.cons r _,e=>by simp at e;subst e;exact⟨_,rfl,r⟩
 |_,_,i+1,x,.cons _ t,e=>by
  obtain⟨u,h1,h2⟩:=Vals.get (i:=i) (x:=x) t (by simpa using e);exact⟨u,by simpa using h1,h2⟩
theorem Vals.append:∀{xs ys:List V}{us ws:List Value},Vals xs us->Vals ys ws->Vals (xs++ys) (us++ws)
 |_,_,_,_,.nil,s=>s
 |_,_,_,_,.cons r t,s=>.cons r (Vals.append t s)
theorem Vals.take:∀{xs:List V}{us:List Value}(n:Nat),Vals xs us->Vals (xs.take n) (us.take n)
 |_,_,0,_=>.nil
 |_,_,_+1,.nil=>.nil
 |_,_,n+1,.cons r t=>.cons r (Vals.take n t)
theorem Vals.drop:∀{xs:List V}{us:List Value}(n:Nat),Vals xs us->Vals (xs.drop n) (us.drop n)
 |_,_,0,r=>r
 |_,_,_+1,.nil=>.nil
 |_,_,n+1,.cons _ t=>Vals.drop n t
noncomputable def RelO:Option V->Option Value->Prop
 |some v,some u=>RelV v u
 |none,none=>True
 |_,_=>False
noncomputable def KV{κ:Type}:List (κ×V)->List (κ×Value)->Prop:=Paired λ(p:κ×V)(q:κ×Value)=>p.1=q.1/\RelV p.2 q.2
noncomputable def kV:cH->V
 |.inl i=>.int i
 |.inr x=>.str x
inductive HO where
 /-- a list -/
 |lst (xs:List V)
 /-- a tuple (never changes) -/
 |tup (xs:List V)
 /-- a dict whose keys are ints and texts;one whose keys are tuples of ints and texts (the empty one is both) -/
 |dK (kvs:List (cH×V))|dT (kvs:List (List cH×V))
 /-- a set of ints:its members,its size -/
 |set (S:Int->Bool) (n:Nat)
 /-- an instance of the class at C,its dict at dx,its attributes -/
 |ins (C dx:Addr) (fs:List (Str×V))
 /-- the dict of the instance at x -/
 |own (x:Addr)
 /-- the dict of an exception -/
 |xd (fs:List (Str×V))
 /-- a bound method,f of x -/
 |met (f x:Addr)
 /-- a range object lo,lo+1,.. below hi -/
 |rng (lo hi:Int)
 /-- a thing that is known to the object (the script;a dict while a loop walks it):read,never written while it is so -/
 |frz (o:Obj) (u:HO)
 /-- a code object's table -/
 |tbl (ps:Array Value)
 /-- any other thing,by what is true of its one object (a def of one's own:SetO a S n:=HO.ext λh=>..) -/
 |ext (φ:Heap->Prop)
noncomputable abbrev Hp:=Addr->Option HO
noncomputable def bV(H:Hp)(a:Addr)(o:HO):Hp:=λb=>if b=a then some o else H b
theorem bB{H:Hp}{a:Addr}{o:HO}:bV H a o a=some o:=by unfold bV;rw[if_pos rfl]
theorem aM{H:Hp}{a b:Addr}{o:HO}(h:b≠a):bV H a o b=H b:=by unfold bV;rw[if_neg h]
theorem qR{H:Hp}{a b:Addr}{o u:HO}(h:H a=some o)(h':H b=some u)(d:o≠u):a≠b:=by
 intro e;subst e;rw[h] at h';exact d (Zg h')
theorem bK{H:Hp}{a b:Addr}{o:HO}(h:H a=some o)(h':H b=none):a≠b:=by
 intro e;subst e;rw[h] at h';cases h'
section
variable (P:Program)(w:World)
noncomputable def ObjOk(H:Hp)(h:Heap)(a:Addr):HO->Prop
 |.lst xs=>xs.length<=sizeLine/\∃(its:List Value)(n:Nat),Vals xs its/\h.get? a=some {cls:=.type "list",data:=.seq its.toArray n}
 |.tup xs=>xs.length<=sizeLine/\∃its:List Value,Vals xs its/\IsTup h a its.toArray
 |.dK kvs=>kvs.length<=sizeLine/\(a==sysModules)=false/\∃vs,KV kvs vs/\h.DictOf (cI P w) a vs
 |.dT kvs=>kvs.length<=sizeLine/\(a==sysModules)=false/\∃xs:List (List cH×Addr×Value),
   Paired (λ(p:List cH×V)(q:List cH×Addr×Value)=>p.1=q.1/\H q.2.1=some (.tup (p.1.map kV))/\RelV p.2 q.2.2) kvs xs/\
   ∃o es ep,h.get? a=some o/\o.ExactDict/\o.data=.dict es ep/\es.toList=xs.map (entryOfKey (tupleKind (cI P w)))/\(xs.map (·.1)).Nodup
 |.set S n=>h.SetOf (intKind P w) a S n
 |.ins C dx fs=>H dx=some (.own a)/\fs.length<=1000/\dx≠a/\h.get? a=some (W.instObj C dx)/\
   ∃mA,h.Ns1 dx mA/\(∀f,RelO (fs.lookup f) (mA f))/\PySem.Within mA (fs.map (·.1))
 |.own _=>∃o,h.get? a=some o
 |.xd fs=>∃mA,h.Ns1 a mA/\∀f,RelO (fs.lookup f) (mA f)
 |.rng lo hi=>∃t u v,h.get? a=some {cls:=.type "range",data:=.fields #[.int lo t,.int hi u,.int 1 v]}
 |.frz o u=>h.get? a=some o/\ObjOk H h a u
 |.tbl ps=>h.get? a=some {cls:=.none,data:=.fields ps}
 |.met f x=>h.get? a=some (W.methodObj (.ref f) (.ref x))
 |.ext φ=>φ h/\(∃o,h.get? a=some o)/\∀h1 h2:Heap,φ h1->(∀o,h1.get? a=some o->h2.get? a=some o)->φ h2
def HOk(H:Hp)(h:Heap):Prop:=∀a o,H a=some o->ObjOk P w H h a o
end
section
variable {P:Program}{w:World}{H H':Hp}{h h':Heap}{a:Addr}{o:HO}
theorem ObjOk.lt(x:ObjOk P w H h a o):a<h.objs.size:=by
 cases o with
 |lst xs=>obtain⟨_,_,_,_,e⟩:=x;exact Heap.lt_size e
 |tup xs=>obtain⟨_,_,_,p⟩:=x;exact p.lt
 |dK kvs=>obtain⟨_,_,_,_,o,_,_,e,_⟩:=x;exact Heap.lt_size e
 |dT kvs=>obtain⟨_,_,_,_,o,_,_,e,_⟩:=x;exact Heap.lt_size e
 |set S n=>obtain⟨o,_,_,_,e,_⟩:=x;exact Heap.lt_size e
 |ins C dx fs=>obtain⟨_,_,_,e,_⟩:=x;exact Heap.lt_size e
 |own y=>obtain⟨_,e⟩:=x;exact Heap.lt_size e
 |xd fs=>obtain⟨_,⟨_,_,_,e,_⟩,_⟩:=x;exact Heap.lt_size e
 |rng lo hi=>obtain⟨_,_,_,e⟩:=x;exact Heap.lt_size e
 |frz ob u=>obtain⟨e,_⟩:=x;exact Heap.lt_size e
 |tbl ps=>exact Heap.lt_size (show h.get? a=some _ from x)
 |met f y=>exact Heap.lt_size (show h.get? a=some _ from x)
 |ext φ=>obtain⟨_,⟨_,e⟩,_⟩:=x;exact Heap.lt_size e
theorem Paired.mapP{α β:Type}{F G:α->β->Prop}:∀{l₁:List α}{l₂:List β},Paired F l₁ l₂->(∀a b,F a b->G a b)->Paired G l₁ l₂
 |_,_,.nil,_=>.nil
 |_,_,.cons r t,f=>.cons (f _ _ r) (Paired.mapP t f)
theorem ObjOk.stay(x:ObjOk P w H h a o)(k:∀b u,(b=a\/H b=some (.own a))->h.get? b=some u->h'.get? b=some u)
 (ho:∀b,H b=some (.own a)->H' b=some (.own a))(ht:∀b xs,H b=some (.tup xs)->H' b=some (.tup xs)):ObjOk P w H' h' a o:=by
 induction o with
 |lst xs=>obtain⟨z,its,n,r,e⟩:=x;exact⟨z,its,n,r,k _ _ (.inl rfl) e⟩
 |tup xs=>obtain⟨z,its,r,ob,e,c⟩:=x;exact⟨z,its,r,ob,k _ _ (.inl rfl) e,c⟩
 |dK kvs=>obtain⟨z,y,vs,r,ob,es,ep,e,c⟩:=x;exact⟨z,y,vs,r,ob,es,ep,k _ _ (.inl rfl) e,c⟩
 |dT kvs=>
  obtain⟨z,y,xs,r,ob,es,ep,e,c⟩:=x;exact⟨z,y,xs,Paired.mapP r λp q z=>⟨z.1,ht _ _ z.2.1,z.2.2⟩,ob,es,ep,k _ _ (.inl rfl) e,c⟩
 |set S n=>obtain⟨ob,es,ep,t,e,c⟩:=x;exact⟨ob,es,ep,t,k _ _ (.inl rfl) e,c⟩
 |ins C dx fs=>
  obtain⟨d,z,ne,e,mA,⟨od,es,ep,e2,c⟩,r⟩:=x;exact⟨ho _ d,z,ne,k _ _ (.inl rfl) e,mA,⟨od,es,ep,k _ _ (.inr d) e2,c⟩,r⟩
 |own y=>obtain⟨ob,e⟩:=x;exact⟨ob,k _ _ (.inl rfl) e⟩
 |xd fs=>obtain⟨mA,⟨od,es,ep,e,c⟩,r⟩:=x;exact⟨mA,⟨od,es,ep,k _ _ (.inl rfl) e,c⟩,r⟩
 |rng lo hi=>obtain⟨t,u,v,e⟩:=x;exact⟨t,u,v,k _ _ (.inl rfl) e⟩
 |frz ob u ih=>obtain⟨e,q⟩:=x;exact⟨k _ _ (.inl rfl) e,ih q⟩
 |tbl ps=>
  have e:h.get? a=some {cls:=.none,data:=.fields ps}:=x;show h'.get? a=some {cls:=.none,data:=.fields ps};exact k a _ (.inl rfl) e
 |met f y=>
  have e:h.get? a=some (W.methodObj (.ref f) (.ref y)):=x;show h'.get? a=some (W.methodObj (.ref f) (.ref y));exact k a _ (.inl rfl) e
 |ext φ=>obtain⟨p,⟨o,e⟩,st⟩:=x;exact⟨st _ _ p λo q=>k _ _ (.inl rfl) q,⟨o,k _ _ (.inl rfl) e⟩,st⟩
theorem HOk.lt(x:HOk P w H h)(e:H a=some o):a<h.objs.size:=(x a o e).lt
theorem HOk.fresh(x:HOk P w H h)(e:h.objs.size<=a):H a=none:=by
 cases q:H a with
 |none=>rfl
 |some u=>exact absurd (Nat.lt_of_lt_of_le (x.lt q) e) (Nat.lt_irrefl _)
theorem HOk.kept(x:HOk P w H h)(k:∀b u,h.get? b=some u->h'.get? b=some u):HOk P w H h':=λa o e=>
 (x a o e).stay (λb u _ q=>k b u q) (λ_ q=>q) λ_ _ q=>q
theorem HOk.laid(x:HOk P w H h)(k:∀b u,h.get? b=some u->h'.get? b=some u)(hp:h.objs.size<=a)(new:ObjOk P w (bV H a o) h' a o):HOk P w (bV H a o) h':=λb u e=>by
 have hn:=x.fresh hp
 by_cases hb:b=a
 ·subst hb;rw[bB] at e;cases e;exact new
 ·rw[aM hb] at e;exact(x b u e).stay (λc v _ q=>k c v q) (λc q=>by rw[aM (bK q hn)];exact q) λc xs q=>by rw[aM (bK q hn)];exact q
end
def Rd(H:Hp)(a:Addr)(u:HO):Prop:=H a=some u\/∃o,H a=some (.frz o u)
theorem Rd.ok{P:Program}{w:World}{H:Hp}{h:Heap}{a:Addr}{u:HO}(r:Rd H a u)(x:HOk P w H h):ObjOk P w H h a u:=by
 rcases r with r|⟨o,r⟩
 ·exact x a u r
 ·obtain⟨_,q⟩:=x a _ r;exact q
noncomputable def QW:Option HO->Prop
 |some (.lst _)=>True
 |some (.dK _)=>True
 |some (.dT _)=>True
 |some (.set _ _)=>True
 |some (.ins _ _ _)=>True
 |some (.ext _)=>True
 |_=>False
section
variable {P:Program}{w:World}{H:Hp}{h h':Heap}{x e:Addr}{o':HO}
theorem HOk.write(ok:HOk P w H h)(mu:QW (H x))(he:e=x\/H e=some (.own x))(k:∀b u,b≠e->h.get? b=some u->h'.get? b=some u)(heo:∃u,h'.get? e=some u)
 (new:ObjOk P w (bV H x o') h' x o'):HOk P w (bV H x o') h':=λb u q=>by
 have nown:∀c y,H c=some (.own y)->c≠x:=λc y r z=>by subst z;rw[r] at mu;exact mu
 have ntup:∀c xs,H c=some (.tup xs)->c≠x:=λc xs r z=>by subst z;rw[r] at mu;exact mu
 by_cases hb:b=x
 ·subst hb;rw[bB] at q;cases q;exact new
 ·rw[aM hb] at q
  by_cases hbe:b=e
  ·have q':H b=some (.own x):=by
    rcases he with z|z
    ·exact absurd (hbe.trans z) hb
    ·rw[hbe];exact z
   rw[q] at q';cases q';obtain⟨v,hv⟩:=heo;exact⟨v,by rw[hbe];exact hv⟩
  ·refine(ok b u q).stay (λc v hc r=>k c v ?_ r) (λc r=>by rw[aM (nown c b r)];exact r) λc xs r=>by rw[aM (ntup c xs r)];exact r
   rcases hc with rfl|hc
   ·exact hbe
   ·rintro rfl;rcases he with z|z
    ·exact nown c b hc z
    ·rw[hc] at z;cases z;exact hb rfl
end
structure Un (fs ex:List Addr)(H H':Hp)(h h':Heap):Prop where
 keep:∀b o,h.get? b=some o->H b=none->b ∉ fs->b ∉ ex->h'.get? b=some o
 slot:∀b o,h.get? b=some o->H b=none->b∈fs->b ∉ ex->∃sl,h'.get? b=some {o with slots:=sl}
 free:∀b o,h.get? b=some o->H b=none->b ∉ ex->H' b=none
 there:∀b o,h.get? b=some o->b ∉ ex->∃o',h'.get? b=some o'
 tups:∀b xs,H b=some (.tup xs)->H' b=some (.tup xs)
 frzs:∀b o u,H b=some (.frz o u)->H' b=some (.frz o u)
 tbls:∀b ps,H b=some (.tbl ps)->∃more,H' b=some (.tbl (ps++more))
section
variable {fs fs' ex ex':List Addr}{H H1 H2:Hp}{h h1 h2 h':Heap}{a x e:Addr}{o:HO}
theorem Un.any(u:Un fs ex H H1 h h1){b:Addr}{ob:Obj}(q:h.get? b=some ob)(n:H b=none)(hx:b ∉ ex):∃sl,h1.get? b=some {ob with slots:=sl}:=by
 by_cases hb:b∈fs
 ·exact u.slot b ob q n hb hx
 ·exact⟨ob.slots,u.keep b ob q n hb hx⟩
theorem Un.kept(k:∀b u,h.get? b=some u->h'.get? b=some u):Un fs ex H H h h':=
 ⟨λb ob q _ _ _=>k b ob q,λb ob q _ _ _=>⟨ob.slots,k b ob q⟩,λ_ _ _ n _=>n,λb ob q _=>⟨ob,k b ob q⟩,λ_ _ q=>q,λ_ _ _ q=>q,λ_ ps q=>⟨#[],by rw[q];simp⟩⟩
theorem Un.refl:Un fs ex H H h h:=Un.kept λ_ _ q=>q
theorem Un.laid(k:∀b u,h.get? b=some u->h'.get? b=some u)(hp:h.objs.size<=a)(hn:H a=none):Un fs ex H (bV H a o) h h' where
 keep:=λb u q _ _ _=>k b u q
 slot:=λb u q _ _ _=>⟨u.slots,k b u q⟩
 free:=λb u q n _=>by rw[aM (Nat.ne_of_lt (Nat.lt_of_lt_of_le (Heap.lt_size q) hp))];exact n
 there:=λb u q _=>⟨u,k b u q⟩
 tups:=λb xs q=>by rw[aM (bK q hn)];exact q
 frzs:=λb u xs q=>by rw[aM (bK q hn)];exact q
 tbls:=λb ps q=>⟨#[],by rw[aM (bK q hn),q];simp⟩
theorem Un.write(mu:QW (H x))(he:e=x\/H e=some (.own x))(k:∀b u,b≠e->h.get? b=some u->h'.get? b=some u)(heo:∃u,h'.get? e=some u):Un fs ex H (bV H x o) h h':=by
 have hx:∀b,H b=none->b≠x:=λb n z=>by subst z;rw[n] at mu;exact mu
 have hb:∀b,H b=none->b≠e:=λb n z=>by
  subst z;rcases he with r|r
  ·exact hx b n r
  ·rw[n] at r;cases r
 have hm:∀b u,H b=some u->¬QW (some u)->b≠x:=λb u q nm z=>by subst z;rw[q] at mu;exact nm mu
 refine⟨λb u q n _ _=>k b u (hb b n) q,λb u q n _ _=>⟨u.slots,k b u (hb b n) q⟩,λb u q n _=>by rw[aM (hx b n)];exact n,λb u q _=>?_,
  λb xs q=>by rw[aM (hm b _ q λz=>z)];exact q,λb u xs q=>by rw[aM (hm b _ q λz=>z)];exact q,λb ps q=>⟨#[],by rw[aM (hm b _ q λz=>z),q];simp⟩⟩
 by_cases hbe:b=e
 ·subst hbe;exact heo
 ·exact⟨u,k b u hbe q⟩
end
noncomputable def RG(h:Heap)(H:Hp):List Addr:=(List.range h.objs.size).filter λa=>(H a).isSome
noncomputable def pC(h:Heap)(H:Hp):Heap:=W.hideAll h (RG h H)
theorem xD(h:Heap)(H:Hp):(pC h H).objs.size=h.objs.size:=W.hideAll_size _ _
theorem AM{h:Heap}{H:Hp}{b:Addr}{o:Obj}(e:h.get? b=some o)(n:H b=none):(pC h H).get? b=some o:=
 W.hideAll_get _ e λhm=>by
  have q:(H b).isSome=true:=(List.mem_filter.mp hm).2;rw[n] at q;simp at q
theorem EG{h:Heap}{H:Hp}{b:Addr}{o:Obj}(e:(pC h H).get? b=some o):h.get? b=some o/\H b=none:=by
 have e':h.get? b=some o:=W.of_hideAll (RG h H) e;refine⟨e',?_⟩;cases q:H b with
 |none=>rfl
 |some x=>
  have hm:b∈RG h H:=List.mem_filter.mpr ⟨List.mem_range.mpr (Heap.lt_size e'),by simp[q]⟩;have z:(pC h H).get? b=none:=W.hideAll_none (RG h H) hm;rw[z] at e;cases e
noncomputable def GP(g h:Heap)(L:Addr):List (Addr×Obj):=(List.range h.objs.size).filterMap λa=>if a=L\/(g.get? a).isSome=true then none else(h.get? a).map λo=>(a,o)
noncomputable def rest(g h:Heap)(L d:Addr):List (Addr×Obj):=(GP g h L).filter λp=>decide (p.1≠d)
end L2
namespace L2
open PySem PySem.Spec PyProof.Rows
structure Mod (K:W.Frag)(mg:Str->Option Value)(base:Heap):Prop where
 kin:K.In base
 glob:base.Ns mainGlobals mg
 blt:∃mb,base.Ns builtinsNs mb/\∀x:Str,x≠"__name__"->mb x=bootBuiltins x
 nolimit:base.NoLimit
structure Cx where
 prog:Program
 w:World
 K:W.Frag
 mg:Str->Option Value
 base:Heap
 A:Around
 N:List Str
 s₀:Shared
 H₀:Hp
 env:Env
 outer:List Env
 stack:List Env
 ex:List Addr
 fn:Str->Bool
 calm:Bool
 pn:List (Addr×Obj)
 xe:Value->Shared->Prop
noncomputable def fC(l:List Env):List Addr:=l.filterMap (·.frame)
noncomputable abbrev Cx.fs(X:Cx):List Addr:=fC X.outer
def NE(sc:Scope)(x:Str):Prop:=sc.names.lookup x=some .local\/sc.names.lookup x=some .cell\/sc.names.lookup x=some .free
def GS(sc:Scope)(x:Str):Prop:=sc.names.lookup x=some .local\/sc.names.lookup x=some .cell
def WV(env:Env)(h:Heap)(m:Str->Option Value)(x:Str)(u:Value):Prop:=
 (env.kindOf x=some .local/\m x=some u)\/((env.kindOf x=some .cell\/env.kindOf x=some .free)/\∃c,env.cells.lookup x=some c/\h.IsCell c (some u))
structure Cx.Ok (X:Cx):Prop where
 mod:Mod X.K X.mg X.base
 kind:X.env.scope.kind=.function
 glob:X.env.globals=mainGlobals
 blt:X.env.builtins=builtinsNs
 above:X.s₀.heap.objs.size<=X.env.locals
 inj:∀x y c,X.env.cells.lookup x=some c->X.env.cells.lookup y=some c->x=y
 has:∀x,(X.env.kindOf x=some .cell\/X.env.kindOf x=some .free)->∃c,X.env.cells.lookup x=some c
 cab:∀x c,X.fn x=true->X.env.cells.lookup x=some c->X.s₀.heap.objs.size<=c
 hd:X.calm=true->X.A.handled=none
 frames:X.A.frames=some X.stack
 stk:X.stack=X.outer\/(X.stack=X.env::X.outer/\X.env.frame=some X.env.locals)
 exf:∀b∈X.ex,b≠X.env.locals/\∀x c,X.env.cells.lookup x=some c->c≠b
 bs:∀b o,X.base.get? b=some o->X.s₀.heap.get? b=some o/\X.H₀ b=none
 bsz:X.base.objs.size<=X.s₀.heap.objs.size
 noex:∀b o,X.base.get? b=some o->b ∉ X.ex
 exfs:∀b∈X.ex,b ∉ X.fs
 funs:X.s₀.heap.FunFrames X.base X.outer
 frf:∀b∈X.fs,X.H₀ b=none
structure Inv (X:Cx)(pins:List (Addr×Obj))(σ:List (Option V))(H:Hp)(s:Shared):Prop where
 ok:X.Ok
 os:s.os=X.s₀.os
 bare:AllBare s.gens
 base:Un X.fs X.ex X.H₀ H X.s₀.heap s.heap
 loc:∃m,s.heap.Ns X.env.locals m/\∀(i:Nat)(x:Str)(v:V),X.N[i]? =some x->σ[i]? =some (some v)->NE X.env.scope x->∃u,RelV v u/\WV X.env s.heap m x u
 cell:∀x c,X.env.cells.lookup x=some c->∃v,s.heap.IsCell c v
 free:H X.env.locals=none
 freeC:∀x c,X.env.cells.lookup x=some c->H c=none
 pin:∀p∈X.pn++pins,s.heap.get? p.1=some p.2/\H p.1=none/\p.1≠X.env.locals/\p.1 ∉ X.fs/\∀v,p.2.data≠ .cell v
 hok:HOk X.prog X.w H s.heap
 len:σ.length=X.N.length
section
variable {X:Cx}{pins:List (Addr×Obj)}{σ:List (Option V)}{H H':Hp}{s:Shared}{h':Heap}
theorem Cx.Ok.nofr(ok:X.Ok){b:Addr}{o:Obj}(e:X.base.get? b=some o):b ∉ X.fs:=λhb=>by
 have:=(ok.funs.mem hb).1;rw[e] at this;cases this
theorem Inv.bs(I:Inv X pins σ H s):∀b o,X.base.get? b=some o->s.heap.get? b=some o/\H b=none:=λb o e=>
 ⟨I.base.keep b o (I.ok.bs b o e).1 (I.ok.bs b o e).2 (I.ok.nofr e) (I.ok.noex b o e),I.base.free b o (I.ok.bs b o e).1 (I.ok.bs b o e).2 (I.ok.noex b o e)⟩
theorem Inv.bk(I:Inv X pins σ H s):∀b o,X.base.get? b=some o->s.heap.get? b=some o:=λb o e=>(I.bs b o e).1
theorem Inv.mod(I:Inv X pins σ H s):Mod X.K X.mg X.base:=I.ok.mod
theorem Inv.kIn(I:Inv X pins σ H s):X.K.In s.heap:=I.ok.mod.kin.keeps I.bk
theorem Inv.lt(I:Inv X pins σ H s):X.env.locals<s.heap.objs.size:=let⟨_,hn,_⟩:=I.loc;hn.lt
theorem Inv.sz(I:Inv X pins σ H s):X.s₀.heap.objs.size<=s.heap.objs.size:=Nat.le_trans I.ok.above (Nat.le_of_lt I.lt)
theorem Inv.nofs(I:Inv X pins σ H s){a:Addr}(h:s.heap.objs.size<=a):a ∉ X.fs:=λhb=>by
 obtain⟨_,o,ho,_⟩:=I.ok.funs.mem hb;exact absurd (Nat.lt_of_lt_of_le (Heap.lt_size ho) (Nat.le_trans I.sz h)) (Nat.lt_irrefl _)
theorem Inv.cne(I:Inv X pins σ H s):∀x c,X.env.cells.lookup x=some c->c≠X.env.locals:=λx c e z=>by
 obtain⟨v,o,ho,hd⟩:=I.cell x c e;obtain⟨m,⟨o',es,ep,ho',hd',_⟩,_⟩:=I.loc;rw[z,ho'] at ho;cases ho;rw[hd'] at hd;cases hd
theorem Inv.funs(I:Inv X pins σ H s):s.heap.FunFrames X.base X.outer:=by
 have all:∀(l:List Env),(∀b∈fC l,b∈X.fs)->X.s₀.heap.FunFrames X.base l->s.heap.FunFrames X.base l:=by
  intro l
  induction l with
  |nil=>intro _ _;trivial
  |cons env r ih=>
   intro hs hl;obtain⟨hk,⟨L,o,hf,hn,ho,hd⟩,hr⟩:=hl;have hL:L∈X.fs:=hs L (by unfold fC;rw[List.filterMap_cons,hf];exact Zl);obtain⟨sl,e⟩:=I.base.slot L o ho (I.ok.frf L hL) hL λz=>I.ok.exfs L z hL;exact⟨hk,⟨L,_,hf,hn,e,hd⟩,ih (λb hb=>hs b (by unfold fC;rw[List.filterMap_cons,hf];exact Zj _ hb)) hr⟩
 exact all X.outer (λ_ hb=>hb) I.ok.funs
theorem Inv.stack(I:Inv X pins σ H s):s.heap.FunFrames X.base X.stack:=by
 rcases I.ok.stk with e|⟨e,hf⟩
 ·rw[e];exact I.funs
 ·rw[e];obtain⟨m,hn,_⟩:=I.loc;refine .cons (by rw[I.ok.kind];decide) hf hn ?_ I.funs;exact Heap.get?_none_of_le (Nat.le_trans I.ok.bsz I.ok.above)
theorem Inv.stkSub(I:Inv X pins σ H s):∀b∈fC X.stack,b∈X.env.locals::X.fs:=λb hb=>by
 rcases I.ok.stk with e|⟨e,hf⟩
 ·rw[e] at hb;exact Zj _ hb
 ·rw[e] at hb;unfold fC at hb;rw[List.filterMap_cons,hf] at hb;exact hb
theorem Inv.stkFree(I:Inv X pins σ H s):∀b∈fC X.stack,H b=none:=λb hb=>by
 rcases List.mem_cons.mp (I.stkSub b hb) with e|hb
 ·rw[e];exact I.free
 ·obtain⟨_,o,ho,_⟩:=I.ok.funs.mem hb;exact I.base.free b o ho (I.ok.frf b hb) λz=>I.ok.exfs b z hb
theorem Inv.step{g':Array GenState}{t':Nat}{d':Drawn}{ch:List Addr}(I:Inv X pins σ H s)
 (hch:∀b∈ch,(b∈X.ex\/X.s₀.heap.objs.size<=b)/\b≠X.env.locals/\(∀x c,X.env.cells.lookup x=some c->c≠b)/\∀p∈X.pn++pins,p.1≠b)
 (keep:∀b o,b≠X.env.locals->b ∉ X.fs->b ∉ ch->s.heap.get? b=some o->H b=none->h'.get? b=some o)
 (slot:∀b o,b≠X.env.locals->b∈X.fs->b ∉ ch->s.heap.get? b=some o->H b=none->∃sl,h'.get? b=some {o with slots:=sl})(free:∀b o,b ∉ ch->s.heap.get? b=some o->H b=none->H' b=none)
 (there:∀b o,b ∉ ch->s.heap.get? b=some o->∃o',h'.get? b=some o')
 (tups:∀b xs,H b=some (.tup xs)->H' b=some (.tup xs))(frzs:∀b o u,H b=some (.frz o u)->H' b=some (.frz o u))(tbls:∀b ps,H b=some (.tbl ps)->∃more,H' b=some (.tbl (ps++more)))
 (ns:∀m,s.heap.Ns X.env.locals m->h'.Ns X.env.locals m)(hok:HOk X.prog X.w H' h')(hg:AllBare g'):
 Inv X pins σ H' {s with heap:=h',gens:=g',drawn:=d',toks:=t'}:=by
 have neL:∀b o,X.s₀.heap.get? b=some o->b≠X.env.locals:=λb o e=>Nat.ne_of_lt (Nat.lt_of_lt_of_le (Heap.lt_size e) I.ok.above)
 have neC:∀b o,X.s₀.heap.get? b=some o->b ∉ X.ex->b ∉ ch:=λb o e hx hb=>by
  rcases(hch b hb).1 with z|z
  ·exact hx z
  ·exact absurd (Nat.lt_of_lt_of_le (Heap.lt_size e) z) (Nat.lt_irrefl _)
 have cellK:∀x c,X.env.cells.lookup x=some c->∀v,s.heap.IsCell c v->h'.IsCell c v:=λx c e v ⟨o,ho,hd⟩=>by
  have nch:c ∉ ch:=λz=>(hch c z).2.2.1 x c e rfl
  by_cases hc:c∈X.fs
  ·obtain⟨sl,q⟩:=slot c o (I.cne x c e) hc nch ho (I.freeC x c e);exact⟨_,q,hd⟩
  ·exact⟨o,keep c o (I.cne x c e) hc nch ho (I.freeC x c e),hd⟩
 refine⟨I.ok,I.os,hg,⟨λb o e n hb hx=>?_,λb o e n hb hx=>?_,λb o e n hx=>?_,λb o e hx=>?_,λb xs e=>tups b xs (I.base.tups b xs e),λb o xs e=>frzs b o xs (I.base.frzs b o xs e),λb ps e=>?_⟩,?_,λx c e=>?_,?_,λx c e=>?_,λp hp=>?_,hok,I.len⟩
 ·exact keep b o (neL b o e) hb (neC b o e hx) (I.base.keep b o e n hb hx) (I.base.free b o e n hx)
 ·obtain⟨sl,e1⟩:=I.base.slot b o e n hb hx;obtain⟨sl',e2⟩:=slot b _ (neL b o e) hb (neC b o e hx) e1 (I.base.free b o e n hx);exact⟨sl',e2⟩
 ·obtain⟨o',e1⟩:=I.base.there b o e hx;exact free b o' (neC b o e hx) e1 (I.base.free b o e n hx)
 ·obtain⟨o',e1⟩:=I.base.there b o e hx;exact there b o' (neC b o e hx) e1
 ·obtain⟨m1,e1⟩:=I.base.tbls b ps e;obtain⟨m2,e2⟩:=tbls b _ e1;exact⟨m1++m2,by rw[e2,Array.append_assoc]⟩
 ·obtain⟨m,hn,hl⟩:=I.loc;refine⟨m,ns m hn,λi x v e1 e2 e3=>?_⟩;obtain⟨u,r,l⟩:=hl i x v e1 e2 e3;refine⟨u,r,?_⟩;rcases l with l|⟨k,c,e,z⟩
  ·exact .inl l
  ·exact .inr ⟨k,c,e,cellK x c e _ z⟩
 ·obtain⟨v,z⟩:=I.cell x c e;exact⟨v,cellK x c e v z⟩
 ·obtain⟨m,⟨o,_,_,ho,_⟩,_⟩:=I.loc;exact free _ o (λz=>(hch _ z).2.1 rfl) ho I.free
 ·obtain⟨v,o,ho,hd⟩:=I.cell x c e;exact free c o (λz=>(hch c z).2.2.1 x c e rfl) ho (I.freeC x c e)
 ·obtain⟨e,n,ne,nf,d⟩:=I.pin p hp;have nch:p.1 ∉ ch:=λz=>(hch p.1 z).2.2.2 p hp rfl;exact⟨keep p.1 p.2 ne nf nch e n,free p.1 p.2 nch e n,ne,nf,d⟩
theorem Inv.un{t':Nat}(I:Inv X pins σ H s)(u:Un X.fs [] H H' s.heap h')(hok:HOk X.prog X.w H' h'):Inv X pins σ H' {s with heap:=h',toks:=t'}:=by
 obtain⟨m,⟨o,es,ep,ho,r⟩,_⟩:=id I.loc;obtain⟨sl,hL⟩:=u.any ho I.free (by simp)
 exact I.step (g':=s.gens) (d':=s.drawn) (ch:= []) (λ_ z=>nomatch z) (λb o _ hb _ e n=>u.keep b o e n hb (by simp)) (λb o _ hb _ e n=>u.slot b o e n hb (by simp)) (λb o _ e n=>u.free b o e n (by simp)) (λb o _ e=>u.there b o e (by simp)) u.tups u.frzs u.tbls (λm' hm=>by
  obtain⟨o',es',ep',ho',r'⟩:=hm;rw[ho] at ho';cases ho';exact⟨_,es',ep',hL,r'⟩) hok I.bare
theorem Inv.call{g':Array GenState}{t':Nat}{d':Drawn}{ch:List Addr}(I:Inv X pins σ H s)(u:Un (fC X.stack) ch H H' s.heap h')(hok:HOk X.prog X.w H' h')(hg:AllBare g')
 (hch:∀b∈ch,(b∈X.ex\/X.s₀.heap.objs.size<=b)/\b≠X.env.locals/\(∀x c,X.env.cells.lookup x=some c->c≠b)/\∀p∈X.pn++pins,p.1≠b):
 Inv X pins σ H' {s with heap:=h',gens:=g',drawn:=d',toks:=t'}:=by
 obtain⟨m,⟨o,es,ep,ho,r⟩,_⟩:=id I.loc;obtain⟨sl,hL⟩:=u.any ho I.free λz=>(hch _ z).2.1 rfl
 exact I.step (ch:=ch) hch (λb o hL hb hc e n=>u.keep b o e n (λz=>(List.mem_cons.mp (I.stkSub b z)).elim hL hb) hc) (λb o _ _ hc e n=>u.any e n hc) (λb o hc e n=>u.free b o e n hc) (λb o hc e=>u.there b o e hc) u.tups u.frzs u.tbls (λm' hm=>by
  obtain⟨o',es',ep',ho',r'⟩:=hm;rw[ho] at ho';cases ho';exact⟨_,es',ep',hL,r'⟩) hok hg
theorem Inv.turned{t':Nat}{it:Addr}(I:Inv X pins σ H s)(k:∀b o,b≠it->s.heap.get? b=some o->h'.get? b=some o)(hn:H it=none)(hL:it≠X.env.locals)
 (h1:it∈X.ex\/X.s₀.heap.objs.size<=it)(h2:∀x c,X.env.cells.lookup x=some c->c≠it)(h3:∀p∈X.pn++pins,p.1≠it):Inv X pins σ H {s with heap:=h',toks:=t'}:=by
 have nit:∀b u,H b=some u->b≠it:=λb u e z=>by rw[z,hn] at e;cases e
 refine I.step (g':=s.gens) (d':=s.drawn) (ch:= [it]) (λb hb=>?_) (λb o _ _ hc e _=>k b o (λz=>hc (by simp[z])) e) (λb o _ _ hc e _=>⟨o.slots,k b o (λz=>hc (by simp[z])) e⟩) (λ_ _ _ _ n=>n)
  (λb o hc e=>⟨o,k b o (λz=>hc (by simp[z])) e⟩) (λ_ _ e=>e) (λ_ _ _ e=>e) (λb ps e=>⟨#[],by rw[e];simp⟩) (λm hm=>?_) (λb u e=>?_) I.bare
 ·have e:b=it:=by simpa using hb
  subst e;exact⟨h1,hL,h2,h3⟩
 ·obtain⟨o,es,ep,ho,r⟩:=hm;exact⟨o,es,ep,k _ o (Ne.symm hL) ho,r⟩
 ·refine(I.hok b u e).stay (λc v hc q=>k c v ?_ q) (λ_ q=>q) λ_ _ q=>q;rcases hc with z|z
  ·rw[z];exact nit b u e
  ·exact nit c _ z
theorem Inv.tok(I:Inv X pins σ H s)(t:Nat):Inv X pins σ H {s with toks:=t}:=I.un (h':=s.heap) (t':=t) Un.refl I.hok
theorem Inv.kept{t':Nat}(I:Inv X pins σ H s)(k:∀b u,s.heap.get? b=some u->h'.get? b=some u):Inv X pins σ H {s with heap:=h',toks:=t'}:=I.un (Un.kept k) (I.hok.kept k)
theorem Inv.laid{a:Addr}{o:HO}{t':Nat}(I:Inv X pins σ H s)(k:∀b u,s.heap.get? b=some u->h'.get? b=some u)(hp:s.heap.objs.size<=a)(new:ObjOk X.prog X.w (bV H a o) h' a o):
 Inv X pins σ (bV H a o) {s with heap:=h',toks:=t'}:=I.un (Un.laid k hp (I.hok.fresh hp)) (I.hok.laid k hp new)
theorem Inv.write{x e:Addr}{o:HO}{t':Nat}(I:Inv X pins σ H s)(mu:QW (H x))(he:e=x\/H e=some (.own x))(k:∀b u,b≠e->s.heap.get? b=some u->h'.get? b=some u)(heo:∃u,h'.get? e=some u)
 (new:ObjOk X.prog X.w (bV H x o) h' x o):Inv X pins σ (bV H x o) {s with heap:=h',toks:=t'}:=I.un (Un.write mu he k heo) (I.hok.write mu he k heo new)
theorem Inv.pins_of{pins':List (Addr×Obj)}(I:Inv X pins σ H s)(h:∀p∈pins',s.heap.get? p.1=some p.2/\H p.1=none/\p.1≠X.env.locals/\p.1 ∉ X.fs/\∀v,p.2.data≠ .cell v):Inv X pins' σ H s:=
 ⟨I.ok,I.os,I.bare,I.base,I.loc,I.cell,I.free,I.freeC,λp hp=>(List.mem_append.mp hp).elim (λz=>I.pin p (List.mem_append_left _ z)) (h p),I.hok,I.len⟩
theorem lW{N:List Str}(hN:N.Nodup){i j:Nat}{x:Str}(a:N[i]? =some x)(b:N[j]? =some x):i=j:=by
 obtain⟨h1,e1⟩:=Ze.mp a;obtain⟨h2,e2⟩:=Ze.mp b;exact(List.getElem_inj hN).mp (e1.trans e2.symm)
theorem nK{M:Model}{A:Around}{E:Value->Shared->Prop}{i:Nat}{x:Str}{v:V}{u:Value}{Q:Unit->Shared->Prop}(I:Inv X pins σ H s)(hN:X.N.Nodup)(hi:X.N[i]? =some x)(hx:GS X.env.scope x)(r:RelV v u)
 (h:∀s',Inv X pins (σ.set i (some v)) H s'->(∃a,Heap.SameBut a s.heap s'.heap/\(a=X.env.locals\/X.env.cells.lookup x=some a))->Q () s')(hf:X.fn x=true\/X.env.scope.names.lookup x=some .local:=by first |exact .inl rfl|exact .inr rfl|assumption):wpAny M A (storeName X.env x u) Q E s:=by
 obtain⟨m,hn,hl⟩:=id I.loc;have hcls:(X.env.scope.kind== .class||(X.env.scope.kind== .module&&X.env.locals != X.env.globals))=false:=by rw[I.ok.kind];rfl
 have hiσ:i<σ.length:=by rw[I.len];exact(Ze.mp hi).1
 have cne:=I.cne
 have tracked:∀{a:Addr}{h':Heap},(∃o,s.heap.get? a=some o/\H a=none)->Heap.SameBut a s.heap h'->HOk X.prog X.w H h':=λ{a h'} ha hs b ob e=>by
  obtain⟨_,_,hfree⟩:=ha;refine(I.hok b ob e).stay (λc w' hc q=>(hs.2 c ?_).trans q) (λ_ q=>q) λ_ _ q=>q;rintro rfl;rcases hc with rfl|hc
  ·rw[hfree] at e;cases e
  ·rw[hfree] at hc;cases hc
 rcases hx with hk|hk
 ·refine wpAny_storeName_local hk hn (λh' hn' hs=>?_) hcls;obtain⟨oL,_,_,hoL,_⟩:=id hn;refine h _ ⟨I.ok,I.os,I.bare,⟨λb o e n hb hx=>?_,λb o e n hb hx=>?_,I.base.free,λb o e hx=>?_,I.base.tups,I.base.frzs,I.base.tbls⟩,⟨_,hn',λj y v' e1 e2 e3=>?_⟩,λy c e=>?_,I.free,I.freeC,λp hp=>?_,tracked ⟨oL,hoL,I.free⟩ hs,by simpa using I.len⟩ ⟨_,hs,.inl rfl⟩
  ·exact(hs.2 b (Nat.ne_of_lt (Nat.lt_of_lt_of_le (Heap.lt_size e) I.ok.above))).trans (I.base.keep b o e n hb hx)
  ·obtain⟨sl,e1⟩:=I.base.slot b o e n hb hx;exact⟨sl,(hs.2 b (Nat.ne_of_lt (Nat.lt_of_lt_of_le (Heap.lt_size e) I.ok.above))).trans e1⟩
  ·obtain⟨o',e1⟩:=I.base.there b o e hx;exact⟨o',(hs.2 b (Nat.ne_of_lt (Nat.lt_of_lt_of_le (Heap.lt_size e) I.ok.above))).trans e1⟩
  ·by_cases hj:j=i
   ·subst hj;rw[hi] at e1;cases e1;rw[List.getElem?_set_self hiσ] at e2;cases e2;exact⟨u,r,.inl ⟨hk,by simp⟩⟩
   ·rw[List.getElem?_set_ne (Ne.symm hj)] at e2;obtain⟨u',r',q⟩:=hl j y v' e1 e2 e3;refine⟨u',r',?_⟩;rcases q with ⟨k,e⟩|⟨k,c,e,z⟩
    ·refine .inl ⟨k,?_⟩;have:y≠x:=λe=>hj (lW hN e1 (e ▸ hi));simp[this,e]
    ·exact .inr ⟨k,c,e,z.sameBut hs (cne y c e)⟩
  ·obtain⟨w',z⟩:=I.cell y c e;exact⟨w',z.sameBut hs (cne y c e)⟩
  ·obtain⟨e,n,ne,nf,d⟩:=I.pin p hp;exact⟨(hs.2 p.1 ne).trans e,n,ne,nf,d⟩
 ·have hfn:X.fn x=true:=by
   rcases hf with z|z
   ·exact z
   ·rw[z] at hk;cases hk
  obtain⟨c,hc⟩:=I.ok.has x (.inl hk);obtain⟨w',z⟩:=I.cell x c hc;refine wpAny_storeName_cell I.ok.kind hk hc z (λh' hc' hs=>?_);obtain⟨oc,hoc,hocd⟩:=id z;refine h {s with heap:=h'} ⟨I.ok,I.os,I.bare,⟨λb o e n hb hx=>?_,λb o e n hb hx=>?_,I.base.free,λb o e hx=>?_,I.base.tups,I.base.frzs,I.base.tbls⟩,⟨m,hn.sameBut hs (Ne.symm (cne x c hc)),λj y v' e1 e2 e3=>?_⟩,λy c' e=>?_,I.free,I.freeC,λp hp=>?_,tracked ⟨oc,hoc,I.freeC x c hc⟩ hs,by simpa using I.len⟩ ⟨c,hs,.inr hc⟩
  ·exact(hs.2 b (Nat.ne_of_lt (Nat.lt_of_lt_of_le (Heap.lt_size e) (I.ok.cab x c hfn hc)))).trans (I.base.keep b o e n hb hx)
  ·obtain⟨sl,e1⟩:=I.base.slot b o e n hb hx;exact⟨sl,(hs.2 b (Nat.ne_of_lt (Nat.lt_of_lt_of_le (Heap.lt_size e) (I.ok.cab x c hfn hc)))).trans e1⟩
  ·obtain⟨o',e1⟩:=I.base.there b o e hx;exact⟨o',(hs.2 b (Nat.ne_of_lt (Nat.lt_of_lt_of_le (Heap.lt_size e) (I.ok.cab x c hfn hc)))).trans e1⟩
  ·by_cases hj:j=i
   ·subst hj;rw[hi] at e1;cases e1;rw[List.getElem?_set_self hiσ] at e2;cases e2;exact⟨u,r,.inr ⟨.inl hk,c,hc,hc'⟩⟩
   ·rw[List.getElem?_set_ne (Ne.symm hj)] at e2;obtain⟨u',r',q⟩:=hl j y v' e1 e2 e3;refine⟨u',r',?_⟩;rcases q with q|⟨k,c',e,z'⟩
    ·exact .inl q
    ·refine .inr ⟨k,c',e,z'.sameBut hs ?_⟩;rintro rfl;exact hj (lW hN e1 (I.ok.inj _ _ _ e hc ▸ hi))
  ·by_cases hcc:c'=c
   ·subst hcc;exact⟨_,hc'⟩
   ·obtain⟨w2,z2⟩:=I.cell y c' e;exact⟨w2,z2.sameBut hs hcc⟩
  ·obtain⟨e,n,ne,nf,d⟩:=I.pin p hp;refine⟨(hs.2 p.1 ?_).trans e,n,ne,nf,d⟩;intro q;rw[q,hoc] at e;have q':oc=p.2:=Zg e;exact d w' (by rw[<- q'];exact hocd)
theorem lL{M:Model}{A:Around}{E:Value->Shared->Prop}{i:Nat}{x:Str}{v:V}{u:Value}{Q:Unit->Shared->Prop}(I:Inv X pins σ H s)(hN:X.N.Nodup)(hi:X.N[i]? =some x)(hx:GS X.env.scope x)(r:RelV v u)
 (h:∀s',Inv X pins (σ.set i (some v)) H s'->Q () s')(hf:X.fn x=true\/X.env.scope.names.lookup x=some .local:=by first |exact .inl rfl|exact .inr rfl|assumption):wpAny M A (storeName X.env x u) Q E s:=
 nK I hN hi hx r (λs' I' _=>h s' I') hf
theorem Inv.call'{s':Shared}{ch:List Addr}(I:Inv X pins σ H s)(ho:s'.os=s.os)(u:Un (fC X.stack) ch H H' s.heap s'.heap)(hok:HOk X.prog X.w H' s'.heap)(hg:AllBare s'.gens)
 (hch:∀b∈ch,(b∈X.ex\/X.s₀.heap.objs.size<=b)/\b≠X.env.locals/\(∀x c,X.env.cells.lookup x=some c->c≠b)/\∀p∈X.pn++pins,p.1≠b):Inv X pins σ H' s':=by
 obtain⟨h',g',d',t',o'⟩:=s';have e:o'=s.os:=ho;subst e;exact I.call (g':=g') (t':=t') (d':=d') u hok hg hch
end
noncomputable abbrev XK:=Value->Option Addr->Hp->Prop
noncomputable abbrev St:=List (Option V)
noncomputable abbrev VK:=V->Hp->Prop
noncomputable abbrev TE:=St->Hp->VK->Prop
noncomputable abbrev TT:=St->Hp->(Bool->Hp->Prop)->Prop
noncomputable abbrev TA:=St->Hp->(List V->Hp->Prop)->Prop
structure Ends where
 nx:St->Hp->Prop
 rt:VK
 bk:St->Hp->Prop:=λ_ _=>False
 ct:St->Hp->Prop:=λ_ _=>False
noncomputable abbrev TS:=Ends->St->Hp->Prop
def EP(X:Cx)(pins:List (Addr×Obj))(σ:St)(Q:VK)(u:Value)(s':Shared):Prop:=∃v H',Inv X pins σ H' s'/\RelV v u/\Q v H'
def TP(X:Cx)(pins:List (Addr×Obj))(σ:St)(Q:Bool->Hp->Prop)(b:Bool)(s':Shared):Prop:=∃H',Inv X pins σ H' s'/\Q b H'
def AP(X:Cx)(pins:List (Addr×Obj))(σ:St)(Q:List V->Hp->Prop)(us:List Value)(s':Shared):Prop:=∃vs H',Inv X pins σ H' s'/\Vals vs us/\Q vs H'
def SP(X:Cx)(pins:List (Addr×Obj))(D:Ends)(f:Flow)(s':Shared):Prop:=
 match f with
 |.next=>∃σ' H',Inv X pins σ' H' s'/\D.nx σ' H'
 |.brk=>∃σ' H',Inv X pins σ' H' s'/\D.bk σ' H'
 |.cont=>∃σ' H',Inv X pins σ' H' s'/\D.ct σ' H'
 |.ret u=>∃v σ' H',Inv X pins σ' H' s'/\RelV v u/\D.rt v H'
def PE(X:Cx)(e:Expr)(t:TE):Prop:=
 ∀(pins:List (Addr×Obj))(s:Shared)(σ:St)(H:Hp)(Q:VK),Inv X pins σ H s->t σ H Q->wpAny (model X.prog X.w) X.A (eval e X.env) (EP X pins σ Q) X.xe s
def PT(X:Cx)(e:Expr)(t:TT):Prop:=
 ∀(pins:List (Addr×Obj))(s:Shared)(σ:St)(H:Hp)(Q:Bool->Hp->Prop),Inv X pins σ H s->t σ H Q->wpAny (model X.prog X.w) X.A (isTrue e X.env (eval e X.env)) (TP X pins σ Q) X.xe s
def PW(X:Cx)(e:Expr)(t:TT):Prop:=
 ∀(whole:Sem Value)(pins:List (Addr×Obj))(s:Shared)(σ:St)(H:Hp)(Q:Bool->Hp->Prop),Inv X pins σ H s->t σ H Q->wpAny (model X.prog X.w) X.A (isTrue e X.env whole) (TP X pins σ Q) X.xe s
theorem PW.pt{X:Cx}{e:Expr}{t:TT}(h:PW X e t):PT X e t:=h _
def PA(X:Cx)(es:List Expr)(t:TA):Prop:=
 ∀(pos:Pos)(pins:List (Addr×Obj))(s:Shared)(σ:St)(H:Hp)(Q:List V->Hp->Prop),Inv X pins σ H s->t σ H Q->wpAny (model X.prog X.w) X.A (spliced (backTo pos (starEach es X.env))) (AP X pins σ Q) X.xe s
def PS(X:Cx)(st:Stmt)(t:TS):Prop:=
 ∀(pins:List (Addr×Obj))(s:Shared)(σ:St)(H:Hp)(D:Ends),Inv X pins σ H s->t D σ H->wpAny (model X.prog X.w) X.A (exec st X.env) (SP X pins D) X.xe s
def PSs(X:Cx)(st:List Stmt)(t:TS):Prop:=
 ∀(pins:List (Addr×Obj))(s:Shared)(σ:St)(H:Hp)(D:Ends),Inv X pins σ H s->t D σ H->wpAny (model X.prog X.w) X.A (execs st X.env) (SP X pins D) X.xe s
theorem bS{α:Type}{t:Sem α}{Q Q':α->Shared->Prop}{M:Model}{A:Around}{E:Value->Shared->Prop}{s:Shared}(h:wpAny M A t Q E s)(hQ:∀a s,Q a s->Q' a s):wpAny M A t Q' E s:=wpAny_mono h hQ λ_ _ x=>x
end L2
namespace L2
open PySem PySem.Spec PyProof.Rows
section
variable {X:Cx}
theorem bin{a b:Expr}{ta tb:TE}(ha:PE X a ta)(hb:PE X b tb){pins:List (Addr×Obj)}{s:Shared}{σ:St}{H:Hp}{R:V->V->Hp->Prop}(I:Inv X pins σ H s)(h:ta σ H λx H1=>tb σ H1 λy H2=>R x y H2)
 {α:Type}{Q:α->Shared->Prop}{f:Value->Value->Sem α}
 (hf:∀v u s2 x y H2,Inv X pins σ H2 s2->RelV x v->RelV y u->R x y H2->wpAny (model X.prog X.w) X.A (f v u) Q X.xe s2):
 wpAny (model X.prog X.w) X.A (eval a X.env) (λv s₁=>wpAny (model X.prog X.w) X.A (eval b X.env) (λu s₂=>wpAny (model X.prog X.w) X.A (f v u) Q X.xe s₂) X.xe s₁) X.xe s:=by
 refine bS (ha pins s σ H _ I h) λv s1 ⟨x,H1,I1,r1,q1⟩=>?_;refine bS (hb pins s1 σ H1 _ I1 q1) λu s2 ⟨y,H2,I2,r2,q2⟩=>?_;exact hf v u s2 x y H2 I2 r1 r2 q2
def iK(i:Nat):TE:=λσ H Q=>∃v,σ[i]? =some (some v)/\Q v H
def tC(v:V):TE:=λ_ H Q=>Q v H
theorem KC{i:Nat}{x:Str}{pos:Pos}(hN:X.N[i]? =some x)(hv:NE X.env.scope x)(hd:(x==("__debug__":Str))=false:=by decide)(hcd:(x==("__classdict__":Str))=false:=by decide):PE X (.Name x pos) (iK i):=by
 intro pins s σ H Q I h;obtain⟨v,e,h⟩:=h;obtain⟨m,hn,hl⟩:=I.loc;obtain⟨u,r,l⟩:=hl i x v hN e hv;have fin:EP X pins σ Q u s:=⟨v,H,I,r,h⟩;rcases l with ⟨hk,hm⟩|⟨hk,c,hc,hcell⟩
 ·exact wpAny_Name (wpAny_loadName_local I.ok.kind hk hn hm fin) hd
 ·rcases hk with hk|hk
  ·exact wpAny_Name (wpAny_loadName_cell I.ok.kind hk hc hcell fin) hd
  ·exact wpAny_Name (wpAny_loadName_free I.ok.kind hk hc hcell fin hcd) hd
theorem sQ{i j pos}:PE X (.Constant (.int i) j pos) (tC (.int i)):=λ_ _ _ H _ I h=>wpAny_Constant_int ⟨.int i,H,I.tok _,⟨_,rfl⟩,h⟩
theorem HI{b j pos}:PE X (.Constant (.bool b) j pos) (tC (.bl b)):=λ_ _ _ H _ I h=>Constant_bool ⟨.bl b,H,I,rfl,h⟩
theorem KG{j pos}:PE X (.Constant .none j pos) (tC .non):=λ_ _ _ H _ I h=>Constant_none ⟨.non,H,I,rfl,h⟩
theorem fY{x j pos}:PE X (.Constant (.str x) j pos) (tC (.str x)):=λ_ _ _ H _ I h=>Calls.Constant_str ⟨.str x,H,I.tok _,⟨_,rfl⟩,h⟩
def Gl(X:Cx)(x:Str):Prop:=X.env.kindOf x=some .globalImplicit
theorem gB{E:Value->Shared->Prop}{pins:List (Addr×Obj)}{s:Shared}{σ:St}{H:Hp}{x:Str}{u:Value}{pos:Pos}{Q:Value->Shared->Prop}(I:Inv X pins σ H s)(hg:Gl X x)(hm:X.mg x=some u)(h:Q u s)
 (hd:(x==("__debug__":Str))=false:=by decide):wpAny (model X.prog X.w) X.A (eval (.Name x pos) X.env) Q E s:=
 Calls.Name_function_global I.ok.kind hg (Calls.loadGlobal_global (by rw[I.ok.glob];exact I.mod.glob.keeps I.bk) hm h) hd
theorem jJ{E:Value->Shared->Prop}{pins:List (Addr×Obj)}{s:Shared}{σ:St}{H:Hp}{x:Str}{u:Value}{pos:Pos}{Q:Value->Shared->Prop}(I:Inv X pins σ H s)(hg:Gl X x)(hm:X.mg x=none)(hv:bootBuiltins x=some u)(h:Q u s)
 (hn:x≠"__name__":=by decide)(hd:(x==("__debug__":Str))=false:=by decide):wpAny (model X.prog X.w) X.A (eval (.Name x pos) X.env) Q E s:=by
 obtain⟨mb,h1,h2⟩:=I.mod.blt;exact Calls.Name_function_global I.ok.kind hg (Calls.loadGlobal_builtin (by rw[I.ok.glob];exact I.mod.glob.keeps I.bk) hm (by rw[I.ok.blt];exact h1.keeps I.bk) ((h2 x hn).trans hv) h) hd
theorem uN{x:Str}{v:V}{u:Value}{pos:Pos}(hg:Gl X x)(hm:X.mg x=some u)(r:RelV v u)(hd:(x==("__debug__":Str))=false:=by decide):PE X (.Name x pos) (tC v):=
 λ_ _ _ H _ I h=>gB I hg hm ⟨v,H,I,r,h⟩ hd
theorem kQ{x:Str}{v:V}{u:Value}{pos:Pos}(hg:Gl X x)(hm:X.mg x=none)(hv:bootBuiltins x=some u)(r:RelV v u)(hn:x≠"__name__":=by decide)(hd:(x==("__debug__":Str))=false:=by decide):PE X (.Name x pos) (tC v):=
 λ_ _ _ H _ I h=>jJ I hg hm hv ⟨v,H,I,r,h⟩ hn hd
variable {a b:Expr}{ta tb:TE}{pos:Pos}
def PC(X:Cx)(op:CmpOp)(a b:Expr)(t:TE):Prop:=
 ∀(pins:List (Addr×Obj))(s:Shared)(σ:St)(H:Hp)(Q:VK),Inv X pins σ H s->t σ H Q->
  wpAny (model X.prog X.w) X.A (eval a X.env) (λv s₁=>wpAny (model X.prog X.w) X.A (eval b X.env) (λu s₂=>wpAny (model X.prog X.w) X.A (compareOp op v u) (EP X pins σ Q) X.xe s₂) X.xe s₁) X.xe s
theorem zY(b:Expr){op:CmpOp}(h:op≠ .In)(h2:op≠ .NotIn):behindInMarks op b=false:=by
 have e1:(op==CmpOp.In)=false:=by cases op<;>first |rfl|exact absurd rfl h
 have e2:(op==CmpOp.NotIn)=false:=by cases op<;>first |rfl|exact absurd rfl h2
 cases b<;>simp[behindInMarks,e1,e2]
def TD(ta:TE):TE:=λσ H Q=>ta σ H λx H1=>Q (.bl (decide (x=.non))) H1
theorem RelV.none_iff{x:V}{v:Value}(r:RelV x v):(v==Value.none)=decide (x=.non):=by
 cases x with
 |non=>cases r;rfl
 |bl _=>cases r;rfl
 |int _=>obtain⟨t,rfl⟩:=r;rfl
 |str _=>obtain⟨t,rfl⟩:=r;rfl
 |byt _=>obtain⟨t,rfl⟩:=r;rfl
 |flt _=>obtain⟨t,rfl⟩:=r;rfl
 |ref _=>cases r;rfl
 |ty _=>cases r;rfl
theorem KK{j pos'}(ha:PE X a ta):PC X .Is a (.Constant .none j pos') (TD ta):=by
 intro pins s σ H Q I h;refine bS (ha pins s σ H _ I h) λv s1 ⟨x,H1,I1,r1,q1⟩=>?_;exact Constant_none (is_none_gen ⟨.bl _,H1,I1,by rw[r1.none_iff];rfl,q1⟩)
def tB(t:TE):TT:=λσ H Q=>t σ H λx H1=>∃c,x=.bl c/\Q c H1
theorem JX{op:CmpOp}{t:TE}(h:PC X op a b t)(h1:behindInMarks op b=false:=by first |exact zY _ (by decide) (by decide)|rfl):PT X (.Compare a [op] [b] pos) (tB t):=by
 intro pins s σ H Q I hw;refine wpAny_isTrue_Compare1 (bS (h pins s σ H _ I hw) λv s1 h1=>bS h1 λu s2 h2=>bS h2 λc s3 ⟨x,H1,I1,r1,q1⟩=>?_) h1;obtain⟨d,rfl,q⟩:=q1;cases r1;exact wpAny_truthy_bool ⟨H1,I1,q⟩
variable {tA tB':TT}{rest:List Expr}
def TJ(t u:TT):TT:=λσ H Q=>t σ H λc H1=>if c=true then u σ H1 Q else Q false H1
def tOr(t u:TT):TT:=λσ H Q=>t σ H λc H1=>if c=true then Q true H1 else u σ H1 Q
def TB(t:TT):TT:=λσ H Q=>t σ H λc H1=>Q (!c) H1
theorem uG(ha:PT X a tA):PW X (.BoolOp .And [a] pos) tA:=by
 intro wh pins s σ H Q I h;refine isTrue_and (bS (ha pins s σ H Q I h) λc s1 e=>?_);cases c with
 |true=>exact isTrue_and_nil e
 |false=>exact e
theorem zE(ha:PT X a tA):PW X (.BoolOp .Or [a] pos) tA:=by
 intro wh pins s σ H Q I h;refine isTrue_or (bS (ha pins s σ H Q I h) λc s1 e=>?_);cases c with
 |false=>exact isTrue_or_nil e
 |true=>exact e
theorem zG(ha:PT X a tA)(hb:PW X (.BoolOp .And (b::rest) pos) tB'):PW X (.BoolOp .And (a::b::rest) pos) (TJ tA tB'):=by
 intro wh pins s σ H Q I h;refine isTrue_and (bS (ha pins s σ H _ I h) λc s1 ⟨H1,I1,q1⟩=>?_);cases c with
 |true=>exact hb wh pins s1 σ H1 Q I1 q1
 |false=>exact⟨H1,I1,q1⟩
theorem HE(ha:PT X a tA)(hb:PW X (.BoolOp .Or (b::rest) pos) tB'):PW X (.BoolOp .Or (a::b::rest) pos) (tOr tA tB'):=by
 intro wh pins s σ H Q I h;refine isTrue_or (bS (ha pins s σ H _ I h) λc s1 ⟨H1,I1,q1⟩=>?_);cases c with
 |true=>exact⟨H1,I1,q1⟩
 |false=>exact hb wh pins s1 σ H1 Q I1 q1
theorem zI(ha:PT X a tA):PT X (.UnaryOp .Not a pos) (TB tA):=by
 intro pins s σ H Q I h;exact isTrue_not (ha pins s σ H (λc H1=>Q (!c) H1) I h)
def NY(ta tb:TE):TE:=λσ H Q=>ta σ H λx H1=>∃c,x=.bl c/\if c=true then tb σ H1 Q else Q (.bl false) H1
theorem oR{op}{t:TE}(h:PE X a t):PE X (.BoolOp op [a] pos) t:=λpins s σ H Q I hw=>BoolOp_one (h pins s σ H Q I hw)
theorem KJ(ha:PE X a ta)(hb:PE X (.BoolOp .And (b::rest) pos) tb):PE X (.BoolOp .And (a::b::rest) pos) (NY ta tb):=by
 intro pins s σ H Q I h;refine BoolOp_and (bS (ha pins s σ H _ I h) λv s1 ⟨x,H1,I1,r1,q1⟩=>?_);obtain⟨c,rfl,q1⟩:=q1;cases r1;refine wpAny_truthy_bool ?_;cases c with
 |true=>exact hb pins s1 σ H1 Q I1 q1
 |false=>exact⟨.bl false,H1,I1,rfl,q1⟩
def tIf(t:TT)(ta tb:TE):TE:=λσ H Q=>t σ H λc H1=>if c=true then ta σ H1 Q else tb σ H1 Q
theorem zR{c:Expr}(hc:PT X c tA)(ha:PE X a ta)(hb:PE X b tb):PE X (.IfExp c a b pos) (tIf tA ta tb):=by
 intro pins s σ H Q I h;refine wpAny_IfExp (bS (hc pins s σ H _ I h) λd s1 ⟨H1,I1,q1⟩=>?_);cases d with
 |true=>exact ha pins s1 σ H1 Q I1 q1
 |false=>exact hb pins s1 σ H1 Q I1 q1
end
end L2
namespace L2
open PySem PySem.Spec PyProof.Rows
def SqL(K:W.Frag)(H:Hp)(a:Addr)(xs:List V):Prop:=
 Rd H a (.lst xs)\/
  ∃(o:Obj)(its:Array Value)(n:Nat),K.lookup a=some o/\o.cls=.type "list"/\o.dict=none/\o.data=.seq its n/\its.size<=sizeLine/\Vals xs its.toList
def SqT(K:W.Frag)(H:Hp)(a:Addr)(xs:List V):Prop:=
 Rd H a (.tup xs)\/
  ∃(o:Obj)(its:Array Value)(n:Nat),K.lookup a=some o/\o.cls=.type "tuple"/\o.data=.seq its n/\its.size<=sizeLine/\Vals xs its.toList
noncomputable def WM:Value->Option V
 |.none=>some .non
 |.bool b=>some (.bl b)
 |.int i _=>some (.int i)
 |.str x _=>some (.str x)
 |.bytes b _=>some (.byt b)
 |.float b _=>some (.flt b)
 |.ref a=>some (.ref a)
 |.type n=>some (.ty n)
 |_=>none
theorem RelV.abs{x:V}{u:Value}(r:RelV x u):WM u=some x:=by
 cases x with
 |non=>cases r;rfl
 |bl _=>cases r;rfl
 |int _=>obtain⟨t,rfl⟩:=r;rfl
 |str _=>obtain⟨t,rfl⟩:=r;rfl
 |byt _=>obtain⟨t,rfl⟩:=r;rfl
 |flt _=>obtain⟨t,rfl⟩:=r;rfl
 |ref _=>cases r;rfl
 |ty _=>cases r;rfl
theorem RelV.inj{x y:V}{u:Value}(r:RelV x u)(q:RelV y u):x=y:=Zg (r.abs.symm.trans q.abs)
theorem Vals.inj:∀{xs ys:List V}{us:List Value},Vals xs us->Vals ys us->xs=ys
 |_,_,_,.nil,.nil=>rfl
 |_,_,_,.cons r t,.cons r' t'=>by rw[r.inj r',Vals.inj t t']
section
variable {X:Cx}{pins:List (Addr×Obj)}{σ:St}{H:Hp}{s:Shared}{a:Addr}{xs ys:List V}
theorem SqL.of{K:W.Frag}(h:H a=some (.lst xs)):SqL K H a xs:=.inl (.inl h)
theorem SqT.of{K:W.Frag}(h:H a=some (.tup xs)):SqT K H a xs:=.inl (.inl h)
theorem Inv.list(I:Inv X pins σ H s)(h:SqL X.K H a xs):∃its:List Value,Vals xs its/\PlainL s.heap a its.toArray/\xs.length<=sizeLine:=by
 rcases h with h|⟨o,its,n,hk,hc,hd,hs,hz,r⟩
 ·obtain⟨z,its,n,r,e⟩:=h.ok I.hok;exact⟨its,r,⟨_,n,e,rfl,rfl,rfl⟩,z⟩
 ·refine⟨its.toList,r,⟨o,n,I.kIn a o hk,hc,hd,by simpa using hs⟩,?_⟩;have e:=r.length;simp only[Array.length_toList] at e;omega
theorem Inv.tuple(I:Inv X pins σ H s)(h:SqT X.K H a xs):∃its:List Value,Vals xs its/\IsTup s.heap a its.toArray/\xs.length<=sizeLine:=by
 rcases h with h|⟨o,its,n,hk,hc,hs,hz,r⟩
 ·obtain⟨z,its,r,p⟩:=h.ok I.hok;exact⟨its,r,p,z⟩
 ·refine⟨its.toList,r,⟨o,I.kIn a o hk,hc,n,by simpa using hs⟩,?_⟩;have e:=r.length;simp only[Array.length_toList] at e;omega
theorem Inv.list_inj(I:Inv X pins σ H s)(h:SqL X.K H a xs)(h':SqL X.K H a ys):xs=ys:=by
 obtain⟨its,r,⟨o,n,e,_,_,d⟩,_⟩:=I.list h;obtain⟨its',r',⟨o',n',e',_,_,d'⟩,_⟩:=I.list h';rw[e] at e';cases e';rw[d] at d';injection d' with d1 _;have:its=its':=by simpa using congrArg Array.toList d1
 subst this;exact r.inj r'
theorem Inv.tuple_inj(I:Inv X pins σ H s)(h:SqT X.K H a xs)(h':SqT X.K H a ys):xs=ys:=by
 obtain⟨its,r,⟨o,e,_,n,d⟩,_⟩:=I.tuple h;obtain⟨its',r',⟨o',e',_,n',d'⟩,_⟩:=I.tuple h';rw[e] at e';cases e';rw[d] at d';injection d' with d1 _;have:its=its':=by simpa using congrArg Array.toList d1
 subst this;exact r.inj r'
end
noncomputable abbrev Cx.wish(X:Cx)(E:Value->Shared->Prop):Cx:={X with xe:=E}
noncomputable abbrev Cx.nox(X:Cx):Cx:=X.wish λ_ _=>False
section
variable {X:Cx}{pins:List (Addr×Obj)}{σ:St}{H:Hp}{s:Shared}{E:Value->Shared->Prop}
end
section
variable {X:Cx}{st:Stmt}{rest:List Stmt}{t u:TS}{e:Expr}{te:TE}{pos:Pos}
def NU:TS:=λD σ H=>D.nx σ H
def SW(t u:TS):TS:=λD σ H=>t {D with nx:=u D} σ H
theorem eK:PSs X [] NU:=λ_ _ σ H _ I h=>wpAny_execs_nil ⟨σ,H,I,h⟩
theorem dZ(h1:PS X st t)(h2:PSs X rest u):PSs X (st::rest) (SW t u):=by
 intro pins s σ H D I h;refine wpAny_execs_cons (bS (h1 pins s σ H {D with nx:=u D} I h) λf s1 q=>?_);cases f with
 |next=>
  obtain⟨σ',H',I',q⟩:=q;exact h2 pins s1 σ' H' D I' q
 |ret v=>exact q
 |brk=>exact q
 |cont=>exact q
theorem uI(h1:PS X st t):PSs X [st] t:=by
 intro pins s σ H D I h;refine wpAny_execs_cons (bS (h1 pins s σ H D I h) λf s1 q=>?_);cases f with
 |next=>exact wpAny_execs_nil q
 |ret v=>exact q
 |brk=>exact q
 |cont=>exact q
theorem Inv.quiet{pins:List (Addr×Obj)}{σ:St}{H:Hp}{s:Shared}(I:Inv X pins σ H s):interactive X.env=false:=by simp[interactive,I.ok.kind]
def NV(te:TE):TS:=λD σ H=>te σ H λ_ H1=>D.nx σ H1
theorem uJ(he:PE X e te)(hs:swapsWith e none pos.line X.env=pure false:=by rfl):PS X (.Expr e pos) (NV te):=by
 intro pins s σ H D I h;exact wpAny_Expr_any (bS (he pins s σ H _ I h) λv s1 ⟨x,H1,I1,r1,q1⟩=>⟨σ,H1,I1,q1⟩) I.quiet hs
def SY(te:TE):TS:=λD σ H=>te σ H D.rt
theorem sL(he:PE X e te):PS X (.Return (some e) pos) (SY te):=by
 intro pins s σ H D I h;exact wpAny_Return_some (bS (he pins s σ H _ I h) λv s1 ⟨x,H1,I1,r1,q1⟩=>⟨x,σ,H1,I1,r1,q1⟩)
def TF(c:TT)(t u:TS):TS:=λD σ H=>c σ H λb H1=>if b=true then t D σ H1 else u D σ H1
theorem nO{c:Expr}{a b:List Stmt}{tc:TT}(hc:PT X c tc)(ha:PSs X a t)(hb:PSs X b u):PS X (.If c a b pos) (TF tc t u):=by
 intro pins s σ H D I h;refine wpAny_If (bS (hc pins s σ H _ I h) λd s1 ⟨H1,I1,q1⟩=>?_);cases d with
 |true=>exact ha pins s1 σ H1 D I1 q1
 |false=>exact hb pins s1 σ H1 D I1 q1
end
noncomputable abbrev TG:=V->St->Hp->(St->Hp->Prop)->Prop
noncomputable abbrev CU:=List V->St->Hp->(St->Hp->Prop)->Prop
def PG(X:Cx)(target:Expr)(t:TG):Prop:=
 ∀(pins:List (Addr×Obj))(s:Shared)(σ:St)(H:Hp)(v:V)(u:Value)(Q:St->Hp->Prop),Inv X pins σ H s->RelV v u->t v σ H Q->
  wpAny (model X.prog X.w) X.A (assign target X.env u) (λ_ s'=>∃σ' H',Inv X pins σ' H' s'/\Q σ' H') X.xe s
def NA(X:Cx)(ts:List Expr)(t:CU):Prop:=
 ∀(pins:List (Addr×Obj))(s:Shared)(σ:St)(H:Hp)(vs:List V)(us:List Value)(Q:St->Hp->Prop),Inv X pins σ H s->Vals vs us->t vs σ H Q->
  wpAny (model X.prog X.w) X.A (assignInOrder ((assignEach ts X.env).map (·.2)) us) (λ_ s'=>∃σ' H',Inv X pins σ' H' s'/\Q σ' H') X.xe s
section
variable {X:Cx}{pos:Pos}
noncomputable def mF(i:Nat):TG:=λv σ H Q=>Q (σ.set i (some v)) H
theorem iN{i:Nat}{x:Str}(hN:X.N.Nodup)(hi:X.N[i]? =some x)(hx:GS X.env.scope x)(hf:X.fn x=true\/X.env.scope.names.lookup x=some .local:=by first |exact .inl rfl|exact .inr rfl|assumption):PG X (.Name x pos) (mF i):=by
 intro pins s σ H v u Q I r h;exact wpAny_assign_Name (lL I hN hi hx r (λs' I'=>⟨_,H,I',h⟩) hf)
noncomputable def VM:CU:=λvs σ H Q=>vs=[]/\Q σ H
noncomputable def PY(t:TG)(u:CU):CU:=λvs σ H Q=>∃v r,vs=v::r/\t v σ H λσ' H'=>u r σ' H' Q
theorem uL:NA X [] VM:=by
 intro pins s σ H vs us Q I r h;obtain⟨e,h⟩:=h;subst e;cases r;exact assignInOrder_nil ⟨σ,H,I,h⟩
theorem lT{e:Expr}{es:List Expr}{t:TG}{u:CU}(h1:PG X e t)(h2:NA X es u)
 (hs:(assignEach (e::es) X.env).map (·.2)=assign e X.env::(assignEach es X.env).map (·.2):=by rfl):NA X (e::es) (PY t u):=by
 intro pins s σ H vs us Q I r h;obtain⟨v,vr,e1,h⟩:=h;subst e1;cases r with
 |cons r rr=>
  rw[hs];refine assignInOrder_cons (bS (h1 pins s σ H _ _ _ I r h) λ_ s1 ⟨σ1,H1,I1,q1⟩=>?_);exact h2 pins s1 σ1 H1 _ _ Q I1 rr q1
noncomputable def VL(K:W.Frag)(n:Nat)(t:CU):TG:=λv σ H Q=>∃a xs,v=.ref a/\SqT K H a xs/\xs.length=n/\t xs σ H Q
theorem KA{es:List Expr}{k:Nat}{t:CU}{n:Nat}(hc:X.calm=true)(h:NA X es t)
 (hn:(assignEach es X.env).length=n:=by rfl)(hst:(assignEach es X.env).findIdx? (·.1)=none:=by rfl):PG X (.Tuple es k pos) (VL X.K n t):=by
 intro pins s σ H v u Q I r hw;obtain⟨a,xs,e1,hq,hl,hw⟩:=hw;subst e1;cases r;obtain⟨its,rv,ht,hz⟩:=I.tuple hq;refine assign_Tuple_tuple (I.ok.hd hc) ht (by simp[hn, <- hl,rv.length]) hst λh' hx=>?_;have I1:Inv X pins σ H {s with heap:=h'}:=I.kept (t':=s.toks) λb o e=>hx b o (Nat.ne_of_lt (Heap.lt_size e)) e;exact h pins _ σ H xs _ Q I1 (by simpa using rv) hw
def JH(te:TE)(g:TG):TS:=λD σ H=>te σ H λx H1=>g x σ H1 D.nx
theorem sN{tg e:Expr}{te:TE}{g:TG}(he:PE X e te)(hg:PG X tg g)(hs:swapsWithSole [tg] e pos.line X.env=pure false:=by rfl)(hw:swappedStores [tg] e X.env=pure none:=by rfl)
 (h1:(assignEach [tg] X.env).map (·.2)=[assign tg X.env]:=by rfl):PS X (.Assign [tg] e pos) (JH te g):=by
 intro pins s σ H D I h;refine wpAny_Assign_stores (bS (he pins s σ H _ I h) λv s1 ⟨x,H1,I1,r1,q1⟩=>?_) hs hw;rw[h1];exact bS (hg pins s1 σ H1 x v _ I1 r1 q1) λ_ s2 q=>q
theorem oQ{i:Nat}{x:Str}{e:Expr}{te:TE}{pos':Pos}(hN:X.N.Nodup)(hi:X.N[i]? =some x)(hx:GS X.env.scope x)(he:PE X e te)(hs:swapsWith e (some (.Name x pos')) pos.line X.env=pure false:=by rfl)(hf:X.fn x=true\/X.env.scope.names.lookup x=some .local:=by first |exact .inl rfl|exact .inr rfl|assumption):
 PS X (.Assign [.Name x pos'] e pos) (JH te (mF i)):=by
 intro pins s σ H D I h;refine wpAny_Assign_Name (bS (he pins s σ H _ I h) λv s1 ⟨y,H1,I1,r1,q1⟩=>?_) hs;exact lL I1 hN hi hx r1 (λs2 I2=>⟨_,H1,I2,q1⟩) hf
end
section
variable {X:Cx}{pos:Pos}
def yM(c:TT)(tb:TS):TS:=λD σ H=>∃W:Nat->St->Hp->Prop,(∃m,W m σ H)/\∀m σ H,W m σ H->
 c σ H λb H1=>if b=true then ∃N:St->Hp->Prop,(∀σ' H',N σ' H'->∃m',m'<m/\W m' σ' H')/\tb {D with nx:=N,ct:=N,bk:=D.nx} σ H1 else D.nx σ H1
theorem zK{c:Expr}{body:List Stmt}{tc:TT}{tb:TS}(hp:PassesOwn (model X.prog X.w) X.A X.env X.xe)(hc:PT X c tc)(hb:PSs X body tb):PS X (.While c body [] pos) (yM tc tb):=by
 intro pins s σ H D I h;obtain⟨W,⟨m0,w0⟩,turn⟩:=h;refine wpAny_While (codeAny_whileLoop (λn s'=>∃σ' H',Inv X pins σ' H' s'/\W n σ' H') ?_ m0 ⟨σ,H,I,w0⟩);rintro n s1 ⟨σ1,H1,I1,w1⟩;refine wpAny_passesOwn hp (bS (hc pins s1 σ1 H1 _ I1 (turn n σ1 H1 w1)) λb s2 ⟨H2,I2,q2⟩=>?_);cases b with
 |true=>
  obtain⟨N,hN,q2⟩:=q2;rw[if_pos rfl];refine wpAny_passesOwn hp (bS (hb pins s2 σ1 H2 _ I2 q2) λf s3 q3=>?_);cases f with
  |next=>
   obtain⟨σ3,H3,I3,n3⟩:=q3;obtain⟨m',hm,w3⟩:=hN σ3 H3 n3;exact⟨m',hm,σ3,H3,I3,w3⟩
  |cont=>
   obtain⟨σ3,H3,I3,n3⟩:=q3;obtain⟨m',hm,w3⟩:=hN σ3 H3 n3;exact⟨m',hm,σ3,H3,I3,w3⟩
  |brk=>exact q3
  |ret v=>exact q3
 |false=>
  rw[if_neg Bool.false_ne_true];exact wpAny_execs_nil ⟨σ1,H2,I2,q2⟩
end
structure It where
 go:Nat->Hp->Prop
 yld:Nat->Hp->V->Hp->Prop
 stop:Nat->Hp->Prop
def iG(X:Cx)(pins:List (Addr×Obj))(H:Hp)(b:Addr):Prop:=
 H b=none/\b≠X.env.locals/\b ∉ X.fs/\(b∈X.ex\/X.s₀.heap.objs.size<=b)/\(∀x c,X.env.cells.lookup x=some c->c≠b)/\∀p∈X.pn++pins,p.1≠b
theorem Inv.fpOk{X:Cx}{pins:List (Addr×Obj)}{σ:St}{H H':Hp}{s:Shared}{b:Addr}(I:Inv X pins σ H s)(hb:s.heap.objs.size<=b)(hn:H' b=none):iG X pins H' b:=by
 refine⟨hn,Nat.ne_of_gt (Nat.lt_of_lt_of_le I.lt hb),I.nofs hb,.inr (Nat.le_trans I.sz hb),λx c e z=>?_,λp hp z=>?_⟩
 ·obtain⟨v,q⟩:=I.cell x c e;exact absurd (Nat.lt_of_lt_of_le q.lt (by rw[z];exact hb)) (Nat.lt_irrefl _)
 ·exact absurd (Nat.lt_of_lt_of_le (Heap.lt_size (I.pin p hp).1) (by rw[z];exact hb)) (Nat.lt_irrefl _)
structure Turn (P:Program)(w:World)(K:W.Frag)(tg:Expr)(J:It)(fp:List Addr)(it:Addr)(tn:Nat->Heap->Prop):Prop where
 mem:it∈fp
 obj:∀i h,tn i h->∀b∈fp,∃o,h.get? b=some o/\∀v,o.data≠ .cell v
 keep:∀i h h',tn i h->(∀b∈fp,∀o,h.get? b=some o->h'.get? b=some o)->tn i h'
 item:∀(X:Cx),X.prog=P->X.w=w->X.K=K->X.calm=true->∀(i:Nat)(pins:List (Addr×Obj))(s:Shared)(σ:St)(H:Hp)(E:Value->Shared->Prop),Inv X pins σ H s->(∀b∈fp,iG X pins H b)->tn i s.heap->J.go i H->
  wpAny (model P w) X.A (pyNext (.ref it)) (λr s1=>∃u,r=some u/\
   wpAny (model P w) X.A (letOwnedTupleGo tg (.ref it) u) (λ_ s2=>∃x H',Inv X pins σ H' s2/\RelV x u/\J.yld i H x H'/\tn (i+1) s2.heap/\∀b∈fp,H' b=none) E s1) E s
 done:∀(X:Cx),X.prog=P->X.w=w->X.K=K->X.calm=true->∀(i:Nat)(pins:List (Addr×Obj))(s:Shared)(σ:St)(H:Hp)(E:Value->Shared->Prop),Inv X pins σ H s->(∀b∈fp,iG X pins H b)->tn i s.heap->J.stop i H->
  wpAny (model P w) X.A (pyNext (.ref it)) (λr s1=>r=none/\Inv X pins σ H s1) E s
 self:∀(A:Around)(i:Nat)(s:Shared)(Q:Value->Shared->Prop)(E:Value->Shared->Prop),tn i s.heap->Q (.ref it) s->wpAny (model P w) A (pyIter (.ref it)) Q E s
noncomputable abbrev TI:=St->Hp->(It->Hp->Prop)->Prop
def CV(X:Cx)(pins:List (Addr×Obj))(σ:St)(tg:Expr)(R:It->Hp->Prop)(itv:Value)(s2:Shared):Prop:=
 ∃(it:Addr)(fp:List Addr)(tn:Nat->Heap->Prop)(J:It)(H':Hp),itv=.ref it/\Inv X pins σ H' s2/\Turn X.prog X.w X.K tg J fp it tn/\tn 0 s2.heap/\(∀b∈fp,iG X pins H' b)/\R J H'
def PI(X:Cx)(tg iter:Expr)(wi:TI):Prop:=
 ∀(pins:List (Addr×Obj))(s:Shared)(σ:St)(H:Hp)(R:It->Hp->Prop),Inv X pins σ H s->wi σ H R->
  wpAny (model X.prog X.w) X.A (eval iter X.env) (λv s1=>wpAny (model X.prog X.w) X.A (pyIter v) (CV X pins σ tg R) X.xe s1) X.xe s
theorem vA{M:Model}{A:Around}{E:Value->Shared->Prop}{s:Shared}{tg:Expr}{it:Addr}{u:Value}{o:Obj}{n:String}{vs:Array Value}{Q:Unit->Shared->Prop}(ho:s.heap.get? it=some o)(hc:o.cls=.type n)(hd:o.data=.fields vs)
 (hn: ["enumerate","zip","dict_itemiterator","dict_reverseitemiterator","odict_iterator","itertools.zip_longest","itertools.pairwise"].contains n=false)(hQ:Q () s):wpAny M A (letOwnedTupleGo tg (.ref it) u) Q E s:=by
 unfold letOwnedTupleGo
 cases tg<;>first
  |exact Zb hQ
  |(cases u<;>first
     |exact Zb hQ
     |(refine Za (wpAny_load ho ?_)
       rw[hc,hd];show wpAny M A (if(["enumerate","zip","dict_itemiterator","dict_reverseitemiterator","odict_iterator","itertools.zip_longest","itertools.pairwise"].contains n&&vs[0]? ==some (rawInt _))=true then _ else _) Q E s;rw[if_neg (by intro h;rw[hn,Bool.false_and] at h;cases h)];exact Zb hQ))
noncomputable def SK(K:W.Frag)(a:Addr):It:=
 ⟨λi H=>∃xs x,SqL K H a xs/\xs[i]? =some x,λi H x H'=>H'=H/\∀xs,SqL K H a xs->xs[i]? =some x,λi H=>∃xs,SqL K H a xs/\xs.length<=i⟩
noncomputable def SJ(K:W.Frag)(a:Addr):It:=
 ⟨λi H=>∃xs x,SqT K H a xs/\xs[i]? =some x,λi H x H'=>H'=H/\∀xs,SqT K H a xs->xs[i]? =some x,λi H=>∃xs,SqT K H a xs/\xs.length<=i⟩
noncomputable def CQ(lo:Int)(n:Nat):It:=⟨λi _=>i<n,λi H x H'=>H'=H/\x=.int (lo+i),λi _=>n<=i⟩
theorem wD{P:Program}{w:World}{K:W.Frag}{tg:Expr}(a it:Addr):Turn P w K tg (SK K a) [it] it (λi h=>h.IsListIter it a i) where
 mem:=by simp
 obj:=λi h st b hb=>by
  have e:b=it:=by simpa using hb
  subst e;obtain⟨o,e,c,d⟩:=st;exact⟨o,e,λv z=>by rw[d] at z;cases z⟩
 keep:=λi h h' st k=>st.at λo e=>k it (by simp) o e
 item:=by
  intro X hP hw hK hc i pins s σ H E I hf st hg;subst hP hw hK;obtain⟨xs,x,hq,hx⟩:=hg;obtain⟨its,rv,p,hz⟩:=I.list hq;obtain⟨u,hu,ru⟩:=rv.get hx;obtain⟨f0,f1,f2,f3,f4,f5⟩:=hf it (by simp);refine wpAny_pyNext_list_item st p.isList (x:=u) (by simpa using hu) λh' st' sb=>?_;have I1:Inv X pins σ H {s with heap:=h'}:=I.turned (t':=s.toks) (λb o hb e=>(sb.2 b hb).trans e) f0 f1 f3 f4 f5;obtain⟨o,e,c,d⟩:=id st';exact⟨u,rfl,vA (s:={s with heap:=h'}) e c d (by decide) ⟨x,H,I1,ru,⟨rfl,λys hy=>by rw[I.list_inj hy hq];exact hx⟩,st',λb hb=>(hf b hb).1⟩⟩
 done:=by
  intro X hP hw hK hc i pins s σ H E I hf st hg;subst hP hw hK;obtain⟨xs,hq,hx⟩:=hg;obtain⟨its,rv,p,hz⟩:=I.list hq;obtain⟨f0,f1,f2,f3,f4,f5⟩:=hf it (by simp);have hl:=rv.length;exact wpAny_pyNext_list_end (I.ok.hd hc) st p.isList (by simp;omega) λh' eb=>⟨rfl,I.turned (t':=s.toks) (λb o hb e=>eb b o hb e) f0 f1 f3 f4 f5⟩
 self:=λ_ _ _ _ _ st h=>wpAny_pyIter_listiter st h
theorem sB{P:Program}{w:World}{K:W.Frag}{tg:Expr}(a it:Addr):Turn P w K tg (SJ K a) [it] it (λi h=>h.IsTupleIter it a i) where
 mem:=by simp
 obj:=λi h st b hb=>by
  have e:b=it:=by simpa using hb
  subst e;obtain⟨o,e,c,d⟩:=st;exact⟨o,e,λv z=>by rw[d] at z;cases z⟩
 keep:=λi h h' st k=>st.at λo e=>k it (by simp) o e
 item:=by
  intro X hP hw hK hc i pins s σ H E I hf st hg;subst hP hw hK;obtain⟨xs,x,hq,hx⟩:=hg;obtain⟨its,rv,p,hz⟩:=I.tuple hq;obtain⟨u,hu,ru⟩:=rv.get hx;obtain⟨f0,f1,f2,f3,f4,f5⟩:=hf it (by simp);refine wpAny_pyNext_tuple_item st (show s.heap.IsTuple a its.toArray from p) (x:=u) (by simpa using hu) λh' st' sb=>?_;have I1:Inv X pins σ H {s with heap:=h'}:=I.turned (t':=s.toks) (λb o hb e=>(sb.2 b hb).trans e) f0 f1 f3 f4 f5;obtain⟨o,e,c,d⟩:=id st';exact⟨u,rfl,vA (s:={s with heap:=h'}) e c d (by decide) ⟨x,H,I1,ru,⟨rfl,λys hy=>by rw[I.tuple_inj hy hq];exact hx⟩,st',λb hb=>(hf b hb).1⟩⟩
 done:=by
  intro X hP hw hK hc i pins s σ H E I hf st hg;subst hP hw hK;obtain⟨xs,hq,hx⟩:=hg;obtain⟨its,rv,p,hz⟩:=I.tuple hq;obtain⟨f0,f1,f2,f3,f4,f5⟩:=hf it (by simp);have hl:=rv.length;exact wpAny_pyNext_tuple_end (I.ok.hd hc) st (show s.heap.IsTuple a its.toArray from p) (by simp;omega) λh' eb=>⟨rfl,I.turned (t':=s.toks) (λb o hb e=>eb b o hb e) f0 f1 f3 f4 f5⟩
 self:=λ_ _ _ _ _ st h=>wpAny_pyIter_tupleiter st h
theorem sC{P:Program}{w:World}{K:PySem.W.Frag}{tg:Expr}(it:Addr)(lo:Int)(n:Nat):Turn P w K tg (CQ lo n) [it] it (λi h=>IsRangeIter h it (lo+(i:Nat)*1) ((n:Int)-(i:Nat)) 1) where
 mem:=by simp
 obj:=λi h st b hb=>by
  have e:b=it:=by simpa using hb
  subst e
  exact⟨_,st,λv z=>by
   have z':Data.fields _=Data.cell v:=z;cases z'⟩
 keep:=λi h h' st k=>k it (by simp) _ st
 item:=by
  intro X hP hw hK hc i pins s σ H E I hf st hg;subst hP hw hK;obtain⟨f0,f1,f2,f3,f4,f5⟩:=hf it (by simp);have W:=Walks.range (prog:=X.prog) (w:=X.w) (I.ok.hd hc) it lo 1 n;refine W.item i s _ _ hg st λv h' tk hv st' kk=>?_;obtain⟨t,rfl⟩:=hv;have I1:Inv X pins σ H {s with heap:=h',toks:=tk}:=I.turned (λb o hb e=>kk b o (by simpa using hb) e) f0 f1 f3 f4 f5;refine⟨_,rfl,vA (s:={s with heap:=h',toks:=tk}) (n:="range_iterator") st' rfl rfl (by decide) ⟨.int (lo+i),H,I1,⟨t,?_⟩,⟨rfl,rfl⟩,st',λb hb=>(hf b hb).1⟩⟩;rw[Int.mul_one]
 done:=by
  intro X hP hw hK hc i pins s σ H E I hf st hg;subst hP hw hK;obtain⟨f0,f1,f2,f3,f4,f5⟩:=hf it (by simp);exact wpAny_pyNext_range_end (I.ok.hd hc) st (by have:n<=i:=hg;omega) λh' eb=>⟨rfl,I.turned (t':=s.toks) (λb o hb e=>eb b o hb e) f0 f1 f3 f4 f5⟩
 self:=λ_ _ _ _ _ st h=>wpAny_pyIter_rangeiter st h
end L2
namespace L2
open PySem PySem.Spec PyProof.Rows
section
variable {X:Cx}{tg:Expr}
noncomputable def PR(K:W.Frag)(tl:TE):TI:=λσ H R=>tl σ H λx H1=>∃a,x=.ref a/\(∃xs,SqL K H1 a xs)/\R (SK K a) H1
noncomputable def iTup(K:W.Frag)(tl:TE):TI:=λσ H R=>tl σ H λx H1=>∃a,x=.ref a/\(∃xs,SqT K H1 a xs)/\R (SJ K a) H1
theorem uK{l:Expr}{tl:TE}(hl:PE X l tl):PI X tg l (PR X.K tl):=by
 intro pins s σ H R I h;refine bS (hl pins s σ H _ I h) λv s1 ⟨x,H1,I1,r1,q1⟩=>?_;obtain⟨a,e,⟨xs,hq⟩,q⟩:=q1;subst e;cases r1;obtain⟨its,rv,p,hz⟩:=I1.list hq;refine wpAny_pyIter_list p.isList ?_;refine⟨s1.heap.objs.size,[s1.heap.objs.size],_,_,H1,rfl,I1.kept (t':=s1.toks) λb o e=>Zf _ e,wD a _,⟨_,Heap.get?_push_size _ rfl,rfl,rfl⟩,λb hb=>?_,q⟩;have e:b=s1.heap.objs.size:=by simpa using hb
 subst e;exact I1.fpOk (Zn _) (I1.hok.fresh (Zn _))
theorem zN{l:Expr}{tl:TE}(hl:PE X l tl):PI X tg l (iTup X.K tl):=by
 intro pins s σ H R I h;refine bS (hl pins s σ H _ I h) λv s1 ⟨x,H1,I1,r1,q1⟩=>?_;obtain⟨a,e,⟨xs,hq⟩,q⟩:=q1;subst e;cases r1;obtain⟨its,rv,p,hz⟩:=I1.tuple hq;refine wpAny_pyIter_tuple (show s1.heap.IsTuple a its.toArray from p) ?_;refine⟨s1.heap.objs.size,[s1.heap.objs.size],_,_,H1,rfl,I1.kept (t':=s1.toks) λb o e=>Zf _ e,sB a _,⟨_,Heap.get?_push_size _ rfl,rfl,rfl⟩,λb hb=>?_,q⟩;have e:b=s1.heap.objs.size:=by simpa using hb
 subst e;exact I1.fpOk (Zn _) (I1.hok.fresh (Zn _))
theorem qO{pins:List (Addr×Obj)}{σ:St}{H:Hp}{s:Shared}{R:It->Hp->Prop}{E:Value->Shared->Prop}{lo hi:Int}{t u v:Tok}{tk:Nat}(I:Inv X pins σ H s)(h1: -(2^62)<=lo)(h2:lo<2^62)(h3: -(2^62)<=hi)(h4:hi<2^62)
 (q:R (CQ lo (hi-lo).toNat) H):wpAny (model X.prog X.w) X.A (pyIter (.ref s.heap.objs.size)) (CV X pins σ tg R) E {s with heap:=s.heap.push {cls:=.type "range",data:=.fields #[.int lo t,.int hi u,.int 1 v]},toks:=tk}:=by
 refine wpAny_pyIter_range (IsRange.new ..) (small_one h1 h2 h3 h4) ?_;have I1:Inv X pins σ H {s with heap:=s.heap.push {cls:=.type "range",data:=.fields #[.int lo t,.int hi u,.int 1 v]},toks:=tk}:=I.kept λb o e=>Zf _ e
 refine⟨(s.heap.push {cls:=.type "range",data:=.fields #[.int lo t,.int hi u,.int 1 v]}).objs.size,[(s.heap.push {cls:=.type "range",data:=.fields #[.int lo t,.int hi u,.int 1 v]}).objs.size],_,_,H,rfl,
  I1.kept (t':=tk) λb o e=>Zf _ e,sC _ lo (hi-lo).toNat,?_,λb hb=>?_,q⟩
 ·have e1:lo+((0:Nat):Int)*1=lo:=by simp
  have e2:(((hi-lo).toNat:Nat):Int)-((0:Nat):Int)=Builtin.Range.rangeSize lo hi 1:=by rw[rangeSize_one];split<;>omega
  show IsRangeIter _ _ (lo+((0:Nat):Int)*1) ((((hi-lo).toNat:Nat):Int)-((0:Nat):Int)) 1;rw[e1,e2];exact Heap.get?_push_size _ rfl
 ·have e:b=(s.heap.push {cls:=.type "range",data:=.fields #[.int lo t,.int hi u,.int 1 v]}).objs.size:=by simpa using hb
  subst e;exact I1.fpOk (Zn _) (I1.hok.fresh (Zn _))
noncomputable def PQ(ta:TA):TI:=λσ H R=>ta σ H λvs H1=>∃j:Int,vs=[.int j]/\ -(2^62)<=j/\j<2^62/\R (CQ 0 j.toNat) H1
noncomputable def PP(ta:TA):TI:=λσ H R=>ta σ H λvs H1=>∃i j:Int,vs=[.int i,.int j]/\(-(2^62)<=i/\i<2^62/\ -(2^62)<=j/\j<2^62)/\R (CQ i (j-i).toNat) H1
theorem nQ{a:Expr}{ta:TA}{p pos:Pos}(hg:Gl X "range")(hm:X.mg "range"=none)(ha:PA X [a] ta)(hs:starEach [a] X.env=[(false,eval a X.env)]:=by rfl):PI X tg (.Call (.Name "range" p) [a] [] pos) (PQ ta):=by
 intro pins s σ H R I h;refine Call_ (jJ I hg hm boot_range (PyProof.Rows.callWith_type1 (bS (ha pos pins s σ H _ I h) λus s1 ⟨vs,H1,I1,r1,q1⟩=>?_) hs rfl));obtain⟨j,e,q1,q2,q⟩:=q1;subst e;cases r1 with
 |cons r rr=>
  cases rr;obtain⟨t,rfl⟩:=r;exact call_range_1 (qO I1 (by omega) (by omega) q1 q2 (by simpa using q))
theorem nP{a b:Expr}{ta:TA}{p pos:Pos}(hg:Gl X "range")(hm:X.mg "range"=none)(ha:PA X [a,b] ta)(hs:starEach [a,b] X.env=[(false,eval a X.env),(false,eval b X.env)]:=by rfl)(hs2:starEach [b] X.env=[(false,eval b X.env)]:=by rfl):
 PI X tg (.Call (.Name "range" p) [a,b] [] pos) (PP ta):=by
 intro pins s σ H R I h;refine Call_ (jJ I hg hm boot_range (PyProof.Rows.callWith_type1 (bS (ha pos pins s σ H _ I h) λus s1 ⟨vs,H1,I1,r1,q1⟩=>?_) (by rw[hs,hs2]) (by rw[hs2];rfl)));obtain⟨i,j,e,⟨q1,q2,q3,q4⟩,q⟩:=q1;subst e;cases r1 with
 |cons r rr=>
  cases rr with
  |cons r' rr=>
   cases rr;obtain⟨t,rfl⟩:=r;obtain⟨t',rfl⟩:=r';exact call_range_2 (qO I1 q1 q2 q3 q4 q)
def TH(wi:TI)(g:TG)(tb:TS):TS:=λD σ H=>wi σ H λJ H1=>∃W:Nat->Nat->St->Hp->Prop,(∃m,W 0 m σ H1)/\∀i m σ H,W i m σ H->
 (J.stop i H/\D.nx σ H)\/(J.go i H/\∃N:St->Hp->Prop,(∀σ' H',N σ' H'->∃m',m'<m/\W (i+1) m' σ' H')/\∀x H',J.yld i H x H'->g x σ H' λσ2 H2=>tb {D with nx:=N,ct:=N,bk:=D.nx} σ2 H2)
noncomputable def lS(fp:List Addr)(h:Heap):List (Addr×Obj):=fp.filterMap λb=>(h.get? b).map λo=>(b,o)
theorem gA{fp:List Addr}{h:Heap}{b:Addr}{o:Obj}(hb:b∈fp)(e:h.get? b=some o):(b,o)∈lS fp h:=List.mem_filterMap.mpr ⟨b,hb,by rw[e];rfl⟩
theorem wU{fp:List Addr}{h:Heap}{p:Addr×Obj}(hp:p∈lS fp h):p.1∈fp/\h.get? p.1=some p.2:=by
 obtain⟨b,hb,e⟩:=List.mem_filterMap.mp hp;cases q:h.get? b with
 |none=>rw[q] at e;cases e
 |some o=>
  rw[q] at e;have e':(b,o)=p:=Zg e;subst e';exact⟨hb,q⟩
theorem Inv.pinned{pins:List (Addr×Obj)}{σ:St}{H:Hp}{s:Shared}{fp:List Addr}(I:Inv X pins σ H s)(hf:∀b∈fp,iG X pins H b)(ho:∀b∈fp,∃o,s.heap.get? b=some o/\∀v,o.data≠ .cell v):Inv X (pins++lS fp s.heap) σ H s:=
 I.pins_of λp hp=>(List.mem_append.mp hp).elim (λz=>I.pin p (List.mem_append_right _ z)) λz=>by
  obtain⟨hb,e⟩:=wU z;obtain⟨f0,f1,f2,_⟩:=hf p.1 hb;obtain⟨o,e',d⟩:=ho p.1 hb;rw[e] at e';cases e';exact⟨e,f0,f1,f2,d⟩
theorem Inv.unpinned{pins pl:List (Addr×Obj)}{σ:St}{H:Hp}{s:Shared}(I:Inv X (pins++pl) σ H s):Inv X pins σ H s:=I.pins_of λp hp=>I.pin p (List.mem_append_right _ (List.mem_append_left _ hp))
theorem sM{iter:Expr}{body:List Stmt}{wi:TI}{g:TG}{tb:TS}{pos:Pos}(hp:PassesOwn (model X.prog X.w) X.A X.env X.xe)(hc:X.calm=true)(hi:PI X tg iter wi)(hg:PG X tg g)(hb:PSs X body tb)
 (hs:∀x,foldedSetIterable iter X.env x=pure x:=by intro _;rfl):PS X (.For tg iter body [] pos) (TH wi g tb):=by
 intro pins s σ H D I h;refine wpAny_For (bS (hi pins s σ H _ I h) λv s1 h1=>bS h1 λitv s2 h2=>?_) hs;obtain⟨it,fp,tn,J,H2,e,I2,T,st2,f2,W,⟨m0,w0⟩,turn⟩:=h2;subst e;have stat:∀{H':Hp},(∀b∈fp,H' b=none)->∀b∈fp,iG X pins H' b:=λhn b hb=>⟨hn b hb,(f2 b hb).2⟩;refine codeAny_forLoop_any (λn s'=>∃i σ' H',Inv X pins σ' H' s'/\tn i s'.heap/\(∀b∈fp,H' b=none)/\W i n σ' H') ?_ m0 ⟨0,σ,H2,I2,st2,λb hb=>(f2 b hb).1,w0⟩;rintro n s3 ⟨i,σ3,H3,I3,st3,fr3,w3⟩;rcases turn i n σ3 H3 w3 with ⟨stop,qn⟩|⟨go,N,hN,step⟩
 ·refine wpAny_passesOwn hp (bS (T.done X rfl rfl rfl hc i pins s3 σ3 H3 X.xe I3 (stat fr3) st3 stop) λr s4 ⟨hr,I4⟩=>?_);subst hr;exact wpAny_execs_nil ⟨σ3,H3,I4,qn⟩
 ·refine wpAny_passesOwn hp (bS (T.item X rfl rfl rfl hc i pins s3 σ3 H3 X.xe I3 (stat fr3) st3 go) λr s4 ⟨u,hr,h4⟩=>?_);subst hr;refine wpAny_passesOwn hp (bS h4 λ_ s5 ⟨x,H5,I5,r5,y5,st5,fr5⟩=>?_);have I5':=I5.pinned (stat fr5) (T.obj _ _ st5);refine wpAny_passesOwn hp (bS (hg _ s5 σ3 H5 x u _ I5' r5 (step x H5 y5)) λ_ s6 ⟨σ6,H6,I6,q6⟩=>?_);refine wpAny_passesOwn hp (bS (hb _ s6 σ6 H6 _ I6 q6) λf s7 q7=>?_)
  have again:∀{σ7:St}{H7:Hp},Inv X (pins++lS fp s5.heap) σ7 H7 s7->N σ7 H7->∃m,m<n/\∃i σ' H',Inv X pins σ' H' s7/\tn i s7.heap/\(∀b∈fp,H' b=none)/\W i m σ' H':=λ{σ7 H7} I7 n7=>by
   obtain⟨m',hm,w7⟩:=hN σ7 H7 n7;refine⟨m',hm,i+1,σ7,H7,I7.unpinned,T.keep _ _ _ st5 λb hb o e=>(I7.pin (b,o) (List.mem_append_right _ (List.mem_append_right _ (gA hb e)))).1,λb hb=>?_,w7⟩;obtain⟨o,e,d⟩:=T.obj _ _ st5 b hb;exact(I7.pin (b,o) (List.mem_append_right _ (List.mem_append_right _ (gA hb e)))).2.1
  cases f with
  |next=>obtain⟨σ7,H7,I7,n7⟩:=q7;exact again I7 n7
  |cont=>obtain⟨σ7,H7,I7,n7⟩:=q7;exact again I7 n7
  |brk=>obtain⟨σ7,H7,I7,q7⟩:=q7;exact⟨σ7,H7,I7.unpinned,q7⟩
  |ret v=>obtain⟨x7,σ7,H7,I7,r7,q7⟩:=q7;exact⟨x7,σ7,H7,I7.unpinned,r7,q7⟩
end
theorem xE{lo:Int}{n:Nat}{g:TG}{tb:TS}{D:Ends}{σ:St}{H:Hp}(Pv:Nat->St->Hp->Prop)(h0:Pv 0 σ H)
 (hs:∀i σ H,i<n->Pv i σ H->g (.int (lo+i)) σ H λσ2 H2=>tb {D with nx:=Pv (i+1),ct:=Pv (i+1),bk:=D.nx} σ2 H2)(hd:∀σ H,Pv n σ H->D.nx σ H):
 ∃W:Nat->Nat->St->Hp->Prop,(∃m,W 0 m σ H)/\∀i m σ H,W i m σ H->
  ((CQ lo n).stop i H/\D.nx σ H)\/((CQ lo n).go i H/\∃N:St->Hp->Prop,(∀σ' H',N σ' H'->∃m',m'<m/\W (i+1) m' σ' H')/\∀x H',(CQ lo n).yld i H x H'->g x σ H' λσ2 H2=>tb {D with nx:=N,ct:=N,bk:=D.nx} σ2 H2):=by
 refine⟨λi m σ H=>m=n-i/\i<=n/\Pv i σ H,⟨n,by simp,Nat.zero_le _,h0⟩,?_⟩;rintro i m σ H ⟨rfl,hi,p⟩
 by_cases hlt:i<n
 ·refine .inr ⟨hlt,Pv (i+1),λσ' H' p'=>⟨n-(i+1),by omega,rfl,hlt,p'⟩,λx H' y=>?_⟩;obtain⟨e,y⟩:=y;subst e y;exact hs i σ _ hlt p
 ·have e:i=n:=by omega
  subst e;exact .inl ⟨Zn _,hd σ H p⟩
end L2
namespace L2
open PySem PySem.Spec PyProof.Rows
noncomputable abbrev R2:=V->V->Hp->VK->Prop
def iY(X:Cx)(f:Value->Value->Sem Value)(r:R2):Prop:=
 ∀(pins:List (Addr×Obj))(s:Shared)(σ:St)(H:Hp)(x y:V)(v u:Value)(Q:VK),Inv X pins σ H s->RelV x v->RelV y u->r x y H Q->
  wpAny (model X.prog X.w) X.A (f v u) (EP X pins σ Q) X.xe s
def eJ(X:Cx)(f:Value)(r:List V->Hp->VK->Prop):Prop:=
 ∀(pins:List (Addr×Obj))(s:Shared)(σ:St)(H:Hp)(xs:List V)(us:List Value)(Q:VK),Inv X pins σ H s->Vals xs us->r xs H Q->
  wpAny (model X.prog X.w) X.A (call f us) (EP X pins σ Q) X.xe s
def WN(X:Cx)(r:V->Hp->(Bool->Hp->Prop)->Prop):Prop:=
 ∀(pins:List (Addr×Obj))(s:Shared)(σ:St)(H:Hp)(x:V)(v:Value)(Q:Bool->Hp->Prop),Inv X pins σ H s->RelV x v->r x H Q->
  wpAny (model X.prog X.w) X.A (truthy v) (TP X pins σ Q) X.xe s
def NS(r:R2)(ta tb:TE):TE:=λσ H Q=>ta σ H λx H1=>tb σ H1 λy H2=>r x y H2 Q
noncomputable def rI(C:Int->Int->Prop)(g:Int->Int->V):R2:=λx y H Q=>∃i j,x=.int i/\y=.int j/\C i j/\Q (g i j) H
noncomputable def HD(g:Int->Int->V):R2:=λx y H Q=>∃i j,x=.int i/\y=.int j/\Q (g i j) H
section
variable {X:Cx}{a b c:Expr}{ta tb tc:TE}{pos:Pos}
theorem MO(ha:PE X a ta)(hb:PE X b tb){pins:List (Addr×Obj)}{s:Shared}{σ:St}{H:Hp}{R:V->V->Hp->Prop}(I:Inv X pins σ H s)
 (h:ta σ H λx H1=>tb σ H1 λy H2=>R x y H2){Q:Value->Shared->Prop}{f:Value->Value->Sem Value}
 (hf:∀v u s2 x y H2,Inv X pins σ H2 s2->RelV x v->RelV y u->R x y H2->wpAny (model X.prog X.w) X.A (f v u) Q X.xe s2):
 wpAny (model X.prog X.w) X.A (eval a X.env) (λv s₁=>wpAny (model X.prog X.w) X.A (eval b X.env) (λu s₂=>wpAny (model X.prog X.w) X.A (f v u) Q X.xe s₂) X.xe s₁) X.xe s:=by
 refine bS (ha pins s σ H _ I h) λv s1 ⟨x,H1,I1,r1,q1⟩=>?_;refine bS (hb pins s1 σ H1 _ I1 q1) λu s2 ⟨y,H2,I2,r2,q2⟩=>?_;exact hf v u s2 x y H2 I2 r1 r2 q2
theorem zQ{op:Operator}{r:R2}(ho:iY X (binaryOp op) r)(ha:PE X a ta)(hb:PE X b tb):PE X (.BinOp a op b pos) (NS r ta tb):=by
 intro pins s σ H Q I h;exact wpAny_BinOp (MO ha hb I h λv u s2 x y H2 I2 rx ry q=>ho pins s2 σ H2 x y v u Q I2 rx ry q)
theorem RN{f:Value->Value->Sem Value}{C:Int->Int->Prop}{g:Int->Int->Int}
 (rule:∀(i j:Int)(t u:Tok)(s:Shared)(Q:Value->Shared->Prop)(E:Value->Shared->Prop),C i j->Q (.int (g i j) s.toks) {s with toks:=s.toks+1}->wpAny (model X.prog X.w) X.A (f (.int i t) (.int j u)) Q E s):
 iY X f (rI C λi j=>.int (g i j)):=by
 intro pins s σ H x y v u Q I rx ry h;obtain⟨i,j,rfl,rfl,hc,q⟩:=h;obtain⟨t,rfl⟩:=rx;obtain⟨t',rfl⟩:=ry;exact rule i j t t' s _ _ hc ⟨.int (g i j),H,I.tok _,⟨_,rfl⟩,q⟩
theorem OW{f:Value->Value->Sem Value}{g:Int->Int->Int}
 (rule:∀(i j:Int)(t u:Tok)(s:Shared)(Q:Value->Shared->Prop)(E:Value->Shared->Prop),Q (.int (g i j) s.toks) {s with toks:=s.toks+1}->wpAny (model X.prog X.w) X.A (f (.int i t) (.int j u)) Q E s):
 iY X f (HD λi j=>.int (g i j)):=by
 intro pins s σ H x y v u Q I rx ry h;obtain⟨i,j,rfl,rfl,q⟩:=h;obtain⟨t,rfl⟩:=rx;obtain⟨t',rfl⟩:=ry;exact rule i j t t' s _ _ ⟨.int (g i j),H,I.tok _,⟨_,rfl⟩,q⟩
theorem EF{f:Value->Value->Sem Value}{g:Int->Int->Bool}
 (rule:∀(i j:Int)(t u:Tok)(s:Shared)(Q:Value->Shared->Prop)(E:Value->Shared->Prop),Q (.bool (g i j)) s->wpAny (model X.prog X.w) X.A (f (.int i t) (.int j u)) Q E s):
 iY X f (HD λi j=>.bl (g i j)):=by
 intro pins s σ H x y v u Q I rx ry h;obtain⟨i,j,rfl,rfl,q⟩:=h;obtain⟨t,rfl⟩:=rx;obtain⟨t',rfl⟩:=ry;exact rule i j t t' s _ _ ⟨.bl (g i j),H,I,rfl,q⟩
def XB(i j:Int):Prop:=0<j/\j<1073741824
def XA(i j:Int):Prop:=0<=j/\j<=1000000/\i.natAbs<2^64
def CMul(i j:Int):Prop:=(-(2^64)<i/\i<2^64)\/(-(2^64)<j/\j<2^64)
theorem CMul.ok{i j:Int}(h:CMul i j):IntMulOk i j:=by
 rcases h with ⟨h1,h2⟩|⟨h1,h2⟩
 ·exact .of_left (intBits_le_64 h1 h2)
 ·exact .of_right (intBits_le_64 h1 h2)
theorem KR:iY X (binaryOp .Add) (HD λi j=>.int (i+j)):=OW λ_ _ _ _ _ _ _ q=>add_int q
theorem KL:iY X (binaryOp .Sub) (HD λi j=>.int (i-j)):=OW λ_ _ _ _ _ _ _ q=>sub_int q
theorem KN:iY X (binaryOp .Mult) (rI CMul λi j=>.int (i*j)):=RN λ_ _ _ _ _ _ _ hc q=>mul_int q hc.ok
theorem ED:iY X (binaryOp .FloorDiv) (rI XB λi j=>.int (i/j)):=RN λi j _ _ _ _ _ hc q=>by
 have h1:(0:Int)<j:=hc.1;have h2:j<1073741824:=hc.2;exact floordiv_int (by omega) (by rw[Int.fdiv_eq_ediv_of_nonneg i (by omega)];exact q) (.inl (PyProof.noPylong_small (by omega)))
theorem KO:iY X (binaryOp .Mod) (rI (λ_ j=>0<j) λi j=>.int (i%j)):=RN λi j _ _ _ _ _ hc q=>by
 have h1:(0:Int)<j:=hc;exact mod_int' (by omega) (by rw[Int.fmod_eq_emod_of_nonneg i (by omega)];exact q)
theorem KM:iY X (binaryOp .Pow) (rI XA λi j=>.int (i^j.toNat)):=RN λ_ _ _ _ _ _ _ hc q=>pow_int_small hc.1 hc.2.1 hc.2.2 q
end
noncomputable def TQ:V->V->Bool
 |.non,.non=>true|.non,.int _=>true|.int _,.non=>true|.non,.bl _=>true|.bl _,.non=>true|.non,.str _=>true|.str _,.non=>true
 |.int _,.int _=>true|.bl _,.bl _=>true|.str _,.str _=>true|.byt _,.byt _=>true
 |.int _,.str _=>true|.str _,.int _=>true|.bl _,.str _=>true|.str _,.bl _=>true
 |_,_=>false
noncomputable def rEq:R2:=λx y H Q=>TQ x y=true/\Q (.bl (decide (x=y))) H
theorem FM{i j:Int}:decide (V.int i=V.int j)=(i==j):=by
 rw[Bool.eq_iff_iff]
 simp
theorem MG{i j:Bool}:decide (V.bl i=V.bl j)=(i==j):=by
 rw[Bool.eq_iff_iff]
 simp
theorem FL{i j:Str}:decide (V.str i=V.str j)=(i==j):=by
 rw[Bool.eq_iff_iff]
 simp
theorem FO{i j:Array UInt8}:decide (V.byt i=V.byt j)=(i.toList==j.toList):=by
 rw[Bool.eq_iff_iff];cases i;cases j
 simp
section
variable {X:Cx}{a b c:Expr}{ta tb tc:TE}{pos:Pos}
theorem cK{pins:List (Addr×Obj)}{σ:St}{H:Hp}{s:Shared}{Q:VK}{k k':Bool}(I:Inv X pins σ H s)(q:Q (.bl k) H)(e:k=k'):EP X pins σ Q (.bool k') s:=by
 subst e;exact⟨.bl k,H,I,rfl,q⟩
theorem OU:iY X (compareOp .Eq) rEq:=by
 intro pins s σ H x y v u Q I rx ry h;obtain⟨hs,q⟩:=h;cases x with
 |non=>
  cases rx;cases y with
  |non=>cases ry;exact PySem.EqNone.eq_none_none (cK I q (by simp))
  |bl j=>cases ry;exact PySem.EqNone.eq_none_bool (cK I q (by simp))
  |int j=>obtain⟨t',rfl⟩:=ry;exact PySem.EqNone.eq_none_int (cK I q (by simp))
  |str j=>obtain⟨t',rfl⟩:=ry;exact PySem.EqNone.eq_none_str (cK I q (by simp))
  |_=>exact absurd (show false=true from hs) Bool.false_ne_true
 |bl i=>
  cases rx;cases y with
  |non=>cases ry;exact PySem.EqNone.eq_bool_none (cK I q (by simp))
  |bl j=>cases ry;exact eq_bool (cK I q MG)
  |str j=>obtain⟨t',rfl⟩:=ry;exact PySem.EqMixed.eq_bool_str (cK I q (by simp))
  |_=>exact absurd (show false=true from hs) Bool.false_ne_true
 |int i=>
  obtain⟨t,rfl⟩:=rx;cases y with
  |non=>cases ry;exact PySem.EqNone.eq_int_none (cK I q (by simp))
  |int j=>obtain⟨t',rfl⟩:=ry;exact eq_int (cK I q FM)
  |str j=>obtain⟨t',rfl⟩:=ry;exact PySem.EqMixed.eq_int_str (cK I q (by simp))
  |_=>exact absurd (show false=true from hs) Bool.false_ne_true
 |str i=>
  obtain⟨t,rfl⟩:=rx;cases y with
  |non=>cases ry;exact PySem.EqNone.eq_str_none (cK I q (by simp))
  |bl j=>cases ry;exact PySem.EqMixed.eq_str_bool (cK I q (by simp))
  |int j=>obtain⟨t',rfl⟩:=ry;exact PySem.EqMixed.eq_str_int (cK I q (by simp))
  |str j=>obtain⟨t',rfl⟩:=ry;exact eq_str (cK I q FL)
  |_=>exact absurd (show false=true from hs) Bool.false_ne_true
 |byt i=>
  obtain⟨t,rfl⟩:=rx;cases y with
  |byt j=>obtain⟨t',rfl⟩:=ry;exact W.eq_bytes (cK I q FO)
  |_=>exact absurd (show false=true from hs) Bool.false_ne_true
 |_=>cases y<;>exact absurd (show false=true from hs) Bool.false_ne_true
theorem OQ:iY X (compareOp .Lt) (HD λi j=>.bl (decide (i<j))):=EF λ_ _ _ _ _ _ _ q=>lt_int q
theorem OR:iY X (compareOp .LtE) (HD λi j=>.bl (decide (i<=j))):=EF λ_ _ _ _ _ _ _ q=>le_int q
theorem OS:iY X (compareOp .Gt) (HD λi j=>.bl (decide (j<i))):=EF λ_ _ _ _ _ _ _ q=>gt_int q
theorem OT:iY X (compareOp .GtE) (HD λi j=>.bl (decide (j<=i))):=EF λ_ _ _ _ _ _ _ q=>ge_int q
theorem wS:iY X (compareOp .In) (λx y H Q=>∃i j,x=.str i/\y=.str j/\Q (.bl (!(Builtin.Str.occurrences j i 0 j.length 1).isEmpty)) H):=by
 intro pins s σ H x y v u Q I rx ry h;obtain⟨i,j,rfl,rfl,q⟩:=h;obtain⟨t,rfl⟩:=rx;obtain⟨t',rfl⟩:=ry;exact in_str (cK I q rfl)
theorem KP:iY X (compareOp .Is) (λx y H Q=>y=.non/\Q (.bl (decide (x=.non))) H):=by
 intro pins s σ H x y v u Q I rx ry h;obtain⟨rfl,q⟩:=h;cases ry;refine is_none_gen (cK I q ?_)
 cases x<;>first
  |(cases rx;rfl)
  |(obtain⟨t,rfl⟩:=rx;rfl)
theorem EC:iY X (compareOp .IsNot) (λx y H Q=>y=.non/\Q (.bl (!decide (x=.non))) H):=by
 intro pins s σ H x y v u Q I rx ry h;obtain⟨rfl,q⟩:=h;cases ry;refine isnot_none_gen (cK I q ?_)
 cases x<;>first
  |(cases rx;rfl)
  |(obtain⟨t,rfl⟩:=rx;rfl)
theorem oU:iY X (compareOp .NotIn) (λx y H Q=>∃i j,x=.str i/\y=.str j/\Q (.bl (!(!(Builtin.Str.occurrences j i 0 j.length 1).isEmpty))) H):=by
 intro pins s σ H x y v u Q I rx ry h;obtain⟨i,j,rfl,rfl,q⟩:=h;obtain⟨t,rfl⟩:=rx;obtain⟨t',rfl⟩:=ry;exact notIn_str (cK I q rfl)
theorem uO{op:CmpOp}{r:R2}(ho:iY X (compareOp op) r)(ha:PE X a ta)(hb:PE X b tb)(hm:behindInMarks op b=false):PE X (.Compare a [op] [b] pos) (NS r ta tb):=by
 intro pins s σ H Q I h;exact wpAny_Compare1 (MO ha hb I h λv u s2 x y H2 I2 rx ry q=>ho pins s2 σ H2 x y v u Q I2 rx ry q) hm
def NQ(t:TE):TT:=λσ H Q=>t σ H λx H'=>∃k,x=.bl k/\Q k H'
theorem DU{op:CmpOp}{r:R2}(ho:iY X (compareOp op) r)(ha:PE X a ta)(hb:PE X b tb)(hm:behindInMarks op b=false):PT X (.Compare a [op] [b] pos) (NQ (NS r ta tb)):=by
 intro pins s σ H Q I h
 refine wpAny_isTrue_Compare1 (bS (ha pins s σ H _ I h) λv s1 ⟨x,H1,I1,r1,q1⟩=>bS (hb pins s1 σ H1 _ I1 q1) λu s2 ⟨y,H2,I2,r2,q2⟩=>
  bS (ho pins s2 σ H2 x y v u _ I2 r1 r2 q2) λc s3 ⟨z,H3,I3,r3,k,e,q3⟩=>?_) hm
 subst e;cases r3;exact wpAny_truthy_bool ⟨H3,I3,q3⟩
def tV(K:W.Frag)(x:V)(H:Hp)(k:Bool):Prop:=
 match x with
 |.non=>k=false
 |.bl b=>k=b
 |.int i=>k=(i != 0)
 |.str y=>y.length<=sizeLine/\k=((y.length:Int) != 0)
 |.byt y=>y.size<=sizeLine/\k=((y.size:Int) != 0)
 |.ref p=>(∃xs,SqL K H p xs/\k= !xs.isEmpty)\/(∃xs,SqT K H p xs/\k= !xs.isEmpty)\/∃kvs,H p=some (.dK kvs)/\k= !kvs.isEmpty
 |_=>False
theorem sY{κ:Type}{kvs:List (κ×V)}{vs:List (κ×Value)}(r:KV kvs vs):(!vs.isEmpty)= !kvs.isEmpty:=by
 cases r<;>rfl
theorem mD{xs:List V}{its:List Value}(r:Vals xs its):(!its.toArray.isEmpty)= !xs.isEmpty:=by
 cases r<;>simp
theorem jI:(sizeLine:Nat)<2^63:=by rw[sizeLine_eq];decide
theorem yK:WN X (λx H Q=>∃k,tV X.K x H k/\Q k H):=by
 intro pins s σ H x v Q I rx h;obtain⟨k,e,q⟩:=h;have hl:=jI;have hs:sizeLine=16777216:=sizeLine_eq;cases x with
 |non=>
  cases rx;have e':k=false:=e;subst e';exact truthy_none ⟨H,I,q⟩
 |bl b=>
  cases rx;have e':k=b:=e;subst e';exact wpAny_truthy_bool ⟨H,I,q⟩
 |int i=>
  obtain⟨t,rfl⟩:=rx;have e':k=(i != 0):=e;subst e';exact PySem.P.truthy_int ⟨H,I,q⟩
 |str y=>
  obtain⟨t,rfl⟩:=rx;obtain⟨hy,e'⟩:y.length<=sizeLine/\k=((y.length:Int) != 0):=e;subst e';exact PySem.P.truthy_str (by omega) ⟨H,I.tok _,q⟩
 |byt y=>
  obtain⟨t,rfl⟩:=rx;obtain⟨hy,e'⟩:y.size<=sizeLine/\k=((y.size:Int) != 0):=e;subst e';exact W.truthy_bytes (by omega) ⟨H,I.tok _,q⟩
 |ref p=>
  cases rx;have e':(∃xs,SqL X.K H p xs/\k= !xs.isEmpty)\/(∃xs,SqT X.K H p xs/\k= !xs.isEmpty)\/∃kvs,H p=some (.dK kvs)/\k= !kvs.isEmpty:=e;rcases e' with ⟨xs,hx,e'⟩|⟨xs,hx,e'⟩|⟨kvs,hx,e'⟩
  ·subst e';obtain⟨its,r,pl,hz⟩:=I.list hx;have hlen:=r.length;exact wpAny_truthy_list pl.isList (by simp only[Zk];omega) ⟨H,I.tok _,by rw[mD r];exact q⟩
  ·subst e';obtain⟨its,r,pl,hz⟩:=I.tuple hx;have hlen:=r.length;exact truthy_tuple pl (by simp only[Zk];omega) ⟨H,I.tok _,by rw[mD r];exact q⟩
  ·subst e';obtain⟨hz,hS,vs,r,m⟩:kvs.length<=sizeLine/\(p==sysModules)=false/\∃vs,KV kvs vs/\s.heap.DictOf (cI X.prog X.w) p vs:=I.hok p _ hx;have hlen:kvs.length=vs.length:=Paired.length r;exact wpAny_truthy_dict hS m (by omega) ⟨H,I.tok _,by rw[sY r];exact q⟩
 |_=>exact(show False from e).elim
theorem lR(ha:PE X a ta)(he:∀whole,isTrue a X.env whole=(do let v <- whole;standAt a.pos;holding [v] (truthy v))):
 PT X a (λσ H Q=>ta σ H λx H'=>∃k,tV X.K x H' k/\Q k H'):=by
 intro pins s σ H Q I h;exact isTrue_plain (bS (ha pins s σ H _ I h) λv s1 ⟨x,H1,I1,r1,q1⟩=>yK pins s1 σ H1 x v Q I1 r1 q1) (he _)
theorem sR:iY X (binaryOp .Add) (λx y H Q=>∃i j,x=.str i/\y=.str j/\i.length+j.length<=sizeLine/\Q (.str (i++j)) H):=by
 intro pins s σ H x y v u Q I rx ry h;obtain⟨i,j,rfl,rfl,hz,q⟩:=h;obtain⟨t,rfl⟩:=rx;obtain⟨t',rfl⟩:=ry;exact add_str (λt' tk=>⟨.str (i++j),H,I.tok _,⟨_,rfl⟩,q⟩) hz
theorem fB{x:V}{us:List Value}(r:Vals [x] us):∃u,us=[u]/\RelV x u:=by
 cases r with
 |cons r1 r2=>cases r2;exact⟨_,rfl,r1⟩
theorem GX{x y:V}{us:List Value}(r:Vals [x,y] us):∃u w',us=[u,w']/\RelV x u/\RelV y w':=by
 cases r with
 |cons r1 r2=>
  cases r2 with
  |cons r3 r4=>cases r4;exact⟨_,_,rfl,r1,r3⟩
theorem xU(hc:X.calm=true):eJ X (.builtin "max") (λxs H Q=>∃i j,xs=[.int i,.int j]/\Q (.int (if j>i then j else i)) H):=by
 intro pins s σ H xs us Q I r h;obtain⟨i,j,rfl,q⟩:=h;obtain⟨u,w',rfl,⟨t,rfl⟩,⟨t',rfl⟩⟩:=GX r;refine max_two_ints (I.ok.hd hc) λh' tk k=>⟨_,H,I.kept k,?_,q⟩
 by_cases hj:j>i
 ·rw[if_pos hj,if_pos hj];exact⟨_,rfl⟩
 ·rw[if_neg hj,if_neg hj];exact⟨_,rfl⟩
theorem xT(hc:X.calm=true):eJ X (.builtin "min") (λxs H Q=>∃i j,xs=[.int i,.int j]/\Q (.int (if j<i then j else i)) H):=by
 intro pins s σ H xs us Q I r h;obtain⟨i,j,rfl,q⟩:=h;obtain⟨u,w',rfl,⟨t,rfl⟩,⟨t',rfl⟩⟩:=GX r;refine min_two_ints (I.ok.hd hc) λh' tk k=>⟨_,H,I.kept k,?_,q⟩
 by_cases hj:j<i
 ·rw[if_pos hj,if_pos hj];exact⟨_,rfl⟩
 ·rw[if_neg hj,if_neg hj];exact⟨_,rfl⟩
theorem oA:eJ X (.type "int") (λxs H Q=>(∃i,xs=[.int i]/\Q (.int i) H)\/∃k,xs=[.bl k]/\Q (.int (if k then 1 else 0)) H):=by
 intro pins s σ H xs us Q I r h;rcases h with ⟨i,rfl,q⟩|⟨k,rfl,q⟩
 ·obtain⟨u,rfl,t,rfl⟩:=fB r;exact call_int_int ⟨.int i,H,I,⟨_,rfl⟩,q⟩
 ·obtain⟨u,rfl,r1⟩:=fB r;cases r1;exact call_int_bool ⟨.int (if k then 1 else 0),H,I.tok _,⟨_,rfl⟩,q⟩
theorem pN:eJ X (.type "str") (λxs H Q=>∃i,xs=[.int i]/\i.natAbs.log2<1920/\Q (.str (toString i)) H):=by
 intro pins s σ H xs us Q I r h;obtain⟨i,rfl,hz,q⟩:=h;obtain⟨u,rfl,t,rfl⟩:=fB r;exact PySem.P.str_of_int hz ⟨.str _,H,I.tok _,⟨_,rfl⟩,q⟩
end
end L2
namespace L2
open PySem PySem.Spec PyProof.Rows
theorem wY{h:Heap}{dx:Addr}{mA:Str->Option Value}(n:h.Ns1 dx mA):∃od,h.get? dx=some od/\∀name,W.lookIn name od=some (mA name):=by
 obtain⟨o,es,ep,ho,hd,hk,_,hm⟩:=n;refine⟨o,ho,λname=>?_⟩;have e:=hm name;unfold nsFind findBy at e;rw[<- Array.find?_toList] at e;unfold W.lookIn;rw[hd];dsimp only;split
 ·rename_i y q;rw[q] at e;exact congrArg some e
 ·rename_i q;rw[q] at e
  have a:es.toList.any (·.refKey)=false:=by
   rw[List.any_eq_false];intro y hy;obtain⟨z,t,hkey⟩:=hk y (Array.mem_toList_iff.mp hy);simp[DictEntry.refKey,hkey]
  have a':¬es.toList.any (·.refKey)=true:=by rw[a];exact Bool.false_ne_true
  rw[if_neg a'];exact congrArg some e
section
variable {prog:Program}{w:World}{A:Around}{E:Value->Shared->Prop}{s:Shared}{K:W.Frag}{x dx C f:Addr}{mA:Str->Option Value}{name:Str}{v:Value}
end
theorem RelO.some_of{v:V}{o:Option Value}(r:RelO (some v) o):∃u,o=some u/\RelV v u:=by
 cases o with
 |none=>exact(show False from r).elim
 |some u=>exact⟨u,rfl,r⟩
section
variable {P:Program}{w:World}{H H':Hp}{h h':Heap}{a C dx:Addr}{fs fs':List (Str×V)}
end
structure Cls (K:W.Frag)(C:Addr):Prop where
 pg:W.plainGet K C Str.empty=true
 hd:W.hasDictIn K C=true
 po:W.plainOver K C=true
 sa:W.findIn K (.ref C) "__setattr__"=some (some (.builtin "object.__setattr__"))
def tY(K:W.Frag)(C:Addr)(f:Str):Prop:=W.findIn K (.ref C) f=some none
structure Meth (K:W.Frag)(C:Addr)(m:Str)(f:Addr):Prop where
 at_:W.findIn K (.ref C) m=some (some (.ref f))
 fn:W.isFn K (.ref f)=true
 kp:W.keepIn K (.ref f)=true
section
variable {X:Cx}{pins:List (Addr×Obj)}{σ:St}{H:Hp}{s:Shared}{a C dx:Addr}{fs:List (Str×V)}{f:Str}{v:V}{A:Around}{E:Value->Shared->Prop}
theorem GM{prog:Program}{w:World}{env:Env}{e:Expr}{f:Str}{pos:Pos}{s:Shared}{Q:Value->Shared->Prop}(hb:attributeBase e f env (eval e env)=eval e env)
 (h:wpAny (model prog w) A (eval e env) (λo s₁=>wpAny (model prog w) A (getAttr o f true) Q E s₁) E s):wpAny (model prog w) A (eval (.Attribute e f pos) env) Q E s:=
 Attribute_any_ h (by rw[arm_eval_Attribute,hb])
end
section
variable {X:Cx}{o e value:Expr}{f:Str}{pos pos' tpos:Pos}{ta tv:TE}
end
section
variable {X:Cx}{pins:List (Addr×Obj)}{σ:St}{H:Hp}{s:Shared}{A:Around}{E:Value->Shared->Prop}{Q:Value->Shared->Prop}{c:Value}{b:Bool}
end
end L2
namespace L2
open PySem PySem.Spec PyProof.Rows
structure Room (k:Nat)(A:Around):Prop where
 hd:A.handled=none
 dp:A.depth+3*k+5<recursionLimit
 un:A.units+16*k+200<cLine
theorem Room.mono{j k:Nat}{A:Around}(r:Room k A)(h:j<=k):Room j A:=⟨r.hd,by have:=r.dp;omega,by have:=r.un;omega⟩
theorem Room.deeper{k:Nat}{A:Around}(r:Room (k+1) A)(env:Env):Room k (A.deeper env):=
 ⟨r.hd,by have:=r.dp;show A.depth+1+3*k+5<_;omega,by have:=r.un;show A.units+3+16*k+200<_;omega⟩
theorem sU{A:Around}{C:Addr}{us:List Value}{kw:List (Str×Value)}:(A.under (.builtin "type.__call__" ⟨.ref C::us,kw⟩)).depth=A.depth+1:=by
 first |rfl|simp[Around.under,Code.weight,Code.isCreation,Code.isGuard,Code.isCaller,Code.frames,Code.isFrame,guardIds]
theorem sT{A:Around}{C:Addr}{us:List Value}{kw:List (Str×Value)}:(A.under (.builtin "type.__call__" ⟨.ref C::us,kw⟩)).units=A.units+1:=by
 first |rfl|simp[Around.under,Code.cUnits,Code.frames,Code.isFrame]
theorem Room.make{k:Nat}{A:Around}(r:Room (k+1) A)(C:Addr)(us:List Value)(kw:List (Str×Value)):Room k (A.under (.builtin "type.__call__" ⟨.ref C::us,kw⟩)):=
 ⟨r.hd,by have:=r.dp;rw[sU];omega,by have:=r.un;rw[sT];omega⟩
theorem Room.depth{k:Nat}{A:Around}(r:Room k A):A.depth<recursionLimit:=by have:=r.dp;omega
theorem Room.units{k:Nat}{A:Around}(r:Room k A):A.units+64<cLine:=by have:=r.un;omega
noncomputable def kJ:TA:=λ_ H Q=>Q [] H
noncomputable def dX(ta:TE)(tr:TA):TA:=λσ H Q=>ta σ H λx H1=>tr σ H1 λxs H2=>Q (x::xs) H2
section
variable {X:Cx}{e:Expr}{es:List Expr}{te:TE}{t:TA}{pos:Pos}
theorem cV:PA X [] kJ:=λ_ _ _ _ H Q I h=>Calls.spliced_nil ⟨[],H,I,.nil,h⟩
theorem bH(ha:PE X e te)(hr:PA X es t)(hs:starEach (e::es) X.env=(false,eval e X.env)::starEach es X.env:=by rfl):PA X (e::es) (dX te t):=by
 intro pos pins s σ H Q I h;rw[hs];show wpAny _ _ (spliced ((false,eval e X.env)::backTo pos (starEach es X.env))) _ _ s;refine Calls.spliced_cons (bS (ha pins s σ H _ I h) λu s1 ⟨x,H1,I1,r1,q1⟩=>?_);exact bS (hr pos pins s1 σ H1 _ I1 q1) λus s2 ⟨xs,H2,I2,r2,q2⟩=>⟨x::xs,H2,I2,.cons r1 r2,q2⟩
def NP(t:TA):TE:=λσ H Q=>t σ H λxs H1=>xs.length<=sizeLine/\∀p,H1 p=none->Q (.ref p) (bV H1 p (.tup xs))
def TC(t:TA):TE:=λσ H Q=>t σ H λxs H1=>xs.length<=sizeLine/\∀p,H1 p=none->Q (.ref p) (bV H1 p (.lst xs))
theorem sP{x1}(h:PA X es t):PE X (.Tuple es x1 pos) (NP t):=by
 intro pins s σ H Q I hq;refine wpAny_Tuple_spliced (bS (h pos pins s σ H _ I hq) λus s1 ⟨xs,H1,I1,r,z,q⟩=>⟨by rw[<- r.length];exact z,?_⟩);have hf:H1 s1.heap.objs.size=none:=I1.hok.fresh (Zn _);refine⟨.ref s1.heap.objs.size,bV H1 s1.heap.objs.size (.tup xs),I1.laid (t':=s1.toks) (λb u e=>Zf _ e) (Zn _) ?_,rfl,q _ hf⟩;exact⟨z,us,r,⟨_,Heap.get?_push_size _ rfl,rfl,_,rfl⟩⟩
theorem KH(h:PA X es t):PE X (.List es pos) (TC t):=by
 intro pins s σ H Q I hq;refine wpAny_List_spliced (bS (h pos pins s σ H _ I hq) λus s1 ⟨xs,H1,I1,r,z,q⟩=>⟨by rw[<- r.length];exact z,?_⟩);have hf:H1 s1.heap.objs.size=none:=I1.hok.fresh (Zn _);refine⟨.ref s1.heap.objs.size,bV H1 s1.heap.objs.size (.lst xs),I1.laid (t':=s1.toks) (λb u e=>Zf _ e) (Zn _) ?_,rfl,q _ hf⟩;exact⟨z,us,0,r,Heap.get?_push_size _ rfl⟩
end
noncomputable abbrev Sp:=List V->Hp->VK->XK->Prop
noncomputable abbrev yC:=List Env->Hp->Shared->XK->Value->Shared->Prop
structure Env0 (P:Program)(w:World)(K:W.Frag)(mg:Str->Option Value)(base:Heap)(A:Around)(outer:List Env)(s:Shared)(H:Hp):Prop where
 frames:A.frames=some outer
 mod:Mod K mg base
 bs:∀b o,base.get? b=some o->s.heap.get? b=some o/\H b=none
 bsz:base.objs.size<=s.heap.objs.size
 funs:s.heap.FunFrames base outer
 frf:∀b∈fC outer,H b=none
 hok:HOk P w H s.heap
 bare:AllBare s.gens
def CE(outer:List Env)(P:Program)(w:World)(H:Hp)(s:Shared)(Q:VK)(u:Value)(s':Shared):Prop:=
 ∃v H',s'.os=s.os/\AllBare s'.gens/\Un (fC outer) [] H H' s.heap s'.heap/\HOk P w H' s'.heap/\RelV v u/\Q v H'
def CR(CX:yC)(outer:List Env)(P:Program)(w:World)(H:Hp)(s:Shared)(Q:VK)(E:XK)(r:Result)(s':Shared):Prop:=
 match r with
 |.ok (.ret u)=>CE outer P w H s Q u s'
 |.ok _=>False
 |.error e=>CX outer H s E e s'
structure FnOk (P:Program)(w:World)(K:W.Frag)(mg:Str->Option Value)(base:Heap)(CX:yC)(k:Nat)(f:Addr)(fd:FuncData)(ps:List Str)(sp:Sp):Prop where
 len:∀vs H Q E,sp vs H Q E->vs.length=ps.length
 run:∀(A:Around)(outer:List Env)(s:Shared)(H:Hp)(args:Args)(us:List Value)(vs:List V)(Q:VK)(E:XK),Room k A->Env0 P w K mg base A outer s H->BindsTo s fd args (ps.zip us)->Vals vs us->sp vs H Q E->
  codeAny (model P w) A (.call (.ref f) args) (CR CX outer P w H s Q E) s
theorem FnOk.imp{P:Program}{w:World}{K:W.Frag}{mg:Str->Option Value}{base:Heap}{CX:yC}{k:Nat}{f:Addr}{fd:FuncData}{ps:List Str}{sp sp':Sp}(F:FnOk P w K mg base CX k f fd ps sp)
 (h:∀vs H Q E,sp' vs H Q E->sp vs H Q E):FnOk P w K mg base CX k f fd ps sp':=
 ⟨λvs H Q E q=>F.len vs H Q E (h _ _ _ _ q),λA outer s H args us vs Q E hr he hb hv hs=>F.run A outer s H args us vs Q E hr he hb hv (h _ _ _ _ hs)⟩
theorem Env0.make{P:Program}{w:World}{K:W.Frag}{mg:Str->Option Value}{base:Heap}{A:Around}{outer:List Env}{s:Shared}{H:Hp}(e:Env0 P w K mg base A outer s H)(C:Addr)(us:List Value)(kw:List (Str×Value)):
 Env0 P w K mg base (A.under (.builtin "type.__call__" ⟨.ref C::us,kw⟩)) outer s H:=⟨by first |exact e.frames|(simpa [Around.under,Code.envs,Code.isFrame,pushEnvs] using e.frames),e.mod,e.bs,e.bsz,e.funs,e.frf,e.hok,e.bare⟩
section
variable {X:Cx}{pins:List (Addr×Obj)}{σ:St}{H:Hp}{s s':Shared}
theorem Inv.env0(I:Inv X pins σ H s):Env0 X.prog X.w X.K X.mg X.base X.A X.stack s H:=
 ⟨I.ok.frames,I.ok.mod,I.bs,Nat.le_trans I.ok.bsz I.sz,I.stack,I.stkFree,I.hok,I.bare⟩
theorem Inv.after{Q:VK}{u:Value}(I:Inv X pins σ H s)(h:CE X.stack X.prog X.w H s Q u s'):EP X pins σ Q u s':=by
 obtain⟨v,H',os,bare,un,hok,r,q⟩:=h;obtain⟨hh,g,d,t,os'⟩:=s';obtain rfl:os'=s.os:=os;exact⟨v,H',I.call (h':=hh) (g':=g) (d':=d) (t':=t) (ch:= []) un hok bare (λb z=>absurd z (by simp)),r,q⟩
end
def NX(sp:Sp)(dvs:List V)(E:XK)(t:TA):TE:=λσ H Q=>t σ H λvs H1=>sp (vs++dvs) H1 Q E
def Binds(K:W.Frag)(fd:FuncData)(ps:List Str)(ds:List Value):Prop:=
 ∀(s:Shared)(us:List Value),K.In s.heap->(us++ds).length=ps.length->BindsTo s fd ⟨us,[]⟩ (ps.zip (us++ds))
theorem Binds.all{K:W.Frag}{fd:FuncData}{ps:List Str}(h:∀us:List Value,us.length=ps.length->bindArgs fd ⟨us,[]⟩=pure (ps.zip us)):Binds K fd ps []:=λs us _ hl=>by
 rw[Zm] at hl⊢;exact .of_eq (h us hl)
def tW(CX:yC)(X:Cx)(E:XK):Prop:=∀(pins:List (Addr×Obj))(σ:St)(H:Hp)(s:Shared)(e:Value)(s':Shared),Inv X pins σ H s->CX X.stack H s E e s'->X.xe e s'
section
variable {X:Cx}{CX:yC}{k:Nat}{f C:Addr}{fd:FuncData}{ps:List Str}{sp:Sp}{dvs:List V}{ds:List Value}{E:XK}{x m:Str}{p pos apos:Pos}{e o:Expr}{es:List Expr}{ta:TE}{t:TA}
theorem JU{pins:List (Addr×Obj)}{σ:St}{H:Hp}{s:Shared}{Q:VK}{us:List Value}{vs:List V}(F:FnOk X.prog X.w X.K X.mg X.base CX k f fd ps sp)(hr:Room k X.A)(hb:Binds X.K fd ps ds)(hd:Vals dvs ds)(hx:tW CX X E)
 (I:Inv X pins σ H s)(r:Vals vs us)(h:sp (vs++dvs) H Q E):wpAny (model X.prog X.w) X.A (call (.ref f) us) (EP X pins σ Q) X.xe s:=by
 have r2:Vals (vs++dvs) (us++ds):=r.append hd;have hl:(us++ds).length=ps.length:=by rw[<- r2.length];exact F.len _ _ _ _ h
 refine wpAny_call (codeAny_mono (F.run X.A X.stack s H ⟨us,[]⟩ (us++ds) (vs++dvs) Q E hr I.env0 (hb s us I.kIn hl) r2 h) λr s' hq=>?_);cases r with
 |error e=>exact hx pins σ H s e s' I hq
 |ok fl=>
  cases fl with
  |ret u=>exact I.after hq
  |next=>exact False.elim hq
  |brk=>exact False.elim hq
  |cont=>exact False.elim hq
theorem DZ(F:FnOk X.prog X.w X.K X.mg X.base CX k f fd ps sp)(hr:Room k X.A)(hg:Gl X x)(hm:X.mg x=some (.ref f))(hk:W.keepIn X.K (.ref f)=true)(hb:Binds X.K fd ps ds)(hd:Vals dvs ds)(hx:tW CX X E)
 (ha:PA X (e::es) t)(hdb:(x==("__debug__":Str))=false:=by decide)(he:starEach (e::es) X.env=(false,eval e X.env)::starEach es X.env:=by rfl)(hpl:(backTo pos (starEach es X.env)).any (·.1)=false:=by rfl):
 PE X (.Call (.Name x p) (e::es) [] pos) (NX sp dvs E t):=by
 intro pins s σ H Q I h;refine wpAny_Call_Name_kw (gB I hg hm ?_ hdb);refine W.callWith_K (h₀:=X.base) I.ok.mod.kin hk (bS (ha pos pins s σ H _ I h) λus s1 ⟨vs,H1,I1,r,q⟩=>⟨I1.kIn,?_⟩) he hpl;exact JU F hr hb hd hx I1 r q
structure Mk (K:W.Frag)(C f:Addr):Prop where
 makes:W.makesIn K C=true
 init:W.findIn K (.ref C) "__init__"=some (some (.ref f))
 fn:W.isFn K (.ref f)=true
 kp:W.keepIn K (.ref C)=true
end
section
variable {X:Cx}{CX:yC}{k:Nat}{f C:Addr}{fd:FuncData}{ps ks:List Str}{sp:Sp}{E:XK}{x m:Str}{p pos apos kpos:Pos}{e o:Expr}{es:List Expr}{kws:List Keyword}{te ta:TE}{t tk:TA}{nm:Option Str}
variable {g:List Value->List Value->List Value}{gV:List V->List V->List V}
end
structure FnScope (N P:List Str)(sc:Scope):Prop where
 kind:sc.kind=.function
 co:sc.isCoroutine=false
 gen:sc.isGenerator=false
 nd:N.Nodup
 pre:N.take P.length=P
 par:∀x∈P,sc.names.lookup x=some .local\/sc.names.lookup x=some .cell
 nofree:∀y∈sc.names,y.2≠ .free
theorem oC{kindOf:Str->Option NameKind}{x:Str}:∀{binds:List (Str×Value)}{m:Str->Option Value},(∀v,(x,v) ∉ binds)->bindL kindOf binds m x=m x
 | [],_,_=>rfl
 |(n,v)::r,m,h=>by
  unfold bindL;rw[oC λw hw=>h w (Zj _ hw)];split
  ·have:x≠n:=by rintro rfl;exact h v Zl
   simp[this]
  ·rfl
theorem oF{kindOf:Str->Option NameKind}{x:Str}:∀{binds:List (Str×Value)}{m:Str->Option Value},(∀v,(x,v) ∉ binds)->bindC kindOf binds m x=m x
 | [],_,_=>rfl
 |(n,v)::r,m,h=>by
  unfold bindC;rw[oF λw hw=>h w (Zj _ hw)];split
  ·rfl
  ·have:x≠n:=by rintro rfl;exact h v Zl
   simp[this]
theorem oE{kindOf:Str->Option NameKind}{x:Str}{v:Value}:∀{P:List Str}{vs:List Value}{i:Nat}{m:Str->Option Value},P.Nodup->P[i]? =some x->vs[i]? =some v->kindOf x=some .local->
 bindL kindOf (P.zip vs) m x=some v
 | [],_,_,_,_,h,_,_=>by simp at h
 |_::_,[],_,_,_,_,h,_=>by simp at h
 |p::P,w::vs,0,m,nd,h1,h2,hk=>by
  simp at h1 h2;subst h1;subst h2;show bindL kindOf ((p,w)::P.zip vs) m p=_;unfold bindL;rw[oC λv hv=>(List.nodup_cons.mp nd).1 (List.of_mem_zip hv).1,if_pos hk]
  simp
 |p::P,w::vs,i+1,m,nd,h1,h2,hk=>by
  show bindL kindOf ((p,w)::P.zip vs) m x=_;unfold bindL;exact oE (i:=i) (List.nodup_cons.mp nd).2 (by simpa using h1) (by simpa using h2) hk
theorem oG{kindOf:Str->Option NameKind}{x:Str}{v:Value}:∀{P:List Str}{vs:List Value}{i:Nat}{m:Str->Option Value},P.Nodup->P[i]? =some x->vs[i]? =some v->kindOf x≠some .local->
 bindC kindOf (P.zip vs) m x=some v
 | [],_,_,_,_,h,_,_=>by simp at h
 |_::_,[],_,_,_,_,h,_=>by simp at h
 |p::P,w::vs,0,m,nd,h1,h2,hk=>by
  simp at h1 h2;subst h1;subst h2;show bindC kindOf ((p,w)::P.zip vs) m p=_;unfold bindC;rw[oF λv hv=>(List.nodup_cons.mp nd).1 (List.of_mem_zip hv).1,if_neg hk]
  simp
 |p::P,w::vs,i+1,m,nd,h1,h2,hk=>by
  show bindC kindOf ((p,w)::P.zip vs) m x=_;unfold bindC;exact oG (i:=i) (List.nodup_cons.mp nd).2 (by simpa using h1) (by simpa using h2) hk
noncomputable def start(N:List Str)(vs:List V):St:=vs.map some++List.replicate (N.length-vs.length) none
noncomputable def fH(CX:yC)(P:Program)(w:World)(K:W.Frag)(mg:Str->Option Value)(base:Heap)(N:List Str)(qual:Str)(scope:Scope)(f:Addr)(cd:Value)(A:Around)(outer:List Env)(s:Shared)(H:Hp)(E:XK):Cx where
 prog:=P
 w:=w
 K:=K
 mg:=mg
 base:=base
 A:=A.deeper (envOfC qual scope s.heap.objs.size f cd)
 N:=N
 s₀:=s
 H₀:=H
 env:=envOfC qual scope s.heap.objs.size f cd
 outer:=outer
 stack:=envOfC qual scope s.heap.objs.size f cd::outer
 ex:= []
 calm:=true
 fn:=λ_=>true
 pn:= []
 xe:=λe s'=>wpAny (model P w) (A.deeper (envOfC qual scope s.heap.objs.size f cd)) (leaving (envOfC qual scope s.heap.objs.size f cd) e) (λ_ s''=>CX outer H s E e s'') (λe' s''=>CX outer H s E e' s'') s'
theorem rS{sc:Scope}{n:Nat}{x:Str}(h:sc.names.lookup x=some .cell):∃c,(cellsFrom n sc.names []).lookup x=some c:=by
 have q:=W.cellsFrom_some sc.names n [] (.inl h);exact Option.isSome_iff_exists.mp q
theorem nV{CX:yC}{P:Program}{w:World}{K:W.Frag}{mg:Str->Option Value}{base:Heap}{N ps:List Str}{qual:Str}{scope:Scope}{f:Addr}{cd:Value}{A:Around}{outer:List Env}{s s1:Shared}{H:Hp}{E:XK}{us:List Value}{vs:List V}
 (S:FnScope N ps scope)(hd:A.handled=none)(e0:Env0 P w K mg base A outer s H)(hl:vs.length=ps.length)(r:Vals vs us)
 (x:InCallC s s.heap.objs.size (bindL (envOfC qual scope s.heap.objs.size f cd).kindOf (ps.zip us) λ_=>none) (cellsFrom (s.heap.objs.size+1) scope.names []) (bindC (envOfC qual scope s.heap.objs.size f cd).kindOf (ps.zip us) λ_=>none) s1):
 Inv (fH CX P w K mg base N qual scope f cd A outer s H E) [] (start N vs) H s1:=by
 have hpl:ps.length<=N.length:=by have:=congrArg List.length S.pre;rw[List.length_take] at this;omega
 obtain⟨h1,tk,rfl,hk⟩:=x.done;have noA:∀b:Addr,b ∉ (fH CX P w K mg base N qual scope f cd A outer s H E).ex:=λb z=>absurd (show b∈([]:List Addr) from z) (by simp)
 refine⟨⟨e0.mod,S.kind,rfl,rfl,Zn _,λy z c h1 h2=>?_,λy hy=>?_,λy c _ h=>?_,λ_=>hd,Around.frames_deeper e0.frames,.inr ⟨rfl,rfl⟩,λb z=>absurd z (noA b),e0.bs,e0.bsz,λb _ _=>noA b,λb z=>absurd z (noA b),e0.funs,e0.frf⟩,
  rfl,e0.bare,Un.kept hk,⟨_,x.toInCall.ns,λi y v h1 h2 h3=>?_⟩,λy c h=>⟨_,x.cell y c h⟩,e0.hok.fresh (Zn _),λy c h=>?_,λp hp=>absurd (show p∈([]:List (Addr×Obj)) from hp) (by simp),e0.hok.kept hk,?_⟩
 ·exact name_of_addr x.apart (PySem.mem_of_lookup h1) (PySem.mem_of_lookup h2)
 ·have hy:scope.names.lookup y=some .cell\/scope.names.lookup y=some .free:=hy;rcases hy with hy|hy
  ·exact rS hy
  ·exact absurd rfl (S.nofree _ (PySem.mem_of_lookup hy))
 ·exact Nat.le_of_lt (x.above y c (PySem.mem_of_lookup h))
 ·have hi:i<vs.length:=by
   unfold start at h2
   by_cases hi:i<vs.length
   ·exact hi
   ·rw[List.getElem?_append_right (by simpa using hi)] at h2;rw[List.getElem?_replicate] at h2;split at h2<;>cases h2
  have ha:vs[i]? =some v:=by
   unfold start at h2;rw[List.getElem?_append_left (by simpa using hi),Zi] at h2;cases e:vs[i]? with
   |none=>rw[e] at h2;cases h2
   |some a=>rw[e] at h2;cases h2;rfl
  obtain⟨u,hu,rv⟩:=r.get ha
  have hp:ps[i]? =some y:=by
   rw[<- S.pre,List.getElem?_take_of_lt (by omega)];exact h1
  have ndP:ps.Nodup:=by rw[<- S.pre];exact S.nd.sublist (List.take_sublist _ _)
  refine⟨u,rv,?_⟩;rcases S.par y (List.mem_of_getElem? hp) with k|k
  ·exact .inl ⟨k,oE ndP hp hu k⟩
  ·obtain⟨c,e⟩:=rS (n:=s.heap.objs.size+1) k;refine .inr ⟨.inl k,c,e,?_⟩;have q:=x.cell y c e;rw[oG ndP hp hu (by show scope.names.lookup y≠_;rw[k];decide)] at q;exact q
 ·exact e0.hok.fresh (Nat.le_of_lt (x.above y c (PySem.mem_of_lookup h)))
 ·unfold start;show _=N.length;rw[List.length_append,Zc,List.length_replicate];omega
theorem IB{CX:yC}{P:Program}{w:World}{K:W.Frag}{mg:Str->Option Value}{base:Heap}{k:Nat}{f:Addr}{name qual:Str}{params:Arguments}{body:List Stmt}{scope:Scope}{dV kV doc pm cdv ct oc:Value}{an od:Option Addr}
 {osl:Array (Option Value)}{N ps:List Str}{sp:Sp}(lk:K.lookup f=some ⟨oc,od,.func (W.fnOf name qual params body scope dV kV doc pm an cdv ct),osl⟩)(hcd:W.codeIn K cdv qual=true)(S:FnScope N ps scope)
 (len:∀vs H Q E,sp vs H Q E->vs.length=ps.length)
 (hbody:∀(A:Around)(outer:List Env)(s:Shared)(H:Hp)(vs:List V)(Q:VK)(E:XK),Room k (A.deeper (envOfC qual scope s.heap.objs.size f cdv))->sp vs H Q E->
   ∃t,PSs (fH CX P w K mg base N qual scope f cdv A outer s H E) body t/\t {nx:=λ_ H'=>Q .non H',rt:=Q} (start N vs) H):
 FnOk P w K mg base CX (k+1) f (W.fnOf name qual params body scope dV kV doc pm an cdv ct) ps sp:=by
 refine⟨len,λA outer s H args us vs Q E hr e0 hb r hsp=>?_⟩;have hl:=len _ _ _ _ hsp;have KX:K.In s.heap:=e0.mod.kin.keeps λb o e=>(e0.bs b o e).1;have lim:s.heap.NoLimit:=e0.mod.nolimit.keeps λb o e=>(e0.bs b o e).1
 have hkind:∀y∈ps.zip us,scope.names.lookup y.1=some .local\/(scope.names.lookup y.1=some .cell/\((cellsFrom (s.heap.objs.size+1) scope.names []).lookup y.1).isSome=true):=λ⟨n,v⟩ hy=>by
  rcases S.par n (List.of_mem_zip hy).1 with q|q
  ·exact .inl q
  ·exact .inr ⟨q,W.cellsFrom_some _ _ _ (.inl q)⟩
 refine codeAny_call_function hr.depth (KX _ _ lk) rfl S.co S.gen rfl (W.codeRec_of KX hcd) (hb _ _ _ _ ?_);refine wpAny_newFunctionEnv_cells S.kind hkind λenv he s1 x=>?_;subst he;refine⟨lim.keeps x.toInCall.keep,codeAny_func ?_⟩;obtain⟨t,ht,hq⟩:=hbody A outer s H vs Q E (hr.deeper _) hsp;have I:Inv (fH CX P w K mg base N qual scope f cdv A outer s H E) [] (start N vs) H s1:=nV S hr.hd e0 hl r x;refine wpAny_mono (ht [] s1 (start N vs) H _ I hq) (λfl s' hs=>?_) λe s' hs=>hs
 have fin:∀{σ':St}{H':Hp}{v:V}{u:Value},Inv (fH CX P w K mg base N qual scope f cdv A outer s H E) [] σ' H' s'->RelV v u->Q v H'->CE outer P w H s Q u s':=
  λ{σ' H' v u} J rv q=>⟨v,H',J.os,J.bare,J.base,J.hok,rv,q⟩
 cases fl with
 |ret u=>
  obtain⟨v,σ',H',J,rv,q⟩:=hs;exact fin J rv q
 |next=>
  obtain⟨σ',H',J,q⟩:=hs;exact fin (v:=V.non) (u:=Value.none) J rfl q
 |brk=>
  obtain⟨_,_,_,q⟩:=hs;exact False.elim q
 |cont=>
  obtain⟨_,_,_,q⟩:=hs;exact False.elim q
end L2
namespace L2
open PySem PySem.Spec PyProof.Rows
section
variable {X:Cx}{x:Str}{p pos:Pos}{e:Expr}{es:List Expr}{t:TA}{id T:String}{r:List V->Hp->VK->Prop}
def RH(r:List V->Hp->VK->Prop)(t:TA):TE:=λσ H Q=>t σ H λvs H1=>r vs H1 Q
theorem iO(hc:eJ X (.builtin id) r)(hg:Gl X x)(hm:X.mg x=none)(hv:bootBuiltins x=some (.builtin id))(ha:PA X (e::es) t)(hn:x≠"__name__":=by decide)(hdb:(x==("__debug__":Str))=false:=by decide)
 (he:starEach (e::es) X.env=(false,eval e X.env)::starEach es X.env:=by rfl)(hpl:(backTo pos (starEach es X.env)).any (·.1)=false:=by rfl):PE X (.Call (.Name x p) (e::es) [] pos) (RH r t):=by
 intro pins s σ H Q I h;refine wpAny_Call_Name_kw (jJ I hg hm hv ?_ hn hdb);exact PyProof.Rows.callWith_builtin1 (bS (ha pos pins s σ H _ I h) λus s1 ⟨vs,H1,I1,r1,q1⟩=>hc pins s1 σ H1 vs us Q I1 r1 q1) he hpl
theorem gW(hc:eJ X (.type T) r)(hg:Gl X x)(hm:X.mg x=none)(hv:bootBuiltins x=some (.type T))(ha:PA X (e::es) t)(hn:x≠"__name__":=by decide)(hdb:(x==("__debug__":Str))=false:=by decide)
 (he:starEach (e::es) X.env=(false,eval e X.env)::starEach es X.env:=by rfl)(hpl:(backTo pos (starEach es X.env)).any (·.1)=false:=by rfl):PE X (.Call (.Name x p) (e::es) [] pos) (RH r t):=by
 intro pins s σ H Q I h;refine wpAny_Call_Name_kw (jJ I hg hm hv ?_ hn hdb);exact PyProof.Rows.callWith_type1 (bS (ha pos pins s σ H _ I h) λus s1 ⟨vs,H1,I1,r1,q1⟩=>hc pins s1 σ H1 vs us Q I1 r1 q1) he hpl
end
end L2
namespace HT
open PySem PyProof.Rows
section
open PySem.SeqAt
open PySem.AutoSeq1 (wpAny_loadPart')
open PySem.MeetsSeq PySem.MeetsSeq2 PySem.MeetsSeq3
end
section
variable {prog:Program}{w:World}{A:Around}{E:Value->Shared->Prop}{s:Shared}
theorem cat_tup{t b:Addr}{vs ws:List Value}{Q:Value->Shared->Prop}(ht:IsTup s.heap t vs.toArray)(hb:IsTup s.heap b ws.toArray)(hv:vs≠ [])
 (h1:ws=[]->Q (.ref t) s)(h2:ws≠ []->Q (.ref s.heap.objs.size) {s with heap:=s.heap.push {cls:=.type "tuple",data:=.seq (vs++ws).toArray}})
 (hsz:vs.length+ws.length<=sizeLine):wpAny (model prog w) A (binaryOp .Add (.ref t) (.ref b)) Q E s:=by
 obtain⟨⟨cls,dd,data,sl⟩,ho,hc,n,hd⟩:=id ht;obtain⟨⟨cls2,dd2,data2,sl2⟩,ho2,hc2,n2,hd2⟩:=id hb;simp only at hc hd hc2 hd2;subst hc hd hc2 hd2;have e:vs.toArray++ws.toArray=(vs++ws).toArray:=by simp
 by_cases hw:ws=[]
 ·exact concat_meets ⟨_,ho,rfl⟩ ⟨_,ho2,rfl⟩ noFill_tuple_add seq_tuple_add PySem.F.slot_tuple_add PySem.F.entry_tuple_add (PySem.F.args_tuple_add_2 _ _)
   (tuple_addW1 t b vs.toArray ws.toArray n n2 dd dd2 sl sl2 (by simpa using hv) (by simp[hw])) ⟨ho,ho2,h1 hw⟩
 ·refine concat_meets ⟨_,ho,rfl⟩ ⟨_,ho2,rfl⟩ noFill_tuple_add seq_tuple_add PySem.F.slot_tuple_add PySem.F.entry_tuple_add (PySem.F.args_tuple_add_2 _ _)
   (tuple_addW2 t b vs.toArray ws.toArray n n2 dd dd2 sl sl2 (by simpa using hv) (by simpa using hw) (by rw[Zk,Zk];exact hsz)) ⟨ho,ho2,?_⟩
  rw[e];exact h2 hw
noncomputable def sIx(n d:Nat):Option Int->Nat
 |none=>d
 |some v=>if v<0 then(v+(n:Int)).toNat else min v.toNat n
theorem sIx_none(n d:Nat):sIx n d none=d:=rfl
theorem JT(n d:Nat)(hd:d<=n)(o:Option Int):sIx n d o<=n:=by
 cases o with
 |none=>exact hd
 |some v=>
  show(if v<0 then(v+(n:Int)).toNat else min v.toNat n)<=n
  by_cases hv:v<0
  ·rw[if_pos hv];omega
  ·rw[if_neg hv];exact Nat.min_le_right _ _
theorem vT(v:Int)(n d:Nat):(if v<0 then max (v+(n:Int)) 0 else min v (n:Int))=((sIx n d (some v):Nat):Int):=by
 show(if v<0 then max (v+(n:Int)) 0 else min v (n:Int))=(((if v<0 then(v+(n:Int)).toNat else min v.toNat n):Nat):Int)
 by_cases hv:v<0
 ·simp only[if_pos hv];omega
 ·simp only[if_neg hv];omega
theorem tU(lo hi:Option Int)(n:Nat):Builtin.Slice.sliceAdjust lo hi 1 (n:Int)=(((sIx n 0 lo:Nat):Int),((sIx n n hi:Nat):Int)):=by
 have h1:¬((1:Int)<0):=by omega
 unfold Builtin.Slice.sliceAdjust;simp only[h1,if_false];refine Prod.ext ?_ ?_
 ·cases lo with
  |none=>rfl
  |some v=>exact vT v n 0
 ·cases hi with
  |none=>rfl
  |some v=>exact vT v n n
theorem sO(i j:Nat):Builtin.Slice.slicePlaces (i:Int) (j:Int) 1=j-i:=by
 unfold Builtin.Slice.slicePlaces;have h1:(1:Int)>0:=by omega
 simp only[h1,if_true,Int.ediv_one];split<;>omega
theorem lM{v:Value}{o:Option Int}{Q:Option Int->Shared->Prop}(p:IsPart v o)(h:Q o s):wpAny (model prog w) A (Builtin.Slice.slicePartIndex v) Q E s:=by
 cases p with
 |none=>exact slicePart_none h
 |int i t=>exact slicePart_int h
theorem jC{sl:Addr}{vl vu:Value}{lo hi:Option Int}{n:Nat}{Q:Int×Int×Nat->Shared->Prop}(hs:s.heap.IsSliceOf sl vl vu .none)(pl:IsPart vl lo)(pu:IsPart vu hi)
 (h:Q (((sIx n 0 lo:Nat):Int),1,sIx n n hi-sIx n 0 lo) s):wpAny (model prog w) A (Builtin.Slice.sliceApplied (.ref sl) (pure (n:Int))) Q E s:=by
 obtain⟨os,hos,hcs,hds⟩:=id hs;unfold Builtin.Slice.sliceApplied Builtin.Slice.sliceFields;refine Za (Za (wpAny_field hos hds (x:=vl) rfl (Za (wpAny_field hos hds (x:=vu) rfl (Za (wpAny_field hos hds (x:=.none) rfl (Zb ?_)))))));refine Za (slicePart_none ?_);show wpAny _ _ (if((1:Int)==0)=true then _ else _) _ _ s;rw[if_neg (by decide)];refine Za (lM pl (Za (lM pu (Za (Zb ?_)))));show wpAny _ _ (match Builtin.Slice.sliceAdjust lo hi 1 (n:Int) with|(lo,hi)=>pure (lo,(1:Int),Builtin.Slice.slicePlaces lo hi 1)) _ _ s;rw[tU lo hi n];show wpAny _ _ (pure (((sIx n 0 lo:Nat):Int),(1:Int),Builtin.Slice.slicePlaces ((sIx n 0 lo:Nat):Int) ((sIx n n hi:Nat):Int) 1)) _ _ s;rw[sO];exact Zb h
theorem zM(xs:Array Value)(i k:Nat):((List.range k).filterMap λ(m:Nat)=>xs[((i:Int)+(m:Int)*1).toNat]?).toArray=((xs.toList.drop i).take k).toArray:=by
 have e:(λ(m:Nat)=>xs[((i:Int)+(m:Int)*1).toNat]?)=λm=>xs[i+m]? :=by
  funext m;have:((i:Int)+(m:Int)*1).toNat=i+m:=by omega
  rw[this]
 rw[e];have:=pick_run xs i k;rw[List.filterMap_map] at this;have e2:((λx=>xs[x]?)∘λx=>i+x)=λm=>xs[i+m]? :=rfl;rw[e2] at this;rw[this]
theorem getItem_tuple_cut{t sl:Addr}{items:Array Value}{vl vu:Value}{lo hi:Option Int}{Q:Value->Shared->Prop}(ht:IsTup s.heap t items)(hs:s.heap.IsSliceOf sl vl vu .none)(pl:IsPart vl lo)(pu:IsPart vu hi)
 (hw:¬(sIx items.size 0 lo=0/\sIx items.size items.size hi=items.size))
 (h:Q (.ref s.heap.objs.size) {s with heap:=s.heap.push {cls:=.type "tuple",data:=.seq ((items.toList.drop (sIx items.size 0 lo)).take (sIx items.size items.size hi-sIx items.size 0 lo)).toArray}})
 (hsz:items.size<=sizeLine):wpAny (model prog w) A (getItem (.ref t) (.ref sl)) Q E s:=by
 have htake:sizeOk (.seq ((items.toList.drop (sIx items.size 0 lo)).take (sIx items.size items.size hi-sIx items.size 0 lo)).toArray):=by
  show((items.toList.drop (sIx items.size 0 lo)).take (sIx items.size items.size hi-sIx items.size 0 lo)).toArray.size<=sizeLine
  rw[Zk,List.length_take,List.length_drop,Array.length_toList];omega
 have hj:sIx items.size items.size hi<=items.size:=JT _ _ (Zn _) hi;obtain⟨os,hos,hcs,hds⟩:=id hs;have hTs:s.TypeIs (.ref sl) "slice":=⟨os,hos,hcs⟩;unfold getItem
 try with_reducible refine wpAny_holding ?_
 first |refine Za (Zb ?_)|skip
 refine Za (wpAny_sequenceKey ht.typeIs (by decide) ?_)
 refine Za (wpAny_callSpecial?_slot (name:=Str.ofString "__getitem__") ht.typeIs PyProof.Rows.slot_tuple_getitem
  (wpAny_call_entry PyProof.Rows.slot_tuple_getitem ht.typeIs entry_tuple_getitem ?_ (args_tuple_getitem _ _)))
 show wpAny _ _ (Builtin.Tuple.tupleItemsOf (.ref t)>>=_) _ _ s;refine Za (tupleItemsOf_ ht ?_);refine Za (wpAny_typeOf hTs ?_);rw[if_pos (by decide)];refine Za (jC hs pl pu ?_)
 have hno:¬((((sIx items.size 0 lo:Nat):Int)==0&&(1:Int)==1&&(sIx items.size items.size hi-sIx items.size 0 lo)==items.size)=true):=by
  intro q;rw[Bool.and_eq_true,Bool.and_eq_true] at q;have q1:((sIx items.size 0 lo:Nat):Int)=0:=eq_of_beq q.1.1;have q2:sIx items.size items.size hi-sIx items.size 0 lo=items.size:=eq_of_beq q.2;exact hw ⟨by omega,by omega⟩
 show wpAny _ _ (if(((sIx items.size 0 lo:Nat):Int)==0&&(1:Int)==1&&(sIx items.size items.size hi-sIx items.size 0 lo)==items.size)=true then _ else _) _ _ s;rw[if_neg hno,zM]
 first
  |exact Za (m:=Builtin.Tuple.tupleExact _) (wpAny_newObj_type (Zb ⟨_,rfl,Zb h⟩) htake)
  |exact Za (m:=Builtin.Tuple.tupleExact _) (wpAny_newObj_type (Za (Zb (Zb ⟨_,rfl,Zb h⟩))) htake)
  |exact Za (Za (m:=Builtin.Tuple.tupleExact _) (wpAny_newObj_type (Zb (Zb ⟨_,rfl,Zb h⟩)) htake))
  |exact Za (Za (m:=Builtin.Tuple.tupleExact _) (wpAny_newObj_type (Zb ⟨_,rfl,Zb h⟩) htake))
end
end HT
namespace L2
open PySem PySem.Spec PyProof.Rows
noncomputable abbrev TO:=St->Hp->(Option Int->Hp->Prop)->Prop
def PO(X:Cx)(e:Option Expr)(t:TO):Prop:=
 ∀(pins:List (Addr×Obj))(s:Shared)(σ:St)(H:Hp)(Q:Option Int->Hp->Prop),Inv X pins σ H s->t σ H Q->
  wpAny (model X.prog X.w) X.A (evalPart e X.env) (λu s'=>∃o H',Inv X pins σ H' s'/\IsPart u o/\Q o H') X.xe s
noncomputable def DC:TO:=λ_ H Q=>Q none H
noncomputable def NR(t:TE):TO:=λσ H Q=>t σ H λx H1=>∃i,x=.int i/\Q (some i) H1
section
variable {X:Cx}{e:Expr}{te:TE}{lo hi:Option Expr}{tl th:TO}{pos p2:Pos}
theorem iM:PO X none DC:=by
 intro pins s σ H Q I h;rw[evalPart_none];exact Zb ⟨none,H,I,.none,h⟩
theorem iL(h:PE X e te):PO X (some e) (NR te):=by
 intro pins s σ H Q I hw;rw[evalPart_some];refine bS (h pins s σ H _ I hw) λu s1 ⟨x,H1,I1,r1,q1⟩=>?_;obtain⟨i,rfl,q⟩:=q1;obtain⟨t,rfl⟩:=r1;exact⟨some i,H1,I1,.int i t,q⟩
def SB(X:Cx)(r:V->Option Int->Option Int->Hp->VK->Prop):Prop:=
 ∀(pins:List (Addr×Obj))(s:Shared)(σ:St)(H:Hp)(x:V)(v vl vu:Value)(lo hi:Option Int)(sl:Addr)(Q:VK),Inv X pins σ H s->RelV x v->s.heap.IsSliceOf sl vl vu .none->IsPart vl lo->IsPart vu hi->r x lo hi H Q->
  ∃T id,typeLookup (.type T) "__getitem__"=pure (some (.builtin id))/\s.TypeIs v T/\wpAny (model X.prog X.w) X.A (getItem v (.ref sl)) (EP X pins σ Q) X.xe s
def tSl(r:V->Option Int->Option Int->Hp->VK->Prop)(te:TE)(tl th:TO):TE:=λσ H Q=>te σ H λx H1=>tl σ H1 λl H2=>th σ H2 λu H3=>r x l u H3 Q
theorem gK{r:V->Option Int->Option Int->Hp->VK->Prop}(hr:SB X r)(he:PE X e te)(hl:PO X lo tl)(hu:PO X hi th):PE X (.Subscript e (.Slice lo hi none p2) pos) (tSl r te tl th):=by
 intro pins s σ H Q I h;refine Subscript_ (bS (he pins s σ H _ I h) λv s1 ⟨x,H1,I1,r1,q1⟩=>?_);refine wpAny_Slice (bS (hl pins s1 σ H1 _ I1 q1) λvl s2 ⟨l,H2,I2,pl,q2⟩=>bS (hu pins s2 σ H2 _ I2 q2) λvu s3 ⟨u,H3,I3,pu,q3⟩=>?_);rw[evalPart_none];refine Zb ?_;have I4:Inv X pins σ H3 {s3 with heap:=s3.heap.push {cls:=.type "slice",data:=.fields #[vl,vu,.none]}}:=I3.kept (t':=s3.toks) λb ob q=>Zf _ q;obtain⟨T,id,hT,ht,hg⟩:=hr pins {s3 with heap:=s3.heap.push {cls:=.type "slice",data:=.fields #[vl,vu,.none]}} σ H3 x v vl vu l u s3.heap.objs.size Q I4 r1 (Heap.IsSliceOf.new ..) pl pu q3;show wpAny (model X.prog X.w) X.A (subscriptTail e (.Slice lo hi none p2) v (.ref s3.heap.objs.size)) (EP X pins σ Q) X.xe {s3 with heap:=s3.heap.push {cls:=.type "slice",data:=.fields #[vl,vu,.none]}};exact tail_any (ops:= [.ref s3.heap.objs.size,v]) ht hT hg (by with_unfolding_all rfl)
noncomputable def nF(xs:List V)(lo hi:Option Int):List V:=(xs.drop (HT.sIx xs.length 0 lo)).take (HT.sIx xs.length xs.length hi-HT.sIx xs.length 0 lo)
theorem kI(xs:List V)(lo hi:Option Int):(nF xs lo hi).length<=xs.length:=by
 unfold nF;rw[List.length_take,List.length_drop];omega
noncomputable def UD(K:W.Frag):V->Option Int->Option Int->Hp->VK->Prop:=λx lo hi H Q=>∃a xs,x=.ref a/\SqT K H a xs/\
 ¬(HT.sIx xs.length 0 lo=0/\HT.sIx xs.length xs.length hi=xs.length)/\∀p,H p=none->Q (.ref p) (bV H p (.tup (nF xs lo hi)))
theorem JO:SB X (UD X.K):=by
 intro pins s σ H x v vl vu lo hi sl Q I rx hs pl pu h;obtain⟨a,xs,rfl,hx,hw,q⟩:=h;cases rx;obtain⟨its,r,ht,hz⟩:=I.tuple hx;have hlen:its.toArray.size=xs.length:=by rw[Zk];exact r.length.symm
 refine⟨"tuple",_,PyProof.Rows.slot_tuple_getitem.lookup,ht.typeIs,?_⟩;refine HT.getItem_tuple_cut ht hs pl pu (by rw[hlen];exact hw) ?_ (by rw[hlen];exact hz);rw[hlen];refine⟨.ref s.heap.objs.size,_,I.laid (t':=s.toks) (o:=.tup (nF xs lo hi)) (λb ob q=>Zf _ q) (Zn _) ?_,rfl,q _ (I.hok.fresh (Zn _))⟩;exact⟨Nat.le_trans (kI xs lo hi) hz,_,(r.drop (HT.sIx xs.length 0 lo)).take (HT.sIx xs.length xs.length hi-HT.sIx xs.length 0 lo),IsTup.new _ _⟩
noncomputable def OK(K:W.Frag):R2:=λx y H Q=>∃a b xs ys,x=.ref a/\y=.ref b/\SqT K H a xs/\SqT K H b ys/\xs≠ []/\xs.length+ys.length<=sizeLine/\
 (ys=[]->Q (.ref a) H)/\(ys≠ []->∀p,H p=none->Q (.ref p) (bV H p (.tup (xs++ys))))
theorem Vals.nil_iff{xs:List V}{us:List Value}(r:Vals xs us):us=[]↔xs=[]:=by
 cases r with
 |nil=>simp
 |cons _ _=>simp
theorem EE:iY X (binaryOp .Add) (OK X.K):=by
 intro pins s σ H x y v u Q I rx ry h;obtain⟨a,b,xs,ys,rfl,rfl,ha,hb,hx,hz,q1,q2⟩:=h;cases rx;cases ry;obtain⟨its,r1,p1,_⟩:=I.tuple ha;obtain⟨its2,r2,p2,_⟩:=I.tuple hb;refine HT.cat_tup p1 p2 (λz=>hx (r1.nil_iff.mp z)) (λz=>⟨.ref a,H,I,rfl,q1 (r2.nil_iff.mp z)⟩) (λz=>?_) (by rw[<- r1.length, <- r2.length];exact hz);refine⟨.ref s.heap.objs.size,_,I.laid (t':=s.toks) (o:=.tup (xs++ys)) (λb ob q=>Zf _ q) (Zn _) ?_,rfl,q2 (λw=>z (r2.nil_iff.mpr w)) _ (I.hok.fresh (Zn _))⟩;exact⟨by rw[List.length_append];exact hz,_,r1.append r2,IsTup.new _ _⟩
end
end L2
namespace L2
open PySem PySem.Spec PyProof.Rows
noncomputable def HV(n:Nat)(i:Int):Option Nat:=if 0<=i then(if i<n then some i.toNat else none) else if -(n:Int)<=i then some (i+n).toNat else none
noncomputable def pU{α:Type}(xs:List α)(i:Int):Option α:=(HV xs.length i).bind λj=>xs[j]?
theorem ET{n:Nat}{i:Int}{j:Nat}(h:HV n i=some j):seqIndex? i n=some j/\j<n/\ -(n:Int)<=i/\i<n:=by
 unfold HV at h
 by_cases h0:0<=i
 ·rw[if_pos h0] at h
  by_cases h1:i<n
  ·rw[if_pos h1] at h;have e:i.toNat=j:=Zg h;exact⟨by rw[seqIndex_of h0 h1,e],by omega,by omega,h1⟩
  ·rw[if_neg h1] at h;cases h
 ·rw[if_neg h0] at h
  by_cases h1: -(n:Int)<=i
  ·rw[if_pos h1] at h;have e:(i+n).toNat=j:=Zg h;exact⟨by rw[seqIndex_neg (by omega) h1,e],by omega,h1,by omega⟩
  ·rw[if_neg h1] at h;cases h
theorem pR{α:Type}{xs:List α}{i:Int}{v:α}(h:pU xs i=some v):∃j,seqIndex? i xs.length=some j/\xs[j]? =some v/\j<xs.length/\ -(xs.length:Int)<=i/\i<xs.length:=by
 unfold pU at h;cases e:HV xs.length i with
 |none=>rw[e] at h;cases h
 |some j=>
  rw[e] at h;obtain⟨h1,h2,h3,h4⟩:=ET e;exact⟨j,h1,h,h2,h3,h4⟩
theorem cU{α:Type}{xs:List α}{j:Nat}{v:α}(h:xs[j]? =some v):pU xs (j:Int)=some v:=by
 have hj:j<xs.length:=(Ze.mp h).1
 have e:HV xs.length (j:Int)=some j:=by
  unfold HV;rw[if_pos (by omega),if_pos (by omega)];simp
 unfold pU;rw[e];exact h
def pS(b:Expr):Prop:=∀o i,subscripted b false o i=operate [o,i] (getItem o i)
def NI(X:Cx)(r:R2):Prop:=
 ∀(value slice:Expr)(pins:List (Addr×Obj))(s:Shared)(σ:St)(H:Hp)(x y:V)(v u:Value)(Q:VK),Inv X pins σ H s->RelV x v->RelV y u->r x y H Q->
  subscripted slice false v u=operate [v,u] (getItem v u)->wpAny (model X.prog X.w) X.A (subscriptTail value slice v u) (EP X pins σ Q) X.xe s
def SI(X:Cx)(id:String)(r:V->List V->Hp->VK->Prop):Prop:=
 ∀(pins:List (Addr×Obj))(s:Shared)(σ:St)(H:Hp)(x:V)(xs:List V)(v:Value)(us:List Value)(Q:VK),Inv X pins σ H s->RelV x v->Vals xs us->r x xs H Q->
  wpAny (model X.prog X.w) X.A (call (.builtin id) (v::us)) (EP X pins σ Q) X.xe s
section
variable {X:Cx}{a b:Expr}{ta tb:TE}{pos:Pos}
theorem HG{r:R2}(hr:NI X r)(ha:PE X a ta)(hb:PE X b tb)(hs:pS b):PE X (.Subscript a b pos) (NS r ta tb):=by
 intro pins s σ H Q I h;exact Subscript_ (MO ha hb I h λv u s2 x y H2 I2 rx ry q=>hr a b pins s2 σ H2 x y v u Q I2 rx ry q (hs _ _))
noncomputable def UI(K:W.Frag):R2:=λx y H Q=>∃p xs i v,x=.ref p/\y=.int i/\SqL K H p xs/\pU xs i=some v/\Q v H
noncomputable def UG(K:W.Frag):R2:=λx y H Q=>∃p xs i v,x=.ref p/\y=.int i/\SqT K H p xs/\pU xs i=some v/\Q v H
noncomputable def UH:R2:=λx y H Q=>∃z i c,x=.str z/\y=.int i/\z.length<=sizeLine/\pU z.cps.toList i=some c/\Q (.str ⟨#[c]⟩) H
theorem ES:NI X (UI X.K):=by
 intro value slice pins s σ H x y v u Q I rx ry h hs;obtain⟨p,xs,i,z,rfl,rfl,hq,he,q⟩:=h;cases rx;obtain⟨t,rfl⟩:=ry;obtain⟨its,r,pl,hz⟩:=I.list hq;obtain⟨j,h1,h2,h3,h4,h5⟩:=pR he;obtain⟨w,ew,rw'⟩:=r.get h2;have hl:=r.length;have hn:=jI;have fin:EP X pins σ Q w s:=⟨z,H,I,rw',q⟩
 by_cases h0:0<=i
 ·have hj:i.toNat=j:=by
   rw[seqIndex_of h0 h5] at h1;exact Zg h1
  exact item_listR pl.isList h0 (by omega) (by rw[hj];simpa using ew) fin hs
 ·have hj:(i+(its.toArray.size:Int)).toNat=j:=by
   rw[seqIndex_neg (by omega) h4] at h1;rw[Zk, <- hl];exact Zg h1
  exact subscriptTail_builtinR (x:=w) pl.isList.typeIs slot_list_getitem.lookup
   (wpAny_getItem_list_neg (Q:=λr s'=>r=w/\EP X pins σ Q r s') pl.isList (by omega) (by rw[Zk]<;>omega) (by omega) (by rw[hj];simpa using ew) ⟨rfl,fin⟩) hs
theorem LJ:NI X (UG X.K):=by
 intro value slice pins s σ H x y v u Q I rx ry h hs;obtain⟨p,xs,i,z,rfl,rfl,hq,he,q⟩:=h;cases rx;obtain⟨t,rfl⟩:=ry;obtain⟨its,r,pl,hz⟩:=I.tuple hq;obtain⟨j,h1,h2,h3,h4,h5⟩:=pR he;obtain⟨w,ew,rw'⟩:=r.get h2;have hl:=r.length;have hn:=jI;have fin:EP X pins σ Q w s:=⟨z,H,I,rw',q⟩
 exact subscriptTail_builtinR (x:=w) pl.typeIs slot_tuple_getitem.lookup
  (getItem_tuple (j:=j) (Q:=λr s'=>r=w/\EP X pins σ Q r s') pl (by omega) (by omega) (by rw[Zk, <- hl];exact h1) (by simpa using ew) ⟨rfl,fin⟩) hs
theorem LK:NI X UH:=by
 intro value slice pins s σ H x y v u Q I rx ry h hs;obtain⟨z,i,c,rfl,rfl,hz,he,q⟩:=h;obtain⟨t,rfl⟩:=rx;obtain⟨t',rfl⟩:=ry;obtain⟨j,h1,h2,h3,h4,h5⟩:=pR he;have hl:z.cps.toList.length=z.length:=by simp[Str.length]
 rw[hl] at h1 h4 h5;have hn:=jI
 exact tail_any (typeIs_str s z t) slot_str_getitem.lookup (getItem_str (c:=c) (by
  have e1:decide (i< -(2^63:Int))=false:=decide_eq_false (by omega);have e2:decide (i ≥ 2^63)=false:=decide_eq_false (by omega);rw[e1,e2,Bool.or_false]) (by rw[h1];simpa using h2) ⟨.str ⟨#[c]⟩,H,I.tok _,⟨_,rfl⟩,q⟩) hs
theorem oM(lo hi:Option Int)(n:Nat):(sliceBounds lo hi none n).1=((HT.sIx n 0 lo:Nat):Int)/\(sliceBounds lo hi none n).2.1=((HT.sIx n n hi:Nat):Int)/\(sliceBounds lo hi none n).2.2=1:=by
 refine⟨?_,?_,rfl⟩
 ·cases lo with
  |none=>simp[sliceBounds,HT.sIx]
  |some i=>
   simp only[sliceBounds,HT.sIx,Option.getD_none,show(1:Int)>0 by decide,if_true]
   by_cases h:i<0
   ·simp only[h,if_true]<;>omega
   ·simp only[h,if_false]<;>omega
 ·cases hi with
  |none=>simp[sliceBounds,HT.sIx]
  |some i=>
   simp only[sliceBounds,HT.sIx,Option.getD_none,show(1:Int)>0 by decide,if_true]
   by_cases h:i<0
   ·simp only[h,if_true]<;>omega
   ·simp only[h,if_false]<;>omega
theorem nA(its:List Value)(lo hi:Option Int):slicePick its.toArray lo hi none=((its.drop (HT.sIx its.length 0 lo)).take (HT.sIx its.length its.length hi-HT.sIx its.length 0 lo)).toArray:=by
 obtain⟨h1,h2,h3⟩:=oM lo hi its.toArray.size;unfold slicePick;rw[h1,h2,h3];simp only[sliceRange_one,pick_run,Zk]<;>rfl
noncomputable def UF(K:W.Frag):V->Option Int->Option Int->Hp->VK->Prop:=λx lo hi H Q=>∃a xs,x=.ref a/\SqL K H a xs/\∀p,H p=none->Q (.ref p) (bV H p (.lst (nF xs lo hi)))
theorem uE:SB X (UF X.K):=by
 intro pins s σ H x v vl vu lo hi sl Q I rx hs pl pu h;obtain⟨a,xs,rfl,hx,q⟩:=h;cases rx;obtain⟨its,r,ht,hz⟩:=I.list hx;have hlen:=r.length;refine⟨"list",_,slot_list_getitem.lookup,ht.isList.typeIs,?_⟩;refine wpAny_getItem_list_slice ht.isList hs pl pu .none (by simp) ?_ (by rw[Zk]<;>omega);rw[nA, <- hlen];refine⟨.ref s.heap.objs.size,_,I.laid (t':=s.toks) (o:=.lst (nF xs lo hi)) (λb ob q=>Zf _ q) (Zn _) ?_,rfl,q _ (I.hok.fresh (Zn _))⟩;exact⟨Nat.le_trans (kI xs lo hi) hz,_,0,(r.drop (HT.sIx xs.length 0 lo)).take (HT.sIx xs.length xs.length hi-HT.sIx xs.length 0 lo),Heap.get?_push_size _ rfl⟩
noncomputable def hZ:V->Bool
 |.non=>true
 |.bl _=>true
 |.int _=>true
 |.str _=>true
 |_=>false
noncomputable def BB:V->V->Bool
 |.non,.non=>true
 |.bl a,.bl b=>a==b
 |.bl a,.int b=>(if a then 1 else 0)==b
 |.int a,.bl b=>a==(if b then 1 else 0)
 |.int a,.int b=>a==b
 |.str a,.str b=>a==b
 |_,_=>false
theorem tJ{A:Around}{s:Shared}{y x:V}{u v:Value}(ry:RelV y u)(rx:RelV x v)(fy:hZ y=true)(fx:hZ x=true):SeqAt.EqAt A s u v (BB y x):=by
 cases y with
 |non=>
  cases ry;cases x with
  |non=>cases rx;exact SeqAt.EqAt.same _
  |bl b=>cases rx;exact SeqAt.EqAt.none_bool b
  |int b=>obtain⟨t,rfl⟩:=rx;exact SeqAt.EqAt.none_int b t
  |str b=>obtain⟨t,rfl⟩:=rx;exact SeqAt.EqAt.none_str b t
  |_=>exact absurd (show false=true from fx) Bool.false_ne_true
 |bl a=>
  cases ry;cases x with
  |non=>cases rx;exact SeqAt.EqAt.bool_none a
  |bl b=>cases rx;exact SeqAt.EqAt.bool_bool a b
  |int b=>obtain⟨t,rfl⟩:=rx;exact SeqAt.EqAt.bool_int a b t
  |str b=>obtain⟨t,rfl⟩:=rx;exact SeqAt.EqAt.bool_str a b t
  |_=>exact absurd (show false=true from fx) Bool.false_ne_true
 |int a=>
  obtain⟨t',rfl⟩:=ry;cases x with
  |non=>cases rx;exact SeqAt.EqAt.int_none a t'
  |bl b=>cases rx;exact SeqAt.EqAt.int_bool a t' b
  |int b=>obtain⟨t,rfl⟩:=rx;exact SeqAt.EqAt.int_int a t' b t
  |str b=>obtain⟨t,rfl⟩:=rx;exact SeqAt.EqAt.int_str a t' b t
  |_=>exact absurd (show false=true from fx) Bool.false_ne_true
 |str a=>
  obtain⟨t',rfl⟩:=ry;cases x with
  |non=>cases rx;exact SeqAt.EqAt.str_none a t'
  |bl b=>cases rx;exact SeqAt.EqAt.str_bool a t' b
  |int b=>obtain⟨t,rfl⟩:=rx;exact SeqAt.EqAt.str_int a t' b t
  |str b=>obtain⟨t,rfl⟩:=rx;exact SeqAt.EqAt.str_str a t' b t
  |_=>exact absurd (show false=true from fx) Bool.false_ne_true
 |_=>exact absurd (show false=true from fy) Bool.false_ne_true
noncomputable def tI(x:V)(u:Value):Bool:=match u with
 |.none=>BB .non x
 |.bool b=>BB (.bl b) x
 |.int i _=>BB (.int i) x
 |.str z _=>BB (.str z) x
 |_=>false
theorem BC{x y:V}{u:Value}(r:RelV y u)(f:hZ y=true):tI x u=BB y x:=by
 cases y with
 |non=>cases r;rfl
 |bl b=>cases r;rfl
 |int i=>obtain⟨t,rfl⟩:=r;rfl
 |str z=>obtain⟨t,rfl⟩:=r;rfl
 |_=>exact absurd (show false=true from f) Bool.false_ne_true
theorem iX{x:V}:∀{xs:List V}{us:List Value},Vals xs us->xs.all hZ=true->us.any (tI x)=xs.any λy=>BB y x
 |_,_,.nil,_=>rfl
 |y::xs,u::us,.cons r t,f=>by
  rw[List.all_cons,Bool.and_eq_true] at f;rw[List.any_cons,List.any_cons,BC r f.1,iX t f.2]
theorem gM{A:Around}{s:Shared}{x:V}{v:Value}(rx:RelV x v)(fx:hZ x=true):∀{xs:List V}{us:List Value},Vals xs us->xs.all hZ=true->∀u∈us,SeqAt.EqAt A s u v (tI x u)
 |_,_,.nil,_=>λu hu=>by cases hu
 |y::xs,u::us,.cons r t,f=>λu' hu=>by
  rw[List.all_cons,Bool.and_eq_true] at f;rcases List.mem_cons.mp hu with rfl|hu
  ·rw[BC r f.1];exact tJ r rx f.1 fx
  ·exact gM rx fx t f.2 u' hu
noncomputable def HX(x:V)(xs:List V):Bool:=xs.any λy=>BB y x
noncomputable def rIn(K:W.Frag)(neg:Bool):R2:=λx y H Q=>∃p xs,y=.ref p/\(SqL K H p xs\/SqT K H p xs)/\hZ x=true/\xs.all hZ=true/\Q (.bl (if neg then !HX x xs else HX x xs)) H
theorem wT:iY X (compareOp .In) (rIn X.K false):=by
 intro pins s σ H x y v u Q I rx ry h;obtain⟨p,xs,rfl,hq,fx,fs,q⟩:=h;cases ry;rcases hq with hq|hq
 ·obtain⟨its,r,pl,hz⟩:=I.list hq;refine SeqAt.in_listAt (tI x) pl.isList (λw hw=>gM rx fx r fs w (by simpa using hw)) ⟨.bl _,H,I,rfl,?_⟩;rw[show its.toArray.any (tI x)=its.any (tI x) by simp,iX r fs];exact q
 ·obtain⟨its,r,pl,hz⟩:=I.tuple hq;refine SeqAt.in_tupleAt (tI x) pl (λw hw=>gM rx fx r fs w (by simpa using hw)) ⟨.bl _,H,I,rfl,?_⟩;rw[show its.toArray.any (tI x)=its.any (tI x) by simp,iX r fs];exact q
theorem oV:iY X (compareOp .NotIn) (rIn X.K true):=by
 intro pins s σ H x y v u Q I rx ry h;obtain⟨p,xs,rfl,hq,fx,fs,q⟩:=h;cases ry;rcases hq with hq|hq
 ·obtain⟨its,r,pl,hz⟩:=I.list hq;refine SeqAt.notIn_listAt (tI x) pl.isList (λw hw=>gM rx fx r fs w (by simpa using hw)) ⟨.bl _,H,I,rfl,?_⟩;rw[show its.toArray.any (tI x)=its.any (tI x) by simp,iX r fs];exact q
 ·obtain⟨its,r,pl,hz⟩:=I.tuple hq;refine SeqAt.notIn_tupleAt (tI x) pl (λw hw=>gM rx fx r fs w (by simpa using hw)) ⟨.bl _,H,I,rfl,?_⟩;rw[show its.toArray.any (tI x)=its.any (tI x) by simp,iX r fs];exact q
theorem pQ:eJ X (.builtin "len") (λxs H Q=>∃p ys,xs=[.ref p]/\(SqL X.K H p ys\/SqT X.K H p ys)/\Q (.int ys.length) H):=by
 intro pins s σ H xs us Q I r h;obtain⟨p,ys,rfl,hq,q⟩:=h;obtain⟨u,rfl,rx⟩:=fB r;cases rx;have hn:=jI;rcases hq with hq|hq
 ·obtain⟨its,r',pl,hz⟩:=I.list hq;have hlen:=r'.length;exact Calls.call_len_list pl.isList (by simp only[Zk]<;>omega) ⟨.int ys.length,H,I.tok _,⟨s.toks+1,by rw[Zk,hlen]⟩,q⟩
 ·obtain⟨its,r',pl,hz⟩:=I.tuple hq;have hlen:=r'.length;exact len_tuple pl (by simp only[Zk]<;>omega) ⟨.int ys.length,H,I.tok _,⟨s.toks+1,by rw[Zk,hlen]⟩,q⟩
theorem pP:eJ X (.builtin "len") (λxs H Q=>∃z,xs=[.str z]/\z.length<=sizeLine/\Q (.int z.length) H):=by
 intro pins s σ H xs us Q I r h;obtain⟨z,rfl,hz,q⟩:=h;obtain⟨u,rfl,t,rfl⟩:=fB r;have hn:=jI;exact len_str (by omega) ⟨.int z.length,H,I.tok _,⟨_,rfl⟩,q⟩
theorem pO:eJ X (.type "list") (λxs H Q=>∃p ys,xs=[.ref p]/\(SqL X.K H p ys\/SqT X.K H p ys)/\∀l,H l=none->Q (.ref l) (bV H l (.lst ys))):=by
 intro pins s σ H xs us Q I r h;obtain⟨p,ys,rfl,hq,q⟩:=h;obtain⟨u,rfl,rx⟩:=fB r;cases rx
 have fin:∀(its:List Value),Vals ys its->ys.length<=sizeLine->∀(h':Heap)(c':Nat),(∀b o',s.heap.get? b=some o'->h'.get? b=some o')->
  h'.get? s.heap.objs.size=some {cls:=.type "list",dict:=none,data:=.seq its.toArray c',slots:= #[]}->EP X pins σ Q (.ref s.heap.objs.size) {s with heap:=h'}:=λits r' hz h' c' kp e=>
  ⟨.ref s.heap.objs.size,_,I.laid (t':=s.toks) kp (Zn _) (show ObjOk X.prog X.w _ h' _ (.lst ys) from⟨hz,its,c',r',e⟩),rfl,q _ (I.hok.fresh (Zn _))⟩
 rcases hq with hq|hq
 ·obtain⟨its,r',pl,hz⟩:=I.list hq;have hlen:=r'.length;obtain⟨o,ho,hc,n,hd⟩:=pl.isList;exact call_list_seq p (.inl rfl) ho hc hd (λh' c' kp e=>fin its r' hz h' c' kp e) (by simp only[Zk]<;>omega)
 ·obtain⟨its,r',pl,hz⟩:=I.tuple hq;have hlen:=r'.length;obtain⟨o,ho,hc,n,hd⟩:=pl;exact call_list_seq p (.inr rfl) ho hc hd (λh' c' kp e=>fin its r' hz h' c' kp e) (by simp only[Zk]<;>omega)
theorem nG:eJ X (.type "tuple") (λxs H Q=>∃p ys,xs=[.ref p]/\((SqL X.K H p ys/\∀l,H l=none->Q (.ref l) (bV H l (.tup ys)))\/(SqT X.K H p ys/\Q (.ref p) H))):=by
 intro pins s σ H xs us Q I r h;obtain⟨p,ys,rfl,h⟩:=h;obtain⟨u,rfl,rx⟩:=fB r;cases rx;rcases h with ⟨hq,q⟩|⟨hq,q⟩
 ·obtain⟨its,r',pl,hz⟩:=I.list hq;have hlen:=r'.length;refine call_tuple_list pl.isList (λh' kp=>?_) (by simp only[Zk]<;>omega);have I1:Inv X pins σ H {s with heap:=h'}:=I.kept (t':=s.toks) kp
  have I2:Inv X pins σ (bV H h'.objs.size (.tup ys)) {s with heap:=h'.push {cls:=.type "tuple",data:=.seq its.toArray}}:=
   I1.laid (t':=s.toks) (λb o e=>Zf _ e) (Zn _) (show ObjOk X.prog X.w _ _ _ (.tup ys) from⟨hz,its,r',IsTup.new _ _⟩)
  exact⟨.ref h'.objs.size,_,I2,rfl,q _ (I1.hok.fresh (Zn _))⟩
 ·obtain⟨its,r',pl,hz⟩:=I.tuple hq;exact call_tuple_same pl ⟨.ref p,H,I,rfl,q⟩
def tyV(K:W.Frag)(T:String)(x:V)(H:Hp):Prop:=match x with
 |.str _=>T="str"
 |.int _=>T="int"
 |.ref p=>(T="list"/\∃xs,SqL K H p xs)\/(T="tuple"/\∃o,K.lookup p=some o/\o.cls=.type "tuple"/\o.dict=none)\/
   (T="dict"/\((∃kvs,H p=some (.dK kvs))\/∃kvs,H p=some (.dT kvs)))\/(T="set"/\∃S n,H p=some (.set S n))
 |_=>False
theorem JE{pins:List (Addr×Obj)}{σ:St}{H:Hp}{s:Shared}{T:String}{x:V}{v:Value}(I:Inv X pins σ H s)(r:RelV x v)(ty:tyV X.K T x H):
 s.TypeIs v T/\∀a,v=.ref a->∃ob,s.heap.get? a=some ob/\ob.dict=none:=by
 cases x with
 |str z=>
  obtain⟨t,rfl⟩:=r
  cases(show T="str" from ty)
  exact⟨typeIs_str s z t,λ_ e=>nomatch e⟩
 |int i=>
  obtain⟨t,rfl⟩:=r
  cases(show T="int" from ty)
  exact⟨typeIs_int s i t,λ_ e=>nomatch e⟩
 |ref p=>
  cases r;rcases ty with ⟨rfl,xs,hq⟩|⟨rfl,o,hk,hc,hd⟩|⟨rfl,hk⟩|⟨rfl,S,n,hk⟩
  ·obtain⟨its,_,pl,_⟩:=I.list hq;refine⟨pl.isList.typeIs,λa e=>?_⟩;cases e;obtain⟨o,n,e,c,hd,_⟩:=pl;exact⟨o,e,hd⟩
  ·refine⟨⟨o,I.kIn p o hk,hc⟩,λa e=>?_⟩;cases e;exact⟨o,I.kIn _ o hk,hd⟩
  ·have z:∃o,s.heap.get? p=some o/\o.ExactDict:=by
    rcases hk with ⟨kvs,hk⟩|⟨kvs,hk⟩
    ·obtain⟨_,_,_,_,o,_,_,e,ex,_⟩:=I.hok p _ hk;exact⟨o,e,ex⟩
    ·obtain⟨_,_,_,_,o,_,_,e,ex,_⟩:=I.hok p _ hk;exact⟨o,e,ex⟩
   obtain⟨o,e,ex⟩:=z;refine⟨⟨o,e,ex.1⟩,λa e2=>?_⟩;cases e2;exact⟨o,e,ex.2.1⟩
  ·obtain⟨o,_,_,_,e,ex,_⟩:=I.hok p _ hk;refine⟨⟨o,e,ex.1⟩,λa e2=>?_⟩;cases e2;exact⟨o,e,ex.2.1⟩
 |_=>exact False.elim ty
def tBM(K:W.Frag)(T:String)(r:V->List V->Hp->VK->Prop)(to:TE)(t:TA):TE:=λσ H Q=>to σ H λx H1=>tyV K T x H1/\t σ H1 λxs H2=>r x xs H2 Q
variable {o e:Expr}{es:List Expr}{to:TE}{t:TA}{name:Str}{apos cpos:Pos}{T id:String}{r:V->List V->Hp->VK->Prop}
theorem qQ(pa:PlainAttrs T)(slot:Slot T name id)(hty:typeOf (.builtin id)=pure (.type "method_descriptor"))(hm:SI X id r)(ho:PE X o to)(ha:PA X (e::es) t)
 (hbase:attributeBase o name X.env (eval o X.env)=eval o X.env:=by rfl)
 (hfew:((backTo cpos (starEach (e::es) X.env)).all (λx=> !x.1)&&(backToKw cpos (keywordEach [] X.env)).all (λx=>x.1.isSome)
   &&decide ((e::es).length+([]:List Keyword).length+(if([]:List Keyword).isEmpty then 0 else 1)<30))=true:=by rfl)
 (hline:(apos.endLine==cpos.line)=true:=by rfl)(hs:starEach (e::es) X.env=(false,eval e X.env)::starEach es X.env:=by rfl)(hplain:(backTo cpos (starEach es X.env)).any (·.1)=false:=by rfl):
 PE X (.Call (.Attribute o name apos) (e::es) [] cpos) (tBM X.K T r to t):=by
 intro pins s σ H Q I h;refine wpAny_Call_method_late hbase hfew hline rfl (bS (ho pins s σ H _ I h) λv s1 ⟨x,H1,I1,r1,ty,q1⟩=>?_);obtain⟨h1,h2⟩:=JE I1 r1 ty;refine⟨T,id,pa,slot,hty,h1,h2,?_⟩;have hA:=ha cpos pins s1 σ H1 _ I1 q1;rw[hs] at hA⊢;refine Calls.callWith_builtin (by show(false||(backTo cpos (starEach es X.env)).any (·.1))=false;rw[hplain]<;>rfl) (Calls.evalArgs_plain ?_);exact bS hA λus s2 ⟨vs,H2,I2,r2,q2⟩=>hm pins s2 σ H2 x vs v us Q I2 r1 r2 q2
end
end L2
namespace L2
open PySem PySem.Spec PyProof.Rows
def MtM(X:Cx)(id:String)(r:V->List V->Hp->VK->Prop):Prop:=
 ∀(pins:List (Addr×Obj))(s:Shared)(σ:St)(H:Hp)(x:V)(xs:List V)(v:Value)(us:List Value)(Q:VK),Inv X pins σ H s->RelV x v->Vals xs us->r x xs H Q->
  wpAny (model X.prog X.w) X.A (call (.builtin id) (v::us)) (EP X pins σ Q) X.xe s
theorem Vals.one:∀{x:V}{us:List Value},Vals [x] us->∃u,us=[u]/\RelV x u
 |_,_,.cons r .nil=>⟨_,rfl,r⟩
section
variable {X:Cx}{pins:List (Addr×Obj)}{σ:St}{H:Hp}{s:Shared}{l b:Addr}{xs ys zs:List V}
theorem Inv.lset{its its':List Value}{n:Nat}{f:Array Value->Array Value}{t':Nat}(I:Inv X pins σ H s)(hH:H l=some (.lst xs))
 (e:s.heap.get? l=some {cls:=.type "list",data:=.seq its.toArray n})(hf:f its.toArray=its'.toArray)(hv:Vals ys its')(hz:ys.length<=sizeLine):
 Inv X pins σ (bV H l (.lst ys)) {s with heap:=s.heap.update l (Obj.mapSeq f),toks:=t'}:=by
 have q:=PySem.IsL.update e f;rw[hf] at q;refine I.write (x:=l) (e:=l) (by rw[hH];exact trivial) (.inl rfl) (λb' u hb hu=>(Heap.get?_update_other s.heap (Obj.mapSeq f) (Ne.symm hb)).trans hu) ⟨_,q⟩ ?_;exact⟨hz,its',_,hv,q⟩
theorem Inv.lnew{its:List Value}{t':Nat}(I:Inv X pins σ H s)(hv:Vals ys its)(hz:ys.length<=sizeLine):
 Inv X pins σ (bV H s.heap.objs.size (.lst ys)) {s with heap:=s.heap.push {cls:=.type "list",data:=.seq its.toArray},toks:=t'}:=
 I.laid (λ_ _ q=>Zf _ q) (Zn _) ⟨hz,its,0,hv,Heap.get?_push_size _ rfl⟩
theorem Inv.fresh(I:Inv X pins σ H s):H s.heap.objs.size=none:=I.hok.fresh (Zn _)
theorem Inv.lstM(I:Inv X pins σ H s)(hH:H l=some (.lst xs)):xs.length<=sizeLine/\∃(its:List Value)(n:Nat),Vals xs its/\xs.length=its.length/\s.heap.get? l=some {cls:=.type "list",data:=.seq its.toArray n}:=by
 obtain⟨z,its,n,r,e⟩:=I.hok l _ hH;exact⟨z,its,n,r,r.length,e⟩
end
section
variable {X:Cx}
noncomputable def DT:V->List V->Hp->VK->Prop:=λx vs H Q=>∃l xs y,x=.ref l/\vs=[y]/\H l=some (.lst xs)/\xs.length<sizeLine/\Q .non (bV H l (.lst (xs++ [y])))
theorem jF:MtM X "list.append" DT:=by
 intro pins s σ H x vs v us Q I rx rv h;obtain⟨l,xs,y,rfl,rfl,hH,hz,q⟩:=h;cases rx;obtain⟨u,rfl,ru⟩:=rv.one;obtain⟨z,its,n,r,hl,e⟩:=I.lstM hH;refine call_meets F.slot_list_append ⟨_,e,rfl⟩ F.entry_list_append (F.args_list_append_2 _ _) (PySem.list_append l its.toArray n u (by rw[Zk];omega)) ⟨e,?_⟩;refine⟨.non,_,I.lset (its':=its++ [u]) hH e (by simp) (r.append (.cons ru .nil)) ?_,rfl,q⟩;rw[List.length_append,List.length_singleton];omega
noncomputable def UJ:R2:=λx y H Q=>∃l b xs zs,x=.ref l/\y=.ref b/\H l=some (.lst xs)/\H b=some (.lst zs)/\xs.length+zs.length<=sizeLine/\∀p,H p=none->Q (.ref p) (bV H p (.lst (xs++zs)))
theorem KQ:iY X (binaryOp .Add) UJ:=by
 intro pins s σ H x y v u Q I rx ry h;obtain⟨l,b,xs,zs,rfl,rfl,hH,hB,hz,q⟩:=h;cases rx;cases ry;obtain⟨z,its,n,r,hl,e⟩:=I.lstM hH;obtain⟨z2,its2,n2,r2,hl2,e2⟩:=I.lstM hB;refine PySem.P.add_list e e2 ?_ (by rw[Zk,Zk];omega);have ea:its.toArray++its2.toArray=(its++its2).toArray:=by simp
 rw[ea];exact⟨.ref _,_,I.lnew (t':=s.toks) (r.append r2) (by rw[List.length_append];omega),rfl,q _ I.fresh⟩
end
section
variable {prog:Program}{w:World}{A:Around}{E:Value->Shared->Prop}{s:Shared}
end
section
variable {X:Cx}
end
end L2
namespace Att
open PySem PySem.W PySem.Calls PyProof.Rows
theorem kM{P:Params}{h:Heap}:∀(ns:List Int)(vs:List Value),WellAll P h vs (ns.map WData.int)->IntsAre vs ns:=by
 intro ns
 induction ns with
 |nil=>
  intro vs w;rw[List.map_nil] at w;cases w;exact .nil
 |cons n ns ih=>
  intro vs w;rw[Zh] at w;cases w with
  |cons a b=>
   cases a;exact .cons _ _ (ih _ b)
theorem wJ{l:OpenLaw}{n:Nat}(hn:l.most=some n){P:Params}{h:Heap}{args:List WData}{vals:List Value}
 (hpre:l.row.toRowW.claim.pre args=true)(hwl:WellAll P h vals args):
 ∃a vs ns,vals=[Value.ref a]/\args=[WData.list (ns.map WData.int)]/\h.get? a=some {cls:=.type "list",data:=.seq vs.toArray}/\IntsAre vs ns/\ns.length<=n:=by
 have hsh:WShape.hasAll [] args [.list .int]=true:=(pre_splitW hpre).1;have hc:l.pre.holds [] {args:=args}=true:=(pre_splitW hpre).2;obtain⟨d,r,rfl,h1,h2⟩:=hasAllW_cons hsh;obtain rfl:=hasAllW_nil h2;obtain⟨xs,rfl,h3⟩:=hasW_list h1;obtain⟨ns,rfl⟩:=items_int h3
 have hlen:ns.length<=n:=by
  unfold OpenLaw.pre at hc
  have h4:(WTm.not (.lt (.lit (.int (n:Int))) (.len (.arg 0)))).holds [] {args:= [.list (ns.map .int)]}=true:=by
   have h4:=(holds_andW hc).1;rw[hn] at h4;exact h4
  have h5:=condW_of h4 (w_not (w_lt w_lit (w_len_list (w_arg rfl))));rw[Zc] at h5;refine Nat.le_of_not_lt λq=>?_;have q':(n:Int)<((ns.length:Nat):Int):=by omega
  first
   |(rw[decide_eq_true q'] at h5;exact absurd h5 (by decide))
   |(simp at h5;omega)
 cases hwl with
 |cons w1 w2=>
  cases w2;cases w1 with
  |list ho hall=>exact⟨_,_,ns,rfl,rfl,ho,kM ns _ hall,hlen⟩
theorem wQ(l:OpenLaw)(args:List WData):l.row.toRowW.claim.post args (.bool true) args=true:=
 postW_of (r:=l.row.toRowW) (X:=(true==true))
  (show WShape.has [] (.bool true) .bool=true by first |rfl|decide|simp[WShape.has,WShape.arms,WShape.armsAll])
  (show(WTm.eq .res (.lit (.bool true))).value [] {args:=args,res:=some (.bool true),after:=args}=some (.bool (true==true)) from w_eq_bool (w_res rfl) w_lit) rfl
theorem attach_call{l:OpenLaw}{n:Nat}{q:Program}{loose:List Str}{XP:(Str->Option Value)->Heap->Prop}{YP:World->Heap->Prop}{d:DefRec}
 (hn:l.most=some n)(hdf:d.params.defaults=[])
 (call:∀(w:World)(s₀ s₁:Shared)(mg mb:Str->Option Value)(fa:Addr)(o:Obj)(pm cd doc:Value)(a:Addr)(vs:List Value)(ns:List Int),
   Ground q loose [] XP w s₀ mg mb s₁.heap->YP w s₁.heap->
   s₁.heap.get? fa=some o->o.data=.func (docDef d.name d.params d.body d.scope pm cd doc)->s₁.heap.CodeRec cd d.name->mg d.name=some (.ref fa)->
   s₁.heap.get? a=some {cls:=.type "list",data:=.seq vs.toArray}->IntsAre vs ns->ns.length<=n->s₁.gens= #[]->
   codeAny (model l.prog w) callerA (.call (.ref fa) ⟨[.ref a],[]⟩) (λr s'=>r=.ok (.ret (.bool true))/\OldK s₁.heap s'.heap/\s'.os=s₁.os/\AllBare s'.gens) s₁):
 WalkO q loose XP YP l.row.toRowW d [] (λf vs=>PySem.call f vs):=by
 intro w s₀ s₁ mg mb G Y fa o pm cd doc dV kV ho hd hcd hD hmg hg args vals as hpre hlay hrd hwl hlo;obtain rfl:dV=.none:=Dflts.none hD hdf;obtain rfl:kV=.none:=Dflts.noKw hD;obtain⟨a,vs,ns,rfl,rfl,hobj,hints,hlen⟩:=wJ hn hpre hwl;refine enter_call (codeAny_mono (call w s₀ s₁ mg mb fa o pm cd doc a vs ns G Y ho (fd_plain hd) hcd hmg hobj hints hlen hg) λr s' hq=>?_);obtain⟨rfl,h2,h3,h4⟩:=hq;exact⟨.inl ⟨.bool true,.bool true,[],rfl,λ_=>rfl,.bool true,wQ l _,λ_=>⟨List.Pairwise.nil,λ_ hm=>(nomatch hm)⟩⟩,h2,h3,h4⟩
section
variable {prog:Program}{w:World}{A:Around}{E:Value->Shared->Prop}{s:Shared}{K:Frag}
end
end Att
namespace L2
open PySem PySem.Spec PyProof.Rows
theorem nH:∀{vs:List Value}{ns:List Int},IntsAre vs ns->Vals (ns.map V.int) vs
 |_,_,.nil=>.nil
 |_,_,.cons n t h=>.cons ⟨t,rfl⟩ (nH h)
def GR(H:Hp):Prop:=∀b,H b=none\/∃o xs,H b=some (.frz o (.lst xs))
theorem law_call{P:Program}{w:World}{K:W.Frag}{mg mb:Str->Option Value}{CX:yC}{k:Nat}{fa a:Addr}{fd:FuncData}{x:Str}{sp:Sp}{s₁:Shared}{vs:List Value}{ns:List Int}
 (KX:K.In s₁.heap)(hns:s₁.heap.Ns mainGlobals mg)(hb:s₁.heap.Ns builtinsNs mb)(hbb:∀x:Str,x≠"__name__"->mb x=bootBuiltins x)(hlim:s₁.heap.NoLimit)(hg:s₁.gens= #[])
 (ha:s₁.heap.get? a=some {cls:=.type "list",data:=.seq vs.toArray})(hi:IntsAre vs ns)(hl:ns.length<=sizeLine)(hr:Room k callerA)
 (F:∀base:Heap,K.In base->base.Ns mainGlobals mg->FnOk P w K mg base CX k fa fd [x] sp)(hbind:∀(s:Shared)(u:Value),BindsTo s fd ⟨[u],[]⟩ [(x,u)])
 (hsp:∀H:Hp,GR H->SqL K H a (ns.map V.int)->sp [.ref a] H (λv _=>v=.bl true) λ_ _ _=>False)
 (hCX:∀H e s',CX [] H s₁ (λ_ _ _=>False) e s'->False):
 codeAny (model P w) callerA (.call (.ref fa) ⟨[.ref a],[]⟩) (λr s'=>r=.ok (.ret (.bool true))/\OldK s₁.heap s'.heap/\s'.os=s₁.os/\AllBare s'.gens) s₁:=by
 have rv:=nH hi;have lenV:=hi.length
 have core:∀H:Hp,GR H->SqL K H a (ns.map V.int)->HOk P w H s₁.heap->(∀b,H b≠none->b=a)->(H a≠none->K.lookup a=none)->
  codeAny (model P w) callerA (.call (.ref fa) ⟨[.ref a],[]⟩) (λr s'=>r=.ok (.ret (.bool true))/\OldK s₁.heap s'.heap/\s'.os=s₁.os/\AllBare s'.gens) s₁:=by
  intro H hO hS hok hA hK;have base_of:∀{b:Addr}{o:Obj},s₁.heap.get? b=some o->H b=none->(pC s₁.heap H).get? b=some o:=λe n=>AM e n
  have noA:∀{b:Addr}{o:Obj}{es:Array DictEntry}{ep:Nat},s₁.heap.get? b=some o->o.data=.dict es ep->H b=none:=λ{b o es ep} e d=>by
   cases q:H b with
   |none=>rfl
   |some u=>
    have e':b=a:=hA b (by rw[q];simp);subst e';rw[ha] at e;cases e;have d':Data.seq vs.toArray _=Data.dict es ep:=d;cases d'
  have nsK:∀{b:Addr}{m:Str->Option Value},s₁.heap.Ns b m->(pC s₁.heap H).Ns b m:=λ{b m} ⟨o,es,ep,e,d,r⟩=>⟨o,es,ep,base_of e (noA e d),d,r⟩
  have hKb:K.In (pC s₁.heap H):=λb o e=>base_of (KX b o e) (by
   cases q:H b with
   |none=>rfl
   |some u=>
    have e':b=a:=hA b (by rw[q];simp);subst e';rw[hK (by rw[q];simp)] at e;cases e)
  have hM:Mod K mg (pC s₁.heap H):=⟨hKb,nsK hns,⟨mb,nsK hb,hbb⟩,let⟨mc,h1,h2⟩:=hlim;⟨mc,nsK h1,h2⟩⟩;have e0:Env0 P w K mg (pC s₁.heap H) callerA [] s₁ H:=⟨rfl,hM,λb o e=>EG e,Nat.le_of_eq (xD _ _),trivial,λb hb=>absurd (show b∈([]:List Addr) from hb) (by simp),hok,.of_eq hg⟩;refine codeAny_mono ((F _ hKb (nsK hns)).run callerA [] s₁ H ⟨[.ref a],[]⟩ [.ref a] [.ref a] _ _ hr e0 (hbind s₁ (.ref a)) (.cons rfl .nil) (hsp H hO hS)) λr s' h=>?_;cases r with
  |error e=>exact(hCX H e s' h).elim
  |ok fl=>
   cases fl with
   |next=>exact False.elim h
   |brk=>exact False.elim h
   |cont=>exact False.elim h
   |ret u=>
    obtain⟨v,H',os,bare,un,hok',r',q⟩:=h;have q':v=.bl true:=q;subst q';obtain rfl:u=Value.bool true:=r';refine⟨rfl,OldK.of_keep λb o e=>?_,os,bare⟩;cases q:H b with
    |none=>exact un.keep b o e q (by intro z;exact absurd (show b∈([]:List Addr) from z) (by simp)) (by simp)
    |some u=>
     rcases hO b with z|⟨ob,xs,z⟩
     ·rw[q] at z;cases z
     ·have z2:=un.frzs b ob _ z;obtain⟨e1,_⟩:=hok b _ z;obtain⟨e2,_⟩:=hok' b _ z2;rw[e] at e1;cases e1;exact e2
 cases hk:K.lookup a with
 |some o=>
  have e:=KX a o hk;rw[ha] at e;cases e;refine core (λ_=>none) (λ_=>.inl rfl) (.inr ⟨_,vs.toArray,_,hk,rfl,rfl,rfl,by rw[Zk,lenV];exact hl,by simpa using rv⟩) (λb u z=>by have z':(none:Option HO)=some u:=z;cases z') (λb z=>absurd rfl z) λz=>absurd rfl z
 |none=>
  refine core (λb=>if b=a then some (.frz {cls:=.type "list",data:=.seq vs.toArray} (.lst (ns.map V.int))) else none) (λb=>?_) (.inl (.inr ⟨{cls:=.type "list",data:=.seq vs.toArray},if_pos rfl⟩)) (λb u z=>?_) (λb z=>?_) λ_=>hk
  ·by_cases hb:b=a
   ·exact .inr ⟨_,_,if_pos hb⟩
   ·exact .inl (if_neg hb)
  ·by_cases hb:b=a
   ·have z':=(if_pos hb).symm.trans z;cases z';subst hb;exact⟨ha,by rw[Zc];exact hl,vs,_,rv,ha⟩
   ·have z':=(if_neg hb).symm.trans z;cases z'
  ·by_cases hb:b=a
   ·exact hb
   ·exact absurd (if_neg hb) z
end L2
namespace L2
open PySem PySem.Spec PyProof.Rows
theorem walk_of{l:W.OpenLaw}{n k:Nat}{q:Program}{loose:List Str}{XP:(Str->Option Value)->Heap->Prop}{YP:World->Heap->Prop}{d:DefRec}{K:Params->W.Frag}{CX:World->yC}{sp:World->Sp}{x:Str}
 (hn:l.most=some n)(hn2:n<=sizeLine)(hdf:d.params.defaults=[])(hr:Room k callerA)
 (hY:∀(w:World)(h:Heap),YP w h->(K w.params).In h)
 (F:∀(w:World)(mg:Str->Option Value)(fa:Addr)(h:Heap),(K w.params).In h->h.Ns mainGlobals mg->mg d.name=some (.ref fa)->
   ∃fd:FuncData,(∀(s:Shared)(u:Value),BindsTo s fd ⟨[u],[]⟩ [(x,u)])/\
    ∀base:Heap,(K w.params).In base->base.Ns mainGlobals mg->FnOk l.prog w (K w.params) mg base (CX w) k fa fd [x] (sp w))
 (hsp:∀(w:World)(H:Hp)(a:Addr)(ns:List Int),ns.length<=n->GR H->SqL (K w.params) H a (ns.map V.int)->sp w [.ref a] H (λv _=>v=.bl true) λ_ _ _=>False)
 (hCX:∀(w:World)(H:Hp)(s:Shared)(e:Value)(s':Shared),CX w [] H s (λ_ _ _=>False) e s'->False):
 W.WalkO q loose XP YP l.row.toRowW d [] (λf vs=>PySem.call f vs):=by
 refine Att.attach_call hn hdf λw s₀ s₁ mg mb fa o pm cd doc a vs ns G Y ho hd hcd hmg hobj hints hlen hg=>?_;have KX:=hY w _ Y;obtain⟨fd,hb,hF⟩:=F w mg fa _ KX G.T.g hmg;exact law_call KX G.T.g G.T.b G.T.builtins G.T.nolimit hg hobj hints (Nat.le_trans hlen hn2) hr hF hb (λH hO hS=>hsp w H a ns hlen hO hS) λH e s'=>hCX w H s₁ e s'
end L2
namespace L2
open PySem PySem.Spec PyProof.Rows
noncomputable def EZ(s:Stmt)(j:Nat):Stmt:=match s with
 |.ClassDef _ _ _ body _ _ _ _ _ _ _=>body.getD j (.Pass ⟨0,0,0,0⟩)
 |_=>.Pass ⟨0,0,0,0⟩
noncomputable def bN(s:Stmt):Arguments:=match s with
 |.FunctionDef _ a _ _ _ _ _ _ _ _=>a
 |_=>{posonlyargs:= [],args:= [],vararg:=none,kwonlyargs:= [],kw_defaults:= [],kwarg:=none,defaults:= []}
noncomputable def aP(s:Stmt):List Stmt:=match s with
 |.FunctionDef _ _ b _ _ _ _ _ _ _=>b
 |_=>[]
noncomputable def aE(s:Stmt):Scope:=match s with
 |.FunctionDef _ _ _ _ _ _ sc _ _ _=>sc
 |_=>{kind:=.function,names:= [],isGenerator:=false,isCoroutine:=false}
abbrev CX0:yC:=λ_ _ _ _ _ _=>False
abbrev E0:XK:=λ_ _ _=>False
structure Fun (K:W.Frag)(x qual:Str)(st:Stmt)(f:Addr)(fd:FuncData):Prop where
 ex:∃(oc:Value)(od:Option Addr)(kV doc pm:Value)(an:Option Addr)(cdv ct:Value)(osl:Array (Option Value)),
  fd=W.fnOf x qual (bN st) (aP st) (aE st) .none kV doc pm an cdv ct/\K.lookup f=some ⟨oc,od,.func fd,osl⟩/\W.codeIn K cdv qual=true
 kp:W.keepIn K (.ref f)=true
section
variable {P:Program}{w:World}{K:W.Frag}{mg:Str->Option Value}{base:Heap}
theorem Fun.binds{x qual:Str}{st:Stmt}{f:Addr}{fd:FuncData}{ps:List Str}(F:Fun K x qual st f fd)
 (h:∀(kV doc pm:Value)(an:Option Addr)(cdv ct:Value)(us:List Value),us.length=ps.length->bindArgs (W.fnOf x qual (bN st) (aP st) (aE st) .none kV doc pm an cdv ct) ⟨us,[]⟩=pure (ps.zip us)):Binds K fd ps []:=by
 obtain⟨oc,od,kV,doc,pm,an,cdv,ct,osl,rfl,lk,hcd⟩:=F.ex;exact .all (h kV doc pm an cdv ct)
theorem cS{x qual:Str}{st:Stmt}{f:Addr}{oc:Value}{od an:Option Addr}{osl:Array (Option Value)}{kV doc pm cdv ct:Value}(l:K.lookup f=some ⟨oc,od,.func (W.fnOf x qual (bN st) (aP st) (aE st) .none kV doc pm an cdv ct),osl⟩)
 (c:W.codeIn K cdv qual=true)(k:W.keepIn K (.ref f)=true):Fun K x qual st f (W.fnOf x qual (bN st) (aP st) (aE st) .none kV doc pm an cdv ct):=⟨⟨oc,od,kV,doc,pm,an,cdv,ct,osl,rfl,l,c⟩,k⟩
end
theorem nL{n:Nat}(h:n<=1000):n<sizeLine:=Nat.lt_of_le_of_lt h (by decide)
section
variable {X:Cx}
theorem pv(i:Nat){x:Str}{pos:Pos}(hN:X.N[i]? =some x:=by rfl)(hv:NE X.env.scope x:=by first |exact Or.inl rfl|exact Or.inr (Or.inl rfl)|exact Or.inr (Or.inr rfl))(hd:(x==("__debug__":Str))=false:=by decide)
 (hcd:(x==("__classdict__":Str))=false:=by decide):PE X (.Name x pos) (iK i):=KC hN hv hd hcd
end
theorem iQ{A B:Prop}(h:B):if false=true then A else B:=by
 rw[if_neg Bool.false_ne_true];exact h
theorem kL{A B:Prop}(h:A):if true=true then A else B:=by
 rw[if_pos rfl];exact h
def Same(H H':Hp):Prop:=∀b o,H b=some o->H' b=some o
end L2
section
namespace L2
open PySem PySem.Spec PyProof.Rows
section
variable {κ:Type} [DecidableEq κ]
noncomputable def fK(kvs:List (κ×V))(k:κ):Option V:=(kvs.find? λkv=>decide (kv.1=k)).map (·.2)
noncomputable def jD(kvs:List (κ×V))(k:κ)(v:V):List (κ×V):=
 if(kvs.any λkv=>decide (kv.1=k))=true then kvs.map (λkv=>if kv.1=k then(kv.1,v) else kv) else kvs++ [(k,v)]
noncomputable def dropK(kvs:List (κ×V))(k:κ):List (κ×V):=kvs.filter λkv=>decide (kv.1≠k)
theorem lC{p:κ×V}{r:List (κ×V)}{k:κ}(e:p.1=k):fK (p::r) k=some p.2:=by simp[fK,List.find?_cons,e]
theorem lD{p:κ×V}{r:List (κ×V)}{k:κ}(e:¬p.1=k):fK (p::r) k=fK r k:=by simp[fK,List.find?_cons,e]
theorem lE(k:κ):∀kvs:List (κ×V),(kvs.any λkv=>decide (kv.1=k))=(fK kvs k).isSome
 | []=>rfl
 |p::r=>by
  rw[List.any_cons]
  by_cases e:p.1=k
  ·simp only[lC e,decide_eq_true e,Bool.true_or,Option.isSome_some]
  ·rw[lD e,decide_eq_false e,Bool.false_or];exact lE k r
theorem qW(kvs:List (κ×V))(k:κ)(v:V):(jD kvs k v).length<=kvs.length+1:=by
 unfold jD;split
 ·rw[Zc];omega
 ·rw[List.length_append,List.length_cons,List.length_nil];omega
theorem zH{kvs:List (κ×V)}{k:κ}(v:V)(h:fK kvs k=none):jD kvs k v=kvs++ [(k,v)]:=by
 unfold jD;rw[lE,h];exact if_neg (by decide)
theorem RelO.isSome_eq{o:Option V}{u:Option Value}(r:RelO o u):o.isSome=u.isSome:=by
 cases o with
 |none=>cases u with
  |none=>rfl
  |some _=>exact(show False from r).elim
 |some _=>cases u with
  |none=>exact(show False from r).elim
  |some _=>rfl
theorem KV.val{kvs:List (κ×V)}{vs:List (κ×Value)}(r:KV kvs vs)(k:κ):RelO (fK kvs k) (valueAt vs k):=by
 unfold KV at r
 induction r with
 |nil=>exact True.intro
 | @cons p q ps qs h t ih=>
   obtain⟨h1,h2⟩:=h
   by_cases e:p.1=k
   ·have e':q.1=k:=h1.symm.trans e;have b:valueAt (q::qs) k=some q.2:=by simp[valueAt,List.find?_cons,e']
    rw[lC e,b];exact h2
   ·have e':¬q.1=k:=λz=>e (h1.trans z);have b:valueAt (q::qs) k=valueAt qs k:=by simp[valueAt,List.find?_cons,e']
    rw[lD e,b];exact ih
theorem KV.any{kvs:List (κ×V)}{vs:List (κ×Value)}(r:KV kvs vs)(k:κ):(kvs.any λkv=>decide (kv.1=k))=vs.any λkv=>decide (kv.1=k):=by
 unfold KV at r
 induction r with
 |nil=>rfl
 |cons h t ih=>rw[List.any_cons,List.any_cons,ih,h.1]
theorem KV.repl{kvs:List (κ×V)}{vs:List (κ×Value)}(r:KV kvs vs)(k:κ){y:V}{u:Value}(ry:RelV y u):
 KV (kvs.map λkv=>if kv.1=k then(kv.1,y) else kv) (vs.map λkv=>if kv.1=k then(kv.1,u) else kv):=by
 unfold KV at r⊢
 induction r with
 |nil=>exact .nil
 | @cons p q ps qs h t ih=>
   rw[Zh,Zh];refine .cons ?_ ih;obtain⟨h1,h2⟩:=h
   by_cases e:p.1=k
   ·rw[if_pos e,if_pos (h1.symm.trans e)];exact⟨h1,ry⟩
   ·rw[if_neg e,if_neg (λz=>e (h1.trans z))];exact⟨h1,h2⟩
theorem KV.put{kvs:List (κ×V)}{vs:List (κ×Value)}(r:KV kvs vs)(k:κ){y:V}{u:Value}(ry:RelV y u):KV (jD kvs k y) (stored vs k u):=by
 unfold jD stored;rw[r.any k]
 by_cases e:(vs.any λkv=>decide (kv.1=k))=true
 ·rw[if_pos e,if_pos e];exact r.repl k ry
 ·rw[if_neg e,if_neg e];exact Paired.snoc r ⟨rfl,ry⟩
end
theorem qX{P:Program}{w:World}{k:cH}{u:Value}(r:RelV (kV k) u):(cI P w).is k u=true:=by
 cases k with
 |inl i=>obtain⟨t,e⟩:=(show ∃t,u=Value.int i t from r);subst e;exact qU P w i t
 |inr x=>obtain⟨t,e⟩:=(show ∃t,u=Value.str x t from r);subst e;exact qT P w x t
theorem nU{P:Program}{w:World}:∀{ks:List cH}{us:List Value},Vals (ks.map kV) us->ItemsAre (cI P w) ks us
 | [],_,r=>by rw[List.map_nil] at r;cases r;exact .nil
 |k::ks,_,r=>by
  rw[Zh] at r;cases r with
  |cons h t=>exact .cons (qX h) (nU t)
noncomputable abbrev KT(H:Hp):List (List cH×V)->List (List cH×Addr×Value)->Prop:=Paired λp q=>p.1=q.1/\H q.2.1=some (.tup (p.1.map kV))/\RelV p.2 q.2.2
theorem KT.val{H:Hp}{kvs:List (List cH×V)}{xs:List (List cH×Addr×Value)}(r:KT H kvs xs)(k:List cH):RelO (fK kvs k) ((atKey xs k).map (·.2)):=by
 induction r with
 |nil=>exact True.intro
 | @cons p q ps qs h t ih=>
   obtain⟨h1,_,h2⟩:=h
   by_cases e:p.1=k
   ·have e':q.1=k:=h1.symm.trans e;have b:atKey (q::qs) k=some q.2:=by simp[atKey,List.find?_cons,e']
    rw[lC e,b];exact h2
   ·have e':¬q.1=k:=λz=>e (h1.trans z);have b:atKey (q::qs) k=atKey qs k:=by simp[atKey,List.find?_cons,e']
    rw[lD e,b];exact ih
section
variable {P:Program}{w:World}{H:Hp}{h:Heap}{a:Addr}
theorem HC{u:HO}(ok:HOk P w H h)(e:Rd H a u):ObjOk P w H h a u:=e.ok ok
theorem rK{kvs:List (cH×V)}(ok:HOk P w H h)(e:Rd H a (.dK kvs)):kvs.length<=sizeLine/\(a==sysModules)=false/\∃vs,KV kvs vs/\h.DictOf (cI P w) a vs:=
 show ObjOk P w H h a (.dK kvs) from HC ok e
theorem QJ{kvs:List (cH×V)}(ok:HOk P w H h)(e:H a=some (.dK kvs)):kvs.length<=sizeLine/\(a==sysModules)=false/\∃vs,KV kvs vs/\h.DictOf (cI P w) a vs:=rK ok (.inl e)
theorem oY{ks:List cH}(ok:HOk P w H h)(e:H a=some (.tup (ks.map kV))):(tupleKind (cI P w)).is h ks a:=by
 obtain⟨_,its,r,o,h1,h2,n,h3⟩:=(show ObjOk P w H h a (.tup (ks.map kV)) from ok a _ e);exact⟨o,its.toArray,n,h1,h2,h3,by simpa using nU r⟩
theorem vM{kvs:List (List cH×V)}(ok:HOk P w H h)(e:Rd H a (.dT kvs)):kvs.length<=sizeLine/\(a==sysModules)=false/\
 ∃xs,KT H kvs xs/\h.DictOfH (tupleKind (cI P w)) a xs:=by
 obtain⟨z,y,xs,r,o,es,ep,h1,h2,h3,h4,h5⟩:=(show ObjOk P w H h a (.dT kvs) from HC ok e);refine⟨z,y,xs,r,o,es,ep,h1,h2,h3,h4,λx hx=>?_,h5⟩
 have all:∀{l:List (List cH×V)}{m:List (List cH×Addr×Value)},KT H l m->∀x∈m,(tupleKind (cI P w)).is h x.1 x.2.1:=by
  intro l m q
  induction q with
  |nil=>intro x hx;exact nomatch hx
  | @cons p q ps qs hq t ih=>
    intro x hx;rcases List.mem_cons.mp hx with e|hx
    ·subst e;exact oY ok (by rw[<- hq.1];exact hq.2.1)
    ·exact ih x hx
 exact all r x hx
end
def DGet(H:Hp)(a:Addr)(y:V)(r:Option V):Prop:=
 (∃kvs k,Rd H a (.dK kvs)/\y=kV k/\r=fK kvs k)\/∃kvs k b,Rd H a (.dT kvs)/\y=.ref b/\H b=some (.tup (k.map kV))/\r=fK kvs k
def DPut(H:Hp)(a:Addr)(y v:V)(H':Hp):Prop:=
 (∃kvs k,H a=some (.dK kvs)/\y=kV k/\kvs.length<sizeLine/\H'=bV H a (.dK (jD kvs k v)))\/
 ∃kvs k b,H a=some (.dT kvs)/\y=.ref b/\H b=some (.tup (k.map kV))/\kvs.length<sizeLine/\H'=bV H a (.dT (jD kvs k v))
theorem DGet.k{H:Hp}{a:Addr}{kvs:List (cH×V)}{k:cH}(e:H a=some (.dK kvs)):DGet H a (kV k) (fK kvs k):=.inl ⟨kvs,k,.inl e,rfl,rfl⟩
section
variable {X:Cx}{pins:List (Addr×Obj)}{σ:St}{H:Hp}{s:Shared}{a:Addr}{y v:V}{u r:Value}{o:Option V}{A:Around}{E:Value->Shared->Prop}
theorem Inv.big(I:Inv X pins σ H s):sysModules<s.heap.objs.size:=by
 have h:mainGlobals<s.heap.objs.size:=(I.mod.glob.keeps I.bk).lt;exact Nat.lt_trans (by decide) h
theorem xK{Q:Value->Shared->Prop}(hu:A.units+1<cLine)(I:Inv X pins σ H s)(g:DGet H a y (some v))(ry:RelV y u)(h:∀w' s',Inv X pins σ H s'->RelV v w'->Q w' s'):
 wpAny (model X.prog X.w) A (getItem (.ref a) u) Q E s:=by
 rcases g with ⟨kvs,k,e,ey,l⟩|⟨kvs,k,b,e,ey,eb,l⟩
 ·subst ey;obtain⟨z,hd,vs,rel,dd⟩:=rK I.hok e;obtain⟨w',hw,rw'⟩:=RelO.some_of (v:=v) (o:=valueAt vs k) (by rw[l];exact rel.val k);exact wpAny_getItem_of (qX ry) dd.mapOf hw (h w' _ (I.tok _) rw')
 ·subst ey
  cases(show u=Value.ref b from ry)
  obtain⟨z,hd,xs,rel,dd⟩:=vM I.hok e;obtain⟨w',hw,rw'⟩:=RelO.some_of (v:=v) (o:=(atKey xs k).map (·.2)) (by rw[l];exact rel.val k);obtain⟨p,hp,hp2⟩:=Option.map_eq_some_iff.mp hw;refine wpAny_getItem_heap (tupleKind_room_in1 hu) (oY I.hok eb) dd hp ?_;rw[hp2];exact h w' _ (I.tok _) rw'
theorem VT{Q:Value->Shared->Prop}(hu:A.units+1<cLine)(I:Inv X pins σ H s)(g:DGet H a y o)(ry:RelV y u)(h:∀s',Inv X pins σ H s'->Q (.bool o.isSome) s'):
 wpAny (model X.prog X.w) A (compareOp .In u (.ref a)) Q E s:=by
 rcases g with ⟨kvs,k,e,ey,l⟩|⟨kvs,k,b,e,ey,eb,l⟩
 ·subst ey;obtain⟨z,hd,vs,rel,dd⟩:=rK I.hok e;refine wpAny_in_of (qX ry) hd dd.mapOf ?_;rw[<- (rel.val k).isSome_eq, <- l];exact h _ (I.tok _)
 ·subst ey
  cases(show u=Value.ref b from ry)
  obtain⟨z,hd,xs,rel,dd⟩:=vM I.hok e;refine wpAny_in_heap (tupleKind_room_in1 hu) (oY I.hok eb) hd dd ?_;have q:=(rel.val k).isSome_eq;rw[Option.isSome_map] at q;rw[<- q, <- l];exact h _ (I.tok _)
theorem FQ{Q:Value->Shared->Prop}(hu:A.units+1<cLine)(I:Inv X pins σ H s)(g:DGet H a y o)(ry:RelV y u)(h:∀s',Inv X pins σ H s'->Q (.bool (!o.isSome)) s'):
 wpAny (model X.prog X.w) A (compareOp .NotIn u (.ref a)) Q E s:=by
 rcases g with ⟨kvs,k,e,ey,l⟩|⟨kvs,k,b,e,ey,eb,l⟩
 ·subst ey;obtain⟨z,hd,vs,rel,dd⟩:=rK I.hok e;refine wpAny_notIn_of (qX ry) hd dd.mapOf ?_;rw[<- (rel.val k).isSome_eq, <- l];exact h _ (I.tok _)
 ·subst ey
  cases(show u=Value.ref b from ry)
  obtain⟨z,hd,xs,rel,dd⟩:=vM I.hok e;refine wpAny_notIn_heap (tupleKind_room_in1 hu) (oY I.hok eb) hd dd ?_;have q:=(rel.val k).isSome_eq;rw[Option.isSome_map] at q;rw[<- q, <- l];exact h _ (I.tok _)
theorem FP{h':Heap}{t':Nat}{ob:HO}(I:Inv X pins σ H s)(mu:QW (H a))(hs:Heap.SameBut a s.heap h')(he:∃q,h'.get? a=some q)(new:ObjOk X.prog X.w (bV H a ob) h' a ob):
 Inv X pins σ (bV H a ob) {s with heap:=h',toks:=t'}:=
 I.write (x:=a) (e:=a) mu (.inl rfl) (λb q hb z=>(hs.2 b hb).trans z) he new
theorem ME{P:Program}{w:World}{H':Hp}{h':Heap}{kvs:List (cH×V)}{vs:List (cH×Value)}(z:kvs.length<=sizeLine)(hd:(a==sysModules)=false)(rel:KV kvs vs)(dd:h'.DictOf (cI P w) a vs):
 ObjOk P w H' h' a (.dK kvs):=⟨z,hd,vs,rel,dd⟩
end
section
variable {X:Cx}{pins:List (Addr×Obj)}{σ:St}{H:Hp}{s:Shared}{a:Addr}{kvs:List (cH×V)}{k:cH}{u:Value}{A:Around}{E:Value->Shared->Prop}
end
theorem rM{X:Cx}{pins:List (Addr×Obj)}{σ:St}{H:Hp}{s:Shared}{a:Addr}{y:V}{o:Option V}(I:Inv X pins σ H s)(g:DGet H a y o):s.TypeIs (.ref a) "dict":=by
 rcases g with ⟨kvs,k,e,_,_⟩|⟨kvs,k,b,e,_,_,_⟩
 ·obtain⟨_,_,vs,_,dd⟩:=rK I.hok e;exact dd.typeIs
 ·obtain⟨_,_,xs,_,dd⟩:=vM I.hok e;exact dd.typeIs
section
variable {X:Cx}{o i e value:Expr}{pos pos' tpos:Pos}{td ty tv:TE}
end
theorem BI{P:Program}{w:World}{H:Hp}(h:Heap)(hb:sysModules<h.objs.size):ObjOk P w H (h.push {cls:=.type "dict",data:=.dict #[]}) h.objs.size (.dK []):=
 ⟨Nat.zero_le _,beq_eq_false_iff_ne.mpr (Ne.symm (Nat.ne_of_lt hb)),[],.nil,Heap.DictOf.new h⟩
section
variable {X:Cx}{pos:Pos}
end
noncomputable def oJ:List (TE×TE)->St->Hp->(List (V×V)->Hp->Prop)->Prop
 | [],_,H,Q=>Q [] H
 |(tk,tv)::r,σ,H,Q=>tk σ H λx H1=>tv σ H1 λy H2=>oJ r σ H2 λps H3=>Q ((x,y)::ps) H3
noncomputable abbrev VV:List (V×V)->List (Value×Value)->Prop:=Paired λp q=>RelV p.1 q.1/\RelV p.2 q.2
def NH(X:Cx)(pos:Pos)(keys:List (Option Expr))(values:List Expr)(trs:List (TE×TE)):Prop:=
 ∀(pins:List (Addr×Obj))(s:Shared)(σ:St)(H:Hp)(Q:List (V×V)->Hp->Prop),Inv X pins σ H s->oJ trs σ H Q->
  wpAny (model X.prog X.w) X.A (evalPairs (pairTrees keys values X.env pos)) (λvs s'=>∃ps H',Inv X pins σ H' s'/\VV ps vs/\Q ps H') X.xe s
theorem DV{X:Cx}{pos:Pos}:NH X pos [] [] []:=λpins s σ H Q I h=>pairTrees_nil_walk ⟨[],H,I,.nil,h⟩
theorem zL{X:Cx}{pos:Pos}{k v:Expr}{ks:List (Option Expr)}{vs:List Expr}{tk tv:TE}{trs:List (TE×TE)}(hk:PE X k tk)(hv:PE X v tv)(hr:NH X pos ks vs trs):
 NH X pos (some k::ks) (v::vs) ((tk,tv)::trs):=λpins s σ H Q I h=>
 pairTrees_cons_walk (bS (hk pins s σ H _ I h) λu s1 ⟨x,H1,I1,rx,q1⟩=>bS (hv pins s1 σ H1 _ I1 q1) λw2 s2 ⟨y,H2,I2,ry,q2⟩=>
  bS (hr pins s2 σ H2 _ I2 q2) λws s3 ⟨ps,H3,I3,rel,q3⟩=>⟨(x,y)::ps,H3,I3,.cons ⟨rx,ry⟩ rel,q3⟩)
noncomputable def gL(kvs more:List (cH×V)):List (cH×V):=more.foldl (λacc kv=>jD acc kv.1 kv.2) kvs
theorem KV.merge:∀{more:List (cH×V)}{rs:List (cH×Value)}{kvs:List (cH×V)}{vs:List (cH×Value)},KV more rs->KV kvs vs->KV (gL kvs more) (merged vs rs):=by
 intro more rs kvs vs r;unfold KV at r
 induction r generalizing kvs vs with
 |nil=>intro q;exact q
 | @cons p q ps qs h t ih=>
   intro r0
   have e:KV (jD kvs p.1 p.2) (stored vs q.1 q.2):=by
    have:=r0.put p.1 h.2;rw[<- h.1];exact this
   exact ih e
theorem hV:∀(more kvs:List (cH×V)),(gL kvs more).length<=kvs.length+more.length
 | [],kvs=>by show kvs.length<=kvs.length+0;omega
 |p::r,kvs=>by
  have h1:=hV r (jD kvs p.1 p.2);have h2:=qW kvs p.1 p.2
  show(gL (jD kvs p.1 p.2) r).length<=_
  rw[List.length_cons];omega
theorem mW{P:Program}{w:World}:∀{kvs:List (cH×V)}{ws:List (Value×Value)},VV (kvs.map λkv=>(kV kv.1,kv.2)) ws->∃rs,Carries (cI P w) ws rs/\KV kvs rs
 | [],_,r=>by rw[List.map_nil] at r;cases r;exact⟨[],True.intro,.nil⟩
 |p::kvs,_,r=>by
  rw[Zh] at r;cases r with
  | @cons a b as bs h t=>
    obtain⟨rs,c,q⟩:=mW (P:=P) (w:=w) t;obtain⟨b1,b2⟩:=b;exact⟨(p.1,b2)::rs,⟨qX h.1,rfl,c⟩,.cons ⟨rfl,h.2⟩ q⟩
def NW(trs:List (TE×TE)):TE:=λσ H Q=>∀p,H p=none->oJ trs σ (bV H p (.dK [])) λps H2=>H2 p=some (.dK [])/\∃kvs:List (cH×V),ps=kvs.map (λkv=>(kV kv.1,kv.2))/\kvs.length<=15/\Q (.ref p) (bV H2 p (.dK (gL [] kvs)))
theorem DY{X:Cx}{pos:Pos}{keys:List (Option Expr)}{values:List Expr}{trs:List (TE×TE)}(h:NH X pos keys values trs)(hall:keys.all (·.isSome)=true)(hl:keys.length=values.length)(h0:keys≠ [])
 (h15:keys.length<=15):PE X (.Dict keys values pos) (NW trs):=by
 intro pins s σ H Q I q;have hn:=I.hok.fresh (Zn s.heap.objs.size);have I1:=I.laid (a:=s.heap.objs.size) (o:=.dK []) (h':=s.heap.push {cls:=.type "dict",data:=.dict #[]}) (t':=s.toks) (λ_ _ q=>Zf _ q) (Zn _) (BI s.heap I.big);refine wpAny_Dict_walk (knd:=cI X.prog X.w) hall hl h0 h15 (bS (h pins _ σ _ _ I1 (q _ hn)) λws s2 ⟨ps,H2,I2,rel,e,kvs,ep,lk,q2⟩=>?_);subst ep;obtain⟨rs,c,rk⟩:=mW (P:=X.prog) (w:=X.w) rel;obtain⟨z,hd,vs0,r0,dd⟩:=QJ I2.hok e;cases r0;refine⟨rs,c,dd,λh' dd' hs=>⟨.ref s.heap.objs.size,_,?_,rfl,q2⟩⟩
 have hz:(gL [] kvs).length<=sizeLine:=by
  have h1:=hV kvs [];rw[List.length_nil] at h1;rw[sizeLine_eq];omega
 have he:∃q,h'.get? s.heap.objs.size=some q:=let⟨q,_,_,hq,_⟩:=dd';⟨q,hq⟩;exact FP I2 (by rw[e];exact True.intro) hs he (ME hz hd (rk.merge .nil) dd')
section
variable {X:Cx}{pins:List (Addr×Obj)}{σ:St}{H:Hp}{s:Shared}{a:Addr}{y d:V}{u r:Value}{o:Option V}{A:Around}{E:Value->Shared->Prop}
end
section
variable {X:Cx}{o e f:Expr}{apos cpos:Pos}{td ty tx:TE}
end
section
variable {X:Cx}{pins:List (Addr×Obj)}{σ:St}{H:Hp}{s:Shared}{a:Addr}{kvs:List (cH×V)}{A:Around}{E:Value->Shared->Prop}
end
section
variable {X:Cx}{pins:List (Addr×Obj)}{σ:St}{H:Hp}{s:Shared}{a:Addr}{y:V}{u:Value}{A:Around}{E:Value->Shared->Prop}
end
end L2
namespace L2
open PySem PySem.Spec PyProof.Rows
section
variable {X:Cx}
end
section
variable {κ:Type} [DecidableEq κ]
theorem DA{kvs:List (κ×V)}{k:κ}{v:V}(h:fK kvs k=some v):k∈kvs.map (·.1):=by
 have q:(kvs.any λkv=>decide (kv.1=k))=true:=by
  rw[lE,h]
  all_goals rfl
 obtain⟨p,hp,e⟩:=List.any_eq_true.mp q;exact List.mem_map.mpr ⟨p,hp,of_decide_eq_true e⟩
end
end L2
end
section
namespace Ng
open PySem PySem.Spec PyProof.Rows L2
noncomputable abbrev Sg:=L2.St
inductive D where
 |non|bl (b:Bool)|int (i:Int)|str (x:Str)|ty (n:String)|tup (l:List D)|ref (n:Nat)
inductive O where
 |lst (l:List D)|ro (l:List D)|dct (l:List (cH×D))|dtt (l:List (List Int×D))|ded|dtf (l:List (List Int×D))|ins (cn:Str) (fs:List (Str×D))
noncomputable abbrev Hh:=List O
noncomputable abbrev Ev:=List (Option D)
inductive Rs (A:Type) where
 |ok (a:A) (h:Hh)|exc (c:Nat) (r:Ev) (h:Hh)|bad
noncomputable def Rs.bind{A B:Type}:Rs A->(A->Hh->Rs B)->Rs B
 |.ok a h,f=>f a h
 |.exc c r h,_=>.exc c r h
 |.bad,_=>.bad
theorem Rs.bind_ok{A B:Type}{r:Rs A}{f:A->Hh->Rs B}{b:B}{h':Hh}(e:r.bind f=.ok b h'):∃a h,r=.ok a h/\f a h=.ok b h':=by
 cases r with
 |ok a h=>exact⟨a,h,rfl,e⟩
 |exc c r h=>cases e
 |bad=>cases e
noncomputable def Rs.nx{A:Type}:Rs A->Rs A
 |.ok a h=>.ok a h
 |_=>.bad
theorem Rs.nx_ok{A:Type}{r:Rs A}{a:A}{h:Hh}(e:r.nx=.ok a h):r=.ok a h:=by
 cases r with
 |ok b h'=>exact e
 |exc c r h'=>cases e
 |bad=>cases e
noncomputable def Rs.inn{A:Type}(r:Ev):Rs A->Rs A
 |.exc c _ h=>.exc c r h
 |o=>o
mutual
inductive RD (K:W.Frag) (m:List Addr) (H:Hp):D->V->Prop where
 |non:RD K m H .non .non
 |bl (b:Bool):RD K m H (.bl b) (.bl b)
 |int (i:Int):RD K m H (.int i) (.int i)
 |str (x:Str):RD K m H (.str x) (.str x)
 |ty (n:String):RD K m H (.ty n) (.ty n)
 |tup {a:Addr} {ds:List D} {vs:List V} (h:SqT K H a vs) (r:RDs K m H ds vs):RD K m H (.tup ds) (.ref a)
 |ref {n:Nat} {a:Addr} (h:m[n]? =some a):RD K m H (.ref n) (.ref a)
inductive RDs (K:W.Frag) (m:List Addr) (H:Hp):List D->List V->Prop where
 |nil:RDs K m H [] []
 |cons {d:D} {v:V} {ds:List D} {vs:List V} (h:RD K m H d v) (r:RDs K m H ds vs):RDs K m H (d::ds) (v::vs)
end
structure Gr (K:W.Frag)(m:List Addr)(H:Hp)(m':List Addr)(H':Hp):Prop where
 pre:∀(n:Nat)(a:Addr),m[n]? =some a->m'[n]? =some a
 tup:∀(a:Addr)(vs:List V),SqT K H a vs->SqT K H' a vs
 frz:∀(a:Addr)(o:Obj)(u:HO),H a=some (.frz o u)->H' a=some (.frz o u)
theorem Gr.refl{K:W.Frag}{m:List Addr}{H:Hp}:Gr K m H m H:=⟨λ_ _ e=>e,λ_ _ e=>e,λ_ _ _ e=>e⟩
theorem Gr.trans{K:W.Frag}{m m1 m2:List Addr}{H H1 H2:Hp}(a:Gr K m H m1 H1)(b:Gr K m1 H1 m2 H2):Gr K m H m2 H2:=
 ⟨λn x e=>b.pre n x (a.pre n x e),λn x e=>b.tup n x (a.tup n x e),λn x u e=>b.frz n x u (a.frz n x u e)⟩
section
variable {K:W.Frag}{m m':List Addr}{H H':Hp}
mutual
theorem RD.mono(g:Gr K m H m' H'):∀{d:D}{v:V},RD K m H d v->RD K m' H' d v
 |_,_,.non=>.non
 |_,_,.bl b=>.bl b
 |_,_,.int i=>.int i
 |_,_,.str x=>.str x
 |_,_,.ty n=>.ty n
 |_,_,.tup h r=>.tup (g.tup _ _ h) (RDs.mono g r)
 |_,_,.ref h=>.ref (g.pre _ _ h)
theorem RDs.mono(g:Gr K m H m' H'):∀{ds:List D}{vs:List V},RDs K m H ds vs->RDs K m' H' ds vs
 |_,_,.nil=>.nil
 |_,_,.cons h r=>.cons (RD.mono g h) (RDs.mono g r)
end
theorem RDs.length:∀{ds:List D}{vs:List V},RDs K m H ds vs->ds.length=vs.length
 |_,_,.nil=>rfl
 |_,_,.cons _ r=>by simp[RDs.length r]
theorem RDs.get:∀{ds:List D}{vs:List V}{i:Nat}{d:D},RDs K m H ds vs->ds[i]? =some d->∃v,vs[i]? =some v/\RD K m H d v
 |_,_,_,_,.nil,e=>by simp at e
 |_,_,0,_,.cons h _,e=>by simp at e;subst e;exact⟨_,rfl,h⟩
 |_,_,i+1,d,.cons _ r,e=>by
  obtain⟨v,h1,h2⟩:=RDs.get (i:=i) (d:=d) r (by simpa using e);exact⟨v,by simpa using h1,h2⟩
theorem RDs.append:∀{ds es:List D}{vs us:List V},RDs K m H ds vs->RDs K m H es us->RDs K m H (ds++es) (vs++us)
 |_,_,_,_,.nil,s=>s
 |_,_,_,_,.cons h r,s=>.cons h (RDs.append r s)
end
theorem RDs.ints{K:W.Frag}{m:List Addr}{H:Hp}:∀(ns:List Int),RDs K m H (ns.map D.int) (ns.map V.int)
 | []=>.nil
 |n::ns=>.cons (.int n) (RDs.ints ns)
def SqR(K:W.Frag)(H:Hp)(a:Addr)(xs:List V):Prop:=
 (∃o,H a=some (.frz o (.lst xs)))\/
   ∃(o:Obj)(its:Array Value)(n:Nat),K.lookup a=some o/\o.cls=.type "list"/\o.dict=none/\o.data=.seq its n/\its.size<=sizeLine/\Vals xs its.toList
theorem SqR.sq{K:W.Frag}{H:Hp}{a:Addr}{xs:List V}(h:SqR K H a xs):SqL K H a xs:=by
 rcases h with h|h
 ·exact .inl (.inr h)
 ·exact .inr h
def Dtt(a:Addr)(xs:List (List Int×Addr×Value))(h:Heap):Prop:=
 (a==sysModules)=false/\xs.length<=1000/\∃(P:Program)(w:World)(o:Obj)(es:Array DictEntry)(ep:Nat),h.get? a=some o/\o.ExactDict/\o.data=.dict es ep/\
   es.toList=xs.map (entryOfKey (tupleKind (intKind P w)))/\(xs.map (·.1)).Nodup
def Dfo(a:Addr)(xs:List (List Int×Addr×Value))(o:Obj)(es:Array DictEntry)(ep:Nat):Prop:=
 (a==sysModules)=false/\xs.length<=1000/\o.ExactDict/\o.data=.dict es ep/\(∃(P:Program)(w:World),es.toList=xs.map (entryOfKey (tupleKind (intKind P w))))/\(xs.map (·.1)).Nodup
noncomputable def RO(K:W.Frag)(m:List Addr)(H:Hp)(a:Addr):O->Prop
 |.lst ds=>∃vs,H a=some (.lst vs)/\RDs K m H ds vs
 |.ro ds=>∃vs,SqR K H a vs/\RDs K m H ds vs
 |.dct ds=>∃us:List (cH×V),H a=some (.dK us)/\ds.map (·.1)=us.map (·.1)/\RDs K m H (ds.map (·.2)) (us.map (·.2))
 |.dtt ds=>∃(xs:List (List Int×Addr×Value))(us:List V),H a=some (.ext (Dtt a xs))/\ds.map (·.1)=xs.map (·.1)/\(∀x∈xs,SqT K H x.2.1 (x.1.map V.int))/\RDs K m H (ds.map (·.2)) us/\Vals us (xs.map (·.2.2))
 |.ded=>True
 |.dtf ds=>∃(xs:List (List Int×Addr×Value))(us:List V)(o:Obj)(es:Array DictEntry)(ep:Nat),H a=some (.frz o (.own a))/\Dfo a xs o es ep/\ds.map (·.1)=xs.map (·.1)/\(∀x∈xs,SqT K H x.2.1 (x.1.map V.int))/\RDs K m H (ds.map (·.2)) us/\Vals us (xs.map (·.2.2))
 |.ins cn fs=>∃(C dx:Addr)(us:List (Str×V)),W.nsIn K mainGlobals cn=some (some (.ref C))/\H a=some (.ins C dx us)/\fs.map (·.1)=us.map (·.1)/\RDs K m H (fs.map (·.2)) (us.map (·.2))
noncomputable def O.wr:O->Bool
 |.lst _=>true
 |.ro _=>false
 |.dct _=>true
 |.dtt _=>true
 |.ded=>false
 |.dtf _=>false
 |.ins _ _=>true
noncomputable def RE:HO->Bool
 |.lst _=>true
 |.dK _=>true
 |.ext _=>true
 |.ins _ _ _=>true
 |_=>false
structure Wd (K:W.Frag)(m:List Addr)(h:Hh)(H:Hp):Prop where
 len:m.length=h.length
 nd:∀(i j:Nat)(a:Addr)(o u:O),m[i]? =some a->m[j]? =some a->h[i]? =some o->h[j]? =some u->o.wr=true->u.wr=true->i=j
 ob:∀(n:Nat)(o:O)(a:Addr),h[n]? =some o->m[n]? =some a->RO K m H a o
theorem Wd.at{K:W.Frag}{m:List Addr}{h:Hh}{H:Hp}(w:Wd K m h H){n:Nat}{o:O}(e:h[n]? =some o):∃a,m[n]? =some a/\RO K m H a o:=by
 have hn:n<h.length:=(Ze.mp e).1;have hm:n<m.length:=by rw[w.len];exact hn
 exact⟨m[n],Zd hm,w.ob n o _ e (Zd hm)⟩
def RSt(K:W.Frag)(m:List Addr)(H:Hp)(r:Ev)(s:Sg):Prop:=r.length=s.length/\∀(i:Nat)(d:D),r[i]? =some (some d)->∃v,s[i]? =some (some v)/\RD K m H d v
theorem RSt.mono{K:W.Frag}{m m':List Addr}{H H':Hp}{r:Ev}{s:Sg}(g:Gr K m H m' H')(h:RSt K m H r s):RSt K m' H' r s:=
 ⟨h.1,λi d e=>let⟨v,h1,h2⟩:=h.2 i d e;⟨v,h1,h2.mono g⟩⟩
theorem RSt.set{K:W.Frag}{m:List Addr}{H:Hp}{r:Ev}{s:Sg}{d:D}{v:V}(h:RSt K m H r s)(i:Nat)(q:RD K m H d v):RSt K m H (r.set i (some d)) (s.set i (some v)):=by
 refine⟨by simp[h.1],λj e he=>?_⟩
 by_cases hij:i=j
 ·subst hij
  have hl:i<r.length:=by
   have:=(Ze.mp he).1;simpa using this
  rw[List.getElem?_set_self hl] at he;have he':d=e:=by injection he with z;injection z
  subst he';exact⟨v,List.getElem?_set_self (by rw[<- h.1];exact hl),q⟩
 ·rw[List.getElem?_set_ne hij] at he;obtain⟨u,h1,h2⟩:=h.2 j e he;exact⟨u,by rw[List.getElem?_set_ne hij];exact h1,h2⟩
theorem SqT.upd_new{K:W.Frag}{H:Hp}{p:Addr}{o:HO}(hp:H p=none){a:Addr}{vs:List V}(h:SqT K H a vs):SqT K (bV H p o) a vs:=by
 rcases h with (h|⟨ob,h⟩)|h
 ·exact .inl (.inl (by rw[aM (bK h hp)];exact h))
 ·exact .inl (.inr ⟨ob,by rw[aM (bK h hp)];exact h⟩)
 ·exact .inr h
theorem SqT.upd_w{K:W.Frag}{H:Hp}{p:Addr}{u o:HO}(hp:H p=some u)(hw:RE u=true){a:Addr}{vs:List V}(h:SqT K H a vs):SqT K (bV H p o) a vs:=by
 rcases h with (h|⟨ob,h⟩)|h
 ·exact .inl (.inl (by rw[aM (qR h hp (λz=>by subst z;cases hw))];exact h))
 ·exact .inl (.inr ⟨ob,by rw[aM (qR h hp (λz=>by subst z;cases hw))];exact h⟩)
 ·exact .inr h
theorem SqR.upd_new{K:W.Frag}{H:Hp}{p:Addr}{o:HO}(hp:H p=none){a:Addr}{vs:List V}(h:SqR K H a vs):SqR K (bV H p o) a vs:=by
 rcases h with ⟨ob,h⟩|h
 ·exact .inl ⟨ob,by rw[aM (bK h hp)];exact h⟩
 ·exact .inr h
theorem SqR.upd_w{K:W.Frag}{H:Hp}{p:Addr}{u o:HO}(hp:H p=some u)(hw:RE u=true){a:Addr}{vs:List V}(h:SqR K H a vs):SqR K (bV H p o) a vs:=by
 rcases h with ⟨ob,h⟩|h
 ·exact .inl ⟨ob,by rw[aM (qR h hp (λz=>by subst z;cases hw))];exact h⟩
 ·exact .inr h
section
variable {K:W.Frag}{m:List Addr}{h:Hh}{H:Hp}
theorem Gr.tupNew{p:Addr}{o:HO}(hp:H p=none):Gr K m H m (bV H p o):=⟨λ_ _ e=>e,λ_ _ e=>SqT.upd_new hp e,λb o' u' e=>by rw[aM (bK e hp)];exact e⟩
theorem RO.some_of{a:Addr}{o:O}(r:RO K m H a o)(w:o.wr=true):∃u,H a=some u/\RE u=true:=by
 cases o with
 |lst ds=>obtain⟨vs,h1,_⟩:=r;exact⟨_,h1,rfl⟩
 |ro ds=>cases w
 |dct ds=>obtain⟨vs,h1,_⟩:=r;exact⟨_,h1,rfl⟩
 |dtt ds=>obtain⟨xs,us,h1,_⟩:=r;exact⟨_,h1,rfl⟩
 |ded=>cases w
 |dtf ds=>cases w
 |ins cn fs=>obtain⟨C,dx,us,_,h1,_⟩:=r;exact⟨_,h1,rfl⟩
theorem RO.keepNew{p a:Addr}{o:HO}{u:O}{m':List Addr}(hp:H p=none)(g:Gr K m H m' (bV H p o))(q:RO K m H a u):RO K m' (bV H p o) a u:=by
 cases u with
 |lst ds=>
  obtain⟨vs,h1,h2⟩:=q;exact⟨vs,by rw[aM (bK h1 hp)];exact h1,h2.mono g⟩
 |ro ds=>
  obtain⟨vs,h1,h2⟩:=q;exact⟨vs,SqR.upd_new hp h1,h2.mono g⟩
 |dct ds=>
  obtain⟨vs,h1,h2,h3⟩:=q;exact⟨vs,by rw[aM (bK h1 hp)];exact h1,h2,h3.mono g⟩
 |dtt ds=>
  obtain⟨xs,us,h1,h2,h3,h4,h5⟩:=q;exact⟨xs,us,by rw[aM (bK h1 hp)];exact h1,h2,λx hx=>g.tup _ _ (h3 x hx),h4.mono g,h5⟩
 |ded=>trivial
 |dtf ds=>
  obtain⟨xs,us,o',es,ep,h1,h2,h3,h4,h5,h6⟩:=q;exact⟨xs,us,o',es,ep,by rw[aM (bK h1 hp)];exact h1,h2,h3,λx hx=>g.tup _ _ (h4 x hx),h5.mono g,h6⟩
 |ins cn fs=>
  obtain⟨C,dx,us,h1,h2,h3,h4⟩:=q;exact⟨C,dx,us,h1,by rw[aM (bK h2 hp)];exact h2,h3,h4.mono g⟩
theorem RO.keepSet{p a:Addr}{v o:HO}{u:O}{m':List Addr}(hp:H p=some v)(hw:RE v=true)(na:u.wr=true->a≠p)(g:Gr K m H m' (bV H p o))(q:RO K m H a u):RO K m' (bV H p o) a u:=by
 cases u with
 |lst ds=>
  obtain⟨vs,h1,h2⟩:=q;exact⟨vs,by rw[aM (na rfl)];exact h1,h2.mono g⟩
 |ro ds=>
  obtain⟨vs,h1,h2⟩:=q;exact⟨vs,SqR.upd_w hp hw h1,h2.mono g⟩
 |dct ds=>
  obtain⟨vs,h1,h2,h3⟩:=q;exact⟨vs,by rw[aM (na rfl)];exact h1,h2,h3.mono g⟩
 |dtt ds=>
  obtain⟨xs,us,h1,h2,h3,h4,h5⟩:=q;exact⟨xs,us,by rw[aM (na rfl)];exact h1,h2,λx hx=>g.tup _ _ (h3 x hx),h4.mono g,h5⟩
 |ded=>trivial
 |dtf ds=>
  obtain⟨xs,us,o',es,ep,h1,h2,h3,h4,h5,h6⟩:=q;exact⟨xs,us,o',es,ep,by rw[aM (qR h1 hp (λz=>by subst z;cases hw))];exact h1,h2,h3,λx hx=>g.tup _ _ (h4 x hx),h5.mono g,h6⟩
 |ins cn fs=>
  obtain⟨C,dx,us,h1,h2,h3,h4⟩:=q;exact⟨C,dx,us,h1,by rw[aM (na rfl)];exact h2,h3,h4.mono g⟩
theorem Wd.keepNew(w:Wd K m h H){p:Addr}{o:HO}(hp:H p=none):Wd K m h (bV H p o):=
 ⟨w.len,w.nd,λn ob a e1 e2=>(w.ob n ob a e1 e2).keepNew hp (Gr.tupNew hp)⟩
theorem Wd.objNew(w:Wd K m h H){p:Addr}{o:O}{u:HO}(hp:H p=none)(r:Gr K m H (m++ [p]) (bV H p u)->RO K (m++ [p]) (bV H p u) p o):Wd K (m++ [p]) (h++ [o]) (bV H p u)/\Gr K m H (m++ [p]) (bV H p u):=by
 have g:Gr K m H (m++ [p]) (bV H p u):=⟨λn a e=>by
  rw[List.getElem?_append_left (Ze.mp e).1];exact e,λ_ _ e=>SqT.upd_new hp e,λb o' u' e=>by rw[aM (bK e hp)];exact e⟩
 have cs:∀(i:Nat)(a:Addr)(o':O),(m++ [p])[i]? =some a->(h++ [o])[i]? =some o'->(i<h.length/\m[i]? =some a/\h[i]? =some o')\/(i=h.length/\a=p/\o'=o):=by
  intro i a o' e1 e2
  by_cases hi:i<h.length
  ·rw[List.getElem?_append_left (by rw[w.len];exact hi)] at e1;rw[List.getElem?_append_left hi] at e2;exact .inl ⟨hi,e1,e2⟩
  ·have hl:=(Ze.mp e2).1;have e:i=h.length:=by simp at hl;omega
   subst e;rw[<- w.len] at e1;simp at e1 e2;exact .inr ⟨rfl,e1.symm,e2.symm⟩
 have fr:∀(i:Nat)(o:O),m[i]? =some p->h[i]? =some o->o.wr=true->False:=λi o e1 e2 hw=>by
  obtain⟨u,hu,_⟩:=(w.ob i o p e2 e1).some_of hw;rw[hp] at hu;cases hu
 refine⟨⟨by simp[w.len],λi j a o1 o2 e1 e2 e3 e4 w1 w2=>?_,λn o' a e1 e2=>?_⟩,g⟩
 ·rcases cs i a o1 e1 e3 with ⟨_,x1,x2⟩|⟨z1,z2,z3⟩
  ·rcases cs j a o2 e2 e4 with ⟨_,y1,y2⟩|⟨y1,y2,y3⟩
   ·exact w.nd i j a o1 o2 x1 y1 x2 y2 w1 w2
   ·subst y2;exact(fr i o1 x1 x2 w1).elim
  ·rcases cs j a o2 e2 e4 with ⟨_,y1,y2⟩|⟨y1,y2,y3⟩
   ·subst z2;exact(fr j o2 y1 y2 w2).elim
   ·rw[z1,y1]
 ·rcases cs n a o' e2 e1 with ⟨_,x1,x2⟩|⟨z1,z2,z3⟩
  ·exact(w.ob n o' a x2 x1).keepNew hp g
  ·subst z2;subst z3;exact r g
theorem Wd.objSet(w:Wd K m h H){n:Nat}{a:Addr}{o o':O}{u:HO}(e1:h[n]? =some o)(hw:o.wr=true)(e2:m[n]? =some a)(r:Gr K m H m (bV H a u)->RO K m (bV H a u) a o'):
 Wd K m (h.set n o') (bV H a u)/\Gr K m H m (bV H a u):=by
 obtain⟨v,ha,hv⟩:=(w.ob n o a e1 e2).some_of hw;have g:Gr K m H m (bV H a u):=⟨λ_ _ e=>e,λ_ _ e=>SqT.upd_w ha hv e,λb o' u' e=>by rw[aM (qR e ha (λz=>by subst z;cases hv))];exact e⟩;have hn:n<h.length:=(Ze.mp e1).1
 have cs:∀(i:Nat)(o1:O),(h.set n o')[i]? =some o1->(i=n/\o1=o')\/(i≠n/\h[i]? =some o1):=by
  intro i o1 e
  by_cases hi:n=i
  ·subst hi;rw[List.getElem?_set_self hn] at e;exact .inl ⟨rfl,(Zg e).symm⟩
  ·rw[List.getElem?_set_ne hi] at e;exact .inr ⟨λz=>hi z.symm,e⟩
 refine⟨⟨by simp[w.len],λi j b o1 o2 x1 x2 x3 x4 w1 w2=>?_,λi o1 b x1 x2=>?_⟩,g⟩
 ·rcases cs i o1 x3 with ⟨z,_⟩|⟨ni,y3⟩
  ·subst z;rcases cs j o2 x4 with ⟨z,_⟩|⟨nj,y4⟩
   ·exact z.symm
   ·exact w.nd i j b o o2 x1 x2 e1 y4 hw w2
  ·rcases cs j o2 x4 with ⟨z,_⟩|⟨nj,y4⟩
   ·subst z;exact w.nd i j b o1 o x1 x2 y3 e1 w1 hw
   ·exact w.nd i j b o1 o2 x1 x2 y3 y4 w1 w2
 ·rcases cs i o1 x1 with ⟨z1,z2⟩|⟨ni,y⟩
  ·subst z1;subst z2;rw[e2] at x2;cases x2;exact r g
  ·refine(w.ob i o1 b y x2).keepSet ha hv (λhw1 z=>?_) g;subst z;exact ni (w.nd i n b _ _ x2 e2 y e1 hw1 hw)
theorem Wd.lstNew(w:Wd K m h H){p:Addr}{ds:List D}{vs:List V}(hp:H p=none)(r:RDs K m H ds vs):Wd K (m++ [p]) (h++ [.lst ds]) (bV H p (.lst vs))/\Gr K m H (m++ [p]) (bV H p (.lst vs)):=
 w.objNew hp λg=>⟨vs,bB,r.mono g⟩
theorem Wd.lstSet(w:Wd K m h H){n:Nat}{a:Addr}{ds es:List D}{us:List V}(e1:h[n]? =some (.lst ds))(e2:m[n]? =some a)(r:RDs K m H es us):
 (∃vs,H a=some (.lst vs)/\RDs K m H ds vs)/\Wd K m (h.set n (.lst es)) (bV H a (.lst us))/\Gr K m H m (bV H a (.lst us)):=
 ⟨w.ob n _ a e1 e2,w.objSet e1 rfl e2 λg=>⟨us,bB,r.mono g⟩⟩
noncomputable def HN:O->Option (List D)
 |.lst l=>some l
 |.ro l=>some l
 |.dct _=>none
 |.dtt _=>none
 |.ded=>none
 |.dtf _=>none
 |.ins _ _=>none
noncomputable def aK(h:Hh)(n:Nat):Option (List D):=(h[n]?).bind HN
theorem Wd.lst(w:Wd K m h H){n:Nat}{ds:List D}(e:aK h n=some ds):∃a vs,m[n]? =some a/\SqL K H a vs/\RDs K m H ds vs:=by
 unfold aK at e;cases q:h[n]? with
 |none=>rw[q] at e;cases e
 |some o=>
  rw[q] at e;obtain⟨a,e1,r⟩:=w.at q;cases o with
  |lst l=>
   obtain rfl:l=ds:=Zg e;obtain⟨vs,h1,h2⟩:=r;exact⟨a,vs,e1,.of h1,h2⟩
  |ro l=>
   obtain rfl:l=ds:=Zg e;obtain⟨vs,h1,h2⟩:=r;exact⟨a,vs,e1,h1.sq,h2⟩
  |dct l=>cases e
  |dtt l=>cases e
  |ded=>cases e
  |dtf l=>cases e
  |ins c l=>cases e
end
end Ng
end
section
namespace Ng
open PySem PySem.Spec PyProof.Rows L2 PySem.W Builtin Builtin.ObjectAttr Builtin.Getset_descriptor
noncomputable abbrev GK:List Value:= [.type "ValueError",.type "Exception",.type "BaseException",.type "object"]
noncomputable abbrev rU(t:Addr):Data:=.fields #[.ref t,.none,.none,.none,.bool false,.none]
section
variable {prog:Program}{w:World}{A:Around}{E:Value->Shared->Prop}{h:Heap}{g:Array GenState}{d:Drawn}{t:Nat}{os:OsState}
variable {nm q:Str}{C N:Addr}{bs bm:List Value}{hdct:Bool}{sn:List Str}{sub:List Value}{ab:Bool}{col:Option Bool}{dd:Option Addr}{k0 k1 k2 k3 k5:Option Value}
theorem xG{mN:Str->Option Value}{rest:List Value}{fI:Addr}{oI:Obj}{Q:Fin->Shared->Prop}(T:OwnTail h GK bm)
 (hC:h.get? C=some (excClassObj nm q C N bs bm hdct sn sub ab col dd k0 k1 k2 k3 k5 "ValueError.__new__"))(hn:h.Ns N mN)(hi:mN "__init__"=some (.ref fI))(hfI:h.get? fI=some oI)(hfc:oI.cls=.type "function")(hrest:rest.length<=sizeLine)
 (hq:∀h' e,h.objs.size<=e->Heap.MadeExcOf h h' e (.ref C) rest->wpAny (model prog w) A (call (.ref fI) (.ref e::rest)) (λr s'=>r=.none/\Q (.done (.ret (.ref e))) s') E ⟨h',g,d,t,os⟩):
 wpAny (model prog w) A (Builtin.«type.__call__» ⟨.ref C::rest,[]⟩) Q E ⟨h,g,d,t,os⟩:=by
 have F:=PySem.F.excBase_ValueError
 repeat (first |with_reducible refine wpAny_loadPart_at hC ?_|with_reducible refine wpAny_madeBy_exc hC ?_|wp_step)
 refine codeAny_call_builtin_code (Code.quiet_builtin _ F.quiet) (wpAny_check_new_subT F T hC (codeAny_exc_new_subT F T hC ?_ hrest));show wpAny _ _ _ _ _ _;generalize hg1:(h.push {cls:=.type "tuple",data:=.seq rest.toArray}).push {cls:=.ref C,data:=rU h.objs.size}=h1;have up:∀b o,h.get? b=some o->h1.get? b=some o:=λb o e=>by rw[<- hg1];exact Zf _ (Zf _ e)
 have hget:h1.get? (h.objs.size+1)=some {cls:=.ref C,data:=rU h.objs.size}:=by
  rw[<- hg1];have:=Heap.get?_push_size (h.push {cls:=.type "tuple",data:=.seq rest.toArray}) (o:={cls:=.ref C,data:=rU h.objs.size}) rfl;rwa [Heap.size_push] at this
 have htup:h1.get? h.objs.size=some {cls:=.type "tuple",data:=.seq rest.toArray}:=by rw[<- hg1];exact Zf _ (Heap.get?_push_size _ rfl)
 have hC1:=up _ _ hC;have hf1:=up _ _ hfI;have hn1:h1.Ns N mN:=hn.keeps up;have T1:=T.keeps up;have hcC:(Value.ref C::bm).contains (.ref C)=true:=by simp
 unfold isInstance
 repeat (first |(with_reducible refine wpAny_loadPart_at hget ?_;dsimp only)|(with_reducible refine wpAny_isSubtype_exc hC1 ?_;rw[hcC])|wp_step)
 show wpAny _ _ (typeLookup (.ref C) _) _ _ _;refine wpAny_typeLookup_tail hC1 hn1 T1 F.mroIs F.init.lookup ?_;rw[hi];refine wpAny_holding (Za ?_);unfold bindSpecial;refine Za (wpAny_typeOf (T:="function") ⟨_,hf1,hfc⟩ ?_);rw[if_pos (by decide)];refine Zb (Za (wpAny_mono (hq h1 (h.objs.size+1) (Nat.le_succ _) ⟨up,Heap.get?_none_of_le (Nat.le_succ _),h.objs.size,hget,Heap.get?_none_of_le (Zn _),htup⟩) (λr s' hr=>?_) λ_ _ x=>x));obtain⟨rfl,hQ⟩:=hr
 wp_walk
 exact hQ
theorem xH{mN:Str->Option Value}{rest:List Value}{fI:Addr}{oI:Obj}{Q:Value->Shared->Prop}(T:OwnTail h GK bm)
 (hC:h.get? C=some (excClassObj nm q C N bs bm hdct sn sub ab col dd k0 k1 k2 k3 k5 "ValueError.__new__"))(hn:h.Ns N mN)(hi:mN "__init__"=some (.ref fI))(hfI:h.get? fI=some oI)(hfc:oI.cls=.type "function")(hrest:rest.length<=sizeLine)
 (hq:∀h' e,h.objs.size<=e->Heap.MadeExcOf h h' e (.ref C) rest->wpAny (model prog w) (A.under (.builtin "type.__call__" ⟨.ref C::rest,[]⟩)) (call (.ref fI) (.ref e::rest)) (λr s'=>r=.none/\Q (.ref e) s') E ⟨h',g,d,t,os⟩):
 wpAny (model prog w) A (call (.ref C) rest) Q E ⟨h,g,d,t,os⟩:=by
 have f1:=tc_lookup;have f2:=tc_bind (.ref C);have hT:(⟨h,g,d,t,os⟩:Shared).TypeIs (.ref C) "type":=⟨_,hC,rfl⟩;refine wpAny_call (codeAny_of_tree ?_);show wpAny _ _ (callAny (.ref C) _) _ _ _
 repeat (any_goals (first |assumption|with_reducible refine wpAny_loadPart_at hC ?_|wp_step))
 exact⟨rfl,codeAny_call_builtin_at (Code.quiet_builtin _ (by decide+kernel)) entry_typeCall (wpAny_check_type_call_sub hC (xG T hC hn hi hfI hfc hrest λh' e hz hm=>hq h' e hz hm))⟩
theorem xI{e t0:Addr}{dx:Option Addr}{rest:List Value}{Q:Value->Shared->Prop}(T:OwnTail h GK bm)
 (hC:h.get? C=some (excClassObj nm q C N bs bm hdct sn sub ab col dd k0 k1 k2 k3 k5 "ValueError.__new__"))(he:h.get? e=some {cls:=.ref C,dict:=dx,data:=rU t0})(hrest:rest.length<=sizeLine)
 (hq:∀h' t1,h'.get? e=some {cls:=.ref C,dict:=dx,data:=rU t1}->(∀b o,b≠e->h.get? b=some o->h'.get? b=some o)->Q .none ⟨h',g,d,t,os⟩):
 wpAny (model prog w) A (call (.builtin "ValueError.__init__") (.ref e::rest)) Q E ⟨h,g,d,t,os⟩:=by
 have F:=PySem.F.excBase_ValueError;refine wpAny_call (codeAny_call_builtin F.init.plain F.initEntry (wpAny_check_init_subT F T hC he rfl ?_))
 wp_walk
 have hne:e≠h.objs.size:=Nat.ne_of_lt (Heap.lt_size he);have he1:(h.push {cls:=.type "tuple",data:=.seq rest.toArray}).get? e=some {cls:=.ref C,dict:=dx,data:=rU t0}:=Zf _ he;refine hq _ h.objs.size ?_ λb o hb e1=>?_
 ·rw[Heap.get?_update_self _ he1 rfl];rfl
 ·rw[Heap.get?_update_other _ _ (Ne.symm hb)];exact Zf _ e1
end
theorem qN(self:Value){h:Heap}:∀{l:List Value},OwnTail h GK l->refuseLoop self "__setattr__" l=pure ():=λT=>by
 induction T with
 |base=>exact PySem.F.store_ValueError.passes self
 |own _ _ _ _ ih=>rw[refuseLoop_ref];exact ih
theorem KZ{K:W.Frag}{h:Heap}{N:Addr}{m:Str->Option Value}{n:Str}{v:Value}(KX:K.In h)(G:h.Ns N m)(e:nsIn K N n=some (some v)):m n=some v:=by
 obtain⟨o,es,ep,ho,hd,_,hf⟩:=G;unfold nsIn at e;split at e
 ·rename_i q;have z:=KX _ _ q;rw[ho] at z;cases z;cases hd;split at e
  ·rename_i en he;cases e;rw[<- hf];unfold nsFind findBy;rw[<- Array.find?_toList,he]<;>rfl
  ·split at e<;>cases e
 ·cases e
noncomputable def kF(K:W.Frag)(C fI:Addr):Bool:=match K.lookup C with
 |some ⟨.type "type",_,.cls cd,sl⟩=>(match cd.mro,sl.toList with
  |.ref C'::bm,[_,_,_,_,some (.builtin n),_]=>C'==C&&n=="ValueError.__new__"&&(!cd.hasDel&&cd.hasDict)&&tailIn K GK bm&&(nsOkIn K cd.ns&&nsIn K cd.ns "__init__"==some (some (.ref fI)))
  |_,_=>false)
 |_=>false
theorem pE{K:W.Frag}{hp:Heap}{C fI:Addr}(KX:K.In hp)(h:kF K C fI=true):
 ∃bm N nm qn bs sn sub ab col dd k0 k1 k2 k3 k5 mN,hp.get? C=some (excClassObj nm qn C N bs bm true sn sub ab col dd k0 k1 k2 k3 k5 "ValueError.__new__")/\hp.Ns N mN/\mN "__init__"=some (.ref fI)/\OwnTail hp GK bm:=by
 unfold kF at h;split at h
 ·rename_i dd cdt slots hob;split at h
  ·rename_i C0 bm k0 k1 k2 k3 n0 k5 hmro hsl;simp only[Bool.and_eq_true,beq_iff_eq,Bool.not_eq_true'] at h;obtain⟨⟨⟨⟨eC,en⟩,edel,ehd⟩,etl⟩,ens,eni⟩:=h;subst eC;subst en;obtain⟨nm,bs,mro,ns,qn,hd,sn,sub,ab,col,del⟩:=cdt;dsimp only at hmro edel ens eni ehd;subst hmro;subst edel;subst ehd;obtain⟨sl⟩:=slots;simp only at hsl;subst hsl;have hN:hp.Ns ns _:=.of_isNs (isNs_of_in KX ens);exact⟨bm,ns,nm,qn,bs,sn,sub,ab,col,dd,k0,k1,k2,k3,k5,_,KX _ _ hob,hN,KZ KX hN eni,tail_of_in KX etl⟩
  ·cases h
 ·cases h
structure ExcA (K:W.Frag)(C:Addr)(name:Str):Prop where
 sa:findIn K (.ref C) "__setattr__"=some (some (.builtin "object.__setattr__"))
 ga:findIn K (.ref C) "__getattribute__"=some (some (.builtin "BaseException.__getattribute__"))
 gt:findIn K (.ref C) "__getattr__"=some none
 na:findIn K (.ref C) name=some none
 mr:mroIn K C (.type "object")=some true
 mb:mroIn K C (.type "BaseException")=some true
 hd:hasDictIn K C=true
section
variable {prog:Program}{w:World}{A:Around}{E:Value->Shared->Prop}{s:Shared}{K:W.Frag}
variable {nm q:Str}{C N e t0:Addr}{bs bm:List Value}{sn:List Str}{sub:List Value}{ab:Bool}{col:Option Bool}{dd:Option Addr}{k0 k1 k2 k3 k5:Option Value}{name:Str}{v:Value}
theorem AU{Q:Unit->Shared->Prop}(KX:K.In s.heap)(a:ExcA K C name)(T:OwnTail s.heap GK bm)(hC:s.heap.get? C=some (excClassObj nm q C N bs bm true sn sub ab col dd k0 k1 k2 k3 k5 "ValueError.__new__"))
 (he:s.heap.get? e=some {cls:=.ref C,data:=rU t0})
 (hq:∀h' tk,h'.get? e=some {cls:=.ref C,dict:=some s.heap.objs.size,data:=rU t0}->h'.Ns1 s.heap.objs.size (λy=>if y=name then some v else none)->(∀b o,b≠e->s.heap.get? b=some o->h'.get? b=some o)->Q () {s with heap:=h',toks:=tk}):
 wpAny (model prog w) A (setAttr (.ref e) name v) Q E s:=by
 have J:InstAt s.heap e _ C none:=⟨he,rfl,rfl,trivial⟩;refine set_plain KX J a.sa ?_;have SF:=PySem.F.store_object;have sub:Looks (model prog w) s.heap (isInstance (.ref e) (.type "object")) true:=J.type.andThen (looks_mroIn KX a.mr);refine codeAny_call_builtin SF.slot.plain SF.entry (@check_slot (model prog w) _ _ {s with toks:=s.toks+1} "object.__setattr__" "object" "__setattr__" (.ref e) [.str name s.toks,v] [] _ SF.kind SF.split sub (SF.args (.ref e) (.str name s.toks) v) ?_);obtain⟨hp,gn,dr,tk,os⟩:=s;dsimp only at KX T hC he J hq sub⊢
 have hm:Looks (model prog w) hp (mroOf (.ref C)) (.ref C::bm):=by
  intro A1 Q1 E1 s1 kp z;obtain⟨_,_,_,_,_⟩:=s1;exact wpAny_mroOf_exc (kp _ _ hC) z
 have L1:=looks_findIn (M:=model prog w) KX a.na;rw[osa_eq,refuse_eq];refine Za (Za (J.type.at (Za (hm.at ?_))));rw[refuseLoop_ref,qN _ T];refine Zb (Za (J.type.at (Za (L1.at (Za (Zb ?_))))));show wpAny _ _ (storeInOwnDict (.ref e) (.ref C) _ name v _) _ _ _;unfold storeInOwnDict;refine Za (Zb ?_);have hx1:(hp.push {cls:=.type "dict",data:=.dict #[]}).get? e=some {cls:=.ref C,data:=rU t0}:=Zf _ he;have hes:e≠hp.objs.size:=Nat.ne_of_lt (Heap.lt_size he);show wpAny _ _ (ownDictForStores (.ref e)>>=_) _ _ _;refine Za (bS (Q:=λr s'=>r=some hp.objs.size/\s'=⟨(hp.push {cls:=.type "dict",data:=.dict #[]}).update e λo=>{o with dict:=some hp.objs.size},gn,dr,tk+1,os⟩) ?_ λr s' ⟨er,es⟩=>?_)
 ·unfold ownDictForStores
  repeat (first |(with_reducible refine wpAny_loadPart_at he ?_;dsimp only)|(with_reducible refine wpAny_loadPart_at hC ?_;dsimp only)|exact⟨rfl,rfl⟩|wp_step)
 subst er;subst es;have hx2:((hp.push {cls:=.type "dict",data:=.dict #[]}).update e λo=>{o with dict:=some hp.objs.size}).get? e=some {cls:=.ref C,dict:=some hp.objs.size,data:=rU t0}:=Heap.get?_update_self _ hx1 rfl
 have hd2:((hp.push {cls:=.type "dict",data:=.dict #[]}).update e λo=>{o with dict:=some hp.objs.size}).get? hp.objs.size=some {cls:=.type "dict",data:=.dict #[]}:=
  (Heap.get?_update_ne _ _ _ _ hes.symm).trans (Heap.get?_push_at rfl rfl)
 have hnd:((hp.push {cls:=.type "dict",data:=.dict #[]}).update e λo=>{o with dict:=some hp.objs.size}).Ns hp.objs.size (λ_=>none):=⟨_, #[],_,hd2,rfl,λe he=>absurd he (by simp),λ_=>rfl⟩;show wpAny _ _ (storeInDict hp.objs.size (.str name tk) name v) _ _ _;unfold storeInDict newKeyGuard;refine Za (Zb (Za (wpAny_nsSet1 (Heap.Ns1.of_empty hnd) λh' hn' hs=>?_)));obtain⟨oD,esD,epD,hoD,hdD,hcD⟩:=hn'.count (Within.cons name v Within.nil);refine Za (wpAny_lookBehind hoD (by rw[hdD];exact pastItsLine_dict (Nat.le_trans hcD (by rw[List.length_cons,List.length_nil,sizeLine_eq];omega))) ?_)
 wp_walk
 refine hq h' _ ((hs.2 e hes).trans hx2) hn' λb o hb e1=>?_;exact(hs.2 b (Nat.ne_of_lt (Heap.lt_size e1))).trans ((Heap.get?_update_ne _ _ _ _ hb).trans (Zf _ e1))
theorem AV{Q:Value->Shared->Prop}{expr:Bool}{oe:Obj}{od:Obj}{dx:Addr}(KX:K.In s.heap)(a:ExcA K C name)(he:s.heap.get? e=some oe)(hc:oe.cls=.ref C)(hno:notCls oe=true)
 (hd:oe.dict=some dx)(ho:s.heap.get? dx=some od)(hl:lookIn name od=some (some v))(hh:handedIn v=true)(hq:Q v {s with toks:=s.toks+1}):wpAny (model prog w) A (getAttr (.ref e) name expr) Q E s:=by
 obtain⟨hp,gn,dr,tk,os⟩:=s;dsimp only at KX he ho hq;have T0:Looks (model prog w) hp (typeOf (.ref e)) (.ref C):=hc ▸ (Looks.ld he).andThen .now;have T1:=looks_findIn (M:=model prog w) KX a.ga;have T3:=looks_findIn (M:=model prog w) KX a.gt;have T4:=looks_mroIn (M:=model prog w) KX a.mr;have T5:=looks_mroIn (M:=model prog w) KX a.mb;have J:InstAt hp e oe C (some od):=⟨he,hc,hno,by rw[hd];exact ho⟩;have T6:=looks_find (M:=model prog w) KX J (findObj_own a.hd a.na rfl (by rw[hl]));unfold getAttr getAttrBy;refine Za (wpAny_mkText (wpAny_holding (Za (T0.at (Za (T1.at ?_))))));show wpAny _ _ (getAttrByItsOwn (.ref e) _ (.ref C) (.builtin "BaseException.__getattribute__") _ _) _ _ _;unfold getAttrByItsOwn hookBefore callGetattribute boundAndCalled;refine Za (T3.at ?_);refine Za (wpAny_attempt (wpAny_holding ?_));rw[show(expr&&onTheHeap (Value.builtin "BaseException.__getattribute__"))=false from Bool.and_false _,if_neg (by decide)];show wpAny _ _ (bindSpecial (.builtin "BaseException.__getattribute__") (.ref e)>>=_) _ _ _;refine Za (wpAny_of_eq (F.excAttr_ValueError.ga.bind _) ?_);refine wpAny_call (codeAny_call_builtin F.excAttr_ValueError.ga.plain F.entry_bexc_ga ?_);have hk:builtinKind "BaseException.__getattribute__"=some .slot:=by decide+kernel
 have hsplit:splitId "BaseException.__getattribute__"=some ("BaseException","__getattribute__"):=by decide+kernel
 have ha:=F.args_bexc_ga (.ref e) (.str name tk);simp only[checkBuiltinCall,hk,hsplit];unfold isInstance
 repeat lk
 show wpAny _ _ (handedOut v) _ _ _;rw[handedOut_of hh];exact Zb hq
theorem mK{env:Env}{hdct:Bool}{x:Sem Value}{Q:Flow->Shared->Prop}(hh:A.handled=none)
 (h:wpAny (model prog w) A x (λv s1=>∃e t0 dx bm,v=.ref e/\s1.heap.get? C=some (excClassObj nm q C N bs bm hdct sn sub ab col dd k0 k1 k2 k3 k5 "ValueError.__new__")/\OwnTail s1.heap GK bm/\s1.heap.get? e=some {cls:=.ref C,dict:=dx,data:=rU t0}/\E (.ref e) s1) E s):
 wpAny (model prog w) A (raiseStmt env (some x) none) Q E s:=by
 unfold raiseStmt;refine Za (wpAny_mono h (λv s1 h1=>?_) λ_ _ x=>x);obtain⟨e,t0,dx,bm,rfl,hC,T,he,hE⟩:=h1;have hcB:(Value.ref C::bm).contains (.type "BaseException")=true:=by rw[List.contains_cons,T.hasType PySem.F.excBase_ValueError.hasBase,Bool.or_true]
 obtain⟨hp,g,d,tk,os⟩:=s1
 repeat (first |(with_reducible refine wpAny_loadPart_at he ?_;dsimp only)|(with_reducible refine wpAny_loadPart_at hC ?_;dsimp only)|(with_reducible refine wpAny_isSubtype_exc hC ?_;rw[hcB])|wp_step)
 exact wpAny_raiseNew_none hh hE
end
end Ng
end
section
namespace Ng
open PySem PySem.Spec PyProof.Rows L2
def FlA(B:Heap)(l:List Env)(e:Addr)(cls fl:Value)(dx:Addr)(h:Heap):Prop:=
 B.StaysIn h/\B.get? e=none/\h.FunFrames B l/\∃oe vs T oT ts,h.get? e=some oe/\oe.cls=cls/\oe.dict=some dx/\oe.data=.fields vs/\vs[1]? =some (.ref T)/\B.get? T=none/\T≠e/\h.get? T=some oT/\oT.data=.fields ts/\ts[3]? =some fl
theorem FlA.first{B h:Heap}{l:List Env}{e dx:Addr}{cls fl:Value}(x:FlA B l e cls fl dx h):∃oe vs,h.get? e=some oe/\oe.cls=cls/\oe.data=.fields vs/\oe.dict=some dx:=
 let⟨_,_,_,oe,vs,_,_,_,he,hc,hx,hd,_⟩:=x;⟨oe,vs,he,hc,hd,hx⟩
section
variable {M:Model}{A:Around}{E:Value->Shared->Prop}{s:Shared}{B:Heap}{env env':Env}{outer l:List Env}{L e dx:Addr}{cls fl head:Value}{hn:Bool}{Q:Unit->Shared->Prop}
theorem rG{oe:Obj}{vs:Array Value}(hfr:A.frames=some (env::outer))(hl:s.heap.FunFrames B (env::outer))(hf:env.frame=some L)(he:s.heap.get? e=some oe)(kb:B.StaysIn s.heap)(ne:B.get? e=none)(hd:oe.data=.fields vs)(hz:1<vs.size)(hx:oe.dict=some dx)
 (h:∀h',FlA B (env::outer) e oe.cls (rawInt L) dx h'->s.heap.UpToSlots h'->Q () {s with heap:=h'}):
 wpAny M A (do let a <- frameOf env;let pl <- entryPlaceOf L hn;let b <- EntryCells.newEntry head a .none (rawInt L) .none pl;setField (.ref e) 1 b) Q E s:=by
 have nfr:e ∉ (env::outer).filterMap (·.frame):=λhm=>by
  obtain⟨_,o,ho,nf⟩:=hl.mem hm;rw[he] at ho;cases ho;exact nf vs hd
 refine Za (wpAny_frameOf_fun hfr hl hf λh1 so=>Za (wpAny_entryPlaceOf λpl hpl=>?_));unfold EntryCells.newEntry newFields;refine Za (wpAny_newObj_type ?_ (hpl.sizeOk5 _ _ _ _ _));have e1:h1.get? e=some oe:=(so.2.1 e nfr).trans he;have k1:B.StaysIn h1:=λb o hb=>(so.2.1 b λhm=>by rw[(hl.mem hm).1] at hb;cases hb).trans (kb b o hb);generalize hT:({cls:=.type "traceback",dict:=none,data:=.fields ([head,.ref L,.none,rawInt L,.none]++(if pl.isEmpty then List.replicate 6 Value.none else pl)).toArray}:Obj)=ot
 have ot3:∃ts,ot.data=.fields ts/\ts[3]? =some (rawInt L):=by
  rw[<- hT];exact⟨_,rfl,by first |(simp;done)|(rcases hpl with rfl|⟨_,_,_,_,_,_,_,rfl⟩<;>simp)⟩
 have otf:ot.isFreed=false:=by rw[<- hT];rfl
 have e2:=Zf (h:=h1) ot e1;refine wpAny_setField e2 hd hz (h _ ?_ ?_)
 ·have te:h1.objs.size≠e:=Nat.ne_of_gt (Heap.lt_size e1);have d3:=Obj.data_mapFields hd (·.setIfInBounds 1 (Value.ref h1.objs.size));have e3:=Heap.get?_update_self (Obj.mapFields (·.setIfInBounds 1 (Value.ref h1.objs.size))) e2 (Obj.isFreed_of_fields d3);have t3:=(Heap.get?_update_other (h1.push ot) (Obj.mapFields (·.setIfInBounds 1 (Value.ref h1.objs.size))) (Ne.symm te)).trans (Heap.get?_push_size h1 otf)
  have up:∀b o,b≠e->h1.get? b=some o->((h1.push ot).update e (Obj.mapFields (·.setIfInBounds 1 (Value.ref h1.objs.size)))).get? b=some o:=λb o hb q=>by
   rw[Heap.get?_update_other _ _ (Ne.symm hb)];exact Zf _ q
  have nr:∀b o,s.heap.get? b=some o->(∀vs,o.data≠ .fields vs)->b≠e:=λb o hb nf q=>by
   rw[q,he] at hb;cases hb;exact nf vs hd
  refine⟨λb o hb=>up b o (λq=>by rw[q,ne] at hb;cases hb) (k1 b o hb),ne,hl.of_keeps λb o hb nf=>?_,?_⟩
  ·obtain⟨sl,q⟩:=so.2.2 b o hb;exact⟨_,up b _ (nr b o hb nf) q,rfl⟩
  ·obtain⟨ts,q1,q2⟩:=ot3;refine⟨_,_,h1.objs.size,ot,ts,e3,Obj.cls_mapFields _ _,?_,d3,by simp[hz],k1.fresh,te,t3,q1,q2⟩;rw[<- hx];obtain⟨oc,od,odt,osl⟩:=oe;cases odt<;>rfl
 ·intro b o hb nf;obtain⟨sl,q⟩:=so.2.2 b o hb;refine⟨sl,?_⟩;have hbe:b≠e:=λz=>by rw[z,he] at hb;cases hb;exact nf vs hd
  show((h1.push ot).update e _).get? b=_
  rw[Heap.get?_update_other _ _ (Ne.symm hbe)];exact Zf _ q
theorem jN{fr:Option Addr}(x:FlA B l e cls fl dx s.heap)(h:∀h',FlA B l e cls (fr.elim .none λf=>rawInt f) dx h'->s.heap.UpToSlots h'->Q () {s with heap:=h'}):wpAny M A (setFlight (.ref e) fr) Q E s:=by
 obtain⟨kb,ne,hl,oe,vs,T,oT,ts,he,hc,hx,hd,h1,nT,tE,hT,dT,h3⟩:=x;have z3:3<ts.size:=(Array.getElem?_eq_some_iff.mp h3).1;have ot:∀b,b≠T->(s.heap.update T (Obj.mapFields (·.setIfInBounds 3 (fr.elim Value.none λf=>rawInt f)))).get? b=s.heap.get? b:=λb hb=>Heap.get?_update_other _ _ (Ne.symm hb)
 have nr:∀b o,s.heap.get? b=some o->(∀vs,o.data≠ .fields vs)->b≠T:=λb o hb nf q=>by
  rw[q,hT] at hb;cases hb;exact nf ts dT
 unfold setFlight;refine Za (wpAny_field he hd h1 ?_);rw[if_pos (show(Value.ref T != Value.none)=true from by simp)];refine wpAny_setField hT dT z3 (h _ ⟨λb o hb=>(ot b λq=>by rw[q,nT] at hb;cases hb).trans (kb b o hb),ne,hl.of_keeps λb o hb nf=>⟨o,(ot b (nr b o hb nf)).trans hb,rfl⟩,?_⟩ λb o hb nf=>⟨o.slots,(ot b (nr b o hb nf)).trans hb⟩);exact⟨oe,vs,T,_,_,(ot e (Ne.symm tE)).trans he,hc,hx,hd,h1,nT,tE,Heap.get?_update_self _ hT (Obj.isFreed_of_fields (Obj.data_mapFields dT _)),Obj.data_mapFields dT _,by simp[z3]⟩
theorem pD(hfr:A.frames=some (env::outer))(hf:env.frame=some L)(hf':env'.frame=env.frame)(x:FlA B (env::outer) e cls fl dx s.heap)
 (h:∀h',FlA B (env::outer) e cls (rawInt L) dx h'->s.heap.UpToSlots h'->Q () {s with heap:=h'}):wpAny M A (noteFrame (.ref e) env') Q E s:=by
 obtain⟨kb,ne,hl,oe,vs,T,oT,ts,he,hc,hx,hd,h1,nT,tE,hT,dT,h3⟩:=id x;unfold noteFrame;rw[hf',hf];simp only;refine Za (wpAny_field he hd h1 ?_);rw[if_pos (show(Value.ref T != Value.none)=true from by simp)];refine Za (wpAny_field hT dT h3 ?_)
 by_cases q:(fl==rawInt L)=true
 ·rw[if_pos q];have q':fl=rawInt L:=by simpa using q
  subst q';exact Zb (h s.heap x (.refl _))
 rw[if_neg q];refine Za (wpAny_setField hT dT (Array.getElem?_eq_some_iff.mp h3).1 ?_);have ot:∀b,b≠T->(s.heap.update T (Obj.mapFields (·.setIfInBounds 3 Value.none))).get? b=s.heap.get? b:=λb hb=>Heap.get?_update_other _ _ (Ne.symm hb)
 have nr:∀b o,s.heap.get? b=some o->(∀vs,o.data≠ .fields vs)->b≠T:=λb o hb nf q=>by
  rw[q,hT] at hb;cases hb;exact nf ts dT
 have fe:PySem.frameOf env'=PySem.frameOf env:=by unfold PySem.frameOf;rw[hf']
 rw[fe];refine rG (oe:=oe) (vs:=vs) hfr (hl.of_keeps λb o hb nf=>⟨o,(ot b (nr b o hb nf)).trans hb,rfl⟩) hf ((ot e (Ne.symm tE)).trans he) (λb o hb=>(ot b λq=>by rw[q,nT] at hb;cases hb).trans (kb b o hb)) ne hd (Array.getElem?_eq_some_iff.mp h1).1 hx λh' x' up=>h h' (hc ▸ x') ?_;intro b o hb nf;exact up b o ((ot b (nr b o hb nf)).trans hb) nf
theorem AS(hfr:A.frames=some (env::outer))(hf:env.frame=some L)(x:FlA B (env::outer) e cls fl dx s.heap)(h:∀h',FlA B outer e cls .none dx h'->s.heap.UpToSlots h'->Q () {s with heap:=h'}):wpAny M A (leaving env (.ref e)) Q E s:=by
 unfold leaving;refine Za (pD hfr hf rfl x λh1 x1 u1=>jN x1 λh2 x2 u2=>h h2 ?_ (u1.trans u2));obtain⟨a,b,⟨_,_,c⟩,d⟩:=x2;exact⟨a,b,c,d⟩
theorem FE{t0:Addr}(hfr:A.frames=some (env::outer))(hf:env.frame=some L)(hl:s.heap.FunFrames B (env::outer))(kb:B.StaysIn s.heap)(ne:B.get? e=none)(he:s.heap.get? e=some {cls:=cls,dict:=some dx,data:=rU t0})
 (h:∀h',FlA B outer e cls .none dx h'->s.heap.UpToSlots h'->Q () {s with heap:=h'}):wpAny M A (leaving env (.ref e)) Q E s:=by
 unfold leaving noteFrame;rw[hf];simp only;refine Za (Za (wpAny_field he rfl (x:=.none) rfl ?_));rw[if_neg (show ¬((Value.none != Value.none)=true) from by simp)];refine rG (oe:={cls:=cls,dict:=some dx,data:=rU t0}) hfr hl hf he kb ne rfl (by simp) rfl λh1 x1 u1=>jN x1 λh2 x2 u2=>h h2 ?_ (u1.trans u2);obtain⟨a,b,⟨_,_,c⟩,d⟩:=x2;exact⟨a,b,c,d⟩
end
noncomputable abbrev oW:Value->Shared->Prop:=λ_ _=>False
theorem uZ{P:Program}{w:World}{H:Hp}{h:Heap}{fs:List Addr}(x:HOk P w H h)(nf:∀b∈fs,H b=none):HOk P w H (W.hideAll h fs):=λa o e=>
 (x a o e).stay (λb u hb q=>W.hideAll_get _ q λhm=>by
   rcases hb with rfl|hb
   ·rw[nf _ hm] at e;cases e
   ·rw[nf _ hm] at hb;cases hb) (λ_ q=>q) λ_ _ q=>q
def Rw(H:Hp)(B:Heap)(dx:Addr):Prop:=H dx=none/\∃mA k,B.Ns1 dx mA/\mA "row"=some (.int 0 k)
structure Fly (P:Program)(w:World)(l:List Env)(H:Hp)(s:Heap)(Hs:Hp)(e C:Addr)(h B:Heap):Prop where
 fl:∃dx fl,FlA B l e (.ref C) fl dx h/\Rw H B dx/\s.get? dx=none
 hok:HOk P w H B
 kb:∀b o,s.get? b=some o->Hs b=none->b ∉ fC l->B.get? b=some o
 kt:∀b o,s.get? b=some o->b ∉ fC l->∃o',B.get? b=some o'
def hR(P:Program)(w:World):yC:=λouter Hs s E e s'=>∃H' B ea C,e=.ref ea/\s'.os=s.os/\AllBare s'.gens/\Un (fC outer) [] Hs H' s.heap s'.heap/\Fly P w outer H' s.heap Hs ea C s'.heap B/\E e (some C) H'
theorem OP{X:Cx}:tW (hR X.prog X.w) X E0:=λ_ _ _ _ _ _ _ ⟨_,_,_,_,_,_,_,_,_,z⟩=>z.elim
theorem rX{fs:List Addr}{H H':Hp}{h h1 h2 B:Heap}(u:Un fs [] H H' h h1)(kb:∀b o,h.get? b=some o->H b=none->b ∉ fs->B.get? b=some o)(kt:∀b o,h.get? b=some o->b ∉ fs->∃o',B.get? b=some o')
 (st:B.StaysIn h2)(up:h1.UpToSlots h2)(fr:∀b∈fs,∀o,h1.get? b=some o->∀vs,o.data≠ .fields vs):Un fs [] H H' h h2 where
 keep:=λb o e n hb _=>st b o (kb b o e n hb)
 slot:=λb o e n hb hx=>by
  obtain⟨sl,e1⟩:=u.slot b o e n hb hx;obtain⟨sl',e2⟩:=up b _ e1 (fr b hb _ e1);exact⟨sl',e2⟩
 free:=u.free
 there:=λb o e hx=>by
  by_cases hb:b∈fs
  ·obtain⟨o1,e1⟩:=u.there b o e hx;obtain⟨sl,e2⟩:=up b o1 e1 (fr b hb _ e1);exact⟨_,e2⟩
  ·obtain⟨o',e'⟩:=kt b o e hb;exact⟨o',st b o' e'⟩
 tups:=u.tups
 frzs:=u.frzs
 tbls:=u.tbls
structure FlyX (X:Cx)(pins:List (Addr×Obj))(H:Hp)(e C:Addr)(s:Shared)(B:Heap):Prop where
 fly:Fly X.prog X.w X.stack H X.s₀.heap X.H₀ e C s.heap B
 pc1:∀p∈X.pn++pins,B.get? p.1=some p.2
 pc2:∀x c,X.env.cells.lookup x=some c->∃o,s.heap.get? c=some o/\B.get? c=some o
section
variable {X:Cx}{pins:List (Addr×Obj)}{σ:Sg}{H:Hp}{s:Shared}
theorem eD(I:Inv X pins σ H s):∀b∈fC X.stack,∀o,s.heap.get? b=some o->∀vs,o.data≠ .fields vs:=λb hb o e vs q=>by
 obtain⟨_,o',e',nf⟩:=I.stack.mem hb;rw[e] at e';cases e';exact nf vs q
theorem fZ(I:Inv X pins σ H s){b:Addr}{o:Obj}(e:X.s₀.heap.get? b=some o)(hb:b ∉ fC X.outer):b ∉ fC X.stack:=λhm=>by
 rcases List.mem_cons.mp (I.stkSub b hm) with z|z
 ·exact absurd (Heap.lt_size e) (by rw[z];exact Nat.not_lt.mpr I.ok.above)
 ·exact hb z
theorem CN{E:XK}{e:Value}{s':Shared}(I:Inv X pins σ H s)(hx:X.ex=[])(hfn:∀x,X.fn x=true)(q:hR X.prog X.w X.stack H s E e s'):
 ∃H' ea C,e=.ref ea/\Inv X pins σ H' s'/\(∃B,FlyX X pins H' ea C s' B)/\E e (some C) H':=by
 obtain⟨H',B,ea,C,rfl,ho,hg,un,f,z⟩:=q;obtain⟨dx,mk,fl,rw',nw⟩:=id f.fl;refine⟨H',ea,C,rfl,I.call' (ch:= []) ho un (f.hok.kept fl.1) hg (λb z=>absurd z (by simp)),⟨B,⟨⟨dx,mk,fl,rw',?_⟩,f.hok,λb o e n hb=>?_,λb o e hb=>?_⟩,λp hp=>?_,λx c hc=>?_⟩,z⟩
 ·cases q:X.s₀.heap.get? dx with
  |none=>rfl
  |some o=>
   obtain⟨o1,e1⟩:=I.base.there dx o q (by rw[hx];simp);rw[nw] at e1;cases e1
 ·have hb':b ∉ X.fs:=λhm=>hb (by
   rcases I.ok.stk with z|z
   ·rw[z];exact hm
   ·rw[z.1];obtain⟨env,he,hf⟩:=List.mem_filterMap.mp (show b∈X.outer.filterMap (·.frame) from hm);exact List.mem_filterMap.mpr ⟨env,Zj _ he,hf⟩)
  have hn:b ∉ X.ex:=by rw[hx];simp
  exact f.kb b o (I.base.keep b o e n hb' hn) (I.base.free b o e n hn) hb
 ·have hn:b ∉ X.ex:=by rw[hx];simp
  obtain⟨o1,e1⟩:=I.base.there b o e hn;exact f.kt b o1 e1 hb
 ·obtain⟨e1,n,ne,nf,_⟩:=I.pin p hp;exact f.kb _ _ e1 n λhm=>(List.mem_cons.mp (I.stkSub _ hm)).elim ne nf
 ·obtain⟨v,o,e1,_⟩:=I.cell x c hc
  have hb:B.get? c=some o:=f.kb _ _ e1 (I.freeC x c hc) λhm=>by
   rcases List.mem_cons.mp (I.stkSub _ hm) with z|z
   ·exact I.cne x c hc z
   ·obtain⟨_,o',e',_⟩:=I.ok.funs.mem z;exact absurd (Heap.lt_size e') (Nat.not_lt.mpr (I.ok.cab x c (hfn x) hc))
  exact⟨o,fl.1 _ _ hb,hb⟩
theorem mI{e C:Addr}{B h':Heap}(I:Inv X pins σ H s)(F:FlyX X pins H e C s B)(hx:X.ex=[])(st:B.StaysIn h')(up:s.heap.UpToSlots h'):Inv X pins σ H {s with heap:=h'}:=by
 have base:Un X.fs [] X.H₀ H X.s₀.heap s.heap:=by have:=I.base;rw[hx] at this;exact this
 have sub:∀b∈X.fs,b∈fC X.stack:=λb hm=>by
  rcases I.ok.stk with z|z
  ·rw[z];exact hm
  ·rw[z.1];obtain⟨env,he,hf⟩:=List.mem_filterMap.mp (show b∈X.outer.filterMap (·.frame) from hm);exact List.mem_filterMap.mpr ⟨env,Zj _ he,hf⟩
 have cell:∀x c v,X.env.cells.lookup x=some c->s.heap.IsCell c v->Heap.IsCell h' c v:=λx c v hc ⟨o,e1,d⟩=>by
  obtain⟨o',e2,e3⟩:=F.pc2 x c hc;rw[e1] at e2;cases e2;exact⟨o,st _ _ e3,d⟩
 refine⟨I.ok,I.os,I.bare,?_,?_,λx c hc=>?_,I.free,I.freeC,λp hp=>?_,F.fly.hok.kept st,I.len⟩
 ·rw[hx];exact rX base (λb o e1 n hb=>F.fly.kb b o e1 n (fZ I e1 hb)) (λb o e1 hb=>F.fly.kt b o e1 (fZ I e1 hb)) st up λb hb o e1=>eD I b (sub b hb) o e1
 ·obtain⟨m,hn,hl⟩:=I.loc;refine⟨m,up.ns hn,λi x v e1 e2 e3=>?_⟩;obtain⟨u,ru,L⟩:=hl i x v e1 e2 e3;refine⟨u,ru,?_⟩;rcases L with L|⟨k,c,hc,ic⟩
  ·exact .inl L
  ·exact .inr ⟨k,c,hc,cell x c _ hc ic⟩
 ·obtain⟨v,ic⟩:=I.cell x c hc;exact⟨v,cell x c v hc ic⟩
 ·exact⟨st _ _ (F.pc1 p hp),(I.pin p hp).2⟩
theorem FlyX.step{e C:Addr}{B h':Heap}(F:FlyX X pins H e C s B)(fl:∃dx fl,FlA B X.stack e (.ref C) fl dx h'/\Rw H B dx/\X.s₀.heap.get? dx=none):FlyX X pins H e C {s with heap:=h'} B:=
 ⟨⟨fl,F.fly.hok,F.fly.kb,F.fly.kt⟩,F.pc1,λx c hc=>by
   obtain⟨o,_,e2⟩:=F.pc2 x c hc;obtain⟨_,_,fl,_,_⟩:=fl;exact⟨o,fl.1 _ _ e2,e2⟩⟩
end
theorem lV{P:Program}{w:World}{H:Hp}{h:Heap}{a:Addr}:∀{o:HO},ObjOk P w H h a o->∃u,h.get? a=some u:=by
 intro o x;cases o with
 |lst xs=>obtain⟨_,_,_,_,e⟩:=x;exact⟨_,e⟩
 |tup xs=>obtain⟨_,_,_,o,e,_⟩:=x;exact⟨_,e⟩
 |dK kvs=>obtain⟨_,_,_,_,o,_,_,e,_⟩:=x;exact⟨_,e⟩
 |dT kvs=>obtain⟨_,_,_,_,o,_,_,e,_⟩:=x;exact⟨_,e⟩
 |set S n=>obtain⟨o,_,_,_,e,_⟩:=x;exact⟨_,e⟩
 |ins C dx fs=>obtain⟨_,_,_,e,_⟩:=x;exact⟨_,e⟩
 |own y=>obtain⟨_,e⟩:=x;exact⟨_,e⟩
 |xd fs=>obtain⟨_,⟨_,_,_,e,_⟩,_⟩:=x;exact⟨_,e⟩
 |rng lo hi=>obtain⟨_,_,_,e⟩:=x;exact⟨_,e⟩
 |frz ob u=>obtain⟨e,_⟩:=x;exact⟨_,e⟩
 |tbl ps=>exact⟨_,x⟩
 |met f y=>exact⟨_,x⟩
 |ext φ=>obtain⟨_,⟨_,e⟩,_⟩:=x;exact⟨_,e⟩
structure XX (X:Cx)(ca:Nat->Addr)(W:Nat->Sg->Hp->Prop)(rz:Bool):Prop where
 ex:X.ex=[]
 stk:X.stack=X.env::X.outer/\X.env.frame=some X.env.locals
 fly:∀(pins:List (Addr×Obj))(σ:Sg)(H:Hp)(s:Shared)(e:Addr)(c:Nat),Inv X pins σ H s->(∃B,FlyX X pins H e (ca c) s B)->W c σ H->X.xe (.ref e) s
 made:rz=true->∀(pins:List (Addr×Obj))(σ:Sg)(H:Hp)(s:Shared)(e dx t0:Addr)(c:Nat)(mA:Str->Option Value)(k:Nat),Inv X pins σ H s->H e=none->X.s₀.heap.get? e=none->s.heap.get? e=some {cls:=.ref (ca c),dict:=some dx,data:=rU t0}->H dx=none->dx ∉ e::fC X.stack->X.s₀.heap.get? dx=none->s.heap.Ns1 dx mA->mA "row"=some (.int 0 k)->W c σ H->X.xe (.ref e) s
section
variable {P:Program}{w:World}{K:W.Frag}{mg:Str->Option Value}{base:Heap}{N:List Str}{qual:Str}{scope:Scope}{f:Addr}{cd:Value}{A:Around}{outer:List Env}{s₀:Shared}{H₀:Hp}{E:XK}{ca:Nat->Addr}
theorem VP:XX (fH (hR P w) P w K mg base N qual scope f cd A outer s₀ H₀ E) ca (λc _ H=>∀v,E v (some (ca c)) H) true where
 ex:=rfl
 stk:=⟨rfl,rfl⟩
 fly:=λpins σ H s e c I ⟨B,F⟩ hW=>by
  have F:=F.fly;obtain⟨dx,mk,fl,rw,nw⟩:=id F.fl;refine AS (L:=s₀.heap.objs.size) I.ok.frames rfl fl λh' fl' up=>?_;refine⟨H,B,e,ca c,rfl,I.os,I.bare,?_,⟨⟨dx,_,fl',rw,nw⟩,F.hok,λb o e1 n hb=>F.kb b o e1 n (fZ I e1 hb),λb o e1 hb=>F.kt b o e1 (fZ I e1 hb)⟩,hW _⟩;exact rX (h1:=s.heap) I.base (λb o e1 n hb=>F.kb b o e1 n (fZ I e1 hb)) (λb o e1 hb=>F.kt b o e1 (fZ I e1 hb)) fl'.1 up λb hb o e1=>eD I b (Zj _ hb) o e1
 made:=λ_ pins σ H s e dx t0 c mA k I hn hs he hdx nd nw ns hk hW=>by
  have nst:e ∉ fC (fH (hR P w) P w K mg base N qual scope f cd A outer s₀ H₀ E).stack:=λhm=>eD I e hm _ he _ rfl;have hin:∀env∈(fH (hR P w) P w K mg base N qual scope f cd A outer s₀ H₀ E).stack,∀b,env.frame=some b->b∈e::fC (fH (hR P w) P w K mg base N qual scope f cd A outer s₀ H₀ E).stack:=λenv he b hb=>Zj _ (List.mem_filterMap.mpr ⟨env,he,hb⟩)
  have fre:∀b∈e::fC (fH (hR P w) P w K mg base N qual scope f cd A outer s₀ H₀ E).stack,H b=none:=λb hb=>by
   rcases List.mem_cons.mp hb with rfl|hb
   ·exact hn
   ·exact I.stkFree b hb
  have old:∀b o,s₀.heap.get? b=some o->b ∉ fC outer->b ∉ e::fC (fH (hR P w) P w K mg base N qual scope f cd A outer s₀ H₀ E).stack:=λb o e1 hb hm=>by
   rcases List.mem_cons.mp hm with rfl|hm
   ·rw[show s₀.heap.get? b=none from hs] at e1;cases e1
   ·exact fZ I e1 hb hm
  refine FE (B:=W.hideAll s.heap (e::fC (fH (hR P w) P w K mg base N qual scope f cd A outer s₀ H₀ E).stack)) (L:=s₀.heap.objs.size) I.ok.frames rfl (W.funFrames_hide I.stack hin) (λb o q=>W.of_hideAll _ q) (W.hideAll_none _ Zl) he λh' fl' up=>?_
  have kb:∀b o,s₀.heap.get? b=some o->H₀ b=none->b ∉ fC outer->(W.hideAll s.heap (e::fC (fH (hR P w) P w K mg base N qual scope f cd A outer s₀ H₀ E).stack)).get? b=some o:=λb o e1 n hb=>
   W.hideAll_get _ (I.base.keep b o e1 n hb (by simp[fH])) (old b o e1 hb)
  have kt:∀b o,s₀.heap.get? b=some o->b ∉ fC outer->∃o',(W.hideAll s.heap (e::fC (fH (hR P w) P w K mg base N qual scope f cd A outer s₀ H₀ E).stack)).get? b=some o':=λb o e1 hb=>by
   obtain⟨o1,e2⟩:=I.base.there b o e1 (by simp[fH]);exact⟨o1,W.hideAll_get _ e2 (old b o e1 hb)⟩
  refine⟨H,_,e,ca c,rfl,I.os,I.bare,?_,⟨⟨dx,_,fl',⟨hdx,mA,k,?_,hk⟩,nw⟩,uZ I.hok fre,kb,kt⟩,hW _⟩
  ·exact rX (h1:=s.heap) I.base kb kt fl'.1 up λb hb o e1=>eD I b (Zj _ hb) o e1
  ·obtain⟨o,es,ep,e1,r⟩:=ns;exact⟨o,es,ep,W.hideAll_get _ e1 nd,r⟩
end
theorem kip{prog:Program}{w:World}{A:Around}{E:Value->Shared->Prop}{s:Shared}{Q:Value->Shared->Prop}{K:W.Frag}{x t c:Value}(LT:W.Looks (model prog w) s.heap (typeOf x) t)(KX:K.In s.heap)(e:W.kitOne K t c=some true)(hx:x≠ .builtin "__main__.__loader__#opaque")(h:Q (.bool true) s):
 wpAny (model prog w) A (call (.builtin "isinstance") [x,c]) Q E s:=by
 refine call_isinstance_of ?_ hx;obtain⟨hp,g,d,tk,os⟩:=s;unfold W.kitOne at e;unfold Builtin.«isinstance.nested»;refine Za (LT.at ?_)
 by_cases q:(t==c)=true
 ·rw[if_pos q]
  first
   |exact Za (wpAny_rule (Zb h))
   |exact Za (wpAny_rule h)
 ·rw[if_neg q] at e;rw[if_neg q];obtain⟨l1,l2,l3⟩:=W.kit_cls (M:=model prog w) KX e;have l4:W.Looks (model prog w) hp (isInstance x c) true:=LT.andThen l3;refine Za (l1.at ?_);rw[if_pos (by decide)]
  k_delta "plainIsInstance"
  refine Za (Za (l2.at ?_));simp only[Bool.not_true,Bool.false_eq_true,if_false];refine Za (l4.at ?_)
  first
   |exact Zb (Zb h)
   |(simp only[if_true];first |exact Zb (Zb h)|exact Zb h|exact Za (Zb (Zb h)))
structure EO where
 o:Obj
 dx:Addr
 od:Obj
structure EOk (oe:EO)(C:Addr):Prop where
 cls:oe.o.cls=.ref C
 dict:oe.o.dict=some oe.dx
 dat:∃vs,oe.o.data=.fields vs
 row:∃k,W.lookIn "row" oe.od=some (some (.int 0 k))
noncomputable def hX(X:Cx)(e:Addr)(oe:EO):Cx:={X with A:=X.A.mark (some (.ref e)),calm:=false,pn:=(e,oe.o)::(oe.dx,oe.od)::X.pn,xe:=oW}
section
variable {X:Cx}{pins:List (Addr×Obj)}{σ:Sg}{H:Hp}{s:Shared}{e C:Addr}{B:Heap}{oe:EO}
theorem IA(I:Inv X pins σ H s)(pin:s.heap.get? e=some oe.o/\H e=none/\e≠X.env.locals/\e ∉ X.fs/\∀v,oe.o.data≠ .cell v)(pid:s.heap.get? oe.dx=some oe.od/\H oe.dx=none/\oe.dx≠X.env.locals/\oe.dx ∉ X.fs/\∀v,oe.od.data≠ .cell v):Inv (hX X e oe) pins σ H s:=
 ⟨⟨I.ok.mod,I.ok.kind,I.ok.glob,I.ok.blt,I.ok.above,I.ok.inj,I.ok.has,I.ok.cab,(λz=>by cases z),I.ok.frames,I.ok.stk,I.ok.exf,I.ok.bs,I.ok.bsz,I.ok.noex,I.ok.exfs,I.ok.funs,I.ok.frf⟩,I.os,I.bare,I.base,I.loc,I.cell,I.free,I.freeC,λp hp=>by
   rcases List.mem_cons.mp (show p∈(e,oe.o)::(oe.dx,oe.od)::(X.pn++pins) from hp) with rfl|z
   ·exact pin
   ·rcases List.mem_cons.mp z with rfl|z
    ·exact pid
    ·exact I.pin p z,I.hok,I.len⟩
theorem AN(ok:X.Ok)(I:Inv (hX X e oe) pins σ H s):Inv X pins σ H s:=
 ⟨ok,I.os,I.bare,I.base,I.loc,I.cell,I.free,I.freeC,λp hp=>I.pin p (Zj _ (Zj _ hp)),I.hok,I.len⟩
theorem wW{M:Model}{A:Around}{E:Value->Shared->Prop}{j:Nat}{n:Str}{pos:Pos}{Q:Unit->Shared->Prop}(I:Inv X pins σ H s)(hN:X.N.Nodup)(hj:X.N[j]? =some n)(hl:X.env.scope.names.lookup n=some .local)
 (h:∀s',Inv X pins (σ.set j none) H s'->Q () s'):wpAny M A (do bindName X.env n .none;unbindBehindTheSuite X.env n pos) Q E s:=by
 obtain⟨m,hn,hlk⟩:=id I.loc;have hcls:(X.env.scope.kind== .class||(X.env.scope.kind== .module&&X.env.locals != X.env.globals))=false:=by rw[I.ok.kind];rfl
 refine wpAny_nameGoes_keeps hl hn hcls λh' v hn' hs=>h _ ?_;obtain⟨oL,_,_,hoL,_⟩:=id hn;have ne:∀b o,X.s₀.heap.get? b=some o->b≠X.env.locals:=λb o q=>Nat.ne_of_lt (Nat.lt_of_lt_of_le (Heap.lt_size q) I.ok.above);refine⟨I.ok,I.os,I.bare,⟨λb o q nn hb hx=>?_,λb o q nn hb hx=>?_,I.base.free,λb o q hx=>?_,I.base.tups,I.base.frzs,I.base.tbls⟩,⟨_,hn',λi y v' e1 e2 e3=>?_⟩,λy c q=>?_,I.free,I.freeC,λp hp=>?_,λb ob q=>?_,by simpa using I.len⟩
 ·exact(hs.2 b (ne b o q)).trans (I.base.keep b o q nn hb hx)
 ·obtain⟨sl,q1⟩:=I.base.slot b o q nn hb hx;exact⟨sl,(hs.2 b (ne b o q)).trans q1⟩
 ·obtain⟨o',q1⟩:=I.base.there b o q hx;exact⟨o',(hs.2 b (ne b o q)).trans q1⟩
 ·have hij:i≠j:=λz=>by
   subst z
   by_cases hi:i<σ.length
   ·rw[List.getElem?_set_self hi] at e2;cases e2
   ·rw[List.getElem?_eq_none (by simpa using hi)] at e2;cases e2
  rw[List.getElem?_set_ne (Ne.symm hij)] at e2;obtain⟨u',r',L⟩:=hlk i y v' e1 e2 e3;refine⟨u',r',?_⟩;rcases L with ⟨k,q⟩|⟨k,c,hc,z⟩
  ·have:y≠n:=λz=>hij (lW hN e1 (z ▸ hj));exact .inl ⟨k,by simp[this,q]⟩
  ·exact .inr ⟨k,c,hc,z.sameBut hs (I.cne y c hc)⟩
 ·obtain⟨w',z⟩:=I.cell y c q;exact⟨w',z.sameBut hs (I.cne y c q)⟩
 ·obtain⟨q,nn,ne',nf,d⟩:=I.pin p hp;exact⟨(hs.2 p.1 ne').trans q,nn,ne',nf,d⟩
 ·refine(I.hok b ob q).stay (λc w' hc q'=>(hs.2 c ?_).trans q') (λ_ z=>z) λ_ _ z=>z;rintro rfl;rcases hc with rfl|hc
  ·rw[I.free] at q;cases q
  ·rw[I.free] at hc;cases hc
theorem UV{g:Str}{Gc:Addr}{gp hp:Pos}{nm:Option Str}{b0:Stmt}{suite:List Stmt}{rest:List ExceptHandler}{Q:Flow->Shared->Prop}(I:Inv X pins σ H s)(F:FlyX X pins H e C s B)(hx:X.ex=[])(stk:X.stack=X.env::X.outer/\X.env.frame=some X.env.locals)
 (hg:Gl X g)(hm:X.mg g=some (.ref Gc))(hd:(g==("__debug__":Str))=false)(hxm:W.exmOne X.K (.ref C) (.ref Gc)=some true)
 (k:∀s5,Inv X pins σ H s5->FlyX X pins H e C s5 B->codeAny (model X.prog X.w) (X.A.mark (some (.ref e))) (.handlers (.ref e) [.ExceptHandler none nm (b0::suite) hp] X.env) (λr s6=>match r with
   |.ok f=>(match nm with
    |none=>Q f s6
    |some n=>wpAny (model X.prog X.w) X.A (do bindName X.env n .none;unbindBehindTheSuite X.env n hp) (λ_ s7=>Q f s7) X.xe s6)
   |.error x=>cameBackBy (model X.prog X.w) X.A X.env X.xe x s6) s5):
 wpAny (model X.prog X.w) X.A (noteFrame (.ref e) X.env) (λ_ s2=>wpAny (model X.prog X.w) X.A (setFlight (.ref e) none) (λ_ s3=>wpAny (model X.prog X.w) X.A (handleBy (.ref e) X.env (.ExceptHandler (some (.Name g gp)) nm (b0::suite) hp::rest)) Q X.xe s3) X.xe s2) X.xe s:=by
 obtain⟨dx,mk,fl,rw'⟩:=id F.fly.fl;rw[stk.1] at fl;refine pD (by rw[I.ok.frames,stk.1]) stk.2 rfl fl λh1 held up1=>?_;refine jN held λh2 fl2 up2=>?_;have I2:Inv X pins σ H {s with heap:=h2}:=mI I F hx fl2.1 (up1.trans up2);have F2:FlyX X pins H e C {s with heap:=h2} B:=F.step ⟨dx,_,by rw[stk.1];exact fl2,rw'⟩;obtain⟨oe,vs,he,hc,hdt,_⟩:=fl2.first;have LT:W.Looks (model X.prog X.w) h2 (typeOf (.ref e)) (.ref C):=hc ▸ (W.Looks.ld he).andThen .now;refine wpAny_handleBy_cons (codeAny_handlers_test ?_) (by intro q;cases q)
 have glob:∀(Q':Value->Shared->Prop)(E':Value->Shared->Prop),Q' (.ref Gc) {s with heap:=h2}->wpAny (model X.prog X.w) (X.A.mark (some (.ref e))) (eval (.Name g gp) X.env) Q' E' {s with heap:=h2}:=λQ' E' q=>
  Calls.Name_function_global I2.ok.kind hg (Calls.loadGlobal_global (by rw[I2.ok.glob];exact I2.mod.glob.keeps I2.bk) hm q) hd
 refine glob _ _ ?_;refine(W.exm_one (M:=model X.prog X.w) I2.kIn LT hxm).at ?_;exact k _ I2 F2
theorem vE(I:Inv X pins σ H s)(F:FlyX X pins H e C s B)(stk:X.stack=X.env::X.outer/\X.env.frame=some X.env.locals):∃oe:EO,EOk oe C/\(s.heap.get? e=some oe.o/\H e=none/\e≠X.env.locals/\e ∉ X.fs/\∀v,oe.o.data≠ .cell v)/\(s.heap.get? oe.dx=some oe.od/\H oe.dx=none/\oe.dx≠X.env.locals/\oe.dx ∉ X.fs/\∀v,oe.od.data≠ .cell v):=by
 obtain⟨dx,mk,fl,⟨hn,mA,k,ns,hk⟩,_⟩:=id F.fly.fl;obtain⟨oe,vs,he,hc,hdt,hdx⟩:=fl.first;obtain⟨od,ho,hl⟩:=wY ns;have nst:e ∉ fC X.stack:=λhm=>eD I e hm oe he vs hdt
 have nsd:dx ∉ fC X.stack:=λhm=>by
  have z:=(fl.2.2.1.mem hm).1;rw[ho] at z;cases z
 have inL:X.env.locals∈fC X.stack:=by rw[stk.1];exact List.mem_filterMap.mpr ⟨X.env,Zl,stk.2⟩
 have inO:∀b∈X.fs,b∈fC X.stack:=λb hb=>by
  rw[stk.1];obtain⟨env,he',hf⟩:=List.mem_filterMap.mp (show b∈X.outer.filterMap (·.frame) from hb);exact List.mem_filterMap.mpr ⟨env,Zj _ he',hf⟩
 refine⟨⟨oe,dx,od⟩,⟨hc,hdx,⟨vs,hdt⟩,k,by rw[hl,hk]⟩,⟨he,?_,λz=>nst (z ▸ inL),λz=>nst (inO _ z),λv q=>by rw[hdt] at q;cases q⟩,fl.1 _ _ ho,hn,λ(z:dx=_)=>nsd (z ▸ inL),λz=>nsd (inO _ z),λv q=>?_⟩
 ·cases q:H e with
  |none=>rfl
  |some u=>
   obtain⟨o,z⟩:=lV (F.fly.hok e u q);rw[fl.2.1] at z;cases z
 ·obtain⟨o',es,ep,e1,e2,_⟩:=ns;rw[ho] at e1;cases e1;have q':od.data=.cell v:=q;rw[e2] at q';cases q'
theorem JK{hp:Pos}{b0:Stmt}{suite:List Stmt}{R:Result->Shared->Prop}(I:Inv X pins σ H s)(F:FlyX X pins H e C s B)(hx:X.ex=[])(stk:X.stack=X.env::X.outer/\X.env.frame=some X.env.locals)
 (k:∀oe s6,EOk oe C->Inv (hX X e oe) pins σ H s6->wpAny (model X.prog X.w) (X.A.mark (some (.ref e))) (execs (b0::suite) X.env) (λf s7=>R (.ok f) s7) oW s6):
 codeAny (model X.prog X.w) (X.A.mark (some (.ref e))) (.handlers (.ref e) [.ExceptHandler none none (b0::suite) hp] X.env) R s:=by
 obtain⟨dx,mk,fl,rw'⟩:=id F.fly.fl;refine codeAny_handlers_suite (jN fl λh6 fl6 up6=>?_);have I6:Inv X pins σ H {s with heap:=h6}:=mI I F hx fl6.1 up6;have F6:FlyX X pins H e C {s with heap:=h6} B:=F.step ⟨dx,_,fl6,rw'⟩;obtain⟨oe,hc,pin,pid⟩:=vE I6 F6 stk;exact wpAny_mono (k oe _ hc (IA I6 pin pid)) (λ_ _ q=>q) λ_ _ q=>q.elim
theorem JJ{hp:Pos}{n:Str}{j:Nat}{b0:Stmt}{suite:List Stmt}{R:Result->Shared->Prop}(I:Inv X pins σ H s)(F:FlyX X pins H e C s B)(hx:X.ex=[])(stk:X.stack=X.env::X.outer/\X.env.frame=some X.env.locals)
 (hN:X.N.Nodup)(hj:X.N[j]? =some n)(hl:X.env.scope.names.lookup n=some .local)
 (k:∀oe s6,EOk oe C->Inv (hX X e oe) pins (σ.set j (some (.ref e))) H s6->wpAny (model X.prog X.w) (X.A.mark (some (.ref e))) (execs (b0::suite) X.env) (λf s7=>R (.ok f) s7) oW s6):
 codeAny (model X.prog X.w) (X.A.mark (some (.ref e))) (.handlers (.ref e) [.ExceptHandler none (some n) (b0::suite) hp] X.env) R s:=by
 obtain⟨dx,mk,fl,rw'⟩:=id F.fly.fl;refine codeAny_handlers_suite_as (jN fl λh6 fl6 up6=>?_);have I6:Inv X pins σ H {s with heap:=h6}:=mI I F hx fl6.1 up6;have F6:FlyX X pins H e C {s with heap:=h6} B:=F.step ⟨dx,_,fl6,rw'⟩;obtain⟨oe,hc,pin,pid⟩:=vE I6 F6 stk;refine lL (X:=hX X e oe) (v:=.ref e) (IA I6 pin pid) hN hj (.inl hl) rfl (λs7 I7=>?_) (.inr hl);exact wpAny_mono (k oe _ hc I7) (λ_ _ q=>q) λ_ _ q=>q.elim
end
end Ng
end
section
namespace Ng
open PySem PySem.Spec PyProof.Rows L2 PySem.W Builtin Builtin.ObjectAttr Builtin.Getset_descriptor
structure ExcN (K:W.Frag)(C:Addr):Prop where
 ga:findIn K (.ref C) "__getattribute__"=some (some (.builtin "BaseException.__getattribute__"))
 gt:findIn K (.ref C) "__getattr__"=some none
 cl:findIn K (.ref C) "__class__"=some (some (.builtin "object.__class__"))
 gg:specialIn K (.builtin "object.__class__") "__get__"=some (some (.builtin "getset_descriptor.__get__"))
 tk:takesIn K (.builtin "object.__class__")=some true
 mr:mroIn K C (.type "object")=some true
 mb:mroIn K C (.type "BaseException")=some true
 ty:∃l n,excIn K C l n=true
section
variable {prog:Program}{w:World}{A:Around}{E:Value->Shared->Prop}{s:Shared}{K:W.Frag}{x C:Addr}{ox:Obj}
theorem AT{M:Model}{h:Heap}(KX:K.In h)(n:ExcN K C):Looks M h (find (.ref x) (.ref C) "__class__") (.bind (.builtin "getset_descriptor.__get__") (.builtin "object.__class__")):=by
 have T1:=looks_findIn (M:=M) KX n.cl;have T2:Looks M h (getOf (some (.builtin "object.__class__"))) (some (.builtin "getset_descriptor.__get__")):=looks_specialIn KX n.gg;have T3:=looks_takesIn (M:=M) KX n.tk;exact T1.andThen (T2.andThen ((show Looks M h (dataDescriptor? (some (.builtin "object.__class__")) (some (.builtin "getset_descriptor.__get__"))) (some (.builtin "getset_descriptor.__get__",.builtin "object.__class__")) from T3.andThen .now).andThen (Looks.tag .now)))
theorem xF{Q:Option Value->Shared->Prop}(KX:K.In s.heap)(he:s.heap.get? x=some ox)(hc:ox.cls=.ref C)(n:ExcN K C)(q:Q (some (.ref C)) {s with toks:=s.toks+1}):wpAny (model prog w) A (getAttr? (.ref x) "__class__") Q E s:=by
 obtain⟨hp,gn,dr,tk,os⟩:=s;have T0:Looks (model prog w) hp (typeOf (.ref x)) (.ref C):=hc ▸ (Looks.ld he).andThen .now;have T1:=looks_findIn (M:=model prog w) KX n.ga;have T2:=AT (M:=model prog w) (x:=x) KX n;have T3:=looks_findIn (M:=model prog w) KX n.gt;have T4:=looks_mroIn (M:=model prog w) KX n.mr;have T5:=looks_mroIn (M:=model prog w) KX n.mb;unfold getAttr? getAttrBy? getAttrBy;refine Za (wpAny_mkText (Za (wpAny_attempt (wpAny_holding (Za (T0.at (Za (T1.at ?_))))))));show wpAny _ _ (getAttrByItsOwn (.ref x) _ (.ref C) (.builtin "BaseException.__getattribute__") false false) _ _ _;unfold getAttrByItsOwn hookBefore callGetattribute boundAndCalled;refine Za (T3.at ?_);refine Za (wpAny_attempt (wpAny_holding ?_));show wpAny _ _ (bindSpecial (.builtin "BaseException.__getattribute__") (.ref x)>>=_) _ _ _;refine Za (wpAny_of_eq (F.excAttr_ValueError.ga.bind _) ?_);refine wpAny_call (codeAny_call_builtin F.excAttr_ValueError.ga.plain F.entry_bexc_ga ?_);have hk:builtinKind "BaseException.__getattribute__"=some .slot:=by decide+kernel
 have hsplit:splitId "BaseException.__getattribute__"=some ("BaseException","__getattribute__"):=by decide+kernel
 have ha:=F.args_bexc_ga (.ref x) (.str "__class__" tk);simp only[checkBuiltinCall,hk,hsplit];unfold isInstance
 repeat (first |(with_reducible refine wpAny_call ?_)|lk)
 refine codeAny_call_builtin KF.slot_gs.plain KF.entry_gs (KF.slot_gs.check _ _ _ _ _ _ _ _ KF.type_class (KF.args_gs _ _ _) ?_);unfold Builtin.«getset_descriptor.__get__» descrGet;rw[dga_obj];refine Za (Zb ?_);unfold descrGetter descrCheckInstance descrNameAndClass isInstance;simp only[KF.owner_class]
 repeat lk
 refine⟨Code.quiet_builtin _ (by decide+kernel),codeAny_builtin KF.entry_class ?_⟩;unfold Builtin.«object.__class__» shownTypeOf
 repeat lk
 exact q
theorem mJ{h:Heap}(KX:K.In h)(n:ExcN K C):∃cc cd' sl dd,h.get? C=some ⟨cc,dd,.cls cd',sl⟩:=by
 obtain⟨l,i,hcd⟩:=n.ty;unfold excIn at hcd;split at hcd
 ·rename_i dd cdt slots hob;exact⟨_,_,_,_,KX _ _ hob⟩
 ·cases hcd
theorem AB(n:ExcN K C):KitX K (.ref x) (.ref C) (λh=>h.get? x=some ox/\ox.cls=.ref C) where
 ty:=λ_ _ _ p=>p.2 ▸ (Looks.ld p.1).andThen .now
 it:=λM h KX _=>by
  obtain⟨cc,cd,sl,dd,ho⟩:=mJ KX n;intro A1 Q1 E1 s1 kp z;unfold isType loadHead;exact Za (wpAny_loadPart (kp _ _ ho) (Zb z))
 ne:=λh tp dd its m sl KX ht=>by
  obtain⟨cc,cd,sl,dd,ho⟩:=mJ KX n;refine Bool.eq_false_iff.mpr λz=>?_;have ee:C=tp:=Value.ref.inj (beq_iff_eq.mp z);rw[ee,ht] at ho;cases ho
 ca:=λKX p z=>xF KX p.1 p.2 n z
end
end Ng
end
section
namespace Ng
open PySem PySem.W PyProof.Rows
noncomputable def KOk(n:Nat)(L:Nat->Nat->Bool){α:Type}:KasT α->(α->Prop)->Prop
 |.ret a,Q=>Q a
 |.ask i j k,Q=>i<n/\j<n/\i≠j/\KOk n L (k (L i j)) Q
section
variable {n:Nat}{L:Nat->Nat->Bool}{α β:Type}
end
noncomputable abbrev gD(p:Array Nat)(i:Nat):Nat:=p.getD i 0
structure SO (n:Nat)(L:Nat->Nat->Bool):Prop where
 tot:∀i j,i<n->j<n->i≠j->L i j=true\/L j i=true
 tr:∀i j k,i<n->j<n->k<n->L i j=true->L j k=true->L i k=true
def PV(n:Nat)(p:Array Nat):Prop:=p.toList.Perm (List.range n)
def Sd(L:Nat->Nat->Bool)(p:Array Nat)(k:Nat):Prop:=∀i j,i<j->j<k->L (gD p i) (gD p j)=true
section
variable {n:Nat}{L:Nat->Nat->Bool}{p:Array Nat}
def Ds(L:Nat->Nat->Bool)(p:Array Nat)(k:Nat):Prop:=∀i j,i<j->j<k->L (gD p j) (gD p i)=true
end
section
variable {δ:Type}
end
end Ng
end
section
namespace Ng
open PySem PySem.Spec PyProof.Rows L2
inductive Bop where
 |add|sub|mul|fdiv|mod|pow
inductive Cop where
 |lt|le|gt|ge|eq|ne|is|isnot|inn|notin
inductive Ty where
 |int|bool|str|tuple|list
noncomputable def Ty.nm:Ty->String
 |.int=>"int"|.bool=>"bool"|.str=>"str"|.tuple=>"tuple"|.list=>"list"
inductive Blt where
 |len|isinst|int|list|max|min|sorted|all|tup|zip
inductive Tg where
 |nm (i:Nat)|tp (l:List Nat)
inductive Ck where
 |r1|r2|sq|its|itf|st|zp
noncomputable def dH:List Nat->List D->Ev->Ev
 |i::is,d::ds,r=>dH is ds (r.set i (some d))
 |_,_,r=>r
noncomputable def dO:Tg->D->Ev->Option Ev
 |.nm i,d,r=>some (r.set i (some d))
 |.tp l,.tup ds,r=>if ds.length=l.length then some (dH l ds r) else none
 |_,_,_=>none
noncomputable def cQ(i j:Int):List D:=(List.range (j-i).toNat).map λ(k:Nat)=>D.int (i+k)
def nB(j:Int):Prop:= -(2^62)<=j/\j<2^62
instance (j:Int):Decidable (nB j):=by unfold nB;infer_instance
mutual
inductive E where
 |var (i:Nat)|int (i:Int)|bl (b:Bool)|non|str (x:Str)|gc (g:Nat)|ty (t:Ty)
 |bin (op:Bop) (a b:E)|neg (a:E)|cmp (op:Cop) (a b:E)
 |and (a b:E)|or (a b:E)|not (a:E)|ite (c a b:E)
 |ix (a b:E)|tup (l:Es)|lst (l:Es)|call (f:Nat) (l:Es)|blt (f:Blt) (l:Es)|app (o e:E)
 |comp (t:Tg) (k:Ck) (it cs:Es) (e:E) (N:List Str) (cap:List Nat)
 |mxd (mx:Bool) (l d:E)|lrg (e:E)|disp (ks:List Str) (vs:Es)|ins (o i e:E)
 |slU (a b:E)|slL (a b:E)|att (o:E) (cn f:Str)|new (cn:Str) (f:Nat) (l:Es)|slT (a b:E)|slA (a b:E)|slZ (a b:E)|mth (o:E) (cn m:Str) (f:Nat) (l:Es)|chn (op op':Cop) (a b c:E)|rev (o:E)|dcT (t:Tg) (i k v:E) (N:List Str) (cap:List Nat)|dnw|dnt|get2 (o k d:E)|join (x:Str) (e:E)|fst (l:Es)|fmt (a:E)|spl (o:E) (x:Str)|stw (o:E) (x:Str)|rep (a b:E)|itx (a:E)|sof (a:E)|dcomp (t1:Tg) (i1:E) (t2:Tg) (i2 k v:E) (N:List Str) (cap:List Nat)
inductive Es where
 |nil|cons (e:E) (r:Es)
end
noncomputable def eY:D->Hh->Option Bool
 |.non,_=>some false
 |.bl b,_=>some b
 |.int i,_=>some (i != 0)
 |.str y,_=>if y.length<=sizeLine then some ((y.length:Int) != 0) else none
 |.tup l,_=>some (!l.isEmpty)
 |.ref n,h=>match aK h n with
  |some l=>some (!l.isEmpty)
  |none=>none
 |.ty _,_=>none
noncomputable def dB:Bop->D->D->Hh->Rs D
 |.add,.int i,.int j,h=>.ok (.int (i+j)) h
 |.add,.str x,.str y,h=>if x.length+y.length<=sizeLine then .ok (.str (x++y)) h else .bad
 |.add,.tup a,.tup b,h=>if a.length+b.length<=1000/\0<a.length/\0<b.length then .ok (.tup (a++b)) h else .bad
 |.add,.ref n,.ref k,h=>match h[n]?,h[k]? with
  |some (.lst a),some (.lst b)=>if a.length+b.length<=1000 then .ok (.ref h.length) (h++ [.lst (a++b)]) else .bad
  |_,_=>.bad
 |.sub,.int i,.int j,h=>.ok (.int (i-j)) h
 |.mul,.int i,.int j,h=>if(-(2^64)<i/\i<2^64)\/(-(2^64)<j/\j<2^64) then .ok (.int (i*j)) h else .bad
 |.fdiv,.int i,.int j,h=>if 0<j/\j<1073741824 then .ok (.int (i/j)) h else .bad
 |.mod,.int i,.int j,h=>if 0<j then .ok (.int (i%j)) h else .bad
 |.pow,.int i,.int j,h=>if 0<=j/\j<=1000000/\i.natAbs<2^64 then .ok (.int (i^j.toNat)) h else .bad
 |_,_,_,_=>.bad
noncomputable def pH(f:D->D->Option Bool):List D->List D->Option Bool
 | [],[]=>some true
 | [],_::_=>some false
 |_::_,[]=>some false
 |x::xs,y::ys=>match f x y,pH f xs ys with
  |some a,some b=>some (a&&b)
  |_,_=>none
noncomputable def jA:Nat->D->D->Option Bool
 |_,.non,.non=>some true
 |_,.non,.int _=>some false
 |_,.int _,.non=>some false
 |_,.non,.str _=>some false
 |_,.str _,.non=>some false
 |_,.int a,.int b=>some (a==b)
 |_,.bl a,.bl b=>some (a==b)
 |_,.str a,.str b=>some (a==b)
 |_,.int _,.str _=>some false
 |_,.str _,.int _=>some false
 |n+1,.tup a,.tup b=>pH (jA n) a b
 |_,_,_=>none
noncomputable def FJ:D->D->Hh->Option Bool
 |.ref i,.ref j,h=>match aK h i,aK h j with
  |some a,some b=>if a.length=b.length then pH (jA 20) a b else some false
  |_,_=>none
 |x,y,_=>jA 20 x y
noncomputable def gN:D->Bool
 |.non=>true
 |_=>false
noncomputable def flat:D->Bool
 |.non=>true|.bl _=>true|.int _=>true|.str _=>true
 |_=>false
noncomputable def eqF:D->D->Bool
 |.non,.non=>true
 |.bl a,.bl b=>a==b
 |.bl a,.int b=>(if a then 1 else 0)==b
 |.int a,.bl b=>a==(if b then 1 else 0)
 |.int a,.int b=>a==b
 |.str a,.str b=>a==b
 |_,_=>false
noncomputable def HZ(x:D)(l:List D)(neg:Bool)(h:Hh):Rs D:=if flat x=true/\l.all flat=true then .ok (.bl (if neg then !(l.any λy=>eqF y x) else l.any λy=>eqF y x)) h else .bad
noncomputable def dY:D->Hh->Option (List D)
 |.tup l,_=>some l
 |.ref n,h=>aK h n
 |_,_=>none
noncomputable def eU(h:Hh)(x:D):Option (List (cH×D)):=match x with
 |.ref n=>match h[n]? with
  |some (.dct l)=>some l
  |_=>none
 |_=>none
noncomputable def AC:D->Option cH
 |.int i=>some (.inl i)
 |.str x=>some (.inr x)
 |_=>none
noncomputable def fL(l:List (cH×D))(k:cH):Option D:=(l.find? λkv=>decide (kv.1=k)).map (·.2)
noncomputable def HY(x:D)(l:List (cH×D))(neg:Bool)(h:Hh):Rs D:=match AC x with
 |some k=>.ok (.bl (if neg then !(fL l k).isSome else(fL l k).isSome)) h
 |none=>.bad
noncomputable def UL(l:List (cH×D))(k:cH)(v:D):List (cH×D):=if l.any (λkv=>decide (kv.1=k)) then l.map (λkv=>if kv.1=k then(kv.1,v) else kv) else l++ [(k,v)]
noncomputable def PX(x y z:D)(h:Hh):Rs D:=match eU h x,AC y with
 |some l,some k=>.ok ((fL l k).getD z) h
 |_,_=>.bad
noncomputable def IN(n:Nat)(y z:D)(h:Hh):Rs Unit:=match h[n]?,AC y with
 |some (.dct l),some k=>if l.length<1000 then .ok () (h.set n (.dct (UL l k z))) else .bad
 |_,_=>.bad
noncomputable def lJ:List D->Option (List Str)
 | []=>some []
 |.str x::r=>(lJ r).map (x:: ·)
 |_::_=>none
noncomputable def iS(h:Hh)(x:D):Option (List (List Int×D)):=match x with
 |.ref n=>match h[n]? with
  |some (.dtf l)=>some l
  |_=>none
 |_=>none
noncomputable def rA:List D->Option (List Int)
 | []=>some []
 |.int i::r=>(rA r).map (i:: ·)
 |_::_=>none
noncomputable def wA(l:List (List Int×D))(k:List Int):Option D:=(l.find? λkv=>decide (kv.1=k)).map (·.2)
noncomputable def RX(x y:D)(h:Hh):Option Bool:=match x,y with
 |.str a,.str b=>some (!(Builtin.Str.occurrences b a 0 b.length 1).isEmpty)
 |.tup ks,y=>match iS h y with
  |some l=>(rA ks).map λk=>(wA l k).isSome
  |none=>none
 |_,_=>none
noncomputable def RY(x:D):List D->Option Bool
 | []=>some false
 |y::r=>match jA 20 y x,RY x r with
  |some a,some b=>some (a||b)
  |_,_=>none
noncomputable def LR(x y:D)(l:List D):Option Bool:=match x,y with
 |.tup _,.ref _=>RY x l
 |_,_=>none
noncomputable def zX(x y:D):Option Bool:=match x,y with
 |.str a,.str b=>some (!(!(Builtin.Str.occurrences b a 0 b.length 1).isEmpty))
 |_,_=>none
noncomputable def dN:Cop->D->D->Hh->Rs D
 |.lt,.int i,.int j,h=>.ok (.bl (decide (i<j))) h
 |.le,.int i,.int j,h=>.ok (.bl (decide (i<=j))) h
 |.gt,.int i,.int j,h=>.ok (.bl (decide (j<i))) h
 |.ge,.int i,.int j,h=>.ok (.bl (decide (j<=i))) h
 |.eq,x,y,h=>match FJ x y h with
  |some b=>.ok (.bl b) h
  |none=>.bad
 |.ne,x,y,h=>match FJ x y h with
  |some b=>.ok (.bl (!b)) h
  |none=>.bad
 |.is,x,.non,h=>.ok (.bl (gN x)) h
 |.isnot,x,.non,h=>.ok (.bl (!gN x)) h
 |.inn,x,y,h=>match RX x y h with
  |some b=>.ok (.bl b) h
  |none=>match eU h y with
   |some l=>HY x l false h
   |none=>match dY y h with
    |some l=>HZ x l false h
    |none=>.bad
 |.notin,x,y,h=>match zX x y with
  |some b=>.ok (.bl b) h
  |none=>match eU h y with
   |some l=>HY x l true h
   |none=>match dY y h with
    |some l=>match LR x y l with
     |some b=>.ok (.bl (!b)) h
     |none=>HZ x l true h
    |none=>.bad
 |_,_,_,_=>.bad
noncomputable def LM(x y:D)(h:Hh):Rs D:=match dY x h,y with
 |some l,.int i=>match pU l i with
  |some d=>.ok d h
  |none=>.bad
 |_,_=>.bad
noncomputable def LN(l:List (cH×D))(y:D)(h:Hh):Rs D:=match AC y with
 |some k=>match fL l k with
  |some d=>.ok d h
  |none=>.bad
 |none=>.bad
noncomputable def HR(x:Str)(y:D)(h:Hh):Rs D:=match y with
 |.int i=>if x.length<=sizeLine then(match pU x.cps.toList i with
  |some c=>.ok (.str ⟨#[c]⟩) h
  |none=>.bad) else .bad
 |_=>.bad
noncomputable def RS(l:List (List Int×D))(y:D)(h:Hh):Rs D:=match y with
 |.tup ks=>match (rA ks).bind (wA l) with
  |some d=>.ok d h
  |none=>.bad
 |_=>.bad
noncomputable def kK(x y:D)(h:Hh):Rs D:=match x with
 |.str z=>HR z y h
 |x=>match eU h x with
  |some l=>LN l y h
  |none=>match iS h x with
   |some l=>RS l y h
   |none=>LM x y h
noncomputable def eB:D->Hh->Bool
 |.ref n,h=>(aK h n).isSome
 |_,_=>false
noncomputable def RF:D->Hh->Option Ty
 |.bl _,_=>some .bool
 |.int _,_=>some .int
 |.str _,_=>some .str
 |.tup _,_=>some .tuple
 |.ref n,h=>match aK h n with
  |some _=>some .list
  |none=>none
 |_,_=>none
noncomputable def EW:Ty->String->Bool
 |.bool,s=>s=="bool"||s=="int"
 |t,s=>t.nm==s
noncomputable def fU:List String:= ["int","bool","str","tuple","list"]
noncomputable def kA(x:D)(T:String)(h:Hh):Option Bool:=match x with
 |.non=>if T∈fU then some false else none
 |x=>match RF x h with
  |some t=>if T∈fU then some (EW t T) else none
  |none=>none
noncomputable def qA:List D->Option (List String)
 | []=>some []
 |.ty T::r=>match qA r with
  |some l=>some (T::l)
  |none=>none
 |_=>none
noncomputable def gY(x:D)(h:Hh):List String->Option Bool
 | []=>some false
 |T::r=>match kA x T h,gY x h r with
  |some a,some b=>some (a||b)
  |_,_=>none
noncomputable def cD(x:D):D->Hh->Rs D
 |.ty T,h=>match kA x T h with
  |some b=>.ok (.bl b) h
  |none=>.bad
 |.tup l,h=>match qA l with
  |some []=>.bad
  |some (T::Ts)=>match gY x h (T::Ts) with
   |some b=>.ok (.bl b) h
   |none=>.bad
  |none=>.bad
 |_,_=>.bad
noncomputable def VI:D->Hh->Rs D
 |.int i,h=>.ok (.int i) h
 |.bl b,h=>.ok (.int (if b then 1 else 0)) h
 |_,_=>.bad
noncomputable def PJ(x:D)(h:Hh):Rs D:=match dY x h with
 |some l=>.ok (.int l.length) h
 |none=>match x with
  |.str z=>if z.length<=sizeLine then .ok (.int z.length) h else .bad
  |x=>match iS h x with
   |some l=>.ok (.int l.length) h
   |none=>.bad
noncomputable def xW:List D->Option (List Bool)
 | []=>some []
 |.bl b::r=>(xW r).map (b:: ·)
 |_::_=>none
noncomputable def CO(x:D)(h:Hh):Rs D:=match eB x h,dY x h with
 |true,some l=>match xW l with
  |some bs=>.ok (.bl (bs.all id)) h
  |none=>.bad
 |_,_=>.bad
noncomputable def OH(x:D)(h:Hh):Rs D:=match x with
 |.ref n=>match h[n]? with
  |some (.lst l)=>.ok .non (h.set n (.lst l.reverse))
  |_=>.bad
 |_=>.bad
noncomputable def HP(x:D)(h:Hh):Rs D:=match dY x h with
 |some l=>.ok (.ref h.length) (h++ [.lst l])
 |none=>.bad
noncomputable def jZ(s:Str)(x:D)(h:Hh):Rs D:=match eB x h,dY x h with
 |true,some l=>match lJ l with
  |some xs=>if(xs.map (·.length)).sum+xs.length*s.length<=100000 then .ok (.str (Txt.join s xs)) h else .bad
  |none=>.bad
 |_,_=>.bad
noncomputable def JQ(x y:D)(h:Hh):Rs D:=match x,y with
 |.tup l,.int i=>if 0<=i/\i<(l.length:Int) then .ok (.tup (l.take i.toNat)) h else .bad
 |_,_=>.bad
noncomputable def JR(x y:D)(h:Hh):Rs D:=match x,y with
 |.str z,.int i=>if 0<=i/\z.length<=1000 then .ok (.str ⟨(z.cps.toList.take i.toNat).toArray⟩) h else .bad
 |_,_=>.bad
noncomputable def JP(x y:D)(h:Hh):Rs D:=match x,y with
 |.str z,.int i=>if 0<=i/\z.length<=1000 then .ok (.str ⟨(z.cps.toList.drop i.toNat).toArray⟩) h else .bad
 |_,_=>.bad
noncomputable def yW(x y:D)(h:Hh):Rs D:=match eB x h,dY x h,y with
 |true,some l,.int i=>if 0<=i then .ok (.ref h.length) (h++ [.lst (l.take i.toNat)]) else .bad
 |_,_,_=>.bad
noncomputable def yY(x y:D)(h:Hh):Rs D:=match eB x h,dY x h,y with
 |true,some l,.int i=>if 0<=i then .ok (.ref h.length) (h++ [.lst (l.drop i.toNat)]) else .ok (.ref h.length) (h++ [.lst (l.drop (l.length-i.natAbs))])
 |_,_,_=>.bad
noncomputable def sE(x:D)(h:Hh):Rs D:=match eB x h,dY x h with
 |true,some l=>.ok (.tup l) h
 |_,_=>.bad
noncomputable def one(k:D->Hh->Rs D):List D->Hh->Rs D
 | [x],h=>k x h
 |_,_=>.bad
noncomputable def two(k:D->D->Hh->Rs D):List D->Hh->Rs D
 | [x,y],h=>k x y h
 |_,_=>.bad
noncomputable def AK:List D->Option (List Int)
 | []=>some []
 |.int i::r=>(AK r).map (i:: ·)
 |_::_=>none
noncomputable def UK(l:List (List Int×D))(k:List Int)(v:D):List (List Int×D):=if l.any (λkv=>decide (kv.1=k)) then l.map (λkv=>if kv.1=k then(kv.1,v) else kv) else l++ [(k,v)]
noncomputable def IM(n:Nat)(l:List (List Int×D))(y z:D)(h:Hh):Rs Unit:=match y with
 |.tup ks=>match AK ks with
  |some k=>if l.length<1000 then .ok () (h.set n (.dtt (UK l k z))) else .bad
  |none=>.bad
 |_=>.bad
noncomputable def UQ(a:Int)(l:List Int):Int:=l.foldl (λm x=>if x>m then x else m) a
noncomputable def UP(a:Int)(l:List Int):Int:=l.foldl (λm x=>if x<m then x else m) a
noncomputable def IS(mx:Bool):Int->List Int->Int:=if mx then UQ else UP
noncomputable def vW(mx:Bool):List D->Hh->Rs D
 | [x,y],h=>match x,y with
   |.int i,.int j=>.ok (.int (IS mx i [j])) h
   |_,_=>.bad
 |_,_=>.bad
noncomputable def IT(mx:Bool)(x d:D)(h:Hh):Rs D:=match eB x h,dY x h with
 |true,some l=>match AK l with
  |some (i::r)=>.ok (.int (IS mx i r)) h
  |some []=>.ok d h
  |none=>.bad
 |_,_=>.bad
noncomputable def PF(x:D)(h:Hh):Rs D:=match x with
 |.int j=>if -(2^62)<=j/\j<=1000 then .ok (.ref h.length) (h++ [.lst (cQ 0 j)]) else .bad
 |_=>.bad
noncomputable def rL(ks:List Str)(ds:List D)(n:Nat)(h:Hh):Rs D:=match h[n]? with
 |some (.dct [])=>if ds.length=ks.length/\ks.Nodup/\ks.length<=15 then .ok (.ref n) (h.set n (.dct ((ks.map Sum.inr).zip ds))) else .bad
 |_=>.bad
noncomputable def gI:Blt->List D->Hh->Rs D
 |.len=>one PJ
 |.isinst=>two cD
 |.int=>one VI
 |.list=>one HP
 |.max=>vW true
 |.min=>vW false
 |.sorted=>λ_ _=>.bad
 |.all=>one CO
 |.tup=>one sE
 |.zip=>λ_ _=>.bad
noncomputable def eM(x y:D)(h:Hh):Rs D:=match x with
 |.ref n=>match h[n]? with
  |some (.lst l)=>if l.length<1000000 then .ok .non (h.set n (.lst (l++ [y]))) else .bad
  |_=>.bad
 |_=>.bad
noncomputable def PN(x y z:D)(h:Hh):Rs D:=match x,y with
 |.ref n,.int i=>match h[n]? with
  |some (.lst l)=>if 0<=i/\i<=(l.length:Int)/\l.length<1000000 then .ok .non (h.set n (.lst (l.take i.toNat++z::l.drop i.toNat))) else .bad
  |_=>.bad
 |_,_=>.bad
noncomputable def nE(x:D)(h:Hh):Rs D:=match x with
 |.int i=>if i.natAbs.log2<1920 then .ok (.str (toString i)) h else .bad
 |.str z=>if z.length<=100000 then .ok (.str z) h else .bad
 |_=>.bad
noncomputable def QN:List Str->Str
 | []=>Str.empty
 |x::l=>x++QN l
noncomputable def PZ(l:List D)(h:Hh):Rs D:=match lJ l with
 |some xs=>if(xs.map (·.length)).sum<=100000 then .ok (.str (QN xs)) h else .bad
 |none=>.bad
noncomputable def DG(c:Str)(x:D)(h:Hh):Rs D:=match x with
 |.str z=>if z.length<=100000/\c.length=1 then .ok (.ref h.length) (h++ [.lst ((Txt.split z c).map D.str)]) else .bad
 |_=>.bad
noncomputable def DE(c:Str)(x:D)(h:Hh):Rs D:=match x with
 |.str z=>.ok (.bl (Txt.startswith z c)) h
 |_=>.bad
noncomputable def DN(x y:D)(h:Hh):Rs D:=match x,y with
 |.str z,.int i=>if 0<=i/\i<=1000/\z.length<=1000 then .ok (.str ⟨(List.replicate i.toNat z.cps.toList).flatten.toArray⟩) h else .bad
 |_,_=>.bad
noncomputable def EU(x:D)(h:Hh):Rs D:=match x with
 |.str z=>if z.length<=640 then(match intText? z with
  |some i=>.ok (.int i) h
  |none=>.bad) else .bad
 |_=>.bad
noncomputable def cN(t:Tg)(cs:Ev->Hh->Rs Bool)(f:Ev->Hh->Rs D)(n0:Nat):List D->Ev->Hh->Rs Unit
 | [],_,h=>.ok () h
 |d::ds,r,h=>match dO t d r with
  |none=>.bad
  |some r1=>(cs r1 h).bind λb h=>if b=true then(f r1 h).bind λy h=>(eM (.ref n0) y h).bind λ_ h=>cN t cs f n0 ds r1 h else cN t cs f n0 ds r1 h
noncomputable def cO(t:Tg)(cs:Ev->Hh->Rs Bool)(f:Ev->Hh->Rs D)(n0 n:Nat):Nat->Nat->Ev->Hh->Rs Unit
 |0,_,_,_=>.bad
 |k+1,i,r,h=>match aK h n with
  |none=>.bad
  |some l=>match l[i]? with
   |none=>.ok () h
   |some d=>match dO t d r with
    |none=>.bad
    |some r1=>(cs r1 h).bind λb h=>if b=true then(f r1 h).bind λy h=>(eM (.ref n0) y h).bind λ_ h=>cO t cs f n0 n k (i+1) r1 h else cO t cs f n0 n k (i+1) r1 h
noncomputable def dR(t:Tg)(cs:Ev->Hh->Rs Bool)(f:Ev->Hh->Rs D)(n0 n:Nat):Nat->List D->Ev->Hh->Rs Unit
 |i,ks,r,h=>match ks with
  | []=>(match aK h n with
    |some l=>if l.length<=i then .ok () h else .bad
    |none=>.bad)
  |k::ks=>match aK h n with
   |none=>.bad
   |some l=>match l[i]? with
    |none=>.bad
    |some d=>match dO t (.tup [d,k]) r with
     |none=>.bad
     |some r1=>(cs r1 h).bind λb h=>if b=true then(f r1 h).bind λy h=>(eM (.ref n0) y h).bind λ_ h=>dR t cs f n0 n (i+1) ks r1 h else dR t cs f n0 n (i+1) ks r1 h
noncomputable def dC(t:Tg)(cs:Ev->Hh->Rs Bool)(f:Ev->Hh->Rs D)(n0:Nat)(k:Ck)(xs:List D)(h0:Hh)(r:Ev)(h:Hh):Rs Unit:=match k,xs with
 |.r1,[.int j]=>if nB j then cN t cs f n0 (cQ 0 j) r h else .bad
 |.r2,[.int i,.int j]=>if nB i/\nB j then cN t cs f n0 (cQ i j) r h else .bad
 |.st,[.str x]=>if x.length<=1000 then cN t cs f n0 (x.cps.toList.map λc=>D.str ⟨#[c]⟩) r h else .bad
 |.itf,[.ref n]=>match h0[n]? with
  |some (.dtf l)=>cN t cs f n0 (l.map λp=>D.tup [.tup (p.1.map D.int),p.2]) r h
  |_=>.bad
 |.its,[.ref n]=>match h0[n]? with
  |some (.dtt l)=>cN t cs f n0 (l.map λp=>D.tup [.tup (p.1.map D.int),p.2]) r (h.set n .ded)
  |_=>.bad
 |.sq,[.tup l]=>cN t cs f n0 l r h
 |.zp,[.ref n,.tup l]=>dR t cs f n0 n 0 l r h
 |.sq,[.ref n]=>match aK h0 n with
  |some l=>cO t cs f n0 n (l.length+1) 0 r h
  |none=>.bad
 |_,_=>.bad
noncomputable def dcS(t2:Tg)(fk fv:Ev->Hh->Rs D)(n0:Nat):List D->Ev->Hh->Rs Ev
 | [],r,h=>.ok r h
 |d::ds,r,h=>match dO t2 d r with
  |none=>.bad
  |some r1=>(fk r1 h).bind λy h=>(fv r1 h).bind λz h=>(IN n0 y z h).bind λ_ h=>dcS t2 fk fv n0 ds r1 h
noncomputable def dcI(t1:Tg)(fi:Ev->Hh->Rs D)(t2:Tg)(fk fv:Ev->Hh->Rs D)(n0 n:Nat):Nat->Nat->Ev->Hh->Rs Unit
 |0,_,_,_=>.bad
 |k+1,i,r,h=>match aK h n with
  |none=>.bad
  |some l=>match l[i]? with
   |none=>.ok () h
   |some d=>match dO t1 d r with
    |none=>.bad
    |some r1=>(fi r1 h).bind λy h=>match y with
     |.tup ds=>(dcS t2 fk fv n0 ds r1 h).bind λr2 h=>dcI t1 fi t2 fk fv n0 n k (i+1) r2 h
     |_=>.bad
noncomputable def dcL(t1:Tg)(fi:Ev->Hh->Rs D)(t2:Tg)(fk fv:Ev->Hh->Rs D)(x:D)(r:Ev)(h:Hh):Rs D:=match x with
 |.ref n=>match aK h n with
  |some l=>(dcI t1 fi t2 fk fv h.length n (l.length+1) 0 r (h++ [.dct []])).bind λ_ h'=>.ok (.ref h.length) h'
  |none=>.bad
 |_=>.bad
noncomputable def QI(n:Nat)(y z:D)(h:Hh):Rs Unit:=match h[n]? with
 |some (.dtt l)=>IM n l y z h
 |_=>.bad
noncomputable def dtI(t:Tg)(fk fv:Ev->Hh->Rs D)(n0 n:Nat):Nat->Nat->Ev->Hh->Rs Unit
 |0,_,_,_=>.bad
 |k+1,i,r,h=>match aK h n with
  |none=>.bad
  |some l=>match l[i]? with
   |none=>.ok () h
   |some d=>match dO t d r with
    |none=>.bad
    |some r1=>(fk r1 h).bind λy h=>(fv r1 h).bind λz h=>(QI n0 y z h).bind λ_ h=>dtI t fk fv n0 n k (i+1) r1 h
noncomputable def dtZ(n:Nat)(h:Hh):Rs D:=match h[n]? with
 |some (.dtt l)=>.ok (.ref n) (h.set n (.dtf l))
 |_=>.bad
noncomputable def dtL(t:Tg)(fk fv:Ev->Hh->Rs D)(x:D)(r:Ev)(h:Hh):Rs D:=match x with
 |.ref n=>match aK h n with
  |some l=>(dtI t fk fv h.length n (l.length+1) 0 r (h++ [.dtt []])).bind λ_ h'=>dtZ h.length h'
  |none=>.bad
 |_=>.bad
noncomputable def CG(r:Ev)(i:Nat):Option D:=match r[i]? with
 |some x=>x
 |none=>none
noncomputable def aR(N:List Str)(cap:List Nat)(r:Ev):Ev:=List.replicate (N.length-cap.length) none++cap.map (CG r)
structure Gs where
 fns:List Str
 csts:List (Str×D)
 excs:List Str:= []
 sub:List (Nat×Nat):= []
 nsub:List (Nat×Nat):= []
 news:List (Str×Nat):= []
 meths:List (Str×Str×Nat):= []
 atts:List (Str×Str):= []
 inis:List Nat:= []
 sams:List Nat:= []
noncomputable abbrev Cl:=Nat->List D->Hh->Rs D
noncomputable def QP(cn:Str)(x:D)(f:Str)(h:Hh):Rs D:=match x with
 |.ref n=>match h[n]? with
  |some (.ins c fs)=>if c=cn then(match fs.lookup f with
   |some d=>.ok d h
   |none=>.bad) else .bad
  |_=>.bad
 |_=>.bad
noncomputable def HM(x:D)(cn m:Str)(h:Hh):Bool:=match x with
 |.ref n=>match h[n]? with
  |some (.ins c fs)=>decide (c=cn)&&(fs.lookup m).isNone
  |_=>false
 |_=>false
noncomputable def OL(f:Str)(y:D):List (Str×D)->List (Str×D)
 | []=>[(f,y)]
 |(g,x)::r=>if g=f then(g,y)::r else(g,x)::OL f y r
noncomputable def OG(cn:Str)(x y:D)(f:Str)(h:Hh):Rs Unit:=match x with
 |.ref n=>match h[n]? with
  |some (.ins c fs)=>if c=cn/\fs.length<900 then .ok () (h.set n (.ins c (OL f y fs))) else .bad
  |_=>.bad
 |_=>.bad
noncomputable def EM(cn:Str)(f:List D->Hh->Rs D)(ds:List D)(h:Hh):Rs D:=(f (.ref h.length::ds) (h++ [.ins cn []])).bind λd h'=>match d with
 |.non=>.ok (.ref h.length) h'
 |_=>.bad
mutual
noncomputable def ev(G:Gs)(cl:Cl):E->Ev->Hh->Rs D
 |.var i,r,h=>match r[i]? with
  |some (some d)=>.ok d h
  |_=>.bad
 |.int i,_,h=>.ok (.int i) h
 |.bl b,_,h=>.ok (.bl b) h
 |.non,_,h=>.ok .non h
 |.str x,_,h=>.ok (.str x) h
 |.gc g,_,h=>match G.csts[g]? with
  |some p=>.ok p.2 h
  |none=>.bad
 |.ty t,_,h=>.ok (.ty t.nm) h
 |.bin op a b,r,h=>(ev G cl a r h).bind λx h=>(ev G cl b r h).bind λy h=>dB op x y h
 |.neg a,r,h=>(ev G cl a r h).bind λx h=>match x with
  |.int i=>.ok (.int (-i)) h
  |_=>.bad
 |.cmp op a b,r,h=>(ev G cl a r h).bind λx h=>(ev G cl b r h).bind λy h=>dN op x y h
 |.and a b,r,h=>(ev G cl a r h).bind λx h=>match eY x h with
  |some true=>ev G cl b r h
  |some false=>.ok x h
  |none=>.bad
 |.or a b,r,h=>(ev G cl a r h).bind λx h=>match eY x h with
  |some true=>.ok x h
  |some false=>ev G cl b r h
  |none=>.bad
 |.not a,r,h=>(ev G cl a r h).bind λx h=>match eY x h with
  |some b=>.ok (.bl (!b)) h
  |none=>.bad
 |.ite c a b,r,h=>(ev G cl c r h).bind λx h=>match eY x h with
  |some true=>ev G cl a r h
  |some false=>ev G cl b r h
  |none=>.bad
 |.ix a b,r,h=>(ev G cl a r h).bind λx h=>(ev G cl b r h).bind λy h=>kK x y h
 |.tup l,r,h=>(cM G cl l r h).bind λds h=>if ds.length<=1000 then .ok (.tup ds) h else .bad
 |.lst l,r,h=>(cM G cl l r h).bind λds h=>if ds.length<=1000 then .ok (.ref h.length) (h++ [.lst ds]) else .bad
 |.call f l,r,h=>(cM G cl l r h).bind λds h=>(cl f ds h).nx
 |.blt f l,r,h=>(cM G cl l r h).bind λds h=>gI f ds h
 |.app o e,r,h=>(ev G cl o r h).bind λx h=>if eB x h=true then(ev G cl e r h).bind λy h=>eM x y h else .bad
 |.ins o i e,r,h=>(ev G cl o r h).bind λx h=>if eB x h=true then(ev G cl i r h).bind λy h=>(ev G cl e r h).bind λz h=>PN x y z h else .bad
 |.mxd mx l d,r,h=>(ev G cl l r h).bind λx h=>(ev G cl d r h).bind λy h=>IT mx x y h
 |.lrg e,r,h=>(ev G cl e r h).bind λx h=>PF x h
 |.disp ks vs,r,h=>(cM G cl vs r (h++ [.dct []])).bind λds h'=>rL ks ds h.length h'
 |.dnw,_,h=>.ok (.ref h.length) (h++ [.dct []])
 |.slU a b,r,h=>(ev G cl a r h).bind λx h=>(ev G cl b r h).bind λy h=>yW x y h
 |.slL a b,r,h=>(ev G cl a r h).bind λx h=>(ev G cl b r h).bind λy h=>yY x y h
 |.att o cn f,r,h=>(ev G cl o r h).bind λx h=>QP cn x f h
 |.new cn f l,r,h=>(cM G cl l r h).bind λds h=>(EM cn (cl f) ds h).nx
 |.slA a b,r,h=>(ev G cl a r h).bind λx h=>(ev G cl b r h).bind λy h=>JR x y h
 |.slZ a b,r,h=>(ev G cl a r h).bind λx h=>(ev G cl b r h).bind λy h=>JP x y h
 |.slT a b,r,h=>(ev G cl a r h).bind λx h=>(ev G cl b r h).bind λy h=>JQ x y h
 |.mth o cn m f l,r,h=>(ev G cl o r h).bind λx h=>if HM x cn m h=true then(cM G cl l r h).bind λds h=>(cl f (x::ds) h).nx else .bad
 |.chn op op' a b c,r,h=>(ev G cl a r h).bind λx h=>(ev G cl b r h).bind λy h=>(dN op x y h).bind λp h=>match p with
  |.bl true=>(ev G cl c r h).bind λz h=>dN op' y z h
  |.bl false=>.ok (.bl false) h
  |_=>.bad
 |.rev o,r,h=>(ev G cl o r h).bind λx h=>OH x h
 |.dcT t i k v N cap,r,h=>(ev G cl i r h).bind λx h=>dtL t (ev G cl k) (ev G cl v) x (aR N cap r) h
 |.dnt,_,h=>.ok (.ref h.length) (h++ [.dtt []])
 |.get2 o k d,r,h=>(ev G cl o r h).bind λx h=>if(eU h x).isSome=true then(ev G cl k r h).bind λy h=>(ev G cl d r h).bind λz h=>PX x y z h else .bad
 |.join s e,r,h=>(ev G cl e r h).bind λx h=>jZ s x h
 |.fst l,r,h=>(cM G cl l r h).bind λds h=>PZ ds h
 |.fmt a,r,h=>(ev G cl a r h).bind λx h=>nE x h
 |.sof a,r,h=>(ev G cl a r h).bind λx h=>nE x h
 |.itx a,r,h=>(ev G cl a r h).bind λx h=>EU x h
 |.spl o c,r,h=>(ev G cl o r h).bind λx h=>DG c x h
 |.stw o c,r,h=>(ev G cl o r h).bind λx h=>DE c x h
 |.rep a b,r,h=>(ev G cl a r h).bind λx h=>(ev G cl b r h).bind λy h=>DN x y h
 |.dcomp t1 i1 t2 i2 k v N cap,r,h=>(ev G cl i1 r h).bind λx h=>dcL t1 (ev G cl i2) t2 (ev G cl k) (ev G cl v) x (aR N cap r) h
 |.comp t k it cs e N cap,r,h=>(cM G cl it r h).bind λxs h=>(dC t (kG G cl cs) (ev G cl e) h.length k xs h (aR N cap r) (h++ [.lst []])).bind λ_ h'=>.ok (.ref h.length) h'
noncomputable def kG(G:Gs)(cl:Cl):Es->Ev->Hh->Rs Bool
 |.nil,_,h=>.ok true h
 |.cons c l,r,h=>(ev G cl c r h).bind λx h=>match eY x h with
  |some true=>kG G cl l r h
  |some false=>.ok false h
  |none=>.bad
noncomputable def cM(G:Gs)(cl:Cl):Es->Ev->Hh->Rs (List D)
 |.nil,_,h=>.ok [] h
 |.cons e l,r,h=>(ev G cl e r h).bind λd h=>(cM G cl l r h).bind λds h=>.ok (d::ds) h
end
noncomputable def rV(sc:Scope)(x:Str):Bool:=match sc.names.lookup x with
 |some .local=>true
 |some .cell=>true
 |some .free=>true
 |_=>false
noncomputable def fN(sc:Scope)(x:Str):Bool:=match sc.names.lookup x with
 |some .local=>true
 |some .cell=>true
 |_=>false
noncomputable def gG(sc:Scope)(x:Str):Bool:=match sc.names.lookup x with
 |some .globalImplicit=>true
 |_=>false
noncomputable def dP(x:Str):Bool:= !(x==("__debug__":Str))&& !(x==("__classdict__":Str))&& !(x==("__name__":Str))
noncomputable def Bop.op:Bop->Operator
 |.add=>.Add|.sub=>.Sub|.mul=>.Mult|.fdiv=>.FloorDiv|.mod=>.Mod|.pow=>.Pow
noncomputable def Cop.op:Cop->CmpOp
 |.lt=>.Lt|.le=>.LtE|.gt=>.Gt|.ge=>.GtE|.eq=>.Eq|.ne=>.NotEq|.is=>.Is|.isnot=>.IsNot|.inn=>.In|.notin=>.NotIn
noncomputable def Blt.nm:Blt->Str
 |.len=>"len"|.isinst=>"isinstance"|.int=>"int"|.list=>"list"|.max=>"max"|.min=>"min"|.sorted=>"sorted"|.all=>"all"|.tup=>"tuple"|.zip=>"zip"
noncomputable def gU:List Str->List (Option Expr)->Bool
 | [],[]=>true
 |x::xs,some (.Constant (.str y) _ _)::es=>x==y&&gU xs es
 |_,_=>false
noncomputable def nR:Expr->Bool
 |.Set _ _ _=>false
 |_=>true
noncomputable def cX:Expr->Bool
 |.Starred _ _=>false
 |_=>true
noncomputable def eI(scope sc:Scope):Scope:={scope with names:=scope.names.map λ(n,k)=>if(k== .free&&sc.kind== .function&&sc.names.lookup n==some .cell) then(n,.cell) else(n,k)}
noncomputable def mT(N:List Str)(sc:Scope):List Nat->List Expr->Bool
 | [],[]=>true
 |i::is,.Name x _::es=>N[i]? ==some x&&fN sc x&&mT N sc is es
 |_,_=>false
noncomputable def mR(N:List Str)(sc:Scope):Tg->Expr->Bool
 |.nm i,.Name x _=>N[i]? ==some x&&fN sc x
 |.tp l,.Tuple es _ _=>mT N sc l es
 |_,_=>false
noncomputable def lX:List Str->Bool
 | []=>true
 |x::l=> !l.contains x&&lX l
noncomputable def JS(scope sc:Scope):Bool:=scope.kind== .function&&sc.kind== .function&&lX (scope.names.map (·.1))&&scope.names.all λp=>(!(p.2== .local)||scope.names.lookup p.1==some .local)&&(!(p.2== .free)||sc.names.lookup p.1==some .cell)
noncomputable def IR(N N':List Str)(cap:List Nat)(scope:Scope):Bool:=decide (cap.length<=N'.length)&&(N'.drop (N'.length-cap.length)).map some==cap.map (λ(i:Nat)=>N[i]?)&&(N'.drop (N'.length-cap.length)).all λx=>scope.names.lookup x==some .free
section
variable {prog:Program}{w:World}{A:Around}{E:Value->Shared->Prop}{s:Shared}{it d:Addr}{i n ep:Nat}{q1 q2:Value}{od:Obj}{es:Array DictEntry}
end
theorem BF(P P':Program)(w w':World):entryOfKey (tupleKind (intKind P w))=entryOfKey (tupleKind (intKind P' w')):=rfl
theorem AF{P:Program}{w:World}:∀{ks:List Int}{us:List Value},Vals (ks.map V.int) us->ItemsAre (intKind P w) ks us
 | [],_,.nil=>.nil
 |k::ks,_,.cons h t=>by
  obtain⟨tk,rfl⟩:=h;exact .cons (by show Value.isInt k (.int k tk)=true;simp[Value.isInt]) (AF t)
section
variable {X:Cx}{pins:List (Addr×Obj)}{σ:Sg}{H:Hp}{s:Shared}
theorem LI(I:Inv X pins σ H s){b:Addr}{k:List Int}(h:SqT X.K H b (k.map V.int)):(tupleKind (intKind X.prog X.w)).is s.heap k b:=by
 obtain⟨its,p,t,_⟩:=I.tuple h;obtain⟨o,h1,h2,n,h3⟩:=t;exact⟨o,its.toArray,n,h1,h2,h3,by simpa using AF p⟩
theorem xZ{xs:List (List Int×Addr×Value)}{k:List Int}:(atKey xs k).isSome=xs.any λx=>decide (x.1=k):=by
 induction xs with
 |nil=>rfl
 |cons x xs ih=>
  by_cases e:x.1=k
  ·simp[atKey,List.find?_cons,e]
  ·have:atKey (x::xs) k=atKey xs k:=by simp[atKey,List.find?_cons,e]
   rw[this,ih];simp[e]
theorem tT{α:Type}{l:List (List Int×α)}{xs:List (List Int×Addr×Value)}{k:List Int}(h:l.map (·.1)=xs.map (·.1)):l.any (λkv=>decide (kv.1=k))=xs.any λx=>decide (x.1=k):=by
 have a:l.any (λkv=>decide (kv.1=k))=(l.map (·.1)).any λy=>decide (y=k):=by rw[List.any_map];rfl
 have b:(xs.any λx=>decide (x.1=k))=(xs.map (·.1)).any λy=>decide (y=k):=by rw[List.any_map];rfl
 rw[a,b,h]
theorem pY(k:List Int):∀l:List (List Int×D),(wA l k).isSome=l.any λkv=>decide (kv.1=k)
 | []=>rfl
 |p::l=>by
  have ih:=pY k l;unfold wA at ih⊢;rw[List.find?_cons,List.any_cons]
  by_cases e:p.1=k
  ·rw[decide_eq_true e];rfl
  ·rw[decide_eq_false e];simpa using ih
theorem pX{K:W.Frag}{m:List Addr}{k:List Int}{d:D}:∀{ds:List (List Int×D)}{xs:List (List Int×Addr×Value)}{us:List V},ds.map (·.1)=xs.map (·.1)->RDs K m H (ds.map (·.2)) us->Vals us (xs.map (·.2.2))->wA ds k=some d->∃v p,RD K m H d v/\atKey xs k=some p/\RelV v p.2
 | [],_,_,_,_,_,e=>by cases e
 |_::_,[],_,h,_,_,_=>by cases h
 |q::ds,x::xs,us,h,r,p,e=>by
  cases r with
  |cons r1 r=>
   cases p with
   |cons p1 p=>
    obtain⟨h1,h2⟩:=List.cons.inj (show q.1::ds.map (·.1)=x.1::xs.map (·.1) from h);unfold wA at e;rw[List.find?_cons] at e
    by_cases z:q.1=k
    ·rw[decide_eq_true z] at e;have e':q.2=d:=Zg e;subst e';have z':x.1=k:=by rw[<- h1];exact z
     exact⟨_,x.2,r1,by simp[atKey,List.find?_cons,z'],p1⟩
    ·rw[decide_eq_false z] at e;have z':¬x.1=k:=by rw[<- h1];exact z
     have:atKey (x::xs) k=atKey xs k:=by simp[atKey,List.find?_cons,z']
     rw[this];exact pX h2 r p e
theorem jK{K:W.Frag}{m:List Addr}:∀{ds:List D}{vs:List V}{l:List Int},RDs K m H ds vs->rA ds=some l->vs=l.map V.int
 |_,_,_,.nil,e=>by cases e;rfl
 |_,_,_,.cons r t,e=>by
  cases r<;>first |(cases e;done)|skip
  simp only[rA,Option.map_eq_some_iff] at e;obtain⟨l',e1,rfl⟩:=e;rw[jK t e1];rfl
theorem tK(I:Inv X pins σ H s){m:List Addr}{h:Hh}(w:Wd X.K m h H){x:D}{v:V}{l:List (List Int×D)}(r:RD X.K m H x v)(e:iS h x=some l):
 ∃n a xs us o es ep,x=.ref n/\v=.ref a/\h[n]? =some (.dtf l)/\m[n]? =some a/\H a=some (.frz o (.own a))/\Dfo a xs o es ep/\s.heap.get? a=some o/\l.map (·.1)=xs.map (·.1)/\(∀x∈xs,SqT X.K H x.2.1 (x.1.map V.int))/\RDs X.K m H (l.map (·.2)) us/\Vals us (xs.map (·.2.2))/\s.heap.DictOfH (tupleKind (intKind X.prog X.w)) a xs:=by
 cases r<;>first |(cases e;done)|skip
 rename_i n a ha;simp only[iS] at e;split at e
 ·rename_i l' el;cases e;obtain⟨xs,us,o,es,ep,q1,q2,q3,q4,q5,q6⟩:RO X.K m H a (.dtf l):=w.ob n _ a el ha;have go:s.heap.get? a=some o:=(show ObjOk X.prog X.w H s.heap a (.frz o (.own a)) from I.hok a _ q1).1;obtain⟨d1,d2,d3,d4,⟨P,w',d5⟩,d6⟩:=id q2;exact⟨n,a,xs,us,o,es,ep,rfl,rfl,el,ha,q1,q2,go,q3,q4,q5,q6,o,es,ep,go,d3,d4,d5.trans (by rw[BF P X.prog w' X.w]),λx hx=>LI I (q4 x hx),d6⟩
 ·cases e
theorem sS{prog:Program}{w:World}(d:Addr)(hd:(d==sysModules)=false):MeetsIn prog w (Builtin.«dict.__len__» ⟨[.ref d],[]⟩) (λ_ R s=>∃o es ep,s.heap.get? d=some o/\o.data=.dict es ep/\R (.ok (.ret (.int es.size s.toks))) {s with toks:=s.toks+1}):=
 .of_wp λA R s ⟨o,es,ep,ho,hdat,h⟩=>by
  show wpAny _ _ (dictSize d>>=_) _ _ s;unfold dictSize;refine Za (Za (wpAny_dictEntries ho hdat (Zb ?_)));show wpAny _ _ (Builtin.Dict.pendingCount d>>=_) _ _ s;refine Za (wpAny_pendingCount_other hd (wpAny_ret_mkInt ?_));rw[Nat.add_zero];exact h
theorem xV{prog:Program}{w:World}{A:Around}{E:Value->Shared->Prop}{s:Shared}{d:Addr}{o:Obj}{es:Array DictEntry}{ep:Nat}{Q:Value->Shared->Prop}(hd:(d==sysModules)=false)(ho:s.heap.get? d=some o)(hx:o.ExactDict)(hdat:o.data=.dict es ep)(hfit:(es.size:Int)<2^63)
 (h:Q (.int es.size (s.toks+1)) {s with toks:=s.toks+1+1}):wpAny (model prog w) A (call (.builtin "len") [.ref d]) Q E s:=by
 have ty:s.TypeIs (.ref d) "dict":=⟨o,ho,hx.1⟩;refine Calls.call_function_entry kind_len plain_len entry_len (args_len1 _) ?_;unfold Builtin.«len»;refine Za (m:=oneArg "len" _) (Zb ?_);refine Za (m:=callSpecial? (.ref d) (Str.ofString "__len__")) (wpAny_callSpecial?_slot (name:=Str.ofString "__len__") ty F.slot_dict_len (call_meetsIn F.slot_dict_len ty F.entry_dict_len (F.args_dict_len_1 _) (sS d hd) ⟨o,es,ep,ho,hdat,?_⟩));show wpAny _ _ _ _ _ {s with toks:=s.toks+1};refine Za (wpAny_holding (Zb (Za (wpAny_letGo ?_))));show wpAny _ _ (if((es.size:Nat):Int)<0 then _ else _) _ _ _;rw[if_neg (by omega)];show wpAny _ _ (if((es.size:Nat):Int) ≥ 2^63 then _ else _) _ _ _;rw[if_neg (by omega)];exact Za (wpAny_mkInt (Zb ⟨_,rfl,h⟩))
end
inductive CT (A:Around) (s:Shared) (x:Value):List Value->Bool->Prop where
 |nil:CT A s x [] false
 |hit {y:Value} {ys:List Value} (h:SeqAt.EqAt A s y x true):CT A s x (y::ys) true
 |mis {y:Value} {ys:List Value} {b:Bool} (h:SeqAt.EqAt A s y x false) (r:CT A s x ys b):CT A s x (y::ys) b
section
open PySem.SeqAt
open PySem.AutoSeq1 (wpAny_loadPart')
open PySem.MeetsSeq PySem.MeetsSeq2 PySem.MeetsSeq3
theorem GA(l:Addr)(items:Array Value)(n:Nat)(dd:Option Addr)(sl:Array (Option Value))(x:Value){b:Bool}:∀(m i:Nat),items.size-i=m->Meets (Builtin.«list.__contains__.loop» ⟨[.ref l,x,rawInt i],[]⟩)
 (λA R s=>s.heap.get? l=some {cls:=.type "list",dict:=dd,data:=.seq items n,slots:=sl}/\CT A.in1 s x (items.toList.drop i) b/\R (.ok (.ret (.bool b))) s):=by
 intro m
 induction m with
 |zero=>
  intro i hk prog w A R s h;obtain⟨hp,g,d,tk,os⟩:=s;obtain⟨hl,hf,h⟩:=h
  wp_walk using wpAny_loadPart' hl
  have hi:items[((i:Nat):Int).toNat]? =none:=by simp;omega
  have hd:items.toList.drop i=[]:=by simp;omega
  rw[hd] at hf;cases hf;rw[hi]
  wp_walk
  exact h
 |succ m ih=>
  intro i hk prog w A R s h;obtain⟨hp,g,d,tk,os⟩:=s;obtain⟨hl,hf,h⟩:=h;have lt:i<items.size:=by omega
  have d1:items.toList.drop i=items[i]::items.toList.drop (i+1):=by rw[List.drop_eq_getElem_cons (by simpa using lt)];simp
  have hi:items[((i:Nat):Int).toNat]? =some items[i]:=by simp[lt]
  have hc:((i:Int)+1)=((i+1:Nat):Int):=by push_cast;rfl
  wp_walk using wpAny_loadPart' hl
  rw[hi];rw[d1] at hf;cases hf with
  |hit he=>
   refine Za (he prog w _ _ ?_)
   wp_walk
   exact h
  |mis he r=>
   refine Za (he prog w _ _ ?_)
   wp_walk
   rw[hc]
   exact⟨plainId_quiet plain_contains_loop _,codeAny_builtin entry_contains_loop (by
    rw[Around.under_plainId plain_contains_loop _];exact ih (i+1) (by omega) prog w A R _ ⟨hl,r,h⟩)⟩
theorem GB(l:Addr)(items:Array Value)(n:Nat)(dd:Option Addr)(sl:Array (Option Value))(x:Value){b:Bool}:Meets (Builtin.«list.__contains__» ⟨[.ref l,x],[]⟩)
 (λA R s=>s.heap.get? l=some {cls:=.type "list",dict:=dd,data:=.seq items n,slots:=sl}/\CT A.in1 s x items.toList b/\R (.ok (.ret (.bool b))) s):=by
 intro prog w A R s h;obtain⟨hp,g,d,tk,os⟩:=s;obtain⟨hl,hf,h⟩:=h
 wp_walk using wpAny_loadPart' hl
 exact⟨plainId_quiet plain_contains_loop _,codeAny_builtin entry_contains_loop (by
  rw[Around.under_plainId plain_contains_loop _];exact GA l items n dd sl x _ 0 rfl prog w A R _ ⟨hl,by simpa using hf,h⟩)⟩
end
def TDE(K:W.Frag)(f:Ev->Hh->Rs D):TE:=λs H Q=>∃m r h d h',Wd K m h H/\RSt K m H r s/\f r h=.ok d h'/\
 ∀m' v H',Gr K m H m' H'->Wd K m' h' H'->RD K m' H' d v->Q v H'
def QR(K:W.Frag)(f:Ev->Hh->Rs D):TT:=λs H Q=>∃m r h d h' b,Wd K m h H/\RSt K m H r s/\f r h=.ok d h'/\eY d h'=some b/\
 ∀m' H',Gr K m H m' H'->Wd K m' h' H'->Q b H'
noncomputable def WQ(K:W.Frag)(f:Ev->Hh->Rs (List D)):TA:=λs H Q=>∃m r h ds h',Wd K m h H/\RSt K m H r s/\f r h=.ok ds h'/\
 ∀m' vs H',Gr K m H m' H'->Wd K m' h' H'->RDs K m' H' ds vs->Q vs H'
noncomputable def rD(K:W.Frag)(k:D->D->Hh->Rs D):R2:=λx y H Q=>∃m h dx dy d h',Wd K m h H/\RD K m H dx x/\RD K m H dy y/\k dx dy h=.ok d h'/\
 ∀m' v H',Gr K m H m' H'->Wd K m' h' H'->RD K m' H' d v->Q v H'
noncomputable def JW(K:W.Frag)(k:List D->Hh->Rs D):List V->Hp->VK->Prop:=λxs H Q=>∃m h ds d h',Wd K m h H/\RDs K m H ds xs/\k ds h=.ok d h'/\
 ∀m' v H',Gr K m H m' H'->Wd K m' h' H'->RD K m' H' d v->Q v H'
theorem _root_.L2.PE.wk{X:Cx}{e:Expr}{t t':TE}(h:PE X e t)(i:∀s H Q,t' s H Q->t s H Q):PE X e t':=λpins s σ H Q I q=>h pins s σ H Q I (i _ _ _ q)
theorem _root_.L2.PT.wk{X:Cx}{e:Expr}{t t':TT}(h:PT X e t)(i:∀s H Q,t' s H Q->t s H Q):PT X e t':=λpins s σ H Q I q=>h pins s σ H Q I (i _ _ _ q)
theorem _root_.L2.PA.wk{X:Cx}{e:List Expr}{t t':TA}(h:PA X e t)(i:∀s H Q,t' s H Q->t s H Q):PA X e t':=λpos pins s σ H Q I q=>h pos pins s σ H Q I (i _ _ _ q)
theorem TDE.two{K:W.Frag}{fa fb:Ev->Hh->Rs D}{k:D->D->Hh->Rs D}{s:Sg}{H:Hp}{R:V->V->Hp->Prop}{m:List Addr}{r:Ev}{h:Hh}{d:D}{h':Hh}(w:Wd K m h H)(st:RSt K m H r s)
 (e:((fa r h).bind λx h1=>(fb r h1).bind λy h2=>k x y h2)=.ok d h')
 (c:∀m2 H2 h2 dx dy x y,Gr K m H m2 H2->Wd K m2 h2 H2->RD K m2 H2 dx x->RD K m2 H2 dy y->k dx dy h2=.ok d h'->R x y H2):
 TDE K fa s H λx H1=>TDE K fb s H1 λy H2=>R x y H2:=by
 obtain⟨dx,h1,e1,e⟩:=Rs.bind_ok e;obtain⟨dy,h2,e2,e⟩:=Rs.bind_ok e;exact⟨m,r,h,dx,h1,w,st,e1,λm1 x H1 g1 w1 rx=>⟨m1,r,h1,dy,h2,w1,st.mono g1,e2,λm2 y H2 g2 w2 ry=>c m2 H2 h2 dx dy x y (g1.trans g2) w2 (rx.mono g2) ry e⟩⟩
theorem TDE.op{K:W.Frag}{fa fb f:Ev->Hh->Rs D}{k:D->D->Hh->Rs D}(hf:∀r h,f r h=(fa r h).bind λx h1=>(fb r h1).bind λy h2=>k x y h2)(s:Sg)(H:Hp)(Q:VK)(q:TDE K f s H Q):NS (rD K k) (TDE K fa) (TDE K fb) s H Q:=by
 obtain⟨m,r,h,d,h',w,st,e,c⟩:=q;rw[hf] at e;exact TDE.two w st e λm2 H2 h2 dx dy x y g w2 rx ry e=>⟨m2,h2,dx,dy,d,h',w2,rx,ry,e,λm' v H' g'=>c m' v H' (g.trans g')⟩
structure XOk (X:Cx)(N:List Str)(sc:Scope):Prop where
 n:X.N=N
 s:X.env.scope=sc
 calm:X.calm=true
 nd:X.N.Nodup
 room:∃k,Room k X.A
 rng:X.mg "range"=none
 po:PassesOwn (model X.prog X.w) X.A X.env X.xe
def DH(K:W.Frag)(ca:Nat->Addr)(f:List D->Hh->Rs D)(n:Nat):Sp:=λvs H Q E=>vs.length=n/\∃m h ds,Wd K m h H/\RDs K m H ds vs/\(match f ds h with
 |.ok d h'=>∀m' v H',Gr K m H m' H'->Wd K m' h' H'->RD K m' H' d v->Q v H'
 |.exc c _ h'=>∀m' H' v,Gr K m H m' H'->Wd K m' h' H'->E v (some (ca c)) H'
 |.bad=>False)
structure ExcF (K:W.Frag)(C:Addr):Prop where
 kp:W.keepIn K (.ref C)=true
 val:W.kitOne K (.ref C) (.type "ValueError")=some true
def lA(e C:Addr)(d:Option Addr)(h:Heap):Prop:=∃t0,h.get? e=some {cls:=.ref C,dict:=d,data:=rU t0}
noncomputable abbrev rowF:List (Str×V):= [("row",.int 0)]
def TM(C:Addr):Sp:=λvs H Q _=>∃e,vs=[.ref e,.int 0]/\H e=some (.ext (lA e C none))/\∀dx,H dx=none->dx≠e->Q .non (bV (bV H dx (.xd rowF)) e (.ext (lA e C (some dx))))
structure IniOk (P:Program)(w:World)(K:W.Frag)(mg:Str->Option Value)(base:Heap)(A:Around)(C:Addr):Prop where
 ex:∃fI fd ps k,FnOk P w K mg base (hR P w) k fI fd ps (TM C)/\Room (k+1) A/\Binds K fd ps []/\ps.length=2/\kF K C fI=true/\W.typeIn K (.ref fI)=some (.type "function")
 at_:ExcA K C "row"
def Gq(K:W.Frag)(H:Hp)(Q:Hp->Prop):Prop:=∃m h,Wd K m h H/\∀m' H',Gr K m H m' H'->Wd K m' h H'->Q H'
theorem Gq.here{K:W.Frag}{H:Hp}{Q:Hp->Prop}(q:Gq K H Q):Q H:=let⟨m,_,w,c⟩:=q;c m H .refl w
theorem Gq.seq{K:W.Frag}{H:Hp}{Q R:Hp->Prop}(q:Gq K H Q)(f:∀H',Gq K H' Q->R H'):Gq K H R:=let⟨m,h,w,c⟩:=q;⟨m,h,w,λm' H' g w'=>f H' ⟨m',h,w',λm2 H2 g2 w2=>c m2 H2 (g.trans g2) w2⟩⟩
def WX(P:Program)(w:World)(K:W.Frag)(mg:Str->Option Value)(base:Heap)(fa:Addr)(fd:FuncData)(ps:List Str):Prop:=∀(A:Around)(outer:List Env)(s:Shared)(H:Hp)(args:Args)(us:List Value)(Q:VK),Room 1 {A with handled:=none}->Env0 P w K mg base A outer s H->BindsTo s fd args (ps.zip us)->Vals [.int 0,.int 0] us->Gq K H (Q (.bl true))->
 codeAny (model P w) A (.call (.ref fa) args) (CR (hR P w) outer P w H s Q (λ_ _ _=>False)) s
structure COk (X:Cx)(G:Gs)(ca:Nat->Addr)(cl:Cl):Prop where
 att:∀p∈G.atts,∃C,W.nsIn X.K mainGlobals p.1=some (some (.ref C))/\Cls X.K C/\tY X.K C p.2
 meth:∀p∈G.meths,∃C fa fd ps k,W.nsIn X.K mainGlobals p.1=some (some (.ref C))/\Cls X.K C/\Meth X.K C p.2.1 fa/\FnOk X.prog X.w X.K X.mg X.base (hR X.prog X.w) k fa fd ps (DH X.K ca (cl p.2.2) ps.length)/\Room k X.A/\Binds X.K fd ps []/\∀ds h,cl p.2.2 ds h≠ .bad->ds.length=ps.length
 ini:∀c∈G.inis,IniOk X.prog X.w X.K X.mg X.base X.A (ca c)
 sam:∀f∈G.sams,∃x fa fd ps,G.fns[f]? =some x/\X.mg x=some (.ref fa)/\W.keepIn X.K (.ref fa)=true/\Binds X.K fd ps []/\ps.length=2/\WX X.prog X.w X.K X.mg X.base fa fd ps/\Room 1 X.A
 new:∀p∈G.news,∃C fa fd ps k,W.nsIn X.K mainGlobals p.1=some (some (.ref C))/\X.mg p.1=some (.ref C)/\Mk X.K C fa/\FnOk X.prog X.w X.K X.mg X.base (hR X.prog X.w) k fa fd ps (DH X.K ca (cl p.2) ps.length)/\Room (k+1) X.A/\Binds X.K fd ps []/\∀ds h,cl p.2 ds h≠ .bad->ds.length=ps.length
structure GOk (X:Cx)(G:Gs)(ca:Nat->Addr)(cl:Cl):Prop where
 fn:∀(f:Nat)(x:Str),G.fns[f]? =some x->∃fa fd ps k,FnOk X.prog X.w X.K X.mg X.base (hR X.prog X.w) k fa fd ps (DH X.K ca (cl f) ps.length)/\Room k X.A/\X.mg x=some (.ref fa)/\W.keepIn X.K (.ref fa)=true/\Binds X.K fd ps []/\∀ds h,cl f ds h≠ .bad->ds.length=ps.length
 cst:∀(g:Nat)(x:Str)(d:D),G.csts[g]? =some (x,d)->∃v u,X.mg x=some u/\RelV v u/\∀m H,RD X.K m H d v
 blt:∀f:Blt,X.mg f.nm=none
 ty:∀t:Ty,X.mg (Str.ofString t.nm)=none
 exc:∀(c:Nat)(x:Str),G.excs[c]? =some x->X.mg x=some (.ref (ca c))/\ExcF X.K (ca c)
 sub:∀p∈G.sub,W.exmOne X.K (.ref (ca p.1)) (.ref (ca p.2))=some true/\W.kitOne X.K (.ref (ca p.1)) (.ref (ca p.2))=some true/\ExcF X.K (ca p.1)
 nsub:∀p∈G.nsub,W.kitOne X.K (.ref (ca p.1)) (.ref (ca p.2))=some false/\ExcN X.K (ca p.1)
 verr:X.mg "ValueError"=none
 c:COk X G ca cl
section
variable {X:Cx}
theorem HK(op:Bop):iY X (binaryOp op.op) (rD X.K (dB op)):=by
 intro pins s σ H x y v u Q I rx ry q;obtain⟨m,h,dx,dy,d,h',w,r1,r2,e,c⟩:=q;have fin:∀z,RD X.K m H d z->h=h'->Q z H:=λz rz eh=>by subst eh;exact c m z H Gr.refl w rz
 cases op with
 |add=>
  have k:(∃i j,dx=.int i/\dy=.int j)\/(∃a b,dx=.str a/\dy=.str b)\/(∃a b,dx=.tup a/\dy=.tup b)\/∃a b,dx=.ref a/\dy=.ref b:=by
   cases dx<;>first |(cases e;done)|skip
   ·exact .inl ⟨_,(by cases dy<;>first |(cases e;done)|exact⟨_,rfl,rfl⟩)⟩
   ·exact .inr (.inl ⟨_,(by cases dy<;>first |(cases e;done)|exact⟨_,rfl,rfl⟩)⟩)
   ·exact .inr (.inr (.inl ⟨_,(by cases dy<;>first |(cases e;done)|exact⟨_,rfl,rfl⟩)⟩))
   ·exact .inr (.inr (.inr ⟨_,(by cases dy<;>first |(cases e;done)|exact⟨_,rfl,rfl⟩)⟩))
  rcases k with ⟨i,j,rfl,rfl⟩|⟨a,b,rfl,rfl⟩|⟨a,b,rfl,rfl⟩|⟨a,b,rfl,rfl⟩
  ·cases r1;cases r2;cases e;exact KR pins s σ H _ _ v u Q I rx ry ⟨_,_,rfl,rfl,fin _ (.int _) rfl⟩
  ·cases r1;cases r2;have e':(if a.length+b.length<=sizeLine then Rs.ok (D.str (a++b)) h else .bad)=.ok d h':=e;split at e'
   ·rename_i hz;cases e';exact sR pins s σ H _ _ v u Q I rx ry ⟨_,_,rfl,rfl,hz,fin _ (.str _) rfl⟩
   ·cases e'
  ·have e':(if a.length+b.length<=1000/\0<a.length/\0<b.length then Rs.ok (D.tup (a++b)) h else .bad)=.ok d h':=e;split at e'
   ·rename_i hz;cases e';cases r1 with
    |tup h1 q1=>
     cases r2 with
     |tup h2 q2=>
      have l1:=q1.length;have l2:=q2.length;refine EE pins s σ H _ _ v u Q I rx ry ⟨_,_,_,_,rfl,rfl,h1,h2,(λz=>by rw[z,List.length_nil] at l1;omega),Nat.le_trans (by omega) (show 1000<=sizeLine by decide),(λz=>by rw[z,List.length_nil] at l2;omega),λ_ p hp=>?_⟩;exact c m _ _ (Gr.tupNew hp) (w.keepNew hp) (.tup (.of bB) ((q1.append q2).mono (Gr.tupNew hp)))
   ·cases e'
  ·have e':(match h[a]?,h[b]? with|some (.lst x),some (.lst y)=>(if x.length+y.length<=1000 then Rs.ok (D.ref h.length) (h++ [O.lst (x++y)]) else .bad)|_,_=>.bad)=.ok d h':=e;split at e'
   ·rename_i la lb ea eb;split at e'
    ·rename_i hz;cases e';cases r1 with
     |ref m1=>
      cases r2 with
      |ref m2=>
       obtain⟨vs,hv,q1⟩:∃vs,H _=some (.lst vs)/\RDs X.K m H la vs:=w.ob a _ _ ea m1;obtain⟨us,hu,q2⟩:∃vs,H _=some (.lst vs)/\RDs X.K m H lb vs:=w.ob b _ _ eb m2;have l1:=q1.length;have l2:=q2.length;refine KQ pins s σ H _ _ v u Q I rx ry ⟨_,_,_,_,rfl,rfl,hv,hu,Nat.le_trans (by omega) (show 1000<=sizeLine by decide),λp hp=>?_⟩;obtain⟨w2,g2⟩:=w.lstNew hp (q1.append q2);exact c _ _ _ g2 w2 (.ref (by rw[<- w.len];simp))
    ·cases e'
   ·cases e'
 |sub=>
  obtain⟨i,rfl⟩:∃i,dx=.int i:=by cases dx<;>first |exact⟨_,rfl⟩|(cases e;done)
  obtain⟨j,rfl⟩:∃j,dy=.int j:=by cases dy<;>first |exact⟨_,rfl⟩|(cases e;done)
  cases r1;cases r2;cases e;exact KL pins s σ H _ _ v u Q I rx ry ⟨_,_,rfl,rfl,fin _ (.int _) rfl⟩
 |mul=>
  obtain⟨i,rfl⟩:∃i,dx=.int i:=by cases dx<;>first |exact⟨_,rfl⟩|(cases e;done)
  obtain⟨j,rfl⟩:∃j,dy=.int j:=by cases dy<;>first |exact⟨_,rfl⟩|(cases e;done)
  cases r1;cases r2;have e':(if(-(2^64)<i/\i<2^64)\/(-(2^64)<j/\j<2^64) then Rs.ok (D.int (i*j)) h else .bad)=.ok d h':=e;split at e'
  ·rename_i hz;cases e';exact KN pins s σ H _ _ v u Q I rx ry ⟨_,_,rfl,rfl,hz,fin _ (.int _) rfl⟩
  ·cases e'
 |fdiv=>
  obtain⟨i,rfl⟩:∃i,dx=.int i:=by cases dx<;>first |exact⟨_,rfl⟩|(cases e;done)
  obtain⟨j,rfl⟩:∃j,dy=.int j:=by cases dy<;>first |exact⟨_,rfl⟩|(cases e;done)
  cases r1;cases r2;have e':(if 0<j/\j<1073741824 then Rs.ok (D.int (i/j)) h else .bad)=.ok d h':=e;split at e'
  ·rename_i hz;cases e';exact ED pins s σ H _ _ v u Q I rx ry ⟨_,_,rfl,rfl,hz,fin _ (.int _) rfl⟩
  ·cases e'
 |mod=>
  obtain⟨i,rfl⟩:∃i,dx=.int i:=by cases dx<;>first |exact⟨_,rfl⟩|(cases e;done)
  obtain⟨j,rfl⟩:∃j,dy=.int j:=by cases dy<;>first |exact⟨_,rfl⟩|(cases e;done)
  cases r1;cases r2;have e':(if 0<j then Rs.ok (D.int (i%j)) h else .bad)=.ok d h':=e;split at e'
  ·rename_i hz;cases e';exact KO pins s σ H _ _ v u Q I rx ry ⟨_,_,rfl,rfl,hz,fin _ (.int _) rfl⟩
  ·cases e'
 |pow=>
  obtain⟨i,rfl⟩:∃i,dx=.int i:=by cases dx<;>first |exact⟨_,rfl⟩|(cases e;done)
  obtain⟨j,rfl⟩:∃j,dy=.int j:=by cases dy<;>first |exact⟨_,rfl⟩|(cases e;done)
  cases r1;cases r2;have e':(if 0<=j/\j<=1000000/\i.natAbs<2^64 then Rs.ok (D.int (i^j.toNat)) h else .bad)=.ok d h':=e;split at e'
  ·rename_i hz;cases e';exact KM pins s σ H _ _ v u Q I rx ry ⟨_,_,rfl,rfl,hz,fin _ (.int _) rfl⟩
  ·cases e'
theorem kU{f:D->D->Option Bool}:∀{a b:List D}{k:Bool},pH f a b=some k->∃e:Nat->Bool,(∀j x y,a[j]? =some x->b[j]? =some y->f x y=some (e j))/\k=((List.range (min a.length b.length)).all e&&a.length==b.length)
 | [],[],k,h=>by
   simp[pH] at h;exact⟨λ_=>true,λj x y e=>by simp at e,by simp[h.symm]⟩
 | [],_::_,k,h=>by
   simp[pH] at h;exact⟨λ_=>true,λj x y e=>by simp at e,by simp[h.symm]⟩
 |_::_,[],k,h=>by
  simp[pH] at h;exact⟨λ_=>true,λj x y _ e=>by simp at e,by simp[h.symm]⟩
 |x::xs,y::ys,k,h=>by
  simp only[pH] at h;split at h
  ·rename_i a b h1 h2;obtain⟨e,p,q⟩:=kU h2
   refine⟨λj=>match j with
    |0=>a
    |j+1=>e j,λj x' y' e1 e2=>?_,?_⟩
   ·cases j with
    |zero=>simp at e1 e2;subst e1;subst e2;exact h1
    |succ j=>exact p j x' y' (by simpa using e1) (by simpa using e2)
   ·have h':(a&&b)=k:=Zg h;rw[<- h',q];simp only[List.length_cons,Nat.succ_min_succ,List.range_succ_eq_map,List.all_cons,List.all_map];rw[show((xs.length+1==ys.length+1):Bool)=(xs.length==ys.length) by simp];rw[Bool.and_assoc];rfl
  ·cases h
theorem BD{pins:List (Addr×Obj)}{σ:Sg}{H:Hp}{s:Shared}{m:List Addr}(I:Inv X pins σ H s):∀(n:Nat){d d':D}{v:V}{b:Bool},RD X.K m H d v->RD X.K m H d' v->jA n d d'=some b->b=true:=by
 intro n
 induction n with
 |zero=>
  intro d d' v b r r' e;cases r<;>cases r'<;>simp[jA] at e<;>exact e
 |succ n ih=>
  intro d d' v b r r' e;cases r<;>cases r'<;>first |(simp[jA] at e;exact e)|(simp[jA] at e;done)|skip
  rename_i a ds vs h1 q1 ds' vs' q2 h2;obtain rfl:=I.tuple_inj h1 h2
  have go:∀{ds ds':List D}{vs:List V}{b:Bool},RDs X.K m H ds vs->RDs X.K m H ds' vs->pH (jA n) ds ds'=some b->b=true:=by
   intro ds
   induction ds with
   |nil=>
    intro ds' vs b q1 q2 e;cases q1;cases q2;simp[pH] at e;exact e
   |cons x xs ih2=>
    intro ds' vs b q1 q2 e;cases q1 with
    |cons p1 t1=>
     cases q2 with
     |cons p2 t2=>
      simp only[pH] at e;split at e
      ·rename_i k1 k2 z1 z2;have:=ih p1 p2 z1;have:=ih2 t1 t2 z2
       subst_vars
       simpa using e.symm
      ·cases e
  exact go q1 q2 (by simpa [jA] using e)
theorem BE{pins:List (Addr×Obj)}{σ:Sg}{H:Hp}{s:Shared}{m:List Addr}(I:Inv X pins σ H s):∀(n:Nat){A:Around}{d d':D}{v v':V}{u u':Value}{b:Bool},A.units+n<cLine->RD X.K m H d v->RD X.K m H d' v'->RelV v u->RelV v' u'->jA n d d'=some b->SeqAt.EqAt A s u u' b:=by
 intro n
 induction n with
 |zero=>
  intro A d d' v v' u u' b hu r r' q q' e;cases r<;>cases r'<;>first |(simp[jA] at e;done)|skip
  all_goals simp[jA] at e
  all_goals subst e
  all_goals first
   |(have h:=tJ (A:=A) (s:=s) q q' rfl rfl;simpa [BB] using h)
 |succ n ih=>
  intro A d d' v v' u u' b hu r r' q q' e;cases r<;>cases r'<;>first |(simp[jA] at e;done)|skip
  all_goals first
   |(simp[jA] at e;subst e;have h:=tJ (A:=A) (s:=s) q q' rfl rfl;simpa [BB] using h)
   |skip
  rename_i a ds vs h1 q1 a' ds' vs' h2 q2;cases q;cases q'
  by_cases ha:a=a'
  ·subst ha;have:=BD I (n+1) (.tup h1 q1) (.tup h2 q2) e;subst this;exact SeqAt.EqAt.same _
  ·obtain⟨its,p1,t1,_⟩:=I.tuple h1;obtain⟨its',p2,t2,_⟩:=I.tuple h2;obtain⟨f,hf,rfl⟩:=kU (show pH (jA n) ds ds'=some b from by simpa [jA] using e);have l1:=q1.length;have l2:=q2.length;have l3:=p1.length;have l4:=p2.length
   have key:=SeqAt.RcAt.tuples (A:=A) (e:=f) t1 t2 (by omega) (λj j1 j2=>by
    have j1':j<its.length:=by simpa using j1
    have j2':j<its'.length:=by simpa using j2
    have e1:ds[j]? =some ds[j]:=Zd (by omega);have e2:ds'[j]? =some ds'[j]:=Zd (by omega);obtain⟨x,hx,rx⟩:=q1.get e1;obtain⟨y,hy,ry⟩:=q2.get e2;obtain⟨ux,hux,sx⟩:=p1.get hx;obtain⟨uy,huy,sy⟩:=p2.get hy
    have z1:its.toArray[j]=ux:=by
     have:=Ze.mp hux;obtain⟨_,z⟩:=this;simpa using z
    have z2:its'.toArray[j]=uy:=by
     have:=Ze.mp huy;obtain⟨_,z⟩:=this;simpa using z
    rw[z1,z2];exact ih (A:=A.in1) (by show A.units+1+n<cLine;omega) rx ry sx sy (hf j _ _ e1 e2))
   refine SeqAt.EqAt.of_refs ha ?_;have el:its.toArray.size=ds.length:=by simp;omega
   have el':its'.toArray.size=ds'.length:=by simp;omega
   rw[el,el'] at key;exact key
end
section
variable {X:Cx}
theorem IL{pins:List (Addr×Obj)}{σ:Sg}{H:Hp}{s:Shared}{m:List Addr}(I:Inv X pins σ H s){n:Nat}{A:Around}{ds ds':List D}{vs vs':List V}{its its':List Value}(hu:A.units+1+n<cLine)
 (q1:RDs X.K m H ds vs)(q2:RDs X.K m H ds' vs')(p1:Vals vs its)(p2:Vals vs' its'){f:Nat->Bool}(hf:∀j x y,ds[j]? =some x->ds'[j]? =some y->jA n x y=some (f j)):
 ∀j (h1:j<its.toArray.size) (h2:j<its'.toArray.size),SeqAt.EqAt A.in1 s its.toArray[j] its'.toArray[j] (f j):=λj j1 j2=>by
 have l1:=q1.length;have l2:=q2.length;have l3:=p1.length;have l4:=p2.length;have j1':j<its.length:=by simpa using j1
 have j2':j<its'.length:=by simpa using j2
 have e1:ds[j]? =some ds[j]:=Zd (by omega);have e2:ds'[j]? =some ds'[j]:=Zd (by omega);obtain⟨x,hx,rx⟩:=q1.get e1;obtain⟨y,hy,ry⟩:=q2.get e2;obtain⟨ux,hux,sx⟩:=p1.get hx;obtain⟨uy,huy,sy⟩:=p2.get hy
 have z1:its.toArray[j]=ux:=by
  obtain⟨_,z⟩:=Ze.mp hux;simpa using z
 have z2:its'.toArray[j]=uy:=by
  obtain⟨_,z⟩:=Ze.mp huy;simpa using z
 rw[z1,z2];exact BE I n (by show A.units+1+n<cLine;omega) rx ry sx sy (hf j _ _ e1 e2)
theorem vJ{pins:List (Addr×Obj)}{σ:Sg}{H:Hp}{s:Shared}{m:List Addr}{h:Hh}(I:Inv X pins σ H s)(hr:∃k,Room k X.A){x y:V}{v u:Value}{dx dy:D}{b:Bool}(w:Wd X.K m h H)(r1:RD X.K m H dx x)(r2:RD X.K m H dy y)
 (rx:RelV x v)(ry:RelV y u)(e:FJ dx dy h=some b):SeqAt.RcAt X.A s v u b/\SeqAt.RcNeAt X.A s v u (!b):=by
 obtain⟨k,hr⟩:=hr;have hu:=hr.units;cases r1<;>cases r2<;>first |(simp[FJ,jA] at e;done)|skip
 case ref.ref=>
  rename_i i a ha j c hc;cases rx;cases ry;simp only[FJ] at e;split at e
  ·rename_i ds ds' e1 e2;obtain⟨a',vs,ha',hq,q1⟩:=w.lst e1;obtain⟨c',vs',hc',hq',q2⟩:=w.lst e2;rw[ha] at ha';cases ha';rw[hc] at hc';cases hc';obtain⟨its,p1,t1,_⟩:=I.list hq;obtain⟨its',p2,t2,_⟩:=I.list hq';have l1:=q1.length;have l2:=q2.length;have l3:=p1.length;have l4:=p2.length;split at e
   ·rename_i el;obtain⟨f,hf,rfl⟩:=kU e;have hs:its.toArray.size=its'.toArray.size:=by simp;omega
    have he:=IL (A:=X.A) I (n:=20) (by omega) q1 q2 p1 p2 hf;have el2:its.toArray.size=ds.length:=by simp;omega
    have k1:=SeqAt.RcAt.lists (A:=X.A) (e:=f) t1.isList t2.isList hs (by omega) he;have k2:=SeqAt.RcNeAt.lists (A:=X.A) (e:=f) t1.isList t2.isList hs (by omega) he;rw[el2] at k1 k2;rw[show(min ds.length ds'.length)=ds.length by omega,show(ds.length==ds'.length)=true by simp[el],Bool.and_true];exact⟨k1,k2⟩
   ·rename_i el;have eb:false=b:=Zg e;subst eb;have hs:(its.toArray.size != its'.toArray.size)=true:=by simp;omega
    exact⟨SeqAt.RcAt.lists_lengths t1.isList t2.isList hs (by omega),SeqAt.RcNeAt.lists_lengths t1.isList t2.isList hs (by omega)⟩
  ·cases e
 case tup.tup=>
  rename_i a ds vs h1 q1 a' ds' vs' h2 q2;cases rx;cases ry;obtain⟨its,p1,t1,_⟩:=I.tuple h1;obtain⟨its',p2,t2,_⟩:=I.tuple h2;have l1:=q1.length;have l2:=q2.length;have l3:=p1.length;have l4:=p2.length;obtain⟨f,hf,rfl⟩:=kU (show pH (jA 19) ds ds'=some b from by simpa [FJ,jA] using e);have he:=IL (A:=X.A) I (n:=19) (by omega) q1 q2 p1 p2 hf;have k1:=SeqAt.RcAt.tuples (A:=X.A) (e:=f) t1 t2 (by omega) he;have k2:=SeqAt.RcNeAt.tuples (A:=X.A) (e:=f) t1 t2 (by omega) he;have el:its.toArray.size=ds.length:=by simp;omega
  have el':its'.toArray.size=ds'.length:=by simp;omega
  rw[el,el'] at k1 k2;exact⟨k1,k2⟩
 all_goals simp[FJ,jA] at e
 all_goals subst e
 case non.non=>cases rx;cases ry;exact⟨SeqAt.RcAt.none_none,SeqAt.RcNeAt.none_none⟩
 case non.int=>cases rx;obtain⟨t,rfl⟩:=ry;exact⟨SeqAt.RcAt.none_int _ _,SeqAt.RcNeAt.none_int _ _⟩
 case non.str=>cases rx;obtain⟨t,rfl⟩:=ry;exact⟨SeqAt.RcAt.none_str _ _,SeqAt.RcNeAt.none_str _ _⟩
 case int.non=>cases ry;obtain⟨t,rfl⟩:=rx;exact⟨SeqAt.RcAt.int_none _ _,SeqAt.RcNeAt.int_none _ _⟩
 case str.non=>cases ry;obtain⟨t,rfl⟩:=rx;exact⟨SeqAt.RcAt.str_none _ _,SeqAt.RcNeAt.str_none _ _⟩
 case bl.bl=>cases rx;cases ry;exact⟨SeqAt.RcAt.bool_bool _ _,SeqAt.RcNeAt.bool_bool _ _⟩
 case int.int=>obtain⟨t,rfl⟩:=rx;obtain⟨t',rfl⟩:=ry;exact⟨SeqAt.RcAt.int_int _ _ _ _,SeqAt.RcNeAt.int_int _ _ _ _⟩
 case int.str=>obtain⟨t,rfl⟩:=rx;obtain⟨t',rfl⟩:=ry;exact⟨SeqAt.RcAt.int_str _ _ _ _,SeqAt.RcNeAt.int_str _ _ _ _⟩
 case str.int=>obtain⟨t,rfl⟩:=rx;obtain⟨t',rfl⟩:=ry;exact⟨SeqAt.RcAt.str_int _ _ _ _,SeqAt.RcNeAt.str_int _ _ _ _⟩
 case str.str=>obtain⟨t,rfl⟩:=rx;obtain⟨t',rfl⟩:=ry;exact⟨SeqAt.RcAt.str_str _ _ _ _,SeqAt.RcNeAt.str_str _ _ _ _⟩
theorem RD.flat{K:W.Frag}{m:List Addr}{H:Hp}{d:D}{v:V}(r:RD K m H d v)(f:flat d=true):hZ v=true:=by
 cases r<;>first |rfl|(cases f;done)
theorem RD.eqF{K:W.Frag}{m:List Addr}{H:Hp}{d d':D}{v v':V}(r:RD K m H d v)(r':RD K m H d' v')(f:Ng.flat d=true)(f':Ng.flat d'=true):BB v v'=Ng.eqF d d':=by
 cases r<;>first |(cases f;done)|skip
 all_goals cases r'<;>first |(cases f';done)|rfl
theorem RDs.flat{K:W.Frag}{m:List Addr}{H:Hp}:∀{ds:List D}{vs:List V},RDs K m H ds vs->ds.all Ng.flat=true->vs.all hZ=true
 |_,_,.nil,_=>rfl
 |_,_,.cons r t,f=>by
  rw[List.all_cons,Bool.and_eq_true] at f;rw[List.all_cons,r.flat f.1,RDs.flat t f.2];rfl
theorem RDs.anyF{K:W.Frag}{m:List Addr}{H:Hp}{x:D}{v:V}(rx:RD K m H x v)(fx:Ng.flat x=true):∀{ds:List D}{vs:List V},RDs K m H ds vs->ds.all Ng.flat=true->HX v vs=ds.any λy=>Ng.eqF y x
 |_,_,.nil,_=>rfl
 |_,_,.cons r t,f=>by
  rw[List.all_cons,Bool.and_eq_true] at f;have ih:=RDs.anyF rx fx t f.2;unfold HX at ih⊢;rw[List.any_cons,List.any_cons,ih,r.eqF rx f.1 fx]
theorem lO{m:List Addr}{h:Hh}{H:Hp}{K:W.Frag}(w:Wd K m h H){d:D}{v:V}{l:List D}(r:RD K m H d v)(e:dY d h=some l):∃p vs,v=.ref p/\(SqL K H p vs\/SqT K H p vs)/\RDs K m H l vs:=by
 cases r<;>first |(simp[dY] at e;done)|skip
 ·rename_i a ds vs h1 q;have e':ds=l:=by simpa [dY] using e
  subst e';exact⟨a,vs,rfl,.inr h1,q⟩
 ·rename_i n a ha;obtain⟨a',vs,ha',hq,q⟩:=w.lst (show aK h n=some l from e);rw[ha] at ha';cases ha';exact⟨a,vs,rfl,.inl hq,q⟩
theorem lF{K:W.Frag}{m:List Addr}{H:Hp}{k:cH}{d:D}:∀{ds:List (cH×D)}{us:List (cH×V)},ds.map (·.1)=us.map (·.1)->RDs K m H (ds.map (·.2)) (us.map (·.2))->fL ds k=some d->∃v,fK us k=some v/\RD K m H d v
 | [],_,_,_,e=>by simp[fL] at e
 |p::ds,[],hk,_,_=>by simp at hk
 |p::ds,q::us,hk,r,e=>by
  simp only[Zh,List.cons.injEq] at hk;cases r with
  |cons r1 r2=>
   unfold fL at e;unfold fK;rw[List.find?_cons] at e⊢;rw[<- hk.1]
   by_cases z:p.1=k
   ·rw[decide_eq_true z] at e⊢;simp only at e⊢;cases e;exact⟨q.2,rfl,r1⟩
   ·rw[decide_eq_false z] at e⊢;exact lF hk.2 r2 e
theorem lY{K:W.Frag}{m:List Addr}{H:Hp}{d:D}{v:V}{k:cH}(r:RD K m H d v)(e:AC d=some k):v=kV k:=by
 cases r<;>first |(cases e;done)|(cases e;rfl)
theorem jP{K:W.Frag}{m:List Addr}{h:Hh}{H:Hp}{x:D}{v:V}{l:List (cH×D)}(w:Wd K m h H)(r:RD K m H x v)(e:eU h x=some l):∃n a us,x=.ref n/\v=.ref a/\h[n]? =some (.dct l)/\m[n]? =some a/\H a=some (.dK us)/\l.map (·.1)=us.map (·.1)/\RDs K m H (l.map (·.2)) (us.map (·.2)):=by
 cases r<;>first |(cases e;done)|skip
 rename_i n a ha;simp only[eU] at e;split at e
 ·rename_i l' el;cases e;obtain⟨us,q1,q2,q3⟩:=w.ob n _ a el ha;exact⟨n,a,us,rfl,rfl,el,ha,q1,q2,q3⟩
 ·cases e
theorem nI{K:W.Frag}{k:cH}:∀{ds:List (cH×D)}{us:List (cH×V)},ds.map (·.1)=us.map (·.1)->fL ds k=none->fK us k=none
 | [],[],_,_=>rfl
 | [],q::us,hk,_=>by simp at hk
 |p::ds,[],hk,_=>by simp at hk
 |p::ds,q::us,hk,e=>by
  simp only[Zh,List.cons.injEq] at hk;unfold fL at e;unfold fK;rw[List.find?_cons] at e⊢;rw[<- hk.1]
  by_cases z:p.1=k
  ·rw[decide_eq_true z] at e;cases e
  ·rw[decide_eq_false z] at e⊢;exact nI (K:=K) hk.2 e
theorem mC{K:W.Frag}{m:List Addr}{H:Hp}{k:cH}{ds:List (cH×D)}{us:List (cH×V)}(hk:ds.map (·.1)=us.map (·.1))(r:RDs K m H (ds.map (·.2)) (us.map (·.2))):(fK us k).isSome=(fL ds k).isSome:=by
 cases e:fL ds k with
 |none=>rw[nI (K:=K) hk e]<;>rfl
 |some d=>obtain⟨v,hv,_⟩:=lF hk r e;rw[hv];rfl
theorem IQ{pins:List (Addr×Obj)}{σ:Sg}{H:Hp}{s:Shared}{m:List Addr}(I:Inv X pins σ H s){A:Around}(hu:A.units+20<cLine){dx:D}{x:V}{v:Value}(rx:RD X.K m H dx x)(sx:RelV x v):∀{ds:List D}{vs:List V}{its:List Value}{b:Bool},RDs X.K m H ds vs->Vals vs its->RY dx ds=some b->CT A s v its b
 | [],_,_,b,.nil,.nil,e=>by cases e;exact .nil
 |y::ds,_,_,b,.cons r q,.cons p t,e=>by
  simp only[RY] at e;split at e
  ·rename_i a c e1 e2;have e':=Zg e;have z:=BE I 20 hu r rx p sx e1;have ih:=IQ I hu rx sx q t e2;cases a with
   |true=>subst e';exact .hit z
   |false=>rw[Bool.false_or] at e';subst e';exact .mis z ih
  ·cases e
theorem HJ(hr:∃k,Room k X.A)(op:Cop):iY X (compareOp op.op) (rD X.K (dN op)):=by
 intro pins s σ H x y v u Q I rx ry q;obtain⟨m,h,dx,dy,d,h',w,r1,r2,e,c⟩:=q;have fin:∀z,RD X.K m H d z->h=h'->Q z H:=λz rz eh=>by subst eh;exact c m z H Gr.refl w rz
 cases op with
 |lt=>
  obtain⟨i,rfl⟩:∃i,dx=.int i:=by cases dx<;>first |exact⟨_,rfl⟩|(cases e;done)
  obtain⟨j,rfl⟩:∃j,dy=.int j:=by cases dy<;>first |exact⟨_,rfl⟩|(cases e;done)
  cases r1;cases r2;cases e;exact OQ pins s σ H _ _ v u Q I rx ry ⟨_,_,rfl,rfl,fin _ (.bl _) rfl⟩
 |le=>
  obtain⟨i,rfl⟩:∃i,dx=.int i:=by cases dx<;>first |exact⟨_,rfl⟩|(cases e;done)
  obtain⟨j,rfl⟩:∃j,dy=.int j:=by cases dy<;>first |exact⟨_,rfl⟩|(cases e;done)
  cases r1;cases r2;cases e;exact OR pins s σ H _ _ v u Q I rx ry ⟨_,_,rfl,rfl,fin _ (.bl _) rfl⟩
 |gt=>
  obtain⟨i,rfl⟩:∃i,dx=.int i:=by cases dx<;>first |exact⟨_,rfl⟩|(cases e;done)
  obtain⟨j,rfl⟩:∃j,dy=.int j:=by cases dy<;>first |exact⟨_,rfl⟩|(cases e;done)
  cases r1;cases r2;cases e;exact OS pins s σ H _ _ v u Q I rx ry ⟨_,_,rfl,rfl,fin _ (.bl _) rfl⟩
 |ge=>
  obtain⟨i,rfl⟩:∃i,dx=.int i:=by cases dx<;>first |exact⟨_,rfl⟩|(cases e;done)
  obtain⟨j,rfl⟩:∃j,dy=.int j:=by cases dy<;>first |exact⟨_,rfl⟩|(cases e;done)
  cases r1;cases r2;cases e;exact OT pins s σ H _ _ v u Q I rx ry ⟨_,_,rfl,rfl,fin _ (.bl _) rfl⟩
 |eq=>
  replace e:(match FJ dx dy h with|some b=>Rs.ok (D.bl (b)) h|none=>.bad)=.ok d h':=e
  split at e
  ·rename_i b eb;cases e;exact(vJ I hr w r1 r2 rx ry eb).1 _ _ _ _ ⟨.bl b,H,I,rfl,fin _ (.bl _) rfl⟩
  ·cases e
 |ne=>
  replace e:(match FJ dx dy h with|some b=>Rs.ok (D.bl (!b)) h|none=>.bad)=.ok d h':=e
  split at e
  ·rename_i b eb;cases e;exact(vJ I hr w r1 r2 rx ry eb).2 _ _ _ _ ⟨.bl (!b),H,I,rfl,fin _ (.bl _) rfl⟩
  ·cases e
 |is=>
  obtain rfl:dy=.non:=by cases dy<;>first |rfl|(cases e;done)
  cases r2;cases e;refine KP pins s σ H _ _ v u Q I rx ry ⟨rfl,fin _ ?_ rfl⟩;cases r1<;>exact .bl _
 |isnot=>
  obtain rfl:dy=.non:=by cases dy<;>first |rfl|(cases e;done)
  cases r2;cases e;refine EC pins s σ H _ _ v u Q I rx ry ⟨rfl,fin _ ?_ rfl⟩;cases r1<;>exact .bl _
 |inn=>
  replace e:(match RX dx dy h with|some b=>Rs.ok (D.bl b) h|none=>match eU h dy with|some l=>HY dx l false h|none=>match dY dy h with|some l=>HZ dx l false h|none=>.bad)=.ok d h':=e
  split at e
  ·rename_i b eb;cases e;unfold RX at eb;split at eb
   ·cases eb;cases r1;cases r2;exact wS pins s σ H _ _ v u Q I rx ry ⟨_,_,rfl,rfl,fin _ (.bl _) rfl⟩
   ·rename_i ks;split at eb
    ·rename_i l el;obtain⟨n,a,xs,us,o,es,ep,rfl,rfl,hn,ha,hf,df,go,hk,hks,rv,vv,dd⟩:=tK I w r2 el;rw[Option.map_eq_some_iff] at eb;obtain⟨k,ek,rfl⟩:=eb;cases r1 with
     |tup hq q=>
      have:=jK q ek;subst this;obtain⟨kk,hr⟩:=hr;have hun:=hr.units;cases rx;cases ry;refine wpAny_in_heap (tupleKind_room_in1 (by omega)) (LI I hq) df.1 dd ⟨.bl _,H,I.tok _,rfl,?_⟩;rw[xZ, <- tT hk, <- pY];exact fin _ (.bl _) rfl
    ·cases eb
   ·cases eb
  split at e
  ·rename_i l el;obtain⟨n,a,us,rfl,rfl,hn,ha,hu,hk,rv⟩:=jP w r2 el;unfold HY at e;split at e
   ·rename_i k ek;cases e;have:=lY r1 ek;subst this;obtain⟨kk,hr⟩:=hr;have hun:=hr.units;cases ry;refine VT (by omega) I (DGet.k hu) rx λs3 I3=>⟨.bl _,H,I3,rfl,?_⟩;rw[mC hk rv];exact fin _ (.bl _) rfl
   ·cases e
  ·split at e
   ·rename_i l el;unfold HZ at e;split at e
    ·rename_i hf;cases e;obtain⟨p,vs,rfl,hq,q⟩:=lO w r2 el;refine wT pins s σ H _ _ v u Q I rx ry ⟨p,vs,rfl,hq,r1.flat hf.1,q.flat hf.2,?_⟩;have z:=RDs.anyF r1 hf.1 q hf.2;show Q (.bl (if false=true then !HX x vs else HX x vs)) H;rw[if_neg (by decide),z];exact fin _ (.bl _) rfl
    ·cases e
   ·cases e
 |notin=>
  replace e:(match zX dx dy with|some b=>Rs.ok (D.bl b) h|none=>match eU h dy with|some l=>HY dx l true h|none=>match dY dy h with|some l=>(match LR dx dy l with|some b=>Rs.ok (D.bl (!b)) h|none=>HZ dx l true h)|none=>.bad)=.ok d h':=e
  split at e
  ·rename_i b eb;cases e;unfold zX at eb;split at eb
   ·cases eb;cases r1;cases r2;exact oU pins s σ H _ _ v u Q I rx ry ⟨_,_,rfl,rfl,fin _ (.bl _) rfl⟩
   ·cases eb
  split at e
  ·rename_i l el;obtain⟨n,a,us,rfl,rfl,hn,ha,hu,hk,rv⟩:=jP w r2 el;unfold HY at e;split at e
   ·rename_i k ek;cases e;have:=lY r1 ek;subst this;obtain⟨kk,hr⟩:=hr;have hun:=hr.units;cases ry;refine FQ (by omega) I (DGet.k hu) rx λs3 I3=>⟨.bl _,H,I3,rfl,?_⟩;rw[mC hk rv];exact fin _ (by simpa using RD.bl (!(fL l k).isSome)) rfl
   ·cases e
  ·split at e
   ·rename_i l el;split at e
    ·rename_i b eb;cases e;unfold LR at eb;split at eb
     ·cases r2 with
      |ref hm=>
       obtain⟨a',vs',hm',hq',q'⟩:=w.lst (show aK h _=some l from el);rw[hm] at hm';cases hm';obtain⟨its,p1,t1,_⟩:=I.list hq';obtain⟨kk,hr⟩:=hr;have hun:=hr.units;obtain⟨⟨cls,dd,data,sl⟩,ho,hcl,nn,hd⟩:=t1.isList;simp only at hcl hd;subst hcl hd;cases ry;refine PySem.SeqRoads2.notIn_meets ⟨_,ho,rfl⟩ F.slot_list_contains F.entry_list_contains (F.args_list_contains_2 _ _) (GB _ its.toArray nn dd sl v (b:=b)) ⟨ho,?_,_,rfl,⟨.bl _,H,I,rfl,fin _ (.bl _) rfl⟩⟩;simpa using IQ I (A:=X.A.in1) (by show X.A.units+1+20<cLine;omega) r1 rx q' p1 eb
     ·cases eb
    rename_i hnt;unfold HZ at e;split at e
    ·rename_i hf;cases e;obtain⟨p,vs,rfl,hq,q⟩:=lO w r2 el;refine oV pins s σ H _ _ v u Q I rx ry ⟨p,vs,rfl,hq,r1.flat hf.1,q.flat hf.2,?_⟩;have z:=RDs.anyF r1 hf.1 q hf.2;show Q (.bl (if true=true then !HX x vs else HX x vs)) H;rw[if_pos rfl,z];exact fin _ (by simpa using RD.bl _) rfl
    ·cases e
   ·cases e
theorem GN{K:W.Frag}{m:List Addr}{H:Hp}{ds:List D}{vs:List V}{i:Int}{d:D}(q:RDs K m H ds vs)(e:pU ds i=some d):∃v,pU vs i=some v/\RD K m H d v:=by
 unfold pU at e⊢;rw[q.length] at e;cases z:HV vs.length i with
 |none=>rw[z] at e;cases e
 |some j=>
  rw[z] at e;obtain⟨v,h1,h2⟩:=q.get (show ds[j]? =some d from e);exact⟨v,h1,h2⟩
theorem LL:NI X (rD X.K LM):=by
 intro value slice pins s σ H x y v u Q I rx ry q hs;obtain⟨m,h,dx,dy,d,h',w,r1,r2,e,c⟩:=q;unfold LM at e;split at e
 ·rename_i l i el;split at e
  ·rename_i d' ed;simp at e;obtain⟨rfl,rfl⟩:=e;obtain⟨p,vs,rfl,hq,q⟩:=lO w r1 el;obtain⟨z,hz,rz⟩:=GN q ed;cases r2;have qz:Q z H:=c m z H Gr.refl w rz;rcases hq with hq|hq
   ·exact ES value slice pins s σ H _ _ v u Q I rx ry ⟨p,vs,i,z,rfl,rfl,hq,hz,qz⟩ hs
   ·exact LJ value slice pins s σ H _ _ v u Q I rx ry ⟨p,vs,i,z,rfl,rfl,hq,hz,qz⟩ hs
  ·cases e
 ·cases e
theorem HU(hr:∃k,Room k X.A):NI X (rD X.K kK):=by
 intro value slice pins s σ H x y v u Q I rx ry q hs;obtain⟨m,h,dx,dy,d,h',w,r1,r2,e,c⟩:=q;unfold kK at e;split at e
 ·rename_i z;unfold HR at e;split at e<;>first |(cases e;done)|skip
  rename_i i;split at e<;>first |(cases e;done)|skip
  rename_i hz;split at e<;>first |(cases e;done)|skip
  rename_i c' ec;simp at e;obtain⟨rfl,rfl⟩:=e;cases r1;cases r2;exact LK value slice pins s σ H _ _ v u Q I rx ry ⟨z,i,c',rfl,rfl,hz,ec,c m _ H Gr.refl w (.str _)⟩ hs
 split at e
 ·rename_i l el;obtain⟨n,a,us,rfl,rfl,hn,ha,hu,hk,rv⟩:=jP w r1 el;unfold LN at e;split at e
  ·rename_i k ek;split at e
   ·rename_i d' ed;simp at e;obtain⟨rfl,rfl⟩:=e;obtain⟨z,hz,rz⟩:=lF hk rv ed;have:=lY r2 ek;subst this;obtain⟨kk,hr⟩:=hr;have hun:=hr.units;cases rx;have g:DGet H a (kV k) (some z):=by rw[<- hz];exact DGet.k hu
    exact tail_any (rM I g) PySem.F.slot_dict_getitem.lookup (xK (by omega) I g ry λw' s3 I3 rw'=>⟨z,H,I3,rw',c m z H Gr.refl w rz⟩) hs
   ·cases e
  ·cases e
 ·split at e
  ·rename_i l el;obtain⟨n,a,xs,us,o,es,ep,rfl,rfl,hn,ha,hf,df,go,hk,hks,rv,vv,dd⟩:=tK I w r1 el;unfold RS at e;split at e
   ·rename_i ks;split at e
    ·rename_i d' ed;simp at e;obtain⟨rfl,rfl⟩:=e;rw[Option.bind_eq_some_iff] at ed;obtain⟨k,ek,ed⟩:=ed;cases r2 with
     |tup hq q=>
      have:=jK q ek;subst this;obtain⟨kk,hr⟩:=hr;have hun:=hr.units;cases rx;cases ry;obtain⟨z,p,rz,hp,sz⟩:=pX hk rv vv ed;exact tail_any (T:="dict") ⟨o,go,df.2.2.1.1⟩ PySem.F.slot_dict_getitem.lookup (wpAny_getItem_heap (tupleKind_room_in1 (by omega)) (LI I hq) dd hp ⟨z,H,I.tok _,sz,c m z H Gr.refl w rz⟩) hs
    ·cases e
   ·cases e
  ·exact LL value slice pins s σ H x y v u Q I rx ry ⟨m,h,dx,dy,d,h',w,r1,r2,e,c⟩ hs
theorem kD{K:W.Frag}{m:List Addr}{H:Hp}{ds:List D}{vs:List V}(q:RDs K m H ds vs):ds.isEmpty=vs.isEmpty:=by
 cases q<;>rfl
theorem jB{K:W.Frag}{m:List Addr}{h:Hh}{H:Hp}(w:Wd K m h H){d:D}{v:V}{b:Bool}(r:RD K m H d v)(e:eY d h=some b):tV K v H b:=by
 cases r with
 |non=>exact(Zg e).symm
 |bl c=>exact(Zg e).symm
 |int i=>exact(Zg e).symm
 |str y=>
  simp only[eY] at e;split at e
  ·rename_i hz;exact⟨hz,(Zg e).symm⟩
  ·cases e
 |ty n=>cases e
 |tup h1 q=>
  refine .inr (.inl ⟨_,h1,?_⟩);have:=(Zg e).symm;rw[this,kD q]
 |ref ha=>
  simp only[eY] at e;split at e
  ·rename_i l el;obtain⟨a',vs,ha',hq,q⟩:=w.lst el;rw[ha] at ha';cases ha';refine .inl ⟨_,hq,?_⟩;have:=(Zg e).symm;rw[this,kD q]
  ·cases e
end
theorem AA{prog:Program}{w:World}{A:Around}{s:Shared}{a:Addr}{items:Array Value}(hh:A.handled=none)(hl:s.heap.IsList a items):
 Walks prog w A s.heap.objs.size [s.heap.objs.size,a] [s.heap.objs.size] items.size (λi v=>items[i]? =some v) (λi h=>h.IsListIter s.heap.objs.size a i/\h.IsList a items)/\
 ((s.heap.push {cls:=.type "list_iterator",data:=.fields #[.ref a,.int 0 0]}).IsListIter s.heap.objs.size a 0/\(s.heap.push {cls:=.type "list_iterator",data:=.fields #[.ref a,.int 0 0]}).IsList a items)/\
 (∀b∈ [s.heap.objs.size,a],b<(s.heap.push {cls:=.type "list_iterator",data:=.fields #[.ref a,.int 0 0]}).objs.size)/\
 ∀g:Heap,(∀b o,b ∉ [s.heap.objs.size]->(s.heap.push {cls:=.type "list_iterator",data:=.fields #[.ref a,.int 0 0]}).get? b=some o->g.get? b=some o)->∀b o,s.heap.get? b=some o->g.get? b=some o:=by
 have lt:a<s.heap.objs.size:=by obtain⟨_,e,_⟩:=hl;exact Heap.lt_size e
 refine⟨Walks.list hh _ a (Nat.ne_of_lt lt) items,⟨⟨_,Heap.get?_push_size _ rfl,rfl,rfl⟩,hl.push _⟩,λb hb=>?_,λg kp b o e=>kp b o (λz=>?_) (Zf _ e)⟩
 ·rw[Heap.size_push];simp at hb;rcases hb with rfl|rfl
  ·exact Nat.lt_succ_self _
  ·exact Nat.lt_succ_of_lt lt
 ·simp at z;subst z;exact Nat.lt_irrefl _ (Heap.lt_size e)
section
variable {X:Cx}
end
section
open PySem.SeqAt
open PySem.AutoSeq1 (wpAny_loadPart')
open PySem.MeetsSeq PySem.MeetsSeq2 PySem.MeetsSeq3
end
section
variable {X:Cx}{pins:List (Addr×Obj)}{σ:Sg}{H:Hp}{s:Shared}{m:List Addr}
end
section
variable {prog:Program}{w:World}{A:Around}{E:Value->Shared->Prop}{s:Shared}
end
section
variable {X:Cx}{pins:List (Addr×Obj)}{σ:Sg}{H:Hp}{s:Shared}{m:List Addr}{K:W.Frag}
end
section
variable {X:Cx}
noncomputable def lG:D->Hh->Option String
 |.non,_=>some "NoneType"
 |d,h=>(RF d h).map Ty.nm
theorem lZ{K:W.Frag}{d:D}{h:Hh}{T:String}{b:Bool}(e:kA d T h=some b):∃t,lG d h=some t/\W.kitOne K (.type t) (.type T)=some b:=by
 unfold kA at e;split at e
 ·split at e
  ·rename_i hT;have eb:=Zg e;subst eb;refine⟨"NoneType",rfl,?_⟩;simp[fU] at hT;rcases hT with rfl|rfl|rfl|rfl|rfl<;>rfl
  ·cases e
 ·rename_i hn;split at e
  ·rename_i t et;split at e
   ·rename_i hT;have eb:=Zg e;subst eb;refine⟨t.nm,?_,?_⟩
    ·cases d<;>first |(exact absurd rfl hn)|(simp[lG,et])
    ·simp[fU] at hT;cases t<;>rcases hT with rfl|rfl|rfl|rfl|rfl<;>rfl
   ·cases e
  ·cases e
theorem HQ{pins:List (Addr×Obj)}{σ:Sg}{H:Hp}{s:Shared}{m:List Addr}{h:Hh}(I:Inv X pins σ H s)(w:Wd X.K m h H){d:D}{v:V}{u:Value}{t:String}(r:RD X.K m H d v)(rv:RelV v u)(e:lG d h=some t):
 ∃P:Heap->Prop,W.KitX X.K u (.type t) P/\P s.heap/\u≠ .builtin "__main__.__loader__#opaque":=by
 cases r with
 |non=>cases rv;cases e;exact⟨_,W.kitx_none,trivial,λz=>nomatch z⟩
 |bl c=>cases rv;cases e;exact⟨_,W.kitx_bool,trivial,λz=>nomatch z⟩
 |int i=>obtain⟨t',rfl⟩:=rv;cases e;exact⟨_,W.kitx_int,trivial,λz=>nomatch z⟩
 |str x=>obtain⟨t',rfl⟩:=rv;cases e;exact⟨_,W.kitx_str,trivial,λz=>nomatch z⟩
 |ty n=>cases e
 |tup h1 q=>
  cases rv;cases e;obtain⟨its,p1,⟨o,h2,h3,_⟩,_⟩:=I.tuple h1;exact⟨_,W.kitx_tuple,⟨o,h2,h3⟩,λz=>nomatch z⟩
 |ref ha=>
  rename_i n a;cases rv;simp only[lG,RF] at e;cases z:aK h n with
  |none=>rw[z] at e;cases e
  |some l=>
   rw[z] at e;have e':"list"=t:=Zg e;subst e';obtain⟨a',vs,ha',hq,q⟩:=w.lst z;rw[ha] at ha';cases ha';obtain⟨its,p1,⟨o,k,h2,h3,_⟩,_⟩:=I.list hq;exact⟨_,W.kitx_list,⟨o,h2,h3⟩,λz=>nomatch z⟩
theorem rW{x y:V}{us:List Value}(r:Vals [x,y] us):∃u v,us=[u,v]/\RelV x u/\RelV y v:=by
 cases r with
 |cons a t=>cases t with
  |cons b t=>cases t;exact⟨_,_,rfl,a,b⟩
theorem iB{K:W.Frag}{m:List Addr}{H:Hp}{k:D->Hh->Rs D}{ds:List D}{xs:List V}{h h':Hh}{d:D}(r:RDs K m H ds xs)(e:one k ds h=.ok d h'):∃x v,xs=[v]/\RD K m H x v/\k x h=.ok d h':=by
 cases r with
 |nil=>cases e
 |cons r1 r=>
  cases r with
  |nil=>exact⟨_,_,rfl,r1,e⟩
  |cons=>cases e
theorem JF{K:W.Frag}{m:List Addr}{H:Hp}{k:D->D->Hh->Rs D}{ds:List D}{xs:List V}{h h':Hh}{d:D}(r:RDs K m H ds xs)(e:two k ds h=.ok d h'):∃x y v u,xs=[v,u]/\RD K m H x v/\RD K m H y u/\k x y h=.ok d h':=by
 cases r with
 |nil=>cases e
 |cons r1 r=>
  cases r with
  |nil=>cases e
  |cons r2 r=>
   cases r with
   |nil=>exact⟨_,_,_,_,rfl,r1,r2,e⟩
   |cons=>cases e
theorem pZ{K:W.Frag}{m:List Addr}{H:Hp}:∀{ds:List D}{vs:List V}{us:List Value}{Ts:List String},RDs K m H ds vs->Vals vs us->qA ds=some Ts->us=Ts.map Value.type
 |_,_,_,_,.nil,.nil,e=>by
  have e':=Zg e;subst e';rfl
 |_,_,_,_,.cons r q,.cons v t,e=>by
  cases r<;>first |(cases e;done)|skip
  simp only[qA] at e;split at e
  ·rename_i l el;have e':=Zg e;subst e';cases v;rw[pZ q t el];rfl
  ·cases e
theorem kC{K:W.Frag}{d:D}{h:Hh}{t:String}(et:lG d h=some t):∀{Ts:List String}{b:Bool},gY d h Ts=some b->W.kitAny K (.type t) (Ts.map Value.type)=some b
 | [],b,e=>e
 |T::r,b,e=>by
  simp only[gY] at e;split at e
  ·rename_i a c e1 e2;have e':=Zg e;subst e';obtain⟨t',et',ek⟩:=lZ (K:=K) e1;rw[et] at et';cases et';have ih:=kC (K:=K) et e2;simp only[Zh,W.kitAny,ek,ih];cases a<;>rfl
  ·cases e
noncomputable def Blt.val:Blt->Value
 |.len=>.builtin "len"|.isinst=>.builtin "isinstance"|.int=>.type "int"|.list=>.type "list"|.max=>.builtin "max"|.min=>.builtin "min"|.sorted=>.builtin "sorted"|.all=>.builtin "all"|.tup=>.type "tuple"|.zip=>.type "zip"
theorem jG{m:List Addr}{h:Hh}{H:Hp}{K:W.Frag}(w:Wd K m h H){d:D}{v:V}{l:List D}(r:RD K m H d v)(hl:eB d h=true)(e:dY d h=some l):∃p vs,v=.ref p/\SqL K H p vs/\RDs K m H l vs:=by
 cases r<;>first |(cases hl;done)|skip
 rename_i n a ha;obtain⟨a',vs,ha',hq,q⟩:=w.lst (show aK h n=some l from e);rw[ha] at ha';cases ha';exact⟨a,vs,rfl,hq,q⟩
theorem vX(hc:X.calm=true)(hr:∃k,Room k X.A)(mx:Bool):eJ X (.builtin (if mx then "max" else "min")) (JW X.K (vW mx)):=by
 intro pins s σ H xs us Q I rs q;obtain⟨m,h,ds,d,h',w,r,e,c⟩:=q;have fin:∀z,RD X.K m H d z->h=h'->Q z H:=λz rz eh=>by subst eh;exact c m z H Gr.refl w rz
 cases r with
 |nil=>cases e
 |cons r1 r=>
  cases r with
  |nil=>cases e
  |cons r2 r=>
   cases r with
   |cons=>cases e
   |nil=>
    cases r1<;>first |(cases e;done)|skip
    rename_i i;cases r2<;>first |(cases e;done)|skip
    rename_i j;simp[vW] at e;obtain⟨rfl,rfl⟩:=e;cases mx with
    |true=>exact xU hc pins s σ H _ us Q I rs ⟨i,j,rfl,fin _ (.int _) rfl⟩
    |false=>exact xT hc pins s σ H _ us Q I rs ⟨i,j,rfl,fin _ (.int _) rfl⟩
theorem vU{K:W.Frag}{m:List Addr}{H:Hp}:∀{ds:List D}{vs:List V}{us:List Value}{l:List Bool},RDs K m H ds vs->Vals vs us->xW ds=some l->us=l.map Value.bool
 |_,_,_,_,.nil,.nil,e=>by cases e;rfl
 |_,_,_,_,.cons r q,.cons v t,e=>by
  cases r<;>first |(cases e;done)|skip
  simp only[xW,Option.map_eq_some_iff] at e;obtain⟨l,e1,rfl⟩:=e;cases v;rw[vU q t e1];rfl
theorem wO{bs:List Bool}:(List.range bs.length).all (λi=>bs.getD i false)=bs.all id:=by
 induction bs with
 |nil=>rfl
 |cons b bs ih=>
  rw[List.length_cons,List.range_succ_eq_map,List.all_cons,List.all_map,List.all_cons];congr 1
theorem MT(hc:X.calm=true):eJ X (.builtin "all") (JW X.K (one CO)):=by
 intro pins s σ H xs us Q I rs q;obtain⟨m,h,ds,d,h',w,r,e,c⟩:=q;obtain⟨x,v,rfl,r1,e⟩:=iB r e;unfold CO at e;split at e
 ·rename_i l hl el;split at e
  ·rename_i bs eb;simp at e;obtain⟨rfl,rfl⟩:=e;obtain⟨p,vs,rfl,hq,q⟩:=jG w r1 hl el;obtain⟨u,rfl,ru⟩:=fB rs;cases ru;obtain⟨its,p1,t1,_⟩:=I.list hq;have ei:=vU q p1 eb;subst ei;refine call_all_walk (wpAny_pyIter_list t1.isList ?_);obtain⟨h1,h2,h3,h4⟩:=AA (A:=X.A.in1) (prog:=X.prog) (w:=X.w) (s:=s) (I.ok.hd hc) t1.isList;refine⟨_,_,_,_,_,_,λi=>bs.getD i false,rfl,h1,h2,?_,λg tk kp=>⟨.bl (bs.all id),H,I.kept (h4 g kp),?_,c m _ H Gr.refl w (.bl _)⟩⟩
   ·intro i v s' Q' E' hv hQ;have hv':(bs.map Value.bool)[i]? =some v:=by simpa using hv
    rw[Zi,Option.map_eq_some_iff] at hv';obtain⟨b,hb,rfl⟩:=hv';have:bs.getD i false=b:=by rw[List.getD_eq_getElem?_getD,hb];rfl
    have hQ':Q' (bs.getD i false) s':=hQ;rw[this] at hQ';exact wpAny_truthy_bool hQ'
   ·have:(bs.map Value.bool).toArray.size=bs.length:=by simp
    rw[this,wO];rfl
  ·cases e
 ·cases e
theorem kX(f:Blt)(hc:f≠ .isinst->X.calm=true/\∃k,Room k X.A):eJ X f.val (JW X.K (gI f)):=by
 by_cases hm:f=.max
 ·subst hm;exact vX (hc (λz=>nomatch z)).1 (hc (λz=>nomatch z)).2 true
 by_cases hm':f=.min
 ·subst hm';exact vX (hc (λz=>nomatch z)).1 (hc (λz=>nomatch z)).2 false
 by_cases hm3:f=.all
 ·subst hm3;exact MT (hc (λz=>nomatch z)).1
 intro pins s σ H xs us Q I rs q;obtain⟨m,h,ds,d,h',w,r,e,c⟩:=q;have fin:∀z,RD X.K m H d z->h=h'->Q z H:=λz rz eh=>by subst eh;exact c m z H Gr.refl w rz
 cases f with
 |max=>exact absurd rfl hm
 |min=>exact absurd rfl hm'
 |sorted=>exact nomatch (show(Rs.bad:Rs D)=.ok d h' from e)
 |len=>
  obtain⟨x,v,rfl,r1,e⟩:=iB r e;unfold PJ at e;split at e
  ·rename_i l el;simp at e;obtain⟨rfl,rfl⟩:=e;obtain⟨p,vs,rfl,hq,q⟩:=lO w r1 el;refine pQ pins s σ H _ us Q I rs ⟨p,vs,rfl,hq,?_⟩;rw[<- q.length];exact fin _ (.int _) rfl
  ·split at e
   ·split at e
    ·rename_i hz;cases e;cases r1;exact pP pins s σ H _ us Q I rs ⟨_,rfl,hz,fin _ (.int _) rfl⟩
    ·cases e
   ·split at e
    ·rename_i l el;simp at e;obtain⟨rfl,rfl⟩:=e;obtain⟨n,a,xs,us',o,es,ep,rfl,rfl,hn,ha,hf,df,go,hk,hks,rv,vv,dd⟩:=tK I w r1 el;obtain⟨u,rfl,ru⟩:=fB rs;cases ru;obtain⟨d1,d2,d3,d4,⟨P,w',d5⟩,d6⟩:=df
     have ez:es.size=l.length:=by
      have z1:=congrArg List.length d5;have z2:=congrArg List.length hk;simp at z1 z2;omega
     have zl:l.length=xs.length:=by have z2:=congrArg List.length hk;simpa using z2
     refine xV d1 go d3 d4 (by omega) ⟨.int es.size,H,I.tok _,⟨_,rfl⟩,?_⟩;rw[ez];exact fin _ (.int _) rfl
    ·cases e
 |all=>exact absurd rfl hm3
 |zip=>exact nomatch (show(Rs.bad:Rs D)=.ok d h' from e)
 |tup=>
  obtain⟨x,v,rfl,r1,e⟩:=iB r e;unfold sE at e;split at e
  ·rename_i l hl el;simp at e;obtain⟨rfl,rfl⟩:=e;obtain⟨p,vs,rfl,hq,q⟩:=jG w r1 hl el;exact nG pins s σ H _ us Q I rs ⟨p,vs,rfl,.inl ⟨hq,λa ha=>c m _ _ (Gr.tupNew ha) (w.keepNew ha) (.tup (.of bB) (q.mono (Gr.tupNew ha)))⟩⟩
  ·cases e
 |int=>
  obtain⟨x,v,rfl,r1,e⟩:=iB r e;cases r1<;>first |(cases e;done)|skip
  ·cases e;exact oA pins s σ H _ us Q I rs (.inr ⟨_,rfl,fin _ (.int _) rfl⟩)
  ·cases e;exact oA pins s σ H _ us Q I rs (.inl ⟨_,rfl,fin _ (.int _) rfl⟩)
 |list=>
  obtain⟨x,v,rfl,r1,e⟩:=iB r e;unfold HP at e;split at e
  ·rename_i l el;simp at e;obtain⟨rfl,rfl⟩:=e;obtain⟨p,vs,rfl,hq,q⟩:=lO w r1 el;refine pO pins s σ H _ us Q I rs ⟨p,vs,rfl,hq,λa ha=>?_⟩;obtain⟨w2,g2⟩:=w.lstNew ha q;exact c _ _ _ g2 w2 (.ref (by rw[<- w.len];simp))
  ·cases e
 |isinst=>
  obtain⟨x,y,v,u,rfl,r1,r2,e⟩:=JF r e;obtain⟨u1,u2,rfl,rv1,rv2⟩:=rW rs;cases r2<;>first |(cases e;done)|skip
  ·rename_i T;cases rv2;simp only[cD] at e;split at e
   ·rename_i b eb;simp at e;obtain⟨rfl,rfl⟩:=e;obtain⟨t,et,ek⟩:=lZ (K:=X.K) eb;obtain⟨P,Z,hP,hx⟩:=HQ I w r1 rv1 et;exact W.kia_one Z I.kIn hP ek hx λtk=>⟨.bl b,H,I.tok tk,rfl,fin _ (.bl b) rfl⟩
   ·cases e
  ·rename_i a ds vs h1 q1;cases rv2;simp only[cD] at e;split at e
   ·cases e
   ·rename_i T Ts eT;split at e
    ·rename_i b eb;simp at e;obtain⟨rfl,rfl⟩:=e
     have e1:∃k,kA x T h=some k:=by
      simp only[gY] at eb;split at eb
      ·rename_i z _;exact⟨_,z⟩
      ·cases eb
     obtain⟨k,e1⟩:=e1;obtain⟨t,et,_⟩:=lZ (K:=X.K) e1;obtain⟨P,Z,hP,hx⟩:=HQ I w r1 rv1 et;obtain⟨its,p1,⟨⟨oc,od,odt,osl⟩,h2,h3,n,h4⟩,_⟩:=I.tuple h1;simp only at h3 h4;subst h3 h4;rw[pZ q1 p1 eT] at h2;exact W.kia_tup Z I.kIn hP h2 (kC et eb) hx λtk=>⟨.bl b,H,I.tok tk,rfl,fin _ (.bl _) rfl⟩
    ·cases e
   ·cases e
end
section
variable {X:Cx}{N:List Str}{sc:Scope}{G:Gs}{cl:Cl}
theorem iJ{x:Str}(h:rV sc x=true):NE sc x:=by
 unfold rV at h;split at h
 ·rename_i e;exact .inl e
 ·rename_i e;exact .inr (.inl e)
 ·rename_i e;exact .inr (.inr e)
 ·cases h
theorem eL{x:Str}(h:fN sc x=true):GS sc x:=by
 unfold fN at h;split at h
 ·rename_i e;exact .inl e
 ·rename_i e;exact .inr e
 ·cases h
theorem cJ(xo:XOk X N sc){x:Str}(h:gG sc x=true):Gl X x:=by
 unfold gG at h;split at h
 ·rename_i e;show X.env.scope.names.lookup x=some .globalImplicit;rw[xo.s];exact e
 ·cases h
theorem cY{x:Str}(h:dP x=true):(x==("__debug__":Str))=false/\(x==("__classdict__":Str))=false/\x≠"__name__":=by
 unfold dP at h;simp only[Bool.and_eq_true,Bool.not_eq_true'] at h;exact⟨h.1.1,h.1.2,λz=>by have:=h.2;rw[z] at this;simp at this⟩
theorem iZ{e:Expr}{f:Ev->Hh->Rs D}(h:PE X e (TDE X.K f))(he:∀whole,isTrue e X.env whole=(do let v <- whole;standAt e.pos;holding [v] (truthy v))):PT X e (QR X.K f):=
 L2.PT.wk (lR h he) λs H Q ⟨m,r,hh,d,h',b,w,st,e1,eb,c⟩=>⟨m,r,hh,d,h',w,st,e1,λm' v H' g w' rd=>⟨b,jB w' rd eb,c m' H' g w'⟩⟩
theorem LS{x d:D}{l:List (cH×D)}{n:Bool}{h h':Hh}(e:HY x l n h=.ok d h'):∃k,d=.bl k:=by
 unfold HY at e;split at e<;>first |(cases e;exact⟨_,rfl⟩)|(cases e;done)
theorem LU{x d:D}{l:List D}{n:Bool}{h h':Hh}(e:HZ x l n h=.ok d h'):∃k,d=.bl k:=by
 unfold HZ at e;split at e<;>first |(cases e;exact⟨_,rfl⟩)|(cases e;done)
theorem GF{op:Cop}{x y d:D}{h h':Hh}(e:dN op x y h=.ok d h'):∃k,d=.bl k:=by
 unfold dN at e
 repeat' split at e
 all_goals first
  |(cases e;exact⟨_,rfl⟩)
  |exact LS e
  |exact LU e
  |(cases e;done)
def NZ(K:W.Frag)(ta tb:TE):TE:=λσ H Q=>ta σ H λx H1=>∃k,tV K x H1 k/\if k=true then tb σ H1 Q else Q x H1
def SZ(K:W.Frag)(ta tb:TE):TE:=λσ H Q=>ta σ H λx H1=>∃k,tV K x H1 k/\if k=true then Q x H1 else tb σ H1 Q
def NT(K:W.Frag)(ta:TE):TE:=λσ H Q=>ta σ H λx H1=>∃k,tV K x H1 k/\Q (.bl (!k)) H1
theorem lH{pins:List (Addr×Obj)}{s:Shared}{σ:Sg}{H:Hp}{x:V}{v:Value}{k:Bool}{Q:Bool->Shared->Prop}(I:Inv X pins σ H s)(r:RelV x v)(t:tV X.K x H k)(h:∀s',Inv X pins σ H s'->Q k s'):wpAny (model X.prog X.w) X.A (truthy v) Q X.xe s:=
 bS (yK pins s σ H x v (λb H'=>b=k/\H'=H) I r ⟨k,t,rfl,rfl⟩) λb s' ⟨H',I',e1,e2⟩=>by subst e1;subst e2;exact h s' I'
theorem uP{a b:Expr}{rest:List Expr}{pos:Pos}{ta tb:TE}(ha:PE X a ta)(hb:PE X (.BoolOp .And (b::rest) pos) tb):PE X (.BoolOp .And (a::b::rest) pos) (NZ X.K ta tb):=by
 intro pins s σ H Q I h;refine BoolOp_and (bS (ha pins s σ H _ I h) λv s1 ⟨x,H1,I1,r1,k,t,q1⟩=>?_);refine lH I1 r1 t λs2 I2=>?_;cases k with
 |true=>exact hb pins s2 σ H1 Q I2 q1
 |false=>exact⟨x,H1,I2,r1,q1⟩
theorem KD{a b:Expr}{rest:List Expr}{pos:Pos}{ta tb:TE}(ha:PE X a ta)(hb:PE X (.BoolOp .Or (b::rest) pos) tb):PE X (.BoolOp .Or (a::b::rest) pos) (SZ X.K ta tb):=by
 intro pins s σ H Q I h;refine BoolOp_or (bS (ha pins s σ H _ I h) λv s1 ⟨x,H1,I1,r1,k,t,q1⟩=>?_);refine lH I1 r1 t λs2 I2=>?_;cases k with
 |false=>exact hb pins s2 σ H1 Q I2 q1
 |true=>exact⟨x,H1,I2,r1,q1⟩
theorem uM{a:Expr}{pos:Pos}{ta:TE}(ha:PE X a ta):PE X (.UnaryOp .Not a pos) (NT X.K ta):=by
 intro pins s σ H Q I h;refine UnaryOp_ (bS (ha pins s σ H _ I h) λv s1 ⟨x,H1,I1,r1,k,t,q1⟩=>?_);exact not_of (lH I1 r1 t λs2 I2=>⟨.bl (!k),H1,I2,rfl,q1⟩)
theorem zF{op:BoolOp}{vs:List Expr}{pos:Pos}{t:TT}(h:PT X (.BoolOp op vs pos) t):PW X (.BoolOp op vs pos) t:=λwh pins s σ H Q I q=>by
 have:=h pins s σ H Q I q;exact this
theorem aS{e:Expr}(es:List Expr)(h:cX e=true):starEach (e::es) X.env=(false,eval e X.env)::starEach es X.env:=by
 cases e<;>first |rfl|(cases h;done)
end
section
variable {X:Cx}
end
noncomputable def tZ(K:W.Frag)(G:Gs)(cl:Cl):List Str->Es->List (TE×TE)
 |x::xs,.cons e l=>(tC (.str x),TDE K (ev G cl e))::tZ K G cl xs l
 |_,_=>[]
noncomputable def Es.len:Es->Nat
 |.nil=>0
 |.cons _ l=>l.len+1
theorem vF{G:Gs}{cl:Cl}{r:Ev}:∀{l:Es}{h h':Hh}{ds:List D},cM G cl l r h=.ok ds h'->ds.length=l.len
 |.nil,h,h',ds,e=>by
  rw[cM] at e;cases e;rfl
 |.cons e0 l,h,h',ds,e=>by
  rw[cM] at e;obtain⟨d,h1,e1,e⟩:=Rs.bind_ok e;obtain⟨ds',h2,e2,e⟩:=Rs.bind_ok e;cases e;rw[List.length_cons,vF e2];rfl
theorem lU{K:W.Frag}{G:Gs}{cl:Cl}{r:Ev}{σ:Sg}:∀{ks:List Str}{l:Es}{h h':Hh}{ds:List D}{m:List Addr}{H:Hp}{Q:List (V×V)->Hp->Prop},cM G cl l r h=.ok ds h'->ks.length=l.len->Wd K m h H->RSt K m H r σ->
 (∀m' us H',Gr K m H m' H'->Wd K m' h' H'->RDs K m' H' ds us->Q ((ks.map V.str).zip us) H')->oJ (tZ K G cl ks l) σ H Q
 | [],.nil,h,h',ds,m,H,Q,e,_,w,st,c=>by
   rw[cM] at e;cases e;exact c m [] H .refl w .nil
 |x::ks,.cons e0 l,h,h',ds,m,H,Q,e,hl,w,st,c=>by
  rw[cM] at e;obtain⟨d,h1,e1,e⟩:=Rs.bind_ok e;obtain⟨ds',h2,e2,e⟩:=Rs.bind_ok e;cases e;refine⟨m,r,h,d,h1,w,st,e1,λm1 v H1 g1 w1 rv=>?_⟩;exact lU (ks:=ks) (l:=l) e2 (by simpa [Es.len] using hl) w1 (st.mono g1) λm2 us H2 g2 w2 rus=>c m2 (v::us) H2 (g1.trans g2) w2 (.cons (rv.mono g2) rus)
 | [],.cons _ _,_,_,_,_,_,_,_,hl,_,_,_=>by simp[Es.len] at hl
 |_::_,.nil,_,_,_,_,_,_,_,hl,_,_,_=>by simp[Es.len] at hl
theorem NK:∀(ks:List Str)(us:List V),(ks.map V.str).zip us=((ks.map Sum.inr:List cH).zip us).map (λkv=>(kV kv.1,kv.2))
 | [],_=>rfl
 |_::_,[]=>rfl
 |k::ks,u::us=>by
  show(V.str k,u)::(ks.map V.str).zip us=(kV (Sum.inr k),u)::((ks.map Sum.inr:List cH).zip us).map _
  rw[NK ks us];rfl
theorem zZ:∀{ks:List Str},ks.Nodup->(ks.map Sum.inr:List cH).Nodup
 | [],_=>List.nodup_nil
 |k::ks,h=>by
  obtain⟨h1,h2⟩:=List.nodup_cons.mp h
  show((Sum.inr k:cH)::ks.map Sum.inr).Nodup
  refine List.nodup_cons.mpr ⟨λz=>?_,zZ h2⟩;obtain⟨a,ha,e⟩:=List.mem_map.mp z;cases e;exact h1 ha
theorem qV:∀(kvs acc:List (cH×V)),((acc++kvs).map (·.1)).Nodup->gL acc kvs=acc++kvs
 | [],acc,_=>by simp[gL]
 |p::kvs,acc,h=>by
  have hn:fK acc p.1=none:=by
   cases q:fK acc p.1 with
   |none=>rfl
   |some v=>
    have hm:=DA q;rw[List.map_append,Zh] at h;have:=(List.nodup_append.mp h).2.2 _ hm p.1 (by simp);exact absurd rfl this
  show gL (jD acc p.1 p.2) kvs=_;rw[zH _ hn,qV kvs (acc++ [(p.1,p.2)]) (by simpa using h)]
  simp
theorem lK:∀{ks:List Str}{keys:List (Option Expr)},gU ks keys=true->ks.length=keys.length/\keys.all (·.isSome)=true
 | [],[],_=>⟨rfl,rfl⟩
 |x::ks,k::keys,h=>by
  rcases k with _|k
  ·exact absurd (show false=true from h) Bool.false_ne_true
  cases k<;>first |exact absurd (show false=true from h) Bool.false_ne_true|skip
  rename_i cst j pos;cases cst<;>first |exact absurd (show false=true from h) Bool.false_ne_true|skip
  rename_i y;have h':(x==y&&gU ks keys)=true:=h;rw[Bool.and_eq_true] at h';obtain⟨a,b⟩:=lK h'.2;exact⟨by simp[a],by simp[b]⟩
 | [],_::_,h=>absurd (show false=true from h) Bool.false_ne_true
 |_::_,[],h=>absurd (show false=true from h) Bool.false_ne_true
theorem zS{X:Cx}{G:Gs}{cl:Cl}{ks:List Str}{vs:Es}{keys:List (Option Expr)}{vals:List Expr}{pos:Pos}(h0:0<ks.length)(hk:gU ks keys=true)(l3:vs.len=vals.length)
 (hp:NH X pos keys vals (tZ X.K G cl ks vs))(f:Ev->Hh->Rs D)(hf:∀r h,f r h=(cM G cl vs r (h++ [.dct []])).bind λds h'=>rL ks ds h.length h'):PE X (.Dict keys vals pos) (TDE X.K f):=by
 intro pins s σ H Q I ⟨m,r,h,d,h',w,st,e,c⟩;rw[hf] at e;obtain⟨ds,h1,e1,e⟩:=Rs.bind_ok e;unfold rL at e;split at e
 ·rename_i en;split at e
  ·rename_i hz;simp at e;obtain⟨rfl,rfl⟩:=e;obtain⟨l1,l2⟩:=lK hk;have l4:=vF e1;refine DY hp l2 (by omega) (λz=>by rw[z,List.length_nil] at l1;omega) (by omega) pins s σ H Q I λp hp0=>?_;obtain⟨w2,g2⟩:=w.objNew (o:=.dct []) (u:=.dK []) hp0 λ_=>⟨[],bB,rfl,.nil⟩;refine lU e1 (by omega) w2 (st.mono g2) λm3 us H3 g3 w3 rus=>?_;have hp3:m3[h.length]? =some p:=g3.pre _ _ (by rw[<- w.len];simp);obtain⟨us0,q1,q2,q3⟩:=w3.ob h.length _ p en hp3
   have e0:us0=[]:=by
    cases us0 with
    |nil=>rfl
    |cons a b=>simp at q2
   subst e0;have l5:=rus.length;refine⟨q1,(ks.map Sum.inr).zip us,?_,?_,?_⟩
   ·exact NK ks us
   ·simp;omega
   ·have nd:(((ks.map Sum.inr:List cH).zip us).map Prod.fst).Nodup:=by
     rw[List.map_fst_zip (by simp;omega)];exact zZ hz.2.1
    rw[qV _ [] (by rw[List.nil_append];exact nd),List.nil_append]
    obtain⟨w4,g4⟩:=w3.objSet (o':=.dct ((ks.map Sum.inr).zip ds)) (u:=.dK ((ks.map Sum.inr).zip us)) en rfl hp3 λg=>⟨_,bB,by
     rw[List.map_fst_zip (by simp;omega),List.map_fst_zip (by simp;omega)],by
     rw[List.map_snd_zip (by simp;omega),List.map_snd_zip (by simp;omega)];exact rus.mono g⟩
    exact c m3 _ _ ((g2.trans g3).trans g4) w4 (.ref hp3)
  ·cases e
 ·cases e
section
variable {X:Cx}
end
noncomputable def dU(env:Env)(p:Str×NameKind)(cs:List (Str×Addr)):List (Str×Addr):=if(p.2== .free)=true then(match env.cells.lookup p.1 with|some c=>(p.1,c)::cs|none=>cs) else cs
noncomputable def mQ(scope:Scope)(env:Env):List (Str×Addr):=scope.names.foldl (λcs p=>dU env p cs) []
theorem mH{f:Str×NameKind->List (Str×Addr)->Sem (ForInStep (List (Str×Addr)))}{g:Str×NameKind->List (Str×Addr)->List (Str×Addr)}:∀(l:List (Str×NameKind))(acc:List (Str×Addr)),(∀p∈l,∀cs,f p cs=pure (.yield (g p cs)))->forIn l acc f=pure (l.foldl (λcs p=>g p cs) acc)
 | [],acc,_=>rfl
 |p::l,acc,h=>by
  rw[List.forIn_cons,h p Zl]
  show(forIn l (g p acc) f)=_
  rw[mH l (g p acc) λq hq=>h q (Zj _ hq)];rfl
theorem iE{scope:Scope}{env:Env}(h:∀p∈scope.names,p.2=.free->∃c,env.cells.lookup p.1=some c):closureFor scope env=pure (mQ scope env):=by
 simp only[closureFor]
 rw[mH (g:=dU env) scope.names [] (λp hp cs=>by
  obtain⟨n,k⟩:=p;cases hk:(k==NameKind.free) with
  |false=>(simp only[hk,dU,Bool.false_eq_true,if_false]<;>rfl)
  |true=>
   obtain⟨c,hc⟩:=h (n,k) hp (by simpa using hk)
   (simp only[hk,dU,if_true,hc,cellOf]<;>rfl))]
 rfl
theorem CC{env:Env}:∀(l:List (Str×NameKind))(acc:List (Str×Addr)),(∀q∈acc,env.cells.lookup q.1=some q.2)->∀q∈l.foldl (λcs p=>dU env p cs) acc,env.cells.lookup q.1=some q.2
 | [],acc,h=>h
 |p::l,acc,h=>CC l (dU env p acc) λq hq=>by
  unfold dU at hq;split at hq
  ·split at hq
   ·rename_i c hc;rcases List.mem_cons.mp hq with rfl|hq
    ·exact hc
    ·exact h q hq
   ·exact h q hq
  ·exact h q hq
theorem CB{env:Env}:∀(l:List (Str×NameKind))(acc:List (Str×Addr))(q:Str×Addr),q∈acc->q∈l.foldl (λcs p=>dU env p cs) acc
 | [],acc,q,h=>h
 |p::l,acc,q,h=>CB l (dU env p acc) q (by
  unfold dU;split
  ·split
   ·exact Zj _ h
   ·exact h
  ·exact h)
theorem CD{env:Env}:∀(l:List (Str×NameKind))(acc:List (Str×Addr))(n:Str)(c:Addr),(n,NameKind.free)∈l->env.cells.lookup n=some c->(n,c)∈l.foldl (λcs p=>dU env p cs) acc
 | [],_,_,_,h,_=>by cases h
 |p::l,acc,n,c,h,hc=>by
  rcases List.mem_cons.mp h with rfl|h
  ·refine CB l (dU env (n,NameKind.free) acc) (n,c) ?_;unfold dU;rw[if_pos (by rfl)];simp only[hc];exact Zl
  ·exact CD l _ n c h hc
theorem eR{α:Type}{n:Str}{c:α}:∀{l:List (Str×α)},(n,c)∈l->∃c',l.lookup n=some c'
 | [],h=>by cases h
 |(m,d)::l,h=>by
  cases e:n==m with
  |true=>exact⟨d,by simp[List.lookup_cons,e]⟩
  |false=>
   rcases List.mem_cons.mp h with z|z
   ·cases z;simp at e
   ·obtain⟨c',hc'⟩:=eR z;exact⟨c',by simp only[List.lookup_cons,e];exact hc'⟩
theorem bW{scope:Scope}{env:Env}{n:Str}{c:Addr}(h:(mQ scope env).lookup n=some c):env.cells.lookup n=some c:=
 CC scope.names [] (λ_ hq=>by cases hq) (n,c) (PySem.mem_of_lookup h)
theorem rQ{scope:Scope}{env:Env}{n:Str}{c:Addr}(h:(n,NameKind.free)∈scope.names)(hc:env.cells.lookup n=some c):(mQ scope env).lookup n=some c:=by
 obtain⟨c',hc'⟩:=eR (CD scope.names [] n c h hc);have:=bW hc';rw[hc] at this;cases this;exact hc'
theorem oO{scope sc:Scope}{x:Str}{k':NameKind}(h:(eI scope sc).names.lookup x=some k'):∃k,scope.names.lookup x=some k/\(k'=k\/(k=.free/\k'=.cell)):=by
 unfold eI at h
 have go:∀(l:List (Str×NameKind)),(l.map λ(n,k)=>if(k== .free&&sc.kind== .function&&sc.names.lookup n==some .cell) then(n,NameKind.cell) else(n,k)).lookup x=some k'->∃k,l.lookup x=some k/\(k'=k\/(k=.free/\k'=.cell)):=by
  intro l
  induction l with
  |nil=>intro h;simp at h
  |cons p l ih=>
   intro h;obtain⟨n,k⟩:=p;cases e:x==n with
   |true=>
    refine⟨k,by simp[List.lookup_cons,e],?_⟩;simp only[Zh] at h
    by_cases hc:(k== .free&&sc.kind== .function&&sc.names.lookup n==some .cell)=true
    ·rw[if_pos hc] at h;simp only[List.lookup_cons,e] at h;simp only[Bool.and_eq_true,beq_iff_eq] at hc;exact .inr ⟨hc.1.1,(Zg h).symm⟩
    ·rw[if_neg hc] at h;simp only[List.lookup_cons,e] at h;exact .inl (Zg h).symm
   |false=>
    simp only[Zh] at h
    have h':(l.map λ(n,k)=>if(k== .free&&sc.kind== .function&&sc.names.lookup n==some .cell) then(n,NameKind.cell) else(n,k)).lookup x=some k':=by
     by_cases hc:(k== .free&&sc.kind== .function&&sc.names.lookup n==some .cell)=true
     ·rw[if_pos hc] at h;simp only[List.lookup_cons,e] at h;exact h
     ·rw[if_neg hc] at h;simp only[List.lookup_cons,e] at h;exact h
    obtain⟨k2,e2,e3⟩:=ih h';exact⟨k2,by simp only[List.lookup_cons,e];exact e2,e3⟩
 exact go scope.names h
theorem sK{scope sc:Scope}{x:Str}(h:scope.names.lookup x=some .free)(hk:sc.kind=.function)(hc:sc.names.lookup x=some .cell):(eI scope sc).names.lookup x=some .cell:=by
 unfold eI
 have go:∀(l:List (Str×NameKind)),l.lookup x=some .free->(l.map λ(n,k)=>if(k== .free&&sc.kind== .function&&sc.names.lookup n==some .cell) then(n,NameKind.cell) else(n,k)).lookup x=some .cell:=by
  intro l
  induction l with
  |nil=>intro h;simp at h
  |cons p l ih=>
   intro h;obtain⟨n,k⟩:=p;cases e:x==n with
   |true=>
    have ex:x=n:=by simpa using e
    subst ex;simp only[List.lookup_cons,e] at h;cases h;simp[Zh,hk,hc]
   |false=>
    simp only[List.lookup_cons,e] at h;simp only[Zh]
    by_cases hc:(k== .free&&sc.kind== .function&&sc.names.lookup n==some .cell)=true
    ·rw[if_pos hc];simp only[List.lookup_cons,e];exact ih h
    ·rw[if_neg hc];simp only[List.lookup_cons,e];exact ih h
 exact go scope.names h
theorem jE:∀{l:List Str},lX l=true->l.Nodup
 | [],_=>List.nodup_nil
 |x::l,h=>by
  have h':(!l.contains x&&lX l)=true:=h;simp only[Bool.and_eq_true,Bool.not_eq_true'] at h';refine List.nodup_cons.mpr ⟨λhx=>?_,jE h'.2⟩;have:=h'.1;simp[hx] at this
structure ScOk (scope sc:Scope):Prop where
 kind:scope.kind=.function
 out:sc.kind=.function
 nd:(scope.names.map (·.1)).Nodup
 loc:∀p∈scope.names,p.2=.local->scope.names.lookup p.1=some .local
 free:∀p∈scope.names,p.2=.free->sc.names.lookup p.1=some .cell
theorem DJ{scope sc:Scope}(h:JS scope sc=true):ScOk scope sc:=by
 unfold JS at h;simp only[Bool.and_eq_true,beq_iff_eq,List.all_eq_true,Bool.or_eq_true,Bool.not_eq_true'] at h;obtain⟨⟨⟨h1,h2⟩,h0⟩,h3⟩:=h;refine⟨h1,h2,jE h0,λp hp e=>?_,λp hp e=>?_⟩
 ·rcases(h3 p hp).1 with z|z
  ·rw[e] at z;simp at z
  ·simpa using z
 ·rcases(h3 p hp).2 with z|z
  ·rw[e] at z;simp at z
  ·simpa using z
theorem jH{α:Type}{x:Str}{k:α}:∀{l:List (Str×α)},(l.map (·.1)).Nodup->(x,k)∈l->l.lookup x=some k
 | [],_,h=>by cases h
 |(y,j)::l,nd,h=>by
  rw[Zh,List.nodup_cons] at nd;rcases List.mem_cons.mp h with e|h2
  ·cases e;simp[List.lookup_cons]
  ·have ne:(x==y)=false:=by
    rw[beq_eq_false_iff_ne];rintro rfl;exact nd.1 (List.mem_map.mpr ⟨(x,k),h2,rfl⟩)
   rw[List.lookup_cons,ne];exact jH nd.2 h2
theorem wN{scope:Scope}{env:Env}{x:Str}(h:scope.names.lookup x=some .cell):(relabel scope env).names.lookup x=some .cell:=by
 unfold relabel
 have go:∀(l:List (Str×NameKind)),l.lookup x=some .cell->(l.map λ(n,k)=>if(k== .free&&env.scope.kind== .function&&env.kindOf n==some .cell) then(n,NameKind.cell) else(n,k)).lookup x=some .cell:=by
  intro l
  induction l with
  |nil=>intro h;simp at h
  |cons p l ih=>
   intro h;obtain⟨n,k⟩:=p;cases e:x==n with
   |true=>
    simp only[List.lookup_cons,e] at h;cases h;simp[Zh,List.lookup_cons,e]
   |false=>
    simp only[List.lookup_cons,e] at h;simp only[Zh]
    by_cases hc:(k== .free&&env.scope.kind== .function&&env.kindOf n==some .cell)=true
    ·rw[if_pos hc];simp only[List.lookup_cons,e];exact ih h
    ·rw[if_neg hc];simp only[List.lookup_cons,e];exact ih h
 exact go scope.names h
theorem dG:∀(names:List (Str×NameKind))(n:Nat)(acc:List (Str×Addr)),cellsFrom n names acc=cellsFrom n names []++acc
 | [],_,_=>rfl
 |(x,k)::r,n,acc=>by
  unfold cellsFrom;split
  ·rw[dG r (n+1) ((x,n)::acc),dG r (n+1) [(x,n)]];simp
  ·exact dG r n acc
theorem fJ:∀(names:List (Str×NameKind))(n:Nat)(x:Str)(c:Addr),(x,c)∈cellsFrom n names []->(x,NameKind.cell)∈names
 | [],_,_,_,h=>by cases h
 |(y,k)::r,n,x,c,h=>by
  unfold cellsFrom at h;split at h
  ·rename_i hk;rw[dG] at h;rcases List.mem_append.mp h with h|h
   ·exact Zj _ (fJ r _ x c h)
   ·have e:(x,c)=(y,n):=by simpa using h
    cases e;have hk':k=.cell:=by simpa using hk
    subst hk';exact Zl
  ·exact Zj _ (fJ r _ x c h)
noncomputable def yE(scope:Scope)(env:Env)(C:Addr):List (Str×Addr):=cellsFrom (C+1) scope.names (mQ scope env)
structure BCs (scope:Scope)(env:Env)(C:Addr)(h1:Heap):Prop where
 old:∀x,(x,NameKind.free)∈scope.names->(yE scope env C).lookup x=(mQ scope env).lookup x
 new:∀x,scope.names.lookup x=some .cell->∃c,(yE scope env C).lookup x=some c
 inv:∀x c,(yE scope env C).lookup x=some c->(mQ scope env).lookup x=some c\/(C<c/\h1.IsCell c none/\∀y,(yE scope env C).lookup y=some c->C<c->x=y)
 cellNew:∀x c,scope.names.lookup x=some .cell->(yE scope env C).lookup x=some c->C<c
theorem CI{scope sc:Scope}{env:Env}{C:Addr}{h1:Heap}(S:ScOk scope sc)(hlow:∀x c,env.cells.lookup x=some c->c<C)(ok:CellsOk h1 (C+1) (cellsFrom (C+1) scope.names [])):BCs scope env C h1:=by
 have spl:∀x,(yE scope env C).lookup x=((cellsFrom (C+1) scope.names []).lookup x).or ((mQ scope env).lookup x):=λx=>by
  unfold yE;rw[dG,List.lookup_append]
 have inv:∀x c,(yE scope env C).lookup x=some c->(cellsFrom (C+1) scope.names []).lookup x=some c\/((cellsFrom (C+1) scope.names []).lookup x=none/\(mQ scope env).lookup x=some c):=λx c e=>by
  rw[spl] at e;cases q:(cellsFrom (C+1) scope.names []).lookup x with
  |none=>rw[q] at e;exact .inr ⟨rfl,e⟩
  |some c'=>rw[q] at e;exact .inl e
 refine⟨λx hx=>?_,λx hx=>?_,λx c e=>?_,λx c hx e=>?_⟩
 ·rw[spl];cases q:(cellsFrom (C+1) scope.names []).lookup x with
  |none=>rfl
  |some c=>
   have z:=jH S.nd (fJ _ _ _ _ (PySem.mem_of_lookup q));rw[jH S.nd hx] at z;cases z
 ·have q:=W.cellsFrom_some scope.names (C+1) [] (.inl hx);obtain⟨c,hc⟩:=Option.isSome_iff_exists.mp q;exact⟨c,by rw[spl,hc];rfl⟩
 ·rcases inv x c e with q|⟨_,q⟩
  ·have m:=ok.empty x c (PySem.mem_of_lookup q);refine .inr ⟨m.2,m.1,λy ey _=>?_⟩;rcases inv y c ey with q'|⟨_,q'⟩
   ·exact name_of_addr ok.apart (PySem.mem_of_lookup q) (PySem.mem_of_lookup q')
   ·exact absurd (hlow y c (bW q')) (Nat.not_lt.mpr (Nat.le_of_lt m.2))
  ·exact .inl q
 ·rcases inv x c e with q|⟨q0,q⟩
  ·exact(ok.empty x c (PySem.mem_of_lookup q)).2
  ·have q2:=W.cellsFrom_some scope.names (C+1) [] (.inl hx);rw[q0] at q2;cases q2
noncomputable def dF(X:Cx)(N':List Str)(scope:Scope)(C:Addr)(s3:Shared)(H3:Hp)(fp:List Addr):Cx:=
 {X with N:=N',s₀:=s3,H₀:=H3,env:=compEnvC scope (yE scope X.env C) C X.env,outer:=X.stack,stack:=X.stack,ex:=fp,fn:=λx=>scope.names.lookup x==some .cell,pn:= [],xe:=λ_ _=>False}
noncomputable def tS(N':List Str)(cap:List Nat)(σ:Sg):Sg:=List.replicate (N'.length-cap.length) none++cap.map λ(i:Nat)=>(match σ[i]? with|some x=>x|none=>none)
section
variable {X:Cx}{pins:List (Addr×Obj)}{σ:Sg}{H3:Hp}{s3:Shared}{N':List Str}{scope:Scope}{fp:List Addr}{cap:List Nat}
theorem oB(I:Inv X pins σ H3 s3)(S:ScOk scope X.env.scope)(hcap:cap.length<=N'.length)(hN:(N'.drop (N'.length-cap.length)).map some=cap.map (λ(i:Nat)=>X.N[i]?))(hfr:∀x∈N'.drop (N'.length-cap.length),scope.names.lookup x=some .free)
 {h1:Heap}{tk:Nat}{m:Str->Option Value}(hns:h1.Ns s3.heap.objs.size m)(keep:∀b o,s3.heap.get? b=some o->h1.get? b=some o)(B:BCs scope X.env s3.heap.objs.size h1)
 (hfp:∀b∈fp,iG X pins H3 b)(hob:∀b∈fp,b<s3.heap.objs.size)(hfb:∀b∈fp,∀o,X.base.get? b≠some o):Inv (dF X N' scope s3.heap.objs.size s3 H3 fp) [] (tS N' cap σ) H3 {s3 with heap:=h1,toks:=tk}:=by
 have stkN:∀b,b≠X.env.locals->b ∉ X.fs->b ∉ fC X.stack:=λb h1 h2 hb=>(List.mem_cons.mp (I.stkSub b hb)).elim h1 h2;have kd:X.env.scope.kind=.function:=I.ok.kind
 have cellFree:∀x,(eI scope X.env.scope).names.lookup x=some .cell\/(eI scope X.env.scope).names.lookup x=some .free->(x,NameKind.free)∈scope.names\/scope.names.lookup x=some .cell:=λx hx=>by
  have:∃k',(k'=NameKind.cell\/k'=.free)/\(eI scope X.env.scope).names.lookup x=some k':=by
   rcases hx with h|h
   ·exact⟨_,.inl rfl,h⟩
   ·exact⟨_,.inr rfl,h⟩
  obtain⟨k',hk',h⟩:=this;obtain⟨k,e1,e2⟩:=oO h;have hm:=PySem.mem_of_lookup e1;rcases e2 with rfl|⟨rfl,_⟩
  ·rcases hk' with rfl|rfl
   ·exact .inr e1
   ·exact .inl hm
  ·exact .inl hm
 have lowC:∀x c,X.env.cells.lookup x=some c->c<s3.heap.objs.size:=λx c e=>let⟨_,q⟩:=I.cell x c e;q.lt;have hasC:∀x,(x,NameKind.free)∈scope.names->∃c,X.env.cells.lookup x=some c:=λx hx=>I.ok.has x (.inl (S.free _ hx rfl))
 refine⟨⟨I.ok.mod,by show(relabel scope X.env).kind=_;exact S.kind,I.ok.glob,I.ok.blt,Zn _,λx y c h1 h2=>?_,λx hx=>?_,λx c h e=>Nat.le_of_lt (B.cellNew x c (beq_iff_eq.mp h) e),I.ok.hd,I.ok.frames,.inl rfl,λb hb=>⟨Nat.ne_of_lt (hob b hb),λx c e=>?_⟩,I.bs,Nat.le_trans I.ok.bsz I.sz,λb o e hb=>hfb b hb o e,λb hb=>stkN b (hfp b hb).2.1 (hfp b hb).2.2.1,I.stack,I.stkFree⟩,
  rfl,I.bare,Un.kept keep,⟨m,hns,λi x v e1 e2 e3=>?_⟩,λx c e=>?_,I.hok.fresh (Zn _),λx c e=>?_,λp hp=>absurd (show p∈([]:List (Addr×Obj)) from hp) (by simp),I.hok.kept keep,?_⟩
 ·rcases B.inv x c h1 with a|⟨a1,_,a3⟩
  ·rcases B.inv y c h2 with b|⟨b1,_,_⟩
   ·exact I.ok.inj x y c (bW a) (bW b)
   ·exact absurd (lowC x c (bW a)) (Nat.not_lt.mpr (Nat.le_of_lt b1))
  ·exact a3 y h2 a1
 ·rcases cellFree x hx with hf|hf
  ·obtain⟨c,hc⟩:=hasC x hf;exact⟨c,(B.old x hf).trans (rQ hf hc)⟩
  ·exact B.new x hf
 ·rcases B.inv x c e with a|⟨a1,_,_⟩
  ·exact(hfp b hb).2.2.2.2.1 x c (bW a)
  ·exact Nat.ne_of_gt (Nat.lt_trans (hob b hb) a1)
 ·-- a captured name
  have hi:¬i<N'.length-cap.length:=λhi=>by
   unfold tS at e2;rw[List.getElem?_append_left (by simpa using hi),List.getElem?_replicate] at e2;split at e2<;>cases e2
  have e1':N'[i]? =some x:=e1;have hiN:i<N'.length:=(Ze.mp e1').1;unfold tS at e2;rw[List.getElem?_append_right (by simpa using hi),List.length_replicate,Zi] at e2
  have hd:(N'.drop (N'.length-cap.length))[i-(N'.length-cap.length)]? =some x:=by
   rw[List.getElem?_drop];rw[show N'.length-cap.length+(i-(N'.length-cap.length))=i by omega];exact e1'
  cases ec:cap[i-(N'.length-cap.length)]? with
  |none=>rw[ec] at e2;cases e2
  |some j=>
   rw[ec] at e2
   have hj:X.N[j]? =some x:=by
    have z:=congrArg (λl=>l[i-(N'.length-cap.length)]?) hN;simp only[Zi,hd,ec,Option.map_some] at z;exact(Zg z).symm
   have hσ:σ[j]? =some (some v):=by
    have e2':(match σ[j]? with|some x=>x|none=>none)=some v:=Zg e2;cases q:σ[j]? with
    |none=>rw[q] at e2';cases e2'
    |some y=>rw[q] at e2';exact congrArg some e2'
   have hxf:scope.names.lookup x=some .free:=hfr x (List.mem_of_getElem? hd);have hxc:=S.free _ (PySem.mem_of_lookup hxf) rfl;obtain⟨m0,hn0,hl0⟩:=I.loc;obtain⟨u,ru,l0⟩:=hl0 j x v hj hσ (.inr (.inl hxc));refine⟨u,ru,.inr ⟨.inl ?_,?_⟩⟩
   ·show(relabel scope X.env).names.lookup x=some .cell
    exact sK (sc:=X.env.scope) hxf kd hxc
   ·rcases l0 with ⟨z,_⟩|⟨_,c,hc,o,ho,hd'⟩
    ·have z':X.env.scope.names.lookup x=some .local:=z;rw[hxc] at z';cases z'
    ·exact⟨c,(B.old x (PySem.mem_of_lookup hxf)).trans (rQ (PySem.mem_of_lookup hxf) hc),o,keep c o ho,hd'⟩
 ·rcases B.inv x c e with a|⟨_,a2,_⟩
  ·obtain⟨v,o,ho,hd⟩:=I.cell x c (bW a);exact⟨v,o,keep c o ho,hd⟩
  ·exact⟨_,a2⟩
 ·rcases B.inv x c e with a|⟨a1,_,_⟩
  ·exact I.freeC x c (bW a)
  ·exact I.hok.fresh (Nat.le_of_lt a1)
 ·unfold tS;show _=N'.length;rw[List.length_append,List.length_replicate,Zc];omega
end
theorem fA{M:Model}{A:Around}{E:Value->Shared->Prop}{scope:Scope}{env:Env}{s:Shared}{Q:Env->Shared->Prop}
 (h:∀h1:Heap,h1.Ns s.heap.objs.size (λ_=>none)->(∀b o,s.heap.get? b=some o->h1.get? b=some o)->CellsOk h1 (s.heap.objs.size+1) (cellsFrom (s.heap.objs.size+1) scope.names [])->
   Q (newEnv scope s.heap.objs.size env.globals (yE scope env s.heap.objs.size) env.qual none .none (some env) builtinsNs) {s with heap:=h1}):
 wpAny M A (newFunctionEnv scope env.globals (mQ scope env) [] env.qual none .none (some env)) Q E s:=by
 simp only[newFunctionEnv,Option.isSome_some,if_true];refine Za (wpAny_alloc ?_);refine Za (wpAny_layCells _ (λname kind cells=>by cases hkc:kind==NameKind.cell<;>simp[hkc]) _ _ _ _ ?_);have hsz:(s.heap.push {cls:=.type "dict",data:=.dict #[]}).objs.size=s.heap.objs.size+1:=Heap.size_push ..;have ok:=cellsFrom_ok scope.names (s.heap.push {cls:=.type "dict",data:=.dict #[]}) (s.heap.objs.size+1) [] ⟨λ_ _ hm=>(nomatch hm),List.Pairwise.nil⟩ (by rw[hsz];exact Zn _);rw[hsz] at ok;rw[show({s with heap:=s.heap.push {cls:=.type "dict",data:=.dict #[]}}:Shared).heap.objs.size=s.heap.objs.size+1 from hsz];refine Za (wpAny_of_eq (List.forIn_nil ..) (Zb ?_));exact h _ ((Heap.Ns.new s.heap (.type "dict")).keeps (pushCells_keeps _ _)) (λb o e=>pushCells_keeps _ _ b o (Zf _ e)) ok
noncomputable def fW(ifs:List Expr)(env:Env)(b:Bool):Sem Bool:=forIn ifs b λc r=>if r=true then do let ok <- isTrue c env (eval c env);pure (ForInStep.yield ok) else pure (ForInStep.yield r)
theorem xR{elt tg iter:Expr}{ifs:List Expr}{scope:Scope}{pos:Pos}{it acc:Value}{env:Env}{P:Program}{w:World}{A:Around}{R:Result->Shared->Prop}{s:Shared}(J:Nat->Shared->Prop)
 (turn:∀k s,J k s->wpAny (model P w) A (pyNext it) (λr s1=>match r with
   |none=>R (.ok .next) s1
   |some v=>wpAny (model P w) A (letOwnedTupleGo tg it v) (λ_ s2=>wpAny (model P w) A (assign tg env v) (λ_ s3=>wpAny (model P w) A (fW ifs env true) (λok s4=>
     if ok=true then wpAny (model P w) A (eval elt env) (λx s5=>wpAny (model P w) A (call (.builtin "list.append") [acc,x]) (λ_ s6=>∃k',k'<k/\J k' s6) oW s5) oW s4
     else ∃k',k'<k/\J k' s4) oW s3) oW s2) oW s1) oW s)
 (k:Nat)(h:J k s):codeAny (model P w) A (.compLoop (.ListComp elt [⟨tg,iter,ifs,0⟩] scope pos) 0 it acc env) R s:=by
 refine codeAny_loop (I:=J) rfl (turn:=λk s hk=>?_) k h;show wpAny _ A (Sem.onRaise (compTurn (.ListComp elt [⟨tg,iter,ifs,0⟩] scope pos) 0 it acc env) (λx=>do noteFrame x env;theTreesLotGoes x)) _ _ s;refine wpAny_noted ?_;rw[compTurn_list];have no:∀{E:Value->Shared->Prop}(e:Value)(s:Shared),oW e s->E e s:=λ_ _ f=>f.elim;refine Za (wpAny_standAt (Za (wpAny_mono (turn k s hk) (λr s1 q1=>?_) no)));cases r with
 |none=>exact Zb q1
 |some v=>
  refine Za (wpAny_mono q1 (λ_ s2 q2=>Za (wpAny_mono q2 (λ_ s3 q3=>Za (wpAny_mono q3 (λok s4 q4=>?_) no)) no)) no);cases ok with
  |false=>exact Zb ⟨rfl,q4⟩
  |true=>exact Za (Za (wpAny_mono q4 (λx s5 q5=>Za (wpAny_mono q5 (λ_ s6 q6=>Zb (Zb ⟨rfl,q6⟩)) no)) no))
noncomputable def yF(K:W.Frag)(t:Tg):TG:=λv s H Q=>∃m h r d r',Wd K m h H/\RSt K m H r s/\RD K m H d v/\dO t d r=some r'/\∀s',RSt K m H r' s'->Q s' H
def NF(K:W.Frag)(f:Ev->Hh->Rs Bool):TT:=λs H Q=>∃m r h b h',Wd K m h H/\RSt K m H r s/\f r h=.ok b h'/\∀m' H',Gr K m H m' H'->Wd K m' h' H'->Q b H'
def QV(X:Cx)(ifs:List Expr)(t:TT):Prop:=∀(pins:List (Addr×Obj))(s:Shared)(σ:Sg)(H:Hp)(Q:Bool->Hp->Prop),Inv X pins σ H s->t σ H Q->wpAny (model X.prog X.w) X.A (fW ifs X.env true) (TP X pins σ Q) X.xe s
def Stp(K:W.Frag)(t:Tg)(cs:Ev->Hh->Rs Bool)(f:Ev->Hh->Rs D)(n0:Nat)(h':Hh)(J:It)(Lp:Nat->Nat->Ev->Hh->Prop)(i k:Nat)(r:Ev)(h:Hh)(m:List Addr)(H:Hp):Prop:=
 (J.stop i H/\h=h')\/(J.go i H/\∃d,(∀x H2,J.yld i H x H2->Gr K m H m H2/\Wd K m h H2/\RD K m H2 d x)/\∃r1,dO t d r=some r1/\∃b h1,cs r1 h=.ok b h1/\
   if b=true then ∃y h2 z h3,f r1 h1=.ok y h2/\eM (.ref n0) y h2=.ok z h3/\∃k',k'<k/\Lp (i+1) k' r1 h3 else ∃k',k'<k/\Lp (i+1) k' r1 h1)
section
variable {X:Cx}{G:Gs}{ca:Nat->Addr}{cl:Cl}{N':List Str}{scope:Scope}{cap:List Nat}{tg elt iter:Expr}{ifs:List Expr}{pos:Pos}{t:Tg}{ft:Ev->Hh->Rs Bool}{fe:Ev->Hh->Rs D}
theorem mX{K:W.Frag}{m:List Addr}{H:Hp}{r:Ev}{σ:Sg}(st:RSt K m H r σ):RSt K m H (aR N' cap r) (tS N' cap σ):=by
 refine⟨by simp[aR,tS],λi d e=>?_⟩;unfold aR at e;unfold tS
 by_cases hi:i<N'.length-cap.length
 ·rw[List.getElem?_append_left (by simpa using hi),List.getElem?_replicate] at e;split at e<;>cases e
 ·rw[List.getElem?_append_right (by simpa using hi),List.length_replicate,Zi] at e;rw[List.getElem?_append_right (by simpa using hi),List.length_replicate,Zi];cases ec:cap[i-(N'.length-cap.length)]? with
  |none=>rw[ec] at e;cases e
  |some j=>
   rw[ec] at e;have e':CG r j=some d:=Zg e
   have hr:r[j]? =some (some d):=by
    unfold CG at e';cases q:r[j]? with
    |none=>rw[q] at e';cases e'
    |some y=>rw[q] at e';exact congrArg some e'
   obtain⟨v,hv,rv⟩:=st.2 j d hr;refine⟨v,?_,rv⟩;show some (match σ[j]? with|some x=>x|none=>none)=some (some v);rw[hv]
theorem nY{pins:List (Addr×Obj)}{σ:Sg}{H2:Hp}{s2:Shared}{J:It}{fp:List Addr}{it:Addr}{tn:Nat->Heap->Prop}{m2:List Addr}{h2 h':Hh}{r:Ev}(S:ScOk scope X.env.scope)(hcap:cap.length<=N'.length)
 (hN:(N'.drop (N'.length-cap.length)).map some=cap.map (λ(i:Nat)=>X.N[i]?))(hfr:∀x∈N'.drop (N'.length-cap.length),scope.names.lookup x=some .free)(calm:X.calm=true)
 (blk:∀(C:Addr)(s3:Shared)(H3:Hp)(fp:List Addr),PG (dF X N' scope C s3 H3 fp) tg (yF X.K t)/\QV (dF X N' scope C s3 H3 fp) ifs (NF X.K ft)/\PE (dF X N' scope C s3 H3 fp) elt (TDE X.K fe))
 (I:Inv X pins σ H2 s2)(T:Turn X.prog X.w X.K tg J fp it tn)(st:tn 0 s2.heap)(fok:∀b∈fp,iG X pins H2 b)(w2:Wd X.K m2 h2 H2)(rst:RSt X.K m2 H2 r σ)
 (Lp:Nat->Nat->Ev->Hh->Prop)(k0:Nat)(L0:Lp 0 k0 (aR N' cap r) (h2++ [.lst []]))(hst:∀i k r h m H,Gr X.K m2 H2 m H->Wd X.K m h H->Lp i k r h->Stp X.K t ft fe h2.length h' J Lp i k r h m H)
 {Rr:Value->Addr->Result->Shared->Prop}
 (c:∀(acc C:Addr)(s1:Shared)(H':Hp)(m':List Addr),Inv X pins σ H' s1->(∃mm,s1.heap.Ns C mm)->H' C=none->C≠X.env.locals->X.s₀.heap.objs.size<=C->(∀x a,X.env.cells.lookup x=some a->a≠C)->(∀p∈X.pn++pins,p.1≠C)->Gr X.K m2 H2 m' H'->Wd X.K m' h' H'->RD X.K m' H' (.ref h2.length) (.ref acc)->Rr (.ref acc) C (.ok .next) s1):
 wpAny (model X.prog X.w) X.A (newList []) (λacc s3=>wpAny (model X.prog X.w) X.A (newFunctionEnv scope X.env.globals (mQ scope X.env) [] X.env.qual none .none (some X.env)) (λcenv s4=>
  codeAny (model X.prog X.w) X.A (.compStart (.ListComp elt [⟨tg,iter,ifs,0⟩] scope pos) 0 (.ref it) acc {cenv with scope:=relabel scope X.env}) (Rr acc cenv.locals) s4) X.xe s3) X.xe s2:=by
 have fob:∀b∈fp,b<s2.heap.objs.size:=λb hb=>let⟨o,e,_⟩:=T.obj 0 _ st b hb;Heap.lt_size e
 have ffb:∀b∈fp,∀o,X.base.get? b≠some o:=λb hb o e=>by
  rcases(fok b hb).2.2.2.1 with z|z
  ·exact I.ok.noex b o e z
  ·exact absurd (Nat.lt_of_lt_of_le (Heap.lt_size (I.ok.bs b o e).1) z) (Nat.lt_irrefl _)
 have hacc0:H2 s2.heap.objs.size=none:=I.hok.fresh (Zn _);refine wpAny_newObj_type (fA (λh1 hns keep cok=>?_));dsimp only at hns keep cok⊢;obtain⟨w3,g3⟩:=w2.lstNew (ds:= []) (vs:= []) hacc0 .nil
 have I3:Inv X pins σ (bV H2 s2.heap.objs.size (.lst [])) {s2 with heap:=s2.heap.push {cls:=.type "list",dict:=none,data:=.seq ([]:List Value).toArray}}:=
  I.laid (t':=s2.toks) (λb u e=>Zf _ e) (Zn _) ⟨Nat.zero_le _,[],0,.nil,Heap.get?_push_size _ rfl⟩
 have fok3:∀b∈fp,iG X pins (bV H2 s2.heap.objs.size (.lst [])) b:=λb hb=>⟨by rw[aM (Nat.ne_of_lt (fob b hb))];exact(fok b hb).1,(fok b hb).2⟩;have st3:tn 0 h1:=T.keep _ _ _ st λb hb o e=>keep b o (Zf _ e);have B:=CI (env:=X.env) S (λx c e=>let⟨_,q⟩:=I3.cell x c e;q.lt) cok
 have I4:=oB (N':=N') (scope:=scope) (fp:=fp) (cap:=cap) I3 S hcap hN hfr (h1:=h1) (tk:=s2.toks) hns keep B fok3 (λb hb=>by
  show b<(s2.heap.push _).objs.size;rw[Heap.size_push];exact Nat.lt_succ_of_lt (fob b hb)) ffb
 have hsz:(s2.heap.push {cls:=.type "list",dict:=none,data:=.seq ([]:List Value).toArray}).objs.size=s2.heap.objs.size+1:=Heap.size_push ..;generalize hs3:({s2 with heap:=s2.heap.push {cls:=.type "list",dict:=none,data:=.seq ([]:List Value).toArray}}:Shared)=s3 at I3 I4;have eh3:s2.heap.push {cls:=.type "list",dict:=none,data:=.seq ([]:List Value).toArray}=s3.heap:=by rw[<- hs3]
 rw[eh3] at hns keep cok B hsz⊢;generalize hH3:bV H2 s2.heap.objs.size (.lst [])=H3 at I3 I4 w3 g3 fok3;obtain⟨bG,bT,bE⟩:=blk s3.heap.objs.size s3 H3 fp;have ha:(m2++ [s2.heap.objs.size])[h2.length]? =some s2.heap.objs.size:=by rw[<- w2.len];simp
 have stkN:∀b,b≠X.env.locals->b ∉ X.fs->b ∉ fC X.stack:=λb h1 h2 hb=>(List.mem_cons.mp (I3.stkSub b hb)).elim h1 h2
 have fokB:∀{H:Hp},(∀b∈fp,H b=none)->∀b∈fp,iG (dF X N' scope s3.heap.objs.size s3 H3 fp) [] H b:=λhn b hb=>
  ⟨hn b hb,Nat.ne_of_lt (by rw[hsz];exact Nat.lt_succ_of_lt (fob b hb)),stkN b (fok b hb).2.1 (fok b hb).2.2.1,.inl hb,λx c e=>(B.inv x c e).elim (λa=>(fok b hb).2.2.2.2.1 x c (bW a)) (λa=>Nat.ne_of_gt (Nat.lt_trans (by rw[hsz];exact Nat.lt_succ_of_lt (fob b hb)) a.1)),λp hp=>absurd (show p∈([]:List (Addr×Obj)) from hp) (by simp)⟩
 have hw:X.w=X.w:=rfl
 have loop:∀s4:Shared,s4={s3 with heap:=h1,toks:=s2.toks}->codeAny (model X.prog X.w) X.A (.compLoop (.ListComp elt [⟨tg,iter,ifs,0⟩] scope pos) 0 (.ref it) (.ref s2.heap.objs.size) (compEnvC scope (yE scope X.env s3.heap.objs.size) s3.heap.objs.size X.env)) (Rr (.ref s2.heap.objs.size) s3.heap.objs.size) s4:=by
  rintro s4 rfl
  refine xR (λk s=>∃i σ' H' m r h,Inv (dF X N' scope s3.heap.objs.size s3 H3 fp) [] σ' H' s/\tn i s.heap/\(∀b∈fp,H' b=none)/\Gr X.K (m2++ [s2.heap.objs.size]) H3 m H'/\Wd X.K m h H'/\RSt X.K m H' r σ'/\Lp i k r h) ?_ k0
   ⟨0,_,H3,_,_,_,I4,st3,λb hb=>(fok3 b hb).1,.refl,w3,mX (rst.mono g3),L0⟩
  rintro k s ⟨i,σ',H',m,r',h,I',st',fr',g',w',rst',L⟩;rcases hst i k r' h m H' (g3.trans g') w' L with ⟨stop,rfl⟩|⟨go,d,hy,r1,er,b,hb1,eb,rest⟩
  ·refine bS (T.done (dF X N' scope s3.heap.objs.size s3 H3 fp) rfl rfl rfl calm i [] s σ' H' oW I' (fokB fr') st' stop) λres s1 ⟨hr,I1⟩=>?_;subst hr;obtain⟨mm,hn1,_⟩:=id I1.loc;obtain⟨hp1,gg,dr,tk,os⟩:=s1;obtain rfl:os=s3.os:=I1.os;have IX:Inv X pins σ H' {s3 with heap:=hp1,gens:=gg,drawn:=dr,toks:=tk}:=I3.call (ch:=fp) I1.base I1.hok I1.bare λb hb=>⟨(fok3 b hb).2.2.2.1,(fok3 b hb).2.1,(fok3 b hb).2.2.2.2.1,(fok3 b hb).2.2.2.2.2⟩
   exact c _ _ _ H' m IX ⟨mm,hn1⟩ I1.free (Nat.ne_of_gt I3.lt) I3.sz (λx a e=>by
    obtain⟨v,q⟩:=I3.cell x a e;exact Nat.ne_of_lt q.lt) (λp hp=>Nat.ne_of_lt (Heap.lt_size (I3.pin p hp).1)) (g3.trans g') w' (.ref (g'.pre _ _ ha))
  ·refine bS (T.item (dF X N' scope s3.heap.objs.size s3 H3 fp) rfl rfl rfl calm i [] s σ' H' oW I' (fokB fr') st' go) λres s1 ⟨u,hr,q1⟩=>?_;subst hr;refine bS q1 λ_ s5 ⟨x,H5,I5,rx,yl,st5,fr5⟩=>?_;obtain⟨gy,wy,rd⟩:=hy x H5 yl;have I5':=I5.pinned (fokB fr5) (T.obj _ _ st5)
   have again:∀{σ7:Sg}{H7:Hp}{s7:Shared}{m7:List Addr}{r7:Ev}{h7:Hh},Inv (dF X N' scope s3.heap.objs.size s3 H3 fp) ([]++lS fp s5.heap) σ7 H7 s7->Gr X.K m H5 m7 H7->Wd X.K m7 h7 H7->RSt X.K m7 H7 r7 σ7->(∃k',k'<k/\Lp (i+1) k' r7 h7)->
    ∃k',k'<k/\∃i σ' H' m r h,Inv (dF X N' scope s3.heap.objs.size s3 H3 fp) [] σ' H' s7/\tn i s7.heap/\(∀b∈fp,H' b=none)/\Gr X.K (m2++ [s2.heap.objs.size]) H3 m H'/\Wd X.K m h H'/\RSt X.K m H' r σ'/\Lp i k' r h:=λ{σ7 H7 s7 m7 r7 h7} I7 g7 w7 st7 ⟨k',hk,L7⟩=>by
    have pn:∀b∈fp,∀o,s5.heap.get? b=some o->s7.heap.get? b=some o/\H7 b=none:=λb hb o e=>let z:=I7.pin (b,o) (List.mem_append_right _ (List.mem_append_right _ (gA hb e)));⟨z.1,z.2.1⟩;exact⟨k',hk,i+1,σ7,H7,m7,r7,h7,I7.unpinned,T.keep _ _ _ st5 λb hb o e=>(pn b hb o e).1,λb hb=>let⟨o,e,_⟩:=T.obj _ _ st5 b hb;(pn b hb o e).2,g'.trans (gy.trans g7),w7,st7,L7⟩
   refine bS (bG _ s5 σ' H5 x u (λσ2 H6=>H6=H5/\RSt X.K m H5 r1 σ2) I5' rx ⟨m,h,r',d,r1,wy,rst'.mono gy,rd,er,λs' z=>⟨rfl,z⟩⟩) λ_ s6 ⟨σ6,H6,I6,eH6,st6⟩=>?_;subst eH6;refine bS (bT _ s6 σ6 H6 (λb' H7=>b'=b/\∃m7,Gr X.K m H6 m7 H7/\Wd X.K m7 hb1 H7) I6 ⟨m,r1,h,b,hb1,wy,st6,eb,λm' H' g w=>⟨rfl,m',g,w⟩⟩) λb' s7 ⟨H7,I7,e7,m7,g7,w7⟩=>?_;subst e7;cases b' with
   |false=>
    rw[if_neg Bool.false_ne_true] at rest⊢;exact again I7 g7 w7 (st6.mono g7) rest
   |true=>
    rw[if_pos rfl] at rest⊢;obtain⟨y,h8,z,h9,ey,ea,rest⟩:=rest;refine bS (bE _ s7 σ6 H7 (λv H8=>∃m8,Gr X.K m7 H7 m8 H8/\Wd X.K m8 h8 H8/\RD X.K m8 H8 y v) I7 ⟨m7,r1,hb1,y,h8,w7,st6.mono g7,ey,λm' v H' g w rv=>⟨m',g,w,rv⟩⟩) λyv s8 ⟨v,H8,I8,rv,m8,g8,w8,rdy⟩=>?_;have ha8:m8[h2.length]? =some s2.heap.objs.size:=g8.pre _ _ (g7.pre _ _ (gy.pre _ _ (g'.pre _ _ ha)));simp only[eM] at ea;split at ea<;>first |(cases ea;done)|skip
    rename_i l el;split at ea<;>first |(cases ea;done)|skip
    rename_i hlen;cases ea;obtain⟨vs,hv,rvs⟩:∃vs,H8 s2.heap.objs.size=some (.lst vs)/\RDs X.K m8 H8 l vs:=w8.ob _ _ _ el ha8;obtain⟨_,w9,g9⟩:=w8.lstSet el ha8 (rvs.append (.cons rdy .nil));refine bS (jF (X:=dF X N' scope s3.heap.objs.size s3 H3 fp) _ s8 σ6 H8 (.ref s2.heap.objs.size) [v] (.ref s2.heap.objs.size) [yv] (λ_ H9=>H9=bV H8 s2.heap.objs.size (.lst (vs++ [v]))) I8 rfl (.cons rv .nil) ⟨_,vs,v,rfl,rfl,hv,by rw[<- rvs.length];exact Nat.lt_of_lt_of_le hlen (by decide),rfl⟩) λ_ s9 ⟨_,H9,I9,_,e9⟩=>?_;subst e9;exact again I9 ((g7.trans g8).trans g9) w9 (st6.mono ((g7.trans g8).trans g9)) rest
 have es:({s2 with heap:=h1,toks:=s2.toks}:Shared)={s3 with heap:=h1,toks:=s2.toks}:=by subst hs3;rfl
 exact codeAny_compStart_list (loop _ es) (T.self X.A 0 _ _ _ st3 (loop _ es))
end
theorem _root_.L2.PG.wk{X:Cx}{e:Expr}{t t':TG}(h:PG X e t)(i:∀v s H Q,t' v s H Q->t v s H Q):PG X e t':=λpins s σ H v u Q I r q=>h pins s σ H v u Q I r (i _ _ _ _ q)
noncomputable def VO(is:List Nat):CU:=λvs s H Q=>∃(K:W.Frag)(m:List Addr)(r:Ev)(ds:List D),RSt K m H r s/\RDs K m H ds vs/\ds.length=is.length/\∀s',RSt K m H (dH is ds r) s'->Q s' H
section
variable {X:Cx}{N:List Str}{sc:Scope}{G:Gs}{ca:Nat->Addr}{cl:Cl}{K:W.Frag}
theorem JZ(ok:Expr->Nat->Bool)(hok:∀e i,ok e i=true->∃x pos,e=.Name x pos/\PG X (.Name x pos) (mF i)):∀{is:List Nat}{es:List Expr},is.length=es.length->(∀(j:Nat) i e,is[j]? =some i->es[j]? =some e->ok e i=true)->NA X es (VO is)/\(assignEach es X.env).length=is.length/\(assignEach es X.env).findIdx? (·.1)=none
 | [],[],_,_=>⟨λpins s σ H vs us Q I rv ⟨K,m,r,ds,st,rd,hl,c⟩=>by
     cases ds with
     |cons=>cases hl
     |nil=>
      cases rd;exact uL pins s σ H [] us Q I rv ⟨rfl,c _ st⟩,rfl,rfl⟩
 |i::is,e::es,hl,h=>by
  obtain⟨x,pos,rfl,pn⟩:=hok e i (h 0 i e rfl rfl);obtain⟨ih,i2,i3⟩:=JZ ok hok (is:=is) (es:=es) (by simpa using hl) λj i e e1 e2=>h (j+1) i e (by simpa using e1) (by simpa using e2);refine⟨λpins s σ H vs us Q I rv ⟨K,m,r,ds,st,rd,hl,c⟩=>?_,?_,?_⟩
  ·cases ds with
   |nil=>cases hl
   |cons d ds=>
    cases rd with
    |cons r1 rd=>
     exact lT pn ih rfl pins s σ H _ us Q I rv ⟨_,_,rfl,K,m,_,ds,st.set i r1,rd,by simpa using hl,c⟩
  ·show(assignEach es X.env).length+1=is.length+1
   rw[i2]
  ·show((false,assign (.Name x pos) X.env)::assignEach es X.env).findIdx? (·.1)=none
   rw[List.findIdx?_cons];simp[i3]
 | [],_::_,hl,_=>by simp at hl
 |_::_,[],hl,_=>by simp at hl
theorem zO(ok:Expr->Nat->Bool)(hok:∀e i,ok e i=true->∃x pos,e=.Name x pos/\PG X (.Name x pos) (mF i))(calm:X.calm=true){t:Tg}{tg:Expr}
 (h:match t with|.nm i=>ok tg i=true|.tp l=>(∃es k pos,tg=.Tuple es k pos/\l.length=es.length/\∀(j:Nat) i e,l[j]? =some i->es[j]? =some e->ok e i=true)):PG X tg (yF X.K t):=by
 cases t with
 |nm i=>
  obtain⟨x,pos,rfl,pn⟩:=hok tg i h;refine pn.wk λv s H Q ⟨m,hh,r,d,r',w,st,rd,e,c⟩=>?_;cases e;exact c _ (st.set i rd)
 |tp l=>
  obtain⟨es,k,pos,rfl,hl,h⟩:=h;obtain⟨p1,p2,p3⟩:=JZ ok hok hl h;refine(KA calm p1 p2 p3).wk λv s H Q ⟨m,hh,r,d,r',w,st,rd,e,c⟩=>?_;cases rd<;>first |(cases e;done)|skip
  rename_i a ds vs hq q _;simp only[dO] at e;split at e
  ·rename_i hl;cases e;exact⟨a,vs,rfl,hq,by rw[<- q.length];exact hl,X.K,m,r,ds,st,q,hl,c⟩
  ·cases e
theorem nZ:∀{l:List Nat}{es:List Expr},mT N sc l es=true->l.length=es.length/\∀(j:Nat) i e,l[j]? =some i->es[j]? =some e->mR N sc (.nm i) e=true
 | [],[],_=>⟨rfl,λj i e h=>by simp at h⟩
 |i::is,e::es,h=>by
  cases e<;>first |exact absurd (show false=true from h) Bool.false_ne_true|skip
  rename_i x pos;have h':(N[i]? ==some x&&fN sc x&&mT N sc is es)=true:=h;rw[Bool.and_eq_true] at h';obtain⟨i1,i2⟩:=nZ h'.2;refine⟨by simp[i1],λj i' e' e1 e2=>?_⟩;cases j with
  |zero=>
   simp at e1 e2;subst e1;subst e2;exact h'.1
  |succ j=>exact i2 j i' e' (by simpa using e1) (by simpa using e2)
 | [],_::_,h=>absurd (show false=true from h) Bool.false_ne_true
 |_::_,[],h=>absurd (show false=true from h) Bool.false_ne_true
abbrev IV(X:Cx)(scope:Scope):Prop:=∀x,fN scope x=true->GS X.env.scope x/\(X.fn x=true\/X.env.scope.names.lookup x=some .local)
theorem OO{scope:Scope}(xo:XOk X N sc)(lo:IV X scope){t:Tg}{tg:Expr}(h:mR N scope t tg=true):PG X tg (yF X.K t):=by
 refine zO (λe i=>mR N scope (.nm i) e) (λe i he=>?_) xo.calm ?_
 ·cases e<;>first |exact absurd (show false=true from he) Bool.false_ne_true|skip
  rename_i x pos;have h':(N[i]? ==some x&&fN scope x)=true:=he;simp only[Bool.and_eq_true,beq_iff_eq] at h';obtain⟨l1,l2⟩:=lo x h'.2;exact⟨x,pos,rfl,iN xo.nd (by rw[xo.n];exact h'.1) l1 l2⟩
 ·cases t with
  |nm i=>exact h
  |tp l=>
   cases tg<;>first |exact absurd (show false=true from h) Bool.false_ne_true|skip
   rename_i es k pos;obtain⟨h1,h2⟩:=nZ (show mT N scope l es=true from h);exact⟨es,k,pos,rfl,h1,h2⟩
section
variable {t:Tg}{ft:Ev->Hh->Rs Bool}{fe:Ev->Hh->Rs D}{n0:Nat}{h':Hh}{J:It}{m2:List Addr}{H2:Hp}{r0:Ev}{h0:Hh}
abbrev iA(K:W.Frag)(t:Tg)(ft:Ev->Hh->Rs Bool)(fe:Ev->Hh->Rs D)(n0:Nat)(h':Hh)(J:It)(m2:List Addr)(H2:Hp)(r0:Ev)(h0:Hh):Prop:=∃(Lp:Nat->Nat->Ev->Hh->Prop)(k0:Nat),Lp 0 k0 r0 h0/\∀i k r h m H,Gr K m2 H2 m H->Wd K m h H->Lp i k r h->Stp K t ft fe n0 h' J Lp i k r h m H
theorem fV{l:List D}(e:cN t ft fe n0 l r0 h0=.ok () h')(hgo:∀(i:Nat) d m H,Gr K m2 H2 m H->l[i]? =some d->J.go i H/\∀x H',J.yld i H x H'->H'=H/\RD K m H d x)(hstop:∀(i:Nat) m H,Gr K m2 H2 m H->l.length<=i->J.stop i H):iA K t ft fe n0 h' J m2 H2 r0 h0:=by
 refine⟨λi k r h=>k=l.length-i/\cN t ft fe n0 (l.drop i) r h=.ok () h',l.length,⟨by simp,e⟩,λi k r h m H g w ⟨hk,e⟩=>?_⟩
 by_cases hi:i<l.length
 ·have ed:l[i]? =some l[i]:=Zd hi;obtain⟨a,b⟩:=hgo i _ m H g ed;rw[List.drop_eq_getElem_cons hi] at e;simp only[cN] at e;split at e
  ·cases e
  ·rename_i r1 er;obtain⟨bb,h1,e1,e⟩:=Rs.bind_ok e;refine .inr ⟨a,_,λx H2 y=>by obtain⟨eH,rd⟩:=b x H2 y;subst eH;exact⟨.refl,w,rd⟩,r1,er,bb,h1,e1,?_⟩;cases bb with
   |true=>
    rw[if_pos rfl] at e⊢;obtain⟨y,h3,e3,e⟩:=Rs.bind_ok e;obtain⟨z,h4,e4,e⟩:=Rs.bind_ok e;exact⟨y,h3,z,h4,e3,e4,_,by omega,rfl,e⟩
   |false=>
    rw[if_neg Bool.false_ne_true] at e⊢;exact⟨_,by omega,rfl,e⟩
 ·rw[List.drop_eq_nil_of_le (by omega)] at e;cases e;exact .inl ⟨hstop i m H g (by omega),rfl⟩
theorem wB{a:Addr}{l:List D}{vs:List V}(hq:SqT K H2 a vs)(q:RDs K m2 H2 l vs)(e:cN t ft fe n0 l r0 h0=.ok () h'):iA K t ft fe n0 h' (SJ K a) m2 H2 r0 h0:=
 fV e (λi d m H g ed=>by
  obtain⟨v,hv,rv⟩:=q.get ed
  exact⟨⟨vs,v,g.tup _ _ hq,hv⟩,λx H' y=>by
   obtain⟨eH,y⟩:=y;have:=y vs (g.tup _ _ hq);rw[hv] at this;cases this;exact⟨eH,rv.mono g⟩⟩) λi m H g hi=>⟨vs,g.tup _ _ hq,by rw[<- q.length];exact hi⟩
theorem nJ{lo hi:Int}(e:cN t ft fe n0 (cQ lo hi) r0 h0=.ok () h'):iA K t ft fe n0 h' (CQ lo (hi-lo).toNat) m2 H2 r0 h0:=by
 have hl:(cQ lo hi).length=(hi-lo).toNat:=by unfold cQ;simp
 refine fV e (λi d m H g ed=>?_) λi m H g h=>by rw[hl] at h;exact h
 have hi':i<(hi-lo).toNat:=by rw[<- hl];exact(Ze.mp ed).1
 have hd:(cQ lo hi)[i]? =some (D.int (lo+i)):=by
  unfold cQ;rw[Zi,List.getElem?_range hi'];rfl
 rw[hd] at ed;cases ed;exact⟨hi',λx H' y=>⟨y.1,by rw[y.2];exact .int _⟩⟩
theorem wC{a:Addr}{n k0:Nat}(ha:m2[n]? =some a)(e:cO t ft fe n0 n k0 0 r0 h0=.ok () h'):iA K t ft fe n0 h' (SK K a) m2 H2 r0 h0:=by
 refine⟨λi k r h=>cO t ft fe n0 n k i r h=.ok () h',k0,e,λi k r h m H g w e=>?_⟩;cases k with
 |zero=>cases e
 |succ k=>
  simp only[cO] at e;split at e
  ·cases e
  ·rename_i l el;obtain⟨a',vs,ha',hq,q⟩:=w.lst el;rw[g.pre _ _ ha] at ha';cases ha';split at e
   ·rename_i en;cases e;exact .inl ⟨⟨vs,hq,by rw[<- q.length];exact List.getElem?_eq_none_iff.mp en⟩,rfl⟩
   ·rename_i d ed;obtain⟨v,hv,rv⟩:=q.get ed;split at e
    ·cases e
    ·rename_i r1 er;obtain⟨bb,h1,e1,e⟩:=Rs.bind_ok e;refine .inr ⟨⟨vs,v,hq,hv⟩,d,λx H' y=>?_,r1,er,bb,h1,e1,?_⟩
     ·obtain⟨eH,y⟩:=y;have:=y vs hq;rw[hv] at this;cases this;subst eH;exact⟨.refl,w,rv⟩
     ·cases bb with
      |true=>
       rw[if_pos rfl] at e⊢;obtain⟨y,h3,e3,e⟩:=Rs.bind_ok e;obtain⟨z,h4,e4,e⟩:=Rs.bind_ok e;exact⟨y,h3,z,h4,e3,e4,k,Nat.lt_succ_self _,e⟩
      |false=>
       rw[if_neg Bool.false_ne_true] at e⊢;exact⟨k,Nat.lt_succ_self _,e⟩
end
theorem GE{N':List Str}{scope:Scope}{cap:List Nat}{tg elt iter:Expr}{ifs:List Expr}{pos:Pos}{t:Tg}{ft:Ev->Hh->Rs Bool}{fe:Ev->Hh->Rs D}{f:Ev->Hh->Rs D}(xo:XOk X N sc)(S:ScOk scope sc)(hcap:cap.length<=N'.length)
 (hN:(N'.drop (N'.length-cap.length)).map some=cap.map (λ(i:Nat)=>N[i]?))(hfr:∀x∈N'.drop (N'.length-cap.length),scope.names.lookup x=some .free)
 (blk:∀(C:Addr)(s3:Shared)(H3:Hp)(fp:List Addr),PG (dF X N' scope C s3 H3 fp) tg (yF X.K t)/\QV (dF X N' scope C s3 H3 fp) ifs (NF X.K ft)/\PE (dF X N' scope C s3 H3 fp) elt (TDE X.K fe))(hset:nR iter=true)
 (hi:∀(pins:List (Addr×Obj))(s:Shared)(σ:Sg)(H:Hp)(m:List Addr)(r:Ev)(h:Hh)(d:D)(h':Hh),Inv X pins σ H s->Wd X.K m h H->RSt X.K m H r σ->f r h=.ok d h'->∃h1:Hh,d=.ref h1.length/\wpAny (model X.prog X.w) X.A (eval iter X.env) (λv s1=>wpAny (model X.prog X.w) X.A (pyIter v)
   (CV X pins σ tg λJ H2=>∃(m2:List Addr)(h2:Hh),h2.length=h1.length/\Gr X.K m H m2 H2/\Wd X.K m2 h2 H2/\iA X.K t ft fe h2.length h' J m2 H2 (aR N' cap r) (h2++ [.lst []])) X.xe s1) X.xe s):
 PE X (.ListComp elt [⟨tg,iter,ifs,0⟩] scope pos) (TDE X.K f):=by
 intro pins s σ H Q I ⟨m,r,h,d,h',w,st,e,c⟩;obtain⟨h1,rfl,hw⟩:=hi pins s σ H m r h d h' I w st e;rw[eval_ListComp];have S':ScOk scope X.env.scope:=by rw[xo.s];exact S
 refine wpAny_comprehension_free (use:=none) rfl (λz=>by cases iter<;>first |rfl|(cases hset;done)) (iE λp hp e=>I.ok.has p.1 (.inl (S'.free p hp e))) S.kind S.loc ?_;refine bS hw λv s1 q1=>bS q1 λitv s2 q2=>?_;obtain⟨it,fp,tn,J,H2,rfl,I2,T,st2,fok,m2,h2,eh2,g2,w2,Lp,k0,L0,hst⟩:=q2;refine nY (Rr:=λacc C=>compPost (model X.prog X.w) X.A X.xe none (EP X pins σ Q) acc C) S' hcap (by rw[xo.n];exact hN) hfr xo.calm blk I2 T st2 fok w2 (st.mono g2) Lp k0 L0 hst λacc C s1 H' m' I1 ⟨mm,hn⟩ hC hL hz hc hp g' w' rv=>?_;rw[eh2] at rv;refine⟨mm,hn,λhh hsb=>⟨.ref acc,H',I1.turned (λb o hb e=>hsb.extBut b o hb e) hC (Ne.symm (Ne.symm hL)) (.inr hz) hc hp,rfl,c m' _ H' (g2.trans g') w' rv⟩⟩
theorem GD{N':List Str}{scope:Scope}{cap:List Nat}{tg elt iter:Expr}{ifs:List Expr}{pos spos py:Pos}{y:Str}{i:Nat}{t:Tg}{ft:Ev->Hh->Rs Bool}{fe:Ev->Hh->Rs D}{f:Ev->Hh->Rs D}(xo:XOk X N sc)(S:ScOk scope sc)(hcap:cap.length<=N'.length)
 (hN:(N'.drop (N'.length-cap.length)).map some=cap.map (λ(i:Nat)=>N[i]?))(hfr:∀x∈N'.drop (N'.length-cap.length),scope.names.lookup x=some .free)
 (blk:∀(C:Addr)(s3:Shared)(H3:Hp)(fp:List Addr),PG (dF X N' scope C s3 H3 fp) tg (yF X.K t)/\QV (dF X N' scope C s3 H3 fp) ifs (NF X.K ft)/\PE (dF X N' scope C s3 H3 fp) elt (TDE X.K fe))(hset:nR iter=true)
 (hi:∀(pins:List (Addr×Obj))(s:Shared)(σ:Sg)(H:Hp)(m:List Addr)(r:Ev)(h:Hh)(d:D)(h':Hh),Inv X pins σ H s->Wd X.K m h H->RSt X.K m H r σ->f r h=.ok d h'->∃h1:Hh,d=.ref h1.length/\wpAny (model X.prog X.w) X.A (eval iter X.env) (λv s1=>wpAny (model X.prog X.w) X.A (pyIter v)
   (CV X pins σ tg λJ H2=>∃(m2:List Addr)(h2:Hh),h2.length=h1.length/\Gr X.K m H m2 H2/\Wd X.K m2 h2 H2/\iA X.K t ft fe h2.length h' J m2 H2 (aR N' cap r) (h2++ [.lst []])) X.xe s1) X.xe s)
 (hy:N[i]? =some y)(hl:sc.names.lookup y=some .local)(hsw:swapsWith (.ListComp elt [⟨tg,iter,ifs,0⟩] scope pos) (some (.Name y py)) spos.line X.env=pure true):
 PS X (.Assign [.Name y py] (.ListComp elt [⟨tg,iter,ifs,0⟩] scope pos) spos) (JH (TDE X.K f) (mF i)):=by
 intro pins s σ H Z I ⟨m,r,h,d,h',w,st,e,c⟩;obtain⟨h1,rfl,hw⟩:=hi pins s σ H m r h d h' I w st e;have S':ScOk scope X.env.scope:=by rw[xo.s];exact S
 rw[exec_Assign_Name_used _ _ _ _ hsw];refine Za (wpAny_standAt (Za ?_));show wpAny _ X.A (do let _ <- comprehension (.ListComp elt [⟨tg,iter,ifs,0⟩] scope pos) scope X.env _ (newList []) false (eval iter X.env) (some (assign (.Name y py) X.env))) _ _ s;refine Za (bS (wpAny_comprehension_free (use:=some (assign (.Name y py) X.env)) (Q:=λ_ s'=>SP X pins Z .next s') rfl (λz=>by cases iter<;>first |rfl|(cases hset;done)) (iE λp hp e=>I.ok.has p.1 (.inl (S'.free p hp e))) S.kind S.loc ?_) λ_ s' q=>Zb (Zb q));refine bS hw λv s1 q1=>bS q1 λitv s2 q2=>?_;obtain⟨it,fp,tn,J,H2,rfl,I2,T,st2,fok,m2,h2,eh2,g2,w2,Lp,k0,L0,hst⟩:=q2;refine nY (Rr:=λacc C=>compPost (model X.prog X.w) X.A X.xe (some (assign (.Name y py) X.env)) (λ_ s'=>SP X pins Z .next s') acc C) S' hcap (by rw[xo.n];exact hN) hfr xo.calm blk I2 T st2 fok w2 (st.mono g2) Lp k0 L0 hst λacc C s1 H' m' I1 ⟨mm,hn⟩ hC hL hz hc hp g' w' rv=>?_;rw[eh2] at rv;show wpAny _ X.A (assign (.Name y py) X.env (.ref acc)) _ _ s1;have hyl:X.env.kindOf y=some .local:=by show X.env.scope.names.lookup y=_;rw[xo.s];exact hl
 refine wpAny_assign_Name (nK (i:=i) (v:=.ref acc) I1 xo.nd (by rw[xo.n];exact hy) (.inl (by rw[xo.s];exact hl)) rfl (λs5 I5 ⟨a,hsa,hq⟩=>?_) (.inr (by rw[xo.s];exact hl)))
 have ea:a≠C:=by
  rcases hq with rfl|hq
  ·exact λz=>hL z.symm
  ·exact hc _ _ hq
 refine⟨mm,?_,λhh hsb=>⟨_,H',I5.turned (λb o hb e=>hsb.extBut b o hb e) hC hL (.inr hz) hc hp,c m' _ H' (g2.trans g') w' rv⟩⟩;obtain⟨o,es,ep,e1,e2⟩:=hn;exact⟨o,es,ep,hsa.extBut C o (Ne.symm ea) e1,e2⟩
end
section
variable {X:Cx}{N:List Str}{sc:Scope}{G:Gs}{ca:Nat->Addr}{cl:Cl}
theorem qC{ifs:List Expr}{env:Env}{M:Model}{A:Around}{E:Value->Shared->Prop}{s:Shared}{Q:Bool->Shared->Prop}(h:Q false s):wpAny M A (fW ifs env false) Q E s:=by
 induction ifs with
 |nil=>exact Zb h
 |cons c l ih=>
  unfold fW at ih⊢;rw[List.forIn_cons,if_neg Bool.false_ne_true];exact Za (Zb ih)
theorem sF{c:Expr}{l:List Expr}{env:Env}{M:Model}{A:Around}{E:Value->Shared->Prop}{s:Shared}{Q:Bool->Shared->Prop}(h:wpAny M A (isTrue c env (eval c env)) (λb s'=>wpAny M A (fW l env b) Q E s') E s):wpAny M A (fW (c::l) env true) Q E s:=by
 unfold fW at h⊢;rw[List.forIn_cons,if_pos rfl];exact Za (Za (bS h λb s' q=>Zb q))
theorem mY{N':List Str}{scope:Scope}(xo:XOk X N sc)(nd:N'.Nodup)(C:Addr)(s3:Shared)(H3:Hp)(fp:List Addr):XOk (dF X N' scope C s3 H3 fp) N' (eI scope sc):=
 ⟨rfl,by rw[<- xo.s];rfl,xo.calm,nd,xo.room,xo.rng,PassesOwn.never⟩
theorem vV{N':List Str}{scope:Scope}(S:ScOk scope X.env.scope)(C:Addr)(s3:Shared)(H3:Hp)(fp:List Addr):IV (dF X N' scope C s3 H3 fp) scope:=λx hx=>by
 rcases eL hx with h|h
 ·have z:(relabel scope X.env).names.lookup x=some .local:=lookup_relabel_local h;exact⟨.inl z,.inr z⟩
 ·have z:(relabel scope X.env).names.lookup x=some .cell:=wN h;refine⟨.inr z,.inl ?_⟩
  show(scope.names.lookup x==some .cell)=true
  rw[h];rfl
theorem tR{N':List Str}{scope:Scope}(go:GOk X G ca cl)(C:Addr)(s3:Shared)(H3:Hp)(fp:List Addr):GOk (dF X N' scope C s3 H3 fp) G ca cl:=⟨go.fn,go.cst,go.blt,go.ty,go.exc,go.sub,go.nsub,go.verr,⟨go.c.att,go.c.meth,go.c.ini,go.c.sam,go.c.new⟩⟩
end
noncomputable abbrev WZ:=Sem PySem.Fin->Sem PySem.Fin
section
variable {Y:Cx}{tg e:Expr}{kx vx:Expr}{gens:List Comprehension}{scope:Scope}{pos:Pos}{t:Tg}{emit:WZ}{fb:Ev->Hh->Rs Ev}{n0 acc dep:Nat}{ip:Pos}{it:Addr}{J:It}{fp:List Addr}{tn:Nat->Heap->Prop}{m2:List Addr}{H2:Hp}{End:Ev->Hh->Prop}{R:Result->Shared->Prop}{pins:List (Addr×Obj)}
end
section
variable {Y:Cx}{kx vx iter2:Expr}{fk fv fi:Ev->Hh->Rs D}{n0 acc:Nat}
end
section
variable {Y:Cx}{kx vx tg1 iter1 tg2 iter2:Expr}{scope:Scope}{pos:Pos}{t2:Tg}{fk fv fi:Ev->Hh->Rs D}{n0 acc:Nat}
end
section
variable {X:Cx}{N':List Str}{scope:Scope}{cap:List Nat}{kx vx tg1 iter1 tg2 iter2:Expr}{pos:Pos}{t1 t2:Tg}{fi fk fv:Ev->Hh->Rs D}
end
section
variable {X:Cx}{pins:List (Addr×Obj)}{σ:Sg}{H:Hp}{s:Shared}
end
theorem iV(t:Ty):bootBuiltins (Str.ofString t.nm)=some (.type t.nm):=by cases t<;>decide+kernel
theorem fF(t:Ty):(Str.ofString t.nm==("__debug__":Str))=false/\Str.ofString t.nm≠"__name__":=by cases t<;>decide+kernel
theorem fS(f:Blt):bootBuiltins f.nm=some f.val:=by cases f<;>decide+kernel
theorem hG(f:Blt):(f.nm==("__debug__":Str))=false/\f.nm≠"__name__":=by cases f<;>decide+kernel
section
variable {X:Cx}{N:List Str}{sc:Scope}{G:Gs}{ca:Nat->Addr}{cl:Cl}
theorem TDE.one{K:W.Frag}{fa f:Ev->Hh->Rs D}{k:Ev->D->Hh->Rs D}{s:Sg}{H:Hp}{Q R:VK}(hf:∀r h,f r h=(fa r h).bind (k r))(q:TDE K f s H Q)
 (c:∀(m m2:List Addr)(r:Ev)(d:D)(h2 h':Hh)(H2:Hp)(dx:D)(x:V),RSt K m H r s->Gr K m H m2 H2->Wd K m2 h2 H2->RSt K m2 H2 r s->RD K m2 H2 dx x->k r dx h2=.ok d h'->(∀m' v H',Gr K m2 H2 m' H'->Wd K m' h' H'->RD K m' H' d v->Q v H')->R x H2):TDE K fa s H R:=by
 obtain⟨m,r,h,d,h',w,st,e,cc⟩:=q;rw[hf] at e;obtain⟨dx,h1,e1,e⟩:=Rs.bind_ok e;exact⟨m,r,h,dx,h1,w,st,e1,λm1 x H1 g1 w1 rx=>c m m1 r d h1 h' H1 dx x st g1 w1 (st.mono g1) rx e λm' v H' g=>cc m' v H' (g1.trans g)⟩
end
def SE(N:List Str)(sc:Scope)(G:Gs)(c:E)(e:Expr):Prop:=∀{X:Cx}{ca:Nat->Addr}{cl:Cl},XOk X N sc->GOk X G ca cl->PE X e (TDE X.K (ev G cl c))/\PT X e (QR X.K (ev G cl c))
def yB(N:List Str)(sc:Scope)(G:Gs)(l:Es)(es:List Expr):Prop:=es.all cX=true/\∀{X:Cx}{ca:Nat->Addr}{cl:Cl},XOk X N sc->GOk X G ca cl->PA X es (WQ X.K (cM G cl l))
def NG(N:List Str)(sc:Scope)(G:Gs)(l:Es)(es:List Expr):Prop:=∀{X:Cx}{ca:Nat->Addr}{cl:Cl},XOk X N sc->GOk X G ca cl->QV X es (NF X.K (kG G cl l))
theorem fE{X:Cx}(pos:Pos):∀{es:List Expr},es.all cX=true->(backTo pos (starEach es X.env)).any (·.1)=false
 | [],_=>rfl
 |e::es,h=>by
  rw[List.all_cons,Bool.and_eq_true] at h;rw[aS es h.1];have ih:=fE (X:=X) pos (es:=es) h.2;exact(show(false||(backTo pos (starEach es X.env)).any (·.1))=false by rw[ih];rfl)
section
variable {N:List Str}{sc:Scope}{G:Gs}
theorem aA{i:Nat}{x:Str}{pos:Pos}(h1:N[i]? =some x)(h:(rV sc x&&dP x)=true):SE N sc G (.var i) (.Name x pos):=λ{X ca cl} xo go=>by
 rw[Bool.and_eq_true] at h;obtain⟨h2,h3⟩:=h;obtain⟨d1,d2,d3⟩:=cY h3
 have p:PE X (.Name x pos) (TDE X.K (ev G cl (.var i))):=(pv i (by rw[xo.n];exact h1) (by rw[xo.s];exact iJ h2) d1 d2).wk λs H Q ⟨m,r,hh,d,h',w,st,e1,c⟩=>by
  simp only[ev] at e1;split at e1
  ·rename_i d' ed;cases e1;obtain⟨v,hv,rv⟩:=st.2 i _ ed;exact⟨v,hv,c m v H Gr.refl w rv⟩
  ·cases e1
 exact⟨p,iZ p λ_=>rfl⟩
theorem aF{i:Int}{j:Nat}{pos:Pos}:SE N sc G (.int i) (.Constant (.int i) j pos):=λ{X ca cl} xo go=>by
 have p:PE X (.Constant (.int i) j pos) (TDE X.K (ev G cl (.int i))):=(sQ).wk λs H Q ⟨m,r,hh,d,h',w,st,e1,c⟩=>by
  cases e1;exact c m _ H Gr.refl w (.int i)
 exact⟨p,iZ p λ_=>rfl⟩
theorem fR{b:Bool}{j:Nat}{pos:Pos}:SE N sc G (.bl b) (.Constant (.bool b) j pos):=λ{X ca cl} xo go=>by
 have p:PE X (.Constant (.bool b) j pos) (TDE X.K (ev G cl (.bl b))):=(HI).wk λs H Q ⟨m,r,hh,d,h',w,st,e1,c⟩=>by
  cases e1;exact c m _ H Gr.refl w (.bl b)
 exact⟨p,iZ p λ_=>rfl⟩
theorem tN{j:Nat}{pos:Pos}:SE N sc G .non (.Constant .none j pos):=λ{X ca cl} xo go=>by
 have p:PE X (.Constant .none j pos) (TDE X.K (ev G cl .non)):=(KG).wk λs H Q ⟨m,r,hh,d,h',w,st,e1,c⟩=>by
  cases e1;exact c m _ H Gr.refl w .non
 exact⟨p,iZ p λ_=>rfl⟩
theorem aI{x:Str}{j:Nat}{pos:Pos}:SE N sc G (.str x) (.Constant (.str x) j pos):=λ{X ca cl} xo go=>by
 have p:PE X (.Constant (.str x) j pos) (TDE X.K (ev G cl (.str x))):=(fY).wk λs H Q ⟨m,r,hh,d,h',w,st,e1,c⟩=>by
  cases e1;exact c m _ H Gr.refl w (.str x)
 exact⟨p,iZ p λ_=>rfl⟩
theorem BS{g:Nat}{x:Str}{d0:D}{pos:Pos}(q:G.csts[g]? =some (x,d0))(h:(gG sc x&&dP x)=true):SE N sc G (.gc g) (.Name x pos):=λ{X ca cl} xo go=>by
 rw[Bool.and_eq_true] at h;obtain⟨h2,h3⟩:=h;obtain⟨d1,d2,d3⟩:=cY h3;obtain⟨v,u,hm,rv,rd⟩:=go.cst g x d0 q
 have p:PE X (.Name x pos) (TDE X.K (ev G cl (.gc g))):=(uN (cJ xo h2) hm rv d1).wk λs H Q ⟨m,r,hh,d,h',w,st,e1,c⟩=>by
  simp only[ev,q] at e1;cases e1;exact c m _ H Gr.refl w (rd m H)
 exact⟨p,iZ p λ_=>rfl⟩
theorem eV{t:Ty}{pos:Pos}(hg:gG sc (Str.ofString t.nm)=true):SE N sc G (.ty t) (.Name (Str.ofString t.nm) pos):=λ{X ca cl} xo go=>by
 have p:PE X (.Name (Str.ofString t.nm) pos) (TDE X.K (ev G cl (.ty t))):=(kQ (v:=.ty t.nm) (cJ xo hg) (go.ty t) (iV t) rfl (fF t).2 (fF t).1).wk λs H Q ⟨m,r,hh,d,h',w,st,e1,c⟩=>by
  cases e1;exact c m _ H Gr.refl w (.ty _)
 exact⟨p,iZ p λ_=>rfl⟩
theorem aH{op:Bop}{a b:E}{x y:Expr}{pos:Pos}(h_a:SE N sc G a x)(h_b:SE N sc G b y):SE N sc G (.bin op a b) (.BinOp x op.op y pos):=λ{X ca cl} xo go=>by
 have p:PE X (.BinOp x op.op y pos) (TDE X.K (ev G cl (.bin op a b))):=(zQ (HK op) (h_a xo go).1 (h_b xo go).1).wk (TDE.op λr h=>by simp only[ev]);exact⟨p,iZ p λ_=>rfl⟩
theorem aQ{op:Cop}{a b:E}{x y:Expr}{pos:Pos}(hm:behindInMarks op.op y=false)(h_a:SE N sc G a x)(h_b:SE N sc G b y):SE N sc G (.cmp op a b) (.Compare x [op.op] [y] pos):=λ{X ca cl} xo go=>by
 refine⟨(uO (HJ xo.room op) ((h_a xo go).1) ((h_b xo go).1) hm).wk (TDE.op λr h=>by simp only[ev]),?_⟩;refine(DU (HJ xo.room op) ((h_a xo go).1) ((h_b xo go).1) hm).wk λs H Q ⟨m,r,hh,d,h',k,w,st,e1,ek,c⟩=>?_;refine TDE.op (f:=ev G cl (.cmp op a b)) (k:=dN op) (λr h=>by simp only[ev]) s H _ ⟨m,r,hh,d,h',w,st,e1,λm' v H' g w' rd=>?_⟩;have e1':=e1;simp only[ev] at e1';obtain⟨_,_,_,e1'⟩:=Rs.bind_ok e1';obtain⟨_,_,_,e1'⟩:=Rs.bind_ok e1';obtain⟨k',rfl⟩:=GF e1';cases rd;have ek':k'=k:=Zg ek;subst ek';exact⟨k',rfl,c m' H' g w'⟩
theorem vS{a b:E}{x:Expr}{v:Expr}{vs:List Expr}{pos:Pos}(h_a:SE N sc G a x)(h_b:SE N sc G b (.BoolOp .And (v::vs) pos)):SE N sc G (.and a b) (.BoolOp .And (x::v::vs) pos):=λ{X ca cl} xo go=>by
 have hb:=h_b xo go;refine⟨(uP ((h_a xo go).1) hb.1).wk λs H Q q=>?_,(zG ((h_a xo go).2) (zF hb.2)).pt.wk λs H Q q=>?_⟩
 ·refine TDE.one (λ_ _=>rfl) q λm m2 r d h2 h' H2 dx v st g w2 st2 rx e c=>?_;split at e
  ·rename_i et;exact⟨true,jB w2 rx et,kL (⟨m2,r,h2,d,h',w2,st2,e,c⟩)⟩
  ·rename_i et;cases e;exact⟨false,jB w2 rx et,iQ (c m2 v H2 Gr.refl w2 rx)⟩
  ·cases e
 ·obtain⟨m,r,hh,d,h',k,w,st,e1,ek,c⟩:=q;simp only[ev] at e1;obtain⟨dx,h1,e0,e1⟩:=Rs.bind_ok e1;split at e1
  ·rename_i et;exact⟨m,r,hh,dx,h1,true,w,st,e0,et,λm' H' g w'=>kL (⟨m',r,h1,d,h',k,w',st.mono g,e1,ek,λm2 H2 g2=>c m2 H2 (g.trans g2)⟩)⟩
  ·rename_i et;cases e1;rw[et] at ek;cases ek;exact⟨m,r,hh,_,_,false,w,st,e0,et,λm' H' g w'=>iQ (c m' H' g w')⟩
  ·cases e1
theorem eG{a b:E}{x y:Expr}{pos:Pos}(h_a:SE N sc G a x)(h_b:SE N sc G b y):SE N sc G (.and a b) (.BoolOp .And [x,y] pos):=
 vS h_a λ{X ca cl} xo go=>⟨oR (h_b xo go).1,(uG (h_b xo go).2).pt⟩
theorem ML{a b:E}{x:Expr}{v:Expr}{vs:List Expr}{pos:Pos}(h_a:SE N sc G a x)(h_b:SE N sc G b (.BoolOp .Or (v::vs) pos)):SE N sc G (.or a b) (.BoolOp .Or (x::v::vs) pos):=λ{X ca cl} xo go=>by
 have hb:=h_b xo go;refine⟨(KD ((h_a xo go).1) hb.1).wk λs H Q q=>?_,(HE ((h_a xo go).2) (zF hb.2)).pt.wk λs H Q q=>?_⟩
 ·refine TDE.one (λ_ _=>rfl) q λm m2 r d h2 h' H2 dx v st g w2 st2 rx e c=>?_;split at e
  ·rename_i et;cases e;exact⟨true,jB w2 rx et,kL (c m2 v H2 Gr.refl w2 rx)⟩
  ·rename_i et;exact⟨false,jB w2 rx et,iQ (⟨m2,r,h2,d,h',w2,st2,e,c⟩)⟩
  ·cases e
 ·obtain⟨m,r,hh,d,h',k,w,st,e1,ek,c⟩:=q;simp only[ev] at e1;obtain⟨dx,h1,e0,e1⟩:=Rs.bind_ok e1;split at e1
  ·rename_i et;cases e1;rw[et] at ek;cases ek;exact⟨m,r,hh,_,_,true,w,st,e0,et,λm' H' g w'=>kL (c m' H' g w')⟩
  ·rename_i et;exact⟨m,r,hh,dx,h1,false,w,st,e0,et,λm' H' g w'=>iQ (⟨m',r,h1,d,h',k,w',st.mono g,e1,ek,λm2 H2 g2=>c m2 H2 (g.trans g2)⟩)⟩
  ·cases e1
theorem iU{a b:E}{x y:Expr}{pos:Pos}(h_a:SE N sc G a x)(h_b:SE N sc G b y):SE N sc G (.or a b) (.BoolOp .Or [x,y] pos):=
 ML h_a λ{X ca cl} xo go=>⟨oR (h_b xo go).1,(zE (h_b xo go).2).pt⟩
theorem gQ{a:E}{x:Expr}{pos:Pos}(h_a:SE N sc G a x):SE N sc G (.not a) (.UnaryOp .Not x pos):=λ{X ca cl} xo go=>by
 refine⟨(uM ((h_a xo go).1)).wk λs H Q q=>?_,(zI ((h_a xo go).2)).wk λs H Q q=>?_⟩
 ·refine TDE.one (λ_ _=>rfl) q λm m2 r d h2 h' H2 dx v st g w2 st2 rx e c=>?_;split at e
  ·rename_i k et;cases e;exact⟨k,jB w2 rx et,c m2 _ H2 Gr.refl w2 (.bl _)⟩
  ·cases e
 ·obtain⟨m,r,hh,d,h',k,w,st,e1,ek,c⟩:=q;simp only[ev] at e1;obtain⟨dx,h1,e0,e1⟩:=Rs.bind_ok e1;split at e1
  ·rename_i k' et;cases e1;have:(!k')=k:=Zg ek;subst this;exact⟨m,r,hh,dx,h',k',w,st,e0,et,c⟩
  ·cases e1
theorem MM{cc a b:E}{z x y:Expr}{pos:Pos}(h_cc:SE N sc G cc z)(h_a:SE N sc G a x)(h_b:SE N sc G b y):SE N sc G (.ite cc a b) (.IfExp z x y pos):=λ{X ca cl} xo go=>by
 refine⟨(zR (h_cc xo go).2 (h_a xo go).1 (h_b xo go).1).wk λs H Q ⟨m,r,hh,d,h',w,st,e1,c⟩=>?_,?_⟩
 ·simp only[ev] at e1;obtain⟨dx,h1,e0,e1⟩:=Rs.bind_ok e1;split at e1
  ·rename_i et;exact⟨m,r,hh,dx,h1,true,w,st,e0,et,λm' H' g w'=>kL (⟨m',r,h1,d,h',w',st.mono g,e1,λm2 v H2 g2=>c m2 v H2 (g.trans g2)⟩)⟩
  ·rename_i et;exact⟨m,r,hh,dx,h1,false,w,st,e0,et,λm' H' g w'=>iQ (⟨m',r,h1,d,h',w',st.mono g,e1,λm2 v H2 g2=>c m2 v H2 (g.trans g2)⟩)⟩
  ·cases e1
 ·intro pins s σ H Q I ⟨m,r,hh,d,h',k,w,st,e1,ek,c⟩;simp only[ev] at e1;obtain⟨dx,h1,e0,e1⟩:=Rs.bind_ok e1;have hz':=(h_cc xo go).2;have hx':=(h_a xo go).2;have hy':=(h_b xo go).2;show wpAny _ _ (do if <- isTrue z X.env (eval z X.env) then isTrue x X.env (eval x X.env) else isTrue y X.env (eval y X.env)) _ _ _;split at e1
  ·rename_i et;refine Za (bS (hz' pins s σ H (λkb H1=>kb=true/\QR X.K (ev G cl a) σ H1 Q) I ⟨m,r,hh,dx,h1,true,w,st,e0,et,λm' H' g w'=>⟨rfl,m',r,h1,d,h',k,w',st.mono g,e1,ek,λm2 H2 g2=>c m2 H2 (g.trans g2)⟩⟩) λkb s1 ⟨H1,I1,eb,q1⟩=>?_);subst eb;exact hx' pins s1 σ H1 Q I1 q1
  ·rename_i et;refine Za (bS (hz' pins s σ H (λkb H1=>kb=false/\QR X.K (ev G cl b) σ H1 Q) I ⟨m,r,hh,dx,h1,false,w,st,e0,et,λm' H' g w'=>⟨rfl,m',r,h1,d,h',k,w',st.mono g,e1,ek,λm2 H2 g2=>c m2 H2 (g.trans g2)⟩⟩) λkb s1 ⟨H1,I1,eb,q1⟩=>?_);subst eb;exact hy' pins s1 σ H1 Q I1 q1
  ·cases e1
theorem aW{a b:E}{x y:Expr}{pos:Pos}(hs:pS y)(h_a:SE N sc G a x)(h_b:SE N sc G b y):SE N sc G (.ix a b) (.Subscript x y pos):=λ{X ca cl} xo go=>by
 have p:PE X (.Subscript x y pos) (TDE X.K (ev G cl (.ix a b))):=(HG (HU xo.room) (h_a xo go).1 (h_b xo go).1 hs).wk (TDE.op λr h=>by simp only[ev]);exact⟨p,iZ p λ_=>rfl⟩
theorem dL{l:Es}{es:List Expr}{k:Nat}{pos:Pos}(h_l:yB N sc G l es):SE N sc G (.tup l) (.Tuple es k pos):=λ{X ca cl} xo go=>by
 have p:PE X (.Tuple es k pos) (TDE X.K (ev G cl (.tup l))):=(sP (h_l.2 xo go)).wk λs H Q ⟨m,r,hh,d,h',w,st,e1,c⟩=>by
  simp only[ev] at e1;obtain⟨ds,h1,e0,e1⟩:=Rs.bind_ok e1;split at e1
  ·rename_i hl;cases e1;refine⟨m,r,hh,ds,_,w,st,e0,λm' vs H' g w' rd=>⟨?_,λq hq=>?_⟩⟩
   ·rw[<- rd.length];exact Nat.le_of_lt (nL hl)
   ·exact c m' _ _ (g.trans (Gr.tupNew hq)) (w'.keepNew hq) (.tup (.of bB) (rd.mono (Gr.tupNew hq)))
  ·cases e1
 exact⟨p,iZ p λ_=>rfl⟩
theorem fG{l:Es}{es:List Expr}{pos:Pos}(h_l:yB N sc G l es):SE N sc G (.lst l) (.List es pos):=λ{X ca cl} xo go=>by
 have p:PE X (.List es pos) (TDE X.K (ev G cl (.lst l))):=(KH (h_l.2 xo go)).wk λs H Q ⟨m,r,hh,d,h',w,st,e1,c⟩=>by
  simp only[ev] at e1;obtain⟨ds,h1,e0,e1⟩:=Rs.bind_ok e1;split at e1
  ·rename_i hl;cases e1;refine⟨m,r,hh,ds,_,w,st,e0,λm' vs H' g w' rd=>⟨?_,λq hq=>?_⟩⟩
   ·rw[<- rd.length];exact Nat.le_of_lt (nL hl)
   ·obtain⟨w2,g2⟩:=w'.lstNew hq rd;exact c _ _ _ (g.trans g2) w2 (.ref (by rw[<- w'.len];simp))
  ·cases e1
 exact⟨p,iZ p λ_=>rfl⟩
theorem cF{f:Nat}{l:Es}{x:Str}{y:Expr}{ys:List Expr}{np pos:Pos}(h1:G.fns[f]? =some x)(h:(gG sc x&&dP x)=true)(h_l:yB N sc G l (y::ys)):SE N sc G (.call f l) (.Call (.Name x np) (y::ys) [] pos):=λ{X ca cl} xo go=>by
 rw[Bool.and_eq_true] at h;obtain⟨h2,h3⟩:=h;obtain⟨d1,d2,d3⟩:=cY h3;obtain⟨fa,fd,ps,k,F,hr,hm,hk,hb,hlen⟩:=go.fn f x h1;have hns:=h_l.1;rw[List.all_cons,Bool.and_eq_true] at hns
 have p:PE X (.Call (.Name x np) (y::ys) [] pos) (TDE X.K (ev G cl (.call f l))):=(DZ F hr (cJ xo h2) hm hk hb .nil OP (h_l.2 xo go) d1 (aS ys hns.1) (fE pos hns.2)).wk λs H Q ⟨m,r,hh,d,h',w,st,e1,c⟩=>by
  simp only[ev] at e1;obtain⟨ds,h1,e0,e1⟩:=Rs.bind_ok e1;have e1:=Rs.nx_ok e1;refine⟨m,r,hh,ds,h1,w,st,e0,λm' vs H' g w' rd=>?_⟩;show DH X.K ca (cl f) ps.length (vs++ []) H' Q E0;rw[Zm];exact⟨by rw[<- rd.length];exact hlen _ _ (by rw[e1];exact λz=>nomatch z),m',h1,ds,w',rd,by rw[e1];exact λm2 v H2 g2=>c m2 v H2 (g.trans g2)⟩
 exact⟨p,iZ p λ_=>rfl⟩
theorem bC{f:Blt}{l:Es}{y:Expr}{ys:List Expr}{np pos:Pos}(h2:gG sc f.nm=true)(h_l:yB N sc G l (y::ys)):SE N sc G (.blt f l) (.Call (.Name f.nm np) (y::ys) [] pos):=λ{X ca cl} xo go=>by
 obtain⟨d1,d3⟩:=hG f;have hns:=h_l.1;rw[List.all_cons,Bool.and_eq_true] at hns
 have im:∀s H Q,TDE X.K (ev G cl (.blt f l)) s H Q->RH (JW X.K (gI f)) (WQ X.K (cM G cl l)) s H Q:=λs H Q ⟨m,r,hh,d,h',w,st,e1,c⟩=>by
  simp only[ev] at e1;obtain⟨ds,h1,e0,e1⟩:=Rs.bind_ok e1;exact⟨m,r,hh,ds,h1,w,st,e0,λm' vs H' g w' rd=>⟨m',h1,ds,d,h',w',rd,e1,λm2 v H2 g2=>c m2 v H2 (g.trans g2)⟩⟩
 have p:PE X (.Call (.Name f.nm np) (y::ys) [] pos) (TDE X.K (ev G cl (.blt f l))):=by
  have cb:=kX (X:=X) f λ_=>⟨xo.calm,xo.room⟩;have bb:=fS f;have key:∀v,f.val=v->(∃i,v=.builtin i)\/(∃T,v=.type T):=λv e=>by subst e;cases f<;>first |exact .inl ⟨_,rfl⟩|exact .inr ⟨_,rfl⟩
  rcases key _ rfl with ⟨i,ei⟩|⟨T,eT⟩
  ·rw[ei] at cb bb;exact(iO cb (cJ xo h2) (go.blt f) bb (h_l.2 xo go) d3 d1 (aS ys hns.1) (fE pos hns.2)).wk im
  ·rw[eT] at cb bb;exact(gW cb (cJ xo h2) (go.blt f) bb (h_l.2 xo go) d3 d1 (aS ys hns.1) (fE pos hns.2)).wk im
 exact⟨p,iZ p λ_=>rfl⟩
theorem tO{o a:E}{z:Str}{pz ap cp:Pos}{y:Expr}(h2:(ap.endLine==cp.line)=true)(h3:cX y=true)(h_o:SE N sc G o (.Name z pz))(h_a:SE N sc G a y):SE N sc G (.app o a) (.Call (.Attribute (.Name z pz) "append" ap) [y] [] cp):=λ{X ca cl} xo go=>by
 have ho:=(h_o xo go).1;have hA:PA X [y] (dX (TDE X.K (ev G cl a)) kJ):=bH ((h_a xo go).1) cV (aS [] h3)
 have p:PE X (.Call (.Attribute (.Name z pz) "append" ap) [y] [] cp) (TDE X.K (ev G cl (.app o a))):=(qQ PySem.F.plainAttrs_list PySem.F.slot_list_append PySem.F.type_list_append jF ho hA rfl (by rw[aS [] h3];rfl) h2 (aS [] h3) rfl).wk λs H Q q=>by
  refine TDE.one (λ_ _=>rfl) q λm m2 r d h2 h' H2 dx v st g w2 st2 rx e c=>?_;split at e
  ·rename_i hl;obtain⟨dy,h3,e3,e⟩:=Rs.bind_ok e;cases rx<;>first |(cases e;done)|skip
   case ref n a' ha eb=>
    simp only[eM] at e;split at e<;>first |(cases e;done)|skip
    rename_i l el;split at e<;>first |(cases e;done)|skip
    rename_i hz;cases e;have hl':∃l0,aK h2 n=some l0:=Option.isSome_iff_exists.mp hl;obtain⟨l0,hl'⟩:=hl';obtain⟨a'',vs0,ha'',hq,_⟩:=w2.lst hl';rw[ha] at ha'';cases ha'';refine⟨.inl ⟨rfl,vs0,hq⟩,m2,r,h2,dy,h3,w2,st2,e3,λm3 y' H3 g3 w3 ry=>?_⟩;have ha3:=g3.pre _ _ ha;obtain⟨vs,hv,rv⟩:∃vs,H3 a'=some (.lst vs)/\RDs X.K m3 H3 l vs:=w3.ob n _ a' el ha3;obtain⟨_,w4,g4⟩:=w3.lstSet el ha3 (rv.append (.cons ry .nil));exact⟨a',vs,y',rfl,rfl,hv,by rw[<- rv.length];exact Nat.lt_of_lt_of_le hz (by decide),c m3 _ _ (g3.trans g4) w4 .non⟩
  ·cases e
 exact⟨p,iZ p λ_=>rfl⟩
theorem rO{α:Type}(l:List α)(i:Int)(h:0<=i):(l.drop (HT.sIx l.length 0 none)).take (HT.sIx l.length l.length (some i)-HT.sIx l.length 0 none)=l.take i.toNat:=by
 have:HT.sIx l.length l.length (some i)=min i.toNat l.length:=by
  show(if i<0 then _ else _)=_
  rw[if_neg (by omega)]
 rw[HT.sIx_none,this,List.drop_zero,Nat.sub_zero]
 by_cases z:i.toNat<=l.length
 ·rw[Nat.min_eq_left z]
 ·rw[Nat.min_eq_right (by omega),List.take_length,List.take_of_length_le (by omega)]
theorem BU{α:Type}(l:List α)(i:Int)(h:0<=i):(l.drop (HT.sIx l.length 0 (some i))).take (HT.sIx l.length l.length none-HT.sIx l.length 0 (some i))=l.drop i.toNat:=by
 have:HT.sIx l.length 0 (some i)=min i.toNat l.length:=by
  show(if i<0 then _ else _)=_
  rw[if_neg (by omega)]
 rw[HT.sIx_none,this]
 by_cases z:i.toNat<=l.length
 ·rw[Nat.min_eq_left z,List.take_of_length_le (by rw[List.length_drop];omega)]
 ·rw[Nat.min_eq_right (by omega),List.drop_length,List.drop_of_length_le (by omega),List.take_nil]
theorem BV{α:Type}(l:List α)(i:Int)(h:¬0<=i):(l.drop (HT.sIx l.length 0 (some i))).take (HT.sIx l.length l.length none-HT.sIx l.length 0 (some i))=l.drop (l.length-i.natAbs):=by
 have:HT.sIx l.length 0 (some i)=l.length-i.natAbs:=by
  show(if i<0 then(i+(l.length:Int)).toNat else _)=_
  rw[if_pos (by omega)];omega
 rw[HT.sIx_none,this,List.take_of_length_le (by rw[List.length_drop];omega)]
theorem RDs.take{K:W.Frag}{m:List Addr}{H:Hp}:∀{ds:List D}{vs:List V}(n:Nat),RDs K m H ds vs->RDs K m H (ds.take n) (vs.take n)
 |_,_,0,_=>by rw[List.take_zero,List.take_zero];exact .nil
 |_,_,n+1,.nil=>by rw[List.take_nil,List.take_nil];exact .nil
 |_,_,n+1,.cons h t=>by rw[List.take_succ_cons,List.take_succ_cons];exact .cons h (RDs.take n t)
theorem RDs.drop{K:W.Frag}{m:List Addr}{H:Hp}:∀{ds:List D}{vs:List V}(n:Nat),RDs K m H ds vs->RDs K m H (ds.drop n) (vs.drop n)
 |_,_,0,q=>q
 |_,_,n+1,.nil=>.nil
 |_,_,n+1,.cons h t=>RDs.drop n t
theorem jS{a b:E}{x y:Expr}{p2 pos:Pos}(h_a:SE N sc G a x)(h_b:SE N sc G b y):SE N sc G (.slU a b) (.Subscript x (.Slice none (some y) none p2) pos):=λ{X ca cl} xo go=>by
 have p:PE X (.Subscript x (.Slice none (some y) none p2) pos) (TDE X.K (ev G cl (.slU a b))):=(gK uE (h_a xo go).1 iM (iL (h_b xo go).1)).wk λs H Q q=>by
  obtain⟨m,r,h,d,h',w,st,e,c⟩:=q;rw[ev] at e;refine TDE.two w st e λm2 H2 h2 dx dy x y g w2 rx ry e=>?_;unfold yW at e;split at e
  ·rename_i l i hl el;split at e
   ·rename_i hi;cases e;obtain⟨p,vs,rfl,hq,q⟩:=jG w2 rx hl el;cases ry;refine⟨i,rfl,p,vs,rfl,hq,λk hk=>?_⟩;have e1:nF vs none (some i)=vs.take i.toNat:=rO vs i hi;rw[e1];obtain⟨w3,g3⟩:=w2.lstNew hk (q.take i.toNat);exact c _ _ _ (g.trans g3) w3 (.ref (by rw[<- w2.len];simp))
   ·cases e
  ·cases e
 exact⟨p,iZ p λ_=>rfl⟩
theorem jT{a b:E}{x y:Expr}{p2 pos:Pos}(h_a:SE N sc G a x)(h_b:SE N sc G b y):SE N sc G (.slL a b) (.Subscript x (.Slice (some y) none none p2) pos):=λ{X ca cl} xo go=>by
 have p:PE X (.Subscript x (.Slice (some y) none none p2) pos) (TDE X.K (ev G cl (.slL a b))):=(gK uE (h_a xo go).1 (iL (h_b xo go).1) iM).wk λs H Q q=>by
  obtain⟨m,r,h,d,h',w,st,e,c⟩:=q;rw[ev] at e;refine TDE.two w st e λm2 H2 h2 dx dy x y g w2 rx ry e=>?_;unfold yY at e;split at e
  ·rename_i l i hl el;split at e
   ·rename_i hi;cases e;obtain⟨p,vs,rfl,hq,q⟩:=jG w2 rx hl el;cases ry;refine⟨i,rfl,p,vs,rfl,hq,λk hk=>?_⟩;have e1:nF vs (some i) none=vs.drop i.toNat:=BU vs i hi;rw[e1];obtain⟨w3,g3⟩:=w2.lstNew hk (q.drop i.toNat);exact c _ _ _ (g.trans g3) w3 (.ref (by rw[<- w2.len];simp))
   ·rename_i hi;cases e;obtain⟨p,vs,rfl,hq,q⟩:=jG w2 rx hl el;cases ry;refine⟨i,rfl,p,vs,rfl,hq,λk hk=>?_⟩;have e1:nF vs (some i) none=vs.drop (vs.length-i.natAbs):=BV vs i hi;rw[e1];obtain⟨w3,g3⟩:=w2.lstNew hk (q.drop (vs.length-i.natAbs));rw[<- q.length] at*;exact c _ _ _ (g.trans g3) w3 (.ref (by rw[<- w2.len];simp))
  ·cases e
 exact⟨p,iZ p λ_=>rfl⟩
theorem qD{K:W.Frag}{m:List Addr}{H:Hp}:∀{ds:List D}{vs:List V}{us:List Value}{xs:List Str},RDs K m H ds vs->Vals vs us->lJ ds=some xs->StrsAre us xs
 |_,_,_,_,.nil,.nil,e=>by cases e;exact .nil
 |_,_,_,_,.cons r q,.cons v t,e=>by
  cases r<;>first |(cases e;done)|skip
  simp only[lJ,Option.map_eq_some_iff] at e;obtain⟨l,e1,rfl⟩:=e;obtain⟨tk,rfl⟩:=v;exact .cons _ tk (qD q t e1)
theorem EN{X:Cx}(z:Str):SI X "str.join" (λx vs H Q=>x=.str z/\∃m h y v d h',vs=[v]/\Wd X.K m h H/\RD X.K m H y v/\jZ z y h=.ok d h'/\∀m' v H',Gr X.K m H m' H'->Wd X.K m' h' H'->RD X.K m' H' d v->Q v H'):=by
 intro pins s σ H x vs v us Q I rx rv ⟨ex,m,h,y,v',d,h',ev,w,r1,e,c⟩;subst ex ev;obtain⟨t,rfl⟩:=rx;obtain⟨u,rfl,ru⟩:=fB rv;unfold jZ at e;split at e
 ·rename_i l hl el;split at e
  ·rename_i xs ex;split at e
   ·rename_i hz;cases e;obtain⟨p,ws,rfl,hq,q⟩:=jG w r1 hl el;cases ru;obtain⟨its,p1,t1,_⟩:=I.list hq;exact join_list t1.isList (by simpa using qD q p1 ex) (by omega) λt' k=>⟨.str _,H,I.tok k,⟨t',rfl⟩,c m _ H .refl w (.str _)⟩
   ·cases e
  ·cases e
 ·cases e
theorem pM{z:Str}{a:E}{j:Nat}{kp ap cp:Pos}{y:Expr}(h2:(ap.endLine==cp.line)=true)(h3:cX y=true)(h_a:SE N sc G a y):SE N sc G (.join z a) (.Call (.Attribute (.Constant (.str z) j kp) "join" ap) [y] [] cp):=λ{X ca cl} xo go=>by
 have hA:PA X [y] (dX (TDE X.K (ev G cl a)) kJ):=bH ((h_a xo go).1) cV (aS [] h3)
 have p:PE X (.Call (.Attribute (.Constant (.str z) j kp) "join" ap) [y] [] cp) (TDE X.K (ev G cl (.join z a))):=(qQ PySem.F.plainAttrs_str PySem.F.slot_str_join PySem.F.type_str_join (EN z) fY hA rfl (by rw[aS [] h3];rfl) (by simpa using h2) (aS [] h3) rfl).wk λs H Q q=>by
  refine⟨rfl,TDE.one (k:=λ_ x h=>jZ z x h) (λr h=>by rw[ev]) q λm m2 r d h2 h' H2 dx v st g w2 st2 rx e c=>?_⟩;exact⟨rfl,m2,h2,dx,v,d,h',rfl,w2,rx,e,c⟩
 exact⟨p,iZ p λ_=>rfl⟩
theorem aJ:yB N sc G .nil []:=⟨rfl,λ{X ca cl} xo go=>L2.PA.wk cV λs H Q ⟨m,r,hh,ds,h',w,st,e1,c⟩=>by
 cases e1;exact c m [] H Gr.refl w .nil⟩
theorem aB{c:E}{l:Es}{e:Expr}{es:List Expr}(hn:cX e=true)(he:SE N sc G c e)(hl:yB N sc G l es):yB N sc G (.cons c l) (e::es):=⟨by rw[List.all_cons,hn,hl.1];rfl,λ{X ca cl} xo go=>by
 refine L2.PA.wk (bH (he xo go).1 (hl.2 xo go) (aS es hn)) λs H Q ⟨m,r,hh,ds,h',w,st,e1,cc⟩=>?_;simp only[cM] at e1;obtain⟨d,h1,e0,e1⟩:=Rs.bind_ok e1;obtain⟨ds',h2,e2,e1⟩:=Rs.bind_ok e1;cases e1;exact⟨m,r,hh,d,h1,w,st,e0,λm1 v H1 g1 w1 rv=>⟨m1,r,h1,ds',_,w1,st.mono g1,e2,λm2 vs H2 g2 w2 rvs=>cc m2 _ H2 (g1.trans g2) w2 (.cons (rv.mono g2) rvs)⟩⟩⟩
theorem fX:NG N sc G .nil []:=λ{X ca cl} xo go=>λpins s σ H Q I ⟨m,r,hh,b,h',w,st,e1,c⟩=>by
 rw[kG] at e1;cases e1;exact Zb ⟨H,I,c m H Gr.refl w⟩
theorem DK{c:E}{l:Es}{e:Expr}{es:List Expr}(he:SE N sc G c e)(hl:NG N sc G l es):NG N sc G (.cons c l) (e::es):=λ{X ca cl} xo go=>λpins s σ H Q I ⟨m,r,hh,b,h',w,st,e1,cc⟩=>by
 rw[kG] at e1;obtain⟨d,h1,e0,e1⟩:=Rs.bind_ok e1;refine sF ?_;split at e1
 ·rename_i et;refine bS ((he xo go).2 pins s σ H (λk H1=>k=true/\NF X.K (kG G cl l) σ H1 Q) I ⟨m,r,hh,d,h1,true,w,st,e0,et,λm' H' g w'=>⟨rfl,m',r,h1,b,_,w',st.mono g,e1,λm2 H2 g2=>cc m2 H2 (g.trans g2)⟩⟩) λk s1 ⟨H1,I1,ek,q1⟩=>?_;subst ek;exact hl xo go pins s1 σ H1 Q I1 q1
 ·rename_i et;cases e1;refine bS ((he xo go).2 pins s σ H (λk H1=>k=false/\Q false H1) I ⟨m,r,hh,d,_,false,w,st,e0,et,λm' H' g w'=>⟨rfl,cc m' H' g w'⟩⟩) λk s1 ⟨H1,I1,ek,q1⟩=>?_;subst ek;exact qC ⟨H1,I1,q1⟩
 ·cases e1
structure Blk (N:List Str)(sc:Scope)(N':List Str)(cap:List Nat)(scope:Scope):Prop where
 S:ScOk scope sc
 nd:N'.Nodup
 capL:cap.length<=N'.length
 nN:(N'.drop (N'.length-cap.length)).map some=cap.map (λ(i:Nat)=>N[i]?)
 fr:∀x∈N'.drop (N'.length-cap.length),scope.names.lookup x=some .free
theorem eW{N':List Str}{cap:List Nat}{scope:Scope}(h:(JS scope sc&&lX N'&&IR N N' cap scope)=true):Blk N sc N' cap scope:=by
 simp only[Bool.and_eq_true] at h;obtain⟨⟨h1,h2⟩,h3⟩:=h;unfold IR at h3;simp only[Bool.and_eq_true,decide_eq_true_eq,beq_iff_eq,List.all_eq_true] at h3;exact⟨DJ h1,jE h2,h3.1.1,h3.1.2,h3.2⟩
noncomputable def wG:Ck->Expr->Bool
 |.itf,.Tuple _ _ _=>true
 |.itf,_=>false
 |.its,.Tuple _ _ _=>true
 |.its,_=>false
 |.zp,.Tuple _ _ _=>true
 |.zp,_=>false
 |_,_=>true
def MX(N:List Str)(sc:Scope)(G:Gs)(k:Ck)(it:Es)(iter:Expr):Prop:=∀{X:Cx}{ca:Nat->Addr}{cl:Cl},XOk X N sc->GOk X G ca cl->∀{t:Tg}{tg:Expr}{ft:Ev->Hh->Rs Bool}{fe:Ev->Hh->Rs D}{N':List Str}{cap:List Nat}(_:wG k tg=true)
    (pins:List (Addr×Obj))(s:Shared)(σ:Sg)(H:Hp)(m:List Addr)(r:Ev)(h:Hh)(xs:List D)(h1 h':Hh),Inv X pins σ H s->Wd X.K m h H->RSt X.K m H r σ->cM G cl it r h=.ok xs h1->dC t ft fe h1.length k xs h1 (aR N' cap r) (h1++ [.lst []])=.ok () h'->
    wpAny (model X.prog X.w) X.A (eval iter X.env) (λv s1=>wpAny (model X.prog X.w) X.A (pyIter v)
     (CV X pins σ tg λJ H2=>∃(m2:List Addr)(h2:Hh),h2.length=h1.length/\Gr X.K m H m2 H2/\Wd X.K m2 h2 H2/\iA X.K t ft fe h2.length h' J m2 H2 (aR N' cap r) (h2++ [.lst []])) X.xe s1) X.xe s
theorem qZ{a:E}{x:Expr}(ha:SE N sc G a x):MX N sc G .sq (.cons a .nil) x:=λ{X ca cl} xo go {t tg ft fe N' cap} tk pins s σ H m r h xs h1 h' I w st e1 e3=>by
 have hp:=(ha xo go).1;rw[cM] at e1;obtain⟨x,h5,ex,e1⟩:=Rs.bind_ok e1;rw[cM] at e1;obtain⟨_,_,e4,e1⟩:=Rs.bind_ok e1;cases e4;cases e1;cases x<;>first |(cases e3;done)|skip
 ·refine zN hp pins s σ H _ I ⟨m,r,h,_,_,w,st,ex,λm' v H' g w' rv=>?_⟩;cases rv with
  |tup hq q=>exact⟨_,rfl,⟨_,hq⟩,m',_,rfl,g,w',wB hq q e3⟩
 ·rename_i n;simp only[dC] at e3;split at e3
  ·rename_i l el;refine uK hp pins s σ H _ I ⟨m,r,h,_,_,w,st,ex,λm' v H' g w' rv=>?_⟩;cases rv with
   |ref ha=>
    obtain⟨a',vs,ha',hq,_⟩:=w'.lst el;rw[ha] at ha';cases ha';exact⟨_,rfl,⟨_,hq⟩,m',_,rfl,g,w',wC ha e3⟩
  ·cases e3
theorem HW{a:E}{y:Expr}{p pos:Pos}(hg:gG sc "range"=true)(hs:cX y=true)(ha:SE N sc G a y):MX N sc G .r1 (.cons a .nil) (.Call (.Name "range" p) [y] [] pos):=λ{X ca cl} xo go {t tg ft fe N' cap} tk pins s σ H m r h xs h1 h' I w st e1 e3=>by
 have hA:=aB hs ha (aJ (N:=N) (sc:=sc) (G:=G));refine nQ (cJ xo hg) xo.rng (hA.2 xo go) (aS [] hs) pins s σ H _ I ⟨m,r,h,xs,h1,w,st,e1,λm' vs H' g w' rv=>?_⟩;rcases xs with _|⟨x,_|⟨y,xs⟩⟩<;>first |(cases e3;done)|(cases x<;>(cases e3;done))|skip
 cases x<;>first |(cases e3;done)|skip
 rename_i j;simp only[dC] at e3;split at e3
 ·rename_i ho;cases rv with
  |cons rx rv=>
   cases rx;cases rv;have tt:=nJ (K:=X.K) (m2:=m') (H2:=H') (lo:=0) (hi:=j) e3;exact⟨j,rfl,ho.1,ho.2,m',_,rfl,g,w',by simpa using tt⟩
 ·cases e3
theorem BX{t:Tg}{k:Ck}{it cs:Es}{e:E}{N':List Str}{cap:List Nat}{tg iter:Expr}(hi:MX N sc G k it iter)(tk:wG k tg=true){X:Cx}{ca:Nat->Addr}{cl:Cl}(xo:XOk X N sc)(go:GOk X G ca cl)
 (pins:List (Addr×Obj))(s:Shared)(σ:Sg)(H:Hp)(m:List Addr)(r:Ev)(h:Hh)(d:D)(h':Hh)(I:Inv X pins σ H s)(w:Wd X.K m h H)(st:RSt X.K m H r σ)(ev1:ev G cl (.comp t k it cs e N' cap) r h=.ok d h'):
 ∃h1:Hh,d=.ref h1.length/\wpAny (model X.prog X.w) X.A (eval iter X.env) (λv s1=>wpAny (model X.prog X.w) X.A (pyIter v)
  (CV X pins σ tg λJ H2=>∃(m2:List Addr)(h2:Hh),h2.length=h1.length/\Gr X.K m H m2 H2/\Wd X.K m2 h2 H2/\iA X.K t (kG G cl cs) (ev G cl e) h2.length h' J m2 H2 (aR N' cap r) (h2++ [.lst []])) X.xe s1) X.xe s:=by
 rw[ev] at ev1;obtain⟨xs,hh1,e1,e2⟩:=Rs.bind_ok ev1;obtain⟨_,hh2,e3,e2⟩:=Rs.bind_ok e2;cases e2;exact⟨hh1,rfl,hi xo go tk pins s σ H m r h xs hh1 _ I w st e1 e3⟩
theorem rP{t:Tg}{cs:Es}{e:E}{N':List Str}{cap:List Nat}{elt tg:Expr}{ifs:List Expr}{scope:Scope}(B:Blk N sc N' cap scope)(ht:mR N' scope t tg=true)(hc:NG N' (eI scope sc) G cs ifs)(he:SE N' (eI scope sc) G e elt){X:Cx}{ca:Nat->Addr}{cl:Cl}(xo:XOk X N sc)(go:GOk X G ca cl)(C:Addr)(s3:Shared)(H3:Hp)(fp:List Addr):
 PG (dF X N' scope C s3 H3 fp) tg (yF X.K t)/\QV (dF X N' scope C s3 H3 fp) ifs (NF X.K (kG G cl cs))/\PE (dF X N' scope C s3 H3 fp) elt (TDE X.K (ev G cl e)):=
 ⟨OO (mY xo B.nd C s3 H3 fp) (vV (by rw[xo.s];exact B.S) C s3 H3 fp) ht,hc (mY xo B.nd C s3 H3 fp) (tR go C s3 H3 fp),(he (mY xo B.nd C s3 H3 fp) (tR go C s3 H3 fp)).1⟩
theorem gE{t:Tg}{k:Ck}{it cs:Es}{e:E}{N':List Str}{cap:List Nat}{elt tg iter:Expr}{ifs:List Expr}{scope:Scope}{pos:Pos}(B:Blk N sc N' cap scope)(ns:nR iter=true)(ht:mR N' scope t tg=true)(hi:MX N sc G k it iter)(hc:NG N' (eI scope sc) G cs ifs)(he:SE N' (eI scope sc) G e elt)(tk:wG k tg=true:=by rfl):
 SE N sc G (.comp t k it cs e N' cap) (.ListComp elt [⟨tg,iter,ifs,0⟩] scope pos):=λ{X ca cl} xo go=>by
 have p:PE X (.ListComp elt [⟨tg,iter,ifs,0⟩] scope pos) (TDE X.K (ev G cl (.comp t k it cs e N' cap))):=GE xo B.S B.capL B.nN B.fr (rP B ht hc he xo go) ns (BX hi tk xo go);exact⟨p,iZ p λ_=>rfl⟩
end
section
variable {N:List Str}{sc:Scope}{G:Gs}
def MtE(e:Expr)(m:Str)(ap cp:Pos)(args:List Expr):Prop:=∀env:Env,∃pl:Sem Bool,eval (.Call (.Attribute e m ap) args [] cp) env=(do
 let ov <- eval e env
 standAt ap.atName
 let(f,first) <- holding [ov] (getMethod ov m pl)
 callWith cp f first (backTo cp (starEach args env)) (backToKw cp (keywordEach [] env)))
theorem BQ{a b:E}{x y:Expr}{p2 pos:Pos}(h_a:SE N sc G a x)(h_b:SE N sc G b y):SE N sc G (.slT a b) (.Subscript x (.Slice none (some y) none p2) pos):=λ{X ca cl} xo go=>by
 have p:PE X (.Subscript x (.Slice none (some y) none p2) pos) (TDE X.K (ev G cl (.slT a b))):=(gK JO (h_a xo go).1 iM (iL (h_b xo go).1)).wk λs H Q q=>by
  obtain⟨m,r,h,d,h',w,st,e,c⟩:=q;rw[ev] at e;refine TDE.two w st e λm2 H2 h2 dx dy x y g w2 rx ry e=>?_;unfold JQ at e;split at e<;>first |(cases e;done)|skip
  rename_i l i;split at e<;>first |(cases e;done)|skip
  rename_i hi;cases e;cases ry;cases rx with
  | @tup a' _ vs hq q=>
    have lq:=q.length;refine⟨i,rfl,a',vs,rfl,hq,λz=>?_,λk hk=>?_⟩
    ·have:HT.sIx vs.length vs.length (some i)=min i.toNat vs.length:=by
      show(if i<0 then _ else _)=_
      rw[if_neg (by omega)]
     omega
    ·have e1:nF vs none (some i)=vs.take i.toNat:=rO vs i hi.1;rw[e1];have gt:=Gr.tupNew (K:=X.K) (m:=m2) (o:=.tup (vs.take i.toNat)) hk;exact c _ _ _ (g.trans gt) (w2.keepNew hk) (.tup (.of bB) ((q.take i.toNat).mono gt))
 exact⟨p,iZ p λ_=>rfl⟩
end
noncomputable def clipN(n d:Nat):Option Int->Nat
 |none=>d
 |some i=>min i.toNat n
noncomputable def EL:Option Int->Prop
 |none=>True
 |some i=>0<=i
theorem DF(lo hi:Option Int)(n:Nat)(h1:EL lo)(h2:EL hi):Builtin.Str.strSliceIndices lo hi 1 n=sliceRange (clipN n 0 lo:Nat) (clipN n n hi:Nat) 1:=by
 have c:∀i:Int,0<=i->max 0 (min (if i<0 then i+(n:Int) else i) (n:Int))=((min i.toNat n:Nat):Int):=λi hi=>by rw[if_neg (by omega)];omega
 unfold Builtin.Str.strSliceIndices;cases lo with
 |none=>
  cases hi with
  |none=>rfl
  |some j=>simp only[show(1:Int)>0 by decide,if_true,c j h2];rfl
 |some i=>
  cases hi with
  |none=>simp only[show(1:Int)>0 by decide,if_true,c i h1];rfl
  |some j=>simp only[show(1:Int)>0 by decide,if_true,c i h1,c j h2];rfl
noncomputable def xP(z:Str)(lo hi:Option Int):Str:=⟨((z.cps.toList.drop (clipN z.length 0 lo)).take (clipN z.length z.length hi-clipN z.length 0 lo)).toArray⟩
noncomputable def UE:V->Option Int->Option Int->Hp->VK->Prop:=λx lo hi H Q=>∃z,x=.str z/\z.length<=sizeLine/\EL lo/\EL hi/\Q (.str (xP z lo hi)) H
theorem uR{v:Value}{p:Option Int}(h:IsPart v p):∃q:Option (Int×Tok),v=partValue q/\q.map (·.1)=p:=by
 cases h with
 |none=>exact⟨none,rfl,rfl⟩
 |int i t=>exact⟨some (i,t),rfl,rfl⟩
theorem yU{X:Cx}:SB X UE:=by
 intro pins s σ H x v vl vu lo hi sl Q I rx hs pl pu ⟨z,ex,hz,n1,n2,q⟩;subst ex;obtain⟨t,rfl⟩:=rx;obtain⟨l,rfl,rfl⟩:=uR pl;obtain⟨u,rfl,rfl⟩:=uR pu;refine⟨"str",_,F.slot_str_getitem.lookup,typeIs_str s z t,?_⟩;refine wpAny_getItem_str_slice (l:=l) (u:=u) (st:=none) hs rfl ?_
 have ep:slicePicked z l u none=(List.range (clipN z.length z.length (u.map (·.1))-clipN z.length 0 (l.map (·.1)))).map (clipN z.length 0 (l.map (·.1))+ ·):=by
  show Builtin.Str.strSliceIndices _ _ 1 z.length=_;rw[DF _ _ _ n1 n2,sliceRange_one]
 unfold sliceMade;rw[ep];split
 ·rename_i he;have he':clipN z.length z.length (u.map (·.1))-clipN z.length 0 (l.map (·.1))=z.length:=by simpa using he
  have ez:xP z (l.map (·.1)) (u.map (·.1))=z:=by
   have hu:clipN z.length z.length (u.map (·.1))<=z.length:=by
    cases u with
    |none=>exact Zn _
    |some p=>exact Nat.min_le_right _ _
   have h0:(z.cps.toList.drop (clipN z.length 0 (l.map (·.1)))).take (clipN z.length z.length (u.map (·.1))-clipN z.length 0 (l.map (·.1)))=z.cps.toList:=by
    have ln:z.cps.toList.length=z.length:=Array.length_toList
    by_cases hz0:z.length=0
    ·have:z.cps.toList=[]:=List.length_eq_zero_iff.mp (by omega);rw[this];simp
    ·have c0:clipN z.length 0 (l.map (·.1))=0:=by omega
     rw[c0,List.drop_zero,List.take_of_length_le (by omega)]
   unfold xP;rw[h0]
  rw[ez] at q;exact⟨.str z,H,I,⟨t,rfl⟩,q⟩
 ·rw[pick_run];refine⟨?_,.str (xP z (l.map (·.1)) (u.map (·.1))),H,I.tok _,⟨_,rfl⟩,q⟩
  show((z.cps.toList.drop _).take _).toArray.size<=sizeLine
  rw[Zk,List.length_take,List.length_drop];have ln:z.cps.toList.length=z.length:=Array.length_toList;omega
section
variable {N:List Str}{sc:Scope}{G:Gs}
theorem xN(z:Str)(i:Int):xP z none (some i)=⟨(z.cps.toList.take i.toNat).toArray⟩:=by
 have ln:z.cps.toList.length=z.length:=Array.length_toList
 show(⟨((z.cps.toList.drop 0).take (min i.toNat z.length-0)).toArray⟩:Str)=_
 rw[List.drop_zero,Nat.sub_zero];congr 2
 by_cases h:i.toNat<=z.length
 ·rw[Nat.min_eq_left h]
 ·rw[Nat.min_eq_right (by omega),List.take_of_length_le (by omega),List.take_of_length_le (by omega)]
theorem xO(z:Str)(i:Int):xP z (some i) none=⟨(z.cps.toList.drop i.toNat).toArray⟩:=by
 have ln:z.cps.toList.length=z.length:=Array.length_toList
 show(⟨((z.cps.toList.drop (min i.toNat z.length)).take (z.length-min i.toNat z.length)).toArray⟩:Str)=_
 congr 2
 by_cases h:i.toNat<=z.length
 ·rw[Nat.min_eq_left h,List.take_of_length_le (by rw[List.length_drop];omega)]
 ·rw[Nat.min_eq_right (by omega),List.drop_of_length_le (by omega),List.drop_of_length_le (by omega),List.take_nil]
theorem MK{a b:E}{x y:Expr}{p2 pos:Pos}(h_a:SE N sc G a x)(h_b:SE N sc G b y):SE N sc G (.slA a b) (.Subscript x (.Slice none (some y) none p2) pos):=λ{X ca cl} xo go=>by
 have p:PE X (.Subscript x (.Slice none (some y) none p2) pos) (TDE X.K (ev G cl (.slA a b))):=(gK yU (h_a xo go).1 iM (iL (h_b xo go).1)).wk λs H Q q=>by
  obtain⟨m,r,h,d,h',w,st,e,c⟩:=q;rw[ev] at e;refine TDE.two w st e λm2 H2 h2 dx dy x y g w2 rx ry e=>?_;unfold JR at e;split at e<;>first |(cases e;done)|skip
  rename_i z i;split at e<;>first |(cases e;done)|skip
  rename_i hi;cases e;cases ry;cases rx;refine⟨i,rfl,z,rfl,Nat.le_trans hi.2 (by decide),trivial,hi.1,?_⟩;rw[xN];exact c m2 _ H2 g w2 (.str _)
 exact⟨p,iZ p λ_=>rfl⟩
theorem BP{a b:E}{x y:Expr}{p2 pos:Pos}(h_a:SE N sc G a x)(h_b:SE N sc G b y):SE N sc G (.slZ a b) (.Subscript x (.Slice (some y) none none p2) pos):=λ{X ca cl} xo go=>by
 have p:PE X (.Subscript x (.Slice (some y) none none p2) pos) (TDE X.K (ev G cl (.slZ a b))):=(gK yU (h_a xo go).1 (iL (h_b xo go).1) iM).wk λs H Q q=>by
  obtain⟨m,r,h,d,h',w,st,e,c⟩:=q;rw[ev] at e;refine TDE.two w st e λm2 H2 h2 dx dy x y g w2 rx ry e=>?_;unfold JP at e;split at e<;>first |(cases e;done)|skip
  rename_i z i;split at e<;>first |(cases e;done)|skip
  rename_i hi;cases e;cases ry;cases rx;refine⟨i,rfl,z,rfl,Nat.le_trans hi.2 (by decide),hi.1,trivial,?_⟩;rw[xO];exact c m2 _ H2 g w2 (.str _)
 exact⟨p,iZ p λ_=>rfl⟩
end
noncomputable def NJ(x:Str):It:=⟨λi _=>i<x.cps.size,λi H y H'=>H'=H/\∃c,x.cps[i]? =some c/\y=.str ⟨#[c]⟩,λi _=>x.cps.size<=i⟩
theorem qB{P:Program}{w:World}{K:PySem.W.Frag}{tg:Expr}{x:Str}{t:Tok}{T:String}{it:Addr}(hn: ["enumerate","zip","dict_itemiterator","dict_reverseitemiterator","odict_iterator","itertools.zip_longest","itertools.pairwise"].contains T=false)
 (W:∀A':Around,A'.handled=none->Walks P w A' it [it] [it] x.cps.size (SignAt x) (λi h=>h.IsStrIter it T x t i))(hs:∀(A:Around)(i:Nat)(s:Shared)(Q:Value->Shared->Prop)(E:Value->Shared->Prop),s.heap.IsStrIter it T x t i->Q (.ref it) s->wpAny (model P w) A (pyIter (.ref it)) Q E s):
 Turn P w K tg (NJ x) [it] it (λi h=>i<=x.cps.size/\h.IsStrIter it T x t i) where
 mem:=by simp
 obj:=λi h st b hb=>by
  have e:b=it:=by simpa using hb
  subst e;obtain⟨_,o,e,c,d⟩:=st;exact⟨o,e,λv z=>by rw[d] at z;cases z⟩
 keep:=λi h h' st k=>⟨st.1,let⟨o,e,r⟩:=st.2;⟨o,k it (by simp) o e,r⟩⟩
 item:=by
  intro X hP hw hK hc i pins s σ H E I hf st hg;subst hP hw hK;obtain⟨f0,f1,f2,f3,f4,f5⟩:=hf it (by simp);refine(W X.A (I.ok.hd hc)).item i s _ _ hg st.2 λv h' tk hv st' kk=>?_;obtain⟨c,u,h1,rfl⟩:=hv;have I1:Inv X pins σ H {s with heap:=h',toks:=tk}:=I.turned (λb o hb e=>kk b o (by simpa using hb) e) f0 f1 f3 f4 f5;obtain⟨o,e1,e2,e3⟩:=id st';exact⟨_,rfl,vA (s:={s with heap:=h',toks:=tk}) (n:=T) e1 e2 e3 hn ⟨.str ⟨#[c]⟩,H,I1,⟨u,rfl⟩,⟨rfl,c,h1,rfl⟩,⟨hg,st'⟩,λb hb=>(hf b hb).1⟩⟩
 done:=by
  intro X hP hw hK hc i pins s σ H E I hf st hg;subst hP hw hK;obtain⟨f0,f1,f2,f3,f4,f5⟩:=hf it (by simp);obtain⟨s1,s2⟩:=st;have ei:i=x.cps.size:=Nat.le_antisymm s1 hg;subst ei;exact(W X.A (I.ok.hd hc)).done s _ _ s2 λh' tk eb=>⟨rfl,I.turned (t':=tk) (λb o hb e=>eb b o (by simpa using hb) e) f0 f1 f3 f4 f5⟩
 self:=λA i s Q E st h=>hs A i s Q E st.2 h
section
variable {N:List Str}{sc:Scope}{G:Gs}
theorem PL{a:E}{x:Expr}(ha:SE N sc G a x):MX N sc G .st (.cons a .nil) x:=λ{X ca cl} xo go {t tg ft fe N' cap} tk pins s σ H m r h xs h1 h' I w st e1 e3=>by
 have hp:=(ha xo go).1;rw[cM] at e1;obtain⟨x,h5,ex,e1⟩:=Rs.bind_ok e1;rw[cM] at e1;obtain⟨_,_,e4,e1⟩:=Rs.bind_ok e1;cases e4;cases e1;obtain⟨y,rfl⟩:∃y,x=.str y:=by cases x<;>first |exact⟨_,rfl⟩|(cases e3;done)
 simp only[dC] at e3;split at e3<;>first |(cases e3;done)|skip
 refine bS (hp pins s σ H (λv H'=>∃m',Gr X.K m H m' H'/\Wd X.K m' h1 H'/\RD X.K m' H' (.str y) v) I ⟨m,r,h,_,_,w,st,ex,λm' v H' g w' rv=>⟨m',g,w',rv⟩⟩) λu s1 ⟨v,H1,I1,rv,m1,g1,w1,rd⟩=>?_;cases rd;obtain⟨tt,rfl⟩:=rv
 have tl:iA X.K t ft fe h1.length h' (NJ y) m1 H1 (aR N' cap r) (h1++ [.lst []]):=by
  refine fV e3 (λi d m H g ed=>?_) λi m H g hi=>?_
  ·rw[Zi,Option.map_eq_some_iff] at ed;obtain⟨c,ec,rfl⟩:=ed;have ec':y.cps[i]? =some c:=by rw[<- Array.getElem?_toList];exact ec
   refine⟨(Array.getElem?_eq_some_iff.mp ec').1,λz H' ⟨q1,c',q2,q3⟩=>?_⟩;rw[ec'] at q2;cases q2;subst q3;exact⟨q1,.str _⟩
  ·rw[Zc,Array.length_toList] at hi;exact hi
 have fin:∀(T:String)(o:Obj),o.cls=.type T->o.data=.fields #[.str y tt,.int 0 0]->o.isFreed=false->["enumerate","zip","dict_itemiterator","dict_reverseitemiterator","odict_iterator","itertools.zip_longest","itertools.pairwise"].contains T=false->
  (∀A':Around,A'.handled=none->Walks X.prog X.w A' s1.heap.objs.size [s1.heap.objs.size] [s1.heap.objs.size] y.cps.size (SignAt y) (λi h=>h.IsStrIter s1.heap.objs.size T y tt i))->(∀(A:Around)(i:Nat)(s:Shared)(Q:Value->Shared->Prop)(E:Value->Shared->Prop),s.heap.IsStrIter s1.heap.objs.size T y tt i->Q (.ref s1.heap.objs.size) s->wpAny (model X.prog X.w) A (pyIter (.ref s1.heap.objs.size)) Q E s)->
  CV X pins σ tg (λJ H2=>∃(m2:List Addr)(h2:Hh),h2.length=h1.length/\Gr X.K m H m2 H2/\Wd X.K m2 h2 H2/\iA X.K t ft fe h2.length h' J m2 H2 (aR N' cap r) (h2++ [.lst []])) (.ref s1.heap.objs.size) {s1 with heap:=s1.heap.push o}:=λT o o1 o2 of hn W hs=>by
  refine⟨s1.heap.objs.size,[s1.heap.objs.size],_,_,H1,rfl,I1.kept (t':=s1.toks) λb o e=>Zf _ e,qB hn W hs,⟨Nat.zero_le _,o,Heap.get?_push_size _ of,o1,o2⟩,λb hb=>?_,m1,h1,rfl,g1,w1,tl⟩;have e:b=s1.heap.objs.size:=by simpa using hb
  subst e;exact I1.fpOk (Zn _) (I1.hok.fresh (Zn _))
 cases hal:y.cps.all (·<128)
 ·exact wpAny_pyIter_wide hal (fin "str_iterator" _ rfl rfl rfl (by decide) (λA' hA=>Walks.strWide hA _ y tt) λA i s Q E st h=>wpAny_pyIter_striter_wide st h)
 ·exact wpAny_pyIter_ascii hal (fin "str_ascii_iterator" _ rfl rfl rfl (by decide) (λA' hA=>Walks.strAscii hA _ y tt) λA i s Q E st h=>wpAny_pyIter_striter_ascii st h)
end
section
variable {X:Cx}{pins:List (Addr×Obj)}{σ:Sg}{H:Hp}{s:Shared}
end
section
variable {Y:Cx}{kx vx:Expr}{fk fv:Ev->Hh->Rs D}{n0 acc:Nat}
end
section
variable {X:Cx}{N':List Str}{scope:Scope}{cap:List Nat}{kx vx tg1 iter1:Expr}{pos:Pos}{t1:Tg}{fk fv:Ev->Hh->Rs D}
end
section
variable {N:List Str}{sc:Scope}{G:Gs}
end
section
variable {N:List Str}{sc:Scope}{G:Gs}
theorem GG{X:Cx}:eJ X (.type "str") (JW X.K (one nE)):=by
 intro pins s σ H xs us Q I rs ⟨m,h,ds,d,h',w,r,e,c⟩;obtain⟨x,v,rfl,r1,e⟩:=iB r e;unfold nE at e;split at e
 ·split at e<;>first |(cases e;done)|skip
  rename_i hi;cases e;cases r1;exact pN pins s σ H _ us Q I rs ⟨_,rfl,hi,c m _ H .refl w (.str _)⟩
 ·split at e<;>first |(cases e;done)|skip
  cases e;cases r1;obtain⟨u,rfl,t,rfl⟩:=fB rs;exact PySem.P.str_of_str ⟨.str _,H,I,⟨_,rfl⟩,c m _ H .refl w (.str _)⟩
 ·cases e
theorem GH{X:Cx}:eJ X (.type "int") (JW X.K (one EU)):=by
 intro pins s σ H xs us Q I rs ⟨m,h,ds,d,h',w,r,e,c⟩;obtain⟨x,v,rfl,r1,e⟩:=iB r e;unfold EU at e;split at e<;>first |(cases e;done)|skip
 split at e<;>first |(cases e;done)|skip
 rename_i hz;split at e<;>first |(cases e;done)|skip
 rename_i i ei;cases e;cases r1;obtain⟨u,rfl,t,rfl⟩:=fB rs;exact W.KIN.call_text ei hz ⟨.int _,H,I.tok _,⟨_,rfl⟩,c m _ H .refl w (.int _)⟩
theorem uA{K:W.Frag}{cl:Cl}{a c:E}{k:D->Hh->Rs D}(hf:∀r h,ev G cl c r h=(ev G cl a r h).bind λx h=>k x h)(s:Sg)(H:Hp)(Q:VK)(q:TDE K (ev G cl c) s H Q):RH (JW K (one k)) (WQ K (cM G cl (.cons a .nil))) s H Q:=by
 obtain⟨m,r,hh,d,h',w,st,e1,cc⟩:=q;rw[hf] at e1;obtain⟨x,h1,e0,e1⟩:=Rs.bind_ok e1;refine⟨m,r,hh,[x],h1,w,st,?_,λm' vs H' g w' rd=>⟨m',h1,[x],d,h',w',rd,e1,λm2 v H2 g2=>cc m2 v H2 (g.trans g2)⟩⟩;rw[cM,e0];rfl
theorem jR{a:E}{y:Expr}{np pos:Pos}(h2:gG sc "str"=true)(h3:cX y=true)(h_a:SE N sc G a y):SE N sc G (.sof a) (.Call (.Name "str" np) [y] [] pos):=λ{X ca cl} xo go=>by
 have hl:=aB h3 h_a (aJ (N:=N) (sc:=sc) (G:=G));have p:PE X (.Call (.Name "str" np) [y] [] pos) (TDE X.K (ev G cl (.sof a))):=(gW GG (cJ xo h2) (go.ty .str) (iV .str) (hl.2 xo go) (fF .str).2 (fF .str).1 (aS [] h3) (fE pos rfl)).wk λs H Q q=>uA (λr h=>by rw[ev]) s H Q q;exact⟨p,iZ p λ_=>rfl⟩
theorem BR{a:E}{y:Expr}{np pos:Pos}(h2:gG sc "int"=true)(h3:cX y=true)(h_a:SE N sc G a y):SE N sc G (.itx a) (.Call (.Name "int" np) [y] [] pos):=λ{X ca cl} xo go=>by
 have hl:=aB h3 h_a (aJ (N:=N) (sc:=sc) (G:=G));have p:PE X (.Call (.Name "int" np) [y] [] pos) (TDE X.K (ev G cl (.itx a))):=(gW GH (cJ xo h2) (go.ty .int) (iV .int) (hl.2 xo go) (fF .int).2 (fF .int).1 (aS [] h3) (fE pos rfl)).wk λs H Q q=>uA (λr h=>by rw[ev]) s H Q q;exact⟨p,iZ p λ_=>rfl⟩
theorem AR(x:Array Nat):∀(n:Nat)(acc:Array Nat),(List.replicate n x).foldl (·++ ·) acc=acc++(List.replicate n x.toList).flatten.toArray:=by
 intro n
 induction n with
 |zero=>intro acc;simp
 |succ n ih=>
  intro acc;rw[List.replicate_succ,List.foldl_cons,ih,List.replicate_succ,List.flatten_cons,Array.append_assoc];congr 1;apply Array.toList_inj.mp
  simp
theorem OV{X:Cx}:iY X (binaryOp .Mult) (rD X.K DN):=by
 intro pins s σ H x y v u Q I rx ry ⟨m,h,dx,dy,d,h',w,r1,r2,e,c⟩;unfold DN at e;split at e<;>first |(cases e;done)|skip
 rename_i z i;split at e<;>first |(cases e;done)|skip
 rename_i hz;cases e;cases r1;cases r2;obtain⟨t,rfl⟩:=rx;obtain⟨t',rfl⟩:=ry;obtain⟨a1,a2,a3⟩:=hz;have key:∀t k,EP X pins σ Q (.str ⟨(List.replicate i.toNat z.cps.toList).flatten.toArray⟩ t) {s with toks:=k}:=λt k=>⟨.str _,H,I.tok k,⟨_,rfl⟩,c m _ H .refl w (.str _)⟩;have mm:z.length*i.toNat<=1000000:=Nat.le_trans (Nat.mul_le_mul a3 (show i.toNat<=1000 by omega)) (by decide);refine PySem.P.mul_str (by rw[decide_eq_false (by omega),decide_eq_false (by omega)];rfl) (λh1 _=>?_) (λ_ _=>?_) ?_
 ·have e1:(1000:Int)<=(2^63-1)/i:=(Int.le_ediv_iff_mul_le (by omega)).mpr (by omega);omega
 ·show decide (_>sizeLine)=false;rw[decide_eq_false];have:(1000000:Nat)<=sizeLine:=by decide
  omega
 ·split
  ·rename_i h0;obtain rfl:i=0:=by omega
   exact⟨by decide,key _ _⟩
  ·split
   ·rename_i h1;rw[Bool.or_eq_true,beq_iff_eq,beq_iff_eq] at h1
    have ez:(⟨(List.replicate i.toNat z.cps.toList).flatten.toArray⟩:Str)=z:=by
     rcases h1 with rfl|h1
     ·simp
     ·have:z.cps.toList=[]:=List.length_eq_zero_iff.mp (by rw[Array.length_toList];exact h1);have hz:z=⟨#[]⟩:=Str.ext' (Array.toList_inj.mp this);rw[hz]
      simp
    have k:=key t s.toks;rw[ez] at k;exact k
   ·rw[AR];have k:=key s.toks (s.toks+1);simp only[Array.empty_append];refine⟨?_,k⟩
    show(List.replicate i.toNat z.cps.toList).flatten.toArray.size<=sizeLine
    rw[Zk,List.length_flatten,List.map_replicate,List.sum_replicate_nat,Array.length_toList];have:(1000000:Nat)<=sizeLine:=by decide
    have e:z.cps.size=z.length:=rfl;rw[e,Nat.mul_comm];omega
theorem mP{a b:E}{x y:Expr}{pos:Pos}(h_a:SE N sc G a x)(h_b:SE N sc G b y):SE N sc G (.rep a b) (.BinOp x .Mult y pos):=λ{X ca cl} xo go=>by
 have p:PE X (.BinOp x .Mult y pos) (TDE X.K (ev G cl (.rep a b))):=(zQ OV (h_a xo go).1 (h_b xo go).1).wk (TDE.op λr h=>by simp only[ev]);exact⟨p,iZ p λ_=>rfl⟩
theorem wH{prog:Program}{w:World}{A:Around}{E:Value->Shared->Prop}{s:Shared}{x y:Str}{t u:Tok}{Q:Value->Shared->Prop}(hy:(y.length==0)=false)
 (hq:∀(l:List (Str×Tok)) k,l.map (·.1)=Txt.split x y->Q (.ref s.heap.objs.size) {s with heap:=s.heap.push {cls:=.type "list",data:=.seq (strValues l).toArray},toks:=k})(hsz:x.length+2<=sizeLine):
 wpAny (model prog w) A (call (.builtin "str.split") [.str x t,.str y u]) Q E s:=by
 have hn:(Builtin.Str.partsBetween x (Builtin.Str.occurrences x y 0 x.length (x.length+1)) y.length).length<=sizeLine:=by
  rw[length_partsBetween];have:=StrLaws.occ_length_le x y 0 x.length (x.length+1);omega
 cases h1:(decide (x.length<y.length)||decide (Builtin.Str.strKind x<Builtin.Str.strKind y))
 ·cases hf:(Builtin.Str.occurrences x y 0 x.length (x.length+1)).isEmpty
  ·refine call_meets F.slot_str_split (typeIs_str _ _ _) F.entry_str_split (F.args_str_split_2 _ _) (meets_str_split_sep x y t u h1 hy hf (by omega) hn) ?_;show wants Q E _ {s with toks:=_,heap:=s.heap.push {cls:=.type "list",data:=.seq (strsFrom s.toks (Builtin.Str.partsBetween x (Builtin.Str.occurrences x y 0 x.length (x.length+1)) y.length)).toArray}};rw[strsFrom_eq];exact hq (numbered s.toks _) _ ((numbered_texts _ _).trans ((if_neg (ne_true_of_eq_false h1)).trans (if_neg (ne_true_of_eq_false hf))).symm)
  ·exact call_meets F.slot_str_split (typeIs_str _ _ _) F.entry_str_split (F.args_str_split_2 _ _) (meets_str_split_not_found x y t u h1 hy hf)
    (hq [(x,t)] s.toks ((if_neg (ne_true_of_eq_false h1)).trans (if_pos hf)).symm)
 ·exact call_meets F.slot_str_split (typeIs_str _ _ _) F.entry_str_split (F.args_str_split_2 _ _) (meets_str_split_cannot_occur x y t u h1)
   (hq [(x,t)] s.toks (if_pos h1).symm)
theorem uB:∀l:List (Str×Tok),Vals ((l.map (·.1)).map V.str) (strValues l)
 | []=>.nil
 |p::l=>.cons ⟨p.2,rfl⟩ (uB l)
theorem RDs.strs{K:W.Frag}{m:List Addr}{H:Hp}:∀(ns:List Str),RDs K m H (ns.map D.str) (ns.map V.str)
 | []=>.nil
 |n::ns=>.cons (.str n) (RDs.strs ns)
theorem wI(x y:Str):(Txt.split x y).length<=x.length+2:=by
 unfold Txt.split;split
 ·show 1<=_;omega
 ·split
  ·show 1<=_;omega
  ·rw[length_partsBetween];have:=StrLaws.occ_length_le x y 0 x.length (x.length+1);omega
noncomputable def UC(K:W.Frag)(c:Str)(k:Str->D->Hh->Rs D):V->List V->Hp->VK->Prop:=λx vs H Q=>vs=[.str c]/\∃m h dx d h',Wd K m h H/\RD K m H dx x/\k c dx h=.ok d h'/\∀m' v H',Gr K m H m' H'->Wd K m' h' H'->RD K m' H' d v->Q v H'
theorem qS{X:Cx}(c:Str):SI X "str.split" (UC X.K c DG):=by
 intro pins s σ H x vs v us Q I rx rv ⟨ev,m,h,dx,d,h',w,r1,e,cc⟩;subst ev;obtain⟨u,rfl,t,rfl⟩:=fB rv;unfold DG at e;split at e<;>first |(cases e;done)|skip
 rename_i z;split at e<;>first |(cases e;done)|skip
 rename_i hz;cases e;cases r1;obtain⟨t',rfl⟩:=rx;have sl:(100000:Nat)+2<=sizeLine:=by decide
 refine wH (by rw[hz.2];rfl) (λl k el=>?_) (by omega);have ln:=wI z c;refine⟨.ref _,_,I.lnew (t':=k) (uB l) (by rw[Zc,el];omega),rfl,?_⟩;rw[el];obtain⟨w2,g2⟩:=w.lstNew (I.hok.fresh (Zn _)) (RDs.strs (Txt.split z c));exact cc _ _ _ g2 w2 (.ref (by rw[<- w.len];simp))
theorem wX{X:Cx}(c:Str):SI X "str.startswith" (UC X.K c DE):=by
 intro pins s σ H x vs v us Q I rx rv ⟨ev,m,h,dx,d,h',w,r1,e,cc⟩;subst ev;obtain⟨u,rfl,t,rfl⟩:=fB rv;unfold DE at e;split at e<;>first |(cases e;done)|skip
 cases e;cases r1;obtain⟨t',rfl⟩:=rx;exact SC.startswith ⟨.bl _,H,I,rfl,cc m _ H .refl w (.bl _)⟩
theorem sG{K:W.Frag}{cl:Cl}{o cE:E}{c:Str}{k:Str->D->Hh->Rs D}(hk:∀d h,k c d h≠ .bad->∃z,d=.str z)(hf:∀r h,ev G cl cE r h=(ev G cl o r h).bind λx h=>k c x h)(s:Sg)(H:Hp)(Q:VK)(q:TDE K (ev G cl cE) s H Q):tBM K "str" (UC K c k) (TDE K (ev G cl o)) (dX (λ_ H Q=>Q (.str c) H) kJ) s H Q:=by
 obtain⟨m,r,hh,d,h',w,st,e1,cc⟩:=q;rw[hf] at e1;obtain⟨x,h1,e0,e1⟩:=Rs.bind_ok e1;refine⟨m,r,hh,x,h1,w,st,e0,λm' v H' g w' rd=>?_⟩;obtain⟨z,rfl⟩:=hk x h1 (by rw[e1];intro z;cases z);cases rd;exact⟨rfl,rfl,m',h1,.str z,d,h',w',.str z,e1,λm2 v H2 g2=>cc m2 v H2 (g.trans g2)⟩
theorem pL{o:E}{z c:Str}{pz ap cp kp:Pos}{j:Nat}(h2:(ap.endLine==cp.line)=true)(h_o:SE N sc G o (.Name z pz)):SE N sc G (.spl o c) (.Call (.Attribute (.Name z pz) "split" ap) [.Constant (.str c) j kp] [] cp):=λ{X ca cl} xo go=>by
 have p:PE X (.Call (.Attribute (.Name z pz) "split" ap) [.Constant (.str c) j kp] [] cp) (TDE X.K (ev G cl (.spl o c))):=(qQ PySem.F.plainAttrs_str PySem.F.slot_str_split PySem.F.type_str_split (qS c) (h_o xo go).1 (bH fY cV rfl) rfl rfl h2 rfl rfl).wk λs H Q q=>sG (λd h ne=>by cases d<;>first |exact⟨_,rfl⟩|exact absurd rfl ne) (λr h=>by rw[ev]) s H Q q;exact⟨p,iZ p λ_=>rfl⟩
theorem BO{o:E}{z c:Str}{pz ap cp kp:Pos}{j:Nat}(h2:(ap.endLine==cp.line)=true)(h_o:SE N sc G o (.Name z pz)):SE N sc G (.stw o c) (.Call (.Attribute (.Name z pz) "startswith" ap) [.Constant (.str c) j kp] [] cp):=λ{X ca cl} xo go=>by
 have p:PE X (.Call (.Attribute (.Name z pz) "startswith" ap) [.Constant (.str c) j kp] [] cp) (TDE X.K (ev G cl (.stw o c))):=(qQ PySem.F.plainAttrs_str PySem.F.slot_str_startswith PySem.F.type_str_startswith (wX c) (h_o xo go).1 (bH fY cV rfl) rfl rfl h2 rfl rfl).wk λs H Q q=>sG (λd h ne=>by cases d<;>first |exact⟨_,rfl⟩|exact absurd rfl ne) (λr h=>by rw[ev]) s H Q q;exact⟨p,iZ p λ_=>rfl⟩
end
section
variable {prog:Program}{w:World}{A:Around}{E:Value->Shared->Prop}{s:Shared}
theorem EH{it t:Addr}{i:Nat}{items:Array Value}{x:Value}{Q:Value->Shared->Prop}(hit:s.heap.IsTupleIter it t i)(ht:s.heap.IsTuple t items)(hx:items[i]? =some x)
 (hQ:∀h',h'.IsTupleIter it t (i+1)->Heap.SameBut it s.heap h'->Q x {s with heap:=h'}):wpAny (model prog w) A (Builtin.SmallTypes.nextOf (.ref it)) Q E s:=by
 obtain⟨o,ho,hc,hd⟩:=id hit;obtain⟨ol,hol,_,nl,hdl⟩:=ht;unfold Builtin.SmallTypes.nextOf;refine Za (wpAny_callSpecial?_slot (name:=Str.ofString "__next__") hit.typeIs F.slot_tuple_iterator_next (wpAny_call_entry F.slot_tuple_iterator_next hit.typeIs F.entry_tuple_iterator_next ?_ (F.args_tuple_iterator_next_1 _)));show wpAny _ _ (field (.ref it) 0>>=_) _ _ s;refine Za (wpAny_field ho hd (x:=.ref t) rfl ?_);show wpAny _ _ (if(Value.ref t==Value.none)=true then _ else _) _ _ s;rw[if_neg (show ¬((Value.ref t==Value.none)=true) from Bool.false_ne_true)];show wpAny _ _ (field (.ref it) 1>>=_) _ _ s;refine Za (wpAny_field ho hd (x:=.int i 0) rfl ?_);show wpAny _ _ (seqItems? (.ref t)>>=_) _ _ s;refine Za (wpAny_seqItems hol hdl ?_);simp only[Int.toNat_natCast,hx]
 exact Za (wpAny_setField ho hd (by simp) (Zb ⟨x,rfl,Zb (hQ _ ⟨_,Heap.get?_update_self _ ho (Obj.isFreed_of_fields (Obj.data_mapFields hd _)),(Obj.cls_mapFields ..).trans hc,by
  rw[Obj.data_mapFields hd];simp[rawInt]⟩ (Heap.SameBut.update ..))⟩))
structure ZpAt (h:Heap)(z TI TO i1 i2 l1 l2:Addr)(k:Nat)(f0:Value):Prop where
 hz:IsZip h z TI TO f0
 hTI:IsPair h TI (.ref i1) (.ref i2)
 hTO:∃a b,IsPair h TO a b
 h1:h.IsListIter i1 l1 k
 h2:h.IsTupleIter i2 l2 k
theorem ZpAt.at{h h':Heap}{z TI TO i1 i2 l1 l2:Addr}{k:Nat}{f0:Value}(Z:ZpAt h z TI TO i1 i2 l1 l2 k f0)(e:∀b∈ [z,TI,TO,i1,i2],∀o,h.get? b=some o->h'.get? b=some o):ZpAt h' z TI TO i1 i2 l1 l2 k f0:=
 let⟨a,b,hTO⟩:=Z.hTO
 ⟨e z (by simp) _ Z.hz,e TI (by simp) _ Z.hTI,⟨a,b,e TO (by simp) _ hTO⟩,Z.h1.at λo q=>e i1 (by simp) o q,let⟨o,q,r⟩:=Z.h2;⟨o,e i2 (by simp) o q,r⟩⟩
theorem CW{z TI TO i1 i2 l1 l2:Addr}{k:Nat}{xs ys:Array Value}{x y:Value}{Q:Option Value->Shared->Prop}(D:ZipApart z TI TO i1 i2 l1 l2)(Z:ZpAt s.heap z TI TO i1 i2 l1 l2 k .none)
 (hl1:s.heap.IsList l1 xs)(hl2:s.heap.IsTuple l2 ys)(hx:xs[k]? =some x)(hy:ys[k]? =some y)
 (hQ:∀h',ZpAt h' z TI TO i1 i2 l1 l2 (k+1) (rawInt s.heap.objs.size)->IsPair h' s.heap.objs.size x y->(∀c o,c≠z->c≠TO->c≠i1->c≠i2->s.heap.get? c=some o->h'.get? c=some o)->Q (some (.ref s.heap.objs.size)) {s with heap:=h'}):
 wpAny (model prog w) A (pyNext (.ref z)) Q E s:=by
 obtain⟨hz,hTI,⟨a,b,hTO⟩,h1,h2⟩:=Z;have hT:s.TypeIs (.ref z) "zip":=⟨_,hz,rfl⟩;unfold pyNext;refine Za (wpAny_attempt (wpAny_callSpecial?_slot (name:=Str.ofString "__next__") hT F.slot_zip_next (wpAny_call_entry F.slot_zip_next hT F.entry_zip_next ?_ (F.args_zip_next_1 _))));show wpAny _ _ (field (.ref z) 2>>=_) _ _ _;refine Za (wpAny_field hz rfl (x:=.bool false) rfl ?_);show wpAny _ _ (field (.ref z) 3>>=_) _ _ _;refine Za (wpAny_field hz rfl (x:=.ref TI) rfl (Za (wpAny_seqItems hTI rfl ?_)));show wpAny _ _ (Builtin.SmallTypes.ownedTupleIsFree (.ref z)>>=_) _ _ _;refine Za ?_;unfold Builtin.SmallTypes.ownedTupleIsFree;refine Za (wpAny_field hz rfl (x:=.none) rfl (Zb ?_));simp only[if_true];refine Za (wpAny_rule (Za (wpAny_field hz rfl (x:=.ref TO) rfl (Za (wpAny_setField_rec hz (by simp) λg1 z1 s1=>Za ?_)))))
 replace z1:IsZip g1 z TI TO .ellipsis:=z1
 simp only[List.zipIdx_cons,List.zipIdx_nil,List.forIn_cons,List.forIn_nil];refine Za (Za (wpAny_onRaise ?_));show wpAny _ _ (Builtin.SmallTypes.nextOf (.ref i1)>>=_) _ _ _;refine Za (wpAny_nextOf_list_item (h1.extBut s1.extBut D.i1z) (hl1.extBut s1.extBut D.l1z) hx λg2 a2 s2=>Zb ?_);have t2:IsPair g2 TO a b:=s2.extBut _ _ D.TOi1 (s1.extBut _ _ D.TOz hTO);refine Za (wpAny_seqItems t2 rfl ?_);refine Za (wpAny_updateSeq_pair t2 λg3 t3 s3=>?_);refine Za (wpAny_letGo (Zb ?_))
 replace t3:IsPair g3 TO x b:=t3
 refine Za (Za (wpAny_onRaise ?_));show wpAny _ _ (Builtin.SmallTypes.nextOf (.ref i2)>>=_) _ _ _;refine Za (EH (((h2.extBut s1.extBut D.i2z).extBut s2.extBut D.i12.symm).extBut s3.extBut D.TOi2.symm) (((hl2.extBut s1.extBut D.l2z).extBut s2.extBut D.l2i1).extBut s3.extBut D.l2TO) hy λg4 a4 s4=>Zb ?_);have t4:IsPair g4 TO x b:=s4.extBut _ _ D.TOi2 t3;refine Za (wpAny_seqItems t4 rfl ?_);refine Za (wpAny_updateSeq_pair t4 λg5 t5 s5=>?_)
 replace t5:IsPair g5 TO x y:=t5
 refine Za (wpAny_letGo (Zb (Zb ?_)));refine Za (wpAny_seqItems t5 rfl ?_);refine Za (wpAny_newTuple ?_);have sz:g5.objs.size=s.heap.objs.size:=by rw[s5.1,s4.1,s3.1,s2.1,s1.1]
 have z5:IsZip g5 z TI TO .ellipsis:=s5.extBut _ _ D.TOz.symm (s4.extBut _ _ D.i2z.symm (s3.extBut _ _ D.TOz.symm (s2.extBut _ _ D.i1z.symm z1)));have k5:∀c o,c≠z->c≠TO->c≠i1->c≠i2->s.heap.get? c=some o->g5.get? c=some o:=λc o c1 c2 c3 c4 e=>s5.extBut _ _ c2 (s4.extBut _ _ c4 (s3.extBut _ _ c2 (s2.extBut _ _ c3 (s1.extBut _ _ c1 e))));have a5:g5.IsListIter i1 l1 (k+1):=((a2.extBut s3.extBut D.TOi1.symm).extBut s4.extBut D.i12).extBut s5.extBut D.TOi1.symm;have b5:g5.IsTupleIter i2 l2 (k+1):=a4.extBut s5.extBut D.TOi2.symm;have zl:z<g5.objs.size:=Heap.lt_size z5;show wpAny _ _ (Builtin.SmallTypes.ownedTupleHandOut (.ref z) (.ref g5.objs.size)>>=_) _ _ _;refine Za ?_;unfold Builtin.SmallTypes.ownedTupleHandOut;have z6:IsZip (g5.push {cls:=.type "tuple",data:=.seq #[x,y]}) z TI TO .ellipsis:=Zf _ z5;refine Za (wpAny_setField_rec z6 (by simp) λg7 z7 s7=>?_)
 replace z7:IsZip g7 z TI TO (rawInt g5.objs.size):=z7
 refine wpAny_setField_rec z7 (by simp) λg8 z8 s8=>?_
 replace z8:IsZip g8 z TI TO (rawInt g5.objs.size):=z8
 have up:∀c o,c≠z->g5.get? c=some o->g8.get? c=some o:=λc o c1 e=>s8.extBut _ _ c1 (s7.extBut _ _ c1 (Zf _ e));have T8:IsPair g8 g5.objs.size x y:=s8.extBut _ _ (Nat.ne_of_gt zl) (s7.extBut _ _ (Nat.ne_of_gt zl) (Heap.get?_push_size _ rfl));rw[sz] at z8 T8;refine Zb ⟨_,rfl,Zb ?_⟩;show Q (some (.ref g5.objs.size)) _;rw[sz];exact hQ g8 ⟨z8,up _ _ D.TIz (k5 _ _ D.TIz D.TITO D.TIi1 D.TIi2 hTI),⟨x,y,up _ _ D.TOz t5⟩,a5.at λo e=>up _ o D.i1z e,let⟨o,q,r⟩:=b5;⟨o,up _ o D.i2z q,r⟩⟩ T8 λc o c1 c2 c3 c4 e=>up c o c1 (k5 c o c1 c2 c3 c4 e)
theorem CZ{z TI TO i1 i2 l1 l2:Addr}{k:Nat}{xs:Array Value}{Q:Option Value->Shared->Prop}(hh:A.handled=none)(D:ZipApart z TI TO i1 i2 l1 l2)(Z:ZpAt s.heap z TI TO i1 i2 l1 l2 k .none)
 (hl1:s.heap.IsList l1 xs)(hx:xs[k]? =none)(hQ:∀h',(∀c o,c≠z->c≠TO->c≠i1->c≠i2->s.heap.get? c=some o->h'.get? c=some o)->Q none {s with heap:=h'}):wpAny (model prog w) A (pyNext (.ref z)) Q E s:=by
 obtain⟨hz,hTI,⟨a,b,hTO⟩,h1,h2⟩:=Z;have hT:s.TypeIs (.ref z) "zip":=⟨_,hz,rfl⟩;unfold pyNext;refine Za (wpAny_attempt (wpAny_callSpecial?_slot (name:=Str.ofString "__next__") hT F.slot_zip_next (wpAny_call_entry F.slot_zip_next hT F.entry_zip_next ?_ (F.args_zip_next_1 _))));show wpAny _ _ (field (.ref z) 2>>=_) _ _ _;refine Za (wpAny_field hz rfl (x:=.bool false) rfl ?_);show wpAny _ _ (field (.ref z) 3>>=_) _ _ _;refine Za (wpAny_field hz rfl (x:=.ref TI) rfl (Za (wpAny_seqItems hTI rfl ?_)));show wpAny _ _ (Builtin.SmallTypes.ownedTupleIsFree (.ref z)>>=_) _ _ _;refine Za ?_;unfold Builtin.SmallTypes.ownedTupleIsFree;refine Za (wpAny_field hz rfl (x:=.none) rfl (Zb ?_));simp only[if_true];refine Za (wpAny_rule (Za (wpAny_field hz rfl (x:=.ref TO) rfl (Za (wpAny_setField_rec hz (by simp) λg1 z1 s1=>Za ?_)))))
 replace z1:IsZip g1 z TI TO .ellipsis:=z1
 simp only[List.zipIdx_cons,List.zipIdx_nil,List.forIn_cons,List.forIn_nil];refine Za (Za (wpAny_onRaise ?_));show wpAny _ _ (Builtin.SmallTypes.nextOf (.ref i1)>>=_) _ _ _;refine Za (wpAny_nextOf_list_end hh (h1.extBut s1.extBut D.i1z) (hl1.extBut s1.extBut D.l1z) hx λg2 e s2 he=>?_);obtain⟨oe,hoe,hce⟩:=he;have z2:IsZip g2 z TI TO .ellipsis:=s2 _ _ D.i1z.symm z1;have hez:e≠z:=λx=>by subst x;rw[z2] at hoe;cases hoe;simp at hce
 refine wpAny_setField_rec z2 (by simp) λg3 _ s3=>?_;refine Za (wpAny_isInstance (T:="StopIteration") (b:=true) ⟨oe,s3.extBut _ _ hez hoe,hce⟩ isSubtype_stop ?_);exact Zb (hQ _ λc o c1 _ c3 _ x=>s3.extBut _ _ c1 (s2 _ _ c3 (s1.extBut _ _ c1 x)))
noncomputable abbrev RC(h:Heap)(l1:Addr):Heap:=h.push {cls:=.type "list_iterator",data:=.fields #[.ref l1,.int 0 0]}
noncomputable abbrev RB(h:Heap)(l1 l2:Addr):Heap:=(RC h l1).push {cls:=.type "tuple_iterator",data:=.fields #[.ref l2,.int 0 0]}
noncomputable abbrev RA(h:Heap)(l1 l2:Addr):Heap:=(RB h l1 l2).push {cls:=.type "tuple",data:=.seq #[.ref h.objs.size,.ref (RC h l1).objs.size]}
noncomputable abbrev QZ(h:Heap)(l1 l2:Addr):Heap:=(RA h l1 l2).push {cls:=.type "tuple",data:=.seq #[.none,.none]}
noncomputable abbrev NC(h:Heap)(l1 l2:Addr):Heap:=(QZ h l1 l2).push {cls:=.type "zip",data:=.fields #[.none,.bool false,.bool false,.ref (RB h l1 l2).objs.size,.ref (RA h l1 l2).objs.size]}
theorem CY(l1 l2:Addr)(xs ys:Array Value):Meets (Builtin.«zip.__new__» ⟨[.type "zip",.ref l1,.ref l2],[]⟩) (λ_ R s=>s.heap.IsList l1 xs/\s.heap.IsTuple l2 ys/\R (.ok (.ret (.ref (QZ s.heap l1 l2).objs.size))) {s with heap:=NC s.heap l1 l2}):=
 .of_wp λprog w A R s h=>by
  obtain⟨hp,g,d,tk,os⟩:=s;obtain⟨hl1,hl2,h⟩:=h;have hsub:=sub_zip;have hL1:Heap.IsList (Shared.heap ⟨hp,g,d,tk,os⟩) l1 xs:=hl1;have hL2:Heap.IsTuple (Shared.heap ⟨hp.push {cls:=.type "list_iterator",data:=.fields #[.ref l1,.int 0 0]},g,d,tk,os⟩) l2 ys:=Heap.IsTuple.push hl2 _
  wp_walk using wpAny_pyIter_list hL1,wpAny_pyIter_tuple hL2
  exact⟨_,rfl,h⟩
theorem CH{l1 l2:Addr}{xs ys:Array Value}{Q:Value->Shared->Prop}(hl1:s.heap.IsList l1 xs)(hl2:s.heap.IsTuple l2 ys)
 (h:∀h',ZpAt h' (s.heap.objs.size+4) (s.heap.objs.size+2) (s.heap.objs.size+3) s.heap.objs.size (s.heap.objs.size+1) l1 l2 0 .none->(∀c o,s.heap.get? c=some o->h'.get? c=some o)->Q (.ref (s.heap.objs.size+4)) {s with heap:=h'}):
 wpAny (model prog w) A (call (.type "zip") [.ref l1,.ref l2]) Q E s:=by
 refine callType_new F.called_zip (by decide) (F.typeCall_zip_2 _ _) (F.newCall_zip_2 _ _) (λobj=>F.args_object_init_3 obj _ _) F.entry_zip_new (CY l1 l2 xs ys) ⟨hl1,hl2,?_⟩;have z1:(RC s.heap l1).objs.size=s.heap.objs.size+1:=Heap.size_push ..;have z2:(RB s.heap l1 l2).objs.size=s.heap.objs.size+2:=by rw[Heap.size_push,z1]
 have z3:(RA s.heap l1 l2).objs.size=s.heap.objs.size+3:=by rw[Heap.size_push,z2]
 have z4:(QZ s.heap l1 l2).objs.size=s.heap.objs.size+4:=by rw[Heap.size_push,z3]
 have up:∀{g:Heap}{o:Obj}{b:Addr}{u:Obj},g.get? b=some u->(g.push o).get? b=some u:=λe=>Zf _ e;have g5:(NC s.heap l1 l2).get? (QZ s.heap l1 l2).objs.size=some _:=Heap.get?_push_size _ rfl;have g4:(NC s.heap l1 l2).get? (RA s.heap l1 l2).objs.size=some _:=up (Heap.get?_push_size _ rfl);have g3:(NC s.heap l1 l2).get? (RB s.heap l1 l2).objs.size=some _:=up (up (Heap.get?_push_size _ rfl));have g2:(NC s.heap l1 l2).get? (RC s.heap l1).objs.size=some _:=up (up (up (Heap.get?_push_size _ rfl)));have g1:(NC s.heap l1 l2).get? s.heap.objs.size=some _:=up (up (up (up (Heap.get?_push_size _ rfl))));show _/\_;rw[z2,z3,z4] at g5;rw[z1,z2] at g3;rw[z3] at g4;rw[z1] at g2;rw[z4];exact⟨⟨_,g5,rfl⟩,h _ ⟨g5,g3,⟨_,_,g4⟩,⟨_,g1,rfl,rfl⟩,⟨_,g2,rfl,rfl⟩⟩ λc o x=>up (up (up (up (up x))))⟩
end
theorem mE{X:Cx}{pins:List (Addr×Obj)}{σ:Sg}{H:Hp}{s:Shared}{h':Heap}{t':Nat}{fp:List Addr}(I:Inv X pins σ H s)(hf:∀b∈fp,iG X pins H b)(k:∀b o,b ∉ fp->s.heap.get? b=some o->h'.get? b=some o):Inv X pins σ H {s with heap:=h',toks:=t'}:=by
 have nit:∀b u,H b=some u->b ∉ fp:=λb u e z=>by rw[(hf b z).1] at e;cases e
 refine I.step (g':=s.gens) (d':=s.drawn) (ch:=fp) (λb hb=>⟨(hf b hb).2.2.2.1,(hf b hb).2.1,(hf b hb).2.2.2.2.1,(hf b hb).2.2.2.2.2⟩) (λb o _ _ hc e _=>k b o hc e) (λb o _ _ hc e _=>⟨o.slots,k b o hc e⟩) (λ_ _ _ _ n=>n)
  (λb o hc e=>⟨o,k b o hc e⟩) (λ_ _ e=>e) (λ_ _ _ e=>e) (λb ps e=>⟨#[],by rw[e];simp⟩) (λm hm=>?_) (λb u e=>?_) I.bare
 ·obtain⟨o,es,ep,ho,r⟩:=hm;exact⟨o,es,ep,k _ o (λz=>(hf _ z).2.1 rfl) ho,r⟩
 ·refine(I.hok b u e).stay (λc v hc q=>k c v ?_ q) (λ_ q=>q) λ_ _ q=>q;rcases hc with z|z
  ·rw[z];exact nit b u e
  ·exact nit c _ z
noncomputable def WW(K:W.Frag)(a b:Addr):It:=
 ⟨λi H=>∃xs ys x y,SqL K H a xs/\SqT K H b ys/\xs[i]? =some x/\ys[i]? =some y,λi H v H'=>∃p x y,H p=none/\v=.ref p/\H'=bV H p (.tup [x,y])/\(∀xs,SqL K H a xs->xs[i]? =some x)/\∀ys,SqT K H b ys->ys[i]? =some y,λi H=>∃xs,SqL K H a xs/\xs.length<=i⟩
theorem yJ{P:Program}{w:World}{K:W.Frag}{elts:List Expr}{x1:Nat}{pos:Pos}{z TI TO i1 i2 a b:Addr}(D:ZipApart z TI TO i1 i2 a b):
 Turn P w K (.Tuple elts x1 pos) (WW K a b) [z,TI,TO,i1,i2] z (λi h=>ZpAt h z TI TO i1 i2 a b i .none) where
 mem:=by simp
 obj:=λi h st c hc=>by
  obtain⟨hz,hTI,⟨p,q,hTO⟩,⟨o1,e1,_,d1⟩,⟨o2,e2,_,d2⟩⟩:=st;simp only[List.mem_cons,List.not_mem_nil,or_false] at hc;rcases hc with rfl|rfl|rfl|rfl|rfl
  ·exact⟨_,hz,λv z=>nomatch z⟩
  ·exact⟨_,hTI,λv z=>nomatch z⟩
  ·exact⟨_,hTO,λv z=>nomatch z⟩
  ·exact⟨_,e1,λv z=>by rw[d1] at z;cases z⟩
  ·exact⟨_,e2,λv z=>by rw[d2] at z;cases z⟩
 keep:=λi h h' st k=>st.at k
 item:=by
  intro X hP hw hK hc i pins s σ H E I hf st hg;subst hP hw hK;obtain⟨xs,ys,x,y,q1,q2,hx,hy⟩:=hg;obtain⟨us,ru,pu,_⟩:=I.list q1;obtain⟨vs,rv,pv,_⟩:=I.tuple q2;obtain⟨u,hu,su⟩:=ru.get hx;obtain⟨v,hv,sv⟩:=rv.get hy;refine CW D st pu.isList pv (x:=u) (y:=v) (by simpa using hu) (by simpa using hv) λg h1 h2 h3=>⟨.ref s.heap.objs.size,rfl,?_⟩;refine wpAny_letOwnedTupleGo_zip h1.hz λg2 h5 h6=>?_;have hp:H s.heap.objs.size=none:=I.hok.fresh (Zn _)
  have lt:∀c∈ [z,TI,TO,i1,i2],c≠s.heap.objs.size:=λc hc=>by
   obtain⟨hz,hTI,⟨p,q,hTO⟩,⟨o1,e1,_,d1⟩,⟨o2,e2,_,d2⟩⟩:=st;simp only[List.mem_cons,List.not_mem_nil,or_false] at hc;rcases hc with rfl|rfl|rfl|rfl|rfl
   ·exact Nat.ne_of_lt (Heap.lt_size hz)
   ·exact Nat.ne_of_lt (Heap.lt_size hTI)
   ·exact Nat.ne_of_lt (Heap.lt_size hTO)
   ·exact Nat.ne_of_lt (Heap.lt_size e1)
   ·exact Nat.ne_of_lt (Heap.lt_size e2)
  have I1:Inv X pins σ (bV H s.heap.objs.size (.tup [x,y])) {s with heap:=s.heap.push {cls:=.type "tuple",data:=.seq #[u,v]}}:=
   I.laid (t':=s.toks) (o:=.tup [x,y]) (λb u q=>Zf _ q) (Zn _) ⟨by show 2<=sizeLine;decide,[u,v],.cons su (.cons sv .nil),IsTup.new _ _⟩
  have hf1:∀c∈ [z,TI,TO,i1,i2],iG X pins (bV H s.heap.objs.size (.tup [x,y])) c:=λc hc=>⟨by rw[aM (lt c hc)];exact(hf c hc).1,(hf c hc).2⟩
  have I2:Inv X pins σ (bV H s.heap.objs.size (.tup [x,y])) {s with heap:=g2}:=mE (s:={s with heap:=s.heap.push {cls:=.type "tuple",data:=.seq #[u,v]}}) (h':=g2) (t':=s.toks) I1 hf1 (λc o hc q=>by
   have q0:(s.heap.push {cls:=.type "tuple",data:=.seq #[u,v]}).get? c=some o:=q;simp only[List.mem_cons,List.not_mem_nil,or_false,not_or] at hc
   by_cases e:c=s.heap.objs.size
   ·subst e;have q':some {cls:=.type "tuple",data:=.seq #[u,v]}=some o:=(Heap.get?_push_size s.heap rfl).symm.trans q0;rw[<- q'];exact h6.extBut _ _ hc.1 h2
   ·rw[Heap.get?_push_ne _ _ _ e] at q0;exact h6.extBut c o hc.1 (h3 c o hc.1 hc.2.2.1 hc.2.2.2.1 hc.2.2.2.2 q0))
  refine⟨.ref s.heap.objs.size,_,I2,rfl,⟨_,x,y,hp,rfl,rfl,λxs' e=>by rw[I.list_inj e q1];exact hx,λys' e=>by rw[I.tuple_inj e q2];exact hy⟩,?_,λc hc=>(hf1 c hc).1⟩;obtain⟨p,q,hTO⟩:=h1.hTO;exact⟨h5,h6.extBut _ _ D.TIz h1.hTI,⟨p,q,h6.extBut _ _ D.TOz hTO⟩,h1.h1.extBut h6.extBut D.i1z,h1.h2.extBut h6.extBut D.i2z⟩
 done:=by
  intro X hP hw hK hc i pins s σ H E I hf st hg;subst hP hw hK;obtain⟨xs,q1,hx⟩:=hg;obtain⟨us,ru,pu,_⟩:=I.list q1;have hl:=ru.length;refine CZ (I.ok.hd hc) D st pu.isList (by simp;omega) λg h3=>⟨rfl,mE (t':=s.toks) I hf λc o hc e=>?_⟩;simp only[List.mem_cons,List.not_mem_nil,or_false,not_or] at hc;exact h3 c o hc.1 hc.2.2.1 hc.2.2.2.1 hc.2.2.2.2 e
 self:=λ_ _ _ _ _ st h=>wpAny_pyIter_zip st.hz h
theorem vZ{n a b:Nat}(h1:a<n)(h2:b<n):ZipApart (n+4) (n+2) (n+3) n (n+1) a b:=by constructor<;>(intro e;have e':(_:Nat)=_:=e;omega)
section
variable {N:List Str}{sc:Scope}{G:Gs}
end
inductive Ir where
 |r1 (e:E)|r2 (a b:E)|sq (e:E)|tx (e:E)
inductive HB where
 |isx (k:Nat)|isv|and (a b:HB)|not (a:HB)|sam (f:Nat)
inductive HS where
 |bl (i:Nat) (b:HB)|cst (i:Nat) (d:Sum Bool Str)|ifc (b:HB) (i:Nat) (d:Sum Bool Str)
noncomputable def HB.run(G:Gs)(c:Nat):HB->Option Bool
 |.isx k=>if(c,k)∈G.sub then some true else if(c,k)∈G.nsub then some false else none
 |.isv=>some true
 |.and a b=>match a.run G c with
  |some true=>b.run G c
  |some false=>some false
  |none=>none
 |.not a=>match a.run G c with
  |some v=>some (!v)
  |none=>none
 |.sam f=>if f∈G.sams/\c∈G.inis then some true else none
noncomputable def BW:Sum Bool Str->D
 |.inl b=>.bl b
 |.inr x=>.str x
noncomputable def pB(G:Gs)(c:Nat):List HS->Ev->Option Ev
 | [],r=>some r
 |.bl i b::l,r=>match b.run G c with
  |some v=>pB G c l (r.set i (some (.bl v)))
  |none=>none
 |.cst i d::l,r=>pB G c l (r.set i (some (BW d)))
 |.ifc b i d::l,r=>match b.run G c with
  |some true=>pB G c l (r.set i (some (BW d)))
  |some false=>pB G c l r
  |none=>none
noncomputable def clr:Option Nat->Ev->Ev
 |some j,r=>r.set j none
 |none,r=>r
inductive EX where
 |call (f:Nat) (l:Es)|tupc (a:EX)|ix (a:EX) (b:E)|cat (a:E) (b:EX)|tpl (l:Es) (b:EX)|comp (t:Tg) (k:Ck) (it:Es) (f:Nat) (l:Es) (N:List Str) (cap:List Nat)
noncomputable abbrev dM(G:Gs)(cl:Cl)(f:Nat)(l:Es):Ev->Hh->Rs D:=λr h=>(cM G cl l r h).nx.bind λds h=>cl f ds h
noncomputable abbrev iH:Ev->Hh->Rs Bool:=λ_ h=>.ok true h
noncomputable def fD(G:Gs)(cl:Cl):EX->Ev->Hh->Rs D
 |.call f l,r,h=>dM G cl f l r h
 |.tupc a,r,h=>(fD G cl a r h).bind λx h=>(sE x h).nx
 |.ix a b,r,h=>(fD G cl a r h).bind λx h=>(ev G cl b r h).nx.bind λy h=>(kK x y h).nx
 |.cat a b,r,h=>(ev G cl a r h).nx.bind λx h=>(fD G cl b r h).bind λy h=>(dB .add x y h).nx
 |.tpl l b,r,h=>(cM G cl l r h).nx.bind λds h=>(fD G cl b r h).bind λy h=>if ds.length<1000 then .ok (.tup (ds++ [y])) h else .bad
 |.comp t k it f l N cap,r,h=>(cM G cl it r h).nx.bind λxs h=>(dC t iH (dM G cl f l) h.length k xs h (aR N cap r) (h++ [.lst []])).bind λ_ h'=>.ok (.ref h.length) h'
mutual
inductive S where
 |rtX (e:EX)|asX (l:List Nat) (e:EX)|rais (c:Nat) (x:Str)|asgX (t:Tg) (f:Nat) (l:Es)|retX (f:Nat) (l:Es)|exX (f:Nat) (l:Es)|tryx (b:Ss) (g:Nat) (j:Option Nat) (hs:List HS)
 |asg (t:Tg) (e:E)|asc (i:Nat) (e:E)|ex (e:E)|ret (e:E)|iff (c:E) (a b:Ss)|forr (t:Tg) (it:Ir) (b:Ss)|whl (c:E) (b:Ss)
 |pass|brk|cont|stx (o i e:E)|sfl (o:E) (cn f:Str) (e:E)|asgL (l:List Nat) (e:E)|asgS (i j:Nat) (e:E)|exN (cn:Str) (f:Nat) (l:Es)|never
inductive Ss where
 |nil|cons (s:S) (r:Ss)
end
inductive Fl where
 |nx (r:Ev)|rt (d:D)|bk (r:Ev)|ct (r:Ev)
noncomputable def dJ(t:Tg)(body:Ev->Hh->Rs Fl):List D->Ev->Hh->Rs Fl
 | [],r,h=>.ok (.nx r) h
 |d::ds,r,h=>match dO t d r with
  |none=>.bad
  |some r1=>(body r1 h).bind λfl h=>match fl with
   |.nx r2=>dJ t body ds r2 h
   |.ct r2=>dJ t body ds r2 h
   |.bk r2=>.ok (.nx r2) h
   |.rt d=>.ok (.rt d) h
noncomputable def FC(t:Tg)(body:Ev->Hh->Rs Fl)(n:Nat):Nat->Nat->Ev->Hh->Rs Fl
 |0,_,_,_=>.bad
 |k+1,i,r,h=>match aK h n with
  |none=>.bad
  |some l=>match l[i]? with
   |none=>.ok (.nx r) h
   |some d=>match dO t d r with
    |none=>.bad
    |some r1=>(body r1 h).bind λfl h=>match fl with
     |.nx r2=>FC t body n k (i+1) r2 h
     |.ct r2=>FC t body n k (i+1) r2 h
     |.bk r2=>.ok (.nx r2) h
     |.rt d=>.ok (.rt d) h
noncomputable def dD(c:Ev->Hh->Rs D)(body:Ev->Hh->Rs Fl):Nat->Ev->Hh->Rs Fl
 |0,_,_=>.bad
 |k+1,r,h=>(c r h).nx.bind λx h=>match eY x h with
  |none=>.bad
  |some false=>.ok (.nx r) h
  |some true=>(body r h).bind λfl h=>match fl with
   |.nx r2=>dD c body k r2 h
   |.ct r2=>dD c body k r2 h
   |.bk r2=>.ok (.nx r2) h
   |.rt d=>.ok (.rt d) h
noncomputable def TK(n:Nat)(l:List D)(y z:D)(h:Hh):Rs Unit:=match y with
 |.int k=>match HV l.length k with
  |some j=>.ok () (h.set n (.lst (l.set j z)))
  |none=>.bad
 |_=>.bad
noncomputable def OA(x y z:D)(h:Hh):Rs Unit:=match x with
 |.ref n=>match h[n]? with
  |some (.lst l)=>TK n l y z h
  |some (.dct _)=>IN n y z h
  |some (.dtt l)=>IM n l y z h
  |_=>.bad
 |_=>.bad
noncomputable def FD(W:Nat)(t:Tg)(body:Ev->Hh->Rs Fl)(x:D)(r:Ev)(h:Hh):Rs Fl:=match x with
 |.tup l=>dJ t body l r h
 |.ref n=>FC t body n W 0 r h
 |_=>.bad
noncomputable def mV(G:Gs)(g:Nat)(j:Option Nat)(hs:List HS):Rs Fl->Rs Fl
 |.exc c r h=>if(c,g)∈G.sub then(match pB G c hs (clr j r) with
  |some r'=>.ok (.nx (clr j r')) h
  |none=>.bad) else .bad
 |o=>o
mutual
noncomputable def xs(G:Gs)(cl:Cl)(W:Nat):S->Ev->Hh->Rs Fl
 |.rais c _,r,h=>.exc c r h
 |.rtX e,r,h=>((fD G cl e r h).inn r).bind λx h=>.ok (.rt x) h
 |.asX l e,r,h=>((fD G cl e r h).inn r).bind λx h=>match x with
  |.ref n=>(match aK h n with
   |some ds=>if ds.length=l.length then .ok (.nx (dH l ds r)) h else .bad
   |none=>.bad)
  |_=>.bad
 |.asgX t f l,r,h=>(cM G cl l r h).nx.bind λds h=>((cl f ds h).inn r).bind λx h=>match dO t x r with
  |some r1=>.ok (.nx r1) h
  |none=>.bad
 |.retX f l,r,h=>(cM G cl l r h).nx.bind λds h=>((cl f ds h).inn r).bind λx h=>.ok (.rt x) h
 |.exX f l,r,h=>(cM G cl l r h).nx.bind λds h=>((cl f ds h).inn r).bind λ_ h=>.ok (.nx r) h
 |.tryx b g j hs,r,h=>mV G g j hs (bO G cl W b r h)
 |.asg t e,r,h=>(ev G cl e r h).nx.bind λx h=>match dO t x r with
  |some r1=>.ok (.nx r1) h
  |none=>.bad
 |.asc i e,r,h=>(ev G cl e r h).nx.bind λx h=>.ok (.nx (r.set i (some x))) h
 |.ex e,r,h=>(ev G cl e r h).nx.bind λ_ h=>.ok (.nx r) h
 |.ret e,r,h=>(ev G cl e r h).nx.bind λx h=>.ok (.rt x) h
 |.iff c a b,r,h=>(ev G cl c r h).nx.bind λx h=>match eY x h with
  |some true=>bO G cl W a r h
  |some false=>bO G cl W b r h
  |none=>.bad
 |.forr t (.r1 e) b,r,h=>(ev G cl e r h).nx.bind λx h=>match x with
  |.int j=>if nB j then dJ t (bO G cl W b) (cQ 0 j) r h else .bad
  |_=>.bad
 |.forr t (.r2 e e') b,r,h=>(ev G cl e r h).nx.bind λx h=>(ev G cl e' r h).nx.bind λy h=>match x,y with
  |.int i,.int j=>if nB i/\nB j then dJ t (bO G cl W b) (cQ i j) r h else .bad
  |_,_=>.bad
 |.forr t (.sq e) b,r,h=>(ev G cl e r h).nx.bind λx h=>FD W t (bO G cl W b) x r h
 |.forr t (.tx e) b,r,h=>(ev G cl e r h).nx.bind λx h=>match x with
  |.str z=>dJ t (bO G cl W b) (z.cps.toList.map λc=>D.str ⟨#[c]⟩) r h
  |_=>.bad
 |.whl c b,r,h=>dD (ev G cl c) (bO G cl W b) W r h
 |.pass,r,h=>.ok (.nx r) h
 |.brk,r,h=>.ok (.bk r) h
 |.cont,r,h=>.ok (.ct r) h
 |.stx o i e,r,h=>(ev G cl e r h).nx.bind λz h=>(ev G cl o r h).nx.bind λx h=>(ev G cl i r h).nx.bind λy h=>(OA x y z h).nx.bind λ_ h=>.ok (.nx r) h
 |.sfl o cn f e,r,h=>(ev G cl e r h).nx.bind λz h=>(ev G cl o r h).nx.bind λx h=>(OG cn x z f h).nx.bind λ_ h=>.ok (.nx r) h
 |.asgL l e,r,h=>(ev G cl e r h).nx.bind λx h=>match x with
  |.ref n=>(match aK h n with
   |some ds=>if ds.length=l.length then .ok (.nx (dH l ds r)) h else .bad
   |none=>.bad)
  |_=>.bad
 |.asgS i j e,r,h=>(ev G cl e r h).nx.bind λx h=>match dY x h with
  |some (d::ds)=>if ds.length<=1000 then .ok (.nx ((r.set i (some d)).set j (some (.ref h.length)))) (h++ [.lst ds]) else .bad
  |_=>.bad
 |.exN cn f l,r,h=>(cM G cl l r h).nx.bind λds h=>((EM cn (cl f) ds h).inn r).bind λ_ h=>.ok (.nx r) h
 |.never,_,_=>.bad
noncomputable def bO(G:Gs)(cl:Cl)(W:Nat):Ss->Ev->Hh->Rs Fl
 |.nil,r,h=>.ok (.nx r) h
 |.cons s l,r,h=>(xs G cl W s r h).bind λfl h=>match fl with
  |.nx r2=>bO G cl W l r2 h
  |f=>.ok f h
end
noncomputable def iC:Expr->Bool
 |.ListComp _ _ _ _=>false
 |.SetComp _ _ _ _=>false
 |.DictComp _ _ _ _ _=>false
 |_=>true
noncomputable def mU(N:List Str)(sc:Scope):List Nat->List Expr->Bool
 | [],[]=>true
 |i::is,.Name x _::es=>N[i]? ==some x&&fN sc x&&mU N sc is es
 |_,_=>false
noncomputable def rR(N:List Str)(sc:Scope):Tg->Expr->Bool
 |.nm i,.Name x _=>N[i]? ==some x&&fN sc x
 |.tp l,.Tuple es _ _=>mU N sc l es
 |_,_=>false
noncomputable def QM(N:List Str)(sc:Scope):Option Nat->Option Str->Bool
 |none,none=>true
 |some j,some n=>N[j]? ==some n&&sc.names.lookup n==some .local
 |_,_=>false
mutual
noncomputable def EK:S->Bool
 |.rais _ _=>false
 |.iff _ a b=>fM a&&fM b
 |.forr _ _ b=>fM b
 |.whl _ b=>fM b
 |.tryx _ _ _ _=>false
 |_=>true
noncomputable def fM:Ss->Bool
 |.nil=>true
 |.cons s l=>EK s&&fM l
end
noncomputable def WY(K:W.Frag)(m:List Addr)(H:Hp)(D:Ends):Fl->Prop
 |.nx r=>∀s,RSt K m H r s->D.nx s H
 |.rt d=>∀v,RD K m H d v->D.rt v H
 |.bk r=>∀s,RSt K m H r s->D.bk s H
 |.ct r=>∀s,RSt K m H r s->D.ct s H
noncomputable abbrev Ws:=Nat->Sg->Hp->Prop
noncomputable def OutS(K:PySem.W.Frag)(W:Ws)(m:List Addr)(H:Hp)(D:Ends):Rs Fl->Prop
 |.ok fl h'=>∀m' H',Gr K m H m' H'->Wd K m' h' H'->WY K m' H' D fl
 |.exc c r' h'=>∀m' H' s',Gr K m H m' H'->Wd K m' h' H'->RSt K m' H' r' s'->W c s' H'
 |.bad=>False
theorem OutS.mono{K:PySem.W.Frag}{W:Ws}{m m1:List Addr}{H H1:Hp}{D:Ends}(g:Gr K m H m1 H1):∀{o:Rs Fl},OutS K W m H D o->OutS K W m1 H1 D o
 |.ok _ _,q=>λm' H' g'=>q m' H' (g.trans g')
 |.exc _ _ _,q=>λm' H' s' g'=>q m' H' s' (g.trans g')
 |.bad,q=>q
def TDS(K:PySem.W.Frag)(W:Ws)(f:Ev->Hh->Rs Fl):TS:=λD s H=>∃m r h,Wd K m h H/\RSt K m H r s/\OutS K W m H D (f r h)
theorem _root_.L2.PS.wk{X:Cx}{e:Stmt}{t t':TS}(h:PS X e t)(i:∀D s H,t' D s H->t D s H):PS X e t':=λpins s σ H D I q=>h pins s σ H D I (i _ _ _ q)
theorem _root_.L2.PSs.wk{X:Cx}{e:List Stmt}{t t':TS}(h:PSs X e t)(i:∀D s H,t' D s H->t D s H):PSs X e t':=λpins s σ H D I q=>h pins s σ H D I (i _ _ _ q)
section
variable {X:Cx}{N:List Str}{sc:Scope}{G:Gs}{ca:Nat->Addr}{cl:Cl}
theorem mS:∀{l:List Nat}{es:List Expr},mU N sc l es=true->l.length=es.length/\∀(j:Nat) i e,l[j]? =some i->es[j]? =some e->rR N sc (.nm i) e=true
 | [],[],_=>⟨rfl,λj i e h=>by simp at h⟩
 |i::is,e::es,h=>by
  cases e<;>first |exact absurd (show false=true from h) Bool.false_ne_true|skip
  rename_i x pos;have h':(N[i]? ==some x&&fN sc x&&mU N sc is es)=true:=h;rw[Bool.and_eq_true] at h';obtain⟨i1,i2⟩:=mS h'.2;refine⟨by simp[i1],λj i' e' e1 e2=>?_⟩;cases j with
  |zero=>
   simp at e1 e2;subst e1;subst e2;exact h'.1
  |succ j=>exact i2 j i' e' (by simpa using e1) (by simpa using e2)
 | [],_::_,h=>absurd (show false=true from h) Bool.false_ne_true
 |_::_,[],h=>absurd (show false=true from h) Bool.false_ne_true
theorem RL(xo:XOk X N sc)(hfn:∀x,X.fn x=true){t:Tg}{tg:Expr}(h:rR N sc t tg=true):PG X tg (yF X.K t):=by
 refine zO (λe i=>rR N sc (.nm i) e) (λe i he=>?_) xo.calm ?_
 ·cases e<;>first |exact absurd (show false=true from he) Bool.false_ne_true|skip
  rename_i x pos;have h':(N[i]? ==some x&&fN sc x)=true:=he;simp only[Bool.and_eq_true,beq_iff_eq] at h';exact⟨x,pos,rfl,iN xo.nd (by rw[xo.n];exact h'.1) (by rw[xo.s];exact eL h'.2) (.inl (hfn x))⟩
 ·cases t with
  |nm i=>exact h
  |tp l=>
   cases tg<;>first |exact absurd (show false=true from h) Bool.false_ne_true|skip
   rename_i es k pos;obtain⟨h1,h2⟩:=mS (show mU N sc l es=true from h);exact⟨es,k,pos,rfl,h1,h2⟩
end
section
variable {prog:Program}{w:World}{A:Around}{E:Value->Shared->Prop}
theorem rJ{it a:Addr}{xs:Array Value}(ne:a≠it):∀(k i:Nat)(s0:Shared)(R:List Value->Shared->Prop),s0.heap.IsListIter it a i->s0.heap.IsList a xs->i+k<=xs.size->
 (∀g,g.IsListIter it a (i+k)->Heap.SameBut it s0.heap g->R ((xs.toList.drop i).take k) {s0 with heap:=g})->wpAny (model prog w) A (draw (.ref it) k) R E s0:=by
 intro k
 induction k with
 |zero=>exact λi s0 R h1 _ _ fin=>Zb (by simpa using fin s0.heap h1 (Heap.SameBut.refl ..))
 |succ k ih=>
  intro i s0 R h1 h2 h3 fin;have lt:i<xs.size:=by omega
  show wpAny _ _ (pyNext (.ref it)>>=_) R E s0;refine Za (wpAny_pyNext_list_item h1 h2 (x:=xs[i]) (by simp[lt]) λg1 a1 e1=>Za (wpAny_holding (ih (i+1) _ _ a1 (h2.extBut e1.extBut ne) (by omega) λg2 a2 e2=>Zb ?_)));have z:=fin g2 (by rw[show i+(k+1)=i+1+k by omega];exact a2) (e1.trans e2);rwa [show xs.toList.drop i=xs[i]::xs.toList.drop (i+1) by simp[List.drop_eq_getElem_cons,lt],List.take_succ_cons] at z
theorem xC{s0:Shared}{a:Addr}{xs:Array Value}{R:List Value->Shared->Prop}(hh:A.handled=none)(hl:s0.heap.IsList a xs)
 (fin:∀g,Heap.ExtBut s0.heap.objs.size s0.heap g->R xs.toList {s0 with heap:=g}):wpAny (model prog w) A (unpackItems (.ref a) xs.size none) R E s0:=by
 have ne:a≠s0.heap.objs.size:=by obtain⟨o,ho,_⟩:=hl;exact Nat.ne_of_lt (Heap.lt_size ho)
 unfold unpackItems;refine Za ?_;unfold notIterableAtAll;refine Za (wpAny_specialOf hl.typeIs slot_list_iter.lookup (Zb ?_));simp only[Bool.false_eq_true,if_false];refine Za (wpAny_holding (wpAny_pyIter_list hl (Za (wpAny_holding (rJ ne xs.size 0 _ _ ⟨_,Heap.get?_push_size _ rfl,rfl,rfl⟩ (hl.push _) (by omega) λg1 a1 e1=>?_)))));rw[show List.take xs.size (List.drop 0 xs.toList)=xs.toList by rw[List.drop_zero];exact List.take_of_length_le (by simp),if_neg (by simp)];refine Za (wpAny_holding (wpAny_pyNext_list_end hh a1 ((hl.push _).extBut e1.extBut ne) (by simp) λg2 e2=>?_));simp only[Option.isSome_none,Bool.false_eq_true,if_false];exact Zb (fin g2 λb o hb e=>e2 b o hb (e1.extBut b o hb (Zf _ e)))
end
section
variable {X:Cx}
noncomputable def VN(K:W.Frag)(n:Nat)(t:CU):TG:=λv σ H Q=>∃a xs,v=.ref a/\SqL K H a xs/\xs.length=n/\t xs σ H Q
theorem KB{es:List Expr}{k:Nat}{pos:Pos}{t:CU}{n:Nat}(hc:X.calm=true)(h:NA X es t)(hn:(assignEach es X.env).length=n)(hst:(assignEach es X.env).findIdx? (·.1)=none):PG X (.Tuple es k pos) (VN X.K n t):=by
 intro pins s σ H v u Q I r ⟨a,xs,e1,hq,hl,hw⟩;subst e1;cases r;obtain⟨its,rv,p,hz⟩:=I.list hq;rw[arm_assign_Tuple];refine Za (wpAny_standAt ?_);unfold unpack;rw[hst,show(assignEach es X.env).length=its.toArray.size by rw[hn, <- hl,rv.length];simp];refine Za (wpAny_holding (xC (I.ok.hd hc) p.isList λg hx=>?_));exact h pins _ σ H xs _ Q (I.kept (h':=g) (t':=s.toks) λb o e=>hx b o (Nat.ne_of_lt (Heap.lt_size e)) e) (by simpa using rv) hw
noncomputable def WP(K:W.Frag)(l:List Nat):TG:=λv s H Q=>∃m hh r n ds,Wd K m hh H/\RSt K m H r s/\RD K m H (.ref n) v/\aK hh n=some ds/\ds.length=l.length/\∀s',RSt K m H (dH l ds r) s'->Q s' H
theorem pgL{N:List Str}{sc:Scope}(xo:XOk X N sc)(hfn:∀x,X.fn x=true){l:List Nat}{es:List Expr}{k:Nat}{pos:Pos}(h:mU N sc l es=true):PG X (.Tuple es k pos) (WP X.K l):=by
 obtain⟨h1,h2⟩:=mS h
 obtain⟨p1,p2,p3⟩:=JZ (X:=X) (λe i=>rR N sc (.nm i) e) (λe i he=>by
  cases e<;>first |exact absurd (show false=true from he) Bool.false_ne_true|skip
  rename_i x pos;have h':(N[i]? ==some x&&fN sc x)=true:=he;simp only[Bool.and_eq_true,beq_iff_eq] at h';exact⟨x,pos,rfl,iN xo.nd (by rw[xo.n];exact h'.1) (by rw[xo.s];exact eL h'.2) (.inl (hfn x))⟩) h1 h2
 refine(KB xo.calm p1 p2 p3).wk λv s H Q ⟨m,hh,r,n,ds,w,st,rd,el,hl,c⟩=>?_;cases rd with
 |ref ha=>
  obtain⟨a',vs,ha',hq,q⟩:=w.lst el;rw[ha] at ha';cases ha';exact⟨_,vs,rfl,hq,by rw[<- q.length];exact hl,X.K,m,r,ds,st,q,hl,c⟩
end
section
variable {X:Cx}{N:List Str}{sc:Scope}{G:Gs}{cl:Cl}{W:Nat}{K:PySem.W.Frag}{Wx:Ws}
theorem OutS.nx{A:Type}{m:List Addr}{H:Hp}{Z:Ends}{a:Rs A}{k:A->Hh->Rs Fl}(q:OutS K Wx m H Z (a.nx.bind k)):∃d h1,a=.ok d h1/\OutS K Wx m H Z (k d h1):=by
 cases a with
 |ok d h1=>exact⟨d,h1,rfl,q⟩
 |exc c r h=>exact q.elim
 |bad=>exact q.elim
theorem OutS.body{Z:Ends}{m:List Addr}{H:Hp}{P:Sg->Hp->Prop}{o:Rs Fl}{next:Ev->Hh->Rs Fl}
 (e:OutS K Wx m H Z (o.bind λfl h=>match fl with
   |.nx r2=>next r2 h
   |.ct r2=>next r2 h
   |.bk r2=>.ok (.nx r2) h
   |.rt d=>.ok (.rt d) h))
 (hP:∀m' H' h' r s,Gr K m H m' H'->Wd K m' h' H'->RSt K m' H' r s->OutS K Wx m' H' Z (next r h')->P s H'):OutS K Wx m H {Z with nx:=P,ct:=P,bk:=Z.nx} o:=by
 cases o with
 |bad=>exact e
 |exc c r h=>exact e
 |ok fl h2=>
  intro m' H' g w;have e':=OutS.mono g e;cases fl with
  |nx r=>exact λs st=>hP m' H' h2 r s g w st e'
  |ct r=>exact λs st=>hP m' H' h2 r s g w st e'
  |bk r=>exact λs st=>e' m' H' .refl w s st
  |rt d=>exact λv rd=>e' m' H' .refl w v rd
theorem GY{t:Tg}{body:Ev->Hh->Rs Fl}{Z:Ends}{d:D}{ds:List D}{P:Sg->Hp->Prop}{m1:List Addr}{r1:Ev}{h1:Hh}{s1:Sg}{H1:Hp}{v:V}
 (w:Wd K m1 h1 H1)(st:RSt K m1 H1 r1 s1)(rd:RD K m1 H1 d v)(e:OutS K Wx m1 H1 Z (dJ t body (d::ds) r1 h1))
 (hP:∀m2 H2 r2 h2 s2,Gr K m1 H1 m2 H2->Wd K m2 h2 H2->RSt K m2 H2 r2 s2->OutS K Wx m2 H2 Z (dJ t body ds r2 h2)->P s2 H2):
 yF K t v s1 H1 λs2 H2=>TDS K Wx body {Z with nx:=P,ct:=P,bk:=Z.nx} s2 H2:=by
 simp only[dJ] at e;split at e
 ·exact e.elim
 ·rename_i r2 er;exact⟨m1,h1,r1,d,r2,w,st,rd,er,λs2 st2=>⟨m1,r2,h1,w,st2,OutS.body (next:=dJ t body ds) e λm' H' h' r s g w' st' e'=>hP m' H' r h' s g w' st' e'⟩⟩
theorem rE{t:Tg}{body:Ev->Hh->Rs Fl}{Z:Ends}{m0:List Addr}{H0:Hp}{h0:Hh}{lo hi:Int}{r0:Ev}{s0:Sg}
 (w:Wd K m0 h0 H0)(st:RSt K m0 H0 r0 s0)(e:OutS K Wx m0 H0 Z (dJ t body (cQ lo hi) r0 h0)):
 ∃Wv:Nat->Nat->Sg->Hp->Prop,(∃m,Wv 0 m s0 H0)/\∀i m s H,Wv i m s H->
  ((CQ lo (hi-lo).toNat).stop i H/\Z.nx s H)\/((CQ lo (hi-lo).toNat).go i H/\∃P:Sg->Hp->Prop,(∀s' H',P s' H'->∃m',m'<m/\Wv (i+1) m' s' H')/\∀x H',(CQ lo (hi-lo).toNat).yld i H x H'->yF K t x s H' λs2 H2=>TDS K Wx body {Z with nx:=P,ct:=P,bk:=Z.nx} s2 H2):=by
 refine xE (lo:=lo) (n:=(hi-lo).toNat) (λi s H=>∃m r h,Gr K m0 H0 m H/\Wd K m h H/\RSt K m H r s/\OutS K Wx m H Z (dJ t body ((cQ lo hi).drop i) r h))
  ⟨m0,r0,h0,.refl,w,st,e⟩ ?_ ?_
 ·rintro i s H hi' ⟨m,r,h,g,w1,st1,e1⟩
  have hd:(cQ lo hi)[i]? =some (D.int (lo+i)):=by
   unfold cQ;rw[Zi,List.getElem?_range hi'];rfl
  have ed:(cQ lo hi).drop i=D.int (lo+i)::(cQ lo hi).drop (i+1):=by
   obtain⟨hl,z⟩:=Ze.mp hd;rw[<- z];exact List.drop_eq_getElem_cons hl
  rw[ed] at e1;exact GY w1 st1 (.int _) e1 λm2 H2 r2 h2 s2 g2 w2 st2 e2=>⟨m2,r2,h2,g.trans g2,w2,st2,e2⟩
 ·rintro s H ⟨m,r,h,g,w1,st1,e1⟩;have hl:(cQ lo hi).length=(hi-lo).toNat:=by unfold cQ;simp
  rw[<- hl,List.drop_length] at e1;exact e1 m H .refl w1 s st1
theorem JD{f:Ev->Hh->Rs D}{body:Ev->Hh->Rs Fl}{Z:Ends}{m0:List Addr}{H0:Hp}{h0:Hh}{r0:Ev}{s0:Sg}
 (w:Wd K m0 h0 H0)(st:RSt K m0 H0 r0 s0)(e:OutS K Wx m0 H0 Z (dD f body W r0 h0)):yM (QR K f) (TDS K Wx body) Z s0 H0:=by
 refine⟨λk s H=>∃m r h,Gr K m0 H0 m H/\Wd K m h H/\RSt K m H r s/\OutS K Wx m H Z (dD f body k r h),⟨W,m0,r0,h0,.refl,w,st,e⟩,?_⟩;rintro k s H ⟨m,r,h,g,w1,st1,e1⟩;cases k with
 |zero=>exact e1.elim
 |succ k=>
  simp only[dD] at e1;obtain⟨x,h1,ex,e1⟩:=e1.nx;split at e1
  ·exact e1.elim
  ·rename_i et;exact⟨m,r,h,x,h1,false,w1,st1,ex,et,λm' H' g' w'=>iQ (e1 m' H' g' w' s (st1.mono g'))⟩
  ·rename_i et
   exact⟨m,r,h,x,h1,true,w1,st1,ex,et,λm' H' g' w'=>kL ⟨λs' H'=>∃m r h,Gr K m0 H0 m H'/\Wd K m h H'/\RSt K m H' r s'/\OutS K Wx m H' Z (dD f body k r h),λs' H' p=>⟨k,Nat.lt_succ_self _,p⟩,
    m',r,h1,w',st1.mono g',OutS.body (next:=dD f body k) (e1.mono g') λm3 H3 h3 r s g3 w3 st' e'=>⟨m3,r,h3,(g.trans g').trans g3,w3,st',e'⟩⟩⟩
end
def TXC(K:W.Frag)(Wx:Ws)(f:Ev->Hh->Rs D):TE:=λs H Q=>∃m r h,Wd K m h H/\RSt K m H r s/\(match f r h with
 |.ok d h'=>∀m' v H',Gr K m H m' H'->Wd K m' h' H'->RD K m' H' d v->Q v H'
 |.exc c _ h'=>∀m' H',Gr K m H m' H'->Wd K m' h' H'->Wx c s H'
 |.bad=>False)
section
variable {X:Cx}{N:List Str}{sc:Scope}{G:Gs}{ca:Nat->Addr}{cl:Cl}{Wx:Ws}{rz:Bool}
theorem qP(xo:XOk X N sc)(go:GOk X G ca cl)(hfn:∀x,X.fn x=true)(xx:XX X ca Wx rz){f:Nat}{l:Es}{y:Str}{np pos:Pos}{e:Expr}{es:List Expr}(h1:G.fns[f]? =some y)(h2:gG sc y=true)(h3:dP y=true)(h_l:yB N sc G l (e::es)):
 PE X (.Call (.Name y np) (e::es) [] pos) (TXC X.K Wx λr h=>(cM G cl l r h).nx.bind λds h=>cl f ds h):=by
 obtain⟨d1,d2,d3⟩:=cY h3;obtain⟨fa,fd,ps,k,F,hr,hm,hk,hb,hlen⟩:=go.fn f y h1;have hns:=h_l.1;rw[List.all_cons,Bool.and_eq_true] at hns;intro pins s σ H Q I ⟨m,r,h,w,st,o⟩;cases he:cM G cl l r h with
 |bad=>simp only[he] at o;exact o.elim
 |exc c rr hh=>simp only[he] at o;exact o.elim
 |ok ds hh=>
  simp only[he] at o;refine wpAny_Call_Name_kw (gB I (cJ xo h2) hm ?_ d1);refine W.callWith_K (h₀:=X.base) I.ok.mod.kin hk (bS (h_l.2 xo go pos pins s σ H (λvs H1=>∃m1,Gr X.K m H m1 H1/\Wd X.K m1 hh H1/\RDs X.K m1 H1 ds vs) I ⟨m,r,h,ds,hh,w,st,he,λm' vs H' g w' rd=>⟨m',g,w',rd⟩⟩) λus s1 ⟨vs,H1,I1,r1,m1,g1,w1,rd1⟩=>⟨I1.kIn,?_⟩) (aS es hns.1) (fE pos hns.2)
  have hsp:DH X.K ca (cl f) ps.length vs H1 Q (λv oa H'=>∃c,oa=some (ca c)/\Wx c σ H'):=by
   have hne:cl f ds hh≠ .bad:=λz=>by
    have o':(match cl f ds hh with|.ok d h'=>∀m' v H',Gr X.K m H m' H'->Wd X.K m' h' H'->RD X.K m' H' d v->Q v H'|.exc c _ h'=>∀m' H',Gr X.K m H m' H'->Wd X.K m' h' H'->Wx c σ H'|.bad=>False):=o;rw[z] at o';exact o'
   refine⟨by rw[<- rd1.length];exact hlen _ _ hne,m1,hh,ds,w1,rd1,?_⟩;have o':(match cl f ds hh with|.ok d h'=>∀m' v H',Gr X.K m H m' H'->Wd X.K m' h' H'->RD X.K m' H' d v->Q v H'|.exc c _ h'=>∀m' H',Gr X.K m H m' H'->Wd X.K m' h' H'->Wx c σ H'|.bad=>False):=o;cases hc:cl f ds hh with
   |ok d h'=>
    rw[hc] at o';exact λm' v H' g=>o' m' v H' (g1.trans g)
   |exc c rr h'=>
    rw[hc] at o';exact λm' H' v g w'=>⟨c,rfl,o' m' H' (g1.trans g) w'⟩
   |bad=>exact hne hc
  have hl:us.length=ps.length:=by rw[<- r1.length];exact F.len _ _ _ _ hsp
  have hbd:BindsTo s1 fd ⟨us,[]⟩ (ps.zip us):=by
   have:=hb s1 us I1.kIn (by simpa using hl);simpa using this
  refine wpAny_call (codeAny_mono (F.run X.A X.stack s1 H1 ⟨us,[]⟩ us vs Q _ hr I1.env0 hbd r1 hsp) λres s' hq=>?_);cases res with
  |error ev=>
   have hq':hR X.prog X.w X.stack H1 s1 (λv oa H'=>∃c,oa=some (ca c)/\Wx c σ H') ev s':=hq;obtain⟨H',ea,C,rfl,I',⟨B,FX⟩,c,hC,hW⟩:=CN I1 xx.ex hfn hq';cases hC;exact xx.fly pins σ H' s' ea c I' ⟨B,FX⟩ hW
  |ok fl=>
   cases fl with
   |ret u=>exact I1.after hq
   |next=>exact False.elim hq
   |brk=>exact False.elim hq
   |cont=>exact False.elim hq
theorem TDS.oneX{K:W.Frag}{fa:Ev->Hh->Rs D}{f:Ev->Hh->Rs Fl}{k:Ev->D->Hh->Rs Fl}{s:Sg}{H:Hp}{Z:Ends}{R:VK}(hf:∀r h,f r h=((fa r h).inn r).bind (k r))(q:TDS K Wx f Z s H)
 (c:∀(m2:List Addr)(r:Ev)(h2:Hh)(H2:Hp)(dx:D)(x:V),Wd K m2 h2 H2->RSt K m2 H2 r s->RD K m2 H2 dx x->OutS K Wx m2 H2 Z (k r dx h2)->R x H2):TXC K Wx fa s H R:=by
 obtain⟨m,r,h,w,st,o⟩:=q;rw[hf] at o;refine⟨m,r,h,w,st,?_⟩;cases he:fa r h with
 |bad=>rw[he] at o;exact o
 |exc c' rr hh=>
  rw[he] at o;exact λm' H' g w'=>o m' H' s g w' (st.mono g)
 |ok dx hh=>
  rw[he] at o;exact λm' v H' g w' rd=>c m' r hh H' dx v w' (st.mono g) rd (OutS.mono g o)
theorem TDS.one{K:W.Frag}{fa:Ev->Hh->Rs D}{f:Ev->Hh->Rs Fl}{k:Ev->D->Hh->Rs Fl}{s:Sg}{H:Hp}{Z:Ends}{R:VK}(hf:∀r h,f r h=(fa r h).nx.bind (k r))(q:TDS K Wx f Z s H)
 (c:∀(m2:List Addr)(r:Ev)(h2:Hh)(H2:Hp)(dx:D)(x:V),Wd K m2 h2 H2->RSt K m2 H2 r s->RD K m2 H2 dx x->OutS K Wx m2 H2 Z (k r dx h2)->R x H2):TDE K fa s H R:=by
 obtain⟨m,r,h,w,st,o⟩:=q;rw[hf] at o;obtain⟨dx,h1,e1,o⟩:=o.nx;exact⟨m,r,h,dx,h1,w,st,e1,λm1 x H1 g1 w1 rx=>c m1 r h1 H1 dx x w1 (st.mono g1) rx (o.mono g1)⟩
end
section
variable {X:Cx}{N:List Str}{sc:Scope}{G:Gs}{ca:Nat->Addr}{cl:Cl}{e:Addr}{oe:EO}{c:Nat}
def hslot(N:List Str)(e:Addr)(n:Option Str)(σ:Sg):Prop:=∀x,n=some x->∃j:Nat,N[j]? =some x/\σ[j]? =some (some (.ref e))
noncomputable def xQ:Sum Bool Str->V
 |.inl b=>.bl b
 |.inr x=>.str x
noncomputable def dS(G:Gs)(c:Nat):List HS->Sg->Option Sg
 | [],r=>some r
 |.bl i b::l,r=>match b.run G c with
  |some v=>dS G c l (r.set i (some (.bl v)))
  |none=>none
 |.cst i d::l,r=>dS G c l (r.set i (some (xQ d)))
 |.ifc b i d::l,r=>match b.run G c with
  |some true=>dS G c l (r.set i (some (xQ d)))
  |some false=>dS G c l r
  |none=>none
theorem fO{K:W.Frag}{m:List Addr}{H:Hp}{G:Gs}:∀{hs:List HS}{r r':Ev}{σ:Sg},pB G c hs r=some r'->RSt K m H r σ->∃σ',dS G c hs σ=some σ'/\RSt K m H r' σ'
 | [],r,r',σ,h,st=>by cases h;exact⟨σ,rfl,st⟩
 |.bl i b::l,r,r',σ,h,st=>by
  simp only[pB] at h;split at h
  ·rename_i v ev;obtain⟨σ',e1,e2⟩:=fO h (st.set i (.bl v));exact⟨σ',by simp only[dS,ev];exact e1,e2⟩
  ·cases h
 |.cst i d::l,r,r',σ,h,st=>by
  have rd:RD K m H (BW d) (xQ d):=by cases d<;>constructor
  obtain⟨σ',e1,e2⟩:=fO (show pB G c l (r.set i (some (BW d)))=some r' from h) (st.set i rd);exact⟨σ',e1,e2⟩
 |.ifc b i d::l,r,r',σ,h,st=>by
  have rd:RD K m H (BW d) (xQ d):=by cases d<;>constructor
  simp only[pB] at h;split at h
  ·rename_i ev;obtain⟨σ',e1,e2⟩:=fO h (st.set i rd);exact⟨σ',by simp only[dS,ev];exact e1,e2⟩
  ·rename_i ev;obtain⟨σ',e1,e2⟩:=fO h st;exact⟨σ',by simp only[dS,ev];exact e1,e2⟩
  ·cases h
theorem AG(go:GOk X G ca cl)(hc:EOk oe (ca c)):eJ (hX X e oe) (.builtin "isinstance") (λxs H Q=>∃t bv,xs=[.ref e,t]/\((∃k,t=.ref (ca k)/\W.kitOne X.K (.ref (ca c)) (.ref (ca k))=some bv/\(bv=true\/ExcN X.K (ca c)))\/(t=.ty "ValueError"/\ExcF X.K (ca c)/\bv=true))/\Q (.bl bv) H):=by
 intro pins s σ H xs us Q I r ⟨t,bv,ex,ht,q⟩;subst ex;obtain⟨u1,u2,rfl,r1,r2⟩:=rW r;cases r1;have pin:=I.pin (e,oe.o) (List.mem_append_left _ Zl);have LT:W.Looks (model (hX X e oe).prog (hX X e oe).w) s.heap (typeOf (.ref e)) (.ref (ca c)):=hc.cls ▸ (W.Looks.ld pin.1).andThen .now
 have kit:W.kitOne X.K (.ref (ca c)) u2=some bv:=by
  rcases ht with ⟨k,rfl,hk,_⟩|⟨rfl,ef,rfl⟩
  ·cases r2;exact hk
  ·cases r2;exact ef.val
 have ok:bv=true\/ExcN X.K (ca c):=by
  rcases ht with ⟨k,_,_,z⟩|⟨_,_,z⟩
  ·exact z
  ·exact .inl z
 rcases ok with rfl|n
 ·exact kip LT I.kIn kit (λz=>nomatch z) ⟨.bl true,H,I,rfl,q⟩
 ·exact W.kia_one (AB n) I.kIn ⟨pin.1,hc.cls⟩ kit (λz=>nomatch z) λtk=>⟨.bl bv,H,I.tok _,rfl,q⟩
inductive HBt (sc:Scope) (G:Gs) (n:Option Str):HB->Expr->Prop
 |isx {k:Nat} {x y:Str} {fp xp yp pos:Pos} (h:(gG sc "isinstance"&&n==some x&&dP x&&G.excs[k]? ==some y&&gG sc y&&dP y)=true):HBt sc G n (.isx k) (.Call (.Name "isinstance" fp) [.Name x xp,.Name y yp] [] pos)
 |isv {x:Str} {fp xp yp pos:Pos} (h:(gG sc "isinstance"&&n==some x&&dP x&&gG sc "ValueError")=true):HBt sc G n .isv (.Call (.Name "isinstance" fp) [.Name x xp,.Name "ValueError" yp] [] pos)
 |and {a b:HB} {x v:Expr} {vs:List Expr} {pos:Pos} (h1:HBt sc G n a x) (h2:HBt sc G n b (.BoolOp .And (v::vs) pos)):HBt sc G n (.and a b) (.BoolOp .And (x::v::vs) pos)
 |one {a:HB} {x:Expr} {pos:Pos} (h1:HBt sc G n a x):HBt sc G n a (.BoolOp .And [x] pos)
 |not {a:HB} {x:Expr} {pos:Pos} (h1:HBt sc G n a x):HBt sc G n (.not a) (.UnaryOp .Not x pos)
 |sam {f:Nat} {x y:Str} {fp xp ap cp pos:Pos} {j:Nat} (h:(n==some x&&dP x&&G.fns[f]? ==some y&&gG sc y&&dP y)=true) (hb:∀env:Env,attributeBase (.Name x xp) "row" env (eval (.Name x xp) env)=eval (.Name x xp) env):HBt sc G n (.sam f) (.Call (.Name y fp) [.Attribute (.Name x xp) "row" ap,.Constant (.int 0) j cp] [] pos)
theorem HH(xo:XOk X N sc)(go:GOk X G ca cl)(hc:EOk oe (ca c))(ef:ExcF X.K (ca c)){n:Option Str}(hn:∀x,n=some x->sc.names.lookup x=some .local):∀(b:HB)(v:Expr),HBt sc G n b v->
 PE (hX X e oe) v (λσ H Q=>hslot N e n σ/\∃bv,b.run G c=some bv/\Gq X.K H (Q (.bl bv)))/\PT (hX X e oe) v (λσ H Q=>hslot N e n σ/\∃bv,b.run G c=some bv/\Gq X.K H (Q bv)):=by
 have hgl:∀{x:Str},gG sc x=true->Gl (hX X e oe) x:=λh=>cJ xo h;have isi:(("isinstance":Str)==("__debug__":Str))=false:=by decide+kernel
 have isn:("isinstance":Str)≠"__name__":=by decide+kernel
 have common:∀{x y:Str}{fp xp yp pos:Pos}{t:V},gG sc "isinstance"=true->n=some x->dP x=true->PE (hX X e oe) (.Name y yp) (tC t)->PE (hX X e oe) (.Call (.Name "isinstance" fp) [.Name x xp,.Name y yp] [] pos)
  (λσ H Q=>hslot N e n σ/\∃bv,((∃k,t=.ref (ca k)/\W.kitOne X.K (.ref (ca c)) (.ref (ca k))=some bv/\(bv=true\/ExcN X.K (ca c)))\/(t=.ty "ValueError"/\ExcF X.K (ca c)/\bv=true))/\Q (.bl bv) H):=λ{x y fp xp yp pos t} hgi hx hdx hy=>by
  intro pins s σ H Q I ⟨hs,bv,ht,q⟩;obtain⟨j,hj,hσ⟩:=hs x hx;obtain⟨d1,d2,d3⟩:=cY hdx;have px:PE (hX X e oe) (.Name x xp) (iK j):=pv (X:=hX X e oe) j (by show X.N[j]? =some x;rw[xo.n];exact hj) (.inl (by show X.env.scope.names.lookup x=_;rw[xo.s];exact hn x hx)) d1 d2;have hA:PA (hX X e oe) [.Name x xp,.Name y yp] (dX (iK j) (dX (tC t) kJ)):=bH px (bH hy cV);have p:=iO (X:=hX X e oe) (p:=fp) (pos:=pos) (AG (e:=e) go hc) (hgl hgi) (go.blt .isinst) (fS .isinst) hA isn isi;exact p pins s σ H Q I ⟨.ref e,hσ,t,bv,rfl,ht,q⟩
 have both:∀{b:HB}{v:Expr},PE (hX X e oe) v (λσ H Q=>hslot N e n σ/\∃bv,b.run G c=some bv/\Gq X.K H (Q (.bl bv)))->(∀whole,isTrue v (hX X e oe).env whole=(do let u <- whole;standAt v.pos;holding [u] (truthy u)))->PE (hX X e oe) v (λσ H Q=>hslot N e n σ/\∃bv,b.run G c=some bv/\Gq X.K H (Q (.bl bv)))/\PT (hX X e oe) v (λσ H Q=>hslot N e n σ/\∃bv,b.run G c=some bv/\Gq X.K H (Q bv)):=λp he=>⟨p,(lR p he).wk λσ H Q ⟨hs,bv,ev,q⟩=>⟨hs,bv,ev,q.seq λH' q'=>⟨bv,rfl,q'.here⟩⟩⟩;intro b v hb
 induction hb with
 | @isx k x y fp xp yp pos h'=>
   simp only[Bool.and_eq_true,beq_iff_eq] at h';obtain⟨⟨⟨⟨⟨h2,h3⟩,h4⟩,h5⟩,h6⟩,h7⟩:=h';obtain⟨hm,_⟩:=go.exc k y h5;obtain⟨d1,d2,d3⟩:=cY h7;have py:PE (hX X e oe) (.Name y yp) (tC (.ref (ca k))):=uN (X:=hX X e oe) (hgl h6) hm rfl d1;refine both ((common (t:=.ref (ca k)) h2 h3 h4 py).wk λσ H Q ⟨hs,bv,ev,q⟩=>?_) λ_=>rfl;simp only[HB.run] at ev;split at ev
   ·rename_i hk;cases ev;exact⟨hs,true,.inl ⟨k,rfl,(go.sub _ hk).2.1,.inl rfl⟩,q.here⟩
   ·split at ev
    ·rename_i hk;cases ev;exact⟨hs,false,.inl ⟨k,rfl,(go.nsub _ hk).1,.inr (go.nsub _ hk).2⟩,q.here⟩
    ·cases ev
 | @isv x fp xp yp pos h'=>
   simp only[Bool.and_eq_true,beq_iff_eq] at h';obtain⟨⟨⟨h2,h3⟩,h4⟩,h6⟩:=h';have py:PE (hX X e oe) (.Name "ValueError" yp) (tC (.ty "ValueError")):=kQ (X:=hX X e oe) (hgl h6) go.verr (by decide+kernel) rfl;refine both ((common (t:=.ty "ValueError") h2 h3 h4 py).wk λσ H Q ⟨hs,bv,ev,q⟩=>?_) λ_=>rfl;cases ev;exact⟨hs,true,.inr ⟨rfl,ef,rfl⟩,q.here⟩
 | @and a b x v vs pos h1 h2 iha ihb=>
   refine⟨(uP iha.1 ihb.1).wk λσ H Q ⟨hs,bv,ev,q⟩=>?_,(zG iha.2 (zF ihb.2)).pt.wk λσ H Q ⟨hs,bv,ev,q⟩=>?_⟩
   ·simp only[HB.run] at ev;split at ev
    ·rename_i e1;exact⟨hs,true,e1,q.seq λH' q'=>⟨true,rfl,kL ⟨hs,_,ev,q'⟩⟩⟩
    ·rename_i e1;cases ev;exact⟨hs,false,e1,q.seq λH' q'=>⟨false,rfl,iQ q'.here⟩⟩
    ·cases ev
   ·simp only[HB.run] at ev;split at ev
    ·rename_i e1;exact⟨hs,true,e1,q.seq λH' q'=>kL ⟨hs,_,ev,q'⟩⟩
    ·rename_i e1;cases ev;exact⟨hs,false,e1,q.seq λH' q'=>iQ q'.here⟩
    ·cases ev
 | @sam f x y fp xp ap cp pos j h' hb=>
   simp only[Bool.and_eq_true,beq_iff_eq] at h';obtain⟨⟨⟨⟨h2,h3⟩,h4⟩,h5⟩,h6⟩:=h';obtain⟨d1,d2,d3⟩:=cY h3;obtain⟨d4,_,_⟩:=cY h6;refine both ?_ λ_=>rfl;intro pins s σ H Q I ⟨hs,bv,ev,q⟩;simp only[HB.run] at ev;split at ev
   case isFalse=>cases ev
   rename_i hfc;cases ev;obtain⟨hf,hci⟩:=hfc;obtain⟨x',fa,fd,ps,hx',hm,hk,hbd,hps,FN,rm⟩:=go.c.sam f hf;rw[h4] at hx';cases hx';obtain⟨j',hj,hσ⟩:=hs x h2;have px:PE (hX X e oe) (.Name x xp) (iK j'):=pv (X:=hX X e oe) j' (by show X.N[j']? =some x;rw[xo.n];exact hj) (.inl (by show X.env.scope.names.lookup x=_;rw[xo.s];exact hn x h2)) d1 d2
   have pa:PE (hX X e oe) (.Attribute (.Name x xp) "row" ap) (λσ H Q=>σ[j']? =some (some (.ref e))/\Q (.int 0) H):=by
    intro pins s σ H Q I ⟨h1,q⟩;refine GM (hb _) (bS (px pins s σ H (λv H'=>v=.ref e/\H'=H) I ⟨_,h1,rfl,rfl⟩) λu s1 ⟨v,H1,I1,rv,ev,eH⟩=>?_);subst ev;subst eH;obtain rfl:u=Value.ref e:=rv;have pin:=I1.pin (e,oe.o) (List.mem_append_left _ Zl);have pid:=I1.pin (oe.dx,oe.od) (List.mem_append_left _ (Zj _ Zl));obtain⟨k,hrow⟩:=hc.row;obtain⟨vs,hdt⟩:=hc.dat;exact AV I1.kIn (go.c.ini c hci).at_ pin.1 hc.cls (by unfold W.notCls;rw[hdt]) hc.dict pid.1 hrow rfl ⟨.int 0,H1,I1.tok _,⟨k,rfl⟩,q⟩
   have hA:PA (hX X e oe) [.Attribute (.Name x xp) "row" ap,.Constant (.int 0) j cp] _:=bH pa (bH sQ cV);refine wpAny_Call_Name_kw (gB (X:=hX X e oe) I (hgl h5) hm ?_ d4);refine W.callWith_K (h₀:=X.base) I.ok.mod.kin hk (bS (hA pos pins s σ H (λvs H1=>vs=[.int 0,.int 0]/\H1=H) I ⟨hσ,rfl,rfl⟩) λus s1 ⟨vs,H1,I1,r1,ev,eH⟩=>⟨I1.kIn,?_⟩) rfl rfl;subst ev;subst eH;have hl:us.length=ps.length:=by rw[<- r1.length,hps];rfl
   have hbd':BindsTo s1 fd ⟨us,[]⟩ (ps.zip us):=by
    have:=hbd s1 us I1.kIn (by simpa using hl);simpa using this
   refine wpAny_call (codeAny_mono (FN (hX X e oe).A X.stack s1 H1 ⟨us,[]⟩ us (Q) ⟨rfl,rm.dp,rm.un⟩ I1.env0 hbd' r1 q) λres s' hq=>?_);cases res with
   |error ev=>obtain⟨_,_,_,_,_,_,_,_,_,z⟩:=(show hR X.prog X.w X.stack H1 s1 (λ_ _ _=>False) ev s' from hq);exact False.elim z
   |ok fl=>
    cases fl with
    |ret u=>exact I1.after hq
    |next=>exact False.elim hq
    |brk=>exact False.elim hq
    |cont=>exact False.elim hq
 | @one a x pos h1 iha=>exact⟨oR iha.1,(uG iha.2).pt⟩
 | @not a x pos h1 iha=>
   refine⟨(uM iha.1).wk λσ H Q ⟨hs,bv,ev,q⟩=>?_,(zI iha.2).wk λσ H Q ⟨hs,bv,ev,q⟩=>?_⟩
   ·simp only[HB.run] at ev;split at ev
    ·rename_i v e1;cases ev;exact⟨hs,v,e1,q.seq λH' q'=>⟨v,rfl,q'.here⟩⟩
    ·cases ev
   ·simp only[HB.run] at ev;split at ev
    ·rename_i v e1;cases ev;exact⟨hs,v,e1,q⟩
    ·cases ev
end
theorem gX{env:Env}{v:Expr}{t:Option Expr}{l:Nat}(h:iC v=true):swapsWith v t l env=pure false:=by
 cases v<;>first |rfl|(cases h;done)
theorem jY{env:Env}{v tg:Expr}{l:Nat}(h:iC v=true):swapsWithSole [tg] v l env=pure false:=gX (t:=some tg) h
section
variable {X:Cx}{N:List Str}{sc:Scope}{G:Gs}{ca:Nat->Addr}{cl:Cl}{e:Addr}{oe:EO}{c:Nat}
theorem hslot.set{n:Option Str}{σ:Sg}{i:Nat}{x:Str}{v:Option V}(h:hslot N e n σ)(hi:N[i]? =some x)(hx:(n==some x)=false):hslot N e n (σ.set i v):=λy hy=>by
 obtain⟨j,h1,h2⟩:=h y hy;refine⟨j,h1,?_⟩
 have:i≠j:=λz=>by
  subst z;rw[hi] at h1;cases h1;rw[hy] at hx;simp at hx
 rw[List.getElem?_set_ne this];exact h2
noncomputable def HS.ix:HS->Nat
 |.bl i _=>i
 |.cst i _=>i
 |.ifc _ i _=>i
inductive HSt (N:List Str) (sc:Scope) (G:Gs) (n:Option Str):HS->Stmt->Prop
 |bl {i:Nat} {b:HB} {x:Str} {v:Expr} {xp pos:Pos} (h:(N[i]? ==some x&&fN sc x&&(!(n==some x))&&iC v)=true) (hb:HBt sc G n b v):HSt N sc G n (.bl i b) (.Assign [.Name x xp] v pos)
 |cb {i:Nat} {b:Bool} {x:Str} {j:Nat} {xp cp pos:Pos} (h:(N[i]? ==some x&&fN sc x&&(!(n==some x)))=true):HSt N sc G n (.cst i (.inl b)) (.Assign [.Name x xp] (.Constant (.bool b) j cp) pos)
 |cs {i:Nat} {y:Str} {x:Str} {j:Nat} {xp cp pos:Pos} (h:(N[i]? ==some x&&fN sc x&&(!(n==some x)))=true):HSt N sc G n (.cst i (.inr y)) (.Assign [.Name x xp] (.Constant (.str y) j cp) pos)
inductive HSn (N:List Str) (sc:Scope) (G:Gs) (n:Option Str):HS->Stmt->Prop
 |one {a:HS} {x:Stmt} (h:HSt N sc G n a x):HSn N sc G n a x
 |ifc {b:HB} {i:Nat} {d:Sum Bool Str} {v:Expr} {x:Stmt} {pos:Pos} (hb:HBt sc G n b v) (h:HSt N sc G n (.cst i d) x):HSn N sc G n (.ifc b i d) (.If v [x] [] pos)
inductive HSts (N:List Str) (sc:Scope) (G:Gs) (n:Option Str):List HS->List Stmt->Prop
 |nil:HSts N sc G n [] []
 |cons {a:HS} {l:List HS} {x:Stmt} {r:List Stmt} (h:HSn N sc G n a x) (hl:HSts N sc G n l r):HSts N sc G n (a::l) (x::r)
theorem HF(xo:XOk X N sc)(go:GOk X G ca cl)(hfn:∀x,X.fn x=true)(hc:EOk oe (ca c))(ef:ExcF X.K (ca c)){n:Option Str}(hn:∀x,n=some x->sc.names.lookup x=some .local)(a:HS)(st:Stmt)(h:HSt N sc G n a st):
 (∃x,N[a.ix]? =some x/\(n==some x)=false)/\PS (hX X e oe) st (λD σ H=>hslot N e n σ/\∃σ',dS G c [a] σ=some σ'/\Gq X.K H (D.nx σ')):=by
 have nd:(hX X e oe).N.Nodup:=xo.nd;cases h with
 | @bl i b x v xp pos h hb=>
   simp only[Bool.and_eq_true,beq_iff_eq,Bool.not_eq_true'] at h;obtain⟨⟨⟨h1,h2⟩,h3⟩,h4⟩:=h;refine⟨⟨x,h1,h3⟩,(oQ (X:=hX X e oe) (i:=i) nd (by show X.N[i]? =some x;rw[xo.n];exact h1) (by show GS X.env.scope x;rw[xo.s];exact eL h2) (HH xo go hc ef hn b v hb).1 (gX h4) (.inl (hfn x))).wk λD σ H ⟨hs,σ',er,q⟩=>?_⟩;simp only[dS] at er;split at er
   ·rename_i bv eb;cases er;exact⟨hs,bv,eb,q⟩
   ·cases er
 | @cb i b x j xp cp pos h=>
   simp only[Bool.and_eq_true,beq_iff_eq,Bool.not_eq_true'] at h;obtain⟨⟨h1,h2⟩,h3⟩:=h;refine⟨⟨x,h1,h3⟩,(oQ (X:=hX X e oe) (i:=i) nd (by show X.N[i]? =some x;rw[xo.n];exact h1) (by show GS X.env.scope x;rw[xo.s];exact eL h2) HI rfl (.inl (hfn x))).wk λD σ H ⟨hs,σ',er,q⟩=>?_⟩;cases er;exact q.here
 | @cs i y x j xp cp pos h=>
   simp only[Bool.and_eq_true,beq_iff_eq,Bool.not_eq_true'] at h;obtain⟨⟨h1,h2⟩,h3⟩:=h;refine⟨⟨x,h1,h3⟩,(oQ (X:=hX X e oe) (i:=i) nd (by show X.N[i]? =some x;rw[xo.n];exact h1) (by show GS X.env.scope x;rw[xo.s];exact eL h2) fY rfl (.inl (hfn x))).wk λD σ H ⟨hs,σ',er,q⟩=>?_⟩;cases er;exact q.here
theorem tD{G:Gs}{a:HS}{l:List HS}{σ σ':Sg}(h:dS G c (a::l) σ=some σ'):∃σ1,dS G c [a] σ=some σ1/\(σ1=σ\/∃v,σ1=σ.set a.ix (some v))/\dS G c l σ1=some σ':=by
 cases a with
 |bl i b=>
  simp only[dS] at h⊢;split at h
  ·rename_i v ev;exact⟨_,rfl,.inr ⟨_,rfl⟩,h⟩
  ·cases h
 |cst i d=>exact⟨_,rfl,.inr ⟨xQ d,rfl⟩,h⟩
 |ifc b i d=>
  simp only[dS] at h⊢;split at h
  ·exact⟨_,rfl,.inr ⟨xQ d,rfl⟩,h⟩
  ·exact⟨_,rfl,.inl rfl,h⟩
  ·cases h
theorem OM(xo:XOk X N sc)(go:GOk X G ca cl)(hfn:∀x,X.fn x=true)(hc:EOk oe (ca c))(ef:ExcF X.K (ca c)){n:Option Str}(hn:∀x,n=some x->sc.names.lookup x=some .local)(a:HS)(st:Stmt)(h:HSn N sc G n a st):
 (∃x,N[a.ix]? =some x/\(n==some x)=false)/\PS (hX X e oe) st (λD σ H=>hslot N e n σ/\∃σ',dS G c [a] σ=some σ'/\Gq X.K H (D.nx σ')):=by
 cases h with
 |one h=>exact HF xo go hfn hc ef hn _ _ h
 | @ifc b i d v x pos hb h=>
   obtain⟨hx,p⟩:=HF (e:=e) (oe:=oe) xo go hfn hc ef hn _ _ h;refine⟨hx,?_⟩;have pv:=HH (e:=e) (oe:=oe) xo go hc ef hn b v hb;refine(nO pv.2 (dZ p eK) eK).wk λD σ H ⟨hs,σ',er,q⟩=>?_;simp only[dS] at er;split at er
   ·rename_i ev;cases er;exact⟨hs,true,ev,q.seq λH' q'=>kL ⟨hs,_,rfl,q'⟩⟩
   ·rename_i ev;cases er;exact⟨hs,false,ev,q.seq λH' q'=>iQ q'.here⟩
   ·cases er
theorem zJ(xo:XOk X N sc)(go:GOk X G ca cl)(hfn:∀x,X.fn x=true)(hc:EOk oe (ca c))(ef:ExcF X.K (ca c)){n:Option Str}(hn:∀x,n=some x->sc.names.lookup x=some .local):∀(l:List HS)(es:List Stmt),HSts N sc G n l es->
 PSs (hX X e oe) es (λD σ H=>hslot N e n σ/\∃σ',dS G c l σ=some σ'/\Gq X.K H (D.nx σ')):=by
 intro l es h
 induction h with
 |nil=>exact(eK).wk λD σ H ⟨_,σ',er,q⟩=>by cases er;exact q.here
 | @cons a l x r h hl ih=>
   obtain⟨⟨y,hy1,hy2⟩,p⟩:=OM (e:=e) (oe:=oe) xo go hfn hc ef hn a x h;refine(dZ p ih).wk λD σ H ⟨hs,σ',er,q⟩=>?_;obtain⟨σ1,e1,es,e2⟩:=tD er;refine⟨hs,σ1,e1,q.seq λH' q'=>⟨?_,σ',e2,q'⟩⟩;rcases es with rfl|⟨v,rfl⟩
   ·exact hs
   ·exact hs.set hy1 hy2
end
noncomputable def tX(X:Cx)(pins:List (Addr×Obj))(E:Value->Shared->Prop):Cx:={X with pn:=X.pn++pins,xe:=E}
section
variable {X:Cx}{pins pins':List (Addr×Obj)}{E:Value->Shared->Prop}{σ:Sg}{H:Hp}{s:Shared}
theorem NO(I:Inv X pins σ H s):Inv (tX X pins E) [] σ H s:=
 ⟨⟨I.ok.mod,I.ok.kind,I.ok.glob,I.ok.blt,I.ok.above,I.ok.inj,I.ok.has,I.ok.cab,I.ok.hd,I.ok.frames,I.ok.stk,I.ok.exf,I.ok.bs,I.ok.bsz,I.ok.noex,I.ok.exfs,I.ok.funs,I.ok.frf⟩,I.os,I.bare,I.base,I.loc,I.cell,I.free,I.freeC,λp hp=>I.pin p (by rw[Zm] at hp;exact hp),I.hok,I.len⟩
theorem lI(I:Inv (tX X pins E) pins' σ H s):Inv X pins σ H s:=
 ⟨⟨I.ok.mod,I.ok.kind,I.ok.glob,I.ok.blt,I.ok.above,I.ok.inj,I.ok.has,I.ok.cab,I.ok.hd,I.ok.frames,I.ok.stk,I.ok.exf,I.ok.bs,I.ok.bsz,I.ok.noex,I.ok.exfs,I.ok.funs,I.ok.frf⟩,I.os,I.bare,I.base,I.loc,I.cell,I.free,I.freeC,λp hp=>I.pin p (List.mem_append_left _ hp),I.hok,I.len⟩
theorem JG{e C:Addr}{B:Heap}(F:FlyX (tX X pins E) pins' H e C s B):FlyX X pins H e C s B:=⟨F.fly,λp hp=>F.pc1 p (List.mem_append_left _ hp),F.pc2⟩
end
section
variable {X:Cx}{N:List Str}{sc:Scope}{G:Gs}{ca:Nat->Addr}{cl:Cl}{Wx:Ws}{rz:Bool}
noncomputable def Wt(K:W.Frag)(Wx:Ws)(Z:Ends)(G:Gs)(g:Nat)(j:Option Nat)(hs:List HS):Ws:=λc σ H=>∃m r h,Wd K m h H/\RSt K m H r σ/\OutS K Wx m H Z (mV G g j hs (.exc c r h))
theorem RSt.clr{K:W.Frag}{m:List Addr}{H:Hp}{r:Ev}{σ:Sg}(st:RSt K m H r σ)(j:Nat)(v:Option V):RSt K m H (r.set j none) (σ.set j v):=by
 refine⟨by simp[st.1],λi d e=>?_⟩
 by_cases hij:j=i
 ·subst hij
  by_cases hl:j<r.length
  ·rw[List.getElem?_set_self hl] at e;cases e
  ·rw[List.getElem?_eq_none (by simpa using hl)] at e;cases e
 ·rw[List.getElem?_set_ne hij] at e⊢;exact st.2 i d e
theorem wF(xo:XOk X N sc)(go:GOk X G ca cl)(hfn:∀x,X.fn x=true)(xx:XX X ca Wx rz){g:Nat}{j:Option Nat}{hs:List HS}{y:Str}{yp hp:Pos}{n:Option Str}{s0:Stmt}{suite:List Stmt}
 (h1:G.excs[g]? =some y)(h2:gG sc y=true)(h3:dP y=true)(h4:QM N sc j n=true)(h5:HSts N sc G n hs (s0::suite)){Z:Ends}{pins:List (Addr×Obj)}{σ:Sg}{H:Hp}{s:Shared}{e:Addr}{c:Nat}{B:Heap}
 (I:Inv X pins σ H s)(F:FlyX X pins H e (ca c) s B)(hW:Wt X.K Wx Z G g j hs c σ H):
 wpAny (model X.prog X.w) X.A (noteFrame (.ref e) X.env) (λ_ s2=>wpAny (model X.prog X.w) X.A (setFlight (.ref e) none) (λ_ s3=>wpAny (model X.prog X.w) X.A (handleBy (.ref e) X.env [.ExceptHandler (some (.Name y yp)) n (s0::suite) hp]) (SP X pins Z) X.xe s3) X.xe s2) X.xe s:=by
 obtain⟨m,r,h,w,st,o⟩:=hW;obtain⟨d1,d2,d3⟩:=cY h3;obtain⟨hm,_⟩:=go.exc g y h1;simp only[mV] at o;split at o
 case isFalse=>exact o.elim
 case isTrue hsub=>
  split at o
  case h_2=>exact o.elim
  case h_1 r' er=>
   have ef:=(go.sub _ hsub).2.2;refine UV I F xx.ex xx.stk (cJ xo h2) hm d1 (go.sub _ hsub).1 λs5 I5 F5=>?_;cases j with
   |none=>
    cases n with
    |some n=>exact absurd (show false=true from h4) Bool.false_ne_true
    |none=>
     refine JK I5 F5 xx.ex xx.stk λoe s6 hc I6=>?_;obtain⟨σ',es,st'⟩:=fO (c:=c) er (show RSt X.K m H (clr none r) σ from st);refine wpAny_mono (zJ (e:=e) (oe:=oe) (n:=none) xo go hfn hc ef (λx z=>by cases z) hs (s0::suite) h5 pins s6 σ H {nx:=λσ1 H1=>σ1=σ'/\∃m1,Gr X.K m H m1 H1/\Wd X.K m1 h H1,rt:=λ_ _=>False} I6 ⟨(λx z=>by cases z),σ',es,m,h,w,λm1 H1 g1 w1=>⟨rfl,m1,g1,w1⟩⟩) (λf s7 q=>?_) λ_ _ z=>z;cases f with
     |next=>
      obtain⟨σ1,H1,I7,z1,m1,g1,w1⟩:=q;subst z1;exact⟨_,_,AN I5.ok I7,o m1 _ g1 w1 _ (st'.mono g1)⟩
     |brk=>obtain⟨_,_,_,z⟩:=q;exact z.elim
     |cont=>obtain⟨_,_,_,z⟩:=q;exact z.elim
     |ret u=>obtain⟨_,_,_,_,_,z⟩:=q;exact z.elim
   |some j=>
    cases n with
    |none=>exact absurd (show false=true from h4) Bool.false_ne_true
    |some n=>
     have h4':(N[j]? ==some n&&sc.names.lookup n==some .local)=true:=h4;simp only[Bool.and_eq_true,beq_iff_eq] at h4';have hl:X.env.scope.names.lookup n=some .local:=by rw[xo.s];exact h4'.2
     have hj:X.N[j]? =some n:=by rw[xo.n];exact h4'.1
     refine JJ I5 F5 xx.ex xx.stk xo.nd hj hl λoe s6 hc I6=>?_;obtain⟨σ',es,st'⟩:=fO (c:=c) er (show RSt X.K m H (clr (some j) r) (σ.set j (some (.ref e))) from st.clr j _);have hjσ:j<σ.length:=by rw[I.len];exact(Ze.mp hj).1
     refine wpAny_mono (zJ (e:=e) (oe:=oe) (n:=some n) xo go hfn hc ef (λx z=>by cases z;exact h4'.2) hs (s0::suite) h5 pins s6 (σ.set j (some (.ref e))) H {nx:=λσ1 H1=>σ1=σ'/\∃m1,Gr X.K m H m1 H1/\Wd X.K m1 h H1,rt:=λ_ _=>False} I6 ⟨(λx z=>by cases z;exact⟨j,h4'.1,List.getElem?_set_self hjσ⟩),σ',es,m,h,w,λm1 H1 g1 w1=>⟨rfl,m1,g1,w1⟩⟩) (λf s7 q=>?_) λ_ _ z=>z;cases f with
     |next=>
      obtain⟨σ1,H1,I7,z1,m1,g1,w1⟩:=q;subst z1;refine wW (AN I5.ok I7) xo.nd hj hl λs8 I8=>?_;exact⟨_,_,I8,o m1 _ g1 w1 _ ((st'.mono g1).clr j none)⟩
     |brk=>obtain⟨_,_,_,z⟩:=q;exact z.elim
     |cont=>obtain⟨_,_,_,z⟩:=q;exact z.elim
     |ret u=>obtain⟨_,_,_,_,_,z⟩:=q;exact z.elim
end
noncomputable def yD(H:Hp)(e:Addr):Hp:=λb=>if b=e then none else H b
noncomputable def EQ:HO->Bool
 |.ext _=>true
 |.xd _=>true
 |_=>false
theorem iT{H:Hp}{e b:Addr}(h:H b=none):yD H e b=none:=by unfold yD;split<;>first |rfl|exact h
theorem gP{H:Hp}{e b:Addr}{u o:HO}(he:H e=some u)(hl:EQ u=true)(h:H b=some o)(ho:EQ o=false):yD H e b=some o:=by
 unfold yD;rw[if_neg λz=>by rw[z,he] at h;cases h;rw[hl] at ho;cases ho];exact h
theorem wV{P:Program}{w:World}{H:Hp}{h:Heap}{e:Addr}{u:HO}(he:H e=some u)(hl:EQ u=true){a:Addr}:∀{o:HO},ObjOk P w H h a o->ObjOk P w (yD H e) h a o:=by
 intro o
 induction o with
 |dT kvs=>
  intro x;obtain⟨x1,x2,xs,x3,x4⟩:=x;exact⟨x1,x2,xs,Paired.mapP x3 λp q ⟨y1,y2,y3⟩=>⟨y1,gP he hl y2 rfl,y3⟩,x4⟩
 |ins C dx fs=>
  intro x;obtain⟨x1,x2⟩:=x;exact⟨gP he hl x1 rfl,x2⟩
 |frz ob u ih=>intro x;exact⟨x.1,ih x.2⟩
 |_=>intro x;exact x
theorem uX{X:Cx}{pins:List (Addr×Obj)}{σ:Sg}{H:Hp}{s:Shared}{e:Addr}{u:HO}(I:Inv X pins σ H s)(he:H e=some u)(hl:EQ u=true):Inv X pins σ (yD H e) s:=
 ⟨I.ok,I.os,I.bare,⟨I.base.keep,I.base.slot,λb o q n hx=>iT (I.base.free b o q n hx),I.base.there,λb xs q=>gP he hl (I.base.tups b xs q) rfl,λb o u q=>gP he hl (I.base.frzs b o u q) rfl,λb ps q=>let⟨m,z⟩:=I.base.tbls b ps q;⟨m,gP he hl z rfl⟩⟩,I.loc,I.cell,iT I.free,λx c q=>iT (I.freeC x c q),
  λp hp=>let⟨a,b,c⟩:=I.pin p hp;⟨a,iT b,c⟩,λb o q=>by
   have hb:b≠e:=λz=>by unfold yD at q;rw[if_pos z] at q;cases q
   have q':H b=some o:=by unfold yD at q;rwa [if_neg hb] at q
   exact wV he hl (I.hok b o q'),I.len⟩
theorem wR{X:Cx}{b c:Str}{p4 p5 p6 p7 p8:Pos}{j1 j2:Nat}(pr:PE X (.Name "row" p5) (iK 1))(hz:b.length+c.length<=90000):
 PE X (.JoinedStr [.Constant (.str b) j1 p4,.FormattedValue (.Name "row" p5) (-1) none p6,.Constant (.str c) j2 p7] p8) (λσ H Q=>σ[1]? =some (some (.int 0))/\∀x,Q (.str x) H):=by
 intro pins s σ H Q I ⟨h1,q⟩;have sz:(90010:Nat)<=sizeLine:=by decide
 have l0:(toString (0:Int):Str).length=1:=by decide+kernel
 refine wpAny_JoinedStr ?_;refine bS (fY pins s σ H (λv H'=>v=.str b/\H'=H) I ⟨rfl,rfl⟩) λu s1 ⟨v,H1,I1,rv,ev,eH⟩=>?_;subst ev;subst eH;obtain⟨t,rfl⟩:=rv;refine⟨b,t,rfl,by rw[Str.empty_append];omega,?_⟩;refine wpAny_FormattedValue_plain (bS (pr pins s1 σ H1 (λv H'=>v=.int 0/\H'=H1) I1 ⟨_,h1,rfl,rfl⟩) λu s2 ⟨v,H2,I2,rv,ev,eH⟩=>?_);subst ev;subst eH;obtain⟨t,rfl⟩:=rv;refine wpAny_formatField_int (by decide) ?_;have e2:(Str.empty++b).length=b.length:=by rw[Str.empty_append]
 have e3:(Str.empty++b++(toString (0:Int):Str)).length=b.length+1:=by rw[strLen_append,e2,l0]
 refine⟨_,_,rfl,by rw[e3];omega,?_⟩;refine bS (fY pins _ σ H2 (λv H'=>v=.str c/\H'=H2) (I2.tok _) ⟨rfl,rfl⟩) λu s3 ⟨v,H3,I3,rv,ev,eH⟩=>?_;subst ev;subst eH;obtain⟨t,rfl⟩:=rv;refine⟨c,_,rfl,by rw[strLen_append,e3];omega,?_⟩;exact⟨by rw[strLen_append,e3];omega,.str _,H3,I3.tok _,⟨_,rfl⟩,q _⟩
theorem tF{P:Program}{w:World}{H:Hp}{h:Heap}{e C:Addr}{d:Option Addr}(x:lA e C d h):ObjOk P w H h e (.ext (lA e C d)):=
 ⟨x,let⟨t,q⟩:=x;⟨_,q⟩,λh1 h2 ⟨t,q⟩ k=>⟨t,k _ q⟩⟩
section
variable {X:Cx}{C Gc fI:Addr}{y:Str}{np ap pos:Pos}{e1:Expr}{es:List Expr}{t:TA}
structure BaseOk (K:W.Frag)(Gc:Addr):Prop where
 rd:W.readsIn K Gc (.type "type")=true
 fc:W.findCls K (.ref Gc) (.type "type") "__init__"=some (.val (.builtin "ValueError.__init__"))
 ga:W.specialIn K (.ref Gc) "__getattribute__"=some (some (.builtin "type.__getattribute__"))
theorem EB{pl:Sem Bool}(hg:Gl X y)(hm:X.mg y=some (.ref Gc))(hd:(y==("__debug__":Str))=false)(b:BaseOk X.K Gc)(ce:kF X.K C fI=true)(ha:PA X (e1::es) t)(hst:starEach (e1::es) X.env=(false,eval e1 X.env)::starEach es X.env)(hpl:(backTo pos (starEach es X.env)).any (·.1)=false)
 (ht:eval (.Call (.Attribute (.Name y np) "__init__" ap) (e1::es) [] pos) X.env=(do
   let ov <- eval (.Name y np) X.env
   standAt ap.atName
   let(f,first) <- holding [ov] (getMethod ov "__init__" pl)
   callWith pos f first (backTo pos (starEach (e1::es) X.env)) (backToKw pos (keywordEach [] X.env))):=by rfl):
 PE X (.Call (.Attribute (.Name y np) "__init__" ap) (e1::es) [] pos) (λσ H Q=>t σ H λvs H1=>∃e x,vs=[.ref e,.str x]/\H1 e=some (.ext (lA e C none))/\Q .non (bV H1 e (.ext (lA e C none)))):=by
 intro pins s σ H Q I h;refine W.methodCall_KW (pl:=pl) (gB I hg hm ?_ hd) ht;refine W.method_cls I.kIn b.ga (W.cls_value I.kIn b.rd b.fc (by decide+kernel) ?_);refine PyProof.Rows.callWith_builtin1 (bS (ha pos pins _ σ H _ (I.tok _) h) λus s1 ⟨vs,H1,I1,r1,e,x,ev,he,q⟩=>?_) hst hpl;subst ev;obtain⟨u1,u2,rfl,r2,r3⟩:=rW r1;cases r2;obtain⟨bm,N,nm,qn,bs,sn,sub,ab,col,dd,k0,k1,k2,k3,k5,mN,hC,hN,hi,TL⟩:=pE I1.kIn ce;obtain⟨⟨t0,het⟩,_⟩:=I1.hok e _ he;obtain⟨hp,g,d,tk,os⟩:=s1;refine xI (rest:= [u2]) TL hC het (by show 1<=sizeLine;rw[sizeLine_eq];decide) λh' t1 e1 k1=>?_;exact⟨.non,_,I1.write (s:=⟨hp,g,d,tk,os⟩) (x:=e) (e:=e) (t':=tk) (by rw[he];exact True.intro) (.inl rfl) k1 ⟨_,e1⟩ (tF ⟨t1,e1⟩),rfl,q⟩
theorem JY{o value:Expr}{ta tv:TE}{pos':Pos}(a:ExcA X.K C "row")(ce:kF X.K C fI=true)(ha:PE X o ta)(hv:PE X value tv)(hs:swapsWith value (some (.Attribute o "row" pos')) pos.line X.env=pure false):
 PS X (.Assign [.Attribute o "row" pos'] value pos) (λD σ H=>tv σ H λy H1=>ta σ H1 λx H2=>y=.int 0/\∃e,x=.ref e/\H2 e=some (.ext (lA e C none))/\∀dx,H2 dx=none->dx≠e->D.nx σ (bV (bV H2 dx (.xd rowF)) e (.ext (lA e C (some dx))))):=by
 intro pins s σ H D I h;refine plainObj_wpAny_Assign_Attribute (bS (hv pins s σ H _ I h) λu s1 ⟨y,H1,I1,ry,q⟩=>bS (ha pins s1 σ H1 _ I1 q) λov s2 ⟨x,H2,I2,rx,ey,e,ex,he,q2⟩=>?_) hs;subst ex;subst ey;obtain rfl:ov=Value.ref e:=rx;obtain⟨tu,rfl⟩:=(show ∃t,u=Value.int 0 t from ry);obtain⟨bm,N,nm,qn,bs,sn,sub,ab,col,dd,k0,k1,k2,k3,k5,mN,hC,hN,hi,TL⟩:=pE I2.kIn ce;obtain⟨⟨t0,het⟩,_⟩:=I2.hok e _ he;refine AU I2.kIn a TL hC het λh' tk e1 ns kp=>?_;have nd:s2.heap.objs.size≠e:=Nat.ne_of_gt (Heap.lt_size het);have hn:H2 s2.heap.objs.size=none:=I2.hok.fresh (Zn _);refine⟨σ,_,?_,q2 _ hn nd⟩;have keepE:∀b u,H2 b=some u->b≠e->∃o,s2.heap.get? b=some o:=λb u q _=>lV (I2.hok b u q)
 refine I2.step (s:=s2) (h':=h') (H':=bV (bV H2 s2.heap.objs.size (.xd rowF)) e (.ext (lA e C (some s2.heap.objs.size)))) (g':=s2.gens) (d':=s2.drawn) (t':=tk) (ch:= []) (λb z=>absurd z (by simp)) (λb o _ _ _ q n=>kp b o (λz=>by rw[z,he] at n;cases n) q) (λb o _ _ _ q n=>⟨o.slots,kp b o (λz=>by rw[z,he] at n;cases n) q⟩)
  (λb o _ q n=>?_) (λb o _ q=>?_) (λb xs q=>?_) (λb o u q=>?_) (λb ps q=>?_) (λm hm=>?_) (λb u q=>?_) I2.bare
 ·have h1:b≠e:=λz=>by rw[z,he] at n;cases n
  have h2:b≠s2.heap.objs.size:=Nat.ne_of_lt (Heap.lt_size q);rw[aM h1,aM h2];exact n
 ·by_cases hb:b=e
  ·subst hb;exact⟨_,e1⟩
  ·exact⟨o,kp b o hb q⟩
 ·have h1:b≠e:=λz=>by rw[z,he] at q;cases q
  have h2:b≠s2.heap.objs.size:=λz=>by rw[z,hn] at q;cases q
  rw[aM h1,aM h2];exact q
 ·have h1:b≠e:=λz=>by rw[z,he] at q;cases q
  have h2:b≠s2.heap.objs.size:=λz=>by rw[z,hn] at q;cases q
  rw[aM h1,aM h2];exact q
 ·have h1:b≠e:=λz=>by rw[z,he] at q;cases q
  have h2:b≠s2.heap.objs.size:=λz=>by rw[z,hn] at q;cases q
  exact⟨#[],by rw[aM h1,aM h2,q];simp⟩
 ·obtain⟨o,es,ep,ho,r⟩:=hm;exact⟨o,es,ep,kp _ o (λz=>by have:=I2.free;rw[z,he] at this;cases this) ho,r⟩
 ·by_cases h1:b=e
  ·subst h1;rw[bB] at q;cases q;exact tF ⟨t0,e1⟩
  ·rw[aM h1] at q
   by_cases h2:b=s2.heap.objs.size
   ·subst h2;rw[bB] at q;cases q;refine⟨_,ns,λf=>?_⟩
    by_cases hf:f="row"
    ·subst hf;rw[if_pos rfl];show RelO (some (V.int 0)) _;exact⟨tu,rfl⟩
    ·rw[if_neg hf]
     have:rowF.lookup f=none:=by
      show List.lookup f [(("row":Str),V.int 0)]=none;rw[List.lookup_cons,show(f==("row":Str))=false from beq_eq_false_iff_ne.mpr hf];rfl
     rw[this];exact trivial
   ·rw[aM h2] at q;refine(I2.hok b u q).stay (λc v hc q'=>kp c v ?_ q') (λc z=>?_) λc x z=>?_
    ·rintro rfl;rcases hc with z|z
     ·exact h1 z.symm
     ·rw[he] at z;cases z
    ·rw[aM (λw'=>by rw[w',he] at z;cases z),aM (λw'=>by rw[w',hn] at z;cases z)];exact z
    ·rw[aM (λw'=>by rw[w',he] at z;cases z),aM (λw'=>by rw[w',hn] at z;cases z)];exact z
end
section
variable {P:Program}{w:World}{K:W.Frag}{mg:Str->Option Value}{base:Heap}
theorem UN{x qual:Str}{st:Stmt}{f:Addr}{fd:FuncData}{N ps:List Str}{k:Nat}{sp:Sp}(F:Fun K x qual st f fd)(S:FnScope N ps (aE st))(len:∀vs H Q E,sp vs H Q E->vs.length=ps.length)
 (hbody:∀(cdv:Value)(A:Around)(outer:List Env)(s:Shared)(H:Hp)(vs:List V)(Q:VK)(E:XK),Room k (A.deeper (envOfC qual (aE st) s.heap.objs.size f cdv))->sp vs H Q E->
   ∃t,PSs (fH (hR P w) P w K mg base N qual (aE st) f cdv A outer s H E) (aP st) t/\t {nx:=λ_ H'=>Q .non H',rt:=Q} (start N vs) H):FnOk P w K mg base (hR P w) (k+1) f fd ps sp:=by
 obtain⟨oc,od,kV,doc,pm,an,cdv,ct,osl,rfl,lk,hcd⟩:=F.ex;exact IB lk hcd S len λA outer s H vs Q E hr hsp=>hbody cdv A outer s H vs Q E hr hsp
noncomputable abbrev VJ(a b c:Str)(p1 p2 p3 p4 p5 p6 p7 p8 p9 p10 p11 p12 p13 p14:Pos)(j1 j2:Nat):List Stmt:=
 [.Expr (.Call (.Attribute (.Name "GlassError" p1) "__init__" p2) [.Name a p3,.JoinedStr [.Constant (.str b) j1 p4,.FormattedValue (.Name "row" p5) (-1) none p6,.Constant (.str c) j2 p7] p8] [] p9) p10,.Assign [.Attribute (.Name a p11) "row" p12] (.Name "row" p13) p14]
theorem LQ{x qual:Str}{st:Stmt}{fI C Gc:Addr}{fd:FuncData}{b c:Str}{p1 p2 p3 p4 p5 p6 p7 p8 p9 p10 p11 p12 p13 p14:Pos}{j1 j2:Nat}(F:Fun K x qual st fI fd)(S:FnScope ["self","row"] ["self","row"] (aE st))(hb:aP st=VJ "self" b c p1 p2 p3 p4 p5 p6 p7 p8 p9 p10 p11 p12 p13 p14 j1 j2)(mt:MtE (.Name "GlassError" p1) "__init__" p2 p9 [.Name "self" p3,.JoinedStr [.Constant (.str b) j1 p4,.FormattedValue (.Name "row" p5) (-1) none p6,.Constant (.str c) j2 p7] p8])
 (hg:(gG (aE st) "GlassError"&&rV (aE st) "self"&&rV (aE st) "row")=true)(hz:b.length+c.length<=90000)(hm:mg "GlassError"=some (.ref Gc))(bo:BaseOk K Gc)(ce:kF K C fI=true)(ea:ExcA K C "row")
 (blt:∀f:Blt,mg f.nm=none)(ty:∀t:Ty,mg (Str.ofString t.nm)=none)(rng:mg "range"=none)(verr:mg "ValueError"=none):FnOk P w K mg base (hR P w) (0+1) fI fd ["self","row"] (TM C):=by
 simp only[Bool.and_eq_true] at hg;obtain⟨⟨hg1,hg2⟩,hg3⟩:=hg;refine UN F S (λvs H Q E ⟨e,h,_⟩=>by rw[h];rfl) (λcdv A outer s H vs Q E hr h=>?_);obtain⟨e,rfl,he,q⟩:=h
 let X:Cx:=fH (hR P w) P w K mg base ["self","row"] qual (aE st) fI cdv A outer s H E
 have xo:XOk X ["self","row"] (aE st):=⟨rfl,rfl,rfl,S.nd,⟨_,hr⟩,rng,PassesOwn.leaving⟩;have n0:X.N[0]? =some ("self":Str):=rfl;have n1:X.N[1]? =some ("row":Str):=rfl;have vs0:NE X.env.scope "self":=iJ hg2;have vs1:NE X.env.scope "row":=iJ hg3;have d0:(("self":Str)==("__debug__":Str))=false/\(("self":Str)==("__classdict__":Str))=false:=by decide+kernel
 have d1:(("row":Str)==("__debug__":Str))=false/\(("row":Str)==("__classdict__":Str))=false:=by decide+kernel
 have v0:∀p,PE X (.Name "self" p) (iK 0):=λp=>pv (X:=X) 0 n0 vs0 d0.1 d0.2;have v1:∀p,PE X (.Name "row" p) (iK 1):=λp=>pv (X:=X) 1 n1 vs1 d1.1 d1.2;have A1:PA X [.Name "self" p3,.JoinedStr [.Constant (.str b) j1 p4,.FormattedValue (.Name "row" p5) (-1) none p6,.Constant (.str c) j2 p7] p8] _:=bH (v0 p3) (bH (wR (v1 p5) hz) cV);obtain⟨pl,mt⟩:=mt X.env;have P1:=EB (X:=X) (C:=C) (fI:=fI) (np:=p1) (ap:=p2) (pos:=p9) (cJ xo hg1) hm (by decide+kernel) bo ce A1 rfl rfl mt;have P2:=JY (X:=X) (C:=C) (fI:=fI) (pos:=p14) (pos':=p12) ea ce (v0 p11) (v1 p13) rfl;rw[hb];refine⟨_,dZ (uJ (pos:=p10) P1) (uI P2),?_⟩;refine⟨.ref e,rfl,rfl,λx=>⟨e,x,rfl,he,?_⟩⟩;refine⟨.int 0,rfl,.ref e,rfl,rfl,e,rfl,bB,λdx hdx hne=>?_⟩;rw[aM hne] at hdx;have:=q dx hdx hne
 have eq:bV (bV (bV H e (.ext (lA e C none))) dx (.xd rowF)) e (.ext (lA e C (some dx)))=bV (bV H dx (.xd rowF)) e (.ext (lA e C (some dx))):=by
  funext b
  by_cases h1:b=e
  ·subst h1;rw[bB,bB]
  ·rw[aM h1,aM h1]
   by_cases h2:b=dx
   ·subst h2;rw[bB,bB]
   ·rw[aM h2,aM h2,aM h1]
 rw[eq];exact this
end
section
variable {X:Cx}{ca:Nat->Addr}{Wx:Ws}
theorem wP{c:Nat}{y:Str}{np cp0 cp pos:Pos}{j:Nat}(xx:XX X ca Wx true)(calm:X.calm=true)(hg:Gl X y)(hm:X.mg y=some (.ref (ca c)))(hk:W.keepIn X.K (.ref (ca c))=true)(io:IniOk X.prog X.w X.K X.mg X.base X.A (ca c))(hd:(y==("__debug__":Str))=false):
 PS X (.Raise (some (.Call (.Name y np) [.Constant (.int 0) j cp0] [] cp)) none pos) (λ_ σ H=>Wx c σ H):=by
 intro pins s σ H D I hW;obtain⟨fI,fd,ps,k,F,hr,hb,hps,ce,hfn⟩:=io.ex;obtain⟨bm,N,nm,qn,bs,sn,sub,ab,col,dd,k0,k1,k2,k3,k5,mN,hC,hN,hi,TL⟩:=pE I.ok.mod.kin ce;rw[arm_exec_Raise]
 have body:wpAny (model X.prog X.w) X.A (eval (.Call (.Name y np) [.Constant (.int 0) j cp0] [] cp) X.env) (λv s1=>∃e t0 dx bm,v=.ref e/\s1.heap.get? (ca c)=some (excClassObj nm qn (ca c) N bs bm true sn sub ab col dd k0 k1 k2 k3 k5 "ValueError.__new__")/\OwnTail s1.heap GK bm/\s1.heap.get? e=some {cls:=.ref (ca c),dict:=dx,data:=rU t0}/\X.xe (.ref e) s1) X.xe s:=by
  have hA:PA X [.Constant (.int 0) j cp0] (dX (tC (.int 0)) kJ):=bH sQ cV;refine wpAny_Call_Name_kw (gB I hg hm ?_ hd);refine W.callWith_K (h₀:=X.base) I.ok.mod.kin hk (bS (hA cp pins s σ H (λvs H1=>vs=[.int 0]/\Wx c σ H1) I ⟨rfl,hW⟩) λus s2 ⟨vs,H2,I2,r2,ev,hW2⟩=>⟨I2.kIn,?_⟩) rfl rfl;subst ev
  obtain⟨u,rfl,ru⟩:∃u,us=[u]/\RelV (.int 0) u:=by
   cases r2 with
   |cons a b=>cases b;exact⟨_,rfl,a⟩
  obtain⟨oI,hoI,hcI⟩:∃oI,s2.heap.get? fI=some oI/\oI.cls=.type "function":=by
   obtain⟨o,ho,hc⟩:=Option.map_eq_some_iff.mp (show(X.K.lookup fI).map (·.cls)=some (.type "function") from hfn);exact⟨o,I2.kIn _ _ ho,hc⟩
  obtain⟨hp,g,d,tk,os⟩:=s2;refine xH (TL.keeps I2.bk) (I2.bk _ _ hC) (hN.keeps I2.bk) hi hoI hcI (by show 1<=sizeLine;rw[sizeLine_eq];decide) λh' e hz hmd=>?_;obtain⟨t0,het,_,_⟩:=hmd.there;have hH2e:H2 e=none:=I2.hok.fresh hz;have I3:Inv X pins σ (bV H2 e (.ext (lA e (ca c) none))) ⟨h',g,d,tk,os⟩:=I2.laid (s:=⟨hp,g,d,tk,os⟩) (t':=tk) hmd.keeps hz (tF ⟨t0,het⟩);have vals:Vals [V.ref e,.int 0] [Value.ref e,u]:=.cons rfl (.cons ru .nil);have hl:([Value.ref e,u]++ []).length=ps.length:=by rw[hps];rfl
  refine wpAny_call (codeAny_mono (F.run _ X.stack ⟨h',g,d,tk,os⟩ (bV H2 e (.ext (lA e (ca c) none))) ⟨[.ref e,u],[]⟩ [.ref e,u] [.ref e,.int 0] (λv H4=>v=.non/\∃dx,H2 dx=none/\dx≠e/\H4=bV (bV (bV H2 e (.ext (lA e (ca c) none))) dx (.xd rowF)) e (.ext (lA e (ca c) (some dx)))) (λ_ _ _=>False) (hr.make (ca c) [u] []) (I3.env0.make (ca c) [u] []) (by simpa using hb _ [.ref e,u] I3.kIn hl) vals ⟨e,rfl,bB,λdx hdx hne=>⟨rfl,dx,by rwa [aM hne] at hdx,hne,rfl⟩⟩) λr s' hq=>?_);cases r with
  |error ev=>obtain⟨_,_,_,_,_,_,_,_,_,z⟩:=(show hR X.prog X.w X.stack (bV H2 e (.ext (lA e (ca c) none))) ⟨h',g,d,tk,os⟩ (λ_ _ _=>False) ev s' from hq);exact False.elim z
  |ok fl=>
   cases fl with
   |next=>exact False.elim hq
   |brk=>exact False.elim hq
   |cont=>exact False.elim hq
   |ret u'=>
    obtain⟨v,H4,ho4,hb4,un4,hok4,rv,rfl,dx,hdx,hne,rfl⟩:=(show CE X.stack X.prog X.w (bV H2 e (.ext (lA e (ca c) none))) ⟨h',g,d,tk,os⟩ (λv H4=>v=.non/\∃dx,H2 dx=none/\dx≠e/\H4=bV (bV (bV H2 e (.ext (lA e (ca c) none))) dx (.xd rowF)) e (.ext (lA e (ca c) (some dx)))) u' s' from hq);have eu:u'=.none:=rv;subst eu;have I4:Inv X pins σ _ s':=I3.call' (ch:= []) ho4 un4 hok4 hb4 (λb z=>absurd z (by simp));refine⟨rfl,?_⟩;have hdx4:bV (bV (bV H2 e (.ext (lA e (ca c) none))) dx (.xd rowF)) e (.ext (lA e (ca c) (some dx))) dx=some (.xd rowF):=by rw[aM hne,bB]
    obtain⟨⟨t1,het4⟩,_⟩:=hok4 e _ bB;obtain⟨mA,ns,rel⟩:=hok4 dx _ hdx4
    obtain⟨kk,hrow⟩:∃kk,mA "row"=some (.int 0 kk):=by
     have z:=rel "row";rw[show List.lookup ("row":Str) rowF=some (V.int 0) from rfl] at z;cases q:mA "row" with
     |none=>rw[q] at z;exact z.elim
     |some x=>
      rw[q] at z;obtain⟨kk,rfl⟩:=(show ∃t,x=Value.int 0 t from z);exact⟨kk,rfl⟩
    have eH:yD (yD (bV (bV (bV H2 e (.ext (lA e (ca c) none))) dx (.xd rowF)) e (.ext (lA e (ca c) (some dx)))) e) dx=H2:=by
     funext b;unfold yD
     by_cases h1:b=dx
     ·subst h1;rw[if_pos rfl,hdx]
     ·rw[if_neg h1]
      by_cases h2:b=e
      ·subst h2;rw[if_pos rfl,hH2e]
      ·rw[if_neg h2,aM h2,aM h1,aM h2]
    have I5:Inv X pins σ H2 s':=by
     have z1:=uX I4 (e:=e) bB rfl;have z2:=uX z1 (e:=dx) (u:=.xd rowF) (by unfold yD;rw[if_neg hne];exact hdx4) rfl;rwa [eH] at z2
    have s0e:X.s₀.heap.get? e=none:=by
     cases q:X.s₀.heap.get? e with
     |none=>rfl
     |some o=>
      obtain⟨o1,e1⟩:=I2.base.there e o q (by rw[xx.ex];simp);exact absurd (Heap.lt_size (show hp.get? e=some o1 from e1)) (Nat.not_lt.mpr hz)
    have s0d:X.s₀.heap.get? dx=none:=by
     cases q:X.s₀.heap.get? dx with
     |none=>rfl
     |some o=>
      obtain⟨o1,e1⟩:=I2.base.there dx o q (by rw[xx.ex];simp);have z:=un4.free dx o1 (hmd.keeps _ _ e1) (by rw[aM hne];exact hdx) (by simp);rw[hdx4] at z;cases z
    have nd:dx ∉ e::fC X.stack:=λhm'=>by
     rcases List.mem_cons.mp hm' with z|z
     ·exact hne z
     ·have:=I4.stkFree dx z;rw[hdx4] at this;cases this
    exact⟨e,t1,_,bm,rfl,I5.bk _ _ hC,TL.keeps I5.bk,het4,xx.made rfl pins σ H2 s' e dx t1 c mA kk I5 hH2e s0e het4 hdx nd s0d ns hrow hW2⟩
 first
  |exact Za (wpAny_standAt (mK (I.ok.hd calm) (Za (bS body λv s1 q=>Za (wpAny_standAt (Zb q))))))
  |(simp only[evalOpt,Option.map];exact Za (wpAny_standAt (mK (I.ok.hd calm) (Za (bS body λv s1 q=>Za (wpAny_standAt (Zb q)))))))
end
section
variable {X:Cx}
end
def SS(N:List Str)(sc:Scope)(G:Gs)(c:S)(e:Stmt):Prop:=∀{X:Cx}{ca:Nat->Addr}{cl:Cl}{W:Nat}{Wx:Ws}{rz:Bool},XOk X N sc->GOk X G ca cl->(∀x,X.fn x=true)->XX X ca Wx rz->(rz=true\/EK c=true)->PS X e (TDS X.K Wx (xs G cl W c))
def iF(N:List Str)(sc:Scope)(G:Gs)(c:Ss)(e:List Stmt):Prop:=∀{X:Cx}{ca:Nat->Addr}{cl:Cl}{W:Nat}{Wx:Ws}{rz:Bool},XOk X N sc->GOk X G ca cl->(∀x,X.fn x=true)->XX X ca Wx rz->(rz=true\/fM c=true)->PSs X e (TDS X.K Wx (bO G cl W c))
section
variable {N:List Str}{sc:Scope}{G:Gs}
theorem pK{c:Nat}{y:Str}{np cp0 cp pos:Pos}{j:Nat}(h1:G.excs[c]? =some y)(h:(gG sc y&&dP y&&G.inis.contains c)=true):SS N sc G (.rais c Str.empty) (.Raise (some (.Call (.Name y np) [.Constant (.int 0) j cp0] [] cp)) none pos):=λ{X ca cl W Wx rz} xo go hfn xx hz=>by
 rw[Bool.and_eq_true,Bool.and_eq_true] at h;obtain⟨⟨h2,h3⟩,h4⟩:=h;have er:rz=true:=hz.elim id λz=>by cases z
 subst er;obtain⟨d1,d2,d3⟩:=cY h3;obtain⟨hm,ef⟩:=go.exc c y h1;refine(wP xx xo.calm (cJ xo h2) hm ef.kp (go.c.ini c (by simpa using h4)) d1).wk λZ s H ⟨m,r,hh,w,st,o⟩=>?_;rw[xs] at o;exact o m H s .refl w st
theorem FV{t:Tg}{f:Nat}{l:Es}{tg:Expr}{y:Str}{np pos spos:Pos}{a:Expr}{as:List Expr}(ht:rR N sc t tg=true)(ae:∀env,(assignEach [tg] env).map (·.2)=[assign tg env])(sw:∀env,swappedStores [tg] (.Call (.Name y np) (a::as) [] pos) env=pure none)(h1:G.fns[f]? =some y)(h:(gG sc y&&dP y)=true)(h_l:yB N sc G l (a::as)):SS N sc G (.asgX t f l) (.Assign [tg] (.Call (.Name y np) (a::as) [] pos) spos):=λ{X ca cl W Wx rz} xo go hfn xx hz=>by
 rw[Bool.and_eq_true] at h;obtain⟨h2,h3⟩:=h;have pg:=RL xo hfn (t:=t) ht;refine(sN (qP xo go hfn xx h1 h2 h3 h_l) pg rfl (sw X.env) (ae X.env)).wk λZ s H q=>?_;refine TDS.oneX (k:=λr x h=>match dO t x r with|some r1=>.ok (.nx r1) h|none=>.bad) (λr h=>by rw[xs];cases cM G cl l r h<;>rfl) q λm2 r h2 H2 dx v w2 st2 rx o=>?_;split at o
 ·rename_i r1 er;exact⟨m2,_,r,dx,r1,w2,st2,rx,er,λs' st'=>o m2 H2 .refl w2 s' st'⟩
 ·exact o.elim
theorem FT{b:Ss}{g:Nat}{j:Option Nat}{hs:List HS}{body:List Stmt}{y:Str}{yp hp pos:Pos}{n:Option Str}{s0:Stmt}{suite:List Stmt}(h1:G.excs[g]? =some y)(hh:(gG sc y&&dP y&&QM N sc j n)=true)(h5:fM b=true)(h6:HSts N sc G n hs (s0::suite))(h_b:iF N sc G b body):SS N sc G (.tryx b g j hs) (.Try body [.ExceptHandler (some (.Name y yp)) n (s0::suite) hp] [] [] pos):=λ{X ca cl W Wx rz} xo go hfn xx hz=>by
 simp only[Bool.and_eq_true] at hh;obtain⟨⟨h2,h3⟩,h4⟩:=hh;intro pins s σ H Z I ⟨m,r,hh,w,st,o⟩;rw[xs] at o
 let E1:Value->Shared->Prop:=λe1 s1=>wpAny (model X.prog X.w) X.A (noteFrame e1 X.env) (λ_ s2=>wpAny (model X.prog X.w) X.A (setFlight e1 none) (λ_ s3=>wpAny (model X.prog X.w) X.A (handleBy e1 X.env [.ExceptHandler (some (.Name y yp)) n (s0::suite) hp]) (SP X pins Z) X.xe s3) X.xe s2) X.xe s1
 have xo1:XOk (tX X pins E1) N sc:=⟨xo.n,xo.s,xo.calm,xo.nd,xo.room,xo.rng,PassesOwn.looking⟩;have go1:GOk (tX X pins E1) G ca cl:=⟨go.fn,go.cst,go.blt,go.ty,go.exc,go.sub,go.nsub,go.verr,⟨go.c.att,go.c.meth,go.c.ini,go.c.sam,go.c.new⟩⟩;have xx1:XX (tX X pins E1) ca (Wt X.K Wx Z G g j hs) false:=⟨xx.ex,xx.stk,λpins' σ' H' s' e' c' I' ⟨B,F'⟩ hW=>wF xo go hfn xx h1 h2 h3 h4 h6 (lI I') (JG F') hW,λz=>by cases z⟩;have pb:=h_b (W:=W) xo1 go1 hfn xx1 (.inr h5)
 have q:TDS X.K (Wt X.K Wx Z G g j hs) (bO G cl W b) Z σ H:=by
  refine⟨m,r,hh,w,st,?_⟩;cases ho:bO G cl W b r hh with
  |bad=>rw[ho] at o;exact o
  |ok fl h1=>rw[ho] at o;exact o
  |exc c' r' h1=>
   rw[ho] at o;exact λm' H' s' g w' st'=>⟨m',r',h1,w',st',OutS.mono g o⟩
 refine wpAny_Try_except (wpAny_mono (pb [] s σ H Z (NO I) q) (λf s1 q1=>?_) λe1 s1 q1=>q1);cases f with
 |next=>
  obtain⟨σ1,H1,I1,z⟩:=q1;exact eK pins s1 σ1 H1 Z (lI I1) z
 |brk=>obtain⟨σ1,H1,I1,z⟩:=q1;exact⟨σ1,H1,lI I1,z⟩
 |cont=>obtain⟨σ1,H1,I1,z⟩:=q1;exact⟨σ1,H1,lI I1,z⟩
 |ret u=>obtain⟨v,σ1,H1,I1,rv,z⟩:=q1;exact⟨v,σ1,H1,lI I1,rv,z⟩
theorem bA{i:Nat}{a:E}{x:Str}{px pos:Pos}{v:Expr}(h1:N[i]? =some x)(h2:fN sc x=true)(h3:iC v=true)(h_a:SE N sc G a v):SS N sc G (.asg (.nm i) a) (.Assign [.Name x px] v pos):=λ{X ca cl W Wx rz} xo go hfn xx hz=>by
 refine(oQ (i:=i) xo.nd (by rw[xo.n];exact h1) (by rw[xo.s];exact eL h2) (h_a xo go).1 (gX h3) (.inl (hfn x))).wk λZ s H q=>?_;refine TDS.one (λr h=>by rw[xs]) q λm2 r h2 H2 dx y w2 st2 rx o=>?_;exact o m2 H2 .refl w2 _ (st2.set i rx)
theorem yN{X:Cx}(xo:XOk X N sc){y:Str}{py pos:Pos}{scope:Scope}(hk:(sc.kind== .function)=true)(h2:sc.names.lookup y=some .local)(h4:(py.line==pos.line&& !(scope.names.any λ(n,k)=>n==y&&(k== .local||k== .cell)))=true):
 (pure (X.env.blockKind== .function&&X.env.kindOf y==some .local&&py.line==pos.line&& !(scope.names.any λ(n,k)=>n==y&&(k== .local||k== .cell))):Sem Bool)=pure true:=by
 have hb:X.env.blockKind=.function:=by
  unfold Env.blockKind;rw[xo.s,eq_of_beq hk];rfl
 have hy:X.env.kindOf y=some .local:=by show X.env.scope.names.lookup y=_;rw[xo.s];exact h2
 rw[hb,hy];rw[Bool.and_assoc,h4];rfl
theorem BM{i:Nat}{t:Tg}{k:Ck}{it cs:Es}{e:E}{N':List Str}{cap:List Nat}{elt tg iter:Expr}{ifs:List Expr}{scope:Scope}{y:Str}{py pos spos:Pos}(h1:N[i]? =some y)(hk:(sc.kind== .function)=true)(h2:sc.names.lookup y=some .local)(h4:(py.line==pos.line&& !(scope.names.any λ(n,k)=>n==y&&(k== .local||k== .cell)))=true)
 (B:Blk N sc N' cap scope)(ns:nR iter=true)(ht:mR N' scope t tg=true)(hi:MX N sc G k it iter)(hc:NG N' (eI scope sc) G cs ifs)(he:SE N' (eI scope sc) G e elt)(tk:wG k tg=true:=by rfl):SS N sc G (.asc i (.comp t k it cs e N' cap)) (.Assign [.Name y py] (.ListComp elt [⟨tg,iter,ifs,0⟩] scope pos) spos):=λ{X ca cl W Wx rz} xo go hfn xx hz=>by
 refine(GD (i:=i) xo B.S B.capL B.nN B.fr (rP B ht hc he xo go) ns (BX (cl:=cl) hi tk xo go) h1 h2 (yN xo hk h2 h4)).wk λZ s H q=>?_;refine TDS.one (λr h=>by rw[xs]) q λm2 r h2 H2 dx y w2 st2 rx o=>?_;exact o m2 H2 .refl w2 _ (st2.set i rx)
theorem BL{a:E}{v:Expr}{pos:Pos}(h3:iC v=true)(h_a:SE N sc G a v):SS N sc G (.ex a) (.Expr v pos):=λ{X ca cl W Wx rz} xo go hfn xx hz=>by
 refine(uJ (h_a xo go).1 (gX h3)).wk λZ s H q=>?_;refine TDS.one (λr h=>by rw[xs]) q λm2 r h2 H2 dx y w2 st2 rx o=>?_;exact o m2 H2 .refl w2 _ st2
theorem aX{a:E}{v:Expr}{pos:Pos}(h_a:SE N sc G a v):SS N sc G (.ret a) (.Return (some v) pos):=λ{X ca cl W Wx rz} xo go hfn xx hz=>by
 refine(sL (h_a xo go).1).wk λZ s H q=>?_;refine TDS.one (λr h=>by rw[xs]) q λm2 r h2 H2 dx y w2 st2 rx o=>?_;exact o m2 H2 .refl w2 _ rx
theorem aY{a:E}{b1 b2:Ss}{t:Expr}{x y:List Stmt}{pos:Pos}(h_a:SE N sc G a t)(h_b1:iF N sc G b1 x)(h_b2:iF N sc G b2 y):SS N sc G (.iff a b1 b2) (.If t x y pos):=λ{X ca cl W Wx rz} xo go hfn xx hz=>by
 have hz':(rz=true\/fM b1=true)/\(rz=true\/fM b2=true):=by
  rcases hz with z|z
  ·exact⟨.inl z,.inl z⟩
  ·have z':(fM b1&&fM b2)=true:=z;rw[Bool.and_eq_true] at z';exact⟨.inr z'.1,.inr z'.2⟩
 refine(nO ((h_a xo go).2) (h_b1 (W:=W) xo go hfn xx hz'.1) (h_b2 (W:=W) xo go hfn xx hz'.2)).wk λZ s H ⟨m,r,hh,w,st,o⟩=>?_;rw[xs] at o;obtain⟨dx,h1,e0,o⟩:=o.nx;split at o
 ·rename_i et;exact⟨m,r,hh,dx,h1,true,w,st,e0,et,λm' H' g w'=>kL ⟨m',r,h1,w',st.mono g,o.mono g⟩⟩
 ·rename_i et;exact⟨m,r,hh,dx,h1,false,w,st,e0,et,λm' H' g w'=>iQ ⟨m',r,h1,w',st.mono g,o.mono g⟩⟩
 ·exact o.elim
theorem vR{t:Tg}{a:E}{b:Ss}{tg y:Expr}{x:List Stmt}{p pos' pos:Pos}(h1:rR N sc t tg=true)(h6:gG sc "range"=true)(h7:cX y=true)(h_a:SE N sc G a y)(h_b:iF N sc G b x):SS N sc G (.forr t (.r1 a) b) (.For tg (.Call (.Name "range" p) [y] [] pos') x [] pos):=λ{X ca cl W Wx rz} xo go hfn xx hz=>by
 have hs:∀z,foldedSetIterable (.Call (.Name "range" p) [y] [] pos') X.env z=pure z:=λz=>rfl;have hA:PA X [y] (dX (TDE X.K (ev G cl a)) kJ):=bH (h_a xo go).1 cV (aS [] h7);refine(sM xo.po xo.calm (nQ (cJ xo h6) xo.rng hA (aS [] h7)) (RL xo hfn h1) (h_b (W:=W) xo go hfn xx hz) hs).wk λZ s H q=>?_;refine TDS.one (λr h=>by rw[xs]) q λm2 r h2 H2 dx y w2 st2 rx o=>?_;cases rx<;>first |exact o.elim|skip
 rename_i j;simp only at o;split at o
 ·rename_i ho;refine⟨j,rfl,ho.1,ho.2,?_⟩;have:=rE (lo:=0) (hi:=j) w2 st2 o;simpa using this
 ·exact o.elim
theorem BK{a:E}{b:Ss}{t:Expr}{x:List Stmt}{pos:Pos}(h_a:SE N sc G a t)(h_b:iF N sc G b x):SS N sc G (.whl a b) (.While t x [] pos):=λ{X ca cl W Wx rz} xo go hfn xx hz=>by
 refine(zK xo.po (h_a xo go).2 (h_b (W:=W) xo go hfn xx hz)).wk λZ s H ⟨m,r,hh,w,st,o⟩=>?_;rw[xs] at o;exact JD w st o
theorem aG:iF N sc G .nil []:=λ{X ca cl W Wx rz} xo go hfn xx hz=>(eK).wk λZ s H ⟨m,r,hh,w,st,o⟩=>by
 rw[bO] at o;exact o m H .refl w s st
theorem aD{a:S}{l:Ss}{x:Stmt}{xs':List Stmt}(h_a:SS N sc G a x)(h_l:iF N sc G l xs'):iF N sc G (.cons a l) (x::xs'):=λ{X ca cl W Wx rz} xo go hfn xx hz=>by
 have hz':(rz=true\/EK a=true)/\(rz=true\/fM l=true):=by
  rcases hz with z|z
  ·exact⟨.inl z,.inl z⟩
  ·have z':(EK a&&fM l)=true:=z;rw[Bool.and_eq_true] at z';exact⟨.inr z'.1,.inr z'.2⟩
 refine(dZ (h_a (W:=W) xo go hfn xx hz'.1) (h_l (W:=W) xo go hfn xx hz'.2)).wk λZ s H ⟨m,r,hh,w,st,o⟩=>?_;rw[bO] at o;refine⟨m,r,hh,w,st,?_⟩;cases ho:xs G cl W a r hh with
 |bad=>rw[ho] at o;exact o
 |exc c rr h1=>rw[ho] at o;exact o
 |ok f h1=>
  rw[ho] at o;intro m1 H1 g1 w1;have o':=OutS.mono g1 o;cases f with
  |nx r2=>exact λs' st'=>⟨m1,r2,h1,w1,st',o'⟩
  |rt d=>exact o' m1 H1 .refl w1
  |bk r2=>exact o' m1 H1 .refl w1
  |ct r2=>exact o' m1 H1 .refl w1
end
section
variable {N:List Str}{sc:Scope}{G:Gs}
theorem FU{t:Tg}{a a':E}{b:Ss}{tg y y':Expr}{x:List Stmt}{p pos' pos:Pos}(h1:rR N sc t tg=true)(h6:gG sc "range"=true)(h7:cX y=true)(h7':cX y'=true)(h_a:SE N sc G a y)(h_a':SE N sc G a' y')(h_b:iF N sc G b x):SS N sc G (.forr t (.r2 a a') b) (.For tg (.Call (.Name "range" p) [y,y'] [] pos') x [] pos):=λ{X ca cl W Wx rz} xo go hfn xx hz=>by
 have hs:∀z,foldedSetIterable (.Call (.Name "range" p) [y,y'] [] pos') X.env z=pure z:=λz=>rfl;have hA:PA X [y,y'] (dX (TDE X.K (ev G cl a)) (dX (TDE X.K (ev G cl a')) kJ)):=bH (h_a xo go).1 (bH (h_a' xo go).1 cV (aS [] h7')) (aS [y'] h7);refine(sM xo.po xo.calm (nP (cJ xo h6) xo.rng hA (by rw[aS [y'] h7,aS [] h7'];rfl) (aS [] h7')) (RL xo hfn h1) (h_b (W:=W) xo go hfn xx hz) hs).wk λZ s H q=>?_;refine TDS.one (λr h=>by rw[xs]) q λm2 r h2 H2 dx y w2 st2 rx o=>?_;obtain⟨dy,h6,e6,o⟩:=o.nx;refine⟨m2,r,h2,dy,h6,w2,st2,e6,λm3 y3 H3 g3 w3 ry=>?_⟩;obtain⟨i,rfl⟩:∃i,dx=.int i:=by cases dx<;>first |exact⟨_,rfl⟩|exact o.elim
 obtain⟨j,rfl⟩:∃j,dy=.int j:=by cases dy<;>first |exact⟨_,rfl⟩|exact o.elim
 cases rx;cases ry;have o':OutS X.K Wx m2 H2 Z (if nB i/\nB j then dJ t (bO G cl W b) (cQ i j) r h6 else .bad):=o;split at o'
 ·rename_i ho;exact⟨i,j,rfl,⟨ho.1.1,ho.1.2,ho.2.1,ho.2.2⟩,rE (lo:=i) (hi:=j) w3 (st2.mono g3) (OutS.mono g3 o')⟩
 ·exact o'.elim
end
section
variable {prog:Program}{w:World}{A:Around}{E:Value->Shared->Prop}{s:Shared}
theorem qE{items:List Value}{x:Value}{R:List Value->Shared->Prop}(hz:items.length<=2000)
 (fin:R [x,.ref s.heap.objs.size] {s with heap:=s.heap.push {cls:=.type "list",data:=.seq items.toArray}}):
 wpAny (model prog w) A (newList (items.take (items.length-(2-1-1)))>>=λd=>pure ([x]++ [d]++items.drop (items.length-(2-1-1)))) R E s:=by
 have e1:items.take (items.length-(2-1-1))=items:=List.take_of_length_le (by omega);have e2:items.drop (items.length-(2-1-1))=[]:=List.drop_of_length_le (by omega);rw[e1,e2];exact Za (wpAny_newList (Zb fin) (Nat.le_trans hz (by decide)))
theorem yS{a:Addr}{x:Value}{l:List Value}{R:List Value->Shared->Prop}(hh:A.handled=none)(hl:s.heap.IsList a (x::l).toArray)(hz:l.length<=1000)
 (fin:∀(g:Heap)(tk:Nat),(∀b o,s.heap.get? b=some o->g.get? b=some o)->R [x,.ref g.objs.size] {s with heap:=g.push {cls:=.type "list",data:=.seq l.toArray},toks:=tk}):wpAny (model prog w) A (unpackItems (.ref a) 2 (some 1)) R E s:=by
 have ne:a≠s.heap.objs.size:=by obtain⟨o,ho,_⟩:=hl;exact Nat.ne_of_lt (Heap.lt_size ho)
 unfold unpackItems;refine Za ?_;unfold notIterableAtAll;refine Za (wpAny_specialOf hl.typeIs slot_list_iter.lookup (Zb ?_));simp only[Bool.false_eq_true,if_false];refine Za (wpAny_holding (wpAny_pyIter_list hl ?_));refine Za (wpAny_holding (rJ ne 1 0 _ _ ⟨_,Heap.get?_push_size _ rfl,rfl,rfl⟩ (hl.push _) (by simp) λg1 i1 s1=>?_));have l1:g1.IsList a (x::l).toArray:=(hl.push _).extBut s1.extBut ne;obtain⟨oi,hoi,_⟩:=id i1;obtain⟨ol,hol,_⟩:=id l1;show wpAny _ _ (if([x]:List Value).length<1 then _ else _) _ _ _;rw[if_neg (by simp)];refine Za (wpAny_holding (W.kun_collect (s:={s with heap:=g1}) (T:="list_iterator") (.inr (.inr (.inl rfl))) (Walks.list (A:=A.in1) hh s.heap.objs.size a ne _) (λj u st=>st.1.typeIs) (k:=1) (by simp) ⟨i1,l1⟩ (Heap.lt_size hoi) (Heap.lt_size hol) (λg2 tk hk=>?_) (by rw[Zk];exact Nat.le_trans (show l.length+1<=1001 by omega) (by decide))));show wpAny _ _ (if l.length<2-1-1 then _ else _) _ _ _;rw[if_neg (by omega)];exact qE (s:={s with heap:=g2,toks:=tk}) (items:=l) (by omega) (fin g2 tk λb o e=>hk b o (Nat.ne_of_lt (Heap.lt_size e)) (s1.extBut b o (Nat.ne_of_lt (Heap.lt_size e)) (Zf _ e)))
theorem yR{a:Addr}{x:Value}{l:List Value}{R:List Value->Shared->Prop}(hh:A.handled=none)(hl:IsTup s.heap a (x::l).toArray)(hz:l.length<=1000)
 (fin:∀(g:Heap)(tk:Nat),(∀b o,s.heap.get? b=some o->g.get? b=some o)->R [x,.ref g.objs.size] {s with heap:=g.push {cls:=.type "list",data:=.seq l.toArray},toks:=tk}):wpAny (model prog w) A (unpackItems (.ref a) 2 (some 1)) R E s:=by
 have ne:a≠s.heap.objs.size:=by obtain⟨o,ho,_⟩:=hl;exact Nat.ne_of_lt (Heap.lt_size ho)
 unfold unpackItems;refine Za ?_;unfold notIterableAtAll;refine Za (wpAny_specialOf hl.typeIs slot_tuple_iter.lookup (Zb ?_));simp only[Bool.false_eq_true,if_false];refine Za (wpAny_holding (iter_tuple hl ?_));refine Za (wpAny_holding (draw_tuple ne 1 0 _ _ ⟨_,Heap.get?_push_size _ rfl,rfl,rfl⟩ (hl.push _) (by simp) λg1 i1 s1=>?_));have l1:IsTup g1 a (x::l).toArray:=(hl.push _).extBut s1.extBut ne;obtain⟨oi,hoi,_⟩:=id i1;obtain⟨ol,hol,_⟩:=id l1;show wpAny _ _ (if([x]:List Value).length<1 then _ else _) _ _ _;rw[if_neg (by simp)];refine Za (wpAny_holding (W.kun_collect (s:={s with heap:=g1}) (T:="tuple_iterator") (.inr (.inr (.inr rfl))) (Walks.tuple (A:=A.in1) hh s.heap.objs.size a ne _) (λj u st=>st.1.typeIs) (k:=1) (by simp) ⟨i1,l1⟩ (Heap.lt_size hoi) (Heap.lt_size hol) (λg2 tk hk=>?_) (by rw[Zk];exact Nat.le_trans (show l.length+1<=1001 by omega) (by decide))));show wpAny _ _ (if l.length<2-1-1 then _ else _) _ _ _;rw[if_neg (by omega)];exact qE (s:={s with heap:=g2,toks:=tk}) (items:=l) (by omega) (fin g2 tk λb o e=>hk b o (Nat.ne_of_lt (Heap.lt_size e)) (s1.extBut b o (Nat.ne_of_lt (Heap.lt_size e)) (Zf _ e)))
end
section
variable {N:List Str}{sc:Scope}{G:Gs}
noncomputable def WO(K:W.Frag)(i j:Nat):TG:=λv s H Q=>∃m hh r dx d ds,Wd K m hh H/\RSt K m H r s/\RD K m H dx v/\dY dx hh=some (d::ds)/\ds.length<=1000/\∀m' H' s',Gr K m H m' H'->Wd K m' (hh++ [.lst ds]) H'->RSt K m' H' ((r.set i (some d)).set j (some (.ref hh.length))) s'->Q s' H'
theorem pgS{X:Cx}(xo:XOk X N sc)(hfn:∀x,X.fn x=true){i j:Nat}{x y:Str}{p1 p2 p3 px:Pos}{k:Nat}(h1:N[i]? =some x)(h2:N[j]? =some y)(h3:(fN sc x&&fN sc y)=true):PG X (.Tuple [.Name x p1,.Starred (.Name y p2) p3] k px) (WO X.K i j):=by
 rw[Bool.and_eq_true] at h3;have g1:PG X (.Name x p1) (mF i):=iN xo.nd (by rw[xo.n];exact h1) (by rw[xo.s];exact eL h3.1) (.inl (hfn x));have g2:PG X (.Name y p2) (mF j):=iN xo.nd (by rw[xo.n];exact h2) (by rw[xo.s];exact eL h3.2) (.inl (hfn y));have gs:NA X [.Name x p1,.Name y p2] _:=lT g1 (lT g2 uL rfl) rfl;intro pins s σ H v u Q I r ⟨m,hh,rr,dx,d,ds,w,st,rd,es,hz,c⟩;rw[arm_assign_Tuple];refine Za (wpAny_standAt ?_);unfold unpack;show wpAny _ _ (holding [u] (unpackItems u 2 (some 1))>>=λl=>assignInOrder [assign (.Name x p1) X.env,assign (.Name y p2) X.env] l) _ _ _
 have key:∀(a:Addr)(ux:Value)(ul:List Value)(v1:V)(vl:List V),RelV v1 ux->Vals vl ul->RD X.K m H d v1->RDs X.K m H ds vl->∀(g:Heap)(tk:Nat),(∀b o,s.heap.get? b=some o->g.get? b=some o)->
  wpAny (model X.prog X.w) X.A (assignInOrder [assign (.Name x p1) X.env,assign (.Name y p2) X.env] [ux,.ref g.objs.size]) (λ_ s'=>∃σ' H',Inv X pins σ' H' s'/\Q σ' H') X.xe {s with heap:=g.push {cls:=.type "list",data:=.seq ul.toArray},toks:=tk}:=λa ux ul v1 vl r1 rl d1 dl g tk hk=>by
  have I1:Inv X pins σ H {s with heap:=g,toks:=tk}:=I.kept hk;have I2:=I1.lnew (t':=tk) rl (by rw[<- dl.length];exact Nat.le_trans hz (by decide));have fr:H g.objs.size=none:=I1.hok.fresh (Zn _);obtain⟨w2,gr⟩:=w.lstNew fr dl;refine gs pins _ σ _ [v1,.ref g.objs.size] _ Q I2 (.cons r1 (.cons rfl .nil)) ⟨_,_,rfl,_,_,rfl,rfl,c _ _ _ gr w2 (((st.mono gr).set i (d1.mono gr)).set j (.ref (by rw[<- w.len];simp)))⟩
 cases dx with
 |tup l=>
  cases es;cases rd with
  |tup hq q=>
   cases q with
   |cons q1 q=>
   cases r;obtain⟨its,rv,p,_⟩:=I.tuple hq;cases rv with
   |cons rv1 rv=>
   refine Za (wpAny_holding (yR (I.ok.hd xo.calm) p (by rw[<- rv.length, <- q.length];exact hz) λg tk hk=>key 0 _ _ _ _ rv1 rv q1 q g tk hk))
 |ref n=>
  cases rd with
  |ref ha=>
   obtain⟨a',vs,ha',hq,q⟩:=w.lst es;rw[ha] at ha';cases ha';cases q with
   |cons q1 q=>
   cases r;obtain⟨its,rv,p,_⟩:=I.list hq;cases rv with
   |cons rv1 rv=>
   refine Za (wpAny_holding (yS (I.ok.hd xo.calm) p.isList (by rw[<- rv.length, <- q.length];exact hz) λg tk hk=>key 0 _ _ _ _ rv1 rv q1 q g tk hk))
 |_=>cases es
theorem FW{i j:Nat}{a:E}{x y:Str}{p1 p2 p3 px pos:Pos}{k:Nat}{v:Expr}(h1:N[i]? =some x)(h2:N[j]? =some y)(h3:(fN sc x&&fN sc y)=true)(h4:iC v=true)(hw:∀env,swappedStores [.Tuple [.Name x p1,.Starred (.Name y p2) p3] k px] v env=pure none)(h_a:SE N sc G a v):
 SS N sc G (.asgS i j a) (.Assign [.Tuple [.Name x p1,.Starred (.Name y p2) p3] k px] v pos):=λ{X ca cl W Wx rz} xo go hfn xx hz=>by
 refine(sN (h_a xo go).1 (pgS xo hfn (k:=k) (px:=px) h1 h2 h3) (jY h4) (hw X.env) rfl).wk λZ s H q=>?_;refine TDS.one (λr h=>by rw[xs]) q λm2 r h2 H2 dx y w2 st2 rx o=>?_;split at o
 ·rename_i d ds es;split at o
  ·rename_i hl;exact⟨m2,h2,r,dx,d,ds,w2,st2,rx,es,hl,λm' H' s' g w' st'=>o m' H' g w' s' st'⟩
  ·exact o.elim
 ·exact o.elim
theorem PM{a b:E}{y z:Expr}{p pos:Pos}(hg:gG sc "range"=true)(hs:cX y=true)(hs':cX z=true)(ha:SE N sc G a y)(hb:SE N sc G b z):MX N sc G .r2 (.cons a (.cons b .nil)) (.Call (.Name "range" p) [y,z] [] pos):=λ{X ca cl} xo go {t tg ft fe N' cap} tk pins s σ H m r h xs h1 h' I w st e1 e3=>by
 have hA:=aB hs ha (aB hs' hb (aJ (N:=N) (sc:=sc) (G:=G)));refine nP (cJ xo hg) xo.rng (hA.2 xo go) (by rw[aS [z] hs,aS [] hs'];rfl) (aS [] hs') pins s σ H _ I ⟨m,r,h,xs,h1,w,st,e1,λm' vs H' g w' rv=>?_⟩
 obtain⟨i,j,rfl⟩:∃i j,xs=[.int i,.int j]:=by
  rcases xs with _|⟨a,_|⟨b,_|⟨c,xs⟩⟩⟩
  ·cases e3
  ·cases a<;>cases e3
  ·cases a<;>first |(cases e3;done)|skip
   cases b<;>first |(cases e3;done)|skip
   exact⟨_,_,rfl⟩
  ·cases a<;>first |(cases e3;done)|skip
   cases b<;>cases e3
 simp only[dC] at e3;split at e3
 ·rename_i ho;cases rv with
  |cons rx rv=>
  cases rv with
  |cons ry rv=>
   cases rx;cases ry;cases rv;exact⟨i,j,rfl,⟨ho.1.1,ho.1.2,ho.2.1,ho.2.2⟩,m',_,rfl,g,w',nJ (K:=X.K) (m2:=m') (H2:=H') (lo:=i) (hi:=j) e3⟩
 ·cases e3
end
noncomputable abbrev mB(x T:Str)(p1 p2 p3 p4:Pos):Expr:=.Call (.Name "isinstance" p1) [.Name x p2,.Name T p3] [] p4
noncomputable abbrev HA(b1 b2 b3:List Stmt)(b5:Stmt)(k1 k2:Nat)(a1 a2 a3 a4 a5 a6 a7 c1 c2 c3 c4 d1 d2 d3 d4 d5 d6 d7 d8 d9 d10 e1 e2 e3 e4 e5 f1 f2 f3 f4 f5 f6 f7 f8 f9:Pos):List Stmt:=
 [.If (.Call (.Name "isinstance" a1) [.Name "_law_due" a2,.Tuple [.Name "tuple" a3,.Name "list" a4] k1 a5] [] a6) b1 [] a7,
  .If (.Compare (.Name "_law_due" c1) [.Is] [.Constant .none k2 c2] c3) b2 [] c4,
  .If (.BoolOp .Or [mB "_law_due" "bool" d1 d2 d3 d4,mB "_law_found" "bool" d5 d6 d7 d8] d9) b3 [] d10,
  .If (mB "_law_due" "int" e1 e2 e3 e4) [.Return (some (.BoolOp .And [mB "_law_found" "int" f1 f2 f3 f4,.Compare (.Name "_law_found" f5) [.Eq] [.Name "_law_due" f6] f7] f8)) f9] [] e5,b5]
noncomputable abbrev wM:List Str:= ["_law_found","_law_due","_law_k"]
section
variable {X:Cx}
theorem oP{b:List Stmt}:PSs X b (λ_ _ _=>False):=λ_ _ _ _ _ _ z=>z.elim
theorem KI{i:Nat}{x:Str}{t:Ty}{b:Bool}{p1 p2 p3 p4:Pos}(hg:Gl X "isinstance")(hm:∀f:Blt,X.mg f.nm=none)(ht:Gl X (Str.ofString t.nm))(hty:X.mg (Str.ofString t.nm)=none)(pv:PE X (.Name x p2) (iK i))(e:∀h,gI .isinst [.int 0,.ty t.nm] h=.ok (.bl b) h):
 PE X (mB x (Str.ofString t.nm) p1 p2 p3 p4) (λσ H Q=>σ[i]? =some (some (.int 0))/\Gq X.K H (Q (.bl b))):=by
 have hA:PA X [.Name x p2,.Name (Str.ofString t.nm) p3] (dX (iK i) (dX (tC (.ty t.nm)) kJ)):=bH pv (bH (kQ (v:=.ty t.nm) ht hty (iV t) rfl (fF t).2 (fF t).1) cV);refine(iO (kX .isinst λz=>absurd rfl z) hg (hm .isinst) (fS .isinst) hA (hG .isinst).2 (hG .isinst).1).wk λσ H Q ⟨h1,m,h,w,c⟩=>?_;exact⟨.int 0,h1,m,h,[.int 0,.ty t.nm],.bl b,h,w,.cons (.int 0) (.cons (.ty _) .nil),e h,λm' v H' g w' rd=>by cases rd;exact c m' H' g w'⟩
theorem uH{v:Expr}{i:Nat}{b:Bool}(p:PE X v (λσ H Q=>σ[i]? =some (some (.int 0))/\Gq X.K H (Q (.bl b))))(he:∀whole,isTrue v X.env whole=(do let u <- whole;standAt v.pos;holding [u] (truthy u))):PT X v (λσ H Q=>σ[i]? =some (some (.int 0))/\Gq X.K H (Q b)):=
 (lR p he).wk λσ H Q ⟨h1,q⟩=>⟨h1,q.seq λH' q'=>⟨b,rfl,q'.here⟩⟩
theorem wL{b1 b2 b3:List Stmt}{b5:Stmt}{k1 k2:Nat}{a1 a2 a3 a4 a5 a6 a7 c1 c2 c3 c4 d1 d2 d3 d4 d5 d6 d7 d8 d9 d10 e1 e2 e3 e4 e5 f1 f2 f3 f4 f5 f6 f7 f8 f9:Pos}
 (hgl:∀x,x=("isinstance":Str)\/(∃t:Ty,x=Str.ofString t.nm)->Gl X x)(hm:∀f:Blt,X.mg f.nm=none)(hty:∀t:Ty,X.mg (Str.ofString t.nm)=none)(v0:∀p,PE X (.Name "_law_found" p) (iK 0))(v1:∀p,PE X (.Name "_law_due" p) (iK 1)):
 PSs X (HA b1 b2 b3 b5 k1 k2 a1 a2 a3 a4 a5 a6 a7 c1 c2 c3 c4 d1 d2 d3 d4 d5 d6 d7 d8 d9 d10 e1 e2 e3 e4 e5 f1 f2 f3 f4 f5 f6 f7 f8 f9) (λD σ H=>σ[0]? =some (some (.int 0))/\σ[1]? =some (some (.int 0))/\Gq X.K H (D.rt (.bl true))):=by
 have gi:=hgl "isinstance" (.inl rfl);have gt:∀t:Ty,Gl X (Str.ofString t.nm):=λt=>hgl _ (.inr ⟨t,rfl⟩);have ty:∀(t:Ty) p,PE X (.Name (Str.ofString t.nm) p) (tC (.ty t.nm)):=λt p=>kQ (v:=.ty t.nm) (gt t) (hty t) (iV t) rfl (fF t).2 (fF t).1;have isi:∀(t:Ty)(b:Bool),(∀h,gI .isinst [.int 0,.ty t.nm] h=.ok (.bl b) h)->∀{x:Str}{i:Nat},(∀p,PE X (.Name x p) (iK i))->∀{p1 p2 p3 p4:Pos},PE X (mB x (Str.ofString t.nm) p1 p2 p3 p4) (λσ H Q=>σ[i]? =some (some (.int 0))/\Gq X.K H (Q (.bl b))):=λt b e {x i} v {p1 p2 p3 p4}=>KI gi hm (gt t) (hty t) (v p2) e
 have s1:PS X (.If (.Call (.Name "isinstance" a1) [.Name "_law_due" a2,.Tuple [.Name "tuple" a3,.Name "list" a4] k1 a5] [] a6) b1 [] a7) (λD σ H=>σ[1]? =some (some (.int 0))/\Gq X.K H (D.nx σ)):=by
  have hA:PA X [.Name "_law_due" a2,.Tuple [.Name "tuple" a3,.Name "list" a4] k1 a5] (dX (iK 1) (dX (NP (dX (tC (.ty "tuple")) (dX (tC (.ty "list")) kJ))) kJ)):=bH (v1 a2) (bH (sP (bH (ty .tuple a3) (bH (ty .list a4) cV))) cV)
  have p:PE X (.Call (.Name "isinstance" a1) [.Name "_law_due" a2,.Tuple [.Name "tuple" a3,.Name "list" a4] k1 a5] [] a6) (λσ H Q=>σ[1]? =some (some (.int 0))/\Gq X.K H (Q (.bl false))):=by
   refine(iO (kX .isinst λz=>absurd rfl z) gi (hm .isinst) (fS .isinst) hA (hG .isinst).2 (hG .isinst).1).wk λσ H Q ⟨h1,m,h,w,c⟩=>?_;refine⟨.int 0,h1,by show 2<=sizeLine;decide,λp hp=>⟨m,h,[.int 0,.tup [.ty "tuple",.ty "list"]],.bl false,h,w.keepNew hp,.cons (.int 0) (.cons (.tup (.of bB) (.cons (.ty _) (.cons (.ty _) .nil))) .nil),rfl,λm' v H' g w' rd=>?_⟩⟩;cases rd;exact c m' H' ((Gr.tupNew hp).trans g) w'
  exact(nO (uH p λ_=>rfl) oP eK).wk λD σ H ⟨h1,q⟩=>⟨h1,q.seq λH' q'=>iQ q'.here⟩
 have s2:PS X (.If (.Compare (.Name "_law_due" c1) [.Is] [.Constant .none k2 c2] c3) b2 [] c4) (λD σ H=>σ[1]? =some (some (.int 0))/\Gq X.K H (D.nx σ)):=
  (nO (JX (KK (v1 c1))) oP eK).wk λD σ H ⟨h1,q⟩=>⟨.int 0,h1,false,rfl,iQ q.here⟩
 have s3:PS X (.If (.BoolOp .Or [mB "_law_due" "bool" d1 d2 d3 d4,mB "_law_found" "bool" d5 d6 d7 d8] d9) b3 [] d10) (λD σ H=>σ[0]? =some (some (.int 0))/\σ[1]? =some (some (.int 0))/\Gq X.K H (D.nx σ)):=
  (nO (HE (uH (isi .bool false (λh=>rfl) v1) λ_=>rfl) (zE (uH (isi .bool false (λh=>rfl) v0) λ_=>rfl))).pt oP eK).wk λD σ H ⟨h0,h1,q⟩=>⟨h1,q.seq λH' q'=>iQ ⟨h0,q'.seq λH2 q2=>iQ q2.here⟩⟩
 have s4:PS X (.If (mB "_law_due" "int" e1 e2 e3 e4) [.Return (some (.BoolOp .And [mB "_law_found" "int" f1 f2 f3 f4,.Compare (.Name "_law_found" f5) [.Eq] [.Name "_law_due" f6] f7] f8)) f9] [] e5) (λD σ H=>σ[0]? =some (some (.int 0))/\σ[1]? =some (some (.int 0))/\Gq X.K H (D.rt (.bl true))):=by
  have pr:PE X (.BoolOp .And [mB "_law_found" "int" f1 f2 f3 f4,.Compare (.Name "_law_found" f5) [.Eq] [.Name "_law_due" f6] f7] f8) _:=KJ (isi .int true (λh=>rfl) v0) (oR (uO OU (v0 f5) (v1 f6) rfl));refine(nO (uH (isi .int true (λh=>rfl) v1) λ_=>rfl) (uI (sL pr)) eK).wk λD σ H ⟨h0,h1,q⟩=>⟨h1,q.seq λH' q'=>kL ⟨h0,q'.seq λH2 q2=>⟨true,rfl,kL ⟨.int 0,h0,.int 0,h1,rfl,?_⟩⟩⟩⟩;exact q2.here
 exact(dZ s1 (dZ s2 (dZ s3 (dZ s4 (oP (b:= [b5])))))).wk λD σ H ⟨h0,h1,q⟩=>⟨h1,q.seq λH1 q1=>⟨h1,q1.seq λH2 q2=>⟨h0,h1,q2.seq λH3 q3=>⟨h0,h1,q3⟩⟩⟩⟩
end
section
variable {P:Program}{w:World}{K:W.Frag}{mg:Str->Option Value}{base:Heap}
noncomputable def VU(P:Program)(w:World)(K:W.Frag)(mg:Str->Option Value)(base:Heap)(N:List Str)(qual:Str)(scope:Scope)(f:Addr)(cd:Value)(A:Around)(outer:List Env)(s:Shared)(H:Hp)(E:XK):Cx:={fH (hR P w) P w K mg base N qual scope f cd A outer s H E with calm:=false}
theorem DL{x qual:Str}{st:Stmt}{fa:Addr}{fd:FuncData}{b1 b2 b3:List Stmt}{b5:Stmt}{k1 k2:Nat}{a1 a2 a3 a4 a5 a6 a7 c1 c2 c3 c4 d1 d2 d3 d4 d5 d6 d7 d8 d9 d10 e1 e2 e3 e4 e5 f1 f2 f3 f4 f5 f6 f7 f8 f9:Pos}
 (F:Fun K x qual st fa fd)(S:FnScope wM ["_law_found","_law_due"] (aE st))(hb:aP st=HA b1 b2 b3 b5 k1 k2 a1 a2 a3 a4 a5 a6 a7 c1 c2 c3 c4 d1 d2 d3 d4 d5 d6 d7 d8 d9 d10 e1 e2 e3 e4 e5 f1 f2 f3 f4 f5 f6 f7 f8 f9)
 (hg:(gG (aE st) "isinstance"&&gG (aE st) "int"&&gG (aE st) "bool"&&gG (aE st) "str"&&gG (aE st) "tuple"&&gG (aE st) "list"&&rV (aE st) "_law_found"&&rV (aE st) "_law_due")=true)
 (blt:∀f:Blt,mg f.nm=none)(ty:∀t:Ty,mg (Str.ofString t.nm)=none):WX P w K mg base fa fd ["_law_found","_law_due"]:=by
 intro A outer s H args us Q hr e0 hbd r q;obtain⟨oc,od,kV,doc,pm,an,cdv,ct,osl,rfl,lk,hcd⟩:=F.ex;simp only[Bool.and_eq_true] at hg;obtain⟨⟨⟨⟨⟨⟨⟨g1,g2⟩,g3⟩,g4⟩,g5⟩,g6⟩,g7⟩,g8⟩:=hg;have KX:K.In s.heap:=e0.mod.kin.keeps λb o e=>(e0.bs b o e).1;have lim:s.heap.NoLimit:=e0.mod.nolimit.keeps λb o e=>(e0.bs b o e).1
 have hkind:∀y∈List.zip (["_law_found","_law_due"]:List Str) us,(aE st).names.lookup y.1=some .local\/((aE st).names.lookup y.1=some .cell/\((cellsFrom (s.heap.objs.size+1) (aE st).names []).lookup y.1).isSome=true):=λ⟨n,v⟩ hy=>by
  rcases S.par n (List.of_mem_zip hy).1 with q|q
  ·exact .inl q
  ·exact .inr ⟨q,W.cellsFrom_some _ _ _ (.inl q)⟩
 refine codeAny_call_function hr.depth (KX _ _ lk) rfl S.co S.gen rfl (W.codeRec_of KX hcd) (hbd _ _ _ _ ?_);refine wpAny_newFunctionEnv_cells S.kind hkind λenv he s1 x1=>?_;subst he;refine⟨lim.keeps x1.toInCall.keep,codeAny_func ?_⟩;have e0':Env0 P w K mg base {A with handled:=none} outer s H:=⟨e0.frames,e0.mod,e0.bs,e0.bsz,e0.funs,e0.frf,e0.hok,e0.bare⟩;have I0:=nV (CX:=hR P w) (qual:=qual) (f:=fa) (cd:=cdv) (E:=λ_ _ _=>False) S rfl e0' rfl r x1
 have I:Inv (VU P w K mg base wM qual (aE st) fa cdv A outer s H (λ_ _ _=>False)) [] (start wM [.int 0,.int 0]) H s1:=
  ⟨⟨I0.ok.mod,I0.ok.kind,I0.ok.glob,I0.ok.blt,I0.ok.above,I0.ok.inj,I0.ok.has,I0.ok.cab,(λz=>by cases z),Around.frames_deeper e0.frames,I0.ok.stk,I0.ok.exf,I0.ok.bs,I0.ok.bsz,I0.ok.noex,I0.ok.exfs,I0.ok.funs,I0.ok.frf⟩,I0.os,I0.bare,I0.base,I0.loc,I0.cell,I0.free,I0.freeC,I0.pin,I0.hok,I0.len⟩
 have dd:(("_law_found":Str)==("__debug__":Str))=false/\(("_law_found":Str)==("__classdict__":Str))=false/\(("_law_due":Str)==("__debug__":Str))=false/\(("_law_due":Str)==("__classdict__":Str))=false:=by decide+kernel
 have glo:∀{z:Str},gG (aE st) z=true->Gl (VU P w K mg base wM qual (aE st) fa cdv A outer s H (λ_ _ _=>False)) z:=λ{z} h=>by
  unfold gG at h;split at h
  ·assumption
  ·cases h
 have body:=wL (X:=VU P w K mg base wM qual (aE st) fa cdv A outer s H (λ_ _ _=>False)) (b1:=b1) (b2:=b2) (b3:=b3) (b5:=b5) (k1:=k1) (k2:=k2) (a1:=a1) (a2:=a2) (a3:=a3) (a4:=a4) (a5:=a5) (a6:=a6) (a7:=a7) (c1:=c1) (c2:=c2) (c3:=c3) (c4:=c4) (d1:=d1) (d2:=d2) (d3:=d3) (d4:=d4) (d5:=d5) (d6:=d6) (d7:=d7) (d8:=d8) (d9:=d9) (d10:=d10) (e1:=e1) (e2:=e2) (e3:=e3) (e4:=e4) (e5:=e5) (f1:=f1) (f2:=f2) (f3:=f3) (f4:=f4) (f5:=f5) (f6:=f6) (f7:=f7) (f8:=f8) (f9:=f9)
  (λz hz=>by
    rcases hz with rfl|⟨t,rfl⟩
    ·exact glo g1
    ·cases t<;>apply glo<;>assumption) blt ty (λp=>pv 0 rfl (iJ g7) dd.1 dd.2.1) (λp=>pv 1 rfl (iJ g8) dd.2.2.1 dd.2.2.2)
 rw[hb];refine wpAny_mono (body [] s1 (start wM [.int 0,.int 0]) H {nx:=λ_ _=>False,rt:=Q} I ⟨rfl,rfl,q⟩) (λfl s' hs=>?_) λe s' hs=>hs;cases fl with
 |ret u=>
  obtain⟨v,σ',H',J,rv,q'⟩:=hs;exact⟨v,H',J.os,J.bare,J.base,J.hok,rv,q'⟩
 |next=>obtain⟨_,_,_,z⟩:=hs;exact False.elim z
 |brk=>obtain⟨_,_,_,z⟩:=hs;exact False.elim z
 |cont=>obtain⟨_,_,_,z⟩:=hs;exact False.elim z
end
def SG(N:List Str)(sc:Scope)(G:Gs)(l:Es)(ks:List Str)(keys:List (Option Expr))(vals:List Expr):Prop:=l.len=vals.length/\gU ks keys=true/\∀{X:Cx}{ca:Nat->Addr}{cl:Cl},XOk X N sc->GOk X G ca cl->∀pos:Pos,NH X pos keys vals (tZ X.K G cl ks l)
section
variable {N:List Str}{sc:Scope}{G:Gs}
theorem JM:SG N sc G .nil [] [] []:=⟨rfl,rfl,λ_ _ _=>DV⟩
theorem kP{c:E}{l:Es}{x:Str}{ks:List Str}{j:Nat}{p:Pos}{v:Expr}{keys:List (Option Expr)}{vals:List Expr}(hc:SE N sc G c v)(hl:SG N sc G l ks keys vals):SG N sc G (.cons c l) (x::ks) (some (.Constant (.str x) j p)::keys) (v::vals):=
 ⟨congrArg (·+1) hl.1,by show(x==x&&gU ks keys)=true;rw[hl.2.1];simp,λxo go pos=>zL fY (hc xo go).1 (hl.2.2 xo go pos)⟩
theorem FZ{l:Es}{x:Str}{ks:List Str}{keys:List (Option Expr)}{vals:List Expr}{pos:Pos}(h:SG N sc G l (x::ks) keys vals):SE N sc G (.disp (x::ks) l) (.Dict keys vals pos):=λ{X ca cl} xo go=>by
 have p:PE X (.Dict keys vals pos) (TDE X.K (ev G cl (.disp (x::ks) l))):=zS (ks:=x::ks) (Nat.succ_pos _) h.2.1 h.1 (h.2.2 xo go pos) _ λr h=>by rw[ev]
 exact⟨p,iZ p λ_=>rfl⟩
theorem FY{o:E}{x:Expr}{c:Str}{ap cp kp:Pos}{j:Nat}(hb:∀env:Env,attributeBase x "split" env (eval x env)=eval x env)(h2:(ap.endLine==cp.line)=true)(h_o:SE N sc G o x):SE N sc G (.spl o c) (.Call (.Attribute x "split" ap) [.Constant (.str c) j kp] [] cp):=λ{X ca cl} xo go=>by
 have p:PE X (.Call (.Attribute x "split" ap) [.Constant (.str c) j kp] [] cp) (TDE X.K (ev G cl (.spl o c))):=(qQ PySem.F.plainAttrs_str PySem.F.slot_str_split PySem.F.type_str_split (qS c) (h_o xo go).1 (bH fY cV rfl) (hb _) rfl h2 rfl rfl).wk λs H Q q=>sG (λd h ne=>by cases d<;>first |exact⟨_,rfl⟩|exact absurd rfl ne) (λr h=>by rw[ev]) s H Q q;exact⟨p,iZ p λ_=>rfl⟩
end
theorem DX{X:Cx}{tg e:Expr}{te:TE}(hp:PE X e te):PI X tg e (λσ H R=>te σ H λv H'=>∃y,v=.str y/\R (NJ y) H'):=by
 intro pins s σ H R I q;refine bS (hp pins s σ H _ I q) λu s1 ⟨v,H1,I1,rv,y,ev,q1⟩=>?_;subst ev;obtain⟨tt,rfl⟩:=rv
 have fin:∀(T:String)(o:Obj),o.cls=.type T->o.data=.fields #[.str y tt,.int 0 0]->o.isFreed=false->["enumerate","zip","dict_itemiterator","dict_reverseitemiterator","odict_iterator","itertools.zip_longest","itertools.pairwise"].contains T=false->
  (∀A':Around,A'.handled=none->Walks X.prog X.w A' s1.heap.objs.size [s1.heap.objs.size] [s1.heap.objs.size] y.cps.size (SignAt y) (λi h=>h.IsStrIter s1.heap.objs.size T y tt i))->(∀(A:Around)(i:Nat)(s:Shared)(Q:Value->Shared->Prop)(E:Value->Shared->Prop),s.heap.IsStrIter s1.heap.objs.size T y tt i->Q (.ref s1.heap.objs.size) s->wpAny (model X.prog X.w) A (pyIter (.ref s1.heap.objs.size)) Q E s)->
  CV X pins σ tg R (.ref s1.heap.objs.size) {s1 with heap:=s1.heap.push o}:=λT o o1 o2 of hn W hs=>by
  refine⟨s1.heap.objs.size,[s1.heap.objs.size],_,_,H1,rfl,I1.kept (t':=s1.toks) λb o e=>Zf _ e,qB hn W hs,⟨Nat.zero_le _,o,Heap.get?_push_size _ of,o1,o2⟩,λb hb=>?_,q1⟩;have e:b=s1.heap.objs.size:=by simpa using hb
  subst e;exact I1.fpOk (Zn _) (I1.hok.fresh (Zn _))
 cases hal:y.cps.all (·<128)
 ·exact wpAny_pyIter_wide hal (fin "str_iterator" _ rfl rfl rfl (by decide) (λA' hA=>Walks.strWide hA _ y tt) λA i s Q E st h=>wpAny_pyIter_striter_wide st h)
 ·exact wpAny_pyIter_ascii hal (fin "str_ascii_iterator" _ rfl rfl rfl (by decide) (λA' hA=>Walks.strAscii hA _ y tt) λA i s Q E st h=>wpAny_pyIter_striter_ascii st h)
theorem AO{K:W.Frag}{Wx:Ws}{t:Tg}{body:Ev->Hh->Rs Fl}{Z:Ends}{m0:List Addr}{H0:Hp}{h0:Hh}{y:Str}{r0:Ev}{s0:Sg}
 (w:Wd K m0 h0 H0)(st:RSt K m0 H0 r0 s0)(e:OutS K Wx m0 H0 Z (dJ t body (y.cps.toList.map λc=>D.str ⟨#[c]⟩) r0 h0)):
 ∃Wv:Nat->Nat->Sg->Hp->Prop,(∃m,Wv 0 m s0 H0)/\∀i m s H,Wv i m s H->
  ((NJ y).stop i H/\Z.nx s H)\/((NJ y).go i H/\∃P:Sg->Hp->Prop,(∀s' H',P s' H'->∃m',m'<m/\Wv (i+1) m' s' H')/\∀x H',(NJ y).yld i H x H'->yF K t x s H' λs2 H2=>TDS K Wx body {Z with nx:=P,ct:=P,bk:=Z.nx} s2 H2):=by
 refine⟨λi k s H=>k=y.cps.size-i/\∃m r h,Gr K m0 H0 m H/\Wd K m h H/\RSt K m H r s/\OutS K Wx m H Z (dJ t body ((y.cps.toList.drop i).map λc=>D.str ⟨#[c]⟩) r h),⟨_,rfl,m0,r0,h0,.refl,w,st,e⟩,?_⟩;rintro i k s H ⟨hk,m,r,h,g,w1,st1,e1⟩
 by_cases hi:i<y.cps.size
 ·have hl:i<y.cps.toList.length:=by simpa using hi
  rw[List.drop_eq_getElem_cons hl,Zh] at e1;refine .inr ⟨hi,λs' H'=>∃k',k'<k/\k'=y.cps.size-(i+1)/\∃m r h,Gr K m0 H0 m H'/\Wd K m h H'/\RSt K m H' r s'/\OutS K Wx m H' Z (dJ t body ((y.cps.toList.drop (i+1)).map λc=>D.str ⟨#[c]⟩) r h),λs' H' z=>z,λx H' ⟨q1,c,q2,q3⟩=>?_⟩;subst q1;subst q3
  have ec:y.cps.toList[i]=c:=by
   have z:y.cps.toList[i]? =some c:=by rw[Array.getElem?_toList];exact q2
   rw[Zd hl] at z;exact Zg z
  rw[ec] at e1;exact GY w1 st1 (.str _) e1 λm2 H2 r2 h2 s2 g2 w2 st2 e2=>⟨_,by omega,rfl,m2,r2,h2,g.trans g2,w2,st2,e2⟩
 ·rw[List.drop_eq_nil_of_le (by simpa using hi)] at e1;exact .inl ⟨Nat.le_of_not_lt hi,e1 m H .refl w1 s st1⟩
section
variable {N:List Str}{sc:Scope}{G:Gs}
theorem vQ{t:Tg}{a:E}{b:Ss}{tg it:Expr}{x:List Stmt}{pos:Pos}(h1:rR N sc t tg=true)(hs':∀env z,foldedSetIterable it env z=pure z)(h_a:SE N sc G a it)(h_b:iF N sc G b x):SS N sc G (.forr t (.tx a) b) (.For tg it x [] pos):=λ{X ca cl W Wx rz} xo go hfn xx hz=>by
 have hp:=(h_a xo go).1;refine(sM xo.po xo.calm (DX hp) (RL xo hfn h1) (h_b (W:=W) xo go hfn xx hz) (hs' X.env)).wk λZ s H q=>?_;refine TDS.one (λr h=>by rw[xs]) q λm2 r h2 H2 dx y w2 st2 rx o=>?_;cases rx<;>first |exact o.elim|skip
 exact⟨_,rfl,AO w2 st2 o⟩
end
def WS(X:Cx)(ca:Nat->Addr)(e:Expr)(f:Ev->Hh->Rs D):Prop:=∀(pins:List (Addr×Obj))(s:Shared)(σ:Sg)(H:Hp)(Q:VK)(Z:Nat->Hp->Prop),Inv X pins σ H s->(∃m r h,Wd X.K m h H/\RSt X.K m H r σ/\(match f r h with
    |.ok d h'=>∀m' v H',Gr X.K m H m' H'->Wd X.K m' h' H'->RD X.K m' H' d v->Q v H'
    |.exc c _ h'=>∀m' H',Gr X.K m H m' H'->Wd X.K m' h' H'->Z c H'
    |.bad=>False))->
 wpAny (model X.prog X.w) X.A (eval e X.env) (EP X pins σ Q) (λev s'=>∃H1 s1,Inv X pins σ H1 s1/\hR X.prog X.w X.stack H1 s1 (λ_ oa H'=>∃c,oa=some (ca c)/\Z c H') ev s') s
section
variable {X:Cx}{N:List Str}{sc:Scope}{G:Gs}{ca:Nat->Addr}{cl:Cl}{Wx:Ws}{rz:Bool}
theorem zP(xo:XOk X N sc)(go:GOk X G ca cl)(hne:∀e s,X.xe e s->False){f:Nat}{l:Es}{y:Str}{np pos:Pos}{e:Expr}{es:List Expr}(h1:G.fns[f]? =some y)(h2:gG sc y=true)(h3:dP y=true)(h_l:yB N sc G l (e::es)):
 WS X ca (.Call (.Name y np) (e::es) [] pos) (dM G cl f l):=by
 obtain⟨d1,d2,d3⟩:=cY h3;obtain⟨fa,fd,ps,k,F,hr,hm,hk,hb,hlen⟩:=go.fn f y h1;have hns:=h_l.1;rw[List.all_cons,Bool.and_eq_true] at hns;intro pins s σ H Q Z I ⟨m,r,h,w,st,o⟩;unfold dM at o;cases he:cM G cl l r h with
 |bad=>simp only[he] at o;exact o.elim
 |exc c rr hh=>simp only[he] at o;exact o.elim
 |ok ds hh=>
  simp only[he] at o;refine wpAny_Call_Name_kw (gB I (cJ xo h2) hm ?_ d1);refine W.callWith_K (h₀:=X.base) I.ok.mod.kin hk (wpAny_mono (h_l.2 xo go pos pins s σ H (λvs H1=>∃m1,Gr X.K m H m1 H1/\Wd X.K m1 hh H1/\RDs X.K m1 H1 ds vs) I ⟨m,r,h,ds,hh,w,st,he,λm' vs H' g w' rd=>⟨m',g,w',rd⟩⟩) (λus s1 ⟨vs,H1,I1,r1,m1,g1,w1,rd1⟩=>⟨I1.kIn,?_⟩) λe s z=>(hne e s z).elim) (aS es hns.1) (fE pos hns.2);have o':(match cl f ds hh with|.ok d h'=>∀m' v H',Gr X.K m H m' H'->Wd X.K m' h' H'->RD X.K m' H' d v->Q v H'|.exc c _ h'=>∀m' H',Gr X.K m H m' H'->Wd X.K m' h' H'->Z c H'|.bad=>False):=o;have hne':cl f ds hh≠ .bad:=λz=>by rw[z] at o';exact o'
  have hsp:DH X.K ca (cl f) ps.length vs H1 Q (λv oa H'=>∃c,oa=some (ca c)/\Z c H'):=by
   refine⟨by rw[<- rd1.length];exact hlen _ _ hne',m1,hh,ds,w1,rd1,?_⟩;cases hc:cl f ds hh with
   |ok d h'=>
    rw[hc] at o';exact λm' v H' g=>o' m' v H' (g1.trans g)
   |exc c rr h'=>
    rw[hc] at o';exact λm' H' v g w'=>⟨c,rfl,o' m' H' (g1.trans g) w'⟩
   |bad=>exact hne' hc
  have hl:us.length=ps.length:=by rw[<- r1.length];exact F.len _ _ _ _ hsp
  have hbd:BindsTo s1 fd ⟨us,[]⟩ (ps.zip us):=by
   have:=hb s1 us I1.kIn (by simpa using hl);simpa using this
  refine wpAny_call (codeAny_mono (F.run X.A X.stack s1 H1 ⟨us,[]⟩ us vs Q _ hr I1.env0 hbd r1 hsp) λres s' hq=>?_);cases res with
  |error ev=>exact⟨H1,s1,I1,hq⟩
  |ok fl=>
   cases fl with
   |ret u=>exact I1.after hq
   |next=>exact False.elim hq
   |brk=>exact False.elim hq
   |cont=>exact False.elim hq
end
theorem tP{elt tg iter:Expr}{scope:Scope}{pos:Pos}{it acc:Value}{env:Env}{P:Program}{w:World}{A:Around}{R:Result->Shared->Prop}{s:Shared}(J:Nat->Shared->Prop)
 (turn:∀k s,J k s->wpAny (model P w) A (pyNext it) (λr s1=>match r with
   |none=>R (.ok .next) s1
   |some v=>wpAny (model P w) A (letOwnedTupleGo tg it v) (λ_ s2=>wpAny (model P w) A (assign tg env v) (λ_ s3=>
     wpAny (model P w) A (eval elt env) (λx s5=>wpAny (model P w) A (call (.builtin "list.append") [acc,x]) (λ_ s6=>∃k',k'<k/\J k' s6) oW s5) (notedBy (model P w) A env λx s'=>R (.error x) s') s3) oW s2) oW s1) oW s)
 (k:Nat)(h:J k s):codeAny (model P w) A (.compLoop (.ListComp elt [⟨tg,iter,[],0⟩] scope pos) 0 it acc env) R s:=by
 refine codeAny_loop (I:=J) rfl (turn:=λk s hk=>?_) k h;show wpAny _ A (Sem.onRaise (compTurn (.ListComp elt [⟨tg,iter,[],0⟩] scope pos) 0 it acc env) (λx=>do noteFrame x env;theTreesLotGoes x)) _ _ s;refine wpAny_noted ?_;rw[compTurn_list];have no:∀{E:Value->Shared->Prop}(e:Value)(s:Shared),oW e s->E e s:=λ_ _ f=>f.elim;refine Za (wpAny_standAt (Za (wpAny_mono (turn k s hk) (λr s1 q1=>?_) no)));cases r with
 |none=>exact Zb q1
 |some v=>
  refine Za (wpAny_mono q1 (λ_ s2 q2=>Za (wpAny_mono q2 (λ_ s3 q3=>Za (Zb ?_)) no)) no);exact Za (Za (wpAny_mono q3 (λx s5 q5=>Za (wpAny_mono q5 (λ_ s6 q6=>Zb (Zb ⟨rfl,q6⟩)) no)) λ_ _ z=>z))
def QS(K:W.Frag)(t:Tg)(f:Ev->Hh->Rs D)(n0:Nat)(O:Rs Unit)(J:It)(Lp:Nat->Nat->Ev->Hh->Prop)(i k:Nat)(r:Ev)(h:Hh)(m:List Addr)(H:Hp):Prop:=
 (J.stop i H/\O=.ok () h)\/(J.go i H/\∃d,(∀x H2,J.yld i H x H2->Gr K m H m H2/\Wd K m h H2/\RD K m H2 d x)/\∃r1,dO t d r=some r1/\
   ((∃y h2 z h3,f r1 h=.ok y h2/\eM (.ref n0) y h2=.ok z h3/\∃k',k'<k/\Lp (i+1) k' r1 h3)\/∃c r2 h2,f r1 h=.exc c r2 h2/\O=.exc c r2 h2))
abbrev mZ(K:W.Frag)(t:Tg)(f:Ev->Hh->Rs D)(n0:Nat)(O:Rs Unit)(J:It)(m2:List Addr)(H2:Hp)(r0:Ev)(h0:Hh):Prop:=∃(Lp:Nat->Nat->Ev->Hh->Prop)(k0:Nat),Lp 0 k0 r0 h0/\∀i k r h m H,Gr K m2 H2 m H->Wd K m h H->Lp i k r h->QS K t f n0 O J Lp i k r h m H
section
variable {K:W.Frag}{t:Tg}{fe:Ev->Hh->Rs D}{n0:Nat}{O:Rs Unit}{m2:List Addr}{H2:Hp}{r0:Ev}{h0:Hh}
theorem yQ{d:D}{r1:Ev}{h:Hh}{n:Nat}{L:Ev->Hh->Rs Unit}(e:((fe r1 h).bind λy h=>(eM (.ref n0) y h).bind λ_ h=>L r1 h)=O)(hO:O≠ .bad):
 (∃y h2 z h3,fe r1 h=.ok y h2/\eM (.ref n0) y h2=.ok z h3/\L r1 h3=O)\/∃c r2 h2,fe r1 h=.exc c r2 h2/\O=.exc c r2 h2:=by
 cases ef:fe r1 h with
 |bad=>rw[ef] at e;exact absurd e.symm hO
 |exc c r2 h2=>rw[ef] at e;exact .inr ⟨c,r2,h2,rfl,e.symm⟩
 |ok y h2=>
  rw[ef] at e;have e':((eM (.ref n0) y h2).bind λ_ h=>L r1 h)=O:=e;cases ea:eM (.ref n0) y h2 with
  |bad=>rw[ea] at e';exact absurd e'.symm hO
  |exc c r2 h2=>
   exfalso;simp only[eM] at ea;split at ea
   ·split at ea<;>cases ea
   ·cases ea
  |ok z h3=>rw[ea] at e';exact .inl ⟨y,h2,z,h3,rfl,ea,e'⟩
theorem sA{a:Addr}{n k0:Nat}(ha:m2[n]? =some a)(e:cO t iH fe n0 n k0 0 r0 h0=O)(hO:O≠ .bad):mZ K t fe n0 O (SK K a) m2 H2 r0 h0:=by
 refine⟨λi k r h=>cO t iH fe n0 n k i r h=O,k0,e,λi k r h m H g w e=>?_⟩;cases k with
 |zero=>exact absurd e.symm hO
 |succ k=>
  simp only[cO] at e;split at e
  ·exact absurd e.symm hO
  ·rename_i l el;obtain⟨a',vs,ha',hq,q⟩:=w.lst el;rw[g.pre _ _ ha] at ha';cases ha';split at e
   ·rename_i en;exact .inl ⟨⟨vs,hq,by rw[<- q.length];exact List.getElem?_eq_none_iff.mp en⟩,e.symm⟩
   ·rename_i d ed;obtain⟨v,hv,rv⟩:=q.get ed;split at e
    ·exact absurd e.symm hO
    ·rename_i r1 er;have e':((fe r1 h).bind λy h=>(eM (.ref n0) y h).bind λ_ h=>cO t iH fe n0 n k (i+1) r1 h)=O:=e;refine .inr ⟨⟨vs,v,hq,hv⟩,d,λx H' y=>?_,r1,er,?_⟩
     ·obtain⟨eH,y⟩:=y;have:=y vs hq;rw[hv] at this;cases this;subst eH;exact⟨.refl,w,rv⟩
     ·rcases yQ (d:=d) (n:=n) (L:=λr1 h=>cO t iH fe n0 n k (i+1) r1 h) e' hO with ⟨y,h2,z,h3,e1,e2,e3⟩|z
      ·exact .inl ⟨y,h2,z,h3,e1,e2,k,Nat.lt_succ_self _,e3⟩
      ·exact .inr z
theorem rZ{a:Addr}{l:List D}{vs:List V}(hq:SqT K H2 a vs)(q:RDs K m2 H2 l vs)(e:cN t iH fe n0 l r0 h0=O)(hO:O≠ .bad):mZ K t fe n0 O (SJ K a) m2 H2 r0 h0:=by
 refine⟨λi k r h=>k=l.length-i/\cN t iH fe n0 (l.drop i) r h=O,l.length,⟨by simp,e⟩,λi k r h m H g w ⟨hk,e⟩=>?_⟩
 by_cases hi:i<l.length
 ·have ed:l[i]? =some l[i]:=Zd hi;obtain⟨v,hv,rv⟩:=q.get ed;rw[List.drop_eq_getElem_cons hi] at e;simp only[cN] at e;split at e
  ·exact absurd e.symm hO
  ·rename_i r1 er;have e':((fe r1 h).bind λy h=>(eM (.ref n0) y h).bind λ_ h=>cN t iH fe n0 (l.drop (i+1)) r1 h)=O:=e;refine .inr ⟨⟨vs,v,g.tup _ _ hq,hv⟩,_,λx H' y=>?_,r1,er,?_⟩
   ·obtain⟨eH,y⟩:=y;have:=y vs (g.tup _ _ hq);rw[hv] at this;cases this;subst eH;exact⟨.refl,w,rv.mono g⟩
   ·rcases yQ (d:=l[i]) (n:=0) (L:=λr1 h=>cN t iH fe n0 (l.drop (i+1)) r1 h) e' hO with ⟨y,h2,z,h3,e1,e2,e3⟩|z
    ·exact .inl ⟨y,h2,z,h3,e1,e2,_,by omega,rfl,e3⟩
    ·exact .inr z
 ·rw[List.drop_eq_nil_of_le (by omega)] at e;exact .inl ⟨⟨vs,g.tup _ _ hq,by rw[<- q.length];omega⟩,e.symm⟩
theorem rY{a b:Addr}{n:Nat}{l:List D}{vs:List V}(ha:m2[n]? =some a)(hq:SqT K H2 b vs)(q:RDs K m2 H2 l vs)(e:dR t iH fe n0 n 0 l r0 h0=O)(hO:O≠ .bad):mZ K t fe n0 O (WW K a b) m2 H2 r0 h0:=by
 refine⟨λi k r h=>k=l.length-i/\dR t iH fe n0 n i (l.drop i) r h=O,l.length,⟨by simp,e⟩,λi k r h m H g w ⟨hk,e⟩=>?_⟩
 by_cases hi:i<l.length
 ·have ed:l[i]? =some l[i]:=Zd hi;obtain⟨v,hv,rv⟩:=q.get ed;rw[List.drop_eq_getElem_cons hi] at e;simp only[dR] at e;split at e
  ·exact absurd e.symm hO
  ·rename_i ws el;obtain⟨a',us,ha',hq',q'⟩:=w.lst el;rw[g.pre _ _ ha] at ha';cases ha';split at e
   ·exact absurd e.symm hO
   ·rename_i d ed';obtain⟨u,hu,ru⟩:=q'.get ed';split at e
    ·exact absurd e.symm hO
    ·rename_i r1 er;have e':((fe r1 h).bind λy h=>(eM (.ref n0) y h).bind λ_ h=>dR t iH fe n0 n (i+1) (l.drop (i+1)) r1 h)=O:=e;refine .inr ⟨⟨us,vs,u,v,hq',g.tup _ _ hq,hu,hv⟩,_,λx H' y=>?_,r1,er,?_⟩
     ·obtain⟨p,x',y',hp,rfl,rfl,y1,y2⟩:=y;have z1:=y1 us hq';rw[hu] at z1;cases z1;have z2:=y2 vs (g.tup _ _ hq);rw[hv] at z2;cases z2;have gt:=Gr.tupNew (K:=K) (m:=m) (o:=.tup [u,v]) hp;exact⟨gt,w.keepNew hp,.tup (.of bB) (.cons (ru.mono gt) (.cons ((rv.mono g).mono gt) .nil))⟩
     ·rcases yQ (d:=d) (n:=n) (L:=λr1 h=>dR t iH fe n0 n (i+1) (l.drop (i+1)) r1 h) e' hO with ⟨y,h2,z,h3,e1,e2,e3⟩|z
      ·exact .inl ⟨y,h2,z,h3,e1,e2,_,by omega,rfl,e3⟩
      ·exact .inr z
 ·rw[List.drop_eq_nil_of_le (by omega)] at e;simp only[dR] at e;split at e
  ·rename_i ws el;obtain⟨a',us,ha',hq',q'⟩:=w.lst el;rw[g.pre _ _ ha] at ha';cases ha';split at e
   ·rename_i hl;exact .inl ⟨⟨us,hq',by rw[<- q'.length];exact hl⟩,e.symm⟩
   ·exact absurd e.symm hO
  ·exact absurd e.symm hO
end
section
variable {X:Cx}{G:Gs}{ca:Nat->Addr}{cl:Cl}{Wx:Ws}{rz:Bool}{N':List Str}{scope:Scope}{cap:List Nat}{tg elt iter:Expr}{pos:Pos}{t:Tg}{fe:Ev->Hh->Rs D}
theorem tQ{pins:List (Addr×Obj)}{σ:Sg}{H2:Hp}{s2:Shared}{J:It}{fp:List Addr}{it:Addr}{tn:Nat->Heap->Prop}{m2:List Addr}{h2:Hh}{O:Rs Unit}{r:Ev}(S:ScOk scope X.env.scope)(hcap:cap.length<=N'.length)
 (hN:(N'.drop (N'.length-cap.length)).map some=cap.map (λ(i:Nat)=>X.N[i]?))(hfr:∀x∈N'.drop (N'.length-cap.length),scope.names.lookup x=some .free)(calm:X.calm=true)(xx:XX X ca Wx rz)(hfn:∀x,X.fn x=true)
 (blk:∀(C:Addr)(s3:Shared)(H3:Hp)(fp:List Addr),PG (dF X N' scope C s3 H3 fp) tg (yF X.K t)/\WS (dF X N' scope C s3 H3 fp) ca elt fe)
 (I:Inv X pins σ H2 s2)(T:Turn X.prog X.w X.K tg J fp it tn)(st:tn 0 s2.heap)(fok:∀b∈fp,iG X pins H2 b)(w2:Wd X.K m2 h2 H2)(rst:RSt X.K m2 H2 r σ)
 (Lp:Nat->Nat->Ev->Hh->Prop)(k0:Nat)(L0:Lp 0 k0 (aR N' cap r) (h2++ [.lst []]))(hst:∀i k r h m H,Gr X.K m2 H2 m H->Wd X.K m h H->Lp i k r h->QS X.K t fe h2.length O J Lp i k r h m H)
 {Rr:Value->Addr->Result->Shared->Prop}
 (c:∀(acc C:Addr)(s1:Shared)(H':Hp)(m':List Addr)(h':Hh),O=.ok () h'->Inv X pins σ H' s1->(∃mm,s1.heap.Ns C mm)->H' C=none->C≠X.env.locals->X.s₀.heap.objs.size<=C->(∀x a,X.env.cells.lookup x=some a->a≠C)->(∀p∈X.pn++pins,p.1≠C)->Gr X.K m2 H2 m' H'->Wd X.K m' h' H'->RD X.K m' H' (.ref h2.length) (.ref acc)->Rr (.ref acc) C (.ok .next) s1)
 (cx:∀(acc C ea:Addr)(s1:Shared)(H':Hp)(m':List Addr)(cc:Nat)(r2:Ev)(h':Hh),O=.exc cc r2 h'->Inv X pins σ H' s1->(∃B,FlyX X pins H' ea (ca cc) s1 B)->(∀o dx,s1.heap.get? ea=some o->o.dict=some dx->dx≠C)->(∃mm,s1.heap.Ns C mm)->H' C=none->C≠X.env.locals->X.s₀.heap.objs.size<=C->(∀x a,X.env.cells.lookup x=some a->a≠C)->(∀p∈X.pn++pins,p.1≠C)->Gr X.K m2 H2 m' H'->Wd X.K m' h' H'->Rr (.ref acc) C (.error (.ref ea)) s1):
 wpAny (model X.prog X.w) X.A (newList []) (λacc s3=>wpAny (model X.prog X.w) X.A (newFunctionEnv scope X.env.globals (mQ scope X.env) [] X.env.qual none .none (some X.env)) (λcenv s4=>
  codeAny (model X.prog X.w) X.A (.compStart (.ListComp elt [⟨tg,iter,[],0⟩] scope pos) 0 (.ref it) acc {cenv with scope:=relabel scope X.env}) (Rr acc cenv.locals) s4) X.xe s3) X.xe s2:=by
 have fob:∀b∈fp,b<s2.heap.objs.size:=λb hb=>let⟨o,e,_⟩:=T.obj 0 _ st b hb;Heap.lt_size e
 have ffb:∀b∈fp,∀o,X.base.get? b≠some o:=λb hb o e=>by
  rcases(fok b hb).2.2.2.1 with z|z
  ·exact I.ok.noex b o e z
  ·exact absurd (Nat.lt_of_lt_of_le (Heap.lt_size (I.ok.bs b o e).1) z) (Nat.lt_irrefl _)
 have hacc0:H2 s2.heap.objs.size=none:=I.hok.fresh (Zn _);refine wpAny_newObj_type (fA (λh1 hns keep cok=>?_));dsimp only at hns keep cok⊢;obtain⟨w3,g3⟩:=w2.lstNew (ds:= []) (vs:= []) hacc0 .nil
 have I3:Inv X pins σ (bV H2 s2.heap.objs.size (.lst [])) {s2 with heap:=s2.heap.push {cls:=.type "list",dict:=none,data:=.seq ([]:List Value).toArray}}:=
  I.laid (t':=s2.toks) (λb u e=>Zf _ e) (Zn _) ⟨Nat.zero_le _,[],0,.nil,Heap.get?_push_size _ rfl⟩
 have fok3:∀b∈fp,iG X pins (bV H2 s2.heap.objs.size (.lst [])) b:=λb hb=>⟨by rw[aM (Nat.ne_of_lt (fob b hb))];exact(fok b hb).1,(fok b hb).2⟩;have st3:tn 0 h1:=T.keep _ _ _ st λb hb o e=>keep b o (Zf _ e);have B:=CI (env:=X.env) S (λx c e=>let⟨_,q⟩:=I3.cell x c e;q.lt) cok
 have I4:=oB (N':=N') (scope:=scope) (fp:=fp) (cap:=cap) I3 S hcap hN hfr (h1:=h1) (tk:=s2.toks) hns keep B fok3 (λb hb=>by
  show b<(s2.heap.push _).objs.size;rw[Heap.size_push];exact Nat.lt_succ_of_lt (fob b hb)) ffb
 have hsz:(s2.heap.push {cls:=.type "list",dict:=none,data:=.seq ([]:List Value).toArray}).objs.size=s2.heap.objs.size+1:=Heap.size_push ..;generalize hs3:({s2 with heap:=s2.heap.push {cls:=.type "list",dict:=none,data:=.seq ([]:List Value).toArray}}:Shared)=s3 at I3 I4;have eh3:s2.heap.push {cls:=.type "list",dict:=none,data:=.seq ([]:List Value).toArray}=s3.heap:=by rw[<- hs3]
 rw[eh3] at hns keep cok B hsz⊢;generalize hH3:bV H2 s2.heap.objs.size (.lst [])=H3 at I3 I4 w3 g3 fok3;obtain⟨bG,bE⟩:=blk s3.heap.objs.size s3 H3 fp;have ha:(m2++ [s2.heap.objs.size])[h2.length]? =some s2.heap.objs.size:=by rw[<- w2.len];simp
 have stkN:∀b,b≠X.env.locals->b ∉ X.fs->b ∉ fC X.stack:=λb h1 h2 hb=>(List.mem_cons.mp (I3.stkSub b hb)).elim h1 h2
 have fokB:∀{H:Hp},(∀b∈fp,H b=none)->∀b∈fp,iG (dF X N' scope s3.heap.objs.size s3 H3 fp) [] H b:=λhn b hb=>
  ⟨hn b hb,Nat.ne_of_lt (by rw[hsz];exact Nat.lt_succ_of_lt (fob b hb)),stkN b (fok b hb).2.1 (fok b hb).2.2.1,.inl hb,λx c e=>(B.inv x c e).elim (λa=>(fok b hb).2.2.2.2.1 x c (bW a)) (λa=>Nat.ne_of_gt (Nat.lt_trans (by rw[hsz];exact Nat.lt_succ_of_lt (fob b hb)) a.1)),λp hp=>absurd (show p∈([]:List (Addr×Obj)) from hp) (by simp)⟩
 have cL:s3.heap.objs.size≠X.env.locals:=Nat.ne_of_gt I3.lt
 have cC:∀x a,X.env.cells.lookup x=some a->a≠s3.heap.objs.size:=λx a e=>by
  obtain⟨v,q⟩:=I3.cell x a e;exact Nat.ne_of_lt q.lt
 have cP:∀p∈X.pn++pins,p.1≠s3.heap.objs.size:=λp hp=>Nat.ne_of_lt (Heap.lt_size (I3.pin p hp).1)
 have out:∀{pp:List (Addr×Obj)}{σ1:Sg}{H1:Hp}{s1:Shared},Inv (dF X N' scope s3.heap.objs.size s3 H3 fp) pp σ1 H1 s1->Inv X pins σ H1 s1:=λ{pp σ1 H1 s1} I1=>
  I3.call' (ch:=fp) I1.os I1.base I1.hok I1.bare λb hb=>⟨(fok3 b hb).2.2.2.1,(fok3 b hb).2.1,(fok3 b hb).2.2.2.2.1,(fok3 b hb).2.2.2.2.2⟩
 have loop:∀s4:Shared,s4={s3 with heap:=h1,toks:=s2.toks}->codeAny (model X.prog X.w) X.A (.compLoop (.ListComp elt [⟨tg,iter,[],0⟩] scope pos) 0 (.ref it) (.ref s2.heap.objs.size) (compEnvC scope (yE scope X.env s3.heap.objs.size) s3.heap.objs.size X.env)) (Rr (.ref s2.heap.objs.size) s3.heap.objs.size) s4:=by
  rintro s4 rfl
  refine tP (λk s=>∃i σ' H' m r h,Inv (dF X N' scope s3.heap.objs.size s3 H3 fp) [] σ' H' s/\tn i s.heap/\(∀b∈fp,H' b=none)/\Gr X.K (m2++ [s2.heap.objs.size]) H3 m H'/\Wd X.K m h H'/\RSt X.K m H' r σ'/\Lp i k r h) ?_ k0
   ⟨0,_,H3,_,_,_,I4,st3,λb hb=>(fok3 b hb).1,.refl,w3,mX (rst.mono g3),L0⟩
  rintro k s ⟨i,σ',H',m,r',h,I',st',fr',g',w',rst',L⟩;rcases hst i k r' h m H' (g3.trans g') w' L with ⟨stop,eO⟩|⟨go,d,hy,r1,er,rest⟩
  ·refine bS (T.done (dF X N' scope s3.heap.objs.size s3 H3 fp) rfl rfl rfl calm i [] s σ' H' oW I' (fokB fr') st' stop) λres s1 ⟨hr,I1⟩=>?_;subst hr;obtain⟨mm,hn1,_⟩:=id I1.loc;exact c _ _ _ H' m _ eO (out I1) ⟨mm,hn1⟩ I1.free cL I3.sz cC cP (g3.trans g') w' (.ref (g'.pre _ _ ha))
  ·refine bS (T.item (dF X N' scope s3.heap.objs.size s3 H3 fp) rfl rfl rfl calm i [] s σ' H' oW I' (fokB fr') st' go) λres s1 ⟨u,hr,q1⟩=>?_;subst hr;refine bS q1 λ_ s5 ⟨x,H5,I5,rx,yl,st5,fr5⟩=>?_;obtain⟨gy,wy,rd⟩:=hy x H5 yl;have I5':=I5.pinned (fokB fr5) (T.obj _ _ st5);refine bS (bG _ s5 σ' H5 x u (λσ2 H6=>H6=H5/\RSt X.K m H5 r1 σ2) I5' rx ⟨m,h,r',d,r1,wy,rst'.mono gy,rd,er,λs' z=>⟨rfl,z⟩⟩) λ_ s6 ⟨σ6,H6,I6,eH6,st6⟩=>?_;subst eH6;refine wpAny_mono (bE _ s6 σ6 H6 (λv H8=>∃y h8 z h9,fe r1 h=.ok y h8/\eM (.ref h2.length) y h8=.ok z h9/\(∃k',k'<k/\Lp (i+1) k' r1 h9)/\∃m8,Gr X.K m H6 m8 H8/\Wd X.K m8 h8 H8/\RD X.K m8 H8 y v) (λcc H8=>∃r2 h8,O=.exc cc r2 h8/\∃m8,Gr X.K m H6 m8 H8/\Wd X.K m8 h8 H8) I6 ⟨m,r1,h,wy,st6,?_⟩) (λyv s8 ⟨v,H8,I8,rv,y,h8,z,h9,ey,ea,rest',m8,g8,w8,rdy⟩=>?_) λev s' ⟨H1,s1,I1,q⟩=>?_
   ·rcases rest with ⟨y,h8,z,h9,ey,ea,rest'⟩|⟨cc,r2,h8,ey,eO⟩
    ·rw[ey];exact λm' v H' g w rv=>⟨y,h8,z,h9,rfl,ea,rest',m',g,w,rv⟩
    ·rw[ey];exact λm' H' g w=>⟨r2,h8,eO,m',g,w⟩
   ·have ha8:m8[h2.length]? =some s2.heap.objs.size:=g8.pre _ _ (gy.pre _ _ (g'.pre _ _ ha));simp only[eM] at ea;split at ea<;>first |(cases ea;done)|skip
    rename_i l el;split at ea<;>first |(cases ea;done)|skip
    rename_i hlen;cases ea;obtain⟨vs,hv,rvs⟩:∃vs,H8 s2.heap.objs.size=some (.lst vs)/\RDs X.K m8 H8 l vs:=w8.ob _ _ _ el ha8;obtain⟨_,w9,g9⟩:=w8.lstSet el ha8 (rvs.append (.cons rdy .nil));refine bS (jF (X:=dF X N' scope s3.heap.objs.size s3 H3 fp) _ s8 σ6 H8 (.ref s2.heap.objs.size) [v] (.ref s2.heap.objs.size) [yv] (λ_ H9=>H9=bV H8 s2.heap.objs.size (.lst (vs++ [v]))) I8 rfl (.cons rv .nil) ⟨_,vs,v,rfl,rfl,hv,by rw[<- rvs.length];exact Nat.lt_of_lt_of_le hlen (by decide),rfl⟩) λ_ s9 ⟨_,H9,I9,_,e9⟩=>?_;subst e9;obtain⟨k',hk,L7⟩:=rest';have pn:∀b∈fp,∀o,s5.heap.get? b=some o->s9.heap.get? b=some o/\bV H8 s2.heap.objs.size (.lst (vs++ [v])) b=none:=λb hb o e=>let z:=I9.pin (b,o) (List.mem_append_right _ (List.mem_append_right _ (gA hb e)));⟨z.1,z.2.1⟩;exact⟨k',hk,i+1,σ6,_,m8,r1,_,I9.unpinned,T.keep _ _ _ st5 λb hb o e=>(pn b hb o e).1,λb hb=>let⟨o,e,_⟩:=T.obj _ _ st5 b hb;(pn b hb o e).2,g'.trans (gy.trans (g8.trans g9)),w9,st6.mono (g8.trans g9),L7⟩
   ·have IX:=out I1;obtain⟨mm,hn1,_⟩:=id I1.loc
    obtain⟨dx0,hd0,hnw⟩:∃dx0,(∀ea,ev=.ref ea->∃o,s'.heap.get? ea=some o/\o.dict=some dx0)/\s1.heap.get? dx0=none:=by
     obtain⟨_,_,ea,_,rfl,_,_,_,f,_⟩:=id q;obtain⟨dx,mk,fl,_,nw⟩:=f.fl;obtain⟨oe,vs,e1,_,_,e2⟩:=fl.first;exact⟨dx,λ_ z=>by cases z;exact⟨oe,e1,e2⟩,nw⟩
    obtain⟨hun,hH'⟩:∃H9,Un (fC X.stack) [] H1 H9 s1.heap s'.heap:=by
     obtain⟨H9,_,_,_,_,_,_,un,_⟩:=id q;exact⟨H9,un⟩
    have hns':s'.heap.Ns s3.heap.objs.size mm:=by
     obtain⟨o,es,ep,e1,r⟩:=hn1
     exact⟨o,es,ep,hH'.keep _ _ e1 I1.free (λhm=>by
      rcases List.mem_cons.mp (I3.stkSub _ hm) with z|z
      ·exact cL z
      ·obtain⟨_,o',e',_⟩:=I3.ok.funs.mem z;exact absurd (Nat.lt_of_lt_of_le (Heap.lt_size e') I3.sz) (Nat.lt_irrefl _)) (by simp),r⟩
    have hC':∀H9,Un (fC X.stack) [] H1 H9 s1.heap s'.heap->H9 s3.heap.objs.size=none:=λH9 un=>by
     obtain⟨o,es,ep,e1,r⟩:=hn1;exact un.free _ _ e1 I1.free (by simp)
    obtain⟨H9,B9,ea,C9,rfl,ho9,hg9,un9,f9,cc,eC,r2,h8,eO,m8,g8,w8⟩:=id q;have eC':C9=ca cc:=Zg eC;subst eC';obtain⟨H9',ea',C9',e9,I9,⟨B,F⟩,e9e⟩:=CN (E:=λ_ oa H'=>oa=some (ca cc)/\H'=H9) IX xx.ex hfn ⟨H9,B9,ea,ca cc,rfl,ho9,hg9,un9,f9,rfl,rfl⟩;cases e9;obtain⟨e9a,rfl⟩:=e9e;have e9b:C9'=ca cc:=Zg e9a;subst e9b;obtain⟨dx,mk,fl,rw',nw⟩:=id F.fly.fl;have fl':=fl;rw[xx.stk.1] at fl';show wpAny (model X.prog X.w) X.A (noteFrame (.ref ea) _) _ _ s';refine pD (by rw[I.ok.frames,xx.stk.1]) xx.stk.2 rfl fl' λh6 fl6 up6=>?_;have I10:Inv X pins σ H9' {s' with heap:=h6}:=mI I9 F xx.ex fl6.1 up6;have F10:FlyX X pins H9' ea (ca cc) {s' with heap:=h6} B:=F.step ⟨dx,_,by rw[xx.stk.1];exact fl6,rw',nw⟩;refine cx _ _ ea {s' with heap:=h6} H9' m8 cc r2 h8 eO I10 ⟨B,F10⟩ (λo dx1 e1 e2=>?_) ⟨mm,up6.ns hns'⟩ (hC' _ un9) cL I3.sz cC cP (g3.trans (g'.trans (gy.trans g8))) w8
    have:dx1=dx0:=by
     obtain⟨o1,e3,e4⟩:=hd0 ea rfl;obtain⟨o2,v2,e5,_,_,e6⟩:=fl6.first;obtain⟨o3,v3,e7,_,_,e8⟩:=fl.first;rw[e3] at e7;cases e7;rw[e4] at e8;cases e8;have e1':h6.get? ea=some o:=e1;rw[e5] at e1';cases e1';rw[e2] at e6;exact(Zg e6)
    subst this;intro z;obtain⟨o,es,ep,e1,r⟩:=hn1;rw[z] at hnw;rw[show s1.heap.get? s3.heap.objs.size=some o from e1] at hnw;cases hnw
 have es:({s2 with heap:=h1,toks:=s2.toks}:Shared)={s3 with heap:=h1,toks:=s2.toks}:=by subst hs3;rfl
 exact codeAny_compStart_list (loop _ es) (T.self X.A 0 _ _ _ st3 (loop _ es))
end
theorem jM{B:Heap}{l:List Addr}{b:Addr}(h:B.get? b=none):(W.hideAll B l).get? b=none:=by
 cases q:(W.hideAll B l).get? b with
 |none=>rfl
 |some o=>rw[W.of_hideAll _ q] at h;cases h
theorem rC{h h' B:Heap}{C:Addr}(k:∀b o,b≠C->h.get? b=some o->h'.get? b=some o):∀{l:List Env},h.FunFrames B l->C ∉ fC l->h'.FunFrames (W.hideAll B [C]) l
 | [],_,_=>trivial
 |env::l,⟨hk,⟨L,o,hf,hn,ho,nf⟩,hr⟩,hC=>by
  have hm:fC (env::l)=L::fC l:=by
   show List.filterMap (·.frame) (env::l)=_;rw[List.filterMap_cons,hf];rfl
  rw[hm] at hC;exact⟨hk,⟨L,o,hf,jM hn,k L o (λz=>hC (z ▸ Zl)) ho,nf⟩,rC k hr λz=>hC (Zj _ z)⟩
section
variable {X:Cx}{pins:List (Addr×Obj)}{σ:Sg}{H:Hp}{s:Shared}{e Cc C:Addr}{B hh:Heap}
theorem FlyX.hide(F:FlyX X pins H e Cc s B)(hd:∀o dx,s.heap.get? e=some o->o.dict=some dx->dx≠C)(hn:∃mm,s.heap.Ns C mm)(hC:H C=none)(nC:C ∉ fC X.stack)(hz:X.s₀.heap.objs.size<=C)(hc:∀x a,X.env.cells.lookup x=some a->a≠C)(hp:∀p∈X.pn++pins,p.1≠C)
 (sb:Heap.SameBut C s.heap hh):FlyX X pins H e Cc {s with heap:=hh} (W.hideAll B [C]):=by
 obtain⟨⟨⟨dx,mk,⟨kb,ne,ff,oe,vs,T,oT,ts,he,hcl,hx,hdt,h1,nT,tE,hT,dT,h3⟩,⟨hnx,mA,k,ns,hk⟩,nw⟩,hok,fkb,fkt⟩,pc1,pc2⟩:=F;have ext:∀b o,b≠C->s.heap.get? b=some o->hh.get? b=some o:=λb o hb q=>sb.extBut b o hb q
 have nfl:∀b o vs,s.heap.get? b=some o->o.data=.fields vs->b≠C:=λb o vs q d z=>by
  obtain⟨mm,o',es,ep,e1,e2,_⟩:=hn;rw[<- z,q] at e1;cases e1;rw[d] at e2;cases e2
 have old:∀b o,X.s₀.heap.get? b=some o->b ∉ [C]:=λb o q z=>by
  rw[List.mem_singleton] at z;exact absurd (Heap.lt_size q) (Nat.not_lt.mpr (z ▸ hz))
 have dxC:dx≠C:=hd oe dx he hx;refine⟨⟨⟨dx,mk,⟨λb o q=>?_,jM ne,rC ext ff nC,oe,vs,T,oT,ts,ext e oe (nfl e oe vs he hdt) he,hcl,hx,hdt,h1,jM nT,tE,ext T oT (nfl T oT ts hT dT) hT,dT,h3⟩,⟨hnx,mA,k,?_,hk⟩,nw⟩,uZ hok (λb hb=>by rw[List.mem_singleton] at hb;rw[hb];exact hC),λb o q n hb=>W.hideAll_get _ (fkb b o q n hb) (old b o q),λb o q hb=>?_⟩,λp hp'=>W.hideAll_get _ (pc1 p hp') (λz=>hp p hp' (List.mem_singleton.mp z)),λx c q=>?_⟩
 ·have q':=W.of_hideAll _ q;refine ext b o (λz=>?_) (kb b o q');rw[z,W.hideAll_none _ Zl] at q;cases q
 ·obtain⟨o,es,ep,e1,r⟩:=ns;exact⟨o,es,ep,W.hideAll_get _ e1 (λz=>dxC (List.mem_singleton.mp z)),r⟩
 ·obtain⟨o',q'⟩:=fkt b o q hb;exact⟨o',W.hideAll_get _ q' (old b o q)⟩
 ·obtain⟨o,q1,q2⟩:=pc2 x c q;exact⟨o,ext c o (hc x c q) q1,W.hideAll_get _ q2 (λz=>hc x c q (List.mem_singleton.mp z))⟩
end
section
variable {X:Cx}{N:List Str}{sc:Scope}{G:Gs}{ca:Nat->Addr}{cl:Cl}{Wx:Ws}{rz:Bool}
theorem BZ{N':List Str}{scope:Scope}{cap:List Nat}{tg elt iter:Expr}{pos:Pos}{t:Tg}{fe f:Ev->Hh->Rs D}(xo:XOk X N sc)(xx:XX X ca Wx rz)(hfn:∀x,X.fn x=true)(S:ScOk scope sc)(hcap:cap.length<=N'.length)
 (hN:(N'.drop (N'.length-cap.length)).map some=cap.map (λ(i:Nat)=>N[i]?))(hfr:∀x∈N'.drop (N'.length-cap.length),scope.names.lookup x=some .free)
 (blk:∀(C:Addr)(s3:Shared)(H3:Hp)(fp:List Addr),PG (dF X N' scope C s3 H3 fp) tg (yF X.K t)/\WS (dF X N' scope C s3 H3 fp) ca elt fe)(hset:nR iter=true)
 (hi:∀(pins:List (Addr×Obj))(s:Shared)(σ:Sg)(H:Hp)(m:List Addr)(r:Ev)(h:Hh),Inv X pins σ H s->Wd X.K m h H->RSt X.K m H r σ->f r h≠ .bad->∃(h1:Hh)(O:Rs Unit),(f r h=O.bind λ_ h'=>.ok (.ref h1.length) h')/\wpAny (model X.prog X.w) X.A (eval iter X.env) (λv s1=>wpAny (model X.prog X.w) X.A (pyIter v)
   (CV X pins σ tg λJ H2=>∃(m2:List Addr)(h2:Hh),h2.length=h1.length/\Gr X.K m H m2 H2/\Wd X.K m2 h2 H2/\mZ X.K t fe h2.length O J m2 H2 (aR N' cap r) (h2++ [.lst []])) X.xe s1) X.xe s):
 PE X (.ListComp elt [⟨tg,iter,[],0⟩] scope pos) (TXC X.K Wx f):=by
 intro pins s σ H Q I ⟨m,r,h,w,st,o⟩;have nb:f r h≠ .bad:=λz=>by rw[z] at o;exact o
 obtain⟨h1,O,eO,hw⟩:=hi pins s σ H m r h I w st nb;rw[eO] at o;rw[eval_ListComp];have S':ScOk scope X.env.scope:=by rw[xo.s];exact S
 refine wpAny_comprehension_free (use:=none) rfl (λz=>by cases iter<;>first |rfl|(cases hset;done)) (iE λp hp e=>I.ok.has p.1 (.inl (S'.free p hp e))) S.kind S.loc ?_;refine bS hw λv s1 q1=>bS q1 λitv s2 q2=>?_;obtain⟨it,fp,tn,J,H2,rfl,I2,T,st2,fok,m2,h2,eh2,g2,w2,Lp,k0,L0,hst⟩:=q2;refine tQ (Rr:=λacc C=>compPost (model X.prog X.w) X.A X.xe none (EP X pins σ Q) acc C) S' hcap (by rw[xo.n];exact hN) hfr xo.calm xx hfn blk I2 T st2 fok w2 (st.mono g2) Lp k0 L0 hst (λacc C s1 H' m' h' eo I1 ⟨mm,hn⟩ hC hL hz hc hp g' w' rv=>?_) λacc C ea s1 H' m' cc r2 h' eo I1 ⟨B,F⟩ hd ⟨mm,hn⟩ hC hL hz hc hp g' w'=>?_
 ·rw[eh2] at rv;rw[eo] at o;refine⟨mm,hn,λhh hsb=>⟨.ref acc,H',I1.turned (λb o hb e=>hsb.extBut b o hb e) hC (Ne.symm (Ne.symm hL)) (.inr hz) hc hp,rfl,o m' _ H' (g2.trans g') w' rv⟩⟩
 ·rw[eo] at o;refine⟨mm,hn,λhh hsb cenv hcl=>?_⟩;have I5:Inv X pins σ H' {s1 with heap:=hh}:=I1.turned (λb o hb e=>hsb.extBut b o hb e) hC hL (.inr hz) hc hp
  have nC:C ∉ fC X.stack:=λhm=>by
   rcases List.mem_cons.mp (I1.stkSub _ hm) with z|z
   ·exact hL z
   ·obtain⟨_,o',e',_⟩:=I1.ok.funs.mem z;exact absurd (Nat.lt_of_lt_of_le (Heap.lt_size e') hz) (Nat.lt_irrefl _)
  have F5:=F.hide hd ⟨mm,hn⟩ hC nC hz hc hp hsb;obtain⟨dx,mk,fl,rw',nw⟩:=id F5.fly.fl;obtain⟨_,_,_,oe,vs,T',_,_,he,_,_,hdt,h1',_⟩:=id fl;unfold PySem.passOn;refine Za (wpAny_field he hdt h1' ?_);rw[if_neg (show ¬((Value.ref T'==Value.none)=true) from by simp)];refine Za (jN fl λh6 fl6 up6=>?_);exact wpAny_throw (xx.fly pins σ H' {s1 with heap:=h6} ea cc (mI (s:={s1 with heap:=hh}) I5 F5 xx.ex fl6.1 up6) ⟨_,FlyX.step (s:={s1 with heap:=hh}) F5 ⟨dx,_,fl6,rw',nw⟩⟩ (o m' H' (g2.trans g') w'))
end
noncomputable def OX{A:Type}(K:W.Frag)(Wx:Ws)(s:Sg)(m:List Addr)(H:Hp)(Q:A->List Addr->Hh->Hp->Prop):Rs A->Prop
 |.ok a h'=>∀m' H',Gr K m H m' H'->Wd K m' h' H'->Q a m' h' H'
 |.exc c _ h'=>∀m' H',Gr K m H m' H'->Wd K m' h' H'->Wx c s H'
 |.bad=>False
section
variable {A B:Type}{K:W.Frag}{Wx:Ws}{s:Sg}{m m1:List Addr}{H H1:Hp}
theorem OX.mono{Q:A->List Addr->Hh->Hp->Prop}{o:Rs A}(g:Gr K m H m1 H1)(x:OX K Wx s m H Q o):OX K Wx s m1 H1 Q o:=by
 cases o with
 |ok a h=>exact λm' H' g' w=>x m' H' (g.trans g') w
 |exc c r h=>exact λm' H' g' w=>x m' H' (g.trans g') w
 |bad=>exact x
theorem OX.bind{Q:B->List Addr->Hh->Hp->Prop}{R:A->List Addr->Hh->Hp->Prop}{o:Rs A}{k:A->Hh->Rs B}(x:OX K Wx s m H Q (o.bind k))(f:∀a m' h' H',Gr K m H m' H'->Wd K m' h' H'->OX K Wx s m' H' Q (k a h')->R a m' h' H'):OX K Wx s m H R o:=by
 cases o with
 |ok a h=>exact λm' H' g w=>f a m' h H' g w (OX.mono g x)
 |exc c r h=>exact x
 |bad=>exact x
theorem OX.nx{Q:B->List Addr->Hh->Hp->Prop}{o:Rs A}{k:A->Hh->Rs B}(x:OX K Wx s m H Q (o.nx.bind k)):∃a h',o=.ok a h'/\OX K Wx s m H Q (k a h'):=by
 cases o with
 |ok a h=>exact⟨a,h,rfl,x⟩
 |exc c r h=>exact x.elim
 |bad=>exact x.elim
theorem OX.nxE{Q:A->List Addr->Hh->Hp->Prop}{o:Rs A}(x:OX K Wx s m H Q o.nx):∃a h',o=.ok a h'/\∀m' H',Gr K m H m' H'->Wd K m' h' H'->Q a m' h' H':=by
 cases o with
 |ok a h=>exact⟨a,h,rfl,x⟩
 |exc c r h=>exact x.elim
 |bad=>exact x.elim
theorem TXC.ox{f:Ev->Hh->Rs D}{Q:VK}(q:TXC K Wx f s H Q):∃m r h,Wd K m h H/\RSt K m H r s/\OX K Wx s m H (λd m' _ H'=>∀v,RD K m' H' d v->Q v H') (f r h):=by
 obtain⟨m,r,h,w,st,o⟩:=q;refine⟨m,r,h,w,st,?_⟩;cases e:f r h with
 |ok a h'=>rw[e] at o;exact λm' H' g w' v rd=>o m' v H' g w' rd
 |exc c rr h'=>rw[e] at o;exact o
 |bad=>rw[e] at o;exact o
theorem TXC.of{f:Ev->Hh->Rs D}{Q:VK}{r:Ev}{h:Hh}(w:Wd K m h H)(st:RSt K m H r s)(o:OX K Wx s m H (λd m' _ H'=>∀v,RD K m' H' d v->Q v H') (f r h)):TXC K Wx f s H Q:=by
 refine⟨m,r,h,w,st,?_⟩;cases e:f r h with
 |ok a h'=>rw[e] at o;exact λm' v H' g w' rd=>o m' H' g w' v rd
 |exc c rr h'=>rw[e] at o;exact o
 |bad=>rw[e] at o;exact o
end
noncomputable def TXA(K:W.Frag)(Wx:Ws)(f:Ev->Hh->Rs (List D)):TA:=λs H Q=>∃m r h,Wd K m h H/\RSt K m H r s/\OX K Wx s m H (λds m' _ H'=>∀vs,RDs K m' H' ds vs->Q vs H') (f r h)
def SX(N:List Str)(sc:Scope)(G:Gs)(a:EX)(v:Expr):Prop:=∀{X:Cx}{ca:Nat->Addr}{cl:Cl}{Wx:Ws}{rz:Bool},XOk X N sc->GOk X G ca cl->(∀x,X.fn x=true)->XX X ca Wx rz->PE X v (TXC X.K Wx (fD G cl a))
noncomputable abbrev yL(G:Gs)(cl:Cl)(l:Es)(b:EX):Ev->Hh->Rs (List D):=λr h=>(cM G cl l r h).nx.bind λds h=>(fD G cl b r h).bind λy h=>.ok (ds++ [y]) h
def SD(N:List Str)(sc:Scope)(G:Gs)(l:Es)(b:EX)(es:List Expr):Prop:=∀{X:Cx}{ca:Nat->Addr}{cl:Cl}{Wx:Ws}{rz:Bool},XOk X N sc->GOk X G ca cl->(∀x,X.fn x=true)->XX X ca Wx rz->PA X es (TXA X.K Wx (yL G cl l b))
section
variable {N:List Str}{sc:Scope}{G:Gs}
theorem gZ{f:Nat}{l:Es}{y:Str}{np pos:Pos}{e:Expr}{es:List Expr}(h1:G.fns[f]? =some y)(h:(gG sc y&&dP y)=true)(h_l:yB N sc G l (e::es)):SX N sc G (.call f l) (.Call (.Name y np) (e::es) [] pos):=λ{X ca cl Wx rz} xo go hfn xx=>by
 rw[Bool.and_eq_true] at h;exact(qP xo go hfn xx h1 h.1 h.2 h_l).wk λs H Q q=>q
theorem vO{a:EX}{y:Expr}{np pos:Pos}(h2:gG sc "tuple"=true)(hs:cX y=true)(h_a:SX N sc G a y):SX N sc G (.tupc a) (.Call (.Name "tuple" np) [y] [] pos):=λ{X ca cl Wx rz} xo go hfn xx=>by
 obtain⟨d1,d3⟩:=hG .tup;have cb:=kX (X:=X) .tup λ_=>⟨xo.calm,xo.room⟩;have hA:PA X [y] (dX (TXC X.K Wx (fD G cl a)) kJ):=bH (h_a xo go hfn xx) cV (aS [] hs);refine(gW (x:="tuple") cb (cJ xo h2) (go.blt .tup) (fS .tup) hA d3 d1 (aS [] hs) rfl).wk λs H Q q=>?_;obtain⟨m,r,h,w,st,o⟩:=TXC.ox q;simp only[fD] at o;refine TXC.of w st (OX.bind o λx m1 h1 H1 g1 w1 o1 v rv=>?_);obtain⟨d,h2,e2,c⟩:=OX.nxE o1;exact⟨m1,h1,[x],d,h2,w1,.cons rv .nil,e2,λm' v H' g w' rd=>c m' H' g w' v rd⟩
theorem IP{a:EX}{b:E}{x y:Expr}{pos:Pos}(hs:pS y)(h_a:SX N sc G a x)(h_b:SE N sc G b y):SX N sc G (.ix a b) (.Subscript x y pos):=λ{X ca cl Wx rz} xo go hfn xx=>by
 refine(HG (HU xo.room) (h_a xo go hfn xx) (h_b xo go).1 hs).wk λs H Q q=>?_;obtain⟨m,r,h,w,st,o⟩:=TXC.ox q;simp only[fD] at o;refine TXC.of w st (OX.bind o λdx m1 h1 H1 g1 w1 o1 v rv=>?_);obtain⟨dy,h2,e2,o2⟩:=OX.nx o1;refine⟨m1,r,h1,dy,h2,w1,st.mono g1,e2,λm2 u H2 g2 w2 ru=>?_⟩;obtain⟨d,h3,e3,c⟩:=OX.nxE o2;exact⟨m2,h2,dx,dy,d,h3,w2,rv.mono g2,ru,e3,λm' v H' g w' rd=>c m' H' (g2.trans g) w' v rd⟩
theorem MI{a:E}{b:EX}{x y:Expr}{pos:Pos}(h_a:SE N sc G a x)(h_b:SX N sc G b y):SX N sc G (.cat a b) (.BinOp x .Add y pos):=λ{X ca cl Wx rz} xo go hfn xx=>by
 refine(zQ (HK .add) (h_a xo go).1 (h_b xo go hfn xx)).wk λs H Q q=>?_;obtain⟨m,r,h,w,st,o⟩:=TXC.ox q;simp only[fD] at o;obtain⟨dx,h1,e1,o1⟩:=OX.nx o;refine⟨m,r,h,dx,h1,w,st,e1,λm1 v H1 g1 w1 rv=>?_⟩;refine TXC.of w1 (st.mono g1) (OX.bind (OX.mono g1 o1) λdy m2 h2 H2 g2 w2 o2 u ru=>?_);obtain⟨d,h3,e3,c⟩:=OX.nxE o2;exact⟨m2,h2,dx,dy,d,h3,w2,rv.mono g2,ru,e3,λm' v H' g w' rd=>c m' H' g w' v rd⟩
theorem sH{b:EX}{e:Expr}(hs:cX e=true)(h_b:SX N sc G b e):SD N sc G .nil b [e]:=λ{X ca cl Wx rz} xo go hfn xx=>by
 refine(bH (h_b xo go hfn xx) cV (aS [] hs)).wk λs H Q ⟨m,r,h,w,st,o⟩=>?_;unfold yL at o;obtain⟨ds,h1,e1,o1⟩:=OX.nx o;rw[cM] at e1;cases e1;refine TXC.of w st (OX.bind o1 λdx m1 h1 H1 g1 w1 o1 v rv=>?_);exact o1 m1 H1 .refl w1 [v] (.cons rv .nil)
theorem gT{a:E}{l:Es}{b:EX}{e:Expr}{es:List Expr}(hs:cX e=true)(h_a:SE N sc G a e)(h_b:SD N sc G l b es):SD N sc G (.cons a l) b (e::es):=λ{X ca cl Wx rz} xo go hfn xx=>by
 refine(bH (h_a xo go).1 (h_b xo go hfn xx) (aS es hs)).wk λs H Q ⟨m,r,h,w,st,o⟩=>?_;unfold yL at o;obtain⟨ds,h1,e1,o1⟩:=OX.nx o;rw[cM] at e1;obtain⟨d,h2,e2,e1⟩:=Rs.bind_ok e1;obtain⟨ds',h3,e3,e1⟩:=Rs.bind_ok e1;cases e1;refine⟨m,r,h,d,h2,w,st,e2,λm1 v H1 g1 w1 rv=>⟨m1,r,h2,w1,st.mono g1,?_⟩⟩;unfold yL;rw[e3];show OX X.K Wx s m1 H1 _ ((fD G cl b r h1).bind λy h=>.ok (ds'++ [y]) h);have o2:=OX.mono g1 o1;cases eb:fD G cl b r h1 with
 |bad=>rw[eb] at o2;exact o2
 |exc c rr hh=>rw[eb] at o2;exact o2
 |ok y hh=>
  rw[eb] at o2;intro m2 H2 g2 w2 vs rvs;exact o2 m2 H2 g2 w2 (v::vs) (.cons (rv.mono g2) rvs)
theorem tM{l:Es}{b:EX}{es:List Expr}{k:Nat}{pos:Pos}(h_l:SD N sc G l b es):SX N sc G (.tpl l b) (.Tuple es k pos):=λ{X ca cl Wx rz} xo go hfn xx=>by
 refine(sP (h_l xo go hfn xx)).wk λs H Q q=>?_;obtain⟨m,r,h,w,st,o⟩:=TXC.ox q;simp only[fD] at o;refine⟨m,r,h,w,st,?_⟩;unfold yL;obtain⟨ds,h1,e1,o1⟩:=OX.nx o;rw[e1];show OX X.K Wx s m H _ ((fD G cl b r h1).bind λy h=>.ok (ds++ [y]) h);cases eb:fD G cl b r h1 with
 |bad=>rw[eb] at o1;exact o1
 |exc c rr hh=>rw[eb] at o1;exact o1
 |ok y hh=>
  rw[eb] at o1;intro m2 H2 g2 w2 vs rvs;have o2:OX X.K Wx s m H (λd m' _ H'=>∀v,RD X.K m' H' d v->Q v H') (if ds.length<1000 then Rs.ok (.tup (ds++ [y])) hh else .bad):=o1;split at o2
  ·rename_i hl;refine⟨?_,λq hq=>?_⟩
   ·rw[<- rvs.length,List.length_append];exact Nat.le_trans (show ds.length+1<=1000 by omega) (by decide)
   ·exact o2 m2 _ (g2.trans (Gr.tupNew hq)) (w2.keepNew hq) _ (.tup (.of bB) (rvs.mono (Gr.tupNew hq)))
  ·exact o2.elim
def MW(N:List Str)(sc:Scope)(G:Gs)(k:Ck)(it:Es)(iter:Expr):Prop:=∀{X:Cx}{ca:Nat->Addr}{cl:Cl},XOk X N sc->GOk X G ca cl->∀{t:Tg}{tg:Expr}{fe:Ev->Hh->Rs D}{N':List Str}{cap:List Nat}(_:wG k tg=true)
    (pins:List (Addr×Obj))(s:Shared)(σ:Sg)(H:Hp)(m:List Addr)(r:Ev)(h:Hh)(xs:List D)(h1:Hh),Inv X pins σ H s->Wd X.K m h H->RSt X.K m H r σ->cM G cl it r h=.ok xs h1->dC t iH fe h1.length k xs h1 (aR N' cap r) (h1++ [.lst []])≠ .bad->
    wpAny (model X.prog X.w) X.A (eval iter X.env) (λv s1=>wpAny (model X.prog X.w) X.A (pyIter v)
     (CV X pins σ tg λJ H2=>∃(m2:List Addr)(h2:Hh),h2.length=h1.length/\Gr X.K m H m2 H2/\Wd X.K m2 h2 H2/\mZ X.K t fe h2.length (dC t iH fe h1.length k xs h1 (aR N' cap r) (h1++ [.lst []])) J m2 H2 (aR N' cap r) (h2++ [.lst []])) X.xe s1) X.xe s
theorem vP{t:Tg}{k:Ck}{it:Es}{f:Nat}{l:Es}{N':List Str}{cap:List Nat}{tg iter:Expr}{y:Str}{np cp:Pos}{e:Expr}{es:List Expr}{scope:Scope}{pos:Pos}(B:Blk N sc N' cap scope)(ns:nR iter=true)(ht:mR N' scope t tg=true)(hi:MW N sc G k it iter)(h1:G.fns[f]? =some y)(h:(gG (eI scope sc) y&&dP y)=true)(h_l:yB N' (eI scope sc) G l (e::es))(tk:wG k tg=true:=by rfl):
 SX N sc G (.comp t k it f l N' cap) (.ListComp (.Call (.Name y np) (e::es) [] cp) [⟨tg,iter,[],0⟩] scope pos):=λ{X ca cl Wx rz} xo go hfn xx=>by
 rw[Bool.and_eq_true] at h;refine BZ (fe:=dM G cl f l) xo xx hfn B.S B.capL B.nN B.fr (λC s3 H3 fp=>⟨OO (mY xo B.nd C s3 H3 fp) (vV (by rw[xo.s];exact B.S) C s3 H3 fp) ht,zP (mY xo B.nd C s3 H3 fp) (tR go C s3 H3 fp) (λ_ _ z=>z) h1 h.1 h.2 h_l⟩) ns λpins s σ H m r hh I w st nb=>?_;simp only[fD] at nb⊢;cases e1:cM G cl it r hh with
 |bad=>rw[e1] at nb;exact absurd rfl nb
 |exc c rr h1=>rw[e1] at nb;exact absurd rfl nb
 |ok xs h1=>
  rw[e1] at nb;refine⟨h1,_,rfl,hi xo go tk pins s σ H m r hh xs h1 I w st e1 λz=>nb ?_⟩
  show((dC t iH (dM G cl f l) h1.length k xs h1 (aR N' cap r) (h1++ [.lst []])).bind _)=_
  rw[z];rfl
theorem LP{a:E}{x:Expr}(ha:SE N sc G a x):MW N sc G .sq (.cons a .nil) x:=λ{X ca cl} xo go {t tg fe N' cap} tk pins s σ H m r h xs h1 I w st e1 e3=>by
 have hp:=(ha xo go).1;rw[cM] at e1;obtain⟨x,h5,ex,e1⟩:=Rs.bind_ok e1;rw[cM] at e1;obtain⟨_,_,e4,e1⟩:=Rs.bind_ok e1;cases e4;cases e1;cases x<;>first |exact absurd rfl e3|skip
 ·rename_i l;refine zN hp pins s σ H _ I ⟨m,r,h,_,_,w,st,ex,λm' v H' g w' rv=>?_⟩;cases rv with
  |tup hq q=>exact⟨_,rfl,⟨_,hq⟩,m',_,rfl,g,w',rZ hq q rfl e3⟩
 ·rename_i n _;cases el:aK h1 n with
  |none=>exact absurd (show dC t iH fe h1.length .sq [.ref n] h1 (aR N' cap r) (h1++ [.lst []])=.bad by simp only[dC,el]) e3
  |some l=>
   have ec:dC t iH fe h1.length .sq [.ref n] h1 (aR N' cap r) (h1++ [.lst []])=cO t iH fe h1.length n (l.length+1) 0 (aR N' cap r) (h1++ [.lst []]):=by simp only[dC,el]
   rw[ec] at e3⊢;refine uK hp pins s σ H _ I ⟨m,r,h,_,_,w,st,ex,λm' v H' g w' rv=>?_⟩;cases rv with
   |ref ha=>
    obtain⟨a',vs,ha',hq,_⟩:=w'.lst el;rw[ha] at ha';cases ha';exact⟨_,rfl,⟨_,hq⟩,m',_,rfl,g,w',sA ha rfl e3⟩
theorem LO{l:Es}{x y:Expr}{p pos:Pos}(hg:gG sc "zip"=true)(hl:yB N sc G l [x,y]):MW N sc G .zp l (.Call (.Name "zip" p) [x,y] [] pos):=λ{X ca cl} xo go {t tg fe N' cap} tk pins s σ H m r h xs h1 I w st e1 e3=>by
 have hns:=hl.1;rw[List.all_cons,List.all_cons,Bool.and_eq_true,Bool.and_eq_true] at hns;have s1:=aS (X:=X) [y] hns.1;have s2:=aS (X:=X) [] hns.2.1
 obtain⟨n,ks,rfl⟩:∃n ks,xs=[.ref n,.tup ks]:=by
  rcases xs with _|⟨a,_|⟨b,_|⟨c,xs⟩⟩⟩
  ·exact absurd rfl e3
  ·cases a<;>exact absurd rfl e3
  ·cases a<;>first |exact absurd rfl e3|skip
   cases b<;>first |exact absurd rfl e3|skip
   exact⟨_,_,rfl⟩
  ·cases a<;>first |exact absurd rfl e3|skip
   cases b<;>exact absurd rfl e3
 cases tg<;>first |(cases tk;done)|skip
 rename_i elts j tp;have e3':dR t iH fe h1.length n 0 ks (aR N' cap r) (h1++ [.lst []])≠ .bad:=e3;refine Call_ (jJ I (cJ xo hg) (go.blt .zip) (fS .zip) (PyProof.Rows.callWith_type1 (bS (hl.2 xo go pos pins s σ H (λvs H1=>∃m1,Gr X.K m H m1 H1/\Wd X.K m1 h1 H1/\RDs X.K m1 H1 [.ref n,.tup ks] vs) I ⟨m,r,h,_,h1,w,st,e1,λm' vs H' g w' rv=>⟨m',g,w',rv⟩⟩) λus s1 ⟨vs,H1,I1,rv,m1,g1,w1,rd⟩=>?_) (by rw[s1]) (by rw[s2];rfl)) (by decide) (by decide));cases rd with
 |cons r1 rd=>
 cases rd with
 |cons r2 rd=>
 cases rd;cases r1 with
 | @ref _ a ha=>
 cases r2 with
 | @tup b _ vs hq q=>
 cases rv with
 |cons v1 rv=>
 cases rv with
 |cons v2 rv=>
 cases rv;cases v1;cases v2
 obtain⟨ws,el⟩:∃ws,aK h1 n=some ws:=by
  have e4:∃ws,aK (h1++ [.lst []]) n=some ws:=by
   cases ks with
   |nil=>
    simp only[dR] at e3';split at e3'
    ·exact⟨_,by assumption⟩
    ·exact absurd rfl e3'
   |cons k ks=>
    simp only[dR] at e3';split at e3'
    ·exact absurd rfl e3'
    ·exact⟨_,by assumption⟩
  obtain⟨ws,e4⟩:=e4;have hn:n<h1.length:=by rw[<- w1.len];exact(Ze.mp ha).1
  unfold aK at e4⊢;rw[List.getElem?_append_left hn] at e4;exact⟨ws,e4⟩
 obtain⟨a',us,ha',hq',q'⟩:=w1.lst el;rw[ha] at ha';cases ha';obtain⟨its,ri,pi,_⟩:=I1.list hq';obtain⟨its2,ri2,pi2,_⟩:=I1.tuple hq;have la:a<s1.heap.objs.size:=by obtain⟨o,ho,_⟩:=pi.isList;exact Heap.lt_size ho
 have lb:b<s1.heap.objs.size:=by obtain⟨o,ho,_⟩:=pi2;exact Heap.lt_size ho
 refine CH pi.isList pi2 λg hz hk=>wpAny_pyIter_zip hz.hz ?_;refine⟨_,[s1.heap.objs.size+4,s1.heap.objs.size+2,s1.heap.objs.size+3,s1.heap.objs.size,s1.heap.objs.size+1],_,WW X.K a b,H1,rfl,I1.kept (t':=s1.toks) hk,yJ (vZ la lb),hz,λc hc=>?_,m1,h1,rfl,g1,w1,rY ha hq q rfl e3'⟩
 have hc':s1.heap.objs.size<=c:=by
  simp only[List.mem_cons,List.not_mem_nil,or_false] at hc;rcases hc with rfl|rfl|rfl|rfl|rfl<;>first |exact Zn _|exact Nat.le_add_right _ _
 exact I1.fpOk hc' (I1.hok.fresh hc')
theorem jQ{a:EX}{v:Expr}{pos:Pos}(h_a:SX N sc G a v):SS N sc G (.rtX a) (.Return (some v) pos):=λ{X ca cl W Wx rz} xo go hfn xx hz=>by
 refine(sL (h_a xo go hfn xx)).wk λZ s H q=>?_;exact TDS.oneX (k:=λr x h=>.ok (.rt x) h) (λr h=>by rw[xs]) q λm2 r h2 H2 dx v w2 st2 rx o=>o m2 H2 .refl w2 _ rx
theorem BN{l:List Nat}{a:EX}{es:List Expr}{k:Nat}{px pos:Pos}{v:Expr}(h1:mU N sc l es=true)(h3:iC v=true)(hw:∀env,swappedStores [.Tuple es k px] v env=pure none)(h_a:SX N sc G a v):SS N sc G (.asX l a) (.Assign [.Tuple es k px] v pos):=λ{X ca cl W Wx rz} xo go hfn xx hz=>by
 refine(sN (h_a xo go hfn xx) (pgL xo hfn (k:=k) (pos:=px) h1) (jY h3) (hw X.env) rfl).wk λZ s H q=>?_
 refine TDS.oneX (k:=λr x h=>match x with
  |.ref n=>(match aK h n with
   |some ds=>if ds.length=l.length then .ok (.nx (dH l ds r)) h else .bad
   |none=>.bad)
  |_=>.bad) (λr h=>by first |(rw[xs];done)|(rw[xs];rfl)) q λm2 r h2 H2 dx y w2 st2 rx o=>?_
 obtain⟨n,rfl⟩:∃n,dx=.ref n:=by cases dx<;>first |exact⟨_,rfl⟩|exact o.elim
 have o':OutS X.K Wx m2 H2 Z (match aK h2 n with|some ds=>(if ds.length=l.length then .ok (.nx (dH l ds r)) h2 else .bad)|none=>.bad):=o;split at o'
 ·rename_i ds el;split at o'
  ·rename_i hl;exact⟨m2,h2,r,n,ds,w2,st2,rx,el,hl,λs' st'=>o' m2 H2 .refl w2 s' st'⟩
  ·exact o'.elim
 ·exact o'.elim
end
structure Fc where
 np:Nat
 ns:Nat
 body:Ss
noncomputable def cZ:Fl->Hh->Rs D
 |.rt d,h=>.ok d h
 |.nx _,h=>.ok .non h
 |_,_=>.bad
noncomputable def bI(G:Gs)(T:Nat->Option Fc)(W:Nat):Nat->Cl
 |0,_,_,_=>.bad
 |n+1,f,ds,h=>match T f with
  |none=>.bad
  |some c=>if ds.length=c.np then(bO G (bI G T W n) W c.body (ds.map some++List.replicate (c.ns-c.np) none) h).bind cZ else .bad
structure FmOk (K:W.Frag)(G:Gs)(P:Addr->Prop)(x:Str)(c:Fc):Prop where
 ex:∃st fa fd N ps qual,Fun K x qual st fa fd/\FnScope N ps (aE st)/\ps.length=c.np/\N.length=c.ns/\Binds K fd ps []/\P fa/\iF N (aE st) G c.body (aP st)
abbrev QY(K:W.Frag)(mg:Str->Option Value)(G:Gs)(x:Str)(c:Fc):Prop:=FmOk K G (λfa=>mg x=some (.ref fa)) x c
noncomputable def AllP{α:Type}(P:Nat->α->Prop):Nat->List α->Prop
 |_,[]=>True
 |i,a::l=>P i a/\AllP P (i+1) l
theorem AllP.get{α:Type}{P:Nat->α->Prop}:∀{l:List α}{i:Nat},AllP P i l->∀{f:Nat}{x:α},l[f]? =some x->P (i+f) x
 |_::_,_,h,0,_,e=>by cases e;exact h.1
 |_::l,i,h,f+1,x,e=>by
  have q:=AllP.get h.2 (f:=f) (x:=x) (by simpa using e);rwa [show i+1+f=i+(f+1) by omega] at q
theorem AllP.get0{α:Type}{P:Nat->α->Prop}{l:List α}(h:AllP P 0 l){f:Nat}{x:α}(e:l[f]? =some x):P f x:=by
 have q:=AllP.get h e;rwa [Nat.zero_add] at q
theorem nD{us:List Value}(h:us.length=1):∃a,us=[a]:=List.length_eq_one_iff.mp h
theorem sW{us:List Value}(h:us.length=2):∃a b,us=[a,b]:=by
 match us,h with
 | [a,b],_=>exact⟨a,b,rfl⟩
theorem UU{us:List Value}(h:us.length=3):∃a b c,us=[a,b,c]:=by
 match us,h with
 | [a,b,c],_=>exact⟨a,b,c,rfl⟩
theorem AllP.mem{α:Type}{P:α->Prop}:∀{l:List α}{i:Nat},AllP (λ_=>P) i l->∀{x:α},x∈l->P x
 |_::_,_,h,_,.head _=>h.1
 |_::_,_,h,_,.tail _ q=>AllP.mem h.2 q
structure PrOk (K:W.Frag)(mg:Str->Option Value)(G:Gs)(ca:Nat->Addr)(T:Nat->Option Fc):Prop where
 fn:∀(f:Nat)(x:Str),G.fns[f]? =some x->∃c,T f=some c/\QY K mg G x c
 cst:∀(g:Nat)(x:Str)(d:D),G.csts[g]? =some (x,d)->∃v u,mg x=some u/\RelV v u/\∀m H,RD K m H d v
 blt:∀f:Blt,mg f.nm=none
 ty:∀t:Ty,mg (Str.ofString t.nm)=none
 rng:mg "range"=none
 exc:∀(c:Nat)(x:Str),G.excs[c]? =some x->mg x=some (.ref (ca c))/\ExcF K (ca c)
 sub:∀p∈G.sub,W.exmOne K (.ref (ca p.1)) (.ref (ca p.2))=some true/\W.kitOne K (.ref (ca p.1)) (.ref (ca p.2))=some true/\ExcF K (ca p.1)
 nsub:∀p∈G.nsub,W.kitOne K (.ref (ca p.1)) (.ref (ca p.2))=some false/\ExcN K (ca p.1)
 verr:mg "ValueError"=none
 ini:∀c∈G.inis,ExcA K (ca c) "row"/\∃fI fd ps,(∀(P:Program)(w:World)(base:Heap),FnOk P w K mg base (hR P w) (0+1) fI fd ps (TM (ca c)))/\Binds K fd ps []/\ps.length=2/\kF K (ca c) fI=true/\W.typeIn K (.ref fI)=some (.type "function")
 sam:∀f∈G.sams,∃x fa fd ps,G.fns[f]? =some x/\mg x=some (.ref fa)/\W.keepIn K (.ref fa)=true/\Binds K fd ps []/\ps.length=2/\∀(P:Program)(w:World)(base:Heap),WX P w K mg base fa fd ps
 att:∀p∈G.atts,∃C,W.nsIn K mainGlobals p.1=some (some (.ref C))/\Cls K C/\tY K C p.2
 meth:∀p∈G.meths,∃C c,W.nsIn K mainGlobals p.1=some (some (.ref C))/\Cls K C/\T p.2.2=some c/\FmOk K G (λfa=>Meth K C p.2.1 fa) p.2.1 c
 new:∀p∈G.news,∃C c,W.nsIn K mainGlobals p.1=some (some (.ref C))/\mg p.1=some (.ref C)/\T p.2=some c/\FmOk K G (λfa=>Mk K C fa) "__init__" c
theorem RSt.start{K:W.Frag}{m:List Addr}{H:Hp}{ds:List D}{vs:List V}(r:RDs K m H ds vs)(k:Nat):RSt K m H (ds.map some++List.replicate k none) (vs.map some++List.replicate k none):=by
 refine⟨by simp[r.length],λi d e=>?_⟩
 by_cases hi:i<ds.length
 ·rw[List.getElem?_append_left (by simpa using hi),Zi] at e;cases z:ds[i]? with
  |none=>rw[z] at e;cases e
  |some d'=>
   rw[z] at e
   have e':d'=d:=by
    have e2:some (some d')=some (some d):=e;injection e2 with e2;injection e2
   subst e';obtain⟨v,hv,rv⟩:=r.get z;exact⟨v,by rw[List.getElem?_append_left (by rw[Zc, <- r.length];exact hi),Zi,hv];rfl,rv⟩
 ·rw[List.getElem?_append_right (by simpa using hi),List.getElem?_replicate] at e;split at e<;>cases e
section
variable {P:Program}{w:World}{K:PySem.W.Frag}{mg:Str->Option Value}{base:Heap}{G:Gs}{ca:Nat->Addr}{T:Nat->Option Fc}{W:Nat}
theorem _root_.L2.Fun.okX{x qual:Str}{st:Stmt}{f:Addr}{fd:FuncData}{N ps:List Str}{k:Nat}{sp:Sp}(F:Fun K x qual st f fd)(S:FnScope N ps (aE st))(len:∀vs H Q E,sp vs H Q E->vs.length=ps.length)
 (hbody:∀(cdv:Value)(A:Around)(outer:List Env)(s:Shared)(H:Hp)(vs:List V)(Q:VK)(E:XK),Room k (A.deeper (envOfC qual (aE st) s.heap.objs.size f cdv))->sp vs H Q E->
   ∃t,PSs (fH (hR P w) P w K mg base N qual (aE st) f cdv A outer s H E) (aP st) t/\t {nx:=λ_ H'=>Q .non H',rt:=Q} (start N vs) H):FnOk P w K mg base (hR P w) (k+1) f fd ps sp:=by
 obtain⟨oc,od,kV,doc,pm,an,cdv,ct,osl,rfl,lk,hcd⟩:=F.ex;exact IB lk hcd S len λA outer s H vs Q E hr hsp=>hbody cdv A outer s H vs Q E hr hsp
abbrev IW(P:Program)(w:World)(K:PySem.W.Frag)(mg:Str->Option Value)(base:Heap)(G:Gs)(ca:Nat->Addr)(T:Nat->Option Fc)(W n:Nat):Prop:=∀(f:Nat)(x:Str)(c:Fc)(R:Addr->Prop),T f=some c->FmOk K G R x c->∃fa fd ps,FnOk P w K mg base (hR P w) (2*n+1) fa fd ps (DH K ca (bI G T W n f) ps.length)/\R fa/\PySem.W.keepIn K (.ref fa)=true/\Binds K fd ps []/\∀ds h,bI G T W n f ds h≠ .bad->ds.length=ps.length
theorem vD(pr:PrOk K mg G ca T){n f:Nat}(ih:IW P w K mg base G ca T W n){x qual:Str}{c:Fc}{st:Stmt}{fa:Addr}{fd:FuncData}{N ps:List Str}(hc:T f=some c)(F:Fun K x qual st fa fd)(S:FnScope N ps (aE st))(h1:ps.length=c.np)(h2:N.length=c.ns)
 (hk:iF N (aE st) G c.body (aP st)):FnOk P w K mg base (hR P w) (2*n+2+1) fa fd ps (DH K ca (bI G T W (n+1) f) ps.length):=by
 refine F.okX S (λvs H Q E h=>h.1) (λcdv A outer s H vs Q E hr h=>?_);obtain⟨hl,m,h,ds,wd,rd,o⟩:=h;simp only[bI,hc] at o;have hlen:ds.length=c.np:=by rw[rd.length,hl,h1]
 rw[if_pos hlen] at o
 let X:Cx:=fH (hR P w) P w K mg base N qual (aE st) fa cdv A outer s H E
 have xo:XOk X N (aE st):=⟨rfl,rfl,rfl,S.nd,⟨_,hr⟩,pr.rng,PassesOwn.leaving⟩;have hr0:Room (2*n+1) X.A:=hr.mono (Nat.le_succ _)
 have go:GOk X G ca (bI G T W n):=⟨λf' x' hf'=>by
  obtain⟨c',hc',fc⟩:=pr.fn f' x' hf';obtain⟨fa',fd',ps',F',hm',hk',hb',hl'⟩:=ih f' x' c' _ hc' fc
  exact⟨fa',fd',ps',_,F',hr0,hm',hk',hb',hl'⟩,pr.cst,pr.blt,pr.ty,pr.exc,pr.sub,pr.nsub,pr.verr,⟨pr.att,λp hp=>by
   obtain⟨C,c',hC,cls,hc',fc⟩:=pr.meth p hp;obtain⟨fa',fd',ps',F',hm',hk',hb',hl'⟩:=ih p.2.2 p.2.1 c' _ hc' fc;exact⟨C,fa',fd',ps',_,hC,cls,hm',F',hr0,hb',hl'⟩,λc hc=>by
   obtain⟨ea,fI,fd',ps',F',hb',hl',ce,hf⟩:=pr.ini c hc;exact⟨⟨fI,fd',ps',_,F' P w base,hr.mono (by omega),hb',hl',ce,hf⟩,ea⟩,λf' hf'=>by
   obtain⟨x',fa',fd',ps',h1',h2',h3',h4',h5',F'⟩:=pr.sam f' hf';exact⟨x',fa',fd',ps',h1',h2',h3',h4',h5',F' P w base,hr.mono (by omega)⟩,λp hp=>by
   obtain⟨C,c',hC,hmC,hc',fc⟩:=pr.new p hp;obtain⟨fa',fd',ps',F',hm',hk',hb',hl'⟩:=ih p.2 _ c' _ hc' fc;exact⟨C,fa',fd',ps',_,hC,hmC,hm',F',hr,hb',hl'⟩⟩⟩
 refine⟨_,hk (W:=W) xo go (λ_=>rfl) VP (.inl rfl),m,ds.map some++List.replicate (c.ns-c.np) none,h,wd,?_,?_⟩
 ·show RSt K m H _ (vs.map some++List.replicate (N.length-vs.length) none);rw[show N.length-vs.length=c.ns-c.np by omega];exact RSt.start rd _
 ·cases hx:bO G (bI G T W n) W c.body (ds.map some++List.replicate (c.ns-c.np) none) h with
  |bad=>rw[hx] at o;exact o
  |exc c' r' h'=>
   rw[hx] at o;exact λm' H' s' g w' _ v=>o m' H' v g w'
  |ok fl h'=>
   rw[hx] at o;intro m' H' g w';cases fl with
   |rt d'=>exact λv rv=>o m' v H' g w' rv
   |nx r'=>exact λs' _=>o m' .non H' g w' .non
   |bk r'=>exact o.elim
   |ct r'=>exact o.elim
theorem LX(pr:PrOk K mg G ca T):∀n:Nat,IW P w K mg base G ca T W n:=by
 intro n
 induction n with
 |zero=>
  intro f x c R hc ⟨st,fa,fd,N,ps,qual,F,S,h1,h2,hb,hm,hk⟩;refine⟨fa,fd,ps,⟨λvs H Q E h=>h.1,λA outer s H args us vs Q E _ _ _ _ h=>?_⟩,hm,F.kp,hb,λds h e=>absurd rfl e⟩;obtain⟨_,m,h,ds,_,_,o⟩:=h;exact o.elim
 |succ n ih=>
  intro f x c R hc ⟨st,fa,fd,N,ps,qual,F,S,h1,h2,hb,hm,hk⟩;refine⟨fa,fd,ps,vD pr ih hc F S h1 h2 hk,hm,F.kp,hb,λds h e=>?_⟩;simp only[bI,hc] at e
  by_cases hn:ds.length=c.np
  ·rw[hn,h1]
  ·rw[if_neg hn] at e;exact absurd rfl e
end
theorem JL{K:W.Frag}{H:Hp}{a:Addr}{xs:List V}(hO:GR H)(h:SqL K H a xs):SqR K H a xs:=by
 rcases h with (h|h)|h
 ·rcases hO a with z|⟨o,ys,z⟩
  ·rw[z] at h;cases h
  ·rw[z] at h;cases h
 ·exact .inl h
 ·exact .inr h
def spO(K:W.Frag)(f:List D->Hh->Rs D)(n:Nat):Sp:=λvs H Q _=>vs.length=n/\∃m h ds d h',Wd K m h H/\RDs K m H ds vs/\f ds h=.ok d h'/\∀m' v H',Gr K m H m' H'->Wd K m' h' H'->RD K m' H' d v->Q v H'
theorem OD{K:W.Frag}{ca:Nat->Addr}{f:List D->Hh->Rs D}{n:Nat}{vs:List V}{H:Hp}{Q:VK}{E:XK}(h:spO K f n vs H Q E):DH K ca f n vs H Q E:=by
 obtain⟨hl,m,h,ds,d,h',w,r,e,c⟩:=h;exact⟨hl,m,h,ds,w,r,by rw[e];exact c⟩
theorem law_of{G:Gs}{T:Nat->Option Fc}{W:Nat}{l:PySem.W.OpenLaw}{n k lw:Nat}{q:Program}{loose:List Str}{XP:(Str->Option Value)->Heap->Prop}{YP:World->Heap->Prop}{d:DefRec}{K:Params->PySem.W.Frag}{x:Str}
 (run:∀ns:List Int,ns.length<=n->∃h',bI G T W (k+1) lw [.ref 0] [.ro (ns.map D.int)]=.ok (.bl true) h')
 (hn:l.most=some n)(hn2:n<=sizeLine)(hdf:d.params.defaults=[])(hr:Room (2*k+2+1) callerA)
 (hY:∀(w:World)(h:Heap),YP w h->(K w.params).In h)
 (F:∀(w:World)(mg:Str->Option Value)(fa:Addr)(h:Heap),(K w.params).In h->h.Ns mainGlobals mg->mg d.name=some (.ref fa)->
   ∃ca:Nat->Addr,PrOk (K w.params) mg G ca T/\∃fd:FuncData,(∀(s:Shared)(u:Value),BindsTo s fd ⟨[u],[]⟩ [(x,u)])/\∃c st N qual,T lw=some c/\Fun (K w.params) d.name qual st fa fd/\FnScope N [x] (aE st)/\1=c.np/\N.length=c.ns/\iF N (aE st) G c.body (aP st)):
 PySem.W.WalkO q loose XP YP l.row.toRowW d [] (λf vs=>PySem.call f vs):=by
 refine L2.walk_of (n:=n) (k:=2*k+2+1) (x:=x) (CX:=λw=>hR l.prog w) (sp:=λw=>spO (K w.params) (bI G T W (k+1) lw) 1) hn hn2 hdf hr hY (λw mg fa h KX hns hm=>?_) (λw H a ns hl hO hS=>?_) λ_ _ _ _ _ ⟨_,_,_,_,_,_,_,_,_,z⟩=>z
 ·obtain⟨ca,pr,fd,hb,c,st,N,qual,hc,Fu,S,h1,h2,hk⟩:=F w mg fa h KX hns hm;exact⟨fd,hb,λbase _ _=>(vD pr (LX pr k) hc Fu S h1 h2 hk).imp λ_ _ _ _=>OD⟩
 ·obtain⟨h',e⟩:=run ns hl;refine⟨rfl,[a],[.ro (ns.map D.int)],[.ref 0],.bl true,h',⟨rfl,λi j b o u e1 e2 e3 e4 w1 w2=>?_,λi o b e1 e2=>?_⟩,.cons (.ref rfl) .nil,e,?_⟩
  ·cases i with
   |zero=>
    cases j with
    |zero=>rfl
    |succ j=>simp at e4
   |succ i=>simp at e3
  ·cases i with
   |zero=>
    simp at e1 e2;subst e1;subst e2;exact⟨_,JL hO hS,RDs.ints ns⟩
   |succ i=>simp at e1
  ·intro m' v H' _ _ rd;cases rd;rfl
end Ng
end
section
namespace Ng
open PySem L2
section
variable {A B:Type}(G:Gs)(cl:Cl)(W:Nat)(r:Ev)(h:Hh)
theorem bQ{α:Type} [BEq α] [LawfulBEq α] [DecidableEq α](i j:α):(i==j)=decide (i=j):=by
 by_cases e:i=j
 ·subst e;simp
 ·rw[decide_eq_false e];exact beq_eq_false_iff_ne.mpr e
@[simp] theorem aC(a:A)(f:A->Hh->Rs B):(Rs.ok a h).bind f=f a h:=rfl
@[simp] theorem cR(a:A):(Rs.ok a h).nx=.ok a h:=rfl
@[simp] theorem nxBad:(Rs.bad:Rs A).nx=.bad:=rfl
@[simp] theorem nxExc(c:Nat)(r':Ev):(Rs.exc c r' h:Rs A).nx=.bad:=rfl
@[simp] theorem AL(a:A):(Rs.ok a h).inn r=.ok a h:=rfl
@[simp] theorem sZ(c:Nat)(r':Ev):(Rs.exc c r' h:Rs A).inn r=.exc c r h:=rfl
@[simp] theorem dA(c:Nat)(r':Ev)(f:A->Hh->Rs B):(Rs.exc c r' h:Rs A).bind f=.exc c r' h:=rfl
@[simp] theorem SA(f:A->Hh->Rs B):(Rs.bad:Rs A).bind f=.bad:=rfl
@[simp] theorem fQ(i:Nat):ev G cl (.var i) r h=(match r[i]? with|some (some d)=>.ok d h|_=>.bad):=by rw[ev]<;>rfl
@[simp] theorem CS(a:Option D)(l:Ev):(a::l)[0]? =some a:=rfl
@[simp] theorem gd0(a:D)(l:List D):(a::l)[0]? =some a:=rfl
@[simp] theorem aN(i:Int):ev G cl (.int i) r h=.ok (.int i) h:=by rw[ev]<;>rfl
@[simp] theorem pG(i:Bool):ev G cl (.bl i) r h=.ok (.bl i) h:=by rw[ev]<;>rfl
@[simp] theorem II:ev G cl .non r h=.ok .non h:=by rw[ev]<;>rfl
@[simp] theorem bL(i:Str):ev G cl (.str i) r h=.ok (.str i) h:=by rw[ev]<;>rfl
@[simp] theorem MA(i:Nat):ev G cl (.gc i) r h=(match G.csts[i]? with|some p=>.ok p.2 h|none=>.bad):=by rw[ev]<;>(cases G.csts[i]? <;>rfl)
@[simp] theorem QB(t:Ty):ev G cl (.ty t) r h=.ok (.ty t.nm) h:=by rw[ev]<;>rfl
@[simp] theorem gH(op:Bop)(a b:E):ev G cl (.bin op a b) r h=(ev G cl a r h).bind λx h=>(ev G cl b r h).bind λy h=>dB op x y h:=by rw[ev]<;>rfl
@[simp] theorem evNeg(a:E):ev G cl (.neg a) r h=(ev G cl a r h).bind λx h=>match x with|.int i=>.ok (.int (-i)) h|_=>.bad:=by rw[ev]<;>rfl
@[simp] theorem vI(op:Cop)(a b:E):ev G cl (.cmp op a b) r h=(ev G cl a r h).bind λx h=>(ev G cl b r h).bind λy h=>dN op x y h:=by rw[ev]<;>rfl
@[simp] theorem iR(a b:E):ev G cl (.and a b) r h=(ev G cl a r h).bind λx h=>match eY x h with|some true=>ev G cl b r h|some false=>.ok x h|none=>.bad:=by rw[ev]<;>rfl
@[simp] theorem mL(a b:E):ev G cl (.or a b) r h=(ev G cl a r h).bind λx h=>match eY x h with|some true=>.ok x h|some false=>ev G cl b r h|none=>.bad:=by rw[ev]<;>rfl
@[simp] theorem QD(a:E):ev G cl (.not a) r h=(ev G cl a r h).bind λx h=>match eY x h with|some b=>.ok (.bl (!b)) h|none=>.bad:=by rw[ev]<;>rfl
@[simp] theorem QE(c a b:E):ev G cl (.ite c a b) r h=(ev G cl c r h).bind λx h=>match eY x h with|some true=>ev G cl a r h|some false=>ev G cl b r h|none=>.bad:=by rw[ev]<;>rfl
@[simp] theorem FH(a b:E):ev G cl (.ix a b) r h=(ev G cl a r h).bind λx h=>(ev G cl b r h).bind λy h=>kK x y h:=by rw[ev]<;>rfl
@[simp] theorem kH(l:Es):ev G cl (.tup l) r h=(cM G cl l r h).bind λds h=>if ds.length<=1000 then .ok (.tup ds) h else .bad:=by rw[ev]<;>rfl
@[simp] theorem vG(l:Es):ev G cl (.lst l) r h=(cM G cl l r h).bind λds h=>if ds.length<=1000 then .ok (.ref h.length) (h++ [.lst ds]) else .bad:=by rw[ev]<;>rfl
@[simp] theorem BA(f:Nat)(l:Es):ev G cl (.call f l) r h=(cM G cl l r h).bind λds h=>(cl f ds h).nx:=by rw[ev]<;>rfl
@[simp] theorem nX(f:Blt)(l:Es):ev G cl (.blt f l) r h=(cM G cl l r h).bind λds h=>gI f ds h:=by rw[ev]<;>rfl
@[simp] theorem IK(o e:E):ev G cl (.app o e) r h=(ev G cl o r h).bind λx h=>if eB x h=true then(ev G cl e r h).bind λy h=>eM x y h else .bad:=by rw[ev]<;>rfl
@[simp] theorem pF:kG G cl .nil r h=.ok true h:=by rw[kG]<;>rfl
@[simp] theorem FG(e:E)(l:Es):kG G cl (.cons e l) r h=(ev G cl e r h).bind λx h=>match eY x h with|some true=>kG G cl l r h|some false=>.ok false h|none=>.bad:=by rw[kG]<;>rfl
theorem mM(t:Tg)(k:Ck)(it cs:Es)(e:E)(N:List Str)(cap:List Nat):ev G cl (.comp t k it cs e N cap) r h=(cM G cl it r h).bind λxs h=>(dC t (kG G cl cs) (ev G cl e) h.length k xs h (aR N cap r) (h++ [.lst []])).bind λ_ h'=>.ok (.ref h.length) h':=by rw[ev]<;>rfl
@[simp] theorem cT:cM G cl .nil r h=.ok [] h:=by rw[cM]<;>rfl
@[simp] theorem aO(e:E)(l:Es):cM G cl (.cons e l) r h=(ev G cl e r h).bind λd h=>(cM G cl l r h).bind λds h=>.ok (d::ds) h:=by rw[cM]<;>rfl
@[simp] theorem lB(t:Tg)(e:E):xs G cl W (.asg t e) r h=(ev G cl e r h).nx.bind λx h=>match dO t x r with|some r1=>.ok (.nx r1) h|none=>.bad:=by rw[xs]<;>rfl
@[simp] theorem GV(i:Nat)(e:E):xs G cl W (.asc i e) r h=(ev G cl e r h).nx.bind λx h=>.ok (.nx (r.set i (some x))) h:=by rw[xs]<;>rfl
@[simp] theorem NL(e:E):xs G cl W (.ex e) r h=(ev G cl e r h).nx.bind λ_ h=>.ok (.nx r) h:=by rw[xs]<;>rfl
@[simp] theorem pV(e:E):xs G cl W (.ret e) r h=(ev G cl e r h).nx.bind λx h=>.ok (.rt x) h:=by rw[xs]<;>rfl
@[simp] theorem jX(c:E)(a b:Ss):xs G cl W (.iff c a b) r h=(ev G cl c r h).nx.bind λx h=>match eY x h with|some true=>bO G cl W a r h|some false=>bO G cl W b r h|none=>.bad:=by rw[xs]<;>rfl
@[simp] theorem JB(t:Tg)(e:E)(b:Ss):xs G cl W (.forr t (.r1 e) b) r h=(ev G cl e r h).nx.bind λx h=>match x with|.int j=>if nB j then dJ t (bO G cl W b) (cQ 0 j) r h else .bad|_=>.bad:=by rw[xs]<;>rfl
@[simp] theorem JA(t:Tg)(e e':E)(b:Ss):xs G cl W (.forr t (.r2 e e') b) r h=(ev G cl e r h).nx.bind λx h=>(ev G cl e' r h).nx.bind λy h=>match x,y with|.int i,.int j=>if nB i/\nB j then dJ t (bO G cl W b) (cQ i j) r h else .bad|_,_=>.bad:=by rw[xs]<;>rfl
@[simp] theorem SN(t:Tg)(e:E)(b:Ss):xs G cl W (.forr t (.sq e) b) r h=(ev G cl e r h).nx.bind λx h=>FD W t (bO G cl W b) x r h:=by rw[xs]<;>rfl
@[simp] theorem GT(c:E)(b:Ss):xs G cl W (.whl c b) r h=dD (ev G cl c) (bO G cl W b) W r h:=by rw[xs]<;>rfl
@[simp] theorem oH(c:Nat)(x:Str):xs G cl W (.rais c x) r h=.exc c r h:=by rw[xs]<;>rfl
@[simp] theorem SR(t:Tg)(f:Nat)(l:Es):xs G cl W (.asgX t f l) r h=(cM G cl l r h).nx.bind λds h=>((cl f ds h).inn r).bind λx h=>match dO t x r with|some r1=>.ok (.nx r1) h|none=>.bad:=by rw[xs]<;>rfl
@[simp] theorem SL(f:Nat)(l:Es):xs G cl W (.retX f l) r h=(cM G cl l r h).nx.bind λds h=>((cl f ds h).inn r).bind λx h=>.ok (.rt x) h:=by rw[xs]<;>rfl
@[simp] theorem xsExX(f:Nat)(l:Es):xs G cl W (.exX f l) r h=(cM G cl l r h).nx.bind λds h=>((cl f ds h).inn r).bind λ_ h=>.ok (.nx r) h:=by rw[xs]<;>rfl
@[simp] theorem GU(b:Ss)(g:Nat)(j:Option Nat)(hs:List HS):xs G cl W (.tryx b g j hs) r h=mV G g j hs (bO G cl W b r h):=by rw[xs]<;>rfl
@[simp] theorem evMxd(mx:Bool)(a b:E):ev G cl (.mxd mx a b) r h=(ev G cl a r h).bind λx h=>(ev G cl b r h).bind λy h=>IT mx x y h:=by rw[ev]<;>rfl
@[simp] theorem evIns(o i e:E):ev G cl (.ins o i e) r h=(ev G cl o r h).bind λx h=>if eB x h=true then(ev G cl i r h).bind λy h=>(ev G cl e r h).bind λz h=>PN x y z h else .bad:=by rw[ev]<;>rfl
@[simp] theorem evLrg(a:E):ev G cl (.lrg a) r h=(ev G cl a r h).bind λx h=>PF x h:=by rw[ev]<;>rfl
@[simp] theorem MB(ks:List Str)(vs:Es):ev G cl (.disp ks vs) r h=(cM G cl vs r (h++ [.dct []])).bind λds h'=>rL ks ds h.length h':=by rw[ev]<;>rfl
@[simp] theorem SM:xs G cl W .pass r h=.ok (.nx r) h:=by rw[xs]<;>rfl
@[simp] theorem xsBrk:xs G cl W .brk r h=.ok (.bk r) h:=by rw[xs]<;>rfl
@[simp] theorem SQ:xs G cl W .cont r h=.ok (.ct r) h:=by rw[xs]<;>rfl
@[simp] theorem xsStx(o i e:E):xs G cl W (.stx o i e) r h=(ev G cl e r h).nx.bind λz h=>(ev G cl o r h).nx.bind λx h=>(ev G cl i r h).nx.bind λy h=>(OA x y z h).nx.bind λ_ h=>.ok (.nx r) h:=by rw[xs]<;>rfl
@[simp] theorem aT:bO G cl W .nil r h=.ok (.nx r) h:=by rw[bO]<;>rfl
@[simp] theorem fT(s:S)(l:Ss):bO G cl W (.cons s l) r h=(xs G cl W s r h).bind λfl h=>match fl with|.nx r2=>bO G cl W l r2 h|f=>.ok f h:=by rw[bO]<;>rfl
theorem aL{s:S}{l:Ss}{r r':Ev}{h h':Hh}{G:Gs}{cl:Cl}{W:Nat}(e:xs G cl W s r h=.ok (.nx r') h'):bO G cl W (.cons s l) r h=bO G cl W l r' h':=by rw[fT,e];rfl
theorem aU{s:S}{l:Ss}{r:Ev}{d:D}{h h':Hh}{G:Gs}{cl:Cl}{W:Nat}(e:xs G cl W s r h=.ok (.rt d) h'):bO G cl W (.cons s l) r h=.ok (.rt d) h':=by rw[fT,e];rfl
@[simp] theorem qK(i:Nat)(d:D):dO (.nm i) d r=some (r.set i (some d)):=rfl
@[simp] theorem setTp(l:List Nat)(ds:List D):dO (.tp l) (.tup ds) r=if ds.length=l.length then some (dH l ds r) else none:=rfl
@[simp] theorem RJ:dH [] [] r=r:=rfl
@[simp] theorem RI(i:Nat)(is:List Nat)(d:D)(ds:List D):dH (i::is) (d::ds) r=dH is ds (r.set i (some d)):=rfl
@[simp] theorem jV(i j:Int):dB .add (.int i) (.int j) h=.ok (.int (i+j)) h:=rfl
@[simp] theorem xX(i j:Int):dB .sub (.int i) (.int j) h=.ok (.int (i-j)) h:=rfl
theorem iW{i j:Int}(a: -18446744073709551616<i)(b:i<18446744073709551616):dB .mul (.int i) (.int j) h=.ok (.int (i*j)) h:=by
 show(if _ then _ else _)=_
 rw[if_pos (.inl ⟨a,b⟩)]
theorem CK{i j:Int}(a: -18446744073709551616<j)(b:j<18446744073709551616):dB .mul (.int i) (.int j) h=.ok (.int (i*j)) h:=by
 show(if _ then _ else _)=_
 rw[if_pos (.inr ⟨a,b⟩)]
theorem GL{i j:Int}(a:0<j)(b:j<1073741824):dB .fdiv (.int i) (.int j) h=.ok (.int (i/j)) h:=by
 show(if _ then _ else _)=_
 rw[if_pos ⟨a,b⟩]
theorem eX{i j:Int}(a:0<j):dB .mod (.int i) (.int j) h=.ok (.int (i%j)) h:=by
 show(if _ then _ else _)=_
 rw[if_pos a]
@[simp] theorem CJ:dB .pow (.int 10) (.int 18) h=.ok (.int 1000000000000000000) h:=rfl
@[simp] theorem WE:dB .pow (.int 10) (.int 27) h=.ok (.int 1000000000000000000000000000) h:=rfl
@[simp] theorem cLt(i j:Int):dN .lt (.int i) (.int j) h=.ok (.bl (decide (i<j))) h:=rfl
@[simp] theorem cLe(i j:Int):dN .le (.int i) (.int j) h=.ok (.bl (decide (i<=j))) h:=rfl
@[simp] theorem WD(i j:Int):dN .gt (.int i) (.int j) h=.ok (.bl (decide (j<i))) h:=rfl
@[simp] theorem cGe(i j:Int):dN .ge (.int i) (.int j) h=.ok (.bl (decide (j<=i))) h:=rfl
@[simp] theorem GJ(i j:Int):dN .eq (.int i) (.int j) h=.ok (.bl (decide (i=j))) h:=by rw[<- bQ];rfl
@[simp] theorem MN(i j:Int):dN .ne (.int i) (.int j) h=.ok (.bl (!decide (i=j))) h:=by rw[<- bQ];rfl
@[simp] theorem cEqB(i j:Bool):dN .eq (.bl i) (.bl j) h=.ok (.bl (decide (i=j))) h:=by rw[<- bQ];rfl
@[simp] theorem cNeB(i j:Bool):dN .ne (.bl i) (.bl j) h=.ok (.bl (!decide (i=j))) h:=by rw[<- bQ];rfl
@[simp] theorem jU(i j:Str):dN .eq (.str i) (.str j) h=.ok (.bl (decide (i=j))) h:=by rw[<- bQ];rfl
@[simp] theorem GI(i j:Str):dN .ne (.str i) (.str j) h=.ok (.bl (!decide (i=j))) h:=by rw[<- bQ];rfl
@[simp] theorem cNeT(a b:List D):dN .ne (.tup a) (.tup b) h=(match pH (jA 19) a b with|some k=>.ok (.bl (!k)) h|none=>.bad):=rfl
@[simp] theorem cEqT(a b:List D):dN .eq (.tup a) (.tup b) h=(match pH (jA 19) a b with|some k=>.ok (.bl k) h|none=>.bad):=rfl
@[simp] theorem eqL0(f:D->D->Option Bool):pH f [] []=some true:=rfl
@[simp] theorem eqL1(f:D->D->Option Bool)(x y:D)(xs ys:List D):pH f (x::xs) (y::ys)=(match f x y,pH f xs ys with|some a,some b=>some (a&&b)|_,_=>none):=rfl
@[simp] theorem eqDI(n:Nat)(i j:Int):jA n (.int i) (.int j)=some (decide (i=j)):=by rw[<- bQ];cases n<;>rfl
@[simp] theorem eqDS(n:Nat)(i j:Str):jA n (.str i) (.str j)=some (decide (i=j)):=by rw[<- bQ];cases n<;>rfl
@[simp] theorem eqDT(n:Nat)(a b:List D):jA (n+1) (.tup a) (.tup b)=pH (jA n) a b:=rfl
@[simp] theorem isInt(i:Int):cD (.int i) (.ty "int") h=.ok (.bl true) h:=rfl
@[simp] theorem VG(i:Int):cD (.int i) (.ty "bool") h=.ok (.bl false) h:=rfl
@[simp] theorem VE(i:Int):cD (.int i) (.ty "tuple") h=.ok (.bl false) h:=rfl
@[simp] theorem VF(i:Int):cD (.int i) (.ty "list") h=.ok (.bl false) h:=rfl
@[simp] theorem RW(i:Int):cD (.int i) (.tup [.ty "tuple",.ty "list"]) h=.ok (.bl false) h:=rfl
@[simp] theorem UX(l:List D):cD (.tup l) (.ty "tuple") h=.ok (.bl true) h:=rfl
@[simp] theorem UY(l:List D):cD (.tup l) (.ty "list") h=.ok (.bl false) h:=rfl
@[simp] theorem RT(l:List D):cD (.tup l) (.tup [.ty "tuple",.ty "list"]) h=.ok (.bl true) h:=rfl
@[simp] theorem VA(l:List D):cD (.tup l) (.ty "bool") h=.ok (.bl false) h:=rfl
@[simp] theorem UZ(l:List D):cD (.tup l) (.ty "int") h=.ok (.bl false) h:=rfl
@[simp] theorem nmInt:Ty.int.nm="int":=rfl
@[simp] theorem UO:Ty.bool.nm="bool":=rfl
@[simp] theorem nmStr:Ty.str.nm="str":=rfl
@[simp] theorem nmTup:Ty.tuple.nm="tuple":=rfl
@[simp] theorem nmLst:Ty.list.nm="list":=rfl
@[simp] theorem WC(x:D):dN .is x .non h=.ok (.bl (gN x)) h:=rfl
@[simp] theorem cIsNt(x:D):dN .isnot x .non h=.ok (.bl (!gN x)) h:=rfl
@[simp] theorem pT(b:Bool):eY (.bl b) h=some b:=rfl
@[simp] theorem tInt(i:Int):eY (.int i) h=some (i != 0):=rfl
@[simp] theorem TZ(l:List D):dY (.tup l) h=some l:=rfl
@[simp] theorem oN(n:Nat):dY (.ref n) h=aK h n:=rfl
@[simp] theorem iTup(l:List D)(i:Int):kK (.tup l) (.int i) h=(match pU l i with|some d=>.ok d h|none=>.bad):=rfl
theorem jL{n:Nat}{l:List D}(i:Int)(e:aK h n=some l):kK (.ref n) (.int i) h=(match pU l i with|some d=>.ok d h|none=>.bad):=by
 have d0:eU h (.ref n)=none:=by
  show(match h[n]? with|some (.dct l)=>some l|_=>none)=none
  unfold aK at e;cases q:h[n]? with
  |none=>rfl
  |some o=>
   cases o with
   |lst l'=>rfl
   |ro l'=>rfl
   |dct l'=>rw[q] at e;cases e
   |dtt l'=>rfl
   |ded=>rfl
   |dtf l'=>rfl
   |ins c f=>rfl
 have d1:iS h (.ref n)=none:=by
  show(match h[n]? with|some (.dtf l)=>some l|_=>none)=none
  unfold aK at e;cases q:h[n]? with
  |none=>rfl
  |some o=>
   cases o with
   |dtf l'=>rw[q] at e;cases e
   |_=>rfl
 have e2:dY (.ref n) h=some l:=e;have e3:kK (.ref n) (.int i) h=(match eU h (.ref n) with|some l=>LN l (.int i) h|none=>match iS h (.ref n) with|some l=>RS l (.int i) h|none=>LM (.ref n) (.int i) h):=rfl;rw[e3,d0,d1];show LM (.ref n) (.int i) h=_;unfold LM;rw[e2]<;>rfl
theorem PU{n:Nat}{l:List (cH×D)}(y:D)(e:h[n]? =some (.dct l)):kK (.ref n) y h=LN l y h:=by
 have d0:eU h (.ref n)=some l:=by
  show(match h[n]? with|some (.dct l)=>some l|_=>none)=some l
  rw[e]
 show(match eU h (.ref n) with|some l=>LN l y h|none=>match iS h (.ref n) with|some l=>RS l y h|none=>LM (.ref n) y h)=_
 rw[d0]
noncomputable def UT(x:D)(h:Hh):Rs D:=match x with
 |.str z=>if z.length<=sizeLine then .ok (.int z.length) h else .bad
 |x=>match iS h x with
  |some l=>.ok (.int l.length) h
  |none=>.bad
@[simp] theorem xY(x:D):gI .len [x] h=(match dY x h with|some l=>.ok (.int l.length) h|none=>UT x h):=rfl
@[simp] theorem evAtt(o:E)(cn f:Str):ev G cl (.att o cn f) r h=(ev G cl o r h).bind λx h=>QP cn x f h:=by rw[ev]<;>rfl
@[simp] theorem evNew(cn:Str)(f:Nat)(l:Es):ev G cl (.new cn f l) r h=(cM G cl l r h).bind λds h=>(EM cn (cl f) ds h).nx:=by rw[ev]<;>rfl
@[simp] theorem evMth(o:E)(cn m:Str)(f:Nat)(l:Es):ev G cl (.mth o cn m f l) r h=(ev G cl o r h).bind λx h=>if HM x cn m h=true then(cM G cl l r h).bind λds h=>(cl f (x::ds) h).nx else .bad:=by rw[ev]<;>rfl
@[simp] theorem IH(a b:E):ev G cl (.slT a b) r h=(ev G cl a r h).bind λx h=>(ev G cl b r h).bind λy h=>JQ x y h:=by rw[ev]<;>rfl
@[simp] theorem QC(a b:E):ev G cl (.slA a b) r h=(ev G cl a r h).bind λx h=>(ev G cl b r h).bind λy h=>JR x y h:=by rw[ev]<;>rfl
@[simp] theorem IG(a b:E):ev G cl (.slZ a b) r h=(ev G cl a r h).bind λx h=>(ev G cl b r h).bind λy h=>JP x y h:=by rw[ev]<;>rfl
@[simp] theorem evChn(op op':Cop)(a b c:E):ev G cl (.chn op op' a b c) r h=(ev G cl a r h).bind λx h=>(ev G cl b r h).bind λy h=>(dN op x y h).bind λp h=>match p with
 |.bl true=>(ev G cl c r h).bind λz h=>dN op' y z h
 |.bl false=>.ok (.bl false) h
 |_=>.bad:=by rw[ev]<;>rfl
@[simp] theorem evRev(o:E):ev G cl (.rev o) r h=(ev G cl o r h).bind λx h=>OH x h:=by rw[ev]<;>rfl
@[simp] theorem ST(l:List Nat)(e:E):xs G cl W (.asgL l e) r h=(ev G cl e r h).nx.bind λx h=>match x with
 |.ref n=>(match aK h n with
  |some ds=>if ds.length=l.length then .ok (.nx (dH l ds r)) h else .bad
  |none=>.bad)
 |_=>.bad:=by rw[xs]<;>rfl
@[simp] theorem xsExN(cn:Str)(f:Nat)(l:Es):xs G cl W (.exN cn f l) r h=(cM G cl l r h).nx.bind λds h=>((EM cn (cl f) ds h).inn r).bind λ_ h=>.ok (.nx r) h:=by rw[xs]<;>rfl
@[simp] theorem xsSfl(o:E)(cn f:Str)(e:E):xs G cl W (.sfl o cn f e) r h=(ev G cl e r h).nx.bind λz h=>(ev G cl o r h).nx.bind λx h=>(OG cn x z f h).nx.bind λ_ h=>.ok (.nx r) h:=by rw[xs]<;>rfl
@[simp] theorem bIs(x y:D):gI .isinst [x,y] h=cD x y h:=rfl
@[simp] theorem bIntI(i:Int):gI .int [.int i] h=.ok (.int i) h:=rfl
@[simp] theorem bIntB(i:Bool):gI .int [.bl i] h=.ok (.int (if i then 1 else 0)) h:=rfl
@[simp] theorem bList(x:D):gI .list [x] h=(match dY x h with|some l=>.ok (.ref h.length) (h++ [.lst l])|none=>.bad):=rfl
@[simp] theorem iD(n:Nat):eB (.ref n) h=(aK h n).isSome:=rfl
@[simp] theorem MQ(n:Nat)(y:D):eM (.ref n) y h=(match h[n]? with|some (.lst l)=>if l.length<1000000 then .ok .non (h.set n (.lst (l++ [y]))) else .bad|_=>.bad):=rfl
@[simp] theorem bD(l:List D):aK (h++ [.lst l]) h.length=some l:=by simp[aK,HN]
theorem bX{n:Nat}{l:List D}(o:List O)(e:aK h n=some l):aK (h++o) n=some l:=by
 unfold aK at e⊢;cases q:h[n]? with
 |none=>rw[q] at e;cases e
 |some u=>
  rw[List.getElem?_append_left (Ze.mp q).1,q];rw[q] at e;exact e
@[simp] theorem eS(o:O):(h++ [o])[h.length]? =some o:=by simp
@[simp] theorem lN(o o':O):(h++ [o]).set h.length o'=h++ [o']:=by simp
@[simp] theorem forS0(t:Tg)(b:Ev->Hh->Rs Fl):dJ t b [] r h=.ok (.nx r) h:=rfl
@[simp] theorem AQ(t:Tg)(b:Ev->Hh->Rs Fl)(d:D)(ds:List D):dJ t b (d::ds) r h=(match dO t d r with|none=>.bad|some r1=>(b r1 h).bind λfl h=>match fl with|.nx r2=>dJ t b ds r2 h|.ct r2=>dJ t b ds r2 h|.bk r2=>.ok (.nx r2) h|.rt d=>.ok (.rt d) h):=rfl
@[simp] theorem forDT(t:Tg)(b:Ev->Hh->Rs Fl)(l:List D):FD W t b (.tup l) r h=dJ t b l r h:=rfl
@[simp] theorem forDR(t:Tg)(b:Ev->Hh->Rs Fl)(n:Nat):FD W t b (.ref n) r h=FC t b n W 0 r h:=rfl
@[simp] theorem endRt(d:D):cZ (.rt d) h=.ok d h:=rfl
@[simp] theorem endNx(d:Ev):cZ (.nx d) h=.ok .non h:=rfl
end
theorem bY{G:Gs}{T:Nat->Option Fc}{W n f:Nat}{c:Fc}{ds:List D}{h:Hh}(hc:T f=some c)(hl:ds.length=c.np):bI G T W (n+1) f ds h=(bO G (bI G T W n) W c.body (ds.map some++List.replicate (c.ns-c.np) none) h).bind cZ:=by
 simp only[bI,hc];rw[if_pos hl]
noncomputable def xM:E:=(.and (.cmp .gt (.var 3) (.int 0)) (.cmp .lt (.blt .len (.cons (.var 5) .nil)) (.var 2)))
noncomputable def FS:Ss:=(.cons (.ex (.app (.var 5) (.bin .mod (.var 3) (.int 1013)))) (.cons (.asg (.nm 3) (.bin .fdiv (.var 3) (.int 1013))) .nil))
noncomputable def rN:E:=(.cmp .lt (.blt .len (.cons (.var 5) .nil)) (.var 2))
noncomputable def xL:Ss:=(.cons (.asg (.nm 6) (.bin .add (.blt .len (.cons (.var 5) .nil)) (.int 1))) (.cons (.asg (.nm 4) (.bin .mod (.bin .add (.bin .add (.bin .mul (.var 4) (.int 48271)) (.bin .mul (.bin .mul (.var 6) (.var 6)) (.int 6133))) (.int 17)) (.int 2147483647))) (.cons (.ex (.app (.var 5) (.bin .mod (.bin .mod (.bin .mul (.bin .mod (.var 4) (.int 65521)) (.bin .add (.bin .mod (.bin .fdiv (.var 4) (.int 65521)) (.int 32749)) (.int 1))) (.int 1000003)) (.int 1013)))) .nil)))
def InR(row:List Int):Prop:=∀v∈row,0<=v/\v<1013
theorem InR.snoc{row:List Int}{v:Int}(h:InR row)(a:0<=v)(b:v<1013):InR (row++ [v]):=λu hu=>by
 rcases List.mem_append.mp hu with hu|hu
 ·exact h u hu
 ·have:u=v:=by simpa using hu
  subst this;exact⟨a,b⟩
section
variable (G:Gs)(cl:Cl)(W:Nat)(h:Hh)
theorem dW1(M:Nat)(hM:M<=1000)(d0 d1 d4:Option D)(d6:Option D):∀(k:Nat)(row:List Int)(cell:Int),row.length<=M->InR row->M-row.length<k->
 ∃row' cell',row'.length<=M/\InR row'/\dD (ev G cl xM) (bO G cl W FS) k [d0,d1,some (.int M),some (.int cell),d4,some (.ref h.length),d6] (h++ [.lst (row.map D.int)])
  =.ok (.nx [d0,d1,some (.int M),some (.int cell'),d4,some (.ref h.length),d6]) (h++ [.lst (row'.map D.int)])
 |0,_,_,_,_,hk=>by omega
 |k+1,row,cell,hl,hr,hk=>by
  by_cases hc:0<cell
  ·by_cases hm:row.length<M
   ·have hm':((row.length:Int)<(M:Int)):=by omega
    have hb:InR (row++ [cell%1013]):=hr.snoc (Int.emod_nonneg _ (by decide)) (Int.emod_lt_of_pos _ (by decide));obtain⟨row',cell',h1,h2,h3⟩:=dW1 M hM d0 d1 d4 d6 k (row++ [cell%1013]) (cell/1013) (by simp;omega) hb (by simp;omega);refine⟨row',cell',h1,h2,?_⟩;rw[<- h3];have hz:row.length<1000000:=by omega
    simp (disch:=omega) [dD,xM,FS,hc,hm',hm,hz,eX,GL]
   ·refine⟨row,cell,hl,hr,?_⟩;have hm':¬((row.length:Int)<(M:Int)):=by omega
    simp[dD,xM,hc,hm',hm]
  ·refine⟨row,cell,hl,hr,?_⟩;simp[dD,xM,hc]
noncomputable def ND(mark seed:Int):Int:=(seed*48271+mark*mark*6133+17)%2147483647
noncomputable def RR(s:Int):Int:=(s%65521)*(s/65521%32749+1)%1000003%1013
theorem dT2(d0 d1 d2 d3 d5:Option D)(mark seed:Int)(hm:0<=mark)(hm2:mark<100000)(hh:Hh):
 xs G cl W (.asg (.nm 4) (.bin .mod (.bin .add (.bin .add (.bin .mul (.var 4) (.int 48271)) (.bin .mul (.bin .mul (.var 6) (.var 6)) (.int 6133))) (.int 17)) (.int 2147483647))) [d0,d1,d2,d3,some (.int seed),d5,some (.int mark)] hh
  =.ok (.nx [d0,d1,d2,d3,some (.int (ND mark seed)),d5,some (.int mark)]) hh:=by
 have m1:dB .mul (.int mark) (.int mark) hh=.ok (.int (mark*mark)) hh:=iW hh (by omega) (by omega);have m2:dB .mul (.int seed) (.int 48271) hh=.ok (.int (seed*48271)) hh:=CK hh (by omega) (by omega);have m3:∀x:Int,dB .mul (.int x) (.int 6133) hh=.ok (.int (x*6133)) hh:=λx=>CK hh (by omega) (by omega);have q1:∀x:Int,dB .mod (.int x) (.int 2147483647) hh=.ok (.int (x%2147483647)) hh:=λx=>eX hh (by omega);have e1:∀x:Int,(seed*48271+mark*mark*6133+17)%2147483647=ND mark seed:=λ_=>rfl;simp only[lB,gH,fQ,List.getElem?_cons_succ,CS,aN,aC,cR,m1,m2,m3,jV,q1,qK,List.set_cons_succ,List.set_cons_zero,e1 0]
theorem dT3(d0 d1 d2 d3 d6:Option D)(row:List Int)(seed:Int)(hz:row.length<1000000):
 xs G cl W (.ex (.app (.var 5) (.bin .mod (.bin .mod (.bin .mul (.bin .mod (.var 4) (.int 65521)) (.bin .add (.bin .mod (.bin .fdiv (.var 4) (.int 65521)) (.int 32749)) (.int 1))) (.int 1000003)) (.int 1013)))) [d0,d1,d2,d3,some (.int seed),some (.ref h.length),d6] (h++ [.lst (row.map D.int)])
  =.ok (.nx [d0,d1,d2,d3,some (.int seed),some (.ref h.length),d6]) (h++ [.lst ((row++ [RR seed]).map D.int)]):=by
 have hk:=Int.emod_nonneg seed (show(65521:Int)≠0 by decide);have hk2:=Int.emod_lt_of_pos seed (show(0:Int)<65521 by decide);have m4:∀(x:Int) hh,dB .mul (.int (seed%65521)) (.int x) hh=.ok (.int ((seed%65521)*x)) hh:=λx hh=>iW hh (by omega) (by omega);have q2:∀(x:Int) hh,dB .mod (.int x) (.int 65521) hh=.ok (.int (x%65521)) hh:=λx hh=>eX hh (by omega);have q3:∀(x:Int) hh,dB .mod (.int x) (.int 32749) hh=.ok (.int (x%32749)) hh:=λx hh=>eX hh (by omega);have q4:∀(x:Int) hh,dB .mod (.int x) (.int 1000003) hh=.ok (.int (x%1000003)) hh:=λx hh=>eX hh (by omega);have q5:∀(x:Int) hh,dB .mod (.int x) (.int 1013) hh=.ok (.int (x%1013)) hh:=λx hh=>eX hh (by omega);have q6:∀(x:Int) hh,dB .fdiv (.int x) (.int 65521) hh=.ok (.int (x/65521)) hh:=λx hh=>GL hh (by omega) (by omega);have e2:∀s:Int,(s%65521)*(s/65521%32749+1)%1000003%1013=RR s:=λ_=>rfl;simp only[NL,gH,fQ,List.getElem?_cons_succ,CS,aN,aC,cR,IK,iD,bD,Option.isSome_some,if_true,jV,q2,q3,q4,q5,q6,m4,e2,MQ,eS,Zc,hz,if_pos,lN,List.map_append,Zh,List.map_nil]
theorem dT1(d0 d1 d2 d3 d4 d6:Option D)(row:List Int):
 xs G cl W (.asg (.nm 6) (.bin .add (.blt .len (.cons (.var 5) .nil)) (.int 1))) [d0,d1,d2,d3,d4,some (.ref h.length),d6] (h++ [.lst (row.map D.int)])
  =.ok (.nx [d0,d1,d2,d3,d4,some (.ref h.length),some (.int ((row.length:Int)+1))]) (h++ [.lst (row.map D.int)]):=by
 simp only[lB,gH,nX,aO,cT,fQ,List.getElem?_cons_succ,CS,aN,aC,cR,xY,oN,bD,Zc,jV,qK,List.set_cons_succ,List.set_cons_zero]
theorem FR(d0 d1 d2 d3 d6:Option D)(row:List Int)(seed:Int)(hz:row.length<1000):
 bO G cl W xL [d0,d1,d2,d3,some (.int seed),some (.ref h.length),d6] (h++ [.lst (row.map D.int)])
  =.ok (.nx [d0,d1,d2,d3,some (.int (ND ((row.length:Int)+1) seed)),some (.ref h.length),some (.int ((row.length:Int)+1))]) (h++ [.lst ((row++ [RR (ND ((row.length:Int)+1) seed)]).map D.int)]):=by
 rw[xL,aL (dT1 G cl W h d0 d1 d2 d3 _ d6 row),aL (dT2 G cl W d0 d1 d2 d3 _ _ seed (by omega) (by omega) _),aL (dT3 G cl W h _ _ _ _ _ row _ (by omega)),aT]
theorem dW2(M:Nat)(hM:M<=1000)(d0 d1 d3:Option D):∀(k:Nat)(row:List Int)(seed:Int)(d6:Option D),row.length<=M->InR row->M-row.length<k->
 ∃row' seed' d6',row'.length=M/\InR row'/\dD (ev G cl rN) (bO G cl W xL) k [d0,d1,some (.int M),d3,some (.int seed),some (.ref h.length),d6] (h++ [.lst (row.map D.int)])
  =.ok (.nx [d0,d1,some (.int M),d3,some (.int seed'),some (.ref h.length),d6']) (h++ [.lst (row'.map D.int)]):=by
 intro k
 induction k with
 |zero=>intro row seed d6 _ _ hk;omega
 |succ k ih=>
  intro row seed d6 hl hr hk
  by_cases hm:row.length<M
  ·have hm':((row.length:Int)<(M:Int)):=by omega
   obtain⟨row',seed',d6',h1,h2,h3⟩:=ih (row++ [RR (ND ((row.length:Int)+1) seed)]) (ND ((row.length:Int)+1) seed) (some (.int ((row.length:Int)+1))) (by simp;omega)
    (hr.snoc (Int.emod_nonneg _ (by decide)) (Int.emod_lt_of_pos _ (by decide))) (by simp;omega)
   refine⟨row',seed',d6',h1,h2,?_⟩;rw[<- h3];have hc:ev G cl rN [d0,d1,some (.int M),d3,some (.int seed),some (.ref h.length),d6] (h++ [.lst (row.map D.int)])=.ok (.bl true) (h++ [.lst (row.map D.int)]):=by simp[rN,hm]
   simp only[dD,hc,aC,cR,pT,FR G cl W h d0 d1 _ d3 d6 row seed (by omega)]
  ·refine⟨row,seed,d6,by omega,hr,?_⟩;have hc:ev G cl rN [d0,d1,some (.int M),d3,some (.int seed),some (.ref h.length),d6] (h++ [.lst (row.map D.int)])=.ok (.bl false) (h++ [.lst (row.map D.int)]):=by simp[rN,hm]
   simp only[dD,hc,aC,cR,pT]
noncomputable def QK:S:=.iff (.cmp .lt (.var 1) (.blt .len (.cons (.var 0) .nil))) (.cons (.asg (.nm 3) (.ix (.var 0) (.var 1))) .nil) (.cons (.iff (.cmp .gt (.blt .len (.cons (.var 0) .nil)) (.int 0)) (.cons (.asg (.nm 3) (.bin .add (.bin .add (.bin .mod (.ix (.var 0) (.bin .mod (.var 1) (.blt .len (.cons (.var 0) .nil)))) (.int 999983)) (.bin .mul (.bin .mul (.var 1) (.var 1)) (.int 97))) (.int 1))) .nil) .nil) .nil)
noncomputable def BH:Ss:=(.cons (.asg (.nm 3) (.bin .add (.bin .mul (.int 7) (.var 1)) (.int 1))) (.cons QK (.cons (.asg (.nm 4) (.bin .add (.bin .add (.bin .mod (.var 3) (.int 999983)) (.bin .mul (.int 31) (.var 1))) (.int 5))) (.cons (.asg (.nm 5) (.lst .nil)) (.cons (.iff (.cmp .ge (.var 3) (.bin .pow (.int 10) (.int 18))) (.cons (.whl xM FS) .nil) .nil) (.cons (.whl rN xL) (.cons (.ret (.var 5)) .nil)))))))
theorem CL{l:List Int}{i:Int}(a:0<=i)(b:i<l.length):∃v,pU (l.map D.int) i=some (.int v):=by
 have hb:i.toNat<l.length:=by omega
 refine⟨l[i.toNat],?_⟩;have:=cU (xs:=l.map D.int) (j:=i.toNat) (v:=.int l[i.toNat]) (by rw[Zi,Zd hb];rfl);rwa [show((i.toNat:Nat):Int)=i by omega] at this
theorem MJ(s:Nat)(ns:List Int)(at' c0:Int)(d2 d4 d5 d6:Option D)(h0:0<=at')(h1:at'<100000)(hs:aK h s=some (ns.map D.int)):
 ∃c:Int,xs G cl W QK [some (.ref s),some (.int at'),d2,some (.int c0),d4,d5,d6] h=.ok (.nx [some (.ref s),some (.int at'),d2,some (.int c),d4,d5,d6]) h:=by
 by_cases hl:at'<(ns.length:Int)
 ·obtain⟨v,hv⟩:=CL h0 hl;exact⟨v,by simp[QK,hs,hl,hv,jL h _ hs]⟩
 ·by_cases hp:(0:Int)<ns.length
  ·obtain⟨v,hv⟩:=CL (l:=ns) (i:=at'%ns.length) (Int.emod_nonneg _ (by omega)) (Int.emod_lt_of_pos _ hp);have m0:∀x:Int,dB .mod (.int x) (.int ns.length) h=.ok (.int (x%ns.length)) h:=λx=>eX h hp;have m1:dB .mul (.int at') (.int at') h=.ok (.int (at'*at')) h:=iW h (by omega) (by omega);have m2:∀x:Int,dB .mul (.int x) (.int 97) h=.ok (.int (x*97)) h:=λx=>CK h (by omega) (by omega);have m3:∀x:Int,dB .mod (.int x) (.int 999983) h=.ok (.int (x%999983)) h:=λx=>eX h (by omega);refine⟨v%999983+at'*at'*97+1,?_⟩;simp only[QK,jX,fT,aT,lB,vI,fQ,List.getElem?_cons_succ,CS,nX,aO,cT,aC,cR,xY,oN,hs,Zc,cLt,pT,hl,decide_false,aN,WD,hp,decide_true,gH,FH,m0,jL h _ hs,hv,m1,m2,m3,jV,qK,List.set_cons_succ,List.set_cons_zero]
  ·have hp2:¬(0<ns.length):=by omega
   exact⟨c0,by simp[QK,hs,hl,hp,hp2]⟩
theorem BG(s:Nat)(ns:List Int)(at':Int)(M:Nat)(hM:M<=1000)(h0:0<=at')(h1:at'<100000)(hs:aK h s=some (ns.map D.int))(hW:2000<=W):
 ∃row:List Int,row.length=M/\InR row/\bO G cl W BH [some (.ref s),some (.int at'),some (.int M),none,none,none,none] h=.ok (.rt (.ref h.length)) (h++ [.lst (row.map D.int)]):=by
 have a1:xs G cl W (.asg (.nm 3) (.bin .add (.bin .mul (.int 7) (.var 1)) (.int 1))) [some (.ref s),some (.int at'),some (.int M),none,none,none,none] h=.ok (.nx [some (.ref s),some (.int at'),some (.int M),some (.int (7*at'+1)),none,none,none]) h:=by
  have m1:dB .mul (.int 7) (.int at') h=.ok (.int (7*at')) h:=iW h (by omega) (by omega);simp only[lB,gH,fQ,List.getElem?_cons_succ,CS,aN,aC,cR,m1,jV,qK,List.set_cons_succ,List.set_cons_zero]
 obtain⟨c,a2⟩:=MJ G cl W h s ns at' (7*at'+1) (some (.int M)) none none none h0 h1 hs
 have a3:xs G cl W (.asg (.nm 4) (.bin .add (.bin .add (.bin .mod (.var 3) (.int 999983)) (.bin .mul (.int 31) (.var 1))) (.int 5))) [some (.ref s),some (.int at'),some (.int M),some (.int c),none,none,none] h=.ok (.nx [some (.ref s),some (.int at'),some (.int M),some (.int c),some (.int (c%999983+31*at'+5)),none,none]) h:=by
  have m1:dB .mul (.int 31) (.int at') h=.ok (.int (31*at')) h:=iW h (by omega) (by omega);have m3:∀x:Int,dB .mod (.int x) (.int 999983) h=.ok (.int (x%999983)) h:=λx=>eX h (by omega);simp only[lB,gH,fQ,List.getElem?_cons_succ,CS,aN,aC,cR,m1,m3,jV,qK,List.set_cons_succ,List.set_cons_zero]
 have a4:∀x:Int,xs G cl W (.asg (.nm 5) (.lst .nil)) [some (.ref s),some (.int at'),some (.int M),some (.int c),some (.int x),none,none] h=.ok (.nx [some (.ref s),some (.int at'),some (.int M),some (.int c),some (.int x),some (.ref h.length),none]) (h++ [.lst (([]:List Int).map D.int)]):=λx=>by
  simp[lB]
 have a5:∀x:Int,∃row c',row.length<=M/\InR row/\xs G cl W (.iff (.cmp .ge (.var 3) (.bin .pow (.int 10) (.int 18))) (.cons (.whl xM FS) .nil) .nil) [some (.ref s),some (.int at'),some (.int M),some (.int c),some (.int x),some (.ref h.length),none] (h++ [.lst (([]:List Int).map D.int)])
  =.ok (.nx [some (.ref s),some (.int at'),some (.int M),some (.int c'),some (.int x),some (.ref h.length),none]) (h++ [.lst (row.map D.int)]):=λx=>by
  by_cases hc:(1000000000000000000:Int)<=c
  ·obtain⟨row,c',r1,r2,r3⟩:=dW1 G cl W h M hM (some (.ref s)) (some (.int at')) (some (.int x)) none W [] c (Nat.zero_le _) (λ_ z=>by cases z) (by simp;omega);refine⟨row,c',r1,r2,?_⟩;simp only[jX,vI,fQ,List.getElem?_cons_succ,CS,gH,aN,aC,cR,CJ,cGe,hc,decide_true,pT,fT,GT,r3,aT]
  ·refine⟨[],c,Nat.zero_le _,(λ_ z=>by cases z),?_⟩;simp only[jX,vI,fQ,List.getElem?_cons_succ,CS,gH,aN,aC,cR,CJ,cGe,hc,decide_false,pT,aT]
 obtain⟨row1,c',r1,r2,a5⟩:=a5 (c%999983+31*at'+5);obtain⟨row,sd,d6,q1,q2,a6⟩:=dW2 G cl W h M hM (some (.ref s)) (some (.int at')) (some (.int c')) W row1 (c%999983+31*at'+5) none r1 r2 (by omega);refine⟨row,q1,q2,?_⟩;rw[BH,aL a1,aL a2,aL a3,aL (a4 _),aL a5,aL (show xs G cl W (.whl rN xL) _ _=_ from(GT G cl W _ _ rN xL).trans a6)];exact aU (by simp only[pV,fQ,List.getElem?_cons_succ,CS,aC,cR])
end
theorem vC{t:Tg}{body:Ev->Hh->Rs Fl}(F:Ev->Prop)(h:Hh):∀(l:List D),(∀d∈l,∀r,F r->∃r1 r2,dO t d r=some r1/\body r1 h=.ok (.nx r2) h/\F r2)->∀r,F r->∃r',dJ t body l r h=.ok (.nx r') h/\F r'
 | [],_,r,hF=>⟨r,by simp,hF⟩
 |d::l,hb,r,hF=>by
  obtain⟨r1,r2,e1,e2,f2⟩:=hb d Zl r hF;obtain⟨r',e3,f3⟩:=vC F h l (λd hd=>hb d (Zj _ hd)) r2 f2;refine⟨r',?_,f3⟩;rw[<- e3,AQ,e1]
  show(body r1 h).bind _=_
  rw[e2];rfl
noncomputable def tx(t x y:Int):Int:=if t=0 then x else if t=1 then -y else if t=2 then -x else if t=3 then y else if t=4 then -x else if t=5 then -y else if t=6 then x else y
noncomputable def ty(t x y:Int):Int:=if t=0 then y else if t=1 then x else if t=2 then -y else if t=3 then -x else if t=4 then y else if t=5 then -x else if t=6 then -y else x
section
variable (h:Hh)
@[simp] theorem RU(i:Str):cD (.str i) (.tup [.ty "tuple",.ty "list"]) h=.ok (.bl false) h:=rfl
@[simp] theorem VH(i:Bool):cD (.bl i) (.tup [.ty "tuple",.ty "list"]) h=.ok (.bl false) h:=rfl
@[simp] theorem RV:cD .non (.tup [.ty "tuple",.ty "list"]) h=.ok (.bl false) h:=rfl
@[simp] theorem VD(i:Str):cD (.str i) (.ty "bool") h=.ok (.bl false) h:=rfl
@[simp] theorem VC(i:Str):cD (.str i) (.ty "int") h=.ok (.bl false) h:=rfl
@[simp] theorem VB(i:Str):cD (.str i) (.ty "str") h=.ok (.bl true) h:=rfl
@[simp] theorem isBlB(i:Bool):cD (.bl i) (.ty "bool") h=.ok (.bl true) h:=rfl
@[simp] theorem inN:gN .non=true:=rfl
@[simp] theorem inI(i:Int):gN (.int i)=false:=rfl
@[simp] theorem inS(i:Str):gN (.str i)=false:=rfl
@[simp] theorem inB(i:Bool):gN (.bl i)=false:=rfl
@[simp] theorem inTu(i:List D):gN (.tup i)=false:=rfl
@[simp] theorem inR(i:Nat):gN (.ref i)=false:=rfl
end
noncomputable def pd:Nat->D->Bool
 |_,.int _=>true
 |_,.str _=>true
 |_,.bl _=>true
 |_,.non=>true
 |k+1,.tup l=>decide (l.length<=1000)&&l.all (pd k)
 |_,_=>false
theorem zB{j:Nat}{d:D}(hd:d∈cQ 0 j):∃k:Nat,k<j/\d=.int k:=by
 unfold cQ at hd;obtain⟨k,hk,rfl⟩:=List.mem_map.mp hd;exact⟨k,by simpa using hk,by simp⟩
theorem kT(h0 g:Hh)(o:O):(h0++o::g)[h0.length]? =some o:=by simp
theorem DI(h0 g:Hh)(o o':O):(h0++o::g).set h0.length o'=h0++o'::g:=by simp
theorem kY(h0 g:Hh)(l:List D)(y:D)(hl:l.length<1000000):eM (.ref h0.length) y (h0++ .lst l::g)=.ok .non (h0++ .lst (l++ [y])::g):=by
 rw[MQ,kT]
 show(if _ then _ else _)=_
 rw[if_pos hl,DI]
theorem cA(h0 g:Hh)(l:List D):aK (h0++ .lst l::g) h0.length=some l:=by
 unfold aK;rw[kT];rfl
theorem rF{t:Tg}{body:Ev->Hh->Rs Fl}(I:Nat->Ev->Hh->Prop):∀(l:List D)(i:Nat),(∀j d,l[j]? =some d->∀r h,I (i+j) r h->∃r1 r2 h2,dO t d r=some r1/\body r1 h=.ok (.nx r2) h2/\I (i+j+1) r2 h2)->
 ∀r h,I i r h->∃r' h',dJ t body l r h=.ok (.nx r') h'/\I (i+l.length) r' h'
 | [],i,_,r,h,hI=>⟨r,h,by simp,hI⟩
 |d::l,i,hb,r,h,hI=>by
  obtain⟨r1,r2,h2,e1,e2,i2⟩:=hb 0 d rfl r h hI
  obtain⟨r',h',e3,i3⟩:=rF I l (i+1) (λj d hd r h hI=>by
   have:=hb (j+1) d (by simpa using hd) r h (by rw[show i+(j+1)=i+1+j by omega];exact hI);rw[show i+(j+1)=i+1+j by omega] at this;exact this) r2 h2 i2
  refine⟨r',h',?_,by rw[List.length_cons,show i+(l.length+1)=i+1+l.length by omega];exact i3⟩;rw[<- e3,AQ,e1]
  show(body r1 h).bind _=_
  rw[e2];rfl
theorem zC(j k:Nat)(hk:k<j):(cQ 0 j)[k]? =some (D.int k):=by
 unfold cQ;rw[Zi,List.getElem?_range (by simpa using hk)]
 simp
theorem qM(j:Nat):(cQ 0 j).length=j:=by unfold cQ;simp
theorem xJ{G:Gs}{cl:Cl}{t:Tg}{it cs:Es}{e:E}{N:List Str}{cap:List Nat}{r:Ev}{h h1 h':Hh}{j:Int}(hi:cM G cl it r h=.ok [.int j] h1)(hj:nB j)
 (hc:cN t (kG G cl cs) (ev G cl e) h1.length (cQ 0 j) (aR N cap r) (h1++ [O.lst []])=.ok () h'):ev G cl (.comp t .r1 it cs e N cap) r h=.ok (.ref h1.length) h':=by
 rw[mM,hi]
 show(dC t _ _ _ .r1 [.int j] h1 _ _).bind _=_
 have e':dC t (kG G cl cs) (ev G cl e) h1.length .r1 [.int j] h1 (aR N cap r) (h1++ [O.lst []])=.ok () h':=by
  show(if nB j then _ else _)=_
  rw[if_pos hj];exact hc
 rw[e'];rfl
theorem tG{G:Gs}{cl:Cl}{t:Tg}{it cs:Es}{e:E}{N:List Str}{cap:List Nat}{r:Ev}{h h1 h':Hh}{l:List D}(hi:cM G cl it r h=.ok [.tup l] h1)
 (hc:cN t (kG G cl cs) (ev G cl e) h1.length l (aR N cap r) (h1++ [O.lst []])=.ok () h'):ev G cl (.comp t .sq it cs e N cap) r h=.ok (.ref h1.length) h':=by
 rw[mM,hi]
 show(cN t _ _ _ l _ _).bind _=_
 rw[hc];rfl
theorem tH{G:Gs}{cl:Cl}{t:Tg}{it cs:Es}{e:E}{N:List Str}{cap:List Nat}{r:Ev}{h h1 h':Hh}{n:Nat}{l:List D}(hi:cM G cl it r h=.ok [.ref n] h1)(hl:aK h1 n=some l)
 (hc:cO t (kG G cl cs) (ev G cl e) h1.length n (l.length+1) 0 (aR N cap r) (h1++ [O.lst []])=.ok () h'):ev G cl (.comp t .sq it cs e N cap) r h=.ok (.ref h1.length) h':=by
 rw[mM,hi]
 show(dC t _ _ _ .sq [.ref n] h1 _ _).bind _=_
 have e':dC t (kG G cl cs) (ev G cl e) h1.length .sq [.ref n] h1 (aR N cap r) (h1++ [O.lst []])=.ok () h':=by
  show(match aK h1 n with|some l=>cO t (kG G cl cs) (ev G cl e) h1.length n (l.length+1) 0 (aR N cap r) (h1++ [O.lst []])|none=>.bad)=_
  rw[hl];exact hc
 rw[e'];rfl
theorem pW{G:Gs}{cl:Cl}{W:Nat}{t:Tg}{e:E}{b:Ss}{r:Ev}{h h1 h':Hh}{j:Int}{fl:Fl}(hi:ev G cl e r h=.ok (.int j) h1)(hj:nB j)(hf:dJ t (bO G cl W b) (cQ 0 j) r h1=.ok fl h'):xs G cl W (.forr t (.r1 e) b) r h=.ok fl h':=by
 rw[JB,hi]
 show(if nB j then _ else _)=_
 rw[if_pos hj];exact hf
theorem kR{n:Nat}(h:n<=1000000):nB (n:Int):=by unfold nB;omega
noncomputable def tb(t:Int):Int:=if 4<=t then t else(-t)%4
noncomputable abbrev M3:=Int×Int×Int
noncomputable def mo(m:M3):D:=.tup [.int m.1,.int m.2.1,.int m.2.2]
noncomputable def bk(m:M3):M3:=(tb m.1, -tx (tb m.1) m.2.1 m.2.2, -ty (tb m.1) m.2.1 m.2.2)
noncomputable def pl(x:Int×Int):D:=.tup [.int x.1,.int x.2]
theorem sV{h0:Hh}{n:Nat}{l:List D}(g:Hh)(e:aK h0 n=some l):aK (h0++g) n=some l:=bX h0 g e
structure It {α:Type}(φ:α->D)(t:Tg)(cs:Ev->Hh->Rs Bool)(f:Ev->Hh->Rs D)(h0:Hh)(F:Ev->Prop)(p:α->Bool)(g:α->D)(x:α):Prop where
 it:∀r ys gb,F r->∃r1 g1,dO t (φ x) r=some r1/\cs r1 (h0++ .lst ys::gb)=.ok (p x) (h0++ .lst ys::(gb++g1))/\F r1/\(p x=true->∃g2,f r1 (h0++ .lst ys::(gb++g1))=.ok (g x) (h0++ .lst ys::(gb++g1++g2)))
theorem eP{α:Type}{φ:α->D}{t:Tg}{cs:Ev->Hh->Rs Bool}{f:Ev->Hh->Rs D}{h0:Hh}{F:Ev->Prop}{p:α->Bool}{g:α->D}:∀(l:List α),(∀d∈l,It φ t cs f h0 F p g d)->
 ∀r ys gb,F r->ys.length+l.length<1000000->∃gb',cN t cs f h0.length (l.map φ) r (h0++ .lst ys::gb)=.ok () (h0++ .lst (ys++(l.filter p).map g)::gb')
 | [],_,r,ys,gb,_,_=>⟨gb,by simp[cN]⟩
 |d::l,hb,r,ys,gb,hF,hl=>by
  obtain⟨r1,g1,e1,e2,f1,e3⟩:=(hb d Zl).it r ys gb hF
  by_cases hp:p d=true
  ·obtain⟨g2,e3⟩:=e3 hp;obtain⟨gb',e4⟩:=eP l (λd hd=>hb d (Zj _ hd)) r1 (ys++ [g d]) (gb++g1++g2) f1 (by simp at hl⊢;omega);refine⟨gb',?_⟩;rw[hp] at e2;simp only[Zh,cN,e1,e2,aC,if_true,e3,kY _ _ _ _ (show ys.length<1000000 by simp at hl;omega),e4,List.filter_cons,hp]
   simp
  ·obtain⟨gb',e4⟩:=eP l (λd hd=>hb d (Zj _ hd)) r1 ys (gb++g1) f1 (by simp at hl⊢;omega);refine⟨gb',?_⟩;have hp':p d=false:=by simpa using hp
   rw[hp'] at e2;simp only[Zh,cN,e1,e2,aC,if_false,Bool.false_eq_true,e4,List.filter_cons,hp']
theorem xS{α:Type}{φ:α->D}{t:Tg}{cs:Ev->Hh->Rs Bool}{f:Ev->Hh->Rs D}{h0:Hh}{F:Ev->Prop}{p:α->Bool}{g:α->D}{n:Nat}{l:List α}(hl:aK h0 n=some (l.map φ))(hb:∀d∈l,It φ t cs f h0 F p g d)(hm:∀z:Nat,z<=2*l.length->z<1000000):
 ∀k i r ys gb,F r->i<=l.length->l.length-i<k->ys.length<=i->∃gb',cO t cs f h0.length n k i r (h0++ .lst ys::gb)=.ok () (h0++ .lst (ys++((l.drop i).filter p).map g)::gb'):=by
 intro k
 induction k with
 |zero=>intro i r ys gb _ _ hk;omega
 |succ k ih=>
  intro i r ys gb hF hi hk hy;have e0:aK (h0++ .lst ys::gb) n=some (l.map φ):=sV _ hl
  by_cases hlt:i<l.length
  ·have ed:(l.map φ)[i]? =some (φ l[i]):=by rw[Zi,Zd hlt];rfl
   have hdr:l.drop i=l[i]::l.drop (i+1):=List.drop_eq_getElem_cons hlt;obtain⟨r1,g1,e1,e2,f1,e3⟩:=(hb l[i] (List.getElem_mem hlt)).it r ys gb hF
   by_cases hp:p l[i]=true
   ·obtain⟨g2,e3⟩:=e3 hp;obtain⟨gb',e4⟩:=ih (i+1) r1 (ys++ [g l[i]]) (gb++g1++g2) f1 hlt (by omega) (by simp;omega);refine⟨gb',?_⟩;rw[hp] at e2;simp only[cO,e0,ed,e1,e2,aC,if_true,e3,kY _ _ _ _ (hm ys.length (by omega)),e4,hdr,List.filter_cons,hp]
    simp
   ·obtain⟨gb',e4⟩:=ih (i+1) r1 ys (gb++g1) f1 hlt (by omega) (by omega);refine⟨gb',?_⟩;have hp':p l[i]=false:=by simpa using hp
    rw[hp'] at e2;simp only[cO,e0,ed,e1,e2,aC,if_false,Bool.false_eq_true,e4,hdr,List.filter_cons,hp']
  ·have ed:(l.map φ)[i]? =none:=List.getElem?_eq_none_iff.mpr (by simp;omega);refine⟨gb,?_⟩;simp only[cO,e0,ed,List.drop_eq_nil_of_le (show l.length<=i by omega),List.filter_nil,List.map_nil,Zm]
section
variable {α:Type}{φ:α->D}{G:Gs}{cl:Cl}{t:Tg}{it cs:Es}{e:E}{N:List Str}{cap:List Nat}{r:Ev}{h h1:Hh}
theorem FI{n:Nat}{l:List α}(φ:α->D)(F:Ev->Prop)(p:α->Bool)(g:α->D)(hi:cM G cl it r h=.ok [.ref n] h1)(hl:aK h1 n=some (l.map φ))(hm:l.length<=1000)(hF:F (aR N cap r))(hb:∀d∈l,It φ t (kG G cl cs) (ev G cl e) h1 F p g d):
 ∃gb,ev G cl (.comp t .sq it cs e N cap) r h=.ok (.ref h1.length) (h1++ .lst ((l.filter p).map g)::gb):=by
 obtain⟨gb,e1⟩:=xS hl hb (λz hz=>by omega) ((l.map φ).length+1) 0 (aR N cap r) [] [] hF (Nat.zero_le _) (by simp) (Zn _);exact⟨gb,tH hi hl e1⟩
theorem MC{j:Nat}(F:Ev->Prop)(p:Nat->Bool)(g:Nat->D)(hi:cM G cl it r h=.ok [.int (j:Int)] h1)(hm:j<=1000)(hF:F (aR N cap r))(hb:∀d∈List.range j,It (λk:Nat=>D.int k) t (kG G cl cs) (ev G cl e) h1 F p g d):
 ∃gb,ev G cl (.comp t .r1 it cs e N cap) r h=.ok (.ref h1.length) (h1++ .lst (((List.range j).filter p).map g)::gb):=by
 obtain⟨gb,e1⟩:=eP (List.range j) hb (aR N cap r) [] [] hF (by simp;omega)
 have e2:(List.range j).map (λk:Nat=>D.int k)=cQ 0 j:=by
  unfold cQ
  simp
 rw[e2] at e1;exact⟨gb,xJ hi (kR (by omega)) e1⟩
end
theorem oZ{n:Nat}{l:List D}(h:Hh)(e:aK h n=some l):RF (.ref n) h=some .list:=by
 show(match aK h n with|some _=>some Ty.list|none=>none)=_
 rw[e]
theorem AI{n:Nat}{l:List D}(h:Hh)(e:aK h n=some l):cD (.ref n) (.ty "tuple") h=.ok (.bl false) h:=by
 simp[cD,kA,oZ h e,fU,EW]
theorem AJ{n:Nat}{l:List D}(h:Hh)(e:aK h n=some l):cD (.ref n) (.ty "list") h=.ok (.bl true) h:=by
 simp[cD,kA,oZ h e,fU,EW]
theorem EY{n:Nat}{l:List D}(h:Hh)(e:aK h n=some l):cD (.ref n) (.tup [.ty "tuple",.ty "list"]) h=.ok (.bl true) h:=by
 simp[cD,kA,gY,qA,oZ h e,fU,EW]
@[simp] theorem QO(i j:Int)(h:Hh):gI .max [.int i,.int j] h=.ok (.int (if j>i then j else i)) h:=rfl
@[simp] theorem bMinI(i j:Int)(h:Hh):gI .min [.int i,.int j] h=.ok (.int (if j<i then j else i)) h:=rfl
def Kp(h h':Hh):Prop:=∀(n:Nat)(o:O),h[n]? =some o->h'[n]? =some o
theorem Kp.refl(h:Hh):Kp h h:=λ_ _ e=>e
theorem Kp.trans{a b c:Hh}(x:Kp a b)(y:Kp b c):Kp a c:=λn o e=>y n o (x n o e)
theorem Kp.app(h g:Hh):Kp h (h++g):=λn o e=>by rw[List.getElem?_append_left (Ze.mp e).1];exact e
theorem Kp.lst{h h':Hh}(k:Kp h h'){n:Nat}{l:List D}(e:aK h n=some l):aK h' n=some l:=by
 unfold aK at e⊢;cases q:h[n]? with
 |none=>rw[q] at e;cases e
 |some o=>rw[q] at e;rw[k n o q];exact e
theorem yI(k:cH):fL [] k=none:=rfl
theorem gS(p:cH×D)(l:List (cH×D))(k:cH):fL (p::l) k=if p.1=k then some p.2 else fL l k:=by
 unfold fL;rw[List.find?_cons]
 by_cases e:p.1=k
 ·rw[decide_eq_true e,if_pos e];rfl
 ·rw[decide_eq_false e,if_neg e]
structure Tie where
 n:Int
 one:Str
 other:Str
 m:M3
noncomputable def Tie.d(t:Tie):D:=.tup [.int t.n,.str t.one,.str t.other,mo t.m]
noncomputable def Tie.en(t:Tie)(x:Str):Option Str:=if t.one=x then some t.other else if t.other=x then some t.one else none
noncomputable def Tie.mv(t:Tie)(x:Str):M3:=if t.other=x then bk t.m else t.m
noncomputable def SU(t:Tie)(x:Str):Option D:=(t.en x).map λy=>.tup [.str y,mo (t.mv x)]
section
variable {G:Gs}{cl:Cl}{W:Nat}
theorem bP{i:Nat}{x y d:D}{e:E}{r:Ev}{h h1:Hh}(hr:r[i]? =some (some x))(he:ev G cl e r h=.ok y h1)(hx:kK x y h1=.ok d h1):ev G cl (.ix (.var i) e) r h=.ok d h1:=by
 rw[FH,fQ,hr]
 show(ev G cl e r h).bind _=_
 rw[he];exact hx
theorem aV{op:Bop}{a b:E}{x y d:D}{r:Ev}{h h1 h2:Hh}(ha:ev G cl a r h=.ok x h1)(hb:ev G cl b r h1=.ok y h2)(hd:dB op x y h2=.ok d h2):ev G cl (.bin op a b) r h=.ok d h2:=by
 rw[gH,ha]
 show(ev G cl b r h1).bind _=_
 rw[hb];exact hd
theorem bR{i:Nat}{x:D}{r:Ev}{h:Hh}(hr:r[i]? =some (some x)):ev G cl (.var i) r h=.ok x h:=by
 rw[fQ,hr]
structure Row (h:Hh)(n:Nat)(row:List Int):Prop where
 at':aK h n=some (row.map D.int)
 inr:InR row
noncomputable def Row.R(row:List Int)(j:Nat):Int:=row.getD j 0
theorem Row.ix{h h':Hh}{n:Nat}{row:List Int}(Q:Row h n row)(kp:Kp h h')(j:Nat)(hj:j<row.length):kK (.ref n) (.int j) h'=.ok (.int (Row.R row j)) h':=by
 rw[jL _ _ (kp.lst Q.at'),cU (v:=.int (Row.R row j)) (by rw[Zi,Zd hj];simp[Row.R,hj])]
theorem Row.rng{h:Hh}{n:Nat}{row:List Int}(Q:Row h n row)(j:Nat)(hj:j<row.length):0<=Row.R row j/\Row.R row j<1013:=by
 have:Row.R row j=row[j]:=by simp[Row.R,hj]
 rw[this];exact Q.inr _ (List.getElem_mem hj)
theorem MP{h:Hh}{p:Nat}{l:List D}(y:D)(e:h[p]? =some (.lst l))(hl:l.length<1000000):eM (.ref p) y h=.ok .non (h.set p (.lst (l++ [y]))):=by
 rw[MQ,e]
 show(if _ then _ else _)=_
 rw[if_pos hl]
theorem nW{i n:Nat}{l:List D}{r:Ev}{h:Hh}(hr:r[i]? =some (some (.ref n)))(e:aK h n=some l):ev G cl (.blt .len (.cons (.var i) .nil)) r h=.ok (.int l.length) h:=by
 simp only[nX,aO,cT,fQ,hr,aC,xY,oN,e]
theorem bZ{i:Nat}{e:E}{d:D}{r:Ev}{h h':Hh}(he:ev G cl e r h=.ok d h'):xs G cl W (.asg (.nm i) e) r h=.ok (.nx (r.set i (some d))) h':=by
 rw[lB,he];rfl
theorem bU{c:E}{a b:Ss}{r:Ev}{h h':Hh}(hc:ev G cl c r h=.ok (.bl true) h'):xs G cl W (.iff c a b) r h=bO G cl W a r h':=by
 rw[jX,hc];rfl
theorem bJ{c:E}{a b:Ss}{r:Ev}{h h':Hh}(hc:ev G cl c r h=.ok (.bl false) h'):xs G cl W (.iff c a b) r h=bO G cl W b r h':=by
 rw[jX,hc];rfl
theorem bF{op:Cop}{a b:E}{x y d:D}{r:Ev}{h h1 h2 h3:Hh}(ha:ev G cl a r h=.ok x h1)(hb:ev G cl b r h1=.ok y h2)(hd:dN op x y h2=.ok d h3):ev G cl (.cmp op a b) r h=.ok d h3:=by
 rw[vI,ha]
 show(ev G cl b r h1).bind _=_
 rw[hb];exact hd
theorem QF{f i:Nat}{x d:D}{r:Ev}{h h':Hh}(hx:r[i]? =some (some x))(e:cl f [x] h=.ok d h'):ev G cl (.call f (.cons (.var i) .nil)) r h=.ok d h':=by
 simp only[BA,aO,cT,bR hx,aC,e,cR]
theorem jO{a:E}{p:Bool}{r:Ev}{h h':Hh}(ha:ev G cl a r h=.ok (.bl p) h'):ev G cl (.not a) r h=.ok (.bl (!p)) h':=by
 rw[QD,ha,aC,pT]
theorem AW{a b:E}{x y:D}{r:Ev}{h h1 h2:Hh}(ha:ev G cl a r h=.ok x h1)(hb:ev G cl b r h1=.ok y h2):ev G cl (.tup (.cons a (.cons b .nil))) r h=.ok (.tup [x,y]) h2:=by
 rw[kH,aO,ha,aC,aO,hb,aC,cT,aC,aC,aC];rfl
theorem dQ{a:E}{x:D}{r:Ev}{h h1:Hh}(ha:ev G cl a r h=.ok x h1):cM G cl (.cons a .nil) r h=.ok [x] h1:=by
 rw[aO,ha,aC,cT,aC]
theorem fP{a b:E}{x y:D}{r:Ev}{h h1 h2:Hh}(ha:ev G cl a r h=.ok x h1)(hb:ev G cl b r h1=.ok y h2):cM G cl (.cons a (.cons b .nil)) r h=.ok [x,y] h2:=by
 rw[aO,ha,aC,dQ hb,aC]
theorem kN{f:Nat}{l:Es}{ds:List D}{d:D}{r:Ev}{h h1 h':Hh}(hl:cM G cl l r h=.ok ds h1)(hc:cl f ds h1=.ok d h'):ev G cl (.call f l) r h=.ok d h':=by
 rw[BA,hl,aC,hc,cR]
theorem mO{f:Blt}{l:Es}{ds:List D}{d:D}{r:Ev}{h h1 h':Hh}(hl:cM G cl l r h=.ok ds h1)(hc:gI f ds h1=.ok d h'):ev G cl (.blt f l) r h=.ok d h':=by
 rw[nX,hl,aC,hc]
theorem bM{e:E}{d:D}{r:Ev}{h h':Hh}(he:ev G cl e r h=.ok d h'):xs G cl W (.ret e) r h=.ok (.rt d) h':=by
 rw[pV,he];rfl
end
noncomputable abbrev WR:=Int×Int×Int
noncomputable def s3(s:WR):D:=.tup [.int s.1,.int s.2.1,.int s.2.2]
noncomputable def kv(s:WR):List Int×D:=([s.1,s.2.1],.int s.2.2)
noncomputable def VR(nm:Str)(w t l:Int)(k:Nat):List (Str×D):= [("name",.str nm),("width",.int w),("height",.int t),("limit",.int l),("bright_at",.ref k)]
def SH(h:Hh)(n:Nat)(nm:Str)(w t l:Int)(S:List WR):Prop:=∃k,h[n]? =some (.ins "Plate" (VR nm w t l k))/\h[k]? =some (.dtf (S.map kv))
section
variable {G:Gs}{cl:Cl}{W:Nat}
end
noncomputable def dg(m:Nat):List Nat:=(Nat.toDigits 10 m).map Char.toNat
theorem VS{c:Char}(h:c.isDigit=true):48<=c.toNat/\c.toNat<=57:=by
 unfold Char.isDigit at h;rw[Bool.and_eq_true,decide_eq_true_eq,decide_eq_true_eq] at h;exact⟨h.1,h.2⟩
theorem pJ{m c:Nat}(h:c∈dg m):48<=c/\c<=57:=by
 obtain⟨ch,hc,rfl⟩:=List.mem_map.mp h;exact VS (Nat.isDigit_of_mem_toDigits (by decide) (by decide) hc)
theorem pI{m:Nat}(h:m<10^100):1<=(dg m).length/\(dg m).length<=100:=by
 unfold dg;rw[Zc];exact⟨Nat.length_toDigits_pos,(Nat.length_toDigits_le_iff (by decide) (by decide)).mpr h⟩
noncomputable abbrev nt(i:Int):Str:=Str.ofString (toString i)
theorem zW(m:Nat):(nt (m:Int)).cps.toList=dg m:=W.KIN.signs_num m
theorem KU(m:Nat):(nt (Int.negSucc m)).cps.toList=45::dg (m+1):=by
 have e:=W.KIN.signs_num (m+1);have q:toString (Int.negSucc m)="-"++toString ((m+1:Nat):Int):=rfl
 show(Str.ofString (toString (Int.negSucc m))).cps.toList=_
 rw[q]
 have:(Str.ofString ("-"++toString ((m+1:Nat):Int))).cps.toList=45::(Str.ofString (toString ((m+1:Nat):Int))).cps.toList:=by
  rw[PyProof.Rows.signs_ofString,PyProof.Rows.signs_ofString,String.toList_append,List.map_append];rfl
 rw[this,e];rfl
def Sm(i:Int):Prop:=i.natAbs<10^100
theorem iP{i:Int}(h:Sm i):(∃m:Nat,i=m/\m<10^100/\(nt i).cps.toList=dg m)\/∃m:Nat,i= -(m:Int)/\0<m/\m<10^100/\(nt i).cps.toList=45::dg m:=by
 cases i with
 |ofNat m=>exact .inl ⟨m,rfl,h,zW m⟩
 |negSucc m=>exact .inr ⟨m+1,rfl,by omega,h,KU m⟩
theorem dI{i:Int}(h:Sm i):1<=(nt i).length/\(nt i).length<=101:=by
 have e:(nt i).cps.toList.length=(nt i).length:=Array.length_toList;rcases iP h with ⟨m,_,h1,h2⟩|⟨m,_,_,h1,h2⟩
 ·have:=pI h1;rw[h2] at e;omega
 ·have:=pI h1;rw[h2,List.length_cons] at e;omega
theorem dW{i:Int}(h:Sm i){c:Nat}(hc:c=32\/c=44):c ∉ (nt i).cps.toList:=by
 intro hm;rcases iP h with ⟨m,_,h1,h2⟩|⟨m,_,_,h1,h2⟩
 ·rw[h2] at hm;have:=pJ hm;omega
 ·rw[h2] at hm;rcases List.mem_cons.mp hm with e|hm
  ·omega
  ·have:=pJ hm;omega
theorem KY{i:Int}(h:Sm i):intText? (nt i)=some i:=by
 have l:=dI h;rcases iP h with ⟨m,rfl,h1,h2⟩|⟨m,rfl,_,h1,h2⟩
 ·have e:=PySem.intText_digits (x:=nt (m:Int)) (by rw[h2];exact λc hc=>pJ hc) (by rw[h2];intro z;have:=(pI h1).1;rw[z] at this;simp at this) (by omega);rw[h2] at e;rw[e];congr 1;have:=W.KIN.val_back m;unfold dg;rw[this]
 ·have e:=PySem.intText_neg (x:=nt (-(m:Int))) (cs:=dg m) h2 (λc hc=>pJ hc) (by intro z;have:=(pI h1).1;rw[z] at this;simp at this) (by omega);rw[e];have:=W.KIN.val_back m;unfold dg;rw[this]
theorem KW{i:Int}(h:Sm i):i.natAbs.log2<1920:=by
 have h':i.natAbs<2^1920:=Nat.lt_of_lt_of_le h (by decide+kernel)
 by_cases z:i.natAbs=0
 ·rw[z];decide
 ·exact(Nat.log2_lt z).mpr h'
noncomputable def jl(c:Nat):List (List Nat)->List Nat
 | []=>[]
 | [x]=>x
 |x::y::r=>x++c::jl c (y::r)
theorem gC(c:Nat):∀ws:List Str,(Str.join ⟨#[c]⟩ ws).cps.toList=jl c (ws.map λw=>w.cps.toList)
 | []=>rfl
 | [x]=>rfl
 |x::y::r=>by
  show(x++⟨#[c]⟩++Str.join ⟨#[c]⟩ (y::r)).cps.toList=x.cps.toList++c::jl c ((y::r).map λw=>w.cps.toList)
  rw[<- gC c (y::r)];simp[Str.cps_append]
theorem BT{c:Nat}:∀{a b x y:List Nat},c ∉ a->c ∉ b->a++c::x=b++c::y->a=b/\x=y
 | [],[],x,y,_,_,e=>⟨rfl,(List.cons.inj e).2⟩
 | [],b::bs,x,y,_,hb,e=>absurd (by rw[(List.cons.inj e).1];exact Zl) hb
 |a::as,[],x,y,ha,_,e=>absurd (by rw[<- (List.cons.inj e).1];exact Zl) ha
 |a::as,b::bs,x,y,ha,hb,e=>by
  obtain⟨e1,e2⟩:=List.cons.inj e;obtain⟨h1,h2⟩:=BT (λz=>ha (Zj _ z)) (λz=>hb (Zj _ z)) e2;exact⟨by rw[e1,h1],h2⟩
theorem AE{c:Nat}:∀{vs ws:List (List Nat)},vs≠ []->ws≠ []->(∀v∈vs,c ∉ v)->(∀w∈ws,c ∉ w)->jl c vs=jl c ws->vs=ws
 | [],_,h,_,_,_,_=>absurd rfl h
 |_,[],_,h,_,_,_=>absurd rfl h
 | [x],[y],_,_,_,_,e=>by rw[show x=y from e]
 | [x],y::z::r,_,_,hv,_,e=>absurd (show c∈x by rw[show x=y++c::jl c (z::r) from e];simp) (hv x Zl)
 |x::z::r,[y],_,_,_,hw,e=>absurd (show c∈y by rw[show y=x++c::jl c (z::r) from e.symm];simp) (hw y Zl)
 |x::y::r,x'::y'::r',_,_,hv,hw,e=>by
  obtain⟨e1,e2⟩:=BT (hv x Zl) (hw x' Zl) (show x++c::jl c (y::r)=x'++c::jl c (y'::r') from e);rw[e1,AE (by simp) (by simp) (λv h=>hv v (Zj _ h)) (λv h=>hw v (Zj _ h)) e2]
theorem qH(x y:Str):Txt.split x y≠ []:=by
 unfold Txt.split;split
 ·simp
 ·split
  ·simp
  ·rw[StrLaws.partsBetween_eq];obtain⟨p,r,e⟩:=StrLaws.partsFrom_ne x y.length 0 (Builtin.Str.occurrences x y 0 x.length (x.length+1));rw[e];simp
theorem sI{c:Nat}{ws:List Str}(hne:ws≠ [])(hf:∀w∈ws,c ∉ w.cps.toList):Txt.split (Txt.join ⟨#[c]⟩ ws) ⟨#[c]⟩=ws:=by
 have ej:Txt.join ⟨#[c]⟩ ws=Str.join ⟨#[c]⟩ ws:=StrLaws.glued_eq_join _ _;rw[ej];have e:=StrLaws.join_split (Str.join ⟨#[c]⟩ ws) ⟨#[c]⟩;have fr:=StrLaws.split_free (Str.join ⟨#[c]⟩ ws) c;have ne:=qH (Str.join ⟨#[c]⟩ ws) ⟨#[c]⟩;generalize Txt.split (Str.join ⟨#[c]⟩ ws) ⟨#[c]⟩=vs at e fr ne;have e':=congrArg (λs:Str=>s.cps.toList) e;simp only[gC] at e';have k:=AE (c:=c) (vs:=vs.map λw=>w.cps.toList) (ws:=ws.map λw=>w.cps.toList) (by simpa using ne) (by simpa using hne) (λv hv=>by obtain⟨w,hw,rfl⟩:=List.mem_map.mp hv;exact fr w hw) (λv hv=>by obtain⟨w,hw,rfl⟩:=List.mem_map.mp hv;exact hf w hw) e'
 have inj:∀{vs ws:List Str},vs.map (λw=>w.cps.toList)=ws.map (λw=>w.cps.toList)->vs=ws:=λ{vs}=>by
  induction vs with
  |nil=>intro ws h;cases ws with
   |nil=>rfl
   |cons=>cases h
  |cons a l ih=>
   intro ws h;cases ws with
   |nil=>cases h
   |cons b r=>
    obtain⟨h1,h2⟩:=List.cons.inj h;rw[Str.ext' (Array.toList_inj.mp h1),ih h2]
 exact inj k
theorem uD(z:Str)(c:Nat):Txt.startswith z ⟨#[c]⟩=(z.cps.toList.head? ==some c):=by
 have h:=StrLaws.subAt_eq z ⟨#[c]⟩ 0;unfold Txt.startswith
 rw[h];have ln:z.cps.toList.length=z.length:=Array.length_toList;generalize z.cps.toList=l at*;rw[<- ln];cases l with
 |nil=>rfl
 |cons a l=>simp[Str.length]
noncomputable abbrev abS:Str:="abcdefghijklmnopqrstuvwxyz"
noncomputable abbrev fgS:Str:="0123456789"
structure NmG (nm:Str):Prop where
 lo:1<=nm.length
 hi:nm.length<=500
 ch:∀c∈nm.cps.toList,97<=c/\c<=122
theorem MV:∀c:Nat,c<123->97<=c->c∈abS.cps.toList:=by decide+kernel
theorem LY:∀c:Nat,c<58->48<=c->c∈fgS.cps.toList:=by decide+kernel
theorem NmG.free{nm:Str}(N:NmG nm){c:Nat}(hc:c=32\/c=44):c ∉ nm.cps.toList:=λh=>by
 have:=N.ch c h;omega
section
variable {G:Gs}{cl:Cl}{W:Nat}
@[simp] theorem evFst(l:Es)(r:Ev)(h:Hh):ev G cl (.fst l) r h=(cM G cl l r h).bind λds h=>PZ ds h:=by rw[ev]
@[simp] theorem evFmt(a:E)(r:Ev)(h:Hh):ev G cl (.fmt a) r h=(ev G cl a r h).bind λx h=>nE x h:=by rw[ev]
@[simp] theorem IF(a:E)(r:Ev)(h:Hh):ev G cl (.sof a) r h=(ev G cl a r h).bind λx h=>nE x h:=by rw[ev]
@[simp] theorem IJ(a:E)(r:Ev)(h:Hh):ev G cl (.itx a) r h=(ev G cl a r h).bind λx h=>EU x h:=by rw[ev]
@[simp] theorem IE(o:E)(c:Str)(r:Ev)(h:Hh):ev G cl (.spl o c) r h=(ev G cl o r h).bind λx h=>DG c x h:=by rw[ev]
@[simp] theorem ID(o:E)(c:Str)(r:Ev)(h:Hh):ev G cl (.stw o c) r h=(ev G cl o r h).bind λx h=>DE c x h:=by rw[ev]
@[simp] theorem AZ(a b:E)(r:Ev)(h:Hh):ev G cl (.rep a b) r h=(ev G cl a r h).bind λx h=>(ev G cl b r h).bind λy h=>DN x y h:=by rw[ev]
@[simp] theorem vH(x:Str)(a:E)(r:Ev)(h:Hh):ev G cl (.join x a) r h=(ev G cl a r h).bind λy h=>jZ x y h:=by rw[ev]
@[simp] theorem AX(a b:E)(r:Ev)(h:Hh):ev G cl (.slU a b) r h=(ev G cl a r h).bind λx h=>(ev G cl b r h).bind λy h=>yW x y h:=by rw[ev]
@[simp] theorem AY(a b:E)(r:Ev)(h:Hh):ev G cl (.slL a b) r h=(ev G cl a r h).bind λx h=>(ev G cl b r h).bind λy h=>yY x y h:=by rw[ev]
@[simp] theorem JC(i j:Nat)(e:E)(r:Ev)(h:Hh):xs G cl W (.asgS i j e) r h=(ev G cl e r h).nx.bind λx h=>match dY x h with
 |some (d::ds)=>if ds.length<=1000 then .ok (.nx ((r.set i (some d)).set j (some (.ref h.length)))) (h++ [.lst ds]) else .bad
 |_=>.bad:=by rw[xs]<;>rfl
theorem QA{i:Int}(h:Hh)(s:Sm i):nE (.int i) h=.ok (.str (nt i)) h:=by
 unfold nE;exact if_pos (KW s)
theorem VQ{z:Str}(h:Hh)(s:z.length<=100000):nE (.str z) h=.ok (.str z) h:=by
 unfold nE;exact if_pos s
theorem yV{h:Hh}{n:Nat}{l:List D}{i:Int}(e:aK h n=some l)(hi:0<=i):yW (.ref n) (.int i) h=.ok (.ref h.length) (h++ [.lst (l.take i.toNat)]):=by
 have e1:eB (.ref n) h=true:=by rw[iD,e];rfl
 simp only[yW,e1,oN,e,hi,if_true]
theorem yX{h:Hh}{n:Nat}{l:List D}{i:Int}(e:aK h n=some l)(hi:0<=i):yY (.ref n) (.int i) h=.ok (.ref h.length) (h++ [.lst (l.drop i.toNat)]):=by
 have e1:eB (.ref n) h=true:=by rw[iD,e];rfl
 simp only[yY,e1,oN,e,hi,if_true]
theorem sD{h:Hh}{n:Nat}{l:List D}(e:aK h n=some l):gI .tup [.ref n] h=.ok (.tup l) h:=by
 have e1:eB (.ref n) h=true:=by rw[iD,e];rfl
 show sE (.ref n) h=_;simp only[sE,e1,oN,e]
theorem yO(l:List Str):lJ (l.map D.str)=some l:=by
 induction l with
 |nil=>rfl
 |cons x l ih=>rw[Zh,lJ,ih];rfl
theorem uV{h:Hh}{n:Nat}{l:List Str}{s:Str}(e:aK h n=some (l.map D.str))(hz:(l.map (·.length)).sum+l.length*s.length<=100000):jZ s (.ref n) h=.ok (.str (Txt.join s l)) h:=by
 have e1:eB (.ref n) h=true:=by rw[iD,e];rfl
 simp only[jZ,e1,oN,e,yO,hz,if_true]
theorem LC{z:Str}(h:Hh)(hz:z.length<=1000):gI .len [.str z] h=.ok (.int z.length) h:=by
 rw[xY]
 show(if z.length<=sizeLine then _ else _)=_
 rw[if_pos (Nat.le_trans hz (by decide))]
noncomputable abbrev coB:Ss:=(.cons (.ret (.and (.cmp .ne (.var 0) (.str "")) (.blt .all (.cons (.comp (.nm 0) .st (.cons (.var 0) .nil) .nil (.cmp .inn (.var 0) (.var 1)) ["sign","signs"] [1]) .nil)))) .nil)
noncomputable abbrev isB:Ss:=(.cons (.asg (.nm 1) (.ite (.stw (.var 0) "-") (.slZ (.var 0) (.int 1)) (.var 0))) (.cons (.iff (.or (.not (.call 0 (.cons (.var 1) (.cons (.gc 1) .nil)))) (.cmp .gt (.blt .len (.cons (.var 1) .nil)) (.gc 2))) (.cons (.ret (.bl false)) .nil) .nil) (.cons (.ret (.or (.cmp .eq (.var 0) (.str "0")) (.not (.stw (.var 1) "0")))) .nil)))
noncomputable abbrev Wk:=Sum Str Int
noncomputable def Wk.w:Wk->Str
 |.inl x=>x
 |.inr i=>nt i
noncomputable def Wk.k:Wk->Str
 |.inl _=>"name"
 |.inr _=>"number"
noncomputable def Wk.v:Wk->D
 |.inl x=>.str x
 |.inr i=>.int i
noncomputable def Wk.ok:Wk->Prop
 |.inl x=>NmG x
 |.inr i=>Sm i
end
noncomputable abbrev bkS:Str:=⟨#[32]⟩
noncomputable abbrev cmS:Str:=⟨#[44]⟩
noncomputable abbrev S3:=Int×Int×Int
noncomputable def gF(s:S3):D:=.tup [.int s.1,.int s.2.1,.int s.2.2]
def HL(s:S3):Prop:=Sm s.1/\Sm s.2.1/\Sm s.2.2
noncomputable def sw(s:S3):Str:=Str.join cmS [nt s.1,nt s.2.1,nt s.2.2]
theorem tj(c:Str)(l:List Str):Txt.join c l=Str.join c l:=StrLaws.glued_eq_join _ _
theorem PK(c:Str)(l:List Str):(Str.join c l).length<=(l.map (·.length)).sum+l.length*c.length:=StrLaws.join_length_le c l
theorem JI{s:S3}(o:HL s):(sw s).length<=310:=by
 have:=PK cmS [nt s.1,nt s.2.1,nt s.2.2];have a:=(dI o.1).2;have b:=(dI o.2.1).2;have c:=(dI o.2.2).2;have e:cmS.length=1:=rfl;simp only[Zh,List.map_nil,List.sum_cons,List.sum_nil,List.length_cons,List.length_nil] at this;rw[e] at this;unfold sw;omega
theorem kW(a b:Str):(a++b).cps.toList=a.cps.toList++b.cps.toList:=by simp[Str.cps_append]
theorem DD{s:S3}(o:HL s):32 ∉ (sw s).cps.toList:=by
 have a:=dW o.1 (c:=32) (.inl rfl);have b:=dW o.2.1 (c:=32) (.inl rfl);have c:=dW o.2.2 (c:=32) (.inl rfl);show 32 ∉ (nt s.1++cmS++(nt s.2.1++cmS++nt s.2.2)).cps.toList;simp only[kW,List.mem_append,not_or];exact⟨⟨a,by decide⟩,⟨b,by decide⟩,c⟩
inductive Dd where
 |drop (nm:Str)|untie (i:Int)|tie (a b:Str) (m:S3)|put (nm:Str) (w t l:Int) (S:List S3)
noncomputable def Dd.d:Dd->D
 |.drop nm=>.tup [.str "drop",.str nm]
 |.untie i=>.tup [.str "untie",.int i]
 |.tie a b m=>.tup [.str "tie",.str a,.str b,gF m]
 |.put nm w t l S=>.tup [.str "put",.str nm,.int w,.int t,.int l,.tup (S.map gF)]
noncomputable def Dd.ok:Dd->Prop
 |.drop nm=>NmG nm
 |.untie i=>Sm i
 |.tie a b m=>NmG a/\NmG b/\HL m
 |.put nm w t l S=>NmG nm/\Sm w/\Sm t/\Sm l/\S.length<=90/\∀s∈S,HL s
noncomputable def Dd.sm:Dd->Prop
 |.drop nm=>nm.length<=310
 |.untie _=>True
 |.tie a b _=>a.length<=310/\b.length<=310
 |.put nm _ _ _ S=>nm.length<=310/\S.length<=10
noncomputable def Dd.hd:Dd->Str
 |.drop _=>"drop"
 |.untie _=>"untie"
 |.tie _ _ _=>"tie"
 |.put _ _ _ _ _=>"put"
noncomputable def Dd.rs:Dd->List Str
 |.drop nm=>[nm]
 |.untie i=>[nt i]
 |.tie a b m=>[a,b,nt m.1,nt m.2.1,nt m.2.2]
 |.put nm w t l S=>[nm,nt w,nt t,nt l]++S.map sw
theorem JV{d:Dd}(o:d.ok)(q:d.sm):d.rs.length<=14/\∀x∈d.rs,x.length<=310:=by
 cases d with
 |drop nm=>exact⟨by show 1<=14;decide,λx h=>by rw[List.mem_singleton.mp h];exact q⟩
 |untie i=>exact⟨by show 1<=14;decide,λx h=>by rw[List.mem_singleton.mp h];exact Nat.le_trans (dI o).2 (by decide)⟩
 |tie a b m=>
  refine⟨by show 5<=14;decide,λx h=>?_⟩;simp only[Dd.rs,List.mem_cons,List.not_mem_nil,or_false] at h;rcases h with rfl|rfl|rfl|rfl|rfl
  ·exact q.1
  ·exact q.2
  ·exact Nat.le_trans (dI o.2.2.1).2 (by decide)
  ·exact Nat.le_trans (dI o.2.2.2.1).2 (by decide)
  ·exact Nat.le_trans (dI o.2.2.2.2).2 (by decide)
 |put nm w t l S=>
  obtain⟨o1,o2,o3,o4,o5,o6⟩:=o;refine⟨by have:=q.2;simp only[Dd.rs,List.length_append,List.length_cons,List.length_nil,Zc];omega,λx h=>?_⟩;simp only[Dd.rs,List.mem_append,List.mem_cons,List.not_mem_nil,or_false,List.mem_map] at h;rcases h with (rfl|rfl|rfl|rfl)|⟨s,hs,rfl⟩
  ·exact q.1
  ·exact Nat.le_trans (dI o2).2 (by decide)
  ·exact Nat.le_trans (dI o3).2 (by decide)
  ·exact Nat.le_trans (dI o4).2 (by decide)
  ·exact JI (o6 s hs)
theorem FB:∀d:Dd,32 ∉ d.hd.cps.toList
 |.drop _=>(by decide:32 ∉ (Str.ofString "drop").cps.toList)
 |.untie _=>(by decide:32 ∉ (Str.ofString "untie").cps.toList)
 |.tie _ _ _=>(by decide:32 ∉ (Str.ofString "tie").cps.toList)
 |.put _ _ _ _ _=>(by decide:32 ∉ (Str.ofString "put").cps.toList)
theorem LW:∀d:Dd,d.hd.length<=5
 |.drop _=>(by decide:(Str.ofString "drop").length<=5)
 |.untie _=>(by decide:(Str.ofString "untie").length<=5)
 |.tie _ _ _=>(by decide:(Str.ofString "tie").length<=5)
 |.put _ _ _ _ _=>(by decide:(Str.ofString "put").length<=5)
theorem DM{d:Dd}(o:d.ok):∀x∈d.hd::d.rs,32 ∉ x.cps.toList:=by
 intro x h;rcases List.mem_cons.mp h with rfl|h
 ·exact FB d
 cases d with
 |drop nm=>rw[List.mem_singleton.mp h];exact NmG.free o (.inl rfl)
 |untie i=>rw[List.mem_singleton.mp h];exact dW o (.inl rfl)
 |tie a b m=>
  simp only[Dd.rs,List.mem_cons,List.not_mem_nil,or_false] at h;rcases h with rfl|rfl|rfl|rfl|rfl
  ·exact o.1.free (.inl rfl)
  ·exact o.2.1.free (.inl rfl)
  ·exact dW o.2.2.1 (.inl rfl)
  ·exact dW o.2.2.2.1 (.inl rfl)
  ·exact dW o.2.2.2.2 (.inl rfl)
 |put nm w t l S=>
  obtain⟨o1,o2,o3,o4,o5,o6⟩:=o;simp only[Dd.rs,List.mem_append,List.mem_cons,List.not_mem_nil,or_false,List.mem_map] at h;rcases h with (rfl|rfl|rfl|rfl)|⟨s,hs,rfl⟩
  ·exact o1.free (.inl rfl)
  ·exact dW o2 (.inl rfl)
  ·exact dW o3 (.inl rfl)
  ·exact dW o4 (.inl rfl)
  ·exact DD (o6 s hs)
theorem oK{B:Nat}:∀(l:List Str),(∀x∈l,x.length<=B)->(l.map (·.length)).sum<=l.length*B
 | [],_=>by simp
 |x::l,h=>by
  have:=oK l λy hy=>h y (Zj _ hy);have hx:=h x Zl;rw[Zh,List.sum_cons,List.length_cons,Nat.succ_mul];omega
section
variable {G:Gs}{cl:Cl}{W:Nat}
theorem uY{i:Nat}{z:Str}{x:Str}{A Z:Ss}{r:Ev}{h:Hh}(hr:r[i]? =some (some (.str z)))(ne:z≠x):bO G cl W (.cons (.iff (.cmp .eq (.var i) (.str x)) A .nil) Z) r h=bO G cl W Z r h:=aL (by
 rw[bJ (by rw[bF (bR hr) (bL ..) (jU ..),decide_eq_false ne]),aT])
end
section
variable {G:Gs}{cl:Cl}{W:Nat}
theorem rH{α:Type}{it:Es}{e:E}{t:Tg}{N:List Str}{cap:List Nat}{r:Ev}{h h1:Hh}{l:List α}(φ:α->D)(F:Ev->Prop)(v:α->D)(hi:cM G cl it r h=.ok [.tup (l.map φ)] h1)(hm:l.length<=1000)(hF:F (aR N cap r))
 (hb:∀d∈l,∀r h,F r->∃r1,dO t (φ d) r=some r1/\F r1/\ev G cl e r1 h=.ok (v d) h):∃gb,ev G cl (.comp t .sq it .nil e N cap) r h=.ok (.ref h1.length) (h1++ .lst (l.map v)::gb):=by
 obtain⟨gb,q⟩:=eP (φ:=φ) (t:=t) (cs:=kG G cl .nil) (f:=ev G cl e) (h0:=h1) (F:=F) (p:=λ_=>true) (g:=v) l (λd hd=>⟨λr ys gb hr=>by
  obtain⟨r1,e1,f1,e2⟩:=hb d hd r (h1++ .lst ys::gb) hr;exact⟨r1,[],e1,by rw[pF,Zm],f1,λ_=>⟨[],by rw[Zm,Zm];exact e2⟩⟩⟩) (aR N cap r) [] [] hF (by simp;omega)
 rw[List.filter_eq_self.mpr (λ_ _=>rfl),List.nil_append] at q;exact⟨gb,tG hi q⟩
theorem vY{h:Hh}{m n:Nat}{a b:List D}(e1:h[m]? =some (.lst a))(e2:h[n]? =some (.lst b))(hl:a.length+b.length<=1000):dB .add (.ref m) (.ref n) h=.ok (.ref h.length) (h++ [.lst (a++b)]):=by
 unfold dB;simp only[e1,e2,hl,if_true]
noncomputable abbrev dwB:Ss:=(.cons (.iff (.cmp .eq (.ix (.var 0) (.int 0)) (.str "put")) (.cons (.asc 1 (.comp (.nm 0) .sq (.cons (.slT (.var 0) (.int 5)) .nil) .nil (.sof (.var 0)) ["_law_part"] [])) (.cons (.ret (.bin .add (.var 1) (.comp (.nm 0) .sq (.cons (.ix (.var 0) (.int 5)) .nil) .nil (.bin .add (.bin .add (.bin .add (.bin .add (.sof (.ix (.var 0) (.int 0))) (.str ",")) (.sof (.ix (.var 0) (.int 1)))) (.str ",")) (.sof (.ix (.var 0) (.int 2)))) ["_law_star"] []))) .nil)) .nil) (.cons (.iff (.cmp .eq (.ix (.var 0) (.int 0)) (.str "tie")) (.cons (.ret (.comp (.nm 0) .sq (.cons (.bin .add (.slT (.var 0) (.int 3)) (.ix (.var 0) (.int 3))) .nil) .nil (.sof (.var 0)) ["_law_part"] [])) .nil) .nil) (.cons (.ret (.comp (.nm 0) .sq (.cons (.var 0) .nil) .nil (.sof (.var 0)) ["_law_part"] [])) .nil)))
def Dwo(cl:Cl)(f:Nat):Prop:=∀(h:Hh)(d:Dd),d.ok->∃n g,cl f [d.d] h=.ok (.ref n) (h++g)/\aK (h++g) n=some ((d.hd::d.rs).map D.str)
noncomputable def Wk.sh:Wk->Prop
 |.inl x=>x.length<=100000
 |.inr i=>Sm i
theorem uQ{it:Es}{r:Ev}{h h1:Hh}{l:List Wk}(hi:cM G cl it r h=.ok [.tup (l.map Wk.v)] h1)(hm:l.length<=1000)(ho:∀x∈l,x.sh):∃gb,ev G cl (.comp (.nm 0) .sq it .nil (.sof (.var 0)) ["_law_part"] []) r h=.ok (.ref h1.length) (h1++ .lst (l.map λx=>D.str x.w)::gb):=
 rH (G:=G) (cl:=cl) Wk.v (λr=>∃a,r=[a]) (λx=>D.str x.w) hi hm ⟨_,rfl⟩ (by
  rintro x hx r h ⟨a,rfl⟩;refine⟨[some x.v],rfl,⟨_,rfl⟩,?_⟩;rw[IF,bR (x:=x.v) rfl,aC];cases x with
  |inl z=>exact VQ h (ho _ hx)
  |inr i=>exact QA h (ho _ hx))
theorem yT{s:S3}(o:HL s)(h:Hh):ev G cl (.bin .add (.bin .add (.bin .add (.bin .add (.sof (.ix (.var 0) (.int 0))) (.str ",")) (.sof (.ix (.var 0) (.int 1)))) (.str ",")) (.sof (.ix (.var 0) (.int 2)))) [some (gF s)] h=.ok (.str (sw s)) h:=by
 have a:=(dI o.1).2;have b:=(dI o.2.1).2;have c:=(dI o.2.2).2
 have f:∀{k z:Int},kK (gF s) (.int k) h=.ok (.int z) h->Sm z->ev G cl (.sof (.ix (.var 0) (.int k))) [some (gF s)] h=.ok (.str (nt z)) h:=λe sz=>by
  rw[IF,bP (i:=0) (x:=gF s) rfl (aN ..) e,aC,QA h sz]
 have ad:∀(x y:Str),x.length+y.length<=1000->dB .add (.str x) (.str y) h=.ok (.str (x++y)) h:=λx y hz=>if_pos (Nat.le_trans hz (by decide));have l1:(nt s.1++cmS).length=(nt s.1).length+1:=strLen_append ..;have l2:(nt s.1++cmS++nt s.2.1).length=(nt s.1++cmS).length+(nt s.2.1).length:=strLen_append ..;have l3:(nt s.1++cmS++nt s.2.1++cmS).length=(nt s.1++cmS++nt s.2.1).length+1:=strLen_append ..;have e1:cmS.length=1:=rfl;show ev G cl (.bin .add (.bin .add (.bin .add (.bin .add (.sof (.ix (.var 0) (.int 0))) (.str cmS)) (.sof (.ix (.var 0) (.int 1)))) (.str cmS)) (.sof (.ix (.var 0) (.int 2)))) [some (gF s)] h=_;rw[aV (aV (aV (aV (f (z:=s.1) rfl o.1) (bL ..) (ad (nt s.1) cmS (by omega))) (f (z:=s.2.1) rfl o.2.1) (ad _ _ (by omega))) (bL ..) (ad _ cmS (by omega))) (f (z:=s.2.2) rfl o.2.2) (ad _ _ (by omega))];congr 2;show nt s.1++cmS++nt s.2.1++cmS++nt s.2.2=nt s.1++cmS++(nt s.2.1++cmS++nt s.2.2);simp only[Str.append_assoc]
theorem MD{h:Hh}{d:Dd}(o:d.ok):∃n g,(bO G cl W dwB [some d.d,none] h).bind cZ=.ok (.ref n) (h++g)/\aK (h++g) n=some ((d.hd::d.rs).map D.str):=by
 have hx:∀(d:Dd)(x:Str)(r:Ev),r[0]? =some (some d.d)->ev G cl (.cmp .eq (.ix (.var 0) (.int 0)) (.str x)) r h=.ok (.bl (decide (d.hd=x))) h:=λd x r hr=>bF (bP (d:=.str d.hd) hr (aN ..) (by cases d<;>rfl)) (bL ..) (jU ..);have no:∀{d:Dd}{x:Str}{A Z:Ss}{r:Ev},r[0]? =some (some d.d)->d.hd≠x->bO G cl W (.cons (.iff (.cmp .eq (.ix (.var 0) (.int 0)) (.str x)) A .nil) Z) r h=bO G cl W Z r h:=λhr ne=>aL (by rw[bJ (by rw[hx _ _ _ hr,decide_eq_false ne]),aT]);have yes:∀{d:Dd}{x:Str}{A Z:Ss}{r:Ev}{v:D}{h':Hh},r[0]? =some (some d.d)->d.hd=x->bO G cl W A r h=.ok (.rt v) h'->bO G cl W (.cons (.iff (.cmp .eq (.ix (.var 0) (.int 0)) (.str x)) A .nil) Z) r h=.ok (.rt v) h':=λhr eq e=>aU (by rw[bU (by rw[hx _ _ _ hr,decide_eq_true eq]),e]);cases d with
 |drop nm=>
  have on:NmG nm:=o
  obtain⟨gb,q⟩:=uQ (G:=G) (cl:=cl) (it:=.cons (.var 0) .nil) (r:= [some (Dd.drop nm).d,none]) (h:=h) (l:= [.inl "drop",.inl nm]) (dQ (bR rfl)) (by show 2<=1000;decide) (λx hx=>by
   simp only[List.mem_cons,List.not_mem_nil,or_false] at hx;rcases hx with rfl|rfl
   ·show(4:Nat)<=100000;decide
   ·exact Nat.le_trans on.hi (by decide))
  refine⟨h.length,_::gb,?_,cA h gb _⟩;rw[no (d:=.drop nm) rfl (by show("drop":Str)≠"put";decide),no (d:=.drop nm) rfl (by show("drop":Str)≠"tie";decide),aU (bM q)];rfl
 |untie i=>
  have on:Sm i:=o
  obtain⟨gb,q⟩:=uQ (G:=G) (cl:=cl) (it:=.cons (.var 0) .nil) (r:= [some (Dd.untie i).d,none]) (h:=h) (l:= [.inl "untie",.inr i]) (dQ (bR rfl)) (by show 2<=1000;decide) (λx hx=>by
   simp only[List.mem_cons,List.not_mem_nil,or_false] at hx;rcases hx with rfl|rfl
   ·show(5:Nat)<=100000;decide
   ·exact on)
  refine⟨h.length,_::gb,?_,cA h gb _⟩;rw[no (d:=.untie i) rfl (by show("untie":Str)≠"put";decide),no (d:=.untie i) rfl (by show("untie":Str)≠"tie";decide),aU (bM q)];rfl
 |tie a b m=>
  obtain⟨oa,ob,om⟩:=o
  obtain⟨gb,q⟩:=uQ (G:=G) (cl:=cl) (it:=.cons (.bin .add (.slT (.var 0) (.int 3)) (.ix (.var 0) (.int 3))) .nil) (r:= [some (Dd.tie a b m).d,none]) (h:=h) (h1:=h) (l:= [.inl "tie",.inl a,.inl b,.inr m.1,.inr m.2.1,.inr m.2.2]) (dQ (by
   have z1:ev G cl (.slT (.var 0) (.int 3)) [some (Dd.tie a b m).d,none] h=.ok (.tup [.str "tie",.str a,.str b]) h:=by
    rw[IH,bR (x:=(Dd.tie a b m).d) rfl,aC,aN,aC];rfl
   rw[gH,z1,aC,bP (i:=0) (x:=(Dd.tie a b m).d) (d:=gF m) rfl (aN ..) rfl];rfl)) (by show 6<=1000;decide) (λx hx=>by
   simp only[List.mem_cons,List.not_mem_nil,or_false] at hx;rcases hx with rfl|rfl|rfl|rfl|rfl|rfl
   ·show(3:Nat)<=100000;decide
   ·exact Nat.le_trans oa.hi (by decide)
   ·exact Nat.le_trans ob.hi (by decide)
   ·exact om.1
   ·exact om.2.1
   ·exact om.2.2)
  refine⟨h.length,_::gb,?_,cA h gb _⟩;rw[no (d:=.tie a b m) rfl (by show("tie":Str)≠"put";decide),yes (d:=.tie a b m) (x:="tie") rfl rfl (aU (bM q))];rfl
 |put nm w t l S=>
  obtain⟨o1,o2,o3,o4,o5,o6⟩:=o
  let L1:List Wk:= [.inl "put",.inl nm,.inr w,.inr t,.inr l]
  obtain⟨gb,q⟩:=uQ (G:=G) (cl:=cl) (it:=.cons (.slT (.var 0) (.int 5)) .nil) (r:= [some (Dd.put nm w t l S).d,none]) (h:=h) (h1:=h) (l:=L1) (dQ (by
   rw[IH,bR (x:=(Dd.put nm w t l S).d) rfl,aC,aN,aC];rfl)) (by show 5<=1000;decide) (λx hx=>by
   simp only[L1,List.mem_cons,List.not_mem_nil,or_false] at hx;rcases hx with rfl|rfl|rfl|rfl|rfl
   ·show(3:Nat)<=100000;decide
   ·exact Nat.le_trans o1.hi (by decide)
   ·exact o2
   ·exact o3
   ·exact o4)
  have g1:(h++ .lst (L1.map λx=>D.str x.w)::gb)[h.length]? =some (.lst (L1.map λx=>D.str x.w)):=kT ..
  obtain⟨gc,q2⟩:=rH (G:=G) (cl:=cl) (t:=.nm 0) (it:=.cons (.ix (.var 0) (.int 5)) .nil) (e:=.bin .add (.bin .add (.bin .add (.bin .add (.sof (.ix (.var 0) (.int 0))) (.str ",")) (.sof (.ix (.var 0) (.int 1)))) (.str ",")) (.sof (.ix (.var 0) (.int 2)))) (N:= ["_law_star"]) (cap:= []) (r:= [some (Dd.put nm w t l S).d,some (.ref h.length)]) (h:=h++ .lst (L1.map λx=>D.str x.w)::gb) gF (λr=>∃a,r=[a]) (λs=>D.str (sw s)) (dQ (bP (i:=0) (x:=(Dd.put nm w t l S).d) rfl (aN ..) rfl)) (by omega) ⟨_,rfl⟩ (by
   rintro s hs r h ⟨a,rfl⟩;exact⟨[some (gF s)],rfl,⟨_,rfl⟩,yT (o6 s hs) h⟩)
  have k1:=Kp.app (h++ .lst (L1.map λx=>D.str x.w)::gb) (.lst (S.map λs=>D.str (sw s))::gc) _ _ g1;have k2:(h++ .lst (L1.map λx=>D.str x.w)::gb++ .lst (S.map λs=>D.str (sw s))::gc)[(h++ .lst (L1.map λx=>D.str x.w)::gb).length]? =some (.lst (S.map λs=>D.str (sw s))):=kT ..;have ad:=vY k1 k2 (by rw[Zc,Zc];show 5+S.length<=1000;omega);have eh:∃g',h++ .lst (L1.map λx=>D.str x.w)::gb++ .lst (S.map λs=>D.str (sw s))::gc=h++g':=⟨_,List.append_assoc ..⟩;obtain⟨g',eg⟩:=eh;rw[eg] at ad q2
  have h0:bO G cl W (.cons (.asc 1 (.comp (.nm 0) .sq (.cons (.slT (.var 0) (.int 5)) .nil) .nil (.sof (.var 0)) ["_law_part"] [])) (.cons (.ret (.bin .add (.var 1) (.comp (.nm 0) .sq (.cons (.ix (.var 0) (.int 5)) .nil) .nil (.bin .add (.bin .add (.bin .add (.bin .add (.sof (.ix (.var 0) (.int 0))) (.str ",")) (.sof (.ix (.var 0) (.int 1)))) (.str ",")) (.sof (.ix (.var 0) (.int 2)))) ["_law_star"] []))) .nil)) [some (Dd.put nm w t l S).d,none] h=.ok (.rt (.ref (h++g').length)) (h++g'++ [.lst ((L1.map λx=>D.str x.w)++S.map λs=>D.str (sw s))]):=by
   rw[aL (r':= [some (Dd.put nm w t l S).d,some (.ref h.length)]) (h':=h++ .lst (L1.map λx=>D.str x.w)::gb) (by rw[GV,q];rfl)];exact aU (bM (by rw[gH,bR (x:=.ref h.length) rfl,aC,q2,aC];exact ad))
  have hh:bO G cl W dwB [some (Dd.put nm w t l S).d,none] h=.ok (.rt (.ref (h++g').length)) (h++g'++ [.lst ((L1.map λx=>D.str x.w)++S.map λs=>D.str (sw s))]):=yes (d:=.put nm w t l S) (x:="put") (r:= [some (Dd.put nm w t l S).d,none]) rfl rfl h0;refine⟨(h++g').length,g'++ [.lst ((L1.map λx=>D.str x.w)++S.map λs=>D.str (sw s))],?_,?_⟩
  ·rw[hh, <- List.append_assoc];rfl
  ·rw[<- List.append_assoc,bD];have e:(Dd.put nm w t l S).hd::(Dd.put nm w t l S).rs=L1.map Wk.w++S.map sw:=rfl;rw[e,List.map_append,List.map_map,List.map_map];rfl
end
theorem vN:∀(cs:List Nat)(a:Nat),PySem.NumText.AllDigits cs->cs.foldl (λacc c=>acc*10+(c-48)) a<(a+1)*10^cs.length
 | [],a,_=>by simp
 |c::cs,a,h=>by
  have:=vN cs (a*10+(c-48)) h.tail;have hc:=h.head;rw[List.foldl_cons,List.length_cons];refine Nat.lt_of_lt_of_le this ?_;rw[Nat.pow_succ, <- Nat.mul_assoc,Nat.mul_comm ((a+1)*10^cs.length) 10, <- Nat.mul_assoc];exact Nat.mul_le_mul (by omega) (Zn _)
noncomputable def zU(k:Nat):Str:=⟨(49::List.replicate k 48).toArray⟩
noncomputable def DB(k:Nat):Int:=(intText? (zU k)).getD 0
theorem zT{k:Nat}(h:k<=96):(zU k).length=k+1/\∃m:Nat,intText? (zU k)=some (m:Int)/\m<10^97:=by
 have ln:(zU k).length=k+1:=by show(49::List.replicate k 48).toArray.size=_;simp
 have ec:(zU k).cps.toList=49::List.replicate k 48:=by unfold zU;simp
 have ad:PySem.NumText.AllDigits (zU k).cps.toList:=λc hc=>by
  rw[ec] at hc;rcases List.mem_cons.mp hc with rfl|hc
  ·omega
  ·rw[(List.mem_replicate.mp hc).2];omega
 have e:=PySem.intText_digits ad (by rw[ec];simp) (by omega);refine⟨ln,_,e,?_⟩;have:=vN _ 0 ad;rw[Nat.zero_add,Nat.one_mul] at this;refine Nat.lt_of_lt_of_le this (Nat.pow_le_pow_right (by omega) ?_);rw[ec];simp;omega
noncomputable def yA(a b:Int):Int:=if a%4=0 then a/4%21-10 else if a%4=1 then(b-506)*DB (a/4%97).toNat else a*1013+b-513000
theorem qI{i:Int}(h1: -10000000<i)(h2:i<10000000):Sm i:=Nat.lt_of_lt_of_le (show i.natAbs<10000000 by omega) (by decide+kernel)
theorem GO{a b:Int}(ha:0<=a/\a<1013)(hb:0<=b/\b<1013):Sm (yA a b):=by
 unfold yA;split
 ·exact qI (by omega) (by omega)
 ·split
  ·obtain⟨_,m,e,hm⟩:=zT (k:=(a/4%97).toNat) (by omega);unfold DB;rw[e]
   show((b-506)*(m:Int)).natAbs<10^100
   rw[Int.natAbs_mul,Int.natAbs_natCast];have:(b-506).natAbs<=506:=by omega
   have h2:(b-506).natAbs*m<=506*10^97:=Nat.mul_le_mul this (Nat.le_of_lt hm);exact Nat.lt_of_le_of_lt h2 (by decide+kernel)
  ·exact qI (by omega) (by omega)
section
variable {G:Gs}{cl:Cl}{W:Nat}
noncomputable abbrev anB:Ss:=(.cons (.iff (.cmp .eq (.bin .mod (.var 0) (.int 4)) (.int 0)) (.cons (.ret (.bin .sub (.bin .mod (.bin .fdiv (.var 0) (.int 4)) (.int 21)) (.int 10))) .nil) .nil) (.cons (.iff (.cmp .eq (.bin .mod (.var 0) (.int 4)) (.int 1)) (.cons (.ret (.bin .mul (.bin .sub (.var 1) (.int 506)) (.itx (.bin .add (.str "1") (.rep (.str "0") (.bin .mod (.bin .fdiv (.var 0) (.int 4)) (.int 97))))))) .nil) .nil) (.cons (.ret (.bin .sub (.bin .add (.bin .mul (.var 0) (.int 1013)) (.var 1)) (.int 513000))) .nil)))
def XC(cl:Cl)(f:Nat):Prop:=∀(h:Hh)(a b:Int),(0<=a/\a<1013)->(0<=b/\b<1013)->cl f [.int a,.int b] h=.ok (.int (yA a b)) h
theorem MR{h:Hh}{a b:Int}(ha:0<=a/\a<1013)(hb:0<=b/\b<1013):(bO G cl W anB [some (.int a),some (.int b)] h).bind cZ=.ok (.int (yA a b)) h:=by
 have m4:ev G cl (.bin .mod (.var 0) (.int 4)) [some (.int a),some (.int b)] h=.ok (.int (a%4)) h:=aV (bR rfl) (aN ..) (eX _ (by omega));have d4:∀k:Int,0<k->ev G cl (.bin .mod (.bin .fdiv (.var 0) (.int 4)) (.int k)) [some (.int a),some (.int b)] h=.ok (.int (a/4%k)) h:=λk hk=>aV (aV (bR rfl) (aN ..) (GL _ (by omega) (by omega))) (aN ..) (eX _ hk);have c0:∀k:Int,ev G cl (.cmp .eq (.bin .mod (.var 0) (.int 4)) (.int k)) [some (.int a),some (.int b)] h=.ok (.bl (decide (a%4=k))) h:=λk=>bF m4 (aN ..) (GJ ..);unfold yA
 by_cases h0:a%4=0
 ·rw[if_pos h0,aU (d:=.int (a/4%21-10)) (h':=h) (by rw[bU (by rw[c0,decide_eq_true h0]),aU (bM (aV (d4 21 (by omega)) (aN ..) (xX ..)))])];rfl
 ·rw[if_neg h0,aL (by rw[bJ (by rw[c0,decide_eq_false h0]),aT])]
  by_cases h1:a%4=1
  ·obtain⟨ln,m,e,hm⟩:=zT (k:=(a/4%97).toNat) (by omega)
   have r1:ev G cl (.rep (.str "0") (.bin .mod (.bin .fdiv (.var 0) (.int 4)) (.int 97))) [some (.int a),some (.int b)] h=.ok (.str ⟨(List.replicate (a/4%97).toNat [48]).flatten.toArray⟩) h:=by
    rw[AZ,bL,aC,d4 97 (by omega),aC]
    show(if 0<=a/4%97/\a/4%97<=1000/\(1:Nat)<=1000 then Rs.ok (D.str ⟨(List.replicate (a/4%97).toNat [48]).flatten.toArray⟩) h else .bad)=_
    rw[if_pos ⟨by omega,by omega,by decide⟩]
   have fl:(List.replicate (a/4%97).toNat [48]).flatten=List.replicate (a/4%97).toNat 48:=by
    generalize (a/4%97).toNat=k
    induction k with
    |zero=>rfl
    |succ k ih=>rw[List.replicate_succ,List.flatten_cons,ih,List.replicate_succ];rfl
   rw[fl] at r1
   have ap:(Str.ofString "1")++(⟨(List.replicate (a/4%97).toNat 48).toArray⟩:Str)=zU (a/4%97).toNat:=by
    apply Str.ext';apply Array.toList_inj.mp;rw[Str.cps_append,Array.toList_append];show [49]++_=_;unfold zU
    simp
   have r2:ev G cl (.bin .add (.str "1") (.rep (.str "0") (.bin .mod (.bin .fdiv (.var 0) (.int 4)) (.int 97)))) [some (.int a),some (.int b)] h=.ok (.str (zU (a/4%97).toNat)) h:=aV (bL ..) r1 (by
    show(if 1+(List.replicate (a/4%97).toNat 48).toArray.size<=sizeLine then Rs.ok (D.str (Str.ofString "1"++(⟨(List.replicate (a/4%97).toNat 48).toArray⟩:Str))) h else .bad)=_
    rw[if_pos (by rw[Zk,List.length_replicate];exact Nat.le_trans (show _<=1000 by omega) (by decide)),ap])
   have r3:ev G cl (.itx (.bin .add (.str "1") (.rep (.str "0") (.bin .mod (.bin .fdiv (.var 0) (.int 4)) (.int 97))))) [some (.int a),some (.int b)] h=.ok (.int m) h:=by
    rw[IJ,r2,aC]
    show(if(zU (a/4%97).toNat).length<=640 then _ else _)=_
    rw[if_pos (by omega),e]
   rw[if_pos h1,aU (d:=.int ((b-506)*DB (a/4%97).toNat)) (h':=h) (by
    rw[bU (by rw[c0,decide_eq_true h1]),aU (bM (aV (aV (bR rfl) (aN ..) (xX ..)) r3 (iW _ (by omega) (by omega))))];unfold DB;rw[e];rfl)]
   rfl
  ·rw[if_neg h1,aL (by rw[bJ (by rw[c0,decide_eq_false h1]),aT]),aU (bM (aV (aV (aV (bR rfl) (aN ..) (iW _ (by omega) (by omega))) (bR rfl) (jV ..)) (aN ..) (xX ..)))];rfl
theorem QQ{i:Int}(a:0<=i)(b:i<26)(h:Hh):kK (.str abS) (.int i) h=.ok (.str ⟨#[97+i.toNat]⟩) h:=by
 show HR abS (.int i) h=_;unfold HR;simp only;rw[if_pos (by decide+kernel)];have key:∀j:Nat,j<26->abS.cps.toList[j]? =some (97+j):=by decide+kernel
 have:=cU (xs:=abS.cps.toList) (j:=i.toNat) (v:=97+i.toNat) (key _ (by omega));rw[Int.toNat_of_nonneg a] at this;rw[this]
theorem qY:∀l:List Nat,(Str.join (Str.ofString "") (l.map λc=>(⟨#[c]⟩:Str))).cps.toList=l
 | []=>rfl
 | [c]=>rfl
 |c::d::r=>by
  have:=qY (d::r)
  show((⟨#[c]⟩:Str)++Str.ofString ""++Str.join (Str.ofString "") ((d::r).map λc=>(⟨#[c]⟩:Str))).cps.toList=_
  rw[Str.cps_append,Str.cps_append,Array.toList_append,Array.toList_append,this];rfl
noncomputable abbrev PH(i j:Nat):E:=(.ix (.var 1) (.bin .mod (.bin .add (.ix (.var 2) (.int i)) (.bin .mul (.var 0) (.ix (.var 2) (.int j)))) (.int 26)))
theorem uT{n z:Nat}{row:List Int}{h0 h:Hh}(Q:Row h0 n row)(kp:Kp h0 h)(hl:row.length=27){i j q:Nat}(hi:i<27)(hj:j<27)(hq:q<27)(hz:0<z/\z<=12){r:Ev}(r0:r[0]? =some (some (.ref n)))(r1:r[1]? =some (some (.str abS))):
 ∃nm g,NmG nm/\nm.length<=310/\ev G cl (.join "" (.comp (.nm 0) .r1 (.cons (.bin .add (.int 1) (.bin .mod (.ix (.var 0) (.int q)) (.int z))) .nil) .nil (PH i j) ["_law_k","_law_letters","_law_d"] [1,0])) r h=.ok (.str nm) (h++g):=by
 have rq:=Q.rng q (by omega);have ri:=Q.rng i (by omega);have rj:=Q.rng j (by omega);have zi:(0:Int)<z:=by omega
 have m0:0<=Row.R row q%z:=Int.emod_nonneg _ (by omega);have m1:Row.R row q%z<z:=Int.emod_lt_of_pos _ zi;obtain⟨m,em⟩:∃m:Nat,1+Row.R row q%z=(m:Int):=⟨(1+Row.R row q%z).toNat,by omega⟩;have hm:1<=m/\m<=12:=by omega
 have e0:ev G cl (.bin .add (.int 1) (.bin .mod (.ix (.var 0) (.int q)) (.int z))) r h=.ok (.int m) h:=by
  rw[<- em];exact aV (aN ..) (aV (bP r0 (aN ..) (Q.ix kp q (by omega))) (aN ..) (eX _ zi)) (jV ..)
 have bl:∃d,aR ["_law_k","_law_letters","_law_d"] [1,0] r=[d,some (.str abS),some (.ref n)]:=by
  refine⟨none,?_⟩;unfold aR CG;simp only[Zh,List.map_nil,r0,r1];rfl
 let f:Nat->Nat:=λk=>97+((Row.R row i+(k:Int)*Row.R row j)%26).toNat
 obtain⟨gb,qq⟩:=MC (G:=G) (cl:=cl) (t:=.nm 0) (it:=.cons (.bin .add (.int 1) (.bin .mod (.ix (.var 0) (.int q)) (.int z))) .nil) (cs:=.nil) (e:=PH i j) (N:= ["_law_k","_law_letters","_law_d"]) (cap:= [1,0]) (r:=r) (h:=h) (j:=m)
  (λr=>∃d,r=[d,some (.str abS),some (.ref n)]) (λ_=>true) (λk=>D.str ⟨#[f k]⟩) (dQ e0) (by omega) bl λb hb=>⟨by
    rintro r ys gb ⟨d,rfl⟩;have hb':b<m:=List.mem_range.mp hb;refine⟨[some (.int b),some (.str abS),some (.ref n)],[],rfl,by rw[pF,Zm],⟨_,rfl⟩,λ_=>⟨[],?_⟩⟩;rw[Zm,Zm];have kq:Kp h0 (h++ .lst ys::gb):=kp.trans (Kp.app _ _);exact bP rfl (aV (aV (bP rfl (aN ..) (Q.ix kq i (by omega))) (aV (bR rfl) (bP rfl (aN ..) (Q.ix kq j (by omega))) (iW _ (by omega) (by omega))) (jV ..)) (aN ..) (eX _ (by omega))) (QQ (Int.emod_nonneg _ (by omega)) (Int.emod_lt_of_pos _ (by omega)) _)⟩
 rw[List.filter_eq_self.mpr (λ_ _=>rfl)] at qq
 have jj:=uV (s:=Str.ofString "") (l:=((List.range m).map f).map λc=>(⟨#[c]⟩:Str)) (h:=h++ .lst ((List.range m).map λk=>D.str ⟨#[f k]⟩)::gb) (n:=h.length) (by rw[cA,List.map_map,List.map_map];rfl) (by
  have:=oK (B:=1) (((List.range m).map f).map λc=>(⟨#[c]⟩:Str)) λx hx=>by obtain⟨c,_,rfl⟩:=List.mem_map.mp hx;exact Zn 1
  have e1:(((List.range m).map f).map λc=>(⟨#[c]⟩:Str)).length=m:=by simp
  have e2:(Str.ofString "").length=0:=by decide
  rw[e2];omega)
 rw[tj] at jj;have ec:=qY ((List.range m).map f);generalize Str.join (Str.ofString "") (((List.range m).map f).map λc=>(⟨#[c]⟩:Str))=nm at jj ec
 have nl:nm.length=m:=by
  have:nm.cps.toList.length=nm.length:=Array.length_toList;rw[<- this,ec];simp
 refine⟨nm,.lst ((List.range m).map λk=>D.str ⟨#[f k]⟩)::gb,⟨by omega,by omega,λc hc=>?_⟩,by omega,?_⟩
 ·rw[ec] at hc;obtain⟨k,_,rfl⟩:=List.mem_map.mp hc;have a0:(0:Int)<=(Row.R row i+(k:Int)*Row.R row j)%26:=Int.emod_nonneg _ (by omega);have a1:(Row.R row i+(k:Int)*Row.R row j)%26<26:=Int.emod_lt_of_pos _ (by omega);show 97<=97+((Row.R row i+(k:Int)*Row.R row j)%26).toNat/\97+((Row.R row i+(k:Int)*Row.R row j)%26).toNat<=122;omega
 ·rw[vH,qq,aC];exact jj
end
section
variable {G:Gs}{cl:Cl}{W:Nat}
noncomputable abbrev PB:E:=(.comp (.nm 0) .r2 (.cons (.int 5) (.cons (.int 26) .nil)) .nil (.call 10 (.cons (.ix (.var 1) (.var 0)) (.cons (.ix (.var 1) (.bin .add (.var 0) (.int 1))) .nil))) ["_law_k","_law_d"] [0])
theorem EI(ha:XC cl 10){n:Nat}{row:List Int}{h0 h:Hh}(Q:Row h0 n row)(kp:Kp h0 h)(hl:row.length=27){r:Ev}(r0:r[0]? =some (some (.ref n))):∃(ns:List Int)(g:Hh),ns.length=21/\(∀i∈ns,Sm i)/\ev G cl PB r h=.ok (.ref h.length) (h++ .lst (ns.map D.int)::g):=by
 let v:Nat->Int:=λk=>yA (Row.R row (5+k)) (Row.R row (5+k+1))
 have bl:∃d,aR ["_law_k","_law_d"] [0] r=[d,some (.ref n)]:=by
  refine⟨none,?_⟩;unfold aR CG;simp only[Zh,List.map_nil,r0];rfl
 obtain⟨gb,q⟩:=eP (φ:=λk:Nat=>D.int (5+k)) (t:=.nm 0) (cs:=kG G cl .nil) (f:=ev G cl (.call 10 (.cons (.ix (.var 1) (.var 0)) (.cons (.ix (.var 1) (.bin .add (.var 0) (.int 1))) .nil)))) (h0:=h) (F:=λr=>∃a,r=[a,some (.ref n)]) (p:=λ_=>true) (g:=λk=>D.int (v k)) (List.range 21) (λk hk=>⟨λr ys gb hr=>by
  obtain⟨a,rfl⟩:=hr;have hk':k<21:=List.mem_range.mp hk;refine⟨[some (.int (5+k)),some (.ref n)],[],rfl,by rw[pF,Zm],⟨_,rfl⟩,λ_=>⟨[],?_⟩⟩;rw[Zm,Zm];have kq:Kp h0 (h++ .lst ys::gb):=kp.trans (Kp.app _ _);have i1:=Q.ix kq (5+k) (by omega);have i2:=Q.ix kq (5+k+1) (by omega);have c1:(((5+k:Nat):Nat):Int)=5+(k:Int):=by omega
  have c2:(((5+k+1:Nat):Nat):Int)=5+(k:Int)+1:=by omega
  rw[c1] at i1;rw[c2] at i2;exact kN (fP (bP (i:=1) rfl (bR rfl) i1) (bP (i:=1) rfl (aV (bR rfl) (aN ..) (jV ..)) i2)) (ha _ _ _ (Q.rng (5+k) (by omega)) (Q.rng (5+k+1) (by omega)))⟩) (aR ["_law_k","_law_d"] [0] r) [] [] bl (by simp)
 rw[List.filter_eq_self.mpr (λ_ _=>rfl),List.nil_append] at q;refine⟨(List.range 21).map v,gb,by simp,λi hi=>?_,?_⟩
 ·obtain⟨k,hk,rfl⟩:=List.mem_map.mp hi;have hk':k<21:=List.mem_range.mp hk;exact GO (Q.rng _ (by omega)) (Q.rng _ (by omega))
 ·rw[mM,fP (aN ..) (aN ..),aC,List.map_map];have e:cQ 5 26=(List.range 21).map λk:Nat=>D.int (5+k):=rfl;simp only[dC];rw[if_pos (by decide),e,q];rfl
noncomputable abbrev adS:Ss:=(.cons (.ex (.app (.var 5) (.tup (.cons (.ix (.var 4) (.bin .mod (.bin .mul (.int 3) (.var 6)) (.int 21))) (.cons (.ix (.var 4) (.bin .mod (.bin .add (.bin .mul (.int 3) (.var 6)) (.int 1)) (.int 21))) (.cons (.ix (.var 4) (.bin .mod (.bin .add (.bin .mul (.int 3) (.var 6)) (.int 5)) (.int 21))) .nil)))))) .nil)
noncomputable abbrev adB:Ss:=(.cons (.asg (.nm 1) (.str "abcdefghijklmnopqrstuvwxyz")) (.cons (.asg (.nm 2) (.join "" (.comp (.nm 0) .r1 (.cons (.bin .add (.int 1) (.bin .mod (.ix (.var 0) (.int 3)) (.int 12))) .nil) .nil (.ix (.var 1) (.bin .mod (.bin .add (.ix (.var 2) (.int 1)) (.bin .mul (.var 0) (.ix (.var 2) (.int 2)))) (.int 26))) ["_law_k","_law_letters","_law_d"] [1,0]))) (.cons (.asg (.nm 3) (.join "" (.comp (.nm 0) .r1 (.cons (.bin .add (.int 1) (.bin .mod (.ix (.var 0) (.int 4)) (.int 9))) .nil) .nil (.ix (.var 1) (.bin .mod (.bin .add (.ix (.var 2) (.int 2)) (.bin .mul (.var 0) (.ix (.var 2) (.int 1)))) (.int 26))) ["_law_k","_law_letters","_law_d"] [1,0]))) (.cons (.asc 4 PB) (.cons (.iff (.cmp .eq (.bin .mod (.ix (.var 0) (.int 0)) (.int 4)) (.int 0)) (.cons (.ret (.tup (.cons (.str "drop") (.cons (.var 2) .nil)))) .nil) .nil) (.cons (.iff (.cmp .eq (.bin .mod (.ix (.var 0) (.int 0)) (.int 4)) (.int 1)) (.cons (.ret (.tup (.cons (.str "untie") (.cons (.ix (.var 4) (.int 0)) .nil)))) .nil) .nil) (.cons (.iff (.cmp .eq (.bin .mod (.ix (.var 0) (.int 0)) (.int 4)) (.int 2)) (.cons (.ret (.tup (.cons (.str "tie") (.cons (.var 2) (.cons (.var 3) (.cons (.tup (.cons (.ix (.var 4) (.int 0)) (.cons (.ix (.var 4) (.int 1)) (.cons (.ix (.var 4) (.int 2)) .nil)))) .nil)))))) .nil) .nil) (.cons (.asg (.nm 5) (.lst .nil)) (.cons (.forr (.nm 6) (.r1 (.bin .mod (.bin .fdiv (.ix (.var 0) (.int 0)) (.int 4)) (.int 11))) adS) (.cons (.ret (.tup (.cons (.str "put") (.cons (.var 2) (.cons (.ix (.var 4) (.int 0)) (.cons (.ix (.var 4) (.int 1)) (.cons (.ix (.var 4) (.int 2)) (.cons (.blt .tup (.cons (.var 5) .nil)) .nil)))))))) .nil))))))))))
def Ady(cl:Cl)(f:Nat):Prop:=∀(h:Hh)(n:Nat)(row:List Int),Row h n row->row.length=27->∃(d:Dd)(g:Hh),d.ok/\d.sm/\cl f [.ref n] h=.ok d.d (h++g)
theorem MU(ha:XC cl 10){h:Hh}{n:Nat}{row:List Int}(Q:Row h n row)(hl:row.length=27):∃(d:Dd)(g:Hh),d.ok/\d.sm/\(bO G cl W adB [some (.ref n),none,none,none,none,none,none] h).bind cZ=.ok d.d (h++g):=by
 obtain⟨one,g1,o1,p1,e1⟩:=uT (G:=G) (cl:=cl) (z:=12) (i:=1) (j:=2) (q:=3) Q (Kp.refl h) hl (by omega) (by omega) (by omega) (by omega) (r:= [some (.ref n),some (.str abS),none,none,none,none,none]) rfl rfl;obtain⟨oth,g2,o2,p2,e2⟩:=uT (G:=G) (cl:=cl) (z:=9) (i:=2) (j:=1) (q:=4) Q (Kp.app h g1) hl (by omega) (by omega) (by omega) (by omega) (r:= [some (.ref n),some (.str abS),some (.str one),none,none,none,none]) rfl rfl;have k2:Kp h (h++g1++g2):=(Kp.app h g1).trans (Kp.app _ _);obtain⟨ns,g3,nl,no,e3⟩:=EI (G:=G) ha Q k2 hl (r:= [some (.ref n),some (.str abS),some (.str one),some (.str oth),none,none,none]) rfl;have k3:Kp h (h++g1++g2++ .lst (ns.map D.int)::g3):=k2.trans (Kp.app _ _);have ln:aK (h++g1++g2++ .lst (ns.map D.int)::g3) (h++g1++g2).length=some (ns.map D.int):=cA ..;have eh:∃g,h++g1++g2++ .lst (ns.map D.int)::g3=h++g:=⟨_,by rw[List.append_assoc,List.append_assoc]⟩;unfold adB
 rw[aL (r':= [some (.ref n),some (.str abS),none,none,none,none,none]) (h':=h) (bZ (bL ..)),aL (r':= [some (.ref n),some (.str abS),some (.str one),none,none,none,none]) (h':=h++g1) (bZ e1),aL (r':= [some (.ref n),some (.str abS),some (.str one),some (.str oth),none,none,none]) (h':=h++g1++g2) (bZ e2),
  aL (r':= [some (.ref n),some (.str abS),some (.str one),some (.str oth),some (.ref (h++g1++g2).length),none,none]) (h':=h++g1++g2++ .lst (ns.map D.int)::g3) (by rw[GV,e3];rfl)]
 generalize (h++g1++g2).length=p at ln⊢;generalize h++g1++g2++ .lst (ns.map D.int)::g3=h2 at k3 ln eh⊢;obtain⟨g,rfl⟩:=eh;have rg:=Q.rng 0 (by omega)
 have ixn:∀(h':Hh)(j:Nat),aK h' p=some (ns.map D.int)->j<21->∃z,Sm z/\kK (.ref p) (.int j) h'=.ok (.int z) h':=λh' j e hj=>by
  refine⟨ns[j],no _ (List.getElem_mem (by omega)),?_⟩;rw[jL _ _ e,cU (v:=.int ns[j]) (by rw[Zi,Zd (by omega)];rfl)]
 have c4:∀(r:Ev)(k:Int),r[0]? =some (some (.ref n))->ev G cl (.cmp .eq (.bin .mod (.ix (.var 0) (.int 0)) (.int 4)) (.int k)) r (h++g)=.ok (.bl (decide (Row.R row 0%4=k))) (h++g):=λr k hr=>bF (aV (bP hr (aN ..) (Q.ix k3 0 (by omega))) (aN ..) (eX _ (by omega))) (aN ..) (GJ ..)
 by_cases h0:Row.R row 0%4=0
 ·refine⟨.drop one,g,o1,p1,?_⟩;rw[aU (d:=(Dd.drop one).d) (h':=h++g) (by rw[bU (by rw[c4 _ _ rfl,decide_eq_true h0]),aU (bM (AW (bL ..) (bR rfl)))];rfl)];rfl
 rw[aL (by rw[bJ (by rw[c4 _ _ rfl,decide_eq_false h0]),aT])];obtain⟨z0,s0,i0⟩:=ixn _ 0 ln (by omega)
 replace i0:kK (.ref p) (.int 0) (h++g)=.ok (.int z0) (h++g):=i0
 by_cases h1:Row.R row 0%4=1
 ·refine⟨.untie z0,g,s0,trivial,?_⟩;rw[aU (d:=(Dd.untie z0).d) (h':=h++g) (by rw[bU (by rw[c4 _ _ rfl,decide_eq_true h1]),aU (bM (AW (bL ..) (bP (i:=4) rfl (aN ..) i0)))];rfl)];rfl
 rw[aL (by rw[bJ (by rw[c4 _ _ rfl,decide_eq_false h1]),aT])];obtain⟨z1,s1,i1⟩:=ixn _ 1 ln (by omega)
 replace i1:kK (.ref p) (.int 1) (h++g)=.ok (.int z1) (h++g):=i1
 obtain⟨z2,s2,i2⟩:=ixn _ 2 ln (by omega)
 replace i2:kK (.ref p) (.int 2) (h++g)=.ok (.int z2) (h++g):=i2
 by_cases h2:Row.R row 0%4=2
 ·refine⟨.tie one oth (z0,z1,z2),g,⟨o1,o2,s0,s1,s2⟩,⟨p1,p2⟩,?_⟩
  rw[aU (d:=(Dd.tie one oth (z0,z1,z2)).d) (h':=h++g) (by
   rw[bU (by rw[c4 _ _ rfl,decide_eq_true h2])];refine aU ?_;rw[pV,kH,aO,bL,aC,aO,bR (x:=.str one) rfl,aC,aO,bR (x:=.str oth) rfl,aC,aO,kH,aO,bP (i:=4) (d:=.int z0) rfl (aN ..) i0,aC,aO,bP (i:=4) (d:=.int z1) rfl (aN ..) i1,aC,aO,bP (i:=4) (d:=.int z2) rfl (aN ..) i2,aC,cT];rfl)]
  rfl
 rw[aL (by rw[bJ (by rw[c4 _ _ rfl,decide_eq_false h2]),aT])];rw[aL (r':= [some (.ref n),some (.str abS),some (.str one),some (.str oth),some (.ref p),some (.ref (h++g).length),none]) (h':=h++g++ [.lst []]) (bZ (by rw[vG,cT];rfl))];obtain⟨m,em⟩:∃m:Nat,Row.R row 0/4%11=(m:Int):=⟨(Row.R row 0/4%11).toNat,by omega⟩;have hm:m<=10:=by omega
 have kl:Kp h (h++g++ [.lst []]):=k3.trans (Kp.app _ _)
 obtain⟨r',h',ef,S,d6,hS,oS,er,eh⟩:=rF (t:=.nm 6) (body:=bO G cl W adS) (λk r h'=>∃(S:List S3)(d6:Option D),S.length=k/\(∀s∈S,HL s)/\r=[some (.ref n),some (.str abS),some (.str one),some (.str oth),some (.ref p),some (.ref (h++g).length),d6]/\h'=h++g++ [.lst (S.map gF)]) (cQ 0 m) 0 (by
  rintro j d hd r h' ⟨S,d6,hS,oS,rfl,rfl⟩;have hj:j<m:=by have:=(Ze.mp hd).1;rwa [qM] at this
  rw[zC m j hj] at hd;cases hd;have lk:aK (h++g++ [.lst (S.map gF)]) p=some (ns.map D.int):=bX _ _ ln
  have ixm:∀x:Int,∃z,Sm z/\kK (.ref p) (.int (x%21)) (h++g++ [.lst (S.map gF)])=.ok (.int z) (h++g++ [.lst (S.map gF)]):=λx=>by
   have a0:0<=x%21:=Int.emod_nonneg _ (by omega);have a1:x%21<21:=Int.emod_lt_of_pos _ (by omega);obtain⟨z,sz,e⟩:=ixn _ (x%21).toNat lk (by omega);rw[Int.toNat_of_nonneg a0] at e;exact⟨z,sz,e⟩
  obtain⟨a,sa,ea⟩:=ixm (3*(j:Int));obtain⟨b,sb,eb⟩:=ixm (3*(j:Int)+1);obtain⟨c,sc,ec⟩:=ixm (3*(j:Int)+5);have m3:ev G cl (.bin .mul (.int 3) (.var 6)) [some (.ref n),some (.str abS),some (.str one),some (.str oth),some (.ref p),some (.ref (h++g).length),some (.int j)] (h++g++ [.lst (S.map gF)])=.ok (.int (3*(j:Int))) (h++g++ [.lst (S.map gF)]):=aV (aN ..) (bR rfl) (iW _ (by omega) (by omega))
  have t:ev G cl (.tup (.cons (.ix (.var 4) (.bin .mod (.bin .mul (.int 3) (.var 6)) (.int 21))) (.cons (.ix (.var 4) (.bin .mod (.bin .add (.bin .mul (.int 3) (.var 6)) (.int 1)) (.int 21))) (.cons (.ix (.var 4) (.bin .mod (.bin .add (.bin .mul (.int 3) (.var 6)) (.int 5)) (.int 21))) .nil)))) [some (.ref n),some (.str abS),some (.str one),some (.str oth),some (.ref p),some (.ref (h++g).length),some (.int j)] (h++g++ [.lst (S.map gF)])=.ok (gF (a,b,c)) (h++g++ [.lst (S.map gF)]):=by
   rw[kH,aO,bP (i:=4) rfl (aV m3 (aN ..) (eX _ (by omega))) ea,aC,aO,bP (i:=4) rfl (aV (aV m3 (aN ..) (jV ..)) (aN ..) (eX _ (by omega))) eb,aC,aO,bP (i:=4) rfl (aV (aV m3 (aN ..) (jV ..)) (aN ..) (eX _ (by omega))) ec,aC,cT];rfl
  refine⟨[some (.ref n),some (.str abS),some (.str one),some (.str oth),some (.ref p),some (.ref (h++g).length),some (.int j)],[some (.ref n),some (.str abS),some (.str one),some (.str oth),some (.ref p),some (.ref (h++g).length),some (.int j)],h++g++ [.lst ((S++ [(a,b,c)]).map gF)],rfl,?_,S++ [(a,b,c)],some (.int j),by simp[hS],λs hs=>?_,rfl,rfl⟩
  ·rw[aL (r':= [some (.ref n),some (.str abS),some (.str one),some (.str oth),some (.ref p),some (.ref (h++g).length),some (.int j)]) (h':=h++g++ [.lst ((S++ [(a,b,c)]).map gF)]) (by
    rw[NL,IK,bR (x:=.ref (h++g).length) rfl,aC,if_pos (by rw[iD,bD];rfl),t,aC,MP (gF (a,b,c)) (eS _ _) (by rw[Zc];omega),lN,List.map_append];rfl),aT]
  ·rcases List.mem_append.mp hs with hs|hs
   ·exact oS s hs
   ·rw[List.mem_singleton.mp hs];exact⟨sa,sb,sc⟩) [some (.ref n),some (.str abS),some (.str one),some (.str oth),some (.ref p),some (.ref (h++g).length),none] (h++g++ [.lst []]) ⟨[],none,rfl,(λs hs=>by cases hs),rfl,rfl⟩
 subst er eh;rw[qM,Nat.zero_add] at hS;have l3:aK (h++g++ [.lst (S.map gF)]) p=some (ns.map D.int):=bX _ _ ln;obtain⟨z0,s0,i0⟩:=ixn _ 0 l3 (by omega)
 replace i0:kK (.ref p) (.int 0) (h++g++ [.lst (S.map gF)])=.ok (.int z0) (h++g++ [.lst (S.map gF)]):=i0
 obtain⟨z1,s1,i1⟩:=ixn _ 1 l3 (by omega)
 replace i1:kK (.ref p) (.int 1) (h++g++ [.lst (S.map gF)])=.ok (.int z1) (h++g++ [.lst (S.map gF)]):=i1
 obtain⟨z2,s2,i2⟩:=ixn _ 2 l3 (by omega)
 replace i2:kK (.ref p) (.int 2) (h++g++ [.lst (S.map gF)])=.ok (.int z2) (h++g++ [.lst (S.map gF)]):=i2
 refine⟨.put one z0 z1 z2 S,g++ [.lst (S.map gF)],⟨o1,s0,s1,s2,by omega,oS⟩,⟨p1,by omega⟩,?_⟩
 rw[aL (pW (j:=(m:Int)) (by
  rw[<- em];exact aV (aV (bP (i:=0) rfl (aN ..) (Q.ix kl 0 (by omega))) (aN ..) (GL _ (by omega) (by omega))) (aN ..) (eX _ (by omega))) (kR (by omega)) ef)]
 rw[aU (d:=(Dd.put one z0 z1 z2 S).d) (h':=h++g++ [.lst (S.map gF)]) (by
  rw[pV,kH,aO,bL,aC,aO,bR (x:=.str one) rfl,aC,aO,bP (i:=4) (d:=.int z0) rfl (aN ..) i0,aC,aO,bP (i:=4) (d:=.int z1) rfl (aN ..) i1,aC,aO,bP (i:=4) (d:=.int z2) rfl (aN ..) i2,aC,aO,mO (f:=.tup) (dQ (bR (x:=.ref (h++g).length) rfl)) (sD (bD _ _)),aC,cT];rfl), <- List.append_assoc]
 rfl
end
noncomputable abbrev pA(c:Nat):Bool:=decide (48<=c/\c<=57)
noncomputable abbrev AH(c:Nat):Bool:=decide (97<=c/\c<=122)
noncomputable def hJ(z:Str):Bool:= !z.cps.toList.isEmpty&&z.cps.toList.all AH
noncomputable def eF(z:Str):List Nat:=if z.cps.toList.head? =some 45 then z.cps.toList.drop 1 else z.cps.toList
noncomputable def cW(z:Str):Bool:=(!(eF z).isEmpty&&(eF z).all pA)&&decide ((eF z).length<=100)&&(decide (z=("0":Str))|| !((eF z).head? ==some 48))
theorem GQ:∀c∈abS.cps.toList,97<=c/\c<=122:=by decide+kernel
theorem FF:∀c∈fgS.cps.toList,48<=c/\c<=57:=by decide+kernel
theorem IU(c:Nat):decide (c∈abS.cps.toList)=AH c:=by
 rw[decide_eq_decide];exact⟨GQ c,λh=>MV c (by omega) (by omega)⟩
theorem IC(c:Nat):decide (c∈fgS.cps.toList)=pA c:=by
 rw[decide_eq_decide];exact⟨FF c,λh=>LY c (by omega) (by omega)⟩
theorem gR(z:Str):z.cps.toList.length=z.length:=Array.length_toList
theorem gJ{a b:Str}(h:a.cps.toList=b.cps.toList):a=b:=by
 cases a;cases b;congr 1;exact Array.ext' h
noncomputable def gO(cs:List Nat):Nat:=cs.foldl (λa c=>a*10+(c-48)) 0
theorem BJ:∀d:Nat,d<10->(Nat.toDigits 10 d).map Char.toNat=[48+d]:=by decide
theorem MF:∀(cs:List Nat),(∀c∈cs,48<=c/\c<=57)->(∃c r,cs=c::r/\49<=c)->0<gO cs/\dg (gO cs)=cs:=by
 intro cs
 induction h:cs.length generalizing cs with
 |zero=>intro _ ⟨c,r,e,_⟩;rw[e] at h;cases h
 |succ n ih=>
  intro ha ⟨c,r,e,hc⟩
  obtain⟨ds,d,rfl⟩:∃ds d,cs=ds++ [d]:=by
   refine⟨cs.dropLast,cs.getLast (by rw[e];simp),?_⟩;exact(List.dropLast_concat_getLast _).symm
  have hd:=ha d (by simp);have ev:gO (ds++ [d])=gO ds*10+(d-48):=by unfold gO;rw[List.foldl_append];rfl
  cases ds with
  |nil=>
   have ed:d=c:=(List.cons.inj e).1;subst ed;rw[ev];have z:gO []=0:=rfl;rw[z];refine⟨by omega,?_⟩;unfold dg;rw[show 0*10+(d-48)=d-48 by omega,BJ (d-48) (by omega)];rw[show 48+(d-48)=d by omega];rfl
  |cons c' ds=>
   have ec:c'=c:=(List.cons.inj e).1;obtain⟨p,q⟩:=ih (c'::ds) (by simp at h⊢;omega) (λx hx=>ha x (List.mem_append_left _ hx)) ⟨c',ds,rfl,by omega⟩;rw[ev];refine⟨by omega,?_⟩;have t:Nat.toDigits 10 (gO (c'::ds))++Nat.toDigits 10 (d-48)=Nat.toDigits 10 (10*gO (c'::ds)+(d-48)):=Nat.toDigits_append_toDigits (by decide) p (by omega);unfold dg at q⊢;rw[Nat.mul_comm, <- t,List.map_append,q,BJ (d-48) (by omega),show 48+(d-48)=d by omega]
theorem FK:∀(cs:List Nat),(∀c∈cs,48<=c/\c<=57)->gO cs<10^cs.length:=by
 intro cs
 induction h:cs.length generalizing cs with
 |zero=>intro _;rw[List.length_eq_zero_iff.mp h];decide
 |succ n ih=>
  intro ha
  obtain⟨ds,d,rfl⟩:∃ds d,cs=ds++ [d]:=by
   refine⟨cs.dropLast,cs.getLast (λe=>by rw[e] at h;cases h),?_⟩;exact(List.dropLast_concat_getLast _).symm
  have hd:=ha d (by simp);have ev:gO (ds++ [d])=gO ds*10+(d-48):=by unfold gO;rw[List.foldl_append];rfl
  have q:=ih ds (by simp at h;omega) λx hx=>ha x (List.mem_append_left _ hx);rw[ev,Nat.pow_succ];omega
theorem EJ{z:Str}(h:cW z=true):∃i:Int,Sm i/\nt i=z:=by
 unfold cW at h;simp only[Bool.and_eq_true,Bool.or_eq_true,decide_eq_true_eq,Bool.not_eq_true',List.all_eq_true] at h;obtain⟨⟨⟨h1,h2⟩,h3⟩,h4⟩:=h;have ha:∀c∈eF z,48<=c/\c<=57:=λc hc=>by simpa using h2 c hc
 rcases h4 with rfl|h4
 ·exact⟨0,(by show(0:Int).natAbs<10^100;decide+kernel),rfl⟩
 have hh:∃c r,eF z=c::r/\49<=c:=by
  cases e:eF z with
  |nil=>rw[e] at h1;cases h1
  |cons c r=>
   refine⟨c,r,rfl,?_⟩;have:=ha c (by rw[e];exact Zl);rw[e] at h4;have:c≠48:=λz=>by rw[z] at h4;simp at h4
   omega
 obtain⟨p,q⟩:=MF _ ha hh;have lt:gO (eF z)<10^100:=Nat.lt_of_lt_of_le (FK _ ha) (Nat.pow_le_pow_right (by decide) h3)
 by_cases hn:z.cps.toList.head? =some 45
 ·have ez:z.cps.toList=45::eF z:=by
   unfold eF;rw[if_pos hn];cases e:z.cps.toList with
   |nil=>rw[e] at hn;cases hn
   |cons c r=>rw[e] at hn;cases hn;rfl
  refine⟨-(gO (eF z):Int),by unfold Sm;rw[Int.natAbs_neg];exact lt,gJ ?_⟩;rcases iP (i:= -(gO (eF z):Int)) (by unfold Sm;rw[Int.natAbs_neg];exact lt) with ⟨m,e1,e2,e3⟩|⟨m,e1,e2,e3,e4⟩
  ·omega
  ·have em:m=gO (eF z):=by omega
   rw[e4,em,q,ez]
 ·have ez:z.cps.toList=eF z:=by unfold eF;rw[if_neg hn]
  refine⟨(gO (eF z):Int),lt,gJ ?_⟩;rw[zW,q,ez]
section
variable {G:Gs}{cl:Cl}{W:Nat}
theorem MS{α:Type}{h:Hh}{n:Nat}(l:List α)(p:α->Bool)(e:aK h n=some (l.map λa=>D.bl (p a))):gI .all [.ref n] h=.ok (.bl (l.all p)) h:=by
 show CO (.ref n) h=_;unfold CO;have e1:eB (.ref n) h=true:=by rw[iD,e];rfl
 have bt:xW (l.map λa=>D.bl (p a))=some (l.map p):=by
  clear e e1
  induction l with
  |nil=>rfl
  |cons a l ih=>rw[Zh,xW,ih];rfl
 rw[e1,oN,e];simp only[bt,List.all_map];rfl
def NB(cl:Cl)(f:Nat):Prop:=∀(h:Hh)(z s:Str),z.length<=1000->∃g,cl f [.str z,.str s] h=.ok (.bl (!z.cps.toList.isEmpty&&z.cps.toList.all λc=>decide (c∈s.cps.toList))) (h++g)
theorem GC{h:Hh}{z s:Str}(h2:z.length<=1000):∃g,(bO G cl W coB [some (.str z),some (.str s)] h).bind cZ=.ok (.bl (!z.cps.toList.isEmpty&&z.cps.toList.all λc=>decide (c∈s.cps.toList))) (h++g):=by
 by_cases hz:z=("":Str)
 ·subst hz;refine⟨[],?_⟩
  rw[aU (bM (d:=.bl false) (h':=h) (by
   rw[iR,bF (bR rfl) (bL ..) (GI ..),aC,decide_eq_true rfl];rfl))]
  rw[Zm];rfl
 have ne:z.cps.toList.isEmpty=false:=by
  cases e:z.cps.toList with
  |nil=>exact absurd (gJ (b:=("":Str)) (by rw[e];rfl)) hz
  |cons=>rfl
 obtain⟨gb,q⟩:=eP (φ:=λc:Nat=>D.str ⟨#[c]⟩) (t:=.nm 0) (cs:=kG G cl .nil) (f:=ev G cl (.cmp .inn (.var 0) (.var 1))) (h0:=h) (F:=λr=>∃a,r=[a,some (.str s)]) (p:=λ_=>true) (g:=λc=>D.bl (decide (c∈s.cps.toList))) z.cps.toList (λc hc=>⟨λr ys gb hr=>by
  obtain⟨a,rfl⟩:=hr;refine⟨[some (.str ⟨#[c]⟩),some (.str s)],[],rfl,by rw[pF,Zm],⟨_,rfl⟩,λ_=>⟨[],?_⟩⟩;rw[Zm,Zm];refine bF (bR rfl) (bR rfl) ?_
  have e:RX (.str ⟨#[c]⟩) (.str s) (h++ .lst ys::gb)=some (decide (c∈s.cps.toList)):=by
   show some (!(Builtin.Str.occurrences s ⟨#[c]⟩ 0 s.length 1).isEmpty)=_;rw[StrLaws.found_one]
  unfold dN
  simp only[e]⟩) (aR ["sign","signs"] [1] [some (.str z),some (.str s)]) [] [] ⟨none,rfl⟩ (by
   have e:z.cps.toList.length=z.length:=Array.length_toList;simp only[List.length_nil];omega)
 rw[List.filter_eq_self.mpr (λ_ _=>rfl),List.nil_append] at q
 have c2:ev G cl (.comp (.nm 0) .st (.cons (.var 0) .nil) .nil (.cmp .inn (.var 0) (.var 1)) ["sign","signs"] [1]) [some (.str z),some (.str s)] h=.ok (.ref h.length) (h++ .lst (z.cps.toList.map λc=>D.bl (decide (c∈s.cps.toList)))::gb):=by
  rw[mM,dQ (bR rfl),aC]
  have e':dC (.nm 0) (kG G cl .nil) (ev G cl (.cmp .inn (.var 0) (.var 1))) h.length .st [.str z] h (aR ["sign","signs"] [1] [some (.str z),some (.str s)]) (h++ [.lst []])=.ok () (h++ .lst (z.cps.toList.map λc=>D.bl (decide (c∈s.cps.toList)))::gb):=by
   show(if z.length<=1000 then _ else _)=_
   rw[if_pos h2];exact q
  rw[e'];rfl
 refine⟨.lst (z.cps.toList.map λc=>D.bl (decide (c∈s.cps.toList)))::gb,?_⟩
 rw[aU (bM (d:=.bl (z.cps.toList.all λc=>decide (c∈s.cps.toList))) (h':=h++ .lst (z.cps.toList.map λc=>D.bl (decide (c∈s.cps.toList)))::gb) (by
  rw[iR,bF (bR rfl) (bL ..) (GI ..),aC,decide_eq_false hz];show ev G cl _ _ _=_;exact mO (dQ c2) (MS _ _ (cA ..))))]
 rw[ne];rfl
def QX(cl:Cl)(f:Nat):Prop:=∀(h:Hh)(z:Str),z.length<=1000->∃g,cl f [.str z] h=.ok (.bl (cW z)) (h++g)
theorem fgE{z:Str}(hz:z.length<=1000)(h:Hh):∃y:Str,y.cps.toList=eF z/\y.length<=1000/\ev G cl (.ite (.stw (.var 0) "-") (.slZ (.var 0) (.int 1)) (.var 0)) [some (.str z),none] h=.ok (.str y) h:=by
 have st:=uD z 45
 have e0:ev G cl (.stw (.var 0) "-") [some (.str z),none] h=.ok (.bl (Txt.startswith z ⟨#[45]⟩)) h:=by
  rw[ID,bR (x:=.str z) rfl];rfl
 rw[QE,e0,aC,pT,st]
 by_cases hn:z.cps.toList.head? =some 45
 ·rw[show(z.cps.toList.head? ==some 45)=true from beq_iff_eq.mpr hn];refine⟨⟨(z.cps.toList.drop 1).toArray⟩,by unfold eF;rw[if_pos hn],?_,?_⟩
  ·show(z.cps.toList.drop 1).toArray.size<=1000
   have:=gR z;rw[Zk,List.length_drop];omega
  ·show ev G cl (.slZ (.var 0) (.int 1)) _ h=_;rw[IG,bR (x:=.str z) rfl,aC,aN,aC]
   show(if(0:Int)<=1/\z.length<=1000 then _ else _)=_
   rw[if_pos ⟨by decide,hz⟩];rfl
 ·rw[show(z.cps.toList.head? ==some 45)=false from beq_eq_false_iff_ne.mpr hn];exact⟨z,by unfold eF;rw[if_neg hn],hz,bR rfl⟩
theorem EV(g1:∀r h,ev G cl (.gc 1) r h=.ok (.str fgS) h)(g2:∀r h,ev G cl (.gc 2) r h=.ok (.int 100) h)(hc:NB cl 0){h:Hh}{z:Str}(hz:z.length<=1000):∃g,(bO G cl W isB [some (.str z),none] h).bind cZ=.ok (.bl (cW z)) (h++g):=by
 obtain⟨y,hy,ly,e1⟩:=fgE (G:=G) (cl:=cl) hz h;obtain⟨g,e2⟩:=hc h y fgS ly;rw[hy] at e2
 have ea:((eF z).all λc=>decide (c∈fgS.cps.toList))=(eF z).all pA:=by
  congr 1;funext c;exact IC c
 rw[ea] at e2;have e3:ev G cl (.call 0 (.cons (.var 1) (.cons (.gc 1) .nil))) [some (.str z),some (.str y)] h=.ok (.bl (!(eF z).isEmpty&&(eF z).all pA)) (h++g):=kN (fP (bR rfl) (g1 _ _)) e2;have yl:y.length=(eF z).length:=by rw[<- hy];exact(gR y).symm
 refine⟨g,?_⟩;rw[aL (r':= [some (.str z),some (.str y)]) (h':=h) (bZ e1)]
 have e4:ev G cl (.or (.not (.call 0 (.cons (.var 1) (.cons (.gc 1) .nil)))) (.cmp .gt (.blt .len (.cons (.var 1) .nil)) (.gc 2))) [some (.str z),some (.str y)] h=.ok (.bl (!((!(eF z).isEmpty&&(eF z).all pA)&&decide ((eF z).length<=100)))) (h++g):=by
  rw[mL,jO e3,aC];cases hb:(!(eF z).isEmpty&&(eF z).all pA) with
  |false=>rfl
  |true=>
   show ev G cl _ _ _=_;rw[bF (mO (dQ (bR rfl)) (LC _ ly)) (g2 _ _) (WD ..),yl];congr 2;rw[Bool.true_and, <- decide_not];exact decide_eq_decide.mpr (by omega)
 cases hb:((!(eF z).isEmpty&&(eF z).all pA)&&decide ((eF z).length<=100)) with
 |false=>
  rw[hb] at e4;have:cW z=false:=by unfold cW;rw[hb,Bool.false_and]
  rw[this,aU (d:=.bl false) (h':=h++g) (by rw[bU e4,aU (bM (pG ..))])];rfl
 |true=>
  rw[hb] at e4;have:cW z=(decide (z=("0":Str))|| !((eF z).head? ==some 48)):=by unfold cW;rw[hb,Bool.true_and]
  rw[this,aL (r':= [some (.str z),some (.str y)]) (h':=h++g) (by rw[bJ e4,aT])];rw[aU (bM (d:=.bl (decide (z=("0":Str))|| !((eF z).head? ==some 48))) (h':=h++g) ?_)]
  ·rfl
  ·rw[mL,bF (bR rfl) (bL ..) (jU ..),aC,pT];cases hd:decide (z=("0":Str)) with
   |true=>rfl
   |false=>
    show ev G cl _ _ _=_
    have e5:ev G cl (.stw (.var 1) "0") [some (.str z),some (.str y)] (h++g)=.ok (.bl ((eF z).head? ==some 48)) (h++g):=by
     rw[ID,bR (x:=.str y) rfl];show Rs.ok (D.bl (Txt.startswith y ⟨#[48]⟩)) (h++g)=_;rw[uD,hy]
    exact jO e5
end
noncomputable def kS:Bool->Str
 |true=>"name"
 |false=>"number"
noncomputable def kB:Bool->Str->Bool
 |true,z=>hJ z
 |false,z=>cW z
noncomputable def aZ(z:Str):Int:=(intText? z).getD 0
noncomputable def kV:Bool->Str->D
 |true,z=>.str z
 |false,z=>.int (aZ z)
theorem eQ{z:Str}(h:cW z=true):Sm (aZ z)/\nt (aZ z)=z/\intText? z=some (aZ z):=by
 obtain⟨i,hi,rfl⟩:=EJ h;have e:=KY hi;have:aZ (nt i)=i:=by unfold aZ;rw[e];rfl
 rw[this];exact⟨hi,rfl,e⟩
theorem uS{z:Str}(h:hJ z=true)(hl:z.length<=500):NmG z:=by
 unfold hJ at h;simp only[Bool.and_eq_true,Bool.not_eq_true',List.all_eq_true] at h;refine⟨?_,hl,λc hc=>by simpa using h.2 c hc⟩;rw[<- gR];cases e:z.cps.toList with
 |nil=>rw[e] at h;cases h.1
 |cons=>simp
noncomputable def hU:List Str->List Bool->Option (List D)
 | [],[]=>some []
 |z::l,k::ks=>if kB k z then(hU l ks).map (kV k z:: ·) else none
 |_,_=>none
theorem uF:∀{l:List Str}{ks:List Bool},l.length≠ks.length->hU l ks=none
 | [],[],h=>absurd rfl h
 | [],_::_,_=>rfl
 |_::_,[],_=>rfl
 |z::l,k::ks,h=>by
  rw[hU,uF (l:=l) (ks:=ks) (by simpa using h)];split<;>rfl
section
variable {G:Gs}{cl:Cl}{W:Nat}
def Gv{α:Type}(x:Option α)(v:α->D)(h:Hh)(o:Rs D):Prop:=(∀a,x=some a->∃g,o=.ok (v a) (h++g))/\(x=none->∃r h',o=.exc 1 r h')
noncomputable abbrev rwX:Ss:=(.cons (.iff (.and (.cmp .eq (.var 1) (.str "name")) (.call 0 (.cons (.var 0) (.cons (.gc 0) .nil)))) (.cons (.ret (.var 0)) .nil) .nil) (.cons (.iff (.and (.cmp .eq (.var 1) (.str "number")) (.call 1 (.cons (.var 0) .nil))) (.cons (.ret (.itx (.var 0))) .nil) .nil) (.cons (.rais 1 Str.empty) .nil)))
noncomputable def kO(k:Bool)(z:Str):Option Unit:=if kB k z then some () else none
def MY(cl:Cl)(f:Nat):Prop:=∀(h:Hh)(z:Str)(k:Bool),z.length<=1000->Gv (kO k z) (λ_=>kV k z) h (cl f [.str z,.str (kS k)] h)
theorem eZ{s:S}{l:Ss}{r r':Ev}{h h':Hh}{c:Nat}(e:xs G cl W s r h=.exc c r' h'):bO G cl W (.cons s l) r h=.exc c r' h':=by rw[fT,e];rfl
theorem DO(g0:∀r h,ev G cl (.gc 0) r h=.ok (.str abS) h)(hc:NB cl 0)(hn:QX cl 1){h:Hh}{z:Str}{k:Bool}(hz:z.length<=1000):Gv (kO k z) (λ_=>kV k z) h ((bO G cl W rwX [some (.str z),some (.str (kS k))] h).bind cZ):=by
 cases k with
 |true=>
  obtain⟨g,e⟩:=hc h z abS hz;have ea:(z.cps.toList.all λc=>decide (c∈abS.cps.toList))=z.cps.toList.all AH:=by congr 1;funext c;exact IU c
  rw[ea] at e
  replace e:cl 0 [.str z,.str abS] h=.ok (.bl (hJ z)) (h++g):=e
  have c1:ev G cl (.and (.cmp .eq (.var 1) (.str "name")) (.call 0 (.cons (.var 0) (.cons (.gc 0) .nil)))) [some (.str z),some (.str (kS true))] h=.ok (.bl (hJ z)) (h++g):=by
   rw[iR,bF (bR rfl) (bL ..) (jU ..),aC,decide_eq_true (show kS true=Str.ofString "name" from rfl)];show ev G cl _ _ _=_;exact kN (fP (bR rfl) (g0 _ _)) e
  have c2:∀h,ev G cl (.and (.cmp .eq (.var 1) (.str "number")) (.call 1 (.cons (.var 0) .nil))) [some (.str z),some (.str (kS true))] h=.ok (.bl false) h:=λh=>by
   rw[iR,bF (bR rfl) (bL ..) (jU ..),aC,decide_eq_false (by decide)];rfl
  cases hb:hJ z with
  |true=>
   rw[hb] at c1;have ek:kO true z=some ():=by unfold kO;rw[show kB true z=true from hb];rfl
   refine⟨λa _=>⟨g,?_⟩,λq=>by rw[ek] at q;cases q⟩;rw[aU (d:=.str z) (h':=h++g) (by rw[bU c1,aU (bM (bR rfl))])];rfl
  |false=>
   rw[hb] at c1;have ek:kO true z=none:=by unfold kO;rw[show kB true z=false from hb];rfl
   refine⟨λa q=>(by rw[ek] at q;cases q),λ_=>⟨[some (.str z),some (.str (kS true))],h++g,?_⟩⟩;rw[aL (by rw[bJ c1,aT]),aL (by rw[bJ (c2 _),aT]),eZ (oH ..)];rfl
 |false=>
  obtain⟨g,e⟩:=hn h z hz
  have c1:ev G cl (.and (.cmp .eq (.var 1) (.str "name")) (.call 0 (.cons (.var 0) (.cons (.gc 0) .nil)))) [some (.str z),some (.str (kS false))] h=.ok (.bl false) h:=by
   rw[iR,bF (bR rfl) (bL ..) (jU ..),aC,decide_eq_false (by decide)];rfl
  have c2:ev G cl (.and (.cmp .eq (.var 1) (.str "number")) (.call 1 (.cons (.var 0) .nil))) [some (.str z),some (.str (kS false))] h=.ok (.bl (cW z)) (h++g):=by
   rw[iR,bF (bR rfl) (bL ..) (jU ..),aC,decide_eq_true (show kS false=Str.ofString "number" from rfl)];show ev G cl _ _ _=_;exact kN (dQ (bR rfl)) e
  cases hb:cW z with
  |true=>
   rw[hb] at c2;obtain⟨o1,o2,o3⟩:=eQ hb;have ek:kO false z=some ():=by unfold kO;rw[show kB false z=true from hb];rfl
   have c3:ev G cl (.itx (.var 0)) [some (.str z),some (.str (kS false))] (h++g)=.ok (.int (aZ z)) (h++g):=by
    rw[IJ,bR (x:=.str z) rfl,aC]
    show(if z.length<=640 then _ else _)=_
    rw[if_pos (by have:=(dI o1).2;rw[o2] at this;omega),o3]
   refine⟨λa _=>⟨g,?_⟩,λq=>by rw[ek] at q;cases q⟩;rw[aL (by rw[bJ c1,aT]),aU (d:=.int (aZ z)) (h':=h++g) (by rw[bU c2,aU (bM c3)])];rfl
  |false=>
   rw[hb] at c2;have ek:kO false z=none:=by unfold kO;rw[show kB false z=false from hb];rfl
   refine⟨λa q=>(by rw[ek] at q;cases q),λ_=>⟨[some (.str z),some (.str (kS false))],h++g,?_⟩⟩;rw[aL (by rw[bJ c1,aT]),aL (by rw[bJ c2,aT]),eZ (oH ..)];rfl
noncomputable abbrev rsX:Ss:=(.cons (.iff (.cmp .ne (.blt .len (.cons (.var 0) .nil)) (.blt .len (.cons (.var 1) .nil))) (.cons (.rais 1 Str.empty) .nil) .nil) (.cons (.rtX (.comp (.tp [0,1]) .zp (.cons (.var 0) (.cons (.var 1) .nil)) 2 (.cons (.var 0) (.cons (.var 1) .nil)) ["word","kind"] [])) .nil))
theorem BY(hr:MY cl 2){h0:Hh}{n:Nat}{l:List Str}(hl:aK h0 n=some (l.map D.str))(hm:l.length<=1000)(hw:∀z∈l,z.length<=1000):∀(ks:List Bool)(i:Nat)(r:Ev)(ys:List D)(gb:Hh),(∃a b,r=[a,b])->(l.drop i).length=ks.length->i<=l.length->ys.length<=i->
 (∀vs,hU (l.drop i) ks=some vs->∃gb',dR (.tp [0,1]) iH (dM G cl 2 (.cons (.var 0) (.cons (.var 1) .nil))) h0.length n i (ks.map λk=>D.str (kS k)) r (h0++ .lst ys::gb)=.ok () (h0++ .lst (ys++vs)::gb'))/\
 (hU (l.drop i) ks=none->∃r' h',dR (.tp [0,1]) iH (dM G cl 2 (.cons (.var 0) (.cons (.var 1) .nil))) h0.length n i (ks.map λk=>D.str (kS k)) r (h0++ .lst ys::gb)=.exc 1 r' h')
 | [],i,r,ys,gb,_,hd,hi,_=>by
   have ei:i=l.length:=by rw[List.length_drop] at hd;simp at hd;omega
   subst ei;rw[List.drop_length];refine⟨λvs hv=>⟨gb,?_⟩,λq=>by cases q⟩;cases hv;rw[Zm];simp only[List.map_nil,dR,bX _ (.lst ys::gb) hl,Zc,Zn,if_true]
 |k::ks,i,r,ys,gb,⟨a,b,er⟩,hd,hi,hy=>by
  subst er;have hlt:i<l.length:=by rw[List.length_drop,List.length_cons] at hd;omega
  rw[List.drop_eq_getElem_cons hlt] at hd⊢;have ed:(l.map D.str)[i]? =some (D.str l[i]):=by rw[Zi,Zd hlt];rfl
  have st:dO (.tp [0,1]) (.tup [.str l[i],.str (kS k)]) [a,b]=some [some (.str l[i]),some (.str (kS k))]:=rfl
  have ec:dM G cl 2 (.cons (.var 0) (.cons (.var 1) .nil)) [some (.str l[i]),some (.str (kS k))] (h0++ .lst ys::gb)=cl 2 [.str l[i],.str (kS k)] (h0++ .lst ys::gb):=by
   unfold dM;rw[fP (bR rfl) (bR rfl),cR,aC]
  have st2:∀X:List D,dR (.tp [0,1]) iH (dM G cl 2 (.cons (.var 0) (.cons (.var 1) .nil))) h0.length n i (.str (kS k)::X) [a,b] (h0++ .lst ys::gb)=(cl 2 [.str l[i],.str (kS k)] (h0++ .lst ys::gb)).bind λy h=>(eM (.ref h0.length) y h).bind λ_ h=>dR (.tp [0,1]) iH (dM G cl 2 (.cons (.var 0) (.cons (.var 1) .nil))) h0.length n (i+1) X [some (.str l[i]),some (.str (kS k))] h:=λX=>by
   rw[dR];simp only[bX _ (.lst ys::gb) hl,ed,st,aC,if_true, <- ec]
  rw[Zh,st2];obtain⟨q1,q2⟩:=hr (h0++ .lst ys::gb) l[i] k (hw _ (List.getElem_mem hlt));cases hb:kB k l[i] with
  |false=>
   obtain⟨r',h',e⟩:=q2 (by unfold kO;rw[hb];rfl);rw[e,dA];refine⟨λvs hv=>?_,λ_=>⟨_,_,rfl⟩⟩;rw[hU,hb] at hv;cases hv
  |true=>
   obtain⟨g,e⟩:=q1 () (by unfold kO;rw[hb];rfl);rw[e,aC,List.append_assoc,List.cons_append,kY _ _ _ _ (show ys.length<1000000 by omega),aC];obtain⟨z1,z2⟩:=BY hr hl hm hw ks (i+1) [some (.str l[i]),some (.str (kS k))] (ys++ [kV k l[i]]) (gb++g) ⟨_,_,rfl⟩ (by rw[List.length_cons,List.length_cons] at hd;omega) hlt (by simp;omega);rw[hU,hb,if_pos rfl];cases ht:hU (l.drop (i+1)) ks with
   |none=>exact⟨λvs hv=>(by cases hv),λ_=>z2 ht⟩
   |some ts=>
    refine⟨λvs hv=>?_,λq=>by cases q⟩;cases hv;obtain⟨gb',e'⟩:=z1 ts ht;rw[List.append_assoc] at e';exact⟨gb',e'⟩
def CP(cl:Cl)(f:Nat):Prop:=∀(h:Hh)(n:Nat)(l:List Str)(ks:List Bool),aK h n=some (l.map D.str)->l.length<=1000->(∀z∈l,z.length<=1000)->
 (∀vs,hU l ks=some vs->∃g,cl f [.ref n,.tup (ks.map λk=>D.str (kS k))] h=.ok (.ref h.length) (h++ .lst vs::g))/\(hU l ks=none->∃r h',cl f [.ref n,.tup (ks.map λk=>D.str (kS k))] h=.exc 1 r h')
theorem yG(e:EX)(r:Ev)(h:Hh):xs G cl W (.rtX e) r h=((fD G cl e r h).inn r).bind λx h=>.ok (.rt x) h:=by rw[xs]
theorem lP{e:EX}{r:Ev}{d:D}{h h':Hh}{l:Ss}(q:fD G cl e r h=.ok d h'):(bO G cl W (.cons (.rtX e) l) r h).bind cZ=.ok d h':=by
 rw[aU (by rw[yG,q,AL,aC])];rfl
theorem lQ{e:EX}{r r':Ev}{c:Nat}{h h':Hh}{l:Ss}(q:fD G cl e r h=.exc c r' h'):(bO G cl W (.cons (.rtX e) l) r h).bind cZ=.exc c r h':=by
 rw[eZ (r':=r) (h':=h') (c:=c) (by rw[yG,q,sZ,dA])];rfl
theorem DQ(hr:MY cl 2){h:Hh}{n:Nat}{l:List Str}{ks:List Bool}(hl:aK h n=some (l.map D.str))(hm:l.length<=1000)(hw:∀z∈l,z.length<=1000):
 (∀vs,hU l ks=some vs->∃g,(bO G cl W rsX [some (.ref n),some (.tup (ks.map λk=>D.str (kS k)))] h).bind cZ=.ok (.ref h.length) (h++ .lst vs::g))/\(hU l ks=none->∃r h',(bO G cl W rsX [some (.ref n),some (.tup (ks.map λk=>D.str (kS k)))] h).bind cZ=.exc 1 r h'):=by
 have c1:ev G cl (.cmp .ne (.blt .len (.cons (.var 0) .nil)) (.blt .len (.cons (.var 1) .nil))) [some (.ref n),some (.tup (ks.map λk=>D.str (kS k)))] h=.ok (.bl (!decide (l.length=ks.length))) h:=by
  rw[bF (nW rfl hl) (mO (dQ (bR (i:=1) rfl)) (by rw[xY,TZ])) (MN ..),Zc,Zc];congr 3;exact decide_eq_decide.mpr (by omega)
 by_cases hk:l.length=ks.length
 ·rw[decide_eq_true hk] at c1;rw[aL (by rw[bJ c1,aT])];obtain⟨z1,z2⟩:=BY (G:=G) hr hl hm hw ks 0 (aR ["word","kind"] [] [some (.ref n),some (.tup (ks.map λk=>D.str (kS k)))]) [] [] ⟨_,_,rfl⟩ (by simpa using hk) (Nat.zero_le _) (Zn _);rw[List.drop_zero] at z1 z2
  have ce:fD G cl (.comp (.tp [0,1]) .zp (.cons (.var 0) (.cons (.var 1) .nil)) 2 (.cons (.var 0) (.cons (.var 1) .nil)) ["word","kind"] []) [some (.ref n),some (.tup (ks.map λk=>D.str (kS k)))] h=(dR (.tp [0,1]) iH (dM G cl 2 (.cons (.var 0) (.cons (.var 1) .nil))) h.length n 0 (ks.map λk=>D.str (kS k)) (aR ["word","kind"] [] [some (.ref n),some (.tup (ks.map λk=>D.str (kS k)))]) (h++ [.lst []])).bind λ_ h'=>.ok (.ref h.length) h':=by
   rw[fD,fP (bR rfl) (bR rfl),cR,aC];rfl
  refine⟨λvs hv=>?_,λhv=>?_⟩
  ·obtain⟨g,e⟩:=z1 vs hv;exact⟨g,lP (by rw[ce,e,aC,List.nil_append])⟩
  ·obtain⟨r',h',e⟩:=z2 hv;exact⟨_,h',lQ (by rw[ce,e,dA])⟩
 ·rw[decide_eq_false hk] at c1;have rn:=uF hk;refine⟨λvs hv=>(by rw[rn] at hv;cases hv),λ_=>⟨[some (.ref n),some (.tup (ks.map λk=>D.str (kS k)))],h,?_⟩⟩;rw[eZ (by rw[bU c1,eZ (oH ..)])];rfl
end
theorem AD(c:Nat):∀L:List (List Nat),(∀w∈L,w.length<=(jl c L).length)/\L.length<=(jl c L).length+1
 | []=>⟨λw h=>(by cases h),Nat.zero_le _⟩
 | [x]=>⟨λw h=>(by rw[List.mem_singleton.mp h];exact Zn _),by show 1<=_;omega⟩
 |x::y::r=>by
  obtain⟨a,b⟩:=AD c (y::r);have e:(jl c (x::y::r)).length=x.length+(jl c (y::r)).length+1:=by show(x++c::jl c (y::r)).length=_;simp;omega
  rw[e];refine⟨λw h=>?_,by rw[List.length_cons];omega⟩;rcases List.mem_cons.mp h with rfl|h
  ·omega
  ·have:=a w h;omega
theorem qG(z:Str)(c:Nat):(∀w∈Txt.split z ⟨#[c]⟩,w.length<=z.length)/\(Txt.split z ⟨#[c]⟩).length<=z.length+1:=by
 have e:=StrLaws.join_split z ⟨#[c]⟩;obtain⟨a,b⟩:=AD c ((Txt.split z ⟨#[c]⟩).map λw=>w.cps.toList);rw[<- gC,e,gR] at a b;refine⟨λw hw=>?_,by simpa using b⟩;have:=a _ (List.mem_map.mpr ⟨w,hw,rfl⟩);rwa [gR] at this
noncomputable def qF(z:Str):Option S3:=match Txt.split z cmS with
 | [a,b,c]=>if cW a&&cW b&&cW c then some (aZ a,aZ b,aZ c) else none
 |_=>none
theorem OC{z:Str}{s:S3}(h:qF z=some s):HL s/\sw s=z:=by
 unfold qF at h;have e:=StrLaws.join_split z cmS;split at h
 ·rename_i a b c es;split at h
  ·rename_i hb;cases h;simp only[Bool.and_eq_true] at hb;obtain⟨a1,a2,_⟩:=eQ hb.1.1;obtain⟨b1,b2,_⟩:=eQ hb.1.2;obtain⟨c1,c2,_⟩:=eQ hb.2;refine⟨⟨a1,b1,c1⟩,?_⟩;unfold sw;rw[a2,b2,c2, <- es,e]
  ·cases h
 ·cases h
theorem OB(z:Str):hU (Txt.split z cmS) [false,false,false]=(qF z).map λs=>[.int s.1,.int s.2.1,.int s.2.2]:=by
 unfold qF;generalize Txt.split z cmS=l
 match l with
 | []=>rfl
 | [a]=>simp only[hU];split<;>rfl
 | [a,b]=>simp only[hU];split<;>try rfl
          split<;>rfl
 | [a,b,c]=>
   simp only[hU,kB,kV]
   by_cases ha:cW a=true<;>by_cases hb:cW b=true<;>by_cases hc:cW c=true<;>simp[ha,hb,hc]
 |a::b::c::d::r=>
  simp only[hU,Option.map_none];split<;>try rfl
  split<;>try rfl
  split<;>rfl
noncomputable def rT:List Str->Option (List S3)
 | []=>some []
 |z::l=>match qF z with
  |some s=>(rT l).map (s:: ·)
  |none=>none
theorem yP:∀{l:List Str}{S:List S3},rT l=some S->(∀s∈S,HL s)/\S.map sw=l
 | [],S,h=>by cases h;exact⟨λs hs=>(by cases hs),rfl⟩
 |z::l,S,h=>by
  rw[rT] at h;split at h
  ·rename_i s hs;cases ht:rT l with
   |none=>rw[ht] at h;cases h
   |some T=>
    rw[ht] at h;cases h;obtain⟨a,b⟩:=yP ht;obtain⟨c,d⟩:=OC hs;refine⟨λx hx=>?_,by rw[Zh,d,b]⟩;rcases List.mem_cons.mp hx with rfl|hx
    ·exact c
    ·exact a x hx
  ·cases h
structure Pt where
 nm:Str
 w:Int
 t:Int
 l:Int
 S:List S3
noncomputable def Pt.d(p:Pt):D:=.tup [.str p.nm,.int p.w,.int p.t,.int p.l,.tup (p.S.map gF)]
noncomputable def DW:List Str->Option Pt
 |a::b::c::e::T=>if hJ a&&cW b&&cW c&&cW e then(rT T).map (λS=>⟨a,aZ b,aZ c,aZ e,S⟩) else none
 |_=>none
noncomputable def QH:List Str->Option Dd
 | [a]=>if hJ a then some (.drop a) else none
 |_=>none
noncomputable def GZ:List Str->Option Dd
 | [a,b,c,d,e]=>if hJ a&&hJ b&&cW c&&cW d&&cW e then some (.tie a b (aZ c,aZ d,aZ e)) else none
 |_=>none
noncomputable def NN:List Str->Option Dd
 | [a]=>if cW a then some (.untie (aZ a)) else none
 |_=>none
noncomputable def zD:List Str->Option Dd
 | []=>none
 |w::l=>if w="put" then(DW l).map (λp=>.put p.nm p.w p.t p.l p.S) else
  if w="drop" then QH l else
  if w="tie" then GZ l else
  if w="untie" then NN l else none
theorem OJ{V:List Str}{d:Dd}(hw:∀z∈V,z.length<=500)(hl:V.length<=90)(h:zD V=some d):d.ok/\V=d.hd::d.rs:=by
 match V with
 | []=>cases h
 |w::l=>
  rw[zD] at h;split at h
  ·rename_i e;subst e
   match l,h with
   |a::b::c::e::T,h=>
    rw[DW] at h;split at h
    ·rename_i hb;simp only[Bool.and_eq_true] at hb;obtain⟨b1,b2,_⟩:=eQ hb.1.1.2;obtain⟨c1,c2,_⟩:=eQ hb.1.2;obtain⟨e1,e2,_⟩:=eQ hb.2;cases hs:rT T with
     |none=>rw[hs] at h;cases h
     |some S=>
      rw[hs] at h;cases h;obtain⟨s1,s2⟩:=yP hs;refine⟨⟨uS hb.1.1.1 (hw _ (by simp)),b1,c1,e1,?_,s1⟩,?_⟩
      ·have:S.length=T.length:=by rw[<- s2,Zc]
       show S.length<=90;simp only[List.length_cons] at hl;omega
      ·show _=Str.ofString "put"::([a,nt (aZ b),nt (aZ c),nt (aZ e)]++S.map sw);rw[b2,c2,e2,s2];rfl
    ·cases h
   | [],h=>cases h
   | [_],h=>cases h
   | [_,_],h=>cases h
   | [_,_,_],h=>cases h
  split at h
  ·rename_i e;subst e
   match l,h with
   | [a],h=>
     rw[QH] at h;split at h
     ·rename_i hb;cases h;exact⟨uS hb (hw _ (by simp)),rfl⟩
     ·cases h
   | [],h=>cases h
   |_::_::_,h=>cases h
  split at h
  ·rename_i e;subst e
   match l,h with
   | [a,b,c,d,e],h=>
     rw[GZ] at h;split at h
     ·rename_i hb;cases h;simp only[Bool.and_eq_true] at hb;obtain⟨c1,c2,_⟩:=eQ hb.1.1.2;obtain⟨d1,d2,_⟩:=eQ hb.1.2;obtain⟨e1,e2,_⟩:=eQ hb.2;refine⟨⟨uS hb.1.1.1.1 (hw _ (by simp)),uS hb.1.1.1.2 (hw _ (by simp)),c1,d1,e1⟩,?_⟩;show _=Str.ofString "tie":: [a,b,nt (aZ c),nt (aZ d),nt (aZ e)];rw[c2,d2,e2]
     ·cases h
   | [],h=>cases h
   | [_],h=>cases h
   | [_,_],h=>cases h
   | [_,_,_],h=>cases h
   | [_,_,_,_],h=>cases h
   |_::_::_::_::_::_::_,h=>cases h
  split at h
  ·rename_i e;subst e
   match l,h with
   | [a],h=>
     rw[NN] at h;split at h
     ·rename_i hb;cases h;obtain⟨a1,a2,_⟩:=eQ hb;refine⟨a1,?_⟩;show _=Str.ofString "untie":: [nt (aZ _)];rw[a2]
     ·cases h
   | [],h=>cases h
   |_::_::_,h=>cases h
  ·cases h
section
variable {G:Gs}{cl:Cl}{W:Nat}
noncomputable abbrev UA:Ss:=(.cons (.rtX (.tupc (.call 3 (.cons (.spl (.var 0) ",") (.cons (.tup (.cons (.str "number") (.cons (.str "number") (.cons (.str "number") .nil)))) .nil))))) .nil)
def MZ(cl:Cl)(f:Nat):Prop:=∀(h:Hh)(z:Str),z.length<=500->Gv (qF z) gF h (cl f [.str z] h)
theorem LZ(z:Str)(c:Nat){i:Nat}{r:Ev}{h:Hh}(hz:z.length<=100000)(hr:r[i]? =some (some (.str z))):ev G cl (.spl (.var i) ⟨#[c]⟩) r h=.ok (.ref h.length) (h++ [O.lst ((Txt.split z ⟨#[c]⟩).map D.str)]):=by
 rw[IE,bR hr,aC]
 show(if z.length<=100000/\(1:Nat)=1 then Rs.ok (D.ref h.length) (h++ [O.lst ((Txt.split z ⟨#[c]⟩).map D.str)]) else .bad)=_
 rw[if_pos ⟨hz,rfl⟩]
theorem cG{f:Nat}{l:Es}{ds:List D}{r:Ev}{h h1:Hh}{o:Rs D}(hl:cM G cl l r h=.ok ds h1)(hc:cl f ds h1=o):fD G cl (.call f l) r h=o:=by
 rw[fD]
 show(cM G cl l r h).nx.bind _=_
 rw[hl,cR,aC,hc]
theorem DP(hr:CP cl 3){h:Hh}{z:Str}(hz:z.length<=500):Gv (qF z) gF h ((bO G cl W UA [some (.str z)] h).bind cZ):=by
 have c1:ev G cl (.spl (.var 0) ",") [some (.str z)] h=.ok (.ref h.length) (h++ [O.lst ((Txt.split z cmS).map D.str)]):=LZ z 44 (by omega) rfl
 have c2:ev G cl (.tup (.cons (.str "number") (.cons (.str "number") (.cons (.str "number") .nil)))) [some (.str z)] (h++ [O.lst ((Txt.split z cmS).map D.str)])=.ok (.tup ([false,false,false].map λk=>D.str (kS k))) (h++ [O.lst ((Txt.split z cmS).map D.str)]):=by
  simp[kS]
 obtain⟨sl1,sl2⟩:=qG z 44;obtain⟨q1,q2⟩:=hr (h++ [O.lst ((Txt.split z cmS).map D.str)]) h.length (Txt.split z cmS) [false,false,false] (bD _ _) (by have:(Txt.split z cmS).length<=z.length+1:=sl2;omega) (λw hw=>by have:=sl1 w hw;omega);rw[OB] at q1 q2;refine⟨λs hs=>?_,λhs=>?_⟩
 ·obtain⟨g,e⟩:=q1 _ (by rw[hs];rfl);refine⟨[O.lst ((Txt.split z cmS).map D.str)]++O.lst [.int s.1,.int s.2.1,.int s.2.2]::g,?_⟩;rw[<- List.append_assoc];refine lP ?_;rw[fD,cG (fP c1 c2) e,aC];have t:=sD (cA (h++ [O.lst ((Txt.split z cmS).map D.str)]) g [.int s.1,.int s.2.1,.int s.2.2])
  replace t:sE (.ref (h++ [O.lst ((Txt.split z cmS).map D.str)]).length) _=_:=t
  rw[t,cR];rfl
 ·obtain⟨r',h',e⟩:=q2 (by rw[hs];rfl);exact⟨_,_,lQ (by rw[fD,cG (fP c1 c2) e,dA])⟩
noncomputable abbrev rpX:Ss:=(.cons (.asX [1,2,3,4] (.call 3 (.cons (.slU (.var 0) (.int 4)) (.cons (.tup (.cons (.str "name") (.cons (.str "number") (.cons (.str "number") (.cons (.str "number") .nil))))) .nil)))) (.cons (.rtX (.tpl (.cons (.var 1) (.cons (.var 2) (.cons (.var 3) (.cons (.var 4) .nil)))) (.tupc (.comp (.nm 0) .sq (.cons (.slL (.var 0) (.int 4)) .nil) 4 (.cons (.var 0) .nil) ["word"] [])))) .nil))
theorem CA(hr:MZ cl 4){h0:Hh}{n:Nat}{l:List Str}(hl:aK h0 n=some (l.map D.str))(hm:l.length<=1000)(hw:∀z∈l,z.length<=500):∀(k i:Nat)(r:Ev)(ys:List D)(gb:Hh),(∃a,r=[a])->i+k=l.length->ys.length<=i->
 (∀vs,rT (l.drop i)=some vs->∃gb',cO (.nm 0) iH (dM G cl 4 (.cons (.var 0) .nil)) h0.length n (k+1) i r (h0++O.lst ys::gb)=.ok () (h0++O.lst (ys++vs.map gF)::gb'))/\
 (rT (l.drop i)=none->∃r' h',cO (.nm 0) iH (dM G cl 4 (.cons (.var 0) .nil)) h0.length n (k+1) i r (h0++O.lst ys::gb)=.exc 1 r' h')
 |0,i,r,ys,gb,_,hi,_=>by
  have ei:i=l.length:=by omega
  subst ei;rw[List.drop_length];refine⟨λvs hv=>⟨gb,?_⟩,λq=>by cases q⟩;cases hv;rw[List.map_nil,Zm];simp only[cO,bX _ (.lst ys::gb) hl,Zi,List.getElem?_eq_none (Zn _),Option.map_none]
 |k+1,i,r,ys,gb,⟨a,er⟩,hi,hy=>by
  subst er;have hlt:i<l.length:=by omega
  rw[List.drop_eq_getElem_cons hlt];have ed:(l.map D.str)[i]? =some (D.str l[i]):=by rw[Zi,Zd hlt];rfl
  have st:dO (.nm 0) (.str l[i]) [a]=some [some (.str l[i])]:=rfl
  have ec:dM G cl 4 (.cons (.var 0) .nil) [some (.str l[i])] (h0++O.lst ys::gb)=cl 4 [.str l[i]] (h0++O.lst ys::gb):=by
   unfold dM;rw[dQ (bR rfl),cR,aC]
  have st2:cO (.nm 0) iH (dM G cl 4 (.cons (.var 0) .nil)) h0.length n (k+1+1) i [a] (h0++O.lst ys::gb)=(cl 4 [.str l[i]] (h0++O.lst ys::gb)).bind λy h=>(eM (.ref h0.length) y h).bind λ_ h=>cO (.nm 0) iH (dM G cl 4 (.cons (.var 0) .nil)) h0.length n (k+1) (i+1) [some (.str l[i])] h:=by
   rw[cO];simp only[bX _ (.lst ys::gb) hl,ed,st,aC,if_true, <- ec]
  rw[st2,rT];obtain⟨q1,q2⟩:=hr (h0++O.lst ys::gb) l[i] (hw _ (List.getElem_mem hlt));cases hb:qF l[i] with
  |none=>
   obtain⟨r',h',e⟩:=q2 hb;rw[e,dA];exact⟨λvs hv=>(by cases hv),λ_=>⟨_,_,rfl⟩⟩
  |some s=>
   obtain⟨g,e⟩:=q1 s hb;rw[e,aC,List.append_assoc,List.cons_append,kY _ _ _ _ (show ys.length<1000000 by omega),aC];obtain⟨z1,z2⟩:=CA hr hl hm hw k (i+1) [some (.str l[i])] (ys++ [gF s]) (gb++g) ⟨_,rfl⟩ (by omega) (by simp;omega);cases ht:rT (l.drop (i+1)) with
   |none=>exact⟨λvs hv=>(by cases hv),λ_=>z2 ht⟩
   |some ts=>
    refine⟨λvs hv=>?_,λq=>by cases q⟩;cases hv;obtain⟨gb',e'⟩:=z1 ts ht;rw[List.append_assoc] at e';exact⟨gb',e'⟩
noncomputable def UM:List Str->Option (List D)
 |a::b::c::e::_=>if hJ a&&cW b&&cW c&&cW e then some [.str a,.int (aZ b),.int (aZ c),.int (aZ e)] else none
 |_=>none
theorem ON(l:List Str):hU (l.take 4) [true,false,false,false]=UM l:=by
 match l with
 | []=>rfl
 | [a]=>simp only[List.take,hU];split<;>rfl
 | [a,b]=>simp only[List.take,hU];split<;>try rfl
          split<;>rfl
 | [a,b,c]=>simp only[List.take,hU];split<;>try rfl
            split<;>try rfl
            split<;>rfl
 |a::b::c::e::T=>
  simp only[List.take,hU,kB,kV,UM]
  by_cases ha:hJ a=true<;>by_cases hb:cW b=true<;>by_cases hc:cW c=true<;>by_cases he:cW e=true<;>simp[ha,hb,hc,he]
def QT(cl:Cl)(f:Nat):Prop:=∀(h:Hh)(n:Nat)(l:List Str),aK h n=some (l.map D.str)->l.length<=1000->(∀z∈l,z.length<=500)->Gv (DW l) Pt.d h (cl f [.ref n] h)
theorem GW(l:List Nat)(e:EX)(r:Ev)(h:Hh):xs G cl W (.asX l e) r h=((fD G cl e r h).inn r).bind λx h=>match x with
 |.ref n=>(match aK h n with
  |some ds=>if ds.length=l.length then .ok (.nx (dH l ds r)) h else .bad
  |none=>.bad)
 |_=>.bad:=by rw[xs]<;>rfl
theorem CM{l:List Nat}{e:EX}{r:Ev}{n:Nat}{ds:List D}{h h':Hh}(q:fD G cl e r h=.ok (.ref n) h')(hn:aK h' n=some ds)(hd:ds.length=l.length):xs G cl W (.asX l e) r h=.ok (.nx (dH l ds r)) h':=by
 rw[GW,q,AL,aC];simp only[hn,hd,if_true]
theorem jW{l:List Nat}{e:EX}{r r':Ev}{c:Nat}{h h':Hh}(q:fD G cl e r h=.exc c r' h'):xs G cl W (.asX l e) r h=.exc c r h':=by
 rw[GW,q,sZ,dA]
theorem DR(hr:CP cl 3)(ht:MZ cl 4){h:Hh}{n:Nat}{l:List Str}(hl:aK h n=some (l.map D.str))(hm:l.length<=1000)(hw:∀z∈l,z.length<=500):Gv (DW l) Pt.d h ((bO G cl W rpX [some (.ref n),none,none,none,none] h).bind cZ):=by
 have c1:ev G cl (.slU (.var 0) (.int 4)) [some (.ref n),none,none,none,none] h=.ok (.ref h.length) (h++ [O.lst ((l.take 4).map D.str)]):=by
  rw[AX,bR (x:=.ref n) rfl,aC,aN,aC,yV hl (by decide),List.map_take];rfl
 have c2:ev G cl (.tup (.cons (.str "name") (.cons (.str "number") (.cons (.str "number") (.cons (.str "number") .nil))))) [some (.ref n),none,none,none,none] (h++ [O.lst ((l.take 4).map D.str)])=.ok (.tup ([true,false,false,false].map λk=>D.str (kS k))) (h++ [O.lst ((l.take 4).map D.str)]):=by
  simp[kS]
 obtain⟨q1,q2⟩:=hr (h++ [O.lst ((l.take 4).map D.str)]) h.length (l.take 4) [true,false,false,false] (bD _ _) (by rw[List.length_take];omega) (λz hz=>by have:=hw z (List.mem_of_mem_take hz);omega);rw[ON] at q1 q2;have bad:∀{o:Rs Fl},(∃r h',o=.exc 1 r h')->∃r h',o.bind cZ=.exc 1 r h':=λ⟨r,h',e⟩=>⟨r,h',by rw[e];rfl⟩
 match l,hl,hm,hw,c1,c2,q1,q2 with
 |a::b::c::e::T,hl,hm,hw,c1,c2,q1,q2=>
  rw[DW];rw[UM] at q1 q2;cases hb:(hJ a&&cW b&&cW c&&cW e) with
  |false=>
   rw[hb] at q2;refine⟨λp hp=>(by cases hp),λ_=>?_⟩;obtain⟨r',h',q⟩:=q2 rfl;exact⟨_,h',by rw[eZ (jW (cG (fP c1 c2) q))];rfl⟩
  |true=>
   rw[hb] at q1;obtain⟨g,q⟩:=q1 _ rfl;have la:=cA (h++ [O.lst (((a::b::c::e::T).take 4).map D.str)]) g [.str a,.int (aZ b),.int (aZ c),.int (aZ e)];have q':=cG (fP c1 c2) q
   have lb:aK (h++ [O.lst (((a::b::c::e::T).take 4).map D.str)]++O.lst [.str a,.int (aZ b),.int (aZ c),.int (aZ e)]::g) n=some ((a::b::c::e::T).map D.str):=by
    rw[List.append_assoc];exact bX _ _ hl
   have eh:∃g',h++ [O.lst (((a::b::c::e::T).take 4).map D.str)]++O.lst [.str a,.int (aZ b),.int (aZ c),.int (aZ e)]::g=h++g':=⟨_,List.append_assoc ..⟩;generalize h++ [O.lst (((a::b::c::e::T).take 4).map D.str)]++O.lst [.str a,.int (aZ b),.int (aZ c),.int (aZ e)]::g=h2 at q' la lb eh;obtain⟨g',rfl⟩:=eh;have s1:xs G cl W (.asX [1,2,3,4] (.call 3 (.cons (.slU (.var 0) (.int 4)) (.cons (.tup (.cons (.str "name") (.cons (.str "number") (.cons (.str "number") (.cons (.str "number") .nil))))) .nil)))) [some (.ref n),none,none,none,none] h=.ok (.nx [some (.ref n),some (.str a),some (.int (aZ b)),some (.int (aZ c)),some (.int (aZ e))]) (h++g'):=CM q' la rfl;rw[aL s1,if_pos rfl]
   have c4:ev G cl (.slL (.var 0) (.int 4)) [some (.ref n),some (.str a),some (.int (aZ b)),some (.int (aZ c)),some (.int (aZ e))] (h++g')=.ok (.ref (h++g').length) (h++g'++ [O.lst (T.map D.str)]):=by
    rw[AY,bR (x:=.ref n) rfl,aC,aN,aC,yX lb (by decide)];rfl
   have hT:T.length<=1000:=by simp only[List.length_cons] at hm;omega
   obtain⟨z1,z2⟩:=CA (G:=G) ht (h0:=h++g'++ [O.lst (T.map D.str)]) (n:=(h++g').length) (l:=T) (bD _ _) hT (λz hz=>hw z (by simp[hz])) T.length 0 (aR ["word"] [] [some (.ref n),some (.str a),some (.int (aZ b)),some (.int (aZ c)),some (.int (aZ e))]) [] [] ⟨_,rfl⟩ (by omega) (Zn _);rw[List.drop_zero] at z1 z2
   have e4:cM G cl (.cons (.var 1) (.cons (.var 2) (.cons (.var 3) (.cons (.var 4) .nil)))) [some (.ref n),some (.str a),some (.int (aZ b)),some (.int (aZ c)),some (.int (aZ e))] (h++g')=.ok [.str a,.int (aZ b),.int (aZ c),.int (aZ e)] (h++g'):=by
    rw[aO,bR (x:=.str a) rfl,aC,aO,bR (x:=.int (aZ b)) rfl,aC,aO,bR (x:=.int (aZ c)) rfl,aC,aO,bR (x:=.int (aZ e)) rfl,aC,cT];rfl
   have ce:fD G cl (.comp (.nm 0) .sq (.cons (.slL (.var 0) (.int 4)) .nil) 4 (.cons (.var 0) .nil) ["word"] []) [some (.ref n),some (.str a),some (.int (aZ b)),some (.int (aZ c)),some (.int (aZ e))] (h++g')=(cO (.nm 0) iH (dM G cl 4 (.cons (.var 0) .nil)) (h++g'++ [O.lst (T.map D.str)]).length (h++g').length (T.length+1) 0 (aR ["word"] [] [some (.ref n),some (.str a),some (.int (aZ b)),some (.int (aZ c)),some (.int (aZ e))]) (h++g'++ [O.lst (T.map D.str)]++ [O.lst []])).bind λ_ h'=>.ok (.ref (h++g'++ [O.lst (T.map D.str)]).length) h':=by
    rw[fD,dQ c4,cR,aC];simp only[dC,bD,Zc]
   cases hs:rT T with
   |none=>
    refine⟨λp hp=>(by cases hp),λ_=>?_⟩;obtain⟨r',h',q⟩:=z2 hs;exact⟨_,h',lQ (by rw[fD,e4,cR,aC,fD,ce,q,dA,dA,dA])⟩
   |some S=>
    refine⟨λp hp=>?_,λhp=>by cases hp⟩;cases hp;obtain⟨g3,q⟩:=z1 S hs;rw[List.nil_append] at q;refine⟨g'++([O.lst (T.map D.str)]++O.lst (S.map gF)::g3),?_⟩;rw[<- List.append_assoc, <- List.append_assoc];refine lP ?_;have t:=sD (cA (h++g'++ [O.lst (T.map D.str)]) g3 (S.map gF))
    replace t:sE (.ref (h++g'++ [O.lst (T.map D.str)]).length) _=_:=t
    rw[fD,e4,cR,aC,fD,ce,q,aC,aC,t,cR,aC];rfl
 | [],_,_,_,c1,c2,q1,q2=>
   refine⟨λp hp=>(by cases hp),λ_=>?_⟩;obtain⟨r',h',q⟩:=q2 rfl;exact⟨_,h',by rw[eZ (jW (cG (fP c1 c2) q))];rfl⟩
 | [_],_,_,_,c1,c2,q1,q2=>
   refine⟨λp hp=>(by cases hp),λ_=>?_⟩;obtain⟨r',h',q⟩:=q2 rfl;exact⟨_,h',by rw[eZ (jW (cG (fP c1 c2) q))];rfl⟩
 | [_,_],_,_,_,c1,c2,q1,q2=>
   refine⟨λp hp=>(by cases hp),λ_=>?_⟩;obtain⟨r',h',q⟩:=q2 rfl;exact⟨_,h',by rw[eZ (jW (cG (fP c1 c2) q))];rfl⟩
 | [_,_,_],_,_,_,c1,c2,q1,q2=>
   refine⟨λp hp=>(by cases hp),λ_=>?_⟩;obtain⟨r',h',q⟩:=q2 rfl;exact⟨_,h',by rw[eZ (jW (cG (fP c1 c2) q))];rfl⟩
end
section
variable {G:Gs}{cl:Cl}{W:Nat}
noncomputable abbrev rdX:Ss:=(.cons (.asgS 1 2 (.spl (.var 0) " ")) (.cons (.iff (.cmp .eq (.var 1) (.str "put")) (.cons (.rtX (.cat (.tup (.cons (.str "put") .nil)) (.call 5 (.cons (.var 2) .nil)))) .nil) .nil) (.cons (.iff (.cmp .eq (.var 1) (.str "drop")) (.cons (.rtX (.tpl (.cons (.str "drop") .nil) (.ix (.call 3 (.cons (.var 2) (.cons (.tup (.cons (.str "name") .nil)) .nil))) (.int 0)))) .nil) .nil) (.cons (.iff (.cmp .eq (.var 1) (.str "tie")) (.cons (.asX [3,4,5,6,7] (.call 3 (.cons (.var 2) (.cons (.tup (.cons (.str "name") (.cons (.str "name") (.cons (.str "number") (.cons (.str "number") (.cons (.str "number") .nil)))))) .nil)))) (.cons (.ret (.tup (.cons (.str "tie") (.cons (.var 3) (.cons (.var 4) (.cons (.tup (.cons (.var 5) (.cons (.var 6) (.cons (.var 7) .nil)))) .nil)))))) .nil)) .nil) (.cons (.iff (.cmp .eq (.var 1) (.str "untie")) (.cons (.rtX (.tpl (.cons (.str "untie") .nil) (.ix (.call 3 (.cons (.var 2) (.cons (.tup (.cons (.str "number") .nil)) .nil))) (.int 0)))) .nil) .nil) (.cons (.rais 1 Str.empty) .nil))))))
noncomputable def RQ(k:Bool):List Str->Option (List D)
 | [a]=>if kB k a then some [kV k a] else none
 |_=>none
noncomputable def onD(k:Bool)(a:Str):Dd:=match k with
 |true=>.drop a
 |false=>.untie (aZ a)
noncomputable def RP(k:Bool):List Str->Option Dd
 | [a]=>if kB k a then some (onD k a) else none
 |_=>none
noncomputable def onS:Bool->Str
 |true=>"drop"
 |false=>"untie"
theorem SV(x:Str)(r:Ev)(h:Hh):ev G cl (.tup (.cons (.str x) .nil)) r h=.ok (.tup [.str x]) h:=by simp
theorem rw1(k:Bool)(l:List Str):hU l [k]=RQ k l:=by
 match l with
 | []=>rfl
 | [a]=>simp only[hU,RQ];split<;>rfl
 |a::b::r=>simp only[hU];split<;>rfl
theorem rw5(l:List Str):hU l [true,true,false,false,false]=(GZ l).map λd=>match d with|.tie a b m=>[.str a,.str b,.int m.1,.int m.2.1,.int m.2.2]|_=>[]:=by
 match l with
 | []=>rfl
 | [a]=>simp only[hU];split<;>rfl
 | [a,b]=>simp only[hU];split<;>try rfl
          split<;>rfl
 | [a,b,c]=>simp only[hU];split<;>try rfl
            split<;>try rfl
            split<;>rfl
 | [a,b,c,d]=>simp only[hU];split<;>try rfl
              split<;>try rfl
              split<;>try rfl
              split<;>rfl
 | [a,b,c,d,e]=>
   simp only[hU,kB,kV,GZ]
   by_cases ha:hJ a=true<;>by_cases hb:hJ b=true<;>by_cases hc:cW c=true<;>by_cases hd:cW d=true<;>by_cases he:cW e=true<;>simp[ha,hb,hc,hd,he]
 |a::b::c::d::e::f::r=>
  simp only[hU,GZ,Option.map_none];split<;>try rfl
  split<;>try rfl
  split<;>try rfl
  split<;>try rfl
  split<;>rfl
def QU(cl:Cl)(f:Nat):Prop:=∀(h:Hh)(z:Str),z.length<=100000->(Txt.split z bkS).length<=1000->(∀w∈Txt.split z bkS,w.length<=500)->Gv (zD (Txt.split z bkS)) Dd.d h (cl f [.str z] h)
theorem rB{i:Nat}{x:Str}{A Z:Ss}{r:Ev}{h:Hh}(hr:r[i]? =some (some (.str x))):xs G cl W (.iff (.cmp .eq (.var i) (.str x)) A .nil) r h=bO G cl W A r h:=by
 rw[bU (by rw[bF (bR hr) (bL ..) (jU ..),decide_eq_true rfl])]
theorem zV(hr:CP cl 3){h:Hh}{l:List Str}{n:Nat}{k:Bool}{r:Ev}(hl:aK h n=some (l.map D.str))(hm:l.length<=1000)(hw:∀w∈l,w.length<=500)(r2:r[2]? =some (some (.ref n))){Z:Ss}:
 Gv (RP k l) Dd.d h ((bO G cl W (.cons (.rtX (.tpl (.cons (.str (onS k)) .nil) (.ix (.call 3 (.cons (.var 2) (.cons (.tup (.cons (.str (kS k)) .nil)) .nil))) (.int 0)))) Z) r h).bind cZ):=by
 obtain⟨q1,q2⟩:=hr h n l [k] hl hm (λw hw'=>by have:=hw w hw';omega);rw[rw1] at q1 q2;have c:∀{o},cl 3 [.ref n,.tup ([k].map λk=>D.str (kS k))] h=o->fD G cl (.call 3 (.cons (.var 2) (.cons (.tup (.cons (.str (kS k)) .nil)) .nil))) r h=o:=λq=>cG (fP (bR r2) (SV ..)) q
 have no:RQ k l=none->∃r' h',((bO G cl W (.cons (.rtX (.tpl (.cons (.str (onS k)) .nil) (.ix (.call 3 (.cons (.var 2) (.cons (.tup (.cons (.str (kS k)) .nil)) .nil))) (.int 0)))) Z) r h).bind cZ)=.exc 1 r' h':=λq=>by
  obtain⟨r',h',q⟩:=q2 q;exact⟨_,h',lQ (by rw[fD,dQ (bL ..),cR,aC,fD,c q,dA,dA])⟩
 clear hl hm hw q2
 match l with
 | []=>exact⟨λa q=>(by cases q),λ_=>no rfl⟩
 |_::_::_=>exact⟨λa q=>(by cases q),λ_=>no rfl⟩
 | [a]=>
   rw[RP];rw[RQ] at q1 no
   by_cases hb:kB k a=true
   ·rw[if_pos hb] at q1⊢;refine⟨λd q=>?_,λq=>by cases q⟩;cases q;obtain⟨g,q⟩:=q1 _ rfl;refine⟨.lst [kV k a]::g,lP ?_⟩
    have ix:kK (.ref h.length) (.int 0) (h++ .lst [kV k a]::g)=.ok (kV k a) (h++ .lst [kV k a]::g):=by
     rw[jL _ _ (cA ..)];rfl
    rw[fD,dQ (bL ..),cR,aC,fD,c q,aC,aN,cR,aC,ix,cR,aC];cases k<;>rfl
   ·rw[if_neg hb] at no⊢;exact⟨λd q=>(by cases q),λ_=>no rfl⟩
theorem DS(hr:CP cl 3)(hp:QT cl 5){h:Hh}{z:Str}(hz:z.length<=100000)(hm:(Txt.split z bkS).length<=1000)(hw:∀w∈Txt.split z bkS,w.length<=500):Gv (zD (Txt.split z bkS)) Dd.d h ((bO G cl W rdX [some (.str z),none,none,none,none,none,none,none] h).bind cZ):=by
 have c1:ev G cl (.spl (.var 0) " ") [some (.str z),none,none,none,none,none,none,none] h=.ok (.ref h.length) (h++ [O.lst ((Txt.split z bkS).map D.str)]):=LZ z 32 hz rfl;have ne:=qH z bkS;cases hs:Txt.split z bkS with
 |nil=>exact absurd hs ne
 |cons w l=>
 rw[hs] at c1 hm hw;have hm':l.length<=1000:=by rw[List.length_cons] at hm;omega
 have hw':∀x∈l,x.length<=500:=λx hx=>hw x (Zj _ hx)
 have s1:xs G cl W (.asgS 1 2 (.spl (.var 0) " ")) [some (.str z),none,none,none,none,none,none,none] h=.ok (.nx [some (.str z),some (.str w),some (.ref (h++ [O.lst ((w::l).map D.str)]).length),none,none,none,none,none]) (h++ [O.lst ((w::l).map D.str)]++ [O.lst (l.map D.str)]):=by
  rw[JC,c1,cR,aC];have e:dY (.ref h.length) (h++ [O.lst ((w::l).map D.str)])=some (.str w::l.map D.str):=bD _ _;simp only[e];rw[if_pos (by rw[Zc];exact hm')];rfl
 rw[aL s1];have ll:aK (h++ [O.lst ((w::l).map D.str)]++ [O.lst (l.map D.str)]) (h++ [O.lst ((w::l).map D.str)]).length=some (l.map D.str):=bD _ _;have eh:∃g',h++ [O.lst ((w::l).map D.str)]++ [O.lst (l.map D.str)]=h++g':=⟨_,List.append_assoc ..⟩;generalize (h++ [O.lst ((w::l).map D.str)]).length=n at ll⊢;generalize h++ [O.lst ((w::l).map D.str)]++ [O.lst (l.map D.str)]=h2 at ll eh⊢;obtain⟨g',rfl⟩:=eh
 have up:∀{O:Option Dd}{o:Rs D},Gv O Dd.d (h++g') o->Gv O Dd.d h o:=λ⟨a,b⟩=>⟨λd q=>by
  obtain⟨g,e⟩:=a d q;exact⟨g'++g,by rw[e,List.append_assoc]⟩,b⟩
 refine up ?_;rw[zD]
 have fin:∀{A Z:Ss}{r:Ev}{h:Hh}{s:S},xs G cl W s r h=bO G cl W A r h->(∀r' h',bO G cl W A r h≠ .ok (.nx r') h')->(bO G cl W (.cons s Z) r h).bind cZ=(bO G cl W A r h).bind cZ:=λ{A Z r h s} e n=>by
  rw[fT,e];cases hq:bO G cl W A r h with
  |ok fl h'=>cases fl with
   |nx r'=>exact absurd hq (n r' h')
   |rt d=>rfl
   |bk r=>rfl
   |ct r=>rfl
  |exc c r' h'=>rfl
  |bad=>rfl
 have nr:∀{e:EX}{r:Ev}{h:Hh}(r':Ev)(h':Hh),bO G cl W (.cons (.rtX e) .nil) r h≠ .ok (.nx r') h':=λ{e r h} r' h' q=>by
  rw[fT,yG] at q;cases hq:fD G cl e r h with
  |ok d h2=>rw[hq] at q;cases q
  |exc c r2 h2=>rw[hq] at q;cases q
  |bad=>rw[hq] at q;cases q
 by_cases p1:w=Str.ofString "put"
 ·rw[if_pos p1];subst p1;rw[fin (rB (Z:=.nil) (i:=1) (x:="put") rfl) nr];obtain⟨q1,q2⟩:=hp (h++g') n l ll hm' hw';refine⟨λd q=>?_,λq=>?_⟩
  ·cases hpl:DW l with
   |none=>rw[hpl] at q;cases q
   |some p=>
    rw[hpl] at q;cases q;obtain⟨g,e⟩:=q1 p hpl;refine⟨g,lP ?_⟩;rw[fD,SV,cR,aC,cG (dQ (bR (i:=2) rfl)) e,aC];rfl
  ·have hpl:DW l=none:=by
    cases hpl:DW l with
    |none=>rfl
    |some p=>rw[hpl] at q;cases q
   obtain⟨r',h',e⟩:=q2 hpl;exact⟨_,h',lQ (by rw[fD,SV,cR,aC,cG (dQ (bR (i:=2) rfl)) e,dA])⟩
 rw[if_neg p1,uY (i:=1) (z:=w) rfl p1]
 by_cases p2:w=Str.ofString "drop"
 ·rw[if_pos p2];subst p2;rw[fin (rB (Z:=.nil) (i:=1) (x:="drop") rfl) nr]
  have e:QH l=RP true l:=by
   match l with
   | []=>rfl
   | [a]=>rfl
   |_::_::_=>rfl
  rw[e];exact zV hr (k:=true) ll hm' hw' rfl
 rw[if_neg p2,uY (i:=1) (z:=w) rfl p2]
 by_cases p3:w=Str.ofString "tie"
 ·rw[if_pos p3];subst p3;have k5:∀r,ev G cl (.tup (.cons (.str "name") (.cons (.str "name") (.cons (.str "number") (.cons (.str "number") (.cons (.str "number") .nil)))))) r (h++g')=.ok (.tup ([true,true,false,false,false].map λk=>D.str (kS k))) (h++g'):=λr=>by simp[kS]
  obtain⟨q1,q2⟩:=hr (h++g') n l [true,true,false,false,false] ll hm' (λx hx=>by have:=hw' x hx;omega);rw[rw5] at q1 q2;refine⟨λd q=>?_,λq=>?_⟩
  ·obtain⟨g,e⟩:=q1 _ (by rw[q];rfl)
   match l,q with
   | [a,b,c,d',e'],q=>
     rw[GZ] at q;split at q
     ·cases q;refine⟨.lst [.str a,.str b,.int (aZ c),.int (aZ d'),.int (aZ e')]::g,?_⟩;have s2:=CM (W:=W) (l:= [3,4,5,6,7]) (cG (fP (bR (i:=2) (r:= [some (.str z),some (.str "tie"),some (.ref n),none,none,none,none,none]) rfl) (k5 _)) e) (cA ..) rfl
      rw[aU (d:=(Dd.tie a b (aZ c,aZ d',aZ e')).d) (by
       rw[rB (Z:=.nil) (i:=1) (x:="tie") rfl,aL s2]
       exact aU (bM (by
        rw[kH,aO,bL,aC,aO,bR (x:=.str a) rfl,aC,aO,bR (x:=.str b) rfl,aC,aO,kH,aO,bR (x:=.int (aZ c)) rfl,aC,aO,bR (x:=.int (aZ d')) rfl,aC,aO,bR (x:=.int (aZ e')) rfl,aC,cT];rfl)))]
      rfl
     ·cases q
   | [],q=>cases q
   | [_],q=>cases q
   | [_,_],q=>cases q
   | [_,_,_],q=>cases q
   | [_,_,_,_],q=>cases q
   |_::_::_::_::_::_::_,q=>cases q
  ·obtain⟨r',h',e⟩:=q2 (by rw[q];rfl);have s2:=jW (W:=W) (l:= [3,4,5,6,7]) (cG (fP (bR (i:=2) (r:= [some (.str z),some (.str "tie"),some (.ref n),none,none,none,none,none]) rfl) (k5 _)) e);exact⟨_,h',by rw[eZ (by rw[rB (Z:=.nil) (i:=1) (x:="tie") rfl,eZ s2])];rfl⟩
 rw[if_neg p3,uY (i:=1) (z:=w) rfl p3]
 by_cases p4:w=Str.ofString "untie"
 ·rw[if_pos p4];subst p4;rw[fin (rB (Z:=.nil) (i:=1) (x:="untie") rfl) nr]
  have e:NN l=RP false l:=by
   match l with
   | []=>rfl
   | [a]=>rfl
   |_::_::_=>rfl
  rw[e];exact zV hr (k:=false) ll hm' hw' rfl
 rw[if_neg p4,uY (i:=1) (z:=w) rfl p4,eZ (oH ..)];exact⟨λd q=>(by cases q),λ_=>⟨_,_,rfl⟩⟩
end
section
variable {G:Gs}{cl:Cl}{W:Nat}
theorem mG{α:Type}{t:Tg}{body:Ev->Hh->Rs Fl}(φ:α->D)(p:α->Bool)(I:Ev->Hh->Prop)(R:Hh->Prop):∀l:List α,(∀a∈l,∀r h,I r h->∃r1,dO t (φ a) r=some r1/\(p a=true->∃r2 h2,body r1 h=.ok (.nx r2) h2/\I r2 h2)/\(p a=false->∃h2,body r1 h=.ok (.rt (.bl false)) h2/\R h2))->
 ∀r h,I r h->(l.all p=true->∃r' h',dJ t body (l.map φ) r h=.ok (.nx r') h'/\I r' h')/\(l.all p=false->∃h',dJ t body (l.map φ) r h=.ok (.rt (.bl false)) h'/\R h')
 | [],_,r,h,hI=>⟨λ_=>⟨r,h,by simp,hI⟩,λq=>by cases q⟩
 |a::l,hb,r,h,hI=>by
  obtain⟨r1,e1,k1,k2⟩:=hb a Zl r h hI;rw[Zh,AQ,e1,List.all_cons]
  show(_->∃r' h',(body r1 h).bind _=_/\_)/\(_->∃h',(body r1 h).bind _=_/\_)
  cases hp:p a with
  |false=>
   obtain⟨h2,e2,q⟩:=k2 hp;rw[e2];exact⟨λq=>(by cases q),λ_=>⟨h2,rfl,q⟩⟩
  |true=>
   obtain⟨r2,h2,e2,q⟩:=k1 hp;rw[e2,Bool.true_and];exact mG φ p I R l (λa ha=>hb a (Zj _ ha)) r2 h2 q
theorem IZ(t:Tg)(e:E)(b:Ss)(r:Ev)(h:Hh):xs G cl W (.forr t (.tx e) b) r h=(ev G cl e r h).nx.bind λx h=>match x with
 |.str z=>dJ t (bO G cl W b) (z.cps.toList.map λc=>D.str ⟨#[c]⟩) r h
 |_=>.bad:=by rw[xs]<;>rfl
theorem OZ(c:Nat)(s:Str)(h:Hh):dN .notin (.str ⟨#[c]⟩) (.str s) h=.ok (.bl (!decide (c∈s.cps.toList))) h:=by
 have e:zX (.str ⟨#[c]⟩) (.str s)=some (!decide (c∈s.cps.toList)):=by
  show some (!(!(Builtin.Str.occurrences s ⟨#[c]⟩ 0 s.length 1).isEmpty))=_;rw[StrLaws.found_one]
 unfold dN;simp only[e]
theorem qJ{i j:Nat}{s:Str}{y:Str}{r:Ev}{h:Hh}(p:Nat->Bool)(hp:∀c,decide (c∈s.cps.toList)=p c)(hi:j<r.length)(hij:i≠j)(hr:r[i]? =some (some (.str y))):
 (y.cps.toList.all p=true->∃d,xs G cl W (.forr (.nm j) (.tx (.var i)) (.cons (.iff (.cmp .notin (.var j) (.str s)) (.cons (.ret (.bl false)) .nil) .nil) .nil)) r h=.ok (.nx (r.set j d)) h)/\
 (y.cps.toList.all p=false->xs G cl W (.forr (.nm j) (.tx (.var i)) (.cons (.iff (.cmp .notin (.var j) (.str s)) (.cons (.ret (.bl false)) .nil) .nil) .nil)) r h=.ok (.rt (.bl false)) h):=by
 rw[IZ,bR hr,cR,aC]
 obtain⟨a,b⟩:=mG (t:=.nm j) (body:=bO G cl W (.cons (.iff (.cmp .notin (.var j) (.str s)) (.cons (.ret (.bl false)) .nil) .nil) .nil)) (λc:Nat=>D.str ⟨#[c]⟩) p (λr' h'=>(∃d,r'=r.set j d)/\h'=h) (λh'=>h'=h) y.cps.toList (by
  rintro c _ r' h' ⟨⟨d,rfl⟩,rfl⟩;refine⟨r.set j (some (.str ⟨#[c]⟩)),by simp[dO],?_,?_⟩
  ·intro hc;refine⟨r.set j (some (.str ⟨#[c]⟩)),h',?_,⟨_,rfl⟩,rfl⟩;rw[aL (by rw[bJ (by rw[bF (bR (x:=.str ⟨#[c]⟩) (by simp[hi])) (bL ..) (OZ ..),hp,hc];rfl),aT]),aT]
  ·intro hc;refine⟨h',?_,rfl⟩;exact aU (by rw[bU (by rw[bF (bR (x:=.str ⟨#[c]⟩) (by simp[hi])) (bL ..) (OZ ..),hp,hc];rfl),aU (bM (pG ..))])) r h ⟨⟨r[j],by simp⟩,rfl⟩
 refine⟨λq=>?_,λq=>?_⟩
 ·obtain⟨r',h',e,⟨d,rfl⟩,rfl⟩:=a q;exact⟨d,e⟩
 ·obtain⟨h',e,rfl⟩:=b q;exact e
noncomputable abbrev lnB:Ss:=(.cons (.forr (.nm 1) (.tx (.var 0)) (.cons (.iff (.cmp .notin (.var 1) (.str "abcdefghijklmnopqrstuvwxyz")) (.cons (.ret (.bl false)) .nil) .nil) .nil)) (.cons (.ret (.cmp .ne (.var 0) (.str ""))) .nil))
def WU(cl:Cl)(f:Nat):Prop:=∀(h:Hh)(z:Str),cl f [.str z] h=.ok (.bl (hJ z)) h
theorem vK(z:Str):decide (z=Str.ofString "")=z.cps.toList.isEmpty:=by
 rw[Bool.eq_iff_iff,decide_eq_true_eq,List.isEmpty_iff];exact⟨λe=>by rw[e];rfl,λe=>gJ (by rw[e];rfl)⟩
theorem LA{h:Hh}{z:Str}:(bO G cl W lnB [some (.str z),none] h).bind cZ=.ok (.bl (hJ z)) h:=by
 obtain⟨a,b⟩:=qJ (G:=G) (cl:=cl) (W:=W) (i:=0) (j:=1) (s:=abS) (y:=z) (r:= [some (.str z),none]) (h:=h) AH IU (by show 1<2;decide) (by decide) rfl;unfold hJ;cases q:z.cps.toList.all AH with
 |true=>
  obtain⟨d,e⟩:=a q;rw[aL e,aU (bM (bF (bR rfl) (bL ..) (GI ..))),vK,Bool.and_true];rfl
 |false=>
  rw[aU (b q),Bool.and_false];rfl
noncomputable abbrev luB:Ss:=(.cons (.asg (.nm 1) (.var 0)) (.cons (.iff (.cmp .eq (.slA (.var 0) (.int 1)) (.str "-")) (.cons (.asg (.nm 1) (.slZ (.var 0) (.int 1))) .nil) .nil) (.cons (.forr (.nm 2) (.tx (.var 1)) (.cons (.iff (.cmp .notin (.var 2) (.str "0123456789")) (.cons (.ret (.bl false)) .nil) .nil) .nil)) (.cons (.iff (.or (.cmp .eq (.var 1) (.str "")) (.cmp .gt (.blt .len (.cons (.var 1) .nil)) (.int 100))) (.cons (.ret (.bl false)) .nil) .nil) (.cons (.ret (.or (.cmp .ne (.ix (.var 1) (.int 0)) (.str "0")) (.cmp .eq (.var 0) (.str "0")))) .nil)))))
def WT(cl:Cl)(f:Nat):Prop:=∀(h:Hh)(z:Str),z.length<=1000->cl f [.str z] h=.ok (.bl (cW z)) h
theorem KS{h:Hh}{z:Str}(hz:z.length<=1000):(bO G cl W luB [some (.str z),none,none] h).bind cZ=.ok (.bl (cW z)) h:=by
 have lz:=gR z;rw[aL (r':= [some (.str z),some (.str z),none]) (h':=h) (bZ (bR rfl))]
 have ea:ev G cl (.slA (.var 0) (.int 1)) [some (.str z),some (.str z),none] h=.ok (.str ⟨(z.cps.toList.take 1).toArray⟩) h:=by
  rw[QC,bR (x:=.str z) rfl,aC,aN,aC]
  show(if(0:Int)<=1/\z.length<=1000 then _ else _)=_
  rw[if_pos ⟨by decide,hz⟩];rfl
 have ez:ev G cl (.slZ (.var 0) (.int 1)) [some (.str z),some (.str z),none] h=.ok (.str ⟨(z.cps.toList.drop 1).toArray⟩) h:=by
  rw[IG,bR (x:=.str z) rfl,aC,aN,aC]
  show(if(0:Int)<=1/\z.length<=1000 then _ else _)=_
  rw[if_pos ⟨by decide,hz⟩];rfl
 have hd:((⟨(z.cps.toList.take 1).toArray⟩:Str)=Str.ofString "-")↔z.cps.toList.head? =some 45:=by
  constructor
  ·intro e;have:=congrArg (λs:Str=>s.cps.toList) e
   replace this:z.cps.toList.take 1=[45]:=this
   cases hl:z.cps.toList with
   |nil=>rw[hl] at this;cases this
   |cons c r=>rw[hl] at this;cases this;rfl
  ·intro e;apply gJ
   show(z.cps.toList.take 1).toArray.toList=[45]
   cases hl:z.cps.toList with
   |nil=>rw[hl] at e;cases e
   |cons c r=>rw[hl] at e;cases e;rfl
 have s2:∃y:Str,y.cps.toList=eF z/\xs G cl W (.iff (.cmp .eq (.slA (.var 0) (.int 1)) (.str "-")) (.cons (.asg (.nm 1) (.slZ (.var 0) (.int 1))) .nil) .nil) [some (.str z),some (.str z),none] h=.ok (.nx [some (.str z),some (.str y),none]) h:=by
  by_cases hn:z.cps.toList.head? =some 45
  ·refine⟨⟨(z.cps.toList.drop 1).toArray⟩,by unfold eF;rw[if_pos hn],?_⟩;rw[bU (by rw[bF ea (bL ..) (jU ..),decide_eq_true (hd.mpr hn)]),aL (bZ ez),aT];rfl
  ·refine⟨z,by unfold eF;rw[if_neg hn],?_⟩;rw[bJ (by rw[bF ea (bL ..) (jU ..),decide_eq_false (λe=>hn (hd.mp e))]),aT]
 obtain⟨y,hy,s2⟩:=s2;rw[aL s2];have fl:(eF z).length<=z.cps.toList.length:=by unfold eF;split<;>simp
 have ly:y.length=(eF z).length:=by rw[<- hy];exact(gR y).symm
 obtain⟨a,b⟩:=qJ (G:=G) (cl:=cl) (W:=W) (i:=1) (j:=2) (s:=fgS) (y:=y) (r:= [some (.str z),some (.str y),none]) (h:=h) pA IC (by show 2<3;decide) (by decide) rfl;rw[hy] at a b;unfold cW;cases q:(eF z).all pA with
 |false=>
  rw[aU (b q),Bool.and_false];rfl
 |true=>
  obtain⟨d,e⟩:=a q;rw[aL e]
  show(bO G cl W _ [some (.str z),some (.str y),d] h).bind cZ=_
  have ye:decide (y=Str.ofString "")=(eF z).isEmpty:=by rw[vK,hy]
  have c4:ev G cl (.or (.cmp .eq (.var 1) (.str "")) (.cmp .gt (.blt .len (.cons (.var 1) .nil)) (.int 100))) [some (.str z),some (.str y),d] h=.ok (.bl (!(!(eF z).isEmpty&&decide ((eF z).length<=100)))) h:=by
   rw[mL,bF (bR rfl) (bL ..) (jU ..),aC,pT,ye];cases he:(eF z).isEmpty with
   |true=>rfl
   |false=>
    show ev G cl _ _ _=_;rw[bF (mO (dQ (bR rfl)) (LC _ (by omega))) (aN ..) (WD ..),ly];congr 2;rw[Bool.not_false,Bool.true_and, <- decide_not];exact decide_eq_decide.mpr (by omega)
  rw[Bool.and_true];cases hb:(!(eF z).isEmpty&&decide ((eF z).length<=100)) with
  |false=>
   rw[hb] at c4;rw[aU (d:=.bl false) (h':=h) (by rw[bU c4,aU (bM (pG ..))]),Bool.false_and];rfl
  |true=>
   rw[hb] at c4;rw[aL (by rw[bJ c4,aT]),Bool.true_and]
   have ne:∃c r,eF z=c::r:=by
    cases he:eF z with
    |nil=>rw[he] at hb;cases hb
    |cons c r=>exact⟨c,r,rfl⟩
   obtain⟨c,r,ec⟩:=ne
   have ix:kK (.str y) (.int 0) h=.ok (.str ⟨#[c]⟩) h:=by
    show HR y (.int 0) h=_;unfold HR;have e0:pU y.cps.toList (0:Int)=some c:=cU (j:=0) (by rw[hy,ec];rfl);simp only[e0];rw[if_pos (Nat.le_trans (show y.length<=1000 by omega) (by decide))]
   have c5:ev G cl (.cmp .ne (.ix (.var 1) (.int 0)) (.str "0")) [some (.str z),some (.str y),d] h=.ok (.bl (!decide (c=48))) h:=by
    rw[bF (bP (i:=1) rfl (aN ..) ix) (bL ..) (GI ..)];congr 3;refine decide_eq_decide.mpr ⟨λe=>?_,λe=>by rw[e];rfl⟩;have:=congrArg (λs:Str=>s.cps.toList) e;exact(List.cons.inj (show [c]=[48] from this)).1
   rw[aU (bM (d:=.bl (decide (z=Str.ofString "0")|| !((eF z).head? ==some 48))) (h':=h) ?_)]
   ·rfl
   ·rw[mL,c5,aC,pT,ec,List.head?_cons]
    have hc:((some c==some 48):Bool)=decide (c=48):=by
     by_cases e:c=48
     ·rw[e];rfl
     ·rw[decide_eq_false e];exact beq_false_of_ne (by intro q;cases q;exact e rfl)
    rw[hc];cases decide (c=48) with
    |false=>rw[Bool.not_false,Bool.or_true]
    |true=>
     show ev G cl _ _ _=_;rw[bF (bR rfl) (bL ..) (jU ..),Bool.not_true,Bool.or_false]
end
noncomputable def CF(p:Nat×Str):Bool:=if p.1=110 then hJ p.2 else if p.1=105 then cW p.2 else(qF p.2).isSome
noncomputable def RK(m:Nat):Str:=⟨([110,105,105,105]++List.replicate (m-5) 115).toArray⟩
noncomputable def knd(w:Str)(m:Nat):Option Str:=if w="put" then some (RK m) else if w="drop" then some "n" else if w="tie" then some "nniii" else if w="untie" then some "i" else none
theorem uC:∀T:List Str,((List.replicate T.length 115).zip T).all CF=(rT T).isSome
 | []=>rfl
 |z::T=>by
  have:=uC T;rw[List.length_cons,List.replicate_succ,List.zip_cons_cons,List.all_cons,this,rT]
  show((qF z).isSome&&(rT T).isSome)=_
  cases qF z with
  |none=>rfl
  |some s=>cases rT T<;>rfl
theorem LD{w:Str}{l:List Str}:(zD (w::l)).isSome=(match knd w (l.length+1) with
 |some K=>decide (K.cps.toList.length=l.length)&&((K.cps.toList.zip l).all CF)
 |none=>false):=by
 rw[zD];unfold knd
 by_cases p1:w=Str.ofString "put"
 ·rw[if_pos p1,if_pos p1];show _=(decide (([110,105,105,105]++List.replicate (l.length+1-5) 115).length=l.length)&&(([110,105,105,105]++List.replicate (l.length+1-5) 115).zip l).all CF)
  match l with
  | []=>rfl
  | [_]=>rfl
  | [_,_]=>rfl
  | [_,_,_]=>rfl
  |a::b::c::e::T=>
   have e0:(a::b::c::e::T).length+1-5=T.length:=by simp only[List.length_cons];omega
   have e1:(([110,105,105,105]++List.replicate T.length 115).zip (a::b::c::e::T)).all CF=(hJ a&&(cW b&&(cW c&&(cW e&&(rT T).isSome)))):=by
    rw[<- uC];rfl
   rw[e0,e1,decide_eq_true (by simp),Bool.true_and,DW]
   by_cases ha:hJ a=true<;>by_cases hb:cW b=true<;>by_cases hc:cW c=true<;>by_cases he:cW e=true<;>simp[ha,hb,hc,he]
 rw[if_neg p1,if_neg p1]
 by_cases p2:w=Str.ofString "drop"
 ·rw[if_pos p2,if_pos p2]
  match l with
  | []=>rfl
  | [a]=>
    show(QH [a]).isSome=(true&&(hJ a&&true))
    rw[QH]
    by_cases ha:hJ a=true<;>simp[ha]
  |_::_::T=>
   show false=(decide (1=T.length+2)&&_);rw[decide_eq_false (by omega)];rfl
 rw[if_neg p2,if_neg p2]
 by_cases p3:w=Str.ofString "tie"
 ·rw[if_pos p3,if_pos p3]
  match l with
  | []=>rfl
  | [_]=>rfl
  | [_,_]=>rfl
  | [_,_,_]=>rfl
  | [_,_,_,_]=>rfl
  | [a,b,c,d,e]=>
    show(GZ [a,b,c,d,e]).isSome=(true&&(hJ a&&(hJ b&&(cW c&&(cW d&&(cW e&&true))))))
    rw[GZ]
    by_cases ha:hJ a=true<;>by_cases hb:hJ b=true<;>by_cases hc:cW c=true<;>by_cases hd:cW d=true<;>by_cases he:cW e=true<;>simp[ha,hb,hc,hd,he]
  |_::_::_::_::_::_::T=>
   show false=(decide (5=T.length+6)&&_);rw[decide_eq_false (by omega)];rfl
 rw[if_neg p3,if_neg p3]
 by_cases p4:w=Str.ofString "untie"
 ·rw[if_pos p4,if_pos p4]
  match l with
  | []=>rfl
  | [a]=>
    show(NN [a]).isSome=(true&&(cW a&&true))
    rw[NN]
    by_cases ha:cW a=true<;>simp[ha]
  |_::_::T=>
   show false=(decide (1=T.length+2)&&_);rw[decide_eq_false (by omega)];rfl
 rw[if_neg p4,if_neg p4];rfl
section
variable {G:Gs}{cl:Cl}{W:Nat}
noncomputable abbrev FA:Ss:=(.cons (.asg (.nm 3) (.ix (.ix (.var 1) (.ix (.var 0) (.int 0))) (.bin .sub (.var 2) (.int 1)))) (.cons (.iff (.or (.and (.cmp .eq (.var 3) (.str "n")) (.not (.call 12 (.cons (.ix (.var 0) (.var 2)) .nil)))) (.and (.cmp .eq (.var 3) (.str "i")) (.not (.call 13 (.cons (.ix (.var 0) (.var 2)) .nil))))) (.cons (.ret (.bl false)) .nil) .nil) (.cons (.iff (.cmp .eq (.var 3) (.str "s")) (.cons (.asg (.nm 4) (.spl (.ix (.var 0) (.var 2)) ",")) (.cons (.iff (.or (.cmp .ne (.blt .len (.cons (.var 4) .nil)) (.int 3)) (.comp (.nm 0) .sq (.cons (.var 4) .nil) (.cons (.not (.call 13 (.cons (.var 0) .nil))) .nil) (.var 0) ["_law_part"] [])) (.cons (.ret (.bl false)) .nil) .nil) .nil)) .nil) .nil)))
noncomputable abbrev idB:Ss:=(.cons (.asg (.nm 1) (.disp ["drop","untie","tie","put"] (.cons (.str "n") (.cons (.str "i") (.cons (.str "nniii") (.cons (.bin .add (.str "niii") (.rep (.str "s") (.blt .max (.cons (.int 0) (.cons (.bin .sub (.blt .len (.cons (.var 0) .nil)) (.int 5)) .nil))))) .nil)))))) (.cons (.iff (.or (.cmp .notin (.ix (.var 0) (.int 0)) (.var 1)) (.cmp .ne (.bin .sub (.blt .len (.cons (.var 0) .nil)) (.int 1)) (.blt .len (.cons (.ix (.var 1) (.ix (.var 0) (.int 0))) .nil)))) (.cons (.ret (.bl false)) .nil) .nil) (.cons (.forr (.nm 2) (.r2 (.int 1) (.blt .len (.cons (.var 0) .nil))) FA) (.cons (.ret (.bl true)) .nil))))
noncomputable def iI(m:Nat):List (cH×D):= [(.inr "drop",.str "n"),(.inr "untie",.str "i"),(.inr "tie",.str "nniii"),(.inr "put",.str (RK m))]
theorem tL(w:Str)(m:Nat):fL (iI m) (.inr w)=(knd w m).map D.str:=by
 unfold iI knd;rw[gS,gS,gS,gS,yI]
 by_cases p1:w=Str.ofString "put"
 ·subst p1;rw[if_pos rfl,if_neg (by intro e;cases e),if_neg (by intro e;cases e),if_neg (by intro e;cases e),if_pos rfl];rfl
 by_cases p2:w=Str.ofString "drop"
 ·subst p2;rw[if_neg p1,if_pos rfl,if_pos rfl];rfl
 by_cases p3:w=Str.ofString "tie"
 ·subst p3;rw[if_neg p1,if_neg p2,if_pos rfl,if_neg (by intro e;cases e),if_neg (by intro e;cases e),if_pos rfl];rfl
 by_cases p4:w=Str.ofString "untie"
 ·subst p4;rw[if_neg p1,if_neg p2,if_neg p3,if_pos rfl,if_neg (by intro e;cases e),if_pos rfl];rfl
 rw[if_neg p1,if_neg p2,if_neg p3,if_neg p4,if_neg (λe=>p2 (Sum.inr.inj e).symm),if_neg (λe=>p4 (Sum.inr.inj e).symm),if_neg (λe=>p3 (Sum.inr.inj e).symm),if_neg (λe=>p1 (Sum.inr.inj e).symm)];rfl
theorem IY{c:E}{a b:Ss}{r:Ev}{x:D}{p:Bool}{h h':Hh}(hc:ev G cl c r h=.ok x h')(ht:eY x h'=some p):xs G cl W (.iff c a b) r h=(if p then bO G cl W a r h' else bO G cl W b r h'):=by
 rw[jX,hc,cR,aC];simp only[ht];cases p<;>rfl
theorem LV(hnm:WU cl 12)(hnu:WT cl 13){h:Hh}{n dn i:Nat}{w z:Str}{c m:Nat}{V:List Str}{K:Str}{d3 d4:Option D}(hv:aK h n=some (V.map D.str))(v0:V[0]? =some w)(vi:V[i]? =some z)(hi:1<=i)(hz:z.length<=500)(hd:h[dn]? =some (.dct (iI m)))(hk:knd w m=some K)(hl:K.length<=1000)(kc:K.cps.toList[i-1]? =some c)(hc:c=110\/c=105\/c=115):
 (CF (c,z)=true->∃e3 e4 g,bO G cl W FA [some (.ref n),some (.ref dn),some (.int i),d3,d4] h=.ok (.nx [some (.ref n),some (.ref dn),some (.int i),e3,e4]) (h++g))/\(CF (c,z)=false->∃g,bO G cl W FA [some (.ref n),some (.ref dn),some (.int i),d3,d4] h=.ok (.rt (.bl false)) (h++g)):=by
 have kE:∀(r:Ev)(h:Hh),aK h n=some (V.map D.str)->h[dn]? =some (.dct (iI m))->r[0]? =some (some (.ref n))->r[1]? =some (some (.ref dn))->ev G cl (.ix (.var 1) (.ix (.var 0) (.int 0))) r h=.ok (.str K) h:=λr h hv hd r0 r1=>by
  refine bP r1 (bP r0 (aN ..) (d:=.str w) ?_) ?_
  ·rw[jL _ _ hv,show(0:Int)=((0:Nat):Int) from rfl,cU (v:=.str w) (by rw[Zi,v0];rfl)]
  ·rw[PU _ _ hd];unfold LN
   show(match fL (iI m) (.inr w) with|some d=>Rs.ok d h|none=>.bad)=_
   rw[tL,hk];rfl
 have wE:∀(r:Ev)(h:Hh),aK h n=some (V.map D.str)->r[0]? =some (some (.ref n))->r[2]? =some (some (.int i))->ev G cl (.ix (.var 0) (.var 2)) r h=.ok (.str z) h:=λr h hv r0 r2=>by
  refine bP r0 (bR r2) ?_;rw[jL _ _ hv,cU (v:=.str z) (by rw[Zi,vi];rfl)]
 have s1:xs G cl W (.asg (.nm 3) (.ix (.ix (.var 1) (.ix (.var 0) (.int 0))) (.bin .sub (.var 2) (.int 1)))) [some (.ref n),some (.ref dn),some (.int i),d3,d4] h=.ok (.nx [some (.ref n),some (.ref dn),some (.int i),some (.str ⟨#[c]⟩),d4]) h:=by
  refine bZ ?_;rw[FH,kE _ h hv hd rfl rfl,aC,aV (bR rfl) (aN ..) (xX ..),aC];show HR K (.int ((i:Int)-1)) h=_;unfold HR;have ei:(i:Int)-1=((i-1:Nat):Int):=by omega
  simp only[ei,cU kc];rw[if_pos (Nat.le_trans hl (by decide))]
 have cq:∀(r:Ev)(h:Hh)(k:Nat),r[3]? =some (some (.str ⟨#[c]⟩))->ev G cl (.cmp .eq (.var 3) (.str ⟨#[k]⟩)) r h=.ok (.bl (decide (c=k))) h:=λr h k r3=>by
  rw[bF (bR r3) (bL ..) (jU ..)];congr 2;refine decide_eq_decide.mpr ⟨λe=>?_,λe=>by rw[e]⟩;have:=congrArg (λs:Str=>s.cps.toList) e;exact(List.cons.inj (show [c]=[k] from this)).1
 have an:∀(k f:Nat)(q:Bool),(c=k->cl f [.str z] h=.ok (.bl q) h)->ev G cl (.and (.cmp .eq (.var 3) (.str ⟨#[k]⟩)) (.not (.call f (.cons (.ix (.var 0) (.var 2)) .nil)))) [some (.ref n),some (.ref dn),some (.int i),some (.str ⟨#[c]⟩),d4] h=.ok (.bl (decide (c=k)&& !q)) h:=λk f q hq=>by
  rw[iR,cq _ h k rfl,aC,pT]
  by_cases e:c=k
  ·rw[decide_eq_true e,Bool.true_and];show ev G cl _ _ _=_;exact jO (kN (dQ (wE _ h hv rfl rfl)) (hq e))
  ·rw[decide_eq_false e];rfl
 have s2:ev G cl (.or (.and (.cmp .eq (.var 3) (.str "n")) (.not (.call 12 (.cons (.ix (.var 0) (.var 2)) .nil)))) (.and (.cmp .eq (.var 3) (.str "i")) (.not (.call 13 (.cons (.ix (.var 0) (.var 2)) .nil))))) [some (.ref n),some (.ref dn),some (.int i),some (.str ⟨#[c]⟩),d4] h=.ok (.bl ((decide (c=110)&& !hJ z)||(decide (c=105)&& !cW z))) h:=by
  rw[mL];have e1:=an 110 12 (hJ z) λ_=>hnm h z;have e2:=an 105 13 (cW z) λ_=>hnu h z (by omega)
  replace e1:ev G cl (.and (.cmp .eq (.var 3) (.str "n")) (.not (.call 12 (.cons (.ix (.var 0) (.var 2)) .nil)))) [some (.ref n),some (.ref dn),some (.int i),some (.str ⟨#[c]⟩),d4] h=_:=e1
  rw[e1,aC,pT]
  cases(decide (c=110)&& !hJ z) with
  |true=>rfl
  |false=>exact e2
 have bad:(decide (c=110)&& !hJ z||decide (c=105)&& !cW z)=true->bO G cl W FA [some (.ref n),some (.ref dn),some (.int i),d3,d4] h=.ok (.rt (.bl false)) (h++ []):=λe=>by
  rw[e] at s2;rw[aL s1,aU (by rw[bU s2,aU (bM (pG ..))]),Zm]
 have s3:=cq [some (.ref n),some (.ref dn),some (.int i),some (.str ⟨#[c]⟩),d4] h 115 rfl
 replace s3:ev G cl (.cmp .eq (.var 3) (.str "s")) [some (.ref n),some (.ref dn),some (.int i),some (.str ⟨#[c]⟩),d4] h=_:=s3
 rcases hc with rfl|rfl|rfl
 ·show(hJ z=true->_)/\(hJ z=false->_)
  refine⟨λe=>⟨some (.str ⟨#[110]⟩),d4,[],?_⟩,λe=>⟨[],bad (by rw[e];rfl)⟩⟩;rw[e] at s2;rw[aL s1,aL (by rw[bJ s2,aT]),aL (by rw[bJ s3,aT]),aT,Zm]
 ·show(cW z=true->_)/\(cW z=false->_)
  refine⟨λe=>⟨some (.str ⟨#[105]⟩),d4,[],?_⟩,λe=>⟨[],bad (by rw[e];rfl)⟩⟩;rw[e] at s2;rw[aL s1,aL (by rw[bJ s2,aT]),aL (by rw[bJ s3,aT]),aT,Zm]
 ·show((qF z).isSome=true->_)/\((qF z).isSome=false->_)
  obtain⟨sl1,sl2⟩:=qG z 44;obtain⟨P,hP⟩:∃P,P=Txt.split z cmS:=⟨_,rfl⟩
  replace sl1:∀w∈Txt.split z cmS,w.length<=z.length:=sl1
  replace sl2:(Txt.split z cmS).length<=z.length+1:=sl2
  rw[<- hP] at sl1 sl2
  have s4:xs G cl W (.asg (.nm 4) (.spl (.ix (.var 0) (.var 2)) ",")) [some (.ref n),some (.ref dn),some (.int i),some (.str ⟨#[115]⟩),d4] h=.ok (.nx [some (.ref n),some (.ref dn),some (.int i),some (.str ⟨#[115]⟩),some (.ref h.length)]) (h++ [O.lst (P.map D.str)]):=by
   refine bZ ?_;rw[IE,wE _ h hv rfl rfl,aC]
   show(if z.length<=100000/\(1:Nat)=1 then Rs.ok (D.ref h.length) (h++ [O.lst ((Txt.split z cmS).map D.str)]) else .bad)=_
   rw[if_pos ⟨by omega,rfl⟩, <- hP]
  have lp:aK (h++ [O.lst (P.map D.str)]) h.length=some (P.map D.str):=bD _ _
  obtain⟨gb,q⟩:=FI (G:=G) (cl:=cl) (t:=.nm 0) (it:=.cons (.var 4) .nil) (cs:=.cons (.not (.call 13 (.cons (.var 0) .nil))) .nil) (e:=.var 0) (N:= ["_law_part"]) (cap:= []) (r:= [some (.ref n),some (.ref dn),some (.int i),some (.str ⟨#[115]⟩),some (.ref h.length)]) (h:=h++ [O.lst (P.map D.str)]) D.str (λr=>∃a,r=[a]) (λx=> !cW x) D.str (dQ (bR rfl)) lp (by have:P.length<=z.length+1:=sl2;omega) ⟨_,rfl⟩ λx hx=>⟨by
   rintro r ys gb ⟨a,rfl⟩;refine⟨[some (.str x)],[],rfl,?_,⟨_,rfl⟩,λ_=>⟨[],?_⟩⟩
   ·rw[FG,jO (QF rfl (hnu _ x (by have:=sl1 x hx;omega))),aC,pT,Zm];cases cW x<;>simp
   ·rw[Zm,Zm];exact bR rfl⟩
  have cl3:ev G cl (.cmp .ne (.blt .len (.cons (.var 4) .nil)) (.int 3)) [some (.ref n),some (.ref dn),some (.int i),some (.str ⟨#[115]⟩),some (.ref h.length)] (h++ [O.lst (P.map D.str)])=.ok (.bl (!decide (P.length=3))) (h++ [O.lst (P.map D.str)]):=by
   rw[bF (nW rfl lp) (aN ..) (MN ..),Zc];congr 3;exact decide_eq_decide.mpr (by omega)
  have fin:∀(x:D)(p:Bool)(g:Hh),ev G cl (.or (.cmp .ne (.blt .len (.cons (.var 4) .nil)) (.int 3)) (.comp (.nm 0) .sq (.cons (.var 4) .nil) (.cons (.not (.call 13 (.cons (.var 0) .nil))) .nil) (.var 0) ["_law_part"] [])) [some (.ref n),some (.ref dn),some (.int i),some (.str ⟨#[115]⟩),some (.ref h.length)] (h++ [O.lst (P.map D.str)])=.ok x (h++g)->eY x (h++g)=some p->
   (p=false->bO G cl W FA [some (.ref n),some (.ref dn),some (.int i),d3,d4] h=.ok (.nx [some (.ref n),some (.ref dn),some (.int i),some (.str ⟨#[115]⟩),some (.ref h.length)]) (h++g))/\(p=true->bO G cl W FA [some (.ref n),some (.ref dn),some (.int i),d3,d4] h=.ok (.rt (.bl false)) (h++g)):=λx p g e t=>by
   have s5:=IY (W:=W) (a:=.cons (.ret (.bl false)) .nil) (b:=.nil) e t;refine⟨λhp=>?_,λhp=>?_⟩
   ·subst hp;rw[if_neg (by decide),aT] at s5;rw[aL s1,aL (by rw[bJ s2,aT]),aL (by rw[bU s3,aL s4,aL s5,aT]),aT]
   ·subst hp;rw[if_pos rfl,aU (bM (pG ..))] at s5;rw[aL s1,aL (by rw[bJ s2,aT]),aU (by rw[bU s3,aL s4,aU s5])]
  by_cases h3:P.length=3
  ·have e:ev G cl (.or (.cmp .ne (.blt .len (.cons (.var 4) .nil)) (.int 3)) (.comp (.nm 0) .sq (.cons (.var 4) .nil) (.cons (.not (.call 13 (.cons (.var 0) .nil))) .nil) (.var 0) ["_law_part"] [])) [some (.ref n),some (.ref dn),some (.int i),some (.str ⟨#[115]⟩),some (.ref h.length)] (h++ [O.lst (P.map D.str)])=.ok (.ref (h++ [O.lst (P.map D.str)]).length) (h++([O.lst (P.map D.str)]++ .lst ((P.filter λx=> !cW x).map D.str)::gb)):=by
    rw[mL,cl3,aC,pT,decide_eq_true h3, <- List.append_assoc];exact q
   have t:eY (.ref (h++ [O.lst (P.map D.str)]).length) (h++([O.lst (P.map D.str)]++ .lst ((P.filter λx=> !cW x).map D.str)::gb))=some (!(qF z).isSome):=by
    rw[<- List.append_assoc]
    show(match aK _ _ with|some l=>some (!l.isEmpty)|none=>none)=_
    rw[cA];show some _=some _;congr 2;unfold qF;rw[<- hP];clear e q fin cl3 lp s4 sl1 sl2
    match P,h3 with
    | [a,b,c],_=>
      show(List.map D.str (List.filter (λx=> !cW x) [a,b,c])).isEmpty=(if cW a&&cW b&&cW c then some (aZ a,aZ b,aZ c) else none).isSome
      by_cases ha:cW a=true<;>by_cases hb:cW b=true<;>by_cases hc:cW c=true<;>simp[ha,hb,hc,List.filter]
   obtain⟨f1,f2⟩:=fin _ _ _ e t;exact⟨λa=>⟨_,_,_,f1 (by rw[a];rfl)⟩,λa=>⟨_,f2 (by rw[a];rfl)⟩⟩
  ·have e:ev G cl (.or (.cmp .ne (.blt .len (.cons (.var 4) .nil)) (.int 3)) (.comp (.nm 0) .sq (.cons (.var 4) .nil) (.cons (.not (.call 13 (.cons (.var 0) .nil))) .nil) (.var 0) ["_law_part"] [])) [some (.ref n),some (.ref dn),some (.int i),some (.str ⟨#[115]⟩),some (.ref h.length)] (h++ [O.lst (P.map D.str)])=.ok (.bl true) (h++ [O.lst (P.map D.str)]):=by
    rw[mL,cl3,aC,pT,decide_eq_false h3];rfl
   have no:qF z=none:=by
    unfold qF;rw[<- hP];clear e cl3 lp s4 sl1 sl2 fin q;split
    ·rename_i a b c e;exact absurd rfl h3
    ·rfl
   obtain⟨f1,f2⟩:=fin _ true _ e rfl;exact⟨λa=>(by rw[no] at a;cases a),λ_=>⟨_,f2 rfl⟩⟩
end
theorem OI(c k:Nat):(List.replicate k [c]).flatten=List.replicate k c:=by
 induction k with
 |zero=>rfl
 |succ k ih=>rw[List.replicate_succ,List.flatten_cons,ih,List.replicate_succ];rfl
theorem ER{w K:Str}{m:Nat}(h:knd w m=some K)(hm:m<=90):K.length<=1000/\∀c∈K.cps.toList,c=110\/c=105\/c=115:=by
 unfold knd at h;split at h
 ·cases h;constructor
  ·show([110,105,105,105]++List.replicate (m-5) 115).toArray.size<=1000
   simp;omega
  ·intro c hc
   replace hc:c∈ [110,105,105,105]++List.replicate (m-5) 115:=hc
   rcases List.mem_append.mp hc with hc|hc
   ·simp only[List.mem_cons,List.not_mem_nil,or_false] at hc;omega
   ·rw[(List.mem_replicate.mp hc).2];omega
 split at h
 ·cases h;exact⟨by decide,by decide⟩
 split at h
 ·cases h;exact⟨by decide,by decide⟩
 split at h
 ·cases h;exact⟨by decide,by decide⟩
 ·cases h
section
variable {G:Gs}{cl:Cl}{W:Nat}
def DeX(cl:Cl)(f:Nat):Prop:=∀(h:Hh)(n:Nat)(V:List Str),V≠ []->aK h n=some (V.map D.str)->V.length<=90->(∀w∈V,w.length<=500)->∃h',cl f [.ref n] h=.ok (.bl (zD V).isSome) h'
theorem ptE{n m:Nat}{V:List Str}{r:Ev}{h:Hh}(hv:aK h n=some (V.map D.str))(hm:V.length<=90)(r0:r[0]? =some (some (.ref n))):ev G cl (.bin .add (.str "niii") (.rep (.str "s") (.blt .max (.cons (.int 0) (.cons (.bin .sub (.blt .len (.cons (.var 0) .nil)) (.int 5)) .nil))))) r h=.ok (.str (RK V.length)) h:=by
 obtain⟨k,hk⟩:∃k:Nat,k=V.length-5:=⟨_,rfl⟩
 have e1:ev G cl (.blt .max (.cons (.int 0) (.cons (.bin .sub (.blt .len (.cons (.var 0) .nil)) (.int 5)) .nil))) r h=.ok (.int (k:Int)) h:=by
  rw[mO (fP (aN ..) (aV (nW r0 hv) (aN ..) (xX ..))) (QO ..),Zc];congr 2;split<;>omega
 have e2:ev G cl (.rep (.str "s") (.blt .max (.cons (.int 0) (.cons (.bin .sub (.blt .len (.cons (.var 0) .nil)) (.int 5)) .nil)))) r h=.ok (.str ⟨(List.replicate k 115).toArray⟩) h:=by
  rw[AZ,bL,aC,e1,aC]
  show(if 0<=(k:Int)/\(k:Int)<=1000/\(1:Nat)<=1000 then Rs.ok (D.str ⟨(List.replicate (k:Int).toNat [115]).flatten.toArray⟩) h else .bad)=_
  rw[if_pos ⟨by omega,by omega,by decide⟩,Int.toNat_natCast,OI]
 refine aV (bL ..) e2 ?_
 show(if 4+(List.replicate k 115).toArray.size<=sizeLine then Rs.ok (D.str (Str.ofString "niii"++(⟨(List.replicate k 115).toArray⟩:Str))) h else .bad)=_
 rw[if_pos (by rw[Zk,List.length_replicate];exact Nat.le_trans (show _<=1000 by omega) (by decide))];congr 2;apply gJ;rw[Str.cps_append,Array.toList_append];unfold RK;rw[<- hk];rfl
theorem MH(hnm:WU cl 12)(hnu:WT cl 13){h:Hh}{n:Nat}{V:List Str}(hne:V≠ [])(hv:aK h n=some (V.map D.str))(hm:V.length<=90)(hw:∀w∈V,w.length<=500):∃h',(bO G cl W idB [some (.ref n),none,none,none,none] h).bind cZ=.ok (.bl (zD V).isSome) h':=by
 obtain⟨w,l,rfl⟩:∃w l,V=w::l:=by
  cases V with
  |nil=>exact absurd rfl hne
  |cons w l=>exact⟨w,l,rfl⟩
 have hva:∀g,aK (h++g) n=some ((w::l).map D.str):=λg=>bX _ _ hv
 have s1:xs G cl W (.asg (.nm 1) (.disp ["drop","untie","tie","put"] (.cons (.str "n") (.cons (.str "i") (.cons (.str "nniii") (.cons (.bin .add (.str "niii") (.rep (.str "s") (.blt .max (.cons (.int 0) (.cons (.bin .sub (.blt .len (.cons (.var 0) .nil)) (.int 5)) .nil))))) .nil)))))) [some (.ref n),none,none,none,none] h=.ok (.nx [some (.ref n),some (.ref h.length),none,none,none]) (h++ [.dct (iI (l.length+1))]):=by
  refine bZ ?_;rw[MB,aO,bL,aC,aO,bL,aC,aO,bL,aC,aO,ptE (n:=n) (m:=0) (hva _) hm rfl,aC,cT,aC,aC,aC,aC,aC];have e:(h++ [O.dct []])[h.length]? =some (.dct []):=by simp
  unfold rL;simp only[e];rw[if_pos ⟨rfl,by decide,by decide⟩,lN];rfl
 rw[aL s1,LD];have hd:∀g,(h++ [O.dct (iI (l.length+1))]++g)[h.length]? =some (.dct (iI (l.length+1))):=λg=>by simp
 have w0:∀(r:Ev)(h:Hh),aK h n=some ((w::l).map D.str)->r[0]? =some (some (.ref n))->ev G cl (.ix (.var 0) (.int 0)) r h=.ok (.str w) h:=λr h hv r0=>by
  refine bP r0 (aN ..) ?_;rw[jL _ _ hv,show(0:Int)=((0:Nat):Int) from rfl,cU (v:=.str w) rfl]
 have hv1:aK (h++ [O.dct (iI (l.length+1))]) n=some ((w::l).map D.str):=hva _;have hd1:(h++ [O.dct (iI (l.length+1))])[h.length]? =some (.dct (iI (l.length+1))):=by simp
 have c1:ev G cl (.cmp .notin (.ix (.var 0) (.int 0)) (.var 1)) [some (.ref n),some (.ref h.length),none,none,none] (h++ [.dct (iI (l.length+1))])=.ok (.bl (!(knd w (l.length+1)).isSome)) (h++ [.dct (iI (l.length+1))]):=by
  refine bF (w0 _ _ hv1 rfl) (bR rfl) ?_;have e:eU (h++ [O.dct (iI (l.length+1))]) (.ref h.length)=some (iI (l.length+1)):=by unfold eU;simp only[hd1]
  have e2:zX (.str w) (.ref h.length)=none:=rfl;unfold dN;simp only[e2,e];show Rs.ok (D.bl (!(fL (iI (l.length+1)) (.inr w)).isSome)) _=_;rw[tL,Option.isSome_map]
 cases hk:knd w (l.length+1) with
 |none=>
  rw[hk] at c1;refine⟨h++ [.dct (iI (l.length+1))],?_⟩;rw[aU (d:=.bl false) (h':=h++ [.dct (iI (l.length+1))]) (by rw[bU (by rw[mL,c1,aC];rfl),aU (bM (pG ..))])];rfl
 |some K=>
  rw[hk] at c1;obtain⟨kl,kc⟩:=ER hk hm
  have kE:ev G cl (.ix (.var 1) (.ix (.var 0) (.int 0))) [some (.ref n),some (.ref h.length),none,none,none] (h++ [.dct (iI (l.length+1))])=.ok (.str K) (h++ [.dct (iI (l.length+1))]):=by
   refine bP (i:=1) rfl (w0 _ _ hv1 rfl) ?_;rw[PU _ _ hd1];unfold LN
   show(match fL (iI (l.length+1)) (.inr w) with|some d=>Rs.ok d _|none=>.bad)=_
   rw[tL,hk];rfl
  have c2:ev G cl (.or (.cmp .notin (.ix (.var 0) (.int 0)) (.var 1)) (.cmp .ne (.bin .sub (.blt .len (.cons (.var 0) .nil)) (.int 1)) (.blt .len (.cons (.ix (.var 1) (.ix (.var 0) (.int 0))) .nil)))) [some (.ref n),some (.ref h.length),none,none,none] (h++ [.dct (iI (l.length+1))])=.ok (.bl (!decide (K.cps.toList.length=l.length))) (h++ [.dct (iI (l.length+1))]):=by
   rw[mL,c1,aC];show ev G cl _ _ _=_;rw[bF (aV (nW rfl hv1) (aN ..) (xX ..)) (mO (dQ kE) (LC _ kl)) (MN ..),Zc,List.length_cons,gR];congr 3;exact decide_eq_decide.mpr (by omega)
  show ∃h',_=Rs.ok (D.bl (decide (K.cps.toList.length=l.length)&&((K.cps.toList.zip l).all CF))) h'
  by_cases hl:K.cps.toList.length=l.length
  ·rw[decide_eq_true hl] at c2;rw[decide_eq_true hl,Bool.true_and,aL (by rw[bJ c2,aT])]
   let L:=(K.cps.toList.zip l).zipIdx 1
   have er:cQ 1 ((w::l).length:Nat)=L.map λa=>D.int (a.2:Nat):=by
    have e1:L.map (λa=>D.int (a.2:Nat))=(L.map Prod.snd).map λi:Nat=>D.int i:=by rw[List.map_map];rfl
    rw[e1,List.zipIdx_map_snd,List.length_zip,hl,Nat.min_self,List.range'_eq_map_range,List.map_map];unfold cQ;have:(((w::l).length:Nat)-(1:Int)).toNat=l.length:=by rw[List.length_cons];omega
    rw[this];apply List.map_congr_left;intro k _
    simp
   have ea:(K.cps.toList.zip l).all CF=L.all λa=>CF a.1:=by
    have:(K.cps.toList.zip l)=L.map Prod.fst:=(List.zipIdx_map_fst 1 _).symm;rw[this,List.all_map];rfl
   obtain⟨a,b⟩:=mG (t:=.nm 2) (body:=bO G cl W FA) (λa:(Nat×Str)×Nat=>D.int (a.2:Nat)) (λa=>CF a.1) (λr h'=>(∃d2 d3 d4,r=[some (.ref n),some (.ref h.length),d2,d3,d4])/\∃g,h'=h++ [.dct (iI (l.length+1))]++g) (λ_=>True) L (by
    rintro⟨⟨c,z⟩,i⟩ hx r h' ⟨⟨d2,d3,d4,rfl⟩,g,rfl⟩;have hx':=List.mem_zipIdx hx;obtain⟨i1,i2,i3⟩:=hx';have lz:(K.cps.toList.zip l).length=l.length:=by rw[List.length_zip,hl,Nat.min_self]
    have i4:i-1<l.length:=by omega
    have i5:i-1<K.cps.toList.length:=by omega
    have e3:(c,z)=(K.cps.toList[i-1],l[i-1]):=by rw[i3,List.getElem_zip]
    obtain⟨ec,ez⟩:=Prod.mk.inj e3
    have vz:(w::l)[i]? =some z:=by
     obtain⟨j,rfl⟩:∃j,i=j+1:=⟨i-1,by omega⟩;rw[List.getElem?_cons_succ,ez];exact Zd i4
    have kz:K.cps.toList[i-1]? =some c:=by rw[ec,Zd i5]
    have zm:z∈w::l:=by rw[ez];exact Zj _ (List.getElem_mem i4)
    obtain⟨q1,q2⟩:=LV (G:=G) (W:=W) hnm hnu (h:=h++ [.dct (iI (l.length+1))]++g) (n:=n) (dn:=h.length) (i:=i) (w:=w) (z:=z) (c:=c) (m:=l.length+1) (V:=w::l) (K:=K) (d3:=d3) (d4:=d4) (by rw[List.append_assoc];exact hva _) rfl vz i1 (hw z zm) (hd g) hk kl kz (kc c (by rw[ec];exact List.getElem_mem i5));refine⟨[some (.ref n),some (.ref h.length),some (.int i),d3,d4],rfl,λq=>?_,λq=>?_⟩
    ·obtain⟨e3,e4,g',e⟩:=q1 q;exact⟨_,_,e,⟨_,_,_,rfl⟩,g++g',by rw[List.append_assoc _ g g']⟩
    ·obtain⟨g',e⟩:=q2 q;exact⟨_,e,trivial⟩) [some (.ref n),some (.ref h.length),none,none,none] (h++ [.dct (iI (l.length+1))]) ⟨⟨_,_,_,rfl⟩,[],(Zm _).symm⟩
   have fo:xs G cl W (.forr (.nm 2) (.r2 (.int 1) (.blt .len (.cons (.var 0) .nil))) FA) [some (.ref n),some (.ref h.length),none,none,none] (h++ [.dct (iI (l.length+1))])=dJ (.nm 2) (bO G cl W FA) (L.map λa=>D.int (a.2:Nat)) [some (.ref n),some (.ref h.length),none,none,none] (h++ [.dct (iI (l.length+1))]):=by
    rw[JA,aN,cR,aC,nW rfl hv1,cR,aC,Zc]
    show(if nB 1/\nB ((w::l).length:Nat) then dJ _ _ (cQ 1 ((w::l).length:Nat)) _ _ else .bad)=_
    rw[if_pos ⟨by decide,kR (by omega)⟩,er]
   rw[ea];cases hq:L.all λa=>CF a.1 with
   |true=>
    obtain⟨r',h',e,_⟩:=a hq;exact⟨h',by rw[aL (fo.trans e),aU (bM (pG ..))];rfl⟩
   |false=>
    obtain⟨h',e,_⟩:=b hq;exact⟨h',by rw[aU (fo.trans e)];rfl⟩
  ·rw[decide_eq_false hl] at c2;refine⟨h++ [.dct (iI (l.length+1))],?_⟩;rw[decide_eq_false hl,aU (d:=.bl false) (h':=h++ [.dct (iI (l.length+1))]) (by rw[bU c2,aU (bM (pG ..))])];rfl
end
def kZ(B:Nat)(x:Str):Prop:=x.length<=B/\32 ∉ x.cps.toList
instance (B:Nat) (x:Str):Decidable (kZ B x):=by unfold kZ;infer_instance
noncomputable def rpS(a:Str)(c k:Nat):Str:=a++⟨(List.replicate k c).toArray⟩
noncomputable def od1:List Str:= ["","aB","a1","00","07","+1","-0","-",rpS "1" 48 100,rpS "-" 57 101,"1,2","1,2,3,4","1,,3"]
noncomputable def od2:List Str:= ["1,2,03","put","tie","drop","untie","undo","Put",rpS "-" 55 100,"12","abc","1,2,3"]
noncomputable def od3:List Str:= ["--1","1-","a-b","{","1.0","1_0"]
noncomputable def odS:List Str:=od1++od2++od3
theorem OY:∀x∈odS,kZ 312 x:=by decide+kernel
noncomputable def sfS:List Str:= ["0","a","-",",1","A"]
theorem OE:∀x∈sfS,kZ 2 x:=by decide+kernel
section
variable {G:Gs}{cl:Cl}{W:Nat}
def Lx(G:Gs)(cl:Cl)(e:E)(r:Ev)(h:Hh)(l:List Str):Prop:=∃n g,ev G cl e r h=.ok (.ref n) (h++g)/\(h++g)[n]? =some (O.lst (l.map D.str))
theorem vB{h g:Hh}{n:Nat}{o:O}(e:h[n]? =some o):(h++g)[n]? =some o:=by
 have:=(Ze.mp e).1;rw[List.getElem?_append_left this,e]
theorem uU{h:Hh}{n:Nat}{l:List D}(e:h[n]? =some (O.lst l)):aK h n=some l:=by
 unfold aK;rw[e];rfl
theorem Lx.add{a b:E}{r:Ev}{h:Hh}{la lb:List Str}(ha:Lx G cl a r h la)(hb:∀g,Lx G cl b r (h++g) lb)(hl:la.length+lb.length<=1000):Lx G cl (.bin .add a b) r h (la++lb):=by
 obtain⟨n,g,e1,q1⟩:=ha;obtain⟨m,g2,e2,q2⟩:=hb g;have:=vY (vB (g:=g2) q1) q2 (by simpa using hl);refine⟨(h++g++g2).length,g++(g2++ [.lst ((la++lb).map D.str)]),?_,?_⟩
 ·rw[gH,e1,aC,e2,aC,this,List.map_append];congr 1;simp only[List.append_assoc]
 ·rw[<- List.append_assoc, <- List.append_assoc];exact eS _ _
theorem UR{e:E}{r:Ev}{h:Hh}{n k:Nat}{ws:List Str}(hv:aK h n=some (ws.map D.str))(r0:r[0]? =some (some (.ref n)))(he:ev G cl e r h=.ok (.int (k:Int)) h):Lx G cl (.slU (.var 0) e) r h (ws.take k):=by
 refine⟨h.length,[.lst ((ws.take k).map D.str)],?_,eS _ _⟩;rw[AX,bR r0,aC,he,aC,yV hv (by omega),Int.toNat_natCast,List.map_take]
theorem PD{e:E}{r:Ev}{h:Hh}{n k:Nat}{ws:List Str}(hv:aK h n=some (ws.map D.str))(r0:r[0]? =some (some (.ref n)))(he:ev G cl e r h=.ok (.int (k:Int)) h):Lx G cl (.slL (.var 0) e) r h (ws.drop k):=by
 refine⟨h.length,[.lst ((ws.drop k).map D.str)],?_,eS _ _⟩;rw[AY,bR r0,aC,he,aC,yX hv (by omega),Int.toNat_natCast,List.map_drop]
theorem US{e:E}{r:Ev}{h:Hh}{x:Str}(he:∃g,ev G cl e r h=.ok (.str x) (h++g)):Lx G cl (.lst (.cons e .nil)) r h [x]:=by
 obtain⟨g,he⟩:=he;refine⟨(h++g).length,g++ [.lst [.str x]],?_,by rw[<- List.append_assoc];exact eS _ _⟩;rw[vG,dQ he,aC,if_pos (by show 1<=1000;decide),List.append_assoc]
inductive Tx (G:Gs) (cl:Cl):Es->List Str->Prop
 |nil:Tx G cl .nil []
 |str (x:Str) {l xs}:Tx G cl l xs->Tx G cl (.cons (.str x) l) (x::xs)
 |rep (a:Str) (c k:Nat) {l xs}:a.length<=1000->k<=1000->Tx G cl l xs->Tx G cl (.cons (.bin .add (.str a) (.rep (.str ⟨#[c]⟩) (.int k))) l) (rpS a c k::xs)
theorem Tx.run{l:Es}{xs:List Str}(t:Tx G cl l xs)(r:Ev)(h:Hh):cM G cl l r h=.ok (xs.map D.str) h:=by
 induction t with
 |nil=>rw[cT];rfl
 |str x _ ih=>rw[aO,bL,aC,ih,aC];rfl
 |rep a c k ha hk _ ih=>
  have e1:ev G cl (.rep (.str ⟨#[c]⟩) (.int k)) r h=.ok (.str ⟨(List.replicate k c).toArray⟩) h:=by
   rw[AZ,bL,aC,aN,aC]
   show(if 0<=(k:Int)/\(k:Int)<=1000/\(1:Nat)<=1000 then Rs.ok (D.str ⟨(List.replicate (k:Int).toNat [c]).flatten.toArray⟩) h else .bad)=_
   rw[if_pos ⟨by omega,by omega,by decide⟩,Int.toNat_natCast,OI]
  have e2:ev G cl (.bin .add (.str a) (.rep (.str ⟨#[c]⟩) (.int k))) r h=.ok (.str (rpS a c k)) h:=by
   refine aV (bL ..) e1 ?_
   show(if a.length+(List.replicate k c).toArray.size<=sizeLine then _ else _)=_
   rw[if_pos (by rw[Zk,List.length_replicate];exact Nat.le_trans (show _<=2000 by omega) (by decide))];rfl
  rw[aO,e2,aC,ih,aC];rfl
theorem LB{l:Es}{xs:List Str}(t:Tx G cl l xs)(hl:xs.length<=1000)(r:Ev)(h:Hh):Lx G cl (.lst l) r h xs:=by
 refine⟨h.length,[.lst (xs.map D.str)],?_,eS _ _⟩;rw[vG,t.run,aC,if_pos (by rw[Zc];exact hl)]
noncomputable abbrev o1E:Es:=(.cons (.str "") (.cons (.str "aB") (.cons (.str "a1") (.cons (.str "00") (.cons (.str "07") (.cons (.str "+1") (.cons (.str "-0") (.cons (.str "-") (.cons (.bin .add (.str "1") (.rep (.str "0") (.int 100))) (.cons (.bin .add (.str "-") (.rep (.str "9") (.int 101))) (.cons (.str "1,2") (.cons (.str "1,2,3,4") (.cons (.str "1,,3") .nil)))))))))))))
noncomputable abbrev o2E:Es:=(.cons (.str "1,2,03") (.cons (.str "put") (.cons (.str "tie") (.cons (.str "drop") (.cons (.str "untie") (.cons (.str "undo") (.cons (.str "Put") (.cons (.bin .add (.str "-") (.rep (.str "7") (.int 100))) (.cons (.str "12") (.cons (.str "abc") (.cons (.str "1,2,3") .nil)))))))))))
noncomputable abbrev o3E:Es:=(.cons (.str "--1") (.cons (.str "1-") (.cons (.str "a-b") (.cons (.str "{") (.cons (.str "1.0") (.cons (.str "1_0") .nil))))))
theorem o1T:Tx G cl o1E od1:=.str _ (.str _ (.str _ (.str _ (.str _ (.str _ (.str _ (.str _ (.rep "1" 48 100 (by decide) (by decide) (.rep "-" 57 101 (by decide) (by decide) (.str _ (.str _ (.str _ .nil))))))))))))
theorem o2T:Tx G cl o2E od2:=.str _ (.str _ (.str _ (.str _ (.str _ (.str _ (.str _ (.rep "-" 55 100 (by decide) (by decide) (.str _ (.str _ (.str _ .nil))))))))))
theorem o3T:Tx G cl o3E od3:=.str _ (.str _ (.str _ (.str _ (.str _ (.str _ .nil)))))
theorem sfT:Tx G cl (.cons (.str "0") (.cons (.str "a") (.cons (.str "-") (.cons (.str ",1") (.cons (.str "A") .nil))))) sfS:=.str _ (.str _ (.str _ (.str _ (.str _ .nil))))
noncomputable abbrev spB:Ss:=(.cons (.asg (.nm 2) (.bin .mod (.ix (.var 1) (.int 1)) (.blt .len (.cons (.var 0) .nil)))) (.cons (.asg (.nm 3) (.lst o1E)) (.cons (.asg (.nm 3) (.bin .add (.var 3) (.lst o2E))) (.cons (.asg (.nm 3) (.bin .add (.var 3) (.lst o3E))) (.cons (.asg (.nm 4) (.bin .mod (.ix (.var 1) (.int 0)) (.int 6))) (.cons (.iff (.cmp .eq (.var 4) (.int 0)) (.cons (.ret (.bin .add (.slU (.var 0) (.var 2)) (.slL (.var 0) (.bin .add (.var 2) (.int 1))))) .nil) .nil) (.cons (.iff (.cmp .eq (.var 4) (.int 1)) (.cons (.ret (.bin .add (.bin .add (.slU (.var 0) (.var 2)) (.lst (.cons (.ix (.var 0) (.var 2)) .nil))) (.slL (.var 0) (.var 2)))) .nil) .nil) (.cons (.iff (.cmp .eq (.var 4) (.int 2)) (.cons (.ret (.bin .add (.bin .add (.slU (.var 0) (.var 2)) (.lst (.cons (.bin .add (.ix (.var 0) (.var 2)) (.ix (.lst (.cons (.str "0") (.cons (.str "a") (.cons (.str "-") (.cons (.str ",1") (.cons (.str "A") .nil)))))) (.bin .mod (.ix (.var 1) (.int 2)) (.int 5)))) .nil))) (.slL (.var 0) (.bin .add (.var 2) (.int 1))))) .nil) .nil) (.cons (.iff (.cmp .eq (.var 4) (.int 3)) (.cons (.ret (.bin .add (.bin .add (.slU (.var 0) (.var 2)) (.lst (.cons (.ix (.var 3) (.bin .mod (.ix (.var 1) (.int 2)) (.int 30))) .nil))) (.slL (.var 0) (.var 2)))) .nil) .nil) (.cons (.ret (.bin .add (.bin .add (.slU (.var 0) (.var 2)) (.lst (.cons (.ix (.var 3) (.bin .mod (.ix (.var 1) (.int 2)) (.int 30))) .nil))) (.slL (.var 0) (.bin .add (.var 2) (.int 1))))) .nil))))))))))
def SpX(cl:Cl)(f:Nat):Prop:=∀(h:Hh)(n m:Nat)(ws:List Str)(row:List Int),aK h n=some (ws.map D.str)->2<=ws.length->ws.length<=20->(∀x∈ws,kZ 310 x)->Row h m row->row.length=4->
 ∃(V:List Str)(n':Nat)(g:Hh),cl f [.ref n,.ref m] h=.ok (.ref n') (h++g)/\(h++g)[n']? =some (O.lst (V.map D.str))/\V≠ []/\V.length<=50/\∀x∈V,kZ 312 x
theorem JN{h:Hh}{n m:Nat}{ws:List Str}{row:List Int}(hv:aK h n=some (ws.map D.str))(l2:2<=ws.length)(l20:ws.length<=20)(ho:∀x∈ws,kZ 310 x)(Q:Row h m row)(hr:row.length=4):
 ∃(V:List Str)(n':Nat)(g:Hh),(bO G cl W spB [some (.ref n),some (.ref m),none,none,none] h).bind cZ=.ok (.ref n') (h++g)/\(h++g)[n']? =some (O.lst (V.map D.str))/\V≠ []/\V.length<=50/\∀x∈V,kZ 312 x:=by
 have q1:=Q.rng 1 (by omega)
 obtain⟨p,ep⟩:∃p:Nat,Row.R row 1%(ws.length:Int)=(p:Int):=⟨(Row.R row 1%(ws.length:Int)).toNat,by
  have:=Int.emod_nonneg (Row.R row 1) (b:=(ws.length:Int)) (by omega);omega⟩
 have hp:p<ws.length:=by
  have:=Int.emod_lt_of_pos (Row.R row 1) (b:=(ws.length:Int)) (by omega);omega
 have s1:xs G cl W (.asg (.nm 2) (.bin .mod (.ix (.var 1) (.int 1)) (.blt .len (.cons (.var 0) .nil)))) [some (.ref n),some (.ref m),none,none,none] h=.ok (.nx [some (.ref n),some (.ref m),some (.int p),none,none]) h:=by
  refine bZ ?_;have e:ev G cl (.bin .mod (.ix (.var 1) (.int 1)) (.blt .len (.cons (.var 0) .nil))) [some (.ref n),some (.ref m),none,none,none] h=.ok (.int (Row.R row 1%((ws.map D.str).length:Int))) h:=aV (bP (i:=1) rfl (aN ..) (Q.ix (Kp.refl h) 1 (by omega))) (nW rfl hv) (eX _ (by rw[Zc];omega));rw[e,Zc,ep]
 rw[aL s1];obtain⟨n1,g1,e1,k1⟩:=LB (G:=G) (cl:=cl) o1T (by decide) [some (.ref n),some (.ref m),some (.int p),none,none] h;rw[aL (r':= [some (.ref n),some (.ref m),some (.int p),some (.ref n1),none]) (bZ e1)];have vL:∀{n1:Nat}{h:Hh}{l:List Str}{r:Ev},r[3]? =some (some (.ref n1))->h[n1]? =some (O.lst (l.map D.str))->Lx G cl (.var 3) r h l:=λ{n1 h l r} r3 k=>⟨n1,[],by rw[bR r3,Zm],by rw[Zm];exact k⟩;obtain⟨n2,g2,e2,k2⟩:=Lx.add (G:=G) (cl:=cl) (vL (r:= [some (.ref n),some (.ref m),some (.int p),some (.ref n1),none]) rfl k1) (λg=>LB o2T (by decide) _ _) (by decide);rw[aL (r':= [some (.ref n),some (.ref m),some (.int p),some (.ref n2),none]) (bZ e2)];obtain⟨n3,g3,e3,k3⟩:=Lx.add (G:=G) (cl:=cl) (vL (r:= [some (.ref n),some (.ref m),some (.int p),some (.ref n2),none]) rfl k2) (λg=>LB o3T (by decide) _ _) (by decide);rw[aL (r':= [some (.ref n),some (.ref m),some (.int p),some (.ref n3),none]) (bZ e3)]
 replace k3:(h++g1++g2++g3)[n3]? =some (O.lst (odS.map D.str)):=k3
 have eh:∃g,h++g1++g2++g3=h++g:=⟨_,by rw[List.append_assoc,List.append_assoc]⟩;clear e1 k1 e2 k2 e3 s1;generalize h++g1++g2++g3=h2 at k3 eh⊢;obtain⟨g,rfl⟩:=eh;have Ka:∀g',Kp h (h++g++g'):=λg'=>by rw[List.append_assoc];exact Kp.app _ _
 have K0:Kp h (h++g):=Kp.app _ _;obtain⟨wy,ew⟩:∃wy:Int,wy=Row.R row 0%6:=⟨_,rfl⟩;rw[aL (r':= [some (.ref n),some (.ref m),some (.int p),some (.ref n3),some (.int wy)]) (h':=h++g) (bZ (by rw[ew];exact aV (bP (i:=1) rfl (aN ..) (Q.ix K0 0 (by omega))) (aN ..) (eX _ (by omega))))]
 let r:Ev:= [some (.ref n),some (.ref m),some (.int p),some (.ref n3),some (.int wy)]
 have hva:∀g',aK (h++g++g') n=some (ws.map D.str):=λg'=>by rw[List.append_assoc];exact bX _ _ hv
 have hv0:aK (h++g) n=some (ws.map D.str):=bX _ _ hv;have p0:∀h',ev G cl (.var 2) r h'=.ok (.int (p:Int)) h':=λh'=>bR rfl
 have p1:∀h',ev G cl (.bin .add (.var 2) (.int 1)) r h'=.ok (.int ((p+1:Nat):Int)) h':=λh'=>by
  rw[aV (p0 h') (aN ..) (jV ..)];congr 2
 have U:Lx G cl (.slU (.var 0) (.var 2)) r (h++g) (ws.take p):=UR hv0 rfl (p0 _);have L0:∀g',Lx G cl (.slL (.var 0) (.var 2)) r (h++g++g') (ws.drop p):=λg'=>PD (hva g') rfl (p0 _);have L1:∀g',Lx G cl (.slL (.var 0) (.bin .add (.var 2) (.int 1))) r (h++g++g') (ws.drop (p+1)):=λg'=>PD (hva g') rfl (p1 _)
 have wp:∀g',ev G cl (.ix (.var 0) (.var 2)) r (h++g++g')=.ok (.str ws[p]) (h++g++g'):=λg'=>by
  refine bP rfl (p0 _) ?_;rw[jL _ _ (hva g'),cU (v:=.str ws[p]) (by rw[Zi,Zd hp];rfl)]
 have tk:∀x∈ws.take p,kZ 312 x:=λx hx=>by
  have:=ho x (List.mem_of_mem_take hx);exact⟨by have:=this.1;omega,this.2⟩
 have dp:∀k,∀x∈ws.drop k,kZ 312 x:=λk x hx=>by
  have:=ho x (List.mem_of_mem_drop hx);exact⟨by have:=this.1;omega,this.2⟩
 have lt:(ws.take p).length=p:=by rw[List.length_take];omega
 have ld:∀k,(ws.drop k).length<=20:=λk=>by rw[List.length_drop];omega
 have put:∀{e:E}{x:Str}{e2:E}{l2:List Str},(∀g',∃g2,ev G cl e r (h++g++g')=.ok (.str x) (h++g++g'++g2))->kZ 312 x->(∀g',Lx G cl e2 r (h++g++g') l2)->l2.length<=20->(∀x∈l2,kZ 312 x)->
  ∃(V:List Str)(n':Nat)(g':Hh),ev G cl (.bin .add (.bin .add (.slU (.var 0) (.var 2)) (.lst (.cons e .nil))) e2) r (h++g)=.ok (.ref n') (h++g')/\(h++g')[n']? =some (O.lst (V.map D.str))/\V≠ []/\V.length<=50/\∀x∈V,kZ 312 x:=λ{e x e2 l2} he hx h2 hl hw=>by
  obtain⟨n',g',e',k⟩:=Lx.add (Lx.add U (λg'=>US (he g')) (by rw[lt];show p+1<=1000;omega)) h2 (by rw[List.length_append,lt];show p+1+l2.length<=1000;omega);refine⟨ws.take p++ [x]++l2,n',g++g',by rw[e',List.append_assoc],by rw[<- List.append_assoc];exact k,by simp,?_,λy hy=>?_⟩
  ·rw[List.length_append,List.length_append,lt];show p+1+l2.length<=50;omega
  ·rcases List.mem_append.mp hy with hy|hy
   ·rcases List.mem_append.mp hy with hy|hy
    ·exact tk y hy
    ·rw[List.mem_singleton.mp hy];exact hx
   ·exact hw y hy
 have SU:∀k:Int,ev G cl (.cmp .eq (.var 4) (.int k)) r (h++g)=.ok (.bl (decide (wy=k))) (h++g):=λk=>bF (bR rfl) (aN ..) (GJ ..);have ret:∀{e:E}{Z:Ss},(∃(V:List Str)(n':Nat)(g':Hh),ev G cl e r (h++g)=.ok (.ref n') (h++g')/\(h++g')[n']? =some (O.lst (V.map D.str))/\V≠ []/\V.length<=50/\∀x∈V,kZ 312 x)->∃(V:List Str)(n':Nat)(g':Hh),(bO G cl W (.cons (.ret e) Z) r (h++g)).bind cZ=.ok (.ref n') (h++g')/\(h++g')[n']? =some (O.lst (V.map D.str))/\V≠ []/\V.length<=50/\∀x∈V,kZ 312 x:=λ{e Z} ⟨V,n',g',q,o⟩=>⟨V,n',g',by rw[aU (bM q)];rfl,o⟩;have yes:∀{k:Int}{e:E}{Z:Ss},wy=k->(∃(V:List Str)(n':Nat)(g':Hh),ev G cl e r (h++g)=.ok (.ref n') (h++g')/\(h++g')[n']? =some (O.lst (V.map D.str))/\V≠ []/\V.length<=50/\∀x∈V,kZ 312 x)->∃(V:List Str)(n':Nat)(g':Hh),(bO G cl W (.cons (.iff (.cmp .eq (.var 4) (.int k)) (.cons (.ret e) .nil) .nil) Z) r (h++g)).bind cZ=.ok (.ref n') (h++g')/\(h++g')[n']? =some (O.lst (V.map D.str))/\V≠ []/\V.length<=50/\∀x∈V,kZ 312 x:=λ{k e Z} ek ⟨V,n',g',q,o⟩=>⟨V,n',g',by rw[aU (by rw[bU (by rw[SU,decide_eq_true ek]),aU (bM q)])];rfl,o⟩;have no:∀{k:Int}{e:E}{Z:Ss},wy≠k->bO G cl W (.cons (.iff (.cmp .eq (.var 4) (.int k)) (.cons (.ret e) .nil) .nil) Z) r (h++g)=bO G cl W Z r (h++g):=λ{k e Z} ek=>aL (by rw[bJ (by rw[SU,decide_eq_false ek]),aT]);have wpo:kZ 310 ws[p]:=ho _ (List.getElem_mem hp);have r2:=Q.rng 2 (by omega);show ∃(V:List Str)(n':Nat)(g':Hh),(bO G cl W _ r (h++g)).bind cZ=.ok (.ref n') (h++g')/\(h++g')[n']? =some (O.lst (V.map D.str))/\V≠ []/\V.length<=50/\∀x∈V,kZ 312 x
 by_cases w0:wy=0
 ·refine yes w0 ?_;obtain⟨n',g',e',k⟩:=Lx.add U L1 (by rw[lt];have:=ld (p+1);omega);refine⟨ws.take p++ws.drop (p+1),n',g++g',by rw[e',List.append_assoc],by rw[<- List.append_assoc];exact k,?_,?_,λy hy=>?_⟩
  ·intro e;have:=congrArg List.length e;rw[List.length_append,lt,List.length_drop,List.length_nil] at this;omega
  ·rw[List.length_append,lt];have:=ld (p+1);omega
  ·rcases List.mem_append.mp hy with hy|hy
   ·exact tk y hy
   ·exact dp _ y hy
 rw[no w0]
 by_cases w1:wy=1
 ·exact yes w1 (put (λg'=>⟨[],by rw[Zm];exact wp g'⟩) ⟨by have:=wpo.1;omega,wpo.2⟩ L0 (ld _) (dp _))
 rw[no w1]
 have odx:∃x,kZ 312 x/\∀g'',ev G cl (.ix (.var 3) (.bin .mod (.ix (.var 1) (.int 2)) (.int 30))) r (h++g++g'')=.ok (.str x) (h++g++g''):=by
  obtain⟨j,ej⟩:∃j:Nat,Row.R row 2%30=(j:Int):=⟨(Row.R row 2%30).toNat,by omega⟩;have hj:j<odS.length:=by show j<30;omega
  refine⟨odS[j],OY _ (List.getElem_mem hj),λg''=>?_⟩;refine bP (i:=3) rfl (aV (bP (i:=1) rfl (aN ..) (Q.ix (Ka g'') 2 (by omega))) (aN ..) (eX _ (by omega))) ?_;rw[ej,jL _ _ (l:=odS.map D.str) (uU (vB (g:=g'') k3)),cU (v:=.str odS[j]) (by rw[Zi,Zd hj];rfl)]
 obtain⟨x,xo,xe⟩:=odx
 by_cases w2:wy=2
 ·obtain⟨j,ej⟩:∃j:Nat,Row.R row 2%5=(j:Int):=⟨(Row.R row 2%5).toNat,by omega⟩;have hj:j<sfS.length:=by show j<5;omega
  have so:=OE _ (List.getElem_mem hj);refine yes w2 (put (x:=ws[p]++sfS[j]) (λg'=>⟨[.lst (sfS.map D.str)],?_⟩) ?_ L1 (ld _) (dp _))
  ·refine aV (wp g') (y:=.str sfS[j]) (h2:=h++g++g'++ [.lst (sfS.map D.str)]) ?_ ?_
   ·rw[FH,vG,sfT.run,aC,if_pos (by decide),aC];have m5:ev G cl (.bin .mod (.ix (.var 1) (.int 2)) (.int 5)) r (h++g++g'++ [.lst (sfS.map D.str)])=.ok (.int (Row.R row 2%5)) (h++g++g'++ [.lst (sfS.map D.str)]):=aV (bP (i:=1) rfl (aN ..) (Q.ix ((Ka g').trans (Kp.app _ _)) 2 (by omega))) (aN ..) (eX _ (by omega));rw[m5,aC,ej,jL _ _ (bD _ _),cU (v:=.str sfS[j]) (by rw[Zi,Zd hj];rfl)]
   ·show(if ws[p].length+sfS[j].length<=sizeLine then _ else _)=_
    rw[if_pos (Nat.le_trans (show _<=1000 by have:=wpo.1;have:=so.1;omega) (by decide))]
  ·constructor
   ·rw[strLen_append];have:=wpo.1;have:=so.1;omega
   ·rw[kW,List.mem_append,not_or];exact⟨wpo.2,so.2⟩
 rw[no w2]
 by_cases w3:wy=3
 ·exact yes w3 (put (λg'=>⟨[],by rw[Zm];exact xe g'⟩) xo L0 (ld _) (dp _))
 rw[no w3];exact ret (put (λg'=>⟨[],by rw[Zm];exact xe g'⟩) xo L1 (ld _) (dp _))
end
theorem uW(c:Nat):∀L:List (List Nat),L≠ []->jl c (L++ [[]])=jl c L++ [c]
 | [],h=>absurd rfl h
 | [x],_=>rfl
 |x::y::r,_=>by
  have:=uW c (y::r) (by simp);show x++c::jl c (y::r++ [[]])=x++c::jl c (y::r)++ [c];rw[this];simp
theorem xB{V:List Str}(h:V≠ []):Str.join bkS (V++ [Str.ofString ""])=Str.join bkS V++bkS:=by
 apply gJ;rw[kW,gC,gC,List.map_append];exact uW 32 _ (by simpa using h)
theorem sX{V:List Str}(h:V≠ []):Str.join bkS (Str.ofString ""::V)=bkS++Str.join bkS V:=by
 apply gJ;rw[kW,gC,gC];cases V with
 |nil=>exact absurd rfl h
 |cons x r=>rfl
theorem sJ{V:List Str}(h:V≠ [])(hf:∀x∈V,32 ∉ x.cps.toList):Txt.split (Str.join bkS V) bkS=V:=by
 rw[<- tj];exact sI h hf
structure Made (z:Str)(V:List Str):Prop where
 sp:Txt.split z bkS=V
 le:z.length<=20000
 ne:V≠ []
 ln:V.length<=52
 wd:∀x∈V,kZ 312 x
theorem oX{V:List Str}(ne:V≠ [])(ln:V.length<=52)(wd:∀x∈V,kZ 312 x):Made (Str.join bkS V) V where
 sp:=sJ ne λx hx=>(wd x hx).2
 le:=by
  have a:=PK bkS V;have b:=oK (B:=312) V λx hx=>(wd x hx).1;have c:V.length*312<=52*312:=Nat.mul_le_mul_right _ ln;have d:V.length*bkS.length<=52*1:=Nat.mul_le_mul ln (Zn 1);omega
 ne:=ne
 ln:=ln
 wd:=wd
theorem yH:kZ 312 (Str.ofString ""):=by decide+kernel
section
variable {G:Gs}{cl:Cl}{W:Nat}
noncomputable abbrev RZ:List HS:= [.bl 4 (.and (.isx 1) (.and .isv (.sam 8)))]
noncomputable abbrev l24:Ss:=(.cons (.asg (.nm 1) (.call 9 (.cons (.call 11 (.cons (.call 7 (.cons (.var 0) (.cons (.int 0) (.cons (.int 27) .nil)))) .nil)) .nil))) (.cons (.asg (.nm 2) (.call 7 (.cons (.var 0) (.cons (.int 1) (.cons (.int 4) .nil))))) (.cons (.asg (.nm 3) (.join " " (.call 15 (.cons (.var 1) (.cons (.var 2) .nil))))) (.cons (.iff (.cmp .eq (.bin .mod (.ix (.var 2) (.int 3)) (.int 8)) (.int 1)) (.cons (.asg (.nm 3) (.bin .add (.var 3) (.str " "))) .nil) .nil) (.cons (.iff (.cmp .eq (.bin .mod (.ix (.var 2) (.int 3)) (.int 8)) (.int 2)) (.cons (.asg (.nm 3) (.bin .add (.str " ") (.var 3))) .nil) .nil) (.cons (.asg (.nm 4) (.bl false)) (.cons (.asg (.nm 5) .non) (.cons (.tryx (.cons (.asgX (.nm 5) 6 (.cons (.var 3) .nil)) .nil) 0 (some 6) RZ) (.cons (.iff (.not (.call 14 (.cons (.spl (.var 3) " ") .nil))) (.cons (.ret (.var 4)) .nil) .nil) (.cons (.ret (.and (.not (.var 4)) (.call 8 (.cons (.call 9 (.cons (.var 5) .nil)) (.cons (.spl (.var 3) " ") .nil))))) .nil))))))))))
theorem NM(t:Tg)(f:Nat)(l:Es)(r:Ev)(h:Hh):xs G cl W (.asgX t f l) r h=(cM G cl l r h).nx.bind λds h=>((cl f ds h).inn r).bind λx h=>match dO t x r with
 |some r1=>.ok (.nx r1) h
 |none=>.bad:=by rw[xs]<;>rfl
theorem law24_ok{ns:List Int}
 (hd:∀(at':Int)(M:Nat)(h:Hh),M<=1000->0<=at'->at'<100000->aK h 0=some (ns.map D.int)->∃row:List Int,row.length=M/\InR row/\cl 7 [.ref 0,.int at',.int M] h=.ok (.ref h.length) (h++ [.lst (row.map D.int)]))
 (hy:Ady cl 11)(hw:Dwo cl 9)(hsp:SpX cl 15)(hr:QU cl 6)(hi:DeX cl 14)
 (hs:∀(a b:Nat)(l:List Str)(h:Hh),aK h a=some (l.map D.str)->aK h b=some (l.map D.str)->l.length<=1000->cl 8 [.ref a,.ref b] h=.ok (.bl true) h)
 (hc:∀(r:Ev)(h:Hh),mV G 0 (some 6) RZ (.exc 1 r h)=.ok (.nx (((r.set 6 none).set 4 (some (.bl true))).set 6 none)) h):
 ∃h',(bO G cl W l24 [some (.ref 0),none,none,none,none,none,none] [.ro (ns.map D.int)]).bind cZ=.ok (.bl true) h':=by
 have l0:∀g,aK ([.ro (ns.map D.int)]++g) 0=some (ns.map D.int):=λg=>rfl;obtain⟨row,rl,ri,e0⟩:=hd 0 27 [.ro (ns.map D.int)] (by decide) (by decide) (by decide) rfl;obtain⟨d,g1,od,sm,e1⟩:=hy ([.ro (ns.map D.int)]++ [.lst (row.map D.int)]) 1 row ⟨bD [.ro (ns.map D.int)] _,ri⟩ rl;obtain⟨n,g2,e2,l2⟩:=hw _ d od;have c1:ev G cl (.call 7 (.cons (.var 0) (.cons (.int 0) (.cons (.int 27) .nil)))) [some (.ref 0),none,none,none,none,none,none] [.ro (ns.map D.int)]=.ok (.ref 1) ([.ro (ns.map D.int)]++ [.lst (row.map D.int)]):=kN (by rw[aO,bR (x:=.ref 0) rfl,aC,aO,aN,aC,aO,aN,aC,cT];rfl) e0;have s1:xs G cl W (.asg (.nm 1) (.call 9 (.cons (.call 11 (.cons (.call 7 (.cons (.var 0) (.cons (.int 0) (.cons (.int 27) .nil)))) .nil)) .nil))) [some (.ref 0),none,none,none,none,none,none] [.ro (ns.map D.int)]=.ok (.nx [some (.ref 0),some (.ref n),none,none,none,none,none]) ([.ro (ns.map D.int)]++ [.lst (row.map D.int)]++g1++g2):=bZ (kN (dQ (kN (dQ c1) e1)) e2);rw[aL s1];have eh:∃g,[O.ro (ns.map D.int)]++ [.lst (row.map D.int)]++g1++g2=[O.ro (ns.map D.int)]++g:=⟨_,by rw[List.append_assoc,List.append_assoc]⟩;generalize [O.ro (ns.map D.int)]++ [.lst (row.map D.int)]++g1++g2=h2 at l2 eh⊢;obtain⟨g,rfl⟩:=eh;obtain⟨rw4,rl4,ri4,e4⟩:=hd 1 4 ([.ro (ns.map D.int)]++g) (by decide) (by decide) (by decide) (l0 g);generalize [O.ro (ns.map D.int)]++g=h2 at l2 e4⊢;have s2:xs G cl W (.asg (.nm 2) (.call 7 (.cons (.var 0) (.cons (.int 1) (.cons (.int 4) .nil))))) [some (.ref 0),some (.ref n),none,none,none,none,none] h2=.ok (.nx [some (.ref 0),some (.ref n),some (.ref h2.length),none,none,none,none]) (h2++ [.lst (rw4.map D.int)]):=bZ (kN (by rw[aO,bR (x:=.ref 0) rfl,aC,aO,aN,aC,aO,aN,aC,cT];rfl) e4);rw[aL s2];have Q:Row (h2++ [.lst (rw4.map D.int)]) h2.length rw4:=⟨bD _ _,ri4⟩;obtain⟨a14,a310⟩:=JV od sm;have hlen:=LW d
 have wl:∀x∈d.hd::d.rs,kZ 310 x:=λx hx=>⟨by
  rcases List.mem_cons.mp hx with rfl|hx
  ·omega
  ·exact a310 x hx,DM od x hx⟩
 have r1:1<=d.rs.length:=by cases d<;>simp[Dd.rs]
 obtain⟨V,n',g5,e5,k5,ne,ln,wd⟩:=hsp (h2++ [.lst (rw4.map D.int)]) n h2.length (d.hd::d.rs) rw4 (bX _ _ l2) (by rw[List.length_cons];omega) (by rw[List.length_cons];omega) wl Q rl4;have M0:=oX ne (by omega) wd
 have j:jZ bkS (.ref n') (h2++ [.lst (rw4.map D.int)]++g5)=.ok (.str (Str.join bkS V)) (h2++ [.lst (rw4.map D.int)]++g5):=by
  rw[<- tj];refine uV (uU k5) ?_;have b:=oK (B:=312) V λx hx=>(wd x hx).1;have c:V.length*312<=52*312:=Nat.mul_le_mul_right _ (by omega);have d:V.length*bkS.length<=52*1:=Nat.mul_le_mul (by omega) (Zn 1);omega
 have s3:xs G cl W (.asg (.nm 3) (.join " " (.call 15 (.cons (.var 1) (.cons (.var 2) .nil))))) [some (.ref 0),some (.ref n),some (.ref h2.length),none,none,none,none] (h2++ [.lst (rw4.map D.int)])=.ok (.nx [some (.ref 0),some (.ref n),some (.ref h2.length),some (.str (Str.join bkS V)),none,none,none]) (h2++ [.lst (rw4.map D.int)]++g5):=bZ (by
  rw[vH,kN (fP (bR rfl) (bR rfl)) e5,aC];exact j)
 rw[aL s3];have K5:Kp (h2++ [.lst (rw4.map D.int)]) (h2++ [.lst (rw4.map D.int)]++g5):=Kp.app _ _;have ix3:∀(r:Ev)(k:Int),r[2]? =some (some (.ref h2.length))->ev G cl (.cmp .eq (.bin .mod (.ix (.var 2) (.int 3)) (.int 8)) (.int k)) r (h2++ [.lst (rw4.map D.int)]++g5)=.ok (.bl (decide (Row.R rw4 3%8=k))) (h2++ [.lst (rw4.map D.int)]++g5):=λr k hr=>bF (aV (bP hr (aN ..) (Q.ix K5 3 (by omega))) (aN ..) (eX _ (by omega))) (aN ..) (GJ ..);generalize h2++ [.lst (rw4.map D.int)]++g5=h3 at ix3⊢;obtain⟨z,hz⟩:∃z,z=Str.join bkS V:=⟨_,rfl⟩;rw[<- hz] at M0⊢;have ad:∀(x y:Str),x.length<=20000->y.length<=20000->dB .add (.str x) (.str y) h3=.ok (.str (x++y)) h3:=λx y hx hy=>if_pos (Nat.le_trans (show x.length+y.length<=40000 by omega) (by decide))
 have s45:∃(z':Str)(V':List Str),Made z' V'/\∀Z:Ss,bO G cl W (.cons (.iff (.cmp .eq (.bin .mod (.ix (.var 2) (.int 3)) (.int 8)) (.int 1)) (.cons (.asg (.nm 3) (.bin .add (.var 3) (.str " "))) .nil) .nil) (.cons (.iff (.cmp .eq (.bin .mod (.ix (.var 2) (.int 3)) (.int 8)) (.int 2)) (.cons (.asg (.nm 3) (.bin .add (.str " ") (.var 3))) .nil) .nil) Z)) [some (.ref 0),some (.ref n),some (.ref h2.length),some (.str z),none,none,none] h3=bO G cl W Z [some (.ref 0),some (.ref n),some (.ref h2.length),some (.str z'),none,none,none] h3:=by
  by_cases w1:Row.R rw4 3%8=1
  ·refine⟨z++bkS,V++ [Str.ofString ""],?_,λZ=>?_⟩
   ·rw[hz, <- xB ne];refine oX (by simp) (by rw[List.length_append];show V.length+1<=52;omega) λx hx=>?_;rcases List.mem_append.mp hx with hx|hx
    ·exact wd x hx
    ·rw[List.mem_singleton.mp hx];exact yH
   ·rw[aL (r':= [some (.ref 0),some (.ref n),some (.ref h2.length),some (.str (z++bkS)),none,none,none]) (h':=h3) (by
     rw[bU (by rw[ix3 _ _ rfl,decide_eq_true w1])];exact(aL (bZ (aV (bR rfl) (bL ..) (ad z bkS M0.le (by decide))))).trans (aT ..)),aL (by rw[bJ (by rw[ix3 _ _ rfl,decide_eq_false (by omega)]),aT])]
  by_cases w2:Row.R rw4 3%8=2
  ·refine⟨bkS++z,Str.ofString ""::V,?_,λZ=>?_⟩
   ·rw[hz, <- sX ne];refine oX (by simp) (by rw[List.length_cons];omega) λx hx=>?_;rcases List.mem_cons.mp hx with rfl|hx
    ·exact yH
    ·exact wd x hx
   ·rw[aL (by rw[bJ (by rw[ix3 _ _ rfl,decide_eq_false w1]),aT]),aL (r':= [some (.ref 0),some (.ref n),some (.ref h2.length),some (.str (bkS++z)),none,none,none]) (h':=h3) (by
     rw[bU (by rw[ix3 _ _ rfl,decide_eq_true w2])];exact(aL (bZ (aV (bL ..) (bR rfl) (ad bkS z (by decide) M0.le)))).trans (aT ..))]
  ·exact⟨z,V,M0,λZ=>by rw[aL (by rw[bJ (by rw[ix3 _ _ rfl,decide_eq_false w1]),aT]),aL (by rw[bJ (by rw[ix3 _ _ rfl,decide_eq_false w2]),aT])]⟩
 obtain⟨z',V',M,s45⟩:=s45;rw[s45,aL (r':= [some (.ref 0),some (.ref n),some (.ref h2.length),some (.str z'),some (.bl false),none,none]) (h':=h3) (bZ (pG ..)),aL (r':= [some (.ref 0),some (.ref n),some (.ref h2.length),some (.str z'),some (.bl false),some .non,none]) (h':=h3) (bZ (II ..))];have hw5:∀x∈V',x.length<=500:=λx hx=>by have:=(M.wd x hx).1;omega
 have ml:=M.le;have mn:=M.ln;obtain⟨q1,q2⟩:=hr h3 z' (by omega) (by rw[M.sp];omega) (by rw[M.sp];exact hw5);rw[M.sp] at q1 q2
 have spE:∀(r:Ev)(h:Hh),r[3]? =some (some (.str z'))->ev G cl (.spl (.var 3) " ") r h=.ok (.ref h.length) (h++ [O.lst (V'.map D.str)]):=λr h r3=>by
  have:=LZ (G:=G) (cl:=cl) z' 32 (i:=3) (r:=r) (h:=h) (by omega) r3;rw[show Txt.split z' ⟨#[32]⟩=V' from M.sp] at this;exact this
 have dE:∀(r:Ev)(h:Hh),r[3]? =some (some (.str z'))->∃h',ev G cl (.not (.call 14 (.cons (.spl (.var 3) " ") .nil))) r h=.ok (.bl (!(zD V').isSome)) h':=λr h r3=>by
  obtain⟨h',e⟩:=hi (h++ [O.lst (V'.map D.str)]) h.length V' M.ne (bD _ _) (by omega) hw5;exact⟨h',jO (kN (dQ (spE r h r3)) e)⟩
 cases hq:zD V' with
 |none=>
  obtain⟨r',h4,e6⟩:=q2 hq
  have s7:xs G cl W (.tryx (.cons (.asgX (.nm 5) 6 (.cons (.var 3) .nil)) .nil) 0 (some 6) RZ) [some (.ref 0),some (.ref n),some (.ref h2.length),some (.str z'),some (.bl false),some .non,none] h3=.ok (.nx [some (.ref 0),some (.ref n),some (.ref h2.length),some (.str z'),some (.bl true),some .non,none]) h4:=by
   rw[GU,eZ (c:=1) (r':= [some (.ref 0),some (.ref n),some (.ref h2.length),some (.str z'),some (.bl false),some .non,none]) (h':=h4) (by rw[NM,dQ (bR rfl),cR,aC,e6,sZ,dA]),hc];rfl
  obtain⟨h5,e7⟩:=dE [some (.ref 0),some (.ref n),some (.ref h2.length),some (.str z'),some (.bl true),some .non,none] h4 rfl;rw[hq] at e7;exact⟨h5,by rw[aL s7,aU (by rw[bU e7,aU (bM (bR rfl))])];rfl⟩
 |some d'=>
  obtain⟨g6,e6⟩:=q1 d' hq;obtain⟨od',ed'⟩:=OJ hw5 (by omega) hq
  have s7:xs G cl W (.tryx (.cons (.asgX (.nm 5) 6 (.cons (.var 3) .nil)) .nil) 0 (some 6) RZ) [some (.ref 0),some (.ref n),some (.ref h2.length),some (.str z'),some (.bl false),some .non,none] h3=.ok (.nx [some (.ref 0),some (.ref n),some (.ref h2.length),some (.str z'),some (.bl false),some d'.d,none]) (h3++g6):=by
   rw[GU,aL (r':= [some (.ref 0),some (.ref n),some (.ref h2.length),some (.str z'),some (.bl false),some d'.d,none]) (h':=h3++g6) (by rw[NM,dQ (bR rfl),cR,aC,e6,AL,aC];rfl),aT];rfl
  obtain⟨h5,e7⟩:=dE [some (.ref 0),some (.ref n),some (.ref h2.length),some (.str z'),some (.bl false),some d'.d,none] (h3++g6) rfl;rw[hq] at e7;rw[aL s7,aL (by rw[bJ e7,aT])];obtain⟨n9,g9,e9,l9⟩:=hw h5 d' od';have e10:=spE [some (.ref 0),some (.ref n),some (.ref h2.length),some (.str z'),some (.bl false),some d'.d,none] (h5++g9) rfl;have e11:=hs n9 (h5++g9).length V' (h5++g9++ [O.lst (V'.map D.str)]) (by rw[ed'];exact bX _ _ l9) (bD _ _) (by omega);refine⟨h5++g9++ [O.lst (V'.map D.str)],?_⟩
  rw[aU (bM (d:=.bl true) (h':=h5++g9++ [O.lst (V'.map D.str)]) (by
   rw[iR,jO (bR (x:=.bl false) rfl),aC];show ev G cl _ _ _=_;exact kN (fP (QF (i:=5) rfl e9) e10) e11))]
  rfl
end
end Ng
end
section
namespace Pk24
open PySem L2 Ng
noncomputable def top(i:Nat):PySem.Stmt:=PySem.Challenge.pw_nightglass_k24_texts_that_write_no_deed.main.body.getD i (.Pass ⟨0,0,0,0⟩)
noncomputable def mtop(i k:Nat):PySem.Stmt:=EZ (top i) k
noncomputable def G:Gs:=⟨("consists_of"::"is_number"::"read_word"::"read_words"::"read_star"::"read_plate"::"read_deed"::"_law_draws"::"_law_same"::"_law_deed_words"::"_law_any_number"::"_law_any_deed"::"_law_is_name"::"_law_is_number"::"_law_is_deed"::"_law_spoilt"::"law":: []:List Str),[("LETTERS",.str "abcdefghijklmnopqrstuvwxyz"),("FIGURES",.str "0123456789"),("MOST_FIGURES",.int (100))],["GlassError","BadText"],[(0,0),(1,1),(1,0)],[],[],[],[],[1],[8]⟩
theorem gc0:G.csts[0]? =some (("LETTERS",.str "abcdefghijklmnopqrstuvwxyz"):Str×D):=rfl
theorem gc1:G.csts[1]? =some (("FIGURES",.str "0123456789"):Str×D):=rfl
theorem gc2:G.csts[2]? =some (("MOST_FIGURES",.int (100)):Str×D):=rfl
noncomputable def b0:Ss:=(.cons (.ret (.and (.cmp .ne (.var 0) (.str "")) (.blt .all (.cons (.comp (.nm 0) .st (.cons (.var 0) .nil) .nil (.cmp .inn (.var 0) (.var 1)) ["sign","signs"] [1]) .nil)))) .nil)
noncomputable def b1:Ss:=(.cons (.asg (.nm 1) (.ite (.stw (.var 0) "-") (.slZ (.var 0) (.int 1)) (.var 0))) (.cons (.iff (.or (.not (.call 0 (.cons (.var 1) (.cons (.gc 1) .nil)))) (.cmp .gt (.blt .len (.cons (.var 1) .nil)) (.gc 2))) (.cons (.ret (.bl false)) .nil) .nil) (.cons (.ret (.or (.cmp .eq (.var 0) (.str "0")) (.not (.stw (.var 1) "0")))) .nil)))
noncomputable def b2:Ss:=(.cons (.iff (.and (.cmp .eq (.var 1) (.str "name")) (.call 0 (.cons (.var 0) (.cons (.gc 0) .nil)))) (.cons (.ret (.var 0)) .nil) .nil) (.cons (.iff (.and (.cmp .eq (.var 1) (.str "number")) (.call 1 (.cons (.var 0) .nil))) (.cons (.ret (.itx (.var 0))) .nil) .nil) (.cons (.rais 1 Str.empty) .nil)))
noncomputable def b3:Ss:=(.cons (.iff (.cmp .ne (.blt .len (.cons (.var 0) .nil)) (.blt .len (.cons (.var 1) .nil))) (.cons (.rais 1 Str.empty) .nil) .nil) (.cons (.rtX (.comp (.tp [0,1]) .zp (.cons (.var 0) (.cons (.var 1) .nil)) 2 (.cons (.var 0) (.cons (.var 1) .nil)) ["word","kind"] [])) .nil))
noncomputable def b4:Ss:=(.cons (.rtX (.tupc (.call 3 (.cons (.spl (.var 0) ",") (.cons (.tup (.cons (.str "number") (.cons (.str "number") (.cons (.str "number") .nil)))) .nil))))) .nil)
noncomputable def b5:Ss:=(.cons (.asX [1,2,3,4] (.call 3 (.cons (.slU (.var 0) (.int 4)) (.cons (.tup (.cons (.str "name") (.cons (.str "number") (.cons (.str "number") (.cons (.str "number") .nil))))) .nil)))) (.cons (.rtX (.tpl (.cons (.var 1) (.cons (.var 2) (.cons (.var 3) (.cons (.var 4) .nil)))) (.tupc (.comp (.nm 0) .sq (.cons (.slL (.var 0) (.int 4)) .nil) 4 (.cons (.var 0) .nil) ["word"] [])))) .nil))
noncomputable def b6:Ss:=(.cons (.asgS 1 2 (.spl (.var 0) " ")) (.cons (.iff (.cmp .eq (.var 1) (.str "put")) (.cons (.rtX (.cat (.tup (.cons (.str "put") .nil)) (.call 5 (.cons (.var 2) .nil)))) .nil) .nil) (.cons (.iff (.cmp .eq (.var 1) (.str "drop")) (.cons (.rtX (.tpl (.cons (.str "drop") .nil) (.ix (.call 3 (.cons (.var 2) (.cons (.tup (.cons (.str "name") .nil)) .nil))) (.int 0)))) .nil) .nil) (.cons (.iff (.cmp .eq (.var 1) (.str "tie")) (.cons (.asX [3,4,5,6,7] (.call 3 (.cons (.var 2) (.cons (.tup (.cons (.str "name") (.cons (.str "name") (.cons (.str "number") (.cons (.str "number") (.cons (.str "number") .nil)))))) .nil)))) (.cons (.ret (.tup (.cons (.str "tie") (.cons (.var 3) (.cons (.var 4) (.cons (.tup (.cons (.var 5) (.cons (.var 6) (.cons (.var 7) .nil)))) .nil)))))) .nil)) .nil) (.cons (.iff (.cmp .eq (.var 1) (.str "untie")) (.cons (.rtX (.tpl (.cons (.str "untie") .nil) (.ix (.call 3 (.cons (.var 2) (.cons (.tup (.cons (.str "number") .nil)) .nil))) (.int 0)))) .nil) .nil) (.cons (.rais 1 Str.empty) .nil))))))
noncomputable def b7:Ss:=(.cons (.asg (.nm 3) (.bin .add (.bin .mul (.int 7) (.var 1)) (.int 1))) (.cons (.iff (.cmp .lt (.var 1) (.blt .len (.cons (.var 0) .nil))) (.cons (.asg (.nm 3) (.ix (.var 0) (.var 1))) .nil) (.cons (.iff (.cmp .gt (.blt .len (.cons (.var 0) .nil)) (.int 0)) (.cons (.asg (.nm 3) (.bin .add (.bin .add (.bin .mod (.ix (.var 0) (.bin .mod (.var 1) (.blt .len (.cons (.var 0) .nil)))) (.int 999983)) (.bin .mul (.bin .mul (.var 1) (.var 1)) (.int 97))) (.int 1))) .nil) .nil) .nil)) (.cons (.asg (.nm 4) (.bin .add (.bin .add (.bin .mod (.var 3) (.int 999983)) (.bin .mul (.int 31) (.var 1))) (.int 5))) (.cons (.asg (.nm 5) (.lst .nil)) (.cons (.iff (.cmp .ge (.var 3) (.bin .pow (.int 10) (.int 18))) (.cons (.whl (.and (.cmp .gt (.var 3) (.int 0)) (.cmp .lt (.blt .len (.cons (.var 5) .nil)) (.var 2))) (.cons (.ex (.app (.var 5) (.bin .mod (.var 3) (.int 1013)))) (.cons (.asg (.nm 3) (.bin .fdiv (.var 3) (.int 1013))) .nil))) .nil) .nil) (.cons (.whl (.cmp .lt (.blt .len (.cons (.var 5) .nil)) (.var 2)) (.cons (.asg (.nm 6) (.bin .add (.blt .len (.cons (.var 5) .nil)) (.int 1))) (.cons (.asg (.nm 4) (.bin .mod (.bin .add (.bin .add (.bin .mul (.var 4) (.int 48271)) (.bin .mul (.bin .mul (.var 6) (.var 6)) (.int 6133))) (.int 17)) (.int 2147483647))) (.cons (.ex (.app (.var 5) (.bin .mod (.bin .mod (.bin .mul (.bin .mod (.var 4) (.int 65521)) (.bin .add (.bin .mod (.bin .fdiv (.var 4) (.int 65521)) (.int 32749)) (.int 1))) (.int 1000003)) (.int 1013)))) .nil)))) (.cons (.ret (.var 5)) .nil)))))))
noncomputable def b8:Ss:=(.cons (.iff (.blt .isinst (.cons (.var 1) (.cons (.tup (.cons (.ty .tuple) (.cons (.ty .list) .nil))) .nil))) (.cons (.iff (.or (.cmp .ne (.blt .isinst (.cons (.var 1) (.cons (.ty .tuple) .nil))) (.blt .isinst (.cons (.var 0) (.cons (.ty .tuple) .nil)))) (.cmp .ne (.blt .isinst (.cons (.var 1) (.cons (.ty .list) .nil))) (.blt .isinst (.cons (.var 0) (.cons (.ty .list) .nil))))) (.cons (.ret (.bl false)) .nil) .nil) (.cons (.iff (.cmp .ne (.blt .len (.cons (.var 0) .nil)) (.blt .len (.cons (.var 1) .nil))) (.cons (.ret (.bl false)) .nil) .nil) (.cons (.forr (.nm 2) (.r1 (.blt .len (.cons (.var 1) .nil))) (.cons (.iff (.not (.call 8 (.cons (.ix (.var 0) (.var 2)) (.cons (.ix (.var 1) (.var 2)) .nil)))) (.cons (.ret (.bl false)) .nil) .nil) .nil)) (.cons (.ret (.bl true)) .nil)))) .nil) (.cons (.iff (.cmp .is (.var 1) .non) (.cons (.ret (.cmp .is (.var 0) .non)) .nil) .nil) (.cons (.iff (.or (.blt .isinst (.cons (.var 1) (.cons (.ty .bool) .nil))) (.blt .isinst (.cons (.var 0) (.cons (.ty .bool) .nil)))) (.cons (.ret (.and (.blt .isinst (.cons (.var 1) (.cons (.ty .bool) .nil))) (.and (.blt .isinst (.cons (.var 0) (.cons (.ty .bool) .nil))) (.cmp .eq (.var 0) (.var 1))))) .nil) .nil) (.cons (.iff (.blt .isinst (.cons (.var 1) (.cons (.ty .int) .nil))) (.cons (.ret (.and (.blt .isinst (.cons (.var 0) (.cons (.ty .int) .nil))) (.cmp .eq (.var 0) (.var 1)))) .nil) .nil) (.cons (.ret (.and (.blt .isinst (.cons (.var 0) (.cons (.ty .str) .nil))) (.cmp .eq (.var 0) (.var 1)))) .nil)))))
noncomputable def b9:Ss:=(.cons (.iff (.cmp .eq (.ix (.var 0) (.int 0)) (.str "put")) (.cons (.asc 1 (.comp (.nm 0) .sq (.cons (.slT (.var 0) (.int 5)) .nil) .nil (.sof (.var 0)) ["_law_part"] [])) (.cons (.ret (.bin .add (.var 1) (.comp (.nm 0) .sq (.cons (.ix (.var 0) (.int 5)) .nil) .nil (.bin .add (.bin .add (.bin .add (.bin .add (.sof (.ix (.var 0) (.int 0))) (.str ",")) (.sof (.ix (.var 0) (.int 1)))) (.str ",")) (.sof (.ix (.var 0) (.int 2)))) ["_law_star"] []))) .nil)) .nil) (.cons (.iff (.cmp .eq (.ix (.var 0) (.int 0)) (.str "tie")) (.cons (.ret (.comp (.nm 0) .sq (.cons (.bin .add (.slT (.var 0) (.int 3)) (.ix (.var 0) (.int 3))) .nil) .nil (.sof (.var 0)) ["_law_part"] [])) .nil) .nil) (.cons (.ret (.comp (.nm 0) .sq (.cons (.var 0) .nil) .nil (.sof (.var 0)) ["_law_part"] [])) .nil)))
noncomputable def WL:Ss:=(.cons (.iff (.cmp .eq (.bin .mod (.var 0) (.int 4)) (.int 0)) (.cons (.ret (.bin .sub (.bin .mod (.bin .fdiv (.var 0) (.int 4)) (.int 21)) (.int 10))) .nil) .nil) (.cons (.iff (.cmp .eq (.bin .mod (.var 0) (.int 4)) (.int 1)) (.cons (.ret (.bin .mul (.bin .sub (.var 1) (.int 506)) (.itx (.bin .add (.str "1") (.rep (.str "0") (.bin .mod (.bin .fdiv (.var 0) (.int 4)) (.int 97))))))) .nil) .nil) (.cons (.ret (.bin .sub (.bin .add (.bin .mul (.var 0) (.int 1013)) (.var 1)) (.int 513000))) .nil)))
noncomputable def WK:Ss:=(.cons (.asg (.nm 1) (.str "abcdefghijklmnopqrstuvwxyz")) (.cons (.asg (.nm 2) (.join "" (.comp (.nm 0) .r1 (.cons (.bin .add (.int 1) (.bin .mod (.ix (.var 0) (.int 3)) (.int 12))) .nil) .nil (.ix (.var 1) (.bin .mod (.bin .add (.ix (.var 2) (.int 1)) (.bin .mul (.var 0) (.ix (.var 2) (.int 2)))) (.int 26))) ["_law_k","_law_letters","_law_d"] [1,0]))) (.cons (.asg (.nm 3) (.join "" (.comp (.nm 0) .r1 (.cons (.bin .add (.int 1) (.bin .mod (.ix (.var 0) (.int 4)) (.int 9))) .nil) .nil (.ix (.var 1) (.bin .mod (.bin .add (.ix (.var 2) (.int 2)) (.bin .mul (.var 0) (.ix (.var 2) (.int 1)))) (.int 26))) ["_law_k","_law_letters","_law_d"] [1,0]))) (.cons (.asc 4 (.comp (.nm 0) .r2 (.cons (.int 5) (.cons (.int 26) .nil)) .nil (.call 10 (.cons (.ix (.var 1) (.var 0)) (.cons (.ix (.var 1) (.bin .add (.var 0) (.int 1))) .nil))) ["_law_k","_law_d"] [0])) (.cons (.iff (.cmp .eq (.bin .mod (.ix (.var 0) (.int 0)) (.int 4)) (.int 0)) (.cons (.ret (.tup (.cons (.str "drop") (.cons (.var 2) .nil)))) .nil) .nil) (.cons (.iff (.cmp .eq (.bin .mod (.ix (.var 0) (.int 0)) (.int 4)) (.int 1)) (.cons (.ret (.tup (.cons (.str "untie") (.cons (.ix (.var 4) (.int 0)) .nil)))) .nil) .nil) (.cons (.iff (.cmp .eq (.bin .mod (.ix (.var 0) (.int 0)) (.int 4)) (.int 2)) (.cons (.ret (.tup (.cons (.str "tie") (.cons (.var 2) (.cons (.var 3) (.cons (.tup (.cons (.ix (.var 4) (.int 0)) (.cons (.ix (.var 4) (.int 1)) (.cons (.ix (.var 4) (.int 2)) .nil)))) .nil)))))) .nil) .nil) (.cons (.asg (.nm 5) (.lst .nil)) (.cons (.forr (.nm 6) (.r1 (.bin .mod (.bin .fdiv (.ix (.var 0) (.int 0)) (.int 4)) (.int 11))) (.cons (.ex (.app (.var 5) (.tup (.cons (.ix (.var 4) (.bin .mod (.bin .mul (.int 3) (.var 6)) (.int 21))) (.cons (.ix (.var 4) (.bin .mod (.bin .add (.bin .mul (.int 3) (.var 6)) (.int 1)) (.int 21))) (.cons (.ix (.var 4) (.bin .mod (.bin .add (.bin .mul (.int 3) (.var 6)) (.int 5)) (.int 21))) .nil)))))) .nil)) (.cons (.ret (.tup (.cons (.str "put") (.cons (.var 2) (.cons (.ix (.var 4) (.int 0)) (.cons (.ix (.var 4) (.int 1)) (.cons (.ix (.var 4) (.int 2)) (.cons (.blt .tup (.cons (.var 5) .nil)) .nil)))))))) .nil))))))))))
noncomputable def WJ:Ss:=(.cons (.forr (.nm 1) (.tx (.var 0)) (.cons (.iff (.cmp .notin (.var 1) (.str "abcdefghijklmnopqrstuvwxyz")) (.cons (.ret (.bl false)) .nil) .nil) .nil)) (.cons (.ret (.cmp .ne (.var 0) (.str ""))) .nil))
noncomputable def WI:Ss:=(.cons (.asg (.nm 1) (.var 0)) (.cons (.iff (.cmp .eq (.slA (.var 0) (.int 1)) (.str "-")) (.cons (.asg (.nm 1) (.slZ (.var 0) (.int 1))) .nil) .nil) (.cons (.forr (.nm 2) (.tx (.var 1)) (.cons (.iff (.cmp .notin (.var 2) (.str "0123456789")) (.cons (.ret (.bl false)) .nil) .nil) .nil)) (.cons (.iff (.or (.cmp .eq (.var 1) (.str "")) (.cmp .gt (.blt .len (.cons (.var 1) .nil)) (.int 100))) (.cons (.ret (.bl false)) .nil) .nil) (.cons (.ret (.or (.cmp .ne (.ix (.var 1) (.int 0)) (.str "0")) (.cmp .eq (.var 0) (.str "0")))) .nil)))))
noncomputable def WH:Ss:=(.cons (.asg (.nm 1) (.disp ["drop","untie","tie","put"] (.cons (.str "n") (.cons (.str "i") (.cons (.str "nniii") (.cons (.bin .add (.str "niii") (.rep (.str "s") (.blt .max (.cons (.int 0) (.cons (.bin .sub (.blt .len (.cons (.var 0) .nil)) (.int 5)) .nil))))) .nil)))))) (.cons (.iff (.or (.cmp .notin (.ix (.var 0) (.int 0)) (.var 1)) (.cmp .ne (.bin .sub (.blt .len (.cons (.var 0) .nil)) (.int 1)) (.blt .len (.cons (.ix (.var 1) (.ix (.var 0) (.int 0))) .nil)))) (.cons (.ret (.bl false)) .nil) .nil) (.cons (.forr (.nm 2) (.r2 (.int 1) (.blt .len (.cons (.var 0) .nil))) (.cons (.asg (.nm 3) (.ix (.ix (.var 1) (.ix (.var 0) (.int 0))) (.bin .sub (.var 2) (.int 1)))) (.cons (.iff (.or (.and (.cmp .eq (.var 3) (.str "n")) (.not (.call 12 (.cons (.ix (.var 0) (.var 2)) .nil)))) (.and (.cmp .eq (.var 3) (.str "i")) (.not (.call 13 (.cons (.ix (.var 0) (.var 2)) .nil))))) (.cons (.ret (.bl false)) .nil) .nil) (.cons (.iff (.cmp .eq (.var 3) (.str "s")) (.cons (.asg (.nm 4) (.spl (.ix (.var 0) (.var 2)) ",")) (.cons (.iff (.or (.cmp .ne (.blt .len (.cons (.var 4) .nil)) (.int 3)) (.comp (.nm 0) .sq (.cons (.var 4) .nil) (.cons (.not (.call 13 (.cons (.var 0) .nil))) .nil) (.var 0) ["_law_part"] [])) (.cons (.ret (.bl false)) .nil) .nil) .nil)) .nil) .nil)))) (.cons (.ret (.bl true)) .nil))))
noncomputable def WG:Ss:=(.cons (.asg (.nm 2) (.bin .mod (.ix (.var 1) (.int 1)) (.blt .len (.cons (.var 0) .nil)))) (.cons (.asg (.nm 3) (.lst (.cons (.str "") (.cons (.str "aB") (.cons (.str "a1") (.cons (.str "00") (.cons (.str "07") (.cons (.str "+1") (.cons (.str "-0") (.cons (.str "-") (.cons (.bin .add (.str "1") (.rep (.str "0") (.int 100))) (.cons (.bin .add (.str "-") (.rep (.str "9") (.int 101))) (.cons (.str "1,2") (.cons (.str "1,2,3,4") (.cons (.str "1,,3") .nil))))))))))))))) (.cons (.asg (.nm 3) (.bin .add (.var 3) (.lst (.cons (.str "1,2,03") (.cons (.str "put") (.cons (.str "tie") (.cons (.str "drop") (.cons (.str "untie") (.cons (.str "undo") (.cons (.str "Put") (.cons (.bin .add (.str "-") (.rep (.str "7") (.int 100))) (.cons (.str "12") (.cons (.str "abc") (.cons (.str "1,2,3") .nil)))))))))))))) (.cons (.asg (.nm 3) (.bin .add (.var 3) (.lst (.cons (.str "--1") (.cons (.str "1-") (.cons (.str "a-b") (.cons (.str "{") (.cons (.str "1.0") (.cons (.str "1_0") .nil))))))))) (.cons (.asg (.nm 4) (.bin .mod (.ix (.var 1) (.int 0)) (.int 6))) (.cons (.iff (.cmp .eq (.var 4) (.int 0)) (.cons (.ret (.bin .add (.slU (.var 0) (.var 2)) (.slL (.var 0) (.bin .add (.var 2) (.int 1))))) .nil) .nil) (.cons (.iff (.cmp .eq (.var 4) (.int 1)) (.cons (.ret (.bin .add (.bin .add (.slU (.var 0) (.var 2)) (.lst (.cons (.ix (.var 0) (.var 2)) .nil))) (.slL (.var 0) (.var 2)))) .nil) .nil) (.cons (.iff (.cmp .eq (.var 4) (.int 2)) (.cons (.ret (.bin .add (.bin .add (.slU (.var 0) (.var 2)) (.lst (.cons (.bin .add (.ix (.var 0) (.var 2)) (.ix (.lst (.cons (.str "0") (.cons (.str "a") (.cons (.str "-") (.cons (.str ",1") (.cons (.str "A") .nil)))))) (.bin .mod (.ix (.var 1) (.int 2)) (.int 5)))) .nil))) (.slL (.var 0) (.bin .add (.var 2) (.int 1))))) .nil) .nil) (.cons (.iff (.cmp .eq (.var 4) (.int 3)) (.cons (.ret (.bin .add (.bin .add (.slU (.var 0) (.var 2)) (.lst (.cons (.ix (.var 3) (.bin .mod (.ix (.var 1) (.int 2)) (.int 30))) .nil))) (.slL (.var 0) (.var 2)))) .nil) .nil) (.cons (.ret (.bin .add (.bin .add (.slU (.var 0) (.var 2)) (.lst (.cons (.ix (.var 3) (.bin .mod (.ix (.var 1) (.int 2)) (.int 30))) .nil))) (.slL (.var 0) (.bin .add (.var 2) (.int 1))))) .nil))))))))))
noncomputable def WF:Ss:=(.cons (.asg (.nm 1) (.call 9 (.cons (.call 11 (.cons (.call 7 (.cons (.var 0) (.cons (.int 0) (.cons (.int 27) .nil)))) .nil)) .nil))) (.cons (.asg (.nm 2) (.call 7 (.cons (.var 0) (.cons (.int 1) (.cons (.int 4) .nil))))) (.cons (.asg (.nm 3) (.join " " (.call 15 (.cons (.var 1) (.cons (.var 2) .nil))))) (.cons (.iff (.cmp .eq (.bin .mod (.ix (.var 2) (.int 3)) (.int 8)) (.int 1)) (.cons (.asg (.nm 3) (.bin .add (.var 3) (.str " "))) .nil) .nil) (.cons (.iff (.cmp .eq (.bin .mod (.ix (.var 2) (.int 3)) (.int 8)) (.int 2)) (.cons (.asg (.nm 3) (.bin .add (.str " ") (.var 3))) .nil) .nil) (.cons (.asg (.nm 4) (.bl false)) (.cons (.asg (.nm 5) .non) (.cons (.tryx (.cons (.asgX (.nm 5) 6 (.cons (.var 3) .nil)) .nil) 0 (some 6) [.bl 4 (.and (.isx 1) (.and .isv (.sam 8)))]) (.cons (.iff (.not (.call 14 (.cons (.spl (.var 3) " ") .nil))) (.cons (.ret (.var 4)) .nil) .nil) (.cons (.ret (.and (.not (.var 4)) (.call 8 (.cons (.call 9 (.cons (.var 5) .nil)) (.cons (.spl (.var 3) " ") .nil))))) .nil))))))))))
noncomputable def T:Nat->Option Fc
 |0=>some ⟨2,2,b0⟩
 |1=>some ⟨1,2,b1⟩
 |2=>some ⟨2,2,b2⟩
 |3=>some ⟨2,2,b3⟩
 |4=>some ⟨1,1,b4⟩
 |5=>some ⟨1,5,b5⟩
 |6=>some ⟨1,8,b6⟩
 |7=>some ⟨3,7,b7⟩
 |8=>some ⟨2,3,b8⟩
 |9=>some ⟨1,2,b9⟩
 |10=>some ⟨2,2,WL⟩
 |11=>some ⟨1,7,WK⟩
 |12=>some ⟨1,2,WJ⟩
 |13=>some ⟨1,3,WI⟩
 |14=>some ⟨1,5,WH⟩
 |15=>some ⟨2,5,WG⟩
 |16=>some ⟨1,7,WF⟩
 |_=>none
theorem sc0:FnScope ["word","signs"] ["word","signs"] (aE (top 7)):=⟨rfl,rfl,rfl,by decide+kernel,rfl,by decide+kernel,by decide+kernel⟩
set_option maxHeartbeats 0 in
theorem ck0:iF ["word","signs"] (aE (top 7)) G b0 (aP (top 7)):=(aD (aX (eG (aQ rfl (aA rfl (by decide+kernel)) aI) (bC (by decide+kernel) (aB rfl (gE (eW (by decide+kernel)) rfl (by decide+kernel) (PL (aA rfl (by decide+kernel))) fX (aQ rfl (aA rfl (by decide+kernel)) (aA rfl (by decide+kernel)))) aJ)))) aG)
theorem sc1:FnScope ["word","figures"] ["word"] (aE (top 8)):=⟨rfl,rfl,rfl,by decide+kernel,rfl,by decide+kernel,by decide+kernel⟩
set_option maxHeartbeats 0 in
theorem ck1:iF ["word","figures"] (aE (top 8)) G b1 (aP (top 8)):=(aD (bA rfl (by decide+kernel) rfl (MM (BO rfl (aA rfl (by decide+kernel))) (BP (aA rfl (by decide+kernel)) aF) (aA rfl (by decide+kernel)))) (aD (aY (iU (gQ (cF rfl (by decide+kernel) (aB rfl (aA rfl (by decide+kernel)) (aB rfl (BS gc1 (by decide+kernel)) aJ)))) (aQ rfl (bC (by decide+kernel) (aB rfl (aA rfl (by decide+kernel)) aJ)) (BS gc2 (by decide+kernel)))) (aD (aX fR) aG) aG) (aD (aX (iU (aQ rfl (aA rfl (by decide+kernel)) aI) (gQ (BO rfl (aA rfl (by decide+kernel)))))) aG)))
theorem sc2:FnScope ["word","kind"] ["word","kind"] (aE (top 9)):=⟨rfl,rfl,rfl,by decide+kernel,rfl,by decide+kernel,by decide+kernel⟩
set_option maxHeartbeats 0 in
theorem ck2:iF ["word","kind"] (aE (top 9)) G b2 (aP (top 9)):=(aD (aY (eG (aQ rfl (aA rfl (by decide+kernel)) aI) (cF rfl (by decide+kernel) (aB rfl (aA rfl (by decide+kernel)) (aB rfl (BS gc0 (by decide+kernel)) aJ)))) (aD (aX (aA rfl (by decide+kernel))) aG) aG) (aD (aY (eG (aQ rfl (aA rfl (by decide+kernel)) aI) (cF rfl (by decide+kernel) (aB rfl (aA rfl (by decide+kernel)) aJ))) (aD (aX (BR (by decide+kernel) rfl (aA rfl (by decide+kernel)))) aG) aG) (aD (pK rfl (by decide+kernel)) aG)))
theorem sc3:FnScope ["words","kinds"] ["words","kinds"] (aE (top 10)):=⟨rfl,rfl,rfl,by decide+kernel,rfl,by decide+kernel,by decide+kernel⟩
set_option maxHeartbeats 0 in
theorem ck3:iF ["words","kinds"] (aE (top 10)) G b3 (aP (top 10)):=(aD (aY (aQ rfl (bC (by decide+kernel) (aB rfl (aA rfl (by decide+kernel)) aJ)) (bC (by decide+kernel) (aB rfl (aA rfl (by decide+kernel)) aJ))) (aD (pK rfl (by decide+kernel)) aG) aG) (aD (jQ (vP (eW (by decide+kernel)) rfl (by decide+kernel) (LO (by decide+kernel) (aB rfl (aA rfl (by decide+kernel)) (aB rfl (aA rfl (by decide+kernel)) aJ))) rfl (by decide+kernel) (aB rfl (aA rfl (by decide+kernel)) (aB rfl (aA rfl (by decide+kernel)) aJ)))) aG))
theorem sc4:FnScope ["word"] ["word"] (aE (top 11)):=⟨rfl,rfl,rfl,by decide+kernel,rfl,by decide+kernel,by decide+kernel⟩
set_option maxHeartbeats 0 in
theorem ck4:iF ["word"] (aE (top 11)) G b4 (aP (top 11)):=(aD (jQ (vO (by decide+kernel) rfl (gZ rfl (by decide+kernel) (aB rfl (pL rfl (aA rfl (by decide+kernel))) (aB rfl (dL (aB rfl aI (aB rfl aI (aB rfl aI aJ)))) aJ))))) aG)
theorem sc5:FnScope ["words","name","width","height","limit"] ["words"] (aE (top 12)):=⟨rfl,rfl,rfl,by decide+kernel,rfl,by decide+kernel,by decide+kernel⟩
set_option maxHeartbeats 0 in
theorem ck5:iF ["words","name","width","height","limit"] (aE (top 12)) G b5 (aP (top 12)):=(aD (BN (by decide+kernel) rfl (λ_=>rfl) (gZ rfl (by decide+kernel) (aB rfl (jS (aA rfl (by decide+kernel)) aF) (aB rfl (dL (aB rfl aI (aB rfl aI (aB rfl aI (aB rfl aI aJ))))) aJ)))) (aD (jQ (tM (gT rfl (aA rfl (by decide+kernel)) (gT rfl (aA rfl (by decide+kernel)) (gT rfl (aA rfl (by decide+kernel)) (gT rfl (aA rfl (by decide+kernel)) (sH rfl (vO (by decide+kernel) rfl (vP (eW (by decide+kernel)) rfl (by decide+kernel) (LP (jT (aA rfl (by decide+kernel)) aF)) rfl (by decide+kernel) (aB rfl (aA rfl (by decide+kernel)) aJ)))))))))) aG))
theorem sc6:FnScope ["text","word","rest","one","other","turn","right","up"] ["text"] (aE (top 13)):=⟨rfl,rfl,rfl,by decide+kernel,rfl,by decide+kernel,by decide+kernel⟩
set_option maxHeartbeats 0 in
theorem ck6:iF ["text","word","rest","one","other","turn","right","up"] (aE (top 13)) G b6 (aP (top 13)):=(aD (FW rfl rfl (by decide+kernel) rfl (λ_=>rfl) (pL rfl (aA rfl (by decide+kernel)))) (aD (aY (aQ rfl (aA rfl (by decide+kernel)) aI) (aD (jQ (MI (dL (aB rfl aI aJ)) (gZ rfl (by decide+kernel) (aB rfl (aA rfl (by decide+kernel)) aJ)))) aG) aG) (aD (aY (aQ rfl (aA rfl (by decide+kernel)) aI) (aD (jQ (tM (gT rfl aI (sH rfl (IP (λ_ _=>rfl) (gZ rfl (by decide+kernel) (aB rfl (aA rfl (by decide+kernel)) (aB rfl (dL (aB rfl aI aJ)) aJ))) aF))))) aG) aG) (aD (aY (aQ rfl (aA rfl (by decide+kernel)) aI) (aD (BN (by decide+kernel) rfl (λ_=>rfl) (gZ rfl (by decide+kernel) (aB rfl (aA rfl (by decide+kernel)) (aB rfl (dL (aB rfl aI (aB rfl aI (aB rfl aI (aB rfl aI (aB rfl aI aJ)))))) aJ)))) (aD (aX (dL (aB rfl aI (aB rfl (aA rfl (by decide+kernel)) (aB rfl (aA rfl (by decide+kernel)) (aB rfl (dL (aB rfl (aA rfl (by decide+kernel)) (aB rfl (aA rfl (by decide+kernel)) (aB rfl (aA rfl (by decide+kernel)) aJ)))) aJ)))))) aG)) aG) (aD (aY (aQ rfl (aA rfl (by decide+kernel)) aI) (aD (jQ (tM (gT rfl aI (sH rfl (IP (λ_ _=>rfl) (gZ rfl (by decide+kernel) (aB rfl (aA rfl (by decide+kernel)) (aB rfl (dL (aB rfl aI aJ)) aJ))) aF))))) aG) aG) (aD (pK rfl (by decide+kernel)) aG))))))
theorem sc7:FnScope ["_law_script","_law_at","_law_many","_law_cell","_law_seed","_law_row","_law_mark"] ["_law_script","_law_at","_law_many"] (aE (top 15)):=⟨rfl,rfl,rfl,by decide+kernel,rfl,by decide+kernel,by decide+kernel⟩
set_option maxHeartbeats 0 in
theorem ck7:iF ["_law_script","_law_at","_law_many","_law_cell","_law_seed","_law_row","_law_mark"] (aE (top 15)) G b7 (aP (top 15)):=(aD (bA rfl (by decide+kernel) rfl (aH (aH aF (aA rfl (by decide+kernel))) aF)) (aD (aY (aQ rfl (aA rfl (by decide+kernel)) (bC (by decide+kernel) (aB rfl (aA rfl (by decide+kernel)) aJ))) (aD (bA rfl (by decide+kernel) rfl (aW (λ_ _=>rfl) (aA rfl (by decide+kernel)) (aA rfl (by decide+kernel)))) aG) (aD (aY (aQ rfl (bC (by decide+kernel) (aB rfl (aA rfl (by decide+kernel)) aJ)) aF) (aD (bA rfl (by decide+kernel) rfl (aH (aH (aH (aW (λ_ _=>rfl) (aA rfl (by decide+kernel)) (aH (aA rfl (by decide+kernel)) (bC (by decide+kernel) (aB rfl (aA rfl (by decide+kernel)) aJ)))) aF) (aH (aH (aA rfl (by decide+kernel)) (aA rfl (by decide+kernel))) aF)) aF)) aG) aG) aG)) (aD (bA rfl (by decide+kernel) rfl (aH (aH (aH (aA rfl (by decide+kernel)) aF) (aH aF (aA rfl (by decide+kernel)))) aF)) (aD (bA rfl (by decide+kernel) rfl (fG aJ)) (aD (aY (aQ rfl (aA rfl (by decide+kernel)) (aH aF aF)) (aD (BK (eG (aQ rfl (aA rfl (by decide+kernel)) aF) (aQ rfl (bC (by decide+kernel) (aB rfl (aA rfl (by decide+kernel)) aJ)) (aA rfl (by decide+kernel)))) (aD (BL rfl (tO rfl rfl (aA rfl (by decide+kernel)) (aH (aA rfl (by decide+kernel)) aF))) (aD (bA rfl (by decide+kernel) rfl (aH (aA rfl (by decide+kernel)) aF)) aG))) aG) aG) (aD (BK (aQ rfl (bC (by decide+kernel) (aB rfl (aA rfl (by decide+kernel)) aJ)) (aA rfl (by decide+kernel))) (aD (bA rfl (by decide+kernel) rfl (aH (bC (by decide+kernel) (aB rfl (aA rfl (by decide+kernel)) aJ)) aF)) (aD (bA rfl (by decide+kernel) rfl (aH (aH (aH (aH (aA rfl (by decide+kernel)) aF) (aH (aH (aA rfl (by decide+kernel)) (aA rfl (by decide+kernel))) aF)) aF) aF)) (aD (BL rfl (tO rfl rfl (aA rfl (by decide+kernel)) (aH (aH (aH (aH (aA rfl (by decide+kernel)) aF) (aH (aH (aH (aA rfl (by decide+kernel)) aF) aF) aF)) aF) aF))) aG)))) (aD (aX (aA rfl (by decide+kernel))) aG)))))))
theorem sc8:FnScope ["_law_found","_law_due","_law_k"] ["_law_found","_law_due"] (aE (top 16)):=⟨rfl,rfl,rfl,by decide+kernel,rfl,by decide+kernel,by decide+kernel⟩
set_option maxHeartbeats 0 in
theorem ck8:iF ["_law_found","_law_due","_law_k"] (aE (top 16)) G b8 (aP (top 16)):=(aD (aY (bC (by decide+kernel) (aB rfl (aA rfl (by decide+kernel)) (aB rfl (dL (aB rfl (eV (by decide+kernel)) (aB rfl (eV (by decide+kernel)) aJ))) aJ))) (aD (aY (iU (aQ rfl (bC (by decide+kernel) (aB rfl (aA rfl (by decide+kernel)) (aB rfl (eV (by decide+kernel)) aJ))) (bC (by decide+kernel) (aB rfl (aA rfl (by decide+kernel)) (aB rfl (eV (by decide+kernel)) aJ)))) (aQ rfl (bC (by decide+kernel) (aB rfl (aA rfl (by decide+kernel)) (aB rfl (eV (by decide+kernel)) aJ))) (bC (by decide+kernel) (aB rfl (aA rfl (by decide+kernel)) (aB rfl (eV (by decide+kernel)) aJ))))) (aD (aX fR) aG) aG) (aD (aY (aQ rfl (bC (by decide+kernel) (aB rfl (aA rfl (by decide+kernel)) aJ)) (bC (by decide+kernel) (aB rfl (aA rfl (by decide+kernel)) aJ))) (aD (aX fR) aG) aG) (aD (vR (by decide+kernel) (by decide+kernel) rfl (bC (by decide+kernel) (aB rfl (aA rfl (by decide+kernel)) aJ)) (aD (aY (gQ (cF rfl (by decide+kernel) (aB rfl (aW (λ_ _=>rfl) (aA rfl (by decide+kernel)) (aA rfl (by decide+kernel))) (aB rfl (aW (λ_ _=>rfl) (aA rfl (by decide+kernel)) (aA rfl (by decide+kernel))) aJ)))) (aD (aX fR) aG) aG) aG)) (aD (aX fR) aG)))) aG) (aD (aY (aQ rfl (aA rfl (by decide+kernel)) tN) (aD (aX (aQ rfl (aA rfl (by decide+kernel)) tN)) aG) aG) (aD (aY (iU (bC (by decide+kernel) (aB rfl (aA rfl (by decide+kernel)) (aB rfl (eV (by decide+kernel)) aJ))) (bC (by decide+kernel) (aB rfl (aA rfl (by decide+kernel)) (aB rfl (eV (by decide+kernel)) aJ)))) (aD (aX (by first |exact vS (bC (by decide+kernel) (aB rfl (aA rfl (by decide+kernel)) (aB rfl (eV (by decide+kernel)) aJ))) (eG (bC (by decide+kernel) (aB rfl (aA rfl (by decide+kernel)) (aB rfl (eV (by decide+kernel)) aJ))) (aQ rfl (aA rfl (by decide+kernel)) (aA rfl (by decide+kernel))))|exact eG (bC (by decide+kernel) (aB rfl (aA rfl (by decide+kernel)) (aB rfl (eV (by decide+kernel)) aJ))) (eG (bC (by decide+kernel) (aB rfl (aA rfl (by decide+kernel)) (aB rfl (eV (by decide+kernel)) aJ))) (aQ rfl (aA rfl (by decide+kernel)) (aA rfl (by decide+kernel)))))) aG) aG) (aD (aY (bC (by decide+kernel) (aB rfl (aA rfl (by decide+kernel)) (aB rfl (eV (by decide+kernel)) aJ))) (aD (aX (eG (bC (by decide+kernel) (aB rfl (aA rfl (by decide+kernel)) (aB rfl (eV (by decide+kernel)) aJ))) (aQ rfl (aA rfl (by decide+kernel)) (aA rfl (by decide+kernel))))) aG) aG) (aD (aX (eG (bC (by decide+kernel) (aB rfl (aA rfl (by decide+kernel)) (aB rfl (eV (by decide+kernel)) aJ))) (aQ rfl (aA rfl (by decide+kernel)) (aA rfl (by decide+kernel))))) aG)))))
theorem sc9:FnScope ["_law_deed","_law_words"] ["_law_deed"] (aE (top 17)):=⟨rfl,rfl,rfl,by decide+kernel,rfl,by decide+kernel,by decide+kernel⟩
set_option maxHeartbeats 0 in
theorem ck9:iF ["_law_deed","_law_words"] (aE (top 17)) G b9 (aP (top 17)):=(aD (aY (aQ rfl (aW (λ_ _=>rfl) (aA rfl (by decide+kernel)) aF) aI) (aD (BM rfl (by decide+kernel) (by decide+kernel) (by decide+kernel) (eW (by decide+kernel)) rfl (by decide+kernel) (qZ (BQ (aA rfl (by decide+kernel)) aF)) fX (jR (by decide+kernel) rfl (aA rfl (by decide+kernel)))) (aD (aX (aH (aA rfl (by decide+kernel)) (gE (eW (by decide+kernel)) rfl (by decide+kernel) (qZ (aW (λ_ _=>rfl) (aA rfl (by decide+kernel)) aF)) fX (aH (aH (aH (aH (jR (by decide+kernel) rfl (aW (λ_ _=>rfl) (aA rfl (by decide+kernel)) aF)) aI) (jR (by decide+kernel) rfl (aW (λ_ _=>rfl) (aA rfl (by decide+kernel)) aF))) aI) (jR (by decide+kernel) rfl (aW (λ_ _=>rfl) (aA rfl (by decide+kernel)) aF)))))) aG)) aG) (aD (aY (aQ rfl (aW (λ_ _=>rfl) (aA rfl (by decide+kernel)) aF) aI) (aD (aX (gE (eW (by decide+kernel)) rfl (by decide+kernel) (qZ (aH (BQ (aA rfl (by decide+kernel)) aF) (aW (λ_ _=>rfl) (aA rfl (by decide+kernel)) aF))) fX (jR (by decide+kernel) rfl (aA rfl (by decide+kernel))))) aG) aG) (aD (aX (gE (eW (by decide+kernel)) rfl (by decide+kernel) (qZ (aA rfl (by decide+kernel))) fX (jR (by decide+kernel) rfl (aA rfl (by decide+kernel))))) aG)))
theorem TY:FnScope ["_law_one","_law_two"] ["_law_one","_law_two"] (aE (top 18)):=⟨rfl,rfl,rfl,by decide+kernel,rfl,by decide+kernel,by decide+kernel⟩
set_option maxHeartbeats 0 in
theorem WB:iF ["_law_one","_law_two"] (aE (top 18)) G WL (aP (top 18)):=(aD (aY (aQ rfl (aH (aA rfl (by decide+kernel)) aF) aF) (aD (aX (aH (aH (aH (aA rfl (by decide+kernel)) aF) aF) aF)) aG) aG) (aD (aY (aQ rfl (aH (aA rfl (by decide+kernel)) aF) aF) (aD (aX (aH (aH (aA rfl (by decide+kernel)) aF) (BR (by decide+kernel) rfl (aH aI (mP aI (aH (aH (aA rfl (by decide+kernel)) aF) aF)))))) aG) aG) (aD (aX (aH (aH (aH (aA rfl (by decide+kernel)) aF) (aA rfl (by decide+kernel))) aF)) aG)))
theorem TX:FnScope ["_law_d","_law_letters","_law_one","_law_other","_law_numbers","_law_stars","_law_k"] ["_law_d"] (aE (top 19)):=⟨rfl,rfl,rfl,by decide+kernel,rfl,by decide+kernel,by decide+kernel⟩
set_option maxHeartbeats 0 in
theorem WA:iF ["_law_d","_law_letters","_law_one","_law_other","_law_numbers","_law_stars","_law_k"] (aE (top 19)) G WK (aP (top 19)):=(aD (bA rfl (by decide+kernel) rfl aI) (aD (bA rfl (by decide+kernel) rfl (pM rfl rfl (gE (eW (by decide+kernel)) rfl (by decide+kernel) (HW (by decide+kernel) rfl (aH aF (aH (aW (λ_ _=>rfl) (aA rfl (by decide+kernel)) aF) aF))) fX (aW (λ_ _=>rfl) (aA rfl (by decide+kernel)) (aH (aH (aW (λ_ _=>rfl) (aA rfl (by decide+kernel)) aF) (aH (aA rfl (by decide+kernel)) (aW (λ_ _=>rfl) (aA rfl (by decide+kernel)) aF))) aF))))) (aD (bA rfl (by decide+kernel) rfl (pM rfl rfl (gE (eW (by decide+kernel)) rfl (by decide+kernel) (HW (by decide+kernel) rfl (aH aF (aH (aW (λ_ _=>rfl) (aA rfl (by decide+kernel)) aF) aF))) fX (aW (λ_ _=>rfl) (aA rfl (by decide+kernel)) (aH (aH (aW (λ_ _=>rfl) (aA rfl (by decide+kernel)) aF) (aH (aA rfl (by decide+kernel)) (aW (λ_ _=>rfl) (aA rfl (by decide+kernel)) aF))) aF))))) (aD (BM rfl (by decide+kernel) (by decide+kernel) (by decide+kernel) (eW (by decide+kernel)) rfl (by decide+kernel) (PM (by decide+kernel) rfl rfl aF aF) fX (cF rfl (by decide+kernel) (aB rfl (aW (λ_ _=>rfl) (aA rfl (by decide+kernel)) (aA rfl (by decide+kernel))) (aB rfl (aW (λ_ _=>rfl) (aA rfl (by decide+kernel)) (aH (aA rfl (by decide+kernel)) aF)) aJ)))) (aD (aY (aQ rfl (aH (aW (λ_ _=>rfl) (aA rfl (by decide+kernel)) aF) aF) aF) (aD (aX (dL (aB rfl aI (aB rfl (aA rfl (by decide+kernel)) aJ)))) aG) aG) (aD (aY (aQ rfl (aH (aW (λ_ _=>rfl) (aA rfl (by decide+kernel)) aF) aF) aF) (aD (aX (dL (aB rfl aI (aB rfl (aW (λ_ _=>rfl) (aA rfl (by decide+kernel)) aF) aJ)))) aG) aG) (aD (aY (aQ rfl (aH (aW (λ_ _=>rfl) (aA rfl (by decide+kernel)) aF) aF) aF) (aD (aX (dL (aB rfl aI (aB rfl (aA rfl (by decide+kernel)) (aB rfl (aA rfl (by decide+kernel)) (aB rfl (dL (aB rfl (aW (λ_ _=>rfl) (aA rfl (by decide+kernel)) aF) (aB rfl (aW (λ_ _=>rfl) (aA rfl (by decide+kernel)) aF) (aB rfl (aW (λ_ _=>rfl) (aA rfl (by decide+kernel)) aF) aJ)))) aJ)))))) aG) aG) (aD (bA rfl (by decide+kernel) rfl (fG aJ)) (aD (vR (by decide+kernel) (by decide+kernel) rfl (aH (aH (aW (λ_ _=>rfl) (aA rfl (by decide+kernel)) aF) aF) aF) (aD (BL rfl (tO rfl rfl (aA rfl (by decide+kernel)) (dL (aB rfl (aW (λ_ _=>rfl) (aA rfl (by decide+kernel)) (aH (aH aF (aA rfl (by decide+kernel))) aF)) (aB rfl (aW (λ_ _=>rfl) (aA rfl (by decide+kernel)) (aH (aH (aH aF (aA rfl (by decide+kernel))) aF) aF)) (aB rfl (aW (λ_ _=>rfl) (aA rfl (by decide+kernel)) (aH (aH (aH aF (aA rfl (by decide+kernel))) aF) aF)) aJ)))))) aG)) (aD (aX (dL (aB rfl aI (aB rfl (aA rfl (by decide+kernel)) (aB rfl (aW (λ_ _=>rfl) (aA rfl (by decide+kernel)) aF) (aB rfl (aW (λ_ _=>rfl) (aA rfl (by decide+kernel)) aF) (aB rfl (aW (λ_ _=>rfl) (aA rfl (by decide+kernel)) aF) (aB rfl (bC (by decide+kernel) (aB rfl (aA rfl (by decide+kernel)) aJ)) aJ)))))))) aG))))))))))
theorem TW:FnScope ["_law_word","_law_sign"] ["_law_word"] (aE (top 20)):=⟨rfl,rfl,rfl,by decide+kernel,rfl,by decide+kernel,by decide+kernel⟩
set_option maxHeartbeats 0 in
theorem VZ:iF ["_law_word","_law_sign"] (aE (top 20)) G WJ (aP (top 20)):=(aD (vQ (by decide+kernel) (λ_ _=>rfl) (aA rfl (by decide+kernel)) (aD (aY (aQ rfl (aA rfl (by decide+kernel)) aI) (aD (aX fR) aG) aG) aG)) (aD (aX (aQ rfl (aA rfl (by decide+kernel)) aI)) aG))
theorem TV:FnScope ["_law_word","_law_figures","_law_sign"] ["_law_word"] (aE (top 21)):=⟨rfl,rfl,rfl,by decide+kernel,rfl,by decide+kernel,by decide+kernel⟩
set_option maxHeartbeats 0 in
theorem VY:iF ["_law_word","_law_figures","_law_sign"] (aE (top 21)) G WI (aP (top 21)):=(aD (bA rfl (by decide+kernel) rfl (aA rfl (by decide+kernel))) (aD (aY (aQ rfl (MK (aA rfl (by decide+kernel)) aF) aI) (aD (bA rfl (by decide+kernel) rfl (BP (aA rfl (by decide+kernel)) aF)) aG) aG) (aD (vQ (by decide+kernel) (λ_ _=>rfl) (aA rfl (by decide+kernel)) (aD (aY (aQ rfl (aA rfl (by decide+kernel)) aI) (aD (aX fR) aG) aG) aG)) (aD (aY (iU (aQ rfl (aA rfl (by decide+kernel)) aI) (aQ rfl (bC (by decide+kernel) (aB rfl (aA rfl (by decide+kernel)) aJ)) aF)) (aD (aX fR) aG) aG) (aD (aX (iU (aQ rfl (aW (λ_ _=>rfl) (aA rfl (by decide+kernel)) aF) aI) (aQ rfl (aA rfl (by decide+kernel)) aI))) aG)))))
theorem TU:FnScope ["_law_words","_law_kinds","_law_k","_law_kind","_law_parts"] ["_law_words"] (aE (top 22)):=⟨rfl,rfl,rfl,by decide+kernel,rfl,by decide+kernel,by decide+kernel⟩
set_option maxHeartbeats 0 in
theorem VX:iF ["_law_words","_law_kinds","_law_k","_law_kind","_law_parts"] (aE (top 22)) G WH (aP (top 22)):=(aD (bA rfl (by decide+kernel) rfl (FZ (by exact kP aI (by exact kP aI (by exact kP aI (by exact kP (aH aI (mP aI (bC (by decide+kernel) (by exact aB rfl aF (by exact aB rfl (aH (bC (by decide+kernel) (by exact aB rfl (aA rfl (by decide+kernel)) aJ)) aF) aJ))))) JM)))))) (aD (aY (iU (aQ rfl (aW (λ_ _=>rfl) (aA rfl (by decide+kernel)) aF) (aA rfl (by decide+kernel))) (aQ rfl (aH (bC (by decide+kernel) (by exact aB rfl (aA rfl (by decide+kernel)) aJ)) aF) (bC (by decide+kernel) (by exact aB rfl (aW (λ_ _=>rfl) (aA rfl (by decide+kernel)) (aW (λ_ _=>rfl) (aA rfl (by decide+kernel)) aF)) aJ)))) (aD (aX fR) aG) aG) (aD (FU (by decide+kernel) (by decide+kernel) rfl rfl aF (bC (by decide+kernel) (by exact aB rfl (aA rfl (by decide+kernel)) aJ)) (aD (bA rfl (by decide+kernel) rfl (aW (λ_ _=>rfl) (aW (λ_ _=>rfl) (aA rfl (by decide+kernel)) (aW (λ_ _=>rfl) (aA rfl (by decide+kernel)) aF)) (aH (aA rfl (by decide+kernel)) aF))) (aD (aY (iU (eG (aQ rfl (aA rfl (by decide+kernel)) aI) (gQ (cF rfl (by decide+kernel) (by exact aB rfl (aW (λ_ _=>rfl) (aA rfl (by decide+kernel)) (aA rfl (by decide+kernel))) aJ)))) (eG (aQ rfl (aA rfl (by decide+kernel)) aI) (gQ (cF rfl (by decide+kernel) (by exact aB rfl (aW (λ_ _=>rfl) (aA rfl (by decide+kernel)) (aA rfl (by decide+kernel))) aJ))))) (aD (aX fR) aG) aG) (aD (aY (aQ rfl (aA rfl (by decide+kernel)) aI) (aD (bA rfl (by decide+kernel) rfl (FY (λ_=>rfl) rfl (aW (λ_ _=>rfl) (aA rfl (by decide+kernel)) (aA rfl (by decide+kernel))))) (aD (aY (iU (aQ rfl (bC (by decide+kernel) (by exact aB rfl (aA rfl (by decide+kernel)) aJ)) aF) (gE (eW (by decide+kernel)) rfl (by decide+kernel) (qZ (aA rfl (by decide+kernel))) (DK (gQ (cF rfl (by decide+kernel) (by exact aB rfl (aA rfl (by decide+kernel)) aJ))) fX) (aA rfl (by decide+kernel)))) (aD (aX fR) aG) aG) aG)) aG) aG)))) (aD (aX fR) aG))))
theorem TR:FnScope ["_law_words","_law_d","_law_at","_law_odd","_law_way"] ["_law_words","_law_d"] (aE (top 23)):=⟨rfl,rfl,rfl,by decide+kernel,rfl,by decide+kernel,by decide+kernel⟩
set_option maxHeartbeats 0 in
theorem VW:iF ["_law_words","_law_d","_law_at","_law_odd","_law_way"] (aE (top 23)) G WG (aP (top 23)):=(aD (bA rfl (by decide+kernel) rfl (aH (aW (λ_ _=>rfl) (aA rfl (by decide+kernel)) aF) (bC (by decide+kernel) (by exact aB rfl (aA rfl (by decide+kernel)) aJ)))) (aD (bA rfl (by decide+kernel) rfl (fG (by exact aB rfl aI (by exact aB rfl aI (by exact aB rfl aI (by exact aB rfl aI (by exact aB rfl aI (by exact aB rfl aI (by exact aB rfl aI (by exact aB rfl aI (by exact aB rfl (aH aI (mP aI aF)) (by exact aB rfl (aH aI (mP aI aF)) (by exact aB rfl aI (by exact aB rfl aI (by exact aB rfl aI aJ))))))))))))))) (aD (bA rfl (by decide+kernel) rfl (aH (aA rfl (by decide+kernel)) (fG (by exact aB rfl aI (by exact aB rfl aI (by exact aB rfl aI (by exact aB rfl aI (by exact aB rfl aI (by exact aB rfl aI (by exact aB rfl aI (by exact aB rfl (aH aI (mP aI aF)) (by exact aB rfl aI (by exact aB rfl aI (by exact aB rfl aI aJ)))))))))))))) (aD (bA rfl (by decide+kernel) rfl (aH (aA rfl (by decide+kernel)) (fG (by exact aB rfl aI (by exact aB rfl aI (by exact aB rfl aI (by exact aB rfl aI (by exact aB rfl aI (by exact aB rfl aI aJ))))))))) (aD (bA rfl (by decide+kernel) rfl (aH (aW (λ_ _=>rfl) (aA rfl (by decide+kernel)) aF) aF)) (aD (aY (aQ rfl (aA rfl (by decide+kernel)) aF) (aD (aX (aH (jS (aA rfl (by decide+kernel)) (aA rfl (by decide+kernel))) (jT (aA rfl (by decide+kernel)) (aH (aA rfl (by decide+kernel)) aF)))) aG) aG) (aD (aY (aQ rfl (aA rfl (by decide+kernel)) aF) (aD (aX (aH (aH (jS (aA rfl (by decide+kernel)) (aA rfl (by decide+kernel))) (fG (by exact aB rfl (aW (λ_ _=>rfl) (aA rfl (by decide+kernel)) (aA rfl (by decide+kernel))) aJ))) (jT (aA rfl (by decide+kernel)) (aA rfl (by decide+kernel))))) aG) aG) (aD (aY (aQ rfl (aA rfl (by decide+kernel)) aF) (aD (aX (aH (aH (jS (aA rfl (by decide+kernel)) (aA rfl (by decide+kernel))) (fG (by exact aB rfl (aH (aW (λ_ _=>rfl) (aA rfl (by decide+kernel)) (aA rfl (by decide+kernel))) (aW (λ_ _=>rfl) (fG (by exact aB rfl aI (by exact aB rfl aI (by exact aB rfl aI (by exact aB rfl aI (by exact aB rfl aI aJ)))))) (aH (aW (λ_ _=>rfl) (aA rfl (by decide+kernel)) aF) aF))) aJ))) (jT (aA rfl (by decide+kernel)) (aH (aA rfl (by decide+kernel)) aF)))) aG) aG) (aD (aY (aQ rfl (aA rfl (by decide+kernel)) aF) (aD (aX (aH (aH (jS (aA rfl (by decide+kernel)) (aA rfl (by decide+kernel))) (fG (by exact aB rfl (aW (λ_ _=>rfl) (aA rfl (by decide+kernel)) (aH (aW (λ_ _=>rfl) (aA rfl (by decide+kernel)) aF) aF)) aJ))) (jT (aA rfl (by decide+kernel)) (aA rfl (by decide+kernel))))) aG) aG) (aD (aX (aH (aH (jS (aA rfl (by decide+kernel)) (aA rfl (by decide+kernel))) (fG (by exact aB rfl (aW (λ_ _=>rfl) (aA rfl (by decide+kernel)) (aH (aW (λ_ _=>rfl) (aA rfl (by decide+kernel)) aF) aF)) aJ))) (jT (aA rfl (by decide+kernel)) (aH (aA rfl (by decide+kernel)) aF)))) aG))))))))))
theorem OF:FnScope ["_law_script","_law_words","_law_d","_law_made","_law_refused","_law_found","e"] ["_law_script"] (aE (top 24)):=⟨rfl,rfl,rfl,by decide+kernel,rfl,by decide+kernel,by decide+kernel⟩
set_option maxHeartbeats 0 in
theorem QL:iF ["_law_script","_law_words","_law_d","_law_made","_law_refused","_law_found","e"] (aE (top 24)) G WF (aP (top 24)):=(aD (bA rfl (by decide+kernel) rfl (cF rfl (by decide+kernel) (aB rfl (cF rfl (by decide+kernel) (aB rfl (cF rfl (by decide+kernel) (aB rfl (aA rfl (by decide+kernel)) (aB rfl aF (aB rfl aF aJ)))) aJ)) aJ))) (aD (bA rfl (by decide+kernel) rfl (cF rfl (by decide+kernel) (aB rfl (aA rfl (by decide+kernel)) (aB rfl aF (aB rfl aF aJ))))) (aD (bA rfl (by decide+kernel) rfl (pM rfl rfl (cF rfl (by decide+kernel) (aB rfl (aA rfl (by decide+kernel)) (aB rfl (aA rfl (by decide+kernel)) aJ))))) (aD (aY (aQ rfl (aH (aW (λ_ _=>rfl) (aA rfl (by decide+kernel)) aF) aF) aF) (aD (bA rfl (by decide+kernel) rfl (aH (aA rfl (by decide+kernel)) aI)) aG) aG) (aD (aY (aQ rfl (aH (aW (λ_ _=>rfl) (aA rfl (by decide+kernel)) aF) aF) aF) (aD (bA rfl (by decide+kernel) rfl (aH aI (aA rfl (by decide+kernel)))) aG) aG) (aD (bA rfl (by decide+kernel) rfl fR) (aD (bA rfl (by decide+kernel) rfl tN) (aD (FT rfl (by decide+kernel) rfl (.cons (.one (.bl (by decide+kernel) (.and (.isx (by decide+kernel)) (.and (.isv (by decide+kernel)) (.one (.sam (by decide+kernel) (λ_=>rfl))))))) .nil) (aD (FV (by decide+kernel) (λ_=>rfl) (λ_=>rfl) rfl (by decide+kernel) (aB rfl (aA rfl (by decide+kernel)) aJ)) aG)) (aD (aY (gQ (cF rfl (by decide+kernel) (aB rfl (pL rfl (aA rfl (by decide+kernel))) aJ))) (aD (aX (aA rfl (by decide+kernel))) aG) aG) (aD (aX (eG (gQ (aA rfl (by decide+kernel))) (cF rfl (by decide+kernel) (aB rfl (cF rfl (by decide+kernel) (aB rfl (aA rfl (by decide+kernel)) aJ)) (aB rfl (pL rfl (aA rfl (by decide+kernel))) aJ))))) aG))))))))))
theorem TN:FnScope ["self","row"] ["self","row"] (aE (mtop 2 0)):=⟨rfl,rfl,rfl,by decide+kernel,rfl,by decide+kernel,by decide+kernel⟩
set_option maxHeartbeats 0 in
theorem all_mk{K:PySem.W.Frag}{h:Heap}{mg:Str->Option Value}{fa:Addr}(X:K.In h)(Gn:h.Ns mainGlobals mg)(hfa:mg "law"=some (.ref fa))
 {f0:Addr}{oc0 kV0 dc0 pm0 cd0 ct0:Value}{od0 an0:Option Addr}{sl0:Array (Option Value)}{f1:Addr}{oc1 kV1 dc1 pm1 cd1 ct1:Value}{od1 an1:Option Addr}{sl1:Array (Option Value)}{f2:Addr}{oc2 kV2 dc2 pm2 cd2 ct2:Value}{od2 an2:Option Addr}{sl2:Array (Option Value)}{f3:Addr}{oc3 kV3 dc3 pm3 cd3 ct3:Value}{od3 an3:Option Addr}{sl3:Array (Option Value)}{f4:Addr}{oc4 kV4 dc4 pm4 cd4 ct4:Value}{od4 an4:Option Addr}{sl4:Array (Option Value)}{f5:Addr}{oc5 kV5 dc5 pm5 cd5 ct5:Value}{od5 an5:Option Addr}{sl5:Array (Option Value)}{f6:Addr}{oc6 kV6 dc6 pm6 cd6 ct6:Value}{od6 an6:Option Addr}{sl6:Array (Option Value)}{f7:Addr}{oc7 kV7 dc7 pm7 cd7 ct7:Value}{od7 an7:Option Addr}{sl7:Array (Option Value)}{f8:Addr}{oc8 kV8 dc8 pm8 cd8 ct8:Value}{od8 an8:Option Addr}{sl8:Array (Option Value)}{f9:Addr}{oc9 kV9 dc9 pm9 cd9 ct9:Value}{od9 an9:Option Addr}{sl9:Array (Option Value)}{f10:Addr}{oc10 kV10 dc10 pm10 cd10 ct10:Value}{od10 an10:Option Addr}{sl10:Array (Option Value)}{f11:Addr}{oc11 kV11 dc11 pm11 cd11 ct11:Value}{od11 an11:Option Addr}{sl11:Array (Option Value)}{f12:Addr}{oc12 kV12 dc12 pm12 cd12 ct12:Value}{od12 an12:Option Addr}{sl12:Array (Option Value)}{f13:Addr}{oc13 kV13 dc13 pm13 cd13 ct13:Value}{od13 an13:Option Addr}{sl13:Array (Option Value)}{f14:Addr}{oc14 kV14 dc14 pm14 cd14 ct14:Value}{od14 an14:Option Addr}{sl14:Array (Option Value)}{f15:Addr}{oc15 kV15 dc15 pm15 cd15 ct15:Value}{od15 an15:Option Addr}{sl15:Array (Option Value)}{f16:Addr}{oc16 kV16 dc16 pm16 cd16 ct16:Value}{od16 an16:Option Addr}{sl16:Array (Option Value)}{u0:Tok}{u1:Tok}{u2:Tok}{c0:Addr}{c1:Addr}{f901:Addr}{oc901 kV901 dc901 pm901 cd901 ct901:Value}{od901 an901:Option Addr}{sl901:Array (Option Value)}
 (fa0:PySem.W.nsIn K mainGlobals "consists_of"=some (some (.ref f0)))
 (fl0:K.lookup f0=some ⟨oc0,od0,.func (PySem.W.fnOf "consists_of" "consists_of" (bN (top 7)) (aP (top 7)) (aE (top 7)) .none kV0 dc0 pm0 an0 cd0 ct0),sl0⟩)
 (fc0:PySem.W.codeIn K cd0 "consists_of"=true)
 (fk0:PySem.W.keepIn K (.ref f0)=true)
 (fa1:PySem.W.nsIn K mainGlobals "is_number"=some (some (.ref f1)))
 (fl1:K.lookup f1=some ⟨oc1,od1,.func (PySem.W.fnOf "is_number" "is_number" (bN (top 8)) (aP (top 8)) (aE (top 8)) .none kV1 dc1 pm1 an1 cd1 ct1),sl1⟩)
 (fc1:PySem.W.codeIn K cd1 "is_number"=true)
 (fk1:PySem.W.keepIn K (.ref f1)=true)
 (fa2:PySem.W.nsIn K mainGlobals "read_word"=some (some (.ref f2)))
 (fl2:K.lookup f2=some ⟨oc2,od2,.func (PySem.W.fnOf "read_word" "read_word" (bN (top 9)) (aP (top 9)) (aE (top 9)) .none kV2 dc2 pm2 an2 cd2 ct2),sl2⟩)
 (fc2:PySem.W.codeIn K cd2 "read_word"=true)
 (fk2:PySem.W.keepIn K (.ref f2)=true)
 (fa3:PySem.W.nsIn K mainGlobals "read_words"=some (some (.ref f3)))
 (fl3:K.lookup f3=some ⟨oc3,od3,.func (PySem.W.fnOf "read_words" "read_words" (bN (top 10)) (aP (top 10)) (aE (top 10)) .none kV3 dc3 pm3 an3 cd3 ct3),sl3⟩)
 (fc3:PySem.W.codeIn K cd3 "read_words"=true)
 (fk3:PySem.W.keepIn K (.ref f3)=true)
 (fa4:PySem.W.nsIn K mainGlobals "read_star"=some (some (.ref f4)))
 (fl4:K.lookup f4=some ⟨oc4,od4,.func (PySem.W.fnOf "read_star" "read_star" (bN (top 11)) (aP (top 11)) (aE (top 11)) .none kV4 dc4 pm4 an4 cd4 ct4),sl4⟩)
 (fc4:PySem.W.codeIn K cd4 "read_star"=true)
 (fk4:PySem.W.keepIn K (.ref f4)=true)
 (fa5:PySem.W.nsIn K mainGlobals "read_plate"=some (some (.ref f5)))
 (fl5:K.lookup f5=some ⟨oc5,od5,.func (PySem.W.fnOf "read_plate" "read_plate" (bN (top 12)) (aP (top 12)) (aE (top 12)) .none kV5 dc5 pm5 an5 cd5 ct5),sl5⟩)
 (fc5:PySem.W.codeIn K cd5 "read_plate"=true)
 (fk5:PySem.W.keepIn K (.ref f5)=true)
 (fa6:PySem.W.nsIn K mainGlobals "read_deed"=some (some (.ref f6)))
 (fl6:K.lookup f6=some ⟨oc6,od6,.func (PySem.W.fnOf "read_deed" "read_deed" (bN (top 13)) (aP (top 13)) (aE (top 13)) .none kV6 dc6 pm6 an6 cd6 ct6),sl6⟩)
 (fc6:PySem.W.codeIn K cd6 "read_deed"=true)
 (fk6:PySem.W.keepIn K (.ref f6)=true)
 (fa7:PySem.W.nsIn K mainGlobals "_law_draws"=some (some (.ref f7)))
 (fl7:K.lookup f7=some ⟨oc7,od7,.func (PySem.W.fnOf "_law_draws" "_law_draws" (bN (top 15)) (aP (top 15)) (aE (top 15)) .none kV7 dc7 pm7 an7 cd7 ct7),sl7⟩)
 (fc7:PySem.W.codeIn K cd7 "_law_draws"=true)
 (fk7:PySem.W.keepIn K (.ref f7)=true)
 (fa8:PySem.W.nsIn K mainGlobals "_law_same"=some (some (.ref f8)))
 (fl8:K.lookup f8=some ⟨oc8,od8,.func (PySem.W.fnOf "_law_same" "_law_same" (bN (top 16)) (aP (top 16)) (aE (top 16)) .none kV8 dc8 pm8 an8 cd8 ct8),sl8⟩)
 (fc8:PySem.W.codeIn K cd8 "_law_same"=true)
 (fk8:PySem.W.keepIn K (.ref f8)=true)
 (fa9:PySem.W.nsIn K mainGlobals "_law_deed_words"=some (some (.ref f9)))
 (fl9:K.lookup f9=some ⟨oc9,od9,.func (PySem.W.fnOf "_law_deed_words" "_law_deed_words" (bN (top 17)) (aP (top 17)) (aE (top 17)) .none kV9 dc9 pm9 an9 cd9 ct9),sl9⟩)
 (fc9:PySem.W.codeIn K cd9 "_law_deed_words"=true)
 (fk9:PySem.W.keepIn K (.ref f9)=true)
 (fa10:PySem.W.nsIn K mainGlobals "_law_any_number"=some (some (.ref f10)))
 (fl10:K.lookup f10=some ⟨oc10,od10,.func (PySem.W.fnOf "_law_any_number" "_law_any_number" (bN (top 18)) (aP (top 18)) (aE (top 18)) .none kV10 dc10 pm10 an10 cd10 ct10),sl10⟩)
 (fc10:PySem.W.codeIn K cd10 "_law_any_number"=true)
 (fk10:PySem.W.keepIn K (.ref f10)=true)
 (fa11:PySem.W.nsIn K mainGlobals "_law_any_deed"=some (some (.ref f11)))
 (fl11:K.lookup f11=some ⟨oc11,od11,.func (PySem.W.fnOf "_law_any_deed" "_law_any_deed" (bN (top 19)) (aP (top 19)) (aE (top 19)) .none kV11 dc11 pm11 an11 cd11 ct11),sl11⟩)
 (fc11:PySem.W.codeIn K cd11 "_law_any_deed"=true)
 (fk11:PySem.W.keepIn K (.ref f11)=true)
 (fa12:PySem.W.nsIn K mainGlobals "_law_is_name"=some (some (.ref f12)))
 (fl12:K.lookup f12=some ⟨oc12,od12,.func (PySem.W.fnOf "_law_is_name" "_law_is_name" (bN (top 20)) (aP (top 20)) (aE (top 20)) .none kV12 dc12 pm12 an12 cd12 ct12),sl12⟩)
 (fc12:PySem.W.codeIn K cd12 "_law_is_name"=true)
 (fk12:PySem.W.keepIn K (.ref f12)=true)
 (fa13:PySem.W.nsIn K mainGlobals "_law_is_number"=some (some (.ref f13)))
 (fl13:K.lookup f13=some ⟨oc13,od13,.func (PySem.W.fnOf "_law_is_number" "_law_is_number" (bN (top 21)) (aP (top 21)) (aE (top 21)) .none kV13 dc13 pm13 an13 cd13 ct13),sl13⟩)
 (fc13:PySem.W.codeIn K cd13 "_law_is_number"=true)
 (fk13:PySem.W.keepIn K (.ref f13)=true)
 (fa14:PySem.W.nsIn K mainGlobals "_law_is_deed"=some (some (.ref f14)))
 (fl14:K.lookup f14=some ⟨oc14,od14,.func (PySem.W.fnOf "_law_is_deed" "_law_is_deed" (bN (top 22)) (aP (top 22)) (aE (top 22)) .none kV14 dc14 pm14 an14 cd14 ct14),sl14⟩)
 (fc14:PySem.W.codeIn K cd14 "_law_is_deed"=true)
 (fk14:PySem.W.keepIn K (.ref f14)=true)
 (fa15:PySem.W.nsIn K mainGlobals "_law_spoilt"=some (some (.ref f15)))
 (fl15:K.lookup f15=some ⟨oc15,od15,.func (PySem.W.fnOf "_law_spoilt" "_law_spoilt" (bN (top 23)) (aP (top 23)) (aE (top 23)) .none kV15 dc15 pm15 an15 cd15 ct15),sl15⟩)
 (fc15:PySem.W.codeIn K cd15 "_law_spoilt"=true)
 (fk15:PySem.W.keepIn K (.ref f15)=true)
 (fa16:PySem.W.nsIn K mainGlobals "law"=some (some (.ref f16)))
 (fl16:K.lookup f16=some ⟨oc16,od16,.func (PySem.W.fnOf "law" "law" (bN (top 24)) (aP (top 24)) (aE (top 24)) .none kV16 dc16 pm16 an16 cd16 ct16),sl16⟩)
 (fc16:PySem.W.codeIn K cd16 "law"=true)
 (fk16:PySem.W.keepIn K (.ref f16)=true)
 (ga0:PySem.W.nsIn K mainGlobals "LETTERS"=some (some (.str "abcdefghijklmnopqrstuvwxyz" u0)))
 (ga1:PySem.W.nsIn K mainGlobals "FIGURES"=some (some (.str "0123456789" u1)))
 (ga2:PySem.W.nsIn K mainGlobals "MOST_FIGURES"=some (some (.int (100) u2)))
 (xa0:PySem.W.nsIn K mainGlobals "GlassError"=some (some (.ref c0)))
 (xc0:PySem.W.keepIn K (.ref c0)=true)
 (xd0:PySem.W.kitOne K (.ref c0) (.type "ValueError")=some true)
 (xa1:PySem.W.nsIn K mainGlobals "BadText"=some (some (.ref c1)))
 (ia_1:PySem.W.findIn K (.ref c1) "__init__"=some (some (.ref f901)))
 (ib_1:kF K c1 f901=true)
 (ic_1:PySem.W.typeIn K (.ref f901)=some (.type "function"))
 (id_1:K.lookup f901=some ⟨oc901,od901,.func (PySem.W.fnOf "__init__" "BadText.__init__" (bN (mtop 2 0)) (aP (mtop 2 0)) (aE (mtop 2 0)) .none kV901 dc901 pm901 an901 cd901 ct901),sl901⟩)
 (ie_1:PySem.W.codeIn K cd901 "BadText.__init__"=true)
 (if_1:PySem.W.keepIn K (.ref f901)=true)
 (ig_1:PySem.W.findIn K (.ref c1) "__setattr__"=some (some (.builtin "object.__setattr__")))
 (ih_1:PySem.W.findIn K (.ref c1) "__getattribute__"=some (some (.builtin "BaseException.__getattribute__")))
 (ii_1:PySem.W.findIn K (.ref c1) "__getattr__"=some none)
 (ij_1:PySem.W.findIn K (.ref c1) "row"=some none)
 (ik_1:PySem.W.mroIn K c1 (.type "object")=some true)
 (il_1:PySem.W.mroIn K c1 (.type "BaseException")=some true)
 (im_1:PySem.W.hasDictIn K c1=true)
 (in_1:PySem.W.readsIn K c0 (.type "type")=true)
 (io_1:PySem.W.findCls K (.ref c0) (.type "type") "__init__"=some (.val (.builtin "ValueError.__init__")))
 (ip_1:PySem.W.specialIn K (.ref c0) "__getattribute__"=some (some (.builtin "type.__getattribute__")))
 (xc1:PySem.W.keepIn K (.ref c1)=true)
 (xd1:PySem.W.kitOne K (.ref c1) (.type "ValueError")=some true)
 (xe0:PySem.W.exmOne K (.ref c0) (.ref c0)=some true)
 (xf0:PySem.W.kitOne K (.ref c0) (.ref c0)=some true)
 (xe1:PySem.W.exmOne K (.ref c1) (.ref c1)=some true)
 (xf1:PySem.W.kitOne K (.ref c1) (.ref c1)=some true)
 (xe2:PySem.W.exmOne K (.ref c1) (.ref c0)=some true)
 (xf2:PySem.W.kitOne K (.ref c1) (.ref c0)=some true)
 (z_len:PySem.W.nsIn K mainGlobals "len"=some none)
 (z_isinstance:PySem.W.nsIn K mainGlobals "isinstance"=some none)
 (z_int:PySem.W.nsIn K mainGlobals "int"=some none)
 (z_list:PySem.W.nsIn K mainGlobals "list"=some none)
 (z_bool:PySem.W.nsIn K mainGlobals "bool"=some none)
 (z_str:PySem.W.nsIn K mainGlobals "str"=some none)
 (z_tuple:PySem.W.nsIn K mainGlobals "tuple"=some none)
 (z_range:PySem.W.nsIn K mainGlobals "range"=some none)
 (z_max:PySem.W.nsIn K mainGlobals "max"=some none)
 (z_min:PySem.W.nsIn K mainGlobals "min"=some none)
 (z_sorted:PySem.W.nsIn K mainGlobals "sorted"=some none)
 (z_all:PySem.W.nsIn K mainGlobals "all"=some none)
 (z_zip:PySem.W.nsIn K mainGlobals "zip"=some none)
 (z_ValueError:PySem.W.nsIn K mainGlobals "ValueError"=some none)
 :∃ca:Nat->Addr,PrOk K mg G ca T/\∃fd:FuncData,(∀(s:Shared)(u:Value),BindsTo s fd ⟨[u],[]⟩ [("_law_script",u)])/\∃c st N qual,T 16=some c/\Fun K "law" qual st fa fd/\FnScope N ["_law_script"] (aE st)/\1=c.np/\N.length=c.ns/\iF N (aE st) G c.body (aP st):=by
 have e:=hfa.symm.trans (PySem.W.mg_of X Gn fa16);cases e;have F0:=cS (st:=top 7) fl0 fc0 fk0;have B0:=F0.binds (ps:= ["word","signs"]) λ_ _ _ _ _ _ us hl=>by obtain⟨u0,u1,rfl⟩:=sW hl;rfl
 have F1:=cS (st:=top 8) fl1 fc1 fk1;have B1:=F1.binds (ps:= ["word"]) λ_ _ _ _ _ _ us hl=>by obtain⟨u0,rfl⟩:=nD hl;rfl
 have F2:=cS (st:=top 9) fl2 fc2 fk2;have B2:=F2.binds (ps:= ["word","kind"]) λ_ _ _ _ _ _ us hl=>by obtain⟨u0,u1,rfl⟩:=sW hl;rfl
 have F3:=cS (st:=top 10) fl3 fc3 fk3;have B3:=F3.binds (ps:= ["words","kinds"]) λ_ _ _ _ _ _ us hl=>by obtain⟨u0,u1,rfl⟩:=sW hl;rfl
 have F4:=cS (st:=top 11) fl4 fc4 fk4;have B4:=F4.binds (ps:= ["word"]) λ_ _ _ _ _ _ us hl=>by obtain⟨u0,rfl⟩:=nD hl;rfl
 have F5:=cS (st:=top 12) fl5 fc5 fk5;have B5:=F5.binds (ps:= ["words"]) λ_ _ _ _ _ _ us hl=>by obtain⟨u0,rfl⟩:=nD hl;rfl
 have F6:=cS (st:=top 13) fl6 fc6 fk6;have B6:=F6.binds (ps:= ["text"]) λ_ _ _ _ _ _ us hl=>by obtain⟨u0,rfl⟩:=nD hl;rfl
 have F7:=cS (st:=top 15) fl7 fc7 fk7;have B7:=F7.binds (ps:= ["_law_script","_law_at","_law_many"]) λ_ _ _ _ _ _ us hl=>by obtain⟨u0,u1,u2,rfl⟩:=UU hl;rfl
 have F8:=cS (st:=top 16) fl8 fc8 fk8;have B8:=F8.binds (ps:= ["_law_found","_law_due"]) λ_ _ _ _ _ _ us hl=>by obtain⟨u0,u1,rfl⟩:=sW hl;rfl
 have F9:=cS (st:=top 17) fl9 fc9 fk9;have B9:=F9.binds (ps:= ["_law_deed"]) λ_ _ _ _ _ _ us hl=>by obtain⟨u0,rfl⟩:=nD hl;rfl
 have F10:=cS (st:=top 18) fl10 fc10 fk10;have B10:=F10.binds (ps:= ["_law_one","_law_two"]) λ_ _ _ _ _ _ us hl=>by obtain⟨u0,u1,rfl⟩:=sW hl;rfl
 have F11:=cS (st:=top 19) fl11 fc11 fk11;have B11:=F11.binds (ps:= ["_law_d"]) λ_ _ _ _ _ _ us hl=>by obtain⟨u0,rfl⟩:=nD hl;rfl
 have F12:=cS (st:=top 20) fl12 fc12 fk12;have B12:=F12.binds (ps:= ["_law_word"]) λ_ _ _ _ _ _ us hl=>by obtain⟨u0,rfl⟩:=nD hl;rfl
 have F13:=cS (st:=top 21) fl13 fc13 fk13;have B13:=F13.binds (ps:= ["_law_word"]) λ_ _ _ _ _ _ us hl=>by obtain⟨u0,rfl⟩:=nD hl;rfl
 have F14:=cS (st:=top 22) fl14 fc14 fk14;have B14:=F14.binds (ps:= ["_law_words"]) λ_ _ _ _ _ _ us hl=>by obtain⟨u0,rfl⟩:=nD hl;rfl
 have F15:=cS (st:=top 23) fl15 fc15 fk15;have B15:=F15.binds (ps:= ["_law_words","_law_d"]) λ_ _ _ _ _ _ us hl=>by obtain⟨u0,u1,rfl⟩:=sW hl;rfl
 have F16:=cS (st:=top 24) fl16 fc16 fk16;have B16:=F16.binds (ps:= ["_law_script"]) λ_ _ _ _ _ _ us hl=>by obtain⟨u0,rfl⟩:=nD hl;rfl
 have E0:ExcF K c0:=⟨xc0,xd0⟩;have E1:ExcF K c1:=⟨xc1,xd1⟩
 have Bl:∀b:Blt,mg b.nm=none:=λb=>by
  cases b
  ·exact PySem.W.mg_none_of X Gn z_len
  ·exact PySem.W.mg_none_of X Gn z_isinstance
  ·exact PySem.W.mg_none_of X Gn z_int
  ·exact PySem.W.mg_none_of X Gn z_list
  ·exact PySem.W.mg_none_of X Gn z_max
  ·exact PySem.W.mg_none_of X Gn z_min
  ·exact PySem.W.mg_none_of X Gn z_sorted
  ·exact PySem.W.mg_none_of X Gn z_all
  ·exact PySem.W.mg_none_of X Gn z_tuple
  ·exact PySem.W.mg_none_of X Gn z_zip
 have Tl:∀t:Ty,mg (Str.ofString t.nm)=none:=λt=>by
  cases t
  ·exact PySem.W.mg_none_of X Gn z_int
  ·exact PySem.W.mg_none_of X Gn z_bool
  ·exact PySem.W.mg_none_of X Gn z_str
  ·exact PySem.W.mg_none_of X Gn z_tuple
  ·exact PySem.W.mg_none_of X Gn z_list
 have FI1:=cS (st:=mtop 2 0) id_1 ie_1 if_1;have BI1:=FI1.binds (ps:= ["self","row"]) λ_ _ _ _ _ _ us hl=>by obtain⟨u0,u1,rfl⟩:=sW hl;rfl
 refine⟨λi=>([c0,c1]:List Addr).getD i 0,⟨λf x hf=>?_,λg x d hg=>?_,Bl,Tl,PySem.W.mg_none_of X Gn z_range,λc x hx=>?_,λq hq=>?_,λq hq=>?_,PySem.W.mg_none_of X Gn z_ValueError,λc hc=>?_,λf hf=>?_,λp hp=>?_,λp hp=>?_,λp hp=>?_⟩,?_⟩
 ·refine AllP.get0 (P:=λf x=>∃c,T f=some c/\QY K mg G x c) (l:=G.fns) ?_ hf;refine And.intro ⟨_,rfl,_,_,_,_,_,_,F0,sc0,rfl,rfl,B0,PySem.W.mg_of X Gn fa0,@ck0⟩ ?_;refine And.intro ⟨_,rfl,_,_,_,_,_,_,F1,sc1,rfl,rfl,B1,PySem.W.mg_of X Gn fa1,@ck1⟩ ?_;refine And.intro ⟨_,rfl,_,_,_,_,_,_,F2,sc2,rfl,rfl,B2,PySem.W.mg_of X Gn fa2,@ck2⟩ ?_;refine And.intro ⟨_,rfl,_,_,_,_,_,_,F3,sc3,rfl,rfl,B3,PySem.W.mg_of X Gn fa3,@ck3⟩ ?_;refine And.intro ⟨_,rfl,_,_,_,_,_,_,F4,sc4,rfl,rfl,B4,PySem.W.mg_of X Gn fa4,@ck4⟩ ?_;refine And.intro ⟨_,rfl,_,_,_,_,_,_,F5,sc5,rfl,rfl,B5,PySem.W.mg_of X Gn fa5,@ck5⟩ ?_;refine And.intro ⟨_,rfl,_,_,_,_,_,_,F6,sc6,rfl,rfl,B6,PySem.W.mg_of X Gn fa6,@ck6⟩ ?_;refine And.intro ⟨_,rfl,_,_,_,_,_,_,F7,sc7,rfl,rfl,B7,PySem.W.mg_of X Gn fa7,@ck7⟩ ?_;refine And.intro ⟨_,rfl,_,_,_,_,_,_,F8,sc8,rfl,rfl,B8,PySem.W.mg_of X Gn fa8,@ck8⟩ ?_;refine And.intro ⟨_,rfl,_,_,_,_,_,_,F9,sc9,rfl,rfl,B9,PySem.W.mg_of X Gn fa9,@ck9⟩ ?_;refine And.intro ⟨_,rfl,_,_,_,_,_,_,F10,TY,rfl,rfl,B10,PySem.W.mg_of X Gn fa10,@WB⟩ ?_;refine And.intro ⟨_,rfl,_,_,_,_,_,_,F11,TX,rfl,rfl,B11,PySem.W.mg_of X Gn fa11,@WA⟩ ?_;refine And.intro ⟨_,rfl,_,_,_,_,_,_,F12,TW,rfl,rfl,B12,PySem.W.mg_of X Gn fa12,@VZ⟩ ?_;refine And.intro ⟨_,rfl,_,_,_,_,_,_,F13,TV,rfl,rfl,B13,PySem.W.mg_of X Gn fa13,@VY⟩ ?_;refine And.intro ⟨_,rfl,_,_,_,_,_,_,F14,TU,rfl,rfl,B14,PySem.W.mg_of X Gn fa14,@VX⟩ ?_;refine And.intro ⟨_,rfl,_,_,_,_,_,_,F15,TR,rfl,rfl,B15,PySem.W.mg_of X Gn fa15,@VW⟩ ?_;refine And.intro ⟨_,rfl,_,_,_,_,_,_,F16,OF,rfl,rfl,B16,PySem.W.mg_of X Gn fa16,@QL⟩ ?_;exact trivial
 ·refine AllP.get0 (P:=λ_ p=>∃v u,mg p.1=some u/\RelV v u/\∀m H,RD K m H p.2 v) (l:=G.csts) ?_ hg;refine And.intro ⟨V.str "abcdefghijklmnopqrstuvwxyz",_,PySem.W.mg_of X Gn ga0,⟨_,rfl⟩,λm H=>RD.str _⟩ ?_;refine And.intro ⟨V.str "0123456789",_,PySem.W.mg_of X Gn ga1,⟨_,rfl⟩,λm H=>RD.str _⟩ ?_;refine And.intro ⟨V.int (100),_,PySem.W.mg_of X Gn ga2,⟨_,rfl⟩,λm H=>RD.int _⟩ ?_;exact trivial
 ·refine AllP.get0 (P:=λc x=>mg x=some (.ref (([c0,c1]:List Addr).getD c 0))/\ExcF K (([c0,c1]:List Addr).getD c 0)) (l:=G.excs) ?_ hx;refine And.intro ⟨PySem.W.mg_of X Gn xa0,E0⟩ ?_;refine And.intro ⟨PySem.W.mg_of X Gn xa1,E1⟩ ?_;exact trivial
 ·simp only[G,List.mem_cons,List.not_mem_nil,or_false] at hq;rcases hq with rfl|rfl|rfl
  ·exact⟨xe0,xf0,E0⟩
  ·exact⟨xe1,xf1,E1⟩
  ·exact⟨xe2,xf2,E1⟩
 ·simp only[G,List.mem_cons,List.not_mem_nil,or_false] at hq
 ·simp only[G,List.mem_cons,List.not_mem_nil,or_false] at hc;subst hc;have EA:ExcA K c1 "row":=⟨ig_1,ih_1,ii_1,ij_1,ik_1,il_1,im_1⟩;exact⟨EA,_,_,["self","row"],λP w base=>LQ FI1 TN rfl (λ_=>⟨_,rfl⟩) (by decide+kernel) (by decide+kernel) (PySem.W.mg_of X Gn xa0) ⟨in_1,io_1,ip_1⟩ ib_1 EA Bl Tl (PySem.W.mg_none_of X Gn z_range) (PySem.W.mg_none_of X Gn z_ValueError),BI1,rfl,ib_1,ic_1⟩
 ·simp only[G,List.mem_cons,List.not_mem_nil,or_false] at hf;subst hf;exact⟨_,_,_,["_law_found","_law_due"],rfl,PySem.W.mg_of X Gn fa8,fk8,B8,rfl,λP w base=>DL F8 sc8 rfl (by decide+kernel) Bl Tl⟩
 ·refine AllP.mem (i:=0) (P:=λp=>∃C,PySem.W.nsIn K mainGlobals p.1=some (some (.ref C))/\Cls K C/\tY K C p.2) (l:=G.atts) ?_ hp;exact trivial
 ·refine AllP.mem (i:=0) (P:=λp=>∃C c,PySem.W.nsIn K mainGlobals p.1=some (some (.ref C))/\Cls K C/\T p.2.2=some c/\FmOk K G (λfa=>Meth K C p.2.1 fa) p.2.1 c) (l:=G.meths) ?_ hp;exact trivial
 ·refine AllP.mem (i:=0) (P:=λp=>∃C c,PySem.W.nsIn K mainGlobals p.1=some (some (.ref C))/\mg p.1=some (.ref C)/\T p.2=some c/\FmOk K G (λfa=>Mk K C fa) "__init__" c) (l:=G.news) ?_ hp;exact trivial
 ·exact⟨_,λs v=>.of_eq rfl,_,_,_,_,rfl,F16,OF,rfl,rfl,@QL⟩
end Pk24
namespace Pk24
open PySem L2 Ng
noncomputable def W:Nat:=2000
theorem QG(n:Nat)(ns:List Int)(at':Int)(M:Nat)(hM:M<=1000)(h:Hh)(h0:0<=at')(h1:at'<100000)(hs:aK h 0=some (ns.map D.int)):∃row:List Int,row.length=M/\InR row/\bI G T W (n+1) 7 [.ref 0,.int at',.int M] h=.ok (.ref h.length) (h++ [.lst (row.map D.int)]):=by
 obtain⟨row,r1,r2,e⟩:=BG G (bI G T W n) W h 0 ns at' M hM h0 h1 hs (by decide);refine⟨row,r1,r2,?_⟩;rw[bY (c:=⟨3,7,b7⟩) rfl rfl];have e':bO G (bI G T W n) W b7 _ h=_:=e
 show(bO G (bI G T W n) W b7 [some (.ref 0),some (.int at'),some (.int M),none,none,none,none] h).bind cZ=_
 rw[e'];rfl
noncomputable abbrev zA:Ss:=(.cons (.iff (.not (.call 8 (.cons (.ix (.var 0) (.var 2)) (.cons (.ix (.var 1) (.var 2)) .nil)))) (.cons (.ret (.bl false)) .nil) .nil) .nil)
theorem qL{cl:Cl}(x y:D)(l:List D)(h:Hh)(hl:l.length<=1000)(ix:∀k:Nat,∀d,l[k]? =some d->kK x (.int k) h=.ok d h/\kK y (.int k) h=.ok d h)(hs:∀d∈l,cl 8 [d,d] h=.ok (.bl true) h)
 (ny:gI .len [y] h=.ok (.int l.length) h):
 ∃r',xs G cl W (.forr (.nm 2) (.r1 (.blt .len (.cons (.var 1) .nil))) zA) [some x,some y,none] h=.ok (.nx r') h:=by
 obtain⟨r',el,_⟩:=vC (t:=.nm 2) (body:=bO G cl W zA) (λr=>∃d2,r=[some x,some y,d2]) h (cQ 0 l.length)
  (by
    rintro d hd r ⟨d2,rfl⟩;obtain⟨j,hj,rfl⟩:=zB hd;have ej:l[j]? =some l[j]:=Zd hj;obtain⟨i1,i2⟩:=ix j _ ej;have es:=hs l[j] (List.getElem_mem hj);exact⟨_,_,rfl,by simp[zA,i1,i2,es];rfl,_,rfl⟩)
  [some x,some y,none] ⟨none,rfl⟩
 exact⟨r',pW (j:=l.length) (h1:=h) (by simp[ny]) (kR (by omega)) el⟩
theorem nM(d:D)(hd:pd 0 d=true)(n:Nat)(h:Hh):bI G T W (n+1) 8 [d,d] h=.ok (.bl true) h:=by
 rw[bY (c:=⟨2,3,b8⟩) rfl rfl];generalize bI G T W n=cl
 have e1:∀d:D,pd 0 d=true->ev G cl (.blt .isinst (.cons (.var 1) (.cons (.tup (.cons (.ty .tuple) (.cons (.ty .list) .nil))) .nil))) [some d,some d,none] h=.ok (.bl false) h:=λd hd=>by
  simp only[nX,aO,cT,fQ,kH,QB,List.getElem?_cons_succ,CS,aC,List.length_cons,List.length_nil,Nat.reduceAdd,Nat.reduceLeDiff,if_true,bIs];cases d<;>first |(cases hd;done)|rfl
 have eT:∀(d:D)(i:Nat)(t:Ty)(b:Bool),([some d,some d,none]:Ev)[i]? =some (some d)->cD d (.ty t.nm) h=.ok (.bl b) h->ev G cl (.blt .isinst (.cons (.var i) (.cons (.ty t) .nil))) [some d,some d,none] h=.ok (.bl b) h:=λd i t b hi e=>by
  simp only[nX,aO,cT,bR hi,QB,aC,bIs,e]
 have eN:∀(d:D)(i:Nat),([some d,some d,none]:Ev)[i]? =some (some d)->ev G cl (.cmp .is (.var i) .non) [some d,some d,none] h=.ok (.bl (gN d)) h:=λd i hi=>bF (bR hi) (II ..) (WC ..);have eE:∀(d:D),dN .eq d d h=.ok (.bl true) h->ev G cl (.cmp .eq (.var 0) (.var 1)) [some d,some d,none] h=.ok (.bl true) h:=λd e=>bF (bR rfl) (bR rfl) e
 have eA:∀(a b:E)(r:Ev),ev G cl a r h=.ok (.bl true) h->ev G cl b r h=.ok (.bl true) h->ev G cl (.and a b) r h=.ok (.bl true) h:=λa b r ea eb=>by
  rw[iR,ea,aC,pT];exact eb
 have eOf:∀(a b:E)(r:Ev),ev G cl a r h=.ok (.bl false) h->ev G cl b r h=.ok (.bl false) h->ev G cl (.or a b) r h=.ok (.bl false) h:=λa b r ea eb=>by
  rw[mL,ea,aC,pT];exact eb
 have rt:∀(a:E)(Z:Ss)(r:Ev),ev G cl a r h=.ok (.bl true) h->bO G cl W (.cons (.ret a) Z) r h=.ok (.rt (.bl true)) h:=λa Z r e=>aU (by rw[pV,e];rfl)
 show(bO G cl W b8 [some d,some d,none] h).bind cZ=_
 have s1:∀(A Z:Ss)(c:E)(r:Ev),ev G cl c r h=.ok (.bl false) h->bO G cl W (.cons (.iff c A .nil) Z) r h=bO G cl W Z r h:=λA Z c r e=>aL (by rw[bJ e,aT]);have s2:∀(A Z:Ss)(c:E)(r:Ev),ev G cl c r h=.ok (.bl true) h->bO G cl W A r h=.ok (.rt (.bl true)) h->bO G cl W (.cons (.iff c A .nil) Z) r h=.ok (.rt (.bl true)) h:=λA Z c r e ea=>aU (by rw[bU e,ea]);cases d with
 |non=>rw[b8,s1 _ _ _ _ (e1 _ hd),s2 _ _ _ _ (eN _ 1 rfl) (rt _ _ _ (eN _ 0 rfl))];rfl
 |bl b=>rw[b8,s1 _ _ _ _ (e1 _ hd),s1 _ _ _ _ (eN _ 1 rfl),s2 _ _ _ _ (by rw[mL,eT _ 1 .bool true rfl rfl,aC,pT]) (rt _ _ _ (eA _ _ _ (eT _ 1 .bool true rfl rfl) (eA _ _ _ (eT _ 0 .bool true rfl rfl) (eE _ (by simp)))))];rfl
 |int z=>rw[b8,s1 _ _ _ _ (e1 _ hd),s1 _ _ _ _ (eN _ 1 rfl),s1 _ _ _ _ (eOf _ _ _ (eT _ 1 .bool false rfl rfl) (eT _ 0 .bool false rfl rfl)),s2 _ _ _ _ (eT _ 1 .int true rfl rfl) (rt _ _ _ (eA _ _ _ (eT _ 0 .int true rfl rfl) (eE _ (by simp))))];rfl
 |str z=>rw[b8,s1 _ _ _ _ (e1 _ hd),s1 _ _ _ _ (eN _ 1 rfl),s1 _ _ _ _ (eOf _ _ _ (eT _ 1 .bool false rfl rfl) (eT _ 0 .bool false rfl rfl)),s1 _ _ _ _ (eT _ 1 .int false rfl rfl),rt _ _ _ (eA _ _ _ (eT _ 0 .str true rfl rfl) (eE _ (by simp)))];rfl
 |tup l=>cases hd
 |ref n=>cases hd
 |ty t=>cases hd
theorem wK:∀(k:Nat)(d:D),pd k d=true->∀(n:Nat)(h:Hh),bI G T W (k+n+1) 8 [d,d] h=.ok (.bl true) h:=by
 intro k
 induction k with
 |zero=>
  intro d hd n h;rw[Nat.zero_add];exact nM d hd n h
 |succ k ih=>
  intro d hd n h
  by_cases hf:pd 0 d=true
  ·exact nM d hf _ h
  cases d<;>first |exact absurd rfl hf|(cases hd;done)|skip
  rename_i l;simp only[pd,Bool.and_eq_true,decide_eq_true_eq] at hd;obtain⟨h1,h2⟩:=hd
  obtain⟨r',ef⟩:=qL (cl:=bI G T W (k+1+n)) (.tup l) (.tup l) l h h1 (λj d ej=>by
   have ea:pU l (j:Int)=some d:=cU ej
   exact⟨by rw[Ng.iTup,ea],by rw[Ng.iTup,ea]⟩) (λd hd=>by
    have:=ih d (by rw[List.all_eq_true] at h2;exact h2 _ hd) n h;rwa [show k+n+1=k+1+n by omega] at this) (by simp)
  show(bO G (bI G T W (k+1+n)) W b8 [some (.tup l),some (.tup l),none] h).bind cZ=_
  rw[b8,aU (d:=.bl true) (h':=h) (by
   rw[jX,show ev G (bI G T W (k+1+n)) (.blt .isinst (.cons (.var 1) (.cons (.tup (.cons (.ty .tuple) (.cons (.ty .list) .nil))) .nil))) [some (.tup l),some (.tup l),none] h=.ok (.bl true) h from by simp,cR,aC];show bO G _ W _ _ h=_;rw[aL (r':= [some (.tup l),some (.tup l),none]) (h':=h) (by simp),aL (r':= [some (.tup l),some (.tup l),none]) (h':=h) (by simp),aL ef]
   simp)]
  rfl
theorem yZ(k:Nat)(a b:Nat)(l:List D)(n:Nat)(h:Hh)(ha:aK h a=some l)(hb:aK h b=some l)(h1:l.length<=1000)(h2:l.all (pd k)=true):bI G T W (k+1+n+1) 8 [.ref a,.ref b] h=.ok (.bl true) h:=by
 rw[bY (c:=⟨2,3,b8⟩) rfl rfl]
 obtain⟨r',ef⟩:=qL (cl:=bI G T W (k+1+n)) (.ref a) (.ref b) l h h1 (λj d ej=>by
  have ea:pU l (j:Int)=some d:=cU ej
  exact⟨by rw[jL h _ ha,ea],by rw[jL h _ hb,ea]⟩) (λd hd=>by
   have:=wK k d (by rw[List.all_eq_true] at h2;exact h2 _ hd) n h;rwa [show k+n+1=k+1+n by omega] at this) (by rw[xY,oN,hb])
 have t1:=EY h hb;have t2:=AI h ha;have t3:=AI h hb;have t4:=AJ h ha;have t5:=AJ h hb
 show(bO G (bI G T W (k+1+n)) W b8 [some (.ref a),some (.ref b),none] h).bind cZ=_
 rw[b8,aU (d:=.bl true) (h':=h) (by
  rw[jX,show ev G (bI G T W (k+1+n)) (.blt .isinst (.cons (.var 1) (.cons (.tup (.cons (.ty .tuple) (.cons (.ty .list) .nil))) .nil))) [some (.ref a),some (.ref b),none] h=.ok (.bl true) h from by simp[t1],cR,aC];show bO G _ W _ _ h=_;rw[aL (r':= [some (.ref a),some (.ref b),none]) (h':=h) (by simp[t2,t3,t4,t5]),aL (r':= [some (.ref a),some (.ref b),none]) (h':=h) (by simp[ha,hb]),aL ef]
  simp)]
 rfl
theorem k0(cl:Cl)(r:Ev)(h:Hh):ev G cl (.gc 0) r h=.ok (.str abS) h:=by rw[MA,gc0]
theorem k1(cl:Cl)(r:Ev)(h:Hh):ev G cl (.gc 1) r h=.ok (.str fgS) h:=by rw[MA,gc1]
theorem k2(cl:Cl)(r:Ev)(h:Hh):ev G cl (.gc 2) r h=.ok (.int 100) h:=by rw[MA,gc2]
theorem con(n:Nat):NB (bI G T W (n+1)) 0:=λh z s a=>by
 rw[bY (c:=⟨2,2,b0⟩) rfl rfl];exact GC a
theorem isu(n:Nat):QX (bI G T W (n+2)) 1:=λh z s=>by
 rw[bY (c:=⟨1,2,b1⟩) rfl rfl];exact EV (k1 _) (k2 _) (con n) s
theorem rdw(n:Nat):MY (bI G T W (n+3)) 2:=λh z k a=>by
 rw[bY (c:=⟨2,2,b2⟩) rfl rfl];exact DO (k0 _) (con (n+1)) (isu n) a
theorem UB(n:Nat):CP (bI G T W (n+4)) 3:=λh m l ks a b c=>by
 rw[bY (c:=⟨2,2,b3⟩) rfl rfl];exact DQ (rdw n) a b c
theorem rdt(n:Nat):MZ (bI G T W (n+5)) 4:=λh z a=>by
 rw[bY (c:=⟨1,1,b4⟩) rfl rfl];exact DP (UB n) a
theorem rdp(n:Nat):QT (bI G T W (n+6)) 5:=λh m l a b c=>by
 rw[bY (c:=⟨1,5,b5⟩) rfl rfl];exact DR (UB (n+1)) (rdt n) a b c
theorem rdd(n:Nat):QU (bI G T W (n+7)) 6:=λh z a b c=>by
 rw[bY (c:=⟨1,8,b6⟩) rfl rfl];exact DS (UB (n+2)) (rdp n) a b c
theorem dwo(n:Nat):Dwo (bI G T W (n+1)) 9:=λh d o=>by
 rw[bY (c:=⟨1,2,b9⟩) rfl rfl];exact MD o
theorem anu(n:Nat):XC (bI G T W (n+1)) 10:=λh a b ha hb=>by
 rw[bY (c:=⟨2,2,WL⟩) rfl rfl];exact MR ha hb
theorem ady(n:Nat):Ady (bI G T W (n+2)) 11:=λh m row Q hl=>by
 rw[bY (c:=⟨1,7,WK⟩) rfl rfl];exact MU (anu n) Q hl
theorem nmx(n:Nat):WU (bI G T W (n+1)) 12:=λh z=>by
 rw[bY (c:=⟨1,2,WJ⟩) rfl rfl];exact LA
theorem nux(n:Nat):WT (bI G T W (n+1)) 13:=λh z a=>by
 rw[bY (c:=⟨1,3,WI⟩) rfl rfl];exact KS a
theorem dex(n:Nat):DeX (bI G T W (n+2)) 14:=λh m V a b c d=>by
 rw[bY (c:=⟨1,5,WH⟩) rfl rfl];exact MH (nmx n) (nux n) a b c d
theorem spx(n:Nat):SpX (bI G T W (n+1)) 15:=λh n m ws row a b c d e f=>by
 rw[bY (c:=⟨2,5,WG⟩) rfl rfl];exact JN a b c d e f
theorem run(ns:List Int)(hn:ns.length<=63):∃h',bI G T W (49+1) 16 [.ref 0] [.ro (ns.map D.int)]=.ok (.bl true) h':=by
 rw[bY (c:=⟨1,7,WF⟩) rfl rfl];exact law24_ok (λat' M h hM h0 h1 hs=>QG 48 ns at' M hM h h0 h1 hs) (ady 47) (dwo 48) (spx 48) (rdd 42) (dex 47) (λa b l h ha hb hl=>yZ 0 a b (l.map D.str) 47 h ha hb (by rw[Zc];exact hl) (by rw[List.all_eq_true];intro d hd;obtain⟨t,_,rfl⟩:=List.mem_map.mp hd;rfl)) (λ_ _=>rfl)
end Pk24
end
open PySem PySem.W PyProof.Rows
namespace Sh
set_option maxRecDepth 100000 in
set_option maxHeartbeats 0 in
theorem hd:PySem.Challenge.rw_nightglass_k24_texts_that_write_no_deed.Holds:=by
 refine holds_law sd λsaid=>?_;refine @Function.const _ True ?m ?hl;rotate_left;exact True.intro
 w_on;k_head;(case hw=>w_witness2)
 k_fill
 refine⟨λw=>by kernel_rfl,?_⟩;refine Ng.law_of (G:=Pk24.G) (T:=Pk24.T) (W:=Pk24.W) (l:=PySem.Challenge.rw_nightglass_k24_texts_that_write_no_deed) (n:=63) (k:=49) (lw:=16) (x:="_law_script") Pk24.run rfl (by decide) rfl ⟨rfl,by decide,by decide⟩ (λw h Y=>PySem.W.kIn_of Y) ?F
 case F=>
  intro w mg fa h KX Gn hmg
  refine' Pk24.all_mk KX Gn hmg ?fa0 ?fl0 ?fc0 ?fk0 ?fa1 ?fl1 ?fc1 ?fk1 ?fa2 ?fl2 ?fc2 ?fk2 ?fa3 ?fl3 ?fc3 ?fk3 ?fa4 ?fl4 ?fc4 ?fk4 ?fa5 ?fl5 ?fc5 ?fk5 ?fa6 ?fl6 ?fc6 ?fk6 ?fa7 ?fl7 ?fc7 ?fk7 ?fa8 ?fl8 ?fc8 ?fk8 ?fa9 ?fl9 ?fc9 ?fk9 ?fa10 ?fl10 ?fc10 ?fk10 ?fa11 ?fl11 ?fc11 ?fk11 ?fa12 ?fl12 ?fc12 ?fk12 ?fa13 ?fl13 ?fc13 ?fk13 ?fa14 ?fl14 ?fc14 ?fk14 ?fa15 ?fl15 ?fc15 ?fk15 ?fa16 ?fl16 ?fc16 ?fk16 ?ga0 ?ga1 ?ga2 ?xa0 ?xc0 ?xd0 ?xa1 ?ia_1 ?ib_1 ?ic_1 ?id_1 ?ie_1 ?if_1 ?ig_1 ?ih_1 ?ii_1 ?ij_1 ?ik_1 ?il_1 ?im_1 ?in_1 ?io_1 ?ip_1 ?xc1 ?xd1 ?xe0 ?xf0 ?xe1 ?xf1 ?xe2 ?xf2 ?z_len ?z_isinstance ?z_int ?z_list ?z_bool ?z_str ?z_tuple ?z_range ?z_max ?z_min ?z_sorted ?z_all ?z_zip ?z_ValueError
  (case fa0=>k_is)
  (case fl0=>k_is)
  (case fc0=>k_is)
  (case fk0=>k_is)
  (case fa1=>k_is)
  (case fl1=>k_is)
  (case fc1=>k_is)
  (case fk1=>k_is)
  (case fa2=>k_is)
  (case fl2=>k_is)
  (case fc2=>k_is)
  (case fk2=>k_is)
  (case fa3=>k_is)
  (case fl3=>k_is)
  (case fc3=>k_is)
  (case fk3=>k_is)
  (case fa4=>k_is)
  (case fl4=>k_is)
  (case fc4=>k_is)
  (case fk4=>k_is)
  (case fa5=>k_is)
  (case fl5=>k_is)
  (case fc5=>k_is)
  (case fk5=>k_is)
  (case fa6=>k_is)
  (case fl6=>k_is)
  (case fc6=>k_is)
  (case fk6=>k_is)
  (case fa7=>k_is)
  (case fl7=>k_is)
  (case fc7=>k_is)
  (case fk7=>k_is)
  (case fa8=>k_is)
  (case fl8=>k_is)
  (case fc8=>k_is)
  (case fk8=>k_is)
  (case fa9=>k_is)
  (case fl9=>k_is)
  (case fc9=>k_is)
  (case fk9=>k_is)
  (case fa10=>k_is)
  (case fl10=>k_is)
  (case fc10=>k_is)
  (case fk10=>k_is)
  (case fa11=>k_is)
  (case fl11=>k_is)
  (case fc11=>k_is)
  (case fk11=>k_is)
  (case fa12=>k_is)
  (case fl12=>k_is)
  (case fc12=>k_is)
  (case fk12=>k_is)
  (case fa13=>k_is)
  (case fl13=>k_is)
  (case fc13=>k_is)
  (case fk13=>k_is)
  (case fa14=>k_is)
  (case fl14=>k_is)
  (case fc14=>k_is)
  (case fk14=>k_is)
  (case fa15=>k_is)
  (case fl15=>k_is)
  (case fc15=>k_is)
  (case fk15=>k_is)
  (case fa16=>k_is)
  (case fl16=>k_is)
  (case fc16=>k_is)
  (case fk16=>k_is)
  (case ga0=>k_is)
  (case ga1=>k_is)
  (case ga2=>k_is)
  (case xa0=>k_is)
  (case xc0=>k_is)
  (case xd0=>kit_is)
  (case xa1=>k_is)
  (case ia_1=>k_is)
  (case ib_1=>first |kernel_rfl|rfl|decide+kernel)
  (case ic_1=>k_is)
  (case id_1=>k_is)
  (case ie_1=>k_is)
  (case if_1=>k_is)
  (case ig_1=>k_is)
  (case ih_1=>k_is)
  (case ii_1=>k_is)
  (case ij_1=>k_is)
  (case ik_1=>k_is)
  (case il_1=>k_is)
  (case im_1=>k_is)
  (case in_1=>k_is)
  (case io_1=>k_is)
  (case ip_1=>k_is)
  (case xc1=>k_is)
  (case xd1=>kit_is)
  (case xe0=>kts_exm)
  (case xf0=>kit_is)
  (case xe1=>kts_exm)
  (case xf1=>kit_is)
  (case xe2=>kts_exm)
  (case xf2=>kit_is)
  (case z_len=>k_is)
  (case z_isinstance=>k_is)
  (case z_int=>k_is)
  (case z_list=>k_is)
  (case z_bool=>k_is)
  (case z_str=>k_is)
  (case z_tuple=>k_is)
  (case z_range=>k_is)
  (case z_max=>k_is)
  (case z_min=>k_is)
  (case z_sorted=>k_is)
  (case z_all=>k_is)
  (case z_zip=>k_is)
  (case z_ValueError=>k_is)
end Sh
theorem PySem.Challenge.cw_nightglass_k24_texts_that_write_no_deed_holds : PySem.Challenge.rw_nightglass_k24_texts_that_write_no_deed.Holds :=
 Sh.hd
