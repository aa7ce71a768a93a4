import PyProof.Rows.All
import Wide.All
import OpenK.AllK
import Wide.FinOn
import Lean
import PyProof.EqAt
import PyProof.EqKinds
import PyProof.TupleCall
import PyProof.NeKinds
import KE.RegKIsAll
import KE.KTryMore
import KE.RegKTryMore
import PyProof.StationsW
import PyProof.Rows.CatchOwn
import OpenK.KOwn
import PyProof.NsDelKeeps
import PyProof.Rows.RuleN_isinstance
import KE.KSortTup
import PyProof.Rows.StrJoin2
import PyProof.DictItems
import KE.KSetDisp
import KE.KPairComp
import KE.KMinBuiltin
import PyProof.WalkInts
import PyProof.Rows.CallKwBuiltin
import PyProof.Rows.SortWalk
import KE.KListMore
import PyProof.ListRange
import PyProof.RangeFor
import PyProof.CompFree
import PyProof.DictCompW
import PyProof.SliceStr2
import PyProof.StrWalks
import KE.KDictList
import KE.KDictOf
import KE.KEqDict
import PySem.Challenge.RW_nightglass_k12_told_chains
set_option Elab.async false
set_option linter.all false
set_option maxRecDepth 100000
set_option maxHeartbeats 4000000
set_option autoImplicit false
namespace Sh
open PySem PySem.W PyProof.Rows
theorem pair_of{α β γ:Type}{o:Option α}{f:α->β}{g:α->γ}{b:β}{c:γ}(h1:o.map f=some b)(h2:o.map g=some c):o.map (λs=>(f s,g s))=some (b,c):=by
 cases o with
 |none=>cases h1
 |some a=>cases h1;cases h2;rfl
theorem PySem.W.holds_open{r:OpenRow}{q:Program}{loose:List Str}{Xt:Shared->Bool}{XP:(Str->Option Value)->Heap->Prop}{α:Type}{Yf:Shared->α}{Ya:World->α}{YP:World->Heap->Prop}{d:DefRec}{kwd:List (Str×Expr)}{N:Nat}
 (_:True)(hY:∀w s,Yf s=Ya w->YP w s.heap)(hYk:∀w h h',YP w h->(∀b o,h.get? b=some o->h'.get? b=some o)->YP w h')
 (hX:∀s,Xt s=true->XP (s.heap.nsMap mainGlobals) s.heap)(hXk:∀mg h h',XP mg h->(∀b o,h.get? b=some o->h'.get? b=some o)->XP mg h')
 (hdef:defOf q r.name=some (d,kwd))(hp:r.prog.theDef r.name=some (d.params,d.body,d.scope))(hk:kwWritten? d.params.kwonlyargs d.params.kw_defaults=some kwd)(hRf:∀s,Xt s=true->RecFacts r.records s.heap)(hwr:(!r.writes||r.records.isEmpty)=true)
 (k1:r.wellSaid=true)(ok:(chainsOk q&&opensWell r.prog&&(frees r.toRowW&&r.within.isEmpty))=true)(hb:r.prog.bare)(hw:r.toRowW.promised)
 (call:LeftO r.prog q loose Xt Yf Ya N/\WalkO q loose XP YP r.toRowW d kwd λf vs=>PySem.call f vs):r.Holds:=
 _root_.PySem.W.holds_open call.1 hY hYk hX hXk hdef hp hk hRf hwr k1 ok hb hw call.2
end Sh
section
open PySem PySem.W PyProof.Rows
namespace Sh
theorem sd:PySem.Challenge.rw_nightglass_k12_told_chains.wellSaid=true:=by kernel_rfl
end Sh
end
namespace L2
open PySem PySem.Spec PyProof.Rows
abbrev Key:=Sum Int Str
def keyIs:Key->Value->Bool
 |.inl k,v=>Value.isInt k v
 |.inr x,v=>Value.isStrOf x v
def keyH(w:World):Key->Int
 |.inl k=>hashInt k
 |.inr x=>hashStr w x
theorem jzy:∀{k:Key}{v:Value},keyIs k v=true->(∃i t,k=Sum.inl i/\v=Value.int i t)\/(∃x t,k=Sum.inr x/\v=Value.str x t)
 |.inl i,v,h=>by
  obtain⟨t,e⟩:=Value.isInt_shape (k:=i) (v:=v) h
  exact .inl ⟨i,t,rfl,e⟩
 |.inr x,v,h=>by
  obtain⟨t,e⟩:=Value.isStrOf_shape (x:=x) (v:=v) h
  exact .inr ⟨x,t,rfl,e⟩
theorem zzr(i:Int)(t:Tok):keyIs (.inl i) (.int i t)=true:=by simp[keyIs,Value.isInt]
theorem zzq(x:Str)(t:Tok):keyIs (.inr x) (.str x t)=true:=by simp[keyIs,Value.isStrOf]
theorem key_ll(a b:Int):decide ((Sum.inl a:Key)=Sum.inl b)=(a==b):=by
 by_cases e:a=b
 ·subst e;simp
 ·have h:¬(Sum.inl a:Key)=Sum.inl b:=λq=>e (Sum.inl.inj q)
  rw[decide_eq_false h]
  exact(beq_eq_false_iff_ne.mpr e).symm
theorem key_rr(a b:Str):decide ((Sum.inr a:Key)=Sum.inr b)=decide (a=b):=by
 by_cases e:a=b
 ·subst e;simp
 ·have h:¬(Sum.inr a:Key)=Sum.inr b:=λq=>e (Sum.inr.inj q)
  rw[decide_eq_false h,decide_eq_false e]
theorem key_lr(a:Int)(b:Str):decide ((Sum.inl a:Key)=Sum.inr b)=false:=decide_eq_false (λq=>nomatch q)
theorem key_rl(a:Str)(b:Int):decide ((Sum.inr a:Key)=Sum.inl b)=false:=decide_eq_false (λq=>nomatch q)
def mixKind(prog:Program)(w:World):PySem.KeyKind prog w Key where
 is:=keyIs
 hash:=keyH w
 inj:=λv a b ha hb=>by
  rcases jzy ha with ⟨i,t,rfl,rfl⟩|⟨x,t,rfl,rfl⟩
  ·rcases jzy hb with ⟨j,u,rfl,e⟩|⟨y,u,rfl,e⟩
   ·injection e with e1 _;rw[e1]
   ·exact nomatch e
  ·rcases jzy hb with ⟨j,u,rfl,e⟩|⟨y,u,rfl,e⟩
   ·exact nomatch e
   ·injection e with e1 _;rw[e1]
 byValue:=λk v h=>by
  rcases jzy h with ⟨i,t,rfl,rfl⟩|⟨x,t,rfl,rfl⟩<;>rfl
 pyHash:=λhv h=>by
  rcases jzy hv with ⟨i,t,rfl,rfl⟩|⟨x,t,rfl,rfl⟩
  ·exact wpAny_pyHash_int h
  ·exact wpAny_pyHash_str h
 eqBool:=λhu hv h=>by
  rcases jzy hu with ⟨i,t,rfl,rfl⟩|⟨x,t,rfl,rfl⟩
  ·rcases jzy hv with ⟨j,u,rfl,rfl⟩|⟨y,u,rfl,rfl⟩
   ·rw[key_ll] at h;exact wpAny_eqBool_int h
   ·rw[key_lr] at h;exact SeqAt.EqAt.int_str i t y u _ _ _ _ h
  ·rcases jzy hv with ⟨j,u,rfl,rfl⟩|⟨y,u,rfl,rfl⟩
   ·rw[key_rl] at h;exact SeqAt.EqAt.str_int x t j u _ _ _ _ h
   ·rw[key_rr] at h;exact wpAny_eqBool_str h
 «strs»:=λk x t v h=>by
  rcases jzy h with ⟨i,u,rfl,e⟩|⟨y,u,rfl,e⟩
  ·exact nomatch e
  ·injection e with e1 _
   subst e1
   cases v<;>rfl
theorem qzQ(prog:Program)(w:World)(k:Key)(v:Value):(mixKind prog w).is k v=keyIs k v:=rfl
theorem wzZ(prog:Program)(w:World)(i:Int)(t:Tok):(mixKind prog w).is (.inl i) (.int i t)=true:=zzr i t
theorem wzY(prog:Program)(w:World)(x:Str)(t:Tok):(mixKind prog w).is (.inr x) (.str x t)=true:=zzq x t
end L2
namespace L2
open PySem PySem.Spec PyProof.Rows
inductive V where
 |non|bl (b:Bool)|int (i:Int)|str (x:Str)|byt (b:Array UInt8)|flt (b:UInt64)|ref (a:Addr)|ty (n:String)
 deriving DecidableEq
def RelV:V->Value->Prop
 |.non,u=>u=Value.none
 |.bl b,u=>u=Value.bool b
 |.int i,u=>∃t,u=Value.int i t
 |.str x,u=>∃t,u=Value.str x t
 |.byt b,u=>∃t,u=Value.bytes b t
 |.flt b,u=>∃t,u=Value.float b t
 |.ref a,u=>u=Value.ref a
 |.ty n,u=>u=Value.type n
abbrev Vals:List V->List Value->Prop:=Paired RelV
theorem Vals.length{xs:List V}{us:List Value}(r:Vals xs us):xs.length=us.length:=Paired.length r
theorem Vals.get:∀{xs:List V}{us:List Value}{i:Nat}{x:V},Vals xs us->xs[i]? =some x->∃u,us[i]? =some u/\RelV x u
 |_,_,_,_,.nil,e=>by simp at e
 |_,_,0,_,.cons r _,e=>by simp at e;subst e;exact⟨_,rfl,r⟩
 |_,_,i+1,x,.cons _ t,e=>by
  obtain⟨u,h1,h2⟩:=Vals.get (i:=i) (x:=x) t (by simpa using e)
  exact⟨u,by simpa using h1,h2⟩
theorem Vals.set{x:V}{u:Value}(r:RelV x u):∀{xs:List V}{us:List Value}(i:Nat),Vals xs us->Vals (xs.set i x) (us.set i u)
 |_,_,_,.nil=>.nil
 |_,_,0,.cons _ t=>.cons r t
 |_,_,i+1,.cons q t=>.cons q (Vals.set r i t)
theorem Vals.append:∀{xs ys:List V}{us ws:List Value},Vals xs us->Vals ys ws->Vals (xs++ys) (us++ws)
 |_,_,_,_,.nil,s=>s
 |_,_,_,_,.cons r t,s=>.cons r (Vals.append t s)
theorem Vals.take:∀{xs:List V}{us:List Value}(n:Nat),Vals xs us->Vals (xs.take n) (us.take n)
 |_,_,0,_=>.nil
 |_,_,_+1,.nil=>.nil
 |_,_,n+1,.cons r t=>.cons r (Vals.take n t)
theorem Vals.drop:∀{xs:List V}{us:List Value}(n:Nat),Vals xs us->Vals (xs.drop n) (us.drop n)
 |_,_,0,r=>r
 |_,_,_+1,.nil=>.nil
 |_,_,n+1,.cons _ t=>Vals.drop n t
def RelO:Option V->Option Value->Prop
 |some v,some u=>RelV v u
 |none,none=>True
 |_,_=>False
def KV{κ:Type}:List (κ×V)->List (κ×Value)->Prop:=Paired λ(p:κ×V)(q:κ×Value)=>p.1=q.1/\RelV p.2 q.2
def kV:Key->V
 |.inl i=>.int i
 |.inr x=>.str x
inductive HO where
 /-- a list -/
 |lst (xs:List V)
 /-- a tuple (never changes) -/
 |tup (xs:List V)
 /-- a dict whose keys are ints and texts;one whose keys are tuples of ints and texts (the empty one is both) -/
 |dK (kvs:List (Key×V))|dT (kvs:List (List Key×V))
 /-- a set of ints:its members,its size -/
 |set (S:Str->Bool) (n:Nat)
 /-- an instance of the class at C,its dict at dx,its attributes -/
 |ins (C dx:Addr) (fs:List (Str×V))
 /-- the dict of the instance at x -/
 |own (x:Addr)
 /-- the dict of an exception -/
 |xd (fs:List (Str×V))
 /-- a bound method,f of x -/
 |met (f x:Addr)
 /-- a range object lo,lo+1,.. below hi -/
 |rng (lo hi:Int)
 /-- a thing that is known to the object (the script;a dict while a loop walks it):read,never written while it is so -/
 |frz (o:Obj) (u:HO)
 /-- a code object's table -/
 |tbl (ps:Array Value)
 /-- any other thing,by what is true of its one object (a def of one's own:SetO a S n:=HO.ext λh=>..) -/
 |ext (φ:Heap->Prop)
abbrev Hp:=Addr->Option HO
def upd(H:Hp)(a:Addr)(o:HO):Hp:=λb=>if b=a then some o else H b
theorem jzq{H:Hp}{a:Addr}{o:HO}:upd H a o a=some o:=by unfold upd;rw[if_pos rfl]
theorem jzi{H:Hp}{a b:Addr}{o:HO}(h:b≠a):upd H a o b=H b:=by unfold upd;rw[if_neg h]
theorem ne_of{H:Hp}{a b:Addr}{o u:HO}(h:H a=some o)(h':H b=some u)(d:o≠u):a≠b:=by
 intro e;subst e;rw[h] at h';exact d (Option.some.inj h')
theorem jzl{H:Hp}{a b:Addr}{o:HO}(h:H a=some o)(h':H b=none):a≠b:=by
 intro e;subst e;rw[h] at h';cases h'
section
variable (P:Program)(w:World)
def ObjOk(H:Hp)(h:Heap)(a:Addr):HO->Prop
 |.lst xs=>xs.length<=sizeLine/\∃(its:List Value)(n:Nat),Vals xs its/\h.get? a=some {cls:=.type "list",data:=.seq its.toArray n}
 |.tup xs=>xs.length<=sizeLine/\∃its:List Value,Vals xs its/\IsTup h a its.toArray
 |.dK kvs=>kvs.length<=sizeLine/\(a==sysModules)=false/\∃vs,KV kvs vs/\h.DictOf (mixKind P w) a vs
 |.dT kvs=>kvs.length<=sizeLine/\(a==sysModules)=false/\∃xs:List (List Key×Addr×Value),
   Paired (λ(p:List Key×V)(q:List Key×Addr×Value)=>p.1=q.1/\H q.2.1=some (.tup (p.1.map kV))/\RelV p.2 q.2.2) kvs xs/\
   ∃o es ep,h.get? a=some o/\o.ExactDict/\o.data=.dict es ep/\es.toList=xs.map (entryOfKey (tupleKind (mixKind P w)))/\(xs.map (·.1)).Nodup
 |.set S n=>h.SetOf (PySem.strKind P w) a S n
 |.ins C dx fs=>H dx=some (.own a)/\fs.length<=1000/\dx≠a/\h.get? a=some (PySem.W.instObj C dx)/\
   ∃mA,h.Ns1 dx mA/\(∀f,RelO (fs.lookup f) (mA f))/\PySem.Within mA (fs.map (·.1))
 |.own _=>∃o,h.get? a=some o
 |.xd fs=>∃mA,h.Ns1 a mA/\∀f,RelO (fs.lookup f) (mA f)
 |.rng lo hi=>∃t u v,h.get? a=some {cls:=.type "range",data:=.fields #[.int lo t,.int hi u,.int 1 v]}
 |.frz o u=>h.get? a=some o/\ObjOk H h a u
 |.tbl ps=>h.get? a=some {cls:=.none,data:=.fields ps}
 |.met f x=>h.get? a=some (PySem.W.methodObj (.ref f) (.ref x))
 |.ext φ=>φ h/\(∃o,h.get? a=some o)/\∀h1 h2:Heap,φ h1->(∀o,h1.get? a=some o->h2.get? a=some o)->φ h2
def HOk(H:Hp)(h:Heap):Prop:=∀a o,H a=some o->ObjOk P w H h a o
end
section
variable {P:Program}{w:World}{H H':Hp}{h h':Heap}{a:Addr}{o:HO}
theorem ObjOk.lt(x:ObjOk P w H h a o):a<h.objs.size:=by
 cases o with
 |lst xs=>obtain⟨_,_,_,_,e⟩:=x;exact Heap.lt_size e
 |tup xs=>obtain⟨_,_,_,p⟩:=x;exact p.lt
 |dK kvs=>obtain⟨_,_,_,_,o,_,_,e,_⟩:=x;exact Heap.lt_size e
 |dT kvs=>obtain⟨_,_,_,_,o,_,_,e,_⟩:=x;exact Heap.lt_size e
 |set S n=>obtain⟨o,_,_,_,e,_⟩:=x;exact Heap.lt_size e
 |ins C dx fs=>obtain⟨_,_,_,e,_⟩:=x;exact Heap.lt_size e
 |own y=>obtain⟨_,e⟩:=x;exact Heap.lt_size e
 |xd fs=>obtain⟨_,⟨_,_,_,e,_⟩,_⟩:=x;exact Heap.lt_size e
 |rng lo hi=>obtain⟨_,_,_,e⟩:=x;exact Heap.lt_size e
 |frz ob u=>obtain⟨e,_⟩:=x;exact Heap.lt_size e
 |tbl ps=>exact Heap.lt_size (show h.get? a=some _ from x)
 |met f y=>exact Heap.lt_size (show h.get? a=some _ from x)
 |ext φ=>obtain⟨_,⟨_,e⟩,_⟩:=x;exact Heap.lt_size e
theorem Paired.mapP{α β:Type}{F G:α->β->Prop}:∀{l₁:List α}{l₂:List β},Paired F l₁ l₂->(∀a b,F a b->G a b)->Paired G l₁ l₂
 |_,_,.nil,_=>.nil
 |_,_,.cons r t,f=>.cons (f _ _ r) (Paired.mapP t f)
theorem ObjOk.stay(x:ObjOk P w H h a o)(k:∀b u,(b=a\/H b=some (.own a))->h.get? b=some u->h'.get? b=some u)
 (ho:∀b,H b=some (.own a)->H' b=some (.own a))(ht:∀b xs,H b=some (.tup xs)->H' b=some (.tup xs)):ObjOk P w H' h' a o:=by
 induction o with
 |lst xs=>obtain⟨z,its,n,r,e⟩:=x;exact⟨z,its,n,r,k _ _ (.inl rfl) e⟩
 |tup xs=>obtain⟨z,its,r,ob,e,c⟩:=x;exact⟨z,its,r,ob,k _ _ (.inl rfl) e,c⟩
 |dK kvs=>obtain⟨z,y,vs,r,ob,es,ep,e,c⟩:=x;exact⟨z,y,vs,r,ob,es,ep,k _ _ (.inl rfl) e,c⟩
 |dT kvs=>
  obtain⟨z,y,xs,r,ob,es,ep,e,c⟩:=x
  exact⟨z,y,xs,Paired.mapP r λp q z=>⟨z.1,ht _ _ z.2.1,z.2.2⟩,ob,es,ep,k _ _ (.inl rfl) e,c⟩
 |set S n=>obtain⟨ob,es,ep,t,e,c⟩:=x;exact⟨ob,es,ep,t,k _ _ (.inl rfl) e,c⟩
 |ins C dx fs=>
  obtain⟨d,z,ne,e,mA,⟨od,es,ep,e2,c⟩,r⟩:=x
  exact⟨ho _ d,z,ne,k _ _ (.inl rfl) e,mA,⟨od,es,ep,k _ _ (.inr d) e2,c⟩,r⟩
 |own y=>obtain⟨ob,e⟩:=x;exact⟨ob,k _ _ (.inl rfl) e⟩
 |xd fs=>obtain⟨mA,⟨od,es,ep,e,c⟩,r⟩:=x;exact⟨mA,⟨od,es,ep,k _ _ (.inl rfl) e,c⟩,r⟩
 |rng lo hi=>obtain⟨t,u,v,e⟩:=x;exact⟨t,u,v,k _ _ (.inl rfl) e⟩
 |frz ob u ih=>obtain⟨e,q⟩:=x;exact⟨k _ _ (.inl rfl) e,ih q⟩
 |tbl ps=>
  have e:h.get? a=some {cls:=.none,data:=.fields ps}:=x
  show h'.get? a=some {cls:=.none,data:=.fields ps}
  exact k a _ (.inl rfl) e
 |met f y=>
  have e:h.get? a=some (PySem.W.methodObj (.ref f) (.ref y)):=x
  show h'.get? a=some (PySem.W.methodObj (.ref f) (.ref y))
  exact k a _ (.inl rfl) e
 |ext φ=>obtain⟨p,⟨o,e⟩,st⟩:=x;exact⟨st _ _ p λo q=>k _ _ (.inl rfl) q,⟨o,k _ _ (.inl rfl) e⟩,st⟩
theorem HOk.lt(x:HOk P w H h)(e:H a=some o):a<h.objs.size:=(x a o e).lt
theorem HOk.fresh(x:HOk P w H h)(e:h.objs.size<=a):H a=none:=by
 cases q:H a with
 |none=>rfl
 |some u=>exact absurd (Nat.lt_of_lt_of_le (x.lt q) e) (Nat.lt_irrefl _)
theorem HOk.kept(x:HOk P w H h)(k:∀b u,h.get? b=some u->h'.get? b=some u):HOk P w H h':=λa o e=>
 (x a o e).stay (λb u _ q=>k b u q) (λ_ q=>q) λ_ _ q=>q
theorem HOk.laid(x:HOk P w H h)(k:∀b u,h.get? b=some u->h'.get? b=some u)(hp:h.objs.size<=a)(new:ObjOk P w (upd H a o) h' a o):HOk P w (upd H a o) h':=λb u e=>by
 have hn:=x.fresh hp
 by_cases hb:b=a
 ·subst hb;rw[jzq] at e;cases e;exact new
 ·rw[jzi hb] at e
  exact(x b u e).stay (λc v _ q=>k c v q) (λc q=>by rw[jzi (jzl q hn)];exact q) λc xs q=>by rw[jzi (jzl q hn)];exact q
end
def Rd(H:Hp)(a:Addr)(u:HO):Prop:=H a=some u\/∃o,H a=some (.frz o u)
theorem Rd.ok{P:Program}{w:World}{H:Hp}{h:Heap}{a:Addr}{u:HO}(r:Rd H a u)(x:HOk P w H h):ObjOk P w H h a u:=by
 rcases r with r|⟨o,r⟩
 ·exact x a u r
 ·obtain⟨_,q⟩:=x a _ r
  exact q
def Mut:Option HO->Prop
 |some (.lst _)=>True
 |some (.dK _)=>True
 |some (.dT _)=>True
 |some (.set _ _)=>True
 |some (.ins _ _ _)=>True
 |some (.ext _)=>True
 |_=>False
section
variable {P:Program}{w:World}{H:Hp}{h h':Heap}{x e:Addr}{o':HO}
theorem HOk.write(ok:HOk P w H h)(mu:Mut (H x))(he:e=x\/H e=some (.own x))(k:∀b u,b≠e->h.get? b=some u->h'.get? b=some u)(heo:∃u,h'.get? e=some u)
 (new:ObjOk P w (upd H x o') h' x o'):HOk P w (upd H x o') h':=λb u q=>by
 have nown:∀c y,H c=some (.own y)->c≠x:=λc y r z=>by subst z;rw[r] at mu;exact mu
 have ntup:∀c xs,H c=some (.tup xs)->c≠x:=λc xs r z=>by subst z;rw[r] at mu;exact mu
 by_cases hb:b=x
 ·subst hb;rw[jzq] at q;cases q;exact new
 ·rw[jzi hb] at q
  by_cases hbe:b=e
  ·have q':H b=some (.own x):=by
    rcases he with z|z
    ·exact absurd (hbe.trans z) hb
    ·rw[hbe];exact z
   rw[q] at q';cases q'
   obtain⟨v,hv⟩:=heo
   exact⟨v,by rw[hbe];exact hv⟩
  ·refine(ok b u q).stay (λc v hc r=>k c v ?_ r) (λc r=>by rw[jzi (nown c b r)];exact r) λc xs r=>by rw[jzi (ntup c xs r)];exact r
   rcases hc with rfl|hc
   ·exact hbe
   ·rintro rfl
    rcases he with z|z
    ·exact nown c b hc z
    ·rw[hc] at z;cases z;exact hb rfl
end
structure Un (fs ex:List Addr)(H H':Hp)(h h':Heap):Prop where
 keep:∀b o,h.get? b=some o->H b=none->b ∉ fs->b ∉ ex->h'.get? b=some o
 slot:∀b o,h.get? b=some o->H b=none->b∈fs->b ∉ ex->∃sl,h'.get? b=some {o with slots:=sl}
 free:∀b o,h.get? b=some o->H b=none->b ∉ ex->H' b=none
 there:∀b o,h.get? b=some o->b ∉ ex->∃o',h'.get? b=some o'
 tups:∀b xs,H b=some (.tup xs)->H' b=some (.tup xs)
 frzs:∀b o u,H b=some (.frz o u)->H' b=some (.frz o u)
 tbls:∀b ps,H b=some (.tbl ps)->∃more,H' b=some (.tbl (ps++more))
section
variable {fs fs' ex ex':List Addr}{H H1 H2:Hp}{h h1 h2 h':Heap}{a x e:Addr}{o:HO}
theorem Un.any(u:Un fs ex H H1 h h1){b:Addr}{ob:Obj}(q:h.get? b=some ob)(n:H b=none)(hx:b ∉ ex):∃sl,h1.get? b=some {ob with slots:=sl}:=by
 by_cases hb:b∈fs
 ·exact u.slot b ob q n hb hx
 ·exact⟨ob.slots,u.keep b ob q n hb hx⟩
theorem Un.kept(k:∀b u,h.get? b=some u->h'.get? b=some u):Un fs ex H H h h':=
 ⟨λb ob q _ _ _=>k b ob q,λb ob q _ _ _=>⟨ob.slots,k b ob q⟩,λ_ _ _ n _=>n,λb ob q _=>⟨ob,k b ob q⟩,λ_ _ q=>q,λ_ _ _ q=>q,λ_ ps q=>⟨#[],by rw[q];simp⟩⟩
theorem Un.refl:Un fs ex H H h h:=Un.kept λ_ _ q=>q
theorem Un.laid(k:∀b u,h.get? b=some u->h'.get? b=some u)(hp:h.objs.size<=a)(hn:H a=none):Un fs ex H (upd H a o) h h' where
 keep:=λb u q _ _ _=>k b u q
 slot:=λb u q _ _ _=>⟨u.slots,k b u q⟩
 free:=λb u q n _=>by rw[jzi (Nat.ne_of_lt (Nat.lt_of_lt_of_le (Heap.lt_size q) hp))];exact n
 there:=λb u q _=>⟨u,k b u q⟩
 tups:=λb xs q=>by rw[jzi (jzl q hn)];exact q
 frzs:=λb u xs q=>by rw[jzi (jzl q hn)];exact q
 tbls:=λb ps q=>⟨#[],by rw[jzi (jzl q hn),q];simp⟩
theorem Un.write(mu:Mut (H x))(he:e=x\/H e=some (.own x))(k:∀b u,b≠e->h.get? b=some u->h'.get? b=some u)(heo:∃u,h'.get? e=some u):Un fs ex H (upd H x o) h h':=by
 have hx:∀b,H b=none->b≠x:=λb n z=>by subst z;rw[n] at mu;exact mu
 have hb:∀b,H b=none->b≠e:=λb n z=>by
  subst z
  rcases he with r|r
  ·exact hx b n r
  ·rw[n] at r;cases r
 have hm:∀b u,H b=some u->¬Mut (some u)->b≠x:=λb u q nm z=>by subst z;rw[q] at mu;exact nm mu
 refine⟨λb u q n _ _=>k b u (hb b n) q,λb u q n _ _=>⟨u.slots,k b u (hb b n) q⟩,λb u q n _=>by rw[jzi (hx b n)];exact n,λb u q _=>?_,
  λb xs q=>by rw[jzi (hm b _ q λz=>z)];exact q,λb u xs q=>by rw[jzi (hm b _ q λz=>z)];exact q,λb ps q=>⟨#[],by rw[jzi (hm b _ q λz=>z),q];simp⟩⟩
 by_cases hbe:b=e
 ·subst hbe;exact heo
 ·exact⟨u,k b u hbe q⟩
end
def trk(h:Heap)(H:Hp):List Addr:=(List.range h.objs.size).filter λa=>(H a).isSome
def hidT(h:Heap)(H:Hp):Heap:=PySem.W.hideAll h (trk h H)
theorem zzv(h:Heap)(H:Hp):(hidT h H).objs.size=h.objs.size:=PySem.W.hideAll_size _ _
theorem hidT_get{h:Heap}{H:Hp}{b:Addr}{o:Obj}(e:h.get? b=some o)(n:H b=none):(hidT h H).get? b=some o:=
 PySem.W.hideAll_get _ e λhm=>by
  have q:(H b).isSome=true:=(List.mem_filter.mp hm).2
  rw[n] at q;simp at q
theorem of_hidT{h:Heap}{H:Hp}{b:Addr}{o:Obj}(e:(hidT h H).get? b=some o):h.get? b=some o/\H b=none:=by
 have e':h.get? b=some o:=PySem.W.of_hideAll (trk h H) e
 refine⟨e',?_⟩
 cases q:H b with
 |none=>rfl
 |some x=>
  have hm:b∈trk h H:=List.mem_filter.mpr ⟨List.mem_range.mpr (Heap.lt_size e'),by simp[q]⟩
  have z:(hidT h H).get? b=none:=PySem.W.hideAll_none (trk h H) hm
  rw[z] at e;cases e
def allNews(g h:Heap)(L:Addr):List (Addr×Obj):=(List.range h.objs.size).filterMap λa=>if a=L\/(g.get? a).isSome=true then none else(h.get? a).map λo=>(a,o)
theorem jz0{g h:Heap}{L a:Addr}{o:Obj}(h1:a≠L)(h2:g.get? a=none)(h3:h.get? a=some o):(a,o)∈allNews g h L:=
 List.mem_filterMap.mpr ⟨a,List.mem_range.mpr (Heap.lt_size h3),by simp[h1,h2,h3]⟩
theorem qzM{g h:Heap}{L:Addr}{p:Addr×Obj}(hp:p∈allNews g h L):p.1≠L/\g.get? p.1=none/\h.get? p.1=some p.2:=by
 obtain⟨b,_,e⟩:=List.mem_filterMap.mp hp
 split at e
 ·cases e
 ·rename_i hn
  cases q:h.get? b with
  |none=>rw[q] at e;simp at e
  |some u=>
   rw[q] at e
   simp only[Option.map_some,Option.some.injEq] at e
   subst e
   refine⟨λz=>hn (.inl z),?_,q⟩
   show g.get? b=none
   cases r:g.get? b with
   |none=>rfl
   |some v=>exact(hn (.inr (by simp[r]))).elim
def rest(g h:Heap)(L d:Addr):List (Addr×Obj):=(allNews g h L).filter λp=>decide (p.1≠d)
theorem news_all{g h:Heap}{L:Addr}:News g L h (allNews g h L):=λp hp=>let⟨a,b,c⟩:=qzM hp;⟨c,a,b⟩
end L2
namespace L2
open PySem PySem.Spec PyProof.Rows
structure Mod (K:PySem.W.Frag)(mg:Str->Option Value)(base:Heap):Prop where
 kin:K.In base
 glob:base.Ns mainGlobals mg
 blt:∃mb,base.Ns builtinsNs mb/\∀x:Str,x≠"__name__"->mb x=bootBuiltins x
 nolimit:base.NoLimit
structure Cx where
 prog:Program
 w:World
 K:PySem.W.Frag
 mg:Str->Option Value
 base:Heap
 A:Around
 N:List Str
 s₀:Shared
 H₀:Hp
 env:Env
 outer:List Env
 stack:List Env
 ex:List Addr
 fn:Str->Bool
 calm:Bool
 pn:List (Addr×Obj)
 xe:Value->Shared->Prop
def frs(l:List Env):List Addr:=l.filterMap (·.frame)
abbrev Cx.fs(X:Cx):List Addr:=frs X.outer
def Vis(sc:Scope)(x:Str):Prop:=sc.names.lookup x=some .local\/sc.names.lookup x=some .cell\/sc.names.lookup x=some .free
def Loc(sc:Scope)(x:Str):Prop:=sc.names.lookup x=some .local\/sc.names.lookup x=some .cell
def Look(env:Env)(h:Heap)(m:Str->Option Value)(x:Str)(u:Value):Prop:=
 (env.kindOf x=some .local/\m x=some u)\/((env.kindOf x=some .cell\/env.kindOf x=some .free)/\∃c,env.cells.lookup x=some c/\h.IsCell c (some u))
structure Cx.Ok (X:Cx):Prop where
 mod:Mod X.K X.mg X.base
 kind:X.env.scope.kind=.function
 glob:X.env.globals=mainGlobals
 blt:X.env.builtins=builtinsNs
 above:X.s₀.heap.objs.size<=X.env.locals
 inj:∀x y c,X.env.cells.lookup x=some c->X.env.cells.lookup y=some c->x=y
 has:∀x,(X.env.kindOf x=some .cell\/X.env.kindOf x=some .free)->∃c,X.env.cells.lookup x=some c
 cab:∀x c,X.fn x=true->X.env.cells.lookup x=some c->X.s₀.heap.objs.size<=c
 hd:X.calm=true->X.A.handled=none
 frames:X.A.frames=some X.stack
 stk:X.stack=X.outer\/(X.stack=X.env::X.outer/\X.env.frame=some X.env.locals)
 exf:∀b∈X.ex,b≠X.env.locals/\∀x c,X.env.cells.lookup x=some c->c≠b
 bs:∀b o,X.base.get? b=some o->X.s₀.heap.get? b=some o/\X.H₀ b=none
 bsz:X.base.objs.size<=X.s₀.heap.objs.size
 noex:∀b o,X.base.get? b=some o->b ∉ X.ex
 exfs:∀b∈X.ex,b ∉ X.fs
 funs:X.s₀.heap.FunFrames X.base X.outer
 frf:∀b∈X.fs,X.H₀ b=none
structure Inv (X:Cx)(pins:List (Addr×Obj))(σ:List (Option V))(H:Hp)(s:Shared):Prop where
 ok:X.Ok
 os:s.os=X.s₀.os
 bare:AllBare s.gens
 base:Un X.fs X.ex X.H₀ H X.s₀.heap s.heap
 loc:∃m,s.heap.Ns X.env.locals m/\∀(i:Nat)(x:Str)(v:V),X.N[i]? =some x->σ[i]? =some (some v)->Vis X.env.scope x->∃u,RelV v u/\Look X.env s.heap m x u
 cell:∀x c,X.env.cells.lookup x=some c->∃v,s.heap.IsCell c v
 free:H X.env.locals=none
 freeC:∀x c,X.env.cells.lookup x=some c->H c=none
 pin:∀p∈X.pn++pins,s.heap.get? p.1=some p.2/\H p.1=none/\p.1≠X.env.locals/\p.1 ∉ X.fs/\∀v,p.2.data≠ .cell v
 hok:HOk X.prog X.w H s.heap
 len:σ.length=X.N.length
section
variable {X:Cx}{pins:List (Addr×Obj)}{σ:List (Option V)}{H H':Hp}{s:Shared}{h':Heap}
theorem Cx.Ok.nofr(ok:X.Ok){b:Addr}{o:Obj}(e:X.base.get? b=some o):b ∉ X.fs:=λhb=>by
 have:=(ok.funs.mem hb).1
 rw[e] at this;cases this
theorem Inv.bs(I:Inv X pins σ H s):∀b o,X.base.get? b=some o->s.heap.get? b=some o/\H b=none:=λb o e=>
 ⟨I.base.keep b o (I.ok.bs b o e).1 (I.ok.bs b o e).2 (I.ok.nofr e) (I.ok.noex b o e),I.base.free b o (I.ok.bs b o e).1 (I.ok.bs b o e).2 (I.ok.noex b o e)⟩
theorem Inv.bk(I:Inv X pins σ H s):∀b o,X.base.get? b=some o->s.heap.get? b=some o:=λb o e=>(I.bs b o e).1
theorem Inv.mod(I:Inv X pins σ H s):Mod X.K X.mg X.base:=I.ok.mod
theorem Inv.kIn(I:Inv X pins σ H s):X.K.In s.heap:=I.ok.mod.kin.keeps I.bk
theorem Inv.fr(I:Inv X pins σ H s):∃m,Fr X.base X.env.locals s.heap m:=
 let⟨m,hn,_⟩:=I.loc
 ⟨m,hn,I.bk,Nat.le_trans I.ok.bsz I.ok.above⟩
theorem Inv.lt(I:Inv X pins σ H s):X.env.locals<s.heap.objs.size:=let⟨_,hn,_⟩:=I.loc;hn.lt
theorem Inv.sz(I:Inv X pins σ H s):X.s₀.heap.objs.size<=s.heap.objs.size:=Nat.le_trans I.ok.above (Nat.le_of_lt I.lt)
theorem Inv.nofs(I:Inv X pins σ H s){a:Addr}(h:s.heap.objs.size<=a):a ∉ X.fs:=λhb=>by
 obtain⟨_,o,ho,_⟩:=I.ok.funs.mem hb
 exact absurd (Nat.lt_of_lt_of_le (Heap.lt_size ho) (Nat.le_trans I.sz h)) (Nat.lt_irrefl _)
theorem Inv.cne(I:Inv X pins σ H s):∀x c,X.env.cells.lookup x=some c->c≠X.env.locals:=λx c e z=>by
 obtain⟨v,o,ho,hd⟩:=I.cell x c e
 obtain⟨m,⟨o',es,ep,ho',hd',_⟩,_⟩:=I.loc
 rw[z,ho'] at ho;cases ho;rw[hd'] at hd;cases hd
theorem Inv.funs(I:Inv X pins σ H s):s.heap.FunFrames X.base X.outer:=by
 have all:∀(l:List Env),(∀b∈frs l,b∈X.fs)->X.s₀.heap.FunFrames X.base l->s.heap.FunFrames X.base l:=by
  intro l
  induction l with
  |nil=>intro _ _;trivial
  |cons env r ih=>
   intro hs hl
   obtain⟨hk,⟨L,o,hf,hn,ho,hd⟩,hr⟩:=hl
   have hL:L∈X.fs:=hs L (by unfold frs;rw[List.filterMap_cons,hf];exact List.mem_cons_self)
   obtain⟨sl,e⟩:=I.base.slot L o ho (I.ok.frf L hL) hL λz=>I.ok.exfs L z hL
   exact⟨hk,⟨L,_,hf,hn,e,hd⟩,ih (λb hb=>hs b (by unfold frs;rw[List.filterMap_cons,hf];exact List.mem_cons_of_mem _ hb)) hr⟩
 exact all X.outer (λ_ hb=>hb) I.ok.funs
theorem Inv.stack(I:Inv X pins σ H s):s.heap.FunFrames X.base X.stack:=by
 rcases I.ok.stk with e|⟨e,hf⟩
 ·rw[e];exact I.funs
 ·rw[e]
  obtain⟨m,hn,_⟩:=I.loc
  refine .cons (by rw[I.ok.kind];decide) hf hn ?_ I.funs
  exact Heap.get?_none_of_le (Nat.le_trans I.ok.bsz I.ok.above)
theorem Inv.stkSub(I:Inv X pins σ H s):∀b∈frs X.stack,b∈X.env.locals::X.fs:=λb hb=>by
 rcases I.ok.stk with e|⟨e,hf⟩
 ·rw[e] at hb;exact List.mem_cons_of_mem _ hb
 ·rw[e] at hb
  unfold frs at hb
  rw[List.filterMap_cons,hf] at hb
  exact hb
theorem Inv.stkFree(I:Inv X pins σ H s):∀b∈frs X.stack,H b=none:=λb hb=>by
 rcases List.mem_cons.mp (I.stkSub b hb) with e|hb
 ·rw[e];exact I.free
 ·obtain⟨_,o,ho,_⟩:=I.ok.funs.mem hb
  exact I.base.free b o ho (I.ok.frf b hb) λz=>I.ok.exfs b z hb
theorem Inv.step{g':Array GenState}{t':Nat}{d':Drawn}{ch:List Addr}(I:Inv X pins σ H s)
 (hch:∀b∈ch,(b∈X.ex\/X.s₀.heap.objs.size<=b)/\b≠X.env.locals/\(∀x c,X.env.cells.lookup x=some c->c≠b)/\∀p∈X.pn++pins,p.1≠b)
 (keep:∀b o,b≠X.env.locals->b ∉ X.fs->b ∉ ch->s.heap.get? b=some o->H b=none->h'.get? b=some o)
 (slot:∀b o,b≠X.env.locals->b∈X.fs->b ∉ ch->s.heap.get? b=some o->H b=none->∃sl,h'.get? b=some {o with slots:=sl})(free:∀b o,b ∉ ch->s.heap.get? b=some o->H b=none->H' b=none)
 (there:∀b o,b ∉ ch->s.heap.get? b=some o->∃o',h'.get? b=some o')
 (tups:∀b xs,H b=some (.tup xs)->H' b=some (.tup xs))(frzs:∀b o u,H b=some (.frz o u)->H' b=some (.frz o u))(tbls:∀b ps,H b=some (.tbl ps)->∃more,H' b=some (.tbl (ps++more)))
 (ns:∀m,s.heap.Ns X.env.locals m->h'.Ns X.env.locals m)(hok:HOk X.prog X.w H' h')(hg:AllBare g'):
 Inv X pins σ H' {s with heap:=h',gens:=g',drawn:=d',toks:=t'}:=by
 have neL:∀b o,X.s₀.heap.get? b=some o->b≠X.env.locals:=λb o e=>Nat.ne_of_lt (Nat.lt_of_lt_of_le (Heap.lt_size e) I.ok.above)
 have neC:∀b o,X.s₀.heap.get? b=some o->b ∉ X.ex->b ∉ ch:=λb o e hx hb=>by
  rcases(hch b hb).1 with z|z
  ·exact hx z
  ·exact absurd (Nat.lt_of_lt_of_le (Heap.lt_size e) z) (Nat.lt_irrefl _)
 have cellK:∀x c,X.env.cells.lookup x=some c->∀v,s.heap.IsCell c v->h'.IsCell c v:=λx c e v ⟨o,ho,hd⟩=>by
  have nch:c ∉ ch:=λz=>(hch c z).2.2.1 x c e rfl
  by_cases hc:c∈X.fs
  ·obtain⟨sl,q⟩:=slot c o (I.cne x c e) hc nch ho (I.freeC x c e)
   exact⟨_,q,hd⟩
  ·exact⟨o,keep c o (I.cne x c e) hc nch ho (I.freeC x c e),hd⟩
 refine⟨I.ok,I.os,hg,⟨λb o e n hb hx=>?_,λb o e n hb hx=>?_,λb o e n hx=>?_,λb o e hx=>?_,λb xs e=>tups b xs (I.base.tups b xs e),λb o xs e=>frzs b o xs (I.base.frzs b o xs e),λb ps e=>?_⟩,?_,λx c e=>?_,?_,λx c e=>?_,λp hp=>?_,hok,I.len⟩
 ·exact keep b o (neL b o e) hb (neC b o e hx) (I.base.keep b o e n hb hx) (I.base.free b o e n hx)
 ·obtain⟨sl,e1⟩:=I.base.slot b o e n hb hx
  obtain⟨sl',e2⟩:=slot b _ (neL b o e) hb (neC b o e hx) e1 (I.base.free b o e n hx)
  exact⟨sl',e2⟩
 ·obtain⟨o',e1⟩:=I.base.there b o e hx
  exact free b o' (neC b o e hx) e1 (I.base.free b o e n hx)
 ·obtain⟨o',e1⟩:=I.base.there b o e hx
  exact there b o' (neC b o e hx) e1
 ·obtain⟨m1,e1⟩:=I.base.tbls b ps e
  obtain⟨m2,e2⟩:=tbls b _ e1
  exact⟨m1++m2,by rw[e2,Array.append_assoc]⟩
 ·obtain⟨m,hn,hl⟩:=I.loc
  refine⟨m,ns m hn,λi x v e1 e2 e3=>?_⟩
  obtain⟨u,r,l⟩:=hl i x v e1 e2 e3
  refine⟨u,r,?_⟩
  rcases l with l|⟨k,c,e,z⟩
  ·exact .inl l
  ·exact .inr ⟨k,c,e,cellK x c e _ z⟩
 ·obtain⟨v,z⟩:=I.cell x c e
  exact⟨v,cellK x c e v z⟩
 ·obtain⟨m,⟨o,_,_,ho,_⟩,_⟩:=I.loc
  exact free _ o (λz=>(hch _ z).2.1 rfl) ho I.free
 ·obtain⟨v,o,ho,hd⟩:=I.cell x c e
  exact free c o (λz=>(hch c z).2.2.1 x c e rfl) ho (I.freeC x c e)
 ·obtain⟨e,n,ne,nf,d⟩:=I.pin p hp
  have nch:p.1 ∉ ch:=λz=>(hch p.1 z).2.2.2 p hp rfl
  exact⟨keep p.1 p.2 ne nf nch e n,free p.1 p.2 nch e n,ne,nf,d⟩
theorem Inv.un{t':Nat}(I:Inv X pins σ H s)(u:Un X.fs [] H H' s.heap h')(hok:HOk X.prog X.w H' h'):Inv X pins σ H' {s with heap:=h',toks:=t'}:=by
 obtain⟨m,⟨o,es,ep,ho,r⟩,_⟩:=id I.loc
 obtain⟨sl,hL⟩:=u.any ho I.free (by simp)
 exact I.step (g':=s.gens) (d':=s.drawn) (ch:= []) (λ_ z=>nomatch z) (λb o _ hb _ e n=>u.keep b o e n hb (by simp)) (λb o _ hb _ e n=>u.slot b o e n hb (by simp)) (λb o _ e n=>u.free b o e n (by simp)) (λb o _ e=>u.there b o e (by simp)) u.tups u.frzs u.tbls (λm' hm=>by
  obtain⟨o',es',ep',ho',r'⟩:=hm
  rw[ho] at ho';cases ho'
  exact⟨_,es',ep',hL,r'⟩) hok I.bare
theorem Inv.call{g':Array GenState}{t':Nat}{d':Drawn}{ch:List Addr}(I:Inv X pins σ H s)(u:Un (frs X.stack) ch H H' s.heap h')(hok:HOk X.prog X.w H' h')(hg:AllBare g')
 (hch:∀b∈ch,(b∈X.ex\/X.s₀.heap.objs.size<=b)/\b≠X.env.locals/\(∀x c,X.env.cells.lookup x=some c->c≠b)/\∀p∈X.pn++pins,p.1≠b):
 Inv X pins σ H' {s with heap:=h',gens:=g',drawn:=d',toks:=t'}:=by
 obtain⟨m,⟨o,es,ep,ho,r⟩,_⟩:=id I.loc
 obtain⟨sl,hL⟩:=u.any ho I.free λz=>(hch _ z).2.1 rfl
 exact I.step (ch:=ch) hch (λb o hL hb hc e n=>u.keep b o e n (λz=>(List.mem_cons.mp (I.stkSub b z)).elim hL hb) hc) (λb o _ _ hc e n=>u.any e n hc) (λb o hc e n=>u.free b o e n hc) (λb o hc e=>u.there b o e hc) u.tups u.frzs u.tbls (λm' hm=>by
  obtain⟨o',es',ep',ho',r'⟩:=hm
  rw[ho] at ho';cases ho'
  exact⟨_,es',ep',hL,r'⟩) hok hg
theorem Inv.turned{t':Nat}{it:Addr}(I:Inv X pins σ H s)(k:∀b o,b≠it->s.heap.get? b=some o->h'.get? b=some o)(hn:H it=none)(hL:it≠X.env.locals)
 (h1:it∈X.ex\/X.s₀.heap.objs.size<=it)(h2:∀x c,X.env.cells.lookup x=some c->c≠it)(h3:∀p∈X.pn++pins,p.1≠it):Inv X pins σ H {s with heap:=h',toks:=t'}:=by
 have nit:∀b u,H b=some u->b≠it:=λb u e z=>by rw[z,hn] at e;cases e
 refine I.step (g':=s.gens) (d':=s.drawn) (ch:= [it]) (λb hb=>?_) (λb o _ _ hc e _=>k b o (λz=>hc (by simp[z])) e) (λb o _ _ hc e _=>⟨o.slots,k b o (λz=>hc (by simp[z])) e⟩) (λ_ _ _ _ n=>n)
  (λb o hc e=>⟨o,k b o (λz=>hc (by simp[z])) e⟩) (λ_ _ e=>e) (λ_ _ _ e=>e) (λb ps e=>⟨#[],by rw[e];simp⟩) (λm hm=>?_) (λb u e=>?_) I.bare
 ·have e:b=it:=by simpa using hb
  subst e
  exact⟨h1,hL,h2,h3⟩
 ·obtain⟨o,es,ep,ho,r⟩:=hm
  exact⟨o,es,ep,k _ o (Ne.symm hL) ho,r⟩
 ·refine(I.hok b u e).stay (λc v hc q=>k c v ?_ q) (λ_ q=>q) λ_ _ q=>q
  rcases hc with z|z
  ·rw[z];exact nit b u e
  ·exact nit c _ z
theorem Inv.tok(I:Inv X pins σ H s)(t:Nat):Inv X pins σ H {s with toks:=t}:=I.un (h':=s.heap) (t':=t) Un.refl I.hok
theorem Inv.kept{t':Nat}(I:Inv X pins σ H s)(k:∀b u,s.heap.get? b=some u->h'.get? b=some u):Inv X pins σ H {s with heap:=h',toks:=t'}:=I.un (Un.kept k) (I.hok.kept k)
theorem Inv.laid{a:Addr}{o:HO}{t':Nat}(I:Inv X pins σ H s)(k:∀b u,s.heap.get? b=some u->h'.get? b=some u)(hp:s.heap.objs.size<=a)(new:ObjOk X.prog X.w (upd H a o) h' a o):
 Inv X pins σ (upd H a o) {s with heap:=h',toks:=t'}:=I.un (Un.laid k hp (I.hok.fresh hp)) (I.hok.laid k hp new)
theorem Inv.write{x e:Addr}{o:HO}{t':Nat}(I:Inv X pins σ H s)(mu:Mut (H x))(he:e=x\/H e=some (.own x))(k:∀b u,b≠e->s.heap.get? b=some u->h'.get? b=some u)(heo:∃u,h'.get? e=some u)
 (new:ObjOk X.prog X.w (upd H x o) h' x o):Inv X pins σ (upd H x o) {s with heap:=h',toks:=t'}:=I.un (Un.write mu he k heo) (I.hok.write mu he k heo new)
theorem Inv.pins_of{pins':List (Addr×Obj)}(I:Inv X pins σ H s)(h:∀p∈pins',s.heap.get? p.1=some p.2/\H p.1=none/\p.1≠X.env.locals/\p.1 ∉ X.fs/\∀v,p.2.data≠ .cell v):Inv X pins' σ H s:=
 ⟨I.ok,I.os,I.bare,I.base,I.loc,I.cell,I.free,I.freeC,λp hp=>(List.mem_append.mp hp).elim (λz=>I.pin p (List.mem_append_left _ z)) (h p),I.hok,I.len⟩
theorem vzp{N:List Str}(hN:N.Nodup){i j:Nat}{x:Str}(a:N[i]? =some x)(b:N[j]? =some x):i=j:=by
 obtain⟨h1,e1⟩:=List.getElem?_eq_some_iff.mp a
 obtain⟨h2,e2⟩:=List.getElem?_eq_some_iff.mp b
 exact(List.getElem_inj hN).mp (e1.trans e2.symm)
theorem qzt{M:Model}{A:Around}{E:Value->Shared->Prop}{i:Nat}{x:Str}{v:V}{u:Value}{Q:Unit->Shared->Prop}(I:Inv X pins σ H s)(hN:X.N.Nodup)(hi:X.N[i]? =some x)(hx:Loc X.env.scope x)(r:RelV v u)
 (h:∀s',Inv X pins (σ.set i (some v)) H s'->(∃a,Heap.SameBut a s.heap s'.heap/\(a=X.env.locals\/X.env.cells.lookup x=some a))->Q () s')(hf:X.fn x=true\/X.env.scope.names.lookup x=some .local:=by first |exact .inl rfl|exact .inr rfl|assumption):wpAny M A (storeName X.env x u) Q E s:=by
 obtain⟨m,hn,hl⟩:=id I.loc
 have hcls:(X.env.scope.kind== .class||(X.env.scope.kind== .module&&X.env.locals != X.env.globals))=false:=by rw[I.ok.kind];rfl
 have hiσ:i<σ.length:=by rw[I.len];exact(List.getElem?_eq_some_iff.mp hi).1
 have cne:=I.cne
 have tracked:∀{a:Addr}{h':Heap},(∃o,s.heap.get? a=some o/\H a=none)->Heap.SameBut a s.heap h'->HOk X.prog X.w H h':=λ{a h'} ha hs b ob e=>by
  obtain⟨_,_,hfree⟩:=ha
  refine(I.hok b ob e).stay (λc w' hc q=>(hs.2 c ?_).trans q) (λ_ q=>q) λ_ _ q=>q
  rintro rfl
  rcases hc with rfl|hc
  ·rw[hfree] at e;cases e
  ·rw[hfree] at hc;cases hc
 rcases hx with hk|hk
 ·refine wpAny_storeName_local hk hn (λh' hn' hs=>?_) hcls
  obtain⟨oL,_,_,hoL,_⟩:=id hn
  refine h _ ⟨I.ok,I.os,I.bare,⟨λb o e n hb hx=>?_,λb o e n hb hx=>?_,I.base.free,λb o e hx=>?_,I.base.tups,I.base.frzs,I.base.tbls⟩,⟨_,hn',λj y v' e1 e2 e3=>?_⟩,λy c e=>?_,I.free,I.freeC,λp hp=>?_,tracked ⟨oL,hoL,I.free⟩ hs,by simpa using I.len⟩ ⟨_,hs,.inl rfl⟩
  ·exact(hs.2 b (Nat.ne_of_lt (Nat.lt_of_lt_of_le (Heap.lt_size e) I.ok.above))).trans (I.base.keep b o e n hb hx)
  ·obtain⟨sl,e1⟩:=I.base.slot b o e n hb hx
   exact⟨sl,(hs.2 b (Nat.ne_of_lt (Nat.lt_of_lt_of_le (Heap.lt_size e) I.ok.above))).trans e1⟩
  ·obtain⟨o',e1⟩:=I.base.there b o e hx
   exact⟨o',(hs.2 b (Nat.ne_of_lt (Nat.lt_of_lt_of_le (Heap.lt_size e) I.ok.above))).trans e1⟩
  ·by_cases hj:j=i
   ·subst hj
    rw[hi] at e1;cases e1
    rw[List.getElem?_set_self hiσ] at e2
    cases e2
    exact⟨u,r,.inl ⟨hk,by simp⟩⟩
   ·rw[List.getElem?_set_ne (Ne.symm hj)] at e2
    obtain⟨u',r',q⟩:=hl j y v' e1 e2 e3
    refine⟨u',r',?_⟩
    rcases q with ⟨k,e⟩|⟨k,c,e,z⟩
    ·refine .inl ⟨k,?_⟩
     have:y≠x:=λe=>hj (vzp hN e1 (e ▸ hi))
     simp[this,e]
    ·exact .inr ⟨k,c,e,z.sameBut hs (cne y c e)⟩
  ·obtain⟨w',z⟩:=I.cell y c e
   exact⟨w',z.sameBut hs (cne y c e)⟩
  ·obtain⟨e,n,ne,nf,d⟩:=I.pin p hp
   exact⟨(hs.2 p.1 ne).trans e,n,ne,nf,d⟩
 ·have hfn:X.fn x=true:=by
   rcases hf with z|z
   ·exact z
   ·rw[z] at hk;cases hk
  obtain⟨c,hc⟩:=I.ok.has x (.inl hk)
  obtain⟨w',z⟩:=I.cell x c hc
  refine wpAny_storeName_cell I.ok.kind hk hc z (λh' hc' hs=>?_)
  obtain⟨oc,hoc,hocd⟩:=id z
  refine h {s with heap:=h'} ⟨I.ok,I.os,I.bare,⟨λb o e n hb hx=>?_,λb o e n hb hx=>?_,I.base.free,λb o e hx=>?_,I.base.tups,I.base.frzs,I.base.tbls⟩,⟨m,hn.sameBut hs (Ne.symm (cne x c hc)),λj y v' e1 e2 e3=>?_⟩,λy c' e=>?_,I.free,I.freeC,λp hp=>?_,tracked ⟨oc,hoc,I.freeC x c hc⟩ hs,by simpa using I.len⟩ ⟨c,hs,.inr hc⟩
  ·exact(hs.2 b (Nat.ne_of_lt (Nat.lt_of_lt_of_le (Heap.lt_size e) (I.ok.cab x c hfn hc)))).trans (I.base.keep b o e n hb hx)
  ·obtain⟨sl,e1⟩:=I.base.slot b o e n hb hx
   exact⟨sl,(hs.2 b (Nat.ne_of_lt (Nat.lt_of_lt_of_le (Heap.lt_size e) (I.ok.cab x c hfn hc)))).trans e1⟩
  ·obtain⟨o',e1⟩:=I.base.there b o e hx
   exact⟨o',(hs.2 b (Nat.ne_of_lt (Nat.lt_of_lt_of_le (Heap.lt_size e) (I.ok.cab x c hfn hc)))).trans e1⟩
  ·by_cases hj:j=i
   ·subst hj
    rw[hi] at e1;cases e1
    rw[List.getElem?_set_self hiσ] at e2
    cases e2
    exact⟨u,r,.inr ⟨.inl hk,c,hc,hc'⟩⟩
   ·rw[List.getElem?_set_ne (Ne.symm hj)] at e2
    obtain⟨u',r',q⟩:=hl j y v' e1 e2 e3
    refine⟨u',r',?_⟩
    rcases q with q|⟨k,c',e,z'⟩
    ·exact .inl q
    ·refine .inr ⟨k,c',e,z'.sameBut hs ?_⟩
     rintro rfl
     exact hj (vzp hN e1 (I.ok.inj _ _ _ e hc ▸ hi))
  ·by_cases hcc:c'=c
   ·subst hcc;exact⟨_,hc'⟩
   ·obtain⟨w2,z2⟩:=I.cell y c' e
    exact⟨w2,z2.sameBut hs hcc⟩
  ·obtain⟨e,n,ne,nf,d⟩:=I.pin p hp
   refine⟨(hs.2 p.1 ?_).trans e,n,ne,nf,d⟩
   intro q
   rw[q,hoc] at e
   have q':oc=p.2:=Option.some.inj e
   exact d w' (by rw[<- q'];exact hocd)
theorem vzk{M:Model}{A:Around}{E:Value->Shared->Prop}{i:Nat}{x:Str}{v:V}{u:Value}{Q:Unit->Shared->Prop}(I:Inv X pins σ H s)(hN:X.N.Nodup)(hi:X.N[i]? =some x)(hx:Loc X.env.scope x)(r:RelV v u)
 (h:∀s',Inv X pins (σ.set i (some v)) H s'->Q () s')(hf:X.fn x=true\/X.env.scope.names.lookup x=some .local:=by first |exact .inl rfl|exact .inr rfl|assumption):wpAny M A (storeName X.env x u) Q E s:=
 qzt I hN hi hx r (λs' I' _=>h s' I') hf
end
abbrev XK:=Value->Option Addr->Hp->Prop
abbrev St:=List (Option V)
abbrev VK:=V->Hp->Prop
abbrev TE:=St->Hp->VK->Prop
abbrev TT:=St->Hp->(Bool->Hp->Prop)->Prop
abbrev TA:=St->Hp->(List V->Hp->Prop)->Prop
structure Ends where
 nx:St->Hp->Prop
 rt:VK
 bk:St->Hp->Prop:=λ_ _=>False
 ct:St->Hp->Prop:=λ_ _=>False
abbrev TS:=Ends->St->Hp->Prop
def EP(X:Cx)(pins:List (Addr×Obj))(σ:St)(Q:VK)(u:Value)(s':Shared):Prop:=∃v H',Inv X pins σ H' s'/\RelV v u/\Q v H'
def TP(X:Cx)(pins:List (Addr×Obj))(σ:St)(Q:Bool->Hp->Prop)(b:Bool)(s':Shared):Prop:=∃H',Inv X pins σ H' s'/\Q b H'
def AP(X:Cx)(pins:List (Addr×Obj))(σ:St)(Q:List V->Hp->Prop)(us:List Value)(s':Shared):Prop:=∃vs H',Inv X pins σ H' s'/\Vals vs us/\Q vs H'
def SP(X:Cx)(pins:List (Addr×Obj))(D:Ends)(f:Flow)(s':Shared):Prop:=
 match f with
 |.next=>∃σ' H',Inv X pins σ' H' s'/\D.nx σ' H'
 |.brk=>∃σ' H',Inv X pins σ' H' s'/\D.bk σ' H'
 |.cont=>∃σ' H',Inv X pins σ' H' s'/\D.ct σ' H'
 |.ret u=>∃v σ' H',Inv X pins σ' H' s'/\RelV v u/\D.rt v H'
def PE(X:Cx)(e:Expr)(t:TE):Prop:=
 ∀(pins:List (Addr×Obj))(s:Shared)(σ:St)(H:Hp)(Q:VK),Inv X pins σ H s->t σ H Q->wpAny (model X.prog X.w) X.A (eval e X.env) (EP X pins σ Q) X.xe s
def PT(X:Cx)(e:Expr)(t:TT):Prop:=
 ∀(pins:List (Addr×Obj))(s:Shared)(σ:St)(H:Hp)(Q:Bool->Hp->Prop),Inv X pins σ H s->t σ H Q->wpAny (model X.prog X.w) X.A (isTrue e X.env (eval e X.env)) (TP X pins σ Q) X.xe s
def PW(X:Cx)(e:Expr)(t:TT):Prop:=
 ∀(whole:Sem Value)(pins:List (Addr×Obj))(s:Shared)(σ:St)(H:Hp)(Q:Bool->Hp->Prop),Inv X pins σ H s->t σ H Q->wpAny (model X.prog X.w) X.A (isTrue e X.env whole) (TP X pins σ Q) X.xe s
theorem PW.pt{X:Cx}{e:Expr}{t:TT}(h:PW X e t):PT X e t:=h _
def PA(X:Cx)(es:List Expr)(t:TA):Prop:=
 ∀(pos:Pos)(pins:List (Addr×Obj))(s:Shared)(σ:St)(H:Hp)(Q:List V->Hp->Prop),Inv X pins σ H s->t σ H Q->wpAny (model X.prog X.w) X.A (spliced (backTo pos (starEach es X.env))) (AP X pins σ Q) X.xe s
def PS(X:Cx)(st:Stmt)(t:TS):Prop:=
 ∀(pins:List (Addr×Obj))(s:Shared)(σ:St)(H:Hp)(D:Ends),Inv X pins σ H s->t D σ H->wpAny (model X.prog X.w) X.A (exec st X.env) (SP X pins D) X.xe s
def PSs(X:Cx)(st:List Stmt)(t:TS):Prop:=
 ∀(pins:List (Addr×Obj))(s:Shared)(σ:St)(H:Hp)(D:Ends),Inv X pins σ H s->t D σ H->wpAny (model X.prog X.w) X.A (execs st X.env) (SP X pins D) X.xe s
theorem thn{α:Type}{t:Sem α}{Q Q':α->Shared->Prop}{M:Model}{A:Around}{E:Value->Shared->Prop}{s:Shared}(h:wpAny M A t Q E s)(hQ:∀a s,Q a s->Q' a s):wpAny M A t Q' E s:=wpAny_mono h hQ λ_ _ x=>x
end L2
namespace L2
open PySem PySem.Spec PyProof.Rows
section
variable {X:Cx}
theorem bin{a b:Expr}{ta tb:TE}(ha:PE X a ta)(hb:PE X b tb){pins:List (Addr×Obj)}{s:Shared}{σ:St}{H:Hp}{R:V->V->Hp->Prop}(I:Inv X pins σ H s)(h:ta σ H λx H1=>tb σ H1 λy H2=>R x y H2)
 {α:Type}{Q:α->Shared->Prop}{f:Value->Value->Sem α}
 (hf:∀v u s2 x y H2,Inv X pins σ H2 s2->RelV x v->RelV y u->R x y H2->wpAny (model X.prog X.w) X.A (f v u) Q X.xe s2):
 wpAny (model X.prog X.w) X.A (eval a X.env) (λv s₁=>wpAny (model X.prog X.w) X.A (eval b X.env) (λu s₂=>wpAny (model X.prog X.w) X.A (f v u) Q X.xe s₂) X.xe s₁) X.xe s:=by
 refine thn (ha pins s σ H _ I h) λv s1 ⟨x,H1,I1,r1,q1⟩=>?_
 refine thn (hb pins s1 σ H1 _ I1 q1) λu s2 ⟨y,H2,I2,r2,q2⟩=>?_
 exact hf v u s2 x y H2 I2 r1 r2 q2
def tVar(i:Nat):TE:=λσ H Q=>∃v,σ[i]? =some (some v)/\Q v H
def tC(v:V):TE:=λ_ H Q=>Q v H
theorem pe_var{i:Nat}{x:Str}{pos:Pos}(hN:X.N[i]? =some x)(hv:Vis X.env.scope x)(hd:(x==("__debug__":Str))=false:=by decide)(hcd:(x==("__classdict__":Str))=false:=by decide):PE X (.Name x pos) (tVar i):=by
 intro pins s σ H Q I h
 obtain⟨v,e,h⟩:=h
 obtain⟨m,hn,hl⟩:=I.loc
 obtain⟨u,r,l⟩:=hl i x v hN e hv
 have fin:EP X pins σ Q u s:=⟨v,H,I,r,h⟩
 rcases l with ⟨hk,hm⟩|⟨hk,c,hc,hcell⟩
 ·exact wpAny_Name (wpAny_loadName_local I.ok.kind hk hn hm fin) hd
 ·rcases hk with hk|hk
  ·exact wpAny_Name (wpAny_loadName_cell I.ok.kind hk hc hcell fin) hd
  ·exact wpAny_Name (wpAny_loadName_free I.ok.kind hk hc hcell fin hcd) hd
theorem pe_int{i j pos}:PE X (.Constant (.int i) j pos) (tC (.int i)):=λ_ _ _ H _ I h=>wpAny_Constant_int ⟨.int i,H,I.tok _,⟨_,rfl⟩,h⟩
theorem pe_bl{b j pos}:PE X (.Constant (.bool b) j pos) (tC (.bl b)):=λ_ _ _ H _ I h=>Constant_bool ⟨.bl b,H,I,rfl,h⟩
theorem pe_non{j pos}:PE X (.Constant .none j pos) (tC .non):=λ_ _ _ H _ I h=>Constant_none ⟨.non,H,I,rfl,h⟩
theorem pe_str{x j pos}:PE X (.Constant (.str x) j pos) (tC (.str x)):=λ_ _ _ H _ I h=>Calls.Constant_str ⟨.str x,H,I.tok _,⟨_,rfl⟩,h⟩
def Gl(X:Cx)(x:Str):Prop:=X.env.kindOf x=some .globalImplicit
theorem zzo{E:Value->Shared->Prop}{pins:List (Addr×Obj)}{s:Shared}{σ:St}{H:Hp}{x:Str}{u:Value}{pos:Pos}{Q:Value->Shared->Prop}(I:Inv X pins σ H s)(hg:Gl X x)(hm:X.mg x=some u)(h:Q u s)
 (hd:(x==("__debug__":Str))=false:=by decide):wpAny (model X.prog X.w) X.A (eval (.Name x pos) X.env) Q E s:=
 Calls.Name_function_global I.ok.kind hg (Calls.loadGlobal_global (by rw[I.ok.glob];exact I.mod.glob.keeps I.bk) hm h) hd
theorem vzr{E:Value->Shared->Prop}{pins:List (Addr×Obj)}{s:Shared}{σ:St}{H:Hp}{x:Str}{u:Value}{pos:Pos}{Q:Value->Shared->Prop}(I:Inv X pins σ H s)(hg:Gl X x)(hm:X.mg x=none)(hv:bootBuiltins x=some u)(h:Q u s)
 (hn:x≠"__name__":=by decide)(hd:(x==("__debug__":Str))=false:=by decide):wpAny (model X.prog X.w) X.A (eval (.Name x pos) X.env) Q E s:=by
 obtain⟨mb,h1,h2⟩:=I.mod.blt
 exact Calls.Name_function_global I.ok.kind hg (Calls.loadGlobal_builtin (by rw[I.ok.glob];exact I.mod.glob.keeps I.bk) hm (by rw[I.ok.blt];exact h1.keeps I.bk) ((h2 x hn).trans hv) h) hd
theorem pe_glob{x:Str}{v:V}{u:Value}{pos:Pos}(hg:Gl X x)(hm:X.mg x=some u)(r:RelV v u)(hd:(x==("__debug__":Str))=false:=by decide):PE X (.Name x pos) (tC v):=
 λ_ _ _ H _ I h=>zzo I hg hm ⟨v,H,I,r,h⟩ hd
theorem pe_bltn{x:Str}{v:V}{u:Value}{pos:Pos}(hg:Gl X x)(hm:X.mg x=none)(hv:bootBuiltins x=some u)(r:RelV v u)(hn:x≠"__name__":=by decide)(hd:(x==("__debug__":Str))=false:=by decide):PE X (.Name x pos) (tC v):=
 λ_ _ _ H _ I h=>vzr I hg hm hv ⟨v,H,I,r,h⟩ hn hd
variable {a b:Expr}{ta tb:TE}{pos:Pos}
variable {tA tB':TT}{rest:List Expr}
def tAnd(t u:TT):TT:=λσ H Q=>t σ H λc H1=>if c=true then u σ H1 Q else Q false H1
def tOr(t u:TT):TT:=λσ H Q=>t σ H λc H1=>if c=true then Q true H1 else u σ H1 Q
def tNot(t:TT):TT:=λσ H Q=>t σ H λc H1=>Q (!c) H1
theorem pw_and1(ha:PT X a tA):PW X (.BoolOp .And [a] pos) tA:=by
 intro wh pins s σ H Q I h
 refine isTrue_and (thn (ha pins s σ H Q I h) λc s1 e=>?_)
 cases c with
 |true=>exact isTrue_and_nil e
 |false=>exact e
theorem pw_or1(ha:PT X a tA):PW X (.BoolOp .Or [a] pos) tA:=by
 intro wh pins s σ H Q I h
 refine isTrue_or (thn (ha pins s σ H Q I h) λc s1 e=>?_)
 cases c with
 |false=>exact isTrue_or_nil e
 |true=>exact e
theorem pw_and(ha:PT X a tA)(hb:PW X (.BoolOp .And (b::rest) pos) tB'):PW X (.BoolOp .And (a::b::rest) pos) (tAnd tA tB'):=by
 intro wh pins s σ H Q I h
 refine isTrue_and (thn (ha pins s σ H _ I h) λc s1 ⟨H1,I1,q1⟩=>?_)
 cases c with
 |true=>exact hb wh pins s1 σ H1 Q I1 q1
 |false=>exact⟨H1,I1,q1⟩
theorem pw_or(ha:PT X a tA)(hb:PW X (.BoolOp .Or (b::rest) pos) tB'):PW X (.BoolOp .Or (a::b::rest) pos) (tOr tA tB'):=by
 intro wh pins s σ H Q I h
 refine isTrue_or (thn (ha pins s σ H _ I h) λc s1 ⟨H1,I1,q1⟩=>?_)
 cases c with
 |true=>exact⟨H1,I1,q1⟩
 |false=>exact hb wh pins s1 σ H1 Q I1 q1
theorem pt_not(ha:PT X a tA):PT X (.UnaryOp .Not a pos) (tNot tA):=by
 intro pins s σ H Q I h
 exact isTrue_not (ha pins s σ H (λc H1=>Q (!c) H1) I h)
theorem pe_one{op}{t:TE}(h:PE X a t):PE X (.BoolOp op [a] pos) t:=λpins s σ H Q I hw=>BoolOp_one (h pins s σ H Q I hw)
def tIf(t:TT)(ta tb:TE):TE:=λσ H Q=>t σ H λc H1=>if c=true then ta σ H1 Q else tb σ H1 Q
theorem pe_ifExp{c:Expr}(hc:PT X c tA)(ha:PE X a ta)(hb:PE X b tb):PE X (.IfExp c a b pos) (tIf tA ta tb):=by
 intro pins s σ H Q I h
 refine wpAny_IfExp (thn (hc pins s σ H _ I h) λd s1 ⟨H1,I1,q1⟩=>?_)
 cases d with
 |true=>exact ha pins s1 σ H1 Q I1 q1
 |false=>exact hb pins s1 σ H1 Q I1 q1
end
end L2
namespace L2
open PySem PySem.Spec PyProof.Rows
def SqL(K:PySem.W.Frag)(H:Hp)(a:Addr)(xs:List V):Prop:=
 Rd H a (.lst xs)\/
  ∃(o:Obj)(its:Array Value)(n:Nat),K.lookup a=some o/\o.cls=.type "list"/\o.dict=none/\o.data=.seq its n/\its.size<=sizeLine/\Vals xs its.toList
def SqT(K:PySem.W.Frag)(H:Hp)(a:Addr)(xs:List V):Prop:=
 Rd H a (.tup xs)\/
  ∃(o:Obj)(its:Array Value)(n:Nat),K.lookup a=some o/\o.cls=.type "tuple"/\o.data=.seq its n/\its.size<=sizeLine/\Vals xs its.toList
def absV:Value->Option V
 |.none=>some .non
 |.bool b=>some (.bl b)
 |.int i _=>some (.int i)
 |.str x _=>some (.str x)
 |.bytes b _=>some (.byt b)
 |.float b _=>some (.flt b)
 |.ref a=>some (.ref a)
 |.type n=>some (.ty n)
 |_=>none
theorem RelV.abs{x:V}{u:Value}(r:RelV x u):absV u=some x:=by
 cases x with
 |non=>cases r;rfl
 |bl _=>cases r;rfl
 |int _=>obtain⟨t,rfl⟩:=r;rfl
 |str _=>obtain⟨t,rfl⟩:=r;rfl
 |byt _=>obtain⟨t,rfl⟩:=r;rfl
 |flt _=>obtain⟨t,rfl⟩:=r;rfl
 |ref _=>cases r;rfl
 |ty _=>cases r;rfl
theorem RelV.inj{x y:V}{u:Value}(r:RelV x u)(q:RelV y u):x=y:=Option.some.inj (r.abs.symm.trans q.abs)
theorem Vals.inj:∀{xs ys:List V}{us:List Value},Vals xs us->Vals ys us->xs=ys
 |_,_,_,.nil,.nil=>rfl
 |_,_,_,.cons r t,.cons r' t'=>by rw[r.inj r',Vals.inj t t']
section
variable {X:Cx}{pins:List (Addr×Obj)}{σ:St}{H:Hp}{s:Shared}{a:Addr}{xs ys:List V}
theorem SqL.of{K:PySem.W.Frag}(h:H a=some (.lst xs)):SqL K H a xs:=.inl (.inl h)
theorem SqT.of{K:PySem.W.Frag}(h:H a=some (.tup xs)):SqT K H a xs:=.inl (.inl h)
theorem Inv.list(I:Inv X pins σ H s)(h:SqL X.K H a xs):∃its:List Value,Vals xs its/\PlainL s.heap a its.toArray/\xs.length<=sizeLine:=by
 rcases h with h|⟨o,its,n,hk,hc,hd,hs,hz,r⟩
 ·obtain⟨z,its,n,r,e⟩:=h.ok I.hok
  exact⟨its,r,⟨_,n,e,rfl,rfl,rfl⟩,z⟩
 ·refine⟨its.toList,r,⟨o,n,I.kIn a o hk,hc,hd,by simpa using hs⟩,?_⟩
  have e:=r.length
  simp only[Array.length_toList] at e
  omega
theorem Inv.tuple(I:Inv X pins σ H s)(h:SqT X.K H a xs):∃its:List Value,Vals xs its/\IsTup s.heap a its.toArray/\xs.length<=sizeLine:=by
 rcases h with h|⟨o,its,n,hk,hc,hs,hz,r⟩
 ·obtain⟨z,its,r,p⟩:=h.ok I.hok
  exact⟨its,r,p,z⟩
 ·refine⟨its.toList,r,⟨o,I.kIn a o hk,hc,n,by simpa using hs⟩,?_⟩
  have e:=r.length
  simp only[Array.length_toList] at e
  omega
theorem Inv.list_inj(I:Inv X pins σ H s)(h:SqL X.K H a xs)(h':SqL X.K H a ys):xs=ys:=by
 obtain⟨its,r,⟨o,n,e,_,_,d⟩,_⟩:=I.list h
 obtain⟨its',r',⟨o',n',e',_,_,d'⟩,_⟩:=I.list h'
 rw[e] at e';cases e'
 rw[d] at d'
 injection d' with d1 _
 have:its=its':=by simpa using congrArg Array.toList d1
 subst this
 exact r.inj r'
theorem Inv.tuple_inj(I:Inv X pins σ H s)(h:SqT X.K H a xs)(h':SqT X.K H a ys):xs=ys:=by
 obtain⟨its,r,⟨o,e,_,n,d⟩,_⟩:=I.tuple h
 obtain⟨its',r',⟨o',e',_,n',d'⟩,_⟩:=I.tuple h'
 rw[e] at e';cases e'
 rw[d] at d'
 injection d' with d1 _
 have:its=its':=by simpa using congrArg Array.toList d1
 subst this
 exact r.inj r'
end
abbrev Cx.wish(X:Cx)(E:Value->Shared->Prop):Cx:={X with xe:=E}
abbrev Cx.nox(X:Cx):Cx:=X.wish λ_ _=>False
section
variable {X:Cx}{pins:List (Addr×Obj)}{σ:St}{H:Hp}{s:Shared}{E:Value->Shared->Prop}
end
section
variable {X:Cx}{st:Stmt}{rest:List Stmt}{t u:TS}{e:Expr}{te:TE}{pos:Pos}
def tNext:TS:=λD σ H=>D.nx σ H
def tSeq(t u:TS):TS:=λD σ H=>t {D with nx:=u D} σ H
theorem pss_nil:PSs X [] tNext:=λ_ _ σ H _ I h=>wpAny_execs_nil ⟨σ,H,I,h⟩
theorem pss_cons(h1:PS X st t)(h2:PSs X rest u):PSs X (st::rest) (tSeq t u):=by
 intro pins s σ H D I h
 refine wpAny_execs_cons (thn (h1 pins s σ H {D with nx:=u D} I h) λf s1 q=>?_)
 cases f with
 |next=>
  obtain⟨σ',H',I',q⟩:=q
  exact h2 pins s1 σ' H' D I' q
 |ret v=>exact q
 |brk=>exact q
 |cont=>exact q
theorem Inv.quiet{pins:List (Addr×Obj)}{σ:St}{H:Hp}{s:Shared}(I:Inv X pins σ H s):interactive X.env=false:=by simp[interactive,I.ok.kind]
def tDrop(te:TE):TS:=λD σ H=>te σ H λ_ H1=>D.nx σ H1
theorem ps_expr(he:PE X e te)(hs:swapsWith e none pos.line X.env=pure false:=by rfl):PS X (.Expr e pos) (tDrop te):=by
 intro pins s σ H D I h
 exact wpAny_Expr_any (thn (he pins s σ H _ I h) λv s1 ⟨x,H1,I1,r1,q1⟩=>⟨σ,H1,I1,q1⟩) I.quiet hs
def tRet(te:TE):TS:=λD σ H=>te σ H D.rt
theorem ps_ret(he:PE X e te):PS X (.Return (some e) pos) (tRet te):=by
 intro pins s σ H D I h
 exact wpAny_Return_some (thn (he pins s σ H _ I h) λv s1 ⟨x,H1,I1,r1,q1⟩=>⟨x,σ,H1,I1,r1,q1⟩)
def tIfS(c:TT)(t u:TS):TS:=λD σ H=>c σ H λb H1=>if b=true then t D σ H1 else u D σ H1
theorem ps_if{c:Expr}{a b:List Stmt}{tc:TT}(hc:PT X c tc)(ha:PSs X a t)(hb:PSs X b u):PS X (.If c a b pos) (tIfS tc t u):=by
 intro pins s σ H D I h
 refine wpAny_If (thn (hc pins s σ H _ I h) λd s1 ⟨H1,I1,q1⟩=>?_)
 cases d with
 |true=>exact ha pins s1 σ H1 D I1 q1
 |false=>exact hb pins s1 σ H1 D I1 q1
end
abbrev TG:=V->St->Hp->(St->Hp->Prop)->Prop
abbrev TGs:=List V->St->Hp->(St->Hp->Prop)->Prop
def PG(X:Cx)(target:Expr)(t:TG):Prop:=
 ∀(pins:List (Addr×Obj))(s:Shared)(σ:St)(H:Hp)(v:V)(u:Value)(Q:St->Hp->Prop),Inv X pins σ H s->RelV v u->t v σ H Q->
  wpAny (model X.prog X.w) X.A (assign target X.env u) (λ_ s'=>∃σ' H',Inv X pins σ' H' s'/\Q σ' H') X.xe s
def PGs(X:Cx)(ts:List Expr)(t:TGs):Prop:=
 ∀(pins:List (Addr×Obj))(s:Shared)(σ:St)(H:Hp)(vs:List V)(us:List Value)(Q:St->Hp->Prop),Inv X pins σ H s->Vals vs us->t vs σ H Q->
  wpAny (model X.prog X.w) X.A (assignInOrder ((assignEach ts X.env).map (·.2)) us) (λ_ s'=>∃σ' H',Inv X pins σ' H' s'/\Q σ' H') X.xe s
abbrev TSet:=V->V->V->Hp->(Hp->Prop)->Prop
def PSet(X:Cx)(t:TSet):Prop:=
 ∀(pins:List (Addr×Obj))(s:Shared)(σ:St)(H:Hp)(o i v:V)(ov iv u:Value)(Q:Hp->Prop),Inv X pins σ H s->RelV o ov->RelV i iv->RelV v u->t o i v H Q->
  wpAny (model X.prog X.w) X.A (setItem ov iv u) (λ_ s'=>∃H',Inv X pins σ H' s'/\Q H') X.xe s
section
variable {X:Cx}{pos:Pos}
def gName(i:Nat):TG:=λv σ H Q=>Q (σ.set i (some v)) H
theorem wzX{i:Nat}{x:Str}(hN:X.N.Nodup)(hi:X.N[i]? =some x)(hx:Loc X.env.scope x)(hf:X.fn x=true\/X.env.scope.names.lookup x=some .local:=by first |exact .inl rfl|exact .inr rfl|assumption):PG X (.Name x pos) (gName i):=by
 intro pins s σ H v u Q I r h
 exact wpAny_assign_Name (vzk I hN hi hx r (λs' I'=>⟨_,H,I',h⟩) hf)
def gNil:TGs:=λvs σ H Q=>vs=[]/\Q σ H
def gCons(t:TG)(u:TGs):TGs:=λvs σ H Q=>∃v r,vs=v::r/\t v σ H λσ' H'=>u r σ' H' Q
theorem wzW:PGs X [] gNil:=by
 intro pins s σ H vs us Q I r h
 obtain⟨e,h⟩:=h
 subst e
 cases r
 exact assignInOrder_nil ⟨σ,H,I,h⟩
theorem jz4{e:Expr}{es:List Expr}{t:TG}{u:TGs}(h1:PG X e t)(h2:PGs X es u)
 (hs:(assignEach (e::es) X.env).map (·.2)=assign e X.env::(assignEach es X.env).map (·.2):=by rfl):PGs X (e::es) (gCons t u):=by
 intro pins s σ H vs us Q I r h
 obtain⟨v,vr,e1,h⟩:=h
 subst e1
 cases r with
 |cons r rr=>
  rw[hs]
  refine assignInOrder_cons (thn (h1 pins s σ H _ _ _ I r h) λ_ s1 ⟨σ1,H1,I1,q1⟩=>?_)
  exact h2 pins s1 σ1 H1 _ _ Q I1 rr q1
def gTup(K:PySem.W.Frag)(n:Nat)(t:TGs):TG:=λv σ H Q=>∃a xs,v=.ref a/\SqT K H a xs/\xs.length=n/\t xs σ H Q
theorem zzb{es:List Expr}{k:Nat}{t:TGs}{n:Nat}(hc:X.calm=true)(h:PGs X es t)
 (hn:(assignEach es X.env).length=n:=by rfl)(hst:(assignEach es X.env).findIdx? (·.1)=none:=by rfl):PG X (.Tuple es k pos) (gTup X.K n t):=by
 intro pins s σ H v u Q I r hw
 obtain⟨a,xs,e1,hq,hl,hw⟩:=hw
 subst e1
 cases r
 obtain⟨its,rv,ht,hz⟩:=I.tuple hq
 refine assign_Tuple_tuple (I.ok.hd hc) ht (by simp[hn, <- hl,rv.length]) hst λh' hx=>?_
 have I1:Inv X pins σ H {s with heap:=h'}:=I.kept (t':=s.toks) λb o e=>hx b o (Nat.ne_of_lt (Heap.lt_size e)) e
 exact h pins _ σ H xs _ Q I1 (by simpa using rv) hw
def gSub(to ti:TE)(t:TSet):TG:=λv σ H Q=>to σ H λo H1=>ti σ H1 λi H2=>t o i v H2 λH3=>Q σ H3
theorem pg_sub{o i:Expr}{to ti:TE}{t:TSet}(ho:PE X o to)(hi:PE X i ti)(hs:PSet X t)
 (ha:∀v,assign (.Subscript o i pos) X.env v=(do
   let ov <- holding [v] (eval o X.env)
   let iv <- holding [v,ov] (eval i X.env)
   standAt pos
   holding [v,ov,iv] (setItem ov iv v)
   release [v,ov,iv] []):=by intro _;rfl):PG X (.Subscript o i pos) (gSub to ti t):=by
 intro pins s σ H v u Q I r h
 rw[ha]
 refine wpAny_bind (wpAny_holding (thn (ho pins s σ H _ I h) λov s1 ⟨x,H1,I1,r1,q1⟩=>?_))
 refine wpAny_bind (wpAny_holding (thn (hi pins s1 σ H1 _ I1 q1) λiv s2 ⟨y,H2,I2,r2,q2⟩=>?_))
 refine wpAny_bind (wpAny_standAt (wpAny_bind (wpAny_holding (thn (hs pins s2 σ H2 x y v ov iv u _ I2 r1 r2 r q2) λ_ s3 ⟨H3,I3,q3⟩=>?_))))
 exact wpAny_release ⟨σ,H3,I3,q3⟩
def tAsg(te:TE)(g:TG):TS:=λD σ H=>te σ H λx H1=>g x σ H1 D.nx
theorem ps_asg{tg e:Expr}{te:TE}{g:TG}(he:PE X e te)(hg:PG X tg g)(hs:swapsWithSole [tg] e pos.line X.env=pure false:=by rfl)(hw:swappedStores [tg] e X.env=pure none:=by rfl)
 (h1:(assignEach [tg] X.env).map (·.2)=[assign tg X.env]:=by rfl):PS X (.Assign [tg] e pos) (tAsg te g):=by
 intro pins s σ H D I h
 refine wpAny_Assign_stores (thn (he pins s σ H _ I h) λv s1 ⟨x,H1,I1,r1,q1⟩=>?_) hs hw
 rw[h1]
 exact thn (hg pins s1 σ H1 x v _ I1 r1 q1) λ_ s2 q=>q
theorem ps_set{i:Nat}{x:Str}{e:Expr}{te:TE}{pos':Pos}(hN:X.N.Nodup)(hi:X.N[i]? =some x)(hx:Loc X.env.scope x)(he:PE X e te)(hs:swapsWith e (some (.Name x pos')) pos.line X.env=pure false:=by rfl)(hf:X.fn x=true\/X.env.scope.names.lookup x=some .local:=by first |exact .inl rfl|exact .inr rfl|assumption):
 PS X (.Assign [.Name x pos'] e pos) (tAsg te (gName i)):=by
 intro pins s σ H D I h
 refine wpAny_Assign_Name (thn (he pins s σ H _ I h) λv s1 ⟨y,H1,I1,r1,q1⟩=>?_) hs
 exact vzk I1 hN hi hx r1 (λs2 I2=>⟨_,H1,I2,q1⟩) hf
end
section
variable {X:Cx}{pos:Pos}
def tWhile(c:TT)(tb:TS):TS:=λD σ H=>∃W:Nat->St->Hp->Prop,(∃m,W m σ H)/\∀m σ H,W m σ H->
 c σ H λb H1=>if b=true then ∃N:St->Hp->Prop,(∀σ' H',N σ' H'->∃m',m'<m/\W m' σ' H')/\tb {D with nx:=N,ct:=N,bk:=D.nx} σ H1 else D.nx σ H1
theorem ps_while{c:Expr}{body:List Stmt}{tc:TT}{tb:TS}(hp:PassesOwn (model X.prog X.w) X.A X.env X.xe)(hc:PT X c tc)(hb:PSs X body tb):PS X (.While c body [] pos) (tWhile tc tb):=by
 intro pins s σ H D I h
 obtain⟨W,⟨m0,w0⟩,turn⟩:=h
 refine wpAny_While (codeAny_whileLoop (λn s'=>∃σ' H',Inv X pins σ' H' s'/\W n σ' H') ?_ m0 ⟨σ,H,I,w0⟩)
 rintro n s1 ⟨σ1,H1,I1,w1⟩
 refine wpAny_passesOwn hp (thn (hc pins s1 σ1 H1 _ I1 (turn n σ1 H1 w1)) λb s2 ⟨H2,I2,q2⟩=>?_)
 cases b with
 |true=>
  obtain⟨N,hN,q2⟩:=q2
  rw[if_pos rfl]
  refine wpAny_passesOwn hp (thn (hb pins s2 σ1 H2 _ I2 q2) λf s3 q3=>?_)
  cases f with
  |next=>
   obtain⟨σ3,H3,I3,n3⟩:=q3
   obtain⟨m',hm,w3⟩:=hN σ3 H3 n3
   exact⟨m',hm,σ3,H3,I3,w3⟩
  |cont=>
   obtain⟨σ3,H3,I3,n3⟩:=q3
   obtain⟨m',hm,w3⟩:=hN σ3 H3 n3
   exact⟨m',hm,σ3,H3,I3,w3⟩
  |brk=>exact q3
  |ret v=>exact q3
 |false=>
  rw[if_neg Bool.false_ne_true]
  exact wpAny_execs_nil ⟨σ1,H2,I2,q2⟩
end
structure It where
 go:Nat->Hp->Prop
 yld:Nat->Hp->V->Hp->Prop
 stop:Nat->Hp->Prop
def FpOk(X:Cx)(pins:List (Addr×Obj))(H:Hp)(b:Addr):Prop:=
 H b=none/\b≠X.env.locals/\b ∉ X.fs/\(b∈X.ex\/X.s₀.heap.objs.size<=b)/\(∀x c,X.env.cells.lookup x=some c->c≠b)/\∀p∈X.pn++pins,p.1≠b
theorem Inv.fpOk{X:Cx}{pins:List (Addr×Obj)}{σ:St}{H H':Hp}{s:Shared}{b:Addr}(I:Inv X pins σ H s)(hb:s.heap.objs.size<=b)(hn:H' b=none):FpOk X pins H' b:=by
 refine⟨hn,Nat.ne_of_gt (Nat.lt_of_lt_of_le I.lt hb),I.nofs hb,.inr (Nat.le_trans I.sz hb),λx c e z=>?_,λp hp z=>?_⟩
 ·obtain⟨v,q⟩:=I.cell x c e
  exact absurd (Nat.lt_of_lt_of_le q.lt (by rw[z];exact hb)) (Nat.lt_irrefl _)
 ·exact absurd (Nat.lt_of_lt_of_le (Heap.lt_size (I.pin p hp).1) (by rw[z];exact hb)) (Nat.lt_irrefl _)
structure Turn (P:Program)(w:World)(K:PySem.W.Frag)(tg:Expr)(J:It)(fp:List Addr)(it:Addr)(tn:Nat->Heap->Prop):Prop where
 mem:it∈fp
 obj:∀i h,tn i h->∀b∈fp,∃o,h.get? b=some o/\∀v,o.data≠ .cell v
 keep:∀i h h',tn i h->(∀b∈fp,∀o,h.get? b=some o->h'.get? b=some o)->tn i h'
 item:∀(X:Cx),X.prog=P->X.w=w->X.K=K->X.calm=true->∀(i:Nat)(pins:List (Addr×Obj))(s:Shared)(σ:St)(H:Hp)(E:Value->Shared->Prop),Inv X pins σ H s->(∀b∈fp,FpOk X pins H b)->tn i s.heap->J.go i H->
  wpAny (model P w) X.A (pyNext (.ref it)) (λr s1=>∃u,r=some u/\
   wpAny (model P w) X.A (letOwnedTupleGo tg (.ref it) u) (λ_ s2=>∃x H',Inv X pins σ H' s2/\RelV x u/\J.yld i H x H'/\tn (i+1) s2.heap/\∀b∈fp,H' b=none) E s1) E s
 done:∀(X:Cx),X.prog=P->X.w=w->X.K=K->X.calm=true->∀(i:Nat)(pins:List (Addr×Obj))(s:Shared)(σ:St)(H:Hp)(E:Value->Shared->Prop),Inv X pins σ H s->(∀b∈fp,FpOk X pins H b)->tn i s.heap->J.stop i H->
  wpAny (model P w) X.A (pyNext (.ref it)) (λr s1=>r=none/\Inv X pins σ H s1) E s
 self:∀(A:Around)(i:Nat)(s:Shared)(Q:Value->Shared->Prop)(E:Value->Shared->Prop),tn i s.heap->Q (.ref it) s->wpAny (model P w) A (pyIter (.ref it)) Q E s
abbrev TI:=St->Hp->(It->Hp->Prop)->Prop
def PIE(X:Cx)(pins:List (Addr×Obj))(σ:St)(tg:Expr)(R:It->Hp->Prop)(itv:Value)(s2:Shared):Prop:=
 ∃(it:Addr)(fp:List Addr)(tn:Nat->Heap->Prop)(J:It)(H':Hp),itv=.ref it/\Inv X pins σ H' s2/\Turn X.prog X.w X.K tg J fp it tn/\tn 0 s2.heap/\(∀b∈fp,FpOk X pins H' b)/\R J H'
def PI(X:Cx)(tg iter:Expr)(wi:TI):Prop:=
 ∀(pins:List (Addr×Obj))(s:Shared)(σ:St)(H:Hp)(R:It->Hp->Prop),Inv X pins σ H s->wi σ H R->
  wpAny (model X.prog X.w) X.A (eval iter X.env) (λv s1=>wpAny (model X.prog X.w) X.A (pyIter v) (PIE X pins σ tg R) X.xe s1) X.xe s
theorem go_of{M:Model}{A:Around}{E:Value->Shared->Prop}{s:Shared}{tg:Expr}{it:Addr}{u:Value}{o:Obj}{n:String}{vs:Array Value}{Q:Unit->Shared->Prop}(ho:s.heap.get? it=some o)(hc:o.cls=.type n)(hd:o.data=.fields vs)
 (hn: ["enumerate","zip","dict_itemiterator","dict_reverseitemiterator","odict_iterator","itertools.zip_longest","itertools.pairwise"].contains n=false)(hQ:Q () s):wpAny M A (letOwnedTupleGo tg (.ref it) u) Q E s:=by
 unfold letOwnedTupleGo
 cases tg<;>first
  |exact wpAny_pure hQ
  |(cases u<;>first
     |exact wpAny_pure hQ
     |(refine wpAny_bind (wpAny_load ho ?_)
       rw[hc,hd]
       show wpAny M A (if(["enumerate","zip","dict_itemiterator","dict_reverseitemiterator","odict_iterator","itertools.zip_longest","itertools.pairwise"].contains n&&vs[0]? ==some (rawInt _))=true then _ else _) Q E s
       rw[if_neg (by intro h;rw[hn,Bool.false_and] at h;cases h)]
       exact wpAny_pure hQ))
def Itl(K:PySem.W.Frag)(a:Addr):It:=
 ⟨λi H=>∃xs x,SqL K H a xs/\xs[i]? =some x,λi H x H'=>H'=H/\∀xs,SqL K H a xs->xs[i]? =some x,λi H=>∃xs,SqL K H a xs/\xs.length<=i⟩
def Itt(K:PySem.W.Frag)(a:Addr):It:=
 ⟨λi H=>∃xs x,SqT K H a xs/\xs[i]? =some x,λi H x H'=>H'=H/\∀xs,SqT K H a xs->xs[i]? =some x,λi H=>∃xs,SqT K H a xs/\xs.length<=i⟩
def Itr(lo:Int)(n:Nat):It:=⟨λi _=>i<n,λi H x H'=>H'=H/\x=.int (lo+i),λi _=>n<=i⟩
theorem vzZ{P:Program}{w:World}{K:PySem.W.Frag}{tg:Expr}(a it:Addr):Turn P w K tg (Itl K a) [it] it (λi h=>h.IsListIter it a i) where
 mem:=by simp
 obj:=λi h st b hb=>by
  have e:b=it:=by simpa using hb
  subst e
  obtain⟨o,e,c,d⟩:=st
  exact⟨o,e,λv z=>by rw[d] at z;cases z⟩
 keep:=λi h h' st k=>st.at λo e=>k it (by simp) o e
 item:=by
  intro X hP hw hK hc i pins s σ H E I hf st hg
  subst hP hw hK
  obtain⟨xs,x,hq,hx⟩:=hg
  obtain⟨its,rv,p,hz⟩:=I.list hq
  obtain⟨u,hu,ru⟩:=rv.get hx
  obtain⟨f0,f1,f2,f3,f4,f5⟩:=hf it (by simp)
  refine wpAny_pyNext_list_item st p.isList (x:=u) (by simpa using hu) λh' st' sb=>?_
  have I1:Inv X pins σ H {s with heap:=h'}:=I.turned (t':=s.toks) (λb o hb e=>(sb.2 b hb).trans e) f0 f1 f3 f4 f5
  obtain⟨o,e,c,d⟩:=id st'
  exact⟨u,rfl,go_of (s:={s with heap:=h'}) e c d (by decide) ⟨x,H,I1,ru,⟨rfl,λys hy=>by rw[I.list_inj hy hq];exact hx⟩,st',λb hb=>(hf b hb).1⟩⟩
 done:=by
  intro X hP hw hK hc i pins s σ H E I hf st hg
  subst hP hw hK
  obtain⟨xs,hq,hx⟩:=hg
  obtain⟨its,rv,p,hz⟩:=I.list hq
  obtain⟨f0,f1,f2,f3,f4,f5⟩:=hf it (by simp)
  have hl:=rv.length
  exact wpAny_pyNext_list_end (I.ok.hd hc) st p.isList (by simp;omega) λh' eb=>⟨rfl,I.turned (t':=s.toks) (λb o hb e=>eb b o hb e) f0 f1 f3 f4 f5⟩
 self:=λ_ _ _ _ _ st h=>wpAny_pyIter_listiter st h
theorem vzA{P:Program}{w:World}{K:PySem.W.Frag}{tg:Expr}(a it:Addr):Turn P w K tg (Itt K a) [it] it (λi h=>h.IsTupleIter it a i) where
 mem:=by simp
 obj:=λi h st b hb=>by
  have e:b=it:=by simpa using hb
  subst e
  obtain⟨o,e,c,d⟩:=st
  exact⟨o,e,λv z=>by rw[d] at z;cases z⟩
 keep:=λi h h' st k=>st.at λo e=>k it (by simp) o e
 item:=by
  intro X hP hw hK hc i pins s σ H E I hf st hg
  subst hP hw hK
  obtain⟨xs,x,hq,hx⟩:=hg
  obtain⟨its,rv,p,hz⟩:=I.tuple hq
  obtain⟨u,hu,ru⟩:=rv.get hx
  obtain⟨f0,f1,f2,f3,f4,f5⟩:=hf it (by simp)
  refine wpAny_pyNext_tuple_item st (show s.heap.IsTuple a its.toArray from p) (x:=u) (by simpa using hu) λh' st' sb=>?_
  have I1:Inv X pins σ H {s with heap:=h'}:=I.turned (t':=s.toks) (λb o hb e=>(sb.2 b hb).trans e) f0 f1 f3 f4 f5
  obtain⟨o,e,c,d⟩:=id st'
  exact⟨u,rfl,go_of (s:={s with heap:=h'}) e c d (by decide) ⟨x,H,I1,ru,⟨rfl,λys hy=>by rw[I.tuple_inj hy hq];exact hx⟩,st',λb hb=>(hf b hb).1⟩⟩
 done:=by
  intro X hP hw hK hc i pins s σ H E I hf st hg
  subst hP hw hK
  obtain⟨xs,hq,hx⟩:=hg
  obtain⟨its,rv,p,hz⟩:=I.tuple hq
  obtain⟨f0,f1,f2,f3,f4,f5⟩:=hf it (by simp)
  have hl:=rv.length
  exact wpAny_pyNext_tuple_end (I.ok.hd hc) st (show s.heap.IsTuple a its.toArray from p) (by simp;omega) λh' eb=>⟨rfl,I.turned (t':=s.toks) (λb o hb e=>eb b o hb e) f0 f1 f3 f4 f5⟩
 self:=λ_ _ _ _ _ st h=>wpAny_pyIter_tupleiter st h
theorem vzB{P:Program}{w:World}{K:PySem.W.Frag}{tg:Expr}(it:Addr)(lo:Int)(n:Nat):Turn P w K tg (Itr lo n) [it] it (λi h=>IsRangeIter h it (lo+(i:Nat)*1) ((n:Int)-(i:Nat)) 1) where
 mem:=by simp
 obj:=λi h st b hb=>by
  have e:b=it:=by simpa using hb
  subst e
  exact⟨_,st,λv z=>by
   have z':Data.fields _=Data.cell v:=z
   cases z'⟩
 keep:=λi h h' st k=>k it (by simp) _ st
 item:=by
  intro X hP hw hK hc i pins s σ H E I hf st hg
  subst hP hw hK
  obtain⟨f0,f1,f2,f3,f4,f5⟩:=hf it (by simp)
  have W:=Walks.range (prog:=X.prog) (w:=X.w) (I.ok.hd hc) it lo 1 n
  refine W.item i s _ _ hg st λv h' tk hv st' kk=>?_
  obtain⟨t,rfl⟩:=hv
  have I1:Inv X pins σ H {s with heap:=h',toks:=tk}:=I.turned (λb o hb e=>kk b o (by simpa using hb) e) f0 f1 f3 f4 f5
  refine⟨_,rfl,go_of (s:={s with heap:=h',toks:=tk}) (n:="range_iterator") st' rfl rfl (by decide) ⟨.int (lo+i),H,I1,⟨t,?_⟩,⟨rfl,rfl⟩,st',λb hb=>(hf b hb).1⟩⟩
  rw[Int.mul_one]
 done:=by
  intro X hP hw hK hc i pins s σ H E I hf st hg
  subst hP hw hK
  obtain⟨f0,f1,f2,f3,f4,f5⟩:=hf it (by simp)
  exact wpAny_pyNext_range_end (I.ok.hd hc) st (by have:n<=i:=hg;omega) λh' eb=>⟨rfl,I.turned (t':=s.toks) (λb o hb e=>eb b o hb e) f0 f1 f3 f4 f5⟩
 self:=λ_ _ _ _ _ st h=>wpAny_pyIter_rangeiter st h
end L2
namespace L2
open PySem PySem.Spec PyProof.Rows
section
variable {X:Cx}{tg:Expr}
def iList(K:PySem.W.Frag)(tl:TE):TI:=λσ H R=>tl σ H λx H1=>∃a,x=.ref a/\(∃xs,SqL K H1 a xs)/\R (Itl K a) H1
def iTup(K:PySem.W.Frag)(tl:TE):TI:=λσ H R=>tl σ H λx H1=>∃a,x=.ref a/\(∃xs,SqT K H1 a xs)/\R (Itt K a) H1
theorem wzV{l:Expr}{tl:TE}(hl:PE X l tl):PI X tg l (iList X.K tl):=by
 intro pins s σ H R I h
 refine thn (hl pins s σ H _ I h) λv s1 ⟨x,H1,I1,r1,q1⟩=>?_
 obtain⟨a,e,⟨xs,hq⟩,q⟩:=q1
 subst e
 cases r1
 obtain⟨its,rv,p,hz⟩:=I1.list hq
 refine wpAny_pyIter_list p.isList ?_
 refine⟨s1.heap.objs.size,[s1.heap.objs.size],_,_,H1,rfl,I1.kept (t':=s1.toks) λb o e=>Heap.get?_push_of_some _ e,vzZ a _,⟨_,Heap.get?_push_size _ rfl,rfl,rfl⟩,λb hb=>?_,q⟩
 have e:b=s1.heap.objs.size:=by simpa using hb
 subst e
 exact I1.fpOk (Nat.le_refl _) (I1.hok.fresh (Nat.le_refl _))
theorem zza{l:Expr}{tl:TE}(hl:PE X l tl):PI X tg l (iTup X.K tl):=by
 intro pins s σ H R I h
 refine thn (hl pins s σ H _ I h) λv s1 ⟨x,H1,I1,r1,q1⟩=>?_
 obtain⟨a,e,⟨xs,hq⟩,q⟩:=q1
 subst e
 cases r1
 obtain⟨its,rv,p,hz⟩:=I1.tuple hq
 refine wpAny_pyIter_tuple (show s1.heap.IsTuple a its.toArray from p) ?_
 refine⟨s1.heap.objs.size,[s1.heap.objs.size],_,_,H1,rfl,I1.kept (t':=s1.toks) λb o e=>Heap.get?_push_of_some _ e,vzA a _,⟨_,Heap.get?_push_size _ rfl,rfl,rfl⟩,λb hb=>?_,q⟩
 have e:b=s1.heap.objs.size:=by simpa using hb
 subst e
 exact I1.fpOk (Nat.le_refl _) (I1.hok.fresh (Nat.le_refl _))
theorem range_it{pins:List (Addr×Obj)}{σ:St}{H:Hp}{s:Shared}{R:It->Hp->Prop}{E:Value->Shared->Prop}{lo hi:Int}{t u v:Tok}{tk:Nat}(I:Inv X pins σ H s)(h1: -(2^62)<=lo)(h2:lo<2^62)(h3: -(2^62)<=hi)(h4:hi<2^62)
 (q:R (Itr lo (hi-lo).toNat) H):wpAny (model X.prog X.w) X.A (pyIter (.ref s.heap.objs.size)) (PIE X pins σ tg R) E {s with heap:=s.heap.push {cls:=.type "range",data:=.fields #[.int lo t,.int hi u,.int 1 v]},toks:=tk}:=by
 refine wpAny_pyIter_range (IsRange.new ..) (small_one h1 h2 h3 h4) ?_
 have I1:Inv X pins σ H {s with heap:=s.heap.push {cls:=.type "range",data:=.fields #[.int lo t,.int hi u,.int 1 v]},toks:=tk}:=I.kept λb o e=>Heap.get?_push_of_some _ e
 refine⟨(s.heap.push {cls:=.type "range",data:=.fields #[.int lo t,.int hi u,.int 1 v]}).objs.size,[(s.heap.push {cls:=.type "range",data:=.fields #[.int lo t,.int hi u,.int 1 v]}).objs.size],_,_,H,rfl,
  I1.kept (t':=tk) λb o e=>Heap.get?_push_of_some _ e,vzB _ lo (hi-lo).toNat,?_,λb hb=>?_,q⟩
 ·have e1:lo+((0:Nat):Int)*1=lo:=by simp
  have e2:(((hi-lo).toNat:Nat):Int)-((0:Nat):Int)=Builtin.Range.rangeSize lo hi 1:=by rw[rangeSize_one];split<;>omega
  show IsRangeIter _ _ (lo+((0:Nat):Int)*1) ((((hi-lo).toNat:Nat):Int)-((0:Nat):Int)) 1
  rw[e1,e2]
  exact Heap.get?_push_size _ rfl
 ·have e:b=(s.heap.push {cls:=.type "range",data:=.fields #[.int lo t,.int hi u,.int 1 v]}).objs.size:=by simpa using hb
  subst e
  exact I1.fpOk (Nat.le_refl _) (I1.hok.fresh (Nat.le_refl _))
def iRng1(ta:TA):TI:=λσ H R=>ta σ H λvs H1=>∃j:Int,vs=[.int j]/\ -(2^62)<=j/\j<2^62/\R (Itr 0 j.toNat) H1
theorem wzu{a:Expr}{ta:TA}{p pos:Pos}(hg:Gl X "range")(hm:X.mg "range"=none)(ha:PA X [a] ta)(hs:starEach [a] X.env=[(false,eval a X.env)]:=by rfl):PI X tg (.Call (.Name "range" p) [a] [] pos) (iRng1 ta):=by
 intro pins s σ H R I h
 refine Call_ (vzr I hg hm boot_range (PyProof.Rows.callWith_type1 (thn (ha pos pins s σ H _ I h) λus s1 ⟨vs,H1,I1,r1,q1⟩=>?_) hs rfl))
 obtain⟨j,e,q1,q2,q⟩:=q1
 subst e
 cases r1 with
 |cons r rr=>
  cases rr
  obtain⟨t,rfl⟩:=r
  exact call_range_1 (range_it I1 (by omega) (by omega) q1 q2 (by simpa using q))
def tFor(wi:TI)(g:TG)(tb:TS):TS:=λD σ H=>wi σ H λJ H1=>∃W:Nat->Nat->St->Hp->Prop,(∃m,W 0 m σ H1)/\∀i m σ H,W i m σ H->
 (J.stop i H/\D.nx σ H)\/(J.go i H/\∃N:St->Hp->Prop,(∀σ' H',N σ' H'->∃m',m'<m/\W (i+1) m' σ' H')/\∀x H',J.yld i H x H'->g x σ H' λσ2 H2=>tb {D with nx:=N,ct:=N,bk:=D.nx} σ2 H2)
def pinsAt(fp:List Addr)(h:Heap):List (Addr×Obj):=fp.filterMap λb=>(h.get? b).map λo=>(b,o)
theorem jzZ{fp:List Addr}{h:Heap}{b:Addr}{o:Obj}(hb:b∈fp)(e:h.get? b=some o):(b,o)∈pinsAt fp h:=List.mem_filterMap.mpr ⟨b,hb,by rw[e];rfl⟩
theorem zzg{fp:List Addr}{h:Heap}{p:Addr×Obj}(hp:p∈pinsAt fp h):p.1∈fp/\h.get? p.1=some p.2:=by
 obtain⟨b,hb,e⟩:=List.mem_filterMap.mp hp
 cases q:h.get? b with
 |none=>rw[q] at e;cases e
 |some o=>
  rw[q] at e
  have e':(b,o)=p:=Option.some.inj e
  subst e'
  exact⟨hb,q⟩
theorem Inv.pinned{pins:List (Addr×Obj)}{σ:St}{H:Hp}{s:Shared}{fp:List Addr}(I:Inv X pins σ H s)(hf:∀b∈fp,FpOk X pins H b)(ho:∀b∈fp,∃o,s.heap.get? b=some o/\∀v,o.data≠ .cell v):Inv X (pins++pinsAt fp s.heap) σ H s:=
 I.pins_of λp hp=>(List.mem_append.mp hp).elim (λz=>I.pin p (List.mem_append_right _ z)) λz=>by
  obtain⟨hb,e⟩:=zzg z
  obtain⟨f0,f1,f2,_⟩:=hf p.1 hb
  obtain⟨o,e',d⟩:=ho p.1 hb
  rw[e] at e';cases e'
  exact⟨e,f0,f1,f2,d⟩
theorem Inv.unpinned{pins pl:List (Addr×Obj)}{σ:St}{H:Hp}{s:Shared}(I:Inv X (pins++pl) σ H s):Inv X pins σ H s:=I.pins_of λp hp=>I.pin p (List.mem_append_right _ (List.mem_append_left _ hp))
theorem wzt{iter:Expr}{body:List Stmt}{wi:TI}{g:TG}{tb:TS}{pos:Pos}(hp:PassesOwn (model X.prog X.w) X.A X.env X.xe)(hc:X.calm=true)(hi:PI X tg iter wi)(hg:PG X tg g)(hb:PSs X body tb)
 (hs:∀x,foldedSetIterable iter X.env x=pure x:=by intro _;rfl):PS X (.For tg iter body [] pos) (tFor wi g tb):=by
 intro pins s σ H D I h
 refine wpAny_For (thn (hi pins s σ H _ I h) λv s1 h1=>thn h1 λitv s2 h2=>?_) hs
 obtain⟨it,fp,tn,J,H2,e,I2,T,st2,f2,W,⟨m0,w0⟩,turn⟩:=h2
 subst e
 have stat:∀{H':Hp},(∀b∈fp,H' b=none)->∀b∈fp,FpOk X pins H' b:=λhn b hb=>⟨hn b hb,(f2 b hb).2⟩
 refine codeAny_forLoop_any (λn s'=>∃i σ' H',Inv X pins σ' H' s'/\tn i s'.heap/\(∀b∈fp,H' b=none)/\W i n σ' H') ?_ m0 ⟨0,σ,H2,I2,st2,λb hb=>(f2 b hb).1,w0⟩
 rintro n s3 ⟨i,σ3,H3,I3,st3,fr3,w3⟩
 rcases turn i n σ3 H3 w3 with ⟨stop,qn⟩|⟨go,N,hN,step⟩
 ·refine wpAny_passesOwn hp (thn (T.done X rfl rfl rfl hc i pins s3 σ3 H3 X.xe I3 (stat fr3) st3 stop) λr s4 ⟨hr,I4⟩=>?_)
  subst hr
  exact wpAny_execs_nil ⟨σ3,H3,I4,qn⟩
 ·refine wpAny_passesOwn hp (thn (T.item X rfl rfl rfl hc i pins s3 σ3 H3 X.xe I3 (stat fr3) st3 go) λr s4 ⟨u,hr,h4⟩=>?_)
  subst hr
  refine wpAny_passesOwn hp (thn h4 λ_ s5 ⟨x,H5,I5,r5,y5,st5,fr5⟩=>?_)
  have I5':=I5.pinned (stat fr5) (T.obj _ _ st5)
  refine wpAny_passesOwn hp (thn (hg _ s5 σ3 H5 x u _ I5' r5 (step x H5 y5)) λ_ s6 ⟨σ6,H6,I6,q6⟩=>?_)
  refine wpAny_passesOwn hp (thn (hb _ s6 σ6 H6 _ I6 q6) λf s7 q7=>?_)
  have again:∀{σ7:St}{H7:Hp},Inv X (pins++pinsAt fp s5.heap) σ7 H7 s7->N σ7 H7->∃m,m<n/\∃i σ' H',Inv X pins σ' H' s7/\tn i s7.heap/\(∀b∈fp,H' b=none)/\W i m σ' H':=λ{σ7 H7} I7 n7=>by
   obtain⟨m',hm,w7⟩:=hN σ7 H7 n7
   refine⟨m',hm,i+1,σ7,H7,I7.unpinned,T.keep _ _ _ st5 λb hb o e=>(I7.pin (b,o) (List.mem_append_right _ (List.mem_append_right _ (jzZ hb e)))).1,λb hb=>?_,w7⟩
   obtain⟨o,e,d⟩:=T.obj _ _ st5 b hb
   exact(I7.pin (b,o) (List.mem_append_right _ (List.mem_append_right _ (jzZ hb e)))).2.1
  cases f with
  |next=>obtain⟨σ7,H7,I7,n7⟩:=q7;exact again I7 n7
  |cont=>obtain⟨σ7,H7,I7,n7⟩:=q7;exact again I7 n7
  |brk=>obtain⟨σ7,H7,I7,q7⟩:=q7;exact⟨σ7,H7,I7.unpinned,q7⟩
  |ret v=>obtain⟨x7,σ7,H7,I7,r7,q7⟩:=q7;exact⟨x7,σ7,H7,I7.unpinned,r7,q7⟩
end
theorem for_tup{K:PySem.W.Frag}{a:Addr}{xs:List V}{g:TG}{tb:TS}{D:Ends}{σ:St}{H:Hp}(Pv:Nat->St->Hp->Prop)(h0:Pv 0 σ H)(hl:∀i σ H,i<=xs.length->Pv i σ H->SqT K H a xs)
 (hs:∀i x σ H,xs[i]? =some x->Pv i σ H->g x σ H λσ2 H2=>tb {D with nx:=Pv (i+1),ct:=Pv (i+1),bk:=D.nx} σ2 H2)(hd:∀σ H,Pv xs.length σ H->D.nx σ H):
 ∃W:Nat->Nat->St->Hp->Prop,(∃m,W 0 m σ H)/\∀i m σ H,W i m σ H->
  ((Itt K a).stop i H/\D.nx σ H)\/((Itt K a).go i H/\∃N:St->Hp->Prop,(∀σ' H',N σ' H'->∃m',m'<m/\W (i+1) m' σ' H')/\∀x H',(Itt K a).yld i H x H'->g x σ H' λσ2 H2=>tb {D with nx:=N,ct:=N,bk:=D.nx} σ2 H2):=by
 refine⟨λi m σ H=>m=xs.length-i/\i<=xs.length/\Pv i σ H,⟨xs.length,by simp,Nat.zero_le _,h0⟩,?_⟩
 rintro i m σ H ⟨rfl,hi,p⟩
 have q:=hl i σ H hi p
 by_cases hlt:i<xs.length
 ·refine .inr ⟨⟨xs,xs[i],q,by simp[hlt]⟩,Pv (i+1),λσ' H' p'=>⟨xs.length-(i+1),by omega,rfl,hlt,p'⟩,λx H' y=>?_⟩
  obtain⟨e,y⟩:=y
  subst e
  exact hs i x σ _ (y xs q) p
 ·have e:i=xs.length:=by omega
  subst e
  exact .inl ⟨⟨xs,q,Nat.le_refl _⟩,hd σ H p⟩
theorem zzx{lo:Int}{n:Nat}{g:TG}{tb:TS}{D:Ends}{σ:St}{H:Hp}(Pv:Nat->St->Hp->Prop)(h0:Pv 0 σ H)
 (hs:∀i σ H,i<n->Pv i σ H->g (.int (lo+i)) σ H λσ2 H2=>tb {D with nx:=Pv (i+1),ct:=Pv (i+1),bk:=D.nx} σ2 H2)(hd:∀σ H,Pv n σ H->D.nx σ H):
 ∃W:Nat->Nat->St->Hp->Prop,(∃m,W 0 m σ H)/\∀i m σ H,W i m σ H->
  ((Itr lo n).stop i H/\D.nx σ H)\/((Itr lo n).go i H/\∃N:St->Hp->Prop,(∀σ' H',N σ' H'->∃m',m'<m/\W (i+1) m' σ' H')/\∀x H',(Itr lo n).yld i H x H'->g x σ H' λσ2 H2=>tb {D with nx:=N,ct:=N,bk:=D.nx} σ2 H2):=by
 refine⟨λi m σ H=>m=n-i/\i<=n/\Pv i σ H,⟨n,by simp,Nat.zero_le _,h0⟩,?_⟩
 rintro i m σ H ⟨rfl,hi,p⟩
 by_cases hlt:i<n
 ·refine .inr ⟨hlt,Pv (i+1),λσ' H' p'=>⟨n-(i+1),by omega,rfl,hlt,p'⟩,λx H' y=>?_⟩
  obtain⟨e,y⟩:=y
  subst e y
  exact hs i σ _ hlt p
 ·have e:i=n:=by omega
  subst e
  exact .inl ⟨Nat.le_refl _,hd σ H p⟩
end L2
namespace L2
open PySem PySem.Spec PyProof.Rows
abbrev R2:=V->V->Hp->VK->Prop
def OpR(X:Cx)(f:Value->Value->Sem Value)(r:R2):Prop:=
 ∀(pins:List (Addr×Obj))(s:Shared)(σ:St)(H:Hp)(x y:V)(v u:Value)(Q:VK),Inv X pins σ H s->RelV x v->RelV y u->r x y H Q->
  wpAny (model X.prog X.w) X.A (f v u) (EP X pins σ Q) X.xe s
def UnR(X:Cx)(f:Value->Sem Value)(r:V->Hp->VK->Prop):Prop:=
 ∀(pins:List (Addr×Obj))(s:Shared)(σ:St)(H:Hp)(x:V)(v:Value)(Q:VK),Inv X pins σ H s->RelV x v->r x H Q->
  wpAny (model X.prog X.w) X.A (f v) (EP X pins σ Q) X.xe s
def CallR(X:Cx)(f:Value)(r:List V->Hp->VK->Prop):Prop:=
 ∀(pins:List (Addr×Obj))(s:Shared)(σ:St)(H:Hp)(xs:List V)(us:List Value)(Q:VK),Inv X pins σ H s->Vals xs us->r xs H Q->
  wpAny (model X.prog X.w) X.A (call f us) (EP X pins σ Q) X.xe s
def TruR(X:Cx)(r:V->Hp->(Bool->Hp->Prop)->Prop):Prop:=
 ∀(pins:List (Addr×Obj))(s:Shared)(σ:St)(H:Hp)(x:V)(v:Value)(Q:Bool->Hp->Prop),Inv X pins σ H s->RelV x v->r x H Q->
  wpAny (model X.prog X.w) X.A (truthy v) (TP X pins σ Q) X.xe s
def tOp(r:R2)(ta tb:TE):TE:=λσ H Q=>ta σ H λx H1=>tb σ H1 λy H2=>r x y H2 Q
def tUn(r:V->Hp->VK->Prop)(ta:TE):TE:=λσ H Q=>ta σ H λx H1=>r x H1 Q
def rI(C:Int->Int->Prop)(g:Int->Int->V):R2:=λx y H Q=>∃i j,x=.int i/\y=.int j/\C i j/\Q (g i j) H
def rI0(g:Int->Int->V):R2:=λx y H Q=>∃i j,x=.int i/\y=.int j/\Q (g i j) H
def rU(g:Int->V):V->Hp->VK->Prop:=λx H Q=>∃i,x=.int i/\Q (g i) H
section
variable {X:Cx}{a b c:Expr}{ta tb tc:TE}{pos:Pos}
theorem binT(ha:PE X a ta)(hb:PE X b tb){pins:List (Addr×Obj)}{s:Shared}{σ:St}{H:Hp}{R:V->V->Hp->Prop}(I:Inv X pins σ H s)
 (h:ta σ H λx H1=>tb σ H1 λy H2=>R x y H2){Q:Value->Shared->Prop}{f:Value->Value->Sem Value}
 (hf:∀v u s2 x y H2,Inv X pins σ H2 s2->RelV x v->RelV y u->R x y H2->wpAny (model X.prog X.w) X.A (f v u) Q X.xe s2):
 wpAny (model X.prog X.w) X.A (eval a X.env) (λv s₁=>wpAny (model X.prog X.w) X.A (eval b X.env) (λu s₂=>wpAny (model X.prog X.w) X.A (f v u) Q X.xe s₂) X.xe s₁) X.xe s:=by
 refine thn (ha pins s σ H _ I h) λv s1 ⟨x,H1,I1,r1,q1⟩=>?_
 refine thn (hb pins s1 σ H1 _ I1 q1) λu s2 ⟨y,H2,I2,r2,q2⟩=>?_
 exact hf v u s2 x y H2 I2 r1 r2 q2
theorem pe_op{op:Operator}{r:R2}(ho:OpR X (binaryOp op) r)(ha:PE X a ta)(hb:PE X b tb):PE X (.BinOp a op b pos) (tOp r ta tb):=by
 intro pins s σ H Q I h
 exact wpAny_BinOp (binT ha hb I h λv u s2 x y H2 I2 rx ry q=>ho pins s2 σ H2 x y v u Q I2 rx ry q)
theorem pe_un{op:UnaryOp}{r:V->Hp->VK->Prop}(ho:UnR X (unaryOp op) r)(ha:PE X a ta):PE X (.UnaryOp op a pos) (tUn r ta):=by
 intro pins s σ H Q I h
 exact UnaryOp_ (thn (ha pins s σ H _ I h) λv s1 ⟨x,H1,I1,r1,q1⟩=>ho pins s1 σ H1 x v Q I1 r1 q1)
theorem opI{f:Value->Value->Sem Value}{C:Int->Int->Prop}{g:Int->Int->Int}
 (rule:∀(i j:Int)(t u:Tok)(s:Shared)(Q:Value->Shared->Prop)(E:Value->Shared->Prop),C i j->Q (.int (g i j) s.toks) {s with toks:=s.toks+1}->wpAny (model X.prog X.w) X.A (f (.int i t) (.int j u)) Q E s):
 OpR X f (rI C λi j=>.int (g i j)):=by
 intro pins s σ H x y v u Q I rx ry h
 obtain⟨i,j,rfl,rfl,hc,q⟩:=h
 obtain⟨t,rfl⟩:=rx
 obtain⟨t',rfl⟩:=ry
 exact rule i j t t' s _ _ hc ⟨.int (g i j),H,I.tok _,⟨_,rfl⟩,q⟩
theorem opI0{f:Value->Value->Sem Value}{g:Int->Int->Int}
 (rule:∀(i j:Int)(t u:Tok)(s:Shared)(Q:Value->Shared->Prop)(E:Value->Shared->Prop),Q (.int (g i j) s.toks) {s with toks:=s.toks+1}->wpAny (model X.prog X.w) X.A (f (.int i t) (.int j u)) Q E s):
 OpR X f (rI0 λi j=>.int (g i j)):=by
 intro pins s σ H x y v u Q I rx ry h
 obtain⟨i,j,rfl,rfl,q⟩:=h
 obtain⟨t,rfl⟩:=rx
 obtain⟨t',rfl⟩:=ry
 exact rule i j t t' s _ _ ⟨.int (g i j),H,I.tok _,⟨_,rfl⟩,q⟩
theorem opB0{f:Value->Value->Sem Value}{g:Int->Int->Bool}
 (rule:∀(i j:Int)(t u:Tok)(s:Shared)(Q:Value->Shared->Prop)(E:Value->Shared->Prop),Q (.bool (g i j)) s->wpAny (model X.prog X.w) X.A (f (.int i t) (.int j u)) Q E s):
 OpR X f (rI0 λi j=>.bl (g i j)):=by
 intro pins s σ H x y v u Q I rx ry h
 obtain⟨i,j,rfl,rfl,q⟩:=h
 obtain⟨t,rfl⟩:=rx
 obtain⟨t',rfl⟩:=ry
 exact rule i j t t' s _ _ ⟨.bl (g i j),H,I,rfl,q⟩
def CDiv(i j:Int):Prop:=0<j/\j<1073741824
def CPow(i j:Int):Prop:=0<=j/\j<=1000000/\i.natAbs<2^64
def CMul(i j:Int):Prop:=(-(2^64)<i/\i<2^64)\/(-(2^64)<j/\j<2^64)
theorem CMul.ok{i j:Int}(h:CMul i j):IntMulOk i j:=by
 rcases h with ⟨h1,h2⟩|⟨h1,h2⟩
 ·exact .of_left (intBits_le_64 h1 h2)
 ·exact .of_right (intBits_le_64 h1 h2)
theorem op_add:OpR X (binaryOp .Add) (rI0 λi j=>.int (i+j)):=opI0 λ_ _ _ _ _ _ _ q=>add_int q
theorem op_sub:OpR X (binaryOp .Sub) (rI0 λi j=>.int (i-j)):=opI0 λ_ _ _ _ _ _ _ q=>sub_int q
theorem op_mul:OpR X (binaryOp .Mult) (rI CMul λi j=>.int (i*j)):=opI λ_ _ _ _ _ _ _ hc q=>mul_int q hc.ok
theorem op_fdiv:OpR X (binaryOp .FloorDiv) (rI CDiv λi j=>.int (i/j)):=opI λi j _ _ _ _ _ hc q=>by
 have h1:(0:Int)<j:=hc.1
 have h2:j<1073741824:=hc.2
 exact floordiv_int (by omega) (by rw[Int.fdiv_eq_ediv_of_nonneg i (by omega)];exact q) (.inl (PyProof.noPylong_small (by omega)))
theorem op_mod:OpR X (binaryOp .Mod) (rI (λ_ j=>0<j) λi j=>.int (i%j)):=opI λi j _ _ _ _ _ hc q=>by
 have h1:(0:Int)<j:=hc
 exact mod_int' (by omega) (by rw[Int.fmod_eq_emod_of_nonneg i (by omega)];exact q)
theorem op_pow:OpR X (binaryOp .Pow) (rI CPow λi j=>.int (i^j.toNat)):=opI λ_ _ _ _ _ _ _ hc q=>pow_int_small hc.1 hc.2.1 hc.2.2 q
theorem unI{f:Value->Sem Value}{g:Int->Int}
 (rule:∀(i:Int)(t:Tok)(s:Shared)(Q:Value->Shared->Prop)(E:Value->Shared->Prop),Q (.int (g i) s.toks) {s with toks:=s.toks+1}->wpAny (model X.prog X.w) X.A (f (.int i t)) Q E s):
 UnR X f (rU λi=>.int (g i)):=by
 intro pins s σ H x v Q I rx h
 obtain⟨i,rfl,q⟩:=h
 obtain⟨t,rfl⟩:=rx
 exact rule i t s _ _ ⟨.int (g i),H,I.tok _,⟨_,rfl⟩,q⟩
theorem un_neg:UnR X (unaryOp .USub) (rU λi=>.int (-i)):=unI λ_ _ _ _ _ q=>neg_int q
end
section
variable {X:Cx}{a b c:Expr}{ta tb tc:TE}{pos:Pos}
theorem zzB{pins:List (Addr×Obj)}{σ:St}{H:Hp}{s:Shared}{Q:VK}{k k':Bool}(I:Inv X pins σ H s)(q:Q (.bl k) H)(e:k=k'):EP X pins σ Q (.bool k') s:=by
 subst e
 exact⟨.bl k,H,I,rfl,q⟩
theorem op_lt:OpR X (compareOp .Lt) (rI0 λi j=>.bl (decide (i<j))):=opB0 λ_ _ _ _ _ _ _ q=>lt_int q
theorem op_le:OpR X (compareOp .LtE) (rI0 λi j=>.bl (decide (i<=j))):=opB0 λ_ _ _ _ _ _ _ q=>le_int q
theorem op_gt:OpR X (compareOp .Gt) (rI0 λi j=>.bl (decide (j<i))):=opB0 λ_ _ _ _ _ _ _ q=>gt_int q
theorem op_ge:OpR X (compareOp .GtE) (rI0 λi j=>.bl (decide (j<=i))):=opB0 λ_ _ _ _ _ _ _ q=>ge_int q
theorem zze:OpR X (compareOp .In) (λx y H Q=>∃i j,x=.str i/\y=.str j/\Q (.bl (!(Builtin.Str.occurrences j i 0 j.length 1).isEmpty)) H):=by
 intro pins s σ H x y v u Q I rx ry h
 obtain⟨i,j,rfl,rfl,q⟩:=h
 obtain⟨t,rfl⟩:=rx
 obtain⟨t',rfl⟩:=ry
 exact in_str (zzB I q rfl)
theorem op_isN:OpR X (compareOp .Is) (λx y H Q=>y=.non/\Q (.bl (decide (x=.non))) H):=by
 intro pins s σ H x y v u Q I rx ry h
 obtain⟨rfl,q⟩:=h
 cases ry
 refine is_none_gen (zzB I q ?_)
 cases x<;>first
  |(cases rx;rfl)
  |(obtain⟨t,rfl⟩:=rx;rfl)
theorem op_notN:OpR X (compareOp .IsNot) (λx y H Q=>y=.non/\Q (.bl (!decide (x=.non))) H):=by
 intro pins s σ H x y v u Q I rx ry h
 obtain⟨rfl,q⟩:=h
 cases ry
 refine isnot_none_gen (zzB I q ?_)
 cases x<;>first
  |(cases rx;rfl)
  |(obtain⟨t,rfl⟩:=rx;rfl)
theorem zzc{op:CmpOp}{r:R2}(ho:OpR X (compareOp op) r)(ha:PE X a ta)(hb:PE X b tb)(hm:behindInMarks op b=false):PE X (.Compare a [op] [b] pos) (tOp r ta tb):=by
 intro pins s σ H Q I h
 exact wpAny_Compare1 (binT ha hb I h λv u s2 x y H2 I2 rx ry q=>ho pins s2 σ H2 x y v u Q I2 rx ry q) hm
def tTest(t:TE):TT:=λσ H Q=>t σ H λx H'=>∃k,x=.bl k/\Q k H'
theorem vz8{op:CmpOp}{r:R2}(ho:OpR X (compareOp op) r)(ha:PE X a ta)(hb:PE X b tb)(hm:behindInMarks op b=false):PT X (.Compare a [op] [b] pos) (tTest (tOp r ta tb)):=by
 intro pins s σ H Q I h
 refine wpAny_isTrue_Compare1 (thn (ha pins s σ H _ I h) λv s1 ⟨x,H1,I1,r1,q1⟩=>thn (hb pins s1 σ H1 _ I1 q1) λu s2 ⟨y,H2,I2,r2,q2⟩=>
  thn (ho pins s2 σ H2 x y v u _ I2 r1 r2 q2) λc s3 ⟨z,H3,I3,r3,k,e,q3⟩=>?_) hm
 subst e
 cases r3
 exact wpAny_truthy_bool ⟨H3,I3,q3⟩
def TruV(K:PySem.W.Frag)(x:V)(H:Hp)(k:Bool):Prop:=
 match x with
 |.non=>k=false
 |.bl b=>k=b
 |.int i=>k=(i != 0)
 |.str y=>y.length<=sizeLine/\k=((y.length:Int) != 0)
 |.byt y=>y.size<=sizeLine/\k=((y.size:Int) != 0)
 |.ref p=>(∃xs,SqL K H p xs/\k= !xs.isEmpty)\/(∃xs,SqT K H p xs/\k= !xs.isEmpty)\/∃kvs,H p=some (.dK kvs)/\k= !kvs.isEmpty
 |_=>False
theorem vzR{κ:Type}{kvs:List (κ×V)}{vs:List (κ×Value)}(r:KV kvs vs):(!vs.isEmpty)= !kvs.isEmpty:=by
 cases r<;>rfl
theorem qzU{xs:List V}{its:List Value}(r:Vals xs its):(!its.toArray.isEmpty)= !xs.isEmpty:=by
 cases r<;>simp
theorem qzA:(sizeLine:Nat)<2^63:=by rw[sizeLine_eq];decide
theorem tru_ok:TruR X (λx H Q=>∃k,TruV X.K x H k/\Q k H):=by
 intro pins s σ H x v Q I rx h
 obtain⟨k,e,q⟩:=h
 have hl:=qzA
 have hs:sizeLine=16777216:=sizeLine_eq
 cases x with
 |non=>
  cases rx
  have e':k=false:=e
  subst e'
  exact truthy_none ⟨H,I,q⟩
 |bl b=>
  cases rx
  have e':k=b:=e
  subst e'
  exact wpAny_truthy_bool ⟨H,I,q⟩
 |int i=>
  obtain⟨t,rfl⟩:=rx
  have e':k=(i != 0):=e
  subst e'
  exact PySem.P.truthy_int ⟨H,I,q⟩
 |str y=>
  obtain⟨t,rfl⟩:=rx
  obtain⟨hy,e'⟩:y.length<=sizeLine/\k=((y.length:Int) != 0):=e
  subst e'
  exact PySem.P.truthy_str (by omega) ⟨H,I.tok _,q⟩
 |byt y=>
  obtain⟨t,rfl⟩:=rx
  obtain⟨hy,e'⟩:y.size<=sizeLine/\k=((y.size:Int) != 0):=e
  subst e'
  exact PySem.W.truthy_bytes (by omega) ⟨H,I.tok _,q⟩
 |ref p=>
  cases rx
  have e':(∃xs,SqL X.K H p xs/\k= !xs.isEmpty)\/(∃xs,SqT X.K H p xs/\k= !xs.isEmpty)\/∃kvs,H p=some (.dK kvs)/\k= !kvs.isEmpty:=e
  rcases e' with ⟨xs,hx,e'⟩|⟨xs,hx,e'⟩|⟨kvs,hx,e'⟩
  ·subst e'
   obtain⟨its,r,pl,hz⟩:=I.list hx
   have hlen:=r.length
   exact wpAny_truthy_list pl.isList (by simp only[List.size_toArray];omega) ⟨H,I.tok _,by rw[qzU r];exact q⟩
  ·subst e'
   obtain⟨its,r,pl,hz⟩:=I.tuple hx
   have hlen:=r.length
   exact truthy_tuple pl (by simp only[List.size_toArray];omega) ⟨H,I.tok _,by rw[qzU r];exact q⟩
  ·subst e'
   obtain⟨hz,hS,vs,r,m⟩:kvs.length<=sizeLine/\(p==sysModules)=false/\∃vs,KV kvs vs/\s.heap.DictOf (mixKind X.prog X.w) p vs:=I.hok p _ hx
   have hlen:kvs.length=vs.length:=Paired.length r
   exact wpAny_truthy_dict hS m (by omega) ⟨H,I.tok _,by rw[vzR r];exact q⟩
 |_=>exact(show False from e).elim
theorem pt_truth(ha:PE X a ta)(he:∀whole,isTrue a X.env whole=(do let v <- whole;standAt a.pos;holding [v] (truthy v))):
 PT X a (λσ H Q=>ta σ H λx H'=>∃k,TruV X.K x H' k/\Q k H'):=by
 intro pins s σ H Q I h
 exact isTrue_plain (thn (ha pins s σ H _ I h) λv s1 ⟨x,H1,I1,r1,q1⟩=>tru_ok pins s1 σ H1 x v Q I1 r1 q1) (he _)
theorem vzH:OpR X (binaryOp .Add) (λx y H Q=>∃i j,x=.str i/\y=.str j/\i.length+j.length<=sizeLine/\Q (.str (i++j)) H):=by
 intro pins s σ H x y v u Q I rx ry h
 obtain⟨i,j,rfl,rfl,hz,q⟩:=h
 obtain⟨t,rfl⟩:=rx
 obtain⟨t',rfl⟩:=ry
 exact add_str (λt' tk=>⟨.str (i++j),H,I.tok _,⟨_,rfl⟩,q⟩) hz
theorem vals1{x:V}{us:List Value}(r:Vals [x] us):∃u,us=[u]/\RelV x u:=by
 cases r with
 |cons r1 r2=>cases r2;exact⟨_,rfl,r1⟩
theorem wzI:CallR X (.type "int") (λxs H Q=>(∃i,xs=[.int i]/\Q (.int i) H)\/∃k,xs=[.bl k]/\Q (.int (if k then 1 else 0)) H):=by
 intro pins s σ H xs us Q I r h
 rcases h with ⟨i,rfl,q⟩|⟨k,rfl,q⟩
 ·obtain⟨u,rfl,t,rfl⟩:=vals1 r
  exact call_int_int ⟨.int i,H,I,⟨_,rfl⟩,q⟩
 ·obtain⟨u,rfl,r1⟩:=vals1 r
  cases r1
  exact call_int_bool ⟨.int (if k then 1 else 0),H,I.tok _,⟨_,rfl⟩,q⟩
end
end L2
namespace L2
open PySem PySem.Spec PyProof.Rows
section
variable {prog:Program}{w:World}{A:Around}{E:Value->Shared->Prop}{s:Shared}{K:PySem.W.Frag}{x dx C f:Addr}{mA:Str->Option Value}{name:Str}{v:Value}
end
theorem RelO.some_of{v:V}{o:Option Value}(r:RelO (some v) o):∃u,o=some u/\RelV v u:=by
 cases o with
 |none=>exact(show False from r).elim
 |some u=>exact⟨u,rfl,r⟩
section
variable {P:Program}{w:World}{H H':Hp}{h h':Heap}{a C dx:Addr}{fs fs':List (Str×V)}
end
structure Cls (K:PySem.W.Frag)(C:Addr):Prop where
 pg:PySem.W.plainGet K C Str.empty=true
 hd:PySem.W.hasDictIn K C=true
 po:PySem.W.plainOver K C=true
 sa:PySem.W.findIn K (.ref C) "__setattr__"=some (some (.builtin "object.__setattr__"))
def NoAttr(K:PySem.W.Frag)(C:Addr)(f:Str):Prop:=PySem.W.findIn K (.ref C) f=some none
structure Meth (K:PySem.W.Frag)(C:Addr)(m:Str)(f:Addr):Prop where
 at_:PySem.W.findIn K (.ref C) m=some (some (.ref f))
 fn:PySem.W.isFn K (.ref f)=true
 kp:PySem.W.keepIn K (.ref f)=true
section
variable {X:Cx}{pins:List (Addr×Obj)}{σ:St}{H:Hp}{s:Shared}{a C dx:Addr}{fs:List (Str×V)}{f:Str}{v:V}{A:Around}{E:Value->Shared->Prop}
end
section
variable {X:Cx}{o e value:Expr}{f:Str}{pos pos' tpos:Pos}{ta tv:TE}
end
section
variable {X:Cx}{pins:List (Addr×Obj)}{σ:St}{H:Hp}{s:Shared}{A:Around}{E:Value->Shared->Prop}{Q:Value->Shared->Prop}{c:Value}{b:Bool}
end
end L2
namespace L2
open PySem PySem.Spec PyProof.Rows
structure Room (k:Nat)(A:Around):Prop where
 hd:A.handled=none
 dp:A.depth+3*k+5<recursionLimit
 un:A.units+16*k+200<cLine
theorem Room.mono{j k:Nat}{A:Around}(r:Room k A)(h:j<=k):Room j A:=⟨r.hd,by have:=r.dp;omega,by have:=r.un;omega⟩
theorem Room.deeper{k:Nat}{A:Around}(r:Room (k+1) A)(env:Env):Room k (A.deeper env):=
 ⟨r.hd,by have:=r.dp;show A.depth+1+3*k+5<_;omega,by have:=r.un;show A.units+3+16*k+200<_;omega⟩
theorem Room.depth{k:Nat}{A:Around}(r:Room k A):A.depth<recursionLimit:=by have:=r.dp;omega
theorem Room.units{k:Nat}{A:Around}(r:Room k A):A.units+64<cLine:=by have:=r.un;omega
def tNil:TA:=λ_ H Q=>Q [] H
def tCons(ta:TE)(tr:TA):TA:=λσ H Q=>ta σ H λx H1=>tr σ H1 λxs H2=>Q (x::xs) H2
section
variable {X:Cx}{e:Expr}{es:List Expr}{te:TE}{t:TA}{pos:Pos}
theorem qzP:PA X [] tNil:=λ_ _ _ _ H Q I h=>Calls.spliced_nil ⟨[],H,I,.nil,h⟩
theorem qza(ha:PE X e te)(hr:PA X es t)(hs:starEach (e::es) X.env=(false,eval e X.env)::starEach es X.env:=by rfl):PA X (e::es) (tCons te t):=by
 intro pos pins s σ H Q I h
 rw[hs]
 show wpAny _ _ (spliced ((false,eval e X.env)::backTo pos (starEach es X.env))) _ _ s
 refine Calls.spliced_cons (thn (ha pins s σ H _ I h) λu s1 ⟨x,H1,I1,r1,q1⟩=>?_)
 exact thn (hr pos pins s1 σ H1 _ I1 q1) λus s2 ⟨xs,H2,I2,r2,q2⟩=>⟨x::xs,H2,I2,.cons r1 r2,q2⟩
def tTup(t:TA):TE:=λσ H Q=>t σ H λxs H1=>xs.length<=sizeLine/\∀p,H1 p=none->Q (.ref p) (upd H1 p (.tup xs))
def tLst(t:TA):TE:=λσ H Q=>t σ H λxs H1=>xs.length<=sizeLine/\∀p,H1 p=none->Q (.ref p) (upd H1 p (.lst xs))
theorem pe_tup{x1}(h:PA X es t):PE X (.Tuple es x1 pos) (tTup t):=by
 intro pins s σ H Q I hq
 refine wpAny_Tuple_spliced (thn (h pos pins s σ H _ I hq) λus s1 ⟨xs,H1,I1,r,z,q⟩=>⟨by rw[<- r.length];exact z,?_⟩)
 have hf:H1 s1.heap.objs.size=none:=I1.hok.fresh (Nat.le_refl _)
 refine⟨.ref s1.heap.objs.size,upd H1 s1.heap.objs.size (.tup xs),I1.laid (t':=s1.toks) (λb u e=>Heap.get?_push_of_some _ e) (Nat.le_refl _) ?_,rfl,q _ hf⟩
 exact⟨z,us,r,⟨_,Heap.get?_push_size _ rfl,rfl,_,rfl⟩⟩
theorem pe_lst(h:PA X es t):PE X (.List es pos) (tLst t):=by
 intro pins s σ H Q I hq
 refine wpAny_List_spliced (thn (h pos pins s σ H _ I hq) λus s1 ⟨xs,H1,I1,r,z,q⟩=>⟨by rw[<- r.length];exact z,?_⟩)
 have hf:H1 s1.heap.objs.size=none:=I1.hok.fresh (Nat.le_refl _)
 refine⟨.ref s1.heap.objs.size,upd H1 s1.heap.objs.size (.lst xs),I1.laid (t':=s1.toks) (λb u e=>Heap.get?_push_of_some _ e) (Nat.le_refl _) ?_,rfl,q _ hf⟩
 exact⟨z,us,0,r,Heap.get?_push_size _ rfl⟩
end
abbrev Sp:=List V->Hp->VK->XK->Prop
abbrev CXT:=List Env->Hp->Shared->XK->Value->Shared->Prop
structure Env0 (P:Program)(w:World)(K:PySem.W.Frag)(mg:Str->Option Value)(base:Heap)(A:Around)(outer:List Env)(s:Shared)(H:Hp):Prop where
 frames:A.frames=some outer
 mod:Mod K mg base
 bs:∀b o,base.get? b=some o->s.heap.get? b=some o/\H b=none
 bsz:base.objs.size<=s.heap.objs.size
 funs:s.heap.FunFrames base outer
 frf:∀b∈frs outer,H b=none
 hok:HOk P w H s.heap
 bare:AllBare s.gens
def CE(outer:List Env)(P:Program)(w:World)(H:Hp)(s:Shared)(Q:VK)(u:Value)(s':Shared):Prop:=
 ∃v H',s'.os=s.os/\AllBare s'.gens/\Un (frs outer) [] H H' s.heap s'.heap/\HOk P w H' s'.heap/\RelV v u/\Q v H'
def CR(CX:CXT)(outer:List Env)(P:Program)(w:World)(H:Hp)(s:Shared)(Q:VK)(E:XK)(r:Result)(s':Shared):Prop:=
 match r with
 |.ok (.ret u)=>CE outer P w H s Q u s'
 |.ok _=>False
 |.error e=>CX outer H s E e s'
structure FnOk (P:Program)(w:World)(K:PySem.W.Frag)(mg:Str->Option Value)(base:Heap)(CX:CXT)(k:Nat)(f:Addr)(fd:FuncData)(ps:List Str)(sp:Sp):Prop where
 len:∀vs H Q E,sp vs H Q E->vs.length=ps.length
 run:∀(A:Around)(outer:List Env)(s:Shared)(H:Hp)(args:Args)(us:List Value)(vs:List V)(Q:VK)(E:XK),Room k A->Env0 P w K mg base A outer s H->BindsTo s fd args (ps.zip us)->Vals vs us->sp vs H Q E->
  codeAny (model P w) A (.call (.ref f) args) (CR CX outer P w H s Q E) s
theorem FnOk.imp{P:Program}{w:World}{K:PySem.W.Frag}{mg:Str->Option Value}{base:Heap}{CX:CXT}{k:Nat}{f:Addr}{fd:FuncData}{ps:List Str}{sp sp':Sp}(F:FnOk P w K mg base CX k f fd ps sp)
 (h:∀vs H Q E,sp' vs H Q E->sp vs H Q E):FnOk P w K mg base CX k f fd ps sp':=
 ⟨λvs H Q E q=>F.len vs H Q E (h _ _ _ _ q),λA outer s H args us vs Q E hr he hb hv hs=>F.run A outer s H args us vs Q E hr he hb hv (h _ _ _ _ hs)⟩
section
variable {X:Cx}{pins:List (Addr×Obj)}{σ:St}{H:Hp}{s s':Shared}
theorem Inv.env0(I:Inv X pins σ H s):Env0 X.prog X.w X.K X.mg X.base X.A X.stack s H:=
 ⟨I.ok.frames,I.ok.mod,I.bs,Nat.le_trans I.ok.bsz I.sz,I.stack,I.stkFree,I.hok,I.bare⟩
theorem Inv.after{Q:VK}{u:Value}(I:Inv X pins σ H s)(h:CE X.stack X.prog X.w H s Q u s'):EP X pins σ Q u s':=by
 obtain⟨v,H',os,bare,un,hok,r,q⟩:=h
 obtain⟨hh,g,d,t,os'⟩:=s'
 obtain rfl:os'=s.os:=os
 exact⟨v,H',I.call (h':=hh) (g':=g) (d':=d) (t':=t) (ch:= []) un hok bare (λb z=>absurd z (by simp)),r,q⟩
end
def tCall(sp:Sp)(dvs:List V)(E:XK)(t:TA):TE:=λσ H Q=>t σ H λvs H1=>sp (vs++dvs) H1 Q E
def Binds(K:PySem.W.Frag)(fd:FuncData)(ps:List Str)(ds:List Value):Prop:=
 ∀(s:Shared)(us:List Value),K.In s.heap->(us++ds).length=ps.length->BindsTo s fd ⟨us,[]⟩ (ps.zip (us++ds))
theorem Binds.all{K:PySem.W.Frag}{fd:FuncData}{ps:List Str}(h:∀us:List Value,us.length=ps.length->bindArgs fd ⟨us,[]⟩=pure (ps.zip us)):Binds K fd ps []:=λs us _ hl=>by
 rw[List.append_nil] at hl⊢
 exact .of_eq (h us hl)
def Passes(CX:CXT)(X:Cx)(E:XK):Prop:=∀(pins:List (Addr×Obj))(σ:St)(H:Hp)(s:Shared)(e:Value)(s':Shared),Inv X pins σ H s->CX X.stack H s E e s'->X.xe e s'
section
variable {X:Cx}{CX:CXT}{k:Nat}{f C:Addr}{fd:FuncData}{ps:List Str}{sp:Sp}{dvs:List V}{ds:List Value}{E:XK}{x m:Str}{p pos apos:Pos}{e o:Expr}{es:List Expr}{ta:TE}{t:TA}
theorem run_fn{pins:List (Addr×Obj)}{σ:St}{H:Hp}{s:Shared}{Q:VK}{us:List Value}{vs:List V}(F:FnOk X.prog X.w X.K X.mg X.base CX k f fd ps sp)(hr:Room k X.A)(hb:Binds X.K fd ps ds)(hd:Vals dvs ds)(hx:Passes CX X E)
 (I:Inv X pins σ H s)(r:Vals vs us)(h:sp (vs++dvs) H Q E):wpAny (model X.prog X.w) X.A (call (.ref f) us) (EP X pins σ Q) X.xe s:=by
 have r2:Vals (vs++dvs) (us++ds):=r.append hd
 have hl:(us++ds).length=ps.length:=by rw[<- r2.length];exact F.len _ _ _ _ h
 refine wpAny_call (codeAny_mono (F.run X.A X.stack s H ⟨us,[]⟩ (us++ds) (vs++dvs) Q E hr I.env0 (hb s us I.kIn hl) r2 h) λr s' hq=>?_)
 cases r with
 |error e=>exact hx pins σ H s e s' I hq
 |ok fl=>
  cases fl with
  |ret u=>exact I.after hq
  |next=>exact False.elim hq
  |brk=>exact False.elim hq
  |cont=>exact False.elim hq
theorem pe_call(F:FnOk X.prog X.w X.K X.mg X.base CX k f fd ps sp)(hr:Room k X.A)(hg:Gl X x)(hm:X.mg x=some (.ref f))(hk:PySem.W.keepIn X.K (.ref f)=true)(hb:Binds X.K fd ps ds)(hd:Vals dvs ds)(hx:Passes CX X E)
 (ha:PA X (e::es) t)(hdb:(x==("__debug__":Str))=false:=by decide)(he:starEach (e::es) X.env=(false,eval e X.env)::starEach es X.env:=by rfl)(hpl:(backTo pos (starEach es X.env)).any (·.1)=false:=by rfl):
 PE X (.Call (.Name x p) (e::es) [] pos) (tCall sp dvs E t):=by
 intro pins s σ H Q I h
 refine wpAny_Call_Name_kw (zzo I hg hm ?_ hdb)
 refine PySem.W.callWith_K (h₀:=X.base) I.ok.mod.kin hk (thn (ha pos pins s σ H _ I h) λus s1 ⟨vs,H1,I1,r,q⟩=>⟨I1.kIn,?_⟩) he hpl
 exact run_fn F hr hb hd hx I1 r q
structure Mk (K:PySem.W.Frag)(C f:Addr):Prop where
 makes:PySem.W.makesIn K C=true
 init:PySem.W.findIn K (.ref C) "__init__"=some (some (.ref f))
 fn:PySem.W.isFn K (.ref f)=true
 kp:PySem.W.keepIn K (.ref C)=true
end
section
variable {X:Cx}{CX:CXT}{k:Nat}{f C:Addr}{fd:FuncData}{ps ks:List Str}{sp:Sp}{E:XK}{x m:Str}{p pos apos kpos:Pos}{e o:Expr}{es:List Expr}{kws:List Keyword}{te ta:TE}{t tk:TA}{nm:Option Str}
variable {g:List Value->List Value->List Value}{gV:List V->List V->List V}
end
structure FnScope (N P:List Str)(sc:Scope):Prop where
 kind:sc.kind=.function
 co:sc.isCoroutine=false
 gen:sc.isGenerator=false
 nd:N.Nodup
 pre:N.take P.length=P
 par:∀x∈P,sc.names.lookup x=some .local\/sc.names.lookup x=some .cell
 nofree:∀y∈sc.names,y.2≠ .free
theorem wzL{kindOf:Str->Option NameKind}{x:Str}:∀{binds:List (Str×Value)}{m:Str->Option Value},(∀v,(x,v) ∉ binds)->bindL kindOf binds m x=m x
 | [],_,_=>rfl
 |(n,v)::r,m,h=>by
  unfold bindL
  rw[wzL λw hw=>h w (List.mem_cons_of_mem _ hw)]
  split
  ·have:x≠n:=by rintro rfl;exact h v List.mem_cons_self
   simp[this]
  ·rfl
theorem wzN{kindOf:Str->Option NameKind}{x:Str}:∀{binds:List (Str×Value)}{m:Str->Option Value},(∀v,(x,v) ∉ binds)->bindC kindOf binds m x=m x
 | [],_,_=>rfl
 |(n,v)::r,m,h=>by
  unfold bindC
  rw[wzN λw hw=>h w (List.mem_cons_of_mem _ hw)]
  split
  ·rfl
  ·have:x≠n:=by rintro rfl;exact h v List.mem_cons_self
   simp[this]
theorem wzM{kindOf:Str->Option NameKind}{x:Str}{v:Value}:∀{P:List Str}{vs:List Value}{i:Nat}{m:Str->Option Value},P.Nodup->P[i]? =some x->vs[i]? =some v->kindOf x=some .local->
 bindL kindOf (P.zip vs) m x=some v
 | [],_,_,_,_,h,_,_=>by simp at h
 |_::_,[],_,_,_,_,h,_=>by simp at h
 |p::P,w::vs,0,m,nd,h1,h2,hk=>by
  simp at h1 h2;subst h1;subst h2
  show bindL kindOf ((p,w)::P.zip vs) m p=_
  unfold bindL
  rw[wzL λv hv=>(List.nodup_cons.mp nd).1 (List.of_mem_zip hv).1,if_pos hk]
  simp
 |p::P,w::vs,i+1,m,nd,h1,h2,hk=>by
  show bindL kindOf ((p,w)::P.zip vs) m x=_
  unfold bindL
  exact wzM (i:=i) (List.nodup_cons.mp nd).2 (by simpa using h1) (by simpa using h2) hk
theorem wzO{kindOf:Str->Option NameKind}{x:Str}{v:Value}:∀{P:List Str}{vs:List Value}{i:Nat}{m:Str->Option Value},P.Nodup->P[i]? =some x->vs[i]? =some v->kindOf x≠some .local->
 bindC kindOf (P.zip vs) m x=some v
 | [],_,_,_,_,h,_,_=>by simp at h
 |_::_,[],_,_,_,_,h,_=>by simp at h
 |p::P,w::vs,0,m,nd,h1,h2,hk=>by
  simp at h1 h2;subst h1;subst h2
  show bindC kindOf ((p,w)::P.zip vs) m p=_
  unfold bindC
  rw[wzN λv hv=>(List.nodup_cons.mp nd).1 (List.of_mem_zip hv).1,if_neg hk]
  simp
 |p::P,w::vs,i+1,m,nd,h1,h2,hk=>by
  show bindC kindOf ((p,w)::P.zip vs) m x=_
  unfold bindC
  exact wzO (i:=i) (List.nodup_cons.mp nd).2 (by simpa using h1) (by simpa using h2) hk
def start(N:List Str)(vs:List V):St:=vs.map some++List.replicate (N.length-vs.length) none
def cxOf(CX:CXT)(P:Program)(w:World)(K:PySem.W.Frag)(mg:Str->Option Value)(base:Heap)(N:List Str)(qual:Str)(scope:Scope)(f:Addr)(cd:Value)(A:Around)(outer:List Env)(s:Shared)(H:Hp)(E:XK):Cx where
 prog:=P
 w:=w
 K:=K
 mg:=mg
 base:=base
 A:=A.deeper (envOfC qual scope s.heap.objs.size f cd)
 N:=N
 s₀:=s
 H₀:=H
 env:=envOfC qual scope s.heap.objs.size f cd
 outer:=outer
 stack:=envOfC qual scope s.heap.objs.size f cd::outer
 ex:= []
 calm:=true
 fn:=λ_=>true
 pn:= []
 xe:=λe s'=>wpAny (model P w) (A.deeper (envOfC qual scope s.heap.objs.size f cd)) (leaving (envOfC qual scope s.heap.objs.size f cd) e) (λ_ s''=>CX outer H s E e s'') (λe' s''=>CX outer H s E e' s'') s'
theorem vzz{sc:Scope}{n:Nat}{x:Str}(h:sc.names.lookup x=some .cell):∃c,(cellsFrom n sc.names []).lookup x=some c:=by
 have q:=PySem.W.cellsFrom_some sc.names n [] (.inl h)
 exact Option.isSome_iff_exists.mp q
theorem zzu{CX:CXT}{P:Program}{w:World}{K:PySem.W.Frag}{mg:Str->Option Value}{base:Heap}{N ps:List Str}{qual:Str}{scope:Scope}{f:Addr}{cd:Value}{A:Around}{outer:List Env}{s s1:Shared}{H:Hp}{E:XK}{us:List Value}{vs:List V}
 (S:FnScope N ps scope)(hd:A.handled=none)(e0:Env0 P w K mg base A outer s H)(hl:vs.length=ps.length)(r:Vals vs us)
 (x:InCallC s s.heap.objs.size (bindL (envOfC qual scope s.heap.objs.size f cd).kindOf (ps.zip us) λ_=>none) (cellsFrom (s.heap.objs.size+1) scope.names []) (bindC (envOfC qual scope s.heap.objs.size f cd).kindOf (ps.zip us) λ_=>none) s1):
 Inv (cxOf CX P w K mg base N qual scope f cd A outer s H E) [] (start N vs) H s1:=by
 have hpl:ps.length<=N.length:=by have:=congrArg List.length S.pre;rw[List.length_take] at this;omega
 obtain⟨h1,tk,rfl,hk⟩:=x.done
 have noA:∀b:Addr,b ∉ (cxOf CX P w K mg base N qual scope f cd A outer s H E).ex:=λb z=>absurd (show b∈([]:List Addr) from z) (by simp)
 refine⟨⟨e0.mod,S.kind,rfl,rfl,Nat.le_refl _,λy z c h1 h2=>?_,λy hy=>?_,λy c _ h=>?_,λ_=>hd,Around.frames_deeper e0.frames,.inr ⟨rfl,rfl⟩,λb z=>absurd z (noA b),e0.bs,e0.bsz,λb _ _=>noA b,λb z=>absurd z (noA b),e0.funs,e0.frf⟩,
  rfl,e0.bare,Un.kept hk,⟨_,x.toInCall.ns,λi y v h1 h2 h3=>?_⟩,λy c h=>⟨_,x.cell y c h⟩,e0.hok.fresh (Nat.le_refl _),λy c h=>?_,λp hp=>absurd (show p∈([]:List (Addr×Obj)) from hp) (by simp),e0.hok.kept hk,?_⟩
 ·exact name_of_addr x.apart (PySem.mem_of_lookup h1) (PySem.mem_of_lookup h2)
 ·have hy:scope.names.lookup y=some .cell\/scope.names.lookup y=some .free:=hy
  rcases hy with hy|hy
  ·exact vzz hy
  ·exact absurd rfl (S.nofree _ (PySem.mem_of_lookup hy))
 ·exact Nat.le_of_lt (x.above y c (PySem.mem_of_lookup h))
 ·have hi:i<vs.length:=by
   unfold start at h2
   by_cases hi:i<vs.length
   ·exact hi
   ·rw[List.getElem?_append_right (by simpa using hi)] at h2
    rw[List.getElem?_replicate] at h2
    split at h2<;>cases h2
  have ha:vs[i]? =some v:=by
   unfold start at h2
   rw[List.getElem?_append_left (by simpa using hi),List.getElem?_map] at h2
   cases e:vs[i]? with
   |none=>rw[e] at h2;cases h2
   |some a=>rw[e] at h2;cases h2;rfl
  obtain⟨u,hu,rv⟩:=r.get ha
  have hp:ps[i]? =some y:=by
   rw[<- S.pre,List.getElem?_take_of_lt (by omega)];exact h1
  have ndP:ps.Nodup:=by rw[<- S.pre];exact S.nd.sublist (List.take_sublist _ _)
  refine⟨u,rv,?_⟩
  rcases S.par y (List.mem_of_getElem? hp) with k|k
  ·exact .inl ⟨k,wzM ndP hp hu k⟩
  ·obtain⟨c,e⟩:=vzz (n:=s.heap.objs.size+1) k
   refine .inr ⟨.inl k,c,e,?_⟩
   have q:=x.cell y c e
   rw[wzO ndP hp hu (by show scope.names.lookup y≠_;rw[k];decide)] at q
   exact q
 ·exact e0.hok.fresh (Nat.le_of_lt (x.above y c (PySem.mem_of_lookup h)))
 ·unfold start
  show _=N.length
  rw[List.length_append,List.length_map,List.length_replicate]
  omega
theorem fn_of{CX:CXT}{P:Program}{w:World}{K:PySem.W.Frag}{mg:Str->Option Value}{base:Heap}{k:Nat}{f:Addr}{name qual:Str}{params:Arguments}{body:List Stmt}{scope:Scope}{dV kV doc pm cdv ct oc:Value}{an od:Option Addr}
 {osl:Array (Option Value)}{N ps:List Str}{sp:Sp}(lk:K.lookup f=some ⟨oc,od,.func (PySem.W.fnOf name qual params body scope dV kV doc pm an cdv ct),osl⟩)(hcd:PySem.W.codeIn K cdv qual=true)(S:FnScope N ps scope)
 (len:∀vs H Q E,sp vs H Q E->vs.length=ps.length)
 (hbody:∀(A:Around)(outer:List Env)(s:Shared)(H:Hp)(vs:List V)(Q:VK)(E:XK),Room k (A.deeper (envOfC qual scope s.heap.objs.size f cdv))->sp vs H Q E->
   ∃t,PSs (cxOf CX P w K mg base N qual scope f cdv A outer s H E) body t/\t {nx:=λ_ H'=>Q .non H',rt:=Q} (start N vs) H):
 FnOk P w K mg base CX (k+1) f (PySem.W.fnOf name qual params body scope dV kV doc pm an cdv ct) ps sp:=by
 refine⟨len,λA outer s H args us vs Q E hr e0 hb r hsp=>?_⟩
 have hl:=len _ _ _ _ hsp
 have KX:K.In s.heap:=e0.mod.kin.keeps λb o e=>(e0.bs b o e).1
 have lim:s.heap.NoLimit:=e0.mod.nolimit.keeps λb o e=>(e0.bs b o e).1
 have hkind:∀y∈ps.zip us,scope.names.lookup y.1=some .local\/(scope.names.lookup y.1=some .cell/\((cellsFrom (s.heap.objs.size+1) scope.names []).lookup y.1).isSome=true):=λ⟨n,v⟩ hy=>by
  rcases S.par n (List.of_mem_zip hy).1 with q|q
  ·exact .inl q
  ·exact .inr ⟨q,PySem.W.cellsFrom_some _ _ _ (.inl q)⟩
 refine codeAny_call_function hr.depth (KX _ _ lk) rfl S.co S.gen rfl (PySem.W.codeRec_of KX hcd) (hb _ _ _ _ ?_)
 refine wpAny_newFunctionEnv_cells S.kind hkind λenv he s1 x=>?_
 subst he
 refine⟨lim.keeps x.toInCall.keep,codeAny_func ?_⟩
 obtain⟨t,ht,hq⟩:=hbody A outer s H vs Q E (hr.deeper _) hsp
 have I:Inv (cxOf CX P w K mg base N qual scope f cdv A outer s H E) [] (start N vs) H s1:=zzu S hr.hd e0 hl r x
 refine wpAny_mono (ht [] s1 (start N vs) H _ I hq) (λfl s' hs=>?_) λe s' hs=>hs
 have fin:∀{σ':St}{H':Hp}{v:V}{u:Value},Inv (cxOf CX P w K mg base N qual scope f cdv A outer s H E) [] σ' H' s'->RelV v u->Q v H'->CE outer P w H s Q u s':=
  λ{σ' H' v u} J rv q=>⟨v,H',J.os,J.bare,J.base,J.hok,rv,q⟩
 cases fl with
 |ret u=>
  obtain⟨v,σ',H',J,rv,q⟩:=hs
  exact fin J rv q
 |next=>
  obtain⟨σ',H',J,q⟩:=hs
  exact fin (v:=V.non) (u:=Value.none) J rfl q
 |brk=>
  obtain⟨_,_,_,q⟩:=hs
  exact False.elim q
 |cont=>
  obtain⟨_,_,_,q⟩:=hs
  exact False.elim q
end L2
namespace L2
open PySem PySem.Spec PyProof.Rows
section
variable {X:Cx}{x:Str}{p pos:Pos}{e:Expr}{es:List Expr}{t:TA}{id T:String}{r:List V->Hp->VK->Prop}
def tCB(r:List V->Hp->VK->Prop)(t:TA):TE:=λσ H Q=>t σ H λvs H1=>r vs H1 Q
theorem pe_callB(hc:CallR X (.builtin id) r)(hg:Gl X x)(hm:X.mg x=none)(hv:bootBuiltins x=some (.builtin id))(ha:PA X (e::es) t)(hn:x≠"__name__":=by decide)(hdb:(x==("__debug__":Str))=false:=by decide)
 (he:starEach (e::es) X.env=(false,eval e X.env)::starEach es X.env:=by rfl)(hpl:(backTo pos (starEach es X.env)).any (·.1)=false:=by rfl):PE X (.Call (.Name x p) (e::es) [] pos) (tCB r t):=by
 intro pins s σ H Q I h
 refine wpAny_Call_Name_kw (vzr I hg hm hv ?_ hn hdb)
 exact PyProof.Rows.callWith_builtin1 (thn (ha pos pins s σ H _ I h) λus s1 ⟨vs,H1,I1,r1,q1⟩=>hc pins s1 σ H1 vs us Q I1 r1 q1) he hpl
theorem wzv(hc:CallR X (.type T) r)(hg:Gl X x)(hm:X.mg x=none)(hv:bootBuiltins x=some (.type T))(ha:PA X (e::es) t)(hn:x≠"__name__":=by decide)(hdb:(x==("__debug__":Str))=false:=by decide)
 (he:starEach (e::es) X.env=(false,eval e X.env)::starEach es X.env:=by rfl)(hpl:(backTo pos (starEach es X.env)).any (·.1)=false:=by rfl):PE X (.Call (.Name x p) (e::es) [] pos) (tCB r t):=by
 intro pins s σ H Q I h
 refine wpAny_Call_Name_kw (vzr I hg hm hv ?_ hn hdb)
 exact PyProof.Rows.callWith_type1 (thn (ha pos pins s σ H _ I h) λus s1 ⟨vs,H1,I1,r1,q1⟩=>hc pins s1 σ H1 vs us Q I1 r1 q1) he hpl
end
end L2
namespace HT
open PySem PyProof.Rows
section
open PySem.SeqAt
open PySem.AutoSeq1 (wpAny_loadPart')
open PySem.MeetsSeq PySem.MeetsSeq2 PySem.MeetsSeq3
end
section
variable {prog:Program}{w:World}{A:Around}{E:Value->Shared->Prop}{s:Shared}
theorem cat_tup{t b:Addr}{vs ws:List Value}{Q:Value->Shared->Prop}(ht:IsTup s.heap t vs.toArray)(hb:IsTup s.heap b ws.toArray)(hv:vs≠ [])
 (h1:ws=[]->Q (.ref t) s)(h2:ws≠ []->Q (.ref s.heap.objs.size) {s with heap:=s.heap.push {cls:=.type "tuple",data:=.seq (vs++ws).toArray}})
 (hsz:vs.length+ws.length<=sizeLine):wpAny (model prog w) A (binaryOp .Add (.ref t) (.ref b)) Q E s:=by
 obtain⟨⟨cls,dd,data,sl⟩,ho,hc,n,hd⟩:=id ht
 obtain⟨⟨cls2,dd2,data2,sl2⟩,ho2,hc2,n2,hd2⟩:=id hb
 simp only at hc hd hc2 hd2
 subst hc hd hc2 hd2
 have e:vs.toArray++ws.toArray=(vs++ws).toArray:=by simp
 by_cases hw:ws=[]
 ·exact concat_meets ⟨_,ho,rfl⟩ ⟨_,ho2,rfl⟩ noFill_tuple_add seq_tuple_add PySem.F.slot_tuple_add PySem.F.entry_tuple_add (PySem.F.args_tuple_add_2 _ _)
   (tuple_addW1 t b vs.toArray ws.toArray n n2 dd dd2 sl sl2 (by simpa using hv) (by simp[hw])) ⟨ho,ho2,h1 hw⟩
 ·refine concat_meets ⟨_,ho,rfl⟩ ⟨_,ho2,rfl⟩ noFill_tuple_add seq_tuple_add PySem.F.slot_tuple_add PySem.F.entry_tuple_add (PySem.F.args_tuple_add_2 _ _)
   (tuple_addW2 t b vs.toArray ws.toArray n n2 dd dd2 sl sl2 (by simpa using hv) (by simpa using hw) (by rw[List.size_toArray,List.size_toArray];exact hsz)) ⟨ho,ho2,?_⟩
  rw[e]
  exact h2 hw
def sIx(n d:Nat):Option Int->Nat
 |none=>d
 |some v=>if v<0 then(v+(n:Int)).toNat else min v.toNat n
theorem sIx_none(n d:Nat):sIx n d none=d:=rfl
end
end HT
namespace L2
open PySem PySem.Spec PyProof.Rows
abbrev TO:=St->Hp->(Option Int->Hp->Prop)->Prop
def PO(X:Cx)(e:Option Expr)(t:TO):Prop:=
 ∀(pins:List (Addr×Obj))(s:Shared)(σ:St)(H:Hp)(Q:Option Int->Hp->Prop),Inv X pins σ H s->t σ H Q->
  wpAny (model X.prog X.w) X.A (evalPart e X.env) (λu s'=>∃o H',Inv X pins σ H' s'/\IsPart u o/\Q o H') X.xe s
def tNoPart:TO:=λ_ H Q=>Q none H
def tPart(t:TE):TO:=λσ H Q=>t σ H λx H1=>∃i,x=.int i/\Q (some i) H1
section
variable {X:Cx}{e:Expr}{te:TE}{lo hi:Option Expr}{tl th:TO}{pos p2:Pos}
theorem po_none:PO X none tNoPart:=by
 intro pins s σ H Q I h
 rw[evalPart_none]
 exact wpAny_pure ⟨none,H,I,.none,h⟩
theorem po_some(h:PE X e te):PO X (some e) (tPart te):=by
 intro pins s σ H Q I hw
 rw[evalPart_some]
 refine thn (h pins s σ H _ I hw) λu s1 ⟨x,H1,I1,r1,q1⟩=>?_
 obtain⟨i,rfl,q⟩:=q1
 obtain⟨t,rfl⟩:=r1
 exact⟨some i,H1,I1,.int i t,q⟩
def SlR(X:Cx)(r:V->Option Int->Option Int->Hp->VK->Prop):Prop:=
 ∀(pins:List (Addr×Obj))(s:Shared)(σ:St)(H:Hp)(x:V)(v vl vu:Value)(lo hi:Option Int)(sl:Addr)(Q:VK),Inv X pins σ H s->RelV x v->s.heap.IsSliceOf sl vl vu .none->IsPart vl lo->IsPart vu hi->r x lo hi H Q->
  ∃T id,typeLookup (.type T) "__getitem__"=pure (some (.builtin id))/\s.TypeIs v T/\wpAny (model X.prog X.w) X.A (getItem v (.ref sl)) (EP X pins σ Q) X.xe s
def tSl(r:V->Option Int->Option Int->Hp->VK->Prop)(te:TE)(tl th:TO):TE:=λσ H Q=>te σ H λx H1=>tl σ H1 λl H2=>th σ H2 λu H3=>r x l u H3 Q
theorem pe_slice{r:V->Option Int->Option Int->Hp->VK->Prop}(hr:SlR X r)(he:PE X e te)(hl:PO X lo tl)(hu:PO X hi th):PE X (.Subscript e (.Slice lo hi none p2) pos) (tSl r te tl th):=by
 intro pins s σ H Q I h
 refine Subscript_ (thn (he pins s σ H _ I h) λv s1 ⟨x,H1,I1,r1,q1⟩=>?_)
 refine wpAny_Slice (thn (hl pins s1 σ H1 _ I1 q1) λvl s2 ⟨l,H2,I2,pl,q2⟩=>thn (hu pins s2 σ H2 _ I2 q2) λvu s3 ⟨u,H3,I3,pu,q3⟩=>?_)
 rw[evalPart_none]
 refine wpAny_pure ?_
 have I4:Inv X pins σ H3 {s3 with heap:=s3.heap.push {cls:=.type "slice",data:=.fields #[vl,vu,.none]}}:=I3.kept (t':=s3.toks) λb ob q=>Heap.get?_push_of_some _ q
 obtain⟨T,id,hT,ht,hg⟩:=hr pins {s3 with heap:=s3.heap.push {cls:=.type "slice",data:=.fields #[vl,vu,.none]}} σ H3 x v vl vu l u s3.heap.objs.size Q I4 r1 (Heap.IsSliceOf.new ..) pl pu q3
 show wpAny (model X.prog X.w) X.A (subscriptTail e (.Slice lo hi none p2) v (.ref s3.heap.objs.size)) (EP X pins σ Q) X.xe {s3 with heap:=s3.heap.push {cls:=.type "slice",data:=.fields #[vl,vu,.none]}}
 exact tail_any (ops:= [.ref s3.heap.objs.size,v]) ht hT hg (by with_unfolding_all rfl)
def cutV(xs:List V)(lo hi:Option Int):List V:=(xs.drop (HT.sIx xs.length 0 lo)).take (HT.sIx xs.length xs.length hi-HT.sIx xs.length 0 lo)
theorem wz6(xs:List V)(lo hi:Option Int):(cutV xs lo hi).length<=xs.length:=by
 unfold cutV
 rw[List.length_take,List.length_drop]
 omega
def rCatT(K:PySem.W.Frag):R2:=λx y H Q=>∃a b xs ys,x=.ref a/\y=.ref b/\SqT K H a xs/\SqT K H b ys/\xs≠ []/\xs.length+ys.length<=sizeLine/\
 (ys=[]->Q (.ref a) H)/\(ys≠ []->∀p,H p=none->Q (.ref p) (upd H p (.tup (xs++ys))))
theorem Vals.nil_iff{xs:List V}{us:List Value}(r:Vals xs us):us=[]↔xs=[]:=by
 cases r with
 |nil=>simp
 |cons _ _=>simp
theorem op_catT:OpR X (binaryOp .Add) (rCatT X.K):=by
 intro pins s σ H x y v u Q I rx ry h
 obtain⟨a,b,xs,ys,rfl,rfl,ha,hb,hx,hz,q1,q2⟩:=h
 cases rx
 cases ry
 obtain⟨its,r1,p1,_⟩:=I.tuple ha
 obtain⟨its2,r2,p2,_⟩:=I.tuple hb
 refine HT.cat_tup p1 p2 (λz=>hx (r1.nil_iff.mp z)) (λz=>⟨.ref a,H,I,rfl,q1 (r2.nil_iff.mp z)⟩) (λz=>?_) (by rw[<- r1.length, <- r2.length];exact hz)
 refine⟨.ref s.heap.objs.size,_,I.laid (t':=s.toks) (o:=.tup (xs++ys)) (λb ob q=>Heap.get?_push_of_some _ q) (Nat.le_refl _) ?_,rfl,q2 (λw=>z (r2.nil_iff.mpr w)) _ (I.hok.fresh (Nat.le_refl _))⟩
 exact⟨by rw[List.length_append];exact hz,_,r1.append r2,IsTup.new _ _⟩
end
end L2
namespace L2
open PySem PySem.Spec PyProof.Rows
def ixN(n:Nat)(i:Int):Option Nat:=if 0<=i then(if i<n then some i.toNat else none) else if -(n:Int)<=i then some (i+n).toNat else none
def atI{α:Type}(xs:List α)(i:Int):Option α:=(ixN xs.length i).bind λj=>xs[j]?
theorem zzs{n:Nat}{i:Int}{j:Nat}(h:ixN n i=some j):seqIndex? i n=some j/\j<n/\ -(n:Int)<=i/\i<n:=by
 unfold ixN at h
 by_cases h0:0<=i
 ·rw[if_pos h0] at h
  by_cases h1:i<n
  ·rw[if_pos h1] at h
   have e:i.toNat=j:=Option.some.inj h
   exact⟨by rw[seqIndex_of h0 h1,e],by omega,by omega,h1⟩
  ·rw[if_neg h1] at h;cases h
 ·rw[if_neg h0] at h
  by_cases h1: -(n:Int)<=i
  ·rw[if_pos h1] at h
   have e:(i+n).toNat=j:=Option.some.inj h
   exact⟨by rw[seqIndex_neg (by omega) h1,e],by omega,h1,by omega⟩
  ·rw[if_neg h1] at h;cases h
theorem wz8{α:Type}{xs:List α}{i:Int}{v:α}(h:atI xs i=some v):∃j,seqIndex? i xs.length=some j/\xs[j]? =some v/\j<xs.length/\ -(xs.length:Int)<=i/\i<xs.length:=by
 unfold atI at h
 cases e:ixN xs.length i with
 |none=>rw[e] at h;cases h
 |some j=>
  rw[e] at h
  obtain⟨h1,h2,h3,h4⟩:=zzs e
  exact⟨j,h1,h,h2,h3,h4⟩
theorem jzQ{α:Type}{xs:List α}{j:Nat}{v:α}(h:xs[j]? =some v):atI xs (j:Int)=some v:=by
 have hj:j<xs.length:=(List.getElem?_eq_some_iff.mp h).1
 have e:ixN xs.length (j:Int)=some j:=by
  unfold ixN
  rw[if_pos (by omega),if_pos (by omega)];simp
 unfold atI;rw[e];exact h
def PlainIx(b:Expr):Prop:=∀o i,subscripted b false o i=operate [o,i] (getItem o i)
def IxR(X:Cx)(r:R2):Prop:=
 ∀(value slice:Expr)(pins:List (Addr×Obj))(s:Shared)(σ:St)(H:Hp)(x y:V)(v u:Value)(Q:VK),Inv X pins σ H s->RelV x v->RelV y u->r x y H Q->
  subscripted slice false v u=operate [v,u] (getItem v u)->wpAny (model X.prog X.w) X.A (subscriptTail value slice v u) (EP X pins σ Q) X.xe s
def MtR(X:Cx)(id:String)(r:V->List V->Hp->VK->Prop):Prop:=
 ∀(pins:List (Addr×Obj))(s:Shared)(σ:St)(H:Hp)(x:V)(xs:List V)(v:Value)(us:List Value)(Q:VK),Inv X pins σ H s->RelV x v->Vals xs us->r x xs H Q->
  wpAny (model X.prog X.w) X.A (call (.builtin id) (v::us)) (EP X pins σ Q) X.xe s
section
variable {X:Cx}{a b:Expr}{ta tb:TE}{pos:Pos}
theorem pe_ix{r:R2}(hr:IxR X r)(ha:PE X a ta)(hb:PE X b tb)(hs:PlainIx b):PE X (.Subscript a b pos) (tOp r ta tb):=by
 intro pins s σ H Q I h
 exact Subscript_ (binT ha hb I h λv u s2 x y H2 I2 rx ry q=>hr a b pins s2 σ H2 x y v u Q I2 rx ry q (hs _ _))
def rIxL(K:PySem.W.Frag):R2:=λx y H Q=>∃p xs i v,x=.ref p/\y=.int i/\SqL K H p xs/\atI xs i=some v/\Q v H
def rIxT(K:PySem.W.Frag):R2:=λx y H Q=>∃p xs i v,x=.ref p/\y=.int i/\SqT K H p xs/\atI xs i=some v/\Q v H
def rIxS:R2:=λx y H Q=>∃z i c,x=.str z/\y=.int i/\z.length<=sizeLine/\atI z.cps.toList i=some c/\Q (.str ⟨#[c]⟩) H
theorem ix_list:IxR X (rIxL X.K):=by
 intro value slice pins s σ H x y v u Q I rx ry h hs
 obtain⟨p,xs,i,z,rfl,rfl,hq,he,q⟩:=h
 cases rx
 obtain⟨t,rfl⟩:=ry
 obtain⟨its,r,pl,hz⟩:=I.list hq
 obtain⟨j,h1,h2,h3,h4,h5⟩:=wz8 he
 obtain⟨w,ew,rw'⟩:=r.get h2
 have hl:=r.length
 have hn:=qzA
 have fin:EP X pins σ Q w s:=⟨z,H,I,rw',q⟩
 by_cases h0:0<=i
 ·have hj:i.toNat=j:=by
   rw[seqIndex_of h0 h5] at h1
   exact Option.some.inj h1
  exact item_listR pl.isList h0 (by omega) (by rw[hj];simpa using ew) fin hs
 ·have hj:(i+(its.toArray.size:Int)).toNat=j:=by
   rw[seqIndex_neg (by omega) h4] at h1
   rw[List.size_toArray, <- hl]
   exact Option.some.inj h1
  exact subscriptTail_builtinR (x:=w) pl.isList.typeIs slot_list_getitem.lookup
   (wpAny_getItem_list_neg (Q:=λr s'=>r=w/\EP X pins σ Q r s') pl.isList (by omega) (by rw[List.size_toArray]<;>omega) (by omega) (by rw[hj];simpa using ew) ⟨rfl,fin⟩) hs
theorem ix_tup:IxR X (rIxT X.K):=by
 intro value slice pins s σ H x y v u Q I rx ry h hs
 obtain⟨p,xs,i,z,rfl,rfl,hq,he,q⟩:=h
 cases rx
 obtain⟨t,rfl⟩:=ry
 obtain⟨its,r,pl,hz⟩:=I.tuple hq
 obtain⟨j,h1,h2,h3,h4,h5⟩:=wz8 he
 obtain⟨w,ew,rw'⟩:=r.get h2
 have hl:=r.length
 have hn:=qzA
 have fin:EP X pins σ Q w s:=⟨z,H,I,rw',q⟩
 exact subscriptTail_builtinR (x:=w) pl.typeIs slot_tuple_getitem.lookup
  (getItem_tuple (j:=j) (Q:=λr s'=>r=w/\EP X pins σ Q r s') pl (by omega) (by omega) (by rw[List.size_toArray, <- hl];exact h1) (by simpa using ew) ⟨rfl,fin⟩) hs
theorem ix_str:IxR X rIxS:=by
 intro value slice pins s σ H x y v u Q I rx ry h hs
 obtain⟨z,i,c,rfl,rfl,hz,he,q⟩:=h
 obtain⟨t,rfl⟩:=rx
 obtain⟨t',rfl⟩:=ry
 obtain⟨j,h1,h2,h3,h4,h5⟩:=wz8 he
 have hl:z.cps.toList.length=z.length:=by simp[Str.length]
 rw[hl] at h1 h4 h5
 have hn:=qzA
 exact tail_any (typeIs_str s z t) slot_str_getitem.lookup (getItem_str (c:=c) (by
  have e1:decide (i< -(2^63:Int))=false:=decide_eq_false (by omega)
  have e2:decide (i ≥ 2^63)=false:=decide_eq_false (by omega)
  rw[e1,e2,Bool.or_false]) (by rw[h1];simpa using h2) ⟨.str ⟨#[c]⟩,H,I.tok _,⟨_,rfl⟩,q⟩) hs
theorem vzN(its:List Value)(n j:Nat)(u:Value):Obj.mapSeq (·.setIfInBounds j u) {cls:=.type "list",data:=.seq its.toArray n}={cls:=.type "list",data:=.seq (its.set j u).toArray n}:=by
 simp[Obj.mapSeq]
theorem Inv.lst{pins:List (Addr×Obj)}{σ:St}{H:Hp}{s:Shared}{p:Addr}{xs:List V}(I:Inv X pins σ H s)(h:H p=some (.lst xs)):
 ∃(its:List Value)(n:Nat),Vals xs its/\s.heap.get? p=some {cls:=.type "list",data:=.seq its.toArray n}/\xs.length<=sizeLine:=by
 obtain⟨z,its,n,r,e⟩:=I.hok p _ h
 exact⟨its,n,r,e,z⟩
theorem Inv.lstUpd{pins:List (Addr×Obj)}{σ:St}{H:Hp}{s:Shared}{p:Addr}{xs ys:List V}{its its':List Value}{n n':Nat}{f:Obj->Obj}(I:Inv X pins σ H s)(h:H p=some (.lst xs))
 (ho:s.heap.get? p=some {cls:=.type "list",data:=.seq its.toArray n})(hf:f {cls:=.type "list",data:=.seq its.toArray n}={cls:=.type "list",data:=.seq its'.toArray n'})(r:Vals ys its')(hz:ys.length<=sizeLine)(t:Nat):
 Inv X pins σ (upd H p (.lst ys)) {s with heap:=s.heap.update p f,toks:=t}:=by
 have e:(s.heap.update p f).get? p=some {cls:=.type "list",data:=.seq its'.toArray n'}:=by
  rw[Heap.get?_update_self f ho (by rw[hf]<;>rfl),hf]
 refine I.write (x:=p) (e:=p) (by rw[h];trivial) (.inl rfl) (λb u hb q=>(Heap.get?_update_other _ _ (Ne.symm hb)).trans q) ⟨_,e⟩ ?_
 exact⟨hz,its',n',r,e⟩
def rSetL:V->V->V->Hp->(Hp->Prop)->Prop:=λo i v H Q=>∃p xs k j,o=.ref p/\i=.int k/\H p=some (.lst xs)/\ixN xs.length k=some j/\Q (upd H p (.lst (xs.set j v)))
theorem set_list:PSet X rSetL:=by
 intro pins s σ H o i v ov iv u Q I ro ri rv h
 obtain⟨p,xs,k,j,rfl,rfl,hp,hj,q⟩:=h
 cases ro
 obtain⟨t,rfl⟩:=ri
 obtain⟨its,n,r,ho,hz⟩:=I.lst hp
 obtain⟨h1,h2,h3,h4⟩:=zzs hj
 have hl:=r.length
 have hn:=qzA
 have I':Inv X pins σ (upd H p (.lst (xs.set j v))) {s with heap:=s.heap.update p (Obj.mapSeq (·.setIfInBounds j u))}:=
  I.lstUpd hp ho (vzN its n j u) (r.set rv j) (by rw[List.length_set];exact hz) s.toks
 by_cases h0:0<=k
 ·have hk:k.toNat=j:=by
   rw[seqIndex_of h0 h4] at h1
   exact Option.some.inj h1
  exact PySem.W.ki_setAt ho h0 (by omega) (by rw[List.size_toArray, <- hl];exact h4) (by rw[hk];exact⟨_,I',q⟩)
 ·have hk:(k+(its.toArray.size:Int)).toNat=j:=by
   rw[seqIndex_neg (by omega) h3] at h1
   rw[List.size_toArray, <- hl]
   exact Option.some.inj h1
  exact PySem.W.ki_setBack ho (by omega) (by rw[List.size_toArray, <- hl];exact h3) (by omega) (by rw[hk];exact⟨_,I',q⟩)
theorem wzp(lo hi:Option Int)(n:Nat):(sliceBounds lo hi none n).1=((HT.sIx n 0 lo:Nat):Int)/\(sliceBounds lo hi none n).2.1=((HT.sIx n n hi:Nat):Int)/\(sliceBounds lo hi none n).2.2=1:=by
 refine⟨?_,?_,rfl⟩
 ·cases lo with
  |none=>simp[sliceBounds,HT.sIx]
  |some i=>
   simp only[sliceBounds,HT.sIx,Option.getD_none,show(1:Int)>0 by decide,if_true]
   by_cases h:i<0
   ·simp only[h,if_true]<;>omega
   ·simp only[h,if_false]<;>omega
 ·cases hi with
  |none=>simp[sliceBounds,HT.sIx]
  |some i=>
   simp only[sliceBounds,HT.sIx,Option.getD_none,show(1:Int)>0 by decide,if_true]
   by_cases h:i<0
   ·simp only[h,if_true]<;>omega
   ·simp only[h,if_false]<;>omega
theorem qz4(its:List Value)(lo hi:Option Int):slicePick its.toArray lo hi none=((its.drop (HT.sIx its.length 0 lo)).take (HT.sIx its.length its.length hi-HT.sIx its.length 0 lo)).toArray:=by
 obtain⟨h1,h2,h3⟩:=wzp lo hi its.toArray.size
 unfold slicePick
 rw[h1,h2,h3]
 simp only[sliceRange_one,pick_run,List.size_toArray]<;>rfl
def rSlL(K:PySem.W.Frag):V->Option Int->Option Int->Hp->VK->Prop:=λx lo hi H Q=>∃a xs,x=.ref a/\SqL K H a xs/\∀p,H p=none->Q (.ref p) (upd H p (.lst (cutV xs lo hi)))
theorem sl_list:SlR X (rSlL X.K):=by
 intro pins s σ H x v vl vu lo hi sl Q I rx hs pl pu h
 obtain⟨a,xs,rfl,hx,q⟩:=h
 cases rx
 obtain⟨its,r,ht,hz⟩:=I.list hx
 have hlen:=r.length
 refine⟨"list",_,slot_list_getitem.lookup,ht.isList.typeIs,?_⟩
 refine wpAny_getItem_list_slice ht.isList hs pl pu .none (by simp) ?_ (by rw[List.size_toArray]<;>omega)
 rw[qz4, <- hlen]
 refine⟨.ref s.heap.objs.size,_,I.laid (t':=s.toks) (o:=.lst (cutV xs lo hi)) (λb ob q=>Heap.get?_push_of_some _ q) (Nat.le_refl _) ?_,rfl,q _ (I.hok.fresh (Nat.le_refl _))⟩
 exact⟨Nat.le_trans (wz6 xs lo hi) hz,_,0,(r.drop (HT.sIx xs.length 0 lo)).take (HT.sIx xs.length xs.length hi-HT.sIx xs.length 0 lo),Heap.get?_push_size _ rfl⟩
def flatV:V->Bool
 |.non=>true
 |.bl _=>true
 |.int _=>true
 |.str _=>true
 |_=>false
def eqV:V->V->Bool
 |.non,.non=>true
 |.bl a,.bl b=>a==b
 |.bl a,.int b=>(if a then 1 else 0)==b
 |.int a,.bl b=>a==(if b then 1 else 0)
 |.int a,.int b=>a==b
 |.str a,.str b=>a==b
 |_,_=>false
theorem zzE{A:Around}{s:Shared}{y x:V}{u v:Value}(ry:RelV y u)(rx:RelV x v)(fy:flatV y=true)(fx:flatV x=true):SeqAt.EqAt A s u v (eqV y x):=by
 cases y with
 |non=>
  cases ry
  cases x with
  |non=>cases rx;exact SeqAt.EqAt.same _
  |bl b=>cases rx;exact SeqAt.EqAt.none_bool b
  |int b=>obtain⟨t,rfl⟩:=rx;exact SeqAt.EqAt.none_int b t
  |str b=>obtain⟨t,rfl⟩:=rx;exact SeqAt.EqAt.none_str b t
  |_=>exact absurd (show false=true from fx) Bool.false_ne_true
 |bl a=>
  cases ry
  cases x with
  |non=>cases rx;exact SeqAt.EqAt.bool_none a
  |bl b=>cases rx;exact SeqAt.EqAt.bool_bool a b
  |int b=>obtain⟨t,rfl⟩:=rx;exact SeqAt.EqAt.bool_int a b t
  |str b=>obtain⟨t,rfl⟩:=rx;exact SeqAt.EqAt.bool_str a b t
  |_=>exact absurd (show false=true from fx) Bool.false_ne_true
 |int a=>
  obtain⟨t',rfl⟩:=ry
  cases x with
  |non=>cases rx;exact SeqAt.EqAt.int_none a t'
  |bl b=>cases rx;exact SeqAt.EqAt.int_bool a t' b
  |int b=>obtain⟨t,rfl⟩:=rx;exact SeqAt.EqAt.int_int a t' b t
  |str b=>obtain⟨t,rfl⟩:=rx;exact SeqAt.EqAt.int_str a t' b t
  |_=>exact absurd (show false=true from fx) Bool.false_ne_true
 |str a=>
  obtain⟨t',rfl⟩:=ry
  cases x with
  |non=>cases rx;exact SeqAt.EqAt.str_none a t'
  |bl b=>cases rx;exact SeqAt.EqAt.str_bool a t' b
  |int b=>obtain⟨t,rfl⟩:=rx;exact SeqAt.EqAt.str_int a t' b t
  |str b=>obtain⟨t,rfl⟩:=rx;exact SeqAt.EqAt.str_str a t' b t
  |_=>exact absurd (show false=true from fx) Bool.false_ne_true
 |_=>exact absurd (show false=true from fy) Bool.false_ne_true
def eqU(x:V)(u:Value):Bool:=match u with
 |.none=>eqV .non x
 |.bool b=>eqV (.bl b) x
 |.int i _=>eqV (.int i) x
 |.str z _=>eqV (.str z) x
 |_=>false
theorem eqU_of{x y:V}{u:Value}(r:RelV y u)(f:flatV y=true):eqU x u=eqV y x:=by
 cases y with
 |non=>cases r;rfl
 |bl b=>cases r;rfl
 |int i=>obtain⟨t,rfl⟩:=r;rfl
 |str z=>obtain⟨t,rfl⟩:=r;rfl
 |_=>exact absurd (show false=true from f) Bool.false_ne_true
theorem qzL{x:V}:∀{xs:List V}{us:List Value},Vals xs us->xs.all flatV=true->us.any (eqU x)=xs.any λy=>eqV y x
 |_,_,.nil,_=>rfl
 |y::xs,u::us,.cons r t,f=>by
  rw[List.all_cons,Bool.and_eq_true] at f
  rw[List.any_cons,List.any_cons,eqU_of r f.1,qzL t f.2]
theorem jz5{A:Around}{s:Shared}{x:V}{v:Value}(rx:RelV x v)(fx:flatV x=true):∀{xs:List V}{us:List Value},Vals xs us->xs.all flatV=true->∀u∈us,SeqAt.EqAt A s u v (eqU x u)
 |_,_,.nil,_=>λu hu=>by cases hu
 |y::xs,u::us,.cons r t,f=>λu' hu=>by
  rw[List.all_cons,Bool.and_eq_true] at f
  rcases List.mem_cons.mp hu with rfl|hu
  ·rw[eqU_of r f.1];exact zzE r rx f.1 fx
  ·exact jz5 rx fx t f.2 u' hu
def inV(x:V)(xs:List V):Bool:=xs.any λy=>eqV y x
def rIn(K:PySem.W.Frag)(neg:Bool):R2:=λx y H Q=>∃p xs,y=.ref p/\(SqL K H p xs\/SqT K H p xs)/\flatV x=true/\xs.all flatV=true/\Q (.bl (if neg then !inV x xs else inV x xs)) H
theorem zzf:OpR X (compareOp .In) (rIn X.K false):=by
 intro pins s σ H x y v u Q I rx ry h
 obtain⟨p,xs,rfl,hq,fx,fs,q⟩:=h
 cases ry
 rcases hq with hq|hq
 ·obtain⟨its,r,pl,hz⟩:=I.list hq
  refine SeqAt.in_listAt (eqU x) pl.isList (λw hw=>jz5 rx fx r fs w (by simpa using hw)) ⟨.bl _,H,I,rfl,?_⟩
  rw[show its.toArray.any (eqU x)=its.any (eqU x) by simp,qzL r fs]
  exact q
 ·obtain⟨its,r,pl,hz⟩:=I.tuple hq
  refine SeqAt.in_tupleAt (eqU x) pl (λw hw=>jz5 rx fx r fs w (by simpa using hw)) ⟨.bl _,H,I,rfl,?_⟩
  rw[show its.toArray.any (eqU x)=its.any (eqU x) by simp,qzL r fs]
  exact q
theorem wzw:OpR X (compareOp .NotIn) (rIn X.K true):=by
 intro pins s σ H x y v u Q I rx ry h
 obtain⟨p,xs,rfl,hq,fx,fs,q⟩:=h
 cases ry
 rcases hq with hq|hq
 ·obtain⟨its,r,pl,hz⟩:=I.list hq
  refine SeqAt.notIn_listAt (eqU x) pl.isList (λw hw=>jz5 rx fx r fs w (by simpa using hw)) ⟨.bl _,H,I,rfl,?_⟩
  rw[show its.toArray.any (eqU x)=its.any (eqU x) by simp,qzL r fs]
  exact q
 ·obtain⟨its,r,pl,hz⟩:=I.tuple hq
  refine SeqAt.notIn_tupleAt (eqU x) pl (λw hw=>jz5 rx fx r fs w (by simpa using hw)) ⟨.bl _,H,I,rfl,?_⟩
  rw[show its.toArray.any (eqU x)=its.any (eqU x) by simp,qzL r fs]
  exact q
theorem wzH:CallR X (.builtin "len") (λxs H Q=>∃p ys,xs=[.ref p]/\(SqL X.K H p ys\/SqT X.K H p ys)/\Q (.int ys.length) H):=by
 intro pins s σ H xs us Q I r h
 obtain⟨p,ys,rfl,hq,q⟩:=h
 obtain⟨u,rfl,rx⟩:=vals1 r
 cases rx
 have hn:=qzA
 rcases hq with hq|hq
 ·obtain⟨its,r',pl,hz⟩:=I.list hq
  have hlen:=r'.length
  exact Calls.call_len_list pl.isList (by simp only[List.size_toArray]<;>omega) ⟨.int ys.length,H,I.tok _,⟨s.toks+1,by rw[List.size_toArray,hlen]⟩,q⟩
 ·obtain⟨its,r',pl,hz⟩:=I.tuple hq
  have hlen:=r'.length
  exact len_tuple pl (by simp only[List.size_toArray]<;>omega) ⟨.int ys.length,H,I.tok _,⟨s.toks+1,by rw[List.size_toArray,hlen]⟩,q⟩
theorem wzG:CallR X (.builtin "len") (λxs H Q=>∃z,xs=[.str z]/\z.length<=sizeLine/\Q (.int z.length) H):=by
 intro pins s σ H xs us Q I r h
 obtain⟨z,rfl,hz,q⟩:=h
 obtain⟨u,rfl,t,rfl⟩:=vals1 r
 have hn:=qzA
 exact len_str (by omega) ⟨.int z.length,H,I.tok _,⟨_,rfl⟩,q⟩
theorem wzF:CallR X (.type "list") (λxs H Q=>∃p ys,xs=[.ref p]/\(SqL X.K H p ys\/SqT X.K H p ys)/\∀l,H l=none->Q (.ref l) (upd H l (.lst ys))):=by
 intro pins s σ H xs us Q I r h
 obtain⟨p,ys,rfl,hq,q⟩:=h
 obtain⟨u,rfl,rx⟩:=vals1 r
 cases rx
 have fin:∀(its:List Value),Vals ys its->ys.length<=sizeLine->∀(h':Heap)(c':Nat),(∀b o',s.heap.get? b=some o'->h'.get? b=some o')->
  h'.get? s.heap.objs.size=some {cls:=.type "list",dict:=none,data:=.seq its.toArray c',slots:= #[]}->EP X pins σ Q (.ref s.heap.objs.size) {s with heap:=h'}:=λits r' hz h' c' kp e=>
  ⟨.ref s.heap.objs.size,_,I.laid (t':=s.toks) kp (Nat.le_refl _) (show ObjOk X.prog X.w _ h' _ (.lst ys) from⟨hz,its,c',r',e⟩),rfl,q _ (I.hok.fresh (Nat.le_refl _))⟩
 rcases hq with hq|hq
 ·obtain⟨its,r',pl,hz⟩:=I.list hq
  have hlen:=r'.length
  obtain⟨o,ho,hc,n,hd⟩:=pl.isList
  exact call_list_seq p (.inl rfl) ho hc hd (λh' c' kp e=>fin its r' hz h' c' kp e) (by simp only[List.size_toArray]<;>omega)
 ·obtain⟨its,r',pl,hz⟩:=I.tuple hq
  have hlen:=r'.length
  obtain⟨o,ho,hc,n,hd⟩:=pl
  exact call_list_seq p (.inr rfl) ho hc hd (λh' c' kp e=>fin its r' hz h' c' kp e) (by simp only[List.size_toArray]<;>omega)
theorem wzh:CallR X (.type "tuple") (λxs H Q=>∃p ys,xs=[.ref p]/\((SqL X.K H p ys/\∀l,H l=none->Q (.ref l) (upd H l (.tup ys)))\/(SqT X.K H p ys/\Q (.ref p) H))):=by
 intro pins s σ H xs us Q I r h
 obtain⟨p,ys,rfl,h⟩:=h
 obtain⟨u,rfl,rx⟩:=vals1 r
 cases rx
 rcases h with ⟨hq,q⟩|⟨hq,q⟩
 ·obtain⟨its,r',pl,hz⟩:=I.list hq
  have hlen:=r'.length
  refine call_tuple_list pl.isList (λh' kp=>?_) (by simp only[List.size_toArray]<;>omega)
  have I1:Inv X pins σ H {s with heap:=h'}:=I.kept (t':=s.toks) kp
  have I2:Inv X pins σ (upd H h'.objs.size (.tup ys)) {s with heap:=h'.push {cls:=.type "tuple",data:=.seq its.toArray}}:=
   I1.laid (t':=s.toks) (λb o e=>Heap.get?_push_of_some _ e) (Nat.le_refl _) (show ObjOk X.prog X.w _ _ _ (.tup ys) from⟨hz,its,r',IsTup.new _ _⟩)
  exact⟨.ref h'.objs.size,_,I2,rfl,q _ (I1.hok.fresh (Nat.le_refl _))⟩
 ·obtain⟨its,r',pl,hz⟩:=I.tuple hq
  exact call_tuple_same pl ⟨.ref p,H,I,rfl,q⟩
def tyV(K:PySem.W.Frag)(T:String)(x:V)(H:Hp):Prop:=match x with
 |.str _=>T="str"
 |.int _=>T="int"
 |.ref p=>(T="list"/\∃xs,SqL K H p xs)\/(T="tuple"/\∃o,K.lookup p=some o/\o.cls=.type "tuple"/\o.dict=none)\/
   (T="dict"/\((∃kvs,H p=some (.dK kvs))\/∃kvs,H p=some (.dT kvs)))\/(T="set"/\∃S n,H p=some (.set S n))
 |_=>False
theorem tyV_is{pins:List (Addr×Obj)}{σ:St}{H:Hp}{s:Shared}{T:String}{x:V}{v:Value}(I:Inv X pins σ H s)(r:RelV x v)(ty:tyV X.K T x H):
 s.TypeIs v T/\∀a,v=.ref a->∃ob,s.heap.get? a=some ob/\ob.dict=none:=by
 cases x with
 |str z=>
  obtain⟨t,rfl⟩:=r
  cases(show T="str" from ty)
  exact⟨typeIs_str s z t,λ_ e=>nomatch e⟩
 |int i=>
  obtain⟨t,rfl⟩:=r
  cases(show T="int" from ty)
  exact⟨typeIs_int s i t,λ_ e=>nomatch e⟩
 |ref p=>
  cases r
  rcases ty with ⟨rfl,xs,hq⟩|⟨rfl,o,hk,hc,hd⟩|⟨rfl,hk⟩|⟨rfl,S,n,hk⟩
  ·obtain⟨its,_,pl,_⟩:=I.list hq
   refine⟨pl.isList.typeIs,λa e=>?_⟩
   cases e
   obtain⟨o,n,e,c,hd,_⟩:=pl
   exact⟨o,e,hd⟩
  ·refine⟨⟨o,I.kIn p o hk,hc⟩,λa e=>?_⟩
   cases e
   exact⟨o,I.kIn _ o hk,hd⟩
  ·have z:∃o,s.heap.get? p=some o/\o.ExactDict:=by
    rcases hk with ⟨kvs,hk⟩|⟨kvs,hk⟩
    ·obtain⟨_,_,_,_,o,_,_,e,ex,_⟩:=I.hok p _ hk
     exact⟨o,e,ex⟩
    ·obtain⟨_,_,_,_,o,_,_,e,ex,_⟩:=I.hok p _ hk
     exact⟨o,e,ex⟩
   obtain⟨o,e,ex⟩:=z
   refine⟨⟨o,e,ex.1⟩,λa e2=>?_⟩
   cases e2
   exact⟨o,e,ex.2.1⟩
  ·obtain⟨o,_,_,_,e,ex,_⟩:=I.hok p _ hk
   refine⟨⟨o,e,ex.1⟩,λa e2=>?_⟩
   cases e2
   exact⟨o,e,ex.2.1⟩
 |_=>exact False.elim ty
def tBM(K:PySem.W.Frag)(T:String)(r:V->List V->Hp->VK->Prop)(to:TE)(t:TA):TE:=λσ H Q=>to σ H λx H1=>tyV K T x H1/\t σ H1 λxs H2=>r x xs H2 Q
variable {o e:Expr}{es:List Expr}{to:TE}{t:TA}{name:Str}{apos cpos:Pos}{T id:String}{r:V->List V->Hp->VK->Prop}
theorem pe_bm(pa:PlainAttrs T)(slot:Slot T name id)(hty:typeOf (.builtin id)=pure (.type "method_descriptor"))(hm:MtR X id r)(ho:PE X o to)(ha:PA X (e::es) t)
 (hbase:attributeBase o name X.env (eval o X.env)=eval o X.env:=by rfl)
 (hfew:((backTo cpos (starEach (e::es) X.env)).all (λx=> !x.1)&&(backToKw cpos (keywordEach [] X.env)).all (λx=>x.1.isSome)
   &&decide ((e::es).length+([]:List Keyword).length+(if([]:List Keyword).isEmpty then 0 else 1)<30))=true:=by rfl)
 (hline:(apos.endLine==cpos.line)=true:=by rfl)(hs:starEach (e::es) X.env=(false,eval e X.env)::starEach es X.env:=by rfl)(hplain:(backTo cpos (starEach es X.env)).any (·.1)=false:=by rfl):
 PE X (.Call (.Attribute o name apos) (e::es) [] cpos) (tBM X.K T r to t):=by
 intro pins s σ H Q I h
 refine wpAny_Call_method_late hbase hfew hline rfl (thn (ho pins s σ H _ I h) λv s1 ⟨x,H1,I1,r1,ty,q1⟩=>?_)
 obtain⟨h1,h2⟩:=tyV_is I1 r1 ty
 refine⟨T,id,pa,slot,hty,h1,h2,?_⟩
 have hA:=ha cpos pins s1 σ H1 _ I1 q1
 rw[hs] at hA⊢
 refine Calls.callWith_builtin (by show(false||(backTo cpos (starEach es X.env)).any (·.1))=false;rw[hplain]<;>rfl) (Calls.evalArgs_plain ?_)
 exact thn hA λus s2 ⟨vs,H2,I2,r2,q2⟩=>hm pins s2 σ H2 x vs v us Q I2 r1 r2 q2
end
end L2
namespace L2
open PySem PySem.Spec PyProof.Rows
def MtM(X:Cx)(id:String)(r:V->List V->Hp->VK->Prop):Prop:=
 ∀(pins:List (Addr×Obj))(s:Shared)(σ:St)(H:Hp)(x:V)(xs:List V)(v:Value)(us:List Value)(Q:VK),Inv X pins σ H s->RelV x v->Vals xs us->r x xs H Q->
  wpAny (model X.prog X.w) X.A (call (.builtin id) (v::us)) (EP X pins σ Q) X.xe s
theorem Vals.one:∀{x:V}{us:List Value},Vals [x] us->∃u,us=[u]/\RelV x u
 |_,_,.cons r .nil=>⟨_,rfl,r⟩
section
variable {X:Cx}{pins:List (Addr×Obj)}{σ:St}{H:Hp}{s:Shared}{l b:Addr}{xs ys zs:List V}
theorem Inv.lset{its its':List Value}{n:Nat}{f:Array Value->Array Value}{t':Nat}(I:Inv X pins σ H s)(hH:H l=some (.lst xs))
 (e:s.heap.get? l=some {cls:=.type "list",data:=.seq its.toArray n})(hf:f its.toArray=its'.toArray)(hv:Vals ys its')(hz:ys.length<=sizeLine):
 Inv X pins σ (upd H l (.lst ys)) {s with heap:=s.heap.update l (Obj.mapSeq f),toks:=t'}:=by
 have q:=PySem.IsL.update e f
 rw[hf] at q
 refine I.write (x:=l) (e:=l) (by rw[hH];exact trivial) (.inl rfl) (λb' u hb hu=>(Heap.get?_update_other s.heap (Obj.mapSeq f) (Ne.symm hb)).trans hu) ⟨_,q⟩ ?_
 exact⟨hz,its',_,hv,q⟩
theorem Inv.lnew{its:List Value}{t':Nat}(I:Inv X pins σ H s)(hv:Vals ys its)(hz:ys.length<=sizeLine):
 Inv X pins σ (upd H s.heap.objs.size (.lst ys)) {s with heap:=s.heap.push {cls:=.type "list",data:=.seq its.toArray},toks:=t'}:=
 I.laid (λ_ _ q=>Heap.get?_push_of_some _ q) (Nat.le_refl _) ⟨hz,its,0,hv,Heap.get?_push_size _ rfl⟩
theorem Inv.fresh(I:Inv X pins σ H s):H s.heap.objs.size=none:=I.hok.fresh (Nat.le_refl _)
theorem Inv.lstM(I:Inv X pins σ H s)(hH:H l=some (.lst xs)):xs.length<=sizeLine/\∃(its:List Value)(n:Nat),Vals xs its/\xs.length=its.length/\s.heap.get? l=some {cls:=.type "list",data:=.seq its.toArray n}:=by
 obtain⟨z,its,n,r,e⟩:=I.hok l _ hH
 exact⟨z,its,n,r,r.length,e⟩
end
section
variable {X:Cx}
def rAppend:V->List V->Hp->VK->Prop:=λx vs H Q=>∃l xs y,x=.ref l/\vs=[y]/\H l=some (.lst xs)/\xs.length<sizeLine/\Q .non (upd H l (.lst (xs++ [y])))
theorem qzy:MtM X "list.append" rAppend:=by
 intro pins s σ H x vs v us Q I rx rv h
 obtain⟨l,xs,y,rfl,rfl,hH,hz,q⟩:=h
 cases rx
 obtain⟨u,rfl,ru⟩:=rv.one
 obtain⟨z,its,n,r,hl,e⟩:=I.lstM hH
 refine call_meets F.slot_list_append ⟨_,e,rfl⟩ F.entry_list_append (F.args_list_append_2 _ _) (PySem.list_append l its.toArray n u (by rw[List.size_toArray];omega)) ⟨e,?_⟩
 refine⟨.non,_,I.lset (its':=its++ [u]) hH e (by simp) (r.append (.cons ru .nil)) ?_,rfl,q⟩
 rw[List.length_append,List.length_singleton]
 omega
def rCat:R2:=λx y H Q=>∃l b xs zs,x=.ref l/\y=.ref b/\H l=some (.lst xs)/\H b=some (.lst zs)/\xs.length+zs.length<=sizeLine/\∀p,H p=none->Q (.ref p) (upd H p (.lst (xs++zs)))
theorem op_cat:OpR X (binaryOp .Add) rCat:=by
 intro pins s σ H x y v u Q I rx ry h
 obtain⟨l,b,xs,zs,rfl,rfl,hH,hB,hz,q⟩:=h
 cases rx
 cases ry
 obtain⟨z,its,n,r,hl,e⟩:=I.lstM hH
 obtain⟨z2,its2,n2,r2,hl2,e2⟩:=I.lstM hB
 refine PySem.P.add_list e e2 ?_ (by rw[List.size_toArray,List.size_toArray];omega)
 have ea:its.toArray++its2.toArray=(its++its2).toArray:=by simp
 rw[ea]
 exact⟨.ref _,_,I.lnew (t':=s.toks) (r.append r2) (by rw[List.length_append];omega),rfl,q _ I.fresh⟩
end
section
variable {prog:Program}{w:World}{A:Around}{E:Value->Shared->Prop}{s:Shared}
end
section
variable {X:Cx}
end
end L2
namespace Att
open PySem PySem.W PySem.Calls PyProof.Rows
theorem qzD{P:Params}{h:Heap}:∀(ns:List Int)(vs:List Value),WellAll P h vs (ns.map WData.int)->IntsAre vs ns:=by
 intro ns
 induction ns with
 |nil=>
  intro vs w
  rw[List.map_nil] at w
  cases w
  exact .nil
 |cons n ns ih=>
  intro vs w
  rw[List.map_cons] at w
  cases w with
  |cons a b=>
   cases a
   exact .cons _ _ (ih _ b)
theorem vz3{l:OpenLaw}{n:Nat}(hn:l.most=some n){P:Params}{h:Heap}{args:List WData}{vals:List Value}
 (hpre:l.row.toRowW.claim.pre args=true)(hwl:WellAll P h vals args):
 ∃a vs ns,vals=[Value.ref a]/\args=[WData.list (ns.map WData.int)]/\h.get? a=some {cls:=.type "list",data:=.seq vs.toArray}/\IntsAre vs ns/\ns.length<=n:=by
 have hsh:WShape.hasAll [] args [.list .int]=true:=(pre_splitW hpre).1
 have hc:l.pre.holds [] {args:=args}=true:=(pre_splitW hpre).2
 obtain⟨d,r,rfl,h1,h2⟩:=hasAllW_cons hsh
 obtain rfl:=hasAllW_nil h2
 obtain⟨xs,rfl,h3⟩:=hasW_list h1
 obtain⟨ns,rfl⟩:=items_int h3
 have hlen:ns.length<=n:=by
  unfold OpenLaw.pre at hc
  have h4:(WTm.not (.lt (.lit (.int (n:Int))) (.len (.arg 0)))).holds [] {args:= [.list (ns.map .int)]}=true:=by
   have h4:=(holds_andW hc).1
   rw[hn] at h4
   exact h4
  have h5:=condW_of h4 (w_not (w_lt w_lit (w_len_list (w_arg rfl))))
  rw[List.length_map] at h5
  refine Nat.le_of_not_lt λq=>?_
  have q':(n:Int)<((ns.length:Nat):Int):=by omega
  first
   |(rw[decide_eq_true q'] at h5;exact absurd h5 (by decide))
   |(simp at h5;omega)
 cases hwl with
 |cons w1 w2=>
  cases w2
  cases w1 with
  |list ho hall=>exact⟨_,_,ns,rfl,rfl,ho,qzD ns _ hall,hlen⟩
theorem vz9(l:OpenLaw)(args:List WData):l.row.toRowW.claim.post args (.bool true) args=true:=
 postW_of (r:=l.row.toRowW) (X:=(true==true))
  (show WShape.has [] (.bool true) .bool=true by first |rfl|decide|simp[WShape.has,WShape.arms,WShape.armsAll])
  (show(WTm.eq .res (.lit (.bool true))).value [] {args:=args,res:=some (.bool true),after:=args}=some (.bool (true==true)) from w_eq_bool (w_res rfl) w_lit) rfl
theorem attach_call{l:OpenLaw}{n:Nat}{q:Program}{loose:List Str}{XP:(Str->Option Value)->Heap->Prop}{YP:World->Heap->Prop}{d:DefRec}
 (hn:l.most=some n)(hdf:d.params.defaults=[])
 (call:∀(w:World)(s₀ s₁:Shared)(mg mb:Str->Option Value)(fa:Addr)(o:Obj)(pm cd doc:Value)(a:Addr)(vs:List Value)(ns:List Int),
   Ground q loose [] XP w s₀ mg mb s₁.heap->YP w s₁.heap->
   s₁.heap.get? fa=some o->o.data=.func (docDef d.name d.params d.body d.scope pm cd doc)->s₁.heap.CodeRec cd d.name->mg d.name=some (.ref fa)->
   s₁.heap.get? a=some {cls:=.type "list",data:=.seq vs.toArray}->IntsAre vs ns->ns.length<=n->s₁.gens= #[]->
   codeAny (model l.prog w) callerA (.call (.ref fa) ⟨[.ref a],[]⟩) (λr s'=>r=.ok (.ret (.bool true))/\OldK s₁.heap s'.heap/\s'.os=s₁.os/\AllBare s'.gens) s₁):
 WalkO q loose XP YP l.row.toRowW d [] (λf vs=>PySem.call f vs):=by
 intro w s₀ s₁ mg mb G Y fa o pm cd doc dV kV ho hd hcd hD hmg hg args vals as hpre hlay hrd hwl hlo
 obtain rfl:dV=.none:=Dflts.none hD hdf
 obtain rfl:kV=.none:=Dflts.noKw hD
 obtain⟨a,vs,ns,rfl,rfl,hobj,hints,hlen⟩:=vz3 hn hpre hwl
 refine enter_call (codeAny_mono (call w s₀ s₁ mg mb fa o pm cd doc a vs ns G Y ho (fd_plain hd) hcd hmg hobj hints hlen hg) λr s' hq=>?_)
 obtain⟨rfl,h2,h3,h4⟩:=hq
 exact⟨.inl ⟨.bool true,.bool true,[],rfl,λ_=>rfl,.bool true,vz9 l _,λ_=>⟨List.Pairwise.nil,λ_ hm=>(nomatch hm)⟩⟩,h2,h3,h4⟩
section
variable {prog:Program}{w:World}{A:Around}{E:Value->Shared->Prop}{s:Shared}{K:Frag}
end
end Att
namespace L2
open PySem PySem.Spec PyProof.Rows
theorem wzj:∀{vs:List Value}{ns:List Int},IntsAre vs ns->Vals (ns.map V.int) vs
 |_,_,.nil=>.nil
 |_,_,.cons n t h=>.cons ⟨t,rfl⟩ (wzj h)
def Only(H:Hp):Prop:=∀b,H b=none\/∃o xs,H b=some (.frz o (.lst xs))
theorem law_call{P:Program}{w:World}{K:PySem.W.Frag}{mg mb:Str->Option Value}{CX:CXT}{k:Nat}{fa a:Addr}{fd:FuncData}{x:Str}{sp:Sp}{s₁:Shared}{vs:List Value}{ns:List Int}
 (KX:K.In s₁.heap)(hns:s₁.heap.Ns mainGlobals mg)(hb:s₁.heap.Ns builtinsNs mb)(hbb:∀x:Str,x≠"__name__"->mb x=bootBuiltins x)(hlim:s₁.heap.NoLimit)(hg:s₁.gens= #[])
 (ha:s₁.heap.get? a=some {cls:=.type "list",data:=.seq vs.toArray})(hi:IntsAre vs ns)(hl:ns.length<=sizeLine)(hr:Room k callerA)
 (F:∀base:Heap,K.In base->base.Ns mainGlobals mg->FnOk P w K mg base CX k fa fd [x] sp)(hbind:∀(s:Shared)(u:Value),BindsTo s fd ⟨[u],[]⟩ [(x,u)])
 (hsp:∀H:Hp,Only H->SqL K H a (ns.map V.int)->sp [.ref a] H (λv _=>v=.bl true) λ_ _ _=>False)
 (hCX:∀H e s',CX [] H s₁ (λ_ _ _=>False) e s'->False):
 codeAny (model P w) callerA (.call (.ref fa) ⟨[.ref a],[]⟩) (λr s'=>r=.ok (.ret (.bool true))/\OldK s₁.heap s'.heap/\s'.os=s₁.os/\AllBare s'.gens) s₁:=by
 have rv:=wzj hi
 have lenV:=hi.length
 have core:∀H:Hp,Only H->SqL K H a (ns.map V.int)->HOk P w H s₁.heap->(∀b,H b≠none->b=a)->(H a≠none->K.lookup a=none)->
  codeAny (model P w) callerA (.call (.ref fa) ⟨[.ref a],[]⟩) (λr s'=>r=.ok (.ret (.bool true))/\OldK s₁.heap s'.heap/\s'.os=s₁.os/\AllBare s'.gens) s₁:=by
  intro H hO hS hok hA hK
  have base_of:∀{b:Addr}{o:Obj},s₁.heap.get? b=some o->H b=none->(hidT s₁.heap H).get? b=some o:=λe n=>hidT_get e n
  have noA:∀{b:Addr}{o:Obj}{es:Array DictEntry}{ep:Nat},s₁.heap.get? b=some o->o.data=.dict es ep->H b=none:=λ{b o es ep} e d=>by
   cases q:H b with
   |none=>rfl
   |some u=>
    have e':b=a:=hA b (by rw[q];simp)
    subst e'
    rw[ha] at e;cases e
    have d':Data.seq vs.toArray _=Data.dict es ep:=d
    cases d'
  have nsK:∀{b:Addr}{m:Str->Option Value},s₁.heap.Ns b m->(hidT s₁.heap H).Ns b m:=λ{b m} ⟨o,es,ep,e,d,r⟩=>⟨o,es,ep,base_of e (noA e d),d,r⟩
  have hKb:K.In (hidT s₁.heap H):=λb o e=>base_of (KX b o e) (by
   cases q:H b with
   |none=>rfl
   |some u=>
    have e':b=a:=hA b (by rw[q];simp)
    subst e'
    rw[hK (by rw[q];simp)] at e;cases e)
  have hM:Mod K mg (hidT s₁.heap H):=⟨hKb,nsK hns,⟨mb,nsK hb,hbb⟩,let⟨mc,h1,h2⟩:=hlim;⟨mc,nsK h1,h2⟩⟩
  have e0:Env0 P w K mg (hidT s₁.heap H) callerA [] s₁ H:=⟨rfl,hM,λb o e=>of_hidT e,Nat.le_of_eq (zzv _ _),trivial,λb hb=>absurd (show b∈([]:List Addr) from hb) (by simp),hok,.of_eq hg⟩
  refine codeAny_mono ((F _ hKb (nsK hns)).run callerA [] s₁ H ⟨[.ref a],[]⟩ [.ref a] [.ref a] _ _ hr e0 (hbind s₁ (.ref a)) (.cons rfl .nil) (hsp H hO hS)) λr s' h=>?_
  cases r with
  |error e=>exact(hCX H e s' h).elim
  |ok fl=>
   cases fl with
   |next=>exact False.elim h
   |brk=>exact False.elim h
   |cont=>exact False.elim h
   |ret u=>
    obtain⟨v,H',os,bare,un,hok',r',q⟩:=h
    have q':v=.bl true:=q
    subst q'
    obtain rfl:u=Value.bool true:=r'
    refine⟨rfl,OldK.of_keep λb o e=>?_,os,bare⟩
    cases q:H b with
    |none=>exact un.keep b o e q (by intro z;exact absurd (show b∈([]:List Addr) from z) (by simp)) (by simp)
    |some u=>
     rcases hO b with z|⟨ob,xs,z⟩
     ·rw[q] at z;cases z
     ·have z2:=un.frzs b ob _ z
      obtain⟨e1,_⟩:=hok b _ z
      obtain⟨e2,_⟩:=hok' b _ z2
      rw[e] at e1;cases e1
      exact e2
 cases hk:K.lookup a with
 |some o=>
  have e:=KX a o hk
  rw[ha] at e
  cases e
  refine core (λ_=>none) (λ_=>.inl rfl) (.inr ⟨_,vs.toArray,_,hk,rfl,rfl,rfl,by rw[List.size_toArray,lenV];exact hl,by simpa using rv⟩) (λb u z=>by have z':(none:Option HO)=some u:=z;cases z') (λb z=>absurd rfl z) λz=>absurd rfl z
 |none=>
  refine core (λb=>if b=a then some (.frz {cls:=.type "list",data:=.seq vs.toArray} (.lst (ns.map V.int))) else none) (λb=>?_) (.inl (.inr ⟨{cls:=.type "list",data:=.seq vs.toArray},if_pos rfl⟩)) (λb u z=>?_) (λb z=>?_) λ_=>hk
  ·by_cases hb:b=a
   ·exact .inr ⟨_,_,if_pos hb⟩
   ·exact .inl (if_neg hb)
  ·by_cases hb:b=a
   ·have z':=(if_pos hb).symm.trans z
    cases z'
    subst hb
    exact⟨ha,by rw[List.length_map];exact hl,vs,_,rv,ha⟩
   ·have z':=(if_neg hb).symm.trans z
    cases z'
  ·by_cases hb:b=a
   ·exact hb
   ·exact absurd (if_neg hb) z
end L2
namespace L2
open PySem PySem.Spec PyProof.Rows
theorem walk_of{l:PySem.W.OpenLaw}{n k:Nat}{q:Program}{loose:List Str}{XP:(Str->Option Value)->Heap->Prop}{YP:World->Heap->Prop}{d:DefRec}{K:Params->PySem.W.Frag}{CX:World->CXT}{sp:World->Sp}{x:Str}
 (hn:l.most=some n)(hn2:n<=sizeLine)(hdf:d.params.defaults=[])(hr:Room k callerA)
 (hY:∀(w:World)(h:Heap),YP w h->(K w.params).In h)
 (F:∀(w:World)(mg:Str->Option Value)(fa:Addr)(h:Heap),(K w.params).In h->h.Ns mainGlobals mg->mg d.name=some (.ref fa)->
   ∃fd:FuncData,(∀(s:Shared)(u:Value),BindsTo s fd ⟨[u],[]⟩ [(x,u)])/\
    ∀base:Heap,(K w.params).In base->base.Ns mainGlobals mg->FnOk l.prog w (K w.params) mg base (CX w) k fa fd [x] (sp w))
 (hsp:∀(w:World)(H:Hp)(a:Addr)(ns:List Int),ns.length<=n->Only H->SqL (K w.params) H a (ns.map V.int)->sp w [.ref a] H (λv _=>v=.bl true) λ_ _ _=>False)
 (hCX:∀(w:World)(H:Hp)(s:Shared)(e:Value)(s':Shared),CX w [] H s (λ_ _ _=>False) e s'->False):
 PySem.W.WalkO q loose XP YP l.row.toRowW d [] (λf vs=>PySem.call f vs):=by
 refine Att.attach_call hn hdf λw s₀ s₁ mg mb fa o pm cd doc a vs ns G Y ho hd hcd hmg hobj hints hlen hg=>?_
 have KX:=hY w _ Y
 obtain⟨fd,hb,hF⟩:=F w mg fa _ KX G.T.g hmg
 exact law_call KX G.T.g G.T.b G.T.builtins G.T.nolimit hg hobj hints (Nat.le_trans hlen hn2) hr hF hb (λH hO hS=>hsp w H a ns hlen hO hS) λH e s'=>hCX w H s₁ e s'
end L2
namespace L2
open PySem PySem.Spec PyProof.Rows
def inClass(s:Stmt)(j:Nat):Stmt:=match s with
 |.ClassDef _ _ _ body _ _ _ _ _ _ _=>body.getD j (.Pass ⟨0,0,0,0⟩)
 |_=>.Pass ⟨0,0,0,0⟩
def defArgs(s:Stmt):Arguments:=match s with
 |.FunctionDef _ a _ _ _ _ _ _ _ _=>a
 |_=>{posonlyargs:= [],args:= [],vararg:=none,kwonlyargs:= [],kw_defaults:= [],kwarg:=none,defaults:= []}
def defBody(s:Stmt):List Stmt:=match s with
 |.FunctionDef _ _ b _ _ _ _ _ _ _=>b
 |_=>[]
def defScope(s:Stmt):Scope:=match s with
 |.FunctionDef _ _ _ _ _ _ sc _ _ _=>sc
 |_=>{kind:=.function,names:= [],isGenerator:=false,isCoroutine:=false}
abbrev CX0:CXT:=λ_ _ _ _ _ _=>False
abbrev E0:XK:=λ_ _ _=>False
structure Fun (K:PySem.W.Frag)(x qual:Str)(st:Stmt)(f:Addr)(fd:FuncData):Prop where
 ex:∃(oc:Value)(od:Option Addr)(kV doc pm:Value)(an:Option Addr)(cdv ct:Value)(osl:Array (Option Value)),
  fd=PySem.W.fnOf x qual (defArgs st) (defBody st) (defScope st) .none kV doc pm an cdv ct/\K.lookup f=some ⟨oc,od,.func fd,osl⟩/\PySem.W.codeIn K cdv qual=true
 kp:PySem.W.keepIn K (.ref f)=true
section
variable {P:Program}{w:World}{K:PySem.W.Frag}{mg:Str->Option Value}{base:Heap}
theorem Fun.binds{x qual:Str}{st:Stmt}{f:Addr}{fd:FuncData}{ps:List Str}(F:Fun K x qual st f fd)
 (h:∀(kV doc pm:Value)(an:Option Addr)(cdv ct:Value)(us:List Value),us.length=ps.length->bindArgs (PySem.W.fnOf x qual (defArgs st) (defBody st) (defScope st) .none kV doc pm an cdv ct) ⟨us,[]⟩=pure (ps.zip us)):Binds K fd ps []:=by
 obtain⟨oc,od,kV,doc,pm,an,cdv,ct,osl,rfl,lk,hcd⟩:=F.ex
 exact .all (h kV doc pm an cdv ct)
theorem jzD{x qual:Str}{st:Stmt}{f:Addr}{oc:Value}{od an:Option Addr}{osl:Array (Option Value)}{kV doc pm cdv ct:Value}(l:K.lookup f=some ⟨oc,od,.func (PySem.W.fnOf x qual (defArgs st) (defBody st) (defScope st) .none kV doc pm an cdv ct),osl⟩)
 (c:PySem.W.codeIn K cdv qual=true)(k:PySem.W.keepIn K (.ref f)=true):Fun K x qual st f (PySem.W.fnOf x qual (defArgs st) (defBody st) (defScope st) .none kV doc pm an cdv ct):=⟨⟨oc,od,kV,doc,pm,an,cdv,ct,osl,rfl,l,c⟩,k⟩
end
theorem wzo{n:Nat}(h:n<=1000):n<sizeLine:=Nat.lt_of_le_of_lt h (by decide)
section
variable {X:Cx}
theorem pv(i:Nat){x:Str}{pos:Pos}(hN:X.N[i]? =some x:=by rfl)(hv:Vis X.env.scope x:=by first |exact Or.inl rfl|exact Or.inr (Or.inl rfl)|exact Or.inr (Or.inr rfl))(hd:(x==("__debug__":Str))=false:=by decide)
 (hcd:(x==("__classdict__":Str))=false:=by decide):PE X (.Name x pos) (tVar i):=pe_var hN hv hd hcd
end
theorem iteF{A B:Prop}(h:B):if false=true then A else B:=by
 rw[if_neg Bool.false_ne_true]
 exact h
theorem iteT{A B:Prop}(h:A):if true=true then A else B:=by
 rw[if_pos rfl]
 exact h
def Same(H H':Hp):Prop:=∀b o,H b=some o->H' b=some o
end L2
section
namespace L2
open PySem PySem.Spec PyProof.Rows
section
variable {κ:Type} [DecidableEq κ]
def valV(kvs:List (κ×V))(k:κ):Option V:=(kvs.find? λkv=>decide (kv.1=k)).map (·.2)
def putK(kvs:List (κ×V))(k:κ)(v:V):List (κ×V):=
 if(kvs.any λkv=>decide (kv.1=k))=true then kvs.map (λkv=>if kv.1=k then(kv.1,v) else kv) else kvs++ [(k,v)]
def dropK(kvs:List (κ×V))(k:κ):List (κ×V):=kvs.filter λkv=>decide (kv.1≠k)
theorem qz0{p:κ×V}{r:List (κ×V)}{k:κ}(e:p.1=k):valV (p::r) k=some p.2:=by simp[valV,List.find?_cons,e]
theorem qz1{p:κ×V}{r:List (κ×V)}{k:κ}(e:¬p.1=k):valV (p::r) k=valV r k:=by simp[valV,List.find?_cons,e]
theorem vzb(k:κ):∀kvs:List (κ×V),(kvs.any λkv=>decide (kv.1=k))=(valV kvs k).isSome
 | []=>rfl
 |p::r=>by
  rw[List.any_cons]
  by_cases e:p.1=k
  ·simp only[qz0 e,decide_eq_true e,Bool.true_or,Option.isSome_some]
  ·rw[qz1 e,decide_eq_false e,Bool.false_or];exact vzb k r
theorem jzN(kvs:List (κ×V))(k:κ)(v:V):(putK kvs k v).length<=kvs.length+1:=by
 unfold putK
 split
 ·rw[List.length_map];omega
 ·rw[List.length_append,List.length_cons,List.length_nil];omega
theorem RelO.isSome_eq{o:Option V}{u:Option Value}(r:RelO o u):o.isSome=u.isSome:=by
 cases o with
 |none=>cases u with
  |none=>rfl
  |some _=>exact(show False from r).elim
 |some _=>cases u with
  |none=>exact(show False from r).elim
  |some _=>rfl
theorem RelO.getD{o:Option V}{u:Option Value}{d:V}{d':Value}(r:RelO o u)(rd:RelV d d'):RelV (o.getD d) (u.getD d'):=by
 cases o with
 |none=>cases u with
  |none=>exact rd
  |some _=>exact(show False from r).elim
 |some _=>cases u with
  |none=>exact(show False from r).elim
  |some _=>exact r
theorem KV.val{kvs:List (κ×V)}{vs:List (κ×Value)}(r:KV kvs vs)(k:κ):RelO (valV kvs k) (valueAt vs k):=by
 unfold KV at r
 induction r with
 |nil=>exact True.intro
 | @cons p q ps qs h t ih=>
   obtain⟨h1,h2⟩:=h
   by_cases e:p.1=k
   ·have e':q.1=k:=h1.symm.trans e
    have b:valueAt (q::qs) k=some q.2:=by simp[valueAt,List.find?_cons,e']
    rw[qz0 e,b];exact h2
   ·have e':¬q.1=k:=λz=>e (h1.trans z)
    have b:valueAt (q::qs) k=valueAt qs k:=by simp[valueAt,List.find?_cons,e']
    rw[qz1 e,b];exact ih
theorem KV.any{kvs:List (κ×V)}{vs:List (κ×Value)}(r:KV kvs vs)(k:κ):(kvs.any λkv=>decide (kv.1=k))=vs.any λkv=>decide (kv.1=k):=by
 unfold KV at r
 induction r with
 |nil=>rfl
 |cons h t ih=>rw[List.any_cons,List.any_cons,ih,h.1]
theorem KV.repl{kvs:List (κ×V)}{vs:List (κ×Value)}(r:KV kvs vs)(k:κ){y:V}{u:Value}(ry:RelV y u):
 KV (kvs.map λkv=>if kv.1=k then(kv.1,y) else kv) (vs.map λkv=>if kv.1=k then(kv.1,u) else kv):=by
 unfold KV at r⊢
 induction r with
 |nil=>exact .nil
 | @cons p q ps qs h t ih=>
   rw[List.map_cons,List.map_cons]
   refine .cons ?_ ih
   obtain⟨h1,h2⟩:=h
   by_cases e:p.1=k
   ·rw[if_pos e,if_pos (h1.symm.trans e)];exact⟨h1,ry⟩
   ·rw[if_neg e,if_neg (λz=>e (h1.trans z))];exact⟨h1,h2⟩
theorem KV.put{kvs:List (κ×V)}{vs:List (κ×Value)}(r:KV kvs vs)(k:κ){y:V}{u:Value}(ry:RelV y u):KV (putK kvs k y) (stored vs k u):=by
 unfold putK stored
 rw[r.any k]
 by_cases e:(vs.any λkv=>decide (kv.1=k))=true
 ·rw[if_pos e,if_pos e];exact r.repl k ry
 ·rw[if_neg e,if_neg e];exact Paired.snoc r ⟨rfl,ry⟩
theorem KV.length{kvs:List (κ×V)}{vs:List (κ×Value)}(r:KV kvs vs):kvs.length=vs.length:=Paired.length r
end
theorem kV_is{P:Program}{w:World}{k:Key}{u:Value}(r:RelV (kV k) u):(mixKind P w).is k u=true:=by
 cases k with
 |inl i=>obtain⟨t,e⟩:=(show ∃t,u=Value.int i t from r);subst e;exact wzZ P w i t
 |inr x=>obtain⟨t,e⟩:=(show ∃t,u=Value.str x t from r);subst e;exact wzY P w x t
theorem wzB{P:Program}{w:World}:∀{ks:List Key}{us:List Value},Vals (ks.map kV) us->ItemsAre (mixKind P w) ks us
 | [],_,r=>by rw[List.map_nil] at r;cases r;exact .nil
 |k::ks,_,r=>by
  rw[List.map_cons] at r
  cases r with
  |cons h t=>exact .cons (kV_is h) (wzB t)
abbrev KT(H:Hp):List (List Key×V)->List (List Key×Addr×Value)->Prop:=Paired λp q=>p.1=q.1/\H q.2.1=some (.tup (p.1.map kV))/\RelV p.2 q.2.2
theorem KT.val{H:Hp}{kvs:List (List Key×V)}{xs:List (List Key×Addr×Value)}(r:KT H kvs xs)(k:List Key):RelO (valV kvs k) ((atKey xs k).map (·.2)):=by
 induction r with
 |nil=>exact True.intro
 | @cons p q ps qs h t ih=>
   obtain⟨h1,_,h2⟩:=h
   by_cases e:p.1=k
   ·have e':q.1=k:=h1.symm.trans e
    have b:atKey (q::qs) k=some q.2:=by simp[atKey,List.find?_cons,e']
    rw[qz0 e,b];exact h2
   ·have e':¬q.1=k:=λz=>e (h1.trans z)
    have b:atKey (q::qs) k=atKey qs k:=by simp[atKey,List.find?_cons,e']
    rw[qz1 e,b];exact ih
theorem KT.repl{H:Hp}{kvs:List (List Key×V)}{xs:List (List Key×Addr×Value)}(r:KT H kvs xs)(k:List Key){y:V}{u:Value}(ry:RelV y u):
 KT H (kvs.map λkv=>if kv.1=k then(kv.1,y) else kv) (xs.map (putAt k u)):=by
 induction r with
 |nil=>exact .nil
 | @cons p q ps qs h t ih=>
   rw[List.map_cons,List.map_cons]
   refine .cons ?_ ih
   obtain⟨h1,h2,h3⟩:=h
   unfold putAt
   by_cases e:p.1=k
   ·rw[if_pos e,if_pos (h1.symm.trans e)];exact⟨h1,h2,ry⟩
   ·rw[if_neg e,if_neg (λz=>e (h1.trans z))];exact⟨h1,h2,h3⟩
theorem KT.put{H:Hp}{kvs:List (List Key×V)}{xs:List (List Key×Addr×Value)}(r:KT H kvs xs)(k:List Key){b:Addr}{y:V}{u:Value}(hb:H b=some (.tup (k.map kV)))(ry:RelV y u):
 KT H (putK kvs k y) (storedH xs k b u):=by
 have e:(kvs.any λkv=>decide (kv.1=k))=(atKey xs k).isSome:=by
  rw[vzb,(r.val k).isSome_eq,Option.isSome_map]
 unfold putK storedH
 rw[e]
 by_cases q:(atKey xs k).isSome=true
 ·rw[if_pos q,if_pos q];exact r.repl k ry
 ·rw[if_neg q,if_neg q];exact Paired.snoc r ⟨rfl,hb,ry⟩
theorem KT.keeps{H H':Hp}{kvs:List (List Key×V)}{xs:List (List Key×Addr×Value)}(r:KT H kvs xs)(ht:∀b ys,H b=some (.tup ys)->H' b=some (.tup ys)):KT H' kvs xs:=
 Paired.mapP r λ_ _ z=>⟨z.1,ht _ _ z.2.1,z.2.2⟩
section
variable {P:Program}{w:World}{H:Hp}{h:Heap}{a:Addr}
theorem rd_of{u:HO}(ok:HOk P w H h)(e:Rd H a u):ObjOk P w H h a u:=e.ok ok
theorem dk_rd{kvs:List (Key×V)}(ok:HOk P w H h)(e:Rd H a (.dK kvs)):kvs.length<=sizeLine/\(a==sysModules)=false/\∃vs,KV kvs vs/\h.DictOf (mixKind P w) a vs:=
 show ObjOk P w H h a (.dK kvs) from rd_of ok e
theorem dk_of{kvs:List (Key×V)}(ok:HOk P w H h)(e:H a=some (.dK kvs)):kvs.length<=sizeLine/\(a==sysModules)=false/\∃vs,KV kvs vs/\h.DictOf (mixKind P w) a vs:=dk_rd ok (.inl e)
theorem qzS{ks:List Key}(ok:HOk P w H h)(e:H a=some (.tup (ks.map kV))):(tupleKind (mixKind P w)).is h ks a:=by
 obtain⟨_,its,r,o,h1,h2,n,h3⟩:=(show ObjOk P w H h a (.tup (ks.map kV)) from ok a _ e)
 exact⟨o,its.toArray,n,h1,h2,h3,by simpa using wzB r⟩
theorem dt_rd{kvs:List (List Key×V)}(ok:HOk P w H h)(e:Rd H a (.dT kvs)):kvs.length<=sizeLine/\(a==sysModules)=false/\
 ∃xs,KT H kvs xs/\h.DictOfH (tupleKind (mixKind P w)) a xs:=by
 obtain⟨z,y,xs,r,o,es,ep,h1,h2,h3,h4,h5⟩:=(show ObjOk P w H h a (.dT kvs) from rd_of ok e)
 refine⟨z,y,xs,r,o,es,ep,h1,h2,h3,h4,λx hx=>?_,h5⟩
 have all:∀{l:List (List Key×V)}{m:List (List Key×Addr×Value)},KT H l m->∀x∈m,(tupleKind (mixKind P w)).is h x.1 x.2.1:=by
  intro l m q
  induction q with
  |nil=>intro x hx;exact nomatch hx
  | @cons p q ps qs hq t ih=>
    intro x hx
    rcases List.mem_cons.mp hx with e|hx
    ·subst e
     exact qzS ok (by rw[<- hq.1];exact hq.2.1)
    ·exact ih x hx
 exact all r x hx
theorem dt_of{kvs:List (List Key×V)}(ok:HOk P w H h)(e:H a=some (.dT kvs)):kvs.length<=sizeLine/\(a==sysModules)=false/\
 ∃xs,KT H kvs xs/\h.DictOfH (tupleKind (mixKind P w)) a xs:=dt_rd ok (.inl e)
end
def DGet(H:Hp)(a:Addr)(y:V)(r:Option V):Prop:=
 (∃kvs k,Rd H a (.dK kvs)/\y=kV k/\r=valV kvs k)\/∃kvs k b,Rd H a (.dT kvs)/\y=.ref b/\H b=some (.tup (k.map kV))/\r=valV kvs k
def DPut(H:Hp)(a:Addr)(y v:V)(H':Hp):Prop:=
 (∃kvs k,H a=some (.dK kvs)/\y=kV k/\kvs.length<sizeLine/\H'=upd H a (.dK (putK kvs k v)))\/
 ∃kvs k b,H a=some (.dT kvs)/\y=.ref b/\H b=some (.tup (k.map kV))/\kvs.length<sizeLine/\H'=upd H a (.dT (putK kvs k v))
theorem DPut.k{H:Hp}{a:Addr}{kvs:List (Key×V)}{k:Key}{v:V}(e:H a=some (.dK kvs))(hl:kvs.length<sizeLine):DPut H a (kV k) v (upd H a (.dK (putK kvs k v))):=.inl ⟨kvs,k,e,rfl,hl,rfl⟩
section
variable {X:Cx}{pins:List (Addr×Obj)}{σ:St}{H:Hp}{s:Shared}{a:Addr}{y v:V}{u r:Value}{o:Option V}{A:Around}{E:Value->Shared->Prop}
theorem Inv.big(I:Inv X pins σ H s):sysModules<s.heap.objs.size:=by
 have h:mainGlobals<s.heap.objs.size:=(I.mod.glob.keeps I.bk).lt
 exact Nat.lt_trans (by decide) h
theorem zzK{Q:Value->Shared->Prop}(hu:A.units+1<cLine)(I:Inv X pins σ H s)(g:DGet H a y (some v))(ry:RelV y u)(h:∀w' s',Inv X pins σ H s'->RelV v w'->Q w' s'):
 wpAny (model X.prog X.w) A (getItem (.ref a) u) Q E s:=by
 rcases g with ⟨kvs,k,e,ey,l⟩|⟨kvs,k,b,e,ey,eb,l⟩
 ·subst ey
  obtain⟨z,hd,vs,rel,dd⟩:=dk_rd I.hok e
  obtain⟨w',hw,rw'⟩:=RelO.some_of (v:=v) (o:=valueAt vs k) (by rw[l];exact rel.val k)
  exact wpAny_getItem_of (kV_is ry) dd.mapOf hw (h w' _ (I.tok _) rw')
 ·subst ey
  cases(show u=Value.ref b from ry)
  obtain⟨z,hd,xs,rel,dd⟩:=dt_rd I.hok e
  obtain⟨w',hw,rw'⟩:=RelO.some_of (v:=v) (o:=(atKey xs k).map (·.2)) (by rw[l];exact rel.val k)
  obtain⟨p,hp,hp2⟩:=Option.map_eq_some_iff.mp hw
  refine wpAny_getItem_heap (tupleKind_room_in1 hu) (qzS I.hok eb) dd hp ?_
  rw[hp2]
  exact h w' _ (I.tok _) rw'
theorem d_in{Q:Value->Shared->Prop}(hu:A.units+1<cLine)(I:Inv X pins σ H s)(g:DGet H a y o)(ry:RelV y u)(h:∀s',Inv X pins σ H s'->Q (.bool o.isSome) s'):
 wpAny (model X.prog X.w) A (compareOp .In u (.ref a)) Q E s:=by
 rcases g with ⟨kvs,k,e,ey,l⟩|⟨kvs,k,b,e,ey,eb,l⟩
 ·subst ey
  obtain⟨z,hd,vs,rel,dd⟩:=dk_rd I.hok e
  refine wpAny_in_of (kV_is ry) hd dd.mapOf ?_
  rw[<- (rel.val k).isSome_eq, <- l]
  exact h _ (I.tok _)
 ·subst ey
  cases(show u=Value.ref b from ry)
  obtain⟨z,hd,xs,rel,dd⟩:=dt_rd I.hok e
  refine wpAny_in_heap (tupleKind_room_in1 hu) (qzS I.hok eb) hd dd ?_
  have q:=(rel.val k).isSome_eq
  rw[Option.isSome_map] at q
  rw[<- q, <- l]
  exact h _ (I.tok _)
theorem d_notIn{Q:Value->Shared->Prop}(hu:A.units+1<cLine)(I:Inv X pins σ H s)(g:DGet H a y o)(ry:RelV y u)(h:∀s',Inv X pins σ H s'->Q (.bool (!o.isSome)) s'):
 wpAny (model X.prog X.w) A (compareOp .NotIn u (.ref a)) Q E s:=by
 rcases g with ⟨kvs,k,e,ey,l⟩|⟨kvs,k,b,e,ey,eb,l⟩
 ·subst ey
  obtain⟨z,hd,vs,rel,dd⟩:=dk_rd I.hok e
  refine wpAny_notIn_of (kV_is ry) hd dd.mapOf ?_
  rw[<- (rel.val k).isSome_eq, <- l]
  exact h _ (I.tok _)
 ·subst ey
  cases(show u=Value.ref b from ry)
  obtain⟨z,hd,xs,rel,dd⟩:=dt_rd I.hok e
  refine wpAny_notIn_heap (tupleKind_room_in1 hu) (qzS I.hok eb) hd dd ?_
  have q:=(rel.val k).isSome_eq
  rw[Option.isSome_map] at q
  rw[<- q, <- l]
  exact h _ (I.tok _)
theorem jzW{h':Heap}{t':Nat}{ob:HO}(I:Inv X pins σ H s)(mu:Mut (H a))(hs:Heap.SameBut a s.heap h')(he:∃q,h'.get? a=some q)(new:ObjOk X.prog X.w (upd H a ob) h' a ob):
 Inv X pins σ (upd H a ob) {s with heap:=h',toks:=t'}:=
 I.write (x:=a) (e:=a) mu (.inl rfl) (λb q hb z=>(hs.2 b hb).trans z) he new
theorem zzH{P:Program}{w:World}{H':Hp}{h':Heap}{kvs:List (Key×V)}{vs:List (Key×Value)}(z:kvs.length<=sizeLine)(hd:(a==sysModules)=false)(rel:KV kvs vs)(dd:h'.DictOf (mixKind P w) a vs):
 ObjOk P w H' h' a (.dK kvs):=⟨z,hd,vs,rel,dd⟩
theorem zzJ{H':Hp}{Q:Unit->Shared->Prop}(hu:A.units+1<cLine)(I:Inv X pins σ H s)(g:DPut H a y v H')(ry:RelV y u)(rv:RelV v r)(h:∀s',Inv X pins σ H' s'->Q () s'):
 wpAny (model X.prog X.w) A (setItem (.ref a) u r) Q E s:=by
 rcases g with ⟨kvs,k,e,ey,l,eH⟩|⟨kvs,k,b,e,ey,eb,l,eH⟩
 ·subst ey eH
  obtain⟨z,hd,vs,rel,dd⟩:=dk_of I.hok e
  have hz:vs.length<=sizeLine:=by rw[<- rel.length];exact z
  have hl:(putK kvs k v).length<=sizeLine:=by have:=jzN kvs k v;omega
  refine wpAny_setItem_pairs (hsz:=hz) (kV_is ry) dd λh' dd' hs=>h _ ?_
  have he:∃q,h'.get? a=some q:=let⟨q,_,_,hq,_⟩:=dd';⟨q,hq⟩
  exact jzW I (by rw[e];exact True.intro) hs he (zzH hl hd (rel.put k rv) dd')
 ·subst ey eH
  cases(show u=Value.ref b from ry)
  obtain⟨z,hd,xs,rel,dd⟩:=dt_of I.hok e
  have hz:xs.length<=sizeLine:=by rw[<- Paired.length rel];exact z
  have hl:(putK kvs k v).length<=sizeLine:=by have:=jzN kvs k v;omega
  refine wpAny_setItem_heap (hsz:=hz) (tupleKind_room_in1 hu) (qzS I.hok eb) dd λh' dd' hs=>h _ ?_
  obtain⟨q,es,ep,hq,h2,h3,h4,_,h5⟩:=dd'
  refine jzW I (by rw[e];exact True.intro) hs ⟨q,hq⟩ ⟨hl,hd,_,(rel.put k eb rv).keeps λc ys ec=>?_,q,es,ep,hq,h2,h3,h4,h5⟩
  rw[jzi (ne_of ec e (λz=>nomatch z))]
  exact ec
end
section
variable {X:Cx}{pins:List (Addr×Obj)}{σ:St}{H:Hp}{s:Shared}{a:Addr}{kvs:List (Key×V)}{k:Key}{u:Value}{A:Around}{E:Value->Shared->Prop}
theorem d_len{Q:Value->Shared->Prop}(I:Inv X pins σ H s)(e:Rd H a (.dK kvs))(h:∀t s',Inv X pins σ H s'->Q (.int kvs.length t) s'):wpAny (model X.prog X.w) A (call (.builtin "len") [.ref a]) Q E s:=by
 obtain⟨z,hd,vs,rel,dd⟩:=dk_rd I.hok e
 refine call_len_dict hd dd (by rw[<- rel.length];rw[sizeLine_eq] at z;omega) ?_
 rw[<- rel.length]
 exact h _ _ (I.tok _)
end
theorem wz4{X:Cx}{pins:List (Addr×Obj)}{σ:St}{H:Hp}{s:Shared}{a:Addr}{y:V}{o:Option V}(I:Inv X pins σ H s)(g:DGet H a y o):s.TypeIs (.ref a) "dict":=by
 rcases g with ⟨kvs,k,e,_,_⟩|⟨kvs,k,b,e,_,_,_⟩
 ·obtain⟨_,_,vs,_,dd⟩:=dk_rd I.hok e
  exact dd.typeIs
 ·obtain⟨_,_,xs,_,dd⟩:=dt_rd I.hok e
  exact dd.typeIs
section
variable {X:Cx}{o i e value:Expr}{pos pos' tpos:Pos}{td ty tv:TE}
end
theorem wzf{P:Program}{w:World}{H:Hp}(h:Heap)(hb:sysModules<h.objs.size):ObjOk P w H (h.push {cls:=.type "dict",data:=.dict #[]}) h.objs.size (.dK []):=
 ⟨Nat.zero_le _,beq_eq_false_iff_ne.mpr (Ne.symm (Nat.ne_of_lt hb)),[],.nil,Heap.DictOf.new h⟩
def tDNewK:TE:=λ_ H Q=>∀p,H p=none->Q (.ref p) (upd H p (.dK []))
section
variable {X:Cx}{pos:Pos}
theorem pe_dnewK:PE X (.Dict [] [] pos) tDNewK:=λpins s σ H Q I h=>
 wpAny_Dict_empty ⟨.ref s.heap.objs.size,_,I.laid (a:=s.heap.objs.size) (o:=.dK []) (t':=s.toks) (λ_ _ q=>Heap.get?_push_of_some _ q) (Nat.le_refl _) (wzf s.heap I.big),rfl,h _ (I.hok.fresh (Nat.le_refl _))⟩
end
def tPairs:List (TE×TE)->St->Hp->(List (V×V)->Hp->Prop)->Prop
 | [],_,H,Q=>Q [] H
 |(tk,tv)::r,σ,H,Q=>tk σ H λx H1=>tv σ H1 λy H2=>tPairs r σ H2 λps H3=>Q ((x,y)::ps) H3
abbrev VV:List (V×V)->List (Value×Value)->Prop:=Paired λp q=>RelV p.1 q.1/\RelV p.2 q.2
def PPs(X:Cx)(pos:Pos)(keys:List (Option Expr))(values:List Expr)(trs:List (TE×TE)):Prop:=
 ∀(pins:List (Addr×Obj))(s:Shared)(σ:St)(H:Hp)(Q:List (V×V)->Hp->Prop),Inv X pins σ H s->tPairs trs σ H Q->
  wpAny (model X.prog X.w) X.A (evalPairs (pairTrees keys values X.env pos)) (λvs s'=>∃ps H',Inv X pins σ H' s'/\VV ps vs/\Q ps H') X.xe s
theorem pps_nil{X:Cx}{pos:Pos}:PPs X pos [] [] []:=λpins s σ H Q I h=>pairTrees_nil_walk ⟨[],H,I,.nil,h⟩
theorem pps_cons{X:Cx}{pos:Pos}{k v:Expr}{ks:List (Option Expr)}{vs:List Expr}{tk tv:TE}{trs:List (TE×TE)}(hk:PE X k tk)(hv:PE X v tv)(hr:PPs X pos ks vs trs):
 PPs X pos (some k::ks) (v::vs) ((tk,tv)::trs):=λpins s σ H Q I h=>
 pairTrees_cons_walk (thn (hk pins s σ H _ I h) λu s1 ⟨x,H1,I1,rx,q1⟩=>thn (hv pins s1 σ H1 _ I1 q1) λw2 s2 ⟨y,H2,I2,ry,q2⟩=>
  thn (hr pins s2 σ H2 _ I2 q2) λws s3 ⟨ps,H3,I3,rel,q3⟩=>⟨(x,y)::ps,H3,I3,.cons ⟨rx,ry⟩ rel,q3⟩)
def mergeK(kvs more:List (Key×V)):List (Key×V):=more.foldl (λacc kv=>putK acc kv.1 kv.2) kvs
theorem KV.merge:∀{more:List (Key×V)}{rs:List (Key×Value)}{kvs:List (Key×V)}{vs:List (Key×Value)},KV more rs->KV kvs vs->KV (mergeK kvs more) (merged vs rs):=by
 intro more rs kvs vs r
 unfold KV at r
 induction r generalizing kvs vs with
 |nil=>intro q;exact q
 | @cons p q ps qs h t ih=>
   intro r0
   have e:KV (putK kvs p.1 p.2) (stored vs q.1 q.2):=by
    have:=r0.put p.1 h.2
    rw[<- h.1];exact this
   exact ih e
theorem jz7:∀(more kvs:List (Key×V)),(mergeK kvs more).length<=kvs.length+more.length
 | [],kvs=>by show kvs.length<=kvs.length+0;omega
 |p::r,kvs=>by
  have h1:=jz7 r (putK kvs p.1 p.2)
  have h2:=jzN kvs p.1 p.2
  show(mergeK (putK kvs p.1 p.2) r).length<=_
  rw[List.length_cons];omega
theorem qzW{P:Program}{w:World}:∀{kvs:List (Key×V)}{ws:List (Value×Value)},VV (kvs.map λkv=>(kV kv.1,kv.2)) ws->∃rs,Carries (mixKind P w) ws rs/\KV kvs rs
 | [],_,r=>by rw[List.map_nil] at r;cases r;exact⟨[],True.intro,.nil⟩
 |p::kvs,_,r=>by
  rw[List.map_cons] at r
  cases r with
  | @cons a b as bs h t=>
    obtain⟨rs,c,q⟩:=qzW (P:=P) (w:=w) t
    obtain⟨b1,b2⟩:=b
    exact⟨(p.1,b2)::rs,⟨kV_is h.1,rfl,c⟩,.cons ⟨rfl,h.2⟩ q⟩
def tDisp(trs:List (TE×TE)):TE:=λσ H Q=>∀p,H p=none->tPairs trs σ (upd H p (.dK [])) λps H2=>H2 p=some (.dK [])/\∃kvs:List (Key×V),ps=kvs.map (λkv=>(kV kv.1,kv.2))/\kvs.length<=15/\Q (.ref p) (upd H2 p (.dK (mergeK [] kvs)))
theorem pe_disp{X:Cx}{pos:Pos}{keys:List (Option Expr)}{values:List Expr}{trs:List (TE×TE)}(h:PPs X pos keys values trs)(hall:keys.all (·.isSome)=true)(hl:keys.length=values.length)(h0:keys≠ [])
 (h15:keys.length<=15):PE X (.Dict keys values pos) (tDisp trs):=by
 intro pins s σ H Q I q
 have hn:=I.hok.fresh (Nat.le_refl s.heap.objs.size)
 have I1:=I.laid (a:=s.heap.objs.size) (o:=.dK []) (h':=s.heap.push {cls:=.type "dict",data:=.dict #[]}) (t':=s.toks) (λ_ _ q=>Heap.get?_push_of_some _ q) (Nat.le_refl _) (wzf s.heap I.big)
 refine wpAny_Dict_walk (knd:=mixKind X.prog X.w) hall hl h0 h15 (thn (h pins _ σ _ _ I1 (q _ hn)) λws s2 ⟨ps,H2,I2,rel,e,kvs,ep,lk,q2⟩=>?_)
 subst ep
 obtain⟨rs,c,rk⟩:=qzW (P:=X.prog) (w:=X.w) rel
 obtain⟨z,hd,vs0,r0,dd⟩:=dk_of I2.hok e
 cases r0
 refine⟨rs,c,dd,λh' dd' hs=>⟨.ref s.heap.objs.size,_,?_,rfl,q2⟩⟩
 have hz:(mergeK [] kvs).length<=sizeLine:=by
  have h1:=jz7 kvs []
  rw[List.length_nil] at h1
  rw[sizeLine_eq];omega
 have he:∃q,h'.get? s.heap.objs.size=some q:=let⟨q,_,_,hq,_⟩:=dd';⟨q,hq⟩
 exact jzW I2 (by rw[e];exact True.intro) hs he (zzH hz hd (rk.merge .nil) dd')
structure M1 (X:Cx)(o:Expr)(m:Str)(apos:Pos)(e:Expr)(cpos:Pos):Prop where
 base:attributeBase o m X.env (eval o X.env)=eval o X.env
 few:((backTo cpos (starEach [e] X.env)).all (λx=> !x.1)&&(backToKw cpos (keywordEach [] X.env)).all (λx=>x.1.isSome)
  &&decide (([e]:List Expr).length+([]:List Keyword).length+(if([]:List Keyword).isEmpty then 0 else 1)<30))=true
 line:(apos.endLine==cpos.line)=true
 trees:backTo cpos (starEach [e] X.env)=[(false,eval e X.env)]
structure M2 (X:Cx)(o:Expr)(m:Str)(apos:Pos)(e f:Expr)(cpos:Pos):Prop where
 base:attributeBase o m X.env (eval o X.env)=eval o X.env
 few:((backTo cpos (starEach [e,f] X.env)).all (λx=> !x.1)&&(backToKw cpos (keywordEach [] X.env)).all (λx=>x.1.isSome)
  &&decide (([e,f]:List Expr).length+([]:List Keyword).length+(if([]:List Keyword).isEmpty then 0 else 1)<30))=true
 line:(apos.endLine==cpos.line)=true
 trees:backTo cpos (starEach [e,f] X.env)=[(false,eval e X.env),(false,eval f X.env)]
def IsD(H:Hp)(a:Addr):Prop:=(∃kvs,Rd H a (.dK kvs))\/∃kvs,Rd H a (.dT kvs)
theorem isD_at{X:Cx}{pins:List (Addr×Obj)}{σ:St}{H:Hp}{s:Shared}{a:Addr}(I:Inv X pins σ H s)(d:IsD H a):
 s.TypeIs (.ref a) "dict"/\(∀b,Value.ref a=.ref b->∃ob,s.heap.get? b=some ob/\ob.dict=none)/\(a==sysModules)=false:=by
 rcases d with ⟨kvs,e⟩|⟨kvs,e⟩
 ·obtain⟨_,hd,vs,_,dd⟩:=dk_rd I.hok e
  refine⟨dd.typeIs,λb q=>?_,hd⟩
  cases q
  obtain⟨ob,_,_,h1,h2,_⟩:=dd
  exact⟨ob,h1,h2.2.1⟩
 ·obtain⟨_,hd,xs,_,dd⟩:=dt_rd I.hok e
  refine⟨dd.typeIs,λb q=>?_,hd⟩
  cases q
  obtain⟨ob,_,_,h1,h2,_⟩:=dd
  exact⟨ob,h1,h2.2.1⟩
section
variable {X:Cx}{pins:List (Addr×Obj)}{σ:St}{H:Hp}{s:Shared}{a:Addr}{y d:V}{u r:Value}{o:Option V}{A:Around}{E:Value->Shared->Prop}
theorem d_get2{Q:Value->Shared->Prop}(hu:A.units+1<cLine)(I:Inv X pins σ H s)(g:DGet H a y o)(ry:RelV y u)(rd:RelV d r)(h:∀w' s',Inv X pins σ H s'->RelV (o.getD d) w'->Q w' s'):
 wpAny (model X.prog X.w) A (call (.builtin "dict.get") [.ref a,u,r]) Q E s:=by
 rcases g with ⟨kvs,k,e,ey,l⟩|⟨kvs,k,b,e,ey,eb,l⟩
 ·subst ey
  obtain⟨z,hd,vs,rel,dd⟩:=dk_rd I.hok e
  refine call_meetsIn PySem.F.slot_dict_get dd.typeIs PySem.F.entry_dict_get (PySem.F.args_dict_get_3 _ _ _) (meets_dict_get_default (mixKind X.prog X.w) a (kV_is ry) hd r) ⟨_,dd.mapOf,h _ _ (I.tok _) ?_⟩
  rw[l]
  exact(rel.val k).getD rd
 ·subst ey
  cases(show u=Value.ref b from ry)
  obtain⟨z,hd,xs,rel,dd⟩:=dt_rd I.hok e
  refine call_meetsIn PySem.F.slot_dict_get dd.typeIs PySem.F.entry_dict_get (PySem.F.args_dict_get_3 _ _ _) (meetsH_dict_get_default (tupleKind (mixKind X.prog X.w)) a b hd r) ⟨tupleKind_room_in1 hu,k,xs,qzS I.hok eb,dd,h _ _ (I.tok _) ?_⟩
  rw[l]
  exact(rel.val k).getD rd
end
def tDGet2(td ty tx:TE):TE:=λσ H Q=>td σ H λx H1=>∃a,x=.ref a/\IsD H1 a/\ty σ H1 λy H2=>tx σ H2 λz H3=>∃o,DGet H3 a y o/\Q (o.getD z) H3
section
variable {X:Cx}{o e f:Expr}{apos cpos:Pos}{td ty tx:TE}
theorem pe_dget2(hu:X.A.units+1<cLine)(ho:PE X o td)(he:PE X e ty)(hf:PE X f tx)(m:M2 X o "get" apos e f cpos):PE X (.Call (.Attribute o "get" apos) [e,f] [] cpos) (tDGet2 td ty tx):=by
 intro pins s σ H Q I h
 refine wpAny_Call_method m.base m.few m.line PySem.F.plainAttrs_dict PySem.F.slot_dict_get PySem.F.type_dict_get (thn (ho pins s σ H _ I h) λu s1 ⟨x,H1,I1,rx,a,ex,d,q1⟩=>?_)
 subst ex
 obtain rfl:u=Value.ref a:=rx
 obtain⟨t1,t2,_⟩:=isD_at I1 d
 refine⟨t1,t2,?_⟩
 rw[m.trees]
 refine Calls.callWith_builtin rfl (Calls.evalArgs_plain (Calls.spliced_cons (thn (he pins s1 σ H1 _ I1 q1) λiv s2 ⟨y,H2,I2,ry,q2⟩=>
  Calls.spliced_cons (thn (hf pins s2 σ H2 _ I2 q2) λfv s3 ⟨z,H3,I3,rz,ov,g,q3⟩=>Calls.spliced_nil ?_))))
 exact d_get2 hu I3 g ry rz λw' s4 I4 rw'=>⟨_,H3,I4,rw',q3⟩
end
section
variable {X:Cx}{pins:List (Addr×Obj)}{σ:St}{H:Hp}{s:Shared}{a:Addr}{kvs:List (Key×V)}{A:Around}{E:Value->Shared->Prop}
end
section
variable {X:Cx}{pins:List (Addr×Obj)}{σ:St}{H:Hp}{s:Shared}{a:Addr}{y:V}{u:Value}{A:Around}{E:Value->Shared->Prop}
end
end L2
namespace L2
open PySem PySem.Spec PyProof.Rows
section
variable {X:Cx}
end
section
variable {κ:Type} [DecidableEq κ]
end
end L2
end
section
namespace Ng
open PySem PySem.Spec PyProof.Rows L2
abbrev Sg:=L2.St
inductive D where
 |non|bl (b:Bool)|int (i:Int)|str (x:Str)|ty (n:String)|tup (l:List D)|ref (n:Nat)
inductive O where
 |lst (l:List D)|ro (l:List D)|dct (l:List (Key×D))|dtt (l:List (List Int×D))|ded|dtf (l:List (List Int×D))|ins (cn:Str) (fs:List (Str×D))|stt (l:List Str)|dcz (l:List (Key×D))
abbrev Hh:=List O
abbrev Ev:=List (Option D)
inductive Rs (A:Type) where
 |ok (a:A) (h:Hh)|exc (c:Nat) (r:Ev) (h:Hh)|bad
def Rs.bind{A B:Type}:Rs A->(A->Hh->Rs B)->Rs B
 |.ok a h,f=>f a h
 |.exc c r h,_=>.exc c r h
 |.bad,_=>.bad
theorem Rs.bind_ok{A B:Type}{r:Rs A}{f:A->Hh->Rs B}{b:B}{h':Hh}(e:r.bind f=.ok b h'):∃a h,r=.ok a h/\f a h=.ok b h':=by
 cases r with
 |ok a h=>exact⟨a,h,rfl,e⟩
 |exc c r h=>cases e
 |bad=>cases e
def Rs.nx{A:Type}:Rs A->Rs A
 |.ok a h=>.ok a h
 |_=>.bad
theorem Rs.nx_ok{A:Type}{r:Rs A}{a:A}{h:Hh}(e:r.nx=.ok a h):r=.ok a h:=by
 cases r with
 |ok b h'=>exact e
 |exc c r h'=>cases e
 |bad=>cases e
def Rs.inn{A:Type}(r:Ev):Rs A->Rs A
 |.exc c _ h=>.exc c r h
 |o=>o
mutual
inductive RD (K:PySem.W.Frag) (m:List Addr) (H:Hp):D->V->Prop where
 |non:RD K m H .non .non
 |bl (b:Bool):RD K m H (.bl b) (.bl b)
 |int (i:Int):RD K m H (.int i) (.int i)
 |str (x:Str):RD K m H (.str x) (.str x)
 |ty (n:String):RD K m H (.ty n) (.ty n)
 |tup {a:Addr} {ds:List D} {vs:List V} (h:SqT K H a vs) (r:RDs K m H ds vs):RD K m H (.tup ds) (.ref a)
 |ref {n:Nat} {a:Addr} (h:m[n]? =some a):RD K m H (.ref n) (.ref a)
inductive RDs (K:PySem.W.Frag) (m:List Addr) (H:Hp):List D->List V->Prop where
 |nil:RDs K m H [] []
 |cons {d:D} {v:V} {ds:List D} {vs:List V} (h:RD K m H d v) (r:RDs K m H ds vs):RDs K m H (d::ds) (v::vs)
end
structure Gr (K:PySem.W.Frag)(m:List Addr)(H:Hp)(m':List Addr)(H':Hp):Prop where
 pre:∀(n:Nat)(a:Addr),m[n]? =some a->m'[n]? =some a
 tup:∀(a:Addr)(vs:List V),SqT K H a vs->SqT K H' a vs
 frz:∀(a:Addr)(o:Obj)(u:HO),H a=some (.frz o u)->H' a=some (.frz o u)
theorem Gr.refl{K:PySem.W.Frag}{m:List Addr}{H:Hp}:Gr K m H m H:=⟨λ_ _ e=>e,λ_ _ e=>e,λ_ _ _ e=>e⟩
theorem Gr.trans{K:PySem.W.Frag}{m m1 m2:List Addr}{H H1 H2:Hp}(a:Gr K m H m1 H1)(b:Gr K m1 H1 m2 H2):Gr K m H m2 H2:=
 ⟨λn x e=>b.pre n x (a.pre n x e),λn x e=>b.tup n x (a.tup n x e),λn x u e=>b.frz n x u (a.frz n x u e)⟩
section
variable {K:PySem.W.Frag}{m m':List Addr}{H H':Hp}
mutual
theorem RD.mono(g:Gr K m H m' H'):∀{d:D}{v:V},RD K m H d v->RD K m' H' d v
 |_,_,.non=>.non
 |_,_,.bl b=>.bl b
 |_,_,.int i=>.int i
 |_,_,.str x=>.str x
 |_,_,.ty n=>.ty n
 |_,_,.tup h r=>.tup (g.tup _ _ h) (RDs.mono g r)
 |_,_,.ref h=>.ref (g.pre _ _ h)
theorem RDs.mono(g:Gr K m H m' H'):∀{ds:List D}{vs:List V},RDs K m H ds vs->RDs K m' H' ds vs
 |_,_,.nil=>.nil
 |_,_,.cons h r=>.cons (RD.mono g h) (RDs.mono g r)
end
theorem RDs.length:∀{ds:List D}{vs:List V},RDs K m H ds vs->ds.length=vs.length
 |_,_,.nil=>rfl
 |_,_,.cons _ r=>by simp[RDs.length r]
theorem RDs.get:∀{ds:List D}{vs:List V}{i:Nat}{d:D},RDs K m H ds vs->ds[i]? =some d->∃v,vs[i]? =some v/\RD K m H d v
 |_,_,_,_,.nil,e=>by simp at e
 |_,_,0,_,.cons h _,e=>by simp at e;subst e;exact⟨_,rfl,h⟩
 |_,_,i+1,d,.cons _ r,e=>by
  obtain⟨v,h1,h2⟩:=RDs.get (i:=i) (d:=d) r (by simpa using e)
  exact⟨v,by simpa using h1,h2⟩
theorem RDs.getV:∀{ds:List D}{vs:List V}{i:Nat}{v:V},RDs K m H ds vs->vs[i]? =some v->∃d,ds[i]? =some d/\RD K m H d v
 |_,_,_,_,.nil,e=>by simp at e
 |_,_,0,_,.cons h _,e=>by simp at e;subst e;exact⟨_,rfl,h⟩
 |_,_,i+1,v,.cons _ r,e=>by
  obtain⟨d,h1,h2⟩:=RDs.getV (i:=i) (v:=v) r (by simpa using e)
  exact⟨d,by simpa using h1,h2⟩
theorem RDs.append:∀{ds es:List D}{vs us:List V},RDs K m H ds vs->RDs K m H es us->RDs K m H (ds++es) (vs++us)
 |_,_,_,_,.nil,s=>s
 |_,_,_,_,.cons h r,s=>.cons h (RDs.append r s)
theorem RDs.set{d:D}{v:V}(q:RD K m H d v):∀{ds:List D}{vs:List V}(i:Nat),RDs K m H ds vs->RDs K m H (ds.set i d) (vs.set i v)
 |_,_,_,.nil=>.nil
 |_,_,0,.cons _ t=>.cons q t
 |_,_,i+1,.cons h t=>.cons h (RDs.set q i t)
end
theorem RDs.ints{K:PySem.W.Frag}{m:List Addr}{H:Hp}:∀(ns:List Int),RDs K m H (ns.map D.int) (ns.map V.int)
 | []=>.nil
 |n::ns=>.cons (.int n) (RDs.ints ns)
def SqR(K:PySem.W.Frag)(H:Hp)(a:Addr)(xs:List V):Prop:=
 (∃o,H a=some (.frz o (.lst xs)))\/
   ∃(o:Obj)(its:Array Value)(n:Nat),K.lookup a=some o/\o.cls=.type "list"/\o.dict=none/\o.data=.seq its n/\its.size<=sizeLine/\Vals xs its.toList
theorem SqR.sq{K:PySem.W.Frag}{H:Hp}{a:Addr}{xs:List V}(h:SqR K H a xs):SqL K H a xs:=by
 rcases h with h|h
 ·exact .inl (.inr h)
 ·exact .inr h
def Dtt(a:Addr)(xs:List (List Int×Addr×Value))(h:Heap):Prop:=
 (a==sysModules)=false/\xs.length<=1000/\∃(P:Program)(w:World)(o:Obj)(es:Array DictEntry)(ep:Nat),h.get? a=some o/\o.ExactDict/\o.data=.dict es ep/\
   es.toList=xs.map (entryOfKey (tupleKind (intKind P w)))/\(xs.map (·.1)).Nodup
def Dfo(a:Addr)(xs:List (List Int×Addr×Value))(o:Obj)(es:Array DictEntry)(ep:Nat):Prop:=
 (a==sysModules)=false/\xs.length<=1000/\o.ExactDict/\o.data=.dict es ep/\(∃(P:Program)(w:World),es.toList=xs.map (entryOfKey (tupleKind (intKind P w))))/\(xs.map (·.1)).Nodup
def RO(K:PySem.W.Frag)(m:List Addr)(H:Hp)(a:Addr):O->Prop
 |.lst ds=>∃vs,H a=some (.lst vs)/\RDs K m H ds vs
 |.ro ds=>∃vs,SqR K H a vs/\RDs K m H ds vs
 |.dct ds=>∃us:List (Key×V),H a=some (.dK us)/\ds.map (·.1)=us.map (·.1)/\RDs K m H (ds.map (·.2)) (us.map (·.2))
 |.dtt ds=>∃(xs:List (List Int×Addr×Value))(us:List V),H a=some (.ext (Dtt a xs))/\ds.map (·.1)=xs.map (·.1)/\(∀x∈xs,SqT K H x.2.1 (x.1.map V.int))/\RDs K m H (ds.map (·.2)) us/\Vals us (xs.map (·.2.2))
 |.ded=>True
 |.stt l=>H a=some (.set (λk=>decide (k∈l)) l.length)
 |.dcz ds=>∃(us:List (Key×V))(o:Obj),H a=some (.frz o (.dK us))/\ds.map (·.1)=us.map (·.1)/\RDs K m H (ds.map (·.2)) (us.map (·.2))
 |.dtf ds=>∃(xs:List (List Int×Addr×Value))(us:List V)(o:Obj)(es:Array DictEntry)(ep:Nat),H a=some (.frz o (.own a))/\Dfo a xs o es ep/\ds.map (·.1)=xs.map (·.1)/\(∀x∈xs,SqT K H x.2.1 (x.1.map V.int))/\RDs K m H (ds.map (·.2)) us/\Vals us (xs.map (·.2.2))
 |.ins cn fs=>∃(C dx:Addr)(us:List (Str×V)),PySem.W.nsIn K mainGlobals cn=some (some (.ref C))/\H a=some (.ins C dx us)/\fs.map (·.1)=us.map (·.1)/\RDs K m H (fs.map (·.2)) (us.map (·.2))
def O.wr:O->Bool
 |.lst _=>true
 |.ro _=>false
 |.dct _=>true
 |.dtt _=>true
 |.ded=>false
 |.dtf _=>false
 |.ins _ _=>true
 |.stt _=>true
 |.dcz _=>false
def wrO:HO->Bool
 |.lst _=>true
 |.dK _=>true
 |.ext _=>true
 |.ins _ _ _=>true
 |.set _ _=>true
 |_=>false
structure Wd (K:PySem.W.Frag)(m:List Addr)(h:Hh)(H:Hp):Prop where
 len:m.length=h.length
 nd:∀(i j:Nat)(a:Addr)(o u:O),m[i]? =some a->m[j]? =some a->h[i]? =some o->h[j]? =some u->o.wr=true->u.wr=true->i=j
 dz:∀(i j:Nat)(a:Addr)(l l':List (Key×D)),m[i]? =some a->m[j]? =some a->h[i]? =some (.dcz l)->h[j]? =some (.dcz l')->i=j
 ob:∀(n:Nat)(o:O)(a:Addr),h[n]? =some o->m[n]? =some a->RO K m H a o
theorem Wd.at{K:PySem.W.Frag}{m:List Addr}{h:Hh}{H:Hp}(w:Wd K m h H){n:Nat}{o:O}(e:h[n]? =some o):∃a,m[n]? =some a/\RO K m H a o:=by
 have hn:n<h.length:=(List.getElem?_eq_some_iff.mp e).1
 have hm:n<m.length:=by rw[w.len];exact hn
 exact⟨m[n],List.getElem?_eq_getElem hm,w.ob n o _ e (List.getElem?_eq_getElem hm)⟩
def RSt(K:PySem.W.Frag)(m:List Addr)(H:Hp)(r:Ev)(s:Sg):Prop:=r.length=s.length/\∀(i:Nat)(d:D),r[i]? =some (some d)->∃v,s[i]? =some (some v)/\RD K m H d v
theorem RSt.mono{K:PySem.W.Frag}{m m':List Addr}{H H':Hp}{r:Ev}{s:Sg}(g:Gr K m H m' H')(h:RSt K m H r s):RSt K m' H' r s:=
 ⟨h.1,λi d e=>let⟨v,h1,h2⟩:=h.2 i d e;⟨v,h1,h2.mono g⟩⟩
theorem RSt.set{K:PySem.W.Frag}{m:List Addr}{H:Hp}{r:Ev}{s:Sg}{d:D}{v:V}(h:RSt K m H r s)(i:Nat)(q:RD K m H d v):RSt K m H (r.set i (some d)) (s.set i (some v)):=by
 refine⟨by simp[h.1],λj e he=>?_⟩
 by_cases hij:i=j
 ·subst hij
  have hl:i<r.length:=by
   have:=(List.getElem?_eq_some_iff.mp he).1
   simpa using this
  rw[List.getElem?_set_self hl] at he
  have he':d=e:=by injection he with z;injection z
  subst he'
  exact⟨v,List.getElem?_set_self (by rw[<- h.1];exact hl),q⟩
 ·rw[List.getElem?_set_ne hij] at he
  obtain⟨u,h1,h2⟩:=h.2 j e he
  exact⟨u,by rw[List.getElem?_set_ne hij];exact h1,h2⟩
theorem SqT.upd_new{K:PySem.W.Frag}{H:Hp}{p:Addr}{o:HO}(hp:H p=none){a:Addr}{vs:List V}(h:SqT K H a vs):SqT K (upd H p o) a vs:=by
 rcases h with (h|⟨ob,h⟩)|h
 ·exact .inl (.inl (by rw[jzi (jzl h hp)];exact h))
 ·exact .inl (.inr ⟨ob,by rw[jzi (jzl h hp)];exact h⟩)
 ·exact .inr h
theorem SqT.upd_w{K:PySem.W.Frag}{H:Hp}{p:Addr}{u o:HO}(hp:H p=some u)(hw:wrO u=true){a:Addr}{vs:List V}(h:SqT K H a vs):SqT K (upd H p o) a vs:=by
 rcases h with (h|⟨ob,h⟩)|h
 ·exact .inl (.inl (by rw[jzi (ne_of h hp (λz=>by subst z;cases hw))];exact h))
 ·exact .inl (.inr ⟨ob,by rw[jzi (ne_of h hp (λz=>by subst z;cases hw))];exact h⟩)
 ·exact .inr h
theorem SqR.upd_new{K:PySem.W.Frag}{H:Hp}{p:Addr}{o:HO}(hp:H p=none){a:Addr}{vs:List V}(h:SqR K H a vs):SqR K (upd H p o) a vs:=by
 rcases h with ⟨ob,h⟩|h
 ·exact .inl ⟨ob,by rw[jzi (jzl h hp)];exact h⟩
 ·exact .inr h
theorem SqR.upd_w{K:PySem.W.Frag}{H:Hp}{p:Addr}{u o:HO}(hp:H p=some u)(hw:wrO u=true){a:Addr}{vs:List V}(h:SqR K H a vs):SqR K (upd H p o) a vs:=by
 rcases h with ⟨ob,h⟩|h
 ·exact .inl ⟨ob,by rw[jzi (ne_of h hp (λz=>by subst z;cases hw))];exact h⟩
 ·exact .inr h
section
variable {K:PySem.W.Frag}{m:List Addr}{h:Hh}{H:Hp}
theorem Gr.tupNew{p:Addr}{o:HO}(hp:H p=none):Gr K m H m (upd H p o):=⟨λ_ _ e=>e,λ_ _ e=>SqT.upd_new hp e,λb o' u' e=>by rw[jzi (jzl e hp)];exact e⟩
theorem RO.some_of{a:Addr}{o:O}(r:RO K m H a o)(w:o.wr=true):∃u,H a=some u/\wrO u=true:=by
 cases o with
 |lst ds=>obtain⟨vs,h1,_⟩:=r;exact⟨_,h1,rfl⟩
 |ro ds=>cases w
 |dct ds=>obtain⟨vs,h1,_⟩:=r;exact⟨_,h1,rfl⟩
 |dtt ds=>obtain⟨xs,us,h1,_⟩:=r;exact⟨_,h1,rfl⟩
 |ded=>cases w
 |dtf ds=>cases w
 |ins cn fs=>obtain⟨C,dx,us,_,h1,_⟩:=r;exact⟨_,h1,rfl⟩
 |stt l=>exact⟨_,r,rfl⟩
 |dcz ds=>cases w
theorem RO.keepNew{p a:Addr}{o:HO}{u:O}{m':List Addr}(hp:H p=none)(g:Gr K m H m' (upd H p o))(q:RO K m H a u):RO K m' (upd H p o) a u:=by
 cases u with
 |lst ds=>
  obtain⟨vs,h1,h2⟩:=q
  exact⟨vs,by rw[jzi (jzl h1 hp)];exact h1,h2.mono g⟩
 |ro ds=>
  obtain⟨vs,h1,h2⟩:=q
  exact⟨vs,SqR.upd_new hp h1,h2.mono g⟩
 |dct ds=>
  obtain⟨vs,h1,h2,h3⟩:=q
  exact⟨vs,by rw[jzi (jzl h1 hp)];exact h1,h2,h3.mono g⟩
 |dtt ds=>
  obtain⟨xs,us,h1,h2,h3,h4,h5⟩:=q
  exact⟨xs,us,by rw[jzi (jzl h1 hp)];exact h1,h2,λx hx=>g.tup _ _ (h3 x hx),h4.mono g,h5⟩
 |ded=>trivial
 |dtf ds=>
  obtain⟨xs,us,o',es,ep,h1,h2,h3,h4,h5,h6⟩:=q
  exact⟨xs,us,o',es,ep,by rw[jzi (jzl h1 hp)];exact h1,h2,h3,λx hx=>g.tup _ _ (h4 x hx),h5.mono g,h6⟩
 |ins cn fs=>
  obtain⟨C,dx,us,h1,h2,h3,h4⟩:=q
  exact⟨C,dx,us,h1,by rw[jzi (jzl h2 hp)];exact h2,h3,h4.mono g⟩
 |stt l=>
  show upd H p o a=_
  rw[jzi (jzl (show H a=some _ from q) hp)];exact q
 |dcz ds=>
  obtain⟨us,o',h1,h2,h3⟩:=q
  exact⟨us,o',by rw[jzi (jzl h1 hp)];exact h1,h2,h3.mono g⟩
theorem RO.keepSet{p a:Addr}{v o:HO}{u:O}{m':List Addr}(hp:H p=some v)(hw:wrO v=true)(na:u.wr=true->a≠p)(g:Gr K m H m' (upd H p o))(q:RO K m H a u):RO K m' (upd H p o) a u:=by
 cases u with
 |lst ds=>
  obtain⟨vs,h1,h2⟩:=q
  exact⟨vs,by rw[jzi (na rfl)];exact h1,h2.mono g⟩
 |ro ds=>
  obtain⟨vs,h1,h2⟩:=q
  exact⟨vs,SqR.upd_w hp hw h1,h2.mono g⟩
 |dct ds=>
  obtain⟨vs,h1,h2,h3⟩:=q
  exact⟨vs,by rw[jzi (na rfl)];exact h1,h2,h3.mono g⟩
 |dtt ds=>
  obtain⟨xs,us,h1,h2,h3,h4,h5⟩:=q
  exact⟨xs,us,by rw[jzi (na rfl)];exact h1,h2,λx hx=>g.tup _ _ (h3 x hx),h4.mono g,h5⟩
 |ded=>trivial
 |dtf ds=>
  obtain⟨xs,us,o',es,ep,h1,h2,h3,h4,h5,h6⟩:=q
  exact⟨xs,us,o',es,ep,by rw[jzi (ne_of h1 hp (λz=>by subst z;cases hw))];exact h1,h2,h3,λx hx=>g.tup _ _ (h4 x hx),h5.mono g,h6⟩
 |ins cn fs=>
  obtain⟨C,dx,us,h1,h2,h3,h4⟩:=q
  exact⟨C,dx,us,h1,by rw[jzi (na rfl)];exact h2,h3,h4.mono g⟩
 |stt l=>
  show upd H p o a=_
  rw[jzi (na rfl)];exact q
 |dcz ds=>
  obtain⟨us,o',h1,h2,h3⟩:=q
  exact⟨us,o',by rw[jzi (ne_of h1 hp (λz=>by subst z;cases hw))];exact h1,h2,h3.mono g⟩
theorem Wd.keepNew(w:Wd K m h H){p:Addr}{o:HO}(hp:H p=none):Wd K m h (upd H p o):=
 ⟨w.len,w.nd,w.dz,λn ob a e1 e2=>(w.ob n ob a e1 e2).keepNew hp (Gr.tupNew hp)⟩
theorem Wd.objNew(w:Wd K m h H){p:Addr}{o:O}{u:HO}(hp:H p=none)(r:Gr K m H (m++ [p]) (upd H p u)->RO K (m++ [p]) (upd H p u) p o):Wd K (m++ [p]) (h++ [o]) (upd H p u)/\Gr K m H (m++ [p]) (upd H p u):=by
 have g:Gr K m H (m++ [p]) (upd H p u):=⟨λn a e=>by
  rw[List.getElem?_append_left (List.getElem?_eq_some_iff.mp e).1];exact e,λ_ _ e=>SqT.upd_new hp e,λb o' u' e=>by rw[jzi (jzl e hp)];exact e⟩
 have cs:∀(i:Nat)(a:Addr)(o':O),(m++ [p])[i]? =some a->(h++ [o])[i]? =some o'->(i<h.length/\m[i]? =some a/\h[i]? =some o')\/(i=h.length/\a=p/\o'=o):=by
  intro i a o' e1 e2
  by_cases hi:i<h.length
  ·rw[List.getElem?_append_left (by rw[w.len];exact hi)] at e1
   rw[List.getElem?_append_left hi] at e2
   exact .inl ⟨hi,e1,e2⟩
  ·have hl:=(List.getElem?_eq_some_iff.mp e2).1
   have e:i=h.length:=by simp at hl;omega
   subst e
   rw[<- w.len] at e1
   simp at e1 e2
   exact .inr ⟨rfl,e1.symm,e2.symm⟩
 have fr:∀(i:Nat)(o:O),m[i]? =some p->h[i]? =some o->o.wr=true->False:=λi o e1 e2 hw=>by
  obtain⟨u,hu,_⟩:=(w.ob i o p e2 e1).some_of hw
  rw[hp] at hu;cases hu
 have frz:∀(i:Nat)(l:List (Key×D)),m[i]? =some p->h[i]? =some (.dcz l)->False:=λi l e1 e2=>by
  obtain⟨us,ob,hu,_⟩:=w.ob i _ p e2 e1
  rw[hp] at hu;cases hu
 refine⟨⟨by simp[w.len],λi j a o1 o2 e1 e2 e3 e4 w1 w2=>?_,λi j a l1 l2 e1 e2 e3 e4=>?_,λn o' a e1 e2=>?_⟩,g⟩
 ·rcases cs i a o1 e1 e3 with ⟨_,x1,x2⟩|⟨z1,z2,z3⟩
  ·rcases cs j a o2 e2 e4 with ⟨_,y1,y2⟩|⟨y1,y2,y3⟩
   ·exact w.nd i j a o1 o2 x1 y1 x2 y2 w1 w2
   ·subst y2;exact(fr i o1 x1 x2 w1).elim
  ·rcases cs j a o2 e2 e4 with ⟨_,y1,y2⟩|⟨y1,y2,y3⟩
   ·subst z2;exact(fr j o2 y1 y2 w2).elim
   ·rw[z1,y1]
 ·rcases cs i a _ e1 e3 with ⟨_,x1,x2⟩|⟨z1,z2,z3⟩
  ·rcases cs j a _ e2 e4 with ⟨_,y1,y2⟩|⟨y1,y2,y3⟩
   ·exact w.dz i j a l1 l2 x1 y1 x2 y2
   ·subst y2;exact(frz i l1 x1 x2).elim
  ·rcases cs j a _ e2 e4 with ⟨_,y1,y2⟩|⟨y1,y2,y3⟩
   ·subst z2;exact(frz j l2 y1 y2).elim
   ·rw[z1,y1]
 ·rcases cs n a o' e2 e1 with ⟨_,x1,x2⟩|⟨z1,z2,z3⟩
  ·exact(w.ob n o' a x2 x1).keepNew hp g
  ·subst z2;subst z3
   exact r g
theorem Wd.objSet(w:Wd K m h H){n:Nat}{a:Addr}{o o':O}{u:HO}(e1:h[n]? =some o)(hw:o.wr=true)(e2:m[n]? =some a)(r:Gr K m H m (upd H a u)->RO K m (upd H a u) a o'):
 Wd K m (h.set n o') (upd H a u)/\Gr K m H m (upd H a u):=by
 obtain⟨v,ha,hv⟩:=(w.ob n o a e1 e2).some_of hw
 have g:Gr K m H m (upd H a u):=⟨λ_ _ e=>e,λ_ _ e=>SqT.upd_w ha hv e,λb o' u' e=>by rw[jzi (ne_of e ha (λz=>by subst z;cases hv))];exact e⟩
 have hn:n<h.length:=(List.getElem?_eq_some_iff.mp e1).1
 have cs:∀(i:Nat)(o1:O),(h.set n o')[i]? =some o1->(i=n/\o1=o')\/(i≠n/\h[i]? =some o1):=by
  intro i o1 e
  by_cases hi:n=i
  ·subst hi
   rw[List.getElem?_set_self hn] at e
   exact .inl ⟨rfl,(Option.some.inj e).symm⟩
  ·rw[List.getElem?_set_ne hi] at e
   exact .inr ⟨λz=>hi z.symm,e⟩
 have frz:∀(i:Nat)(l:List (Key×D)),m[i]? =some a->h[i]? =some (.dcz l)->False:=λi l e3 e4=>by
  obtain⟨us,ob,hu,_⟩:=w.ob i _ a e4 e3
  rw[ha] at hu;cases hu;cases hv
 refine⟨⟨by simp[w.len],λi j b o1 o2 x1 x2 x3 x4 w1 w2=>?_,λi j b l1 l2 x1 x2 x3 x4=>?_,λi o1 b x1 x2=>?_⟩,g⟩
 ·rcases cs i o1 x3 with ⟨z,_⟩|⟨ni,y3⟩
  ·subst z
   rcases cs j o2 x4 with ⟨z,_⟩|⟨nj,y4⟩
   ·exact z.symm
   ·exact w.nd i j b o o2 x1 x2 e1 y4 hw w2
  ·rcases cs j o2 x4 with ⟨z,_⟩|⟨nj,y4⟩
   ·subst z
    exact w.nd i j b o1 o x1 x2 y3 e1 w1 hw
   ·exact w.nd i j b o1 o2 x1 x2 y3 y4 w1 w2
 ·rcases cs i _ x3 with ⟨z,_⟩|⟨ni,y3⟩
  ·subst z
   rcases cs j _ x4 with ⟨z,_⟩|⟨nj,y4⟩
   ·exact z.symm
   ·rw[e2] at x1;cases x1
    exact(frz j l2 x2 y4).elim
  ·rcases cs j _ x4 with ⟨z,_⟩|⟨nj,y4⟩
   ·subst z
    rw[e2] at x2;cases x2
    exact(frz i l1 x1 y3).elim
   ·exact w.dz i j b l1 l2 x1 x2 y3 y4
 ·rcases cs i o1 x1 with ⟨z1,z2⟩|⟨ni,y⟩
  ·subst z1;subst z2
   rw[e2] at x2;cases x2
   exact r g
  ·refine(w.ob i o1 b y x2).keepSet ha hv (λhw1 z=>?_) g
   subst z
   exact ni (w.nd i n b _ _ x2 e2 y e1 hw1 hw)
theorem Wd.lstNew(w:Wd K m h H){p:Addr}{ds:List D}{vs:List V}(hp:H p=none)(r:RDs K m H ds vs):Wd K (m++ [p]) (h++ [.lst ds]) (upd H p (.lst vs))/\Gr K m H (m++ [p]) (upd H p (.lst vs)):=
 w.objNew hp λg=>⟨vs,jzq,r.mono g⟩
theorem Wd.lstSet(w:Wd K m h H){n:Nat}{a:Addr}{ds es:List D}{us:List V}(e1:h[n]? =some (.lst ds))(e2:m[n]? =some a)(r:RDs K m H es us):
 (∃vs,H a=some (.lst vs)/\RDs K m H ds vs)/\Wd K m (h.set n (.lst es)) (upd H a (.lst us))/\Gr K m H m (upd H a (.lst us)):=
 ⟨w.ob n _ a e1 e2,w.objSet e1 rfl e2 λg=>⟨us,jzq,r.mono g⟩⟩
mutual
theorem RD.monoT{m':List Addr}{H':Hp}(hp:∀(n:Nat)(a:Addr),m[n]? =some a->m'[n]? =some a)(ht:∀(a:Addr)(vs:List V),SqT K H a vs->SqT K H' a vs):∀{d:D}{v:V},RD K m H d v->RD K m' H' d v
 |_,_,.non=>.non
 |_,_,.bl b=>.bl b
 |_,_,.int i=>.int i
 |_,_,.str x=>.str x
 |_,_,.ty n=>.ty n
 |_,_,.tup h r=>.tup (ht _ _ h) (RDs.monoT hp ht r)
 |_,_,.ref h=>.ref (hp _ _ h)
theorem RDs.monoT{m':List Addr}{H':Hp}(hp:∀(n:Nat)(a:Addr),m[n]? =some a->m'[n]? =some a)(ht:∀(a:Addr)(vs:List V),SqT K H a vs->SqT K H' a vs):∀{ds:List D}{vs:List V},RDs K m H ds vs->RDs K m' H' ds vs
 |_,_,.nil=>.nil
 |_,_,.cons h r=>.cons (RD.monoT hp ht h) (RDs.monoT hp ht r)
end
theorem SqT.thaw{a:Addr}{o:Obj}{us:List (Key×V)}{u:HO}(ha:H a=some (.frz o (.dK us))){b:Addr}{vs:List V}(h:SqT K H b vs):SqT K (upd H a u) b vs:=by
 rcases h with (h|⟨ob,h⟩)|h
 ·exact .inl (.inl (by rw[jzi (ne_of h ha (λz=>by cases z))];exact h))
 ·exact .inl (.inr ⟨ob,by rw[jzi (ne_of h ha (λz=>by cases z))];exact h⟩)
 ·exact .inr h
theorem Gr.thaw{H0:Hp}{m0:List Addr}{a:Addr}{o:Obj}{us:List (Key×V)}{u:HO}(g:Gr K m0 H0 m H)(h0:∀o u,H0 a≠some (.frz o u))(ha:H a=some (.frz o (.dK us))):Gr K m0 H0 m (upd H a u):=
 ⟨g.pre,λb vs q=>SqT.thaw ha (g.tup b vs q),λb o' u' q=>by
  have ne:b≠a:=λz=>by subst z;exact h0 _ _ q
  rw[jzi ne];exact g.frz b o' u' q⟩
theorem RSt.thaw{a:Addr}{o:Obj}{us:List (Key×V)}{u:HO}{r:Ev}{s:Sg}(ha:H a=some (.frz o (.dK us)))(h:RSt K m H r s):RSt K m (upd H a u) r s:=
 ⟨h.1,λi d e=>let⟨v,h1,h2⟩:=h.2 i d e;⟨v,h1,h2.monoT (λ_ _ q=>q) (λ_ _ q=>SqT.thaw ha q)⟩⟩
theorem Wd.thaw(w:Wd K m h H){n:Nat}{a:Addr}{l:List (Key×D)}{o:Obj}{us:List (Key×V)}(e1:h[n]? =some (.dcz l))(e2:m[n]? =some a)(ha:H a=some (.frz o (.dK us))):Wd K m (h.set n (.dct l)) (upd H a (.dK us)):=by
 have mono:∀{ds:List D}{vs:List V},RDs K m H ds vs->RDs K m (upd H a (.dK us)) ds vs:=λq=>q.monoT (λ_ _ q=>q) (λ_ _ q=>SqT.thaw ha q)
 have hn:n<h.length:=(List.getElem?_eq_some_iff.mp e1).1
 have cs:∀(i:Nat)(o1:O),(h.set n (.dct l))[i]? =some o1->(i=n/\o1=.dct l)\/(i≠n/\h[i]? =some o1):=by
  intro i o1 e
  by_cases hi:n=i
  ·subst hi
   rw[List.getElem?_set_self hn] at e
   exact .inl ⟨rfl,(Option.some.inj e).symm⟩
  ·rw[List.getElem?_set_ne hi] at e
   exact .inr ⟨λz=>hi z.symm,e⟩
 have nw:∀(i:Nat)(o1:O),m[i]? =some a->h[i]? =some o1->o1.wr=true->False:=λi o1 x1 x2 hw=>by
  obtain⟨v,hv,hv'⟩:=(w.ob i o1 a x2 x1).some_of hw
  rw[ha] at hv;cases hv;cases hv'
 refine⟨by simp[w.len],λi j b o1 o2 x1 x2 x3 x4 w1 w2=>?_,λi j b l1 l2 x1 x2 x3 x4=>?_,λi o1 b x1 x2=>?_⟩
 ·rcases cs i o1 x3 with ⟨z,_⟩|⟨ni,y3⟩
  ·subst z
   rcases cs j o2 x4 with ⟨z,_⟩|⟨nj,y4⟩
   ·exact z.symm
   ·rw[e2] at x1;cases x1
    exact(nw j o2 x2 y4 w2).elim
  ·rcases cs j o2 x4 with ⟨z,_⟩|⟨nj,y4⟩
   ·subst z
    rw[e2] at x2;cases x2
    exact(nw i o1 x1 y3 w1).elim
   ·exact w.nd i j b o1 o2 x1 x2 y3 y4 w1 w2
 ·rcases cs i _ x3 with ⟨_,z⟩|⟨ni,y3⟩
  ·cases z
  ·rcases cs j _ x4 with ⟨_,z⟩|⟨nj,y4⟩
   ·cases z
   ·exact w.dz i j b l1 l2 x1 x2 y3 y4
 ·rcases cs i o1 x1 with ⟨z1,z2⟩|⟨ni,y⟩
  ·subst z1;subst z2
   rw[e2] at x2;cases x2
   obtain⟨us',o',q1,q2,q3⟩:=w.ob i _ a e1 e2
   rw[ha] at q1;cases q1
   exact⟨us,jzq,q2,mono q3⟩
  ·have q:=w.ob i o1 b y x2
   cases o1 with
   |lst ds=>
    obtain⟨vs,h1,h2⟩:=q
    exact⟨vs,by rw[jzi (ne_of h1 ha (λz=>by cases z))];exact h1,mono h2⟩
   |ro ds=>
    obtain⟨vs,h1,h2⟩:=q
    refine⟨vs,?_,mono h2⟩
    rcases h1 with ⟨ob,h1⟩|h1
    ·exact .inl ⟨ob,by rw[jzi (ne_of h1 ha (λz=>by cases z))];exact h1⟩
    ·exact .inr h1
   |dct ds=>
    obtain⟨vs,h1,h2,h3⟩:=q
    exact⟨vs,by rw[jzi (ne_of h1 ha (λz=>by cases z))];exact h1,h2,mono h3⟩
   |dtt ds=>
    obtain⟨xs,us',h1,h2,h3,h4,h5⟩:=q
    exact⟨xs,us',by rw[jzi (ne_of h1 ha (λz=>by cases z))];exact h1,h2,λx hx=>SqT.thaw ha (h3 x hx),mono h4,h5⟩
   |ded=>trivial
   |dtf ds=>
    obtain⟨xs,us',o',es,ep,h1,h2,h3,h4,h5,h6⟩:=q
    exact⟨xs,us',o',es,ep,by rw[jzi (ne_of h1 ha (λz=>by cases z))];exact h1,h2,h3,λx hx=>SqT.thaw ha (h4 x hx),mono h5,h6⟩
   |ins cn fs=>
    obtain⟨C,dx,us',h1,h2,h3,h4⟩:=q
    exact⟨C,dx,us',h1,by rw[jzi (ne_of h2 ha (λz=>by cases z))];exact h2,h3,mono h4⟩
   |stt l=>
    have q':H b=some _:=q
    show upd H a _ b=_
    rw[jzi (ne_of q' ha (λz=>by cases z))];exact q'
   |dcz ds=>
    obtain⟨us',o',h1,h2,h3⟩:=q
    have ne:b≠a:=λz=>by
     subst z
     exact ni (w.dz i n b ds l x2 e2 y e1)
    exact⟨us',o',by rw[jzi ne];exact h1,h2,mono h3⟩
def lstOf:O->Option (List D)
 |.lst l=>some l
 |.ro l=>some l
 |.dct _=>none
 |.dtt _=>none
 |.ded=>none
 |.dtf _=>none
 |.ins _ _=>none
 |.stt _=>none
 |.dcz _=>none
def lstAt(h:Hh)(n:Nat):Option (List D):=(h[n]?).bind lstOf
theorem Wd.lst(w:Wd K m h H){n:Nat}{ds:List D}(e:lstAt h n=some ds):∃a vs,m[n]? =some a/\SqL K H a vs/\RDs K m H ds vs:=by
 unfold lstAt at e
 cases q:h[n]? with
 |none=>rw[q] at e;cases e
 |some o=>
  rw[q] at e
  obtain⟨a,e1,r⟩:=w.at q
  cases o with
  |lst l=>
   obtain rfl:l=ds:=Option.some.inj e
   obtain⟨vs,h1,h2⟩:=r
   exact⟨a,vs,e1,.of h1,h2⟩
  |ro l=>
   obtain rfl:l=ds:=Option.some.inj e
   obtain⟨vs,h1,h2⟩:=r
   exact⟨a,vs,e1,h1.sq,h2⟩
  |dct l=>cases e
  |dtt l=>cases e
  |ded=>cases e
  |dtf l=>cases e
  |ins c l=>cases e
  |stt l=>cases e
  |dcz l=>cases e
end
end Ng
end
section
namespace Ng
open PySem PySem.Spec PyProof.Rows L2
abbrev nev:Value->Shared->Prop:=λ_ _=>False
theorem hokHide{P:Program}{w:World}{H:Hp}{h:Heap}{fs:List Addr}(x:HOk P w H h)(nf:∀b∈fs,H b=none):HOk P w H (PySem.W.hideAll h fs):=λa o e=>
 (x a o e).stay (λb u hb q=>PySem.W.hideAll_get _ q λhm=>by
   rcases hb with rfl|hb
   ·rw[nf _ hm] at e;cases e
   ·rw[nf _ hm] at hb;cases hb) (λ_ q=>q) λ_ _ q=>q
structure Fly (P:Program)(w:World)(l:List Env)(H:Hp)(s:Heap)(Hs:Hp)(e C:Addr)(h B:Heap):Prop where
 fl:∃t,Heap.FlyingW B l e (.ref C) (.ref t) h
 hok:HOk P w H B
 kb:∀b o,s.get? b=some o->Hs b=none->b ∉ frs l->B.get? b=some o
 kt:∀b o,s.get? b=some o->b ∉ frs l->∃o',B.get? b=some o'
def CX1(P:Program)(w:World):CXT:=λouter Hs s E e s'=>∃H' B ea C,e=.ref ea/\s'.os=s.os/\AllBare s'.gens/\Un (frs outer) [] Hs H' s.heap s'.heap/\Fly P w outer H' s.heap Hs ea C s'.heap B/\E e (some C) H'
theorem pass1{X:Cx}:Passes (CX1 X.prog X.w) X E0:=λ_ _ _ _ _ _ _ ⟨_,_,_,_,_,_,_,_,_,z⟩=>z.elim
theorem un_fly{fs:List Addr}{H H':Hp}{h h1 h2 B:Heap}(u:Un fs [] H H' h h1)(kb:∀b o,h.get? b=some o->H b=none->b ∉ fs->B.get? b=some o)(kt:∀b o,h.get? b=some o->b ∉ fs->∃o',B.get? b=some o')
 (st:B.StaysIn h2)(up:h1.UpToSlots h2)(fr:∀b∈fs,∀o,h1.get? b=some o->∀vs,o.data≠ .fields vs):Un fs [] H H' h h2 where
 keep:=λb o e n hb _=>st b o (kb b o e n hb)
 slot:=λb o e n hb hx=>by
  obtain⟨sl,e1⟩:=u.slot b o e n hb hx
  obtain⟨sl',e2⟩:=up b _ e1 (fr b hb _ e1)
  exact⟨sl',e2⟩
 free:=u.free
 there:=λb o e hx=>by
  by_cases hb:b∈fs
  ·obtain⟨o1,e1⟩:=u.there b o e hx
   obtain⟨sl,e2⟩:=up b o1 e1 (fr b hb _ e1)
   exact⟨_,e2⟩
  ·obtain⟨o',e'⟩:=kt b o e hb
   exact⟨o',st b o' e'⟩
 tups:=u.tups
 frzs:=u.frzs
 tbls:=u.tbls
structure FlyX (X:Cx)(pins:List (Addr×Obj))(H:Hp)(e C:Addr)(s:Shared)(B:Heap):Prop where
 fly:Fly X.prog X.w X.stack H X.s₀.heap X.H₀ e C s.heap B
 pc1:∀p∈X.pn++pins,B.get? p.1=some p.2
 pc2:∀x c,X.env.cells.lookup x=some c->∃o,s.heap.get? c=some o/\B.get? c=some o
section
variable {X:Cx}{pins:List (Addr×Obj)}{σ:Sg}{H:Hp}{s:Shared}
theorem wz3(I:Inv X pins σ H s):∀b∈frs X.stack,∀o,s.heap.get? b=some o->∀vs,o.data≠ .fields vs:=λb hb o e vs q=>by
 obtain⟨_,o',e',nf⟩:=I.stack.mem hb
 rw[e] at e';cases e'
 exact nf vs q
theorem qzb(I:Inv X pins σ H s){b:Addr}{o:Obj}(e:X.s₀.heap.get? b=some o)(hb:b ∉ frs X.outer):b ∉ frs X.stack:=λhm=>by
 rcases List.mem_cons.mp (I.stkSub b hm) with z|z
 ·exact absurd (Heap.lt_size e) (by rw[z];exact Nat.not_lt.mpr I.ok.above)
 ·exact hb z
end
theorem vzI{P:Program}{w:World}{H:Hp}{h:Heap}{a:Addr}:∀{o:HO},ObjOk P w H h a o->∃u,h.get? a=some u:=by
 intro o x
 cases o with
 |lst xs=>obtain⟨_,_,_,_,e⟩:=x;exact⟨_,e⟩
 |tup xs=>obtain⟨_,_,_,o,e,_⟩:=x;exact⟨_,e⟩
 |dK kvs=>obtain⟨_,_,_,_,o,_,_,e,_⟩:=x;exact⟨_,e⟩
 |dT kvs=>obtain⟨_,_,_,_,o,_,_,e,_⟩:=x;exact⟨_,e⟩
 |set S n=>obtain⟨o,_,_,_,e,_⟩:=x;exact⟨_,e⟩
 |ins C dx fs=>obtain⟨_,_,_,e,_⟩:=x;exact⟨_,e⟩
 |own y=>obtain⟨_,e⟩:=x;exact⟨_,e⟩
 |xd fs=>obtain⟨_,⟨_,_,_,e,_⟩,_⟩:=x;exact⟨_,e⟩
 |rng lo hi=>obtain⟨_,_,_,e⟩:=x;exact⟨_,e⟩
 |frz ob u=>obtain⟨e,_⟩:=x;exact⟨_,e⟩
 |tbl ps=>exact⟨_,x⟩
 |met f y=>exact⟨_,x⟩
 |ext φ=>obtain⟨_,⟨_,e⟩,_⟩:=x;exact⟨_,e⟩
structure XX (X:Cx)(ca:Nat->Addr)(W:Nat->Sg->Hp->Prop)(rz:Bool):Prop where
 ex:X.ex=[]
 stk:X.stack=X.env::X.outer/\X.env.frame=some X.env.locals
 fly:∀(pins:List (Addr×Obj))(σ:Sg)(H:Hp)(s:Shared)(e:Addr)(c:Nat),Inv X pins σ H s->(∃B,FlyX X pins H e (ca c) s B)->W c σ H->X.xe (.ref e) s
 made:rz=true->∀(pins:List (Addr×Obj))(σ:Sg)(H:Hp)(s:Shared)(h':Heap)(e:Addr)(c:Nat)(args:List Value),Inv X pins σ H s->Heap.MadeExcOf s.heap h' e (.ref (ca c)) args->W c σ H->X.xe (.ref e) {s with heap:=h'}
section
variable {P:Program}{w:World}{K:PySem.W.Frag}{mg:Str->Option Value}{base:Heap}{N:List Str}{qual:Str}{scope:Scope}{f:Addr}{cd:Value}{A:Around}{outer:List Env}{s₀:Shared}{H₀:Hp}{E:XK}{ca:Nat->Addr}
theorem fnXX:XX (cxOf (CX1 P w) P w K mg base N qual scope f cd A outer s₀ H₀ E) ca (λc _ H=>∀v,E v (some (ca c)) H) true where
 ex:=rfl
 stk:=⟨rfl,rfl⟩
 fly:=λpins σ H s e c I ⟨B,F⟩ hW=>by
  have F:=F.fly
  obtain⟨t,fl⟩:=id F.fl
  refine wpAny_leaves_onW (L:=s₀.heap.objs.size) I.ok.frames rfl fl λh' fl' up=>?_
  refine⟨H,B,e,ca c,rfl,I.os,I.bare,?_,⟨⟨t,fl'⟩,F.hok,λb o e1 n hb=>F.kb b o e1 n (qzb I e1 hb),λb o e1 hb=>F.kt b o e1 (qzb I e1 hb)⟩,hW _⟩
  exact un_fly (h1:=s.heap) I.base (λb o e1 n hb=>F.kb b o e1 n (qzb I e1 hb)) (λb o e1 hb=>F.kt b o e1 (qzb I e1 hb)) fl'.1 up λb hb o e1=>wz3 I b (List.mem_cons_of_mem _ hb) o e1
 made:=λ_ pins σ H s h1 e c args I hx hW=>by
  have hin:∀env∈(cxOf (CX1 P w) P w K mg base N qual scope f cd A outer s₀ H₀ E).stack,∀b,env.frame=some b->b∈frs (cxOf (CX1 P w) P w K mg base N qual scope f cd A outer s₀ H₀ E).stack:=λenv he b hb=>List.mem_filterMap.mpr ⟨env,he,hb⟩
  refine wpAny_leaves_madeW (s:={s with heap:=h1}) (h:=s.heap) (base:=PySem.W.hideAll s.heap (frs (cxOf (CX1 P w) P w K mg base N qual scope f cd A outer s₀ H₀ E).stack)) (L:=s₀.heap.objs.size) I.ok.frames rfl (λb o q=>PySem.W.of_hideAll _ q) (PySem.W.funFrames_hide I.stack hin) hx λh' t fl' _ _ up=>?_
  have kb:∀b o,s₀.heap.get? b=some o->H₀ b=none->b ∉ frs outer->(PySem.W.hideAll s.heap (frs (cxOf (CX1 P w) P w K mg base N qual scope f cd A outer s₀ H₀ E).stack)).get? b=some o:=λb o e1 n hb=>
   PySem.W.hideAll_get _ (I.base.keep b o e1 n hb (by simp[cxOf])) (qzb I e1 hb)
  have kt:∀b o,s₀.heap.get? b=some o->b ∉ frs outer->∃o',(PySem.W.hideAll s.heap (frs (cxOf (CX1 P w) P w K mg base N qual scope f cd A outer s₀ H₀ E).stack)).get? b=some o':=λb o e1 hb=>by
   obtain⟨o1,e2⟩:=I.base.there b o e1 (by simp[cxOf])
   exact⟨o1,PySem.W.hideAll_get _ e2 (qzb I e1 hb)⟩
  refine⟨H,_,e,ca c,rfl,I.os,I.bare,?_,⟨⟨t,fl'⟩,hokHide I.hok I.stkFree,kb,kt⟩,hW _⟩
  have u1:Un (frs outer) [] H₀ H s₀.heap h1:=by
   refine⟨λb o e1 n hb hn=>hx.keeps _ _ (I.base.keep b o e1 n hb hn),λb o e1 n hb hn=>?_,I.base.free,λb o e1 hn=>?_,I.base.tups,I.base.frzs,I.base.tbls⟩
   ·obtain⟨sl,q⟩:=I.base.slot b o e1 n hb hn
    exact⟨sl,hx.keeps _ _ q⟩
   ·obtain⟨o1,q⟩:=I.base.there b o e1 hn
    exact⟨o1,hx.keeps _ _ q⟩
  refine un_fly (h1:=h1) u1 kb kt fl'.1 up λb hb o e1=>?_
  obtain⟨_,o',e',nf⟩:=I.stack.mem (List.mem_cons_of_mem _ hb)
  have e2:=hx.keeps _ _ e'
  rw[e1] at e2;cases e2
  exact nf
end
end Ng
end
section
namespace Ng
open PySem PySem.Spec PyProof.Rows L2
section
variable {X:Cx}{pins:List (Addr×Obj)}{σ:Sg}{H:Hp}{s:Shared}{e C:Addr}{B:Heap}{oe:Obj}
end
end Ng
end
section
namespace Ng
open PySem PySem.Spec PyProof.Rows L2 PySem.W Builtin Builtin.ObjectAttr Builtin.Getset_descriptor
structure ExcN (K:PySem.W.Frag)(C:Addr):Prop where
 ga:findIn K (.ref C) "__getattribute__"=some (some (.builtin "BaseException.__getattribute__"))
 gt:findIn K (.ref C) "__getattr__"=some none
 cl:findIn K (.ref C) "__class__"=some (some (.builtin "object.__class__"))
 gg:specialIn K (.builtin "object.__class__") "__get__"=some (some (.builtin "getset_descriptor.__get__"))
 tk:takesIn K (.builtin "object.__class__")=some true
 mr:mroIn K C (.type "object")=some true
 mb:mroIn K C (.type "BaseException")=some true
 ty:∃l n,excIn K C l n=true
section
variable {prog:Program}{w:World}{A:Around}{E:Value->Shared->Prop}{s:Shared}{K:PySem.W.Frag}{x C:Addr}{ox:Obj}
end
end Ng
end
section
namespace Ng
open PySem PySem.W PyProof.Rows
def KOk(n:Nat)(L:Nat->Nat->Bool){α:Type}:KasT α->(α->Prop)->Prop
 |.ret a,Q=>Q a
 |.ask i j k,Q=>i<n/\j<n/\i≠j/\KOk n L (k (L i j)) Q
section
variable {n:Nat}{L:Nat->Nat->Bool}{α β:Type}
theorem KOk.mono:∀{t:KasT α}{Q Q':α->Prop},KOk n L t Q->(∀a,Q a->Q' a)->KOk n L t Q'
 |.ret a,_,_,h,c=>c a h
 |.ask i j k,_,_,h,c=>⟨h.1,h.2.1,h.2.2.1,KOk.mono (t:=k (L i j)) h.2.2.2 c⟩
theorem KOk.bind{f:α->KasT β}{Q:β->Prop}:∀{t:KasT α},KOk n L t (λa=>KOk n L (f a) Q)->KOk n L (t.bind f) Q
 |.ret a,h=>h
 |.ask i j k,h=>⟨h.1,h.2.1,h.2.2.1,KOk.bind (t:=k (L i j)) h.2.2.2⟩
theorem KOk.wp{cmp:Nat->Nat->(Bool->Shared->Prop)->Shared->Prop}{s:Shared}(hc:∀i j (C:Bool->Shared->Prop),i<n->j<n->i≠j->C (L i j) s->cmp i j C s){R:α->Shared->Prop}:∀{t:KasT α}{Q:α->Prop},KOk n L t Q->(∀a,Q a->R a s)->t.kasWp cmp R s
 |.ret a,_,h,c=>c a h
 |.ask i j k,_,h,c=>hc i j _ h.1 h.2.1 h.2.2.1 (KOk.wp hc (t:=k (L i j)) h.2.2.2 c)
end
abbrev gD(p:Array Nat)(i:Nat):Nat:=p.getD i 0
structure SO (n:Nat)(L:Nat->Nat->Bool):Prop where
 tot:∀i j,i<n->j<n->i≠j->L i j=true\/L j i=true
 tr:∀i j k,i<n->j<n->k<n->L i j=true->L j k=true->L i k=true
def PV(n:Nat)(p:Array Nat):Prop:=p.toList.Perm (List.range n)
def Sd(L:Nat->Nat->Bool)(p:Array Nat)(k:Nat):Prop:=∀i j,i<j->j<k->L (gD p i) (gD p j)=true
section
variable {n:Nat}{L:Nat->Nat->Bool}{p:Array Nat}
theorem PV.size(h:PV n p):p.size=n:=by
 have:=h.length_eq
 simpa using this
theorem gD_eq{i:Nat}(h:i<p.size):gD p i=p[i]:=by simp[gD,Array.getD,h]
theorem PV.lt(h:PV n p){i:Nat}(hi:i<n):gD p i<n:=by
 have hz:=h.size
 rw[gD_eq (by omega)]
 have:p[i]∈p.toList:=by simp
 exact List.mem_range.mp (h.mem_iff.mp this)
theorem PV.ne(h:PV n p){i j:Nat}(hi:i<n)(hj:j<n)(hij:i≠j):gD p i≠gD p j:=by
 have hz:=h.size
 have nd:p.toList.Nodup:=h.nodup_iff.mpr List.nodup_range
 rw[gD_eq (by omega),gD_eq (by omega)]
 intro e
 rw[List.Nodup,List.pairwise_iff_getElem] at nd
 rcases Nat.lt_or_gt_of_ne hij with z|z
 ·exact nd i j (by simpa using(by omega:i<p.size)) (by simpa using(by omega:j<p.size)) z (by simpa using e)
 ·exact nd j i (by simpa using(by omega:j<p.size)) (by simpa using(by omega:i<p.size)) z (by simpa using e.symm)
theorem PV.perm{q:Array Nat}(h:PV n p)(e:q.Perm p):PV n q:=(Array.perm_iff_toList_perm.mp e).trans h
theorem so_le(so:SO n L)(h:PV n p){i j:Nat}(hi:i<n)(hj:j<n)(hij:i≠j)(e:L (gD p j) (gD p i)=false):L (gD p i) (gD p j)=true:=by
 rcases so.tot _ _ (h.lt hi) (h.lt hj) (h.ne hi hj hij) with z|z
 ·exact z
 ·rw[e] at z;cases z
theorem Sd.snoc(so:SO n L)(h:PV n p){k:Nat}(hk:k<n)(h1:1<=k)(s:Sd L p k)(e:L (gD p (k-1)) (gD p k)=true):Sd L p (k+1):=λi j hij hj=>by
 by_cases z:j<k
 ·exact s i j hij z
 ·have ej:j=k:=by omega
  subst ej
  by_cases y:i=j-1
  ·subst y;exact e
  ·exact so.tr _ _ _ (h.lt (by omega)) (h.lt (by omega)) (h.lt hk) (s i (j-1) (by omega) (by omega)) e
theorem zz5(so:SO n L)(h:PV n p):∀(f k:Nat),1<=k->k+f<=n->Sd L p k->KOk n L (kas_asc p f k) (λm=>k<=m/\m<=k+f/\Sd L p m/\(m<k+f->L (gD p m) (gD p (m-1))=true))
 |0,k,h1,h2,s=>⟨Nat.le_refl _,Nat.le_refl _,s,λz=>absurd z (Nat.lt_irrefl _)⟩
 |f+1,k,h1,h2,s=>by
  refine⟨h.lt (by omega),h.lt (by omega),h.ne (by omega) (by omega) (by omega),?_⟩
  cases e:L (gD p k) (gD p (k-1)) with
  |true=>exact⟨Nat.le_refl _,by omega,s,λ_=>e⟩
  |false=>
   refine KOk.mono (zz5 so h f (k+1) (by omega) (by omega) (s.snoc so h (by omega) h1 (so_le so h (by omega) (by omega) (by omega) e))) λm ⟨a,b,c,d⟩=>⟨by omega,by omega,c,λz=>d (by omega)⟩
def Ds(L:Nat->Nat->Bool)(p:Array Nat)(k:Nat):Prop:=∀i j,i<j->j<k->L (gD p j) (gD p i)=true
theorem Ds.snoc(so:SO n L)(h:PV n p){k:Nat}(hk:k<n)(h1:1<=k)(s:Ds L p k)(e:L (gD p k) (gD p (k-1))=true):Ds L p (k+1):=λi j hij hj=>by
 by_cases z:j<k
 ·exact s i j hij z
 ·have ej:j=k:=by omega
  subst ej
  by_cases y:i=j-1
  ·subst y;exact e
  ·exact so.tr _ _ _ (h.lt hk) (h.lt (by omega)) (h.lt (by omega)) e (s i (j-1) (by omega) (by omega))
theorem zzI(so:SO n L)(h:PV n p):∀(f k:Nat),1<=k->k+f<=n->Ds L p k->KOk n L (kas_desc f p k 0) (λr=>r.1=p/\r.2.2=0/\k<=r.2.1/\r.2.1<=k+f/\Ds L p r.2.1)
 |0,k,h1,h2,s=>⟨rfl,rfl,Nat.le_refl _,Nat.le_refl _,s⟩
 |f+1,k,h1,h2,s=>by
  refine⟨h.lt (by omega),h.lt (by omega),h.ne (by omega) (by omega) (by omega),?_⟩
  cases e:L (gD p k) (gD p (k-1)) with
  |true=>
   refine KOk.mono (zzI so h f (k+1) (by omega) (by omega) (s.snoc so h (by omega) h1 e)) λr ⟨a,b,c,d,x⟩=>⟨a,b,by omega,by omega,x⟩
  |false=>
   have e':=so_le so h (i:=k-1) (j:=k) (by omega) (by omega) (by omega) e
   refine⟨h.lt (by omega),h.lt (by omega),h.ne (by omega) (by omega) (by omega),?_⟩
   rw[show L (p.getD (k-1) 0) (p.getD k 0)=true from e']
   exact⟨rfl,rfl,Nat.le_refl _,Nat.le_add_right k (f+1),s⟩
theorem vz5{k:Nat}(hm:k<=p.size)(i:Nat):gD (kas_rev p 0 k) i=if i<k then gD p (k-1-i) else gD p i:=by
 have e:=getElem?_mirror_all (i:=0) (j:=k) hm i
 unfold kas_rev
 have g:∀(q:Array Nat)(i:Nat),gD q i=(q[i]?).getD 0:=λq i=>by simp[gD,Array.getD_eq_getD_getElem?]
 rw[g,e]
 by_cases hi:i<k
 ·rw[if_pos ⟨Nat.zero_le _,hi⟩,if_pos hi,g,show 0+k-1-i=k-1-i by omega]
 ·rw[if_neg (λz=>hi z.2),if_neg hi,g]
theorem tail_ok(so:SO n L)(h:PV n p){m:Nat}(h1:1<=m)(hm:m<=n)(s:Ds L p m):KOk n L (kas_tail3 m n p) (λr=>PV n r.2/\m<=r.1/\r.1<=n/\Sd L r.2 r.1):=by
 have hz:=h.size
 have hp:PV n (kas_rev p 0 m):=h.perm (mirror_perm _ _ _ _)
 have hs:Sd L (kas_rev p 0 m) m:=λi j hij hj=>by
  rw[vz5 (by omega),vz5 (by omega),if_pos (by omega),if_pos hj]
  exact s (m-1-j) (m-1-i) (by omega) (by omega)
 unfold kas_tail3
 exact KOk.bind (KOk.mono (zz5 so hp (n-m) m h1 (by omega) hs) λr ⟨a,b,c,_⟩=>⟨hp,a,by omega,c⟩)
theorem count_ok(so:SO n L)(h:PV n p)(h2:2<=n):KOk n L (kas_count n p) (λr=>PV n r.2/\1<=r.1/\r.1<=n/\Sd L r.2 r.1):=by
 unfold kas_count
 refine KOk.bind (KOk.mono (zz5 so h (n-1) 1 (Nat.le_refl _) (by omega) λi j a b=>by omega) λm ⟨a,b,c,d⟩=>?_)
 by_cases e:m=n
 ·subst e
  rw[if_pos (by simp)]
  exact⟨h,a,Nat.le_refl _,c⟩
 ·rw[if_neg (by simpa using e)]
  by_cases g:m>1
  ·rw[if_pos g]
   refine⟨h.lt (by omega),h.lt (by omega),h.ne (by omega) (by omega) (by omega),?_⟩
   have e2:L (p.getD 0 0) (p.getD (m-1) 0)=true:=c 0 (m-1) (by omega) (by omega)
   rw[e2]
   show KOk n L (if true=true then KasT.ret (m,p) else _) _
   rw[if_pos rfl]
   exact⟨h,a,(by show m<=n;omega),c⟩
  ·rw[if_neg g]
   have em:m=1:=by omega
   subst em
   unfold kas_descPart
   have d':=d (by omega)
   refine KOk.bind (KOk.mono (zzI so h (n-(1+1)) (1+1) (by omega) (by omega) λi j a b=>?_) λr ⟨x1,x2,x3,x4,x5⟩=>?_)
   ·have:j=1:=by omega
    have:i=0:=by omega
    subst_vars
    exact d'
   ·rw[x2,if_neg (by omega),x1]
    exact KOk.mono (tail_ok so h (by omega) (by omega) x5) λr ⟨y1,y2,y3,y4⟩=>⟨y1,by omega,y3,y4⟩
theorem qz6(so:SO n L)(h:PV n p){k:Nat}(hk:k<n)(s:Sd L p k):∀(f l r:Nat),l<=r->r<=k->r-l<=f->(∀i,i<l->L (gD p i) (gD p k)=true)->(∀i,r<=i->i<k->L (gD p k) (gD p i)=true)->
 KOk n L (kas_place p k f l r) (λm=>m<=k/\(∀i,i<m->L (gD p i) (gD p k)=true)/\∀i,m<=i->i<k->L (gD p k) (gD p i)=true)
 |0,l,r,h1,h2,h3,a,b=>by
  have:l=r:=by omega
  subst this
  exact⟨h2,a,b⟩
 |f+1,l,r,h1,h2,h3,a,b=>by
  unfold kas_place
  by_cases g:l ≥ r
  ·rw[if_pos g]
   have:l=r:=by omega
   subst this
   exact⟨h2,a,b⟩
  ·rw[if_neg g]
   have hm1:l<=(l+r)/2:=by omega
   have hm2:(l+r)/2<r:=by omega
   generalize (l+r)/2=m at hm1 hm2⊢
   have hmk:m<k:=Nat.lt_of_lt_of_le hm2 h2
   have hmn:=Nat.lt_trans hmk hk
   refine⟨h.lt hk,h.lt hmn,h.ne hk hmn (Nat.ne_of_gt hmk),?_⟩
   cases e:L (p.getD k 0) (p.getD m 0) with
   |true=>
    refine qz6 so h hk s f l m hm1 (Nat.le_of_lt hmk) (by omega) a λi x y=>?_
    by_cases z:i=m
    ·subst z;exact e
    ·exact so.tr _ _ _ (h.lt hk) (h.lt hmn) (h.lt (Nat.lt_trans y hk)) e (s _ _ (Nat.lt_of_le_of_ne x (Ne.symm z)) y)
   |false=>
    have e':=so_le so h (i:=m) (j:=k) hmn hk (Nat.ne_of_lt hmk) e
    refine qz6 so h hk s f (m+1) r hm2 h2 (by omega) (λi x=>?_) b
    by_cases z:i=m
    ·subst z;exact e'
    ·have him:i<m:=Nat.lt_of_le_of_ne (Nat.le_of_lt_succ x) z
     exact so.tr _ _ _ (h.lt (Nat.lt_trans him hmn)) (h.lt hmn) (h.lt hk) (s i _ him hmk) e'
theorem zz1{k l:Nat}(hk:k<p.size)(hl:l<=k)(i:Nat):gD (bubble p k (k-l)) i=if i=l then gD p k else if l<i/\i<=k then gD p (i-1) else gD p i:=by
 have e:=getElem?_bubble hk (k-l) (by omega) i
 have g:∀(q:Array Nat)(i:Nat),gD q i=(q[i]?).getD 0:=λq i=>by simp[gD,Array.getD_eq_getD_getElem?]
 rw[show k-(k-l)=l by omega] at e
 rw[g,e]
 by_cases h1:i=l
 ·rw[if_pos h1,if_pos h1,g]
 ·rw[if_neg h1,if_neg h1]
  by_cases h2:l<i/\i<=k
  ·rw[if_pos h2,if_pos h2,g]
  ·rw[if_neg h2,if_neg h2,g]
end
theorem bin_ok{n:Nat}{L:Nat->Nat->Bool}(so:SO n L):∀(f k:Nat)(p:Array Nat),k+f=n->PV n p->Sd L p k->KOk n L (kas_bin f p k) (λq=>PV n q/\Sd L q n)
 |0,k,p,hk,h,s=>⟨h,by rw[<- hk];exact s⟩
 |f+1,k,p,hk,h,s=>by
  have hz:=h.size
  unfold kas_bin
  refine KOk.bind (KOk.mono (qz6 so h (by omega) s k 0 k (by omega) (Nat.le_refl _) (by omega) (λi z=>by omega) λi x y=>by omega) λl ⟨a,b,c⟩=>?_)
  refine bin_ok so f (k+1) _ (by omega) (h.perm (bubble_perm _ _ _)) λi j hij hj=>?_
  rw[zz1 (by omega) a,zz1 (by omega) a]
  by_cases i1:i=l
  ·rw[if_pos i1,if_neg (by omega),if_pos (by omega)]
   exact c _ (by omega) (by omega)
  ·rw[if_neg i1]
   by_cases j1:j=l
   ·rw[if_neg (by omega),if_pos j1]
    exact b _ (by omega)
   ·rw[if_neg j1]
    by_cases i2:l<i/\i<=k
    ·rw[if_pos i2,if_pos (by omega)]
     exact s _ _ (by omega) (by omega)
    ·rw[if_neg i2]
     by_cases j2:l<j/\j<=k
     ·rw[if_pos j2]
      exact s _ _ (by omega) (by omega)
     ·rw[if_neg j2]
      exact s _ _ (by omega) (by omega)
theorem sort_ok{n:Nat}{L:Nat->Nat->Bool}(so:SO n L)(h2:2<=n):KOk n L (kas_sort n) (λq=>PV n q/\Sd L q n):=by
 have h0:PV n (List.toArray (List.range n)):=by unfold PV;simp
 unfold kas_sort
 refine KOk.bind (KOk.mono (count_ok so h0 h2) λr ⟨a,b,c,d⟩=>?_)
 by_cases g:r.1<n
 ·rw[if_pos g,show max r.1 1=r.1 by omega]
  exact bin_ok so _ _ _ (by omega) a d
 ·rw[if_neg g]
  have:r.1=n:=by omega
  rw[this] at d
  exact⟨a,d⟩
section
variable {δ:Type}
theorem qzi{R:δ->δ->Prop}(as:∀x y,R x y->R y x->False):∀{l1 l2:List δ},l1.Perm l2->l1.Pairwise R->l2.Pairwise R->l1=l2
 | [],l2,hp,_,_=>(List.nil_perm.mp hp).symm
 |x::l1,[],hp,_,_=>absurd (List.perm_nil.mp hp) (by simp)
 |x::l1,y::l2,hp,h1,h2=>by
  have exy:x=y:=by
   obtain⟨a1,b1⟩:=List.pairwise_cons.mp h1
   obtain⟨a2,b2⟩:=List.pairwise_cons.mp h2
   have hx:x∈y::l2:=hp.mem_iff.mp List.mem_cons_self
   have hy:y∈x::l1:=hp.mem_iff.mpr List.mem_cons_self
   rcases List.mem_cons.mp hx with z|z
   ·exact z
   ·rcases List.mem_cons.mp hy with w|w
    ·exact w.symm
    ·exact(as x y (a1 y w) (a2 x z)).elim
  subst exy
  rw[qzi as (List.perm_cons x |>.mp hp) (List.pairwise_cons.mp h1).2 (List.pairwise_cons.mp h2).2]
def Bef(lt:δ->δ->Option Bool)(x y:δ):Prop:=lt x y=some true/\lt y x=some false
theorem Bef.asy{lt:δ->δ->Option Bool}{x y:δ}(a:Bef lt x y)(b:Bef lt y x):False:=by
 have:=a.1;rw[b.2] at this;cases this
theorem chain_ix{lt:δ->δ->Option Bool}{l:List δ}(h:l.Pairwise (Bef lt)){i j:Nat}(hi:i<l.length)(hj:j<l.length)(ne:i≠j):(lt l[i] l[j]=some true->i<j)/\(i<j->Bef lt l[i] l[j]):=by
 rw[List.pairwise_iff_getElem] at h
 refine⟨λe=>?_,λz=>h i j hi hj z⟩
 rcases Nat.lt_trichotomy i j with z|z|z
 ·exact z
 ·exact absurd z ne
 ·have:=(h j i hj hi z).2
  rw[e] at this;cases this
theorem wzg{lt:δ->δ->Option Bool}{l:List δ}(h:l.Pairwise (Bef lt)):l.Nodup:=h.imp λa z=>by
 subst z
 have:=a.1;rw[a.2] at this;cases this
theorem jz3{l l':List δ}(hp:l'.Perm l){i:Nat}{x:δ}(e:l[i]? =some x):∃k:Nat,l'[k]? =some x:=by
 obtain⟨k,hk,z⟩:=List.mem_iff_getElem.mp (hp.mem_iff.mpr (List.mem_of_getElem? e))
 exact⟨k,by rw[List.getElem?_eq_getElem hk,z]⟩
theorem qzd{l:List δ}(nd:l.Nodup){i j:Nat}{x:δ}(a:l[i]? =some x)(b:l[j]? =some x):i=j:=by
 obtain⟨hi,ei⟩:=List.getElem?_eq_some_iff.mp a
 obtain⟨hj,ej⟩:=List.getElem?_eq_some_iff.mp b
 rw[List.Nodup,List.pairwise_iff_getElem] at nd
 rcases Nat.lt_trichotomy i j with z|z|z
 ·exact(nd i j hi hj z (ei.trans ej.symm)).elim
 ·exact z
 ·exact(nd j i hj hi z (ej.trans ei.symm)).elim
theorem ch_lt{lt:δ->δ->Option Bool}{l:List δ}(h:l.Pairwise (Bef lt)){a b:Nat}{x y:δ}(ha:l[a]? =some x)(hb:l[b]? =some y)(ne:a≠b):(lt x y=some true↔a<b)/\(a<b->Bef lt x y):=by
 obtain⟨hi,rfl⟩:=List.getElem?_eq_some_iff.mp ha
 obtain⟨hj,rfl⟩:=List.getElem?_eq_some_iff.mp hb
 obtain⟨p,q⟩:=chain_ix h hi hj ne
 exact⟨⟨p,λz=>(q z).1⟩,q⟩
theorem so_of{lt:δ->δ->Option Bool}{l l':List δ}(hp:l'.Perm l)(h:l'.Pairwise (Bef lt)){L:Nat->Nat->Bool}(hne:∀i,L i i=false)(hL:∀(i j:Nat)(x y:δ),l[i]? =some x->l[j]? =some y->i≠j->(L i j=true↔lt x y=some true)):SO l.length L:=by
 have nd':=wzg h
 have nd:l.Nodup:=hp.nodup_iff.mp nd'
 have g:∀i,i<l.length->∃x,l[i]? =some x:=λi hi=>⟨_,List.getElem?_eq_getElem hi⟩
 refine⟨λi j hi hj hij=>?_,λi j k hi hj hk e1 e2=>?_⟩
 ·obtain⟨x,ex⟩:=g i hi
  obtain⟨y,ey⟩:=g j hj
  obtain⟨a,ea⟩:=jz3 hp ex
  obtain⟨b,eb⟩:=jz3 hp ey
  have nab:a≠b:=λz=>by
   subst z;rw[ea] at eb;cases eb
   exact hij (qzd nd ex ey)
  rcases Nat.lt_or_gt_of_ne nab with z|z
  ·exact .inl ((hL i j x y ex ey hij).mpr ((ch_lt h ea eb nab).1.mpr z))
  ·exact .inr ((hL j i y x ey ex (Ne.symm hij)).mpr ((ch_lt h eb ea (Ne.symm nab)).1.mpr z))
 ·obtain⟨x,ex⟩:=g i hi
  obtain⟨y,ey⟩:=g j hj
  obtain⟨z,ez⟩:=g k hk
  obtain⟨a,ea⟩:=jz3 hp ex
  obtain⟨b,eb⟩:=jz3 hp ey
  obtain⟨c,ec⟩:=jz3 hp ez
  have nij:i≠j:=λq=>by subst q;rw[hne] at e1;cases e1
  have njk:j≠k:=λq=>by subst q;rw[hne] at e2;cases e2
  have nab:a≠b:=λq=>by
   subst q;rw[ea] at eb;cases eb
   exact nij (qzd nd ex ey)
  have nbc:b≠c:=λq=>by
   subst q;rw[eb] at ec;cases ec
   exact njk (qzd nd ey ez)
  have l1:=(ch_lt h ea eb nab).1.mp ((hL i j x y ex ey nij).mp e1)
  have l2:=(ch_lt h eb ec nbc).1.mp ((hL j k y z ey ez njk).mp e2)
  have nik:i≠k:=λq=>by
   subst q;rw[ex] at ez;cases ez
   have:=qzd nd' ea ec
   omega
  exact(hL i k x z ex ez nik).mpr ((ch_lt h ea ec (by omega)).1.mpr (by omega))
theorem zzj(l:List δ)(d:δ):(List.range l.length).map (λi=>l.getD i d)=l:=by
 apply List.ext_getElem?
 intro i
 rw[List.getElem?_map]
 by_cases hi:i<l.length
 ·rw[List.getElem?_range hi,List.getElem?_eq_getElem hi]
  simp[List.getD_eq_getElem?_getD,List.getElem?_eq_getElem hi]
 ·rw[List.getElem?_eq_none (by simpa using hi),List.getElem?_eq_none (by simpa using hi)];rfl
theorem out_of{lt:δ->δ->Option Bool}{l l':List δ}(hp:l'.Perm l)(h:l'.Pairwise (Bef lt)){L:Nat->Nat->Bool}(hL:∀(i j:Nat)(x y:δ),l[i]? =some x->l[j]? =some y->i≠j->(L i j=true↔lt x y=some true)){p:Array Nat}(hv:PV l.length p)(hs:Sd L p l.length)(d:δ):
 p.toList.map (λi=>l.getD i d)=l':=by
 have nd':=wzg h
 have nd:l.Nodup:=hp.nodup_iff.mp nd'
 refine qzi (R:=Bef lt) (λ_ _=>Bef.asy) (((hv.map _).trans (by rw[zzj])).trans hp.symm) ?_ h
 rw[List.pairwise_iff_getElem]
 intro a b ha hb hab
 rw[List.length_map,Array.length_toList] at ha hb
 have hz:=hv.size
 have e:∀c (hc:c<p.size),(p.toList.map (λi=>l.getD i d))[c]'(by simpa using hc)=l.getD (gD p c) d:=λc hc=>by
  rw[List.getElem_map,gD_eq hc];rfl
 rw[e a ha,e b hb]
 have la:=hv.lt (i:=a) (by omega)
 have lb:=hv.lt (i:=b) (by omega)
 have nab:=hv.ne (i:=a) (j:=b) (by omega) (by omega) (by omega)
 have g:∀i,i<l.length->l[i]? =some (l.getD i d):=λi hi=>by simp[List.getD_eq_getElem?_getD,List.getElem?_eq_getElem hi]
 have t:=(hL _ _ _ _ (g _ la) (g _ lb) nab).mp (hs a b hab (by omega))
 obtain⟨x,ex⟩:=jz3 hp (g _ la)
 obtain⟨y,ey⟩:=jz3 hp (g _ lb)
 have nxy:x≠y:=λq=>by
  subst q;rw[ex] at ey
  have e2:=Option.some.inj ey
  exact nab (qzd nd (g _ la) (by rw[e2];exact g _ lb))
 exact(ch_lt h ex ey nxy).2 ((ch_lt h ex ey nxy).1.mp t)
end
end Ng
end
section
namespace Ng
open PySem PySem.Spec PyProof.Rows L2
inductive Bop where
 |add|sub|mul|fdiv|mod|pow
inductive Cop where
 |lt|le|gt|ge|eq|ne|is|isnot|inn|notin
inductive Ty where
 |int|bool|str|tuple|list|dict
def Ty.nm:Ty->String
 |.int=>"int"|.bool=>"bool"|.str=>"str"|.tuple=>"tuple"|.list=>"list"|.dict=>"dict"
inductive Blt where
 |len|isinst|int|list|sorted|all|tup
inductive Tg where
 |nm (i:Nat)|tp (l:List Nat)|tn (i j k:Nat)
inductive Ck where
 |r1|r2|sq|its|itf|st
def setAll:List Nat->List D->Ev->Ev
 |i::is,d::ds,r=>setAll is ds (r.set i (some d))
 |_,_,r=>r
def setT:Tg->D->Ev->Option Ev
 |.nm i,d,r=>some (r.set i (some d))
 |.tp l,.tup ds,r=>if ds.length=l.length then some (setAll l ds r) else none
 |.tn i j k,.tup [a,.tup [b,c]],r=>some (((r.set i (some a)).set j (some b)).set k (some c))
 |_,_,_=>none
def rngD(i j:Int):List D:=(List.range (j-i).toNat).map λ(k:Nat)=>D.int (i+k)
def okR(j:Int):Prop:= -(2^62)<=j/\j<2^62
instance (j:Int):Decidable (okR j):=by unfold okR;infer_instance
mutual
inductive E where
 |var (i:Nat)|int (i:Int)|bl (b:Bool)|non|str (x:Str)|gc (g:Nat)|ty (t:Ty)
 |bin (op:Bop) (a b:E)|neg (a:E)|cmp (op:Cop) (a b:E)
 |and (a b:E)|or (a b:E)|not (a:E)|ite (c a b:E)
 |ix (a b:E)|tup (l:Es)|lst (l:Es)|call (f:Nat) (l:Es)|blt (f:Blt) (l:Es)|app (o e:E)
 |comp (t:Tg) (k:Ck) (it cs:Es) (e:E) (N:List Str) (cap:List Nat)
 |mxd (mx:Bool) (l d:E)|lrg (e:E)|disp (ks:List Str) (vs:Es)|ins (o i e:E)
 |slU (a b:E)|slL (a b:E)|att (o:E) (cn f:Str)|new (cn:Str) (f:Nat) (l:Es)|slT (a b:E)|slA (a b:E)|slZ (a b:E)|mth (o:E) (cn m:Str) (f:Nat) (l:Es)|chn (op op':Cop) (a b c:E)|rev (o:E)|dcT (t:Tg) (i k v:E) (N:List Str) (cap:List Nat)|dnw|dnt|get2 (o k d:E)|join (x:Str) (e:E)|sng (a:E)|sad (o a:E)|nis (a o:E)|dk1 (k v:E)|dcp (a:E)|ldk (a:E)|deq (a b:E)|dcomp (t1:Tg) (i1:E) (t2:Tg) (i2 k v:E) (N:List Str) (cap:List Nat)
inductive Es where
 |nil|cons (e:E) (r:Es)
end
def truD:D->Hh->Option Bool
 |.non,_=>some false
 |.bl b,_=>some b
 |.int i,_=>some (i != 0)
 |.str y,_=>if y.length<=sizeLine then some ((y.length:Int) != 0) else none
 |.tup l,_=>some (!l.isEmpty)
 |.ref n,h=>match lstAt h n with
  |some l=>some (!l.isEmpty)
  |none=>none
 |.ty _,_=>none
def binD:Bop->D->D->Hh->Rs D
 |.add,.int i,.int j,h=>.ok (.int (i+j)) h
 |.add,.str x,.str y,h=>if x.length+y.length<=sizeLine then .ok (.str (x++y)) h else .bad
 |.add,.tup a,.tup b,h=>if a.length+b.length<=1000/\0<a.length/\0<b.length then .ok (.tup (a++b)) h else .bad
 |.add,.ref n,.ref k,h=>match h[n]?,h[k]? with
  |some (.lst a),some (.lst b)=>if a.length+b.length<=1000 then .ok (.ref h.length) (h++ [.lst (a++b)]) else .bad
  |_,_=>.bad
 |.sub,.int i,.int j,h=>.ok (.int (i-j)) h
 |.mul,.int i,.int j,h=>if(-(2^64)<i/\i<2^64)\/(-(2^64)<j/\j<2^64) then .ok (.int (i*j)) h else .bad
 |.fdiv,.int i,.int j,h=>if 0<j/\j<1073741824 then .ok (.int (i/j)) h else .bad
 |.mod,.int i,.int j,h=>if 0<j then .ok (.int (i%j)) h else .bad
 |.pow,.int i,.int j,h=>if 0<=j/\j<=1000000/\i.natAbs<2^64 then .ok (.int (i^j.toNat)) h else .bad
 |_,_,_,_=>.bad
def eqL(f:D->D->Option Bool):List D->List D->Option Bool
 | [],[]=>some true
 | [],_::_=>some false
 |_::_,[]=>some false
 |x::xs,y::ys=>match f x y,eqL f xs ys with
  |some a,some b=>some (a&&b)
  |_,_=>none
def eqD:Nat->D->D->Option Bool
 |_,.non,.non=>some true
 |_,.non,.int _=>some false
 |_,.int _,.non=>some false
 |_,.non,.str _=>some false
 |_,.str _,.non=>some false
 |_,.int a,.int b=>some (a==b)
 |_,.bl a,.bl b=>some (a==b)
 |_,.str a,.str b=>some (a==b)
 |_,.int _,.str _=>some false
 |_,.str _,.int _=>some false
 |n+1,.tup a,.tup b=>eqL (eqD n) a b
 |_,_,_=>none
def eqH:D->D->Hh->Option Bool
 |.ref i,.ref j,h=>match lstAt h i,lstAt h j with
  |some a,some b=>if a.length=b.length then eqL (eqD 20) a b else some false
  |_,_=>none
 |x,y,_=>eqD 20 x y
def isNon:D->Bool
 |.non=>true
 |_=>false
def flat:D->Bool
 |.non=>true|.bl _=>true|.int _=>true|.str _=>true
 |_=>false
def eqF:D->D->Bool
 |.non,.non=>true
 |.bl a,.bl b=>a==b
 |.bl a,.int b=>(if a then 1 else 0)==b
 |.int a,.bl b=>a==(if b then 1 else 0)
 |.int a,.int b=>a==b
 |.str a,.str b=>a==b
 |_,_=>false
def inD(x:D)(l:List D)(neg:Bool)(h:Hh):Rs D:=if flat x=true/\l.all flat=true then .ok (.bl (if neg then !(l.any λy=>eqF y x) else l.any λy=>eqF y x)) h else .bad
def seqD:D->Hh->Option (List D)
 |.tup l,_=>some l
 |.ref n,h=>lstAt h n
 |_,_=>none
def dctAt(h:Hh)(x:D):Option (List (Key×D)):=match x with
 |.ref n=>match h[n]? with
  |some (.dct l)=>some l
  |some (.dcz l)=>some l
  |_=>none
 |_=>none
def keyD:D->Option Key
 |.int i=>some (.inl i)
 |.str x=>some (.inr x)
 |_=>none
def valD(l:List (Key×D))(k:Key):Option D:=(l.find? λkv=>decide (kv.1=k)).map (·.2)
def inK(x:D)(l:List (Key×D))(neg:Bool)(h:Hh):Rs D:=match keyD x with
 |some k=>.ok (.bl (if neg then !(valD l k).isSome else(valD l k).isSome)) h
 |none=>.bad
def putD(l:List (Key×D))(k:Key)(v:D):List (Key×D):=if l.any (λkv=>decide (kv.1=k)) then l.map (λkv=>if kv.1=k then(kv.1,v) else kv) else l++ [(k,v)]
def get2D(x y z:D)(h:Hh):Rs D:=match dctAt h x,keyD y with
 |some l,some k=>.ok ((valD l k).getD z) h
 |_,_=>.bad
def dputD(n:Nat)(y z:D)(h:Hh):Rs Unit:=match h[n]?,keyD y with
 |some (.dct l),some k=>if l.length<1000 then .ok () (h.set n (.dct (putD l k z))) else .bad
 |_,_=>.bad
def strsD:List D->Option (List Str)
 | []=>some []
 |.str x::r=>(strsD r).map (x:: ·)
 |_::_=>none
def ltF:List D->List D->Option Bool
 | [],[]=>some false
 | [],_::_=>some true
 |_::_,[]=>some false
 |.int a::xs,.int b::ys=>if a=b then ltF xs ys else some (decide (a<b))
 |.str a::xs,.str b::ys=>if a=b then ltF xs ys else some (decide (a.cps.toList<b.cps.toList))
 |_,_=>none
def ltK:D->D->Option Bool
 |.int a,.int b=>some (decide (a<b))
 |.str a,.str b=>some (decide (a.cps.toList<b.cps.toList))
 |.tup a,.tup b=>ltF a b
 |_,_=>none
def kdS:D->Nat
 |.int _=>1
 |.str _=>2
 |.tup (.int _::_)=>3
 |.tup (.str _::_)=>4
 |_=>0
def CanS(l:List D):Prop:=l.length<64/\(l.length<2\/∃k,k≠0/\∀x∈l,kdS x=k)
open Classical in
noncomputable def srtD(l:List D):Option (List D):=if h:CanS l/\∃l':List D,l'.Perm l/\l'.Pairwise (Bef ltK) then some (Classical.choose h.2) else none
theorem vz1{l l':List D}(c:CanS l)(hp:l'.Perm l)(hs:l'.Pairwise (Bef ltK)):srtD l=some l':=by
 have h:CanS l/\∃l':List D,l'.Perm l/\l'.Pairwise (Bef ltK):=⟨c,l',hp,hs⟩
 unfold srtD
 rw[dif_pos h]
 have q:=Classical.choose_spec h.2
 rw[qzi (R:=Bef ltK) (λ_ _=>Bef.asy) (q.1.trans hp.symm) q.2 hs]
theorem srtD_of{l l':List D}(e:srtD l=some l'):CanS l/\l'.Perm l/\l'.Pairwise (Bef ltK):=by
 unfold srtD at e
 split at e
 ·rename_i h
  have q:=Classical.choose_spec h.2
  have e':=Option.some.inj e
  rw[e'] at q
  exact⟨h.1,q⟩
 ·cases e
def dtfAt(h:Hh)(x:D):Option (List (List Int×D)):=match x with
 |.ref n=>match h[n]? with
  |some (.dtf l)=>some l
  |_=>none
 |_=>none
def intsK:List D->Option (List Int)
 | []=>some []
 |.int i::r=>(intsK r).map (i:: ·)
 |_::_=>none
def valT(l:List (List Int×D))(k:List Int):Option D:=(l.find? λkv=>decide (kv.1=k)).map (·.2)
def inX(x y:D)(h:Hh):Option Bool:=match x,y with
 |.str a,.str b=>some (!(Builtin.Str.occurrences b a 0 b.length 1).isEmpty)
 |.tup ks,y=>match dtfAt h y with
  |some l=>(intsK ks).map λk=>(valT l k).isSome
  |none=>none
 |_,_=>none
def inT(x:D):List D->Option Bool
 | []=>some false
 |y::r=>match eqD 20 y x,inT x r with
  |some a,some b=>some (a||b)
  |_,_=>none
def inTs(x y:D)(l:List D):Option Bool:=match x,y with
 |.tup _,.ref _=>inT x l
 |_,_=>none
def ltI:List D->List D->Option Bool
 | [],[]=>some false
 | [],_::_=>some true
 |_::_,[]=>some false
 |.int i::a,.int j::b=>if i=j then ltI a b else some (decide (i<j))
 |_,_=>none
def cmpD:Cop->D->D->Hh->Rs D
 |.lt,.int i,.int j,h=>.ok (.bl (decide (i<j))) h
 |.lt,.ref n,.ref k,h=>match lstAt h n,lstAt h k with
  |some a,some b=>match ltI a b with
   |some c=>.ok (.bl c) h
   |none=>.bad
  |_,_=>.bad
 |.le,.int i,.int j,h=>.ok (.bl (decide (i<=j))) h
 |.gt,.int i,.int j,h=>.ok (.bl (decide (j<i))) h
 |.ge,.int i,.int j,h=>.ok (.bl (decide (j<=i))) h
 |.eq,x,y,h=>match eqH x y h with
  |some b=>.ok (.bl b) h
  |none=>.bad
 |.ne,x,y,h=>match eqH x y h with
  |some b=>.ok (.bl (!b)) h
  |none=>.bad
 |.is,x,.non,h=>.ok (.bl (isNon x)) h
 |.isnot,x,.non,h=>.ok (.bl (!isNon x)) h
 |.inn,x,y,h=>match inX x y h with
  |some b=>.ok (.bl b) h
  |none=>match dctAt h y with
   |some l=>inK x l false h
   |none=>match seqD y h with
    |some l=>inD x l false h
    |none=>.bad
 |.notin,x,y,h=>match dctAt h y with
  |some l=>inK x l true h
  |none=>match seqD y h with
   |some l=>match inTs x y l with
    |some b=>.ok (.bl (!b)) h
    |none=>inD x l true h
   |none=>.bad
 |_,_,_,_=>.bad
def ixS(x y:D)(h:Hh):Rs D:=match seqD x h,y with
 |some l,.int i=>match atI l i with
  |some d=>.ok d h
  |none=>.bad
 |_,_=>.bad
def ixK(l:List (Key×D))(y:D)(h:Hh):Rs D:=match keyD y with
 |some k=>match valD l k with
  |some d=>.ok d h
  |none=>.bad
 |none=>.bad
def ixT(x:Str)(y:D)(h:Hh):Rs D:=match y with
 |.int i=>if x.length<=sizeLine then(match atI x.cps.toList i with
  |some c=>.ok (.str ⟨#[c]⟩) h
  |none=>.bad) else .bad
 |_=>.bad
def ixF(l:List (List Int×D))(y:D)(h:Hh):Rs D:=match y with
 |.tup ks=>match (intsK ks).bind (valT l) with
  |some d=>.ok d h
  |none=>.bad
 |_=>.bad
def ixD(x y:D)(h:Hh):Rs D:=match x with
 |.str z=>ixT z y h
 |x=>match dctAt h x with
  |some l=>ixK l y h
  |none=>match dtfAt h x with
   |some l=>ixF l y h
   |none=>ixS x y h
def isLst:D->Hh->Bool
 |.ref n,h=>(lstAt h n).isSome
 |_,_=>false
def tyD:D->Hh->Option Ty
 |.bl _,_=>some .bool
 |.int _,_=>some .int
 |.str _,_=>some .str
 |.tup _,_=>some .tuple
 |.ref n,h=>match lstAt h n with
  |some _=>some .list
  |none=>match h[n]? with
   |some (.dct _)=>some .dict
   |_=>none
 |_,_=>none
def isTy:Ty->String->Bool
 |.bool,s=>s=="bool"||s=="int"
 |t,s=>t.nm==s
def tyNames:List String:= ["int","bool","str","tuple","list","dict"]
def isinD(x:D)(T:String)(h:Hh):Option Bool:=match x with
 |.non=>if T∈tyNames then some false else none
 |x=>match tyD x h with
  |some t=>if T∈tyNames then some (isTy t T) else none
  |none=>none
def tysOf:List D->Option (List String)
 | []=>some []
 |.ty T::r=>match tysOf r with
  |some l=>some (T::l)
  |none=>none
 |_=>none
def isinAny(x:D)(h:Hh):List String->Option Bool
 | []=>some false
 |T::r=>match isinD x T h,isinAny x h r with
  |some a,some b=>some (a||b)
  |_,_=>none
def isinL(x:D):D->Hh->Rs D
 |.ty T,h=>match isinD x T h with
  |some b=>.ok (.bl b) h
  |none=>.bad
 |.tup l,h=>match tysOf l with
  |some []=>.bad
  |some (T::Ts)=>match isinAny x h (T::Ts) with
   |some b=>.ok (.bl b) h
   |none=>.bad
  |none=>.bad
 |_,_=>.bad
def intL:D->Hh->Rs D
 |.int i,h=>.ok (.int i) h
 |.bl b,h=>.ok (.int (if b then 1 else 0)) h
 |_,_=>.bad
def lenL(x:D)(h:Hh):Rs D:=match seqD x h with
 |some l=>.ok (.int l.length) h
 |none=>match x with
  |.str z=>if z.length<=sizeLine then .ok (.int z.length) h else .bad
  |x=>match dtfAt h x with
   |some l=>.ok (.int l.length) h
   |none=>match dctAt h x with
    |some l=>.ok (.int l.length) h
    |none=>.bad
def blsD:List D->Option (List Bool)
 | []=>some []
 |.bl b::r=>(blsD r).map (b:: ·)
 |_::_=>none
def allL(x:D)(h:Hh):Rs D:=match isLst x h,seqD x h with
 |true,some l=>match blsD l with
  |some bs=>.ok (.bl (bs.all id)) h
  |none=>.bad
 |_,_=>.bad
def revD(x:D)(h:Hh):Rs D:=match x with
 |.ref n=>match h[n]? with
  |some (.lst l)=>.ok .non (h.set n (.lst l.reverse))
  |_=>.bad
 |_=>.bad
def listL(x:D)(h:Hh):Rs D:=match seqD x h with
 |some l=>.ok (.ref h.length) (h++ [.lst l])
 |none=>.bad
noncomputable def srtL(x:D)(h:Hh):Rs D:=match isLst x h,seqD x h with
 |true,some l=>match srtD l with
  |some l'=>.ok (.ref h.length) (h++ [.lst l'])
  |none=>.bad
 |_,_=>.bad
def joinD(s:Str)(x:D)(h:Hh):Rs D:=match isLst x h,seqD x h with
 |true,some l=>match strsD l with
  |some xs=>if(xs.map (·.length)).sum+xs.length*s.length<=1000 then .ok (.str (Txt.join s xs)) h else .bad
  |none=>.bad
 |_,_=>.bad
def slTD(x y:D)(h:Hh):Rs D:=match x,y with
 |.tup l,.int i=>if 0<=i/\i<(l.length:Int) then .ok (.tup (l.take i.toNat)) h else .bad
 |_,_=>.bad
def slAD(x y:D)(h:Hh):Rs D:=match x,y with
 |.str z,.int i=>if 0<=i/\z.length<=1000 then .ok (.str ⟨(z.cps.toList.take i.toNat).toArray⟩) h else .bad
 |_,_=>.bad
def slZD(x y:D)(h:Hh):Rs D:=match x,y with
 |.str z,.int i=>if 0<=i/\z.length<=1000 then .ok (.str ⟨(z.cps.toList.drop i.toNat).toArray⟩) h else .bad
 |_,_=>.bad
def slUD(x y:D)(h:Hh):Rs D:=match isLst x h,seqD x h,y with
 |true,some l,.int i=>if 0<=i then .ok (.ref h.length) (h++ [.lst (l.take i.toNat)]) else .ok (.ref h.length) (h++ [.lst (l.take (l.length-i.natAbs))])
 |_,_,_=>.bad
def slLD(x y:D)(h:Hh):Rs D:=match isLst x h,seqD x h,y with
 |true,some l,.int i=>if 0<=i then .ok (.ref h.length) (h++ [.lst (l.drop i.toNat)]) else .ok (.ref h.length) (h++ [.lst (l.drop (l.length-i.natAbs))])
 |_,_,_=>.bad
def tupL(x:D)(h:Hh):Rs D:=match isLst x h,seqD x h with
 |true,some l=>.ok (.tup l) h
 |_,_=>.bad
def one(k:D->Hh->Rs D):List D->Hh->Rs D
 | [x],h=>k x h
 |_,_=>.bad
def two(k:D->D->Hh->Rs D):List D->Hh->Rs D
 | [x,y],h=>k x y h
 |_,_=>.bad
def intsD:List D->Option (List Int)
 | []=>some []
 |.int i::r=>(intsD r).map (i:: ·)
 |_::_=>none
def putT(l:List (List Int×D))(k:List Int)(v:D):List (List Int×D):=if l.any (λkv=>decide (kv.1=k)) then l.map (λkv=>if kv.1=k then(kv.1,v) else kv) else l++ [(k,v)]
def dputT(n:Nat)(l:List (List Int×D))(y z:D)(h:Hh):Rs Unit:=match y with
 |.tup ks=>match intsD ks with
  |some k=>if l.length<1000 then .ok () (h.set n (.dtt (putT l k z))) else .bad
  |none=>.bad
 |_=>.bad
def maxI(a:Int)(l:List Int):Int:=l.foldl (λm x=>if x>m then x else m) a
def minI(a:Int)(l:List Int):Int:=l.foldl (λm x=>if x<m then x else m) a
def bestI(mx:Bool):Int->List Int->Int:=if mx then maxI else minI
def bestD(mx:Bool)(x d:D)(h:Hh):Rs D:=match isLst x h,seqD x h with
 |true,some l=>match intsD l with
  |some (i::r)=>.ok (.int (bestI mx i r)) h
  |some []=>.ok d h
  |none=>.bad
 |_,_=>.bad
def lrgD(x:D)(h:Hh):Rs D:=match x with
 |.int j=>if -(2^62)<=j/\j<=1000 then .ok (.ref h.length) (h++ [.lst (rngD 0 j)]) else .bad
 |_=>.bad
def dispD(ks:List Str)(ds:List D)(n:Nat)(h:Hh):Rs D:=match h[n]? with
 |some (.dct [])=>if ds.length=ks.length/\ks.Nodup/\ks.length<=15 then .ok (.ref n) (h.set n (.dct ((ks.map Sum.inr).zip ds))) else .bad
 |_=>.bad
noncomputable def bltD:Blt->List D->Hh->Rs D
 |.len=>one lenL
 |.isinst=>two isinL
 |.int=>one intL
 |.list=>one listL
 |.sorted=>one srtL
 |.all=>one allL
 |.tup=>one tupL
def appD(x y:D)(h:Hh):Rs D:=match x with
 |.ref n=>match h[n]? with
  |some (.lst l)=>if l.length<1000000 then .ok .non (h.set n (.lst (l++ [y]))) else .bad
  |_=>.bad
 |_=>.bad
def insD(x y z:D)(h:Hh):Rs D:=match x,y with
 |.ref n,.int i=>match h[n]? with
  |some (.lst l)=>if 0<=i/\i<=(l.length:Int)/\l.length<1000000 then .ok .non (h.set n (.lst (l.take i.toNat++z::l.drop i.toNat))) else .bad
  |_=>.bad
 |_,_=>.bad
def kyD:Key->D
 |.inl i=>.int i
 |.inr x=>.str x
def sngD(x:D)(n:Nat)(h:Hh):Rs D:=match x,h[n]? with
 |.str z,some (.stt [])=>.ok (.ref n) (h.set n (.stt [z]))
 |_,_=>.bad
def nisD(x y:D)(h:Hh):Rs D:=match x,y with
 |.str z,.ref n=>match h[n]? with
  |some (.stt l)=>.ok (.bl (!decide (z∈l))) h
  |_=>.bad
 |_,_=>.bad
def sadD(x y:D)(h:Hh):Rs D:=match x,y with
 |.ref n,.str z=>match h[n]? with
  |some (.stt l)=>if l.length<=1000 then .ok .non (h.set n (.stt (if z∈l then l else l++ [z]))) else .bad
  |_=>.bad
 |_,_=>.bad
def isSt(x:D)(h:Hh):Bool:=match x with
 |.ref n=>match h[n]? with
  |some (.stt _)=>true
  |_=>false
 |_=>false
def dk1D(x y:D)(n:Nat)(h:Hh):Rs D:=match x,h[n]? with
 |.str z,some (.dct [])=>.ok (.ref n) (h.set n (.dct [(.inr z,y)]))
 |_,_=>.bad
def dcpD(x:D)(h:Hh):Rs D:=match dctAt h x with
 |some l=>.ok (.ref h.length) (h++ [.dct l])
 |none=>.bad
def ldkD(x:D)(h:Hh):Rs D:=match dctAt h x with
 |some l=>.ok (.ref h.length) (h++ [.lst (l.map λp=>kyD p.1)])
 |none=>.bad
def deqP(l:List (Key×D)):List (Key×D)->Option Bool
 | []=>some true
 |p::r=>match valD l p.1,deqP l r with
  |some v,some b=>(eqD 20 p.2 v).map (·&&b)
  |_,_=>none
def deqD(x y:D)(h:Hh):Rs D:=match dctAt h x,dctAt h y with
 |some a,some b=>if a.length=b.length then(match deqP b a with
  |some true=>.ok (.bl true) h
  |_=>.bad) else .bad
 |_,_=>.bad
def compS(t:Tg)(cs:Ev->Hh->Rs Bool)(f:Ev->Hh->Rs D)(n0:Nat):List D->Ev->Hh->Rs Unit
 | [],_,h=>.ok () h
 |d::ds,r,h=>match setT t d r with
  |none=>.bad
  |some r1=>(cs r1 h).bind λb h=>if b=true then(f r1 h).bind λy h=>(appD (.ref n0) y h).bind λ_ h=>compS t cs f n0 ds r1 h else compS t cs f n0 ds r1 h
def compI(t:Tg)(cs:Ev->Hh->Rs Bool)(f:Ev->Hh->Rs D)(n0 n:Nat):Nat->Nat->Ev->Hh->Rs Unit
 |0,_,_,_=>.bad
 |k+1,i,r,h=>match lstAt h n with
  |none=>.bad
  |some l=>match l[i]? with
   |none=>.ok () h
   |some d=>match setT t d r with
    |none=>.bad
    |some r1=>(cs r1 h).bind λb h=>if b=true then(f r1 h).bind λy h=>(appD (.ref n0) y h).bind λ_ h=>compI t cs f n0 n k (i+1) r1 h else compI t cs f n0 n k (i+1) r1 h
def compL(t:Tg)(cs:Ev->Hh->Rs Bool)(f:Ev->Hh->Rs D)(n0:Nat)(k:Ck)(xs:List D)(h0:Hh)(r:Ev)(h:Hh):Rs Unit:=match k,xs with
 |.r1,[.int j]=>if okR j then compS t cs f n0 (rngD 0 j) r h else .bad
 |.r2,[.int i,.int j]=>if okR i/\okR j then compS t cs f n0 (rngD i j) r h else .bad
 |.st,[.str x]=>if x.length<=1000 then compS t cs f n0 (x.cps.toList.map λc=>D.str ⟨#[c]⟩) r h else .bad
 |.itf,[.ref n]=>match h0[n]? with
  |some (.dtf l)=>compS t cs f n0 (l.map λp=>D.tup [.tup (p.1.map D.int),p.2]) r h
  |_=>.bad
 |.its,[.ref n]=>match h0[n]? with
  |some (.dtt l)=>compS t cs f n0 (l.map λp=>D.tup [.tup (p.1.map D.int),p.2]) r (h.set n .ded)
  |_=>.bad
 |.sq,[.tup l]=>compS t cs f n0 l r h
 |.sq,[.ref n]=>match lstAt h0 n with
  |some l=>compI t cs f n0 n (l.length+1) 0 r h
  |none=>.bad
 |_,_=>.bad
def dcS(t2:Tg)(fk fv:Ev->Hh->Rs D)(n0:Nat):List D->Ev->Hh->Rs Ev
 | [],r,h=>.ok r h
 |d::ds,r,h=>match setT t2 d r with
  |none=>.bad
  |some r1=>(fk r1 h).bind λy h=>(fv r1 h).bind λz h=>(dputD n0 y z h).bind λ_ h=>dcS t2 fk fv n0 ds r1 h
def dcI(t1:Tg)(fi:Ev->Hh->Rs D)(t2:Tg)(fk fv:Ev->Hh->Rs D)(n0 n:Nat):Nat->Nat->Ev->Hh->Rs Unit
 |0,_,_,_=>.bad
 |k+1,i,r,h=>match lstAt h n with
  |none=>.bad
  |some l=>match l[i]? with
   |none=>.ok () h
   |some d=>match setT t1 d r with
    |none=>.bad
    |some r1=>(fi r1 h).bind λy h=>match y with
     |.tup ds=>(dcS t2 fk fv n0 ds r1 h).bind λr2 h=>dcI t1 fi t2 fk fv n0 n k (i+1) r2 h
     |_=>.bad
def dcL(t1:Tg)(fi:Ev->Hh->Rs D)(t2:Tg)(fk fv:Ev->Hh->Rs D)(x:D)(r:Ev)(h:Hh):Rs D:=match x with
 |.ref n=>match lstAt h n with
  |some l=>(dcI t1 fi t2 fk fv h.length n (l.length+1) 0 r (h++ [.dct []])).bind λ_ h'=>.ok (.ref h.length) h'
  |none=>.bad
 |_=>.bad
def dputN(n:Nat)(y z:D)(h:Hh):Rs Unit:=match h[n]? with
 |some (.dtt l)=>dputT n l y z h
 |_=>.bad
def dtI(t:Tg)(fk fv:Ev->Hh->Rs D)(n0 n:Nat):Nat->Nat->Ev->Hh->Rs Unit
 |0,_,_,_=>.bad
 |k+1,i,r,h=>match lstAt h n with
  |none=>.bad
  |some l=>match l[i]? with
   |none=>.ok () h
   |some d=>match setT t d r with
    |none=>.bad
    |some r1=>(fk r1 h).bind λy h=>(fv r1 h).bind λz h=>(dputN n0 y z h).bind λ_ h=>dtI t fk fv n0 n k (i+1) r1 h
def dtZ(n:Nat)(h:Hh):Rs D:=match h[n]? with
 |some (.dtt l)=>.ok (.ref n) (h.set n (.dtf l))
 |_=>.bad
def dtL(t:Tg)(fk fv:Ev->Hh->Rs D)(x:D)(r:Ev)(h:Hh):Rs D:=match x with
 |.ref n=>match lstAt h n with
  |some l=>(dtI t fk fv h.length n (l.length+1) 0 r (h++ [.dtt []])).bind λ_ h'=>dtZ h.length h'
  |none=>.bad
 |_=>.bad
def capV(r:Ev)(i:Nat):Option D:=match r[i]? with
 |some x=>x
 |none=>none
def blockE(N:List Str)(cap:List Nat)(r:Ev):Ev:=List.replicate (N.length-cap.length) none++cap.map (capV r)
structure Gs where
 fns:List Str
 csts:List (Str×D)
 excs:List Str:= []
 sub:List (Nat×Nat):= []
 nsub:List (Nat×Nat):= []
 news:List (Str×Nat):= []
 meths:List (Str×Str×Nat):= []
 atts:List (Str×Str):= []
abbrev Cl:=Nat->List D->Hh->Rs D
def attD(cn:Str)(x:D)(f:Str)(h:Hh):Rs D:=match x with
 |.ref n=>match h[n]? with
  |some (.ins c fs)=>if c=cn then(match fs.lookup f with
   |some d=>.ok d h
   |none=>.bad) else .bad
  |_=>.bad
 |_=>.bad
def mthOk(x:D)(cn m:Str)(h:Hh):Bool:=match x with
 |.ref n=>match h[n]? with
  |some (.ins c fs)=>decide (c=cn)&&(fs.lookup m).isNone
  |_=>false
 |_=>false
def putA(f:Str)(y:D):List (Str×D)->List (Str×D)
 | []=>[(f,y)]
 |(g,x)::r=>if g=f then(g,y)::r else(g,x)::putA f y r
def satD(cn:Str)(x y:D)(f:Str)(h:Hh):Rs Unit:=match x with
 |.ref n=>match h[n]? with
  |some (.ins c fs)=>if c=cn/\fs.length<900 then .ok () (h.set n (.ins c (putA f y fs))) else .bad
  |_=>.bad
 |_=>.bad
def newD(cn:Str)(f:List D->Hh->Rs D)(ds:List D)(h:Hh):Rs D:=(f (.ref h.length::ds) (h++ [.ins cn []])).bind λd h'=>match d with
 |.non=>.ok (.ref h.length) h'
 |_=>.bad
mutual
noncomputable def ev(G:Gs)(cl:Cl):E->Ev->Hh->Rs D
 |.var i,r,h=>match r[i]? with
  |some (some d)=>.ok d h
  |_=>.bad
 |.int i,_,h=>.ok (.int i) h
 |.bl b,_,h=>.ok (.bl b) h
 |.non,_,h=>.ok .non h
 |.str x,_,h=>.ok (.str x) h
 |.gc g,_,h=>match G.csts[g]? with
  |some p=>.ok p.2 h
  |none=>.bad
 |.ty t,_,h=>.ok (.ty t.nm) h
 |.bin op a b,r,h=>(ev G cl a r h).bind λx h=>(ev G cl b r h).bind λy h=>binD op x y h
 |.neg a,r,h=>(ev G cl a r h).bind λx h=>match x with
  |.int i=>.ok (.int (-i)) h
  |_=>.bad
 |.cmp op a b,r,h=>(ev G cl a r h).bind λx h=>(ev G cl b r h).bind λy h=>cmpD op x y h
 |.and a b,r,h=>(ev G cl a r h).bind λx h=>match truD x h with
  |some true=>ev G cl b r h
  |some false=>.ok x h
  |none=>.bad
 |.or a b,r,h=>(ev G cl a r h).bind λx h=>match truD x h with
  |some true=>.ok x h
  |some false=>ev G cl b r h
  |none=>.bad
 |.not a,r,h=>(ev G cl a r h).bind λx h=>match truD x h with
  |some b=>.ok (.bl (!b)) h
  |none=>.bad
 |.ite c a b,r,h=>(ev G cl c r h).bind λx h=>match truD x h with
  |some true=>ev G cl a r h
  |some false=>ev G cl b r h
  |none=>.bad
 |.ix a b,r,h=>(ev G cl a r h).bind λx h=>(ev G cl b r h).bind λy h=>ixD x y h
 |.tup l,r,h=>(evs G cl l r h).bind λds h=>if ds.length<=1000 then .ok (.tup ds) h else .bad
 |.lst l,r,h=>(evs G cl l r h).bind λds h=>if ds.length<=1000 then .ok (.ref h.length) (h++ [.lst ds]) else .bad
 |.call f l,r,h=>(evs G cl l r h).bind λds h=>(cl f ds h).nx
 |.blt f l,r,h=>(evs G cl l r h).bind λds h=>bltD f ds h
 |.app o e,r,h=>(ev G cl o r h).bind λx h=>if isLst x h=true then(ev G cl e r h).bind λy h=>appD x y h else .bad
 |.ins o i e,r,h=>(ev G cl o r h).bind λx h=>if isLst x h=true then(ev G cl i r h).bind λy h=>(ev G cl e r h).bind λz h=>insD x y z h else .bad
 |.mxd mx l d,r,h=>(ev G cl l r h).bind λx h=>(ev G cl d r h).bind λy h=>bestD mx x y h
 |.lrg e,r,h=>(ev G cl e r h).bind λx h=>lrgD x h
 |.disp ks vs,r,h=>(evs G cl vs r (h++ [.dct []])).bind λds h'=>dispD ks ds h.length h'
 |.dnw,_,h=>.ok (.ref h.length) (h++ [.dct []])
 |.slU a b,r,h=>(ev G cl a r h).bind λx h=>(ev G cl b r h).bind λy h=>slUD x y h
 |.slL a b,r,h=>(ev G cl a r h).bind λx h=>(ev G cl b r h).bind λy h=>slLD x y h
 |.att o cn f,r,h=>(ev G cl o r h).bind λx h=>attD cn x f h
 |.new cn f l,r,h=>(evs G cl l r h).bind λds h=>(newD cn (cl f) ds h).nx
 |.slA a b,r,h=>(ev G cl a r h).bind λx h=>(ev G cl b r h).bind λy h=>slAD x y h
 |.slZ a b,r,h=>(ev G cl a r h).bind λx h=>(ev G cl b r h).bind λy h=>slZD x y h
 |.slT a b,r,h=>(ev G cl a r h).bind λx h=>(ev G cl b r h).bind λy h=>slTD x y h
 |.mth o cn m f l,r,h=>(ev G cl o r h).bind λx h=>if mthOk x cn m h=true then(evs G cl l r h).bind λds h=>(cl f (x::ds) h).nx else .bad
 |.chn op op' a b c,r,h=>(ev G cl a r h).bind λx h=>(ev G cl b r h).bind λy h=>(cmpD op x y h).bind λp h=>match p with
  |.bl true=>(ev G cl c r h).bind λz h=>cmpD op' y z h
  |.bl false=>.ok (.bl false) h
  |_=>.bad
 |.rev o,r,h=>(ev G cl o r h).bind λx h=>revD x h
 |.dcT t i k v N cap,r,h=>(ev G cl i r h).bind λx h=>dtL t (ev G cl k) (ev G cl v) x (blockE N cap r) h
 |.dnt,_,h=>.ok (.ref h.length) (h++ [.dtt []])
 |.get2 o k d,r,h=>(ev G cl o r h).bind λx h=>if(dctAt h x).isSome=true then(ev G cl k r h).bind λy h=>(ev G cl d r h).bind λz h=>get2D x y z h else .bad
 |.join s e,r,h=>(ev G cl e r h).bind λx h=>joinD s x h
 |.sng a,r,h=>(ev G cl a r (h++ [.stt []])).bind λx h1=>sngD x h.length h1
 |.nis a o,r,h=>(ev G cl a r h).bind λx h=>(ev G cl o r h).bind λy h=>nisD x y h
 |.sad o a,r,h=>(ev G cl o r h).bind λx h=>if isSt x h=true then(ev G cl a r h).bind λy h=>sadD x y h else .bad
 |.dk1 k v,r,h=>(ev G cl k r (h++ [.dct []])).bind λx h1=>(ev G cl v r h1).bind λy h2=>dk1D x y h.length h2
 |.dcp a,r,h=>(ev G cl a r h).bind λx h=>dcpD x h
 |.ldk a,r,h=>(ev G cl a r h).bind λx h=>ldkD x h
 |.deq a b,r,h=>(ev G cl a r h).bind λx h=>(ev G cl b r h).bind λy h=>deqD x y h
 |.dcomp t1 i1 t2 i2 k v N cap,r,h=>(ev G cl i1 r h).bind λx h=>dcL t1 (ev G cl i2) t2 (ev G cl k) (ev G cl v) x (blockE N cap r) h
 |.comp t k it cs e N cap,r,h=>(evs G cl it r h).bind λxs h=>(compL t (evt G cl cs) (ev G cl e) h.length k xs h (blockE N cap r) (h++ [.lst []])).bind λ_ h'=>.ok (.ref h.length) h'
noncomputable def evt(G:Gs)(cl:Cl):Es->Ev->Hh->Rs Bool
 |.nil,_,h=>.ok true h
 |.cons c l,r,h=>(ev G cl c r h).bind λx h=>match truD x h with
  |some true=>evt G cl l r h
  |some false=>.ok false h
  |none=>.bad
noncomputable def evs(G:Gs)(cl:Cl):Es->Ev->Hh->Rs (List D)
 |.nil,_,h=>.ok [] h
 |.cons e l,r,h=>(ev G cl e r h).bind λd h=>(evs G cl l r h).bind λds h=>.ok (d::ds) h
end
def visB(sc:Scope)(x:Str):Bool:=match sc.names.lookup x with
 |some .local=>true
 |some .cell=>true
 |some .free=>true
 |_=>false
def locB(sc:Scope)(x:Str):Bool:=match sc.names.lookup x with
 |some .local=>true
 |some .cell=>true
 |_=>false
def glB(sc:Scope)(x:Str):Bool:=match sc.names.lookup x with
 |some .globalImplicit=>true
 |_=>false
def noDbg(x:Str):Bool:= !(x==("__debug__":Str))&& !(x==("__classdict__":Str))&& !(x==("__name__":Str))
def Bop.op:Bop->Operator
 |.add=>.Add|.sub=>.Sub|.mul=>.Mult|.fdiv=>.FloorDiv|.mod=>.Mod|.pow=>.Pow
def Cop.op:Cop->CmpOp
 |.lt=>.Lt|.le=>.LtE|.gt=>.Gt|.ge=>.GtE|.eq=>.Eq|.ne=>.NotEq|.is=>.Is|.isnot=>.IsNot|.inn=>.In|.notin=>.NotIn
def Blt.nm:Blt->Str
 |.len=>"len"|.isinst=>"isinstance"|.int=>"int"|.list=>"list"|.sorted=>"sorted"|.all=>"all"|.tup=>"tuple"
def noSet:PySem.Expr->Bool
 |.Set _ _ _=>false
 |_=>true
def noStar:PySem.Expr->Bool
 |.Starred _ _=>false
 |_=>true
def relab(scope sc:Scope):Scope:={scope with names:=scope.names.map λ(n,k)=>if(k== .free&&sc.kind== .function&&sc.names.lookup n==some .cell) then(n,.cell) else(n,k)}
def chkNs'(N:List Str)(sc:Scope):List Nat->List PySem.Expr->Bool
 | [],[]=>true
 |i::is,.Name x _::es=>N[i]? ==some x&&locB sc x&&chkNs' N sc is es
 |_,_=>false
def chkT'(N:List Str)(sc:Scope):Tg->PySem.Expr->Bool
 |.nm i,.Name x _=>N[i]? ==some x&&locB sc x
 |.tp l,.Tuple es _ _=>chkNs' N sc l es
 |_,_=>false
def nodupB:List Str->Bool
 | []=>true
 |x::l=> !l.contains x&&nodupB l
def scOk(scope sc:Scope):Bool:=scope.kind== .function&&sc.kind== .function&&nodupB (scope.names.map (·.1))&&scope.names.all λp=>(!(p.2== .local)||scope.names.lookup p.1==some .local)&&(!(p.2== .free)||sc.names.lookup p.1==some .cell)
def capOk(N N':List Str)(cap:List Nat)(scope:Scope):Bool:=decide (cap.length<=N'.length)&&(N'.drop (N'.length-cap.length)).map some==cap.map (λ(i:Nat)=>N[i]?)&&(N'.drop (N'.length-cap.length)).all λx=>scope.names.lookup x==some .free
end Ng
end
section
namespace Ng
open PySem PySem.Spec PyProof.Rows L2
section
variable {prog:Program}{w:World}{A:Around}{E:Value->Shared->Prop}{s:Shared}{it d:Addr}{i n ep:Nat}{q1 q2:Value}{od:Obj}{es:Array DictEntry}
theorem zzd:Builtin.Dict_items.ownsTuple "dict_itemiterator"=true:=by decide
theorem itm_iter{v:Addr}{ov:Obj}{Q:Value->Shared->Prop}(gv:s.heap.get? v=some ov)(cv:ov.cls=.type "dict_items")(dv:ov.data=.fields #[.ref d])(go:s.heap.get? d=some od)(gd:od.data=.dict es ep)
 (c:Q (.ref s.heap.objs.size) {s with heap:=s.heap.push {cls:=.type "dict_itemiterator",data:=.fields #[.none,.bool false,.ref d,.int 0 0,.int es.size 0,.int ep 0,.none,.none]}}):wpAny (model prog w) A (pyIter (.ref v)) Q E s:=by
 have tv:s.TypeIs (.ref v) "dict_items":=⟨ov,gv,cv⟩
 refine wpAny_pyIter_slot tv F.slot_dict_items_iter (wpAny_call_entry F.slot_dict_items_iter tv F.entry_dict_items_iter ?_ (F.args_dict_items_iter_1 _))
 unfold Builtin.«dict_items.__iter__»
 refine wpAny_bind (wpAny_pure (wpAny_bind ?_))
 unfold Builtin.Dict_items.dictOf
 refine wpAny_bind (wpAny_field gv dv (x:=.ref d) rfl (wpAny_pure (wpAny_bind ?_)))
 unfold Builtin.Dict_items.newIterator
 refine wpAny_bind (wpAny_dictEntries go gd (wpAny_bind (wpAny_dictEpoch go gd ?_)))
 simp only[zzd,if_true]
 refine wpAny_newObj_type (wpAny_pure ⟨_,rfl,"dict_itemiterator",_,⟨_,Heap.get?_push_size _ rfl,rfl⟩,F.slot_dict_itemiterator_next.lookup,?_⟩)
  (by simp only[sizeOk,Builtin.Dict_items.ownedTupleFields,List.size_toArray,List.length_append,List.length_cons,List.length_nil,sizeLine_eq];omega)
 simpa [rawInt,Builtin.Dict_items.ownedTupleFields] using c
theorem itm_next{en:DictEntry}{Q:Option Value->Shared->Prop}(hit:IsItemIter s.heap it d i n ep q1 q2)(go:s.heap.get? d=some od)(gd:od.data=.dict es ep)(hn:es.size=n)(hx:es[i]? =some en)
 (c:∀g,IsItemIterOut g it d (i+1) n ep en.key en.val s.heap.objs.size->g.get? s.heap.objs.size=some {cls:=.type "tuple",data:=.seq #[en.key,en.val]}->g.objs.size=s.heap.objs.size+1->
   (∀b o,b≠it->s.heap.get? b=some o->g.get? b=some o)->Q (some (.ref s.heap.objs.size)) {s with heap:=g}):wpAny (model prog w) A (pyNext (.ref it)) Q E s:=by
 obtain⟨hp,gn,dr,tk,os⟩:=s
 have T0:Shared.TypeIs ⟨hp,gn,dr,tk,os⟩ (.ref it) "dict_itemiterator":=⟨_,hit,rfl⟩
 unfold pyNext
 refine wpAny_bind (wpAny_attempt (wpAny_callSpecial?_slot (name:=Str.ofString "__next__") T0 F.slot_dict_itemiterator_next (wpAny_call_entry F.slot_dict_itemiterator_next T0 F.entry_dict_itemiterator_next ?_ (F.args_dict_itemiterator_next_1 _))))
 refine wpAny_bind (wpAny_pure (wpAny_bind (wpAny_bind ?_)))
 first |refine wpAny_bind (wpAny_typeNameOfWhole_itemiter T0 (wpAny_pure ?_))|refine wpAny_bind (wpAny_typeNameOf_itemiter T0 (wpAny_pure ?_))
 refine wpAny_bind (wpAny_fieldsOf hit rfl ?_)
 simp only[zzd,if_true]
 show wpAny _ _ (if(Value.ref d==Value.none)=true then _ else _) _ _ _
 rw[if_neg (show ¬((Value.ref d==Value.none)=true) from Bool.false_ne_true)]
 refine wpAny_bind (wpAny_pure (wpAny_bind (wpAny_dictEntries go gd ?_)))
 rw[if_neg (by rw[hn];simp)]
 refine wpAny_bind (wpAny_pure (wpAny_bind (wpAny_dictEpoch go gd ?_)))
 rw[if_neg (by simp)]
 refine wpAny_pure ?_
 have lt:i<es.size:=(Array.getElem?_eq_some_iff.mp hx).1
 have ee:es[i]=en:=(Array.getElem?_eq_some_iff.mp hx).2
 simp only[show ¬((i:Int)<0) from by omega,if_false,Int.toNat_natCast,hx]
 refine wpAny_bind ?_
 first |refine wpAny_bind (wpAny_typeNameOfWhole_itemiter T0 (wpAny_pure ?_))|refine wpAny_bind (wpAny_typeNameOf_itemiter T0 (wpAny_pure ?_))
 refine wpAny_bind (wpAny_isOneOf_itemiter T0 ?_)
 show wpAny _ _ (setField (.ref it) 3 (rawInt ((i:Int)+1))>>=_) _ _ ⟨hp,gn,dr,tk,os⟩
 refine wpAny_bind (wpAny_setField_rec hit (by simp) λa1 e1 s1=>?_)
 replace s1:Heap.SameBut it hp a1:=s1
 replace e1:IsItemIter a1 it d (i+1) n ep q1 q2:=by
  have z:((i+1:Nat):Int)=(i:Int)+1:=by omega
  unfold IsItemIter;rw[z];simpa [rawInt] using e1
 have T1:Shared.TypeIs ⟨a1,gn,dr,tk,os⟩ (.ref it) "dict_itemiterator":=⟨_,e1,rfl⟩
 refine wpAny_bind (wpAny_holding (wpAny_bind (wpAny_isOneOf_itemiter T1 (wpAny_bind (wpAny_isOneOf_itemiter T1 ?_)))))
 show wpAny _ _ (Builtin.Dict_items.pairFromOwner (.ref it) 6 en.key en.val) _ _ ⟨a1,gn,dr,tk,os⟩
 unfold Builtin.Dict_items.pairFromOwner
 refine wpAny_bind (wpAny_newTuple ?_)
 have e2:IsItemIter (a1.push {cls:=.type "tuple",data:=.seq #[en.key,en.val]}) it d (i+1) n ep q1 q2:=Heap.get?_push_of_some _ e1
 generalize h2:a1.push {cls:=.type "tuple",data:=.seq #[en.key,en.val]}=a2 at e2
 have z1:a1.objs.size=hp.objs.size:=s1.1
 have il:it<hp.objs.size:=Heap.lt_size hit
 have t2:a2.get? hp.objs.size=some {cls:=.type "tuple",data:=.seq #[en.key,en.val]}:=by rw[<- h2, <- z1];exact Heap.get?_push_size _ rfl
 have z2:a2.objs.size=hp.objs.size+1:=by rw[<- h2,Heap.size_push,z1]
 have k2:∀b o,b≠it->hp.get? b=some o->a2.get? b=some o:=λb o hb e=>by rw[<- h2];exact Heap.get?_push_of_some _ (s1.extBut b o hb e)
 show wpAny _ _ (Builtin.Dict_items.ownedTupleIsFree (.ref it)>>=_) _ _ ⟨a2,gn,dr,tk,os⟩
 rw[z1]
 clear h2 e1 s1 T1 z1 a1
 refine wpAny_bind ?_
 unfold Builtin.Dict_items.ownedTupleIsFree
 refine wpAny_bind (wpAny_field e2 rfl (x:=.none) rfl (wpAny_pure ?_))
 simp only[if_true]
 refine wpAny_bind (wpAny_field e2 rfl (x:=q1) rfl (wpAny_bind (wpAny_field e2 rfl (x:=q2) rfl ?_)))
 refine wpAny_bind (wpAny_setField_rec e2 (by simp) λa3 e3 s3=>?_)
 replace s3:Heap.SameBut it a2 a3:=s3
 replace e3:IsItemIter a3 it d (i+1) n ep en.key q2:=e3
 refine wpAny_bind (wpAny_setField_rec e3 (by simp) λa4 e4 s4=>?_)
 replace s4:Heap.SameBut it a3 a4:=s4
 replace e4:IsItemIter a4 it d (i+1) n ep en.key en.val:=e4
 refine wpAny_bind (wpAny_setField_rec e4 (by simp) λa5 e5 s5=>?_)
 replace s5:Heap.SameBut it a4 a5:=s5
 replace e5:IsItemIterOut a5 it d (i+1) n ep en.key en.val hp.objs.size:=e5
 refine wpAny_bind (wpAny_setField_rec e5 (by simp) λa6 e6 s6=>?_)
 replace s6:Heap.SameBut it a5 a6:=s6
 replace e6:IsItemIterOut a6 it d (i+1) n ep en.key en.val hp.objs.size:=e6
 refine wpAny_bind (wpAny_letGo (wpAny_pure (wpAny_pure ⟨_,rfl,wpAny_pure (c a6 e6 ?_ ?_ ?_)⟩)))
 ·exact s6.extBut _ _ (Nat.ne_of_gt il) (s5.extBut _ _ (Nat.ne_of_gt il) (s4.extBut _ _ (Nat.ne_of_gt il) (s3.extBut _ _ (Nat.ne_of_gt il) t2)))
 ·show a6.objs.size=hp.objs.size+1
  rw[s6.1,s5.1,s4.1,s3.1,z2]
 ·exact λb o hb e=>s6.extBut b o hb (s5.extBut b o hb (s4.extBut b o hb (s3.extBut b o hb (k2 b o hb e))))
theorem itm_end{Q:Option Value->Shared->Prop}(hh:A.handled=none)(hit:IsItemIter s.heap it d i n ep q1 q2)(go:s.heap.get? d=some od)(gd:od.data=.dict es ep)(hn:es.size=n)(hx:n<=i)
 (c:∀g,Heap.ExtBut it s.heap g->Q none {s with heap:=g}):wpAny (model prog w) A (pyNext (.ref it)) Q E s:=by
 have T0:s.TypeIs (.ref it) "dict_itemiterator":=⟨_,hit,rfl⟩
 unfold pyNext
 refine wpAny_bind (wpAny_attempt (wpAny_callSpecial?_slot (name:=Str.ofString "__next__") T0 F.slot_dict_itemiterator_next (wpAny_call_entry F.slot_dict_itemiterator_next T0 F.entry_dict_itemiterator_next ?_ (F.args_dict_itemiterator_next_1 _))))
 refine wpAny_bind (wpAny_pure (wpAny_bind (wpAny_bind ?_)))
 first |refine wpAny_bind (wpAny_typeNameOfWhole_itemiter T0 (wpAny_pure ?_))|refine wpAny_bind (wpAny_typeNameOf_itemiter T0 (wpAny_pure ?_))
 refine wpAny_bind (wpAny_fieldsOf hit rfl ?_)
 simp only[zzd,if_true]
 show wpAny _ _ (if(Value.ref d==Value.none)=true then _ else _) _ _ s
 rw[if_neg (show ¬((Value.ref d==Value.none)=true) from Bool.false_ne_true)]
 refine wpAny_bind (wpAny_pure (wpAny_bind (wpAny_dictEntries go gd ?_)))
 rw[if_neg (by rw[hn];simp)]
 refine wpAny_bind (wpAny_pure (wpAny_bind (wpAny_dictEpoch go gd ?_)))
 rw[if_neg (by simp)]
 refine wpAny_pure ?_
 have ge:es.size<=i:=by omega
 simp only[show ¬((i:Int)<0) from by omega,if_false,Int.toNat_natCast,Array.getElem?_eq_none ge]
 refine wpAny_bind ?_
 first |refine wpAny_bind (wpAny_typeNameOfWhole_itemiter T0 (wpAny_pure ?_))|refine wpAny_bind (wpAny_typeNameOf_itemiter T0 (wpAny_pure ?_))
 show wpAny _ _ (setField (.ref it) 2 .none>>=_) _ _ s
 refine wpAny_bind (wpAny_setField hit rfl (by simp) ?_)
 show wpAny _ _ (newExc (.type "StopIteration") []>>=_) _ _ _
 refine wpAny_bind ?_
 simp only[newExc,newTuple]
 refine wpAny_bind (wpAny_newObj_type ?_ (by size_fits))
 refine wpAny_bind (m:=firstArgMember _ _) (wpAny_of_eq (a:=Value.none) (by first |rfl|(simp only[firstArgMember];rfl)) ?_)
 refine wpAny_newObj_type ?_ (by size_fits)
 simp only[raiseNew]
 refine wpAny_bind (wpAny_handled ?_)
 rw[show A.in1.handled=none from hh]
 refine wpAny_bind (wpAny_pure (wpAny_throw ?_))
 refine wpAny_bind (wpAny_isInstance (T:="StopIteration") (b:=true) ⟨_,Heap.get?_push_size _ rfl,rfl⟩ isSubtype_stop ?_)
 exact wpAny_pure (c _ (((Heap.SameBut.update ..).extBut.push _).push _))
end
theorem vzt(P P':Program)(w w':World):entryOfKey (tupleKind (intKind P w))=entryOfKey (tupleKind (intKind P' w')):=rfl
theorem itemsI{P:Program}{w:World}:∀{ks:List Int}{us:List Value},Vals (ks.map V.int) us->ItemsAre (intKind P w) ks us
 | [],_,.nil=>.nil
 |k::ks,_,.cons h t=>by
  obtain⟨tk,rfl⟩:=h
  exact .cons (by show Value.isInt k (.int k tk)=true;simp[Value.isInt]) (itemsI t)
section
variable {X:Cx}{pins:List (Addr×Obj)}{σ:Sg}{H:Hp}{s:Shared}
theorem keyI(I:Inv X pins σ H s){b:Addr}{k:List Int}(h:SqT X.K H b (k.map V.int)):(tupleKind (intKind X.prog X.w)).is s.heap k b:=by
 obtain⟨its,p,t,_⟩:=I.tuple h
 obtain⟨o,h1,h2,n,h3⟩:=t
 exact⟨o,its.toArray,n,h1,h2,h3,by simpa using itemsI p⟩
theorem wzP{xs:List (List Int×Addr×Value)}{k:List Int}:(atKey xs k).isSome=xs.any λx=>decide (x.1=k):=by
 induction xs with
 |nil=>rfl
 |cons x xs ih=>
  by_cases e:x.1=k
  ·simp[atKey,List.find?_cons,e]
  ·have:atKey (x::xs) k=atKey xs k:=by simp[atKey,List.find?_cons,e]
   rw[this,ih];simp[e]
theorem qzY{α:Type}{l:List (List Int×α)}{xs:List (List Int×Addr×Value)}{k:List Int}(h:l.map (·.1)=xs.map (·.1)):l.any (λkv=>decide (kv.1=k))=xs.any λx=>decide (x.1=k):=by
 have a:l.any (λkv=>decide (kv.1=k))=(l.map (·.1)).any λy=>decide (y=k):=by rw[List.any_map];rfl
 have b:(xs.any λx=>decide (x.1=k))=(xs.map (·.1)).any λy=>decide (y=k):=by rw[List.any_map];rfl
 rw[a,b,h]
theorem vzd(k:List Int):∀l:List (List Int×D),(valT l k).isSome=l.any λkv=>decide (kv.1=k)
 | []=>rfl
 |p::l=>by
  have ih:=vzd k l
  unfold valT at ih⊢
  rw[List.find?_cons,List.any_cons]
  by_cases e:p.1=k
  ·rw[decide_eq_true e];rfl
  ·rw[decide_eq_false e];simpa using ih
theorem vzc{K:PySem.W.Frag}{m:List Addr}{k:List Int}{d:D}:∀{ds:List (List Int×D)}{xs:List (List Int×Addr×Value)}{us:List V},ds.map (·.1)=xs.map (·.1)->RDs K m H (ds.map (·.2)) us->Vals us (xs.map (·.2.2))->valT ds k=some d->∃v p,RD K m H d v/\atKey xs k=some p/\RelV v p.2
 | [],_,_,_,_,_,e=>by cases e
 |_::_,[],_,h,_,_,_=>by cases h
 |q::ds,x::xs,us,h,r,p,e=>by
  cases r with
  |cons r1 r=>
   cases p with
   |cons p1 p=>
    obtain⟨h1,h2⟩:=List.cons.inj (show q.1::ds.map (·.1)=x.1::xs.map (·.1) from h)
    unfold valT at e
    rw[List.find?_cons] at e
    by_cases z:q.1=k
    ·rw[decide_eq_true z] at e
     have e':q.2=d:=Option.some.inj e
     subst e'
     have z':x.1=k:=by rw[<- h1];exact z
     exact⟨_,x.2,r1,by simp[atKey,List.find?_cons,z'],p1⟩
    ·rw[decide_eq_false z] at e
     have z':¬x.1=k:=by rw[<- h1];exact z
     have:atKey (x::xs) k=atKey xs k:=by simp[atKey,List.find?_cons,z']
     rw[this]
     exact vzc h2 r p e
theorem qzE{K:PySem.W.Frag}{m:List Addr}:∀{ds:List D}{vs:List V}{l:List Int},RDs K m H ds vs->intsK ds=some l->vs=l.map V.int
 |_,_,_,.nil,e=>by cases e;rfl
 |_,_,_,.cons r t,e=>by
  cases r<;>first |(cases e;done)|skip
  simp only[intsK,Option.map_eq_some_iff] at e
  obtain⟨l',e1,rfl⟩:=e
  rw[qzE t e1]
  rfl
theorem zzF(I:Inv X pins σ H s){m:List Addr}{h:Hh}(w:Wd X.K m h H){x:D}{v:V}{l:List (List Int×D)}(r:RD X.K m H x v)(e:dtfAt h x=some l):
 ∃n a xs us o es ep,x=.ref n/\v=.ref a/\h[n]? =some (.dtf l)/\m[n]? =some a/\H a=some (.frz o (.own a))/\Dfo a xs o es ep/\s.heap.get? a=some o/\l.map (·.1)=xs.map (·.1)/\(∀x∈xs,SqT X.K H x.2.1 (x.1.map V.int))/\RDs X.K m H (l.map (·.2)) us/\Vals us (xs.map (·.2.2))/\s.heap.DictOfH (tupleKind (intKind X.prog X.w)) a xs:=by
 cases r<;>first |(cases e;done)|skip
 rename_i n a ha
 simp only[dtfAt] at e
 split at e
 ·rename_i l' el
  cases e
  obtain⟨xs,us,o,es,ep,q1,q2,q3,q4,q5,q6⟩:RO X.K m H a (.dtf l):=w.ob n _ a el ha
  have go:s.heap.get? a=some o:=(show ObjOk X.prog X.w H s.heap a (.frz o (.own a)) from I.hok a _ q1).1
  obtain⟨d1,d2,d3,d4,⟨P,w',d5⟩,d6⟩:=id q2
  exact⟨n,a,xs,us,o,es,ep,rfl,rfl,el,ha,q1,q2,go,q3,q4,q5,q6,o,es,ep,go,d3,d4,d5.trans (by rw[vzt P X.prog w' X.w]),λx hx=>keyI I (q4 x hx),d6⟩
 ·cases e
theorem vzM{prog:Program}{w:World}(d:Addr)(hd:(d==sysModules)=false):MeetsIn prog w (Builtin.«dict.__len__» ⟨[.ref d],[]⟩) (λ_ R s=>∃o es ep,s.heap.get? d=some o/\o.data=.dict es ep/\R (.ok (.ret (.int es.size s.toks))) {s with toks:=s.toks+1}):=
 .of_wp λA R s ⟨o,es,ep,ho,hdat,h⟩=>by
  show wpAny _ _ (dictSize d>>=_) _ _ s
  unfold dictSize
  refine wpAny_bind (wpAny_bind (wpAny_dictEntries ho hdat (wpAny_pure ?_)))
  show wpAny _ _ (Builtin.Dict.pendingCount d>>=_) _ _ s
  refine wpAny_bind (wpAny_pendingCount_other hd (wpAny_ret_mkInt ?_))
  rw[Nat.add_zero];exact h
theorem zz0{prog:Program}{w:World}{A:Around}{E:Value->Shared->Prop}{s:Shared}{d:Addr}{o:Obj}{es:Array DictEntry}{ep:Nat}{Q:Value->Shared->Prop}(hd:(d==sysModules)=false)(ho:s.heap.get? d=some o)(hx:o.ExactDict)(hdat:o.data=.dict es ep)(hfit:(es.size:Int)<2^63)
 (h:Q (.int es.size (s.toks+1)) {s with toks:=s.toks+1+1}):wpAny (model prog w) A (call (.builtin "len") [.ref d]) Q E s:=by
 have ty:s.TypeIs (.ref d) "dict":=⟨o,ho,hx.1⟩
 refine Calls.call_function_entry kind_len plain_len entry_len (args_len1 _) ?_
 unfold Builtin.«len»
 refine wpAny_bind (m:=oneArg "len" _) (wpAny_pure ?_)
 refine wpAny_bind (m:=callSpecial? (.ref d) (Str.ofString "__len__")) (wpAny_callSpecial?_slot (name:=Str.ofString "__len__") ty F.slot_dict_len (call_meetsIn F.slot_dict_len ty F.entry_dict_len (F.args_dict_len_1 _) (vzM d hd) ⟨o,es,ep,ho,hdat,?_⟩))
 show wpAny _ _ _ _ _ {s with toks:=s.toks+1}
 refine wpAny_bind (wpAny_holding (wpAny_pure (wpAny_bind (wpAny_letGo ?_))))
 show wpAny _ _ (if((es.size:Nat):Int)<0 then _ else _) _ _ _
 rw[if_neg (by omega)]
 show wpAny _ _ (if((es.size:Nat):Int) ≥ 2^63 then _ else _) _ _ _
 rw[if_neg (by omega)]
 exact wpAny_bind (wpAny_mkInt (wpAny_pure ⟨_,rfl,h⟩))
end
inductive CT (A:Around) (s:Shared) (x:Value):List Value->Bool->Prop where
 |nil:CT A s x [] false
 |hit {y:Value} {ys:List Value} (h:SeqAt.EqAt A s y x true):CT A s x (y::ys) true
 |mis {y:Value} {ys:List Value} {b:Bool} (h:SeqAt.EqAt A s y x false) (r:CT A s x ys b):CT A s x (y::ys) b
section
open PySem.SeqAt
open PySem.AutoSeq1 (wpAny_loadPart')
open PySem.MeetsSeq PySem.MeetsSeq2 PySem.MeetsSeq3
theorem ct_loop(l:Addr)(items:Array Value)(n:Nat)(dd:Option Addr)(sl:Array (Option Value))(x:Value){b:Bool}:∀(m i:Nat),items.size-i=m->Meets (Builtin.«list.__contains__.loop» ⟨[.ref l,x,rawInt i],[]⟩)
 (λA R s=>s.heap.get? l=some {cls:=.type "list",dict:=dd,data:=.seq items n,slots:=sl}/\CT A.in1 s x (items.toList.drop i) b/\R (.ok (.ret (.bool b))) s):=by
 intro m
 induction m with
 |zero=>
  intro i hk prog w A R s h
  obtain⟨hp,g,d,tk,os⟩:=s;obtain⟨hl,hf,h⟩:=h
  wp_walk using wpAny_loadPart' hl
  have hi:items[((i:Nat):Int).toNat]? =none:=by simp;omega
  have hd:items.toList.drop i=[]:=by simp;omega
  rw[hd] at hf
  cases hf
  rw[hi]
  wp_walk
  exact h
 |succ m ih=>
  intro i hk prog w A R s h
  obtain⟨hp,g,d,tk,os⟩:=s;obtain⟨hl,hf,h⟩:=h
  have lt:i<items.size:=by omega
  have d1:items.toList.drop i=items[i]::items.toList.drop (i+1):=by rw[List.drop_eq_getElem_cons (by simpa using lt)];simp
  have hi:items[((i:Nat):Int).toNat]? =some items[i]:=by simp[lt]
  have hc:((i:Int)+1)=((i+1:Nat):Int):=by push_cast;rfl
  wp_walk using wpAny_loadPart' hl
  rw[hi]
  rw[d1] at hf
  cases hf with
  |hit he=>
   refine wpAny_bind (he prog w _ _ ?_)
   wp_walk
   exact h
  |mis he r=>
   refine wpAny_bind (he prog w _ _ ?_)
   wp_walk
   rw[hc]
   exact⟨plainId_quiet plain_contains_loop _,codeAny_builtin entry_contains_loop (by
    rw[Around.under_plainId plain_contains_loop _]
    exact ih (i+1) (by omega) prog w A R _ ⟨hl,r,h⟩)⟩
theorem ct_list(l:Addr)(items:Array Value)(n:Nat)(dd:Option Addr)(sl:Array (Option Value))(x:Value){b:Bool}:Meets (Builtin.«list.__contains__» ⟨[.ref l,x],[]⟩)
 (λA R s=>s.heap.get? l=some {cls:=.type "list",dict:=dd,data:=.seq items n,slots:=sl}/\CT A.in1 s x items.toList b/\R (.ok (.ret (.bool b))) s):=by
 intro prog w A R s h
 obtain⟨hp,g,d,tk,os⟩:=s;obtain⟨hl,hf,h⟩:=h
 wp_walk using wpAny_loadPart' hl
 exact⟨plainId_quiet plain_contains_loop _,codeAny_builtin entry_contains_loop (by
  rw[Around.under_plainId plain_contains_loop _]
  exact ct_loop l items n dd sl x _ 0 rfl prog w A R _ ⟨hl,by simpa using hf,h⟩)⟩
end
end Ng
end
section
namespace Ng
open PySem PySem.Spec PyProof.Rows L2
def TDE(K:PySem.W.Frag)(f:Ev->Hh->Rs D):TE:=λs H Q=>∃m r h d h',Wd K m h H/\RSt K m H r s/\f r h=.ok d h'/\
 ∀m' v H',Gr K m H m' H'->Wd K m' h' H'->RD K m' H' d v->Q v H'
def TDT(K:PySem.W.Frag)(f:Ev->Hh->Rs D):TT:=λs H Q=>∃m r h d h' b,Wd K m h H/\RSt K m H r s/\f r h=.ok d h'/\truD d h'=some b/\
 ∀m' H',Gr K m H m' H'->Wd K m' h' H'->Q b H'
def TDA(K:PySem.W.Frag)(f:Ev->Hh->Rs (List D)):TA:=λs H Q=>∃m r h ds h',Wd K m h H/\RSt K m H r s/\f r h=.ok ds h'/\
 ∀m' vs H',Gr K m H m' H'->Wd K m' h' H'->RDs K m' H' ds vs->Q vs H'
def rD(K:PySem.W.Frag)(k:D->D->Hh->Rs D):R2:=λx y H Q=>∃m h dx dy d h',Wd K m h H/\RD K m H dx x/\RD K m H dy y/\k dx dy h=.ok d h'/\
 ∀m' v H',Gr K m H m' H'->Wd K m' h' H'->RD K m' H' d v->Q v H'
def rDc(K:PySem.W.Frag)(k:List D->Hh->Rs D):List V->Hp->VK->Prop:=λxs H Q=>∃m h ds d h',Wd K m h H/\RDs K m H ds xs/\k ds h=.ok d h'/\
 ∀m' v H',Gr K m H m' H'->Wd K m' h' H'->RD K m' H' d v->Q v H'
theorem _root_.L2.PE.wk{X:Cx}{e:PySem.Expr}{t t':TE}(h:PE X e t)(i:∀s H Q,t' s H Q->t s H Q):PE X e t':=λpins s σ H Q I q=>h pins s σ H Q I (i _ _ _ q)
theorem _root_.L2.PT.wk{X:Cx}{e:PySem.Expr}{t t':TT}(h:PT X e t)(i:∀s H Q,t' s H Q->t s H Q):PT X e t':=λpins s σ H Q I q=>h pins s σ H Q I (i _ _ _ q)
theorem _root_.L2.PA.wk{X:Cx}{e:List PySem.Expr}{t t':TA}(h:PA X e t)(i:∀s H Q,t' s H Q->t s H Q):PA X e t':=λpos pins s σ H Q I q=>h pos pins s σ H Q I (i _ _ _ q)
theorem TDE.two{K:PySem.W.Frag}{fa fb:Ev->Hh->Rs D}{k:D->D->Hh->Rs D}{s:Sg}{H:Hp}{R:V->V->Hp->Prop}{m:List Addr}{r:Ev}{h:Hh}{d:D}{h':Hh}(w:Wd K m h H)(st:RSt K m H r s)
 (e:((fa r h).bind λx h1=>(fb r h1).bind λy h2=>k x y h2)=.ok d h')
 (c:∀m2 H2 h2 dx dy x y,Gr K m H m2 H2->Wd K m2 h2 H2->RD K m2 H2 dx x->RD K m2 H2 dy y->k dx dy h2=.ok d h'->R x y H2):
 TDE K fa s H λx H1=>TDE K fb s H1 λy H2=>R x y H2:=by
 obtain⟨dx,h1,e1,e⟩:=Rs.bind_ok e
 obtain⟨dy,h2,e2,e⟩:=Rs.bind_ok e
 exact⟨m,r,h,dx,h1,w,st,e1,λm1 x H1 g1 w1 rx=>⟨m1,r,h1,dy,h2,w1,st.mono g1,e2,λm2 y H2 g2 w2 ry=>c m2 H2 h2 dx dy x y (g1.trans g2) w2 (rx.mono g2) ry e⟩⟩
theorem TDE.op{K:PySem.W.Frag}{fa fb f:Ev->Hh->Rs D}{k:D->D->Hh->Rs D}(hf:∀r h,f r h=(fa r h).bind λx h1=>(fb r h1).bind λy h2=>k x y h2)(s:Sg)(H:Hp)(Q:VK)(q:TDE K f s H Q):tOp (rD K k) (TDE K fa) (TDE K fb) s H Q:=by
 obtain⟨m,r,h,d,h',w,st,e,c⟩:=q
 rw[hf] at e
 exact TDE.two w st e λm2 H2 h2 dx dy x y g w2 rx ry e=>⟨m2,h2,dx,dy,d,h',w2,rx,ry,e,λm' v H' g'=>c m' v H' (g.trans g')⟩
structure XOk (X:Cx)(N:List Str)(sc:Scope):Prop where
 n:X.N=N
 s:X.env.scope=sc
 calm:X.calm=true
 nd:X.N.Nodup
 room:∃k,Room k X.A
 rng:X.mg "range"=none
 po:PassesOwn (model X.prog X.w) X.A X.env X.xe
 cd:PySem.W.kdsCode X.K X.env.code=true
def spD(K:PySem.W.Frag)(ca:Nat->Addr)(f:List D->Hh->Rs D)(n:Nat):Sp:=λvs H Q E=>vs.length=n/\∃m h ds,Wd K m h H/\RDs K m H ds vs/\(match f ds h with
 |.ok d h'=>∀m' v H',Gr K m H m' H'->Wd K m' h' H'->RD K m' H' d v->Q v H'
 |.exc c _ h'=>∀m' H' v,Gr K m H m' H'->Wd K m' h' H'->E v (some (ca c)) H'
 |.bad=>False)
abbrev bmV:List Value:= [.type "ValueError",.type "Exception",.type "BaseException",.type "object"]
structure ExcF (K:PySem.W.Frag)(C:Addr):Prop where
 own:PySem.W.excIn K C bmV "ValueError.__new__"=true
 kp:PySem.W.keepIn K (.ref C)=true
 val:PySem.W.kitOne K (.ref C) (.type "ValueError")=some true
structure COk (X:Cx)(G:Gs)(ca:Nat->Addr)(cl:Cl):Prop where
 att:∀p∈G.atts,∃C,PySem.W.nsIn X.K mainGlobals p.1=some (some (.ref C))/\Cls X.K C/\NoAttr X.K C p.2
 meth:∀p∈G.meths,∃C fa fd ps k,PySem.W.nsIn X.K mainGlobals p.1=some (some (.ref C))/\Cls X.K C/\Meth X.K C p.2.1 fa/\FnOk X.prog X.w X.K X.mg X.base (CX1 X.prog X.w) k fa fd ps (spD X.K ca (cl p.2.2) ps.length)/\Room k X.A/\Binds X.K fd ps []/\∀ds h,cl p.2.2 ds h≠ .bad->ds.length=ps.length
 new:∀p∈G.news,∃C fa fd ps k,PySem.W.nsIn X.K mainGlobals p.1=some (some (.ref C))/\X.mg p.1=some (.ref C)/\Mk X.K C fa/\FnOk X.prog X.w X.K X.mg X.base (CX1 X.prog X.w) k fa fd ps (spD X.K ca (cl p.2) ps.length)/\Room (k+1) X.A/\Binds X.K fd ps []/\∀ds h,cl p.2 ds h≠ .bad->ds.length=ps.length
structure GOk (X:Cx)(G:Gs)(ca:Nat->Addr)(cl:Cl):Prop where
 fn:∀(f:Nat)(x:Str),G.fns[f]? =some x->∃fa fd ps k,FnOk X.prog X.w X.K X.mg X.base (CX1 X.prog X.w) k fa fd ps (spD X.K ca (cl f) ps.length)/\Room k X.A/\X.mg x=some (.ref fa)/\PySem.W.keepIn X.K (.ref fa)=true/\Binds X.K fd ps []/\∀ds h,cl f ds h≠ .bad->ds.length=ps.length
 cst:∀(g:Nat)(x:Str)(d:D),G.csts[g]? =some (x,d)->∃v u,X.mg x=some u/\RelV v u/\∀m H,RD X.K m H d v
 blt:∀f:Blt,X.mg f.nm=none
 ty:∀t:Ty,X.mg (Str.ofString t.nm)=none
 exc:∀(c:Nat)(x:Str),G.excs[c]? =some x->X.mg x=some (.ref (ca c))/\ExcF X.K (ca c)
 sub:∀p∈G.sub,PySem.W.exmOne X.K (.ref (ca p.1)) (.ref (ca p.2))=some true/\PySem.W.kitOne X.K (.ref (ca p.1)) (.ref (ca p.2))=some true/\ExcF X.K (ca p.1)
 nsub:∀p∈G.nsub,PySem.W.kitOne X.K (.ref (ca p.1)) (.ref (ca p.2))=some false/\ExcN X.K (ca p.1)
 verr:X.mg "ValueError"=none
 c:COk X G ca cl
section
variable {X:Cx}
theorem opBin(op:Bop):OpR X (binaryOp op.op) (rD X.K (binD op)):=by
 intro pins s σ H x y v u Q I rx ry q
 obtain⟨m,h,dx,dy,d,h',w,r1,r2,e,c⟩:=q
 have fin:∀z,RD X.K m H d z->h=h'->Q z H:=λz rz eh=>by subst eh;exact c m z H Gr.refl w rz
 cases op with
 |add=>
  have k:(∃i j,dx=.int i/\dy=.int j)\/(∃a b,dx=.str a/\dy=.str b)\/(∃a b,dx=.tup a/\dy=.tup b)\/∃a b,dx=.ref a/\dy=.ref b:=by
   cases dx<;>first |(cases e;done)|skip
   ·exact .inl ⟨_,(by cases dy<;>first |(cases e;done)|exact⟨_,rfl,rfl⟩)⟩
   ·exact .inr (.inl ⟨_,(by cases dy<;>first |(cases e;done)|exact⟨_,rfl,rfl⟩)⟩)
   ·exact .inr (.inr (.inl ⟨_,(by cases dy<;>first |(cases e;done)|exact⟨_,rfl,rfl⟩)⟩))
   ·exact .inr (.inr (.inr ⟨_,(by cases dy<;>first |(cases e;done)|exact⟨_,rfl,rfl⟩)⟩))
  rcases k with ⟨i,j,rfl,rfl⟩|⟨a,b,rfl,rfl⟩|⟨a,b,rfl,rfl⟩|⟨a,b,rfl,rfl⟩
  ·cases r1;cases r2
   cases e
   exact op_add pins s σ H _ _ v u Q I rx ry ⟨_,_,rfl,rfl,fin _ (.int _) rfl⟩
  ·cases r1;cases r2
   have e':(if a.length+b.length<=sizeLine then Rs.ok (D.str (a++b)) h else .bad)=.ok d h':=e
   split at e'
   ·rename_i hz
    cases e'
    exact vzH pins s σ H _ _ v u Q I rx ry ⟨_,_,rfl,rfl,hz,fin _ (.str _) rfl⟩
   ·cases e'
  ·have e':(if a.length+b.length<=1000/\0<a.length/\0<b.length then Rs.ok (D.tup (a++b)) h else .bad)=.ok d h':=e
   split at e'
   ·rename_i hz
    cases e'
    cases r1 with
    |tup h1 q1=>
     cases r2 with
     |tup h2 q2=>
      have l1:=q1.length
      have l2:=q2.length
      refine op_catT pins s σ H _ _ v u Q I rx ry ⟨_,_,_,_,rfl,rfl,h1,h2,(λz=>by rw[z,List.length_nil] at l1;omega),Nat.le_trans (by omega) (show 1000<=sizeLine by decide),(λz=>by rw[z,List.length_nil] at l2;omega),λ_ p hp=>?_⟩
      exact c m _ _ (Gr.tupNew hp) (w.keepNew hp) (.tup (.of jzq) ((q1.append q2).mono (Gr.tupNew hp)))
   ·cases e'
  ·have e':(match h[a]?,h[b]? with|some (.lst x),some (.lst y)=>(if x.length+y.length<=1000 then Rs.ok (D.ref h.length) (h++ [O.lst (x++y)]) else .bad)|_,_=>.bad)=.ok d h':=e
   split at e'
   ·rename_i la lb ea eb
    split at e'
    ·rename_i hz
     cases e'
     cases r1 with
     |ref m1=>
      cases r2 with
      |ref m2=>
       obtain⟨vs,hv,q1⟩:∃vs,H _=some (.lst vs)/\RDs X.K m H la vs:=w.ob a _ _ ea m1
       obtain⟨us,hu,q2⟩:∃vs,H _=some (.lst vs)/\RDs X.K m H lb vs:=w.ob b _ _ eb m2
       have l1:=q1.length
       have l2:=q2.length
       refine op_cat pins s σ H _ _ v u Q I rx ry ⟨_,_,_,_,rfl,rfl,hv,hu,Nat.le_trans (by omega) (show 1000<=sizeLine by decide),λp hp=>?_⟩
       obtain⟨w2,g2⟩:=w.lstNew hp (q1.append q2)
       exact c _ _ _ g2 w2 (.ref (by rw[<- w.len];simp))
    ·cases e'
   ·cases e'
 |sub=>
  obtain⟨i,rfl⟩:∃i,dx=.int i:=by cases dx<;>first |exact⟨_,rfl⟩|(cases e;done)
  obtain⟨j,rfl⟩:∃j,dy=.int j:=by cases dy<;>first |exact⟨_,rfl⟩|(cases e;done)
  cases r1;cases r2
  cases e
  exact op_sub pins s σ H _ _ v u Q I rx ry ⟨_,_,rfl,rfl,fin _ (.int _) rfl⟩
 |mul=>
  obtain⟨i,rfl⟩:∃i,dx=.int i:=by cases dx<;>first |exact⟨_,rfl⟩|(cases e;done)
  obtain⟨j,rfl⟩:∃j,dy=.int j:=by cases dy<;>first |exact⟨_,rfl⟩|(cases e;done)
  cases r1;cases r2
  have e':(if(-(2^64)<i/\i<2^64)\/(-(2^64)<j/\j<2^64) then Rs.ok (D.int (i*j)) h else .bad)=.ok d h':=e
  split at e'
  ·rename_i hz
   cases e'
   exact op_mul pins s σ H _ _ v u Q I rx ry ⟨_,_,rfl,rfl,hz,fin _ (.int _) rfl⟩
  ·cases e'
 |fdiv=>
  obtain⟨i,rfl⟩:∃i,dx=.int i:=by cases dx<;>first |exact⟨_,rfl⟩|(cases e;done)
  obtain⟨j,rfl⟩:∃j,dy=.int j:=by cases dy<;>first |exact⟨_,rfl⟩|(cases e;done)
  cases r1;cases r2
  have e':(if 0<j/\j<1073741824 then Rs.ok (D.int (i/j)) h else .bad)=.ok d h':=e
  split at e'
  ·rename_i hz
   cases e'
   exact op_fdiv pins s σ H _ _ v u Q I rx ry ⟨_,_,rfl,rfl,hz,fin _ (.int _) rfl⟩
  ·cases e'
 |mod=>
  obtain⟨i,rfl⟩:∃i,dx=.int i:=by cases dx<;>first |exact⟨_,rfl⟩|(cases e;done)
  obtain⟨j,rfl⟩:∃j,dy=.int j:=by cases dy<;>first |exact⟨_,rfl⟩|(cases e;done)
  cases r1;cases r2
  have e':(if 0<j then Rs.ok (D.int (i%j)) h else .bad)=.ok d h':=e
  split at e'
  ·rename_i hz
   cases e'
   exact op_mod pins s σ H _ _ v u Q I rx ry ⟨_,_,rfl,rfl,hz,fin _ (.int _) rfl⟩
  ·cases e'
 |pow=>
  obtain⟨i,rfl⟩:∃i,dx=.int i:=by cases dx<;>first |exact⟨_,rfl⟩|(cases e;done)
  obtain⟨j,rfl⟩:∃j,dy=.int j:=by cases dy<;>first |exact⟨_,rfl⟩|(cases e;done)
  cases r1;cases r2
  have e':(if 0<=j/\j<=1000000/\i.natAbs<2^64 then Rs.ok (D.int (i^j.toNat)) h else .bad)=.ok d h':=e
  split at e'
  ·rename_i hz
   cases e'
   exact op_pow pins s σ H _ _ v u Q I rx ry ⟨_,_,rfl,rfl,hz,fin _ (.int _) rfl⟩
  ·cases e'
theorem wze{f:D->D->Option Bool}:∀{a b:List D}{k:Bool},eqL f a b=some k->∃e:Nat->Bool,(∀j x y,a[j]? =some x->b[j]? =some y->f x y=some (e j))/\k=((List.range (min a.length b.length)).all e&&a.length==b.length)
 | [],[],k,h=>by
   simp[eqL] at h
   exact⟨λ_=>true,λj x y e=>by simp at e,by simp[h.symm]⟩
 | [],_::_,k,h=>by
   simp[eqL] at h
   exact⟨λ_=>true,λj x y e=>by simp at e,by simp[h.symm]⟩
 |_::_,[],k,h=>by
  simp[eqL] at h
  exact⟨λ_=>true,λj x y _ e=>by simp at e,by simp[h.symm]⟩
 |x::xs,y::ys,k,h=>by
  simp only[eqL] at h
  split at h
  ·rename_i a b h1 h2
   obtain⟨e,p,q⟩:=wze h2
   refine⟨λj=>match j with
    |0=>a
    |j+1=>e j,λj x' y' e1 e2=>?_,?_⟩
   ·cases j with
    |zero=>simp at e1 e2;subst e1;subst e2;exact h1
    |succ j=>exact p j x' y' (by simpa using e1) (by simpa using e2)
   ·have h':(a&&b)=k:=Option.some.inj h
    rw[<- h',q]
    simp only[List.length_cons,Nat.succ_min_succ,List.range_succ_eq_map,List.all_cons,List.all_map]
    rw[show((xs.length+1==ys.length+1):Bool)=(xs.length==ys.length) by simp]
    rw[Bool.and_assoc]
    rfl
  ·cases h
theorem eqD_same{pins:List (Addr×Obj)}{σ:Sg}{H:Hp}{s:Shared}{m:List Addr}(I:Inv X pins σ H s):∀(n:Nat){d d':D}{v:V}{b:Bool},RD X.K m H d v->RD X.K m H d' v->eqD n d d'=some b->b=true:=by
 intro n
 induction n with
 |zero=>
  intro d d' v b r r' e
  cases r<;>cases r'<;>simp[eqD] at e<;>exact e
 |succ n ih=>
  intro d d' v b r r' e
  cases r<;>cases r'<;>first |(simp[eqD] at e;exact e)|(simp[eqD] at e;done)|skip
  rename_i a ds vs h1 q1 ds' vs' q2 h2
  obtain rfl:=I.tuple_inj h1 h2
  have go:∀{ds ds':List D}{vs:List V}{b:Bool},RDs X.K m H ds vs->RDs X.K m H ds' vs->eqL (eqD n) ds ds'=some b->b=true:=by
   intro ds
   induction ds with
   |nil=>
    intro ds' vs b q1 q2 e
    cases q1;cases q2
    simp[eqL] at e;exact e
   |cons x xs ih2=>
    intro ds' vs b q1 q2 e
    cases q1 with
    |cons p1 t1=>
     cases q2 with
     |cons p2 t2=>
      simp only[eqL] at e
      split at e
      ·rename_i k1 k2 z1 z2
       have:=ih p1 p2 z1
       have:=ih2 t1 t2 z2
       subst_vars
       simpa using e.symm
      ·cases e
  exact go q1 q2 (by simpa [eqD] using e)
theorem eqAt_D{pins:List (Addr×Obj)}{σ:Sg}{H:Hp}{s:Shared}{m:List Addr}(I:Inv X pins σ H s):∀(n:Nat){A:Around}{d d':D}{v v':V}{u u':Value}{b:Bool},A.units+n<cLine->RD X.K m H d v->RD X.K m H d' v'->RelV v u->RelV v' u'->eqD n d d'=some b->SeqAt.EqAt A s u u' b:=by
 intro n
 induction n with
 |zero=>
  intro A d d' v v' u u' b hu r r' q q' e
  cases r<;>cases r'<;>first |(simp[eqD] at e;done)|skip
  all_goals simp[eqD] at e
  all_goals subst e
  all_goals first
   |(have h:=zzE (A:=A) (s:=s) q q' rfl rfl;simpa [eqV] using h)
 |succ n ih=>
  intro A d d' v v' u u' b hu r r' q q' e
  cases r<;>cases r'<;>first |(simp[eqD] at e;done)|skip
  all_goals first
   |(simp[eqD] at e;subst e;have h:=zzE (A:=A) (s:=s) q q' rfl rfl;simpa [eqV] using h)
   |skip
  rename_i a ds vs h1 q1 a' ds' vs' h2 q2
  cases q;cases q'
  by_cases ha:a=a'
  ·subst ha
   have:=eqD_same I (n+1) (.tup h1 q1) (.tup h2 q2) e
   subst this
   exact SeqAt.EqAt.same _
  ·obtain⟨its,p1,t1,_⟩:=I.tuple h1
   obtain⟨its',p2,t2,_⟩:=I.tuple h2
   obtain⟨f,hf,rfl⟩:=wze (show eqL (eqD n) ds ds'=some b from by simpa [eqD] using e)
   have l1:=q1.length
   have l2:=q2.length
   have l3:=p1.length
   have l4:=p2.length
   have key:=SeqAt.RcAt.tuples (A:=A) (e:=f) t1 t2 (by omega) (λj j1 j2=>by
    have j1':j<its.length:=by simpa using j1
    have j2':j<its'.length:=by simpa using j2
    have e1:ds[j]? =some ds[j]:=List.getElem?_eq_getElem (by omega)
    have e2:ds'[j]? =some ds'[j]:=List.getElem?_eq_getElem (by omega)
    obtain⟨x,hx,rx⟩:=q1.get e1
    obtain⟨y,hy,ry⟩:=q2.get e2
    obtain⟨ux,hux,sx⟩:=p1.get hx
    obtain⟨uy,huy,sy⟩:=p2.get hy
    have z1:its.toArray[j]=ux:=by
     have:=List.getElem?_eq_some_iff.mp hux
     obtain⟨_,z⟩:=this
     simpa using z
    have z2:its'.toArray[j]=uy:=by
     have:=List.getElem?_eq_some_iff.mp huy
     obtain⟨_,z⟩:=this
     simpa using z
    rw[z1,z2]
    exact ih (A:=A.in1) (by show A.units+1+n<cLine;omega) rx ry sx sy (hf j _ _ e1 e2))
   refine SeqAt.EqAt.of_refs ha ?_
   have el:its.toArray.size=ds.length:=by simp;omega
   have el':its'.toArray.size=ds'.length:=by simp;omega
   rw[el,el'] at key
   exact key
end
end Ng
end
section
namespace Ng
open PySem PySem.Spec PyProof.Rows L2
section
open PySem.SeqAt
open PySem.AutoSeq1 (wpAny_loadPart')
open PySem.MeetsSeq PySem.MeetsSeq2 PySem.MeetsSeq3
inductive LL (A:Around) (s:Shared):List Value->List Value->Bool->Prop where
 |nn:LL A s [] [] false
 |nc {v:Value} {vs:List Value}:LL A s [] (v::vs) true
 |cn {v:Value} {vs:List Value}:LL A s (v::vs) [] false
 |eq {u v:Value} {us vs:List Value} {b:Bool} (h:SeqAt.EqAt A s u v true) (r:LL A s us vs b):LL A s (u::us) (v::vs) b
 |ne {u v:Value} {us vs:List Value} {b:Bool} (h:SeqAt.EqAt A s u v false) (r:∀(prog:Program)(w:World)(E Q:Value->Shared->Prop),Q (.bool b) s->wpAny (model prog w) A (richCompare .Lt u v) Q E s):LL A s (u::us) (v::vs) b
theorem lt_loop(l b:Addr)(items items2:Array Value)(n n2:Nat)(dd dd2:Option Addr)(sl sl2:Array (Option Value)){k:Bool}:∀(m i:Nat),items.size-i=m->
 Meets (Builtin.«list.__eq__.loop» ⟨[.ref l,.ref b,rawInt i,rawInt 0],[]⟩)
  (λA R s=>s.heap.get? l=some {cls:=.type "list",dict:=dd,data:=.seq items n,slots:=sl}/\s.heap.get? b=some {cls:=.type "list",dict:=dd2,data:=.seq items2 n2,slots:=sl2}/\
    i<=items.size/\i<=items2.size/\LL A.in1 s (items.toList.drop i) (items2.toList.drop i) k/\R (.ok (.ret (.bool k))) s):=by
 intro m
 induction m with
 |zero=>
  intro i hk prog w A R s h
  obtain⟨hp,g,d,tk,os⟩:=s;obtain⟨hl,hb,z1,z2,hf,h⟩:=h
  wp_walk using wpAny_loadPart' hl,wpAny_loadPart' hb
  have hi1:items[((i:Nat):Int).toNat]? =none:=by simp;omega
  have hd:items.toList.drop i=[]:=by simp;omega
  rw[hd] at hf
  rw[hi1]
  wp_walk using wpAny_loadPart' hl,wpAny_loadPart' hb
  show R (.ok (.ret (.bool (decide (items.size<items2.size))))) _
  have e:k=decide (items.size<items2.size):=by
   generalize hq:items2.toList.drop i=q at hf
   cases hf with
   |nn=>
    have:items2.toList.length<=i:=List.drop_eq_nil_iff.mp hq
    rw[Array.length_toList] at this
    exact(decide_eq_false (by omega)).symm
   |nc=>
    have:i<items2.toList.length:=by
     rcases Nat.lt_or_ge i items2.toList.length with z|z
     ·exact z
     ·rw[List.drop_eq_nil_of_le z] at hq;cases hq
    rw[Array.length_toList] at this
    exact(decide_eq_true (by omega)).symm
  rw[<- e];exact h
 |succ m ih=>
  intro i hk prog w A R s h
  obtain⟨hp,g,d,tk,os⟩:=s;obtain⟨hl,hb,z1,z2,hf,h⟩:=h
  have lt:i<items.size:=by omega
  have d1:items.toList.drop i=items[i]::items.toList.drop (i+1):=by rw[List.drop_eq_getElem_cons (by simpa using lt)];simp
  have hi1:items[((i:Nat):Int).toNat]? =some items[i]:=by simp[lt]
  have hc:((i:Int)+1)=((i+1:Nat):Int):=by push_cast;rfl
  wp_walk using wpAny_loadPart' hl,wpAny_loadPart' hb
  rw[hi1]
  by_cases lt2:i<items2.size
  ·have d2:items2.toList.drop i=items2[i]::items2.toList.drop (i+1):=by rw[List.drop_eq_getElem_cons (by simpa using lt2)];simp
   have hi2:items2[((i:Nat):Int).toNat]? =some items2[i]:=by simp[lt2]
   rw[d1,d2] at hf
   rw[hi2]
   cases hf with
   |eq he r=>
    refine wpAny_bind (he prog w _ _ ?_)
    wp_walk
    rw[hc]
    exact⟨plainId_quiet plain_eq_loop _,codeAny_builtin entry_eq_loop (by
     rw[Around.under_plainId plain_eq_loop _]
     exact ih (i+1) (by omega) prog w A R _ ⟨hl,hb,by omega,by omega,r,h⟩)⟩
   |ne he r=>
    refine wpAny_bind (he prog w _ _ ?_)
    have hri:=λE Q hq=>r prog w E Q hq
    wp_walk using wpAny_loadPart' hl,wpAny_loadPart' hb
    rw[hi1,hi2]
    wp_walk using hri
    exact h
  ·have hi2:items2[((i:Nat):Int).toNat]? =none:=by simp;omega
   have d2:items2.toList.drop i=[]:=by simp;omega
   rw[d1,d2] at hf
   cases hf
   rw[hi2]
   wp_walk using wpAny_loadPart' hl,wpAny_loadPart' hb
   show R (.ok (.ret (.bool (decide (items.size<items2.size))))) _
   rw[decide_eq_false (by omega)]
   exact h
theorem lst_lt(l b:Addr)(items items2:Array Value)(n n2:Nat)(dd dd2:Option Addr)(sl sl2:Array (Option Value)){k:Bool}:
 Meets (Builtin.«list.__lt__» ⟨[.ref l,.ref b],[]⟩)
  (λA R s=>s.heap.get? l=some {cls:=.type "list",dict:=dd,data:=.seq items n,slots:=sl}/\s.heap.get? b=some {cls:=.type "list",dict:=dd2,data:=.seq items2 n2,slots:=sl2}/\LL A.in1 s items.toList items2.toList k/\R (.ok (.ret (.bool k))) s):=by
 intro prog w A R s h
 obtain⟨hp,g,d,tk,os⟩:=s;obtain⟨hl,hb,hf,h⟩:=h
 have f3:=AutoSeq1.sub_list_list
 wp_walk using wpAny_loadPart' hl,wpAny_loadPart' hb
 exact⟨plainId_quiet plain_eq_loop _,codeAny_builtin entry_eq_loop (by
  rw[Around.under_plainId plain_eq_loop _]
  exact lt_loop l b items items2 n n2 dd dd2 sl sl2 _ 0 rfl prog w A R _ ⟨hl,hb,Nat.zero_le _,Nat.zero_le _,by simpa using hf,h⟩)⟩
end
theorem ll_int{K:PySem.W.Frag}{m:List Addr}{H:Hp}{A:Around}{s:Shared}:∀{ds ds':List D}{vs vs':List V}{us us':List Value}{k:Bool},RDs K m H ds vs->RDs K m H ds' vs'->Vals vs us->Vals vs' us'->ltI ds ds'=some k->LL A s us us' k
 | [],[],_,_,_,_,k,q1,q2,p1,p2,e=>by
   cases q1;cases q2;cases p1;cases p2;cases e;exact .nn
 | [],_::_,_,_,_,_,k,q1,q2,p1,p2,e=>by
   cases q1;cases q2;cases p1;cases p2;cases e;exact .nc
 |_::_,[],_,_,_,_,k,q1,q2,p1,p2,e=>by
  cases q1;cases q2;cases p1;cases p2
  have:k=false:=by simpa [ltI] using e.symm
  subst this;exact .cn
 |x::xs,y::ys,_,_,_,_,k,q1,q2,p1,p2,e=>by
  cases q1 with
  |cons r1 q1=>
   cases q2 with
   |cons r2 q2=>
    cases p1 with
    |cons s1 p1=>
     cases p2 with
     |cons s2 p2=>
      cases r1<;>cases r2<;>first |(simp[ltI] at e;done)|skip
      ·rename_i a b
       obtain⟨t,rfl⟩:=s1
       obtain⟨t',rfl⟩:=s2
       simp only[ltI] at e
       split at e
       ·rename_i z
        subst z
        exact .eq (by simpa using SeqAt.EqAt.int_int (A:=A) (s:=s) a t a t') (ll_int q1 q2 p1 p2 e)
       ·rename_i z
        have e':=Option.some.inj e
        refine .ne (by have y:=SeqAt.EqAt.int_int (A:=A) (s:=s) a t b t';rw[beq_eq_false_iff_ne.mpr z] at y;exact y) λprog w E Q hq=>?_
        subst e'
        exact(PyProof.Rows.lt_int hq:wpAny (model prog w) A (compareOp .Lt (.int a t) (.int b t')) Q E s)
theorem lt_lists{X:Cx}{pins:List (Addr×Obj)}{σ:Sg}{H:Hp}{s:Shared}{m:List Addr}{h:Hh}{A:Around}(hu:A.units+5<cLine)(I:Inv X pins σ H s)(w:Wd X.K m h H){n k:Nat}{a c:Addr}{ds ds':List D}{b:Bool}(ha:m[n]? =some a)(hc:m[k]? =some c)(e1:lstAt h n=some ds)(e2:lstAt h k=some ds')(e:ltI ds ds'=some b){Q E:Value->Shared->Prop}(hq:Q (.bool b) s):
 wpAny (model X.prog X.w) A (compareOp .Lt (.ref a) (.ref c)) Q E s:=by
 obtain⟨a',vs,ha',hq1,q1⟩:=w.lst e1
 obtain⟨c',vs',hc',hq2,q2⟩:=w.lst e2
 rw[ha] at ha';cases ha'
 rw[hc] at hc';cases hc'
 obtain⟨us1,v1,c1,_⟩:=I.list hq1
 obtain⟨us2,v2,c2,_⟩:=I.list hq2
 obtain⟨⟨cls,dd,data,sl⟩,ho,hcl,nn,hd⟩:=c1.isList
 obtain⟨⟨cls2,dd2,data2,sl2⟩,ho2,hcl2,nn2,hd2⟩:=c2.isList
 simp only at hcl hd hcl2 hd2
 subst hcl hd hcl2 hd2
 exact richCompare_meets_room (op:=.Lt) ⟨_,ho,rfl⟩ ⟨_,ho2,rfl⟩ PySem.F.slot_list_lt PySem.F.entry_list_lt (PySem.F.args_list_lt_2 _ _) (lst_lt _ _ us1.toArray us2.toArray nn nn2 dd dd2 sl sl2 (k:=b)) ⟨ho,ho2,by simpa using ll_int q1 q2 v1 v2 e,show Value.bool b≠Value.notImplemented/\Q (.bool b) s from⟨(λx=>nomatch x),hq⟩⟩ (by omega)
end Ng
end
section
namespace Ng
open PySem PySem.Spec PyProof.Rows L2
section
variable {X:Cx}
theorem eqSeq{pins:List (Addr×Obj)}{σ:Sg}{H:Hp}{s:Shared}{m:List Addr}(I:Inv X pins σ H s){n:Nat}{A:Around}{ds ds':List D}{vs vs':List V}{its its':List Value}(hu:A.units+1+n<cLine)
 (q1:RDs X.K m H ds vs)(q2:RDs X.K m H ds' vs')(p1:Vals vs its)(p2:Vals vs' its'){f:Nat->Bool}(hf:∀j x y,ds[j]? =some x->ds'[j]? =some y->eqD n x y=some (f j)):
 ∀j (h1:j<its.toArray.size) (h2:j<its'.toArray.size),SeqAt.EqAt A.in1 s its.toArray[j] its'.toArray[j] (f j):=λj j1 j2=>by
 have l1:=q1.length
 have l2:=q2.length
 have l3:=p1.length
 have l4:=p2.length
 have j1':j<its.length:=by simpa using j1
 have j2':j<its'.length:=by simpa using j2
 have e1:ds[j]? =some ds[j]:=List.getElem?_eq_getElem (by omega)
 have e2:ds'[j]? =some ds'[j]:=List.getElem?_eq_getElem (by omega)
 obtain⟨x,hx,rx⟩:=q1.get e1
 obtain⟨y,hy,ry⟩:=q2.get e2
 obtain⟨ux,hux,sx⟩:=p1.get hx
 obtain⟨uy,huy,sy⟩:=p2.get hy
 have z1:its.toArray[j]=ux:=by
  obtain⟨_,z⟩:=List.getElem?_eq_some_iff.mp hux
  simpa using z
 have z2:its'.toArray[j]=uy:=by
  obtain⟨_,z⟩:=List.getElem?_eq_some_iff.mp huy
  simpa using z
 rw[z1,z2]
 exact eqAt_D I n (by show A.units+1+n<cLine;omega) rx ry sx sy (hf j _ _ e1 e2)
theorem zzD{pins:List (Addr×Obj)}{σ:Sg}{H:Hp}{s:Shared}{m:List Addr}{h:Hh}(I:Inv X pins σ H s)(hr:∃k,Room k X.A){x y:V}{v u:Value}{dx dy:D}{b:Bool}(w:Wd X.K m h H)(r1:RD X.K m H dx x)(r2:RD X.K m H dy y)
 (rx:RelV x v)(ry:RelV y u)(e:eqH dx dy h=some b):SeqAt.RcAt X.A s v u b/\SeqAt.RcNeAt X.A s v u (!b):=by
 obtain⟨k,hr⟩:=hr
 have hu:=hr.units
 cases r1<;>cases r2<;>first |(simp[eqH,eqD] at e;done)|skip
 case ref.ref=>
  rename_i i a ha j c hc
  cases rx;cases ry
  simp only[eqH] at e
  split at e
  ·rename_i ds ds' e1 e2
   obtain⟨a',vs,ha',hq,q1⟩:=w.lst e1
   obtain⟨c',vs',hc',hq',q2⟩:=w.lst e2
   rw[ha] at ha';cases ha'
   rw[hc] at hc';cases hc'
   obtain⟨its,p1,t1,_⟩:=I.list hq
   obtain⟨its',p2,t2,_⟩:=I.list hq'
   have l1:=q1.length
   have l2:=q2.length
   have l3:=p1.length
   have l4:=p2.length
   split at e
   ·rename_i el
    obtain⟨f,hf,rfl⟩:=wze e
    have hs:its.toArray.size=its'.toArray.size:=by simp;omega
    have he:=eqSeq (A:=X.A) I (n:=20) (by omega) q1 q2 p1 p2 hf
    have el2:its.toArray.size=ds.length:=by simp;omega
    have k1:=SeqAt.RcAt.lists (A:=X.A) (e:=f) t1.isList t2.isList hs (by omega) he
    have k2:=SeqAt.RcNeAt.lists (A:=X.A) (e:=f) t1.isList t2.isList hs (by omega) he
    rw[el2] at k1 k2
    rw[show(min ds.length ds'.length)=ds.length by omega,show(ds.length==ds'.length)=true by simp[el],Bool.and_true]
    exact⟨k1,k2⟩
   ·rename_i el
    have eb:false=b:=Option.some.inj e
    subst eb
    have hs:(its.toArray.size != its'.toArray.size)=true:=by simp;omega
    exact⟨SeqAt.RcAt.lists_lengths t1.isList t2.isList hs (by omega),SeqAt.RcNeAt.lists_lengths t1.isList t2.isList hs (by omega)⟩
  ·cases e
 case tup.tup=>
  rename_i a ds vs h1 q1 a' ds' vs' h2 q2
  cases rx;cases ry
  obtain⟨its,p1,t1,_⟩:=I.tuple h1
  obtain⟨its',p2,t2,_⟩:=I.tuple h2
  have l1:=q1.length
  have l2:=q2.length
  have l3:=p1.length
  have l4:=p2.length
  obtain⟨f,hf,rfl⟩:=wze (show eqL (eqD 19) ds ds'=some b from by simpa [eqH,eqD] using e)
  have he:=eqSeq (A:=X.A) I (n:=19) (by omega) q1 q2 p1 p2 hf
  have k1:=SeqAt.RcAt.tuples (A:=X.A) (e:=f) t1 t2 (by omega) he
  have k2:=SeqAt.RcNeAt.tuples (A:=X.A) (e:=f) t1 t2 (by omega) he
  have el:its.toArray.size=ds.length:=by simp;omega
  have el':its'.toArray.size=ds'.length:=by simp;omega
  rw[el,el'] at k1 k2
  exact⟨k1,k2⟩
 all_goals simp[eqH,eqD] at e
 all_goals subst e
 case non.non=>cases rx;cases ry;exact⟨SeqAt.RcAt.none_none,SeqAt.RcNeAt.none_none⟩
 case non.int=>cases rx;obtain⟨t,rfl⟩:=ry;exact⟨SeqAt.RcAt.none_int _ _,SeqAt.RcNeAt.none_int _ _⟩
 case non.str=>cases rx;obtain⟨t,rfl⟩:=ry;exact⟨SeqAt.RcAt.none_str _ _,SeqAt.RcNeAt.none_str _ _⟩
 case int.non=>cases ry;obtain⟨t,rfl⟩:=rx;exact⟨SeqAt.RcAt.int_none _ _,SeqAt.RcNeAt.int_none _ _⟩
 case str.non=>cases ry;obtain⟨t,rfl⟩:=rx;exact⟨SeqAt.RcAt.str_none _ _,SeqAt.RcNeAt.str_none _ _⟩
 case bl.bl=>cases rx;cases ry;exact⟨SeqAt.RcAt.bool_bool _ _,SeqAt.RcNeAt.bool_bool _ _⟩
 case int.int=>obtain⟨t,rfl⟩:=rx;obtain⟨t',rfl⟩:=ry;exact⟨SeqAt.RcAt.int_int _ _ _ _,SeqAt.RcNeAt.int_int _ _ _ _⟩
 case int.str=>obtain⟨t,rfl⟩:=rx;obtain⟨t',rfl⟩:=ry;exact⟨SeqAt.RcAt.int_str _ _ _ _,SeqAt.RcNeAt.int_str _ _ _ _⟩
 case str.int=>obtain⟨t,rfl⟩:=rx;obtain⟨t',rfl⟩:=ry;exact⟨SeqAt.RcAt.str_int _ _ _ _,SeqAt.RcNeAt.str_int _ _ _ _⟩
 case str.str=>obtain⟨t,rfl⟩:=rx;obtain⟨t',rfl⟩:=ry;exact⟨SeqAt.RcAt.str_str _ _ _ _,SeqAt.RcNeAt.str_str _ _ _ _⟩
theorem RD.flat{K:PySem.W.Frag}{m:List Addr}{H:Hp}{d:D}{v:V}(r:RD K m H d v)(f:flat d=true):flatV v=true:=by
 cases r<;>first |rfl|(cases f;done)
theorem RD.eqF{K:PySem.W.Frag}{m:List Addr}{H:Hp}{d d':D}{v v':V}(r:RD K m H d v)(r':RD K m H d' v')(f:Ng.flat d=true)(f':Ng.flat d'=true):eqV v v'=Ng.eqF d d':=by
 cases r<;>first |(cases f;done)|skip
 all_goals cases r'<;>first |(cases f';done)|rfl
theorem RDs.flat{K:PySem.W.Frag}{m:List Addr}{H:Hp}:∀{ds:List D}{vs:List V},RDs K m H ds vs->ds.all Ng.flat=true->vs.all flatV=true
 |_,_,.nil,_=>rfl
 |_,_,.cons r t,f=>by
  rw[List.all_cons,Bool.and_eq_true] at f
  rw[List.all_cons,r.flat f.1,RDs.flat t f.2]
  rfl
theorem RDs.anyF{K:PySem.W.Frag}{m:List Addr}{H:Hp}{x:D}{v:V}(rx:RD K m H x v)(fx:Ng.flat x=true):∀{ds:List D}{vs:List V},RDs K m H ds vs->ds.all Ng.flat=true->inV v vs=ds.any λy=>Ng.eqF y x
 |_,_,.nil,_=>rfl
 |_,_,.cons r t,f=>by
  rw[List.all_cons,Bool.and_eq_true] at f
  have ih:=RDs.anyF rx fx t f.2
  unfold inV at ih⊢
  rw[List.any_cons,List.any_cons,ih,r.eqF rx f.1 fx]
theorem wzq{m:List Addr}{h:Hh}{H:Hp}{K:PySem.W.Frag}(w:Wd K m h H){d:D}{v:V}{l:List D}(r:RD K m H d v)(e:seqD d h=some l):∃p vs,v=.ref p/\(SqL K H p vs\/SqT K H p vs)/\RDs K m H l vs:=by
 cases r<;>first |(simp[seqD] at e;done)|skip
 ·rename_i a ds vs h1 q
  have e':ds=l:=by simpa [seqD] using e
  subst e'
  exact⟨a,vs,rfl,.inr h1,q⟩
 ·rename_i n a ha
  obtain⟨a',vs,ha',hq,q⟩:=w.lst (show lstAt h n=some l from e)
  rw[ha] at ha';cases ha'
  exact⟨a,vs,rfl,.inl hq,q⟩
theorem qzn{K:PySem.W.Frag}{m:List Addr}{H:Hp}{k:Key}{d:D}:∀{ds:List (Key×D)}{us:List (Key×V)},ds.map (·.1)=us.map (·.1)->RDs K m H (ds.map (·.2)) (us.map (·.2))->valD ds k=some d->∃v,valV us k=some v/\RD K m H d v
 | [],_,_,_,e=>by simp[valD] at e
 |p::ds,[],hk,_,_=>by simp at hk
 |p::ds,q::us,hk,r,e=>by
  simp only[List.map_cons,List.cons.injEq] at hk
  cases r with
  |cons r1 r2=>
   unfold valD at e
   unfold valV
   rw[List.find?_cons] at e⊢
   rw[<- hk.1]
   by_cases z:p.1=k
   ·rw[decide_eq_true z] at e⊢
    simp only at e⊢
    cases e
    exact⟨q.2,rfl,r1⟩
   ·rw[decide_eq_false z] at e⊢
    exact qzn hk.2 r2 e
theorem jz8{K:PySem.W.Frag}{m:List Addr}{H:Hp}{d:D}{v:V}{k:Key}(r:RD K m H d v)(e:keyD d=some k):v=kV k:=by
 cases r<;>first |(cases e;done)|(cases e;rfl)
theorem zzZ{X:Cx}:CallR X (.builtin "len") (λxs H Q=>∃a kvs,xs=[V.ref a]/\Rd H a (.dK kvs)/\Q (.int kvs.length) H):=by
 intro pins s σ H xs us Q I r h
 obtain⟨a,kvs,rfl,ha,q⟩:=h
 obtain⟨u,rfl,ru⟩:=vals1 r
 cases ru
 exact d_len I ha λt s1 I1=>⟨.int kvs.length,H,I1,⟨t,rfl⟩,q⟩
theorem DGet.kR{H:Hp}{a:Addr}{kvs:List (Key×V)}{k:Key}(e:Rd H a (.dK kvs)):DGet H a (kV k) (valV kvs k):=.inl ⟨kvs,k,e,rfl,rfl⟩
theorem jzH{K:PySem.W.Frag}{m:List Addr}{h:Hh}{H:Hp}{x:D}{v:V}{l:List (Key×D)}(w:Wd K m h H)(r:RD K m H x v)(e:dctAt h x=some l):∃n a us,x=.ref n/\v=.ref a/\(h[n]? =some (.dct l)\/h[n]? =some (.dcz l))/\m[n]? =some a/\Rd H a (.dK us)/\l.map (·.1)=us.map (·.1)/\RDs K m H (l.map (·.2)) (us.map (·.2)):=by
 cases r<;>first |(cases e;done)|skip
 rename_i n a ha
 simp only[dctAt] at e
 split at e
 ·rename_i l' el
  cases e
  obtain⟨us,q1,q2,q3⟩:=w.ob n _ a el ha
  exact⟨n,a,us,rfl,rfl,.inl el,ha,.inl q1,q2,q3⟩
 ·rename_i l' el
  cases e
  obtain⟨us,o,q1,q2,q3⟩:=w.ob n _ a el ha
  exact⟨n,a,us,rfl,rfl,.inr el,ha,.inr ⟨o,q1⟩,q2,q3⟩
 ·cases e
theorem qzr{K:PySem.W.Frag}{k:Key}:∀{ds:List (Key×D)}{us:List (Key×V)},ds.map (·.1)=us.map (·.1)->valD ds k=none->valV us k=none
 | [],[],_,_=>rfl
 | [],q::us,hk,_=>by simp at hk
 |p::ds,[],hk,_=>by simp at hk
 |p::ds,q::us,hk,e=>by
  simp only[List.map_cons,List.cons.injEq] at hk
  unfold valD at e
  unfold valV
  rw[List.find?_cons] at e⊢
  rw[<- hk.1]
  by_cases z:p.1=k
  ·rw[decide_eq_true z] at e;cases e
  ·rw[decide_eq_false z] at e⊢
   exact qzr (K:=K) hk.2 e
theorem qzT{K:PySem.W.Frag}{m:List Addr}{H:Hp}{k:Key}{ds:List (Key×D)}{us:List (Key×V)}(hk:ds.map (·.1)=us.map (·.1))(r:RDs K m H (ds.map (·.2)) (us.map (·.2))):(valV us k).isSome=(valD ds k).isSome:=by
 cases e:valD ds k with
 |none=>rw[qzr (K:=K) hk e]<;>rfl
 |some d=>obtain⟨v,hv,_⟩:=qzn hk r e;rw[hv];rfl
theorem ct_of{pins:List (Addr×Obj)}{σ:Sg}{H:Hp}{s:Shared}{m:List Addr}(I:Inv X pins σ H s){A:Around}(hu:A.units+20<cLine){dx:D}{x:V}{v:Value}(rx:RD X.K m H dx x)(sx:RelV x v):∀{ds:List D}{vs:List V}{its:List Value}{b:Bool},RDs X.K m H ds vs->Vals vs its->inT dx ds=some b->CT A s v its b
 | [],_,_,b,.nil,.nil,e=>by cases e;exact .nil
 |y::ds,_,_,b,.cons r q,.cons p t,e=>by
  simp only[inT] at e
  split at e
  ·rename_i a c e1 e2
   have e':=Option.some.inj e
   have z:=eqAt_D I 20 hu r rx p sx e1
   have ih:=ct_of I hu rx sx q t e2
   cases a with
   |true=>subst e';exact .hit z
   |false=>rw[Bool.false_or] at e';subst e';exact .mis z ih
  ·cases e
theorem opCmp(hr:∃k,Room k X.A)(op:Cop):OpR X (compareOp op.op) (rD X.K (cmpD op)):=by
 intro pins s σ H x y v u Q I rx ry q
 obtain⟨m,h,dx,dy,d,h',w,r1,r2,e,c⟩:=q
 have fin:∀z,RD X.K m H d z->h=h'->Q z H:=λz rz eh=>by subst eh;exact c m z H Gr.refl w rz
 cases op with
 |lt=>
  by_cases rr:∃n,dx=.ref n
  ·obtain⟨n,rfl⟩:=rr
   obtain⟨k,rfl⟩:∃k,dy=.ref k:=by cases dy<;>first |exact⟨_,rfl⟩|(cases e;done)
   replace e:(match lstAt h n,lstAt h k with|some a,some b=>(match ltI a b with|some c=>Rs.ok (D.bl c) h|none=>.bad)|_,_=>.bad)=.ok d h':=e
   split at e
   ·rename_i ds ds' e1 e2
    split at e
    ·rename_i b eb
     cases e
     cases r1 with
     |ref ha=>
     cases r2 with
     |ref hc=>
     cases rx;cases ry
     obtain⟨kk,hr⟩:=hr
     have hun:=hr.units
     exact lt_lists (by omega) I w ha hc e1 e2 eb ⟨.bl b,H,I,rfl,fin _ (.bl _) rfl⟩
    ·cases e
   ·cases e
  obtain⟨i,rfl⟩:∃i,dx=.int i:=by cases dx<;>first |exact⟨_,rfl⟩|exact absurd ⟨_,rfl⟩ rr|(cases e;done)
  obtain⟨j,rfl⟩:∃j,dy=.int j:=by cases dy<;>first |exact⟨_,rfl⟩|(cases e;done)
  cases r1;cases r2
  cases e
  exact op_lt pins s σ H _ _ v u Q I rx ry ⟨_,_,rfl,rfl,fin _ (.bl _) rfl⟩
 |le=>
  obtain⟨i,rfl⟩:∃i,dx=.int i:=by cases dx<;>first |exact⟨_,rfl⟩|(cases e;done)
  obtain⟨j,rfl⟩:∃j,dy=.int j:=by cases dy<;>first |exact⟨_,rfl⟩|(cases e;done)
  cases r1;cases r2
  cases e
  exact op_le pins s σ H _ _ v u Q I rx ry ⟨_,_,rfl,rfl,fin _ (.bl _) rfl⟩
 |gt=>
  obtain⟨i,rfl⟩:∃i,dx=.int i:=by cases dx<;>first |exact⟨_,rfl⟩|(cases e;done)
  obtain⟨j,rfl⟩:∃j,dy=.int j:=by cases dy<;>first |exact⟨_,rfl⟩|(cases e;done)
  cases r1;cases r2
  cases e
  exact op_gt pins s σ H _ _ v u Q I rx ry ⟨_,_,rfl,rfl,fin _ (.bl _) rfl⟩
 |ge=>
  obtain⟨i,rfl⟩:∃i,dx=.int i:=by cases dx<;>first |exact⟨_,rfl⟩|(cases e;done)
  obtain⟨j,rfl⟩:∃j,dy=.int j:=by cases dy<;>first |exact⟨_,rfl⟩|(cases e;done)
  cases r1;cases r2
  cases e
  exact op_ge pins s σ H _ _ v u Q I rx ry ⟨_,_,rfl,rfl,fin _ (.bl _) rfl⟩
 |eq=>
  replace e:(match eqH dx dy h with|some b=>Rs.ok (D.bl (b)) h|none=>.bad)=.ok d h':=e
  split at e
  ·rename_i b eb
   cases e
   exact(zzD I hr w r1 r2 rx ry eb).1 _ _ _ _ ⟨.bl b,H,I,rfl,fin _ (.bl _) rfl⟩
  ·cases e
 |ne=>
  replace e:(match eqH dx dy h with|some b=>Rs.ok (D.bl (!b)) h|none=>.bad)=.ok d h':=e
  split at e
  ·rename_i b eb
   cases e
   exact(zzD I hr w r1 r2 rx ry eb).2 _ _ _ _ ⟨.bl (!b),H,I,rfl,fin _ (.bl _) rfl⟩
  ·cases e
 |is=>
  obtain rfl:dy=.non:=by cases dy<;>first |rfl|(cases e;done)
  cases r2
  cases e
  refine op_isN pins s σ H _ _ v u Q I rx ry ⟨rfl,fin _ ?_ rfl⟩
  cases r1<;>exact .bl _
 |isnot=>
  obtain rfl:dy=.non:=by cases dy<;>first |rfl|(cases e;done)
  cases r2
  cases e
  refine op_notN pins s σ H _ _ v u Q I rx ry ⟨rfl,fin _ ?_ rfl⟩
  cases r1<;>exact .bl _
 |inn=>
  replace e:(match inX dx dy h with|some b=>Rs.ok (D.bl b) h|none=>match dctAt h dy with|some l=>inK dx l false h|none=>match seqD dy h with|some l=>inD dx l false h|none=>.bad)=.ok d h':=e
  split at e
  ·rename_i b eb
   cases e
   unfold inX at eb
   split at eb
   ·cases eb
    cases r1;cases r2
    exact zze pins s σ H _ _ v u Q I rx ry ⟨_,_,rfl,rfl,fin _ (.bl _) rfl⟩
   ·rename_i ks
    split at eb
    ·rename_i l el
     obtain⟨n,a,xs,us,o,es,ep,rfl,rfl,hn,ha,hf,df,go,hk,hks,rv,vv,dd⟩:=zzF I w r2 el
     rw[Option.map_eq_some_iff] at eb
     obtain⟨k,ek,rfl⟩:=eb
     cases r1 with
     |tup hq q=>
      have:=qzE q ek
      subst this
      obtain⟨kk,hr⟩:=hr
      have hun:=hr.units
      cases rx;cases ry
      refine wpAny_in_heap (tupleKind_room_in1 (by omega)) (keyI I hq) df.1 dd ⟨.bl _,H,I.tok _,rfl,?_⟩
      rw[wzP, <- qzY hk, <- vzd]
      exact fin _ (.bl _) rfl
    ·cases eb
   ·cases eb
  split at e
  ·rename_i l el
   obtain⟨n,a,us,rfl,rfl,hn,ha,hu,hk,rv⟩:=jzH w r2 el
   unfold inK at e
   split at e
   ·rename_i k ek
    cases e
    have:=jz8 r1 ek
    subst this
    obtain⟨kk,hr⟩:=hr
    have hun:=hr.units
    cases ry
    refine d_in (by omega) I (DGet.kR hu) rx λs3 I3=>⟨.bl _,H,I3,rfl,?_⟩
    rw[qzT hk rv]
    exact fin _ (.bl _) rfl
   ·cases e
  ·split at e
   ·rename_i l el
    unfold inD at e
    split at e
    ·rename_i hf
     cases e
     obtain⟨p,vs,rfl,hq,q⟩:=wzq w r2 el
     refine zzf pins s σ H _ _ v u Q I rx ry ⟨p,vs,rfl,hq,r1.flat hf.1,q.flat hf.2,?_⟩
     have z:=RDs.anyF r1 hf.1 q hf.2
     show Q (.bl (if false=true then !inV x vs else inV x vs)) H
     rw[if_neg (by decide),z]
     exact fin _ (.bl _) rfl
    ·cases e
   ·cases e
 |notin=>
  replace e:(match dctAt h dy with|some l=>inK dx l true h|none=>match seqD dy h with|some l=>(match inTs dx dy l with|some b=>Rs.ok (D.bl (!b)) h|none=>inD dx l true h)|none=>.bad)=.ok d h':=e
  split at e
  ·rename_i l el
   obtain⟨n,a,us,rfl,rfl,hn,ha,hu,hk,rv⟩:=jzH w r2 el
   unfold inK at e
   split at e
   ·rename_i k ek
    cases e
    have:=jz8 r1 ek
    subst this
    obtain⟨kk,hr⟩:=hr
    have hun:=hr.units
    cases ry
    refine d_notIn (by omega) I (DGet.kR hu) rx λs3 I3=>⟨.bl _,H,I3,rfl,?_⟩
    rw[qzT hk rv]
    exact fin _ (by simpa using RD.bl (!(valD l k).isSome)) rfl
   ·cases e
  ·split at e
   ·rename_i l el
    split at e
    ·rename_i b eb
     cases e
     unfold inTs at eb
     split at eb
     ·cases r2 with
      |ref hm=>
       obtain⟨a',vs',hm',hq',q'⟩:=w.lst (show lstAt h _=some l from el)
       rw[hm] at hm';cases hm'
       obtain⟨its,p1,t1,_⟩:=I.list hq'
       obtain⟨kk,hr⟩:=hr
       have hun:=hr.units
       obtain⟨⟨cls,dd,data,sl⟩,ho,hcl,nn,hd⟩:=t1.isList
       simp only at hcl hd
       subst hcl hd
       cases ry
       refine PySem.SeqRoads2.notIn_meets ⟨_,ho,rfl⟩ F.slot_list_contains F.entry_list_contains (F.args_list_contains_2 _ _) (ct_list _ its.toArray nn dd sl v (b:=b)) ⟨ho,?_,_,rfl,⟨.bl _,H,I,rfl,fin _ (.bl _) rfl⟩⟩
       simpa using ct_of I (A:=X.A.in1) (by show X.A.units+1+20<cLine;omega) r1 rx q' p1 eb
     ·cases eb
    rename_i hnt
    unfold inD at e
    split at e
    ·rename_i hf
     cases e
     obtain⟨p,vs,rfl,hq,q⟩:=wzq w r2 el
     refine wzw pins s σ H _ _ v u Q I rx ry ⟨p,vs,rfl,hq,r1.flat hf.1,q.flat hf.2,?_⟩
     have z:=RDs.anyF r1 hf.1 q hf.2
     show Q (.bl (if true=true then !inV x vs else inV x vs)) H
     rw[if_pos rfl,z]
     exact fin _ (by simpa using RD.bl _) rfl
    ·cases e
   ·cases e
theorem atI_rel{K:PySem.W.Frag}{m:List Addr}{H:Hp}{ds:List D}{vs:List V}{i:Int}{d:D}(q:RDs K m H ds vs)(e:atI ds i=some d):∃v,atI vs i=some v/\RD K m H d v:=by
 unfold atI at e⊢
 rw[q.length] at e
 cases z:ixN vs.length i with
 |none=>rw[z] at e;cases e
 |some j=>
  rw[z] at e
  obtain⟨v,h1,h2⟩:=q.get (show ds[j]? =some d from e)
  exact⟨v,h1,h2⟩
theorem ixSeqS:IxR X (rD X.K ixS):=by
 intro value slice pins s σ H x y v u Q I rx ry q hs
 obtain⟨m,h,dx,dy,d,h',w,r1,r2,e,c⟩:=q
 unfold ixS at e
 split at e
 ·rename_i l i el
  split at e
  ·rename_i d' ed
   simp at e
   obtain⟨rfl,rfl⟩:=e
   obtain⟨p,vs,rfl,hq,q⟩:=wzq w r1 el
   obtain⟨z,hz,rz⟩:=atI_rel q ed
   cases r2
   have qz:Q z H:=c m z H Gr.refl w rz
   rcases hq with hq|hq
   ·exact ix_list value slice pins s σ H _ _ v u Q I rx ry ⟨p,vs,i,z,rfl,rfl,hq,hz,qz⟩ hs
   ·exact ix_tup value slice pins s σ H _ _ v u Q I rx ry ⟨p,vs,i,z,rfl,rfl,hq,hz,qz⟩ hs
  ·cases e
 ·cases e
theorem ixSeq(hr:∃k,Room k X.A):IxR X (rD X.K ixD):=by
 intro value slice pins s σ H x y v u Q I rx ry q hs
 obtain⟨m,h,dx,dy,d,h',w,r1,r2,e,c⟩:=q
 unfold ixD at e
 split at e
 ·rename_i z
  unfold ixT at e
  split at e<;>first |(cases e;done)|skip
  rename_i i
  split at e<;>first |(cases e;done)|skip
  rename_i hz
  split at e<;>first |(cases e;done)|skip
  rename_i c' ec
  simp at e
  obtain⟨rfl,rfl⟩:=e
  cases r1;cases r2
  exact ix_str value slice pins s σ H _ _ v u Q I rx ry ⟨z,i,c',rfl,rfl,hz,ec,c m _ H Gr.refl w (.str _)⟩ hs
 split at e
 ·rename_i l el
  obtain⟨n,a,us,rfl,rfl,hn,ha,hu,hk,rv⟩:=jzH w r1 el
  unfold ixK at e
  split at e
  ·rename_i k ek
   split at e
   ·rename_i d' ed
    simp at e
    obtain⟨rfl,rfl⟩:=e
    obtain⟨z,hz,rz⟩:=qzn hk rv ed
    have:=jz8 r2 ek
    subst this
    obtain⟨kk,hr⟩:=hr
    have hun:=hr.units
    cases rx
    have g:DGet H a (kV k) (some z):=by rw[<- hz];exact DGet.kR hu
    exact tail_any (wz4 I g) PySem.F.slot_dict_getitem.lookup (zzK (by omega) I g ry λw' s3 I3 rw'=>⟨z,H,I3,rw',c m z H Gr.refl w rz⟩) hs
   ·cases e
  ·cases e
 ·split at e
  ·rename_i l el
   obtain⟨n,a,xs,us,o,es,ep,rfl,rfl,hn,ha,hf,df,go,hk,hks,rv,vv,dd⟩:=zzF I w r1 el
   unfold ixF at e
   split at e
   ·rename_i ks
    split at e
    ·rename_i d' ed
     simp at e
     obtain⟨rfl,rfl⟩:=e
     rw[Option.bind_eq_some_iff] at ed
     obtain⟨k,ek,ed⟩:=ed
     cases r2 with
     |tup hq q=>
      have:=qzE q ek
      subst this
      obtain⟨kk,hr⟩:=hr
      have hun:=hr.units
      cases rx;cases ry
      obtain⟨z,p,rz,hp,sz⟩:=vzc hk rv vv ed
      exact tail_any (T:="dict") ⟨o,go,df.2.2.1.1⟩ PySem.F.slot_dict_getitem.lookup (wpAny_getItem_heap (tupleKind_room_in1 (by omega)) (keyI I hq) dd hp ⟨z,H,I.tok _,sz,c m z H Gr.refl w rz⟩) hs
    ·cases e
   ·cases e
  ·exact ixSeqS value slice pins s σ H x y v u Q I rx ry ⟨m,h,dx,dy,d,h',w,r1,r2,e,c⟩ hs
theorem qzC{K:PySem.W.Frag}{m:List Addr}{H:Hp}{ds:List D}{vs:List V}(q:RDs K m H ds vs):ds.isEmpty=vs.isEmpty:=by
 cases q<;>rfl
theorem qzN{K:PySem.W.Frag}{m:List Addr}{h:Hh}{H:Hp}(w:Wd K m h H){d:D}{v:V}{b:Bool}(r:RD K m H d v)(e:truD d h=some b):TruV K v H b:=by
 cases r with
 |non=>exact(Option.some.inj e).symm
 |bl c=>exact(Option.some.inj e).symm
 |int i=>exact(Option.some.inj e).symm
 |str y=>
  simp only[truD] at e
  split at e
  ·rename_i hz
   exact⟨hz,(Option.some.inj e).symm⟩
  ·cases e
 |ty n=>cases e
 |tup h1 q=>
  refine .inr (.inl ⟨_,h1,?_⟩)
  have:=(Option.some.inj e).symm
  rw[this,qzC q]
 |ref ha=>
  simp only[truD] at e
  split at e
  ·rename_i l el
   obtain⟨a',vs,ha',hq,q⟩:=w.lst el
   rw[ha] at ha';cases ha'
   refine .inl ⟨_,hq,?_⟩
   have:=(Option.some.inj e).symm
   rw[this,qzC q]
  ·cases e
end
end Ng
end
section
namespace Ng
open PySem PySem.Spec PyProof.Rows L2
end Ng
end
section
namespace Ng
open PySem PySem.Spec PyProof.Rows L2
theorem listWalk{prog:Program}{w:World}{A:Around}{s:Shared}{a:Addr}{items:Array Value}(hh:A.handled=none)(hl:s.heap.IsList a items):
 Walks prog w A s.heap.objs.size [s.heap.objs.size,a] [s.heap.objs.size] items.size (λi v=>items[i]? =some v) (λi h=>h.IsListIter s.heap.objs.size a i/\h.IsList a items)/\
 ((s.heap.push {cls:=.type "list_iterator",data:=.fields #[.ref a,.int 0 0]}).IsListIter s.heap.objs.size a 0/\(s.heap.push {cls:=.type "list_iterator",data:=.fields #[.ref a,.int 0 0]}).IsList a items)/\
 (∀b∈ [s.heap.objs.size,a],b<(s.heap.push {cls:=.type "list_iterator",data:=.fields #[.ref a,.int 0 0]}).objs.size)/\
 ∀g:Heap,(∀b o,b ∉ [s.heap.objs.size]->(s.heap.push {cls:=.type "list_iterator",data:=.fields #[.ref a,.int 0 0]}).get? b=some o->g.get? b=some o)->∀b o,s.heap.get? b=some o->g.get? b=some o:=by
 have lt:a<s.heap.objs.size:=by obtain⟨_,e,_⟩:=hl;exact Heap.lt_size e
 refine⟨Walks.list hh _ a (Nat.ne_of_lt lt) items,⟨⟨_,Heap.get?_push_size _ rfl,rfl,rfl⟩,hl.push _⟩,λb hb=>?_,λg kp b o e=>kp b o (λz=>?_) (Heap.get?_push_of_some _ e)⟩
 ·rw[Heap.size_push]
  simp at hb
  rcases hb with rfl|rfl
  ·exact Nat.lt_succ_self _
  ·exact Nat.lt_succ_of_lt lt
 ·simp at z
  subst z
  exact Nat.lt_irrefl _ (Heap.lt_size e)
section
variable {X:Cx}
end
end Ng
end
section
namespace Ng
open PySem PySem.Spec PyProof.Rows L2
section
open PySem.SeqAt
open PySem.AutoSeq1 (wpAny_loadPart')
open PySem.MeetsSeq PySem.MeetsSeq2 PySem.MeetsSeq3
end
section
variable {X:Cx}{pins:List (Addr×Obj)}{σ:Sg}{H:Hp}{s:Shared}{m:List Addr}
end
end Ng
end
section
namespace Ng
open PySem PySem.Spec PyProof.Rows L2
section
variable {prog:Program}{w:World}{A:Around}{E:Value->Shared->Prop}{s:Shared}
theorem zzm{a:Addr}{vs:List Value}{n:Nat}{P:PySem.Fin->Shared->Prop}(ho:s.heap.get? a=some (seqObj "list" vs.toArray n))(h1:vs.length<2)
 (h:P (.done (.ret .none)) {s with heap:=sortedHeap s.heap a vs vs.toArray}):wpAny (model prog w) A (Builtin.«list.sort» ⟨[.ref a],[]⟩) P E s:=by
 have la:=Heap.lt_size ho
 obtain⟨e1,o1⟩:∃e1,(s.heap.update a (Obj.mapSeq λ_=> #[])).get? a=some (seqObj "list" #[] e1):=⟨_,get?_update_seq ho (λ_=> #[])⟩
 have o6:(((s.heap.update a (Obj.mapSeq λ_=> #[])).push (seqObj "tuple" vs.toArray 0)).push (seqObj "list" #[] 0)).get? a=some (seqObj "list" #[] e1):=
  Heap.get?_push_of_some _ (Heap.get?_push_of_some _ o1)
 have few:vs.toArray.size<2:=by simpa using h1
 have zs:(vs.toArray.zip vs.toArray).map (·.2)=vs.toArray:=by
  apply Array.toList_inj.mp
  simp[List.map_snd_zip]
 rw[list_sort_plain]
 refine wpAny_bind (listItems_at ho rfl (wpAny_bind (listUpdate_at ho rfl (wpAny_bind (seqEpoch_at o1 rfl (wpAny_bind (wpAny_newTuple (wpAny_bind (wpAny_newList (wpAny_holding ?_))))))))))
 show wpAny (model prog w) A _ P E {s with heap:=((s.heap.update a (Obj.mapSeq λ_=> #[])).push (seqObj "tuple" vs.toArray 0)).push (seqObj "list" #[] 0)}
 dsimp only
 rw[if_pos few,if_pos few]
 refine wpAny_bind (wpAny_pure ?_)
 rw[StateT.run_pure]
 refine wpAny_bind (wpAny_pure ?_)
 dsimp only
 refine wpAny_bind (seqEpoch_at o6 rfl (wpAny_bind (listUpdate_at o6 rfl ?_ (hsz2:=by
  show((vs.toArray.zip vs.toArray).map (·.2)).size<=_
  rw[zs,sizeLine_eq,List.size_toArray];omega))))
 simp only[bne_self_eq_false,Bool.false_eq_true,if_false]
 refine wpAny_pure ?_
 show P (.done (.ret .none)) {s with heap:=_}
 have z2:(arrOf (SortSt.mk' general' (vs.toArray.zip vs.toArray) #[] 7 none)).map (·.2)=vs.toArray:=zs
 rw[z2]
 exact h
theorem vzF{l:Addr}{vs:List Value}{Q:Value->Shared->Prop}(hl:s.heap.IsList l vs.toArray)(h1:vs.length<2)
 (h:Q (.ref (s.heap.objs.size+1)) {s with heap:=sortedAll s.heap vs vs.toArray}):wpAny (model prog w) A (call (.builtin "sorted") [.ref l]) Q E s:=by
 refine Calls.call_function_entry kind_sorted plain_sorted entry_sorted (args_sorted1 _) ?_
 have z1:((s.heap.push (seqObj "list" #[] 0)).update s.heap.objs.size (Obj.mapSeq (·++vs.toArray))).objs.size=s.heap.objs.size+1:=by rw[Heap.size_update,size_push']
 have o1:(((s.heap.push (seqObj "list" #[] 0)).update s.heap.objs.size (Obj.mapSeq (·++vs.toArray))).push (seqObj "list" vs.toArray 0)).get? (s.heap.objs.size+1)=some (seqObj "list" vs.toArray 0):=z1 ▸ Heap.get?_push_size _ rfl
 unfold Builtin.«sorted»
 refine wpAny_bind (m:=checkCount "sorted" 1 1 _) (wpAny_pure (wpAny_bind (collect_list hl (wpAny_bind (wpAny_newList ?_)))))
 show wpAny _ _ _ _ _ {s with heap:=((s.heap.push (seqObj "list" #[] 0)).update s.heap.objs.size (Obj.mapSeq (·++vs.toArray))).push (seqObj "list" vs.toArray 0)}
 rw[z1]
 exact wpAny_bind (wpAny_holding (wpAny_call_entry slot_list_sort ⟨_,o1,rfl⟩ entry_list_sort (zzm o1 h1 ⟨_,rfl,wpAny_pure ⟨_,rfl,h⟩⟩) (args_list_sort _)))
end
theorem qzc{h h':Heap}{L a:Addr}{xs:Array Value}{mm:Str->Option Value}(hn:h.Ns L mm)(k:∀b o,b≠L->h.get? b=some o->h'.get? b=some o)(t:IsTup h a xs):IsTup h' a xs:=by
 obtain⟨o,h1,h2,n,h3⟩:=t
 refine⟨o,k a o (λz=>?_) h1,h2,n,h3⟩
 subst z
 obtain⟨o',es,ep,g1,g2,_⟩:=hn
 rw[h1] at g1;cases g1
 rw[h3] at g2;cases g2
section
variable {X:Cx}{pins:List (Addr×Obj)}{σ:Sg}{H:Hp}{s:Shared}{m:List Addr}{K:PySem.W.Frag}
theorem qzs(I:Inv X pins σ H s){ds:List D}{v:V}{u:Value}(r:RD X.K m H (.tup ds) v)(rv:RelV v u):∃a vs its,u=.ref a/\RDs X.K m H ds vs/\Vals vs its/\IsTup s.heap a its.toArray:=by
 cases r with
 |tup h q=>
  cases rv
  obtain⟨its,p,t,_⟩:=I.tuple h
  exact⟨_,_,its,rfl,q,p,t⟩
theorem kat_flat{prog:Program}{w:World}{A:Around}{b fin:Bool}{Q:Bool->Shared->Prop}{t:Shared}(hb:b=true):∀{xs ys:List D}{vs us:List V}{its jts:List Value}{i:Nat}{c:Bool},RDs K m H xs vs->RDs K m H ys us->Vals vs its->Vals us jts->ltF xs ys=some c->
 ∀(p q:Nat),p+its.length=q+jts.length->fin=decide (q<p)->Q c t->PySem.W.KatLex prog w A b fin Q (its.zip jts) i t:=by
 intro xs
 induction xs with
 |nil=>
  intro ys vs us its jts i c hx hy hv hu e p q hpq hf h
  cases hx;cases hv
  cases hy with
  |nil=>
   cases hu
   have e':false=c:=Option.some.inj e
   subst e'
   show Q fin t
   rw[hf,decide_eq_false (by simp at hpq;omega)]
   exact h
  |cons r2 q2=>
   cases hu
   have e':true=c:=Option.some.inj e
   subst e'
   show Q fin t
   rw[hf,decide_eq_true (by simp at hpq;omega)]
   exact h
 |cons x xs ih=>
  intro ys vs us its jts i c hx hy hv hu e p q hpq hf h
  cases hx with
  |cons r1 q1=>
  cases hv with
  |cons s1 t1=>
  cases hy with
  |nil=>
   cases hu
   have e':false=c:=by
    cases x<;>exact Option.some.inj e
   subst e'
   show Q fin t
   rw[hf,decide_eq_false (by simp at hpq;omega)]
   exact h
  |cons r2 q2=>
  cases hu with
  |cons s2 t2=>
   simp only[List.length_cons] at hpq
   cases r1<;>cases r2<;>first |(simp[ltF] at e;done)|skip
   ·rename_i a a'
    obtain⟨tk,rfl⟩:=s1
    obtain⟨tk',rfl⟩:=s2
    simp only[ltF] at e
    refine PySem.W.kat_cons (wpAny_eqBool_int ?_)
    by_cases z:a=a'
    ·rw[if_pos z] at e
     rw[show(a==a')=true by simp[z]]
     exact PySem.W.kat_yes (ih q1 q2 t1 t2 e p q (by omega) hf h)
    ·rw[if_neg z] at e
     have e':=Option.some.inj e
     rw[show(a==a')=false by simp[z]]
     refine PySem.W.kat_no ?_
     subst e' hb
     by_cases hi:i=0
     ·subst hi
      exact oneLt_int h
     ·rw[show((true&&i==0):Bool)=false by simp[hi]]
      exact PySem.W.kat_one _ _ (PyProof.Rows.lt_int h)
   ·rename_i a a'
    obtain⟨tk,rfl⟩:=s1
    obtain⟨tk',rfl⟩:=s2
    simp only[ltF] at e
    refine PySem.W.kat_cons (wpAny_eqBool_str ?_)
    by_cases z:a=a'
    ·rw[if_pos z] at e
     rw[decide_eq_true z]
     exact PySem.W.kat_yes (ih q1 q2 t1 t2 e p q (by omega) hf h)
    ·rw[if_neg z] at e
     have e':=Option.some.inj e
     rw[decide_eq_false z]
     refine PySem.W.kat_no ?_
     subst e' hb
     by_cases hi:i=0
     ·subst hi
      exact oneLt_str h
     ·rw[show((true&&i==0):Bool)=false by simp[hi]]
      exact PySem.W.kat_one _ _ (lt_str h)
theorem qze{α:Type}{l:List α}{i:Nat}{x d:α}(h:l[i]? =some x):l.getD i d=x:=by simp[List.getD_eq_getElem?_getD,h]
theorem RDs.pick{ds:List D}{vs:List V}(q:RDs K m H ds vs):∀(p:List Nat),(∀i∈p,i<ds.length)->RDs K m H (p.map λi=>ds.getD i .non) (p.map λi=>vs.getD i .non)
 | [],_=>.nil
 |i::p,h=>by
  have e:=List.getElem?_eq_getElem (h i List.mem_cons_self)
  obtain⟨v,hv,rv⟩:=q.get e
  refine .cons ?_ (RDs.pick q p λj hj=>h j (List.mem_cons_of_mem _ hj))
  show RD K m H (ds.getD i .non) (vs.getD i .non)
  rw[qze e,qze hv]
  exact rv
theorem wzi{vs:List V}{us:List Value}(q:Vals vs us):∀(p:List Nat),(∀i∈p,i<vs.length)->Vals (p.map λi=>vs.getD i .non) (p.map λi=>us.getD i Value.none)
 | [],_=>.nil
 |i::p,h=>by
  have e:=List.getElem?_eq_getElem (h i List.mem_cons_self)
  obtain⟨v,hv,rv⟩:=q.get e
  refine .cons ?_ (wzi q p λj hj=>h j (List.mem_cons_of_mem _ hj))
  show RelV (vs.getD i .non) (us.getD i Value.none)
  rw[qze e,qze hv]
  exact rv
theorem ask_ok{prog:Program}{w:World}{A:Around}{s':Shared}(I:Inv X pins σ H s)(kp:∀b o,b≠X.env.locals->s.heap.get? b=some o->s'.heap.get? b=some o){k:Nat}{x y:D}{vx vy:V}{ux uy:Value}{c:Bool}{κ:SortKind}(hκ:κ=if k<3 then oneType' else tuples' true)
 (kx:kdS x=k)(ky:kdS y=k)(k0:k≠0)(rx:RD X.K m H x vx)(ry:RD X.K m H y vy)(sx:RelV vx ux)(sy:RelV vy uy)(e:ltK x y=some c){C:Bool->Shared->Prop}(h:C c s'):
 wpAny (model prog w) A (keyLt' κ ux uy) C (λ_ _=>False) s':=by
 obtain⟨mm,hn,_⟩:=id I.loc
 have tup:∀{a b:List D},x=.tup a->y=.tup b->¬k<3->wpAny (model prog w) A (keyLt' κ ux uy) C (λ_ _=>False) s':=λ{a b} ea eb h3=>by
  subst ea eb
  rw[if_neg h3] at hκ
  subst hκ
  obtain⟨a1,vs,its,rfl,q1,p1,t1⟩:=qzs I rx sx
  obtain⟨a2,us,jts,rfl,q2,p2,t2⟩:=qzs I ry sy
  obtain⟨o1,g1,_,n1,d1⟩:=qzc hn kp t1
  obtain⟨o2,g2,_,n2,d2⟩:=qzc hn kp t2
  exact PySem.W.kat_lt g1 d1 g2 d2 (kat_flat (K:=X.K) rfl q1 q2 p1 p2 (by simpa [ltK] using e) jts.length its.length (by simp;omega) (by simp) h)
 cases x with
 |int a=>
  cases y with
  |int b=>
   have z:1=k:=kx
   subst z
   rw[if_pos (by decide)] at hκ
   subst hκ
   cases rx;cases ry
   obtain⟨t,rfl⟩:=sx
   obtain⟨t',rfl⟩:=sy
   have e':=Option.some.inj e
   subst e'
   exact PySem.W.kat_lt_int h
  |_=>simp[ltK] at e
 |str a=>
  cases y with
  |str b=>
   have z:2=k:=kx
   subst z
   rw[if_pos (by decide)] at hκ
   subst hκ
   cases rx;cases ry
   obtain⟨t,rfl⟩:=sx
   obtain⟨t',rfl⟩:=sy
   have e':=Option.some.inj e
   subst e'
   exact PySem.W.kas_lt_str h
  |_=>simp[ltK] at e
 |tup a=>
  cases y with
  |tup b=>
   refine tup rfl rfl λh3=>?_
   cases a with
   |nil=>exact k0 kx.symm
   |cons d ds=>cases d<;>first |(exact k0 kx.symm)|(have z:3=k:=kx;omega)|(have z:4=k:=kx;omega)
  |_=>simp[ltK] at e
 |_=>simp[ltK] at e
theorem kind_ok{prog:Program}{w:World}{A:Around}{s':Shared}(I:Inv X pins σ H s)(kp:∀b o,b≠X.env.locals->s.heap.get? b=some o->s'.heap.get? b=some o){k:Nat}{l:List D}{vs:List V}{its:List Value}(h2:2<=l.length)(hk:∀x∈l,kdS x=k)(k0:k≠0)
 (q:RDs X.K m H l vs)(p:Vals vs its){C:SortKind->Shared->Prop}(h:C (if k<3 then oneType' else tuples' true) s'):wpAny (model prog w) A (keyKind' its.toArray) C (λ_ _=>False) s':=by
 obtain⟨mm,hn,_⟩:=id I.loc
 have ln:=q.length
 have ln2:=p.length
 have mem:∀u∈its,∃x∈l,∃v,RD X.K m H x v/\RelV v u:=λu hu=>by
  obtain⟨i,hi,rfl⟩:=List.mem_iff_getElem.mp hu
  obtain⟨x,ex⟩:∃x,l[i]? =some x:=⟨_,List.getElem?_eq_getElem (by omega)⟩
  obtain⟨v,hv,rv⟩:=q.get ex
  obtain⟨u,hu,ru⟩:=p.get hv
  rw[List.getElem?_eq_getElem hi] at hu
  cases hu
  exact⟨x,List.mem_of_getElem? ex,v,rv,ru⟩
 by_cases h3:k<3
 ·rw[if_pos h3] at h
  by_cases h1:k=1
  ·refine PySem.W.kas_kind (T:=.type "int") (by omega) (λu hu=>?_) (by decide) (by decide) h
   obtain⟨x,hx,v,rx,rv⟩:=mem u hu
   have:=hk x hx
   cases rx<;>first |(exfalso;simp[kdS] at this;omega)|skip
   ·obtain⟨t,rfl⟩:=rv
    exact .now
   ·rename_i a ds vs' hq q'
    exfalso
    cases ds with
    |nil=>simp[kdS] at this;omega
    |cons d ds=>cases d<;>simp[kdS] at this<;>omega
  ·have h1:k=2:=by omega
   refine PySem.W.kas_kind (T:=.type "str") (by omega) (λu hu=>?_) (by decide) (by decide) h
   obtain⟨x,hx,v,rx,rv⟩:=mem u hu
   have:=hk x hx
   cases rx<;>first |(exfalso;simp[kdS] at this;omega)|skip
   ·obtain⟨t,rfl⟩:=rv
    exact .now
   ·rename_i a ds vs' hq q'
    exfalso
    cases ds with
    |nil=>simp[kdS] at this;omega
    |cons d ds=>cases d<;>simp[kdS] at this<;>omega
 ·rw[if_neg h3] at h
  have T:∃T:Value,(T=.type "int"\/T=.type "str")/\∀x∈l,∃d ds,x=.tup (d::ds)/\((T=.type "int"/\∃i,d=.int i)\/(T=.type "str"/\∃i,d=.str i)):=by
   by_cases h4:k=3
   ·refine⟨.type "int",.inl rfl,λx hx=>?_⟩
    have:=hk x hx
    cases x<;>first |(exfalso;simp[kdS] at this;omega)|skip
    rename_i ds
    cases ds with
    |nil=>exfalso;simp[kdS] at this;omega
    |cons d ds=>cases d<;>first |(exfalso;simp[kdS] at this;omega)|exact⟨_,_,rfl,.inl ⟨rfl,_,rfl⟩⟩
   ·refine⟨.type "str",.inr rfl,λx hx=>?_⟩
    have:=hk x hx
    cases x<;>first |(exfalso;simp[kdS] at this;omega)|skip
    rename_i ds
    cases ds with
    |nil=>exfalso;simp[kdS] at this;omega
    |cons d ds=>cases d<;>first |(exfalso;simp[kdS] at this;omega)|exact⟨_,_,rfl,.inr ⟨rfl,_,rfl⟩⟩
  obtain⟨T,hT,hl⟩:=T
  have go:∀{l:List D}{vs:List V}{its:List Value},(∀x∈l,∃d ds,x=.tup (d::ds)/\((T=.type "int"/\∃i,d=.int i)\/(T=.type "str"/\∃i,d=.str i)))->RDs X.K m H l vs->Vals vs its->
   ∃fs,PySem.W.KatTups s'.heap its fs/\fs.length=l.length/\∀f∈fs,PySem.W.Looks (model prog w) s'.heap (typeOf f) T:=by
   intro l
   induction l with
   |nil=>
    intro vs its _ q p
    cases q;cases p
    exact⟨[],trivial,rfl,λf hf=>by cases hf⟩
   |cons x l ih=>
    intro vs its hl q p
    cases q with
    |cons r q=>
     cases p with
     |cons sv p=>
      obtain⟨fs,f1,f2,f3⟩:=ih (λy hy=>hl y (List.mem_cons_of_mem _ hy)) q p
      obtain⟨d,ds,rfl,hd⟩:=hl x List.mem_cons_self
      obtain⟨a,vs',its',rfl,q',p',t'⟩:=qzs I r sv
      obtain⟨o,g1,g2,n,g3⟩:=qzc hn kp t'
      cases q' with
      |cons rd q'=>
       cases p' with
       |cons sd p'=>
        rename_i u us
        refine⟨u::fs,PySem.W.KatTups.cons g1 g2 g3 (by simp) f1,by simp[f2],λf hf=>?_⟩
        rcases List.mem_cons.mp hf with rfl|hf
        ·rcases hd with ⟨rfl,i,rfl⟩|⟨rfl,i,rfl⟩
         ·cases rd;obtain⟨t,rfl⟩:=sd;exact .now
         ·cases rd;obtain⟨t,rfl⟩:=sd;exact .now
        ·exact f3 f hf
  obtain⟨fs,f1,f2,f3⟩:=go hl q p
  refine PySem.W.kat_kind f1 (by omega) f3 (by rcases hT with rfl|rfl<;>decide) ?_
  rw[show(T != Value.type "tuple")=true by rcases hT with rfl|rfl<;>decide]
  exact h
theorem wzT(I:Inv X pins σ H s){h:Hh}(w:Wd X.K m h H){a:Addr}{l l':List D}{vs:List V}(hq:SqL X.K H a vs)(q:RDs X.K m H l vs)(h2:2<=l.length)(h64:l.length<64){k:Nat}(k0:k≠0)(hk:∀x∈l,kdS x=k)(hp:l'.Perm l)(hs:l'.Pairwise (Bef ltK)){Q:VK}
 (c:∀(p:Addr)(us:List V),H p=none->RDs X.K m H l' us->us.length<=sizeLine->Q (.ref p) (upd H p (.lst us))):wpAny (model X.prog X.w) X.A (call (.builtin "sorted") [.ref a]) (EP X pins σ Q) X.xe s:=by
 obtain⟨its,p1,t1,_⟩:=I.list hq
 have l1:=q.length
 have l2:=p1.length
 obtain⟨mm,F⟩:=I.fr
 have hL:H X.env.locals=none:=I.free
 refine PySem.W.kat_sorted F (news_all (g:=X.base)) t1.isList (by omega) (by omega) λDn e1 h' F' N' ltD=>?_
 have D0:=N' (Dn,seqObj "list" #[] e1) List.mem_cons_self
 have notD:∀b o,s.heap.get? b=some o->b≠Dn:=λb o e z=>by
  subst z
  exact Nat.lt_irrefl _ (ltD (b,o) (jz0 D0.2.1 D0.2.2 e))
 have HD:H Dn=none:=by
  cases e:H Dn with
  |none=>rfl
  |some o=>
   obtain⟨u,hu⟩:=vzI (I.hok Dn o e)
   exact absurd rfl (notD Dn u hu)
 have kp:∀b o,b≠X.env.locals->s.heap.get? b=some o->h'.get? b=some o:=λb o hb e=>by
  cases z:X.base.get? b with
  |some u=>
   have:=I.bk b u z
   rw[e] at this;cases this
   exact F'.keep b _ z
  |none=>exact(N' (b,o) (List.mem_cons_of_mem _ (jz0 hb z e))).1
 refine kind_ok I (s':={s with heap:=h'}) kp h2 hk k0 q p1 ?_
 let L:Nat->Nat->Bool:=λi j=>decide (i≠j)&&(ltK (l.getD i .non) (l.getD j .non)==some true)
 have hne:∀i,L i i=false:=λi=>by simp[L]
 have hL':∀(i j:Nat)(x y:D),l[i]? =some x->l[j]? =some y->i≠j->(L i j=true↔ltK x y=some true):=λi j x y ex ey ne=>by
  simp[L,ne,ex,ey,List.getD_eq_getElem?_getD]
 have so:=so_of hp hs hne hL'
 have it1:its.length=l.length:=by omega
 rw[it1]
 refine KOk.wp (λi j C hi hj ne hC=>?_) (sort_ok so h2) λp ⟨hv,hsd⟩=>?_
 ·have ex:l[i]? =some l[i]:=List.getElem?_eq_getElem hi
  have ey:l[j]? =some l[j]:=List.getElem?_eq_getElem hj
  obtain⟨vx,hvx,rx⟩:=q.get ex
  obtain⟨vy,hvy,ry⟩:=q.get ey
  obtain⟨ux,hux,sx⟩:=p1.get hvx
  obtain⟨uy,huy,sy⟩:=p1.get hvy
  have lt:ltK l[i] l[j]=some (L i j):=by
   obtain⟨a1,b1⟩:=jz3 hp ex
   obtain⟨a2,b2⟩:=jz3 hp ey
   have nd:l.Nodup:=hp.nodup_iff.mp (wzg hs)
   have na:a1≠a2:=λz=>by
    subst z;rw[b1] at b2
    have e2:=Option.some.inj b2
    exact ne (qzd nd ex (by rw[e2];exact ey))
   rcases Nat.lt_or_gt_of_ne na with z|z
   ·have bf:=(ch_lt hs b1 b2 na).2 z
    rw[bf.1,(hL' i j _ _ ex ey ne).mpr bf.1]
   ·have bf:=(ch_lt hs b2 b1 (Ne.symm na)).2 z
    have:L i j=false:=by
     cases e:L i j with
     |false=>rfl
     |true=>
      have:=(hL' i j _ _ ex ey ne).mp e
      rw[bf.2] at this;cases this
    rw[bf.2,this]
  show wpAny _ _ (keyLt' _ (its.getD i Value.none) (its.getD j Value.none)) C _ _
  rw[qze hux,qze huy]
  exact ask_ok I (s':={s with heap:=h'}) kp rfl (hk _ (List.mem_of_getElem? ex)) (hk _ (List.mem_of_getElem? ey)) k0 rx ry sx sy lt hC
 ·have pl:∀i∈p.toList,i<l.length:=λi hi=>List.mem_range.mp (hv.mem_iff.mp hi)
  have out:=out_of hp hs hL' hv hsd D.non
  have rd:=q.pick p.toList pl
  rw[out] at rd
  have vl:=wzi p1 p.toList (λi hi=>by have:=pl i hi;omega)
  have hz:=hv.size
  have lz:(p.toList.map λi=>vs.getD i .non).length<=sizeLine:=by rw[List.length_map,Array.length_toList,hz,sizeLine_eq];omega
  refine⟨_,_,F',N',.head (λr hr=>Nat.ne_of_lt (ltD r hr)),λh2 cc F2 N2=>?_⟩
  have kp2:∀b o,b≠X.env.locals->s.heap.get? b=some o->h2.get? b=some o:=λb o hb e=>by
   cases z:X.base.get? b with
   |some u=>
    have:=I.bk b u z
    rw[e] at this;cases this
    exact F2.keep b _ z
   |none=>exact(N2 (b,o) (List.mem_cons_of_mem _ (jz0 hb z e))).1
  have D2:=N2 (Dn,_) List.mem_cons_self
  have tr:∀b o,H b=some o->b≠Dn/\b≠X.env.locals:=λb o e=>⟨(λz=>by rw[z,HD] at e;cases e),(λz=>by rw[z,hL] at e;cases e)⟩
  suffices IX:Inv X pins σ (upd H Dn (.lst (p.toList.map λi=>vs.getD i .non))) {s with heap:=h2,gens:=s.gens,drawn:=s.drawn,toks:=s.toks} from
   ⟨.ref Dn,upd H Dn (.lst (p.toList.map λi=>vs.getD i .non)),IX,rfl,c Dn _ HD rd lz⟩
  refine L2.Inv.step (s:=s) (g':=s.gens) (d':=s.drawn) (t':=s.toks) (ch:= []) I (λ_ z=>nomatch z) (λb o hb _ _ e _=>kp2 b o hb e) (λb o hb _ _ e _=>⟨o.slots,kp2 b o hb e⟩) (λb o _ e n=>by rw[jzi (notD b o e)];exact n) (λb o _ e=>?_) (λb xs e=>by rw[jzi (tr b _ e).1];exact e) (λb o u e=>by rw[jzi (tr b _ e).1];exact e)
   (λb ps e=>⟨#[],by rw[jzi (tr b _ e).1,e];simp⟩) (λm' hm=>?_) (λb o e=>?_) I.bare
  ·by_cases hb:b=X.env.locals
   ·subst hb
    obtain⟨o',_,_,e',_⟩:=F2.ns
    exact⟨o',e'⟩
   ·exact⟨o,kp2 b o hb e⟩
  ·have:m'=mm:=funext λx=>hm.agree F.ns x
   rw[this];exact F2.ns
  ·by_cases hb:b=Dn
   ·subst hb
    rw[jzq] at e
    cases e
    exact⟨lz,_,cc,vl,D2.1⟩
   ·rw[jzi hb] at e
    refine(I.hok b o e).stay (λb' u hb' e'=>kp2 b' u ?_ e') (λb' e'=>by rw[jzi (tr b' _ e').1];exact e') λb' xs e'=>by rw[jzi (tr b' _ e').1];exact e'
    rcases hb' with z|z
    ·rw[z];exact(tr b _ e).2
    ·exact(tr b' _ z).2
end
end Ng
end
section
namespace Ng
open PySem PySem.Spec PyProof.Rows L2
section
variable {X:Cx}
def tyName:D->Hh->Option String
 |.non,_=>some "NoneType"
 |d,h=>(tyD d h).map Ty.nm
theorem wzb{K:PySem.W.Frag}{d:D}{h:Hh}{T:String}{b:Bool}(e:isinD d T h=some b):∃t,tyName d h=some t/\PySem.W.kitOne K (.type t) (.type T)=some b:=by
 unfold isinD at e
 split at e
 ·split at e
  ·rename_i hT
   have eb:=Option.some.inj e
   subst eb
   refine⟨"NoneType",rfl,?_⟩
   simp[tyNames] at hT
   rcases hT with rfl|rfl|rfl|rfl|rfl|rfl<;>rfl
  ·cases e
 ·rename_i hn
  split at e
  ·rename_i t et
   split at e
   ·rename_i hT
    have eb:=Option.some.inj e
    subst eb
    refine⟨t.nm,?_,?_⟩
    ·cases d<;>first |(exact absurd rfl hn)|(simp[tyName,et])
    ·simp[tyNames] at hT
     cases t<;>rcases hT with rfl|rfl|rfl|rfl|rfl|rfl<;>rfl
   ·cases e
  ·cases e
theorem kia_D{pins:List (Addr×Obj)}{σ:Sg}{H:Hp}{s:Shared}{m:List Addr}{h:Hh}(I:Inv X pins σ H s)(w:Wd X.K m h H){d:D}{v:V}{u:Value}{t:String}(r:RD X.K m H d v)(rv:RelV v u)(e:tyName d h=some t):
 ∃P:Heap->Prop,PySem.W.KitX X.K u (.type t) P/\P s.heap/\u≠ .builtin "__main__.__loader__#opaque":=by
 cases r with
 |non=>cases rv;cases e;exact⟨_,PySem.W.kitx_none,trivial,λz=>nomatch z⟩
 |bl c=>cases rv;cases e;exact⟨_,PySem.W.kitx_bool,trivial,λz=>nomatch z⟩
 |int i=>obtain⟨t',rfl⟩:=rv;cases e;exact⟨_,PySem.W.kitx_int,trivial,λz=>nomatch z⟩
 |str x=>obtain⟨t',rfl⟩:=rv;cases e;exact⟨_,PySem.W.kitx_str,trivial,λz=>nomatch z⟩
 |ty n=>cases e
 |tup h1 q=>
  cases rv;cases e
  obtain⟨its,p1,⟨o,h2,h3,_⟩,_⟩:=I.tuple h1
  exact⟨_,PySem.W.kitx_tuple,⟨o,h2,h3⟩,λz=>nomatch z⟩
 |ref ha=>
  rename_i n a
  cases rv
  simp only[tyName,tyD] at e
  cases z:lstAt h n with
  |none=>
   rw[z] at e
   cases y:h[n]? with
   |none=>rw[y] at e;cases e
   |some ob=>
    rw[y] at e
    cases ob<;>first |(cases e;done)|skip
    rename_i l
    have e':"dict"=t:=Option.some.inj e
    subst e'
    obtain⟨us,q1,_⟩:RO X.K m H a (.dct l):=w.ob n _ a y ha
    obtain⟨_,_,vs,_,o,es,ep,h2,h3,_⟩:ObjOk X.prog X.w H s.heap a (.dK us):=I.hok a _ q1
    exact⟨_,PySem.W.kitx_dict,⟨o,h2,h3.1⟩,λz=>nomatch z⟩
  |some l=>
   rw[z] at e
   have e':"list"=t:=Option.some.inj e
   subst e'
   obtain⟨a',vs,ha',hq,q⟩:=w.lst z
   rw[ha] at ha';cases ha'
   obtain⟨its,p1,⟨o,k,h2,h3,_⟩,_⟩:=I.list hq
   exact⟨_,PySem.W.kitx_list,⟨o,h2,h3⟩,λz=>nomatch z⟩
theorem vals2R{x y:V}{us:List Value}(r:Vals [x,y] us):∃u v,us=[u,v]/\RelV x u/\RelV y v:=by
 cases r with
 |cons a t=>cases t with
  |cons b t=>cases t;exact⟨_,_,rfl,a,b⟩
theorem qzu{K:PySem.W.Frag}{m:List Addr}{H:Hp}{k:D->Hh->Rs D}{ds:List D}{xs:List V}{h h':Hh}{d:D}(r:RDs K m H ds xs)(e:one k ds h=.ok d h'):∃x v,xs=[v]/\RD K m H x v/\k x h=.ok d h':=by
 cases r with
 |nil=>cases e
 |cons r1 r=>
  cases r with
  |nil=>exact⟨_,_,rfl,r1,e⟩
  |cons=>cases e
theorem two_of{K:PySem.W.Frag}{m:List Addr}{H:Hp}{k:D->D->Hh->Rs D}{ds:List D}{xs:List V}{h h':Hh}{d:D}(r:RDs K m H ds xs)(e:two k ds h=.ok d h'):∃x y v u,xs=[v,u]/\RD K m H x v/\RD K m H y u/\k x y h=.ok d h':=by
 cases r with
 |nil=>cases e
 |cons r1 r=>
  cases r with
  |nil=>cases e
  |cons r2 r=>
   cases r with
   |nil=>exact⟨_,_,_,_,rfl,r1,r2,e⟩
   |cons=>cases e
theorem vzg{K:PySem.W.Frag}{m:List Addr}{H:Hp}:∀{ds:List D}{vs:List V}{us:List Value}{Ts:List String},RDs K m H ds vs->Vals vs us->tysOf ds=some Ts->us=Ts.map Value.type
 |_,_,_,_,.nil,.nil,e=>by
  have e':=Option.some.inj e
  subst e'
  rfl
 |_,_,_,_,.cons r q,.cons v t,e=>by
  cases r<;>first |(cases e;done)|skip
  simp only[tysOf] at e
  split at e
  ·rename_i l el
   have e':=Option.some.inj e
   subst e'
   cases v
   rw[vzg q t el]
   rfl
  ·cases e
theorem qzB{K:PySem.W.Frag}{d:D}{h:Hh}{t:String}(et:tyName d h=some t):∀{Ts:List String}{b:Bool},isinAny d h Ts=some b->PySem.W.kitAny K (.type t) (Ts.map Value.type)=some b
 | [],b,e=>e
 |T::r,b,e=>by
  simp only[isinAny] at e
  split at e
  ·rename_i a c e1 e2
   have e':=Option.some.inj e
   subst e'
   obtain⟨t',et',ek⟩:=wzb (K:=K) e1
   rw[et] at et';cases et'
   have ih:=qzB (K:=K) et e2
   simp only[List.map_cons,PySem.W.kitAny,ek,ih]
   cases a<;>rfl
  ·cases e
def Blt.val:Blt->Value
 |.len=>.builtin "len"|.isinst=>.builtin "isinstance"|.int=>.type "int"|.list=>.type "list"|.sorted=>.builtin "sorted"|.all=>.builtin "all"|.tup=>.type "tuple"
theorem vzs{K:PySem.W.Frag}{m:List Addr}{H:Hp}:∀{ds:List D}{vs:List V}{l:List Int},RDs K m H ds vs->intsD ds=some l->vs=l.map V.int
 |_,_,_,.nil,e=>by cases e;rfl
 |_,_,l,.cons r t,e=>by
  cases r<;>first |(cases e;done)|skip
  rename_i i
  simp only[intsD,Option.map_eq_some_iff] at e
  obtain⟨l',e1,rfl⟩:=e
  rw[vzs t e1]
  rfl
theorem qzR{m:List Addr}{h:Hh}{H:Hp}{K:PySem.W.Frag}(w:Wd K m h H){d:D}{v:V}{l:List D}(r:RD K m H d v)(hl:isLst d h=true)(e:seqD d h=some l):∃p vs,v=.ref p/\SqL K H p vs/\RDs K m H l vs:=by
 cases r<;>first |(cases hl;done)|skip
 rename_i n a ha
 obtain⟨a',vs,ha',hq,q⟩:=w.lst (show lstAt h n=some l from e)
 rw[ha] at ha';cases ha'
 exact⟨a,vs,rfl,hq,q⟩
theorem sortBlt:CallR X (.builtin "sorted") (rDc X.K (one srtL)):=by
 intro pins s σ H xs us Q I rs q
 obtain⟨m,h,ds,d,h',w,r,e,c⟩:=q
 obtain⟨x,v,rfl,r1,e⟩:=qzu r e
 unfold srtL at e
 split at e
 ·rename_i l hl el
  split at e
  ·rename_i l' es
   simp at e
   obtain⟨rfl,rfl⟩:=e
   obtain⟨⟨h64,hk⟩,hp,hs⟩:=srtD_of es
   obtain⟨p,vs,rfl,hq,q⟩:=qzR w r1 hl el
   obtain⟨u,rfl,ru⟩:=vals1 rs
   cases ru
   have fin:∀(p:Addr)(us:List V),H p=none->RDs X.K m H l' us->us.length<=sizeLine->Q (.ref p) (upd H p (.lst us)):=λp us hp rd _=>by
    obtain⟨w2,g2⟩:=w.lstNew hp rd
    exact c _ _ _ g2 w2 (.ref (by rw[<- w.len];simp))
   by_cases h2:2<=l.length
   ·rcases hk with z|⟨k,k0,hk⟩
    ·omega
    ·exact wzT I w hq q h2 h64 k0 hk hp hs fin
   ·obtain⟨its,p1,t1,_⟩:=I.list hq
    have l1:=q.length
    have l2:=p1.length
    have ell:l'=l:=by
     have:=hp.length_eq
     rcases l with _|⟨x,_|⟨y,l⟩⟩
     ·exact List.perm_nil.mp hp
     ·exact List.perm_singleton.mp hp
     ·simp at h2
    subst ell
    refine vzF t1.isList (by omega) ?_
    obtain⟨e1,ho⟩:=sortedAll_at s.heap its its.toArray
    have kp:∀b o,s.heap.get? b=some o->(sortedAll s.heap its its.toArray).get? b=some o:=λb o e=>sortedAll_old e
    have fr:H (s.heap.objs.size+1)=none:=I.hok.fresh (Nat.le_succ _)
    have lz:vs.length<=sizeLine:=by rw[sizeLine_eq];omega
    exact⟨.ref _,_,I.laid (t':=s.toks) (o:=.lst vs) kp (Nat.le_succ _) ⟨lz,its,e1,p1,ho⟩,rfl,fin _ vs fr q lz⟩
  ·cases e
 ·cases e
theorem zz3{K:PySem.W.Frag}{m:List Addr}{H:Hp}:∀{ds:List D}{vs:List V}{us:List Value}{l:List Bool},RDs K m H ds vs->Vals vs us->blsD ds=some l->us=l.map Value.bool
 |_,_,_,_,.nil,.nil,e=>by cases e;rfl
 |_,_,_,_,.cons r q,.cons v t,e=>by
  cases r<;>first |(cases e;done)|skip
  simp only[blsD,Option.map_eq_some_iff] at e
  obtain⟨l,e1,rfl⟩:=e
  cases v
  rw[zz3 q t e1]
  rfl
theorem vz7{bs:List Bool}:(List.range bs.length).all (λi=>bs.getD i false)=bs.all id:=by
 induction bs with
 |nil=>rfl
 |cons b bs ih=>
  rw[List.length_cons,List.range_succ_eq_map,List.all_cons,List.all_map,List.all_cons]
  congr 1
theorem allBlt(hc:X.calm=true):CallR X (.builtin "all") (rDc X.K (one allL)):=by
 intro pins s σ H xs us Q I rs q
 obtain⟨m,h,ds,d,h',w,r,e,c⟩:=q
 obtain⟨x,v,rfl,r1,e⟩:=qzu r e
 unfold allL at e
 split at e
 ·rename_i l hl el
  split at e
  ·rename_i bs eb
   simp at e
   obtain⟨rfl,rfl⟩:=e
   obtain⟨p,vs,rfl,hq,q⟩:=qzR w r1 hl el
   obtain⟨u,rfl,ru⟩:=vals1 rs
   cases ru
   obtain⟨its,p1,t1,_⟩:=I.list hq
   have ei:=zz3 q p1 eb
   subst ei
   refine call_all_walk (wpAny_pyIter_list t1.isList ?_)
   obtain⟨h1,h2,h3,h4⟩:=listWalk (A:=X.A.in1) (prog:=X.prog) (w:=X.w) (s:=s) (I.ok.hd hc) t1.isList
   refine⟨_,_,_,_,_,_,λi=>bs.getD i false,rfl,h1,h2,?_,λg tk kp=>⟨.bl (bs.all id),H,I.kept (h4 g kp),?_,c m _ H Gr.refl w (.bl _)⟩⟩
   ·intro i v s' Q' E' hv hQ
    have hv':(bs.map Value.bool)[i]? =some v:=by simpa using hv
    rw[List.getElem?_map,Option.map_eq_some_iff] at hv'
    obtain⟨b,hb,rfl⟩:=hv'
    have:bs.getD i false=b:=by rw[List.getD_eq_getElem?_getD,hb];rfl
    have hQ':Q' (bs.getD i false) s':=hQ
    rw[this] at hQ'
    exact wpAny_truthy_bool hQ'
   ·have:(bs.map Value.bool).toArray.size=bs.length:=by simp
    rw[this,vz7];rfl
  ·cases e
 ·cases e
theorem callBlt(hc:X.calm=true)(hr:∃k,Room k X.A)(f:Blt):CallR X f.val (rDc X.K (bltD f)):=by
 by_cases hm2:f=.sorted
 ·subst hm2;exact sortBlt
 by_cases hm3:f=.all
 ·subst hm3;exact allBlt hc
 intro pins s σ H xs us Q I rs q
 obtain⟨m,h,ds,d,h',w,r,e,c⟩:=q
 have fin:∀z,RD X.K m H d z->h=h'->Q z H:=λz rz eh=>by subst eh;exact c m z H Gr.refl w rz
 cases f with
 |sorted=>exact absurd rfl hm2
 |len=>
  obtain⟨x,v,rfl,r1,e⟩:=qzu r e
  unfold lenL at e
  split at e
  ·rename_i l el
   simp at e
   obtain⟨rfl,rfl⟩:=e
   obtain⟨p,vs,rfl,hq,q⟩:=wzq w r1 el
   refine wzH pins s σ H _ us Q I rs ⟨p,vs,rfl,hq,?_⟩
   rw[<- q.length]
   exact fin _ (.int _) rfl
  ·split at e
   ·split at e
    ·rename_i hz
     cases e
     cases r1
     exact wzG pins s σ H _ us Q I rs ⟨_,rfl,hz,fin _ (.int _) rfl⟩
    ·cases e
   ·split at e
    ·rename_i l el
     simp at e
     obtain⟨rfl,rfl⟩:=e
     obtain⟨n,a,xs,us',o,es,ep,rfl,rfl,hn,ha,hf,df,go,hk,hks,rv,vv,dd⟩:=zzF I w r1 el
     obtain⟨u,rfl,ru⟩:=vals1 rs
     cases ru
     obtain⟨d1,d2,d3,d4,⟨P,w',d5⟩,d6⟩:=df
     have ez:es.size=l.length:=by
      have z1:=congrArg List.length d5
      have z2:=congrArg List.length hk
      simp at z1 z2
      omega
     have zl:l.length=xs.length:=by have z2:=congrArg List.length hk;simpa using z2
     refine zz0 d1 go d3 d4 (by omega) ⟨.int es.size,H,I.tok _,⟨_,rfl⟩,?_⟩
     rw[ez]
     exact fin _ (.int _) rfl
    ·split at e
     ·rename_i l el
      simp at e
      obtain⟨rfl,rfl⟩:=e
      obtain⟨n,a,kvs,rfl,rfl,hn,ha,hH,q2,_⟩:=jzH w r1 el
      have ll:l.length=kvs.length:=by have:=congrArg List.length q2;simpa using this
      refine zzZ pins s σ H _ _ Q I rs ⟨a,kvs,rfl,hH,?_⟩
      rw[<- ll]
      exact fin _ (.int _) rfl
     ·cases e
 |all=>exact absurd rfl hm3
 |tup=>
  obtain⟨x,v,rfl,r1,e⟩:=qzu r e
  unfold tupL at e
  split at e
  ·rename_i l hl el
   simp at e
   obtain⟨rfl,rfl⟩:=e
   obtain⟨p,vs,rfl,hq,q⟩:=qzR w r1 hl el
   exact wzh pins s σ H _ us Q I rs ⟨p,vs,rfl,.inl ⟨hq,λa ha=>c m _ _ (Gr.tupNew ha) (w.keepNew ha) (.tup (.of jzq) (q.mono (Gr.tupNew ha)))⟩⟩
  ·cases e
 |int=>
  obtain⟨x,v,rfl,r1,e⟩:=qzu r e
  cases r1<;>first |(cases e;done)|skip
  ·cases e
   exact wzI pins s σ H _ us Q I rs (.inr ⟨_,rfl,fin _ (.int _) rfl⟩)
  ·cases e
   exact wzI pins s σ H _ us Q I rs (.inl ⟨_,rfl,fin _ (.int _) rfl⟩)
 |list=>
  obtain⟨x,v,rfl,r1,e⟩:=qzu r e
  unfold listL at e
  split at e
  ·rename_i l el
   simp at e
   obtain⟨rfl,rfl⟩:=e
   obtain⟨p,vs,rfl,hq,q⟩:=wzq w r1 el
   refine wzF pins s σ H _ us Q I rs ⟨p,vs,rfl,hq,λa ha=>?_⟩
   obtain⟨w2,g2⟩:=w.lstNew ha q
   exact c _ _ _ g2 w2 (.ref (by rw[<- w.len];simp))
  ·cases e
 |isinst=>
  obtain⟨x,y,v,u,rfl,r1,r2,e⟩:=two_of r e
  obtain⟨u1,u2,rfl,rv1,rv2⟩:=vals2R rs
  cases r2<;>first |(cases e;done)|skip
  ·rename_i T
   cases rv2
   simp only[isinL] at e
   split at e
   ·rename_i b eb
    simp at e
    obtain⟨rfl,rfl⟩:=e
    obtain⟨t,et,ek⟩:=wzb (K:=X.K) eb
    obtain⟨P,Z,hP,hx⟩:=kia_D I w r1 rv1 et
    exact PySem.W.kia_one Z I.kIn hP ek hx λtk=>⟨.bl b,H,I.tok tk,rfl,fin _ (.bl b) rfl⟩
   ·cases e
  ·rename_i a ds vs h1 q1
   cases rv2
   simp only[isinL] at e
   split at e
   ·cases e
   ·rename_i T Ts eT
    split at e
    ·rename_i b eb
     simp at e
     obtain⟨rfl,rfl⟩:=e
     have e1:∃k,isinD x T h=some k:=by
      simp only[isinAny] at eb
      split at eb
      ·rename_i z _;exact⟨_,z⟩
      ·cases eb
     obtain⟨k,e1⟩:=e1
     obtain⟨t,et,_⟩:=wzb (K:=X.K) e1
     obtain⟨P,Z,hP,hx⟩:=kia_D I w r1 rv1 et
     obtain⟨its,p1,⟨⟨oc,od,odt,osl⟩,h2,h3,n,h4⟩,_⟩:=I.tuple h1
     simp only at h3 h4
     subst h3 h4
     rw[vzg q1 p1 eT] at h2
     exact PySem.W.kia_tup Z I.kIn hP h2 (qzB et eb) hx λtk=>⟨.bl b,H,I.tok tk,rfl,fin _ (.bl _) rfl⟩
    ·cases e
   ·cases e
end
end Ng
end
section
namespace Ng
open PySem PySem.Spec PyProof.Rows L2
section
variable {X:Cx}{N:List Str}{sc:Scope}{G:Gs}{cl:Cl}
theorem visB_ok{x:Str}(h:visB sc x=true):Vis sc x:=by
 unfold visB at h
 split at h
 ·rename_i e;exact .inl e
 ·rename_i e;exact .inr (.inl e)
 ·rename_i e;exact .inr (.inr e)
 ·cases h
theorem qz9{x:Str}(h:locB sc x=true):Loc sc x:=by
 unfold locB at h
 split at h
 ·rename_i e;exact .inl e
 ·rename_i e;exact .inr e
 ·cases h
theorem qzl(xo:XOk X N sc){x:Str}(h:glB sc x=true):Gl X x:=by
 unfold glB at h
 split at h
 ·rename_i e
  show X.env.scope.names.lookup x=some .globalImplicit
  rw[xo.s];exact e
 ·cases h
theorem qz8{x:Str}(h:noDbg x=true):(x==("__debug__":Str))=false/\(x==("__classdict__":Str))=false/\x≠"__name__":=by
 unfold noDbg at h
 simp only[Bool.and_eq_true,Bool.not_eq_true'] at h
 exact⟨h.1.1,h.1.2,λz=>by have:=h.2;rw[z] at this;simp at this⟩
theorem tOf{e:PySem.Expr}{f:Ev->Hh->Rs D}(h:PE X e (TDE X.K f))(he:∀whole,isTrue e X.env whole=(do let v <- whole;standAt e.pos;holding [v] (truthy v))):PT X e (TDT X.K f):=
 L2.PT.wk (pt_truth h he) λs H Q ⟨m,r,hh,d,h',b,w,st,e1,eb,c⟩=>⟨m,r,hh,d,h',w,st,e1,λm' v H' g w' rd=>⟨b,qzN w' rd eb,c m' H' g w'⟩⟩
theorem inK_bl{x d:D}{l:List (Key×D)}{n:Bool}{h h':Hh}(e:inK x l n h=.ok d h'):∃k,d=.bl k:=by
 unfold inK at e
 split at e<;>first |(cases e;exact⟨_,rfl⟩)|(cases e;done)
theorem inD_bl{x d:D}{l:List D}{n:Bool}{h h':Hh}(e:inD x l n h=.ok d h'):∃k,d=.bl k:=by
 unfold inD at e
 split at e<;>first |(cases e;exact⟨_,rfl⟩)|(cases e;done)
theorem cmpD_bl{op:Cop}{x y d:D}{h h':Hh}(e:cmpD op x y h=.ok d h'):∃k,d=.bl k:=by
 unfold cmpD at e
 repeat' split at e
 all_goals first
  |(cases e;exact⟨_,rfl⟩)
  |exact inK_bl e
  |exact inD_bl e
  |(cases e;done)
def tAndG(K:PySem.W.Frag)(ta tb:TE):TE:=λσ H Q=>ta σ H λx H1=>∃k,TruV K x H1 k/\if k=true then tb σ H1 Q else Q x H1
def tOrG(K:PySem.W.Frag)(ta tb:TE):TE:=λσ H Q=>ta σ H λx H1=>∃k,TruV K x H1 k/\if k=true then Q x H1 else tb σ H1 Q
def tNotG(K:PySem.W.Frag)(ta:TE):TE:=λσ H Q=>ta σ H λx H1=>∃k,TruV K x H1 k/\Q (.bl (!k)) H1
theorem qz2{pins:List (Addr×Obj)}{s:Shared}{σ:Sg}{H:Hp}{x:V}{v:Value}{k:Bool}{Q:Bool->Shared->Prop}(I:Inv X pins σ H s)(r:RelV x v)(t:TruV X.K x H k)(h:∀s',Inv X pins σ H s'->Q k s'):wpAny (model X.prog X.w) X.A (truthy v) Q X.xe s:=
 thn (tru_ok pins s σ H x v (λb H'=>b=k/\H'=H) I r ⟨k,t,rfl,rfl⟩) λb s' ⟨H',I',e1,e2⟩=>by subst e1;subst e2;exact h s' I'
theorem pe_andG{a b:PySem.Expr}{rest:List PySem.Expr}{pos:Pos}{ta tb:TE}(ha:PE X a ta)(hb:PE X (.BoolOp .And (b::rest) pos) tb):PE X (.BoolOp .And (a::b::rest) pos) (tAndG X.K ta tb):=by
 intro pins s σ H Q I h
 refine BoolOp_and (thn (ha pins s σ H _ I h) λv s1 ⟨x,H1,I1,r1,k,t,q1⟩=>?_)
 refine qz2 I1 r1 t λs2 I2=>?_
 cases k with
 |true=>exact hb pins s2 σ H1 Q I2 q1
 |false=>exact⟨x,H1,I2,r1,q1⟩
theorem pe_orG{a b:PySem.Expr}{rest:List PySem.Expr}{pos:Pos}{ta tb:TE}(ha:PE X a ta)(hb:PE X (.BoolOp .Or (b::rest) pos) tb):PE X (.BoolOp .Or (a::b::rest) pos) (tOrG X.K ta tb):=by
 intro pins s σ H Q I h
 refine BoolOp_or (thn (ha pins s σ H _ I h) λv s1 ⟨x,H1,I1,r1,k,t,q1⟩=>?_)
 refine qz2 I1 r1 t λs2 I2=>?_
 cases k with
 |false=>exact hb pins s2 σ H1 Q I2 q1
 |true=>exact⟨x,H1,I2,r1,q1⟩
theorem pe_notG{a:PySem.Expr}{pos:Pos}{ta:TE}(ha:PE X a ta):PE X (.UnaryOp .Not a pos) (tNotG X.K ta):=by
 intro pins s σ H Q I h
 refine UnaryOp_ (thn (ha pins s σ H _ I h) λv s1 ⟨x,H1,I1,r1,k,t,q1⟩=>?_)
 exact not_of (qz2 I1 r1 t λs2 I2=>⟨.bl (!k),H1,I2,rfl,q1⟩)
theorem pw_of{op:BoolOp}{vs:List PySem.Expr}{pos:Pos}{t:TT}(h:PT X (.BoolOp op vs pos) t):PW X (.BoolOp op vs pos) t:=λwh pins s σ H Q I q=>by
 have:=h pins s σ H Q I q
 exact this
theorem jzn{e:PySem.Expr}(es:List PySem.Expr)(h:noStar e=true):starEach (e::es) X.env=(false,eval e X.env)::starEach es X.env:=by
 cases e<;>first |rfl|(cases h;done)
end
end Ng
end
section
namespace Ng
open PySem PySem.Spec PyProof.Rows L2
section
variable {X:Cx}
end
def Es.len:Es->Nat
 |.nil=>0
 |.cons _ l=>l.len+1
section
variable {X:Cx}
end
end Ng
end
section
namespace Ng
open PySem PySem.Spec PyProof.Rows L2
def clStep(env:Env)(p:Str×NameKind)(cs:List (Str×Addr)):List (Str×Addr):=if(p.2== .free)=true then(match env.cells.lookup p.1 with|some c=>(p.1,c)::cs|none=>cs) else cs
def clOf(scope:Scope)(env:Env):List (Str×Addr):=scope.names.foldl (λcs p=>clStep env p cs) []
theorem qzV{f:Str×NameKind->List (Str×Addr)->Sem (ForInStep (List (Str×Addr)))}{g:Str×NameKind->List (Str×Addr)->List (Str×Addr)}:∀(l:List (Str×NameKind))(acc:List (Str×Addr)),(∀p∈l,∀cs,f p cs=pure (.yield (g p cs)))->forIn l acc f=pure (l.foldl (λcs p=>g p cs) acc)
 | [],acc,_=>rfl
 |p::l,acc,h=>by
  rw[List.forIn_cons,h p List.mem_cons_self]
  show(forIn l (g p acc) f)=_
  rw[qzV l (g p acc) λq hq=>h q (List.mem_cons_of_mem _ hq)]
  rfl
theorem qzg{scope:Scope}{env:Env}(h:∀p∈scope.names,p.2=.free->∃c,env.cells.lookup p.1=some c):closureFor scope env=pure (clOf scope env):=by
 simp only[closureFor]
 rw[qzV (g:=clStep env) scope.names [] (λp hp cs=>by
  obtain⟨n,k⟩:=p
  cases hk:(k==NameKind.free) with
  |false=>(simp only[hk,clStep,Bool.false_eq_true,if_false]<;>rfl)
  |true=>
   obtain⟨c,hc⟩:=h (n,k) hp (by simpa using hk)
   (simp only[hk,clStep,if_true,hc,cellOf]<;>rfl))]
 rfl
theorem cl_mem{env:Env}:∀(l:List (Str×NameKind))(acc:List (Str×Addr)),(∀q∈acc,env.cells.lookup q.1=some q.2)->∀q∈l.foldl (λcs p=>clStep env p cs) acc,env.cells.lookup q.1=some q.2
 | [],acc,h=>h
 |p::l,acc,h=>cl_mem l (clStep env p acc) λq hq=>by
  unfold clStep at hq
  split at hq
  ·split at hq
   ·rename_i c hc
    rcases List.mem_cons.mp hq with rfl|hq
    ·exact hc
    ·exact h q hq
   ·exact h q hq
  ·exact h q hq
theorem cl_sub{env:Env}:∀(l:List (Str×NameKind))(acc:List (Str×Addr))(q:Str×Addr),q∈acc->q∈l.foldl (λcs p=>clStep env p cs) acc
 | [],acc,q,h=>h
 |p::l,acc,q,h=>cl_sub l (clStep env p acc) q (by
  unfold clStep
  split
  ·split
   ·exact List.mem_cons_of_mem _ h
   ·exact h
  ·exact h)
theorem cl_has{env:Env}:∀(l:List (Str×NameKind))(acc:List (Str×Addr))(n:Str)(c:Addr),(n,NameKind.free)∈l->env.cells.lookup n=some c->(n,c)∈l.foldl (λcs p=>clStep env p cs) acc
 | [],_,_,_,h,_=>by cases h
 |p::l,acc,n,c,h,hc=>by
  rcases List.mem_cons.mp h with rfl|h
  ·refine cl_sub l (clStep env (n,NameKind.free) acc) (n,c) ?_
   unfold clStep
   rw[if_pos (by rfl)]
   simp only[hc]
   exact List.mem_cons_self
  ·exact cl_has l _ n c h hc
theorem jzI{α:Type}{n:Str}{c:α}:∀{l:List (Str×α)},(n,c)∈l->∃c',l.lookup n=some c'
 | [],h=>by cases h
 |(m,d)::l,h=>by
  cases e:n==m with
  |true=>exact⟨d,by simp[List.lookup_cons,e]⟩
  |false=>
   rcases List.mem_cons.mp h with z|z
   ·cases z;simp at e
   ·obtain⟨c',hc'⟩:=jzI z
    exact⟨c',by simp only[List.lookup_cons,e];exact hc'⟩
theorem jzz{scope:Scope}{env:Env}{n:Str}{c:Addr}(h:(clOf scope env).lookup n=some c):env.cells.lookup n=some c:=
 cl_mem scope.names [] (λ_ hq=>by cases hq) (n,c) (PySem.mem_of_lookup h)
theorem vzv{scope:Scope}{env:Env}{n:Str}{c:Addr}(h:(n,NameKind.free)∈scope.names)(hc:env.cells.lookup n=some c):(clOf scope env).lookup n=some c:=by
 obtain⟨c',hc'⟩:=jzI (cl_has scope.names [] n c h hc)
 have:=jzz hc'
 rw[hc] at this;cases this
 exact hc'
theorem wzs{scope sc:Scope}{x:Str}{k':NameKind}(h:(relab scope sc).names.lookup x=some k'):∃k,scope.names.lookup x=some k/\(k'=k\/(k=.free/\k'=.cell)):=by
 unfold relab at h
 have go:∀(l:List (Str×NameKind)),(l.map λ(n,k)=>if(k== .free&&sc.kind== .function&&sc.names.lookup n==some .cell) then(n,NameKind.cell) else(n,k)).lookup x=some k'->∃k,l.lookup x=some k/\(k'=k\/(k=.free/\k'=.cell)):=by
  intro l
  induction l with
  |nil=>intro h;simp at h
  |cons p l ih=>
   intro h
   obtain⟨n,k⟩:=p
   cases e:x==n with
   |true=>
    refine⟨k,by simp[List.lookup_cons,e],?_⟩
    simp only[List.map_cons] at h
    by_cases hc:(k== .free&&sc.kind== .function&&sc.names.lookup n==some .cell)=true
    ·rw[if_pos hc] at h
     simp only[List.lookup_cons,e] at h
     simp only[Bool.and_eq_true,beq_iff_eq] at hc
     exact .inr ⟨hc.1.1,(Option.some.inj h).symm⟩
    ·rw[if_neg hc] at h
     simp only[List.lookup_cons,e] at h
     exact .inl (Option.some.inj h).symm
   |false=>
    simp only[List.map_cons] at h
    have h':(l.map λ(n,k)=>if(k== .free&&sc.kind== .function&&sc.names.lookup n==some .cell) then(n,NameKind.cell) else(n,k)).lookup x=some k':=by
     by_cases hc:(k== .free&&sc.kind== .function&&sc.names.lookup n==some .cell)=true
     ·rw[if_pos hc] at h;simp only[List.lookup_cons,e] at h;exact h
     ·rw[if_neg hc] at h;simp only[List.lookup_cons,e] at h;exact h
    obtain⟨k2,e2,e3⟩:=ih h'
    exact⟨k2,by simp only[List.lookup_cons,e];exact e2,e3⟩
 exact go scope.names h
theorem vzG{scope sc:Scope}{x:Str}(h:scope.names.lookup x=some .free)(hk:sc.kind=.function)(hc:sc.names.lookup x=some .cell):(relab scope sc).names.lookup x=some .cell:=by
 unfold relab
 have go:∀(l:List (Str×NameKind)),l.lookup x=some .free->(l.map λ(n,k)=>if(k== .free&&sc.kind== .function&&sc.names.lookup n==some .cell) then(n,NameKind.cell) else(n,k)).lookup x=some .cell:=by
  intro l
  induction l with
  |nil=>intro h;simp at h
  |cons p l ih=>
   intro h
   obtain⟨n,k⟩:=p
   cases e:x==n with
   |true=>
    have ex:x=n:=by simpa using e
    subst ex
    simp only[List.lookup_cons,e] at h
    cases h
    simp[List.map_cons,hk,hc]
   |false=>
    simp only[List.lookup_cons,e] at h
    simp only[List.map_cons]
    by_cases hc:(k== .free&&sc.kind== .function&&sc.names.lookup n==some .cell)=true
    ·rw[if_pos hc];simp only[List.lookup_cons,e];exact ih h
    ·rw[if_neg hc];simp only[List.lookup_cons,e];exact ih h
 exact go scope.names h
theorem qzv:∀{l:List Str},nodupB l=true->l.Nodup
 | [],_=>List.nodup_nil
 |x::l,h=>by
  have h':(!l.contains x&&nodupB l)=true:=h
  simp only[Bool.and_eq_true,Bool.not_eq_true'] at h'
  refine List.nodup_cons.mpr ⟨λhx=>?_,qzv h'.2⟩
  have:=h'.1
  simp[hx] at this
structure ScOk (scope sc:Scope):Prop where
 kind:scope.kind=.function
 out:sc.kind=.function
 nd:(scope.names.map (·.1)).Nodup
 loc:∀p∈scope.names,p.2=.local->scope.names.lookup p.1=some .local
 free:∀p∈scope.names,p.2=.free->sc.names.lookup p.1=some .cell
theorem scOk_of{scope sc:Scope}(h:scOk scope sc=true):ScOk scope sc:=by
 unfold scOk at h
 simp only[Bool.and_eq_true,beq_iff_eq,List.all_eq_true,Bool.or_eq_true,Bool.not_eq_true'] at h
 obtain⟨⟨⟨h1,h2⟩,h0⟩,h3⟩:=h
 refine⟨h1,h2,qzv h0,λp hp e=>?_,λp hp e=>?_⟩
 ·rcases(h3 p hp).1 with z|z
  ·rw[e] at z;simp at z
  ·simpa using z
 ·rcases(h3 p hp).2 with z|z
  ·rw[e] at z;simp at z
  ·simpa using z
theorem qzz{α:Type}{x:Str}{k:α}:∀{l:List (Str×α)},(l.map (·.1)).Nodup->(x,k)∈l->l.lookup x=some k
 | [],_,h=>by cases h
 |(y,j)::l,nd,h=>by
  rw[List.map_cons,List.nodup_cons] at nd
  rcases List.mem_cons.mp h with e|h2
  ·cases e;simp[List.lookup_cons]
  ·have ne:(x==y)=false:=by
    rw[beq_eq_false_iff_ne]
    rintro rfl
    exact nd.1 (List.mem_map.mpr ⟨(x,k),h2,rfl⟩)
   rw[List.lookup_cons,ne]
   exact qzz nd.2 h2
theorem vz6{scope:Scope}{env:Env}{x:Str}(h:scope.names.lookup x=some .cell):(relabel scope env).names.lookup x=some .cell:=by
 unfold relabel
 have go:∀(l:List (Str×NameKind)),l.lookup x=some .cell->(l.map λ(n,k)=>if(k== .free&&env.scope.kind== .function&&env.kindOf n==some .cell) then(n,NameKind.cell) else(n,k)).lookup x=some .cell:=by
  intro l
  induction l with
  |nil=>intro h;simp at h
  |cons p l ih=>
   intro h
   obtain⟨n,k⟩:=p
   cases e:x==n with
   |true=>
    simp only[List.lookup_cons,e] at h
    cases h
    simp[List.map_cons,List.lookup_cons,e]
   |false=>
    simp only[List.lookup_cons,e] at h
    simp only[List.map_cons]
    by_cases hc:(k== .free&&env.scope.kind== .function&&env.kindOf n==some .cell)=true
    ·rw[if_pos hc];simp only[List.lookup_cons,e];exact ih h
    ·rw[if_neg hc];simp only[List.lookup_cons,e];exact ih h
 exact go scope.names h
theorem jzC:∀(names:List (Str×NameKind))(n:Nat)(acc:List (Str×Addr)),cellsFrom n names acc=cellsFrom n names []++acc
 | [],_,_=>rfl
 |(x,k)::r,n,acc=>by
  unfold cellsFrom
  split
  ·rw[jzC r (n+1) ((x,n)::acc),jzC r (n+1) [(x,n)]];simp
  ·exact jzC r n acc
theorem jzP:∀(names:List (Str×NameKind))(n:Nat)(x:Str)(c:Addr),(x,c)∈cellsFrom n names []->(x,NameKind.cell)∈names
 | [],_,_,_,h=>by cases h
 |(y,k)::r,n,x,c,h=>by
  unfold cellsFrom at h
  split at h
  ·rename_i hk
   rw[jzC] at h
   rcases List.mem_append.mp h with h|h
   ·exact List.mem_cons_of_mem _ (jzP r _ x c h)
   ·have e:(x,c)=(y,n):=by simpa using h
    cases e
    have hk':k=.cell:=by simpa using hk
    subst hk'
    exact List.mem_cons_self
  ·exact List.mem_cons_of_mem _ (jzP r _ x c h)
def bcs(scope:Scope)(env:Env)(C:Addr):List (Str×Addr):=cellsFrom (C+1) scope.names (clOf scope env)
structure BCs (scope:Scope)(env:Env)(C:Addr)(h1:Heap):Prop where
 old:∀x,(x,NameKind.free)∈scope.names->(bcs scope env C).lookup x=(clOf scope env).lookup x
 new:∀x,scope.names.lookup x=some .cell->∃c,(bcs scope env C).lookup x=some c
 inv:∀x c,(bcs scope env C).lookup x=some c->(clOf scope env).lookup x=some c\/(C<c/\h1.IsCell c none/\∀y,(bcs scope env C).lookup y=some c->C<c->x=y)
 cellNew:∀x c,scope.names.lookup x=some .cell->(bcs scope env C).lookup x=some c->C<c
theorem bcs_ok{scope sc:Scope}{env:Env}{C:Addr}{h1:Heap}(S:ScOk scope sc)(hlow:∀x c,env.cells.lookup x=some c->c<C)(ok:CellsOk h1 (C+1) (cellsFrom (C+1) scope.names [])):BCs scope env C h1:=by
 have spl:∀x,(bcs scope env C).lookup x=((cellsFrom (C+1) scope.names []).lookup x).or ((clOf scope env).lookup x):=λx=>by
  unfold bcs;rw[jzC,List.lookup_append]
 have inv:∀x c,(bcs scope env C).lookup x=some c->(cellsFrom (C+1) scope.names []).lookup x=some c\/((cellsFrom (C+1) scope.names []).lookup x=none/\(clOf scope env).lookup x=some c):=λx c e=>by
  rw[spl] at e
  cases q:(cellsFrom (C+1) scope.names []).lookup x with
  |none=>rw[q] at e;exact .inr ⟨rfl,e⟩
  |some c'=>rw[q] at e;exact .inl e
 refine⟨λx hx=>?_,λx hx=>?_,λx c e=>?_,λx c hx e=>?_⟩
 ·rw[spl]
  cases q:(cellsFrom (C+1) scope.names []).lookup x with
  |none=>rfl
  |some c=>
   have z:=qzz S.nd (jzP _ _ _ _ (PySem.mem_of_lookup q))
   rw[qzz S.nd hx] at z;cases z
 ·have q:=PySem.W.cellsFrom_some scope.names (C+1) [] (.inl hx)
  obtain⟨c,hc⟩:=Option.isSome_iff_exists.mp q
  exact⟨c,by rw[spl,hc];rfl⟩
 ·rcases inv x c e with q|⟨_,q⟩
  ·have m:=ok.empty x c (PySem.mem_of_lookup q)
   refine .inr ⟨m.2,m.1,λy ey _=>?_⟩
   rcases inv y c ey with q'|⟨_,q'⟩
   ·exact name_of_addr ok.apart (PySem.mem_of_lookup q) (PySem.mem_of_lookup q')
   ·exact absurd (hlow y c (jzz q')) (Nat.not_lt.mpr (Nat.le_of_lt m.2))
  ·exact .inl q
 ·rcases inv x c e with q|⟨q0,q⟩
  ·exact(ok.empty x c (PySem.mem_of_lookup q)).2
  ·have q2:=PySem.W.cellsFrom_some scope.names (C+1) [] (.inl hx)
   rw[q0] at q2;cases q2
def blkX(X:Cx)(N':List Str)(scope:Scope)(C:Addr)(s3:Shared)(H3:Hp)(fp:List Addr):Cx:=
 {X with N:=N',s₀:=s3,H₀:=H3,env:=compEnvC scope (bcs scope X.env C) C X.env,outer:=X.stack,stack:=X.stack,ex:=fp,fn:=λx=>scope.names.lookup x==some .cell,pn:= [],xe:=λ_ _=>False}
def blkS(N':List Str)(cap:List Nat)(σ:Sg):Sg:=List.replicate (N'.length-cap.length) none++cap.map λ(i:Nat)=>(match σ[i]? with|some x=>x|none=>none)
section
variable {X:Cx}{pins:List (Addr×Obj)}{σ:Sg}{H3:Hp}{s3:Shared}{N':List Str}{scope:Scope}{fp:List Addr}{cap:List Nat}
theorem wzJ(I:Inv X pins σ H3 s3)(S:ScOk scope X.env.scope)(hcap:cap.length<=N'.length)(hN:(N'.drop (N'.length-cap.length)).map some=cap.map (λ(i:Nat)=>X.N[i]?))(hfr:∀x∈N'.drop (N'.length-cap.length),scope.names.lookup x=some .free)
 {h1:Heap}{tk:Nat}{m:Str->Option Value}(hns:h1.Ns s3.heap.objs.size m)(keep:∀b o,s3.heap.get? b=some o->h1.get? b=some o)(B:BCs scope X.env s3.heap.objs.size h1)
 (hfp:∀b∈fp,FpOk X pins H3 b)(hob:∀b∈fp,b<s3.heap.objs.size)(hfb:∀b∈fp,∀o,X.base.get? b≠some o):Inv (blkX X N' scope s3.heap.objs.size s3 H3 fp) [] (blkS N' cap σ) H3 {s3 with heap:=h1,toks:=tk}:=by
 have stkN:∀b,b≠X.env.locals->b ∉ X.fs->b ∉ frs X.stack:=λb h1 h2 hb=>(List.mem_cons.mp (I.stkSub b hb)).elim h1 h2
 have kd:X.env.scope.kind=.function:=I.ok.kind
 have cellFree:∀x,(relab scope X.env.scope).names.lookup x=some .cell\/(relab scope X.env.scope).names.lookup x=some .free->(x,NameKind.free)∈scope.names\/scope.names.lookup x=some .cell:=λx hx=>by
  have:∃k',(k'=NameKind.cell\/k'=.free)/\(relab scope X.env.scope).names.lookup x=some k':=by
   rcases hx with h|h
   ·exact⟨_,.inl rfl,h⟩
   ·exact⟨_,.inr rfl,h⟩
  obtain⟨k',hk',h⟩:=this
  obtain⟨k,e1,e2⟩:=wzs h
  have hm:=PySem.mem_of_lookup e1
  rcases e2 with rfl|⟨rfl,_⟩
  ·rcases hk' with rfl|rfl
   ·exact .inr e1
   ·exact .inl hm
  ·exact .inl hm
 have lowC:∀x c,X.env.cells.lookup x=some c->c<s3.heap.objs.size:=λx c e=>let⟨_,q⟩:=I.cell x c e;q.lt
 have hasC:∀x,(x,NameKind.free)∈scope.names->∃c,X.env.cells.lookup x=some c:=λx hx=>I.ok.has x (.inl (S.free _ hx rfl))
 refine⟨⟨I.ok.mod,by show(relabel scope X.env).kind=_;exact S.kind,I.ok.glob,I.ok.blt,Nat.le_refl _,λx y c h1 h2=>?_,λx hx=>?_,λx c h e=>Nat.le_of_lt (B.cellNew x c (beq_iff_eq.mp h) e),I.ok.hd,I.ok.frames,.inl rfl,λb hb=>⟨Nat.ne_of_lt (hob b hb),λx c e=>?_⟩,I.bs,Nat.le_trans I.ok.bsz I.sz,λb o e hb=>hfb b hb o e,λb hb=>stkN b (hfp b hb).2.1 (hfp b hb).2.2.1,I.stack,I.stkFree⟩,
  rfl,I.bare,Un.kept keep,⟨m,hns,λi x v e1 e2 e3=>?_⟩,λx c e=>?_,I.hok.fresh (Nat.le_refl _),λx c e=>?_,λp hp=>absurd (show p∈([]:List (Addr×Obj)) from hp) (by simp),I.hok.kept keep,?_⟩
 ·rcases B.inv x c h1 with a|⟨a1,_,a3⟩
  ·rcases B.inv y c h2 with b|⟨b1,_,_⟩
   ·exact I.ok.inj x y c (jzz a) (jzz b)
   ·exact absurd (lowC x c (jzz a)) (Nat.not_lt.mpr (Nat.le_of_lt b1))
  ·exact a3 y h2 a1
 ·rcases cellFree x hx with hf|hf
  ·obtain⟨c,hc⟩:=hasC x hf
   exact⟨c,(B.old x hf).trans (vzv hf hc)⟩
  ·exact B.new x hf
 ·rcases B.inv x c e with a|⟨a1,_,_⟩
  ·exact(hfp b hb).2.2.2.2.1 x c (jzz a)
  ·exact Nat.ne_of_gt (Nat.lt_trans (hob b hb) a1)
 ·-- a captured name
  have hi:¬i<N'.length-cap.length:=λhi=>by
   unfold blkS at e2
   rw[List.getElem?_append_left (by simpa using hi),List.getElem?_replicate] at e2
   split at e2<;>cases e2
  have e1':N'[i]? =some x:=e1
  have hiN:i<N'.length:=(List.getElem?_eq_some_iff.mp e1').1
  unfold blkS at e2
  rw[List.getElem?_append_right (by simpa using hi),List.length_replicate,List.getElem?_map] at e2
  have hd:(N'.drop (N'.length-cap.length))[i-(N'.length-cap.length)]? =some x:=by
   rw[List.getElem?_drop]
   rw[show N'.length-cap.length+(i-(N'.length-cap.length))=i by omega]
   exact e1'
  cases ec:cap[i-(N'.length-cap.length)]? with
  |none=>rw[ec] at e2;cases e2
  |some j=>
   rw[ec] at e2
   have hj:X.N[j]? =some x:=by
    have z:=congrArg (λl=>l[i-(N'.length-cap.length)]?) hN
    simp only[List.getElem?_map,hd,ec,Option.map_some] at z
    exact(Option.some.inj z).symm
   have hσ:σ[j]? =some (some v):=by
    have e2':(match σ[j]? with|some x=>x|none=>none)=some v:=Option.some.inj e2
    cases q:σ[j]? with
    |none=>rw[q] at e2';cases e2'
    |some y=>rw[q] at e2';exact congrArg some e2'
   have hxf:scope.names.lookup x=some .free:=hfr x (List.mem_of_getElem? hd)
   have hxc:=S.free _ (PySem.mem_of_lookup hxf) rfl
   obtain⟨m0,hn0,hl0⟩:=I.loc
   obtain⟨u,ru,l0⟩:=hl0 j x v hj hσ (.inr (.inl hxc))
   refine⟨u,ru,.inr ⟨.inl ?_,?_⟩⟩
   ·show(relabel scope X.env).names.lookup x=some .cell
    exact vzG (sc:=X.env.scope) hxf kd hxc
   ·rcases l0 with ⟨z,_⟩|⟨_,c,hc,o,ho,hd'⟩
    ·have z':X.env.scope.names.lookup x=some .local:=z
     rw[hxc] at z';cases z'
    ·exact⟨c,(B.old x (PySem.mem_of_lookup hxf)).trans (vzv (PySem.mem_of_lookup hxf) hc),o,keep c o ho,hd'⟩
 ·rcases B.inv x c e with a|⟨_,a2,_⟩
  ·obtain⟨v,o,ho,hd⟩:=I.cell x c (jzz a)
   exact⟨v,o,keep c o ho,hd⟩
  ·exact⟨_,a2⟩
 ·rcases B.inv x c e with a|⟨a1,_,_⟩
  ·exact I.freeC x c (jzz a)
  ·exact I.hok.fresh (Nat.le_of_lt a1)
 ·unfold blkS
  show _=N'.length
  rw[List.length_append,List.length_replicate,List.length_map]
  omega
end
theorem jzL{M:Model}{A:Around}{E:Value->Shared->Prop}{scope:Scope}{env:Env}{s:Shared}{Q:Env->Shared->Prop}
 (h:∀h1:Heap,h1.Ns s.heap.objs.size (λ_=>none)->(∀b o,s.heap.get? b=some o->h1.get? b=some o)->CellsOk h1 (s.heap.objs.size+1) (cellsFrom (s.heap.objs.size+1) scope.names [])->
   Q (newEnv scope s.heap.objs.size env.globals (bcs scope env s.heap.objs.size) env.qual none .none (some env) builtinsNs) {s with heap:=h1}):
 wpAny M A (newFunctionEnv scope env.globals (clOf scope env) [] env.qual none .none (some env)) Q E s:=by
 simp only[newFunctionEnv,Option.isSome_some,if_true]
 refine wpAny_bind (wpAny_alloc ?_)
 refine wpAny_bind (wpAny_layCells _ (λname kind cells=>by cases hkc:kind==NameKind.cell<;>simp[hkc]) _ _ _ _ ?_)
 have hsz:(s.heap.push {cls:=.type "dict",data:=.dict #[]}).objs.size=s.heap.objs.size+1:=Heap.size_push ..
 have ok:=cellsFrom_ok scope.names (s.heap.push {cls:=.type "dict",data:=.dict #[]}) (s.heap.objs.size+1) [] ⟨λ_ _ hm=>(nomatch hm),List.Pairwise.nil⟩ (by rw[hsz];exact Nat.le_refl _)
 rw[hsz] at ok
 rw[show({s with heap:=s.heap.push {cls:=.type "dict",data:=.dict #[]}}:Shared).heap.objs.size=s.heap.objs.size+1 from hsz]
 refine wpAny_bind (wpAny_of_eq (List.forIn_nil ..) (wpAny_pure ?_))
 exact h _ ((Heap.Ns.new s.heap (.type "dict")).keeps (pushCells_keeps _ _)) (λb o e=>pushCells_keeps _ _ b o (Heap.get?_push_of_some _ e)) ok
def testsOf(ifs:List PySem.Expr)(env:Env)(b:Bool):Sem Bool:=forIn ifs b λc r=>if r=true then do let ok <- isTrue c env (eval c env);pure (ForInStep.yield ok) else pure (ForInStep.yield r)
theorem zzR{elt tg iter:PySem.Expr}{ifs:List PySem.Expr}{scope:Scope}{pos:Pos}{it acc:Value}{env:Env}{P:Program}{w:World}{A:Around}{R:Result->Shared->Prop}{s:Shared}(J:Nat->Shared->Prop)
 (turn:∀k s,J k s->wpAny (model P w) A (pyNext it) (λr s1=>match r with
   |none=>R (.ok .next) s1
   |some v=>wpAny (model P w) A (letOwnedTupleGo tg it v) (λ_ s2=>wpAny (model P w) A (assign tg env v) (λ_ s3=>wpAny (model P w) A (testsOf ifs env true) (λok s4=>
     if ok=true then wpAny (model P w) A (eval elt env) (λx s5=>wpAny (model P w) A (call (.builtin "list.append") [acc,x]) (λ_ s6=>∃k',k'<k/\J k' s6) nev s5) nev s4
     else ∃k',k'<k/\J k' s4) nev s3) nev s2) nev s1) nev s)
 (k:Nat)(h:J k s):codeAny (model P w) A (.compLoop (.ListComp elt [⟨tg,iter,ifs,0⟩] scope pos) 0 it acc env) R s:=by
 refine codeAny_loop (I:=J) rfl (turn:=λk s hk=>?_) k h
 show wpAny _ A (Sem.onRaise (compTurn (.ListComp elt [⟨tg,iter,ifs,0⟩] scope pos) 0 it acc env) (λx=>do noteFrame x env;theTreesLotGoes x)) _ _ s
 refine wpAny_noted ?_
 rw[compTurn_list]
 have no:∀{E:Value->Shared->Prop}(e:Value)(s:Shared),nev e s->E e s:=λ_ _ f=>f.elim
 refine wpAny_bind (wpAny_standAt (wpAny_bind (wpAny_mono (turn k s hk) (λr s1 q1=>?_) no)))
 cases r with
 |none=>exact wpAny_pure q1
 |some v=>
  refine wpAny_bind (wpAny_mono q1 (λ_ s2 q2=>wpAny_bind (wpAny_mono q2 (λ_ s3 q3=>wpAny_bind (wpAny_mono q3 (λok s4 q4=>?_) no)) no)) no)
  cases ok with
  |false=>exact wpAny_pure ⟨rfl,q4⟩
  |true=>exact wpAny_bind (wpAny_bind (wpAny_mono q4 (λx s5 q5=>wpAny_bind (wpAny_mono q5 (λ_ s6 q6=>wpAny_pure (wpAny_pure ⟨rfl,q6⟩)) no)) no))
end Ng
end
section
namespace Ng
open PySem PySem.Spec PyProof.Rows L2
def TDG(K:PySem.W.Frag)(t:Tg):TG:=λv s H Q=>∃m h r d r',Wd K m h H/\RSt K m H r s/\RD K m H d v/\setT t d r=some r'/\∀s',RSt K m H r' s'->Q s' H
def TDB(K:PySem.W.Frag)(f:Ev->Hh->Rs Bool):TT:=λs H Q=>∃m r h b h',Wd K m h H/\RSt K m H r s/\f r h=.ok b h'/\∀m' H',Gr K m H m' H'->Wd K m' h' H'->Q b H'
def PTs(X:Cx)(ifs:List PySem.Expr)(t:TT):Prop:=∀(pins:List (Addr×Obj))(s:Shared)(σ:Sg)(H:Hp)(Q:Bool->Hp->Prop),Inv X pins σ H s->t σ H Q->wpAny (model X.prog X.w) X.A (testsOf ifs X.env true) (TP X pins σ Q) X.xe s
def Stp(K:PySem.W.Frag)(t:Tg)(cs:Ev->Hh->Rs Bool)(f:Ev->Hh->Rs D)(n0:Nat)(h':Hh)(J:It)(Lp:Nat->Nat->Ev->Hh->Prop)(i k:Nat)(r:Ev)(h:Hh)(m:List Addr)(H:Hp):Prop:=
 (J.stop i H/\h=h')\/(J.go i H/\∃d,(∀x H2,J.yld i H x H2->Gr K m H m H2/\Wd K m h H2/\RD K m H2 d x)/\∃r1,setT t d r=some r1/\∃b h1,cs r1 h=.ok b h1/\
   if b=true then ∃y h2 z h3,f r1 h1=.ok y h2/\appD (.ref n0) y h2=.ok z h3/\∃k',k'<k/\Lp (i+1) k' r1 h3 else ∃k',k'<k/\Lp (i+1) k' r1 h1)
section
variable {X:Cx}{G:Gs}{ca:Nat->Addr}{cl:Cl}{N':List Str}{scope:Scope}{cap:List Nat}{tg elt iter:PySem.Expr}{ifs:List PySem.Expr}{pos:Pos}{t:Tg}{ft:Ev->Hh->Rs Bool}{fe:Ev->Hh->Rs D}
theorem qzX{K:PySem.W.Frag}{m:List Addr}{H:Hp}{r:Ev}{σ:Sg}(st:RSt K m H r σ):RSt K m H (blockE N' cap r) (blkS N' cap σ):=by
 refine⟨by simp[blockE,blkS],λi d e=>?_⟩
 unfold blockE at e
 unfold blkS
 by_cases hi:i<N'.length-cap.length
 ·rw[List.getElem?_append_left (by simpa using hi),List.getElem?_replicate] at e
  split at e<;>cases e
 ·rw[List.getElem?_append_right (by simpa using hi),List.length_replicate,List.getElem?_map] at e
  rw[List.getElem?_append_right (by simpa using hi),List.length_replicate,List.getElem?_map]
  cases ec:cap[i-(N'.length-cap.length)]? with
  |none=>rw[ec] at e;cases e
  |some j=>
   rw[ec] at e
   have e':capV r j=some d:=Option.some.inj e
   have hr:r[j]? =some (some d):=by
    unfold capV at e'
    cases q:r[j]? with
    |none=>rw[q] at e';cases e'
    |some y=>rw[q] at e';exact congrArg some e'
   obtain⟨v,hv,rv⟩:=st.2 j d hr
   refine⟨v,?_,rv⟩
   show some (match σ[j]? with|some x=>x|none=>none)=some (some v)
   rw[hv]
theorem wzD{pins:List (Addr×Obj)}{σ:Sg}{H2:Hp}{s2:Shared}{J:It}{fp:List Addr}{it:Addr}{tn:Nat->Heap->Prop}{m2:List Addr}{h2 h':Hh}{r:Ev}(S:ScOk scope X.env.scope)(hcap:cap.length<=N'.length)
 (hN:(N'.drop (N'.length-cap.length)).map some=cap.map (λ(i:Nat)=>X.N[i]?))(hfr:∀x∈N'.drop (N'.length-cap.length),scope.names.lookup x=some .free)(calm:X.calm=true)
 (blk:∀(C:Addr)(s3:Shared)(H3:Hp)(fp:List Addr),PG (blkX X N' scope C s3 H3 fp) tg (TDG X.K t)/\PTs (blkX X N' scope C s3 H3 fp) ifs (TDB X.K ft)/\PE (blkX X N' scope C s3 H3 fp) elt (TDE X.K fe))
 (I:Inv X pins σ H2 s2)(T:Turn X.prog X.w X.K tg J fp it tn)(st:tn 0 s2.heap)(fok:∀b∈fp,FpOk X pins H2 b)(w2:Wd X.K m2 h2 H2)(rst:RSt X.K m2 H2 r σ)
 (Lp:Nat->Nat->Ev->Hh->Prop)(k0:Nat)(L0:Lp 0 k0 (blockE N' cap r) (h2++ [.lst []]))(hst:∀i k r h m H,Gr X.K m2 H2 m H->Wd X.K m h H->Lp i k r h->Stp X.K t ft fe h2.length h' J Lp i k r h m H)
 {Rr:Value->Addr->Result->Shared->Prop}
 (c:∀(acc C:Addr)(s1:Shared)(H':Hp)(m':List Addr),Inv X pins σ H' s1->(∃mm,s1.heap.Ns C mm)->H' C=none->C≠X.env.locals->X.s₀.heap.objs.size<=C->(∀x a,X.env.cells.lookup x=some a->a≠C)->(∀p∈X.pn++pins,p.1≠C)->Gr X.K m2 H2 m' H'->Wd X.K m' h' H'->RD X.K m' H' (.ref h2.length) (.ref acc)->Rr (.ref acc) C (.ok .next) s1):
 wpAny (model X.prog X.w) X.A (newList []) (λacc s3=>wpAny (model X.prog X.w) X.A (newFunctionEnv scope X.env.globals (clOf scope X.env) [] X.env.qual none .none (some X.env)) (λcenv s4=>
  codeAny (model X.prog X.w) X.A (.compStart (.ListComp elt [⟨tg,iter,ifs,0⟩] scope pos) 0 (.ref it) acc {cenv with scope:=relabel scope X.env}) (Rr acc cenv.locals) s4) X.xe s3) X.xe s2:=by
 have fob:∀b∈fp,b<s2.heap.objs.size:=λb hb=>let⟨o,e,_⟩:=T.obj 0 _ st b hb;Heap.lt_size e
 have ffb:∀b∈fp,∀o,X.base.get? b≠some o:=λb hb o e=>by
  rcases(fok b hb).2.2.2.1 with z|z
  ·exact I.ok.noex b o e z
  ·exact absurd (Nat.lt_of_lt_of_le (Heap.lt_size (I.ok.bs b o e).1) z) (Nat.lt_irrefl _)
 have hacc0:H2 s2.heap.objs.size=none:=I.hok.fresh (Nat.le_refl _)
 refine wpAny_newObj_type (jzL (λh1 hns keep cok=>?_))
 dsimp only at hns keep cok⊢
 obtain⟨w3,g3⟩:=w2.lstNew (ds:= []) (vs:= []) hacc0 .nil
 have I3:Inv X pins σ (upd H2 s2.heap.objs.size (.lst [])) {s2 with heap:=s2.heap.push {cls:=.type "list",dict:=none,data:=.seq ([]:List Value).toArray}}:=
  I.laid (t':=s2.toks) (λb u e=>Heap.get?_push_of_some _ e) (Nat.le_refl _) ⟨Nat.zero_le _,[],0,.nil,Heap.get?_push_size _ rfl⟩
 have fok3:∀b∈fp,FpOk X pins (upd H2 s2.heap.objs.size (.lst [])) b:=λb hb=>⟨by rw[jzi (Nat.ne_of_lt (fob b hb))];exact(fok b hb).1,(fok b hb).2⟩
 have st3:tn 0 h1:=T.keep _ _ _ st λb hb o e=>keep b o (Heap.get?_push_of_some _ e)
 have B:=bcs_ok (env:=X.env) S (λx c e=>let⟨_,q⟩:=I3.cell x c e;q.lt) cok
 have I4:=wzJ (N':=N') (scope:=scope) (fp:=fp) (cap:=cap) I3 S hcap hN hfr (h1:=h1) (tk:=s2.toks) hns keep B fok3 (λb hb=>by
  show b<(s2.heap.push _).objs.size
  rw[Heap.size_push];exact Nat.lt_succ_of_lt (fob b hb)) ffb
 have hsz:(s2.heap.push {cls:=.type "list",dict:=none,data:=.seq ([]:List Value).toArray}).objs.size=s2.heap.objs.size+1:=Heap.size_push ..
 generalize hs3:({s2 with heap:=s2.heap.push {cls:=.type "list",dict:=none,data:=.seq ([]:List Value).toArray}}:Shared)=s3 at I3 I4
 have eh3:s2.heap.push {cls:=.type "list",dict:=none,data:=.seq ([]:List Value).toArray}=s3.heap:=by rw[<- hs3]
 rw[eh3] at hns keep cok B hsz⊢
 generalize hH3:upd H2 s2.heap.objs.size (.lst [])=H3 at I3 I4 w3 g3 fok3
 obtain⟨bG,bT,bE⟩:=blk s3.heap.objs.size s3 H3 fp
 have ha:(m2++ [s2.heap.objs.size])[h2.length]? =some s2.heap.objs.size:=by rw[<- w2.len];simp
 have stkN:∀b,b≠X.env.locals->b ∉ X.fs->b ∉ frs X.stack:=λb h1 h2 hb=>(List.mem_cons.mp (I3.stkSub b hb)).elim h1 h2
 have fokB:∀{H:Hp},(∀b∈fp,H b=none)->∀b∈fp,FpOk (blkX X N' scope s3.heap.objs.size s3 H3 fp) [] H b:=λhn b hb=>
  ⟨hn b hb,Nat.ne_of_lt (by rw[hsz];exact Nat.lt_succ_of_lt (fob b hb)),stkN b (fok b hb).2.1 (fok b hb).2.2.1,.inl hb,λx c e=>(B.inv x c e).elim (λa=>(fok b hb).2.2.2.2.1 x c (jzz a)) (λa=>Nat.ne_of_gt (Nat.lt_trans (by rw[hsz];exact Nat.lt_succ_of_lt (fob b hb)) a.1)),λp hp=>absurd (show p∈([]:List (Addr×Obj)) from hp) (by simp)⟩
 have hw:X.w=X.w:=rfl
 have loop:∀s4:Shared,s4={s3 with heap:=h1,toks:=s2.toks}->codeAny (model X.prog X.w) X.A (.compLoop (.ListComp elt [⟨tg,iter,ifs,0⟩] scope pos) 0 (.ref it) (.ref s2.heap.objs.size) (compEnvC scope (bcs scope X.env s3.heap.objs.size) s3.heap.objs.size X.env)) (Rr (.ref s2.heap.objs.size) s3.heap.objs.size) s4:=by
  rintro s4 rfl
  refine zzR (λk s=>∃i σ' H' m r h,Inv (blkX X N' scope s3.heap.objs.size s3 H3 fp) [] σ' H' s/\tn i s.heap/\(∀b∈fp,H' b=none)/\Gr X.K (m2++ [s2.heap.objs.size]) H3 m H'/\Wd X.K m h H'/\RSt X.K m H' r σ'/\Lp i k r h) ?_ k0
   ⟨0,_,H3,_,_,_,I4,st3,λb hb=>(fok3 b hb).1,.refl,w3,qzX (rst.mono g3),L0⟩
  rintro k s ⟨i,σ',H',m,r',h,I',st',fr',g',w',rst',L⟩
  rcases hst i k r' h m H' (g3.trans g') w' L with ⟨stop,rfl⟩|⟨go,d,hy,r1,er,b,hb1,eb,rest⟩
  ·refine thn (T.done (blkX X N' scope s3.heap.objs.size s3 H3 fp) rfl rfl rfl calm i [] s σ' H' nev I' (fokB fr') st' stop) λres s1 ⟨hr,I1⟩=>?_
   subst hr
   obtain⟨mm,hn1,_⟩:=id I1.loc
   obtain⟨hp1,gg,dr,tk,os⟩:=s1
   obtain rfl:os=s3.os:=I1.os
   have IX:Inv X pins σ H' {s3 with heap:=hp1,gens:=gg,drawn:=dr,toks:=tk}:=I3.call (ch:=fp) I1.base I1.hok I1.bare λb hb=>⟨(fok3 b hb).2.2.2.1,(fok3 b hb).2.1,(fok3 b hb).2.2.2.2.1,(fok3 b hb).2.2.2.2.2⟩
   exact c _ _ _ H' m IX ⟨mm,hn1⟩ I1.free (Nat.ne_of_gt I3.lt) I3.sz (λx a e=>by
    obtain⟨v,q⟩:=I3.cell x a e
    exact Nat.ne_of_lt q.lt) (λp hp=>Nat.ne_of_lt (Heap.lt_size (I3.pin p hp).1)) (g3.trans g') w' (.ref (g'.pre _ _ ha))
  ·refine thn (T.item (blkX X N' scope s3.heap.objs.size s3 H3 fp) rfl rfl rfl calm i [] s σ' H' nev I' (fokB fr') st' go) λres s1 ⟨u,hr,q1⟩=>?_
   subst hr
   refine thn q1 λ_ s5 ⟨x,H5,I5,rx,yl,st5,fr5⟩=>?_
   obtain⟨gy,wy,rd⟩:=hy x H5 yl
   have I5':=I5.pinned (fokB fr5) (T.obj _ _ st5)
   have again:∀{σ7:Sg}{H7:Hp}{s7:Shared}{m7:List Addr}{r7:Ev}{h7:Hh},Inv (blkX X N' scope s3.heap.objs.size s3 H3 fp) ([]++pinsAt fp s5.heap) σ7 H7 s7->Gr X.K m H5 m7 H7->Wd X.K m7 h7 H7->RSt X.K m7 H7 r7 σ7->(∃k',k'<k/\Lp (i+1) k' r7 h7)->
    ∃k',k'<k/\∃i σ' H' m r h,Inv (blkX X N' scope s3.heap.objs.size s3 H3 fp) [] σ' H' s7/\tn i s7.heap/\(∀b∈fp,H' b=none)/\Gr X.K (m2++ [s2.heap.objs.size]) H3 m H'/\Wd X.K m h H'/\RSt X.K m H' r σ'/\Lp i k' r h:=λ{σ7 H7 s7 m7 r7 h7} I7 g7 w7 st7 ⟨k',hk,L7⟩=>by
    have pn:∀b∈fp,∀o,s5.heap.get? b=some o->s7.heap.get? b=some o/\H7 b=none:=λb hb o e=>let z:=I7.pin (b,o) (List.mem_append_right _ (List.mem_append_right _ (jzZ hb e)));⟨z.1,z.2.1⟩
    exact⟨k',hk,i+1,σ7,H7,m7,r7,h7,I7.unpinned,T.keep _ _ _ st5 λb hb o e=>(pn b hb o e).1,λb hb=>let⟨o,e,_⟩:=T.obj _ _ st5 b hb;(pn b hb o e).2,g'.trans (gy.trans g7),w7,st7,L7⟩
   refine thn (bG _ s5 σ' H5 x u (λσ2 H6=>H6=H5/\RSt X.K m H5 r1 σ2) I5' rx ⟨m,h,r',d,r1,wy,rst'.mono gy,rd,er,λs' z=>⟨rfl,z⟩⟩) λ_ s6 ⟨σ6,H6,I6,eH6,st6⟩=>?_
   subst eH6
   refine thn (bT _ s6 σ6 H6 (λb' H7=>b'=b/\∃m7,Gr X.K m H6 m7 H7/\Wd X.K m7 hb1 H7) I6 ⟨m,r1,h,b,hb1,wy,st6,eb,λm' H' g w=>⟨rfl,m',g,w⟩⟩) λb' s7 ⟨H7,I7,e7,m7,g7,w7⟩=>?_
   subst e7
   cases b' with
   |false=>
    rw[if_neg Bool.false_ne_true] at rest⊢
    exact again I7 g7 w7 (st6.mono g7) rest
   |true=>
    rw[if_pos rfl] at rest⊢
    obtain⟨y,h8,z,h9,ey,ea,rest⟩:=rest
    refine thn (bE _ s7 σ6 H7 (λv H8=>∃m8,Gr X.K m7 H7 m8 H8/\Wd X.K m8 h8 H8/\RD X.K m8 H8 y v) I7 ⟨m7,r1,hb1,y,h8,w7,st6.mono g7,ey,λm' v H' g w rv=>⟨m',g,w,rv⟩⟩) λyv s8 ⟨v,H8,I8,rv,m8,g8,w8,rdy⟩=>?_
    have ha8:m8[h2.length]? =some s2.heap.objs.size:=g8.pre _ _ (g7.pre _ _ (gy.pre _ _ (g'.pre _ _ ha)))
    simp only[appD] at ea
    split at ea<;>first |(cases ea;done)|skip
    rename_i l el
    split at ea<;>first |(cases ea;done)|skip
    rename_i hlen
    cases ea
    obtain⟨vs,hv,rvs⟩:∃vs,H8 s2.heap.objs.size=some (.lst vs)/\RDs X.K m8 H8 l vs:=w8.ob _ _ _ el ha8
    obtain⟨_,w9,g9⟩:=w8.lstSet el ha8 (rvs.append (.cons rdy .nil))
    refine thn (qzy (X:=blkX X N' scope s3.heap.objs.size s3 H3 fp) _ s8 σ6 H8 (.ref s2.heap.objs.size) [v] (.ref s2.heap.objs.size) [yv] (λ_ H9=>H9=upd H8 s2.heap.objs.size (.lst (vs++ [v]))) I8 rfl (.cons rv .nil) ⟨_,vs,v,rfl,rfl,hv,by rw[<- rvs.length];exact Nat.lt_of_lt_of_le hlen (by decide),rfl⟩) λ_ s9 ⟨_,H9,I9,_,e9⟩=>?_
    subst e9
    exact again I9 ((g7.trans g8).trans g9) w9 (st6.mono ((g7.trans g8).trans g9)) rest
 have es:({s2 with heap:=h1,toks:=s2.toks}:Shared)={s3 with heap:=h1,toks:=s2.toks}:=by subst hs3;rfl
 exact codeAny_compStart_list (loop _ es) (T.self X.A 0 _ _ _ st3 (loop _ es))
end
end Ng
end
section
namespace Ng
open PySem PySem.Spec PyProof.Rows L2
theorem _root_.L2.PG.wk{X:Cx}{e:PySem.Expr}{t t':TG}(h:PG X e t)(i:∀v s H Q,t' v s H Q->t v s H Q):PG X e t':=λpins s σ H v u Q I r q=>h pins s σ H v u Q I r (i _ _ _ _ q)
def gAll(is:List Nat):TGs:=λvs s H Q=>∃(K:PySem.W.Frag)(m:List Addr)(r:Ev)(ds:List D),RSt K m H r s/\RDs K m H ds vs/\ds.length=is.length/\∀s',RSt K m H (setAll is ds r) s'->Q s' H
section
variable {X:Cx}{N:List Str}{sc:Scope}{G:Gs}{ca:Nat->Addr}{cl:Cl}{K:PySem.W.Frag}
theorem pgsP(ok:PySem.Expr->Nat->Bool)(hok:∀e i,ok e i=true->∃x pos,e=.Name x pos/\PG X (.Name x pos) (gName i)):∀{is:List Nat}{es:List PySem.Expr},is.length=es.length->(∀(j:Nat) i e,is[j]? =some i->es[j]? =some e->ok e i=true)->PGs X es (gAll is)/\(assignEach es X.env).length=is.length/\(assignEach es X.env).findIdx? (·.1)=none
 | [],[],_,_=>⟨λpins s σ H vs us Q I rv ⟨K,m,r,ds,st,rd,hl,c⟩=>by
     cases ds with
     |cons=>cases hl
     |nil=>
      cases rd
      exact wzW pins s σ H [] us Q I rv ⟨rfl,c _ st⟩,rfl,rfl⟩
 |i::is,e::es,hl,h=>by
  obtain⟨x,pos,rfl,pn⟩:=hok e i (h 0 i e rfl rfl)
  obtain⟨ih,i2,i3⟩:=pgsP ok hok (is:=is) (es:=es) (by simpa using hl) λj i e e1 e2=>h (j+1) i e (by simpa using e1) (by simpa using e2)
  refine⟨λpins s σ H vs us Q I rv ⟨K,m,r,ds,st,rd,hl,c⟩=>?_,?_,?_⟩
  ·cases ds with
   |nil=>cases hl
   |cons d ds=>
    cases rd with
    |cons r1 rd=>
     exact jz4 pn ih rfl pins s σ H _ us Q I rv ⟨_,_,rfl,K,m,_,ds,st.set i r1,rd,by simpa using hl,c⟩
  ·show(assignEach es X.env).length+1=is.length+1
   rw[i2]
  ·show((false,assign (.Name x pos) X.env)::assignEach es X.env).findIdx? (·.1)=none
   rw[List.findIdx?_cons]
   simp[i3]
 | [],_::_,hl,_=>by simp at hl
 |_::_,[],hl,_=>by simp at hl
theorem pgT_of(ok:PySem.Expr->Nat->Bool)(hok:∀e i,ok e i=true->∃x pos,e=.Name x pos/\PG X (.Name x pos) (gName i))(calm:X.calm=true){t:Tg}{tg:PySem.Expr}
 (h:match t with|.nm i=>ok tg i=true|.tp l=>(∃es k pos,tg=.Tuple es k pos/\l.length=es.length/\∀(j:Nat) i e,l[j]? =some i->es[j]? =some e->ok e i=true)|.tn _ _ _=>False):PG X tg (TDG X.K t):=by
 cases t with
 |nm i=>
  obtain⟨x,pos,rfl,pn⟩:=hok tg i h
  refine pn.wk λv s H Q ⟨m,hh,r,d,r',w,st,rd,e,c⟩=>?_
  cases e
  exact c _ (st.set i rd)
 |tp l=>
  obtain⟨es,k,pos,rfl,hl,h⟩:=h
  obtain⟨p1,p2,p3⟩:=pgsP ok hok hl h
  refine(zzb calm p1 p2 p3).wk λv s H Q ⟨m,hh,r,d,r',w,st,rd,e,c⟩=>?_
  cases rd<;>first |(cases e;done)|skip
  rename_i a ds vs hq q _
  simp only[setT] at e
  split at e
  ·rename_i hl
   cases e
   exact⟨a,vs,rfl,hq,by rw[<- q.length];exact hl,X.K,m,r,ds,st,q,hl,c⟩
  ·cases e
 |tn i j k=>exact h.elim
theorem wzE:∀{l:List Nat}{es:List PySem.Expr},chkNs' N sc l es=true->l.length=es.length/\∀(j:Nat) i e,l[j]? =some i->es[j]? =some e->chkT' N sc (.nm i) e=true
 | [],[],_=>⟨rfl,λj i e h=>by simp at h⟩
 |i::is,e::es,h=>by
  cases e<;>first |exact absurd (show false=true from h) Bool.false_ne_true|skip
  rename_i x pos
  have h':(N[i]? ==some x&&locB sc x&&chkNs' N sc is es)=true:=h
  rw[Bool.and_eq_true] at h'
  obtain⟨i1,i2⟩:=wzE h'.2
  refine⟨by simp[i1],λj i' e' e1 e2=>?_⟩
  cases j with
  |zero=>
   simp at e1 e2
   subst e1;subst e2
   exact h'.1
  |succ j=>exact i2 j i' e' (by simpa using e1) (by simpa using e2)
 | [],_::_,h=>absurd (show false=true from h) Bool.false_ne_true
 |_::_,[],h=>absurd (show false=true from h) Bool.false_ne_true
abbrev LocOk(X:Cx)(scope:Scope):Prop:=∀x,locB scope x=true->Loc X.env.scope x/\(X.fn x=true\/X.env.scope.names.lookup x=some .local)
theorem pgT'{scope:Scope}(xo:XOk X N sc)(lo:LocOk X scope){t:Tg}{tg:PySem.Expr}(h:chkT' N scope t tg=true):PG X tg (TDG X.K t):=by
 refine pgT_of (λe i=>chkT' N scope (.nm i) e) (λe i he=>?_) xo.calm ?_
 ·cases e<;>first |exact absurd (show false=true from he) Bool.false_ne_true|skip
  rename_i x pos
  have h':(N[i]? ==some x&&locB scope x)=true:=he
  simp only[Bool.and_eq_true,beq_iff_eq] at h'
  obtain⟨l1,l2⟩:=lo x h'.2
  exact⟨x,pos,rfl,wzX xo.nd (by rw[xo.n];exact h'.1) l1 l2⟩
 ·cases t with
  |nm i=>exact h
  |tp l=>
   cases tg<;>first |exact absurd (show false=true from h) Bool.false_ne_true|skip
   rename_i es k pos
   obtain⟨h1,h2⟩:=wzE (show chkNs' N scope l es=true from h)
   exact⟨es,k,pos,rfl,h1,h2⟩
  |tn i j k=>exact absurd (show false=true from h) Bool.false_ne_true
section
variable {t:Tg}{ft:Ev->Hh->Rs Bool}{fe:Ev->Hh->Rs D}{n0:Nat}{h':Hh}{J:It}{m2:List Addr}{H2:Hp}{r0:Ev}{h0:Hh}
abbrev Turns(K:PySem.W.Frag)(t:Tg)(ft:Ev->Hh->Rs Bool)(fe:Ev->Hh->Rs D)(n0:Nat)(h':Hh)(J:It)(m2:List Addr)(H2:Hp)(r0:Ev)(h0:Hh):Prop:=∃(Lp:Nat->Nat->Ev->Hh->Prop)(k0:Nat),Lp 0 k0 r0 h0/\∀i k r h m H,Gr K m2 H2 m H->Wd K m h H->Lp i k r h->Stp K t ft fe n0 h' J Lp i k r h m H
theorem qzk{l:List D}(e:compS t ft fe n0 l r0 h0=.ok () h')(hgo:∀(i:Nat) d m H,Gr K m2 H2 m H->l[i]? =some d->J.go i H/\∀x H',J.yld i H x H'->H'=H/\RD K m H d x)(hstop:∀(i:Nat) m H,Gr K m2 H2 m H->l.length<=i->J.stop i H):Turns K t ft fe n0 h' J m2 H2 r0 h0:=by
 refine⟨λi k r h=>k=l.length-i/\compS t ft fe n0 (l.drop i) r h=.ok () h',l.length,⟨by simp,e⟩,λi k r h m H g w ⟨hk,e⟩=>?_⟩
 by_cases hi:i<l.length
 ·have ed:l[i]? =some l[i]:=List.getElem?_eq_getElem hi
  obtain⟨a,b⟩:=hgo i _ m H g ed
  rw[List.drop_eq_getElem_cons hi] at e
  simp only[compS] at e
  split at e
  ·cases e
  ·rename_i r1 er
   obtain⟨bb,h1,e1,e⟩:=Rs.bind_ok e
   refine .inr ⟨a,_,λx H2 y=>by obtain⟨eH,rd⟩:=b x H2 y;subst eH;exact⟨.refl,w,rd⟩,r1,er,bb,h1,e1,?_⟩
   cases bb with
   |true=>
    rw[if_pos rfl] at e⊢
    obtain⟨y,h3,e3,e⟩:=Rs.bind_ok e
    obtain⟨z,h4,e4,e⟩:=Rs.bind_ok e
    exact⟨y,h3,z,h4,e3,e4,_,by omega,rfl,e⟩
   |false=>
    rw[if_neg Bool.false_ne_true] at e⊢
    exact⟨_,by omega,rfl,e⟩
 ·rw[List.drop_eq_nil_of_le (by omega)] at e
  cases e
  exact .inl ⟨hstop i m H g (by omega),rfl⟩
theorem vzW{a:Addr}{l:List D}{vs:List V}(hq:SqT K H2 a vs)(q:RDs K m2 H2 l vs)(e:compS t ft fe n0 l r0 h0=.ok () h'):Turns K t ft fe n0 h' (Itt K a) m2 H2 r0 h0:=
 qzk e (λi d m H g ed=>by
  obtain⟨v,hv,rv⟩:=q.get ed
  exact⟨⟨vs,v,g.tup _ _ hq,hv⟩,λx H' y=>by
   obtain⟨eH,y⟩:=y
   have:=y vs (g.tup _ _ hq)
   rw[hv] at this;cases this
   exact⟨eH,rv.mono g⟩⟩) λi m H g hi=>⟨vs,g.tup _ _ hq,by rw[<- q.length];exact hi⟩
theorem vzX{lo hi:Int}(e:compS t ft fe n0 (rngD lo hi) r0 h0=.ok () h'):Turns K t ft fe n0 h' (Itr lo (hi-lo).toNat) m2 H2 r0 h0:=by
 have hl:(rngD lo hi).length=(hi-lo).toNat:=by unfold rngD;simp
 refine qzk e (λi d m H g ed=>?_) λi m H g h=>by rw[hl] at h;exact h
 have hi':i<(hi-lo).toNat:=by rw[<- hl];exact(List.getElem?_eq_some_iff.mp ed).1
 have hd:(rngD lo hi)[i]? =some (D.int (lo+i)):=by
  unfold rngD
  rw[List.getElem?_map,List.getElem?_range hi']
  rfl
 rw[hd] at ed;cases ed
 exact⟨hi',λx H' y=>⟨y.1,by rw[y.2];exact .int _⟩⟩
theorem vzY{a:Addr}{n k0:Nat}(ha:m2[n]? =some a)(e:compI t ft fe n0 n k0 0 r0 h0=.ok () h'):Turns K t ft fe n0 h' (Itl K a) m2 H2 r0 h0:=by
 refine⟨λi k r h=>compI t ft fe n0 n k i r h=.ok () h',k0,e,λi k r h m H g w e=>?_⟩
 cases k with
 |zero=>cases e
 |succ k=>
  simp only[compI] at e
  split at e
  ·cases e
  ·rename_i l el
   obtain⟨a',vs,ha',hq,q⟩:=w.lst el
   rw[g.pre _ _ ha] at ha';cases ha'
   split at e
   ·rename_i en
    cases e
    exact .inl ⟨⟨vs,hq,by rw[<- q.length];exact List.getElem?_eq_none_iff.mp en⟩,rfl⟩
   ·rename_i d ed
    obtain⟨v,hv,rv⟩:=q.get ed
    split at e
    ·cases e
    ·rename_i r1 er
     obtain⟨bb,h1,e1,e⟩:=Rs.bind_ok e
     refine .inr ⟨⟨vs,v,hq,hv⟩,d,λx H' y=>?_,r1,er,bb,h1,e1,?_⟩
     ·obtain⟨eH,y⟩:=y
      have:=y vs hq
      rw[hv] at this;cases this
      subst eH
      exact⟨.refl,w,rv⟩
     ·cases bb with
      |true=>
       rw[if_pos rfl] at e⊢
       obtain⟨y,h3,e3,e⟩:=Rs.bind_ok e
       obtain⟨z,h4,e4,e⟩:=Rs.bind_ok e
       exact⟨y,h3,z,h4,e3,e4,k,Nat.lt_succ_self _,e⟩
      |false=>
       rw[if_neg Bool.false_ne_true] at e⊢
       exact⟨k,Nat.lt_succ_self _,e⟩
end
theorem comp_pe{N':List Str}{scope:Scope}{cap:List Nat}{tg elt iter:PySem.Expr}{ifs:List PySem.Expr}{pos:Pos}{t:Tg}{ft:Ev->Hh->Rs Bool}{fe:Ev->Hh->Rs D}{f:Ev->Hh->Rs D}(xo:XOk X N sc)(S:ScOk scope sc)(hcap:cap.length<=N'.length)
 (hN:(N'.drop (N'.length-cap.length)).map some=cap.map (λ(i:Nat)=>N[i]?))(hfr:∀x∈N'.drop (N'.length-cap.length),scope.names.lookup x=some .free)
 (blk:∀(C:Addr)(s3:Shared)(H3:Hp)(fp:List Addr),PG (blkX X N' scope C s3 H3 fp) tg (TDG X.K t)/\PTs (blkX X N' scope C s3 H3 fp) ifs (TDB X.K ft)/\PE (blkX X N' scope C s3 H3 fp) elt (TDE X.K fe))(hset:noSet iter=true)
 (hi:∀(pins:List (Addr×Obj))(s:Shared)(σ:Sg)(H:Hp)(m:List Addr)(r:Ev)(h:Hh)(d:D)(h':Hh),Inv X pins σ H s->Wd X.K m h H->RSt X.K m H r σ->f r h=.ok d h'->∃h1:Hh,d=.ref h1.length/\wpAny (model X.prog X.w) X.A (eval iter X.env) (λv s1=>wpAny (model X.prog X.w) X.A (pyIter v)
   (PIE X pins σ tg λJ H2=>∃(m2:List Addr)(h2:Hh),h2.length=h1.length/\Gr X.K m H m2 H2/\Wd X.K m2 h2 H2/\Turns X.K t ft fe h2.length h' J m2 H2 (blockE N' cap r) (h2++ [.lst []])) X.xe s1) X.xe s):
 PE X (.ListComp elt [⟨tg,iter,ifs,0⟩] scope pos) (TDE X.K f):=by
 intro pins s σ H Q I ⟨m,r,h,d,h',w,st,e,c⟩
 obtain⟨h1,rfl,hw⟩:=hi pins s σ H m r h d h' I w st e
 rw[eval_ListComp]
 have S':ScOk scope X.env.scope:=by rw[xo.s];exact S
 refine wpAny_comprehension_free (use:=none) rfl (λz=>by cases iter<;>first |rfl|(cases hset;done)) (qzg λp hp e=>I.ok.has p.1 (.inl (S'.free p hp e))) S.kind S.loc ?_
 refine thn hw λv s1 q1=>thn q1 λitv s2 q2=>?_
 obtain⟨it,fp,tn,J,H2,rfl,I2,T,st2,fok,m2,h2,eh2,g2,w2,Lp,k0,L0,hst⟩:=q2
 refine wzD (Rr:=λacc C=>compPost (model X.prog X.w) X.A X.xe none (EP X pins σ Q) acc C) S' hcap (by rw[xo.n];exact hN) hfr xo.calm blk I2 T st2 fok w2 (st.mono g2) Lp k0 L0 hst λacc C s1 H' m' I1 ⟨mm,hn⟩ hC hL hz hc hp g' w' rv=>?_
 rw[eh2] at rv
 refine⟨mm,hn,λhh hsb=>⟨.ref acc,H',I1.turned (λb o hb e=>hsb.extBut b o hb e) hC (Ne.symm (Ne.symm hL)) (.inr hz) hc hp,rfl,c m' _ H' (g2.trans g') w' rv⟩⟩
theorem comp_ps{N':List Str}{scope:Scope}{cap:List Nat}{tg elt iter:PySem.Expr}{ifs:List PySem.Expr}{pos spos py:Pos}{y:Str}{i:Nat}{t:Tg}{ft:Ev->Hh->Rs Bool}{fe:Ev->Hh->Rs D}{f:Ev->Hh->Rs D}(xo:XOk X N sc)(S:ScOk scope sc)(hcap:cap.length<=N'.length)
 (hN:(N'.drop (N'.length-cap.length)).map some=cap.map (λ(i:Nat)=>N[i]?))(hfr:∀x∈N'.drop (N'.length-cap.length),scope.names.lookup x=some .free)
 (blk:∀(C:Addr)(s3:Shared)(H3:Hp)(fp:List Addr),PG (blkX X N' scope C s3 H3 fp) tg (TDG X.K t)/\PTs (blkX X N' scope C s3 H3 fp) ifs (TDB X.K ft)/\PE (blkX X N' scope C s3 H3 fp) elt (TDE X.K fe))(hset:noSet iter=true)
 (hi:∀(pins:List (Addr×Obj))(s:Shared)(σ:Sg)(H:Hp)(m:List Addr)(r:Ev)(h:Hh)(d:D)(h':Hh),Inv X pins σ H s->Wd X.K m h H->RSt X.K m H r σ->f r h=.ok d h'->∃h1:Hh,d=.ref h1.length/\wpAny (model X.prog X.w) X.A (eval iter X.env) (λv s1=>wpAny (model X.prog X.w) X.A (pyIter v)
   (PIE X pins σ tg λJ H2=>∃(m2:List Addr)(h2:Hh),h2.length=h1.length/\Gr X.K m H m2 H2/\Wd X.K m2 h2 H2/\Turns X.K t ft fe h2.length h' J m2 H2 (blockE N' cap r) (h2++ [.lst []])) X.xe s1) X.xe s)
 (hy:N[i]? =some y)(hl:sc.names.lookup y=some .local)(hsw:swapsWith (.ListComp elt [⟨tg,iter,ifs,0⟩] scope pos) (some (.Name y py)) spos.line X.env=pure true):
 PS X (.Assign [.Name y py] (.ListComp elt [⟨tg,iter,ifs,0⟩] scope pos) spos) (tAsg (TDE X.K f) (gName i)):=by
 intro pins s σ H Z I ⟨m,r,h,d,h',w,st,e,c⟩
 obtain⟨h1,rfl,hw⟩:=hi pins s σ H m r h d h' I w st e
 have S':ScOk scope X.env.scope:=by rw[xo.s];exact S
 rw[exec_Assign_Name_used _ _ _ _ hsw]
 refine wpAny_bind (wpAny_standAt (wpAny_bind ?_))
 show wpAny _ X.A (do let _ <- comprehension (.ListComp elt [⟨tg,iter,ifs,0⟩] scope pos) scope X.env _ (newList []) false (eval iter X.env) (some (assign (.Name y py) X.env))) _ _ s
 refine wpAny_bind (thn (wpAny_comprehension_free (use:=some (assign (.Name y py) X.env)) (Q:=λ_ s'=>SP X pins Z .next s') rfl (λz=>by cases iter<;>first |rfl|(cases hset;done)) (qzg λp hp e=>I.ok.has p.1 (.inl (S'.free p hp e))) S.kind S.loc ?_) λ_ s' q=>wpAny_pure (wpAny_pure q))
 refine thn hw λv s1 q1=>thn q1 λitv s2 q2=>?_
 obtain⟨it,fp,tn,J,H2,rfl,I2,T,st2,fok,m2,h2,eh2,g2,w2,Lp,k0,L0,hst⟩:=q2
 refine wzD (Rr:=λacc C=>compPost (model X.prog X.w) X.A X.xe (some (assign (.Name y py) X.env)) (λ_ s'=>SP X pins Z .next s') acc C) S' hcap (by rw[xo.n];exact hN) hfr xo.calm blk I2 T st2 fok w2 (st.mono g2) Lp k0 L0 hst λacc C s1 H' m' I1 ⟨mm,hn⟩ hC hL hz hc hp g' w' rv=>?_
 rw[eh2] at rv
 show wpAny _ X.A (assign (.Name y py) X.env (.ref acc)) _ _ s1
 have hyl:X.env.kindOf y=some .local:=by show X.env.scope.names.lookup y=_;rw[xo.s];exact hl
 refine wpAny_assign_Name (qzt (i:=i) (v:=.ref acc) I1 xo.nd (by rw[xo.n];exact hy) (.inl (by rw[xo.s];exact hl)) rfl (λs5 I5 ⟨a,hsa,hq⟩=>?_) (.inr (by rw[xo.s];exact hl)))
 have ea:a≠C:=by
  rcases hq with rfl|hq
  ·exact λz=>hL z.symm
  ·exact hc _ _ hq
 refine⟨mm,?_,λhh hsb=>⟨_,H',I5.turned (λb o hb e=>hsb.extBut b o hb e) hC hL (.inr hz) hc hp,c m' _ H' (g2.trans g') w' rv⟩⟩
 obtain⟨o,es,ep,e1,e2⟩:=hn
 exact⟨o,es,ep,hsa.extBut C o (Ne.symm ea) e1,e2⟩
end
end Ng
end
section
namespace Ng
open PySem PySem.Spec PyProof.Rows L2
section
variable {X:Cx}{N:List Str}{sc:Scope}{G:Gs}{ca:Nat->Addr}{cl:Cl}
theorem wzQ{ifs:List PySem.Expr}{env:Env}{M:Model}{A:Around}{E:Value->Shared->Prop}{s:Shared}{Q:Bool->Shared->Prop}(h:Q false s):wpAny M A (testsOf ifs env false) Q E s:=by
 induction ifs with
 |nil=>exact wpAny_pure h
 |cons c l ih=>
  unfold testsOf at ih⊢
  rw[List.forIn_cons,if_neg Bool.false_ne_true]
  exact wpAny_bind (wpAny_pure ih)
theorem vzD{c:PySem.Expr}{l:List PySem.Expr}{env:Env}{M:Model}{A:Around}{E:Value->Shared->Prop}{s:Shared}{Q:Bool->Shared->Prop}(h:wpAny M A (isTrue c env (eval c env)) (λb s'=>wpAny M A (testsOf l env b) Q E s') E s):wpAny M A (testsOf (c::l) env true) Q E s:=by
 unfold testsOf at h⊢
 rw[List.forIn_cons,if_pos rfl]
 exact wpAny_bind (wpAny_bind (thn h λb s' q=>wpAny_pure q))
theorem qzm{N':List Str}{scope:Scope}(xo:XOk X N sc)(nd:N'.Nodup)(C:Addr)(s3:Shared)(H3:Hp)(fp:List Addr):XOk (blkX X N' scope C s3 H3 fp) N' (relab scope sc):=
 ⟨rfl,by rw[<- xo.s];rfl,xo.calm,nd,xo.room,xo.rng,PassesOwn.never,xo.cd⟩
theorem wz7{N':List Str}{scope:Scope}(S:ScOk scope X.env.scope)(C:Addr)(s3:Shared)(H3:Hp)(fp:List Addr):LocOk (blkX X N' scope C s3 H3 fp) scope:=λx hx=>by
 rcases qz9 hx with h|h
 ·have z:(relabel scope X.env).names.lookup x=some .local:=lookup_relabel_local h
  exact⟨.inl z,.inr z⟩
 ·have z:(relabel scope X.env).names.lookup x=some .cell:=vz6 h
  refine⟨.inr z,.inl ?_⟩
  show(scope.names.lookup x==some .cell)=true
  rw[h];rfl
theorem wzK{N':List Str}{scope:Scope}(go:GOk X G ca cl)(C:Addr)(s3:Shared)(H3:Hp)(fp:List Addr):GOk (blkX X N' scope C s3 H3 fp) G ca cl:=⟨go.fn,go.cst,go.blt,go.ty,go.exc,go.sub,go.nsub,go.verr,⟨go.c.att,go.c.meth,go.c.new⟩⟩
end
end Ng
end
section
namespace Ng
open PySem PySem.Spec PyProof.Rows L2
abbrev Emit:=Sem PySem.Fin->Sem PySem.Fin
def dEmit(kx vx:PySem.Expr)(Dn:Addr)(env:Env):Emit:=λag=>(eval kx env>>=λkv=>holding [kv] (eval vx env)>>=λvv=>standAt {kx.pos with endLine:=vx.pos.endLine,endCol:=vx.pos.endCol}>>=λ_=>holding [kv,vv] (dictSet Dn kv vv))>>=λ_=>ag
def iEmit(e iter2:PySem.Expr)(acc:Value)(env:Env):Emit:=λag=>eval iter2 env>>=λx=>standAt iter2.pos>>=λ_=>foldedSetIterable iter2 env x>>=λy=>holding [y] (pyIter y)>>=λi2=>runOwn (.compStart e 1 i2 acc env) env>>=λ_=>ag
def turnOf(tg:PySem.Expr)(ip:Pos)(it:Value)(env:Env)(emit:Emit)(ag:Sem PySem.Fin):Sem PySem.Fin:=standAt ip>>=λ_=>pyNext it>>=λr=>match r with
 |none=>pure (.done .next)
 |some v=>letOwnedTupleGo tg it v>>=λ_=>assign tg env v>>=λ_=>emit ag
theorem ct_in(kx vx tg1 iter1 tg2 iter2:PySem.Expr)(scope:Scope)(pos:Pos)(it:Value)(Dn:Addr)(env:Env):compTurn (.DictComp kx vx [⟨tg1,iter1,[],0⟩,⟨tg2,iter2,[],0⟩] scope pos) 1 it (.ref Dn) env=
 turnOf tg2 iter2.pos it env (dEmit kx vx Dn env) (again (.compLoop (.DictComp kx vx [⟨tg1,iter1,[],0⟩,⟨tg2,iter2,[],0⟩] scope pos) 1 it (.ref Dn) env)):=by rfl
theorem ct_out(kx vx tg1 iter1 tg2 iter2:PySem.Expr)(scope:Scope)(pos:Pos)(it acc:Value)(env:Env):compTurn (.DictComp kx vx [⟨tg1,iter1,[],0⟩,⟨tg2,iter2,[],0⟩] scope pos) 0 it acc env=
 turnOf tg1 iter1.pos it env (iEmit (.DictComp kx vx [⟨tg1,iter1,[],0⟩,⟨tg2,iter2,[],0⟩] scope pos) iter2 acc env) (again (.compLoop (.DictComp kx vx [⟨tg1,iter1,[],0⟩,⟨tg2,iter2,[],0⟩] scope pos) 0 it acc env)):=by rfl
theorem loopW{kx vx e tg:PySem.Expr}{gens:List Comprehension}{scope:Scope}{pos:Pos}{dep:Nat}{ip:Pos}{it acc:Value}{env:Env}{emit:Emit}(he:e=.DictComp kx vx gens scope pos){P:Program}{w:World}{A:Around}{R:Result->Shared->Prop}{s:Shared}(hct:compTurn e dep it acc env=turnOf tg ip it env emit (again (.compLoop e dep it acc env)))(J:Nat->Shared->Prop)
 (turn:∀k s,J k s->wpAny (model P w) A (pyNext it) (λr s1=>match r with
   |none=>R (.ok .next) s1
   |some v=>wpAny (model P w) A (letOwnedTupleGo tg it v) (λ_ s2=>wpAny (model P w) A (assign tg env v) (λ_ s3=>∀(Z:PySem.Fin->Shared->Prop)(E:Value->Shared->Prop)(ag:Sem PySem.Fin),(∀s4,(∃k',k'<k/\J k' s4)->wpAny (model P w) A ag Z E s4)->wpAny (model P w) A (emit ag) Z E s3) nev s2) nev s1) nev s)
 (k:Nat)(h:J k s):codeAny (model P w) A (.compLoop e dep it acc env) R s:=by
 subst he
 refine codeAny_loop (I:=J) rfl (turn:=λk s hk=>?_) k h
 show wpAny _ A (Sem.onRaise (compTurn (.DictComp kx vx gens scope pos) dep it acc env) (λx=>do noteFrame x env;theTreesLotGoes x)) _ _ s
 refine wpAny_noted ?_
 rw[hct]
 unfold turnOf
 have no:∀{E:Value->Shared->Prop}(e:Value)(s:Shared),nev e s->E e s:=λ_ _ f=>f.elim
 refine wpAny_bind (wpAny_standAt (wpAny_bind (wpAny_mono (turn k s hk) (λr s1 q1=>?_) no)))
 cases r with
 |none=>exact wpAny_pure q1
 |some v=>exact wpAny_bind (wpAny_mono q1 (λ_ s2 q2=>wpAny_bind (wpAny_mono q2 (λ_ s3 q3=>q3 _ _ _ λs4 q4=>wpAny_pure ⟨rfl,q4⟩) no)) no)
def PB(Y:Cx)(emit:Emit)(n0:Nat)(acc:Addr)(fb:Ev->Hh->Rs Ev):Prop:=∀(pins:List (Addr×Obj))(s:Shared)(σ:Sg)(H:Hp)(m:List Addr)(r:Ev)(h:Hh)(r':Ev)(h':Hh),Inv Y pins σ H s->Wd Y.K m h H->RSt Y.K m H r σ->m[n0]? =some acc->fb r h=.ok r' h'->
 ∀(Z:PySem.Fin->Shared->Prop)(E:Value->Shared->Prop)(ag:Sem PySem.Fin),(∀s' m' σ' H',Inv Y pins σ' H' s'->Gr Y.K m H m' H'->Wd Y.K m' h' H'->RSt Y.K m' H' r' σ'->wpAny (model Y.prog Y.w) Y.A ag Z E s')->wpAny (model Y.prog Y.w) Y.A (emit ag) Z E s
def StpG(K:PySem.W.Frag)(t:Tg)(fb:Ev->Hh->Rs Ev)(End:Ev->Hh->Prop)(J:It)(Lp:Nat->Nat->Ev->Hh->Prop)(i k:Nat)(r:Ev)(h:Hh)(m:List Addr)(H:Hp):Prop:=
 (J.stop i H/\End r h)\/(J.go i H/\∃d,(∀x H2,J.yld i H x H2->H2=H/\RD K m H d x)/\∃r1,setT t d r=some r1/\∃r2 h1,fb r1 h=.ok r2 h1/\∃k',k'<k/\Lp (i+1) k' r2 h1)
section
variable {Y:Cx}{tg e:PySem.Expr}{kx vx:PySem.Expr}{gens:List Comprehension}{scope:Scope}{pos:Pos}{t:Tg}{emit:Emit}{fb:Ev->Hh->Rs Ev}{n0 acc dep:Nat}{ip:Pos}{it:Addr}{J:It}{fp:List Addr}{tn:Nat->Heap->Prop}{m2:List Addr}{H2:Hp}{End:Ev->Hh->Prop}{R:Result->Shared->Prop}{pins:List (Addr×Obj)}
theorem wzA(he:e=.DictComp kx vx gens scope pos)(hct:compTurn e dep (.ref it) (.ref acc) Y.env=turnOf tg ip (.ref it) Y.env emit (again (.compLoop e dep (.ref it) (.ref acc) Y.env)))(calm:Y.calm=true)(bG:PG Y tg (TDG Y.K t))(hxe:Y.xe=nev)(bE:PB Y emit n0 acc fb)(T:Turn Y.prog Y.w Y.K tg J fp it tn)
 (Lp:Nat->Nat->Ev->Hh->Prop)(hst:∀i k r h m H,Gr Y.K m2 H2 m H->Wd Y.K m h H->Lp i k r h->StpG Y.K t fb End J Lp i k r h m H)(hacc:m2[n0]? =some acc)
 (fok:∀{H:Hp},(∀b∈fp,H b=none)->∀b∈fp,FpOk Y pins H b)
 {s:Shared}{σ:Sg}{H:Hp}{m:List Addr}{r:Ev}{h:Hh}{k:Nat}(I:Inv Y pins σ H s)(st:tn 0 s.heap)(fr:∀b∈fp,H b=none)(g:Gr Y.K m2 H2 m H)(w:Wd Y.K m h H)(rs:RSt Y.K m H r σ)(L0:Lp 0 k r h)
 (fin:∀s' σ' H' m' r' h',Inv Y pins σ' H' s'->Gr Y.K m2 H2 m' H'->Wd Y.K m' h' H'->RSt Y.K m' H' r' σ'->End r' h'->R (.ok .next) s'):codeAny (model Y.prog Y.w) Y.A (.compLoop e dep (.ref it) (.ref acc) Y.env) R s:=by
 refine loopW he hct (λk s=>∃i σ' H' m r h,Inv Y pins σ' H' s/\tn i s.heap/\(∀b∈fp,H' b=none)/\Gr Y.K m2 H2 m H'/\Wd Y.K m h H'/\RSt Y.K m H' r σ'/\Lp i k r h) ?_ k ⟨0,σ,H,m,r,h,I,st,fr,g,w,rs,L0⟩
 rintro k s ⟨i,σ',H',m,r',h,I',st',fr',g',w',rst',L⟩
 rcases hst i k r' h m H' g' w' L with ⟨stop,eh⟩|⟨go,d,hy,r1,er,r2,h1,eb,rest⟩
 ·refine thn (T.done Y rfl rfl rfl calm i pins s σ' H' nev I' (fok fr') st' stop) λres s1 ⟨hr,I1⟩=>?_
  subst hr
  exact fin s1 σ' H' m r' h I1 g' w' rst' eh
 ·refine thn (T.item Y rfl rfl rfl calm i pins s σ' H' nev I' (fok fr') st' go) λres s1 ⟨u,hr,q1⟩=>?_
  subst hr
  refine thn q1 λ_ s5 ⟨x,H5,I5,rx,yl,st5,fr5⟩=>?_
  obtain⟨eH,rd⟩:=hy x H5 yl
  subst eH
  have I5':=I5.pinned (fok fr5) (T.obj _ _ st5)
  have bG':=bG (pins++pinsAt fp s5.heap) s5 σ' H5 x u (λσ2 H6=>H6=H5/\RSt Y.K m H5 r1 σ2) I5' rx ⟨m,h,r',d,r1,w',rst',rd,er,λs' z=>⟨rfl,z⟩⟩
  rw[hxe] at bG'
  refine thn bG' λ_ s6 ⟨σ6,H6,I6,eH6,st6⟩=>?_
  subst eH6
  obtain⟨k',hk,L7⟩:=rest
  intro Z E ag hag
  refine bE _ s6 σ6 H6 m r1 h r2 h1 I6 w' st6 (g'.pre _ _ hacc) eb Z E ag λs7 m7 σ7 H7 I7 g7 w7 st7=>hag s7 ?_
  have pn:∀b∈fp,∀o,s5.heap.get? b=some o->s7.heap.get? b=some o/\H7 b=none:=λb hb o e=>let z:=I7.pin (b,o) (List.mem_append_right _ (List.mem_append_right _ (jzZ hb e)));⟨z.1,z.2.1⟩
  exact⟨k',hk,i+1,σ7,H7,m7,r2,h1,I7.unpinned,T.keep _ _ _ st5 λb hb o e=>(pn b hb o e).1,λb hb=>let⟨o,e,_⟩:=T.obj _ _ st5 b hb;(pn b hb o e).2,g'.trans g7,w7,st7,L7⟩
end
section
variable {Y:Cx}{kx vx iter2:PySem.Expr}{fk fv fi:Ev->Hh->Rs D}{n0 acc:Nat}
theorem RDs.snd_put{K:PySem.W.Frag}{m:List Addr}{H:Hp}{k:Key}{z:D}{v:V}(rz:RD K m H z v):∀{ds:List (Key×D)}{us:List (Key×V)},ds.map (·.1)=us.map (·.1)->RDs K m H (ds.map (·.2)) (us.map (·.2))->
 (ds.map (λkv=>if kv.1=k then(kv.1,z) else kv)).map (·.1)=(us.map (λkv=>if kv.1=k then(kv.1,v) else kv)).map (·.1)/\RDs K m H ((ds.map (λkv=>if kv.1=k then(kv.1,z) else kv)).map (·.2)) ((us.map (λkv=>if kv.1=k then(kv.1,v) else kv)).map (·.2))
 | [],[],_,_=>⟨rfl,.nil⟩
 | [],q::us,hk,_=>by simp at hk
 |p::ds,[],hk,_=>by simp at hk
 |p::ds,q::us,hk,r=>by
  simp only[List.map_cons,List.cons.injEq] at hk
  cases r with
  |cons r1 r2=>
   obtain⟨i1,i2⟩:=RDs.snd_put (k:=k) rz hk.2 r2
   simp only[List.map_cons]
   by_cases e:p.1=k
   ·have e2:q.1=k:=by rw[<- hk.1];exact e
    rw[if_pos e,if_pos e2]
    exact⟨by simp only[List.cons.injEq];exact⟨hk.1,i1⟩,.cons rz i2⟩
   ·have e2:¬q.1=k:=by rw[<- hk.1];exact e
    rw[if_neg e,if_neg e2]
    exact⟨by simp only[List.cons.injEq];exact⟨hk.1,i1⟩,.cons r1 i2⟩
theorem put_rel{K:PySem.W.Frag}{m:List Addr}{H:Hp}{k:Key}{z:D}{v:V}{ds:List (Key×D)}{us:List (Key×V)}(rz:RD K m H z v)(hk:ds.map (·.1)=us.map (·.1))(r:RDs K m H (ds.map (·.2)) (us.map (·.2))):
 (putD ds k z).map (·.1)=(putK us k v).map (·.1)/\RDs K m H ((putD ds k z).map (·.2)) ((putK us k v).map (·.2)):=by
 have an:(ds.any λkv=>decide (kv.1=k))=us.any λkv=>decide (kv.1=k):=by
  have h1:(ds.any λkv=>decide (kv.1=k))=(ds.map (·.1)).any λx=>decide (x=k):=by rw[List.any_map];rfl
  have h2:(us.any λkv=>decide (kv.1=k))=(us.map (·.1)).any λx=>decide (x=k):=by rw[List.any_map];rfl
  rw[h1,h2,hk]
 unfold putD putK
 rw[an]
 split
 ·exact RDs.snd_put rz hk r
 ·simp only[List.map_append,List.map_cons,List.map_nil]
  exact⟨by rw[hk],r.append (.cons rz .nil)⟩
theorem zzG{K:PySem.W.Frag}{m:List Addr}{h h':Hh}{H:Hp}{n:Nat}{a:Addr}{y z:D}{vy vz:V}{u:Unit}(w:Wd K m h H)(ha:m[n]? =some a)(ry:RD K m H y vy)(rz:RD K m H z vz)(e:dputD n y z h=.ok u h'):
 ∃us k,H a=some (.dK us)/\vy=kV k/\us.length<1000/\Wd K m h' (upd H a (.dK (putK us k vz)))/\Gr K m H m (upd H a (.dK (putK us k vz))):=by
 unfold dputD at e
 split at e
 ·rename_i l k el ek
  split at e
  ·rename_i hl
   cases e
   obtain⟨us,q1,q2,q3⟩:=w.ob n _ a el ha
   have ll:l.length=us.length:=by have:=congrArg List.length q2;simpa using this
   obtain⟨w2,g2⟩:=w.objSet (o':=.dct (putD l k z)) (u:=.dK (putK us k vz)) el rfl ha λg=>by
    obtain⟨i1,i2⟩:=put_rel (k:=k) (rz.mono g) q2 (q3.mono g)
    exact⟨_,jzq,i1,i2⟩
   exact⟨us,k,q1,jz8 ry ek,by omega,w2,g2⟩
  ·cases e
 ·cases e
def dFb(fk fv:Ev->Hh->Rs D)(n0:Nat):Ev->Hh->Rs Ev:=λr h=>(fk r h).bind λy h=>(fv r h).bind λz h=>(dputD n0 y z h).bind λ_ h=>.ok r h
theorem pb_dict(hxe:Y.xe=nev)(pk:PE Y kx (TDE Y.K fk))(pvx:PE Y vx (TDE Y.K fv)):PB Y (dEmit kx vx acc Y.env) n0 acc (dFb fk fv n0):=by
 intro pins s σ H m r h r' h' I w st hm e Z E ag hag
 obtain⟨y,h1,e1,e⟩:=Rs.bind_ok e
 obtain⟨z,h2,e2,e⟩:=Rs.bind_ok e
 obtain⟨u,h3,e3,e⟩:=Rs.bind_ok e
 cases e
 have no:∀{E:Value->Shared->Prop}(e:Value)(s:Shared),nev e s->E e s:=λ_ _ f=>f.elim
 unfold dEmit
 have p1:=pk pins s σ H (λv H1=>∃m1,Gr Y.K m H m1 H1/\Wd Y.K m1 h1 H1/\RD Y.K m1 H1 y v) I ⟨m,r,h,y,h1,w,st,e1,λm' v H' g w' rv=>⟨m',g,w',rv⟩⟩
 rw[hxe] at p1
 refine wpAny_bind (wpAny_bind (wpAny_mono p1 (λkv s1 ⟨ky,H1,I1,rk,m1,g1,w1,rdk⟩=>?_) no))
 have p2:=pvx pins s1 σ H1 (λv H2=>∃m2,Gr Y.K m1 H1 m2 H2/\Wd Y.K m2 h2 H2/\RD Y.K m2 H2 z v) I1 ⟨m1,r,h1,z,h2,w1,st.mono g1,e2,λm' v H' g w' rv=>⟨m',g,w',rv⟩⟩
 rw[hxe] at p2
 refine wpAny_bind (wpAny_holding (wpAny_mono p2 (λvv s2 ⟨vy,H2,I2,rv,m2,g2,w2,rdv⟩=>?_) no))
 refine wpAny_bind (wpAny_standAt (wpAny_holding ?_))
 have hm2:=g2.pre _ _ (g1.pre _ _ hm)
 obtain⟨us,k,q1,rfl,q3,w3,g3⟩:=zzG w2 hm2 (rdk.mono g2) rdv e3
 obtain⟨zl,hd,vs,rel,dd⟩:=dk_of I2.hok q1
 have hz:vs.length<=sizeLine:=by rw[<- rel.length];exact zl
 have hl:(putK us k vy).length<=sizeLine:=by have:=jzN us k vy;have:(1001:Nat)<=sizeLine:=(by decide);omega
 refine wpAny_dictSet_pairs (hsz:=hz) (kV_is rk) dd λhh dd' hs=>?_
 have he:∃q,hh.get? acc=some q:=let⟨q,_,_,hq,_⟩:=dd';⟨q,hq⟩
 exact hag _ m2 σ _ (jzW I2 (by rw[q1];exact True.intro) hs he (zzH hl hd (rel.put k rv) dd')) ((g1.trans g2).trans g3) w3 (st.mono ((g1.trans g2).trans g3))
end
theorem start1{kx vx tg1 iter1 tg2 iter2:PySem.Expr}{scope:Scope}{pos:Pos}{it acc:Value}{env:Env}{P:Program}{w:World}{A:Around}{R:Result->Shared->Prop}{s:Shared}
 (h0:codeAny (model P w) A (.compLoop (.DictComp kx vx [⟨tg1,iter1,[],0⟩,⟨tg2,iter2,[],0⟩] scope pos) 1 it acc env) R s)
 (h:wpAny (model P w) A (pyIter it) (λit' s'=>codeAny (model P w) A (.compLoop (.DictComp kx vx [⟨tg1,iter1,[],0⟩,⟨tg2,iter2,[],0⟩] scope pos) 1 it' acc env) R s') nev s):
 codeAny (model P w) A (.compStart (.DictComp kx vx [⟨tg1,iter1,[],0⟩,⟨tg2,iter2,[],0⟩] scope pos) 1 it acc env) R s:=by
 refine codeAny_of_tree ?_
 show wpAny _ A (Sem.onRaise (compStart (.DictComp kx vx [⟨tg1,iter1,[],0⟩,⟨tg2,iter2,[],0⟩] scope pos) 1 it acc env) (λx=>do noteFrame x env;standAt theWindowsPlace)) _ _ s
 have no:∀{E:Value->Shared->Prop}(e:Value)(s:Shared),nev e s->E e s:=λ_ _ f=>f.elim
 refine wpAny_notedAt ?_
 unfold compStart
 show wpAny _ _ (ask>>=_) _ _ s
 refine wpAny_bind (wpAny_askSetting (wpAny_ite ?_))
 split
 ·first
   |exact wpAny_pure ⟨rfl,h0⟩
   |exact wpAny_bind (wpAny_pure (wpAny_pure ⟨rfl,h0⟩))
 ·refine wpAny_bind (wpAny_rule ?_)
  show wpAny _ _ (standAt iter2.pos>>=_) _ _ s
  exact wpAny_bind (wpAny_standAt (wpAny_bind (wpAny_mono h (λit' s' h'=>wpAny_pure ⟨rfl,h'⟩) no)))
section
variable {Y:Cx}{kx vx tg1 iter1 tg2 iter2:PySem.Expr}{scope:Scope}{pos:Pos}{t2:Tg}{fk fv fi:Ev->Hh->Rs D}{n0 acc:Nat}
def iFb(fi:Ev->Hh->Rs D)(t2:Tg)(fk fv:Ev->Hh->Rs D)(n0:Nat):Ev->Hh->Rs Ev:=λr h=>(fi r h).bind λy h=>match y with
 |.tup ds=>dcS t2 fk fv n0 ds r h
 |_=>.bad
theorem pb_iter(hxe:Y.xe=nev)(calm:Y.calm=true)(hns:noSet iter2=true)(pi:PE Y iter2 (TDE Y.K fi))(bG:PG Y tg2 (TDG Y.K t2))(bE:PB Y (dEmit kx vx acc Y.env) n0 acc (dFb fk fv n0)):
 PB Y (iEmit (.DictComp kx vx [⟨tg1,iter1,[],0⟩,⟨tg2,iter2,[],0⟩] scope pos) iter2 (.ref acc) Y.env) n0 acc (iFb fi t2 fk fv n0):=by
 intro pins s σ H m r h r' h' I w st hm e Z E ag hag
 obtain⟨y,h1,e1,e⟩:=Rs.bind_ok e
 cases y<;>first |(cases e;done)|skip
 rename_i ds
 have e':dcS t2 fk fv n0 ds r h1=.ok r' h':=e
 have no:∀{E:Value->Shared->Prop}(e:Value)(s:Shared),nev e s->E e s:=λ_ _ f=>f.elim
 unfold iEmit
 have p1:=zza (tg:=tg2) pi pins s σ H (λJ H1=>∃a m1 vs,J=Itt Y.K a/\Gr Y.K m H m1 H1/\Wd Y.K m1 h1 H1/\SqT Y.K H1 a vs/\RDs Y.K m1 H1 ds vs) I ⟨m,r,h,.tup ds,h1,w,st,e1,λm' v H' g w' rv=>by
  cases rv with
  |tup hq q=>exact⟨_,rfl,⟨_,hq⟩,_,m',_,rfl,g,w',hq,q⟩⟩
 rw[hxe] at p1
 refine wpAny_bind (wpAny_mono p1 (λv s1 q1=>wpAny_bind (wpAny_standAt (wpAny_bind (wpAny_of_eq (a:=v) (by cases iter2<;>first |rfl|(cases hns;done)) (wpAny_bind (wpAny_holding (wpAny_mono q1 (λitv s2 q2=>?_) no))))))) no)
 obtain⟨it,fp,tn,J,H1,rfl,I1,T,st1,fok,a,m1,vs,rfl,g1,w1,hq,q⟩:=q2
 have loop:∀R:Result->Shared->Prop,(∀s' m' σ' H',Inv Y pins σ' H' s'->Gr Y.K m H m' H'->Wd Y.K m' h' H'->RSt Y.K m' H' r' σ'->R (.ok .next) s')->
  codeAny (model Y.prog Y.w) Y.A (.compLoop (.DictComp kx vx [⟨tg1,iter1,[],0⟩,⟨tg2,iter2,[],0⟩] scope pos) 1 (.ref it) (.ref acc) Y.env) R s2:=λR fin=>by
  refine wzA (m2:=m1) (H2:=H1) (n0:=n0) (acc:=acc) (e:=.DictComp kx vx [⟨tg1,iter1,[],0⟩,⟨tg2,iter2,[],0⟩] scope pos) rfl (ct_in ..) calm bG hxe bE T (λi k r h=>k=ds.length-i/\dcS t2 fk fv n0 (ds.drop i) r h=.ok r' h') (End:=λr h=>r=r'/\h=h') (λi k r h m H g w ⟨hk,e⟩=>?_) (g1.pre _ _ hm)
   (λhn b hb=>⟨hn b hb,(fok b hb).2⟩) I1 st1 (λb hb=>(fok b hb).1) .refl w1 (st.mono g1) (k:=ds.length) ⟨by simp,by simpa using e'⟩ λs' σ' H' m' r2 h2 I' g' w' st' ⟨er,eh⟩=>by subst er eh;exact fin s' m' σ' H' I' (g1.trans g') w' st'
  by_cases hi:i<ds.length
  ·have ed:ds[i]? =some ds[i]:=List.getElem?_eq_getElem hi
   obtain⟨v,hv,rv⟩:=q.get ed
   rw[List.drop_eq_getElem_cons hi] at e
   simp only[dcS] at e
   split at e
   ·cases e
   ·rename_i r1 er
    obtain⟨y,h2,ey,e⟩:=Rs.bind_ok e
    obtain⟨z,h3,ez,e⟩:=Rs.bind_ok e
    obtain⟨_,h4,e4,e⟩:=Rs.bind_ok e
    refine .inr ⟨⟨vs,v,g.tup _ _ hq,hv⟩,ds[i],λx H' yl=>?_,r1,er,r1,h4,?_,ds.length-(i+1),by omega,rfl,e⟩
    ·obtain⟨eH,yl⟩:=yl
     have:=yl vs (g.tup _ _ hq)
     rw[hv] at this;cases this
     exact⟨eH,rv.mono g⟩
    ·unfold dFb
     rw[ey]
     show((fv r1 h2).bind λz h=>(dputD n0 y z h).bind λ_ h=>.ok r1 h)=_
     rw[ez]
     show((dputD n0 y z h3).bind λ_ h=>.ok r1 h)=_
     rw[e4]
     rfl
  ·rw[List.drop_eq_nil_of_le (by omega)] at e
   cases e
   exact .inl ⟨⟨vs,g.tup _ _ hq,by rw[<- q.length];omega⟩,rfl,rfl⟩
 refine wpAny_bind (wpAny_runOwn (start1 (loop _ ?_) (T.self Y.A 0 _ _ _ st1 (loop _ ?_))))
 ·exact λs' m' σ' H' I' g' w' st'=>hag s' m' σ' H' I' g' w' st'
 ·exact λs' m' σ' H' I' g' w' st'=>hag s' m' σ' H' I' g' w' st'
end
section
variable {X:Cx}{N':List Str}{scope:Scope}{cap:List Nat}{kx vx tg1 iter1 tg2 iter2:PySem.Expr}{pos:Pos}{t1 t2:Tg}{fi fk fv:Ev->Hh->Rs D}
structure DBlk (Y:Cx)(K:PySem.W.Frag)(tg1 tg2 iter2 kx vx:PySem.Expr)(t1 t2:Tg)(fi fk fv:Ev->Hh->Rs D):Prop where
 g1:PG Y tg1 (TDG K t1)
 g2:PG Y tg2 (TDG K t2)
 i2:PE Y iter2 (TDE K fi)
 k:PE Y kx (TDE K fk)
 v:PE Y vx (TDE K fv)
theorem vzU{pins:List (Addr×Obj)}{σ:Sg}{H2:Hp}{s2:Shared}{fp:List Addr}{it a:Addr}{tn:Nat->Heap->Prop}{m2:List Addr}{h2 h':Hh}{r:Ev}{n k0:Nat}(S:ScOk scope X.env.scope)(hcap:cap.length<=N'.length)
 (hN:(N'.drop (N'.length-cap.length)).map some=cap.map (λ(i:Nat)=>X.N[i]?))(hfr:∀x∈N'.drop (N'.length-cap.length),scope.names.lookup x=some .free)(calm:X.calm=true)(hns2:noSet iter2=true)
 (blk:∀(C:Addr)(s3:Shared)(H3:Hp)(fp:List Addr),DBlk (blkX X N' scope C s3 H3 fp) X.K tg1 tg2 iter2 kx vx t1 t2 fi fk fv)
 (I:Inv X pins σ H2 s2)(T:Turn X.prog X.w X.K tg1 (Itl X.K a) fp it tn)(st:tn 0 s2.heap)(fok:∀b∈fp,FpOk X pins H2 b)(w2:Wd X.K m2 h2 H2)(rst:RSt X.K m2 H2 r σ)(ha:m2[n]? =some a)
 (e:dcI t1 fi t2 fk fv h2.length n k0 0 (blockE N' cap r) (h2++ [.dct []])=.ok () h')
 {Rr:Value->Addr->Result->Shared->Prop}
 (c:∀(acc C:Addr)(s1:Shared)(H':Hp)(m':List Addr),Inv X pins σ H' s1->(∃mm,s1.heap.Ns C mm)->H' C=none->C≠X.env.locals->X.s₀.heap.objs.size<=C->(∀x a,X.env.cells.lookup x=some a->a≠C)->(∀p∈X.pn++pins,p.1≠C)->Gr X.K m2 H2 m' H'->Wd X.K m' h' H'->RD X.K m' H' (.ref h2.length) (.ref acc)->Rr (.ref acc) C (.ok .next) s1):
 wpAny (model X.prog X.w) X.A newDict (λacc s3=>wpAny (model X.prog X.w) X.A (newFunctionEnv scope X.env.globals (clOf scope X.env) [] X.env.qual none .none (some X.env)) (λcenv s4=>
  codeAny (model X.prog X.w) X.A (.compStart (.DictComp kx vx [⟨tg1,iter1,[],0⟩,⟨tg2,iter2,[],0⟩] scope pos) 0 (.ref it) acc {cenv with scope:=relabel scope X.env}) (Rr acc cenv.locals) s4) X.xe s3) X.xe s2:=by
 have fob:∀b∈fp,b<s2.heap.objs.size:=λb hb=>let⟨o,e,_⟩:=T.obj 0 _ st b hb;Heap.lt_size e
 have ffb:∀b∈fp,∀o,X.base.get? b≠some o:=λb hb o e=>by
  rcases(fok b hb).2.2.2.1 with z|z
  ·exact I.ok.noex b o e z
  ·exact absurd (Nat.lt_of_lt_of_le (Heap.lt_size (I.ok.bs b o e).1) z) (Nat.lt_irrefl _)
 have hacc0:H2 s2.heap.objs.size=none:=I.hok.fresh (Nat.le_refl _)
 refine wpAny_newObj_type (jzL (λh1 hns keep cok=>?_))
 dsimp only at hns keep cok⊢
 obtain⟨w3,g3⟩:=w2.objNew (o:=.dct []) (u:=.dK []) hacc0 λ_=>⟨[],jzq,rfl,.nil⟩
 have I3:Inv X pins σ (upd H2 s2.heap.objs.size (.dK [])) {s2 with heap:=s2.heap.push {cls:=.type "dict",dict:=none,data:=.dict #[]}}:=
  I.laid (t':=s2.toks) (λb u e=>Heap.get?_push_of_some _ e) (Nat.le_refl _) (wzf s2.heap I.big)
 have fok3:∀b∈fp,FpOk X pins (upd H2 s2.heap.objs.size (.dK [])) b:=λb hb=>⟨by rw[jzi (Nat.ne_of_lt (fob b hb))];exact(fok b hb).1,(fok b hb).2⟩
 have st3:tn 0 h1:=T.keep _ _ _ st λb hb o e=>keep b o (Heap.get?_push_of_some _ e)
 have B:=bcs_ok (env:=X.env) S (λx c e=>let⟨_,q⟩:=I3.cell x c e;q.lt) cok
 have I4:=wzJ (N':=N') (scope:=scope) (fp:=fp) (cap:=cap) I3 S hcap hN hfr (h1:=h1) (tk:=s2.toks) hns keep B fok3 (λb hb=>by
  show b<(s2.heap.push _).objs.size
  rw[Heap.size_push];exact Nat.lt_succ_of_lt (fob b hb)) ffb
 have hsz:(s2.heap.push {cls:=.type "dict",dict:=none,data:=.dict #[]}).objs.size=s2.heap.objs.size+1:=Heap.size_push ..
 generalize hs3:({s2 with heap:=s2.heap.push {cls:=.type "dict",dict:=none,data:=.dict #[]}}:Shared)=s3 at I3 I4
 have eh3:s2.heap.push {cls:=.type "dict",dict:=none,data:=.dict #[]}=s3.heap:=by rw[<- hs3]
 rw[eh3] at hns keep cok B hsz⊢
 generalize hH3:upd H2 s2.heap.objs.size (.dK [])=H3 at I3 I4 w3 g3 fok3
 have b:=blk s3.heap.objs.size s3 H3 fp
 have hac:(m2++ [s2.heap.objs.size])[h2.length]? =some s2.heap.objs.size:=by rw[<- w2.len];simp
 have stkN:∀b,b≠X.env.locals->b ∉ X.fs->b ∉ frs X.stack:=λb h1 h2 hb=>(List.mem_cons.mp (I3.stkSub b hb)).elim h1 h2
 have fokB:∀{H:Hp},(∀b∈fp,H b=none)->∀b∈fp,FpOk (blkX X N' scope s3.heap.objs.size s3 H3 fp) [] H b:=λhn b hb=>
  ⟨hn b hb,Nat.ne_of_lt (by rw[hsz];exact Nat.lt_succ_of_lt (fob b hb)),stkN b (fok b hb).2.1 (fok b hb).2.2.1,.inl hb,λx c e=>(B.inv x c e).elim (λa=>(fok b hb).2.2.2.2.1 x c (jzz a)) (λa=>Nat.ne_of_gt (Nat.lt_trans (by rw[hsz];exact Nat.lt_succ_of_lt (fob b hb)) a.1)),λp hp=>absurd (show p∈([]:List (Addr×Obj)) from hp) (by simp)⟩
 have loop:∀s4:Shared,s4={s3 with heap:=h1,toks:=s2.toks}->codeAny (model X.prog X.w) X.A (.compLoop (.DictComp kx vx [⟨tg1,iter1,[],0⟩,⟨tg2,iter2,[],0⟩] scope pos) 0 (.ref it) (.ref s2.heap.objs.size) (compEnvC scope (bcs scope X.env s3.heap.objs.size) s3.heap.objs.size X.env)) (Rr (.ref s2.heap.objs.size) s3.heap.objs.size) s4:=by
  rintro s4 rfl
  refine wzA (Y:=blkX X N' scope s3.heap.objs.size s3 H3 fp) (m2:=m2++ [s2.heap.objs.size]) (H2:=H3) (n0:=h2.length) (acc:=s2.heap.objs.size) (e:=.DictComp kx vx [⟨tg1,iter1,[],0⟩,⟨tg2,iter2,[],0⟩] scope pos) (pins:= []) (t:=t1) (End:=λ_ h=>h=h') rfl (ct_out ..) calm b.g1 rfl
   (pb_iter (tg1:=tg1) (iter1:=iter1) (scope:=scope) (pos:=pos) rfl calm hns2 b.i2 b.g2 (pb_dict rfl b.k b.v)) T (λi k r h=>dcI t1 fi t2 fk fv h2.length n k i r h=.ok () h') (λi k r h m H g w e=>?_) hac fokB I4 st3 (λb hb=>(fok3 b hb).1) .refl w3 (qzX (rst.mono g3)) e λs' σ' H' m' r' hh I1 g' w' st' eh=>?_
  ·cases k with
   |zero=>cases e
   |succ k=>
    simp only[dcI] at e
    split at e
    ·cases e
    ·rename_i l el
     obtain⟨a',vs,ha',hq,q⟩:=w.lst el
     rw[g.pre _ _ (g3.pre _ _ ha)] at ha';cases ha'
     split at e
     ·rename_i en
      cases e
      exact .inl ⟨⟨vs,hq,by rw[<- q.length];exact List.getElem?_eq_none_iff.mp en⟩,rfl⟩
     ·rename_i d ed
      obtain⟨v,hv,rv⟩:=q.get ed
      split at e
      ·cases e
      ·rename_i r1 er
       obtain⟨y,h5,ey,e⟩:=Rs.bind_ok e
       cases y<;>first |(cases e;done)|skip
       rename_i ds
       obtain⟨r2,h6,e6,e⟩:=Rs.bind_ok (show(dcS t2 fk fv h2.length ds r1 h5).bind (λr2 h=>dcI t1 fi t2 fk fv h2.length n k (i+1) r2 h)=.ok () h' from e)
       refine .inr ⟨⟨vs,v,hq,hv⟩,d,λx H' y=>?_,r1,er,r2,h6,?_,k,Nat.lt_succ_self _,e⟩
       ·obtain⟨eH,y⟩:=y
        have:=y vs hq
        rw[hv] at this;cases this
        exact⟨eH,rv⟩
       ·unfold iFb
        rw[ey]
        exact e6
  ·subst eh
   obtain⟨mm,hn1,_⟩:=id I1.loc
   obtain⟨hp1,gg,dr,tk,os⟩:=s'
   obtain rfl:os=s3.os:=I1.os
   have IX:Inv X pins σ H' {s3 with heap:=hp1,gens:=gg,drawn:=dr,toks:=tk}:=I3.call (ch:=fp) I1.base I1.hok I1.bare λb hb=>⟨(fok3 b hb).2.2.2.1,(fok3 b hb).2.1,(fok3 b hb).2.2.2.2.1,(fok3 b hb).2.2.2.2.2⟩
   exact c _ _ _ H' m' IX ⟨mm,hn1⟩ I1.free (Nat.ne_of_gt I3.lt) I3.sz (λx a e=>by
    obtain⟨v,q⟩:=I3.cell x a e
    exact Nat.ne_of_lt q.lt) (λp hp=>Nat.ne_of_lt (Heap.lt_size (I3.pin p hp).1)) (g3.trans g') w' (.ref (g'.pre _ _ hac))
 have es:({s2 with heap:=h1,toks:=s2.toks}:Shared)={s3 with heap:=h1,toks:=s2.toks}:=by subst hs3;rfl
 exact codeAny_compStart_dict (loop _ es) (T.self X.A 0 _ _ _ st3 (loop _ es))
theorem dcomp_it{N:List Str}{sc:Scope}{fo f:Ev->Hh->Rs D}{N'':List Str}{cp:List Nat}(hp:PE X iter1 (TDE X.K fo))(hf:∀r h,f r h=(fo r h).bind λx h=>dcL t1 fi t2 fk fv x (blockE N'' cp r) h)
 (pins:List (Addr×Obj))(s:Shared)(σ:Sg)(H:Hp)(m:List Addr)(r:Ev)(h:Hh)(d:D)(h':Hh)(I:Inv X pins σ H s)(w:Wd X.K m h H)(st:RSt X.K m H r σ)(e:f r h=.ok d h'):
 ∃h1 n k0,d=.ref h1.length/\dcI t1 fi t2 fk fv h1.length n k0 0 (blockE N'' cp r) (h1++ [.dct []])=.ok () h'/\wpAny (model X.prog X.w) X.A (eval iter1 X.env) (λv s1=>wpAny (model X.prog X.w) X.A (pyIter v)
  (PIE X pins σ tg1 λJ H2=>∃a m2,J=Itl X.K a/\Gr X.K m H m2 H2/\Wd X.K m2 h1 H2/\m2[n]? =some a) X.xe s1) X.xe s:=by
 rw[hf] at e
 obtain⟨x,h1,ex,e⟩:=Rs.bind_ok e
 unfold dcL at e
 split at e
 ·rename_i n
  split at e
  ·rename_i l el
   obtain⟨u,h2,e2,e⟩:=Rs.bind_ok e
   cases e
   refine⟨h1,n,l.length+1,rfl,e2,?_⟩
   refine wzV hp pins s σ H _ I ⟨m,r,h,_,_,w,st,ex,λm' v H' g w' rv=>?_⟩
   cases rv with
   |ref ha=>
    obtain⟨a',vs,ha',hq,_⟩:=w'.lst el
    rw[ha] at ha';cases ha'
    exact⟨_,rfl,⟨_,hq⟩,_,m',rfl,g,w',ha⟩
  ·cases e
 ·cases e
theorem dcomp_ps{N:List Str}{sc:Scope}{fo f:Ev->Hh->Rs D}{spos py:Pos}{y:Str}{i:Nat}(xo:XOk X N sc)(S:ScOk scope sc)(hcap:cap.length<=N'.length)(hN:(N'.drop (N'.length-cap.length)).map some=cap.map (λ(i:Nat)=>N[i]?))(hfr:∀x∈N'.drop (N'.length-cap.length),scope.names.lookup x=some .free)
 (blk:∀(C:Addr)(s3:Shared)(H3:Hp)(fp:List Addr),DBlk (blkX X N' scope C s3 H3 fp) X.K tg1 tg2 iter2 kx vx t1 t2 fi fk fv)(hset:noSet iter1=true)(hset2:noSet iter2=true)(hp:PE X iter1 (TDE X.K fo))(hf:∀r h,f r h=(fo r h).bind λx h=>dcL t1 fi t2 fk fv x (blockE N' cap r) h)
 (hy:N[i]? =some y)(hl:sc.names.lookup y=some .local)(hsw:swapsWith (.DictComp kx vx [⟨tg1,iter1,[],0⟩,⟨tg2,iter2,[],0⟩] scope pos) (some (.Name y py)) spos.line X.env=pure true):
 PS X (.Assign [.Name y py] (.DictComp kx vx [⟨tg1,iter1,[],0⟩,⟨tg2,iter2,[],0⟩] scope pos) spos) (tAsg (TDE X.K f) (gName i)):=by
 intro pins s σ H Z I ⟨m,r,h,d,h',w,st,e,c⟩
 obtain⟨h1,n,k0,rfl,e1,hw⟩:=dcomp_it (N:=N) (sc:=sc) (tg1:=tg1) hp hf pins s σ H m r h d h' I w st e
 have S':ScOk scope X.env.scope:=by rw[xo.s];exact S
 rw[exec_Assign_Name_used _ _ _ _ hsw]
 refine wpAny_bind (wpAny_standAt (wpAny_bind ?_))
 show wpAny _ X.A (do let _ <- comprehension (.DictComp kx vx [⟨tg1,iter1,[],0⟩,⟨tg2,iter2,[],0⟩] scope pos) scope X.env _ newDict false (eval iter1 X.env) (some (assign (.Name y py) X.env))) _ _ s
 refine wpAny_bind (thn (wpAny_comprehension_free (use:=some (assign (.Name y py) X.env)) (Q:=λ_ s'=>SP X pins Z .next s') rfl (λz=>by cases iter1<;>first |rfl|(cases hset;done)) (qzg λp hp e=>I.ok.has p.1 (.inl (S'.free p hp e))) S.kind S.loc ?_) λ_ s' q=>wpAny_pure (wpAny_pure q))
 refine thn hw λv s1 q1=>thn q1 λitv s2 q2=>?_
 obtain⟨it,fp,tn,J,H2,rfl,I2,T,st2,fok,a,m2,rfl,g2,w2,ha⟩:=q2
 refine vzU (Rr:=λacc C=>compPost (model X.prog X.w) X.A X.xe (some (assign (.Name y py) X.env)) (λ_ s'=>SP X pins Z .next s') acc C) S' hcap (by rw[xo.n];exact hN) hfr xo.calm hset2 blk I2 T st2 fok w2 (st.mono g2) ha e1 λacc C s1 H' m' I1 ⟨mm,hn⟩ hC hL hz hc hp g' w' rv=>?_
 show wpAny _ X.A (assign (.Name y py) X.env (.ref acc)) _ _ s1
 refine wpAny_assign_Name (qzt (i:=i) (v:=.ref acc) I1 xo.nd (by rw[xo.n];exact hy) (.inl (by rw[xo.s];exact hl)) rfl (λs5 I5 ⟨a,hsa,hq⟩=>?_) (.inr (by rw[xo.s];exact hl)))
 have ea:a≠C:=by
  rcases hq with rfl|hq
  ·exact λz=>hL z.symm
  ·exact hc _ _ hq
 refine⟨mm,?_,λhh hsb=>⟨_,H',I5.turned (λb o hb e=>hsb.extBut b o hb e) hC hL (.inr hz) hc hp,c m' _ H' (g2.trans g') w' rv⟩⟩
 obtain⟨o,es,ep,e1,e2⟩:=hn
 exact⟨o,es,ep,hsa.extBut C o (Ne.symm ea) e1,e2⟩
end
end Ng
end
section
namespace Ng
open PySem PySem.Spec PyProof.Rows L2
section
variable {X:Cx}{pins:List (Addr×Obj)}{σ:Sg}{H:Hp}{s:Shared}
theorem dtt_ok{P:Program}{w:World}{H:Hp}{h:Heap}{a:Addr}{xs:List (List Int×Addr×Value)}(d:Dtt a xs h):ObjOk P w H h a (.ext (Dtt a xs)):=by
 obtain⟨h1,h2,P0,w0,o,es,ep,h3,h4,h5,h6,h7⟩:=id d
 refine⟨d,⟨o,h3⟩,λg1 g2 ⟨a1,a2,P1,w1,o1,es1,ep1,a3,a4⟩ k=>⟨a1,a2,P1,w1,o1,es1,ep1,k o1 a3,a4⟩⟩
theorem Dtt.of(I:Inv X pins σ H s){a:Addr}{xs:List (List Int×Addr×Value)}(e:H a=some (.ext (Dtt a xs))):Dtt a xs s.heap:=(show ObjOk X.prog X.w H s.heap a (.ext (Dtt a xs)) from I.hok a _ e).1
theorem vzo{K:PySem.W.Frag}{m:List Addr}{H:Hp}{k:List Int}{z:D}{vz:V}{uz:Value}(rz:RD K m H z vz)(sz:RelV vz uz):∀{ds:List (List Int×D)}{xs:List (List Int×Addr×Value)}{us:List V},ds.map (·.1)=xs.map (·.1)->RDs K m H (ds.map (·.2)) us->Vals us (xs.map (·.2.2))->
 ∃us',(ds.map λkv=>if kv.1=k then(kv.1,z) else kv).map (·.1)=(xs.map (putAt k uz)).map (·.1)/\RDs K m H ((ds.map λkv=>if kv.1=k then(kv.1,z) else kv).map (·.2)) us'/\Vals us' ((xs.map (putAt k uz)).map (·.2.2))/\∀x∈xs.map (putAt k uz),∃y∈xs,x.1=y.1/\x.2.1=y.2.1
 | [],[],us,_,r,p=>⟨[],rfl,.nil,.nil,λx hx=>by cases hx⟩
 | [],_::_,us,h,_,_=>by cases h
 |_::_,[],us,h,_,_=>by cases h
 |d::ds,x::xs,us,h,r,p=>by
  cases r with
  | @cons _ v1 _ _ r1 r=>
    cases p with
    |cons p1 p=>
     obtain⟨h1,h2⟩:=List.cons.inj (show d.1::ds.map (·.1)=x.1::xs.map (·.1) from h)
     obtain⟨us',a,b,c,e⟩:=vzo rz sz h2 r p
     by_cases q:d.1=k
     ·have q':x.1=k:=by rw[<- h1];exact q
      refine⟨vz::us',?_,?_,?_,?_⟩
      ·simp only[List.map_cons,putAt,if_pos q,if_pos q'];rw[h1];congr 1
      ·simp only[List.map_cons,if_pos q];exact .cons rz b
      ·simp only[List.map_cons,putAt,if_pos q'];exact .cons sz c
      ·intro y hy
       rw[List.map_cons] at hy
       rcases List.mem_cons.mp hy with rfl|hy
       ·exact⟨x,List.mem_cons_self,by simp[putAt,q'],by simp[putAt,q']⟩
       ·obtain⟨y',m1,m2⟩:=e y hy;exact⟨y',List.mem_cons_of_mem _ m1,m2⟩
     ·have q':¬x.1=k:=by rw[<- h1];exact q
      refine⟨v1::us',?_,?_,?_,?_⟩
      ·simp only[List.map_cons,putAt,if_neg q,if_neg q'];rw[h1];congr 1
      ·simp only[List.map_cons,if_neg q];exact .cons r1 b
      ·simp only[List.map_cons,putAt,if_neg q'];exact .cons p1 c
      ·intro y hy
       rw[List.map_cons] at hy
       rcases List.mem_cons.mp hy with rfl|hy
       ·exact⟨x,List.mem_cons_self,by simp[putAt,q'],by simp[putAt,q']⟩
       ·obtain⟨y',m1,m2⟩:=e y hy;exact⟨y',List.mem_cons_of_mem _ m1,m2⟩
theorem putT_rel{K:PySem.W.Frag}{m:List Addr}{H:Hp}{k:List Int}{z:D}{vz:V}{uz:Value}{b:Addr}(hb:SqT K H b (k.map V.int))(rz:RD K m H z vz)(sz:RelV vz uz){ds:List (List Int×D)}{xs:List (List Int×Addr×Value)}{us:List V}(h:ds.map (·.1)=xs.map (·.1))(hk:∀x∈xs,SqT K H x.2.1 (x.1.map V.int))(r:RDs K m H (ds.map (·.2)) us)(p:Vals us (xs.map (·.2.2))):
 ∃us',(putT ds k z).map (·.1)=(storedH xs k b uz).map (·.1)/\(∀x∈storedH xs k b uz,SqT K H x.2.1 (x.1.map V.int))/\RDs K m H ((putT ds k z).map (·.2)) us'/\Vals us' ((storedH xs k b uz).map (·.2.2)):=by
 have e:ds.any (λkv=>decide (kv.1=k))=(atKey xs k).isSome:=by rw[wzP];exact qzY h
 unfold putT storedH
 rw[e]
 by_cases q:(atKey xs k).isSome=true
 ·rw[if_pos q,if_pos q]
  obtain⟨us',a,b',c,d⟩:=vzo (k:=k) rz sz h r p
  refine⟨us',a,λx hx=>?_,b',c⟩
  obtain⟨y,hy,e1,e2⟩:=d x hx
  rw[e1,e2];exact hk y hy
 ·rw[if_neg q,if_neg q]
  refine⟨us++ [vz],by simp[h],λx hx=>?_,?_,?_⟩
  ·rcases List.mem_append.mp hx with hx|hx
   ·exact hk x hx
   ·have:x=(k,b,uz):=by simpa using hx
    subst this;exact hb
  ·rw[List.map_append];exact r.append (.cons rz .nil)
  ·rw[List.map_append];exact p.append (.cons sz .nil)
theorem vzE{xs:List (List Int×Addr×Value)}{k:List Int}{b:Addr}{u:Value}:(storedH xs k b u).length<=xs.length+1:=by
 unfold storedH;split<;>simp
theorem dtt_put{A:Around}{E:Value->Shared->Prop}{Q:Unit->Shared->Prop}{m:List Addr}{h:Hh}(hu:A.units+1<cLine)(I:Inv X pins σ H s)(w:Wd X.K m h H){n:Nat}{a b:Addr}{l:List (List Int×D)}{k:List Int}{z:D}{vz:V}{uz:Value}(hn:h[n]? =some (.dtt l))(ha:m[n]? =some a)(hl:l.length<1000)
 (hb:SqT X.K H b (k.map V.int))(rz:RD X.K m H z vz)(sz:RelV vz uz)(c:∀s' H',Inv X pins σ H' s'->Gr X.K m H m H'->Wd X.K m (h.set n (.dtt (putT l k z))) H'->Q () s'):wpAny (model X.prog X.w) A (setItem (.ref a) (.ref b) uz) Q E s:=by
 obtain⟨xs,us,h1,h2,h3,h4,h5⟩:RO X.K m H a (.dtt l):=w.ob n _ a hn ha
 obtain⟨d1,d2,P0,w0,o,es,ep,d3,d4,d5,d6,d7⟩:=Dtt.of I h1
 have xl:l.length=xs.length:=by have:=congrArg List.length h2;simpa using this
 have dd:s.heap.DictOfH (tupleKind (intKind X.prog X.w)) a xs:=⟨o,es,ep,d3,d4,d5,d6.trans (by rw[vzt P0 X.prog w0 X.w]),λx hx=>keyI I (h3 x hx),d7⟩
 refine wpAny_setItem_heap (hsz:=by have:(1000:Nat)<=sizeLine:=by decide
                                    omega) (tupleKind_room_in1 hu) (keyI I hb) dd λg dd' hs=>?_
 obtain⟨o',es',ep',e3,e4,e5,e6,_,e7⟩:=dd'
 have dn:Dtt a (storedH xs k b uz) g:=⟨d1,by have:=vzE (xs:=xs) (k:=k) (b:=b) (u:=uz);omega,X.prog,X.w,o',es',ep',e3,e4,e5,e6,e7⟩
 obtain⟨us',f1,f2,f3,f4⟩:=putT_rel hb rz sz h2 h3 h4 h5
 obtain⟨w2,g2⟩:=w.objSet (o':=.dtt (putT l k z)) (u:=.ext (Dtt a (storedH xs k b uz))) hn rfl ha λg=>⟨storedH xs k b uz,us',jzq,f1,λx hx=>g.tup _ _ (f2 x hx),f3.mono g,f4⟩
 exact c _ _ (jzW I (by rw[h1];exact True.intro) hs ⟨o',e3⟩ (dtt_ok dn)) g2 w2
theorem wz0{prog:Program}{w:World}(d:Addr)(hd:(d==sysModules)=false):MeetsIn prog w (Builtin.«dict.items» ⟨[.ref d],[]⟩) (λ_ R s=>s.TypeIs (.ref d) "dict"/\
 R (.ok (.ret (.ref s.heap.objs.size))) {s with heap:=s.heap.push {cls:=.type "dict_items",data:=.fields #[.ref d]}}):=
 .of_wp λA R s ⟨ht,h⟩=>by
  unfold Builtin.«dict.items»
  refine wpAny_bind ?_
  unfold Builtin.Dict.noArgs
  refine wpAny_bind (wpAny_notOrdered_dict ht ?_)
  show wpAny _ _ (pure d) _ _ s
  refine wpAny_pure ?_
  show wpAny _ _ (Builtin.Dict.showsAll d>>=_) _ _ s
  unfold Builtin.Dict.showsAll
  rw[if_neg (by rw[hd];exact Bool.false_ne_true)]
  exact wpAny_bind (wpAny_pure (wpAny_bind (wpAny_newObj_type (wpAny_pure ⟨_,rfl,h⟩))))
end
end Ng
end
section
namespace Ng
open PySem PySem.Spec PyProof.Rows L2
theorem zz2(t:Ty):bootBuiltins (Str.ofString t.nm)=some (.type t.nm):=by cases t<;>decide+kernel
theorem vzh(t:Ty):(Str.ofString t.nm==("__debug__":Str))=false/\Str.ofString t.nm≠"__name__":=by cases t<;>decide+kernel
theorem boot_blt(f:Blt):bootBuiltins f.nm=some f.val:=by cases f<;>decide+kernel
theorem blt_dbg(f:Blt):(f.nm==("__debug__":Str))=false/\f.nm≠"__name__":=by cases f<;>decide+kernel
section
variable {X:Cx}{N:List Str}{sc:Scope}{G:Gs}{ca:Nat->Addr}{cl:Cl}
theorem TDE.one{K:PySem.W.Frag}{fa f:Ev->Hh->Rs D}{k:Ev->D->Hh->Rs D}{s:Sg}{H:Hp}{Q R:VK}(hf:∀r h,f r h=(fa r h).bind (k r))(q:TDE K f s H Q)
 (c:∀(m m2:List Addr)(r:Ev)(d:D)(h2 h':Hh)(H2:Hp)(dx:D)(x:V),RSt K m H r s->Gr K m H m2 H2->Wd K m2 h2 H2->RSt K m2 H2 r s->RD K m2 H2 dx x->k r dx h2=.ok d h'->(∀m' v H',Gr K m2 H2 m' H'->Wd K m' h' H'->RD K m' H' d v->Q v H')->R x H2):TDE K fa s H R:=by
 obtain⟨m,r,h,d,h',w,st,e,cc⟩:=q
 rw[hf] at e
 obtain⟨dx,h1,e1,e⟩:=Rs.bind_ok e
 exact⟨m,r,h,dx,h1,w,st,e1,λm1 x H1 g1 w1 rx=>c m m1 r d h1 h' H1 dx x st g1 w1 (st.mono g1) rx e λm' v H' g=>cc m' v H' (g1.trans g)⟩
end
def SE(N:List Str)(sc:Scope)(G:Gs)(c:E)(e:PySem.Expr):Prop:=∀{X:Cx}{ca:Nat->Addr}{cl:Cl},XOk X N sc->GOk X G ca cl->PE X e (TDE X.K (ev G cl c))/\PT X e (TDT X.K (ev G cl c))
def SAs(N:List Str)(sc:Scope)(G:Gs)(l:Es)(es:List PySem.Expr):Prop:=es.all noStar=true/\∀{X:Cx}{ca:Nat->Addr}{cl:Cl},XOk X N sc->GOk X G ca cl->PA X es (TDA X.K (evs G cl l))
def SBs(N:List Str)(sc:Scope)(G:Gs)(l:Es)(es:List PySem.Expr):Prop:=∀{X:Cx}{ca:Nat->Addr}{cl:Cl},XOk X N sc->GOk X G ca cl->PTs X es (TDB X.K (evt G cl l))
theorem qzK{X:Cx}(pos:Pos):∀{es:List PySem.Expr},es.all noStar=true->(backTo pos (starEach es X.env)).any (·.1)=false
 | [],_=>rfl
 |e::es,h=>by
  rw[List.all_cons,Bool.and_eq_true] at h
  rw[jzn es h.1]
  have ih:=qzK (X:=X) pos (es:=es) h.2
  exact(show(false||(backTo pos (starEach es X.env)).any (·.1))=false by rw[ih];rfl)
section
variable {N:List Str}{sc:Scope}{G:Gs}
theorem jza{i:Nat}{x:Str}{pos:Pos}(h1:N[i]? =some x)(h:(visB sc x&&noDbg x)=true):SE N sc G (.var i) (.Name x pos):=λ{X ca cl} xo go=>by
 rw[Bool.and_eq_true] at h
 obtain⟨h2,h3⟩:=h
 obtain⟨d1,d2,d3⟩:=qz8 h3
 have p:PE X (.Name x pos) (TDE X.K (ev G cl (.var i))):=(pv i (by rw[xo.n];exact h1) (by rw[xo.s];exact visB_ok h2) d1 d2).wk λs H Q ⟨m,r,hh,d,h',w,st,e1,c⟩=>by
  simp only[ev] at e1
  split at e1
  ·rename_i d' ed
   cases e1
   obtain⟨v,hv,rv⟩:=st.2 i _ ed
   exact⟨v,hv,c m v H Gr.refl w rv⟩
  ·cases e1
 exact⟨p,tOf p λ_=>rfl⟩
theorem jzd{i:Int}{j:Nat}{pos:Pos}:SE N sc G (.int i) (.Constant (.int i) j pos):=λ{X ca cl} xo go=>by
 have p:PE X (.Constant (.int i) j pos) (TDE X.K (ev G cl (.int i))):=(pe_int).wk λs H Q ⟨m,r,hh,d,h',w,st,e1,c⟩=>by
  cases e1
  exact c m _ H Gr.refl w (.int i)
 exact⟨p,tOf p λ_=>rfl⟩
theorem dE_bl{b:Bool}{j:Nat}{pos:Pos}:SE N sc G (.bl b) (.Constant (.bool b) j pos):=λ{X ca cl} xo go=>by
 have p:PE X (.Constant (.bool b) j pos) (TDE X.K (ev G cl (.bl b))):=(pe_bl).wk λs H Q ⟨m,r,hh,d,h',w,st,e1,c⟩=>by
  cases e1
  exact c m _ H Gr.refl w (.bl b)
 exact⟨p,tOf p λ_=>rfl⟩
theorem zzM{j:Nat}{pos:Pos}:SE N sc G .non (.Constant .none j pos):=λ{X ca cl} xo go=>by
 have p:PE X (.Constant .none j pos) (TDE X.K (ev G cl .non)):=(pe_non).wk λs H Q ⟨m,r,hh,d,h',w,st,e1,c⟩=>by
  cases e1
  exact c m _ H Gr.refl w .non
 exact⟨p,tOf p λ_=>rfl⟩
theorem dE_str{x:Str}{j:Nat}{pos:Pos}:SE N sc G (.str x) (.Constant (.str x) j pos):=λ{X ca cl} xo go=>by
 have p:PE X (.Constant (.str x) j pos) (TDE X.K (ev G cl (.str x))):=(pe_str).wk λs H Q ⟨m,r,hh,d,h',w,st,e1,c⟩=>by
  cases e1
  exact c m _ H Gr.refl w (.str x)
 exact⟨p,tOf p λ_=>rfl⟩
theorem dE_gc{g:Nat}{x:Str}{d0:D}{pos:Pos}(q:G.csts[g]? =some (x,d0))(h:(glB sc x&&noDbg x)=true):SE N sc G (.gc g) (.Name x pos):=λ{X ca cl} xo go=>by
 rw[Bool.and_eq_true] at h
 obtain⟨h2,h3⟩:=h
 obtain⟨d1,d2,d3⟩:=qz8 h3
 obtain⟨v,u,hm,rv,rd⟩:=go.cst g x d0 q
 have p:PE X (.Name x pos) (TDE X.K (ev G cl (.gc g))):=(pe_glob (qzl xo h2) hm rv d1).wk λs H Q ⟨m,r,hh,d,h',w,st,e1,c⟩=>by
  simp only[ev,q] at e1
  cases e1
  exact c m _ H Gr.refl w (rd m H)
 exact⟨p,tOf p λ_=>rfl⟩
theorem dE_ty{t:Ty}{pos:Pos}(hg:glB sc (Str.ofString t.nm)=true):SE N sc G (.ty t) (.Name (Str.ofString t.nm) pos):=λ{X ca cl} xo go=>by
 have p:PE X (.Name (Str.ofString t.nm) pos) (TDE X.K (ev G cl (.ty t))):=(pe_bltn (v:=.ty t.nm) (qzl xo hg) (go.ty t) (zz2 t) rfl (vzh t).2 (vzh t).1).wk λs H Q ⟨m,r,hh,d,h',w,st,e1,c⟩=>by
  cases e1
  exact c m _ H Gr.refl w (.ty _)
 exact⟨p,tOf p λ_=>rfl⟩
theorem jzh{op:Bop}{a b:E}{x y:PySem.Expr}{pos:Pos}(h_a:SE N sc G a x)(h_b:SE N sc G b y):SE N sc G (.bin op a b) (.BinOp x op.op y pos):=λ{X ca cl} xo go=>by
 have p:PE X (.BinOp x op.op y pos) (TDE X.K (ev G cl (.bin op a b))):=(pe_op (opBin op) (h_a xo go).1 (h_b xo go).1).wk (TDE.op λr h=>by simp only[ev])
 exact⟨p,tOf p λ_=>rfl⟩
theorem zzN{a:E}{x:PySem.Expr}{pos:Pos}(h_a:SE N sc G a x):SE N sc G (.neg a) (.UnaryOp .USub x pos):=λ{X ca cl} xo go=>by
 have p:PE X (.UnaryOp .USub x pos) (TDE X.K (ev G cl (.neg a))):=(pe_un un_neg (h_a xo go).1).wk λs H Q q=>by
  refine TDE.one (λ_ _=>rfl) q λm m2 r d h2 h' H2 dx y st g w2 st2 rx e c=>?_
  cases rx<;>first |(cases e;done)|skip
  cases e
  exact⟨_,rfl,c m2 _ H2 Gr.refl w2 (.int _)⟩
 exact⟨p,tOf p λ_=>rfl⟩
theorem jzs{op:Cop}{a b:E}{x y:PySem.Expr}{pos:Pos}(hm:behindInMarks op.op y=false)(h_a:SE N sc G a x)(h_b:SE N sc G b y):SE N sc G (.cmp op a b) (.Compare x [op.op] [y] pos):=λ{X ca cl} xo go=>by
 refine⟨(zzc (opCmp xo.room op) ((h_a xo go).1) ((h_b xo go).1) hm).wk (TDE.op λr h=>by simp only[ev]),?_⟩
 refine(vz8 (opCmp xo.room op) ((h_a xo go).1) ((h_b xo go).1) hm).wk λs H Q ⟨m,r,hh,d,h',k,w,st,e1,ek,c⟩=>?_
 refine TDE.op (f:=ev G cl (.cmp op a b)) (k:=cmpD op) (λr h=>by simp only[ev]) s H _ ⟨m,r,hh,d,h',w,st,e1,λm' v H' g w' rd=>?_⟩
 have e1':=e1
 simp only[ev] at e1'
 obtain⟨_,_,_,e1'⟩:=Rs.bind_ok e1'
 obtain⟨_,_,_,e1'⟩:=Rs.bind_ok e1'
 obtain⟨k',rfl⟩:=cmpD_bl e1'
 cases rd
 have ek':k'=k:=Option.some.inj ek
 subst ek'
 exact⟨k',rfl,c m' H' g w'⟩
theorem zzP{a b:E}{x:PySem.Expr}{v:PySem.Expr}{vs:List PySem.Expr}{pos:Pos}(h_a:SE N sc G a x)(h_b:SE N sc G b (.BoolOp .And (v::vs) pos)):SE N sc G (.and a b) (.BoolOp .And (x::v::vs) pos):=λ{X ca cl} xo go=>by
 have hb:=h_b xo go
 refine⟨(pe_andG ((h_a xo go).1) hb.1).wk λs H Q q=>?_,(pw_and ((h_a xo go).2) (pw_of hb.2)).pt.wk λs H Q q=>?_⟩
 ·refine TDE.one (λ_ _=>rfl) q λm m2 r d h2 h' H2 dx v st g w2 st2 rx e c=>?_
  split at e
  ·rename_i et
   exact⟨true,qzN w2 rx et,iteT (⟨m2,r,h2,d,h',w2,st2,e,c⟩)⟩
  ·rename_i et
   cases e
   exact⟨false,qzN w2 rx et,iteF (c m2 v H2 Gr.refl w2 rx)⟩
  ·cases e
 ·obtain⟨m,r,hh,d,h',k,w,st,e1,ek,c⟩:=q
  simp only[ev] at e1
  obtain⟨dx,h1,e0,e1⟩:=Rs.bind_ok e1
  split at e1
  ·rename_i et
   exact⟨m,r,hh,dx,h1,true,w,st,e0,et,λm' H' g w'=>iteT (⟨m',r,h1,d,h',k,w',st.mono g,e1,ek,λm2 H2 g2=>c m2 H2 (g.trans g2)⟩)⟩
  ·rename_i et
   cases e1
   rw[et] at ek
   cases ek
   exact⟨m,r,hh,_,_,false,w,st,e0,et,λm' H' g w'=>iteF (c m' H' g w')⟩
  ·cases e1
theorem qzH{a b:E}{x y:PySem.Expr}{pos:Pos}(h_a:SE N sc G a x)(h_b:SE N sc G b y):SE N sc G (.and a b) (.BoolOp .And [x,y] pos):=
 zzP h_a λ{X ca cl} xo go=>⟨pe_one (h_b xo go).1,(pw_and1 (h_b xo go).2).pt⟩
theorem dE_or2{a b:E}{x:PySem.Expr}{v:PySem.Expr}{vs:List PySem.Expr}{pos:Pos}(h_a:SE N sc G a x)(h_b:SE N sc G b (.BoolOp .Or (v::vs) pos)):SE N sc G (.or a b) (.BoolOp .Or (x::v::vs) pos):=λ{X ca cl} xo go=>by
 have hb:=h_b xo go
 refine⟨(pe_orG ((h_a xo go).1) hb.1).wk λs H Q q=>?_,(pw_or ((h_a xo go).2) (pw_of hb.2)).pt.wk λs H Q q=>?_⟩
 ·refine TDE.one (λ_ _=>rfl) q λm m2 r d h2 h' H2 dx v st g w2 st2 rx e c=>?_
  split at e
  ·rename_i et
   cases e
   exact⟨true,qzN w2 rx et,iteT (c m2 v H2 Gr.refl w2 rx)⟩
  ·rename_i et
   exact⟨false,qzN w2 rx et,iteF (⟨m2,r,h2,d,h',w2,st2,e,c⟩)⟩
  ·cases e
 ·obtain⟨m,r,hh,d,h',k,w,st,e1,ek,c⟩:=q
  simp only[ev] at e1
  obtain⟨dx,h1,e0,e1⟩:=Rs.bind_ok e1
  split at e1
  ·rename_i et
   cases e1
   rw[et] at ek
   cases ek
   exact⟨m,r,hh,_,_,true,w,st,e0,et,λm' H' g w'=>iteT (c m' H' g w')⟩
  ·rename_i et
   exact⟨m,r,hh,dx,h1,false,w,st,e0,et,λm' H' g w'=>iteF (⟨m',r,h1,d,h',k,w',st.mono g,e1,ek,λm2 H2 g2=>c m2 H2 (g.trans g2)⟩)⟩
  ·cases e1
theorem dE_or{a b:E}{x y:PySem.Expr}{pos:Pos}(h_a:SE N sc G a x)(h_b:SE N sc G b y):SE N sc G (.or a b) (.BoolOp .Or [x,y] pos):=
 dE_or2 h_a λ{X ca cl} xo go=>⟨pe_one (h_b xo go).1,(pw_or1 (h_b xo go).2).pt⟩
theorem jzS{a:E}{x:PySem.Expr}{pos:Pos}(h_a:SE N sc G a x):SE N sc G (.not a) (.UnaryOp .Not x pos):=λ{X ca cl} xo go=>by
 refine⟨(pe_notG ((h_a xo go).1)).wk λs H Q q=>?_,(pt_not ((h_a xo go).2)).wk λs H Q q=>?_⟩
 ·refine TDE.one (λ_ _=>rfl) q λm m2 r d h2 h' H2 dx v st g w2 st2 rx e c=>?_
  split at e
  ·rename_i k et
   cases e
   exact⟨k,qzN w2 rx et,c m2 _ H2 Gr.refl w2 (.bl _)⟩
  ·cases e
 ·obtain⟨m,r,hh,d,h',k,w,st,e1,ek,c⟩:=q
  simp only[ev] at e1
  obtain⟨dx,h1,e0,e1⟩:=Rs.bind_ok e1
  split at e1
  ·rename_i k' et
   cases e1
   have:(!k')=k:=Option.some.inj ek
   subst this
   exact⟨m,r,hh,dx,h',k',w,st,e0,et,c⟩
  ·cases e1
theorem dE_ite{cc a b:E}{z x y:PySem.Expr}{pos:Pos}(h_cc:SE N sc G cc z)(h_a:SE N sc G a x)(h_b:SE N sc G b y):SE N sc G (.ite cc a b) (.IfExp z x y pos):=λ{X ca cl} xo go=>by
 refine⟨(pe_ifExp (h_cc xo go).2 (h_a xo go).1 (h_b xo go).1).wk λs H Q ⟨m,r,hh,d,h',w,st,e1,c⟩=>?_,?_⟩
 ·simp only[ev] at e1
  obtain⟨dx,h1,e0,e1⟩:=Rs.bind_ok e1
  split at e1
  ·rename_i et
   exact⟨m,r,hh,dx,h1,true,w,st,e0,et,λm' H' g w'=>iteT (⟨m',r,h1,d,h',w',st.mono g,e1,λm2 v H2 g2=>c m2 v H2 (g.trans g2)⟩)⟩
  ·rename_i et
   exact⟨m,r,hh,dx,h1,false,w,st,e0,et,λm' H' g w'=>iteF (⟨m',r,h1,d,h',w',st.mono g,e1,λm2 v H2 g2=>c m2 v H2 (g.trans g2)⟩)⟩
  ·cases e1
 ·intro pins s σ H Q I ⟨m,r,hh,d,h',k,w,st,e1,ek,c⟩
  simp only[ev] at e1
  obtain⟨dx,h1,e0,e1⟩:=Rs.bind_ok e1
  have hz':=(h_cc xo go).2
  have hx':=(h_a xo go).2
  have hy':=(h_b xo go).2
  show wpAny _ _ (do if <- isTrue z X.env (eval z X.env) then isTrue x X.env (eval x X.env) else isTrue y X.env (eval y X.env)) _ _ _
  split at e1
  ·rename_i et
   refine wpAny_bind (thn (hz' pins s σ H (λkb H1=>kb=true/\TDT X.K (ev G cl a) σ H1 Q) I ⟨m,r,hh,dx,h1,true,w,st,e0,et,λm' H' g w'=>⟨rfl,m',r,h1,d,h',k,w',st.mono g,e1,ek,λm2 H2 g2=>c m2 H2 (g.trans g2)⟩⟩) λkb s1 ⟨H1,I1,eb,q1⟩=>?_)
   subst eb
   exact hx' pins s1 σ H1 Q I1 q1
  ·rename_i et
   refine wpAny_bind (thn (hz' pins s σ H (λkb H1=>kb=false/\TDT X.K (ev G cl b) σ H1 Q) I ⟨m,r,hh,dx,h1,false,w,st,e0,et,λm' H' g w'=>⟨rfl,m',r,h1,d,h',k,w',st.mono g,e1,ek,λm2 H2 g2=>c m2 H2 (g.trans g2)⟩⟩) λkb s1 ⟨H1,I1,eb,q1⟩=>?_)
   subst eb
   exact hy' pins s1 σ H1 Q I1 q1
  ·cases e1
theorem dE_ix{a b:E}{x y:PySem.Expr}{pos:Pos}(hs:PlainIx y)(h_a:SE N sc G a x)(h_b:SE N sc G b y):SE N sc G (.ix a b) (.Subscript x y pos):=λ{X ca cl} xo go=>by
 have p:PE X (.Subscript x y pos) (TDE X.K (ev G cl (.ix a b))):=(pe_ix (ixSeq xo.room) (h_a xo go).1 (h_b xo go).1 hs).wk (TDE.op λr h=>by simp only[ev])
 exact⟨p,tOf p λ_=>rfl⟩
theorem jzR{l:Es}{es:List PySem.Expr}{k:Nat}{pos:Pos}(h_l:SAs N sc G l es):SE N sc G (.tup l) (.Tuple es k pos):=λ{X ca cl} xo go=>by
 have p:PE X (.Tuple es k pos) (TDE X.K (ev G cl (.tup l))):=(pe_tup (h_l.2 xo go)).wk λs H Q ⟨m,r,hh,d,h',w,st,e1,c⟩=>by
  simp only[ev] at e1
  obtain⟨ds,h1,e0,e1⟩:=Rs.bind_ok e1
  split at e1
  ·rename_i hl
   cases e1
   refine⟨m,r,hh,ds,_,w,st,e0,λm' vs H' g w' rd=>⟨?_,λq hq=>?_⟩⟩
   ·rw[<- rd.length];exact Nat.le_of_lt (wzo hl)
   ·exact c m' _ _ (g.trans (Gr.tupNew hq)) (w'.keepNew hq) (.tup (.of jzq) (rd.mono (Gr.tupNew hq)))
  ·cases e1
 exact⟨p,tOf p λ_=>rfl⟩
theorem jzK{l:Es}{es:List PySem.Expr}{pos:Pos}(h_l:SAs N sc G l es):SE N sc G (.lst l) (.List es pos):=λ{X ca cl} xo go=>by
 have p:PE X (.List es pos) (TDE X.K (ev G cl (.lst l))):=(pe_lst (h_l.2 xo go)).wk λs H Q ⟨m,r,hh,d,h',w,st,e1,c⟩=>by
  simp only[ev] at e1
  obtain⟨ds,h1,e0,e1⟩:=Rs.bind_ok e1
  split at e1
  ·rename_i hl
   cases e1
   refine⟨m,r,hh,ds,_,w,st,e0,λm' vs H' g w' rd=>⟨?_,λq hq=>?_⟩⟩
   ·rw[<- rd.length];exact Nat.le_of_lt (wzo hl)
   ·obtain⟨w2,g2⟩:=w'.lstNew hq rd
    exact c _ _ _ (g.trans g2) w2 (.ref (by rw[<- w'.len];simp))
  ·cases e1
 exact⟨p,tOf p λ_=>rfl⟩
theorem jzu{f:Nat}{l:Es}{x:Str}{y:PySem.Expr}{ys:List PySem.Expr}{np pos:Pos}(h1:G.fns[f]? =some x)(h:(glB sc x&&noDbg x)=true)(h_l:SAs N sc G l (y::ys)):SE N sc G (.call f l) (.Call (.Name x np) (y::ys) [] pos):=λ{X ca cl} xo go=>by
 rw[Bool.and_eq_true] at h
 obtain⟨h2,h3⟩:=h
 obtain⟨d1,d2,d3⟩:=qz8 h3
 obtain⟨fa,fd,ps,k,F,hr,hm,hk,hb,hlen⟩:=go.fn f x h1
 have hns:=h_l.1
 rw[List.all_cons,Bool.and_eq_true] at hns
 have p:PE X (.Call (.Name x np) (y::ys) [] pos) (TDE X.K (ev G cl (.call f l))):=(pe_call F hr (qzl xo h2) hm hk hb .nil pass1 (h_l.2 xo go) d1 (jzn ys hns.1) (qzK pos hns.2)).wk λs H Q ⟨m,r,hh,d,h',w,st,e1,c⟩=>by
  simp only[ev] at e1
  obtain⟨ds,h1,e0,e1⟩:=Rs.bind_ok e1
  have e1:=Rs.nx_ok e1
  refine⟨m,r,hh,ds,h1,w,st,e0,λm' vs H' g w' rd=>?_⟩
  show spD X.K ca (cl f) ps.length (vs++ []) H' Q E0
  rw[List.append_nil]
  exact⟨by rw[<- rd.length];exact hlen _ _ (by rw[e1];exact λz=>nomatch z),m',h1,ds,w',rd,by rw[e1];exact λm2 v H2 g2=>c m2 v H2 (g.trans g2)⟩
 exact⟨p,tOf p λ_=>rfl⟩
theorem jzm{f:Blt}{l:Es}{y:PySem.Expr}{ys:List PySem.Expr}{np pos:Pos}(h2:glB sc f.nm=true)(h_l:SAs N sc G l (y::ys)):SE N sc G (.blt f l) (.Call (.Name f.nm np) (y::ys) [] pos):=λ{X ca cl} xo go=>by
 obtain⟨d1,d3⟩:=blt_dbg f
 have hns:=h_l.1
 rw[List.all_cons,Bool.and_eq_true] at hns
 have im:∀s H Q,TDE X.K (ev G cl (.blt f l)) s H Q->tCB (rDc X.K (bltD f)) (TDA X.K (evs G cl l)) s H Q:=λs H Q ⟨m,r,hh,d,h',w,st,e1,c⟩=>by
  simp only[ev] at e1
  obtain⟨ds,h1,e0,e1⟩:=Rs.bind_ok e1
  exact⟨m,r,hh,ds,h1,w,st,e0,λm' vs H' g w' rd=>⟨m',h1,ds,d,h',w',rd,e1,λm2 v H2 g2=>c m2 v H2 (g.trans g2)⟩⟩
 have p:PE X (.Call (.Name f.nm np) (y::ys) [] pos) (TDE X.K (ev G cl (.blt f l))):=by
  have cb:=callBlt (X:=X) xo.calm xo.room f
  have bb:=boot_blt f
  have key:∀v,f.val=v->(∃i,v=.builtin i)\/(∃T,v=.type T):=λv e=>by subst e;cases f<;>first |exact .inl ⟨_,rfl⟩|exact .inr ⟨_,rfl⟩
  rcases key _ rfl with ⟨i,ei⟩|⟨T,eT⟩
  ·rw[ei] at cb bb
   exact(pe_callB cb (qzl xo h2) (go.blt f) bb (h_l.2 xo go) d3 d1 (jzn ys hns.1) (qzK pos hns.2)).wk im
  ·rw[eT] at cb bb
   exact(wzv cb (qzl xo h2) (go.blt f) bb (h_l.2 xo go) d3 d1 (jzn ys hns.1) (qzK pos hns.2)).wk im
 exact⟨p,tOf p λ_=>rfl⟩
theorem qzG{o a:E}{z:Str}{pz ap cp:Pos}{y:PySem.Expr}(h2:(ap.endLine==cp.line)=true)(h3:noStar y=true)(h_o:SE N sc G o (.Name z pz))(h_a:SE N sc G a y):SE N sc G (.app o a) (.Call (.Attribute (.Name z pz) "append" ap) [y] [] cp):=λ{X ca cl} xo go=>by
 have ho:=(h_o xo go).1
 have hA:PA X [y] (tCons (TDE X.K (ev G cl a)) tNil):=qza ((h_a xo go).1) qzP (jzn [] h3)
 have p:PE X (.Call (.Attribute (.Name z pz) "append" ap) [y] [] cp) (TDE X.K (ev G cl (.app o a))):=(pe_bm PySem.F.plainAttrs_list PySem.F.slot_list_append PySem.F.type_list_append qzy ho hA rfl (by rw[jzn [] h3];rfl) h2 (jzn [] h3) rfl).wk λs H Q q=>by
  refine TDE.one (λ_ _=>rfl) q λm m2 r d h2 h' H2 dx v st g w2 st2 rx e c=>?_
  split at e
  ·rename_i hl
   obtain⟨dy,h3,e3,e⟩:=Rs.bind_ok e
   cases rx<;>first |(cases e;done)|skip
   case ref n a' ha eb=>
    simp only[appD] at e
    split at e<;>first |(cases e;done)|skip
    rename_i l el
    split at e<;>first |(cases e;done)|skip
    rename_i hz
    cases e
    have hl':∃l0,lstAt h2 n=some l0:=Option.isSome_iff_exists.mp hl
    obtain⟨l0,hl'⟩:=hl'
    obtain⟨a'',vs0,ha'',hq,_⟩:=w2.lst hl'
    rw[ha] at ha'';cases ha''
    refine⟨.inl ⟨rfl,vs0,hq⟩,m2,r,h2,dy,h3,w2,st2,e3,λm3 y' H3 g3 w3 ry=>?_⟩
    have ha3:=g3.pre _ _ ha
    obtain⟨vs,hv,rv⟩:∃vs,H3 a'=some (.lst vs)/\RDs X.K m3 H3 l vs:=w3.ob n _ a' el ha3
    obtain⟨_,w4,g4⟩:=w3.lstSet el ha3 (rv.append (.cons ry .nil))
    exact⟨a',vs,y',rfl,rfl,hv,by rw[<- rv.length];exact Nat.lt_of_lt_of_le hz (by decide),c m3 _ _ (g3.trans g4) w4 .non⟩
  ·cases e
 exact⟨p,tOf p λ_=>rfl⟩
theorem zzO{pos:Pos}:SE N sc G .dnw (.Dict [] [] pos):=λ{X ca cl} xo go=>by
 have p:PE X (.Dict [] [] pos) (TDE X.K (ev G cl .dnw)):=(pe_dnewK (X:=X) (pos:=pos)).wk λs H Q ⟨m,r,hh,d,h',w,st,e1,c⟩=>λp hp=>by
  rw[ev] at e1
  cases e1
  obtain⟨w2,g2⟩:=w.objNew (o:=.dct []) (u:=.dK []) hp λ_=>⟨[],jzq,rfl,.nil⟩
  exact c _ _ _ g2 w2 (.ref (by rw[<- w.len];simp))
 exact⟨p,tOf p λ_=>rfl⟩
theorem cut_take{α:Type}(l:List α)(i:Int)(h:0<=i):(l.drop (HT.sIx l.length 0 none)).take (HT.sIx l.length l.length (some i)-HT.sIx l.length 0 none)=l.take i.toNat:=by
 have:HT.sIx l.length l.length (some i)=min i.toNat l.length:=by
  show(if i<0 then _ else _)=_
  rw[if_neg (by omega)]
 rw[HT.sIx_none,this,List.drop_zero,Nat.sub_zero]
 by_cases z:i.toNat<=l.length
 ·rw[Nat.min_eq_left z]
 ·rw[Nat.min_eq_right (by omega),List.take_length,List.take_of_length_le (by omega)]
theorem zzQ{α:Type}(l:List α)(i:Int)(h:¬0<=i):(l.drop (HT.sIx l.length 0 none)).take (HT.sIx l.length l.length (some i)-HT.sIx l.length 0 none)=l.take (l.length-i.natAbs):=by
 have:HT.sIx l.length l.length (some i)=l.length-i.natAbs:=by
  show(if i<0 then(i+(l.length:Int)).toNat else _)=_
  rw[if_pos (by omega)]
  omega
 rw[HT.sIx_none,this,List.drop_zero,Nat.sub_zero]
theorem RDs.take{K:PySem.W.Frag}{m:List Addr}{H:Hp}:∀{ds:List D}{vs:List V}(n:Nat),RDs K m H ds vs->RDs K m H (ds.take n) (vs.take n)
 |_,_,0,_=>by rw[List.take_zero,List.take_zero];exact .nil
 |_,_,n+1,.nil=>by rw[List.take_nil,List.take_nil];exact .nil
 |_,_,n+1,.cons h t=>by rw[List.take_succ_cons,List.take_succ_cons];exact .cons h (RDs.take n t)
theorem dE_slU{a b:E}{x y:PySem.Expr}{p2 pos:Pos}(h_a:SE N sc G a x)(h_b:SE N sc G b y):SE N sc G (.slU a b) (.Subscript x (.Slice none (some y) none p2) pos):=λ{X ca cl} xo go=>by
 have p:PE X (.Subscript x (.Slice none (some y) none p2) pos) (TDE X.K (ev G cl (.slU a b))):=(pe_slice sl_list (h_a xo go).1 po_none (po_some (h_b xo go).1)).wk λs H Q q=>by
  obtain⟨m,r,h,d,h',w,st,e,c⟩:=q
  rw[ev] at e
  refine TDE.two w st e λm2 H2 h2 dx dy x y g w2 rx ry e=>?_
  unfold slUD at e
  split at e
  ·rename_i l i hl el
   split at e
   ·rename_i hi
    cases e
    obtain⟨p,vs,rfl,hq,q⟩:=qzR w2 rx hl el
    cases ry
    refine⟨i,rfl,p,vs,rfl,hq,λk hk=>?_⟩
    have e1:cutV vs none (some i)=vs.take i.toNat:=cut_take vs i hi
    rw[e1]
    obtain⟨w3,g3⟩:=w2.lstNew hk (q.take i.toNat)
    exact c _ _ _ (g.trans g3) w3 (.ref (by rw[<- w2.len];simp))
   ·rename_i hi
    cases e
    obtain⟨p,vs,rfl,hq,q⟩:=qzR w2 rx hl el
    cases ry
    refine⟨i,rfl,p,vs,rfl,hq,λk hk=>?_⟩
    have e1:cutV vs none (some i)=vs.take (vs.length-i.natAbs):=zzQ vs i hi
    rw[e1]
    obtain⟨w3,g3⟩:=w2.lstNew hk (q.take (vs.length-i.natAbs))
    rw[<- q.length] at*
    exact c _ _ _ (g.trans g3) w3 (.ref (by rw[<- w2.len];simp))
  ·cases e
 exact⟨p,tOf p λ_=>rfl⟩
theorem getD_rel{K:PySem.W.Frag}{m:List Addr}{H:Hp}{k:Key}{z:D}{vz:V}{ds:List (Key×D)}{us:List (Key×V)}(hk:ds.map (·.1)=us.map (·.1))(r:RDs K m H (ds.map (·.2)) (us.map (·.2)))(rz:RD K m H z vz):RD K m H ((valD ds k).getD z) ((valV us k).getD vz):=by
 cases e:valD ds k with
 |none=>rw[qzr (K:=K) hk e];exact rz
 |some d=>obtain⟨v,hv,rv⟩:=qzn hk r e;rw[hv];exact rv
theorem dE_get2{o k a:E}{nz:Str}{pz ap cp:Pos}{y z:PySem.Expr}(h2:(ap.endLine==cp.line)=true)(h3:noStar y=true)(h3':noStar z=true)(h_o:SE N sc G o (.Name nz pz))(h_k:SE N sc G k y)(h_a:SE N sc G a z):SE N sc G (.get2 o k a) (.Call (.Attribute (.Name nz pz) "get" ap) [y,z] [] cp):=λ{X ca cl} xo go=>by
 have ho:=(h_o xo go).1
 obtain⟨kr,hr⟩:=xo.room
 have hun:=hr.units
 have p:PE X (.Call (.Attribute (.Name nz pz) "get" ap) [y,z] [] cp) (TDE X.K (ev G cl (.get2 o k a))):=(pe_dget2 (by omega) ho ((h_k xo go).1) ((h_a xo go).1) ⟨rfl,by rw[jzn [z] h3,jzn [] h3'];rfl,h2,by rw[jzn [z] h3,jzn [] h3'];rfl⟩).wk λs H Q q=>by
  refine TDE.one (k:=λr x h=>if(dctAt h x).isSome=true then(ev G cl k r h).bind λy h=>(ev G cl a r h).bind λz h=>get2D x y z h else .bad) (λr h=>by rw[ev]) q λm m2 r d h2 h' H2 dx v st g w2 st2 rx e c=>?_
  split at e
  ·rename_i hd
   obtain⟨l0,hd⟩:=Option.isSome_iff_exists.mp hd
   obtain⟨n,a0,us0,rfl,rfl,hn,ha,hu,_,_⟩:=jzH w2 rx hd
   obtain⟨dy,h3,e3,e⟩:=Rs.bind_ok e
   obtain⟨dz,h4,e4,e⟩:=Rs.bind_ok e
   refine⟨a0,rfl,.inl ⟨us0,hu⟩,m2,r,h2,dy,h3,w2,st2,e3,λm3 y' H3 g3 w3 ry=>⟨m3,r,h3,dz,h4,w3,st2.mono g3,e4,λm4 z' H4 g4 w4 rz=>?_⟩⟩
   unfold get2D at e
   split at e
   ·rename_i l kk el ek
    cases e
    obtain⟨n',a1,us,en,ea,hn',ha',hu',hk,rv⟩:=jzH w4 ((rx.mono g3).mono g4) el
    cases en;cases ea
    have:=jz8 ry ek
    subst this
    exact⟨_,DGet.kR hu',c m4 _ H4 (g3.trans g4) w4 (getD_rel hk rv rz)⟩
   ·cases e
  ·cases e
 exact⟨p,tOf p λ_=>rfl⟩
theorem vzj{K:PySem.W.Frag}{m:List Addr}{H:Hp}:∀{ds:List D}{vs:List V}{us:List Value}{xs:List Str},RDs K m H ds vs->Vals vs us->strsD ds=some xs->StrsAre us xs
 |_,_,_,_,.nil,.nil,e=>by cases e;exact .nil
 |_,_,_,_,.cons r q,.cons v t,e=>by
  cases r<;>first |(cases e;done)|skip
  simp only[strsD,Option.map_eq_some_iff] at e
  obtain⟨l,e1,rfl⟩:=e
  obtain⟨tk,rfl⟩:=v
  exact .cons _ tk (vzj q t e1)
theorem mt_join{X:Cx}(z:Str):MtR X "str.join" (λx vs H Q=>x=.str z/\∃m h y v d h',vs=[v]/\Wd X.K m h H/\RD X.K m H y v/\joinD z y h=.ok d h'/\∀m' v H',Gr X.K m H m' H'->Wd X.K m' h' H'->RD X.K m' H' d v->Q v H'):=by
 intro pins s σ H x vs v us Q I rx rv ⟨ex,m,h,y,v',d,h',ev,w,r1,e,c⟩
 subst ex ev
 obtain⟨t,rfl⟩:=rx
 obtain⟨u,rfl,ru⟩:=vals1 rv
 unfold joinD at e
 split at e
 ·rename_i l hl el
  split at e
  ·rename_i xs ex
   split at e
   ·rename_i hz
    cases e
    obtain⟨p,ws,rfl,hq,q⟩:=qzR w r1 hl el
    cases ru
    obtain⟨its,p1,t1,_⟩:=I.list hq
    exact join_list t1.isList (by simpa using vzj q p1 ex) (by omega) λt' k=>⟨.str _,H,I.tok k,⟨t',rfl⟩,c m _ H .refl w (.str _)⟩
   ·cases e
  ·cases e
 ·cases e
theorem dE_join{z:Str}{a:E}{j:Nat}{kp ap cp:Pos}{y:PySem.Expr}(h2:(ap.endLine==cp.line)=true)(h3:noStar y=true)(h_a:SE N sc G a y):SE N sc G (.join z a) (.Call (.Attribute (.Constant (.str z) j kp) "join" ap) [y] [] cp):=λ{X ca cl} xo go=>by
 have hA:PA X [y] (tCons (TDE X.K (ev G cl a)) tNil):=qza ((h_a xo go).1) qzP (jzn [] h3)
 have p:PE X (.Call (.Attribute (.Constant (.str z) j kp) "join" ap) [y] [] cp) (TDE X.K (ev G cl (.join z a))):=(pe_bm PySem.F.plainAttrs_str PySem.F.slot_str_join PySem.F.type_str_join (mt_join z) pe_str hA rfl (by rw[jzn [] h3];rfl) (by simpa using h2) (jzn [] h3) rfl).wk λs H Q q=>by
  refine⟨rfl,TDE.one (k:=λ_ x h=>joinD z x h) (λr h=>by rw[ev]) q λm m2 r d h2 h' H2 dx v st g w2 st2 rx e c=>?_⟩
  exact⟨rfl,m2,h2,dx,v,d,h',rfl,w2,rx,e,c⟩
 exact⟨p,tOf p λ_=>rfl⟩
theorem jzf:SAs N sc G .nil []:=⟨rfl,λ{X ca cl} xo go=>L2.PA.wk qzP λs H Q ⟨m,r,hh,ds,h',w,st,e1,c⟩=>by
 cases e1
 exact c m [] H Gr.refl w .nil⟩
theorem jzb{c:E}{l:Es}{e:PySem.Expr}{es:List PySem.Expr}(hn:noStar e=true)(he:SE N sc G c e)(hl:SAs N sc G l es):SAs N sc G (.cons c l) (e::es):=⟨by rw[List.all_cons,hn,hl.1];rfl,λ{X ca cl} xo go=>by
 refine L2.PA.wk (qza (he xo go).1 (hl.2 xo go) (jzn es hn)) λs H Q ⟨m,r,hh,ds,h',w,st,e1,cc⟩=>?_
 simp only[evs] at e1
 obtain⟨d,h1,e0,e1⟩:=Rs.bind_ok e1
 obtain⟨ds',h2,e2,e1⟩:=Rs.bind_ok e1
 cases e1
 exact⟨m,r,hh,d,h1,w,st,e0,λm1 v H1 g1 w1 rv=>⟨m1,r,h1,ds',_,w1,st.mono g1,e2,λm2 vs H2 g2 w2 rvs=>cc m2 _ H2 (g1.trans g2) w2 (.cons (rv.mono g2) rvs)⟩⟩⟩
theorem sb_nil:SBs N sc G .nil []:=λ{X ca cl} xo go=>λpins s σ H Q I ⟨m,r,hh,b,h',w,st,e1,c⟩=>by
 rw[evt] at e1
 cases e1
 exact wpAny_pure ⟨H,I,c m H Gr.refl w⟩
theorem sb_cons{c:E}{l:Es}{e:PySem.Expr}{es:List PySem.Expr}(he:SE N sc G c e)(hl:SBs N sc G l es):SBs N sc G (.cons c l) (e::es):=λ{X ca cl} xo go=>λpins s σ H Q I ⟨m,r,hh,b,h',w,st,e1,cc⟩=>by
 rw[evt] at e1
 obtain⟨d,h1,e0,e1⟩:=Rs.bind_ok e1
 refine vzD ?_
 split at e1
 ·rename_i et
  refine thn ((he xo go).2 pins s σ H (λk H1=>k=true/\TDB X.K (evt G cl l) σ H1 Q) I ⟨m,r,hh,d,h1,true,w,st,e0,et,λm' H' g w'=>⟨rfl,m',r,h1,b,_,w',st.mono g,e1,λm2 H2 g2=>cc m2 H2 (g.trans g2)⟩⟩) λk s1 ⟨H1,I1,ek,q1⟩=>?_
  subst ek
  exact hl xo go pins s1 σ H1 Q I1 q1
 ·rename_i et
  cases e1
  refine thn ((he xo go).2 pins s σ H (λk H1=>k=false/\Q false H1) I ⟨m,r,hh,d,_,false,w,st,e0,et,λm' H' g w'=>⟨rfl,cc m' H' g w'⟩⟩) λk s1 ⟨H1,I1,ek,q1⟩=>?_
  subst ek
  exact wzQ ⟨H1,I1,q1⟩
 ·cases e1
structure Blk (N:List Str)(sc:Scope)(N':List Str)(cap:List Nat)(scope:Scope):Prop where
 S:ScOk scope sc
 nd:N'.Nodup
 capL:cap.length<=N'.length
 nN:(N'.drop (N'.length-cap.length)).map some=cap.map (λ(i:Nat)=>N[i]?)
 fr:∀x∈N'.drop (N'.length-cap.length),scope.names.lookup x=some .free
theorem zz4{N':List Str}{cap:List Nat}{scope:Scope}(h:(scOk scope sc&&nodupB N'&&capOk N N' cap scope)=true):Blk N sc N' cap scope:=by
 simp only[Bool.and_eq_true] at h
 obtain⟨⟨h1,h2⟩,h3⟩:=h
 unfold capOk at h3
 simp only[Bool.and_eq_true,decide_eq_true_eq,beq_iff_eq,List.all_eq_true] at h3
 exact⟨scOk_of h1,qzv h2,h3.1.1,h3.1.2,h3.2⟩
def tgOk:Ck->PySem.Expr->Bool
 |.itf,.Tuple _ _ _=>true
 |.itf,_=>false
 |.its,.Tuple _ _ _=>true
 |.its,_=>false
 |_,_=>true
def SIt(N:List Str)(sc:Scope)(G:Gs)(k:Ck)(it:Es)(iter:PySem.Expr):Prop:=∀{X:Cx}{ca:Nat->Addr}{cl:Cl},XOk X N sc->GOk X G ca cl->∀{t:Tg}{tg:PySem.Expr}{ft:Ev->Hh->Rs Bool}{fe:Ev->Hh->Rs D}{N':List Str}{cap:List Nat}(_:tgOk k tg=true)
    (pins:List (Addr×Obj))(s:Shared)(σ:Sg)(H:Hp)(m:List Addr)(r:Ev)(h:Hh)(xs:List D)(h1 h':Hh),Inv X pins σ H s->Wd X.K m h H->RSt X.K m H r σ->evs G cl it r h=.ok xs h1->compL t ft fe h1.length k xs h1 (blockE N' cap r) (h1++ [.lst []])=.ok () h'->
    wpAny (model X.prog X.w) X.A (eval iter X.env) (λv s1=>wpAny (model X.prog X.w) X.A (pyIter v)
     (PIE X pins σ tg λJ H2=>∃(m2:List Addr)(h2:Hh),h2.length=h1.length/\Gr X.K m H m2 H2/\Wd X.K m2 h2 H2/\Turns X.K t ft fe h2.length h' J m2 H2 (blockE N' cap r) (h2++ [.lst []])) X.xe s1) X.xe s
theorem it_sq{a:E}{x:PySem.Expr}(ha:SE N sc G a x):SIt N sc G .sq (.cons a .nil) x:=λ{X ca cl} xo go {t tg ft fe N' cap} tk pins s σ H m r h xs h1 h' I w st e1 e3=>by
 have hp:=(ha xo go).1
 rw[evs] at e1
 obtain⟨x,h5,ex,e1⟩:=Rs.bind_ok e1
 rw[evs] at e1
 obtain⟨_,_,e4,e1⟩:=Rs.bind_ok e1
 cases e4;cases e1
 cases x<;>first |(cases e3;done)|skip
 ·refine zza hp pins s σ H _ I ⟨m,r,h,_,_,w,st,ex,λm' v H' g w' rv=>?_⟩
  cases rv with
  |tup hq q=>exact⟨_,rfl,⟨_,hq⟩,m',_,rfl,g,w',vzW hq q e3⟩
 ·rename_i n
  simp only[compL] at e3
  split at e3
  ·rename_i l el
   refine wzV hp pins s σ H _ I ⟨m,r,h,_,_,w,st,ex,λm' v H' g w' rv=>?_⟩
   cases rv with
   |ref ha=>
    obtain⟨a',vs,ha',hq,_⟩:=w'.lst el
    rw[ha] at ha';cases ha'
    exact⟨_,rfl,⟨_,hq⟩,m',_,rfl,g,w',vzY ha e3⟩
  ·cases e3
theorem it_r1{a:E}{y:PySem.Expr}{p pos:Pos}(hg:glB sc "range"=true)(hs:noStar y=true)(ha:SE N sc G a y):SIt N sc G .r1 (.cons a .nil) (.Call (.Name "range" p) [y] [] pos):=λ{X ca cl} xo go {t tg ft fe N' cap} tk pins s σ H m r h xs h1 h' I w st e1 e3=>by
 have hA:=jzb hs ha (jzf (N:=N) (sc:=sc) (G:=G))
 refine wzu (qzl xo hg) xo.rng (hA.2 xo go) (jzn [] hs) pins s σ H _ I ⟨m,r,h,xs,h1,w,st,e1,λm' vs H' g w' rv=>?_⟩
 rcases xs with _|⟨x,_|⟨y,xs⟩⟩<;>first |(cases e3;done)|(cases x<;>(cases e3;done))|skip
 cases x<;>first |(cases e3;done)|skip
 rename_i j
 simp only[compL] at e3
 split at e3
 ·rename_i ho
  cases rv with
  |cons rx rv=>
   cases rx;cases rv
   have tt:=vzX (K:=X.K) (m2:=m') (H2:=H') (lo:=0) (hi:=j) e3
   exact⟨j,rfl,ho.1,ho.2,m',_,rfl,g,w',by simpa using tt⟩
 ·cases e3
theorem comp_w{t:Tg}{k:Ck}{it cs:Es}{e:E}{N':List Str}{cap:List Nat}{tg iter:PySem.Expr}(hi:SIt N sc G k it iter)(tk:tgOk k tg=true){X:Cx}{ca:Nat->Addr}{cl:Cl}(xo:XOk X N sc)(go:GOk X G ca cl)
 (pins:List (Addr×Obj))(s:Shared)(σ:Sg)(H:Hp)(m:List Addr)(r:Ev)(h:Hh)(d:D)(h':Hh)(I:Inv X pins σ H s)(w:Wd X.K m h H)(st:RSt X.K m H r σ)(ev1:ev G cl (.comp t k it cs e N' cap) r h=.ok d h'):
 ∃h1:Hh,d=.ref h1.length/\wpAny (model X.prog X.w) X.A (eval iter X.env) (λv s1=>wpAny (model X.prog X.w) X.A (pyIter v)
  (PIE X pins σ tg λJ H2=>∃(m2:List Addr)(h2:Hh),h2.length=h1.length/\Gr X.K m H m2 H2/\Wd X.K m2 h2 H2/\Turns X.K t (evt G cl cs) (ev G cl e) h2.length h' J m2 H2 (blockE N' cap r) (h2++ [.lst []])) X.xe s1) X.xe s:=by
 rw[ev] at ev1
 obtain⟨xs,hh1,e1,e2⟩:=Rs.bind_ok ev1
 obtain⟨_,hh2,e3,e2⟩:=Rs.bind_ok e2
 cases e2
 exact⟨hh1,rfl,hi xo go tk pins s σ H m r h xs hh1 _ I w st e1 e3⟩
theorem vzu{t:Tg}{cs:Es}{e:E}{N':List Str}{cap:List Nat}{elt tg:PySem.Expr}{ifs:List PySem.Expr}{scope:Scope}(B:Blk N sc N' cap scope)(ht:chkT' N' scope t tg=true)(hc:SBs N' (relab scope sc) G cs ifs)(he:SE N' (relab scope sc) G e elt){X:Cx}{ca:Nat->Addr}{cl:Cl}(xo:XOk X N sc)(go:GOk X G ca cl)(C:Addr)(s3:Shared)(H3:Hp)(fp:List Addr):
 PG (blkX X N' scope C s3 H3 fp) tg (TDG X.K t)/\PTs (blkX X N' scope C s3 H3 fp) ifs (TDB X.K (evt G cl cs))/\PE (blkX X N' scope C s3 H3 fp) elt (TDE X.K (ev G cl e)):=
 ⟨pgT' (qzm xo B.nd C s3 H3 fp) (wz7 (by rw[xo.s];exact B.S) C s3 H3 fp) ht,hc (qzm xo B.nd C s3 H3 fp) (wzK go C s3 H3 fp),(he (qzm xo B.nd C s3 H3 fp) (wzK go C s3 H3 fp)).1⟩
theorem dE_comp{t:Tg}{k:Ck}{it cs:Es}{e:E}{N':List Str}{cap:List Nat}{elt tg iter:PySem.Expr}{ifs:List PySem.Expr}{scope:Scope}{pos:Pos}(B:Blk N sc N' cap scope)(ns:noSet iter=true)(ht:chkT' N' scope t tg=true)(hi:SIt N sc G k it iter)(hc:SBs N' (relab scope sc) G cs ifs)(he:SE N' (relab scope sc) G e elt)(tk:tgOk k tg=true:=by rfl):
 SE N sc G (.comp t k it cs e N' cap) (.ListComp elt [⟨tg,iter,ifs,0⟩] scope pos):=λ{X ca cl} xo go=>by
 have p:PE X (.ListComp elt [⟨tg,iter,ifs,0⟩] scope pos) (TDE X.K (ev G cl (.comp t k it cs e N' cap))):=comp_pe xo B.S B.capL B.nN B.fr (vzu B ht hc he xo go) ns (comp_w hi tk xo go)
 exact⟨p,tOf p λ_=>rfl⟩
theorem dc_blk{t1:Tg}{t2:Tg}{i2 k v:E}{N':List Str}{cap:List Nat}{kx vx tg1 tg2 iter2:PySem.Expr}{scope:Scope}(B:Blk N sc N' cap scope)(ht1:chkT' N' scope t1 tg1=true)(ht2:chkT' N' scope t2 tg2=true)(h_i2:SE N' (relab scope sc) G i2 iter2)(h_k:SE N' (relab scope sc) G k kx)(h_v:SE N' (relab scope sc) G v vx)
 {X:Cx}{ca:Nat->Addr}{cl:Cl}(xo:XOk X N sc)(go:GOk X G ca cl)(C:Addr)(s3:Shared)(H3:Hp)(fp:List Addr):DBlk (blkX X N' scope C s3 H3 fp) X.K tg1 tg2 iter2 kx vx t1 t2 (ev G cl i2) (ev G cl k) (ev G cl v):=
 ⟨pgT' (qzm xo B.nd C s3 H3 fp) (wz7 (by rw[xo.s];exact B.S) C s3 H3 fp) ht1,pgT' (qzm xo B.nd C s3 H3 fp) (wz7 (by rw[xo.s];exact B.S) C s3 H3 fp) ht2,
  (h_i2 (qzm xo B.nd C s3 H3 fp) (wzK go C s3 H3 fp)).1,(h_k (qzm xo B.nd C s3 H3 fp) (wzK go C s3 H3 fp)).1,(h_v (qzm xo B.nd C s3 H3 fp) (wzK go C s3 H3 fp)).1⟩
end
end Ng
end
section
namespace Ng
open PySem PySem.Spec PyProof.Rows L2
section
variable {N:List Str}{sc:Scope}{G:Gs}
end
end Ng
end
section
namespace Ng
open PySem PySem.Spec PyProof.Rows L2
section
variable {N:List Str}{sc:Scope}{G:Gs}
end
end Ng
end
section
namespace Ng
open PySem PySem.Spec PyProof.Rows L2
section
variable {N:List Str}{sc:Scope}{G:Gs}
end
end Ng
end
section
namespace Ng
open PySem PySem.Spec PyProof.Rows L2
section
variable {X:Cx}{pins:List (Addr×Obj)}{σ:Sg}{H:Hp}{s:Shared}
end
section
variable {Y:Cx}{kx vx:PySem.Expr}{fk fv:Ev->Hh->Rs D}{n0 acc:Nat}
end
section
variable {X:Cx}{N':List Str}{scope:Scope}{cap:List Nat}{kx vx tg1 iter1:PySem.Expr}{pos:Pos}{t1:Tg}{fk fv:Ev->Hh->Rs D}
end
section
variable {N:List Str}{sc:Scope}{G:Gs}
end
end Ng
end
section
namespace Ng
open PySem PySem.Spec PyProof.Rows L2
section
variable {X:Cx}{pins:List (Addr×Obj)}{σ:Sg}{H:Hp}{s:Shared}
theorem vz2(I:Inv X pins σ H s){a:Addr}{S:Str->Bool}{n:Nat}(e:H a=some (.set S n)):s.heap.SetOf (PySem.strKind X.prog X.w) a S n:=(show ObjOk X.prog X.w H s.heap a (.set S n) from I.hok a _ e)
theorem sAdd{a:Addr}{z:Str}{t:Tok}{S:Str->Bool}{n:Nat}{A:Around}{E:Value->Shared->Prop}{Q:Bool->Shared->Prop}(I:Inv X pins σ H s)(e:H a=some (.set S n))(hn:n+1<4096)
 (h:∀s' b,Inv X pins σ (upd H a (.set (λk=>S k||decide (k=z)) (if S z then n else n+1))) s'->Q b s'):wpAny (model X.prog X.w) A (setAdd a (.str z t)) Q E s:=by
 unfold setAdd
 refine wpAny_holding (wpAny_bind ((PySem.strKind X.prog X.w).pyHash (k:=z) (by simp[PySem.strKind,Value.isStrOf]) ?_))
 refine wpAny_setAddHashed_of (s:={s with toks:=s.toks+1}) (knd:=PySem.strKind X.prog X.w) (k:=z) (by simp[PySem.strKind,Value.isStrOf]) rfl (vz2 I e) hn λh' hsb hS'=>?_
 refine h _ _ (jzW (s:={s with toks:=s.toks+1}) (a:=a) (t':=s.toks+1) (ob:=.set (λk=>S k||decide (k=z)) (if S z then n else n+1)) (I.tok _) (by rw[e];exact True.intro) hsb (by obtain⟨o,_,_,_,ho,_⟩:=hS';exact⟨o,ho⟩) hS')
theorem set_snoc(l:List Str)(z:Str):(λk=>decide (k∈l)||decide (k=z))=λk=>decide (k∈(if z∈l then l else l++ [z])):=by
 funext k
 by_cases h:z∈l
 ·rw[if_pos h]
  by_cases e:k=z
  ·subst e;simp[h]
  ·simp[e]
 ·rw[if_neg h];simp
theorem set_len(l:List Str)(z:Str):(if decide (z∈l)=true then l.length else l.length+1)=(if z∈l then l else l++ [z]).length:=by
 by_cases h:z∈l<;>simp[h]
end
section
variable {N:List Str}{sc:Scope}{G:Gs}
theorem dE_sng{a:E}{y:PySem.Expr}{pos:Pos}(hp:PySem.W.kdsPlain y=true)(h_a:SE N sc G a y):SE N sc G (.sng a) (.Set [y] 0 pos):=λ{X ca cl} xo go=>by
 have p:PE X (.Set [y] 0 pos) (TDE X.K (ev G cl (.sng a))):=λpins s σ H Q I q=>by
  obtain⟨m,r,h,d,h',w,st,e,c⟩:=q
  rw[ev] at e
  obtain⟨dx,h1,e1,e⟩:=Rs.bind_ok e
  unfold sngD at e
  split at e<;>first |(cases e;done)|skip
  rename_i z en
  cases e
  rw[arm_eval_Set]
  refine wpAny_bind (wpAny_standAt (wpAny_bind (PySem.W.kds_main I.kIn xo.cd λb=>?_)))
  rw[PySem.W.kds_star [y] (by rw[List.all_cons,hp];rfl),List.map_map]
  refine PySem.W.kds_core (ts:=(evalEach [y] X.env).map λt=>do let v <- t;standAt pos;pure v) rfl rfl (by rw[List.length_map,PySem.W.kds_len];show 1<=30;decide) (by rw[List.map_map];rfl) λled=>?_
  refine PySem.W.kds_all pos [y] _ _ ?_
  have fr:H s.heap.objs.size=none:=I.hok.fresh (Nat.le_refl _)
  have e0:(λk=>decide (k∈([]:List Str)))=λ_=>false:=by funext k;simp
  have I1:Inv X pins σ (upd H s.heap.objs.size (.set (λk=>decide (k∈([]:List Str))) 0)) {s with heap:=s.heap.push {cls:=.type "set",dict:=none,data:=.set #[] 0 (.fresh 0 0 led)}}:=
   I.laid (t':=s.toks) (o:=.set (λk=>decide (k∈([]:List Str))) 0) (λb u q=>Heap.get?_push_of_some _ q) (Nat.le_refl _) (by
    rw[e0];exact(setObjOf_fresh (knd:=PySem.strKind X.prog X.w) led).setOf (Heap.get?_push_size _ rfl) (by decide))
  obtain⟨w2,g2⟩:=w.objNew (o:=.stt []) (u:=.set (λk=>decide (k∈([]:List Str))) 0) fr λ_=>jzq
  refine thn ((h_a xo go).1 pins _ σ _ (λv H1=>∃m1,Gr X.K (m++ [s.heap.objs.size]) (upd H s.heap.objs.size (.set (λk=>decide (k∈([]:List Str))) 0)) m1 H1/\Wd X.K m1 h1 H1/\RD X.K m1 H1 (.str z) v) I1 ⟨m++ [s.heap.objs.size],r,_,_,h1,w2,st.mono g2,e1,λm' v H' g w' rv=>⟨m',g,w',rv⟩⟩) λu s1 ⟨v,H1,I2,rv,m1,g1,w1,rd⟩=>?_
  cases rd
  obtain⟨t,rfl⟩:=rv
  have ha:m1[h.length]? =some s.heap.objs.size:=g1.pre _ _ (by rw[<- w.len];simp)
  have hH:H1 s.heap.objs.size=some (.set (λk=>decide (k∈([]:List Str))) 0):=w1.ob h.length _ _ en ha
  refine PySem.W.kds_fill_cons (sAdd I2 hH (by decide) λs' b I3=>PySem.W.kds_fill_nil rfl ?_)
  obtain⟨w3,g3⟩:=w1.objSet (o':=.stt [z]) (u:=.set (λk=>decide (k∈([]:List Str))||decide (k=z)) 1) en rfl ha λ_=>by
   show upd H1 _ _ _=_
   rw[jzq]
   congr 2
   funext k
   simp
  exact⟨.ref _,_,I3,rfl,c m1 _ _ ((g2.trans g1).trans g3) w3 (.ref ha)⟩
 exact⟨p,tOf p λ_=>rfl⟩
theorem opNis{X:Cx}:OpR X (compareOp .NotIn) (rD X.K nisD):=by
 intro pins s σ H x y v u Q I rx ry ⟨m,h,dx,dy,d,h',w,r1,r2,e,c⟩
 unfold nisD at e
 split at e<;>first |(cases e;done)|skip
 rename_i z n
 split at e<;>first |(cases e;done)|skip
 rename_i l en
 cases e
 cases r1
 cases r2 with
 |ref ha=>
  obtain⟨t,rfl⟩:=rx
  cases ry
  have hH:H _=some (.set (λk=>decide (k∈l)) l.length):=w.ob n _ _ en ha
  exact wpAny_notInSet_of (knd:=PySem.strKind X.prog X.w) (k:=z) (by simp[PySem.strKind,Value.isStrOf]) rfl (vz2 I hH) ⟨.bl _,H,I.tok _,rfl,c m _ H .refl w (.bl _)⟩
theorem dE_nis{a b:E}{x y:PySem.Expr}{pos:Pos}(hm:behindInMarks .NotIn y=false)(h_a:SE N sc G a x)(h_b:SE N sc G b y):SE N sc G (.nis a b) (.Compare x [.NotIn] [y] pos):=λ{X ca cl} xo go=>by
 have p:PE X (.Compare x [.NotIn] [y] pos) (TDE X.K (ev G cl (.nis a b))):=(zzc opNis (h_a xo go).1 (h_b xo go).1 hm).wk (TDE.op λr h=>by simp only[ev])
 refine⟨p,(vz8 opNis (h_a xo go).1 (h_b xo go).1 hm).wk λs H Q ⟨m,r,hh,d,h',k,w,st,e1,ek,c⟩=>?_⟩
 refine TDE.op (f:=ev G cl (.nis a b)) (k:=nisD) (λr h=>by simp only[ev]) s H _ ⟨m,r,hh,d,h',w,st,e1,λm' v H' g w' rd=>?_⟩
 have e1':=e1
 simp only[ev] at e1'
 obtain⟨_,_,_,e1'⟩:=Rs.bind_ok e1'
 obtain⟨_,_,_,e1'⟩:=Rs.bind_ok e1'
 obtain⟨k',rfl⟩:∃k,d=.bl k:=by
  unfold nisD at e1'
  split at e1'<;>first |(cases e1';done)|skip
  split at e1'<;>first |(cases e1';done)|skip
  cases e1'
  exact⟨_,rfl⟩
 cases rd
 have ek':k'=k:=Option.some.inj ek
 subst ek'
 exact⟨k',rfl,c m' H' g w'⟩
theorem mt_sadd{X:Cx}:MtR X "set.add" (λx vs H Q=>∃m h dx dy v d h',vs=[v]/\Wd X.K m h H/\RD X.K m H dx x/\RD X.K m H dy v/\sadD dx dy h=.ok d h'/\∀m' v H',Gr X.K m H m' H'->Wd X.K m' h' H'->RD X.K m' H' d v->Q v H'):=by
 intro pins s σ H x vs v us Q I rx rv ⟨m,h,dx,dy,v',d,h',ev,w,r1,r2,e,c⟩
 subst ev
 obtain⟨u,rfl,ru⟩:=vals1 rv
 unfold sadD at e
 split at e<;>first |(cases e;done)|skip
 rename_i n z
 split at e<;>first |(cases e;done)|skip
 rename_i l en
 split at e<;>first |(cases e;done)|skip
 rename_i hz
 cases e
 cases r2
 cases r1 with
 |ref ha=>
  obtain⟨t,rfl⟩:=ru
  cases rx
  have hH:H _=some (.set (λk=>decide (k∈l)) l.length):=w.ob n _ _ en ha
  have sb:(4096:Nat)=scanBound:=rfl
  refine call_set_add (knd:=PySem.strKind X.prog X.w) (k:=z) (by simp[PySem.strKind,Value.isStrOf]) rfl (vz2 I hH) (by omega) λh' hsb hS'=>?_
  rw[set_snoc] at hS'
  simp only[set_len] at hS'
  obtain⟨w2,g2⟩:=w.objSet (o':=.stt (if z∈l then l else l++ [z])) (u:=.set (λk=>decide (k∈(if z∈l then l else l++ [z]))) (if z∈l then l else l++ [z]).length) en rfl ha λ_=>jzq
  exact⟨.non,_,jzW (t':=s.toks+1) (ob:=.set (λk=>decide (k∈(if z∈l then l else l++ [z]))) (if z∈l then l else l++ [z]).length) I (by rw[hH];exact True.intro) hsb (by obtain⟨o,_,_,_,ho,_⟩:=hS';exact⟨o,ho⟩) hS',rfl,c m _ _ g2 w2 .non⟩
theorem dE_sad{o a:E}{z:Str}{pz ap cp:Pos}{y:PySem.Expr}(h2:(ap.endLine==cp.line)=true)(h3:noStar y=true)(h_o:SE N sc G o (.Name z pz))(h_a:SE N sc G a y):SE N sc G (.sad o a) (.Call (.Attribute (.Name z pz) "add" ap) [y] [] cp):=λ{X ca cl} xo go=>by
 have hA:PA X [y] (tCons (TDE X.K (ev G cl a)) tNil):=qza ((h_a xo go).1) qzP (jzn [] h3)
 have p:PE X (.Call (.Attribute (.Name z pz) "add" ap) [y] [] cp) (TDE X.K (ev G cl (.sad o a))):=(pe_bm PySem.F.plainAttrs_set PySem.F.slot_set_add PySem.F.type_set_add mt_sadd (h_o xo go).1 hA rfl (by rw[jzn [] h3];rfl) h2 (jzn [] h3) rfl).wk λs H Q q=>by
  refine TDE.one (λ_ _=>by rw[ev]) q λm m2 r d h2 h' H2 dx v st g w2 st2 rx e c=>?_
  split at e<;>first |(cases e;done)|skip
  rename_i hi
  obtain⟨dy,h3,e3,e⟩:=Rs.bind_ok e
  obtain⟨n,l,rfl,en⟩:∃n l,dx=.ref n/\h2[n]? =some (.stt l):=by
   unfold isSt at hi
   split at hi<;>first |(cases hi;done)|skip
   split at hi<;>first |(cases hi;done)|skip
   rename_i q
   exact⟨_,_,rfl,q⟩
  cases rx with
  |ref ha=>
   refine⟨.inr (.inr (.inr ⟨rfl,_,_,w2.ob n _ _ en ha⟩)),m2,r,h2,dy,h3,w2,st2,e3,λm3 y' H3 g3 w3 ry=>?_⟩
   exact⟨m3,h3,.ref n,dy,y',d,h',rfl,w3,.ref (g3.pre _ _ ha),ry,e,λm' v H' g'=>c m' v H' (g3.trans g')⟩
 exact⟨p,tOf p λ_=>rfl⟩
end
end Ng
end
section
namespace Ng
open PySem PySem.Spec PyProof.Rows L2
section
variable {N:List Str}{sc:Scope}{G:Gs}
theorem dE_dk1{k v:E}{x y:PySem.Expr}{pos:Pos}(h_k:SE N sc G k x)(h_v:SE N sc G v y):SE N sc G (.dk1 k v) (.Dict [some x] [y] pos):=λ{X ca cl} xo go=>by
 have p:PE X (.Dict [some x] [y] pos) (TDE X.K (ev G cl (.dk1 k v))):=(pe_disp (pps_cons (h_k xo go).1 (h_v xo go).1 pps_nil) rfl rfl (by simp) (by show 1<=15;decide)).wk λs H Q ⟨m,r,h,d,h',w,st,e,c⟩ p hp0=>by
  rw[ev] at e
  obtain⟨dx,h1,e1,e⟩:=Rs.bind_ok e
  obtain⟨dy,h2,e2,e⟩:=Rs.bind_ok e
  obtain⟨z,rfl,en,ee⟩:∃z,dx=.str z/\h2[h.length]? =some (.dct [])/\Rs.ok (D.ref h.length) (h2.set h.length (.dct [(.inr z,dy)]))=.ok d h':=by
   unfold dk1D at e
   split at e<;>first |(cases e;done)|skip
   exact⟨_,rfl,by assumption,e⟩
  cases ee
  obtain⟨w2,g2⟩:=w.objNew (o:=.dct []) (u:=.dK []) hp0 λ_=>⟨[],jzq,rfl,.nil⟩
  refine⟨m++ [p],r,_,_,h1,w2,st.mono g2,e1,λm1 v1 H1 g1 w1 r1=>⟨m1,r,h1,dy,h2,w1,(st.mono g2).mono g1,e2,λm3 v2 H3 g3 w3 r2=>?_⟩⟩
  cases r1
  have hp3:m3[h.length]? =some p:=g3.pre _ _ (g1.pre _ _ (by rw[<- w.len];simp))
  obtain⟨us0,q1,q2,q3⟩:=w3.ob h.length _ p en hp3
  have e0:us0=[]:=by
   cases us0 with
   |nil=>rfl
   |cons a b=>simp at q2
  subst e0
  refine⟨q1,[(.inr z,v2)],rfl,by show 1<=15;decide,?_⟩
  obtain⟨w4,g4⟩:=w3.objSet (o':=.dct [(.inr z,dy)]) (u:=.dK [(.inr z,v2)]) en rfl hp3 λg=>⟨_,jzq,rfl,.cons (r2.mono g) .nil⟩
  exact c m3 _ _ (((g2.trans g1).trans g3).trans g4) w4 (.ref hp3)
 exact⟨p,tOf p λ_=>rfl⟩
theorem vza:∀{xs:List V}{its:List Value},xs.length=its.length->(∀(j:Nat) x v,xs[j]? =some x->its[j]? =some v->RelV x v)->Vals xs its
 | [],[],_,_=>.nil
 |x::xs,v::its,hl,h=>.cons (h 0 x v rfl rfl) (vza (by simpa using hl) λj x v e1 e2=>h (j+1) x v (by simpa using e1) (by simpa using e2))
theorem kv_keys{kvs:List (Key×V)}{vs:List (Key×Value)}(h:KV kvs vs):kvs.map (·.1)=vs.map (·.1):=by
 induction h with
 |nil=>rfl
 |cons e _ ih=>rw[List.map_cons,List.map_cons,e.1,ih]
theorem qz5{K:PySem.W.Frag}{m:List Addr}{H:Hp}:∀ks:List Key,RDs K m H (ks.map kyD) (ks.map kV)
 | []=>.nil
 |.inl i::ks=>.cons (.int i) (qz5 ks)
 |.inr x::ks=>.cons (.str x) (qz5 ks)
theorem callLdk{X:Cx}(hc:X.calm=true):CallR X (.type "list") (rDc X.K (one ldkD)):=by
 intro pins s σ H xs us Q I rs ⟨m,h,ds,d,h',w,r,e,c⟩
 obtain⟨x,v,rfl,r1,e⟩:=qzu r e
 unfold ldkD at e
 split at e<;>first |(cases e;done)|skip
 rename_i l el
 cases e
 obtain⟨n,a,kvs,rfl,rfl,hn,ha,hH,q1,q2⟩:=jzH w r1 el
 obtain⟨u,rfl,ru⟩:=vals1 rs
 cases ru
 obtain⟨z,hs,vs,rel,o,es,ep,dd⟩:=dk_rd I.hok hH
 have ln:vs.length=kvs.length:=rel.length.symm
 refine PySem.W.kdl_call (PySem.W.kdl_dict (knd:=mixKind X.prog X.w) (kvs:=vs) (ep:=ep) hs) (I.ok.hd hc) ⟨o,es,dd⟩ (by omega) λg tk acc c' kp he it=>?_
 have fr:H s.heap.objs.size=none:=I.hok.fresh (Nat.le_refl _)
 have sz:acc.toList.length=kvs.length:=by rw[Array.length_toList,it.1,ln]
 have vv:Vals ((kvs.map (·.1)).map kV) acc.toList:=by
  refine vza (by rw[List.length_map,List.length_map,sz]) λj x v e1 e2=>?_
  obtain⟨k,y,f1,f2⟩:=it.2 j v (by rw[<- Array.getElem?_toList];exact e2)
  rw[kv_keys rel,List.getElem?_map,List.getElem?_map,f1] at e1
  cases e1
  rw[qzQ] at f2
  rcases jzy f2 with ⟨i,t,g1,g2⟩|⟨i,t,g1,g2⟩
  ·rw[g1,g2];exact⟨t,rfl⟩
  ·rw[g1,g2];exact⟨t,rfl⟩
 have I1:=I.laid (t':=tk) kp (Nat.le_refl _) (show ObjOk X.prog X.w (upd H s.heap.objs.size (.lst ((kvs.map (·.1)).map kV))) g _ (.lst ((kvs.map (·.1)).map kV)) from⟨by rw[List.length_map,List.length_map];exact z,acc.toList,c',vv,he⟩)
 have eq0:(l.map λp=>kyD p.1)=(kvs.map (·.1)).map kyD:=by rw[<- q1,List.map_map];rfl
 rw[eq0] at c
 obtain⟨w2,g2⟩:=w.lstNew fr (qz5 (kvs.map (·.1)))
 exact⟨.ref _,_,I1,rfl,c _ _ _ g2 w2 (.ref (by rw[<- w.len];simp))⟩
theorem dE_ldk{a:E}{y:PySem.Expr}{np pos:Pos}(h2:glB sc "list"=true)(h3:noStar y=true)(h_a:SE N sc G a y):SE N sc G (.ldk a) (.Call (.Name "list" np) [y] [] pos):=λ{X ca cl} xo go=>by
 have hl:=jzb h3 h_a (jzf (N:=N) (sc:=sc) (G:=G))
 have p:PE X (.Call (.Name "list" np) [y] [] pos) (TDE X.K (ev G cl (.ldk a))):=(wzv (callLdk xo.calm) (qzl xo h2) (go.ty .list) (zz2 .list) (hl.2 xo go) (vzh .list).2 (vzh .list).1 (jzn [] h3) (qzK pos rfl)).wk λs H Q ⟨m,r,hh,d,h',w,st,e1,cc⟩=>by
  rw[ev] at e1
  obtain⟨x,h1,e0,e1⟩:=Rs.bind_ok e1
  refine⟨m,r,hh,[x],h1,w,st,?_,λm' vs H' g w' rd=>⟨m',h1,[x],d,h',w',rd,e1,λm2 v H2 g2=>cc m2 v H2 (g.trans g2)⟩⟩
  rw[evs,e0];rfl
 exact⟨p,tOf p λ_=>rfl⟩
end
end Ng
end
section
namespace Ng
open PySem PySem.Spec PyProof.Rows L2
inductive Ir where
 |r1 (e:E)|r2 (a b:E)|sq (e:E)|its (e:E)|itz (e:E)
inductive HB where
 |isx (k:Nat)|isv|and (a b:HB)|not (a:HB)
inductive HS where
 |bl (i:Nat) (b:HB)|cst (i:Nat) (d:Sum Bool Str)|ifc (b:HB) (i:Nat) (d:Sum Bool Str)
def HB.run(G:Gs)(c:Nat):HB->Option Bool
 |.isx k=>if(c,k)∈G.sub then some true else if(c,k)∈G.nsub then some false else none
 |.isv=>some true
 |.and a b=>match a.run G c with
  |some true=>b.run G c
  |some false=>some false
  |none=>none
 |.not a=>match a.run G c with
  |some v=>some (!v)
  |none=>none
def cstD:Sum Bool Str->D
 |.inl b=>.bl b
 |.inr x=>.str x
def hrun(G:Gs)(c:Nat):List HS->Ev->Option Ev
 | [],r=>some r
 |.bl i b::l,r=>match b.run G c with
  |some v=>hrun G c l (r.set i (some (.bl v)))
  |none=>none
 |.cst i d::l,r=>hrun G c l (r.set i (some (cstD d)))
 |.ifc b i d::l,r=>match b.run G c with
  |some true=>hrun G c l (r.set i (some (cstD d)))
  |some false=>hrun G c l r
  |none=>none
def clr:Option Nat->Ev->Ev
 |some j,r=>r.set j none
 |none,r=>r
mutual
inductive S where
 |rais (c:Nat) (x:Str)|asgX (t:Tg) (f:Nat) (l:Es)|retX (f:Nat) (l:Es)|exX (f:Nat) (l:Es)|tryx (b:Ss) (g:Nat) (j:Option Nat) (hs:List HS)
 |asg (t:Tg) (e:E)|asc (i:Nat) (e:E)|ex (e:E)|ret (e:E)|iff (c:E) (a b:Ss)|forr (t:Tg) (it:Ir) (b:Ss)|whl (c:E) (b:Ss)
 |pass|brk|cont|stx (o i e:E)|sfl (o:E) (cn f:Str) (e:E)|asgL (l:List Nat) (e:E)|exN (cn:Str) (f:Nat) (l:Es)|never
inductive Ss where
 |nil|cons (s:S) (r:Ss)
end
inductive Fl where
 |nx (r:Ev)|rt (d:D)|bk (r:Ev)|ct (r:Ev)
def forS(t:Tg)(body:Ev->Hh->Rs Fl):List D->Ev->Hh->Rs Fl
 | [],r,h=>.ok (.nx r) h
 |d::ds,r,h=>match setT t d r with
  |none=>.bad
  |some r1=>(body r1 h).bind λfl h=>match fl with
   |.nx r2=>forS t body ds r2 h
   |.ct r2=>forS t body ds r2 h
   |.bk r2=>.ok (.nx r2) h
   |.rt d=>.ok (.rt d) h
def forI(t:Tg)(body:Ev->Hh->Rs Fl)(n:Nat):Nat->Nat->Ev->Hh->Rs Fl
 |0,_,_,_=>.bad
 |k+1,i,r,h=>match lstAt h n with
  |none=>.bad
  |some l=>match l[i]? with
   |none=>.ok (.nx r) h
   |some d=>match setT t d r with
    |none=>.bad
    |some r1=>(body r1 h).bind λfl h=>match fl with
     |.nx r2=>forI t body n k (i+1) r2 h
     |.ct r2=>forI t body n k (i+1) r2 h
     |.bk r2=>.ok (.nx r2) h
     |.rt d=>.ok (.rt d) h
def whileF(c:Ev->Hh->Rs D)(body:Ev->Hh->Rs Fl):Nat->Ev->Hh->Rs Fl
 |0,_,_=>.bad
 |k+1,r,h=>(c r h).nx.bind λx h=>match truD x h with
  |none=>.bad
  |some false=>.ok (.nx r) h
  |some true=>(body r h).bind λfl h=>match fl with
   |.nx r2=>whileF c body k r2 h
   |.ct r2=>whileF c body k r2 h
   |.bk r2=>.ok (.nx r2) h
   |.rt d=>.ok (.rt d) h
def stxL(n:Nat)(l:List D)(y z:D)(h:Hh):Rs Unit:=match y with
 |.int k=>match ixN l.length k with
  |some j=>.ok () (h.set n (.lst (l.set j z)))
  |none=>.bad
 |_=>.bad
def stxD(x y z:D)(h:Hh):Rs Unit:=match x with
 |.ref n=>match h[n]? with
  |some (.lst l)=>stxL n l y z h
  |some (.dct _)=>dputD n y z h
  |some (.dtt l)=>dputT n l y z h
  |_=>.bad
 |_=>.bad
def forD(W:Nat)(t:Tg)(body:Ev->Hh->Rs Fl)(x:D)(r:Ev)(h:Hh):Rs Fl:=match x with
 |.tup l=>forS t body l r h
 |.ref n=>forI t body n W 0 r h
 |_=>.bad
def catchD(G:Gs)(g:Nat)(j:Option Nat)(hs:List HS):Rs Fl->Rs Fl
 |.exc c r h=>if(c,g)∈G.sub then(match hrun G c hs (clr j r) with
  |some r'=>.ok (.nx (clr j r')) h
  |none=>.bad) else .bad
 |o=>o
mutual
noncomputable def xs(G:Gs)(cl:Cl)(W:Nat):S->Ev->Hh->Rs Fl
 |.rais c _,r,h=>.exc c r h
 |.asgX t f l,r,h=>(evs G cl l r h).nx.bind λds h=>((cl f ds h).inn r).bind λx h=>match setT t x r with
  |some r1=>.ok (.nx r1) h
  |none=>.bad
 |.retX f l,r,h=>(evs G cl l r h).nx.bind λds h=>((cl f ds h).inn r).bind λx h=>.ok (.rt x) h
 |.exX f l,r,h=>(evs G cl l r h).nx.bind λds h=>((cl f ds h).inn r).bind λ_ h=>.ok (.nx r) h
 |.tryx b g j hs,r,h=>catchD G g j hs (xss G cl W b r h)
 |.asg t e,r,h=>(ev G cl e r h).nx.bind λx h=>match setT t x r with
  |some r1=>.ok (.nx r1) h
  |none=>.bad
 |.asc i e,r,h=>(ev G cl e r h).nx.bind λx h=>.ok (.nx (r.set i (some x))) h
 |.ex e,r,h=>(ev G cl e r h).nx.bind λ_ h=>.ok (.nx r) h
 |.ret e,r,h=>(ev G cl e r h).nx.bind λx h=>.ok (.rt x) h
 |.iff c a b,r,h=>(ev G cl c r h).nx.bind λx h=>match truD x h with
  |some true=>xss G cl W a r h
  |some false=>xss G cl W b r h
  |none=>.bad
 |.forr t (.r1 e) b,r,h=>(ev G cl e r h).nx.bind λx h=>match x with
  |.int j=>if okR j then forS t (xss G cl W b) (rngD 0 j) r h else .bad
  |_=>.bad
 |.forr t (.r2 e e') b,r,h=>(ev G cl e r h).nx.bind λx h=>(ev G cl e' r h).nx.bind λy h=>match x,y with
  |.int i,.int j=>if okR i/\okR j then forS t (xss G cl W b) (rngD i j) r h else .bad
  |_,_=>.bad
 |.forr t (.sq e) b,r,h=>(ev G cl e r h).nx.bind λx h=>forD W t (xss G cl W b) x r h
 |.forr t (.its e) b,r,h=>(ev G cl e r h).nx.bind λx h=>match x with
  |.ref n=>match h[n]? with
   |some (.dct l)=>forS t (xss G cl W b) (l.map λp=>D.tup [kyD p.1,p.2]) r (h.set n .ded)
   |_=>.bad
  |_=>.bad
 |.forr t (.itz e) b,r,h=>(ev G cl e r h).nx.bind λx h=>match x with
  |.ref n=>match h[n]? with
   |some (.dct l)=>(forS t (xss G cl W b) (l.map λp=>D.tup [kyD p.1,p.2]) r (h.set n (.dcz l))).bind λfl h2=>match fl with
    |.nx r2=>(match h2[n]? with
     |some (.dcz l2)=>.ok (.nx r2) (h2.set n (.dct l2))
     |_=>.bad)
    |f=>.ok f h2
   |_=>.bad
  |_=>.bad
 |.whl c b,r,h=>whileF (ev G cl c) (xss G cl W b) W r h
 |.pass,r,h=>.ok (.nx r) h
 |.brk,r,h=>.ok (.bk r) h
 |.cont,r,h=>.ok (.ct r) h
 |.stx o i e,r,h=>(ev G cl e r h).nx.bind λz h=>(ev G cl o r h).nx.bind λx h=>(ev G cl i r h).nx.bind λy h=>(stxD x y z h).nx.bind λ_ h=>.ok (.nx r) h
 |.sfl o cn f e,r,h=>(ev G cl e r h).nx.bind λz h=>(ev G cl o r h).nx.bind λx h=>(satD cn x z f h).nx.bind λ_ h=>.ok (.nx r) h
 |.asgL l e,r,h=>(ev G cl e r h).nx.bind λx h=>match x with
  |.ref n=>(match lstAt h n with
   |some ds=>if ds.length=l.length then .ok (.nx (setAll l ds r)) h else .bad
   |none=>.bad)
  |_=>.bad
 |.exN cn f l,r,h=>(evs G cl l r h).nx.bind λds h=>((newD cn (cl f) ds h).inn r).bind λ_ h=>.ok (.nx r) h
 |.never,_,_=>.bad
noncomputable def xss(G:Gs)(cl:Cl)(W:Nat):Ss->Ev->Hh->Rs Fl
 |.nil,r,h=>.ok (.nx r) h
 |.cons s l,r,h=>(xs G cl W s r h).bind λfl h=>match fl with
  |.nx r2=>xss G cl W l r2 h
  |f=>.ok f h
end
def noComp:PySem.Expr->Bool
 |.ListComp _ _ _ _=>false
 |.SetComp _ _ _ _=>false
 |.DictComp _ _ _ _ _=>false
 |_=>true
def chkNs(N:List Str)(sc:Scope):List Nat->List PySem.Expr->Bool
 | [],[]=>true
 |i::is,.Name x _::es=>N[i]? ==some x&&locB sc x&&chkNs N sc is es
 |_,_=>false
def chkT(N:List Str)(sc:Scope):Tg->PySem.Expr->Bool
 |.nm i,.Name x _=>N[i]? ==some x&&locB sc x
 |.tp l,.Tuple es _ _=>chkNs N sc l es
 |_,_=>false
mutual
def noRs:S->Bool
 |.rais _ _=>false
 |.iff _ a b=>noRss a&&noRss b
 |.forr _ _ b=>noRss b
 |.whl _ b=>noRss b
 |.tryx _ _ _ _=>false
 |_=>true
def noRss:Ss->Bool
 |.nil=>true
 |.cons s l=>noRs s&&noRss l
end
def FlOk(K:PySem.W.Frag)(m:List Addr)(H:Hp)(D:Ends):Fl->Prop
 |.nx r=>∀s,RSt K m H r s->D.nx s H
 |.rt d=>∀v,RD K m H d v->D.rt v H
 |.bk r=>∀s,RSt K m H r s->D.bk s H
 |.ct r=>∀s,RSt K m H r s->D.ct s H
abbrev Ws:=Nat->Sg->Hp->Prop
def OutS(K:PySem.W.Frag)(W:Ws)(m:List Addr)(H:Hp)(D:Ends):Rs Fl->Prop
 |.ok fl h'=>∀m' H',Gr K m H m' H'->Wd K m' h' H'->FlOk K m' H' D fl
 |.exc c r' h'=>∀m' H' s',Gr K m H m' H'->Wd K m' h' H'->RSt K m' H' r' s'->W c s' H'
 |.bad=>False
theorem OutS.mono{K:PySem.W.Frag}{W:Ws}{m m1:List Addr}{H H1:Hp}{D:Ends}(g:Gr K m H m1 H1):∀{o:Rs Fl},OutS K W m H D o->OutS K W m1 H1 D o
 |.ok _ _,q=>λm' H' g'=>q m' H' (g.trans g')
 |.exc _ _ _,q=>λm' H' s' g'=>q m' H' s' (g.trans g')
 |.bad,q=>q
def TDS(K:PySem.W.Frag)(W:Ws)(f:Ev->Hh->Rs Fl):TS:=λD s H=>∃m r h,Wd K m h H/\RSt K m H r s/\OutS K W m H D (f r h)
theorem _root_.L2.PS.wk{X:Cx}{e:PySem.Stmt}{t t':TS}(h:PS X e t)(i:∀D s H,t' D s H->t D s H):PS X e t':=λpins s σ H D I q=>h pins s σ H D I (i _ _ _ q)
theorem _root_.L2.PSs.wk{X:Cx}{e:List PySem.Stmt}{t t':TS}(h:PSs X e t)(i:∀D s H,t' D s H->t D s H):PSs X e t':=λpins s σ H D I q=>h pins s σ H D I (i _ _ _ q)
section
variable {X:Cx}{N:List Str}{sc:Scope}{G:Gs}{ca:Nat->Addr}{cl:Cl}
theorem vzw:∀{l:List Nat}{es:List PySem.Expr},chkNs N sc l es=true->l.length=es.length/\∀(j:Nat) i e,l[j]? =some i->es[j]? =some e->chkT N sc (.nm i) e=true
 | [],[],_=>⟨rfl,λj i e h=>by simp at h⟩
 |i::is,e::es,h=>by
  cases e<;>first |exact absurd (show false=true from h) Bool.false_ne_true|skip
  rename_i x pos
  have h':(N[i]? ==some x&&locB sc x&&chkNs N sc is es)=true:=h
  rw[Bool.and_eq_true] at h'
  obtain⟨i1,i2⟩:=vzw h'.2
  refine⟨by simp[i1],λj i' e' e1 e2=>?_⟩
  cases j with
  |zero=>
   simp at e1 e2
   subst e1;subst e2
   exact h'.1
  |succ j=>exact i2 j i' e' (by simpa using e1) (by simpa using e2)
 | [],_::_,h=>absurd (show false=true from h) Bool.false_ne_true
 |_::_,[],h=>absurd (show false=true from h) Bool.false_ne_true
theorem pgT(xo:XOk X N sc)(hfn:∀x,X.fn x=true){t:Tg}{tg:PySem.Expr}(h:chkT N sc t tg=true):PG X tg (TDG X.K t):=by
 refine pgT_of (λe i=>chkT N sc (.nm i) e) (λe i he=>?_) xo.calm ?_
 ·cases e<;>first |exact absurd (show false=true from he) Bool.false_ne_true|skip
  rename_i x pos
  have h':(N[i]? ==some x&&locB sc x)=true:=he
  simp only[Bool.and_eq_true,beq_iff_eq] at h'
  exact⟨x,pos,rfl,wzX xo.nd (by rw[xo.n];exact h'.1) (by rw[xo.s];exact qz9 h'.2) (.inl (hfn x))⟩
 ·cases t with
  |nm i=>exact h
  |tp l=>
   cases tg<;>first |exact absurd (show false=true from h) Bool.false_ne_true|skip
   rename_i es k pos
   obtain⟨h1,h2⟩:=vzw (show chkNs N sc l es=true from h)
   exact⟨es,k,pos,rfl,h1,h2⟩
  |tn i j k=>exact absurd (show false=true from h) Bool.false_ne_true
end
end Ng
end
section
namespace Ng
open PySem PySem.Spec PyProof.Rows L2
section
variable {prog:Program}{w:World}{A:Around}{E:Value->Shared->Prop}
end
section
variable {X:Cx}
end
end Ng
end
section
namespace Ng
open PySem PySem.Spec PyProof.Rows L2
section
variable {X:Cx}{N:List Str}{sc:Scope}{G:Gs}{cl:Cl}{W:Nat}{K:PySem.W.Frag}{Wx:Ws}
theorem OutS.nx{A:Type}{m:List Addr}{H:Hp}{Z:Ends}{a:Rs A}{k:A->Hh->Rs Fl}(q:OutS K Wx m H Z (a.nx.bind k)):∃d h1,a=.ok d h1/\OutS K Wx m H Z (k d h1):=by
 cases a with
 |ok d h1=>exact⟨d,h1,rfl,q⟩
 |exc c r h=>exact q.elim
 |bad=>exact q.elim
theorem OutS.body{Z:Ends}{m:List Addr}{H:Hp}{P:Sg->Hp->Prop}{o:Rs Fl}{next:Ev->Hh->Rs Fl}
 (e:OutS K Wx m H Z (o.bind λfl h=>match fl with
   |.nx r2=>next r2 h
   |.ct r2=>next r2 h
   |.bk r2=>.ok (.nx r2) h
   |.rt d=>.ok (.rt d) h))
 (hP:∀m' H' h' r s,Gr K m H m' H'->Wd K m' h' H'->RSt K m' H' r s->OutS K Wx m' H' Z (next r h')->P s H'):OutS K Wx m H {Z with nx:=P,ct:=P,bk:=Z.nx} o:=by
 cases o with
 |bad=>exact e
 |exc c r h=>exact e
 |ok fl h2=>
  intro m' H' g w
  have e':=OutS.mono g e
  cases fl with
  |nx r=>exact λs st=>hP m' H' h2 r s g w st e'
  |ct r=>exact λs st=>hP m' H' h2 r s g w st e'
  |bk r=>exact λs st=>e' m' H' .refl w s st
  |rt d=>exact λv rd=>e' m' H' .refl w v rd
theorem turnS{t:Tg}{body:Ev->Hh->Rs Fl}{Z:Ends}{d:D}{ds:List D}{P:Sg->Hp->Prop}{m1:List Addr}{r1:Ev}{h1:Hh}{s1:Sg}{H1:Hp}{v:V}
 (w:Wd K m1 h1 H1)(st:RSt K m1 H1 r1 s1)(rd:RD K m1 H1 d v)(e:OutS K Wx m1 H1 Z (forS t body (d::ds) r1 h1))
 (hP:∀m2 H2 r2 h2 s2,Gr K m1 H1 m2 H2->Wd K m2 h2 H2->RSt K m2 H2 r2 s2->OutS K Wx m2 H2 Z (forS t body ds r2 h2)->P s2 H2):
 TDG K t v s1 H1 λs2 H2=>TDS K Wx body {Z with nx:=P,ct:=P,bk:=Z.nx} s2 H2:=by
 simp only[forS] at e
 split at e
 ·exact e.elim
 ·rename_i r2 er
  exact⟨m1,h1,r1,d,r2,w,st,rd,er,λs2 st2=>⟨m1,r2,h1,w,st2,OutS.body (next:=forS t body ds) e λm' H' h' r s g w' st' e'=>hP m' H' r h' s g w' st' e'⟩⟩
theorem for_tupD{t:Tg}{body:Ev->Hh->Rs Fl}{Z:Ends}{m0:List Addr}{H0:Hp}{h0:Hh}{ds:List D}{vs:List V}{r0:Ev}{s0:Sg}{a:Addr}
 (w:Wd K m0 h0 H0)(st:RSt K m0 H0 r0 s0)(hq:SqT K H0 a vs)(q:RDs K m0 H0 ds vs)(e:OutS K Wx m0 H0 Z (forS t body ds r0 h0)):
 ∃Wv:Nat->Nat->Sg->Hp->Prop,(∃m,Wv 0 m s0 H0)/\∀i m s H,Wv i m s H->
  ((Itt K a).stop i H/\Z.nx s H)\/((Itt K a).go i H/\∃P:Sg->Hp->Prop,(∀s' H',P s' H'->∃m',m'<m/\Wv (i+1) m' s' H')/\∀x H',(Itt K a).yld i H x H'->TDG K t x s H' λs2 H2=>TDS K Wx body {Z with nx:=P,ct:=P,bk:=Z.nx} s2 H2):=by
 refine for_tup (K:=K) (a:=a) (xs:=vs) (λi s H=>∃m r h,Gr K m0 H0 m H/\Wd K m h H/\RSt K m H r s/\OutS K Wx m H Z (forS t body (ds.drop i) r h))
  ⟨m0,r0,h0,.refl,w,st,e⟩ (λi s H _ ⟨m,r,h,g,_⟩=>g.tup _ _ hq) ?_ ?_
 ·rintro i x s H hi ⟨m,r,h,g,w1,st1,e1⟩
  obtain⟨d,hd,rd⟩:=q.getV hi
  have ed:ds.drop i=d::ds.drop (i+1):=by
   obtain⟨hl,z⟩:=List.getElem?_eq_some_iff.mp hd
   rw[<- z];exact List.drop_eq_getElem_cons hl
  rw[ed] at e1
  exact turnS w1 st1 (rd.mono g) e1 λm2 H2 r2 h2 s2 g2 w2 st2 e2=>⟨m2,r2,h2,g.trans g2,w2,st2,e2⟩
 ·rintro s H ⟨m,r,h,g,w1,st1,e1⟩
  rw[<- q.length,List.drop_length] at e1
  exact e1 m H .refl w1 s st1
theorem for_rngD{t:Tg}{body:Ev->Hh->Rs Fl}{Z:Ends}{m0:List Addr}{H0:Hp}{h0:Hh}{lo hi:Int}{r0:Ev}{s0:Sg}
 (w:Wd K m0 h0 H0)(st:RSt K m0 H0 r0 s0)(e:OutS K Wx m0 H0 Z (forS t body (rngD lo hi) r0 h0)):
 ∃Wv:Nat->Nat->Sg->Hp->Prop,(∃m,Wv 0 m s0 H0)/\∀i m s H,Wv i m s H->
  ((Itr lo (hi-lo).toNat).stop i H/\Z.nx s H)\/((Itr lo (hi-lo).toNat).go i H/\∃P:Sg->Hp->Prop,(∀s' H',P s' H'->∃m',m'<m/\Wv (i+1) m' s' H')/\∀x H',(Itr lo (hi-lo).toNat).yld i H x H'->TDG K t x s H' λs2 H2=>TDS K Wx body {Z with nx:=P,ct:=P,bk:=Z.nx} s2 H2):=by
 refine zzx (lo:=lo) (n:=(hi-lo).toNat) (λi s H=>∃m r h,Gr K m0 H0 m H/\Wd K m h H/\RSt K m H r s/\OutS K Wx m H Z (forS t body ((rngD lo hi).drop i) r h))
  ⟨m0,r0,h0,.refl,w,st,e⟩ ?_ ?_
 ·rintro i s H hi' ⟨m,r,h,g,w1,st1,e1⟩
  have hd:(rngD lo hi)[i]? =some (D.int (lo+i)):=by
   unfold rngD
   rw[List.getElem?_map,List.getElem?_range hi']
   rfl
  have ed:(rngD lo hi).drop i=D.int (lo+i)::(rngD lo hi).drop (i+1):=by
   obtain⟨hl,z⟩:=List.getElem?_eq_some_iff.mp hd
   rw[<- z];exact List.drop_eq_getElem_cons hl
  rw[ed] at e1
  exact turnS w1 st1 (.int _) e1 λm2 H2 r2 h2 s2 g2 w2 st2 e2=>⟨m2,r2,h2,g.trans g2,w2,st2,e2⟩
 ·rintro s H ⟨m,r,h,g,w1,st1,e1⟩
  have hl:(rngD lo hi).length=(hi-lo).toNat:=by unfold rngD;simp
  rw[<- hl,List.drop_length] at e1
  exact e1 m H .refl w1 s st1
theorem for_lstD{t:Tg}{body:Ev->Hh->Rs Fl}{Z:Ends}{m0:List Addr}{H0:Hp}{h0:Hh}{n:Nat}{r0:Ev}{s0:Sg}{a:Addr}
 (w:Wd K m0 h0 H0)(st:RSt K m0 H0 r0 s0)(ha:m0[n]? =some a)(e:OutS K Wx m0 H0 Z (forI t body n W 0 r0 h0)):
 ∃Wv:Nat->Nat->Sg->Hp->Prop,(∃m,Wv 0 m s0 H0)/\∀i m s H,Wv i m s H->
  ((Itl K a).stop i H/\Z.nx s H)\/((Itl K a).go i H/\∃P:Sg->Hp->Prop,(∀s' H',P s' H'->∃m',m'<m/\Wv (i+1) m' s' H')/\∀x H',(Itl K a).yld i H x H'->TDG K t x s H' λs2 H2=>TDS K Wx body {Z with nx:=P,ct:=P,bk:=Z.nx} s2 H2):=by
 refine⟨λi k s H=>∃m r h,Gr K m0 H0 m H/\Wd K m h H/\RSt K m H r s/\OutS K Wx m H Z (forI t body n k i r h),⟨W,m0,r0,h0,.refl,w,st,e⟩,?_⟩
 rintro i k s H ⟨m,r,h,g,w1,st1,e1⟩
 cases k with
 |zero=>exact e1.elim
 |succ k=>
  simp only[forI] at e1
  split at e1
  ·exact e1.elim
  ·rename_i l el
   obtain⟨a',vs,ha',hq,q⟩:=w1.lst el
   have:=g.pre _ _ ha
   rw[this] at ha';cases ha'
   split at e1
   ·rename_i en
    refine .inl ⟨⟨vs,hq,?_⟩,e1 m H .refl w1 s st1⟩
    rw[<- q.length];exact List.getElem?_eq_none_iff.mp en
   ·rename_i d ed
    obtain⟨v,hv,rd⟩:=q.get ed
    refine .inr ⟨⟨vs,v,hq,hv⟩,λs' H'=>∃m r h,Gr K m0 H0 m H'/\Wd K m h H'/\RSt K m H' r s'/\OutS K Wx m H' Z (forI t body n k (i+1) r h),λs' H' p=>⟨k,Nat.lt_succ_self _,p⟩,λx H' y=>?_⟩
    obtain⟨rfl,y⟩:=y
    have hx:=y vs hq
    rw[hv] at hx;cases hx
    split at e1
    ·exact e1.elim
    ·rename_i r2 er
     exact⟨m,h,r,d,r2,w1,st1,rd,er,λs2 st2=>⟨m,r2,h,w1,st2,OutS.body (next:=forI t body n k (i+1)) e1 λm' H' h' r s g' w' st' e'=>⟨m',r,h',g.trans g',w',st',e'⟩⟩⟩
theorem whileD{f:Ev->Hh->Rs D}{body:Ev->Hh->Rs Fl}{Z:Ends}{m0:List Addr}{H0:Hp}{h0:Hh}{r0:Ev}{s0:Sg}
 (w:Wd K m0 h0 H0)(st:RSt K m0 H0 r0 s0)(e:OutS K Wx m0 H0 Z (whileF f body W r0 h0)):tWhile (TDT K f) (TDS K Wx body) Z s0 H0:=by
 refine⟨λk s H=>∃m r h,Gr K m0 H0 m H/\Wd K m h H/\RSt K m H r s/\OutS K Wx m H Z (whileF f body k r h),⟨W,m0,r0,h0,.refl,w,st,e⟩,?_⟩
 rintro k s H ⟨m,r,h,g,w1,st1,e1⟩
 cases k with
 |zero=>exact e1.elim
 |succ k=>
  simp only[whileF] at e1
  obtain⟨x,h1,ex,e1⟩:=e1.nx
  split at e1
  ·exact e1.elim
  ·rename_i et
   exact⟨m,r,h,x,h1,false,w1,st1,ex,et,λm' H' g' w'=>iteF (e1 m' H' g' w' s (st1.mono g'))⟩
  ·rename_i et
   exact⟨m,r,h,x,h1,true,w1,st1,ex,et,λm' H' g' w'=>iteT ⟨λs' H'=>∃m r h,Gr K m0 H0 m H'/\Wd K m h H'/\RSt K m H' r s'/\OutS K Wx m H' Z (whileF f body k r h),λs' H' p=>⟨k,Nat.lt_succ_self _,p⟩,
    m',r,h1,w',st1.mono g',OutS.body (next:=whileF f body k) (e1.mono g') λm3 H3 h3 r s g3 w3 st' e'=>⟨m3,r,h3,(g.trans g').trans g3,w3,st',e'⟩⟩⟩
end
end Ng
end
section
namespace Ng
open PySem PySem.Spec PyProof.Rows L2
section
variable {X:Cx}{ca:Nat->Addr}{Wx:Ws}
end
section
variable {X:Cx}{N:List Str}{sc:Scope}{G:Gs}{ca:Nat->Addr}{cl:Cl}{Wx:Ws}{rz:Bool}
theorem TDS.one{K:PySem.W.Frag}{fa:Ev->Hh->Rs D}{f:Ev->Hh->Rs Fl}{k:Ev->D->Hh->Rs Fl}{s:Sg}{H:Hp}{Z:Ends}{R:VK}(hf:∀r h,f r h=(fa r h).nx.bind (k r))(q:TDS K Wx f Z s H)
 (c:∀(m2:List Addr)(r:Ev)(h2:Hh)(H2:Hp)(dx:D)(x:V),Wd K m2 h2 H2->RSt K m2 H2 r s->RD K m2 H2 dx x->OutS K Wx m2 H2 Z (k r dx h2)->R x H2):TDE K fa s H R:=by
 obtain⟨m,r,h,w,st,o⟩:=q
 rw[hf] at o
 obtain⟨dx,h1,e1,o⟩:=o.nx
 exact⟨m,r,h,dx,h1,w,st,e1,λm1 x H1 g1 w1 rx=>c m1 r h1 H1 dx x w1 (st.mono g1) rx (o.mono g1)⟩
end
section
variable {X:Cx}{N:List Str}{sc:Scope}{G:Gs}{ca:Nat->Addr}{cl:Cl}{e:Addr}{oe:Obj}{c:Nat}
def hslot(N:List Str)(e:Addr)(n:Option Str)(σ:Sg):Prop:=∀x,n=some x->∃j:Nat,N[j]? =some x/\σ[j]? =some (some (.ref e))
end
end Ng
end
section
namespace Ng
open PySem PySem.Spec PyProof.Rows L2
theorem qzw{env:Env}{v:PySem.Expr}{t:Option PySem.Expr}{l:Nat}(h:noComp v=true):swapsWith v t l env=pure false:=by
 cases v<;>first |rfl|(cases h;done)
theorem qzx{env:Env}{v tg:PySem.Expr}{l:Nat}(h:noComp v=true):swapsWithSole [tg] v l env=pure false:=qzw (t:=some tg) h
section
variable {X:Cx}{N:List Str}{sc:Scope}{G:Gs}{ca:Nat->Addr}{cl:Cl}{e:Addr}{oe:Obj}{c:Nat}
def HS.ix:HS->Nat
 |.bl i _=>i
 |.cst i _=>i
 |.ifc _ i _=>i
end
section
variable {X:Cx}{pins pins':List (Addr×Obj)}{E:Value->Shared->Prop}{σ:Sg}{H:Hp}{s:Shared}
end
section
variable {X:Cx}{N:List Str}{sc:Scope}{G:Gs}{ca:Nat->Addr}{cl:Cl}{Wx:Ws}{rz:Bool}
end
end Ng
end
section
namespace Ng
open PySem PySem.Spec PyProof.Rows L2
section
variable {X:Cx}
def gSt(K:PySem.W.Frag):TSet:=λo i v H Q=>∃m h x y z h',Wd K m h H/\RD K m H x o/\RD K m H y i/\RD K m H z v/\stxD x y z h=.ok () h'/\∀m' H',Gr K m H m' H'->Wd K m' h' H'->Q H'
theorem setD(hr:∃k,Room k X.A):PSet X (gSt X.K):=by
 intro pins s σ H o i v ov iv u Q I ro ri rv ⟨m,h,x,y,z,h',w,r1,r2,r3,e,c⟩
 cases r1<;>first |(cases e;done)|skip
 rename_i n a ha
 simp only[stxD] at e
 split at e
 ·rename_i l el
  unfold stxL at e
  cases r2<;>first |(cases e;done)|skip
  rename_i k
  simp only at e
  split at e
  ·rename_i j ej
   cases e
   obtain⟨vs,hv,rvs⟩:∃vs,H a=some (.lst vs)/\RDs X.K m H l vs:=w.ob n _ a el ha
   obtain⟨_,w4,g4⟩:=w.lstSet el ha (rvs.set r3 j)
   exact set_list pins s σ H _ _ v ov iv u Q I ro ri rv ⟨a,vs,k,j,rfl,rfl,hv,by rw[<- rvs.length];exact ej,c m _ g4 w4⟩
  ·cases e
 ·rename_i l el
  obtain⟨us,k,q1,rfl,q3,w3,g3⟩:=zzG w ha r2 r3 e
  cases ro
  obtain⟨kk,hr⟩:=hr
  have hun:=hr.units
  exact zzJ (by omega) I (DPut.k q1 (by have:(1000:Nat)<=sizeLine:=by decide
                                        omega)) ri rv λs' I'=>⟨_,I',c m _ g3 w3⟩
 ·rename_i l el
  unfold dputT at e
  cases r2<;>first |(cases e;done)|skip
  rename_i b ds vs hq q
  simp only at e
  split at e
  ·rename_i k ek
   split at e
   ·rename_i hl
    cases e
    obtain⟨kk,hr⟩:=hr
    have hun:=hr.units
    cases ro;cases ri
    have ev:=vzs q ek
    subst ev
    exact dtt_put (by omega) I w el ha hl hq r3 rv λs' H' I' g' w'=>⟨_,I',c m _ g' w'⟩
   ·cases e
  ·cases e
 ·cases e
end
def SS(N:List Str)(sc:Scope)(G:Gs)(c:S)(e:PySem.Stmt):Prop:=∀{X:Cx}{ca:Nat->Addr}{cl:Cl}{W:Nat}{Wx:Ws}{rz:Bool},XOk X N sc->GOk X G ca cl->(∀x,X.fn x=true)->XX X ca Wx rz->(rz=true\/noRs c=true)->PS X e (TDS X.K Wx (xs G cl W c))
def SSs(N:List Str)(sc:Scope)(G:Gs)(c:Ss)(e:List PySem.Stmt):Prop:=∀{X:Cx}{ca:Nat->Addr}{cl:Cl}{W:Nat}{Wx:Ws}{rz:Bool},XOk X N sc->GOk X G ca cl->(∀x,X.fn x=true)->XX X ca Wx rz->(rz=true\/noRss c=true)->PSs X e (TDS X.K Wx (xss G cl W c))
section
variable {N:List Str}{sc:Scope}{G:Gs}
theorem jzk{i:Nat}{a:E}{x:Str}{px pos:Pos}{v:PySem.Expr}(h1:N[i]? =some x)(h2:locB sc x=true)(h3:noComp v=true)(h_a:SE N sc G a v):SS N sc G (.asg (.nm i) a) (.Assign [.Name x px] v pos):=λ{X ca cl W Wx rz} xo go hfn xx hz=>by
 refine(ps_set (i:=i) xo.nd (by rw[xo.n];exact h1) (by rw[xo.s];exact qz9 h2) (h_a xo go).1 (qzw h3) (.inl (hfn x))).wk λZ s H q=>?_
 refine TDS.one (λr h=>by rw[xs]) q λm2 r h2 H2 dx y w2 st2 rx o=>?_
 exact o m2 H2 .refl w2 _ (st2.set i rx)
theorem qzf{l:List Nat}{a:E}{es:List PySem.Expr}{k:Nat}{px pos:Pos}{v:PySem.Expr}(h1:chkNs N sc l es=true)(h3:noComp v=true)(hw:∀env,swappedStores [.Tuple es k px] v env=pure none)(h_a:SE N sc G a v):SS N sc G (.asg (.tp l) a) (.Assign [.Tuple es k px] v pos):=λ{X ca cl W Wx rz} xo go hfn xx hz=>by
 refine(ps_asg (h_a xo go).1 (pgT xo hfn (t:=.tp l) (tg:=.Tuple es k px) h1) (qzx h3) (hw X.env) rfl).wk λZ s H q=>?_
 refine TDS.one (λr h=>by rw[xs]) q λm2 r h2 H2 dx y w2 st2 rx o=>?_
 split at o
 ·rename_i r1 er
  exact⟨m2,_,r,dx,r1,w2,st2,rx,er,λs' st'=>o m2 H2 .refl w2 s' st'⟩
 ·exact o.elim
theorem vzi{X:Cx}(xo:XOk X N sc){y:Str}{py pos:Pos}{scope:Scope}(hk:(sc.kind== .function)=true)(h2:sc.names.lookup y=some .local)(h4:(py.line==pos.line&& !(scope.names.any λ(n,k)=>n==y&&(k== .local||k== .cell)))=true):
 (pure (X.env.blockKind== .function&&X.env.kindOf y==some .local&&py.line==pos.line&& !(scope.names.any λ(n,k)=>n==y&&(k== .local||k== .cell))):Sem Bool)=pure true:=by
 have hb:X.env.blockKind=.function:=by
  unfold Env.blockKind
  rw[xo.s,eq_of_beq hk]
  rfl
 have hy:X.env.kindOf y=some .local:=by show X.env.scope.names.lookup y=_;rw[xo.s];exact h2
 rw[hb,hy]
 rw[Bool.and_assoc,h4]
 rfl
theorem dS_asc{i:Nat}{t:Tg}{k:Ck}{it cs:Es}{e:E}{N':List Str}{cap:List Nat}{elt tg iter:PySem.Expr}{ifs:List PySem.Expr}{scope:Scope}{y:Str}{py pos spos:Pos}(h1:N[i]? =some y)(hk:(sc.kind== .function)=true)(h2:sc.names.lookup y=some .local)(h4:(py.line==pos.line&& !(scope.names.any λ(n,k)=>n==y&&(k== .local||k== .cell)))=true)
 (B:Blk N sc N' cap scope)(ns:noSet iter=true)(ht:chkT' N' scope t tg=true)(hi:SIt N sc G k it iter)(hc:SBs N' (relab scope sc) G cs ifs)(he:SE N' (relab scope sc) G e elt)(tk:tgOk k tg=true:=by rfl):SS N sc G (.asc i (.comp t k it cs e N' cap)) (.Assign [.Name y py] (.ListComp elt [⟨tg,iter,ifs,0⟩] scope pos) spos):=λ{X ca cl W Wx rz} xo go hfn xx hz=>by
 refine(comp_ps (i:=i) xo B.S B.capL B.nN B.fr (vzu B ht hc he xo go) ns (comp_w (cl:=cl) hi tk xo go) h1 h2 (vzi xo hk h2 h4)).wk λZ s H q=>?_
 refine TDS.one (λr h=>by rw[xs]) q λm2 r h2 H2 dx y w2 st2 rx o=>?_
 exact o m2 H2 .refl w2 _ (st2.set i rx)
theorem dS_ascD{i:Nat}{t1:Tg}{i1:E}{t2:Tg}{i2 k v:E}{N':List Str}{cap:List Nat}{kx vx tg1 iter1 tg2 iter2:PySem.Expr}{scope:Scope}{y:Str}{py pos spos:Pos}(h1:N[i]? =some y)(hk:(sc.kind== .function)=true)(h2:sc.names.lookup y=some .local)(h4:(py.line==pos.line&& !(scope.names.any λ(n,k)=>n==y&&(k== .local||k== .cell)))=true)
 (B:Blk N sc N' cap scope)(ns1:noSet iter1=true)(ns2:noSet iter2=true)(ht1:chkT' N' scope t1 tg1=true)(ht2:chkT' N' scope t2 tg2=true)(h_i1:SE N sc G i1 iter1)(h_i2:SE N' (relab scope sc) G i2 iter2)(h_k:SE N' (relab scope sc) G k kx)(h_v:SE N' (relab scope sc) G v vx):
 SS N sc G (.asc i (.dcomp t1 i1 t2 i2 k v N' cap)) (.Assign [.Name y py] (.DictComp kx vx [⟨tg1,iter1,[],0⟩,⟨tg2,iter2,[],0⟩] scope pos) spos):=λ{X ca cl W Wx rz} xo go hfn xx hz=>by
 refine(dcomp_ps (i:=i) (f:=ev G cl (.dcomp t1 i1 t2 i2 k v N' cap)) xo B.S B.capL B.nN B.fr (dc_blk B ht1 ht2 h_i2 h_k h_v xo go) ns1 ns2 (h_i1 xo go).1 (λr h=>by rw[ev]) h1 h2 (vzi xo hk h2 h4)).wk λZ s H q=>?_
 refine TDS.one (λr h=>by rw[xs]) q λm2 r h2 H2 dx y w2 st2 rx o=>?_
 exact o m2 H2 .refl w2 _ (st2.set i rx)
theorem dS_ex{a:E}{v:PySem.Expr}{pos:Pos}(h3:noComp v=true)(h_a:SE N sc G a v):SS N sc G (.ex a) (.Expr v pos):=λ{X ca cl W Wx rz} xo go hfn xx hz=>by
 refine(ps_expr (h_a xo go).1 (qzw h3)).wk λZ s H q=>?_
 refine TDS.one (λr h=>by rw[xs]) q λm2 r h2 H2 dx y w2 st2 rx o=>?_
 exact o m2 H2 .refl w2 _ st2
theorem jzr{a:E}{v:PySem.Expr}{pos:Pos}(h_a:SE N sc G a v):SS N sc G (.ret a) (.Return (some v) pos):=λ{X ca cl W Wx rz} xo go hfn xx hz=>by
 refine(ps_ret (h_a xo go).1).wk λZ s H q=>?_
 refine TDS.one (λr h=>by rw[xs]) q λm2 r h2 H2 dx y w2 st2 rx o=>?_
 exact o m2 H2 .refl w2 _ rx
theorem jzv{a:E}{b1 b2:Ss}{t:PySem.Expr}{x y:List PySem.Stmt}{pos:Pos}(h_a:SE N sc G a t)(h_b1:SSs N sc G b1 x)(h_b2:SSs N sc G b2 y):SS N sc G (.iff a b1 b2) (.If t x y pos):=λ{X ca cl W Wx rz} xo go hfn xx hz=>by
 have hz':(rz=true\/noRss b1=true)/\(rz=true\/noRss b2=true):=by
  rcases hz with z|z
  ·exact⟨.inl z,.inl z⟩
  ·have z':(noRss b1&&noRss b2)=true:=z
   rw[Bool.and_eq_true] at z'
   exact⟨.inr z'.1,.inr z'.2⟩
 refine(ps_if ((h_a xo go).2) (h_b1 (W:=W) xo go hfn xx hz'.1) (h_b2 (W:=W) xo go hfn xx hz'.2)).wk λZ s H ⟨m,r,hh,w,st,o⟩=>?_
 rw[xs] at o
 obtain⟨dx,h1,e0,o⟩:=o.nx
 split at o
 ·rename_i et
  exact⟨m,r,hh,dx,h1,true,w,st,e0,et,λm' H' g w'=>iteT ⟨m',r,h1,w',st.mono g,o.mono g⟩⟩
 ·rename_i et
  exact⟨m,r,hh,dx,h1,false,w,st,e0,et,λm' H' g w'=>iteF ⟨m',r,h1,w',st.mono g,o.mono g⟩⟩
 ·exact o.elim
theorem wz5{t:Tg}{a:E}{b:Ss}{tg y:PySem.Expr}{x:List PySem.Stmt}{p pos' pos:Pos}(h1:chkT N sc t tg=true)(h6:glB sc "range"=true)(h7:noStar y=true)(h_a:SE N sc G a y)(h_b:SSs N sc G b x):SS N sc G (.forr t (.r1 a) b) (.For tg (.Call (.Name "range" p) [y] [] pos') x [] pos):=λ{X ca cl W Wx rz} xo go hfn xx hz=>by
 have hs:∀z,foldedSetIterable (.Call (.Name "range" p) [y] [] pos') X.env z=pure z:=λz=>rfl
 have hA:PA X [y] (tCons (TDE X.K (ev G cl a)) tNil):=qza (h_a xo go).1 qzP (jzn [] h7)
 refine(wzt xo.po xo.calm (wzu (qzl xo h6) xo.rng hA (jzn [] h7)) (pgT xo hfn h1) (h_b (W:=W) xo go hfn xx hz) hs).wk λZ s H q=>?_
 refine TDS.one (λr h=>by rw[xs]) q λm2 r h2 H2 dx y w2 st2 rx o=>?_
 cases rx<;>first |exact o.elim|skip
 rename_i j
 simp only at o
 split at o
 ·rename_i ho
  refine⟨j,rfl,ho.1,ho.2,?_⟩
  have:=for_rngD (lo:=0) (hi:=j) w2 st2 o
  simpa using this
 ·exact o.elim
theorem jzX{t:Tg}{a:E}{b:Ss}{tg it:PySem.Expr}{x:List PySem.Stmt}{pos:Pos}(h1:chkT N sc t tg=true)(hs':∀env z,foldedSetIterable it env z=pure z)(h_a:SE N sc G a it)(h_b:SSs N sc G b x):SS N sc G (.forr t (.sq a) b) (.For tg it x [] pos):=λ{X ca cl W Wx rz} xo go hfn xx hz=>by
 have hs:=hs' X.env
 have hp:=(h_a xo go).1
 have p1:=wzt xo.po xo.calm (wzV hp) (pgT xo hfn h1) (h_b (W:=W) xo go hfn xx hz) hs (pos:=pos)
 have p2:=wzt xo.po xo.calm (zza hp) (pgT xo hfn h1) (h_b (W:=W) xo go hfn xx hz) hs (pos:=pos)
 intro pins s σ H Z I ⟨m,r,hh,w,st,o⟩
 rw[xs] at o
 obtain⟨dx,h5,e0,o⟩:=o.nx
 have mk:∀(R:VK),(∀(m2:List Addr)(H2:Hp)(y:V),Gr X.K m H m2 H2->Wd X.K m2 h5 H2->RD X.K m2 H2 dx y->R y H2)->TDE X.K (ev G cl a) σ H R:=λR k=>⟨m,r,hh,dx,h5,w,st,e0,λm2 y H2 g2 w2 ry=>k m2 H2 y g2 w2 ry⟩
 cases dx<;>first |exact o.elim|skip
 ·refine p2 pins s σ H Z I (mk _ λm2 H2 y g2 w2 ry=>?_)
  cases ry with
  |tup hq q'=>exact⟨_,rfl,⟨_,hq⟩,for_tupD w2 (st.mono g2) hq q' (OutS.mono g2 o)⟩
 ·rename_i n
  refine p1 pins s σ H Z I (mk _ λm2 H2 y g2 w2 ry=>?_)
  cases ry with
  |ref ha=>
   have hl:∃l,lstAt h5 n=some l:=by
    cases W with
    |zero=>exact o.elim
    |succ k=>
     simp only[forD,forI] at o
     split at o
     ·exact o.elim
     ·rename_i l el
      exact⟨l,el⟩
   obtain⟨l,hl⟩:=hl
   obtain⟨a',vs,ha',hq,_⟩:=w2.lst hl
   rw[ha] at ha';cases ha'
   exact⟨_,rfl,⟨_,hq⟩,for_lstD (W:=W) w2 (st.mono g2) ha (OutS.mono g2 o)⟩
theorem zzL{a:E}{b:Ss}{t:PySem.Expr}{x:List PySem.Stmt}{pos:Pos}(h_a:SE N sc G a t)(h_b:SSs N sc G b x):SS N sc G (.whl a b) (.While t x [] pos):=λ{X ca cl W Wx rz} xo go hfn xx hz=>by
 refine(ps_while xo.po (h_a xo go).2 (h_b (W:=W) xo go hfn xx hz)).wk λZ s H ⟨m,r,hh,w,st,o⟩=>?_
 rw[xs] at o
 exact whileD w st o
def PlainSt(o i:PySem.Expr)(pos:Pos):Prop:=∀(env:Env)(v:Value),assign (.Subscript o i pos) env v=(do
 let ov <- holding [v] (eval o env)
 let iv <- holding [v,ov] (eval i env)
 standAt pos
 holding [v,ov,iv] (setItem ov iv v)
 release [v,ov,iv] [])
theorem wzC{o i a:E}{x y v:PySem.Expr}{px pos:Pos}(h1:noComp v=true)(hy:PlainSt x y px)(h_a:SE N sc G a v)(h_o:SE N sc G o x)(h_i:SE N sc G i y):SS N sc G (.stx o i a) (.Assign [.Subscript x y px] v pos):=λ{X ca cl W Wx rz} xo go hfn xx hz=>by
 refine(ps_asg ((h_a xo go).1) (pg_sub ((h_o xo go).1) ((h_i xo go).1) (setD xo.room) (λv=>hy X.env v)) (qzx h1) rfl rfl).wk λZ s H q=>?_
 refine TDS.one (λr h=>by rw[xs]) q λm2 r h2 H2 dz z w2 st2 rdz o=>?_
 obtain⟨dx,h6,e6,o⟩:=o.nx
 obtain⟨dy,h7,e7,o⟩:=o.nx
 obtain⟨_,h8,e8,o⟩:=o.nx
 exact⟨m2,r,h2,dx,h6,w2,st2,e6,λm3 x' H3 g3 w3 rx=>⟨m3,r,h6,dy,h7,w3,st2.mono g3,e7,λm4 y' H4 g4 w4 ry=>⟨m4,h7,dx,dy,dz,h8,w4,rx.mono g4,ry,rdz.mono (g3.trans g4),e8,λm5 H5 g5 w5=>o m5 H5 ((g3.trans g4).trans g5) w5 s (st2.mono ((g3.trans g4).trans g5))⟩⟩⟩
theorem jzg:SSs N sc G .nil []:=λ{X ca cl W Wx rz} xo go hfn xx hz=>(pss_nil).wk λZ s H ⟨m,r,hh,w,st,o⟩=>by
 rw[xss] at o
 exact o m H .refl w s st
theorem jzc{a:S}{l:Ss}{x:PySem.Stmt}{xs':List PySem.Stmt}(h_a:SS N sc G a x)(h_l:SSs N sc G l xs'):SSs N sc G (.cons a l) (x::xs'):=λ{X ca cl W Wx rz} xo go hfn xx hz=>by
 have hz':(rz=true\/noRs a=true)/\(rz=true\/noRss l=true):=by
  rcases hz with z|z
  ·exact⟨.inl z,.inl z⟩
  ·have z':(noRs a&&noRss l)=true:=z
   rw[Bool.and_eq_true] at z'
   exact⟨.inr z'.1,.inr z'.2⟩
 refine(pss_cons (h_a (W:=W) xo go hfn xx hz'.1) (h_l (W:=W) xo go hfn xx hz'.2)).wk λZ s H ⟨m,r,hh,w,st,o⟩=>?_
 rw[xss] at o
 refine⟨m,r,hh,w,st,?_⟩
 cases ho:xs G cl W a r hh with
 |bad=>rw[ho] at o;exact o
 |exc c rr h1=>rw[ho] at o;exact o
 |ok f h1=>
  rw[ho] at o
  intro m1 H1 g1 w1
  have o':=OutS.mono g1 o
  cases f with
  |nx r2=>exact λs' st'=>⟨m1,r2,h1,w1,st',o'⟩
  |rt d=>exact o' m1 H1 .refl w1
  |bk r2=>exact o' m1 H1 .refl w1
  |ct r2=>exact o' m1 H1 .refl w1
end
end Ng
end
section
namespace Ng
open PySem PySem.Spec PyProof.Rows L2
section
variable {N:List Str}{sc:Scope}{G:Gs}
end
end Ng
end
section
namespace Ng
open PySem PySem.Spec PyProof.Rows L2
def Itk(d:Addr)(o:Obj)(u:HO)(ks:List (V×V)):It:=
 ⟨λi H=>H d=some (.frz o u)/\i<ks.length,λi H x H'=>∃p k v,H p=none/\ks[i]? =some (k,v)/\x=.ref p/\H'=upd H p (.tup [k,v]),λi H=>H d=some (.frz o u)/\ks.length<=i⟩
theorem turn_itk{P:Program}{w:World}{K:PySem.W.Frag}{elts:List PySem.Expr}{x1:Nat}{pos:Pos}{d it:Addr}{o:Obj}{u:HO}{es:Array DictEntry}{ep:Nat}{ks:List (V×V)}(ho:o.data=.dict es ep)(hn:es.size=ks.length)(hk:∀(i:Nat) k v,ks[i]? =some (k,v)->∃en,es[i]? =some en/\RelV k en.key/\RelV v en.val):
 Turn P w K (.Tuple elts x1 pos) (Itk d o u ks) [it] it (λi h=>∃q1 q2,IsItemIter h it d i ks.length ep q1 q2) where
 mem:=by simp
 obj:=λi h st b hb=>by
  have e:b=it:=by simpa using hb
  subst e
  obtain⟨q1,q2,e⟩:=st
  exact⟨_,e,λv z=>nomatch z⟩
 keep:=λi h h' ⟨q1,q2,e⟩ k=>⟨q1,q2,k it (by simp) _ e⟩
 item:=by
  intro X hP hw hK hc i pins s σ H E I hf st hg
  subst hP hw hK
  obtain⟨q1,q2,st⟩:=st
  obtain⟨hd,hi⟩:=hg
  obtain⟨f0,f1,f2,f3,f4,f5⟩:=hf it (by simp)
  obtain⟨⟨k,v⟩,hkv⟩:∃p,ks[i]? =some p:=⟨_,List.getElem?_eq_getElem hi⟩
  obtain⟨en,e1,e2,e3⟩:=hk i k v hkv
  have od:s.heap.get? d=some o:=(show ObjOk X.prog X.w H s.heap d (.frz o u) from I.hok d _ hd).1
  have il:it<s.heap.objs.size:=Heap.lt_size st
  refine itm_next st od ho hn e1 λg h1 h2 h3 h4=>⟨.ref s.heap.objs.size,rfl,?_⟩
  refine wpAny_letOwnedTupleGo_items h1 λg2 h5 h6=>?_
  have hp:H s.heap.objs.size=none:=I.hok.fresh (Nat.le_refl _)
  have I1:Inv X pins σ (upd H s.heap.objs.size (.tup [k,v])) {s with heap:=s.heap.push {cls:=.type "tuple",data:=.seq #[en.key,en.val]}}:=
   I.laid (t':=s.toks) (o:=.tup [k,v]) (λb u q=>Heap.get?_push_of_some _ q) (Nat.le_refl _) ⟨by show 2<=sizeLine;decide,[en.key,en.val],.cons e2 (.cons e3 .nil),IsTup.new _ _⟩
  have ne:it≠s.heap.objs.size:=Nat.ne_of_lt il
  have I2:Inv X pins σ (upd H s.heap.objs.size (.tup [k,v])) {s with heap:=g2}:=L2.Inv.turned (s:={s with heap:=s.heap.push {cls:=.type "tuple",data:=.seq #[en.key,en.val]}}) (h':=g2) (t':=s.toks) (it:=it) I1 (λb u hb q=>by
   have q0:(s.heap.push {cls:=.type "tuple",data:=.seq #[en.key,en.val]}).get? b=some u:=q
   by_cases z:b=s.heap.objs.size
   ·subst z
    have q':some {cls:=.type "tuple",data:=.seq #[en.key,en.val]}=some u:=(Heap.get?_push_size s.heap rfl).symm.trans q0
    rw[<- q']
    exact h6.extBut _ _ hb h2
   ·rw[Heap.get?_push_ne _ _ _ z] at q0
    exact h6.extBut b u hb (h4 b u hb q0)) (by rw[jzi ne];exact f0) f1 f3 f4 f5
  exact⟨.ref s.heap.objs.size,_,I2,rfl,⟨_,k,v,hp,hkv,rfl,rfl⟩,⟨_,_,h5⟩,λb hb=>by
   have e:b=it:=by simpa using hb
   subst e
   rw[jzi ne];exact f0⟩
 done:=by
  intro X hP hw hK hc i pins s σ H E I hf st hg
  subst hP hw hK
  obtain⟨q1,q2,st⟩:=st
  obtain⟨hd,hi⟩:=hg
  obtain⟨f0,f1,f2,f3,f4,f5⟩:=hf it (by simp)
  have od:s.heap.get? d=some o:=(show ObjOk X.prog X.w H s.heap d (.frz o u) from I.hok d _ hd).1
  exact itm_end (I.ok.hd hc) st od ho hn hi λg eb=>⟨rfl,I.turned (t':=s.toks) (λb o hb e=>eb b o hb e) f0 f1 f3 f4 f5⟩
 self:=λ_ _ _ _ _ ⟨q1,q2,st⟩ h=>PySem.W.kcp_self st h
section
variable {X:Cx}{elts:List PySem.Expr}{x1:Nat}{tp:Pos}
def iItk(X:Cx)(tl:TE):TI:=λσ H R=>tl σ H λx H1=>∃d kvs u,x=.ref d/\H1 d=some (.dK kvs)/\(u=.own d\/u=.dK kvs)/\∀o,(∀o' u',X.H₀ d≠some (.frz o' u'))->R (Itk d o u (kvs.map λp=>(kV p.1,p.2))) (upd H1 d (.frz o u))
theorem pi_itk{l:PySem.Expr}{ap cp:Pos}{tl:TE}(hb:∀env:Env,attributeBase l "items" env (eval l env)=eval l env)(h2:(ap.endLine==cp.line)=true)(hl:PE X l tl):PI X (.Tuple elts x1 tp) (.Call (.Attribute l "items" ap) [] [] cp) (iItk X tl):=by
 intro pins s σ H R I h
 refine wpAny_Call_method0_late (hb X.env) h2 (thn (hl pins s σ H _ I h) λu s1 ⟨v,H1,I1,rv,q⟩=>?_)
 obtain⟨d,kvs,u,rfl,hH,hu,q⟩:=q
 cases rv
 obtain⟨z,hs,vs,rel,o,es,ep,d3,d4,d5,d6,d7,d8⟩:=dk_of I1.hok hH
 have ty:s1.TypeIs (.ref d) "dict":=⟨o,d3,d4.1⟩
 refine⟨"dict","dict.items",PySem.F.plainAttrs_dict,PySem.F.slot_dict_items,PySem.F.type_dict_items,ty,λb q=>by cases q;exact⟨o,d3,d4.2.1⟩,Calls.callWith_builtin rfl (PySem.evalArgs_none ?_)⟩
 refine call_meetsIn PySem.F.slot_dict_items ty PySem.F.entry_dict_items (PySem.F.args_dict_items_1 _) (wz0 d hs) ⟨ty,?_⟩
 have k1:∀b u,s1.heap.get? b=some u->(s1.heap.push {cls:=.type "dict_items",data:=.fields #[.ref d]}).get? b=some u:=λb u q=>Heap.get?_push_of_some _ q
 have I2:=I1.kept (t':=s1.toks) k1
 refine itm_iter (ov:={cls:=.type "dict_items",data:=.fields #[.ref d]}) (od:=o) (es:=es) (ep:=ep) (Heap.get?_push_size _ rfl) rfl rfl (k1 _ _ d3) d5 ?_
 generalize hs2:(s1.heap.push {cls:=.type "dict_items",data:=.fields #[.ref d]})=g2 at I2 k1⊢
 have d3':=k1 _ _ d3
 have k2:∀b u,g2.get? b=some u->(g2.push {cls:=.type "dict_itemiterator",data:=.fields #[.none,.bool false,.ref d,.int 0 0,.int es.size 0,.int ep 0,.none,.none]}).get? b=some u:=λb u q=>Heap.get?_push_of_some _ q
 have I3:=L2.Inv.kept (s:={s1 with heap:=g2}) (t':=s1.toks) I2 k2
 have I4:=jzW (a:=d) (ob:=.frz o u) (t':=s1.toks) I3 (by rw[hH];exact True.intro) ⟨rfl,λ_ _=>rfl⟩ ⟨o,k2 _ _ d3'⟩ ⟨k2 _ _ d3',by
  rcases hu with rfl|rfl
  ·exact⟨o,k2 _ _ d3'⟩
  ·exact⟨z,hs,vs,rel,o,es,ep,k2 _ _ d3',d4,d5,d6,d7,d8⟩⟩
 have l1:es.toList.length=vs.length:=d7.length
 have l2:=rel.length
 have esz:es.size=(kvs.map λp=>(kV p.1,p.2)).length:=by
  rw[List.length_map]
  have:es.toList.length=es.size:=Array.length_toList
  omega
 have hit:(upd H1 d (.frz o u)) g2.objs.size=none:=by
  have:=I2.hok.fresh (Nat.le_refl g2.objs.size)
  rw[jzi (Ne.symm (Nat.ne_of_lt (Heap.lt_size d3')))]
  exact this
 have ent:∀{l:List DictEntry}{ks:List (Key×V)}{ws:List (Key×Value)},Pairs (mixKind X.prog X.w) l ws->KV ks ws->∀(i:Nat) p,ks[i]? =some p->∃en,l[i]? =some en/\RelV (kV p.1) en.key/\RelV p.2 en.val:=by
  intro l
  induction l with
  |nil=>
   intro ks ws h1 h2 i p e
   cases h1;cases h2
   simp at e
  |cons en l ih=>
   intro ks ws h1 h2 i p e
   cases h1 with
   |cons c1 c2 c3=>
   cases h2 with
   |cons e1 e2=>
   cases i with
   |zero=>
    simp at e
    subst e
    refine⟨en,rfl,?_,by rw[c2];exact e1.2⟩
    rw[qzQ] at c1
    rw[e1.1]
    rcases jzy c1 with ⟨j,t,f1,f2⟩|⟨x,t,f1,f2⟩
    ·rw[f1,f2];exact⟨t,rfl⟩
    ·rw[f1,f2];exact⟨t,rfl⟩
   |succ i=>exact ih c3 e2 i p (by simpa using e)
 refine⟨g2.objs.size,[g2.objs.size],_,Itk d o u (kvs.map λp=>(kV p.1,p.2)),_,rfl,I4,turn_itk (it:=g2.objs.size) d5 esz (λi k v e=>?_),⟨.none,.none,by rw[<- esz];exact Heap.get?_push_size _ rfl⟩,λb hb=>?_,q o (λo' u' z=>by have:=I1.base.frzs d o' u' z;rw[hH] at this;cases this)⟩
 ·rw[List.getElem?_map,Option.map_eq_some_iff] at e
  obtain⟨p,ep',e⟩:=e
  obtain⟨e1,e2⟩:=Prod.mk.inj e
  subst e1 e2
  obtain⟨en,f1,f2,f3⟩:=ent d7 rel i p ep'
  exact⟨en,by rw[<- Array.getElem?_toList];exact f1,f2,f3⟩
 ·have e:b=g2.objs.size:=by simpa using hb
  subst e
  exact L2.Inv.fpOk I2 (Nat.le_refl _) hit
end
section
variable {K:PySem.W.Frag}{Wx:Ws}
theorem zzy{t:Tg}{body:Ev->Hh->Rs Fl}{Z:Ends}{m0:List Addr}{H0:Hp}{h0:Hh}{l:List (Key×D)}{kvs:List (Key×V)}{r0:Ev}{s0:Sg}{d:Addr}{o:Obj}{u:HO}
 (w:Wd K m0 h0 H0)(st:RSt K m0 H0 r0 s0)(hd:H0 d=some (.frz o u))(q1:l.map (·.1)=kvs.map (·.1))(q2:RDs K m0 H0 (l.map (·.2)) (kvs.map (·.2)))(e:OutS K Wx m0 H0 Z (forS t body (l.map λp=>D.tup [kyD p.1,p.2]) r0 h0)):
 ∃Wv:Nat->Nat->Sg->Hp->Prop,(∃m,Wv 0 m s0 H0)/\∀i m s H,Wv i m s H->
  ((Itk d o u (kvs.map λp=>(kV p.1,p.2))).stop i H/\Z.nx s H)\/((Itk d o u (kvs.map λp=>(kV p.1,p.2))).go i H/\∃P:Sg->Hp->Prop,(∀s' H',P s' H'->∃m',m'<m/\Wv (i+1) m' s' H')/\∀x H',(Itk d o u (kvs.map λp=>(kV p.1,p.2))).yld i H x H'->TDG K t x s H' λs2 H2=>TDS K Wx body {Z with nx:=P,ct:=P,bk:=Z.nx} s2 H2):=by
 have ll:l.length=kvs.length:=by have:=congrArg List.length q1;simpa using this
 let ds:List D:=l.map λp=>D.tup [kyD p.1,p.2]
 have dl:ds.length=l.length:=by simp[ds]
 refine⟨λi k s H=>k=l.length-i/\∃m r h,Gr K m0 H0 m H/\Wd K m h H/\RSt K m H r s/\OutS K Wx m H Z (forS t body (ds.drop i) r h),⟨l.length,by omega,m0,r0,h0,.refl,w,st,e⟩,?_⟩
 rintro i k s H ⟨hk,m,r,h,g,w1,st1,e1⟩
 by_cases hi:i<l.length
 ·have hkv:i<kvs.length:=by omega
  refine .inr ⟨⟨g.frz _ _ _ hd,by rw[List.length_map];exact hkv⟩,λs' H'=>∃m r h,Gr K m0 H0 m H'/\Wd K m h H'/\RSt K m H' r s'/\OutS K Wx m H' Z (forS t body (ds.drop (i+1)) r h),λs' H' hP=>⟨_,by omega,rfl,hP⟩,?_⟩
  rintro x H' ⟨p,kk,vv,y1,y2,y3,y4⟩
  rw[List.getElem?_map,List.getElem?_eq_getElem hkv] at y2
  obtain⟨z1,z2⟩:=Prod.mk.inj (Option.some.inj y2)
  subst y3 y4 z1 z2
  have gt:=Gr.tupNew (K:=K) (m:=m) (o:=.tup [kV kvs[i].1,kvs[i].2]) y1
  have rd2:RD K m0 H0 l[i].2 kvs[i].2:=by
   obtain⟨v,hv,rv⟩:=q2.get (i:=i) (d:=l[i].2) (by rw[List.getElem?_map,List.getElem?_eq_getElem hi];rfl)
   rw[List.getElem?_map,List.getElem?_eq_getElem hkv] at hv
   cases hv
   exact rv
  have ek:l[i].1=kvs[i].1:=by
   have:=congrArg (λz:List Key=>z[i]?) q1
   simp only[List.getElem?_map,List.getElem?_eq_getElem hi,List.getElem?_eq_getElem hkv] at this
   exact Option.some.inj this
  have rk:RD K m (upd H p (.tup [kV kvs[i].1,kvs[i].2])) (kyD l[i].1) (kV kvs[i].1):=by
   rw[ek]
   cases kvs[i].1 with
   |inl j=>exact .int j
   |inr x=>exact .str x
  have ed:ds.drop i=D.tup [kyD l[i].1,l[i].2]::ds.drop (i+1):=by
   rw[List.drop_eq_getElem_cons (by omega)]
   simp[ds]
  rw[ed] at e1
  exact turnS (w1.keepNew y1) (st1.mono gt) (.tup (.of jzq) (.cons rk (.cons ((rd2.mono g).mono gt) .nil))) (OutS.mono gt e1) λm2 H2 r2 h2 s2 g2 w2 st2 e2=>⟨m2,r2,h2,(g.trans gt).trans g2,w2,st2,e2⟩
 ·rw[List.drop_of_length_le (by omega)] at e1
  exact .inl ⟨⟨g.frz _ _ _ hd,by rw[List.length_map];omega⟩,e1 m H .refl w1 s st1⟩
end
section
variable {N:List Str}{sc:Scope}{G:Gs}
theorem pgTn{X:Cx}(xo:XOk X N sc)(hfn:∀x,X.fn x=true){i j k:Nat}{x y z:Str}{p1 p2 p3 p4 p5:Pos}{k1 k2:Nat}(h1:N[i]? =some x)(h2:N[j]? =some y)(h3:N[k]? =some z)(h4:(locB sc x&&locB sc y&&locB sc z)=true):PG X (.Tuple [.Name x p1,.Tuple [.Name y p2,.Name z p3] k1 p4] k2 p5) (TDG X.K (.tn i j k)):=by
 rw[Bool.and_eq_true,Bool.and_eq_true] at h4
 have nm:∀{i:Nat}{x:Str}{p:Pos},N[i]? =some x->locB sc x=true->PG X (.Name x p) (gName i):=λa b=>wzX xo.nd (by rw[xo.n];exact a) (by rw[xo.s];exact qz9 b) (.inl (hfn _))
 have inn:PG X (.Tuple [.Name y p2,.Name z p3] k1 p4) _:=zzb xo.calm (jz4 (nm h2 h4.1.2) (jz4 (nm h3 h4.2) wzW rfl) rfl) rfl rfl
 refine(zzb xo.calm (jz4 (nm h1 h4.1.1) (jz4 inn wzW rfl) rfl) rfl rfl).wk λv s H Q ⟨m,hh,r,d,r',w,st,rd,e,c⟩=>?_
 obtain⟨b1,b2,d2,rfl,rfl⟩:∃a b c,d=.tup [a,.tup [b,c]]/\r'=((r.set i (some a)).set j (some b)).set k (some c):=by
  generalize et:Tg.tn i j k=t at e
  unfold setT at e
  split at e<;>first |(cases et;done)|(cases e;done)|skip
  cases et;cases e
  exact⟨_,_,_,rfl,rfl⟩
 cases rd with
 |tup hq q=>
 cases q with
 |cons r1 q=>
 cases q with
 |cons r2 q=>
 cases q
 cases r2 with
 |tup h1 t1=>
 cases t1 with
 |cons s1 t1=>
 cases t1 with
 |cons s2 t1=>
 cases t1
 exact⟨_,_,rfl,hq,rfl,_,_,rfl,_,_,rfl,_,_,rfl,h1,rfl,_,_,rfl,_,_,rfl,rfl,rfl,c _ (((st.set i r1).set j s1).set k s2)⟩
theorem dS_forI{t:Tg}{a:E}{b:Ss}{es:List PySem.Expr}{k:Nat}{tp:Pos}{l:PySem.Expr}{x:List PySem.Stmt}{ap cp pos:Pos}(hg:∀{X:Cx},XOk X N sc->(∀x,X.fn x=true)->PG X (.Tuple es k tp) (TDG X.K t))(hb:∀env:Env,attributeBase l "items" env (eval l env)=eval l env)(h2:(ap.endLine==cp.line)=true)(h_a:SE N sc G a l)(h_b:SSs N sc G b x):
 SS N sc G (.forr t (.its a) b) (.For (.Tuple es k tp) (.Call (.Attribute l "items" ap) [] [] cp) x [] pos):=λ{X ca cl W Wx rz} xo go hfn xx hz=>by
 have p1:=wzt xo.po xo.calm (pi_itk hb h2 (h_a xo go).1) (hg xo hfn) (h_b (W:=W) xo go hfn xx hz) (λ_=>rfl) (pos:=pos)
 intro pins s σ H Z I ⟨m,r,hh,w,st,o⟩
 rw[xs] at o
 obtain⟨dx,h5,e0,o⟩:=o.nx
 obtain⟨n,rfl⟩:∃n,dx=.ref n:=by cases dx<;>first |exact⟨_,rfl⟩|exact o.elim
 have o':OutS X.K Wx m H Z (match h5[n]? with|some (.dct l)=>forS t (xss G cl W b) (l.map λp=>D.tup [kyD p.1,p.2]) r (h5.set n .ded)|_=>.bad):=o
 split at o'
 ·rename_i dl en
  refine p1 pins s σ H Z I ⟨m,r,hh,.ref n,h5,w,st,e0,λm2 y H2 g2 w2 ry=>?_⟩
  cases ry with
  | @ref _ d ha=>
    obtain⟨us,q1,q2,q3⟩:RO X.K m2 H2 d (.dct dl):=w2.ob n _ d en ha
    refine⟨d,us,.own d,rfl,q1,.inl rfl,λoo _=>?_⟩
    obtain⟨w3,g3⟩:=w2.objSet (o':=.ded) (u:=.frz oo (.own d)) en rfl ha λ_=>trivial
    exact zzy w3 ((st.mono g2).mono g3) jzq q2 (q3.mono g3) (OutS.mono (g2.trans g3) o')
 ·exact o'.elim
theorem _root_.L2.Inv.thaw{X:Cx}{pins:List (Addr×Obj)}{σ:Sg}{H:Hp}{s:Shared}(I:Inv X pins σ H s){d:Addr}{o:Obj}{u:HO}(hd:H d=some (.frz o u))(h0:∀o' u',X.H₀ d≠some (.frz o' u')):Inv X pins σ (upd H d u) s:=by
 have nn:∀b,H b=none->upd H d u b=none:=λb z=>by rw[jzi (Ne.symm (jzl hd z))];exact z
 have nt:∀b xs,H b=some (.tup xs)->upd H d u b=some (.tup xs):=λb xs z=>by rw[jzi (ne_of z hd (λq=>by cases q))];exact z
 have no:∀b c,H b=some (.own c)->upd H d u b=some (.own c):=λb c z=>by rw[jzi (ne_of z hd (λq=>by cases q))];exact z
 refine⟨I.ok,I.os,I.bare,⟨I.base.keep,I.base.slot,λb ob q n hx=>nn b (I.base.free b ob q n hx),I.base.there,λb xs q=>nt b xs (I.base.tups b xs q),λb o' u' q=>?_,λb ps q=>?_⟩,I.loc,I.cell,nn _ I.free,λx c e=>nn c (I.freeC x c e),λp hp=>?_,λb ob q=>?_,I.len⟩
 ·have ne:b≠d:=λz=>by subst z;exact h0 _ _ q
  rw[jzi ne];exact I.base.frzs b o' u' q
 ·obtain⟨more,z⟩:=I.base.tbls b ps q
  exact⟨more,by rw[jzi (ne_of z hd (λq=>by cases q))];exact z⟩
 ·obtain⟨z1,z2,z3,z4,z5⟩:=I.pin p hp
  exact⟨z1,nn _ z2,z3,z4,z5⟩
 ·by_cases e:b=d
  ·subst e
   rw[jzq] at q;cases q
   exact(show ObjOk X.prog X.w H s.heap b (.frz o _) from I.hok b _ hd).2.stay (λ_ _ _ z=>z) (λc r=>no c _ r) nt
  ·rw[jzi e] at q
   exact(I.hok b ob q).stay (λ_ _ _ z=>z) (λc r=>no c _ r) nt
theorem dS_forZ{t:Tg}{a:E}{b:Ss}{es:List PySem.Expr}{k:Nat}{tp:Pos}{l:PySem.Expr}{x:List PySem.Stmt}{ap cp pos:Pos}(hg:∀{X:Cx},XOk X N sc->(∀x,X.fn x=true)->PG X (.Tuple es k tp) (TDG X.K t))(hb:∀env:Env,attributeBase l "items" env (eval l env)=eval l env)(h2:(ap.endLine==cp.line)=true)(h_a:SE N sc G a l)(h_b:SSs N sc G b x):
 SS N sc G (.forr t (.itz a) b) (.For (.Tuple es k tp) (.Call (.Attribute l "items" ap) [] [] cp) x [] pos):=λ{X ca cl W Wx rz} xo go hfn xx hz=>by
 have p1:=wzt xo.po xo.calm (pi_itk hb h2 (h_a xo go).1) (hg xo hfn) (h_b (W:=W) xo go hfn xx hz) (λ_=>rfl) (pos:=pos)
 intro pins s σ H Z I ⟨m,r,hh,w,st,o⟩
 rw[xs] at o
 obtain⟨dx,h5,e0,o⟩:=o.nx
 obtain⟨n,rfl⟩:∃n,dx=.ref n:=by cases dx<;>first |exact⟨_,rfl⟩|exact o.elim
 have o':OutS X.K Wx m H Z (match h5[n]? with
  |some (.dct l)=>(forS t (xss G cl W b) (l.map λp=>D.tup [kyD p.1,p.2]) r (h5.set n (.dcz l))).bind λfl h2=>match fl with
    |.nx r2=>(match h2[n]? with
     |some (.dcz l2)=>.ok (.nx r2) (h2.set n (.dct l2))
     |_=>.bad)
    |f=>.ok f h2
  |_=>.bad):=o
 split at o'
 ·rename_i dl en
  refine thn (p1 pins s σ H {Z with nx:=λs' H'=>∃d o us,(∀o' u',X.H₀ d≠some (.frz o' u'))/\H' d=some (.frz o (.dK us))/\Z.nx s' (upd H' d (.dK us))} I ⟨m,r,hh,.ref n,h5,w,st,e0,λm2 y H2 g2 w2 ry=>?_⟩) (λf s' q=>?_)
  ·cases ry with
   | @ref _ d ha=>
     obtain⟨us,q1,q2,q3⟩:RO X.K m2 H2 d (.dct dl):=w2.ob n _ d en ha
     refine⟨d,us,.dK us,rfl,q1,.inr rfl,λoo h0=>?_⟩
     obtain⟨w3,g3⟩:=w2.objSet (o':=.dcz dl) (u:=.frz oo (.dK us)) en rfl ha λg=>⟨us,oo,jzq,q2,q3.mono g⟩
     refine zzy w3 ((st.mono g2).mono g3) jzq q2 (q3.mono g3) ?_
     have nf:∀o u,H d≠some (.frz o u):=λo u z=>by
      have:=g2.frz d o u z
      rw[q1] at this;cases this
     generalize forS t (xss G cl W b) (dl.map λp=>D.tup [kyD p.1,p.2]) r (h5.set n (.dcz dl))=R at o'
     cases R with
     |ok fl h6=>
      cases fl with
      |nx r2=>
       have o2:OutS X.K Wx m H Z (match h6[n]? with
        |some (.dcz l2)=>.ok (.nx r2) (h6.set n (.dct l2))
        |_=>.bad):=o'
       split at o2
       ·rename_i l2 e2
        intro m' H' g' w' s' st'
        have hd':=g'.frz d oo _ jzq
        exact⟨d,oo,us,h0,hd',o2 m' _ (((g2.trans g3).trans g').thaw nf hd') (w'.thaw e2 (g'.pre n d ha) hd') s' (st'.thaw hd')⟩
       ·exact o2.elim
      |rt d=>exact λm' H' g' w'=>(OutS.mono (g2.trans g3) (show OutS X.K Wx m H Z (.ok (.rt d) h6) from o')) m' H' g' w'
      |bk r2=>exact λm' H' g' w'=>(OutS.mono (g2.trans g3) (show OutS X.K Wx m H Z (.ok (.bk r2) h6) from o')) m' H' g' w'
      |ct r2=>exact λm' H' g' w'=>(OutS.mono (g2.trans g3) (show OutS X.K Wx m H Z (.ok (.ct r2) h6) from o')) m' H' g' w'
     |exc c r' h6=>exact λm' H' s' g' w'=>(OutS.mono (g2.trans g3) (show OutS X.K Wx m H Z (.exc c r' h6) from o')) m' H' s' g' w'
     |bad=>exact o'.elim
  ·cases f with
   |next=>
    obtain⟨σ',H',I',d,oo,us,h0,hd,q⟩:=q
    exact⟨σ',upd H' d (.dK us),I'.thaw hd h0,q⟩
   |brk=>exact q
   |cont=>exact q
   |ret u=>exact q
 ·exact o'.elim
theorem dE_appX{o a:E}{l0:PySem.Expr}{ap cp:Pos}{y:PySem.Expr}(hb:∀env:Env,attributeBase l0 "append" env (eval l0 env)=eval l0 env)(h2:(ap.endLine==cp.line)=true)(h3:noStar y=true)(h_o:SE N sc G o l0)(h_a:SE N sc G a y):SE N sc G (.app o a) (.Call (.Attribute l0 "append" ap) [y] [] cp):=λ{X ca cl} xo go=>by
 have ho:=(h_o xo go).1
 have hA:PA X [y] (tCons (TDE X.K (ev G cl a)) tNil):=qza ((h_a xo go).1) qzP (jzn [] h3)
 have p:PE X (.Call (.Attribute l0 "append" ap) [y] [] cp) (TDE X.K (ev G cl (.app o a))):=(pe_bm PySem.F.plainAttrs_list PySem.F.slot_list_append PySem.F.type_list_append qzy ho hA (hb X.env) (by rw[jzn [] h3];rfl) h2 (jzn [] h3) rfl).wk λs H Q q=>by
  refine TDE.one (λ_ _=>rfl) q λm m2 r d h2 h' H2 dx v st g w2 st2 rx e c=>?_
  split at e
  ·rename_i hl
   obtain⟨dy,h3,e3,e⟩:=Rs.bind_ok e
   cases rx<;>first |(cases e;done)|skip
   case ref n a' ha eb=>
    simp only[appD] at e
    split at e<;>first |(cases e;done)|skip
    rename_i l el
    split at e<;>first |(cases e;done)|skip
    rename_i hz
    cases e
    have hl':∃l0,lstAt h2 n=some l0:=Option.isSome_iff_exists.mp hl
    obtain⟨l00,hl'⟩:=hl'
    obtain⟨a'',vs0,ha'',hq,_⟩:=w2.lst hl'
    rw[ha] at ha'';cases ha''
    refine⟨.inl ⟨rfl,vs0,hq⟩,m2,r,h2,dy,h3,w2,st2,e3,λm3 y' H3 g3 w3 ry=>?_⟩
    have ha3:=g3.pre _ _ ha
    obtain⟨vs,hv,rv⟩:∃vs,H3 a'=some (.lst vs)/\RDs X.K m3 H3 l vs:=w3.ob n _ a' el ha3
    obtain⟨_,w4,g4⟩:=w3.lstSet el ha3 (rv.append (.cons ry .nil))
    exact⟨a',vs,y',rfl,rfl,hv,by rw[<- rv.length];exact Nat.lt_of_lt_of_le hz (by decide),c m3 _ _ (g3.trans g4) w4 .non⟩
  ·cases e
 exact⟨p,tOf p λ_=>rfl⟩
end
end Ng
end
section
namespace Ng
open PySem PySem.Spec PyProof.Rows L2
structure Fc where
 np:Nat
 ns:Nat
 body:Ss
def endD:Fl->Hh->Rs D
 |.rt d,h=>.ok d h
 |.nx _,h=>.ok .non h
 |_,_=>.bad
noncomputable def callD(G:Gs)(T:Nat->Option Fc)(W:Nat):Nat->Cl
 |0,_,_,_=>.bad
 |n+1,f,ds,h=>match T f with
  |none=>.bad
  |some c=>if ds.length=c.np then(xss G (callD G T W n) W c.body (ds.map some++List.replicate (c.ns-c.np) none) h).bind endD else .bad
structure FmOk (K:PySem.W.Frag)(G:Gs)(P:Addr->Prop)(x:Str)(c:Fc):Prop where
 ex:∃st fa fd N ps qual,Fun K x qual st fa fd/\FnScope N ps (defScope st)/\ps.length=c.np/\N.length=c.ns/\Binds K fd ps []/\P fa/\SSs N (defScope st) G c.body (defBody st)
abbrev FcOk(K:PySem.W.Frag)(mg:Str->Option Value)(G:Gs)(x:Str)(c:Fc):Prop:=FmOk K G (λfa=>mg x=some (.ref fa)) x c
def AllP{α:Type}(P:Nat->α->Prop):Nat->List α->Prop
 |_,[]=>True
 |i,a::l=>P i a/\AllP P (i+1) l
theorem AllP.get{α:Type}{P:Nat->α->Prop}:∀{l:List α}{i:Nat},AllP P i l->∀{f:Nat}{x:α},l[f]? =some x->P (i+f) x
 |_::_,_,h,0,_,e=>by cases e;exact h.1
 |_::l,i,h,f+1,x,e=>by
  have q:=AllP.get h.2 (f:=f) (x:=x) (by simpa using e)
  rwa [show i+1+f=i+(f+1) by omega] at q
theorem AllP.get0{α:Type}{P:Nat->α->Prop}{l:List α}(h:AllP P 0 l){f:Nat}{x:α}(e:l[f]? =some x):P f x:=by
 have q:=AllP.get h e
 rwa [Nat.zero_add] at q
theorem len1{us:List Value}(h:us.length=1):∃a,us=[a]:=List.length_eq_one_iff.mp h
theorem len2{us:List Value}(h:us.length=2):∃a b,us=[a,b]:=by
 match us,h with
 | [a,b],_=>exact⟨a,b,rfl⟩
theorem len3{us:List Value}(h:us.length=3):∃a b c,us=[a,b,c]:=by
 match us,h with
 | [a,b,c],_=>exact⟨a,b,c,rfl⟩
theorem AllP.mem{α:Type}{P:α->Prop}:∀{l:List α}{i:Nat},AllP (λ_=>P) i l->∀{x:α},x∈l->P x
 |_::_,_,h,_,.head _=>h.1
 |_::_,_,h,_,.tail _ q=>AllP.mem h.2 q
structure PrOk (K:PySem.W.Frag)(mg:Str->Option Value)(G:Gs)(ca:Nat->Addr)(T:Nat->Option Fc):Prop where
 fn:∀(f:Nat)(x:Str),G.fns[f]? =some x->∃c,T f=some c/\FcOk K mg G x c
 cst:∀(g:Nat)(x:Str)(d:D),G.csts[g]? =some (x,d)->∃v u,mg x=some u/\RelV v u/\∀m H,RD K m H d v
 blt:∀f:Blt,mg f.nm=none
 ty:∀t:Ty,mg (Str.ofString t.nm)=none
 rng:mg "range"=none
 exc:∀(c:Nat)(x:Str),G.excs[c]? =some x->mg x=some (.ref (ca c))/\ExcF K (ca c)
 sub:∀p∈G.sub,PySem.W.exmOne K (.ref (ca p.1)) (.ref (ca p.2))=some true/\PySem.W.kitOne K (.ref (ca p.1)) (.ref (ca p.2))=some true/\ExcF K (ca p.1)
 nsub:∀p∈G.nsub,PySem.W.kitOne K (.ref (ca p.1)) (.ref (ca p.2))=some false/\ExcN K (ca p.1)
 verr:mg "ValueError"=none
 att:∀p∈G.atts,∃C,PySem.W.nsIn K mainGlobals p.1=some (some (.ref C))/\Cls K C/\NoAttr K C p.2
 meth:∀p∈G.meths,∃C c,PySem.W.nsIn K mainGlobals p.1=some (some (.ref C))/\Cls K C/\T p.2.2=some c/\FmOk K G (λfa=>Meth K C p.2.1 fa) p.2.1 c
 new:∀p∈G.news,∃C c,PySem.W.nsIn K mainGlobals p.1=some (some (.ref C))/\mg p.1=some (.ref C)/\T p.2=some c/\FmOk K G (λfa=>Mk K C fa) "__init__" c
theorem RSt.start{K:PySem.W.Frag}{m:List Addr}{H:Hp}{ds:List D}{vs:List V}(r:RDs K m H ds vs)(k:Nat):RSt K m H (ds.map some++List.replicate k none) (vs.map some++List.replicate k none):=by
 refine⟨by simp[r.length],λi d e=>?_⟩
 by_cases hi:i<ds.length
 ·rw[List.getElem?_append_left (by simpa using hi),List.getElem?_map] at e
  cases z:ds[i]? with
  |none=>rw[z] at e;cases e
  |some d'=>
   rw[z] at e
   have e':d'=d:=by
    have e2:some (some d')=some (some d):=e
    injection e2 with e2;injection e2
   subst e'
   obtain⟨v,hv,rv⟩:=r.get z
   exact⟨v,by rw[List.getElem?_append_left (by rw[List.length_map, <- r.length];exact hi),List.getElem?_map,hv];rfl,rv⟩
 ·rw[List.getElem?_append_right (by simpa using hi),List.getElem?_replicate] at e
  split at e<;>cases e
section
variable {P:Program}{w:World}{K:PySem.W.Frag}{mg:Str->Option Value}{base:Heap}{G:Gs}{ca:Nat->Addr}{T:Nat->Option Fc}{W:Nat}
theorem kds_of{K:PySem.W.Frag}{cd:Value}{q:Str}(e:PySem.W.codeIn K cd q=true):PySem.W.kdsCode K cd=true:=by
 unfold PySem.W.codeIn at e
 unfold PySem.W.kdsCode
 split at e
 ·split at e
  ·rename_i ho
   simp only[ho]
  ·cases e
 ·cases e
theorem _root_.L2.Fun.okX{x qual:Str}{st:PySem.Stmt}{f:Addr}{fd:FuncData}{N ps:List Str}{k:Nat}{sp:Sp}(F:Fun K x qual st f fd)(S:FnScope N ps (defScope st))(len:∀vs H Q E,sp vs H Q E->vs.length=ps.length)
 (hbody:∀(cdv:Value)(_:PySem.W.kdsCode K cdv=true)(A:Around)(outer:List Env)(s:Shared)(H:Hp)(vs:List V)(Q:VK)(E:XK),Room k (A.deeper (envOfC qual (defScope st) s.heap.objs.size f cdv))->sp vs H Q E->
   ∃t,PSs (cxOf (CX1 P w) P w K mg base N qual (defScope st) f cdv A outer s H E) (defBody st) t/\t {nx:=λ_ H'=>Q .non H',rt:=Q} (start N vs) H):FnOk P w K mg base (CX1 P w) (k+1) f fd ps sp:=by
 obtain⟨oc,od,kV,doc,pm,an,cdv,ct,osl,rfl,lk,hcd⟩:=F.ex
 exact fn_of lk hcd S len λA outer s H vs Q E hr hsp=>hbody cdv (kds_of hcd) A outer s H vs Q E hr hsp
abbrev AllFn(P:Program)(w:World)(K:PySem.W.Frag)(mg:Str->Option Value)(base:Heap)(G:Gs)(ca:Nat->Addr)(T:Nat->Option Fc)(W n:Nat):Prop:=∀(f:Nat)(x:Str)(c:Fc)(R:Addr->Prop),T f=some c->FmOk K G R x c->∃fa fd ps,FnOk P w K mg base (CX1 P w) (2*n) fa fd ps (spD K ca (callD G T W n f) ps.length)/\R fa/\PySem.W.keepIn K (.ref fa)=true/\Binds K fd ps []/\∀ds h,callD G T W n f ds h≠ .bad->ds.length=ps.length
theorem zzA(pr:PrOk K mg G ca T){n f:Nat}(ih:AllFn P w K mg base G ca T W n){x qual:Str}{c:Fc}{st:PySem.Stmt}{fa:Addr}{fd:FuncData}{N ps:List Str}(hc:T f=some c)(F:Fun K x qual st fa fd)(S:FnScope N ps (defScope st))(h1:ps.length=c.np)(h2:N.length=c.ns)
 (hk:SSs N (defScope st) G c.body (defBody st)):FnOk P w K mg base (CX1 P w) (2*n+1+1) fa fd ps (spD K ca (callD G T W (n+1) f) ps.length):=by
 refine F.okX S (λvs H Q E h=>h.1) (λcdv kcd A outer s H vs Q E hr h=>?_)
 obtain⟨hl,m,h,ds,wd,rd,o⟩:=h
 simp only[callD,hc] at o
 have hlen:ds.length=c.np:=by rw[rd.length,hl,h1]
 rw[if_pos hlen] at o
 let X:Cx:=cxOf (CX1 P w) P w K mg base N qual (defScope st) fa cdv A outer s H E
 have xo:XOk X N (defScope st):=⟨rfl,rfl,rfl,S.nd,⟨_,hr⟩,pr.rng,PassesOwn.leaving,kcd⟩
 have hr0:Room (2*n) X.A:=hr.mono (Nat.le_succ _)
 have go:GOk X G ca (callD G T W n):=⟨λf' x' hf'=>by
  obtain⟨c',hc',fc⟩:=pr.fn f' x' hf'
  obtain⟨fa',fd',ps',F',hm',hk',hb',hl'⟩:=ih f' x' c' _ hc' fc
  exact⟨fa',fd',ps',_,F',hr0,hm',hk',hb',hl'⟩,pr.cst,pr.blt,pr.ty,pr.exc,pr.sub,pr.nsub,pr.verr,⟨pr.att,λp hp=>by
   obtain⟨C,c',hC,cls,hc',fc⟩:=pr.meth p hp
   obtain⟨fa',fd',ps',F',hm',hk',hb',hl'⟩:=ih p.2.2 p.2.1 c' _ hc' fc
   exact⟨C,fa',fd',ps',_,hC,cls,hm',F',hr0,hb',hl'⟩,λp hp=>by
   obtain⟨C,c',hC,hmC,hc',fc⟩:=pr.new p hp
   obtain⟨fa',fd',ps',F',hm',hk',hb',hl'⟩:=ih p.2 _ c' _ hc' fc
   exact⟨C,fa',fd',ps',_,hC,hmC,hm',F',hr,hb',hl'⟩⟩⟩
 refine⟨_,hk (W:=W) xo go (λ_=>rfl) fnXX (.inl rfl),m,ds.map some++List.replicate (c.ns-c.np) none,h,wd,?_,?_⟩
 ·show RSt K m H _ (vs.map some++List.replicate (N.length-vs.length) none)
  rw[show N.length-vs.length=c.ns-c.np by omega]
  exact RSt.start rd _
 ·cases hx:xss G (callD G T W n) W c.body (ds.map some++List.replicate (c.ns-c.np) none) h with
  |bad=>rw[hx] at o;exact o
  |exc c' r' h'=>
   rw[hx] at o
   exact λm' H' s' g w' _ v=>o m' H' v g w'
  |ok fl h'=>
   rw[hx] at o
   intro m' H' g w'
   cases fl with
   |rt d'=>exact λv rv=>o m' v H' g w' rv
   |nx r'=>exact λs' _=>o m' .non H' g w' .non
   |bk r'=>exact o.elim
   |ct r'=>exact o.elim
theorem fn_all(pr:PrOk K mg G ca T):∀n:Nat,AllFn P w K mg base G ca T W n:=by
 intro n
 induction n with
 |zero=>
  intro f x c R hc ⟨st,fa,fd,N,ps,qual,F,S,h1,h2,hb,hm,hk⟩
  refine⟨fa,fd,ps,⟨λvs H Q E h=>h.1,λA outer s H args us vs Q E _ _ _ _ h=>?_⟩,hm,F.kp,hb,λds h e=>absurd rfl e⟩
  obtain⟨_,m,h,ds,_,_,o⟩:=h
  exact o.elim
 |succ n ih=>
  intro f x c R hc ⟨st,fa,fd,N,ps,qual,F,S,h1,h2,hb,hm,hk⟩
  refine⟨fa,fd,ps,zzA pr ih hc F S h1 h2 hk,hm,F.kp,hb,λds h e=>?_⟩
  simp only[callD,hc] at e
  by_cases hn:ds.length=c.np
  ·rw[hn,h1]
  ·rw[if_neg hn] at e
   exact absurd rfl e
end
theorem cstT{K:PySem.W.Frag}{m:List Addr}{H:Hp}{a:Addr}{dd:Option Addr}{its:Array Value}{n:Nat}{sl:Array (Option Value)}{ds:List D}{vs:List V}(h:K.lookup a=some ⟨.type "tuple",dd,.seq its n,sl⟩)(hz:its.size<=sizeLine)
 (v:Vals vs its.toList)(r:RDs K m H ds vs):RD K m H (.tup ds) (.ref a):=.tup (.inr ⟨_,its,n,h,rfl,rfl,hz,v⟩) r
theorem sqR_of{K:PySem.W.Frag}{H:Hp}{a:Addr}{xs:List V}(hO:Only H)(h:SqL K H a xs):SqR K H a xs:=by
 rcases h with (h|h)|h
 ·rcases hO a with z|⟨o,ys,z⟩
  ·rw[z] at h;cases h
  ·rw[z] at h;cases h
 ·exact .inl h
 ·exact .inr h
def spO(K:PySem.W.Frag)(f:List D->Hh->Rs D)(n:Nat):Sp:=λvs H Q _=>vs.length=n/\∃m h ds d h',Wd K m h H/\RDs K m H ds vs/\f ds h=.ok d h'/\∀m' v H',Gr K m H m' H'->Wd K m' h' H'->RD K m' H' d v->Q v H'
theorem spO_D{K:PySem.W.Frag}{ca:Nat->Addr}{f:List D->Hh->Rs D}{n:Nat}{vs:List V}{H:Hp}{Q:VK}{E:XK}(h:spO K f n vs H Q E):spD K ca f n vs H Q E:=by
 obtain⟨hl,m,h,ds,d,h',w,r,e,c⟩:=h
 exact⟨hl,m,h,ds,w,r,by rw[e];exact c⟩
theorem law_of{G:Gs}{T:Nat->Option Fc}{W:Nat}{l:PySem.W.OpenLaw}{n k lw:Nat}{q:Program}{loose:List Str}{XP:(Str->Option Value)->Heap->Prop}{YP:World->Heap->Prop}{d:DefRec}{K:Params->PySem.W.Frag}{x:Str}
 (run:∀ns:List Int,ns.length<=n->∃h',callD G T W (k+1) lw [.ref 0] [.ro (ns.map D.int)]=.ok (.bl true) h')
 (hn:l.most=some n)(hn2:n<=sizeLine)(hdf:d.params.defaults=[])(hr:Room (2*k+1+1) callerA)
 (hY:∀(w:World)(h:Heap),YP w h->(K w.params).In h)
 (F:∀(w:World)(mg:Str->Option Value)(fa:Addr)(h:Heap),(K w.params).In h->h.Ns mainGlobals mg->mg d.name=some (.ref fa)->
   ∃ca:Nat->Addr,PrOk (K w.params) mg G ca T/\∃fd:FuncData,(∀(s:Shared)(u:Value),BindsTo s fd ⟨[u],[]⟩ [(x,u)])/\∃c st N qual,T lw=some c/\Fun (K w.params) d.name qual st fa fd/\FnScope N [x] (defScope st)/\1=c.np/\N.length=c.ns/\SSs N (defScope st) G c.body (defBody st)):
 PySem.W.WalkO q loose XP YP l.row.toRowW d [] (λf vs=>PySem.call f vs):=by
 refine L2.walk_of (n:=n) (k:=2*k+1+1) (x:=x) (CX:=λw=>CX1 l.prog w) (sp:=λw=>spO (K w.params) (callD G T W (k+1) lw) 1) hn hn2 hdf hr hY (λw mg fa h KX hns hm=>?_) (λw H a ns hl hO hS=>?_) λ_ _ _ _ _ ⟨_,_,_,_,_,_,_,_,_,z⟩=>z
 ·obtain⟨ca,pr,fd,hb,c,st,N,qual,hc,Fu,S,h1,h2,hk⟩:=F w mg fa h KX hns hm
  exact⟨fd,hb,λbase _ _=>(zzA pr (fn_all pr k) hc Fu S h1 h2 hk).imp λ_ _ _ _=>spO_D⟩
 ·obtain⟨h',e⟩:=run ns hl
  refine⟨rfl,[a],[.ro (ns.map D.int)],[.ref 0],.bl true,h',⟨rfl,λi j b o u e1 e2 e3 e4 w1 w2=>?_,λi j b l l' e1 e2 e3 e4=>?_,λi o b e1 e2=>?_⟩,.cons (.ref rfl) .nil,e,?_⟩
  ·cases i with
   |zero=>
    cases j with
    |zero=>rfl
    |succ j=>simp at e4
   |succ i=>simp at e3
  ·cases i with
   |zero=>
    have e5:O.ro (ns.map D.int)=O.dcz l:=Option.some.inj e3
    cases e5
   |succ i=>simp at e3
  ·cases i with
   |zero=>
    simp at e1 e2
    subst e1;subst e2
    exact⟨_,sqR_of hO hS,RDs.ints ns⟩
   |succ i=>simp at e1
  ·intro m' v H' _ _ rd
   cases rd;rfl
end Ng
end
section
namespace Ng
open PySem L2
section
variable {A B:Type}(G:Gs)(cl:Cl)(W:Nat)(r:Ev)(h:Hh)
theorem jzw{α:Type} [BEq α] [LawfulBEq α] [DecidableEq α](i j:α):(i==j)=decide (i=j):=by
 by_cases e:i=j
 ·subst e;simp
 ·rw[decide_eq_false e];exact beq_eq_false_iff_ne.mpr e
@[simp] theorem jze(a:A)(f:A->Hh->Rs B):(Rs.ok a h).bind f=f a h:=rfl
@[simp] theorem nxOk(a:A):(Rs.ok a h).nx=.ok a h:=rfl
@[simp] theorem nxBad:(Rs.bad:Rs A).nx=.bad:=rfl
@[simp] theorem nxExc(c:Nat)(r':Ev):(Rs.exc c r' h:Rs A).nx=.bad:=rfl
@[simp] theorem innOk(a:A):(Rs.ok a h).inn r=.ok a h:=rfl
@[simp] theorem innExc(c:Nat)(r':Ev):(Rs.exc c r' h:Rs A).inn r=.exc c r h:=rfl
@[simp] theorem bindExc(c:Nat)(r':Ev)(f:A->Hh->Rs B):(Rs.exc c r' h:Rs A).bind f=.exc c r' h:=rfl
@[simp] theorem bindBad(f:A->Hh->Rs B):(Rs.bad:Rs A).bind f=.bad:=rfl
@[simp] theorem evVar(i:Nat):ev G cl (.var i) r h=(match r[i]? with|some (some d)=>.ok d h|_=>.bad):=by rw[ev]<;>rfl
@[simp] theorem ge0(a:Option D)(l:Ev):(a::l)[0]? =some a:=rfl
@[simp] theorem gd0(a:D)(l:List D):(a::l)[0]? =some a:=rfl
@[simp] theorem evInt(i:Int):ev G cl (.int i) r h=.ok (.int i) h:=by rw[ev]<;>rfl
@[simp] theorem evBl(i:Bool):ev G cl (.bl i) r h=.ok (.bl i) h:=by rw[ev]<;>rfl
@[simp] theorem evNon:ev G cl .non r h=.ok .non h:=by rw[ev]<;>rfl
@[simp] theorem evStr(i:Str):ev G cl (.str i) r h=.ok (.str i) h:=by rw[ev]<;>rfl
@[simp] theorem evGc(i:Nat):ev G cl (.gc i) r h=(match G.csts[i]? with|some p=>.ok p.2 h|none=>.bad):=by rw[ev]<;>(cases G.csts[i]? <;>rfl)
@[simp] theorem evTy(t:Ty):ev G cl (.ty t) r h=.ok (.ty t.nm) h:=by rw[ev]<;>rfl
@[simp] theorem evBin(op:Bop)(a b:E):ev G cl (.bin op a b) r h=(ev G cl a r h).bind λx h=>(ev G cl b r h).bind λy h=>binD op x y h:=by rw[ev]<;>rfl
@[simp] theorem evNeg(a:E):ev G cl (.neg a) r h=(ev G cl a r h).bind λx h=>match x with|.int i=>.ok (.int (-i)) h|_=>.bad:=by rw[ev]<;>rfl
@[simp] theorem evCmp(op:Cop)(a b:E):ev G cl (.cmp op a b) r h=(ev G cl a r h).bind λx h=>(ev G cl b r h).bind λy h=>cmpD op x y h:=by rw[ev]<;>rfl
@[simp] theorem evAnd(a b:E):ev G cl (.and a b) r h=(ev G cl a r h).bind λx h=>match truD x h with|some true=>ev G cl b r h|some false=>.ok x h|none=>.bad:=by rw[ev]<;>rfl
@[simp] theorem evOr(a b:E):ev G cl (.or a b) r h=(ev G cl a r h).bind λx h=>match truD x h with|some true=>.ok x h|some false=>ev G cl b r h|none=>.bad:=by rw[ev]<;>rfl
@[simp] theorem evNot(a:E):ev G cl (.not a) r h=(ev G cl a r h).bind λx h=>match truD x h with|some b=>.ok (.bl (!b)) h|none=>.bad:=by rw[ev]<;>rfl
@[simp] theorem evIte(c a b:E):ev G cl (.ite c a b) r h=(ev G cl c r h).bind λx h=>match truD x h with|some true=>ev G cl a r h|some false=>ev G cl b r h|none=>.bad:=by rw[ev]<;>rfl
@[simp] theorem evIx(a b:E):ev G cl (.ix a b) r h=(ev G cl a r h).bind λx h=>(ev G cl b r h).bind λy h=>ixD x y h:=by rw[ev]<;>rfl
@[simp] theorem evTup(l:Es):ev G cl (.tup l) r h=(evs G cl l r h).bind λds h=>if ds.length<=1000 then .ok (.tup ds) h else .bad:=by rw[ev]<;>rfl
@[simp] theorem evLst(l:Es):ev G cl (.lst l) r h=(evs G cl l r h).bind λds h=>if ds.length<=1000 then .ok (.ref h.length) (h++ [.lst ds]) else .bad:=by rw[ev]<;>rfl
@[simp] theorem jzE(f:Nat)(l:Es):ev G cl (.call f l) r h=(evs G cl l r h).bind λds h=>(cl f ds h).nx:=by rw[ev]<;>rfl
@[simp] theorem evBlt(f:Blt)(l:Es):ev G cl (.blt f l) r h=(evs G cl l r h).bind λds h=>bltD f ds h:=by rw[ev]<;>rfl
@[simp] theorem evApp(o e:E):ev G cl (.app o e) r h=(ev G cl o r h).bind λx h=>if isLst x h=true then(ev G cl e r h).bind λy h=>appD x y h else .bad:=by rw[ev]<;>rfl
@[simp] theorem evtNil:evt G cl .nil r h=.ok true h:=by rw[evt]<;>rfl
@[simp] theorem evtCons(e:E)(l:Es):evt G cl (.cons e l) r h=(ev G cl e r h).bind λx h=>match truD x h with|some true=>evt G cl l r h|some false=>.ok false h|none=>.bad:=by rw[evt]<;>rfl
theorem evComp(t:Tg)(k:Ck)(it cs:Es)(e:E)(N:List Str)(cap:List Nat):ev G cl (.comp t k it cs e N cap) r h=(evs G cl it r h).bind λxs h=>(compL t (evt G cl cs) (ev G cl e) h.length k xs h (blockE N cap r) (h++ [.lst []])).bind λ_ h'=>.ok (.ref h.length) h':=by rw[ev]<;>rfl
@[simp] theorem jzp:evs G cl .nil r h=.ok [] h:=by rw[evs]<;>rfl
@[simp] theorem jzj(e:E)(l:Es):evs G cl (.cons e l) r h=(ev G cl e r h).bind λd h=>(evs G cl l r h).bind λds h=>.ok (d::ds) h:=by rw[evs]<;>rfl
@[simp] theorem xsAsg(t:Tg)(e:E):xs G cl W (.asg t e) r h=(ev G cl e r h).nx.bind λx h=>match setT t x r with|some r1=>.ok (.nx r1) h|none=>.bad:=by rw[xs]<;>rfl
@[simp] theorem xsAsc(i:Nat)(e:E):xs G cl W (.asc i e) r h=(ev G cl e r h).nx.bind λx h=>.ok (.nx (r.set i (some x))) h:=by rw[xs]<;>rfl
@[simp] theorem xsEx(e:E):xs G cl W (.ex e) r h=(ev G cl e r h).nx.bind λ_ h=>.ok (.nx r) h:=by rw[xs]<;>rfl
@[simp] theorem xsRet(e:E):xs G cl W (.ret e) r h=(ev G cl e r h).nx.bind λx h=>.ok (.rt x) h:=by rw[xs]<;>rfl
@[simp] theorem xsIff(c:E)(a b:Ss):xs G cl W (.iff c a b) r h=(ev G cl c r h).nx.bind λx h=>match truD x h with|some true=>xss G cl W a r h|some false=>xss G cl W b r h|none=>.bad:=by rw[xs]<;>rfl
@[simp] theorem xsFor1(t:Tg)(e:E)(b:Ss):xs G cl W (.forr t (.r1 e) b) r h=(ev G cl e r h).nx.bind λx h=>match x with|.int j=>if okR j then forS t (xss G cl W b) (rngD 0 j) r h else .bad|_=>.bad:=by rw[xs]<;>rfl
@[simp] theorem xsFor2(t:Tg)(e e':E)(b:Ss):xs G cl W (.forr t (.r2 e e') b) r h=(ev G cl e r h).nx.bind λx h=>(ev G cl e' r h).nx.bind λy h=>match x,y with|.int i,.int j=>if okR i/\okR j then forS t (xss G cl W b) (rngD i j) r h else .bad|_,_=>.bad:=by rw[xs]<;>rfl
@[simp] theorem qzj(t:Tg)(e:E)(b:Ss):xs G cl W (.forr t (.sq e) b) r h=(ev G cl e r h).nx.bind λx h=>forD W t (xss G cl W b) x r h:=by rw[xs]<;>rfl
@[simp] theorem xsWhl(c:E)(b:Ss):xs G cl W (.whl c b) r h=whileF (ev G cl c) (xss G cl W b) W r h:=by rw[xs]<;>rfl
@[simp] theorem xsRais(c:Nat)(x:Str):xs G cl W (.rais c x) r h=.exc c r h:=by rw[xs]<;>rfl
@[simp] theorem xsAsgX(t:Tg)(f:Nat)(l:Es):xs G cl W (.asgX t f l) r h=(evs G cl l r h).nx.bind λds h=>((cl f ds h).inn r).bind λx h=>match setT t x r with|some r1=>.ok (.nx r1) h|none=>.bad:=by rw[xs]<;>rfl
@[simp] theorem xsRetX(f:Nat)(l:Es):xs G cl W (.retX f l) r h=(evs G cl l r h).nx.bind λds h=>((cl f ds h).inn r).bind λx h=>.ok (.rt x) h:=by rw[xs]<;>rfl
@[simp] theorem xsExX(f:Nat)(l:Es):xs G cl W (.exX f l) r h=(evs G cl l r h).nx.bind λds h=>((cl f ds h).inn r).bind λ_ h=>.ok (.nx r) h:=by rw[xs]<;>rfl
@[simp] theorem xsTry(b:Ss)(g:Nat)(j:Option Nat)(hs:List HS):xs G cl W (.tryx b g j hs) r h=catchD G g j hs (xss G cl W b r h):=by rw[xs]<;>rfl
@[simp] theorem evMxd(mx:Bool)(a b:E):ev G cl (.mxd mx a b) r h=(ev G cl a r h).bind λx h=>(ev G cl b r h).bind λy h=>bestD mx x y h:=by rw[ev]<;>rfl
@[simp] theorem evIns(o i e:E):ev G cl (.ins o i e) r h=(ev G cl o r h).bind λx h=>if isLst x h=true then(ev G cl i r h).bind λy h=>(ev G cl e r h).bind λz h=>insD x y z h else .bad:=by rw[ev]<;>rfl
@[simp] theorem evLrg(a:E):ev G cl (.lrg a) r h=(ev G cl a r h).bind λx h=>lrgD x h:=by rw[ev]<;>rfl
@[simp] theorem evDisp(ks:List Str)(vs:Es):ev G cl (.disp ks vs) r h=(evs G cl vs r (h++ [.dct []])).bind λds h'=>dispD ks ds h.length h':=by rw[ev]<;>rfl
@[simp] theorem xsPass:xs G cl W .pass r h=.ok (.nx r) h:=by rw[xs]<;>rfl
@[simp] theorem xsBrk:xs G cl W .brk r h=.ok (.bk r) h:=by rw[xs]<;>rfl
@[simp] theorem xsCont:xs G cl W .cont r h=.ok (.ct r) h:=by rw[xs]<;>rfl
@[simp] theorem xsStx(o i e:E):xs G cl W (.stx o i e) r h=(ev G cl e r h).nx.bind λz h=>(ev G cl o r h).nx.bind λx h=>(ev G cl i r h).nx.bind λy h=>(stxD x y z h).nx.bind λ_ h=>.ok (.nx r) h:=by rw[xs]<;>rfl
@[simp] theorem jzo:xss G cl W .nil r h=.ok (.nx r) h:=by rw[xss]<;>rfl
@[simp] theorem jzF(s:S)(l:Ss):xss G cl W (.cons s l) r h=(xs G cl W s r h).bind λfl h=>match fl with|.nx r2=>xss G cl W l r2 h|f=>.ok f h:=by rw[xss]<;>rfl
theorem xssNx{s:S}{l:Ss}{r r':Ev}{h h':Hh}{G:Gs}{cl:Cl}{W:Nat}(e:xs G cl W s r h=.ok (.nx r') h'):xss G cl W (.cons s l) r h=xss G cl W l r' h':=by rw[jzF,e];rfl
theorem xssRt{s:S}{l:Ss}{r:Ev}{d:D}{h h':Hh}{G:Gs}{cl:Cl}{W:Nat}(e:xs G cl W s r h=.ok (.rt d) h'):xss G cl W (.cons s l) r h=.ok (.rt d) h':=by rw[jzF,e];rfl
@[simp] theorem setNm(i:Nat)(d:D):setT (.nm i) d r=some (r.set i (some d)):=rfl
@[simp] theorem setTp(l:List Nat)(ds:List D):setT (.tp l) (.tup ds) r=if ds.length=l.length then some (setAll l ds r) else none:=rfl
@[simp] theorem setAll0:setAll [] [] r=r:=rfl
@[simp] theorem setAll1(i:Nat)(is:List Nat)(d:D)(ds:List D):setAll (i::is) (d::ds) r=setAll is ds (r.set i (some d)):=rfl
@[simp] theorem bAdd(i j:Int):binD .add (.int i) (.int j) h=.ok (.int (i+j)) h:=rfl
@[simp] theorem bSub(i j:Int):binD .sub (.int i) (.int j) h=.ok (.int (i-j)) h:=rfl
theorem bMulL{i j:Int}(a: -18446744073709551616<i)(b:i<18446744073709551616):binD .mul (.int i) (.int j) h=.ok (.int (i*j)) h:=by
 show(if _ then _ else _)=_
 rw[if_pos (.inl ⟨a,b⟩)]
theorem bMulR{i j:Int}(a: -18446744073709551616<j)(b:j<18446744073709551616):binD .mul (.int i) (.int j) h=.ok (.int (i*j)) h:=by
 show(if _ then _ else _)=_
 rw[if_pos (.inr ⟨a,b⟩)]
theorem bDiv{i j:Int}(a:0<j)(b:j<1073741824):binD .fdiv (.int i) (.int j) h=.ok (.int (i/j)) h:=by
 show(if _ then _ else _)=_
 rw[if_pos ⟨a,b⟩]
theorem bMod{i j:Int}(a:0<j):binD .mod (.int i) (.int j) h=.ok (.int (i%j)) h:=by
 show(if _ then _ else _)=_
 rw[if_pos a]
@[simp] theorem bPow18:binD .pow (.int 10) (.int 18) h=.ok (.int 1000000000000000000) h:=rfl
@[simp] theorem bPow27:binD .pow (.int 10) (.int 27) h=.ok (.int 1000000000000000000000000000) h:=rfl
@[simp] theorem cLt(i j:Int):cmpD .lt (.int i) (.int j) h=.ok (.bl (decide (i<j))) h:=rfl
@[simp] theorem cLe(i j:Int):cmpD .le (.int i) (.int j) h=.ok (.bl (decide (i<=j))) h:=rfl
@[simp] theorem cGt(i j:Int):cmpD .gt (.int i) (.int j) h=.ok (.bl (decide (j<i))) h:=rfl
@[simp] theorem cGe(i j:Int):cmpD .ge (.int i) (.int j) h=.ok (.bl (decide (j<=i))) h:=rfl
@[simp] theorem cEqI(i j:Int):cmpD .eq (.int i) (.int j) h=.ok (.bl (decide (i=j))) h:=by rw[<- jzw];rfl
@[simp] theorem cNeI(i j:Int):cmpD .ne (.int i) (.int j) h=.ok (.bl (!decide (i=j))) h:=by rw[<- jzw];rfl
@[simp] theorem cEqB(i j:Bool):cmpD .eq (.bl i) (.bl j) h=.ok (.bl (decide (i=j))) h:=by rw[<- jzw];rfl
@[simp] theorem cNeB(i j:Bool):cmpD .ne (.bl i) (.bl j) h=.ok (.bl (!decide (i=j))) h:=by rw[<- jzw];rfl
@[simp] theorem cEqS(i j:Str):cmpD .eq (.str i) (.str j) h=.ok (.bl (decide (i=j))) h:=by rw[<- jzw];rfl
@[simp] theorem cNeS(i j:Str):cmpD .ne (.str i) (.str j) h=.ok (.bl (!decide (i=j))) h:=by rw[<- jzw];rfl
@[simp] theorem cNeT(a b:List D):cmpD .ne (.tup a) (.tup b) h=(match eqL (eqD 19) a b with|some k=>.ok (.bl (!k)) h|none=>.bad):=rfl
@[simp] theorem cEqT(a b:List D):cmpD .eq (.tup a) (.tup b) h=(match eqL (eqD 19) a b with|some k=>.ok (.bl k) h|none=>.bad):=rfl
@[simp] theorem eqL0(f:D->D->Option Bool):eqL f [] []=some true:=rfl
@[simp] theorem eqL1(f:D->D->Option Bool)(x y:D)(xs ys:List D):eqL f (x::xs) (y::ys)=(match f x y,eqL f xs ys with|some a,some b=>some (a&&b)|_,_=>none):=rfl
@[simp] theorem eqDI(n:Nat)(i j:Int):eqD n (.int i) (.int j)=some (decide (i=j)):=by rw[<- jzw];cases n<;>rfl
@[simp] theorem eqDS(n:Nat)(i j:Str):eqD n (.str i) (.str j)=some (decide (i=j)):=by rw[<- jzw];cases n<;>rfl
@[simp] theorem eqDT(n:Nat)(a b:List D):eqD (n+1) (.tup a) (.tup b)=eqL (eqD n) a b:=rfl
@[simp] theorem isInt(i:Int):isinL (.int i) (.ty "int") h=.ok (.bl true) h:=rfl
@[simp] theorem isIntB(i:Int):isinL (.int i) (.ty "bool") h=.ok (.bl false) h:=rfl
@[simp] theorem isIntT(i:Int):isinL (.int i) (.ty "tuple") h=.ok (.bl false) h:=rfl
@[simp] theorem isIntL(i:Int):isinL (.int i) (.ty "list") h=.ok (.bl false) h:=rfl
@[simp] theorem isIntTL(i:Int):isinL (.int i) (.tup [.ty "tuple",.ty "list"]) h=.ok (.bl false) h:=rfl
@[simp] theorem isTupT(l:List D):isinL (.tup l) (.ty "tuple") h=.ok (.bl true) h:=rfl
@[simp] theorem isTupL(l:List D):isinL (.tup l) (.ty "list") h=.ok (.bl false) h:=rfl
@[simp] theorem isTupTL(l:List D):isinL (.tup l) (.tup [.ty "tuple",.ty "list"]) h=.ok (.bl true) h:=rfl
@[simp] theorem isTupB(l:List D):isinL (.tup l) (.ty "bool") h=.ok (.bl false) h:=rfl
@[simp] theorem isTupI(l:List D):isinL (.tup l) (.ty "int") h=.ok (.bl false) h:=rfl
@[simp] theorem nmInt:Ty.int.nm="int":=rfl
@[simp] theorem nmBool:Ty.bool.nm="bool":=rfl
@[simp] theorem nmStr:Ty.str.nm="str":=rfl
@[simp] theorem nmTup:Ty.tuple.nm="tuple":=rfl
@[simp] theorem nmLst:Ty.list.nm="list":=rfl
@[simp] theorem cIsN(x:D):cmpD .is x .non h=.ok (.bl (isNon x)) h:=rfl
@[simp] theorem cIsNt(x:D):cmpD .isnot x .non h=.ok (.bl (!isNon x)) h:=rfl
@[simp] theorem tBl(b:Bool):truD (.bl b) h=some b:=rfl
@[simp] theorem tInt(i:Int):truD (.int i) h=some (i != 0):=rfl
@[simp] theorem sTup(l:List D):seqD (.tup l) h=some l:=rfl
@[simp] theorem sRef(n:Nat):seqD (.ref n) h=lstAt h n:=rfl
@[simp] theorem iTup(l:List D)(i:Int):ixD (.tup l) (.int i) h=(match atI l i with|some d=>.ok d h|none=>.bad):=rfl
theorem iRef{n:Nat}{l:List D}(i:Int)(e:lstAt h n=some l):ixD (.ref n) (.int i) h=(match atI l i with|some d=>.ok d h|none=>.bad):=by
 have d0:dctAt h (.ref n)=none:=by
  show(match h[n]? with|some (.dct l)=>some l|some (.dcz l)=>some l|_=>none)=none
  unfold lstAt at e
  cases q:h[n]? with
  |none=>rfl
  |some o=>
   cases o with
   |lst l'=>rfl
   |ro l'=>rfl
   |dct l'=>rw[q] at e;cases e
   |dtt l'=>rfl
   |ded=>rfl
   |dtf l'=>rfl
   |ins c f=>rfl
   |stt l'=>rfl
   |dcz l'=>rw[q] at e;cases e
 have d1:dtfAt h (.ref n)=none:=by
  show(match h[n]? with|some (.dtf l)=>some l|_=>none)=none
  unfold lstAt at e
  cases q:h[n]? with
  |none=>rfl
  |some o=>
   cases o with
   |dtf l'=>rw[q] at e;cases e
   |_=>rfl
 have e2:seqD (.ref n) h=some l:=e
 have e3:ixD (.ref n) (.int i) h=(match dctAt h (.ref n) with|some l=>ixK l (.int i) h|none=>match dtfAt h (.ref n) with|some l=>ixF l (.int i) h|none=>ixS (.ref n) (.int i) h):=rfl
 rw[e3,d0,d1]
 show ixS (.ref n) (.int i) h=_
 unfold ixS
 rw[e2]<;>rfl
theorem iDct{n:Nat}{l:List (Key×D)}(y:D)(e:h[n]? =some (.dct l)):ixD (.ref n) y h=ixK l y h:=by
 have d0:dctAt h (.ref n)=some l:=by
  show(match h[n]? with|some (.dct l)=>some l|some (.dcz l)=>some l|_=>none)=some l
  rw[e]
 show(match dctAt h (.ref n) with|some l=>ixK l y h|none=>match dtfAt h (.ref n) with|some l=>ixF l y h|none=>ixS (.ref n) y h)=_
 rw[d0]
def lenN(x:D)(h:Hh):Rs D:=match x with
 |.str z=>if z.length<=sizeLine then .ok (.int z.length) h else .bad
 |x=>match dtfAt h x with
  |some l=>.ok (.int l.length) h
  |none=>match dctAt h x with
   |some l=>.ok (.int l.length) h
   |none=>.bad
@[simp] theorem bLen(x:D):bltD .len [x] h=(match seqD x h with|some l=>.ok (.int l.length) h|none=>lenN x h):=rfl
@[simp] theorem evAtt(o:E)(cn f:Str):ev G cl (.att o cn f) r h=(ev G cl o r h).bind λx h=>attD cn x f h:=by rw[ev]<;>rfl
@[simp] theorem evNew(cn:Str)(f:Nat)(l:Es):ev G cl (.new cn f l) r h=(evs G cl l r h).bind λds h=>(newD cn (cl f) ds h).nx:=by rw[ev]<;>rfl
@[simp] theorem evMth(o:E)(cn m:Str)(f:Nat)(l:Es):ev G cl (.mth o cn m f l) r h=(ev G cl o r h).bind λx h=>if mthOk x cn m h=true then(evs G cl l r h).bind λds h=>(cl f (x::ds) h).nx else .bad:=by rw[ev]<;>rfl
@[simp] theorem evSlT(a b:E):ev G cl (.slT a b) r h=(ev G cl a r h).bind λx h=>(ev G cl b r h).bind λy h=>slTD x y h:=by rw[ev]<;>rfl
@[simp] theorem evSlA(a b:E):ev G cl (.slA a b) r h=(ev G cl a r h).bind λx h=>(ev G cl b r h).bind λy h=>slAD x y h:=by rw[ev]<;>rfl
@[simp] theorem evSlZ(a b:E):ev G cl (.slZ a b) r h=(ev G cl a r h).bind λx h=>(ev G cl b r h).bind λy h=>slZD x y h:=by rw[ev]<;>rfl
@[simp] theorem evChn(op op':Cop)(a b c:E):ev G cl (.chn op op' a b c) r h=(ev G cl a r h).bind λx h=>(ev G cl b r h).bind λy h=>(cmpD op x y h).bind λp h=>match p with
 |.bl true=>(ev G cl c r h).bind λz h=>cmpD op' y z h
 |.bl false=>.ok (.bl false) h
 |_=>.bad:=by rw[ev]<;>rfl
@[simp] theorem evRev(o:E):ev G cl (.rev o) r h=(ev G cl o r h).bind λx h=>revD x h:=by rw[ev]<;>rfl
@[simp] theorem xsAsgL(l:List Nat)(e:E):xs G cl W (.asgL l e) r h=(ev G cl e r h).nx.bind λx h=>match x with
 |.ref n=>(match lstAt h n with
  |some ds=>if ds.length=l.length then .ok (.nx (setAll l ds r)) h else .bad
  |none=>.bad)
 |_=>.bad:=by rw[xs]<;>rfl
@[simp] theorem xsExN(cn:Str)(f:Nat)(l:Es):xs G cl W (.exN cn f l) r h=(evs G cl l r h).nx.bind λds h=>((newD cn (cl f) ds h).inn r).bind λ_ h=>.ok (.nx r) h:=by rw[xs]<;>rfl
@[simp] theorem xsSfl(o:E)(cn f:Str)(e:E):xs G cl W (.sfl o cn f e) r h=(ev G cl e r h).nx.bind λz h=>(ev G cl o r h).nx.bind λx h=>(satD cn x z f h).nx.bind λ_ h=>.ok (.nx r) h:=by rw[xs]<;>rfl
@[simp] theorem bIs(x y:D):bltD .isinst [x,y] h=isinL x y h:=rfl
@[simp] theorem bIntI(i:Int):bltD .int [.int i] h=.ok (.int i) h:=rfl
@[simp] theorem bIntB(i:Bool):bltD .int [.bl i] h=.ok (.int (if i then 1 else 0)) h:=rfl
@[simp] theorem bList(x:D):bltD .list [x] h=(match seqD x h with|some l=>.ok (.ref h.length) (h++ [.lst l])|none=>.bad):=rfl
@[simp] theorem jz9(n:Nat):isLst (.ref n) h=(lstAt h n).isSome:=rfl
@[simp] theorem appR(n:Nat)(y:D):appD (.ref n) y h=(match h[n]? with|some (.lst l)=>if l.length<1000000 then .ok .non (h.set n (.lst (l++ [y]))) else .bad|_=>.bad):=rfl
@[simp] theorem jzx(l:List D):lstAt (h++ [.lst l]) h.length=some l:=by simp[lstAt,lstOf]
theorem jz6{n:Nat}{l:List D}(o:List O)(e:lstAt h n=some l):lstAt (h++o) n=some l:=by
 unfold lstAt at e⊢
 cases q:h[n]? with
 |none=>rw[q] at e;cases e
 |some u=>
  rw[List.getElem?_append_left (List.getElem?_eq_some_iff.mp q).1,q]
  rw[q] at e;exact e
@[simp] theorem get_last(o:O):(h++ [o])[h.length]? =some o:=by simp
@[simp] theorem set_last(o o':O):(h++ [o]).set h.length o'=h++ [o']:=by simp
@[simp] theorem forS0(t:Tg)(b:Ev->Hh->Rs Fl):forS t b [] r h=.ok (.nx r) h:=rfl
@[simp] theorem forS1(t:Tg)(b:Ev->Hh->Rs Fl)(d:D)(ds:List D):forS t b (d::ds) r h=(match setT t d r with|none=>.bad|some r1=>(b r1 h).bind λfl h=>match fl with|.nx r2=>forS t b ds r2 h|.ct r2=>forS t b ds r2 h|.bk r2=>.ok (.nx r2) h|.rt d=>.ok (.rt d) h):=rfl
@[simp] theorem forDT(t:Tg)(b:Ev->Hh->Rs Fl)(l:List D):forD W t b (.tup l) r h=forS t b l r h:=rfl
@[simp] theorem forDR(t:Tg)(b:Ev->Hh->Rs Fl)(n:Nat):forD W t b (.ref n) r h=forI t b n W 0 r h:=rfl
@[simp] theorem endRt(d:D):endD (.rt d) h=.ok d h:=rfl
@[simp] theorem endNx(d:Ev):endD (.nx d) h=.ok .non h:=rfl
end
theorem jzA{G:Gs}{T:Nat->Option Fc}{W n f:Nat}{c:Fc}{ds:List D}{h:Hh}(hc:T f=some c)(hl:ds.length=c.np):callD G T W (n+1) f ds h=(xss G (callD G T W n) W c.body (ds.map some++List.replicate (c.ns-c.np) none) h).bind endD:=by
 simp only[callD,hc]
 rw[if_pos hl]
end Ng
end
section
namespace Ng
open PySem L2
def dW1c:E:=(.and (.cmp .gt (.var 3) (.int 0)) (.cmp .lt (.blt .len (.cons (.var 5) .nil)) (.var 2)))
def dW1b:Ss:=(.cons (.ex (.app (.var 5) (.bin .mod (.var 3) (.int 1013)))) (.cons (.asg (.nm 3) (.bin .fdiv (.var 3) (.int 1013))) .nil))
def dW2c:E:=(.cmp .lt (.blt .len (.cons (.var 5) .nil)) (.var 2))
def dW2b:Ss:=(.cons (.asg (.nm 6) (.bin .add (.blt .len (.cons (.var 5) .nil)) (.int 1))) (.cons (.asg (.nm 4) (.bin .mod (.bin .add (.bin .add (.bin .mul (.var 4) (.int 48271)) (.bin .mul (.bin .mul (.var 6) (.var 6)) (.int 6133))) (.int 17)) (.int 2147483647))) (.cons (.ex (.app (.var 5) (.bin .mod (.bin .mod (.bin .mul (.bin .mod (.var 4) (.int 65521)) (.bin .add (.bin .mod (.bin .fdiv (.var 4) (.int 65521)) (.int 32749)) (.int 1))) (.int 1000003)) (.int 1013)))) .nil)))
def InR(row:List Int):Prop:=∀v∈row,0<=v/\v<1013
theorem InR.snoc{row:List Int}{v:Int}(h:InR row)(a:0<=v)(b:v<1013):InR (row++ [v]):=λu hu=>by
 rcases List.mem_append.mp hu with hu|hu
 ·exact h u hu
 ·have:u=v:=by simpa using hu
  subst this;exact⟨a,b⟩
section
variable (G:Gs)(cl:Cl)(W:Nat)(h:Hh)
theorem dW1(M:Nat)(hM:M<=1000)(d0 d1 d4:Option D)(d6:Option D):∀(k:Nat)(row:List Int)(cell:Int),row.length<=M->InR row->M-row.length<k->
 ∃row' cell',row'.length<=M/\InR row'/\whileF (ev G cl dW1c) (xss G cl W dW1b) k [d0,d1,some (.int M),some (.int cell),d4,some (.ref h.length),d6] (h++ [.lst (row.map D.int)])
  =.ok (.nx [d0,d1,some (.int M),some (.int cell'),d4,some (.ref h.length),d6]) (h++ [.lst (row'.map D.int)])
 |0,_,_,_,_,hk=>by omega
 |k+1,row,cell,hl,hr,hk=>by
  by_cases hc:0<cell
  ·by_cases hm:row.length<M
   ·have hm':((row.length:Int)<(M:Int)):=by omega
    have hb:InR (row++ [cell%1013]):=hr.snoc (Int.emod_nonneg _ (by decide)) (Int.emod_lt_of_pos _ (by decide))
    obtain⟨row',cell',h1,h2,h3⟩:=dW1 M hM d0 d1 d4 d6 k (row++ [cell%1013]) (cell/1013) (by simp;omega) hb (by simp;omega)
    refine⟨row',cell',h1,h2,?_⟩
    rw[<- h3]
    have hz:row.length<1000000:=by omega
    simp (disch:=omega) [whileF,dW1c,dW1b,hc,hm',hm,hz,bMod,bDiv]
   ·refine⟨row,cell,hl,hr,?_⟩
    have hm':¬((row.length:Int)<(M:Int)):=by omega
    simp[whileF,dW1c,hc,hm',hm]
  ·refine⟨row,cell,hl,hr,?_⟩
   simp[whileF,dW1c,hc]
def nxS(mark seed:Int):Int:=(seed*48271+mark*mark*6133+17)%2147483647
def nxV(s:Int):Int:=(s%65521)*(s/65521%32749+1)%1000003%1013
theorem dT2(d0 d1 d2 d3 d5:Option D)(mark seed:Int)(hm:0<=mark)(hm2:mark<100000)(hh:Hh):
 xs G cl W (.asg (.nm 4) (.bin .mod (.bin .add (.bin .add (.bin .mul (.var 4) (.int 48271)) (.bin .mul (.bin .mul (.var 6) (.var 6)) (.int 6133))) (.int 17)) (.int 2147483647))) [d0,d1,d2,d3,some (.int seed),d5,some (.int mark)] hh
  =.ok (.nx [d0,d1,d2,d3,some (.int (nxS mark seed)),d5,some (.int mark)]) hh:=by
 have m1:binD .mul (.int mark) (.int mark) hh=.ok (.int (mark*mark)) hh:=bMulL hh (by omega) (by omega)
 have m2:binD .mul (.int seed) (.int 48271) hh=.ok (.int (seed*48271)) hh:=bMulR hh (by omega) (by omega)
 have m3:∀x:Int,binD .mul (.int x) (.int 6133) hh=.ok (.int (x*6133)) hh:=λx=>bMulR hh (by omega) (by omega)
 have q1:∀x:Int,binD .mod (.int x) (.int 2147483647) hh=.ok (.int (x%2147483647)) hh:=λx=>bMod hh (by omega)
 have e1:∀x:Int,(seed*48271+mark*mark*6133+17)%2147483647=nxS mark seed:=λ_=>rfl
 simp only[xsAsg,evBin,evVar,List.getElem?_cons_succ,ge0,evInt,jze,nxOk,m1,m2,m3,bAdd,q1,setNm,List.set_cons_succ,List.set_cons_zero,e1 0]
theorem dT3(d0 d1 d2 d3 d6:Option D)(row:List Int)(seed:Int)(hz:row.length<1000000):
 xs G cl W (.ex (.app (.var 5) (.bin .mod (.bin .mod (.bin .mul (.bin .mod (.var 4) (.int 65521)) (.bin .add (.bin .mod (.bin .fdiv (.var 4) (.int 65521)) (.int 32749)) (.int 1))) (.int 1000003)) (.int 1013)))) [d0,d1,d2,d3,some (.int seed),some (.ref h.length),d6] (h++ [.lst (row.map D.int)])
  =.ok (.nx [d0,d1,d2,d3,some (.int seed),some (.ref h.length),d6]) (h++ [.lst ((row++ [nxV seed]).map D.int)]):=by
 have hk:=Int.emod_nonneg seed (show(65521:Int)≠0 by decide)
 have hk2:=Int.emod_lt_of_pos seed (show(0:Int)<65521 by decide)
 have m4:∀(x:Int) hh,binD .mul (.int (seed%65521)) (.int x) hh=.ok (.int ((seed%65521)*x)) hh:=λx hh=>bMulL hh (by omega) (by omega)
 have q2:∀(x:Int) hh,binD .mod (.int x) (.int 65521) hh=.ok (.int (x%65521)) hh:=λx hh=>bMod hh (by omega)
 have q3:∀(x:Int) hh,binD .mod (.int x) (.int 32749) hh=.ok (.int (x%32749)) hh:=λx hh=>bMod hh (by omega)
 have q4:∀(x:Int) hh,binD .mod (.int x) (.int 1000003) hh=.ok (.int (x%1000003)) hh:=λx hh=>bMod hh (by omega)
 have q5:∀(x:Int) hh,binD .mod (.int x) (.int 1013) hh=.ok (.int (x%1013)) hh:=λx hh=>bMod hh (by omega)
 have q6:∀(x:Int) hh,binD .fdiv (.int x) (.int 65521) hh=.ok (.int (x/65521)) hh:=λx hh=>bDiv hh (by omega) (by omega)
 have e2:∀s:Int,(s%65521)*(s/65521%32749+1)%1000003%1013=nxV s:=λ_=>rfl
 simp only[xsEx,evBin,evVar,List.getElem?_cons_succ,ge0,evInt,jze,nxOk,evApp,jz9,jzx,Option.isSome_some,if_true,bAdd,q2,q3,q4,q5,q6,m4,e2,appR,get_last,List.length_map,hz,if_pos,set_last,List.map_append,List.map_cons,List.map_nil]
theorem dT1(d0 d1 d2 d3 d4 d6:Option D)(row:List Int):
 xs G cl W (.asg (.nm 6) (.bin .add (.blt .len (.cons (.var 5) .nil)) (.int 1))) [d0,d1,d2,d3,d4,some (.ref h.length),d6] (h++ [.lst (row.map D.int)])
  =.ok (.nx [d0,d1,d2,d3,d4,some (.ref h.length),some (.int ((row.length:Int)+1))]) (h++ [.lst (row.map D.int)]):=by
 simp only[xsAsg,evBin,evBlt,jzj,jzp,evVar,List.getElem?_cons_succ,ge0,evInt,jze,nxOk,bLen,sRef,jzx,List.length_map,bAdd,setNm,List.set_cons_succ,List.set_cons_zero]
theorem dW2turn(d0 d1 d2 d3 d6:Option D)(row:List Int)(seed:Int)(hz:row.length<1000):
 xss G cl W dW2b [d0,d1,d2,d3,some (.int seed),some (.ref h.length),d6] (h++ [.lst (row.map D.int)])
  =.ok (.nx [d0,d1,d2,d3,some (.int (nxS ((row.length:Int)+1) seed)),some (.ref h.length),some (.int ((row.length:Int)+1))]) (h++ [.lst ((row++ [nxV (nxS ((row.length:Int)+1) seed)]).map D.int)]):=by
 rw[dW2b,xssNx (dT1 G cl W h d0 d1 d2 d3 _ d6 row),xssNx (dT2 G cl W d0 d1 d2 d3 _ _ seed (by omega) (by omega) _),xssNx (dT3 G cl W h _ _ _ _ _ row _ (by omega)),jzo]
theorem dW2(M:Nat)(hM:M<=1000)(d0 d1 d3:Option D):∀(k:Nat)(row:List Int)(seed:Int)(d6:Option D),row.length<=M->InR row->M-row.length<k->
 ∃row' seed' d6',row'.length=M/\InR row'/\whileF (ev G cl dW2c) (xss G cl W dW2b) k [d0,d1,some (.int M),d3,some (.int seed),some (.ref h.length),d6] (h++ [.lst (row.map D.int)])
  =.ok (.nx [d0,d1,some (.int M),d3,some (.int seed'),some (.ref h.length),d6']) (h++ [.lst (row'.map D.int)]):=by
 intro k
 induction k with
 |zero=>intro row seed d6 _ _ hk;omega
 |succ k ih=>
  intro row seed d6 hl hr hk
  by_cases hm:row.length<M
  ·have hm':((row.length:Int)<(M:Int)):=by omega
   obtain⟨row',seed',d6',h1,h2,h3⟩:=ih (row++ [nxV (nxS ((row.length:Int)+1) seed)]) (nxS ((row.length:Int)+1) seed) (some (.int ((row.length:Int)+1))) (by simp;omega)
    (hr.snoc (Int.emod_nonneg _ (by decide)) (Int.emod_lt_of_pos _ (by decide))) (by simp;omega)
   refine⟨row',seed',d6',h1,h2,?_⟩
   rw[<- h3]
   have hc:ev G cl dW2c [d0,d1,some (.int M),d3,some (.int seed),some (.ref h.length),d6] (h++ [.lst (row.map D.int)])=.ok (.bl true) (h++ [.lst (row.map D.int)]):=by simp[dW2c,hm]
   simp only[whileF,hc,jze,nxOk,tBl,dW2turn G cl W h d0 d1 _ d3 d6 row seed (by omega)]
  ·refine⟨row,seed,d6,by omega,hr,?_⟩
   have hc:ev G cl dW2c [d0,d1,some (.int M),d3,some (.int seed),some (.ref h.length),d6] (h++ [.lst (row.map D.int)])=.ok (.bl false) (h++ [.lst (row.map D.int)]):=by simp[dW2c,hm]
   simp only[whileF,hc,jze,nxOk,tBl]
def dIf:S:=.iff (.cmp .lt (.var 1) (.blt .len (.cons (.var 0) .nil))) (.cons (.asg (.nm 3) (.ix (.var 0) (.var 1))) .nil) (.cons (.iff (.cmp .gt (.blt .len (.cons (.var 0) .nil)) (.int 0)) (.cons (.asg (.nm 3) (.bin .add (.bin .add (.bin .mod (.ix (.var 0) (.bin .mod (.var 1) (.blt .len (.cons (.var 0) .nil)))) (.int 999983)) (.bin .mul (.bin .mul (.var 1) (.var 1)) (.int 97))) (.int 1))) .nil) .nil) .nil)
def drawsB:Ss:=(.cons (.asg (.nm 3) (.bin .add (.bin .mul (.int 7) (.var 1)) (.int 1))) (.cons dIf (.cons (.asg (.nm 4) (.bin .add (.bin .add (.bin .mod (.var 3) (.int 999983)) (.bin .mul (.int 31) (.var 1))) (.int 5))) (.cons (.asg (.nm 5) (.lst .nil)) (.cons (.iff (.cmp .ge (.var 3) (.bin .pow (.int 10) (.int 18))) (.cons (.whl dW1c dW1b) .nil) .nil) (.cons (.whl dW2c dW2b) (.cons (.ret (.var 5)) .nil)))))))
theorem atI_ok{l:List Int}{i:Int}(a:0<=i)(b:i<l.length):∃v,atI (l.map D.int) i=some (.int v):=by
 have hb:i.toNat<l.length:=by omega
 refine⟨l[i.toNat],?_⟩
 have:=jzQ (xs:=l.map D.int) (j:=i.toNat) (v:=.int l[i.toNat]) (by rw[List.getElem?_map,List.getElem?_eq_getElem hb];rfl)
 rwa [show((i.toNat:Nat):Int)=i by omega] at this
theorem dIf_ok(s:Nat)(ns:List Int)(at' c0:Int)(d2 d4 d5 d6:Option D)(h0:0<=at')(h1:at'<100000)(hs:lstAt h s=some (ns.map D.int)):
 ∃c:Int,xs G cl W dIf [some (.ref s),some (.int at'),d2,some (.int c0),d4,d5,d6] h=.ok (.nx [some (.ref s),some (.int at'),d2,some (.int c),d4,d5,d6]) h:=by
 by_cases hl:at'<(ns.length:Int)
 ·obtain⟨v,hv⟩:=atI_ok h0 hl
  exact⟨v,by simp[dIf,hs,hl,hv,iRef h _ hs]⟩
 ·by_cases hp:(0:Int)<ns.length
  ·obtain⟨v,hv⟩:=atI_ok (l:=ns) (i:=at'%ns.length) (Int.emod_nonneg _ (by omega)) (Int.emod_lt_of_pos _ hp)
   have m0:∀x:Int,binD .mod (.int x) (.int ns.length) h=.ok (.int (x%ns.length)) h:=λx=>bMod h hp
   have m1:binD .mul (.int at') (.int at') h=.ok (.int (at'*at')) h:=bMulL h (by omega) (by omega)
   have m2:∀x:Int,binD .mul (.int x) (.int 97) h=.ok (.int (x*97)) h:=λx=>bMulR h (by omega) (by omega)
   have m3:∀x:Int,binD .mod (.int x) (.int 999983) h=.ok (.int (x%999983)) h:=λx=>bMod h (by omega)
   refine⟨v%999983+at'*at'*97+1,?_⟩
   simp only[dIf,xsIff,jzF,jzo,xsAsg,evCmp,evVar,List.getElem?_cons_succ,ge0,evBlt,jzj,jzp,jze,nxOk,bLen,sRef,hs,List.length_map,cLt,tBl,hl,decide_false,evInt,cGt,hp,decide_true,evBin,evIx,m0,iRef h _ hs,hv,m1,m2,m3,bAdd,setNm,List.set_cons_succ,List.set_cons_zero]
  ·have hp2:¬(0<ns.length):=by omega
   exact⟨c0,by simp[dIf,hs,hl,hp,hp2]⟩
theorem draws_ok(s:Nat)(ns:List Int)(at':Int)(M:Nat)(hM:M<=1000)(h0:0<=at')(h1:at'<100000)(hs:lstAt h s=some (ns.map D.int))(hW:2000<=W):
 ∃row:List Int,row.length=M/\InR row/\xss G cl W drawsB [some (.ref s),some (.int at'),some (.int M),none,none,none,none] h=.ok (.rt (.ref h.length)) (h++ [.lst (row.map D.int)]):=by
 have a1:xs G cl W (.asg (.nm 3) (.bin .add (.bin .mul (.int 7) (.var 1)) (.int 1))) [some (.ref s),some (.int at'),some (.int M),none,none,none,none] h=.ok (.nx [some (.ref s),some (.int at'),some (.int M),some (.int (7*at'+1)),none,none,none]) h:=by
  have m1:binD .mul (.int 7) (.int at') h=.ok (.int (7*at')) h:=bMulL h (by omega) (by omega)
  simp only[xsAsg,evBin,evVar,List.getElem?_cons_succ,ge0,evInt,jze,nxOk,m1,bAdd,setNm,List.set_cons_succ,List.set_cons_zero]
 obtain⟨c,a2⟩:=dIf_ok G cl W h s ns at' (7*at'+1) (some (.int M)) none none none h0 h1 hs
 have a3:xs G cl W (.asg (.nm 4) (.bin .add (.bin .add (.bin .mod (.var 3) (.int 999983)) (.bin .mul (.int 31) (.var 1))) (.int 5))) [some (.ref s),some (.int at'),some (.int M),some (.int c),none,none,none] h=.ok (.nx [some (.ref s),some (.int at'),some (.int M),some (.int c),some (.int (c%999983+31*at'+5)),none,none]) h:=by
  have m1:binD .mul (.int 31) (.int at') h=.ok (.int (31*at')) h:=bMulL h (by omega) (by omega)
  have m3:∀x:Int,binD .mod (.int x) (.int 999983) h=.ok (.int (x%999983)) h:=λx=>bMod h (by omega)
  simp only[xsAsg,evBin,evVar,List.getElem?_cons_succ,ge0,evInt,jze,nxOk,m1,m3,bAdd,setNm,List.set_cons_succ,List.set_cons_zero]
 have a4:∀x:Int,xs G cl W (.asg (.nm 5) (.lst .nil)) [some (.ref s),some (.int at'),some (.int M),some (.int c),some (.int x),none,none] h=.ok (.nx [some (.ref s),some (.int at'),some (.int M),some (.int c),some (.int x),some (.ref h.length),none]) (h++ [.lst (([]:List Int).map D.int)]):=λx=>by
  simp[xsAsg]
 have a5:∀x:Int,∃row c',row.length<=M/\InR row/\xs G cl W (.iff (.cmp .ge (.var 3) (.bin .pow (.int 10) (.int 18))) (.cons (.whl dW1c dW1b) .nil) .nil) [some (.ref s),some (.int at'),some (.int M),some (.int c),some (.int x),some (.ref h.length),none] (h++ [.lst (([]:List Int).map D.int)])
  =.ok (.nx [some (.ref s),some (.int at'),some (.int M),some (.int c'),some (.int x),some (.ref h.length),none]) (h++ [.lst (row.map D.int)]):=λx=>by
  by_cases hc:(1000000000000000000:Int)<=c
  ·obtain⟨row,c',r1,r2,r3⟩:=dW1 G cl W h M hM (some (.ref s)) (some (.int at')) (some (.int x)) none W [] c (Nat.zero_le _) (λ_ z=>by cases z) (by simp;omega)
   refine⟨row,c',r1,r2,?_⟩
   simp only[xsIff,evCmp,evVar,List.getElem?_cons_succ,ge0,evBin,evInt,jze,nxOk,bPow18,cGe,hc,decide_true,tBl,jzF,xsWhl,r3,jzo]
  ·refine⟨[],c,Nat.zero_le _,(λ_ z=>by cases z),?_⟩
   simp only[xsIff,evCmp,evVar,List.getElem?_cons_succ,ge0,evBin,evInt,jze,nxOk,bPow18,cGe,hc,decide_false,tBl,jzo]
 obtain⟨row1,c',r1,r2,a5⟩:=a5 (c%999983+31*at'+5)
 obtain⟨row,sd,d6,q1,q2,a6⟩:=dW2 G cl W h M hM (some (.ref s)) (some (.int at')) (some (.int c')) W row1 (c%999983+31*at'+5) none r1 r2 (by omega)
 refine⟨row,q1,q2,?_⟩
 rw[drawsB,xssNx a1,xssNx a2,xssNx a3,xssNx (a4 _),xssNx a5,xssNx (show xs G cl W (.whl dW2c dW2b) _ _=_ from(xsWhl G cl W _ _ dW2c dW2b).trans a6)]
 exact xssRt (by simp only[xsRet,evVar,List.getElem?_cons_succ,ge0,jze,nxOk])
end
end Ng
end
section
namespace Ng
open PySem L2
theorem zzz{t:Tg}{body:Ev->Hh->Rs Fl}(F:Ev->Prop)(h:Hh):∀(l:List D),(∀d∈l,∀r,F r->∃r1 r2,setT t d r=some r1/\body r1 h=.ok (.nx r2) h/\F r2)->∀r,F r->∃r',forS t body l r h=.ok (.nx r') h/\F r'
 | [],_,r,hF=>⟨r,by simp,hF⟩
 |d::l,hb,r,hF=>by
  obtain⟨r1,r2,e1,e2,f2⟩:=hb d List.mem_cons_self r hF
  obtain⟨r',e3,f3⟩:=zzz F h l (λd hd=>hb d (List.mem_cons_of_mem _ hd)) r2 f2
  refine⟨r',?_,f3⟩
  rw[<- e3,forS1,e1]
  show(body r1 h).bind _=_
  rw[e2]
  rfl
theorem t8{t:Int}(h0:0<=t)(h1:t<8):t=0\/t=1\/t=2\/t=3\/t=4\/t=5\/t=6\/t=7:=by omega
def tx(t x y:Int):Int:=if t=0 then x else if t=1 then -y else if t=2 then -x else if t=3 then y else if t=4 then -x else if t=5 then -y else if t=6 then x else y
def ty(t x y:Int):Int:=if t=0 then y else if t=1 then x else if t=2 then -y else if t=3 then -x else if t=4 then y else if t=5 then -x else if t=6 then -y else x
section
variable (h:Hh)
@[simp] theorem isStrTL(i:Str):isinL (.str i) (.tup [.ty "tuple",.ty "list"]) h=.ok (.bl false) h:=rfl
@[simp] theorem isBlTL(i:Bool):isinL (.bl i) (.tup [.ty "tuple",.ty "list"]) h=.ok (.bl false) h:=rfl
@[simp] theorem isNonTL:isinL .non (.tup [.ty "tuple",.ty "list"]) h=.ok (.bl false) h:=rfl
@[simp] theorem isStrB(i:Str):isinL (.str i) (.ty "bool") h=.ok (.bl false) h:=rfl
@[simp] theorem isStrI(i:Str):isinL (.str i) (.ty "int") h=.ok (.bl false) h:=rfl
@[simp] theorem isStrS(i:Str):isinL (.str i) (.ty "str") h=.ok (.bl true) h:=rfl
@[simp] theorem isBlB(i:Bool):isinL (.bl i) (.ty "bool") h=.ok (.bl true) h:=rfl
@[simp] theorem inN:isNon .non=true:=rfl
@[simp] theorem inI(i:Int):isNon (.int i)=false:=rfl
@[simp] theorem inS(i:Str):isNon (.str i)=false:=rfl
@[simp] theorem inB(i:Bool):isNon (.bl i)=false:=rfl
@[simp] theorem inTu(i:List D):isNon (.tup i)=false:=rfl
@[simp] theorem inR(i:Nat):isNon (.ref i)=false:=rfl
end
def pd:Nat->D->Bool
 |_,.int _=>true
 |_,.str _=>true
 |_,.bl _=>true
 |_,.non=>true
 |k+1,.tup l=>decide (l.length<=1000)&&l.all (pd k)
 |_,_=>false
theorem rngD_mem{j:Nat}{d:D}(hd:d∈rngD 0 j):∃k:Nat,k<j/\d=.int k:=by
 unfold rngD at hd
 obtain⟨k,hk,rfl⟩:=List.mem_map.mp hd
 exact⟨k,by simpa using hk,by simp⟩
end Ng
end
section
namespace Ng
open PySem L2
theorem zzw(h0 g:Hh)(o:O):(h0++o::g)[h0.length]? =some o:=by simp
theorem set_mid(h0 g:Hh)(o o':O):(h0++o::g).set h0.length o'=h0++o'::g:=by simp
theorem zz6(h0 g:Hh)(l:List D)(y:D)(hl:l.length<1000000):appD (.ref h0.length) y (h0++ .lst l::g)=.ok .non (h0++ .lst (l++ [y])::g):=by
 rw[appR,zzw]
 show(if _ then _ else _)=_
 rw[if_pos hl,set_mid]
theorem wzy(h0 g:Hh)(l:List D):lstAt (h0++ .lst l::g) h0.length=some l:=by
 unfold lstAt;rw[zzw];rfl
theorem wzc{t:Tg}{body:Ev->Hh->Rs Fl}(I:Nat->Ev->Hh->Prop):∀(l:List D)(i:Nat),(∀j d,l[j]? =some d->∀r h,I (i+j) r h->∃r1 r2 h2,setT t d r=some r1/\body r1 h=.ok (.nx r2) h2/\I (i+j+1) r2 h2)->
 ∀r h,I i r h->∃r' h',forS t body l r h=.ok (.nx r') h'/\I (i+l.length) r' h'
 | [],i,_,r,h,hI=>⟨r,h,by simp,hI⟩
 |d::l,i,hb,r,h,hI=>by
  obtain⟨r1,r2,h2,e1,e2,i2⟩:=hb 0 d rfl r h hI
  obtain⟨r',h',e3,i3⟩:=wzc I l (i+1) (λj d hd r h hI=>by
   have:=hb (j+1) d (by simpa using hd) r h (by rw[show i+(j+1)=i+1+j by omega];exact hI)
   rw[show i+(j+1)=i+1+j by omega] at this
   exact this) r2 h2 i2
  refine⟨r',h',?_,by rw[List.length_cons,show i+(l.length+1)=i+1+l.length by omega];exact i3⟩
  rw[<- e3,forS1,e1]
  show(body r1 h).bind _=_
  rw[e2]
  rfl
theorem vzn(j k:Nat)(hk:k<j):(rngD 0 j)[k]? =some (D.int k):=by
 unfold rngD
 rw[List.getElem?_map,List.getElem?_range (by simpa using hk)]
 simp
theorem qzp(j:Nat):(rngD 0 j).length=j:=by unfold rngD;simp
theorem zzC{G:Gs}{cl:Cl}{t:Tg}{it cs:Es}{e:E}{N:List Str}{cap:List Nat}{r:Ev}{h h1 h':Hh}{j:Int}(hi:evs G cl it r h=.ok [.int j] h1)(hj:okR j)
 (hc:compS t (evt G cl cs) (ev G cl e) h1.length (rngD 0 j) (blockE N cap r) (h1++ [O.lst []])=.ok () h'):ev G cl (.comp t .r1 it cs e N cap) r h=.ok (.ref h1.length) h':=by
 rw[evComp,hi]
 show(compL t _ _ _ .r1 [.int j] h1 _ _).bind _=_
 have e':compL t (evt G cl cs) (ev G cl e) h1.length .r1 [.int j] h1 (blockE N cap r) (h1++ [O.lst []])=.ok () h':=by
  show(if okR j then _ else _)=_
  rw[if_pos hj];exact hc
 rw[e'];rfl
theorem vzT{G:Gs}{cl:Cl}{t:Tg}{it cs:Es}{e:E}{N:List Str}{cap:List Nat}{r:Ev}{h h1 h':Hh}{n:Nat}{l:List D}(hi:evs G cl it r h=.ok [.ref n] h1)(hl:lstAt h1 n=some l)
 (hc:compI t (evt G cl cs) (ev G cl e) h1.length n (l.length+1) 0 (blockE N cap r) (h1++ [O.lst []])=.ok () h'):ev G cl (.comp t .sq it cs e N cap) r h=.ok (.ref h1.length) h':=by
 rw[evComp,hi]
 show(compL t _ _ _ .sq [.ref n] h1 _ _).bind _=_
 have e':compL t (evt G cl cs) (ev G cl e) h1.length .sq [.ref n] h1 (blockE N cap r) (h1++ [O.lst []])=.ok () h':=by
  show(match lstAt h1 n with|some l=>compI t (evt G cl cs) (ev G cl e) h1.length n (l.length+1) 0 (blockE N cap r) (h1++ [O.lst []])|none=>.bad)=_
  rw[hl];exact hc
 rw[e'];rfl
theorem qzZ{G:Gs}{cl:Cl}{W:Nat}{t:Tg}{e:E}{b:Ss}{r:Ev}{h h1 h':Hh}{j:Int}{fl:Fl}(hi:ev G cl e r h=.ok (.int j) h1)(hj:okR j)(hf:forS t (xss G cl W b) (rngD 0 j) r h1=.ok fl h'):xs G cl W (.forr t (.r1 e) b) r h=.ok fl h':=by
 rw[xsFor1,hi]
 show(if okR j then _ else _)=_
 rw[if_pos hj];exact hf
theorem qz7{n:Nat}(h:n<=1000000):okR (n:Int):=by unfold okR;omega
end Ng
end
section
namespace Ng
open PySem L2
def tb(t:Int):Int:=if 4<=t then t else(-t)%4
theorem tb_in{t:Int}(h0:0<=t)(h1:t<8):0<=tb t/\tb t<8:=by
 unfold tb;split<;>omega
def tbh(a b:Int):Int:=(if 4<=b then b-a else b+a)%4+(if decide (4<=a)=decide (4<=b) then 0 else 4)
theorem tbh_in(a b:Int):0<=tbh a b/\tbh a b<8:=by
 unfold tbh;split<;>split<;>omega
abbrev M3:=Int×Int×Int
def mo(m:M3):D:=.tup [.int m.1,.int m.2.1,.int m.2.2]
def ok8(m:M3):Prop:=0<=m.1/\m.1<8
def bh(m n:M3):M3:=(tbh m.1 n.1,tx n.1 m.2.1 m.2.2+n.2.1,ty n.1 m.2.1 m.2.2+n.2.2)
def bk(m:M3):M3:=(tb m.1, -tx (tb m.1) m.2.1 m.2.2, -ty (tb m.1) m.2.1 m.2.2)
def pl(x:Int×Int):D:=.tup [.int x.1,.int x.2]
def cf(t:Int):Int×Int×Int×Int:=if t=0 then(1,0,0,1) else if t=1 then(0, -1,1,0) else if t=2 then(-1,0,0, -1) else if t=3 then(0,1, -1,0) else if t=4 then(-1,0,0,1) else if t=5 then(0, -1, -1,0) else if t=6 then(1,0,0, -1) else(0,1,1,0)
theorem tx_cf(t x y:Int):tx t x y=(cf t).1*x+(cf t).2.1*y:=by
 unfold tx cf
 split
 ·simp
 split
 ·simp
 split
 ·simp
 split
 ·simp
 split
 ·simp
 split
 ·simp
 split
 ·simp
 ·simp
theorem ty_cf(t x y:Int):ty t x y=(cf t).2.2.1*x+(cf t).2.2.2*y:=by
 unfold ty cf
 split
 ·simp
 split
 ·simp
 split
 ·simp
 split
 ·simp
 split
 ·simp
 split
 ·simp
 split
 ·simp
 ·simp
theorem t00(t:Int):tx t 0 0=0/\ty t 0 0=0:=by rw[tx_cf,ty_cf];simp
theorem bh8(m n:M3):ok8 (bh m n):=tbh_in m.1 n.1
theorem fin8{t:Int}(h0:0<=t)(h1:t<8):∃k:Fin 8,t=(k.1:Int):=⟨⟨t.toNat,by omega⟩,by simp;omega⟩
theorem cf_f:∀k:Fin 8,(-2<(cf (k.1:Int)).1/\(cf (k.1:Int)).1<2)/\(-2<(cf (k.1:Int)).2.1/\(cf (k.1:Int)).2.1<2)/\(-2<(cf (k.1:Int)).2.2.1/\(cf (k.1:Int)).2.2.1<2)/\(-2<(cf (k.1:Int)).2.2.2/\(cf (k.1:Int)).2.2.2<2):=by decide+kernel
theorem cf_b{t:Int}(h0:0<=t)(h1:t<8):(-2<(cf t).1/\(cf t).1<2)/\(-2<(cf t).2.1/\(cf t).2.1<2)/\(-2<(cf t).2.2.1/\(cf t).2.2.1<2)/\(-2<(cf t).2.2.2/\(cf t).2.2.2<2):=by
 obtain⟨k,rfl⟩:=fin8 h0 h1
 exact cf_f k
theorem cf_at{t:Int}(h0:0<=t)(h1:t<8):atI [D.tup [.int 1,.int 0,.int 0,.int 1],.tup [.int 0,.int (-1),.int 1,.int 0],.tup [.int (-1),.int 0,.int 0,.int (-1)],.tup [.int 0,.int 1,.int (-1),.int 0],.tup [.int (-1),.int 0,.int 0,.int 1],.tup [.int 0,.int (-1),.int (-1),.int 0],.tup [.int 1,.int 0,.int 0,.int (-1)],.tup [.int 0,.int 1,.int 1,.int 0]] t=some (.tup [.int (cf t).1,.int (cf t).2.1,.int (cf t).2.2.1,.int (cf t).2.2.2]):=by
 rcases t8 h0 h1 with rfl|rfl|rfl|rfl|rfl|rfl|rfl|rfl<;>rfl
theorem bMul2{i j:Int}(h:Hh)(a: -2<i)(b:i<2):binD .mul (.int i) (.int j) h=.ok (.int (i*j)) h:=bMulL h (by omega) (by omega)
end Ng
end
section
namespace Ng
open PySem L2
theorem jzJ{t:Tg}{body:Ev->Hh->Rs Fl}{n:Nat}{l:List D}(I:Nat->Ev->Hh->Prop)(R:D->Hh->Prop)(hl:∀i r h,I i r h->lstAt h n=some l)
 (hb:∀i d,l[i]? =some d->∀r h,I i r h->∃r1,setT t d r=some r1/\((∃r2 h2,body r1 h=.ok (.nx r2) h2/\I (i+1) r2 h2)\/∃d h2,body r1 h=.ok (.rt d) h2/\R d h2)):
 ∀(k i:Nat)(r:Ev)(h:Hh),I i r h->i<=l.length->l.length-i<k->(∃r' h',forI t body n k i r h=.ok (.nx r') h'/\I l.length r' h')\/∃d h',forI t body n k i r h=.ok (.rt d) h'/\R d h':=by
 intro k
 induction k with
 |zero=>intro i r h _ _ hk;omega
 |succ k ih=>
  intro i r h hI hi hk
  have e0:=hl i r h hI
  by_cases hlt:i<l.length
  ·have ed:l[i]? =some l[i]:=List.getElem?_eq_getElem hlt
   obtain⟨r1,e1,hbb⟩:=hb i _ ed r h hI
   rcases hbb with ⟨r2,h2,e2,i2⟩|⟨d,h2,e2,q⟩
   ·rcases ih (i+1) r2 h2 i2 hlt (by omega) with ⟨r',h',e3,i3⟩|⟨d,h',e3,q⟩
    ·exact .inl ⟨r',h',by simp only[forI,e0,ed,e1,e2,jze,e3],i3⟩
    ·exact .inr ⟨d,h',by simp only[forI,e0,ed,e1,e2,jze,e3],q⟩
   ·exact .inr ⟨d,h2,by simp only[forI,e0,ed,e1,e2,jze],q⟩
  ·have ed:l[i]? =none:=List.getElem?_eq_none_iff.mpr (by omega)
   have hi':i=l.length:=by omega
   subst hi'
   exact .inl ⟨r,h,by simp only[forI,e0,ed],hI⟩
theorem wzd{t:Tg}{body:Ev->Hh->Rs Fl}(I:Nat->Ev->Hh->Prop)(R:D->Hh->Prop):∀(l:List D)(i:Nat),(∀j d,l[j]? =some d->∀r h,I (i+j) r h->∃r1,setT t d r=some r1/\((∃r2 h2,body r1 h=.ok (.nx r2) h2/\I (i+j+1) r2 h2)\/∃d h2,body r1 h=.ok (.rt d) h2/\R d h2))->
 ∀r h,I i r h->(∃r' h',forS t body l r h=.ok (.nx r') h'/\I (i+l.length) r' h')\/∃d h',forS t body l r h=.ok (.rt d) h'/\R d h'
 | [],i,_,r,h,hI=>.inl ⟨r,h,by simp,hI⟩
 |d::l,i,hb,r,h,hI=>by
  obtain⟨r1,e1,hbb⟩:=hb 0 d rfl r h hI
  rcases hbb with ⟨r2,h2,e2,i2⟩|⟨d,h2,e2,q⟩
  ·rcases wzd I R l (i+1) (λj d hd r h hI=>by
    have:=hb (j+1) d (by simpa using hd) r h (by rw[show i+(j+1)=i+1+j by omega];exact hI)
    rw[show i+(j+1)=i+1+j by omega] at this
    exact this) r2 h2 i2 with ⟨r',h',e3,i3⟩|⟨d,h',e3,q⟩
   ·exact .inl ⟨r',h',by rw[forS1,e1];show(body r1 h).bind _=_;rw[e2];exact e3,by rw[List.length_cons,show i+(l.length+1)=i+1+l.length by omega];exact i3⟩
   ·exact .inr ⟨d,h',by rw[forS1,e1];show(body r1 h).bind _=_;rw[e2];exact e3,q⟩
  ·exact .inr ⟨d,h2,by rw[forS1,e1];show(body r1 h).bind _=_;rw[e2];rfl,q⟩
theorem vzO{h0:Hh}{n:Nat}{l:List D}(g:Hh)(e:lstAt h0 n=some l):lstAt (h0++g) n=some l:=jz6 h0 g e
structure It {α:Type}(φ:α->D)(t:Tg)(cs:Ev->Hh->Rs Bool)(f:Ev->Hh->Rs D)(h0:Hh)(F:Ev->Prop)(p:α->Bool)(g:α->D)(x:α):Prop where
 it:∀r ys gb,F r->∃r1 g1,setT t (φ x) r=some r1/\cs r1 (h0++ .lst ys::gb)=.ok (p x) (h0++ .lst ys::(gb++g1))/\F r1/\(p x=true->∃g2,f r1 (h0++ .lst ys::(gb++g1))=.ok (g x) (h0++ .lst ys::(gb++g1++g2)))
theorem qzI{α:Type}{φ:α->D}{t:Tg}{cs:Ev->Hh->Rs Bool}{f:Ev->Hh->Rs D}{h0:Hh}{F:Ev->Prop}{p:α->Bool}{g:α->D}:∀(l:List α),(∀d∈l,It φ t cs f h0 F p g d)->
 ∀r ys gb,F r->ys.length+l.length<1000000->∃gb',compS t cs f h0.length (l.map φ) r (h0++ .lst ys::gb)=.ok () (h0++ .lst (ys++(l.filter p).map g)::gb')
 | [],_,r,ys,gb,_,_=>⟨gb,by simp[compS]⟩
 |d::l,hb,r,ys,gb,hF,hl=>by
  obtain⟨r1,g1,e1,e2,f1,e3⟩:=(hb d List.mem_cons_self).it r ys gb hF
  by_cases hp:p d=true
  ·obtain⟨g2,e3⟩:=e3 hp
   obtain⟨gb',e4⟩:=qzI l (λd hd=>hb d (List.mem_cons_of_mem _ hd)) r1 (ys++ [g d]) (gb++g1++g2) f1 (by simp at hl⊢;omega)
   refine⟨gb',?_⟩
   rw[hp] at e2
   simp only[List.map_cons,compS,e1,e2,jze,if_true,e3,zz6 _ _ _ _ (show ys.length<1000000 by simp at hl;omega),e4,List.filter_cons,hp]
   simp
  ·obtain⟨gb',e4⟩:=qzI l (λd hd=>hb d (List.mem_cons_of_mem _ hd)) r1 ys (gb++g1) f1 (by simp at hl⊢;omega)
   refine⟨gb',?_⟩
   have hp':p d=false:=by simpa using hp
   rw[hp'] at e2
   simp only[List.map_cons,compS,e1,e2,jze,if_false,Bool.false_eq_true,e4,List.filter_cons,hp']
theorem zzS{α:Type}{φ:α->D}{t:Tg}{cs:Ev->Hh->Rs Bool}{f:Ev->Hh->Rs D}{h0:Hh}{F:Ev->Prop}{p:α->Bool}{g:α->D}{n:Nat}{l:List α}(hl:lstAt h0 n=some (l.map φ))(hb:∀d∈l,It φ t cs f h0 F p g d)(hm:∀z:Nat,z<=2*l.length->z<1000000):
 ∀k i r ys gb,F r->i<=l.length->l.length-i<k->ys.length<=i->∃gb',compI t cs f h0.length n k i r (h0++ .lst ys::gb)=.ok () (h0++ .lst (ys++((l.drop i).filter p).map g)::gb'):=by
 intro k
 induction k with
 |zero=>intro i r ys gb _ _ hk;omega
 |succ k ih=>
  intro i r ys gb hF hi hk hy
  have e0:lstAt (h0++ .lst ys::gb) n=some (l.map φ):=vzO _ hl
  by_cases hlt:i<l.length
  ·have ed:(l.map φ)[i]? =some (φ l[i]):=by rw[List.getElem?_map,List.getElem?_eq_getElem hlt];rfl
   have hdr:l.drop i=l[i]::l.drop (i+1):=List.drop_eq_getElem_cons hlt
   obtain⟨r1,g1,e1,e2,f1,e3⟩:=(hb l[i] (List.getElem_mem hlt)).it r ys gb hF
   by_cases hp:p l[i]=true
   ·obtain⟨g2,e3⟩:=e3 hp
    obtain⟨gb',e4⟩:=ih (i+1) r1 (ys++ [g l[i]]) (gb++g1++g2) f1 hlt (by omega) (by simp;omega)
    refine⟨gb',?_⟩
    rw[hp] at e2
    simp only[compI,e0,ed,e1,e2,jze,if_true,e3,zz6 _ _ _ _ (hm ys.length (by omega)),e4,hdr,List.filter_cons,hp]
    simp
   ·obtain⟨gb',e4⟩:=ih (i+1) r1 ys (gb++g1) f1 hlt (by omega) (by omega)
    refine⟨gb',?_⟩
    have hp':p l[i]=false:=by simpa using hp
    rw[hp'] at e2
    simp only[compI,e0,ed,e1,e2,jze,if_false,Bool.false_eq_true,e4,hdr,List.filter_cons,hp']
  ·have ed:(l.map φ)[i]? =none:=List.getElem?_eq_none_iff.mpr (by simp;omega)
   refine⟨gb,?_⟩
   simp only[compI,e0,ed,List.drop_eq_nil_of_le (show l.length<=i by omega),List.filter_nil,List.map_nil,List.append_nil]
section
variable {α:Type}{φ:α->D}{G:Gs}{cl:Cl}{t:Tg}{it cs:Es}{e:E}{N:List Str}{cap:List Nat}{r:Ev}{h h1:Hh}
theorem evC_lst{n:Nat}{l:List α}(φ:α->D)(F:Ev->Prop)(p:α->Bool)(g:α->D)(hi:evs G cl it r h=.ok [.ref n] h1)(hl:lstAt h1 n=some (l.map φ))(hm:l.length<=1000)(hF:F (blockE N cap r))(hb:∀d∈l,It φ t (evt G cl cs) (ev G cl e) h1 F p g d):
 ∃gb,ev G cl (.comp t .sq it cs e N cap) r h=.ok (.ref h1.length) (h1++ .lst ((l.filter p).map g)::gb):=by
 obtain⟨gb,e1⟩:=zzS hl hb (λz hz=>by omega) ((l.map φ).length+1) 0 (blockE N cap r) [] [] hF (Nat.zero_le _) (by simp) (Nat.le_refl _)
 exact⟨gb,vzT hi hl e1⟩
theorem evC_r1{j:Nat}(F:Ev->Prop)(p:Nat->Bool)(g:Nat->D)(hi:evs G cl it r h=.ok [.int (j:Int)] h1)(hm:j<=1000)(hF:F (blockE N cap r))(hb:∀d∈List.range j,It (λk:Nat=>D.int k) t (evt G cl cs) (ev G cl e) h1 F p g d):
 ∃gb,ev G cl (.comp t .r1 it cs e N cap) r h=.ok (.ref h1.length) (h1++ .lst (((List.range j).filter p).map g)::gb):=by
 obtain⟨gb,e1⟩:=qzI (List.range j) hb (blockE N cap r) [] [] hF (by simp;omega)
 have e2:(List.range j).map (λk:Nat=>D.int k)=rngD 0 j:=by
  unfold rngD
  simp
 rw[e2] at e1
 exact⟨gb,zzC hi (qz7 (by omega)) e1⟩
end
theorem wz2{n:Nat}{l:List D}(h:Hh)(e:lstAt h n=some l):tyD (.ref n) h=some .list:=by
 simp only[tyD,e]
theorem isLstT{n:Nat}{l:List D}(h:Hh)(e:lstAt h n=some l):isinL (.ref n) (.ty "tuple") h=.ok (.bl false) h:=by
 simp[isinL,isinD,wz2 h e,tyNames,isTy]
theorem zzt{n:Nat}{l:List D}(h:Hh)(e:lstAt h n=some l):isinL (.ref n) (.ty "list") h=.ok (.bl true) h:=by
 simp[isinL,isinD,wz2 h e,tyNames,isTy]
theorem isLstTL{n:Nat}{l:List D}(h:Hh)(e:lstAt h n=some l):isinL (.ref n) (.tup [.ty "tuple",.ty "list"]) h=.ok (.bl true) h:=by
 simp[isinL,isinD,isinAny,tysOf,wz2 h e,tyNames,isTy]
end Ng
end
section
namespace Ng
open PySem L2
def Kp(h h':Hh):Prop:=∀(n:Nat)(o:O),h[n]? =some o->h'[n]? =some o
theorem Kp.refl(h:Hh):Kp h h:=λ_ _ e=>e
theorem Kp.trans{a b c:Hh}(x:Kp a b)(y:Kp b c):Kp a c:=λn o e=>y n o (x n o e)
theorem Kp.app(h g:Hh):Kp h (h++g):=λn o e=>by rw[List.getElem?_append_left (List.getElem?_eq_some_iff.mp e).1];exact e
theorem Kp.lst{h h':Hh}(k:Kp h h'){n:Nat}{l:List D}(e:lstAt h n=some l):lstAt h' n=some l:=by
 unfold lstAt at e⊢
 cases q:h[n]? with
 |none=>rw[q] at e;cases e
 |some o=>rw[q] at e;rw[k n o q];exact e
theorem Kp.set{h h':Hh}(k:Kp h h'){n:Nat}(o:O)(hn:h.length<=n):Kp h (h'.set n o):=λj u e=>by
 have hj:j<h.length:=(List.getElem?_eq_some_iff.mp e).1
 rw[List.getElem?_set_ne (by omega)]
 exact k j u e
theorem valD_nil(k:Key):valD [] k=none:=rfl
theorem jzG(p:Key×D)(l:List (Key×D))(k:Key):valD (p::l) k=if p.1=k then some p.2 else valD l k:=by
 unfold valD
 rw[List.find?_cons]
 by_cases e:p.1=k
 ·rw[decide_eq_true e,if_pos e];rfl
 ·rw[decide_eq_false e,if_neg e]
theorem vzf(k:Key):∀l:List (Key×D),(l.any λkv=>decide (kv.1=k))=(valD l k).isSome
 | []=>rfl
 |p::l=>by
  rw[List.any_cons,jzG,vzf k l]
  by_cases e:p.1=k
  ·rw[if_pos e,decide_eq_true e];rfl
  ·rw[if_neg e,decide_eq_false e];simp
theorem vze(k j:Key)(y:D):∀l:List (Key×D),valD (l.map λkv=>if kv.1=k then(kv.1,y) else kv) j=(valD l j).map λx=>if j=k then y else x
 | []=>rfl
 |p::l=>by
  rw[List.map_cons,jzG,jzG,vze k j y l]
  by_cases e:p.1=k
  ·rw[if_pos e]
   by_cases e2:p.1=j
   ·rw[if_pos e2,if_pos e2]
    have:j=k:=e2.symm.trans e
    simp[this]
   ·rw[if_neg e2,if_neg e2]
  ·rw[if_neg e]
   by_cases e2:p.1=j
   ·rw[if_pos e2,if_pos e2]
    have:¬j=k:=λz=>e (e2.trans z)
    simp[this]
   ·rw[if_neg e2,if_neg e2]
theorem wzk(k j:Key)(y:D):∀l:List (Key×D),valD (l++ [(k,y)]) j=(valD l j).or (if j=k then some y else none)
 | []=>by
   rw[List.nil_append,jzG,valD_nil]
   by_cases e:k=j
   ·rw[if_pos e,if_pos e.symm];rfl
   ·rw[if_neg e,if_neg (λz=>e z.symm)];rfl
 |p::l=>by
  rw[List.cons_append,jzG,jzG,wzk k j y l]
  by_cases e:p.1=j
  ·rw[if_pos e,if_pos e];rfl
  ·rw[if_neg e,if_neg e]
theorem qzo(l:List (Key×D))(k j:Key)(y:D):valD (putD l k y) j=if j=k then some y else valD l j:=by
 unfold putD
 rw[vzf]
 cases e:valD l k with
 |some v=>
  rw[Option.isSome_some,if_pos rfl,vze]
  by_cases z:j=k
  ·subst z;rw[e,if_pos rfl];simp
  ·rw[if_neg z];simp[z]
 |none=>
  rw[if_neg (by simp),wzk]
  by_cases z:j=k
  ·subst z;rw[e,if_pos rfl];rfl
  ·rw[if_neg z,if_neg z];cases valD l j<;>rfl
theorem putD_len(l:List (Key×D))(k:Key)(y:D):(putD l k y).length<=l.length+1:=by
 unfold putD
 split<;>simp
structure Tie where
 n:Int
 one:Str
 other:Str
 m:M3
def Tie.d(t:Tie):D:=.tup [.int t.n,.str t.one,.str t.other,mo t.m]
def Tie.en(t:Tie)(x:Str):Option Str:=if t.one=x then some t.other else if t.other=x then some t.one else none
def Tie.mv(t:Tie)(x:Str):M3:=if t.other=x then bk t.m else t.m
structure Ties (ts:List Tie):Prop where
 len:ts.length<=16
 nd:(ts.map Tie.n).Nodup
 ne:∀t∈ts,t.one≠t.other
 ok:∀t∈ts,ok8 t.m
def way(t:Tie)(x:Str):Option D:=(t.en x).map λy=>.tup [.str y,mo (t.mv x)]
def fnd(ts:List Tie)(n:Int):Option Tie:=ts.find? λt=>decide (t.n=n)
def ways(ts:List Tie)(x:Str)(n:Int):Option D:=(fnd ts n).bind λt=>way t x
theorem fnd_mem{ts:List Tie}{n:Int}{t:Tie}(e:fnd ts n=some t):t∈ts/\t.n=n:=by
 unfold fnd at e
 exact⟨List.mem_of_find?_eq_some e,by simpa using List.find?_some e⟩
theorem fnd_of{ts:List Tie}(nd:(ts.map Tie.n).Nodup){t:Tie}(h:t∈ts):fnd ts t.n=some t:=by
 cases e:fnd ts t.n with
 |none=>
  unfold fnd at e
  have:=List.find?_eq_none.mp e t h
  simp at this
 |some u=>
  obtain⟨h1,h2⟩:=fnd_mem e
  congr
  have inj:∀(l:List Tie),(l.map Tie.n).Nodup->u∈l->t∈l->u=t:=by
   intro l
   induction l with
   |nil=>intro _ hu _;cases hu
   |cons a l ih=>
    intro nd hu ht
    rw[List.map_cons,List.nodup_cons] at nd
    rcases List.mem_cons.mp hu with eu|hu
    ·rcases List.mem_cons.mp ht with et|ht
     ·rw[eu,et]
     ·exact(nd.1 (List.mem_map.mpr ⟨t,ht,by rw[<- eu];exact h2.symm⟩)).elim
    ·rcases List.mem_cons.mp ht with et|ht
     ·exact(nd.1 (List.mem_map.mpr ⟨u,hu,by rw[<- et];exact h2⟩)).elim
     ·exact ih nd.2 hu ht
  exact inj ts nd h1 h
theorem ltT{t u:Tie}(h:t.n<u.n):Bef ltK t.d u.d:=by
 have h1:¬t.n=u.n:=by omega
 have h2:¬u.n=t.n:=by omega
 have h3:¬u.n<t.n:=by omega
 exact⟨by simp[Tie.d,ltK,ltF,h1,h],by simp[Tie.d,ltK,ltF,h2,h3]⟩
theorem wzm{ts:List Tie}(T:Ties ts):∃us:List Tie,us.Perm ts/\srtD (ts.map Tie.d)=some (us.map Tie.d):=by
 let us:=ts.mergeSort (λa b=>decide (a.n<=b.n))
 have p:us.Perm ts:=List.mergeSort_perm ts _
 have s:us.Pairwise (λa b=>decide (a.n<=b.n)=true):=List.pairwise_mergeSort (λa b c h1 h2=>by simp at*;omega) (λa b=>by simp;omega) ts
 have nd:(us.map Tie.n).Nodup:=(p.map Tie.n).nodup_iff.mpr T.nd
 refine⟨us,p,vz1 ⟨by simp;have:=T.len;omega,.inr ⟨3,by decide,λx hx=>?_⟩⟩ (p.map _) ?_⟩
 ·obtain⟨t,_,rfl⟩:=List.mem_map.mp hx
  rfl
 ·rw[List.pairwise_map]
  rw[List.Nodup,List.pairwise_map] at nd
  refine List.Pairwise.imp (S:=λa b=>Bef ltK a.d b.d) ?_ (s.and nd)
  intro a b ⟨h1,h2⟩
  exact ltT (by simp at h1;omega)
end Ng
end
section
namespace Ng
open PySem L2
theorem atInt{l:List Int}{i:Int}(a:0<=i)(b:i<l.length):∃v∈l,atI (l.map D.int) i=some (.int v):=by
 have hj:i.toNat<l.length:=by omega
 have:=jzQ (xs:=l.map D.int) (j:=i.toNat) (v:=.int l[i.toNat]) (by rw[List.getElem?_map,List.getElem?_eq_getElem hj];rfl)
 rw[Int.toNat_of_nonneg a] at this
 exact⟨_,List.getElem_mem hj,this⟩
section
variable {G:Gs}{cl:Cl}{W:Nat}
theorem ixDisp{es:Es}{e:E}{l:List Int}{r:Ev}{h:Hh}{i:Int}(he:evs G cl es r h=.ok (l.map D.int) h)(hl:l.length<=1000)(hi:ev G cl e r (h++ [.lst (l.map D.int)])=.ok (.int i) (h++ [.lst (l.map D.int)]))(a:0<=i)(b:i<l.length):
 ∃v∈l,ev G cl (.ix (.lst es) e) r h=.ok (.int v) (h++ [.lst (l.map D.int)]):=by
 obtain⟨v,hv,e1⟩:=atInt a b
 refine⟨v,hv,?_⟩
 rw[evIx,evLst,he,jze,if_pos (by rw[List.length_map];exact hl),jze,hi,jze,iRef _ _ (jzx _ _),e1]
theorem evIxV{i:Nat}{x y d:D}{e:E}{r:Ev}{h h1:Hh}(hr:r[i]? =some (some x))(he:ev G cl e r h=.ok y h1)(hx:ixD x y h1=.ok d h1):ev G cl (.ix (.var i) e) r h=.ok d h1:=by
 rw[evIx,evVar,hr]
 show(ev G cl e r h).bind _=_
 rw[he]
 exact hx
theorem jzB{op:Bop}{a b:E}{x y d:D}{r:Ev}{h h1 h2:Hh}(ha:ev G cl a r h=.ok x h1)(hb:ev G cl b r h1=.ok y h2)(hd:binD op x y h2=.ok d h2):ev G cl (.bin op a b) r h=.ok d h2:=by
 rw[evBin,ha]
 show(ev G cl b r h1).bind _=_
 rw[hb]
 exact hd
theorem evV{i:Nat}{x:D}{r:Ev}{h:Hh}(hr:r[i]? =some (some x)):ev G cl (.var i) r h=.ok x h:=by
 rw[evVar,hr]
structure Row (h:Hh)(n:Nat)(row:List Int):Prop where
 at':lstAt h n=some (row.map D.int)
 inr:InR row
def Row.R(row:List Int)(j:Nat):Int:=row.getD j 0
theorem Row.ix{h h':Hh}{n:Nat}{row:List Int}(Q:Row h n row)(kp:Kp h h')(j:Nat)(hj:j<row.length):ixD (.ref n) (.int j) h'=.ok (.int (Row.R row j)) h':=by
 rw[iRef _ _ (kp.lst Q.at'),jzQ (v:=.int (Row.R row j)) (by rw[List.getElem?_map,List.getElem?_eq_getElem hj];simp[Row.R,hj])]
theorem app_ok{h:Hh}{p:Nat}{l:List D}(y:D)(e:h[p]? =some (.lst l))(hl:l.length<1000000):appD (.ref p) y h=.ok .non (h.set p (.lst (l++ [y]))):=by
 rw[appR,e]
 show(if _ then _ else _)=_
 rw[if_pos hl]
theorem jzt{h:Hh}{p:Nat}{l:List D}(e:h[p]? =some (.lst l)):lstAt h p=some l:=by
 unfold lstAt
 rw[e]
 rfl
theorem evLen{i n:Nat}{l:List D}{r:Ev}{h:Hh}(hr:r[i]? =some (some (.ref n)))(e:lstAt h n=some l):ev G cl (.blt .len (.cons (.var i) .nil)) r h=.ok (.int l.length) h:=by
 simp only[evBlt,jzj,jzp,evVar,hr,jze,bLen,sRef,e]
theorem jzU{i:Nat}{e:E}{d:D}{r:Ev}{h h':Hh}(he:ev G cl e r h=.ok d h'):xs G cl W (.asg (.nm i) e) r h=.ok (.nx (r.set i (some d))) h':=by
 rw[xsAsg,he];rfl
theorem wz9{c:E}{a b:Ss}{r:Ev}{h h':Hh}(hc:ev G cl c r h=.ok (.bl true) h'):xs G cl W (.iff c a b) r h=xss G cl W a r h':=by
 rw[xsIff,hc];rfl
theorem jzT{c:E}{a b:Ss}{r:Ev}{h h':Hh}(hc:ev G cl c r h=.ok (.bl false) h'):xs G cl W (.iff c a b) r h=xss G cl W b r h':=by
 rw[xsIff,hc];rfl
theorem qzF{op:Cop}{a b:E}{x y d:D}{r:Ev}{h h1 h2 h3:Hh}(ha:ev G cl a r h=.ok x h1)(hb:ev G cl b r h1=.ok y h2)(hd:cmpD op x y h2=.ok d h3):ev G cl (.cmp op a b) r h=.ok d h3:=by
 rw[evCmp,ha]
 show(ev G cl b r h1).bind _=_
 rw[hb]
 exact hd
end
abbrev St3:=Int×Int×Int
def s3(s:St3):D:=.tup [.int s.1,.int s.2.1,.int s.2.2]
def kv(s:St3):List Int×D:=([s.1,s.2.1],.int s.2.2)
def flds(nm:Str)(w t l:Int)(k:Nat):List (Str×D):= [("name",.str nm),("width",.int w),("height",.int t),("limit",.int l),("bright_at",.ref k)]
def PlateAt(h:Hh)(n:Nat)(nm:Str)(w t l:Int)(S:List St3):Prop:=∃k,h[n]? =some (.ins "Plate" (flds nm w t l k))/\h[k]? =some (.dtf (S.map kv))
section
variable {G:Gs}{cl:Cl}{W:Nat}
end
end Ng
end
section
namespace Ng
open PySem L2
section
variable (G:Gs)(cl:Cl)(r:Ev)(h:Hh)
@[simp] theorem evDnw:ev G cl .dnw r h=.ok (.ref h.length) (h++ [.dct []]):=by rw[ev]<;>rfl
@[simp] theorem evGet2(o k d:E):ev G cl (.get2 o k d) r h=(ev G cl o r h).bind λx h=>if(dctAt h x).isSome=true then(ev G cl k r h).bind λy h=>(ev G cl d r h).bind λz h=>get2D x y z h else .bad:=by rw[ev]<;>rfl
theorem evDcomp(t1:Tg)(i1:E)(t2:Tg)(i2 k v:E)(N:List Str)(cap:List Nat):ev G cl (.dcomp t1 i1 t2 i2 k v N cap) r h=(ev G cl i1 r h).bind λx h=>dcL t1 (ev G cl i2) t2 (ev G cl k) (ev G cl v) x (blockE N cap r) h:=by rw[ev]<;>rfl
@[simp] theorem bSorted(x:D):bltD .sorted [x] h=srtL x h:=rfl
end
def DLs:=Str->List (Key×D)
structure Tb (h0 h:Hh)(p:Nat)(M:List (Key×D))(L:DLs):Prop where
 kp:Kp h0 h
 lo:h0.length<=p
 top:h[p]? =some (.dct M)
 val:∀x d,valD M (.inr x)=some d->∃q,d=.ref q/\h0.length<=q/\q≠p/\h[q]? =some (.dct (L x))
 inj:∀x y d,valD M (.inr x)=some d->valD M (.inr y)=some d->x=y
theorem qz3{h:Hh}{q:Nat}{N:List (Key×D)}{y:D}{k:Key}(hk:keyD y=some k)(v:D)(e:h[q]? =some (.dct N))(hn:N.length<1000):stxD (.ref q) y v h=.ok () (h.set q (.dct (putD N k v))):=by
 unfold stxD
 simp only[e]
 unfold dputD
 simp only[e,hk,hn,if_true]
theorem wzU{N:List (Key×D)}{k:Key}{v:D}(h:∀p∈N,p.1≠k):putD N k v=N++ [(k,v)]:=by
 unfold putD
 rw[if_neg]
 intro z
 obtain⟨p,hp,e⟩:=List.any_eq_true.mp z
 exact h p hp (of_decide_eq_true e)
theorem Tb.get{h0 h:Hh}{p:Nat}{M:List (Key×D)}{L:DLs}(T:Tb h0 h p M L){x:Str}{d:D}(e:valD M (.inr x)=some d):ixD (.ref p) (.str x) h=.ok d h:=by
 rw[iDct h (.str x) T.top]
 show(match valD M (.inr x) with|some d=>Rs.ok d h|none=>.bad)=_
 rw[e]
theorem Tb.put{h0 h:Hh}{p:Nat}{M:List (Key×D)}{L:DLs}(T:Tb h0 h p M L){x:Str}{d:D}(e:valD M (.inr x)=some d)(n:Int)(v:D)(hb:(L x).length<1000)(hf:∀p∈L x,p.1≠ .inl n):
 ∃h',stxD d (.int n) v h=.ok () h'/\Tb h0 h' p M (λy=>if y=x then L x++ [(.inl n,v)] else L y)/\∀k l,lstAt h k=some l->lstAt h' k=some l:=by
 obtain⟨q,rfl,hq,hp,hN⟩:=T.val x d e
 refine⟨_,qz3 (k:=.inl n) rfl v hN hb,⟨T.kp.set _ hq,T.lo,by rw[List.getElem?_set_ne hp];exact T.top,?_,T.inj⟩,?_⟩
 ·intro y d2 e2
  obtain⟨q2,rfl,hq2,hp2,hN2⟩:=T.val y d2 e2
  have hlt:q<h.length:=(List.getElem?_eq_some_iff.mp hN).1
  by_cases hy:y=x
  ·subst hy
   rw[e] at e2
   cases e2
   exact⟨q,rfl,hq,hp,by rw[List.getElem?_set_self hlt,wzU hf,if_pos rfl]⟩
  ·have ne:q2≠q:=λz=>hy (T.inj y x _ e2 (by rw[z];exact e))
   exact⟨q2,rfl,hq2,hp2,by rw[List.getElem?_set_ne (Ne.symm ne),if_neg hy];exact hN2⟩
 ·intro k l hk
  have:k≠q:=λz=>by
   subst z
   unfold lstAt at hk
   rw[hN] at hk
   cases hk
  unfold lstAt at hk⊢
  rw[List.getElem?_set_ne (Ne.symm this)]
  exact hk
abbrev ldL(bki:Nat):Ss:=(.cons (.stx (.ix (.var 1) (.var 3)) (.var 2) (.tup (.cons (.var 4) (.cons (.var 5) .nil)))) (.cons (.stx (.ix (.var 1) (.var 4)) (.var 2) (.tup (.cons (.var 3) (.cons (.call bki (.cons (.var 5) .nil)) .nil)))) .nil))
abbrev ldC:E:=.dcomp (.tp [0,1,2,3]) (.var 0) (.nm 4) (.tup (.cons (.var 1) (.cons (.var 2) .nil))) (.var 4) .dnw ["number","one","other","motion","name"] []
abbrev ldB(bki:Nat):Ss:=(.cons (.asc 1 ldC) (.cons (.forr (.tp [2,3,4,5]) (.sq (.blt .sorted (.cons (.var 0) .nil))) (ldL bki)) (.cons (.ret (.var 1)) .nil)))
section
variable {G:Gs}{cl:Cl}
structure Fresh (h0 h:Hh)(M:List (Key×D))(P:Str->Prop)(b:Nat):Prop where
 T:Tb h0 h h0.length M (λ_=>[])
 len:M.length<=b
 has:∀x,P x->(valD M (.inr x)).isSome=true
 lt:∀x q,valD M (.inr x)=some (.ref q)->q<h.length
theorem Fresh.step{h0 h:Hh}{M:List (Key×D)}{P:Str->Prop}{b:Nat}(F:Fresh h0 h M P b)(x:Str)(hb:b<1000):
 ∃h' M',dputD h0.length (.str x) (.ref h.length) (h++ [.dct []])=.ok () h'/\Fresh h0 h' M' (λy=>P y\/y=x) (b+1):=by
 have hp:h0.length<h.length:=(List.getElem?_eq_some_iff.mp F.T.top).1
 have e:(h++ [O.dct []])[h0.length]? =some (.dct M):=by rw[List.getElem?_append_left hp];exact F.T.top
 have len:=F.len
 refine⟨_,putD M (.inr x) (.ref h.length),by
  show(match (h++ [O.dct []])[h0.length]?,some (Sum.inr x) with|some (O.dct l),some k=>if l.length<1000 then Rs.ok () ((h++ [O.dct []]).set h0.length (.dct (putD l k (.ref h.length)))) else .bad|_,_=>.bad)=_
  rw[e]
  show(if _ then _ else _)=_
  rw[if_pos (by omega)],⟨⟨(F.T.kp.trans (Kp.app _ _)).set _ (Nat.le_refl _),Nat.le_refl _,by rw[List.getElem?_set_self (by simp;omega)],?_,?_⟩,by have:=putD_len M (.inr x) (.ref h.length);omega,?_,?_⟩⟩
 ·intro y d hd
  rw[qzo] at hd
  by_cases hy:y=x
  ·subst hy
   rw[if_pos rfl] at hd
   cases hd
   exact⟨h.length,rfl,by omega,by omega,by rw[List.getElem?_set_ne (by omega)];simp⟩
  ·rw[if_neg (λz=>hy (Sum.inr.inj z))] at hd
   obtain⟨q,rfl,hq,hp2,hN⟩:=F.T.val y d hd
   exact⟨q,rfl,hq,hp2,by rw[List.getElem?_set_ne (Ne.symm hp2),List.getElem?_append_left (List.getElem?_eq_some_iff.mp hN).1];exact hN⟩
 ·intro y z d hy hz
  rw[qzo] at hy hz
  by_cases h1:y=x
  ·by_cases h2:z=x
   ·rw[h1,h2]
   ·subst h1
    rw[if_pos rfl] at hy
    rw[if_neg (λw=>h2 (Sum.inr.inj w))] at hz
    cases hy
    exact absurd (F.lt _ _ hz) (by omega)
  ·rw[if_neg (λw=>h1 (Sum.inr.inj w))] at hy
   by_cases h2:z=x
   ·subst h2
    rw[if_pos rfl] at hz
    cases hz
    exact absurd (F.lt _ _ hy) (by omega)
   ·rw[if_neg (λw=>h2 (Sum.inr.inj w))] at hz
    exact F.T.inj _ _ _ hy hz
 ·intro y hy
  rw[qzo]
  by_cases h1:y=x
  ·rw[if_pos (by rw[h1])];rfl
  ·rw[if_neg (λw=>h1 (Sum.inr.inj w))]
   exact F.has y (hy.resolve_right h1)
 ·intro y q hy
  rw[qzo] at hy
  simp only[List.length_set,List.length_append,List.length_cons,List.length_nil]
  by_cases h1:y=x
  ·rw[if_pos (by rw[h1])] at hy
   cases hy
   omega
  ·rw[if_neg (λw=>h1 (Sum.inr.inj w))] at hy
   have:=F.lt y q hy
   omega
theorem ldC_loop{h0:Hh}{ts:List Tie}{n:Nat}(hn:lstAt h0 n=some (ts.map Tie.d))(ht:ts.length<=16):∀(k i:Nat)(r:Ev)(h:Hh)(M:List (Key×D)),r.length=5->i<=ts.length->ts.length-i<k->
 Fresh h0 h M (λx=>∃t∈ts.take i,t.one=x\/t.other=x) (2*i)->
 ∃h' M',dcI (.tp [0,1,2,3]) (ev G cl (.tup (.cons (.var 1) (.cons (.var 2) .nil)))) (.nm 4) (ev G cl (.var 4)) (ev G cl .dnw) h0.length n k i r h=.ok () h'/\Fresh h0 h' M' (λx=>∃t∈ts,t.one=x\/t.other=x) 32:=by
 intro k
 induction k with
 |zero=>intro i r h M _ _ hk;omega
 |succ k ih=>
  intro i r h M hr hi hk F
  have e0:lstAt h n=some (ts.map Tie.d):=F.T.kp.lst hn
  by_cases hlt:i<ts.length
  ·have ed:(ts.map Tie.d)[i]? =some ts[i].d:=by rw[List.getElem?_map,List.getElem?_eq_getElem hlt];rfl
   match r,hr with
   | [r0,r1,r2,r3,r4],_=>
     obtain⟨h1,M1,e1,F1⟩:=F.step ts[i].one (by omega)
     obtain⟨h2,M2,e2,F2⟩:=F1.step ts[i].other (by omega)
     have F2':Fresh h0 h2 M2 (λx=>∃t∈ts.take (i+1),t.one=x\/t.other=x) (2*(i+1)):=⟨F2.T,F2.len,λx ⟨t,ht,hx⟩=>by
      refine F2.has x ?_
      rw[List.take_succ,List.getElem?_eq_getElem hlt] at ht
      rcases List.mem_append.mp ht with ht|ht
      ·exact .inl (.inl ⟨t,ht,hx⟩)
      ·rw[Option.toList_some,List.mem_singleton] at ht
       subst ht
       rcases hx with hx|hx
       ·exact .inl (.inr hx.symm)
       ·exact .inr hx.symm,F2.lt⟩
     obtain⟨h',M',e3,F3⟩:=ih (i+1) [some (.int ts[i].n),some (.str ts[i].one),some (.str ts[i].other),some (mo ts[i].m),some (.str ts[i].other)] h2 M2 rfl hlt (by omega) F2'
     refine⟨h',M',?_,F3⟩
     rw[dcI,e0]
     simp only[ed,Tie.d,setTp,List.length_cons,List.length_nil,if_true,setAll1,setAll0,List.set_cons_zero,List.set_cons_succ,evTup,jzj,jzp,evVar,List.getElem?_cons_succ,ge0,jze,Nat.reduceLeDiff,Nat.reduceAdd,dcS,setNm,evDnw,e1,e2,e3]
  ·have ed:(ts.map Tie.d)[i]? =none:=List.getElem?_eq_none_iff.mpr (by simp;omega)
   refine⟨h,M,by rw[dcI,e0];simp only[ed],?_⟩
   rw[List.take_of_length_le (by omega)] at F
   exact⟨F.T,by have:=F.len;omega,F.has,F.lt⟩
theorem ldC_ok{ts:List Tie}{n:Nat}{h:Hh}{r:Ev}(hn:lstAt h n=some (ts.map Tie.d))(ht:ts.length<=16)(hr:r[0]? =some (some (.ref n))):
 ∃h' M',ev G cl ldC r h=.ok (.ref h.length) h'/\Fresh h h' M' (λx=>∃t∈ts,t.one=x\/t.other=x) 32:=by
 have F0:Fresh h (h++ [.dct []]) [] (λx=>∃t∈ts.take 0,t.one=x\/t.other=x) (2*0):=⟨⟨Kp.app _ _,Nat.le_refl _,by simp,(λx d e=>by cases e),λx y d e=>by cases e⟩,Nat.le_refl _,(λx ⟨t,h,_⟩=>by cases h),λx q e=>by cases e⟩
 obtain⟨h',M',e,F⟩:=ldC_loop (G:=G) (cl:=cl) hn ht (ts.length+1) 0 [none,none,none,none,none] (h++ [.dct []]) [] rfl (Nat.zero_le _) (by omega) F0
 refine⟨h',M',?_,F⟩
 rw[evDcomp,evVar,hr]
 show(match lstAt h n with|some l=>(dcI _ _ _ _ _ h.length n (l.length+1) 0 (blockE ["number","one","other","motion","name"] [] r) (h++ [O.dct []])).bind λ_ h'=>Rs.ok (D.ref h.length) h'|none=>.bad)=_
 rw[hn]
 show(dcI _ _ _ _ _ h.length n ((ts.map Tie.d).length+1) 0 [none,none,none,none,none] (h++ [O.dct []])).bind _=_
 rw[List.length_map,e]
 rfl
def wl(us:List Tie)(x:Str):List (Int×Str×M3):=us.filterMap λt=>(t.en x).map λy=>(t.n,y,t.mv x)
def ent(w:Int×Str×M3):Key×D:=(.inl w.1,.tup [.str w.2.1,mo w.2.2])
theorem wl_snoc{us:List Tie}{t:Tie}(ne:t.one≠t.other)(x:Str):wl (us++ [t]) x=wl us x++(if x=t.other then [(t.n,t.one,bk t.m)] else if x=t.one then [(t.n,t.other,t.m)] else []):=by
 unfold wl
 rw[List.filterMap_append]
 congr 1
 unfold Tie.en Tie.mv
 by_cases h1:t.one=x
 ·have h2:¬t.other=x:=λz=>ne (h1.trans z.symm)
  have h2':¬x=t.other:=λz=>h2 z.symm
  simp[h1,h2,h2']
 ·have h1':¬x=t.one:=λz=>h1 z.symm
  by_cases h2:t.other=x
  ·have h2':x=t.other:=h2.symm
   simp[h1,h2]
  ·have h2':¬x=t.other:=λz=>h2 z.symm
   simp[h1,h2,h1',h2']
theorem wl_num{us:List Tie}{x:Str}{w:Int×Str×M3}(h:w∈wl us x):w.1∈us.map Tie.n:=by
 obtain⟨t,ht,e⟩:=List.mem_filterMap.mp h
 rw[Option.map_eq_some_iff] at e
 obtain⟨y,_,rfl⟩:=e
 exact List.mem_map.mpr ⟨t,ht,rfl⟩
theorem wl_len(us:List Tie)(x:Str):(wl us x).length<=us.length:=List.length_filterMap_le _ _
noncomputable def ordT(ts:List Tie)(Q:Ties ts):List Tie:=Classical.choose (wzm Q)
theorem jzV{ts:List Tie}(Q:Ties ts):(ordT ts Q).Perm ts/\srtD (ts.map Tie.d)=some ((ordT ts Q).map Tie.d):=Classical.choose_spec (wzm Q)
theorem leads_ok{W bki:Nat}(hW:2000<=W)(hb:∀(m:M3)(h:Hh),ok8 m->cl bki [mo m] h=.ok (mo (bk m)) h){ts:List Tie}(Q:Ties ts){n:Nat}{h:Hh}(hn:lstAt h n=some (ts.map Tie.d)):
 ∃h' p M,(xss G cl W (ldB bki) [some (.ref n),none,none,none,none,none] h).bind endD=.ok (.ref p) h'/\Tb h h' p M (λx=>(wl (ordT ts Q) x).map ent)/\∀x,valD M (.inr x)=none->wl (ordT ts Q) x=[]:=by
 obtain⟨h1,M,e1,F⟩:=ldC_ok (G:=G) (cl:=cl) (r:= [some (.ref n),none,none,none,none,none]) hn Q.len rfl
 obtain⟨pu,es⟩:=jzV Q
 generalize ordT ts Q=us at pu es
 have hn1:lstAt h1 n=some (ts.map Tie.d):=F.T.kp.lst hn
 have und:(us.map Tie.n).Nodup:=(pu.map Tie.n).nodup_iff.mpr Q.nd
 have ulen:us.length<=16:=by rw[pu.length_eq];exact Q.len
 have e2:ev G cl (.blt .sorted (.cons (.var 0) .nil)) [some (.ref n),some (.ref h.length),none,none,none,none] h1=.ok (.ref h1.length) (h1++ [.lst (us.map Tie.d)]):=by
  simp only[evBlt,jzj,jzp,evVar,ge0,jze,bSorted,srtL,jz9,hn1,Option.isSome_some,sRef,es]
 have hlt:h.length<h1.length:=(List.getElem?_eq_some_iff.mp F.T.top).1
 have T0:Tb h (h1++ [.lst (us.map Tie.d)]) h.length M (λx=>(wl (us.take 0) x).map ent):=⟨F.T.kp.trans (Kp.app _ _),F.T.lo,by rw[List.getElem?_append_left hlt];exact F.T.top,λx d hd=>by
  obtain⟨q,h1,h2,h3,h4⟩:=F.T.val x d hd
  exact⟨q,h1,h2,h3,by rw[List.getElem?_append_left (List.getElem?_eq_some_iff.mp h4).1];exact h4⟩,F.T.inj⟩
 rcases jzJ (t:=.tp [2,3,4,5]) (body:=xss G cl W (ldL bki)) (n:=h1.length) (l:=us.map Tie.d)
  (λi r h'=>lstAt h' h1.length=some (us.map Tie.d)/\Tb h h' h.length M (λx=>(wl (us.take i) x).map ent)/\∃d2 d3 d4 d5,r=[some (.ref n),some (.ref h.length),d2,d3,d4,d5]) (λ_ _=>False) (λi r h' q=>q.1)
  (by
    rintro i d hd r h' ⟨hl,T,d2,d3,d4,d5,rfl⟩
    rw[List.getElem?_map] at hd
    cases hx:us[i]? with
    |none=>rw[hx] at hd;cases hd
    |some t=>
     rw[hx] at hd;cases hd
     have hi:i<us.length:=(List.getElem?_eq_some_iff.mp hx).1
     have hmem:t∈ts:=pu.mem_iff.mp (List.mem_of_getElem? hx)
     have ne:=Q.ne t hmem
     have hnn:t.n ∉ (us.take i).map Tie.n:=by
      intro z
      have:us=us.take i++t::us.drop (i+1):=by
       rw[<- (List.getElem?_eq_some_iff.mp hx).2, <- List.drop_eq_getElem_cons hi,List.take_append_drop]
      rw[this,List.map_append,List.map_cons] at und
      have:=(List.nodup_append.mp und).2.2 t.n z t.n List.mem_cons_self
      exact this rfl
     have fr:∀x,∀p∈(wl (us.take i) x).map ent,p.1≠ .inl t.n:=λx p hp z=>by
      obtain⟨w,hw,rfl⟩:=List.mem_map.mp hp
      exact hnn (by rw[<- Sum.inl.inj z];exact wl_num hw)
     have ln:∀x,((wl (us.take i) x).map ent).length<999:=λx=>by
      have:=wl_len (us.take i) x
      rw[List.length_map]
      have:=List.length_take_le i us
      omega
     have g1:=F.has t.one ⟨t,hmem,.inl rfl⟩
     have g2:=F.has t.other ⟨t,hmem,.inr rfl⟩
     obtain⟨v1,k1⟩:=Option.isSome_iff_exists.mp g1
     obtain⟨v2,k2⟩:=Option.isSome_iff_exists.mp g2
     have hi1:=T.get k1
     obtain⟨h2,p1,T2,l2⟩:=T.put k1 t.n (.tup [.str t.other,mo t.m]) (Nat.lt_succ_of_lt (ln _)) (fr _)
     have hi2:=T2.get k2
     have cb:=hb t.m h2 (Q.ok t hmem)
     have ne':¬t.other=t.one:=λz=>ne z.symm
     obtain⟨h3,q1,T3,l3⟩:=T2.put k2 t.n (.tup [.str t.one,mo (bk t.m)]) (by rw[if_neg ne'];exact Nat.lt_succ_of_lt (ln _)) (by rw[if_neg ne'];exact fr _)
     refine⟨[some (.ref n),some (.ref h.length),some (.int t.n),some (.str t.one),some (.str t.other),some (mo t.m)],rfl,.inl ⟨[some (.ref n),some (.ref h.length),some (.int t.n),some (.str t.one),some (.str t.other),some (mo t.m)],h3,?_,l3 _ _ (l2 _ _ hl),?_,_,_,_,_,rfl⟩⟩
     ·rw[xssNx (r':= [some (.ref n),some (.ref h.length),some (.int t.n),some (.str t.one),some (.str t.other),some (mo t.m)]) (h':=h2) (by
       simp only[xsStx,evTup,jzj,jzp,evVar,evIx,List.getElem?_cons_succ,ge0,jze,List.length_cons,List.length_nil,Nat.reduceLeDiff,Nat.reduceAdd,if_true,nxOk,hi1,p1]),
       xssNx (r':= [some (.ref n),some (.ref h.length),some (.int t.n),some (.str t.one),some (.str t.other),some (mo t.m)]) (h':=h3) (by
       simp only[xsStx,evTup,jzj,jzp,evVar,evIx,jzE,cb,List.getElem?_cons_succ,ge0,jze,List.length_cons,List.length_nil,Nat.reduceLeDiff,Nat.reduceAdd,if_true,nxOk,hi2,q1])]
      rfl
     ·have hf:(λx=>(wl (us.take (i+1)) x).map ent)=(λy=>if y=t.other then(if t.other=t.one then(wl (us.take i) t.one).map ent++ [(.inl t.n,.tup [.str t.other,mo t.m])] else(wl (us.take i) t.other).map ent)++ [(.inl t.n,.tup [.str t.one,mo (bk t.m)])] else if y=t.one then(wl (us.take i) t.one).map ent++ [(.inl t.n,.tup [.str t.other,mo t.m])] else(wl (us.take i) y).map ent):=by
       funext y
       rw[List.take_succ,hx,Option.toList_some,wl_snoc ne,List.map_append,if_neg ne']
       by_cases h1:y=t.other
       ·subst h1;rw[if_pos rfl,if_pos rfl];rfl
       ·rw[if_neg h1,if_neg h1]
        by_cases h2:y=t.one
        ·subst h2;rw[if_pos rfl,if_pos rfl];rfl
        ·rw[if_neg h2,if_neg h2];simp
      rw[hf]
      exact T3)
  W 0 [some (.ref n),some (.ref h.length),none,none,none,none] (h1++ [.lst (us.map Tie.d)]) ⟨jzx _ _,T0,_,_,_,_,rfl⟩ (Nat.zero_le _) (by rw[List.length_map];omega) with ⟨r',h',ef,hl,T,d2,d3,d4,d5,rfl⟩|⟨d,h',ef,hf⟩
 ·rw[List.length_map,List.take_of_length_le (Nat.le_refl _)] at T
  refine⟨h',h.length,M,?_,T,λx hx=>?_⟩
  ·rw[ldB,xssNx (r':= [some (.ref n),some (.ref h.length),none,none,none,none]) (h':=h1) (by rw[xsAsc,e1];rfl),
    xssNx (r':= [some (.ref n),some (.ref h.length),d2,d3,d4,d5]) (h':=h') (by rw[qzj,e2];simp only[nxOk,jze,forDR];exact ef)]
   simp
  ·apply List.filterMap_eq_nil_iff.mpr
   intro t ht
   rw[Option.map_eq_none_iff]
   unfold Tie.en
   have hm:t∈ts:=pu.mem_iff.mp ht
   have n1:¬t.one=x:=λz=>by
    have:=F.has x ⟨t,hm,.inl z⟩
    rw[hx] at this
    cases this
   have n2:¬t.other=x:=λz=>by
    have:=F.has x ⟨t,hm,.inr z⟩
    rw[hx] at this
    cases this
   rw[if_neg n1,if_neg n2]
 ·exact hf.elim
end
end Ng
end
section
namespace Ng
open PySem L2
@[simp] theorem evJoin(G:Gs)(cl:Cl)(r:Ev)(h:Hh)(x:Str)(a:E):ev G cl (.join x a) r h=(ev G cl a r h).bind λy h=>joinD x y h:=by rw[ev]
abbrev abc:Str:="abcdefghijklmnopqrstuvwxyz"
def ltr(j:Int):Str:=⟨#[(abc.cps.toList[j.toNat]?).getD 0]⟩
theorem abc_len:abc.cps.toList.length=26:=by decide
theorem ltr_ok{j:Int}(h0:0<=j)(h1:j<26)(h:Hh):ixD (.str abc) (.int j) h=.ok (.str (ltr j)) h:=by
 have hj:j.toNat<abc.cps.toList.length:=by rw[abc_len];omega
 have e:atI abc.cps.toList j=some (abc.cps.toList[j.toNat]):=by
  have:=jzQ (xs:=abc.cps.toList) (j:=j.toNat) (List.getElem?_eq_getElem hj)
  rwa [Int.toNat_of_nonneg h0] at this
 show(if abc.length<=sizeLine then(match atI abc.cps.toList j with|some c=>Rs.ok (D.str ⟨#[c]⟩) h|none=>.bad) else .bad)=_
 rw[if_pos (by decide),e]
 unfold ltr
 rw[List.getElem?_eq_getElem hj]
 rfl
theorem bMulS{i j:Int}(h:Hh)(a:0<=i)(b:i<1000):binD .mul (.int i) (.int j) h=.ok (.int (i*j)) h:=bMulL h (by omega) (by omega)
theorem ltr_len(j:Int):(ltr j).length=1:=rfl
theorem wzn:∀l:List Str,strsD (l.map D.str)=some l
 | []=>rfl
 |x::l=>by rw[List.map_cons,strsD,wzn l];rfl
theorem wzR(f:Nat->Str)(hf:∀k,(f k).length=1):∀l:List Nat,((l.map f).map λx=>x.length).sum=l.length
 | []=>rfl
 |x::l=>by rw[List.map_cons,List.map_cons,List.sum_cons,wzR f hf l,hf,List.length_cons];omega
theorem join_ok{h:Hh}{n m:Nat}(f:Nat->Str)(hf:∀k,(f k).length=1)(hm:m<=100)(e:lstAt h n=some ((List.range m).map λk=>D.str (f k))):∃s:Str,s.length<=1000/\joinD "" (.ref n) h=.ok (.str s) h:=by
 have e1:((List.range m).map λk=>D.str (f k))=((List.range m).map f).map D.str:=by rw[List.map_map];rfl
 rw[e1] at e
 have e2:joinD "" (.ref n) h=.ok (.str (Txt.join "" ((List.range m).map f))) h:=by
  unfold joinD
  rw[jz9,sRef,e]
  show(match strsD (((List.range m).map f).map D.str) with|some xs=>if(xs.map (λx:Str=>x.length)).sum+xs.length*(Str.length "")<=1000 then Rs.ok (D.str (Txt.join "" xs)) h else .bad|none=>.bad)=_
  rw[wzn]
  show(if _ then _ else _)=_
  rw[if_pos]
  rw[wzR f hf,show Str.length ""=0 from rfl]
  simp
  omega
 refine⟨_,?_,e2⟩
 show(Builtin.Str.glued "" ((List.range m).map f)).length<=1000
 rw[size_glued,wzR f hf,show Str.length ""=0 from rfl]
 simp
 omega
theorem atStr{l:List Str}{i:Int}(a:0<=i)(b:i<l.length):∃v∈l,atI (l.map D.str) i=some (.str v):=by
 have hj:i.toNat<l.length:=by omega
 have:=jzQ (xs:=l.map D.str) (j:=i.toNat) (v:=.str l[i.toNat]) (by rw[List.getElem?_map,List.getElem?_eq_getElem hj];rfl)
 rw[Int.toNat_of_nonneg a] at this
 exact⟨_,List.getElem_mem hj,this⟩
section
variable {G:Gs}{cl:Cl}{W:Nat}
abbrev nmC:E:=.comp (.nm 0) .r1 (.cons (.var 5) .nil) .nil (.ix (.var 1) (.bin .mod (.bin .add (.ix (.var 2) (.int 3)) (.bin .mul (.var 0) (.ix (.var 2) (.int 4)))) (.int 26))) ["_law_at","_law_letters","_law_d"] [1,0]
abbrev nmO:E:=(.ix (.var 1) (.bin .mod (.bin .add (.bin .mul (.var 3) (.ix (.lst (.cons (.int 1) (.cons (.int 3) (.cons (.int 5) (.cons (.int 7) (.cons (.int 9) (.cons (.int 11) .nil))))))) (.bin .mod (.ix (.var 0) (.int 2)) (.int 6)))) (.ix (.var 0) (.int 3))) (.int 26)))
abbrev nmL:Ss:=(.cons (.asg (.nm 4) nmO) (.cons (.asg (.nm 5) (.bin .mod (.bin .fdiv (.ix (.var 0) (.int 4)) (.int 4)) (.int 8))) (.cons (.iff (.cmp .eq (.bin .mod (.ix (.var 0) (.int 4)) (.int 2)) (.int 1)) (.cons (.asg (.nm 5) (.bin .mod (.ix (.var 0) (.bin .add (.int 5) (.var 3))) (.int 8))) .nil) .nil) (.cons (.asg (.nm 6) (.join "" nmC)) (.cons (.iff (.cmp .eq (.bin .mod (.bin .fdiv (.ix (.var 0) (.int 4)) (.int 2)) (.int 2)) (.int 1)) (.cons (.ex (.app (.var 2) (.bin .add (.var 4) (.var 6)))) .nil) (.cons (.ex (.app (.var 2) (.bin .add (.var 6) (.var 4)))) .nil)) .nil)))))
abbrev nmN:E:=(.ix (.lst (.cons (.int 2) (.cons (.int 3) (.cons (.int 3) (.cons (.int 4) (.cons (.int 4) (.cons (.int 5) (.cons (.int 6) (.cons (.int 7) (.cons (.int 12) (.cons (.int 1) .nil))))))))))) (.bin .mod (.ix (.var 0) (.int 1)) (.int 10)))
abbrev nmB:Ss:=(.cons (.asg (.nm 1) (.str "abcdefghijklmnopqrstuvwxyz")) (.cons (.asg (.nm 2) (.lst .nil)) (.cons (.forr (.nm 3) (.r1 nmN) nmL) (.cons (.ret (.var 2)) .nil))))
end
end Ng
namespace Ng
open PySem L2
section
variable {G:Gs}{cl:Cl}{W:Nat}
abbrev nmE(A:Str)(dr p k:Nat)(d4 d5 d6:Option D):Ev:= [some (.ref dr),some (.str A),some (.ref p),some (.int k),d4,d5,d6]
theorem zzi{A:Str}{lt:Int->Str}(hA:∀(j:Int)(h:Hh),0<=j->j<26->ixD (.str A) (.int j) h=.ok (.str (lt j)) h){h:Hh}{dr p:Nat}(x2 x3:Int)(k:Nat)(hk:k<12)(d4 d5 d6:Option D)
 (i2:ixD (.ref dr) (.int 2) (h++ [.lst ([1,3,5,7,9,11].map D.int)])=.ok (.int x2) (h++ [.lst ([1,3,5,7,9,11].map D.int)]))(i3:ixD (.ref dr) (.int 3) (h++ [.lst ([1,3,5,7,9,11].map D.int)])=.ok (.int x3) (h++ [.lst ([1,3,5,7,9,11].map D.int)])):
 ∃j,xs G cl W (.asg (.nm 4) nmO) (nmE A dr p k d4 d5 d6) h=.ok (.nx (nmE A dr p k (some (.str (lt j))) d5 d6)) (h++ [.lst ([1,3,5,7,9,11].map D.int)]):=by
 have q6:∀(x:Int)(g:Hh),binD .mod (.int x) (.int 6) g=.ok (.int (x%6)) g:=λx g=>bMod g (by omega)
 have q26:∀(x:Int)(g:Hh),binD .mod (.int x) (.int 26) g=.ok (.int (x%26)) g:=λx g=>bMod g (by omega)
 have mk:∀(x:Int)(g:Hh),∃y,binD .mul (.int k) (.int x) g=.ok (.int y) g:=λx g=>⟨_,bMulS g (by omega) (by omega)⟩
 obtain⟨v,_,ev1⟩:=ixDisp (G:=G) (cl:=cl) (es:=(.cons (.int 1) (.cons (.int 3) (.cons (.int 5) (.cons (.int 7) (.cons (.int 9) (.cons (.int 11) .nil))))))) (e:=(.bin .mod (.ix (.var 0) (.int 2)) (.int 6))) (l:= [1,3,5,7,9,11]) (r:=nmE A dr p k d4 d5 d6) (h:=h) (i:=x2%6) (by simp) (by decide)
  (by simp only[evBin,evIx,evVar,ge0,jze,evInt,i2,q6]) (by omega) (by simp;omega)
 generalize h++ [O.lst ([1,3,5,7,9,11].map D.int)]=h1 at ev1 i3⊢
 obtain⟨y,my⟩:=mk v h1
 have lo:=hA ((y+x3)%26) h1 (by omega) (by omega)
 refine⟨(y+x3)%26,?_⟩
 have eI:ev G cl (.bin .mod (.bin .add (.bin .mul (.var 3) (.ix (.lst (.cons (.int 1) (.cons (.int 3) (.cons (.int 5) (.cons (.int 7) (.cons (.int 9) (.cons (.int 11) .nil))))))) (.bin .mod (.ix (.var 0) (.int 2)) (.int 6)))) (.ix (.var 0) (.int 3))) (.int 26)) (nmE A dr p k d4 d5 d6) h=.ok (.int ((y+x3)%26)) h1:=by
  exact jzB (jzB (jzB (x:=.int k) (evV rfl) ev1 my) (evIxV (x:=.ref dr) rfl (evInt ..) i3) (bAdd ..)) (evInt ..) (q26 _ _)
 rw[xsAsg,evIxV (x:=.str A) rfl eI lo]
 rfl
theorem vzK{A:Str}{h:Hh}{dr p:Nat}(x4 x5:Int)(k:Nat)(d4 d5 d6:Option D)(i4:ixD (.ref dr) (.int 4) h=.ok (.int x4) h)(i5:ixD (.ref dr) (.int (5+k)) h=.ok (.int x5) h)(Z:Ss):
 ∃z:Nat,z<8/\xss G cl W (.cons (.asg (.nm 5) (.bin .mod (.bin .fdiv (.ix (.var 0) (.int 4)) (.int 4)) (.int 8))) (.cons (.iff (.cmp .eq (.bin .mod (.ix (.var 0) (.int 4)) (.int 2)) (.int 1)) (.cons (.asg (.nm 5) (.bin .mod (.ix (.var 0) (.bin .add (.int 5) (.var 3))) (.int 8))) .nil) .nil) Z)) (nmE A dr p k d4 d5 d6) h=xss G cl W Z (nmE A dr p k d4 (some (.int z)) d6) h:=by
 have q8:∀(x:Int)(g:Hh),binD .mod (.int x) (.int 8) g=.ok (.int (x%8)) g:=λx g=>bMod g (by omega)
 have q2:∀(x:Int)(g:Hh),binD .mod (.int x) (.int 2) g=.ok (.int (x%2)) g:=λx g=>bMod g (by omega)
 have f4:∀(x:Int)(g:Hh),binD .fdiv (.int x) (.int 4) g=.ok (.int (x/4)) g:=λx g=>bDiv g (by omega) (by omega)
 have s2:xs G cl W (.asg (.nm 5) (.bin .mod (.bin .fdiv (.ix (.var 0) (.int 4)) (.int 4)) (.int 8))) (nmE A dr p k d4 d5 d6) h=.ok (.nx (nmE A dr p k d4 (some (.int (x4/4%8))) d6)) h:=by
  simp only[xsAsg,evBin,evIx,evVar,evInt,ge0,jze,i4,f4,q8,nxOk,setNm,List.set_cons_succ,List.set_cons_zero]
 by_cases c:x4%2=1
 ·refine⟨(x5%8).toNat,by omega,?_⟩
  rw[Int.toNat_of_nonneg (by omega),xssNx s2,xssNx (r':=nmE A dr p k d4 (some (.int (x5%8))) d6) (h':=h) (by
   simp only[xsIff,evCmp,evBin,evIx,evVar,evInt,ge0,jze,i4,q2,c,cEqI,decide_true,nxOk,tBl,jzF,jzo,xsAsg,List.getElem?_cons_succ,bAdd,i5,q8,setNm,List.set_cons_succ,List.set_cons_zero])]
 ·refine⟨(x4/4%8).toNat,by omega,?_⟩
  rw[Int.toNat_of_nonneg (by omega),xssNx s2,xssNx (r':=nmE A dr p k d4 (some (.int (x4/4%8))) d6) (h':=h) (by
   simp only[xsIff,evCmp,evBin,evIx,evVar,evInt,ge0,jze,i4,q2,c,cEqI,decide_false,nxOk,tBl,jzo])]
theorem vzL{A:Str}{lt:Int->Str}(hA:∀(j:Int)(h:Hh),0<=j->j<26->ixD (.str A) (.int j) h=.ok (.str (lt j)) h)(hlt:∀j,(lt j).length=1){h:Hh}{dr p:Nat}(x3 x4:Int)(k z:Nat)(hz:z<8)(d4 d6:Option D)(i3:∀g,ixD (.ref dr) (.int 3) (h++g)=.ok (.int x3) (h++g))(i4:∀g,ixD (.ref dr) (.int 4) (h++g)=.ok (.int x4) (h++g)):
 ∃g s,s.length<=1000/\xs G cl W (.asg (.nm 6) (.join "" nmC)) (nmE A dr p k d4 (some (.int z)) d6) h=.ok (.nx (nmE A dr p k d4 (some (.int z)) (some (.str s)))) (h++g):=by
 have q26:∀(x:Int)(g:Hh),binD .mod (.int x) (.int 26) g=.ok (.int (x%26)) g:=λx g=>bMod g (by omega)
 have ml:∀(b:Nat)(g:Hh),b<8->binD .mul (.int b) (.int x4) g=.ok (.int (b*x4)) g:=λb g hb=>bMulS g (by omega) (by omega)
 obtain⟨f,hf⟩:∃f:Nat->Int,∀b,f b=x3+(b:Int)*x4:=⟨λb=>x3+(b:Int)*x4,λ_=>rfl⟩
 obtain⟨gb,ec⟩:=evC_r1 (G:=G) (cl:=cl) (t:=.nm 0) (it:=.cons (.var 5) .nil) (cs:=.nil) (e:=(.ix (.var 1) (.bin .mod (.bin .add (.ix (.var 2) (.int 3)) (.bin .mul (.var 0) (.ix (.var 2) (.int 4)))) (.int 26)))) (N:= ["_law_at","_law_letters","_law_d"]) (cap:= [1,0]) (r:=nmE A dr p k d4 (some (.int z)) d6) (h:=h) (h1:=h) (j:=z)
  (λr=>∃d,r=[d,some (.str A),some (.ref dr)]) (λ_=>true) (λat'=>D.str (lt (f at'%26))) (by simp only[jzj,jzp,evVar,List.getElem?_cons_succ,ge0,jze]) (by omega) ⟨none,rfl⟩ λb hb=>⟨by
    rintro r ys gb ⟨d,rfl⟩
    have hb':b<z:=List.mem_range.mp hb
    refine⟨[some (.int b),some (.str A),some (.ref dr)],[],rfl,by rw[evtNil,List.append_nil],⟨_,rfl⟩,λ_=>⟨[],?_⟩⟩
    rw[List.append_nil,List.append_nil]
    have lo:=hA (f b%26) (h++O.lst ys::gb) (by omega) (by omega)
    have mb:=ml b (h++O.lst ys::gb) (by omega)
    have ma:binD .add (.int x3) (.int (b*x4)) (h++O.lst ys::gb)=.ok (.int (f b)) (h++O.lst ys::gb):=by rw[hf b];exact bAdd ..
    exact evIxV (x:=.str A) rfl (jzB (jzB (evIxV (x:=.ref dr) rfl (evInt ..) (i3 _)) (jzB (x:=.int b) (evV rfl) (evIxV (x:=.ref dr) rfl (evInt ..) (i4 _)) mb) ma) (evInt ..) (q26 _ _)) lo⟩
 rw[List.filter_eq_self.mpr (λ_ _=>rfl)] at ec
 have eL:=wzy h gb ((List.range z).map λat':Nat=>D.str (lt (f at'%26)))
 obtain⟨s,hs,ej⟩:=join_ok (λat':Nat=>lt (f at'%26)) (λk=>hlt _) (by omega) eL
 refine⟨O.lst ((List.range z).map λat':Nat=>D.str (lt (f at'%26)))::gb,s,hs,?_⟩
 rw[xsAsg,evJoin,ec,jze,ej]
 rfl
theorem zzh{A:Str}{h:Hh}{dr p:Nat}(x4:Int)(k:Nat)(own s:Str)(d5:Option D)(ho:own.length<=1000)(hs:s.length<=1000)(i4:ixD (.ref dr) (.int 4) h=.ok (.int x4) h){l:List D}(hl:h[p]? =some (.lst l))(hll:l.length<=100):
 ∃w:Str,xss G cl W (.cons (.iff (.cmp .eq (.bin .mod (.bin .fdiv (.ix (.var 0) (.int 4)) (.int 2)) (.int 2)) (.int 1)) (.cons (.ex (.app (.var 2) (.bin .add (.var 4) (.var 6)))) .nil) (.cons (.ex (.app (.var 2) (.bin .add (.var 6) (.var 4)))) .nil)) .nil) (nmE A dr p k (some (.str own)) d5 (some (.str s))) h=.ok (.nx (nmE A dr p k (some (.str own)) d5 (some (.str s)))) (h.set p (.lst (l++ [.str w]))):=by
 have q2:∀(x:Int)(g:Hh),binD .mod (.int x) (.int 2) g=.ok (.int (x%2)) g:=λx g=>bMod g (by omega)
 have f2:∀(x:Int)(g:Hh),binD .fdiv (.int x) (.int 2) g=.ok (.int (x/2)) g:=λx g=>bDiv g (by omega) (by omega)
 have big:(2000:Nat)<=sizeLine:=by decide
 have lp:lstAt h p=some l:=jzt hl
 have ap:=λw:Str=>app_ok (.str w) hl (by omega)
 have p1:binD .add (.str own) (.str s) h=.ok (.str (own++s)) h:=if_pos (Nat.le_trans (by omega) big)
 have p2:binD .add (.str s) (.str own) h=.ok (.str (s++own)) h:=if_pos (Nat.le_trans (by omega) big)
 by_cases c:x4/2%2=1
 ·refine⟨own++s,?_⟩
  simp only[jzF,jzo,xsIff,evCmp,evBin,evIx,evVar,evInt,ge0,jze,i4,f2,q2,c,cEqI,decide_true,nxOk,tBl,xsEx,evApp,List.getElem?_cons_succ,jz9,lp,Option.isSome_some,if_true,p1,ap]
 ·refine⟨s++own,?_⟩
  simp only[jzF,jzo,xsIff,evCmp,evBin,evIx,evVar,evInt,ge0,jze,i4,f2,q2,c,cEqI,decide_false,nxOk,tBl,xsEx,evApp,List.getElem?_cons_succ,jz9,lp,Option.isSome_some,if_true,p2,ap]
theorem vzJ{A:Str}{lt:Int->Str}(hA:∀(j:Int)(h:Hh),0<=j->j<26->ixD (.str A) (.int j) h=.ok (.str (lt j)) h)(hlt:∀j,(lt j).length=1){h0:Hh}{dr p:Nat}{row:List Int}(Q:Row h0 dr row)(hr:row.length=18)(hp:h0.length<=p)(k:Nat)(hk:k<12){h:Hh}(kp:Kp h0 h){l:List Str}(hl:h[p]? =some (.lst (l.map D.str)))(hll:l.length<=100)(d4 d5 d6:Option D):
 ∃h' s d4' d5' d6',xss G cl W nmL [some (.ref dr),some (.str A),some (.ref p),some (.int k),d4,d5,d6] h=.ok (.nx [some (.ref dr),some (.str A),some (.ref p),some (.int k),d4',d5',d6']) h'/\Kp h0 h'/\h'[p]? =some (.lst ((l++ [s]).map D.str)):=by
 have i2:∀g,Kp h0 g->ixD (.ref dr) (.int 2) g=.ok (.int (Row.R row 2)) g:=λg kg=>Q.ix kg 2 (by rw[hr];decide)
 have i3:∀g,Kp h0 g->ixD (.ref dr) (.int 3) g=.ok (.int (Row.R row 3)) g:=λg kg=>Q.ix kg 3 (by rw[hr];decide)
 have i4:∀g,Kp h0 g->ixD (.ref dr) (.int 4) g=.ok (.int (Row.R row 4)) g:=λg kg=>Q.ix kg 4 (by rw[hr];decide)
 have i5:∀g,Kp h0 g->ixD (.ref dr) (.int (5+k)) g=.ok (.int (Row.R row (5+k))) g:=λg kg=>by
  have:=Q.ix kg (5+k) (by omega)
  rwa [Int.natCast_add] at this
 generalize Row.R row 2=x2 at i2
 generalize Row.R row 3=x3 at i3
 generalize Row.R row 4=x4 at i4
 generalize Row.R row (5+k)=x5 at i5
 have kp1:Kp h0 (h++ [.lst ([1,3,5,7,9,11].map D.int)]):=kp.trans (Kp.app _ _)
 have hh1:(h++ [O.lst ([1,3,5,7,9,11].map D.int)])[p]? =some (.lst (l.map D.str)):=Kp.app _ _ _ _ hl
 obtain⟨j,s1⟩:=zzi (G:=G) (cl:=cl) (W:=W) (p:=p) hA x2 x3 k hk d4 d5 d6 (i2 _ kp1) (i3 _ kp1)
 generalize h++ [O.lst ([1,3,5,7,9,11].map D.int)]=h1 at s1 kp1 hh1
 have hol:(lt j).length<=1000:=by rw[hlt];decide
 generalize lt j=own at s1 hol
 obtain⟨z,hz,s2⟩:=vzK (A:=A) (G:=G) (cl:=cl) (W:=W) (dr:=dr) (p:=p) x4 x5 k (some (.str own)) d5 d6 (i4 _ kp1) (i5 _ kp1) (.cons (.asg (.nm 6) (.join "" nmC)) (.cons (.iff (.cmp .eq (.bin .mod (.bin .fdiv (.ix (.var 0) (.int 4)) (.int 2)) (.int 2)) (.int 1)) (.cons (.ex (.app (.var 2) (.bin .add (.var 4) (.var 6)))) .nil) (.cons (.ex (.app (.var 2) (.bin .add (.var 6) (.var 4)))) .nil)) .nil))
 obtain⟨g,s,hs,s3⟩:=vzL (G:=G) (cl:=cl) (W:=W) (dr:=dr) (p:=p) hA hlt x3 x4 k z hz (some (.str own)) d6 (λg=>i3 _ (kp1.trans (Kp.app _ g))) (λg=>i4 _ (kp1.trans (Kp.app _ g)))
 have kp2:Kp h0 (h1++g):=kp1.trans (Kp.app _ g)
 have hh2:(h1++g)[p]? =some (.lst (l.map D.str)):=Kp.app _ _ _ _ hh1
 generalize h1++g=h2 at s3 kp2 hh2
 obtain⟨w,s4⟩:=zzh (A:=A) (G:=G) (cl:=cl) (W:=W) (dr:=dr) x4 k own s (some (.int z)) hol hs (i4 _ kp2) hh2 (by rw[List.length_map];exact hll)
 refine⟨_,w,some (.str own),some (.int z),some (.str s),?_,kp2.set _ hp,by rw[List.getElem?_set_self (List.getElem?_eq_some_iff.mp hh2).1,List.map_append]<;>rfl⟩
 rw[nmL,xssNx s1,s2,xssNx s3]
 exact s4
theorem names_ok{h:Hh}{dr:Nat}{row:List Int}(Q:Row h dr row)(hr:row.length=18):
 ∃(h':Hh)(p:Nat)(l:List Str),(xss G cl W nmB [some (.ref dr),none,none,none,none,none,none] h).bind endD=.ok (.ref p) h'/\Kp h h'/\lstAt h' p=some (l.map D.str)/\0<l.length/\l.length<=12:=by
 have i1:∀g,Kp h g->ixD (.ref dr) (.int 1) g=.ok (.int (Row.R row 1)) g:=λg kg=>Q.ix kg 1 (by rw[hr];decide)
 have q10:∀(x:Int)(g:Hh),binD .mod (.int x) (.int 10) g=.ok (.int (x%10)) g:=λx g=>bMod g (by omega)
 have kp0:Kp h (h++ [.lst []]):=Kp.app _ _
 have kp1:Kp h ((h++ [.lst []])++ [.lst ([2,3,3,4,4,5,6,7,12,1].map D.int)]):=kp0.trans (Kp.app _ _)
 obtain⟨v,hv,ev1⟩:=ixDisp (G:=G) (cl:=cl) (es:=(.cons (.int 2) (.cons (.int 3) (.cons (.int 3) (.cons (.int 4) (.cons (.int 4) (.cons (.int 5) (.cons (.int 6) (.cons (.int 7) (.cons (.int 12) (.cons (.int 1) .nil))))))))))) (e:=(.bin .mod (.ix (.var 0) (.int 1)) (.int 10))) (l:= [2,3,3,4,4,5,6,7,12,1]) (r:= [some (.ref dr),some (.str abc),some (.ref h.length),none,none,none,none]) (h:=h++ [.lst []]) (i:=Row.R row 1%10) (by simp) (by decide)
  (by simp only[evBin,evIx,evVar,ge0,jze,evInt,i1 _ kp1,q10]) (by omega) (by simp;omega)
 have hv':0<v/\v<=12:=by
  simp at hv
  omega
 have hh1:((h++ [O.lst []])++ [O.lst ([2,3,3,4,4,5,6,7,12,1].map D.int)])[h.length]? =some (.lst (([]:List Str).map D.str)):=Kp.app _ _ _ _ (by simp)
 generalize hH1:(h++ [O.lst []])++ [O.lst ([2,3,3,4,4,5,6,7,12,1].map D.int)]=h1 at ev1 kp1 hh1
 obtain⟨r',h',el,kp',l,d3,d4,d5,d6,hl,hp,rfl⟩:=wzc (t:=.nm 3) (body:=xss G cl W nmL)
  (λk r h'=>Kp h h'/\∃(l:List Str)(d3 d4 d5 d6:Option D),l.length=k/\h'[h.length]? =some (.lst (l.map D.str))/\r=[some (.ref dr),some (.str abc),some (.ref h.length),d3,d4,d5,d6])
  (rngD 0 v.toNat) 0 (by
    rintro k d hk r h' ⟨kp,l,d3,d4,d5,d6,hl,hp,rfl⟩
    have hlt:k<v.toNat:=by
     have:=(List.getElem?_eq_some_iff.mp hk).1
     rwa [qzp] at this
    rw[vzn _ _ hlt] at hk
    cases hk
    obtain⟨h2,s,d4',d5',d6',e,k2,e2⟩:=vzJ (G:=G) (cl:=cl) (W:=W) (A:=abc) (lt:=ltr) (λj h a b=>ltr_ok a b h) ltr_len Q hr (Nat.le_refl _) k (by omega) kp hp (by omega) d4 d5 d6
    exact⟨_,_,_,rfl,e,k2,l++ [s],_,d4',d5',d6',by simp;omega,e2,rfl⟩)
  [some (.ref dr),some (.str abc),some (.ref h.length),none,none,none,none] h1 ⟨kp1,[],none,none,none,none,rfl,hh1,rfl⟩
 rw[qzp] at hl
 refine⟨h',h.length,l,?_,kp',jzt hp,by omega,by omega⟩
 rw[nmB,xssNx (r':= [some (.ref dr),some (.str abc),none,none,none,none,none]) (h':=h) (by simp),
  xssNx (r':= [some (.ref dr),some (.str abc),some (.ref h.length),none,none,none,none]) (h':=h++ [.lst []]) (by simp),
  xssNx (r':= [some (.ref dr),some (.str abc),some (.ref h.length),d3,d4,d5,d6]) (h':=h') (qzZ (j:=(v.toNat:Int)) (h1:=h1) (by rw[ev1,Int.toNat_of_nonneg (by omega)]) (qz7 (by omega)) el)]
 simp
end
end Ng
namespace Ng
open PySem L2
abbrev wbL(di mi:Nat):Ss:=(.cons (.asg (.nm 5) (.call di (.cons (.var 0) (.cons (.bin .add (.int 1) (.var 4)) (.cons (.int 8) .nil))))) (.cons (.asg (.nm 6) (.ix (.var 2) (.bin .mod (.ix (.var 5) (.int 0)) (.blt .len (.cons (.var 2) .nil))))) (.cons (.asg (.nm 7) (.ix (.var 2) (.bin .mod (.ix (.var 5) (.int 1)) (.blt .len (.cons (.var 2) .nil))))) (.cons (.iff (.cmp .eq (.bin .mod (.ix (.var 5) (.int 7)) (.int 3)) (.int 0)) (.cons (.asg (.nm 6) (.ix (.var 2) (.bin .mod (.var 4) (.blt .len (.cons (.var 2) .nil))))) (.cons (.asg (.nm 7) (.ix (.var 2) (.bin .mod (.bin .add (.var 4) (.int 1)) (.blt .len (.cons (.var 2) .nil))))) .nil)) .nil) (.cons (.asg (.nm 8) (.bin .add (.int 1) (.bin .mod (.bin .add (.bin .mul (.var 4) (.ix (.lst (.cons (.int 1) (.cons (.int 5) (.cons (.int 100) (.cons (.int 1008) (.cons (.int 503) .nil)))))) (.bin .mod (.ix (.var 1) (.int 17)) (.int 5)))) (.ix (.var 1) (.int 16))) (.int 1009)))) (.cons (.iff (.cmp .ne (.var 6) (.var 7)) (.cons (.ex (.app (.var 3) (.tup (.cons (.var 8) (.cons (.var 6) (.cons (.var 7) (.cons (.call mi (.cons (.var 5) (.cons (.int 2) .nil))) .nil))))))) .nil) .nil) .nil))))))
abbrev wbB(di ni mi:Nat):Ss:=(.cons (.asg (.nm 1) (.call di (.cons (.var 0) (.cons (.int 0) (.cons (.int 18) .nil))))) (.cons (.asg (.nm 2) (.call ni (.cons (.var 1) .nil))) (.cons (.asg (.nm 3) (.lst .nil)) (.cons (.forr (.nm 4) (.r1 (.bin .mod (.ix (.var 1) (.int 0)) (.int 17))) (wbL di mi)) (.cons (.ret (.var 3)) .nil)))))
section
variable {G:Gs}{cl:Cl}{W:Nat}
theorem ixDisp'{es:Es}{e:E}{l:List Int}{r:Ev}{h:Hh}{i v:Int}(he:evs G cl es r h=.ok (l.map D.int) h)(hl:l.length<=1000)(hi:ev G cl e r (h++ [.lst (l.map D.int)])=.ok (.int i) (h++ [.lst (l.map D.int)]))(hv:atI (l.map D.int) i=some (.int v)):
 ev G cl (.ix (.lst es) e) r h=.ok (.int v) (h++ [.lst (l.map D.int)]):=by
 rw[evIx,evLst,he,jze,if_pos (by rw[List.length_map];exact hl),jze,hi,jze,iRef _ _ (jzx _ _),hv]
theorem ixMod{i n:Nat}{e:E}{v:Int}{l:List Str}{r:Ev}{h:Hh}(hr:r[i]? =some (some (.ref n)))(hl:lstAt h n=some (l.map D.str))(h0:0<l.length)(hv:ev G cl e r h=.ok (.int v) h):∃s,ev G cl (.ix (.var i) (.bin .mod e (.blt .len (.cons (.var i) .nil)))) r h=.ok (.str s) h:=by
 have hp:(0:Int)<(l.length:Int):=by omega
 obtain⟨s,_,es⟩:=atStr (l:=l) (i:=v%(l.length:Int)) (Int.emod_nonneg _ (by omega)) (Int.emod_lt_of_pos _ hp)
 have e2:=evLen (G:=G) (cl:=cl) hr hl
 rw[List.length_map] at e2
 exact⟨s,evIxV hr (jzB hv e2 (bMod h hp)) (by rw[iRef _ _ hl,es])⟩
theorem mod5(x:Int)(h:Hh):binD .mod (.int x) (.int 5) h=.ok (.int (x%5)) h:=bMod h (by omega)
theorem mod3(x:Int)(h:Hh):binD .mod (.int x) (.int 3) h=.ok (.int (x%3)) h:=bMod h (by omega)
theorem mod17(x:Int)(h:Hh):binD .mod (.int x) (.int 17) h=.ok (.int (x%17)) h:=bMod h (by omega)
theorem mod1009(x:Int)(h:Hh):binD .mod (.int x) (.int 1009) h=.ok (.int (x%1009)) h:=bMod h (by omega)
def numb(v x16:Int)(k:Nat):Int:=1+((k:Int)*v+x16)%1009
abbrev wbE(dr q p k:Nat)(d5 d6 d7 d8:Option D):Ev:= [some (.ref 0),some (.ref dr),some (.ref q),some (.ref p),some (.int k),d5,d6,d7,d8]
theorem web_num{h:Hh}{dr q p k:Nat}{x16 x17 v:Int}(hk:k<100)(d5 d6 d7 d8:Option D)(hv:atI ([1,5,100,1008,503].map D.int) (x17%5)=some (.int v))
 (i16:∀g,ixD (.ref dr) (.int 16) (h++g)=.ok (.int x16) (h++g))(i17:∀g,ixD (.ref dr) (.int 17) (h++g)=.ok (.int x17) (h++g)):
 xs G cl W (.asg (.nm 8) (.bin .add (.int 1) (.bin .mod (.bin .add (.bin .mul (.var 4) (.ix (.lst (.cons (.int 1) (.cons (.int 5) (.cons (.int 100) (.cons (.int 1008) (.cons (.int 503) .nil)))))) (.bin .mod (.ix (.var 1) (.int 17)) (.int 5)))) (.ix (.var 1) (.int 16))) (.int 1009)))) (wbE dr q p k d5 d6 d7 d8) h=.ok (.nx (wbE dr q p k d5 d6 d7 (some (.int (numb v x16 k))))) (h++ [.lst ([1,5,100,1008,503].map D.int)]):=by
 have e1:ev G cl (.ix (.lst (.cons (.int 1) (.cons (.int 5) (.cons (.int 100) (.cons (.int 1008) (.cons (.int 503) .nil)))))) (.bin .mod (.ix (.var 1) (.int 17)) (.int 5))) (wbE dr q p k d5 d6 d7 d8) h=.ok (.int v) (h++ [.lst ([1,5,100,1008,503].map D.int)]):=
  ixDisp' (l:= [1,5,100,1008,503]) (i:=x17%5) (by simp) (by decide) (jzB (evIxV (x:=.ref dr) rfl (evInt ..) (i17 _)) (evInt ..) (mod5 _ _)) hv
 have mk:binD .mul (.int k) (.int v) (h++ [.lst ([1,5,100,1008,503].map D.int)])=.ok (.int (k*v)) (h++ [.lst ([1,5,100,1008,503].map D.int)]):=bMulS _ (by omega) (by omega)
 exact jzU (jzB (evInt ..) (jzB (jzB (jzB (x:=.int k) (evV rfl) e1 mk) (evIxV (x:=.ref dr) rfl (evInt ..) (i16 _)) (bAdd ..)) (evInt ..) (mod1009 _ _)) (bAdd ..))
theorem web_ends{h:Hh}{dr q p k t:Nat}{x0 x1 x7:Int}{l:List Str}(d6 d7 d8:Option D)(hq:lstAt h q=some (l.map D.str))(h0:0<l.length)
 (i0:ixD (.ref t) (.int 0) h=.ok (.int x0) h)(i1:ixD (.ref t) (.int 1) h=.ok (.int x1) h)(i7:ixD (.ref t) (.int 7) h=.ok (.int x7) h)(Z:Ss):
 ∃a b:Str,xss G cl W (.cons (.asg (.nm 6) (.ix (.var 2) (.bin .mod (.ix (.var 5) (.int 0)) (.blt .len (.cons (.var 2) .nil))))) (.cons (.asg (.nm 7) (.ix (.var 2) (.bin .mod (.ix (.var 5) (.int 1)) (.blt .len (.cons (.var 2) .nil))))) (.cons (.iff (.cmp .eq (.bin .mod (.ix (.var 5) (.int 7)) (.int 3)) (.int 0)) (.cons (.asg (.nm 6) (.ix (.var 2) (.bin .mod (.var 4) (.blt .len (.cons (.var 2) .nil))))) (.cons (.asg (.nm 7) (.ix (.var 2) (.bin .mod (.bin .add (.var 4) (.int 1)) (.blt .len (.cons (.var 2) .nil))))) .nil)) .nil) Z))) (wbE dr q p k (some (.ref t)) d6 d7 d8) h
  =xss G cl W Z (wbE dr q p k (some (.ref t)) (some (.str a)) (some (.str b)) d8) h:=by
 obtain⟨a,ea⟩:=ixMod (G:=G) (cl:=cl) (i:=2) (e:=.ix (.var 5) (.int 0)) (r:=wbE dr q p k (some (.ref t)) d6 d7 d8) rfl hq h0 (evIxV (x:=.ref t) rfl (evInt ..) i0)
 obtain⟨b,eb⟩:=ixMod (G:=G) (cl:=cl) (i:=2) (e:=.ix (.var 5) (.int 1)) (r:=wbE dr q p k (some (.ref t)) (some (.str a)) d7 d8) rfl hq h0 (evIxV (x:=.ref t) rfl (evInt ..) i1)
 rw[xssNx (r':=wbE dr q p k (some (.ref t)) (some (.str a)) d7 d8) (jzU ea),xssNx (r':=wbE dr q p k (some (.ref t)) (some (.str a)) (some (.str b)) d8) (jzU eb)]
 have ec:ev G cl (.cmp .eq (.bin .mod (.ix (.var 5) (.int 7)) (.int 3)) (.int 0)) (wbE dr q p k (some (.ref t)) (some (.str a)) (some (.str b)) d8) h=.ok (.bl (decide (x7%3=0))) h:=
  qzF (jzB (evIxV (x:=.ref t) rfl (evInt ..) i7) (evInt ..) (mod3 _ _)) (evInt ..) (cEqI ..)
 by_cases c:x7%3=0
 ·rw[decide_eq_true c] at ec
  obtain⟨a2,ea2⟩:=ixMod (G:=G) (cl:=cl) (i:=2) (e:=.var 4) (v:=k) (r:=wbE dr q p k (some (.ref t)) (some (.str a)) (some (.str b)) d8) rfl hq h0 (evV rfl)
  obtain⟨b2,eb2⟩:=ixMod (G:=G) (cl:=cl) (i:=2) (e:=.bin .add (.var 4) (.int 1)) (r:=wbE dr q p k (some (.ref t)) (some (.str a2)) (some (.str b)) d8) rfl hq h0 (jzB (x:=.int k) (evV rfl) (evInt ..) (bAdd ..))
  refine⟨a2,b2,?_⟩
  rw[xssNx (r':=wbE dr q p k (some (.ref t)) (some (.str a2)) (some (.str b2)) d8) (h':=h)]
  rw[wz9 ec,xssNx (r':=wbE dr q p k (some (.ref t)) (some (.str a2)) (some (.str b)) d8) (jzU ea2),xssNx (r':=wbE dr q p k (some (.ref t)) (some (.str a2)) (some (.str b2)) d8) (jzU eb2),jzo]
 ·rw[decide_eq_false c] at ec
  refine⟨a,b,?_⟩
  rw[xssNx (r':=wbE dr q p k (some (.ref t)) (some (.str a)) (some (.str b)) d8) (h':=h)]
  rw[jzT ec,jzo]
structure Drw (cl:Cl)(di:Nat)(ns:List Int):Prop where
 dr:∀(at':Int)(M:Nat)(h:Hh),M<=1000->0<=at'->at'<100000->lstAt h 0=some (ns.map D.int)->∃row:List Int,row.length=M/\InR row/\cl di [.ref 0,.int at',.int M] h=.ok (.ref h.length) (h++ [.lst (row.map D.int)])
def Mot(cl:Cl)(mi:Nat):Prop:=∀(k:Nat)(l:List Int)(h:Hh),lstAt h k=some (l.map D.int)->l.length=8->InR l->∃m:M3,ok8 m/\cl mi [.ref k,.int 2] h=.ok (mo m) h
theorem web_turn{di mi:Nat}{ns:List Int}(hd:Drw cl di ns)(hm:Mot cl mi){h0:Hh}{dr q p:Nat}{row:List Int}{l:List Str}(Q:Row h0 dr row)(hr:row.length=18)(h00:lstAt h0 0=some (ns.map D.int))(hq:lstAt h0 q=some (l.map D.str))(hl0:0<l.length)(hp:h0.length<=p)
 {v:Int}(hv:atI ([1,5,100,1008,503].map D.int) (Row.R row 17%5)=some (.int v))(k:Nat)(hk:k<17){h:Hh}(kp:Kp h0 h){ts:List Tie}(hts:h[p]? =some (.lst (ts.map Tie.d)))(htl:ts.length<=100)(d5 d6 d7 d8:Option D):
 ∃h' ts' d5' d6' d7' d8',xss G cl W (wbL di mi) (wbE dr q p k d5 d6 d7 d8) h=.ok (.nx (wbE dr q p k d5' d6' d7' d8')) h'/\Kp h0 h'/\h'[p]? =some (.lst (ts'.map Tie.d))/\(ts'=ts\/∃t:Tie,ts'=ts++ [t]/\t.n=numb v (Row.R row 16) k/\t.one≠t.other/\ok8 t.m):=by
 have i16:∀g,Kp h0 g->ixD (.ref dr) (.int 16) g=.ok (.int (Row.R row 16)) g:=λg kg=>Q.ix kg 16 (by rw[hr];decide)
 have i17:∀g,Kp h0 g->ixD (.ref dr) (.int 17) g=.ok (.int (Row.R row 17)) g:=λg kg=>Q.ix kg 17 (by rw[hr];decide)
 generalize Row.R row 16=x16 at i16⊢
 generalize Row.R row 17=x17 at i17 hv
 obtain⟨rw8,r1,r2,ed⟩:=hd.dr (1+k) 8 h (by decide) (by omega) (by omega) (kp.lst h00)
 have T8:Row (h++ [.lst (rw8.map D.int)]) h.length rw8:=⟨jzx _ _,r2⟩
 have kp1:Kp h0 (h++ [.lst (rw8.map D.int)]):=kp.trans (Kp.app _ _)
 have hts1:(h++ [O.lst (rw8.map D.int)])[p]? =some (.lst (ts.map Tie.d)):=Kp.app _ _ _ _ hts
 have s1:xs G cl W (.asg (.nm 5) (.call di (.cons (.var 0) (.cons (.bin .add (.int 1) (.var 4)) (.cons (.int 8) .nil))))) (wbE dr q p k d5 d6 d7 d8) h=.ok (.nx (wbE dr q p k (some (.ref h.length)) d6 d7 d8)) (h++ [.lst (rw8.map D.int)]):=by
  have ed':cl di [.ref 0,.int (1+k),.int 8] h=_:=ed
  refine jzU ?_
  simp only[jzE,jzj,jzp,evVar,evInt,evBin,bAdd,List.getElem?_cons_succ,ge0,jze,ed',nxOk]
 generalize h++ [O.lst (rw8.map D.int)]=h1 at s1 T8 kp1 hts1
 generalize h.length=t at s1 T8
 obtain⟨a,b,s2⟩:=web_ends (G:=G) (cl:=cl) (W:=W) (dr:=dr) (p:=p) (k:=k) d6 d7 d8 (kp1.lst hq) hl0 (T8.ix (Kp.refl h1) 0 (by rw[r1];decide)) (T8.ix (Kp.refl h1) 1 (by rw[r1];decide)) (T8.ix (Kp.refl h1) 7 (by rw[r1];decide)) (.cons (.asg (.nm 8) (.bin .add (.int 1) (.bin .mod (.bin .add (.bin .mul (.var 4) (.ix (.lst (.cons (.int 1) (.cons (.int 5) (.cons (.int 100) (.cons (.int 1008) (.cons (.int 503) .nil)))))) (.bin .mod (.ix (.var 1) (.int 17)) (.int 5)))) (.ix (.var 1) (.int 16))) (.int 1009)))) (.cons (.iff (.cmp .ne (.var 6) (.var 7)) (.cons (.ex (.app (.var 3) (.tup (.cons (.var 8) (.cons (.var 6) (.cons (.var 7) (.cons (.call mi (.cons (.var 5) (.cons (.int 2) .nil))) .nil))))))) .nil) .nil) .nil))
 have s3:=web_num (G:=G) (cl:=cl) (W:=W) (h:=h1) (dr:=dr) (q:=q) (p:=p) (k:=k) (by omega) (some (.ref t)) (some (.str a)) (some (.str b)) d8 hv (λg=>i16 _ (kp1.trans (Kp.app _ g))) (λg=>i17 _ (kp1.trans (Kp.app _ g)))
 have kp2:Kp h0 (h1++ [.lst ([1,5,100,1008,503].map D.int)]):=kp1.trans (Kp.app _ _)
 have hts2:(h1++ [O.lst ([1,5,100,1008,503].map D.int)])[p]? =some (.lst (ts.map Tie.d)):=Kp.app _ _ _ _ hts1
 have T2:lstAt (h1++ [.lst ([1,5,100,1008,503].map D.int)]) t=some (rw8.map D.int):=jz6 _ _ T8.at'
 generalize h1++ [O.lst ([1,5,100,1008,503].map D.int)]=h2 at s3 kp2 hts2 T2
 obtain⟨m,hm8,em⟩:=hm t rw8 h2 T2 (by omega) r2
 generalize hnn:numb v x16 k=nn at s3⊢
 have ec:ev G cl (.cmp .ne (.var 6) (.var 7)) (wbE dr q p k (some (.ref t)) (some (.str a)) (some (.str b)) (some (.int nn))) h2=.ok (.bl (!decide (a=b))) h2:=qzF (x:=.str a) (y:=.str b) (evV rfl) (evV rfl) (cNeS ..)
 by_cases c:a=b
 ·rw[decide_eq_true c] at ec
  refine⟨h2,ts,some (.ref t),some (.str a),some (.str b),some (.int nn),?_,kp2,hts2,.inl rfl⟩
  rw[wbL,xssNx s1,s2,xssNx s3,xssNx (r':=wbE dr q p k (some (.ref t)) (some (.str a)) (some (.str b)) (some (.int nn))) (h':=h2) (by rw[jzT ec,jzo]),jzo]
 ·rw[decide_eq_false c] at ec
  have lp:lstAt h2 p=some (ts.map Tie.d):=jzt hts2
  have ap:=app_ok (.tup [.int nn,.str a,.str b,mo m]) hts2 (by rw[List.length_map];omega)
  refine⟨h2.set p (.lst (ts.map Tie.d++ [.tup [.int nn,.str a,.str b,mo m]])),ts++ [⟨nn,a,b,m⟩],some (.ref t),some (.str a),some (.str b),some (.int nn),?_,kp2.set _ hp,by rw[List.getElem?_set_self (List.getElem?_eq_some_iff.mp hts2).1,List.map_append]<;>rfl,.inr ⟨⟨nn,a,b,m⟩,rfl,rfl,c,hm8⟩⟩
  rw[wbL,xssNx s1,s2,xssNx s3,xssNx (r':=wbE dr q p k (some (.ref t)) (some (.str a)) (some (.str b)) (some (.int nn))) (h':=h2.set p (.lst (ts.map Tie.d++ [.tup [.int nn,.str a,.str b,mo m]]))) (by
   rw[wz9 ec]
   simp only[jzF,jzo,xsEx,evApp,evVar,List.getElem?_cons_succ,ge0,jze,jz9,lp,Option.isSome_some,if_true,evTup,jzj,jzp,jzE,evInt,em,nxOk,List.length_cons,List.length_nil,Nat.reduceAdd,Nat.reduceLeDiff,ap]),jzo]
theorem numb_inj{v x:Int}(hv:v=1\/v=5\/v=100\/v=1008\/v=503){j k:Nat}(hj:j<k)(hk:k<17):numb v x k≠numb v x j:=by
 unfold numb
 rcases hv with rfl|rfl|rfl|rfl|rfl<;>omega
theorem web_ok{di ni mi:Nat}{ns:List Int}(hd:Drw cl di ns)(hm:Mot cl mi)(hn:∀(h:Hh)(dr:Nat)(row:List Int),Row h dr row->row.length=18->∃(h':Hh)(p:Nat)(l:List Str),cl ni [.ref dr] h=.ok (.ref p) h'/\Kp h h'/\lstAt h' p=some (l.map D.str)/\0<l.length/\l.length<=12)
 {h:Hh}(h00:lstAt h 0=some (ns.map D.int)):
 ∃(h':Hh)(p:Nat)(ts:List Tie),(xss G cl W (wbB di ni mi) [some (.ref 0),none,none,none,none,none,none,none,none] h).bind endD=.ok (.ref p) h'/\Kp h h'/\lstAt h' p=some (ts.map Tie.d)/\Ties ts:=by
 obtain⟨row,r1,r2,ed⟩:=hd.dr 0 18 h (by decide) (by decide) (by decide) h00
 have Q0:Row (h++ [.lst (row.map D.int)]) h.length row:=⟨jzx _ _,r2⟩
 have kp0:Kp h (h++ [.lst (row.map D.int)]):=Kp.app _ _
 have ed':cl di [.ref 0,.int 0,.int 18] h=_:=ed
 generalize h++ [O.lst (row.map D.int)]=h1 at Q0 kp0 ed'
 generalize h.length=dr at Q0 ed'
 obtain⟨h2,q,l,en,kp12,hq,hl0,hl12⟩:=hn h1 dr row Q0 r1
 have kp2:=kp0.trans kp12
 have Q:Row h2 dr row:=⟨kp12.lst Q0.at',r2⟩
 obtain⟨v,hvm,hv⟩:=atInt (l:= [1,5,100,1008,503]) (i:=Row.R row 17%5) (by omega) (by simp;omega)
 have hv5:v=1\/v=5\/v=100\/v=1008\/v=503:=by simpa using hvm
 have i0:ixD (.ref dr) (.int 0) (h2++ [.lst []])=.ok (.int (Row.R row 0)) (h2++ [.lst []]):=Q.ix (Kp.app _ _) 0 (by rw[r1];decide)
 have h20:lstAt h2 0=some (ns.map D.int):=kp2.lst h00
 obtain⟨r',h',el,kp',ts,d4,d5,d6,d7,d8,hp,t1,t2,t3,t4,t5,rfl⟩:=wzc (t:=.nm 4) (body:=xss G cl W (wbL di mi))
  (λk r h'=>Kp h2 h'/\∃(ts:List Tie)(d4 d5 d6 d7 d8:Option D),h'[h2.length]? =some (.lst (ts.map Tie.d))/\ts.length<=k/\(ts.map Tie.n).Nodup/\(∀t∈ts,t.one≠t.other)/\(∀t∈ts,ok8 t.m)/\(∀t∈ts,∃j<k,t.n=numb v (Row.R row 16) j)/\r=[some (.ref 0),some (.ref dr),some (.ref q),some (.ref h2.length),d4,d5,d6,d7,d8])
  (rngD 0 (Row.R row 0%17).toNat) 0 (by
    rintro k d hk r h' ⟨kp,ts,d4,d5,d6,d7,d8,hp,t1,t2,t3,t4,t5,rfl⟩
    have hlt:k<(Row.R row 0%17).toNat:=by
     have:=(List.getElem?_eq_some_iff.mp hk).1
     rwa [qzp] at this
    rw[vzn _ _ hlt] at hk
    cases hk
    obtain⟨h3,ts',d5',d6',d7',d8',e,k3,e3,ht⟩:=web_turn (G:=G) (cl:=cl) (W:=W) hd hm Q r1 h20 hq hl0 (Nat.le_refl _) hv k (by omega) kp hp (by omega) d5 d6 d7 d8
    refine⟨_,_,_,rfl,e,k3,ts',some (.int k),d5',d6',d7',d8',e3,?_⟩
    rcases ht with rfl|⟨t,rfl,hn,hne,h8⟩
    ·exact⟨by omega,t2,t3,t4,λt ht=>(t5 t ht).imp λj hj=>⟨by omega,hj.2⟩,rfl⟩
    ·refine⟨by simp;omega,?_,λu hu=>?_,λu hu=>?_,λu hu=>?_,rfl⟩
     ·rw[List.map_append,List.nodup_append]
      refine⟨t2,by simp,λa ha b hb z=>?_⟩
      rw[List.map_cons,List.map_nil,List.mem_singleton] at hb
      obtain⟨u,hu,rfl⟩:=List.mem_map.mp ha
      obtain⟨j,hj,e⟩:=t5 u hu
      rw[z,hb,hn] at e
      exact numb_inj hv5 (by omega) (by omega) e
     ·rcases List.mem_append.mp hu with hu|hu
      ·exact t3 u hu
      ·rw[List.mem_singleton.mp hu];exact hne
     ·rcases List.mem_append.mp hu with hu|hu
      ·exact t4 u hu
      ·rw[List.mem_singleton.mp hu];exact h8
     ·rcases List.mem_append.mp hu with hu|hu
      ·exact(t5 u hu).imp λj hj=>⟨by omega,hj.2⟩
      ·rw[List.mem_singleton.mp hu];exact⟨k,by omega,by rw[hn]⟩)
  [some (.ref 0),some (.ref dr),some (.ref q),some (.ref h2.length),none,none,none,none,none] (h2++ [.lst []]) ⟨Kp.app _ _,[],none,none,none,none,none,by simp,Nat.le_refl _,List.nodup_nil,(λt ht=>by cases ht),(λt ht=>by cases ht),(λt ht=>by cases ht),rfl⟩
 rw[qzp] at t1
 refine⟨h',h2.length,ts,?_,kp2.trans kp',jzt hp,⟨by omega,t2,t3,t4⟩⟩
 rw[wbB,xssNx (r':= [some (.ref 0),some (.ref dr),none,none,none,none,none,none,none]) (h':=h1) (by simp only[xsAsg,jzE,jzj,jzp,evVar,evInt,List.getElem?_cons_succ,ge0,jze,ed',nxOk,setNm,List.set_cons_succ,List.set_cons_zero]),
  xssNx (r':= [some (.ref 0),some (.ref dr),some (.ref q),none,none,none,none,none,none]) (h':=h2) (by simp only[xsAsg,jzE,jzj,jzp,evVar,evInt,List.getElem?_cons_succ,ge0,jze,en,nxOk,setNm,List.set_cons_succ,List.set_cons_zero]),
  xssNx (r':= [some (.ref 0),some (.ref dr),some (.ref q),some (.ref h2.length),none,none,none,none,none]) (h':=h2++ [.lst []]) (by simp),
  xssNx (r':= [some (.ref 0),some (.ref dr),some (.ref q),some (.ref h2.length),d4,d5,d6,d7,d8]) (h':=h') (qzZ (j:=((Row.R row 0%17).toNat:Int)) (h1:=h2++ [.lst []]) (by rw[Int.toNat_of_nonneg (by omega)];exact jzB (evIxV (x:=.ref dr) rfl (evInt ..) i0) (evInt ..) (mod17 _ _)) (qz7 (by omega)) el)]
 simp
end
end Ng
end
section
namespace Ng
open PySem L2
theorem atI0(x:D)(l:List D):atI (x::l) 0=some x:=jzQ (xs:=x::l) (j:=0) rfl
def stp(ts:List Tie)(x:Str)(n:Int):Option (Str×M3):=(fnd ts n).bind λt=>(t.en x).map λy=>(y,t.mv x)
def wk(ts:List Tie):List Int->Str->M3->Option (Str×M3)
 | [],x,f=>some (x,f)
 |n::c,x,f=>(stp ts x n).bind λp=>wk ts c p.1 (bh p.2 f)
theorem jzO{h:Hh}{p:Nat}{M:List (Key×D)}(e:h[p]? =some (.dct M)):dctAt h (.ref p)=some M:=by
 show(match h[p]? with|some (.dct l)=>some l|some (.dcz l)=>some l|_=>none)=some M
 rw[e]
section
variable {G:Gs}{cl:Cl}{W:Nat}
def enD(t:Tie)(x:Str):D:=match t.en x with|some y=>.str y|none=>.non
abbrev enB:Ss:=(.cons (.iff (.cmp .eq (.ix (.var 0) (.int 1)) (.var 1)) (.cons (.ret (.ix (.var 0) (.int 2))) .nil) .nil) (.cons (.iff (.cmp .eq (.ix (.var 0) (.int 2)) (.var 1)) (.cons (.ret (.ix (.var 0) (.int 1))) .nil) .nil) (.cons (.ret .non) .nil)))
theorem end_ok(t:Tie)(x:Str)(h:Hh):(xss G cl W enB [some t.d,some (.str x)] h).bind endD=.ok (enD t x) h:=by
 unfold enD Tie.en
 by_cases h1:t.one=x
 ·rw[if_pos h1];simp[enB,Tie.d,atI,ixN,h1]
 ·rw[if_neg h1]
  by_cases h2:t.other=x
  ·rw[if_pos h2];simp[enB,Tie.d,atI,ixN,h1,h2]
  ·rw[if_neg h2];simp[enB,Tie.d,atI,ixN,h1,h2]
theorem vzS(ts:List Tie)(n:Int):fnd ts n=(ts.filter λt=>decide (t.n=n)).head? :=by
 unfold fnd
 rw[List.head?_filter]
end
end Ng
end
section
namespace Ng
open PySem L2
abbrev Sx:=Str×(Int×Str×M3)
def Sx.nm(t:Sx):Str:=t.2.2.1
def Sx.d(t:Sx):D:=.tup [.str t.1,.int t.2.1,.str t.2.2.1,mo t.2.2.2]
def rch(x0:Str)(T:List Sx):List Str:=x0::T.map Sx.nm
abbrev Stt:=List Sx×List Str
def adw(x0 b:Str)(s:Stt)(w:Int×Str×M3):Stt:=if w.2.1∈rch x0 s.1 then s else(s.1++ [(b,w)],s.2++ [w.2.1])
def vis(us:List Tie)(x0:Str)(s:Stt)(b:Str):Stt:=(wl us b).foldl (adw x0 b) s
def mid(us:List Tie)(x0:Str)(rim:List Str)(s:Stt):Stt:=rim.foldl (vis us x0) s
def ous(us:List Tie)(x0:Str):Nat->List Str->List Sx->List Sx
 |0,_,T=>T
 |k+1,rim,T=>if rim=[] then T else ous us x0 k (mid us x0 rim (T,[])).2 (mid us x0 rim (T,[])).1
inductive Gd (us:List Tie) (x0:Str):List Sx->Prop
 |nil:Gd us x0 []
 |snoc {T:List Sx} {t:Sx}:Gd us x0 T->t.1∈rch x0 T->t.nm ∉ rch x0 T->t.2∈wl us t.1->Gd us x0 (T++ [t])
theorem jzY(x0:Str)(T:List Sx)(t:Sx):rch x0 (T++ [t])=rch x0 T++ [t.nm]:=by simp[rch]
theorem Gd.nd{us:List Tie}{x0:Str}{T:List Sx}(g:Gd us x0 T):(rch x0 T).Nodup:=by
 induction g with
 |nil=>simp[rch]
 |snoc g h1 h2 h3 ih=>
  rw[jzY]
  refine List.nodup_append.mpr ⟨ih,by simp,?_⟩
  intro a ha b hb e
  rw[List.mem_singleton] at hb
  exact h2 (by rw[<- hb, <- e];exact ha)
def nms(us:List Tie):List Str:=us.map Tie.one++us.map Tie.other
theorem wl_nm{us:List Tie}{x:Str}{w:Int×Str×M3}(h:w∈wl us x):w.2.1∈nms us:=by
 obtain⟨t,ht,e⟩:=List.mem_filterMap.mp h
 rw[Option.map_eq_some_iff] at e
 obtain⟨y,ey,rfl⟩:=e
 unfold Tie.en at ey
 unfold nms
 split at ey
 ·cases ey;exact List.mem_append_right _ (List.mem_map.mpr ⟨t,ht,rfl⟩)
 ·split at ey
  ·cases ey;exact List.mem_append_left _ (List.mem_map.mpr ⟨t,ht,rfl⟩)
  ·cases ey
theorem Gd.sub{us:List Tie}{x0:Str}{T:List Sx}(g:Gd us x0 T):∀x∈T.map Sx.nm,x∈nms us:=by
 induction g with
 |nil=>intro x h;cases h
 |snoc g h1 h2 h3 ih=>
  intro x hx
  rw[List.map_append] at hx
  rcases List.mem_append.mp hx with hx|hx
  ·exact ih x hx
  ·simp at hx
   rw[hx]
   exact wl_nm h3
theorem nd_len{α:Type} [DecidableEq α]:∀(l m:List α),l.Nodup->(∀x∈l,x∈m)->l.length<=m.length
 | [],m,_,_=>by simp
 |a::l,m,nd,h=>by
  have ha:=h a List.mem_cons_self
  have:=nd_len l (m.erase a) (List.nodup_cons.mp nd).2 (λx hx=>(List.mem_erase_of_ne (λz=>(List.nodup_cons.mp nd).1 (by rw[<- z];exact hx))).mpr (h x (List.mem_cons_of_mem _ hx)))
  rw[List.length_erase_of_mem ha] at this
  have:0<m.length:=List.length_pos_of_mem ha
  rw[List.length_cons]
  omega
theorem Gd.len{us:List Tie}{x0:Str}{T:List Sx}(g:Gd us x0 T)(hu:us.length<=16):T.length<=32:=by
 have:=nd_len (T.map Sx.nm) (nms us) (List.nodup_cons.mp g.nd).2 g.sub
 rw[List.length_map] at this
 unfold nms at this
 simp at this
 omega
structure Pr (us:List Tie)(x0:Str)(A:List Str)(s:Stt):Prop where
 gd:Gd us x0 s.1
 eq:rch x0 s.1=A++s.2
theorem Pr.ad{us:List Tie}{x0 b:Str}{A:List Str}{s:Stt}{w:Int×Str×M3}(P:Pr us x0 A s)(hb:b∈A)(hw:w∈wl us b):Pr us x0 A (adw x0 b s w):=by
 unfold adw
 by_cases c:w.2.1∈rch x0 s.1
 ·rw[if_pos c];exact P
 ·rw[if_neg c]
  refine⟨.snoc P.gd (by rw[P.eq];exact List.mem_append_left _ hb) c hw,?_⟩
  show rch x0 (s.1++ [(b,w)])=_
  rw[jzY,P.eq,List.append_assoc]
  rfl
theorem Pr.fold{us:List Tie}{x0 b:Str}{A:List Str}(hb:b∈A):∀(ws:List (Int×Str×M3))(s:Stt),Pr us x0 A s->(∀w∈ws,w∈wl us b)->Pr us x0 A (ws.foldl (adw x0 b) s)
 | [],_,P,_=>P
 |w::ws,s,P,h=>Pr.fold hb ws _ (P.ad hb (h w List.mem_cons_self)) (λv hv=>h v (List.mem_cons_of_mem _ hv))
theorem Pr.vis{us:List Tie}{x0 b:Str}{A:List Str}{s:Stt}(P:Pr us x0 A s)(hb:b∈A):Pr us x0 A (vis us x0 s b):=Pr.fold hb _ _ P (λ_ h=>h)
theorem Pr.mid{us:List Tie}{x0:Str}{A:List Str}:∀(rim:List Str)(s:Stt),Pr us x0 A s->(∀b∈rim,b∈A)->Pr us x0 A (mid us x0 rim s)
 | [],_,P,_=>P
 |b::rim,s,P,h=>Pr.mid rim _ (P.vis (h b List.mem_cons_self)) (λv hv=>h v (List.mem_cons_of_mem _ hv))
theorem ous_gd{us:List Tie}{x0:Str}:∀(k:Nat)(rim:List Str)(T:List Sx),Gd us x0 T->(∀vs:List Str,True)->(∃vs,rch x0 T=vs++rim)->Gd us x0 (ous us x0 k rim T)
 |0,_,_,g,_,_=>g
 |k+1,rim,T,g,_,⟨vs,e⟩=>by
  rw[ous]
  split
  ·exact g
  ·have P:=Pr.mid (us:=us) (x0:=x0) (A:=vs++rim) rim (T,[]) ⟨g,by rw[List.append_nil];exact e⟩ (λb hb=>List.mem_append_right _ hb)
   exact ous_gd k _ _ P.gd (λ_=>trivial) ⟨_,P.eq⟩
noncomputable def stps(ts:List Tie)(Q:Ties ts)(x0:Str):List Sx:=ous (ordT ts Q) x0 40 [x0] []
theorem wzS(ts:List Tie)(Q:Ties ts)(x0:Str):Gd (ordT ts Q) x0 (stps ts Q x0):=ous_gd 40 [x0] [] .nil (λ_=>trivial) ⟨[],rfl⟩
structure Sgm (us:List Tie)(x0:Str)(M:List (Key×D))(p a:Nat)(h h':Hh)(vs:List Str)(T:List Sx):Prop where
 kp:Kp h h'
 lo:h.length<=p
 pa:p<a
 top:h'[p]? =some (.dct M)
 val:∀x d,valD M (.inr x)=some d->x ∉ vs->∃q,d=.ref q/\h.length<=q/\q<a/\q≠p/\h'[q]? =some (.dct ((wl us x).map ent))
 inj:∀x y d,valD M (.inr x)=some d->valD M (.inr y)=some d->x=y
 non:∀x,valD M (.inr x)=none->wl us x=[]
 set:h'[a]? =some (.stt (rch x0 T))
 told:h'[a+1]? =some (.lst (T.map Sx.d))
section
variable {us:List Tie}{x0:Str}{M:List (Key×D)}{p a:Nat}{h h':Hh}{vs:List Str}{T:List Sx}
theorem Sgm.app(S:Sgm us x0 M p a h h' vs T)(g:Hh):Sgm us x0 M p a h (h'++g) vs T:=
 ⟨S.kp.trans (Kp.app _ _),S.lo,S.pa,Kp.app _ _ _ _ S.top,λx d e n=>by
  obtain⟨q,h1,h2,h3,h4,h5⟩:=S.val x d e n
  exact⟨q,h1,h2,h3,h4,Kp.app _ _ _ _ h5⟩,S.inj,S.non,Kp.app _ _ _ _ S.set,Kp.app _ _ _ _ S.told⟩
theorem Sgm.setHi(S:Sgm us x0 M p a h h' vs T){n:Nat}(o:O)(hn:a+1<n):Sgm us x0 M p a h (h'.set n o) vs T:=by
 have:=S.lo
 have:=S.pa
 exact⟨S.kp.set _ (by omega),S.lo,S.pa,by rw[List.getElem?_set_ne (by omega)];exact S.top,λx d e n=>by
  obtain⟨q,h1,h2,h3,h4,h5⟩:=S.val x d e n
  exact⟨q,h1,h2,h3,h4,by rw[List.getElem?_set_ne (by omega)];exact h5⟩,S.inj,S.non,by rw[List.getElem?_set_ne (by omega)];exact S.set,by rw[List.getElem?_set_ne (by omega)];exact S.told⟩
theorem Sgm.get(S:Sgm us x0 M p a h h' vs T){G:Gs}{cl:Cl}{r:Ev}{i j:Nat}{b:Str}(hi:r[i]? =some (some (.ref p)))(hj:r[j]? =some (some (.str b)))(hb:b ∉ vs):
 ∃q,ev G cl (.get2 (.var i) (.var j) .dnw) r h'=.ok (.ref q) (h'++ [.dct []])/\(h'++ [O.dct []])[q]? =some (.dct ((wl us b).map ent))/\(q<a\/q=h'.length)/\Sgm us x0 M p a h ((h'++ [O.dct []]).set q .ded) (vs++ [b]) T:=by
 have S':=S.app [.dct []]
 have e1:ev G cl (.get2 (.var i) (.var j) .dnw) r h'=.ok ((valD M (.inr b)).getD (.ref h'.length)) (h'++ [.dct []]):=by
  rw[evGet2,evVar,hi]
  simp only[jze,jzO S.top,Option.isSome_some,if_true,evVar,hj,evDnw]
  show(match dctAt (h'++ [O.dct []]) (.ref p),some (Sum.inr b) with|some l,some k=>Rs.ok ((valD l k).getD (.ref h'.length)) (h'++ [O.dct []])|_,_=>.bad)=_
  rw[jzO S'.top]
 have lo:=S.lo
 have pa:=S.pa
 have hl:a+1<h'.length:=(List.getElem?_eq_some_iff.mp S.told).1
 cases ev':valD M (.inr b) with
 |none=>
  rw[ev'] at e1
  refine⟨h'.length,e1,by rw[S.non b ev'];simp,.inr rfl,?_⟩
  have S2:=S'.setHi (n:=h'.length) .ded hl
  exact⟨S2.kp,S2.lo,S2.pa,S2.top,λx d e n=>S2.val x d e (λz=>n (List.mem_append_left _ z)),S2.inj,S2.non,S2.set,S2.told⟩
 |some d=>
  rw[ev'] at e1
  obtain⟨q,rfl,h2,h3,h4,h5⟩:=S'.val b d ev' hb
  refine⟨q,e1,h5,.inl h3,S'.kp.set _ h2,S.lo,S.pa,by rw[List.getElem?_set_ne h4];exact S'.top,?_,S.inj,S.non,by rw[List.getElem?_set_ne (by omega)];exact S'.set,by rw[List.getElem?_set_ne (by omega)];exact S'.told⟩
  intro x d e n
  obtain⟨q2,rfl,k2,k3,k4,k5⟩:=S'.val x d e (λz=>n (List.mem_append_left _ z))
  refine⟨q2,rfl,k2,k3,k4,?_⟩
  rw[List.getElem?_set_ne]
  ·exact k5
  ·intro z
   subst z
   have:=S.inj x b _ e ev'
   exact n (List.mem_append_right _ (by rw[this];exact List.mem_singleton_self _))
end
section
variable (G:Gs)(cl:Cl)(W:Nat)(r:Ev)(h:Hh)
@[simp] theorem evNis(x o:E):ev G cl (.nis x o) r h=(ev G cl x r h).bind λx h=>(ev G cl o r h).bind λy h=>nisD x y h:=by rw[ev]<;>rfl
@[simp] theorem evSad(o x:E):ev G cl (.sad o x) r h=(ev G cl o r h).bind λx' h=>if isSt x' h=true then(ev G cl x r h).bind λy h=>sadD x' y h else .bad:=by rw[ev]<;>rfl
@[simp] theorem evSng(x:E):ev G cl (.sng x) r h=(ev G cl x r (h++ [.stt []])).bind λx h1=>sngD x h.length h1:=by rw[ev]<;>rfl
theorem xsForIt(t:Tg)(e:E)(b:Ss):xs G cl W (.forr t (.its e) b) r h=(ev G cl e r h).nx.bind λx h=>match x with
 |.ref n=>(match h[n]? with
  |some (.dct l)=>forS t (xss G cl W b) (l.map λp=>D.tup [kyD p.1,p.2]) r (h.set n .ded)
  |_=>.bad)
 |_=>.bad:=by rw[xs]<;>rfl
@[simp] theorem setTn(i j k:Nat)(x y z:D):setT (.tn i j k) (.tup [x,.tup [y,z]]) r=some (((r.set i (some x)).set j (some y)).set k (some z)):=rfl
end
theorem nis_of{h:Hh}{n:Nat}{l:List Str}(z:Str)(e:h[n]? =some (.stt l)):nisD (.str z) (.ref n) h=.ok (.bl (!decide (z∈l))) h:=by
 show(match h[n]? with|some (.stt l)=>Rs.ok (D.bl (!decide (z∈l))) h|_=>.bad)=_
 rw[e]
theorem isSt_of{h:Hh}{n:Nat}{l:List Str}(e:h[n]? =some (.stt l)):isSt (.ref n) h=true:=by
 show(match h[n]? with|some (.stt _)=>true|_=>false)=_
 rw[e]
theorem sad_of{h:Hh}{n:Nat}{l:List Str}{z:Str}(e:h[n]? =some (.stt l))(hl:l.length<=1000)(hz:z ∉ l):sadD (.ref n) (.str z) h=.ok .non (h.set n (.stt (l++ [z]))):=by
 show(match h[n]? with|some (.stt l)=>if l.length<=1000 then Rs.ok D.non (h.set n (.stt (if z∈l then l else l++ [z]))) else .bad|_=>.bad)=_
 rw[e]
 show(if _ then _ else _)=_
 rw[if_pos hl,if_neg hz]
abbrev stQ:Ss:=(.cons (.iff (.nis (.var 9) (.var 3)) (.cons (.ex (.sad (.var 3) (.var 9))) (.cons (.ex (.app (.var 4) (.tup (.cons (.var 7) (.cons (.var 8) (.cons (.var 9) (.cons (.var 10) .nil))))))) (.cons (.ex (.app (.var 6) (.var 9))) .nil))) .nil) .nil)
abbrev stV:S:=.forr (.tn 8 9 10) (.its (.get2 (.var 2) (.var 7) .dnw)) stQ
abbrev stW:Ss:=(.cons (.asg (.nm 6) (.lst .nil)) (.cons (.forr (.nm 7) (.sq (.var 5)) (.cons stV .nil)) (.cons (.asg (.nm 5) (.var 6)) .nil)))
abbrev stB(ldi:Nat):Ss:=(.cons (.asg (.nm 2) (.call ldi (.cons (.var 0) .nil))) (.cons (.asg (.nm 3) (.sng (.var 1))) (.cons (.asg (.nm 4) (.lst .nil)) (.cons (.asg (.nm 5) (.lst (.cons (.var 1) .nil))) (.cons (.whl (.var 5) stW) (.cons (.ret (.var 4)) .nil))))))
section
variable {G:Gs}{cl:Cl}{W:Nat}{us:List Tie}{x0:Str}{M:List (Key×D)}{p a:Nat}{h h':Hh}{vs:List Str}{T:List Sx}
theorem stQ_ok{n rm nr:Nat}{b:Str}{s:Stt}{rim:List D}(hu:us.length<=16)(S:Sgm us x0 M p a h h' vs s.1)(gd:Gd us x0 s.1)(hs:s.2.length<=33)(hr:a+1<rm)(hn:a+1<nr)(ne:rm≠nr)(er:h'[rm]? =some (.lst rim))(en:h'[nr]? =some (.lst (s.2.map D.str)))(w:Int×Str×M3):
 ∃h2,xss G cl W stQ [some (.ref n),some (.str x0),some (.ref p),some (.ref a),some (.ref (a+1)),some (.ref rm),some (.ref nr),some (.str b),some (.int w.1),some (.str w.2.1),some (mo w.2.2)] h'=.ok (.nx [some (.ref n),some (.str x0),some (.ref p),some (.ref a),some (.ref (a+1)),some (.ref rm),some (.ref nr),some (.str b),some (.int w.1),some (.str w.2.1),some (mo w.2.2)]) h2
  /\Sgm us x0 M p a h h2 vs (adw x0 b s w).1/\h2[rm]? =some (.lst rim)/\h2[nr]? =some (.lst ((adw x0 b s w).2.map D.str)):=by
 have e1:=nis_of w.2.1 S.set
 have lo:=S.lo
 have pa:=S.pa
 have hl:a+1<h'.length:=(List.getElem?_eq_some_iff.mp S.told).1
 have hlr:rm<h'.length:=(List.getElem?_eq_some_iff.mp er).1
 have hln:nr<h'.length:=(List.getElem?_eq_some_iff.mp en).1
 unfold adw
 by_cases c:w.2.1∈rch x0 s.1
 ·rw[if_pos c]
  refine⟨h',?_,S,er,en⟩
  rw[jzF]
  simp only[xsIff,evNis,evVar,List.getElem?_cons_succ,ge0,jze,e1,nxOk,tBl,c,decide_true,Bool.not_true,jzo]
 ·rw[if_neg c]
  have l1:=gd.len hu
  have e2:=sad_of S.set (by unfold rch;rw[List.length_cons,List.length_map];omega) c
  have e3:(h'.set a (.stt (rch x0 s.1++ [w.2.1])))[a+1]? =some (.lst (s.1.map Sx.d)):=by rw[List.getElem?_set_ne (by omega)];exact S.told
  have e4:((h'.set a (.stt (rch x0 s.1++ [w.2.1]))).set (a+1) (.lst (s.1.map Sx.d++ [.tup [.str b,.int w.1,.str w.2.1,mo w.2.2]])))[nr]? =some (.lst (s.2.map D.str)):=by rw[List.getElem?_set_ne (by omega),List.getElem?_set_ne (by omega)];exact en
  refine⟨(((h'.set a (.stt (rch x0 s.1++ [w.2.1]))).set (a+1) (.lst (s.1.map Sx.d++ [.tup [.str b,.int w.1,.str w.2.1,mo w.2.2]]))).set nr (.lst (s.2.map D.str++ [.str w.2.1]))),?_,?_,?_,?_⟩
  ·rw[jzF]
   simp only[xsIff,evNis,evVar,List.getElem?_cons_succ,ge0,jze,e1,nxOk,tBl,c,decide_false,Bool.not_false,jzo,jzF,xsEx,evSad,isSt_of S.set,if_true,e2,evApp,jz9,jzt e3,jzt e4,Option.isSome_some,evTup,jzj,jzp,List.length_cons,List.length_nil,Nat.reduceLeDiff,Nat.reduceAdd,appR,e3,e4,List.length_map,(show s.1.length<1000000 by omega),(show s.2.length<1000000 by omega)]
  ·refine⟨((S.kp.set _ (by omega)).set _ (by omega)).set _ (by omega),lo,pa,?_,?_,S.inj,S.non,?_,?_⟩
   ·rw[List.getElem?_set_ne (by omega),List.getElem?_set_ne (by omega),List.getElem?_set_ne (by omega)];exact S.top
   ·intro x d e nv
    obtain⟨q,h1,h2,h3,h4,h5⟩:=S.val x d e nv
    exact⟨q,h1,h2,h3,h4,by rw[List.getElem?_set_ne (by omega),List.getElem?_set_ne (by omega),List.getElem?_set_ne (by omega)];exact h5⟩
   ·rw[List.getElem?_set_ne (by omega),List.getElem?_set_ne (by omega),List.getElem?_set_self (by omega),jzY]
    rfl
   ·rw[List.getElem?_set_ne (by omega),List.getElem?_set_self (by rw[List.length_set];exact hl),List.map_append]
    rfl
  ·rw[List.getElem?_set_ne (Ne.symm ne),List.getElem?_set_ne (by omega),List.getElem?_set_ne (by omega)];exact er
  ·rw[List.getElem?_set_self (by rw[List.length_set,List.length_set];exact hln),List.map_append]
   rfl
theorem jz2{α β:Type}(f:β->α->β)(s:β){l:List α}{i:Nat}{x:α}(e:l[i]? =some x):(l.take (i+1)).foldl f s=f ((l.take i).foldl f s) x:=by
 rw[List.take_succ,e,Option.toList_some,List.foldl_append]
 rfl
theorem Pr.len2{A:List Str}{s:Stt}(P:Pr us x0 A s)(hu:us.length<=16):s.2.length<=33:=by
 have:=P.gd.len hu
 have e:=congrArg List.length P.eq
 unfold rch at e
 rw[List.length_cons,List.length_map,List.length_append] at e
 omega
theorem stV_ok{n rm nr:Nat}{b:Str}{s:Stt}{rim:List D}{A:List Str}{d8 d9 d10:Option D}(hu:us.length<=16)(S:Sgm us x0 M p a h h' vs s.1)(P:Pr us x0 A s)(hbA:b∈A)(hbv:b ∉ vs)(hr:a+1<rm)(hn:a+1<nr)(ne:rm≠nr)(er:h'[rm]? =some (.lst rim))(en:h'[nr]? =some (.lst (s.2.map D.str))):
 ∃h2 d8' d9' d10',xs G cl W stV [some (.ref n),some (.str x0),some (.ref p),some (.ref a),some (.ref (a+1)),some (.ref rm),some (.ref nr),some (.str b),d8,d9,d10] h'=.ok (.nx [some (.ref n),some (.str x0),some (.ref p),some (.ref a),some (.ref (a+1)),some (.ref rm),some (.ref nr),some (.str b),d8',d9',d10']) h2
  /\Sgm us x0 M p a h h2 (vs++ [b]) (vis us x0 s b).1/\h2[rm]? =some (.lst rim)/\h2[nr]? =some (.lst ((vis us x0 s b).2.map D.str)):=by
 obtain⟨q,e1,e2,e3,S2⟩:=S.get (G:=G) (cl:=cl) (r:= [some (.ref n),some (.str x0),some (.ref p),some (.ref a),some (.ref (a+1)),some (.ref rm),some (.ref nr),some (.str b),d8,d9,d10]) (i:=2) (j:=7) rfl rfl hbv
 have hlr:rm<h'.length:=(List.getElem?_eq_some_iff.mp er).1
 have hln:nr<h'.length:=(List.getElem?_eq_some_iff.mp en).1
 have er2:((h'++ [O.dct []]).set q .ded)[rm]? =some (.lst rim):=by rw[List.getElem?_set_ne (by omega)];exact Kp.app _ _ _ _ er
 have en2:((h'++ [O.dct []]).set q .ded)[nr]? =some (.lst (s.2.map D.str)):=by rw[List.getElem?_set_ne (by omega)];exact Kp.app _ _ _ _ en
 have eq0:(((wl us b).map ent).map λp=>D.tup [kyD p.1,p.2])=(wl us b).map λw=>D.tup [.int w.1,.tup [.str w.2.1,mo w.2.2]]:=by rw[List.map_map];rfl
 rcases wzd (t:=.tn 8 9 10) (body:=xss G cl W stQ) (λi r h2=>Sgm us x0 M p a h h2 (vs++ [b]) (((wl us b).take i).foldl (adw x0 b) s).1/\h2[rm]? =some (.lst rim)/\h2[nr]? =some (.lst ((((wl us b).take i).foldl (adw x0 b) s).2.map D.str))/\∃d8 d9 d10,r=[some (.ref n),some (.str x0),some (.ref p),some (.ref a),some (.ref (a+1)),some (.ref rm),some (.ref nr),some (.str b),d8,d9,d10]) (λ_ _=>False)
  ((wl us b).map λw=>D.tup [.int w.1,.tup [.str w.2.1,mo w.2.2]]) 0 (by
    rintro j d hd r h2 ⟨S3,er3,en3,d8,d9,d10,rfl⟩
    rw[Nat.zero_add] at S3 en3⊢
    rw[List.getElem?_map] at hd
    cases hx:(wl us b)[j]? with
    |none=>rw[hx] at hd;cases hd
    |some w=>
     rw[hx] at hd;cases hd
     have P3:=Pr.fold hbA ((wl us b).take j) s P (λw hw=>List.mem_of_mem_take hw)
     obtain⟨h4,k1,k2,k3,k4⟩:=stQ_ok (G:=G) (cl:=cl) (W:=W) (n:=n) (b:=b) hu S3 P3.gd (P3.len2 hu) hr hn ne er3 en3 w
     refine⟨[some (.ref n),some (.str x0),some (.ref p),some (.ref a),some (.ref (a+1)),some (.ref rm),some (.ref nr),some (.str b),some (.int w.1),some (.str w.2.1),some (mo w.2.2)],rfl,.inl ⟨_,h4,k1,?_,k3,?_,_,_,_,rfl⟩⟩
     ·rw[jz2 _ _ hx];exact k2
     ·rw[jz2 _ _ hx];exact k4) [some (.ref n),some (.str x0),some (.ref p),some (.ref a),some (.ref (a+1)),some (.ref rm),some (.ref nr),some (.str b),d8,d9,d10] ((h'++ [O.dct []]).set q .ded) ⟨S2,er2,en2,_,_,_,rfl⟩ with ⟨r',h2,ef,S3,er3,en3,d8',d9',d10',rfl⟩|⟨d,h2,ef,hf⟩
 ·rw[List.length_map,Nat.zero_add,List.take_of_length_le (Nat.le_refl _)] at S3 en3
  refine⟨h2,d8',d9',d10',?_,S3,er3,en3⟩
  rw[xsForIt,e1,nxOk,jze]
  simp only[e2]
  rw[eq0]
  exact ef
 ·exact hf.elim
theorem nd_take{vs rim N:List Str}(nd:(vs++rim++N).Nodup){i:Nat}{b:Str}(e:rim[i]? =some b):b ∉ vs++rim.take i:=by
 have hi:i<rim.length:=(List.getElem?_eq_some_iff.mp e).1
 have eq:rim=rim.take i++b::rim.drop (i+1):=by
  rw[<- (List.getElem?_eq_some_iff.mp e).2, <- List.drop_eq_getElem_cons hi,List.take_append_drop]
 have n1:=(List.nodup_append.mp nd).1
 rw[eq, <- List.append_assoc] at n1
 intro z
 exact(List.nodup_append.mp n1).2.2 b z b List.mem_cons_self rfl
theorem stW_ok{n rm:Nat}{rim:List Str}{d6 d7 d8 d9 d10:Option D}(hW:2000<=W)(hu:us.length<=16)(S:Sgm us x0 M p a h h' vs T)(gd:Gd us x0 T)(eq:rch x0 T=vs++rim)(hr:a+1<rm)(er:h'[rm]? =some (.lst (rim.map D.str))):
 ∃h2 nr d7' d8' d9' d10',xss G cl W stW [some (.ref n),some (.str x0),some (.ref p),some (.ref a),some (.ref (a+1)),some (.ref rm),d6,d7,d8,d9,d10] h'=.ok (.nx [some (.ref n),some (.str x0),some (.ref p),some (.ref a),some (.ref (a+1)),some (.ref nr),some (.ref nr),d7',d8',d9',d10']) h2
  /\Sgm us x0 M p a h h2 (vs++rim) (mid us x0 rim (T,[])).1/\a+1<nr/\h2[nr]? =some (.lst ((mid us x0 rim (T,[])).2.map D.str)):=by
 have hlr:rm<h'.length:=(List.getElem?_eq_some_iff.mp er).1
 have P0:Pr us x0 (vs++rim) (T,[]):=⟨gd,by rw[List.append_nil];exact eq⟩
 have rl:rim.length<=33:=by
  have:=gd.len hu
  have e:=congrArg List.length eq
  unfold rch at e
  rw[List.length_cons,List.length_map,List.length_append] at e
  omega
 have er1:(h'++ [O.lst []])[rm]? =some (.lst (rim.map D.str)):=Kp.app _ _ _ _ er
 have en1:(h'++ [O.lst []])[h'.length]? =some (.lst (([]:List Str).map D.str)):=by simp
 rcases jzJ (t:=.nm 7) (body:=xss G cl W (.cons stV .nil)) (n:=rm) (l:=rim.map D.str)
  (λi r h2=>Sgm us x0 M p a h h2 (vs++rim.take i) (mid us x0 (rim.take i) (T,[])).1/\h2[rm]? =some (.lst (rim.map D.str))/\h2[h'.length]? =some (.lst ((mid us x0 (rim.take i) (T,[])).2.map D.str))/\∃d7 d8 d9 d10,r=[some (.ref n),some (.str x0),some (.ref p),some (.ref a),some (.ref (a+1)),some (.ref rm),some (.ref h'.length),d7,d8,d9,d10]) (λ_ _=>False)
  (λi r h2 q=>jzt q.2.1)
  (by
    rintro i d hd r h2 ⟨S3,er3,en3,d7,d8,d9,d10,rfl⟩
    rw[List.getElem?_map] at hd
    cases hx:rim[i]? with
    |none=>rw[hx] at hd;cases hd
    |some b=>
     rw[hx] at hd;cases hd
     have hb:b∈rim:=List.mem_of_getElem? hx
     have P3:=Pr.mid (us:=us) (x0:=x0) (A:=vs++rim) (rim.take i) (T,[]) P0 (λc hc=>List.mem_append_right _ (List.mem_of_mem_take hc))
     have nv:b ∉ vs++rim.take i:=by
      have nd:=P3.gd.nd
      rw[P3.eq] at nd
      exact nd_take nd hx
     obtain⟨h4,d8',d9',d10',k1,k2,k3,k4⟩:=stV_ok (G:=G) (cl:=cl) (W:=W) (n:=n) (b:=b) (d8:=d8) (d9:=d9) (d10:=d10) hu S3 P3 (List.mem_append_right _ hb) nv hr (show a+1<h'.length by omega) (by omega) er3 en3
     refine⟨[some (.ref n),some (.str x0),some (.ref p),some (.ref a),some (.ref (a+1)),some (.ref rm),some (.ref h'.length),some (.str b),d8,d9,d10],rfl,.inl ⟨_,h4,(by rw[xssNx k1,jzo]),?_,k3,?_,_,_,_,_,rfl⟩⟩
     ·unfold mid
      rw[jz2 _ _ hx]
      have ee:vs++rim.take (i+1)=vs++rim.take i++ [b]:=by rw[List.take_succ,hx,Option.toList_some,List.append_assoc]
      rw[ee]
      exact k2
     ·unfold mid
      rw[jz2 _ _ hx];exact k4)
  W 0 [some (.ref n),some (.str x0),some (.ref p),some (.ref a),some (.ref (a+1)),some (.ref rm),some (.ref h'.length),d7,d8,d9,d10] (h'++ [O.lst []]) ⟨by rw[List.take_zero,List.append_nil];exact S.app _,er1,by rw[List.take_zero];exact en1,_,_,_,_,rfl⟩ (Nat.zero_le _) (by rw[List.length_map];omega) with ⟨r',h2,ef,S3,er3,en3,d7',d8',d9',d10',rfl⟩|⟨d,h2,ef,hf⟩
 ·rw[List.length_map,List.take_of_length_le (Nat.le_refl _)] at S3 en3
  refine⟨h2,h'.length,d7',d8',d9',d10',?_,S3,by omega,en3⟩
  rw[stW,xssNx (r':= [some (.ref n),some (.str x0),some (.ref p),some (.ref a),some (.ref (a+1)),some (.ref rm),some (.ref h'.length),d7,d8,d9,d10]) (h':=h'++ [O.lst []]) (by simp),
   xssNx (r':= [some (.ref n),some (.str x0),some (.ref p),some (.ref a),some (.ref (a+1)),some (.ref rm),some (.ref h'.length),d7',d8',d9',d10']) (h':=h2) (by rw[qzj];simp only[evVar,List.getElem?_cons_succ,ge0,nxOk,jze,forDR];exact ef)]
  simp
 ·exact hf.elim
theorem whl_ok{n:Nat}(hW:2000<=W)(hu:us.length<=16):∀(k w rm:Nat)(rim vs:List Str)(T:List Sx)(h':Hh)(d6 d7 d8 d9 d10:Option D),k<=w->(rim=[]/\1<=k\/rim≠ []/\34-T.length<=k)->Sgm us x0 M p a h h' vs T->Gd us x0 T->rch x0 T=vs++rim->a+1<rm->h'[rm]? =some (.lst (rim.map D.str))->
 ∃h2 r',whileF (ev G cl (.var 5)) (xss G cl W stW) w [some (.ref n),some (.str x0),some (.ref p),some (.ref a),some (.ref (a+1)),some (.ref rm),d6,d7,d8,d9,d10] h'=.ok (.nx r') h2/\r'[4]? =some (some (.ref (a+1)))/\Kp h h2/\lstAt h2 (a+1)=some ((ous us x0 k rim T).map Sx.d):=by
 intro k
 induction k with
 |zero=>
  intro w rm rim vs T h' d6 d7 d8 d9 d10 _ hk S gd
  have:=gd.len hu
  rcases hk with ⟨_,hk⟩|⟨_,hk⟩<;>omega
 |succ k ih=>
  intro w rm rim vs T h' d6 d7 d8 d9 d10 hw hk S gd eq hr er
  obtain⟨w,rfl⟩:∃v,w=v+1:=⟨w-1,by omega⟩
  have tr:truD (.ref rm) h'=some (!(rim.map D.str).isEmpty):=by
   show(match lstAt h' rm with|some l=>some (!l.isEmpty)|none=>none)=_
   rw[jzt er]
  rw[whileF,ous]
  simp only[evVar,List.getElem?_cons_succ,ge0,nxOk,jze,tr]
  cases rim with
  |nil=>
   rw[if_pos rfl]
   exact⟨h',_,rfl,rfl,S.kp,jzt S.told⟩
  |cons b rim=>
   rw[if_neg (by simp)]
   obtain⟨h2,nr,d7',d8',d9',d10',e1,S2,hn,en⟩:=stW_ok (G:=G) (cl:=cl) (W:=W) (n:=n) (d6:=d6) (d7:=d7) (d8:=d8) (d9:=d9) (d10:=d10) hW hu S gd eq hr er
   have P:=Pr.mid (us:=us) (x0:=x0) (A:=vs++(b::rim)) (b::rim) (T,[]) ⟨gd,by rw[List.append_nil];exact eq⟩ (λc hc=>List.mem_append_right _ hc)
   have l0:=gd.len hu
   have q1:=congrArg List.length eq
   have q2:=congrArg List.length P.eq
   unfold rch at q1 q2
   rw[List.length_cons,List.length_map,List.length_append] at q1 q2
   rw[List.length_append] at q2
   have hk2:34-T.length<=k+1:=by
    rcases hk with ⟨z,_⟩|⟨_,z⟩
    ·cases z
    ·exact z
   obtain⟨h3,r',e3,e4,e5,e6⟩:=ih w nr (mid us x0 (b::rim) (T,[])).2 (vs++(b::rim)) (mid us x0 (b::rim) (T,[])).1 h2 (some (.ref nr)) d7' d8' d9' d10' (by omega) (by
    by_cases z:(mid us x0 (b::rim) (T,[])).2=[]
    ·exact .inl ⟨z,by omega⟩
    ·refine .inr ⟨z,?_⟩
     have:=List.length_pos_iff.mpr z
     omega) S2 P.gd P.eq hn en
   refine⟨h3,r',?_,e4,e5,e6⟩
   show(xss G cl W stW _ h').bind _=_
   rw[e1]
   exact e3
theorem steps_ok{ldi n:Nat}(hW:2000<=W){ts:List Tie}(Q:Ties ts){h:Hh}(x0:Str)(hld:∃h' p M,cl ldi [.ref n] h=.ok (.ref p) h'/\Tb h h' p M (λx=>(wl (ordT ts Q) x).map ent)/\∀x,valD M (.inr x)=none->wl (ordT ts Q) x=[]):
 ∃h' q,(xss G cl W (stB ldi) [some (.ref n),some (.str x0),none,none,none,none,none,none,none,none,none] h).bind endD=.ok (.ref q) h'/\Kp h h'/\lstAt h' q=some ((stps ts Q x0).map Sx.d):=by
 obtain⟨h1,p,M,el,T,hnone⟩:=hld
 have hp:p<h1.length:=(List.getElem?_eq_some_iff.mp T.top).1
 have hu:(ordT ts Q).length<=16:=by rw[(jzV Q).1.length_eq];exact Q.len
 have S:Sgm (ordT ts Q) x0 M p h1.length h (h1++ [.stt [x0],.lst [],.lst [.str x0]]) [] []:=
  ⟨T.kp.trans (Kp.app _ _),T.lo,hp,Kp.app _ _ _ _ T.top,λx d e _=>by
   obtain⟨q,k1,k2,k3,k4⟩:=T.val x d e
   exact⟨q,k1,k2,(List.getElem?_eq_some_iff.mp k4).1,k3,Kp.app _ _ _ _ k4⟩,T.inj,hnone,by simp[rch],by simp⟩
 obtain⟨h2,r',e1,e2,e3,e4⟩:=whl_ok (G:=G) (cl:=cl) (W:=W) (n:=n) hW hu 40 W (h1.length+2) [x0] [] [] _ none none none none none (by omega) (.inr ⟨by simp,by simp⟩) S .nil rfl (by omega) (by simp)
 refine⟨h2,h1.length+1,?_,e3,e4⟩
 rw[stB,xssNx (r':= [some (.ref n),some (.str x0),some (.ref p),none,none,none,none,none,none,none,none]) (h':=h1) (by simp only[xsAsg,jzE,jzj,jzp,evVar,ge0,jze,el,nxOk,setNm,List.set_cons_succ,List.set_cons_zero]),
  xssNx (r':= [some (.ref n),some (.str x0),some (.ref p),some (.ref h1.length),none,none,none,none,none,none,none]) (h':=h1++ [.stt [x0]]) (by
   simp only[xsAsg,evSng,evVar,List.getElem?_cons_succ,ge0,jze]
   have e0:sngD (.str x0) h1.length (h1++ [.stt []])=.ok (.ref h1.length) (h1++ [.stt [x0]]):=by
    have e9:(h1++ [O.stt []])[h1.length]? =some (.stt []):=by simp
    unfold sngD
    simp only[e9]
    simp
   rw[e0]
   rfl),
  xssNx (r':= [some (.ref n),some (.str x0),some (.ref p),some (.ref h1.length),some (.ref (h1.length+1)),none,none,none,none,none,none]) (h':=h1++ [.stt [x0],.lst []]) (by simp),
  xssNx (r':= [some (.ref n),some (.str x0),some (.ref p),some (.ref h1.length),some (.ref (h1.length+1)),some (.ref (h1.length+2)),none,none,none,none,none]) (h':=h1++ [.stt [x0],.lst [],.lst [.str x0]]) (by simp),
  xssNx (r':=r') (h':=h2) (by rw[xsWhl];exact e1)]
 rw[xssRt (d:=.ref (h1.length+1)) (h':=h2) (by rw[xsRet,evVar,e2];rfl)]
 rfl
end
end Ng
end
section
namespace Ng
open PySem L2
theorem stp_of{ts us:List Tie}(Q:Ties ts)(pu:us.Perm ts){x:Str}{w:Int×Str×M3}(h:w∈wl us x):stp ts x w.1=some (w.2.1,w.2.2):=by
 obtain⟨t,ht,e⟩:=List.mem_filterMap.mp h
 obtain⟨y,ey,rfl⟩:=Option.map_eq_some_iff.mp e
 unfold stp
 rw[fnd_of Q.nd (pu.mem_iff.mp ht)]
 show(t.en x).map _=_
 rw[ey]
 rfl
theorem vzV(ts:List Tie):∀(c:List Int)(n:Int)(x:Str)(f:M3),wk ts (c++ [n]) x f=(wk ts c x f).bind λp=>(stp ts p.1 n).bind λq=>some (q.1,bh q.2 p.2)
 | [],n,x,f=>rfl
 |m::c,n,x,f=>by
  show(stp ts x m).bind (λp=>wk ts (c++ [n]) p.1 (bh p.2 f))=((stp ts x m).bind λp=>wk ts c p.1 (bh p.2 f)).bind _
  cases stp ts x m with
  |none=>rfl
  |some p=>exact vzV ts c n p.1 (bh p.2 f)
abbrev Ce:=Str×List Int×M3
def lkc(c:List Ce)(x:Str):List Int×M3:=((c.find? λe=>decide (e.1=x)).map λe=>e.2).getD ([],(0,0,0))
def cfn(c:List Ce)(t:Sx):Ce:=(t.nm,(lkc c t.1).1++ [t.2.1],bh t.2.2.2 (lkc c t.1).2)
def cfr(x0:Str)(T:List Sx):List Ce:=T.foldl (λc t=>c++ [cfn c t]) [(x0,[],(0,0,0))]
theorem qzq(x0:Str)(T:List Sx)(t:Sx):cfr x0 (T++ [t])=cfr x0 T++ [cfn (cfr x0 T) t]:=by
 unfold cfr
 rw[List.foldl_append]
 rfl
theorem jzM(x0:Str)(T:List Sx):(cfr x0 T).map (λe=>e.1)=rch x0 T:=by
 have:∀(T:List Sx)(c:List Ce),(T.foldl (λc t=>c++ [cfn c t]) c).map (λe=>e.1)=c.map (λe=>e.1)++T.map Sx.nm:=by
  intro T
  induction T with
  |nil=>intro c;simp
  |cons t T ih=>intro c;rw[List.foldl_cons,ih];simp[cfn]
 exact this T _
theorem zzY(x0:Str)(T:List Sx):(cfr x0 T).length=T.length+1:=by
 have:=congrArg List.length (jzM x0 T)
 rw[List.length_map] at this
 rw[this]
 simp[rch]
theorem wza{c:List Ce}{x:Str}(h:x∈c.map λe=>e.1):∃e∈c,e.1=x/\lkc c x=e.2:=by
 obtain⟨e,he,ex⟩:=List.mem_map.mp h
 unfold lkc
 cases q:c.find? λe=>decide (e.1=x) with
 |none=>
  have:=List.find?_eq_none.mp q e he
  simp[ex] at this
 |some u=>exact⟨u,List.mem_of_find?_eq_some q,by simpa using List.find?_some q,rfl⟩
theorem vzx{ts us:List Tie}(Q:Ties ts)(pu:us.Perm ts){x0:Str}{T:List Sx}(g:Gd us x0 T):∀e∈cfr x0 T,wk ts e.2.1 x0 (0,0,0)=some (e.1,e.2.2)/\e.2.1.length<=T.length/\ok8 e.2.2:=by
 induction g with
 |nil=>
  intro e he
  simp only[cfr,List.foldl_nil,List.mem_singleton] at he
  subst he
  exact⟨rfl,Nat.le_refl _,show ok8 (0,0,0) from⟨by decide,by decide⟩⟩
 | @snoc T t g h1 h2 h3 ih=>
   intro e he
   rw[qzq] at he
   rcases List.mem_append.mp he with he|he
   ·obtain⟨k1,k2,k3⟩:=ih e he
    exact⟨k1,by rw[List.length_append];omega,k3⟩
   ·rw[List.mem_singleton] at he
    subst he
    obtain⟨u,hu,eu,el⟩:=wza (c:=cfr x0 T) (x:=t.1) (by rw[jzM];exact h1)
    obtain⟨k1,k2,k3⟩:=ih u hu
    unfold cfn
    rw[el]
    refine⟨?_,by show(u.2.1++ [_]).length<=_;simp;omega,bh8 _ _⟩
    show wk ts (u.2.1++ [t.2.1]) x0 (0,0,0)=_
    rw[vzV,k1]
    show(stp ts u.1 t.2.1).bind _=_
    rw[eu,stp_of Q pu h3]
    rfl
theorem jz1{α:Type}(k:α->Str)(v:α->D)(x:Str):∀c:List α,valD (c.map λe=>((.inr (k e),v e):Key×D)) (.inr x)=(c.find? λe=>decide (k e=x)).map v
 | []=>rfl
 |e::c=>by
  rw[List.map_cons,jzG,jz1 k v x c,List.find?_cons]
  by_cases h:k e=x
  ·rw[if_pos (by rw[h]),decide_eq_true h];rfl
  ·rw[if_neg (λz=>h (Sum.inr.inj z)),decide_eq_false h]
abbrev Pe:=Ce×Nat
def chD(P:List Pe):List (Key×D):=P.map λe=>(.inr e.1.1,.ref e.2)
theorem qzJ{P:List Pe}{x:Str}(h:x∈(P.map λe=>e.1).map λe=>e.1):∃e∈P,valD (chD P) (.inr x)=some (.ref e.2)/\lkc (P.map λe=>e.1) x=e.1.2:=by
 unfold chD
 rw[jz1 (λe:Pe=>e.1.1) (λe=>.ref e.2)]
 rw[List.map_map] at h
 obtain⟨e,he,ex⟩:=List.mem_map.mp h
 unfold lkc
 rw[List.find?_map]
 cases q:P.find? λe=>decide (e.1.1=x) with
 |none=>
  have:=List.find?_eq_none.mp q e he
  simp at ex
  simp[ex] at this
 |some u=>
  refine⟨u,List.mem_of_find?_eq_some q,rfl,?_⟩
  have q':P.find? ((λe:Ce=>decide (e.1=x))∘λe:Pe=>e.1)=some u:=q
  rw[q']
  rfl
section
variable (G:Gs)(cl:Cl)(W:Nat)(r:Ev)(h:Hh)
@[simp] theorem evDk1(k v:E):ev G cl (.dk1 k v) r h=(ev G cl k r (h++ [.dct []])).bind λx h1=>(ev G cl v r h1).bind λy h2=>dk1D x y h.length h2:=by rw[ev]<;>rfl
@[simp] theorem evDcp(x:E):ev G cl (.dcp x) r h=(ev G cl x r h).bind λx h=>dcpD x h:=by rw[ev]<;>rfl
@[simp] theorem evDeq(x y:E):ev G cl (.deq x y) r h=(ev G cl x r h).bind λx h=>(ev G cl y r h).bind λy h=>deqD x y h:=by rw[ev]<;>rfl
end
theorem dk1_of{h:Hh}{n:Nat}(z:Str)(y:D)(e:h[n]? =some (.dct [])):dk1D (.str z) y n h=.ok (.ref n) (h.set n (.dct [(.inr z,y)])):=by
 unfold dk1D
 simp only[e]
theorem zzl{h:Hh}{c k:Nat}{N:List (Key×D)}(o:O){l:List D}(e:h[c]? =some (.dct N))(hk:lstAt h k=some l):lstAt (h.set c o) k=some l:=by
 have:k≠c:=λz=>by
  subst z
  unfold lstAt at hk
  rw[e] at hk
  cases hk
 unfold lstAt at hk⊢
 rw[List.getElem?_set_ne (Ne.symm this)]
 exact hk
theorem vzq{h:Hh}{c k:Nat}{N:List (Key×D)}(o:O){l:List D}(e:h[c]? =some (.dct N))(hk:h[k]? =some (.lst l)):(h.set c o)[k]? =some (.lst l):=by
 have:k≠c:=λz=>by
  subst z
  rw[e] at hk
  cases hk
 rw[List.getElem?_set_ne (Ne.symm this)]
 exact hk
theorem addL{h:Hh}{n k:Nat}{a b:List D}(ea:h[n]? =some (.lst a))(eb:h[k]? =some (.lst b))(hl:a.length+b.length<=1000):binD .add (.ref n) (.ref k) h=.ok (.ref h.length) (h++ [.lst (a++b)]):=by
 show(match h[n]?,h[k]? with|some (.lst a),some (.lst b)=>if a.length+b.length<=1000 then Rs.ok (D.ref h.length) (h++ [O.lst (a++b)]) else .bad|_,_=>.bad)=_
 rw[ea,eb]
 show(if _ then _ else _)=_
 rw[if_pos hl]
abbrev chL:Ss:=(.cons (.stx (.var 2) (.var 5) (.bin .add (.ix (.var 2) (.var 3)) (.lst (.cons (.var 4) .nil)))) .nil)
abbrev chB(sti:Nat):Ss:=(.cons (.asg (.nm 2) (.dk1 (.var 1) (.lst .nil))) (.cons (.forr (.tp [3,4,5,6]) (.sq (.call sti (.cons (.var 0) (.cons (.var 1) .nil)))) chL) (.cons (.ret (.var 2)) .nil)))
theorem Gd.at{us:List Tie}{x0:Str}{T:List Sx}(g:Gd us x0 T):∀(i:Nat)(t:Sx),T[i]? =some t->t.1∈rch x0 (T.take i)/\t.nm ∉ rch x0 (T.take i)/\t.2∈wl us t.1:=by
 induction g with
 |nil=>intro i t e;simp at e
 | @snoc T u g h1 h2 h3 ih=>
   intro i t e
   by_cases hi:i<T.length
   ·rw[List.getElem?_append_left hi] at e
    rw[List.take_append_of_le_length (by omega)]
    exact ih i t e
   ·have:i=T.length:=by
     have:=(List.getElem?_eq_some_iff.mp e).1
     simp at this
     omega
    subst this
    simp at e
    subst e
    rw[List.take_append_of_le_length (Nat.le_refl _),List.take_of_length_le (Nat.le_refl _)]
    exact⟨h1,h2,h3⟩
theorem Gd.take{us:List Tie}{x0:Str}{T:List Sx}(g:Gd us x0 T)(j:Nat):Gd us x0 (T.take j):=by
 induction g with
 |nil=>rw[List.take_nil];exact .nil
 | @snoc T u g h1 h2 h3 ih=>
   by_cases c:j<=T.length
   ·rw[List.take_append_of_le_length c];exact ih
   ·rw[List.take_of_length_le (by simp;omega)];exact .snoc g h1 h2 h3
section
variable {G:Gs}{cl:Cl}{W:Nat}
def StOk(cl:Cl)(sti n:Nat)(ts:List Tie)(Q:Ties ts)(x0:Str)(h:Hh):Prop:=∀h',Kp h h'->∃h2 q,cl sti [.ref n,.str x0] h'=.ok (.ref q) h2/\Kp h' h2/\lstAt h2 q=some ((stps ts Q x0).map Sx.d)
theorem take_cfr{x0:Str}{T:List Sx}{i:Nat}{t:Sx}(e:T[i]? =some t):cfr x0 (T.take (i+1))=cfr x0 (T.take i)++ [cfn (cfr x0 (T.take i)) t]:=by
 rw[List.take_succ,e,Option.toList_some,qzq]
theorem zzW{sti n:Nat}(hW:2000<=W){ts:List Tie}(Q:Ties ts){h:Hh}(x0:Str)(hst:StOk cl sti n ts Q x0 h):
 ∃h2 P,(xss G cl W (chB sti) [some (.ref n),some (.str x0),none,none,none,none,none] h).bind endD=.ok (.ref h.length) h2/\Kp h h2/\h2[h.length]? =some (.dct (chD P))/\(P.map λe=>e.1)=cfr x0 (stps ts Q x0)/\∀e∈P,h.length<=e.2/\h2[e.2]? =some (.lst (e.1.2.1.map D.int)):=by
 obtain⟨h1,q,e1,kp1,eq⟩:=hst (h++ [.dct [(.inr x0,.ref (h.length+1))],.lst []]) (Kp.app _ _)
 have g:=wzS ts Q x0
 have pu:=(jzV Q).1
 have hu:(ordT ts Q).length<=16:=by rw[pu.length_eq];exact Q.len
 generalize ordT ts Q=us at g pu hu
 generalize stps ts Q x0=T at eq g⊢
 have gl:=g.len hu
 have s1:xs G cl W (.asg (.nm 2) (.dk1 (.var 1) (.lst .nil))) [some (.ref n),some (.str x0),none,none,none,none,none] h=.ok (.nx [some (.ref n),some (.str x0),some (.ref h.length),none,none,none,none]) (h++ [.dct [(.inr x0,.ref (h.length+1))],.lst []]):=by
  have e9:(h++ [O.dct []]++ [O.lst []])[h.length]? =some (.dct []):=by simp
  simp only[xsAsg,evDk1,evVar,List.getElem?_cons_succ,ge0,jze,evLst,jzp,List.length_nil,Nat.zero_le,if_true,dk1_of x0 _ e9,nxOk,setNm,List.set_cons_succ,List.set_cons_zero]
  simp
 rcases jzJ (t:=.tp [3,4,5,6]) (body:=xss G cl W chL) (n:=q) (l:=T.map Sx.d)
  (λi r h2=>Kp h h2/\lstAt h2 q=some (T.map Sx.d)/\(∃P:List Pe,h2[h.length]? =some (.dct (chD P))/\(P.map λe=>e.1)=cfr x0 (T.take i)/\∀e∈P,h.length<=e.2/\h2[e.2]? =some (.lst (e.1.2.1.map D.int)))/\∃d3 d4 d5 d6,r=[some (.ref n),some (.str x0),some (.ref h.length),d3,d4,d5,d6]) (λ_ _=>False) (λi r h2 z=>z.2.1)
  (by
    rintro i d hd r h2 ⟨kp,el,⟨P,ed,eP,hP⟩,d3,d4,d5,d6,rfl⟩
    rw[List.getElem?_map] at hd
    cases hx:T[i]? with
    |none=>rw[hx] at hd;cases hd
    |some t=>
     rw[hx] at hd;cases hd
     obtain⟨a1,a2,a3⟩:=g.at i t hx
     have hi:i<T.length:=(List.getElem?_eq_some_iff.mp hx).1
     obtain⟨u,hu,v,lk⟩:=qzJ (P:=P) (x:=t.1) (by rw[eP,jzM];exact a1)
     rw[eP] at lk
     have cl1:u.1.2.1.length<=32:=by
      have:=(vzx Q pu (g.take i) u.1 (by rw[<- eP];exact List.mem_map.mpr ⟨u,hu,rfl⟩)).2.1
      have:=List.length_take_le i T
      omega
     have ix:ixD (.ref h.length) (.str t.1) h2=.ok (.ref u.2) h2:=by
      rw[iDct h2 _ ed]
      show(match valD _ (.inr t.1) with|some d=>Rs.ok d h2|none=>.bad)=_
      rw[v]
     have ad:=addL (h:=h2++ [.lst [.int t.2.1]]) (Kp.app _ _ _ _ (hP u hu).2) (show(h2++ [O.lst [.int t.2.1]])[h2.length]? =_ by simp;rfl) (by rw[List.length_map];simp;omega)
     rw[List.length_append] at ad
     have ed3:(h2++ [O.lst [.int t.2.1]]++ [.lst (u.1.2.1.map D.int++ [.int t.2.1])])[h.length]? =some (.dct (chD P)):=Kp.app _ _ _ _ (Kp.app _ _ _ _ ed)
     have ln:(chD P).length<1000:=by
      have:=congrArg List.length eP
      rw[List.length_map,zzY] at this
      unfold chD
      rw[List.length_map]
      have:=List.length_take_le i T
      omega
     have st:=qz3 (k:=.inr t.nm) (y:=.str t.nm) rfl (.ref (h2.length+1)) ed3 ln
     rw[wzU (λp hp z=>by
      obtain⟨u,hu,rfl⟩:=List.mem_map.mp hp
      apply a2
      rw[<- jzM, <- eP]
      exact List.mem_map.mpr ⟨u.1,List.mem_map.mpr ⟨u,hu,rfl⟩,Sum.inr.inj z⟩)] at st
     have hc:h.length<h2.length:=(List.getElem?_eq_some_iff.mp ed).1
     have kp3:Kp h2 (h2++ [O.lst [.int t.2.1]]++ [.lst (u.1.2.1.map D.int++ [.int t.2.1])]):=(Kp.app _ _).trans (Kp.app _ _)
     have enew:(h2++ [O.lst [.int t.2.1]]++ [.lst (u.1.2.1.map D.int++ [.int t.2.1])])[h2.length+1]? =some (.lst (u.1.2.1.map D.int++ [.int t.2.1])):=by simp
     generalize h2++ [O.lst [.int t.2.1]]++ [.lst (u.1.2.1.map D.int++ [.int t.2.1])]=h3 at ad ed3 st kp3 enew
     refine⟨[some (.ref n),some (.str x0),some (.ref h.length),some (.str t.1),some (.int t.2.1),some (.str t.nm),some (mo t.2.2.2)],rfl,.inl ⟨[some (.ref n),some (.str x0),some (.ref h.length),some (.str t.1),some (.int t.2.1),some (.str t.nm),some (mo t.2.2.2)],h3.set h.length (.dct (chD P++ [(.inr t.nm,.ref (h2.length+1))])),?_,(kp.trans kp3).set _ (Nat.le_refl _),zzl _ ed3 (kp3.lst el),⟨P++ [(cfn (cfr x0 (T.take i)) t,h2.length+1)],?_,?_,?_⟩,_,_,_,_,rfl⟩⟩
     ·rw[xssNx (r':= [some (.ref n),some (.str x0),some (.ref h.length),some (.str t.1),some (.int t.2.1),some (.str t.nm),some (mo t.2.2.2)]) (h':=h3.set h.length (.dct (chD P++ [(.inr t.nm,.ref (h2.length+1))]))) (by
       simp only[xsStx,evBin,evLst,jzj,jzp,evVar,evIx,List.getElem?_cons_succ,ge0,jze,nxOk,ix,List.length_cons,List.length_nil,Nat.reduceLeDiff,Nat.reduceAdd,if_true]
       rw[ad]
       simp only[jze,nxOk]
       show(stxD (.ref h.length) (.str t.nm) (.ref (h2.length+1)) h3).nx.bind _=_
       rw[st]
       rfl)]
      simp
     ·rw[List.getElem?_set_self (List.getElem?_eq_some_iff.mp ed3).1]
      simp[chD,cfn]
     ·rw[List.map_append,eP,take_cfr hx];rfl
     ·intro e he
      rcases List.mem_append.mp he with he|he
      ·exact⟨(hP e he).1,vzq _ ed3 (kp3 _ _ (hP e he).2)⟩
      ·rw[List.mem_singleton] at he
       subst he
       refine⟨by show h.length<=h2.length+1;omega,vzq _ ed3 ?_⟩
       show h3[h2.length+1]? =some (.lst (((lkc (cfr x0 (T.take i)) t.1).1++ [t.2.1]).map D.int))
       rw[lk,List.map_append]
       exact enew)
  W 0 [some (.ref n),some (.str x0),some (.ref h.length),none,none,none,none] h1 ⟨(Kp.app _ _).trans kp1,eq,⟨[((x0,[],(0,0,0)),h.length+1)],kp1 _ _ (by simp[chD]),rfl,λe he=>by
    rw[List.mem_singleton] at he
    subst he
    exact⟨by show h.length<=h.length+1;omega,kp1 _ _ (by simp)⟩⟩,_,_,_,_,rfl⟩ (Nat.zero_le _) (by rw[List.length_map];omega) with ⟨r',h2,ef,kp,el,⟨P,ed,eP,hP⟩,d3,d4,d5,d6,rfl⟩|⟨d,h2,ef,hf⟩
 ·rw[List.length_map,List.take_of_length_le (Nat.le_refl _)] at eP
  refine⟨h2,P,?_,kp,ed,eP,hP⟩
  rw[chB,xssNx s1,xssNx (r':= [some (.ref n),some (.str x0),some (.ref h.length),d3,d4,d5,d6]) (h':=h2) (by
   rw[qzj]
   simp only[jzE,jzj,jzp,evVar,List.getElem?_cons_succ,ge0,jze,e1,nxOk,forDR]
   exact ef)]
  simp
 ·exact hf.elim
end
end Ng
end
section
namespace Ng
open PySem L2
def LE2(p q:List Int):Prop:=p.length<q.length\/(p.length=q.length/\¬q<p)
theorem LE2.refl(p:List Int):LE2 p p:=.inr ⟨rfl,List.lt_irrefl p⟩
theorem LE2.trans{p q r:List Int}(a:LE2 p q)(b:LE2 q r):LE2 p r:=by
 rcases a with a|⟨a,a'⟩
 ·rcases b with b|⟨b,_⟩
  ·exact .inl (by omega)
  ·exact .inl (by omega)
 ·rcases b with b|⟨b,b'⟩
  ·exact .inl (by omega)
  ·exact .inr ⟨by omega,List.not_lt.mpr (List.le_trans (List.not_lt.mp a') (List.not_lt.mp b'))⟩
theorem lt_app:∀{p q:List Int}(x y:List Int),p.length=q.length->p<q->p++x<q++y
 | [],[],_,_,_,h=>absurd h (List.lt_irrefl _)
 |a::p,b::q,x,y,hl,h=>by
  rw[List.cons_append,List.cons_append,List.cons_lt_cons_iff]
  rcases List.cons_lt_cons_iff.mp h with h|⟨h1,h2⟩
  ·exact .inl h
  ·exact .inr ⟨h1,lt_app x y (by simpa using hl) h2⟩
theorem app_lt:∀{p x y:List Int},p++x<p++y->x<y
 | [],_,_,h=>h
 |a::p,x,y,h=>by
  rw[List.cons_append,List.cons_append] at h
  rcases List.cons_lt_cons_iff.mp h with h|⟨_,h⟩
  ·exact absurd h (Int.lt_irrefl a)
  ·exact app_lt h
theorem LE2.same{n k:Int}(p:List Int)(h:n<=k):LE2 (p++ [n]) (p++ [k]):=.inr ⟨by simp,λz=>by
 have:=app_lt z
 rcases List.cons_lt_cons_iff.mp this with h'|⟨_,h'⟩
 ·omega
 ·exact absurd h' (List.lt_irrefl _)⟩
theorem LE2.snoc{p q:List Int}(h:LE2 p q)(ne:p≠q)(n k:Int):LE2 (p++ [n]) (q++ [k]):=by
 rcases h with h|⟨h,h'⟩
 ·exact .inl (by simp;omega)
 ·have lt:p<q:=by
   rcases List.le_iff_lt_or_eq.mp (List.not_lt.mp h') with z|z
   ·exact z
   ·exact absurd z ne
  refine .inr ⟨by simp;omega,λz=>?_⟩
  exact List.lt_irrefl _ (List.lt_trans (lt_app [n] [k] h lt) z)
theorem LE2.nil(q:List Int):LE2 [] q:=by
 cases q with
 |nil=>exact .refl _
 |cons a q=>exact .inl (by simp)
theorem zzk:∀(p q:List Int),ltI (p.map D.int) (q.map D.int)=some (decide (p<q))
 | [],[]=>by simp[ltI]
 | [],_::_=>by simp[ltI]
 |_::_,[]=>by simp[ltI]
 |a::p,b::q=>by
  rw[List.map_cons,List.map_cons,ltI]
  by_cases e:a=b
  ·subst e
   rw[if_pos rfl,zzk p q]
   congr 1
   rw[decide_eq_decide]
   rw[List.cons_lt_cons_iff]
   exact⟨λh=>.inr ⟨rfl,h⟩,λh=>h.elim (λz=>absurd z (Int.lt_irrefl a)) λz=>z.2⟩
  ·rw[if_neg e]
   congr 1
   rw[decide_eq_decide,List.cons_lt_cons_iff]
   exact⟨λh=>.inl h,λh=>h.elim id λz=>absurd z.1 e⟩
end Ng
end
section
namespace Ng
open PySem L2
theorem Tie.d_inj{t u:Tie}(h:t.d=u.d):t=u:=by
 obtain⟨n,a,b,m1,m2,m3⟩:=t
 obtain⟨n',a',b',k1,k2,k3⟩:=u
 simp[Tie.d,mo] at h
 obtain⟨h1,h2,h3,h4,h5,h6⟩:=h
 subst h1 h2 h3 h4 h5 h6
 rfl
theorem wzx:∀{l k:List Tie},l.map Tie.d=k.map Tie.d->l=k
 | [],[],_=>rfl
 | [],_::_,h=>by cases h
 |_::_,[],h=>by cases h
 |a::l,b::k,h=>by
  rw[List.map_cons,List.map_cons] at h
  obtain⟨h1,h2⟩:=List.cons.inj h
  rw[Tie.d_inj h1,wzx h2]
theorem vzC{ts:List Tie}(T:Ties ts):∃us:List Tie,srtD (ts.map Tie.d)=some (us.map Tie.d)/\us.Pairwise (λa b=>a.n<b.n):=by
 let us:=ts.mergeSort (λa b=>decide (a.n<=b.n))
 have p:us.Perm ts:=List.mergeSort_perm ts _
 have s:us.Pairwise (λa b=>decide (a.n<=b.n)=true):=List.pairwise_mergeSort (λa b c h1 h2=>by simp at*;omega) (λa b=>by simp;omega) ts
 have nd:(us.map Tie.n).Nodup:=(p.map Tie.n).nodup_iff.mpr T.nd
 rw[List.Nodup,List.pairwise_map] at nd
 have st:us.Pairwise (λa b=>a.n<b.n):=List.Pairwise.imp (λ{a b} ⟨h1,h2⟩=>by simp at h1;omega) (s.and nd)
 refine⟨us,vz1 ⟨by simp;have:=T.len;omega,.inr ⟨3,by decide,λx hx=>?_⟩⟩ (p.map _) ?_,st⟩
 ·obtain⟨t,_,rfl⟩:=List.mem_map.mp hx
  rfl
 ·rw[List.pairwise_map]
  exact List.Pairwise.imp (λ{a b} h=>ltT h) st
theorem ordT_lt{ts:List Tie}(Q:Ties ts):(ordT ts Q).Pairwise (λa b=>a.n<b.n):=by
 obtain⟨us,e,s⟩:=vzC Q
 have:=(jzV Q).2
 rw[e] at this
 rw[<- wzx (Option.some.inj this)]
 exact s
theorem wl_lt{us:List Tie}(h:us.Pairwise (λa b=>a.n<b.n))(x:Str):(wl us x).Pairwise (λv w=>v.1<w.1):=by
 unfold wl
 rw[List.pairwise_filterMap]
 refine h.imp λ{a b} hab v hv w hw=>?_
 obtain⟨_,_,rfl⟩:=Option.map_eq_some_iff.mp hv
 obtain⟨_,_,rfl⟩:=Option.map_eq_some_iff.mp hw
 exact hab
theorem lkc_app{c d:List Ce}{x:Str}(h:x∈c.map λe=>e.1):lkc (c++d) x=lkc c x:=by
 unfold lkc
 rw[List.find?_append]
 obtain⟨e,he,ex⟩:=List.mem_map.mp h
 cases q:c.find? λe=>decide (e.1=x) with
 |none=>
  have:=List.find?_eq_none.mp q e he
  simp[ex] at this
 |some u=>rfl
theorem lkc_new{c:List Ce}{e:Ce}(h:e.1 ∉ c.map λe=>e.1):lkc (c++ [e]) e.1=e.2:=by
 unfold lkc
 rw[List.find?_append]
 have:(c.find? λu=>decide (u.1=e.1))=none:=List.find?_eq_none.mpr λu hu z=>h (List.mem_map.mpr ⟨u,hu,by simpa using z⟩)
 rw[this]
 simp
def chn(x0:Str)(T:List Sx)(x:Str):List Int:=(lkc (cfr x0 T) x).1
theorem qzh{x0:Str}{T:List Sx}(t:Sx){x:Str}(h:x∈rch x0 T):chn x0 (T++ [t]) x=chn x0 T x:=by
 unfold chn
 rw[qzq,lkc_app (by rw[jzM];exact h)]
theorem zzU{x0:Str}{T:List Sx}{t:Sx}(h:t.nm ∉ rch x0 T):chn x0 (T++ [t]) t.nm=chn x0 T t.1++ [t.2.1]:=by
 unfold chn
 rw[qzq]
 have:=lkc_new (c:=cfr x0 T) (e:=cfn (cfr x0 T) t) (by rw[jzM];exact h)
 rw[show(cfn (cfr x0 T) t).1=t.nm from rfl] at this
 rw[this]
 rfl
end Ng
end
section
namespace Ng
open PySem L2
abbrev Wy:=Int×Str×M3
structure Od (x0:Str)(T:List Sx)(κ:List Int)(Dn:Str->Wy->Prop):Prop where
 srt:(rch x0 T).Pairwise (λx y=>LE2 (chn x0 T x) (chn x0 T y))
 top:∀x∈rch x0 T,LE2 (chn x0 T x) κ
 inr:∀b w,Dn b w->b∈rch x0 T
 don:∀b w,Dn b w->w.2.1∈rch x0 T/\LE2 (chn x0 T w.2.1) (chn x0 T b++ [w.1])
theorem Od.start(x0:Str):Od x0 [] [] (λ_ _=>False):=
 ⟨by simp[rch],λx hx=>by
  simp[rch] at hx
  subst hx
  show LE2 (lkc (cfr x []) x).1 []
  simp[cfr,lkc]
  exact LE2.refl _,λ_ _ h=>h.elim,λ_ _ h=>h.elim⟩
theorem Od.ad{x0 b:Str}{s:Stt}{κ:List Int}{Dn:Str->Wy->Prop}(O:Od x0 s.1 κ Dn)(hb:b∈rch x0 s.1)(w:Wy)(hk:LE2 κ (chn x0 s.1 b++ [w.1])):
 Od x0 (adw x0 b s w).1 (chn x0 s.1 b++ [w.1]) (λc v=>Dn c v\/(c=b/\v=w)):=by
 unfold adw
 by_cases c:w.2.1∈rch x0 s.1
 ·rw[if_pos c]
  refine⟨O.srt,λx hx=>(O.top x hx).trans hk,λc v h=>?_,λc v h=>?_⟩
  ·rcases h with h|⟨rfl,rfl⟩
   ·exact O.inr c v h
   ·exact hb
  ·rcases h with h|⟨rfl,rfl⟩
   ·exact O.don c v h
   ·exact⟨c,(O.top _ c).trans hk⟩
 ·rw[if_neg c]
  have old:∀x∈rch x0 s.1,chn x0 (s.1++ [(b,w)]) x=chn x0 s.1 x:=λx hx=>qzh (b,w) hx
  have new:chn x0 (s.1++ [(b,w)]) w.2.1=chn x0 s.1 b++ [w.1]:=zzU (T:=s.1) (t:=(b,w)) c
  have er:rch x0 (s.1++ [(b,w)])=rch x0 s.1++ [w.2.1]:=jzY x0 s.1 (b,w)
  refine⟨?_,λx hx=>?_,λc v h=>?_,λc v h=>?_⟩
  ·show(rch x0 (s.1++ [(b,w)])).Pairwise _
   rw[er,List.pairwise_append]
   refine⟨O.srt.imp_of_mem λ{x y} hx hy h=>by rw[old x hx,old y hy];exact h,by simp,λx hx y hy=>?_⟩
   rw[List.mem_singleton] at hy
   subst hy
   rw[old x hx,new]
   exact(O.top x hx).trans hk
  ·show LE2 (chn x0 (s.1++ [(b,w)]) x) _
   have hx':x∈rch x0 (s.1++ [(b,w)]):=hx
   rw[er] at hx'
   rcases List.mem_append.mp hx' with hx|hx
   ·rw[old x hx];exact(O.top x hx).trans hk
   ·rw[List.mem_singleton] at hx
    subst hx
    rw[new];exact .refl _
  ·show c∈rch x0 (s.1++ [(b,w)])
   rw[er]
   rcases h with h|⟨rfl,rfl⟩
   ·exact List.mem_append_left _ (O.inr c v h)
   ·exact List.mem_append_left _ hb
  ·show v.2.1∈rch x0 (s.1++ [(b,w)])/\LE2 (chn x0 (s.1++ [(b,w)]) v.2.1) (chn x0 (s.1++ [(b,w)]) c++ [v.1])
   rw[er]
   rcases h with h|⟨rfl,rfl⟩
   ·obtain⟨h1,h2⟩:=O.don c v h
    rw[old _ h1,old _ (O.inr c v h)]
    exact⟨List.mem_append_left _ h1,h2⟩
   ·rw[old _ hb,new]
    exact⟨List.mem_append_right _ (List.mem_singleton_self _),.refl _⟩
theorem zz7{x0 b:Str}{s:Stt}(w:Wy){x:Str}(hx:x∈rch x0 s.1):x∈rch x0 (adw x0 b s w).1/\chn x0 (adw x0 b s w).1 x=chn x0 s.1 x:=by
 unfold adw
 split
 ·exact⟨hx,rfl⟩
 ·refine⟨?_,qzh (b,w) hx⟩
  show x∈rch x0 (s.1++ [(b,w)])
  rw[jzY]
  exact List.mem_append_left _ hx
theorem Od.fold{x0 b:Str}{q:List Int}:∀(ws:List Wy)(s:Stt)(κ:List Int)(Dn:Str->Wy->Prop),Od x0 s.1 κ Dn->b∈rch x0 s.1->chn x0 s.1 b=q->(∀w∈ws,LE2 κ (q++ [w.1]))->ws.Pairwise (λv w=>v.1<w.1)->
 ∃κ',Od x0 (ws.foldl (adw x0 b) s).1 κ' (λc v=>Dn c v\/(c=b/\v∈ws))/\(κ'=κ\/∃n,κ'=q++ [n])/\∀x∈rch x0 s.1,x∈rch x0 (ws.foldl (adw x0 b) s).1/\chn x0 (ws.foldl (adw x0 b) s).1 x=chn x0 s.1 x
 | [],s,κ,Dn,O,_,_,_,_=>⟨κ,⟨O.srt,O.top,λc v h=>h.elim (O.inr c v) λz=>(nomatch z.2),λc v h=>h.elim (O.don c v) λz=>(nomatch z.2)⟩,.inl rfl,λx hx=>⟨hx,rfl⟩⟩
 |w::ws,s,κ,Dn,O,hb,hq,hk,hs=>by
  have O1:=O.ad hb w (by rw[hq];exact hk w List.mem_cons_self)
  rw[hq] at O1
  rw[List.pairwise_cons] at hs
  obtain⟨b1,b2⟩:=zz7 (b:=b) w hb
  obtain⟨κ',O2,e,st⟩:=Od.fold (q:=q) ws (adw x0 b s w) _ _ O1 b1 (b2.trans hq) (λv hv=>LE2.same q (Int.le_of_lt (hs.1 v hv))) hs.2
  refine⟨κ',⟨O2.srt,O2.top,λc v h=>O2.inr c v ?_,λc v h=>O2.don c v ?_⟩,.inr ?_,λx hx=>?_⟩
  ·rcases h with h|⟨h1,h2⟩
   ·exact .inl (.inl h)
   ·rcases List.mem_cons.mp h2 with h2|h2
    ·exact .inl (.inr ⟨h1,h2⟩)
    ·exact .inr ⟨h1,h2⟩
  ·rcases h with h|⟨h1,h2⟩
   ·exact .inl (.inl h)
   ·rcases List.mem_cons.mp h2 with h2|h2
    ·exact .inl (.inr ⟨h1,h2⟩)
    ·exact .inr ⟨h1,h2⟩
  ·rcases e with e|⟨n,e⟩
   ·exact⟨_,e⟩
   ·exact⟨n,e⟩
  ·obtain⟨x1,x2⟩:=zz7 (b:=b) w hx
   obtain⟨y1,y2⟩:=st x x1
   exact⟨y1,y2.trans x2⟩
end Ng
end
section
namespace Ng
open PySem L2
section
variable {ts us:List Tie}(Q:Ties ts)(pu:us.Perm ts)(su:us.Pairwise (λa b=>a.n<b.n)){x0:Str}
include Q pu
theorem zzV{T:List Sx}(g:Gd us x0 T){x y:Str}(hx:x∈rch x0 T)(hy:y∈rch x0 T)(e:chn x0 T x=chn x0 T y):x=y:=by
 obtain⟨u,hu,eu,el⟩:=wza (c:=cfr x0 T) (x:=x) (by rw[jzM];exact hx)
 obtain⟨v,hv,ev,ml⟩:=wza (c:=cfr x0 T) (x:=y) (by rw[jzM];exact hy)
 unfold chn at e
 rw[el,ml] at e
 have h1:=(vzx Q pu g u hu).1
 have h2:=(vzx Q pu g v hv).1
 rw[e,h2] at h1
 have:=Option.some.inj h1
 rw[<- eu, <- ev]
 exact(Prod.mk.inj this).1.symm
structure Oq (us:List Tie)(x0:Str)(vs:List Str)(s:Stt)(A:List Str):Prop where
 P:Pr us x0 A s
 O:∃κ,Od x0 s.1 κ (λc v=>c∈vs/\v∈wl us c)/\(κ=[]\/∃b∈vs,∃n,κ=chn x0 s.1 b++ [n])
include su
theorem Oq.vis{vs rim:List Str}{b:Str}{s:Stt}(h:Oq us x0 vs s (vs++b::rim)):Oq us x0 (vs++ [b]) (vis us x0 s b) (vs++b::rim):=by
 obtain⟨P,κ,O,hk⟩:=h
 have mem:∀x∈vs++b::rim,x∈rch x0 s.1:=λx hx=>by rw[P.eq];exact List.mem_append_left _ hx
 have hb:b∈rch x0 s.1:=mem b (by simp)
 have nd:=P.gd.nd
 rw[P.eq] at nd
 have bef:∀c∈vs,c≠b/\LE2 (chn x0 s.1 c) (chn x0 s.1 b):=λc hc=>by
  have n1:=(List.nodup_append.mp nd).1
  have n2:=(List.nodup_append.mp n1).2.2 c hc b List.mem_cons_self
  have st:=O.srt
  rw[P.eq,List.append_assoc,List.pairwise_append] at st
  exact⟨n2,st.2.2 c hc b (by simp)⟩
 obtain⟨κ',O2,e,st⟩:=Od.fold (x0:=x0) (b:=b) (q:=chn x0 s.1 b) (wl us b) s κ _ O hb rfl (λw _=>by
  rcases hk with rfl|⟨c,hc,n,rfl⟩
  ·exact LE2.nil _
  ·obtain⟨h1,h2⟩:=bef c hc
   exact h2.snoc (λz=>h1 (zzV Q pu P.gd (mem c (by simp[hc])) hb z)) n w.1) (wl_lt su b)
 refine⟨P.vis (by simp),κ',⟨O2.srt,O2.top,λc v h=>O2.inr c v ?_,λc v h=>O2.don c v ?_⟩,?_⟩
 ·rcases List.mem_append.mp h.1 with z|z
  ·exact .inl ⟨z,h.2⟩
  ·rw[List.mem_singleton] at z;subst z;exact .inr ⟨rfl,h.2⟩
 ·rcases List.mem_append.mp h.1 with z|z
  ·exact .inl ⟨z,h.2⟩
  ·rw[List.mem_singleton] at z;subst z;exact .inr ⟨rfl,h.2⟩
 ·rcases e with rfl|⟨n,rfl⟩
  ·rcases hk with rfl|⟨c,hc,n,rfl⟩
   ·exact .inl rfl
   ·refine .inr ⟨c,List.mem_append_left _ hc,n,?_⟩
    rw[(show chn x0 (Ng.vis us x0 s b).1 c=chn x0 s.1 c from(st c (mem c (by simp[hc]))).2)]
  ·refine .inr ⟨b,by simp,n,?_⟩
   rw[(show chn x0 (Ng.vis us x0 s b).1 b=chn x0 s.1 b from(st b hb).2)]
theorem Oq.mid:∀(rim vs:List Str)(s:Stt),Oq us x0 vs s (vs++rim)->Oq us x0 (vs++rim) (mid us x0 rim s) (vs++rim)
 | [],vs,s,h=>by rw[List.append_nil] at h⊢;exact h
 |b::rim,vs,s,h=>by
  have h1:=Oq.vis Q pu su h
  have ee:vs++b::rim=(vs++ [b])++rim:=by simp
  rw[ee] at h1⊢
  exact Oq.mid rim (vs++ [b]) _ h1
theorem Oq.ous(hu:us.length<=16):∀(k:Nat)(rim vs:List Str)(T:List Sx),(rim=[]/\1<=k\/rim≠ []/\34-T.length<=k)->Oq us x0 vs (T,[]) (vs++rim)->Oq us x0 (rch x0 (ous us x0 k rim T)) (ous us x0 k rim T,[]) (rch x0 (ous us x0 k rim T)):=by
 intro k
 induction k with
 |zero=>
  intro rim vs T hk h
  have:=h.P.gd.len hu
  rcases hk with ⟨_,hk⟩|⟨_,hk⟩<;>simp at this hk<;>omega
 |succ k ih=>
  intro rim vs T hk h
  rw[Ng.ous]
  have eq:rch x0 T=vs++rim:=by have:=h.P.eq;rw[List.append_nil] at this;exact this
  by_cases hr:rim=[]
  ·rw[if_pos hr]
   rw[hr,List.append_nil] at eq h
   rw[eq]
   exact h
  ·rw[if_neg hr]
   have h1:=Oq.mid Q pu su rim vs (T,[]) h
   have l0:=h.P.gd.len hu
   have q1:=congrArg List.length eq
   have q2:=congrArg List.length h1.P.eq
   unfold rch at q1 q2
   rw[List.length_cons,List.length_map] at q1 q2
   rw[List.length_append] at q2
   have hk2:34-T.length<=k+1:=by
    rcases hk with ⟨z,_⟩|⟨_,z⟩
    ·exact absurd z hr
    ·exact z
   refine ih _ (vs++rim) _ ?_ ⟨⟨h1.P.gd,by rw[List.append_nil];exact h1.P.eq⟩,?_⟩
   ·by_cases z:(Ng.mid us x0 rim (T,[])).2=[]
    ·exact .inl ⟨z,by simp at l0;omega⟩
    ·refine .inr ⟨z,?_⟩
     have:=List.length_pos_iff.mpr z
     simp at l0
     omega
   ·exact h1.O
end
theorem qzO{ts:List Tie}(Q:Ties ts)(x0:Str):∀b∈rch x0 (stps ts Q x0),∀w∈wl (ordT ts Q) b,w.2.1∈rch x0 (stps ts Q x0)/\LE2 (chn x0 (stps ts Q x0) w.2.1) (chn x0 (stps ts Q x0) b++ [w.1]):=by
 have pu:=(jzV Q).1
 have h:=Oq.ous (x0:=x0) Q pu (ordT_lt Q) (by rw[pu.length_eq];exact Q.len) 40 [x0] [] [] (.inr ⟨by simp,by simp⟩) ⟨⟨.nil,rfl⟩,[],⟨(Od.start x0).srt,(Od.start x0).top,λ_ _ h=>(nomatch h.1),λ_ _ h=>(nomatch h.1)⟩,.inl rfl⟩
 obtain⟨κ,O,_⟩:=h.O
 exact λb hb w hw=>O.don b w ⟨hb,hw⟩
end Ng
end
section
namespace Ng
open PySem L2
theorem wl_en{ts us:List Tie}(Q:Ties ts)(pu:us.Perm ts){b:Str}{w:Wy}(h:w∈wl us b):∃t,fnd ts w.1=some t/\t.en w.2.1=some b:=by
 obtain⟨t,ht,e⟩:=List.mem_filterMap.mp h
 obtain⟨y,ey,rfl⟩:=Option.map_eq_some_iff.mp e
 have hm:=pu.mem_iff.mp ht
 refine⟨t,fnd_of Q.nd hm,?_⟩
 have ne:=Q.ne t hm
 unfold Tie.en at ey⊢
 show(if t.one=y then some t.other else if t.other=y then some t.one else none)=some b
 split at ey
 ·rename_i h1
  cases ey
  rw[if_neg ne,if_pos rfl,h1]
 ·split at ey
  ·rename_i h1 h2
   cases ey
   rw[if_pos rfl,h2]
  ·cases ey
theorem zzT(x0:Str):chn x0 [] x0=[]:=by simp[chn,cfr,lkc]
theorem chn_last{ts us:List Tie}(Q:Ties ts)(pu:us.Perm ts){x0:Str}{T:List Sx}(g:Gd us x0 T):chn x0 T x0=[]/\∀x∈rch x0 T,x≠x0->∃b∈rch x0 T,∃n t,chn x0 T x=chn x0 T b++ [n]/\fnd ts n=some t/\t.en x=some b:=by
 induction g with
 |nil=>
  refine⟨zzT x0,λx hx ne=>?_⟩
  simp[rch] at hx
  exact absurd hx ne
 | @snoc T u g h1 h2 h3 ih=>
   have hx0:x0∈rch x0 T:=by simp[rch]
   refine⟨by rw[qzh u hx0];exact ih.1,λx hx ne=>?_⟩
   rw[jzY] at hx⊢
   rcases List.mem_append.mp hx with hx|hx
   ·obtain⟨b,hb,n,t,k1,k2,k3⟩:=ih.2 x hx ne
    exact⟨b,List.mem_append_left _ hb,n,t,by rw[qzh u hx,qzh u hb];exact k1,k2,k3⟩
   ·rw[List.mem_singleton] at hx
    subst hx
    obtain⟨t,k2,k3⟩:=wl_en Q pu h3
    exact⟨u.1,List.mem_append_left _ h1,u.2.1,t,by rw[zzU h2,qzh u h1],k2,k3⟩
theorem tie_ways{ts:List Tie}(Q:Ties ts){t:Tie}(h:t∈ts):(∃m,(t.n,t.other,m)∈wl (ordT ts Q) t.one)/\∃m,(t.n,t.one,m)∈wl (ordT ts Q) t.other:=by
 have hm:=(jzV Q).1.mem_iff.mpr h
 have ne:=Q.ne t h
 constructor
 ·exact⟨t.mv t.one,List.mem_filterMap.mpr ⟨t,hm,by simp[Tie.en]⟩⟩
 ·exact⟨t.mv t.other,List.mem_filterMap.mpr ⟨t,hm,by simp[Tie.en,ne]⟩⟩
theorem tie_both{ts:List Tie}(Q:Ties ts)(x0:Str){t:Tie}(h:t∈ts):(t.one∈rch x0 (stps ts Q x0)↔t.other∈rch x0 (stps ts Q x0))/\(t.one∈rch x0 (stps ts Q x0)->LE2 (chn x0 (stps ts Q x0) t.other) (chn x0 (stps ts Q x0) t.one++ [t.n])/\LE2 (chn x0 (stps ts Q x0) t.one) (chn x0 (stps ts Q x0) t.other++ [t.n])):=by
 obtain⟨⟨m1,w1⟩,m2,w2⟩:=tie_ways Q h
 have a:=λhb=>qzO Q x0 t.one hb _ w1
 have b:=λhb=>qzO Q x0 t.other hb _ w2
 exact⟨⟨λz=>(a z).1,λz=>(b z).1⟩,λz=>⟨(a z).2,(b (a z).1).2⟩⟩
end Ng
end
section
namespace Ng
open PySem L2
abbrev nbL:Ss:=(.cons (.iff (.or (.not (.blt .isinst (.cons (.var 1) (.cons (.ty .int) .nil)))) (.blt .isinst (.cons (.var 1) (.cons (.ty .bool) .nil)))) (.cons (.ret (.bl false)) .nil) .nil) .nil)
abbrev nbB:Ss:=(.cons (.iff (.not (.blt .isinst (.cons (.var 0) (.cons (.ty .list) .nil)))) (.cons (.ret (.bl false)) .nil) .nil) (.cons (.forr (.nm 1) (.sq (.var 0)) nbL) (.cons (.ret (.bl true)) .nil)))
section
variable {G:Gs}{cl:Cl}{W:Nat}
theorem nums_ok(hW:2000<=W){h:Hh}{c:Nat}{ch:List Int}(hc:lstAt h c=some (ch.map D.int))(hl:ch.length<=1000):(xss G cl W nbB [some (.ref c),none] h).bind endD=.ok (.bl true) h:=by
 have t5:=zzt h hc
 have i1:∀m:Int,isinL (.int m) (.ty "int") h=.ok (.bl true) h:=λm=>rfl
 have i2:∀m:Int,isinL (.int m) (.ty "bool") h=.ok (.bl false) h:=λm=>rfl
 rcases jzJ (t:=.nm 1) (body:=xss G cl W nbL) (n:=c) (l:=ch.map D.int) (λ_ r h'=>h'=h/\∃d1,r=[some (.ref c),d1]) (λ_ _=>False) (λi r h' q=>by rw[q.1];exact hc)
  (by
    rintro i d hd r h' ⟨rfl,d1,rfl⟩
    rw[List.getElem?_map] at hd
    cases hx:ch[i]? with
    |none=>rw[hx] at hd;cases hd
    |some m=>
     rw[hx] at hd;cases hd
     refine⟨[some (.ref c),some (.int m)],rfl,.inl ⟨[some (.ref c),some (.int m)],h',?_,rfl,_,rfl⟩⟩
     rw[nbL,xssNx (r':= [some (.ref c),some (.int m)]) (h':=h') (by
      rw[jzT (h':=h'),jzo]
      have w1:ev G cl (.blt .isinst (.cons (.var 1) (.cons (.ty .int) .nil))) [some (.ref c),some (.int m)] h'=.ok (.bl true) h':=by
       simp only[evBlt,jzj,jzp,evVar,evTy,List.getElem?_cons_succ,ge0,jze,bIs];exact i1 m
      have w2:ev G cl (.blt .isinst (.cons (.var 1) (.cons (.ty .bool) .nil))) [some (.ref c),some (.int m)] h'=.ok (.bl false) h':=by
       simp only[evBlt,jzj,jzp,evVar,evTy,List.getElem?_cons_succ,ge0,jze,bIs];exact i2 m
      simp only[evOr,evNot,w1,w2,jze,tBl,Bool.not_true]),jzo])
  W 0 [some (.ref c),none] h ⟨rfl,_,rfl⟩ (Nat.zero_le _) (by rw[List.length_map];omega) with ⟨r',h',ef,rfl,d1,rfl⟩|⟨d,h',ef,hf⟩
 ·rw[nbB,xssNx (r':= [some (.ref c),none]) (h':=h') (by
   rw[jzT (h':=h'),jzo]
   have w1:ev G cl (.blt .isinst (.cons (.var 0) (.cons (.ty .list) .nil))) [some (.ref c),none] h'=.ok (.bl true) h':=by
    simp only[evBlt,jzj,jzp,evVar,evTy,ge0,jze,bIs];exact t5
   simp only[evNot,w1,jze,tBl,Bool.not_true]),
   xssNx (r':= [some (.ref c),d1]) (h':=h') (by rw[qzj];simp only[evVar,ge0,nxOk,jze,forDR];exact ef)]
  simp
 ·exact hf.elim
end
end Ng
end
section
namespace Ng
open PySem L2
theorem zzX{P:List Pe}(nd:(P.map λe=>e.1.1).Nodup){e:Pe}(he:e∈P):valD (chD P) (.inr e.1.1)=some (.ref e.2):=by
 unfold chD
 rw[jz1 (λe:Pe=>e.1.1) (λe=>.ref e.2)]
 cases q:P.find? λu=>decide (u.1.1=e.1.1) with
 |none=>
  have:=List.find?_eq_none.mp q e he
  simp at this
 |some u=>
  have h1:=List.mem_of_find?_eq_some q
  have h2:u.1.1=e.1.1:=by simpa using List.find?_some q
  have:u=e:=by
   have inj:∀(l:List Pe),(l.map λe=>e.1.1).Nodup->u∈l->e∈l->u=e:=by
    intro l
    induction l with
    |nil=>intro _ h;cases h
    |cons a l ih=>
     intro nd h1' h2'
     rw[List.map_cons,List.nodup_cons] at nd
     rcases List.mem_cons.mp h1' with z1|z1
     ·rcases List.mem_cons.mp h2' with z2|z2
      ·rw[z1,z2]
      ·exact absurd (List.mem_map.mpr ⟨e,z2,by rw[<- h2,z1]⟩) nd.1
     ·rcases List.mem_cons.mp h2' with z2|z2
      ·exact absurd (List.mem_map.mpr ⟨u,z1,by rw[h2,z2]⟩) nd.1
      ·exact ih nd.2 z1 z2
   exact inj P nd h1 he
  rw[this]
  rfl
abbrev kpL:Ss:=(.cons (.stx (.var 3) (.var 4) (.blt .list (.cons (.ix (.var 2) (.var 4)) .nil))) (.cons (.ex (.app (.ix (.var 2) (.var 4)) (.int 0))) .nil))
section
variable {G:Gs}{cl:Cl}{W:Nat}
theorem keep_ok(hW:2000<=W){h:Hh}{P:List Pe}{a4 c5 k3 kl:Nat}{x0:Str}{d4 d5:Option D}(nd:(P.map λe=>e.1.1).Nodup)(hpl:P.length<=40)(h5:h[c5]? =some (.dct (chD P)))(h3:h[k3]? =some (.dct []))(ne:c5≠k3)(hk:h[kl]? =some (.lst (P.map λe=>D.str e.1.1)))(hP:∀e∈P,h[e.2]? =some (.lst (e.1.2.1.map D.int))/\e.1.2.1.length<=100/\e.2≠kl)(hi:∀e∈P,∀u∈P,e.2=u.2->e=u):
 ∃h' R d4',forI (.nm 4) (xss G cl W kpL) kl W 0 [some (.ref a4),some (.str x0),some (.ref c5),some (.ref k3),d4,d5] h=.ok (.nx [some (.ref a4),some (.str x0),some (.ref c5),some (.ref k3),d4',d5]) h'
  /\(∀n o,h[n]? =some o->n≠k3->(∀e∈P,e.2≠n)->h'[n]? =some o)/\h'[k3]? =some (.dct (chD R))/\(R.map λe=>e.1)=(P.map λe=>e.1)/\∀e∈R,h'[e.2]? =some (.lst (e.1.2.1.map D.int)):=by
 have lk3:k3<h.length:=(List.getElem?_eq_some_iff.mp h3).1
 rcases jzJ (t:=.nm 4) (body:=xss G cl W kpL) (n:=kl) (l:=P.map λe=>D.str e.1.1)
  (λi r h'=>h.length<=h'.length/\(∀n o,h[n]? =some o->n≠k3->(∀e∈P.take i,e.2≠n)->h'[n]? =some o)/\(∃R:List Pe,h'[k3]? =some (.dct (chD R))/\(R.map λe=>e.1)=((P.take i).map λe=>e.1)/\∀e∈R,h.length<=e.2/\h'[e.2]? =some (.lst (e.1.2.1.map D.int)))/\∃d4,r=[some (.ref a4),some (.str x0),some (.ref c5),some (.ref k3),d4,d5]) (λ_ _=>False)
  (λi r h' q=>jzt (q.2.1 kl _ hk (λz=>by subst z;rw[h3] at hk;cases hk) (λe he=>(hP e (List.mem_of_mem_take he)).2.2)))
  (by
    rintro i d hd r h' ⟨hl,kp,⟨R,r1,r2,r3⟩,d4,rfl⟩
    rw[List.getElem?_map] at hd
    cases hx:P[i]? with
    |none=>rw[hx] at hd;cases hd
    |some e=>
     rw[hx] at hd;cases hd
     have he:e∈P:=List.mem_of_getElem? hx
     obtain⟨p1,p2,p3⟩:=hP e he
     have hil:i<P.length:=(List.getElem?_eq_some_iff.mp hx).1
     have tk:P=P.take i++e::P.drop (i+1):=by
      rw[<- (List.getElem?_eq_some_iff.mp hx).2, <- List.drop_eq_getElem_cons hil,List.take_append_drop]
     have nin:∀u∈P.take i,u.1.1≠e.1.1:=λu hu z=>by
      rw[tk,List.map_append,List.map_cons] at nd
      exact(List.nodup_append.mp nd).2.2 u.1.1 (List.mem_map.mpr ⟨u,hu,rfl⟩) e.1.1 List.mem_cons_self z
     have e5:h'[c5]? =some (.dct (chD P)):=kp c5 _ h5 ne (λu hu z=>by have:=(hP u (List.mem_of_mem_take hu)).1;rw[z,h5] at this;cases this)
     have ee:h'[e.2]? =some (.lst (e.1.2.1.map D.int)):=kp e.2 _ p1 (λz=>by rw[z,h3] at p1;cases p1) (λu hu z=>nin u hu (by rw[hi u (List.mem_of_mem_take hu) e he z]))
     have le:e.2<h.length:=(List.getElem?_eq_some_iff.mp p1).1
     have ne3:e.2≠k3:=λz=>by rw[z,h3] at p1;cases p1
     have v:=zzX nd he
     have ix:∀g:Hh,g[c5]? =some (.dct (chD P))->ixD (.ref c5) (.str e.1.1) g=.ok (.ref e.2) g:=λg eg=>by
      rw[iDct g _ eg]
      show(match valD _ (.inr e.1.1) with|some d=>Rs.ok d g|none=>.bad)=_
      rw[v]
     have r1':(h'++ [O.lst (e.1.2.1.map D.int)])[k3]? =some (.dct (chD R)):=Kp.app _ _ _ _ r1
     have lR:(chD R).length<1000:=by
      have:=congrArg List.length r2
      rw[List.length_map,List.length_map] at this
      unfold chD
      rw[List.length_map]
      have:=List.length_take_le i P
      omega
     have st:=qz3 (k:=.inr e.1.1) (y:=.str e.1.1) rfl (.ref h'.length) r1' lR
     rw[wzU (λp hp z=>by
      obtain⟨u,hu,rfl⟩:=List.mem_map.mp hp
      have:u.1∈(P.take i).map λe=>e.1:=by rw[<- r2];exact List.mem_map.mpr ⟨u,hu,rfl⟩
      obtain⟨q,hq,eq⟩:=List.mem_map.mp this
      exact nin q hq (by rw[eq];exact Sum.inr.inj z))] at st
     have e5':((h'++ [O.lst (e.1.2.1.map D.int)]).set k3 (.dct (chD R++ [(.inr e.1.1,.ref h'.length)])))[c5]? =some (.dct (chD P)):=by rw[List.getElem?_set_ne (Ne.symm ne)];exact Kp.app _ _ _ _ e5
     have ee':((h'++ [O.lst (e.1.2.1.map D.int)]).set k3 (.dct (chD R++ [(.inr e.1.1,.ref h'.length)])))[e.2]? =some (.lst (e.1.2.1.map D.int)):=by rw[List.getElem?_set_ne (Ne.symm ne3)];exact Kp.app _ _ _ _ ee
     have en:((h'++ [O.lst (e.1.2.1.map D.int)]).set k3 (.dct (chD R++ [(.inr e.1.1,.ref h'.length)])))[h'.length]? =some (.lst (e.1.2.1.map D.int)):=by rw[List.getElem?_set_ne (by omega)];simp
     have e3':((h'++ [O.lst (e.1.2.1.map D.int)]).set k3 (.dct (chD R++ [(.inr e.1.1,.ref h'.length)])))[k3]? =some (.dct (chD R++ [(.inr e.1.1,.ref h'.length)])):=List.getElem?_set_self (List.getElem?_eq_some_iff.mp r1').1
     have kk:∀n o,h'[n]? =some o->n≠k3->((h'++ [O.lst (e.1.2.1.map D.int)]).set k3 (.dct (chD R++ [(.inr e.1.1,.ref h'.length)])))[n]? =some o:=λn o q z=>by rw[List.getElem?_set_ne (Ne.symm z)];exact Kp.app _ _ _ _ q
     have ll:h'.length<=((h'++ [O.lst (e.1.2.1.map D.int)]).set k3 (.dct (chD R++ [(.inr e.1.1,.ref h'.length)]))).length:=by simp
     generalize (h'++ [O.lst (e.1.2.1.map D.int)]).set k3 (.dct (chD R++ [(.inr e.1.1,.ref h'.length)]))=h2 at st e5' ee' en e3' kk ll
     refine⟨[some (.ref a4),some (.str x0),some (.ref c5),some (.ref k3),some (.str e.1.1),d5],rfl,.inl ⟨[some (.ref a4),some (.str x0),some (.ref c5),some (.ref k3),some (.str e.1.1),d5],h2.set e.2 (.lst (e.1.2.1.map D.int++ [.int 0])),?_,by rw[List.length_set];omega,λn o q z w=>?_,⟨R++ [(e.1,h'.length)],?_,?_,λu hu=>?_⟩,_,rfl⟩⟩
     ·rw[kpL,xssNx (r':= [some (.ref a4),some (.str x0),some (.ref c5),some (.ref k3),some (.str e.1.1),d5]) (h':=h2) (by
         simp only[xsStx,evBlt,jzj,jzp,evVar,evIx,List.getElem?_cons_succ,ge0,jze,nxOk,ix h' e5,bList,sRef,jzt ee,st]),
       xssNx (r':= [some (.ref a4),some (.str x0),some (.ref c5),some (.ref k3),some (.str e.1.1),d5]) (h':=h2.set e.2 (.lst (e.1.2.1.map D.int++ [.int 0]))) (by
        simp only[xsEx,evApp,evIx,evVar,evInt,List.getElem?_cons_succ,ge0,jze,ix h2 e5',jz9,jzt ee',Option.isSome_some,if_true,appR,ee',List.length_map,(show e.1.2.1.length<1000000 by omega),nxOk]),jzo]
     ·have w':∀u∈P.take i,u.2≠n:=λu hu=>w u (by rw[List.take_succ,hx];simp;exact .inl hu)
      have we:e.2≠n:=w e (by rw[List.take_succ,hx];simp)
      rw[List.getElem?_set_ne we]
      exact kk n o (kp n o q z w') z
     ·rw[List.getElem?_set_ne ne3,e3']
      simp[chD]
     ·rw[List.map_append,r2,List.take_succ,hx]
      simp
     ·rcases List.mem_append.mp hu with hu|hu
      ·obtain⟨u1,u2⟩:=r3 u hu
       refine⟨u1,?_⟩
       rw[List.getElem?_set_ne (by omega)]
       exact kk _ _ u2 (by omega)
      ·rw[List.mem_singleton] at hu
       subst hu
       refine⟨hl,?_⟩
       show(h2.set e.2 _)[h'.length]? =_
       rw[List.getElem?_set_ne (by omega)]
       exact en)
  W 0 [some (.ref a4),some (.str x0),some (.ref c5),some (.ref k3),d4,d5] h ⟨Nat.le_refl _,λn o q _ _=>q,⟨[],h3,by simp,λe he=>by cases he⟩,_,rfl⟩ (Nat.zero_le _) (by rw[List.length_map];omega) with ⟨r',h',ef,hl,kp,⟨R,r1,r2,r3⟩,d4',rfl⟩|⟨d,h',ef,hf⟩
 ·rw[List.length_map,List.take_of_length_le (Nat.le_refl _)] at kp r2
  exact⟨h',R,d4',ef,kp,r1,r2,λe he=>(r3 e he).2⟩
 ·exact hf.elim
end
end Ng
end
section
namespace Ng
open PySem L2
theorem wz1{α β:Type}{f:α->β}:∀{l:List α},(l.map f).Nodup->∀{x y:α},x∈l->y∈l->f x=f y->x=y
 | [],_,_,_,h,_,_=>by cases h
 |a::l,nd,x,y,hx,hy,e=>by
  rw[List.map_cons,List.nodup_cons] at nd
  rcases List.mem_cons.mp hx with h1|h1
  ·rcases List.mem_cons.mp hy with h2|h2
   ·rw[h1,h2]
   ·exact absurd (List.mem_map.mpr ⟨y,h2,by rw[<- e,h1]⟩) nd.1
  ·rcases List.mem_cons.mp hy with h2|h2
   ·exact absurd (List.mem_map.mpr ⟨x,h1,by rw[e,h2]⟩) nd.1
   ·exact wz1 nd.2 h1 h2 e
theorem zzn{c:List Ce}(nd:(c.map λe=>e.1).Nodup){e:Ce}(h:e∈c):lkc c e.1=e.2:=by
 obtain⟨u,hu,eu,el⟩:=wza (c:=c) (x:=e.1) (List.mem_map.mpr ⟨e,h,rfl⟩)
 rw[el,wz1 nd hu h eu]
theorem wzz{h:Hh}{n:Nat}{l:List (Key×D)}(e:h[n]? =some (.dct l)):lstAt h n=none:=by
 unfold lstAt
 rw[e]
 rfl
theorem isDct{h:Hh}{n:Nat}{l:List (Key×D)}(e:h[n]? =some (.dct l)):isinL (.ref n) (.ty "dict") h=.ok (.bl true) h:=by
 have t:tyD (.ref n) h=some .dict:=by
  unfold tyD
  simp only[wzz e,e]
 have u:isinD (.ref n) "dict" h=some true:=by
  show(match tyD (.ref n) h with|some t=>if("dict":String)∈tyNames then some (isTy t "dict") else none|none=>none)=_
  rw[t]
  rfl
 show(match isinD (.ref n) "dict" h with|some b=>Rs.ok (D.bl b) h|none=>.bad)=_
 rw[u]
theorem lenDct{h:Hh}{n:Nat}{l:List (Key×D)}(e:h[n]? =some (.dct l)):bltD .len [.ref n] h=.ok (.int l.length) h:=by
 show lenL (.ref n) h=_
 have d:dtfAt h (.ref n)=none:=by
  unfold dtfAt
  simp only[e]
 unfold lenL
 rw[sRef,wzz e]
 simp only[d,jzO e]
theorem cNotS{h:Hh}{q:Nat}{N:List (Key×D)}(x:Str)(e:h[q]? =some (.dct N)):cmpD .notin (.str x) (.ref q) h=.ok (.bl (!(valD N (.inr x)).isSome)) h:=by
 show(match dctAt h (.ref q) with|some l=>inK (.str x) l true h|none=>_)=_
 rw[jzO e]
 rfl
theorem ixKS{h:Hh}{q:Nat}{N:List (Key×D)}{x:Str}{d:D}(e:h[q]? =some (.dct N))(ev':valD N (.inr x)=some d):ixD (.ref q) (.str x) h=.ok d h:=by
 rw[iDct h _ e]
 show(match valD N (.inr x) with|some d=>Rs.ok d h|none=>.bad)=_
 rw[ev']
section
variable {G:Gs}{cl:Cl}{W:Nat}
end
end Ng
end
section
namespace Ng
open PySem L2
section
variable (G:Gs)(cl:Cl)(W:Nat)(r:Ev)(h:Hh)
@[simp] theorem evLdk(x:E):ev G cl (.ldk x) r h=(ev G cl x r h).bind λx h=>ldkD x h:=by rw[ev]<;>rfl
@[simp] theorem evDnw':ev G cl .dnw r h=.ok (.ref h.length) (h++ [.dct []]):=by rw[ev]<;>rfl
end
theorem ldk_ok{h:Hh}{c:Nat}{P:List Pe}(e:h[c]? =some (.dct (chD P))):ldkD (.ref c) h=.ok (.ref h.length) (h++ [.lst (P.map λe=>D.str e.1.1)]):=by
 unfold ldkD
 rw[jzO e]
 show Rs.ok (D.ref h.length) (h++ [O.lst ((chD P).map λp=>kyD p.1)])=_
 unfold chD
 rw[List.map_map]
 rfl
theorem pe_inj{P:List Pe}(nd:(P.map λe=>e.1.1).Nodup){e u:Pe}(he:e∈P)(hu:u∈P)(z:e.1.1=u.1.1):e=u:=wz1 nd he hu z
abbrev agL(sai:Nat):Ss:=(.cons (.iff (.or (.cmp .notin (.var 4) (.var 3)) (.not (.call sai (.cons (.ix (.var 5) (.var 4)) (.cons (.ix (.var 3) (.var 4)) .nil))))) (.cons (.ret (.bl false)) .nil) .nil) .nil)
abbrev agB(chi sai:Nat):Ss:=(.cons (.asg (.nm 3) .dnw) (.cons (.forr (.nm 4) (.sq (.ldk (.var 2))) kpL) (.cons (.stx (.var 2) (.str "Zz") (.lst .nil)) (.cons (.asg (.nm 5) (.call chi (.cons (.var 0) (.cons (.var 1) .nil)))) (.cons (.forr (.nm 4) (.sq (.ldk (.var 5))) (agL sai)) (.cons (.ret (.cmp .eq (.blt .len (.cons (.var 5) .nil)) (.blt .len (.cons (.var 3) .nil)))) .nil))))))
section
variable {G:Gs}{cl:Cl}{W:Nat}
theorem agL_ok{sai a4 c5 k3 n5 kl:Nat}{x0:Str}{h:Hh}{P R:List Pe}{c:List Ce}{d4:Option D}(hW:2000<=W)(nd:(c.map λe=>e.1).Nodup)(hcl:c.length<=100)(eP:(P.map λe=>e.1)=c)(eR:(R.map λe=>e.1)=c)(h3:h[k3]? =some (.dct (chD R)))(h5:h[n5]? =some (.dct (chD P)))(hk:h[kl]? =some (.lst (P.map λe=>D.str e.1.1)))(hP:∀e∈P,h[e.2]? =some (.lst (e.1.2.1.map D.int)))(hR:∀e∈R,h[e.2]? =some (.lst (e.1.2.1.map D.int)))(hc:∀e∈c,e.2.1.length<=100)
 (sm:∀(a b:Nat)(l:List Int)(h:Hh),lstAt h a=some (l.map D.int)->lstAt h b=some (l.map D.int)->l.length<=1000->cl sai [.ref a,.ref b] h=.ok (.bl true) h):
 ∃d4',forI (.nm 4) (xss G cl W (agL sai)) kl W 0 [some (.ref a4),some (.str x0),some (.ref c5),some (.ref k3),d4,some (.ref n5)] h=.ok (.nx [some (.ref a4),some (.str x0),some (.ref c5),some (.ref k3),d4',some (.ref n5)]) h:=by
 have ndP:(P.map λe=>e.1.1).Nodup:=by rw[<- eP,List.map_map] at nd;exact nd
 have ndR:(R.map λe=>e.1.1).Nodup:=by rw[<- eR,List.map_map] at nd;exact nd
 have lP:P.length<=100:=by rw[<- eP,List.length_map] at hcl;exact hcl
 rcases jzJ (t:=.nm 4) (body:=xss G cl W (agL sai)) (n:=kl) (l:=P.map λe=>D.str e.1.1)
  (λ_ r h'=>h'=h/\∃d4,r=[some (.ref a4),some (.str x0),some (.ref c5),some (.ref k3),d4,some (.ref n5)]) (λ_ _=>False)
  (λi r h' q=>by rw[q.1];exact jzt hk)
  (by
    rintro i d hd r h' ⟨rfl,d4,rfl⟩
    rw[List.getElem?_map] at hd
    cases hx:P[i]? with
    |none=>rw[hx] at hd;cases hd
    |some e=>
     rw[hx] at hd;cases hd
     have he:e∈P:=List.mem_of_getElem? hx
     have hec:e.1∈c:=by rw[<- eP];exact List.mem_map.mpr ⟨e,he,rfl⟩
     have hec':=hec
     rw[<- eR] at hec'
     obtain⟨u,hu,eu⟩:=List.mem_map.mp hec'
     have v5:=zzX ndP he
     have v3:=zzX ndR hu
     rw[eu] at v3
     have n3:=cNotS e.1.1 h3
     rw[v3] at n3
     have i3:=ixKS h3 v3
     have i5:=ixKS h5 v5
     have hl:=hR u hu
     rw[eu] at hl
     have s:=sm e.2 u.2 e.1.2.1 h' (jzt (hP e he)) (jzt hl) (by have:=hc e.1 hec;omega)
     refine⟨[some (.ref a4),some (.str x0),some (.ref c5),some (.ref k3),some (.str e.1.1),some (.ref n5)],rfl,.inl ⟨[some (.ref a4),some (.str x0),some (.ref c5),some (.ref k3),some (.str e.1.1),some (.ref n5)],h',?_,rfl,_,rfl⟩⟩
     rw[agL,xssNx (r':= [some (.ref a4),some (.str x0),some (.ref c5),some (.ref k3),some (.str e.1.1),some (.ref n5)]) (h':=h') (by
      simp only[xsIff,evOr,evNot,evCmp,jzE,jzj,jzp,evVar,evIx,List.getElem?_cons_succ,ge0,jze,n3,i3,i5,s,nxOk,tBl,Option.isSome_some,Bool.not_true,jzo]),jzo])
  W 0 [some (.ref a4),some (.str x0),some (.ref c5),some (.ref k3),d4,some (.ref n5)] h ⟨rfl,_,rfl⟩ (Nat.zero_le _) (by rw[List.length_map];omega) with ⟨r',h',ef,rfl,d4',rfl⟩|⟨d,h',ef,hf⟩
 ·exact⟨d4',ef⟩
 ·exact hf.elim
theorem again_ok{chi sai a4 c5:Nat}{x0:Str}{h:Hh}{P:List Pe}{c:List Ce}{ts:List Tie}(hW:2000<=W)(nd:(c.map λe=>e.1).Nodup)(ndc:∀e∈c,∀u∈c,e.2.1=u.2.1->e.1=u.1)(hcl:c.length<=40)(hc:∀e∈c,e.2.1.length<=100)(eP:(P.map λe=>e.1)=c)(h5:h[c5]? =some (.dct (chD P)))(hP:∀e∈P,h[e.2]? =some (.lst (e.1.2.1.map D.int))/\e.2≠a4)(h4:h[a4]? =some (.lst (ts.map Tie.d)))
 (sm:∀(a b:Nat)(l:List Int)(h:Hh),lstAt h a=some (l.map D.int)->lstAt h b=some (l.map D.int)->l.length<=1000->cl sai [.ref a,.ref b] h=.ok (.bl true) h)
 (ch:∀(h:Hh),lstAt h a4=some (ts.map Tie.d)->∃h2 P,cl chi [.ref a4,.str x0] h=.ok (.ref h.length) h2/\Kp h h2/\h2[h.length]? =some (.dct (chD P))/\(P.map λe=>e.1)=c/\∀e∈P,h.length<=e.2/\h2[e.2]? =some (.lst (e.1.2.1.map D.int))):
 ∃h',(xss G cl W (agB chi sai) [some (.ref a4),some (.str x0),some (.ref c5),none,none,none] h).bind endD=.ok (.bl true) h':=by
 have ndP:(P.map λe=>e.1.1).Nodup:=by have:=nd;rw[<- eP,List.map_map] at this;exact this
 have mem:∀e∈P,e.1∈c:=λe he=>by rw[<- eP];exact List.mem_map.mpr ⟨e,he,rfl⟩
 have lP:P.length=c.length:=by rw[<- eP,List.length_map]
 have inj:∀e∈P,∀u∈P,e.2=u.2->e=u:=λe he u hu z=>by
  have a:=(hP e he).1
  rw[z,(hP u hu).1] at a
  have b:u.1.2.1.map D.int=e.1.2.1.map D.int:=by injection(Option.some.inj a)
  have ij:∀p q:List Int,p.map D.int=q.map D.int->p=q:=λp q z=>(List.map_inj_right (λx y w=>by injection w)).mp z
  exact pe_inj ndP he hu (ndc _ (mem e he) _ (mem u hu) (ij _ _ b).symm)
 have k1:Kp h (h++ [.dct []]):=Kp.app _ _
 have z1:(h++ [O.dct []])[h.length]? =some (.dct []):=by simp
 have l5:c5<h.length:=(List.getElem?_eq_some_iff.mp h5).1
 have l4:a4<h.length:=(List.getElem?_eq_some_iff.mp h4).1
 have lk:ldkD (.ref c5) (h++ [.dct []])=.ok (.ref (h.length+1)) (h++ [.dct []]++ [.lst (P.map λe=>D.str e.1.1)]):=by
  rw[ldk_ok (k1 _ _ h5),List.length_append];rfl
 obtain⟨h3,R,d4,ef,kp,r1,r2,r3⟩:=keep_ok (G:=G) (cl:=cl) (W:=W) (h:=h++ [.dct []]++ [.lst (P.map λe=>D.str e.1.1)]) (P:=P) (a4:=a4) (c5:=c5) (k3:=h.length) (kl:=h.length+1) (x0:=x0) (d4:=none) (d5:=none) hW ndP (by omega) (Kp.app _ _ _ _ (k1 _ _ h5)) (Kp.app _ _ _ _ z1) (by omega) (by simp) (λe he=>⟨Kp.app _ _ _ _ (k1 _ _ (hP e he).1),hc _ (mem e he),by have:=(List.getElem?_eq_some_iff.mp (hP e he).1).1;omega⟩) inj
 have p4:h3[a4]? =some (.lst (ts.map Tie.d)):=kp _ _ (Kp.app _ _ _ _ (k1 _ _ h4)) (by omega) (λe he=>(hP e he).2)
 have p5:h3[c5]? =some (.dct (chD P)):=kp _ _ (Kp.app _ _ _ _ (k1 _ _ h5)) (by omega) (λe he z=>by have:=(hP e he).1;rw[z,h5] at this;cases this)
 have q5:(h3++ [O.lst []])[c5]? =some (.dct (chD P)):=Kp.app _ _ _ _ p5
 have lD:(chD P).length<1000:=by unfold chD;rw[List.length_map];omega
 have st:=qz3 (k:=.inr "Zz") (y:=.str "Zz") rfl (.ref h3.length) q5 lD
 have n4:∀(o:O),((h3++ [O.lst []]).set c5 o)[a4]? =some (.lst (ts.map Tie.d)):=λo=>by
  rw[List.getElem?_set_ne (λz=>by rw[<- z,p5] at p4;cases p4)];exact Kp.app _ _ _ _ p4
 have nK:∀(o:O),((h3++ [O.lst []]).set c5 o)[h.length]? =some (.dct (chD R)):=λo=>by
  rw[List.getElem?_set_ne (by omega)];exact Kp.app _ _ _ _ r1
 have nR:∀(o:O),∀e∈R,((h3++ [O.lst []]).set c5 o)[e.2]? =some (.lst (e.1.2.1.map D.int)):=λo e he=>by
  rw[List.getElem?_set_ne (λz=>by have:=r3 e he;rw[<- z,p5] at this;cases this)];exact Kp.app _ _ _ _ (r3 e he)
 have n4:=n4 (.dct (putD (chD P) (.inr "Zz") (.ref h3.length)))
 have nK:=nK (.dct (putD (chD P) (.inr "Zz") (.ref h3.length)))
 have nR:=nR (.dct (putD (chD P) (.inr "Zz") (.ref h3.length)))
 generalize (h3++ [O.lst []]).set c5 (.dct (putD (chD P) (.inr "Zz") (.ref h3.length)))=h6 at st n4 nK nR
 obtain⟨h7,P',e7,k7,p7,eP',hP'⟩:=ch h6 (jzt n4)
 have k8:Kp h7 (h7++ [.lst (P'.map λe=>D.str e.1.1)]):=Kp.app _ _
 have lk2:=ldk_ok p7
 obtain⟨d4',eg⟩:=agL_ok (G:=G) (cl:=cl) (W:=W) (sai:=sai) (a4:=a4) (c5:=c5) (k3:=h.length) (n5:=h6.length) (kl:=h7.length) (x0:=x0) (h:=h7++ [.lst (P'.map λe=>D.str e.1.1)]) (P:=P') (R:=R) (c:=c) (d4:=d4) hW nd (by omega) eP' (by rw[r2,eP]) (k8 _ _ (k7 _ _ nK)) (k8 _ _ p7) (by simp) (λe he=>k8 _ _ (hP' e he).2) (λe he=>k8 _ _ (k7 _ _ (nR e he))) hc sm
 have l1:=lenDct (k8 _ _ p7)
 have l2:=lenDct (k8 _ _ (k7 _ _ nK))
 have ll:(chD P').length=(chD R).length:=by
  unfold chD
  rw[List.length_map,List.length_map]
  have a:=congrArg List.length eP'
  have b:=congrArg List.length r2
  rw[List.length_map] at a b
  rw[List.length_map] at b
  omega
 generalize h7++ [O.lst (P'.map λe=>D.str e.1.1)]=h8 at lk2 eg l1 l2
 refine⟨h8,?_⟩
 rw[agB,xssNx (r':= [some (.ref a4),some (.str x0),some (.ref c5),some (.ref h.length),none,none]) (h':=h++ [.dct []]) (by simp only[xsAsg,evDnw',nxOk,jze,setNm,List.set_cons_succ,List.set_cons_zero]),
  xssNx (r':= [some (.ref a4),some (.str x0),some (.ref c5),some (.ref h.length),d4,none]) (h':=h3) (by
   rw[qzj]
   simp only[evLdk,evVar,List.getElem?_cons_succ,ge0,jze,lk,nxOk,forDR]
   exact ef),
  xssNx (r':= [some (.ref a4),some (.str x0),some (.ref c5),some (.ref h.length),d4,none]) (h':=h6) (by
   simp only[xsStx,evLst,jzp,evVar,evStr,List.getElem?_cons_succ,ge0,jze,nxOk,List.length_nil,Nat.zero_le,if_true,st]),
  xssNx (r':= [some (.ref a4),some (.str x0),some (.ref c5),some (.ref h.length),d4,some (.ref h6.length)]) (h':=h7) (by
   simp only[xsAsg,jzE,jzj,jzp,evVar,List.getElem?_cons_succ,ge0,jze,e7,nxOk,setNm,List.set_cons_succ,List.set_cons_zero]),
  xssNx (r':= [some (.ref a4),some (.str x0),some (.ref c5),some (.ref h.length),d4',some (.ref h6.length)]) (h':=h8) (by
   rw[qzj]
   simp only[evLdk,evVar,List.getElem?_cons_succ,ge0,jze,lk2,nxOk,forDR]
   exact eg),
  xssRt (d:=.bl true) (h':=h8) (by
   simp only[xsRet,evCmp,evBlt,jzj,jzp,evVar,List.getElem?_cons_succ,ge0,jze,l1,l2,ll,cEqI,decide_true,nxOk])]
 rfl
end
end Ng
end
section
namespace Ng
open PySem L2
theorem dctAt_z{h:Hh}{p:Nat}{M:List (Key×D)}(e:h[p]? =some (.dcz M)):dctAt h (.ref p)=some M:=by
 show(match h[p]? with|some (.dct l)=>some l|some (.dcz l)=>some l|_=>none)=some M
 rw[e]
theorem ixA{h:Hh}{q:Nat}{N:List (Key×D)}{x:Str}{d:D}(e:dctAt h (.ref q)=some N)(v:valD N (.inr x)=some d):ixD (.ref q) (.str x) h=.ok d h:=by
 show(match dctAt h (.ref q) with|some l=>ixK l (.str x) h|none=>_)=_
 rw[e]
 show(match valD N (.inr x) with|some d=>Rs.ok d h|none=>.bad)=_
 rw[v]
theorem cNotA{h:Hh}{q:Nat}{N:List (Key×D)}(x:Str)(e:dctAt h (.ref q)=some N):cmpD .notin (.str x) (.ref q) h=.ok (.bl (!(valD N (.inr x)).isSome)) h:=by
 show(match dctAt h (.ref q) with|some l=>inK (.str x) l true h|none=>_)=_
 rw[e]
 rfl
theorem cInA{h:Hh}{q:Nat}{N:List (Key×D)}(x:Str)(e:dctAt h (.ref q)=some N):cmpD .inn (.str x) (.ref q) h=.ok (.bl (valD N (.inr x)).isSome) h:=by
 show(match dctAt h (.ref q) with|some l=>inK (.str x) l false h|none=>_)=_
 rw[e]
 rfl
theorem chD_in{P:List Pe}{c:List Ce}(eP:(P.map λe=>e.1)=c)(x:Str):(valD (chD P) (.inr x)).isSome=decide (x∈c.map λe=>e.1):=by
 by_cases hx:x∈c.map λe=>e.1
 ·obtain⟨e,he,v,_⟩:=qzJ (P:=P) (x:=x) (by rw[eP];exact hx)
  rw[v,decide_eq_true hx];rfl
 ·rw[decide_eq_false hx]
  unfold chD
  rw[jz1 (λe:Pe=>e.1.1) (λe=>.ref e.2)]
  cases q:P.find? λe=>decide (e.1.1=x) with
  |none=>rfl
  |some u=>
   exfalso;apply hx
   rw[<- eP]
   exact List.mem_map.mpr ⟨u.1,List.mem_map.mpr ⟨u,List.mem_of_find?_eq_some q,rfl⟩,by simpa using List.find?_some q⟩
theorem eqLI(l:List Int):∀k:Nat,eqL (eqD k) (l.map D.int) (l.map D.int)=some true:=λk=>by
 induction l with
 |nil=>rfl
 |cons a l ih=>rw[List.map_cons,eqL1,ih,eqDI];simp
theorem cNeL{h:Hh}{a b:Nat}{l:List Int}(ea:lstAt h a=some (l.map D.int))(eb:lstAt h b=some (l.map D.int)):cmpD .ne (.ref a) (.ref b) h=.ok (.bl false) h:=by
 have:eqH (.ref a) (.ref b) h=some true:=by
  show(match lstAt h a,lstAt h b with|some a,some b=>if a.length=b.length then eqL (eqD 20) a b else some false|_,_=>none)=_
  rw[ea,eb]
  show(if _ then _ else _)=_
  rw[if_pos rfl,eqLI]
 show(match eqH (.ref a) (.ref b) h with|some b=>Rs.ok (D.bl (!b)) h|none=>.bad)=_
 rw[this]
 rfl
theorem atILast(l:List Int)(n:Int):atI ((l++ [n]).map D.int) (-1)=some (.int n):=by
 unfold atI ixN
 simp
 rw[if_pos (by omega)]
 show(List.map D.int l++ [D.int n])[(-1+((l.length:Int)+1)).toNat]? =_
 rw[show(-1+((l.length:Int)+1)).toNat=(List.map D.int l).length by rw[List.length_map];omega]
 simp
section
variable (G:Gs)(cl:Cl)(W:Nat)(r:Ev)(h:Hh)
@[simp] theorem evSlU'(a b:E):ev G cl (.slU a b) r h=(ev G cl a r h).bind λx h=>(ev G cl b r h).bind λy h=>slUD x y h:=by rw[ev]<;>rfl
theorem xsForZ(t:Tg)(e:E)(b:Ss):xs G cl W (.forr t (.itz e) b) r h=(ev G cl e r h).nx.bind λx h=>match x with
 |.ref n=>match h[n]? with
  |some (.dct l)=>(forS t (xss G cl W b) (l.map λp=>D.tup [kyD p.1,p.2]) r (h.set n (.dcz l))).bind λfl h2=>match fl with
   |.nx r2=>(match h2[n]? with
    |some (.dcz l2)=>.ok (.nx r2) (h2.set n (.dct l2))
    |_=>.bad)
   |f=>.ok f h2
  |_=>.bad
 |_=>.bad:=by rw[xs]<;>rfl
end
theorem slU1{h:Hh}{a:Nat}{l:List Int}{n:Int}(ea:lstAt h a=some ((l++ [n]).map D.int)):slUD (.ref a) (.int (-1)) h=.ok (.ref h.length) (h++ [.lst (l.map D.int)]):=by
 unfold slUD
 simp only[jz9,ea,Option.isSome_some,sRef]
 rw[if_neg (by decide)]
 congr 4
 simp
abbrev tlC:E:=.comp (.nm 0) .sq (.cons (.var 1) .nil) (.cons (.cmp .eq (.ix (.var 0) (.int 0)) (.ix (.var 1) (.neg (.int 1)))) .nil) (.var 0) ["_law_tie","_law_chain"] [7]
abbrev tlL:Ss:=(.cons (.iff (.or (.not (.blt .isinst (.cons (.var 6) (.cons (.ty .str) .nil)))) (.not (.call 15 (.cons (.var 7) .nil)))) (.cons (.ret (.bl false)) .nil) .nil) (.cons (.iff (.or (.cmp .eq (.var 6) (.var 3)) (.not (.var 7))) (.cons (.iff (.or (.cmp .ne (.var 6) (.var 3)) (.var 7)) (.cons (.ret (.bl false)) .nil) .nil) .nil) (.cons (.asc 8 tlC) (.cons (.iff (.or (.not (.var 8)) (.cmp .notin (.call 14 (.cons (.ix (.var 8) (.int 0)) (.cons (.var 6) .nil))) (.var 5))) (.cons (.ret (.bl false)) .nil) .nil) (.cons (.iff (.cmp .ne (.ix (.var 5) (.call 14 (.cons (.ix (.var 8) (.int 0)) (.cons (.var 6) .nil)))) (.slU (.var 7) (.neg (.int 1)))) (.cons (.ret (.bl false)) .nil) .nil) .nil)))) .nil))
abbrev tiM:Ss:=(.cons (.iff (.cmp .gt (.blt .len (.cons (.var 14) .nil)) (.bin .add (.blt .len (.cons (.var 13) .nil)) (.int 1))) (.cons (.ret (.bl false)) .nil) .nil) (.cons (.iff (.and (.cmp .eq (.blt .len (.cons (.var 14) .nil)) (.bin .add (.blt .len (.cons (.var 13) .nil)) (.int 1))) (.cmp .lt (.bin .add (.var 13) (.lst (.cons (.var 9) .nil))) (.var 14))) (.cons (.ret (.bl false)) .nil) .nil) .nil))
abbrev tiL:Ss:=(.cons (.iff (.cmp .ne (.cmp .inn (.var 10) (.var 5)) (.cmp .inn (.var 11) (.var 5))) (.cons (.ret (.bl false)) .nil) .nil) (.cons (.iff (.cmp .inn (.var 10) (.var 5)) (.cons (.forr (.tp [13,14]) (.sq (.lst (.cons (.tup (.cons (.ix (.var 5) (.var 10)) (.cons (.ix (.var 5) (.var 11)) .nil))) (.cons (.tup (.cons (.ix (.var 5) (.var 11)) (.cons (.ix (.var 5) (.var 10)) .nil))) .nil)))) tiM) .nil) .nil) .nil))
section
variable {G:Gs}{cl:Cl}{W:Nat}
theorem tlC_ok{ts:List Tie}{k c:Nat}{h:Hh}{r:Ev}{l:List Int}{n:Int}(hk:lstAt h k=some (ts.map Tie.d))(hm:ts.length<=1000)(hr:r[1]? =some (some (.ref k)))(hr7:r[7]? =some (some (.ref c)))(hc:lstAt h c=some ((l++ [n]).map D.int)):
 ∃g,ev G cl tlC r h=.ok (.ref h.length) (h++ .lst ((ts.filter λt=>decide (t.n=n)).map Tie.d)::g):=
 evC_lst (l:=ts) Tie.d (λr=>∃d,r=[d,some (.ref c)]) (λt=>decide (t.n=n)) Tie.d (by simp only[jzj,jzp,evVar,hr,jze]) hk hm ⟨none,by simp[blockE,capV,hr7]⟩ λt _=>⟨by
  rintro r ys gb ⟨d,rfl⟩
  refine⟨[some t.d,some (.ref c)],[],rfl,?_,⟨_,rfl⟩,λ_=>⟨[],by simp⟩⟩
  have hc':lstAt (h++O.lst ys::gb) c=some ((l++ [n]).map D.int):=jz6 _ _ hc
  have i1:ixD (.ref c) (.int (-1)) (h++O.lst ys::gb)=.ok (.int n) (h++O.lst ys::gb):=by rw[iRef _ _ hc',atILast]
  have i0:ixD t.d (.int 0) (h++O.lst ys::gb)=.ok (.int t.n) (h++O.lst ys::gb):=rfl
  rw[List.append_nil]
  generalize h++O.lst ys::gb=h2 at i1 i0
  simp only[evtCons,evCmp,evIx,evVar,evInt,evNeg,List.getElem?_cons_succ,ge0,jze,i0,i1,cEqI,tBl]
  by_cases e:t.n=n
  ·rw[decide_eq_true e];simp
  ·rw[decide_eq_false e]⟩
abbrev lbE(n q a4 c5:Nat)(x0:Str)(d6 d7 d8 d9 d10 d11 d12 d13 d14:Option D):Ev:= [some (.ref 0),some (.ref n),some (.ref q),some (.str x0),some (.ref a4),some (.ref c5),d6,d7,d8,d9,d10,d11,d12,d13,d14]
theorem tlL_ok{ts:List Tie}(Q:Ties ts){x0:Str}{n q a4 c5:Nat}{h:Hh}{P:List Pe}{c:List Ce}(nd:(c.map λe=>e.1).Nodup)(hc:∀e∈c,e.2.1.length<=100)(eP:(P.map λe=>e.1)=c)(hn:lstAt h n=some (ts.map Tie.d))(h5:h[c5]? =some (.dcz (chD P)))(hP:∀e∈P,h[e.2]? =some (.lst (e.1.2.1.map D.int)))
 (l0:(lkc c x0).1=[])(l1:∀x∈c.map (λe=>e.1),x≠x0->∃b∈c.map (λe=>e.1),∃n t,(lkc c x).1=(lkc c b).1++ [n]/\fnd ts n=some t/\t.en x=some b)
 (he:∀(t:Tie)(x:Str)(h:Hh),cl 14 [t.d,.str x] h=.ok (enD t x) h)(hb:∀(h:Hh)(c:Nat)(l:List Int),lstAt h c=some (l.map D.int)->l.length<=1000->cl 15 [.ref c] h=.ok (.bl true) h)(d6 d7 d8 d9 d10 d11 d12 d13 d14:Option D):
 ∃h' d6' d7' d8',forS (.tp [6,7]) (xss G cl W tlL) ((chD P).map λp=>D.tup [kyD p.1,p.2]) (lbE n q a4 c5 x0 d6 d7 d8 d9 d10 d11 d12 d13 d14) h=.ok (.nx (lbE n q a4 c5 x0 d6' d7' d8' d9 d10 d11 d12 d13 d14)) h'/\Kp h h':=by
 have eqL':((chD P).map λp=>D.tup [kyD p.1,p.2])=P.map λe=>D.tup [.str e.1.1,.ref e.2]:=by unfold chD;rw[List.map_map];rfl
 rw[eqL']
 rcases wzd (t:=.tp [6,7]) (body:=xss G cl W tlL) (λ_ r h'=>Kp h h'/\∃d6 d7 d8,r=lbE n q a4 c5 x0 d6 d7 d8 d9 d10 d11 d12 d13 d14) (λ_ _=>False) (P.map λe=>D.tup [.str e.1.1,.ref e.2]) 0 (by
  rintro j d hd r h' ⟨kp,d6,d7,d8,rfl⟩
  rw[List.getElem?_map] at hd
  cases hx:P[j]? with
  |none=>rw[hx] at hd;cases hd
  |some e=>
   rw[hx] at hd;cases hd
   have hee:e∈P:=List.mem_of_getElem? hx
   have hec:e.1∈c:=by rw[<- eP];exact List.mem_map.mpr ⟨e,hee,rfl⟩
   have hen:e.1.1∈c.map (λe=>e.1):=List.mem_map.mpr ⟨e.1,hec,rfl⟩
   have lk:=zzn nd hec
   have ll:=hc _ hec
   have le:=jzt (kp _ _ (hP e hee))
   refine⟨lbE n q a4 c5 x0 (some (.str e.1.1)) (some (.ref e.2)) d8 d9 d10 d11 d12 d13 d14,rfl,.inl ?_⟩
   have iS:isinL (.str e.1.1) (.ty "str") h'=.ok (.bl true) h':=rfl
   have nb:=hb h' e.2 e.1.2.1 le (by omega)
   have s1:xs G cl W (.iff (.or (.not (.blt .isinst (.cons (.var 6) (.cons (.ty .str) .nil)))) (.not (.call 15 (.cons (.var 7) .nil)))) (.cons (.ret (.bl false)) .nil) .nil) (lbE n q a4 c5 x0 (some (.str e.1.1)) (some (.ref e.2)) d8 d9 d10 d11 d12 d13 d14) h'=.ok (.nx (lbE n q a4 c5 x0 (some (.str e.1.1)) (some (.ref e.2)) d8 d9 d10 d11 d12 d13 d14)) h':=by
    simp only[xsIff,evOr,evNot,evBlt,jzE,jzj,jzp,evVar,evTy,List.getElem?_cons_succ,ge0,jze,bIs,nmStr,iS,nb,nxOk,tBl,Bool.not_true,jzo]
   have tr:truD (.ref e.2) h'=some (!(e.1.2.1.map D.int).isEmpty):=by
    show(match lstAt h' e.2 with|some l=>some (!l.isEmpty)|none=>none)=_
    rw[le]
   by_cases h0:e.1.1=x0
   ·have e0:e.1.2.1=[]:=by rw[h0] at lk;rw[<- lk];exact l0
    rw[e0] at tr
    refine⟨lbE n q a4 c5 x0 (some (.str e.1.1)) (some (.ref e.2)) d8 d9 d10 d11 d12 d13 d14,h',?_,kp,_,_,_,rfl⟩
    rw[tlL,xssNx s1,xssNx (r':=lbE n q a4 c5 x0 (some (.str e.1.1)) (some (.ref e.2)) d8 d9 d10 d11 d12 d13 d14) (h':=h') (by
     simp only[xsIff,evOr,evCmp,evVar,List.getElem?_cons_succ,ge0,jze,nxOk,cEqS,h0,decide_true,tBl,jzF,cNeS,Bool.not_true,tr,List.map_nil,List.isEmpty_nil,jzo]),jzo]
   ·obtain⟨b,hbm,m,t,k1,k2,k3⟩:=l1 e.1.1 hen h0
    have k1':e.1.2.1=(lkc c b).1++ [m]:=by rw[<- k1,lk]
    obtain⟨u,hu,v,lu⟩:=qzJ (P:=P) (x:=b) (by rw[eP];exact hbm)
    rw[eP] at lu
    have le2:lstAt h' e.2=some (((lkc c b).1++ [m]).map D.int):=by rw[<- k1'];exact le
    obtain⟨g,e1⟩:=tlC_ok (G:=G) (cl:=cl) (r:=lbE n q a4 c5 x0 (some (.str e.1.1)) (some (.ref e.2)) d8 d9 d10 d11 d12 d13 d14) (kp.lst hn) (by have:=Q.len;omega) rfl rfl le2
    have eA:=wzy h' g ((ts.filter λt=>decide (t.n=m)).map Tie.d)
    have ef:=vzS ts m
    have kp2:Kp h' (h'++O.lst ((ts.filter λt=>decide (t.n=m)).map Tie.d)::g):=Kp.app _ _
    generalize h'++O.lst ((ts.filter λt=>decide (t.n=m)).map Tie.d)::g=h2 at e1 eA kp2
    generalize ts.filter (λt=>decide (t.n=m))=A at eA ef e1
    cases A with
    |nil=>rw[k2] at ef;cases ef
    |cons t' A=>
     have tt:t'=t:=by rw[k2] at ef;exact(Option.some.inj ef).symm
     subst tt
     have trA:truD (.ref h'.length) h2=some true:=by
      show(match lstAt h2 h'.length with|some l=>some (!l.isEmpty)|none=>none)=_
      rw[eA];rfl
     have i0:ixD (.ref h'.length) (.int 0) h2=.ok t'.d h2:=by rw[iRef _ _ eA,List.map_cons,atI0]
     have ee:=he t' e.1.1 h2
     unfold enD at ee
     rw[k3] at ee
     have ee':cl 14 [t'.d,.str e.1.1] h2=.ok (.str b) h2:=ee
     have d5:dctAt h2 (.ref c5)=some (chD P):=dctAt_z ((kp.trans kp2) _ _ h5)
     have nn:=cNotA b d5
     rw[v] at nn
     have ix:=ixA d5 v
     have le3:lstAt h2 e.2=some (((lkc c b).1++ [m]).map D.int):=kp2.lst le2
     have sl:=slU1 le3
     have lu2:lstAt h2 u.2=some ((lkc c b).1.map D.int):=by rw[lu];exact jzt ((kp.trans kp2) _ _ (hP u hu))
     have cn:=cNeL (jz6 _ [O.lst ((lkc c b).1.map D.int)] lu2) (jzx h2 ((lkc c b).1.map D.int))
     have ne:(!(e.1.2.1.map D.int).isEmpty)=true:=by rw[k1'];simp
     rw[ne] at tr
     have s3:xs G cl W (.asc 8 tlC) (lbE n q a4 c5 x0 (some (.str e.1.1)) (some (.ref e.2)) d8 d9 d10 d11 d12 d13 d14) h'=.ok (.nx (lbE n q a4 c5 x0 (some (.str e.1.1)) (some (.ref e.2)) (some (.ref h'.length)) d9 d10 d11 d12 d13 d14)) h2:=by rw[xsAsc,e1];rfl
     have s4:xs G cl W (.iff (.or (.not (.var 8)) (.cmp .notin (.call 14 (.cons (.ix (.var 8) (.int 0)) (.cons (.var 6) .nil))) (.var 5))) (.cons (.ret (.bl false)) .nil) .nil) (lbE n q a4 c5 x0 (some (.str e.1.1)) (some (.ref e.2)) (some (.ref h'.length)) d9 d10 d11 d12 d13 d14) h2=.ok (.nx (lbE n q a4 c5 x0 (some (.str e.1.1)) (some (.ref e.2)) (some (.ref h'.length)) d9 d10 d11 d12 d13 d14)) h2:=by
      simp only[xsIff,evOr,evNot,evCmp,jzE,jzj,jzp,evVar,evIx,evInt,List.getElem?_cons_succ,ge0,jze,trA,tBl,i0,ee',nxOk,nn,Option.isSome_some,Bool.not_true,jzo]
     have s5:xs G cl W (.iff (.cmp .ne (.ix (.var 5) (.call 14 (.cons (.ix (.var 8) (.int 0)) (.cons (.var 6) .nil)))) (.slU (.var 7) (.neg (.int 1)))) (.cons (.ret (.bl false)) .nil) .nil) (lbE n q a4 c5 x0 (some (.str e.1.1)) (some (.ref e.2)) (some (.ref h'.length)) d9 d10 d11 d12 d13 d14) h2=.ok (.nx (lbE n q a4 c5 x0 (some (.str e.1.1)) (some (.ref e.2)) (some (.ref h'.length)) d9 d10 d11 d12 d13 d14)) (h2++ [O.lst ((lkc c b).1.map D.int)]):=by
      simp only[xsIff,evCmp,jzE,jzj,jzp,evVar,evIx,evInt,evNeg,evSlU',List.getElem?_cons_succ,ge0,jze,i0,ee',nxOk,ix,sl,cn,tBl,jzo]
     refine⟨lbE n q a4 c5 x0 (some (.str e.1.1)) (some (.ref e.2)) (some (.ref h'.length)) d9 d10 d11 d12 d13 d14,h2++ [O.lst ((lkc c b).1.map D.int)],?_,kp.trans (kp2.trans (Kp.app _ _)),_,_,_,rfl⟩
     rw[tlL,xssNx s1,xssNx (r':=lbE n q a4 c5 x0 (some (.str e.1.1)) (some (.ref e.2)) (some (.ref h'.length)) d9 d10 d11 d12 d13 d14) (h':=h2++ [O.lst ((lkc c b).1.map D.int)]) (by
      rw[jzT (h':=h') (by
       simp only[evOr,evNot,evCmp,evVar,List.getElem?_cons_succ,ge0,jze,cEqS,decide_eq_false h0,tBl,tr,Bool.not_true]),xssNx s3,xssNx s4,xssNx s5,jzo]),jzo])
  (lbE n q a4 c5 x0 d6 d7 d8 d9 d10 d11 d12 d13 d14) h ⟨Kp.refl _,_,_,_,rfl⟩ with ⟨r',h',ef,kp,d6',d7',d8',rfl⟩|⟨d,h',ef,hf⟩
 ·exact⟨h',d6',d7',d8',ef,kp⟩
 ·exact hf.elim
end
end Ng
end
section
namespace Ng
open PySem L2
theorem cLtL{h:Hh}{a b:Nat}{p q:List Int}(ea:lstAt h a=some (p.map D.int))(eb:lstAt h b=some (q.map D.int)):cmpD .lt (.ref a) (.ref b) h=.ok (.bl (decide (p<q))) h:=by
 show(match lstAt h a,lstAt h b with|some a,some b=>(match ltI a b with|some c=>Rs.ok (D.bl c) h|none=>.bad)|_,_=>.bad)=_
 rw[ea,eb]
 show(match ltI (p.map D.int) (q.map D.int) with|some c=>Rs.ok (D.bl c) h|none=>.bad)=_
 rw[zzk]
section
variable {G:Gs}{cl:Cl}{W:Nat}
theorem vz0{r:Ev}{h:Hh}{a b:Nat}{p q:List Int}{m:Int}(r13:r[13]? =some (some (.ref a)))(r14:r[14]? =some (some (.ref b)))(r9:r[9]? =some (some (.int m)))(ea:h[a]? =some (.lst (p.map D.int)))(eb:h[b]? =some (.lst (q.map D.int)))(hp:p.length<=100)(le:LE2 q (p++ [m])):
 ∃h',xss G cl W tiM r h=.ok (.nx r) h'/\Kp h h':=by
 have le':q.length<=p.length+1:=by
  rcases le with z|⟨z,_⟩<;>simp at z<;>omega
 have lp:=evLen (G:=G) (cl:=cl) r13 (jzt ea)
 have lq:=evLen (G:=G) (cl:=cl) r14 (jzt eb)
 rw[List.length_map] at lp lq
 have la:ev G cl (.bin .add (.blt .len (.cons (.var 13) .nil)) (.int 1)) r h=.ok (.int ((p.length:Int)+1)) h:=jzB lp (evInt ..) (bAdd ..)
 have s1:xs G cl W (.iff (.cmp .gt (.blt .len (.cons (.var 14) .nil)) (.bin .add (.blt .len (.cons (.var 13) .nil)) (.int 1))) (.cons (.ret (.bl false)) .nil) .nil) r h=.ok (.nx r) h:=by
  rw[jzT (h':=h) (by rw[qzF lq la (cGt ..),decide_eq_false (by omega)]),jzo]
 by_cases c:q.length=p.length+1
 ·have h1:Kp h (h++ [.lst [.int m]]):=Kp.app _ _
  have ad:=addL (h:=h++ [.lst [.int m]]) (h1 _ _ ea) (show(h++ [O.lst [.int m]])[h.length]? =_ by simp;rfl) (by rw[List.length_map];simp;omega)
  have h2:Kp h (h++ [O.lst [.int m]]++ [.lst (p.map D.int++ [.int m])]):=h1.trans (Kp.app _ _)
  have l1:lstAt (h++ [O.lst [.int m]]++ [.lst (p.map D.int++ [.int m])]) (h++ [O.lst [.int m]]).length=some ((p++ [m]).map D.int):=by rw[jzx,List.map_append];rfl
  have lt:=cLtL l1 (h2.lst (jzt eb))
  generalize h++ [O.lst [.int m]]++ [O.lst (p.map D.int++ [.int m])]=h3 at ad h2 lt
  have nl:¬(p++ [m]<q):=by
   rcases le with z|⟨_,z⟩
   ·simp at z;omega
   ·exact z
  rw[decide_eq_false nl] at lt
  refine⟨h3,?_,h2⟩
  rw[tiM,xssNx s1,xssNx (r':=r) (h':=h3) (by
   rw[jzT (h':=h3) (by
    rw[evAnd,qzF lq la (cEqI ..),decide_eq_true (by omega),jze,tBl]
    simp only[evCmp,evBin,evLst,jzj,jzp,evV r13,evV r9,evV r14,jze,List.length_cons,List.length_nil,Nat.reduceLeDiff,Nat.reduceAdd,if_true,ad,lt]),jzo]),jzo]
 ·refine⟨h,?_,Kp.refl _⟩
  rw[tiM,xssNx s1,xssNx (r':=r) (h':=h) (by
   rw[jzT (h':=h) (by rw[evAnd,qzF lq la (cEqI ..),decide_eq_false (by omega),jze,tBl]),jzo]),jzo]
theorem tiL_ok(hW:2000<=W){ts:List Tie}(Q:Ties ts){x0:Str}{n q a4 c5:Nat}{h:Hh}{P:List Pe}{c:List Ce}(hc:∀e∈c,e.2.1.length<=100)(eP:(P.map λe=>e.1)=c)(hn:lstAt h n=some (ts.map Tie.d))(h5:h[c5]? =some (.dct (chD P)))(hP:∀e∈P,h[e.2]? =some (.lst (e.1.2.1.map D.int)))
 (tb:∀t∈ts,(t.one∈(c.map λe=>e.1)↔t.other∈(c.map λe=>e.1))/\(t.one∈(c.map λe=>e.1)->LE2 (lkc c t.other).1 ((lkc c t.one).1++ [t.n])/\LE2 (lkc c t.one).1 ((lkc c t.other).1++ [t.n])))(d6 d7 d8 d9 d10 d11 d12 d13 d14:Option D):
 ∃h' d9' d10' d11' d12' d13' d14',forI (.tp [9,10,11,12]) (xss G cl W tiL) n W 0 (lbE n q a4 c5 x0 d6 d7 d8 d9 d10 d11 d12 d13 d14) h=.ok (.nx (lbE n q a4 c5 x0 d6 d7 d8 d9' d10' d11' d12' d13' d14')) h'/\Kp h h':=by
 rcases jzJ (t:=.tp [9,10,11,12]) (body:=xss G cl W tiL) (n:=n) (l:=ts.map Tie.d) (λ_ r h'=>Kp h h'/\∃d9 d10 d11 d12 d13 d14,r=lbE n q a4 c5 x0 d6 d7 d8 d9 d10 d11 d12 d13 d14) (λ_ _=>False) (λi r h' z=>z.1.lst hn) (by
  rintro j d hd r h' ⟨kp,d9,d10,d11,d12,d13,d14,rfl⟩
  rw[List.getElem?_map] at hd
  cases hx:ts[j]? with
  |none=>rw[hx] at hd;cases hd
  |some t=>
   rw[hx] at hd;cases hd
   obtain⟨t1,t2⟩:=tb t (List.mem_of_getElem? hx)
   have d5:dctAt h' (.ref c5)=some (chD P):=jzO (kp _ _ h5)
   have i1:=cInA t.one d5
   have i2:=cInA t.other d5
   rw[chD_in eP] at i1 i2
   refine⟨lbE n q a4 c5 x0 d6 d7 d8 (some (.int t.n)) (some (.str t.one)) (some (.str t.other)) (some (mo t.m)) d13 d14,rfl,.inl ?_⟩
   have s1:xs G cl W (.iff (.cmp .ne (.cmp .inn (.var 10) (.var 5)) (.cmp .inn (.var 11) (.var 5))) (.cons (.ret (.bl false)) .nil) .nil) (lbE n q a4 c5 x0 d6 d7 d8 (some (.int t.n)) (some (.str t.one)) (some (.str t.other)) (some (mo t.m)) d13 d14) h'=.ok (.nx (lbE n q a4 c5 x0 d6 d7 d8 (some (.int t.n)) (some (.str t.one)) (some (.str t.other)) (some (mo t.m)) d13 d14)) h':=by
    rw[jzT (h':=h') (by
     simp only[evCmp,evVar,List.getElem?_cons_succ,ge0,jze,i1,i2,cNeB]
     rw[decide_eq_true (show decide (t.one∈c.map λe=>e.1)=decide (t.other∈c.map λe=>e.1) from decide_eq_decide.mpr t1)]
     rfl),jzo]
   by_cases m1:t.one∈c.map λe=>e.1
   ·obtain⟨u,hu,vu,lu⟩:=qzJ (P:=P) (x:=t.one) (by rw[eP];exact m1)
    obtain⟨w,hw,vw,lw⟩:=qzJ (P:=P) (x:=t.other) (by rw[eP];exact t1.mp m1)
    rw[eP] at lu lw
    have x1:=ixA d5 vu
    have x2:=ixA d5 vw
    obtain⟨le1,le2⟩:=t2 m1
    rw[lu,lw] at le1 le2
    have cu:=hc u.1 (by rw[<- eP];exact List.mem_map.mpr ⟨u,hu,rfl⟩)
    have cw:=hc w.1 (by rw[<- eP];exact List.mem_map.mpr ⟨w,hw,rfl⟩)
    have kp2:Kp h' (h'++ [O.lst [.tup [.ref u.2,.ref w.2],.tup [.ref w.2,.ref u.2]]]):=Kp.app _ _
    have ll:lstAt (h'++ [O.lst [.tup [.ref u.2,.ref w.2],.tup [.ref w.2,.ref u.2]]]) h'.length=some [.tup [.ref u.2,.ref w.2],.tup [.ref w.2,.ref u.2]]:=jzx _ _
    have e0:ev G cl (.lst (.cons (.tup (.cons (.ix (.var 5) (.var 10)) (.cons (.ix (.var 5) (.var 11)) .nil))) (.cons (.tup (.cons (.ix (.var 5) (.var 11)) (.cons (.ix (.var 5) (.var 10)) .nil))) .nil))) (lbE n q a4 c5 x0 d6 d7 d8 (some (.int t.n)) (some (.str t.one)) (some (.str t.other)) (some (mo t.m)) d13 d14) h'=.ok (.ref h'.length) (h'++ [O.lst [.tup [.ref u.2,.ref w.2],.tup [.ref w.2,.ref u.2]]]):=by
     simp only[evLst,jzj,jzp,evTup,evIx,evVar,List.getElem?_cons_succ,ge0,jze,x1,x2,List.length_cons,List.length_nil,Nat.reduceAdd,Nat.reduceLeDiff,if_true]
    generalize h'++ [O.lst [.tup [.ref u.2,.ref w.2],.tup [.ref w.2,.ref u.2]]]=h2 at kp2 ll e0
    rcases jzJ (t:=.tp [13,14]) (body:=xss G cl W tiM) (n:=h'.length) (l:= [.tup [.ref u.2,.ref w.2],.tup [.ref w.2,.ref u.2]]) (λ_ r h3=>Kp h2 h3/\∃d13 d14,r=lbE n q a4 c5 x0 d6 d7 d8 (some (.int t.n)) (some (.str t.one)) (some (.str t.other)) (some (mo t.m)) d13 d14) (λ_ _=>False) (λi r h3 z=>z.1.lst ll) (by
     rintro j d hd r h3 ⟨kp3,d13,d14,rfl⟩
     have k:=kp.trans (kp2.trans kp3)
     match j,hd with
     |0,hd=>
      cases hd
      obtain⟨h4,e4,k4⟩:=vz0 (G:=G) (cl:=cl) (W:=W) (r:=lbE n q a4 c5 x0 d6 d7 d8 (some (.int t.n)) (some (.str t.one)) (some (.str t.other)) (some (mo t.m)) (some (.ref u.2)) (some (.ref w.2))) (h:=h3) rfl rfl rfl (k _ _ (hP u hu)) (k _ _ (hP w hw)) cu le1
      exact⟨_,rfl,.inl ⟨_,h4,e4,kp3.trans k4,_,_,rfl⟩⟩
     |1,hd=>
      cases hd
      obtain⟨h4,e4,k4⟩:=vz0 (G:=G) (cl:=cl) (W:=W) (r:=lbE n q a4 c5 x0 d6 d7 d8 (some (.int t.n)) (some (.str t.one)) (some (.str t.other)) (some (mo t.m)) (some (.ref w.2)) (some (.ref u.2))) (h:=h3) rfl rfl rfl (k _ _ (hP w hw)) (k _ _ (hP u hu)) cw le2
      exact⟨_,rfl,.inl ⟨_,h4,e4,kp3.trans k4,_,_,rfl⟩⟩
     |j+2,hd=>cases hd)
     W 0 (lbE n q a4 c5 x0 d6 d7 d8 (some (.int t.n)) (some (.str t.one)) (some (.str t.other)) (some (mo t.m)) d13 d14) h2 ⟨Kp.refl _,_,_,rfl⟩ (Nat.zero_le _) (by simp;omega) with ⟨r',h3,ef,kp3,d13',d14',rfl⟩|⟨d,h3,ef,hf⟩
    ·refine⟨lbE n q a4 c5 x0 d6 d7 d8 (some (.int t.n)) (some (.str t.one)) (some (.str t.other)) (some (mo t.m)) d13' d14',h3,?_,kp.trans (kp2.trans kp3),_,_,_,_,_,_,rfl⟩
     rw[tiL,xssNx s1,xssNx (r':=lbE n q a4 c5 x0 d6 d7 d8 (some (.int t.n)) (some (.str t.one)) (some (.str t.other)) (some (mo t.m)) d13' d14') (h':=h3) (by
      rw[wz9 (h':=h') (by simp only[evCmp,evVar,List.getElem?_cons_succ,ge0,jze,i1,decide_eq_true m1]),xssNx (r':=lbE n q a4 c5 x0 d6 d7 d8 (some (.int t.n)) (some (.str t.one)) (some (.str t.other)) (some (mo t.m)) d13' d14') (h':=h3) (by
       rw[qzj,e0]
       simp only[nxOk,jze,forDR]
       exact ef),jzo]),jzo]
    ·exact hf.elim
   ·refine⟨lbE n q a4 c5 x0 d6 d7 d8 (some (.int t.n)) (some (.str t.one)) (some (.str t.other)) (some (mo t.m)) d13 d14,h',?_,kp,_,_,_,_,_,_,rfl⟩
    rw[tiL,xssNx s1,xssNx (r':=lbE n q a4 c5 x0 d6 d7 d8 (some (.int t.n)) (some (.str t.one)) (some (.str t.other)) (some (mo t.m)) d13 d14) (h':=h') (by
     rw[jzT (h':=h') (by simp only[evCmp,evVar,List.getElem?_cons_succ,ge0,jze,i1,decide_eq_false m1]),jzo]),jzo])
  W 0 (lbE n q a4 c5 x0 d6 d7 d8 d9 d10 d11 d12 d13 d14) h ⟨Kp.refl _,_,_,_,_,_,_,rfl⟩ (Nat.zero_le _) (by rw[List.length_map];have:=Q.len;omega) with ⟨r',h',ef,kp,d9',d10',d11',d12',d13',d14',rfl⟩|⟨d,h',ef,hf⟩
 ·exact⟨h',d9',d10',d11',d12',d13',d14',ef,kp⟩
 ·exact hf.elim
end
structure C12 (cl:Cl)(ns:List Int):Prop where
 draws:Drw cl 8 ns
 names:∀(h:Hh)(dr:Nat)(row:List Int),Row h dr row->row.length=18->∃(h':Hh)(p:Nat)(l:List Str),cl 12 [.ref dr] h=.ok (.ref p) h'/\Kp h h'/\lstAt h' p=some (l.map D.str)/\0<l.length/\l.length<=12
 web:∀(h:Hh),lstAt h 0=some (ns.map D.int)->∃(h':Hh)(p:Nat)(ts:List Tie),cl 13 [.ref 0] h=.ok (.ref p) h'/\Kp h h'/\lstAt h' p=some (ts.map Tie.d)/\Ties ts
 chains:∀(ts:List Tie)(Q:Ties ts)(k:Nat)(h:Hh)(x0:Str),lstAt h k=some (ts.map Tie.d)->∃h2 P,cl 7 [.ref k,.str x0] h=.ok (.ref h.length) h2/\Kp h h2/\h2[h.length]? =some (.dct (chD P))/\(P.map λe=>e.1)=cfr x0 (stps ts Q x0)/\∀e∈P,h.length<=e.2/\h2[e.2]? =some (.lst (e.1.2.1.map D.int))
 endd:∀(t:Tie)(x:Str)(h:Hh),cl 14 [t.d,.str x] h=.ok (enD t x) h
 nums:∀(h:Hh)(c:Nat)(l:List Int),lstAt h c=some (l.map D.int)->l.length<=1000->cl 15 [.ref c] h=.ok (.bl true) h
 samel:∀(a b:Nat)(ts:List Tie)(h:Hh),lstAt h a=some (ts.map Tie.d)->lstAt h b=some (ts.map Tie.d)->ts.length<=1000->cl 11 [.ref a,.ref b] h=.ok (.bl true) h
 again:∀(ts:List Tie)(Q:Ties ts)(x0:Str)(a4 c5:Nat)(h:Hh)(P:List Pe),(P.map λe=>e.1)=cfr x0 (stps ts Q x0)->h[c5]? =some (.dct (chD P))->(∀e∈P,h[e.2]? =some (.lst (e.1.2.1.map D.int))/\e.2≠a4)->h[a4]? =some (.lst (ts.map Tie.d))->∃h',cl 16 [.ref a4,.str x0,.ref c5] h=.ok (.bl true) h'
theorem vzy{ts:List Tie}(Q:Ties ts)(x0:Str):((cfr x0 (stps ts Q x0)).map λe=>e.1).Nodup/\(cfr x0 (stps ts Q x0)).length<=40/\(∀e∈cfr x0 (stps ts Q x0),e.2.1.length<=100)/\(∀e∈cfr x0 (stps ts Q x0),∀u∈cfr x0 (stps ts Q x0),e.2.1=u.2.1->e.1=u.1):=by
 have pu:=(jzV Q).1
 have g:=wzS ts Q x0
 have hu:(ordT ts Q).length<=16:=by rw[pu.length_eq];exact Q.len
 have gl:=g.len hu
 have nd:((cfr x0 (stps ts Q x0)).map λe=>e.1).Nodup:=by rw[jzM];exact g.nd
 refine⟨nd,by rw[zzY];omega,λe he=>by have:=(vzx Q pu g e he).2.1;omega,λe he u hu z=>?_⟩
 have m:∀e∈cfr x0 (stps ts Q x0),e.1∈rch x0 (stps ts Q x0):=λe he=>by rw[<- jzM];exact List.mem_map.mpr ⟨e,he,rfl⟩
 exact zzV Q pu g (m e he) (m u hu) (by unfold chn;rw[zzn nd he,zzn nd hu];exact z)
abbrev l12:Ss:=(.cons (.asg (.nm 1) (.call 13 (.cons (.var 0) .nil))) (.cons (.asg (.nm 2) (.call 12 (.cons (.call 8 (.cons (.var 0) (.cons (.int 0) (.cons (.int 18) .nil)))) .nil))) (.cons (.asg (.nm 3) (.ix (.var 2) (.bin .mod (.ix (.call 8 (.cons (.var 0) (.cons (.int 20) (.cons (.int 1) .nil)))) (.int 0)) (.blt .len (.cons (.var 2) .nil))))) (.cons (.asg (.nm 4) (.blt .list (.cons (.var 1) .nil))) (.cons (.asg (.nm 5) (.call 7 (.cons (.var 4) (.cons (.var 3) .nil)))) (.cons (.iff (.or (.not (.call 11 (.cons (.var 4) (.cons (.var 1) .nil)))) (.or (.not (.blt .isinst (.cons (.var 5) (.cons (.ty .dict) .nil)))) (.cmp .notin (.var 3) (.var 5)))) (.cons (.ret (.bl false)) .nil) .nil) (.cons (.forr (.tp [6,7]) (.itz (.var 5)) tlL) (.cons (.forr (.tp [9,10,11,12]) (.sq (.var 1)) tiL) (.cons (.ret (.call 16 (.cons (.var 4) (.cons (.var 3) (.cons (.var 5) .nil))))) .nil)))))))))
section
variable {G:Gs}{cl:Cl}{W:Nat}
theorem law12_ok(hW:2000<=W){ns:List Int}(C:C12 cl ns):∃h',(xss G cl W l12 [some (.ref 0),none,none,none,none,none,none,none,none,none,none,none,none,none,none] [O.ro (ns.map D.int)]).bind endD=.ok (.bl true) h':=by
 have z0:lstAt [O.ro (List.map D.int ns)] 0=some (ns.map D.int):=rfl
 generalize [O.ro (List.map D.int ns)]=h0 at z0⊢
 obtain⟨h1,n,ts,e1,k1,hn1,Q⟩:=C.web h0 z0
 obtain⟨row,r1,r2,e2⟩:=C.draws.dr 0 18 h1 (by decide) (by decide) (by decide) (k1.lst z0)
 have e2':cl 8 [.ref 0,.int 0,.int 18] h1=_:=e2
 have k2:Kp h1 (h1++ [.lst (row.map D.int)]):=Kp.app _ _
 have R1:Row (h1++ [.lst (row.map D.int)]) h1.length row:=⟨jzx _ _,r2⟩
 generalize h1++ [O.lst (row.map D.int)]=h2 at e2' k2 R1
 obtain⟨h3,q,l,e3,k3,hq,hl0,hl12⟩:=C.names h2 h1.length row R1 r1
 have k03:Kp h0 h3:=k1.trans (k2.trans k3)
 obtain⟨d,d1,d2,e4⟩:=C.draws.dr 20 1 h3 (by decide) (by decide) (by decide) (k03.lst z0)
 have e4':cl 8 [.ref 0,.int 20,.int 1] h3=_:=e4
 have k4:Kp h3 (h3++ [.lst (d.map D.int)]):=Kp.app _ _
 have R2:Row (h3++ [.lst (d.map D.int)]) h3.length d:=⟨jzx _ _,d2⟩
 generalize h3++ [O.lst (d.map D.int)]=h4 at e4' k4 R2
 generalize h3.length=dr at e4' R2
 have i0:ixD (.ref dr) (.int 0) h4=.ok (.int (Row.R d 0)) h4:=R2.ix (Kp.refl _) 0 (by omega)
 have hl0':(0:Int)<l.length:=by omega
 obtain⟨x0,_,ex0⟩:=atStr (l:=l) (i:=Row.R d 0%(l.length:Int)) (Int.emod_nonneg _ (by omega)) (Int.emod_lt_of_pos _ hl0')
 have s3:ev G cl (.ix (.var 2) (.bin .mod (.ix (.call 8 (.cons (.var 0) (.cons (.int 20) (.cons (.int 1) .nil)))) (.int 0)) (.blt .len (.cons (.var 2) .nil)))) [some (.ref 0),some (.ref n),some (.ref q),none,none,none,none,none,none,none,none,none,none,none,none] h3=.ok (.str x0) h4:=by
  have el:=evLen (G:=G) (cl:=cl) (i:=2) (r:= [some (.ref 0),some (.ref n),some (.ref q),none,none,none,none,none,none,none,none,none,none,none,none]) rfl (k4.lst hq)
  rw[List.length_map] at el
  refine evIxV (x:=.ref q) (y:=.int (Row.R d 0%(l.length:Int))) rfl (jzB (x:=.int (Row.R d 0)) (h1:=h4) ?_ el (bMod _ hl0')) (by rw[iRef _ _ (k4.lst hq),ex0])
  simp only[evIx,jzE,jzj,jzp,evVar,evInt,ge0,jze,e4',nxOk,i0]
 have hn4:lstAt h4 n=some (ts.map Tie.d):=(k2.trans (k3.trans k4)).lst hn1
 clear i0 ex0 R2 e4 e2 R1
 have k5:Kp h4 (h4++ [.lst (ts.map Tie.d)]):=Kp.app _ _
 have a5:(h4++ [.lst (ts.map Tie.d)])[h4.length]? =some (.lst (ts.map Tie.d)):=by simp
 have s4:ev G cl (.blt .list (.cons (.var 1) .nil)) [some (.ref 0),some (.ref n),some (.ref q),some (.str x0),none,none,none,none,none,none,none,none,none,none,none] h4=.ok (.ref h4.length) (h4++ [.lst (ts.map Tie.d)]):=by
  simp only[evBlt,jzj,jzp,evVar,List.getElem?_cons_succ,ge0,jze,bList,sRef,hn4]
 generalize h4++ [O.lst (ts.map Tie.d)]=h5 at k5 a5 s4
 generalize h4.length=a4 at a5 s4
 have hn5:=k5.lst hn4
 obtain⟨h6,P,e6,k6,p6,eP,hP⟩:=C.chains ts Q a4 h5 x0 (jzt a5)
 have l5:a4<h5.length:=(List.getElem?_eq_some_iff.mp a5).1
 obtain⟨nd,cl40,c100,cin⟩:=vzy Q x0
 have pu:=(jzV Q).1
 have g:=wzS ts Q x0
 have cl':=chn_last Q pu g
 have tb:∀t∈ts,_:=λt ht=>tie_both Q x0 (t:=t) ht
 have m0:x0∈(cfr x0 (stps ts Q x0)).map λe=>e.1:=by rw[jzM];simp[rch]
 unfold chn at cl' tb
 have ag:=λa4 c5 h P=>C.again ts Q x0 a4 c5 h P
 rw[<- jzM] at cl'
 have tb':∀t∈ts,(t.one∈((cfr x0 (stps ts Q x0)).map λe=>e.1)↔t.other∈((cfr x0 (stps ts Q x0)).map λe=>e.1))/\(t.one∈((cfr x0 (stps ts Q x0)).map λe=>e.1)->LE2 (lkc (cfr x0 (stps ts Q x0)) t.other).1 ((lkc (cfr x0 (stps ts Q x0)) t.one).1++ [t.n])/\LE2 (lkc (cfr x0 (stps ts Q x0)) t.one).1 ((lkc (cfr x0 (stps ts Q x0)) t.other).1++ [t.n])):=λt ht=>by rw[jzM];exact tb t ht
 clear tb
 generalize cfr x0 (stps ts Q x0)=c at eP nd cl40 c100 cin cl' tb' m0 ag
 have sm:=C.samel a4 n ts h6 (k6.lst (jzt a5)) (k6.lst hn5) (by have:=Q.len;omega)
 have dd:=isDct p6
 have nn:=cNotA x0 (jzO p6)
 rw[chD_in eP,decide_eq_true m0] at nn
 have s6:xs G cl W (.iff (.or (.not (.call 11 (.cons (.var 4) (.cons (.var 1) .nil)))) (.or (.not (.blt .isinst (.cons (.var 5) (.cons (.ty .dict) .nil)))) (.cmp .notin (.var 3) (.var 5)))) (.cons (.ret (.bl false)) .nil) .nil) (lbE n q a4 h5.length x0 none none none none none none none none none) h6=.ok (.nx (lbE n q a4 h5.length x0 none none none none none none none none none)) h6:=by
  have dd':isinL (.ref h5.length) (.ty Ty.dict.nm) h6=.ok (.bl true) h6:=dd
  simp only[xsIff,evOr,evNot,jzE,evBlt,jzj,jzp,evVar,evTy,evCmp,List.getElem?_cons_succ,ge0,jze,sm,nxOk,tBl,Bool.not_true,bIs,dd',nn,jzo]
 have l6:h5.length<h6.length:=(List.getElem?_eq_some_iff.mp p6).1
 have hz5:(h6.set h5.length (.dcz (chD P)))[h5.length]? =some (.dcz (chD P)):=List.getElem?_set_self l6
 have hzo:∀j o,h6[j]? =some o->j≠h5.length->(h6.set h5.length (.dcz (chD P)))[j]? =some o:=λj o e ne=>by rw[List.getElem?_set_ne (Ne.symm ne)];exact e
 have hP1:∀e∈P,e.2≠h5.length:=λe he z=>by have:=(hP e he).2;rw[z,p6] at this;cases this
 have hn6:lstAt (h6.set h5.length (.dcz (chD P))) n=some (ts.map Tie.d):=zzl _ p6 (k6.lst hn5)
 obtain⟨h7,d6,d7,d8,e7,k7⟩:=tlL_ok (G:=G) (cl:=cl) (W:=W) Q (x0:=x0) (n:=n) (q:=q) (a4:=a4) (c5:=h5.length) (h:=h6.set h5.length (.dcz (chD P))) (P:=P) (c:=c) nd c100 eP hn6 hz5 (λe he=>hzo _ _ (hP e he).2 (hP1 e he)) cl'.1 cl'.2 C.endd C.nums none none none none none none none none none
 have s7:xs G cl W (.forr (.tp [6,7]) (.itz (.var 5)) tlL) (lbE n q a4 h5.length x0 none none none none none none none none none) h6=.ok (.nx (lbE n q a4 h5.length x0 d6 d7 d8 none none none none none none)) (h7.set h5.length (.dct (chD P))):=by
  rw[xsForZ]
  simp only[evVar,List.getElem?_cons_succ,ge0,nxOk,jze,p6,e7,k7 _ _ hz5]
 have k67:Kp h6 (h7.set h5.length (.dct (chD P))):=λj o e=>by
  by_cases z:j=h5.length
  ·subst z
   rw[p6] at e
   cases e
   exact List.getElem?_set_self (List.getElem?_eq_some_iff.mp (k7 _ _ hz5)).1
  ·rw[List.getElem?_set_ne (Ne.symm z)]
   exact k7 _ _ (hzo _ _ e z)
 generalize h7.set h5.length (.dct (chD P))=h8 at s7 k67
 obtain⟨h9,d9,d10,d11,d12,d13,d14,e9,k9⟩:=tiL_ok (G:=G) (cl:=cl) (W:=W) hW Q (x0:=x0) (n:=n) (q:=q) (a4:=a4) (c5:=h5.length) (h:=h8) (P:=P) (c:=c) c100 eP ((k6.trans k67).lst hn5) (k67 _ _ p6) (λe he=>k67 _ _ (hP e he).2) tb' d6 d7 d8 none none none none none none
 have k69:=k67.trans k9
 obtain⟨ha,ea⟩:=ag a4 h5.length h9 P eP (k69 _ _ p6) (λe he=>⟨k69 _ _ (hP e he).2,by have:=(hP e he).1;omega⟩) ((k6.trans k69) _ _ a5)
 refine⟨ha,?_⟩
 rw[l12,xssNx (r':= [some (.ref 0),some (.ref n),none,none,none,none,none,none,none,none,none,none,none,none,none]) (h':=h1) (jzU (by simp only[jzE,jzj,jzp,evVar,ge0,jze,e1,nxOk])),
  xssNx (r':= [some (.ref 0),some (.ref n),some (.ref q),none,none,none,none,none,none,none,none,none,none,none,none]) (h':=h3) (jzU (by simp only[jzE,jzj,jzp,evVar,evInt,List.getElem?_cons_succ,ge0,jze,e2',e3,nxOk])),
  xssNx (r':= [some (.ref 0),some (.ref n),some (.ref q),some (.str x0),none,none,none,none,none,none,none,none,none,none,none]) (h':=h4) (jzU s3),
  xssNx (r':= [some (.ref 0),some (.ref n),some (.ref q),some (.str x0),some (.ref a4),none,none,none,none,none,none,none,none,none,none]) (h':=h5) (jzU s4),
  xssNx (r':=lbE n q a4 h5.length x0 none none none none none none none none none) (h':=h6) (jzU (by simp only[jzE,jzj,jzp,evVar,List.getElem?_cons_succ,ge0,jze,e6,nxOk])),
  xssNx s6,xssNx s7,xssNx (r':=lbE n q a4 h5.length x0 d6 d7 d8 d9 d10 d11 d12 d13 d14) (h':=h9) (by
   rw[qzj]
   simp only[evVar,List.getElem?_cons_succ,ge0,jze,nxOk,forDR]
   exact e9),
  xssRt (d:=.bl true) (h':=ha) (by simp only[xsRet,jzE,jzj,jzp,evVar,List.getElem?_cons_succ,ge0,jze,ea,nxOk])]
 rfl
end
end Ng
end
section
namespace Pk12
open PySem L2 Ng
def top(i:Nat):PySem.Stmt:=PySem.Challenge.pw_nightglass_k12_told_chains.main.body.getD i (.Pass ⟨0,0,0,0⟩)
def mtop(i k:Nat):PySem.Stmt:=inClass (top i) k
def G:Gs:=⟨("turned"::"turn_back"::"moved"::"leading"::"back"::"leads"::"steps"::"chains"::"_law_draws"::"_law_far"::"_law_motion"::"_law_same"::"_law_names"::"_law_web"::"_law_end"::"_law_numbers"::"_law_again"::"law":: []:List Str),[("ORIGIN",.tup [.int (0),.int (0)]),("TURNS",.tup [.tup [.int (1),.int (0),.int (0),.int (1)],.tup [.int (0),.int (-1),.int (1),.int (0)],.tup [.int (-1),.int (0),.int (0),.int (-1)],.tup [.int (0),.int (1),.int (-1),.int (0)],.tup [.int (-1),.int (0),.int (0),.int (1)],.tup [.int (0),.int (-1),.int (-1),.int (0)],.tup [.int (1),.int (0),.int (0),.int (-1)],.tup [.int (0),.int (1),.int (1),.int (0)]]),("MIRRORED",.int (4))],[],[],[],[],[],[]⟩
theorem gc0:G.csts[0]? =some (("ORIGIN",.tup [.int (0),.int (0)]):Str×D):=rfl
theorem gc1:G.csts[1]? =some (("TURNS",.tup [.tup [.int (1),.int (0),.int (0),.int (1)],.tup [.int (0),.int (-1),.int (1),.int (0)],.tup [.int (-1),.int (0),.int (0),.int (-1)],.tup [.int (0),.int (1),.int (-1),.int (0)],.tup [.int (-1),.int (0),.int (0),.int (1)],.tup [.int (0),.int (-1),.int (-1),.int (0)],.tup [.int (1),.int (0),.int (0),.int (-1)],.tup [.int (0),.int (1),.int (1),.int (0)]]):Str×D):=rfl
theorem gc2:G.csts[2]? =some (("MIRRORED",.int (4)):Str×D):=rfl
def b0:Ss:=(.cons (.asg (.tp [2,3]) (.var 1)) (.cons (.asg (.tp [4,5,6,7]) (.ix (.gc 1) (.var 0))) (.cons (.ret (.tup (.cons (.bin .add (.bin .mul (.var 4) (.var 2)) (.bin .mul (.var 5) (.var 3))) (.cons (.bin .add (.bin .mul (.var 6) (.var 2)) (.bin .mul (.var 7) (.var 3))) .nil)))) .nil)))
def b1:Ss:=(.cons (.ret (.ite (.cmp .ge (.var 0) (.gc 2)) (.var 0) (.bin .mod (.neg (.var 0)) (.int 4)))) .nil)
def b2:Ss:=(.cons (.asg (.tp [2,3,4]) (.var 0)) (.cons (.asg (.tp [5,6]) (.call 0 (.cons (.var 2) (.cons (.var 1) .nil)))) (.cons (.ret (.tup (.cons (.bin .add (.var 5) (.var 3)) (.cons (.bin .add (.var 6) (.var 4)) .nil)))) .nil)))
def b3:Ss:=(.cons (.asg (.tp [3,4]) (.call 0 (.cons (.var 0) (.cons (.var 1) .nil)))) (.cons (.asg (.tp [5,6]) (.var 2)) (.cons (.ret (.tup (.cons (.var 0) (.cons (.bin .sub (.var 5) (.var 3)) (.cons (.bin .sub (.var 6) (.var 4)) .nil))))) .nil)))
def b4:Ss:=(.cons (.ret (.call 3 (.cons (.call 1 (.cons (.ix (.var 0) (.int 0)) .nil)) (.cons (.call 2 (.cons (.var 0) (.cons (.gc 0) .nil))) (.cons (.gc 0) .nil))))) .nil)
def b5:Ss:=(.cons (.asc 1 (.dcomp (.tp [0,1,2,3]) (.var 0) (.nm 4) (.tup (.cons (.var 1) (.cons (.var 2) .nil))) (.var 4) .dnw ["number","one","other","motion","name"] [])) (.cons (.forr (.tp [2,3,4,5]) (.sq (.blt .sorted (.cons (.var 0) .nil))) (.cons (.stx (.ix (.var 1) (.var 3)) (.var 2) (.tup (.cons (.var 4) (.cons (.var 5) .nil)))) (.cons (.stx (.ix (.var 1) (.var 4)) (.var 2) (.tup (.cons (.var 3) (.cons (.call 4 (.cons (.var 5) .nil)) .nil)))) .nil))) (.cons (.ret (.var 1)) .nil)))
def b6:Ss:=(.cons (.asg (.nm 2) (.call 5 (.cons (.var 0) .nil))) (.cons (.asg (.nm 3) (.sng (.var 1))) (.cons (.asg (.nm 4) (.lst .nil)) (.cons (.asg (.nm 5) (.lst (.cons (.var 1) .nil))) (.cons (.whl (.var 5) (.cons (.asg (.nm 6) (.lst .nil)) (.cons (.forr (.nm 7) (.sq (.var 5)) (.cons (.forr (.tn 8 9 10) (.its (.get2 (.var 2) (.var 7) .dnw)) (.cons (.iff (.nis (.var 9) (.var 3)) (.cons (.ex (.sad (.var 3) (.var 9))) (.cons (.ex (.app (.var 4) (.tup (.cons (.var 7) (.cons (.var 8) (.cons (.var 9) (.cons (.var 10) .nil))))))) (.cons (.ex (.app (.var 6) (.var 9))) .nil))) .nil) .nil)) .nil)) (.cons (.asg (.nm 5) (.var 6)) .nil)))) (.cons (.ret (.var 4)) .nil))))))
def b7:Ss:=(.cons (.asg (.nm 2) (.dk1 (.var 1) (.lst .nil))) (.cons (.forr (.tp [3,4,5,6]) (.sq (.call 6 (.cons (.var 0) (.cons (.var 1) .nil)))) (.cons (.stx (.var 2) (.var 5) (.bin .add (.ix (.var 2) (.var 3)) (.lst (.cons (.var 4) .nil)))) .nil)) (.cons (.ret (.var 2)) .nil)))
def b8:Ss:=(.cons (.asg (.nm 3) (.bin .add (.bin .mul (.int 7) (.var 1)) (.int 1))) (.cons (.iff (.cmp .lt (.var 1) (.blt .len (.cons (.var 0) .nil))) (.cons (.asg (.nm 3) (.ix (.var 0) (.var 1))) .nil) (.cons (.iff (.cmp .gt (.blt .len (.cons (.var 0) .nil)) (.int 0)) (.cons (.asg (.nm 3) (.bin .add (.bin .add (.bin .mod (.ix (.var 0) (.bin .mod (.var 1) (.blt .len (.cons (.var 0) .nil)))) (.int 999983)) (.bin .mul (.bin .mul (.var 1) (.var 1)) (.int 97))) (.int 1))) .nil) .nil) .nil)) (.cons (.asg (.nm 4) (.bin .add (.bin .add (.bin .mod (.var 3) (.int 999983)) (.bin .mul (.int 31) (.var 1))) (.int 5))) (.cons (.asg (.nm 5) (.lst .nil)) (.cons (.iff (.cmp .ge (.var 3) (.bin .pow (.int 10) (.int 18))) (.cons (.whl (.and (.cmp .gt (.var 3) (.int 0)) (.cmp .lt (.blt .len (.cons (.var 5) .nil)) (.var 2))) (.cons (.ex (.app (.var 5) (.bin .mod (.var 3) (.int 1013)))) (.cons (.asg (.nm 3) (.bin .fdiv (.var 3) (.int 1013))) .nil))) .nil) .nil) (.cons (.whl (.cmp .lt (.blt .len (.cons (.var 5) .nil)) (.var 2)) (.cons (.asg (.nm 6) (.bin .add (.blt .len (.cons (.var 5) .nil)) (.int 1))) (.cons (.asg (.nm 4) (.bin .mod (.bin .add (.bin .add (.bin .mul (.var 4) (.int 48271)) (.bin .mul (.bin .mul (.var 6) (.var 6)) (.int 6133))) (.int 17)) (.int 2147483647))) (.cons (.ex (.app (.var 5) (.bin .mod (.bin .mod (.bin .mul (.bin .mod (.var 4) (.int 65521)) (.bin .add (.bin .mod (.bin .fdiv (.var 4) (.int 65521)) (.int 32749)) (.int 1))) (.int 1000003)) (.int 1013)))) .nil)))) (.cons (.ret (.var 5)) .nil)))))))
def b9:Ss:=(.cons (.iff (.cmp .lt (.bin .mod (.var 0) (.int 5)) (.int 3)) (.cons (.ret (.bin .sub (.bin .mod (.bin .fdiv (.var 0) (.int 5)) (.int 13)) (.int 6))) .nil) .nil) (.cons (.iff (.cmp .eq (.bin .mod (.var 0) (.int 5)) (.int 3)) (.cons (.ret (.bin .sub (.bin .add (.bin .mul (.var 0) (.int 1013)) (.var 1)) (.int 513000))) .nil) .nil) (.cons (.ret (.bin .add (.bin .mul (.bin .sub (.var 1) (.int 506)) (.bin .pow (.int 10) (.int 27))) (.var 0))) .nil)))
def b10:Ss:=(.cons (.ret (.tup (.cons (.bin .mod (.ix (.var 0) (.var 1)) (.int 8)) (.cons (.call 9 (.cons (.ix (.var 0) (.bin .add (.var 1) (.int 1))) (.cons (.ix (.var 0) (.bin .add (.var 1) (.int 2))) .nil))) (.cons (.call 9 (.cons (.ix (.var 0) (.bin .add (.var 1) (.int 3))) (.cons (.ix (.var 0) (.bin .add (.var 1) (.int 4))) .nil))) .nil))))) .nil)
def b11:Ss:=(.cons (.iff (.blt .isinst (.cons (.var 1) (.cons (.tup (.cons (.ty .tuple) (.cons (.ty .list) .nil))) .nil))) (.cons (.iff (.or (.cmp .ne (.blt .isinst (.cons (.var 1) (.cons (.ty .tuple) .nil))) (.blt .isinst (.cons (.var 0) (.cons (.ty .tuple) .nil)))) (.cmp .ne (.blt .isinst (.cons (.var 1) (.cons (.ty .list) .nil))) (.blt .isinst (.cons (.var 0) (.cons (.ty .list) .nil))))) (.cons (.ret (.bl false)) .nil) .nil) (.cons (.iff (.cmp .ne (.blt .len (.cons (.var 0) .nil)) (.blt .len (.cons (.var 1) .nil))) (.cons (.ret (.bl false)) .nil) .nil) (.cons (.forr (.nm 2) (.r1 (.blt .len (.cons (.var 1) .nil))) (.cons (.iff (.not (.call 11 (.cons (.ix (.var 0) (.var 2)) (.cons (.ix (.var 1) (.var 2)) .nil)))) (.cons (.ret (.bl false)) .nil) .nil) .nil)) (.cons (.ret (.bl true)) .nil)))) .nil) (.cons (.iff (.cmp .is (.var 1) .non) (.cons (.ret (.cmp .is (.var 0) .non)) .nil) .nil) (.cons (.iff (.or (.blt .isinst (.cons (.var 1) (.cons (.ty .bool) .nil))) (.blt .isinst (.cons (.var 0) (.cons (.ty .bool) .nil)))) (.cons (.ret (.and (.blt .isinst (.cons (.var 1) (.cons (.ty .bool) .nil))) (.and (.blt .isinst (.cons (.var 0) (.cons (.ty .bool) .nil))) (.cmp .eq (.var 0) (.var 1))))) .nil) .nil) (.cons (.iff (.blt .isinst (.cons (.var 1) (.cons (.ty .int) .nil))) (.cons (.ret (.and (.blt .isinst (.cons (.var 0) (.cons (.ty .int) .nil))) (.cmp .eq (.var 0) (.var 1)))) .nil) .nil) (.cons (.ret (.and (.blt .isinst (.cons (.var 0) (.cons (.ty .str) .nil))) (.cmp .eq (.var 0) (.var 1)))) .nil)))))
def b12:Ss:=(.cons (.asg (.nm 1) (.str "abcdefghijklmnopqrstuvwxyz")) (.cons (.asg (.nm 2) (.lst .nil)) (.cons (.forr (.nm 3) (.r1 (.ix (.lst (.cons (.int 2) (.cons (.int 3) (.cons (.int 3) (.cons (.int 4) (.cons (.int 4) (.cons (.int 5) (.cons (.int 6) (.cons (.int 7) (.cons (.int 12) (.cons (.int 1) .nil))))))))))) (.bin .mod (.ix (.var 0) (.int 1)) (.int 10)))) (.cons (.asg (.nm 4) (.ix (.var 1) (.bin .mod (.bin .add (.bin .mul (.var 3) (.ix (.lst (.cons (.int 1) (.cons (.int 3) (.cons (.int 5) (.cons (.int 7) (.cons (.int 9) (.cons (.int 11) .nil))))))) (.bin .mod (.ix (.var 0) (.int 2)) (.int 6)))) (.ix (.var 0) (.int 3))) (.int 26)))) (.cons (.asg (.nm 5) (.bin .mod (.bin .fdiv (.ix (.var 0) (.int 4)) (.int 4)) (.int 8))) (.cons (.iff (.cmp .eq (.bin .mod (.ix (.var 0) (.int 4)) (.int 2)) (.int 1)) (.cons (.asg (.nm 5) (.bin .mod (.ix (.var 0) (.bin .add (.int 5) (.var 3))) (.int 8))) .nil) .nil) (.cons (.asg (.nm 6) (.join "" (.comp (.nm 0) .r1 (.cons (.var 5) .nil) .nil (.ix (.var 1) (.bin .mod (.bin .add (.ix (.var 2) (.int 3)) (.bin .mul (.var 0) (.ix (.var 2) (.int 4)))) (.int 26))) ["_law_at","_law_letters","_law_d"] [1,0]))) (.cons (.iff (.cmp .eq (.bin .mod (.bin .fdiv (.ix (.var 0) (.int 4)) (.int 2)) (.int 2)) (.int 1)) (.cons (.ex (.app (.var 2) (.bin .add (.var 4) (.var 6)))) .nil) (.cons (.ex (.app (.var 2) (.bin .add (.var 6) (.var 4)))) .nil)) .nil)))))) (.cons (.ret (.var 2)) .nil))))
def b13:Ss:=(.cons (.asg (.nm 1) (.call 8 (.cons (.var 0) (.cons (.int 0) (.cons (.int 18) .nil))))) (.cons (.asg (.nm 2) (.call 12 (.cons (.var 1) .nil))) (.cons (.asg (.nm 3) (.lst .nil)) (.cons (.forr (.nm 4) (.r1 (.bin .mod (.ix (.var 1) (.int 0)) (.int 17))) (.cons (.asg (.nm 5) (.call 8 (.cons (.var 0) (.cons (.bin .add (.int 1) (.var 4)) (.cons (.int 8) .nil))))) (.cons (.asg (.nm 6) (.ix (.var 2) (.bin .mod (.ix (.var 5) (.int 0)) (.blt .len (.cons (.var 2) .nil))))) (.cons (.asg (.nm 7) (.ix (.var 2) (.bin .mod (.ix (.var 5) (.int 1)) (.blt .len (.cons (.var 2) .nil))))) (.cons (.iff (.cmp .eq (.bin .mod (.ix (.var 5) (.int 7)) (.int 3)) (.int 0)) (.cons (.asg (.nm 6) (.ix (.var 2) (.bin .mod (.var 4) (.blt .len (.cons (.var 2) .nil))))) (.cons (.asg (.nm 7) (.ix (.var 2) (.bin .mod (.bin .add (.var 4) (.int 1)) (.blt .len (.cons (.var 2) .nil))))) .nil)) .nil) (.cons (.asg (.nm 8) (.bin .add (.int 1) (.bin .mod (.bin .add (.bin .mul (.var 4) (.ix (.lst (.cons (.int 1) (.cons (.int 5) (.cons (.int 100) (.cons (.int 1008) (.cons (.int 503) .nil)))))) (.bin .mod (.ix (.var 1) (.int 17)) (.int 5)))) (.ix (.var 1) (.int 16))) (.int 1009)))) (.cons (.iff (.cmp .ne (.var 6) (.var 7)) (.cons (.ex (.app (.var 3) (.tup (.cons (.var 8) (.cons (.var 6) (.cons (.var 7) (.cons (.call 10 (.cons (.var 5) (.cons (.int 2) .nil))) .nil))))))) .nil) .nil) .nil))))))) (.cons (.ret (.var 3)) .nil)))))
def b14:Ss:=(.cons (.iff (.cmp .eq (.ix (.var 0) (.int 1)) (.var 1)) (.cons (.ret (.ix (.var 0) (.int 2))) .nil) .nil) (.cons (.iff (.cmp .eq (.ix (.var 0) (.int 2)) (.var 1)) (.cons (.ret (.ix (.var 0) (.int 1))) .nil) .nil) (.cons (.ret .non) .nil)))
def b15:Ss:=(.cons (.iff (.not (.blt .isinst (.cons (.var 0) (.cons (.ty .list) .nil)))) (.cons (.ret (.bl false)) .nil) .nil) (.cons (.forr (.nm 1) (.sq (.var 0)) (.cons (.iff (.or (.not (.blt .isinst (.cons (.var 1) (.cons (.ty .int) .nil)))) (.blt .isinst (.cons (.var 1) (.cons (.ty .bool) .nil)))) (.cons (.ret (.bl false)) .nil) .nil) .nil)) (.cons (.ret (.bl true)) .nil)))
def b16:Ss:=(.cons (.asg (.nm 3) .dnw) (.cons (.forr (.nm 4) (.sq (.ldk (.var 2))) (.cons (.stx (.var 3) (.var 4) (.blt .list (.cons (.ix (.var 2) (.var 4)) .nil))) (.cons (.ex (.app (.ix (.var 2) (.var 4)) (.int 0))) .nil))) (.cons (.stx (.var 2) (.str "Zz") (.lst .nil)) (.cons (.asg (.nm 5) (.call 7 (.cons (.var 0) (.cons (.var 1) .nil)))) (.cons (.forr (.nm 4) (.sq (.ldk (.var 5))) (.cons (.iff (.or (.cmp .notin (.var 4) (.var 3)) (.not (.call 11 (.cons (.ix (.var 5) (.var 4)) (.cons (.ix (.var 3) (.var 4)) .nil))))) (.cons (.ret (.bl false)) .nil) .nil) .nil)) (.cons (.ret (.cmp .eq (.blt .len (.cons (.var 5) .nil)) (.blt .len (.cons (.var 3) .nil)))) .nil))))))
def b17:Ss:=(.cons (.asg (.nm 1) (.call 13 (.cons (.var 0) .nil))) (.cons (.asg (.nm 2) (.call 12 (.cons (.call 8 (.cons (.var 0) (.cons (.int 0) (.cons (.int 18) .nil)))) .nil))) (.cons (.asg (.nm 3) (.ix (.var 2) (.bin .mod (.ix (.call 8 (.cons (.var 0) (.cons (.int 20) (.cons (.int 1) .nil)))) (.int 0)) (.blt .len (.cons (.var 2) .nil))))) (.cons (.asg (.nm 4) (.blt .list (.cons (.var 1) .nil))) (.cons (.asg (.nm 5) (.call 7 (.cons (.var 4) (.cons (.var 3) .nil)))) (.cons (.iff (.or (.not (.call 11 (.cons (.var 4) (.cons (.var 1) .nil)))) (.or (.not (.blt .isinst (.cons (.var 5) (.cons (.ty .dict) .nil)))) (.cmp .notin (.var 3) (.var 5)))) (.cons (.ret (.bl false)) .nil) .nil) (.cons (.forr (.tp [6,7]) (.itz (.var 5)) (.cons (.iff (.or (.not (.blt .isinst (.cons (.var 6) (.cons (.ty .str) .nil)))) (.not (.call 15 (.cons (.var 7) .nil)))) (.cons (.ret (.bl false)) .nil) .nil) (.cons (.iff (.or (.cmp .eq (.var 6) (.var 3)) (.not (.var 7))) (.cons (.iff (.or (.cmp .ne (.var 6) (.var 3)) (.var 7)) (.cons (.ret (.bl false)) .nil) .nil) .nil) (.cons (.asc 8 (.comp (.nm 0) .sq (.cons (.var 1) .nil) (.cons (.cmp .eq (.ix (.var 0) (.int 0)) (.ix (.var 1) (.neg (.int 1)))) .nil) (.var 0) ["_law_tie","_law_chain"] [7])) (.cons (.iff (.or (.not (.var 8)) (.cmp .notin (.call 14 (.cons (.ix (.var 8) (.int 0)) (.cons (.var 6) .nil))) (.var 5))) (.cons (.ret (.bl false)) .nil) .nil) (.cons (.iff (.cmp .ne (.ix (.var 5) (.call 14 (.cons (.ix (.var 8) (.int 0)) (.cons (.var 6) .nil)))) (.slU (.var 7) (.neg (.int 1)))) (.cons (.ret (.bl false)) .nil) .nil) .nil)))) .nil))) (.cons (.forr (.tp [9,10,11,12]) (.sq (.var 1)) (.cons (.iff (.cmp .ne (.cmp .inn (.var 10) (.var 5)) (.cmp .inn (.var 11) (.var 5))) (.cons (.ret (.bl false)) .nil) .nil) (.cons (.iff (.cmp .inn (.var 10) (.var 5)) (.cons (.forr (.tp [13,14]) (.sq (.lst (.cons (.tup (.cons (.ix (.var 5) (.var 10)) (.cons (.ix (.var 5) (.var 11)) .nil))) (.cons (.tup (.cons (.ix (.var 5) (.var 11)) (.cons (.ix (.var 5) (.var 10)) .nil))) .nil)))) (.cons (.iff (.cmp .gt (.blt .len (.cons (.var 14) .nil)) (.bin .add (.blt .len (.cons (.var 13) .nil)) (.int 1))) (.cons (.ret (.bl false)) .nil) .nil) (.cons (.iff (.and (.cmp .eq (.blt .len (.cons (.var 14) .nil)) (.bin .add (.blt .len (.cons (.var 13) .nil)) (.int 1))) (.cmp .lt (.bin .add (.var 13) (.lst (.cons (.var 9) .nil))) (.var 14))) (.cons (.ret (.bl false)) .nil) .nil) .nil))) .nil) .nil) .nil))) (.cons (.ret (.call 16 (.cons (.var 4) (.cons (.var 3) (.cons (.var 5) .nil))))) .nil)))))))))
def T:Nat->Option Fc
 |0=>some ⟨2,8,b0⟩
 |1=>some ⟨1,1,b1⟩
 |2=>some ⟨2,7,b2⟩
 |3=>some ⟨3,7,b3⟩
 |4=>some ⟨1,1,b4⟩
 |5=>some ⟨1,6,b5⟩
 |6=>some ⟨2,11,b6⟩
 |7=>some ⟨2,7,b7⟩
 |8=>some ⟨3,7,b8⟩
 |9=>some ⟨2,2,b9⟩
 |10=>some ⟨2,2,b10⟩
 |11=>some ⟨2,3,b11⟩
 |12=>some ⟨1,7,b12⟩
 |13=>some ⟨1,9,b13⟩
 |14=>some ⟨2,2,b14⟩
 |15=>some ⟨1,2,b15⟩
 |16=>some ⟨3,6,b16⟩
 |17=>some ⟨1,15,b17⟩
 |_=>none
theorem sc0:FnScope ["turn","place","x","y","x_to_x","y_to_x","x_to_y","y_to_y"] ["turn","place"] (defScope (top 4)):=⟨rfl,rfl,rfl,by decide+kernel,rfl,by decide+kernel,by decide+kernel⟩
set_option maxHeartbeats 0 in
theorem ck0:SSs ["turn","place","x","y","x_to_x","y_to_x","x_to_y","y_to_y"] (defScope (top 4)) G b0 (defBody (top 4)):=(jzc (qzf (by decide+kernel) rfl (λ_=>rfl) (jza rfl (by decide+kernel))) (jzc (qzf (by decide+kernel) rfl (λ_=>rfl) (dE_ix (λ_ _=>rfl) (dE_gc gc1 (by decide+kernel)) (jza rfl (by decide+kernel)))) (jzc (jzr (jzR (jzb rfl (jzh (jzh (jza rfl (by decide+kernel)) (jza rfl (by decide+kernel))) (jzh (jza rfl (by decide+kernel)) (jza rfl (by decide+kernel)))) (jzb rfl (jzh (jzh (jza rfl (by decide+kernel)) (jza rfl (by decide+kernel))) (jzh (jza rfl (by decide+kernel)) (jza rfl (by decide+kernel)))) jzf)))) jzg)))
theorem sc1:FnScope ["turn"] ["turn"] (defScope (top 5)):=⟨rfl,rfl,rfl,by decide+kernel,rfl,by decide+kernel,by decide+kernel⟩
set_option maxHeartbeats 0 in
theorem ck1:SSs ["turn"] (defScope (top 5)) G b1 (defBody (top 5)):=(jzc (jzr (dE_ite (jzs rfl (jza rfl (by decide+kernel)) (dE_gc gc2 (by decide+kernel))) (jza rfl (by decide+kernel)) (jzh (zzN (jza rfl (by decide+kernel))) jzd))) jzg)
theorem sc2:FnScope ["motion","place","turn","right","up","x","y"] ["motion","place"] (defScope (top 6)):=⟨rfl,rfl,rfl,by decide+kernel,rfl,by decide+kernel,by decide+kernel⟩
set_option maxHeartbeats 0 in
theorem ck2:SSs ["motion","place","turn","right","up","x","y"] (defScope (top 6)) G b2 (defBody (top 6)):=(jzc (qzf (by decide+kernel) rfl (λ_=>rfl) (jza rfl (by decide+kernel))) (jzc (qzf (by decide+kernel) rfl (λ_=>rfl) (jzu rfl (by decide+kernel) (jzb rfl (jza rfl (by decide+kernel)) (jzb rfl (jza rfl (by decide+kernel)) jzf)))) (jzc (jzr (jzR (jzb rfl (jzh (jza rfl (by decide+kernel)) (jza rfl (by decide+kernel))) (jzb rfl (jzh (jza rfl (by decide+kernel)) (jza rfl (by decide+kernel))) jzf)))) jzg)))
theorem sc3:FnScope ["turn","place","goal","x","y","goal_x","goal_y"] ["turn","place","goal"] (defScope (top 7)):=⟨rfl,rfl,rfl,by decide+kernel,rfl,by decide+kernel,by decide+kernel⟩
set_option maxHeartbeats 0 in
theorem ck3:SSs ["turn","place","goal","x","y","goal_x","goal_y"] (defScope (top 7)) G b3 (defBody (top 7)):=(jzc (qzf (by decide+kernel) rfl (λ_=>rfl) (jzu rfl (by decide+kernel) (jzb rfl (jza rfl (by decide+kernel)) (jzb rfl (jza rfl (by decide+kernel)) jzf)))) (jzc (qzf (by decide+kernel) rfl (λ_=>rfl) (jza rfl (by decide+kernel))) (jzc (jzr (jzR (jzb rfl (jza rfl (by decide+kernel)) (jzb rfl (jzh (jza rfl (by decide+kernel)) (jza rfl (by decide+kernel))) (jzb rfl (jzh (jza rfl (by decide+kernel)) (jza rfl (by decide+kernel))) jzf))))) jzg)))
theorem sc4:FnScope ["motion"] ["motion"] (defScope (top 8)):=⟨rfl,rfl,rfl,by decide+kernel,rfl,by decide+kernel,by decide+kernel⟩
set_option maxHeartbeats 0 in
theorem ck4:SSs ["motion"] (defScope (top 8)) G b4 (defBody (top 8)):=(jzc (jzr (jzu rfl (by decide+kernel) (jzb rfl (jzu rfl (by decide+kernel) (jzb rfl (dE_ix (λ_ _=>rfl) (jza rfl (by decide+kernel)) jzd) jzf)) (jzb rfl (jzu rfl (by decide+kernel) (jzb rfl (jza rfl (by decide+kernel)) (jzb rfl (dE_gc gc0 (by decide+kernel)) jzf))) (jzb rfl (dE_gc gc0 (by decide+kernel)) jzf))))) jzg)
theorem sc5:FnScope ["ties","told","number","one","other","motion"] ["ties"] (defScope (top 10)):=⟨rfl,rfl,rfl,by decide+kernel,rfl,by decide+kernel,by decide+kernel⟩
set_option maxHeartbeats 0 in
theorem ck5:SSs ["ties","told","number","one","other","motion"] (defScope (top 10)) G b5 (defBody (top 10)):=(jzc (dS_ascD rfl (by decide+kernel) (by decide+kernel) (by decide+kernel) (zz4 (by decide+kernel)) rfl rfl (by decide+kernel) (by decide+kernel) (jza rfl (by decide+kernel)) (jzR (jzb rfl (jza rfl (by decide+kernel)) (jzb rfl (jza rfl (by decide+kernel)) jzf))) (jza rfl (by decide+kernel)) zzO) (jzc (jzX (by decide+kernel) (λ_ _=>rfl) (jzm (by decide+kernel) (jzb rfl (jza rfl (by decide+kernel)) jzf)) (jzc (wzC rfl (λ_ _=>rfl) (jzR (jzb rfl (jza rfl (by decide+kernel)) (jzb rfl (jza rfl (by decide+kernel)) jzf))) (dE_ix (λ_ _=>rfl) (jza rfl (by decide+kernel)) (jza rfl (by decide+kernel))) (jza rfl (by decide+kernel))) (jzc (wzC rfl (λ_ _=>rfl) (jzR (jzb rfl (jza rfl (by decide+kernel)) (jzb rfl (jzu rfl (by decide+kernel) (jzb rfl (jza rfl (by decide+kernel)) jzf)) jzf))) (dE_ix (λ_ _=>rfl) (jza rfl (by decide+kernel)) (jza rfl (by decide+kernel))) (jza rfl (by decide+kernel))) jzg))) (jzc (jzr (jza rfl (by decide+kernel))) jzg)))
theorem sc6:FnScope ["ties","start","led","reached","told","rim","next_rim","before","number","name","motion"] ["ties","start"] (defScope (top 11)):=⟨rfl,rfl,rfl,by decide+kernel,rfl,by decide+kernel,by decide+kernel⟩
set_option maxHeartbeats 0 in
theorem ck6:SSs ["ties","start","led","reached","told","rim","next_rim","before","number","name","motion"] (defScope (top 11)) G b6 (defBody (top 11)):=(jzc (jzk rfl (by decide+kernel) rfl (jzu rfl (by decide+kernel) (jzb rfl (jza rfl (by decide+kernel)) jzf))) (jzc (jzk rfl (by decide+kernel) rfl (dE_sng rfl (jza rfl (by decide+kernel)))) (jzc (jzk rfl (by decide+kernel) rfl (jzK jzf)) (jzc (jzk rfl (by decide+kernel) rfl (jzK (jzb rfl (jza rfl (by decide+kernel)) jzf))) (jzc (zzL (jza rfl (by decide+kernel)) (jzc (jzk rfl (by decide+kernel) rfl (jzK jzf)) (jzc (jzX (by decide+kernel) (λ_ _=>rfl) (jza rfl (by decide+kernel)) (jzc (dS_forI (λxo hfn=>pgTn xo hfn rfl rfl rfl (by decide+kernel)) (λ_=>rfl) rfl (dE_get2 rfl rfl rfl (jza rfl (by decide+kernel)) (jza rfl (by decide+kernel)) zzO) (jzc (jzv (dE_nis rfl (jza rfl (by decide+kernel)) (jza rfl (by decide+kernel))) (jzc (dS_ex rfl (dE_sad rfl rfl (jza rfl (by decide+kernel)) (jza rfl (by decide+kernel)))) (jzc (dS_ex rfl (qzG rfl rfl (jza rfl (by decide+kernel)) (jzR (jzb rfl (jza rfl (by decide+kernel)) (jzb rfl (jza rfl (by decide+kernel)) (jzb rfl (jza rfl (by decide+kernel)) (jzb rfl (jza rfl (by decide+kernel)) jzf))))))) (jzc (dS_ex rfl (qzG rfl rfl (jza rfl (by decide+kernel)) (jza rfl (by decide+kernel)))) jzg))) jzg) jzg)) jzg)) (jzc (jzk rfl (by decide+kernel) rfl (jza rfl (by decide+kernel))) jzg)))) (jzc (jzr (jza rfl (by decide+kernel))) jzg))))))
theorem sc7:FnScope ["ties","start","told","before","number","name","motion"] ["ties","start"] (defScope (top 12)):=⟨rfl,rfl,rfl,by decide+kernel,rfl,by decide+kernel,by decide+kernel⟩
set_option maxHeartbeats 0 in
theorem ck7:SSs ["ties","start","told","before","number","name","motion"] (defScope (top 12)) G b7 (defBody (top 12)):=(jzc (jzk rfl (by decide+kernel) rfl (dE_dk1 (jza rfl (by decide+kernel)) (jzK jzf))) (jzc (jzX (by decide+kernel) (λ_ _=>rfl) (jzu rfl (by decide+kernel) (jzb rfl (jza rfl (by decide+kernel)) (jzb rfl (jza rfl (by decide+kernel)) jzf))) (jzc (wzC rfl (λ_ _=>rfl) (jzh (dE_ix (λ_ _=>rfl) (jza rfl (by decide+kernel)) (jza rfl (by decide+kernel))) (jzK (jzb rfl (jza rfl (by decide+kernel)) jzf))) (jza rfl (by decide+kernel)) (jza rfl (by decide+kernel))) jzg)) (jzc (jzr (jza rfl (by decide+kernel))) jzg)))
theorem sc8:FnScope ["_law_script","_law_at","_law_many","_law_cell","_law_seed","_law_row","_law_mark"] ["_law_script","_law_at","_law_many"] (defScope (top 14)):=⟨rfl,rfl,rfl,by decide+kernel,rfl,by decide+kernel,by decide+kernel⟩
set_option maxHeartbeats 0 in
theorem ck8:SSs ["_law_script","_law_at","_law_many","_law_cell","_law_seed","_law_row","_law_mark"] (defScope (top 14)) G b8 (defBody (top 14)):=(jzc (jzk rfl (by decide+kernel) rfl (jzh (jzh jzd (jza rfl (by decide+kernel))) jzd)) (jzc (jzv (jzs rfl (jza rfl (by decide+kernel)) (jzm (by decide+kernel) (jzb rfl (jza rfl (by decide+kernel)) jzf))) (jzc (jzk rfl (by decide+kernel) rfl (dE_ix (λ_ _=>rfl) (jza rfl (by decide+kernel)) (jza rfl (by decide+kernel)))) jzg) (jzc (jzv (jzs rfl (jzm (by decide+kernel) (jzb rfl (jza rfl (by decide+kernel)) jzf)) jzd) (jzc (jzk rfl (by decide+kernel) rfl (jzh (jzh (jzh (dE_ix (λ_ _=>rfl) (jza rfl (by decide+kernel)) (jzh (jza rfl (by decide+kernel)) (jzm (by decide+kernel) (jzb rfl (jza rfl (by decide+kernel)) jzf)))) jzd) (jzh (jzh (jza rfl (by decide+kernel)) (jza rfl (by decide+kernel))) jzd)) jzd)) jzg) jzg) jzg)) (jzc (jzk rfl (by decide+kernel) rfl (jzh (jzh (jzh (jza rfl (by decide+kernel)) jzd) (jzh jzd (jza rfl (by decide+kernel)))) jzd)) (jzc (jzk rfl (by decide+kernel) rfl (jzK jzf)) (jzc (jzv (jzs rfl (jza rfl (by decide+kernel)) (jzh jzd jzd)) (jzc (zzL (qzH (jzs rfl (jza rfl (by decide+kernel)) jzd) (jzs rfl (jzm (by decide+kernel) (jzb rfl (jza rfl (by decide+kernel)) jzf)) (jza rfl (by decide+kernel)))) (jzc (dS_ex rfl (qzG rfl rfl (jza rfl (by decide+kernel)) (jzh (jza rfl (by decide+kernel)) jzd))) (jzc (jzk rfl (by decide+kernel) rfl (jzh (jza rfl (by decide+kernel)) jzd)) jzg))) jzg) jzg) (jzc (zzL (jzs rfl (jzm (by decide+kernel) (jzb rfl (jza rfl (by decide+kernel)) jzf)) (jza rfl (by decide+kernel))) (jzc (jzk rfl (by decide+kernel) rfl (jzh (jzm (by decide+kernel) (jzb rfl (jza rfl (by decide+kernel)) jzf)) jzd)) (jzc (jzk rfl (by decide+kernel) rfl (jzh (jzh (jzh (jzh (jza rfl (by decide+kernel)) jzd) (jzh (jzh (jza rfl (by decide+kernel)) (jza rfl (by decide+kernel))) jzd)) jzd) jzd)) (jzc (dS_ex rfl (qzG rfl rfl (jza rfl (by decide+kernel)) (jzh (jzh (jzh (jzh (jza rfl (by decide+kernel)) jzd) (jzh (jzh (jzh (jza rfl (by decide+kernel)) jzd) jzd) jzd)) jzd) jzd))) jzg)))) (jzc (jzr (jza rfl (by decide+kernel))) jzg)))))))
theorem sc9:FnScope ["_law_one","_law_two"] ["_law_one","_law_two"] (defScope (top 15)):=⟨rfl,rfl,rfl,by decide+kernel,rfl,by decide+kernel,by decide+kernel⟩
set_option maxHeartbeats 0 in
theorem ck9:SSs ["_law_one","_law_two"] (defScope (top 15)) G b9 (defBody (top 15)):=(jzc (jzv (jzs rfl (jzh (jza rfl (by decide+kernel)) jzd) jzd) (jzc (jzr (jzh (jzh (jzh (jza rfl (by decide+kernel)) jzd) jzd) jzd)) jzg) jzg) (jzc (jzv (jzs rfl (jzh (jza rfl (by decide+kernel)) jzd) jzd) (jzc (jzr (jzh (jzh (jzh (jza rfl (by decide+kernel)) jzd) (jza rfl (by decide+kernel))) jzd)) jzg) jzg) (jzc (jzr (jzh (jzh (jzh (jza rfl (by decide+kernel)) jzd) (jzh jzd jzd)) (jza rfl (by decide+kernel)))) jzg)))
theorem sc10:FnScope ["_law_d","_law_at"] ["_law_d","_law_at"] (defScope (top 16)):=⟨rfl,rfl,rfl,by decide+kernel,rfl,by decide+kernel,by decide+kernel⟩
set_option maxHeartbeats 0 in
theorem ck10:SSs ["_law_d","_law_at"] (defScope (top 16)) G b10 (defBody (top 16)):=(jzc (jzr (jzR (jzb rfl (jzh (dE_ix (λ_ _=>rfl) (jza rfl (by decide+kernel)) (jza rfl (by decide+kernel))) jzd) (jzb rfl (jzu rfl (by decide+kernel) (jzb rfl (dE_ix (λ_ _=>rfl) (jza rfl (by decide+kernel)) (jzh (jza rfl (by decide+kernel)) jzd)) (jzb rfl (dE_ix (λ_ _=>rfl) (jza rfl (by decide+kernel)) (jzh (jza rfl (by decide+kernel)) jzd)) jzf))) (jzb rfl (jzu rfl (by decide+kernel) (jzb rfl (dE_ix (λ_ _=>rfl) (jza rfl (by decide+kernel)) (jzh (jza rfl (by decide+kernel)) jzd)) (jzb rfl (dE_ix (λ_ _=>rfl) (jza rfl (by decide+kernel)) (jzh (jza rfl (by decide+kernel)) jzd)) jzf))) jzf))))) jzg)
theorem sc11:FnScope ["_law_found","_law_due","_law_k"] ["_law_found","_law_due"] (defScope (top 17)):=⟨rfl,rfl,rfl,by decide+kernel,rfl,by decide+kernel,by decide+kernel⟩
set_option maxHeartbeats 0 in
theorem ck11:SSs ["_law_found","_law_due","_law_k"] (defScope (top 17)) G b11 (defBody (top 17)):=(jzc (jzv (jzm (by decide+kernel) (jzb rfl (jza rfl (by decide+kernel)) (jzb rfl (jzR (jzb rfl (dE_ty (by decide+kernel)) (jzb rfl (dE_ty (by decide+kernel)) jzf))) jzf))) (jzc (jzv (dE_or (jzs rfl (jzm (by decide+kernel) (jzb rfl (jza rfl (by decide+kernel)) (jzb rfl (dE_ty (by decide+kernel)) jzf))) (jzm (by decide+kernel) (jzb rfl (jza rfl (by decide+kernel)) (jzb rfl (dE_ty (by decide+kernel)) jzf)))) (jzs rfl (jzm (by decide+kernel) (jzb rfl (jza rfl (by decide+kernel)) (jzb rfl (dE_ty (by decide+kernel)) jzf))) (jzm (by decide+kernel) (jzb rfl (jza rfl (by decide+kernel)) (jzb rfl (dE_ty (by decide+kernel)) jzf))))) (jzc (jzr dE_bl) jzg) jzg) (jzc (jzv (jzs rfl (jzm (by decide+kernel) (jzb rfl (jza rfl (by decide+kernel)) jzf)) (jzm (by decide+kernel) (jzb rfl (jza rfl (by decide+kernel)) jzf))) (jzc (jzr dE_bl) jzg) jzg) (jzc (wz5 (by decide+kernel) (by decide+kernel) rfl (jzm (by decide+kernel) (jzb rfl (jza rfl (by decide+kernel)) jzf)) (jzc (jzv (jzS (jzu rfl (by decide+kernel) (jzb rfl (dE_ix (λ_ _=>rfl) (jza rfl (by decide+kernel)) (jza rfl (by decide+kernel))) (jzb rfl (dE_ix (λ_ _=>rfl) (jza rfl (by decide+kernel)) (jza rfl (by decide+kernel))) jzf)))) (jzc (jzr dE_bl) jzg) jzg) jzg)) (jzc (jzr dE_bl) jzg)))) jzg) (jzc (jzv (jzs rfl (jza rfl (by decide+kernel)) zzM) (jzc (jzr (jzs rfl (jza rfl (by decide+kernel)) zzM)) jzg) jzg) (jzc (jzv (dE_or (jzm (by decide+kernel) (jzb rfl (jza rfl (by decide+kernel)) (jzb rfl (dE_ty (by decide+kernel)) jzf))) (jzm (by decide+kernel) (jzb rfl (jza rfl (by decide+kernel)) (jzb rfl (dE_ty (by decide+kernel)) jzf)))) (jzc (jzr (by first |exact zzP (jzm (by decide+kernel) (jzb rfl (jza rfl (by decide+kernel)) (jzb rfl (dE_ty (by decide+kernel)) jzf))) (qzH (jzm (by decide+kernel) (jzb rfl (jza rfl (by decide+kernel)) (jzb rfl (dE_ty (by decide+kernel)) jzf))) (jzs rfl (jza rfl (by decide+kernel)) (jza rfl (by decide+kernel))))|exact qzH (jzm (by decide+kernel) (jzb rfl (jza rfl (by decide+kernel)) (jzb rfl (dE_ty (by decide+kernel)) jzf))) (qzH (jzm (by decide+kernel) (jzb rfl (jza rfl (by decide+kernel)) (jzb rfl (dE_ty (by decide+kernel)) jzf))) (jzs rfl (jza rfl (by decide+kernel)) (jza rfl (by decide+kernel)))))) jzg) jzg) (jzc (jzv (jzm (by decide+kernel) (jzb rfl (jza rfl (by decide+kernel)) (jzb rfl (dE_ty (by decide+kernel)) jzf))) (jzc (jzr (qzH (jzm (by decide+kernel) (jzb rfl (jza rfl (by decide+kernel)) (jzb rfl (dE_ty (by decide+kernel)) jzf))) (jzs rfl (jza rfl (by decide+kernel)) (jza rfl (by decide+kernel))))) jzg) jzg) (jzc (jzr (qzH (jzm (by decide+kernel) (jzb rfl (jza rfl (by decide+kernel)) (jzb rfl (dE_ty (by decide+kernel)) jzf))) (jzs rfl (jza rfl (by decide+kernel)) (jza rfl (by decide+kernel))))) jzg)))))
theorem sc12:FnScope ["_law_d","_law_letters","_law_names_here","_law_k","_law_own","_law_size","_law_rest"] ["_law_d"] (defScope (top 18)):=⟨rfl,rfl,rfl,by decide+kernel,rfl,by decide+kernel,by decide+kernel⟩
set_option maxHeartbeats 0 in
theorem ck12:SSs ["_law_d","_law_letters","_law_names_here","_law_k","_law_own","_law_size","_law_rest"] (defScope (top 18)) G b12 (defBody (top 18)):=(jzc (jzk rfl (by decide+kernel) rfl dE_str) (jzc (jzk rfl (by decide+kernel) rfl (jzK jzf)) (jzc (wz5 (by decide+kernel) (by decide+kernel) rfl (dE_ix (λ_ _=>rfl) (jzK (jzb rfl jzd (jzb rfl jzd (jzb rfl jzd (jzb rfl jzd (jzb rfl jzd (jzb rfl jzd (jzb rfl jzd (jzb rfl jzd (jzb rfl jzd (jzb rfl jzd jzf))))))))))) (jzh (dE_ix (λ_ _=>rfl) (jza rfl (by decide+kernel)) jzd) jzd)) (jzc (jzk rfl (by decide+kernel) rfl (dE_ix (λ_ _=>rfl) (jza rfl (by decide+kernel)) (jzh (jzh (jzh (jza rfl (by decide+kernel)) (dE_ix (λ_ _=>rfl) (jzK (jzb rfl jzd (jzb rfl jzd (jzb rfl jzd (jzb rfl jzd (jzb rfl jzd (jzb rfl jzd jzf))))))) (jzh (dE_ix (λ_ _=>rfl) (jza rfl (by decide+kernel)) jzd) jzd))) (dE_ix (λ_ _=>rfl) (jza rfl (by decide+kernel)) jzd)) jzd))) (jzc (jzk rfl (by decide+kernel) rfl (jzh (jzh (dE_ix (λ_ _=>rfl) (jza rfl (by decide+kernel)) jzd) jzd) jzd)) (jzc (jzv (jzs rfl (jzh (dE_ix (λ_ _=>rfl) (jza rfl (by decide+kernel)) jzd) jzd) jzd) (jzc (jzk rfl (by decide+kernel) rfl (jzh (dE_ix (λ_ _=>rfl) (jza rfl (by decide+kernel)) (jzh jzd (jza rfl (by decide+kernel)))) jzd)) jzg) jzg) (jzc (jzk rfl (by decide+kernel) rfl (dE_join rfl rfl (dE_comp (zz4 (by decide+kernel)) rfl (by decide+kernel) (it_r1 (by decide+kernel) rfl (jza rfl (by decide+kernel))) sb_nil (dE_ix (λ_ _=>rfl) (jza rfl (by decide+kernel)) (jzh (jzh (dE_ix (λ_ _=>rfl) (jza rfl (by decide+kernel)) jzd) (jzh (jza rfl (by decide+kernel)) (dE_ix (λ_ _=>rfl) (jza rfl (by decide+kernel)) jzd))) jzd))))) (jzc (jzv (jzs rfl (jzh (jzh (dE_ix (λ_ _=>rfl) (jza rfl (by decide+kernel)) jzd) jzd) jzd) jzd) (jzc (dS_ex rfl (qzG rfl rfl (jza rfl (by decide+kernel)) (jzh (jza rfl (by decide+kernel)) (jza rfl (by decide+kernel))))) jzg) (jzc (dS_ex rfl (qzG rfl rfl (jza rfl (by decide+kernel)) (jzh (jza rfl (by decide+kernel)) (jza rfl (by decide+kernel))))) jzg)) jzg)))))) (jzc (jzr (jza rfl (by decide+kernel))) jzg))))
theorem sc13:FnScope ["_law_script","_law_d","_law_names_here","_law_ties","_law_k","_law_t","_law_one","_law_other","_law_number"] ["_law_script"] (defScope (top 19)):=⟨rfl,rfl,rfl,by decide+kernel,rfl,by decide+kernel,by decide+kernel⟩
set_option maxHeartbeats 0 in
theorem ck13:SSs ["_law_script","_law_d","_law_names_here","_law_ties","_law_k","_law_t","_law_one","_law_other","_law_number"] (defScope (top 19)) G b13 (defBody (top 19)):=(jzc (jzk rfl (by decide+kernel) rfl (jzu rfl (by decide+kernel) (jzb rfl (jza rfl (by decide+kernel)) (jzb rfl jzd (jzb rfl jzd jzf))))) (jzc (jzk rfl (by decide+kernel) rfl (jzu rfl (by decide+kernel) (jzb rfl (jza rfl (by decide+kernel)) jzf))) (jzc (jzk rfl (by decide+kernel) rfl (jzK jzf)) (jzc (wz5 (by decide+kernel) (by decide+kernel) rfl (jzh (dE_ix (λ_ _=>rfl) (jza rfl (by decide+kernel)) jzd) jzd) (jzc (jzk rfl (by decide+kernel) rfl (jzu rfl (by decide+kernel) (jzb rfl (jza rfl (by decide+kernel)) (jzb rfl (jzh jzd (jza rfl (by decide+kernel))) (jzb rfl jzd jzf))))) (jzc (jzk rfl (by decide+kernel) rfl (dE_ix (λ_ _=>rfl) (jza rfl (by decide+kernel)) (jzh (dE_ix (λ_ _=>rfl) (jza rfl (by decide+kernel)) jzd) (jzm (by decide+kernel) (jzb rfl (jza rfl (by decide+kernel)) jzf))))) (jzc (jzk rfl (by decide+kernel) rfl (dE_ix (λ_ _=>rfl) (jza rfl (by decide+kernel)) (jzh (dE_ix (λ_ _=>rfl) (jza rfl (by decide+kernel)) jzd) (jzm (by decide+kernel) (jzb rfl (jza rfl (by decide+kernel)) jzf))))) (jzc (jzv (jzs rfl (jzh (dE_ix (λ_ _=>rfl) (jza rfl (by decide+kernel)) jzd) jzd) jzd) (jzc (jzk rfl (by decide+kernel) rfl (dE_ix (λ_ _=>rfl) (jza rfl (by decide+kernel)) (jzh (jza rfl (by decide+kernel)) (jzm (by decide+kernel) (jzb rfl (jza rfl (by decide+kernel)) jzf))))) (jzc (jzk rfl (by decide+kernel) rfl (dE_ix (λ_ _=>rfl) (jza rfl (by decide+kernel)) (jzh (jzh (jza rfl (by decide+kernel)) jzd) (jzm (by decide+kernel) (jzb rfl (jza rfl (by decide+kernel)) jzf))))) jzg)) jzg) (jzc (jzk rfl (by decide+kernel) rfl (jzh jzd (jzh (jzh (jzh (jza rfl (by decide+kernel)) (dE_ix (λ_ _=>rfl) (jzK (jzb rfl jzd (jzb rfl jzd (jzb rfl jzd (jzb rfl jzd (jzb rfl jzd jzf)))))) (jzh (dE_ix (λ_ _=>rfl) (jza rfl (by decide+kernel)) jzd) jzd))) (dE_ix (λ_ _=>rfl) (jza rfl (by decide+kernel)) jzd)) jzd))) (jzc (jzv (jzs rfl (jza rfl (by decide+kernel)) (jza rfl (by decide+kernel))) (jzc (dS_ex rfl (qzG rfl rfl (jza rfl (by decide+kernel)) (jzR (jzb rfl (jza rfl (by decide+kernel)) (jzb rfl (jza rfl (by decide+kernel)) (jzb rfl (jza rfl (by decide+kernel)) (jzb rfl (jzu rfl (by decide+kernel) (jzb rfl (jza rfl (by decide+kernel)) (jzb rfl jzd jzf))) jzf))))))) jzg) jzg) jzg))))))) (jzc (jzr (jza rfl (by decide+kernel))) jzg)))))
theorem sc14:FnScope ["_law_tie","_law_name"] ["_law_tie","_law_name"] (defScope (top 20)):=⟨rfl,rfl,rfl,by decide+kernel,rfl,by decide+kernel,by decide+kernel⟩
set_option maxHeartbeats 0 in
theorem ck14:SSs ["_law_tie","_law_name"] (defScope (top 20)) G b14 (defBody (top 20)):=(jzc (jzv (jzs rfl (dE_ix (λ_ _=>rfl) (jza rfl (by decide+kernel)) jzd) (jza rfl (by decide+kernel))) (jzc (jzr (dE_ix (λ_ _=>rfl) (jza rfl (by decide+kernel)) jzd)) jzg) jzg) (jzc (jzv (jzs rfl (dE_ix (λ_ _=>rfl) (jza rfl (by decide+kernel)) jzd) (jza rfl (by decide+kernel))) (jzc (jzr (dE_ix (λ_ _=>rfl) (jza rfl (by decide+kernel)) jzd)) jzg) jzg) (jzc (jzr zzM) jzg)))
theorem sc15:FnScope ["_law_row","_law_number"] ["_law_row"] (defScope (top 21)):=⟨rfl,rfl,rfl,by decide+kernel,rfl,by decide+kernel,by decide+kernel⟩
set_option maxHeartbeats 0 in
theorem ck15:SSs ["_law_row","_law_number"] (defScope (top 21)) G b15 (defBody (top 21)):=(jzc (jzv (jzS (jzm (by decide+kernel) (jzb rfl (jza rfl (by decide+kernel)) (jzb rfl (dE_ty (by decide+kernel)) jzf)))) (jzc (jzr dE_bl) jzg) jzg) (jzc (jzX (by decide+kernel) (λ_ _=>rfl) (jza rfl (by decide+kernel)) (jzc (jzv (dE_or (jzS (jzm (by decide+kernel) (jzb rfl (jza rfl (by decide+kernel)) (jzb rfl (dE_ty (by decide+kernel)) jzf)))) (jzm (by decide+kernel) (jzb rfl (jza rfl (by decide+kernel)) (jzb rfl (dE_ty (by decide+kernel)) jzf)))) (jzc (jzr dE_bl) jzg) jzg) jzg)) (jzc (jzr dE_bl) jzg)))
theorem sc16:FnScope ["_law_ties","_law_start","_law_told","_law_kept","_law_name","_law_again_here"] ["_law_ties","_law_start","_law_told"] (defScope (top 22)):=⟨rfl,rfl,rfl,by decide+kernel,rfl,by decide+kernel,by decide+kernel⟩
set_option maxHeartbeats 0 in
theorem ck16:SSs ["_law_ties","_law_start","_law_told","_law_kept","_law_name","_law_again_here"] (defScope (top 22)) G b16 (defBody (top 22)):=(jzc (jzk rfl (by decide+kernel) rfl zzO) (jzc (jzX (by decide+kernel) (λ_ _=>rfl) (dE_ldk (by decide+kernel) rfl (jza rfl (by decide+kernel))) (jzc (wzC rfl (λ_ _=>rfl) (jzm (by decide+kernel) (jzb rfl (dE_ix (λ_ _=>rfl) (jza rfl (by decide+kernel)) (jza rfl (by decide+kernel))) jzf)) (jza rfl (by decide+kernel)) (jza rfl (by decide+kernel))) (jzc (dS_ex rfl (dE_appX (λ_=>rfl) rfl rfl (dE_ix (λ_ _=>rfl) (jza rfl (by decide+kernel)) (jza rfl (by decide+kernel))) jzd)) jzg))) (jzc (wzC rfl (λ_ _=>rfl) (jzK jzf) (jza rfl (by decide+kernel)) dE_str) (jzc (jzk rfl (by decide+kernel) rfl (jzu rfl (by decide+kernel) (jzb rfl (jza rfl (by decide+kernel)) (jzb rfl (jza rfl (by decide+kernel)) jzf)))) (jzc (jzX (by decide+kernel) (λ_ _=>rfl) (dE_ldk (by decide+kernel) rfl (jza rfl (by decide+kernel))) (jzc (jzv (dE_or (jzs rfl (jza rfl (by decide+kernel)) (jza rfl (by decide+kernel))) (jzS (jzu rfl (by decide+kernel) (jzb rfl (dE_ix (λ_ _=>rfl) (jza rfl (by decide+kernel)) (jza rfl (by decide+kernel))) (jzb rfl (dE_ix (λ_ _=>rfl) (jza rfl (by decide+kernel)) (jza rfl (by decide+kernel))) jzf))))) (jzc (jzr dE_bl) jzg) jzg) jzg)) (jzc (jzr (jzs rfl (jzm (by decide+kernel) (jzb rfl (jza rfl (by decide+kernel)) jzf)) (jzm (by decide+kernel) (jzb rfl (jza rfl (by decide+kernel)) jzf)))) jzg))))))
theorem sc17:FnScope ["_law_script","_law_ties","_law_names_here","_law_start","_law_handed","_law_told","_law_name","_law_chain","_law_last","_law_number","_law_one","_law_other","_law_motion_here","_law_here","_law_there"] ["_law_script"] (defScope (top 23)):=⟨rfl,rfl,rfl,by decide+kernel,rfl,by decide+kernel,by decide+kernel⟩
set_option maxHeartbeats 0 in
theorem ck17:SSs ["_law_script","_law_ties","_law_names_here","_law_start","_law_handed","_law_told","_law_name","_law_chain","_law_last","_law_number","_law_one","_law_other","_law_motion_here","_law_here","_law_there"] (defScope (top 23)) G b17 (defBody (top 23)):=(jzc (jzk rfl (by decide+kernel) rfl (jzu rfl (by decide+kernel) (jzb rfl (jza rfl (by decide+kernel)) jzf))) (jzc (jzk rfl (by decide+kernel) rfl (jzu rfl (by decide+kernel) (jzb rfl (jzu rfl (by decide+kernel) (jzb rfl (jza rfl (by decide+kernel)) (jzb rfl jzd (jzb rfl jzd jzf)))) jzf))) (jzc (jzk rfl (by decide+kernel) rfl (dE_ix (λ_ _=>rfl) (jza rfl (by decide+kernel)) (jzh (dE_ix (λ_ _=>rfl) (jzu rfl (by decide+kernel) (jzb rfl (jza rfl (by decide+kernel)) (jzb rfl jzd (jzb rfl jzd jzf)))) jzd) (jzm (by decide+kernel) (jzb rfl (jza rfl (by decide+kernel)) jzf))))) (jzc (jzk rfl (by decide+kernel) rfl (jzm (by decide+kernel) (jzb rfl (jza rfl (by decide+kernel)) jzf))) (jzc (jzk rfl (by decide+kernel) rfl (jzu rfl (by decide+kernel) (jzb rfl (jza rfl (by decide+kernel)) (jzb rfl (jza rfl (by decide+kernel)) jzf)))) (jzc (jzv (by first |exact dE_or2 (jzS (jzu rfl (by decide+kernel) (jzb rfl (jza rfl (by decide+kernel)) (jzb rfl (jza rfl (by decide+kernel)) jzf)))) (dE_or (jzS (jzm (by decide+kernel) (jzb rfl (jza rfl (by decide+kernel)) (jzb rfl (dE_ty (by decide+kernel)) jzf)))) (jzs rfl (jza rfl (by decide+kernel)) (jza rfl (by decide+kernel))))|exact dE_or (jzS (jzu rfl (by decide+kernel) (jzb rfl (jza rfl (by decide+kernel)) (jzb rfl (jza rfl (by decide+kernel)) jzf)))) (dE_or (jzS (jzm (by decide+kernel) (jzb rfl (jza rfl (by decide+kernel)) (jzb rfl (dE_ty (by decide+kernel)) jzf)))) (jzs rfl (jza rfl (by decide+kernel)) (jza rfl (by decide+kernel))))) (jzc (jzr dE_bl) jzg) jzg) (jzc (dS_forZ (λxo hfn=>pgT xo hfn (t:=.tp [6,7]) (by decide+kernel)) (λ_=>rfl) rfl (jza rfl (by decide+kernel)) (jzc (jzv (dE_or (jzS (jzm (by decide+kernel) (jzb rfl (jza rfl (by decide+kernel)) (jzb rfl (dE_ty (by decide+kernel)) jzf)))) (jzS (jzu rfl (by decide+kernel) (jzb rfl (jza rfl (by decide+kernel)) jzf)))) (jzc (jzr dE_bl) jzg) jzg) (jzc (jzv (dE_or (jzs rfl (jza rfl (by decide+kernel)) (jza rfl (by decide+kernel))) (jzS (jza rfl (by decide+kernel)))) (jzc (jzv (dE_or (jzs rfl (jza rfl (by decide+kernel)) (jza rfl (by decide+kernel))) (jza rfl (by decide+kernel))) (jzc (jzr dE_bl) jzg) jzg) jzg) (jzc (dS_asc rfl (by decide+kernel) (by decide+kernel) (by decide+kernel) (zz4 (by decide+kernel)) rfl (by decide+kernel) (it_sq (jza rfl (by decide+kernel))) (sb_cons (jzs rfl (dE_ix (λ_ _=>rfl) (jza rfl (by decide+kernel)) jzd) (dE_ix (λ_ _=>rfl) (jza rfl (by decide+kernel)) (zzN jzd))) sb_nil) (jza rfl (by decide+kernel))) (jzc (jzv (dE_or (jzS (jza rfl (by decide+kernel))) (jzs rfl (jzu rfl (by decide+kernel) (jzb rfl (dE_ix (λ_ _=>rfl) (jza rfl (by decide+kernel)) jzd) (jzb rfl (jza rfl (by decide+kernel)) jzf))) (jza rfl (by decide+kernel)))) (jzc (jzr dE_bl) jzg) jzg) (jzc (jzv (jzs rfl (dE_ix (λ_ _=>rfl) (jza rfl (by decide+kernel)) (jzu rfl (by decide+kernel) (jzb rfl (dE_ix (λ_ _=>rfl) (jza rfl (by decide+kernel)) jzd) (jzb rfl (jza rfl (by decide+kernel)) jzf)))) (dE_slU (jza rfl (by decide+kernel)) (zzN jzd))) (jzc (jzr dE_bl) jzg) jzg) jzg)))) jzg))) (jzc (jzX (by decide+kernel) (λ_ _=>rfl) (jza rfl (by decide+kernel)) (jzc (jzv (jzs rfl (jzs rfl (jza rfl (by decide+kernel)) (jza rfl (by decide+kernel))) (jzs rfl (jza rfl (by decide+kernel)) (jza rfl (by decide+kernel)))) (jzc (jzr dE_bl) jzg) jzg) (jzc (jzv (jzs rfl (jza rfl (by decide+kernel)) (jza rfl (by decide+kernel))) (jzc (jzX (by decide+kernel) (λ_ _=>rfl) (jzK (jzb rfl (jzR (jzb rfl (dE_ix (λ_ _=>rfl) (jza rfl (by decide+kernel)) (jza rfl (by decide+kernel))) (jzb rfl (dE_ix (λ_ _=>rfl) (jza rfl (by decide+kernel)) (jza rfl (by decide+kernel))) jzf))) (jzb rfl (jzR (jzb rfl (dE_ix (λ_ _=>rfl) (jza rfl (by decide+kernel)) (jza rfl (by decide+kernel))) (jzb rfl (dE_ix (λ_ _=>rfl) (jza rfl (by decide+kernel)) (jza rfl (by decide+kernel))) jzf))) jzf))) (jzc (jzv (jzs rfl (jzm (by decide+kernel) (jzb rfl (jza rfl (by decide+kernel)) jzf)) (jzh (jzm (by decide+kernel) (jzb rfl (jza rfl (by decide+kernel)) jzf)) jzd)) (jzc (jzr dE_bl) jzg) jzg) (jzc (jzv (qzH (jzs rfl (jzm (by decide+kernel) (jzb rfl (jza rfl (by decide+kernel)) jzf)) (jzh (jzm (by decide+kernel) (jzb rfl (jza rfl (by decide+kernel)) jzf)) jzd)) (jzs rfl (jzh (jza rfl (by decide+kernel)) (jzK (jzb rfl (jza rfl (by decide+kernel)) jzf))) (jza rfl (by decide+kernel)))) (jzc (jzr dE_bl) jzg) jzg) jzg))) jzg) jzg) jzg))) (jzc (jzr (jzu rfl (by decide+kernel) (jzb rfl (jza rfl (by decide+kernel)) (jzb rfl (jza rfl (by decide+kernel)) (jzb rfl (jza rfl (by decide+kernel)) jzf))))) jzg)))))))))
set_option maxHeartbeats 0 in
theorem all_mk{K:PySem.W.Frag}{h:Heap}{mg:Str->Option Value}{fa:Addr}(X:K.In h)(Gn:h.Ns mainGlobals mg)(hfa:mg "law"=some (.ref fa))
 {f0:Addr}{oc0 kV0 dc0 pm0 cd0 ct0:Value}{od0 an0:Option Addr}{sl0:Array (Option Value)}{f1:Addr}{oc1 kV1 dc1 pm1 cd1 ct1:Value}{od1 an1:Option Addr}{sl1:Array (Option Value)}{f2:Addr}{oc2 kV2 dc2 pm2 cd2 ct2:Value}{od2 an2:Option Addr}{sl2:Array (Option Value)}{f3:Addr}{oc3 kV3 dc3 pm3 cd3 ct3:Value}{od3 an3:Option Addr}{sl3:Array (Option Value)}{f4:Addr}{oc4 kV4 dc4 pm4 cd4 ct4:Value}{od4 an4:Option Addr}{sl4:Array (Option Value)}{f5:Addr}{oc5 kV5 dc5 pm5 cd5 ct5:Value}{od5 an5:Option Addr}{sl5:Array (Option Value)}{f6:Addr}{oc6 kV6 dc6 pm6 cd6 ct6:Value}{od6 an6:Option Addr}{sl6:Array (Option Value)}{f7:Addr}{oc7 kV7 dc7 pm7 cd7 ct7:Value}{od7 an7:Option Addr}{sl7:Array (Option Value)}{f8:Addr}{oc8 kV8 dc8 pm8 cd8 ct8:Value}{od8 an8:Option Addr}{sl8:Array (Option Value)}{f9:Addr}{oc9 kV9 dc9 pm9 cd9 ct9:Value}{od9 an9:Option Addr}{sl9:Array (Option Value)}{f10:Addr}{oc10 kV10 dc10 pm10 cd10 ct10:Value}{od10 an10:Option Addr}{sl10:Array (Option Value)}{f11:Addr}{oc11 kV11 dc11 pm11 cd11 ct11:Value}{od11 an11:Option Addr}{sl11:Array (Option Value)}{f12:Addr}{oc12 kV12 dc12 pm12 cd12 ct12:Value}{od12 an12:Option Addr}{sl12:Array (Option Value)}{f13:Addr}{oc13 kV13 dc13 pm13 cd13 ct13:Value}{od13 an13:Option Addr}{sl13:Array (Option Value)}{f14:Addr}{oc14 kV14 dc14 pm14 cd14 ct14:Value}{od14 an14:Option Addr}{sl14:Array (Option Value)}{f15:Addr}{oc15 kV15 dc15 pm15 cd15 ct15:Value}{od15 an15:Option Addr}{sl15:Array (Option Value)}{f16:Addr}{oc16 kV16 dc16 pm16 cd16 ct16:Value}{od16 an16:Option Addr}{sl16:Array (Option Value)}{f17:Addr}{oc17 kV17 dc17 pm17 cd17 ct17:Value}{od17 an17:Option Addr}{sl17:Array (Option Value)}{t0:Addr}{td0:Option Addr}{ts0:Array (Option Value)}{tn0:Nat}{u1:Tok}{u2:Tok}{t3:Addr}{td3:Option Addr}{ts3:Array (Option Value)}{tn3:Nat}{t4:Addr}{td4:Option Addr}{ts4:Array (Option Value)}{tn4:Nat}{u5:Tok}{u6:Tok}{u7:Tok}{u8:Tok}{t9:Addr}{td9:Option Addr}{ts9:Array (Option Value)}{tn9:Nat}{u10:Tok}{u11:Tok}{u12:Tok}{u13:Tok}{t14:Addr}{td14:Option Addr}{ts14:Array (Option Value)}{tn14:Nat}{u15:Tok}{u16:Tok}{u17:Tok}{u18:Tok}{t19:Addr}{td19:Option Addr}{ts19:Array (Option Value)}{tn19:Nat}{u20:Tok}{u21:Tok}{u22:Tok}{u23:Tok}{t24:Addr}{td24:Option Addr}{ts24:Array (Option Value)}{tn24:Nat}{u25:Tok}{u26:Tok}{u27:Tok}{u28:Tok}{t29:Addr}{td29:Option Addr}{ts29:Array (Option Value)}{tn29:Nat}{u30:Tok}{u31:Tok}{u32:Tok}{u33:Tok}{t34:Addr}{td34:Option Addr}{ts34:Array (Option Value)}{tn34:Nat}{u35:Tok}{u36:Tok}{u37:Tok}{u38:Tok}{t39:Addr}{td39:Option Addr}{ts39:Array (Option Value)}{tn39:Nat}{u40:Tok}{u41:Tok}{u42:Tok}{u43:Tok}{u44:Tok}
 (fa0:PySem.W.nsIn K mainGlobals "turned"=some (some (.ref f0)))
 (fl0:K.lookup f0=some ⟨oc0,od0,.func (PySem.W.fnOf "turned" "turned" (defArgs (top 4)) (defBody (top 4)) (defScope (top 4)) .none kV0 dc0 pm0 an0 cd0 ct0),sl0⟩)
 (fc0:PySem.W.codeIn K cd0 "turned"=true)
 (fk0:PySem.W.keepIn K (.ref f0)=true)
 (fa1:PySem.W.nsIn K mainGlobals "turn_back"=some (some (.ref f1)))
 (fl1:K.lookup f1=some ⟨oc1,od1,.func (PySem.W.fnOf "turn_back" "turn_back" (defArgs (top 5)) (defBody (top 5)) (defScope (top 5)) .none kV1 dc1 pm1 an1 cd1 ct1),sl1⟩)
 (fc1:PySem.W.codeIn K cd1 "turn_back"=true)
 (fk1:PySem.W.keepIn K (.ref f1)=true)
 (fa2:PySem.W.nsIn K mainGlobals "moved"=some (some (.ref f2)))
 (fl2:K.lookup f2=some ⟨oc2,od2,.func (PySem.W.fnOf "moved" "moved" (defArgs (top 6)) (defBody (top 6)) (defScope (top 6)) .none kV2 dc2 pm2 an2 cd2 ct2),sl2⟩)
 (fc2:PySem.W.codeIn K cd2 "moved"=true)
 (fk2:PySem.W.keepIn K (.ref f2)=true)
 (fa3:PySem.W.nsIn K mainGlobals "leading"=some (some (.ref f3)))
 (fl3:K.lookup f3=some ⟨oc3,od3,.func (PySem.W.fnOf "leading" "leading" (defArgs (top 7)) (defBody (top 7)) (defScope (top 7)) .none kV3 dc3 pm3 an3 cd3 ct3),sl3⟩)
 (fc3:PySem.W.codeIn K cd3 "leading"=true)
 (fk3:PySem.W.keepIn K (.ref f3)=true)
 (fa4:PySem.W.nsIn K mainGlobals "back"=some (some (.ref f4)))
 (fl4:K.lookup f4=some ⟨oc4,od4,.func (PySem.W.fnOf "back" "back" (defArgs (top 8)) (defBody (top 8)) (defScope (top 8)) .none kV4 dc4 pm4 an4 cd4 ct4),sl4⟩)
 (fc4:PySem.W.codeIn K cd4 "back"=true)
 (fk4:PySem.W.keepIn K (.ref f4)=true)
 (fa5:PySem.W.nsIn K mainGlobals "leads"=some (some (.ref f5)))
 (fl5:K.lookup f5=some ⟨oc5,od5,.func (PySem.W.fnOf "leads" "leads" (defArgs (top 10)) (defBody (top 10)) (defScope (top 10)) .none kV5 dc5 pm5 an5 cd5 ct5),sl5⟩)
 (fc5:PySem.W.codeIn K cd5 "leads"=true)
 (fk5:PySem.W.keepIn K (.ref f5)=true)
 (fa6:PySem.W.nsIn K mainGlobals "steps"=some (some (.ref f6)))
 (fl6:K.lookup f6=some ⟨oc6,od6,.func (PySem.W.fnOf "steps" "steps" (defArgs (top 11)) (defBody (top 11)) (defScope (top 11)) .none kV6 dc6 pm6 an6 cd6 ct6),sl6⟩)
 (fc6:PySem.W.codeIn K cd6 "steps"=true)
 (fk6:PySem.W.keepIn K (.ref f6)=true)
 (fa7:PySem.W.nsIn K mainGlobals "chains"=some (some (.ref f7)))
 (fl7:K.lookup f7=some ⟨oc7,od7,.func (PySem.W.fnOf "chains" "chains" (defArgs (top 12)) (defBody (top 12)) (defScope (top 12)) .none kV7 dc7 pm7 an7 cd7 ct7),sl7⟩)
 (fc7:PySem.W.codeIn K cd7 "chains"=true)
 (fk7:PySem.W.keepIn K (.ref f7)=true)
 (fa8:PySem.W.nsIn K mainGlobals "_law_draws"=some (some (.ref f8)))
 (fl8:K.lookup f8=some ⟨oc8,od8,.func (PySem.W.fnOf "_law_draws" "_law_draws" (defArgs (top 14)) (defBody (top 14)) (defScope (top 14)) .none kV8 dc8 pm8 an8 cd8 ct8),sl8⟩)
 (fc8:PySem.W.codeIn K cd8 "_law_draws"=true)
 (fk8:PySem.W.keepIn K (.ref f8)=true)
 (fa9:PySem.W.nsIn K mainGlobals "_law_far"=some (some (.ref f9)))
 (fl9:K.lookup f9=some ⟨oc9,od9,.func (PySem.W.fnOf "_law_far" "_law_far" (defArgs (top 15)) (defBody (top 15)) (defScope (top 15)) .none kV9 dc9 pm9 an9 cd9 ct9),sl9⟩)
 (fc9:PySem.W.codeIn K cd9 "_law_far"=true)
 (fk9:PySem.W.keepIn K (.ref f9)=true)
 (fa10:PySem.W.nsIn K mainGlobals "_law_motion"=some (some (.ref f10)))
 (fl10:K.lookup f10=some ⟨oc10,od10,.func (PySem.W.fnOf "_law_motion" "_law_motion" (defArgs (top 16)) (defBody (top 16)) (defScope (top 16)) .none kV10 dc10 pm10 an10 cd10 ct10),sl10⟩)
 (fc10:PySem.W.codeIn K cd10 "_law_motion"=true)
 (fk10:PySem.W.keepIn K (.ref f10)=true)
 (fa11:PySem.W.nsIn K mainGlobals "_law_same"=some (some (.ref f11)))
 (fl11:K.lookup f11=some ⟨oc11,od11,.func (PySem.W.fnOf "_law_same" "_law_same" (defArgs (top 17)) (defBody (top 17)) (defScope (top 17)) .none kV11 dc11 pm11 an11 cd11 ct11),sl11⟩)
 (fc11:PySem.W.codeIn K cd11 "_law_same"=true)
 (fk11:PySem.W.keepIn K (.ref f11)=true)
 (fa12:PySem.W.nsIn K mainGlobals "_law_names"=some (some (.ref f12)))
 (fl12:K.lookup f12=some ⟨oc12,od12,.func (PySem.W.fnOf "_law_names" "_law_names" (defArgs (top 18)) (defBody (top 18)) (defScope (top 18)) .none kV12 dc12 pm12 an12 cd12 ct12),sl12⟩)
 (fc12:PySem.W.codeIn K cd12 "_law_names"=true)
 (fk12:PySem.W.keepIn K (.ref f12)=true)
 (fa13:PySem.W.nsIn K mainGlobals "_law_web"=some (some (.ref f13)))
 (fl13:K.lookup f13=some ⟨oc13,od13,.func (PySem.W.fnOf "_law_web" "_law_web" (defArgs (top 19)) (defBody (top 19)) (defScope (top 19)) .none kV13 dc13 pm13 an13 cd13 ct13),sl13⟩)
 (fc13:PySem.W.codeIn K cd13 "_law_web"=true)
 (fk13:PySem.W.keepIn K (.ref f13)=true)
 (fa14:PySem.W.nsIn K mainGlobals "_law_end"=some (some (.ref f14)))
 (fl14:K.lookup f14=some ⟨oc14,od14,.func (PySem.W.fnOf "_law_end" "_law_end" (defArgs (top 20)) (defBody (top 20)) (defScope (top 20)) .none kV14 dc14 pm14 an14 cd14 ct14),sl14⟩)
 (fc14:PySem.W.codeIn K cd14 "_law_end"=true)
 (fk14:PySem.W.keepIn K (.ref f14)=true)
 (fa15:PySem.W.nsIn K mainGlobals "_law_numbers"=some (some (.ref f15)))
 (fl15:K.lookup f15=some ⟨oc15,od15,.func (PySem.W.fnOf "_law_numbers" "_law_numbers" (defArgs (top 21)) (defBody (top 21)) (defScope (top 21)) .none kV15 dc15 pm15 an15 cd15 ct15),sl15⟩)
 (fc15:PySem.W.codeIn K cd15 "_law_numbers"=true)
 (fk15:PySem.W.keepIn K (.ref f15)=true)
 (fa16:PySem.W.nsIn K mainGlobals "_law_again"=some (some (.ref f16)))
 (fl16:K.lookup f16=some ⟨oc16,od16,.func (PySem.W.fnOf "_law_again" "_law_again" (defArgs (top 22)) (defBody (top 22)) (defScope (top 22)) .none kV16 dc16 pm16 an16 cd16 ct16),sl16⟩)
 (fc16:PySem.W.codeIn K cd16 "_law_again"=true)
 (fk16:PySem.W.keepIn K (.ref f16)=true)
 (fa17:PySem.W.nsIn K mainGlobals "law"=some (some (.ref f17)))
 (fl17:K.lookup f17=some ⟨oc17,od17,.func (PySem.W.fnOf "law" "law" (defArgs (top 23)) (defBody (top 23)) (defScope (top 23)) .none kV17 dc17 pm17 an17 cd17 ct17),sl17⟩)
 (fc17:PySem.W.codeIn K cd17 "law"=true)
 (fk17:PySem.W.keepIn K (.ref f17)=true)
 (ga0:PySem.W.nsIn K mainGlobals "ORIGIN"=some (some (.ref t0)))
 (tt0:K.lookup t0=some ⟨.type "tuple",td0,.seq #[.int (0) u1,.int (0) u2] tn0,ts0⟩)
 (ga1:PySem.W.nsIn K mainGlobals "TURNS"=some (some (.ref t3)))
 (tt3:K.lookup t3=some ⟨.type "tuple",td3,.seq #[.ref t4,.ref t9,.ref t14,.ref t19,.ref t24,.ref t29,.ref t34,.ref t39] tn3,ts3⟩)
 (tt4:K.lookup t4=some ⟨.type "tuple",td4,.seq #[.int (1) u5,.int (0) u6,.int (0) u7,.int (1) u8] tn4,ts4⟩)
 (tt9:K.lookup t9=some ⟨.type "tuple",td9,.seq #[.int (0) u10,.int (-1) u11,.int (1) u12,.int (0) u13] tn9,ts9⟩)
 (tt14:K.lookup t14=some ⟨.type "tuple",td14,.seq #[.int (-1) u15,.int (0) u16,.int (0) u17,.int (-1) u18] tn14,ts14⟩)
 (tt19:K.lookup t19=some ⟨.type "tuple",td19,.seq #[.int (0) u20,.int (1) u21,.int (-1) u22,.int (0) u23] tn19,ts19⟩)
 (tt24:K.lookup t24=some ⟨.type "tuple",td24,.seq #[.int (-1) u25,.int (0) u26,.int (0) u27,.int (1) u28] tn24,ts24⟩)
 (tt29:K.lookup t29=some ⟨.type "tuple",td29,.seq #[.int (0) u30,.int (-1) u31,.int (-1) u32,.int (0) u33] tn29,ts29⟩)
 (tt34:K.lookup t34=some ⟨.type "tuple",td34,.seq #[.int (1) u35,.int (0) u36,.int (0) u37,.int (-1) u38] tn34,ts34⟩)
 (tt39:K.lookup t39=some ⟨.type "tuple",td39,.seq #[.int (0) u40,.int (1) u41,.int (1) u42,.int (0) u43] tn39,ts39⟩)
 (ga2:PySem.W.nsIn K mainGlobals "MIRRORED"=some (some (.int (4) u44)))
 (z_len:PySem.W.nsIn K mainGlobals "len"=some none)
 (z_isinstance:PySem.W.nsIn K mainGlobals "isinstance"=some none)
 (z_int:PySem.W.nsIn K mainGlobals "int"=some none)
 (z_list:PySem.W.nsIn K mainGlobals "list"=some none)
 (z_bool:PySem.W.nsIn K mainGlobals "bool"=some none)
 (z_str:PySem.W.nsIn K mainGlobals "str"=some none)
 (z_tuple:PySem.W.nsIn K mainGlobals "tuple"=some none)
 (z_range:PySem.W.nsIn K mainGlobals "range"=some none)
 (z_max:PySem.W.nsIn K mainGlobals "max"=some none)
 (z_min:PySem.W.nsIn K mainGlobals "min"=some none)
 (z_sorted:PySem.W.nsIn K mainGlobals "sorted"=some none)
 (z_all:PySem.W.nsIn K mainGlobals "all"=some none)
 (z_dict:PySem.W.nsIn K mainGlobals "dict"=some none)
 (z_ValueError:PySem.W.nsIn K mainGlobals "ValueError"=some none)
 :∃ca:Nat->Addr,PrOk K mg G ca T/\∃fd:FuncData,(∀(s:Shared)(u:Value),BindsTo s fd ⟨[u],[]⟩ [("_law_script",u)])/\∃c st N qual,T 17=some c/\Fun K "law" qual st fa fd/\FnScope N ["_law_script"] (defScope st)/\1=c.np/\N.length=c.ns/\SSs N (defScope st) G c.body (defBody st):=by
 have e:=hfa.symm.trans (PySem.W.mg_of X Gn fa17)
 cases e
 have F0:=jzD (st:=top 4) fl0 fc0 fk0
 have B0:=F0.binds (ps:= ["turn","place"]) λ_ _ _ _ _ _ us hl=>by obtain⟨u0,u1,rfl⟩:=len2 hl;rfl
 have F1:=jzD (st:=top 5) fl1 fc1 fk1
 have B1:=F1.binds (ps:= ["turn"]) λ_ _ _ _ _ _ us hl=>by obtain⟨u0,rfl⟩:=len1 hl;rfl
 have F2:=jzD (st:=top 6) fl2 fc2 fk2
 have B2:=F2.binds (ps:= ["motion","place"]) λ_ _ _ _ _ _ us hl=>by obtain⟨u0,u1,rfl⟩:=len2 hl;rfl
 have F3:=jzD (st:=top 7) fl3 fc3 fk3
 have B3:=F3.binds (ps:= ["turn","place","goal"]) λ_ _ _ _ _ _ us hl=>by obtain⟨u0,u1,u2,rfl⟩:=len3 hl;rfl
 have F4:=jzD (st:=top 8) fl4 fc4 fk4
 have B4:=F4.binds (ps:= ["motion"]) λ_ _ _ _ _ _ us hl=>by obtain⟨u0,rfl⟩:=len1 hl;rfl
 have F5:=jzD (st:=top 10) fl5 fc5 fk5
 have B5:=F5.binds (ps:= ["ties"]) λ_ _ _ _ _ _ us hl=>by obtain⟨u0,rfl⟩:=len1 hl;rfl
 have F6:=jzD (st:=top 11) fl6 fc6 fk6
 have B6:=F6.binds (ps:= ["ties","start"]) λ_ _ _ _ _ _ us hl=>by obtain⟨u0,u1,rfl⟩:=len2 hl;rfl
 have F7:=jzD (st:=top 12) fl7 fc7 fk7
 have B7:=F7.binds (ps:= ["ties","start"]) λ_ _ _ _ _ _ us hl=>by obtain⟨u0,u1,rfl⟩:=len2 hl;rfl
 have F8:=jzD (st:=top 14) fl8 fc8 fk8
 have B8:=F8.binds (ps:= ["_law_script","_law_at","_law_many"]) λ_ _ _ _ _ _ us hl=>by obtain⟨u0,u1,u2,rfl⟩:=len3 hl;rfl
 have F9:=jzD (st:=top 15) fl9 fc9 fk9
 have B9:=F9.binds (ps:= ["_law_one","_law_two"]) λ_ _ _ _ _ _ us hl=>by obtain⟨u0,u1,rfl⟩:=len2 hl;rfl
 have F10:=jzD (st:=top 16) fl10 fc10 fk10
 have B10:=F10.binds (ps:= ["_law_d","_law_at"]) λ_ _ _ _ _ _ us hl=>by obtain⟨u0,u1,rfl⟩:=len2 hl;rfl
 have F11:=jzD (st:=top 17) fl11 fc11 fk11
 have B11:=F11.binds (ps:= ["_law_found","_law_due"]) λ_ _ _ _ _ _ us hl=>by obtain⟨u0,u1,rfl⟩:=len2 hl;rfl
 have F12:=jzD (st:=top 18) fl12 fc12 fk12
 have B12:=F12.binds (ps:= ["_law_d"]) λ_ _ _ _ _ _ us hl=>by obtain⟨u0,rfl⟩:=len1 hl;rfl
 have F13:=jzD (st:=top 19) fl13 fc13 fk13
 have B13:=F13.binds (ps:= ["_law_script"]) λ_ _ _ _ _ _ us hl=>by obtain⟨u0,rfl⟩:=len1 hl;rfl
 have F14:=jzD (st:=top 20) fl14 fc14 fk14
 have B14:=F14.binds (ps:= ["_law_tie","_law_name"]) λ_ _ _ _ _ _ us hl=>by obtain⟨u0,u1,rfl⟩:=len2 hl;rfl
 have F15:=jzD (st:=top 21) fl15 fc15 fk15
 have B15:=F15.binds (ps:= ["_law_row"]) λ_ _ _ _ _ _ us hl=>by obtain⟨u0,rfl⟩:=len1 hl;rfl
 have F16:=jzD (st:=top 22) fl16 fc16 fk16
 have B16:=F16.binds (ps:= ["_law_ties","_law_start","_law_told"]) λ_ _ _ _ _ _ us hl=>by obtain⟨u0,u1,u2,rfl⟩:=len3 hl;rfl
 have F17:=jzD (st:=top 23) fl17 fc17 fk17
 have B17:=F17.binds (ps:= ["_law_script"]) λ_ _ _ _ _ _ us hl=>by obtain⟨u0,rfl⟩:=len1 hl;rfl
 refine⟨λi=>([]:List Addr).getD i 0,⟨λf x hf=>?_,λg x d hg=>?_,λb=>?_,λt=>?_,PySem.W.mg_none_of X Gn z_range,λc x hx=>?_,λq hq=>?_,λq hq=>?_,PySem.W.mg_none_of X Gn z_ValueError,λp hp=>?_,λp hp=>?_,λp hp=>?_⟩,?_⟩
 ·refine AllP.get0 (P:=λf x=>∃c,T f=some c/\FcOk K mg G x c) (l:=G.fns) ?_ hf
  refine And.intro ⟨_,rfl,_,_,_,_,_,_,F0,sc0,rfl,rfl,B0,PySem.W.mg_of X Gn fa0,ck0⟩ ?_
  refine And.intro ⟨_,rfl,_,_,_,_,_,_,F1,sc1,rfl,rfl,B1,PySem.W.mg_of X Gn fa1,ck1⟩ ?_
  refine And.intro ⟨_,rfl,_,_,_,_,_,_,F2,sc2,rfl,rfl,B2,PySem.W.mg_of X Gn fa2,ck2⟩ ?_
  refine And.intro ⟨_,rfl,_,_,_,_,_,_,F3,sc3,rfl,rfl,B3,PySem.W.mg_of X Gn fa3,ck3⟩ ?_
  refine And.intro ⟨_,rfl,_,_,_,_,_,_,F4,sc4,rfl,rfl,B4,PySem.W.mg_of X Gn fa4,ck4⟩ ?_
  refine And.intro ⟨_,rfl,_,_,_,_,_,_,F5,sc5,rfl,rfl,B5,PySem.W.mg_of X Gn fa5,ck5⟩ ?_
  refine And.intro ⟨_,rfl,_,_,_,_,_,_,F6,sc6,rfl,rfl,B6,PySem.W.mg_of X Gn fa6,ck6⟩ ?_
  refine And.intro ⟨_,rfl,_,_,_,_,_,_,F7,sc7,rfl,rfl,B7,PySem.W.mg_of X Gn fa7,ck7⟩ ?_
  refine And.intro ⟨_,rfl,_,_,_,_,_,_,F8,sc8,rfl,rfl,B8,PySem.W.mg_of X Gn fa8,ck8⟩ ?_
  refine And.intro ⟨_,rfl,_,_,_,_,_,_,F9,sc9,rfl,rfl,B9,PySem.W.mg_of X Gn fa9,ck9⟩ ?_
  refine And.intro ⟨_,rfl,_,_,_,_,_,_,F10,sc10,rfl,rfl,B10,PySem.W.mg_of X Gn fa10,ck10⟩ ?_
  refine And.intro ⟨_,rfl,_,_,_,_,_,_,F11,sc11,rfl,rfl,B11,PySem.W.mg_of X Gn fa11,ck11⟩ ?_
  refine And.intro ⟨_,rfl,_,_,_,_,_,_,F12,sc12,rfl,rfl,B12,PySem.W.mg_of X Gn fa12,ck12⟩ ?_
  refine And.intro ⟨_,rfl,_,_,_,_,_,_,F13,sc13,rfl,rfl,B13,PySem.W.mg_of X Gn fa13,ck13⟩ ?_
  refine And.intro ⟨_,rfl,_,_,_,_,_,_,F14,sc14,rfl,rfl,B14,PySem.W.mg_of X Gn fa14,ck14⟩ ?_
  refine And.intro ⟨_,rfl,_,_,_,_,_,_,F15,sc15,rfl,rfl,B15,PySem.W.mg_of X Gn fa15,ck15⟩ ?_
  refine And.intro ⟨_,rfl,_,_,_,_,_,_,F16,sc16,rfl,rfl,B16,PySem.W.mg_of X Gn fa16,ck16⟩ ?_
  refine And.intro ⟨_,rfl,_,_,_,_,_,_,F17,sc17,rfl,rfl,B17,PySem.W.mg_of X Gn fa17,ck17⟩ ?_
  exact trivial
 ·refine AllP.get0 (P:=λ_ p=>∃v u,mg p.1=some u/\RelV v u/\∀m H,RD K m H p.2 v) (l:=G.csts) ?_ hg
  refine And.intro ⟨V.ref t0,_,PySem.W.mg_of X Gn ga0,rfl,λm H=>cstT (vs:= [V.int (0),V.int (0)]) tt0 (by show 2<=sizeLine;decide) (.cons ⟨_,rfl⟩ (.cons ⟨_,rfl⟩ .nil)) (.cons (RD.int _) (.cons (RD.int _) .nil))⟩ ?_
  refine And.intro ⟨V.ref t3,_,PySem.W.mg_of X Gn ga1,rfl,λm H=>cstT (vs:= [V.ref t4,V.ref t9,V.ref t14,V.ref t19,V.ref t24,V.ref t29,V.ref t34,V.ref t39]) tt3 (by show 8<=sizeLine;decide) (.cons rfl (.cons rfl (.cons rfl (.cons rfl (.cons rfl (.cons rfl (.cons rfl (.cons rfl .nil)))))))) (.cons (cstT (vs:= [V.int (1),V.int (0),V.int (0),V.int (1)]) tt4 (by show 4<=sizeLine;decide) (.cons ⟨_,rfl⟩ (.cons ⟨_,rfl⟩ (.cons ⟨_,rfl⟩ (.cons ⟨_,rfl⟩ .nil)))) (.cons (RD.int _) (.cons (RD.int _) (.cons (RD.int _) (.cons (RD.int _) .nil))))) (.cons (cstT (vs:= [V.int (0),V.int (-1),V.int (1),V.int (0)]) tt9 (by show 4<=sizeLine;decide) (.cons ⟨_,rfl⟩ (.cons ⟨_,rfl⟩ (.cons ⟨_,rfl⟩ (.cons ⟨_,rfl⟩ .nil)))) (.cons (RD.int _) (.cons (RD.int _) (.cons (RD.int _) (.cons (RD.int _) .nil))))) (.cons (cstT (vs:= [V.int (-1),V.int (0),V.int (0),V.int (-1)]) tt14 (by show 4<=sizeLine;decide) (.cons ⟨_,rfl⟩ (.cons ⟨_,rfl⟩ (.cons ⟨_,rfl⟩ (.cons ⟨_,rfl⟩ .nil)))) (.cons (RD.int _) (.cons (RD.int _) (.cons (RD.int _) (.cons (RD.int _) .nil))))) (.cons (cstT (vs:= [V.int (0),V.int (1),V.int (-1),V.int (0)]) tt19 (by show 4<=sizeLine;decide) (.cons ⟨_,rfl⟩ (.cons ⟨_,rfl⟩ (.cons ⟨_,rfl⟩ (.cons ⟨_,rfl⟩ .nil)))) (.cons (RD.int _) (.cons (RD.int _) (.cons (RD.int _) (.cons (RD.int _) .nil))))) (.cons (cstT (vs:= [V.int (-1),V.int (0),V.int (0),V.int (1)]) tt24 (by show 4<=sizeLine;decide) (.cons ⟨_,rfl⟩ (.cons ⟨_,rfl⟩ (.cons ⟨_,rfl⟩ (.cons ⟨_,rfl⟩ .nil)))) (.cons (RD.int _) (.cons (RD.int _) (.cons (RD.int _) (.cons (RD.int _) .nil))))) (.cons (cstT (vs:= [V.int (0),V.int (-1),V.int (-1),V.int (0)]) tt29 (by show 4<=sizeLine;decide) (.cons ⟨_,rfl⟩ (.cons ⟨_,rfl⟩ (.cons ⟨_,rfl⟩ (.cons ⟨_,rfl⟩ .nil)))) (.cons (RD.int _) (.cons (RD.int _) (.cons (RD.int _) (.cons (RD.int _) .nil))))) (.cons (cstT (vs:= [V.int (1),V.int (0),V.int (0),V.int (-1)]) tt34 (by show 4<=sizeLine;decide) (.cons ⟨_,rfl⟩ (.cons ⟨_,rfl⟩ (.cons ⟨_,rfl⟩ (.cons ⟨_,rfl⟩ .nil)))) (.cons (RD.int _) (.cons (RD.int _) (.cons (RD.int _) (.cons (RD.int _) .nil))))) (.cons (cstT (vs:= [V.int (0),V.int (1),V.int (1),V.int (0)]) tt39 (by show 4<=sizeLine;decide) (.cons ⟨_,rfl⟩ (.cons ⟨_,rfl⟩ (.cons ⟨_,rfl⟩ (.cons ⟨_,rfl⟩ .nil)))) (.cons (RD.int _) (.cons (RD.int _) (.cons (RD.int _) (.cons (RD.int _) .nil))))) .nil))))))))⟩ ?_
  refine And.intro ⟨V.int (4),_,PySem.W.mg_of X Gn ga2,⟨_,rfl⟩,λm H=>RD.int _⟩ ?_
  exact trivial
 ·cases b
  ·exact PySem.W.mg_none_of X Gn z_len
  ·exact PySem.W.mg_none_of X Gn z_isinstance
  ·exact PySem.W.mg_none_of X Gn z_int
  ·exact PySem.W.mg_none_of X Gn z_list
  ·exact PySem.W.mg_none_of X Gn z_sorted
  ·exact PySem.W.mg_none_of X Gn z_all
  ·exact PySem.W.mg_none_of X Gn z_tuple
 ·cases t
  ·exact PySem.W.mg_none_of X Gn z_int
  ·exact PySem.W.mg_none_of X Gn z_bool
  ·exact PySem.W.mg_none_of X Gn z_str
  ·exact PySem.W.mg_none_of X Gn z_tuple
  ·exact PySem.W.mg_none_of X Gn z_list
  ·exact PySem.W.mg_none_of X Gn z_dict
 ·refine AllP.get0 (P:=λc x=>mg x=some (.ref (([]:List Addr).getD c 0))/\ExcF K (([]:List Addr).getD c 0)) (l:=G.excs) ?_ hx
  exact trivial
 ·simp only[G,List.mem_cons,List.not_mem_nil,or_false] at hq
 ·simp only[G,List.mem_cons,List.not_mem_nil,or_false] at hq
 ·refine AllP.mem (i:=0) (P:=λp=>∃C,PySem.W.nsIn K mainGlobals p.1=some (some (.ref C))/\Cls K C/\NoAttr K C p.2) (l:=G.atts) ?_ hp
  exact trivial
 ·refine AllP.mem (i:=0) (P:=λp=>∃C c,PySem.W.nsIn K mainGlobals p.1=some (some (.ref C))/\Cls K C/\T p.2.2=some c/\FmOk K G (λfa=>Meth K C p.2.1 fa) p.2.1 c) (l:=G.meths) ?_ hp
  exact trivial
 ·refine AllP.mem (i:=0) (P:=λp=>∃C c,PySem.W.nsIn K mainGlobals p.1=some (some (.ref C))/\mg p.1=some (.ref C)/\T p.2=some c/\FmOk K G (λfa=>Mk K C fa) "__init__" c) (l:=G.news) ?_ hp
  exact trivial
 ·exact⟨_,λs v=>.of_eq rfl,_,_,_,_,rfl,F17,sc17,rfl,rfl,ck17⟩
end Pk12
namespace Pk12
open PySem L2 Ng
def W:Nat:=2000
theorem wzl(n:Nat)(t x y:Int)(h:Hh)(h0:0<=t)(h1:t<8):callD G T W (n+1) 0 [.int t,.tup [.int x,.int y]] h=.ok (.tup [.int (tx t x y),.int (ty t x y)]) h:=by
 obtain⟨c1,c2,c3,c4⟩:=cf_b h0 h1
 have ea:=cf_at h0 h1
 rw[jzA (c:=⟨2,8,b0⟩) rfl rfl,tx_cf,ty_cf]
 generalize (cf t).1=a1,(cf t).2.1=a2,(cf t).2.2.1=a3,(cf t).2.2.2=a4 at*
 generalize callD G T W n=cl
 show(xss G cl W b0 [some (.int t),some (.tup [.int x,.int y]),none,none,none,none,none,none] h).bind endD=_
 have e1:ev G cl (.ix (.gc 1) (.var 0)) [some (.int t),some (.tup [.int x,.int y]),some (.int x),some (.int y),none,none,none,none] h=.ok (.tup [.int a1,.int a2,.int a3,.int a4]) h:=by
  rw[evIx,evGc,gc1]
  simp only[jze]
  rw[evV (x:=.int t) rfl,jze,Ng.iTup,ea]
 rw[b0,xssNx (r':= [some (.int t),some (.tup [.int x,.int y]),some (.int x),some (.int y),none,none,none,none]) (h':=h) (by rw[xsAsg,evV (x:=.tup [.int x,.int y]) rfl];rfl),
  xssNx (r':= [some (.int t),some (.tup [.int x,.int y]),some (.int x),some (.int y),some (.int a1),some (.int a2),some (.int a3),some (.int a4)]) (h':=h) (by rw[xsAsg,e1];rfl),
  xssRt (d:=.tup [.int (a1*x+a2*y),.int (a3*x+a4*y)]) (h':=h) (by
   rw[xsRet,evTup,jzj,jzB (jzB (x:=.int a1) (y:=.int x) (evV rfl) (evV rfl) (bMul2 h c1.1 c1.2)) (jzB (x:=.int a2) (y:=.int y) (evV rfl) (evV rfl) (bMul2 h c2.1 c2.2)) (bAdd ..),jze,
    jzj,jzB (jzB (x:=.int a3) (y:=.int x) (evV rfl) (evV rfl) (bMul2 h c3.1 c3.2)) (jzB (x:=.int a4) (y:=.int y) (evV rfl) (evV rfl) (bMul2 h c4.1 c4.2)) (bAdd ..),jze,jzp]
   rfl)]
 rfl
theorem tback_ok(n:Nat)(t:Int)(h:Hh)(h0:0<=t)(h1:t<8):callD G T W (n+1) 1 [.int t] h=.ok (.int (tb t)) h:=by
 have q4:∀x:Int,binD .mod (.int x) (.int 4) h=.ok (.int (x%4)) h:=λx=>bMod h (by omega)
 rw[jzA (c:=⟨1,1,b1⟩) rfl rfl]
 by_cases c:4<=t<;>simp[b1,gc0,gc1,gc2,tb,q4,c]
theorem moved_ok(n:Nat)(t p q x y:Int)(h:Hh)(h0:0<=t)(h1:t<8):callD G T W (n+2) 2 [.tup [.int t,.int p,.int q],.tup [.int x,.int y]] h=.ok (.tup [.int (tx t x y+p),.int (ty t x y+q)]) h:=by
 rw[jzA (c:=⟨2,7,b2⟩) rfl rfl]
 simp[b2,wzl n t x y h h0 h1]
theorem vzQ(n:Nat)(t x y a b:Int)(h:Hh)(h0:0<=t)(h1:t<8):callD G T W (n+2) 3 [.int t,.tup [.int x,.int y],.tup [.int a,.int b]] h=.ok (.tup [.int t,.int (a-tx t x y),.int (b-ty t x y)]) h:=by
 rw[jzA (c:=⟨3,7,b3⟩) rfl rfl]
 simp[b3,wzl n t x y h h0 h1]
theorem back_ok(n:Nat)(t p q:Int)(h:Hh)(h0:0<=t)(h1:t<8):callD G T W (n+3) 4 [.tup [.int t,.int p,.int q]] h=.ok (.tup [.int (tb t),.int (0-tx (tb t) (tx t 0 0+p) (ty t 0 0+q)),.int (0-ty (tb t) (tx t 0 0+p) (ty t 0 0+q))]) h:=by
 rw[jzA (c:=⟨1,1,b4⟩) rfl rfl]
 obtain⟨b0,b1⟩:=tb_in h0 h1
 have e1:callD G T W (n+2) _ _ h=_:=tback_ok (n+1) t h h0 h1
 have e2:=moved_ok n t p q 0 0 h h0 h1
 have e3:=vzQ n (tb t) (tx t 0 0+p) (ty t 0 0+q) 0 0 h b0 b1
 simp[b4,gc0,gc1,gc2,atI,ixN,e1,e2,e3]
theorem draws(n:Nat)(ns:List Int)(at':Int)(M:Nat)(hM:M<=1000)(h:Hh)(h0:0<=at')(h1:at'<100000)(hs:lstAt h 0=some (ns.map D.int)):∃row:List Int,row.length=M/\InR row/\callD G T W (n+1) 8 [.ref 0,.int at',.int M] h=.ok (.ref h.length) (h++ [.lst (row.map D.int)]):=by
 obtain⟨row,r1,r2,e⟩:=draws_ok G (callD G T W n) W h 0 ns at' M hM h0 h1 hs (by decide)
 refine⟨row,r1,r2,?_⟩
 rw[jzA (c:=⟨3,7,b8⟩) rfl rfl]
 have e':xss G (callD G T W n) W b8 _ h=_:=e
 show(xss G (callD G T W n) W b8 [some (.ref 0),some (.int at'),some (.int M),none,none,none,none] h).bind endD=_
 rw[e']
 rfl
theorem far_ok(n:Nat)(a b:Int)(h:Hh)(hb:0<=b)(hb2:b<1013):∃v:Int,callD G T W (n+1) 9 [.int a,.int b] h=.ok (.int v) h:=by
 have q1:∀x:Int,binD .mod (.int x) (.int 5) h=.ok (.int (x%5)) h:=λx=>bMod h (by omega)
 have q2:∀x:Int,binD .mod (.int x) (.int 13) h=.ok (.int (x%13)) h:=λx=>bMod h (by omega)
 have q3:∀x:Int,binD .fdiv (.int x) (.int 5) h=.ok (.int (x/5)) h:=λx=>bDiv h (by omega) (by omega)
 have q4:∀x:Int,binD .mul (.int x) (.int 1013) h=.ok (.int (x*1013)) h:=λx=>bMulR h (by omega) (by omega)
 have q5:∀x:Int,binD .mul (.int (b-506)) (.int x) h=.ok (.int ((b-506)*x)) h:=λx=>bMulL h (by omega) (by omega)
 rw[jzA (c:=⟨2,2,b9⟩) rfl rfl]
 by_cases h1:a%5<3
 ·exact⟨a/5%13-6,by simp[b9,q1,q2,q3,h1]⟩
 ·by_cases h2:a%5=3
  ·exact⟨a*1013+b-513000,by simp[b9,q1,q2,q3,q4,h1,h2]⟩
  ·exact⟨(b-506)*1000000000000000000000000000+a,by simp[b9,q1,q2,q3,q4,q5,h1,h2]⟩
theorem iLast(h:Hh)(l:List D)(i:Int):ixD (.ref h.length) (.int i) (h++ [.lst l])=(match atI l i with|some d=>.ok d (h++ [.lst l])|none=>.bad):=iRef _ _ (jzx _ _)
theorem vzP(n k:Nat)(l:List Int)(at':Nat)(a0 a1 a2 a3 a4:Int)(h:Hh)(hl:lstAt h k=some (l.map D.int))(e0:l[at']? =some a0)(e1:l[at'+1]? =some a1)(e2:l[at'+2]? =some a2)(e3:l[at'+3]? =some a3)(e4:l[at'+4]? =some a4)(hr:InR l):
 ∃t p q:Int,0<=t/\t<8/\callD G T W (n+2) 10 [.ref k,.int at'] h=.ok (.tup [.int t,.int p,.int q]) h:=by
 have mem:∀(j:Nat) v,l[j]? =some v->0<=v/\v<1013:=λj v e=>hr v (List.mem_of_getElem? e)
 obtain⟨p,ep⟩:=far_ok n a1 a2 h (mem _ _ e2).1 (mem _ _ e2).2
 obtain⟨q,eq⟩:=far_ok n a3 a4 h (mem _ _ e4).1 (mem _ _ e4).2
 have g:∀(j:Nat) v,l[j]? =some v->atI (l.map D.int) (j:Int)=some (.int v):=λj v e=>jzQ (by rw[List.getElem?_map,e];rfl)
 have g0:=g _ _ e0
 have g1:=g _ _ e1
 have g2:=g _ _ e2
 have g3:=g _ _ e3
 have g4:=g _ _ e4
 simp only[Int.natCast_add,Int.cast_ofNat_Int] at g1 g2 g3 g4
 have q8:∀x:Int,binD .mod (.int x) (.int 8) h=.ok (.int (x%8)) h:=λx=>bMod h (by omega)
 refine⟨a0%8,p,q,by omega,by omega,?_⟩
 have hix:∀j:Int,ixD (.ref k) (.int j) h=(match atI (l.map D.int) j with|some d=>.ok d h|none=>.bad):=λj=>iRef h j hl
 rw[jzA (c:=⟨2,2,b10⟩) rfl rfl]
 simp[b10,hix,g0,g1,g2,g3,g4,ep,eq,q8]
abbrev sameL:Ss:=(.cons (.iff (.not (.call 11 (.cons (.ix (.var 0) (.var 2)) (.cons (.ix (.var 1) (.var 2)) .nil)))) (.cons (.ret (.bl false)) .nil) .nil) .nil)
theorem vzl{cl:Cl}(x y:D)(l:List D)(h:Hh)(hl:l.length<=1000)(ix:∀k:Nat,∀d,l[k]? =some d->ixD x (.int k) h=.ok d h/\ixD y (.int k) h=.ok d h)(hs:∀d∈l,cl 11 [d,d] h=.ok (.bl true) h)
 (ny:bltD .len [y] h=.ok (.int l.length) h):
 ∃r',xs G cl W (.forr (.nm 2) (.r1 (.blt .len (.cons (.var 1) .nil))) sameL) [some x,some y,none] h=.ok (.nx r') h:=by
 obtain⟨r',el,_⟩:=zzz (t:=.nm 2) (body:=xss G cl W sameL) (λr=>∃d2,r=[some x,some y,d2]) h (rngD 0 l.length)
  (by
    rintro d hd r ⟨d2,rfl⟩
    obtain⟨j,hj,rfl⟩:=rngD_mem hd
    have ej:l[j]? =some l[j]:=List.getElem?_eq_getElem hj
    obtain⟨i1,i2⟩:=ix j _ ej
    have es:=hs l[j] (List.getElem_mem hj)
    exact⟨_,_,rfl,by simp[sameL,i1,i2,es];rfl,_,rfl⟩)
  [some x,some y,none] ⟨none,rfl⟩
 exact⟨r',qzZ (j:=l.length) (h1:=h) (by simp[ny]) (qz7 (by omega)) el⟩
theorem wzr(d:D)(hd:pd 0 d=true)(n:Nat)(h:Hh):callD G T W (n+1) 11 [d,d] h=.ok (.bl true) h:=by
 rw[jzA (c:=⟨2,3,b11⟩) rfl rfl]
 generalize callD G T W n=cl
 have e1:∀d:D,pd 0 d=true->ev G cl (.blt .isinst (.cons (.var 1) (.cons (.tup (.cons (.ty .tuple) (.cons (.ty .list) .nil))) .nil))) [some d,some d,none] h=.ok (.bl false) h:=λd hd=>by
  simp only[evBlt,jzj,jzp,evVar,evTup,evTy,List.getElem?_cons_succ,ge0,jze,List.length_cons,List.length_nil,Nat.reduceAdd,Nat.reduceLeDiff,if_true,bIs]
  cases d<;>first |(cases hd;done)|rfl
 have eT:∀(d:D)(i:Nat)(t:Ty)(b:Bool),([some d,some d,none]:Ev)[i]? =some (some d)->isinL d (.ty t.nm) h=.ok (.bl b) h->ev G cl (.blt .isinst (.cons (.var i) (.cons (.ty t) .nil))) [some d,some d,none] h=.ok (.bl b) h:=λd i t b hi e=>by
  simp only[evBlt,jzj,jzp,evV hi,evTy,jze,bIs,e]
 have eN:∀(d:D)(i:Nat),([some d,some d,none]:Ev)[i]? =some (some d)->ev G cl (.cmp .is (.var i) .non) [some d,some d,none] h=.ok (.bl (isNon d)) h:=λd i hi=>qzF (evV hi) (evNon ..) (cIsN ..)
 have eE:∀(d:D),cmpD .eq d d h=.ok (.bl true) h->ev G cl (.cmp .eq (.var 0) (.var 1)) [some d,some d,none] h=.ok (.bl true) h:=λd e=>qzF (evV rfl) (evV rfl) e
 have eA:∀(a b:E)(r:Ev),ev G cl a r h=.ok (.bl true) h->ev G cl b r h=.ok (.bl true) h->ev G cl (.and a b) r h=.ok (.bl true) h:=λa b r ea eb=>by
  rw[evAnd,ea,jze,tBl];exact eb
 have eOf:∀(a b:E)(r:Ev),ev G cl a r h=.ok (.bl false) h->ev G cl b r h=.ok (.bl false) h->ev G cl (.or a b) r h=.ok (.bl false) h:=λa b r ea eb=>by
  rw[evOr,ea,jze,tBl];exact eb
 have rt:∀(a:E)(Z:Ss)(r:Ev),ev G cl a r h=.ok (.bl true) h->xss G cl W (.cons (.ret a) Z) r h=.ok (.rt (.bl true)) h:=λa Z r e=>xssRt (by rw[xsRet,e];rfl)
 show(xss G cl W b11 [some d,some d,none] h).bind endD=_
 have s1:∀(A Z:Ss)(c:E)(r:Ev),ev G cl c r h=.ok (.bl false) h->xss G cl W (.cons (.iff c A .nil) Z) r h=xss G cl W Z r h:=λA Z c r e=>xssNx (by rw[jzT e,jzo])
 have s2:∀(A Z:Ss)(c:E)(r:Ev),ev G cl c r h=.ok (.bl true) h->xss G cl W A r h=.ok (.rt (.bl true)) h->xss G cl W (.cons (.iff c A .nil) Z) r h=.ok (.rt (.bl true)) h:=λA Z c r e ea=>xssRt (by rw[wz9 e,ea])
 cases d with
 |non=>rw[b11,s1 _ _ _ _ (e1 _ hd),s2 _ _ _ _ (eN _ 1 rfl) (rt _ _ _ (eN _ 0 rfl))];rfl
 |bl b=>rw[b11,s1 _ _ _ _ (e1 _ hd),s1 _ _ _ _ (eN _ 1 rfl),s2 _ _ _ _ (by rw[evOr,eT _ 1 .bool true rfl rfl,jze,tBl]) (rt _ _ _ (eA _ _ _ (eT _ 1 .bool true rfl rfl) (eA _ _ _ (eT _ 0 .bool true rfl rfl) (eE _ (by simp)))))];rfl
 |int z=>rw[b11,s1 _ _ _ _ (e1 _ hd),s1 _ _ _ _ (eN _ 1 rfl),s1 _ _ _ _ (eOf _ _ _ (eT _ 1 .bool false rfl rfl) (eT _ 0 .bool false rfl rfl)),s2 _ _ _ _ (eT _ 1 .int true rfl rfl) (rt _ _ _ (eA _ _ _ (eT _ 0 .int true rfl rfl) (eE _ (by simp))))];rfl
 |str z=>rw[b11,s1 _ _ _ _ (e1 _ hd),s1 _ _ _ _ (eN _ 1 rfl),s1 _ _ _ _ (eOf _ _ _ (eT _ 1 .bool false rfl rfl) (eT _ 0 .bool false rfl rfl)),s1 _ _ _ _ (eT _ 1 .int false rfl rfl),rt _ _ _ (eA _ _ _ (eT _ 0 .str true rfl rfl) (eE _ (by simp)))];rfl
 |tup l=>cases hd
 |ref n=>cases hd
 |ty t=>cases hd
theorem vz4:∀(k:Nat)(d:D),pd k d=true->∀(n:Nat)(h:Hh),callD G T W (k+n+1) 11 [d,d] h=.ok (.bl true) h:=by
 intro k
 induction k with
 |zero=>
  intro d hd n h
  rw[Nat.zero_add]
  exact wzr d hd n h
 |succ k ih=>
  intro d hd n h
  by_cases hf:pd 0 d=true
  ·exact wzr d hf _ h
  cases d<;>first |exact absurd rfl hf|(cases hd;done)|skip
  rename_i l
  simp only[pd,Bool.and_eq_true,decide_eq_true_eq] at hd
  obtain⟨h1,h2⟩:=hd
  obtain⟨r',ef⟩:=vzl (cl:=callD G T W (k+1+n)) (.tup l) (.tup l) l h h1 (λj d ej=>by
   have ea:atI l (j:Int)=some d:=jzQ ej
   exact⟨by rw[Ng.iTup,ea],by rw[Ng.iTup,ea]⟩) (λd hd=>by
    have:=ih d (by rw[List.all_eq_true] at h2;exact h2 _ hd) n h
    rwa [show k+n+1=k+1+n by omega] at this) (by simp)
  show(xss G (callD G T W (k+1+n)) W b11 [some (.tup l),some (.tup l),none] h).bind endD=_
  rw[b11,xssRt (d:=.bl true) (h':=h) (by
   rw[xsIff,show ev G (callD G T W (k+1+n)) (.blt .isinst (.cons (.var 1) (.cons (.tup (.cons (.ty .tuple) (.cons (.ty .list) .nil))) .nil))) [some (.tup l),some (.tup l),none] h=.ok (.bl true) h from by simp,nxOk,jze]
   show xss G _ W _ _ h=_
   rw[xssNx (r':= [some (.tup l),some (.tup l),none]) (h':=h) (by simp),xssNx (r':= [some (.tup l),some (.tup l),none]) (h':=h) (by simp),xssNx ef]
   simp)]
  rfl
theorem vzm(k:Nat)(a b:Nat)(l:List D)(n:Nat)(h:Hh)(ha:lstAt h a=some l)(hb:lstAt h b=some l)(h1:l.length<=1000)(h2:l.all (pd k)=true):callD G T W (k+1+n+1) 11 [.ref a,.ref b] h=.ok (.bl true) h:=by
 rw[jzA (c:=⟨2,3,b11⟩) rfl rfl]
 obtain⟨r',ef⟩:=vzl (cl:=callD G T W (k+1+n)) (.ref a) (.ref b) l h h1 (λj d ej=>by
  have ea:atI l (j:Int)=some d:=jzQ ej
  exact⟨by rw[iRef h _ ha,ea],by rw[iRef h _ hb,ea]⟩) (λd hd=>by
   have:=vz4 k d (by rw[List.all_eq_true] at h2;exact h2 _ hd) n h
   rwa [show k+n+1=k+1+n by omega] at this) (by rw[bLen,sRef,hb])
 have t1:=isLstTL h hb
 have t2:=isLstT h ha
 have t3:=isLstT h hb
 have t4:=zzt h ha
 have t5:=zzt h hb
 show(xss G (callD G T W (k+1+n)) W b11 [some (.ref a),some (.ref b),none] h).bind endD=_
 rw[b11,xssRt (d:=.bl true) (h':=h) (by
  rw[xsIff,show ev G (callD G T W (k+1+n)) (.blt .isinst (.cons (.var 1) (.cons (.tup (.cons (.ty .tuple) (.cons (.ty .list) .nil))) .nil))) [some (.ref a),some (.ref b),none] h=.ok (.bl true) h from by simp[t1],nxOk,jze]
  show xss G _ W _ _ h=_
  rw[xssNx (r':= [some (.ref a),some (.ref b),none]) (h':=h) (by simp[t2,t3,t4,t5]),xssNx (r':= [some (.ref a),some (.ref b),none]) (h':=h) (by simp[ha,hb]),xssNx ef]
  simp)]
 rfl
theorem back'(n:Nat){a:M3}(h:Hh)(ha:ok8 a):callD G T W (n+3) 4 [mo a] h=.ok (mo (bk a)) h:=by
 obtain⟨t,p,q⟩:=a
 have e:=back_ok n t p q h ha.1 ha.2
 have z1:=t00 t
 rw[z1.1,z1.2] at e
 simpa [mo,bk] using e
theorem W2:2000<=W:=by decide
theorem drw(n:Nat)(ns:List Int):Drw (callD G T W (n+1)) 8 ns:=⟨λat' M h hM h0 h1 hs=>draws n ns at' M hM h h0 h1 hs⟩
theorem mot(n:Nat):Mot (callD G T W (n+2)) 10:=λk l h hl hn hr=>by
 match l,hn with
 | [a0,a1,a2,a3,a4,a5,a6,a7],_=>
   obtain⟨t,p,q,h0,h1,e⟩:=vzP n k [a0,a1,a2,a3,a4,a5,a6,a7] 2 a2 a3 a4 a5 a6 h hl rfl rfl rfl rfl rfl hr
   exact⟨(t,p,q),⟨h0,h1⟩,e⟩
theorem lend(n:Nat)(t:Tie)(x:Str)(h:Hh):callD G T W (n+1) 14 [t.d,.str x] h=.ok (enD t x) h:=by
 rw[jzA (c:=⟨2,2,b14⟩) rfl rfl]
 exact end_ok t x h
theorem lnames(n:Nat)(h:Hh)(dr:Nat)(row:List Int)(Q:Row h dr row)(hr:row.length=18):∃(h':Hh)(p:Nat)(l:List Str),callD G T W (n+1) 12 [.ref dr] h=.ok (.ref p) h'/\Kp h h'/\lstAt h' p=some (l.map D.str)/\0<l.length/\l.length<=12:=by
 obtain⟨h',p,l,e,r⟩:=names_ok (G:=G) (cl:=callD G T W n) (W:=W) Q hr
 refine⟨h',p,l,?_,r⟩
 rw[jzA (c:=⟨1,7,b12⟩) rfl rfl]
 exact e
theorem lweb(n:Nat)(ns:List Int)(h:Hh)(h00:lstAt h 0=some (ns.map D.int)):∃(h':Hh)(p:Nat)(ts:List Tie),callD G T W (n+3) 13 [.ref 0] h=.ok (.ref p) h'/\Kp h h'/\lstAt h' p=some (ts.map Tie.d)/\Ties ts:=by
 obtain⟨h',p,ts,e,r⟩:=web_ok (G:=G) (W:=W) (drw (n+1) ns) (mot n) (λh dr row=>lnames (n+1) h dr row) h00
 refine⟨h',p,ts,?_,r⟩
 rw[jzA (c:=⟨1,9,b13⟩) rfl rfl]
 exact e
theorem lleads(n:Nat){ts:List Tie}(Q:Ties ts){k:Nat}{h:Hh}(hn:lstAt h k=some (ts.map Tie.d)):∃h' p M,callD G T W (n+4) 5 [.ref k] h=.ok (.ref p) h'/\Tb h h' p M (λx=>(wl (ordT ts Q) x).map ent)/\∀x,valD M (.inr x)=none->wl (ordT ts Q) x=[]:=by
 obtain⟨h',p,M,e,L⟩:=leads_ok (G:=G) (cl:=callD G T W (n+3)) (bki:=4) W2 (λm h hm=>back' n h hm) Q hn
 refine⟨h',p,M,?_,L⟩
 rw[jzA (c:=⟨1,6,b5⟩) rfl rfl]
 exact e
theorem lsteps(n:Nat){ts:List Tie}(Q:Ties ts){k:Nat}{h:Hh}(x0:Str)(hn:lstAt h k=some (ts.map Tie.d)):StOk (callD G T W (n+5)) 6 k ts Q x0 h:=λh' kp=>by
 obtain⟨h2,q,e,r⟩:=steps_ok (G:=G) (cl:=callD G T W (n+4)) (W:=W) (ldi:=5) W2 Q x0 (lleads n Q (kp.lst hn))
 refine⟨h2,q,?_,r⟩
 rw[jzA (c:=⟨2,11,b6⟩) rfl rfl]
 exact e
theorem zzp(n:Nat)(ts:List Tie)(Q:Ties ts)(k:Nat)(h:Hh)(x0:Str)(hn:lstAt h k=some (ts.map Tie.d)):∃h2 P,callD G T W (n+6) 7 [.ref k,.str x0] h=.ok (.ref h.length) h2/\Kp h h2/\h2[h.length]? =some (.dct (chD P))/\(P.map λe=>e.1)=cfr x0 (stps ts Q x0)/\∀e∈P,h.length<=e.2/\h2[e.2]? =some (.lst (e.1.2.1.map D.int)):=by
 obtain⟨h2,P,e,r⟩:=zzW (G:=G) (cl:=callD G T W (n+5)) (W:=W) (sti:=6) W2 Q x0 (lsteps n Q x0 hn)
 refine⟨h2,P,?_,r⟩
 rw[jzA (c:=⟨2,7,b7⟩) rfl rfl]
 exact e
theorem pdTie(t:Tie):pd 2 t.d=true:=by simp[Tie.d,mo,pd]
theorem samei(n a b:Nat)(l:List Int)(h:Hh)(h1:lstAt h a=some (l.map D.int))(h2:lstAt h b=some (l.map D.int))(hl:l.length<=1000):callD G T W (n+2) 11 [.ref a,.ref b] h=.ok (.bl true) h:=by
 have:=vzm 0 a b (l.map D.int) n h h1 h2 (by rw[List.length_map];exact hl) (by rw[List.all_eq_true];intro d hd;obtain⟨t,_,rfl⟩:=List.mem_map.mp hd;rfl)
 rw[show n+2=0+1+n+1 by omega]
 exact this
theorem csAll(ns:List Int):C12 (callD G T W 49) ns where
 draws:=drw 48 ns
 names:=λh dr row Q hr=>lnames 48 h dr row Q hr
 web:=λh h0=>lweb 46 ns h h0
 chains:=λts Q k h x0 hn=>zzp 43 ts Q k h x0 hn
 endd:=λt x h=>lend 48 t x h
 nums:=λh c l hc hl=>by
  rw[jzA (n:=48) (c:=⟨1,2,b15⟩) rfl rfl]
  exact nums_ok W2 hc hl
 samel:=λa b ts h h1 h2 l1=>vzm 2 a b (ts.map Tie.d) 45 h h1 h2 (by rw[List.length_map];exact l1) (by rw[List.all_eq_true];intro d hd;obtain⟨t,_,rfl⟩:=List.mem_map.mp hd;exact pdTie t)
 again:=λts Q x0 a4 c5 h P eP h5 hP h4=>by
  rw[jzA (n:=48) (c:=⟨3,6,b16⟩) rfl rfl]
  obtain⟨nd,c40,c100,cin⟩:=vzy Q x0
  exact again_ok (G:=G) (cl:=callD G T W 48) (W:=W) (chi:=7) (sai:=11) W2 nd cin c40 c100 eP h5 hP h4 (λa b l h h1 h2 hl=>samei 46 a b l h h1 h2 hl) (λh hn=>zzp 42 ts Q a4 h x0 hn)
theorem run(ns:List Int)(hn:ns.length<=63):∃h',callD G T W (49+1) 17 [.ref 0] [.ro (ns.map D.int)]=.ok (.bl true) h':=by
 rw[jzA (c:=⟨1,15,b17⟩) rfl rfl]
 exact law12_ok W2 (csAll ns)
end Pk12
end
open PySem PySem.W PyProof.Rows
namespace Sh
set_option maxRecDepth 100000 in
set_option maxHeartbeats 0 in
theorem hd:PySem.Challenge.rw_nightglass_k12_told_chains.Holds:=by
 refine holds_law sd λsaid=>?_
 refine @Function.const _ True ?m ?hl
 rotate_left
 exact True.intro
 w_on;k_head;(case hw=>w_witness2)
 k_fill
 refine⟨λw=>by kernel_rfl,?_⟩
 refine Ng.law_of (G:=Pk12.G) (T:=Pk12.T) (W:=Pk12.W) (l:=PySem.Challenge.rw_nightglass_k12_told_chains) (n:=63) (k:=49) (lw:=17) (x:="_law_script") Pk12.run rfl (by decide) rfl ⟨rfl,by decide,by decide⟩ (λw h Y=>PySem.W.kIn_of Y) ?F
 case F=>
  intro w mg fa h KX Gn hmg
  refine' Pk12.all_mk KX Gn hmg ?fa0 ?fl0 ?fc0 ?fk0 ?fa1 ?fl1 ?fc1 ?fk1 ?fa2 ?fl2 ?fc2 ?fk2 ?fa3 ?fl3 ?fc3 ?fk3 ?fa4 ?fl4 ?fc4 ?fk4 ?fa5 ?fl5 ?fc5 ?fk5 ?fa6 ?fl6 ?fc6 ?fk6 ?fa7 ?fl7 ?fc7 ?fk7 ?fa8 ?fl8 ?fc8 ?fk8 ?fa9 ?fl9 ?fc9 ?fk9 ?fa10 ?fl10 ?fc10 ?fk10 ?fa11 ?fl11 ?fc11 ?fk11 ?fa12 ?fl12 ?fc12 ?fk12 ?fa13 ?fl13 ?fc13 ?fk13 ?fa14 ?fl14 ?fc14 ?fk14 ?fa15 ?fl15 ?fc15 ?fk15 ?fa16 ?fl16 ?fc16 ?fk16 ?fa17 ?fl17 ?fc17 ?fk17 ?ga0 ?tt0 ?ga1 ?tt3 ?tt4 ?tt9 ?tt14 ?tt19 ?tt24 ?tt29 ?tt34 ?tt39 ?ga2 ?z_len ?z_isinstance ?z_int ?z_list ?z_bool ?z_str ?z_tuple ?z_range ?z_max ?z_min ?z_sorted ?z_all ?z_dict ?z_ValueError
  (case fa0=>k_is)
  (case fl0=>k_is)
  (case fc0=>k_is)
  (case fk0=>k_is)
  (case fa1=>k_is)
  (case fl1=>k_is)
  (case fc1=>k_is)
  (case fk1=>k_is)
  (case fa2=>k_is)
  (case fl2=>k_is)
  (case fc2=>k_is)
  (case fk2=>k_is)
  (case fa3=>k_is)
  (case fl3=>k_is)
  (case fc3=>k_is)
  (case fk3=>k_is)
  (case fa4=>k_is)
  (case fl4=>k_is)
  (case fc4=>k_is)
  (case fk4=>k_is)
  (case fa5=>k_is)
  (case fl5=>k_is)
  (case fc5=>k_is)
  (case fk5=>k_is)
  (case fa6=>k_is)
  (case fl6=>k_is)
  (case fc6=>k_is)
  (case fk6=>k_is)
  (case fa7=>k_is)
  (case fl7=>k_is)
  (case fc7=>k_is)
  (case fk7=>k_is)
  (case fa8=>k_is)
  (case fl8=>k_is)
  (case fc8=>k_is)
  (case fk8=>k_is)
  (case fa9=>k_is)
  (case fl9=>k_is)
  (case fc9=>k_is)
  (case fk9=>k_is)
  (case fa10=>k_is)
  (case fl10=>k_is)
  (case fc10=>k_is)
  (case fk10=>k_is)
  (case fa11=>k_is)
  (case fl11=>k_is)
  (case fc11=>k_is)
  (case fk11=>k_is)
  (case fa12=>k_is)
  (case fl12=>k_is)
  (case fc12=>k_is)
  (case fk12=>k_is)
  (case fa13=>k_is)
  (case fl13=>k_is)
  (case fc13=>k_is)
  (case fk13=>k_is)
  (case fa14=>k_is)
  (case fl14=>k_is)
  (case fc14=>k_is)
  (case fk14=>k_is)
  (case fa15=>k_is)
  (case fl15=>k_is)
  (case fc15=>k_is)
  (case fk15=>k_is)
  (case fa16=>k_is)
  (case fl16=>k_is)
  (case fc16=>k_is)
  (case fk16=>k_is)
  (case fa17=>k_is)
  (case fl17=>k_is)
  (case fc17=>k_is)
  (case fk17=>k_is)
  (case ga0=>k_is)
  (case tt0=>k_is)
  (case ga1=>k_is)
  (case tt3=>k_is)
  (case tt4=>k_is)
  (case tt9=>k_is)
  (case tt14=>k_is)
  (case tt19=>k_is)
  (case tt24=>k_is)
  (case tt29=>k_is)
  (case tt34=>k_is)
  (case tt39=>k_is)
  (case ga2=>k_is)
  (case z_len=>k_is)
  (case z_isinstance=>k_is)
  (case z_int=>k_is)
  (case z_list=>k_is)
  (case z_bool=>k_is)
  (case z_str=>k_is)
  (case z_tuple=>k_is)
  (case z_range=>k_is)
  (case z_max=>k_is)
  (case z_min=>k_is)
  (case z_sorted=>k_is)
  (case z_all=>k_is)
  (case z_dict=>k_is)
  (case z_ValueError=>k_is)
end Sh
theorem PySem.Challenge.cw_nightglass_k12_told_chains_holds : PySem.Challenge.rw_nightglass_k12_told_chains.Holds :=
 Sh.hd
