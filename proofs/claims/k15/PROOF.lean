import PyProof.Rows.All
import Wide.All
import OpenK.AllK
import Wide.FinOn
import Lean
import PyProof.EqAt
import PyProof.EqKinds
import PyProof.TupleCall
import PyProof.NeKinds
import KE.RegKIsAll
import KE.KTryMore
import KE.RegKTryMore
import PyProof.StationsW
import PyProof.Rows.CatchOwn
import OpenK.KOwn
import PyProof.NsDelKeeps
import PyProof.Rows.RuleN_isinstance
import KE.KSortTup
import PyProof.Rows.StrJoin2
import PyProof.DictItems
import KE.KMinBuiltin
import PyProof.WalkInts
import PyProof.Rows.CallKwBuiltin
import KE.KPairComp
import PyProof.Rows.SortWalk
import KE.KListMore
import PyProof.ListRange
import PyProof.RangeFor
import PyProof.CompFree
import PyProof.DictCompW
import PyProof.SliceStr2
import PyProof.StrWalks
import PyProof.FitsReplace
import PySem.Challenge.RW_nightglass_k15_said_of_a_place
set_option Elab.async false
set_option linter.all false
set_option maxRecDepth 100000
set_option maxHeartbeats 4000000
set_option autoImplicit false
namespace Th
open PySem PySem.W PyProof.Rows
noncomputable def topG(g:Thread->Bool)(f:SharedT->Thread->Option (SharedT×Thread)):Nat->SharedT->Thread->Option SharedT
 |0,_,_=>none
 |n+1,s,t=>match through t with
  |true=>some s
  |false=>match g t with
   |false=>none
   |true=>match f s t with
    |some (s',t')=>topG g f n s' t'
    |none=>none
theorem vE{tb:String->Option Builtin}{p:Program}{w:World}{n₀:Nat}{ann:Option Value}:∀{n:Nat}{s s':SharedT}{t:Thread},topG (stepOk n₀ ann) (stepT (denote tb) p w) n s t=some s'->topRun tb p w n₀ ann n s.abs t=some s'.abs
 |0,_,_,_,h=>by cases h
 |n+1,s,s',t,h=>by
  unfold topG at h;unfold topRun;cases a:through t with
  |true=>rw[a] at h;cases h;rfl
  |false=>
   rw[a] at h;cases k:stepOk n₀ ann t with
   |false=>rw[k] at h;cases h
   |true=>
    rw[k] at h;cases e:stepT (denote tb) p w s t with
    |none=>rw[e] at h;cases h
    |some r=>obtain⟨s₂,t₂⟩:=r;rw[e] at h;rw[stepT_spec e];exact vE h
noncomputable def zI:List Obj->Nat->BT->BT
 | [],_,t=>t
 |o::l,n,t=>zI l (n+1) (t.ins n o)
noncomputable def bs(P:Params)(os:OsState):SharedT:=⟨zI (boot_heap P).objs.toList 0 .nil,11,(boot_heap P).life, #[],boot_drawn,boot_toks,os⟩
theorem OQ(P:Params)(os:OsState):(bs P os).abs=⟨boot_heap P, #[],boot_drawn,boot_toks,os⟩:=by kernel_rfl
theorem HL(P:Params):(boot_heap P).isNs mainGlobals=true/\(boot_heap P).objs.size=11/\(boot_heap P).nsMap mainGlobals "__annotations__"=some (.ref 6):=⟨by kernel_rfl,by kernel_rfl,by kernel_rfl⟩
theorem RN{p q p':Program}{loose:List Str}{Xt:Shared->Bool}{α:Type}{Yf:Shared->α}{Ya:World->α}{N:Nat}{F1:Nat->Option Value->Thread->Bool}{F2:(Code->Sem Fin)->Program->World->SharedT->Thread->Option (SharedT×Thread)}{F3:(String->Option Builtin)->Code->Sem Fin}{F4:String->Option Builtin}{F5:Program->List Str->List Str->(Shared->Bool)->Bool->Shared->_}{F6:List Stmt->List Str}
 (h1:@stepOk=F1)(h2:@stepT=F2)(h3:@denote=F3)(h4:@treeTable=F4)(h5:@openSeen=F5)(h6:@importedModules=F6)(hp:p=p')
 (e:opening p=plainProg p.main.scope.names)(hN:Nat.ble 600 N=true)(f:∀s,fenceModules? p s=some s)
 (run:∀(w:World)(os:OsState),(topG (F1 11 (some (.ref 6))) (F2 (F3 F4) p' w) N (bs w.params os) (topStub p')).map (λs=>(staticsOk (F6 p'.main.body) (boot_heap w.params) s.abs.heap&&namesBound p' s.abs.heap&&gensDone s.abs&&laidKept (boot_heap w.params) s.abs.heap,F5 q loose (F6 p'.main.body) Xt true s.abs,Yf s.abs))=some (true,openGood q loose,Ya w)):LeftO p q loose Xt Yf Ya N:=λw=>by
 subst hp h1 h2 h3 h4 h5 h6;obtain⟨s,hs,hv⟩:=Option.map_eq_some_iff.mp (boot_open (p:=p) (N:=N) e hN f w);obtain⟨hp,gs,dr,tk,os⟩:=s;simp only[Prod.mk.injEq] at hv;obtain⟨rfl,rfl,rfl,rfl⟩:=hv;obtain⟨s1,h1,h2⟩:=Option.map_eq_some_iff.mp (run w os);simp only[Prod.mk.injEq] at h2;obtain⟨a1,a2,a3⟩:=h2;have t:=vE h1;rw[OQ] at t;obtain⟨g1,g2,g3⟩:=HL w.params;unfold openEnds;rw[hs]
 show((topFrom treeTable p w N ⟨boot_heap w.params, #[],boot_drawn,boot_toks,os⟩).map _)=_
 unfold topFrom;simp only[g1,g2,g3];have e2:(true&&(#[]:Array GenState).size==0)=true:=rfl;rw[e2,t]
 show(match staticsOk (importedModules p.main.body) (boot_heap w.params) s1.abs.heap&&namesBound p s1.abs.heap&&gensDone s1.abs&&laidKept (boot_heap w.params) s1.abs.heap with|true=>some s1.abs|false=>none).map _=_
 rw[a1];show some (openSeen q loose (importedModules p.main.body) Xt true s1.abs,Yf s1.abs)=some _;rw[a2,a3]
end Th
namespace Sh
open PySem PySem.W PyProof.Rows
theorem pair_of{α β γ:Type}{o:Option α}{f:α->β}{g:α->γ}{b:β}{c:γ}(h1:o.map f=some b)(h2:o.map g=some c):o.map (λs=>(f s,g s))=some (b,c):=by
 cases o with
 |none=>cases h1
 |some a=>cases h1;cases h2;rfl
class Cc (C:outParam Prop):Prop where
 out:C
def Kp{C:Prop}(_:Cc C):Prop:=True
theorem PySem.W.holds_open{r:OpenRow}{q:Program}{loose:List Str}{Xt:Shared->Bool}{XP:(Str->Option Value)->Heap->Prop}{α:Type}{Yf:Shared->α}{Ya:World->α}{YP:World->Heap->Prop}{d:DefRec}{kwd:List (Str×Expr)}{N:Nat}{C:Prop} [i:Cc C]
 (_:True)(hY:∀w s,Yf s=Ya w->YP w s.heap)(hYk:∀w h h',YP w h->(∀b o,h.get? b=some o->h'.get? b=some o)->YP w h')
 (hX:∀s,Xt s=true->XP (s.heap.nsMap mainGlobals) s.heap)(hXk:∀mg h h',XP mg h->(∀b o,h.get? b=some o->h'.get? b=some o)->XP mg h')
 (hdef:defOf q r.name=some (d,kwd))(hp:r.prog.theDef r.name=some (d.params,d.body,d.scope))(hk:kwWritten? d.params.kwonlyargs d.params.kw_defaults=some kwd)(hRf:∀s,Xt s=true->RecFacts r.records s.heap)(hwr:(!r.writes||r.records.isEmpty)=true)
 (k1:r.wellSaid=true)(ok:(chainsOk q&&opensWell r.prog&&(frees r.toRowW&&r.within.isEmpty))=true)(hb:r.prog.bare)(hw:r.toRowW.promised)
 (call:Kp i/\LeftO r.prog q loose Xt Yf Ya N/\WalkO q loose XP YP r.toRowW d kwd λf vs=>PySem.call f vs):r.Holds:=
 _root_.PySem.W.holds_open call.2.1 hY hYk hX hXk hdef hp hk hRf hwr k1 ok hb hw call.2.2
end Sh
open PySem PySem.W PyProof.Rows
namespace Sh
theorem sd:PySem.Challenge.rw_nightglass_k15_said_of_a_place.wellSaid=true:=by kernel_rfl
structure PackT (H:Prop) where
 C:Prop
 imp:Cc C->H
set_option maxHeartbeats 0 in
noncomputable def pk:PackT PySem.Challenge.rw_nightglass_k15_said_of_a_place.Holds:=by
 refine' ⟨_,λc=>?g⟩
 case g=>
  refine holds_law sd λsaid=>?_
  refine @Function.const _ True ?m ?hl
  rotate_left
  exact True.intro
  w_on;k_head;(case hw=>w_witness2)
  k_fill
  refine⟨True.intro,Th.RN PySem.W.Fast.te6613529449190102663 PySem.W.Fast.te10156331382660048174 PySem.W.Fast.te11892475500146522536 PySem.W.Fast.te14364793385576792824 PySem.W.Fast.te4187177175401517315 PySem.W.Fast.te5923862056798008813 rfl (by kernel_rfl) (by decide) (λs=>by kernel_rfl) (λw os=>by kernel_rfl),?_⟩
  exact c.out
end Sh
namespace L2
open PySem PySem.Spec PyProof.Rows
abbrev Key:=Sum Int Str
def keyIs:Key->Value->Bool
 |.inl k,v=>Value.isInt k v
 |.inr x,v=>Value.isStrOf x v
def keyH(w:World):Key->Int
 |.inl k=>hashInt k
 |.inr x=>hashStr w x
theorem jzA:∀{k:Key}{v:Value},keyIs k v=true->(∃i t,k=Sum.inl i/\v=Value.int i t)\/(∃x t,k=Sum.inr x/\v=Value.str x t)
 |.inl i,v,h=>by
  obtain⟨t,e⟩:=Value.isInt_shape (k:=i) (v:=v) h
  exact .inl ⟨i,t,rfl,e⟩
 |.inr x,v,h=>by
  obtain⟨t,e⟩:=Value.isStrOf_shape (x:=x) (v:=v) h
  exact .inr ⟨x,t,rfl,e⟩
theorem zz0(i:Int)(t:Tok):keyIs (.inl i) (.int i t)=true:=by simp[keyIs,Value.isInt]
theorem zzZ(x:Str)(t:Tok):keyIs (.inr x) (.str x t)=true:=by simp[keyIs,Value.isStrOf]
theorem key_ll(a b:Int):decide ((Sum.inl a:Key)=Sum.inl b)=(a==b):=by
 by_cases e:a=b
 ·subst e;simp
 ·have h:¬(Sum.inl a:Key)=Sum.inl b:=λq=>e (Sum.inl.inj q)
  rw[decide_eq_false h]
  exact(beq_eq_false_iff_ne.mpr e).symm
theorem key_rr(a b:Str):decide ((Sum.inr a:Key)=Sum.inr b)=decide (a=b):=by
 by_cases e:a=b
 ·subst e;simp
 ·have h:¬(Sum.inr a:Key)=Sum.inr b:=λq=>e (Sum.inr.inj q)
  rw[decide_eq_false h,decide_eq_false e]
theorem key_lr(a:Int)(b:Str):decide ((Sum.inl a:Key)=Sum.inr b)=false:=decide_eq_false (λq=>nomatch q)
theorem key_rl(a:Str)(b:Int):decide ((Sum.inr a:Key)=Sum.inl b)=false:=decide_eq_false (λq=>nomatch q)
def mixKind(prog:Program)(w:World):PySem.KeyKind prog w Key where
 is:=keyIs
 hash:=keyH w
 inj:=λv a b ha hb=>by
  rcases jzA ha with ⟨i,t,rfl,rfl⟩|⟨x,t,rfl,rfl⟩
  ·rcases jzA hb with ⟨j,u,rfl,e⟩|⟨y,u,rfl,e⟩
   ·injection e with e1 _;rw[e1]
   ·exact nomatch e
  ·rcases jzA hb with ⟨j,u,rfl,e⟩|⟨y,u,rfl,e⟩
   ·exact nomatch e
   ·injection e with e1 _;rw[e1]
 byValue:=λk v h=>by
  rcases jzA h with ⟨i,t,rfl,rfl⟩|⟨x,t,rfl,rfl⟩<;>rfl
 pyHash:=λhv h=>by
  rcases jzA hv with ⟨i,t,rfl,rfl⟩|⟨x,t,rfl,rfl⟩
  ·exact wpAny_pyHash_int h
  ·exact wpAny_pyHash_str h
 eqBool:=λhu hv h=>by
  rcases jzA hu with ⟨i,t,rfl,rfl⟩|⟨x,t,rfl,rfl⟩
  ·rcases jzA hv with ⟨j,u,rfl,rfl⟩|⟨y,u,rfl,rfl⟩
   ·rw[key_ll] at h;exact wpAny_eqBool_int h
   ·rw[key_lr] at h;exact SeqAt.EqAt.int_str i t y u _ _ _ _ h
  ·rcases jzA hv with ⟨j,u,rfl,rfl⟩|⟨y,u,rfl,rfl⟩
   ·rw[key_rl] at h;exact SeqAt.EqAt.str_int x t j u _ _ _ _ h
   ·rw[key_rr] at h;exact wpAny_eqBool_str h
 «strs»:=λk x t v h=>by
  rcases jzA h with ⟨i,u,rfl,e⟩|⟨y,u,rfl,e⟩
  ·exact nomatch e
  ·injection e with e1 _
   subst e1
   cases v<;>rfl
theorem vze(prog:Program)(w:World)(i:Int)(t:Tok):(mixKind prog w).is (.inl i) (.int i t)=true:=zz0 i t
theorem vzd(prog:Program)(w:World)(x:Str)(t:Tok):(mixKind prog w).is (.inr x) (.str x t)=true:=zzZ x t
end L2
namespace L2
open PySem PySem.Spec PyProof.Rows
inductive V where
 |non|bl (b:Bool)|int (i:Int)|str (x:Str)|byt (b:Array UInt8)|flt (b:UInt64)|ref (a:Addr)|ty (n:String)
 deriving DecidableEq
def RelV:V->Value->Prop
 |.non,u=>u=Value.none
 |.bl b,u=>u=Value.bool b
 |.int i,u=>∃t,u=Value.int i t
 |.str x,u=>∃t,u=Value.str x t
 |.byt b,u=>∃t,u=Value.bytes b t
 |.flt b,u=>∃t,u=Value.float b t
 |.ref a,u=>u=Value.ref a
 |.ty n,u=>u=Value.type n
abbrev Vals:List V->List Value->Prop:=Paired RelV
theorem Vals.length{xs:List V}{us:List Value}(r:Vals xs us):xs.length=us.length:=Paired.length r
theorem Vals.get:∀{xs:List V}{us:List Value}{i:Nat}{x:V},Vals xs us->xs[i]? =some x->∃u,us[i]? =some u/\RelV x u
 |_,_,_,_,.nil,e=>by simp at e
 |_,_,0,_,.cons r _,e=>by simp at e;subst e;exact⟨_,rfl,r⟩
 |_,_,i+1,x,.cons _ t,e=>by
  obtain⟨u,h1,h2⟩:=Vals.get (i:=i) (x:=x) t (by simpa using e)
  exact⟨u,by simpa using h1,h2⟩
theorem Vals.append:∀{xs ys:List V}{us ws:List Value},Vals xs us->Vals ys ws->Vals (xs++ys) (us++ws)
 |_,_,_,_,.nil,s=>s
 |_,_,_,_,.cons r t,s=>.cons r (Vals.append t s)
theorem Vals.take:∀{xs:List V}{us:List Value}(n:Nat),Vals xs us->Vals (xs.take n) (us.take n)
 |_,_,0,_=>.nil
 |_,_,_+1,.nil=>.nil
 |_,_,n+1,.cons r t=>.cons r (Vals.take n t)
theorem Vals.drop:∀{xs:List V}{us:List Value}(n:Nat),Vals xs us->Vals (xs.drop n) (us.drop n)
 |_,_,0,r=>r
 |_,_,_+1,.nil=>.nil
 |_,_,n+1,.cons _ t=>Vals.drop n t
def RelO:Option V->Option Value->Prop
 |some v,some u=>RelV v u
 |none,none=>True
 |_,_=>False
def KV{κ:Type}:List (κ×V)->List (κ×Value)->Prop:=Paired λ(p:κ×V)(q:κ×Value)=>p.1=q.1/\RelV p.2 q.2
def kV:Key->V
 |.inl i=>.int i
 |.inr x=>.str x
inductive HO where
 /-- a list -/
 |lst (xs:List V)
 /-- a tuple (never changes) -/
 |tup (xs:List V)
 /-- a dict whose keys are ints and texts;one whose keys are tuples of ints and texts (the empty one is both) -/
 |dK (kvs:List (Key×V))|dT (kvs:List (List Key×V))
 /-- a set of ints:its members,its size -/
 |set (S:Int->Bool) (n:Nat)
 /-- an instance of the class at C,its dict at dx,its attributes -/
 |ins (C dx:Addr) (fs:List (Str×V))
 /-- the dict of the instance at x -/
 |own (x:Addr)
 /-- the dict of an exception -/
 |xd (fs:List (Str×V))
 /-- a bound method,f of x -/
 |met (f x:Addr)
 /-- a range object lo,lo+1,.. below hi -/
 |rng (lo hi:Int)
 /-- a thing that is known to the object (the script;a dict while a loop walks it):read,never written while it is so -/
 |frz (o:Obj) (u:HO)
 /-- a code object's table -/
 |tbl (ps:Array Value)
 /-- any other thing,by what is true of its one object (a def of one's own:SetO a S n:=HO.ext λh=>..) -/
 |ext (φ:Heap->Prop)
abbrev Hp:=Addr->Option HO
def upd(H:Hp)(a:Addr)(o:HO):Hp:=λb=>if b=a then some o else H b
theorem jzy{H:Hp}{a:Addr}{o:HO}:upd H a o a=some o:=by unfold upd;rw[if_pos rfl]
theorem jzl{H:Hp}{a b:Addr}{o:HO}(h:b≠a):upd H a o b=H b:=by unfold upd;rw[if_neg h]
theorem ne_of{H:Hp}{a b:Addr}{o u:HO}(h:H a=some o)(h':H b=some u)(d:o≠u):a≠b:=by
 intro e;subst e;rw[h] at h';exact d (Option.some.inj h')
theorem jzs{H:Hp}{a b:Addr}{o:HO}(h:H a=some o)(h':H b=none):a≠b:=by
 intro e;subst e;rw[h] at h';cases h'
section
variable (P:Program)(w:World)
def ObjOk(H:Hp)(h:Heap)(a:Addr):HO->Prop
 |.lst xs=>xs.length<=sizeLine/\∃(its:List Value)(n:Nat),Vals xs its/\h.get? a=some {cls:=.type "list",data:=.seq its.toArray n}
 |.tup xs=>xs.length<=sizeLine/\∃its:List Value,Vals xs its/\IsTup h a its.toArray
 |.dK kvs=>kvs.length<=sizeLine/\(a==sysModules)=false/\∃vs,KV kvs vs/\h.DictOf (mixKind P w) a vs
 |.dT kvs=>kvs.length<=sizeLine/\(a==sysModules)=false/\∃xs:List (List Key×Addr×Value),
   Paired (λ(p:List Key×V)(q:List Key×Addr×Value)=>p.1=q.1/\H q.2.1=some (.tup (p.1.map kV))/\RelV p.2 q.2.2) kvs xs/\
   ∃o es ep,h.get? a=some o/\o.ExactDict/\o.data=.dict es ep/\es.toList=xs.map (entryOfKey (tupleKind (mixKind P w)))/\(xs.map (·.1)).Nodup
 |.set S n=>h.SetOf (intKind P w) a S n
 |.ins C dx fs=>H dx=some (.own a)/\fs.length<=1000/\dx≠a/\h.get? a=some (PySem.W.instObj C dx)/\
   ∃mA,h.Ns1 dx mA/\(∀f,RelO (fs.lookup f) (mA f))/\PySem.Within mA (fs.map (·.1))
 |.own _=>∃o,h.get? a=some o
 |.xd fs=>∃mA,h.Ns1 a mA/\∀f,RelO (fs.lookup f) (mA f)
 |.rng lo hi=>∃t u v,h.get? a=some {cls:=.type "range",data:=.fields #[.int lo t,.int hi u,.int 1 v]}
 |.frz o u=>h.get? a=some o/\ObjOk H h a u
 |.tbl ps=>h.get? a=some {cls:=.none,data:=.fields ps}
 |.met f x=>h.get? a=some (PySem.W.methodObj (.ref f) (.ref x))
 |.ext φ=>φ h/\(∃o,h.get? a=some o)/\∀h1 h2:Heap,φ h1->(∀o,h1.get? a=some o->h2.get? a=some o)->φ h2
def HOk(H:Hp)(h:Heap):Prop:=∀a o,H a=some o->ObjOk P w H h a o
end
section
variable {P:Program}{w:World}{H H':Hp}{h h':Heap}{a:Addr}{o:HO}
theorem ObjOk.lt(x:ObjOk P w H h a o):a<h.objs.size:=by
 cases o with
 |lst xs=>obtain⟨_,_,_,_,e⟩:=x;exact Heap.lt_size e
 |tup xs=>obtain⟨_,_,_,p⟩:=x;exact p.lt
 |dK kvs=>obtain⟨_,_,_,_,o,_,_,e,_⟩:=x;exact Heap.lt_size e
 |dT kvs=>obtain⟨_,_,_,_,o,_,_,e,_⟩:=x;exact Heap.lt_size e
 |set S n=>obtain⟨o,_,_,_,e,_⟩:=x;exact Heap.lt_size e
 |ins C dx fs=>obtain⟨_,_,_,e,_⟩:=x;exact Heap.lt_size e
 |own y=>obtain⟨_,e⟩:=x;exact Heap.lt_size e
 |xd fs=>obtain⟨_,⟨_,_,_,e,_⟩,_⟩:=x;exact Heap.lt_size e
 |rng lo hi=>obtain⟨_,_,_,e⟩:=x;exact Heap.lt_size e
 |frz ob u=>obtain⟨e,_⟩:=x;exact Heap.lt_size e
 |tbl ps=>exact Heap.lt_size (show h.get? a=some _ from x)
 |met f y=>exact Heap.lt_size (show h.get? a=some _ from x)
 |ext φ=>obtain⟨_,⟨_,e⟩,_⟩:=x;exact Heap.lt_size e
theorem Paired.mapP{α β:Type}{F G:α->β->Prop}:∀{l₁:List α}{l₂:List β},Paired F l₁ l₂->(∀a b,F a b->G a b)->Paired G l₁ l₂
 |_,_,.nil,_=>.nil
 |_,_,.cons r t,f=>.cons (f _ _ r) (Paired.mapP t f)
theorem ObjOk.stay(x:ObjOk P w H h a o)(k:∀b u,(b=a\/H b=some (.own a))->h.get? b=some u->h'.get? b=some u)
 (ho:∀b,H b=some (.own a)->H' b=some (.own a))(ht:∀b xs,H b=some (.tup xs)->H' b=some (.tup xs)):ObjOk P w H' h' a o:=by
 induction o with
 |lst xs=>obtain⟨z,its,n,r,e⟩:=x;exact⟨z,its,n,r,k _ _ (.inl rfl) e⟩
 |tup xs=>obtain⟨z,its,r,ob,e,c⟩:=x;exact⟨z,its,r,ob,k _ _ (.inl rfl) e,c⟩
 |dK kvs=>obtain⟨z,y,vs,r,ob,es,ep,e,c⟩:=x;exact⟨z,y,vs,r,ob,es,ep,k _ _ (.inl rfl) e,c⟩
 |dT kvs=>
  obtain⟨z,y,xs,r,ob,es,ep,e,c⟩:=x
  exact⟨z,y,xs,Paired.mapP r λp q z=>⟨z.1,ht _ _ z.2.1,z.2.2⟩,ob,es,ep,k _ _ (.inl rfl) e,c⟩
 |set S n=>obtain⟨ob,es,ep,t,e,c⟩:=x;exact⟨ob,es,ep,t,k _ _ (.inl rfl) e,c⟩
 |ins C dx fs=>
  obtain⟨d,z,ne,e,mA,⟨od,es,ep,e2,c⟩,r⟩:=x
  exact⟨ho _ d,z,ne,k _ _ (.inl rfl) e,mA,⟨od,es,ep,k _ _ (.inr d) e2,c⟩,r⟩
 |own y=>obtain⟨ob,e⟩:=x;exact⟨ob,k _ _ (.inl rfl) e⟩
 |xd fs=>obtain⟨mA,⟨od,es,ep,e,c⟩,r⟩:=x;exact⟨mA,⟨od,es,ep,k _ _ (.inl rfl) e,c⟩,r⟩
 |rng lo hi=>obtain⟨t,u,v,e⟩:=x;exact⟨t,u,v,k _ _ (.inl rfl) e⟩
 |frz ob u ih=>obtain⟨e,q⟩:=x;exact⟨k _ _ (.inl rfl) e,ih q⟩
 |tbl ps=>
  have e:h.get? a=some {cls:=.none,data:=.fields ps}:=x
  show h'.get? a=some {cls:=.none,data:=.fields ps}
  exact k a _ (.inl rfl) e
 |met f y=>
  have e:h.get? a=some (PySem.W.methodObj (.ref f) (.ref y)):=x
  show h'.get? a=some (PySem.W.methodObj (.ref f) (.ref y))
  exact k a _ (.inl rfl) e
 |ext φ=>obtain⟨p,⟨o,e⟩,st⟩:=x;exact⟨st _ _ p λo q=>k _ _ (.inl rfl) q,⟨o,k _ _ (.inl rfl) e⟩,st⟩
theorem HOk.lt(x:HOk P w H h)(e:H a=some o):a<h.objs.size:=(x a o e).lt
theorem HOk.fresh(x:HOk P w H h)(e:h.objs.size<=a):H a=none:=by
 cases q:H a with
 |none=>rfl
 |some u=>exact absurd (Nat.lt_of_lt_of_le (x.lt q) e) (Nat.lt_irrefl _)
theorem HOk.kept(x:HOk P w H h)(k:∀b u,h.get? b=some u->h'.get? b=some u):HOk P w H h':=λa o e=>
 (x a o e).stay (λb u _ q=>k b u q) (λ_ q=>q) λ_ _ q=>q
theorem HOk.laid(x:HOk P w H h)(k:∀b u,h.get? b=some u->h'.get? b=some u)(hp:h.objs.size<=a)(new:ObjOk P w (upd H a o) h' a o):HOk P w (upd H a o) h':=λb u e=>by
 have hn:=x.fresh hp
 by_cases hb:b=a
 ·subst hb;rw[jzy] at e;cases e;exact new
 ·rw[jzl hb] at e
  exact(x b u e).stay (λc v _ q=>k c v q) (λc q=>by rw[jzl (jzs q hn)];exact q) λc xs q=>by rw[jzl (jzs q hn)];exact q
end
def Rd(H:Hp)(a:Addr)(u:HO):Prop:=H a=some u\/∃o,H a=some (.frz o u)
theorem Rd.ok{P:Program}{w:World}{H:Hp}{h:Heap}{a:Addr}{u:HO}(r:Rd H a u)(x:HOk P w H h):ObjOk P w H h a u:=by
 rcases r with r|⟨o,r⟩
 ·exact x a u r
 ·obtain⟨_,q⟩:=x a _ r
  exact q
def Mut:Option HO->Prop
 |some (.lst _)=>True
 |some (.dK _)=>True
 |some (.dT _)=>True
 |some (.set _ _)=>True
 |some (.ins _ _ _)=>True
 |some (.ext _)=>True
 |_=>False
section
variable {P:Program}{w:World}{H:Hp}{h h':Heap}{x e:Addr}{o':HO}
theorem HOk.write(ok:HOk P w H h)(mu:Mut (H x))(he:e=x\/H e=some (.own x))(k:∀b u,b≠e->h.get? b=some u->h'.get? b=some u)(heo:∃u,h'.get? e=some u)
 (new:ObjOk P w (upd H x o') h' x o'):HOk P w (upd H x o') h':=λb u q=>by
 have nown:∀c y,H c=some (.own y)->c≠x:=λc y r z=>by subst z;rw[r] at mu;exact mu
 have ntup:∀c xs,H c=some (.tup xs)->c≠x:=λc xs r z=>by subst z;rw[r] at mu;exact mu
 by_cases hb:b=x
 ·subst hb;rw[jzy] at q;cases q;exact new
 ·rw[jzl hb] at q
  by_cases hbe:b=e
  ·have q':H b=some (.own x):=by
    rcases he with z|z
    ·exact absurd (hbe.trans z) hb
    ·rw[hbe];exact z
   rw[q] at q';cases q'
   obtain⟨v,hv⟩:=heo
   exact⟨v,by rw[hbe];exact hv⟩
  ·refine(ok b u q).stay (λc v hc r=>k c v ?_ r) (λc r=>by rw[jzl (nown c b r)];exact r) λc xs r=>by rw[jzl (ntup c xs r)];exact r
   rcases hc with rfl|hc
   ·exact hbe
   ·rintro rfl
    rcases he with z|z
    ·exact nown c b hc z
    ·rw[hc] at z;cases z;exact hb rfl
end
structure Un (fs ex:List Addr)(H H':Hp)(h h':Heap):Prop where
 keep:∀b o,h.get? b=some o->H b=none->b ∉ fs->b ∉ ex->h'.get? b=some o
 slot:∀b o,h.get? b=some o->H b=none->b∈fs->b ∉ ex->∃sl,h'.get? b=some {o with slots:=sl}
 free:∀b o,h.get? b=some o->H b=none->b ∉ ex->H' b=none
 there:∀b o,h.get? b=some o->b ∉ ex->∃o',h'.get? b=some o'
 tups:∀b xs,H b=some (.tup xs)->H' b=some (.tup xs)
 frzs:∀b o u,H b=some (.frz o u)->H' b=some (.frz o u)
 tbls:∀b ps,H b=some (.tbl ps)->∃more,H' b=some (.tbl (ps++more))
section
variable {fs fs' ex ex':List Addr}{H H1 H2:Hp}{h h1 h2 h':Heap}{a x e:Addr}{o:HO}
theorem Un.any(u:Un fs ex H H1 h h1){b:Addr}{ob:Obj}(q:h.get? b=some ob)(n:H b=none)(hx:b ∉ ex):∃sl,h1.get? b=some {ob with slots:=sl}:=by
 by_cases hb:b∈fs
 ·exact u.slot b ob q n hb hx
 ·exact⟨ob.slots,u.keep b ob q n hb hx⟩
theorem Un.kept(k:∀b u,h.get? b=some u->h'.get? b=some u):Un fs ex H H h h':=
 ⟨λb ob q _ _ _=>k b ob q,λb ob q _ _ _=>⟨ob.slots,k b ob q⟩,λ_ _ _ n _=>n,λb ob q _=>⟨ob,k b ob q⟩,λ_ _ q=>q,λ_ _ _ q=>q,λ_ ps q=>⟨#[],by rw[q];simp⟩⟩
theorem Un.refl:Un fs ex H H h h:=Un.kept λ_ _ q=>q
theorem Un.laid(k:∀b u,h.get? b=some u->h'.get? b=some u)(hp:h.objs.size<=a)(hn:H a=none):Un fs ex H (upd H a o) h h' where
 keep:=λb u q _ _ _=>k b u q
 slot:=λb u q _ _ _=>⟨u.slots,k b u q⟩
 free:=λb u q n _=>by rw[jzl (Nat.ne_of_lt (Nat.lt_of_lt_of_le (Heap.lt_size q) hp))];exact n
 there:=λb u q _=>⟨u,k b u q⟩
 tups:=λb xs q=>by rw[jzl (jzs q hn)];exact q
 frzs:=λb u xs q=>by rw[jzl (jzs q hn)];exact q
 tbls:=λb ps q=>⟨#[],by rw[jzl (jzs q hn),q];simp⟩
theorem Un.write(mu:Mut (H x))(he:e=x\/H e=some (.own x))(k:∀b u,b≠e->h.get? b=some u->h'.get? b=some u)(heo:∃u,h'.get? e=some u):Un fs ex H (upd H x o) h h':=by
 have hx:∀b,H b=none->b≠x:=λb n z=>by subst z;rw[n] at mu;exact mu
 have hb:∀b,H b=none->b≠e:=λb n z=>by
  subst z
  rcases he with r|r
  ·exact hx b n r
  ·rw[n] at r;cases r
 have hm:∀b u,H b=some u->¬Mut (some u)->b≠x:=λb u q nm z=>by subst z;rw[q] at mu;exact nm mu
 refine⟨λb u q n _ _=>k b u (hb b n) q,λb u q n _ _=>⟨u.slots,k b u (hb b n) q⟩,λb u q n _=>by rw[jzl (hx b n)];exact n,λb u q _=>?_,
  λb xs q=>by rw[jzl (hm b _ q λz=>z)];exact q,λb u xs q=>by rw[jzl (hm b _ q λz=>z)];exact q,λb ps q=>⟨#[],by rw[jzl (hm b _ q λz=>z),q];simp⟩⟩
 by_cases hbe:b=e
 ·subst hbe;exact heo
 ·exact⟨u,k b u hbe q⟩
end
def trk(h:Heap)(H:Hp):List Addr:=(List.range h.objs.size).filter λa=>(H a).isSome
def hidT(h:Heap)(H:Hp):Heap:=PySem.W.hideAll h (trk h H)
theorem zz4(h:Heap)(H:Hp):(hidT h H).objs.size=h.objs.size:=PySem.W.hideAll_size _ _
theorem hidT_get{h:Heap}{H:Hp}{b:Addr}{o:Obj}(e:h.get? b=some o)(n:H b=none):(hidT h H).get? b=some o:=
 PySem.W.hideAll_get _ e λhm=>by
  have q:(H b).isSome=true:=(List.mem_filter.mp hm).2
  rw[n] at q;simp at q
theorem of_hidT{h:Heap}{H:Hp}{b:Addr}{o:Obj}(e:(hidT h H).get? b=some o):h.get? b=some o/\H b=none:=by
 have e':h.get? b=some o:=PySem.W.of_hideAll (trk h H) e
 refine⟨e',?_⟩
 cases q:H b with
 |none=>rfl
 |some x=>
  have hm:b∈trk h H:=List.mem_filter.mpr ⟨List.mem_range.mpr (Heap.lt_size e'),by simp[q]⟩
  have z:(hidT h H).get? b=none:=PySem.W.hideAll_none (trk h H) hm
  rw[z] at e;cases e
def allNews(g h:Heap)(L:Addr):List (Addr×Obj):=(List.range h.objs.size).filterMap λa=>if a=L\/(g.get? a).isSome=true then none else(h.get? a).map λo=>(a,o)
theorem jz7{g h:Heap}{L a:Addr}{o:Obj}(h1:a≠L)(h2:g.get? a=none)(h3:h.get? a=some o):(a,o)∈allNews g h L:=
 List.mem_filterMap.mpr ⟨a,List.mem_range.mpr (Heap.lt_size h3),by simp[h1,h2,h3]⟩
theorem qzX{g h:Heap}{L:Addr}{p:Addr×Obj}(hp:p∈allNews g h L):p.1≠L/\g.get? p.1=none/\h.get? p.1=some p.2:=by
 obtain⟨b,_,e⟩:=List.mem_filterMap.mp hp
 split at e
 ·cases e
 ·rename_i hn
  cases q:h.get? b with
  |none=>rw[q] at e;simp at e
  |some u=>
   rw[q] at e
   simp only[Option.map_some,Option.some.injEq] at e
   subst e
   refine⟨λz=>hn (.inl z),?_,q⟩
   show g.get? b=none
   cases r:g.get? b with
   |none=>rfl
   |some v=>exact(hn (.inr (by simp[r]))).elim
def rest(g h:Heap)(L d:Addr):List (Addr×Obj):=(allNews g h L).filter λp=>decide (p.1≠d)
theorem news_all{g h:Heap}{L:Addr}:News g L h (allNews g h L):=λp hp=>let⟨a,b,c⟩:=qzX hp;⟨c,a,b⟩
end L2
namespace L2
open PySem PySem.Spec PyProof.Rows
structure Mod (K:PySem.W.Frag)(mg:Str->Option Value)(base:Heap):Prop where
 kin:K.In base
 glob:base.Ns mainGlobals mg
 blt:∃mb,base.Ns builtinsNs mb/\∀x:Str,x≠"__name__"->mb x=bootBuiltins x
 nolimit:base.NoLimit
structure Cx where
 prog:Program
 w:World
 K:PySem.W.Frag
 mg:Str->Option Value
 base:Heap
 A:Around
 N:List Str
 s₀:Shared
 H₀:Hp
 env:Env
 outer:List Env
 stack:List Env
 ex:List Addr
 fn:Str->Bool
 calm:Bool
 pn:List (Addr×Obj)
 xe:Value->Shared->Prop
def frs(l:List Env):List Addr:=l.filterMap (·.frame)
abbrev Cx.fs(X:Cx):List Addr:=frs X.outer
def Vis(sc:Scope)(x:Str):Prop:=sc.names.lookup x=some .local\/sc.names.lookup x=some .cell\/sc.names.lookup x=some .free
def Loc(sc:Scope)(x:Str):Prop:=sc.names.lookup x=some .local\/sc.names.lookup x=some .cell
def Look(env:Env)(h:Heap)(m:Str->Option Value)(x:Str)(u:Value):Prop:=
 (env.kindOf x=some .local/\m x=some u)\/((env.kindOf x=some .cell\/env.kindOf x=some .free)/\∃c,env.cells.lookup x=some c/\h.IsCell c (some u))
structure Cx.Ok (X:Cx):Prop where
 mod:Mod X.K X.mg X.base
 kind:X.env.scope.kind=.function
 glob:X.env.globals=mainGlobals
 blt:X.env.builtins=builtinsNs
 above:X.s₀.heap.objs.size<=X.env.locals
 inj:∀x y c,X.env.cells.lookup x=some c->X.env.cells.lookup y=some c->x=y
 has:∀x,(X.env.kindOf x=some .cell\/X.env.kindOf x=some .free)->∃c,X.env.cells.lookup x=some c
 cab:∀x c,X.fn x=true->X.env.cells.lookup x=some c->X.s₀.heap.objs.size<=c
 hd:X.calm=true->X.A.handled=none
 frames:X.A.frames=some X.stack
 stk:X.stack=X.outer\/(X.stack=X.env::X.outer/\X.env.frame=some X.env.locals)
 exf:∀b∈X.ex,b≠X.env.locals/\∀x c,X.env.cells.lookup x=some c->c≠b
 bs:∀b o,X.base.get? b=some o->X.s₀.heap.get? b=some o/\X.H₀ b=none
 bsz:X.base.objs.size<=X.s₀.heap.objs.size
 noex:∀b o,X.base.get? b=some o->b ∉ X.ex
 exfs:∀b∈X.ex,b ∉ X.fs
 funs:X.s₀.heap.FunFrames X.base X.outer
 frf:∀b∈X.fs,X.H₀ b=none
structure Inv (X:Cx)(pins:List (Addr×Obj))(σ:List (Option V))(H:Hp)(s:Shared):Prop where
 ok:X.Ok
 os:s.os=X.s₀.os
 bare:AllBare s.gens
 base:Un X.fs X.ex X.H₀ H X.s₀.heap s.heap
 loc:∃m,s.heap.Ns X.env.locals m/\∀(i:Nat)(x:Str)(v:V),X.N[i]? =some x->σ[i]? =some (some v)->Vis X.env.scope x->∃u,RelV v u/\Look X.env s.heap m x u
 cell:∀x c,X.env.cells.lookup x=some c->∃v,s.heap.IsCell c v
 free:H X.env.locals=none
 freeC:∀x c,X.env.cells.lookup x=some c->H c=none
 pin:∀p∈X.pn++pins,s.heap.get? p.1=some p.2/\H p.1=none/\p.1≠X.env.locals/\p.1 ∉ X.fs/\∀v,p.2.data≠ .cell v
 hok:HOk X.prog X.w H s.heap
 len:σ.length=X.N.length
section
variable {X:Cx}{pins:List (Addr×Obj)}{σ:List (Option V)}{H H':Hp}{s:Shared}{h':Heap}
theorem Cx.Ok.nofr(ok:X.Ok){b:Addr}{o:Obj}(e:X.base.get? b=some o):b ∉ X.fs:=λhb=>by
 have:=(ok.funs.mem hb).1
 rw[e] at this;cases this
theorem Inv.bs(I:Inv X pins σ H s):∀b o,X.base.get? b=some o->s.heap.get? b=some o/\H b=none:=λb o e=>
 ⟨I.base.keep b o (I.ok.bs b o e).1 (I.ok.bs b o e).2 (I.ok.nofr e) (I.ok.noex b o e),I.base.free b o (I.ok.bs b o e).1 (I.ok.bs b o e).2 (I.ok.noex b o e)⟩
theorem Inv.bk(I:Inv X pins σ H s):∀b o,X.base.get? b=some o->s.heap.get? b=some o:=λb o e=>(I.bs b o e).1
theorem Inv.mod(I:Inv X pins σ H s):Mod X.K X.mg X.base:=I.ok.mod
theorem Inv.kIn(I:Inv X pins σ H s):X.K.In s.heap:=I.ok.mod.kin.keeps I.bk
theorem Inv.fr(I:Inv X pins σ H s):∃m,Fr X.base X.env.locals s.heap m:=
 let⟨m,hn,_⟩:=I.loc
 ⟨m,hn,I.bk,Nat.le_trans I.ok.bsz I.ok.above⟩
theorem Inv.lt(I:Inv X pins σ H s):X.env.locals<s.heap.objs.size:=let⟨_,hn,_⟩:=I.loc;hn.lt
theorem Inv.sz(I:Inv X pins σ H s):X.s₀.heap.objs.size<=s.heap.objs.size:=Nat.le_trans I.ok.above (Nat.le_of_lt I.lt)
theorem Inv.nofs(I:Inv X pins σ H s){a:Addr}(h:s.heap.objs.size<=a):a ∉ X.fs:=λhb=>by
 obtain⟨_,o,ho,_⟩:=I.ok.funs.mem hb
 exact absurd (Nat.lt_of_lt_of_le (Heap.lt_size ho) (Nat.le_trans I.sz h)) (Nat.lt_irrefl _)
theorem Inv.cne(I:Inv X pins σ H s):∀x c,X.env.cells.lookup x=some c->c≠X.env.locals:=λx c e z=>by
 obtain⟨v,o,ho,hd⟩:=I.cell x c e
 obtain⟨m,⟨o',es,ep,ho',hd',_⟩,_⟩:=I.loc
 rw[z,ho'] at ho;cases ho;rw[hd'] at hd;cases hd
theorem Inv.funs(I:Inv X pins σ H s):s.heap.FunFrames X.base X.outer:=by
 have all:∀(l:List Env),(∀b∈frs l,b∈X.fs)->X.s₀.heap.FunFrames X.base l->s.heap.FunFrames X.base l:=by
  intro l
  induction l with
  |nil=>intro _ _;trivial
  |cons env r ih=>
   intro hs hl
   obtain⟨hk,⟨L,o,hf,hn,ho,hd⟩,hr⟩:=hl
   have hL:L∈X.fs:=hs L (by unfold frs;rw[List.filterMap_cons,hf];exact List.mem_cons_self)
   obtain⟨sl,e⟩:=I.base.slot L o ho (I.ok.frf L hL) hL λz=>I.ok.exfs L z hL
   exact⟨hk,⟨L,_,hf,hn,e,hd⟩,ih (λb hb=>hs b (by unfold frs;rw[List.filterMap_cons,hf];exact List.mem_cons_of_mem _ hb)) hr⟩
 exact all X.outer (λ_ hb=>hb) I.ok.funs
theorem Inv.stack(I:Inv X pins σ H s):s.heap.FunFrames X.base X.stack:=by
 rcases I.ok.stk with e|⟨e,hf⟩
 ·rw[e];exact I.funs
 ·rw[e]
  obtain⟨m,hn,_⟩:=I.loc
  refine .cons (by rw[I.ok.kind];decide) hf hn ?_ I.funs
  exact Heap.get?_none_of_le (Nat.le_trans I.ok.bsz I.ok.above)
theorem Inv.stkSub(I:Inv X pins σ H s):∀b∈frs X.stack,b∈X.env.locals::X.fs:=λb hb=>by
 rcases I.ok.stk with e|⟨e,hf⟩
 ·rw[e] at hb;exact List.mem_cons_of_mem _ hb
 ·rw[e] at hb
  unfold frs at hb
  rw[List.filterMap_cons,hf] at hb
  exact hb
theorem Inv.stkFree(I:Inv X pins σ H s):∀b∈frs X.stack,H b=none:=λb hb=>by
 rcases List.mem_cons.mp (I.stkSub b hb) with e|hb
 ·rw[e];exact I.free
 ·obtain⟨_,o,ho,_⟩:=I.ok.funs.mem hb
  exact I.base.free b o ho (I.ok.frf b hb) λz=>I.ok.exfs b z hb
theorem Inv.step{g':Array GenState}{t':Nat}{d':Drawn}{ch:List Addr}(I:Inv X pins σ H s)
 (hch:∀b∈ch,(b∈X.ex\/X.s₀.heap.objs.size<=b)/\b≠X.env.locals/\(∀x c,X.env.cells.lookup x=some c->c≠b)/\∀p∈X.pn++pins,p.1≠b)
 (keep:∀b o,b≠X.env.locals->b ∉ X.fs->b ∉ ch->s.heap.get? b=some o->H b=none->h'.get? b=some o)
 (slot:∀b o,b≠X.env.locals->b∈X.fs->b ∉ ch->s.heap.get? b=some o->H b=none->∃sl,h'.get? b=some {o with slots:=sl})(free:∀b o,b ∉ ch->s.heap.get? b=some o->H b=none->H' b=none)
 (there:∀b o,b ∉ ch->s.heap.get? b=some o->∃o',h'.get? b=some o')
 (tups:∀b xs,H b=some (.tup xs)->H' b=some (.tup xs))(frzs:∀b o u,H b=some (.frz o u)->H' b=some (.frz o u))(tbls:∀b ps,H b=some (.tbl ps)->∃more,H' b=some (.tbl (ps++more)))
 (ns:∀m,s.heap.Ns X.env.locals m->h'.Ns X.env.locals m)(hok:HOk X.prog X.w H' h')(hg:AllBare g'):
 Inv X pins σ H' {s with heap:=h',gens:=g',drawn:=d',toks:=t'}:=by
 have neL:∀b o,X.s₀.heap.get? b=some o->b≠X.env.locals:=λb o e=>Nat.ne_of_lt (Nat.lt_of_lt_of_le (Heap.lt_size e) I.ok.above)
 have neC:∀b o,X.s₀.heap.get? b=some o->b ∉ X.ex->b ∉ ch:=λb o e hx hb=>by
  rcases(hch b hb).1 with z|z
  ·exact hx z
  ·exact absurd (Nat.lt_of_lt_of_le (Heap.lt_size e) z) (Nat.lt_irrefl _)
 have cellK:∀x c,X.env.cells.lookup x=some c->∀v,s.heap.IsCell c v->h'.IsCell c v:=λx c e v ⟨o,ho,hd⟩=>by
  have nch:c ∉ ch:=λz=>(hch c z).2.2.1 x c e rfl
  by_cases hc:c∈X.fs
  ·obtain⟨sl,q⟩:=slot c o (I.cne x c e) hc nch ho (I.freeC x c e)
   exact⟨_,q,hd⟩
  ·exact⟨o,keep c o (I.cne x c e) hc nch ho (I.freeC x c e),hd⟩
 refine⟨I.ok,I.os,hg,⟨λb o e n hb hx=>?_,λb o e n hb hx=>?_,λb o e n hx=>?_,λb o e hx=>?_,λb xs e=>tups b xs (I.base.tups b xs e),λb o xs e=>frzs b o xs (I.base.frzs b o xs e),λb ps e=>?_⟩,?_,λx c e=>?_,?_,λx c e=>?_,λp hp=>?_,hok,I.len⟩
 ·exact keep b o (neL b o e) hb (neC b o e hx) (I.base.keep b o e n hb hx) (I.base.free b o e n hx)
 ·obtain⟨sl,e1⟩:=I.base.slot b o e n hb hx
  obtain⟨sl',e2⟩:=slot b _ (neL b o e) hb (neC b o e hx) e1 (I.base.free b o e n hx)
  exact⟨sl',e2⟩
 ·obtain⟨o',e1⟩:=I.base.there b o e hx
  exact free b o' (neC b o e hx) e1 (I.base.free b o e n hx)
 ·obtain⟨o',e1⟩:=I.base.there b o e hx
  exact there b o' (neC b o e hx) e1
 ·obtain⟨m1,e1⟩:=I.base.tbls b ps e
  obtain⟨m2,e2⟩:=tbls b _ e1
  exact⟨m1++m2,by rw[e2,Array.append_assoc]⟩
 ·obtain⟨m,hn,hl⟩:=I.loc
  refine⟨m,ns m hn,λi x v e1 e2 e3=>?_⟩
  obtain⟨u,r,l⟩:=hl i x v e1 e2 e3
  refine⟨u,r,?_⟩
  rcases l with l|⟨k,c,e,z⟩
  ·exact .inl l
  ·exact .inr ⟨k,c,e,cellK x c e _ z⟩
 ·obtain⟨v,z⟩:=I.cell x c e
  exact⟨v,cellK x c e v z⟩
 ·obtain⟨m,⟨o,_,_,ho,_⟩,_⟩:=I.loc
  exact free _ o (λz=>(hch _ z).2.1 rfl) ho I.free
 ·obtain⟨v,o,ho,hd⟩:=I.cell x c e
  exact free c o (λz=>(hch c z).2.2.1 x c e rfl) ho (I.freeC x c e)
 ·obtain⟨e,n,ne,nf,d⟩:=I.pin p hp
  have nch:p.1 ∉ ch:=λz=>(hch p.1 z).2.2.2 p hp rfl
  exact⟨keep p.1 p.2 ne nf nch e n,free p.1 p.2 nch e n,ne,nf,d⟩
theorem Inv.un{t':Nat}(I:Inv X pins σ H s)(u:Un X.fs [] H H' s.heap h')(hok:HOk X.prog X.w H' h'):Inv X pins σ H' {s with heap:=h',toks:=t'}:=by
 obtain⟨m,⟨o,es,ep,ho,r⟩,_⟩:=id I.loc
 obtain⟨sl,hL⟩:=u.any ho I.free (by simp)
 exact I.step (g':=s.gens) (d':=s.drawn) (ch:= []) (λ_ z=>nomatch z) (λb o _ hb _ e n=>u.keep b o e n hb (by simp)) (λb o _ hb _ e n=>u.slot b o e n hb (by simp)) (λb o _ e n=>u.free b o e n (by simp)) (λb o _ e=>u.there b o e (by simp)) u.tups u.frzs u.tbls (λm' hm=>by
  obtain⟨o',es',ep',ho',r'⟩:=hm
  rw[ho] at ho';cases ho'
  exact⟨_,es',ep',hL,r'⟩) hok I.bare
theorem Inv.call{g':Array GenState}{t':Nat}{d':Drawn}{ch:List Addr}(I:Inv X pins σ H s)(u:Un (frs X.stack) ch H H' s.heap h')(hok:HOk X.prog X.w H' h')(hg:AllBare g')
 (hch:∀b∈ch,(b∈X.ex\/X.s₀.heap.objs.size<=b)/\b≠X.env.locals/\(∀x c,X.env.cells.lookup x=some c->c≠b)/\∀p∈X.pn++pins,p.1≠b):
 Inv X pins σ H' {s with heap:=h',gens:=g',drawn:=d',toks:=t'}:=by
 obtain⟨m,⟨o,es,ep,ho,r⟩,_⟩:=id I.loc
 obtain⟨sl,hL⟩:=u.any ho I.free λz=>(hch _ z).2.1 rfl
 exact I.step (ch:=ch) hch (λb o hL hb hc e n=>u.keep b o e n (λz=>(List.mem_cons.mp (I.stkSub b z)).elim hL hb) hc) (λb o _ _ hc e n=>u.any e n hc) (λb o hc e n=>u.free b o e n hc) (λb o hc e=>u.there b o e hc) u.tups u.frzs u.tbls (λm' hm=>by
  obtain⟨o',es',ep',ho',r'⟩:=hm
  rw[ho] at ho';cases ho'
  exact⟨_,es',ep',hL,r'⟩) hok hg
theorem Inv.turned{t':Nat}{it:Addr}(I:Inv X pins σ H s)(k:∀b o,b≠it->s.heap.get? b=some o->h'.get? b=some o)(hn:H it=none)(hL:it≠X.env.locals)
 (h1:it∈X.ex\/X.s₀.heap.objs.size<=it)(h2:∀x c,X.env.cells.lookup x=some c->c≠it)(h3:∀p∈X.pn++pins,p.1≠it):Inv X pins σ H {s with heap:=h',toks:=t'}:=by
 have nit:∀b u,H b=some u->b≠it:=λb u e z=>by rw[z,hn] at e;cases e
 refine I.step (g':=s.gens) (d':=s.drawn) (ch:= [it]) (λb hb=>?_) (λb o _ _ hc e _=>k b o (λz=>hc (by simp[z])) e) (λb o _ _ hc e _=>⟨o.slots,k b o (λz=>hc (by simp[z])) e⟩) (λ_ _ _ _ n=>n)
  (λb o hc e=>⟨o,k b o (λz=>hc (by simp[z])) e⟩) (λ_ _ e=>e) (λ_ _ _ e=>e) (λb ps e=>⟨#[],by rw[e];simp⟩) (λm hm=>?_) (λb u e=>?_) I.bare
 ·have e:b=it:=by simpa using hb
  subst e
  exact⟨h1,hL,h2,h3⟩
 ·obtain⟨o,es,ep,ho,r⟩:=hm
  exact⟨o,es,ep,k _ o (Ne.symm hL) ho,r⟩
 ·refine(I.hok b u e).stay (λc v hc q=>k c v ?_ q) (λ_ q=>q) λ_ _ q=>q
  rcases hc with z|z
  ·rw[z];exact nit b u e
  ·exact nit c _ z
theorem Inv.tok(I:Inv X pins σ H s)(t:Nat):Inv X pins σ H {s with toks:=t}:=I.un (h':=s.heap) (t':=t) Un.refl I.hok
theorem Inv.kept{t':Nat}(I:Inv X pins σ H s)(k:∀b u,s.heap.get? b=some u->h'.get? b=some u):Inv X pins σ H {s with heap:=h',toks:=t'}:=I.un (Un.kept k) (I.hok.kept k)
theorem Inv.laid{a:Addr}{o:HO}{t':Nat}(I:Inv X pins σ H s)(k:∀b u,s.heap.get? b=some u->h'.get? b=some u)(hp:s.heap.objs.size<=a)(new:ObjOk X.prog X.w (upd H a o) h' a o):
 Inv X pins σ (upd H a o) {s with heap:=h',toks:=t'}:=I.un (Un.laid k hp (I.hok.fresh hp)) (I.hok.laid k hp new)
theorem Inv.write{x e:Addr}{o:HO}{t':Nat}(I:Inv X pins σ H s)(mu:Mut (H x))(he:e=x\/H e=some (.own x))(k:∀b u,b≠e->s.heap.get? b=some u->h'.get? b=some u)(heo:∃u,h'.get? e=some u)
 (new:ObjOk X.prog X.w (upd H x o) h' x o):Inv X pins σ (upd H x o) {s with heap:=h',toks:=t'}:=I.un (Un.write mu he k heo) (I.hok.write mu he k heo new)
theorem Inv.pins_of{pins':List (Addr×Obj)}(I:Inv X pins σ H s)(h:∀p∈pins',s.heap.get? p.1=some p.2/\H p.1=none/\p.1≠X.env.locals/\p.1 ∉ X.fs/\∀v,p.2.data≠ .cell v):Inv X pins' σ H s:=
 ⟨I.ok,I.os,I.bare,I.base,I.loc,I.cell,I.free,I.freeC,λp hp=>(List.mem_append.mp hp).elim (λz=>I.pin p (List.mem_append_left _ z)) (h p),I.hok,I.len⟩
theorem wzo{N:List Str}(hN:N.Nodup){i j:Nat}{x:Str}(a:N[i]? =some x)(b:N[j]? =some x):i=j:=by
 obtain⟨h1,e1⟩:=List.getElem?_eq_some_iff.mp a
 obtain⟨h2,e2⟩:=List.getElem?_eq_some_iff.mp b
 exact(List.getElem_inj hN).mp (e1.trans e2.symm)
theorem wzH{M:Model}{A:Around}{E:Value->Shared->Prop}{i:Nat}{x:Str}{v:V}{u:Value}{Q:Unit->Shared->Prop}(I:Inv X pins σ H s)(hN:X.N.Nodup)(hi:X.N[i]? =some x)(hx:Loc X.env.scope x)(r:RelV v u)
 (h:∀s',Inv X pins (σ.set i (some v)) H s'->(∃a,Heap.SameBut a s.heap s'.heap/\(a=X.env.locals\/X.env.cells.lookup x=some a))->Q () s')(hf:X.fn x=true\/X.env.scope.names.lookup x=some .local:=by first |exact .inl rfl|exact .inr rfl|assumption):wpAny M A (storeName X.env x u) Q E s:=by
 obtain⟨m,hn,hl⟩:=id I.loc
 have hcls:(X.env.scope.kind== .class||(X.env.scope.kind== .module&&X.env.locals != X.env.globals))=false:=by rw[I.ok.kind];rfl
 have hiσ:i<σ.length:=by rw[I.len];exact(List.getElem?_eq_some_iff.mp hi).1
 have cne:=I.cne
 have tracked:∀{a:Addr}{h':Heap},(∃o,s.heap.get? a=some o/\H a=none)->Heap.SameBut a s.heap h'->HOk X.prog X.w H h':=λ{a h'} ha hs b ob e=>by
  obtain⟨_,_,hfree⟩:=ha
  refine(I.hok b ob e).stay (λc w' hc q=>(hs.2 c ?_).trans q) (λ_ q=>q) λ_ _ q=>q
  rintro rfl
  rcases hc with rfl|hc
  ·rw[hfree] at e;cases e
  ·rw[hfree] at hc;cases hc
 rcases hx with hk|hk
 ·refine wpAny_storeName_local hk hn (λh' hn' hs=>?_) hcls
  obtain⟨oL,_,_,hoL,_⟩:=id hn
  refine h _ ⟨I.ok,I.os,I.bare,⟨λb o e n hb hx=>?_,λb o e n hb hx=>?_,I.base.free,λb o e hx=>?_,I.base.tups,I.base.frzs,I.base.tbls⟩,⟨_,hn',λj y v' e1 e2 e3=>?_⟩,λy c e=>?_,I.free,I.freeC,λp hp=>?_,tracked ⟨oL,hoL,I.free⟩ hs,by simpa using I.len⟩ ⟨_,hs,.inl rfl⟩
  ·exact(hs.2 b (Nat.ne_of_lt (Nat.lt_of_lt_of_le (Heap.lt_size e) I.ok.above))).trans (I.base.keep b o e n hb hx)
  ·obtain⟨sl,e1⟩:=I.base.slot b o e n hb hx
   exact⟨sl,(hs.2 b (Nat.ne_of_lt (Nat.lt_of_lt_of_le (Heap.lt_size e) I.ok.above))).trans e1⟩
  ·obtain⟨o',e1⟩:=I.base.there b o e hx
   exact⟨o',(hs.2 b (Nat.ne_of_lt (Nat.lt_of_lt_of_le (Heap.lt_size e) I.ok.above))).trans e1⟩
  ·by_cases hj:j=i
   ·subst hj
    rw[hi] at e1;cases e1
    rw[List.getElem?_set_self hiσ] at e2
    cases e2
    exact⟨u,r,.inl ⟨hk,by simp⟩⟩
   ·rw[List.getElem?_set_ne (Ne.symm hj)] at e2
    obtain⟨u',r',q⟩:=hl j y v' e1 e2 e3
    refine⟨u',r',?_⟩
    rcases q with ⟨k,e⟩|⟨k,c,e,z⟩
    ·refine .inl ⟨k,?_⟩
     have:y≠x:=λe=>hj (wzo hN e1 (e ▸ hi))
     simp[this,e]
    ·exact .inr ⟨k,c,e,z.sameBut hs (cne y c e)⟩
  ·obtain⟨w',z⟩:=I.cell y c e
   exact⟨w',z.sameBut hs (cne y c e)⟩
  ·obtain⟨e,n,ne,nf,d⟩:=I.pin p hp
   exact⟨(hs.2 p.1 ne).trans e,n,ne,nf,d⟩
 ·have hfn:X.fn x=true:=by
   rcases hf with z|z
   ·exact z
   ·rw[z] at hk;cases hk
  obtain⟨c,hc⟩:=I.ok.has x (.inl hk)
  obtain⟨w',z⟩:=I.cell x c hc
  refine wpAny_storeName_cell I.ok.kind hk hc z (λh' hc' hs=>?_)
  obtain⟨oc,hoc,hocd⟩:=id z
  refine h {s with heap:=h'} ⟨I.ok,I.os,I.bare,⟨λb o e n hb hx=>?_,λb o e n hb hx=>?_,I.base.free,λb o e hx=>?_,I.base.tups,I.base.frzs,I.base.tbls⟩,⟨m,hn.sameBut hs (Ne.symm (cne x c hc)),λj y v' e1 e2 e3=>?_⟩,λy c' e=>?_,I.free,I.freeC,λp hp=>?_,tracked ⟨oc,hoc,I.freeC x c hc⟩ hs,by simpa using I.len⟩ ⟨c,hs,.inr hc⟩
  ·exact(hs.2 b (Nat.ne_of_lt (Nat.lt_of_lt_of_le (Heap.lt_size e) (I.ok.cab x c hfn hc)))).trans (I.base.keep b o e n hb hx)
  ·obtain⟨sl,e1⟩:=I.base.slot b o e n hb hx
   exact⟨sl,(hs.2 b (Nat.ne_of_lt (Nat.lt_of_lt_of_le (Heap.lt_size e) (I.ok.cab x c hfn hc)))).trans e1⟩
  ·obtain⟨o',e1⟩:=I.base.there b o e hx
   exact⟨o',(hs.2 b (Nat.ne_of_lt (Nat.lt_of_lt_of_le (Heap.lt_size e) (I.ok.cab x c hfn hc)))).trans e1⟩
  ·by_cases hj:j=i
   ·subst hj
    rw[hi] at e1;cases e1
    rw[List.getElem?_set_self hiσ] at e2
    cases e2
    exact⟨u,r,.inr ⟨.inl hk,c,hc,hc'⟩⟩
   ·rw[List.getElem?_set_ne (Ne.symm hj)] at e2
    obtain⟨u',r',q⟩:=hl j y v' e1 e2 e3
    refine⟨u',r',?_⟩
    rcases q with q|⟨k,c',e,z'⟩
    ·exact .inl q
    ·refine .inr ⟨k,c',e,z'.sameBut hs ?_⟩
     rintro rfl
     exact hj (wzo hN e1 (I.ok.inj _ _ _ e hc ▸ hi))
  ·by_cases hcc:c'=c
   ·subst hcc;exact⟨_,hc'⟩
   ·obtain⟨w2,z2⟩:=I.cell y c' e
    exact⟨w2,z2.sameBut hs hcc⟩
  ·obtain⟨e,n,ne,nf,d⟩:=I.pin p hp
   refine⟨(hs.2 p.1 ?_).trans e,n,ne,nf,d⟩
   intro q
   rw[q,hoc] at e
   have q':oc=p.2:=Option.some.inj e
   exact d w' (by rw[<- q'];exact hocd)
theorem wzh{M:Model}{A:Around}{E:Value->Shared->Prop}{i:Nat}{x:Str}{v:V}{u:Value}{Q:Unit->Shared->Prop}(I:Inv X pins σ H s)(hN:X.N.Nodup)(hi:X.N[i]? =some x)(hx:Loc X.env.scope x)(r:RelV v u)
 (h:∀s',Inv X pins (σ.set i (some v)) H s'->Q () s')(hf:X.fn x=true\/X.env.scope.names.lookup x=some .local:=by first |exact .inl rfl|exact .inr rfl|assumption):wpAny M A (storeName X.env x u) Q E s:=
 wzH I hN hi hx r (λs' I' _=>h s' I') hf
theorem Inv.call'{s':Shared}{ch:List Addr}(I:Inv X pins σ H s)(ho:s'.os=s.os)(u:Un (frs X.stack) ch H H' s.heap s'.heap)(hok:HOk X.prog X.w H' s'.heap)(hg:AllBare s'.gens)
 (hch:∀b∈ch,(b∈X.ex\/X.s₀.heap.objs.size<=b)/\b≠X.env.locals/\(∀x c,X.env.cells.lookup x=some c->c≠b)/\∀p∈X.pn++pins,p.1≠b):Inv X pins σ H' s':=by
 obtain⟨h',g',d',t',o'⟩:=s'
 have e:o'=s.os:=ho
 subst e
 exact I.call (g':=g') (t':=t') (d':=d') u hok hg hch
end
abbrev XK:=Value->Option Addr->Hp->Prop
abbrev St:=List (Option V)
abbrev VK:=V->Hp->Prop
abbrev TE:=St->Hp->VK->Prop
abbrev TT:=St->Hp->(Bool->Hp->Prop)->Prop
abbrev TA:=St->Hp->(List V->Hp->Prop)->Prop
structure Ends where
 nx:St->Hp->Prop
 rt:VK
 bk:St->Hp->Prop:=λ_ _=>False
 ct:St->Hp->Prop:=λ_ _=>False
abbrev TS:=Ends->St->Hp->Prop
def EP(X:Cx)(pins:List (Addr×Obj))(σ:St)(Q:VK)(u:Value)(s':Shared):Prop:=∃v H',Inv X pins σ H' s'/\RelV v u/\Q v H'
def TP(X:Cx)(pins:List (Addr×Obj))(σ:St)(Q:Bool->Hp->Prop)(b:Bool)(s':Shared):Prop:=∃H',Inv X pins σ H' s'/\Q b H'
def AP(X:Cx)(pins:List (Addr×Obj))(σ:St)(Q:List V->Hp->Prop)(us:List Value)(s':Shared):Prop:=∃vs H',Inv X pins σ H' s'/\Vals vs us/\Q vs H'
def SP(X:Cx)(pins:List (Addr×Obj))(D:Ends)(f:Flow)(s':Shared):Prop:=
 match f with
 |.next=>∃σ' H',Inv X pins σ' H' s'/\D.nx σ' H'
 |.brk=>∃σ' H',Inv X pins σ' H' s'/\D.bk σ' H'
 |.cont=>∃σ' H',Inv X pins σ' H' s'/\D.ct σ' H'
 |.ret u=>∃v σ' H',Inv X pins σ' H' s'/\RelV v u/\D.rt v H'
def PE(X:Cx)(e:Expr)(t:TE):Prop:=
 ∀(pins:List (Addr×Obj))(s:Shared)(σ:St)(H:Hp)(Q:VK),Inv X pins σ H s->t σ H Q->wpAny (model X.prog X.w) X.A (eval e X.env) (EP X pins σ Q) X.xe s
def PT(X:Cx)(e:Expr)(t:TT):Prop:=
 ∀(pins:List (Addr×Obj))(s:Shared)(σ:St)(H:Hp)(Q:Bool->Hp->Prop),Inv X pins σ H s->t σ H Q->wpAny (model X.prog X.w) X.A (isTrue e X.env (eval e X.env)) (TP X pins σ Q) X.xe s
def PW(X:Cx)(e:Expr)(t:TT):Prop:=
 ∀(whole:Sem Value)(pins:List (Addr×Obj))(s:Shared)(σ:St)(H:Hp)(Q:Bool->Hp->Prop),Inv X pins σ H s->t σ H Q->wpAny (model X.prog X.w) X.A (isTrue e X.env whole) (TP X pins σ Q) X.xe s
theorem PW.pt{X:Cx}{e:Expr}{t:TT}(h:PW X e t):PT X e t:=h _
def PA(X:Cx)(es:List Expr)(t:TA):Prop:=
 ∀(pos:Pos)(pins:List (Addr×Obj))(s:Shared)(σ:St)(H:Hp)(Q:List V->Hp->Prop),Inv X pins σ H s->t σ H Q->wpAny (model X.prog X.w) X.A (spliced (backTo pos (starEach es X.env))) (AP X pins σ Q) X.xe s
def PS(X:Cx)(st:Stmt)(t:TS):Prop:=
 ∀(pins:List (Addr×Obj))(s:Shared)(σ:St)(H:Hp)(D:Ends),Inv X pins σ H s->t D σ H->wpAny (model X.prog X.w) X.A (exec st X.env) (SP X pins D) X.xe s
def PSs(X:Cx)(st:List Stmt)(t:TS):Prop:=
 ∀(pins:List (Addr×Obj))(s:Shared)(σ:St)(H:Hp)(D:Ends),Inv X pins σ H s->t D σ H->wpAny (model X.prog X.w) X.A (execs st X.env) (SP X pins D) X.xe s
theorem thn{α:Type}{t:Sem α}{Q Q':α->Shared->Prop}{M:Model}{A:Around}{E:Value->Shared->Prop}{s:Shared}(h:wpAny M A t Q E s)(hQ:∀a s,Q a s->Q' a s):wpAny M A t Q' E s:=wpAny_mono h hQ λ_ _ x=>x
end L2
namespace L2
open PySem PySem.Spec PyProof.Rows
section
variable {X:Cx}
theorem bin{a b:Expr}{ta tb:TE}(ha:PE X a ta)(hb:PE X b tb){pins:List (Addr×Obj)}{s:Shared}{σ:St}{H:Hp}{R:V->V->Hp->Prop}(I:Inv X pins σ H s)(h:ta σ H λx H1=>tb σ H1 λy H2=>R x y H2)
 {α:Type}{Q:α->Shared->Prop}{f:Value->Value->Sem α}
 (hf:∀v u s2 x y H2,Inv X pins σ H2 s2->RelV x v->RelV y u->R x y H2->wpAny (model X.prog X.w) X.A (f v u) Q X.xe s2):
 wpAny (model X.prog X.w) X.A (eval a X.env) (λv s₁=>wpAny (model X.prog X.w) X.A (eval b X.env) (λu s₂=>wpAny (model X.prog X.w) X.A (f v u) Q X.xe s₂) X.xe s₁) X.xe s:=by
 refine thn (ha pins s σ H _ I h) λv s1 ⟨x,H1,I1,r1,q1⟩=>?_
 refine thn (hb pins s1 σ H1 _ I1 q1) λu s2 ⟨y,H2,I2,r2,q2⟩=>?_
 exact hf v u s2 x y H2 I2 r1 r2 q2
def tVar(i:Nat):TE:=λσ H Q=>∃v,σ[i]? =some (some v)/\Q v H
def tC(v:V):TE:=λ_ H Q=>Q v H
theorem pe_var{i:Nat}{x:Str}{pos:Pos}(hN:X.N[i]? =some x)(hv:Vis X.env.scope x)(hd:(x==("__debug__":Str))=false:=by decide)(hcd:(x==("__classdict__":Str))=false:=by decide):PE X (.Name x pos) (tVar i):=by
 intro pins s σ H Q I h
 obtain⟨v,e,h⟩:=h
 obtain⟨m,hn,hl⟩:=I.loc
 obtain⟨u,r,l⟩:=hl i x v hN e hv
 have fin:EP X pins σ Q u s:=⟨v,H,I,r,h⟩
 rcases l with ⟨hk,hm⟩|⟨hk,c,hc,hcell⟩
 ·exact wpAny_Name (wpAny_loadName_local I.ok.kind hk hn hm fin) hd
 ·rcases hk with hk|hk
  ·exact wpAny_Name (wpAny_loadName_cell I.ok.kind hk hc hcell fin) hd
  ·exact wpAny_Name (wpAny_loadName_free I.ok.kind hk hc hcell fin hcd) hd
theorem pe_int{i j pos}:PE X (.Constant (.int i) j pos) (tC (.int i)):=λ_ _ _ H _ I h=>wpAny_Constant_int ⟨.int i,H,I.tok _,⟨_,rfl⟩,h⟩
theorem pe_bl{b j pos}:PE X (.Constant (.bool b) j pos) (tC (.bl b)):=λ_ _ _ H _ I h=>Constant_bool ⟨.bl b,H,I,rfl,h⟩
theorem pe_non{j pos}:PE X (.Constant .none j pos) (tC .non):=λ_ _ _ H _ I h=>Constant_none ⟨.non,H,I,rfl,h⟩
theorem vzy{x j pos}:PE X (.Constant (.str x) j pos) (tC (.str x)):=λ_ _ _ H _ I h=>Calls.Constant_str ⟨.str x,H,I.tok _,⟨_,rfl⟩,h⟩
def Gl(X:Cx)(x:Str):Prop:=X.env.kindOf x=some .globalImplicit
theorem qzI{E:Value->Shared->Prop}{pins:List (Addr×Obj)}{s:Shared}{σ:St}{H:Hp}{x:Str}{u:Value}{pos:Pos}{Q:Value->Shared->Prop}(I:Inv X pins σ H s)(hg:Gl X x)(hm:X.mg x=some u)(h:Q u s)
 (hd:(x==("__debug__":Str))=false:=by decide):wpAny (model X.prog X.w) X.A (eval (.Name x pos) X.env) Q E s:=
 Calls.Name_function_global I.ok.kind hg (Calls.loadGlobal_global (by rw[I.ok.glob];exact I.mod.glob.keeps I.bk) hm h) hd
theorem wzR{E:Value->Shared->Prop}{pins:List (Addr×Obj)}{s:Shared}{σ:St}{H:Hp}{x:Str}{u:Value}{pos:Pos}{Q:Value->Shared->Prop}(I:Inv X pins σ H s)(hg:Gl X x)(hm:X.mg x=none)(hv:bootBuiltins x=some u)(h:Q u s)
 (hn:x≠"__name__":=by decide)(hd:(x==("__debug__":Str))=false:=by decide):wpAny (model X.prog X.w) X.A (eval (.Name x pos) X.env) Q E s:=by
 obtain⟨mb,h1,h2⟩:=I.mod.blt
 exact Calls.Name_function_global I.ok.kind hg (Calls.loadGlobal_builtin (by rw[I.ok.glob];exact I.mod.glob.keeps I.bk) hm (by rw[I.ok.blt];exact h1.keeps I.bk) ((h2 x hn).trans hv) h) hd
theorem zzF{x:Str}{v:V}{u:Value}{pos:Pos}(hg:Gl X x)(hm:X.mg x=some u)(r:RelV v u)(hd:(x==("__debug__":Str))=false:=by decide):PE X (.Name x pos) (tC v):=
 λ_ _ _ H _ I h=>qzI I hg hm ⟨v,H,I,r,h⟩ hd
theorem zzH{x:Str}{v:V}{u:Value}{pos:Pos}(hg:Gl X x)(hm:X.mg x=none)(hv:bootBuiltins x=some u)(r:RelV v u)(hn:x≠"__name__":=by decide)(hd:(x==("__debug__":Str))=false:=by decide):PE X (.Name x pos) (tC v):=
 λ_ _ _ H _ I h=>wzR I hg hm hv ⟨v,H,I,r,h⟩ hn hd
variable {a b:Expr}{ta tb:TE}{pos:Pos}
variable {tA tB':TT}{rest:List Expr}
def tAnd(t u:TT):TT:=λσ H Q=>t σ H λc H1=>if c=true then u σ H1 Q else Q false H1
def tOr(t u:TT):TT:=λσ H Q=>t σ H λc H1=>if c=true then Q true H1 else u σ H1 Q
def tNot(t:TT):TT:=λσ H Q=>t σ H λc H1=>Q (!c) H1
theorem zzz(ha:PT X a tA):PW X (.BoolOp .And [a] pos) tA:=by
 intro wh pins s σ H Q I h
 refine isTrue_and (thn (ha pins s σ H Q I h) λc s1 e=>?_)
 cases c with
 |true=>exact isTrue_and_nil e
 |false=>exact e
theorem pw_or1(ha:PT X a tA):PW X (.BoolOp .Or [a] pos) tA:=by
 intro wh pins s σ H Q I h
 refine isTrue_or (thn (ha pins s σ H Q I h) λc s1 e=>?_)
 cases c with
 |false=>exact isTrue_or_nil e
 |true=>exact e
theorem pw_and(ha:PT X a tA)(hb:PW X (.BoolOp .And (b::rest) pos) tB'):PW X (.BoolOp .And (a::b::rest) pos) (tAnd tA tB'):=by
 intro wh pins s σ H Q I h
 refine isTrue_and (thn (ha pins s σ H _ I h) λc s1 ⟨H1,I1,q1⟩=>?_)
 cases c with
 |true=>exact hb wh pins s1 σ H1 Q I1 q1
 |false=>exact⟨H1,I1,q1⟩
theorem pw_or(ha:PT X a tA)(hb:PW X (.BoolOp .Or (b::rest) pos) tB'):PW X (.BoolOp .Or (a::b::rest) pos) (tOr tA tB'):=by
 intro wh pins s σ H Q I h
 refine isTrue_or (thn (ha pins s σ H _ I h) λc s1 ⟨H1,I1,q1⟩=>?_)
 cases c with
 |true=>exact⟨H1,I1,q1⟩
 |false=>exact hb wh pins s1 σ H1 Q I1 q1
theorem pt_not(ha:PT X a tA):PT X (.UnaryOp .Not a pos) (tNot tA):=by
 intro pins s σ H Q I h
 exact isTrue_not (ha pins s σ H (λc H1=>Q (!c) H1) I h)
theorem zzD{op}{t:TE}(h:PE X a t):PE X (.BoolOp op [a] pos) t:=λpins s σ H Q I hw=>BoolOp_one (h pins s σ H Q I hw)
def tIf(t:TT)(ta tb:TE):TE:=λσ H Q=>t σ H λc H1=>if c=true then ta σ H1 Q else tb σ H1 Q
theorem pe_ifExp{c:Expr}(hc:PT X c tA)(ha:PE X a ta)(hb:PE X b tb):PE X (.IfExp c a b pos) (tIf tA ta tb):=by
 intro pins s σ H Q I h
 refine wpAny_IfExp (thn (hc pins s σ H _ I h) λd s1 ⟨H1,I1,q1⟩=>?_)
 cases d with
 |true=>exact ha pins s1 σ H1 Q I1 q1
 |false=>exact hb pins s1 σ H1 Q I1 q1
end
end L2
namespace L2
open PySem PySem.Spec PyProof.Rows
def SqL(K:PySem.W.Frag)(H:Hp)(a:Addr)(xs:List V):Prop:=
 Rd H a (.lst xs)\/
  ∃(o:Obj)(its:Array Value)(n:Nat),K.lookup a=some o/\o.cls=.type "list"/\o.dict=none/\o.data=.seq its n/\its.size<=sizeLine/\Vals xs its.toList
def SqT(K:PySem.W.Frag)(H:Hp)(a:Addr)(xs:List V):Prop:=
 Rd H a (.tup xs)\/
  ∃(o:Obj)(its:Array Value)(n:Nat),K.lookup a=some o/\o.cls=.type "tuple"/\o.data=.seq its n/\its.size<=sizeLine/\Vals xs its.toList
def absV:Value->Option V
 |.none=>some .non
 |.bool b=>some (.bl b)
 |.int i _=>some (.int i)
 |.str x _=>some (.str x)
 |.bytes b _=>some (.byt b)
 |.float b _=>some (.flt b)
 |.ref a=>some (.ref a)
 |.type n=>some (.ty n)
 |_=>none
theorem RelV.abs{x:V}{u:Value}(r:RelV x u):absV u=some x:=by
 cases x with
 |non=>cases r;rfl
 |bl _=>cases r;rfl
 |int _=>obtain⟨t,rfl⟩:=r;rfl
 |str _=>obtain⟨t,rfl⟩:=r;rfl
 |byt _=>obtain⟨t,rfl⟩:=r;rfl
 |flt _=>obtain⟨t,rfl⟩:=r;rfl
 |ref _=>cases r;rfl
 |ty _=>cases r;rfl
theorem RelV.inj{x y:V}{u:Value}(r:RelV x u)(q:RelV y u):x=y:=Option.some.inj (r.abs.symm.trans q.abs)
theorem Vals.inj:∀{xs ys:List V}{us:List Value},Vals xs us->Vals ys us->xs=ys
 |_,_,_,.nil,.nil=>rfl
 |_,_,_,.cons r t,.cons r' t'=>by rw[r.inj r',Vals.inj t t']
section
variable {X:Cx}{pins:List (Addr×Obj)}{σ:St}{H:Hp}{s:Shared}{a:Addr}{xs ys:List V}
theorem SqL.of{K:PySem.W.Frag}(h:H a=some (.lst xs)):SqL K H a xs:=.inl (.inl h)
theorem SqT.of{K:PySem.W.Frag}(h:H a=some (.tup xs)):SqT K H a xs:=.inl (.inl h)
theorem Inv.list(I:Inv X pins σ H s)(h:SqL X.K H a xs):∃its:List Value,Vals xs its/\PlainL s.heap a its.toArray/\xs.length<=sizeLine:=by
 rcases h with h|⟨o,its,n,hk,hc,hd,hs,hz,r⟩
 ·obtain⟨z,its,n,r,e⟩:=h.ok I.hok
  exact⟨its,r,⟨_,n,e,rfl,rfl,rfl⟩,z⟩
 ·refine⟨its.toList,r,⟨o,n,I.kIn a o hk,hc,hd,by simpa using hs⟩,?_⟩
  have e:=r.length
  simp only[Array.length_toList] at e
  omega
theorem Inv.tuple(I:Inv X pins σ H s)(h:SqT X.K H a xs):∃its:List Value,Vals xs its/\IsTup s.heap a its.toArray/\xs.length<=sizeLine:=by
 rcases h with h|⟨o,its,n,hk,hc,hs,hz,r⟩
 ·obtain⟨z,its,r,p⟩:=h.ok I.hok
  exact⟨its,r,p,z⟩
 ·refine⟨its.toList,r,⟨o,I.kIn a o hk,hc,n,by simpa using hs⟩,?_⟩
  have e:=r.length
  simp only[Array.length_toList] at e
  omega
theorem Inv.list_inj(I:Inv X pins σ H s)(h:SqL X.K H a xs)(h':SqL X.K H a ys):xs=ys:=by
 obtain⟨its,r,⟨o,n,e,_,_,d⟩,_⟩:=I.list h
 obtain⟨its',r',⟨o',n',e',_,_,d'⟩,_⟩:=I.list h'
 rw[e] at e';cases e'
 rw[d] at d'
 injection d' with d1 _
 have:its=its':=by simpa using congrArg Array.toList d1
 subst this
 exact r.inj r'
theorem Inv.tuple_inj(I:Inv X pins σ H s)(h:SqT X.K H a xs)(h':SqT X.K H a ys):xs=ys:=by
 obtain⟨its,r,⟨o,e,_,n,d⟩,_⟩:=I.tuple h
 obtain⟨its',r',⟨o',e',_,n',d'⟩,_⟩:=I.tuple h'
 rw[e] at e';cases e'
 rw[d] at d'
 injection d' with d1 _
 have:its=its':=by simpa using congrArg Array.toList d1
 subst this
 exact r.inj r'
end
abbrev Cx.wish(X:Cx)(E:Value->Shared->Prop):Cx:={X with xe:=E}
abbrev Cx.nox(X:Cx):Cx:=X.wish λ_ _=>False
section
variable {X:Cx}{pins:List (Addr×Obj)}{σ:St}{H:Hp}{s:Shared}{E:Value->Shared->Prop}
end
section
variable {X:Cx}{st:Stmt}{rest:List Stmt}{t u:TS}{e:Expr}{te:TE}{pos:Pos}
def tNext:TS:=λD σ H=>D.nx σ H
def tSeq(t u:TS):TS:=λD σ H=>t {D with nx:=u D} σ H
theorem qzB:PSs X [] tNext:=λ_ _ σ H _ I h=>wpAny_execs_nil ⟨σ,H,I,h⟩
theorem wzl(h1:PS X st t)(h2:PSs X rest u):PSs X (st::rest) (tSeq t u):=by
 intro pins s σ H D I h
 refine wpAny_execs_cons (thn (h1 pins s σ H {D with nx:=u D} I h) λf s1 q=>?_)
 cases f with
 |next=>
  obtain⟨σ',H',I',q⟩:=q
  exact h2 pins s1 σ' H' D I' q
 |ret v=>exact q
 |brk=>exact q
 |cont=>exact q
theorem Inv.quiet{pins:List (Addr×Obj)}{σ:St}{H:Hp}{s:Shared}(I:Inv X pins σ H s):interactive X.env=false:=by simp[interactive,I.ok.kind]
def tDrop(te:TE):TS:=λD σ H=>te σ H λ_ H1=>D.nx σ H1
theorem ps_expr(he:PE X e te)(hs:swapsWith e none pos.line X.env=pure false:=by rfl):PS X (.Expr e pos) (tDrop te):=by
 intro pins s σ H D I h
 exact wpAny_Expr_any (thn (he pins s σ H _ I h) λv s1 ⟨x,H1,I1,r1,q1⟩=>⟨σ,H1,I1,q1⟩) I.quiet hs
def tRet(te:TE):TS:=λD σ H=>te σ H D.rt
theorem ps_ret(he:PE X e te):PS X (.Return (some e) pos) (tRet te):=by
 intro pins s σ H D I h
 exact wpAny_Return_some (thn (he pins s σ H _ I h) λv s1 ⟨x,H1,I1,r1,q1⟩=>⟨x,σ,H1,I1,r1,q1⟩)
def tIfS(c:TT)(t u:TS):TS:=λD σ H=>c σ H λb H1=>if b=true then t D σ H1 else u D σ H1
theorem ps_if{c:Expr}{a b:List Stmt}{tc:TT}(hc:PT X c tc)(ha:PSs X a t)(hb:PSs X b u):PS X (.If c a b pos) (tIfS tc t u):=by
 intro pins s σ H D I h
 refine wpAny_If (thn (hc pins s σ H _ I h) λd s1 ⟨H1,I1,q1⟩=>?_)
 cases d with
 |true=>exact ha pins s1 σ H1 D I1 q1
 |false=>exact hb pins s1 σ H1 D I1 q1
end
abbrev TG:=V->St->Hp->(St->Hp->Prop)->Prop
abbrev TGs:=List V->St->Hp->(St->Hp->Prop)->Prop
def PG(X:Cx)(target:Expr)(t:TG):Prop:=
 ∀(pins:List (Addr×Obj))(s:Shared)(σ:St)(H:Hp)(v:V)(u:Value)(Q:St->Hp->Prop),Inv X pins σ H s->RelV v u->t v σ H Q->
  wpAny (model X.prog X.w) X.A (assign target X.env u) (λ_ s'=>∃σ' H',Inv X pins σ' H' s'/\Q σ' H') X.xe s
def PGs(X:Cx)(ts:List Expr)(t:TGs):Prop:=
 ∀(pins:List (Addr×Obj))(s:Shared)(σ:St)(H:Hp)(vs:List V)(us:List Value)(Q:St->Hp->Prop),Inv X pins σ H s->Vals vs us->t vs σ H Q->
  wpAny (model X.prog X.w) X.A (assignInOrder ((assignEach ts X.env).map (·.2)) us) (λ_ s'=>∃σ' H',Inv X pins σ' H' s'/\Q σ' H') X.xe s
section
variable {X:Cx}{pos:Pos}
def gName(i:Nat):TG:=λv σ H Q=>Q (σ.set i (some v)) H
theorem zzC{i:Nat}{x:Str}(hN:X.N.Nodup)(hi:X.N[i]? =some x)(hx:Loc X.env.scope x)(hf:X.fn x=true\/X.env.scope.names.lookup x=some .local:=by first |exact .inl rfl|exact .inr rfl|assumption):PG X (.Name x pos) (gName i):=by
 intro pins s σ H v u Q I r h
 exact wpAny_assign_Name (wzh I hN hi hx r (λs' I'=>⟨_,H,I',h⟩) hf)
def gNil:TGs:=λvs σ H Q=>vs=[]/\Q σ H
def gCons(t:TG)(u:TGs):TGs:=λvs σ H Q=>∃v r,vs=v::r/\t v σ H λσ' H'=>u r σ' H' Q
theorem pgs_nil:PGs X [] gNil:=by
 intro pins s σ H vs us Q I r h
 obtain⟨e,h⟩:=h
 subst e
 cases r
 exact assignInOrder_nil ⟨σ,H,I,h⟩
theorem pgs_cons{e:Expr}{es:List Expr}{t:TG}{u:TGs}(h1:PG X e t)(h2:PGs X es u)
 (hs:(assignEach (e::es) X.env).map (·.2)=assign e X.env::(assignEach es X.env).map (·.2):=by rfl):PGs X (e::es) (gCons t u):=by
 intro pins s σ H vs us Q I r h
 obtain⟨v,vr,e1,h⟩:=h
 subst e1
 cases r with
 |cons r rr=>
  rw[hs]
  refine assignInOrder_cons (thn (h1 pins s σ H _ _ _ I r h) λ_ s1 ⟨σ1,H1,I1,q1⟩=>?_)
  exact h2 pins s1 σ1 H1 _ _ Q I1 rr q1
def gTup(K:PySem.W.Frag)(n:Nat)(t:TGs):TG:=λv σ H Q=>∃a xs,v=.ref a/\SqT K H a xs/\xs.length=n/\t xs σ H Q
theorem pg_tup{es:List Expr}{k:Nat}{t:TGs}{n:Nat}(hc:X.calm=true)(h:PGs X es t)
 (hn:(assignEach es X.env).length=n:=by rfl)(hst:(assignEach es X.env).findIdx? (·.1)=none:=by rfl):PG X (.Tuple es k pos) (gTup X.K n t):=by
 intro pins s σ H v u Q I r hw
 obtain⟨a,xs,e1,hq,hl,hw⟩:=hw
 subst e1
 cases r
 obtain⟨its,rv,ht,hz⟩:=I.tuple hq
 refine assign_Tuple_tuple (I.ok.hd hc) ht (by simp[hn, <- hl,rv.length]) hst λh' hx=>?_
 have I1:Inv X pins σ H {s with heap:=h'}:=I.kept (t':=s.toks) λb o e=>hx b o (Nat.ne_of_lt (Heap.lt_size e)) e
 exact h pins _ σ H xs _ Q I1 (by simpa using rv) hw
def tAsg(te:TE)(g:TG):TS:=λD σ H=>te σ H λx H1=>g x σ H1 D.nx
theorem ps_asg{tg e:Expr}{te:TE}{g:TG}(he:PE X e te)(hg:PG X tg g)(hs:swapsWithSole [tg] e pos.line X.env=pure false:=by rfl)(hw:swappedStores [tg] e X.env=pure none:=by rfl)
 (h1:(assignEach [tg] X.env).map (·.2)=[assign tg X.env]:=by rfl):PS X (.Assign [tg] e pos) (tAsg te g):=by
 intro pins s σ H D I h
 refine wpAny_Assign_stores (thn (he pins s σ H _ I h) λv s1 ⟨x,H1,I1,r1,q1⟩=>?_) hs hw
 rw[h1]
 exact thn (hg pins s1 σ H1 x v _ I1 r1 q1) λ_ s2 q=>q
theorem vzx{i:Nat}{x:Str}{e:Expr}{te:TE}{pos':Pos}(hN:X.N.Nodup)(hi:X.N[i]? =some x)(hx:Loc X.env.scope x)(he:PE X e te)(hs:swapsWith e (some (.Name x pos')) pos.line X.env=pure false:=by rfl)(hf:X.fn x=true\/X.env.scope.names.lookup x=some .local:=by first |exact .inl rfl|exact .inr rfl|assumption):
 PS X (.Assign [.Name x pos'] e pos) (tAsg te (gName i)):=by
 intro pins s σ H D I h
 refine wpAny_Assign_Name (thn (he pins s σ H _ I h) λv s1 ⟨y,H1,I1,r1,q1⟩=>?_) hs
 exact wzh I1 hN hi hx r1 (λs2 I2=>⟨_,H1,I2,q1⟩) hf
end
section
variable {X:Cx}{pos:Pos}
def tWhile(c:TT)(tb:TS):TS:=λD σ H=>∃W:Nat->St->Hp->Prop,(∃m,W m σ H)/\∀m σ H,W m σ H->
 c σ H λb H1=>if b=true then ∃N:St->Hp->Prop,(∀σ' H',N σ' H'->∃m',m'<m/\W m' σ' H')/\tb {D with nx:=N,ct:=N,bk:=D.nx} σ H1 else D.nx σ H1
theorem ps_while{c:Expr}{body:List Stmt}{tc:TT}{tb:TS}(hp:PassesOwn (model X.prog X.w) X.A X.env X.xe)(hc:PT X c tc)(hb:PSs X body tb):PS X (.While c body [] pos) (tWhile tc tb):=by
 intro pins s σ H D I h
 obtain⟨W,⟨m0,w0⟩,turn⟩:=h
 refine wpAny_While (codeAny_whileLoop (λn s'=>∃σ' H',Inv X pins σ' H' s'/\W n σ' H') ?_ m0 ⟨σ,H,I,w0⟩)
 rintro n s1 ⟨σ1,H1,I1,w1⟩
 refine wpAny_passesOwn hp (thn (hc pins s1 σ1 H1 _ I1 (turn n σ1 H1 w1)) λb s2 ⟨H2,I2,q2⟩=>?_)
 cases b with
 |true=>
  obtain⟨N,hN,q2⟩:=q2
  rw[if_pos rfl]
  refine wpAny_passesOwn hp (thn (hb pins s2 σ1 H2 _ I2 q2) λf s3 q3=>?_)
  cases f with
  |next=>
   obtain⟨σ3,H3,I3,n3⟩:=q3
   obtain⟨m',hm,w3⟩:=hN σ3 H3 n3
   exact⟨m',hm,σ3,H3,I3,w3⟩
  |cont=>
   obtain⟨σ3,H3,I3,n3⟩:=q3
   obtain⟨m',hm,w3⟩:=hN σ3 H3 n3
   exact⟨m',hm,σ3,H3,I3,w3⟩
  |brk=>exact q3
  |ret v=>exact q3
 |false=>
  rw[if_neg Bool.false_ne_true]
  exact wpAny_execs_nil ⟨σ1,H2,I2,q2⟩
end
structure It where
 go:Nat->Hp->Prop
 yld:Nat->Hp->V->Hp->Prop
 stop:Nat->Hp->Prop
def FpOk(X:Cx)(pins:List (Addr×Obj))(H:Hp)(b:Addr):Prop:=
 H b=none/\b≠X.env.locals/\b ∉ X.fs/\(b∈X.ex\/X.s₀.heap.objs.size<=b)/\(∀x c,X.env.cells.lookup x=some c->c≠b)/\∀p∈X.pn++pins,p.1≠b
theorem Inv.fpOk{X:Cx}{pins:List (Addr×Obj)}{σ:St}{H H':Hp}{s:Shared}{b:Addr}(I:Inv X pins σ H s)(hb:s.heap.objs.size<=b)(hn:H' b=none):FpOk X pins H' b:=by
 refine⟨hn,Nat.ne_of_gt (Nat.lt_of_lt_of_le I.lt hb),I.nofs hb,.inr (Nat.le_trans I.sz hb),λx c e z=>?_,λp hp z=>?_⟩
 ·obtain⟨v,q⟩:=I.cell x c e
  exact absurd (Nat.lt_of_lt_of_le q.lt (by rw[z];exact hb)) (Nat.lt_irrefl _)
 ·exact absurd (Nat.lt_of_lt_of_le (Heap.lt_size (I.pin p hp).1) (by rw[z];exact hb)) (Nat.lt_irrefl _)
structure Turn (P:Program)(w:World)(K:PySem.W.Frag)(tg:Expr)(J:It)(fp:List Addr)(it:Addr)(tn:Nat->Heap->Prop):Prop where
 mem:it∈fp
 obj:∀i h,tn i h->∀b∈fp,∃o,h.get? b=some o/\∀v,o.data≠ .cell v
 keep:∀i h h',tn i h->(∀b∈fp,∀o,h.get? b=some o->h'.get? b=some o)->tn i h'
 item:∀(X:Cx),X.prog=P->X.w=w->X.K=K->X.calm=true->∀(i:Nat)(pins:List (Addr×Obj))(s:Shared)(σ:St)(H:Hp)(E:Value->Shared->Prop),Inv X pins σ H s->(∀b∈fp,FpOk X pins H b)->tn i s.heap->J.go i H->
  wpAny (model P w) X.A (pyNext (.ref it)) (λr s1=>∃u,r=some u/\
   wpAny (model P w) X.A (letOwnedTupleGo tg (.ref it) u) (λ_ s2=>∃x H',Inv X pins σ H' s2/\RelV x u/\J.yld i H x H'/\tn (i+1) s2.heap/\∀b∈fp,H' b=none) E s1) E s
 done:∀(X:Cx),X.prog=P->X.w=w->X.K=K->X.calm=true->∀(i:Nat)(pins:List (Addr×Obj))(s:Shared)(σ:St)(H:Hp)(E:Value->Shared->Prop),Inv X pins σ H s->(∀b∈fp,FpOk X pins H b)->tn i s.heap->J.stop i H->
  wpAny (model P w) X.A (pyNext (.ref it)) (λr s1=>r=none/\Inv X pins σ H s1) E s
 self:∀(A:Around)(i:Nat)(s:Shared)(Q:Value->Shared->Prop)(E:Value->Shared->Prop),tn i s.heap->Q (.ref it) s->wpAny (model P w) A (pyIter (.ref it)) Q E s
abbrev TI:=St->Hp->(It->Hp->Prop)->Prop
def PIE(X:Cx)(pins:List (Addr×Obj))(σ:St)(tg:Expr)(R:It->Hp->Prop)(itv:Value)(s2:Shared):Prop:=
 ∃(it:Addr)(fp:List Addr)(tn:Nat->Heap->Prop)(J:It)(H':Hp),itv=.ref it/\Inv X pins σ H' s2/\Turn X.prog X.w X.K tg J fp it tn/\tn 0 s2.heap/\(∀b∈fp,FpOk X pins H' b)/\R J H'
def PI(X:Cx)(tg iter:Expr)(wi:TI):Prop:=
 ∀(pins:List (Addr×Obj))(s:Shared)(σ:St)(H:Hp)(R:It->Hp->Prop),Inv X pins σ H s->wi σ H R->
  wpAny (model X.prog X.w) X.A (eval iter X.env) (λv s1=>wpAny (model X.prog X.w) X.A (pyIter v) (PIE X pins σ tg R) X.xe s1) X.xe s
theorem go_of{M:Model}{A:Around}{E:Value->Shared->Prop}{s:Shared}{tg:Expr}{it:Addr}{u:Value}{o:Obj}{n:String}{vs:Array Value}{Q:Unit->Shared->Prop}(ho:s.heap.get? it=some o)(hc:o.cls=.type n)(hd:o.data=.fields vs)
 (hn: ["enumerate","zip","dict_itemiterator","dict_reverseitemiterator","odict_iterator","itertools.zip_longest","itertools.pairwise"].contains n=false)(hQ:Q () s):wpAny M A (letOwnedTupleGo tg (.ref it) u) Q E s:=by
 unfold letOwnedTupleGo
 cases tg<;>first
  |exact wpAny_pure hQ
  |(cases u<;>first
     |exact wpAny_pure hQ
     |(refine wpAny_bind (wpAny_load ho ?_)
       rw[hc,hd]
       show wpAny M A (if(["enumerate","zip","dict_itemiterator","dict_reverseitemiterator","odict_iterator","itertools.zip_longest","itertools.pairwise"].contains n&&vs[0]? ==some (rawInt _))=true then _ else _) Q E s
       rw[if_neg (by intro h;rw[hn,Bool.false_and] at h;cases h)]
       exact wpAny_pure hQ))
def Itl(K:PySem.W.Frag)(a:Addr):It:=
 ⟨λi H=>∃xs x,SqL K H a xs/\xs[i]? =some x,λi H x H'=>H'=H/\∀xs,SqL K H a xs->xs[i]? =some x,λi H=>∃xs,SqL K H a xs/\xs.length<=i⟩
def Itt(K:PySem.W.Frag)(a:Addr):It:=
 ⟨λi H=>∃xs x,SqT K H a xs/\xs[i]? =some x,λi H x H'=>H'=H/\∀xs,SqT K H a xs->xs[i]? =some x,λi H=>∃xs,SqT K H a xs/\xs.length<=i⟩
def Itr(lo:Int)(n:Nat):It:=⟨λi _=>i<n,λi H x H'=>H'=H/\x=.int (lo+i),λi _=>n<=i⟩
theorem zzn{P:Program}{w:World}{K:PySem.W.Frag}{tg:Expr}(a it:Addr):Turn P w K tg (Itl K a) [it] it (λi h=>h.IsListIter it a i) where
 mem:=by simp
 obj:=λi h st b hb=>by
  have e:b=it:=by simpa using hb
  subst e
  obtain⟨o,e,c,d⟩:=st
  exact⟨o,e,λv z=>by rw[d] at z;cases z⟩
 keep:=λi h h' st k=>st.at λo e=>k it (by simp) o e
 item:=by
  intro X hP hw hK hc i pins s σ H E I hf st hg
  subst hP hw hK
  obtain⟨xs,x,hq,hx⟩:=hg
  obtain⟨its,rv,p,hz⟩:=I.list hq
  obtain⟨u,hu,ru⟩:=rv.get hx
  obtain⟨f0,f1,f2,f3,f4,f5⟩:=hf it (by simp)
  refine wpAny_pyNext_list_item st p.isList (x:=u) (by simpa using hu) λh' st' sb=>?_
  have I1:Inv X pins σ H {s with heap:=h'}:=I.turned (t':=s.toks) (λb o hb e=>(sb.2 b hb).trans e) f0 f1 f3 f4 f5
  obtain⟨o,e,c,d⟩:=id st'
  exact⟨u,rfl,go_of (s:={s with heap:=h'}) e c d (by decide) ⟨x,H,I1,ru,⟨rfl,λys hy=>by rw[I.list_inj hy hq];exact hx⟩,st',λb hb=>(hf b hb).1⟩⟩
 done:=by
  intro X hP hw hK hc i pins s σ H E I hf st hg
  subst hP hw hK
  obtain⟨xs,hq,hx⟩:=hg
  obtain⟨its,rv,p,hz⟩:=I.list hq
  obtain⟨f0,f1,f2,f3,f4,f5⟩:=hf it (by simp)
  have hl:=rv.length
  exact wpAny_pyNext_list_end (I.ok.hd hc) st p.isList (by simp;omega) λh' eb=>⟨rfl,I.turned (t':=s.toks) (λb o hb e=>eb b o hb e) f0 f1 f3 f4 f5⟩
 self:=λ_ _ _ _ _ st h=>wpAny_pyIter_listiter st h
theorem vzX{P:Program}{w:World}{K:PySem.W.Frag}{tg:Expr}(a it:Addr):Turn P w K tg (Itt K a) [it] it (λi h=>h.IsTupleIter it a i) where
 mem:=by simp
 obj:=λi h st b hb=>by
  have e:b=it:=by simpa using hb
  subst e
  obtain⟨o,e,c,d⟩:=st
  exact⟨o,e,λv z=>by rw[d] at z;cases z⟩
 keep:=λi h h' st k=>st.at λo e=>k it (by simp) o e
 item:=by
  intro X hP hw hK hc i pins s σ H E I hf st hg
  subst hP hw hK
  obtain⟨xs,x,hq,hx⟩:=hg
  obtain⟨its,rv,p,hz⟩:=I.tuple hq
  obtain⟨u,hu,ru⟩:=rv.get hx
  obtain⟨f0,f1,f2,f3,f4,f5⟩:=hf it (by simp)
  refine wpAny_pyNext_tuple_item st (show s.heap.IsTuple a its.toArray from p) (x:=u) (by simpa using hu) λh' st' sb=>?_
  have I1:Inv X pins σ H {s with heap:=h'}:=I.turned (t':=s.toks) (λb o hb e=>(sb.2 b hb).trans e) f0 f1 f3 f4 f5
  obtain⟨o,e,c,d⟩:=id st'
  exact⟨u,rfl,go_of (s:={s with heap:=h'}) e c d (by decide) ⟨x,H,I1,ru,⟨rfl,λys hy=>by rw[I.tuple_inj hy hq];exact hx⟩,st',λb hb=>(hf b hb).1⟩⟩
 done:=by
  intro X hP hw hK hc i pins s σ H E I hf st hg
  subst hP hw hK
  obtain⟨xs,hq,hx⟩:=hg
  obtain⟨its,rv,p,hz⟩:=I.tuple hq
  obtain⟨f0,f1,f2,f3,f4,f5⟩:=hf it (by simp)
  have hl:=rv.length
  exact wpAny_pyNext_tuple_end (I.ok.hd hc) st (show s.heap.IsTuple a its.toArray from p) (by simp;omega) λh' eb=>⟨rfl,I.turned (t':=s.toks) (λb o hb e=>eb b o hb e) f0 f1 f3 f4 f5⟩
 self:=λ_ _ _ _ _ st h=>wpAny_pyIter_tupleiter st h
theorem vzY{P:Program}{w:World}{K:PySem.W.Frag}{tg:Expr}(it:Addr)(lo:Int)(n:Nat):Turn P w K tg (Itr lo n) [it] it (λi h=>IsRangeIter h it (lo+(i:Nat)*1) ((n:Int)-(i:Nat)) 1) where
 mem:=by simp
 obj:=λi h st b hb=>by
  have e:b=it:=by simpa using hb
  subst e
  exact⟨_,st,λv z=>by
   have z':Data.fields _=Data.cell v:=z
   cases z'⟩
 keep:=λi h h' st k=>k it (by simp) _ st
 item:=by
  intro X hP hw hK hc i pins s σ H E I hf st hg
  subst hP hw hK
  obtain⟨f0,f1,f2,f3,f4,f5⟩:=hf it (by simp)
  have W:=Walks.range (prog:=X.prog) (w:=X.w) (I.ok.hd hc) it lo 1 n
  refine W.item i s _ _ hg st λv h' tk hv st' kk=>?_
  obtain⟨t,rfl⟩:=hv
  have I1:Inv X pins σ H {s with heap:=h',toks:=tk}:=I.turned (λb o hb e=>kk b o (by simpa using hb) e) f0 f1 f3 f4 f5
  refine⟨_,rfl,go_of (s:={s with heap:=h',toks:=tk}) (n:="range_iterator") st' rfl rfl (by decide) ⟨.int (lo+i),H,I1,⟨t,?_⟩,⟨rfl,rfl⟩,st',λb hb=>(hf b hb).1⟩⟩
  rw[Int.mul_one]
 done:=by
  intro X hP hw hK hc i pins s σ H E I hf st hg
  subst hP hw hK
  obtain⟨f0,f1,f2,f3,f4,f5⟩:=hf it (by simp)
  exact wpAny_pyNext_range_end (I.ok.hd hc) st (by have:n<=i:=hg;omega) λh' eb=>⟨rfl,I.turned (t':=s.toks) (λb o hb e=>eb b o hb e) f0 f1 f3 f4 f5⟩
 self:=λ_ _ _ _ _ st h=>wpAny_pyIter_rangeiter st h
end L2
namespace L2
open PySem PySem.Spec PyProof.Rows
section
variable {X:Cx}{tg:Expr}
def iList(K:PySem.W.Frag)(tl:TE):TI:=λσ H R=>tl σ H λx H1=>∃a,x=.ref a/\(∃xs,SqL K H1 a xs)/\R (Itl K a) H1
def iTup(K:PySem.W.Frag)(tl:TE):TI:=λσ H R=>tl σ H λx H1=>∃a,x=.ref a/\(∃xs,SqT K H1 a xs)/\R (Itt K a) H1
theorem vzb{l:Expr}{tl:TE}(hl:PE X l tl):PI X tg l (iList X.K tl):=by
 intro pins s σ H R I h
 refine thn (hl pins s σ H _ I h) λv s1 ⟨x,H1,I1,r1,q1⟩=>?_
 obtain⟨a,e,⟨xs,hq⟩,q⟩:=q1
 subst e
 cases r1
 obtain⟨its,rv,p,hz⟩:=I1.list hq
 refine wpAny_pyIter_list p.isList ?_
 refine⟨s1.heap.objs.size,[s1.heap.objs.size],_,_,H1,rfl,I1.kept (t':=s1.toks) λb o e=>Heap.get?_push_of_some _ e,zzn a _,⟨_,Heap.get?_push_size _ rfl,rfl,rfl⟩,λb hb=>?_,q⟩
 have e:b=s1.heap.objs.size:=by simpa using hb
 subst e
 exact I1.fpOk (Nat.le_refl _) (I1.hok.fresh (Nat.le_refl _))
theorem pi_tup{l:Expr}{tl:TE}(hl:PE X l tl):PI X tg l (iTup X.K tl):=by
 intro pins s σ H R I h
 refine thn (hl pins s σ H _ I h) λv s1 ⟨x,H1,I1,r1,q1⟩=>?_
 obtain⟨a,e,⟨xs,hq⟩,q⟩:=q1
 subst e
 cases r1
 obtain⟨its,rv,p,hz⟩:=I1.tuple hq
 refine wpAny_pyIter_tuple (show s1.heap.IsTuple a its.toArray from p) ?_
 refine⟨s1.heap.objs.size,[s1.heap.objs.size],_,_,H1,rfl,I1.kept (t':=s1.toks) λb o e=>Heap.get?_push_of_some _ e,vzX a _,⟨_,Heap.get?_push_size _ rfl,rfl,rfl⟩,λb hb=>?_,q⟩
 have e:b=s1.heap.objs.size:=by simpa using hb
 subst e
 exact I1.fpOk (Nat.le_refl _) (I1.hok.fresh (Nat.le_refl _))
theorem range_it{pins:List (Addr×Obj)}{σ:St}{H:Hp}{s:Shared}{R:It->Hp->Prop}{E:Value->Shared->Prop}{lo hi:Int}{t u v:Tok}{tk:Nat}(I:Inv X pins σ H s)(h1: -(2^62)<=lo)(h2:lo<2^62)(h3: -(2^62)<=hi)(h4:hi<2^62)
 (q:R (Itr lo (hi-lo).toNat) H):wpAny (model X.prog X.w) X.A (pyIter (.ref s.heap.objs.size)) (PIE X pins σ tg R) E {s with heap:=s.heap.push {cls:=.type "range",data:=.fields #[.int lo t,.int hi u,.int 1 v]},toks:=tk}:=by
 refine wpAny_pyIter_range (IsRange.new ..) (small_one h1 h2 h3 h4) ?_
 have I1:Inv X pins σ H {s with heap:=s.heap.push {cls:=.type "range",data:=.fields #[.int lo t,.int hi u,.int 1 v]},toks:=tk}:=I.kept λb o e=>Heap.get?_push_of_some _ e
 refine⟨(s.heap.push {cls:=.type "range",data:=.fields #[.int lo t,.int hi u,.int 1 v]}).objs.size,[(s.heap.push {cls:=.type "range",data:=.fields #[.int lo t,.int hi u,.int 1 v]}).objs.size],_,_,H,rfl,
  I1.kept (t':=tk) λb o e=>Heap.get?_push_of_some _ e,vzY _ lo (hi-lo).toNat,?_,λb hb=>?_,q⟩
 ·have e1:lo+((0:Nat):Int)*1=lo:=by simp
  have e2:(((hi-lo).toNat:Nat):Int)-((0:Nat):Int)=Builtin.Range.rangeSize lo hi 1:=by rw[rangeSize_one];split<;>omega
  show IsRangeIter _ _ (lo+((0:Nat):Int)*1) ((((hi-lo).toNat:Nat):Int)-((0:Nat):Int)) 1
  rw[e1,e2]
  exact Heap.get?_push_size _ rfl
 ·have e:b=(s.heap.push {cls:=.type "range",data:=.fields #[.int lo t,.int hi u,.int 1 v]}).objs.size:=by simpa using hb
  subst e
  exact I1.fpOk (Nat.le_refl _) (I1.hok.fresh (Nat.le_refl _))
def iRng1(ta:TA):TI:=λσ H R=>ta σ H λvs H1=>∃j:Int,vs=[.int j]/\ -(2^62)<=j/\j<2^62/\R (Itr 0 j.toNat) H1
theorem wzN{a:Expr}{ta:TA}{p pos:Pos}(hg:Gl X "range")(hm:X.mg "range"=none)(ha:PA X [a] ta)(hs:starEach [a] X.env=[(false,eval a X.env)]:=by rfl):PI X tg (.Call (.Name "range" p) [a] [] pos) (iRng1 ta):=by
 intro pins s σ H R I h
 refine Call_ (wzR I hg hm boot_range (PyProof.Rows.callWith_type1 (thn (ha pos pins s σ H _ I h) λus s1 ⟨vs,H1,I1,r1,q1⟩=>?_) hs rfl))
 obtain⟨j,e,q1,q2,q⟩:=q1
 subst e
 cases r1 with
 |cons r rr=>
  cases rr
  obtain⟨t,rfl⟩:=r
  exact call_range_1 (range_it I1 (by omega) (by omega) q1 q2 (by simpa using q))
def tFor(wi:TI)(g:TG)(tb:TS):TS:=λD σ H=>wi σ H λJ H1=>∃W:Nat->Nat->St->Hp->Prop,(∃m,W 0 m σ H1)/\∀i m σ H,W i m σ H->
 (J.stop i H/\D.nx σ H)\/(J.go i H/\∃N:St->Hp->Prop,(∀σ' H',N σ' H'->∃m',m'<m/\W (i+1) m' σ' H')/\∀x H',J.yld i H x H'->g x σ H' λσ2 H2=>tb {D with nx:=N,ct:=N,bk:=D.nx} σ2 H2)
def pinsAt(fp:List Addr)(h:Heap):List (Addr×Obj):=fp.filterMap λb=>(h.get? b).map λo=>(b,o)
theorem jz4{fp:List Addr}{h:Heap}{b:Addr}{o:Obj}(hb:b∈fp)(e:h.get? b=some o):(b,o)∈pinsAt fp h:=List.mem_filterMap.mpr ⟨b,hb,by rw[e];rfl⟩
theorem zzN{fp:List Addr}{h:Heap}{p:Addr×Obj}(hp:p∈pinsAt fp h):p.1∈fp/\h.get? p.1=some p.2:=by
 obtain⟨b,hb,e⟩:=List.mem_filterMap.mp hp
 cases q:h.get? b with
 |none=>rw[q] at e;cases e
 |some o=>
  rw[q] at e
  have e':(b,o)=p:=Option.some.inj e
  subst e'
  exact⟨hb,q⟩
theorem Inv.pinned{pins:List (Addr×Obj)}{σ:St}{H:Hp}{s:Shared}{fp:List Addr}(I:Inv X pins σ H s)(hf:∀b∈fp,FpOk X pins H b)(ho:∀b∈fp,∃o,s.heap.get? b=some o/\∀v,o.data≠ .cell v):Inv X (pins++pinsAt fp s.heap) σ H s:=
 I.pins_of λp hp=>(List.mem_append.mp hp).elim (λz=>I.pin p (List.mem_append_right _ z)) λz=>by
  obtain⟨hb,e⟩:=zzN z
  obtain⟨f0,f1,f2,_⟩:=hf p.1 hb
  obtain⟨o,e',d⟩:=ho p.1 hb
  rw[e] at e';cases e'
  exact⟨e,f0,f1,f2,d⟩
theorem Inv.unpinned{pins pl:List (Addr×Obj)}{σ:St}{H:Hp}{s:Shared}(I:Inv X (pins++pl) σ H s):Inv X pins σ H s:=I.pins_of λp hp=>I.pin p (List.mem_append_right _ (List.mem_append_left _ hp))
theorem zzA{iter:Expr}{body:List Stmt}{wi:TI}{g:TG}{tb:TS}{pos:Pos}(hp:PassesOwn (model X.prog X.w) X.A X.env X.xe)(hc:X.calm=true)(hi:PI X tg iter wi)(hg:PG X tg g)(hb:PSs X body tb)
 (hs:∀x,foldedSetIterable iter X.env x=pure x:=by intro _;rfl):PS X (.For tg iter body [] pos) (tFor wi g tb):=by
 intro pins s σ H D I h
 refine wpAny_For (thn (hi pins s σ H _ I h) λv s1 h1=>thn h1 λitv s2 h2=>?_) hs
 obtain⟨it,fp,tn,J,H2,e,I2,T,st2,f2,W,⟨m0,w0⟩,turn⟩:=h2
 subst e
 have stat:∀{H':Hp},(∀b∈fp,H' b=none)->∀b∈fp,FpOk X pins H' b:=λhn b hb=>⟨hn b hb,(f2 b hb).2⟩
 refine codeAny_forLoop_any (λn s'=>∃i σ' H',Inv X pins σ' H' s'/\tn i s'.heap/\(∀b∈fp,H' b=none)/\W i n σ' H') ?_ m0 ⟨0,σ,H2,I2,st2,λb hb=>(f2 b hb).1,w0⟩
 rintro n s3 ⟨i,σ3,H3,I3,st3,fr3,w3⟩
 rcases turn i n σ3 H3 w3 with ⟨stop,qn⟩|⟨go,N,hN,step⟩
 ·refine wpAny_passesOwn hp (thn (T.done X rfl rfl rfl hc i pins s3 σ3 H3 X.xe I3 (stat fr3) st3 stop) λr s4 ⟨hr,I4⟩=>?_)
  subst hr
  exact wpAny_execs_nil ⟨σ3,H3,I4,qn⟩
 ·refine wpAny_passesOwn hp (thn (T.item X rfl rfl rfl hc i pins s3 σ3 H3 X.xe I3 (stat fr3) st3 go) λr s4 ⟨u,hr,h4⟩=>?_)
  subst hr
  refine wpAny_passesOwn hp (thn h4 λ_ s5 ⟨x,H5,I5,r5,y5,st5,fr5⟩=>?_)
  have I5':=I5.pinned (stat fr5) (T.obj _ _ st5)
  refine wpAny_passesOwn hp (thn (hg _ s5 σ3 H5 x u _ I5' r5 (step x H5 y5)) λ_ s6 ⟨σ6,H6,I6,q6⟩=>?_)
  refine wpAny_passesOwn hp (thn (hb _ s6 σ6 H6 _ I6 q6) λf s7 q7=>?_)
  have again:∀{σ7:St}{H7:Hp},Inv X (pins++pinsAt fp s5.heap) σ7 H7 s7->N σ7 H7->∃m,m<n/\∃i σ' H',Inv X pins σ' H' s7/\tn i s7.heap/\(∀b∈fp,H' b=none)/\W i m σ' H':=λ{σ7 H7} I7 n7=>by
   obtain⟨m',hm,w7⟩:=hN σ7 H7 n7
   refine⟨m',hm,i+1,σ7,H7,I7.unpinned,T.keep _ _ _ st5 λb hb o e=>(I7.pin (b,o) (List.mem_append_right _ (List.mem_append_right _ (jz4 hb e)))).1,λb hb=>?_,w7⟩
   obtain⟨o,e,d⟩:=T.obj _ _ st5 b hb
   exact(I7.pin (b,o) (List.mem_append_right _ (List.mem_append_right _ (jz4 hb e)))).2.1
  cases f with
  |next=>obtain⟨σ7,H7,I7,n7⟩:=q7;exact again I7 n7
  |cont=>obtain⟨σ7,H7,I7,n7⟩:=q7;exact again I7 n7
  |brk=>obtain⟨σ7,H7,I7,q7⟩:=q7;exact⟨σ7,H7,I7.unpinned,q7⟩
  |ret v=>obtain⟨x7,σ7,H7,I7,r7,q7⟩:=q7;exact⟨x7,σ7,H7,I7.unpinned,r7,q7⟩
end
theorem for_tup{K:PySem.W.Frag}{a:Addr}{xs:List V}{g:TG}{tb:TS}{D:Ends}{σ:St}{H:Hp}(Pv:Nat->St->Hp->Prop)(h0:Pv 0 σ H)(hl:∀i σ H,i<=xs.length->Pv i σ H->SqT K H a xs)
 (hs:∀i x σ H,xs[i]? =some x->Pv i σ H->g x σ H λσ2 H2=>tb {D with nx:=Pv (i+1),ct:=Pv (i+1),bk:=D.nx} σ2 H2)(hd:∀σ H,Pv xs.length σ H->D.nx σ H):
 ∃W:Nat->Nat->St->Hp->Prop,(∃m,W 0 m σ H)/\∀i m σ H,W i m σ H->
  ((Itt K a).stop i H/\D.nx σ H)\/((Itt K a).go i H/\∃N:St->Hp->Prop,(∀σ' H',N σ' H'->∃m',m'<m/\W (i+1) m' σ' H')/\∀x H',(Itt K a).yld i H x H'->g x σ H' λσ2 H2=>tb {D with nx:=N,ct:=N,bk:=D.nx} σ2 H2):=by
 refine⟨λi m σ H=>m=xs.length-i/\i<=xs.length/\Pv i σ H,⟨xs.length,by simp,Nat.zero_le _,h0⟩,?_⟩
 rintro i m σ H ⟨rfl,hi,p⟩
 have q:=hl i σ H hi p
 by_cases hlt:i<xs.length
 ·refine .inr ⟨⟨xs,xs[i],q,by simp[hlt]⟩,Pv (i+1),λσ' H' p'=>⟨xs.length-(i+1),by omega,rfl,hlt,p'⟩,λx H' y=>?_⟩
  obtain⟨e,y⟩:=y
  subst e
  exact hs i x σ _ (y xs q) p
 ·have e:i=xs.length:=by omega
  subst e
  exact .inl ⟨⟨xs,q,Nat.le_refl _⟩,hd σ H p⟩
theorem zz7{lo:Int}{n:Nat}{g:TG}{tb:TS}{D:Ends}{σ:St}{H:Hp}(Pv:Nat->St->Hp->Prop)(h0:Pv 0 σ H)
 (hs:∀i σ H,i<n->Pv i σ H->g (.int (lo+i)) σ H λσ2 H2=>tb {D with nx:=Pv (i+1),ct:=Pv (i+1),bk:=D.nx} σ2 H2)(hd:∀σ H,Pv n σ H->D.nx σ H):
 ∃W:Nat->Nat->St->Hp->Prop,(∃m,W 0 m σ H)/\∀i m σ H,W i m σ H->
  ((Itr lo n).stop i H/\D.nx σ H)\/((Itr lo n).go i H/\∃N:St->Hp->Prop,(∀σ' H',N σ' H'->∃m',m'<m/\W (i+1) m' σ' H')/\∀x H',(Itr lo n).yld i H x H'->g x σ H' λσ2 H2=>tb {D with nx:=N,ct:=N,bk:=D.nx} σ2 H2):=by
 refine⟨λi m σ H=>m=n-i/\i<=n/\Pv i σ H,⟨n,by simp,Nat.zero_le _,h0⟩,?_⟩
 rintro i m σ H ⟨rfl,hi,p⟩
 by_cases hlt:i<n
 ·refine .inr ⟨hlt,Pv (i+1),λσ' H' p'=>⟨n-(i+1),by omega,rfl,hlt,p'⟩,λx H' y=>?_⟩
  obtain⟨e,y⟩:=y
  subst e y
  exact hs i σ _ hlt p
 ·have e:i=n:=by omega
  subst e
  exact .inl ⟨Nat.le_refl _,hd σ H p⟩
end L2
namespace L2
open PySem PySem.Spec PyProof.Rows
abbrev R2:=V->V->Hp->VK->Prop
def OpR(X:Cx)(f:Value->Value->Sem Value)(r:R2):Prop:=
 ∀(pins:List (Addr×Obj))(s:Shared)(σ:St)(H:Hp)(x y:V)(v u:Value)(Q:VK),Inv X pins σ H s->RelV x v->RelV y u->r x y H Q->
  wpAny (model X.prog X.w) X.A (f v u) (EP X pins σ Q) X.xe s
def UnR(X:Cx)(f:Value->Sem Value)(r:V->Hp->VK->Prop):Prop:=
 ∀(pins:List (Addr×Obj))(s:Shared)(σ:St)(H:Hp)(x:V)(v:Value)(Q:VK),Inv X pins σ H s->RelV x v->r x H Q->
  wpAny (model X.prog X.w) X.A (f v) (EP X pins σ Q) X.xe s
def CallR(X:Cx)(f:Value)(r:List V->Hp->VK->Prop):Prop:=
 ∀(pins:List (Addr×Obj))(s:Shared)(σ:St)(H:Hp)(xs:List V)(us:List Value)(Q:VK),Inv X pins σ H s->Vals xs us->r xs H Q->
  wpAny (model X.prog X.w) X.A (call f us) (EP X pins σ Q) X.xe s
def TruR(X:Cx)(r:V->Hp->(Bool->Hp->Prop)->Prop):Prop:=
 ∀(pins:List (Addr×Obj))(s:Shared)(σ:St)(H:Hp)(x:V)(v:Value)(Q:Bool->Hp->Prop),Inv X pins σ H s->RelV x v->r x H Q->
  wpAny (model X.prog X.w) X.A (truthy v) (TP X pins σ Q) X.xe s
def tOp(r:R2)(ta tb:TE):TE:=λσ H Q=>ta σ H λx H1=>tb σ H1 λy H2=>r x y H2 Q
def tUn(r:V->Hp->VK->Prop)(ta:TE):TE:=λσ H Q=>ta σ H λx H1=>r x H1 Q
def rI(C:Int->Int->Prop)(g:Int->Int->V):R2:=λx y H Q=>∃i j,x=.int i/\y=.int j/\C i j/\Q (g i j) H
def rI0(g:Int->Int->V):R2:=λx y H Q=>∃i j,x=.int i/\y=.int j/\Q (g i j) H
def rU(g:Int->V):V->Hp->VK->Prop:=λx H Q=>∃i,x=.int i/\Q (g i) H
section
variable {X:Cx}{a b c:Expr}{ta tb tc:TE}{pos:Pos}
theorem binT(ha:PE X a ta)(hb:PE X b tb){pins:List (Addr×Obj)}{s:Shared}{σ:St}{H:Hp}{R:V->V->Hp->Prop}(I:Inv X pins σ H s)
 (h:ta σ H λx H1=>tb σ H1 λy H2=>R x y H2){Q:Value->Shared->Prop}{f:Value->Value->Sem Value}
 (hf:∀v u s2 x y H2,Inv X pins σ H2 s2->RelV x v->RelV y u->R x y H2->wpAny (model X.prog X.w) X.A (f v u) Q X.xe s2):
 wpAny (model X.prog X.w) X.A (eval a X.env) (λv s₁=>wpAny (model X.prog X.w) X.A (eval b X.env) (λu s₂=>wpAny (model X.prog X.w) X.A (f v u) Q X.xe s₂) X.xe s₁) X.xe s:=by
 refine thn (ha pins s σ H _ I h) λv s1 ⟨x,H1,I1,r1,q1⟩=>?_
 refine thn (hb pins s1 σ H1 _ I1 q1) λu s2 ⟨y,H2,I2,r2,q2⟩=>?_
 exact hf v u s2 x y H2 I2 r1 r2 q2
theorem pe_op{op:Operator}{r:R2}(ho:OpR X (binaryOp op) r)(ha:PE X a ta)(hb:PE X b tb):PE X (.BinOp a op b pos) (tOp r ta tb):=by
 intro pins s σ H Q I h
 exact wpAny_BinOp (binT ha hb I h λv u s2 x y H2 I2 rx ry q=>ho pins s2 σ H2 x y v u Q I2 rx ry q)
theorem pe_un{op:UnaryOp}{r:V->Hp->VK->Prop}(ho:UnR X (unaryOp op) r)(ha:PE X a ta):PE X (.UnaryOp op a pos) (tUn r ta):=by
 intro pins s σ H Q I h
 exact UnaryOp_ (thn (ha pins s σ H _ I h) λv s1 ⟨x,H1,I1,r1,q1⟩=>ho pins s1 σ H1 x v Q I1 r1 q1)
theorem opI{f:Value->Value->Sem Value}{C:Int->Int->Prop}{g:Int->Int->Int}
 (rule:∀(i j:Int)(t u:Tok)(s:Shared)(Q:Value->Shared->Prop)(E:Value->Shared->Prop),C i j->Q (.int (g i j) s.toks) {s with toks:=s.toks+1}->wpAny (model X.prog X.w) X.A (f (.int i t) (.int j u)) Q E s):
 OpR X f (rI C λi j=>.int (g i j)):=by
 intro pins s σ H x y v u Q I rx ry h
 obtain⟨i,j,rfl,rfl,hc,q⟩:=h
 obtain⟨t,rfl⟩:=rx
 obtain⟨t',rfl⟩:=ry
 exact rule i j t t' s _ _ hc ⟨.int (g i j),H,I.tok _,⟨_,rfl⟩,q⟩
theorem opI0{f:Value->Value->Sem Value}{g:Int->Int->Int}
 (rule:∀(i j:Int)(t u:Tok)(s:Shared)(Q:Value->Shared->Prop)(E:Value->Shared->Prop),Q (.int (g i j) s.toks) {s with toks:=s.toks+1}->wpAny (model X.prog X.w) X.A (f (.int i t) (.int j u)) Q E s):
 OpR X f (rI0 λi j=>.int (g i j)):=by
 intro pins s σ H x y v u Q I rx ry h
 obtain⟨i,j,rfl,rfl,q⟩:=h
 obtain⟨t,rfl⟩:=rx
 obtain⟨t',rfl⟩:=ry
 exact rule i j t t' s _ _ ⟨.int (g i j),H,I.tok _,⟨_,rfl⟩,q⟩
theorem opB0{f:Value->Value->Sem Value}{g:Int->Int->Bool}
 (rule:∀(i j:Int)(t u:Tok)(s:Shared)(Q:Value->Shared->Prop)(E:Value->Shared->Prop),Q (.bool (g i j)) s->wpAny (model X.prog X.w) X.A (f (.int i t) (.int j u)) Q E s):
 OpR X f (rI0 λi j=>.bl (g i j)):=by
 intro pins s σ H x y v u Q I rx ry h
 obtain⟨i,j,rfl,rfl,q⟩:=h
 obtain⟨t,rfl⟩:=rx
 obtain⟨t',rfl⟩:=ry
 exact rule i j t t' s _ _ ⟨.bl (g i j),H,I,rfl,q⟩
def CDiv(i j:Int):Prop:=0<j/\j<1073741824
def CPow(i j:Int):Prop:=0<=j/\j<=1000000/\i.natAbs<2^64
def CMul(i j:Int):Prop:=(-(2^64)<i/\i<2^64)\/(-(2^64)<j/\j<2^64)
theorem CMul.ok{i j:Int}(h:CMul i j):IntMulOk i j:=by
 rcases h with ⟨h1,h2⟩|⟨h1,h2⟩
 ·exact .of_left (intBits_le_64 h1 h2)
 ·exact .of_right (intBits_le_64 h1 h2)
theorem op_add:OpR X (binaryOp .Add) (rI0 λi j=>.int (i+j)):=opI0 λ_ _ _ _ _ _ _ q=>add_int q
theorem op_sub:OpR X (binaryOp .Sub) (rI0 λi j=>.int (i-j)):=opI0 λ_ _ _ _ _ _ _ q=>sub_int q
theorem op_mul:OpR X (binaryOp .Mult) (rI CMul λi j=>.int (i*j)):=opI λ_ _ _ _ _ _ _ hc q=>mul_int q hc.ok
theorem op_fdiv:OpR X (binaryOp .FloorDiv) (rI CDiv λi j=>.int (i/j)):=opI λi j _ _ _ _ _ hc q=>by
 have h1:(0:Int)<j:=hc.1
 have h2:j<1073741824:=hc.2
 exact floordiv_int (by omega) (by rw[Int.fdiv_eq_ediv_of_nonneg i (by omega)];exact q) (.inl (PyProof.noPylong_small (by omega)))
theorem op_mod:OpR X (binaryOp .Mod) (rI (λ_ j=>0<j) λi j=>.int (i%j)):=opI λi j _ _ _ _ _ hc q=>by
 have h1:(0:Int)<j:=hc
 exact mod_int' (by omega) (by rw[Int.fmod_eq_emod_of_nonneg i (by omega)];exact q)
theorem op_pow:OpR X (binaryOp .Pow) (rI CPow λi j=>.int (i^j.toNat)):=opI λ_ _ _ _ _ _ _ hc q=>pow_int_small hc.1 hc.2.1 hc.2.2 q
theorem unI{f:Value->Sem Value}{g:Int->Int}
 (rule:∀(i:Int)(t:Tok)(s:Shared)(Q:Value->Shared->Prop)(E:Value->Shared->Prop),Q (.int (g i) s.toks) {s with toks:=s.toks+1}->wpAny (model X.prog X.w) X.A (f (.int i t)) Q E s):
 UnR X f (rU λi=>.int (g i)):=by
 intro pins s σ H x v Q I rx h
 obtain⟨i,rfl,q⟩:=h
 obtain⟨t,rfl⟩:=rx
 exact rule i t s _ _ ⟨.int (g i),H,I.tok _,⟨_,rfl⟩,q⟩
theorem un_neg:UnR X (unaryOp .USub) (rU λi=>.int (-i)):=unI λ_ _ _ _ _ q=>neg_int q
end
section
variable {X:Cx}{a b c:Expr}{ta tb tc:TE}{pos:Pos}
theorem xzb{pins:List (Addr×Obj)}{σ:St}{H:Hp}{s:Shared}{Q:VK}{k k':Bool}(I:Inv X pins σ H s)(q:Q (.bl k) H)(e:k=k'):EP X pins σ Q (.bool k') s:=by
 subst e
 exact⟨.bl k,H,I,rfl,q⟩
theorem op_lt:OpR X (compareOp .Lt) (rI0 λi j=>.bl (decide (i<j))):=opB0 λ_ _ _ _ _ _ _ q=>lt_int q
theorem op_le:OpR X (compareOp .LtE) (rI0 λi j=>.bl (decide (i<=j))):=opB0 λ_ _ _ _ _ _ _ q=>le_int q
theorem op_gt:OpR X (compareOp .Gt) (rI0 λi j=>.bl (decide (j<i))):=opB0 λ_ _ _ _ _ _ _ q=>gt_int q
theorem op_ge:OpR X (compareOp .GtE) (rI0 λi j=>.bl (decide (j<=i))):=opB0 λ_ _ _ _ _ _ _ q=>ge_int q
theorem zzL:OpR X (compareOp .In) (λx y H Q=>∃i j,x=.str i/\y=.str j/\Q (.bl (!(Builtin.Str.occurrences j i 0 j.length 1).isEmpty)) H):=by
 intro pins s σ H x y v u Q I rx ry h
 obtain⟨i,j,rfl,rfl,q⟩:=h
 obtain⟨t,rfl⟩:=rx
 obtain⟨t',rfl⟩:=ry
 exact in_str (xzb I q rfl)
theorem op_isN:OpR X (compareOp .Is) (λx y H Q=>y=.non/\Q (.bl (decide (x=.non))) H):=by
 intro pins s σ H x y v u Q I rx ry h
 obtain⟨rfl,q⟩:=h
 cases ry
 refine is_none_gen (xzb I q ?_)
 cases x<;>first
  |(cases rx;rfl)
  |(obtain⟨t,rfl⟩:=rx;rfl)
theorem op_notN:OpR X (compareOp .IsNot) (λx y H Q=>y=.non/\Q (.bl (!decide (x=.non))) H):=by
 intro pins s σ H x y v u Q I rx ry h
 obtain⟨rfl,q⟩:=h
 cases ry
 refine isnot_none_gen (xzb I q ?_)
 cases x<;>first
  |(cases rx;rfl)
  |(obtain⟨t,rfl⟩:=rx;rfl)
theorem pe_cmpR{op:CmpOp}{r:R2}(ho:OpR X (compareOp op) r)(ha:PE X a ta)(hb:PE X b tb)(hm:behindInMarks op b=false):PE X (.Compare a [op] [b] pos) (tOp r ta tb):=by
 intro pins s σ H Q I h
 exact wpAny_Compare1 (binT ha hb I h λv u s2 x y H2 I2 rx ry q=>ho pins s2 σ H2 x y v u Q I2 rx ry q) hm
def tTest(t:TE):TT:=λσ H Q=>t σ H λx H'=>∃k,x=.bl k/\Q k H'
theorem pt_cmpR{op:CmpOp}{r:R2}(ho:OpR X (compareOp op) r)(ha:PE X a ta)(hb:PE X b tb)(hm:behindInMarks op b=false):PT X (.Compare a [op] [b] pos) (tTest (tOp r ta tb)):=by
 intro pins s σ H Q I h
 refine wpAny_isTrue_Compare1 (thn (ha pins s σ H _ I h) λv s1 ⟨x,H1,I1,r1,q1⟩=>thn (hb pins s1 σ H1 _ I1 q1) λu s2 ⟨y,H2,I2,r2,q2⟩=>
  thn (ho pins s2 σ H2 x y v u _ I2 r1 r2 q2) λc s3 ⟨z,H3,I3,r3,k,e,q3⟩=>?_) hm
 subst e
 cases r3
 exact wpAny_truthy_bool ⟨H3,I3,q3⟩
def tChain(r r':R2)(ta tb tc:TE):TE:=λσ H Q=>ta σ H λx H1=>tb σ H1 λy H2=>r x y H2 λz H3=>∃k,z=.bl k/\
 (if k=true then tc σ H3 λw' H4=>r' y w' H4 Q else Q (.bl false) H3)
theorem pe_chain{op op':CmpOp}{r r':R2}(ho:OpR X (compareOp op) r)(ho':OpR X (compareOp op') r')(ha:PE X a ta)(hb:PE X b tb)(hc:PE X c tc)
 (hm:lastMarks [op,op'] [b,c]=false:=by with_unfolding_all rfl):PE X (.Compare a [op,op'] [b,c] pos) (tChain r r' ta tb tc):=by
 intro pins s σ H Q I h
 refine Compare_chain (thn (ha pins s σ H _ I h) λv s1 ⟨x,H1,I1,r1,q1⟩=>chain_link (thn (hb pins s1 σ H1 _ I1 q1) λu s2 ⟨y,H2,I2,r2,q2⟩=>
  thn (ho pins s2 σ H2 x y v u _ I2 r1 r2 q2) λd s3 ⟨z,H3,I3,r3,k,e,q3⟩=>?_)) hm
 subst e
 cases r3
 refine wpAny_truthy_bool ?_
 cases k with
 |false=>exact ite_ff ⟨.bl false,H3,I3,rfl,q3⟩
 |true=>exact ite_tt (chain_last (thn (hc pins s3 σ H3 _ I3 q3) λw' s4 ⟨z',H4,I4,r4,q4⟩=>ho' pins s4 σ H4 y z' u w' Q I4 r2 r4 q4))
theorem pt_chain{op op':CmpOp}{r r':R2}(ho:OpR X (compareOp op) r)(ho':OpR X (compareOp op') r')(ha:PE X a ta)(hb:PE X b tb)(hc:PE X c tc)
 (hm:lastMarks [op,op'] [b,c]=false:=by with_unfolding_all rfl):PT X (.Compare a [op,op'] [b,c] pos) (tTest (tChain r r' ta tb tc)):=by
 intro pins s σ H Q I h
 refine isTrue_chain (thn (ha pins s σ H _ I h) λv s1 ⟨x,H1,I1,r1,q1⟩=>test_link (thn (hb pins s1 σ H1 _ I1 q1) λu s2 ⟨y,H2,I2,r2,q2⟩=>
  thn (ho pins s2 σ H2 x y v u _ I2 r1 r2 q2) λd s3 ⟨z,H3,I3,r3,k,e,q3⟩=>?_)) hm
 subst e
 cases r3
 refine wpAny_truthy_bool ?_
 cases k with
 |false=>
  obtain⟨k',e',q'⟩:=q3
  cases e'
  exact ite_ff ⟨H3,I3,q'⟩
 |true=>
  refine ite_tt (test_last (thn (hc pins s3 σ H3 _ I3 q3) λw' s4 ⟨z',H4,I4,r4,q4⟩=>thn (ho' pins s4 σ H4 y z' u w' _ I4 r2 r4 q4) λd' s5 ⟨z2,H5,I5,r5,k2,e2,q5⟩=>?_))
  subst e2
  cases r5
  exact wpAny_truthy_bool ⟨H5,I5,q5⟩
def TruV(K:PySem.W.Frag)(x:V)(H:Hp)(k:Bool):Prop:=
 match x with
 |.non=>k=false
 |.bl b=>k=b
 |.int i=>k=(i != 0)
 |.str y=>y.length<=sizeLine/\k=((y.length:Int) != 0)
 |.byt y=>y.size<=sizeLine/\k=((y.size:Int) != 0)
 |.ref p=>(∃xs,SqL K H p xs/\k= !xs.isEmpty)\/(∃xs,SqT K H p xs/\k= !xs.isEmpty)\/∃kvs,H p=some (.dK kvs)/\k= !kvs.isEmpty
 |_=>False
theorem zzd{κ:Type}{kvs:List (κ×V)}{vs:List (κ×Value)}(r:KV kvs vs):(!vs.isEmpty)= !kvs.isEmpty:=by
 cases r<;>rfl
theorem qz4{xs:List V}{its:List Value}(r:Vals xs its):(!its.toArray.isEmpty)= !xs.isEmpty:=by
 cases r<;>simp
theorem qz2:(sizeLine:Nat)<2^63:=by rw[sizeLine_eq];decide
theorem tru_ok:TruR X (λx H Q=>∃k,TruV X.K x H k/\Q k H):=by
 intro pins s σ H x v Q I rx h
 obtain⟨k,e,q⟩:=h
 have hl:=qz2
 have hs:sizeLine=16777216:=sizeLine_eq
 cases x with
 |non=>
  cases rx
  have e':k=false:=e
  subst e'
  exact truthy_none ⟨H,I,q⟩
 |bl b=>
  cases rx
  have e':k=b:=e
  subst e'
  exact wpAny_truthy_bool ⟨H,I,q⟩
 |int i=>
  obtain⟨t,rfl⟩:=rx
  have e':k=(i != 0):=e
  subst e'
  exact PySem.P.truthy_int ⟨H,I,q⟩
 |str y=>
  obtain⟨t,rfl⟩:=rx
  obtain⟨hy,e'⟩:y.length<=sizeLine/\k=((y.length:Int) != 0):=e
  subst e'
  exact PySem.P.truthy_str (by omega) ⟨H,I.tok _,q⟩
 |byt y=>
  obtain⟨t,rfl⟩:=rx
  obtain⟨hy,e'⟩:y.size<=sizeLine/\k=((y.size:Int) != 0):=e
  subst e'
  exact PySem.W.truthy_bytes (by omega) ⟨H,I.tok _,q⟩
 |ref p=>
  cases rx
  have e':(∃xs,SqL X.K H p xs/\k= !xs.isEmpty)\/(∃xs,SqT X.K H p xs/\k= !xs.isEmpty)\/∃kvs,H p=some (.dK kvs)/\k= !kvs.isEmpty:=e
  rcases e' with ⟨xs,hx,e'⟩|⟨xs,hx,e'⟩|⟨kvs,hx,e'⟩
  ·subst e'
   obtain⟨its,r,pl,hz⟩:=I.list hx
   have hlen:=r.length
   exact wpAny_truthy_list pl.isList (by simp only[List.size_toArray];omega) ⟨H,I.tok _,by rw[qz4 r];exact q⟩
  ·subst e'
   obtain⟨its,r,pl,hz⟩:=I.tuple hx
   have hlen:=r.length
   exact truthy_tuple pl (by simp only[List.size_toArray];omega) ⟨H,I.tok _,by rw[qz4 r];exact q⟩
  ·subst e'
   obtain⟨hz,hS,vs,r,m⟩:kvs.length<=sizeLine/\(p==sysModules)=false/\∃vs,KV kvs vs/\s.heap.DictOf (mixKind X.prog X.w) p vs:=I.hok p _ hx
   have hlen:kvs.length=vs.length:=Paired.length r
   exact wpAny_truthy_dict hS m (by omega) ⟨H,I.tok _,by rw[zzd r];exact q⟩
 |_=>exact(show False from e).elim
theorem vzw(ha:PE X a ta)(he:∀whole,isTrue a X.env whole=(do let v <- whole;standAt a.pos;holding [v] (truthy v))):
 PT X a (λσ H Q=>ta σ H λx H'=>∃k,TruV X.K x H' k/\Q k H'):=by
 intro pins s σ H Q I h
 exact isTrue_plain (thn (ha pins s σ H _ I h) λv s1 ⟨x,H1,I1,r1,q1⟩=>tru_ok pins s1 σ H1 x v Q I1 r1 q1) (he _)
theorem vz6:OpR X (binaryOp .Add) (λx y H Q=>∃i j,x=.str i/\y=.str j/\i.length+j.length<=sizeLine/\Q (.str (i++j)) H):=by
 intro pins s σ H x y v u Q I rx ry h
 obtain⟨i,j,rfl,rfl,hz,q⟩:=h
 obtain⟨t,rfl⟩:=rx
 obtain⟨t',rfl⟩:=ry
 exact add_str (λt' tk=>⟨.str (i++j),H,I.tok _,⟨_,rfl⟩,q⟩) hz
theorem vals1{x:V}{us:List Value}(r:Vals [x] us):∃u,us=[u]/\RelV x u:=by
 cases r with
 |cons r1 r2=>cases r2;exact⟨_,rfl,r1⟩
theorem vals2{x y:V}{us:List Value}(r:Vals [x,y] us):∃u w',us=[u,w']/\RelV x u/\RelV y w':=by
 cases r with
 |cons r1 r2=>
  cases r2 with
  |cons r3 r4=>cases r4;exact⟨_,_,rfl,r1,r3⟩
theorem xzz(hc:X.calm=true):CallR X (.builtin "max") (λxs H Q=>∃i j,xs=[.int i,.int j]/\Q (.int (if j>i then j else i)) H):=by
 intro pins s σ H xs us Q I r h
 obtain⟨i,j,rfl,q⟩:=h
 obtain⟨u,w',rfl,⟨t,rfl⟩,⟨t',rfl⟩⟩:=vals2 r
 refine max_two_ints (I.ok.hd hc) λh' tk k=>⟨_,H,I.kept k,?_,q⟩
 by_cases hj:j>i
 ·rw[if_pos hj,if_pos hj];exact⟨_,rfl⟩
 ·rw[if_neg hj,if_neg hj];exact⟨_,rfl⟩
theorem xzy(hc:X.calm=true):CallR X (.builtin "min") (λxs H Q=>∃i j,xs=[.int i,.int j]/\Q (.int (if j<i then j else i)) H):=by
 intro pins s σ H xs us Q I r h
 obtain⟨i,j,rfl,q⟩:=h
 obtain⟨u,w',rfl,⟨t,rfl⟩,⟨t',rfl⟩⟩:=vals2 r
 refine min_two_ints (I.ok.hd hc) λh' tk k=>⟨_,H,I.kept k,?_,q⟩
 by_cases hj:j<i
 ·rw[if_pos hj,if_pos hj];exact⟨_,rfl⟩
 ·rw[if_neg hj,if_neg hj];exact⟨_,rfl⟩
theorem wz0:CallR X (.type "int") (λxs H Q=>(∃i,xs=[.int i]/\Q (.int i) H)\/∃k,xs=[.bl k]/\Q (.int (if k then 1 else 0)) H):=by
 intro pins s σ H xs us Q I r h
 rcases h with ⟨i,rfl,q⟩|⟨k,rfl,q⟩
 ·obtain⟨u,rfl,t,rfl⟩:=vals1 r
  exact call_int_int ⟨.int i,H,I,⟨_,rfl⟩,q⟩
 ·obtain⟨u,rfl,r1⟩:=vals1 r
  cases r1
  exact call_int_bool ⟨.int (if k then 1 else 0),H,I.tok _,⟨_,rfl⟩,q⟩
end
end L2
namespace L2
open PySem PySem.Spec PyProof.Rows
structure ObjM (h:Heap)(x dx C:Addr)(mA:Str->Option Value):Prop where
 obj:h.get? x=some (PySem.W.instObj C dx)
 ns:h.Ns1 dx mA
 ne:dx≠x
theorem zzX{h:Heap}{dx:Addr}{mA:Str->Option Value}(n:h.Ns1 dx mA):∃od,h.get? dx=some od/\∀name,PySem.W.lookIn name od=some (mA name):=by
 obtain⟨o,es,ep,ho,hd,hk,_,hm⟩:=n
 refine⟨o,ho,λname=>?_⟩
 have e:=hm name
 unfold nsFind findBy at e
 rw[<- Array.find?_toList] at e
 unfold PySem.W.lookIn
 rw[hd]
 dsimp only
 split
 ·rename_i y q
  rw[q] at e
  exact congrArg some e
 ·rename_i q
  rw[q] at e
  have a:es.toList.any (·.refKey)=false:=by
   rw[List.any_eq_false]
   intro y hy
   obtain⟨z,t,hkey⟩:=hk y (Array.mem_toList_iff.mp hy)
   simp[DictEntry.refKey,hkey]
  have a':¬es.toList.any (·.refKey)=true:=by rw[a];exact Bool.false_ne_true
  rw[if_neg a']
  exact congrArg some e
theorem ObjM.look{h:Heap}{x dx C:Addr}{mA:Str->Option Value}(I:ObjM h x dx C mA):∃od,PySem.W.InstAt h x (PySem.W.instObj C dx) C (some od)/\∀name,PySem.W.lookIn name od=some (mA name):=
 let⟨od,ho,hl⟩:=zzX I.ns
 ⟨od,⟨I.obj,rfl,rfl,ho⟩,hl⟩
section
variable {prog:Program}{w:World}{A:Around}{E:Value->Shared->Prop}{s:Shared}{K:PySem.W.Frag}{x dx C f:Addr}{mA:Str->Option Value}{name:Str}{v:Value}
theorem get_map{expr:Bool}{Q:Value->Shared->Prop}(X:K.In s.heap)(I:ObjM s.heap x dx C mA)(hg:PySem.W.plainGet K C name=true)(hh:PySem.W.hasDictIn K C=true)
 (ha:PySem.W.findIn K (.ref C) name=some none)(hv:mA name=some v)(hv':PySem.W.handedIn v=true)(h:Q v {s with toks:=s.toks+1}):
 wpAny (model prog w) A (getAttr (.ref x) name expr) Q E s:=by
 obtain⟨od,J,hl⟩:=I.look
 exact PySem.W.get_value X J (PySem.W.plainGet_of hg).1 (PySem.W.findObj_own hh ha rfl (by rw[hl,hv])) hv' h
theorem get_meth{pl:Sem Bool}{Q:Value×List Value->Shared->Prop}(X:K.In s.heap)(I:ObjM s.heap x dx C mA)(hg:PySem.W.plainGet K C name=true)
 (hf:PySem.W.findIn K (.ref C) name=some (some (.ref f)))(ht:PySem.W.isFn K (.ref f)=true)(hv:mA name=none)(h:Q (.ref f,[.ref x]) s):
 wpAny (model prog w) A (getMethod (.ref x) name pl) Q E s:=by
 obtain⟨od,J,hl⟩:=I.look
 exact PySem.W.method_fn X J (PySem.W.plainGet_of hg).1 (PySem.W.plainGet_of hg).2 hf (beq_iff_eq.mp ht) (by show(PySem.W.lookIn name od).map (·.isSome)=some false;rw[hl,hv];rfl) h
theorem set_map{ns:List Str}{Q:Unit->Shared->Prop}(X:K.In s.heap)(I:ObjM s.heap x dx C mA)
 (hs:PySem.W.findIn K (.ref C) "__setattr__"=some (some (.builtin "object.__setattr__")))(hp:PySem.W.plainOver K C=true)(ht:PySem.W.takerIn K C name=some none)(hh:PySem.W.hasDictIn K C=true)
 (hw:PySem.Within mA ns)(hsz:ns.length<=sizeLine)
 (h:∀h',ObjM h' x dx C (λy=>if y=name then some v else mA y)->Heap.SameBut dx s.heap h'->Q () {s with heap:=h',toks:=s.toks+2}):
 wpAny (model prog w) A (setAttr (.ref x) name v) Q E s:=by
 obtain⟨od,J,hl⟩:=I.look
 refine PySem.W.set_plain X J hs (PySem.W.osa_open (s:={s with toks:=s.toks+1}) (r:=none) X J hp ht λb=>?_)
 obtain⟨cd,hc,hd'⟩:=PySem.W.any_some hh
 have hx:s.heap.get? x=some ⟨.ref C,some dx,.plain, #[]⟩:=I.obj
 refine wpAny_bind (wpAny_pure (wpAny_bind (wpAny_bind (wpAny_loadPart hx (wpAny_bind (PySem.W.Looks.here (s:={s with toks:=s.toks+1}) (PySem.W.looks_clsIn X hc) ?_))))))
 rw[hd']
 refine wpAny_pure (a:=some dx) (wpAny_bind (wpAny_pure (wpAny_bind ?_)))
 refine wpAny_nsSet1 (s:={s with toks:=s.toks+1}) I.ns λh' hn2 hs2=>?_
 obtain⟨oD,esD,epD,hoD,hdD,hcD⟩:=hn2.count (PySem.Within.cons name v hw)
 refine wpAny_bind (wpAny_lookBehind hoD (by rw[hdD];exact pastItsLine_dict (Nat.le_trans hcD (by rw[List.length_cons];omega))) ?_)
 exact wpAny_pure (h _ ⟨(hs2.2 _ (Ne.symm I.ne)).trans I.obj,hn2,I.ne⟩ hs2)
theorem make_map{R:Result->Shared->Prop}{vs:List Value}{kw:List (Str×Value)}(X:K.In s.heap)(hm:PySem.W.makesIn K C=true)
 (hi:PySem.W.findIn K (.ref C) "__init__"=some (some (.ref f)))(hf:PySem.W.typeIn K (.ref f)=some (.type "function"))
 (h:codeAny (model prog w) (A.under (.builtin "type.__call__" ⟨.ref C::vs,kw⟩)) (.call (.ref f) ⟨.ref (s.heap.objs.size+1)::vs,kw⟩) (PySem.W.InitBack (s.heap.objs.size+1) R)
   {s with heap:=(s.heap.push PySem.W.emptyDict).push (PySem.W.instObj C s.heap.objs.size)}):
 codeAny (model prog w) A (.call (.ref C) ⟨vs,kw⟩) R s:=by
 obtain⟨hh,g,d,t,os⟩:=s
 exact PySem.W.make_core (PySem.W.makes_of X hm) (PySem.W.looks_findIn X hi) (λself=>PySem.W.bind_fn X self hf) (.inl rfl) h
end
def putF(f:Str)(v:V):List (Str×V)->List (Str×V)
 | []=>[(f,v)]
 |(g,x)::r=>if g=f then(g,v)::r else(g,x)::putF f v r
theorem qzF(f g:Str)(v:V):∀fs:List (Str×V),(putF f v fs).lookup g=if g=f then some v else fs.lookup g
 | []=>by
   show List.lookup g [(f,v)]=_
   by_cases h:g=f
   ·have hb:(g==f)=true:=beq_iff_eq.mpr h
    simp only[List.lookup,hb,if_pos h]
   ·have hb:(g==f)=false:=beq_eq_false_iff_ne.mpr h
    simp only[List.lookup,hb,if_neg h]
 |(k,x)::r=>by
  have ih:=qzF f g v r
  rw[show putF f v ((k,x)::r)=(if k=f then(k,v)::r else(k,x)::putF f v r) from rfl]
  by_cases hk:k=f
  ·rw[if_pos hk]
   by_cases h:g=k
   ·have hb:(g==k)=true:=beq_iff_eq.mpr h
    simp only[List.lookup,hb,if_pos (h.trans hk)]
   ·have hb:(g==k)=false:=beq_eq_false_iff_ne.mpr h
    simp only[List.lookup,hb,if_neg (λe:g=f=>h (e.trans hk.symm))]
  ·rw[if_neg hk]
   by_cases h:g=k
   ·have hb:(g==k)=true:=beq_iff_eq.mpr h
    simp only[List.lookup,hb,if_neg (λe:g=f=>hk (h.symm.trans e))]
   ·have hb:(g==k)=false:=beq_eq_false_iff_ne.mpr h
    simp only[List.lookup,hb]
    exact ih
theorem qzJ(f:Str)(v:V):∀fs:List (Str×V),f∈(putF f v fs).map (·.1)/\∀g,g∈fs.map (·.1)->g∈(putF f v fs).map (·.1)
 | []=>⟨by simp[putF],λg h=>by simp at h⟩
 |(k,x)::r=>by
  obtain⟨i1,i2⟩:=qzJ f v r
  rw[show putF f v ((k,x)::r)=(if k=f then(k,v)::r else(k,x)::putF f v r) from rfl]
  by_cases hk:k=f
  ·rw[if_pos hk]
   subst hk
   exact⟨by simp,λg h=>by simpa using h⟩
  ·rw[if_neg hk]
   refine⟨?_,λg h=>?_⟩
   ·rw[List.map_cons]
    exact List.mem_cons_of_mem _ i1
   ·rw[List.map_cons] at h⊢
    rcases List.mem_cons.mp h with e|e
    ·exact List.mem_cons.mpr (.inl e)
    ·exact List.mem_cons_of_mem _ (i2 g e)
theorem qzH(f:Str)(v:V):∀fs:List (Str×V),(putF f v fs).length<=fs.length+1
 | []=>by simp[putF]
 |(k,x)::r=>by
  have ih:=qzH f v r
  rw[show putF f v ((k,x)::r)=(if k=f then(k,v)::r else(k,x)::putF f v r) from rfl]
  by_cases hk:k=f
  ·rw[if_pos hk,List.length_cons,List.length_cons];omega
  ·rw[if_neg hk,List.length_cons,List.length_cons];omega
theorem RelO.some_of{v:V}{o:Option Value}(r:RelO (some v) o):∃u,o=some u/\RelV v u:=by
 cases o with
 |none=>exact(show False from r).elim
 |some u=>exact⟨u,rfl,r⟩
theorem RelO.none_of{o:Option Value}(r:RelO none o):o=none:=by
 cases o with
 |none=>rfl
 |some u=>exact(show False from r).elim
theorem zz5{v:V}{u:Value}(r:RelV v u):PySem.W.handedIn u=true:=by
 cases v with
 |non=>cases(show u=Value.none from r);rfl
 |bl b=>cases(show u=Value.bool b from r);rfl
 |int i=>obtain⟨t,e⟩:=(show ∃t,u=Value.int i t from r);cases e;rfl
 |str x=>obtain⟨t,e⟩:=(show ∃t,u=Value.str x t from r);cases e;rfl
 |byt b=>obtain⟨t,e⟩:=(show ∃t,u=Value.bytes b t from r);cases e;rfl
 |flt b=>obtain⟨t,e⟩:=(show ∃t,u=Value.float b t from r);cases e;rfl
 |ref a=>cases(show u=Value.ref a from r);rfl
 |ty n=>cases(show u=Value.type n from r);rfl
section
variable {P:Program}{w:World}{H H':Hp}{h h':Heap}{a C dx:Addr}{fs fs':List (Str×V)}
theorem vzj(hok:HOk P w H h)(e:H a=some (.ins C dx fs)):∃mA,ObjM h a dx C mA/\(∀f,RelO (fs.lookup f) (mA f))/\PySem.Within mA (fs.map (·.1))/\fs.length<=1000/\H dx=some (.own a):=by
 obtain⟨d,z,ne,ob,mA,n,r,q⟩:=(show ObjOk P w H h a (.ins C dx fs) from hok a _ e)
 exact⟨mA,⟨ob,n,ne⟩,r,q,z,d⟩
end
structure Cls (K:PySem.W.Frag)(C:Addr):Prop where
 pg:PySem.W.plainGet K C Str.empty=true
 hd:PySem.W.hasDictIn K C=true
 po:PySem.W.plainOver K C=true
 sa:PySem.W.findIn K (.ref C) "__setattr__"=some (some (.builtin "object.__setattr__"))
theorem Cls.get{K:PySem.W.Frag}{C:Addr}(c:Cls K C)(f:Str):PySem.W.plainGet K C f=true:=c.pg
def NoAttr(K:PySem.W.Frag)(C:Addr)(f:Str):Prop:=PySem.W.findIn K (.ref C) f=some none
theorem NoAttr.taker{K:PySem.W.Frag}{C:Addr}{f:Str}(n:NoAttr K C f):PySem.W.takerIn K C f=some none:=by
 unfold PySem.W.takerIn
 rw[show PySem.W.findIn K (.ref C) f=some none from n]
 rfl
structure Meth (K:PySem.W.Frag)(C:Addr)(m:Str)(f:Addr):Prop where
 at_:PySem.W.findIn K (.ref C) m=some (some (.ref f))
 fn:PySem.W.isFn K (.ref f)=true
 kp:PySem.W.keepIn K (.ref f)=true
section
variable {X:Cx}{pins:List (Addr×Obj)}{σ:St}{H:Hp}{s:Shared}{a C dx:Addr}{fs:List (Str×V)}{f:Str}{v:V}{A:Around}{E:Value->Shared->Prop}
theorem zzf{b:Bool}{Q:Value->Shared->Prop}(I:Inv X pins σ H s)(e:H a=some (.ins C dx fs))(c:Cls X.K C)(n:NoAttr X.K C f)(l:fs.lookup f=some v)
 (h:∀u s',Inv X pins σ H s'->RelV v u->Q u s'):wpAny (model X.prog X.w) A (getAttr (.ref a) f b) Q E s:=by
 obtain⟨mA,O,r,_,_,_⟩:=vzj I.hok e
 obtain⟨u,hu,ru⟩:=RelO.some_of (v:=v) (o:=mA f) (by rw[<- l];exact r f)
 exact get_map I.kIn O (c.get f) c.hd n hu (zz5 ru) (h u _ (I.tok _) ru)
theorem qz5{m:Str}{g:Addr}{pl:Sem Bool}{Q:Value×List Value->Shared->Prop}(I:Inv X pins σ H s)(e:H a=some (.ins C dx fs))(c:Cls X.K C)(k:Meth X.K C m g)(l:fs.lookup m=none)
 (h:Q (.ref g,[.ref a]) s):wpAny (model X.prog X.w) A (getMethod (.ref a) m pl) Q E s:=by
 obtain⟨mA,O,r,_,_,_⟩:=vzj I.hok e
 have hn:mA m=none:=RelO.none_of (by rw[<- l];exact r m)
 exact get_meth I.kIn O (c.get m) k.at_ k.fn hn h
theorem vz3{y:V}{u:Value}{Q:Unit->Shared->Prop}(I:Inv X pins σ H s)(e:H a=some (.ins C dx fs))(c:Cls X.K C)(n:NoAttr X.K C f)(hl:fs.length<1000)(ry:RelV y u)
 (h:∀s',Inv X pins σ (upd H a (.ins C dx (putF f y fs))) s'->Q () s'):wpAny (model X.prog X.w) A (setAttr (.ref a) f u) Q E s:=by
 obtain⟨mA,O,r,wi,_,ho⟩:=vzj I.hok e
 have hz:(fs.map (·.1)).length<=sizeLine:=by rw[List.length_map,sizeLine_eq];omega
 refine set_map I.kIn O c.sa c.po n.taker c.hd wi hz λh' O' sb=>h _ ?_
 have hd:∃o,h'.get? dx=some o:=let⟨o,_,_,e',_⟩:=O'.ns;⟨o,e'⟩
 refine I.write (x:=a) (e:=dx) (by rw[e];exact True.intro) (.inr ho) (λb q hb z=>(sb.2 b hb).trans z) hd ?_
 refine⟨by rw[jzl O.ne];exact ho,?_,O.ne,O'.obj,_,O'.ns,λg=>?_,λg hg=>?_⟩
 ·have:=qzH f y fs;omega
 ·show RelO ((putF f y fs).lookup g) (if g=f then some u else mA g)
  rw[qzF]
  by_cases q:g=f
  ·rw[if_pos q,if_pos q];exact ry
  ·rw[if_neg q,if_neg q];exact r g
 ·by_cases q:g=f
  ·rw[q];exact(qzJ f y fs).1
  ·refine(qzJ f y fs).2 g (wi g λz=>hg ?_)
   show(if g=f then some u else mA g)=none
   rw[if_neg q];exact z
theorem Inv.made(I:Inv X pins σ H s):Inv X pins σ (upd (upd H s.heap.objs.size (.own (s.heap.objs.size+1))) (s.heap.objs.size+1) (.ins C s.heap.objs.size []))
 {s with heap:=(s.heap.push PySem.W.emptyDict).push (PySem.W.instObj C s.heap.objs.size)}:=by
 have e1:(s.heap.push PySem.W.emptyDict).get? s.heap.objs.size=some PySem.W.emptyDict:=Heap.get?_push_size s.heap rfl
 have e2:((s.heap.push PySem.W.emptyDict).push (PySem.W.instObj C s.heap.objs.size)).get? (s.heap.objs.size+1)=some (PySem.W.instObj C s.heap.objs.size):=by
  have:=Heap.get?_push_size (s.heap.push PySem.W.emptyDict) (o:=PySem.W.instObj C s.heap.objs.size) rfl
  rwa [Heap.size_push] at this
 have e3:(s.heap.push PySem.W.emptyDict).Ns s.heap.objs.size (λ_=>none):=⟨PySem.W.emptyDict, #[],_,e1,rfl,(λe he=>absurd he (by simp)),λ_=>rfl⟩
 have I1:=I.laid (a:=s.heap.objs.size) (o:=.own (s.heap.objs.size+1)) (h':=s.heap.push PySem.W.emptyDict) (t':=s.toks) (λb u q=>Heap.get?_push_of_some _ q) (Nat.le_refl _) ⟨_,e1⟩
 refine I1.laid (a:=s.heap.objs.size+1) (o:=.ins C s.heap.objs.size []) (t':=s.toks) (λb u q=>Heap.get?_push_of_some _ q) (Nat.le_of_eq (Heap.size_push _ _)) ?_
 have ne:s.heap.objs.size≠s.heap.objs.size+1:=Nat.ne_of_lt (Nat.lt_succ_self _)
 refine⟨by rw[jzl ne,jzy],Nat.zero_le _,ne,e2,λ_=>none,(Heap.Ns1.of_empty e3).at λo q=>Heap.get?_push_of_some _ q,λ_=>True.intro,λy hy=>absurd rfl hy⟩
theorem attr_of{prog:Program}{w:World}{env:Env}{e:Expr}{f:Str}{pos:Pos}{s:Shared}{Q:Value->Shared->Prop}(hb:attributeBase e f env (eval e env)=eval e env)
 (h:wpAny (model prog w) A (eval e env) (λo s₁=>wpAny (model prog w) A (getAttr o f true) Q E s₁) E s):wpAny (model prog w) A (eval (.Attribute e f pos) env) Q E s:=
 Attribute_any_ h (by rw[arm_eval_Attribute,hb])
end
def tFld(K:PySem.W.Frag)(ta:TE)(f:Str):TE:=λσ H Q=>ta σ H λx H1=>∃a C dx fs v,x=.ref a/\H1 a=some (.ins C dx fs)/\Cls K C/\NoAttr K C f/\fs.lookup f=some v/\Q v H1
def sFld(K:PySem.W.Frag)(ta tv:TE)(f:Str):TS:=λD σ H=>tv σ H λy H1=>ta σ H1 λx H2=>∃a C dx fs,x=.ref a/\H2 a=some (.ins C dx fs)/\Cls K C/\NoAttr K C f/\fs.length<1000/\
 D.nx σ (upd H2 a (.ins C dx (putF f y fs)))
section
variable {X:Cx}{o e value:Expr}{f:Str}{pos pos' tpos:Pos}{ta tv:TE}
theorem pe_fld(he:PE X e ta)(hb:attributeBase e f X.env (eval e X.env)=eval e X.env):PE X (.Attribute e f pos) (tFld X.K ta f):=by
 intro pins s σ H Q I h
 refine attr_of hb (thn (he pins s σ H _ I h) λu s1 ⟨x,H1,I1,rx,a,C,dx,fs,v,ex,ea,c,n,l,q⟩=>?_)
 subst ex
 obtain rfl:u=Value.ref a:=rx
 exact zzf I1 ea c n l λu' s2 I2 ru=>⟨v,H1,I2,ru,q⟩
theorem ps_fld(ha:PE X o ta)(hv:PE X value tv)(hs:swapsWith value (some (.Attribute o f pos')) pos.line X.env=pure false):PS X (.Assign [.Attribute o f pos'] value pos) (sFld X.K ta tv f):=by
 intro pins s σ H D I h
 refine plainObj_wpAny_Assign_Attribute (thn (hv pins s σ H _ I h) λu s1 ⟨y,H1,I1,ry,q⟩=>thn (ha pins s1 σ H1 _ I1 q) λov s2 ⟨x,H2,I2,rx,a,C,dx,fs,ex,ea,c,n,l,q2⟩=>?_) hs
 subst ex
 obtain rfl:ov=Value.ref a:=rx
 exact vz3 I2 ea c n l ry λs3 I3=>⟨σ,_,I3,q2⟩
end
section
variable {X:Cx}{pins:List (Addr×Obj)}{σ:St}{H:Hp}{s:Shared}{A:Around}{E:Value->Shared->Prop}{Q:Value->Shared->Prop}{c:Value}{b:Bool}
end
end L2
namespace L2
open PySem PySem.Spec PyProof.Rows
structure Room (k:Nat)(A:Around):Prop where
 hd:A.handled=none
 dp:A.depth+3*k+5<recursionLimit
 un:A.units+16*k+200<cLine
theorem Room.mono{j k:Nat}{A:Around}(r:Room k A)(h:j<=k):Room j A:=⟨r.hd,by have:=r.dp;omega,by have:=r.un;omega⟩
theorem Room.deeper{k:Nat}{A:Around}(r:Room (k+1) A)(env:Env):Room k (A.deeper env):=
 ⟨r.hd,by have:=r.dp;show A.depth+1+3*k+5<_;omega,by have:=r.un;show A.units+3+16*k+200<_;omega⟩
theorem vz9{A:Around}{C:Addr}{us:List Value}{kw:List (Str×Value)}:(A.under (.builtin "type.__call__" ⟨.ref C::us,kw⟩)).depth=A.depth+1:=by
 first |rfl|simp[Around.under,Code.weight,Code.isCreation,Code.isGuard,Code.isCaller,Code.frames,Code.isFrame,guardIds]
theorem vz8{A:Around}{C:Addr}{us:List Value}{kw:List (Str×Value)}:(A.under (.builtin "type.__call__" ⟨.ref C::us,kw⟩)).units=A.units+1:=by
 first |rfl|simp[Around.under,Code.cUnits,Code.frames,Code.isFrame]
theorem Room.make{k:Nat}{A:Around}(r:Room (k+1) A)(C:Addr)(us:List Value)(kw:List (Str×Value)):Room k (A.under (.builtin "type.__call__" ⟨.ref C::us,kw⟩)):=
 ⟨r.hd,by have:=r.dp;rw[vz9];omega,by have:=r.un;rw[vz8];omega⟩
theorem Room.depth{k:Nat}{A:Around}(r:Room k A):A.depth<recursionLimit:=by have:=r.dp;omega
theorem Room.units{k:Nat}{A:Around}(r:Room k A):A.units+64<cLine:=by have:=r.un;omega
def tNil:TA:=λ_ H Q=>Q [] H
def tCons(ta:TE)(tr:TA):TA:=λσ H Q=>ta σ H λx H1=>tr σ H1 λxs H2=>Q (x::xs) H2
section
variable {X:Cx}{e:Expr}{es:List Expr}{te:TE}{t:TA}{pos:Pos}
theorem qzC:PA X [] tNil:=λ_ _ _ _ H Q I h=>Calls.spliced_nil ⟨[],H,I,.nil,h⟩
theorem jz1(ha:PE X e te)(hr:PA X es t)(hs:starEach (e::es) X.env=(false,eval e X.env)::starEach es X.env:=by rfl):PA X (e::es) (tCons te t):=by
 intro pos pins s σ H Q I h
 rw[hs]
 show wpAny _ _ (spliced ((false,eval e X.env)::backTo pos (starEach es X.env))) _ _ s
 refine Calls.spliced_cons (thn (ha pins s σ H _ I h) λu s1 ⟨x,H1,I1,r1,q1⟩=>?_)
 exact thn (hr pos pins s1 σ H1 _ I1 q1) λus s2 ⟨xs,H2,I2,r2,q2⟩=>⟨x::xs,H2,I2,.cons r1 r2,q2⟩
def tTup(t:TA):TE:=λσ H Q=>t σ H λxs H1=>xs.length<=sizeLine/\∀p,H1 p=none->Q (.ref p) (upd H1 p (.tup xs))
def tLst(t:TA):TE:=λσ H Q=>t σ H λxs H1=>xs.length<=sizeLine/\∀p,H1 p=none->Q (.ref p) (upd H1 p (.lst xs))
theorem pe_tup{x1}(h:PA X es t):PE X (.Tuple es x1 pos) (tTup t):=by
 intro pins s σ H Q I hq
 refine wpAny_Tuple_spliced (thn (h pos pins s σ H _ I hq) λus s1 ⟨xs,H1,I1,r,z,q⟩=>⟨by rw[<- r.length];exact z,?_⟩)
 have hf:H1 s1.heap.objs.size=none:=I1.hok.fresh (Nat.le_refl _)
 refine⟨.ref s1.heap.objs.size,upd H1 s1.heap.objs.size (.tup xs),I1.laid (t':=s1.toks) (λb u e=>Heap.get?_push_of_some _ e) (Nat.le_refl _) ?_,rfl,q _ hf⟩
 exact⟨z,us,r,⟨_,Heap.get?_push_size _ rfl,rfl,_,rfl⟩⟩
theorem pe_lst(h:PA X es t):PE X (.List es pos) (tLst t):=by
 intro pins s σ H Q I hq
 refine wpAny_List_spliced (thn (h pos pins s σ H _ I hq) λus s1 ⟨xs,H1,I1,r,z,q⟩=>⟨by rw[<- r.length];exact z,?_⟩)
 have hf:H1 s1.heap.objs.size=none:=I1.hok.fresh (Nat.le_refl _)
 refine⟨.ref s1.heap.objs.size,upd H1 s1.heap.objs.size (.lst xs),I1.laid (t':=s1.toks) (λb u e=>Heap.get?_push_of_some _ e) (Nat.le_refl _) ?_,rfl,q _ hf⟩
 exact⟨z,us,0,r,Heap.get?_push_size _ rfl⟩
end
abbrev Sp:=List V->Hp->VK->XK->Prop
abbrev CXT:=List Env->Hp->Shared->XK->Value->Shared->Prop
structure Env0 (P:Program)(w:World)(K:PySem.W.Frag)(mg:Str->Option Value)(base:Heap)(A:Around)(outer:List Env)(s:Shared)(H:Hp):Prop where
 frames:A.frames=some outer
 mod:Mod K mg base
 bs:∀b o,base.get? b=some o->s.heap.get? b=some o/\H b=none
 bsz:base.objs.size<=s.heap.objs.size
 funs:s.heap.FunFrames base outer
 frf:∀b∈frs outer,H b=none
 hok:HOk P w H s.heap
 bare:AllBare s.gens
def CE(outer:List Env)(P:Program)(w:World)(H:Hp)(s:Shared)(Q:VK)(u:Value)(s':Shared):Prop:=
 ∃v H',s'.os=s.os/\AllBare s'.gens/\Un (frs outer) [] H H' s.heap s'.heap/\HOk P w H' s'.heap/\RelV v u/\Q v H'
def CR(CX:CXT)(outer:List Env)(P:Program)(w:World)(H:Hp)(s:Shared)(Q:VK)(E:XK)(r:Result)(s':Shared):Prop:=
 match r with
 |.ok (.ret u)=>CE outer P w H s Q u s'
 |.ok _=>False
 |.error e=>CX outer H s E e s'
structure FnOk (P:Program)(w:World)(K:PySem.W.Frag)(mg:Str->Option Value)(base:Heap)(CX:CXT)(k:Nat)(f:Addr)(fd:FuncData)(ps:List Str)(sp:Sp):Prop where
 len:∀vs H Q E,sp vs H Q E->vs.length=ps.length
 run:∀(A:Around)(outer:List Env)(s:Shared)(H:Hp)(args:Args)(us:List Value)(vs:List V)(Q:VK)(E:XK),Room k A->Env0 P w K mg base A outer s H->BindsTo s fd args (ps.zip us)->Vals vs us->sp vs H Q E->
  codeAny (model P w) A (.call (.ref f) args) (CR CX outer P w H s Q E) s
theorem FnOk.imp{P:Program}{w:World}{K:PySem.W.Frag}{mg:Str->Option Value}{base:Heap}{CX:CXT}{k:Nat}{f:Addr}{fd:FuncData}{ps:List Str}{sp sp':Sp}(F:FnOk P w K mg base CX k f fd ps sp)
 (h:∀vs H Q E,sp' vs H Q E->sp vs H Q E):FnOk P w K mg base CX k f fd ps sp':=
 ⟨λvs H Q E q=>F.len vs H Q E (h _ _ _ _ q),λA outer s H args us vs Q E hr he hb hv hs=>F.run A outer s H args us vs Q E hr he hb hv (h _ _ _ _ hs)⟩
theorem Env0.make{P:Program}{w:World}{K:PySem.W.Frag}{mg:Str->Option Value}{base:Heap}{A:Around}{outer:List Env}{s:Shared}{H:Hp}(e:Env0 P w K mg base A outer s H)(C:Addr)(us:List Value)(kw:List (Str×Value)):
 Env0 P w K mg base (A.under (.builtin "type.__call__" ⟨.ref C::us,kw⟩)) outer s H:=⟨by first |exact e.frames|(simpa [Around.under,Code.envs,Code.isFrame,pushEnvs] using e.frames),e.mod,e.bs,e.bsz,e.funs,e.frf,e.hok,e.bare⟩
section
variable {X:Cx}{pins:List (Addr×Obj)}{σ:St}{H:Hp}{s s':Shared}
theorem Inv.env0(I:Inv X pins σ H s):Env0 X.prog X.w X.K X.mg X.base X.A X.stack s H:=
 ⟨I.ok.frames,I.ok.mod,I.bs,Nat.le_trans I.ok.bsz I.sz,I.stack,I.stkFree,I.hok,I.bare⟩
theorem Inv.after{Q:VK}{u:Value}(I:Inv X pins σ H s)(h:CE X.stack X.prog X.w H s Q u s'):EP X pins σ Q u s':=by
 obtain⟨v,H',os,bare,un,hok,r,q⟩:=h
 obtain⟨hh,g,d,t,os'⟩:=s'
 obtain rfl:os'=s.os:=os
 exact⟨v,H',I.call (h':=hh) (g':=g) (d':=d) (t':=t) (ch:= []) un hok bare (λb z=>absurd z (by simp)),r,q⟩
end
def tCall(sp:Sp)(dvs:List V)(E:XK)(t:TA):TE:=λσ H Q=>t σ H λvs H1=>sp (vs++dvs) H1 Q E
def tMeth(C:Addr)(m:Str)(sp:Sp)(dvs:List V)(E:XK)(ta:TE)(t:TA):TE:=λσ H Q=>ta σ H λx H1=>∃a dx fs,x=.ref a/\H1 a=some (.ins C dx fs)/\fs.lookup m=none/\
 t σ H1 λvs H2=>sp (x::(vs++dvs)) H2 Q E
def tMake(C:Addr)(sp:Sp)(dvs:List V)(E:XK)(t:TA):TE:=λσ H Q=>t σ H λvs H1=>∀x dx,H1 x=none->H1 dx=none->dx≠x->
 sp (.ref x::(vs++dvs)) (upd (upd H1 dx (.own x)) x (.ins C dx [])) (λv H2=>v=.non/\Q (.ref x) H2) E
def Binds(K:PySem.W.Frag)(fd:FuncData)(ps:List Str)(ds:List Value):Prop:=
 ∀(s:Shared)(us:List Value),K.In s.heap->(us++ds).length=ps.length->BindsTo s fd ⟨us,[]⟩ (ps.zip (us++ds))
theorem Binds.all{K:PySem.W.Frag}{fd:FuncData}{ps:List Str}(h:∀us:List Value,us.length=ps.length->bindArgs fd ⟨us,[]⟩=pure (ps.zip us)):Binds K fd ps []:=λs us _ hl=>by
 rw[List.append_nil] at hl⊢
 exact .of_eq (h us hl)
def Passes(CX:CXT)(X:Cx)(E:XK):Prop:=∀(pins:List (Addr×Obj))(σ:St)(H:Hp)(s:Shared)(e:Value)(s':Shared),Inv X pins σ H s->CX X.stack H s E e s'->X.xe e s'
section
variable {X:Cx}{CX:CXT}{k:Nat}{f C:Addr}{fd:FuncData}{ps:List Str}{sp:Sp}{dvs:List V}{ds:List Value}{E:XK}{x m:Str}{p pos apos:Pos}{e o:Expr}{es:List Expr}{ta:TE}{t:TA}
theorem zzv{pins:List (Addr×Obj)}{σ:St}{H:Hp}{s:Shared}{Q:VK}{us:List Value}{vs:List V}(F:FnOk X.prog X.w X.K X.mg X.base CX k f fd ps sp)(hr:Room k X.A)(hb:Binds X.K fd ps ds)(hd:Vals dvs ds)(hx:Passes CX X E)
 (I:Inv X pins σ H s)(r:Vals vs us)(h:sp (vs++dvs) H Q E):wpAny (model X.prog X.w) X.A (call (.ref f) us) (EP X pins σ Q) X.xe s:=by
 have r2:Vals (vs++dvs) (us++ds):=r.append hd
 have hl:(us++ds).length=ps.length:=by rw[<- r2.length];exact F.len _ _ _ _ h
 refine wpAny_call (codeAny_mono (F.run X.A X.stack s H ⟨us,[]⟩ (us++ds) (vs++dvs) Q E hr I.env0 (hb s us I.kIn hl) r2 h) λr s' hq=>?_)
 cases r with
 |error e=>exact hx pins σ H s e s' I hq
 |ok fl=>
  cases fl with
  |ret u=>exact I.after hq
  |next=>exact False.elim hq
  |brk=>exact False.elim hq
  |cont=>exact False.elim hq
theorem pe_call(F:FnOk X.prog X.w X.K X.mg X.base CX k f fd ps sp)(hr:Room k X.A)(hg:Gl X x)(hm:X.mg x=some (.ref f))(hk:PySem.W.keepIn X.K (.ref f)=true)(hb:Binds X.K fd ps ds)(hd:Vals dvs ds)(hx:Passes CX X E)
 (ha:PA X (e::es) t)(hdb:(x==("__debug__":Str))=false:=by decide)(he:starEach (e::es) X.env=(false,eval e X.env)::starEach es X.env:=by rfl)(hpl:(backTo pos (starEach es X.env)).any (·.1)=false:=by rfl):
 PE X (.Call (.Name x p) (e::es) [] pos) (tCall sp dvs E t):=by
 intro pins s σ H Q I h
 refine wpAny_Call_Name_kw (qzI I hg hm ?_ hdb)
 refine PySem.W.callWith_K (h₀:=X.base) I.ok.mod.kin hk (thn (ha pos pins s σ H _ I h) λus s1 ⟨vs,H1,I1,r,q⟩=>⟨I1.kIn,?_⟩) he hpl
 exact zzv F hr hb hd hx I1 r q
theorem pe_meth{pl:Sem Bool}(he:PE X o ta)(c:Cls X.K C)(hm:Meth X.K C m f)(F:FnOk X.prog X.w X.K X.mg X.base CX k f fd ps sp)(hr:Room k X.A)(hb:Binds X.K fd ps ds)(hd:Vals dvs ds)(hx:Passes CX X E)(ha:PA X (e::es) t)
 (hst:starEach (e::es) X.env=(false,eval e X.env)::starEach es X.env:=by rfl)(hpl:(backTo pos (starEach es X.env)).any (·.1)=false:=by rfl)
 (ht:eval (.Call (.Attribute o m apos) (e::es) [] pos) X.env=(do
   let ov <- eval o X.env
   standAt apos.atName
   let(f,first) <- holding [ov] (getMethod ov m pl)
   callWith pos f first (backTo pos (starEach (e::es) X.env)) (backToKw pos (keywordEach [] X.env))):=by rfl):
 PE X (.Call (.Attribute o m apos) (e::es) [] pos) (tMeth C m sp dvs E ta t):=by
 intro pins s σ H Q I h
 refine PySem.W.methodCall_KW (pl:=pl) (thn (he pins s σ H _ I h) λu s1 ⟨x,H1,I1,rx,a,dx,fs,ex,ea,l,q⟩=>?_) ht
 subst ex
 obtain rfl:u=Value.ref a:=rx
 refine qz5 I1 ea c hm l ?_
 refine PySem.W.callWith_K (first:= [.ref a]) (h₀:=X.base) I.ok.mod.kin hm.kp (thn (ha pos pins s1 σ H1 _ I1 q) λus s2 ⟨vs,H2,I2,r,q2⟩=>⟨I2.kIn,?_⟩) hst hpl
 exact zzv (us:=.ref a::us) (vs:=.ref a::vs) F hr hb hd hx I2 (.cons rfl r) q2
theorem pe_meth0{pl:Sem Bool}(he:PE X o ta)(c:Cls X.K C)(hm:Meth X.K C m f)(F:FnOk X.prog X.w X.K X.mg X.base CX k f fd ps sp)(hr:Room k X.A)(hb:Binds X.K fd ps ds)(hd:Vals dvs ds)(hx:Passes CX X E)
 (ht:eval (.Call (.Attribute o m apos) [] [] pos) X.env=(do
   let ov <- eval o X.env
   standAt apos.atName
   let(f,first) <- holding [ov] (getMethod ov m pl)
   callWith pos f first (backTo pos (starEach [] X.env)) (backToKw pos (keywordEach [] X.env))):=by rfl):
 PE X (.Call (.Attribute o m apos) [] [] pos) (tMeth C m sp dvs E ta tNil):=by
 intro pins s σ H Q I h
 refine PySem.W.methodCall_KW (pl:=pl) (thn (he pins s σ H _ I h) λu s1 ⟨x,H1,I1,rx,a,dx,fs,ex,ea,l,q⟩=>?_) ht
 subst ex
 obtain rfl:u=Value.ref a:=rx
 refine qz5 I1 ea c hm l ?_
 exact PySem.W.callWith_K0 (first:= [.ref a]) I1.kIn hm.kp (zzv (us:= [.ref a]) (vs:= [.ref a]) F hr hb hd hx I1 (.cons rfl .nil) q)
structure Mk (K:PySem.W.Frag)(C f:Addr):Prop where
 makes:PySem.W.makesIn K C=true
 init:PySem.W.findIn K (.ref C) "__init__"=some (some (.ref f))
 fn:PySem.W.isFn K (.ref f)=true
 kp:PySem.W.keepIn K (.ref C)=true
theorem run_make{pins:List (Addr×Obj)}{σ:St}{H:Hp}{s:Shared}{Q:VK}{us:List Value}{vs:List V}(M:Mk X.K C f)(F:FnOk X.prog X.w X.K X.mg X.base CX k f fd ps sp)(hr:Room (k+1) X.A)(hb:Binds X.K fd ps ds)(hd:Vals dvs ds)
 (hx:Passes CX X E)(I:Inv X pins σ H s)(r:Vals vs us)
 (h:∀x dx,H x=none->H dx=none->dx≠x->sp (.ref x::(vs++dvs)) (upd (upd H dx (.own x)) x (.ins C dx [])) (λv H2=>v=.non/\Q (.ref x) H2) E):
 wpAny (model X.prog X.w) X.A (call (.ref C) us) (EP X pins σ Q) X.xe s:=by
 have hq:=h (s.heap.objs.size+1) s.heap.objs.size (I.hok.fresh (Nat.le_succ _)) (I.hok.fresh (Nat.le_refl _)) (Nat.ne_of_lt (Nat.lt_succ_self _))
 have I2:=Inv.made (C:=C) I
 have r2:Vals (V.ref (s.heap.objs.size+1)::(vs++dvs)) (Value.ref (s.heap.objs.size+1)::(us++ds)):=.cons rfl (r.append hd)
 have hl:(Value.ref (s.heap.objs.size+1)::us++ds).length=ps.length:=by
  have e:=r2.length
  rw[F.len _ _ _ _ hq] at e
  exact e.symm
 refine wpAny_call (make_map (f:=f) I.kIn M.makes M.init (beq_iff_eq.mp M.fn) (codeAny_mono (F.run _ X.stack _ _ ⟨Value.ref (s.heap.objs.size+1)::us,[]⟩ (Value.ref (s.heap.objs.size+1)::(us++ds)) _ _ E (hr.make C us [])
  (I2.env0.make C us []) (hb _ (Value.ref (s.heap.objs.size+1)::us) I2.kIn hl) r2 hq) λr s' hq'=>?_))
 cases r with
 |error e=>exact hx pins σ _ _ e s' I2 hq'
 |ok fl=>
  cases fl with
  |ret u=>
   obtain⟨v,H',I3,rv,ev,q3⟩:=I2.after hq'
   subst ev
   exact⟨rv,⟨V.ref (s.heap.objs.size+1),H',I3,rfl,q3⟩⟩
  |next=>exact False.elim hq'
  |brk=>exact False.elim hq'
  |cont=>exact False.elim hq'
theorem pe_make(M:Mk X.K C f)(F:FnOk X.prog X.w X.K X.mg X.base CX k f fd ps sp)(hr:Room (k+1) X.A)(hg:Gl X x)(hm:X.mg x=some (.ref C))(hb:Binds X.K fd ps ds)(hd:Vals dvs ds)(hx:Passes CX X E)
 (ha:PA X (e::es) t)(hdb:(x==("__debug__":Str))=false:=by decide)(he:starEach (e::es) X.env=(false,eval e X.env)::starEach es X.env:=by rfl)(hpl:(backTo pos (starEach es X.env)).any (·.1)=false:=by rfl):
 PE X (.Call (.Name x p) (e::es) [] pos) (tMake C sp dvs E t):=by
 intro pins s σ H Q I h
 refine wpAny_Call_Name_kw (qzI I hg hm ?_ hdb)
 refine PySem.W.callWith_K (h₀:=X.base) I.ok.mod.kin M.kp (thn (ha pos pins s σ H _ I h) λus s1 ⟨vs,H1,I1,r,q⟩=>⟨I1.kIn,?_⟩) he hpl
 exact run_make M F hr hb hd hx I1 r q
end
section
variable {X:Cx}{CX:CXT}{k:Nat}{f C:Addr}{fd:FuncData}{ps ks:List Str}{sp:Sp}{E:XK}{x m:Str}{p pos apos kpos:Pos}{e o:Expr}{es:List Expr}{kws:List Keyword}{te ta:TE}{t tk:TA}{nm:Option Str}
variable {g:List Value->List Value->List Value}{gV:List V->List V->List V}
end
structure FnScope (N P:List Str)(sc:Scope):Prop where
 kind:sc.kind=.function
 co:sc.isCoroutine=false
 gen:sc.isGenerator=false
 nd:N.Nodup
 pre:N.take P.length=P
 par:∀x∈P,sc.names.lookup x=some .local\/sc.names.lookup x=some .cell
 nofree:∀y∈sc.names,y.2≠ .free
theorem wz2{kindOf:Str->Option NameKind}{x:Str}:∀{binds:List (Str×Value)}{m:Str->Option Value},(∀v,(x,v) ∉ binds)->bindL kindOf binds m x=m x
 | [],_,_=>rfl
 |(n,v)::r,m,h=>by
  unfold bindL
  rw[wz2 λw hw=>h w (List.mem_cons_of_mem _ hw)]
  split
  ·have:x≠n:=by rintro rfl;exact h v List.mem_cons_self
   simp[this]
  ·rfl
theorem wz4{kindOf:Str->Option NameKind}{x:Str}:∀{binds:List (Str×Value)}{m:Str->Option Value},(∀v,(x,v) ∉ binds)->bindC kindOf binds m x=m x
 | [],_,_=>rfl
 |(n,v)::r,m,h=>by
  unfold bindC
  rw[wz4 λw hw=>h w (List.mem_cons_of_mem _ hw)]
  split
  ·rfl
  ·have:x≠n:=by rintro rfl;exact h v List.mem_cons_self
   simp[this]
theorem wz3{kindOf:Str->Option NameKind}{x:Str}{v:Value}:∀{P:List Str}{vs:List Value}{i:Nat}{m:Str->Option Value},P.Nodup->P[i]? =some x->vs[i]? =some v->kindOf x=some .local->
 bindL kindOf (P.zip vs) m x=some v
 | [],_,_,_,_,h,_,_=>by simp at h
 |_::_,[],_,_,_,_,h,_=>by simp at h
 |p::P,w::vs,0,m,nd,h1,h2,hk=>by
  simp at h1 h2;subst h1;subst h2
  show bindL kindOf ((p,w)::P.zip vs) m p=_
  unfold bindL
  rw[wz2 λv hv=>(List.nodup_cons.mp nd).1 (List.of_mem_zip hv).1,if_pos hk]
  simp
 |p::P,w::vs,i+1,m,nd,h1,h2,hk=>by
  show bindL kindOf ((p,w)::P.zip vs) m x=_
  unfold bindL
  exact wz3 (i:=i) (List.nodup_cons.mp nd).2 (by simpa using h1) (by simpa using h2) hk
theorem wz5{kindOf:Str->Option NameKind}{x:Str}{v:Value}:∀{P:List Str}{vs:List Value}{i:Nat}{m:Str->Option Value},P.Nodup->P[i]? =some x->vs[i]? =some v->kindOf x≠some .local->
 bindC kindOf (P.zip vs) m x=some v
 | [],_,_,_,_,h,_,_=>by simp at h
 |_::_,[],_,_,_,_,h,_=>by simp at h
 |p::P,w::vs,0,m,nd,h1,h2,hk=>by
  simp at h1 h2;subst h1;subst h2
  show bindC kindOf ((p,w)::P.zip vs) m p=_
  unfold bindC
  rw[wz4 λv hv=>(List.nodup_cons.mp nd).1 (List.of_mem_zip hv).1,if_neg hk]
  simp
 |p::P,w::vs,i+1,m,nd,h1,h2,hk=>by
  show bindC kindOf ((p,w)::P.zip vs) m x=_
  unfold bindC
  exact wz5 (i:=i) (List.nodup_cons.mp nd).2 (by simpa using h1) (by simpa using h2) hk
def start(N:List Str)(vs:List V):St:=vs.map some++List.replicate (N.length-vs.length) none
def cxOf(CX:CXT)(P:Program)(w:World)(K:PySem.W.Frag)(mg:Str->Option Value)(base:Heap)(N:List Str)(qual:Str)(scope:Scope)(f:Addr)(cd:Value)(A:Around)(outer:List Env)(s:Shared)(H:Hp)(E:XK):Cx where
 prog:=P
 w:=w
 K:=K
 mg:=mg
 base:=base
 A:=A.deeper (envOfC qual scope s.heap.objs.size f cd)
 N:=N
 s₀:=s
 H₀:=H
 env:=envOfC qual scope s.heap.objs.size f cd
 outer:=outer
 stack:=envOfC qual scope s.heap.objs.size f cd::outer
 ex:= []
 calm:=true
 fn:=λ_=>true
 pn:= []
 xe:=λe s'=>wpAny (model P w) (A.deeper (envOfC qual scope s.heap.objs.size f cd)) (leaving (envOfC qual scope s.heap.objs.size f cd) e) (λ_ s''=>CX outer H s E e s'') (λe' s''=>CX outer H s E e' s'') s'
theorem vzQ{sc:Scope}{n:Nat}{x:Str}(h:sc.names.lookup x=some .cell):∃c,(cellsFrom n sc.names []).lookup x=some c:=by
 have q:=PySem.W.cellsFrom_some sc.names n [] (.inl h)
 exact Option.isSome_iff_exists.mp q
theorem zz2{CX:CXT}{P:Program}{w:World}{K:PySem.W.Frag}{mg:Str->Option Value}{base:Heap}{N ps:List Str}{qual:Str}{scope:Scope}{f:Addr}{cd:Value}{A:Around}{outer:List Env}{s s1:Shared}{H:Hp}{E:XK}{us:List Value}{vs:List V}
 (S:FnScope N ps scope)(hd:A.handled=none)(e0:Env0 P w K mg base A outer s H)(hl:vs.length=ps.length)(r:Vals vs us)
 (x:InCallC s s.heap.objs.size (bindL (envOfC qual scope s.heap.objs.size f cd).kindOf (ps.zip us) λ_=>none) (cellsFrom (s.heap.objs.size+1) scope.names []) (bindC (envOfC qual scope s.heap.objs.size f cd).kindOf (ps.zip us) λ_=>none) s1):
 Inv (cxOf CX P w K mg base N qual scope f cd A outer s H E) [] (start N vs) H s1:=by
 have hpl:ps.length<=N.length:=by have:=congrArg List.length S.pre;rw[List.length_take] at this;omega
 obtain⟨h1,tk,rfl,hk⟩:=x.done
 have noA:∀b:Addr,b ∉ (cxOf CX P w K mg base N qual scope f cd A outer s H E).ex:=λb z=>absurd (show b∈([]:List Addr) from z) (by simp)
 refine⟨⟨e0.mod,S.kind,rfl,rfl,Nat.le_refl _,λy z c h1 h2=>?_,λy hy=>?_,λy c _ h=>?_,λ_=>hd,Around.frames_deeper e0.frames,.inr ⟨rfl,rfl⟩,λb z=>absurd z (noA b),e0.bs,e0.bsz,λb _ _=>noA b,λb z=>absurd z (noA b),e0.funs,e0.frf⟩,
  rfl,e0.bare,Un.kept hk,⟨_,x.toInCall.ns,λi y v h1 h2 h3=>?_⟩,λy c h=>⟨_,x.cell y c h⟩,e0.hok.fresh (Nat.le_refl _),λy c h=>?_,λp hp=>absurd (show p∈([]:List (Addr×Obj)) from hp) (by simp),e0.hok.kept hk,?_⟩
 ·exact name_of_addr x.apart (PySem.mem_of_lookup h1) (PySem.mem_of_lookup h2)
 ·have hy:scope.names.lookup y=some .cell\/scope.names.lookup y=some .free:=hy
  rcases hy with hy|hy
  ·exact vzQ hy
  ·exact absurd rfl (S.nofree _ (PySem.mem_of_lookup hy))
 ·exact Nat.le_of_lt (x.above y c (PySem.mem_of_lookup h))
 ·have hi:i<vs.length:=by
   unfold start at h2
   by_cases hi:i<vs.length
   ·exact hi
   ·rw[List.getElem?_append_right (by simpa using hi)] at h2
    rw[List.getElem?_replicate] at h2
    split at h2<;>cases h2
  have ha:vs[i]? =some v:=by
   unfold start at h2
   rw[List.getElem?_append_left (by simpa using hi),List.getElem?_map] at h2
   cases e:vs[i]? with
   |none=>rw[e] at h2;cases h2
   |some a=>rw[e] at h2;cases h2;rfl
  obtain⟨u,hu,rv⟩:=r.get ha
  have hp:ps[i]? =some y:=by
   rw[<- S.pre,List.getElem?_take_of_lt (by omega)];exact h1
  have ndP:ps.Nodup:=by rw[<- S.pre];exact S.nd.sublist (List.take_sublist _ _)
  refine⟨u,rv,?_⟩
  rcases S.par y (List.mem_of_getElem? hp) with k|k
  ·exact .inl ⟨k,wz3 ndP hp hu k⟩
  ·obtain⟨c,e⟩:=vzQ (n:=s.heap.objs.size+1) k
   refine .inr ⟨.inl k,c,e,?_⟩
   have q:=x.cell y c e
   rw[wz5 ndP hp hu (by show scope.names.lookup y≠_;rw[k];decide)] at q
   exact q
 ·exact e0.hok.fresh (Nat.le_of_lt (x.above y c (PySem.mem_of_lookup h)))
 ·unfold start
  show _=N.length
  rw[List.length_append,List.length_map,List.length_replicate]
  omega
theorem fn_of{CX:CXT}{P:Program}{w:World}{K:PySem.W.Frag}{mg:Str->Option Value}{base:Heap}{k:Nat}{f:Addr}{name qual:Str}{params:Arguments}{body:List Stmt}{scope:Scope}{dV kV doc pm cdv ct oc:Value}{an od:Option Addr}
 {osl:Array (Option Value)}{N ps:List Str}{sp:Sp}(lk:K.lookup f=some ⟨oc,od,.func (PySem.W.fnOf name qual params body scope dV kV doc pm an cdv ct),osl⟩)(hcd:PySem.W.codeIn K cdv qual=true)(S:FnScope N ps scope)
 (len:∀vs H Q E,sp vs H Q E->vs.length=ps.length)
 (hbody:∀(A:Around)(outer:List Env)(s:Shared)(H:Hp)(vs:List V)(Q:VK)(E:XK),Room k (A.deeper (envOfC qual scope s.heap.objs.size f cdv))->sp vs H Q E->
   ∃t,PSs (cxOf CX P w K mg base N qual scope f cdv A outer s H E) body t/\t {nx:=λ_ H'=>Q .non H',rt:=Q} (start N vs) H):
 FnOk P w K mg base CX (k+1) f (PySem.W.fnOf name qual params body scope dV kV doc pm an cdv ct) ps sp:=by
 refine⟨len,λA outer s H args us vs Q E hr e0 hb r hsp=>?_⟩
 have hl:=len _ _ _ _ hsp
 have KX:K.In s.heap:=e0.mod.kin.keeps λb o e=>(e0.bs b o e).1
 have lim:s.heap.NoLimit:=e0.mod.nolimit.keeps λb o e=>(e0.bs b o e).1
 have hkind:∀y∈ps.zip us,scope.names.lookup y.1=some .local\/(scope.names.lookup y.1=some .cell/\((cellsFrom (s.heap.objs.size+1) scope.names []).lookup y.1).isSome=true):=λ⟨n,v⟩ hy=>by
  rcases S.par n (List.of_mem_zip hy).1 with q|q
  ·exact .inl q
  ·exact .inr ⟨q,PySem.W.cellsFrom_some _ _ _ (.inl q)⟩
 refine codeAny_call_function hr.depth (KX _ _ lk) rfl S.co S.gen rfl (PySem.W.codeRec_of KX hcd) (hb _ _ _ _ ?_)
 refine wpAny_newFunctionEnv_cells S.kind hkind λenv he s1 x=>?_
 subst he
 refine⟨lim.keeps x.toInCall.keep,codeAny_func ?_⟩
 obtain⟨t,ht,hq⟩:=hbody A outer s H vs Q E (hr.deeper _) hsp
 have I:Inv (cxOf CX P w K mg base N qual scope f cdv A outer s H E) [] (start N vs) H s1:=zz2 S hr.hd e0 hl r x
 refine wpAny_mono (ht [] s1 (start N vs) H _ I hq) (λfl s' hs=>?_) λe s' hs=>hs
 have fin:∀{σ':St}{H':Hp}{v:V}{u:Value},Inv (cxOf CX P w K mg base N qual scope f cdv A outer s H E) [] σ' H' s'->RelV v u->Q v H'->CE outer P w H s Q u s':=
  λ{σ' H' v u} J rv q=>⟨v,H',J.os,J.bare,J.base,J.hok,rv,q⟩
 cases fl with
 |ret u=>
  obtain⟨v,σ',H',J,rv,q⟩:=hs
  exact fin J rv q
 |next=>
  obtain⟨σ',H',J,q⟩:=hs
  exact fin (v:=V.non) (u:=Value.none) J rfl q
 |brk=>
  obtain⟨_,_,_,q⟩:=hs
  exact False.elim q
 |cont=>
  obtain⟨_,_,_,q⟩:=hs
  exact False.elim q
end L2
namespace L2
open PySem PySem.Spec PyProof.Rows
section
variable {X:Cx}{x:Str}{p pos:Pos}{e:Expr}{es:List Expr}{t:TA}{id T:String}{r:List V->Hp->VK->Prop}
def tCB(r:List V->Hp->VK->Prop)(t:TA):TE:=λσ H Q=>t σ H λvs H1=>r vs H1 Q
theorem vzA(hc:CallR X (.builtin id) r)(hg:Gl X x)(hm:X.mg x=none)(hv:bootBuiltins x=some (.builtin id))(ha:PA X (e::es) t)(hn:x≠"__name__":=by decide)(hdb:(x==("__debug__":Str))=false:=by decide)
 (he:starEach (e::es) X.env=(false,eval e X.env)::starEach es X.env:=by rfl)(hpl:(backTo pos (starEach es X.env)).any (·.1)=false:=by rfl):PE X (.Call (.Name x p) (e::es) [] pos) (tCB r t):=by
 intro pins s σ H Q I h
 refine wpAny_Call_Name_kw (wzR I hg hm hv ?_ hn hdb)
 exact PyProof.Rows.callWith_builtin1 (thn (ha pos pins s σ H _ I h) λus s1 ⟨vs,H1,I1,r1,q1⟩=>hc pins s1 σ H1 vs us Q I1 r1 q1) he hpl
theorem zzG(hc:CallR X (.type T) r)(hg:Gl X x)(hm:X.mg x=none)(hv:bootBuiltins x=some (.type T))(ha:PA X (e::es) t)(hn:x≠"__name__":=by decide)(hdb:(x==("__debug__":Str))=false:=by decide)
 (he:starEach (e::es) X.env=(false,eval e X.env)::starEach es X.env:=by rfl)(hpl:(backTo pos (starEach es X.env)).any (·.1)=false:=by rfl):PE X (.Call (.Name x p) (e::es) [] pos) (tCB r t):=by
 intro pins s σ H Q I h
 refine wpAny_Call_Name_kw (wzR I hg hm hv ?_ hn hdb)
 exact PyProof.Rows.callWith_type1 (thn (ha pos pins s σ H _ I h) λus s1 ⟨vs,H1,I1,r1,q1⟩=>hc pins s1 σ H1 vs us Q I1 r1 q1) he hpl
end
end L2
namespace HT
open PySem PyProof.Rows
section
open PySem.SeqAt
open PySem.AutoSeq1 (wpAny_loadPart')
open PySem.MeetsSeq PySem.MeetsSeq2 PySem.MeetsSeq3
end
section
variable {prog:Program}{w:World}{A:Around}{E:Value->Shared->Prop}{s:Shared}
theorem cat_tup{t b:Addr}{vs ws:List Value}{Q:Value->Shared->Prop}(ht:IsTup s.heap t vs.toArray)(hb:IsTup s.heap b ws.toArray)(hv:vs≠ [])
 (h1:ws=[]->Q (.ref t) s)(h2:ws≠ []->Q (.ref s.heap.objs.size) {s with heap:=s.heap.push {cls:=.type "tuple",data:=.seq (vs++ws).toArray}})
 (hsz:vs.length+ws.length<=sizeLine):wpAny (model prog w) A (binaryOp .Add (.ref t) (.ref b)) Q E s:=by
 obtain⟨⟨cls,dd,data,sl⟩,ho,hc,n,hd⟩:=id ht
 obtain⟨⟨cls2,dd2,data2,sl2⟩,ho2,hc2,n2,hd2⟩:=id hb
 simp only at hc hd hc2 hd2
 subst hc hd hc2 hd2
 have e:vs.toArray++ws.toArray=(vs++ws).toArray:=by simp
 by_cases hw:ws=[]
 ·exact concat_meets ⟨_,ho,rfl⟩ ⟨_,ho2,rfl⟩ noFill_tuple_add seq_tuple_add PySem.F.slot_tuple_add PySem.F.entry_tuple_add (PySem.F.args_tuple_add_2 _ _)
   (tuple_addW1 t b vs.toArray ws.toArray n n2 dd dd2 sl sl2 (by simpa using hv) (by simp[hw])) ⟨ho,ho2,h1 hw⟩
 ·refine concat_meets ⟨_,ho,rfl⟩ ⟨_,ho2,rfl⟩ noFill_tuple_add seq_tuple_add PySem.F.slot_tuple_add PySem.F.entry_tuple_add (PySem.F.args_tuple_add_2 _ _)
   (tuple_addW2 t b vs.toArray ws.toArray n n2 dd dd2 sl sl2 (by simpa using hv) (by simpa using hw) (by rw[List.size_toArray,List.size_toArray];exact hsz)) ⟨ho,ho2,?_⟩
  rw[e]
  exact h2 hw
def sIx(n d:Nat):Option Int->Nat
 |none=>d
 |some v=>if v<0 then(v+(n:Int)).toNat else min v.toNat n
theorem sIx_none(n d:Nat):sIx n d none=d:=rfl
theorem sIx_le(n d:Nat)(hd:d<=n)(o:Option Int):sIx n d o<=n:=by
 cases o with
 |none=>exact hd
 |some v=>
  show(if v<0 then(v+(n:Int)).toNat else min v.toNat n)<=n
  by_cases hv:v<0
  ·rw[if_pos hv];omega
  ·rw[if_neg hv];exact Nat.min_le_right _ _
theorem xzu(v:Int)(n d:Nat):(if v<0 then max (v+(n:Int)) 0 else min v (n:Int))=((sIx n d (some v):Nat):Int):=by
 show(if v<0 then max (v+(n:Int)) 0 else min v (n:Int))=(((if v<0 then(v+(n:Int)).toNat else min v.toNat n):Nat):Int)
 by_cases hv:v<0
 ·simp only[if_pos hv];omega
 ·simp only[if_neg hv];omega
theorem zzg(lo hi:Option Int)(n:Nat):Builtin.Slice.sliceAdjust lo hi 1 (n:Int)=(((sIx n 0 lo:Nat):Int),((sIx n n hi:Nat):Int)):=by
 have h1:¬((1:Int)<0):=by omega
 unfold Builtin.Slice.sliceAdjust
 simp only[h1,if_false]
 refine Prod.ext ?_ ?_
 ·cases lo with
  |none=>rfl
  |some v=>exact xzu v n 0
 ·cases hi with
  |none=>rfl
  |some v=>exact xzu v n n
theorem vz5(i j:Nat):Builtin.Slice.slicePlaces (i:Int) (j:Int) 1=j-i:=by
 unfold Builtin.Slice.slicePlaces
 have h1:(1:Int)>0:=by omega
 simp only[h1,if_true,Int.ediv_one]
 split<;>omega
theorem qzZ{v:Value}{o:Option Int}{Q:Option Int->Shared->Prop}(p:IsPart v o)(h:Q o s):wpAny (model prog w) A (Builtin.Slice.slicePartIndex v) Q E s:=by
 cases p with
 |none=>exact slicePart_none h
 |int i t=>exact slicePart_int h
theorem qzu{sl:Addr}{vl vu:Value}{lo hi:Option Int}{n:Nat}{Q:Int×Int×Nat->Shared->Prop}(hs:s.heap.IsSliceOf sl vl vu .none)(pl:IsPart vl lo)(pu:IsPart vu hi)
 (h:Q (((sIx n 0 lo:Nat):Int),1,sIx n n hi-sIx n 0 lo) s):wpAny (model prog w) A (Builtin.Slice.sliceApplied (.ref sl) (pure (n:Int))) Q E s:=by
 obtain⟨os,hos,hcs,hds⟩:=id hs
 unfold Builtin.Slice.sliceApplied Builtin.Slice.sliceFields
 refine wpAny_bind (wpAny_bind (wpAny_field hos hds (x:=vl) rfl (wpAny_bind (wpAny_field hos hds (x:=vu) rfl (wpAny_bind (wpAny_field hos hds (x:=.none) rfl (wpAny_pure ?_)))))))
 refine wpAny_bind (slicePart_none ?_)
 show wpAny _ _ (if((1:Int)==0)=true then _ else _) _ _ s
 rw[if_neg (by decide)]
 refine wpAny_bind (qzZ pl (wpAny_bind (qzZ pu (wpAny_bind (wpAny_pure ?_)))))
 show wpAny _ _ (match Builtin.Slice.sliceAdjust lo hi 1 (n:Int) with|(lo,hi)=>pure (lo,(1:Int),Builtin.Slice.slicePlaces lo hi 1)) _ _ s
 rw[zzg lo hi n]
 show wpAny _ _ (pure (((sIx n 0 lo:Nat):Int),(1:Int),Builtin.Slice.slicePlaces ((sIx n 0 lo:Nat):Int) ((sIx n n hi:Nat):Int) 1)) _ _ s
 rw[vz5]
 exact wpAny_pure h
theorem pick_gen(xs:Array Value)(i k:Nat):((List.range k).filterMap λ(m:Nat)=>xs[((i:Int)+(m:Int)*1).toNat]?).toArray=((xs.toList.drop i).take k).toArray:=by
 have e:(λ(m:Nat)=>xs[((i:Int)+(m:Int)*1).toNat]?)=λm=>xs[i+m]? :=by
  funext m
  have:((i:Int)+(m:Int)*1).toNat=i+m:=by omega
  rw[this]
 rw[e]
 have:=pick_run xs i k
 rw[List.filterMap_map] at this
 have e2:((λx=>xs[x]?)∘λx=>i+x)=λm=>xs[i+m]? :=rfl
 rw[e2] at this
 rw[this]
theorem getItem_tuple_cut{t sl:Addr}{items:Array Value}{vl vu:Value}{lo hi:Option Int}{Q:Value->Shared->Prop}(ht:IsTup s.heap t items)(hs:s.heap.IsSliceOf sl vl vu .none)(pl:IsPart vl lo)(pu:IsPart vu hi)
 (hw:¬(sIx items.size 0 lo=0/\sIx items.size items.size hi=items.size))
 (h:Q (.ref s.heap.objs.size) {s with heap:=s.heap.push {cls:=.type "tuple",data:=.seq ((items.toList.drop (sIx items.size 0 lo)).take (sIx items.size items.size hi-sIx items.size 0 lo)).toArray}})
 (hsz:items.size<=sizeLine):wpAny (model prog w) A (getItem (.ref t) (.ref sl)) Q E s:=by
 have htake:sizeOk (.seq ((items.toList.drop (sIx items.size 0 lo)).take (sIx items.size items.size hi-sIx items.size 0 lo)).toArray):=by
  show((items.toList.drop (sIx items.size 0 lo)).take (sIx items.size items.size hi-sIx items.size 0 lo)).toArray.size<=sizeLine
  rw[List.size_toArray,List.length_take,List.length_drop,Array.length_toList]
  omega
 have hj:sIx items.size items.size hi<=items.size:=sIx_le _ _ (Nat.le_refl _) hi
 obtain⟨os,hos,hcs,hds⟩:=id hs
 have hTs:s.TypeIs (.ref sl) "slice":=⟨os,hos,hcs⟩
 unfold getItem
 try with_reducible refine wpAny_holding ?_
 first |refine wpAny_bind (wpAny_pure ?_)|skip
 refine wpAny_bind (wpAny_sequenceKey ht.typeIs (by decide) ?_)
 refine wpAny_bind (wpAny_callSpecial?_slot (name:=Str.ofString "__getitem__") ht.typeIs PyProof.Rows.slot_tuple_getitem
  (wpAny_call_entry PyProof.Rows.slot_tuple_getitem ht.typeIs entry_tuple_getitem ?_ (args_tuple_getitem _ _)))
 show wpAny _ _ (Builtin.Tuple.tupleItemsOf (.ref t)>>=_) _ _ s
 refine wpAny_bind (tupleItemsOf_ ht ?_)
 refine wpAny_bind (wpAny_typeOf hTs ?_)
 rw[if_pos (by decide)]
 refine wpAny_bind (qzu hs pl pu ?_)
 have hno:¬((((sIx items.size 0 lo:Nat):Int)==0&&(1:Int)==1&&(sIx items.size items.size hi-sIx items.size 0 lo)==items.size)=true):=by
  intro q
  rw[Bool.and_eq_true,Bool.and_eq_true] at q
  have q1:((sIx items.size 0 lo:Nat):Int)=0:=eq_of_beq q.1.1
  have q2:sIx items.size items.size hi-sIx items.size 0 lo=items.size:=eq_of_beq q.2
  exact hw ⟨by omega,by omega⟩
 show wpAny _ _ (if(((sIx items.size 0 lo:Nat):Int)==0&&(1:Int)==1&&(sIx items.size items.size hi-sIx items.size 0 lo)==items.size)=true then _ else _) _ _ s
 rw[if_neg hno,pick_gen]
 first
  |exact wpAny_bind (m:=Builtin.Tuple.tupleExact _) (wpAny_newObj_type (wpAny_pure ⟨_,rfl,wpAny_pure h⟩) htake)
  |exact wpAny_bind (m:=Builtin.Tuple.tupleExact _) (wpAny_newObj_type (wpAny_bind (wpAny_pure (wpAny_pure ⟨_,rfl,wpAny_pure h⟩))) htake)
  |exact wpAny_bind (wpAny_bind (m:=Builtin.Tuple.tupleExact _) (wpAny_newObj_type (wpAny_pure (wpAny_pure ⟨_,rfl,wpAny_pure h⟩)) htake))
  |exact wpAny_bind (wpAny_bind (m:=Builtin.Tuple.tupleExact _) (wpAny_newObj_type (wpAny_pure ⟨_,rfl,wpAny_pure h⟩) htake))
end
end HT
namespace L2
open PySem PySem.Spec PyProof.Rows
abbrev TO:=St->Hp->(Option Int->Hp->Prop)->Prop
def PO(X:Cx)(e:Option Expr)(t:TO):Prop:=
 ∀(pins:List (Addr×Obj))(s:Shared)(σ:St)(H:Hp)(Q:Option Int->Hp->Prop),Inv X pins σ H s->t σ H Q->
  wpAny (model X.prog X.w) X.A (evalPart e X.env) (λu s'=>∃o H',Inv X pins σ H' s'/\IsPart u o/\Q o H') X.xe s
def tNoPart:TO:=λ_ H Q=>Q none H
def tPart(t:TE):TO:=λσ H Q=>t σ H λx H1=>∃i,x=.int i/\Q (some i) H1
section
variable {X:Cx}{e:Expr}{te:TE}{lo hi:Option Expr}{tl th:TO}{pos p2:Pos}
theorem vza:PO X none tNoPart:=by
 intro pins s σ H Q I h
 rw[evalPart_none]
 exact wpAny_pure ⟨none,H,I,.none,h⟩
theorem wz9(h:PE X e te):PO X (some e) (tPart te):=by
 intro pins s σ H Q I hw
 rw[evalPart_some]
 refine thn (h pins s σ H _ I hw) λu s1 ⟨x,H1,I1,r1,q1⟩=>?_
 obtain⟨i,rfl,q⟩:=q1
 obtain⟨t,rfl⟩:=r1
 exact⟨some i,H1,I1,.int i t,q⟩
def SlR(X:Cx)(r:V->Option Int->Option Int->Hp->VK->Prop):Prop:=
 ∀(pins:List (Addr×Obj))(s:Shared)(σ:St)(H:Hp)(x:V)(v vl vu:Value)(lo hi:Option Int)(sl:Addr)(Q:VK),Inv X pins σ H s->RelV x v->s.heap.IsSliceOf sl vl vu .none->IsPart vl lo->IsPart vu hi->r x lo hi H Q->
  ∃T id,typeLookup (.type T) "__getitem__"=pure (some (.builtin id))/\s.TypeIs v T/\wpAny (model X.prog X.w) X.A (getItem v (.ref sl)) (EP X pins σ Q) X.xe s
def tSl(r:V->Option Int->Option Int->Hp->VK->Prop)(te:TE)(tl th:TO):TE:=λσ H Q=>te σ H λx H1=>tl σ H1 λl H2=>th σ H2 λu H3=>r x l u H3 Q
theorem wzn{r:V->Option Int->Option Int->Hp->VK->Prop}(hr:SlR X r)(he:PE X e te)(hl:PO X lo tl)(hu:PO X hi th):PE X (.Subscript e (.Slice lo hi none p2) pos) (tSl r te tl th):=by
 intro pins s σ H Q I h
 refine Subscript_ (thn (he pins s σ H _ I h) λv s1 ⟨x,H1,I1,r1,q1⟩=>?_)
 refine wpAny_Slice (thn (hl pins s1 σ H1 _ I1 q1) λvl s2 ⟨l,H2,I2,pl,q2⟩=>thn (hu pins s2 σ H2 _ I2 q2) λvu s3 ⟨u,H3,I3,pu,q3⟩=>?_)
 rw[evalPart_none]
 refine wpAny_pure ?_
 have I4:Inv X pins σ H3 {s3 with heap:=s3.heap.push {cls:=.type "slice",data:=.fields #[vl,vu,.none]}}:=I3.kept (t':=s3.toks) λb ob q=>Heap.get?_push_of_some _ q
 obtain⟨T,id,hT,ht,hg⟩:=hr pins {s3 with heap:=s3.heap.push {cls:=.type "slice",data:=.fields #[vl,vu,.none]}} σ H3 x v vl vu l u s3.heap.objs.size Q I4 r1 (Heap.IsSliceOf.new ..) pl pu q3
 show wpAny (model X.prog X.w) X.A (subscriptTail e (.Slice lo hi none p2) v (.ref s3.heap.objs.size)) (EP X pins σ Q) X.xe {s3 with heap:=s3.heap.push {cls:=.type "slice",data:=.fields #[vl,vu,.none]}}
 exact tail_any (ops:= [.ref s3.heap.objs.size,v]) ht hT hg (by with_unfolding_all rfl)
def cutV(xs:List V)(lo hi:Option Int):List V:=(xs.drop (HT.sIx xs.length 0 lo)).take (HT.sIx xs.length xs.length hi-HT.sIx xs.length 0 lo)
theorem qzU(xs:List V)(lo hi:Option Int):(cutV xs lo hi).length<=xs.length:=by
 unfold cutV
 rw[List.length_take,List.length_drop]
 omega
def rSlT(K:PySem.W.Frag):V->Option Int->Option Int->Hp->VK->Prop:=λx lo hi H Q=>∃a xs,x=.ref a/\SqT K H a xs/\
 ¬(HT.sIx xs.length 0 lo=0/\HT.sIx xs.length xs.length hi=xs.length)/\∀p,H p=none->Q (.ref p) (upd H p (.tup (cutV xs lo hi)))
theorem sl_tup:SlR X (rSlT X.K):=by
 intro pins s σ H x v vl vu lo hi sl Q I rx hs pl pu h
 obtain⟨a,xs,rfl,hx,hw,q⟩:=h
 cases rx
 obtain⟨its,r,ht,hz⟩:=I.tuple hx
 have hlen:its.toArray.size=xs.length:=by rw[List.size_toArray];exact r.length.symm
 refine⟨"tuple",_,PyProof.Rows.slot_tuple_getitem.lookup,ht.typeIs,?_⟩
 refine HT.getItem_tuple_cut ht hs pl pu (by rw[hlen];exact hw) ?_ (by rw[hlen];exact hz)
 rw[hlen]
 refine⟨.ref s.heap.objs.size,_,I.laid (t':=s.toks) (o:=.tup (cutV xs lo hi)) (λb ob q=>Heap.get?_push_of_some _ q) (Nat.le_refl _) ?_,rfl,q _ (I.hok.fresh (Nat.le_refl _))⟩
 exact⟨Nat.le_trans (qzU xs lo hi) hz,_,(r.drop (HT.sIx xs.length 0 lo)).take (HT.sIx xs.length xs.length hi-HT.sIx xs.length 0 lo),IsTup.new _ _⟩
def rCatT(K:PySem.W.Frag):R2:=λx y H Q=>∃a b xs ys,x=.ref a/\y=.ref b/\SqT K H a xs/\SqT K H b ys/\xs≠ []/\xs.length+ys.length<=sizeLine/\
 (ys=[]->Q (.ref a) H)/\(ys≠ []->∀p,H p=none->Q (.ref p) (upd H p (.tup (xs++ys))))
theorem Vals.nil_iff{xs:List V}{us:List Value}(r:Vals xs us):us=[]↔xs=[]:=by
 cases r with
 |nil=>simp
 |cons _ _=>simp
theorem op_catT:OpR X (binaryOp .Add) (rCatT X.K):=by
 intro pins s σ H x y v u Q I rx ry h
 obtain⟨a,b,xs,ys,rfl,rfl,ha,hb,hx,hz,q1,q2⟩:=h
 cases rx
 cases ry
 obtain⟨its,r1,p1,_⟩:=I.tuple ha
 obtain⟨its2,r2,p2,_⟩:=I.tuple hb
 refine HT.cat_tup p1 p2 (λz=>hx (r1.nil_iff.mp z)) (λz=>⟨.ref a,H,I,rfl,q1 (r2.nil_iff.mp z)⟩) (λz=>?_) (by rw[<- r1.length, <- r2.length];exact hz)
 refine⟨.ref s.heap.objs.size,_,I.laid (t':=s.toks) (o:=.tup (xs++ys)) (λb ob q=>Heap.get?_push_of_some _ q) (Nat.le_refl _) ?_,rfl,q2 (λw=>z (r2.nil_iff.mpr w)) _ (I.hok.fresh (Nat.le_refl _))⟩
 exact⟨by rw[List.length_append];exact hz,_,r1.append r2,IsTup.new _ _⟩
end
end L2
namespace L2
open PySem PySem.Spec PyProof.Rows
def ixN(n:Nat)(i:Int):Option Nat:=if 0<=i then(if i<n then some i.toNat else none) else if -(n:Int)<=i then some (i+n).toNat else none
def atI{α:Type}(xs:List α)(i:Int):Option α:=(ixN xs.length i).bind λj=>xs[j]?
theorem ixN_seq{n:Nat}{i:Int}{j:Nat}(h:ixN n i=some j):seqIndex? i n=some j/\j<n/\ -(n:Int)<=i/\i<n:=by
 unfold ixN at h
 by_cases h0:0<=i
 ·rw[if_pos h0] at h
  by_cases h1:i<n
  ·rw[if_pos h1] at h
   have e:i.toNat=j:=Option.some.inj h
   exact⟨by rw[seqIndex_of h0 h1,e],by omega,by omega,h1⟩
  ·rw[if_neg h1] at h;cases h
 ·rw[if_neg h0] at h
  by_cases h1: -(n:Int)<=i
  ·rw[if_pos h1] at h
   have e:(i+n).toNat=j:=Option.some.inj h
   exact⟨by rw[seqIndex_neg (by omega) h1,e],by omega,h1,by omega⟩
  ·rw[if_neg h1] at h;cases h
theorem vzl{α:Type}{xs:List α}{i:Int}{v:α}(h:atI xs i=some v):∃j,seqIndex? i xs.length=some j/\xs[j]? =some v/\j<xs.length/\ -(xs.length:Int)<=i/\i<xs.length:=by
 unfold atI at h
 cases e:ixN xs.length i with
 |none=>rw[e] at h;cases h
 |some j=>
  rw[e] at h
  obtain⟨h1,h2,h3,h4⟩:=ixN_seq e
  exact⟨j,h1,h,h2,h3,h4⟩
theorem qza{α:Type}{xs:List α}{j:Nat}{v:α}(h:xs[j]? =some v):atI xs (j:Int)=some v:=by
 have hj:j<xs.length:=(List.getElem?_eq_some_iff.mp h).1
 have e:ixN xs.length (j:Int)=some j:=by
  unfold ixN
  rw[if_pos (by omega),if_pos (by omega)];simp
 unfold atI;rw[e];exact h
def PlainIx(b:Expr):Prop:=∀o i,subscripted b false o i=operate [o,i] (getItem o i)
def IxR(X:Cx)(r:R2):Prop:=
 ∀(value slice:Expr)(pins:List (Addr×Obj))(s:Shared)(σ:St)(H:Hp)(x y:V)(v u:Value)(Q:VK),Inv X pins σ H s->RelV x v->RelV y u->r x y H Q->
  subscripted slice false v u=operate [v,u] (getItem v u)->wpAny (model X.prog X.w) X.A (subscriptTail value slice v u) (EP X pins σ Q) X.xe s
def MtR(X:Cx)(id:String)(r:V->List V->Hp->VK->Prop):Prop:=
 ∀(pins:List (Addr×Obj))(s:Shared)(σ:St)(H:Hp)(x:V)(xs:List V)(v:Value)(us:List Value)(Q:VK),Inv X pins σ H s->RelV x v->Vals xs us->r x xs H Q->
  wpAny (model X.prog X.w) X.A (call (.builtin id) (v::us)) (EP X pins σ Q) X.xe s
section
variable {X:Cx}{a b:Expr}{ta tb:TE}{pos:Pos}
theorem pe_ix{r:R2}(hr:IxR X r)(ha:PE X a ta)(hb:PE X b tb)(hs:PlainIx b):PE X (.Subscript a b pos) (tOp r ta tb):=by
 intro pins s σ H Q I h
 exact Subscript_ (binT ha hb I h λv u s2 x y H2 I2 rx ry q=>hr a b pins s2 σ H2 x y v u Q I2 rx ry q (hs _ _))
def rIxL(K:PySem.W.Frag):R2:=λx y H Q=>∃p xs i v,x=.ref p/\y=.int i/\SqL K H p xs/\atI xs i=some v/\Q v H
def rIxT(K:PySem.W.Frag):R2:=λx y H Q=>∃p xs i v,x=.ref p/\y=.int i/\SqT K H p xs/\atI xs i=some v/\Q v H
def rIxS:R2:=λx y H Q=>∃z i c,x=.str z/\y=.int i/\z.length<=sizeLine/\atI z.cps.toList i=some c/\Q (.str ⟨#[c]⟩) H
theorem ix_list:IxR X (rIxL X.K):=by
 intro value slice pins s σ H x y v u Q I rx ry h hs
 obtain⟨p,xs,i,z,rfl,rfl,hq,he,q⟩:=h
 cases rx
 obtain⟨t,rfl⟩:=ry
 obtain⟨its,r,pl,hz⟩:=I.list hq
 obtain⟨j,h1,h2,h3,h4,h5⟩:=vzl he
 obtain⟨w,ew,rw'⟩:=r.get h2
 have hl:=r.length
 have hn:=qz2
 have fin:EP X pins σ Q w s:=⟨z,H,I,rw',q⟩
 by_cases h0:0<=i
 ·have hj:i.toNat=j:=by
   rw[seqIndex_of h0 h5] at h1
   exact Option.some.inj h1
  exact item_listR pl.isList h0 (by omega) (by rw[hj];simpa using ew) fin hs
 ·have hj:(i+(its.toArray.size:Int)).toNat=j:=by
   rw[seqIndex_neg (by omega) h4] at h1
   rw[List.size_toArray, <- hl]
   exact Option.some.inj h1
  exact subscriptTail_builtinR (x:=w) pl.isList.typeIs slot_list_getitem.lookup
   (wpAny_getItem_list_neg (Q:=λr s'=>r=w/\EP X pins σ Q r s') pl.isList (by omega) (by rw[List.size_toArray]<;>omega) (by omega) (by rw[hj];simpa using ew) ⟨rfl,fin⟩) hs
theorem ix_tup:IxR X (rIxT X.K):=by
 intro value slice pins s σ H x y v u Q I rx ry h hs
 obtain⟨p,xs,i,z,rfl,rfl,hq,he,q⟩:=h
 cases rx
 obtain⟨t,rfl⟩:=ry
 obtain⟨its,r,pl,hz⟩:=I.tuple hq
 obtain⟨j,h1,h2,h3,h4,h5⟩:=vzl he
 obtain⟨w,ew,rw'⟩:=r.get h2
 have hl:=r.length
 have hn:=qz2
 have fin:EP X pins σ Q w s:=⟨z,H,I,rw',q⟩
 exact subscriptTail_builtinR (x:=w) pl.typeIs slot_tuple_getitem.lookup
  (getItem_tuple (j:=j) (Q:=λr s'=>r=w/\EP X pins σ Q r s') pl (by omega) (by omega) (by rw[List.size_toArray, <- hl];exact h1) (by simpa using ew) ⟨rfl,fin⟩) hs
theorem ix_str:IxR X rIxS:=by
 intro value slice pins s σ H x y v u Q I rx ry h hs
 obtain⟨z,i,c,rfl,rfl,hz,he,q⟩:=h
 obtain⟨t,rfl⟩:=rx
 obtain⟨t',rfl⟩:=ry
 obtain⟨j,h1,h2,h3,h4,h5⟩:=vzl he
 have hl:z.cps.toList.length=z.length:=by simp[Str.length]
 rw[hl] at h1 h4 h5
 have hn:=qz2
 exact tail_any (typeIs_str s z t) slot_str_getitem.lookup (getItem_str (c:=c) (by
  have e1:decide (i< -(2^63:Int))=false:=decide_eq_false (by omega)
  have e2:decide (i ≥ 2^63)=false:=decide_eq_false (by omega)
  rw[e1,e2,Bool.or_false]) (by rw[h1];simpa using h2) ⟨.str ⟨#[c]⟩,H,I.tok _,⟨_,rfl⟩,q⟩) hs
theorem wzJ(lo hi:Option Int)(n:Nat):(sliceBounds lo hi none n).1=((HT.sIx n 0 lo:Nat):Int)/\(sliceBounds lo hi none n).2.1=((HT.sIx n n hi:Nat):Int)/\(sliceBounds lo hi none n).2.2=1:=by
 refine⟨?_,?_,rfl⟩
 ·cases lo with
  |none=>simp[sliceBounds,HT.sIx]
  |some i=>
   simp only[sliceBounds,HT.sIx,Option.getD_none,show(1:Int)>0 by decide,if_true]
   by_cases h:i<0
   ·simp only[h,if_true]<;>omega
   ·simp only[h,if_false]<;>omega
 ·cases hi with
  |none=>simp[sliceBounds,HT.sIx]
  |some i=>
   simp only[sliceBounds,HT.sIx,Option.getD_none,show(1:Int)>0 by decide,if_true]
   by_cases h:i<0
   ·simp only[h,if_true]<;>omega
   ·simp only[h,if_false]<;>omega
theorem wzi(its:List Value)(lo hi:Option Int):slicePick its.toArray lo hi none=((its.drop (HT.sIx its.length 0 lo)).take (HT.sIx its.length its.length hi-HT.sIx its.length 0 lo)).toArray:=by
 obtain⟨h1,h2,h3⟩:=wzJ lo hi its.toArray.size
 unfold slicePick
 rw[h1,h2,h3]
 simp only[sliceRange_one,pick_run,List.size_toArray]<;>rfl
def rSlL(K:PySem.W.Frag):V->Option Int->Option Int->Hp->VK->Prop:=λx lo hi H Q=>∃a xs,x=.ref a/\SqL K H a xs/\∀p,H p=none->Q (.ref p) (upd H p (.lst (cutV xs lo hi)))
theorem zzq:SlR X (rSlL X.K):=by
 intro pins s σ H x v vl vu lo hi sl Q I rx hs pl pu h
 obtain⟨a,xs,rfl,hx,q⟩:=h
 cases rx
 obtain⟨its,r,ht,hz⟩:=I.list hx
 have hlen:=r.length
 refine⟨"list",_,slot_list_getitem.lookup,ht.isList.typeIs,?_⟩
 refine wpAny_getItem_list_slice ht.isList hs pl pu .none (by simp) ?_ (by rw[List.size_toArray]<;>omega)
 rw[wzi, <- hlen]
 refine⟨.ref s.heap.objs.size,_,I.laid (t':=s.toks) (o:=.lst (cutV xs lo hi)) (λb ob q=>Heap.get?_push_of_some _ q) (Nat.le_refl _) ?_,rfl,q _ (I.hok.fresh (Nat.le_refl _))⟩
 exact⟨Nat.le_trans (qzU xs lo hi) hz,_,0,(r.drop (HT.sIx xs.length 0 lo)).take (HT.sIx xs.length xs.length hi-HT.sIx xs.length 0 lo),Heap.get?_push_size _ rfl⟩
def flatV:V->Bool
 |.non=>true
 |.bl _=>true
 |.int _=>true
 |.str _=>true
 |_=>false
def eqV:V->V->Bool
 |.non,.non=>true
 |.bl a,.bl b=>a==b
 |.bl a,.int b=>(if a then 1 else 0)==b
 |.int a,.bl b=>a==(if b then 1 else 0)
 |.int a,.int b=>a==b
 |.str a,.str b=>a==b
 |_,_=>false
theorem xzj{A:Around}{s:Shared}{y x:V}{u v:Value}(ry:RelV y u)(rx:RelV x v)(fy:flatV y=true)(fx:flatV x=true):SeqAt.EqAt A s u v (eqV y x):=by
 cases y with
 |non=>
  cases ry
  cases x with
  |non=>cases rx;exact SeqAt.EqAt.same _
  |bl b=>cases rx;exact SeqAt.EqAt.none_bool b
  |int b=>obtain⟨t,rfl⟩:=rx;exact SeqAt.EqAt.none_int b t
  |str b=>obtain⟨t,rfl⟩:=rx;exact SeqAt.EqAt.none_str b t
  |_=>exact absurd (show false=true from fx) Bool.false_ne_true
 |bl a=>
  cases ry
  cases x with
  |non=>cases rx;exact SeqAt.EqAt.bool_none a
  |bl b=>cases rx;exact SeqAt.EqAt.bool_bool a b
  |int b=>obtain⟨t,rfl⟩:=rx;exact SeqAt.EqAt.bool_int a b t
  |str b=>obtain⟨t,rfl⟩:=rx;exact SeqAt.EqAt.bool_str a b t
  |_=>exact absurd (show false=true from fx) Bool.false_ne_true
 |int a=>
  obtain⟨t',rfl⟩:=ry
  cases x with
  |non=>cases rx;exact SeqAt.EqAt.int_none a t'
  |bl b=>cases rx;exact SeqAt.EqAt.int_bool a t' b
  |int b=>obtain⟨t,rfl⟩:=rx;exact SeqAt.EqAt.int_int a t' b t
  |str b=>obtain⟨t,rfl⟩:=rx;exact SeqAt.EqAt.int_str a t' b t
  |_=>exact absurd (show false=true from fx) Bool.false_ne_true
 |str a=>
  obtain⟨t',rfl⟩:=ry
  cases x with
  |non=>cases rx;exact SeqAt.EqAt.str_none a t'
  |bl b=>cases rx;exact SeqAt.EqAt.str_bool a t' b
  |int b=>obtain⟨t,rfl⟩:=rx;exact SeqAt.EqAt.str_int a t' b t
  |str b=>obtain⟨t,rfl⟩:=rx;exact SeqAt.EqAt.str_str a t' b t
  |_=>exact absurd (show false=true from fx) Bool.false_ne_true
 |_=>exact absurd (show false=true from fy) Bool.false_ne_true
def eqU(x:V)(u:Value):Bool:=match u with
 |.none=>eqV .non x
 |.bool b=>eqV (.bl b) x
 |.int i _=>eqV (.int i) x
 |.str z _=>eqV (.str z) x
 |_=>false
theorem eqU_of{x y:V}{u:Value}(r:RelV y u)(f:flatV y=true):eqU x u=eqV y x:=by
 cases y with
 |non=>cases r;rfl
 |bl b=>cases r;rfl
 |int i=>obtain⟨t,rfl⟩:=r;rfl
 |str z=>obtain⟨t,rfl⟩:=r;rfl
 |_=>exact absurd (show false=true from f) Bool.false_ne_true
theorem qzW{x:V}:∀{xs:List V}{us:List Value},Vals xs us->xs.all flatV=true->us.any (eqU x)=xs.any λy=>eqV y x
 |_,_,.nil,_=>rfl
 |y::xs,u::us,.cons r t,f=>by
  rw[List.all_cons,Bool.and_eq_true] at f
  rw[List.any_cons,List.any_cons,eqU_of r f.1,qzW t f.2]
theorem qzg{A:Around}{s:Shared}{x:V}{v:Value}(rx:RelV x v)(fx:flatV x=true):∀{xs:List V}{us:List Value},Vals xs us->xs.all flatV=true->∀u∈us,SeqAt.EqAt A s u v (eqU x u)
 |_,_,.nil,_=>λu hu=>by cases hu
 |y::xs,u::us,.cons r t,f=>λu' hu=>by
  rw[List.all_cons,Bool.and_eq_true] at f
  rcases List.mem_cons.mp hu with rfl|hu
  ·rw[eqU_of r f.1];exact xzj r rx f.1 fx
  ·exact qzg rx fx t f.2 u' hu
def inV(x:V)(xs:List V):Bool:=xs.any λy=>eqV y x
def rIn(K:PySem.W.Frag)(neg:Bool):R2:=λx y H Q=>∃p xs,y=.ref p/\(SqL K H p xs\/SqT K H p xs)/\flatV x=true/\xs.all flatV=true/\Q (.bl (if neg then !inV x xs else inV x xs)) H
theorem zzM:OpR X (compareOp .In) (rIn X.K false):=by
 intro pins s σ H x y v u Q I rx ry h
 obtain⟨p,xs,rfl,hq,fx,fs,q⟩:=h
 cases ry
 rcases hq with hq|hq
 ·obtain⟨its,r,pl,hz⟩:=I.list hq
  refine SeqAt.in_listAt (eqU x) pl.isList (λw hw=>qzg rx fx r fs w (by simpa using hw)) ⟨.bl _,H,I,rfl,?_⟩
  rw[show its.toArray.any (eqU x)=its.any (eqU x) by simp,qzW r fs]
  exact q
 ·obtain⟨its,r,pl,hz⟩:=I.tuple hq
  refine SeqAt.in_tupleAt (eqU x) pl (λw hw=>qzg rx fx r fs w (by simpa using hw)) ⟨.bl _,H,I,rfl,?_⟩
  rw[show its.toArray.any (eqU x)=its.any (eqU x) by simp,qzW r fs]
  exact q
theorem wzO:OpR X (compareOp .NotIn) (rIn X.K true):=by
 intro pins s σ H x y v u Q I rx ry h
 obtain⟨p,xs,rfl,hq,fx,fs,q⟩:=h
 cases ry
 rcases hq with hq|hq
 ·obtain⟨its,r,pl,hz⟩:=I.list hq
  refine SeqAt.notIn_listAt (eqU x) pl.isList (λw hw=>qzg rx fx r fs w (by simpa using hw)) ⟨.bl _,H,I,rfl,?_⟩
  rw[show its.toArray.any (eqU x)=its.any (eqU x) by simp,qzW r fs]
  exact q
 ·obtain⟨its,r,pl,hz⟩:=I.tuple hq
  refine SeqAt.notIn_tupleAt (eqU x) pl (λw hw=>qzg rx fx r fs w (by simpa using hw)) ⟨.bl _,H,I,rfl,?_⟩
  rw[show its.toArray.any (eqU x)=its.any (eqU x) by simp,qzW r fs]
  exact q
theorem wzZ:CallR X (.builtin "len") (λxs H Q=>∃p ys,xs=[.ref p]/\(SqL X.K H p ys\/SqT X.K H p ys)/\Q (.int ys.length) H):=by
 intro pins s σ H xs us Q I r h
 obtain⟨p,ys,rfl,hq,q⟩:=h
 obtain⟨u,rfl,rx⟩:=vals1 r
 cases rx
 have hn:=qz2
 rcases hq with hq|hq
 ·obtain⟨its,r',pl,hz⟩:=I.list hq
  have hlen:=r'.length
  exact Calls.call_len_list pl.isList (by simp only[List.size_toArray]<;>omega) ⟨.int ys.length,H,I.tok _,⟨s.toks+1,by rw[List.size_toArray,hlen]⟩,q⟩
 ·obtain⟨its,r',pl,hz⟩:=I.tuple hq
  have hlen:=r'.length
  exact len_tuple pl (by simp only[List.size_toArray]<;>omega) ⟨.int ys.length,H,I.tok _,⟨s.toks+1,by rw[List.size_toArray,hlen]⟩,q⟩
theorem wzY:CallR X (.builtin "len") (λxs H Q=>∃z,xs=[.str z]/\z.length<=sizeLine/\Q (.int z.length) H):=by
 intro pins s σ H xs us Q I r h
 obtain⟨z,rfl,hz,q⟩:=h
 obtain⟨u,rfl,t,rfl⟩:=vals1 r
 have hn:=qz2
 exact len_str (by omega) ⟨.int z.length,H,I.tok _,⟨_,rfl⟩,q⟩
theorem wzX:CallR X (.type "list") (λxs H Q=>∃p ys,xs=[.ref p]/\(SqL X.K H p ys\/SqT X.K H p ys)/\∀l,H l=none->Q (.ref l) (upd H l (.lst ys))):=by
 intro pins s σ H xs us Q I r h
 obtain⟨p,ys,rfl,hq,q⟩:=h
 obtain⟨u,rfl,rx⟩:=vals1 r
 cases rx
 have fin:∀(its:List Value),Vals ys its->ys.length<=sizeLine->∀(h':Heap)(c':Nat),(∀b o',s.heap.get? b=some o'->h'.get? b=some o')->
  h'.get? s.heap.objs.size=some {cls:=.type "list",dict:=none,data:=.seq its.toArray c',slots:= #[]}->EP X pins σ Q (.ref s.heap.objs.size) {s with heap:=h'}:=λits r' hz h' c' kp e=>
  ⟨.ref s.heap.objs.size,_,I.laid (t':=s.toks) kp (Nat.le_refl _) (show ObjOk X.prog X.w _ h' _ (.lst ys) from⟨hz,its,c',r',e⟩),rfl,q _ (I.hok.fresh (Nat.le_refl _))⟩
 rcases hq with hq|hq
 ·obtain⟨its,r',pl,hz⟩:=I.list hq
  have hlen:=r'.length
  obtain⟨o,ho,hc,n,hd⟩:=pl.isList
  exact call_list_seq p (.inl rfl) ho hc hd (λh' c' kp e=>fin its r' hz h' c' kp e) (by simp only[List.size_toArray]<;>omega)
 ·obtain⟨its,r',pl,hz⟩:=I.tuple hq
  have hlen:=r'.length
  obtain⟨o,ho,hc,n,hd⟩:=pl
  exact call_list_seq p (.inr rfl) ho hc hd (λh' c' kp e=>fin its r' hz h' c' kp e) (by simp only[List.size_toArray]<;>omega)
theorem wzA:CallR X (.type "tuple") (λxs H Q=>∃p ys,xs=[.ref p]/\((SqL X.K H p ys/\∀l,H l=none->Q (.ref l) (upd H l (.tup ys)))\/(SqT X.K H p ys/\Q (.ref p) H))):=by
 intro pins s σ H xs us Q I r h
 obtain⟨p,ys,rfl,h⟩:=h
 obtain⟨u,rfl,rx⟩:=vals1 r
 cases rx
 rcases h with ⟨hq,q⟩|⟨hq,q⟩
 ·obtain⟨its,r',pl,hz⟩:=I.list hq
  have hlen:=r'.length
  refine call_tuple_list pl.isList (λh' kp=>?_) (by simp only[List.size_toArray]<;>omega)
  have I1:Inv X pins σ H {s with heap:=h'}:=I.kept (t':=s.toks) kp
  have I2:Inv X pins σ (upd H h'.objs.size (.tup ys)) {s with heap:=h'.push {cls:=.type "tuple",data:=.seq its.toArray}}:=
   I1.laid (t':=s.toks) (λb o e=>Heap.get?_push_of_some _ e) (Nat.le_refl _) (show ObjOk X.prog X.w _ _ _ (.tup ys) from⟨hz,its,r',IsTup.new _ _⟩)
  exact⟨.ref h'.objs.size,_,I2,rfl,q _ (I1.hok.fresh (Nat.le_refl _))⟩
 ·obtain⟨its,r',pl,hz⟩:=I.tuple hq
  exact call_tuple_same pl ⟨.ref p,H,I,rfl,q⟩
def tyV(K:PySem.W.Frag)(T:String)(x:V)(H:Hp):Prop:=match x with
 |.str _=>T="str"
 |.int _=>T="int"
 |.ref p=>(T="list"/\∃xs,SqL K H p xs)\/(T="tuple"/\∃o,K.lookup p=some o/\o.cls=.type "tuple"/\o.dict=none)\/
   (T="dict"/\((∃kvs,H p=some (.dK kvs))\/∃kvs,H p=some (.dT kvs)))\/(T="set"/\∃S n,H p=some (.set S n))
 |_=>False
theorem tyV_is{pins:List (Addr×Obj)}{σ:St}{H:Hp}{s:Shared}{T:String}{x:V}{v:Value}(I:Inv X pins σ H s)(r:RelV x v)(ty:tyV X.K T x H):
 s.TypeIs v T/\∀a,v=.ref a->∃ob,s.heap.get? a=some ob/\ob.dict=none:=by
 cases x with
 |str z=>
  obtain⟨t,rfl⟩:=r
  cases(show T="str" from ty)
  exact⟨typeIs_str s z t,λ_ e=>nomatch e⟩
 |int i=>
  obtain⟨t,rfl⟩:=r
  cases(show T="int" from ty)
  exact⟨typeIs_int s i t,λ_ e=>nomatch e⟩
 |ref p=>
  cases r
  rcases ty with ⟨rfl,xs,hq⟩|⟨rfl,o,hk,hc,hd⟩|⟨rfl,hk⟩|⟨rfl,S,n,hk⟩
  ·obtain⟨its,_,pl,_⟩:=I.list hq
   refine⟨pl.isList.typeIs,λa e=>?_⟩
   cases e
   obtain⟨o,n,e,c,hd,_⟩:=pl
   exact⟨o,e,hd⟩
  ·refine⟨⟨o,I.kIn p o hk,hc⟩,λa e=>?_⟩
   cases e
   exact⟨o,I.kIn _ o hk,hd⟩
  ·have z:∃o,s.heap.get? p=some o/\o.ExactDict:=by
    rcases hk with ⟨kvs,hk⟩|⟨kvs,hk⟩
    ·obtain⟨_,_,_,_,o,_,_,e,ex,_⟩:=I.hok p _ hk
     exact⟨o,e,ex⟩
    ·obtain⟨_,_,_,_,o,_,_,e,ex,_⟩:=I.hok p _ hk
     exact⟨o,e,ex⟩
   obtain⟨o,e,ex⟩:=z
   refine⟨⟨o,e,ex.1⟩,λa e2=>?_⟩
   cases e2
   exact⟨o,e,ex.2.1⟩
  ·obtain⟨o,_,_,_,e,ex,_⟩:=I.hok p _ hk
   refine⟨⟨o,e,ex.1⟩,λa e2=>?_⟩
   cases e2
   exact⟨o,e,ex.2.1⟩
 |_=>exact False.elim ty
def tBM(K:PySem.W.Frag)(T:String)(r:V->List V->Hp->VK->Prop)(to:TE)(t:TA):TE:=λσ H Q=>to σ H λx H1=>tyV K T x H1/\t σ H1 λxs H2=>r x xs H2 Q
variable {o e:Expr}{es:List Expr}{to:TE}{t:TA}{name:Str}{apos cpos:Pos}{T id:String}{r:V->List V->Hp->VK->Prop}
theorem pe_bm(pa:PlainAttrs T)(slot:Slot T name id)(hty:typeOf (.builtin id)=pure (.type "method_descriptor"))(hm:MtR X id r)(ho:PE X o to)(ha:PA X (e::es) t)
 (hbase:attributeBase o name X.env (eval o X.env)=eval o X.env:=by rfl)
 (hfew:((backTo cpos (starEach (e::es) X.env)).all (λx=> !x.1)&&(backToKw cpos (keywordEach [] X.env)).all (λx=>x.1.isSome)
   &&decide ((e::es).length+([]:List Keyword).length+(if([]:List Keyword).isEmpty then 0 else 1)<30))=true:=by rfl)
 (hline:(apos.endLine==cpos.line)=true:=by rfl)(hs:starEach (e::es) X.env=(false,eval e X.env)::starEach es X.env:=by rfl)(hplain:(backTo cpos (starEach es X.env)).any (·.1)=false:=by rfl):
 PE X (.Call (.Attribute o name apos) (e::es) [] cpos) (tBM X.K T r to t):=by
 intro pins s σ H Q I h
 refine wpAny_Call_method_late hbase hfew hline rfl (thn (ho pins s σ H _ I h) λv s1 ⟨x,H1,I1,r1,ty,q1⟩=>?_)
 obtain⟨h1,h2⟩:=tyV_is I1 r1 ty
 refine⟨T,id,pa,slot,hty,h1,h2,?_⟩
 have hA:=ha cpos pins s1 σ H1 _ I1 q1
 rw[hs] at hA⊢
 refine Calls.callWith_builtin (by show(false||(backTo cpos (starEach es X.env)).any (·.1))=false;rw[hplain]<;>rfl) (Calls.evalArgs_plain ?_)
 exact thn hA λus s2 ⟨vs,H2,I2,r2,q2⟩=>hm pins s2 σ H2 x vs v us Q I2 r1 r2 q2
end
end L2
namespace L2
open PySem PySem.Spec PyProof.Rows
def MtM(X:Cx)(id:String)(r:V->List V->Hp->VK->Prop):Prop:=
 ∀(pins:List (Addr×Obj))(s:Shared)(σ:St)(H:Hp)(x:V)(xs:List V)(v:Value)(us:List Value)(Q:VK),Inv X pins σ H s->RelV x v->Vals xs us->r x xs H Q->
  wpAny (model X.prog X.w) X.A (call (.builtin id) (v::us)) (EP X pins σ Q) X.xe s
theorem Vals.one:∀{x:V}{us:List Value},Vals [x] us->∃u,us=[u]/\RelV x u
 |_,_,.cons r .nil=>⟨_,rfl,r⟩
section
variable {X:Cx}{pins:List (Addr×Obj)}{σ:St}{H:Hp}{s:Shared}{l b:Addr}{xs ys zs:List V}
theorem Inv.lset{its its':List Value}{n:Nat}{f:Array Value->Array Value}{t':Nat}(I:Inv X pins σ H s)(hH:H l=some (.lst xs))
 (e:s.heap.get? l=some {cls:=.type "list",data:=.seq its.toArray n})(hf:f its.toArray=its'.toArray)(hv:Vals ys its')(hz:ys.length<=sizeLine):
 Inv X pins σ (upd H l (.lst ys)) {s with heap:=s.heap.update l (Obj.mapSeq f),toks:=t'}:=by
 have q:=PySem.IsL.update e f
 rw[hf] at q
 refine I.write (x:=l) (e:=l) (by rw[hH];exact trivial) (.inl rfl) (λb' u hb hu=>(Heap.get?_update_other s.heap (Obj.mapSeq f) (Ne.symm hb)).trans hu) ⟨_,q⟩ ?_
 exact⟨hz,its',_,hv,q⟩
theorem Inv.lnew{its:List Value}{t':Nat}(I:Inv X pins σ H s)(hv:Vals ys its)(hz:ys.length<=sizeLine):
 Inv X pins σ (upd H s.heap.objs.size (.lst ys)) {s with heap:=s.heap.push {cls:=.type "list",data:=.seq its.toArray},toks:=t'}:=
 I.laid (λ_ _ q=>Heap.get?_push_of_some _ q) (Nat.le_refl _) ⟨hz,its,0,hv,Heap.get?_push_size _ rfl⟩
theorem Inv.fresh(I:Inv X pins σ H s):H s.heap.objs.size=none:=I.hok.fresh (Nat.le_refl _)
theorem Inv.lstM(I:Inv X pins σ H s)(hH:H l=some (.lst xs)):xs.length<=sizeLine/\∃(its:List Value)(n:Nat),Vals xs its/\xs.length=its.length/\s.heap.get? l=some {cls:=.type "list",data:=.seq its.toArray n}:=by
 obtain⟨z,its,n,r,e⟩:=I.hok l _ hH
 exact⟨z,its,n,r,r.length,e⟩
end
section
variable {X:Cx}
def rAppend:V->List V->Hp->VK->Prop:=λx vs H Q=>∃l xs y,x=.ref l/\vs=[y]/\H l=some (.lst xs)/\xs.length<sizeLine/\Q .non (upd H l (.lst (xs++ [y])))
theorem wzP:MtM X "list.append" rAppend:=by
 intro pins s σ H x vs v us Q I rx rv h
 obtain⟨l,xs,y,rfl,rfl,hH,hz,q⟩:=h
 cases rx
 obtain⟨u,rfl,ru⟩:=rv.one
 obtain⟨z,its,n,r,hl,e⟩:=I.lstM hH
 refine call_meets F.slot_list_append ⟨_,e,rfl⟩ F.entry_list_append (F.args_list_append_2 _ _) (PySem.list_append l its.toArray n u (by rw[List.size_toArray];omega)) ⟨e,?_⟩
 refine⟨.non,_,I.lset (its':=its++ [u]) hH e (by simp) (r.append (.cons ru .nil)) ?_,rfl,q⟩
 rw[List.length_append,List.length_singleton]
 omega
def rCat:R2:=λx y H Q=>∃l b xs zs,x=.ref l/\y=.ref b/\H l=some (.lst xs)/\H b=some (.lst zs)/\xs.length+zs.length<=sizeLine/\∀p,H p=none->Q (.ref p) (upd H p (.lst (xs++zs)))
theorem op_cat:OpR X (binaryOp .Add) rCat:=by
 intro pins s σ H x y v u Q I rx ry h
 obtain⟨l,b,xs,zs,rfl,rfl,hH,hB,hz,q⟩:=h
 cases rx
 cases ry
 obtain⟨z,its,n,r,hl,e⟩:=I.lstM hH
 obtain⟨z2,its2,n2,r2,hl2,e2⟩:=I.lstM hB
 refine PySem.P.add_list e e2 ?_ (by rw[List.size_toArray,List.size_toArray];omega)
 have ea:its.toArray++its2.toArray=(its++its2).toArray:=by simp
 rw[ea]
 exact⟨.ref _,_,I.lnew (t':=s.toks) (r.append r2) (by rw[List.length_append];omega),rfl,q _ I.fresh⟩
end
section
variable {prog:Program}{w:World}{A:Around}{E:Value->Shared->Prop}{s:Shared}
end
section
variable {X:Cx}
end
end L2
namespace Att
open PySem PySem.W PySem.Calls PyProof.Rows
theorem qzM{P:Params}{h:Heap}:∀(ns:List Int)(vs:List Value),WellAll P h vs (ns.map WData.int)->IntsAre vs ns:=by
 intro ns
 induction ns with
 |nil=>
  intro vs w
  rw[List.map_nil] at w
  cases w
  exact .nil
 |cons n ns ih=>
  intro vs w
  rw[List.map_cons] at w
  cases w with
  |cons a b=>
   cases a
   exact .cons _ _ (ih _ b)
theorem zzs{l:OpenLaw}{n:Nat}(hn:l.most=some n){P:Params}{h:Heap}{args:List WData}{vals:List Value}
 (hpre:l.row.toRowW.claim.pre args=true)(hwl:WellAll P h vals args):
 ∃a vs ns,vals=[Value.ref a]/\args=[WData.list (ns.map WData.int)]/\h.get? a=some {cls:=.type "list",data:=.seq vs.toArray}/\IntsAre vs ns/\ns.length<=n:=by
 have hsh:WShape.hasAll [] args [.list .int]=true:=(pre_splitW hpre).1
 have hc:l.pre.holds [] {args:=args}=true:=(pre_splitW hpre).2
 obtain⟨d,r,rfl,h1,h2⟩:=hasAllW_cons hsh
 obtain rfl:=hasAllW_nil h2
 obtain⟨xs,rfl,h3⟩:=hasW_list h1
 obtain⟨ns,rfl⟩:=items_int h3
 have hlen:ns.length<=n:=by
  unfold OpenLaw.pre at hc
  have h4:(WTm.not (.lt (.lit (.int (n:Int))) (.len (.arg 0)))).holds [] {args:= [.list (ns.map .int)]}=true:=by
   have h4:=(holds_andW hc).1
   rw[hn] at h4
   exact h4
  have h5:=condW_of h4 (w_not (w_lt w_lit (w_len_list (w_arg rfl))))
  rw[List.length_map] at h5
  refine Nat.le_of_not_lt λq=>?_
  have q':(n:Int)<((ns.length:Nat):Int):=by omega
  first
   |(rw[decide_eq_true q'] at h5;exact absurd h5 (by decide))
   |(simp at h5;omega)
 cases hwl with
 |cons w1 w2=>
  cases w2
  cases w1 with
  |list ho hall=>exact⟨_,_,ns,rfl,rfl,ho,qzM ns _ hall,hlen⟩
theorem zzB(l:OpenLaw)(args:List WData):l.row.toRowW.claim.post args (.bool true) args=true:=
 postW_of (r:=l.row.toRowW) (X:=(true==true))
  (show WShape.has [] (.bool true) .bool=true by first |rfl|decide|simp[WShape.has,WShape.arms,WShape.armsAll])
  (show(WTm.eq .res (.lit (.bool true))).value [] {args:=args,res:=some (.bool true),after:=args}=some (.bool (true==true)) from w_eq_bool (w_res rfl) w_lit) rfl
theorem attach_call{l:OpenLaw}{n:Nat}{q:Program}{loose:List Str}{XP:(Str->Option Value)->Heap->Prop}{YP:World->Heap->Prop}{d:DefRec}
 (hn:l.most=some n)(hdf:d.params.defaults=[])
 (call:∀(w:World)(s₀ s₁:Shared)(mg mb:Str->Option Value)(fa:Addr)(o:Obj)(pm cd doc:Value)(a:Addr)(vs:List Value)(ns:List Int),
   Ground q loose [] XP w s₀ mg mb s₁.heap->YP w s₁.heap->
   s₁.heap.get? fa=some o->o.data=.func (docDef d.name d.params d.body d.scope pm cd doc)->s₁.heap.CodeRec cd d.name->mg d.name=some (.ref fa)->
   s₁.heap.get? a=some {cls:=.type "list",data:=.seq vs.toArray}->IntsAre vs ns->ns.length<=n->s₁.gens= #[]->
   codeAny (model l.prog w) callerA (.call (.ref fa) ⟨[.ref a],[]⟩) (λr s'=>r=.ok (.ret (.bool true))/\OldK s₁.heap s'.heap/\s'.os=s₁.os/\AllBare s'.gens) s₁):
 WalkO q loose XP YP l.row.toRowW d [] (λf vs=>PySem.call f vs):=by
 intro w s₀ s₁ mg mb G Y fa o pm cd doc dV kV ho hd hcd hD hmg hg args vals as hpre hlay hrd hwl hlo
 obtain rfl:dV=.none:=Dflts.none hD hdf
 obtain rfl:kV=.none:=Dflts.noKw hD
 obtain⟨a,vs,ns,rfl,rfl,hobj,hints,hlen⟩:=zzs hn hpre hwl
 refine enter_call (codeAny_mono (call w s₀ s₁ mg mb fa o pm cd doc a vs ns G Y ho (fd_plain hd) hcd hmg hobj hints hlen hg) λr s' hq=>?_)
 obtain⟨rfl,h2,h3,h4⟩:=hq
 exact⟨.inl ⟨.bool true,.bool true,[],rfl,λ_=>rfl,.bool true,zzB l _,λ_=>⟨List.Pairwise.nil,λ_ hm=>(nomatch hm)⟩⟩,h2,h3,h4⟩
section
variable {prog:Program}{w:World}{A:Around}{E:Value->Shared->Prop}{s:Shared}{K:Frag}
end
end Att
namespace L2
open PySem PySem.Spec PyProof.Rows
theorem wzC:∀{vs:List Value}{ns:List Int},IntsAre vs ns->Vals (ns.map V.int) vs
 |_,_,.nil=>.nil
 |_,_,.cons n t h=>.cons ⟨t,rfl⟩ (wzC h)
def Only(H:Hp):Prop:=∀b,H b=none\/∃o xs,H b=some (.frz o (.lst xs))
theorem law_call{P:Program}{w:World}{K:PySem.W.Frag}{mg mb:Str->Option Value}{CX:CXT}{k:Nat}{fa a:Addr}{fd:FuncData}{x:Str}{sp:Sp}{s₁:Shared}{vs:List Value}{ns:List Int}
 (KX:K.In s₁.heap)(hns:s₁.heap.Ns mainGlobals mg)(hb:s₁.heap.Ns builtinsNs mb)(hbb:∀x:Str,x≠"__name__"->mb x=bootBuiltins x)(hlim:s₁.heap.NoLimit)(hg:s₁.gens= #[])
 (ha:s₁.heap.get? a=some {cls:=.type "list",data:=.seq vs.toArray})(hi:IntsAre vs ns)(hl:ns.length<=sizeLine)(hr:Room k callerA)
 (F:∀base:Heap,K.In base->base.Ns mainGlobals mg->FnOk P w K mg base CX k fa fd [x] sp)(hbind:∀(s:Shared)(u:Value),BindsTo s fd ⟨[u],[]⟩ [(x,u)])
 (hsp:∀H:Hp,Only H->SqL K H a (ns.map V.int)->sp [.ref a] H (λv _=>v=.bl true) λ_ _ _=>False)
 (hCX:∀H e s',CX [] H s₁ (λ_ _ _=>False) e s'->False):
 codeAny (model P w) callerA (.call (.ref fa) ⟨[.ref a],[]⟩) (λr s'=>r=.ok (.ret (.bool true))/\OldK s₁.heap s'.heap/\s'.os=s₁.os/\AllBare s'.gens) s₁:=by
 have rv:=wzC hi
 have lenV:=hi.length
 have core:∀H:Hp,Only H->SqL K H a (ns.map V.int)->HOk P w H s₁.heap->(∀b,H b≠none->b=a)->(H a≠none->K.lookup a=none)->
  codeAny (model P w) callerA (.call (.ref fa) ⟨[.ref a],[]⟩) (λr s'=>r=.ok (.ret (.bool true))/\OldK s₁.heap s'.heap/\s'.os=s₁.os/\AllBare s'.gens) s₁:=by
  intro H hO hS hok hA hK
  have base_of:∀{b:Addr}{o:Obj},s₁.heap.get? b=some o->H b=none->(hidT s₁.heap H).get? b=some o:=λe n=>hidT_get e n
  have noA:∀{b:Addr}{o:Obj}{es:Array DictEntry}{ep:Nat},s₁.heap.get? b=some o->o.data=.dict es ep->H b=none:=λ{b o es ep} e d=>by
   cases q:H b with
   |none=>rfl
   |some u=>
    have e':b=a:=hA b (by rw[q];simp)
    subst e'
    rw[ha] at e;cases e
    have d':Data.seq vs.toArray _=Data.dict es ep:=d
    cases d'
  have nsK:∀{b:Addr}{m:Str->Option Value},s₁.heap.Ns b m->(hidT s₁.heap H).Ns b m:=λ{b m} ⟨o,es,ep,e,d,r⟩=>⟨o,es,ep,base_of e (noA e d),d,r⟩
  have hKb:K.In (hidT s₁.heap H):=λb o e=>base_of (KX b o e) (by
   cases q:H b with
   |none=>rfl
   |some u=>
    have e':b=a:=hA b (by rw[q];simp)
    subst e'
    rw[hK (by rw[q];simp)] at e;cases e)
  have hM:Mod K mg (hidT s₁.heap H):=⟨hKb,nsK hns,⟨mb,nsK hb,hbb⟩,let⟨mc,h1,h2⟩:=hlim;⟨mc,nsK h1,h2⟩⟩
  have e0:Env0 P w K mg (hidT s₁.heap H) callerA [] s₁ H:=⟨rfl,hM,λb o e=>of_hidT e,Nat.le_of_eq (zz4 _ _),trivial,λb hb=>absurd (show b∈([]:List Addr) from hb) (by simp),hok,.of_eq hg⟩
  refine codeAny_mono ((F _ hKb (nsK hns)).run callerA [] s₁ H ⟨[.ref a],[]⟩ [.ref a] [.ref a] _ _ hr e0 (hbind s₁ (.ref a)) (.cons rfl .nil) (hsp H hO hS)) λr s' h=>?_
  cases r with
  |error e=>exact(hCX H e s' h).elim
  |ok fl=>
   cases fl with
   |next=>exact False.elim h
   |brk=>exact False.elim h
   |cont=>exact False.elim h
   |ret u=>
    obtain⟨v,H',os,bare,un,hok',r',q⟩:=h
    have q':v=.bl true:=q
    subst q'
    obtain rfl:u=Value.bool true:=r'
    refine⟨rfl,OldK.of_keep λb o e=>?_,os,bare⟩
    cases q:H b with
    |none=>exact un.keep b o e q (by intro z;exact absurd (show b∈([]:List Addr) from z) (by simp)) (by simp)
    |some u=>
     rcases hO b with z|⟨ob,xs,z⟩
     ·rw[q] at z;cases z
     ·have z2:=un.frzs b ob _ z
      obtain⟨e1,_⟩:=hok b _ z
      obtain⟨e2,_⟩:=hok' b _ z2
      rw[e] at e1;cases e1
      exact e2
 cases hk:K.lookup a with
 |some o=>
  have e:=KX a o hk
  rw[ha] at e
  cases e
  refine core (λ_=>none) (λ_=>.inl rfl) (.inr ⟨_,vs.toArray,_,hk,rfl,rfl,rfl,by rw[List.size_toArray,lenV];exact hl,by simpa using rv⟩) (λb u z=>by have z':(none:Option HO)=some u:=z;cases z') (λb z=>absurd rfl z) λz=>absurd rfl z
 |none=>
  refine core (λb=>if b=a then some (.frz {cls:=.type "list",data:=.seq vs.toArray} (.lst (ns.map V.int))) else none) (λb=>?_) (.inl (.inr ⟨{cls:=.type "list",data:=.seq vs.toArray},if_pos rfl⟩)) (λb u z=>?_) (λb z=>?_) λ_=>hk
  ·by_cases hb:b=a
   ·exact .inr ⟨_,_,if_pos hb⟩
   ·exact .inl (if_neg hb)
  ·by_cases hb:b=a
   ·have z':=(if_pos hb).symm.trans z
    cases z'
    subst hb
    exact⟨ha,by rw[List.length_map];exact hl,vs,_,rv,ha⟩
   ·have z':=(if_neg hb).symm.trans z
    cases z'
  ·by_cases hb:b=a
   ·exact hb
   ·exact absurd (if_neg hb) z
end L2
namespace L2
open PySem PySem.Spec PyProof.Rows
theorem walk_of{l:PySem.W.OpenLaw}{n k:Nat}{q:Program}{loose:List Str}{XP:(Str->Option Value)->Heap->Prop}{YP:World->Heap->Prop}{d:DefRec}{K:Params->PySem.W.Frag}{CX:World->CXT}{sp:World->Sp}{x:Str}
 (hn:l.most=some n)(hn2:n<=sizeLine)(hdf:d.params.defaults=[])(hr:Room k callerA)
 (hY:∀(w:World)(h:Heap),YP w h->(K w.params).In h)
 (F:∀(w:World)(mg:Str->Option Value)(fa:Addr)(h:Heap),(K w.params).In h->h.Ns mainGlobals mg->mg d.name=some (.ref fa)->
   ∃fd:FuncData,(∀(s:Shared)(u:Value),BindsTo s fd ⟨[u],[]⟩ [(x,u)])/\
    ∀base:Heap,(K w.params).In base->base.Ns mainGlobals mg->FnOk l.prog w (K w.params) mg base (CX w) k fa fd [x] (sp w))
 (hsp:∀(w:World)(H:Hp)(a:Addr)(ns:List Int),ns.length<=n->Only H->SqL (K w.params) H a (ns.map V.int)->sp w [.ref a] H (λv _=>v=.bl true) λ_ _ _=>False)
 (hCX:∀(w:World)(H:Hp)(s:Shared)(e:Value)(s':Shared),CX w [] H s (λ_ _ _=>False) e s'->False):
 PySem.W.WalkO q loose XP YP l.row.toRowW d [] (λf vs=>PySem.call f vs):=by
 refine Att.attach_call hn hdf λw s₀ s₁ mg mb fa o pm cd doc a vs ns G Y ho hd hcd hmg hobj hints hlen hg=>?_
 have KX:=hY w _ Y
 obtain⟨fd,hb,hF⟩:=F w mg fa _ KX G.T.g hmg
 exact law_call KX G.T.g G.T.b G.T.builtins G.T.nolimit hg hobj hints (Nat.le_trans hlen hn2) hr hF hb (λH hO hS=>hsp w H a ns hlen hO hS) λH e s'=>hCX w H s₁ e s'
end L2
namespace L2
open PySem PySem.Spec PyProof.Rows
def inClass(s:Stmt)(j:Nat):Stmt:=match s with
 |.ClassDef _ _ _ body _ _ _ _ _ _ _=>body.getD j (.Pass ⟨0,0,0,0⟩)
 |_=>.Pass ⟨0,0,0,0⟩
def defArgs(s:Stmt):Arguments:=match s with
 |.FunctionDef _ a _ _ _ _ _ _ _ _=>a
 |_=>{posonlyargs:= [],args:= [],vararg:=none,kwonlyargs:= [],kw_defaults:= [],kwarg:=none,defaults:= []}
def defBody(s:Stmt):List Stmt:=match s with
 |.FunctionDef _ _ b _ _ _ _ _ _ _=>b
 |_=>[]
def defScope(s:Stmt):Scope:=match s with
 |.FunctionDef _ _ _ _ _ _ sc _ _ _=>sc
 |_=>{kind:=.function,names:= [],isGenerator:=false,isCoroutine:=false}
abbrev CX0:CXT:=λ_ _ _ _ _ _=>False
abbrev E0:XK:=λ_ _ _=>False
structure Fun (K:PySem.W.Frag)(x qual:Str)(st:Stmt)(f:Addr)(fd:FuncData):Prop where
 ex:∃(oc:Value)(od:Option Addr)(kV doc pm:Value)(an:Option Addr)(cdv ct:Value)(osl:Array (Option Value)),
  fd=PySem.W.fnOf x qual (defArgs st) (defBody st) (defScope st) .none kV doc pm an cdv ct/\K.lookup f=some ⟨oc,od,.func fd,osl⟩/\PySem.W.codeIn K cdv qual=true
 kp:PySem.W.keepIn K (.ref f)=true
section
variable {P:Program}{w:World}{K:PySem.W.Frag}{mg:Str->Option Value}{base:Heap}
theorem Fun.binds{x qual:Str}{st:Stmt}{f:Addr}{fd:FuncData}{ps:List Str}(F:Fun K x qual st f fd)
 (h:∀(kV doc pm:Value)(an:Option Addr)(cdv ct:Value)(us:List Value),us.length=ps.length->bindArgs (PySem.W.fnOf x qual (defArgs st) (defBody st) (defScope st) .none kV doc pm an cdv ct) ⟨us,[]⟩=pure (ps.zip us)):Binds K fd ps []:=by
 obtain⟨oc,od,kV,doc,pm,an,cdv,ct,osl,rfl,lk,hcd⟩:=F.ex
 exact .all (h kV doc pm an cdv ct)
theorem jzr{x qual:Str}{st:Stmt}{f:Addr}{oc:Value}{od an:Option Addr}{osl:Array (Option Value)}{kV doc pm cdv ct:Value}(l:K.lookup f=some ⟨oc,od,.func (PySem.W.fnOf x qual (defArgs st) (defBody st) (defScope st) .none kV doc pm an cdv ct),osl⟩)
 (c:PySem.W.codeIn K cdv qual=true)(k:PySem.W.keepIn K (.ref f)=true):Fun K x qual st f (PySem.W.fnOf x qual (defArgs st) (defBody st) (defScope st) .none kV doc pm an cdv ct):=⟨⟨oc,od,kV,doc,pm,an,cdv,ct,osl,rfl,l,c⟩,k⟩
end
theorem wzI{n:Nat}(h:n<=1000):n<sizeLine:=Nat.lt_of_le_of_lt h (by decide)
section
variable {X:Cx}
theorem pv(i:Nat){x:Str}{pos:Pos}(hN:X.N[i]? =some x:=by rfl)(hv:Vis X.env.scope x:=by first |exact Or.inl rfl|exact Or.inr (Or.inl rfl)|exact Or.inr (Or.inr rfl))(hd:(x==("__debug__":Str))=false:=by decide)
 (hcd:(x==("__classdict__":Str))=false:=by decide):PE X (.Name x pos) (tVar i):=pe_var hN hv hd hcd
end
theorem iteF{A B:Prop}(h:B):if false=true then A else B:=by
 rw[if_neg Bool.false_ne_true]
 exact h
theorem iteT{A B:Prop}(h:A):if true=true then A else B:=by
 rw[if_pos rfl]
 exact h
def Same(H H':Hp):Prop:=∀b o,H b=some o->H' b=some o
end L2
section
namespace L2
open PySem PySem.Spec PyProof.Rows
section
variable {κ:Type} [DecidableEq κ]
def valV(kvs:List (κ×V))(k:κ):Option V:=(kvs.find? λkv=>decide (kv.1=k)).map (·.2)
def putK(kvs:List (κ×V))(k:κ)(v:V):List (κ×V):=
 if(kvs.any λkv=>decide (kv.1=k))=true then kvs.map (λkv=>if kv.1=k then(kv.1,v) else kv) else kvs++ [(k,v)]
def dropK(kvs:List (κ×V))(k:κ):List (κ×V):=kvs.filter λkv=>decide (kv.1≠k)
theorem vzm{p:κ×V}{r:List (κ×V)}{k:κ}(e:p.1=k):valV (p::r) k=some p.2:=by simp[valV,List.find?_cons,e]
theorem vzn{p:κ×V}{r:List (κ×V)}{k:κ}(e:¬p.1=k):valV (p::r) k=valV r k:=by simp[valV,List.find?_cons,e]
theorem RelO.isSome_eq{o:Option V}{u:Option Value}(r:RelO o u):o.isSome=u.isSome:=by
 cases o with
 |none=>cases u with
  |none=>rfl
  |some _=>exact(show False from r).elim
 |some _=>cases u with
  |none=>exact(show False from r).elim
  |some _=>rfl
theorem KV.val{kvs:List (κ×V)}{vs:List (κ×Value)}(r:KV kvs vs)(k:κ):RelO (valV kvs k) (valueAt vs k):=by
 unfold KV at r
 induction r with
 |nil=>exact True.intro
 | @cons p q ps qs h t ih=>
   obtain⟨h1,h2⟩:=h
   by_cases e:p.1=k
   ·have e':q.1=k:=h1.symm.trans e
    have b:valueAt (q::qs) k=some q.2:=by simp[valueAt,List.find?_cons,e']
    rw[vzm e,b];exact h2
   ·have e':¬q.1=k:=λz=>e (h1.trans z)
    have b:valueAt (q::qs) k=valueAt qs k:=by simp[valueAt,List.find?_cons,e']
    rw[vzn e,b];exact ih
end
theorem kV_is{P:Program}{w:World}{k:Key}{u:Value}(r:RelV (kV k) u):(mixKind P w).is k u=true:=by
 cases k with
 |inl i=>obtain⟨t,e⟩:=(show ∃t,u=Value.int i t from r);subst e;exact vze P w i t
 |inr x=>obtain⟨t,e⟩:=(show ∃t,u=Value.str x t from r);subst e;exact vzd P w x t
theorem wzS{P:Program}{w:World}:∀{ks:List Key}{us:List Value},Vals (ks.map kV) us->ItemsAre (mixKind P w) ks us
 | [],_,r=>by rw[List.map_nil] at r;cases r;exact .nil
 |k::ks,_,r=>by
  rw[List.map_cons] at r
  cases r with
  |cons h t=>exact .cons (kV_is h) (wzS t)
abbrev KT(H:Hp):List (List Key×V)->List (List Key×Addr×Value)->Prop:=Paired λp q=>p.1=q.1/\H q.2.1=some (.tup (p.1.map kV))/\RelV p.2 q.2.2
theorem KT.val{H:Hp}{kvs:List (List Key×V)}{xs:List (List Key×Addr×Value)}(r:KT H kvs xs)(k:List Key):RelO (valV kvs k) ((atKey xs k).map (·.2)):=by
 induction r with
 |nil=>exact True.intro
 | @cons p q ps qs h t ih=>
   obtain⟨h1,_,h2⟩:=h
   by_cases e:p.1=k
   ·have e':q.1=k:=h1.symm.trans e
    have b:atKey (q::qs) k=some q.2:=by simp[atKey,List.find?_cons,e']
    rw[vzm e,b];exact h2
   ·have e':¬q.1=k:=λz=>e (h1.trans z)
    have b:atKey (q::qs) k=atKey qs k:=by simp[atKey,List.find?_cons,e']
    rw[vzn e,b];exact ih
section
variable {P:Program}{w:World}{H:Hp}{h:Heap}{a:Addr}
theorem rd_of{u:HO}(ok:HOk P w H h)(e:Rd H a u):ObjOk P w H h a u:=e.ok ok
theorem dk_rd{kvs:List (Key×V)}(ok:HOk P w H h)(e:Rd H a (.dK kvs)):kvs.length<=sizeLine/\(a==sysModules)=false/\∃vs,KV kvs vs/\h.DictOf (mixKind P w) a vs:=
 show ObjOk P w H h a (.dK kvs) from rd_of ok e
theorem vzF{ks:List Key}(ok:HOk P w H h)(e:H a=some (.tup (ks.map kV))):(tupleKind (mixKind P w)).is h ks a:=by
 obtain⟨_,its,r,o,h1,h2,n,h3⟩:=(show ObjOk P w H h a (.tup (ks.map kV)) from ok a _ e)
 exact⟨o,its.toArray,n,h1,h2,h3,by simpa using wzS r⟩
theorem dt_rd{kvs:List (List Key×V)}(ok:HOk P w H h)(e:Rd H a (.dT kvs)):kvs.length<=sizeLine/\(a==sysModules)=false/\
 ∃xs,KT H kvs xs/\h.DictOfH (tupleKind (mixKind P w)) a xs:=by
 obtain⟨z,y,xs,r,o,es,ep,h1,h2,h3,h4,h5⟩:=(show ObjOk P w H h a (.dT kvs) from rd_of ok e)
 refine⟨z,y,xs,r,o,es,ep,h1,h2,h3,h4,λx hx=>?_,h5⟩
 have all:∀{l:List (List Key×V)}{m:List (List Key×Addr×Value)},KT H l m->∀x∈m,(tupleKind (mixKind P w)).is h x.1 x.2.1:=by
  intro l m q
  induction q with
  |nil=>intro x hx;exact nomatch hx
  | @cons p q ps qs hq t ih=>
    intro x hx
    rcases List.mem_cons.mp hx with e|hx
    ·subst e
     exact vzF ok (by rw[<- hq.1];exact hq.2.1)
    ·exact ih x hx
 exact all r x hx
end
def DGet(H:Hp)(a:Addr)(y:V)(r:Option V):Prop:=
 (∃kvs k,Rd H a (.dK kvs)/\y=kV k/\r=valV kvs k)\/∃kvs k b,Rd H a (.dT kvs)/\y=.ref b/\H b=some (.tup (k.map kV))/\r=valV kvs k
def DPut(H:Hp)(a:Addr)(y v:V)(H':Hp):Prop:=
 (∃kvs k,H a=some (.dK kvs)/\y=kV k/\kvs.length<sizeLine/\H'=upd H a (.dK (putK kvs k v)))\/
 ∃kvs k b,H a=some (.dT kvs)/\y=.ref b/\H b=some (.tup (k.map kV))/\kvs.length<sizeLine/\H'=upd H a (.dT (putK kvs k v))
theorem DGet.k{H:Hp}{a:Addr}{kvs:List (Key×V)}{k:Key}(e:H a=some (.dK kvs)):DGet H a (kV k) (valV kvs k):=.inl ⟨kvs,k,.inl e,rfl,rfl⟩
section
variable {X:Cx}{pins:List (Addr×Obj)}{σ:St}{H:Hp}{s:Shared}{a:Addr}{y v:V}{u r:Value}{o:Option V}{A:Around}{E:Value->Shared->Prop}
theorem Inv.big(I:Inv X pins σ H s):sysModules<s.heap.objs.size:=by
 have h:mainGlobals<s.heap.objs.size:=(I.mod.glob.keeps I.bk).lt
 exact Nat.lt_trans (by decide) h
theorem xzn{Q:Value->Shared->Prop}(hu:A.units+1<cLine)(I:Inv X pins σ H s)(g:DGet H a y (some v))(ry:RelV y u)(h:∀w' s',Inv X pins σ H s'->RelV v w'->Q w' s'):
 wpAny (model X.prog X.w) A (getItem (.ref a) u) Q E s:=by
 rcases g with ⟨kvs,k,e,ey,l⟩|⟨kvs,k,b,e,ey,eb,l⟩
 ·subst ey
  obtain⟨z,hd,vs,rel,dd⟩:=dk_rd I.hok e
  obtain⟨w',hw,rw'⟩:=RelO.some_of (v:=v) (o:=valueAt vs k) (by rw[l];exact rel.val k)
  exact wpAny_getItem_of (kV_is ry) dd.mapOf hw (h w' _ (I.tok _) rw')
 ·subst ey
  cases(show u=Value.ref b from ry)
  obtain⟨z,hd,xs,rel,dd⟩:=dt_rd I.hok e
  obtain⟨w',hw,rw'⟩:=RelO.some_of (v:=v) (o:=(atKey xs k).map (·.2)) (by rw[l];exact rel.val k)
  obtain⟨p,hp,hp2⟩:=Option.map_eq_some_iff.mp hw
  refine wpAny_getItem_heap (tupleKind_room_in1 hu) (vzF I.hok eb) dd hp ?_
  rw[hp2]
  exact h w' _ (I.tok _) rw'
theorem d_in{Q:Value->Shared->Prop}(hu:A.units+1<cLine)(I:Inv X pins σ H s)(g:DGet H a y o)(ry:RelV y u)(h:∀s',Inv X pins σ H s'->Q (.bool o.isSome) s'):
 wpAny (model X.prog X.w) A (compareOp .In u (.ref a)) Q E s:=by
 rcases g with ⟨kvs,k,e,ey,l⟩|⟨kvs,k,b,e,ey,eb,l⟩
 ·subst ey
  obtain⟨z,hd,vs,rel,dd⟩:=dk_rd I.hok e
  refine wpAny_in_of (kV_is ry) hd dd.mapOf ?_
  rw[<- (rel.val k).isSome_eq, <- l]
  exact h _ (I.tok _)
 ·subst ey
  cases(show u=Value.ref b from ry)
  obtain⟨z,hd,xs,rel,dd⟩:=dt_rd I.hok e
  refine wpAny_in_heap (tupleKind_room_in1 hu) (vzF I.hok eb) hd dd ?_
  have q:=(rel.val k).isSome_eq
  rw[Option.isSome_map] at q
  rw[<- q, <- l]
  exact h _ (I.tok _)
theorem d_notIn{Q:Value->Shared->Prop}(hu:A.units+1<cLine)(I:Inv X pins σ H s)(g:DGet H a y o)(ry:RelV y u)(h:∀s',Inv X pins σ H s'->Q (.bool (!o.isSome)) s'):
 wpAny (model X.prog X.w) A (compareOp .NotIn u (.ref a)) Q E s:=by
 rcases g with ⟨kvs,k,e,ey,l⟩|⟨kvs,k,b,e,ey,eb,l⟩
 ·subst ey
  obtain⟨z,hd,vs,rel,dd⟩:=dk_rd I.hok e
  refine wpAny_notIn_of (kV_is ry) hd dd.mapOf ?_
  rw[<- (rel.val k).isSome_eq, <- l]
  exact h _ (I.tok _)
 ·subst ey
  cases(show u=Value.ref b from ry)
  obtain⟨z,hd,xs,rel,dd⟩:=dt_rd I.hok e
  refine wpAny_notIn_heap (tupleKind_room_in1 hu) (vzF I.hok eb) hd dd ?_
  have q:=(rel.val k).isSome_eq
  rw[Option.isSome_map] at q
  rw[<- q, <- l]
  exact h _ (I.tok _)
theorem xzm{h':Heap}{t':Nat}{ob:HO}(I:Inv X pins σ H s)(mu:Mut (H a))(hs:Heap.SameBut a s.heap h')(he:∃q,h'.get? a=some q)(new:ObjOk X.prog X.w (upd H a ob) h' a ob):
 Inv X pins σ (upd H a ob) {s with heap:=h',toks:=t'}:=
 I.write (x:=a) (e:=a) mu (.inl rfl) (λb q hb z=>(hs.2 b hb).trans z) he new
end
section
variable {X:Cx}{pins:List (Addr×Obj)}{σ:St}{H:Hp}{s:Shared}{a:Addr}{kvs:List (Key×V)}{k:Key}{u:Value}{A:Around}{E:Value->Shared->Prop}
end
theorem vzk{X:Cx}{pins:List (Addr×Obj)}{σ:St}{H:Hp}{s:Shared}{a:Addr}{y:V}{o:Option V}(I:Inv X pins σ H s)(g:DGet H a y o):s.TypeIs (.ref a) "dict":=by
 rcases g with ⟨kvs,k,e,_,_⟩|⟨kvs,k,b,e,_,_,_⟩
 ·obtain⟨_,_,vs,_,dd⟩:=dk_rd I.hok e
  exact dd.typeIs
 ·obtain⟨_,_,xs,_,dd⟩:=dt_rd I.hok e
  exact dd.typeIs
section
variable {X:Cx}{o i e value:Expr}{pos pos' tpos:Pos}{td ty tv:TE}
end
section
variable {X:Cx}{pos:Pos}
end
section
variable {X:Cx}{pins:List (Addr×Obj)}{σ:St}{H:Hp}{s:Shared}{a:Addr}{y d:V}{u r:Value}{o:Option V}{A:Around}{E:Value->Shared->Prop}
end
section
variable {X:Cx}{o e f:Expr}{apos cpos:Pos}{td ty tx:TE}
end
section
variable {X:Cx}{pins:List (Addr×Obj)}{σ:St}{H:Hp}{s:Shared}{a:Addr}{kvs:List (Key×V)}{A:Around}{E:Value->Shared->Prop}
end
section
variable {X:Cx}{pins:List (Addr×Obj)}{σ:St}{H:Hp}{s:Shared}{a:Addr}{y:V}{u:Value}{A:Around}{E:Value->Shared->Prop}
end
end L2
namespace L2
open PySem PySem.Spec PyProof.Rows
section
variable {X:Cx}
end
section
variable {κ:Type} [DecidableEq κ]
end
end L2
end
section
namespace Ng
open PySem PySem.Spec PyProof.Rows L2
abbrev Sg:=L2.St
inductive D where
 |non|bl (b:Bool)|int (i:Int)|str (x:Str)|ty (n:String)|tup (l:List D)|ref (n:Nat)
inductive O where
 |lst (l:List D)|ro (l:List D)|dct (l:List (Key×D))|dtt (l:List (List Int×D))|ded|dtf (l:List (List Int×D))|ins (cn:Str) (fs:List (Str×D))
abbrev Hh:=List O
abbrev Ev:=List (Option D)
inductive Rs (A:Type) where
 |ok (a:A) (h:Hh)|exc (c:Nat) (r:Ev) (h:Hh)|bad
def Rs.bind{A B:Type}:Rs A->(A->Hh->Rs B)->Rs B
 |.ok a h,f=>f a h
 |.exc c r h,_=>.exc c r h
 |.bad,_=>.bad
theorem Rs.bind_ok{A B:Type}{r:Rs A}{f:A->Hh->Rs B}{b:B}{h':Hh}(e:r.bind f=.ok b h'):∃a h,r=.ok a h/\f a h=.ok b h':=by
 cases r with
 |ok a h=>exact⟨a,h,rfl,e⟩
 |exc c r h=>cases e
 |bad=>cases e
def Rs.nx{A:Type}:Rs A->Rs A
 |.ok a h=>.ok a h
 |_=>.bad
theorem Rs.nx_ok{A:Type}{r:Rs A}{a:A}{h:Hh}(e:r.nx=.ok a h):r=.ok a h:=by
 cases r with
 |ok b h'=>exact e
 |exc c r h'=>cases e
 |bad=>cases e
def Rs.inn{A:Type}(r:Ev):Rs A->Rs A
 |.exc c _ h=>.exc c r h
 |o=>o
mutual
inductive RD (K:PySem.W.Frag) (m:List Addr) (H:Hp):D->V->Prop where
 |non:RD K m H .non .non
 |bl (b:Bool):RD K m H (.bl b) (.bl b)
 |int (i:Int):RD K m H (.int i) (.int i)
 |str (x:Str):RD K m H (.str x) (.str x)
 |ty (n:String):RD K m H (.ty n) (.ty n)
 |tup {a:Addr} {ds:List D} {vs:List V} (h:SqT K H a vs) (r:RDs K m H ds vs):RD K m H (.tup ds) (.ref a)
 |ref {n:Nat} {a:Addr} (h:m[n]? =some a):RD K m H (.ref n) (.ref a)
inductive RDs (K:PySem.W.Frag) (m:List Addr) (H:Hp):List D->List V->Prop where
 |nil:RDs K m H [] []
 |cons {d:D} {v:V} {ds:List D} {vs:List V} (h:RD K m H d v) (r:RDs K m H ds vs):RDs K m H (d::ds) (v::vs)
end
structure Gr (K:PySem.W.Frag)(m:List Addr)(H:Hp)(m':List Addr)(H':Hp):Prop where
 pre:∀(n:Nat)(a:Addr),m[n]? =some a->m'[n]? =some a
 tup:∀(a:Addr)(vs:List V),SqT K H a vs->SqT K H' a vs
 frz:∀(a:Addr)(o:Obj)(u:HO),H a=some (.frz o u)->H' a=some (.frz o u)
theorem Gr.refl{K:PySem.W.Frag}{m:List Addr}{H:Hp}:Gr K m H m H:=⟨λ_ _ e=>e,λ_ _ e=>e,λ_ _ _ e=>e⟩
theorem Gr.trans{K:PySem.W.Frag}{m m1 m2:List Addr}{H H1 H2:Hp}(a:Gr K m H m1 H1)(b:Gr K m1 H1 m2 H2):Gr K m H m2 H2:=
 ⟨λn x e=>b.pre n x (a.pre n x e),λn x e=>b.tup n x (a.tup n x e),λn x u e=>b.frz n x u (a.frz n x u e)⟩
section
variable {K:PySem.W.Frag}{m m':List Addr}{H H':Hp}
mutual
theorem RD.mono(g:Gr K m H m' H'):∀{d:D}{v:V},RD K m H d v->RD K m' H' d v
 |_,_,.non=>.non
 |_,_,.bl b=>.bl b
 |_,_,.int i=>.int i
 |_,_,.str x=>.str x
 |_,_,.ty n=>.ty n
 |_,_,.tup h r=>.tup (g.tup _ _ h) (RDs.mono g r)
 |_,_,.ref h=>.ref (g.pre _ _ h)
theorem RDs.mono(g:Gr K m H m' H'):∀{ds:List D}{vs:List V},RDs K m H ds vs->RDs K m' H' ds vs
 |_,_,.nil=>.nil
 |_,_,.cons h r=>.cons (RD.mono g h) (RDs.mono g r)
end
theorem RDs.length:∀{ds:List D}{vs:List V},RDs K m H ds vs->ds.length=vs.length
 |_,_,.nil=>rfl
 |_,_,.cons _ r=>by simp[RDs.length r]
theorem RDs.get:∀{ds:List D}{vs:List V}{i:Nat}{d:D},RDs K m H ds vs->ds[i]? =some d->∃v,vs[i]? =some v/\RD K m H d v
 |_,_,_,_,.nil,e=>by simp at e
 |_,_,0,_,.cons h _,e=>by simp at e;subst e;exact⟨_,rfl,h⟩
 |_,_,i+1,d,.cons _ r,e=>by
  obtain⟨v,h1,h2⟩:=RDs.get (i:=i) (d:=d) r (by simpa using e)
  exact⟨v,by simpa using h1,h2⟩
theorem RDs.getV:∀{ds:List D}{vs:List V}{i:Nat}{v:V},RDs K m H ds vs->vs[i]? =some v->∃d,ds[i]? =some d/\RD K m H d v
 |_,_,_,_,.nil,e=>by simp at e
 |_,_,0,_,.cons h _,e=>by simp at e;subst e;exact⟨_,rfl,h⟩
 |_,_,i+1,v,.cons _ r,e=>by
  obtain⟨d,h1,h2⟩:=RDs.getV (i:=i) (v:=v) r (by simpa using e)
  exact⟨d,by simpa using h1,h2⟩
theorem RDs.append:∀{ds es:List D}{vs us:List V},RDs K m H ds vs->RDs K m H es us->RDs K m H (ds++es) (vs++us)
 |_,_,_,_,.nil,s=>s
 |_,_,_,_,.cons h r,s=>.cons h (RDs.append r s)
end
theorem RDs.ints{K:PySem.W.Frag}{m:List Addr}{H:Hp}:∀(ns:List Int),RDs K m H (ns.map D.int) (ns.map V.int)
 | []=>.nil
 |n::ns=>.cons (.int n) (RDs.ints ns)
def SqR(K:PySem.W.Frag)(H:Hp)(a:Addr)(xs:List V):Prop:=
 (∃o,H a=some (.frz o (.lst xs)))\/
   ∃(o:Obj)(its:Array Value)(n:Nat),K.lookup a=some o/\o.cls=.type "list"/\o.dict=none/\o.data=.seq its n/\its.size<=sizeLine/\Vals xs its.toList
theorem SqR.sq{K:PySem.W.Frag}{H:Hp}{a:Addr}{xs:List V}(h:SqR K H a xs):SqL K H a xs:=by
 rcases h with h|h
 ·exact .inl (.inr h)
 ·exact .inr h
def Dtt(a:Addr)(xs:List (List Int×Addr×Value))(h:Heap):Prop:=
 (a==sysModules)=false/\xs.length<=1000/\∃(P:Program)(w:World)(o:Obj)(es:Array DictEntry)(ep:Nat),h.get? a=some o/\o.ExactDict/\o.data=.dict es ep/\
   es.toList=xs.map (entryOfKey (tupleKind (intKind P w)))/\(xs.map (·.1)).Nodup
def Dfo(a:Addr)(xs:List (List Int×Addr×Value))(o:Obj)(es:Array DictEntry)(ep:Nat):Prop:=
 (a==sysModules)=false/\xs.length<=1000/\o.ExactDict/\o.data=.dict es ep/\(∃(P:Program)(w:World),es.toList=xs.map (entryOfKey (tupleKind (intKind P w))))/\(xs.map (·.1)).Nodup
def RO(K:PySem.W.Frag)(m:List Addr)(H:Hp)(a:Addr):O->Prop
 |.lst ds=>∃vs,H a=some (.lst vs)/\RDs K m H ds vs
 |.ro ds=>∃vs,SqR K H a vs/\RDs K m H ds vs
 |.dct ds=>∃us:List (Key×V),H a=some (.dK us)/\ds.map (·.1)=us.map (·.1)/\RDs K m H (ds.map (·.2)) (us.map (·.2))
 |.dtt ds=>∃(xs:List (List Int×Addr×Value))(us:List V),H a=some (.ext (Dtt a xs))/\ds.map (·.1)=xs.map (·.1)/\(∀x∈xs,SqT K H x.2.1 (x.1.map V.int))/\RDs K m H (ds.map (·.2)) us/\Vals us (xs.map (·.2.2))
 |.ded=>True
 |.dtf ds=>∃(xs:List (List Int×Addr×Value))(us:List V)(o:Obj)(es:Array DictEntry)(ep:Nat),H a=some (.frz o (.own a))/\Dfo a xs o es ep/\ds.map (·.1)=xs.map (·.1)/\(∀x∈xs,SqT K H x.2.1 (x.1.map V.int))/\RDs K m H (ds.map (·.2)) us/\Vals us (xs.map (·.2.2))
 |.ins cn fs=>∃(C dx:Addr)(us:List (Str×V)),PySem.W.nsIn K mainGlobals cn=some (some (.ref C))/\H a=some (.ins C dx us)/\fs.map (·.1)=us.map (·.1)/\RDs K m H (fs.map (·.2)) (us.map (·.2))
def O.wr:O->Bool
 |.lst _=>true
 |.ro _=>false
 |.dct _=>true
 |.dtt _=>true
 |.ded=>false
 |.dtf _=>false
 |.ins _ _=>true
def wrO:HO->Bool
 |.lst _=>true
 |.dK _=>true
 |.ext _=>true
 |.ins _ _ _=>true
 |_=>false
structure Wd (K:PySem.W.Frag)(m:List Addr)(h:Hh)(H:Hp):Prop where
 len:m.length=h.length
 nd:∀(i j:Nat)(a:Addr)(o u:O),m[i]? =some a->m[j]? =some a->h[i]? =some o->h[j]? =some u->o.wr=true->u.wr=true->i=j
 ob:∀(n:Nat)(o:O)(a:Addr),h[n]? =some o->m[n]? =some a->RO K m H a o
theorem Wd.at{K:PySem.W.Frag}{m:List Addr}{h:Hh}{H:Hp}(w:Wd K m h H){n:Nat}{o:O}(e:h[n]? =some o):∃a,m[n]? =some a/\RO K m H a o:=by
 have hn:n<h.length:=(List.getElem?_eq_some_iff.mp e).1
 have hm:n<m.length:=by rw[w.len];exact hn
 exact⟨m[n],List.getElem?_eq_getElem hm,w.ob n o _ e (List.getElem?_eq_getElem hm)⟩
def RSt(K:PySem.W.Frag)(m:List Addr)(H:Hp)(r:Ev)(s:Sg):Prop:=r.length=s.length/\∀(i:Nat)(d:D),r[i]? =some (some d)->∃v,s[i]? =some (some v)/\RD K m H d v
theorem RSt.mono{K:PySem.W.Frag}{m m':List Addr}{H H':Hp}{r:Ev}{s:Sg}(g:Gr K m H m' H')(h:RSt K m H r s):RSt K m' H' r s:=
 ⟨h.1,λi d e=>let⟨v,h1,h2⟩:=h.2 i d e;⟨v,h1,h2.mono g⟩⟩
theorem RSt.set{K:PySem.W.Frag}{m:List Addr}{H:Hp}{r:Ev}{s:Sg}{d:D}{v:V}(h:RSt K m H r s)(i:Nat)(q:RD K m H d v):RSt K m H (r.set i (some d)) (s.set i (some v)):=by
 refine⟨by simp[h.1],λj e he=>?_⟩
 by_cases hij:i=j
 ·subst hij
  have hl:i<r.length:=by
   have:=(List.getElem?_eq_some_iff.mp he).1
   simpa using this
  rw[List.getElem?_set_self hl] at he
  have he':d=e:=by injection he with z;injection z
  subst he'
  exact⟨v,List.getElem?_set_self (by rw[<- h.1];exact hl),q⟩
 ·rw[List.getElem?_set_ne hij] at he
  obtain⟨u,h1,h2⟩:=h.2 j e he
  exact⟨u,by rw[List.getElem?_set_ne hij];exact h1,h2⟩
theorem SqT.upd_new{K:PySem.W.Frag}{H:Hp}{p:Addr}{o:HO}(hp:H p=none){a:Addr}{vs:List V}(h:SqT K H a vs):SqT K (upd H p o) a vs:=by
 rcases h with (h|⟨ob,h⟩)|h
 ·exact .inl (.inl (by rw[jzl (jzs h hp)];exact h))
 ·exact .inl (.inr ⟨ob,by rw[jzl (jzs h hp)];exact h⟩)
 ·exact .inr h
theorem SqT.upd_w{K:PySem.W.Frag}{H:Hp}{p:Addr}{u o:HO}(hp:H p=some u)(hw:wrO u=true){a:Addr}{vs:List V}(h:SqT K H a vs):SqT K (upd H p o) a vs:=by
 rcases h with (h|⟨ob,h⟩)|h
 ·exact .inl (.inl (by rw[jzl (ne_of h hp (λz=>by subst z;cases hw))];exact h))
 ·exact .inl (.inr ⟨ob,by rw[jzl (ne_of h hp (λz=>by subst z;cases hw))];exact h⟩)
 ·exact .inr h
theorem SqR.upd_new{K:PySem.W.Frag}{H:Hp}{p:Addr}{o:HO}(hp:H p=none){a:Addr}{vs:List V}(h:SqR K H a vs):SqR K (upd H p o) a vs:=by
 rcases h with ⟨ob,h⟩|h
 ·exact .inl ⟨ob,by rw[jzl (jzs h hp)];exact h⟩
 ·exact .inr h
theorem SqR.upd_w{K:PySem.W.Frag}{H:Hp}{p:Addr}{u o:HO}(hp:H p=some u)(hw:wrO u=true){a:Addr}{vs:List V}(h:SqR K H a vs):SqR K (upd H p o) a vs:=by
 rcases h with ⟨ob,h⟩|h
 ·exact .inl ⟨ob,by rw[jzl (ne_of h hp (λz=>by subst z;cases hw))];exact h⟩
 ·exact .inr h
section
variable {K:PySem.W.Frag}{m:List Addr}{h:Hh}{H:Hp}
theorem Gr.tupNew{p:Addr}{o:HO}(hp:H p=none):Gr K m H m (upd H p o):=⟨λ_ _ e=>e,λ_ _ e=>SqT.upd_new hp e,λb o' u' e=>by rw[jzl (jzs e hp)];exact e⟩
theorem RO.some_of{a:Addr}{o:O}(r:RO K m H a o)(w:o.wr=true):∃u,H a=some u/\wrO u=true:=by
 cases o with
 |lst ds=>obtain⟨vs,h1,_⟩:=r;exact⟨_,h1,rfl⟩
 |ro ds=>cases w
 |dct ds=>obtain⟨vs,h1,_⟩:=r;exact⟨_,h1,rfl⟩
 |dtt ds=>obtain⟨xs,us,h1,_⟩:=r;exact⟨_,h1,rfl⟩
 |ded=>cases w
 |dtf ds=>cases w
 |ins cn fs=>obtain⟨C,dx,us,_,h1,_⟩:=r;exact⟨_,h1,rfl⟩
theorem RO.keepNew{p a:Addr}{o:HO}{u:O}{m':List Addr}(hp:H p=none)(g:Gr K m H m' (upd H p o))(q:RO K m H a u):RO K m' (upd H p o) a u:=by
 cases u with
 |lst ds=>
  obtain⟨vs,h1,h2⟩:=q
  exact⟨vs,by rw[jzl (jzs h1 hp)];exact h1,h2.mono g⟩
 |ro ds=>
  obtain⟨vs,h1,h2⟩:=q
  exact⟨vs,SqR.upd_new hp h1,h2.mono g⟩
 |dct ds=>
  obtain⟨vs,h1,h2,h3⟩:=q
  exact⟨vs,by rw[jzl (jzs h1 hp)];exact h1,h2,h3.mono g⟩
 |dtt ds=>
  obtain⟨xs,us,h1,h2,h3,h4,h5⟩:=q
  exact⟨xs,us,by rw[jzl (jzs h1 hp)];exact h1,h2,λx hx=>g.tup _ _ (h3 x hx),h4.mono g,h5⟩
 |ded=>trivial
 |dtf ds=>
  obtain⟨xs,us,o',es,ep,h1,h2,h3,h4,h5,h6⟩:=q
  exact⟨xs,us,o',es,ep,by rw[jzl (jzs h1 hp)];exact h1,h2,h3,λx hx=>g.tup _ _ (h4 x hx),h5.mono g,h6⟩
 |ins cn fs=>
  obtain⟨C,dx,us,h1,h2,h3,h4⟩:=q
  exact⟨C,dx,us,h1,by rw[jzl (jzs h2 hp)];exact h2,h3,h4.mono g⟩
theorem RO.keepSet{p a:Addr}{v o:HO}{u:O}{m':List Addr}(hp:H p=some v)(hw:wrO v=true)(na:u.wr=true->a≠p)(g:Gr K m H m' (upd H p o))(q:RO K m H a u):RO K m' (upd H p o) a u:=by
 cases u with
 |lst ds=>
  obtain⟨vs,h1,h2⟩:=q
  exact⟨vs,by rw[jzl (na rfl)];exact h1,h2.mono g⟩
 |ro ds=>
  obtain⟨vs,h1,h2⟩:=q
  exact⟨vs,SqR.upd_w hp hw h1,h2.mono g⟩
 |dct ds=>
  obtain⟨vs,h1,h2,h3⟩:=q
  exact⟨vs,by rw[jzl (na rfl)];exact h1,h2,h3.mono g⟩
 |dtt ds=>
  obtain⟨xs,us,h1,h2,h3,h4,h5⟩:=q
  exact⟨xs,us,by rw[jzl (na rfl)];exact h1,h2,λx hx=>g.tup _ _ (h3 x hx),h4.mono g,h5⟩
 |ded=>trivial
 |dtf ds=>
  obtain⟨xs,us,o',es,ep,h1,h2,h3,h4,h5,h6⟩:=q
  exact⟨xs,us,o',es,ep,by rw[jzl (ne_of h1 hp (λz=>by subst z;cases hw))];exact h1,h2,h3,λx hx=>g.tup _ _ (h4 x hx),h5.mono g,h6⟩
 |ins cn fs=>
  obtain⟨C,dx,us,h1,h2,h3,h4⟩:=q
  exact⟨C,dx,us,h1,by rw[jzl (na rfl)];exact h2,h3,h4.mono g⟩
theorem Wd.keepNew(w:Wd K m h H){p:Addr}{o:HO}(hp:H p=none):Wd K m h (upd H p o):=
 ⟨w.len,w.nd,λn ob a e1 e2=>(w.ob n ob a e1 e2).keepNew hp (Gr.tupNew hp)⟩
theorem Wd.objNew(w:Wd K m h H){p:Addr}{o:O}{u:HO}(hp:H p=none)(r:Gr K m H (m++ [p]) (upd H p u)->RO K (m++ [p]) (upd H p u) p o):Wd K (m++ [p]) (h++ [o]) (upd H p u)/\Gr K m H (m++ [p]) (upd H p u):=by
 have g:Gr K m H (m++ [p]) (upd H p u):=⟨λn a e=>by
  rw[List.getElem?_append_left (List.getElem?_eq_some_iff.mp e).1];exact e,λ_ _ e=>SqT.upd_new hp e,λb o' u' e=>by rw[jzl (jzs e hp)];exact e⟩
 have cs:∀(i:Nat)(a:Addr)(o':O),(m++ [p])[i]? =some a->(h++ [o])[i]? =some o'->(i<h.length/\m[i]? =some a/\h[i]? =some o')\/(i=h.length/\a=p/\o'=o):=by
  intro i a o' e1 e2
  by_cases hi:i<h.length
  ·rw[List.getElem?_append_left (by rw[w.len];exact hi)] at e1
   rw[List.getElem?_append_left hi] at e2
   exact .inl ⟨hi,e1,e2⟩
  ·have hl:=(List.getElem?_eq_some_iff.mp e2).1
   have e:i=h.length:=by simp at hl;omega
   subst e
   rw[<- w.len] at e1
   simp at e1 e2
   exact .inr ⟨rfl,e1.symm,e2.symm⟩
 have fr:∀(i:Nat)(o:O),m[i]? =some p->h[i]? =some o->o.wr=true->False:=λi o e1 e2 hw=>by
  obtain⟨u,hu,_⟩:=(w.ob i o p e2 e1).some_of hw
  rw[hp] at hu;cases hu
 refine⟨⟨by simp[w.len],λi j a o1 o2 e1 e2 e3 e4 w1 w2=>?_,λn o' a e1 e2=>?_⟩,g⟩
 ·rcases cs i a o1 e1 e3 with ⟨_,x1,x2⟩|⟨z1,z2,z3⟩
  ·rcases cs j a o2 e2 e4 with ⟨_,y1,y2⟩|⟨y1,y2,y3⟩
   ·exact w.nd i j a o1 o2 x1 y1 x2 y2 w1 w2
   ·subst y2;exact(fr i o1 x1 x2 w1).elim
  ·rcases cs j a o2 e2 e4 with ⟨_,y1,y2⟩|⟨y1,y2,y3⟩
   ·subst z2;exact(fr j o2 y1 y2 w2).elim
   ·rw[z1,y1]
 ·rcases cs n a o' e2 e1 with ⟨_,x1,x2⟩|⟨z1,z2,z3⟩
  ·exact(w.ob n o' a x2 x1).keepNew hp g
  ·subst z2;subst z3
   exact r g
theorem Wd.objSet(w:Wd K m h H){n:Nat}{a:Addr}{o o':O}{u:HO}(e1:h[n]? =some o)(hw:o.wr=true)(e2:m[n]? =some a)(r:Gr K m H m (upd H a u)->RO K m (upd H a u) a o'):
 Wd K m (h.set n o') (upd H a u)/\Gr K m H m (upd H a u):=by
 obtain⟨v,ha,hv⟩:=(w.ob n o a e1 e2).some_of hw
 have g:Gr K m H m (upd H a u):=⟨λ_ _ e=>e,λ_ _ e=>SqT.upd_w ha hv e,λb o' u' e=>by rw[jzl (ne_of e ha (λz=>by subst z;cases hv))];exact e⟩
 have hn:n<h.length:=(List.getElem?_eq_some_iff.mp e1).1
 have cs:∀(i:Nat)(o1:O),(h.set n o')[i]? =some o1->(i=n/\o1=o')\/(i≠n/\h[i]? =some o1):=by
  intro i o1 e
  by_cases hi:n=i
  ·subst hi
   rw[List.getElem?_set_self hn] at e
   exact .inl ⟨rfl,(Option.some.inj e).symm⟩
  ·rw[List.getElem?_set_ne hi] at e
   exact .inr ⟨λz=>hi z.symm,e⟩
 refine⟨⟨by simp[w.len],λi j b o1 o2 x1 x2 x3 x4 w1 w2=>?_,λi o1 b x1 x2=>?_⟩,g⟩
 ·rcases cs i o1 x3 with ⟨z,_⟩|⟨ni,y3⟩
  ·subst z
   rcases cs j o2 x4 with ⟨z,_⟩|⟨nj,y4⟩
   ·exact z.symm
   ·exact w.nd i j b o o2 x1 x2 e1 y4 hw w2
  ·rcases cs j o2 x4 with ⟨z,_⟩|⟨nj,y4⟩
   ·subst z
    exact w.nd i j b o1 o x1 x2 y3 e1 w1 hw
   ·exact w.nd i j b o1 o2 x1 x2 y3 y4 w1 w2
 ·rcases cs i o1 x1 with ⟨z1,z2⟩|⟨ni,y⟩
  ·subst z1;subst z2
   rw[e2] at x2;cases x2
   exact r g
  ·refine(w.ob i o1 b y x2).keepSet ha hv (λhw1 z=>?_) g
   subst z
   exact ni (w.nd i n b _ _ x2 e2 y e1 hw1 hw)
theorem Wd.lstNew(w:Wd K m h H){p:Addr}{ds:List D}{vs:List V}(hp:H p=none)(r:RDs K m H ds vs):Wd K (m++ [p]) (h++ [.lst ds]) (upd H p (.lst vs))/\Gr K m H (m++ [p]) (upd H p (.lst vs)):=
 w.objNew hp λg=>⟨vs,jzy,r.mono g⟩
theorem Wd.lstSet(w:Wd K m h H){n:Nat}{a:Addr}{ds es:List D}{us:List V}(e1:h[n]? =some (.lst ds))(e2:m[n]? =some a)(r:RDs K m H es us):
 (∃vs,H a=some (.lst vs)/\RDs K m H ds vs)/\Wd K m (h.set n (.lst es)) (upd H a (.lst us))/\Gr K m H m (upd H a (.lst us)):=
 ⟨w.ob n _ a e1 e2,w.objSet e1 rfl e2 λg=>⟨us,jzy,r.mono g⟩⟩
def lstOf:O->Option (List D)
 |.lst l=>some l
 |.ro l=>some l
 |.dct _=>none
 |.dtt _=>none
 |.ded=>none
 |.dtf _=>none
 |.ins _ _=>none
def lstAt(h:Hh)(n:Nat):Option (List D):=(h[n]?).bind lstOf
theorem Wd.lst(w:Wd K m h H){n:Nat}{ds:List D}(e:lstAt h n=some ds):∃a vs,m[n]? =some a/\SqL K H a vs/\RDs K m H ds vs:=by
 unfold lstAt at e
 cases q:h[n]? with
 |none=>rw[q] at e;cases e
 |some o=>
  rw[q] at e
  obtain⟨a,e1,r⟩:=w.at q
  cases o with
  |lst l=>
   obtain rfl:l=ds:=Option.some.inj e
   obtain⟨vs,h1,h2⟩:=r
   exact⟨a,vs,e1,.of h1,h2⟩
  |ro l=>
   obtain rfl:l=ds:=Option.some.inj e
   obtain⟨vs,h1,h2⟩:=r
   exact⟨a,vs,e1,h1.sq,h2⟩
  |dct l=>cases e
  |dtt l=>cases e
  |ded=>cases e
  |dtf l=>cases e
  |ins c l=>cases e
end
end Ng
end
section
namespace Ng
open PySem PySem.Spec PyProof.Rows L2
abbrev nev:Value->Shared->Prop:=λ_ _=>False
theorem hokHide{P:Program}{w:World}{H:Hp}{h:Heap}{fs:List Addr}(x:HOk P w H h)(nf:∀b∈fs,H b=none):HOk P w H (PySem.W.hideAll h fs):=λa o e=>
 (x a o e).stay (λb u hb q=>PySem.W.hideAll_get _ q λhm=>by
   rcases hb with rfl|hb
   ·rw[nf _ hm] at e;cases e
   ·rw[nf _ hm] at hb;cases hb) (λ_ q=>q) λ_ _ q=>q
structure Fly (P:Program)(w:World)(l:List Env)(H:Hp)(s:Heap)(Hs:Hp)(e C:Addr)(h B:Heap):Prop where
 fl:∃t,Heap.FlyingW B l e (.ref C) (.ref t) h
 hok:HOk P w H B
 kb:∀b o,s.get? b=some o->Hs b=none->b ∉ frs l->B.get? b=some o
 kt:∀b o,s.get? b=some o->b ∉ frs l->∃o',B.get? b=some o'
def CX1(P:Program)(w:World):CXT:=λouter Hs s E e s'=>∃H' B ea C,e=.ref ea/\s'.os=s.os/\AllBare s'.gens/\Un (frs outer) [] Hs H' s.heap s'.heap/\Fly P w outer H' s.heap Hs ea C s'.heap B/\E e (some C) H'
theorem pass1{X:Cx}:Passes (CX1 X.prog X.w) X E0:=λ_ _ _ _ _ _ _ ⟨_,_,_,_,_,_,_,_,_,z⟩=>z.elim
theorem zzj{fs:List Addr}{H H':Hp}{h h1 h2 B:Heap}(u:Un fs [] H H' h h1)(kb:∀b o,h.get? b=some o->H b=none->b ∉ fs->B.get? b=some o)(kt:∀b o,h.get? b=some o->b ∉ fs->∃o',B.get? b=some o')
 (st:B.StaysIn h2)(up:h1.UpToSlots h2)(fr:∀b∈fs,∀o,h1.get? b=some o->∀vs,o.data≠ .fields vs):Un fs [] H H' h h2 where
 keep:=λb o e n hb _=>st b o (kb b o e n hb)
 slot:=λb o e n hb hx=>by
  obtain⟨sl,e1⟩:=u.slot b o e n hb hx
  obtain⟨sl',e2⟩:=up b _ e1 (fr b hb _ e1)
  exact⟨sl',e2⟩
 free:=u.free
 there:=λb o e hx=>by
  by_cases hb:b∈fs
  ·obtain⟨o1,e1⟩:=u.there b o e hx
   obtain⟨sl,e2⟩:=up b o1 e1 (fr b hb _ e1)
   exact⟨_,e2⟩
  ·obtain⟨o',e'⟩:=kt b o e hb
   exact⟨o',st b o' e'⟩
 tups:=u.tups
 frzs:=u.frzs
 tbls:=u.tbls
structure FlyX (X:Cx)(pins:List (Addr×Obj))(H:Hp)(e C:Addr)(s:Shared)(B:Heap):Prop where
 fly:Fly X.prog X.w X.stack H X.s₀.heap X.H₀ e C s.heap B
 pc1:∀p∈X.pn++pins,B.get? p.1=some p.2
 pc2:∀x c,X.env.cells.lookup x=some c->∃o,s.heap.get? c=some o/\B.get? c=some o
section
variable {X:Cx}{pins:List (Addr×Obj)}{σ:Sg}{H:Hp}{s:Shared}
theorem jz8(I:Inv X pins σ H s):∀b∈frs X.stack,∀o,s.heap.get? b=some o->∀vs,o.data≠ .fields vs:=λb hb o e vs q=>by
 obtain⟨_,o',e',nf⟩:=I.stack.mem hb
 rw[e] at e';cases e'
 exact nf vs q
theorem jz2(I:Inv X pins σ H s){b:Addr}{o:Obj}(e:X.s₀.heap.get? b=some o)(hb:b ∉ frs X.outer):b ∉ frs X.stack:=λhm=>by
 rcases List.mem_cons.mp (I.stkSub b hm) with z|z
 ·exact absurd (Heap.lt_size e) (by rw[z];exact Nat.not_lt.mpr I.ok.above)
 ·exact hb z
theorem arrive{E:XK}{e:Value}{s':Shared}(I:Inv X pins σ H s)(hx:X.ex=[])(hfn:∀x,X.fn x=true)(q:CX1 X.prog X.w X.stack H s E e s'):
 ∃H' ea C,e=.ref ea/\Inv X pins σ H' s'/\(∃B,FlyX X pins H' ea C s' B)/\E e (some C) H':=by
 obtain⟨H',B,ea,C,rfl,ho,hg,un,f,z⟩:=q
 obtain⟨t,fl⟩:=id f.fl
 refine⟨H',ea,C,rfl,I.call' (ch:= []) ho un (f.hok.kept fl.1) hg (λb z=>absurd z (by simp)),⟨B,⟨f.fl,f.hok,λb o e n hb=>?_,λb o e hb=>?_⟩,λp hp=>?_,λx c hc=>?_⟩,z⟩
 ·have hb':b ∉ X.fs:=λhm=>hb (by
   rcases I.ok.stk with z|z
   ·rw[z];exact hm
   ·rw[z.1]
    obtain⟨env,he,hf⟩:=List.mem_filterMap.mp (show b∈X.outer.filterMap (·.frame) from hm)
    exact List.mem_filterMap.mpr ⟨env,List.mem_cons_of_mem _ he,hf⟩)
  have hn:b ∉ X.ex:=by rw[hx];simp
  exact f.kb b o (I.base.keep b o e n hb' hn) (I.base.free b o e n hn) hb
 ·have hn:b ∉ X.ex:=by rw[hx];simp
  obtain⟨o1,e1⟩:=I.base.there b o e hn
  exact f.kt b o1 e1 hb
 ·obtain⟨e1,n,ne,nf,_⟩:=I.pin p hp
  exact f.kb _ _ e1 n λhm=>(List.mem_cons.mp (I.stkSub _ hm)).elim ne nf
 ·obtain⟨v,o,e1,_⟩:=I.cell x c hc
  have hb:B.get? c=some o:=f.kb _ _ e1 (I.freeC x c hc) λhm=>by
   rcases List.mem_cons.mp (I.stkSub _ hm) with z|z
   ·exact I.cne x c hc z
   ·obtain⟨_,o',e',_⟩:=I.ok.funs.mem z
    exact absurd (Heap.lt_size e') (Nat.not_lt.mpr (I.ok.cab x c (hfn x) hc))
  exact⟨o,fl.1 _ _ hb,hb⟩
theorem xza{e C:Addr}{B h':Heap}(I:Inv X pins σ H s)(F:FlyX X pins H e C s B)(hx:X.ex=[])(st:B.StaysIn h')(up:s.heap.UpToSlots h'):Inv X pins σ H {s with heap:=h'}:=by
 have base:Un X.fs [] X.H₀ H X.s₀.heap s.heap:=by have:=I.base;rw[hx] at this;exact this
 have sub:∀b∈X.fs,b∈frs X.stack:=λb hm=>by
  rcases I.ok.stk with z|z
  ·rw[z];exact hm
  ·rw[z.1]
   obtain⟨env,he,hf⟩:=List.mem_filterMap.mp (show b∈X.outer.filterMap (·.frame) from hm)
   exact List.mem_filterMap.mpr ⟨env,List.mem_cons_of_mem _ he,hf⟩
 have cell:∀x c v,X.env.cells.lookup x=some c->s.heap.IsCell c v->Heap.IsCell h' c v:=λx c v hc ⟨o,e1,d⟩=>by
  obtain⟨o',e2,e3⟩:=F.pc2 x c hc
  rw[e1] at e2;cases e2
  exact⟨o,st _ _ e3,d⟩
 refine⟨I.ok,I.os,I.bare,?_,?_,λx c hc=>?_,I.free,I.freeC,λp hp=>?_,F.fly.hok.kept st,I.len⟩
 ·rw[hx]
  exact zzj base (λb o e1 n hb=>F.fly.kb b o e1 n (jz2 I e1 hb)) (λb o e1 hb=>F.fly.kt b o e1 (jz2 I e1 hb)) st up λb hb o e1=>jz8 I b (sub b hb) o e1
 ·obtain⟨m,hn,hl⟩:=I.loc
  refine⟨m,up.ns hn,λi x v e1 e2 e3=>?_⟩
  obtain⟨u,ru,L⟩:=hl i x v e1 e2 e3
  refine⟨u,ru,?_⟩
  rcases L with L|⟨k,c,hc,ic⟩
  ·exact .inl L
  ·exact .inr ⟨k,c,hc,cell x c _ hc ic⟩
 ·obtain⟨v,ic⟩:=I.cell x c hc
  exact⟨v,cell x c v hc ic⟩
 ·exact⟨st _ _ (F.pc1 p hp),(I.pin p hp).2⟩
theorem FlyX.step{e C:Addr}{B h':Heap}(F:FlyX X pins H e C s B)(fl:∃t,Heap.FlyingW B X.stack e (.ref C) (.ref t) h'):FlyX X pins H e C {s with heap:=h'} B:=
 ⟨⟨fl,F.fly.hok,F.fly.kb,F.fly.kt⟩,F.pc1,λx c hc=>by
   obtain⟨o,_,e2⟩:=F.pc2 x c hc
   obtain⟨t,fl⟩:=fl
   exact⟨o,fl.1 _ _ e2,e2⟩⟩
end
theorem qz1{P:Program}{w:World}{H:Hp}{h:Heap}{a:Addr}:∀{o:HO},ObjOk P w H h a o->∃u,h.get? a=some u:=by
 intro o x
 cases o with
 |lst xs=>obtain⟨_,_,_,_,e⟩:=x;exact⟨_,e⟩
 |tup xs=>obtain⟨_,_,_,o,e,_⟩:=x;exact⟨_,e⟩
 |dK kvs=>obtain⟨_,_,_,_,o,_,_,e,_⟩:=x;exact⟨_,e⟩
 |dT kvs=>obtain⟨_,_,_,_,o,_,_,e,_⟩:=x;exact⟨_,e⟩
 |set S n=>obtain⟨o,_,_,_,e,_⟩:=x;exact⟨_,e⟩
 |ins C dx fs=>obtain⟨_,_,_,e,_⟩:=x;exact⟨_,e⟩
 |own y=>obtain⟨_,e⟩:=x;exact⟨_,e⟩
 |xd fs=>obtain⟨_,⟨_,_,_,e,_⟩,_⟩:=x;exact⟨_,e⟩
 |rng lo hi=>obtain⟨_,_,_,e⟩:=x;exact⟨_,e⟩
 |frz ob u=>obtain⟨e,_⟩:=x;exact⟨_,e⟩
 |tbl ps=>exact⟨_,x⟩
 |met f y=>exact⟨_,x⟩
 |ext φ=>obtain⟨_,⟨_,e⟩,_⟩:=x;exact⟨_,e⟩
structure XX (X:Cx)(ca:Nat->Addr)(W:Nat->Sg->Hp->Prop)(rz:Bool):Prop where
 ex:X.ex=[]
 stk:X.stack=X.env::X.outer/\X.env.frame=some X.env.locals
 fly:∀(pins:List (Addr×Obj))(σ:Sg)(H:Hp)(s:Shared)(e:Addr)(c:Nat),Inv X pins σ H s->(∃B,FlyX X pins H e (ca c) s B)->W c σ H->X.xe (.ref e) s
 made:rz=true->∀(pins:List (Addr×Obj))(σ:Sg)(H:Hp)(s:Shared)(h':Heap)(e:Addr)(c:Nat)(args:List Value),Inv X pins σ H s->Heap.MadeExcOf s.heap h' e (.ref (ca c)) args->W c σ H->X.xe (.ref e) {s with heap:=h'}
section
variable {P:Program}{w:World}{K:PySem.W.Frag}{mg:Str->Option Value}{base:Heap}{N:List Str}{qual:Str}{scope:Scope}{f:Addr}{cd:Value}{A:Around}{outer:List Env}{s₀:Shared}{H₀:Hp}{E:XK}{ca:Nat->Addr}
theorem fnXX:XX (cxOf (CX1 P w) P w K mg base N qual scope f cd A outer s₀ H₀ E) ca (λc _ H=>∀v,E v (some (ca c)) H) true where
 ex:=rfl
 stk:=⟨rfl,rfl⟩
 fly:=λpins σ H s e c I ⟨B,F⟩ hW=>by
  have F:=F.fly
  obtain⟨t,fl⟩:=id F.fl
  refine wpAny_leaves_onW (L:=s₀.heap.objs.size) I.ok.frames rfl fl λh' fl' up=>?_
  refine⟨H,B,e,ca c,rfl,I.os,I.bare,?_,⟨⟨t,fl'⟩,F.hok,λb o e1 n hb=>F.kb b o e1 n (jz2 I e1 hb),λb o e1 hb=>F.kt b o e1 (jz2 I e1 hb)⟩,hW _⟩
  exact zzj (h1:=s.heap) I.base (λb o e1 n hb=>F.kb b o e1 n (jz2 I e1 hb)) (λb o e1 hb=>F.kt b o e1 (jz2 I e1 hb)) fl'.1 up λb hb o e1=>jz8 I b (List.mem_cons_of_mem _ hb) o e1
 made:=λ_ pins σ H s h1 e c args I hx hW=>by
  have hin:∀env∈(cxOf (CX1 P w) P w K mg base N qual scope f cd A outer s₀ H₀ E).stack,∀b,env.frame=some b->b∈frs (cxOf (CX1 P w) P w K mg base N qual scope f cd A outer s₀ H₀ E).stack:=λenv he b hb=>List.mem_filterMap.mpr ⟨env,he,hb⟩
  refine wpAny_leaves_madeW (s:={s with heap:=h1}) (h:=s.heap) (base:=PySem.W.hideAll s.heap (frs (cxOf (CX1 P w) P w K mg base N qual scope f cd A outer s₀ H₀ E).stack)) (L:=s₀.heap.objs.size) I.ok.frames rfl (λb o q=>PySem.W.of_hideAll _ q) (PySem.W.funFrames_hide I.stack hin) hx λh' t fl' _ _ up=>?_
  have kb:∀b o,s₀.heap.get? b=some o->H₀ b=none->b ∉ frs outer->(PySem.W.hideAll s.heap (frs (cxOf (CX1 P w) P w K mg base N qual scope f cd A outer s₀ H₀ E).stack)).get? b=some o:=λb o e1 n hb=>
   PySem.W.hideAll_get _ (I.base.keep b o e1 n hb (by simp[cxOf])) (jz2 I e1 hb)
  have kt:∀b o,s₀.heap.get? b=some o->b ∉ frs outer->∃o',(PySem.W.hideAll s.heap (frs (cxOf (CX1 P w) P w K mg base N qual scope f cd A outer s₀ H₀ E).stack)).get? b=some o':=λb o e1 hb=>by
   obtain⟨o1,e2⟩:=I.base.there b o e1 (by simp[cxOf])
   exact⟨o1,PySem.W.hideAll_get _ e2 (jz2 I e1 hb)⟩
  refine⟨H,_,e,ca c,rfl,I.os,I.bare,?_,⟨⟨t,fl'⟩,hokHide I.hok I.stkFree,kb,kt⟩,hW _⟩
  have u1:Un (frs outer) [] H₀ H s₀.heap h1:=by
   refine⟨λb o e1 n hb hn=>hx.keeps _ _ (I.base.keep b o e1 n hb hn),λb o e1 n hb hn=>?_,I.base.free,λb o e1 hn=>?_,I.base.tups,I.base.frzs,I.base.tbls⟩
   ·obtain⟨sl,q⟩:=I.base.slot b o e1 n hb hn
    exact⟨sl,hx.keeps _ _ q⟩
   ·obtain⟨o1,q⟩:=I.base.there b o e1 hn
    exact⟨o1,hx.keeps _ _ q⟩
  refine zzj (h1:=h1) u1 kb kt fl'.1 up λb hb o e1=>?_
  obtain⟨_,o',e',nf⟩:=I.stack.mem (List.mem_cons_of_mem _ hb)
  have e2:=hx.keeps _ _ e'
  rw[e1] at e2;cases e2
  exact nf
end
end Ng
end
section
namespace Ng
open PySem PySem.Spec PyProof.Rows L2
theorem kip{prog:Program}{w:World}{A:Around}{E:Value->Shared->Prop}{s:Shared}{Q:Value->Shared->Prop}{K:PySem.W.Frag}{x t c:Value}(LT:PySem.W.Looks (model prog w) s.heap (typeOf x) t)(KX:K.In s.heap)(e:PySem.W.kitOne K t c=some true)(hx:x≠ .builtin "__main__.__loader__#opaque")(h:Q (.bool true) s):
 wpAny (model prog w) A (call (.builtin "isinstance") [x,c]) Q E s:=by
 refine call_isinstance_of ?_ hx
 obtain⟨hp,g,d,tk,os⟩:=s
 unfold PySem.W.kitOne at e
 unfold Builtin.«isinstance.nested»
 refine wpAny_bind (LT.at ?_)
 by_cases q:(t==c)=true
 ·rw[if_pos q]
  first
   |exact wpAny_bind (wpAny_rule (wpAny_pure h))
   |exact wpAny_bind (wpAny_rule h)
 ·rw[if_neg q] at e
  rw[if_neg q]
  obtain⟨l1,l2,l3⟩:=PySem.W.kit_cls (M:=model prog w) KX e
  have l4:PySem.W.Looks (model prog w) hp (isInstance x c) true:=LT.andThen l3
  refine wpAny_bind (l1.at ?_)
  rw[if_pos (by decide)]
  k_delta "plainIsInstance"
  refine wpAny_bind (wpAny_bind (l2.at ?_))
  simp only[Bool.not_true,Bool.false_eq_true,if_false]
  refine wpAny_bind (l4.at ?_)
  first
   |exact wpAny_pure (wpAny_pure h)
   |(simp only[if_true];first |exact wpAny_pure (wpAny_pure h)|exact wpAny_pure h|exact wpAny_bind (wpAny_pure (wpAny_pure h)))
def hX(X:Cx)(e:Addr)(oe:Obj):Cx:={X with A:=X.A.mark (some (.ref e)),calm:=false,pn:=(e,oe)::X.pn,xe:=nev}
section
variable {X:Cx}{pins:List (Addr×Obj)}{σ:Sg}{H:Hp}{s:Shared}{e C:Addr}{B:Heap}{oe:Obj}
theorem hX_in(I:Inv X pins σ H s)(pin:s.heap.get? e=some oe/\H e=none/\e≠X.env.locals/\e ∉ X.fs/\∀v,oe.data≠ .cell v):Inv (hX X e oe) pins σ H s:=
 ⟨⟨I.ok.mod,I.ok.kind,I.ok.glob,I.ok.blt,I.ok.above,I.ok.inj,I.ok.has,I.ok.cab,(λz=>by cases z),I.ok.frames,I.ok.stk,I.ok.exf,I.ok.bs,I.ok.bsz,I.ok.noex,I.ok.exfs,I.ok.funs,I.ok.frf⟩,I.os,I.bare,I.base,I.loc,I.cell,I.free,I.freeC,λp hp=>by
   rcases List.mem_cons.mp (show p∈(e,oe)::(X.pn++pins) from hp) with rfl|z
   ·exact pin
   ·exact I.pin p z,I.hok,I.len⟩
theorem hX_out(ok:X.Ok)(I:Inv (hX X e oe) pins σ H s):Inv X pins σ H s:=
 ⟨ok,I.os,I.bare,I.base,I.loc,I.cell,I.free,I.freeC,λp hp=>I.pin p (List.mem_cons_of_mem _ hp),I.hok,I.len⟩
theorem zzP{M:Model}{A:Around}{E:Value->Shared->Prop}{j:Nat}{n:Str}{pos:Pos}{Q:Unit->Shared->Prop}(I:Inv X pins σ H s)(hN:X.N.Nodup)(hj:X.N[j]? =some n)(hl:X.env.scope.names.lookup n=some .local)
 (h:∀s',Inv X pins (σ.set j none) H s'->Q () s'):wpAny M A (do bindName X.env n .none;unbindBehindTheSuite X.env n pos) Q E s:=by
 obtain⟨m,hn,hlk⟩:=id I.loc
 have hcls:(X.env.scope.kind== .class||(X.env.scope.kind== .module&&X.env.locals != X.env.globals))=false:=by rw[I.ok.kind];rfl
 refine wpAny_nameGoes_keeps hl hn hcls λh' v hn' hs=>h _ ?_
 obtain⟨oL,_,_,hoL,_⟩:=id hn
 have ne:∀b o,X.s₀.heap.get? b=some o->b≠X.env.locals:=λb o q=>Nat.ne_of_lt (Nat.lt_of_lt_of_le (Heap.lt_size q) I.ok.above)
 refine⟨I.ok,I.os,I.bare,⟨λb o q nn hb hx=>?_,λb o q nn hb hx=>?_,I.base.free,λb o q hx=>?_,I.base.tups,I.base.frzs,I.base.tbls⟩,⟨_,hn',λi y v' e1 e2 e3=>?_⟩,λy c q=>?_,I.free,I.freeC,λp hp=>?_,λb ob q=>?_,by simpa using I.len⟩
 ·exact(hs.2 b (ne b o q)).trans (I.base.keep b o q nn hb hx)
 ·obtain⟨sl,q1⟩:=I.base.slot b o q nn hb hx
  exact⟨sl,(hs.2 b (ne b o q)).trans q1⟩
 ·obtain⟨o',q1⟩:=I.base.there b o q hx
  exact⟨o',(hs.2 b (ne b o q)).trans q1⟩
 ·have hij:i≠j:=λz=>by
   subst z
   by_cases hi:i<σ.length
   ·rw[List.getElem?_set_self hi] at e2;cases e2
   ·rw[List.getElem?_eq_none (by simpa using hi)] at e2;cases e2
  rw[List.getElem?_set_ne (Ne.symm hij)] at e2
  obtain⟨u',r',L⟩:=hlk i y v' e1 e2 e3
  refine⟨u',r',?_⟩
  rcases L with ⟨k,q⟩|⟨k,c,hc,z⟩
  ·have:y≠n:=λz=>hij (wzo hN e1 (z ▸ hj))
   exact .inl ⟨k,by simp[this,q]⟩
  ·exact .inr ⟨k,c,hc,z.sameBut hs (I.cne y c hc)⟩
 ·obtain⟨w',z⟩:=I.cell y c q
  exact⟨w',z.sameBut hs (I.cne y c q)⟩
 ·obtain⟨q,nn,ne',nf,d⟩:=I.pin p hp
  exact⟨(hs.2 p.1 ne').trans q,nn,ne',nf,d⟩
 ·refine(I.hok b ob q).stay (λc w' hc q'=>(hs.2 c ?_).trans q') (λ_ z=>z) λ_ _ z=>z
  rintro rfl
  rcases hc with rfl|hc
  ·rw[I.free] at q;cases q
  ·rw[I.free] at hc;cases hc
theorem land{g:Str}{Gc:Addr}{gp hp:Pos}{nm:Option Str}{b0:PySem.Stmt}{suite:List PySem.Stmt}{rest:List ExceptHandler}{Q:Flow->Shared->Prop}(I:Inv X pins σ H s)(F:FlyX X pins H e C s B)(hx:X.ex=[])(stk:X.stack=X.env::X.outer/\X.env.frame=some X.env.locals)
 (hg:Gl X g)(hm:X.mg g=some (.ref Gc))(hd:(g==("__debug__":Str))=false)(hxm:PySem.W.exmOne X.K (.ref C) (.ref Gc)=some true)
 (k:∀s5,Inv X pins σ H s5->FlyX X pins H e C s5 B->codeAny (model X.prog X.w) (X.A.mark (some (.ref e))) (.handlers (.ref e) [.ExceptHandler none nm (b0::suite) hp] X.env) (λr s6=>match r with
   |.ok f=>(match nm with
    |none=>Q f s6
    |some n=>wpAny (model X.prog X.w) X.A (do bindName X.env n .none;unbindBehindTheSuite X.env n hp) (λ_ s7=>Q f s7) X.xe s6)
   |.error x=>cameBackBy (model X.prog X.w) X.A X.env X.xe x s6) s5):
 wpAny (model X.prog X.w) X.A (noteFrame (.ref e) X.env) (λ_ s2=>wpAny (model X.prog X.w) X.A (setFlight (.ref e) none) (λ_ s3=>wpAny (model X.prog X.w) X.A (handleBy (.ref e) X.env (.ExceptHandler (some (.Name g gp)) nm (b0::suite) hp::rest)) Q X.xe s3) X.xe s2) X.xe s:=by
 obtain⟨t,fl⟩:=id F.fly.fl
 rw[stk.1] at fl
 refine wpAny_looks_onW (by rw[I.ok.frames,stk.1]) stk.2 fl λh1 held up1=>?_
 refine wpAny_landsW held λh2 fl2 up2=>?_
 have I2:Inv X pins σ H {s with heap:=h2}:=xza I F hx fl2.1 (up1.trans up2)
 have F2:FlyX X pins H e C {s with heap:=h2} B:=F.step ⟨t,by rw[stk.1];exact fl2⟩
 obtain⟨oe,vs,he,hc,hdt,_⟩:=fl2.first
 have LT:PySem.W.Looks (model X.prog X.w) h2 (typeOf (.ref e)) (.ref C):=hc ▸ (PySem.W.Looks.ld he).andThen .now
 refine wpAny_handleBy_cons (codeAny_handlers_test ?_) (by intro q;cases q)
 have glob:∀(Q':Value->Shared->Prop)(E':Value->Shared->Prop),Q' (.ref Gc) {s with heap:=h2}->wpAny (model X.prog X.w) (X.A.mark (some (.ref e))) (eval (.Name g gp) X.env) Q' E' {s with heap:=h2}:=λQ' E' q=>
  Calls.Name_function_global I2.ok.kind hg (Calls.loadGlobal_global (by rw[I2.ok.glob];exact I2.mod.glob.keeps I2.bk) hm q) hd
 refine glob _ _ ?_
 refine(PySem.W.exm_one (M:=model X.prog X.w) I2.kIn LT hxm).at ?_
 exact k _ I2 F2
theorem xzc(I:Inv X pins σ H s)(F:FlyX X pins H e C s B)(stk:X.stack=X.env::X.outer/\X.env.frame=some X.env.locals):∃oe,oe.cls=.ref C/\s.heap.get? e=some oe/\H e=none/\e≠X.env.locals/\e ∉ X.fs/\∀v,oe.data≠ .cell v:=by
 obtain⟨t,fl⟩:=id F.fly.fl
 obtain⟨oe,vs,he,hc,hdt,_⟩:=fl.first
 have nst:e ∉ frs X.stack:=λhm=>jz8 I e hm oe he vs hdt
 refine⟨oe,hc,he,?_,λz=>nst ?_,λz=>nst ?_,λv q=>by rw[hdt] at q;cases q⟩
 ·cases q:H e with
  |none=>rfl
  |some u=>
   obtain⟨o,z⟩:=qz1 (F.fly.hok e u q)
   rw[fl.2.1] at z;cases z
 ·rw[stk.1,z]
  exact List.mem_filterMap.mpr ⟨X.env,List.mem_cons_self,stk.2⟩
 ·rw[stk.1]
  obtain⟨env,he',hf⟩:=List.mem_filterMap.mp (show e∈X.outer.filterMap (·.frame) from z)
  exact List.mem_filterMap.mpr ⟨env,List.mem_cons_of_mem _ he',hf⟩
theorem suite0{hp:Pos}{b0:PySem.Stmt}{suite:List PySem.Stmt}{R:Result->Shared->Prop}(I:Inv X pins σ H s)(F:FlyX X pins H e C s B)(hx:X.ex=[])(stk:X.stack=X.env::X.outer/\X.env.frame=some X.env.locals)
 (k:∀oe s6,oe.cls=.ref C->Inv (hX X e oe) pins σ H s6->wpAny (model X.prog X.w) (X.A.mark (some (.ref e))) (execs (b0::suite) X.env) (λf s7=>R (.ok f) s7) nev s6):
 codeAny (model X.prog X.w) (X.A.mark (some (.ref e))) (.handlers (.ref e) [.ExceptHandler none none (b0::suite) hp] X.env) R s:=by
 obtain⟨t,fl⟩:=id F.fly.fl
 refine codeAny_handlers_suite (lands_againW fl λh6 fl6 up6=>?_)
 have I6:Inv X pins σ H {s with heap:=h6}:=xza I F hx fl6.1 up6
 have F6:FlyX X pins H e C {s with heap:=h6} B:=F.step ⟨t,fl6⟩
 obtain⟨oe,hc,pin⟩:=xzc I6 F6 stk
 exact wpAny_mono (k oe _ hc (hX_in I6 pin)) (λ_ _ q=>q) λ_ _ q=>q.elim
theorem suiteA{hp:Pos}{n:Str}{j:Nat}{b0:PySem.Stmt}{suite:List PySem.Stmt}{R:Result->Shared->Prop}(I:Inv X pins σ H s)(F:FlyX X pins H e C s B)(hx:X.ex=[])(stk:X.stack=X.env::X.outer/\X.env.frame=some X.env.locals)
 (hN:X.N.Nodup)(hj:X.N[j]? =some n)(hl:X.env.scope.names.lookup n=some .local)
 (k:∀oe s6,oe.cls=.ref C->Inv (hX X e oe) pins (σ.set j (some (.ref e))) H s6->wpAny (model X.prog X.w) (X.A.mark (some (.ref e))) (execs (b0::suite) X.env) (λf s7=>R (.ok f) s7) nev s6):
 codeAny (model X.prog X.w) (X.A.mark (some (.ref e))) (.handlers (.ref e) [.ExceptHandler none (some n) (b0::suite) hp] X.env) R s:=by
 obtain⟨t,fl⟩:=id F.fly.fl
 refine codeAny_handlers_suite_as (lands_againW fl λh6 fl6 up6=>?_)
 have I6:Inv X pins σ H {s with heap:=h6}:=xza I F hx fl6.1 up6
 have F6:FlyX X pins H e C {s with heap:=h6} B:=F.step ⟨t,fl6⟩
 obtain⟨oe,hc,pin⟩:=xzc I6 F6 stk
 refine wzh (X:=hX X e oe) (v:=.ref e) (hX_in I6 pin) hN hj (.inl hl) rfl (λs7 I7=>?_) (.inr hl)
 exact wpAny_mono (k oe _ hc I7) (λ_ _ q=>q) λ_ _ q=>q.elim
end
end Ng
end
section
namespace Ng
open PySem PySem.Spec PyProof.Rows L2 PySem.W Builtin Builtin.ObjectAttr Builtin.Getset_descriptor
structure ExcN (K:PySem.W.Frag)(C:Addr):Prop where
 ga:findIn K (.ref C) "__getattribute__"=some (some (.builtin "BaseException.__getattribute__"))
 gt:findIn K (.ref C) "__getattr__"=some none
 cl:findIn K (.ref C) "__class__"=some (some (.builtin "object.__class__"))
 gg:specialIn K (.builtin "object.__class__") "__get__"=some (some (.builtin "getset_descriptor.__get__"))
 tk:takesIn K (.builtin "object.__class__")=some true
 mr:mroIn K C (.type "object")=some true
 mb:mroIn K C (.type "BaseException")=some true
 ty:∃l n,excIn K C l n=true
section
variable {prog:Program}{w:World}{A:Around}{E:Value->Shared->Prop}{s:Shared}{K:PySem.W.Frag}{x C:Addr}{ox:Obj}
theorem exc_find{M:Model}{h:Heap}(KX:K.In h)(n:ExcN K C):Looks M h (find (.ref x) (.ref C) "__class__") (.bind (.builtin "getset_descriptor.__get__") (.builtin "object.__class__")):=by
 have T1:=looks_findIn (M:=M) KX n.cl
 have T2:Looks M h (getOf (some (.builtin "object.__class__"))) (some (.builtin "getset_descriptor.__get__")):=looks_specialIn KX n.gg
 have T3:=looks_takesIn (M:=M) KX n.tk
 exact T1.andThen (T2.andThen ((show Looks M h (dataDescriptor? (some (.builtin "object.__class__")) (some (.builtin "getset_descriptor.__get__"))) (some (.builtin "getset_descriptor.__get__",.builtin "object.__class__")) from T3.andThen .now).andThen (Looks.tag .now)))
theorem xzd{Q:Option Value->Shared->Prop}(KX:K.In s.heap)(he:s.heap.get? x=some ox)(hc:ox.cls=.ref C)(n:ExcN K C)(q:Q (some (.ref C)) {s with toks:=s.toks+1}):wpAny (model prog w) A (getAttr? (.ref x) "__class__") Q E s:=by
 obtain⟨hp,gn,dr,tk,os⟩:=s
 have T0:Looks (model prog w) hp (typeOf (.ref x)) (.ref C):=hc ▸ (Looks.ld he).andThen .now
 have T1:=looks_findIn (M:=model prog w) KX n.ga
 have T2:=exc_find (M:=model prog w) (x:=x) KX n
 have T3:=looks_findIn (M:=model prog w) KX n.gt
 have T4:=looks_mroIn (M:=model prog w) KX n.mr
 have T5:=looks_mroIn (M:=model prog w) KX n.mb
 unfold getAttr? getAttrBy? getAttrBy
 refine wpAny_bind (wpAny_mkText (wpAny_bind (wpAny_attempt (wpAny_holding (wpAny_bind (T0.at (wpAny_bind (T1.at ?_))))))))
 show wpAny _ _ (getAttrByItsOwn (.ref x) _ (.ref C) (.builtin "BaseException.__getattribute__") false false) _ _ _
 unfold getAttrByItsOwn hookBefore callGetattribute boundAndCalled
 refine wpAny_bind (T3.at ?_)
 refine wpAny_bind (wpAny_attempt (wpAny_holding ?_))
 show wpAny _ _ (bindSpecial (.builtin "BaseException.__getattribute__") (.ref x)>>=_) _ _ _
 refine wpAny_bind (wpAny_of_eq (F.excAttr_ValueError.ga.bind _) ?_)
 refine wpAny_call (codeAny_call_builtin F.excAttr_ValueError.ga.plain F.entry_bexc_ga ?_)
 have hk:builtinKind "BaseException.__getattribute__"=some .slot:=by decide+kernel
 have hsplit:splitId "BaseException.__getattribute__"=some ("BaseException","__getattribute__"):=by decide+kernel
 have ha:=F.args_bexc_ga (.ref x) (.str "__class__" tk)
 simp only[checkBuiltinCall,hk,hsplit]
 unfold isInstance
 repeat (first |(with_reducible refine wpAny_call ?_)|lk)
 refine codeAny_call_builtin KF.slot_gs.plain KF.entry_gs (KF.slot_gs.check _ _ _ _ _ _ _ _ KF.type_class (KF.args_gs _ _ _) ?_)
 unfold Builtin.«getset_descriptor.__get__» descrGet
 rw[dga_obj]
 refine wpAny_bind (wpAny_pure ?_)
 unfold descrGetter descrCheckInstance descrNameAndClass isInstance
 simp only[KF.owner_class]
 repeat lk
 refine⟨Code.quiet_builtin _ (by decide+kernel),codeAny_builtin KF.entry_class ?_⟩
 unfold Builtin.«object.__class__» shownTypeOf
 repeat lk
 exact q
theorem qz7{h:Heap}(KX:K.In h)(n:ExcN K C):∃cc cd' sl dd,h.get? C=some ⟨cc,dd,.cls cd',sl⟩:=by
 obtain⟨l,i,hcd⟩:=n.ty
 unfold excIn at hcd
 split at hcd
 ·rename_i dd cdt slots hob
  exact⟨_,_,_,_,KX _ _ hob⟩
 ·cases hcd
theorem kitx_exc(n:ExcN K C):KitX K (.ref x) (.ref C) (λh=>h.get? x=some ox/\ox.cls=.ref C) where
 ty:=λ_ _ _ p=>p.2 ▸ (Looks.ld p.1).andThen .now
 it:=λM h KX _=>by
  obtain⟨cc,cd,sl,dd,ho⟩:=qz7 KX n
  intro A1 Q1 E1 s1 kp z
  unfold isType loadHead
  exact wpAny_bind (wpAny_loadPart (kp _ _ ho) (wpAny_pure z))
 ne:=λh tp dd its m sl KX ht=>by
  obtain⟨cc,cd,sl,dd,ho⟩:=qz7 KX n
  refine Bool.eq_false_iff.mpr λz=>?_
  have ee:C=tp:=Value.ref.inj (beq_iff_eq.mp z)
  rw[ee,ht] at ho
  cases ho
 ca:=λKX p z=>xzd KX p.1 p.2 n z
end
end Ng
end
section
namespace Ng
open PySem PySem.W PyProof.Rows
def KOk(n:Nat)(L:Nat->Nat->Bool){α:Type}:KasT α->(α->Prop)->Prop
 |.ret a,Q=>Q a
 |.ask i j k,Q=>i<n/\j<n/\i≠j/\KOk n L (k (L i j)) Q
section
variable {n:Nat}{L:Nat->Nat->Bool}{α β:Type}
theorem KOk.mono:∀{t:KasT α}{Q Q':α->Prop},KOk n L t Q->(∀a,Q a->Q' a)->KOk n L t Q'
 |.ret a,_,_,h,c=>c a h
 |.ask i j k,_,_,h,c=>⟨h.1,h.2.1,h.2.2.1,KOk.mono (t:=k (L i j)) h.2.2.2 c⟩
theorem KOk.bind{f:α->KasT β}{Q:β->Prop}:∀{t:KasT α},KOk n L t (λa=>KOk n L (f a) Q)->KOk n L (t.bind f) Q
 |.ret a,h=>h
 |.ask i j k,h=>⟨h.1,h.2.1,h.2.2.1,KOk.bind (t:=k (L i j)) h.2.2.2⟩
theorem KOk.wp{cmp:Nat->Nat->(Bool->Shared->Prop)->Shared->Prop}{s:Shared}(hc:∀i j (C:Bool->Shared->Prop),i<n->j<n->i≠j->C (L i j) s->cmp i j C s){R:α->Shared->Prop}:∀{t:KasT α}{Q:α->Prop},KOk n L t Q->(∀a,Q a->R a s)->t.kasWp cmp R s
 |.ret a,_,h,c=>c a h
 |.ask i j k,_,h,c=>hc i j _ h.1 h.2.1 h.2.2.1 (KOk.wp hc (t:=k (L i j)) h.2.2.2 c)
end
abbrev gD(p:Array Nat)(i:Nat):Nat:=p.getD i 0
structure SO (n:Nat)(L:Nat->Nat->Bool):Prop where
 tot:∀i j,i<n->j<n->i≠j->L i j=true\/L j i=true
 tr:∀i j k,i<n->j<n->k<n->L i j=true->L j k=true->L i k=true
def PV(n:Nat)(p:Array Nat):Prop:=p.toList.Perm (List.range n)
def Sd(L:Nat->Nat->Bool)(p:Array Nat)(k:Nat):Prop:=∀i j,i<j->j<k->L (gD p i) (gD p j)=true
section
variable {n:Nat}{L:Nat->Nat->Bool}{p:Array Nat}
theorem PV.size(h:PV n p):p.size=n:=by
 have:=h.length_eq
 simpa using this
theorem gD_eq{i:Nat}(h:i<p.size):gD p i=p[i]:=by simp[gD,Array.getD,h]
theorem PV.lt(h:PV n p){i:Nat}(hi:i<n):gD p i<n:=by
 have hz:=h.size
 rw[gD_eq (by omega)]
 have:p[i]∈p.toList:=by simp
 exact List.mem_range.mp (h.mem_iff.mp this)
theorem PV.ne(h:PV n p){i j:Nat}(hi:i<n)(hj:j<n)(hij:i≠j):gD p i≠gD p j:=by
 have hz:=h.size
 have nd:p.toList.Nodup:=h.nodup_iff.mpr List.nodup_range
 rw[gD_eq (by omega),gD_eq (by omega)]
 intro e
 rw[List.Nodup,List.pairwise_iff_getElem] at nd
 rcases Nat.lt_or_gt_of_ne hij with z|z
 ·exact nd i j (by simpa using(by omega:i<p.size)) (by simpa using(by omega:j<p.size)) z (by simpa using e)
 ·exact nd j i (by simpa using(by omega:j<p.size)) (by simpa using(by omega:i<p.size)) z (by simpa using e.symm)
theorem PV.perm{q:Array Nat}(h:PV n p)(e:q.Perm p):PV n q:=(Array.perm_iff_toList_perm.mp e).trans h
theorem so_le(so:SO n L)(h:PV n p){i j:Nat}(hi:i<n)(hj:j<n)(hij:i≠j)(e:L (gD p j) (gD p i)=false):L (gD p i) (gD p j)=true:=by
 rcases so.tot _ _ (h.lt hi) (h.lt hj) (h.ne hi hj hij) with z|z
 ·exact z
 ·rw[e] at z;cases z
theorem Sd.snoc(so:SO n L)(h:PV n p){k:Nat}(hk:k<n)(h1:1<=k)(s:Sd L p k)(e:L (gD p (k-1)) (gD p k)=true):Sd L p (k+1):=λi j hij hj=>by
 by_cases z:j<k
 ·exact s i j hij z
 ·have ej:j=k:=by omega
  subst ej
  by_cases y:i=j-1
  ·subst y;exact e
  ·exact so.tr _ _ _ (h.lt (by omega)) (h.lt (by omega)) (h.lt hk) (s i (j-1) (by omega) (by omega)) e
theorem xzF(so:SO n L)(h:PV n p):∀(f k:Nat),1<=k->k+f<=n->Sd L p k->KOk n L (kas_asc p f k) (λm=>k<=m/\m<=k+f/\Sd L p m/\(m<k+f->L (gD p m) (gD p (m-1))=true))
 |0,k,h1,h2,s=>⟨Nat.le_refl _,Nat.le_refl _,s,λz=>absurd z (Nat.lt_irrefl _)⟩
 |f+1,k,h1,h2,s=>by
  refine⟨h.lt (by omega),h.lt (by omega),h.ne (by omega) (by omega) (by omega),?_⟩
  cases e:L (gD p k) (gD p (k-1)) with
  |true=>exact⟨Nat.le_refl _,by omega,s,λ_=>e⟩
  |false=>
   refine KOk.mono (xzF so h f (k+1) (by omega) (by omega) (s.snoc so h (by omega) h1 (so_le so h (by omega) (by omega) (by omega) e))) λm ⟨a,b,c,d⟩=>⟨by omega,by omega,c,λz=>d (by omega)⟩
def Ds(L:Nat->Nat->Bool)(p:Array Nat)(k:Nat):Prop:=∀i j,i<j->j<k->L (gD p j) (gD p i)=true
theorem Ds.snoc(so:SO n L)(h:PV n p){k:Nat}(hk:k<n)(h1:1<=k)(s:Ds L p k)(e:L (gD p k) (gD p (k-1))=true):Ds L p (k+1):=λi j hij hj=>by
 by_cases z:j<k
 ·exact s i j hij z
 ·have ej:j=k:=by omega
  subst ej
  by_cases y:i=j-1
  ·subst y;exact e
  ·exact so.tr _ _ _ (h.lt hk) (h.lt (by omega)) (h.lt (by omega)) e (s i (j-1) (by omega) (by omega))
theorem xzl(so:SO n L)(h:PV n p):∀(f k:Nat),1<=k->k+f<=n->Ds L p k->KOk n L (kas_desc f p k 0) (λr=>r.1=p/\r.2.2=0/\k<=r.2.1/\r.2.1<=k+f/\Ds L p r.2.1)
 |0,k,h1,h2,s=>⟨rfl,rfl,Nat.le_refl _,Nat.le_refl _,s⟩
 |f+1,k,h1,h2,s=>by
  refine⟨h.lt (by omega),h.lt (by omega),h.ne (by omega) (by omega) (by omega),?_⟩
  cases e:L (gD p k) (gD p (k-1)) with
  |true=>
   refine KOk.mono (xzl so h f (k+1) (by omega) (by omega) (s.snoc so h (by omega) h1 e)) λr ⟨a,b,c,d,x⟩=>⟨a,b,by omega,by omega,x⟩
  |false=>
   have e':=so_le so h (i:=k-1) (j:=k) (by omega) (by omega) (by omega) e
   refine⟨h.lt (by omega),h.lt (by omega),h.ne (by omega) (by omega) (by omega),?_⟩
   rw[show L (p.getD (k-1) 0) (p.getD k 0)=true from e']
   exact⟨rfl,rfl,Nat.le_refl _,Nat.le_add_right k (f+1),s⟩
theorem zzw{k:Nat}(hm:k<=p.size)(i:Nat):gD (kas_rev p 0 k) i=if i<k then gD p (k-1-i) else gD p i:=by
 have e:=getElem?_mirror_all (i:=0) (j:=k) hm i
 unfold kas_rev
 have g:∀(q:Array Nat)(i:Nat),gD q i=(q[i]?).getD 0:=λq i=>by simp[gD,Array.getD_eq_getD_getElem?]
 rw[g,e]
 by_cases hi:i<k
 ·rw[if_pos ⟨Nat.zero_le _,hi⟩,if_pos hi,g,show 0+k-1-i=k-1-i by omega]
 ·rw[if_neg (λz=>hi z.2),if_neg hi,g]
theorem tail_ok(so:SO n L)(h:PV n p){m:Nat}(h1:1<=m)(hm:m<=n)(s:Ds L p m):KOk n L (kas_tail3 m n p) (λr=>PV n r.2/\m<=r.1/\r.1<=n/\Sd L r.2 r.1):=by
 have hz:=h.size
 have hp:PV n (kas_rev p 0 m):=h.perm (mirror_perm _ _ _ _)
 have hs:Sd L (kas_rev p 0 m) m:=λi j hij hj=>by
  rw[zzw (by omega),zzw (by omega),if_pos (by omega),if_pos hj]
  exact s (m-1-j) (m-1-i) (by omega) (by omega)
 unfold kas_tail3
 exact KOk.bind (KOk.mono (xzF so hp (n-m) m h1 (by omega) hs) λr ⟨a,b,c,_⟩=>⟨hp,a,by omega,c⟩)
theorem count_ok(so:SO n L)(h:PV n p)(h2:2<=n):KOk n L (kas_count n p) (λr=>PV n r.2/\1<=r.1/\r.1<=n/\Sd L r.2 r.1):=by
 unfold kas_count
 refine KOk.bind (KOk.mono (xzF so h (n-1) 1 (Nat.le_refl _) (by omega) λi j a b=>by omega) λm ⟨a,b,c,d⟩=>?_)
 by_cases e:m=n
 ·subst e
  rw[if_pos (by simp)]
  exact⟨h,a,Nat.le_refl _,c⟩
 ·rw[if_neg (by simpa using e)]
  by_cases g:m>1
  ·rw[if_pos g]
   refine⟨h.lt (by omega),h.lt (by omega),h.ne (by omega) (by omega) (by omega),?_⟩
   have e2:L (p.getD 0 0) (p.getD (m-1) 0)=true:=c 0 (m-1) (by omega) (by omega)
   rw[e2]
   show KOk n L (if true=true then KasT.ret (m,p) else _) _
   rw[if_pos rfl]
   exact⟨h,a,(by show m<=n;omega),c⟩
  ·rw[if_neg g]
   have em:m=1:=by omega
   subst em
   unfold kas_descPart
   have d':=d (by omega)
   refine KOk.bind (KOk.mono (xzl so h (n-(1+1)) (1+1) (by omega) (by omega) λi j a b=>?_) λr ⟨x1,x2,x3,x4,x5⟩=>?_)
   ·have:j=1:=by omega
    have:i=0:=by omega
    subst_vars
    exact d'
   ·rw[x2,if_neg (by omega),x1]
    exact KOk.mono (tail_ok so h (by omega) (by omega) x5) λr ⟨y1,y2,y3,y4⟩=>⟨y1,by omega,y3,y4⟩
theorem wzm(so:SO n L)(h:PV n p){k:Nat}(hk:k<n)(s:Sd L p k):∀(f l r:Nat),l<=r->r<=k->r-l<=f->(∀i,i<l->L (gD p i) (gD p k)=true)->(∀i,r<=i->i<k->L (gD p k) (gD p i)=true)->
 KOk n L (kas_place p k f l r) (λm=>m<=k/\(∀i,i<m->L (gD p i) (gD p k)=true)/\∀i,m<=i->i<k->L (gD p k) (gD p i)=true)
 |0,l,r,h1,h2,h3,a,b=>by
  have:l=r:=by omega
  subst this
  exact⟨h2,a,b⟩
 |f+1,l,r,h1,h2,h3,a,b=>by
  unfold kas_place
  by_cases g:l ≥ r
  ·rw[if_pos g]
   have:l=r:=by omega
   subst this
   exact⟨h2,a,b⟩
  ·rw[if_neg g]
   have hm1:l<=(l+r)/2:=by omega
   have hm2:(l+r)/2<r:=by omega
   generalize (l+r)/2=m at hm1 hm2⊢
   have hmk:m<k:=Nat.lt_of_lt_of_le hm2 h2
   have hmn:=Nat.lt_trans hmk hk
   refine⟨h.lt hk,h.lt hmn,h.ne hk hmn (Nat.ne_of_gt hmk),?_⟩
   cases e:L (p.getD k 0) (p.getD m 0) with
   |true=>
    refine wzm so h hk s f l m hm1 (Nat.le_of_lt hmk) (by omega) a λi x y=>?_
    by_cases z:i=m
    ·subst z;exact e
    ·exact so.tr _ _ _ (h.lt hk) (h.lt hmn) (h.lt (Nat.lt_trans y hk)) e (s _ _ (Nat.lt_of_le_of_ne x (Ne.symm z)) y)
   |false=>
    have e':=so_le so h (i:=m) (j:=k) hmn hk (Nat.ne_of_lt hmk) e
    refine wzm so h hk s f (m+1) r hm2 h2 (by omega) (λi x=>?_) b
    by_cases z:i=m
    ·subst z;exact e'
    ·have him:i<m:=Nat.lt_of_le_of_ne (Nat.le_of_lt_succ x) z
     exact so.tr _ _ _ (h.lt (Nat.lt_trans him hmn)) (h.lt hmn) (h.lt hk) (s i _ him hmk) e'
theorem xzB{k l:Nat}(hk:k<p.size)(hl:l<=k)(i:Nat):gD (bubble p k (k-l)) i=if i=l then gD p k else if l<i/\i<=k then gD p (i-1) else gD p i:=by
 have e:=getElem?_bubble hk (k-l) (by omega) i
 have g:∀(q:Array Nat)(i:Nat),gD q i=(q[i]?).getD 0:=λq i=>by simp[gD,Array.getD_eq_getD_getElem?]
 rw[show k-(k-l)=l by omega] at e
 rw[g,e]
 by_cases h1:i=l
 ·rw[if_pos h1,if_pos h1,g]
 ·rw[if_neg h1,if_neg h1]
  by_cases h2:l<i/\i<=k
  ·rw[if_pos h2,if_pos h2,g]
  ·rw[if_neg h2,if_neg h2,g]
end
theorem bin_ok{n:Nat}{L:Nat->Nat->Bool}(so:SO n L):∀(f k:Nat)(p:Array Nat),k+f=n->PV n p->Sd L p k->KOk n L (kas_bin f p k) (λq=>PV n q/\Sd L q n)
 |0,k,p,hk,h,s=>⟨h,by rw[<- hk];exact s⟩
 |f+1,k,p,hk,h,s=>by
  have hz:=h.size
  unfold kas_bin
  refine KOk.bind (KOk.mono (wzm so h (by omega) s k 0 k (by omega) (Nat.le_refl _) (by omega) (λi z=>by omega) λi x y=>by omega) λl ⟨a,b,c⟩=>?_)
  refine bin_ok so f (k+1) _ (by omega) (h.perm (bubble_perm _ _ _)) λi j hij hj=>?_
  rw[xzB (by omega) a,xzB (by omega) a]
  by_cases i1:i=l
  ·rw[if_pos i1,if_neg (by omega),if_pos (by omega)]
   exact c _ (by omega) (by omega)
  ·rw[if_neg i1]
   by_cases j1:j=l
   ·rw[if_neg (by omega),if_pos j1]
    exact b _ (by omega)
   ·rw[if_neg j1]
    by_cases i2:l<i/\i<=k
    ·rw[if_pos i2,if_pos (by omega)]
     exact s _ _ (by omega) (by omega)
    ·rw[if_neg i2]
     by_cases j2:l<j/\j<=k
     ·rw[if_pos j2]
      exact s _ _ (by omega) (by omega)
     ·rw[if_neg j2]
      exact s _ _ (by omega) (by omega)
theorem sort_ok{n:Nat}{L:Nat->Nat->Bool}(so:SO n L)(h2:2<=n):KOk n L (kas_sort n) (λq=>PV n q/\Sd L q n):=by
 have h0:PV n (List.toArray (List.range n)):=by unfold PV;simp
 unfold kas_sort
 refine KOk.bind (KOk.mono (count_ok so h0 h2) λr ⟨a,b,c,d⟩=>?_)
 by_cases g:r.1<n
 ·rw[if_pos g,show max r.1 1=r.1 by omega]
  exact bin_ok so _ _ _ (by omega) a d
 ·rw[if_neg g]
  have:r.1=n:=by omega
  rw[this] at d
  exact⟨a,d⟩
section
variable {δ:Type}
theorem qzr{R:δ->δ->Prop}(as:∀x y,R x y->R y x->False):∀{l1 l2:List δ},l1.Perm l2->l1.Pairwise R->l2.Pairwise R->l1=l2
 | [],l2,hp,_,_=>(List.nil_perm.mp hp).symm
 |x::l1,[],hp,_,_=>absurd (List.perm_nil.mp hp) (by simp)
 |x::l1,y::l2,hp,h1,h2=>by
  have exy:x=y:=by
   obtain⟨a1,b1⟩:=List.pairwise_cons.mp h1
   obtain⟨a2,b2⟩:=List.pairwise_cons.mp h2
   have hx:x∈y::l2:=hp.mem_iff.mp List.mem_cons_self
   have hy:y∈x::l1:=hp.mem_iff.mpr List.mem_cons_self
   rcases List.mem_cons.mp hx with z|z
   ·exact z
   ·rcases List.mem_cons.mp hy with w|w
    ·exact w.symm
    ·exact(as x y (a1 y w) (a2 x z)).elim
  subst exy
  rw[qzr as (List.perm_cons x |>.mp hp) (List.pairwise_cons.mp h1).2 (List.pairwise_cons.mp h2).2]
def Bef(lt:δ->δ->Option Bool)(x y:δ):Prop:=lt x y=some true/\lt y x=some false
theorem Bef.asy{lt:δ->δ->Option Bool}{x y:δ}(a:Bef lt x y)(b:Bef lt y x):False:=by
 have:=a.1;rw[b.2] at this;cases this
theorem chain_ix{lt:δ->δ->Option Bool}{l:List δ}(h:l.Pairwise (Bef lt)){i j:Nat}(hi:i<l.length)(hj:j<l.length)(ne:i≠j):(lt l[i] l[j]=some true->i<j)/\(i<j->Bef lt l[i] l[j]):=by
 rw[List.pairwise_iff_getElem] at h
 refine⟨λe=>?_,λz=>h i j hi hj z⟩
 rcases Nat.lt_trichotomy i j with z|z|z
 ·exact z
 ·exact absurd z ne
 ·have:=(h j i hj hi z).2
  rw[e] at this;cases this
theorem wzz{lt:δ->δ->Option Bool}{l:List δ}(h:l.Pairwise (Bef lt)):l.Nodup:=h.imp λa z=>by
 subst z
 have:=a.1;rw[a.2] at this;cases this
theorem qzd{l l':List δ}(hp:l'.Perm l){i:Nat}{x:δ}(e:l[i]? =some x):∃k:Nat,l'[k]? =some x:=by
 obtain⟨k,hk,z⟩:=List.mem_iff_getElem.mp (hp.mem_iff.mpr (List.mem_of_getElem? e))
 exact⟨k,by rw[List.getElem?_eq_getElem hk,z]⟩
theorem qzn{l:List δ}(nd:l.Nodup){i j:Nat}{x:δ}(a:l[i]? =some x)(b:l[j]? =some x):i=j:=by
 obtain⟨hi,ei⟩:=List.getElem?_eq_some_iff.mp a
 obtain⟨hj,ej⟩:=List.getElem?_eq_some_iff.mp b
 rw[List.Nodup,List.pairwise_iff_getElem] at nd
 rcases Nat.lt_trichotomy i j with z|z|z
 ·exact(nd i j hi hj z (ei.trans ej.symm)).elim
 ·exact z
 ·exact(nd j i hj hi z (ej.trans ei.symm)).elim
theorem ch_lt{lt:δ->δ->Option Bool}{l:List δ}(h:l.Pairwise (Bef lt)){a b:Nat}{x y:δ}(ha:l[a]? =some x)(hb:l[b]? =some y)(ne:a≠b):(lt x y=some true↔a<b)/\(a<b->Bef lt x y):=by
 obtain⟨hi,rfl⟩:=List.getElem?_eq_some_iff.mp ha
 obtain⟨hj,rfl⟩:=List.getElem?_eq_some_iff.mp hb
 obtain⟨p,q⟩:=chain_ix h hi hj ne
 exact⟨⟨p,λz=>(q z).1⟩,q⟩
theorem so_of{lt:δ->δ->Option Bool}{l l':List δ}(hp:l'.Perm l)(h:l'.Pairwise (Bef lt)){L:Nat->Nat->Bool}(hne:∀i,L i i=false)(hL:∀(i j:Nat)(x y:δ),l[i]? =some x->l[j]? =some y->i≠j->(L i j=true↔lt x y=some true)):SO l.length L:=by
 have nd':=wzz h
 have nd:l.Nodup:=hp.nodup_iff.mp nd'
 have g:∀i,i<l.length->∃x,l[i]? =some x:=λi hi=>⟨_,List.getElem?_eq_getElem hi⟩
 refine⟨λi j hi hj hij=>?_,λi j k hi hj hk e1 e2=>?_⟩
 ·obtain⟨x,ex⟩:=g i hi
  obtain⟨y,ey⟩:=g j hj
  obtain⟨a,ea⟩:=qzd hp ex
  obtain⟨b,eb⟩:=qzd hp ey
  have nab:a≠b:=λz=>by
   subst z;rw[ea] at eb;cases eb
   exact hij (qzn nd ex ey)
  rcases Nat.lt_or_gt_of_ne nab with z|z
  ·exact .inl ((hL i j x y ex ey hij).mpr ((ch_lt h ea eb nab).1.mpr z))
  ·exact .inr ((hL j i y x ey ex (Ne.symm hij)).mpr ((ch_lt h eb ea (Ne.symm nab)).1.mpr z))
 ·obtain⟨x,ex⟩:=g i hi
  obtain⟨y,ey⟩:=g j hj
  obtain⟨z,ez⟩:=g k hk
  obtain⟨a,ea⟩:=qzd hp ex
  obtain⟨b,eb⟩:=qzd hp ey
  obtain⟨c,ec⟩:=qzd hp ez
  have nij:i≠j:=λq=>by subst q;rw[hne] at e1;cases e1
  have njk:j≠k:=λq=>by subst q;rw[hne] at e2;cases e2
  have nab:a≠b:=λq=>by
   subst q;rw[ea] at eb;cases eb
   exact nij (qzn nd ex ey)
  have nbc:b≠c:=λq=>by
   subst q;rw[eb] at ec;cases ec
   exact njk (qzn nd ey ez)
  have l1:=(ch_lt h ea eb nab).1.mp ((hL i j x y ex ey nij).mp e1)
  have l2:=(ch_lt h eb ec nbc).1.mp ((hL j k y z ey ez njk).mp e2)
  have nik:i≠k:=λq=>by
   subst q;rw[ex] at ez;cases ez
   have:=qzn nd' ea ec
   omega
  exact(hL i k x z ex ez nik).mpr ((ch_lt h ea ec (by omega)).1.mpr (by omega))
theorem zzT(l:List δ)(d:δ):(List.range l.length).map (λi=>l.getD i d)=l:=by
 apply List.ext_getElem?
 intro i
 rw[List.getElem?_map]
 by_cases hi:i<l.length
 ·rw[List.getElem?_range hi,List.getElem?_eq_getElem hi]
  simp[List.getD_eq_getElem?_getD,List.getElem?_eq_getElem hi]
 ·rw[List.getElem?_eq_none (by simpa using hi),List.getElem?_eq_none (by simpa using hi)];rfl
theorem out_of{lt:δ->δ->Option Bool}{l l':List δ}(hp:l'.Perm l)(h:l'.Pairwise (Bef lt)){L:Nat->Nat->Bool}(hL:∀(i j:Nat)(x y:δ),l[i]? =some x->l[j]? =some y->i≠j->(L i j=true↔lt x y=some true)){p:Array Nat}(hv:PV l.length p)(hs:Sd L p l.length)(d:δ):
 p.toList.map (λi=>l.getD i d)=l':=by
 have nd':=wzz h
 have nd:l.Nodup:=hp.nodup_iff.mp nd'
 refine qzr (R:=Bef lt) (λ_ _=>Bef.asy) (((hv.map _).trans (by rw[zzT])).trans hp.symm) ?_ h
 rw[List.pairwise_iff_getElem]
 intro a b ha hb hab
 rw[List.length_map,Array.length_toList] at ha hb
 have hz:=hv.size
 have e:∀c (hc:c<p.size),(p.toList.map (λi=>l.getD i d))[c]'(by simpa using hc)=l.getD (gD p c) d:=λc hc=>by
  rw[List.getElem_map,gD_eq hc];rfl
 rw[e a ha,e b hb]
 have la:=hv.lt (i:=a) (by omega)
 have lb:=hv.lt (i:=b) (by omega)
 have nab:=hv.ne (i:=a) (j:=b) (by omega) (by omega) (by omega)
 have g:∀i,i<l.length->l[i]? =some (l.getD i d):=λi hi=>by simp[List.getD_eq_getElem?_getD,List.getElem?_eq_getElem hi]
 have t:=(hL _ _ _ _ (g _ la) (g _ lb) nab).mp (hs a b hab (by omega))
 obtain⟨x,ex⟩:=qzd hp (g _ la)
 obtain⟨y,ey⟩:=qzd hp (g _ lb)
 have nxy:x≠y:=λq=>by
  subst q;rw[ex] at ey
  have e2:=Option.some.inj ey
  exact nab (qzn nd (g _ la) (by rw[e2];exact g _ lb))
 exact(ch_lt h ex ey nxy).2 ((ch_lt h ex ey nxy).1.mp t)
end
end Ng
end
section
namespace Ng
open PySem PySem.Spec PyProof.Rows L2
inductive Bop where
 |add|sub|mul|fdiv|mod|pow
inductive Cop where
 |lt|le|gt|ge|eq|ne|is|isnot|inn|notin
inductive Ty where
 |int|bool|str|tuple|list
def Ty.nm:Ty->String
 |.int=>"int"|.bool=>"bool"|.str=>"str"|.tuple=>"tuple"|.list=>"list"
inductive Blt where
 |len|isinst|int|list|max|min|sorted|all|tup
inductive Tg where
 |nm (i:Nat)|tp (l:List Nat)
inductive Ck where
 |r1|r2|sq|its|itf|st
def setAll:List Nat->List D->Ev->Ev
 |i::is,d::ds,r=>setAll is ds (r.set i (some d))
 |_,_,r=>r
def setT:Tg->D->Ev->Option Ev
 |.nm i,d,r=>some (r.set i (some d))
 |.tp l,.tup ds,r=>if ds.length=l.length then some (setAll l ds r) else none
 |_,_,_=>none
def rngD(i j:Int):List D:=(List.range (j-i).toNat).map λ(k:Nat)=>D.int (i+k)
def okR(j:Int):Prop:= -(2^62)<=j/\j<2^62
instance (j:Int):Decidable (okR j):=by unfold okR;infer_instance
mutual
inductive E where
 |var (i:Nat)|int (i:Int)|bl (b:Bool)|non|str (x:Str)|gc (g:Nat)|ty (t:Ty)
 |bin (op:Bop) (a b:E)|neg (a:E)|cmp (op:Cop) (a b:E)
 |and (a b:E)|or (a b:E)|not (a:E)|ite (c a b:E)
 |ix (a b:E)|tup (l:Es)|lst (l:Es)|call (f:Nat) (l:Es)|blt (f:Blt) (l:Es)|app (o e:E)
 |comp (t:Tg) (k:Ck) (it cs:Es) (e:E) (N:List Str) (cap:List Nat)
 |mxd (mx:Bool) (l d:E)|lrg (e:E)|disp (ks:List Str) (vs:Es)|ins (o i e:E)
 |slU (a b:E)|slL (a b:E)|att (o:E) (cn f:Str)|new (cn:Str) (f:Nat) (l:Es)|slT (a b:E)|slA (a b:E)|slZ (a b:E)|mth (o:E) (cn m:Str) (f:Nat) (l:Es)|chn (op op':Cop) (a b c:E)|rev (o:E)|dcT (t:Tg) (i k v:E) (N:List Str) (cap:List Nat)|dnw|dnt|get2 (o k d:E)|join (x:Str) (e:E)|dcomp (t1:Tg) (i1:E) (t2:Tg) (i2 k v:E) (N:List Str) (cap:List Nat)
inductive Es where
 |nil|cons (e:E) (r:Es)
end
def truD:D->Hh->Option Bool
 |.non,_=>some false
 |.bl b,_=>some b
 |.int i,_=>some (i != 0)
 |.str y,_=>if y.length<=sizeLine then some ((y.length:Int) != 0) else none
 |.tup l,_=>some (!l.isEmpty)
 |.ref n,h=>match lstAt h n with
  |some l=>some (!l.isEmpty)
  |none=>none
 |.ty _,_=>none
def binD:Bop->D->D->Hh->Rs D
 |.add,.int i,.int j,h=>.ok (.int (i+j)) h
 |.add,.str x,.str y,h=>if x.length+y.length<=sizeLine then .ok (.str (x++y)) h else .bad
 |.add,.tup a,.tup b,h=>if a.length+b.length<=1000/\0<a.length/\0<b.length then .ok (.tup (a++b)) h else .bad
 |.add,.ref n,.ref k,h=>match h[n]?,h[k]? with
  |some (.lst a),some (.lst b)=>if a.length+b.length<=1000 then .ok (.ref h.length) (h++ [.lst (a++b)]) else .bad
  |_,_=>.bad
 |.sub,.int i,.int j,h=>.ok (.int (i-j)) h
 |.mul,.int i,.int j,h=>if(-(2^64)<i/\i<2^64)\/(-(2^64)<j/\j<2^64) then .ok (.int (i*j)) h else .bad
 |.fdiv,.int i,.int j,h=>if 0<j/\j<1073741824 then .ok (.int (i/j)) h else .bad
 |.mod,.int i,.int j,h=>if 0<j then .ok (.int (i%j)) h else .bad
 |.pow,.int i,.int j,h=>if 0<=j/\j<=1000000/\i.natAbs<2^64 then .ok (.int (i^j.toNat)) h else .bad
 |_,_,_,_=>.bad
def eqL(f:D->D->Option Bool):List D->List D->Option Bool
 | [],[]=>some true
 | [],_::_=>some false
 |_::_,[]=>some false
 |x::xs,y::ys=>match f x y,eqL f xs ys with
  |some a,some b=>some (a&&b)
  |_,_=>none
def eqD:Nat->D->D->Option Bool
 |_,.non,.non=>some true
 |_,.non,.int _=>some false
 |_,.int _,.non=>some false
 |_,.non,.str _=>some false
 |_,.str _,.non=>some false
 |_,.int a,.int b=>some (a==b)
 |_,.bl a,.bl b=>some (a==b)
 |_,.str a,.str b=>some (a==b)
 |_,.int _,.str _=>some false
 |_,.str _,.int _=>some false
 |n+1,.tup a,.tup b=>eqL (eqD n) a b
 |_,_,_=>none
def eqH:D->D->Hh->Option Bool
 |.ref i,.ref j,h=>match lstAt h i,lstAt h j with
  |some a,some b=>if a.length=b.length then eqL (eqD 20) a b else some false
  |_,_=>none
 |x,y,_=>eqD 20 x y
def isNon:D->Bool
 |.non=>true
 |_=>false
def flat:D->Bool
 |.non=>true|.bl _=>true|.int _=>true|.str _=>true
 |_=>false
def eqF:D->D->Bool
 |.non,.non=>true
 |.bl a,.bl b=>a==b
 |.bl a,.int b=>(if a then 1 else 0)==b
 |.int a,.bl b=>a==(if b then 1 else 0)
 |.int a,.int b=>a==b
 |.str a,.str b=>a==b
 |_,_=>false
def inD(x:D)(l:List D)(neg:Bool)(h:Hh):Rs D:=if flat x=true/\l.all flat=true then .ok (.bl (if neg then !(l.any λy=>eqF y x) else l.any λy=>eqF y x)) h else .bad
def seqD:D->Hh->Option (List D)
 |.tup l,_=>some l
 |.ref n,h=>lstAt h n
 |_,_=>none
def dctAt(h:Hh)(x:D):Option (List (Key×D)):=match x with
 |.ref n=>match h[n]? with
  |some (.dct l)=>some l
  |_=>none
 |_=>none
def keyD:D->Option Key
 |.int i=>some (.inl i)
 |.str x=>some (.inr x)
 |_=>none
def valD(l:List (Key×D))(k:Key):Option D:=(l.find? λkv=>decide (kv.1=k)).map (·.2)
def inK(x:D)(l:List (Key×D))(neg:Bool)(h:Hh):Rs D:=match keyD x with
 |some k=>.ok (.bl (if neg then !(valD l k).isSome else(valD l k).isSome)) h
 |none=>.bad
def putD(l:List (Key×D))(k:Key)(v:D):List (Key×D):=if l.any (λkv=>decide (kv.1=k)) then l.map (λkv=>if kv.1=k then(kv.1,v) else kv) else l++ [(k,v)]
def get2D(x y z:D)(h:Hh):Rs D:=match dctAt h x,keyD y with
 |some l,some k=>.ok ((valD l k).getD z) h
 |_,_=>.bad
def dputD(n:Nat)(y z:D)(h:Hh):Rs Unit:=match h[n]?,keyD y with
 |some (.dct l),some k=>if l.length<1000 then .ok () (h.set n (.dct (putD l k z))) else .bad
 |_,_=>.bad
def strsD:List D->Option (List Str)
 | []=>some []
 |.str x::r=>(strsD r).map (x:: ·)
 |_::_=>none
def ltF:List D->List D->Option Bool
 | [],[]=>some false
 | [],_::_=>some true
 |_::_,[]=>some false
 |.int a::xs,.int b::ys=>if a=b then ltF xs ys else some (decide (a<b))
 |.str a::xs,.str b::ys=>if a=b then ltF xs ys else some (decide (a.cps.toList<b.cps.toList))
 |_,_=>none
def ltK:D->D->Option Bool
 |.int a,.int b=>some (decide (a<b))
 |.str a,.str b=>some (decide (a.cps.toList<b.cps.toList))
 |.tup a,.tup b=>ltF a b
 |_,_=>none
def kdS:D->Nat
 |.int _=>1
 |.str _=>2
 |.tup (.int _::_)=>3
 |.tup (.str _::_)=>4
 |_=>0
def CanS(l:List D):Prop:=l.length<64/\(l.length<2\/∃k,k≠0/\∀x∈l,kdS x=k)
open Classical in
noncomputable def srtD(l:List D):Option (List D):=if h:CanS l/\∃l':List D,l'.Perm l/\l'.Pairwise (Bef ltK) then some (Classical.choose h.2) else none
theorem srtD_ok{l l':List D}(c:CanS l)(hp:l'.Perm l)(hs:l'.Pairwise (Bef ltK)):srtD l=some l':=by
 have h:CanS l/\∃l':List D,l'.Perm l/\l'.Pairwise (Bef ltK):=⟨c,l',hp,hs⟩
 unfold srtD
 rw[dif_pos h]
 have q:=Classical.choose_spec h.2
 rw[qzr (R:=Bef ltK) (λ_ _=>Bef.asy) (q.1.trans hp.symm) q.2 hs]
theorem srtD_of{l l':List D}(e:srtD l=some l'):CanS l/\l'.Perm l/\l'.Pairwise (Bef ltK):=by
 unfold srtD at e
 split at e
 ·rename_i h
  have q:=Classical.choose_spec h.2
  have e':=Option.some.inj e
  rw[e'] at q
  exact⟨h.1,q⟩
 ·cases e
def dtfAt(h:Hh)(x:D):Option (List (List Int×D)):=match x with
 |.ref n=>match h[n]? with
  |some (.dtf l)=>some l
  |_=>none
 |_=>none
def intsK:List D->Option (List Int)
 | []=>some []
 |.int i::r=>(intsK r).map (i:: ·)
 |_::_=>none
def valT(l:List (List Int×D))(k:List Int):Option D:=(l.find? λkv=>decide (kv.1=k)).map (·.2)
def inX(x y:D)(h:Hh):Option Bool:=match x,y with
 |.str a,.str b=>some (!(Builtin.Str.occurrences b a 0 b.length 1).isEmpty)
 |.tup ks,y=>match dtfAt h y with
  |some l=>(intsK ks).map λk=>(valT l k).isSome
  |none=>none
 |_,_=>none
def inT(x:D):List D->Option Bool
 | []=>some false
 |y::r=>match eqD 20 y x,inT x r with
  |some a,some b=>some (a||b)
  |_,_=>none
def inTs(x y:D)(l:List D):Option Bool:=match x,y with
 |.tup _,.ref _=>inT x l
 |_,_=>none
def cmpD:Cop->D->D->Hh->Rs D
 |.lt,.int i,.int j,h=>.ok (.bl (decide (i<j))) h
 |.le,.int i,.int j,h=>.ok (.bl (decide (i<=j))) h
 |.gt,.int i,.int j,h=>.ok (.bl (decide (j<i))) h
 |.ge,.int i,.int j,h=>.ok (.bl (decide (j<=i))) h
 |.eq,x,y,h=>match eqH x y h with
  |some b=>.ok (.bl b) h
  |none=>.bad
 |.ne,x,y,h=>match eqH x y h with
  |some b=>.ok (.bl (!b)) h
  |none=>.bad
 |.is,x,.non,h=>.ok (.bl (isNon x)) h
 |.isnot,x,.non,h=>.ok (.bl (!isNon x)) h
 |.inn,x,y,h=>match inX x y h with
  |some b=>.ok (.bl b) h
  |none=>match dctAt h y with
   |some l=>inK x l false h
   |none=>match seqD y h with
    |some l=>inD x l false h
    |none=>.bad
 |.notin,x,y,h=>match dctAt h y with
  |some l=>inK x l true h
  |none=>match seqD y h with
   |some l=>match inTs x y l with
    |some b=>.ok (.bl (!b)) h
    |none=>inD x l true h
   |none=>.bad
 |_,_,_,_=>.bad
def ixS(x y:D)(h:Hh):Rs D:=match seqD x h,y with
 |some l,.int i=>match atI l i with
  |some d=>.ok d h
  |none=>.bad
 |_,_=>.bad
def ixK(l:List (Key×D))(y:D)(h:Hh):Rs D:=match keyD y with
 |some k=>match valD l k with
  |some d=>.ok d h
  |none=>.bad
 |none=>.bad
def ixT(x:Str)(y:D)(h:Hh):Rs D:=match y with
 |.int i=>if x.length<=sizeLine then(match atI x.cps.toList i with
  |some c=>.ok (.str ⟨#[c]⟩) h
  |none=>.bad) else .bad
 |_=>.bad
def ixF(l:List (List Int×D))(y:D)(h:Hh):Rs D:=match y with
 |.tup ks=>match (intsK ks).bind (valT l) with
  |some d=>.ok d h
  |none=>.bad
 |_=>.bad
def ixD(x y:D)(h:Hh):Rs D:=match x with
 |.str z=>ixT z y h
 |x=>match dctAt h x with
  |some l=>ixK l y h
  |none=>match dtfAt h x with
   |some l=>ixF l y h
   |none=>ixS x y h
def isLst:D->Hh->Bool
 |.ref n,h=>(lstAt h n).isSome
 |_,_=>false
def tyD:D->Hh->Option Ty
 |.bl _,_=>some .bool
 |.int _,_=>some .int
 |.str _,_=>some .str
 |.tup _,_=>some .tuple
 |.ref n,h=>match lstAt h n with
  |some _=>some .list
  |none=>none
 |_,_=>none
def isTy:Ty->String->Bool
 |.bool,s=>s=="bool"||s=="int"
 |t,s=>t.nm==s
def tyNames:List String:= ["int","bool","str","tuple","list"]
def isinD(x:D)(T:String)(h:Hh):Option Bool:=match x with
 |.non=>if T∈tyNames then some false else none
 |x=>match tyD x h with
  |some t=>if T∈tyNames then some (isTy t T) else none
  |none=>none
def tysOf:List D->Option (List String)
 | []=>some []
 |.ty T::r=>match tysOf r with
  |some l=>some (T::l)
  |none=>none
 |_=>none
def isinAny(x:D)(h:Hh):List String->Option Bool
 | []=>some false
 |T::r=>match isinD x T h,isinAny x h r with
  |some a,some b=>some (a||b)
  |_,_=>none
def isinL(x:D):D->Hh->Rs D
 |.ty T,h=>match isinD x T h with
  |some b=>.ok (.bl b) h
  |none=>.bad
 |.tup l,h=>match tysOf l with
  |some []=>.bad
  |some (T::Ts)=>match isinAny x h (T::Ts) with
   |some b=>.ok (.bl b) h
   |none=>.bad
  |none=>.bad
 |_,_=>.bad
def intL:D->Hh->Rs D
 |.int i,h=>.ok (.int i) h
 |.bl b,h=>.ok (.int (if b then 1 else 0)) h
 |_,_=>.bad
def lenL(x:D)(h:Hh):Rs D:=match seqD x h with
 |some l=>.ok (.int l.length) h
 |none=>match x with
  |.str z=>if z.length<=sizeLine then .ok (.int z.length) h else .bad
  |x=>match dtfAt h x with
   |some l=>.ok (.int l.length) h
   |none=>.bad
def blsD:List D->Option (List Bool)
 | []=>some []
 |.bl b::r=>(blsD r).map (b:: ·)
 |_::_=>none
def allL(x:D)(h:Hh):Rs D:=match isLst x h,seqD x h with
 |true,some l=>match blsD l with
  |some bs=>.ok (.bl (bs.all id)) h
  |none=>.bad
 |_,_=>.bad
def revD(x:D)(h:Hh):Rs D:=match x with
 |.ref n=>match h[n]? with
  |some (.lst l)=>.ok .non (h.set n (.lst l.reverse))
  |_=>.bad
 |_=>.bad
def listL(x:D)(h:Hh):Rs D:=match seqD x h with
 |some l=>.ok (.ref h.length) (h++ [.lst l])
 |none=>.bad
noncomputable def srtL(x:D)(h:Hh):Rs D:=match isLst x h,seqD x h with
 |true,some l=>match srtD l with
  |some l'=>.ok (.ref h.length) (h++ [.lst l'])
  |none=>.bad
 |_,_=>.bad
def joinD(s:Str)(x:D)(h:Hh):Rs D:=match isLst x h,seqD x h with
 |true,some l=>match strsD l with
  |some xs=>if(xs.map (·.length)).sum+xs.length*s.length<=1000 then .ok (.str (Txt.join s xs)) h else .bad
  |none=>.bad
 |_,_=>.bad
def slTD(x y:D)(h:Hh):Rs D:=match x,y with
 |.tup l,.int i=>if 0<=i/\i<(l.length:Int) then .ok (.tup (l.take i.toNat)) h else .bad
 |_,_=>.bad
def slAD(x y:D)(h:Hh):Rs D:=match x,y with
 |.str z,.int i=>if 0<=i/\z.length<=1000 then .ok (.str ⟨(z.cps.toList.take i.toNat).toArray⟩) h else .bad
 |_,_=>.bad
def slZD(x y:D)(h:Hh):Rs D:=match x,y with
 |.str z,.int i=>if 0<=i/\z.length<=1000 then .ok (.str ⟨(z.cps.toList.drop i.toNat).toArray⟩) h else .bad
 |_,_=>.bad
def slUD(x y:D)(h:Hh):Rs D:=match isLst x h,seqD x h,y with
 |true,some l,.int i=>if 0<=i then .ok (.ref h.length) (h++ [.lst (l.take i.toNat)]) else .bad
 |_,_,_=>.bad
def slLD(x y:D)(h:Hh):Rs D:=match isLst x h,seqD x h,y with
 |true,some l,.int i=>if 0<=i then .ok (.ref h.length) (h++ [.lst (l.drop i.toNat)]) else .ok (.ref h.length) (h++ [.lst (l.drop (l.length-i.natAbs))])
 |_,_,_=>.bad
def tupL(x:D)(h:Hh):Rs D:=match isLst x h,seqD x h with
 |true,some l=>.ok (.tup l) h
 |_,_=>.bad
def one(k:D->Hh->Rs D):List D->Hh->Rs D
 | [x],h=>k x h
 |_,_=>.bad
def two(k:D->D->Hh->Rs D):List D->Hh->Rs D
 | [x,y],h=>k x y h
 |_,_=>.bad
def intsD:List D->Option (List Int)
 | []=>some []
 |.int i::r=>(intsD r).map (i:: ·)
 |_::_=>none
def putT(l:List (List Int×D))(k:List Int)(v:D):List (List Int×D):=if l.any (λkv=>decide (kv.1=k)) then l.map (λkv=>if kv.1=k then(kv.1,v) else kv) else l++ [(k,v)]
def dputT(n:Nat)(l:List (List Int×D))(y z:D)(h:Hh):Rs Unit:=match y with
 |.tup ks=>match intsD ks with
  |some k=>if l.length<1000 then .ok () (h.set n (.dtt (putT l k z))) else .bad
  |none=>.bad
 |_=>.bad
def maxI(a:Int)(l:List Int):Int:=l.foldl (λm x=>if x>m then x else m) a
def minI(a:Int)(l:List Int):Int:=l.foldl (λm x=>if x<m then x else m) a
def bestI(mx:Bool):Int->List Int->Int:=if mx then maxI else minI
def bestL(mx:Bool):List D->Hh->Rs D
 | [x,y],h=>match x,y with
   |.int i,.int j=>.ok (.int (bestI mx i [j])) h
   |_,_=>.bad
 |_,_=>.bad
def bestD(mx:Bool)(x d:D)(h:Hh):Rs D:=match isLst x h,seqD x h with
 |true,some l=>match intsD l with
  |some (i::r)=>.ok (.int (bestI mx i r)) h
  |some []=>.ok d h
  |none=>.bad
 |_,_=>.bad
def lrgD(x:D)(h:Hh):Rs D:=match x with
 |.int j=>if -(2^62)<=j/\j<=1000 then .ok (.ref h.length) (h++ [.lst (rngD 0 j)]) else .bad
 |_=>.bad
def dispD(ks:List Str)(ds:List D)(n:Nat)(h:Hh):Rs D:=match h[n]? with
 |some (.dct [])=>if ds.length=ks.length/\ks.Nodup/\ks.length<=15 then .ok (.ref n) (h.set n (.dct ((ks.map Sum.inr).zip ds))) else .bad
 |_=>.bad
noncomputable def bltD:Blt->List D->Hh->Rs D
 |.len=>one lenL
 |.isinst=>two isinL
 |.int=>one intL
 |.list=>one listL
 |.max=>bestL true
 |.min=>bestL false
 |.sorted=>one srtL
 |.all=>one allL
 |.tup=>one tupL
def appD(x y:D)(h:Hh):Rs D:=match x with
 |.ref n=>match h[n]? with
  |some (.lst l)=>if l.length<1000000 then .ok .non (h.set n (.lst (l++ [y]))) else .bad
  |_=>.bad
 |_=>.bad
def insD(x y z:D)(h:Hh):Rs D:=match x,y with
 |.ref n,.int i=>match h[n]? with
  |some (.lst l)=>if 0<=i/\i<=(l.length:Int)/\l.length<1000000 then .ok .non (h.set n (.lst (l.take i.toNat++z::l.drop i.toNat))) else .bad
  |_=>.bad
 |_,_=>.bad
def compS(t:Tg)(cs:Ev->Hh->Rs Bool)(f:Ev->Hh->Rs D)(n0:Nat):List D->Ev->Hh->Rs Unit
 | [],_,h=>.ok () h
 |d::ds,r,h=>match setT t d r with
  |none=>.bad
  |some r1=>(cs r1 h).bind λb h=>if b=true then(f r1 h).bind λy h=>(appD (.ref n0) y h).bind λ_ h=>compS t cs f n0 ds r1 h else compS t cs f n0 ds r1 h
def compI(t:Tg)(cs:Ev->Hh->Rs Bool)(f:Ev->Hh->Rs D)(n0 n:Nat):Nat->Nat->Ev->Hh->Rs Unit
 |0,_,_,_=>.bad
 |k+1,i,r,h=>match lstAt h n with
  |none=>.bad
  |some l=>match l[i]? with
   |none=>.ok () h
   |some d=>match setT t d r with
    |none=>.bad
    |some r1=>(cs r1 h).bind λb h=>if b=true then(f r1 h).bind λy h=>(appD (.ref n0) y h).bind λ_ h=>compI t cs f n0 n k (i+1) r1 h else compI t cs f n0 n k (i+1) r1 h
def compL(t:Tg)(cs:Ev->Hh->Rs Bool)(f:Ev->Hh->Rs D)(n0:Nat)(k:Ck)(xs:List D)(h0:Hh)(r:Ev)(h:Hh):Rs Unit:=match k,xs with
 |.r1,[.int j]=>if okR j then compS t cs f n0 (rngD 0 j) r h else .bad
 |.r2,[.int i,.int j]=>if okR i/\okR j then compS t cs f n0 (rngD i j) r h else .bad
 |.st,[.str x]=>if x.length<=1000 then compS t cs f n0 (x.cps.toList.map λc=>D.str ⟨#[c]⟩) r h else .bad
 |.itf,[.ref n]=>match h0[n]? with
  |some (.dtf l)=>compS t cs f n0 (l.map λp=>D.tup [.tup (p.1.map D.int),p.2]) r h
  |_=>.bad
 |.its,[.ref n]=>match h0[n]? with
  |some (.dtt l)=>compS t cs f n0 (l.map λp=>D.tup [.tup (p.1.map D.int),p.2]) r (h.set n .ded)
  |_=>.bad
 |.sq,[.tup l]=>compS t cs f n0 l r h
 |.sq,[.ref n]=>match lstAt h0 n with
  |some l=>compI t cs f n0 n (l.length+1) 0 r h
  |none=>.bad
 |_,_=>.bad
def dcS(t2:Tg)(fk fv:Ev->Hh->Rs D)(n0:Nat):List D->Ev->Hh->Rs Ev
 | [],r,h=>.ok r h
 |d::ds,r,h=>match setT t2 d r with
  |none=>.bad
  |some r1=>(fk r1 h).bind λy h=>(fv r1 h).bind λz h=>(dputD n0 y z h).bind λ_ h=>dcS t2 fk fv n0 ds r1 h
def dcI(t1:Tg)(fi:Ev->Hh->Rs D)(t2:Tg)(fk fv:Ev->Hh->Rs D)(n0 n:Nat):Nat->Nat->Ev->Hh->Rs Unit
 |0,_,_,_=>.bad
 |k+1,i,r,h=>match lstAt h n with
  |none=>.bad
  |some l=>match l[i]? with
   |none=>.ok () h
   |some d=>match setT t1 d r with
    |none=>.bad
    |some r1=>(fi r1 h).bind λy h=>match y with
     |.tup ds=>(dcS t2 fk fv n0 ds r1 h).bind λr2 h=>dcI t1 fi t2 fk fv n0 n k (i+1) r2 h
     |_=>.bad
def dcL(t1:Tg)(fi:Ev->Hh->Rs D)(t2:Tg)(fk fv:Ev->Hh->Rs D)(x:D)(r:Ev)(h:Hh):Rs D:=match x with
 |.ref n=>match lstAt h n with
  |some l=>(dcI t1 fi t2 fk fv h.length n (l.length+1) 0 r (h++ [.dct []])).bind λ_ h'=>.ok (.ref h.length) h'
  |none=>.bad
 |_=>.bad
def dputN(n:Nat)(y z:D)(h:Hh):Rs Unit:=match h[n]? with
 |some (.dtt l)=>dputT n l y z h
 |_=>.bad
def dtI(t:Tg)(fk fv:Ev->Hh->Rs D)(n0 n:Nat):Nat->Nat->Ev->Hh->Rs Unit
 |0,_,_,_=>.bad
 |k+1,i,r,h=>match lstAt h n with
  |none=>.bad
  |some l=>match l[i]? with
   |none=>.ok () h
   |some d=>match setT t d r with
    |none=>.bad
    |some r1=>(fk r1 h).bind λy h=>(fv r1 h).bind λz h=>(dputN n0 y z h).bind λ_ h=>dtI t fk fv n0 n k (i+1) r1 h
def dtZ(n:Nat)(h:Hh):Rs D:=match h[n]? with
 |some (.dtt l)=>.ok (.ref n) (h.set n (.dtf l))
 |_=>.bad
def dtL(t:Tg)(fk fv:Ev->Hh->Rs D)(x:D)(r:Ev)(h:Hh):Rs D:=match x with
 |.ref n=>match lstAt h n with
  |some l=>(dtI t fk fv h.length n (l.length+1) 0 r (h++ [.dtt []])).bind λ_ h'=>dtZ h.length h'
  |none=>.bad
 |_=>.bad
def capV(r:Ev)(i:Nat):Option D:=match r[i]? with
 |some x=>x
 |none=>none
def blockE(N:List Str)(cap:List Nat)(r:Ev):Ev:=List.replicate (N.length-cap.length) none++cap.map (capV r)
structure Gs where
 fns:List Str
 csts:List (Str×D)
 excs:List Str:= []
 sub:List (Nat×Nat):= []
 nsub:List (Nat×Nat):= []
 news:List (Str×Nat):= []
 meths:List (Str×Str×Nat):= []
 atts:List (Str×Str):= []
abbrev Cl:=Nat->List D->Hh->Rs D
def attD(cn:Str)(x:D)(f:Str)(h:Hh):Rs D:=match x with
 |.ref n=>match h[n]? with
  |some (.ins c fs)=>if c=cn then(match fs.lookup f with
   |some d=>.ok d h
   |none=>.bad) else .bad
  |_=>.bad
 |_=>.bad
def mthOk(x:D)(cn m:Str)(h:Hh):Bool:=match x with
 |.ref n=>match h[n]? with
  |some (.ins c fs)=>decide (c=cn)&&(fs.lookup m).isNone
  |_=>false
 |_=>false
def putA(f:Str)(y:D):List (Str×D)->List (Str×D)
 | []=>[(f,y)]
 |(g,x)::r=>if g=f then(g,y)::r else(g,x)::putA f y r
def satD(cn:Str)(x y:D)(f:Str)(h:Hh):Rs Unit:=match x with
 |.ref n=>match h[n]? with
  |some (.ins c fs)=>if c=cn/\fs.length<900 then .ok () (h.set n (.ins c (putA f y fs))) else .bad
  |_=>.bad
 |_=>.bad
def newD(cn:Str)(f:List D->Hh->Rs D)(ds:List D)(h:Hh):Rs D:=(f (.ref h.length::ds) (h++ [.ins cn []])).bind λd h'=>match d with
 |.non=>.ok (.ref h.length) h'
 |_=>.bad
mutual
noncomputable def ev(G:Gs)(cl:Cl):E->Ev->Hh->Rs D
 |.var i,r,h=>match r[i]? with
  |some (some d)=>.ok d h
  |_=>.bad
 |.int i,_,h=>.ok (.int i) h
 |.bl b,_,h=>.ok (.bl b) h
 |.non,_,h=>.ok .non h
 |.str x,_,h=>.ok (.str x) h
 |.gc g,_,h=>match G.csts[g]? with
  |some p=>.ok p.2 h
  |none=>.bad
 |.ty t,_,h=>.ok (.ty t.nm) h
 |.bin op a b,r,h=>(ev G cl a r h).bind λx h=>(ev G cl b r h).bind λy h=>binD op x y h
 |.neg a,r,h=>(ev G cl a r h).bind λx h=>match x with
  |.int i=>.ok (.int (-i)) h
  |_=>.bad
 |.cmp op a b,r,h=>(ev G cl a r h).bind λx h=>(ev G cl b r h).bind λy h=>cmpD op x y h
 |.and a b,r,h=>(ev G cl a r h).bind λx h=>match truD x h with
  |some true=>ev G cl b r h
  |some false=>.ok x h
  |none=>.bad
 |.or a b,r,h=>(ev G cl a r h).bind λx h=>match truD x h with
  |some true=>.ok x h
  |some false=>ev G cl b r h
  |none=>.bad
 |.not a,r,h=>(ev G cl a r h).bind λx h=>match truD x h with
  |some b=>.ok (.bl (!b)) h
  |none=>.bad
 |.ite c a b,r,h=>(ev G cl c r h).bind λx h=>match truD x h with
  |some true=>ev G cl a r h
  |some false=>ev G cl b r h
  |none=>.bad
 |.ix a b,r,h=>(ev G cl a r h).bind λx h=>(ev G cl b r h).bind λy h=>ixD x y h
 |.tup l,r,h=>(evs G cl l r h).bind λds h=>if ds.length<=1000 then .ok (.tup ds) h else .bad
 |.lst l,r,h=>(evs G cl l r h).bind λds h=>if ds.length<=1000 then .ok (.ref h.length) (h++ [.lst ds]) else .bad
 |.call f l,r,h=>(evs G cl l r h).bind λds h=>(cl f ds h).nx
 |.blt f l,r,h=>(evs G cl l r h).bind λds h=>bltD f ds h
 |.app o e,r,h=>(ev G cl o r h).bind λx h=>if isLst x h=true then(ev G cl e r h).bind λy h=>appD x y h else .bad
 |.ins o i e,r,h=>(ev G cl o r h).bind λx h=>if isLst x h=true then(ev G cl i r h).bind λy h=>(ev G cl e r h).bind λz h=>insD x y z h else .bad
 |.mxd mx l d,r,h=>(ev G cl l r h).bind λx h=>(ev G cl d r h).bind λy h=>bestD mx x y h
 |.lrg e,r,h=>(ev G cl e r h).bind λx h=>lrgD x h
 |.disp ks vs,r,h=>(evs G cl vs r (h++ [.dct []])).bind λds h'=>dispD ks ds h.length h'
 |.dnw,_,h=>.ok (.ref h.length) (h++ [.dct []])
 |.slU a b,r,h=>(ev G cl a r h).bind λx h=>(ev G cl b r h).bind λy h=>slUD x y h
 |.slL a b,r,h=>(ev G cl a r h).bind λx h=>(ev G cl b r h).bind λy h=>slLD x y h
 |.att o cn f,r,h=>(ev G cl o r h).bind λx h=>attD cn x f h
 |.new cn f l,r,h=>(evs G cl l r h).bind λds h=>(newD cn (cl f) ds h).nx
 |.slA a b,r,h=>(ev G cl a r h).bind λx h=>(ev G cl b r h).bind λy h=>slAD x y h
 |.slZ a b,r,h=>(ev G cl a r h).bind λx h=>(ev G cl b r h).bind λy h=>slZD x y h
 |.slT a b,r,h=>(ev G cl a r h).bind λx h=>(ev G cl b r h).bind λy h=>slTD x y h
 |.mth o cn m f l,r,h=>(ev G cl o r h).bind λx h=>if mthOk x cn m h=true then(evs G cl l r h).bind λds h=>(cl f (x::ds) h).nx else .bad
 |.chn op op' a b c,r,h=>(ev G cl a r h).bind λx h=>(ev G cl b r h).bind λy h=>(cmpD op x y h).bind λp h=>match p with
  |.bl true=>(ev G cl c r h).bind λz h=>cmpD op' y z h
  |.bl false=>.ok (.bl false) h
  |_=>.bad
 |.rev o,r,h=>(ev G cl o r h).bind λx h=>revD x h
 |.dcT t i k v N cap,r,h=>(ev G cl i r h).bind λx h=>dtL t (ev G cl k) (ev G cl v) x (blockE N cap r) h
 |.dnt,_,h=>.ok (.ref h.length) (h++ [.dtt []])
 |.get2 o k d,r,h=>(ev G cl o r h).bind λx h=>if(dctAt h x).isSome=true then(ev G cl k r h).bind λy h=>(ev G cl d r h).bind λz h=>get2D x y z h else .bad
 |.join s e,r,h=>(ev G cl e r h).bind λx h=>joinD s x h
 |.dcomp t1 i1 t2 i2 k v N cap,r,h=>(ev G cl i1 r h).bind λx h=>dcL t1 (ev G cl i2) t2 (ev G cl k) (ev G cl v) x (blockE N cap r) h
 |.comp t k it cs e N cap,r,h=>(evs G cl it r h).bind λxs h=>(compL t (evt G cl cs) (ev G cl e) h.length k xs h (blockE N cap r) (h++ [.lst []])).bind λ_ h'=>.ok (.ref h.length) h'
noncomputable def evt(G:Gs)(cl:Cl):Es->Ev->Hh->Rs Bool
 |.nil,_,h=>.ok true h
 |.cons c l,r,h=>(ev G cl c r h).bind λx h=>match truD x h with
  |some true=>evt G cl l r h
  |some false=>.ok false h
  |none=>.bad
noncomputable def evs(G:Gs)(cl:Cl):Es->Ev->Hh->Rs (List D)
 |.nil,_,h=>.ok [] h
 |.cons e l,r,h=>(ev G cl e r h).bind λd h=>(evs G cl l r h).bind λds h=>.ok (d::ds) h
end
def visB(sc:Scope)(x:Str):Bool:=match sc.names.lookup x with
 |some .local=>true
 |some .cell=>true
 |some .free=>true
 |_=>false
def locB(sc:Scope)(x:Str):Bool:=match sc.names.lookup x with
 |some .local=>true
 |some .cell=>true
 |_=>false
def glB(sc:Scope)(x:Str):Bool:=match sc.names.lookup x with
 |some .globalImplicit=>true
 |_=>false
def noDbg(x:Str):Bool:= !(x==("__debug__":Str))&& !(x==("__classdict__":Str))&& !(x==("__name__":Str))
def Bop.op:Bop->Operator
 |.add=>.Add|.sub=>.Sub|.mul=>.Mult|.fdiv=>.FloorDiv|.mod=>.Mod|.pow=>.Pow
def Cop.op:Cop->CmpOp
 |.lt=>.Lt|.le=>.LtE|.gt=>.Gt|.ge=>.GtE|.eq=>.Eq|.ne=>.NotEq|.is=>.Is|.isnot=>.IsNot|.inn=>.In|.notin=>.NotIn
def Blt.nm:Blt->Str
 |.len=>"len"|.isinst=>"isinstance"|.int=>"int"|.list=>"list"|.max=>"max"|.min=>"min"|.sorted=>"sorted"|.all=>"all"|.tup=>"tuple"
def mmNm:Bool->Str
 |true=>"max"
 |false=>"min"
def noSet:PySem.Expr->Bool
 |.Set _ _ _=>false
 |_=>true
def noStar:PySem.Expr->Bool
 |.Starred _ _=>false
 |_=>true
def relab(scope sc:Scope):Scope:={scope with names:=scope.names.map λ(n,k)=>if(k== .free&&sc.kind== .function&&sc.names.lookup n==some .cell) then(n,.cell) else(n,k)}
def chkNs'(N:List Str)(sc:Scope):List Nat->List PySem.Expr->Bool
 | [],[]=>true
 |i::is,.Name x _::es=>N[i]? ==some x&&locB sc x&&chkNs' N sc is es
 |_,_=>false
def chkT'(N:List Str)(sc:Scope):Tg->PySem.Expr->Bool
 |.nm i,.Name x _=>N[i]? ==some x&&locB sc x
 |.tp l,.Tuple es _ _=>chkNs' N sc l es
 |_,_=>false
def nodupB:List Str->Bool
 | []=>true
 |x::l=> !l.contains x&&nodupB l
def scOk(scope sc:Scope):Bool:=scope.kind== .function&&sc.kind== .function&&nodupB (scope.names.map (·.1))&&scope.names.all λp=>(!(p.2== .local)||scope.names.lookup p.1==some .local)&&(!(p.2== .free)||sc.names.lookup p.1==some .cell)
def capOk(N N':List Str)(cap:List Nat)(scope:Scope):Bool:=decide (cap.length<=N'.length)&&(N'.drop (N'.length-cap.length)).map some==cap.map (λ(i:Nat)=>N[i]?)&&(N'.drop (N'.length-cap.length)).all λx=>scope.names.lookup x==some .free
end Ng
end
section
namespace Ng
open PySem PySem.Spec PyProof.Rows L2
section
variable {prog:Program}{w:World}{A:Around}{E:Value->Shared->Prop}{s:Shared}{it d:Addr}{i n ep:Nat}{q1 q2:Value}{od:Obj}{es:Array DictEntry}
theorem zzK:Builtin.Dict_items.ownsTuple "dict_itemiterator"=true:=by decide
theorem itm_iter{v:Addr}{ov:Obj}{Q:Value->Shared->Prop}(gv:s.heap.get? v=some ov)(cv:ov.cls=.type "dict_items")(dv:ov.data=.fields #[.ref d])(go:s.heap.get? d=some od)(gd:od.data=.dict es ep)
 (c:Q (.ref s.heap.objs.size) {s with heap:=s.heap.push {cls:=.type "dict_itemiterator",data:=.fields #[.none,.bool false,.ref d,.int 0 0,.int es.size 0,.int ep 0,.none,.none]}}):wpAny (model prog w) A (pyIter (.ref v)) Q E s:=by
 have tv:s.TypeIs (.ref v) "dict_items":=⟨ov,gv,cv⟩
 refine wpAny_pyIter_slot tv F.slot_dict_items_iter (wpAny_call_entry F.slot_dict_items_iter tv F.entry_dict_items_iter ?_ (F.args_dict_items_iter_1 _))
 unfold Builtin.«dict_items.__iter__»
 refine wpAny_bind (wpAny_pure (wpAny_bind ?_))
 unfold Builtin.Dict_items.dictOf
 refine wpAny_bind (wpAny_field gv dv (x:=.ref d) rfl (wpAny_pure (wpAny_bind ?_)))
 unfold Builtin.Dict_items.newIterator
 refine wpAny_bind (wpAny_dictEntries go gd (wpAny_bind (wpAny_dictEpoch go gd ?_)))
 simp only[zzK,if_true]
 refine wpAny_newObj_type (wpAny_pure ⟨_,rfl,"dict_itemiterator",_,⟨_,Heap.get?_push_size _ rfl,rfl⟩,F.slot_dict_itemiterator_next.lookup,?_⟩)
  (by simp only[sizeOk,Builtin.Dict_items.ownedTupleFields,List.size_toArray,List.length_append,List.length_cons,List.length_nil,sizeLine_eq];omega)
 simpa [rawInt,Builtin.Dict_items.ownedTupleFields] using c
theorem itm_next{en:DictEntry}{Q:Option Value->Shared->Prop}(hit:IsItemIter s.heap it d i n ep q1 q2)(go:s.heap.get? d=some od)(gd:od.data=.dict es ep)(hn:es.size=n)(hx:es[i]? =some en)
 (c:∀g,IsItemIterOut g it d (i+1) n ep en.key en.val s.heap.objs.size->g.get? s.heap.objs.size=some {cls:=.type "tuple",data:=.seq #[en.key,en.val]}->g.objs.size=s.heap.objs.size+1->
   (∀b o,b≠it->s.heap.get? b=some o->g.get? b=some o)->Q (some (.ref s.heap.objs.size)) {s with heap:=g}):wpAny (model prog w) A (pyNext (.ref it)) Q E s:=by
 obtain⟨hp,gn,dr,tk,os⟩:=s
 have T0:Shared.TypeIs ⟨hp,gn,dr,tk,os⟩ (.ref it) "dict_itemiterator":=⟨_,hit,rfl⟩
 unfold pyNext
 refine wpAny_bind (wpAny_attempt (wpAny_callSpecial?_slot (name:=Str.ofString "__next__") T0 F.slot_dict_itemiterator_next (wpAny_call_entry F.slot_dict_itemiterator_next T0 F.entry_dict_itemiterator_next ?_ (F.args_dict_itemiterator_next_1 _))))
 refine wpAny_bind (wpAny_pure (wpAny_bind (wpAny_bind ?_)))
 first |refine wpAny_bind (wpAny_typeNameOfWhole_itemiter T0 (wpAny_pure ?_))|refine wpAny_bind (wpAny_typeNameOf_itemiter T0 (wpAny_pure ?_))
 refine wpAny_bind (wpAny_fieldsOf hit rfl ?_)
 simp only[zzK,if_true]
 show wpAny _ _ (if(Value.ref d==Value.none)=true then _ else _) _ _ _
 rw[if_neg (show ¬((Value.ref d==Value.none)=true) from Bool.false_ne_true)]
 refine wpAny_bind (wpAny_pure (wpAny_bind (wpAny_dictEntries go gd ?_)))
 rw[if_neg (by rw[hn];simp)]
 refine wpAny_bind (wpAny_pure (wpAny_bind (wpAny_dictEpoch go gd ?_)))
 rw[if_neg (by simp)]
 refine wpAny_pure ?_
 have lt:i<es.size:=(Array.getElem?_eq_some_iff.mp hx).1
 have ee:es[i]=en:=(Array.getElem?_eq_some_iff.mp hx).2
 simp only[show ¬((i:Int)<0) from by omega,if_false,Int.toNat_natCast,hx]
 refine wpAny_bind ?_
 first |refine wpAny_bind (wpAny_typeNameOfWhole_itemiter T0 (wpAny_pure ?_))|refine wpAny_bind (wpAny_typeNameOf_itemiter T0 (wpAny_pure ?_))
 refine wpAny_bind (wpAny_isOneOf_itemiter T0 ?_)
 show wpAny _ _ (setField (.ref it) 3 (rawInt ((i:Int)+1))>>=_) _ _ ⟨hp,gn,dr,tk,os⟩
 refine wpAny_bind (wpAny_setField_rec hit (by simp) λa1 e1 s1=>?_)
 replace s1:Heap.SameBut it hp a1:=s1
 replace e1:IsItemIter a1 it d (i+1) n ep q1 q2:=by
  have z:((i+1:Nat):Int)=(i:Int)+1:=by omega
  unfold IsItemIter;rw[z];simpa [rawInt] using e1
 have T1:Shared.TypeIs ⟨a1,gn,dr,tk,os⟩ (.ref it) "dict_itemiterator":=⟨_,e1,rfl⟩
 refine wpAny_bind (wpAny_holding (wpAny_bind (wpAny_isOneOf_itemiter T1 (wpAny_bind (wpAny_isOneOf_itemiter T1 ?_)))))
 show wpAny _ _ (Builtin.Dict_items.pairFromOwner (.ref it) 6 en.key en.val) _ _ ⟨a1,gn,dr,tk,os⟩
 unfold Builtin.Dict_items.pairFromOwner
 refine wpAny_bind (wpAny_newTuple ?_)
 have e2:IsItemIter (a1.push {cls:=.type "tuple",data:=.seq #[en.key,en.val]}) it d (i+1) n ep q1 q2:=Heap.get?_push_of_some _ e1
 generalize h2:a1.push {cls:=.type "tuple",data:=.seq #[en.key,en.val]}=a2 at e2
 have z1:a1.objs.size=hp.objs.size:=s1.1
 have il:it<hp.objs.size:=Heap.lt_size hit
 have t2:a2.get? hp.objs.size=some {cls:=.type "tuple",data:=.seq #[en.key,en.val]}:=by rw[<- h2, <- z1];exact Heap.get?_push_size _ rfl
 have z2:a2.objs.size=hp.objs.size+1:=by rw[<- h2,Heap.size_push,z1]
 have k2:∀b o,b≠it->hp.get? b=some o->a2.get? b=some o:=λb o hb e=>by rw[<- h2];exact Heap.get?_push_of_some _ (s1.extBut b o hb e)
 show wpAny _ _ (Builtin.Dict_items.ownedTupleIsFree (.ref it)>>=_) _ _ ⟨a2,gn,dr,tk,os⟩
 rw[z1]
 clear h2 e1 s1 T1 z1 a1
 refine wpAny_bind ?_
 unfold Builtin.Dict_items.ownedTupleIsFree
 refine wpAny_bind (wpAny_field e2 rfl (x:=.none) rfl (wpAny_pure ?_))
 simp only[if_true]
 refine wpAny_bind (wpAny_field e2 rfl (x:=q1) rfl (wpAny_bind (wpAny_field e2 rfl (x:=q2) rfl ?_)))
 refine wpAny_bind (wpAny_setField_rec e2 (by simp) λa3 e3 s3=>?_)
 replace s3:Heap.SameBut it a2 a3:=s3
 replace e3:IsItemIter a3 it d (i+1) n ep en.key q2:=e3
 refine wpAny_bind (wpAny_setField_rec e3 (by simp) λa4 e4 s4=>?_)
 replace s4:Heap.SameBut it a3 a4:=s4
 replace e4:IsItemIter a4 it d (i+1) n ep en.key en.val:=e4
 refine wpAny_bind (wpAny_setField_rec e4 (by simp) λa5 e5 s5=>?_)
 replace s5:Heap.SameBut it a4 a5:=s5
 replace e5:IsItemIterOut a5 it d (i+1) n ep en.key en.val hp.objs.size:=e5
 refine wpAny_bind (wpAny_setField_rec e5 (by simp) λa6 e6 s6=>?_)
 replace s6:Heap.SameBut it a5 a6:=s6
 replace e6:IsItemIterOut a6 it d (i+1) n ep en.key en.val hp.objs.size:=e6
 refine wpAny_bind (wpAny_letGo (wpAny_pure (wpAny_pure ⟨_,rfl,wpAny_pure (c a6 e6 ?_ ?_ ?_)⟩)))
 ·exact s6.extBut _ _ (Nat.ne_of_gt il) (s5.extBut _ _ (Nat.ne_of_gt il) (s4.extBut _ _ (Nat.ne_of_gt il) (s3.extBut _ _ (Nat.ne_of_gt il) t2)))
 ·show a6.objs.size=hp.objs.size+1
  rw[s6.1,s5.1,s4.1,s3.1,z2]
 ·exact λb o hb e=>s6.extBut b o hb (s5.extBut b o hb (s4.extBut b o hb (s3.extBut b o hb (k2 b o hb e))))
theorem itm_end{Q:Option Value->Shared->Prop}(hh:A.handled=none)(hit:IsItemIter s.heap it d i n ep q1 q2)(go:s.heap.get? d=some od)(gd:od.data=.dict es ep)(hn:es.size=n)(hx:n<=i)
 (c:∀g,Heap.ExtBut it s.heap g->Q none {s with heap:=g}):wpAny (model prog w) A (pyNext (.ref it)) Q E s:=by
 have T0:s.TypeIs (.ref it) "dict_itemiterator":=⟨_,hit,rfl⟩
 unfold pyNext
 refine wpAny_bind (wpAny_attempt (wpAny_callSpecial?_slot (name:=Str.ofString "__next__") T0 F.slot_dict_itemiterator_next (wpAny_call_entry F.slot_dict_itemiterator_next T0 F.entry_dict_itemiterator_next ?_ (F.args_dict_itemiterator_next_1 _))))
 refine wpAny_bind (wpAny_pure (wpAny_bind (wpAny_bind ?_)))
 first |refine wpAny_bind (wpAny_typeNameOfWhole_itemiter T0 (wpAny_pure ?_))|refine wpAny_bind (wpAny_typeNameOf_itemiter T0 (wpAny_pure ?_))
 refine wpAny_bind (wpAny_fieldsOf hit rfl ?_)
 simp only[zzK,if_true]
 show wpAny _ _ (if(Value.ref d==Value.none)=true then _ else _) _ _ s
 rw[if_neg (show ¬((Value.ref d==Value.none)=true) from Bool.false_ne_true)]
 refine wpAny_bind (wpAny_pure (wpAny_bind (wpAny_dictEntries go gd ?_)))
 rw[if_neg (by rw[hn];simp)]
 refine wpAny_bind (wpAny_pure (wpAny_bind (wpAny_dictEpoch go gd ?_)))
 rw[if_neg (by simp)]
 refine wpAny_pure ?_
 have ge:es.size<=i:=by omega
 simp only[show ¬((i:Int)<0) from by omega,if_false,Int.toNat_natCast,Array.getElem?_eq_none ge]
 refine wpAny_bind ?_
 first |refine wpAny_bind (wpAny_typeNameOfWhole_itemiter T0 (wpAny_pure ?_))|refine wpAny_bind (wpAny_typeNameOf_itemiter T0 (wpAny_pure ?_))
 show wpAny _ _ (setField (.ref it) 2 .none>>=_) _ _ s
 refine wpAny_bind (wpAny_setField hit rfl (by simp) ?_)
 show wpAny _ _ (newExc (.type "StopIteration") []>>=_) _ _ _
 refine wpAny_bind ?_
 simp only[newExc,newTuple]
 refine wpAny_bind (wpAny_newObj_type ?_ (by size_fits))
 refine wpAny_bind (m:=firstArgMember _ _) (wpAny_of_eq (a:=Value.none) (by first |rfl|(simp only[firstArgMember];rfl)) ?_)
 refine wpAny_newObj_type ?_ (by size_fits)
 simp only[raiseNew]
 refine wpAny_bind (wpAny_handled ?_)
 rw[show A.in1.handled=none from hh]
 refine wpAny_bind (wpAny_pure (wpAny_throw ?_))
 refine wpAny_bind (wpAny_isInstance (T:="StopIteration") (b:=true) ⟨_,Heap.get?_push_size _ rfl,rfl⟩ isSubtype_stop ?_)
 exact wpAny_pure (c _ (((Heap.SameBut.update ..).extBut.push _).push _))
end
theorem vzJ(P P':Program)(w w':World):entryOfKey (tupleKind (intKind P w))=entryOfKey (tupleKind (intKind P' w')):=rfl
theorem itemsI{P:Program}{w:World}:∀{ks:List Int}{us:List Value},Vals (ks.map V.int) us->ItemsAre (intKind P w) ks us
 | [],_,.nil=>.nil
 |k::ks,_,.cons h t=>by
  obtain⟨tk,rfl⟩:=h
  exact .cons (by show Value.isInt k (.int k tk)=true;simp[Value.isInt]) (itemsI t)
section
variable {X:Cx}{pins:List (Addr×Obj)}{σ:Sg}{H:Hp}{s:Shared}
theorem keyI(I:Inv X pins σ H s){b:Addr}{k:List Int}(h:SqT X.K H b (k.map V.int)):(tupleKind (intKind X.prog X.w)).is s.heap k b:=by
 obtain⟨its,p,t,_⟩:=I.tuple h
 obtain⟨o,h1,h2,n,h3⟩:=t
 exact⟨o,its.toArray,n,h1,h2,h3,by simpa using itemsI p⟩
theorem wz6{xs:List (List Int×Addr×Value)}{k:List Int}:(atKey xs k).isSome=xs.any λx=>decide (x.1=k):=by
 induction xs with
 |nil=>rfl
 |cons x xs ih=>
  by_cases e:x.1=k
  ·simp[atKey,List.find?_cons,e]
  ·have:atKey (x::xs) k=atKey xs k:=by simp[atKey,List.find?_cons,e]
   rw[this,ih];simp[e]
theorem wzc{α:Type}{l:List (List Int×α)}{xs:List (List Int×Addr×Value)}{k:List Int}(h:l.map (·.1)=xs.map (·.1)):l.any (λkv=>decide (kv.1=k))=xs.any λx=>decide (x.1=k):=by
 have a:l.any (λkv=>decide (kv.1=k))=(l.map (·.1)).any λy=>decide (y=k):=by rw[List.any_map];rfl
 have b:(xs.any λx=>decide (x.1=k))=(xs.map (·.1)).any λy=>decide (y=k):=by rw[List.any_map];rfl
 rw[a,b,h]
theorem vzp(k:List Int):∀l:List (List Int×D),(valT l k).isSome=l.any λkv=>decide (kv.1=k)
 | []=>rfl
 |p::l=>by
  have ih:=vzp k l
  unfold valT at ih⊢
  rw[List.find?_cons,List.any_cons]
  by_cases e:p.1=k
  ·rw[decide_eq_true e];rfl
  ·rw[decide_eq_false e];simpa using ih
theorem vzo{K:PySem.W.Frag}{m:List Addr}{k:List Int}{d:D}:∀{ds:List (List Int×D)}{xs:List (List Int×Addr×Value)}{us:List V},ds.map (·.1)=xs.map (·.1)->RDs K m H (ds.map (·.2)) us->Vals us (xs.map (·.2.2))->valT ds k=some d->∃v p,RD K m H d v/\atKey xs k=some p/\RelV v p.2
 | [],_,_,_,_,_,e=>by cases e
 |_::_,[],_,h,_,_,_=>by cases h
 |q::ds,x::xs,us,h,r,p,e=>by
  cases r with
  |cons r1 r=>
   cases p with
   |cons p1 p=>
    obtain⟨h1,h2⟩:=List.cons.inj (show q.1::ds.map (·.1)=x.1::xs.map (·.1) from h)
    unfold valT at e
    rw[List.find?_cons] at e
    by_cases z:q.1=k
    ·rw[decide_eq_true z] at e
     have e':q.2=d:=Option.some.inj e
     subst e'
     have z':x.1=k:=by rw[<- h1];exact z
     exact⟨_,x.2,r1,by simp[atKey,List.find?_cons,z'],p1⟩
    ·rw[decide_eq_false z] at e
     have z':¬x.1=k:=by rw[<- h1];exact z
     have:atKey (x::xs) k=atKey xs k:=by simp[atKey,List.find?_cons,z']
     rw[this]
     exact vzo h2 r p e
theorem qzN{K:PySem.W.Frag}{m:List Addr}:∀{ds:List D}{vs:List V}{l:List Int},RDs K m H ds vs->intsK ds=some l->vs=l.map V.int
 |_,_,_,.nil,e=>by cases e;rfl
 |_,_,_,.cons r t,e=>by
  cases r<;>first |(cases e;done)|skip
  simp only[intsK,Option.map_eq_some_iff] at e
  obtain⟨l',e1,rfl⟩:=e
  rw[qzN t e1]
  rfl
theorem vzK(I:Inv X pins σ H s){m:List Addr}{h:Hh}(w:Wd X.K m h H){x:D}{v:V}{l:List (List Int×D)}(r:RD X.K m H x v)(e:dtfAt h x=some l):
 ∃n a xs us o es ep,x=.ref n/\v=.ref a/\h[n]? =some (.dtf l)/\m[n]? =some a/\H a=some (.frz o (.own a))/\Dfo a xs o es ep/\s.heap.get? a=some o/\l.map (·.1)=xs.map (·.1)/\(∀x∈xs,SqT X.K H x.2.1 (x.1.map V.int))/\RDs X.K m H (l.map (·.2)) us/\Vals us (xs.map (·.2.2))/\s.heap.DictOfH (tupleKind (intKind X.prog X.w)) a xs:=by
 cases r<;>first |(cases e;done)|skip
 rename_i n a ha
 simp only[dtfAt] at e
 split at e
 ·rename_i l' el
  cases e
  obtain⟨xs,us,o,es,ep,q1,q2,q3,q4,q5,q6⟩:RO X.K m H a (.dtf l):=w.ob n _ a el ha
  have go:s.heap.get? a=some o:=(show ObjOk X.prog X.w H s.heap a (.frz o (.own a)) from I.hok a _ q1).1
  obtain⟨d1,d2,d3,d4,⟨P,w',d5⟩,d6⟩:=id q2
  exact⟨n,a,xs,us,o,es,ep,rfl,rfl,el,ha,q1,q2,go,q3,q4,q5,q6,o,es,ep,go,d3,d4,d5.trans (by rw[vzJ P X.prog w' X.w]),λx hx=>keyI I (q4 x hx),d6⟩
 ·cases e
theorem vz7{prog:Program}{w:World}(d:Addr)(hd:(d==sysModules)=false):MeetsIn prog w (Builtin.«dict.__len__» ⟨[.ref d],[]⟩) (λ_ R s=>∃o es ep,s.heap.get? d=some o/\o.data=.dict es ep/\R (.ok (.ret (.int es.size s.toks))) {s with toks:=s.toks+1}):=
 .of_wp λA R s ⟨o,es,ep,ho,hdat,h⟩=>by
  show wpAny _ _ (dictSize d>>=_) _ _ s
  unfold dictSize
  refine wpAny_bind (wpAny_bind (wpAny_dictEntries ho hdat (wpAny_pure ?_)))
  show wpAny _ _ (Builtin.Dict.pendingCount d>>=_) _ _ s
  refine wpAny_bind (wpAny_pendingCount_other hd (wpAny_ret_mkInt ?_))
  rw[Nat.add_zero];exact h
theorem xzA{prog:Program}{w:World}{A:Around}{E:Value->Shared->Prop}{s:Shared}{d:Addr}{o:Obj}{es:Array DictEntry}{ep:Nat}{Q:Value->Shared->Prop}(hd:(d==sysModules)=false)(ho:s.heap.get? d=some o)(hx:o.ExactDict)(hdat:o.data=.dict es ep)(hfit:(es.size:Int)<2^63)
 (h:Q (.int es.size (s.toks+1)) {s with toks:=s.toks+1+1}):wpAny (model prog w) A (call (.builtin "len") [.ref d]) Q E s:=by
 have ty:s.TypeIs (.ref d) "dict":=⟨o,ho,hx.1⟩
 refine Calls.call_function_entry kind_len plain_len entry_len (args_len1 _) ?_
 unfold Builtin.«len»
 refine wpAny_bind (m:=oneArg "len" _) (wpAny_pure ?_)
 refine wpAny_bind (m:=callSpecial? (.ref d) (Str.ofString "__len__")) (wpAny_callSpecial?_slot (name:=Str.ofString "__len__") ty F.slot_dict_len (call_meetsIn F.slot_dict_len ty F.entry_dict_len (F.args_dict_len_1 _) (vz7 d hd) ⟨o,es,ep,ho,hdat,?_⟩))
 show wpAny _ _ _ _ _ {s with toks:=s.toks+1}
 refine wpAny_bind (wpAny_holding (wpAny_pure (wpAny_bind (wpAny_letGo ?_))))
 show wpAny _ _ (if((es.size:Nat):Int)<0 then _ else _) _ _ _
 rw[if_neg (by omega)]
 show wpAny _ _ (if((es.size:Nat):Int) ≥ 2^63 then _ else _) _ _ _
 rw[if_neg (by omega)]
 exact wpAny_bind (wpAny_mkInt (wpAny_pure ⟨_,rfl,h⟩))
end
inductive CT (A:Around) (s:Shared) (x:Value):List Value->Bool->Prop where
 |nil:CT A s x [] false
 |hit {y:Value} {ys:List Value} (h:SeqAt.EqAt A s y x true):CT A s x (y::ys) true
 |mis {y:Value} {ys:List Value} {b:Bool} (h:SeqAt.EqAt A s y x false) (r:CT A s x ys b):CT A s x (y::ys) b
section
open PySem.SeqAt
open PySem.AutoSeq1 (wpAny_loadPart')
open PySem.MeetsSeq PySem.MeetsSeq2 PySem.MeetsSeq3
theorem ct_loop(l:Addr)(items:Array Value)(n:Nat)(dd:Option Addr)(sl:Array (Option Value))(x:Value){b:Bool}:∀(m i:Nat),items.size-i=m->Meets (Builtin.«list.__contains__.loop» ⟨[.ref l,x,rawInt i],[]⟩)
 (λA R s=>s.heap.get? l=some {cls:=.type "list",dict:=dd,data:=.seq items n,slots:=sl}/\CT A.in1 s x (items.toList.drop i) b/\R (.ok (.ret (.bool b))) s):=by
 intro m
 induction m with
 |zero=>
  intro i hk prog w A R s h
  obtain⟨hp,g,d,tk,os⟩:=s;obtain⟨hl,hf,h⟩:=h
  wp_walk using wpAny_loadPart' hl
  have hi:items[((i:Nat):Int).toNat]? =none:=by simp;omega
  have hd:items.toList.drop i=[]:=by simp;omega
  rw[hd] at hf
  cases hf
  rw[hi]
  wp_walk
  exact h
 |succ m ih=>
  intro i hk prog w A R s h
  obtain⟨hp,g,d,tk,os⟩:=s;obtain⟨hl,hf,h⟩:=h
  have lt:i<items.size:=by omega
  have d1:items.toList.drop i=items[i]::items.toList.drop (i+1):=by rw[List.drop_eq_getElem_cons (by simpa using lt)];simp
  have hi:items[((i:Nat):Int).toNat]? =some items[i]:=by simp[lt]
  have hc:((i:Int)+1)=((i+1:Nat):Int):=by push_cast;rfl
  wp_walk using wpAny_loadPart' hl
  rw[hi]
  rw[d1] at hf
  cases hf with
  |hit he=>
   refine wpAny_bind (he prog w _ _ ?_)
   wp_walk
   exact h
  |mis he r=>
   refine wpAny_bind (he prog w _ _ ?_)
   wp_walk
   rw[hc]
   exact⟨plainId_quiet plain_contains_loop _,codeAny_builtin entry_contains_loop (by
    rw[Around.under_plainId plain_contains_loop _]
    exact ih (i+1) (by omega) prog w A R _ ⟨hl,r,h⟩)⟩
theorem ct_list(l:Addr)(items:Array Value)(n:Nat)(dd:Option Addr)(sl:Array (Option Value))(x:Value){b:Bool}:Meets (Builtin.«list.__contains__» ⟨[.ref l,x],[]⟩)
 (λA R s=>s.heap.get? l=some {cls:=.type "list",dict:=dd,data:=.seq items n,slots:=sl}/\CT A.in1 s x items.toList b/\R (.ok (.ret (.bool b))) s):=by
 intro prog w A R s h
 obtain⟨hp,g,d,tk,os⟩:=s;obtain⟨hl,hf,h⟩:=h
 wp_walk using wpAny_loadPart' hl
 exact⟨plainId_quiet plain_contains_loop _,codeAny_builtin entry_contains_loop (by
  rw[Around.under_plainId plain_contains_loop _]
  exact ct_loop l items n dd sl x _ 0 rfl prog w A R _ ⟨hl,by simpa using hf,h⟩)⟩
end
end Ng
end
section
namespace Ng
open PySem PySem.Spec PyProof.Rows L2
def TDE(K:PySem.W.Frag)(f:Ev->Hh->Rs D):TE:=λs H Q=>∃m r h d h',Wd K m h H/\RSt K m H r s/\f r h=.ok d h'/\
 ∀m' v H',Gr K m H m' H'->Wd K m' h' H'->RD K m' H' d v->Q v H'
def TDT(K:PySem.W.Frag)(f:Ev->Hh->Rs D):TT:=λs H Q=>∃m r h d h' b,Wd K m h H/\RSt K m H r s/\f r h=.ok d h'/\truD d h'=some b/\
 ∀m' H',Gr K m H m' H'->Wd K m' h' H'->Q b H'
def TDA(K:PySem.W.Frag)(f:Ev->Hh->Rs (List D)):TA:=λs H Q=>∃m r h ds h',Wd K m h H/\RSt K m H r s/\f r h=.ok ds h'/\
 ∀m' vs H',Gr K m H m' H'->Wd K m' h' H'->RDs K m' H' ds vs->Q vs H'
def rD(K:PySem.W.Frag)(k:D->D->Hh->Rs D):R2:=λx y H Q=>∃m h dx dy d h',Wd K m h H/\RD K m H dx x/\RD K m H dy y/\k dx dy h=.ok d h'/\
 ∀m' v H',Gr K m H m' H'->Wd K m' h' H'->RD K m' H' d v->Q v H'
def rDc(K:PySem.W.Frag)(k:List D->Hh->Rs D):List V->Hp->VK->Prop:=λxs H Q=>∃m h ds d h',Wd K m h H/\RDs K m H ds xs/\k ds h=.ok d h'/\
 ∀m' v H',Gr K m H m' H'->Wd K m' h' H'->RD K m' H' d v->Q v H'
theorem _root_.L2.PE.wk{X:Cx}{e:PySem.Expr}{t t':TE}(h:PE X e t)(i:∀s H Q,t' s H Q->t s H Q):PE X e t':=λpins s σ H Q I q=>h pins s σ H Q I (i _ _ _ q)
theorem _root_.L2.PT.wk{X:Cx}{e:PySem.Expr}{t t':TT}(h:PT X e t)(i:∀s H Q,t' s H Q->t s H Q):PT X e t':=λpins s σ H Q I q=>h pins s σ H Q I (i _ _ _ q)
theorem _root_.L2.PA.wk{X:Cx}{e:List PySem.Expr}{t t':TA}(h:PA X e t)(i:∀s H Q,t' s H Q->t s H Q):PA X e t':=λpos pins s σ H Q I q=>h pos pins s σ H Q I (i _ _ _ q)
theorem TDE.two{K:PySem.W.Frag}{fa fb:Ev->Hh->Rs D}{k:D->D->Hh->Rs D}{s:Sg}{H:Hp}{R:V->V->Hp->Prop}{m:List Addr}{r:Ev}{h:Hh}{d:D}{h':Hh}(w:Wd K m h H)(st:RSt K m H r s)
 (e:((fa r h).bind λx h1=>(fb r h1).bind λy h2=>k x y h2)=.ok d h')
 (c:∀m2 H2 h2 dx dy x y,Gr K m H m2 H2->Wd K m2 h2 H2->RD K m2 H2 dx x->RD K m2 H2 dy y->k dx dy h2=.ok d h'->R x y H2):
 TDE K fa s H λx H1=>TDE K fb s H1 λy H2=>R x y H2:=by
 obtain⟨dx,h1,e1,e⟩:=Rs.bind_ok e
 obtain⟨dy,h2,e2,e⟩:=Rs.bind_ok e
 exact⟨m,r,h,dx,h1,w,st,e1,λm1 x H1 g1 w1 rx=>⟨m1,r,h1,dy,h2,w1,st.mono g1,e2,λm2 y H2 g2 w2 ry=>c m2 H2 h2 dx dy x y (g1.trans g2) w2 (rx.mono g2) ry e⟩⟩
theorem TDE.op{K:PySem.W.Frag}{fa fb f:Ev->Hh->Rs D}{k:D->D->Hh->Rs D}(hf:∀r h,f r h=(fa r h).bind λx h1=>(fb r h1).bind λy h2=>k x y h2)(s:Sg)(H:Hp)(Q:VK)(q:TDE K f s H Q):tOp (rD K k) (TDE K fa) (TDE K fb) s H Q:=by
 obtain⟨m,r,h,d,h',w,st,e,c⟩:=q
 rw[hf] at e
 exact TDE.two w st e λm2 H2 h2 dx dy x y g w2 rx ry e=>⟨m2,h2,dx,dy,d,h',w2,rx,ry,e,λm' v H' g'=>c m' v H' (g.trans g')⟩
structure XOk (X:Cx)(N:List Str)(sc:Scope):Prop where
 n:X.N=N
 s:X.env.scope=sc
 calm:X.calm=true
 nd:X.N.Nodup
 room:∃k,Room k X.A
 rng:X.mg "range"=none
 po:PassesOwn (model X.prog X.w) X.A X.env X.xe
def spD(K:PySem.W.Frag)(ca:Nat->Addr)(f:List D->Hh->Rs D)(n:Nat):Sp:=λvs H Q E=>vs.length=n/\∃m h ds,Wd K m h H/\RDs K m H ds vs/\(match f ds h with
 |.ok d h'=>∀m' v H',Gr K m H m' H'->Wd K m' h' H'->RD K m' H' d v->Q v H'
 |.exc c _ h'=>∀m' H' v,Gr K m H m' H'->Wd K m' h' H'->E v (some (ca c)) H'
 |.bad=>False)
abbrev bmV:List Value:= [.type "ValueError",.type "Exception",.type "BaseException",.type "object"]
structure ExcF (K:PySem.W.Frag)(C:Addr):Prop where
 own:PySem.W.excIn K C bmV "ValueError.__new__"=true
 kp:PySem.W.keepIn K (.ref C)=true
 val:PySem.W.kitOne K (.ref C) (.type "ValueError")=some true
structure COk (X:Cx)(G:Gs)(ca:Nat->Addr)(cl:Cl):Prop where
 att:∀p∈G.atts,∃C,PySem.W.nsIn X.K mainGlobals p.1=some (some (.ref C))/\Cls X.K C/\NoAttr X.K C p.2
 meth:∀p∈G.meths,∃C fa fd ps k,PySem.W.nsIn X.K mainGlobals p.1=some (some (.ref C))/\Cls X.K C/\Meth X.K C p.2.1 fa/\FnOk X.prog X.w X.K X.mg X.base (CX1 X.prog X.w) k fa fd ps (spD X.K ca (cl p.2.2) ps.length)/\Room k X.A/\Binds X.K fd ps []/\∀ds h,cl p.2.2 ds h≠ .bad->ds.length=ps.length
 new:∀p∈G.news,∃C fa fd ps k,PySem.W.nsIn X.K mainGlobals p.1=some (some (.ref C))/\X.mg p.1=some (.ref C)/\Mk X.K C fa/\FnOk X.prog X.w X.K X.mg X.base (CX1 X.prog X.w) k fa fd ps (spD X.K ca (cl p.2) ps.length)/\Room (k+1) X.A/\Binds X.K fd ps []/\∀ds h,cl p.2 ds h≠ .bad->ds.length=ps.length
structure GOk (X:Cx)(G:Gs)(ca:Nat->Addr)(cl:Cl):Prop where
 fn:∀(f:Nat)(x:Str),G.fns[f]? =some x->∃fa fd ps k,FnOk X.prog X.w X.K X.mg X.base (CX1 X.prog X.w) k fa fd ps (spD X.K ca (cl f) ps.length)/\Room k X.A/\X.mg x=some (.ref fa)/\PySem.W.keepIn X.K (.ref fa)=true/\Binds X.K fd ps []/\∀ds h,cl f ds h≠ .bad->ds.length=ps.length
 cst:∀(g:Nat)(x:Str)(d:D),G.csts[g]? =some (x,d)->∃v u,X.mg x=some u/\RelV v u/\∀m H,RD X.K m H d v
 blt:∀f:Blt,X.mg f.nm=none
 ty:∀t:Ty,X.mg (Str.ofString t.nm)=none
 exc:∀(c:Nat)(x:Str),G.excs[c]? =some x->X.mg x=some (.ref (ca c))/\ExcF X.K (ca c)
 sub:∀p∈G.sub,PySem.W.exmOne X.K (.ref (ca p.1)) (.ref (ca p.2))=some true/\PySem.W.kitOne X.K (.ref (ca p.1)) (.ref (ca p.2))=some true/\ExcF X.K (ca p.1)
 nsub:∀p∈G.nsub,PySem.W.kitOne X.K (.ref (ca p.1)) (.ref (ca p.2))=some false/\ExcN X.K (ca p.1)
 verr:X.mg "ValueError"=none
 c:COk X G ca cl
section
variable {X:Cx}
theorem opBin(op:Bop):OpR X (binaryOp op.op) (rD X.K (binD op)):=by
 intro pins s σ H x y v u Q I rx ry q
 obtain⟨m,h,dx,dy,d,h',w,r1,r2,e,c⟩:=q
 have fin:∀z,RD X.K m H d z->h=h'->Q z H:=λz rz eh=>by subst eh;exact c m z H Gr.refl w rz
 cases op with
 |add=>
  have k:(∃i j,dx=.int i/\dy=.int j)\/(∃a b,dx=.str a/\dy=.str b)\/(∃a b,dx=.tup a/\dy=.tup b)\/∃a b,dx=.ref a/\dy=.ref b:=by
   cases dx<;>first |(cases e;done)|skip
   ·exact .inl ⟨_,(by cases dy<;>first |(cases e;done)|exact⟨_,rfl,rfl⟩)⟩
   ·exact .inr (.inl ⟨_,(by cases dy<;>first |(cases e;done)|exact⟨_,rfl,rfl⟩)⟩)
   ·exact .inr (.inr (.inl ⟨_,(by cases dy<;>first |(cases e;done)|exact⟨_,rfl,rfl⟩)⟩))
   ·exact .inr (.inr (.inr ⟨_,(by cases dy<;>first |(cases e;done)|exact⟨_,rfl,rfl⟩)⟩))
  rcases k with ⟨i,j,rfl,rfl⟩|⟨a,b,rfl,rfl⟩|⟨a,b,rfl,rfl⟩|⟨a,b,rfl,rfl⟩
  ·cases r1;cases r2
   cases e
   exact op_add pins s σ H _ _ v u Q I rx ry ⟨_,_,rfl,rfl,fin _ (.int _) rfl⟩
  ·cases r1;cases r2
   have e':(if a.length+b.length<=sizeLine then Rs.ok (D.str (a++b)) h else .bad)=.ok d h':=e
   split at e'
   ·rename_i hz
    cases e'
    exact vz6 pins s σ H _ _ v u Q I rx ry ⟨_,_,rfl,rfl,hz,fin _ (.str _) rfl⟩
   ·cases e'
  ·have e':(if a.length+b.length<=1000/\0<a.length/\0<b.length then Rs.ok (D.tup (a++b)) h else .bad)=.ok d h':=e
   split at e'
   ·rename_i hz
    cases e'
    cases r1 with
    |tup h1 q1=>
     cases r2 with
     |tup h2 q2=>
      have l1:=q1.length
      have l2:=q2.length
      refine op_catT pins s σ H _ _ v u Q I rx ry ⟨_,_,_,_,rfl,rfl,h1,h2,(λz=>by rw[z,List.length_nil] at l1;omega),Nat.le_trans (by omega) (show 1000<=sizeLine by decide),(λz=>by rw[z,List.length_nil] at l2;omega),λ_ p hp=>?_⟩
      exact c m _ _ (Gr.tupNew hp) (w.keepNew hp) (.tup (.of jzy) ((q1.append q2).mono (Gr.tupNew hp)))
   ·cases e'
  ·have e':(match h[a]?,h[b]? with|some (.lst x),some (.lst y)=>(if x.length+y.length<=1000 then Rs.ok (D.ref h.length) (h++ [O.lst (x++y)]) else .bad)|_,_=>.bad)=.ok d h':=e
   split at e'
   ·rename_i la lb ea eb
    split at e'
    ·rename_i hz
     cases e'
     cases r1 with
     |ref m1=>
      cases r2 with
      |ref m2=>
       obtain⟨vs,hv,q1⟩:∃vs,H _=some (.lst vs)/\RDs X.K m H la vs:=w.ob a _ _ ea m1
       obtain⟨us,hu,q2⟩:∃vs,H _=some (.lst vs)/\RDs X.K m H lb vs:=w.ob b _ _ eb m2
       have l1:=q1.length
       have l2:=q2.length
       refine op_cat pins s σ H _ _ v u Q I rx ry ⟨_,_,_,_,rfl,rfl,hv,hu,Nat.le_trans (by omega) (show 1000<=sizeLine by decide),λp hp=>?_⟩
       obtain⟨w2,g2⟩:=w.lstNew hp (q1.append q2)
       exact c _ _ _ g2 w2 (.ref (by rw[<- w.len];simp))
    ·cases e'
   ·cases e'
 |sub=>
  obtain⟨i,rfl⟩:∃i,dx=.int i:=by cases dx<;>first |exact⟨_,rfl⟩|(cases e;done)
  obtain⟨j,rfl⟩:∃j,dy=.int j:=by cases dy<;>first |exact⟨_,rfl⟩|(cases e;done)
  cases r1;cases r2
  cases e
  exact op_sub pins s σ H _ _ v u Q I rx ry ⟨_,_,rfl,rfl,fin _ (.int _) rfl⟩
 |mul=>
  obtain⟨i,rfl⟩:∃i,dx=.int i:=by cases dx<;>first |exact⟨_,rfl⟩|(cases e;done)
  obtain⟨j,rfl⟩:∃j,dy=.int j:=by cases dy<;>first |exact⟨_,rfl⟩|(cases e;done)
  cases r1;cases r2
  have e':(if(-(2^64)<i/\i<2^64)\/(-(2^64)<j/\j<2^64) then Rs.ok (D.int (i*j)) h else .bad)=.ok d h':=e
  split at e'
  ·rename_i hz
   cases e'
   exact op_mul pins s σ H _ _ v u Q I rx ry ⟨_,_,rfl,rfl,hz,fin _ (.int _) rfl⟩
  ·cases e'
 |fdiv=>
  obtain⟨i,rfl⟩:∃i,dx=.int i:=by cases dx<;>first |exact⟨_,rfl⟩|(cases e;done)
  obtain⟨j,rfl⟩:∃j,dy=.int j:=by cases dy<;>first |exact⟨_,rfl⟩|(cases e;done)
  cases r1;cases r2
  have e':(if 0<j/\j<1073741824 then Rs.ok (D.int (i/j)) h else .bad)=.ok d h':=e
  split at e'
  ·rename_i hz
   cases e'
   exact op_fdiv pins s σ H _ _ v u Q I rx ry ⟨_,_,rfl,rfl,hz,fin _ (.int _) rfl⟩
  ·cases e'
 |mod=>
  obtain⟨i,rfl⟩:∃i,dx=.int i:=by cases dx<;>first |exact⟨_,rfl⟩|(cases e;done)
  obtain⟨j,rfl⟩:∃j,dy=.int j:=by cases dy<;>first |exact⟨_,rfl⟩|(cases e;done)
  cases r1;cases r2
  have e':(if 0<j then Rs.ok (D.int (i%j)) h else .bad)=.ok d h':=e
  split at e'
  ·rename_i hz
   cases e'
   exact op_mod pins s σ H _ _ v u Q I rx ry ⟨_,_,rfl,rfl,hz,fin _ (.int _) rfl⟩
  ·cases e'
 |pow=>
  obtain⟨i,rfl⟩:∃i,dx=.int i:=by cases dx<;>first |exact⟨_,rfl⟩|(cases e;done)
  obtain⟨j,rfl⟩:∃j,dy=.int j:=by cases dy<;>first |exact⟨_,rfl⟩|(cases e;done)
  cases r1;cases r2
  have e':(if 0<=j/\j<=1000000/\i.natAbs<2^64 then Rs.ok (D.int (i^j.toNat)) h else .bad)=.ok d h':=e
  split at e'
  ·rename_i hz
   cases e'
   exact op_pow pins s σ H _ _ v u Q I rx ry ⟨_,_,rfl,rfl,hz,fin _ (.int _) rfl⟩
  ·cases e'
theorem wzw{f:D->D->Option Bool}:∀{a b:List D}{k:Bool},eqL f a b=some k->∃e:Nat->Bool,(∀j x y,a[j]? =some x->b[j]? =some y->f x y=some (e j))/\k=((List.range (min a.length b.length)).all e&&a.length==b.length)
 | [],[],k,h=>by
   simp[eqL] at h
   exact⟨λ_=>true,λj x y e=>by simp at e,by simp[h.symm]⟩
 | [],_::_,k,h=>by
   simp[eqL] at h
   exact⟨λ_=>true,λj x y e=>by simp at e,by simp[h.symm]⟩
 |_::_,[],k,h=>by
  simp[eqL] at h
  exact⟨λ_=>true,λj x y _ e=>by simp at e,by simp[h.symm]⟩
 |x::xs,y::ys,k,h=>by
  simp only[eqL] at h
  split at h
  ·rename_i a b h1 h2
   obtain⟨e,p,q⟩:=wzw h2
   refine⟨λj=>match j with
    |0=>a
    |j+1=>e j,λj x' y' e1 e2=>?_,?_⟩
   ·cases j with
    |zero=>simp at e1 e2;subst e1;subst e2;exact h1
    |succ j=>exact p j x' y' (by simpa using e1) (by simpa using e2)
   ·have h':(a&&b)=k:=Option.some.inj h
    rw[<- h',q]
    simp only[List.length_cons,Nat.succ_min_succ,List.range_succ_eq_map,List.all_cons,List.all_map]
    rw[show((xs.length+1==ys.length+1):Bool)=(xs.length==ys.length) by simp]
    rw[Bool.and_assoc]
    rfl
  ·cases h
theorem eqD_same{pins:List (Addr×Obj)}{σ:Sg}{H:Hp}{s:Shared}{m:List Addr}(I:Inv X pins σ H s):∀(n:Nat){d d':D}{v:V}{b:Bool},RD X.K m H d v->RD X.K m H d' v->eqD n d d'=some b->b=true:=by
 intro n
 induction n with
 |zero=>
  intro d d' v b r r' e
  cases r<;>cases r'<;>simp[eqD] at e<;>exact e
 |succ n ih=>
  intro d d' v b r r' e
  cases r<;>cases r'<;>first |(simp[eqD] at e;exact e)|(simp[eqD] at e;done)|skip
  rename_i a ds vs h1 q1 ds' vs' q2 h2
  obtain rfl:=I.tuple_inj h1 h2
  have go:∀{ds ds':List D}{vs:List V}{b:Bool},RDs X.K m H ds vs->RDs X.K m H ds' vs->eqL (eqD n) ds ds'=some b->b=true:=by
   intro ds
   induction ds with
   |nil=>
    intro ds' vs b q1 q2 e
    cases q1;cases q2
    simp[eqL] at e;exact e
   |cons x xs ih2=>
    intro ds' vs b q1 q2 e
    cases q1 with
    |cons p1 t1=>
     cases q2 with
     |cons p2 t2=>
      simp only[eqL] at e
      split at e
      ·rename_i k1 k2 z1 z2
       have:=ih p1 p2 z1
       have:=ih2 t1 t2 z2
       subst_vars
       simpa using e.symm
      ·cases e
  exact go q1 q2 (by simpa [eqD] using e)
theorem eqAt_D{pins:List (Addr×Obj)}{σ:Sg}{H:Hp}{s:Shared}{m:List Addr}(I:Inv X pins σ H s):∀(n:Nat){A:Around}{d d':D}{v v':V}{u u':Value}{b:Bool},A.units+n<cLine->RD X.K m H d v->RD X.K m H d' v'->RelV v u->RelV v' u'->eqD n d d'=some b->SeqAt.EqAt A s u u' b:=by
 intro n
 induction n with
 |zero=>
  intro A d d' v v' u u' b hu r r' q q' e
  cases r<;>cases r'<;>first |(simp[eqD] at e;done)|skip
  all_goals simp[eqD] at e
  all_goals subst e
  all_goals first
   |(have h:=xzj (A:=A) (s:=s) q q' rfl rfl;simpa [eqV] using h)
 |succ n ih=>
  intro A d d' v v' u u' b hu r r' q q' e
  cases r<;>cases r'<;>first |(simp[eqD] at e;done)|skip
  all_goals first
   |(simp[eqD] at e;subst e;have h:=xzj (A:=A) (s:=s) q q' rfl rfl;simpa [eqV] using h)
   |skip
  rename_i a ds vs h1 q1 a' ds' vs' h2 q2
  cases q;cases q'
  by_cases ha:a=a'
  ·subst ha
   have:=eqD_same I (n+1) (.tup h1 q1) (.tup h2 q2) e
   subst this
   exact SeqAt.EqAt.same _
  ·obtain⟨its,p1,t1,_⟩:=I.tuple h1
   obtain⟨its',p2,t2,_⟩:=I.tuple h2
   obtain⟨f,hf,rfl⟩:=wzw (show eqL (eqD n) ds ds'=some b from by simpa [eqD] using e)
   have l1:=q1.length
   have l2:=q2.length
   have l3:=p1.length
   have l4:=p2.length
   have key:=SeqAt.RcAt.tuples (A:=A) (e:=f) t1 t2 (by omega) (λj j1 j2=>by
    have j1':j<its.length:=by simpa using j1
    have j2':j<its'.length:=by simpa using j2
    have e1:ds[j]? =some ds[j]:=List.getElem?_eq_getElem (by omega)
    have e2:ds'[j]? =some ds'[j]:=List.getElem?_eq_getElem (by omega)
    obtain⟨x,hx,rx⟩:=q1.get e1
    obtain⟨y,hy,ry⟩:=q2.get e2
    obtain⟨ux,hux,sx⟩:=p1.get hx
    obtain⟨uy,huy,sy⟩:=p2.get hy
    have z1:its.toArray[j]=ux:=by
     have:=List.getElem?_eq_some_iff.mp hux
     obtain⟨_,z⟩:=this
     simpa using z
    have z2:its'.toArray[j]=uy:=by
     have:=List.getElem?_eq_some_iff.mp huy
     obtain⟨_,z⟩:=this
     simpa using z
    rw[z1,z2]
    exact ih (A:=A.in1) (by show A.units+1+n<cLine;omega) rx ry sx sy (hf j _ _ e1 e2))
   refine SeqAt.EqAt.of_refs ha ?_
   have el:its.toArray.size=ds.length:=by simp;omega
   have el':its'.toArray.size=ds'.length:=by simp;omega
   rw[el,el'] at key
   exact key
end
end Ng
end
section
namespace Ng
open PySem PySem.Spec PyProof.Rows L2
section
variable {X:Cx}
theorem eqSeq{pins:List (Addr×Obj)}{σ:Sg}{H:Hp}{s:Shared}{m:List Addr}(I:Inv X pins σ H s){n:Nat}{A:Around}{ds ds':List D}{vs vs':List V}{its its':List Value}(hu:A.units+1+n<cLine)
 (q1:RDs X.K m H ds vs)(q2:RDs X.K m H ds' vs')(p1:Vals vs its)(p2:Vals vs' its'){f:Nat->Bool}(hf:∀j x y,ds[j]? =some x->ds'[j]? =some y->eqD n x y=some (f j)):
 ∀j (h1:j<its.toArray.size) (h2:j<its'.toArray.size),SeqAt.EqAt A.in1 s its.toArray[j] its'.toArray[j] (f j):=λj j1 j2=>by
 have l1:=q1.length
 have l2:=q2.length
 have l3:=p1.length
 have l4:=p2.length
 have j1':j<its.length:=by simpa using j1
 have j2':j<its'.length:=by simpa using j2
 have e1:ds[j]? =some ds[j]:=List.getElem?_eq_getElem (by omega)
 have e2:ds'[j]? =some ds'[j]:=List.getElem?_eq_getElem (by omega)
 obtain⟨x,hx,rx⟩:=q1.get e1
 obtain⟨y,hy,ry⟩:=q2.get e2
 obtain⟨ux,hux,sx⟩:=p1.get hx
 obtain⟨uy,huy,sy⟩:=p2.get hy
 have z1:its.toArray[j]=ux:=by
  obtain⟨_,z⟩:=List.getElem?_eq_some_iff.mp hux
  simpa using z
 have z2:its'.toArray[j]=uy:=by
  obtain⟨_,z⟩:=List.getElem?_eq_some_iff.mp huy
  simpa using z
 rw[z1,z2]
 exact eqAt_D I n (by show A.units+1+n<cLine;omega) rx ry sx sy (hf j _ _ e1 e2)
theorem xzh{pins:List (Addr×Obj)}{σ:Sg}{H:Hp}{s:Shared}{m:List Addr}{h:Hh}(I:Inv X pins σ H s)(hr:∃k,Room k X.A){x y:V}{v u:Value}{dx dy:D}{b:Bool}(w:Wd X.K m h H)(r1:RD X.K m H dx x)(r2:RD X.K m H dy y)
 (rx:RelV x v)(ry:RelV y u)(e:eqH dx dy h=some b):SeqAt.RcAt X.A s v u b/\SeqAt.RcNeAt X.A s v u (!b):=by
 obtain⟨k,hr⟩:=hr
 have hu:=hr.units
 cases r1<;>cases r2<;>first |(simp[eqH,eqD] at e;done)|skip
 case ref.ref=>
  rename_i i a ha j c hc
  cases rx;cases ry
  simp only[eqH] at e
  split at e
  ·rename_i ds ds' e1 e2
   obtain⟨a',vs,ha',hq,q1⟩:=w.lst e1
   obtain⟨c',vs',hc',hq',q2⟩:=w.lst e2
   rw[ha] at ha';cases ha'
   rw[hc] at hc';cases hc'
   obtain⟨its,p1,t1,_⟩:=I.list hq
   obtain⟨its',p2,t2,_⟩:=I.list hq'
   have l1:=q1.length
   have l2:=q2.length
   have l3:=p1.length
   have l4:=p2.length
   split at e
   ·rename_i el
    obtain⟨f,hf,rfl⟩:=wzw e
    have hs:its.toArray.size=its'.toArray.size:=by simp;omega
    have he:=eqSeq (A:=X.A) I (n:=20) (by omega) q1 q2 p1 p2 hf
    have el2:its.toArray.size=ds.length:=by simp;omega
    have k1:=SeqAt.RcAt.lists (A:=X.A) (e:=f) t1.isList t2.isList hs (by omega) he
    have k2:=SeqAt.RcNeAt.lists (A:=X.A) (e:=f) t1.isList t2.isList hs (by omega) he
    rw[el2] at k1 k2
    rw[show(min ds.length ds'.length)=ds.length by omega,show(ds.length==ds'.length)=true by simp[el],Bool.and_true]
    exact⟨k1,k2⟩
   ·rename_i el
    have eb:false=b:=Option.some.inj e
    subst eb
    have hs:(its.toArray.size != its'.toArray.size)=true:=by simp;omega
    exact⟨SeqAt.RcAt.lists_lengths t1.isList t2.isList hs (by omega),SeqAt.RcNeAt.lists_lengths t1.isList t2.isList hs (by omega)⟩
  ·cases e
 case tup.tup=>
  rename_i a ds vs h1 q1 a' ds' vs' h2 q2
  cases rx;cases ry
  obtain⟨its,p1,t1,_⟩:=I.tuple h1
  obtain⟨its',p2,t2,_⟩:=I.tuple h2
  have l1:=q1.length
  have l2:=q2.length
  have l3:=p1.length
  have l4:=p2.length
  obtain⟨f,hf,rfl⟩:=wzw (show eqL (eqD 19) ds ds'=some b from by simpa [eqH,eqD] using e)
  have he:=eqSeq (A:=X.A) I (n:=19) (by omega) q1 q2 p1 p2 hf
  have k1:=SeqAt.RcAt.tuples (A:=X.A) (e:=f) t1 t2 (by omega) he
  have k2:=SeqAt.RcNeAt.tuples (A:=X.A) (e:=f) t1 t2 (by omega) he
  have el:its.toArray.size=ds.length:=by simp;omega
  have el':its'.toArray.size=ds'.length:=by simp;omega
  rw[el,el'] at k1 k2
  exact⟨k1,k2⟩
 all_goals simp[eqH,eqD] at e
 all_goals subst e
 case non.non=>cases rx;cases ry;exact⟨SeqAt.RcAt.none_none,SeqAt.RcNeAt.none_none⟩
 case non.int=>cases rx;obtain⟨t,rfl⟩:=ry;exact⟨SeqAt.RcAt.none_int _ _,SeqAt.RcNeAt.none_int _ _⟩
 case non.str=>cases rx;obtain⟨t,rfl⟩:=ry;exact⟨SeqAt.RcAt.none_str _ _,SeqAt.RcNeAt.none_str _ _⟩
 case int.non=>cases ry;obtain⟨t,rfl⟩:=rx;exact⟨SeqAt.RcAt.int_none _ _,SeqAt.RcNeAt.int_none _ _⟩
 case str.non=>cases ry;obtain⟨t,rfl⟩:=rx;exact⟨SeqAt.RcAt.str_none _ _,SeqAt.RcNeAt.str_none _ _⟩
 case bl.bl=>cases rx;cases ry;exact⟨SeqAt.RcAt.bool_bool _ _,SeqAt.RcNeAt.bool_bool _ _⟩
 case int.int=>obtain⟨t,rfl⟩:=rx;obtain⟨t',rfl⟩:=ry;exact⟨SeqAt.RcAt.int_int _ _ _ _,SeqAt.RcNeAt.int_int _ _ _ _⟩
 case int.str=>obtain⟨t,rfl⟩:=rx;obtain⟨t',rfl⟩:=ry;exact⟨SeqAt.RcAt.int_str _ _ _ _,SeqAt.RcNeAt.int_str _ _ _ _⟩
 case str.int=>obtain⟨t,rfl⟩:=rx;obtain⟨t',rfl⟩:=ry;exact⟨SeqAt.RcAt.str_int _ _ _ _,SeqAt.RcNeAt.str_int _ _ _ _⟩
 case str.str=>obtain⟨t,rfl⟩:=rx;obtain⟨t',rfl⟩:=ry;exact⟨SeqAt.RcAt.str_str _ _ _ _,SeqAt.RcNeAt.str_str _ _ _ _⟩
theorem RD.flat{K:PySem.W.Frag}{m:List Addr}{H:Hp}{d:D}{v:V}(r:RD K m H d v)(f:flat d=true):flatV v=true:=by
 cases r<;>first |rfl|(cases f;done)
theorem RD.eqF{K:PySem.W.Frag}{m:List Addr}{H:Hp}{d d':D}{v v':V}(r:RD K m H d v)(r':RD K m H d' v')(f:Ng.flat d=true)(f':Ng.flat d'=true):eqV v v'=Ng.eqF d d':=by
 cases r<;>first |(cases f;done)|skip
 all_goals cases r'<;>first |(cases f';done)|rfl
theorem RDs.flat{K:PySem.W.Frag}{m:List Addr}{H:Hp}:∀{ds:List D}{vs:List V},RDs K m H ds vs->ds.all Ng.flat=true->vs.all flatV=true
 |_,_,.nil,_=>rfl
 |_,_,.cons r t,f=>by
  rw[List.all_cons,Bool.and_eq_true] at f
  rw[List.all_cons,r.flat f.1,RDs.flat t f.2]
  rfl
theorem RDs.anyF{K:PySem.W.Frag}{m:List Addr}{H:Hp}{x:D}{v:V}(rx:RD K m H x v)(fx:Ng.flat x=true):∀{ds:List D}{vs:List V},RDs K m H ds vs->ds.all Ng.flat=true->inV v vs=ds.any λy=>Ng.eqF y x
 |_,_,.nil,_=>rfl
 |_,_,.cons r t,f=>by
  rw[List.all_cons,Bool.and_eq_true] at f
  have ih:=RDs.anyF rx fx t f.2
  unfold inV at ih⊢
  rw[List.any_cons,List.any_cons,ih,r.eqF rx f.1 fx]
theorem wzK{m:List Addr}{h:Hh}{H:Hp}{K:PySem.W.Frag}(w:Wd K m h H){d:D}{v:V}{l:List D}(r:RD K m H d v)(e:seqD d h=some l):∃p vs,v=.ref p/\(SqL K H p vs\/SqT K H p vs)/\RDs K m H l vs:=by
 cases r<;>first |(simp[seqD] at e;done)|skip
 ·rename_i a ds vs h1 q
  have e':ds=l:=by simpa [seqD] using e
  subst e'
  exact⟨a,vs,rfl,.inr h1,q⟩
 ·rename_i n a ha
  obtain⟨a',vs,ha',hq,q⟩:=w.lst (show lstAt h n=some l from e)
  rw[ha] at ha';cases ha'
  exact⟨a,vs,rfl,.inl hq,q⟩
theorem wzf{K:PySem.W.Frag}{m:List Addr}{H:Hp}{k:Key}{d:D}:∀{ds:List (Key×D)}{us:List (Key×V)},ds.map (·.1)=us.map (·.1)->RDs K m H (ds.map (·.2)) (us.map (·.2))->valD ds k=some d->∃v,valV us k=some v/\RD K m H d v
 | [],_,_,_,e=>by simp[valD] at e
 |p::ds,[],hk,_,_=>by simp at hk
 |p::ds,q::us,hk,r,e=>by
  simp only[List.map_cons,List.cons.injEq] at hk
  cases r with
  |cons r1 r2=>
   unfold valD at e
   unfold valV
   rw[List.find?_cons] at e⊢
   rw[<- hk.1]
   by_cases z:p.1=k
   ·rw[decide_eq_true z] at e⊢
    simp only at e⊢
    cases e
    exact⟨q.2,rfl,r1⟩
   ·rw[decide_eq_false z] at e⊢
    exact wzf hk.2 r2 e
theorem wzs{K:PySem.W.Frag}{m:List Addr}{H:Hp}{d:D}{v:V}{k:Key}(r:RD K m H d v)(e:keyD d=some k):v=kV k:=by
 cases r<;>first |(cases e;done)|(cases e;rfl)
theorem qzQ{K:PySem.W.Frag}{m:List Addr}{h:Hh}{H:Hp}{x:D}{v:V}{l:List (Key×D)}(w:Wd K m h H)(r:RD K m H x v)(e:dctAt h x=some l):∃n a us,x=.ref n/\v=.ref a/\h[n]? =some (.dct l)/\m[n]? =some a/\H a=some (.dK us)/\l.map (·.1)=us.map (·.1)/\RDs K m H (l.map (·.2)) (us.map (·.2)):=by
 cases r<;>first |(cases e;done)|skip
 rename_i n a ha
 simp only[dctAt] at e
 split at e
 ·rename_i l' el
  cases e
  obtain⟨us,q1,q2,q3⟩:=w.ob n _ a el ha
  exact⟨n,a,us,rfl,rfl,el,ha,q1,q2,q3⟩
 ·cases e
theorem wzD{K:PySem.W.Frag}{k:Key}:∀{ds:List (Key×D)}{us:List (Key×V)},ds.map (·.1)=us.map (·.1)->valD ds k=none->valV us k=none
 | [],[],_,_=>rfl
 | [],q::us,hk,_=>by simp at hk
 |p::ds,[],hk,_=>by simp at hk
 |p::ds,q::us,hk,e=>by
  simp only[List.map_cons,List.cons.injEq] at hk
  unfold valD at e
  unfold valV
  rw[List.find?_cons] at e⊢
  rw[<- hk.1]
  by_cases z:p.1=k
  ·rw[decide_eq_true z] at e;cases e
  ·rw[decide_eq_false z] at e⊢
   exact wzD (K:=K) hk.2 e
theorem qz3{K:PySem.W.Frag}{m:List Addr}{H:Hp}{k:Key}{ds:List (Key×D)}{us:List (Key×V)}(hk:ds.map (·.1)=us.map (·.1))(r:RDs K m H (ds.map (·.2)) (us.map (·.2))):(valV us k).isSome=(valD ds k).isSome:=by
 cases e:valD ds k with
 |none=>rw[wzD (K:=K) hk e]<;>rfl
 |some d=>obtain⟨v,hv,_⟩:=wzf hk r e;rw[hv];rfl
theorem ct_of{pins:List (Addr×Obj)}{σ:Sg}{H:Hp}{s:Shared}{m:List Addr}(I:Inv X pins σ H s){A:Around}(hu:A.units+20<cLine){dx:D}{x:V}{v:Value}(rx:RD X.K m H dx x)(sx:RelV x v):∀{ds:List D}{vs:List V}{its:List Value}{b:Bool},RDs X.K m H ds vs->Vals vs its->inT dx ds=some b->CT A s v its b
 | [],_,_,b,.nil,.nil,e=>by cases e;exact .nil
 |y::ds,_,_,b,.cons r q,.cons p t,e=>by
  simp only[inT] at e
  split at e
  ·rename_i a c e1 e2
   have e':=Option.some.inj e
   have z:=eqAt_D I 20 hu r rx p sx e1
   have ih:=ct_of I hu rx sx q t e2
   cases a with
   |true=>subst e';exact .hit z
   |false=>rw[Bool.false_or] at e';subst e';exact .mis z ih
  ·cases e
theorem opCmp(hr:∃k,Room k X.A)(op:Cop):OpR X (compareOp op.op) (rD X.K (cmpD op)):=by
 intro pins s σ H x y v u Q I rx ry q
 obtain⟨m,h,dx,dy,d,h',w,r1,r2,e,c⟩:=q
 have fin:∀z,RD X.K m H d z->h=h'->Q z H:=λz rz eh=>by subst eh;exact c m z H Gr.refl w rz
 cases op with
 |lt=>
  obtain⟨i,rfl⟩:∃i,dx=.int i:=by cases dx<;>first |exact⟨_,rfl⟩|(cases e;done)
  obtain⟨j,rfl⟩:∃j,dy=.int j:=by cases dy<;>first |exact⟨_,rfl⟩|(cases e;done)
  cases r1;cases r2
  cases e
  exact op_lt pins s σ H _ _ v u Q I rx ry ⟨_,_,rfl,rfl,fin _ (.bl _) rfl⟩
 |le=>
  obtain⟨i,rfl⟩:∃i,dx=.int i:=by cases dx<;>first |exact⟨_,rfl⟩|(cases e;done)
  obtain⟨j,rfl⟩:∃j,dy=.int j:=by cases dy<;>first |exact⟨_,rfl⟩|(cases e;done)
  cases r1;cases r2
  cases e
  exact op_le pins s σ H _ _ v u Q I rx ry ⟨_,_,rfl,rfl,fin _ (.bl _) rfl⟩
 |gt=>
  obtain⟨i,rfl⟩:∃i,dx=.int i:=by cases dx<;>first |exact⟨_,rfl⟩|(cases e;done)
  obtain⟨j,rfl⟩:∃j,dy=.int j:=by cases dy<;>first |exact⟨_,rfl⟩|(cases e;done)
  cases r1;cases r2
  cases e
  exact op_gt pins s σ H _ _ v u Q I rx ry ⟨_,_,rfl,rfl,fin _ (.bl _) rfl⟩
 |ge=>
  obtain⟨i,rfl⟩:∃i,dx=.int i:=by cases dx<;>first |exact⟨_,rfl⟩|(cases e;done)
  obtain⟨j,rfl⟩:∃j,dy=.int j:=by cases dy<;>first |exact⟨_,rfl⟩|(cases e;done)
  cases r1;cases r2
  cases e
  exact op_ge pins s σ H _ _ v u Q I rx ry ⟨_,_,rfl,rfl,fin _ (.bl _) rfl⟩
 |eq=>
  replace e:(match eqH dx dy h with|some b=>Rs.ok (D.bl (b)) h|none=>.bad)=.ok d h':=e
  split at e
  ·rename_i b eb
   cases e
   exact(xzh I hr w r1 r2 rx ry eb).1 _ _ _ _ ⟨.bl b,H,I,rfl,fin _ (.bl _) rfl⟩
  ·cases e
 |ne=>
  replace e:(match eqH dx dy h with|some b=>Rs.ok (D.bl (!b)) h|none=>.bad)=.ok d h':=e
  split at e
  ·rename_i b eb
   cases e
   exact(xzh I hr w r1 r2 rx ry eb).2 _ _ _ _ ⟨.bl (!b),H,I,rfl,fin _ (.bl _) rfl⟩
  ·cases e
 |is=>
  obtain rfl:dy=.non:=by cases dy<;>first |rfl|(cases e;done)
  cases r2
  cases e
  refine op_isN pins s σ H _ _ v u Q I rx ry ⟨rfl,fin _ ?_ rfl⟩
  cases r1<;>exact .bl _
 |isnot=>
  obtain rfl:dy=.non:=by cases dy<;>first |rfl|(cases e;done)
  cases r2
  cases e
  refine op_notN pins s σ H _ _ v u Q I rx ry ⟨rfl,fin _ ?_ rfl⟩
  cases r1<;>exact .bl _
 |inn=>
  replace e:(match inX dx dy h with|some b=>Rs.ok (D.bl b) h|none=>match dctAt h dy with|some l=>inK dx l false h|none=>match seqD dy h with|some l=>inD dx l false h|none=>.bad)=.ok d h':=e
  split at e
  ·rename_i b eb
   cases e
   unfold inX at eb
   split at eb
   ·cases eb
    cases r1;cases r2
    exact zzL pins s σ H _ _ v u Q I rx ry ⟨_,_,rfl,rfl,fin _ (.bl _) rfl⟩
   ·rename_i ks
    split at eb
    ·rename_i l el
     obtain⟨n,a,xs,us,o,es,ep,rfl,rfl,hn,ha,hf,df,go,hk,hks,rv,vv,dd⟩:=vzK I w r2 el
     rw[Option.map_eq_some_iff] at eb
     obtain⟨k,ek,rfl⟩:=eb
     cases r1 with
     |tup hq q=>
      have:=qzN q ek
      subst this
      obtain⟨kk,hr⟩:=hr
      have hun:=hr.units
      cases rx;cases ry
      refine wpAny_in_heap (tupleKind_room_in1 (by omega)) (keyI I hq) df.1 dd ⟨.bl _,H,I.tok _,rfl,?_⟩
      rw[wz6, <- wzc hk, <- vzp]
      exact fin _ (.bl _) rfl
    ·cases eb
   ·cases eb
  split at e
  ·rename_i l el
   obtain⟨n,a,us,rfl,rfl,hn,ha,hu,hk,rv⟩:=qzQ w r2 el
   unfold inK at e
   split at e
   ·rename_i k ek
    cases e
    have:=wzs r1 ek
    subst this
    obtain⟨kk,hr⟩:=hr
    have hun:=hr.units
    cases ry
    refine d_in (by omega) I (DGet.k hu) rx λs3 I3=>⟨.bl _,H,I3,rfl,?_⟩
    rw[qz3 hk rv]
    exact fin _ (.bl _) rfl
   ·cases e
  ·split at e
   ·rename_i l el
    unfold inD at e
    split at e
    ·rename_i hf
     cases e
     obtain⟨p,vs,rfl,hq,q⟩:=wzK w r2 el
     refine zzM pins s σ H _ _ v u Q I rx ry ⟨p,vs,rfl,hq,r1.flat hf.1,q.flat hf.2,?_⟩
     have z:=RDs.anyF r1 hf.1 q hf.2
     show Q (.bl (if false=true then !inV x vs else inV x vs)) H
     rw[if_neg (by decide),z]
     exact fin _ (.bl _) rfl
    ·cases e
   ·cases e
 |notin=>
  replace e:(match dctAt h dy with|some l=>inK dx l true h|none=>match seqD dy h with|some l=>(match inTs dx dy l with|some b=>Rs.ok (D.bl (!b)) h|none=>inD dx l true h)|none=>.bad)=.ok d h':=e
  split at e
  ·rename_i l el
   obtain⟨n,a,us,rfl,rfl,hn,ha,hu,hk,rv⟩:=qzQ w r2 el
   unfold inK at e
   split at e
   ·rename_i k ek
    cases e
    have:=wzs r1 ek
    subst this
    obtain⟨kk,hr⟩:=hr
    have hun:=hr.units
    cases ry
    refine d_notIn (by omega) I (DGet.k hu) rx λs3 I3=>⟨.bl _,H,I3,rfl,?_⟩
    rw[qz3 hk rv]
    exact fin _ (by simpa using RD.bl (!(valD l k).isSome)) rfl
   ·cases e
  ·split at e
   ·rename_i l el
    split at e
    ·rename_i b eb
     cases e
     unfold inTs at eb
     split at eb
     ·cases r2 with
      |ref hm=>
       obtain⟨a',vs',hm',hq',q'⟩:=w.lst (show lstAt h _=some l from el)
       rw[hm] at hm';cases hm'
       obtain⟨its,p1,t1,_⟩:=I.list hq'
       obtain⟨kk,hr⟩:=hr
       have hun:=hr.units
       obtain⟨⟨cls,dd,data,sl⟩,ho,hcl,nn,hd⟩:=t1.isList
       simp only at hcl hd
       subst hcl hd
       cases ry
       refine PySem.SeqRoads2.notIn_meets ⟨_,ho,rfl⟩ F.slot_list_contains F.entry_list_contains (F.args_list_contains_2 _ _) (ct_list _ its.toArray nn dd sl v (b:=b)) ⟨ho,?_,_,rfl,⟨.bl _,H,I,rfl,fin _ (.bl _) rfl⟩⟩
       simpa using ct_of I (A:=X.A.in1) (by show X.A.units+1+20<cLine;omega) r1 rx q' p1 eb
     ·cases eb
    rename_i hnt
    unfold inD at e
    split at e
    ·rename_i hf
     cases e
     obtain⟨p,vs,rfl,hq,q⟩:=wzK w r2 el
     refine wzO pins s σ H _ _ v u Q I rx ry ⟨p,vs,rfl,hq,r1.flat hf.1,q.flat hf.2,?_⟩
     have z:=RDs.anyF r1 hf.1 q hf.2
     show Q (.bl (if true=true then !inV x vs else inV x vs)) H
     rw[if_pos rfl,z]
     exact fin _ (by simpa using RD.bl _) rfl
    ·cases e
   ·cases e
theorem atI_rel{K:PySem.W.Frag}{m:List Addr}{H:Hp}{ds:List D}{vs:List V}{i:Int}{d:D}(q:RDs K m H ds vs)(e:atI ds i=some d):∃v,atI vs i=some v/\RD K m H d v:=by
 unfold atI at e⊢
 rw[q.length] at e
 cases z:ixN vs.length i with
 |none=>rw[z] at e;cases e
 |some j=>
  rw[z] at e
  obtain⟨v,h1,h2⟩:=q.get (show ds[j]? =some d from e)
  exact⟨v,h1,h2⟩
theorem ixSeqS:IxR X (rD X.K ixS):=by
 intro value slice pins s σ H x y v u Q I rx ry q hs
 obtain⟨m,h,dx,dy,d,h',w,r1,r2,e,c⟩:=q
 unfold ixS at e
 split at e
 ·rename_i l i el
  split at e
  ·rename_i d' ed
   simp at e
   obtain⟨rfl,rfl⟩:=e
   obtain⟨p,vs,rfl,hq,q⟩:=wzK w r1 el
   obtain⟨z,hz,rz⟩:=atI_rel q ed
   cases r2
   have qz:Q z H:=c m z H Gr.refl w rz
   rcases hq with hq|hq
   ·exact ix_list value slice pins s σ H _ _ v u Q I rx ry ⟨p,vs,i,z,rfl,rfl,hq,hz,qz⟩ hs
   ·exact ix_tup value slice pins s σ H _ _ v u Q I rx ry ⟨p,vs,i,z,rfl,rfl,hq,hz,qz⟩ hs
  ·cases e
 ·cases e
theorem ixSeq(hr:∃k,Room k X.A):IxR X (rD X.K ixD):=by
 intro value slice pins s σ H x y v u Q I rx ry q hs
 obtain⟨m,h,dx,dy,d,h',w,r1,r2,e,c⟩:=q
 unfold ixD at e
 split at e
 ·rename_i z
  unfold ixT at e
  split at e<;>first |(cases e;done)|skip
  rename_i i
  split at e<;>first |(cases e;done)|skip
  rename_i hz
  split at e<;>first |(cases e;done)|skip
  rename_i c' ec
  simp at e
  obtain⟨rfl,rfl⟩:=e
  cases r1;cases r2
  exact ix_str value slice pins s σ H _ _ v u Q I rx ry ⟨z,i,c',rfl,rfl,hz,ec,c m _ H Gr.refl w (.str _)⟩ hs
 split at e
 ·rename_i l el
  obtain⟨n,a,us,rfl,rfl,hn,ha,hu,hk,rv⟩:=qzQ w r1 el
  unfold ixK at e
  split at e
  ·rename_i k ek
   split at e
   ·rename_i d' ed
    simp at e
    obtain⟨rfl,rfl⟩:=e
    obtain⟨z,hz,rz⟩:=wzf hk rv ed
    have:=wzs r2 ek
    subst this
    obtain⟨kk,hr⟩:=hr
    have hun:=hr.units
    cases rx
    have g:DGet H a (kV k) (some z):=by rw[<- hz];exact DGet.k hu
    exact tail_any (vzk I g) PySem.F.slot_dict_getitem.lookup (xzn (by omega) I g ry λw' s3 I3 rw'=>⟨z,H,I3,rw',c m z H Gr.refl w rz⟩) hs
   ·cases e
  ·cases e
 ·split at e
  ·rename_i l el
   obtain⟨n,a,xs,us,o,es,ep,rfl,rfl,hn,ha,hf,df,go,hk,hks,rv,vv,dd⟩:=vzK I w r1 el
   unfold ixF at e
   split at e
   ·rename_i ks
    split at e
    ·rename_i d' ed
     simp at e
     obtain⟨rfl,rfl⟩:=e
     rw[Option.bind_eq_some_iff] at ed
     obtain⟨k,ek,ed⟩:=ed
     cases r2 with
     |tup hq q=>
      have:=qzN q ek
      subst this
      obtain⟨kk,hr⟩:=hr
      have hun:=hr.units
      cases rx;cases ry
      obtain⟨z,p,rz,hp,sz⟩:=vzo hk rv vv ed
      exact tail_any (T:="dict") ⟨o,go,df.2.2.1.1⟩ PySem.F.slot_dict_getitem.lookup (wpAny_getItem_heap (tupleKind_room_in1 (by omega)) (keyI I hq) dd hp ⟨z,H,I.tok _,sz,c m z H Gr.refl w rz⟩) hs
    ·cases e
   ·cases e
  ·exact ixSeqS value slice pins s σ H x y v u Q I rx ry ⟨m,h,dx,dy,d,h',w,r1,r2,e,c⟩ hs
theorem qzL{K:PySem.W.Frag}{m:List Addr}{H:Hp}{ds:List D}{vs:List V}(q:RDs K m H ds vs):ds.isEmpty=vs.isEmpty:=by
 cases q<;>rfl
theorem qzY{K:PySem.W.Frag}{m:List Addr}{h:Hh}{H:Hp}(w:Wd K m h H){d:D}{v:V}{b:Bool}(r:RD K m H d v)(e:truD d h=some b):TruV K v H b:=by
 cases r with
 |non=>exact(Option.some.inj e).symm
 |bl c=>exact(Option.some.inj e).symm
 |int i=>exact(Option.some.inj e).symm
 |str y=>
  simp only[truD] at e
  split at e
  ·rename_i hz
   exact⟨hz,(Option.some.inj e).symm⟩
  ·cases e
 |ty n=>cases e
 |tup h1 q=>
  refine .inr (.inl ⟨_,h1,?_⟩)
  have:=(Option.some.inj e).symm
  rw[this,qzL q]
 |ref ha=>
  simp only[truD] at e
  split at e
  ·rename_i l el
   obtain⟨a',vs,ha',hq,q⟩:=w.lst el
   rw[ha] at ha';cases ha'
   refine .inl ⟨_,hq,?_⟩
   have:=(Option.some.inj e).symm
   rw[this,qzL q]
  ·cases e
end
end Ng
end
section
namespace Ng
open PySem PySem.Spec PyProof.Rows L2
theorem maxloop{prog:Program}{w:World}{A:Around}{I:Addr}{fp wr:List Addr}{n:Nat}{P:Nat->Value->Prop}{St:Nat->Heap->Prop}(T:Walks prog w A.in1 I fp wr n P St)(bt:Nat->Nat->Bool)(cmp:CmpOf prog w A.in1 .Gt P bt)(S:Addr)(nS:S ∉ fp)(K:List (Str×Value)){R:Result->Shared->Prop}:
 ∀(left j:Nat)(z:Shared)(best:Value)(cc:Nat),n-(j+1)=left->j+1<=n->St (j+1) z.heap->P (argBest bt j) best->z.heap.get? S=some (seqObj "list" #[best,best] cc)->
  (∀v g tk,P (argBest bt (n-1)) v->(∀b o,b ∉ wr->b≠S->z.heap.get? b=some o->g.get? b=some o)->R (.ok (.ret v)) {z with heap:=g,toks:=tk})->
  codeAny (model prog w) A (.builtin "max.loop" ⟨[.ref I,.none,.ref S],K⟩) R z:=by
 have nSw:S ∉ wr:=λq=>nS (T.sub _ q)
 have nmL:(toString "max"++toString ".loop":String)="max.loop":=rfl
 intro left
 induction left with
 |zero=>
  intro j z best cc e1 e2 st pb hS fin
  have en:n=j+1:=by omega
  refine codeAny_builtin F.entry_max_loop ?_
  rw[Around.under_plainId F.plain_max_loop _]
  show wpAny _ _ (seqItems? (Value.ref S)>>=_) _ _ z
  refine wpAny_bind (wpAny_seqItems hS rfl ?_)
  show wpAny _ _ (tryCatch (pyNext (Value.ref I)) _>>=_) _ _ z
  refine wpAny_bind (wpAny_tryCatch (T.done z _ _ (en ▸ st) λg tk kp=>?_))
  have hS2:=kp S _ nSw hS
  show wpAny _ _ (updateSeq S (λ_=> #[])>>=_) _ _ _
  refine wpAny_bind (wpAny_updateSeq hS2 rfl (wpAny_bind (wpAny_letGo (wpAny_pure (fin best _ tk ?_ ?_)))))
  ·rw[en];exact pb
  ·exact λb o b1 b2 e=>(Heap.get?_update_other _ _ (λq=>b2 q.symm)).trans (kp b o b1 e)
 |succ left ih=>
  intro j z best cc e1 e2 st pb hS fin
  refine codeAny_builtin F.entry_max_loop ?_
  rw[Around.under_plainId F.plain_max_loop _]
  show wpAny _ _ (seqItems? (Value.ref S)>>=_) _ _ z
  refine wpAny_bind (wpAny_seqItems hS rfl ?_)
  show wpAny _ _ (tryCatch (pyNext (Value.ref I)) _>>=_) _ _ z
  refine wpAny_bind (wpAny_tryCatch (T.item (j+1) z _ _ (by omega) st λv g tk pv st2 kp=>?_))
  have hS2:=kp S _ nSw hS
  show wpAny _ _ (tryCatch (holding [v,v] (richCompare .Gt v best>>=_)) _>>=_) _ _ _
  refine wpAny_bind (wpAny_tryCatch (wpAny_holding (wpAny_bind (cmp (j+1) (argBest bt j) v best _ _ _ pv pb (wpAny_bind (wpAny_holding (wpAny_truthy_bool (wpAny_bind (wpAny_letGo (wpAny_pure ?_))))))))))
  by_cases hb:bt (j+1) (argBest bt j)=true
  ·have pa:argBest bt (j+1)=j+1:=by simp only[argBest];rw[if_pos hb]
   rw[hb]
   simp only[if_true]
   refine wpAny_bind (wpAny_updateSeq hS2 rfl (wpAny_bind (wpAny_letGo ?_)))
   rw[nmL]
   refine wpAny_pure ⟨plainId_quiet F.plain_max_loop _,ih (j+1) _ v _ (by omega) (by omega) (T.frame _ _ _ st2 λb hbf o e=>?_) (by rw[pa];exact pv) (Heap.get?_update_self _ hS2 rfl) λu g2 tk2 pu kp2=>fin u g2 tk2 pu λb o b1 b2 e=>kp2 b o b1 b2 ?_⟩
   ·exact(Heap.get?_update_other _ _ (λq:S=b=>nS (q ▸ hbf))).trans e
   ·exact(Heap.get?_update_other _ _ (λq=>b2 q.symm)).trans (kp b o b1 e)
  ·have pa:argBest bt (j+1)=argBest bt j:=by simp only[argBest];rw[if_neg hb]
   have hb':bt (j+1) (argBest bt j)=false:=by simpa using hb
   rw[hb']
   simp only[Bool.false_eq_true,if_false]
   refine wpAny_bind (wpAny_letGo ?_)
   rw[nmL]
   exact wpAny_pure ⟨plainId_quiet F.plain_max_loop _,ih (j+1) _ best cc (by omega) (by omega) st2 (by rw[pa];exact pb) hS2 λu g2 tk2 pu kp2=>fin u g2 tk2 pu λb o b1 b2 e=>kp2 b o b1 b2 (kp b o b1 e)⟩
theorem xzH(a d:Value):argsOk "max" ⟨[a],[(Str.ofString "default",d)]⟩:=by unfold argsOk;kernel_rfl
theorem xzx{prog:Program}{w:World}{A:Around}{x d:Value}{s:Shared}{Q:Value->Shared->Prop}{E:Value->Shared->Prop}
 (h:wpAny (model prog w) A.in1 (pyIter x) (λit z=>∃I fp wr n P St bt,it=.ref I/\Walks prog w A.in1 I fp wr n P St/\St 0 z.heap/\(∀b∈fp,b<z.heap.objs.size)/\CmpOf prog w A.in1 .Gt P bt/\
   (∀v g tk,0<n->P (argBest bt (n-1)) v->(∀b o,b ∉ wr->z.heap.get? b=some o->g.get? b=some o)->Q v {z with heap:=g,toks:=tk})/\
   (∀g tk,n=0->(∀b o,b ∉ wr->z.heap.get? b=some o->g.get? b=some o)->Q d {z with heap:=g,toks:=tk})) E s):
 wpAny (model prog w) A (call (.builtin "max") [x] [(Str.ofString "default",d)]) Q E s:=by
 have nmL:(toString "max"++toString ".loop":String)="max.loop":=rfl
 refine PyProof.Rows.kmb_tree F.kind_max F.plain_max F.entry_max (xzH _ _) ?_
 show wpAny _ _ (Builtin.Builtins.bindParams "max" ["key","default"] 0 ⟨[],[(Str.ofString "default",d)]⟩>>=_) _ _ s
 have eb:Builtin.Builtins.bindParams "max" ["key","default"] 0 ⟨[],[(Str.ofString "default",d)]⟩=pure [none,some d]:=rfl
 refine wpAny_bind (wpAny_of_eq eb (wpAny_bind (wpAny_pure (wpAny_bind (wpAny_mono h (λit z hz=>?_) λ_ _ q=>q)))))
 obtain⟨I,fp,wr,n,P,St,bt,rfl,T,st,lt,cmp,f1,f2⟩:=hz
 refine wpAny_bind (wpAny_newList ?_ (Nat.zero_le _))
 have nS:z.heap.objs.size ∉ fp:=λq=>Nat.lt_irrefl _ (lt _ q)
 have nSw:z.heap.objs.size ∉ wr:=λq=>nS (T.sub _ q)
 rw[nmL]
 refine wpAny_pure ⟨plainId_quiet F.plain_max_loop _,codeAny_builtin F.entry_max_loop ?_⟩
 rw[Around.under_plainId F.plain_max_loop _]
 have hS:(z.heap.push (seqObj "list" #[] 0)).get? z.heap.objs.size=some (seqObj "list" #[] 0):=Heap.get?_push_size _ rfl
 have st1:St 0 (z.heap.push (seqObj "list" #[] 0)):=T.frame _ _ _ st λb _ o e=>Heap.get?_push_of_some _ e
 show wpAny _ _ (seqItems? (Value.ref z.heap.objs.size)>>=_) _ _ _
 refine wpAny_bind (wpAny_seqItems hS rfl ?_)
 show wpAny _ _ (tryCatch (pyNext (Value.ref I)) _>>=_) _ _ _
 have old:∀(g:Heap),(∀b o,b ∉ wr->b≠z.heap.objs.size->(z.heap.push (seqObj "list" #[] 0)).get? b=some o->g.get? b=some o)->∀b o,b ∉ wr->z.heap.get? b=some o->g.get? b=some o:=
  λg k b o b1 e=>k b o b1 (Nat.ne_of_lt (Heap.lt_size e)) (Heap.get?_push_of_some _ e)
 by_cases hn:n=0
 ·subst hn
  refine wpAny_bind (wpAny_tryCatch (T.done _ _ _ st1 λg tk kp=>?_))
  refine wpAny_bind (wpAny_rule (wpAny_pure ?_))
  exact f2 g tk rfl (old g λb o b1 _ e=>kp b o b1 e)
 ·refine wpAny_bind (wpAny_tryCatch (T.item 0 _ _ _ (by omega) st1 λv g tk pv st2 kp=>?_))
  have hS2:=kp _ _ nSw hS
  show wpAny _ _ (updateSeq z.heap.objs.size (λ_=> #[v,v])>>=_) _ _ _
  refine wpAny_bind (wpAny_updateSeq hS2 rfl ?_)
  rw[nmL]
  refine wpAny_pure ⟨plainId_quiet F.plain_max_loop _,maxloop T bt cmp z.heap.objs.size nS _ _ 0 _ v _ rfl (by omega) (T.frame _ _ _ st2 λb hbf o e=>?_) pv (Heap.get?_update_self _ hS2 rfl) λu g2 tk2 pu kp2=>?_⟩
  ·exact(Heap.get?_update_other _ _ (λq:z.heap.objs.size=b=>nS (q ▸ hbf))).trans e
  ·refine f1 u g2 tk2 (by omega) pu (old g2 λb o b1 b2 e=>kp2 b o b1 b2 ?_)
   exact(Heap.get?_update_other _ _ (λq=>b2 q.symm)).trans (kp b o b1 e)
theorem minloop{prog:Program}{w:World}{A:Around}{I:Addr}{fp wr:List Addr}{n:Nat}{P:Nat->Value->Prop}{St:Nat->Heap->Prop}(T:Walks prog w A.in1 I fp wr n P St)(bt:Nat->Nat->Bool)(cmp:CmpOf prog w A.in1 .Lt P bt)(S:Addr)(nS:S ∉ fp)(K:List (Str×Value)){R:Result->Shared->Prop}:
 ∀(left j:Nat)(z:Shared)(best:Value)(cc:Nat),n-(j+1)=left->j+1<=n->St (j+1) z.heap->P (argBest bt j) best->z.heap.get? S=some (seqObj "list" #[best,best] cc)->
  (∀v g tk,P (argBest bt (n-1)) v->(∀b o,b ∉ wr->b≠S->z.heap.get? b=some o->g.get? b=some o)->R (.ok (.ret v)) {z with heap:=g,toks:=tk})->
  codeAny (model prog w) A (.builtin "min.loop" ⟨[.ref I,.none,.ref S],K⟩) R z:=by
 have nSw:S ∉ wr:=λq=>nS (T.sub _ q)
 have nmL:(toString "min"++toString ".loop":String)="min.loop":=rfl
 intro left
 induction left with
 |zero=>
  intro j z best cc e1 e2 st pb hS fin
  have en:n=j+1:=by omega
  refine codeAny_builtin F.entry_min_loop ?_
  rw[Around.under_plainId F.plain_min_loop _]
  show wpAny _ _ (seqItems? (Value.ref S)>>=_) _ _ z
  refine wpAny_bind (wpAny_seqItems hS rfl ?_)
  show wpAny _ _ (tryCatch (pyNext (Value.ref I)) _>>=_) _ _ z
  refine wpAny_bind (wpAny_tryCatch (T.done z _ _ (en ▸ st) λg tk kp=>?_))
  have hS2:=kp S _ nSw hS
  show wpAny _ _ (updateSeq S (λ_=> #[])>>=_) _ _ _
  refine wpAny_bind (wpAny_updateSeq hS2 rfl (wpAny_bind (wpAny_letGo (wpAny_pure (fin best _ tk ?_ ?_)))))
  ·rw[en];exact pb
  ·exact λb o b1 b2 e=>(Heap.get?_update_other _ _ (λq=>b2 q.symm)).trans (kp b o b1 e)
 |succ left ih=>
  intro j z best cc e1 e2 st pb hS fin
  refine codeAny_builtin F.entry_min_loop ?_
  rw[Around.under_plainId F.plain_min_loop _]
  show wpAny _ _ (seqItems? (Value.ref S)>>=_) _ _ z
  refine wpAny_bind (wpAny_seqItems hS rfl ?_)
  show wpAny _ _ (tryCatch (pyNext (Value.ref I)) _>>=_) _ _ z
  refine wpAny_bind (wpAny_tryCatch (T.item (j+1) z _ _ (by omega) st λv g tk pv st2 kp=>?_))
  have hS2:=kp S _ nSw hS
  show wpAny _ _ (tryCatch (holding [v,v] (richCompare .Lt v best>>=_)) _>>=_) _ _ _
  refine wpAny_bind (wpAny_tryCatch (wpAny_holding (wpAny_bind (cmp (j+1) (argBest bt j) v best _ _ _ pv pb (wpAny_bind (wpAny_holding (wpAny_truthy_bool (wpAny_bind (wpAny_letGo (wpAny_pure ?_))))))))))
  by_cases hb:bt (j+1) (argBest bt j)=true
  ·have pa:argBest bt (j+1)=j+1:=by simp only[argBest];rw[if_pos hb]
   rw[hb]
   simp only[if_true]
   refine wpAny_bind (wpAny_updateSeq hS2 rfl (wpAny_bind (wpAny_letGo ?_)))
   rw[nmL]
   refine wpAny_pure ⟨plainId_quiet F.plain_min_loop _,ih (j+1) _ v _ (by omega) (by omega) (T.frame _ _ _ st2 λb hbf o e=>?_) (by rw[pa];exact pv) (Heap.get?_update_self _ hS2 rfl) λu g2 tk2 pu kp2=>fin u g2 tk2 pu λb o b1 b2 e=>kp2 b o b1 b2 ?_⟩
   ·exact(Heap.get?_update_other _ _ (λq:S=b=>nS (q ▸ hbf))).trans e
   ·exact(Heap.get?_update_other _ _ (λq=>b2 q.symm)).trans (kp b o b1 e)
  ·have pa:argBest bt (j+1)=argBest bt j:=by simp only[argBest];rw[if_neg hb]
   have hb':bt (j+1) (argBest bt j)=false:=by simpa using hb
   rw[hb']
   simp only[Bool.false_eq_true,if_false]
   refine wpAny_bind (wpAny_letGo ?_)
   rw[nmL]
   exact wpAny_pure ⟨plainId_quiet F.plain_min_loop _,ih (j+1) _ best cc (by omega) (by omega) st2 (by rw[pa];exact pb) hS2 λu g2 tk2 pu kp2=>fin u g2 tk2 pu λb o b1 b2 e=>kp2 b o b1 b2 (kp b o b1 e)⟩
theorem xzG(a d:Value):argsOk "min" ⟨[a],[(Str.ofString "default",d)]⟩:=by unfold argsOk;kernel_rfl
theorem xzw{prog:Program}{w:World}{A:Around}{x d:Value}{s:Shared}{Q:Value->Shared->Prop}{E:Value->Shared->Prop}
 (h:wpAny (model prog w) A.in1 (pyIter x) (λit z=>∃I fp wr n P St bt,it=.ref I/\Walks prog w A.in1 I fp wr n P St/\St 0 z.heap/\(∀b∈fp,b<z.heap.objs.size)/\CmpOf prog w A.in1 .Lt P bt/\
   (∀v g tk,0<n->P (argBest bt (n-1)) v->(∀b o,b ∉ wr->z.heap.get? b=some o->g.get? b=some o)->Q v {z with heap:=g,toks:=tk})/\
   (∀g tk,n=0->(∀b o,b ∉ wr->z.heap.get? b=some o->g.get? b=some o)->Q d {z with heap:=g,toks:=tk})) E s):
 wpAny (model prog w) A (call (.builtin "min") [x] [(Str.ofString "default",d)]) Q E s:=by
 have nmL:(toString "min"++toString ".loop":String)="min.loop":=rfl
 refine PyProof.Rows.kmb_tree F.kind_min F.plain_min F.entry_min (xzG _ _) ?_
 show wpAny _ _ (Builtin.Builtins.bindParams "min" ["key","default"] 0 ⟨[],[(Str.ofString "default",d)]⟩>>=_) _ _ s
 have eb:Builtin.Builtins.bindParams "min" ["key","default"] 0 ⟨[],[(Str.ofString "default",d)]⟩=pure [none,some d]:=rfl
 refine wpAny_bind (wpAny_of_eq eb (wpAny_bind (wpAny_pure (wpAny_bind (wpAny_mono h (λit z hz=>?_) λ_ _ q=>q)))))
 obtain⟨I,fp,wr,n,P,St,bt,rfl,T,st,lt,cmp,f1,f2⟩:=hz
 refine wpAny_bind (wpAny_newList ?_ (Nat.zero_le _))
 have nS:z.heap.objs.size ∉ fp:=λq=>Nat.lt_irrefl _ (lt _ q)
 have nSw:z.heap.objs.size ∉ wr:=λq=>nS (T.sub _ q)
 rw[nmL]
 refine wpAny_pure ⟨plainId_quiet F.plain_min_loop _,codeAny_builtin F.entry_min_loop ?_⟩
 rw[Around.under_plainId F.plain_min_loop _]
 have hS:(z.heap.push (seqObj "list" #[] 0)).get? z.heap.objs.size=some (seqObj "list" #[] 0):=Heap.get?_push_size _ rfl
 have st1:St 0 (z.heap.push (seqObj "list" #[] 0)):=T.frame _ _ _ st λb _ o e=>Heap.get?_push_of_some _ e
 show wpAny _ _ (seqItems? (Value.ref z.heap.objs.size)>>=_) _ _ _
 refine wpAny_bind (wpAny_seqItems hS rfl ?_)
 show wpAny _ _ (tryCatch (pyNext (Value.ref I)) _>>=_) _ _ _
 have old:∀(g:Heap),(∀b o,b ∉ wr->b≠z.heap.objs.size->(z.heap.push (seqObj "list" #[] 0)).get? b=some o->g.get? b=some o)->∀b o,b ∉ wr->z.heap.get? b=some o->g.get? b=some o:=
  λg k b o b1 e=>k b o b1 (Nat.ne_of_lt (Heap.lt_size e)) (Heap.get?_push_of_some _ e)
 by_cases hn:n=0
 ·subst hn
  refine wpAny_bind (wpAny_tryCatch (T.done _ _ _ st1 λg tk kp=>?_))
  refine wpAny_bind (wpAny_rule (wpAny_pure ?_))
  exact f2 g tk rfl (old g λb o b1 _ e=>kp b o b1 e)
 ·refine wpAny_bind (wpAny_tryCatch (T.item 0 _ _ _ (by omega) st1 λv g tk pv st2 kp=>?_))
  have hS2:=kp _ _ nSw hS
  show wpAny _ _ (updateSeq z.heap.objs.size (λ_=> #[v,v])>>=_) _ _ _
  refine wpAny_bind (wpAny_updateSeq hS2 rfl ?_)
  rw[nmL]
  refine wpAny_pure ⟨plainId_quiet F.plain_min_loop _,minloop T bt cmp z.heap.objs.size nS _ _ 0 _ v _ rfl (by omega) (T.frame _ _ _ st2 λb hbf o e=>?_) pv (Heap.get?_update_self _ hS2 rfl) λu g2 tk2 pu kp2=>?_⟩
  ·exact(Heap.get?_update_other _ _ (λq:z.heap.objs.size=b=>nS (q ▸ hbf))).trans e
  ·refine f1 u g2 tk2 (by omega) pu (old g2 λb o b1 b2 e=>kp2 b o b1 b2 ?_)
   exact(Heap.get?_update_other _ _ (λq=>b2 q.symm)).trans (kp b o b1 e)
end Ng
end
section
namespace Ng
open PySem PySem.Spec PyProof.Rows L2
def valI(l:List Int)(j:Nat):Int:=(l[j]?).getD 0
theorem wze{l:List Int}{its:List Value}(p:Vals (l.map V.int) its){j:Nat}{v:Value}(hv:its.toArray[j]? =some v):∃t,v=.int (valI l j) t:=by
 have hv':its[j]? =some v:=by simpa using hv
 have hj:j<its.length:=(List.getElem?_eq_some_iff.mp hv').1
 have hl:=p.length
 rw[List.length_map] at hl
 have e:(l.map V.int)[j]? =some (.int l[j]):=by rw[List.getElem?_map,List.getElem?_eq_getElem (by omega)];rfl
 obtain⟨u,hu,r⟩:=p.get e
 rw[hv'] at hu;cases hu
 obtain⟨t,rfl⟩:=r
 exact⟨t,by simp[valI,List.getElem?_eq_getElem (show j<l.length by omega)]⟩
theorem wzr{prog:Program}{w:World}{A:Around}{s:Shared}{a:Addr}{items:Array Value}(hh:A.handled=none)(hl:s.heap.IsList a items):
 Walks prog w A s.heap.objs.size [s.heap.objs.size,a] [s.heap.objs.size] items.size (λi v=>items[i]? =some v) (λi h=>h.IsListIter s.heap.objs.size a i/\h.IsList a items)/\
 ((s.heap.push {cls:=.type "list_iterator",data:=.fields #[.ref a,.int 0 0]}).IsListIter s.heap.objs.size a 0/\(s.heap.push {cls:=.type "list_iterator",data:=.fields #[.ref a,.int 0 0]}).IsList a items)/\
 (∀b∈ [s.heap.objs.size,a],b<(s.heap.push {cls:=.type "list_iterator",data:=.fields #[.ref a,.int 0 0]}).objs.size)/\
 ∀g:Heap,(∀b o,b ∉ [s.heap.objs.size]->(s.heap.push {cls:=.type "list_iterator",data:=.fields #[.ref a,.int 0 0]}).get? b=some o->g.get? b=some o)->∀b o,s.heap.get? b=some o->g.get? b=some o:=by
 have lt:a<s.heap.objs.size:=by obtain⟨_,e,_⟩:=hl;exact Heap.lt_size e
 refine⟨Walks.list hh _ a (Nat.ne_of_lt lt) items,⟨⟨_,Heap.get?_push_size _ rfl,rfl,rfl⟩,hl.push _⟩,λb hb=>?_,λg kp b o e=>kp b o (λz=>?_) (Heap.get?_push_of_some _ e)⟩
 ·rw[Heap.size_push]
  simp at hb
  rcases hb with rfl|rfl
  ·exact Nat.lt_succ_self _
  ·exact Nat.lt_succ_of_lt lt
 ·simp at z
  subst z
  exact Nat.lt_irrefl _ (Heap.lt_size e)
section
variable {X:Cx}
theorem zzR(i:Int):∀(r:List Int)(k:Nat),k<=r.length->valI (i::r) (argBest (λa b=>decide (valI (i::r) a>valI (i::r) b)) k)=maxI i (r.take k)
 |r,0,_=>by simp[argBest,valI,maxI]
 |r,k+1,hk=>by
  have ih:=zzR i r k (by omega)
  have hk':k<r.length:=by omega
  have e1:r.take (k+1)=r.take k++ [r[k]]:=by rw[List.take_succ,List.getElem?_eq_getElem hk'];rfl
  have e2:valI (i::r) (k+1)=r[k]:=by simp[valI,List.getElem?_eq_getElem hk']
  have e3:maxI i (r.take (k+1))=if r[k]>maxI i (r.take k) then r[k] else maxI i (r.take k):=by
   rw[e1];unfold maxI;rw[List.foldl_append];rfl
  rw[e3, <- ih]
  simp only[argBest]
  by_cases hb:valI (i::r) (k+1)>valI (i::r) (argBest (λa b=>decide (valI (i::r) a>valI (i::r) b)) k)
  ·rw[if_pos (decide_eq_true hb),if_pos (by rw[<- e2];exact hb),e2]
  ·rw[if_neg (by rw[decide_eq_false hb];exact Bool.false_ne_true),if_neg (by rw[<- e2];exact hb)]
theorem vzD(hc:X.calm=true){pins:List (Addr×Obj)}{s:Shared}{σ:Sg}{H:Hp}{a:Addr}{l:List Int}{d:V}{u:Value}{Q:VK}(I:Inv X pins σ H s)(hq:SqL X.K H a (l.map V.int))(ru:RelV d u)(q0:l=[]->Q d H)(q1:∀i r,l=i::r->Q (.int (maxI i r)) H):
 wpAny (model X.prog X.w) X.A (call (.builtin "max") [.ref a] [(Str.ofString "default",u)]) (EP X pins σ Q) X.xe s:=by
 obtain⟨its,p1,t1,_⟩:=I.list hq
 refine xzx (wpAny_pyIter_list t1.isList ?_)
 obtain⟨h1,h2,h3,h4⟩:=wzr (A:=X.A.in1) (prog:=X.prog) (w:=X.w) (s:=s) (I.ok.hd hc) t1.isList
 have hlen:=p1.length
 rw[List.length_map] at hlen
 refine⟨_,_,_,_,_,_,_,rfl,h1,h2,h3,CmpOf.ints_gt (valI l) (λj v hv=>wze p1 hv),λv g tk hn hv kp=>?_,λg tk hn kp=>?_⟩
 ·cases l with
  |nil=>simp at hlen hn;omega
  |cons i r=>
   obtain⟨t,rfl⟩:=wze p1 hv
   have hl:its.toArray.size-1=r.length:=by
    simp at hlen⊢
    omega
   rw[hl,zzR i r r.length (Nat.le_refl _),List.take_length]
   exact⟨.int (maxI i r),H,I.kept (h4 g kp),⟨t,rfl⟩,q1 i r rfl⟩
 ·have hl:l=[]:=by
   cases l with
   |nil=>rfl
   |cons i r=>simp at hlen hn;rw[hn] at hlen;simp at hlen
  exact⟨d,H,I.kept (h4 g kp),ru,q0 hl⟩
theorem zzQ(i:Int):∀(r:List Int)(k:Nat),k<=r.length->valI (i::r) (argBest (λa b=>decide (valI (i::r) a<valI (i::r) b)) k)=minI i (r.take k)
 |r,0,_=>by simp[argBest,valI,minI]
 |r,k+1,hk=>by
  have ih:=zzQ i r k (by omega)
  have hk':k<r.length:=by omega
  have e1:r.take (k+1)=r.take k++ [r[k]]:=by rw[List.take_succ,List.getElem?_eq_getElem hk'];rfl
  have e2:valI (i::r) (k+1)=r[k]:=by simp[valI,List.getElem?_eq_getElem hk']
  have e3:minI i (r.take (k+1))=if r[k]<minI i (r.take k) then r[k] else minI i (r.take k):=by
   rw[e1];unfold minI;rw[List.foldl_append];rfl
  rw[e3, <- ih]
  simp only[argBest]
  by_cases hb:valI (i::r) (k+1)<valI (i::r) (argBest (λa b=>decide (valI (i::r) a<valI (i::r) b)) k)
  ·rw[if_pos (decide_eq_true hb),if_pos (by rw[<- e2];exact hb),e2]
  ·rw[if_neg (by rw[decide_eq_false hb];exact Bool.false_ne_true),if_neg (by rw[<- e2];exact hb)]
theorem vzC(hc:X.calm=true){pins:List (Addr×Obj)}{s:Shared}{σ:Sg}{H:Hp}{a:Addr}{l:List Int}{d:V}{u:Value}{Q:VK}(I:Inv X pins σ H s)(hq:SqL X.K H a (l.map V.int))(ru:RelV d u)(q0:l=[]->Q d H)(q1:∀i r,l=i::r->Q (.int (minI i r)) H):
 wpAny (model X.prog X.w) X.A (call (.builtin "min") [.ref a] [(Str.ofString "default",u)]) (EP X pins σ Q) X.xe s:=by
 obtain⟨its,p1,t1,_⟩:=I.list hq
 refine xzw (wpAny_pyIter_list t1.isList ?_)
 obtain⟨h1,h2,h3,h4⟩:=wzr (A:=X.A.in1) (prog:=X.prog) (w:=X.w) (s:=s) (I.ok.hd hc) t1.isList
 have hlen:=p1.length
 rw[List.length_map] at hlen
 refine⟨_,_,_,_,_,_,_,rfl,h1,h2,h3,CmpOf.ints_lt (valI l) (λj v hv=>wze p1 hv),λv g tk hn hv kp=>?_,λg tk hn kp=>?_⟩
 ·cases l with
  |nil=>simp at hlen hn;omega
  |cons i r=>
   obtain⟨t,rfl⟩:=wze p1 hv
   have hl:its.toArray.size-1=r.length:=by
    simp at hlen⊢
    omega
   rw[hl,zzQ i r r.length (Nat.le_refl _),List.take_length]
   exact⟨.int (minI i r),H,I.kept (h4 g kp),⟨t,rfl⟩,q1 i r rfl⟩
 ·have hl:l=[]:=by
   cases l with
   |nil=>rfl
   |cons i r=>simp at hlen hn;rw[hn] at hlen;simp at hlen
  exact⟨d,H,I.kept (h4 g kp),ru,q0 hl⟩
end
end Ng
end
section
namespace Ng
open PySem PySem.Spec PyProof.Rows L2
section
open PySem.SeqAt
open PySem.AutoSeq1 (wpAny_loadPart')
open PySem.MeetsSeq PySem.MeetsSeq2 PySem.MeetsSeq3
end
section
variable {X:Cx}{pins:List (Addr×Obj)}{σ:Sg}{H:Hp}{s:Shared}{m:List Addr}
end
end Ng
end
section
namespace Ng
open PySem PySem.Spec PyProof.Rows L2
section
variable {prog:Program}{w:World}{A:Around}{E:Value->Shared->Prop}{s:Shared}
theorem zzU{a:Addr}{vs:List Value}{n:Nat}{P:PySem.Fin->Shared->Prop}(ho:s.heap.get? a=some (seqObj "list" vs.toArray n))(h1:vs.length<2)
 (h:P (.done (.ret .none)) {s with heap:=sortedHeap s.heap a vs vs.toArray}):wpAny (model prog w) A (Builtin.«list.sort» ⟨[.ref a],[]⟩) P E s:=by
 have la:=Heap.lt_size ho
 obtain⟨e1,o1⟩:∃e1,(s.heap.update a (Obj.mapSeq λ_=> #[])).get? a=some (seqObj "list" #[] e1):=⟨_,get?_update_seq ho (λ_=> #[])⟩
 have o6:(((s.heap.update a (Obj.mapSeq λ_=> #[])).push (seqObj "tuple" vs.toArray 0)).push (seqObj "list" #[] 0)).get? a=some (seqObj "list" #[] e1):=
  Heap.get?_push_of_some _ (Heap.get?_push_of_some _ o1)
 have few:vs.toArray.size<2:=by simpa using h1
 have zs:(vs.toArray.zip vs.toArray).map (·.2)=vs.toArray:=by
  apply Array.toList_inj.mp
  simp[List.map_snd_zip]
 rw[list_sort_plain]
 refine wpAny_bind (listItems_at ho rfl (wpAny_bind (listUpdate_at ho rfl (wpAny_bind (seqEpoch_at o1 rfl (wpAny_bind (wpAny_newTuple (wpAny_bind (wpAny_newList (wpAny_holding ?_))))))))))
 show wpAny (model prog w) A _ P E {s with heap:=((s.heap.update a (Obj.mapSeq λ_=> #[])).push (seqObj "tuple" vs.toArray 0)).push (seqObj "list" #[] 0)}
 dsimp only
 rw[if_pos few,if_pos few]
 refine wpAny_bind (wpAny_pure ?_)
 rw[StateT.run_pure]
 refine wpAny_bind (wpAny_pure ?_)
 dsimp only
 refine wpAny_bind (seqEpoch_at o6 rfl (wpAny_bind (listUpdate_at o6 rfl ?_ (hsz2:=by
  show((vs.toArray.zip vs.toArray).map (·.2)).size<=_
  rw[zs,sizeLine_eq,List.size_toArray];omega))))
 simp only[bne_self_eq_false,Bool.false_eq_true,if_false]
 refine wpAny_pure ?_
 show P (.done (.ret .none)) {s with heap:=_}
 have z2:(arrOf (SortSt.mk' general' (vs.toArray.zip vs.toArray) #[] 7 none)).map (·.2)=vs.toArray:=zs
 rw[z2]
 exact h
theorem vz2{l:Addr}{vs:List Value}{Q:Value->Shared->Prop}(hl:s.heap.IsList l vs.toArray)(h1:vs.length<2)
 (h:Q (.ref (s.heap.objs.size+1)) {s with heap:=sortedAll s.heap vs vs.toArray}):wpAny (model prog w) A (call (.builtin "sorted") [.ref l]) Q E s:=by
 refine Calls.call_function_entry kind_sorted plain_sorted entry_sorted (args_sorted1 _) ?_
 have z1:((s.heap.push (seqObj "list" #[] 0)).update s.heap.objs.size (Obj.mapSeq (·++vs.toArray))).objs.size=s.heap.objs.size+1:=by rw[Heap.size_update,size_push']
 have o1:(((s.heap.push (seqObj "list" #[] 0)).update s.heap.objs.size (Obj.mapSeq (·++vs.toArray))).push (seqObj "list" vs.toArray 0)).get? (s.heap.objs.size+1)=some (seqObj "list" vs.toArray 0):=z1 ▸ Heap.get?_push_size _ rfl
 unfold Builtin.«sorted»
 refine wpAny_bind (m:=checkCount "sorted" 1 1 _) (wpAny_pure (wpAny_bind (collect_list hl (wpAny_bind (wpAny_newList ?_)))))
 show wpAny _ _ _ _ _ {s with heap:=((s.heap.push (seqObj "list" #[] 0)).update s.heap.objs.size (Obj.mapSeq (·++vs.toArray))).push (seqObj "list" vs.toArray 0)}
 rw[z1]
 exact wpAny_bind (wpAny_holding (wpAny_call_entry slot_list_sort ⟨_,o1,rfl⟩ entry_list_sort (zzU o1 h1 ⟨_,rfl,wpAny_pure ⟨_,rfl,h⟩⟩) (args_list_sort _)))
end
theorem qzm{h h':Heap}{L a:Addr}{xs:Array Value}{mm:Str->Option Value}(hn:h.Ns L mm)(k:∀b o,b≠L->h.get? b=some o->h'.get? b=some o)(t:IsTup h a xs):IsTup h' a xs:=by
 obtain⟨o,h1,h2,n,h3⟩:=t
 refine⟨o,k a o (λz=>?_) h1,h2,n,h3⟩
 subst z
 obtain⟨o',es,ep,g1,g2,_⟩:=hn
 rw[h1] at g1;cases g1
 rw[h3] at g2;cases g2
section
variable {X:Cx}{pins:List (Addr×Obj)}{σ:Sg}{H:Hp}{s:Shared}{m:List Addr}{K:PySem.W.Frag}
theorem qzz(I:Inv X pins σ H s){ds:List D}{v:V}{u:Value}(r:RD X.K m H (.tup ds) v)(rv:RelV v u):∃a vs its,u=.ref a/\RDs X.K m H ds vs/\Vals vs its/\IsTup s.heap a its.toArray:=by
 cases r with
 |tup h q=>
  cases rv
  obtain⟨its,p,t,_⟩:=I.tuple h
  exact⟨_,_,its,rfl,q,p,t⟩
theorem kat_flat{prog:Program}{w:World}{A:Around}{b fin:Bool}{Q:Bool->Shared->Prop}{t:Shared}(hb:b=true):∀{xs ys:List D}{vs us:List V}{its jts:List Value}{i:Nat}{c:Bool},RDs K m H xs vs->RDs K m H ys us->Vals vs its->Vals us jts->ltF xs ys=some c->
 ∀(p q:Nat),p+its.length=q+jts.length->fin=decide (q<p)->Q c t->PySem.W.KatLex prog w A b fin Q (its.zip jts) i t:=by
 intro xs
 induction xs with
 |nil=>
  intro ys vs us its jts i c hx hy hv hu e p q hpq hf h
  cases hx;cases hv
  cases hy with
  |nil=>
   cases hu
   have e':false=c:=Option.some.inj e
   subst e'
   show Q fin t
   rw[hf,decide_eq_false (by simp at hpq;omega)]
   exact h
  |cons r2 q2=>
   cases hu
   have e':true=c:=Option.some.inj e
   subst e'
   show Q fin t
   rw[hf,decide_eq_true (by simp at hpq;omega)]
   exact h
 |cons x xs ih=>
  intro ys vs us its jts i c hx hy hv hu e p q hpq hf h
  cases hx with
  |cons r1 q1=>
  cases hv with
  |cons s1 t1=>
  cases hy with
  |nil=>
   cases hu
   have e':false=c:=by
    cases x<;>exact Option.some.inj e
   subst e'
   show Q fin t
   rw[hf,decide_eq_false (by simp at hpq;omega)]
   exact h
  |cons r2 q2=>
  cases hu with
  |cons s2 t2=>
   simp only[List.length_cons] at hpq
   cases r1<;>cases r2<;>first |(simp[ltF] at e;done)|skip
   ·rename_i a a'
    obtain⟨tk,rfl⟩:=s1
    obtain⟨tk',rfl⟩:=s2
    simp only[ltF] at e
    refine PySem.W.kat_cons (wpAny_eqBool_int ?_)
    by_cases z:a=a'
    ·rw[if_pos z] at e
     rw[show(a==a')=true by simp[z]]
     exact PySem.W.kat_yes (ih q1 q2 t1 t2 e p q (by omega) hf h)
    ·rw[if_neg z] at e
     have e':=Option.some.inj e
     rw[show(a==a')=false by simp[z]]
     refine PySem.W.kat_no ?_
     subst e' hb
     by_cases hi:i=0
     ·subst hi
      exact oneLt_int h
     ·rw[show((true&&i==0):Bool)=false by simp[hi]]
      exact PySem.W.kat_one _ _ (PyProof.Rows.lt_int h)
   ·rename_i a a'
    obtain⟨tk,rfl⟩:=s1
    obtain⟨tk',rfl⟩:=s2
    simp only[ltF] at e
    refine PySem.W.kat_cons (wpAny_eqBool_str ?_)
    by_cases z:a=a'
    ·rw[if_pos z] at e
     rw[decide_eq_true z]
     exact PySem.W.kat_yes (ih q1 q2 t1 t2 e p q (by omega) hf h)
    ·rw[if_neg z] at e
     have e':=Option.some.inj e
     rw[decide_eq_false z]
     refine PySem.W.kat_no ?_
     subst e' hb
     by_cases hi:i=0
     ·subst hi
      exact oneLt_str h
     ·rw[show((true&&i==0):Bool)=false by simp[hi]]
      exact PySem.W.kat_one _ _ (lt_str h)
theorem qzo{α:Type}{l:List α}{i:Nat}{x d:α}(h:l[i]? =some x):l.getD i d=x:=by simp[List.getD_eq_getElem?_getD,h]
theorem RDs.pick{ds:List D}{vs:List V}(q:RDs K m H ds vs):∀(p:List Nat),(∀i∈p,i<ds.length)->RDs K m H (p.map λi=>ds.getD i .non) (p.map λi=>vs.getD i .non)
 | [],_=>.nil
 |i::p,h=>by
  have e:=List.getElem?_eq_getElem (h i List.mem_cons_self)
  obtain⟨v,hv,rv⟩:=q.get e
  refine .cons ?_ (RDs.pick q p λj hj=>h j (List.mem_cons_of_mem _ hj))
  show RD K m H (ds.getD i .non) (vs.getD i .non)
  rw[qzo e,qzo hv]
  exact rv
theorem wzB{vs:List V}{us:List Value}(q:Vals vs us):∀(p:List Nat),(∀i∈p,i<vs.length)->Vals (p.map λi=>vs.getD i .non) (p.map λi=>us.getD i Value.none)
 | [],_=>.nil
 |i::p,h=>by
  have e:=List.getElem?_eq_getElem (h i List.mem_cons_self)
  obtain⟨v,hv,rv⟩:=q.get e
  refine .cons ?_ (wzB q p λj hj=>h j (List.mem_cons_of_mem _ hj))
  show RelV (vs.getD i .non) (us.getD i Value.none)
  rw[qzo e,qzo hv]
  exact rv
theorem ask_ok{prog:Program}{w:World}{A:Around}{s':Shared}(I:Inv X pins σ H s)(kp:∀b o,b≠X.env.locals->s.heap.get? b=some o->s'.heap.get? b=some o){k:Nat}{x y:D}{vx vy:V}{ux uy:Value}{c:Bool}{κ:SortKind}(hκ:κ=if k<3 then oneType' else tuples' true)
 (kx:kdS x=k)(ky:kdS y=k)(k0:k≠0)(rx:RD X.K m H x vx)(ry:RD X.K m H y vy)(sx:RelV vx ux)(sy:RelV vy uy)(e:ltK x y=some c){C:Bool->Shared->Prop}(h:C c s'):
 wpAny (model prog w) A (keyLt' κ ux uy) C (λ_ _=>False) s':=by
 obtain⟨mm,hn,_⟩:=id I.loc
 have tup:∀{a b:List D},x=.tup a->y=.tup b->¬k<3->wpAny (model prog w) A (keyLt' κ ux uy) C (λ_ _=>False) s':=λ{a b} ea eb h3=>by
  subst ea eb
  rw[if_neg h3] at hκ
  subst hκ
  obtain⟨a1,vs,its,rfl,q1,p1,t1⟩:=qzz I rx sx
  obtain⟨a2,us,jts,rfl,q2,p2,t2⟩:=qzz I ry sy
  obtain⟨o1,g1,_,n1,d1⟩:=qzm hn kp t1
  obtain⟨o2,g2,_,n2,d2⟩:=qzm hn kp t2
  exact PySem.W.kat_lt g1 d1 g2 d2 (kat_flat (K:=X.K) rfl q1 q2 p1 p2 (by simpa [ltK] using e) jts.length its.length (by simp;omega) (by simp) h)
 cases x with
 |int a=>
  cases y with
  |int b=>
   have z:1=k:=kx
   subst z
   rw[if_pos (by decide)] at hκ
   subst hκ
   cases rx;cases ry
   obtain⟨t,rfl⟩:=sx
   obtain⟨t',rfl⟩:=sy
   have e':=Option.some.inj e
   subst e'
   exact PySem.W.kat_lt_int h
  |_=>simp[ltK] at e
 |str a=>
  cases y with
  |str b=>
   have z:2=k:=kx
   subst z
   rw[if_pos (by decide)] at hκ
   subst hκ
   cases rx;cases ry
   obtain⟨t,rfl⟩:=sx
   obtain⟨t',rfl⟩:=sy
   have e':=Option.some.inj e
   subst e'
   exact PySem.W.kas_lt_str h
  |_=>simp[ltK] at e
 |tup a=>
  cases y with
  |tup b=>
   refine tup rfl rfl λh3=>?_
   cases a with
   |nil=>exact k0 kx.symm
   |cons d ds=>cases d<;>first |(exact k0 kx.symm)|(have z:3=k:=kx;omega)|(have z:4=k:=kx;omega)
  |_=>simp[ltK] at e
 |_=>simp[ltK] at e
theorem kind_ok{prog:Program}{w:World}{A:Around}{s':Shared}(I:Inv X pins σ H s)(kp:∀b o,b≠X.env.locals->s.heap.get? b=some o->s'.heap.get? b=some o){k:Nat}{l:List D}{vs:List V}{its:List Value}(h2:2<=l.length)(hk:∀x∈l,kdS x=k)(k0:k≠0)
 (q:RDs X.K m H l vs)(p:Vals vs its){C:SortKind->Shared->Prop}(h:C (if k<3 then oneType' else tuples' true) s'):wpAny (model prog w) A (keyKind' its.toArray) C (λ_ _=>False) s':=by
 obtain⟨mm,hn,_⟩:=id I.loc
 have ln:=q.length
 have ln2:=p.length
 have mem:∀u∈its,∃x∈l,∃v,RD X.K m H x v/\RelV v u:=λu hu=>by
  obtain⟨i,hi,rfl⟩:=List.mem_iff_getElem.mp hu
  obtain⟨x,ex⟩:∃x,l[i]? =some x:=⟨_,List.getElem?_eq_getElem (by omega)⟩
  obtain⟨v,hv,rv⟩:=q.get ex
  obtain⟨u,hu,ru⟩:=p.get hv
  rw[List.getElem?_eq_getElem hi] at hu
  cases hu
  exact⟨x,List.mem_of_getElem? ex,v,rv,ru⟩
 by_cases h3:k<3
 ·rw[if_pos h3] at h
  by_cases h1:k=1
  ·refine PySem.W.kas_kind (T:=.type "int") (by omega) (λu hu=>?_) (by decide) (by decide) h
   obtain⟨x,hx,v,rx,rv⟩:=mem u hu
   have:=hk x hx
   cases rx<;>first |(exfalso;simp[kdS] at this;omega)|skip
   ·obtain⟨t,rfl⟩:=rv
    exact .now
   ·rename_i a ds vs' hq q'
    exfalso
    cases ds with
    |nil=>simp[kdS] at this;omega
    |cons d ds=>cases d<;>simp[kdS] at this<;>omega
  ·have h1:k=2:=by omega
   refine PySem.W.kas_kind (T:=.type "str") (by omega) (λu hu=>?_) (by decide) (by decide) h
   obtain⟨x,hx,v,rx,rv⟩:=mem u hu
   have:=hk x hx
   cases rx<;>first |(exfalso;simp[kdS] at this;omega)|skip
   ·obtain⟨t,rfl⟩:=rv
    exact .now
   ·rename_i a ds vs' hq q'
    exfalso
    cases ds with
    |nil=>simp[kdS] at this;omega
    |cons d ds=>cases d<;>simp[kdS] at this<;>omega
 ·rw[if_neg h3] at h
  have T:∃T:Value,(T=.type "int"\/T=.type "str")/\∀x∈l,∃d ds,x=.tup (d::ds)/\((T=.type "int"/\∃i,d=.int i)\/(T=.type "str"/\∃i,d=.str i)):=by
   by_cases h4:k=3
   ·refine⟨.type "int",.inl rfl,λx hx=>?_⟩
    have:=hk x hx
    cases x<;>first |(exfalso;simp[kdS] at this;omega)|skip
    rename_i ds
    cases ds with
    |nil=>exfalso;simp[kdS] at this;omega
    |cons d ds=>cases d<;>first |(exfalso;simp[kdS] at this;omega)|exact⟨_,_,rfl,.inl ⟨rfl,_,rfl⟩⟩
   ·refine⟨.type "str",.inr rfl,λx hx=>?_⟩
    have:=hk x hx
    cases x<;>first |(exfalso;simp[kdS] at this;omega)|skip
    rename_i ds
    cases ds with
    |nil=>exfalso;simp[kdS] at this;omega
    |cons d ds=>cases d<;>first |(exfalso;simp[kdS] at this;omega)|exact⟨_,_,rfl,.inr ⟨rfl,_,rfl⟩⟩
  obtain⟨T,hT,hl⟩:=T
  have go:∀{l:List D}{vs:List V}{its:List Value},(∀x∈l,∃d ds,x=.tup (d::ds)/\((T=.type "int"/\∃i,d=.int i)\/(T=.type "str"/\∃i,d=.str i)))->RDs X.K m H l vs->Vals vs its->
   ∃fs,PySem.W.KatTups s'.heap its fs/\fs.length=l.length/\∀f∈fs,PySem.W.Looks (model prog w) s'.heap (typeOf f) T:=by
   intro l
   induction l with
   |nil=>
    intro vs its _ q p
    cases q;cases p
    exact⟨[],trivial,rfl,λf hf=>by cases hf⟩
   |cons x l ih=>
    intro vs its hl q p
    cases q with
    |cons r q=>
     cases p with
     |cons sv p=>
      obtain⟨fs,f1,f2,f3⟩:=ih (λy hy=>hl y (List.mem_cons_of_mem _ hy)) q p
      obtain⟨d,ds,rfl,hd⟩:=hl x List.mem_cons_self
      obtain⟨a,vs',its',rfl,q',p',t'⟩:=qzz I r sv
      obtain⟨o,g1,g2,n,g3⟩:=qzm hn kp t'
      cases q' with
      |cons rd q'=>
       cases p' with
       |cons sd p'=>
        rename_i u us
        refine⟨u::fs,PySem.W.KatTups.cons g1 g2 g3 (by simp) f1,by simp[f2],λf hf=>?_⟩
        rcases List.mem_cons.mp hf with rfl|hf
        ·rcases hd with ⟨rfl,i,rfl⟩|⟨rfl,i,rfl⟩
         ·cases rd;obtain⟨t,rfl⟩:=sd;exact .now
         ·cases rd;obtain⟨t,rfl⟩:=sd;exact .now
        ·exact f3 f hf
  obtain⟨fs,f1,f2,f3⟩:=go hl q p
  refine PySem.W.kat_kind f1 (by omega) f3 (by rcases hT with rfl|rfl<;>decide) ?_
  rw[show(T != Value.type "tuple")=true by rcases hT with rfl|rfl<;>decide]
  exact h
theorem wz8(I:Inv X pins σ H s){h:Hh}(w:Wd X.K m h H){a:Addr}{l l':List D}{vs:List V}(hq:SqL X.K H a vs)(q:RDs X.K m H l vs)(h2:2<=l.length)(h64:l.length<64){k:Nat}(k0:k≠0)(hk:∀x∈l,kdS x=k)(hp:l'.Perm l)(hs:l'.Pairwise (Bef ltK)){Q:VK}
 (c:∀(p:Addr)(us:List V),H p=none->RDs X.K m H l' us->us.length<=sizeLine->Q (.ref p) (upd H p (.lst us))):wpAny (model X.prog X.w) X.A (call (.builtin "sorted") [.ref a]) (EP X pins σ Q) X.xe s:=by
 obtain⟨its,p1,t1,_⟩:=I.list hq
 have l1:=q.length
 have l2:=p1.length
 obtain⟨mm,F⟩:=I.fr
 have hL:H X.env.locals=none:=I.free
 refine PySem.W.kat_sorted F (news_all (g:=X.base)) t1.isList (by omega) (by omega) λDn e1 h' F' N' ltD=>?_
 have D0:=N' (Dn,seqObj "list" #[] e1) List.mem_cons_self
 have notD:∀b o,s.heap.get? b=some o->b≠Dn:=λb o e z=>by
  subst z
  exact Nat.lt_irrefl _ (ltD (b,o) (jz7 D0.2.1 D0.2.2 e))
 have HD:H Dn=none:=by
  cases e:H Dn with
  |none=>rfl
  |some o=>
   obtain⟨u,hu⟩:=qz1 (I.hok Dn o e)
   exact absurd rfl (notD Dn u hu)
 have kp:∀b o,b≠X.env.locals->s.heap.get? b=some o->h'.get? b=some o:=λb o hb e=>by
  cases z:X.base.get? b with
  |some u=>
   have:=I.bk b u z
   rw[e] at this;cases this
   exact F'.keep b _ z
  |none=>exact(N' (b,o) (List.mem_cons_of_mem _ (jz7 hb z e))).1
 refine kind_ok I (s':={s with heap:=h'}) kp h2 hk k0 q p1 ?_
 let L:Nat->Nat->Bool:=λi j=>decide (i≠j)&&(ltK (l.getD i .non) (l.getD j .non)==some true)
 have hne:∀i,L i i=false:=λi=>by simp[L]
 have hL':∀(i j:Nat)(x y:D),l[i]? =some x->l[j]? =some y->i≠j->(L i j=true↔ltK x y=some true):=λi j x y ex ey ne=>by
  simp[L,ne,ex,ey,List.getD_eq_getElem?_getD]
 have so:=so_of hp hs hne hL'
 have it1:its.length=l.length:=by omega
 rw[it1]
 refine KOk.wp (λi j C hi hj ne hC=>?_) (sort_ok so h2) λp ⟨hv,hsd⟩=>?_
 ·have ex:l[i]? =some l[i]:=List.getElem?_eq_getElem hi
  have ey:l[j]? =some l[j]:=List.getElem?_eq_getElem hj
  obtain⟨vx,hvx,rx⟩:=q.get ex
  obtain⟨vy,hvy,ry⟩:=q.get ey
  obtain⟨ux,hux,sx⟩:=p1.get hvx
  obtain⟨uy,huy,sy⟩:=p1.get hvy
  have lt:ltK l[i] l[j]=some (L i j):=by
   obtain⟨a1,b1⟩:=qzd hp ex
   obtain⟨a2,b2⟩:=qzd hp ey
   have nd:l.Nodup:=hp.nodup_iff.mp (wzz hs)
   have na:a1≠a2:=λz=>by
    subst z;rw[b1] at b2
    have e2:=Option.some.inj b2
    exact ne (qzn nd ex (by rw[e2];exact ey))
   rcases Nat.lt_or_gt_of_ne na with z|z
   ·have bf:=(ch_lt hs b1 b2 na).2 z
    rw[bf.1,(hL' i j _ _ ex ey ne).mpr bf.1]
   ·have bf:=(ch_lt hs b2 b1 (Ne.symm na)).2 z
    have:L i j=false:=by
     cases e:L i j with
     |false=>rfl
     |true=>
      have:=(hL' i j _ _ ex ey ne).mp e
      rw[bf.2] at this;cases this
    rw[bf.2,this]
  show wpAny _ _ (keyLt' _ (its.getD i Value.none) (its.getD j Value.none)) C _ _
  rw[qzo hux,qzo huy]
  exact ask_ok I (s':={s with heap:=h'}) kp rfl (hk _ (List.mem_of_getElem? ex)) (hk _ (List.mem_of_getElem? ey)) k0 rx ry sx sy lt hC
 ·have pl:∀i∈p.toList,i<l.length:=λi hi=>List.mem_range.mp (hv.mem_iff.mp hi)
  have out:=out_of hp hs hL' hv hsd D.non
  have rd:=q.pick p.toList pl
  rw[out] at rd
  have vl:=wzB p1 p.toList (λi hi=>by have:=pl i hi;omega)
  have hz:=hv.size
  have lz:(p.toList.map λi=>vs.getD i .non).length<=sizeLine:=by rw[List.length_map,Array.length_toList,hz,sizeLine_eq];omega
  refine⟨_,_,F',N',.head (λr hr=>Nat.ne_of_lt (ltD r hr)),λh2 cc F2 N2=>?_⟩
  have kp2:∀b o,b≠X.env.locals->s.heap.get? b=some o->h2.get? b=some o:=λb o hb e=>by
   cases z:X.base.get? b with
   |some u=>
    have:=I.bk b u z
    rw[e] at this;cases this
    exact F2.keep b _ z
   |none=>exact(N2 (b,o) (List.mem_cons_of_mem _ (jz7 hb z e))).1
  have D2:=N2 (Dn,_) List.mem_cons_self
  have tr:∀b o,H b=some o->b≠Dn/\b≠X.env.locals:=λb o e=>⟨(λz=>by rw[z,HD] at e;cases e),(λz=>by rw[z,hL] at e;cases e)⟩
  suffices IX:Inv X pins σ (upd H Dn (.lst (p.toList.map λi=>vs.getD i .non))) {s with heap:=h2,gens:=s.gens,drawn:=s.drawn,toks:=s.toks} from
   ⟨.ref Dn,upd H Dn (.lst (p.toList.map λi=>vs.getD i .non)),IX,rfl,c Dn _ HD rd lz⟩
  refine L2.Inv.step (s:=s) (g':=s.gens) (d':=s.drawn) (t':=s.toks) (ch:= []) I (λ_ z=>nomatch z) (λb o hb _ _ e _=>kp2 b o hb e) (λb o hb _ _ e _=>⟨o.slots,kp2 b o hb e⟩) (λb o _ e n=>by rw[jzl (notD b o e)];exact n) (λb o _ e=>?_) (λb xs e=>by rw[jzl (tr b _ e).1];exact e) (λb o u e=>by rw[jzl (tr b _ e).1];exact e)
   (λb ps e=>⟨#[],by rw[jzl (tr b _ e).1,e];simp⟩) (λm' hm=>?_) (λb o e=>?_) I.bare
  ·by_cases hb:b=X.env.locals
   ·subst hb
    obtain⟨o',_,_,e',_⟩:=F2.ns
    exact⟨o',e'⟩
   ·exact⟨o,kp2 b o hb e⟩
  ·have:m'=mm:=funext λx=>hm.agree F.ns x
   rw[this];exact F2.ns
  ·by_cases hb:b=Dn
   ·subst hb
    rw[jzy] at e
    cases e
    exact⟨lz,_,cc,vl,D2.1⟩
   ·rw[jzl hb] at e
    refine(I.hok b o e).stay (λb' u hb' e'=>kp2 b' u ?_ e') (λb' e'=>by rw[jzl (tr b' _ e').1];exact e') λb' xs e'=>by rw[jzl (tr b' _ e').1];exact e'
    rcases hb' with z|z
    ·rw[z];exact(tr b _ e).2
    ·exact(tr b' _ z).2
end
end Ng
end
section
namespace Ng
open PySem PySem.Spec PyProof.Rows L2
section
variable {X:Cx}
def tyName:D->Hh->Option String
 |.non,_=>some "NoneType"
 |d,h=>(tyD d h).map Ty.nm
theorem wzt{K:PySem.W.Frag}{d:D}{h:Hh}{T:String}{b:Bool}(e:isinD d T h=some b):∃t,tyName d h=some t/\PySem.W.kitOne K (.type t) (.type T)=some b:=by
 unfold isinD at e
 split at e
 ·split at e
  ·rename_i hT
   have eb:=Option.some.inj e
   subst eb
   refine⟨"NoneType",rfl,?_⟩
   simp[tyNames] at hT
   rcases hT with rfl|rfl|rfl|rfl|rfl<;>rfl
  ·cases e
 ·rename_i hn
  split at e
  ·rename_i t et
   split at e
   ·rename_i hT
    have eb:=Option.some.inj e
    subst eb
    refine⟨t.nm,?_,?_⟩
    ·cases d<;>first |(exact absurd rfl hn)|(simp[tyName,et])
    ·simp[tyNames] at hT
     cases t<;>rcases hT with rfl|rfl|rfl|rfl|rfl<;>rfl
   ·cases e
  ·cases e
theorem kia_D{pins:List (Addr×Obj)}{σ:Sg}{H:Hp}{s:Shared}{m:List Addr}{h:Hh}(I:Inv X pins σ H s)(w:Wd X.K m h H){d:D}{v:V}{u:Value}{t:String}(r:RD X.K m H d v)(rv:RelV v u)(e:tyName d h=some t):
 ∃P:Heap->Prop,PySem.W.KitX X.K u (.type t) P/\P s.heap/\u≠ .builtin "__main__.__loader__#opaque":=by
 cases r with
 |non=>cases rv;cases e;exact⟨_,PySem.W.kitx_none,trivial,λz=>nomatch z⟩
 |bl c=>cases rv;cases e;exact⟨_,PySem.W.kitx_bool,trivial,λz=>nomatch z⟩
 |int i=>obtain⟨t',rfl⟩:=rv;cases e;exact⟨_,PySem.W.kitx_int,trivial,λz=>nomatch z⟩
 |str x=>obtain⟨t',rfl⟩:=rv;cases e;exact⟨_,PySem.W.kitx_str,trivial,λz=>nomatch z⟩
 |ty n=>cases e
 |tup h1 q=>
  cases rv;cases e
  obtain⟨its,p1,⟨o,h2,h3,_⟩,_⟩:=I.tuple h1
  exact⟨_,PySem.W.kitx_tuple,⟨o,h2,h3⟩,λz=>nomatch z⟩
 |ref ha=>
  rename_i n a
  cases rv
  simp only[tyName,tyD] at e
  cases z:lstAt h n with
  |none=>rw[z] at e;cases e
  |some l=>
   rw[z] at e
   have e':"list"=t:=Option.some.inj e
   subst e'
   obtain⟨a',vs,ha',hq,q⟩:=w.lst z
   rw[ha] at ha';cases ha'
   obtain⟨its,p1,⟨o,k,h2,h3,_⟩,_⟩:=I.list hq
   exact⟨_,PySem.W.kitx_list,⟨o,h2,h3⟩,λz=>nomatch z⟩
theorem vals2R{x y:V}{us:List Value}(r:Vals [x,y] us):∃u v,us=[u,v]/\RelV x u/\RelV y v:=by
 cases r with
 |cons a t=>cases t with
  |cons b t=>cases t;exact⟨_,_,rfl,a,b⟩
theorem qz0{K:PySem.W.Frag}{m:List Addr}{H:Hp}{k:D->Hh->Rs D}{ds:List D}{xs:List V}{h h':Hh}{d:D}(r:RDs K m H ds xs)(e:one k ds h=.ok d h'):∃x v,xs=[v]/\RD K m H x v/\k x h=.ok d h':=by
 cases r with
 |nil=>cases e
 |cons r1 r=>
  cases r with
  |nil=>exact⟨_,_,rfl,r1,e⟩
  |cons=>cases e
theorem two_of{K:PySem.W.Frag}{m:List Addr}{H:Hp}{k:D->D->Hh->Rs D}{ds:List D}{xs:List V}{h h':Hh}{d:D}(r:RDs K m H ds xs)(e:two k ds h=.ok d h'):∃x y v u,xs=[v,u]/\RD K m H x v/\RD K m H y u/\k x y h=.ok d h':=by
 cases r with
 |nil=>cases e
 |cons r1 r=>
  cases r with
  |nil=>cases e
  |cons r2 r=>
   cases r with
   |nil=>exact⟨_,_,_,_,rfl,r1,r2,e⟩
   |cons=>cases e
theorem vzq{K:PySem.W.Frag}{m:List Addr}{H:Hp}:∀{ds:List D}{vs:List V}{us:List Value}{Ts:List String},RDs K m H ds vs->Vals vs us->tysOf ds=some Ts->us=Ts.map Value.type
 |_,_,_,_,.nil,.nil,e=>by
  have e':=Option.some.inj e
  subst e'
  rfl
 |_,_,_,_,.cons r q,.cons v t,e=>by
  cases r<;>first |(cases e;done)|skip
  simp only[tysOf] at e
  split at e
  ·rename_i l el
   have e':=Option.some.inj e
   subst e'
   cases v
   rw[vzq q t el]
   rfl
  ·cases e
theorem qzK{K:PySem.W.Frag}{d:D}{h:Hh}{t:String}(et:tyName d h=some t):∀{Ts:List String}{b:Bool},isinAny d h Ts=some b->PySem.W.kitAny K (.type t) (Ts.map Value.type)=some b
 | [],b,e=>e
 |T::r,b,e=>by
  simp only[isinAny] at e
  split at e
  ·rename_i a c e1 e2
   have e':=Option.some.inj e
   subst e'
   obtain⟨t',et',ek⟩:=wzt (K:=K) e1
   rw[et] at et';cases et'
   have ih:=qzK (K:=K) et e2
   simp only[List.map_cons,PySem.W.kitAny,ek,ih]
   cases a<;>rfl
  ·cases e
def Blt.val:Blt->Value
 |.len=>.builtin "len"|.isinst=>.builtin "isinstance"|.int=>.type "int"|.list=>.type "list"|.max=>.builtin "max"|.min=>.builtin "min"|.sorted=>.builtin "sorted"|.all=>.builtin "all"|.tup=>.type "tuple"
theorem qzw{K:PySem.W.Frag}{m:List Addr}{H:Hp}:∀{ds:List D}{vs:List V}{l:List Int},RDs K m H ds vs->intsD ds=some l->vs=l.map V.int
 |_,_,_,.nil,e=>by cases e;rfl
 |_,_,l,.cons r t,e=>by
  cases r<;>first |(cases e;done)|skip
  rename_i i
  simp only[intsD,Option.map_eq_some_iff] at e
  obtain⟨l',e1,rfl⟩:=e
  rw[qzw t e1]
  rfl
theorem qzs{m:List Addr}{h:Hh}{H:Hp}{K:PySem.W.Frag}(w:Wd K m h H){d:D}{v:V}{l:List D}(r:RD K m H d v)(hl:isLst d h=true)(e:seqD d h=some l):∃p vs,v=.ref p/\SqL K H p vs/\RDs K m H l vs:=by
 cases r<;>first |(cases hl;done)|skip
 rename_i n a ha
 obtain⟨a',vs,ha',hq,q⟩:=w.lst (show lstAt h n=some l from e)
 rw[ha] at ha';cases ha'
 exact⟨a,vs,rfl,hq,q⟩
theorem xzE(hc:X.calm=true)(hr:∃k,Room k X.A)(mx:Bool):CallR X (.builtin (if mx then "max" else "min")) (rDc X.K (bestL mx)):=by
 intro pins s σ H xs us Q I rs q
 obtain⟨m,h,ds,d,h',w,r,e,c⟩:=q
 have fin:∀z,RD X.K m H d z->h=h'->Q z H:=λz rz eh=>by subst eh;exact c m z H Gr.refl w rz
 cases r with
 |nil=>cases e
 |cons r1 r=>
  cases r with
  |nil=>cases e
  |cons r2 r=>
   cases r with
   |cons=>cases e
   |nil=>
    cases r1<;>first |(cases e;done)|skip
    rename_i i
    cases r2<;>first |(cases e;done)|skip
    rename_i j
    simp[bestL] at e
    obtain⟨rfl,rfl⟩:=e
    cases mx with
    |true=>exact xzz hc pins s σ H _ us Q I rs ⟨i,j,rfl,fin _ (.int _) rfl⟩
    |false=>exact xzy hc pins s σ H _ us Q I rs ⟨i,j,rfl,fin _ (.int _) rfl⟩
theorem sortBlt:CallR X (.builtin "sorted") (rDc X.K (one srtL)):=by
 intro pins s σ H xs us Q I rs q
 obtain⟨m,h,ds,d,h',w,r,e,c⟩:=q
 obtain⟨x,v,rfl,r1,e⟩:=qz0 r e
 unfold srtL at e
 split at e
 ·rename_i l hl el
  split at e
  ·rename_i l' es
   simp at e
   obtain⟨rfl,rfl⟩:=e
   obtain⟨⟨h64,hk⟩,hp,hs⟩:=srtD_of es
   obtain⟨p,vs,rfl,hq,q⟩:=qzs w r1 hl el
   obtain⟨u,rfl,ru⟩:=vals1 rs
   cases ru
   have fin:∀(p:Addr)(us:List V),H p=none->RDs X.K m H l' us->us.length<=sizeLine->Q (.ref p) (upd H p (.lst us)):=λp us hp rd _=>by
    obtain⟨w2,g2⟩:=w.lstNew hp rd
    exact c _ _ _ g2 w2 (.ref (by rw[<- w.len];simp))
   by_cases h2:2<=l.length
   ·rcases hk with z|⟨k,k0,hk⟩
    ·omega
    ·exact wz8 I w hq q h2 h64 k0 hk hp hs fin
   ·obtain⟨its,p1,t1,_⟩:=I.list hq
    have l1:=q.length
    have l2:=p1.length
    have ell:l'=l:=by
     have:=hp.length_eq
     rcases l with _|⟨x,_|⟨y,l⟩⟩
     ·exact List.perm_nil.mp hp
     ·exact List.perm_singleton.mp hp
     ·simp at h2
    subst ell
    refine vz2 t1.isList (by omega) ?_
    obtain⟨e1,ho⟩:=sortedAll_at s.heap its its.toArray
    have kp:∀b o,s.heap.get? b=some o->(sortedAll s.heap its its.toArray).get? b=some o:=λb o e=>sortedAll_old e
    have fr:H (s.heap.objs.size+1)=none:=I.hok.fresh (Nat.le_succ _)
    have lz:vs.length<=sizeLine:=by rw[sizeLine_eq];omega
    exact⟨.ref _,_,I.laid (t':=s.toks) (o:=.lst vs) kp (Nat.le_succ _) ⟨lz,its,e1,p1,ho⟩,rfl,fin _ vs fr q lz⟩
  ·cases e
 ·cases e
theorem xzC{K:PySem.W.Frag}{m:List Addr}{H:Hp}:∀{ds:List D}{vs:List V}{us:List Value}{l:List Bool},RDs K m H ds vs->Vals vs us->blsD ds=some l->us=l.map Value.bool
 |_,_,_,_,.nil,.nil,e=>by cases e;rfl
 |_,_,_,_,.cons r q,.cons v t,e=>by
  cases r<;>first |(cases e;done)|skip
  simp only[blsD,Option.map_eq_some_iff] at e
  obtain⟨l,e1,rfl⟩:=e
  cases v
  rw[xzC q t e1]
  rfl
theorem zzy{bs:List Bool}:(List.range bs.length).all (λi=>bs.getD i false)=bs.all id:=by
 induction bs with
 |nil=>rfl
 |cons b bs ih=>
  rw[List.length_cons,List.range_succ_eq_map,List.all_cons,List.all_map,List.all_cons]
  congr 1
theorem allBlt(hc:X.calm=true):CallR X (.builtin "all") (rDc X.K (one allL)):=by
 intro pins s σ H xs us Q I rs q
 obtain⟨m,h,ds,d,h',w,r,e,c⟩:=q
 obtain⟨x,v,rfl,r1,e⟩:=qz0 r e
 unfold allL at e
 split at e
 ·rename_i l hl el
  split at e
  ·rename_i bs eb
   simp at e
   obtain⟨rfl,rfl⟩:=e
   obtain⟨p,vs,rfl,hq,q⟩:=qzs w r1 hl el
   obtain⟨u,rfl,ru⟩:=vals1 rs
   cases ru
   obtain⟨its,p1,t1,_⟩:=I.list hq
   have ei:=xzC q p1 eb
   subst ei
   refine call_all_walk (wpAny_pyIter_list t1.isList ?_)
   obtain⟨h1,h2,h3,h4⟩:=wzr (A:=X.A.in1) (prog:=X.prog) (w:=X.w) (s:=s) (I.ok.hd hc) t1.isList
   refine⟨_,_,_,_,_,_,λi=>bs.getD i false,rfl,h1,h2,?_,λg tk kp=>⟨.bl (bs.all id),H,I.kept (h4 g kp),?_,c m _ H Gr.refl w (.bl _)⟩⟩
   ·intro i v s' Q' E' hv hQ
    have hv':(bs.map Value.bool)[i]? =some v:=by simpa using hv
    rw[List.getElem?_map,Option.map_eq_some_iff] at hv'
    obtain⟨b,hb,rfl⟩:=hv'
    have:bs.getD i false=b:=by rw[List.getD_eq_getElem?_getD,hb];rfl
    have hQ':Q' (bs.getD i false) s':=hQ
    rw[this] at hQ'
    exact wpAny_truthy_bool hQ'
   ·have:(bs.map Value.bool).toArray.size=bs.length:=by simp
    rw[this,zzy];rfl
  ·cases e
 ·cases e
theorem callBlt(hc:X.calm=true)(hr:∃k,Room k X.A)(f:Blt):CallR X f.val (rDc X.K (bltD f)):=by
 by_cases hm:f=.max
 ·subst hm;exact xzE hc hr true
 by_cases hm':f=.min
 ·subst hm';exact xzE hc hr false
 by_cases hm2:f=.sorted
 ·subst hm2;exact sortBlt
 by_cases hm3:f=.all
 ·subst hm3;exact allBlt hc
 intro pins s σ H xs us Q I rs q
 obtain⟨m,h,ds,d,h',w,r,e,c⟩:=q
 have fin:∀z,RD X.K m H d z->h=h'->Q z H:=λz rz eh=>by subst eh;exact c m z H Gr.refl w rz
 cases f with
 |max=>exact absurd rfl hm
 |min=>exact absurd rfl hm'
 |sorted=>exact absurd rfl hm2
 |len=>
  obtain⟨x,v,rfl,r1,e⟩:=qz0 r e
  unfold lenL at e
  split at e
  ·rename_i l el
   simp at e
   obtain⟨rfl,rfl⟩:=e
   obtain⟨p,vs,rfl,hq,q⟩:=wzK w r1 el
   refine wzZ pins s σ H _ us Q I rs ⟨p,vs,rfl,hq,?_⟩
   rw[<- q.length]
   exact fin _ (.int _) rfl
  ·split at e
   ·split at e
    ·rename_i hz
     cases e
     cases r1
     exact wzY pins s σ H _ us Q I rs ⟨_,rfl,hz,fin _ (.int _) rfl⟩
    ·cases e
   ·split at e
    ·rename_i l el
     simp at e
     obtain⟨rfl,rfl⟩:=e
     obtain⟨n,a,xs,us',o,es,ep,rfl,rfl,hn,ha,hf,df,go,hk,hks,rv,vv,dd⟩:=vzK I w r1 el
     obtain⟨u,rfl,ru⟩:=vals1 rs
     cases ru
     obtain⟨d1,d2,d3,d4,⟨P,w',d5⟩,d6⟩:=df
     have ez:es.size=l.length:=by
      have z1:=congrArg List.length d5
      have z2:=congrArg List.length hk
      simp at z1 z2
      omega
     have zl:l.length=xs.length:=by have z2:=congrArg List.length hk;simpa using z2
     refine xzA d1 go d3 d4 (by omega) ⟨.int es.size,H,I.tok _,⟨_,rfl⟩,?_⟩
     rw[ez]
     exact fin _ (.int _) rfl
    ·cases e
 |all=>exact absurd rfl hm3
 |tup=>
  obtain⟨x,v,rfl,r1,e⟩:=qz0 r e
  unfold tupL at e
  split at e
  ·rename_i l hl el
   simp at e
   obtain⟨rfl,rfl⟩:=e
   obtain⟨p,vs,rfl,hq,q⟩:=qzs w r1 hl el
   exact wzA pins s σ H _ us Q I rs ⟨p,vs,rfl,.inl ⟨hq,λa ha=>c m _ _ (Gr.tupNew ha) (w.keepNew ha) (.tup (.of jzy) (q.mono (Gr.tupNew ha)))⟩⟩
  ·cases e
 |int=>
  obtain⟨x,v,rfl,r1,e⟩:=qz0 r e
  cases r1<;>first |(cases e;done)|skip
  ·cases e
   exact wz0 pins s σ H _ us Q I rs (.inr ⟨_,rfl,fin _ (.int _) rfl⟩)
  ·cases e
   exact wz0 pins s σ H _ us Q I rs (.inl ⟨_,rfl,fin _ (.int _) rfl⟩)
 |list=>
  obtain⟨x,v,rfl,r1,e⟩:=qz0 r e
  unfold listL at e
  split at e
  ·rename_i l el
   simp at e
   obtain⟨rfl,rfl⟩:=e
   obtain⟨p,vs,rfl,hq,q⟩:=wzK w r1 el
   refine wzX pins s σ H _ us Q I rs ⟨p,vs,rfl,hq,λa ha=>?_⟩
   obtain⟨w2,g2⟩:=w.lstNew ha q
   exact c _ _ _ g2 w2 (.ref (by rw[<- w.len];simp))
  ·cases e
 |isinst=>
  obtain⟨x,y,v,u,rfl,r1,r2,e⟩:=two_of r e
  obtain⟨u1,u2,rfl,rv1,rv2⟩:=vals2R rs
  cases r2<;>first |(cases e;done)|skip
  ·rename_i T
   cases rv2
   simp only[isinL] at e
   split at e
   ·rename_i b eb
    simp at e
    obtain⟨rfl,rfl⟩:=e
    obtain⟨t,et,ek⟩:=wzt (K:=X.K) eb
    obtain⟨P,Z,hP,hx⟩:=kia_D I w r1 rv1 et
    exact PySem.W.kia_one Z I.kIn hP ek hx λtk=>⟨.bl b,H,I.tok tk,rfl,fin _ (.bl b) rfl⟩
   ·cases e
  ·rename_i a ds vs h1 q1
   cases rv2
   simp only[isinL] at e
   split at e
   ·cases e
   ·rename_i T Ts eT
    split at e
    ·rename_i b eb
     simp at e
     obtain⟨rfl,rfl⟩:=e
     have e1:∃k,isinD x T h=some k:=by
      simp only[isinAny] at eb
      split at eb
      ·rename_i z _;exact⟨_,z⟩
      ·cases eb
     obtain⟨k,e1⟩:=e1
     obtain⟨t,et,_⟩:=wzt (K:=X.K) e1
     obtain⟨P,Z,hP,hx⟩:=kia_D I w r1 rv1 et
     obtain⟨its,p1,⟨⟨oc,od,odt,osl⟩,h2,h3,n,h4⟩,_⟩:=I.tuple h1
     simp only at h3 h4
     subst h3 h4
     rw[vzq q1 p1 eT] at h2
     exact PySem.W.kia_tup Z I.kIn hP h2 (qzK et eb) hx λtk=>⟨.bl b,H,I.tok tk,rfl,fin _ (.bl _) rfl⟩
    ·cases e
   ·cases e
end
end Ng
end
section
namespace Ng
open PySem PySem.Spec PyProof.Rows L2
section
variable {X:Cx}{N:List Str}{sc:Scope}{G:Gs}{cl:Cl}
theorem visB_ok{x:Str}(h:visB sc x=true):Vis sc x:=by
 unfold visB at h
 split at h
 ·rename_i e;exact .inl e
 ·rename_i e;exact .inr (.inl e)
 ·rename_i e;exact .inr (.inr e)
 ·cases h
theorem qzl{x:Str}(h:locB sc x=true):Loc sc x:=by
 unfold locB at h
 split at h
 ·rename_i e;exact .inl e
 ·rename_i e;exact .inr e
 ·cases h
theorem jzV(xo:XOk X N sc){x:Str}(h:glB sc x=true):Gl X x:=by
 unfold glB at h
 split at h
 ·rename_i e
  show X.env.scope.names.lookup x=some .globalImplicit
  rw[xo.s];exact e
 ·cases h
theorem jzL{x:Str}(h:noDbg x=true):(x==("__debug__":Str))=false/\(x==("__classdict__":Str))=false/\x≠"__name__":=by
 unfold noDbg at h
 simp only[Bool.and_eq_true,Bool.not_eq_true'] at h
 exact⟨h.1.1,h.1.2,λz=>by have:=h.2;rw[z] at this;simp at this⟩
theorem tOf{e:PySem.Expr}{f:Ev->Hh->Rs D}(h:PE X e (TDE X.K f))(he:∀whole,isTrue e X.env whole=(do let v <- whole;standAt e.pos;holding [v] (truthy v))):PT X e (TDT X.K f):=
 L2.PT.wk (vzw h he) λs H Q ⟨m,r,hh,d,h',b,w,st,e1,eb,c⟩=>⟨m,r,hh,d,h',w,st,e1,λm' v H' g w' rd=>⟨b,qzY w' rd eb,c m' H' g w'⟩⟩
theorem inK_bl{x d:D}{l:List (Key×D)}{n:Bool}{h h':Hh}(e:inK x l n h=.ok d h'):∃k,d=.bl k:=by
 unfold inK at e
 split at e<;>first |(cases e;exact⟨_,rfl⟩)|(cases e;done)
theorem inD_bl{x d:D}{l:List D}{n:Bool}{h h':Hh}(e:inD x l n h=.ok d h'):∃k,d=.bl k:=by
 unfold inD at e
 split at e<;>first |(cases e;exact⟨_,rfl⟩)|(cases e;done)
theorem wzy{op:Cop}{x y d:D}{h h':Hh}(e:cmpD op x y h=.ok d h'):∃k,d=.bl k:=by
 unfold cmpD at e
 repeat' split at e
 all_goals first
  |(cases e;exact⟨_,rfl⟩)
  |exact inK_bl e
  |exact inD_bl e
  |(cases e;done)
def tAndG(K:PySem.W.Frag)(ta tb:TE):TE:=λσ H Q=>ta σ H λx H1=>∃k,TruV K x H1 k/\if k=true then tb σ H1 Q else Q x H1
def tOrG(K:PySem.W.Frag)(ta tb:TE):TE:=λσ H Q=>ta σ H λx H1=>∃k,TruV K x H1 k/\if k=true then Q x H1 else tb σ H1 Q
def tNotG(K:PySem.W.Frag)(ta:TE):TE:=λσ H Q=>ta σ H λx H1=>∃k,TruV K x H1 k/\Q (.bl (!k)) H1
theorem wzg{pins:List (Addr×Obj)}{s:Shared}{σ:Sg}{H:Hp}{x:V}{v:Value}{k:Bool}{Q:Bool->Shared->Prop}(I:Inv X pins σ H s)(r:RelV x v)(t:TruV X.K x H k)(h:∀s',Inv X pins σ H s'->Q k s'):wpAny (model X.prog X.w) X.A (truthy v) Q X.xe s:=
 thn (tru_ok pins s σ H x v (λb H'=>b=k/\H'=H) I r ⟨k,t,rfl,rfl⟩) λb s' ⟨H',I',e1,e2⟩=>by subst e1;subst e2;exact h s' I'
theorem zzI{a b:PySem.Expr}{rest:List PySem.Expr}{pos:Pos}{ta tb:TE}(ha:PE X a ta)(hb:PE X (.BoolOp .And (b::rest) pos) tb):PE X (.BoolOp .And (a::b::rest) pos) (tAndG X.K ta tb):=by
 intro pins s σ H Q I h
 refine BoolOp_and (thn (ha pins s σ H _ I h) λv s1 ⟨x,H1,I1,r1,k,t,q1⟩=>?_)
 refine wzg I1 r1 t λs2 I2=>?_
 cases k with
 |true=>exact hb pins s2 σ H1 Q I2 q1
 |false=>exact⟨x,H1,I2,r1,q1⟩
theorem pe_orG{a b:PySem.Expr}{rest:List PySem.Expr}{pos:Pos}{ta tb:TE}(ha:PE X a ta)(hb:PE X (.BoolOp .Or (b::rest) pos) tb):PE X (.BoolOp .Or (a::b::rest) pos) (tOrG X.K ta tb):=by
 intro pins s σ H Q I h
 refine BoolOp_or (thn (ha pins s σ H _ I h) λv s1 ⟨x,H1,I1,r1,k,t,q1⟩=>?_)
 refine wzg I1 r1 t λs2 I2=>?_
 cases k with
 |false=>exact hb pins s2 σ H1 Q I2 q1
 |true=>exact⟨x,H1,I2,r1,q1⟩
theorem zzE{a:PySem.Expr}{pos:Pos}{ta:TE}(ha:PE X a ta):PE X (.UnaryOp .Not a pos) (tNotG X.K ta):=by
 intro pins s σ H Q I h
 refine UnaryOp_ (thn (ha pins s σ H _ I h) λv s1 ⟨x,H1,I1,r1,k,t,q1⟩=>?_)
 exact not_of (wzg I1 r1 t λs2 I2=>⟨.bl (!k),H1,I2,rfl,q1⟩)
theorem pw_of{op:BoolOp}{vs:List PySem.Expr}{pos:Pos}{t:TT}(h:PT X (.BoolOp op vs pos) t):PW X (.BoolOp op vs pos) t:=λwh pins s σ H Q I q=>by
 have:=h pins s σ H Q I q
 exact this
theorem jzw{e:PySem.Expr}(es:List PySem.Expr)(h:noStar e=true):starEach (e::es) X.env=(false,eval e X.env)::starEach es X.env:=by
 cases e<;>first |rfl|(cases h;done)
end
end Ng
end
section
namespace Ng
open PySem PySem.Spec PyProof.Rows L2
section
variable {X:Cx}
theorem mm_boot(mx:Bool):bootBuiltins (mmNm mx)=some (.builtin (if mx then "max" else "min")):=by cases mx<;>decide+kernel
theorem mm_dbg(mx:Bool):(mmNm mx==("__debug__":Str))=false/\mmNm mx≠"__name__":=by cases mx<;>decide+kernel
theorem pe_mxd(hc:X.calm=true){mx:Bool}{y z:PySem.Expr}{p kp pos:Pos}{ta tb:TE}(hg:Gl X (mmNm mx))(hm:X.mg (mmNm mx)=none)(ha:PE X y ta)(hb:PE X z tb)(hs:starEach [y] X.env=[(false,eval y X.env)]):
 PE X (.Call (.Name (mmNm mx) p) [y] [⟨some "default",z,kp⟩] pos) (tOp (rD X.K (bestD mx)) ta tb):=by
 intro pins s σ H Q I q
 have hA:PA X [y] (tCons ta tNil):=jz1 ha qzC (by rw[hs];rfl)
 refine wpAny_Call_Name_kw (wzR I hg hm (mm_boot mx) ?_ (mm_dbg mx).2 (mm_dbg mx).1)
 refine callWith_kw (thn (hA pos pins s σ H (λvs H1=>match vs with| [x]=>tb σ H1 λy H2=>rD X.K (bestD mx) x y H2 Q|_=>False) I q) λus s1 ⟨vs,H1,I1,r1,q1⟩=>?_) (by rw[hs];rfl) (by rw[hs];rfl) rfl rfl
 ·obtain⟨x,rfl⟩:∃x,vs=[x]:=by
   rcases vs with _|⟨x,_|⟨y,vs⟩⟩
   ·exact q1.elim
   ·exact⟨x,rfl⟩
   ·exact q1.elim
  refine kws_cons (thn (hb pins s1 σ H1 _ I1 q1) λu s2 ⟨w2,H2,I2,r2,q2⟩=>kws_nil ?_)
  obtain⟨v,rfl,rv⟩:=vals1 r1
  obtain⟨m,h,dx,dy,d,h',w,rx,ry,e,c⟩:=q2
  have fin:∀z,RD X.K m H2 d z->h=h'->Q z H2:=λz rz eh=>by subst eh;exact c m z H2 Gr.refl w rz
  unfold bestD at e
  split at e
  ·rename_i l hl el
   obtain⟨pa,ws,rfl,hq,rw'⟩:=qzs w rx hl el
   cases rv
   split at e
   ·rename_i i r' ei
    simp at e
    obtain⟨rfl,rfl⟩:=e
    have ev:=qzw rw' ei
    subst ev
    cases mx with
    |true=>exact vzD (l:=i::r') hc I2 hq r2 (λz=>by cases z) λi1 r1 z=>by cases z;exact fin _ (.int _) rfl
    |false=>exact vzC (l:=i::r') hc I2 hq r2 (λz=>by cases z) λi1 r1 z=>by cases z;exact fin _ (.int _) rfl
   ·rename_i ei
    simp at e
    obtain⟨rfl,rfl⟩:=e
    have ev:=qzw rw' ei
    subst ev
    cases mx with
    |true=>exact vzD (l:= []) hc I2 hq r2 (λ_=>fin _ ry rfl) λi1 r1 z=>by cases z
    |false=>exact vzC (l:= []) hc I2 hq r2 (λ_=>fin _ ry rfl) λi1 r1 z=>by cases z
   ·cases e
  ·cases e
end
def Es.len:Es->Nat
 |.nil=>0
 |.cons _ l=>l.len+1
section
variable {X:Cx}
end
end Ng
end
section
namespace Ng
open PySem PySem.Spec PyProof.Rows L2
def clStep(env:Env)(p:Str×NameKind)(cs:List (Str×Addr)):List (Str×Addr):=if(p.2== .free)=true then(match env.cells.lookup p.1 with|some c=>(p.1,c)::cs|none=>cs) else cs
def clOf(scope:Scope)(env:Env):List (Str×Addr):=scope.names.foldl (λcs p=>clStep env p cs) []
theorem qz6{f:Str×NameKind->List (Str×Addr)->Sem (ForInStep (List (Str×Addr)))}{g:Str×NameKind->List (Str×Addr)->List (Str×Addr)}:∀(l:List (Str×NameKind))(acc:List (Str×Addr)),(∀p∈l,∀cs,f p cs=pure (.yield (g p cs)))->forIn l acc f=pure (l.foldl (λcs p=>g p cs) acc)
 | [],acc,_=>rfl
 |p::l,acc,h=>by
  rw[List.forIn_cons,h p List.mem_cons_self]
  show(forIn l (g p acc) f)=_
  rw[qz6 l (g p acc) λq hq=>h q (List.mem_cons_of_mem _ hq)]
  rfl
theorem qzq{scope:Scope}{env:Env}(h:∀p∈scope.names,p.2=.free->∃c,env.cells.lookup p.1=some c):closureFor scope env=pure (clOf scope env):=by
 simp only[closureFor]
 rw[qz6 (g:=clStep env) scope.names [] (λp hp cs=>by
  obtain⟨n,k⟩:=p
  cases hk:(k==NameKind.free) with
  |false=>(simp only[hk,clStep,Bool.false_eq_true,if_false]<;>rfl)
  |true=>
   obtain⟨c,hc⟩:=h (n,k) hp (by simpa using hk)
   (simp only[hk,clStep,if_true,hc,cellOf]<;>rfl))]
 rfl
theorem cl_mem{env:Env}:∀(l:List (Str×NameKind))(acc:List (Str×Addr)),(∀q∈acc,env.cells.lookup q.1=some q.2)->∀q∈l.foldl (λcs p=>clStep env p cs) acc,env.cells.lookup q.1=some q.2
 | [],acc,h=>h
 |p::l,acc,h=>cl_mem l (clStep env p acc) λq hq=>by
  unfold clStep at hq
  split at hq
  ·split at hq
   ·rename_i c hc
    rcases List.mem_cons.mp hq with rfl|hq
    ·exact hc
    ·exact h q hq
   ·exact h q hq
  ·exact h q hq
theorem cl_sub{env:Env}:∀(l:List (Str×NameKind))(acc:List (Str×Addr))(q:Str×Addr),q∈acc->q∈l.foldl (λcs p=>clStep env p cs) acc
 | [],acc,q,h=>h
 |p::l,acc,q,h=>cl_sub l (clStep env p acc) q (by
  unfold clStep
  split
  ·split
   ·exact List.mem_cons_of_mem _ h
   ·exact h
  ·exact h)
theorem cl_has{env:Env}:∀(l:List (Str×NameKind))(acc:List (Str×Addr))(n:Str)(c:Addr),(n,NameKind.free)∈l->env.cells.lookup n=some c->(n,c)∈l.foldl (λcs p=>clStep env p cs) acc
 | [],_,_,_,h,_=>by cases h
 |p::l,acc,n,c,h,hc=>by
  rcases List.mem_cons.mp h with rfl|h
  ·refine cl_sub l (clStep env (n,NameKind.free) acc) (n,c) ?_
   unfold clStep
   rw[if_pos (by rfl)]
   simp only[hc]
   exact List.mem_cons_self
  ·exact cl_has l _ n c h hc
theorem jzP{α:Type}{n:Str}{c:α}:∀{l:List (Str×α)},(n,c)∈l->∃c',l.lookup n=some c'
 | [],h=>by cases h
 |(m,d)::l,h=>by
  cases e:n==m with
  |true=>exact⟨d,by simp[List.lookup_cons,e]⟩
  |false=>
   rcases List.mem_cons.mp h with z|z
   ·cases z;simp at e
   ·obtain⟨c',hc'⟩:=jzP z
    exact⟨c',by simp only[List.lookup_cons,e];exact hc'⟩
theorem jzx{scope:Scope}{env:Env}{n:Str}{c:Addr}(h:(clOf scope env).lookup n=some c):env.cells.lookup n=some c:=
 cl_mem scope.names [] (λ_ hq=>by cases hq) (n,c) (PySem.mem_of_lookup h)
theorem vzN{scope:Scope}{env:Env}{n:Str}{c:Addr}(h:(n,NameKind.free)∈scope.names)(hc:env.cells.lookup n=some c):(clOf scope env).lookup n=some c:=by
 obtain⟨c',hc'⟩:=jzP (cl_has scope.names [] n c h hc)
 have:=jzx hc'
 rw[hc] at this;cases this
 exact hc'
theorem wzM{scope sc:Scope}{x:Str}{k':NameKind}(h:(relab scope sc).names.lookup x=some k'):∃k,scope.names.lookup x=some k/\(k'=k\/(k=.free/\k'=.cell)):=by
 unfold relab at h
 have go:∀(l:List (Str×NameKind)),(l.map λ(n,k)=>if(k== .free&&sc.kind== .function&&sc.names.lookup n==some .cell) then(n,NameKind.cell) else(n,k)).lookup x=some k'->∃k,l.lookup x=some k/\(k'=k\/(k=.free/\k'=.cell)):=by
  intro l
  induction l with
  |nil=>intro h;simp at h
  |cons p l ih=>
   intro h
   obtain⟨n,k⟩:=p
   cases e:x==n with
   |true=>
    refine⟨k,by simp[List.lookup_cons,e],?_⟩
    simp only[List.map_cons] at h
    by_cases hc:(k== .free&&sc.kind== .function&&sc.names.lookup n==some .cell)=true
    ·rw[if_pos hc] at h
     simp only[List.lookup_cons,e] at h
     simp only[Bool.and_eq_true,beq_iff_eq] at hc
     exact .inr ⟨hc.1.1,(Option.some.inj h).symm⟩
    ·rw[if_neg hc] at h
     simp only[List.lookup_cons,e] at h
     exact .inl (Option.some.inj h).symm
   |false=>
    simp only[List.map_cons] at h
    have h':(l.map λ(n,k)=>if(k== .free&&sc.kind== .function&&sc.names.lookup n==some .cell) then(n,NameKind.cell) else(n,k)).lookup x=some k':=by
     by_cases hc:(k== .free&&sc.kind== .function&&sc.names.lookup n==some .cell)=true
     ·rw[if_pos hc] at h;simp only[List.lookup_cons,e] at h;exact h
     ·rw[if_neg hc] at h;simp only[List.lookup_cons,e] at h;exact h
    obtain⟨k2,e2,e3⟩:=ih h'
    exact⟨k2,by simp only[List.lookup_cons,e];exact e2,e3⟩
 exact go scope.names h
theorem vz4{scope sc:Scope}{x:Str}(h:scope.names.lookup x=some .free)(hk:sc.kind=.function)(hc:sc.names.lookup x=some .cell):(relab scope sc).names.lookup x=some .cell:=by
 unfold relab
 have go:∀(l:List (Str×NameKind)),l.lookup x=some .free->(l.map λ(n,k)=>if(k== .free&&sc.kind== .function&&sc.names.lookup n==some .cell) then(n,NameKind.cell) else(n,k)).lookup x=some .cell:=by
  intro l
  induction l with
  |nil=>intro h;simp at h
  |cons p l ih=>
   intro h
   obtain⟨n,k⟩:=p
   cases e:x==n with
   |true=>
    have ex:x=n:=by simpa using e
    subst ex
    simp only[List.lookup_cons,e] at h
    cases h
    simp[List.map_cons,hk,hc]
   |false=>
    simp only[List.lookup_cons,e] at h
    simp only[List.map_cons]
    by_cases hc:(k== .free&&sc.kind== .function&&sc.names.lookup n==some .cell)=true
    ·rw[if_pos hc];simp only[List.lookup_cons,e];exact ih h
    ·rw[if_neg hc];simp only[List.lookup_cons,e];exact ih h
 exact go scope.names h
theorem qzE:∀{l:List Str},nodupB l=true->l.Nodup
 | [],_=>List.nodup_nil
 |x::l,h=>by
  have h':(!l.contains x&&nodupB l)=true:=h
  simp only[Bool.and_eq_true,Bool.not_eq_true'] at h'
  refine List.nodup_cons.mpr ⟨λhx=>?_,qzE h'.2⟩
  have:=h'.1
  simp[hx] at this
structure ScOk (scope sc:Scope):Prop where
 kind:scope.kind=.function
 out:sc.kind=.function
 nd:(scope.names.map (·.1)).Nodup
 loc:∀p∈scope.names,p.2=.local->scope.names.lookup p.1=some .local
 free:∀p∈scope.names,p.2=.free->sc.names.lookup p.1=some .cell
theorem scOk_of{scope sc:Scope}(h:scOk scope sc=true):ScOk scope sc:=by
 unfold scOk at h
 simp only[Bool.and_eq_true,beq_iff_eq,List.all_eq_true,Bool.or_eq_true,Bool.not_eq_true'] at h
 obtain⟨⟨⟨h1,h2⟩,h0⟩,h3⟩:=h
 refine⟨h1,h2,qzE h0,λp hp e=>?_,λp hp e=>?_⟩
 ·rcases(h3 p hp).1 with z|z
  ·rw[e] at z;simp at z
  ·simpa using z
 ·rcases(h3 p hp).2 with z|z
  ·rw[e] at z;simp at z
  ·simpa using z
theorem qzG{α:Type}{x:Str}{k:α}:∀{l:List (Str×α)},(l.map (·.1)).Nodup->(x,k)∈l->l.lookup x=some k
 | [],_,h=>by cases h
 |(y,j)::l,nd,h=>by
  rw[List.map_cons,List.nodup_cons] at nd
  rcases List.mem_cons.mp h with e|h2
  ·cases e;simp[List.lookup_cons]
  ·have ne:(x==y)=false:=by
    rw[beq_eq_false_iff_ne]
    rintro rfl
    exact nd.1 (List.mem_map.mpr ⟨(x,k),h2,rfl⟩)
   rw[List.lookup_cons,ne]
   exact qzG nd.2 h2
theorem zzx{scope:Scope}{env:Env}{x:Str}(h:scope.names.lookup x=some .cell):(relabel scope env).names.lookup x=some .cell:=by
 unfold relabel
 have go:∀(l:List (Str×NameKind)),l.lookup x=some .cell->(l.map λ(n,k)=>if(k== .free&&env.scope.kind== .function&&env.kindOf n==some .cell) then(n,NameKind.cell) else(n,k)).lookup x=some .cell:=by
  intro l
  induction l with
  |nil=>intro h;simp at h
  |cons p l ih=>
   intro h
   obtain⟨n,k⟩:=p
   cases e:x==n with
   |true=>
    simp only[List.lookup_cons,e] at h
    cases h
    simp[List.map_cons,List.lookup_cons,e]
   |false=>
    simp only[List.lookup_cons,e] at h
    simp only[List.map_cons]
    by_cases hc:(k== .free&&env.scope.kind== .function&&env.kindOf n==some .cell)=true
    ·rw[if_pos hc];simp only[List.lookup_cons,e];exact ih h
    ·rw[if_neg hc];simp only[List.lookup_cons,e];exact ih h
 exact go scope.names h
theorem jzF:∀(names:List (Str×NameKind))(n:Nat)(acc:List (Str×Addr)),cellsFrom n names acc=cellsFrom n names []++acc
 | [],_,_=>rfl
 |(x,k)::r,n,acc=>by
  unfold cellsFrom
  split
  ·rw[jzF r (n+1) ((x,n)::acc),jzF r (n+1) [(x,n)]];simp
  ·exact jzF r n acc
theorem jzX:∀(names:List (Str×NameKind))(n:Nat)(x:Str)(c:Addr),(x,c)∈cellsFrom n names []->(x,NameKind.cell)∈names
 | [],_,_,_,h=>by cases h
 |(y,k)::r,n,x,c,h=>by
  unfold cellsFrom at h
  split at h
  ·rename_i hk
   rw[jzF] at h
   rcases List.mem_append.mp h with h|h
   ·exact List.mem_cons_of_mem _ (jzX r _ x c h)
   ·have e:(x,c)=(y,n):=by simpa using h
    cases e
    have hk':k=.cell:=by simpa using hk
    subst hk'
    exact List.mem_cons_self
  ·exact List.mem_cons_of_mem _ (jzX r _ x c h)
def bcs(scope:Scope)(env:Env)(C:Addr):List (Str×Addr):=cellsFrom (C+1) scope.names (clOf scope env)
structure BCs (scope:Scope)(env:Env)(C:Addr)(h1:Heap):Prop where
 old:∀x,(x,NameKind.free)∈scope.names->(bcs scope env C).lookup x=(clOf scope env).lookup x
 new:∀x,scope.names.lookup x=some .cell->∃c,(bcs scope env C).lookup x=some c
 inv:∀x c,(bcs scope env C).lookup x=some c->(clOf scope env).lookup x=some c\/(C<c/\h1.IsCell c none/\∀y,(bcs scope env C).lookup y=some c->C<c->x=y)
 cellNew:∀x c,scope.names.lookup x=some .cell->(bcs scope env C).lookup x=some c->C<c
theorem bcs_ok{scope sc:Scope}{env:Env}{C:Addr}{h1:Heap}(S:ScOk scope sc)(hlow:∀x c,env.cells.lookup x=some c->c<C)(ok:CellsOk h1 (C+1) (cellsFrom (C+1) scope.names [])):BCs scope env C h1:=by
 have spl:∀x,(bcs scope env C).lookup x=((cellsFrom (C+1) scope.names []).lookup x).or ((clOf scope env).lookup x):=λx=>by
  unfold bcs;rw[jzF,List.lookup_append]
 have inv:∀x c,(bcs scope env C).lookup x=some c->(cellsFrom (C+1) scope.names []).lookup x=some c\/((cellsFrom (C+1) scope.names []).lookup x=none/\(clOf scope env).lookup x=some c):=λx c e=>by
  rw[spl] at e
  cases q:(cellsFrom (C+1) scope.names []).lookup x with
  |none=>rw[q] at e;exact .inr ⟨rfl,e⟩
  |some c'=>rw[q] at e;exact .inl e
 refine⟨λx hx=>?_,λx hx=>?_,λx c e=>?_,λx c hx e=>?_⟩
 ·rw[spl]
  cases q:(cellsFrom (C+1) scope.names []).lookup x with
  |none=>rfl
  |some c=>
   have z:=qzG S.nd (jzX _ _ _ _ (PySem.mem_of_lookup q))
   rw[qzG S.nd hx] at z;cases z
 ·have q:=PySem.W.cellsFrom_some scope.names (C+1) [] (.inl hx)
  obtain⟨c,hc⟩:=Option.isSome_iff_exists.mp q
  exact⟨c,by rw[spl,hc];rfl⟩
 ·rcases inv x c e with q|⟨_,q⟩
  ·have m:=ok.empty x c (PySem.mem_of_lookup q)
   refine .inr ⟨m.2,m.1,λy ey _=>?_⟩
   rcases inv y c ey with q'|⟨_,q'⟩
   ·exact name_of_addr ok.apart (PySem.mem_of_lookup q) (PySem.mem_of_lookup q')
   ·exact absurd (hlow y c (jzx q')) (Nat.not_lt.mpr (Nat.le_of_lt m.2))
  ·exact .inl q
 ·rcases inv x c e with q|⟨q0,q⟩
  ·exact(ok.empty x c (PySem.mem_of_lookup q)).2
  ·have q2:=PySem.W.cellsFrom_some scope.names (C+1) [] (.inl hx)
   rw[q0] at q2;cases q2
def blkX(X:Cx)(N':List Str)(scope:Scope)(C:Addr)(s3:Shared)(H3:Hp)(fp:List Addr):Cx:=
 {X with N:=N',s₀:=s3,H₀:=H3,env:=compEnvC scope (bcs scope X.env C) C X.env,outer:=X.stack,stack:=X.stack,ex:=fp,fn:=λx=>scope.names.lookup x==some .cell,pn:= [],xe:=λ_ _=>False}
def blkS(N':List Str)(cap:List Nat)(σ:Sg):Sg:=List.replicate (N'.length-cap.length) none++cap.map λ(i:Nat)=>(match σ[i]? with|some x=>x|none=>none)
section
variable {X:Cx}{pins:List (Addr×Obj)}{σ:Sg}{H3:Hp}{s3:Shared}{N':List Str}{scope:Scope}{fp:List Addr}{cap:List Nat}
theorem wz1(I:Inv X pins σ H3 s3)(S:ScOk scope X.env.scope)(hcap:cap.length<=N'.length)(hN:(N'.drop (N'.length-cap.length)).map some=cap.map (λ(i:Nat)=>X.N[i]?))(hfr:∀x∈N'.drop (N'.length-cap.length),scope.names.lookup x=some .free)
 {h1:Heap}{tk:Nat}{m:Str->Option Value}(hns:h1.Ns s3.heap.objs.size m)(keep:∀b o,s3.heap.get? b=some o->h1.get? b=some o)(B:BCs scope X.env s3.heap.objs.size h1)
 (hfp:∀b∈fp,FpOk X pins H3 b)(hob:∀b∈fp,b<s3.heap.objs.size)(hfb:∀b∈fp,∀o,X.base.get? b≠some o):Inv (blkX X N' scope s3.heap.objs.size s3 H3 fp) [] (blkS N' cap σ) H3 {s3 with heap:=h1,toks:=tk}:=by
 have stkN:∀b,b≠X.env.locals->b ∉ X.fs->b ∉ frs X.stack:=λb h1 h2 hb=>(List.mem_cons.mp (I.stkSub b hb)).elim h1 h2
 have kd:X.env.scope.kind=.function:=I.ok.kind
 have cellFree:∀x,(relab scope X.env.scope).names.lookup x=some .cell\/(relab scope X.env.scope).names.lookup x=some .free->(x,NameKind.free)∈scope.names\/scope.names.lookup x=some .cell:=λx hx=>by
  have:∃k',(k'=NameKind.cell\/k'=.free)/\(relab scope X.env.scope).names.lookup x=some k':=by
   rcases hx with h|h
   ·exact⟨_,.inl rfl,h⟩
   ·exact⟨_,.inr rfl,h⟩
  obtain⟨k',hk',h⟩:=this
  obtain⟨k,e1,e2⟩:=wzM h
  have hm:=PySem.mem_of_lookup e1
  rcases e2 with rfl|⟨rfl,_⟩
  ·rcases hk' with rfl|rfl
   ·exact .inr e1
   ·exact .inl hm
  ·exact .inl hm
 have lowC:∀x c,X.env.cells.lookup x=some c->c<s3.heap.objs.size:=λx c e=>let⟨_,q⟩:=I.cell x c e;q.lt
 have hasC:∀x,(x,NameKind.free)∈scope.names->∃c,X.env.cells.lookup x=some c:=λx hx=>I.ok.has x (.inl (S.free _ hx rfl))
 refine⟨⟨I.ok.mod,by show(relabel scope X.env).kind=_;exact S.kind,I.ok.glob,I.ok.blt,Nat.le_refl _,λx y c h1 h2=>?_,λx hx=>?_,λx c h e=>Nat.le_of_lt (B.cellNew x c (beq_iff_eq.mp h) e),I.ok.hd,I.ok.frames,.inl rfl,λb hb=>⟨Nat.ne_of_lt (hob b hb),λx c e=>?_⟩,I.bs,Nat.le_trans I.ok.bsz I.sz,λb o e hb=>hfb b hb o e,λb hb=>stkN b (hfp b hb).2.1 (hfp b hb).2.2.1,I.stack,I.stkFree⟩,
  rfl,I.bare,Un.kept keep,⟨m,hns,λi x v e1 e2 e3=>?_⟩,λx c e=>?_,I.hok.fresh (Nat.le_refl _),λx c e=>?_,λp hp=>absurd (show p∈([]:List (Addr×Obj)) from hp) (by simp),I.hok.kept keep,?_⟩
 ·rcases B.inv x c h1 with a|⟨a1,_,a3⟩
  ·rcases B.inv y c h2 with b|⟨b1,_,_⟩
   ·exact I.ok.inj x y c (jzx a) (jzx b)
   ·exact absurd (lowC x c (jzx a)) (Nat.not_lt.mpr (Nat.le_of_lt b1))
  ·exact a3 y h2 a1
 ·rcases cellFree x hx with hf|hf
  ·obtain⟨c,hc⟩:=hasC x hf
   exact⟨c,(B.old x hf).trans (vzN hf hc)⟩
  ·exact B.new x hf
 ·rcases B.inv x c e with a|⟨a1,_,_⟩
  ·exact(hfp b hb).2.2.2.2.1 x c (jzx a)
  ·exact Nat.ne_of_gt (Nat.lt_trans (hob b hb) a1)
 ·-- a captured name
  have hi:¬i<N'.length-cap.length:=λhi=>by
   unfold blkS at e2
   rw[List.getElem?_append_left (by simpa using hi),List.getElem?_replicate] at e2
   split at e2<;>cases e2
  have e1':N'[i]? =some x:=e1
  have hiN:i<N'.length:=(List.getElem?_eq_some_iff.mp e1').1
  unfold blkS at e2
  rw[List.getElem?_append_right (by simpa using hi),List.length_replicate,List.getElem?_map] at e2
  have hd:(N'.drop (N'.length-cap.length))[i-(N'.length-cap.length)]? =some x:=by
   rw[List.getElem?_drop]
   rw[show N'.length-cap.length+(i-(N'.length-cap.length))=i by omega]
   exact e1'
  cases ec:cap[i-(N'.length-cap.length)]? with
  |none=>rw[ec] at e2;cases e2
  |some j=>
   rw[ec] at e2
   have hj:X.N[j]? =some x:=by
    have z:=congrArg (λl=>l[i-(N'.length-cap.length)]?) hN
    simp only[List.getElem?_map,hd,ec,Option.map_some] at z
    exact(Option.some.inj z).symm
   have hσ:σ[j]? =some (some v):=by
    have e2':(match σ[j]? with|some x=>x|none=>none)=some v:=Option.some.inj e2
    cases q:σ[j]? with
    |none=>rw[q] at e2';cases e2'
    |some y=>rw[q] at e2';exact congrArg some e2'
   have hxf:scope.names.lookup x=some .free:=hfr x (List.mem_of_getElem? hd)
   have hxc:=S.free _ (PySem.mem_of_lookup hxf) rfl
   obtain⟨m0,hn0,hl0⟩:=I.loc
   obtain⟨u,ru,l0⟩:=hl0 j x v hj hσ (.inr (.inl hxc))
   refine⟨u,ru,.inr ⟨.inl ?_,?_⟩⟩
   ·show(relabel scope X.env).names.lookup x=some .cell
    exact vz4 (sc:=X.env.scope) hxf kd hxc
   ·rcases l0 with ⟨z,_⟩|⟨_,c,hc,o,ho,hd'⟩
    ·have z':X.env.scope.names.lookup x=some .local:=z
     rw[hxc] at z';cases z'
    ·exact⟨c,(B.old x (PySem.mem_of_lookup hxf)).trans (vzN (PySem.mem_of_lookup hxf) hc),o,keep c o ho,hd'⟩
 ·rcases B.inv x c e with a|⟨_,a2,_⟩
  ·obtain⟨v,o,ho,hd⟩:=I.cell x c (jzx a)
   exact⟨v,o,keep c o ho,hd⟩
  ·exact⟨_,a2⟩
 ·rcases B.inv x c e with a|⟨a1,_,_⟩
  ·exact I.freeC x c (jzx a)
  ·exact I.hok.fresh (Nat.le_of_lt a1)
 ·unfold blkS
  show _=N'.length
  rw[List.length_append,List.length_replicate,List.length_map]
  omega
end
theorem jzT{M:Model}{A:Around}{E:Value->Shared->Prop}{scope:Scope}{env:Env}{s:Shared}{Q:Env->Shared->Prop}
 (h:∀h1:Heap,h1.Ns s.heap.objs.size (λ_=>none)->(∀b o,s.heap.get? b=some o->h1.get? b=some o)->CellsOk h1 (s.heap.objs.size+1) (cellsFrom (s.heap.objs.size+1) scope.names [])->
   Q (newEnv scope s.heap.objs.size env.globals (bcs scope env s.heap.objs.size) env.qual none .none (some env) builtinsNs) {s with heap:=h1}):
 wpAny M A (newFunctionEnv scope env.globals (clOf scope env) [] env.qual none .none (some env)) Q E s:=by
 simp only[newFunctionEnv,Option.isSome_some,if_true]
 refine wpAny_bind (wpAny_alloc ?_)
 refine wpAny_bind (wpAny_layCells _ (λname kind cells=>by cases hkc:kind==NameKind.cell<;>simp[hkc]) _ _ _ _ ?_)
 have hsz:(s.heap.push {cls:=.type "dict",data:=.dict #[]}).objs.size=s.heap.objs.size+1:=Heap.size_push ..
 have ok:=cellsFrom_ok scope.names (s.heap.push {cls:=.type "dict",data:=.dict #[]}) (s.heap.objs.size+1) [] ⟨λ_ _ hm=>(nomatch hm),List.Pairwise.nil⟩ (by rw[hsz];exact Nat.le_refl _)
 rw[hsz] at ok
 rw[show({s with heap:=s.heap.push {cls:=.type "dict",data:=.dict #[]}}:Shared).heap.objs.size=s.heap.objs.size+1 from hsz]
 refine wpAny_bind (wpAny_of_eq (List.forIn_nil ..) (wpAny_pure ?_))
 exact h _ ((Heap.Ns.new s.heap (.type "dict")).keeps (pushCells_keeps _ _)) (λb o e=>pushCells_keeps _ _ b o (Heap.get?_push_of_some _ e)) ok
def testsOf(ifs:List PySem.Expr)(env:Env)(b:Bool):Sem Bool:=forIn ifs b λc r=>if r=true then do let ok <- isTrue c env (eval c env);pure (ForInStep.yield ok) else pure (ForInStep.yield r)
theorem xzq{elt tg iter:PySem.Expr}{ifs:List PySem.Expr}{scope:Scope}{pos:Pos}{it acc:Value}{env:Env}{P:Program}{w:World}{A:Around}{R:Result->Shared->Prop}{s:Shared}(J:Nat->Shared->Prop)
 (turn:∀k s,J k s->wpAny (model P w) A (pyNext it) (λr s1=>match r with
   |none=>R (.ok .next) s1
   |some v=>wpAny (model P w) A (letOwnedTupleGo tg it v) (λ_ s2=>wpAny (model P w) A (assign tg env v) (λ_ s3=>wpAny (model P w) A (testsOf ifs env true) (λok s4=>
     if ok=true then wpAny (model P w) A (eval elt env) (λx s5=>wpAny (model P w) A (call (.builtin "list.append") [acc,x]) (λ_ s6=>∃k',k'<k/\J k' s6) nev s5) nev s4
     else ∃k',k'<k/\J k' s4) nev s3) nev s2) nev s1) nev s)
 (k:Nat)(h:J k s):codeAny (model P w) A (.compLoop (.ListComp elt [⟨tg,iter,ifs,0⟩] scope pos) 0 it acc env) R s:=by
 refine codeAny_loop (I:=J) rfl (turn:=λk s hk=>?_) k h
 show wpAny _ A (Sem.onRaise (compTurn (.ListComp elt [⟨tg,iter,ifs,0⟩] scope pos) 0 it acc env) (λx=>do noteFrame x env;theTreesLotGoes x)) _ _ s
 refine wpAny_noted ?_
 rw[compTurn_list]
 have no:∀{E:Value->Shared->Prop}(e:Value)(s:Shared),nev e s->E e s:=λ_ _ f=>f.elim
 refine wpAny_bind (wpAny_standAt (wpAny_bind (wpAny_mono (turn k s hk) (λr s1 q1=>?_) no)))
 cases r with
 |none=>exact wpAny_pure q1
 |some v=>
  refine wpAny_bind (wpAny_mono q1 (λ_ s2 q2=>wpAny_bind (wpAny_mono q2 (λ_ s3 q3=>wpAny_bind (wpAny_mono q3 (λok s4 q4=>?_) no)) no)) no)
  cases ok with
  |false=>exact wpAny_pure ⟨rfl,q4⟩
  |true=>exact wpAny_bind (wpAny_bind (wpAny_mono q4 (λx s5 q5=>wpAny_bind (wpAny_mono q5 (λ_ s6 q6=>wpAny_pure (wpAny_pure ⟨rfl,q6⟩)) no)) no))
end Ng
end
section
namespace Ng
open PySem PySem.Spec PyProof.Rows L2
def TDG(K:PySem.W.Frag)(t:Tg):TG:=λv s H Q=>∃m h r d r',Wd K m h H/\RSt K m H r s/\RD K m H d v/\setT t d r=some r'/\∀s',RSt K m H r' s'->Q s' H
def TDB(K:PySem.W.Frag)(f:Ev->Hh->Rs Bool):TT:=λs H Q=>∃m r h b h',Wd K m h H/\RSt K m H r s/\f r h=.ok b h'/\∀m' H',Gr K m H m' H'->Wd K m' h' H'->Q b H'
def PTs(X:Cx)(ifs:List PySem.Expr)(t:TT):Prop:=∀(pins:List (Addr×Obj))(s:Shared)(σ:Sg)(H:Hp)(Q:Bool->Hp->Prop),Inv X pins σ H s->t σ H Q->wpAny (model X.prog X.w) X.A (testsOf ifs X.env true) (TP X pins σ Q) X.xe s
def Stp(K:PySem.W.Frag)(t:Tg)(cs:Ev->Hh->Rs Bool)(f:Ev->Hh->Rs D)(n0:Nat)(h':Hh)(J:It)(Lp:Nat->Nat->Ev->Hh->Prop)(i k:Nat)(r:Ev)(h:Hh)(m:List Addr)(H:Hp):Prop:=
 (J.stop i H/\h=h')\/(J.go i H/\∃d,(∀x H2,J.yld i H x H2->Gr K m H m H2/\Wd K m h H2/\RD K m H2 d x)/\∃r1,setT t d r=some r1/\∃b h1,cs r1 h=.ok b h1/\
   if b=true then ∃y h2 z h3,f r1 h1=.ok y h2/\appD (.ref n0) y h2=.ok z h3/\∃k',k'<k/\Lp (i+1) k' r1 h3 else ∃k',k'<k/\Lp (i+1) k' r1 h1)
section
variable {X:Cx}{G:Gs}{ca:Nat->Addr}{cl:Cl}{N':List Str}{scope:Scope}{cap:List Nat}{tg elt iter:PySem.Expr}{ifs:List PySem.Expr}{pos:Pos}{t:Tg}{ft:Ev->Hh->Rs Bool}{fe:Ev->Hh->Rs D}
theorem wzb{K:PySem.W.Frag}{m:List Addr}{H:Hp}{r:Ev}{σ:Sg}(st:RSt K m H r σ):RSt K m H (blockE N' cap r) (blkS N' cap σ):=by
 refine⟨by simp[blockE,blkS],λi d e=>?_⟩
 unfold blockE at e
 unfold blkS
 by_cases hi:i<N'.length-cap.length
 ·rw[List.getElem?_append_left (by simpa using hi),List.getElem?_replicate] at e
  split at e<;>cases e
 ·rw[List.getElem?_append_right (by simpa using hi),List.length_replicate,List.getElem?_map] at e
  rw[List.getElem?_append_right (by simpa using hi),List.length_replicate,List.getElem?_map]
  cases ec:cap[i-(N'.length-cap.length)]? with
  |none=>rw[ec] at e;cases e
  |some j=>
   rw[ec] at e
   have e':capV r j=some d:=Option.some.inj e
   have hr:r[j]? =some (some d):=by
    unfold capV at e'
    cases q:r[j]? with
    |none=>rw[q] at e';cases e'
    |some y=>rw[q] at e';exact congrArg some e'
   obtain⟨v,hv,rv⟩:=st.2 j d hr
   refine⟨v,?_,rv⟩
   show some (match σ[j]? with|some x=>x|none=>none)=some (some v)
   rw[hv]
theorem wzV{pins:List (Addr×Obj)}{σ:Sg}{H2:Hp}{s2:Shared}{J:It}{fp:List Addr}{it:Addr}{tn:Nat->Heap->Prop}{m2:List Addr}{h2 h':Hh}{r:Ev}(S:ScOk scope X.env.scope)(hcap:cap.length<=N'.length)
 (hN:(N'.drop (N'.length-cap.length)).map some=cap.map (λ(i:Nat)=>X.N[i]?))(hfr:∀x∈N'.drop (N'.length-cap.length),scope.names.lookup x=some .free)(calm:X.calm=true)
 (blk:∀(C:Addr)(s3:Shared)(H3:Hp)(fp:List Addr),PG (blkX X N' scope C s3 H3 fp) tg (TDG X.K t)/\PTs (blkX X N' scope C s3 H3 fp) ifs (TDB X.K ft)/\PE (blkX X N' scope C s3 H3 fp) elt (TDE X.K fe))
 (I:Inv X pins σ H2 s2)(T:Turn X.prog X.w X.K tg J fp it tn)(st:tn 0 s2.heap)(fok:∀b∈fp,FpOk X pins H2 b)(w2:Wd X.K m2 h2 H2)(rst:RSt X.K m2 H2 r σ)
 (Lp:Nat->Nat->Ev->Hh->Prop)(k0:Nat)(L0:Lp 0 k0 (blockE N' cap r) (h2++ [.lst []]))(hst:∀i k r h m H,Gr X.K m2 H2 m H->Wd X.K m h H->Lp i k r h->Stp X.K t ft fe h2.length h' J Lp i k r h m H)
 {Rr:Value->Addr->Result->Shared->Prop}
 (c:∀(acc C:Addr)(s1:Shared)(H':Hp)(m':List Addr),Inv X pins σ H' s1->(∃mm,s1.heap.Ns C mm)->H' C=none->C≠X.env.locals->X.s₀.heap.objs.size<=C->(∀x a,X.env.cells.lookup x=some a->a≠C)->(∀p∈X.pn++pins,p.1≠C)->Gr X.K m2 H2 m' H'->Wd X.K m' h' H'->RD X.K m' H' (.ref h2.length) (.ref acc)->Rr (.ref acc) C (.ok .next) s1):
 wpAny (model X.prog X.w) X.A (newList []) (λacc s3=>wpAny (model X.prog X.w) X.A (newFunctionEnv scope X.env.globals (clOf scope X.env) [] X.env.qual none .none (some X.env)) (λcenv s4=>
  codeAny (model X.prog X.w) X.A (.compStart (.ListComp elt [⟨tg,iter,ifs,0⟩] scope pos) 0 (.ref it) acc {cenv with scope:=relabel scope X.env}) (Rr acc cenv.locals) s4) X.xe s3) X.xe s2:=by
 have fob:∀b∈fp,b<s2.heap.objs.size:=λb hb=>let⟨o,e,_⟩:=T.obj 0 _ st b hb;Heap.lt_size e
 have ffb:∀b∈fp,∀o,X.base.get? b≠some o:=λb hb o e=>by
  rcases(fok b hb).2.2.2.1 with z|z
  ·exact I.ok.noex b o e z
  ·exact absurd (Nat.lt_of_lt_of_le (Heap.lt_size (I.ok.bs b o e).1) z) (Nat.lt_irrefl _)
 have hacc0:H2 s2.heap.objs.size=none:=I.hok.fresh (Nat.le_refl _)
 refine wpAny_newObj_type (jzT (λh1 hns keep cok=>?_))
 dsimp only at hns keep cok⊢
 obtain⟨w3,g3⟩:=w2.lstNew (ds:= []) (vs:= []) hacc0 .nil
 have I3:Inv X pins σ (upd H2 s2.heap.objs.size (.lst [])) {s2 with heap:=s2.heap.push {cls:=.type "list",dict:=none,data:=.seq ([]:List Value).toArray}}:=
  I.laid (t':=s2.toks) (λb u e=>Heap.get?_push_of_some _ e) (Nat.le_refl _) ⟨Nat.zero_le _,[],0,.nil,Heap.get?_push_size _ rfl⟩
 have fok3:∀b∈fp,FpOk X pins (upd H2 s2.heap.objs.size (.lst [])) b:=λb hb=>⟨by rw[jzl (Nat.ne_of_lt (fob b hb))];exact(fok b hb).1,(fok b hb).2⟩
 have st3:tn 0 h1:=T.keep _ _ _ st λb hb o e=>keep b o (Heap.get?_push_of_some _ e)
 have B:=bcs_ok (env:=X.env) S (λx c e=>let⟨_,q⟩:=I3.cell x c e;q.lt) cok
 have I4:=wz1 (N':=N') (scope:=scope) (fp:=fp) (cap:=cap) I3 S hcap hN hfr (h1:=h1) (tk:=s2.toks) hns keep B fok3 (λb hb=>by
  show b<(s2.heap.push _).objs.size
  rw[Heap.size_push];exact Nat.lt_succ_of_lt (fob b hb)) ffb
 have hsz:(s2.heap.push {cls:=.type "list",dict:=none,data:=.seq ([]:List Value).toArray}).objs.size=s2.heap.objs.size+1:=Heap.size_push ..
 generalize hs3:({s2 with heap:=s2.heap.push {cls:=.type "list",dict:=none,data:=.seq ([]:List Value).toArray}}:Shared)=s3 at I3 I4
 have eh3:s2.heap.push {cls:=.type "list",dict:=none,data:=.seq ([]:List Value).toArray}=s3.heap:=by rw[<- hs3]
 rw[eh3] at hns keep cok B hsz⊢
 generalize hH3:upd H2 s2.heap.objs.size (.lst [])=H3 at I3 I4 w3 g3 fok3
 obtain⟨bG,bT,bE⟩:=blk s3.heap.objs.size s3 H3 fp
 have ha:(m2++ [s2.heap.objs.size])[h2.length]? =some s2.heap.objs.size:=by rw[<- w2.len];simp
 have stkN:∀b,b≠X.env.locals->b ∉ X.fs->b ∉ frs X.stack:=λb h1 h2 hb=>(List.mem_cons.mp (I3.stkSub b hb)).elim h1 h2
 have fokB:∀{H:Hp},(∀b∈fp,H b=none)->∀b∈fp,FpOk (blkX X N' scope s3.heap.objs.size s3 H3 fp) [] H b:=λhn b hb=>
  ⟨hn b hb,Nat.ne_of_lt (by rw[hsz];exact Nat.lt_succ_of_lt (fob b hb)),stkN b (fok b hb).2.1 (fok b hb).2.2.1,.inl hb,λx c e=>(B.inv x c e).elim (λa=>(fok b hb).2.2.2.2.1 x c (jzx a)) (λa=>Nat.ne_of_gt (Nat.lt_trans (by rw[hsz];exact Nat.lt_succ_of_lt (fob b hb)) a.1)),λp hp=>absurd (show p∈([]:List (Addr×Obj)) from hp) (by simp)⟩
 have hw:X.w=X.w:=rfl
 have loop:∀s4:Shared,s4={s3 with heap:=h1,toks:=s2.toks}->codeAny (model X.prog X.w) X.A (.compLoop (.ListComp elt [⟨tg,iter,ifs,0⟩] scope pos) 0 (.ref it) (.ref s2.heap.objs.size) (compEnvC scope (bcs scope X.env s3.heap.objs.size) s3.heap.objs.size X.env)) (Rr (.ref s2.heap.objs.size) s3.heap.objs.size) s4:=by
  rintro s4 rfl
  refine xzq (λk s=>∃i σ' H' m r h,Inv (blkX X N' scope s3.heap.objs.size s3 H3 fp) [] σ' H' s/\tn i s.heap/\(∀b∈fp,H' b=none)/\Gr X.K (m2++ [s2.heap.objs.size]) H3 m H'/\Wd X.K m h H'/\RSt X.K m H' r σ'/\Lp i k r h) ?_ k0
   ⟨0,_,H3,_,_,_,I4,st3,λb hb=>(fok3 b hb).1,.refl,w3,wzb (rst.mono g3),L0⟩
  rintro k s ⟨i,σ',H',m,r',h,I',st',fr',g',w',rst',L⟩
  rcases hst i k r' h m H' (g3.trans g') w' L with ⟨stop,rfl⟩|⟨go,d,hy,r1,er,b,hb1,eb,rest⟩
  ·refine thn (T.done (blkX X N' scope s3.heap.objs.size s3 H3 fp) rfl rfl rfl calm i [] s σ' H' nev I' (fokB fr') st' stop) λres s1 ⟨hr,I1⟩=>?_
   subst hr
   obtain⟨mm,hn1,_⟩:=id I1.loc
   obtain⟨hp1,gg,dr,tk,os⟩:=s1
   obtain rfl:os=s3.os:=I1.os
   have IX:Inv X pins σ H' {s3 with heap:=hp1,gens:=gg,drawn:=dr,toks:=tk}:=I3.call (ch:=fp) I1.base I1.hok I1.bare λb hb=>⟨(fok3 b hb).2.2.2.1,(fok3 b hb).2.1,(fok3 b hb).2.2.2.2.1,(fok3 b hb).2.2.2.2.2⟩
   exact c _ _ _ H' m IX ⟨mm,hn1⟩ I1.free (Nat.ne_of_gt I3.lt) I3.sz (λx a e=>by
    obtain⟨v,q⟩:=I3.cell x a e
    exact Nat.ne_of_lt q.lt) (λp hp=>Nat.ne_of_lt (Heap.lt_size (I3.pin p hp).1)) (g3.trans g') w' (.ref (g'.pre _ _ ha))
  ·refine thn (T.item (blkX X N' scope s3.heap.objs.size s3 H3 fp) rfl rfl rfl calm i [] s σ' H' nev I' (fokB fr') st' go) λres s1 ⟨u,hr,q1⟩=>?_
   subst hr
   refine thn q1 λ_ s5 ⟨x,H5,I5,rx,yl,st5,fr5⟩=>?_
   obtain⟨gy,wy,rd⟩:=hy x H5 yl
   have I5':=I5.pinned (fokB fr5) (T.obj _ _ st5)
   have again:∀{σ7:Sg}{H7:Hp}{s7:Shared}{m7:List Addr}{r7:Ev}{h7:Hh},Inv (blkX X N' scope s3.heap.objs.size s3 H3 fp) ([]++pinsAt fp s5.heap) σ7 H7 s7->Gr X.K m H5 m7 H7->Wd X.K m7 h7 H7->RSt X.K m7 H7 r7 σ7->(∃k',k'<k/\Lp (i+1) k' r7 h7)->
    ∃k',k'<k/\∃i σ' H' m r h,Inv (blkX X N' scope s3.heap.objs.size s3 H3 fp) [] σ' H' s7/\tn i s7.heap/\(∀b∈fp,H' b=none)/\Gr X.K (m2++ [s2.heap.objs.size]) H3 m H'/\Wd X.K m h H'/\RSt X.K m H' r σ'/\Lp i k' r h:=λ{σ7 H7 s7 m7 r7 h7} I7 g7 w7 st7 ⟨k',hk,L7⟩=>by
    have pn:∀b∈fp,∀o,s5.heap.get? b=some o->s7.heap.get? b=some o/\H7 b=none:=λb hb o e=>let z:=I7.pin (b,o) (List.mem_append_right _ (List.mem_append_right _ (jz4 hb e)));⟨z.1,z.2.1⟩
    exact⟨k',hk,i+1,σ7,H7,m7,r7,h7,I7.unpinned,T.keep _ _ _ st5 λb hb o e=>(pn b hb o e).1,λb hb=>let⟨o,e,_⟩:=T.obj _ _ st5 b hb;(pn b hb o e).2,g'.trans (gy.trans g7),w7,st7,L7⟩
   refine thn (bG _ s5 σ' H5 x u (λσ2 H6=>H6=H5/\RSt X.K m H5 r1 σ2) I5' rx ⟨m,h,r',d,r1,wy,rst'.mono gy,rd,er,λs' z=>⟨rfl,z⟩⟩) λ_ s6 ⟨σ6,H6,I6,eH6,st6⟩=>?_
   subst eH6
   refine thn (bT _ s6 σ6 H6 (λb' H7=>b'=b/\∃m7,Gr X.K m H6 m7 H7/\Wd X.K m7 hb1 H7) I6 ⟨m,r1,h,b,hb1,wy,st6,eb,λm' H' g w=>⟨rfl,m',g,w⟩⟩) λb' s7 ⟨H7,I7,e7,m7,g7,w7⟩=>?_
   subst e7
   cases b' with
   |false=>
    rw[if_neg Bool.false_ne_true] at rest⊢
    exact again I7 g7 w7 (st6.mono g7) rest
   |true=>
    rw[if_pos rfl] at rest⊢
    obtain⟨y,h8,z,h9,ey,ea,rest⟩:=rest
    refine thn (bE _ s7 σ6 H7 (λv H8=>∃m8,Gr X.K m7 H7 m8 H8/\Wd X.K m8 h8 H8/\RD X.K m8 H8 y v) I7 ⟨m7,r1,hb1,y,h8,w7,st6.mono g7,ey,λm' v H' g w rv=>⟨m',g,w,rv⟩⟩) λyv s8 ⟨v,H8,I8,rv,m8,g8,w8,rdy⟩=>?_
    have ha8:m8[h2.length]? =some s2.heap.objs.size:=g8.pre _ _ (g7.pre _ _ (gy.pre _ _ (g'.pre _ _ ha)))
    simp only[appD] at ea
    split at ea<;>first |(cases ea;done)|skip
    rename_i l el
    split at ea<;>first |(cases ea;done)|skip
    rename_i hlen
    cases ea
    obtain⟨vs,hv,rvs⟩:∃vs,H8 s2.heap.objs.size=some (.lst vs)/\RDs X.K m8 H8 l vs:=w8.ob _ _ _ el ha8
    obtain⟨_,w9,g9⟩:=w8.lstSet el ha8 (rvs.append (.cons rdy .nil))
    refine thn (wzP (X:=blkX X N' scope s3.heap.objs.size s3 H3 fp) _ s8 σ6 H8 (.ref s2.heap.objs.size) [v] (.ref s2.heap.objs.size) [yv] (λ_ H9=>H9=upd H8 s2.heap.objs.size (.lst (vs++ [v]))) I8 rfl (.cons rv .nil) ⟨_,vs,v,rfl,rfl,hv,by rw[<- rvs.length];exact Nat.lt_of_lt_of_le hlen (by decide),rfl⟩) λ_ s9 ⟨_,H9,I9,_,e9⟩=>?_
    subst e9
    exact again I9 ((g7.trans g8).trans g9) w9 (st6.mono ((g7.trans g8).trans g9)) rest
 have es:({s2 with heap:=h1,toks:=s2.toks}:Shared)={s3 with heap:=h1,toks:=s2.toks}:=by subst hs3;rfl
 exact codeAny_compStart_list (loop _ es) (T.self X.A 0 _ _ _ st3 (loop _ es))
end
end Ng
end
section
namespace Ng
open PySem PySem.Spec PyProof.Rows L2
theorem _root_.L2.PG.wk{X:Cx}{e:PySem.Expr}{t t':TG}(h:PG X e t)(i:∀v s H Q,t' v s H Q->t v s H Q):PG X e t':=λpins s σ H v u Q I r q=>h pins s σ H v u Q I r (i _ _ _ _ q)
def gAll(is:List Nat):TGs:=λvs s H Q=>∃(K:PySem.W.Frag)(m:List Addr)(r:Ev)(ds:List D),RSt K m H r s/\RDs K m H ds vs/\ds.length=is.length/\∀s',RSt K m H (setAll is ds r) s'->Q s' H
section
variable {X:Cx}{N:List Str}{sc:Scope}{G:Gs}{ca:Nat->Addr}{cl:Cl}{K:PySem.W.Frag}
theorem pgsP(ok:PySem.Expr->Nat->Bool)(hok:∀e i,ok e i=true->∃x pos,e=.Name x pos/\PG X (.Name x pos) (gName i)):∀{is:List Nat}{es:List PySem.Expr},is.length=es.length->(∀(j:Nat) i e,is[j]? =some i->es[j]? =some e->ok e i=true)->PGs X es (gAll is)/\(assignEach es X.env).length=is.length/\(assignEach es X.env).findIdx? (·.1)=none
 | [],[],_,_=>⟨λpins s σ H vs us Q I rv ⟨K,m,r,ds,st,rd,hl,c⟩=>by
     cases ds with
     |cons=>cases hl
     |nil=>
      cases rd
      exact pgs_nil pins s σ H [] us Q I rv ⟨rfl,c _ st⟩,rfl,rfl⟩
 |i::is,e::es,hl,h=>by
  obtain⟨x,pos,rfl,pn⟩:=hok e i (h 0 i e rfl rfl)
  obtain⟨ih,i2,i3⟩:=pgsP ok hok (is:=is) (es:=es) (by simpa using hl) λj i e e1 e2=>h (j+1) i e (by simpa using e1) (by simpa using e2)
  refine⟨λpins s σ H vs us Q I rv ⟨K,m,r,ds,st,rd,hl,c⟩=>?_,?_,?_⟩
  ·cases ds with
   |nil=>cases hl
   |cons d ds=>
    cases rd with
    |cons r1 rd=>
     exact pgs_cons pn ih rfl pins s σ H _ us Q I rv ⟨_,_,rfl,K,m,_,ds,st.set i r1,rd,by simpa using hl,c⟩
  ·show(assignEach es X.env).length+1=is.length+1
   rw[i2]
  ·show((false,assign (.Name x pos) X.env)::assignEach es X.env).findIdx? (·.1)=none
   rw[List.findIdx?_cons]
   simp[i3]
 | [],_::_,hl,_=>by simp at hl
 |_::_,[],hl,_=>by simp at hl
theorem pgT_of(ok:PySem.Expr->Nat->Bool)(hok:∀e i,ok e i=true->∃x pos,e=.Name x pos/\PG X (.Name x pos) (gName i))(calm:X.calm=true){t:Tg}{tg:PySem.Expr}
 (h:match t with|.nm i=>ok tg i=true|.tp l=>(∃es k pos,tg=.Tuple es k pos/\l.length=es.length/\∀(j:Nat) i e,l[j]? =some i->es[j]? =some e->ok e i=true)):PG X tg (TDG X.K t):=by
 cases t with
 |nm i=>
  obtain⟨x,pos,rfl,pn⟩:=hok tg i h
  refine pn.wk λv s H Q ⟨m,hh,r,d,r',w,st,rd,e,c⟩=>?_
  cases e
  exact c _ (st.set i rd)
 |tp l=>
  obtain⟨es,k,pos,rfl,hl,h⟩:=h
  obtain⟨p1,p2,p3⟩:=pgsP ok hok hl h
  refine(pg_tup calm p1 p2 p3).wk λv s H Q ⟨m,hh,r,d,r',w,st,rd,e,c⟩=>?_
  cases rd<;>first |(cases e;done)|skip
  rename_i a ds vs hq q _
  simp only[setT] at e
  split at e
  ·rename_i hl
   cases e
   exact⟨a,vs,rfl,hq,by rw[<- q.length];exact hl,X.K,m,r,ds,st,q,hl,c⟩
  ·cases e
theorem wzW:∀{l:List Nat}{es:List PySem.Expr},chkNs' N sc l es=true->l.length=es.length/\∀(j:Nat) i e,l[j]? =some i->es[j]? =some e->chkT' N sc (.nm i) e=true
 | [],[],_=>⟨rfl,λj i e h=>by simp at h⟩
 |i::is,e::es,h=>by
  cases e<;>first |exact absurd (show false=true from h) Bool.false_ne_true|skip
  rename_i x pos
  have h':(N[i]? ==some x&&locB sc x&&chkNs' N sc is es)=true:=h
  rw[Bool.and_eq_true] at h'
  obtain⟨i1,i2⟩:=wzW h'.2
  refine⟨by simp[i1],λj i' e' e1 e2=>?_⟩
  cases j with
  |zero=>
   simp at e1 e2
   subst e1;subst e2
   exact h'.1
  |succ j=>exact i2 j i' e' (by simpa using e1) (by simpa using e2)
 | [],_::_,h=>absurd (show false=true from h) Bool.false_ne_true
 |_::_,[],h=>absurd (show false=true from h) Bool.false_ne_true
abbrev LocOk(X:Cx)(scope:Scope):Prop:=∀x,locB scope x=true->Loc X.env.scope x/\(X.fn x=true\/X.env.scope.names.lookup x=some .local)
theorem pgT'{scope:Scope}(xo:XOk X N sc)(lo:LocOk X scope){t:Tg}{tg:PySem.Expr}(h:chkT' N scope t tg=true):PG X tg (TDG X.K t):=by
 refine pgT_of (λe i=>chkT' N scope (.nm i) e) (λe i he=>?_) xo.calm ?_
 ·cases e<;>first |exact absurd (show false=true from he) Bool.false_ne_true|skip
  rename_i x pos
  have h':(N[i]? ==some x&&locB scope x)=true:=he
  simp only[Bool.and_eq_true,beq_iff_eq] at h'
  obtain⟨l1,l2⟩:=lo x h'.2
  exact⟨x,pos,rfl,zzC xo.nd (by rw[xo.n];exact h'.1) l1 l2⟩
 ·cases t with
  |nm i=>exact h
  |tp l=>
   cases tg<;>first |exact absurd (show false=true from h) Bool.false_ne_true|skip
   rename_i es k pos
   obtain⟨h1,h2⟩:=wzW (show chkNs' N scope l es=true from h)
   exact⟨es,k,pos,rfl,h1,h2⟩
section
variable {t:Tg}{ft:Ev->Hh->Rs Bool}{fe:Ev->Hh->Rs D}{n0:Nat}{h':Hh}{J:It}{m2:List Addr}{H2:Hp}{r0:Ev}{h0:Hh}
abbrev Turns(K:PySem.W.Frag)(t:Tg)(ft:Ev->Hh->Rs Bool)(fe:Ev->Hh->Rs D)(n0:Nat)(h':Hh)(J:It)(m2:List Addr)(H2:Hp)(r0:Ev)(h0:Hh):Prop:=∃(Lp:Nat->Nat->Ev->Hh->Prop)(k0:Nat),Lp 0 k0 r0 h0/\∀i k r h m H,Gr K m2 H2 m H->Wd K m h H->Lp i k r h->Stp K t ft fe n0 h' J Lp i k r h m H
theorem jz0{l:List D}(e:compS t ft fe n0 l r0 h0=.ok () h')(hgo:∀(i:Nat) d m H,Gr K m2 H2 m H->l[i]? =some d->J.go i H/\∀x H',J.yld i H x H'->H'=H/\RD K m H d x)(hstop:∀(i:Nat) m H,Gr K m2 H2 m H->l.length<=i->J.stop i H):Turns K t ft fe n0 h' J m2 H2 r0 h0:=by
 refine⟨λi k r h=>k=l.length-i/\compS t ft fe n0 (l.drop i) r h=.ok () h',l.length,⟨by simp,e⟩,λi k r h m H g w ⟨hk,e⟩=>?_⟩
 by_cases hi:i<l.length
 ·have ed:l[i]? =some l[i]:=List.getElem?_eq_getElem hi
  obtain⟨a,b⟩:=hgo i _ m H g ed
  rw[List.drop_eq_getElem_cons hi] at e
  simp only[compS] at e
  split at e
  ·cases e
  ·rename_i r1 er
   obtain⟨bb,h1,e1,e⟩:=Rs.bind_ok e
   refine .inr ⟨a,_,λx H2 y=>by obtain⟨eH,rd⟩:=b x H2 y;subst eH;exact⟨.refl,w,rd⟩,r1,er,bb,h1,e1,?_⟩
   cases bb with
   |true=>
    rw[if_pos rfl] at e⊢
    obtain⟨y,h3,e3,e⟩:=Rs.bind_ok e
    obtain⟨z,h4,e4,e⟩:=Rs.bind_ok e
    exact⟨y,h3,z,h4,e3,e4,_,by omega,rfl,e⟩
   |false=>
    rw[if_neg Bool.false_ne_true] at e⊢
    exact⟨_,by omega,rfl,e⟩
 ·rw[List.drop_eq_nil_of_le (by omega)] at e
  cases e
  exact .inl ⟨hstop i m H g (by omega),rfl⟩
theorem zzk{a:Addr}{l:List D}{vs:List V}(hq:SqT K H2 a vs)(q:RDs K m2 H2 l vs)(e:compS t ft fe n0 l r0 h0=.ok () h'):Turns K t ft fe n0 h' (Itt K a) m2 H2 r0 h0:=
 jz0 e (λi d m H g ed=>by
  obtain⟨v,hv,rv⟩:=q.get ed
  exact⟨⟨vs,v,g.tup _ _ hq,hv⟩,λx H' y=>by
   obtain⟨eH,y⟩:=y
   have:=y vs (g.tup _ _ hq)
   rw[hv] at this;cases this
   exact⟨eH,rv.mono g⟩⟩) λi m H g hi=>⟨vs,g.tup _ _ hq,by rw[<- q.length];exact hi⟩
theorem zzl{lo hi:Int}(e:compS t ft fe n0 (rngD lo hi) r0 h0=.ok () h'):Turns K t ft fe n0 h' (Itr lo (hi-lo).toNat) m2 H2 r0 h0:=by
 have hl:(rngD lo hi).length=(hi-lo).toNat:=by unfold rngD;simp
 refine jz0 e (λi d m H g ed=>?_) λi m H g h=>by rw[hl] at h;exact h
 have hi':i<(hi-lo).toNat:=by rw[<- hl];exact(List.getElem?_eq_some_iff.mp ed).1
 have hd:(rngD lo hi)[i]? =some (D.int (lo+i)):=by
  unfold rngD
  rw[List.getElem?_map,List.getElem?_range hi']
  rfl
 rw[hd] at ed;cases ed
 exact⟨hi',λx H' y=>⟨y.1,by rw[y.2];exact .int _⟩⟩
theorem zzm{a:Addr}{n k0:Nat}(ha:m2[n]? =some a)(e:compI t ft fe n0 n k0 0 r0 h0=.ok () h'):Turns K t ft fe n0 h' (Itl K a) m2 H2 r0 h0:=by
 refine⟨λi k r h=>compI t ft fe n0 n k i r h=.ok () h',k0,e,λi k r h m H g w e=>?_⟩
 cases k with
 |zero=>cases e
 |succ k=>
  simp only[compI] at e
  split at e
  ·cases e
  ·rename_i l el
   obtain⟨a',vs,ha',hq,q⟩:=w.lst el
   rw[g.pre _ _ ha] at ha';cases ha'
   split at e
   ·rename_i en
    cases e
    exact .inl ⟨⟨vs,hq,by rw[<- q.length];exact List.getElem?_eq_none_iff.mp en⟩,rfl⟩
   ·rename_i d ed
    obtain⟨v,hv,rv⟩:=q.get ed
    split at e
    ·cases e
    ·rename_i r1 er
     obtain⟨bb,h1,e1,e⟩:=Rs.bind_ok e
     refine .inr ⟨⟨vs,v,hq,hv⟩,d,λx H' y=>?_,r1,er,bb,h1,e1,?_⟩
     ·obtain⟨eH,y⟩:=y
      have:=y vs hq
      rw[hv] at this;cases this
      subst eH
      exact⟨.refl,w,rv⟩
     ·cases bb with
      |true=>
       rw[if_pos rfl] at e⊢
       obtain⟨y,h3,e3,e⟩:=Rs.bind_ok e
       obtain⟨z,h4,e4,e⟩:=Rs.bind_ok e
       exact⟨y,h3,z,h4,e3,e4,k,Nat.lt_succ_self _,e⟩
      |false=>
       rw[if_neg Bool.false_ne_true] at e⊢
       exact⟨k,Nat.lt_succ_self _,e⟩
theorem vzW{l:List D}(e:compS t ft fe n0 l r0 h0=.ok () h')(hgo:∀(i:Nat) d m h H,Gr K m2 H2 m H->Wd K m h H->l[i]? =some d->J.go i H/\∀x H',J.yld i H x H'->Gr K m H m H'/\Wd K m h H'/\RD K m H' d x)(hstop:∀(i:Nat) m H,Gr K m2 H2 m H->l.length<=i->J.stop i H):Turns K t ft fe n0 h' J m2 H2 r0 h0:=by
 refine⟨λi k r h=>k=l.length-i/\compS t ft fe n0 (l.drop i) r h=.ok () h',l.length,⟨by simp,e⟩,λi k r h m H g w ⟨hk,e⟩=>?_⟩
 by_cases hi:i<l.length
 ·have ed:l[i]? =some l[i]:=List.getElem?_eq_getElem hi
  obtain⟨a,b⟩:=hgo i _ m h H g w ed
  rw[List.drop_eq_getElem_cons hi] at e
  simp only[compS] at e
  split at e
  ·cases e
  ·rename_i r1 er
   obtain⟨bb,h1,e1,e⟩:=Rs.bind_ok e
   refine .inr ⟨a,_,b,r1,er,bb,h1,e1,?_⟩
   cases bb with
   |true=>
    rw[if_pos rfl] at e⊢
    obtain⟨y,h3,e3,e⟩:=Rs.bind_ok e
    obtain⟨z,h4,e4,e⟩:=Rs.bind_ok e
    exact⟨y,h3,z,h4,e3,e4,_,by omega,rfl,e⟩
   |false=>
    rw[if_neg Bool.false_ne_true] at e⊢
    exact⟨_,by omega,rfl,e⟩
 ·rw[List.drop_eq_nil_of_le (by omega)] at e
  cases e
  exact .inl ⟨hstop i m H g (by omega),rfl⟩
end
theorem comp_pe{N':List Str}{scope:Scope}{cap:List Nat}{tg elt iter:PySem.Expr}{ifs:List PySem.Expr}{pos:Pos}{t:Tg}{ft:Ev->Hh->Rs Bool}{fe:Ev->Hh->Rs D}{f:Ev->Hh->Rs D}(xo:XOk X N sc)(S:ScOk scope sc)(hcap:cap.length<=N'.length)
 (hN:(N'.drop (N'.length-cap.length)).map some=cap.map (λ(i:Nat)=>N[i]?))(hfr:∀x∈N'.drop (N'.length-cap.length),scope.names.lookup x=some .free)
 (blk:∀(C:Addr)(s3:Shared)(H3:Hp)(fp:List Addr),PG (blkX X N' scope C s3 H3 fp) tg (TDG X.K t)/\PTs (blkX X N' scope C s3 H3 fp) ifs (TDB X.K ft)/\PE (blkX X N' scope C s3 H3 fp) elt (TDE X.K fe))(hset:noSet iter=true)
 (hi:∀(pins:List (Addr×Obj))(s:Shared)(σ:Sg)(H:Hp)(m:List Addr)(r:Ev)(h:Hh)(d:D)(h':Hh),Inv X pins σ H s->Wd X.K m h H->RSt X.K m H r σ->f r h=.ok d h'->∃h1:Hh,d=.ref h1.length/\wpAny (model X.prog X.w) X.A (eval iter X.env) (λv s1=>wpAny (model X.prog X.w) X.A (pyIter v)
   (PIE X pins σ tg λJ H2=>∃(m2:List Addr)(h2:Hh),h2.length=h1.length/\Gr X.K m H m2 H2/\Wd X.K m2 h2 H2/\Turns X.K t ft fe h2.length h' J m2 H2 (blockE N' cap r) (h2++ [.lst []])) X.xe s1) X.xe s):
 PE X (.ListComp elt [⟨tg,iter,ifs,0⟩] scope pos) (TDE X.K f):=by
 intro pins s σ H Q I ⟨m,r,h,d,h',w,st,e,c⟩
 obtain⟨h1,rfl,hw⟩:=hi pins s σ H m r h d h' I w st e
 rw[eval_ListComp]
 have S':ScOk scope X.env.scope:=by rw[xo.s];exact S
 refine wpAny_comprehension_free (use:=none) rfl (λz=>by cases iter<;>first |rfl|(cases hset;done)) (qzq λp hp e=>I.ok.has p.1 (.inl (S'.free p hp e))) S.kind S.loc ?_
 refine thn hw λv s1 q1=>thn q1 λitv s2 q2=>?_
 obtain⟨it,fp,tn,J,H2,rfl,I2,T,st2,fok,m2,h2,eh2,g2,w2,Lp,k0,L0,hst⟩:=q2
 refine wzV (Rr:=λacc C=>compPost (model X.prog X.w) X.A X.xe none (EP X pins σ Q) acc C) S' hcap (by rw[xo.n];exact hN) hfr xo.calm blk I2 T st2 fok w2 (st.mono g2) Lp k0 L0 hst λacc C s1 H' m' I1 ⟨mm,hn⟩ hC hL hz hc hp g' w' rv=>?_
 rw[eh2] at rv
 refine⟨mm,hn,λhh hsb=>⟨.ref acc,H',I1.turned (λb o hb e=>hsb.extBut b o hb e) hC (Ne.symm (Ne.symm hL)) (.inr hz) hc hp,rfl,c m' _ H' (g2.trans g') w' rv⟩⟩
theorem comp_ps{N':List Str}{scope:Scope}{cap:List Nat}{tg elt iter:PySem.Expr}{ifs:List PySem.Expr}{pos spos py:Pos}{y:Str}{i:Nat}{t:Tg}{ft:Ev->Hh->Rs Bool}{fe:Ev->Hh->Rs D}{f:Ev->Hh->Rs D}(xo:XOk X N sc)(S:ScOk scope sc)(hcap:cap.length<=N'.length)
 (hN:(N'.drop (N'.length-cap.length)).map some=cap.map (λ(i:Nat)=>N[i]?))(hfr:∀x∈N'.drop (N'.length-cap.length),scope.names.lookup x=some .free)
 (blk:∀(C:Addr)(s3:Shared)(H3:Hp)(fp:List Addr),PG (blkX X N' scope C s3 H3 fp) tg (TDG X.K t)/\PTs (blkX X N' scope C s3 H3 fp) ifs (TDB X.K ft)/\PE (blkX X N' scope C s3 H3 fp) elt (TDE X.K fe))(hset:noSet iter=true)
 (hi:∀(pins:List (Addr×Obj))(s:Shared)(σ:Sg)(H:Hp)(m:List Addr)(r:Ev)(h:Hh)(d:D)(h':Hh),Inv X pins σ H s->Wd X.K m h H->RSt X.K m H r σ->f r h=.ok d h'->∃h1:Hh,d=.ref h1.length/\wpAny (model X.prog X.w) X.A (eval iter X.env) (λv s1=>wpAny (model X.prog X.w) X.A (pyIter v)
   (PIE X pins σ tg λJ H2=>∃(m2:List Addr)(h2:Hh),h2.length=h1.length/\Gr X.K m H m2 H2/\Wd X.K m2 h2 H2/\Turns X.K t ft fe h2.length h' J m2 H2 (blockE N' cap r) (h2++ [.lst []])) X.xe s1) X.xe s)
 (hy:N[i]? =some y)(hl:sc.names.lookup y=some .local)(hsw:swapsWith (.ListComp elt [⟨tg,iter,ifs,0⟩] scope pos) (some (.Name y py)) spos.line X.env=pure true):
 PS X (.Assign [.Name y py] (.ListComp elt [⟨tg,iter,ifs,0⟩] scope pos) spos) (tAsg (TDE X.K f) (gName i)):=by
 intro pins s σ H Z I ⟨m,r,h,d,h',w,st,e,c⟩
 obtain⟨h1,rfl,hw⟩:=hi pins s σ H m r h d h' I w st e
 have S':ScOk scope X.env.scope:=by rw[xo.s];exact S
 rw[exec_Assign_Name_used _ _ _ _ hsw]
 refine wpAny_bind (wpAny_standAt (wpAny_bind ?_))
 show wpAny _ X.A (do let _ <- comprehension (.ListComp elt [⟨tg,iter,ifs,0⟩] scope pos) scope X.env _ (newList []) false (eval iter X.env) (some (assign (.Name y py) X.env))) _ _ s
 refine wpAny_bind (thn (wpAny_comprehension_free (use:=some (assign (.Name y py) X.env)) (Q:=λ_ s'=>SP X pins Z .next s') rfl (λz=>by cases iter<;>first |rfl|(cases hset;done)) (qzq λp hp e=>I.ok.has p.1 (.inl (S'.free p hp e))) S.kind S.loc ?_) λ_ s' q=>wpAny_pure (wpAny_pure q))
 refine thn hw λv s1 q1=>thn q1 λitv s2 q2=>?_
 obtain⟨it,fp,tn,J,H2,rfl,I2,T,st2,fok,m2,h2,eh2,g2,w2,Lp,k0,L0,hst⟩:=q2
 refine wzV (Rr:=λacc C=>compPost (model X.prog X.w) X.A X.xe (some (assign (.Name y py) X.env)) (λ_ s'=>SP X pins Z .next s') acc C) S' hcap (by rw[xo.n];exact hN) hfr xo.calm blk I2 T st2 fok w2 (st.mono g2) Lp k0 L0 hst λacc C s1 H' m' I1 ⟨mm,hn⟩ hC hL hz hc hp g' w' rv=>?_
 rw[eh2] at rv
 show wpAny _ X.A (assign (.Name y py) X.env (.ref acc)) _ _ s1
 have hyl:X.env.kindOf y=some .local:=by show X.env.scope.names.lookup y=_;rw[xo.s];exact hl
 refine wpAny_assign_Name (wzH (i:=i) (v:=.ref acc) I1 xo.nd (by rw[xo.n];exact hy) (.inl (by rw[xo.s];exact hl)) rfl (λs5 I5 ⟨a,hsa,hq⟩=>?_) (.inr (by rw[xo.s];exact hl)))
 have ea:a≠C:=by
  rcases hq with rfl|hq
  ·exact λz=>hL z.symm
  ·exact hc _ _ hq
 refine⟨mm,?_,λhh hsb=>⟨_,H',I5.turned (λb o hb e=>hsb.extBut b o hb e) hC hL (.inr hz) hc hp,c m' _ H' (g2.trans g') w' rv⟩⟩
 obtain⟨o,es,ep,e1,e2⟩:=hn
 exact⟨o,es,ep,hsa.extBut C o (Ne.symm ea) e1,e2⟩
end
end Ng
end
section
namespace Ng
open PySem PySem.Spec PyProof.Rows L2
section
variable {X:Cx}{N:List Str}{sc:Scope}{G:Gs}{ca:Nat->Addr}{cl:Cl}
theorem wz7{ifs:List PySem.Expr}{env:Env}{M:Model}{A:Around}{E:Value->Shared->Prop}{s:Shared}{Q:Bool->Shared->Prop}(h:Q false s):wpAny M A (testsOf ifs env false) Q E s:=by
 induction ifs with
 |nil=>exact wpAny_pure h
 |cons c l ih=>
  unfold testsOf at ih⊢
  rw[List.forIn_cons,if_neg Bool.false_ne_true]
  exact wpAny_bind (wpAny_pure ih)
theorem vz0{c:PySem.Expr}{l:List PySem.Expr}{env:Env}{M:Model}{A:Around}{E:Value->Shared->Prop}{s:Shared}{Q:Bool->Shared->Prop}(h:wpAny M A (isTrue c env (eval c env)) (λb s'=>wpAny M A (testsOf l env b) Q E s') E s):wpAny M A (testsOf (c::l) env true) Q E s:=by
 unfold testsOf at h⊢
 rw[List.forIn_cons,if_pos rfl]
 exact wpAny_bind (wpAny_bind (thn h λb s' q=>wpAny_pure q))
theorem qzV{N':List Str}{scope:Scope}(xo:XOk X N sc)(nd:N'.Nodup)(C:Addr)(s3:Shared)(H3:Hp)(fp:List Addr):XOk (blkX X N' scope C s3 H3 fp) N' (relab scope sc):=
 ⟨rfl,by rw[<- xo.s];rfl,xo.calm,nd,xo.room,xo.rng,PassesOwn.never⟩
theorem xzD{N':List Str}{scope:Scope}(S:ScOk scope X.env.scope)(C:Addr)(s3:Shared)(H3:Hp)(fp:List Addr):LocOk (blkX X N' scope C s3 H3 fp) scope:=λx hx=>by
 rcases qzl hx with h|h
 ·have z:(relabel scope X.env).names.lookup x=some .local:=lookup_relabel_local h
  exact⟨.inl z,.inr z⟩
 ·have z:(relabel scope X.env).names.lookup x=some .cell:=zzx h
  refine⟨.inr z,.inl ?_⟩
  show(scope.names.lookup x==some .cell)=true
  rw[h];rfl
theorem vzS{N':List Str}{scope:Scope}(go:GOk X G ca cl)(C:Addr)(s3:Shared)(H3:Hp)(fp:List Addr):GOk (blkX X N' scope C s3 H3 fp) G ca cl:=⟨go.fn,go.cst,go.blt,go.ty,go.exc,go.sub,go.nsub,go.verr,⟨go.c.att,go.c.meth,go.c.new⟩⟩
end
end Ng
end
section
namespace Ng
open PySem PySem.Spec PyProof.Rows L2
abbrev Emit:=Sem PySem.Fin->Sem PySem.Fin
def dEmit(kx vx:PySem.Expr)(Dn:Addr)(env:Env):Emit:=λag=>(eval kx env>>=λkv=>holding [kv] (eval vx env)>>=λvv=>standAt {kx.pos with endLine:=vx.pos.endLine,endCol:=vx.pos.endCol}>>=λ_=>holding [kv,vv] (dictSet Dn kv vv))>>=λ_=>ag
def turnOf(tg:PySem.Expr)(ip:Pos)(it:Value)(env:Env)(emit:Emit)(ag:Sem PySem.Fin):Sem PySem.Fin:=standAt ip>>=λ_=>pyNext it>>=λr=>match r with
 |none=>pure (.done .next)
 |some v=>letOwnedTupleGo tg it v>>=λ_=>assign tg env v>>=λ_=>emit ag
theorem loopW{kx vx e tg:PySem.Expr}{gens:List Comprehension}{scope:Scope}{pos:Pos}{dep:Nat}{ip:Pos}{it acc:Value}{env:Env}{emit:Emit}(he:e=.DictComp kx vx gens scope pos){P:Program}{w:World}{A:Around}{R:Result->Shared->Prop}{s:Shared}(hct:compTurn e dep it acc env=turnOf tg ip it env emit (again (.compLoop e dep it acc env)))(J:Nat->Shared->Prop)
 (turn:∀k s,J k s->wpAny (model P w) A (pyNext it) (λr s1=>match r with
   |none=>R (.ok .next) s1
   |some v=>wpAny (model P w) A (letOwnedTupleGo tg it v) (λ_ s2=>wpAny (model P w) A (assign tg env v) (λ_ s3=>∀(Z:PySem.Fin->Shared->Prop)(E:Value->Shared->Prop)(ag:Sem PySem.Fin),(∀s4,(∃k',k'<k/\J k' s4)->wpAny (model P w) A ag Z E s4)->wpAny (model P w) A (emit ag) Z E s3) nev s2) nev s1) nev s)
 (k:Nat)(h:J k s):codeAny (model P w) A (.compLoop e dep it acc env) R s:=by
 subst he
 refine codeAny_loop (I:=J) rfl (turn:=λk s hk=>?_) k h
 show wpAny _ A (Sem.onRaise (compTurn (.DictComp kx vx gens scope pos) dep it acc env) (λx=>do noteFrame x env;theTreesLotGoes x)) _ _ s
 refine wpAny_noted ?_
 rw[hct]
 unfold turnOf
 have no:∀{E:Value->Shared->Prop}(e:Value)(s:Shared),nev e s->E e s:=λ_ _ f=>f.elim
 refine wpAny_bind (wpAny_standAt (wpAny_bind (wpAny_mono (turn k s hk) (λr s1 q1=>?_) no)))
 cases r with
 |none=>exact wpAny_pure q1
 |some v=>exact wpAny_bind (wpAny_mono q1 (λ_ s2 q2=>wpAny_bind (wpAny_mono q2 (λ_ s3 q3=>q3 _ _ _ λs4 q4=>wpAny_pure ⟨rfl,q4⟩) no)) no)
def PB(Y:Cx)(emit:Emit)(n0:Nat)(acc:Addr)(fb:Ev->Hh->Rs Ev):Prop:=∀(pins:List (Addr×Obj))(s:Shared)(σ:Sg)(H:Hp)(m:List Addr)(r:Ev)(h:Hh)(r':Ev)(h':Hh),Inv Y pins σ H s->Wd Y.K m h H->RSt Y.K m H r σ->m[n0]? =some acc->fb r h=.ok r' h'->
 ∀(Z:PySem.Fin->Shared->Prop)(E:Value->Shared->Prop)(ag:Sem PySem.Fin),(∀s' m' σ' H',Inv Y pins σ' H' s'->Gr Y.K m H m' H'->Wd Y.K m' h' H'->RSt Y.K m' H' r' σ'->wpAny (model Y.prog Y.w) Y.A ag Z E s')->wpAny (model Y.prog Y.w) Y.A (emit ag) Z E s
def StpG(K:PySem.W.Frag)(t:Tg)(fb:Ev->Hh->Rs Ev)(End:Ev->Hh->Prop)(J:It)(Lp:Nat->Nat->Ev->Hh->Prop)(i k:Nat)(r:Ev)(h:Hh)(m:List Addr)(H:Hp):Prop:=
 (J.stop i H/\End r h)\/(J.go i H/\∃d,(∀x H2,J.yld i H x H2->H2=H/\RD K m H d x)/\∃r1,setT t d r=some r1/\∃r2 h1,fb r1 h=.ok r2 h1/\∃k',k'<k/\Lp (i+1) k' r2 h1)
section
variable {Y:Cx}{tg e:PySem.Expr}{kx vx:PySem.Expr}{gens:List Comprehension}{scope:Scope}{pos:Pos}{t:Tg}{emit:Emit}{fb:Ev->Hh->Rs Ev}{n0 acc dep:Nat}{ip:Pos}{it:Addr}{J:It}{fp:List Addr}{tn:Nat->Heap->Prop}{m2:List Addr}{H2:Hp}{End:Ev->Hh->Prop}{R:Result->Shared->Prop}{pins:List (Addr×Obj)}
theorem zzW(he:e=.DictComp kx vx gens scope pos)(hct:compTurn e dep (.ref it) (.ref acc) Y.env=turnOf tg ip (.ref it) Y.env emit (again (.compLoop e dep (.ref it) (.ref acc) Y.env)))(calm:Y.calm=true)(bG:PG Y tg (TDG Y.K t))(hxe:Y.xe=nev)(bE:PB Y emit n0 acc fb)(T:Turn Y.prog Y.w Y.K tg J fp it tn)
 (Lp:Nat->Nat->Ev->Hh->Prop)(hst:∀i k r h m H,Gr Y.K m2 H2 m H->Wd Y.K m h H->Lp i k r h->StpG Y.K t fb End J Lp i k r h m H)(hacc:m2[n0]? =some acc)
 (fok:∀{H:Hp},(∀b∈fp,H b=none)->∀b∈fp,FpOk Y pins H b)
 {s:Shared}{σ:Sg}{H:Hp}{m:List Addr}{r:Ev}{h:Hh}{k:Nat}(I:Inv Y pins σ H s)(st:tn 0 s.heap)(fr:∀b∈fp,H b=none)(g:Gr Y.K m2 H2 m H)(w:Wd Y.K m h H)(rs:RSt Y.K m H r σ)(L0:Lp 0 k r h)
 (fin:∀s' σ' H' m' r' h',Inv Y pins σ' H' s'->Gr Y.K m2 H2 m' H'->Wd Y.K m' h' H'->RSt Y.K m' H' r' σ'->End r' h'->R (.ok .next) s'):codeAny (model Y.prog Y.w) Y.A (.compLoop e dep (.ref it) (.ref acc) Y.env) R s:=by
 refine loopW he hct (λk s=>∃i σ' H' m r h,Inv Y pins σ' H' s/\tn i s.heap/\(∀b∈fp,H' b=none)/\Gr Y.K m2 H2 m H'/\Wd Y.K m h H'/\RSt Y.K m H' r σ'/\Lp i k r h) ?_ k ⟨0,σ,H,m,r,h,I,st,fr,g,w,rs,L0⟩
 rintro k s ⟨i,σ',H',m,r',h,I',st',fr',g',w',rst',L⟩
 rcases hst i k r' h m H' g' w' L with ⟨stop,eh⟩|⟨go,d,hy,r1,er,r2,h1,eb,rest⟩
 ·refine thn (T.done Y rfl rfl rfl calm i pins s σ' H' nev I' (fok fr') st' stop) λres s1 ⟨hr,I1⟩=>?_
  subst hr
  exact fin s1 σ' H' m r' h I1 g' w' rst' eh
 ·refine thn (T.item Y rfl rfl rfl calm i pins s σ' H' nev I' (fok fr') st' go) λres s1 ⟨u,hr,q1⟩=>?_
  subst hr
  refine thn q1 λ_ s5 ⟨x,H5,I5,rx,yl,st5,fr5⟩=>?_
  obtain⟨eH,rd⟩:=hy x H5 yl
  subst eH
  have I5':=I5.pinned (fok fr5) (T.obj _ _ st5)
  have bG':=bG (pins++pinsAt fp s5.heap) s5 σ' H5 x u (λσ2 H6=>H6=H5/\RSt Y.K m H5 r1 σ2) I5' rx ⟨m,h,r',d,r1,w',rst',rd,er,λs' z=>⟨rfl,z⟩⟩
  rw[hxe] at bG'
  refine thn bG' λ_ s6 ⟨σ6,H6,I6,eH6,st6⟩=>?_
  subst eH6
  obtain⟨k',hk,L7⟩:=rest
  intro Z E ag hag
  refine bE _ s6 σ6 H6 m r1 h r2 h1 I6 w' st6 (g'.pre _ _ hacc) eb Z E ag λs7 m7 σ7 H7 I7 g7 w7 st7=>hag s7 ?_
  have pn:∀b∈fp,∀o,s5.heap.get? b=some o->s7.heap.get? b=some o/\H7 b=none:=λb hb o e=>let z:=I7.pin (b,o) (List.mem_append_right _ (List.mem_append_right _ (jz4 hb e)));⟨z.1,z.2.1⟩
  exact⟨k',hk,i+1,σ7,H7,m7,r2,h1,I7.unpinned,T.keep _ _ _ st5 λb hb o e=>(pn b hb o e).1,λb hb=>let⟨o,e,_⟩:=T.obj _ _ st5 b hb;(pn b hb o e).2,g'.trans g7,w7,st7,L7⟩
end
section
variable {Y:Cx}{kx vx iter2:PySem.Expr}{fk fv fi:Ev->Hh->Rs D}{n0 acc:Nat}
end
section
variable {Y:Cx}{kx vx tg1 iter1 tg2 iter2:PySem.Expr}{scope:Scope}{pos:Pos}{t2:Tg}{fk fv fi:Ev->Hh->Rs D}{n0 acc:Nat}
end
section
variable {X:Cx}{N':List Str}{scope:Scope}{cap:List Nat}{kx vx tg1 iter1 tg2 iter2:PySem.Expr}{pos:Pos}{t1 t2:Tg}{fi fk fv:Ev->Hh->Rs D}
end
end Ng
end
section
namespace Ng
open PySem PySem.Spec PyProof.Rows L2
section
variable {X:Cx}{pins:List (Addr×Obj)}{σ:Sg}{H:Hp}{s:Shared}
theorem dtt_ok{P:Program}{w:World}{H:Hp}{h:Heap}{a:Addr}{xs:List (List Int×Addr×Value)}(d:Dtt a xs h):ObjOk P w H h a (.ext (Dtt a xs)):=by
 obtain⟨h1,h2,P0,w0,o,es,ep,h3,h4,h5,h6,h7⟩:=id d
 refine⟨d,⟨o,h3⟩,λg1 g2 ⟨a1,a2,P1,w1,o1,es1,ep1,a3,a4⟩ k=>⟨a1,a2,P1,w1,o1,es1,ep1,k o1 a3,a4⟩⟩
theorem Dtt.of(I:Inv X pins σ H s){a:Addr}{xs:List (List Int×Addr×Value)}(e:H a=some (.ext (Dtt a xs))):Dtt a xs s.heap:=(show ObjOk X.prog X.w H s.heap a (.ext (Dtt a xs)) from I.hok a _ e).1
theorem vzu{K:PySem.W.Frag}{m:List Addr}{H:Hp}{k:List Int}{z:D}{vz:V}{uz:Value}(rz:RD K m H z vz)(sz:RelV vz uz):∀{ds:List (List Int×D)}{xs:List (List Int×Addr×Value)}{us:List V},ds.map (·.1)=xs.map (·.1)->RDs K m H (ds.map (·.2)) us->Vals us (xs.map (·.2.2))->
 ∃us',(ds.map λkv=>if kv.1=k then(kv.1,z) else kv).map (·.1)=(xs.map (putAt k uz)).map (·.1)/\RDs K m H ((ds.map λkv=>if kv.1=k then(kv.1,z) else kv).map (·.2)) us'/\Vals us' ((xs.map (putAt k uz)).map (·.2.2))/\∀x∈xs.map (putAt k uz),∃y∈xs,x.1=y.1/\x.2.1=y.2.1
 | [],[],us,_,r,p=>⟨[],rfl,.nil,.nil,λx hx=>by cases hx⟩
 | [],_::_,us,h,_,_=>by cases h
 |_::_,[],us,h,_,_=>by cases h
 |d::ds,x::xs,us,h,r,p=>by
  cases r with
  | @cons _ v1 _ _ r1 r=>
    cases p with
    |cons p1 p=>
     obtain⟨h1,h2⟩:=List.cons.inj (show d.1::ds.map (·.1)=x.1::xs.map (·.1) from h)
     obtain⟨us',a,b,c,e⟩:=vzu rz sz h2 r p
     by_cases q:d.1=k
     ·have q':x.1=k:=by rw[<- h1];exact q
      refine⟨vz::us',?_,?_,?_,?_⟩
      ·simp only[List.map_cons,putAt,if_pos q,if_pos q'];rw[h1];congr 1
      ·simp only[List.map_cons,if_pos q];exact .cons rz b
      ·simp only[List.map_cons,putAt,if_pos q'];exact .cons sz c
      ·intro y hy
       rw[List.map_cons] at hy
       rcases List.mem_cons.mp hy with rfl|hy
       ·exact⟨x,List.mem_cons_self,by simp[putAt,q'],by simp[putAt,q']⟩
       ·obtain⟨y',m1,m2⟩:=e y hy;exact⟨y',List.mem_cons_of_mem _ m1,m2⟩
     ·have q':¬x.1=k:=by rw[<- h1];exact q
      refine⟨v1::us',?_,?_,?_,?_⟩
      ·simp only[List.map_cons,putAt,if_neg q,if_neg q'];rw[h1];congr 1
      ·simp only[List.map_cons,if_neg q];exact .cons r1 b
      ·simp only[List.map_cons,putAt,if_neg q'];exact .cons p1 c
      ·intro y hy
       rw[List.map_cons] at hy
       rcases List.mem_cons.mp hy with rfl|hy
       ·exact⟨x,List.mem_cons_self,by simp[putAt,q'],by simp[putAt,q']⟩
       ·obtain⟨y',m1,m2⟩:=e y hy;exact⟨y',List.mem_cons_of_mem _ m1,m2⟩
theorem putT_rel{K:PySem.W.Frag}{m:List Addr}{H:Hp}{k:List Int}{z:D}{vz:V}{uz:Value}{b:Addr}(hb:SqT K H b (k.map V.int))(rz:RD K m H z vz)(sz:RelV vz uz){ds:List (List Int×D)}{xs:List (List Int×Addr×Value)}{us:List V}(h:ds.map (·.1)=xs.map (·.1))(hk:∀x∈xs,SqT K H x.2.1 (x.1.map V.int))(r:RDs K m H (ds.map (·.2)) us)(p:Vals us (xs.map (·.2.2))):
 ∃us',(putT ds k z).map (·.1)=(storedH xs k b uz).map (·.1)/\(∀x∈storedH xs k b uz,SqT K H x.2.1 (x.1.map V.int))/\RDs K m H ((putT ds k z).map (·.2)) us'/\Vals us' ((storedH xs k b uz).map (·.2.2)):=by
 have e:ds.any (λkv=>decide (kv.1=k))=(atKey xs k).isSome:=by rw[wz6];exact wzc h
 unfold putT storedH
 rw[e]
 by_cases q:(atKey xs k).isSome=true
 ·rw[if_pos q,if_pos q]
  obtain⟨us',a,b',c,d⟩:=vzu (k:=k) rz sz h r p
  refine⟨us',a,λx hx=>?_,b',c⟩
  obtain⟨y,hy,e1,e2⟩:=d x hx
  rw[e1,e2];exact hk y hy
 ·rw[if_neg q,if_neg q]
  refine⟨us++ [vz],by simp[h],λx hx=>?_,?_,?_⟩
  ·rcases List.mem_append.mp hx with hx|hx
   ·exact hk x hx
   ·have:x=(k,b,uz):=by simpa using hx
    subst this;exact hb
  ·rw[List.map_append];exact r.append (.cons rz .nil)
  ·rw[List.map_append];exact p.append (.cons sz .nil)
theorem vz1{xs:List (List Int×Addr×Value)}{k:List Int}{b:Addr}{u:Value}:(storedH xs k b u).length<=xs.length+1:=by
 unfold storedH;split<;>simp
theorem vzg{prog:Program}{w:World}(d:Addr)(hd:(d==sysModules)=false):MeetsIn prog w (Builtin.«dict.items» ⟨[.ref d],[]⟩) (λ_ R s=>s.TypeIs (.ref d) "dict"/\
 R (.ok (.ret (.ref s.heap.objs.size))) {s with heap:=s.heap.push {cls:=.type "dict_items",data:=.fields #[.ref d]}}):=
 .of_wp λA R s ⟨ht,h⟩=>by
  unfold Builtin.«dict.items»
  refine wpAny_bind ?_
  unfold Builtin.Dict.noArgs
  refine wpAny_bind (wpAny_notOrdered_dict ht ?_)
  show wpAny _ _ (pure d) _ _ s
  refine wpAny_pure ?_
  show wpAny _ _ (Builtin.Dict.showsAll d>>=_) _ _ s
  unfold Builtin.Dict.showsAll
  rw[if_neg (by rw[hd];exact Bool.false_ne_true)]
  exact wpAny_bind (wpAny_pure (wpAny_bind (wpAny_newObj_type (wpAny_pure ⟨_,rfl,h⟩))))
def Itd(d:Addr)(o:Obj)(ks:List (Addr×V)):It:=
 ⟨λi H=>H d=some (.frz o (.own d))/\i<ks.length,λi H x H'=>∃p k v,H p=none/\ks[i]? =some (k,v)/\x=.ref p/\H'=upd H p (.tup [.ref k,v]),λi H=>H d=some (.frz o (.own d))/\ks.length<=i⟩
theorem vzZ{P:Program}{w:World}{K:PySem.W.Frag}{elts:List PySem.Expr}{x1:Nat}{pos:Pos}{d it:Addr}{o:Obj}{es:Array DictEntry}{ep:Nat}{ks:List (Addr×V)}(ho:o.data=.dict es ep)(hn:es.size=ks.length)(hk:∀(i:Nat) k v,ks[i]? =some (k,v)->∃en,es[i]? =some en/\en.key=.ref k/\RelV v en.val):
 Turn P w K (.Tuple elts x1 pos) (Itd d o ks) [it] it (λi h=>∃q1 q2,IsItemIter h it d i ks.length ep q1 q2) where
 mem:=by simp
 obj:=λi h st b hb=>by
  have e:b=it:=by simpa using hb
  subst e
  obtain⟨q1,q2,e⟩:=st
  exact⟨_,e,λv z=>nomatch z⟩
 keep:=λi h h' ⟨q1,q2,e⟩ k=>⟨q1,q2,k it (by simp) _ e⟩
 item:=by
  intro X hP hw hK hc i pins s σ H E I hf st hg
  subst hP hw hK
  obtain⟨q1,q2,st⟩:=st
  obtain⟨hd,hi⟩:=hg
  obtain⟨f0,f1,f2,f3,f4,f5⟩:=hf it (by simp)
  obtain⟨⟨k,v⟩,hkv⟩:∃p,ks[i]? =some p:=⟨_,List.getElem?_eq_getElem hi⟩
  obtain⟨en,e1,e2,e3⟩:=hk i k v hkv
  have od:s.heap.get? d=some o:=(show ObjOk X.prog X.w H s.heap d (.frz o (.own d)) from I.hok d _ hd).1
  have il:it<s.heap.objs.size:=Heap.lt_size st
  refine itm_next st od ho hn e1 λg h1 h2 h3 h4=>⟨.ref s.heap.objs.size,rfl,?_⟩
  refine wpAny_letOwnedTupleGo_items h1 λg2 h5 h6=>?_
  have hp:H s.heap.objs.size=none:=I.hok.fresh (Nat.le_refl _)
  have I1:Inv X pins σ (upd H s.heap.objs.size (.tup [.ref k,v])) {s with heap:=s.heap.push {cls:=.type "tuple",data:=.seq #[en.key,en.val]}}:=
   I.laid (t':=s.toks) (o:=.tup [.ref k,v]) (λb u q=>Heap.get?_push_of_some _ q) (Nat.le_refl _) ⟨by show 2<=sizeLine;decide,[en.key,en.val],.cons (by rw[e2];rfl) (.cons e3 .nil),IsTup.new _ _⟩
  have ne:it≠s.heap.objs.size:=Nat.ne_of_lt il
  have I2:Inv X pins σ (upd H s.heap.objs.size (.tup [.ref k,v])) {s with heap:=g2}:=L2.Inv.turned (s:={s with heap:=s.heap.push {cls:=.type "tuple",data:=.seq #[en.key,en.val]}}) (h':=g2) (t':=s.toks) (it:=it) I1 (λb u hb q=>by
   have q0:(s.heap.push {cls:=.type "tuple",data:=.seq #[en.key,en.val]}).get? b=some u:=q
   by_cases z:b=s.heap.objs.size
   ·subst z
    have q':some {cls:=.type "tuple",data:=.seq #[en.key,en.val]}=some u:=(Heap.get?_push_size s.heap rfl).symm.trans q0
    rw[<- q']
    exact h6.extBut _ _ hb h2
   ·rw[Heap.get?_push_ne _ _ _ z] at q0
    exact h6.extBut b u hb (h4 b u hb q0)) (by rw[jzl ne];exact f0) f1 f3 f4 f5
  exact⟨.ref s.heap.objs.size,_,I2,rfl,⟨_,k,v,hp,hkv,rfl,rfl⟩,⟨_,_,h5⟩,λb hb=>by
   have e:b=it:=by simpa using hb
   subst e
   rw[jzl ne];exact f0⟩
 done:=by
  intro X hP hw hK hc i pins s σ H E I hf st hg
  subst hP hw hK
  obtain⟨q1,q2,st⟩:=st
  obtain⟨hd,hi⟩:=hg
  obtain⟨f0,f1,f2,f3,f4,f5⟩:=hf it (by simp)
  have od:s.heap.get? d=some o:=(show ObjOk X.prog X.w H s.heap d (.frz o (.own d)) from I.hok d _ hd).1
  exact itm_end (I.ok.hd hc) st od ho hn hi λg eb=>⟨rfl,I.turned (t':=s.toks) (λb o hb e=>eb b o hb e) f0 f1 f3 f4 f5⟩
 self:=λ_ _ _ _ _ ⟨q1,q2,st⟩ h=>PySem.W.kcp_self st h
end
end Ng
end
section
namespace Ng
open PySem PySem.Spec PyProof.Rows L2
theorem boot_ty(t:Ty):bootBuiltins (Str.ofString t.nm)=some (.type t.nm):=by cases t<;>decide+kernel
theorem ty_dbg(t:Ty):(Str.ofString t.nm==("__debug__":Str))=false/\Str.ofString t.nm≠"__name__":=by cases t<;>decide+kernel
theorem vzR(f:Blt):bootBuiltins f.nm=some f.val:=by cases f<;>decide+kernel
theorem blt_dbg(f:Blt):(f.nm==("__debug__":Str))=false/\f.nm≠"__name__":=by cases f<;>decide+kernel
section
variable {X:Cx}{N:List Str}{sc:Scope}{G:Gs}{ca:Nat->Addr}{cl:Cl}
theorem TDE.one{K:PySem.W.Frag}{fa f:Ev->Hh->Rs D}{k:Ev->D->Hh->Rs D}{s:Sg}{H:Hp}{Q R:VK}(hf:∀r h,f r h=(fa r h).bind (k r))(q:TDE K f s H Q)
 (c:∀(m m2:List Addr)(r:Ev)(d:D)(h2 h':Hh)(H2:Hp)(dx:D)(x:V),RSt K m H r s->Gr K m H m2 H2->Wd K m2 h2 H2->RSt K m2 H2 r s->RD K m2 H2 dx x->k r dx h2=.ok d h'->(∀m' v H',Gr K m2 H2 m' H'->Wd K m' h' H'->RD K m' H' d v->Q v H')->R x H2):TDE K fa s H R:=by
 obtain⟨m,r,h,d,h',w,st,e,cc⟩:=q
 rw[hf] at e
 obtain⟨dx,h1,e1,e⟩:=Rs.bind_ok e
 exact⟨m,r,h,dx,h1,w,st,e1,λm1 x H1 g1 w1 rx=>c m m1 r d h1 h' H1 dx x st g1 w1 (st.mono g1) rx e λm' v H' g=>cc m' v H' (g1.trans g)⟩
end
def SE(N:List Str)(sc:Scope)(G:Gs)(c:E)(e:PySem.Expr):Prop:=∀{X:Cx}{ca:Nat->Addr}{cl:Cl},XOk X N sc->GOk X G ca cl->PE X e (TDE X.K (ev G cl c))/\PT X e (TDT X.K (ev G cl c))
def SAs(N:List Str)(sc:Scope)(G:Gs)(l:Es)(es:List PySem.Expr):Prop:=es.all noStar=true/\∀{X:Cx}{ca:Nat->Addr}{cl:Cl},XOk X N sc->GOk X G ca cl->PA X es (TDA X.K (evs G cl l))
def SBs(N:List Str)(sc:Scope)(G:Gs)(l:Es)(es:List PySem.Expr):Prop:=∀{X:Cx}{ca:Nat->Addr}{cl:Cl},XOk X N sc->GOk X G ca cl->PTs X es (TDB X.K (evt G cl l))
theorem jz9{X:Cx}(pos:Pos):∀{es:List PySem.Expr},es.all noStar=true->(backTo pos (starEach es X.env)).any (·.1)=false
 | [],_=>rfl
 |e::es,h=>by
  rw[List.all_cons,Bool.and_eq_true] at h
  rw[jzw es h.1]
  have ih:=jz9 (X:=X) pos (es:=es) h.2
  exact(show(false||(backTo pos (starEach es X.env)).any (·.1))=false by rw[ih];rfl)
section
variable {N:List Str}{sc:Scope}{G:Gs}
theorem dE_var{i:Nat}{x:Str}{pos:Pos}(h1:N[i]? =some x)(h:(visB sc x&&noDbg x)=true):SE N sc G (.var i) (.Name x pos):=λ{X ca cl} xo go=>by
 rw[Bool.and_eq_true] at h
 obtain⟨h2,h3⟩:=h
 obtain⟨d1,d2,d3⟩:=jzL h3
 have p:PE X (.Name x pos) (TDE X.K (ev G cl (.var i))):=(pv i (by rw[xo.n];exact h1) (by rw[xo.s];exact visB_ok h2) d1 d2).wk λs H Q ⟨m,r,hh,d,h',w,st,e1,c⟩=>by
  simp only[ev] at e1
  split at e1
  ·rename_i d' ed
   cases e1
   obtain⟨v,hv,rv⟩:=st.2 i _ ed
   exact⟨v,hv,c m v H Gr.refl w rv⟩
  ·cases e1
 exact⟨p,tOf p λ_=>rfl⟩
theorem jza{i:Int}{j:Nat}{pos:Pos}:SE N sc G (.int i) (.Constant (.int i) j pos):=λ{X ca cl} xo go=>by
 have p:PE X (.Constant (.int i) j pos) (TDE X.K (ev G cl (.int i))):=(pe_int).wk λs H Q ⟨m,r,hh,d,h',w,st,e1,c⟩=>by
  cases e1
  exact c m _ H Gr.refl w (.int i)
 exact⟨p,tOf p λ_=>rfl⟩
theorem dE_bl{b:Bool}{j:Nat}{pos:Pos}:SE N sc G (.bl b) (.Constant (.bool b) j pos):=λ{X ca cl} xo go=>by
 have p:PE X (.Constant (.bool b) j pos) (TDE X.K (ev G cl (.bl b))):=(pe_bl).wk λs H Q ⟨m,r,hh,d,h',w,st,e1,c⟩=>by
  cases e1
  exact c m _ H Gr.refl w (.bl b)
 exact⟨p,tOf p λ_=>rfl⟩
theorem xzo{j:Nat}{pos:Pos}:SE N sc G .non (.Constant .none j pos):=λ{X ca cl} xo go=>by
 have p:PE X (.Constant .none j pos) (TDE X.K (ev G cl .non)):=(pe_non).wk λs H Q ⟨m,r,hh,d,h',w,st,e1,c⟩=>by
  cases e1
  exact c m _ H Gr.refl w .non
 exact⟨p,tOf p λ_=>rfl⟩
theorem jzE{x:Str}{j:Nat}{pos:Pos}:SE N sc G (.str x) (.Constant (.str x) j pos):=λ{X ca cl} xo go=>by
 have p:PE X (.Constant (.str x) j pos) (TDE X.K (ev G cl (.str x))):=(vzy).wk λs H Q ⟨m,r,hh,d,h',w,st,e1,c⟩=>by
  cases e1
  exact c m _ H Gr.refl w (.str x)
 exact⟨p,tOf p λ_=>rfl⟩
theorem dE_gc{g:Nat}{x:Str}{d0:D}{pos:Pos}(q:G.csts[g]? =some (x,d0))(h:(glB sc x&&noDbg x)=true):SE N sc G (.gc g) (.Name x pos):=λ{X ca cl} xo go=>by
 rw[Bool.and_eq_true] at h
 obtain⟨h2,h3⟩:=h
 obtain⟨d1,d2,d3⟩:=jzL h3
 obtain⟨v,u,hm,rv,rd⟩:=go.cst g x d0 q
 have p:PE X (.Name x pos) (TDE X.K (ev G cl (.gc g))):=(zzF (jzV xo h2) hm rv d1).wk λs H Q ⟨m,r,hh,d,h',w,st,e1,c⟩=>by
  simp only[ev,q] at e1
  cases e1
  exact c m _ H Gr.refl w (rd m H)
 exact⟨p,tOf p λ_=>rfl⟩
theorem dE_ty{t:Ty}{pos:Pos}(hg:glB sc (Str.ofString t.nm)=true):SE N sc G (.ty t) (.Name (Str.ofString t.nm) pos):=λ{X ca cl} xo go=>by
 have p:PE X (.Name (Str.ofString t.nm) pos) (TDE X.K (ev G cl (.ty t))):=(zzH (v:=.ty t.nm) (jzV xo hg) (go.ty t) (boot_ty t) rfl (ty_dbg t).2 (ty_dbg t).1).wk λs H Q ⟨m,r,hh,d,h',w,st,e1,c⟩=>by
  cases e1
  exact c m _ H Gr.refl w (.ty _)
 exact⟨p,tOf p λ_=>rfl⟩
theorem jzb{op:Bop}{a b:E}{x y:PySem.Expr}{pos:Pos}(h_a:SE N sc G a x)(h_b:SE N sc G b y):SE N sc G (.bin op a b) (.BinOp x op.op y pos):=λ{X ca cl} xo go=>by
 have p:PE X (.BinOp x op.op y pos) (TDE X.K (ev G cl (.bin op a b))):=(pe_op (opBin op) (h_a xo go).1 (h_b xo go).1).wk (TDE.op λr h=>by simp only[ev])
 exact⟨p,tOf p λ_=>rfl⟩
theorem jzW{a:E}{x:PySem.Expr}{pos:Pos}(h_a:SE N sc G a x):SE N sc G (.neg a) (.UnaryOp .USub x pos):=λ{X ca cl} xo go=>by
 have p:PE X (.UnaryOp .USub x pos) (TDE X.K (ev G cl (.neg a))):=(pe_un un_neg (h_a xo go).1).wk λs H Q q=>by
  refine TDE.one (λ_ _=>rfl) q λm m2 r d h2 h' H2 dx y st g w2 st2 rx e c=>?_
  cases rx<;>first |(cases e;done)|skip
  cases e
  exact⟨_,rfl,c m2 _ H2 Gr.refl w2 (.int _)⟩
 exact⟨p,tOf p λ_=>rfl⟩
theorem jzf{op:Cop}{a b:E}{x y:PySem.Expr}{pos:Pos}(hm:behindInMarks op.op y=false)(h_a:SE N sc G a x)(h_b:SE N sc G b y):SE N sc G (.cmp op a b) (.Compare x [op.op] [y] pos):=λ{X ca cl} xo go=>by
 refine⟨(pe_cmpR (opCmp xo.room op) ((h_a xo go).1) ((h_b xo go).1) hm).wk (TDE.op λr h=>by simp only[ev]),?_⟩
 refine(pt_cmpR (opCmp xo.room op) ((h_a xo go).1) ((h_b xo go).1) hm).wk λs H Q ⟨m,r,hh,d,h',k,w,st,e1,ek,c⟩=>?_
 refine TDE.op (f:=ev G cl (.cmp op a b)) (k:=cmpD op) (λr h=>by simp only[ev]) s H _ ⟨m,r,hh,d,h',w,st,e1,λm' v H' g w' rd=>?_⟩
 have e1':=e1
 simp only[ev] at e1'
 obtain⟨_,_,_,e1'⟩:=Rs.bind_ok e1'
 obtain⟨_,_,_,e1'⟩:=Rs.bind_ok e1'
 obtain⟨k',rfl⟩:=wzy e1'
 cases rd
 have ek':k'=k:=Option.some.inj ek
 subst ek'
 exact⟨k',rfl,c m' H' g w'⟩
theorem jzK{a b:E}{x:PySem.Expr}{v:PySem.Expr}{vs:List PySem.Expr}{pos:Pos}(h_a:SE N sc G a x)(h_b:SE N sc G b (.BoolOp .And (v::vs) pos)):SE N sc G (.and a b) (.BoolOp .And (x::v::vs) pos):=λ{X ca cl} xo go=>by
 have hb:=h_b xo go
 refine⟨(zzI ((h_a xo go).1) hb.1).wk λs H Q q=>?_,(pw_and ((h_a xo go).2) (pw_of hb.2)).pt.wk λs H Q q=>?_⟩
 ·refine TDE.one (λ_ _=>rfl) q λm m2 r d h2 h' H2 dx v st g w2 st2 rx e c=>?_
  split at e
  ·rename_i et
   exact⟨true,qzY w2 rx et,iteT (⟨m2,r,h2,d,h',w2,st2,e,c⟩)⟩
  ·rename_i et
   cases e
   exact⟨false,qzY w2 rx et,iteF (c m2 v H2 Gr.refl w2 rx)⟩
  ·cases e
 ·obtain⟨m,r,hh,d,h',k,w,st,e1,ek,c⟩:=q
  simp only[ev] at e1
  obtain⟨dx,h1,e0,e1⟩:=Rs.bind_ok e1
  split at e1
  ·rename_i et
   exact⟨m,r,hh,dx,h1,true,w,st,e0,et,λm' H' g w'=>iteT (⟨m',r,h1,d,h',k,w',st.mono g,e1,ek,λm2 H2 g2=>c m2 H2 (g.trans g2)⟩)⟩
  ·rename_i et
   cases e1
   rw[et] at ek
   cases ek
   exact⟨m,r,hh,_,_,false,w,st,e0,et,λm' H' g w'=>iteF (c m' H' g w')⟩
  ·cases e1
theorem jzo{a b:E}{x y:PySem.Expr}{pos:Pos}(h_a:SE N sc G a x)(h_b:SE N sc G b y):SE N sc G (.and a b) (.BoolOp .And [x,y] pos):=
 jzK h_a λ{X ca cl} xo go=>⟨zzD (h_b xo go).1,(zzz (h_b xo go).2).pt⟩
theorem dE_or2{a b:E}{x:PySem.Expr}{v:PySem.Expr}{vs:List PySem.Expr}{pos:Pos}(h_a:SE N sc G a x)(h_b:SE N sc G b (.BoolOp .Or (v::vs) pos)):SE N sc G (.or a b) (.BoolOp .Or (x::v::vs) pos):=λ{X ca cl} xo go=>by
 have hb:=h_b xo go
 refine⟨(pe_orG ((h_a xo go).1) hb.1).wk λs H Q q=>?_,(pw_or ((h_a xo go).2) (pw_of hb.2)).pt.wk λs H Q q=>?_⟩
 ·refine TDE.one (λ_ _=>rfl) q λm m2 r d h2 h' H2 dx v st g w2 st2 rx e c=>?_
  split at e
  ·rename_i et
   cases e
   exact⟨true,qzY w2 rx et,iteT (c m2 v H2 Gr.refl w2 rx)⟩
  ·rename_i et
   exact⟨false,qzY w2 rx et,iteF (⟨m2,r,h2,d,h',w2,st2,e,c⟩)⟩
  ·cases e
 ·obtain⟨m,r,hh,d,h',k,w,st,e1,ek,c⟩:=q
  simp only[ev] at e1
  obtain⟨dx,h1,e0,e1⟩:=Rs.bind_ok e1
  split at e1
  ·rename_i et
   cases e1
   rw[et] at ek
   cases ek
   exact⟨m,r,hh,_,_,true,w,st,e0,et,λm' H' g w'=>iteT (c m' H' g w')⟩
  ·rename_i et
   exact⟨m,r,hh,dx,h1,false,w,st,e0,et,λm' H' g w'=>iteF (⟨m',r,h1,d,h',k,w',st.mono g,e1,ek,λm2 H2 g2=>c m2 H2 (g.trans g2)⟩)⟩
  ·cases e1
theorem dE_or{a b:E}{x y:PySem.Expr}{pos:Pos}(h_a:SE N sc G a x)(h_b:SE N sc G b y):SE N sc G (.or a b) (.BoolOp .Or [x,y] pos):=
 dE_or2 h_a λ{X ca cl} xo go=>⟨zzD (h_b xo go).1,(pw_or1 (h_b xo go).2).pt⟩
theorem qzi{a:E}{x:PySem.Expr}{pos:Pos}(h_a:SE N sc G a x):SE N sc G (.not a) (.UnaryOp .Not x pos):=λ{X ca cl} xo go=>by
 refine⟨(zzE ((h_a xo go).1)).wk λs H Q q=>?_,(pt_not ((h_a xo go).2)).wk λs H Q q=>?_⟩
 ·refine TDE.one (λ_ _=>rfl) q λm m2 r d h2 h' H2 dx v st g w2 st2 rx e c=>?_
  split at e
  ·rename_i k et
   cases e
   exact⟨k,qzY w2 rx et,c m2 _ H2 Gr.refl w2 (.bl _)⟩
  ·cases e
 ·obtain⟨m,r,hh,d,h',k,w,st,e1,ek,c⟩:=q
  simp only[ev] at e1
  obtain⟨dx,h1,e0,e1⟩:=Rs.bind_ok e1
  split at e1
  ·rename_i k' et
   cases e1
   have:(!k')=k:=Option.some.inj ek
   subst this
   exact⟨m,r,hh,dx,h',k',w,st,e0,et,c⟩
  ·cases e1
theorem dE_ite{cc a b:E}{z x y:PySem.Expr}{pos:Pos}(h_cc:SE N sc G cc z)(h_a:SE N sc G a x)(h_b:SE N sc G b y):SE N sc G (.ite cc a b) (.IfExp z x y pos):=λ{X ca cl} xo go=>by
 refine⟨(pe_ifExp (h_cc xo go).2 (h_a xo go).1 (h_b xo go).1).wk λs H Q ⟨m,r,hh,d,h',w,st,e1,c⟩=>?_,?_⟩
 ·simp only[ev] at e1
  obtain⟨dx,h1,e0,e1⟩:=Rs.bind_ok e1
  split at e1
  ·rename_i et
   exact⟨m,r,hh,dx,h1,true,w,st,e0,et,λm' H' g w'=>iteT (⟨m',r,h1,d,h',w',st.mono g,e1,λm2 v H2 g2=>c m2 v H2 (g.trans g2)⟩)⟩
  ·rename_i et
   exact⟨m,r,hh,dx,h1,false,w,st,e0,et,λm' H' g w'=>iteF (⟨m',r,h1,d,h',w',st.mono g,e1,λm2 v H2 g2=>c m2 v H2 (g.trans g2)⟩)⟩
  ·cases e1
 ·intro pins s σ H Q I ⟨m,r,hh,d,h',k,w,st,e1,ek,c⟩
  simp only[ev] at e1
  obtain⟨dx,h1,e0,e1⟩:=Rs.bind_ok e1
  have hz':=(h_cc xo go).2
  have hx':=(h_a xo go).2
  have hy':=(h_b xo go).2
  show wpAny _ _ (do if <- isTrue z X.env (eval z X.env) then isTrue x X.env (eval x X.env) else isTrue y X.env (eval y X.env)) _ _ _
  split at e1
  ·rename_i et
   refine wpAny_bind (thn (hz' pins s σ H (λkb H1=>kb=true/\TDT X.K (ev G cl a) σ H1 Q) I ⟨m,r,hh,dx,h1,true,w,st,e0,et,λm' H' g w'=>⟨rfl,m',r,h1,d,h',k,w',st.mono g,e1,ek,λm2 H2 g2=>c m2 H2 (g.trans g2)⟩⟩) λkb s1 ⟨H1,I1,eb,q1⟩=>?_)
   subst eb
   exact hx' pins s1 σ H1 Q I1 q1
  ·rename_i et
   refine wpAny_bind (thn (hz' pins s σ H (λkb H1=>kb=false/\TDT X.K (ev G cl b) σ H1 Q) I ⟨m,r,hh,dx,h1,false,w,st,e0,et,λm' H' g w'=>⟨rfl,m',r,h1,d,h',k,w',st.mono g,e1,ek,λm2 H2 g2=>c m2 H2 (g.trans g2)⟩⟩) λkb s1 ⟨H1,I1,eb,q1⟩=>?_)
   subst eb
   exact hy' pins s1 σ H1 Q I1 q1
  ·cases e1
theorem dE_ix{a b:E}{x y:PySem.Expr}{pos:Pos}(hs:PlainIx y)(h_a:SE N sc G a x)(h_b:SE N sc G b y):SE N sc G (.ix a b) (.Subscript x y pos):=λ{X ca cl} xo go=>by
 have p:PE X (.Subscript x y pos) (TDE X.K (ev G cl (.ix a b))):=(pe_ix (ixSeq xo.room) (h_a xo go).1 (h_b xo go).1 hs).wk (TDE.op λr h=>by simp only[ev])
 exact⟨p,tOf p λ_=>rfl⟩
theorem jzm{l:Es}{es:List PySem.Expr}{k:Nat}{pos:Pos}(h_l:SAs N sc G l es):SE N sc G (.tup l) (.Tuple es k pos):=λ{X ca cl} xo go=>by
 have p:PE X (.Tuple es k pos) (TDE X.K (ev G cl (.tup l))):=(pe_tup (h_l.2 xo go)).wk λs H Q ⟨m,r,hh,d,h',w,st,e1,c⟩=>by
  simp only[ev] at e1
  obtain⟨ds,h1,e0,e1⟩:=Rs.bind_ok e1
  split at e1
  ·rename_i hl
   cases e1
   refine⟨m,r,hh,ds,_,w,st,e0,λm' vs H' g w' rd=>⟨?_,λq hq=>?_⟩⟩
   ·rw[<- rd.length];exact Nat.le_of_lt (wzI hl)
   ·exact c m' _ _ (g.trans (Gr.tupNew hq)) (w'.keepNew hq) (.tup (.of jzy) (rd.mono (Gr.tupNew hq)))
  ·cases e1
 exact⟨p,tOf p λ_=>rfl⟩
theorem jzR{l:Es}{es:List PySem.Expr}{pos:Pos}(h_l:SAs N sc G l es):SE N sc G (.lst l) (.List es pos):=λ{X ca cl} xo go=>by
 have p:PE X (.List es pos) (TDE X.K (ev G cl (.lst l))):=(pe_lst (h_l.2 xo go)).wk λs H Q ⟨m,r,hh,d,h',w,st,e1,c⟩=>by
  simp only[ev] at e1
  obtain⟨ds,h1,e0,e1⟩:=Rs.bind_ok e1
  split at e1
  ·rename_i hl
   cases e1
   refine⟨m,r,hh,ds,_,w,st,e0,λm' vs H' g w' rd=>⟨?_,λq hq=>?_⟩⟩
   ·rw[<- rd.length];exact Nat.le_of_lt (wzI hl)
   ·obtain⟨w2,g2⟩:=w'.lstNew hq rd
    exact c _ _ _ (g.trans g2) w2 (.ref (by rw[<- w'.len];simp))
  ·cases e1
 exact⟨p,tOf p λ_=>rfl⟩
theorem jzj{f:Nat}{l:Es}{x:Str}{y:PySem.Expr}{ys:List PySem.Expr}{np pos:Pos}(h1:G.fns[f]? =some x)(h:(glB sc x&&noDbg x)=true)(h_l:SAs N sc G l (y::ys)):SE N sc G (.call f l) (.Call (.Name x np) (y::ys) [] pos):=λ{X ca cl} xo go=>by
 rw[Bool.and_eq_true] at h
 obtain⟨h2,h3⟩:=h
 obtain⟨d1,d2,d3⟩:=jzL h3
 obtain⟨fa,fd,ps,k,F,hr,hm,hk,hb,hlen⟩:=go.fn f x h1
 have hns:=h_l.1
 rw[List.all_cons,Bool.and_eq_true] at hns
 have p:PE X (.Call (.Name x np) (y::ys) [] pos) (TDE X.K (ev G cl (.call f l))):=(pe_call F hr (jzV xo h2) hm hk hb .nil pass1 (h_l.2 xo go) d1 (jzw ys hns.1) (jz9 pos hns.2)).wk λs H Q ⟨m,r,hh,d,h',w,st,e1,c⟩=>by
  simp only[ev] at e1
  obtain⟨ds,h1,e0,e1⟩:=Rs.bind_ok e1
  have e1:=Rs.nx_ok e1
  refine⟨m,r,hh,ds,h1,w,st,e0,λm' vs H' g w' rd=>?_⟩
  show spD X.K ca (cl f) ps.length (vs++ []) H' Q E0
  rw[List.append_nil]
  exact⟨by rw[<- rd.length];exact hlen _ _ (by rw[e1];exact λz=>nomatch z),m',h1,ds,w',rd,by rw[e1];exact λm2 v H2 g2=>c m2 v H2 (g.trans g2)⟩
 exact⟨p,tOf p λ_=>rfl⟩
theorem jzp{f:Blt}{l:Es}{y:PySem.Expr}{ys:List PySem.Expr}{np pos:Pos}(h2:glB sc f.nm=true)(h_l:SAs N sc G l (y::ys)):SE N sc G (.blt f l) (.Call (.Name f.nm np) (y::ys) [] pos):=λ{X ca cl} xo go=>by
 obtain⟨d1,d3⟩:=blt_dbg f
 have hns:=h_l.1
 rw[List.all_cons,Bool.and_eq_true] at hns
 have im:∀s H Q,TDE X.K (ev G cl (.blt f l)) s H Q->tCB (rDc X.K (bltD f)) (TDA X.K (evs G cl l)) s H Q:=λs H Q ⟨m,r,hh,d,h',w,st,e1,c⟩=>by
  simp only[ev] at e1
  obtain⟨ds,h1,e0,e1⟩:=Rs.bind_ok e1
  exact⟨m,r,hh,ds,h1,w,st,e0,λm' vs H' g w' rd=>⟨m',h1,ds,d,h',w',rd,e1,λm2 v H2 g2=>c m2 v H2 (g.trans g2)⟩⟩
 have p:PE X (.Call (.Name f.nm np) (y::ys) [] pos) (TDE X.K (ev G cl (.blt f l))):=by
  have cb:=callBlt (X:=X) xo.calm xo.room f
  have bb:=vzR f
  have key:∀v,f.val=v->(∃i,v=.builtin i)\/(∃T,v=.type T):=λv e=>by subst e;cases f<;>first |exact .inl ⟨_,rfl⟩|exact .inr ⟨_,rfl⟩
  rcases key _ rfl with ⟨i,ei⟩|⟨T,eT⟩
  ·rw[ei] at cb bb
   exact(vzA cb (jzV xo h2) (go.blt f) bb (h_l.2 xo go) d3 d1 (jzw ys hns.1) (jz9 pos hns.2)).wk im
  ·rw[eT] at cb bb
   exact(zzG cb (jzV xo h2) (go.blt f) bb (h_l.2 xo go) d3 d1 (jzw ys hns.1) (jz9 pos hns.2)).wk im
 exact⟨p,tOf p λ_=>rfl⟩
theorem qzT{o a:E}{z:Str}{pz ap cp:Pos}{y:PySem.Expr}(h2:(ap.endLine==cp.line)=true)(h3:noStar y=true)(h_o:SE N sc G o (.Name z pz))(h_a:SE N sc G a y):SE N sc G (.app o a) (.Call (.Attribute (.Name z pz) "append" ap) [y] [] cp):=λ{X ca cl} xo go=>by
 have ho:=(h_o xo go).1
 have hA:PA X [y] (tCons (TDE X.K (ev G cl a)) tNil):=jz1 ((h_a xo go).1) qzC (jzw [] h3)
 have p:PE X (.Call (.Attribute (.Name z pz) "append" ap) [y] [] cp) (TDE X.K (ev G cl (.app o a))):=(pe_bm PySem.F.plainAttrs_list PySem.F.slot_list_append PySem.F.type_list_append wzP ho hA rfl (by rw[jzw [] h3];rfl) h2 (jzw [] h3) rfl).wk λs H Q q=>by
  refine TDE.one (λ_ _=>rfl) q λm m2 r d h2 h' H2 dx v st g w2 st2 rx e c=>?_
  split at e
  ·rename_i hl
   obtain⟨dy,h3,e3,e⟩:=Rs.bind_ok e
   cases rx<;>first |(cases e;done)|skip
   case ref n a' ha eb=>
    simp only[appD] at e
    split at e<;>first |(cases e;done)|skip
    rename_i l el
    split at e<;>first |(cases e;done)|skip
    rename_i hz
    cases e
    have hl':∃l0,lstAt h2 n=some l0:=Option.isSome_iff_exists.mp hl
    obtain⟨l0,hl'⟩:=hl'
    obtain⟨a'',vs0,ha'',hq,_⟩:=w2.lst hl'
    rw[ha] at ha'';cases ha''
    refine⟨.inl ⟨rfl,vs0,hq⟩,m2,r,h2,dy,h3,w2,st2,e3,λm3 y' H3 g3 w3 ry=>?_⟩
    have ha3:=g3.pre _ _ ha
    obtain⟨vs,hv,rv⟩:∃vs,H3 a'=some (.lst vs)/\RDs X.K m3 H3 l vs:=w3.ob n _ a' el ha3
    obtain⟨_,w4,g4⟩:=w3.lstSet el ha3 (rv.append (.cons ry .nil))
    exact⟨a',vs,y',rfl,rfl,hv,by rw[<- rv.length];exact Nat.lt_of_lt_of_le hz (by decide),c m3 _ _ (g3.trans g4) w4 .non⟩
  ·cases e
 exact⟨p,tOf p λ_=>rfl⟩
theorem vzL{α:Type}(l:List α)(i:Int)(h:0<=i):(l.drop (HT.sIx l.length 0 none)).take (HT.sIx l.length l.length (some i)-HT.sIx l.length 0 none)=l.take i.toNat:=by
 have:HT.sIx l.length l.length (some i)=min i.toNat l.length:=by
  show(if i<0 then _ else _)=_
  rw[if_neg (by omega)]
 rw[HT.sIx_none,this,List.drop_zero,Nat.sub_zero]
 by_cases z:i.toNat<=l.length
 ·rw[Nat.min_eq_left z]
 ·rw[Nat.min_eq_right (by omega),List.take_length,List.take_of_length_le (by omega)]
theorem cut_drop{α:Type}(l:List α)(i:Int)(h:0<=i):(l.drop (HT.sIx l.length 0 (some i))).take (HT.sIx l.length l.length none-HT.sIx l.length 0 (some i))=l.drop i.toNat:=by
 have:HT.sIx l.length 0 (some i)=min i.toNat l.length:=by
  show(if i<0 then _ else _)=_
  rw[if_neg (by omega)]
 rw[HT.sIx_none,this]
 by_cases z:i.toNat<=l.length
 ·rw[Nat.min_eq_left z,List.take_of_length_le (by rw[List.length_drop];omega)]
 ·rw[Nat.min_eq_right (by omega),List.drop_length,List.drop_of_length_le (by omega),List.take_nil]
theorem cut_back{α:Type}(l:List α)(i:Int)(h:¬0<=i):(l.drop (HT.sIx l.length 0 (some i))).take (HT.sIx l.length l.length none-HT.sIx l.length 0 (some i))=l.drop (l.length-i.natAbs):=by
 have:HT.sIx l.length 0 (some i)=l.length-i.natAbs:=by
  show(if i<0 then(i+(l.length:Int)).toNat else _)=_
  rw[if_pos (by omega)]
  omega
 rw[HT.sIx_none,this,List.take_of_length_le (by rw[List.length_drop];omega)]
theorem RDs.take{K:PySem.W.Frag}{m:List Addr}{H:Hp}:∀{ds:List D}{vs:List V}(n:Nat),RDs K m H ds vs->RDs K m H (ds.take n) (vs.take n)
 |_,_,0,_=>by rw[List.take_zero,List.take_zero];exact .nil
 |_,_,n+1,.nil=>by rw[List.take_nil,List.take_nil];exact .nil
 |_,_,n+1,.cons h t=>by rw[List.take_succ_cons,List.take_succ_cons];exact .cons h (RDs.take n t)
theorem RDs.drop{K:PySem.W.Frag}{m:List Addr}{H:Hp}:∀{ds:List D}{vs:List V}(n:Nat),RDs K m H ds vs->RDs K m H (ds.drop n) (vs.drop n)
 |_,_,0,q=>q
 |_,_,n+1,.nil=>.nil
 |_,_,n+1,.cons h t=>RDs.drop n t
theorem dE_slU{a b:E}{x y:PySem.Expr}{p2 pos:Pos}(h_a:SE N sc G a x)(h_b:SE N sc G b y):SE N sc G (.slU a b) (.Subscript x (.Slice none (some y) none p2) pos):=λ{X ca cl} xo go=>by
 have p:PE X (.Subscript x (.Slice none (some y) none p2) pos) (TDE X.K (ev G cl (.slU a b))):=(wzn zzq (h_a xo go).1 vza (wz9 (h_b xo go).1)).wk λs H Q q=>by
  obtain⟨m,r,h,d,h',w,st,e,c⟩:=q
  rw[ev] at e
  refine TDE.two w st e λm2 H2 h2 dx dy x y g w2 rx ry e=>?_
  unfold slUD at e
  split at e
  ·rename_i l i hl el
   split at e
   ·rename_i hi
    cases e
    obtain⟨p,vs,rfl,hq,q⟩:=qzs w2 rx hl el
    cases ry
    refine⟨i,rfl,p,vs,rfl,hq,λk hk=>?_⟩
    have e1:cutV vs none (some i)=vs.take i.toNat:=vzL vs i hi
    rw[e1]
    obtain⟨w3,g3⟩:=w2.lstNew hk (q.take i.toNat)
    exact c _ _ _ (g.trans g3) w3 (.ref (by rw[<- w2.len];simp))
   ·cases e
  ·cases e
 exact⟨p,tOf p λ_=>rfl⟩
theorem dE_slL{a b:E}{x y:PySem.Expr}{p2 pos:Pos}(h_a:SE N sc G a x)(h_b:SE N sc G b y):SE N sc G (.slL a b) (.Subscript x (.Slice (some y) none none p2) pos):=λ{X ca cl} xo go=>by
 have p:PE X (.Subscript x (.Slice (some y) none none p2) pos) (TDE X.K (ev G cl (.slL a b))):=(wzn zzq (h_a xo go).1 (wz9 (h_b xo go).1) vza).wk λs H Q q=>by
  obtain⟨m,r,h,d,h',w,st,e,c⟩:=q
  rw[ev] at e
  refine TDE.two w st e λm2 H2 h2 dx dy x y g w2 rx ry e=>?_
  unfold slLD at e
  split at e
  ·rename_i l i hl el
   split at e
   ·rename_i hi
    cases e
    obtain⟨p,vs,rfl,hq,q⟩:=qzs w2 rx hl el
    cases ry
    refine⟨i,rfl,p,vs,rfl,hq,λk hk=>?_⟩
    have e1:cutV vs (some i) none=vs.drop i.toNat:=cut_drop vs i hi
    rw[e1]
    obtain⟨w3,g3⟩:=w2.lstNew hk (q.drop i.toNat)
    exact c _ _ _ (g.trans g3) w3 (.ref (by rw[<- w2.len];simp))
   ·rename_i hi
    cases e
    obtain⟨p,vs,rfl,hq,q⟩:=qzs w2 rx hl el
    cases ry
    refine⟨i,rfl,p,vs,rfl,hq,λk hk=>?_⟩
    have e1:cutV vs (some i) none=vs.drop (vs.length-i.natAbs):=cut_back vs i hi
    rw[e1]
    obtain⟨w3,g3⟩:=w2.lstNew hk (q.drop (vs.length-i.natAbs))
    rw[<- q.length] at*
    exact c _ _ _ (g.trans g3) w3 (.ref (by rw[<- w2.len];simp))
  ·cases e
 exact⟨p,tOf p λ_=>rfl⟩
theorem vzr{K:PySem.W.Frag}{m:List Addr}{H:Hp}:∀{ds:List D}{vs:List V}{us:List Value}{xs:List Str},RDs K m H ds vs->Vals vs us->strsD ds=some xs->StrsAre us xs
 |_,_,_,_,.nil,.nil,e=>by cases e;exact .nil
 |_,_,_,_,.cons r q,.cons v t,e=>by
  cases r<;>first |(cases e;done)|skip
  simp only[strsD,Option.map_eq_some_iff] at e
  obtain⟨l,e1,rfl⟩:=e
  obtain⟨tk,rfl⟩:=v
  exact .cons _ tk (vzr q t e1)
theorem mt_join{X:Cx}(z:Str):MtR X "str.join" (λx vs H Q=>x=.str z/\∃m h y v d h',vs=[v]/\Wd X.K m h H/\RD X.K m H y v/\joinD z y h=.ok d h'/\∀m' v H',Gr X.K m H m' H'->Wd X.K m' h' H'->RD X.K m' H' d v->Q v H'):=by
 intro pins s σ H x vs v us Q I rx rv ⟨ex,m,h,y,v',d,h',ev,w,r1,e,c⟩
 subst ex ev
 obtain⟨t,rfl⟩:=rx
 obtain⟨u,rfl,ru⟩:=vals1 rv
 unfold joinD at e
 split at e
 ·rename_i l hl el
  split at e
  ·rename_i xs ex
   split at e
   ·rename_i hz
    cases e
    obtain⟨p,ws,rfl,hq,q⟩:=qzs w r1 hl el
    cases ru
    obtain⟨its,p1,t1,_⟩:=I.list hq
    exact join_list t1.isList (by simpa using vzr q p1 ex) (by omega) λt' k=>⟨.str _,H,I.tok k,⟨t',rfl⟩,c m _ H .refl w (.str _)⟩
   ·cases e
  ·cases e
 ·cases e
theorem dE_join{z:Str}{a:E}{j:Nat}{kp ap cp:Pos}{y:PySem.Expr}(h2:(ap.endLine==cp.line)=true)(h3:noStar y=true)(h_a:SE N sc G a y):SE N sc G (.join z a) (.Call (.Attribute (.Constant (.str z) j kp) "join" ap) [y] [] cp):=λ{X ca cl} xo go=>by
 have hA:PA X [y] (tCons (TDE X.K (ev G cl a)) tNil):=jz1 ((h_a xo go).1) qzC (jzw [] h3)
 have p:PE X (.Call (.Attribute (.Constant (.str z) j kp) "join" ap) [y] [] cp) (TDE X.K (ev G cl (.join z a))):=(pe_bm PySem.F.plainAttrs_str PySem.F.slot_str_join PySem.F.type_str_join (mt_join z) vzy hA rfl (by rw[jzw [] h3];rfl) (by simpa using h2) (jzw [] h3) rfl).wk λs H Q q=>by
  refine⟨rfl,TDE.one (k:=λ_ x h=>joinD z x h) (λr h=>by rw[ev]) q λm m2 r d h2 h' H2 dx v st g w2 st2 rx e c=>?_⟩
  exact⟨rfl,m2,h2,dx,v,d,h',rfl,w2,rx,e,c⟩
 exact⟨p,tOf p λ_=>rfl⟩
theorem jzc:SAs N sc G .nil []:=⟨rfl,λ{X ca cl} xo go=>L2.PA.wk qzC λs H Q ⟨m,r,hh,ds,h',w,st,e1,c⟩=>by
 cases e1
 exact c m [] H Gr.refl w .nil⟩
theorem zzu{c:E}{l:Es}{e:PySem.Expr}{es:List PySem.Expr}(hn:noStar e=true)(he:SE N sc G c e)(hl:SAs N sc G l es):SAs N sc G (.cons c l) (e::es):=⟨by rw[List.all_cons,hn,hl.1];rfl,λ{X ca cl} xo go=>by
 refine L2.PA.wk (jz1 (he xo go).1 (hl.2 xo go) (jzw es hn)) λs H Q ⟨m,r,hh,ds,h',w,st,e1,cc⟩=>?_
 simp only[evs] at e1
 obtain⟨d,h1,e0,e1⟩:=Rs.bind_ok e1
 obtain⟨ds',h2,e2,e1⟩:=Rs.bind_ok e1
 cases e1
 exact⟨m,r,hh,d,h1,w,st,e0,λm1 v H1 g1 w1 rv=>⟨m1,r,h1,ds',_,w1,st.mono g1,e2,λm2 vs H2 g2 w2 rvs=>cc m2 _ H2 (g1.trans g2) w2 (.cons (rv.mono g2) rvs)⟩⟩⟩
theorem jzU:SBs N sc G .nil []:=λ{X ca cl} xo go=>λpins s σ H Q I ⟨m,r,hh,b,h',w,st,e1,c⟩=>by
 rw[evt] at e1
 cases e1
 exact wpAny_pure ⟨H,I,c m H Gr.refl w⟩
theorem sb_cons{c:E}{l:Es}{e:PySem.Expr}{es:List PySem.Expr}(he:SE N sc G c e)(hl:SBs N sc G l es):SBs N sc G (.cons c l) (e::es):=λ{X ca cl} xo go=>λpins s σ H Q I ⟨m,r,hh,b,h',w,st,e1,cc⟩=>by
 rw[evt] at e1
 obtain⟨d,h1,e0,e1⟩:=Rs.bind_ok e1
 refine vz0 ?_
 split at e1
 ·rename_i et
  refine thn ((he xo go).2 pins s σ H (λk H1=>k=true/\TDB X.K (evt G cl l) σ H1 Q) I ⟨m,r,hh,d,h1,true,w,st,e0,et,λm' H' g w'=>⟨rfl,m',r,h1,b,_,w',st.mono g,e1,λm2 H2 g2=>cc m2 H2 (g.trans g2)⟩⟩) λk s1 ⟨H1,I1,ek,q1⟩=>?_
  subst ek
  exact hl xo go pins s1 σ H1 Q I1 q1
 ·rename_i et
  cases e1
  refine thn ((he xo go).2 pins s σ H (λk H1=>k=false/\Q false H1) I ⟨m,r,hh,d,_,false,w,st,e0,et,λm' H' g w'=>⟨rfl,cc m' H' g w'⟩⟩) λk s1 ⟨H1,I1,ek,q1⟩=>?_
  subst ek
  exact wz7 ⟨H1,I1,q1⟩
 ·cases e1
structure Blk (N:List Str)(sc:Scope)(N':List Str)(cap:List Nat)(scope:Scope):Prop where
 S:ScOk scope sc
 nd:N'.Nodup
 capL:cap.length<=N'.length
 nN:(N'.drop (N'.length-cap.length)).map some=cap.map (λ(i:Nat)=>N[i]?)
 fr:∀x∈N'.drop (N'.length-cap.length),scope.names.lookup x=some .free
theorem jzS{N':List Str}{cap:List Nat}{scope:Scope}(h:(scOk scope sc&&nodupB N'&&capOk N N' cap scope)=true):Blk N sc N' cap scope:=by
 simp only[Bool.and_eq_true] at h
 obtain⟨⟨h1,h2⟩,h3⟩:=h
 unfold capOk at h3
 simp only[Bool.and_eq_true,decide_eq_true_eq,beq_iff_eq,List.all_eq_true] at h3
 exact⟨scOk_of h1,qzE h2,h3.1.1,h3.1.2,h3.2⟩
def tgOk:Ck->PySem.Expr->Bool
 |.itf,.Tuple _ _ _=>true
 |.itf,_=>false
 |.its,.Tuple _ _ _=>true
 |.its,_=>false
 |_,_=>true
def SIt(N:List Str)(sc:Scope)(G:Gs)(k:Ck)(it:Es)(iter:PySem.Expr):Prop:=∀{X:Cx}{ca:Nat->Addr}{cl:Cl},XOk X N sc->GOk X G ca cl->∀{t:Tg}{tg:PySem.Expr}{ft:Ev->Hh->Rs Bool}{fe:Ev->Hh->Rs D}{N':List Str}{cap:List Nat}(_:tgOk k tg=true)
    (pins:List (Addr×Obj))(s:Shared)(σ:Sg)(H:Hp)(m:List Addr)(r:Ev)(h:Hh)(xs:List D)(h1 h':Hh),Inv X pins σ H s->Wd X.K m h H->RSt X.K m H r σ->evs G cl it r h=.ok xs h1->compL t ft fe h1.length k xs h1 (blockE N' cap r) (h1++ [.lst []])=.ok () h'->
    wpAny (model X.prog X.w) X.A (eval iter X.env) (λv s1=>wpAny (model X.prog X.w) X.A (pyIter v)
     (PIE X pins σ tg λJ H2=>∃(m2:List Addr)(h2:Hh),h2.length=h1.length/\Gr X.K m H m2 H2/\Wd X.K m2 h2 H2/\Turns X.K t ft fe h2.length h' J m2 H2 (blockE N' cap r) (h2++ [.lst []])) X.xe s1) X.xe s
theorem it_sq{a:E}{x:PySem.Expr}(ha:SE N sc G a x):SIt N sc G .sq (.cons a .nil) x:=λ{X ca cl} xo go {t tg ft fe N' cap} tk pins s σ H m r h xs h1 h' I w st e1 e3=>by
 have hp:=(ha xo go).1
 rw[evs] at e1
 obtain⟨x,h5,ex,e1⟩:=Rs.bind_ok e1
 rw[evs] at e1
 obtain⟨_,_,e4,e1⟩:=Rs.bind_ok e1
 cases e4;cases e1
 cases x<;>first |(cases e3;done)|skip
 ·refine pi_tup hp pins s σ H _ I ⟨m,r,h,_,_,w,st,ex,λm' v H' g w' rv=>?_⟩
  cases rv with
  |tup hq q=>exact⟨_,rfl,⟨_,hq⟩,m',_,rfl,g,w',zzk hq q e3⟩
 ·rename_i n
  simp only[compL] at e3
  split at e3
  ·rename_i l el
   refine vzb hp pins s σ H _ I ⟨m,r,h,_,_,w,st,ex,λm' v H' g w' rv=>?_⟩
   cases rv with
   |ref ha=>
    obtain⟨a',vs,ha',hq,_⟩:=w'.lst el
    rw[ha] at ha';cases ha'
    exact⟨_,rfl,⟨_,hq⟩,m',_,rfl,g,w',zzm ha e3⟩
  ·cases e3
theorem it_r1{a:E}{y:PySem.Expr}{p pos:Pos}(hg:glB sc "range"=true)(hs:noStar y=true)(ha:SE N sc G a y):SIt N sc G .r1 (.cons a .nil) (.Call (.Name "range" p) [y] [] pos):=λ{X ca cl} xo go {t tg ft fe N' cap} tk pins s σ H m r h xs h1 h' I w st e1 e3=>by
 have hA:=zzu hs ha (jzc (N:=N) (sc:=sc) (G:=G))
 refine wzN (jzV xo hg) xo.rng (hA.2 xo go) (jzw [] hs) pins s σ H _ I ⟨m,r,h,xs,h1,w,st,e1,λm' vs H' g w' rv=>?_⟩
 rcases xs with _|⟨x,_|⟨y,xs⟩⟩<;>first |(cases e3;done)|(cases x<;>(cases e3;done))|skip
 cases x<;>first |(cases e3;done)|skip
 rename_i j
 simp only[compL] at e3
 split at e3
 ·rename_i ho
  cases rv with
  |cons rx rv=>
   cases rx;cases rv
   have tt:=zzl (K:=X.K) (m2:=m') (H2:=H') (lo:=0) (hi:=j) e3
   exact⟨j,rfl,ho.1,ho.2,m',_,rfl,g,w',by simpa using tt⟩
 ·cases e3
theorem zzh{K:PySem.W.Frag}{m:List Addr}{H:Hp}:∀{ds:List (List Int×D)}{xs:List (List Int×Addr×Value)}{us:List V},ds.map (·.1)=xs.map (·.1)->(∀x∈xs,SqT K H x.2.1 (x.1.map V.int))->RDs K m H (ds.map (·.2)) us->Vals us (xs.map (·.2.2))->
 ∃ks:List (Addr×V),ks.length=xs.length/\ds.length=ks.length/\(∀(i:Nat) k v,ks[i]? =some (k,v)->∃x,xs[i]? =some x/\x.2.1=k/\RelV v x.2.2)/\∀(i:Nat) d,ds[i]? =some d->∃k v,ks[i]? =some (k,v)/\SqT K H k (d.1.map V.int)/\RD K m H d.2 v
 | [],[],us,_,_,r,p=>⟨[],rfl,rfl,λi k v e=>by simp at e,λi d e=>by simp at e⟩
 | [],_::_,us,h,_,_,_=>by cases h
 |_::_,[],us,h,_,_,_=>by cases h
 |d::ds,x::xs,us,h,hk,r,p=>by
  cases r with
  | @cons _ v1 _ _ r1 r=>
    cases p with
    |cons p1 p=>
     obtain⟨h1,h2⟩:=List.cons.inj (show d.1::ds.map (·.1)=x.1::xs.map (·.1) from h)
     obtain⟨ks,a,a',b,c⟩:=zzh h2 (λy hy=>hk y (List.mem_cons_of_mem _ hy)) r p
     refine⟨(x.2.1,v1)::ks,by simp[a],by simp[a'],λi k v e=>?_,λi d' e=>?_⟩
     ·cases i with
      |zero=>
       simp at e
       obtain⟨rfl,rfl⟩:=e
       exact⟨x,rfl,rfl,p1⟩
      |succ i=>exact b i k v (by simpa using e)
     ·cases i with
      |zero=>
       simp at e
       subst e
       exact⟨x.2.1,v1,rfl,by rw[h1];exact hk x List.mem_cons_self,r1⟩
      |succ i=>exact c i d' (by simpa using e)
theorem comp_w{t:Tg}{k:Ck}{it cs:Es}{e:E}{N':List Str}{cap:List Nat}{tg iter:PySem.Expr}(hi:SIt N sc G k it iter)(tk:tgOk k tg=true){X:Cx}{ca:Nat->Addr}{cl:Cl}(xo:XOk X N sc)(go:GOk X G ca cl)
 (pins:List (Addr×Obj))(s:Shared)(σ:Sg)(H:Hp)(m:List Addr)(r:Ev)(h:Hh)(d:D)(h':Hh)(I:Inv X pins σ H s)(w:Wd X.K m h H)(st:RSt X.K m H r σ)(ev1:ev G cl (.comp t k it cs e N' cap) r h=.ok d h'):
 ∃h1:Hh,d=.ref h1.length/\wpAny (model X.prog X.w) X.A (eval iter X.env) (λv s1=>wpAny (model X.prog X.w) X.A (pyIter v)
  (PIE X pins σ tg λJ H2=>∃(m2:List Addr)(h2:Hh),h2.length=h1.length/\Gr X.K m H m2 H2/\Wd X.K m2 h2 H2/\Turns X.K t (evt G cl cs) (ev G cl e) h2.length h' J m2 H2 (blockE N' cap r) (h2++ [.lst []])) X.xe s1) X.xe s:=by
 rw[ev] at ev1
 obtain⟨xs,hh1,e1,e2⟩:=Rs.bind_ok ev1
 obtain⟨_,hh2,e3,e2⟩:=Rs.bind_ok e2
 cases e2
 exact⟨hh1,rfl,hi xo go tk pins s σ H m r h xs hh1 _ I w st e1 e3⟩
theorem vzM{t:Tg}{cs:Es}{e:E}{N':List Str}{cap:List Nat}{elt tg:PySem.Expr}{ifs:List PySem.Expr}{scope:Scope}(B:Blk N sc N' cap scope)(ht:chkT' N' scope t tg=true)(hc:SBs N' (relab scope sc) G cs ifs)(he:SE N' (relab scope sc) G e elt){X:Cx}{ca:Nat->Addr}{cl:Cl}(xo:XOk X N sc)(go:GOk X G ca cl)(C:Addr)(s3:Shared)(H3:Hp)(fp:List Addr):
 PG (blkX X N' scope C s3 H3 fp) tg (TDG X.K t)/\PTs (blkX X N' scope C s3 H3 fp) ifs (TDB X.K (evt G cl cs))/\PE (blkX X N' scope C s3 H3 fp) elt (TDE X.K (ev G cl e)):=
 ⟨pgT' (qzV xo B.nd C s3 H3 fp) (xzD (by rw[xo.s];exact B.S) C s3 H3 fp) ht,hc (qzV xo B.nd C s3 H3 fp) (vzS go C s3 H3 fp),(he (qzV xo B.nd C s3 H3 fp) (vzS go C s3 H3 fp)).1⟩
theorem jzJ{t:Tg}{k:Ck}{it cs:Es}{e:E}{N':List Str}{cap:List Nat}{elt tg iter:PySem.Expr}{ifs:List PySem.Expr}{scope:Scope}{pos:Pos}(B:Blk N sc N' cap scope)(ns:noSet iter=true)(ht:chkT' N' scope t tg=true)(hi:SIt N sc G k it iter)(hc:SBs N' (relab scope sc) G cs ifs)(he:SE N' (relab scope sc) G e elt)(tk:tgOk k tg=true:=by rfl):
 SE N sc G (.comp t k it cs e N' cap) (.ListComp elt [⟨tg,iter,ifs,0⟩] scope pos):=λ{X ca cl} xo go=>by
 have p:PE X (.ListComp elt [⟨tg,iter,ifs,0⟩] scope pos) (TDE X.K (ev G cl (.comp t k it cs e N' cap))):=comp_pe xo B.S B.capL B.nN B.fr (vzM B ht hc he xo go) ns (comp_w hi tk xo go)
 exact⟨p,tOf p λ_=>rfl⟩
end
end Ng
end
section
namespace Ng
open PySem PySem.Spec PyProof.Rows L2
section
variable {N:List Str}{sc:Scope}{G:Gs}
theorem wzq{K:PySem.W.Frag}{m:List Addr}{H:Hp}{f:Str}:∀{fs:List (Str×D)}{us:List (Str×V)},fs.map (·.1)=us.map (·.1)->RDs K m H (fs.map (·.2)) (us.map (·.2))->(∀d,fs.lookup f=some d->∃v,us.lookup f=some v/\RD K m H d v)/\(fs.lookup f=none->us.lookup f=none)
 | [],[],_,_=>⟨λd e=>(nomatch e),λ_=>rfl⟩
 |(k,d)::fs,(k',v)::us,h,r=>by
  obtain⟨h1,h2⟩:=List.cons.inj (show k::fs.map (·.1)=k'::us.map (·.1) from h)
  subst h1
  cases r with
  |cons r1 r=>
   obtain⟨i1,i2⟩:=wzq h2 r
   simp only[List.lookup_cons]
   cases f==k with
   |true=>exact⟨λd' e=>by cases e;exact⟨v,rfl,r1⟩,λe=>(nomatch e)⟩
   |false=>exact⟨i1,i2⟩
 | [],_::_,h,_=>by cases h
 |_::_,[],h,_=>by cases h
theorem qzj{o:E}{cn f:Str}{e:PySem.Expr}{pos:Pos}(hG:(cn,f)∈G.atts)(hb:∀env:Env,attributeBase e f env (eval e env)=eval e env)(h_o:SE N sc G o e):SE N sc G (.att o cn f) (.Attribute e f pos):=λ{X ca cl} xo go=>by
 obtain⟨C,hC,cls,na⟩:=go.c.att _ hG
 have p:PE X (.Attribute e f pos) (TDE X.K (ev G cl (.att o cn f))):=(pe_fld (h_o xo go).1 (hb X.env)).wk λs H Q q=>by
  refine TDE.one (λr h=>by simp only[ev];rfl) q λm m2 r d h2 h' H2 dx v st g w2 st2 rx e c=>?_
  cases rx<;>first |(cases e;done)|skip
  rename_i n a ha
  simp only[attD] at e
  split at e<;>first |(cases e;done)|skip
  rename_i c0 fs el
  split at e<;>first |(cases e;done)|skip
  rename_i ec
  subst ec
  obtain⟨C',dx',us,q1,q2,q3,q4⟩:RO X.K m2 H2 a (.ins c0 fs):=w2.ob n _ a el ha
  have hC':PySem.W.nsIn X.K mainGlobals c0=some (some (.ref C)):=hC
  rw[q1] at hC'
  cases hC'
  split at e<;>first |(cases e;done)|skip
  rename_i d0 ed
  cases e
  obtain⟨v,hv,rv⟩:=(wzq q3 q4).1 _ ed
  exact⟨a,_,dx',us,v,rfl,q2,cls,na,hv,c m2 v H2 Gr.refl w2 rv⟩
 exact⟨p,tOf p λ_=>rfl⟩
def MtE(e:PySem.Expr)(m:Str)(ap cp:Pos)(args:List PySem.Expr):Prop:=∀env:Env,∃pl:Sem Bool,eval (.Call (.Attribute e m ap) args [] cp) env=(do
 let ov <- eval e env
 standAt ap.atName
 let(f,first) <- holding [ov] (getMethod ov m pl)
 callWith cp f first (backTo cp (starEach args env)) (backToKw cp (keywordEach [] env)))
theorem mth_at{X:Cx}{m2:List Addr}{h2:Hh}{H2:Hp}{x:D}{v:V}{cn mt:Str}{C:Addr}(w2:Wd X.K m2 h2 H2)(rx:RD X.K m2 H2 x v)(hC:PySem.W.nsIn X.K mainGlobals cn=some (some (.ref C)))(e:mthOk x cn mt h2=true):∃a dx us,v=.ref a/\H2 a=some (.ins C dx us)/\us.lookup mt=none:=by
 cases rx<;>first |(cases e;done)|skip
 rename_i n a ha
 simp only[mthOk] at e
 split at e<;>first |(cases e;done)|skip
 rename_i c0 fs el
 rw[Bool.and_eq_true,decide_eq_true_eq] at e
 obtain⟨rfl,e⟩:=e
 obtain⟨C',dx',us,q1,q2,q3,q4⟩:RO X.K m2 H2 a (.ins c0 fs):=w2.ob n _ a el ha
 rw[q1] at hC
 cases hC
 exact⟨a,dx',us,rfl,q2,(wzq q3 q4).2 (Option.isNone_iff_eq_none.mp e)⟩
theorem xzp{o:E}{cn mt:Str}{f:Nat}{l:Es}{e y:PySem.Expr}{ys:List PySem.Expr}{ap cp:Pos}(hG:(cn,mt,f)∈G.meths)(ht:MtE e mt ap cp (y::ys))(h_o:SE N sc G o e)(h_l:SAs N sc G l (y::ys)):SE N sc G (.mth o cn mt f l) (.Call (.Attribute e mt ap) (y::ys) [] cp):=λ{X ca cl} xo go=>by
 obtain⟨C,fa,fd,ps,k,hC,cls,hm,F,hr,hb,hlen⟩:=go.c.meth _ hG
 have hns:=h_l.1
 rw[List.all_cons,Bool.and_eq_true] at hns
 obtain⟨pl,ht⟩:=ht X.env
 have p:PE X (.Call (.Attribute e mt ap) (y::ys) [] cp) (TDE X.K (ev G cl (.mth o cn mt f l))):=(pe_meth (h_o xo go).1 cls hm F hr hb .nil pass1 (h_l.2 xo go) (jzw ys hns.1) (jz9 cp hns.2) ht).wk λs H Q q=>by
  refine TDE.one (k:=λr x h=>if mthOk x cn mt h=true then(evs G cl l r h).bind λds h=>(cl f (x::ds) h).nx else .bad) (λr h=>by simp only[ev]) q λm m2 r d h2 h' H2 dx v st g w2 st2 rx e c=>?_
  split at e<;>first |(cases e;done)|skip
  rename_i hmt
  obtain⟨a,dx',us,rfl,q2,q3⟩:=mth_at w2 rx hC hmt
  obtain⟨ds,h3,e3,e⟩:=Rs.bind_ok e
  have e:=Rs.nx_ok e
  refine⟨a,dx',us,rfl,q2,q3,m2,r,h2,ds,h3,w2,st2,e3,λm' vs H' g' w' rd=>?_⟩
  show spD X.K ca (cl f) ps.length (V.ref a::(vs++ [])) H' Q E0
  rw[List.append_nil]
  have rd':=RDs.cons (rx.mono g') rd
  exact⟨by rw[<- rd'.length];exact hlen _ _ (by rw[e];exact λz=>nomatch z),m',h3,dx::ds,w',rd',by rw[e];exact λm2 v H2 g2=>c m2 v H2 (g'.trans g2)⟩
 exact⟨p,tOf p λ_=>rfl⟩
theorem dE_mth0{o:E}{cn mt:Str}{f:Nat}{e:PySem.Expr}{ap cp:Pos}(hG:(cn,mt,f)∈G.meths)(ht:MtE e mt ap cp [])(h_o:SE N sc G o e):SE N sc G (.mth o cn mt f .nil) (.Call (.Attribute e mt ap) [] [] cp):=λ{X ca cl} xo go=>by
 obtain⟨C,fa,fd,ps,k,hC,cls,hm,F,hr,hb,hlen⟩:=go.c.meth _ hG
 obtain⟨pl,ht⟩:=ht X.env
 have p:PE X (.Call (.Attribute e mt ap) [] [] cp) (TDE X.K (ev G cl (.mth o cn mt f .nil))):=(pe_meth0 (h_o xo go).1 cls hm F hr hb .nil pass1 ht).wk λs H Q q=>by
  refine TDE.one (k:=λr x h=>if mthOk x cn mt h=true then(evs G cl .nil r h).bind λds h=>(cl f (x::ds) h).nx else .bad) (λr h=>by simp only[ev]) q λm m2 r d h2 h' H2 dx v st g w2 st2 rx e c=>?_
  split at e<;>first |(cases e;done)|skip
  rename_i hmt
  obtain⟨a,dx',us,rfl,q2,q3⟩:=mth_at w2 rx hC hmt
  obtain⟨ds,h3,e3,e⟩:=Rs.bind_ok e
  have e:=Rs.nx_ok e
  simp only[evs] at e3
  cases e3
  refine⟨a,dx',us,rfl,q2,q3,?_⟩
  show spD X.K ca (cl f) ps.length [V.ref a] H2 Q E0
  have rd':=RDs.cons rx .nil
  exact⟨by rw[<- rd'.length];exact hlen _ _ (by rw[e];exact λz=>nomatch z),m2,h2,[dx],w2,rd',by rw[e];exact λm2 v H2 g2=>c m2 v H2 g2⟩
 exact⟨p,tOf p λ_=>rfl⟩
theorem dE_new{cn:Str}{f:Nat}{l:Es}{y:PySem.Expr}{ys:List PySem.Expr}{np pos:Pos}(hG:(cn,f)∈G.news)(h:(glB sc cn&&noDbg cn)=true)(h_l:SAs N sc G l (y::ys)):SE N sc G (.new cn f l) (.Call (.Name cn np) (y::ys) [] pos):=λ{X ca cl} xo go=>by
 rw[Bool.and_eq_true] at h
 obtain⟨h2,h3⟩:=h
 obtain⟨d1,d2,d3⟩:=jzL h3
 obtain⟨C,fa,fd,ps,k,hC,hmg,M,F,hr,hb,hlen⟩:=go.c.new _ hG
 have hns:=h_l.1
 rw[List.all_cons,Bool.and_eq_true] at hns
 have p:PE X (.Call (.Name cn np) (y::ys) [] pos) (TDE X.K (ev G cl (.new cn f l))):=(pe_make M F hr (jzV xo h2) hmg hb .nil pass1 (h_l.2 xo go) d1 (jzw ys hns.1) (jz9 pos hns.2)).wk λs H Q ⟨m,r,hh,d,h',w,st,e1,c⟩=>by
  simp only[ev] at e1
  obtain⟨ds,h1,e0,e1⟩:=Rs.bind_ok e1
  have e1:=Rs.nx_ok e1
  unfold newD at e1
  obtain⟨d',h2,e2,e1⟩:=Rs.bind_ok e1
  cases d'<;>first |(cases e1;done)|skip
  cases e1
  refine⟨m,r,hh,ds,h1,w,st,e0,λm' vs H' g w' rd x dx hx hdx ne=>?_⟩
  have w2:=w'.keepNew (o:=.own x) hdx
  have g2:Gr X.K m' H' m' (upd H' dx (.own x)):=Gr.tupNew hdx
  have hx2:(upd H' dx (.own x)) x=none:=by rw[jzl (Ne.symm ne)];exact hx
  obtain⟨w3,g3⟩:=w2.objNew (o:=.ins cn []) (u:=.ins C dx []) hx2 λ_=>⟨C,dx,[],hC,jzy,rfl,.nil⟩
  have hr0:(m'++ [x])[h1.length]? =some x:=by rw[<- w'.len];simp
  show spD X.K ca (cl f) ps.length (V.ref x::(vs++ [])) _ _ E0
  rw[List.append_nil]
  have rd':=RDs.cons (RD.ref (K:=X.K) (H:=upd (upd H' dx (.own x)) x (.ins C dx [])) hr0) ((rd.mono g2).mono g3)
  exact⟨by rw[<- rd'.length];exact hlen _ _ (by rw[e2];exact λz=>nomatch z),m'++ [x],h1++ [.ins cn []],.ref h1.length::ds,w3,rd',by
   rw[e2]
   exact λm4 v H4 g4 w4 rv=>by
    cases rv
    exact⟨rfl,c m4 _ H4 (((g.trans g2).trans g3).trans g4) w4 (.ref (g4.pre _ _ hr0))⟩⟩
 exact⟨p,tOf p λ_=>rfl⟩
theorem dE_slT{a b:E}{x y:PySem.Expr}{p2 pos:Pos}(h_a:SE N sc G a x)(h_b:SE N sc G b y):SE N sc G (.slT a b) (.Subscript x (.Slice none (some y) none p2) pos):=λ{X ca cl} xo go=>by
 have p:PE X (.Subscript x (.Slice none (some y) none p2) pos) (TDE X.K (ev G cl (.slT a b))):=(wzn sl_tup (h_a xo go).1 vza (wz9 (h_b xo go).1)).wk λs H Q q=>by
  obtain⟨m,r,h,d,h',w,st,e,c⟩:=q
  rw[ev] at e
  refine TDE.two w st e λm2 H2 h2 dx dy x y g w2 rx ry e=>?_
  unfold slTD at e
  split at e<;>first |(cases e;done)|skip
  rename_i l i
  split at e<;>first |(cases e;done)|skip
  rename_i hi
  cases e
  cases ry
  cases rx with
  | @tup a' _ vs hq q=>
    have lq:=q.length
    refine⟨i,rfl,a',vs,rfl,hq,λz=>?_,λk hk=>?_⟩
    ·have:HT.sIx vs.length vs.length (some i)=min i.toNat vs.length:=by
      show(if i<0 then _ else _)=_
      rw[if_neg (by omega)]
     omega
    ·have e1:cutV vs none (some i)=vs.take i.toNat:=vzL vs i hi.1
     rw[e1]
     have gt:=Gr.tupNew (K:=X.K) (m:=m2) (o:=.tup (vs.take i.toNat)) hk
     exact c _ _ _ (g.trans gt) (w2.keepNew hk) (.tup (.of jzy) ((q.take i.toNat).mono gt))
 exact⟨p,tOf p λ_=>rfl⟩
theorem qzS{op op':Cop}{a b cc:E}{x y z:PySem.Expr}{pos:Pos}(hm:lastMarks [op.op,op'.op] [y,z]=false)(h_a:SE N sc G a x)(h_b:SE N sc G b y)(h_c:SE N sc G cc z):SE N sc G (.chn op op' a b cc) (.Compare x [op.op,op'.op] [y,z] pos):=λ{X ca cl} xo go=>by
 have im:∀s H (Q:VK) m r hh d h',Wd X.K m hh H->RSt X.K m H r s->ev G cl (.chn op op' a b cc) r hh=.ok d h'->(∀m' v H',Gr X.K m H m' H'->Wd X.K m' h' H'->RD X.K m' H' d v->Q v H')->tChain (rD X.K (cmpD op)) (rD X.K (cmpD op')) (TDE X.K (ev G cl a)) (TDE X.K (ev G cl b)) (TDE X.K (ev G cl cc)) s H Q:=by
  intro s H Q m r hh d h' w st e c
  simp only[ev] at e
  refine TDE.two (k:=λx y h=>(cmpD op x y h).bind λp h=>match p with
   |.bl true=>(ev G cl cc r h).bind λz h=>cmpD op' y z h
   |.bl false=>.ok (.bl false) h
   |_=>.bad) w st e λm2 H2 h2 dx dy x y g w2 rx ry e=>?_
  obtain⟨p,h3,e3,e⟩:=Rs.bind_ok e
  obtain⟨k,rfl⟩:=wzy e3
  refine⟨m2,h2,dx,dy,_,h3,w2,rx,ry,e3,λm4 v H4 g4 w4 rv=>?_⟩
  cases rv
  refine⟨k,rfl,?_⟩
  cases k with
  |false=>
   cases e
   exact c m4 _ H4 (g.trans g4) w4 (.bl _)
  |true=>
   obtain⟨z,h5,e5,e⟩:=Rs.bind_ok (show((ev G cl cc r h3).bind λz h=>cmpD op' dy z h)=.ok d h' from e)
   exact⟨m4,r,h3,z,h5,w4,st.mono (g.trans g4),e5,λm5 v5 H5 g5 w5 r5=>⟨m5,h5,dy,z,d,h',w5,(ry.mono g4).mono g5,r5,e,λm6 v6 H6 g6 w6 r6=>c m6 v6 H6 (((g.trans g4).trans g5).trans g6) w6 r6⟩⟩
 have bl:∀{r hh d h'},ev G cl (.chn op op' a b cc) r hh=.ok d h'->∃k,d=.bl k:=by
  intro r hh d h' e
  simp only[ev] at e
  obtain⟨_,_,_,e⟩:=Rs.bind_ok e
  obtain⟨_,_,_,e⟩:=Rs.bind_ok e
  obtain⟨p,_,e3,e⟩:=Rs.bind_ok e
  obtain⟨k,rfl⟩:=wzy e3
  cases k with
  |false=>cases e;exact⟨_,rfl⟩
  |true=>
   obtain⟨_,_,_,e⟩:=Rs.bind_ok e
   exact wzy e
 refine⟨(pe_chain (opCmp xo.room op) (opCmp xo.room op') (h_a xo go).1 (h_b xo go).1 (h_c xo go).1 hm).wk λs H Q ⟨m,r,hh,d,h',w,st,e,c⟩=>im s H Q m r hh d h' w st e c,?_⟩
 refine(pt_chain (opCmp xo.room op) (opCmp xo.room op') (h_a xo go).1 (h_b xo go).1 (h_c xo go).1 hm).wk λs H Q ⟨m,r,hh,d,h',k,w,st,e,ek,c⟩=>im s H _ m r hh d h' w st e λm' v H' g w' rd=>?_
 obtain⟨k',rfl⟩:=bl e
 cases rd
 have ek':k'=k:=Option.some.inj ek
 subst ek'
 exact⟨k',rfl,c m' H' g w'⟩
end
end Ng
end
section
namespace Ng
open PySem PySem.Spec PyProof.Rows L2
section
variable {N:List Str}{sc:Scope}{G:Gs}
end
end Ng
end
section
namespace Ng
open PySem PySem.Spec PyProof.Rows L2
def Itc(x:Str):It:=⟨λi _=>i<x.cps.size,λi H y H'=>H'=H/\∃c,x.cps[i]? =some c/\y=.str ⟨#[c]⟩,λi _=>x.cps.size<=i⟩
theorem turn_str{P:Program}{w:World}{K:PySem.W.Frag}{tg:PySem.Expr}{x:Str}{t:Tok}{T:String}{it:Addr}(hn: ["enumerate","zip","dict_itemiterator","dict_reverseitemiterator","odict_iterator","itertools.zip_longest","itertools.pairwise"].contains T=false)
 (W:∀A':Around,A'.handled=none->Walks P w A' it [it] [it] x.cps.size (SignAt x) (λi h=>h.IsStrIter it T x t i))(hs:∀(A:Around)(i:Nat)(s:Shared)(Q:Value->Shared->Prop)(E:Value->Shared->Prop),s.heap.IsStrIter it T x t i->Q (.ref it) s->wpAny (model P w) A (pyIter (.ref it)) Q E s):
 Turn P w K tg (Itc x) [it] it (λi h=>i<=x.cps.size/\h.IsStrIter it T x t i) where
 mem:=by simp
 obj:=λi h st b hb=>by
  have e:b=it:=by simpa using hb
  subst e
  obtain⟨_,o,e,c,d⟩:=st
  exact⟨o,e,λv z=>by rw[d] at z;cases z⟩
 keep:=λi h h' st k=>⟨st.1,let⟨o,e,r⟩:=st.2;⟨o,k it (by simp) o e,r⟩⟩
 item:=by
  intro X hP hw hK hc i pins s σ H E I hf st hg
  subst hP hw hK
  obtain⟨f0,f1,f2,f3,f4,f5⟩:=hf it (by simp)
  refine(W X.A (I.ok.hd hc)).item i s _ _ hg st.2 λv h' tk hv st' kk=>?_
  obtain⟨c,u,h1,rfl⟩:=hv
  have I1:Inv X pins σ H {s with heap:=h',toks:=tk}:=I.turned (λb o hb e=>kk b o (by simpa using hb) e) f0 f1 f3 f4 f5
  obtain⟨o,e1,e2,e3⟩:=id st'
  exact⟨_,rfl,go_of (s:={s with heap:=h',toks:=tk}) (n:=T) e1 e2 e3 hn ⟨.str ⟨#[c]⟩,H,I1,⟨u,rfl⟩,⟨rfl,c,h1,rfl⟩,⟨hg,st'⟩,λb hb=>(hf b hb).1⟩⟩
 done:=by
  intro X hP hw hK hc i pins s σ H E I hf st hg
  subst hP hw hK
  obtain⟨f0,f1,f2,f3,f4,f5⟩:=hf it (by simp)
  obtain⟨s1,s2⟩:=st
  have ei:i=x.cps.size:=Nat.le_antisymm s1 hg
  subst ei
  exact(W X.A (I.ok.hd hc)).done s _ _ s2 λh' tk eb=>⟨rfl,I.turned (t':=tk) (λb o hb e=>eb b o (by simpa using hb) e) f0 f1 f3 f4 f5⟩
 self:=λA i s Q E st h=>hs A i s Q E st.2 h
section
variable {N:List Str}{sc:Scope}{G:Gs}
theorem it_st{a:E}{x:PySem.Expr}(ha:SE N sc G a x):SIt N sc G .st (.cons a .nil) x:=λ{X ca cl} xo go {t tg ft fe N' cap} tk pins s σ H m r h xs h1 h' I w st e1 e3=>by
 have hp:=(ha xo go).1
 rw[evs] at e1
 obtain⟨x,h5,ex,e1⟩:=Rs.bind_ok e1
 rw[evs] at e1
 obtain⟨_,_,e4,e1⟩:=Rs.bind_ok e1
 cases e4;cases e1
 obtain⟨y,rfl⟩:∃y,x=.str y:=by cases x<;>first |exact⟨_,rfl⟩|(cases e3;done)
 simp only[compL] at e3
 split at e3<;>first |(cases e3;done)|skip
 refine thn (hp pins s σ H (λv H'=>∃m',Gr X.K m H m' H'/\Wd X.K m' h1 H'/\RD X.K m' H' (.str y) v) I ⟨m,r,h,_,_,w,st,ex,λm' v H' g w' rv=>⟨m',g,w',rv⟩⟩) λu s1 ⟨v,H1,I1,rv,m1,g1,w1,rd⟩=>?_
 cases rd
 obtain⟨tt,rfl⟩:=rv
 have tl:Turns X.K t ft fe h1.length h' (Itc y) m1 H1 (blockE N' cap r) (h1++ [.lst []]):=by
  refine jz0 e3 (λi d m H g ed=>?_) λi m H g hi=>?_
  ·rw[List.getElem?_map,Option.map_eq_some_iff] at ed
   obtain⟨c,ec,rfl⟩:=ed
   have ec':y.cps[i]? =some c:=by rw[<- Array.getElem?_toList];exact ec
   refine⟨(Array.getElem?_eq_some_iff.mp ec').1,λz H' ⟨q1,c',q2,q3⟩=>?_⟩
   rw[ec'] at q2;cases q2
   subst q3
   exact⟨q1,.str _⟩
  ·rw[List.length_map,Array.length_toList] at hi
   exact hi
 have fin:∀(T:String)(o:Obj),o.cls=.type T->o.data=.fields #[.str y tt,.int 0 0]->o.isFreed=false->["enumerate","zip","dict_itemiterator","dict_reverseitemiterator","odict_iterator","itertools.zip_longest","itertools.pairwise"].contains T=false->
  (∀A':Around,A'.handled=none->Walks X.prog X.w A' s1.heap.objs.size [s1.heap.objs.size] [s1.heap.objs.size] y.cps.size (SignAt y) (λi h=>h.IsStrIter s1.heap.objs.size T y tt i))->(∀(A:Around)(i:Nat)(s:Shared)(Q:Value->Shared->Prop)(E:Value->Shared->Prop),s.heap.IsStrIter s1.heap.objs.size T y tt i->Q (.ref s1.heap.objs.size) s->wpAny (model X.prog X.w) A (pyIter (.ref s1.heap.objs.size)) Q E s)->
  PIE X pins σ tg (λJ H2=>∃(m2:List Addr)(h2:Hh),h2.length=h1.length/\Gr X.K m H m2 H2/\Wd X.K m2 h2 H2/\Turns X.K t ft fe h2.length h' J m2 H2 (blockE N' cap r) (h2++ [.lst []])) (.ref s1.heap.objs.size) {s1 with heap:=s1.heap.push o}:=λT o o1 o2 of hn W hs=>by
  refine⟨s1.heap.objs.size,[s1.heap.objs.size],_,_,H1,rfl,I1.kept (t':=s1.toks) λb o e=>Heap.get?_push_of_some _ e,turn_str hn W hs,⟨Nat.zero_le _,o,Heap.get?_push_size _ of,o1,o2⟩,λb hb=>?_,m1,h1,rfl,g1,w1,tl⟩
  have e:b=s1.heap.objs.size:=by simpa using hb
  subst e
  exact I1.fpOk (Nat.le_refl _) (I1.hok.fresh (Nat.le_refl _))
 cases hal:y.cps.all (·<128)
 ·exact wpAny_pyIter_wide hal (fin "str_iterator" _ rfl rfl rfl (by decide) (λA' hA=>Walks.strWide hA _ y tt) λA i s Q E st h=>wpAny_pyIter_striter_wide st h)
 ·exact wpAny_pyIter_ascii hal (fin "str_ascii_iterator" _ rfl rfl rfl (by decide) (λA' hA=>Walks.strAscii hA _ y tt) λA i s Q E st h=>wpAny_pyIter_striter_ascii st h)
theorem it_itf{a:E}{ox:PySem.Expr}{ap cp:Pos}(hb:∀env:Env,attributeBase ox "items" env (eval ox env)=eval ox env)(h2:(ap.endLine==cp.line)=true)(ha:SE N sc G a ox):SIt N sc G .itf (.cons a .nil) (.Call (.Attribute ox "items" ap) [] [] cp):=λ{X ca cl} xo go {t tg ft fe N' cap} tk pins s σ H m r h xs h1 h' I w st e1 e3=>by
 have hp:=(ha xo go).1
 rw[evs] at e1
 obtain⟨x,h5,ex,e1⟩:=Rs.bind_ok e1
 rw[evs] at e1
 obtain⟨_,_,e4,e1⟩:=Rs.bind_ok e1
 cases e4;cases e1
 obtain⟨n,rfl⟩:∃n,x=.ref n:=by cases x<;>first |exact⟨_,rfl⟩|(cases e3;done)
 simp only[compL] at e3
 split at e3
 ·rename_i l el
  cases tg<;>first |(cases tk;done)|skip
  rename_i elts j tp
  refine wpAny_Call_method0_late (hb X.env) h2 (thn (hp pins s σ H (λv H'=>∃m',Gr X.K m H m' H'/\Wd X.K m' h1 H'/\RD X.K m' H' (.ref n) v) I ⟨m,r,h,_,_,w,st,ex,λm' v H' g w' rv=>⟨m',g,w',rv⟩⟩) λu s1 ⟨v,H1,I1,rv,m1,g1,w1,rd⟩=>?_)
  have el':dtfAt h1 (.ref n)=some l:=by simp only[dtfAt,el]
  obtain⟨n',d,xs,us,o,es,ep,en,rfl,_,hd,x1,x2,go',x3,x4,x5,x6,_⟩:=vzK I1 w1 rd el'
  obtain rfl:u=Value.ref d:=rv
  obtain⟨d1,d2,d4,d5,⟨P0,w0,d6⟩,d7⟩:=id x2
  have ty:s1.TypeIs (.ref d) "dict":=⟨o,go',d4.1⟩
  refine⟨"dict","dict.items",PySem.F.plainAttrs_dict,PySem.F.slot_dict_items,PySem.F.type_dict_items,ty,λb q=>by cases q;exact⟨o,go',d4.2.1⟩,Calls.callWith_builtin rfl (PySem.evalArgs_none ?_)⟩
  refine call_meetsIn PySem.F.slot_dict_items ty PySem.F.entry_dict_items (PySem.F.args_dict_items_1 _) (vzg d d1) ⟨ty,?_⟩
  have k1:∀b u,s1.heap.get? b=some u->(s1.heap.push {cls:=.type "dict_items",data:=.fields #[.ref d]}).get? b=some u:=λb u q=>Heap.get?_push_of_some _ q
  have I2:=I1.kept (t':=s1.toks) k1
  refine itm_iter (ov:={cls:=.type "dict_items",data:=.fields #[.ref d]}) (od:=o) (es:=es) (ep:=ep) (Heap.get?_push_size _ rfl) rfl rfl (k1 _ _ go') d5 ?_
  generalize hs2:(s1.heap.push {cls:=.type "dict_items",data:=.fields #[.ref d]})=g2 at I2 k1⊢
  have d3':=k1 _ _ go'
  have k2:∀b u,g2.get? b=some u->(g2.push {cls:=.type "dict_itemiterator",data:=.fields #[.none,.bool false,.ref d,.int 0 0,.int es.size 0,.int ep 0,.none,.none]}).get? b=some u:=λb u q=>Heap.get?_push_of_some _ q
  have I3:=L2.Inv.kept (s:={s1 with heap:=g2}) (t':=s1.toks) I2 k2
  obtain⟨ks,b1,b0,b2,b3⟩:=zzh x3 x4 x5 x6
  have esz:es.size=ks.length:=by
   have:=congrArg List.length d6
   simp at this
   omega
  have hit:H1 g2.objs.size=none:=I2.hok.fresh (Nat.le_refl g2.objs.size)
  refine⟨g2.objs.size,[g2.objs.size],_,Itd d o ks,_,rfl,I3,vzZ (it:=g2.objs.size) d5 esz (λi k v e=>?_),⟨.none,.none,by rw[<- esz];exact Heap.get?_push_size _ rfl⟩,λb hb=>?_,m1,h1,rfl,g1,w1,?_⟩
  ·obtain⟨x,f1,f2,f3⟩:=b2 i k v e
   refine⟨entryOfKey (tupleKind (intKind P0 w0)) x,?_,by rw[<- f2];rfl,f3⟩
   rw[<- Array.getElem?_toList,d6,List.getElem?_map,f1];rfl
  ·have e:b=g2.objs.size:=by simpa using hb
   subst e
   exact L2.Inv.fpOk I2 (Nat.le_refl _) hit
  ·refine vzW e3 (λi dd m h H g w e=>?_) λi m H g hi=>⟨g.frz _ _ _ x1,by rw[List.length_map] at hi;omega⟩
   rw[List.getElem?_map,Option.map_eq_some_iff] at e
   obtain⟨p,ep',rfl⟩:=e
   obtain⟨k,v,c1,c2,c3⟩:=b3 i p ep'
   refine⟨⟨g.frz _ _ _ x1,(List.getElem?_eq_some_iff.mp c1).1⟩,λx H' ⟨q,k',v',y1,y2,y3,y4⟩=>?_⟩
   rw[c1] at y2;cases y2
   subst y3 y4
   have gt:=Gr.tupNew (K:=X.K) (m:=m) (o:=.tup [.ref k,v]) y1
   exact⟨gt,w.keepNew y1,.tup (.of jzy) (.cons (.tup (gt.tup _ _ (g.tup _ _ c2)) (RDs.ints p.1)) (.cons ((c3.mono g).mono gt) .nil))⟩
 ·cases e3
end
end Ng
end
section
namespace Ng
open PySem PySem.Spec PyProof.Rows L2
theorem ct_one(kx vx tg1 iter1:PySem.Expr)(scope:Scope)(pos:Pos)(it:Value)(Dn:Addr)(env:Env):compTurn (.DictComp kx vx [⟨tg1,iter1,[],0⟩] scope pos) 0 it (.ref Dn) env=
 turnOf tg1 iter1.pos it env (dEmit kx vx Dn env) (again (.compLoop (.DictComp kx vx [⟨tg1,iter1,[],0⟩] scope pos) 0 it (.ref Dn) env)):=by rfl
def tFb(fk fv:Ev->Hh->Rs D)(n0:Nat):Ev->Hh->Rs Ev:=λr h=>(fk r h).bind λy h=>(fv r h).bind λz h=>(dputN n0 y z h).bind λ_ h=>.ok r h
theorem frz_dtt{X:Cx}{pins:List (Addr×Obj)}{σ:Sg}{H:Hp}{s:Shared}{m:List Addr}{h:Hh}{n:Nat}{a:Addr}{l:List (List Int×D)}(I:Inv X pins σ H s)(w:Wd X.K m h H)(el:h[n]? =some (.dtt l))(ha:m[n]? =some a):
 ∃o:Obj,(∃u,H a=some u)/\Inv X pins σ (upd H a (.frz o (.own a))) s/\Gr X.K m H m (upd H a (.frz o (.own a)))/\Wd X.K m (h.set n (.dtf l)) (upd H a (.frz o (.own a))):=by
 obtain⟨xs,us,x1,x2,x3,x4,x5⟩:RO X.K m H a (.dtt l):=w.ob n _ a el ha
 obtain⟨d1,d2,P0,w0,o,es,ep,d3,d4,d5,d6,d7⟩:=Dtt.of I x1
 have I4:=xzm (a:=a) (ob:=.frz o (.own a)) (h':=s.heap) (t':=s.toks) I (by rw[x1];exact True.intro) ⟨rfl,λ_ _=>rfl⟩ ⟨o,d3⟩ ⟨d3,o,d3⟩
 obtain⟨w2,gg2⟩:=w.objSet (o':=.dtf l) (u:=.frz o (.own a)) el rfl ha λg=>⟨xs,us,o,es,ep,jzy,⟨d1,d2,d4,d5,⟨P0,w0,d6⟩,d7⟩,x2,λx hx=>g.tup _ _ (x3 x hx),x4.mono g,x5⟩
 exact⟨o,⟨_,x1⟩,I4,gg2,w2⟩
theorem zzO{H:Hp}{a b:Addr}(ha:∃u,H a=some u)(hb:H b=none):b≠a:=λz=>by
 obtain⟨u,hu⟩:=ha
 rw[z,hu] at hb;cases hb
section
variable {X:Cx}{pins:List (Addr×Obj)}{σ:Sg}{H:Hp}{s:Shared}
theorem dtt_set{A:Around}{E:Value->Shared->Prop}{Q:Unit->Shared->Prop}{m:List Addr}{h:Hh}(hu:A.units+1<cLine)(I:Inv X pins σ H s)(w:Wd X.K m h H){n:Nat}{a b:Addr}{l:List (List Int×D)}{k:List Int}{z:D}{vz:V}{uz:Value}(hn:h[n]? =some (.dtt l))(ha:m[n]? =some a)(hl:l.length<1000)
 (hb:SqT X.K H b (k.map V.int))(rz:RD X.K m H z vz)(sz:RelV vz uz)(c:∀s' H',Inv X pins σ H' s'->Gr X.K m H m H'->Wd X.K m (h.set n (.dtt (putT l k z))) H'->Q () s'):wpAny (model X.prog X.w) A (dictSet a (.ref b) uz) Q E s:=by
 obtain⟨xs,us,h1,h2,h3,h4,h5⟩:RO X.K m H a (.dtt l):=w.ob n _ a hn ha
 obtain⟨d1,d2,P0,w0,o,es,ep,d3,d4,d5,d6,d7⟩:=Dtt.of I h1
 have xl:l.length=xs.length:=by have:=congrArg List.length h2;simpa using this
 have dd:s.heap.DictOfH (tupleKind (intKind X.prog X.w)) a xs:=⟨o,es,ep,d3,d4,d5,d6.trans (by rw[vzJ P0 X.prog w0 X.w]),λx hx=>keyI I (h3 x hx),d7⟩
 refine wpAny_dictSet_heap (hsz:=by have:(1000:Nat)<=sizeLine:=by decide
                                    omega) (Nat.lt_of_succ_lt hu) (keyI I hb) dd λg dd' hs=>?_
 obtain⟨o',es',ep',e3,e4,e5,e6,_,e7⟩:=dd'
 have dn:Dtt a (storedH xs k b uz) g:=⟨d1,by have:=vz1 (xs:=xs) (k:=k) (b:=b) (u:=uz);omega,X.prog,X.w,o',es',ep',e3,e4,e5,e6,e7⟩
 obtain⟨us',f1,f2,f3,f4⟩:=putT_rel hb rz sz h2 h3 h4 h5
 obtain⟨w2,g2⟩:=w.objSet (o':=.dtt (putT l k z)) (u:=.ext (Dtt a (storedH xs k b uz))) hn rfl ha λg=>⟨storedH xs k b uz,us',jzy,f1,λx hx=>g.tup _ _ (f2 x hx),f3.mono g,f4⟩
 exact c _ _ (xzm I (by rw[h1];exact True.intro) hs ⟨o',e3⟩ (dtt_ok dn)) g2 w2
end
section
variable {Y:Cx}{kx vx:PySem.Expr}{fk fv:Ev->Hh->Rs D}{n0 acc:Nat}
theorem pb_dtt(hxe:Y.xe=nev)(hr:∃k,Room k Y.A)(pk:PE Y kx (TDE Y.K fk))(pvx:PE Y vx (TDE Y.K fv)):PB Y (dEmit kx vx acc Y.env) n0 acc (tFb fk fv n0):=by
 intro pins s σ H m r h r' h' I w st hm e Z E ag hag
 obtain⟨y,h1,e1,e⟩:=Rs.bind_ok e
 obtain⟨z,h2,e2,e⟩:=Rs.bind_ok e
 obtain⟨u,h3,e3,e⟩:=Rs.bind_ok e
 cases e
 have no:∀{E:Value->Shared->Prop}(e:Value)(s:Shared),nev e s->E e s:=λ_ _ f=>f.elim
 unfold dEmit
 have p1:=pk pins s σ H (λv H1=>∃m1,Gr Y.K m H m1 H1/\Wd Y.K m1 h1 H1/\RD Y.K m1 H1 y v) I ⟨m,r,h,y,h1,w,st,e1,λm' v H' g w' rv=>⟨m',g,w',rv⟩⟩
 rw[hxe] at p1
 refine wpAny_bind (wpAny_bind (wpAny_mono p1 (λkv s1 ⟨ky,H1,I1,rk,m1,g1,w1,rdk⟩=>?_) no))
 have p2:=pvx pins s1 σ H1 (λv H2=>∃m2,Gr Y.K m1 H1 m2 H2/\Wd Y.K m2 h2 H2/\RD Y.K m2 H2 z v) I1 ⟨m1,r,h1,z,h2,w1,st.mono g1,e2,λm' v H' g w' rv=>⟨m',g,w',rv⟩⟩
 rw[hxe] at p2
 refine wpAny_bind (wpAny_holding (wpAny_mono p2 (λvv s2 ⟨vy,H2,I2,rv,m2,g2,w2,rdv⟩=>?_) no))
 refine wpAny_bind (wpAny_standAt (wpAny_holding ?_))
 have hm2:=g2.pre _ _ (g1.pre _ _ hm)
 unfold dputN at e3
 split at e3<;>first |(cases e3;done)|skip
 rename_i l el
 unfold dputT at e3
 obtain⟨ds,rfl⟩:∃ds,y=.tup ds:=by cases y<;>first |exact⟨_,rfl⟩|(cases e3;done)
 have rdk2:=rdk.mono g2
 cases rdk2 with
 |tup hq q=>
  simp only at e3
  split at e3<;>first |(cases e3;done)|skip
  rename_i k ek
  split at e3<;>first |(cases e3;done)|skip
  rename_i hl
  cases e3
  cases rk
  have ev:=qzw q ek
  subst ev
  obtain⟨kk,hr⟩:=hr
  have hun:=hr.units
  exact dtt_set (by omega) I2 w2 el hm2 hl hq rdv rv λs' H' I' g' w'=>hag s' m2 σ H' I' ((g1.trans g2).trans g') w' (st.mono ((g1.trans g2).trans g'))
end
section
variable {X:Cx}{N':List Str}{scope:Scope}{cap:List Nat}{kx vx tg1 iter1:PySem.Expr}{pos:Pos}{t1:Tg}{fk fv:Ev->Hh->Rs D}
structure TBlk (Y:Cx)(K:PySem.W.Frag)(tg1 kx vx:PySem.Expr)(t1:Tg)(fk fv:Ev->Hh->Rs D):Prop where
 g1:PG Y tg1 (TDG K t1)
 rm:∃k,Room k Y.A
 k:PE Y kx (TDE K fk)
 v:PE Y vx (TDE K fv)
theorem dt_core{pins:List (Addr×Obj)}{σ:Sg}{H2:Hp}{s2:Shared}{fp:List Addr}{it a:Addr}{tn:Nat->Heap->Prop}{m2:List Addr}{h2 h':Hh}{r:Ev}{n k0:Nat}(S:ScOk scope X.env.scope)(hcap:cap.length<=N'.length)
 (hN:(N'.drop (N'.length-cap.length)).map some=cap.map (λ(i:Nat)=>X.N[i]?))(hfr:∀x∈N'.drop (N'.length-cap.length),scope.names.lookup x=some .free)(calm:X.calm=true)
 (blk:∀(C:Addr)(s3:Shared)(H3:Hp)(fp:List Addr),TBlk (blkX X N' scope C s3 H3 fp) X.K tg1 kx vx t1 fk fv)
 (I:Inv X pins σ H2 s2)(T:Turn X.prog X.w X.K tg1 (Itl X.K a) fp it tn)(st:tn 0 s2.heap)(fok:∀b∈fp,FpOk X pins H2 b)(w2:Wd X.K m2 h2 H2)(rst:RSt X.K m2 H2 r σ)(ha:m2[n]? =some a)
 (e:dtI t1 fk fv h2.length n k0 0 (blockE N' cap r) (h2++ [.dtt []])=.ok () h')
 {Rr:Value->Addr->Result->Shared->Prop}
 (c:∀(acc C:Addr)(s1:Shared)(H':Hp)(m':List Addr),Inv X pins σ H' s1->(∃mm,s1.heap.Ns C mm)->H' C=none->C≠X.env.locals->X.s₀.heap.objs.size<=C->(∀x a,X.env.cells.lookup x=some a->a≠C)->(∀p∈X.pn++pins,p.1≠C)->Gr X.K m2 H2 m' H'->Wd X.K m' h' H'->RD X.K m' H' (.ref h2.length) (.ref acc)->Rr (.ref acc) C (.ok .next) s1):
 wpAny (model X.prog X.w) X.A newDict (λacc s3=>wpAny (model X.prog X.w) X.A (newFunctionEnv scope X.env.globals (clOf scope X.env) [] X.env.qual none .none (some X.env)) (λcenv s4=>
  codeAny (model X.prog X.w) X.A (.compStart (.DictComp kx vx [⟨tg1,iter1,[],0⟩] scope pos) 0 (.ref it) acc {cenv with scope:=relabel scope X.env}) (Rr acc cenv.locals) s4) X.xe s3) X.xe s2:=by
 have fob:∀b∈fp,b<s2.heap.objs.size:=λb hb=>let⟨o,e,_⟩:=T.obj 0 _ st b hb;Heap.lt_size e
 have ffb:∀b∈fp,∀o,X.base.get? b≠some o:=λb hb o e=>by
  rcases(fok b hb).2.2.2.1 with z|z
  ·exact I.ok.noex b o e z
  ·exact absurd (Nat.lt_of_lt_of_le (Heap.lt_size (I.ok.bs b o e).1) z) (Nat.lt_irrefl _)
 have hacc0:H2 s2.heap.objs.size=none:=I.hok.fresh (Nat.le_refl _)
 refine wpAny_newObj_type (jzT (λh1 hns keep cok=>?_))
 dsimp only at hns keep cok⊢
 obtain⟨w3,g3⟩:=w2.objNew (o:=.dtt []) (u:=.ext (Dtt s2.heap.objs.size [])) hacc0 λ_=>⟨[],[],jzy,rfl,(λx hx=>by cases hx),.nil,.nil⟩
 have I3:Inv X pins σ (upd H2 s2.heap.objs.size (.ext (Dtt s2.heap.objs.size []))) {s2 with heap:=s2.heap.push {cls:=.type "dict",dict:=none,data:=.dict #[]}}:=
  I.laid (t':=s2.toks) (λb u e=>Heap.get?_push_of_some _ e) (Nat.le_refl _) (dtt_ok ⟨beq_eq_false_iff_ne.mpr (Ne.symm (Nat.ne_of_lt I.big)),Nat.zero_le _,X.prog,X.w,_, #[],_,Heap.get?_push_size _ rfl,⟨rfl,rfl,rfl⟩,rfl,rfl,List.nodup_nil⟩)
 have fok3:∀b∈fp,FpOk X pins (upd H2 s2.heap.objs.size (.ext (Dtt s2.heap.objs.size []))) b:=λb hb=>⟨by rw[jzl (Nat.ne_of_lt (fob b hb))];exact(fok b hb).1,(fok b hb).2⟩
 have st3:tn 0 h1:=T.keep _ _ _ st λb hb o e=>keep b o (Heap.get?_push_of_some _ e)
 have B:=bcs_ok (env:=X.env) S (λx c e=>let⟨_,q⟩:=I3.cell x c e;q.lt) cok
 have I4:=wz1 (N':=N') (scope:=scope) (fp:=fp) (cap:=cap) I3 S hcap hN hfr (h1:=h1) (tk:=s2.toks) hns keep B fok3 (λb hb=>by
  show b<(s2.heap.push _).objs.size
  rw[Heap.size_push];exact Nat.lt_succ_of_lt (fob b hb)) ffb
 have hsz:(s2.heap.push {cls:=.type "dict",dict:=none,data:=.dict #[]}).objs.size=s2.heap.objs.size+1:=Heap.size_push ..
 generalize hs3:({s2 with heap:=s2.heap.push {cls:=.type "dict",dict:=none,data:=.dict #[]}}:Shared)=s3 at I3 I4
 have eh3:s2.heap.push {cls:=.type "dict",dict:=none,data:=.dict #[]}=s3.heap:=by rw[<- hs3]
 rw[eh3] at hns keep cok B hsz⊢
 generalize hH3:upd H2 s2.heap.objs.size (.ext (Dtt s2.heap.objs.size []))=H3 at I3 I4 w3 g3 fok3
 have b:=blk s3.heap.objs.size s3 H3 fp
 have hac:(m2++ [s2.heap.objs.size])[h2.length]? =some s2.heap.objs.size:=by rw[<- w2.len];simp
 have stkN:∀b,b≠X.env.locals->b ∉ X.fs->b ∉ frs X.stack:=λb h1 h2 hb=>(List.mem_cons.mp (I3.stkSub b hb)).elim h1 h2
 have fokB:∀{H:Hp},(∀b∈fp,H b=none)->∀b∈fp,FpOk (blkX X N' scope s3.heap.objs.size s3 H3 fp) [] H b:=λhn b hb=>
  ⟨hn b hb,Nat.ne_of_lt (by rw[hsz];exact Nat.lt_succ_of_lt (fob b hb)),stkN b (fok b hb).2.1 (fok b hb).2.2.1,.inl hb,λx c e=>(B.inv x c e).elim (λa=>(fok b hb).2.2.2.2.1 x c (jzx a)) (λa=>Nat.ne_of_gt (Nat.lt_trans (by rw[hsz];exact Nat.lt_succ_of_lt (fob b hb)) a.1)),λp hp=>absurd (show p∈([]:List (Addr×Obj)) from hp) (by simp)⟩
 have loop:∀s4:Shared,s4={s3 with heap:=h1,toks:=s2.toks}->codeAny (model X.prog X.w) X.A (.compLoop (.DictComp kx vx [⟨tg1,iter1,[],0⟩] scope pos) 0 (.ref it) (.ref s2.heap.objs.size) (compEnvC scope (bcs scope X.env s3.heap.objs.size) s3.heap.objs.size X.env)) (Rr (.ref s2.heap.objs.size) s3.heap.objs.size) s4:=by
  rintro s4 rfl
  refine zzW (Y:=blkX X N' scope s3.heap.objs.size s3 H3 fp) (m2:=m2++ [s2.heap.objs.size]) (H2:=H3) (n0:=h2.length) (acc:=s2.heap.objs.size) (e:=.DictComp kx vx [⟨tg1,iter1,[],0⟩] scope pos) (pins:= []) (t:=t1) (End:=λ_ h=>h=h') rfl (ct_one ..) calm b.g1 rfl
   (pb_dtt rfl b.rm b.k b.v) T (λi k r h=>dtI t1 fk fv h2.length n k i r h=.ok () h') (λi k r h m H g w e=>?_) hac fokB I4 st3 (λb hb=>(fok3 b hb).1) .refl w3 (wzb (rst.mono g3)) e λs' σ' H' m' r' hh I1 g' w' st' eh=>?_
  ·cases k with
   |zero=>cases e
   |succ k=>
    simp only[dtI] at e
    split at e
    ·cases e
    ·rename_i l el
     obtain⟨a',vs,ha',hq,q⟩:=w.lst el
     rw[g.pre _ _ (g3.pre _ _ ha)] at ha';cases ha'
     split at e
     ·rename_i en
      cases e
      exact .inl ⟨⟨vs,hq,by rw[<- q.length];exact List.getElem?_eq_none_iff.mp en⟩,rfl⟩
     ·rename_i d ed
      obtain⟨v,hv,rv⟩:=q.get ed
      split at e
      ·cases e
      ·rename_i r1 er
       obtain⟨y,h5,ey,e⟩:=Rs.bind_ok e
       obtain⟨z,h6,ez,e⟩:=Rs.bind_ok e
       obtain⟨_,h7,e7,e⟩:=Rs.bind_ok e
       refine .inr ⟨⟨vs,v,hq,hv⟩,d,λx H' y=>?_,r1,er,r1,h7,?_,k,Nat.lt_succ_self _,e⟩
       ·obtain⟨eH,y⟩:=y
        have:=y vs hq
        rw[hv] at this;cases this
        exact⟨eH,rv⟩
       ·unfold tFb
        rw[ey]
        show((fv r1 h5).bind λz h=>(dputN h2.length y z h).bind λ_ h=>.ok r1 h)=_
        rw[ez]
        show((dputN h2.length y z h6).bind λ_ h=>.ok r1 h)=_
        rw[e7]
        rfl
  ·subst eh
   obtain⟨mm,hn1,_⟩:=id I1.loc
   obtain⟨hp1,gg,dr,tk,os⟩:=s'
   obtain rfl:os=s3.os:=I1.os
   have IX:Inv X pins σ H' {s3 with heap:=hp1,gens:=gg,drawn:=dr,toks:=tk}:=I3.call (ch:=fp) I1.base I1.hok I1.bare λb hb=>⟨(fok3 b hb).2.2.2.1,(fok3 b hb).2.1,(fok3 b hb).2.2.2.2.1,(fok3 b hb).2.2.2.2.2⟩
   exact c _ _ _ H' m' IX ⟨mm,hn1⟩ I1.free (Nat.ne_of_gt I3.lt) I3.sz (λx a e=>by
    obtain⟨v,q⟩:=I3.cell x a e
    exact Nat.ne_of_lt q.lt) (λp hp=>Nat.ne_of_lt (Heap.lt_size (I3.pin p hp).1)) (g3.trans g') w' (.ref (g'.pre _ _ hac))
 have es:({s2 with heap:=h1,toks:=s2.toks}:Shared)={s3 with heap:=h1,toks:=s2.toks}:=by subst hs3;rfl
 exact codeAny_compStart_dict (loop _ es) (T.self X.A 0 _ _ _ st3 (loop _ es))
theorem dt_it{N:List Str}{sc:Scope}{fo f:Ev->Hh->Rs D}{N'':List Str}{cp:List Nat}(hp:PE X iter1 (TDE X.K fo))(hf:∀r h,f r h=(fo r h).bind λx h=>dtL t1 fk fv x (blockE N'' cp r) h)
 (pins:List (Addr×Obj))(s:Shared)(σ:Sg)(H:Hp)(m:List Addr)(r:Ev)(h:Hh)(d:D)(h':Hh)(I:Inv X pins σ H s)(w:Wd X.K m h H)(st:RSt X.K m H r σ)(e:f r h=.ok d h'):
 ∃h1 n k0 h2,dtI t1 fk fv h1.length n k0 0 (blockE N'' cp r) (h1++ [.dtt []])=.ok () h2/\dtZ h1.length h2=.ok d h'/\wpAny (model X.prog X.w) X.A (eval iter1 X.env) (λv s1=>wpAny (model X.prog X.w) X.A (pyIter v)
  (PIE X pins σ tg1 λJ H2=>∃a m2,J=Itl X.K a/\Gr X.K m H m2 H2/\Wd X.K m2 h1 H2/\m2[n]? =some a) X.xe s1) X.xe s:=by
 rw[hf] at e
 obtain⟨x,h1,ex,e⟩:=Rs.bind_ok e
 unfold dtL at e
 split at e
 ·rename_i n
  split at e
  ·rename_i l el
   obtain⟨u,h2,e2,e⟩:=Rs.bind_ok e
   refine⟨h1,n,l.length+1,h2,e2,e,?_⟩
   refine vzb hp pins s σ H _ I ⟨m,r,h,_,_,w,st,ex,λm' v H' g w' rv=>?_⟩
   cases rv with
   |ref ha=>
    obtain⟨a',vs,ha',hq,_⟩:=w'.lst el
    rw[ha] at ha';cases ha'
    exact⟨_,rfl,⟨_,hq⟩,_,m',rfl,g,w',ha⟩
  ·cases e
 ·cases e
theorem dt_pe{N:List Str}{sc:Scope}{fo f:Ev->Hh->Rs D}(xo:XOk X N sc)(S:ScOk scope sc)(hcap:cap.length<=N'.length)(hN:(N'.drop (N'.length-cap.length)).map some=cap.map (λ(i:Nat)=>N[i]?))(hfr:∀x∈N'.drop (N'.length-cap.length),scope.names.lookup x=some .free)
 (blk:∀(C:Addr)(s3:Shared)(H3:Hp)(fp:List Addr),TBlk (blkX X N' scope C s3 H3 fp) X.K tg1 kx vx t1 fk fv)(hset:noSet iter1=true)(hp:PE X iter1 (TDE X.K fo))(hf:∀r h,f r h=(fo r h).bind λx h=>dtL t1 fk fv x (blockE N' cap r) h):
 PE X (.DictComp kx vx [⟨tg1,iter1,[],0⟩] scope pos) (TDE X.K f):=by
 intro pins s σ H Q I ⟨m,r,h,d,h',w,st,e,c⟩
 obtain⟨h1,n,k0,h2,e1,ez,hw⟩:=dt_it (N:=N) (sc:=sc) (tg1:=tg1) hp hf pins s σ H m r h d h' I w st e
 have S':ScOk scope X.env.scope:=by rw[xo.s];exact S
 show wpAny _ X.A (comprehension (.DictComp kx vx [⟨tg1,iter1,[],0⟩] scope pos) scope X.env _ newDict false (eval iter1 X.env)) _ _ s
 refine wpAny_comprehension_free (use:=none) rfl (λz=>by cases iter1<;>first |rfl|(cases hset;done)) (qzq λp hp e=>I.ok.has p.1 (.inl (S'.free p hp e))) S.kind S.loc ?_
 refine thn hw λv s1 q1=>thn q1 λitv s2 q2=>?_
 obtain⟨it,fp,tn,J,H2,rfl,I2,T,st2,fok,a,m2,rfl,g2,w2,ha⟩:=q2
 refine dt_core (Rr:=λacc C=>compPost (model X.prog X.w) X.A X.xe none (EP X pins σ Q) acc C) S' hcap (by rw[xo.n];exact hN) hfr xo.calm blk I2 T st2 fok w2 (st.mono g2) ha e1 λacc C s1 H' m' I1 ⟨mm,hn⟩ hC hL hz hc hp g' w' rv=>?_
 unfold dtZ at ez
 split at ez<;>first |(cases ez;done)|skip
 rename_i l el
 cases ez
 cases rv with
 |ref hm=>
  obtain⟨o,nC,IZ,gZ,wZ⟩:=frz_dtt I1 w' el hm
  exact⟨mm,hn,λhh hsb=>⟨.ref acc,_,IZ.turned (λb o hb e=>hsb.extBut b o hb e) (by rw[jzl (zzO nC hC)];exact hC) (Ne.symm (Ne.symm hL)) (.inr hz) hc hp,rfl,c m' _ _ ((g2.trans g').trans gZ) wZ (.ref hm)⟩⟩
end
section
variable {N:List Str}{sc:Scope}{G:Gs}
theorem dt_blk{t:Tg}{k v:E}{N':List Str}{cap:List Nat}{kx vx tg:PySem.Expr}{scope:Scope}(B:Blk N sc N' cap scope)(ht:chkT' N' scope t tg=true)(h_k:SE N' (relab scope sc) G k kx)(h_v:SE N' (relab scope sc) G v vx)
 {X:Cx}{ca:Nat->Addr}{cl:Cl}(xo:XOk X N sc)(go:GOk X G ca cl)(C:Addr)(s3:Shared)(H3:Hp)(fp:List Addr):TBlk (blkX X N' scope C s3 H3 fp) X.K tg kx vx t (ev G cl k) (ev G cl v):=
 ⟨pgT' (qzV xo B.nd C s3 H3 fp) (xzD (by rw[xo.s];exact B.S) C s3 H3 fp) ht,(qzV xo B.nd C s3 H3 fp).room,
  (h_k (qzV xo B.nd C s3 H3 fp) (vzS go C s3 H3 fp)).1,(h_v (qzV xo B.nd C s3 H3 fp) (vzS go C s3 H3 fp)).1⟩
theorem dE_dcT{t:Tg}{i k v:E}{N':List Str}{cap:List Nat}{kx vx tg iter:PySem.Expr}{scope:Scope}{pos:Pos}(B:Blk N sc N' cap scope)(ns:noSet iter=true)(ht:chkT' N' scope t tg=true)
 (h_i:SE N sc G i iter)(h_k:SE N' (relab scope sc) G k kx)(h_v:SE N' (relab scope sc) G v vx):SE N sc G (.dcT t i k v N' cap) (.DictComp kx vx [⟨tg,iter,[],0⟩] scope pos):=λ{X ca cl} xo go=>by
 have p:PE X (.DictComp kx vx [⟨tg,iter,[],0⟩] scope pos) (TDE X.K (ev G cl (.dcT t i k v N' cap))):=dt_pe xo B.S B.capL B.nN B.fr (dt_blk B ht h_k h_v xo go) ns (h_i xo go).1 λr h=>by rw[ev]
 exact⟨p,tOf p λ_=>rfl⟩
end
end Ng
end
section
namespace Ng
open PySem PySem.Spec PyProof.Rows L2
inductive Ir where
 |r1 (e:E)|r2 (a b:E)|sq (e:E)
inductive HB where
 |isx (k:Nat)|isv|and (a b:HB)|not (a:HB)
inductive HS where
 |bl (i:Nat) (b:HB)|cst (i:Nat) (d:Sum Bool Str)|ifc (b:HB) (i:Nat) (d:Sum Bool Str)
def HB.run(G:Gs)(c:Nat):HB->Option Bool
 |.isx k=>if(c,k)∈G.sub then some true else if(c,k)∈G.nsub then some false else none
 |.isv=>some true
 |.and a b=>match a.run G c with
  |some true=>b.run G c
  |some false=>some false
  |none=>none
 |.not a=>match a.run G c with
  |some v=>some (!v)
  |none=>none
def cstD:Sum Bool Str->D
 |.inl b=>.bl b
 |.inr x=>.str x
def hrun(G:Gs)(c:Nat):List HS->Ev->Option Ev
 | [],r=>some r
 |.bl i b::l,r=>match b.run G c with
  |some v=>hrun G c l (r.set i (some (.bl v)))
  |none=>none
 |.cst i d::l,r=>hrun G c l (r.set i (some (cstD d)))
 |.ifc b i d::l,r=>match b.run G c with
  |some true=>hrun G c l (r.set i (some (cstD d)))
  |some false=>hrun G c l r
  |none=>none
def clr:Option Nat->Ev->Ev
 |some j,r=>r.set j none
 |none,r=>r
mutual
inductive S where
 |rais (c:Nat) (x:Str)|asgX (t:Tg) (f:Nat) (l:Es)|retX (f:Nat) (l:Es)|exX (f:Nat) (l:Es)|tryx (b:Ss) (g:Nat) (j:Option Nat) (hs:List HS)
 |asg (t:Tg) (e:E)|asc (i:Nat) (e:E)|ex (e:E)|ret (e:E)|iff (c:E) (a b:Ss)|forr (t:Tg) (it:Ir) (b:Ss)|whl (c:E) (b:Ss)
 |pass|brk|cont|stx (o i e:E)|sfl (o:E) (cn f:Str) (e:E)|asgL (l:List Nat) (e:E)|exN (cn:Str) (f:Nat) (l:Es)|never
inductive Ss where
 |nil|cons (s:S) (r:Ss)
end
inductive Fl where
 |nx (r:Ev)|rt (d:D)|bk (r:Ev)|ct (r:Ev)
def forS(t:Tg)(body:Ev->Hh->Rs Fl):List D->Ev->Hh->Rs Fl
 | [],r,h=>.ok (.nx r) h
 |d::ds,r,h=>match setT t d r with
  |none=>.bad
  |some r1=>(body r1 h).bind λfl h=>match fl with
   |.nx r2=>forS t body ds r2 h
   |.ct r2=>forS t body ds r2 h
   |.bk r2=>.ok (.nx r2) h
   |.rt d=>.ok (.rt d) h
def forI(t:Tg)(body:Ev->Hh->Rs Fl)(n:Nat):Nat->Nat->Ev->Hh->Rs Fl
 |0,_,_,_=>.bad
 |k+1,i,r,h=>match lstAt h n with
  |none=>.bad
  |some l=>match l[i]? with
   |none=>.ok (.nx r) h
   |some d=>match setT t d r with
    |none=>.bad
    |some r1=>(body r1 h).bind λfl h=>match fl with
     |.nx r2=>forI t body n k (i+1) r2 h
     |.ct r2=>forI t body n k (i+1) r2 h
     |.bk r2=>.ok (.nx r2) h
     |.rt d=>.ok (.rt d) h
def whileF(c:Ev->Hh->Rs D)(body:Ev->Hh->Rs Fl):Nat->Ev->Hh->Rs Fl
 |0,_,_=>.bad
 |k+1,r,h=>(c r h).nx.bind λx h=>match truD x h with
  |none=>.bad
  |some false=>.ok (.nx r) h
  |some true=>(body r h).bind λfl h=>match fl with
   |.nx r2=>whileF c body k r2 h
   |.ct r2=>whileF c body k r2 h
   |.bk r2=>.ok (.nx r2) h
   |.rt d=>.ok (.rt d) h
def stxL(n:Nat)(l:List D)(y z:D)(h:Hh):Rs Unit:=match y with
 |.int k=>match ixN l.length k with
  |some j=>.ok () (h.set n (.lst (l.set j z)))
  |none=>.bad
 |_=>.bad
def stxD(x y z:D)(h:Hh):Rs Unit:=match x with
 |.ref n=>match h[n]? with
  |some (.lst l)=>stxL n l y z h
  |some (.dct _)=>dputD n y z h
  |some (.dtt l)=>dputT n l y z h
  |_=>.bad
 |_=>.bad
def forD(W:Nat)(t:Tg)(body:Ev->Hh->Rs Fl)(x:D)(r:Ev)(h:Hh):Rs Fl:=match x with
 |.tup l=>forS t body l r h
 |.ref n=>forI t body n W 0 r h
 |_=>.bad
def catchD(G:Gs)(g:Nat)(j:Option Nat)(hs:List HS):Rs Fl->Rs Fl
 |.exc c r h=>if(c,g)∈G.sub then(match hrun G c hs (clr j r) with
  |some r'=>.ok (.nx (clr j r')) h
  |none=>.bad) else .bad
 |o=>o
mutual
noncomputable def xs(G:Gs)(cl:Cl)(W:Nat):S->Ev->Hh->Rs Fl
 |.rais c _,r,h=>.exc c r h
 |.asgX t f l,r,h=>(evs G cl l r h).nx.bind λds h=>((cl f ds h).inn r).bind λx h=>match setT t x r with
  |some r1=>.ok (.nx r1) h
  |none=>.bad
 |.retX f l,r,h=>(evs G cl l r h).nx.bind λds h=>((cl f ds h).inn r).bind λx h=>.ok (.rt x) h
 |.exX f l,r,h=>(evs G cl l r h).nx.bind λds h=>((cl f ds h).inn r).bind λ_ h=>.ok (.nx r) h
 |.tryx b g j hs,r,h=>catchD G g j hs (xss G cl W b r h)
 |.asg t e,r,h=>(ev G cl e r h).nx.bind λx h=>match setT t x r with
  |some r1=>.ok (.nx r1) h
  |none=>.bad
 |.asc i e,r,h=>(ev G cl e r h).nx.bind λx h=>.ok (.nx (r.set i (some x))) h
 |.ex e,r,h=>(ev G cl e r h).nx.bind λ_ h=>.ok (.nx r) h
 |.ret e,r,h=>(ev G cl e r h).nx.bind λx h=>.ok (.rt x) h
 |.iff c a b,r,h=>(ev G cl c r h).nx.bind λx h=>match truD x h with
  |some true=>xss G cl W a r h
  |some false=>xss G cl W b r h
  |none=>.bad
 |.forr t (.r1 e) b,r,h=>(ev G cl e r h).nx.bind λx h=>match x with
  |.int j=>if okR j then forS t (xss G cl W b) (rngD 0 j) r h else .bad
  |_=>.bad
 |.forr t (.r2 e e') b,r,h=>(ev G cl e r h).nx.bind λx h=>(ev G cl e' r h).nx.bind λy h=>match x,y with
  |.int i,.int j=>if okR i/\okR j then forS t (xss G cl W b) (rngD i j) r h else .bad
  |_,_=>.bad
 |.forr t (.sq e) b,r,h=>(ev G cl e r h).nx.bind λx h=>forD W t (xss G cl W b) x r h
 |.whl c b,r,h=>whileF (ev G cl c) (xss G cl W b) W r h
 |.pass,r,h=>.ok (.nx r) h
 |.brk,r,h=>.ok (.bk r) h
 |.cont,r,h=>.ok (.ct r) h
 |.stx o i e,r,h=>(ev G cl e r h).nx.bind λz h=>(ev G cl o r h).nx.bind λx h=>(ev G cl i r h).nx.bind λy h=>(stxD x y z h).nx.bind λ_ h=>.ok (.nx r) h
 |.sfl o cn f e,r,h=>(ev G cl e r h).nx.bind λz h=>(ev G cl o r h).nx.bind λx h=>(satD cn x z f h).nx.bind λ_ h=>.ok (.nx r) h
 |.asgL l e,r,h=>(ev G cl e r h).nx.bind λx h=>match x with
  |.ref n=>(match lstAt h n with
   |some ds=>if ds.length=l.length then .ok (.nx (setAll l ds r)) h else .bad
   |none=>.bad)
  |_=>.bad
 |.exN cn f l,r,h=>(evs G cl l r h).nx.bind λds h=>((newD cn (cl f) ds h).inn r).bind λ_ h=>.ok (.nx r) h
 |.never,_,_=>.bad
noncomputable def xss(G:Gs)(cl:Cl)(W:Nat):Ss->Ev->Hh->Rs Fl
 |.nil,r,h=>.ok (.nx r) h
 |.cons s l,r,h=>(xs G cl W s r h).bind λfl h=>match fl with
  |.nx r2=>xss G cl W l r2 h
  |f=>.ok f h
end
def noComp:PySem.Expr->Bool
 |.ListComp _ _ _ _=>false
 |.SetComp _ _ _ _=>false
 |.DictComp _ _ _ _ _=>false
 |_=>true
def chkNs(N:List Str)(sc:Scope):List Nat->List PySem.Expr->Bool
 | [],[]=>true
 |i::is,.Name x _::es=>N[i]? ==some x&&locB sc x&&chkNs N sc is es
 |_,_=>false
def chkT(N:List Str)(sc:Scope):Tg->PySem.Expr->Bool
 |.nm i,.Name x _=>N[i]? ==some x&&locB sc x
 |.tp l,.Tuple es _ _=>chkNs N sc l es
 |_,_=>false
def chkJ(N:List Str)(sc:Scope):Option Nat->Option Str->Bool
 |none,none=>true
 |some j,some n=>N[j]? ==some n&&sc.names.lookup n==some .local
 |_,_=>false
mutual
def noRs:S->Bool
 |.rais _ _=>false
 |.iff _ a b=>noRss a&&noRss b
 |.forr _ _ b=>noRss b
 |.whl _ b=>noRss b
 |.tryx _ _ _ _=>false
 |_=>true
def noRss:Ss->Bool
 |.nil=>true
 |.cons s l=>noRs s&&noRss l
end
def FlOk(K:PySem.W.Frag)(m:List Addr)(H:Hp)(D:Ends):Fl->Prop
 |.nx r=>∀s,RSt K m H r s->D.nx s H
 |.rt d=>∀v,RD K m H d v->D.rt v H
 |.bk r=>∀s,RSt K m H r s->D.bk s H
 |.ct r=>∀s,RSt K m H r s->D.ct s H
abbrev Ws:=Nat->Sg->Hp->Prop
def OutS(K:PySem.W.Frag)(W:Ws)(m:List Addr)(H:Hp)(D:Ends):Rs Fl->Prop
 |.ok fl h'=>∀m' H',Gr K m H m' H'->Wd K m' h' H'->FlOk K m' H' D fl
 |.exc c r' h'=>∀m' H' s',Gr K m H m' H'->Wd K m' h' H'->RSt K m' H' r' s'->W c s' H'
 |.bad=>False
theorem OutS.mono{K:PySem.W.Frag}{W:Ws}{m m1:List Addr}{H H1:Hp}{D:Ends}(g:Gr K m H m1 H1):∀{o:Rs Fl},OutS K W m H D o->OutS K W m1 H1 D o
 |.ok _ _,q=>λm' H' g'=>q m' H' (g.trans g')
 |.exc _ _ _,q=>λm' H' s' g'=>q m' H' s' (g.trans g')
 |.bad,q=>q
def TDS(K:PySem.W.Frag)(W:Ws)(f:Ev->Hh->Rs Fl):TS:=λD s H=>∃m r h,Wd K m h H/\RSt K m H r s/\OutS K W m H D (f r h)
theorem _root_.L2.PS.wk{X:Cx}{e:PySem.Stmt}{t t':TS}(h:PS X e t)(i:∀D s H,t' D s H->t D s H):PS X e t':=λpins s σ H D I q=>h pins s σ H D I (i _ _ _ q)
theorem _root_.L2.PSs.wk{X:Cx}{e:List PySem.Stmt}{t t':TS}(h:PSs X e t)(i:∀D s H,t' D s H->t D s H):PSs X e t':=λpins s σ H D I q=>h pins s σ H D I (i _ _ _ q)
section
variable {X:Cx}{N:List Str}{sc:Scope}{G:Gs}{ca:Nat->Addr}{cl:Cl}
theorem vzO:∀{l:List Nat}{es:List PySem.Expr},chkNs N sc l es=true->l.length=es.length/\∀(j:Nat) i e,l[j]? =some i->es[j]? =some e->chkT N sc (.nm i) e=true
 | [],[],_=>⟨rfl,λj i e h=>by simp at h⟩
 |i::is,e::es,h=>by
  cases e<;>first |exact absurd (show false=true from h) Bool.false_ne_true|skip
  rename_i x pos
  have h':(N[i]? ==some x&&locB sc x&&chkNs N sc is es)=true:=h
  rw[Bool.and_eq_true] at h'
  obtain⟨i1,i2⟩:=vzO h'.2
  refine⟨by simp[i1],λj i' e' e1 e2=>?_⟩
  cases j with
  |zero=>
   simp at e1 e2
   subst e1;subst e2
   exact h'.1
  |succ j=>exact i2 j i' e' (by simpa using e1) (by simpa using e2)
 | [],_::_,h=>absurd (show false=true from h) Bool.false_ne_true
 |_::_,[],h=>absurd (show false=true from h) Bool.false_ne_true
theorem pgT(xo:XOk X N sc)(hfn:∀x,X.fn x=true){t:Tg}{tg:PySem.Expr}(h:chkT N sc t tg=true):PG X tg (TDG X.K t):=by
 refine pgT_of (λe i=>chkT N sc (.nm i) e) (λe i he=>?_) xo.calm ?_
 ·cases e<;>first |exact absurd (show false=true from he) Bool.false_ne_true|skip
  rename_i x pos
  have h':(N[i]? ==some x&&locB sc x)=true:=he
  simp only[Bool.and_eq_true,beq_iff_eq] at h'
  exact⟨x,pos,rfl,zzC xo.nd (by rw[xo.n];exact h'.1) (by rw[xo.s];exact qzl h'.2) (.inl (hfn x))⟩
 ·cases t with
  |nm i=>exact h
  |tp l=>
   cases tg<;>first |exact absurd (show false=true from h) Bool.false_ne_true|skip
   rename_i es k pos
   obtain⟨h1,h2⟩:=vzO (show chkNs N sc l es=true from h)
   exact⟨es,k,pos,rfl,h1,h2⟩
end
end Ng
end
section
namespace Ng
open PySem PySem.Spec PyProof.Rows L2
section
variable {prog:Program}{w:World}{A:Around}{E:Value->Shared->Prop}
end
section
variable {X:Cx}
end
end Ng
end
section
namespace Ng
open PySem PySem.Spec PyProof.Rows L2
section
variable {X:Cx}{N:List Str}{sc:Scope}{G:Gs}{cl:Cl}{W:Nat}{K:PySem.W.Frag}{Wx:Ws}
theorem OutS.nx{A:Type}{m:List Addr}{H:Hp}{Z:Ends}{a:Rs A}{k:A->Hh->Rs Fl}(q:OutS K Wx m H Z (a.nx.bind k)):∃d h1,a=.ok d h1/\OutS K Wx m H Z (k d h1):=by
 cases a with
 |ok d h1=>exact⟨d,h1,rfl,q⟩
 |exc c r h=>exact q.elim
 |bad=>exact q.elim
theorem OutS.body{Z:Ends}{m:List Addr}{H:Hp}{P:Sg->Hp->Prop}{o:Rs Fl}{next:Ev->Hh->Rs Fl}
 (e:OutS K Wx m H Z (o.bind λfl h=>match fl with
   |.nx r2=>next r2 h
   |.ct r2=>next r2 h
   |.bk r2=>.ok (.nx r2) h
   |.rt d=>.ok (.rt d) h))
 (hP:∀m' H' h' r s,Gr K m H m' H'->Wd K m' h' H'->RSt K m' H' r s->OutS K Wx m' H' Z (next r h')->P s H'):OutS K Wx m H {Z with nx:=P,ct:=P,bk:=Z.nx} o:=by
 cases o with
 |bad=>exact e
 |exc c r h=>exact e
 |ok fl h2=>
  intro m' H' g w
  have e':=OutS.mono g e
  cases fl with
  |nx r=>exact λs st=>hP m' H' h2 r s g w st e'
  |ct r=>exact λs st=>hP m' H' h2 r s g w st e'
  |bk r=>exact λs st=>e' m' H' .refl w s st
  |rt d=>exact λv rd=>e' m' H' .refl w v rd
theorem turnS{t:Tg}{body:Ev->Hh->Rs Fl}{Z:Ends}{d:D}{ds:List D}{P:Sg->Hp->Prop}{m1:List Addr}{r1:Ev}{h1:Hh}{s1:Sg}{H1:Hp}{v:V}
 (w:Wd K m1 h1 H1)(st:RSt K m1 H1 r1 s1)(rd:RD K m1 H1 d v)(e:OutS K Wx m1 H1 Z (forS t body (d::ds) r1 h1))
 (hP:∀m2 H2 r2 h2 s2,Gr K m1 H1 m2 H2->Wd K m2 h2 H2->RSt K m2 H2 r2 s2->OutS K Wx m2 H2 Z (forS t body ds r2 h2)->P s2 H2):
 TDG K t v s1 H1 λs2 H2=>TDS K Wx body {Z with nx:=P,ct:=P,bk:=Z.nx} s2 H2:=by
 simp only[forS] at e
 split at e
 ·exact e.elim
 ·rename_i r2 er
  exact⟨m1,h1,r1,d,r2,w,st,rd,er,λs2 st2=>⟨m1,r2,h1,w,st2,OutS.body (next:=forS t body ds) e λm' H' h' r s g w' st' e'=>hP m' H' r h' s g w' st' e'⟩⟩
theorem for_tupD{t:Tg}{body:Ev->Hh->Rs Fl}{Z:Ends}{m0:List Addr}{H0:Hp}{h0:Hh}{ds:List D}{vs:List V}{r0:Ev}{s0:Sg}{a:Addr}
 (w:Wd K m0 h0 H0)(st:RSt K m0 H0 r0 s0)(hq:SqT K H0 a vs)(q:RDs K m0 H0 ds vs)(e:OutS K Wx m0 H0 Z (forS t body ds r0 h0)):
 ∃Wv:Nat->Nat->Sg->Hp->Prop,(∃m,Wv 0 m s0 H0)/\∀i m s H,Wv i m s H->
  ((Itt K a).stop i H/\Z.nx s H)\/((Itt K a).go i H/\∃P:Sg->Hp->Prop,(∀s' H',P s' H'->∃m',m'<m/\Wv (i+1) m' s' H')/\∀x H',(Itt K a).yld i H x H'->TDG K t x s H' λs2 H2=>TDS K Wx body {Z with nx:=P,ct:=P,bk:=Z.nx} s2 H2):=by
 refine for_tup (K:=K) (a:=a) (xs:=vs) (λi s H=>∃m r h,Gr K m0 H0 m H/\Wd K m h H/\RSt K m H r s/\OutS K Wx m H Z (forS t body (ds.drop i) r h))
  ⟨m0,r0,h0,.refl,w,st,e⟩ (λi s H _ ⟨m,r,h,g,_⟩=>g.tup _ _ hq) ?_ ?_
 ·rintro i x s H hi ⟨m,r,h,g,w1,st1,e1⟩
  obtain⟨d,hd,rd⟩:=q.getV hi
  have ed:ds.drop i=d::ds.drop (i+1):=by
   obtain⟨hl,z⟩:=List.getElem?_eq_some_iff.mp hd
   rw[<- z];exact List.drop_eq_getElem_cons hl
  rw[ed] at e1
  exact turnS w1 st1 (rd.mono g) e1 λm2 H2 r2 h2 s2 g2 w2 st2 e2=>⟨m2,r2,h2,g.trans g2,w2,st2,e2⟩
 ·rintro s H ⟨m,r,h,g,w1,st1,e1⟩
  rw[<- q.length,List.drop_length] at e1
  exact e1 m H .refl w1 s st1
theorem for_rngD{t:Tg}{body:Ev->Hh->Rs Fl}{Z:Ends}{m0:List Addr}{H0:Hp}{h0:Hh}{lo hi:Int}{r0:Ev}{s0:Sg}
 (w:Wd K m0 h0 H0)(st:RSt K m0 H0 r0 s0)(e:OutS K Wx m0 H0 Z (forS t body (rngD lo hi) r0 h0)):
 ∃Wv:Nat->Nat->Sg->Hp->Prop,(∃m,Wv 0 m s0 H0)/\∀i m s H,Wv i m s H->
  ((Itr lo (hi-lo).toNat).stop i H/\Z.nx s H)\/((Itr lo (hi-lo).toNat).go i H/\∃P:Sg->Hp->Prop,(∀s' H',P s' H'->∃m',m'<m/\Wv (i+1) m' s' H')/\∀x H',(Itr lo (hi-lo).toNat).yld i H x H'->TDG K t x s H' λs2 H2=>TDS K Wx body {Z with nx:=P,ct:=P,bk:=Z.nx} s2 H2):=by
 refine zz7 (lo:=lo) (n:=(hi-lo).toNat) (λi s H=>∃m r h,Gr K m0 H0 m H/\Wd K m h H/\RSt K m H r s/\OutS K Wx m H Z (forS t body ((rngD lo hi).drop i) r h))
  ⟨m0,r0,h0,.refl,w,st,e⟩ ?_ ?_
 ·rintro i s H hi' ⟨m,r,h,g,w1,st1,e1⟩
  have hd:(rngD lo hi)[i]? =some (D.int (lo+i)):=by
   unfold rngD
   rw[List.getElem?_map,List.getElem?_range hi']
   rfl
  have ed:(rngD lo hi).drop i=D.int (lo+i)::(rngD lo hi).drop (i+1):=by
   obtain⟨hl,z⟩:=List.getElem?_eq_some_iff.mp hd
   rw[<- z];exact List.drop_eq_getElem_cons hl
  rw[ed] at e1
  exact turnS w1 st1 (.int _) e1 λm2 H2 r2 h2 s2 g2 w2 st2 e2=>⟨m2,r2,h2,g.trans g2,w2,st2,e2⟩
 ·rintro s H ⟨m,r,h,g,w1,st1,e1⟩
  have hl:(rngD lo hi).length=(hi-lo).toNat:=by unfold rngD;simp
  rw[<- hl,List.drop_length] at e1
  exact e1 m H .refl w1 s st1
theorem for_lstD{t:Tg}{body:Ev->Hh->Rs Fl}{Z:Ends}{m0:List Addr}{H0:Hp}{h0:Hh}{n:Nat}{r0:Ev}{s0:Sg}{a:Addr}
 (w:Wd K m0 h0 H0)(st:RSt K m0 H0 r0 s0)(ha:m0[n]? =some a)(e:OutS K Wx m0 H0 Z (forI t body n W 0 r0 h0)):
 ∃Wv:Nat->Nat->Sg->Hp->Prop,(∃m,Wv 0 m s0 H0)/\∀i m s H,Wv i m s H->
  ((Itl K a).stop i H/\Z.nx s H)\/((Itl K a).go i H/\∃P:Sg->Hp->Prop,(∀s' H',P s' H'->∃m',m'<m/\Wv (i+1) m' s' H')/\∀x H',(Itl K a).yld i H x H'->TDG K t x s H' λs2 H2=>TDS K Wx body {Z with nx:=P,ct:=P,bk:=Z.nx} s2 H2):=by
 refine⟨λi k s H=>∃m r h,Gr K m0 H0 m H/\Wd K m h H/\RSt K m H r s/\OutS K Wx m H Z (forI t body n k i r h),⟨W,m0,r0,h0,.refl,w,st,e⟩,?_⟩
 rintro i k s H ⟨m,r,h,g,w1,st1,e1⟩
 cases k with
 |zero=>exact e1.elim
 |succ k=>
  simp only[forI] at e1
  split at e1
  ·exact e1.elim
  ·rename_i l el
   obtain⟨a',vs,ha',hq,q⟩:=w1.lst el
   have:=g.pre _ _ ha
   rw[this] at ha';cases ha'
   split at e1
   ·rename_i en
    refine .inl ⟨⟨vs,hq,?_⟩,e1 m H .refl w1 s st1⟩
    rw[<- q.length];exact List.getElem?_eq_none_iff.mp en
   ·rename_i d ed
    obtain⟨v,hv,rd⟩:=q.get ed
    refine .inr ⟨⟨vs,v,hq,hv⟩,λs' H'=>∃m r h,Gr K m0 H0 m H'/\Wd K m h H'/\RSt K m H' r s'/\OutS K Wx m H' Z (forI t body n k (i+1) r h),λs' H' p=>⟨k,Nat.lt_succ_self _,p⟩,λx H' y=>?_⟩
    obtain⟨rfl,y⟩:=y
    have hx:=y vs hq
    rw[hv] at hx;cases hx
    split at e1
    ·exact e1.elim
    ·rename_i r2 er
     exact⟨m,h,r,d,r2,w1,st1,rd,er,λs2 st2=>⟨m,r2,h,w1,st2,OutS.body (next:=forI t body n k (i+1)) e1 λm' H' h' r s g' w' st' e'=>⟨m',r,h',g.trans g',w',st',e'⟩⟩⟩
theorem whileD{f:Ev->Hh->Rs D}{body:Ev->Hh->Rs Fl}{Z:Ends}{m0:List Addr}{H0:Hp}{h0:Hh}{r0:Ev}{s0:Sg}
 (w:Wd K m0 h0 H0)(st:RSt K m0 H0 r0 s0)(e:OutS K Wx m0 H0 Z (whileF f body W r0 h0)):tWhile (TDT K f) (TDS K Wx body) Z s0 H0:=by
 refine⟨λk s H=>∃m r h,Gr K m0 H0 m H/\Wd K m h H/\RSt K m H r s/\OutS K Wx m H Z (whileF f body k r h),⟨W,m0,r0,h0,.refl,w,st,e⟩,?_⟩
 rintro k s H ⟨m,r,h,g,w1,st1,e1⟩
 cases k with
 |zero=>exact e1.elim
 |succ k=>
  simp only[whileF] at e1
  obtain⟨x,h1,ex,e1⟩:=e1.nx
  split at e1
  ·exact e1.elim
  ·rename_i et
   exact⟨m,r,h,x,h1,false,w1,st1,ex,et,λm' H' g' w'=>iteF (e1 m' H' g' w' s (st1.mono g'))⟩
  ·rename_i et
   exact⟨m,r,h,x,h1,true,w1,st1,ex,et,λm' H' g' w'=>iteT ⟨λs' H'=>∃m r h,Gr K m0 H0 m H'/\Wd K m h H'/\RSt K m H' r s'/\OutS K Wx m H' Z (whileF f body k r h),λs' H' p=>⟨k,Nat.lt_succ_self _,p⟩,
    m',r,h1,w',st1.mono g',OutS.body (next:=whileF f body k) (e1.mono g') λm3 H3 h3 r s g3 w3 st' e'=>⟨m3,r,h3,(g.trans g').trans g3,w3,st',e'⟩⟩⟩
end
end Ng
end
section
namespace Ng
open PySem PySem.Spec PyProof.Rows L2
theorem own1{K:PySem.W.Frag}{hp:Heap}{C:Addr}{bmB:List Value}{nid:String}(KX:K.In hp)(hq0:PySem.W.excIn K C bmB nid=true):
 ∃bm N nm qn bs hdct sn sub ab col dd k0 k1 k2 k3 k5 mN,hp.get? C=some (excClassObj nm qn C N bs bm hdct sn sub ab col dd k0 k1 k2 k3 k5 nid)/\hp.Ns N mN/\mN "__init__"=none/\OwnTail hp bmB bm:=by
 unfold PySem.W.excIn at hq0
 split at hq0
 ·rename_i dd cdt slots hob
  split at hq0
  ·rename_i C0 bm k0 k1 k2 k3 n0 k5 hmro hsl
   simp only[Bool.and_eq_true,beq_iff_eq,Bool.not_eq_true'] at hq0
   obtain⟨⟨⟨⟨⟨eC,en⟩,edel⟩,etl⟩,ens⟩,eni⟩:=hq0
   subst eC;subst en
   obtain⟨nm,bs,mro,ns,qn,hd,sn,sub,ab,col,del⟩:=cdt
   dsimp only at hmro edel ens eni
   subst hmro;subst edel
   obtain⟨sl⟩:=slots
   simp only at hsl
   subst hsl
   exact⟨bm,ns,nm,qn,bs,hd,sn,sub,ab,col,dd,k0,k1,k2,k3,k5,_,KX _ _ hob,.of_isNs (PySem.W.isNs_of_in KX ens),PySem.W.nsMap_none_of_in KX ens eni,PySem.W.tail_of_in KX etl⟩
  ·cases hq0
 ·cases hq0
section
variable {X:Cx}{ca:Nat->Addr}{Wx:Ws}
theorem ps_raise{c:Nat}{y z:Str}{np cp0 cp pos:Pos}{j:Nat}(xx:XX X ca Wx true)(calm:X.calm=true)(hg:Gl X y)(hm:X.mg y=some (.ref (ca c)))(ef:ExcF X.K (ca c))(hd:(y==("__debug__":Str))=false):
 PS X (.Raise (some (.Call (.Name y np) [.Constant (.str z) j cp0] [] cp)) none pos) (λ_ σ H=>Wx c σ H):=by
 intro pins s σ H D I hW
 obtain⟨bm,N,nm,qn,bs,hdct,sn,sub,ab,col,dd,k0,k1,k2,k3,k5,mN,hC,hN,hni,TL⟩:=own1 I.ok.mod.kin ef.own
 refine wpAny_Raise_call_subT (C:=ca c) (nm:=nm) (q:=qn) (N:=N) (bs:=bs) (bm:=bm) (hdct:=hdct) (sn:=sn) (sub:=sub) (ab:=ab) (col:=col) (dd:=dd) (k0:=k0) (k1:=k1) (k2:=k2) (k3:=k3) (k5:=k5) (mN:=mN) PySem.F.excBase_ValueError
  (TL.hasType PySem.F.excBase_ValueError.hasBase) (I.ok.hd calm) rfl hni (qzI I hg hm ⟨rfl,?_⟩ hd)
 have hA:PA X [.Constant (.str z) j cp0] (tCons (tC (.str z)) tNil):=jz1 vzy qzC
 refine Calls.evalArgs_plain (thn (hA cp pins s σ H (λvs H1=>vs=[.str z]/\Wx c σ H1) I ⟨rfl,hW⟩) λus s2 ⟨vs,H2,I2,r2,ev,q⟩=>?_)
 subst ev
 refine⟨rfl,?_,I2.bk _ _ hC,hN.keeps I2.bk,TL.keeps I2.bk,λh' e hx=>xx.made rfl pins σ H2 s2 h' e c us I2 hx q⟩
 rw[<- r2.length]
 show 1<=sizeLine
 rw[sizeLine_eq];decide
end
def TXC(K:PySem.W.Frag)(Wx:Ws)(f:Ev->Hh->Rs D):TE:=λs H Q=>∃m r h,Wd K m h H/\RSt K m H r s/\(match f r h with
 |.ok d h'=>∀m' v H',Gr K m H m' H'->Wd K m' h' H'->RD K m' H' d v->Q v H'
 |.exc c _ h'=>∀m' H',Gr K m H m' H'->Wd K m' h' H'->Wx c s H'
 |.bad=>False)
section
variable {X:Cx}{N:List Str}{sc:Scope}{G:Gs}{ca:Nat->Addr}{cl:Cl}{Wx:Ws}{rz:Bool}
theorem vzz(xo:XOk X N sc)(go:GOk X G ca cl)(hfn:∀x,X.fn x=true)(xx:XX X ca Wx rz){f:Nat}{l:Es}{y:Str}{np pos:Pos}{e:PySem.Expr}{es:List PySem.Expr}(h1:G.fns[f]? =some y)(h2:glB sc y=true)(h3:noDbg y=true)(h_l:SAs N sc G l (e::es)):
 PE X (.Call (.Name y np) (e::es) [] pos) (TXC X.K Wx λr h=>(evs G cl l r h).nx.bind λds h=>cl f ds h):=by
 obtain⟨d1,d2,d3⟩:=jzL h3
 obtain⟨fa,fd,ps,k,F,hr,hm,hk,hb,hlen⟩:=go.fn f y h1
 have hns:=h_l.1
 rw[List.all_cons,Bool.and_eq_true] at hns
 intro pins s σ H Q I ⟨m,r,h,w,st,o⟩
 cases he:evs G cl l r h with
 |bad=>simp only[he] at o;exact o.elim
 |exc c rr hh=>simp only[he] at o;exact o.elim
 |ok ds hh=>
  simp only[he] at o
  refine wpAny_Call_Name_kw (qzI I (jzV xo h2) hm ?_ d1)
  refine PySem.W.callWith_K (h₀:=X.base) I.ok.mod.kin hk (thn (h_l.2 xo go pos pins s σ H (λvs H1=>∃m1,Gr X.K m H m1 H1/\Wd X.K m1 hh H1/\RDs X.K m1 H1 ds vs) I ⟨m,r,h,ds,hh,w,st,he,λm' vs H' g w' rd=>⟨m',g,w',rd⟩⟩) λus s1 ⟨vs,H1,I1,r1,m1,g1,w1,rd1⟩=>⟨I1.kIn,?_⟩) (jzw es hns.1) (jz9 pos hns.2)
  have hsp:spD X.K ca (cl f) ps.length vs H1 Q (λv oa H'=>∃c,oa=some (ca c)/\Wx c σ H'):=by
   have hne:cl f ds hh≠ .bad:=λz=>by
    have o':(match cl f ds hh with|.ok d h'=>∀m' v H',Gr X.K m H m' H'->Wd X.K m' h' H'->RD X.K m' H' d v->Q v H'|.exc c _ h'=>∀m' H',Gr X.K m H m' H'->Wd X.K m' h' H'->Wx c σ H'|.bad=>False):=o
    rw[z] at o'
    exact o'
   refine⟨by rw[<- rd1.length];exact hlen _ _ hne,m1,hh,ds,w1,rd1,?_⟩
   have o':(match cl f ds hh with|.ok d h'=>∀m' v H',Gr X.K m H m' H'->Wd X.K m' h' H'->RD X.K m' H' d v->Q v H'|.exc c _ h'=>∀m' H',Gr X.K m H m' H'->Wd X.K m' h' H'->Wx c σ H'|.bad=>False):=o
   cases hc:cl f ds hh with
   |ok d h'=>
    rw[hc] at o'
    exact λm' v H' g=>o' m' v H' (g1.trans g)
   |exc c rr h'=>
    rw[hc] at o'
    exact λm' H' v g w'=>⟨c,rfl,o' m' H' (g1.trans g) w'⟩
   |bad=>exact hne hc
  have hl:us.length=ps.length:=by rw[<- r1.length];exact F.len _ _ _ _ hsp
  have hbd:BindsTo s1 fd ⟨us,[]⟩ (ps.zip us):=by
   have:=hb s1 us I1.kIn (by simpa using hl)
   simpa using this
  refine wpAny_call (codeAny_mono (F.run X.A X.stack s1 H1 ⟨us,[]⟩ us vs Q _ hr I1.env0 hbd r1 hsp) λres s' hq=>?_)
  cases res with
  |error ev=>
   have hq':CX1 X.prog X.w X.stack H1 s1 (λv oa H'=>∃c,oa=some (ca c)/\Wx c σ H') ev s':=hq
   obtain⟨H',ea,C,rfl,I',⟨B,FX⟩,c,hC,hW⟩:=arrive I1 xx.ex hfn hq'
   cases hC
   exact xx.fly pins σ H' s' ea c I' ⟨B,FX⟩ hW
  |ok fl=>
   cases fl with
   |ret u=>exact I1.after hq
   |next=>exact False.elim hq
   |brk=>exact False.elim hq
   |cont=>exact False.elim hq
theorem TDS.oneX{K:PySem.W.Frag}{fa:Ev->Hh->Rs D}{f:Ev->Hh->Rs Fl}{k:Ev->D->Hh->Rs Fl}{s:Sg}{H:Hp}{Z:Ends}{R:VK}(hf:∀r h,f r h=((fa r h).inn r).bind (k r))(q:TDS K Wx f Z s H)
 (c:∀(m2:List Addr)(r:Ev)(h2:Hh)(H2:Hp)(dx:D)(x:V),Wd K m2 h2 H2->RSt K m2 H2 r s->RD K m2 H2 dx x->OutS K Wx m2 H2 Z (k r dx h2)->R x H2):TXC K Wx fa s H R:=by
 obtain⟨m,r,h,w,st,o⟩:=q
 rw[hf] at o
 refine⟨m,r,h,w,st,?_⟩
 cases he:fa r h with
 |bad=>rw[he] at o;exact o
 |exc c' rr hh=>
  rw[he] at o
  exact λm' H' g w'=>o m' H' s g w' (st.mono g)
 |ok dx hh=>
  rw[he] at o
  exact λm' v H' g w' rd=>c m' r hh H' dx v w' (st.mono g) rd (OutS.mono g o)
theorem TDS.one{K:PySem.W.Frag}{fa:Ev->Hh->Rs D}{f:Ev->Hh->Rs Fl}{k:Ev->D->Hh->Rs Fl}{s:Sg}{H:Hp}{Z:Ends}{R:VK}(hf:∀r h,f r h=(fa r h).nx.bind (k r))(q:TDS K Wx f Z s H)
 (c:∀(m2:List Addr)(r:Ev)(h2:Hh)(H2:Hp)(dx:D)(x:V),Wd K m2 h2 H2->RSt K m2 H2 r s->RD K m2 H2 dx x->OutS K Wx m2 H2 Z (k r dx h2)->R x H2):TDE K fa s H R:=by
 obtain⟨m,r,h,w,st,o⟩:=q
 rw[hf] at o
 obtain⟨dx,h1,e1,o⟩:=o.nx
 exact⟨m,r,h,dx,h1,w,st,e1,λm1 x H1 g1 w1 rx=>c m1 r h1 H1 dx x w1 (st.mono g1) rx (o.mono g1)⟩
end
section
variable {X:Cx}{N:List Str}{sc:Scope}{G:Gs}{ca:Nat->Addr}{cl:Cl}{e:Addr}{oe:Obj}{c:Nat}
def hslot(N:List Str)(e:Addr)(n:Option Str)(σ:Sg):Prop:=∀x,n=some x->∃j:Nat,N[j]? =some x/\σ[j]? =some (some (.ref e))
def cstV:Sum Bool Str->V
 |.inl b=>.bl b
 |.inr x=>.str x
def hrunS(G:Gs)(c:Nat):List HS->Sg->Option Sg
 | [],r=>some r
 |.bl i b::l,r=>match b.run G c with
  |some v=>hrunS G c l (r.set i (some (.bl v)))
  |none=>none
 |.cst i d::l,r=>hrunS G c l (r.set i (some (cstV d)))
 |.ifc b i d::l,r=>match b.run G c with
  |some true=>hrunS G c l (r.set i (some (cstV d)))
  |some false=>hrunS G c l r
  |none=>none
theorem jz5{K:PySem.W.Frag}{m:List Addr}{H:Hp}{G:Gs}:∀{hs:List HS}{r r':Ev}{σ:Sg},hrun G c hs r=some r'->RSt K m H r σ->∃σ',hrunS G c hs σ=some σ'/\RSt K m H r' σ'
 | [],r,r',σ,h,st=>by cases h;exact⟨σ,rfl,st⟩
 |.bl i b::l,r,r',σ,h,st=>by
  simp only[hrun] at h
  split at h
  ·rename_i v ev
   obtain⟨σ',e1,e2⟩:=jz5 h (st.set i (.bl v))
   exact⟨σ',by simp only[hrunS,ev];exact e1,e2⟩
  ·cases h
 |.cst i d::l,r,r',σ,h,st=>by
  have rd:RD K m H (cstD d) (cstV d):=by cases d<;>constructor
  obtain⟨σ',e1,e2⟩:=jz5 (show hrun G c l (r.set i (some (cstD d)))=some r' from h) (st.set i rd)
  exact⟨σ',e1,e2⟩
 |.ifc b i d::l,r,r',σ,h,st=>by
  have rd:RD K m H (cstD d) (cstV d):=by cases d<;>constructor
  simp only[hrun] at h
  split at h
  ·rename_i ev
   obtain⟨σ',e1,e2⟩:=jz5 h (st.set i rd)
   exact⟨σ',by simp only[hrunS,ev];exact e1,e2⟩
  ·rename_i ev
   obtain⟨σ',e1,e2⟩:=jz5 h st
   exact⟨σ',by simp only[hrunS,ev];exact e1,e2⟩
  ·cases h
theorem isx_call(go:GOk X G ca cl)(hc:oe.cls=.ref (ca c)):CallR (hX X e oe) (.builtin "isinstance") (λxs H Q=>∃t bv,xs=[.ref e,t]/\((∃k,t=.ref (ca k)/\PySem.W.kitOne X.K (.ref (ca c)) (.ref (ca k))=some bv/\(bv=true\/ExcN X.K (ca c)))\/(t=.ty "ValueError"/\ExcF X.K (ca c)/\bv=true))/\Q (.bl bv) H):=by
 intro pins s σ H xs us Q I r ⟨t,bv,ex,ht,q⟩
 subst ex
 obtain⟨u1,u2,rfl,r1,r2⟩:=vals2R r
 cases r1
 have pin:=I.pin (e,oe) (List.mem_append_left _ List.mem_cons_self)
 have LT:PySem.W.Looks (model (hX X e oe).prog (hX X e oe).w) s.heap (typeOf (.ref e)) (.ref (ca c)):=hc ▸ (PySem.W.Looks.ld pin.1).andThen .now
 have kit:PySem.W.kitOne X.K (.ref (ca c)) u2=some bv:=by
  rcases ht with ⟨k,rfl,hk,_⟩|⟨rfl,ef,rfl⟩
  ·cases r2
   exact hk
  ·cases r2
   exact ef.val
 have ok:bv=true\/ExcN X.K (ca c):=by
  rcases ht with ⟨k,_,_,z⟩|⟨_,_,z⟩
  ·exact z
  ·exact .inl z
 rcases ok with rfl|n
 ·exact kip LT I.kIn kit (λz=>nomatch z) ⟨.bl true,H,I,rfl,q⟩
 ·exact PySem.W.kia_one (kitx_exc n) I.kIn ⟨pin.1,hc⟩ kit (λz=>nomatch z) λtk=>⟨.bl bv,H,I.tok _,rfl,q⟩
inductive HBt (sc:Scope) (G:Gs) (n:Option Str):HB->PySem.Expr->Prop
 |isx {k:Nat} {x y:Str} {fp xp yp pos:Pos} (h:(glB sc "isinstance"&&n==some x&&noDbg x&&G.excs[k]? ==some y&&glB sc y&&noDbg y)=true):HBt sc G n (.isx k) (.Call (.Name "isinstance" fp) [.Name x xp,.Name y yp] [] pos)
 |isv {x:Str} {fp xp yp pos:Pos} (h:(glB sc "isinstance"&&n==some x&&noDbg x&&glB sc "ValueError")=true):HBt sc G n .isv (.Call (.Name "isinstance" fp) [.Name x xp,.Name "ValueError" yp] [] pos)
 |and {a b:HB} {x v:PySem.Expr} {vs:List PySem.Expr} {pos:Pos} (h1:HBt sc G n a x) (h2:HBt sc G n b (.BoolOp .And (v::vs) pos)):HBt sc G n (.and a b) (.BoolOp .And (x::v::vs) pos)
 |one {a:HB} {x:PySem.Expr} {pos:Pos} (h1:HBt sc G n a x):HBt sc G n a (.BoolOp .And [x] pos)
 |not {a:HB} {x:PySem.Expr} {pos:Pos} (h1:HBt sc G n a x):HBt sc G n (.not a) (.UnaryOp .Not x pos)
theorem pe_hb(xo:XOk X N sc)(go:GOk X G ca cl)(hc:oe.cls=.ref (ca c))(ef:ExcF X.K (ca c)){n:Option Str}(hn:∀x,n=some x->sc.names.lookup x=some .local):∀(b:HB)(v:PySem.Expr),HBt sc G n b v->
 PE (hX X e oe) v (λσ H Q=>hslot N e n σ/\∃bv,b.run G c=some bv/\Q (.bl bv) H)/\PT (hX X e oe) v (λσ H Q=>hslot N e n σ/\∃bv,b.run G c=some bv/\Q bv H):=by
 have hgl:∀{x:Str},glB sc x=true->Gl (hX X e oe) x:=λh=>jzV xo h
 have isi:(("isinstance":Str)==("__debug__":Str))=false:=by decide+kernel
 have isn:("isinstance":Str)≠"__name__":=by decide+kernel
 have common:∀{x y:Str}{fp xp yp pos:Pos}{t:V},glB sc "isinstance"=true->n=some x->noDbg x=true->PE (hX X e oe) (.Name y yp) (tC t)->PE (hX X e oe) (.Call (.Name "isinstance" fp) [.Name x xp,.Name y yp] [] pos)
  (λσ H Q=>hslot N e n σ/\∃bv,((∃k,t=.ref (ca k)/\PySem.W.kitOne X.K (.ref (ca c)) (.ref (ca k))=some bv/\(bv=true\/ExcN X.K (ca c)))\/(t=.ty "ValueError"/\ExcF X.K (ca c)/\bv=true))/\Q (.bl bv) H):=λ{x y fp xp yp pos t} hgi hx hdx hy=>by
  intro pins s σ H Q I ⟨hs,bv,ht,q⟩
  obtain⟨j,hj,hσ⟩:=hs x hx
  obtain⟨d1,d2,d3⟩:=jzL hdx
  have px:PE (hX X e oe) (.Name x xp) (tVar j):=pv (X:=hX X e oe) j (by show X.N[j]? =some x;rw[xo.n];exact hj) (.inl (by show X.env.scope.names.lookup x=_;rw[xo.s];exact hn x hx)) d1 d2
  have hA:PA (hX X e oe) [.Name x xp,.Name y yp] (tCons (tVar j) (tCons (tC t) tNil)):=jz1 px (jz1 hy qzC)
  have p:=vzA (X:=hX X e oe) (p:=fp) (pos:=pos) (isx_call (e:=e) go hc) (hgl hgi) (go.blt .isinst) (vzR .isinst) hA isn isi
  exact p pins s σ H Q I ⟨.ref e,hσ,t,bv,rfl,ht,q⟩
 have both:∀{b:HB}{v:PySem.Expr},PE (hX X e oe) v (λσ H Q=>hslot N e n σ/\∃bv,b.run G c=some bv/\Q (.bl bv) H)->(∀whole,isTrue v (hX X e oe).env whole=(do let u <- whole;standAt v.pos;holding [u] (truthy u)))->PE (hX X e oe) v (λσ H Q=>hslot N e n σ/\∃bv,b.run G c=some bv/\Q (.bl bv) H)/\PT (hX X e oe) v (λσ H Q=>hslot N e n σ/\∃bv,b.run G c=some bv/\Q bv H):=λp he=>⟨p,(vzw p he).wk λσ H Q ⟨hs,bv,ev,q⟩=>⟨hs,bv,ev,bv,rfl,q⟩⟩
 intro b v hb
 induction hb with
 | @isx k x y fp xp yp pos h'=>
   simp only[Bool.and_eq_true,beq_iff_eq] at h'
   obtain⟨⟨⟨⟨⟨h2,h3⟩,h4⟩,h5⟩,h6⟩,h7⟩:=h'
   obtain⟨hm,_⟩:=go.exc k y h5
   obtain⟨d1,d2,d3⟩:=jzL h7
   have py:PE (hX X e oe) (.Name y yp) (tC (.ref (ca k))):=zzF (X:=hX X e oe) (hgl h6) hm rfl d1
   refine both ((common (t:=.ref (ca k)) h2 h3 h4 py).wk λσ H Q ⟨hs,bv,ev,q⟩=>?_) λ_=>rfl
   simp only[HB.run] at ev
   split at ev
   ·rename_i hk
    cases ev
    exact⟨hs,true,.inl ⟨k,rfl,(go.sub _ hk).2.1,.inl rfl⟩,q⟩
   ·split at ev
    ·rename_i hk
     cases ev
     exact⟨hs,false,.inl ⟨k,rfl,(go.nsub _ hk).1,.inr (go.nsub _ hk).2⟩,q⟩
    ·cases ev
 | @isv x fp xp yp pos h'=>
   simp only[Bool.and_eq_true,beq_iff_eq] at h'
   obtain⟨⟨⟨h2,h3⟩,h4⟩,h6⟩:=h'
   have py:PE (hX X e oe) (.Name "ValueError" yp) (tC (.ty "ValueError")):=zzH (X:=hX X e oe) (hgl h6) go.verr (by decide+kernel) rfl
   refine both ((common (t:=.ty "ValueError") h2 h3 h4 py).wk λσ H Q ⟨hs,bv,ev,q⟩=>?_) λ_=>rfl
   cases ev
   exact⟨hs,true,.inr ⟨rfl,ef,rfl⟩,q⟩
 | @and a b x v vs pos h1 h2 iha ihb=>
   refine⟨(zzI iha.1 ihb.1).wk λσ H Q ⟨hs,bv,ev,q⟩=>?_,(pw_and iha.2 (pw_of ihb.2)).pt.wk λσ H Q ⟨hs,bv,ev,q⟩=>?_⟩
   ·simp only[HB.run] at ev
    split at ev
    ·rename_i e1
     exact⟨hs,true,e1,true,rfl,iteT ⟨hs,_,ev,q⟩⟩
    ·rename_i e1
     cases ev
     exact⟨hs,false,e1,false,rfl,iteF q⟩
    ·cases ev
   ·simp only[HB.run] at ev
    split at ev
    ·rename_i e1
     exact⟨hs,true,e1,iteT ⟨hs,_,ev,q⟩⟩
    ·rename_i e1
     cases ev
     exact⟨hs,false,e1,iteF q⟩
    ·cases ev
 | @one a x pos h1 iha=>exact⟨zzD iha.1,(zzz iha.2).pt⟩
 | @not a x pos h1 iha=>
   refine⟨(zzE iha.1).wk λσ H Q ⟨hs,bv,ev,q⟩=>?_,(pt_not iha.2).wk λσ H Q ⟨hs,bv,ev,q⟩=>?_⟩
   ·simp only[HB.run] at ev
    split at ev
    ·rename_i v e1
     cases ev
     exact⟨hs,v,e1,v,rfl,q⟩
    ·cases ev
   ·simp only[HB.run] at ev
    split at ev
    ·rename_i v e1
     cases ev
     exact⟨hs,v,e1,q⟩
    ·cases ev
end
end Ng
end
section
namespace Ng
open PySem PySem.Spec PyProof.Rows L2
theorem qze{env:Env}{v:PySem.Expr}{t:Option PySem.Expr}{l:Nat}(h:noComp v=true):swapsWith v t l env=pure false:=by
 cases v<;>first |rfl|(cases h;done)
theorem vzc{env:Env}{v tg:PySem.Expr}{l:Nat}(h:noComp v=true):swapsWithSole [tg] v l env=pure false:=qze (t:=some tg) h
section
variable {X:Cx}{N:List Str}{sc:Scope}{G:Gs}{ca:Nat->Addr}{cl:Cl}{e:Addr}{oe:Obj}{c:Nat}
theorem hslot.set{n:Option Str}{σ:Sg}{i:Nat}{x:Str}{v:Option V}(h:hslot N e n σ)(hi:N[i]? =some x)(hx:(n==some x)=false):hslot N e n (σ.set i v):=λy hy=>by
 obtain⟨j,h1,h2⟩:=h y hy
 refine⟨j,h1,?_⟩
 have:i≠j:=λz=>by
  subst z
  rw[hi] at h1
  cases h1
  rw[hy] at hx
  simp at hx
 rw[List.getElem?_set_ne this]
 exact h2
def HS.ix:HS->Nat
 |.bl i _=>i
 |.cst i _=>i
 |.ifc _ i _=>i
inductive HSt (N:List Str) (sc:Scope) (G:Gs) (n:Option Str):HS->PySem.Stmt->Prop
 |bl {i:Nat} {b:HB} {x:Str} {v:PySem.Expr} {xp pos:Pos} (h:(N[i]? ==some x&&locB sc x&&(!(n==some x))&&noComp v)=true) (hb:HBt sc G n b v):HSt N sc G n (.bl i b) (.Assign [.Name x xp] v pos)
 |cb {i:Nat} {b:Bool} {x:Str} {j:Nat} {xp cp pos:Pos} (h:(N[i]? ==some x&&locB sc x&&(!(n==some x)))=true):HSt N sc G n (.cst i (.inl b)) (.Assign [.Name x xp] (.Constant (.bool b) j cp) pos)
 |cs {i:Nat} {y:Str} {x:Str} {j:Nat} {xp cp pos:Pos} (h:(N[i]? ==some x&&locB sc x&&(!(n==some x)))=true):HSt N sc G n (.cst i (.inr y)) (.Assign [.Name x xp] (.Constant (.str y) j cp) pos)
inductive HSn (N:List Str) (sc:Scope) (G:Gs) (n:Option Str):HS->PySem.Stmt->Prop
 |one {a:HS} {x:PySem.Stmt} (h:HSt N sc G n a x):HSn N sc G n a x
 |ifc {b:HB} {i:Nat} {d:Sum Bool Str} {v:PySem.Expr} {x:PySem.Stmt} {pos:Pos} (hb:HBt sc G n b v) (h:HSt N sc G n (.cst i d) x):HSn N sc G n (.ifc b i d) (.If v [x] [] pos)
inductive HSts (N:List Str) (sc:Scope) (G:Gs) (n:Option Str):List HS->List PySem.Stmt->Prop
 |nil:HSts N sc G n [] []
 |cons {a:HS} {l:List HS} {x:PySem.Stmt} {r:List PySem.Stmt} (h:HSn N sc G n a x) (hl:HSts N sc G n l r):HSts N sc G n (a::l) (x::r)
theorem ps_hs(xo:XOk X N sc)(go:GOk X G ca cl)(hfn:∀x,X.fn x=true)(hc:oe.cls=.ref (ca c))(ef:ExcF X.K (ca c)){n:Option Str}(hn:∀x,n=some x->sc.names.lookup x=some .local)(a:HS)(st:PySem.Stmt)(h:HSt N sc G n a st):
 (∃x,N[a.ix]? =some x/\(n==some x)=false)/\PS (hX X e oe) st (λD σ H=>hslot N e n σ/\∃σ',hrunS G c [a] σ=some σ'/\D.nx σ' H):=by
 have nd:(hX X e oe).N.Nodup:=xo.nd
 cases h with
 | @bl i b x v xp pos h hb=>
   simp only[Bool.and_eq_true,beq_iff_eq,Bool.not_eq_true'] at h
   obtain⟨⟨⟨h1,h2⟩,h3⟩,h4⟩:=h
   refine⟨⟨x,h1,h3⟩,(vzx (X:=hX X e oe) (i:=i) nd (by show X.N[i]? =some x;rw[xo.n];exact h1) (by show Loc X.env.scope x;rw[xo.s];exact qzl h2) (pe_hb xo go hc ef hn b v hb).1 (qze h4) (.inl (hfn x))).wk λD σ H ⟨hs,σ',er,q⟩=>?_⟩
   simp only[hrunS] at er
   split at er
   ·rename_i bv eb
    cases er
    exact⟨hs,bv,eb,q⟩
   ·cases er
 | @cb i b x j xp cp pos h=>
   simp only[Bool.and_eq_true,beq_iff_eq,Bool.not_eq_true'] at h
   obtain⟨⟨h1,h2⟩,h3⟩:=h
   refine⟨⟨x,h1,h3⟩,(vzx (X:=hX X e oe) (i:=i) nd (by show X.N[i]? =some x;rw[xo.n];exact h1) (by show Loc X.env.scope x;rw[xo.s];exact qzl h2) pe_bl rfl (.inl (hfn x))).wk λD σ H ⟨hs,σ',er,q⟩=>?_⟩
   cases er
   exact q
 | @cs i y x j xp cp pos h=>
   simp only[Bool.and_eq_true,beq_iff_eq,Bool.not_eq_true'] at h
   obtain⟨⟨h1,h2⟩,h3⟩:=h
   refine⟨⟨x,h1,h3⟩,(vzx (X:=hX X e oe) (i:=i) nd (by show X.N[i]? =some x;rw[xo.n];exact h1) (by show Loc X.env.scope x;rw[xo.s];exact qzl h2) vzy rfl (.inl (hfn x))).wk λD σ H ⟨hs,σ',er,q⟩=>?_⟩
   cases er
   exact q
theorem zze{G:Gs}{a:HS}{l:List HS}{σ σ':Sg}(h:hrunS G c (a::l) σ=some σ'):∃σ1,hrunS G c [a] σ=some σ1/\(σ1=σ\/∃v,σ1=σ.set a.ix (some v))/\hrunS G c l σ1=some σ':=by
 cases a with
 |bl i b=>
  simp only[hrunS] at h⊢
  split at h
  ·rename_i v ev
   exact⟨_,rfl,.inr ⟨_,rfl⟩,h⟩
  ·cases h
 |cst i d=>exact⟨_,rfl,.inr ⟨cstV d,rfl⟩,h⟩
 |ifc b i d=>
  simp only[hrunS] at h⊢
  split at h
  ·exact⟨_,rfl,.inr ⟨cstV d,rfl⟩,h⟩
  ·exact⟨_,rfl,.inl rfl,h⟩
  ·cases h
theorem ps_hn(xo:XOk X N sc)(go:GOk X G ca cl)(hfn:∀x,X.fn x=true)(hc:oe.cls=.ref (ca c))(ef:ExcF X.K (ca c)){n:Option Str}(hn:∀x,n=some x->sc.names.lookup x=some .local)(a:HS)(st:PySem.Stmt)(h:HSn N sc G n a st):
 (∃x,N[a.ix]? =some x/\(n==some x)=false)/\PS (hX X e oe) st (λD σ H=>hslot N e n σ/\∃σ',hrunS G c [a] σ=some σ'/\D.nx σ' H):=by
 cases h with
 |one h=>exact ps_hs xo go hfn hc ef hn _ _ h
 | @ifc b i d v x pos hb h=>
   obtain⟨hx,p⟩:=ps_hs (e:=e) (oe:=oe) xo go hfn hc ef hn _ _ h
   refine⟨hx,?_⟩
   have pv:=pe_hb (e:=e) (oe:=oe) xo go hc ef hn b v hb
   refine(ps_if pv.2 (wzl p qzB) qzB).wk λD σ H ⟨hs,σ',er,q⟩=>?_
   simp only[hrunS] at er
   split at er
   ·rename_i ev
    cases er
    exact⟨hs,true,ev,iteT ⟨hs,_,rfl,q⟩⟩
   ·rename_i ev
    cases er
    exact⟨hs,false,ev,iteF q⟩
   ·cases er
theorem pss_hs(xo:XOk X N sc)(go:GOk X G ca cl)(hfn:∀x,X.fn x=true)(hc:oe.cls=.ref (ca c))(ef:ExcF X.K (ca c)){n:Option Str}(hn:∀x,n=some x->sc.names.lookup x=some .local):∀(l:List HS)(es:List PySem.Stmt),HSts N sc G n l es->
 PSs (hX X e oe) es (λD σ H=>hslot N e n σ/\∃σ',hrunS G c l σ=some σ'/\D.nx σ' H):=by
 intro l es h
 induction h with
 |nil=>exact(qzB).wk λD σ H ⟨_,σ',er,q⟩=>by cases er;exact q
 | @cons a l x r h hl ih=>
   obtain⟨⟨y,hy1,hy2⟩,p⟩:=ps_hn (e:=e) (oe:=oe) xo go hfn hc ef hn a x h
   refine(wzl p ih).wk λD σ H ⟨hs,σ',er,q⟩=>?_
   obtain⟨σ1,e1,es,e2⟩:=zze er
   refine⟨hs,σ1,e1,?_,σ',e2,q⟩
   rcases es with rfl|⟨v,rfl⟩
   ·exact hs
   ·exact hs.set hy1 hy2
end
def tX(X:Cx)(pins:List (Addr×Obj))(E:Value->Shared->Prop):Cx:={X with pn:=X.pn++pins,xe:=E}
section
variable {X:Cx}{pins pins':List (Addr×Obj)}{E:Value->Shared->Prop}{σ:Sg}{H:Hp}{s:Shared}
theorem tX_in(I:Inv X pins σ H s):Inv (tX X pins E) [] σ H s:=
 ⟨⟨I.ok.mod,I.ok.kind,I.ok.glob,I.ok.blt,I.ok.above,I.ok.inj,I.ok.has,I.ok.cab,I.ok.hd,I.ok.frames,I.ok.stk,I.ok.exf,I.ok.bs,I.ok.bsz,I.ok.noex,I.ok.exfs,I.ok.funs,I.ok.frf⟩,I.os,I.bare,I.base,I.loc,I.cell,I.free,I.freeC,λp hp=>I.pin p (by rw[List.append_nil] at hp;exact hp),I.hok,I.len⟩
theorem wzF(I:Inv (tX X pins E) pins' σ H s):Inv X pins σ H s:=
 ⟨⟨I.ok.mod,I.ok.kind,I.ok.glob,I.ok.blt,I.ok.above,I.ok.inj,I.ok.has,I.ok.cab,I.ok.hd,I.ok.frames,I.ok.stk,I.ok.exf,I.ok.bs,I.ok.bsz,I.ok.noex,I.ok.exfs,I.ok.funs,I.ok.frf⟩,I.os,I.bare,I.base,I.loc,I.cell,I.free,I.freeC,λp hp=>I.pin p (List.mem_append_left _ hp),I.hok,I.len⟩
theorem tX_fly{e C:Addr}{B:Heap}(F:FlyX (tX X pins E) pins' H e C s B):FlyX X pins H e C s B:=⟨F.fly,λp hp=>F.pc1 p (List.mem_append_left _ hp),F.pc2⟩
end
section
variable {X:Cx}{N:List Str}{sc:Scope}{G:Gs}{ca:Nat->Addr}{cl:Cl}{Wx:Ws}{rz:Bool}
def Wt(K:PySem.W.Frag)(Wx:Ws)(Z:Ends)(G:Gs)(g:Nat)(j:Option Nat)(hs:List HS):Ws:=λc σ H=>∃m r h,Wd K m h H/\RSt K m H r σ/\OutS K Wx m H Z (catchD G g j hs (.exc c r h))
theorem RSt.clr{K:PySem.W.Frag}{m:List Addr}{H:Hp}{r:Ev}{σ:Sg}(st:RSt K m H r σ)(j:Nat)(v:Option V):RSt K m H (r.set j none) (σ.set j v):=by
 refine⟨by simp[st.1],λi d e=>?_⟩
 by_cases hij:j=i
 ·subst hij
  by_cases hl:j<r.length
  ·rw[List.getElem?_set_self hl] at e;cases e
  ·rw[List.getElem?_eq_none (by simpa using hl)] at e;cases e
 ·rw[List.getElem?_set_ne hij] at e⊢
  exact st.2 i d e
theorem zzo(xo:XOk X N sc)(go:GOk X G ca cl)(hfn:∀x,X.fn x=true)(xx:XX X ca Wx rz){g:Nat}{j:Option Nat}{hs:List HS}{y:Str}{yp hp:Pos}{n:Option Str}{s0:PySem.Stmt}{suite:List PySem.Stmt}
 (h1:G.excs[g]? =some y)(h2:glB sc y=true)(h3:noDbg y=true)(h4:chkJ N sc j n=true)(h5:HSts N sc G n hs (s0::suite)){Z:Ends}{pins:List (Addr×Obj)}{σ:Sg}{H:Hp}{s:Shared}{e:Addr}{c:Nat}{B:Heap}
 (I:Inv X pins σ H s)(F:FlyX X pins H e (ca c) s B)(hW:Wt X.K Wx Z G g j hs c σ H):
 wpAny (model X.prog X.w) X.A (noteFrame (.ref e) X.env) (λ_ s2=>wpAny (model X.prog X.w) X.A (setFlight (.ref e) none) (λ_ s3=>wpAny (model X.prog X.w) X.A (handleBy (.ref e) X.env [.ExceptHandler (some (.Name y yp)) n (s0::suite) hp]) (SP X pins Z) X.xe s3) X.xe s2) X.xe s:=by
 obtain⟨m,r,h,w,st,o⟩:=hW
 obtain⟨d1,d2,d3⟩:=jzL h3
 obtain⟨hm,_⟩:=go.exc g y h1
 simp only[catchD] at o
 split at o
 case isFalse=>exact o.elim
 case isTrue hsub=>
  split at o
  case h_2=>exact o.elim
  case h_1 r' er=>
   have ef:=(go.sub _ hsub).2.2
   refine land I F xx.ex xx.stk (jzV xo h2) hm d1 (go.sub _ hsub).1 λs5 I5 F5=>?_
   cases j with
   |none=>
    cases n with
    |some n=>exact absurd (show false=true from h4) Bool.false_ne_true
    |none=>
     refine suite0 I5 F5 xx.ex xx.stk λoe s6 hc I6=>?_
     obtain⟨σ',es,st'⟩:=jz5 (c:=c) er (show RSt X.K m H (clr none r) σ from st)
     refine wpAny_mono (pss_hs (e:=e) (oe:=oe) (n:=none) xo go hfn hc ef (λx z=>by cases z) hs (s0::suite) h5 pins s6 σ H {nx:=λσ1 H1=>σ1=σ'/\H1=H,rt:=λ_ _=>False} I6 ⟨(λx z=>by cases z),σ',es,rfl,rfl⟩) (λf s7 q=>?_) λ_ _ z=>z
     cases f with
     |next=>
      obtain⟨σ1,H1,I7,z1,z2⟩:=q
      subst z1;subst z2
      exact⟨_,_,hX_out I5.ok I7,o m _ .refl w _ st'⟩
     |brk=>obtain⟨_,_,_,z⟩:=q;exact z.elim
     |cont=>obtain⟨_,_,_,z⟩:=q;exact z.elim
     |ret u=>obtain⟨_,_,_,_,_,z⟩:=q;exact z.elim
   |some j=>
    cases n with
    |none=>exact absurd (show false=true from h4) Bool.false_ne_true
    |some n=>
     have h4':(N[j]? ==some n&&sc.names.lookup n==some .local)=true:=h4
     simp only[Bool.and_eq_true,beq_iff_eq] at h4'
     have hl:X.env.scope.names.lookup n=some .local:=by rw[xo.s];exact h4'.2
     have hj:X.N[j]? =some n:=by rw[xo.n];exact h4'.1
     refine suiteA I5 F5 xx.ex xx.stk xo.nd hj hl λoe s6 hc I6=>?_
     obtain⟨σ',es,st'⟩:=jz5 (c:=c) er (show RSt X.K m H (clr (some j) r) (σ.set j (some (.ref e))) from st.clr j _)
     have hjσ:j<σ.length:=by rw[I.len];exact(List.getElem?_eq_some_iff.mp hj).1
     refine wpAny_mono (pss_hs (e:=e) (oe:=oe) (n:=some n) xo go hfn hc ef (λx z=>by cases z;exact h4'.2) hs (s0::suite) h5 pins s6 (σ.set j (some (.ref e))) H {nx:=λσ1 H1=>σ1=σ'/\H1=H,rt:=λ_ _=>False} I6 ⟨(λx z=>by cases z;exact⟨j,h4'.1,List.getElem?_set_self hjσ⟩),σ',es,rfl,rfl⟩) (λf s7 q=>?_) λ_ _ z=>z
     cases f with
     |next=>
      obtain⟨σ1,H1,I7,z1,z2⟩:=q
      subst z1;subst z2
      refine zzP (hX_out I5.ok I7) xo.nd hj hl λs8 I8=>?_
      exact⟨_,_,I8,o m _ .refl w _ (st'.clr j none)⟩
     |brk=>obtain⟨_,_,_,z⟩:=q;exact z.elim
     |cont=>obtain⟨_,_,_,z⟩:=q;exact z.elim
     |ret u=>obtain⟨_,_,_,_,_,z⟩:=q;exact z.elim
end
end Ng
end
section
namespace Ng
open PySem PySem.Spec PyProof.Rows L2
section
variable {X:Cx}
end
def SS(N:List Str)(sc:Scope)(G:Gs)(c:S)(e:PySem.Stmt):Prop:=∀{X:Cx}{ca:Nat->Addr}{cl:Cl}{W:Nat}{Wx:Ws}{rz:Bool},XOk X N sc->GOk X G ca cl->(∀x,X.fn x=true)->XX X ca Wx rz->(rz=true\/noRs c=true)->PS X e (TDS X.K Wx (xs G cl W c))
def SSs(N:List Str)(sc:Scope)(G:Gs)(c:Ss)(e:List PySem.Stmt):Prop:=∀{X:Cx}{ca:Nat->Addr}{cl:Cl}{W:Nat}{Wx:Ws}{rz:Bool},XOk X N sc->GOk X G ca cl->(∀x,X.fn x=true)->XX X ca Wx rz->(rz=true\/noRss c=true)->PSs X e (TDS X.K Wx (xss G cl W c))
section
variable {N:List Str}{sc:Scope}{G:Gs}
theorem qzp{c:Nat}{x y:Str}{np cp0 cp pos:Pos}{j:Nat}(h1:G.excs[c]? =some y)(h:(glB sc y&&noDbg y)=true):SS N sc G (.rais c x) (.Raise (some (.Call (.Name y np) [.Constant (.str x) j cp0] [] cp)) none pos):=λ{X ca cl W Wx rz} xo go hfn xx hz=>by
 rw[Bool.and_eq_true] at h
 obtain⟨h2,h3⟩:=h
 have er:rz=true:=hz.elim id λz=>by cases z
 subst er
 obtain⟨d1,d2,d3⟩:=jzL h3
 obtain⟨hm,ef⟩:=go.exc c y h1
 refine(ps_raise xx xo.calm (jzV xo h2) hm ef d1).wk λZ s H ⟨m,r,hh,w,st,o⟩=>?_
 rw[xs] at o
 exact o m H s .refl w st
theorem dS_asgX{t:Tg}{f:Nat}{l:Es}{tg:PySem.Expr}{y:Str}{np pos spos:Pos}{a:PySem.Expr}{as:List PySem.Expr}(ht:chkT N sc t tg=true)(ae:∀env,(assignEach [tg] env).map (·.2)=[assign tg env])(sw:∀env,swappedStores [tg] (.Call (.Name y np) (a::as) [] pos) env=pure none)(h1:G.fns[f]? =some y)(h:(glB sc y&&noDbg y)=true)(h_l:SAs N sc G l (a::as)):SS N sc G (.asgX t f l) (.Assign [tg] (.Call (.Name y np) (a::as) [] pos) spos):=λ{X ca cl W Wx rz} xo go hfn xx hz=>by
 rw[Bool.and_eq_true] at h
 obtain⟨h2,h3⟩:=h
 have pg:=pgT xo hfn (t:=t) ht
 refine(ps_asg (vzz xo go hfn xx h1 h2 h3 h_l) pg rfl (sw X.env) (ae X.env)).wk λZ s H q=>?_
 refine TDS.oneX (k:=λr x h=>match setT t x r with|some r1=>.ok (.nx r1) h|none=>.bad) (λr h=>by rw[xs];cases evs G cl l r h<;>rfl) q λm2 r h2 H2 dx v w2 st2 rx o=>?_
 split at o
 ·rename_i r1 er
  exact⟨m2,_,r,dx,r1,w2,st2,rx,er,λs' st'=>o m2 H2 .refl w2 s' st'⟩
 ·exact o.elim
theorem dS_tryx{b:Ss}{g:Nat}{j:Option Nat}{hs:List HS}{body:List PySem.Stmt}{y:Str}{yp hp pos:Pos}{n:Option Str}{s0:PySem.Stmt}{suite:List PySem.Stmt}(h1:G.excs[g]? =some y)(hh:(glB sc y&&noDbg y&&chkJ N sc j n)=true)(h5:noRss b=true)(h6:HSts N sc G n hs (s0::suite))(h_b:SSs N sc G b body):SS N sc G (.tryx b g j hs) (.Try body [.ExceptHandler (some (.Name y yp)) n (s0::suite) hp] [] [] pos):=λ{X ca cl W Wx rz} xo go hfn xx hz=>by
 simp only[Bool.and_eq_true] at hh
 obtain⟨⟨h2,h3⟩,h4⟩:=hh
 intro pins s σ H Z I ⟨m,r,hh,w,st,o⟩
 rw[xs] at o
 let E1:Value->Shared->Prop:=λe1 s1=>wpAny (model X.prog X.w) X.A (noteFrame e1 X.env) (λ_ s2=>wpAny (model X.prog X.w) X.A (setFlight e1 none) (λ_ s3=>wpAny (model X.prog X.w) X.A (handleBy e1 X.env [.ExceptHandler (some (.Name y yp)) n (s0::suite) hp]) (SP X pins Z) X.xe s3) X.xe s2) X.xe s1
 have xo1:XOk (tX X pins E1) N sc:=⟨xo.n,xo.s,xo.calm,xo.nd,xo.room,xo.rng,PassesOwn.looking⟩
 have go1:GOk (tX X pins E1) G ca cl:=⟨go.fn,go.cst,go.blt,go.ty,go.exc,go.sub,go.nsub,go.verr,⟨go.c.att,go.c.meth,go.c.new⟩⟩
 have xx1:XX (tX X pins E1) ca (Wt X.K Wx Z G g j hs) false:=⟨xx.ex,xx.stk,λpins' σ' H' s' e' c' I' ⟨B,F'⟩ hW=>zzo xo go hfn xx h1 h2 h3 h4 h6 (wzF I') (tX_fly F') hW,λz=>by cases z⟩
 have pb:=h_b (W:=W) xo1 go1 hfn xx1 (.inr h5)
 have q:TDS X.K (Wt X.K Wx Z G g j hs) (xss G cl W b) Z σ H:=by
  refine⟨m,r,hh,w,st,?_⟩
  cases ho:xss G cl W b r hh with
  |bad=>rw[ho] at o;exact o
  |ok fl h1=>rw[ho] at o;exact o
  |exc c' r' h1=>
   rw[ho] at o
   exact λm' H' s' g w' st'=>⟨m',r',h1,w',st',OutS.mono g o⟩
 refine wpAny_Try_except (wpAny_mono (pb [] s σ H Z (tX_in I) q) (λf s1 q1=>?_) λe1 s1 q1=>q1)
 cases f with
 |next=>
  obtain⟨σ1,H1,I1,z⟩:=q1
  exact qzB pins s1 σ1 H1 Z (wzF I1) z
 |brk=>obtain⟨σ1,H1,I1,z⟩:=q1;exact⟨σ1,H1,wzF I1,z⟩
 |cont=>obtain⟨σ1,H1,I1,z⟩:=q1;exact⟨σ1,H1,wzF I1,z⟩
 |ret u=>obtain⟨v,σ1,H1,I1,rv,z⟩:=q1;exact⟨v,σ1,H1,wzF I1,rv,z⟩
theorem jzh{i:Nat}{a:E}{x:Str}{px pos:Pos}{v:PySem.Expr}(h1:N[i]? =some x)(h2:locB sc x=true)(h3:noComp v=true)(h_a:SE N sc G a v):SS N sc G (.asg (.nm i) a) (.Assign [.Name x px] v pos):=λ{X ca cl W Wx rz} xo go hfn xx hz=>by
 refine(vzx (i:=i) xo.nd (by rw[xo.n];exact h1) (by rw[xo.s];exact qzl h2) (h_a xo go).1 (qze h3) (.inl (hfn x))).wk λZ s H q=>?_
 refine TDS.one (λr h=>by rw[xs]) q λm2 r h2 H2 dx y w2 st2 rx o=>?_
 exact o m2 H2 .refl w2 _ (st2.set i rx)
theorem jzG{l:List Nat}{a:E}{es:List PySem.Expr}{k:Nat}{px pos:Pos}{v:PySem.Expr}(h1:chkNs N sc l es=true)(h3:noComp v=true)(hw:∀env,swappedStores [.Tuple es k px] v env=pure none)(h_a:SE N sc G a v):SS N sc G (.asg (.tp l) a) (.Assign [.Tuple es k px] v pos):=λ{X ca cl W Wx rz} xo go hfn xx hz=>by
 refine(ps_asg (h_a xo go).1 (pgT xo hfn (t:=.tp l) (tg:=.Tuple es k px) h1) (vzc h3) (hw X.env) rfl).wk λZ s H q=>?_
 refine TDS.one (λr h=>by rw[xs]) q λm2 r h2 H2 dx y w2 st2 rx o=>?_
 split at o
 ·rename_i r1 er
  exact⟨m2,_,r,dx,r1,w2,st2,rx,er,λs' st'=>o m2 H2 .refl w2 s' st'⟩
 ·exact o.elim
theorem swap_yes{X:Cx}(xo:XOk X N sc){y:Str}{py pos:Pos}{scope:Scope}(hk:(sc.kind== .function)=true)(h2:sc.names.lookup y=some .local)(h4:(py.line==pos.line&& !(scope.names.any λ(n,k)=>n==y&&(k== .local||k== .cell)))=true):
 (pure (X.env.blockKind== .function&&X.env.kindOf y==some .local&&py.line==pos.line&& !(scope.names.any λ(n,k)=>n==y&&(k== .local||k== .cell))):Sem Bool)=pure true:=by
 have hb:X.env.blockKind=.function:=by
  unfold Env.blockKind
  rw[xo.s,eq_of_beq hk]
  rfl
 have hy:X.env.kindOf y=some .local:=by show X.env.scope.names.lookup y=_;rw[xo.s];exact h2
 rw[hb,hy]
 rw[Bool.and_assoc,h4]
 rfl
theorem dS_asc{i:Nat}{t:Tg}{k:Ck}{it cs:Es}{e:E}{N':List Str}{cap:List Nat}{elt tg iter:PySem.Expr}{ifs:List PySem.Expr}{scope:Scope}{y:Str}{py pos spos:Pos}(h1:N[i]? =some y)(hk:(sc.kind== .function)=true)(h2:sc.names.lookup y=some .local)(h4:(py.line==pos.line&& !(scope.names.any λ(n,k)=>n==y&&(k== .local||k== .cell)))=true)
 (B:Blk N sc N' cap scope)(ns:noSet iter=true)(ht:chkT' N' scope t tg=true)(hi:SIt N sc G k it iter)(hc:SBs N' (relab scope sc) G cs ifs)(he:SE N' (relab scope sc) G e elt)(tk:tgOk k tg=true:=by rfl):SS N sc G (.asc i (.comp t k it cs e N' cap)) (.Assign [.Name y py] (.ListComp elt [⟨tg,iter,ifs,0⟩] scope pos) spos):=λ{X ca cl W Wx rz} xo go hfn xx hz=>by
 refine(comp_ps (i:=i) xo B.S B.capL B.nN B.fr (vzM B ht hc he xo go) ns (comp_w (cl:=cl) hi tk xo go) h1 h2 (swap_yes xo hk h2 h4)).wk λZ s H q=>?_
 refine TDS.one (λr h=>by rw[xs]) q λm2 r h2 H2 dx y w2 st2 rx o=>?_
 exact o m2 H2 .refl w2 _ (st2.set i rx)
theorem dS_ex{a:E}{v:PySem.Expr}{pos:Pos}(h3:noComp v=true)(h_a:SE N sc G a v):SS N sc G (.ex a) (.Expr v pos):=λ{X ca cl W Wx rz} xo go hfn xx hz=>by
 refine(ps_expr (h_a xo go).1 (qze h3)).wk λZ s H q=>?_
 refine TDS.one (λr h=>by rw[xs]) q λm2 r h2 H2 dx y w2 st2 rx o=>?_
 exact o m2 H2 .refl w2 _ st2
theorem jzi{a:E}{v:PySem.Expr}{pos:Pos}(h_a:SE N sc G a v):SS N sc G (.ret a) (.Return (some v) pos):=λ{X ca cl W Wx rz} xo go hfn xx hz=>by
 refine(ps_ret (h_a xo go).1).wk λZ s H q=>?_
 refine TDS.one (λr h=>by rw[xs]) q λm2 r h2 H2 dx y w2 st2 rx o=>?_
 exact o m2 H2 .refl w2 _ rx
theorem jzn{a:E}{b1 b2:Ss}{t:PySem.Expr}{x y:List PySem.Stmt}{pos:Pos}(h_a:SE N sc G a t)(h_b1:SSs N sc G b1 x)(h_b2:SSs N sc G b2 y):SS N sc G (.iff a b1 b2) (.If t x y pos):=λ{X ca cl W Wx rz} xo go hfn xx hz=>by
 have hz':(rz=true\/noRss b1=true)/\(rz=true\/noRss b2=true):=by
  rcases hz with z|z
  ·exact⟨.inl z,.inl z⟩
  ·have z':(noRss b1&&noRss b2)=true:=z
   rw[Bool.and_eq_true] at z'
   exact⟨.inr z'.1,.inr z'.2⟩
 refine(ps_if ((h_a xo go).2) (h_b1 (W:=W) xo go hfn xx hz'.1) (h_b2 (W:=W) xo go hfn xx hz'.2)).wk λZ s H ⟨m,r,hh,w,st,o⟩=>?_
 rw[xs] at o
 obtain⟨dx,h1,e0,o⟩:=o.nx
 split at o
 ·rename_i et
  exact⟨m,r,hh,dx,h1,true,w,st,e0,et,λm' H' g w'=>iteT ⟨m',r,h1,w',st.mono g,o.mono g⟩⟩
 ·rename_i et
  exact⟨m,r,hh,dx,h1,false,w,st,e0,et,λm' H' g w'=>iteF ⟨m',r,h1,w',st.mono g,o.mono g⟩⟩
 ·exact o.elim
theorem wzx{t:Tg}{a:E}{b:Ss}{tg y:PySem.Expr}{x:List PySem.Stmt}{p pos' pos:Pos}(h1:chkT N sc t tg=true)(h6:glB sc "range"=true)(h7:noStar y=true)(h_a:SE N sc G a y)(h_b:SSs N sc G b x):SS N sc G (.forr t (.r1 a) b) (.For tg (.Call (.Name "range" p) [y] [] pos') x [] pos):=λ{X ca cl W Wx rz} xo go hfn xx hz=>by
 have hs:∀z,foldedSetIterable (.Call (.Name "range" p) [y] [] pos') X.env z=pure z:=λz=>rfl
 have hA:PA X [y] (tCons (TDE X.K (ev G cl a)) tNil):=jz1 (h_a xo go).1 qzC (jzw [] h7)
 refine(zzA xo.po xo.calm (wzN (jzV xo h6) xo.rng hA (jzw [] h7)) (pgT xo hfn h1) (h_b (W:=W) xo go hfn xx hz) hs).wk λZ s H q=>?_
 refine TDS.one (λr h=>by rw[xs]) q λm2 r h2 H2 dx y w2 st2 rx o=>?_
 cases rx<;>first |exact o.elim|skip
 rename_i j
 simp only at o
 split at o
 ·rename_i ho
  refine⟨j,rfl,ho.1,ho.2,?_⟩
  have:=for_rngD (lo:=0) (hi:=j) w2 st2 o
  simpa using this
 ·exact o.elim
theorem qzR{t:Tg}{a:E}{b:Ss}{tg it:PySem.Expr}{x:List PySem.Stmt}{pos:Pos}(h1:chkT N sc t tg=true)(hs':∀env z,foldedSetIterable it env z=pure z)(h_a:SE N sc G a it)(h_b:SSs N sc G b x):SS N sc G (.forr t (.sq a) b) (.For tg it x [] pos):=λ{X ca cl W Wx rz} xo go hfn xx hz=>by
 have hs:=hs' X.env
 have hp:=(h_a xo go).1
 have p1:=zzA xo.po xo.calm (vzb hp) (pgT xo hfn h1) (h_b (W:=W) xo go hfn xx hz) hs (pos:=pos)
 have p2:=zzA xo.po xo.calm (pi_tup hp) (pgT xo hfn h1) (h_b (W:=W) xo go hfn xx hz) hs (pos:=pos)
 intro pins s σ H Z I ⟨m,r,hh,w,st,o⟩
 rw[xs] at o
 obtain⟨dx,h5,e0,o⟩:=o.nx
 have mk:∀(R:VK),(∀(m2:List Addr)(H2:Hp)(y:V),Gr X.K m H m2 H2->Wd X.K m2 h5 H2->RD X.K m2 H2 dx y->R y H2)->TDE X.K (ev G cl a) σ H R:=λR k=>⟨m,r,hh,dx,h5,w,st,e0,λm2 y H2 g2 w2 ry=>k m2 H2 y g2 w2 ry⟩
 cases dx<;>first |exact o.elim|skip
 ·refine p2 pins s σ H Z I (mk _ λm2 H2 y g2 w2 ry=>?_)
  cases ry with
  |tup hq q'=>exact⟨_,rfl,⟨_,hq⟩,for_tupD w2 (st.mono g2) hq q' (OutS.mono g2 o)⟩
 ·rename_i n
  refine p1 pins s σ H Z I (mk _ λm2 H2 y g2 w2 ry=>?_)
  cases ry with
  |ref ha=>
   have hl:∃l,lstAt h5 n=some l:=by
    cases W with
    |zero=>exact o.elim
    |succ k=>
     simp only[forD,forI] at o
     split at o
     ·exact o.elim
     ·rename_i l el
      exact⟨l,el⟩
   obtain⟨l,hl⟩:=hl
   obtain⟨a',vs,ha',hq,_⟩:=w2.lst hl
   rw[ha] at ha';cases ha'
   exact⟨_,rfl,⟨_,hq⟩,for_lstD (W:=W) w2 (st.mono g2) ha (OutS.mono g2 o)⟩
theorem dS_whl{a:E}{b:Ss}{t:PySem.Expr}{x:List PySem.Stmt}{pos:Pos}(h_a:SE N sc G a t)(h_b:SSs N sc G b x):SS N sc G (.whl a b) (.While t x [] pos):=λ{X ca cl W Wx rz} xo go hfn xx hz=>by
 refine(ps_while xo.po (h_a xo go).2 (h_b (W:=W) xo go hfn xx hz)).wk λZ s H ⟨m,r,hh,w,st,o⟩=>?_
 rw[xs] at o
 exact whileD w st o
theorem jzd:SSs N sc G .nil []:=λ{X ca cl W Wx rz} xo go hfn xx hz=>(qzB).wk λZ s H ⟨m,r,hh,w,st,o⟩=>by
 rw[xss] at o
 exact o m H .refl w s st
theorem ds_cons{a:S}{l:Ss}{x:PySem.Stmt}{xs':List PySem.Stmt}(h_a:SS N sc G a x)(h_l:SSs N sc G l xs'):SSs N sc G (.cons a l) (x::xs'):=λ{X ca cl W Wx rz} xo go hfn xx hz=>by
 have hz':(rz=true\/noRs a=true)/\(rz=true\/noRss l=true):=by
  rcases hz with z|z
  ·exact⟨.inl z,.inl z⟩
  ·have z':(noRs a&&noRss l)=true:=z
   rw[Bool.and_eq_true] at z'
   exact⟨.inr z'.1,.inr z'.2⟩
 refine(wzl (h_a (W:=W) xo go hfn xx hz'.1) (h_l (W:=W) xo go hfn xx hz'.2)).wk λZ s H ⟨m,r,hh,w,st,o⟩=>?_
 rw[xss] at o
 refine⟨m,r,hh,w,st,?_⟩
 cases ho:xs G cl W a r hh with
 |bad=>rw[ho] at o;exact o
 |exc c rr h1=>rw[ho] at o;exact o
 |ok f h1=>
  rw[ho] at o
  intro m1 H1 g1 w1
  have o':=OutS.mono g1 o
  cases f with
  |nx r2=>exact λs' st'=>⟨m1,r2,h1,w1,st',o'⟩
  |rt d=>exact o' m1 H1 .refl w1
  |bk r2=>exact o' m1 H1 .refl w1
  |ct r2=>exact o' m1 H1 .refl w1
end
end Ng
end
section
namespace Ng
open PySem PySem.Spec PyProof.Rows L2
section
variable {N:List Str}{sc:Scope}{G:Gs}
theorem vzv{K:PySem.W.Frag}{m:List Addr}{H:Hp}{f:Str}{z:D}{v:V}(rz:RD K m H z v):∀{fs:List (Str×D)}{us:List (Str×V)},fs.map (·.1)=us.map (·.1)->RDs K m H (fs.map (·.2)) (us.map (·.2))->
 (putA f z fs).map (·.1)=(putF f v us).map (·.1)/\RDs K m H ((putA f z fs).map (·.2)) ((putF f v us).map (·.2))
 | [],[],_,_=>⟨rfl,.cons rz .nil⟩
 |(k,d)::fs,(k',u)::us,h,r=>by
  obtain⟨h1,h2⟩:=List.cons.inj (show k::fs.map (·.1)=k'::us.map (·.1) from h)
  subst h1
  cases r with
  |cons r1 r=>
   obtain⟨i1,i2⟩:=vzv rz h2 r
   unfold putA putF
   by_cases q:k=f
   ·rw[if_pos q,if_pos q]
    exact⟨h,.cons rz r⟩
   ·rw[if_neg q,if_neg q]
    exact⟨by rw[List.map_cons,List.map_cons,i1],.cons r1 i2⟩
 | [],_::_,h,_=>by cases h
 |_::_,[],h,_=>by cases h
theorem wzU{o a:E}{cn f:Str}{x v:PySem.Expr}{px pos:Pos}(hG:(cn,f)∈G.atts)(hs:∀env:Env,swapsWith v (some (.Attribute x f px)) pos.line env=pure false)(h_a:SE N sc G a v)(h_o:SE N sc G o x):SS N sc G (.sfl o cn f a) (.Assign [.Attribute x f px] v pos):=λ{X ca cl W Wx rz} xo go hfn xx hz=>by
 obtain⟨C,hC,cls,na⟩:=go.c.att _ hG
 refine(ps_fld (h_o xo go).1 (h_a xo go).1 (hs X.env)).wk λZ s H q=>?_
 refine TDS.one (λr h=>by rw[xs]) q λm2 r h2 H2 dz z w2 st2 rdz o=>?_
 obtain⟨dx,h6,e6,o⟩:=o.nx
 obtain⟨_,h8,e8,o⟩:=o.nx
 refine⟨m2,r,h2,dx,h6,w2,st2,e6,λm3 x' H3 g3 w3 rx=>?_⟩
 cases rx<;>first |(cases e8;done)|skip
 rename_i n a' ha
 simp only[satD] at e8
 split at e8<;>first |(cases e8;done)|skip
 rename_i c0 fs el
 split at e8<;>first |(cases e8;done)|skip
 rename_i hc
 obtain⟨rfl,hl⟩:=hc
 cases e8
 obtain⟨C',dx',us,q1,q2,q3,q4⟩:RO X.K m3 H3 a' (.ins c0 fs):=w3.ob n _ a' el ha
 have hC':PySem.W.nsIn X.K mainGlobals c0=some (some (.ref C)):=hC
 rw[q1] at hC'
 cases hC'
 have ll:fs.length=us.length:=by have:=congrArg List.length q3;simpa using this
 obtain⟨w4,g4⟩:=w3.objSet (o':=.ins c0 (putA f dz fs)) (u:=.ins C dx' (putF f z us)) el rfl ha λg=>by
  obtain⟨i1,i2⟩:=vzv (f:=f) ((rdz.mono g3).mono g) q3 (q4.mono g)
  exact⟨C,dx',_,q1,jzy,i1,i2⟩
 exact⟨a',C,dx',us,rfl,q2,cls,na,by omega,o m3 _ (g3.trans g4) w4 s (st2.mono (g3.trans g4))⟩
theorem dE_mxd{mx:Bool}{l d:E}{y z:PySem.Expr}{np kp pos:Pos}(h3:glB sc (mmNm mx)=true)(h4:noStar y=true)(h_l:SE N sc G l y)(h_d:SE N sc G d z):SE N sc G (.mxd mx l d) (.Call (.Name (mmNm mx) np) [y] [⟨some "default",z,kp⟩] pos):=λ{X ca cl} xo go=>by
 have hm:X.mg (mmNm mx)=none:=by
  cases mx with
  |true=>exact go.blt .max
  |false=>exact go.blt .min
 have p:PE X (.Call (.Name (mmNm mx) np) [y] [⟨some "default",z,kp⟩] pos) (TDE X.K (ev G cl (.mxd mx l d))):=(pe_mxd xo.calm (jzV xo h3) hm (h_l xo go).1 (h_d xo go).1 (jzw [] h4)).wk (TDE.op λr h=>by simp only[ev])
 exact⟨p,tOf p λ_=>rfl⟩
theorem dS_retX{f:Nat}{l:Es}{y:Str}{np pos spos:Pos}{a:PySem.Expr}{as:List PySem.Expr}(h1:G.fns[f]? =some y)(h:(glB sc y&&noDbg y)=true)(h_l:SAs N sc G l (a::as)):SS N sc G (.retX f l) (.Return (some (.Call (.Name y np) (a::as) [] pos)) spos):=λ{X ca cl W Wx rz} xo go hfn xx hz=>by
 rw[Bool.and_eq_true] at h
 obtain⟨h2,h3⟩:=h
 refine(ps_ret (vzz xo go hfn xx h1 h2 h3 h_l)).wk λZ s H q=>?_
 exact TDS.oneX (k:=λr x h=>.ok (.rt x) h) (λr h=>by rw[xs];cases evs G cl l r h<;>rfl) q λm2 r h2 H2 dx v w2 st2 rx o=>o m2 H2 .refl w2 _ rx
end
end Ng
end
section
namespace Ng
open PySem PySem.Spec PyProof.Rows L2
structure Fc where
 np:Nat
 ns:Nat
 body:Ss
def endD:Fl->Hh->Rs D
 |.rt d,h=>.ok d h
 |.nx _,h=>.ok .non h
 |_,_=>.bad
noncomputable def callD(G:Gs)(T:Nat->Option Fc)(W:Nat):Nat->Cl
 |0,_,_,_=>.bad
 |n+1,f,ds,h=>match T f with
  |none=>.bad
  |some c=>if ds.length=c.np then(xss G (callD G T W n) W c.body (ds.map some++List.replicate (c.ns-c.np) none) h).bind endD else .bad
structure FmOk (K:PySem.W.Frag)(G:Gs)(P:Addr->Prop)(x:Str)(c:Fc):Prop where
 ex:∃st fa fd N ps qual,Fun K x qual st fa fd/\FnScope N ps (defScope st)/\ps.length=c.np/\N.length=c.ns/\Binds K fd ps []/\P fa/\SSs N (defScope st) G c.body (defBody st)
abbrev FcOk(K:PySem.W.Frag)(mg:Str->Option Value)(G:Gs)(x:Str)(c:Fc):Prop:=FmOk K G (λfa=>mg x=some (.ref fa)) x c
def AllP{α:Type}(P:Nat->α->Prop):Nat->List α->Prop
 |_,[]=>True
 |i,a::l=>P i a/\AllP P (i+1) l
theorem AllP.get{α:Type}{P:Nat->α->Prop}:∀{l:List α}{i:Nat},AllP P i l->∀{f:Nat}{x:α},l[f]? =some x->P (i+f) x
 |_::_,_,h,0,_,e=>by cases e;exact h.1
 |_::l,i,h,f+1,x,e=>by
  have q:=AllP.get h.2 (f:=f) (x:=x) (by simpa using e)
  rwa [show i+1+f=i+(f+1) by omega] at q
theorem AllP.get0{α:Type}{P:Nat->α->Prop}{l:List α}(h:AllP P 0 l){f:Nat}{x:α}(e:l[f]? =some x):P f x:=by
 have q:=AllP.get h e
 rwa [Nat.zero_add] at q
theorem len1{us:List Value}(h:us.length=1):∃a,us=[a]:=List.length_eq_one_iff.mp h
theorem len2{us:List Value}(h:us.length=2):∃a b,us=[a,b]:=by
 match us,h with
 | [a,b],_=>exact⟨a,b,rfl⟩
theorem len3{us:List Value}(h:us.length=3):∃a b c,us=[a,b,c]:=by
 match us,h with
 | [a,b,c],_=>exact⟨a,b,c,rfl⟩
theorem len6{us:List Value}(h:us.length=6):∃a b c d e f,us=[a,b,c,d,e,f]:=by
 match us,h with
 | [a,b,c,d,e,f],_=>exact⟨a,b,c,d,e,f,rfl⟩
theorem AllP.mem{α:Type}{P:α->Prop}:∀{l:List α}{i:Nat},AllP (λ_=>P) i l->∀{x:α},x∈l->P x
 |_::_,_,h,_,.head _=>h.1
 |_::_,_,h,_,.tail _ q=>AllP.mem h.2 q
structure PrOk (K:PySem.W.Frag)(mg:Str->Option Value)(G:Gs)(ca:Nat->Addr)(T:Nat->Option Fc):Prop where
 fn:∀(f:Nat)(x:Str),G.fns[f]? =some x->∃c,T f=some c/\FcOk K mg G x c
 cst:∀(g:Nat)(x:Str)(d:D),G.csts[g]? =some (x,d)->∃v u,mg x=some u/\RelV v u/\∀m H,RD K m H d v
 blt:∀f:Blt,mg f.nm=none
 ty:∀t:Ty,mg (Str.ofString t.nm)=none
 rng:mg "range"=none
 exc:∀(c:Nat)(x:Str),G.excs[c]? =some x->mg x=some (.ref (ca c))/\ExcF K (ca c)
 sub:∀p∈G.sub,PySem.W.exmOne K (.ref (ca p.1)) (.ref (ca p.2))=some true/\PySem.W.kitOne K (.ref (ca p.1)) (.ref (ca p.2))=some true/\ExcF K (ca p.1)
 nsub:∀p∈G.nsub,PySem.W.kitOne K (.ref (ca p.1)) (.ref (ca p.2))=some false/\ExcN K (ca p.1)
 verr:mg "ValueError"=none
 att:∀p∈G.atts,∃C,PySem.W.nsIn K mainGlobals p.1=some (some (.ref C))/\Cls K C/\NoAttr K C p.2
 meth:∀p∈G.meths,∃C c,PySem.W.nsIn K mainGlobals p.1=some (some (.ref C))/\Cls K C/\T p.2.2=some c/\FmOk K G (λfa=>Meth K C p.2.1 fa) p.2.1 c
 new:∀p∈G.news,∃C c,PySem.W.nsIn K mainGlobals p.1=some (some (.ref C))/\mg p.1=some (.ref C)/\T p.2=some c/\FmOk K G (λfa=>Mk K C fa) "__init__" c
theorem RSt.start{K:PySem.W.Frag}{m:List Addr}{H:Hp}{ds:List D}{vs:List V}(r:RDs K m H ds vs)(k:Nat):RSt K m H (ds.map some++List.replicate k none) (vs.map some++List.replicate k none):=by
 refine⟨by simp[r.length],λi d e=>?_⟩
 by_cases hi:i<ds.length
 ·rw[List.getElem?_append_left (by simpa using hi),List.getElem?_map] at e
  cases z:ds[i]? with
  |none=>rw[z] at e;cases e
  |some d'=>
   rw[z] at e
   have e':d'=d:=by
    have e2:some (some d')=some (some d):=e
    injection e2 with e2;injection e2
   subst e'
   obtain⟨v,hv,rv⟩:=r.get z
   exact⟨v,by rw[List.getElem?_append_left (by rw[List.length_map, <- r.length];exact hi),List.getElem?_map,hv];rfl,rv⟩
 ·rw[List.getElem?_append_right (by simpa using hi),List.getElem?_replicate] at e
  split at e<;>cases e
section
variable {P:Program}{w:World}{K:PySem.W.Frag}{mg:Str->Option Value}{base:Heap}{G:Gs}{ca:Nat->Addr}{T:Nat->Option Fc}{W:Nat}
theorem _root_.L2.Fun.okX{x qual:Str}{st:PySem.Stmt}{f:Addr}{fd:FuncData}{N ps:List Str}{k:Nat}{sp:Sp}(F:Fun K x qual st f fd)(S:FnScope N ps (defScope st))(len:∀vs H Q E,sp vs H Q E->vs.length=ps.length)
 (hbody:∀(cdv:Value)(A:Around)(outer:List Env)(s:Shared)(H:Hp)(vs:List V)(Q:VK)(E:XK),Room k (A.deeper (envOfC qual (defScope st) s.heap.objs.size f cdv))->sp vs H Q E->
   ∃t,PSs (cxOf (CX1 P w) P w K mg base N qual (defScope st) f cdv A outer s H E) (defBody st) t/\t {nx:=λ_ H'=>Q .non H',rt:=Q} (start N vs) H):FnOk P w K mg base (CX1 P w) (k+1) f fd ps sp:=by
 obtain⟨oc,od,kV,doc,pm,an,cdv,ct,osl,rfl,lk,hcd⟩:=F.ex
 exact fn_of lk hcd S len λA outer s H vs Q E hr hsp=>hbody cdv A outer s H vs Q E hr hsp
abbrev AllFn(P:Program)(w:World)(K:PySem.W.Frag)(mg:Str->Option Value)(base:Heap)(G:Gs)(ca:Nat->Addr)(T:Nat->Option Fc)(W n:Nat):Prop:=∀(f:Nat)(x:Str)(c:Fc)(R:Addr->Prop),T f=some c->FmOk K G R x c->∃fa fd ps,FnOk P w K mg base (CX1 P w) (2*n) fa fd ps (spD K ca (callD G T W n f) ps.length)/\R fa/\PySem.W.keepIn K (.ref fa)=true/\Binds K fd ps []/\∀ds h,callD G T W n f ds h≠ .bad->ds.length=ps.length
theorem zz9(pr:PrOk K mg G ca T){n f:Nat}(ih:AllFn P w K mg base G ca T W n){x qual:Str}{c:Fc}{st:PySem.Stmt}{fa:Addr}{fd:FuncData}{N ps:List Str}(hc:T f=some c)(F:Fun K x qual st fa fd)(S:FnScope N ps (defScope st))(h1:ps.length=c.np)(h2:N.length=c.ns)
 (hk:SSs N (defScope st) G c.body (defBody st)):FnOk P w K mg base (CX1 P w) (2*n+1+1) fa fd ps (spD K ca (callD G T W (n+1) f) ps.length):=by
 refine F.okX S (λvs H Q E h=>h.1) (λcdv A outer s H vs Q E hr h=>?_)
 obtain⟨hl,m,h,ds,wd,rd,o⟩:=h
 simp only[callD,hc] at o
 have hlen:ds.length=c.np:=by rw[rd.length,hl,h1]
 rw[if_pos hlen] at o
 let X:Cx:=cxOf (CX1 P w) P w K mg base N qual (defScope st) fa cdv A outer s H E
 have xo:XOk X N (defScope st):=⟨rfl,rfl,rfl,S.nd,⟨_,hr⟩,pr.rng,PassesOwn.leaving⟩
 have hr0:Room (2*n) X.A:=hr.mono (Nat.le_succ _)
 have go:GOk X G ca (callD G T W n):=⟨λf' x' hf'=>by
  obtain⟨c',hc',fc⟩:=pr.fn f' x' hf'
  obtain⟨fa',fd',ps',F',hm',hk',hb',hl'⟩:=ih f' x' c' _ hc' fc
  exact⟨fa',fd',ps',_,F',hr0,hm',hk',hb',hl'⟩,pr.cst,pr.blt,pr.ty,pr.exc,pr.sub,pr.nsub,pr.verr,⟨pr.att,λp hp=>by
   obtain⟨C,c',hC,cls,hc',fc⟩:=pr.meth p hp
   obtain⟨fa',fd',ps',F',hm',hk',hb',hl'⟩:=ih p.2.2 p.2.1 c' _ hc' fc
   exact⟨C,fa',fd',ps',_,hC,cls,hm',F',hr0,hb',hl'⟩,λp hp=>by
   obtain⟨C,c',hC,hmC,hc',fc⟩:=pr.new p hp
   obtain⟨fa',fd',ps',F',hm',hk',hb',hl'⟩:=ih p.2 _ c' _ hc' fc
   exact⟨C,fa',fd',ps',_,hC,hmC,hm',F',hr,hb',hl'⟩⟩⟩
 refine⟨_,hk (W:=W) xo go (λ_=>rfl) fnXX (.inl rfl),m,ds.map some++List.replicate (c.ns-c.np) none,h,wd,?_,?_⟩
 ·show RSt K m H _ (vs.map some++List.replicate (N.length-vs.length) none)
  rw[show N.length-vs.length=c.ns-c.np by omega]
  exact RSt.start rd _
 ·cases hx:xss G (callD G T W n) W c.body (ds.map some++List.replicate (c.ns-c.np) none) h with
  |bad=>rw[hx] at o;exact o
  |exc c' r' h'=>
   rw[hx] at o
   exact λm' H' s' g w' _ v=>o m' H' v g w'
  |ok fl h'=>
   rw[hx] at o
   intro m' H' g w'
   cases fl with
   |rt d'=>exact λv rv=>o m' v H' g w' rv
   |nx r'=>exact λs' _=>o m' .non H' g w' .non
   |bk r'=>exact o.elim
   |ct r'=>exact o.elim
theorem fn_all(pr:PrOk K mg G ca T):∀n:Nat,AllFn P w K mg base G ca T W n:=by
 intro n
 induction n with
 |zero=>
  intro f x c R hc ⟨st,fa,fd,N,ps,qual,F,S,h1,h2,hb,hm,hk⟩
  refine⟨fa,fd,ps,⟨λvs H Q E h=>h.1,λA outer s H args us vs Q E _ _ _ _ h=>?_⟩,hm,F.kp,hb,λds h e=>absurd rfl e⟩
  obtain⟨_,m,h,ds,_,_,o⟩:=h
  exact o.elim
 |succ n ih=>
  intro f x c R hc ⟨st,fa,fd,N,ps,qual,F,S,h1,h2,hb,hm,hk⟩
  refine⟨fa,fd,ps,zz9 pr ih hc F S h1 h2 hk,hm,F.kp,hb,λds h e=>?_⟩
  simp only[callD,hc] at e
  by_cases hn:ds.length=c.np
  ·rw[hn,h1]
  ·rw[if_neg hn] at e
   exact absurd rfl e
end
theorem cstT{K:PySem.W.Frag}{m:List Addr}{H:Hp}{a:Addr}{dd:Option Addr}{its:Array Value}{n:Nat}{sl:Array (Option Value)}{ds:List D}{vs:List V}(h:K.lookup a=some ⟨.type "tuple",dd,.seq its n,sl⟩)(hz:its.size<=sizeLine)
 (v:Vals vs its.toList)(r:RDs K m H ds vs):RD K m H (.tup ds) (.ref a):=.tup (.inr ⟨_,its,n,h,rfl,rfl,hz,v⟩) r
theorem sqR_of{K:PySem.W.Frag}{H:Hp}{a:Addr}{xs:List V}(hO:Only H)(h:SqL K H a xs):SqR K H a xs:=by
 rcases h with (h|h)|h
 ·rcases hO a with z|⟨o,ys,z⟩
  ·rw[z] at h;cases h
  ·rw[z] at h;cases h
 ·exact .inl h
 ·exact .inr h
def spO(K:PySem.W.Frag)(f:List D->Hh->Rs D)(n:Nat):Sp:=λvs H Q _=>vs.length=n/\∃m h ds d h',Wd K m h H/\RDs K m H ds vs/\f ds h=.ok d h'/\∀m' v H',Gr K m H m' H'->Wd K m' h' H'->RD K m' H' d v->Q v H'
theorem spO_D{K:PySem.W.Frag}{ca:Nat->Addr}{f:List D->Hh->Rs D}{n:Nat}{vs:List V}{H:Hp}{Q:VK}{E:XK}(h:spO K f n vs H Q E):spD K ca f n vs H Q E:=by
 obtain⟨hl,m,h,ds,d,h',w,r,e,c⟩:=h
 exact⟨hl,m,h,ds,w,r,by rw[e];exact c⟩
theorem law_of{G:Gs}{T:Nat->Option Fc}{W:Nat}{l:PySem.W.OpenLaw}{n k lw:Nat}{q:Program}{loose:List Str}{XP:(Str->Option Value)->Heap->Prop}{YP:World->Heap->Prop}{d:DefRec}{K:Params->PySem.W.Frag}{x:Str}
 (run:∀ns:List Int,ns.length<=n->∃h',callD G T W (k+1) lw [.ref 0] [.ro (ns.map D.int)]=.ok (.bl true) h')
 (hn:l.most=some n)(hn2:n<=sizeLine)(hdf:d.params.defaults=[])(hr:Room (2*k+1+1) callerA)
 (hY:∀(w:World)(h:Heap),YP w h->(K w.params).In h)
 (F:∀(w:World)(mg:Str->Option Value)(fa:Addr)(h:Heap),(K w.params).In h->h.Ns mainGlobals mg->mg d.name=some (.ref fa)->
   ∃ca:Nat->Addr,PrOk (K w.params) mg G ca T/\∃fd:FuncData,(∀(s:Shared)(u:Value),BindsTo s fd ⟨[u],[]⟩ [(x,u)])/\∃c st N qual,T lw=some c/\Fun (K w.params) d.name qual st fa fd/\FnScope N [x] (defScope st)/\1=c.np/\N.length=c.ns/\SSs N (defScope st) G c.body (defBody st)):
 PySem.W.WalkO q loose XP YP l.row.toRowW d [] (λf vs=>PySem.call f vs):=by
 refine L2.walk_of (n:=n) (k:=2*k+1+1) (x:=x) (CX:=λw=>CX1 l.prog w) (sp:=λw=>spO (K w.params) (callD G T W (k+1) lw) 1) hn hn2 hdf hr hY (λw mg fa h KX hns hm=>?_) (λw H a ns hl hO hS=>?_) λ_ _ _ _ _ ⟨_,_,_,_,_,_,_,_,_,z⟩=>z
 ·obtain⟨ca,pr,fd,hb,c,st,N,qual,hc,Fu,S,h1,h2,hk⟩:=F w mg fa h KX hns hm
  exact⟨fd,hb,λbase _ _=>(zz9 pr (fn_all pr k) hc Fu S h1 h2 hk).imp λ_ _ _ _=>spO_D⟩
 ·obtain⟨h',e⟩:=run ns hl
  refine⟨rfl,[a],[.ro (ns.map D.int)],[.ref 0],.bl true,h',⟨rfl,λi j b o u e1 e2 e3 e4 w1 w2=>?_,λi o b e1 e2=>?_⟩,.cons (.ref rfl) .nil,e,?_⟩
  ·cases i with
   |zero=>
    cases j with
    |zero=>rfl
    |succ j=>simp at e4
   |succ i=>simp at e3
  ·cases i with
   |zero=>
    simp at e1 e2
    subst e1;subst e2
    exact⟨_,sqR_of hO hS,RDs.ints ns⟩
   |succ i=>simp at e1
  ·intro m' v H' _ _ rd
   cases rd;rfl
end Ng
end
section
namespace Ng
open PySem L2
section
variable {A B:Type}(G:Gs)(cl:Cl)(W:Nat)(r:Ev)(h:Hh)
theorem jzu{α:Type} [BEq α] [LawfulBEq α] [DecidableEq α](i j:α):(i==j)=decide (i=j):=by
 by_cases e:i=j
 ·subst e;simp
 ·rw[decide_eq_false e];exact beq_eq_false_iff_ne.mpr e
@[simp] theorem jze(a:A)(f:A->Hh->Rs B):(Rs.ok a h).bind f=f a h:=rfl
@[simp] theorem nxOk(a:A):(Rs.ok a h).nx=.ok a h:=rfl
@[simp] theorem nxBad:(Rs.bad:Rs A).nx=.bad:=rfl
@[simp] theorem nxExc(c:Nat)(r':Ev):(Rs.exc c r' h:Rs A).nx=.bad:=rfl
@[simp] theorem innOk(a:A):(Rs.ok a h).inn r=.ok a h:=rfl
@[simp] theorem innExc(c:Nat)(r':Ev):(Rs.exc c r' h:Rs A).inn r=.exc c r h:=rfl
@[simp] theorem bindExc(c:Nat)(r':Ev)(f:A->Hh->Rs B):(Rs.exc c r' h:Rs A).bind f=.exc c r' h:=rfl
@[simp] theorem bindBad(f:A->Hh->Rs B):(Rs.bad:Rs A).bind f=.bad:=rfl
@[simp] theorem evVar(i:Nat):ev G cl (.var i) r h=(match r[i]? with|some (some d)=>.ok d h|_=>.bad):=by rw[ev]<;>rfl
@[simp] theorem ge0(a:Option D)(l:Ev):(a::l)[0]? =some a:=rfl
@[simp] theorem gd0(a:D)(l:List D):(a::l)[0]? =some a:=rfl
@[simp] theorem evInt(i:Int):ev G cl (.int i) r h=.ok (.int i) h:=by rw[ev]<;>rfl
@[simp] theorem evBl(i:Bool):ev G cl (.bl i) r h=.ok (.bl i) h:=by rw[ev]<;>rfl
@[simp] theorem evNon:ev G cl .non r h=.ok .non h:=by rw[ev]<;>rfl
@[simp] theorem evStr(i:Str):ev G cl (.str i) r h=.ok (.str i) h:=by rw[ev]<;>rfl
@[simp] theorem evGc(i:Nat):ev G cl (.gc i) r h=(match G.csts[i]? with|some p=>.ok p.2 h|none=>.bad):=by rw[ev]<;>(cases G.csts[i]? <;>rfl)
@[simp] theorem evTy(t:Ty):ev G cl (.ty t) r h=.ok (.ty t.nm) h:=by rw[ev]<;>rfl
@[simp] theorem evBin(op:Bop)(a b:E):ev G cl (.bin op a b) r h=(ev G cl a r h).bind λx h=>(ev G cl b r h).bind λy h=>binD op x y h:=by rw[ev]<;>rfl
@[simp] theorem evNeg(a:E):ev G cl (.neg a) r h=(ev G cl a r h).bind λx h=>match x with|.int i=>.ok (.int (-i)) h|_=>.bad:=by rw[ev]<;>rfl
@[simp] theorem evCmp(op:Cop)(a b:E):ev G cl (.cmp op a b) r h=(ev G cl a r h).bind λx h=>(ev G cl b r h).bind λy h=>cmpD op x y h:=by rw[ev]<;>rfl
@[simp] theorem evAnd(a b:E):ev G cl (.and a b) r h=(ev G cl a r h).bind λx h=>match truD x h with|some true=>ev G cl b r h|some false=>.ok x h|none=>.bad:=by rw[ev]<;>rfl
@[simp] theorem evOr(a b:E):ev G cl (.or a b) r h=(ev G cl a r h).bind λx h=>match truD x h with|some true=>.ok x h|some false=>ev G cl b r h|none=>.bad:=by rw[ev]<;>rfl
@[simp] theorem evNot(a:E):ev G cl (.not a) r h=(ev G cl a r h).bind λx h=>match truD x h with|some b=>.ok (.bl (!b)) h|none=>.bad:=by rw[ev]<;>rfl
@[simp] theorem evIte(c a b:E):ev G cl (.ite c a b) r h=(ev G cl c r h).bind λx h=>match truD x h with|some true=>ev G cl a r h|some false=>ev G cl b r h|none=>.bad:=by rw[ev]<;>rfl
@[simp] theorem evIx(a b:E):ev G cl (.ix a b) r h=(ev G cl a r h).bind λx h=>(ev G cl b r h).bind λy h=>ixD x y h:=by rw[ev]<;>rfl
@[simp] theorem evTup(l:Es):ev G cl (.tup l) r h=(evs G cl l r h).bind λds h=>if ds.length<=1000 then .ok (.tup ds) h else .bad:=by rw[ev]<;>rfl
@[simp] theorem evLst(l:Es):ev G cl (.lst l) r h=(evs G cl l r h).bind λds h=>if ds.length<=1000 then .ok (.ref h.length) (h++ [.lst ds]) else .bad:=by rw[ev]<;>rfl
@[simp] theorem evCall(f:Nat)(l:Es):ev G cl (.call f l) r h=(evs G cl l r h).bind λds h=>(cl f ds h).nx:=by rw[ev]<;>rfl
@[simp] theorem evBlt(f:Blt)(l:Es):ev G cl (.blt f l) r h=(evs G cl l r h).bind λds h=>bltD f ds h:=by rw[ev]<;>rfl
@[simp] theorem evApp(o e:E):ev G cl (.app o e) r h=(ev G cl o r h).bind λx h=>if isLst x h=true then(ev G cl e r h).bind λy h=>appD x y h else .bad:=by rw[ev]<;>rfl
@[simp] theorem qz8:evt G cl .nil r h=.ok true h:=by rw[evt]<;>rfl
@[simp] theorem evtCons(e:E)(l:Es):evt G cl (.cons e l) r h=(ev G cl e r h).bind λx h=>match truD x h with|some true=>evt G cl l r h|some false=>.ok false h|none=>.bad:=by rw[evt]<;>rfl
theorem vzI(t:Tg)(k:Ck)(it cs:Es)(e:E)(N:List Str)(cap:List Nat):ev G cl (.comp t k it cs e N cap) r h=(evs G cl it r h).bind λxs h=>(compL t (evt G cl cs) (ev G cl e) h.length k xs h (blockE N cap r) (h++ [.lst []])).bind λ_ h'=>.ok (.ref h.length) h':=by rw[ev]<;>rfl
@[simp] theorem jzO:evs G cl .nil r h=.ok [] h:=by rw[evs]<;>rfl
@[simp] theorem jzB(e:E)(l:Es):evs G cl (.cons e l) r h=(ev G cl e r h).bind λd h=>(evs G cl l r h).bind λds h=>.ok (d::ds) h:=by rw[evs]<;>rfl
@[simp] theorem xsAsg(t:Tg)(e:E):xs G cl W (.asg t e) r h=(ev G cl e r h).nx.bind λx h=>match setT t x r with|some r1=>.ok (.nx r1) h|none=>.bad:=by rw[xs]<;>rfl
@[simp] theorem xsAsc(i:Nat)(e:E):xs G cl W (.asc i e) r h=(ev G cl e r h).nx.bind λx h=>.ok (.nx (r.set i (some x))) h:=by rw[xs]<;>rfl
@[simp] theorem xsEx(e:E):xs G cl W (.ex e) r h=(ev G cl e r h).nx.bind λ_ h=>.ok (.nx r) h:=by rw[xs]<;>rfl
@[simp] theorem xsRet(e:E):xs G cl W (.ret e) r h=(ev G cl e r h).nx.bind λx h=>.ok (.rt x) h:=by rw[xs]<;>rfl
@[simp] theorem xsIff(c:E)(a b:Ss):xs G cl W (.iff c a b) r h=(ev G cl c r h).nx.bind λx h=>match truD x h with|some true=>xss G cl W a r h|some false=>xss G cl W b r h|none=>.bad:=by rw[xs]<;>rfl
@[simp] theorem xsFor1(t:Tg)(e:E)(b:Ss):xs G cl W (.forr t (.r1 e) b) r h=(ev G cl e r h).nx.bind λx h=>match x with|.int j=>if okR j then forS t (xss G cl W b) (rngD 0 j) r h else .bad|_=>.bad:=by rw[xs]<;>rfl
@[simp] theorem xsFor2(t:Tg)(e e':E)(b:Ss):xs G cl W (.forr t (.r2 e e') b) r h=(ev G cl e r h).nx.bind λx h=>(ev G cl e' r h).nx.bind λy h=>match x,y with|.int i,.int j=>if okR i/\okR j then forS t (xss G cl W b) (rngD i j) r h else .bad|_,_=>.bad:=by rw[xs]<;>rfl
@[simp] theorem qzb(t:Tg)(e:E)(b:Ss):xs G cl W (.forr t (.sq e) b) r h=(ev G cl e r h).nx.bind λx h=>forD W t (xss G cl W b) x r h:=by rw[xs]<;>rfl
@[simp] theorem xsWhl(c:E)(b:Ss):xs G cl W (.whl c b) r h=whileF (ev G cl c) (xss G cl W b) W r h:=by rw[xs]<;>rfl
@[simp] theorem xsRais(c:Nat)(x:Str):xs G cl W (.rais c x) r h=.exc c r h:=by rw[xs]<;>rfl
@[simp] theorem xsAsgX(t:Tg)(f:Nat)(l:Es):xs G cl W (.asgX t f l) r h=(evs G cl l r h).nx.bind λds h=>((cl f ds h).inn r).bind λx h=>match setT t x r with|some r1=>.ok (.nx r1) h|none=>.bad:=by rw[xs]<;>rfl
@[simp] theorem xsRetX(f:Nat)(l:Es):xs G cl W (.retX f l) r h=(evs G cl l r h).nx.bind λds h=>((cl f ds h).inn r).bind λx h=>.ok (.rt x) h:=by rw[xs]<;>rfl
@[simp] theorem xsExX(f:Nat)(l:Es):xs G cl W (.exX f l) r h=(evs G cl l r h).nx.bind λds h=>((cl f ds h).inn r).bind λ_ h=>.ok (.nx r) h:=by rw[xs]<;>rfl
@[simp] theorem xsTry(b:Ss)(g:Nat)(j:Option Nat)(hs:List HS):xs G cl W (.tryx b g j hs) r h=catchD G g j hs (xss G cl W b r h):=by rw[xs]<;>rfl
@[simp] theorem evMxd(mx:Bool)(a b:E):ev G cl (.mxd mx a b) r h=(ev G cl a r h).bind λx h=>(ev G cl b r h).bind λy h=>bestD mx x y h:=by rw[ev]<;>rfl
@[simp] theorem evIns(o i e:E):ev G cl (.ins o i e) r h=(ev G cl o r h).bind λx h=>if isLst x h=true then(ev G cl i r h).bind λy h=>(ev G cl e r h).bind λz h=>insD x y z h else .bad:=by rw[ev]<;>rfl
@[simp] theorem evLrg(a:E):ev G cl (.lrg a) r h=(ev G cl a r h).bind λx h=>lrgD x h:=by rw[ev]<;>rfl
@[simp] theorem evDisp(ks:List Str)(vs:Es):ev G cl (.disp ks vs) r h=(evs G cl vs r (h++ [.dct []])).bind λds h'=>dispD ks ds h.length h':=by rw[ev]<;>rfl
theorem xssX{s:S}{l:Ss}{r r':Ev}{h h':Hh}{c:Nat}{G:Gs}{cl:Cl}{W:Nat}(e:xs G cl W s r h=.exc c r' h'):xss G cl W (.cons s l) r h=.exc c r' h':=by rw[xss,e];rfl
@[simp] theorem xsPass:xs G cl W .pass r h=.ok (.nx r) h:=by rw[xs]<;>rfl
@[simp] theorem xsBrk:xs G cl W .brk r h=.ok (.bk r) h:=by rw[xs]<;>rfl
@[simp] theorem xsCont:xs G cl W .cont r h=.ok (.ct r) h:=by rw[xs]<;>rfl
@[simp] theorem xsStx(o i e:E):xs G cl W (.stx o i e) r h=(ev G cl e r h).nx.bind λz h=>(ev G cl o r h).nx.bind λx h=>(ev G cl i r h).nx.bind λy h=>(stxD x y z h).nx.bind λ_ h=>.ok (.nx r) h:=by rw[xs]<;>rfl
@[simp] theorem jzq:xss G cl W .nil r h=.ok (.nx r) h:=by rw[xss]<;>rfl
@[simp] theorem wzd(s:S)(l:Ss):xss G cl W (.cons s l) r h=(xs G cl W s r h).bind λfl h=>match fl with|.nx r2=>xss G cl W l r2 h|f=>.ok f h:=by rw[xss]<;>rfl
theorem xssNx{s:S}{l:Ss}{r r':Ev}{h h':Hh}{G:Gs}{cl:Cl}{W:Nat}(e:xs G cl W s r h=.ok (.nx r') h'):xss G cl W (.cons s l) r h=xss G cl W l r' h':=by rw[wzd,e];rfl
theorem xssRt{s:S}{l:Ss}{r:Ev}{d:D}{h h':Hh}{G:Gs}{cl:Cl}{W:Nat}(e:xs G cl W s r h=.ok (.rt d) h'):xss G cl W (.cons s l) r h=.ok (.rt d) h':=by rw[wzd,e];rfl
@[simp] theorem setNm(i:Nat)(d:D):setT (.nm i) d r=some (r.set i (some d)):=rfl
@[simp] theorem setTp(l:List Nat)(ds:List D):setT (.tp l) (.tup ds) r=if ds.length=l.length then some (setAll l ds r) else none:=rfl
@[simp] theorem setAll0:setAll [] [] r=r:=rfl
@[simp] theorem setAll1(i:Nat)(is:List Nat)(d:D)(ds:List D):setAll (i::is) (d::ds) r=setAll is ds (r.set i (some d)):=rfl
@[simp] theorem bAdd(i j:Int):binD .add (.int i) (.int j) h=.ok (.int (i+j)) h:=rfl
@[simp] theorem bSub(i j:Int):binD .sub (.int i) (.int j) h=.ok (.int (i-j)) h:=rfl
theorem bMulL{i j:Int}(a: -18446744073709551616<i)(b:i<18446744073709551616):binD .mul (.int i) (.int j) h=.ok (.int (i*j)) h:=by
 show(if _ then _ else _)=_
 rw[if_pos (.inl ⟨a,b⟩)]
theorem bMulR{i j:Int}(a: -18446744073709551616<j)(b:j<18446744073709551616):binD .mul (.int i) (.int j) h=.ok (.int (i*j)) h:=by
 show(if _ then _ else _)=_
 rw[if_pos (.inr ⟨a,b⟩)]
theorem bDiv{i j:Int}(a:0<j)(b:j<1073741824):binD .fdiv (.int i) (.int j) h=.ok (.int (i/j)) h:=by
 show(if _ then _ else _)=_
 rw[if_pos ⟨a,b⟩]
theorem bMod{i j:Int}(a:0<j):binD .mod (.int i) (.int j) h=.ok (.int (i%j)) h:=by
 show(if _ then _ else _)=_
 rw[if_pos a]
@[simp] theorem bPow18:binD .pow (.int 10) (.int 18) h=.ok (.int 1000000000000000000) h:=rfl
@[simp] theorem bPow27:binD .pow (.int 10) (.int 27) h=.ok (.int 1000000000000000000000000000) h:=rfl
@[simp] theorem cLt(i j:Int):cmpD .lt (.int i) (.int j) h=.ok (.bl (decide (i<j))) h:=rfl
@[simp] theorem cLe(i j:Int):cmpD .le (.int i) (.int j) h=.ok (.bl (decide (i<=j))) h:=rfl
@[simp] theorem cGt(i j:Int):cmpD .gt (.int i) (.int j) h=.ok (.bl (decide (j<i))) h:=rfl
@[simp] theorem cGe(i j:Int):cmpD .ge (.int i) (.int j) h=.ok (.bl (decide (j<=i))) h:=rfl
@[simp] theorem cEqI(i j:Int):cmpD .eq (.int i) (.int j) h=.ok (.bl (decide (i=j))) h:=by rw[<- jzu];rfl
@[simp] theorem cNeI(i j:Int):cmpD .ne (.int i) (.int j) h=.ok (.bl (!decide (i=j))) h:=by rw[<- jzu];rfl
@[simp] theorem cEqB(i j:Bool):cmpD .eq (.bl i) (.bl j) h=.ok (.bl (decide (i=j))) h:=by rw[<- jzu];rfl
@[simp] theorem cNeB(i j:Bool):cmpD .ne (.bl i) (.bl j) h=.ok (.bl (!decide (i=j))) h:=by rw[<- jzu];rfl
@[simp] theorem cEqS(i j:Str):cmpD .eq (.str i) (.str j) h=.ok (.bl (decide (i=j))) h:=by rw[<- jzu];rfl
@[simp] theorem cNeS(i j:Str):cmpD .ne (.str i) (.str j) h=.ok (.bl (!decide (i=j))) h:=by rw[<- jzu];rfl
@[simp] theorem cNeT(a b:List D):cmpD .ne (.tup a) (.tup b) h=(match eqL (eqD 19) a b with|some k=>.ok (.bl (!k)) h|none=>.bad):=rfl
@[simp] theorem cEqT(a b:List D):cmpD .eq (.tup a) (.tup b) h=(match eqL (eqD 19) a b with|some k=>.ok (.bl k) h|none=>.bad):=rfl
@[simp] theorem eqL0(f:D->D->Option Bool):eqL f [] []=some true:=rfl
@[simp] theorem eqL1(f:D->D->Option Bool)(x y:D)(xs ys:List D):eqL f (x::xs) (y::ys)=(match f x y,eqL f xs ys with|some a,some b=>some (a&&b)|_,_=>none):=rfl
@[simp] theorem eqDI(n:Nat)(i j:Int):eqD n (.int i) (.int j)=some (decide (i=j)):=by rw[<- jzu];cases n<;>rfl
@[simp] theorem eqDS(n:Nat)(i j:Str):eqD n (.str i) (.str j)=some (decide (i=j)):=by rw[<- jzu];cases n<;>rfl
@[simp] theorem eqDT(n:Nat)(a b:List D):eqD (n+1) (.tup a) (.tup b)=eqL (eqD n) a b:=rfl
@[simp] theorem isInt(i:Int):isinL (.int i) (.ty "int") h=.ok (.bl true) h:=rfl
@[simp] theorem isIntB(i:Int):isinL (.int i) (.ty "bool") h=.ok (.bl false) h:=rfl
@[simp] theorem isIntT(i:Int):isinL (.int i) (.ty "tuple") h=.ok (.bl false) h:=rfl
@[simp] theorem isIntL(i:Int):isinL (.int i) (.ty "list") h=.ok (.bl false) h:=rfl
@[simp] theorem isIntTL(i:Int):isinL (.int i) (.tup [.ty "tuple",.ty "list"]) h=.ok (.bl false) h:=rfl
@[simp] theorem isTupT(l:List D):isinL (.tup l) (.ty "tuple") h=.ok (.bl true) h:=rfl
@[simp] theorem isTupL(l:List D):isinL (.tup l) (.ty "list") h=.ok (.bl false) h:=rfl
@[simp] theorem isTupTL(l:List D):isinL (.tup l) (.tup [.ty "tuple",.ty "list"]) h=.ok (.bl true) h:=rfl
@[simp] theorem isTupB(l:List D):isinL (.tup l) (.ty "bool") h=.ok (.bl false) h:=rfl
@[simp] theorem isTupI(l:List D):isinL (.tup l) (.ty "int") h=.ok (.bl false) h:=rfl
@[simp] theorem nmInt:Ty.int.nm="int":=rfl
@[simp] theorem nmBool:Ty.bool.nm="bool":=rfl
@[simp] theorem nmStr:Ty.str.nm="str":=rfl
@[simp] theorem nmTup:Ty.tuple.nm="tuple":=rfl
@[simp] theorem nmLst:Ty.list.nm="list":=rfl
@[simp] theorem cIsN(x:D):cmpD .is x .non h=.ok (.bl (isNon x)) h:=rfl
@[simp] theorem cIsNt(x:D):cmpD .isnot x .non h=.ok (.bl (!isNon x)) h:=rfl
@[simp] theorem tBl(b:Bool):truD (.bl b) h=some b:=rfl
@[simp] theorem tInt(i:Int):truD (.int i) h=some (i != 0):=rfl
@[simp] theorem sTup(l:List D):seqD (.tup l) h=some l:=rfl
@[simp] theorem sRef(n:Nat):seqD (.ref n) h=lstAt h n:=rfl
@[simp] theorem iTup(l:List D)(i:Int):ixD (.tup l) (.int i) h=(match atI l i with|some d=>.ok d h|none=>.bad):=rfl
theorem iRef{n:Nat}{l:List D}(i:Int)(e:lstAt h n=some l):ixD (.ref n) (.int i) h=(match atI l i with|some d=>.ok d h|none=>.bad):=by
 have d0:dctAt h (.ref n)=none:=by
  show(match h[n]? with|some (.dct l)=>some l|_=>none)=none
  unfold lstAt at e
  cases q:h[n]? with
  |none=>rfl
  |some o=>
   cases o with
   |lst l'=>rfl
   |ro l'=>rfl
   |dct l'=>rw[q] at e;cases e
   |dtt l'=>rfl
   |ded=>rfl
   |dtf l'=>rfl
   |ins c f=>rfl
 have d1:dtfAt h (.ref n)=none:=by
  show(match h[n]? with|some (.dtf l)=>some l|_=>none)=none
  unfold lstAt at e
  cases q:h[n]? with
  |none=>rfl
  |some o=>
   cases o with
   |dtf l'=>rw[q] at e;cases e
   |_=>rfl
 have e2:seqD (.ref n) h=some l:=e
 have e3:ixD (.ref n) (.int i) h=(match dctAt h (.ref n) with|some l=>ixK l (.int i) h|none=>match dtfAt h (.ref n) with|some l=>ixF l (.int i) h|none=>ixS (.ref n) (.int i) h):=rfl
 rw[e3,d0,d1]
 show ixS (.ref n) (.int i) h=_
 unfold ixS
 rw[e2]<;>rfl
def lenN(x:D)(h:Hh):Rs D:=match x with
 |.str z=>if z.length<=sizeLine then .ok (.int z.length) h else .bad
 |x=>match dtfAt h x with
  |some l=>.ok (.int l.length) h
  |none=>.bad
@[simp] theorem bLen(x:D):bltD .len [x] h=(match seqD x h with|some l=>.ok (.int l.length) h|none=>lenN x h):=rfl
theorem attOk{n:Nat}{cn f:Str}{fs:List (Str×D)}{d:D}(e:h[n]? =some (.ins cn fs))(q:fs.lookup f=some d):attD cn (.ref n) f h=.ok d h:=by
 unfold attD
 simp only[e,if_true,q]
theorem mthYes{n:Nat}{cn m:Str}{fs:List (Str×D)}(e:h[n]? =some (.ins cn fs))(q:fs.lookup m=none):mthOk (.ref n) cn m h=true:=by
 unfold mthOk
 simp only[e,q,decide_true,Bool.true_and,Option.isNone_none]
theorem satOk{n:Nat}{cn f:Str}{fs:List (Str×D)}{d:D}(e:h[n]? =some (.ins cn fs))(q:fs.length<900):satD cn (.ref n) d f h=.ok () (h.set n (.ins cn (putA f d fs))):=by
 unfold satD
 simp only[e,q,and_self,if_true]
@[simp] theorem evAtt(o:E)(cn f:Str):ev G cl (.att o cn f) r h=(ev G cl o r h).bind λx h=>attD cn x f h:=by rw[ev]<;>rfl
@[simp] theorem evNew(cn:Str)(f:Nat)(l:Es):ev G cl (.new cn f l) r h=(evs G cl l r h).bind λds h=>(newD cn (cl f) ds h).nx:=by rw[ev]<;>rfl
@[simp] theorem evMth(o:E)(cn m:Str)(f:Nat)(l:Es):ev G cl (.mth o cn m f l) r h=(ev G cl o r h).bind λx h=>if mthOk x cn m h=true then(evs G cl l r h).bind λds h=>(cl f (x::ds) h).nx else .bad:=by rw[ev]<;>rfl
@[simp] theorem evSlT(a b:E):ev G cl (.slT a b) r h=(ev G cl a r h).bind λx h=>(ev G cl b r h).bind λy h=>slTD x y h:=by rw[ev]<;>rfl
@[simp] theorem evSlA(a b:E):ev G cl (.slA a b) r h=(ev G cl a r h).bind λx h=>(ev G cl b r h).bind λy h=>slAD x y h:=by rw[ev]<;>rfl
@[simp] theorem evSlZ(a b:E):ev G cl (.slZ a b) r h=(ev G cl a r h).bind λx h=>(ev G cl b r h).bind λy h=>slZD x y h:=by rw[ev]<;>rfl
@[simp] theorem evChn(op op':Cop)(a b c:E):ev G cl (.chn op op' a b c) r h=(ev G cl a r h).bind λx h=>(ev G cl b r h).bind λy h=>(cmpD op x y h).bind λp h=>match p with
 |.bl true=>(ev G cl c r h).bind λz h=>cmpD op' y z h
 |.bl false=>.ok (.bl false) h
 |_=>.bad:=by rw[ev]<;>rfl
@[simp] theorem evRev(o:E):ev G cl (.rev o) r h=(ev G cl o r h).bind λx h=>revD x h:=by rw[ev]<;>rfl
theorem evDcT(t:Tg)(i k v:E)(N:List Str)(cap:List Nat):ev G cl (.dcT t i k v N cap) r h=(ev G cl i r h).bind λx h=>dtL t (ev G cl k) (ev G cl v) x (blockE N cap r) h:=by rw[ev]<;>rfl
@[simp] theorem xsAsgL(l:List Nat)(e:E):xs G cl W (.asgL l e) r h=(ev G cl e r h).nx.bind λx h=>match x with
 |.ref n=>(match lstAt h n with
  |some ds=>if ds.length=l.length then .ok (.nx (setAll l ds r)) h else .bad
  |none=>.bad)
 |_=>.bad:=by rw[xs]<;>rfl
@[simp] theorem xsExN(cn:Str)(f:Nat)(l:Es):xs G cl W (.exN cn f l) r h=(evs G cl l r h).nx.bind λds h=>((newD cn (cl f) ds h).inn r).bind λ_ h=>.ok (.nx r) h:=by rw[xs]<;>rfl
@[simp] theorem xsSfl(o:E)(cn f:Str)(e:E):xs G cl W (.sfl o cn f e) r h=(ev G cl e r h).nx.bind λz h=>(ev G cl o r h).nx.bind λx h=>(satD cn x z f h).nx.bind λ_ h=>.ok (.nx r) h:=by rw[xs]<;>rfl
@[simp] theorem bIs(x y:D):bltD .isinst [x,y] h=isinL x y h:=rfl
@[simp] theorem bIntI(i:Int):bltD .int [.int i] h=.ok (.int i) h:=rfl
@[simp] theorem bIntB(i:Bool):bltD .int [.bl i] h=.ok (.int (if i then 1 else 0)) h:=rfl
@[simp] theorem bList(x:D):bltD .list [x] h=(match seqD x h with|some l=>.ok (.ref h.length) (h++ [.lst l])|none=>.bad):=rfl
@[simp] theorem jz6(n:Nat):isLst (.ref n) h=(lstAt h n).isSome:=rfl
@[simp] theorem appR(n:Nat)(y:D):appD (.ref n) y h=(match h[n]? with|some (.lst l)=>if l.length<1000000 then .ok .non (h.set n (.lst (l++ [y]))) else .bad|_=>.bad):=rfl
@[simp] theorem jzv(l:List D):lstAt (h++ [.lst l]) h.length=some l:=by simp[lstAt,lstOf]
theorem jzC{n:Nat}{l:List D}(o:List O)(e:lstAt h n=some l):lstAt (h++o) n=some l:=by
 unfold lstAt at e⊢
 cases q:h[n]? with
 |none=>rw[q] at e;cases e
 |some u=>
  rw[List.getElem?_append_left (List.getElem?_eq_some_iff.mp q).1,q]
  rw[q] at e;exact e
@[simp] theorem jzH(o:O):(h++ [o])[h.length]? =some o:=by simp
@[simp] theorem wzj(o o':O):(h++ [o]).set h.length o'=h++ [o']:=by simp
@[simp] theorem forS0(t:Tg)(b:Ev->Hh->Rs Fl):forS t b [] r h=.ok (.nx r) h:=rfl
@[simp] theorem forS1(t:Tg)(b:Ev->Hh->Rs Fl)(d:D)(ds:List D):forS t b (d::ds) r h=(match setT t d r with|none=>.bad|some r1=>(b r1 h).bind λfl h=>match fl with|.nx r2=>forS t b ds r2 h|.ct r2=>forS t b ds r2 h|.bk r2=>.ok (.nx r2) h|.rt d=>.ok (.rt d) h):=rfl
@[simp] theorem forDT(t:Tg)(b:Ev->Hh->Rs Fl)(l:List D):forD W t b (.tup l) r h=forS t b l r h:=rfl
@[simp] theorem forDR(t:Tg)(b:Ev->Hh->Rs Fl)(n:Nat):forD W t b (.ref n) r h=forI t b n W 0 r h:=rfl
@[simp] theorem endRt(d:D):endD (.rt d) h=.ok d h:=rfl
@[simp] theorem endNx(d:Ev):endD (.nx d) h=.ok .non h:=rfl
end
theorem jzk{G:Gs}{T:Nat->Option Fc}{W n f:Nat}{c:Fc}{ds:List D}{h:Hh}(hc:T f=some c)(hl:ds.length=c.np):callD G T W (n+1) f ds h=(xss G (callD G T W n) W c.body (ds.map some++List.replicate (c.ns-c.np) none) h).bind endD:=by
 simp only[callD,hc]
 rw[if_pos hl]
end Ng
end
section
namespace Ng
open PySem L2
def dW1c:E:=(.and (.cmp .gt (.var 3) (.int 0)) (.cmp .lt (.blt .len (.cons (.var 5) .nil)) (.var 2)))
def dW1b:Ss:=(.cons (.ex (.app (.var 5) (.bin .mod (.var 3) (.int 1013)))) (.cons (.asg (.nm 3) (.bin .fdiv (.var 3) (.int 1013))) .nil))
def dW2c:E:=(.cmp .lt (.blt .len (.cons (.var 5) .nil)) (.var 2))
def dW2b:Ss:=(.cons (.asg (.nm 6) (.bin .add (.blt .len (.cons (.var 5) .nil)) (.int 1))) (.cons (.asg (.nm 4) (.bin .mod (.bin .add (.bin .add (.bin .mul (.var 4) (.int 48271)) (.bin .mul (.bin .mul (.var 6) (.var 6)) (.int 6133))) (.int 17)) (.int 2147483647))) (.cons (.ex (.app (.var 5) (.bin .mod (.bin .mod (.bin .mul (.bin .mod (.var 4) (.int 65521)) (.bin .add (.bin .mod (.bin .fdiv (.var 4) (.int 65521)) (.int 32749)) (.int 1))) (.int 1000003)) (.int 1013)))) .nil)))
def InR(row:List Int):Prop:=∀v∈row,0<=v/\v<1013
theorem InR.snoc{row:List Int}{v:Int}(h:InR row)(a:0<=v)(b:v<1013):InR (row++ [v]):=λu hu=>by
 rcases List.mem_append.mp hu with hu|hu
 ·exact h u hu
 ·have:u=v:=by simpa using hu
  subst this;exact⟨a,b⟩
section
variable (G:Gs)(cl:Cl)(W:Nat)(h:Hh)
theorem dW1(M:Nat)(hM:M<=1000)(d0 d1 d4:Option D)(d6:Option D):∀(k:Nat)(row:List Int)(cell:Int),row.length<=M->InR row->M-row.length<k->
 ∃row' cell',row'.length<=M/\InR row'/\whileF (ev G cl dW1c) (xss G cl W dW1b) k [d0,d1,some (.int M),some (.int cell),d4,some (.ref h.length),d6] (h++ [.lst (row.map D.int)])
  =.ok (.nx [d0,d1,some (.int M),some (.int cell'),d4,some (.ref h.length),d6]) (h++ [.lst (row'.map D.int)])
 |0,_,_,_,_,hk=>by omega
 |k+1,row,cell,hl,hr,hk=>by
  by_cases hc:0<cell
  ·by_cases hm:row.length<M
   ·have hm':((row.length:Int)<(M:Int)):=by omega
    have hb:InR (row++ [cell%1013]):=hr.snoc (Int.emod_nonneg _ (by decide)) (Int.emod_lt_of_pos _ (by decide))
    obtain⟨row',cell',h1,h2,h3⟩:=dW1 M hM d0 d1 d4 d6 k (row++ [cell%1013]) (cell/1013) (by simp;omega) hb (by simp;omega)
    refine⟨row',cell',h1,h2,?_⟩
    rw[<- h3]
    have hz:row.length<1000000:=by omega
    simp (disch:=omega) [whileF,dW1c,dW1b,hc,hm',hm,hz,bMod,bDiv]
   ·refine⟨row,cell,hl,hr,?_⟩
    have hm':¬((row.length:Int)<(M:Int)):=by omega
    simp[whileF,dW1c,hc,hm',hm]
  ·refine⟨row,cell,hl,hr,?_⟩
   simp[whileF,dW1c,hc]
def nxS(mark seed:Int):Int:=(seed*48271+mark*mark*6133+17)%2147483647
def nxV(s:Int):Int:=(s%65521)*(s/65521%32749+1)%1000003%1013
theorem dT2(d0 d1 d2 d3 d5:Option D)(mark seed:Int)(hm:0<=mark)(hm2:mark<100000)(hh:Hh):
 xs G cl W (.asg (.nm 4) (.bin .mod (.bin .add (.bin .add (.bin .mul (.var 4) (.int 48271)) (.bin .mul (.bin .mul (.var 6) (.var 6)) (.int 6133))) (.int 17)) (.int 2147483647))) [d0,d1,d2,d3,some (.int seed),d5,some (.int mark)] hh
  =.ok (.nx [d0,d1,d2,d3,some (.int (nxS mark seed)),d5,some (.int mark)]) hh:=by
 have m1:binD .mul (.int mark) (.int mark) hh=.ok (.int (mark*mark)) hh:=bMulL hh (by omega) (by omega)
 have m2:binD .mul (.int seed) (.int 48271) hh=.ok (.int (seed*48271)) hh:=bMulR hh (by omega) (by omega)
 have m3:∀x:Int,binD .mul (.int x) (.int 6133) hh=.ok (.int (x*6133)) hh:=λx=>bMulR hh (by omega) (by omega)
 have q1:∀x:Int,binD .mod (.int x) (.int 2147483647) hh=.ok (.int (x%2147483647)) hh:=λx=>bMod hh (by omega)
 have e1:∀x:Int,(seed*48271+mark*mark*6133+17)%2147483647=nxS mark seed:=λ_=>rfl
 simp only[xsAsg,evBin,evVar,List.getElem?_cons_succ,ge0,evInt,jze,nxOk,m1,m2,m3,bAdd,q1,setNm,List.set_cons_succ,List.set_cons_zero,e1 0]
theorem dT3(d0 d1 d2 d3 d6:Option D)(row:List Int)(seed:Int)(hz:row.length<1000000):
 xs G cl W (.ex (.app (.var 5) (.bin .mod (.bin .mod (.bin .mul (.bin .mod (.var 4) (.int 65521)) (.bin .add (.bin .mod (.bin .fdiv (.var 4) (.int 65521)) (.int 32749)) (.int 1))) (.int 1000003)) (.int 1013)))) [d0,d1,d2,d3,some (.int seed),some (.ref h.length),d6] (h++ [.lst (row.map D.int)])
  =.ok (.nx [d0,d1,d2,d3,some (.int seed),some (.ref h.length),d6]) (h++ [.lst ((row++ [nxV seed]).map D.int)]):=by
 have hk:=Int.emod_nonneg seed (show(65521:Int)≠0 by decide)
 have hk2:=Int.emod_lt_of_pos seed (show(0:Int)<65521 by decide)
 have m4:∀(x:Int) hh,binD .mul (.int (seed%65521)) (.int x) hh=.ok (.int ((seed%65521)*x)) hh:=λx hh=>bMulL hh (by omega) (by omega)
 have q2:∀(x:Int) hh,binD .mod (.int x) (.int 65521) hh=.ok (.int (x%65521)) hh:=λx hh=>bMod hh (by omega)
 have q3:∀(x:Int) hh,binD .mod (.int x) (.int 32749) hh=.ok (.int (x%32749)) hh:=λx hh=>bMod hh (by omega)
 have q4:∀(x:Int) hh,binD .mod (.int x) (.int 1000003) hh=.ok (.int (x%1000003)) hh:=λx hh=>bMod hh (by omega)
 have q5:∀(x:Int) hh,binD .mod (.int x) (.int 1013) hh=.ok (.int (x%1013)) hh:=λx hh=>bMod hh (by omega)
 have q6:∀(x:Int) hh,binD .fdiv (.int x) (.int 65521) hh=.ok (.int (x/65521)) hh:=λx hh=>bDiv hh (by omega) (by omega)
 have e2:∀s:Int,(s%65521)*(s/65521%32749+1)%1000003%1013=nxV s:=λ_=>rfl
 simp only[xsEx,evBin,evVar,List.getElem?_cons_succ,ge0,evInt,jze,nxOk,evApp,jz6,jzv,Option.isSome_some,if_true,bAdd,q2,q3,q4,q5,q6,m4,e2,appR,jzH,List.length_map,hz,if_pos,wzj,List.map_append,List.map_cons,List.map_nil]
theorem dT1(d0 d1 d2 d3 d4 d6:Option D)(row:List Int):
 xs G cl W (.asg (.nm 6) (.bin .add (.blt .len (.cons (.var 5) .nil)) (.int 1))) [d0,d1,d2,d3,d4,some (.ref h.length),d6] (h++ [.lst (row.map D.int)])
  =.ok (.nx [d0,d1,d2,d3,d4,some (.ref h.length),some (.int ((row.length:Int)+1))]) (h++ [.lst (row.map D.int)]):=by
 simp only[xsAsg,evBin,evBlt,jzB,jzO,evVar,List.getElem?_cons_succ,ge0,evInt,jze,nxOk,bLen,sRef,jzv,List.length_map,bAdd,setNm,List.set_cons_succ,List.set_cons_zero]
theorem dW2turn(d0 d1 d2 d3 d6:Option D)(row:List Int)(seed:Int)(hz:row.length<1000):
 xss G cl W dW2b [d0,d1,d2,d3,some (.int seed),some (.ref h.length),d6] (h++ [.lst (row.map D.int)])
  =.ok (.nx [d0,d1,d2,d3,some (.int (nxS ((row.length:Int)+1) seed)),some (.ref h.length),some (.int ((row.length:Int)+1))]) (h++ [.lst ((row++ [nxV (nxS ((row.length:Int)+1) seed)]).map D.int)]):=by
 rw[dW2b,xssNx (dT1 G cl W h d0 d1 d2 d3 _ d6 row),xssNx (dT2 G cl W d0 d1 d2 d3 _ _ seed (by omega) (by omega) _),xssNx (dT3 G cl W h _ _ _ _ _ row _ (by omega)),jzq]
theorem dW2(M:Nat)(hM:M<=1000)(d0 d1 d3:Option D):∀(k:Nat)(row:List Int)(seed:Int)(d6:Option D),row.length<=M->InR row->M-row.length<k->
 ∃row' seed' d6',row'.length=M/\InR row'/\whileF (ev G cl dW2c) (xss G cl W dW2b) k [d0,d1,some (.int M),d3,some (.int seed),some (.ref h.length),d6] (h++ [.lst (row.map D.int)])
  =.ok (.nx [d0,d1,some (.int M),d3,some (.int seed'),some (.ref h.length),d6']) (h++ [.lst (row'.map D.int)]):=by
 intro k
 induction k with
 |zero=>intro row seed d6 _ _ hk;omega
 |succ k ih=>
  intro row seed d6 hl hr hk
  by_cases hm:row.length<M
  ·have hm':((row.length:Int)<(M:Int)):=by omega
   obtain⟨row',seed',d6',h1,h2,h3⟩:=ih (row++ [nxV (nxS ((row.length:Int)+1) seed)]) (nxS ((row.length:Int)+1) seed) (some (.int ((row.length:Int)+1))) (by simp;omega)
    (hr.snoc (Int.emod_nonneg _ (by decide)) (Int.emod_lt_of_pos _ (by decide))) (by simp;omega)
   refine⟨row',seed',d6',h1,h2,?_⟩
   rw[<- h3]
   have hc:ev G cl dW2c [d0,d1,some (.int M),d3,some (.int seed),some (.ref h.length),d6] (h++ [.lst (row.map D.int)])=.ok (.bl true) (h++ [.lst (row.map D.int)]):=by simp[dW2c,hm]
   simp only[whileF,hc,jze,nxOk,tBl,dW2turn G cl W h d0 d1 _ d3 d6 row seed (by omega)]
  ·refine⟨row,seed,d6,by omega,hr,?_⟩
   have hc:ev G cl dW2c [d0,d1,some (.int M),d3,some (.int seed),some (.ref h.length),d6] (h++ [.lst (row.map D.int)])=.ok (.bl false) (h++ [.lst (row.map D.int)]):=by simp[dW2c,hm]
   simp only[whileF,hc,jze,nxOk,tBl]
def dIf:S:=.iff (.cmp .lt (.var 1) (.blt .len (.cons (.var 0) .nil))) (.cons (.asg (.nm 3) (.ix (.var 0) (.var 1))) .nil) (.cons (.iff (.cmp .gt (.blt .len (.cons (.var 0) .nil)) (.int 0)) (.cons (.asg (.nm 3) (.bin .add (.bin .add (.bin .mod (.ix (.var 0) (.bin .mod (.var 1) (.blt .len (.cons (.var 0) .nil)))) (.int 999983)) (.bin .mul (.bin .mul (.var 1) (.var 1)) (.int 97))) (.int 1))) .nil) .nil) .nil)
def drawsB:Ss:=(.cons (.asg (.nm 3) (.bin .add (.bin .mul (.int 7) (.var 1)) (.int 1))) (.cons dIf (.cons (.asg (.nm 4) (.bin .add (.bin .add (.bin .mod (.var 3) (.int 999983)) (.bin .mul (.int 31) (.var 1))) (.int 5))) (.cons (.asg (.nm 5) (.lst .nil)) (.cons (.iff (.cmp .ge (.var 3) (.bin .pow (.int 10) (.int 18))) (.cons (.whl dW1c dW1b) .nil) .nil) (.cons (.whl dW2c dW2b) (.cons (.ret (.var 5)) .nil)))))))
theorem atI_ok{l:List Int}{i:Int}(a:0<=i)(b:i<l.length):∃v,atI (l.map D.int) i=some (.int v):=by
 have hb:i.toNat<l.length:=by omega
 refine⟨l[i.toNat],?_⟩
 have:=qza (xs:=l.map D.int) (j:=i.toNat) (v:=.int l[i.toNat]) (by rw[List.getElem?_map,List.getElem?_eq_getElem hb];rfl)
 rwa [show((i.toNat:Nat):Int)=i by omega] at this
theorem dIf_ok(s:Nat)(ns:List Int)(at' c0:Int)(d2 d4 d5 d6:Option D)(h0:0<=at')(h1:at'<100000)(hs:lstAt h s=some (ns.map D.int)):
 ∃c:Int,xs G cl W dIf [some (.ref s),some (.int at'),d2,some (.int c0),d4,d5,d6] h=.ok (.nx [some (.ref s),some (.int at'),d2,some (.int c),d4,d5,d6]) h:=by
 by_cases hl:at'<(ns.length:Int)
 ·obtain⟨v,hv⟩:=atI_ok h0 hl
  exact⟨v,by simp[dIf,hs,hl,hv,iRef h _ hs]⟩
 ·by_cases hp:(0:Int)<ns.length
  ·obtain⟨v,hv⟩:=atI_ok (l:=ns) (i:=at'%ns.length) (Int.emod_nonneg _ (by omega)) (Int.emod_lt_of_pos _ hp)
   have m0:∀x:Int,binD .mod (.int x) (.int ns.length) h=.ok (.int (x%ns.length)) h:=λx=>bMod h hp
   have m1:binD .mul (.int at') (.int at') h=.ok (.int (at'*at')) h:=bMulL h (by omega) (by omega)
   have m2:∀x:Int,binD .mul (.int x) (.int 97) h=.ok (.int (x*97)) h:=λx=>bMulR h (by omega) (by omega)
   have m3:∀x:Int,binD .mod (.int x) (.int 999983) h=.ok (.int (x%999983)) h:=λx=>bMod h (by omega)
   refine⟨v%999983+at'*at'*97+1,?_⟩
   simp only[dIf,xsIff,wzd,jzq,xsAsg,evCmp,evVar,List.getElem?_cons_succ,ge0,evBlt,jzB,jzO,jze,nxOk,bLen,sRef,hs,List.length_map,cLt,tBl,hl,decide_false,evInt,cGt,hp,decide_true,evBin,evIx,m0,iRef h _ hs,hv,m1,m2,m3,bAdd,setNm,List.set_cons_succ,List.set_cons_zero]
  ·have hp2:¬(0<ns.length):=by omega
   exact⟨c0,by simp[dIf,hs,hl,hp,hp2]⟩
theorem draws_ok(s:Nat)(ns:List Int)(at':Int)(M:Nat)(hM:M<=1000)(h0:0<=at')(h1:at'<100000)(hs:lstAt h s=some (ns.map D.int))(hW:2000<=W):
 ∃row:List Int,row.length=M/\InR row/\xss G cl W drawsB [some (.ref s),some (.int at'),some (.int M),none,none,none,none] h=.ok (.rt (.ref h.length)) (h++ [.lst (row.map D.int)]):=by
 have a1:xs G cl W (.asg (.nm 3) (.bin .add (.bin .mul (.int 7) (.var 1)) (.int 1))) [some (.ref s),some (.int at'),some (.int M),none,none,none,none] h=.ok (.nx [some (.ref s),some (.int at'),some (.int M),some (.int (7*at'+1)),none,none,none]) h:=by
  have m1:binD .mul (.int 7) (.int at') h=.ok (.int (7*at')) h:=bMulL h (by omega) (by omega)
  simp only[xsAsg,evBin,evVar,List.getElem?_cons_succ,ge0,evInt,jze,nxOk,m1,bAdd,setNm,List.set_cons_succ,List.set_cons_zero]
 obtain⟨c,a2⟩:=dIf_ok G cl W h s ns at' (7*at'+1) (some (.int M)) none none none h0 h1 hs
 have a3:xs G cl W (.asg (.nm 4) (.bin .add (.bin .add (.bin .mod (.var 3) (.int 999983)) (.bin .mul (.int 31) (.var 1))) (.int 5))) [some (.ref s),some (.int at'),some (.int M),some (.int c),none,none,none] h=.ok (.nx [some (.ref s),some (.int at'),some (.int M),some (.int c),some (.int (c%999983+31*at'+5)),none,none]) h:=by
  have m1:binD .mul (.int 31) (.int at') h=.ok (.int (31*at')) h:=bMulL h (by omega) (by omega)
  have m3:∀x:Int,binD .mod (.int x) (.int 999983) h=.ok (.int (x%999983)) h:=λx=>bMod h (by omega)
  simp only[xsAsg,evBin,evVar,List.getElem?_cons_succ,ge0,evInt,jze,nxOk,m1,m3,bAdd,setNm,List.set_cons_succ,List.set_cons_zero]
 have a4:∀x:Int,xs G cl W (.asg (.nm 5) (.lst .nil)) [some (.ref s),some (.int at'),some (.int M),some (.int c),some (.int x),none,none] h=.ok (.nx [some (.ref s),some (.int at'),some (.int M),some (.int c),some (.int x),some (.ref h.length),none]) (h++ [.lst (([]:List Int).map D.int)]):=λx=>by
  simp[xsAsg]
 have a5:∀x:Int,∃row c',row.length<=M/\InR row/\xs G cl W (.iff (.cmp .ge (.var 3) (.bin .pow (.int 10) (.int 18))) (.cons (.whl dW1c dW1b) .nil) .nil) [some (.ref s),some (.int at'),some (.int M),some (.int c),some (.int x),some (.ref h.length),none] (h++ [.lst (([]:List Int).map D.int)])
  =.ok (.nx [some (.ref s),some (.int at'),some (.int M),some (.int c'),some (.int x),some (.ref h.length),none]) (h++ [.lst (row.map D.int)]):=λx=>by
  by_cases hc:(1000000000000000000:Int)<=c
  ·obtain⟨row,c',r1,r2,r3⟩:=dW1 G cl W h M hM (some (.ref s)) (some (.int at')) (some (.int x)) none W [] c (Nat.zero_le _) (λ_ z=>by cases z) (by simp;omega)
   refine⟨row,c',r1,r2,?_⟩
   simp only[xsIff,evCmp,evVar,List.getElem?_cons_succ,ge0,evBin,evInt,jze,nxOk,bPow18,cGe,hc,decide_true,tBl,wzd,xsWhl,r3,jzq]
  ·refine⟨[],c,Nat.zero_le _,(λ_ z=>by cases z),?_⟩
   simp only[xsIff,evCmp,evVar,List.getElem?_cons_succ,ge0,evBin,evInt,jze,nxOk,bPow18,cGe,hc,decide_false,tBl,jzq]
 obtain⟨row1,c',r1,r2,a5⟩:=a5 (c%999983+31*at'+5)
 obtain⟨row,sd,d6,q1,q2,a6⟩:=dW2 G cl W h M hM (some (.ref s)) (some (.int at')) (some (.int c')) W row1 (c%999983+31*at'+5) none r1 r2 (by omega)
 refine⟨row,q1,q2,?_⟩
 rw[drawsB,xssNx a1,xssNx a2,xssNx a3,xssNx (a4 _),xssNx a5,xssNx (show xs G cl W (.whl dW2c dW2b) _ _=_ from(xsWhl G cl W _ _ dW2c dW2b).trans a6)]
 exact xssRt (by simp only[xsRet,evVar,List.getElem?_cons_succ,ge0,jze,nxOk])
end
end Ng
end
section
namespace Ng
open PySem L2
theorem zz8{t:Tg}{body:Ev->Hh->Rs Fl}(F:Ev->Prop)(h:Hh):∀(l:List D),(∀d∈l,∀r,F r->∃r1 r2,setT t d r=some r1/\body r1 h=.ok (.nx r2) h/\F r2)->∀r,F r->∃r',forS t body l r h=.ok (.nx r') h/\F r'
 | [],_,r,hF=>⟨r,by simp,hF⟩
 |d::l,hb,r,hF=>by
  obtain⟨r1,r2,e1,e2,f2⟩:=hb d List.mem_cons_self r hF
  obtain⟨r',e3,f3⟩:=zz8 F h l (λd hd=>hb d (List.mem_cons_of_mem _ hd)) r2 f2
  refine⟨r',?_,f3⟩
  rw[<- e3,forS1,e1]
  show(body r1 h).bind _=_
  rw[e2]
  rfl
theorem t8{t:Int}(h0:0<=t)(h1:t<8):t=0\/t=1\/t=2\/t=3\/t=4\/t=5\/t=6\/t=7:=by omega
def tx(t x y:Int):Int:=if t=0 then x else if t=1 then -y else if t=2 then -x else if t=3 then y else if t=4 then -x else if t=5 then -y else if t=6 then x else y
def ty(t x y:Int):Int:=if t=0 then y else if t=1 then x else if t=2 then -y else if t=3 then -x else if t=4 then y else if t=5 then -x else if t=6 then -y else x
section
variable (h:Hh)
@[simp] theorem isStrTL(i:Str):isinL (.str i) (.tup [.ty "tuple",.ty "list"]) h=.ok (.bl false) h:=rfl
@[simp] theorem isBlTL(i:Bool):isinL (.bl i) (.tup [.ty "tuple",.ty "list"]) h=.ok (.bl false) h:=rfl
@[simp] theorem isNonTL:isinL .non (.tup [.ty "tuple",.ty "list"]) h=.ok (.bl false) h:=rfl
@[simp] theorem isStrB(i:Str):isinL (.str i) (.ty "bool") h=.ok (.bl false) h:=rfl
@[simp] theorem isStrI(i:Str):isinL (.str i) (.ty "int") h=.ok (.bl false) h:=rfl
@[simp] theorem isStrS(i:Str):isinL (.str i) (.ty "str") h=.ok (.bl true) h:=rfl
@[simp] theorem isBlB(i:Bool):isinL (.bl i) (.ty "bool") h=.ok (.bl true) h:=rfl
@[simp] theorem inN:isNon .non=true:=rfl
@[simp] theorem inI(i:Int):isNon (.int i)=false:=rfl
@[simp] theorem inS(i:Str):isNon (.str i)=false:=rfl
@[simp] theorem inB(i:Bool):isNon (.bl i)=false:=rfl
@[simp] theorem inTu(i:List D):isNon (.tup i)=false:=rfl
@[simp] theorem inR(i:Nat):isNon (.ref i)=false:=rfl
end
def pd:Nat->D->Bool
 |_,.int _=>true
 |_,.str _=>true
 |_,.bl _=>true
 |_,.non=>true
 |k+1,.tup l=>decide (l.length<=1000)&&l.all (pd k)
 |_,_=>false
theorem rngD_mem{j:Nat}{d:D}(hd:d∈rngD 0 j):∃k:Nat,k<j/\d=.int k:=by
 unfold rngD at hd
 obtain⟨k,hk,rfl⟩:=List.mem_map.mp hd
 exact⟨k,by simpa using hk,by simp⟩
end Ng
end
section
namespace Ng
open PySem L2
theorem qzP(h0 g:Hh)(o:O):(h0++o::g)[h0.length]? =some o:=by simp
theorem zzr(h0 g:Hh)(o o':O):(h0++o::g).set h0.length o'=h0++o'::g:=by simp
theorem xzJ(h0 g:Hh)(l:List D)(y:D)(hl:l.length<1000000):appD (.ref h0.length) y (h0++ .lst l::g)=.ok .non (h0++ .lst (l++ [y])::g):=by
 rw[appR,qzP]
 show(if _ then _ else _)=_
 rw[if_pos hl,zzr]
theorem jzN(h0 g:Hh)(l:List D):lstAt (h0++ .lst l::g) h0.length=some l:=by
 unfold lstAt;rw[qzP];rfl
theorem qzx{t:Tg}{body:Ev->Hh->Rs Fl}(I:Nat->Ev->Hh->Prop):∀(l:List D)(i:Nat),(∀j d,l[j]? =some d->∀r h,I (i+j) r h->∃r1 r2 h2,setT t d r=some r1/\body r1 h=.ok (.nx r2) h2/\I (i+j+1) r2 h2)->
 ∀r h,I i r h->∃r' h',forS t body l r h=.ok (.nx r') h'/\I (i+l.length) r' h'
 | [],i,_,r,h,hI=>⟨r,h,by simp,hI⟩
 |d::l,i,hb,r,h,hI=>by
  obtain⟨r1,r2,h2,e1,e2,i2⟩:=hb 0 d rfl r h hI
  obtain⟨r',h',e3,i3⟩:=qzx I l (i+1) (λj d hd r h hI=>by
   have:=hb (j+1) d (by simpa using hd) r h (by rw[show i+(j+1)=i+1+j by omega];exact hI)
   rw[show i+(j+1)=i+1+j by omega] at this
   exact this) r2 h2 i2
  refine⟨r',h',?_,by rw[List.length_cons,show i+(l.length+1)=i+1+l.length by omega];exact i3⟩
  rw[<- e3,forS1,e1]
  show(body r1 h).bind _=_
  rw[e2]
  rfl
theorem wzk(j k:Nat)(hk:k<j):(rngD 0 j)[k]? =some (D.int k):=by
 unfold rngD
 rw[List.getElem?_map,List.getElem?_range (by simpa using hk)]
 simp
theorem qzc(j:Nat):(rngD 0 j).length=j:=by unfold rngD;simp
theorem xze{G:Gs}{cl:Cl}{t:Tg}{it cs:Es}{e:E}{N:List Str}{cap:List Nat}{r:Ev}{h h1 h':Hh}{j:Int}(hi:evs G cl it r h=.ok [.int j] h1)(hj:okR j)
 (hc:compS t (evt G cl cs) (ev G cl e) h1.length (rngD 0 j) (blockE N cap r) (h1++ [O.lst []])=.ok () h'):ev G cl (.comp t .r1 it cs e N cap) r h=.ok (.ref h1.length) h':=by
 rw[vzI,hi]
 show(compL t _ _ _ .r1 [.int j] h1 _ _).bind _=_
 have e':compL t (evt G cl cs) (ev G cl e) h1.length .r1 [.int j] h1 (blockE N cap r) (h1++ [O.lst []])=.ok () h':=by
  show(if okR j then _ else _)=_
  rw[if_pos hj];exact hc
 rw[e'];rfl
theorem wza{G:Gs}{cl:Cl}{t:Tg}{it cs:Es}{e:E}{N:List Str}{cap:List Nat}{r:Ev}{h h1 h':Hh}{n:Nat}{l:List D}(hi:evs G cl it r h=.ok [.ref n] h1)(hl:lstAt h1 n=some l)
 (hc:compI t (evt G cl cs) (ev G cl e) h1.length n (l.length+1) 0 (blockE N cap r) (h1++ [O.lst []])=.ok () h'):ev G cl (.comp t .sq it cs e N cap) r h=.ok (.ref h1.length) h':=by
 rw[vzI,hi]
 show(compL t _ _ _ .sq [.ref n] h1 _ _).bind _=_
 have e':compL t (evt G cl cs) (ev G cl e) h1.length .sq [.ref n] h1 (blockE N cap r) (h1++ [O.lst []])=.ok () h':=by
  show(match lstAt h1 n with|some l=>compI t (evt G cl cs) (ev G cl e) h1.length n (l.length+1) 0 (blockE N cap r) (h1++ [O.lst []])|none=>.bad)=_
  rw[hl];exact hc
 rw[e'];rfl
theorem qzv{G:Gs}{cl:Cl}{W:Nat}{t:Tg}{e:E}{b:Ss}{r:Ev}{h h1 h':Hh}{j:Int}{fl:Fl}(hi:ev G cl e r h=.ok (.int j) h1)(hj:okR j)(hf:forS t (xss G cl W b) (rngD 0 j) r h1=.ok fl h'):xs G cl W (.forr t (.r1 e) b) r h=.ok fl h':=by
 rw[xsFor1,hi]
 show(if okR j then _ else _)=_
 rw[if_pos hj];exact hf
theorem qzD{n:Nat}(h:n<=1000000):okR (n:Int):=by unfold okR;omega
end Ng
end
section
namespace Ng
open PySem L2
def tb(t:Int):Int:=if 4<=t then t else(-t)%4
theorem tb_in{t:Int}(h0:0<=t)(h1:t<8):0<=tb t/\tb t<8:=by
 unfold tb;split<;>omega
def tbh(a b:Int):Int:=(if 4<=b then b-a else b+a)%4+(if decide (4<=a)=decide (4<=b) then 0 else 4)
theorem tbh_in(a b:Int):0<=tbh a b/\tbh a b<8:=by
 unfold tbh;split<;>split<;>omega
abbrev M3:=Int×Int×Int
def mo(m:M3):D:=.tup [.int m.1,.int m.2.1,.int m.2.2]
def ok8(m:M3):Prop:=0<=m.1/\m.1<8
def bh(m n:M3):M3:=(tbh m.1 n.1,tx n.1 m.2.1 m.2.2+n.2.1,ty n.1 m.2.1 m.2.2+n.2.2)
def bk(m:M3):M3:=(tb m.1, -tx (tb m.1) m.2.1 m.2.2, -ty (tb m.1) m.2.1 m.2.2)
def act(m:M3)(x:Int×Int):Int×Int:=(tx m.1 x.1 x.2+m.2.1,ty m.1 x.1 x.2+m.2.2)
def pl(x:Int×Int):D:=.tup [.int x.1,.int x.2]
def cf(t:Int):Int×Int×Int×Int:=if t=0 then(1,0,0,1) else if t=1 then(0, -1,1,0) else if t=2 then(-1,0,0, -1) else if t=3 then(0,1, -1,0) else if t=4 then(-1,0,0,1) else if t=5 then(0, -1, -1,0) else if t=6 then(1,0,0, -1) else(0,1,1,0)
theorem tx_cf(t x y:Int):tx t x y=(cf t).1*x+(cf t).2.1*y:=by
 unfold tx cf
 split
 ·simp
 split
 ·simp
 split
 ·simp
 split
 ·simp
 split
 ·simp
 split
 ·simp
 split
 ·simp
 ·simp
theorem ty_cf(t x y:Int):ty t x y=(cf t).2.2.1*x+(cf t).2.2.2*y:=by
 unfold ty cf
 split
 ·simp
 split
 ·simp
 split
 ·simp
 split
 ·simp
 split
 ·simp
 split
 ·simp
 split
 ·simp
 ·simp
theorem t00(t:Int):tx t 0 0=0/\ty t 0 0=0:=by rw[tx_cf,ty_cf];simp
theorem bh8(m n:M3):ok8 (bh m n):=tbh_in m.1 n.1
theorem bk8{m:M3}(h:ok8 m):ok8 (bk m):=tb_in h.1 h.2
theorem fin8{t:Int}(h0:0<=t)(h1:t<8):∃k:Fin 8,t=(k.1:Int):=⟨⟨t.toNat,by omega⟩,by simp;omega⟩
theorem tbhC:∀a b:Fin 8,cf (tbh (a.1:Int) (b.1:Int))=((cf (b.1:Int)).1*(cf (a.1:Int)).1+(cf (b.1:Int)).2.1*(cf (a.1:Int)).2.2.1,(cf (b.1:Int)).1*(cf (a.1:Int)).2.1+(cf (b.1:Int)).2.1*(cf (a.1:Int)).2.2.2,
 (cf (b.1:Int)).2.2.1*(cf (a.1:Int)).1+(cf (b.1:Int)).2.2.2*(cf (a.1:Int)).2.2.1,(cf (b.1:Int)).2.2.1*(cf (a.1:Int)).2.1+(cf (b.1:Int)).2.2.2*(cf (a.1:Int)).2.2.2):=by decide+kernel
theorem t_bh{t u:Int}(h0:0<=t)(h1:t<8)(h2:0<=u)(h3:u<8)(x y:Int):tx (tbh t u) x y=tx u (tx t x y) (ty t x y)/\ty (tbh t u) x y=ty u (tx t x y) (ty t x y):=by
 obtain⟨i,rfl⟩:=fin8 h0 h1
 obtain⟨j,rfl⟩:=fin8 h2 h3
 simp only[tx_cf,ty_cf,tbhC i j]
 constructor
 ·rw[Int.add_mul,Int.add_mul,Int.mul_add,Int.mul_add]
  simp only[Int.mul_assoc];omega
 ·rw[Int.add_mul,Int.add_mul,Int.mul_add,Int.mul_add]
  simp only[Int.mul_assoc];omega
theorem t_add(t x y x' y':Int):tx t (x+x') (y+y')=tx t x y+tx t x' y'/\ty t (x+x') (y+y')=ty t x y+ty t x' y':=by
 simp only[tx_cf,ty_cf,Int.mul_add]
 constructor<;>omega
theorem t_neg(t x y:Int):tx t (-x) (-y)= -tx t x y/\ty t (-x) (-y)= -ty t x y:=by
 simp only[tx_cf,ty_cf,Int.mul_neg]
 constructor<;>omega
theorem tbhB:∀a:Fin 8,tbh (a.1:Int) (tb (a.1:Int))=0/\tbh (tb (a.1:Int)) (a.1:Int)=0/\tbh 0 (a.1:Int)=(a.1:Int)/\tbh (a.1:Int) 0=(a.1:Int):=by decide+kernel
theorem t_bk{t:Int}(h0:0<=t)(h1:t<8)(x y:Int):tx (tb t) (tx t x y) (ty t x y)=x/\ty (tb t) (tx t x y) (ty t x y)=y/\tx t (tx (tb t) x y) (ty (tb t) x y)=x/\ty t (tx (tb t) x y) (ty (tb t) x y)=y:=by
 obtain⟨b0,b1⟩:=tb_in h0 h1
 have z1:=t_bh h0 h1 b0 b1 x y
 have z2:=t_bh b0 b1 h0 h1 x y
 obtain⟨i,rfl⟩:=fin8 h0 h1
 have z:=tbhB i
 rw[z.1] at z1
 rw[z.2.1] at z2
 exact⟨z1.1.symm,z1.2.symm,z2.1.symm,z2.2.symm⟩
theorem xzL{a:M3}(ha:ok8 a)(x:Int×Int):act a (act (bk a) x)=x:=by
 obtain⟨t,p,q⟩:=a
 obtain⟨x,y⟩:=x
 obtain⟨b0,b1⟩:=ha
 simp only at b0 b1
 have z:=t_bk b0 b1 x y
 have z':=t_bk b0 b1 p q
 simp only[act,bk,(t_add _ _ _ _ _).1,(t_add _ _ _ _ _).2,(t_neg _ _ _).1,(t_neg _ _ _).2,z.2.2.1,z.2.2.2,z'.2.2.1,z'.2.2.2,Prod.mk.injEq]
 constructor<;>omega
theorem cf_f:∀k:Fin 8,(-2<(cf (k.1:Int)).1/\(cf (k.1:Int)).1<2)/\(-2<(cf (k.1:Int)).2.1/\(cf (k.1:Int)).2.1<2)/\(-2<(cf (k.1:Int)).2.2.1/\(cf (k.1:Int)).2.2.1<2)/\(-2<(cf (k.1:Int)).2.2.2/\(cf (k.1:Int)).2.2.2<2):=by decide+kernel
theorem cf_b{t:Int}(h0:0<=t)(h1:t<8):(-2<(cf t).1/\(cf t).1<2)/\(-2<(cf t).2.1/\(cf t).2.1<2)/\(-2<(cf t).2.2.1/\(cf t).2.2.1<2)/\(-2<(cf t).2.2.2/\(cf t).2.2.2<2):=by
 obtain⟨k,rfl⟩:=fin8 h0 h1
 exact cf_f k
theorem cf_at{t:Int}(h0:0<=t)(h1:t<8):atI [D.tup [.int 1,.int 0,.int 0,.int 1],.tup [.int 0,.int (-1),.int 1,.int 0],.tup [.int (-1),.int 0,.int 0,.int (-1)],.tup [.int 0,.int 1,.int (-1),.int 0],.tup [.int (-1),.int 0,.int 0,.int 1],.tup [.int 0,.int (-1),.int (-1),.int 0],.tup [.int 1,.int 0,.int 0,.int (-1)],.tup [.int 0,.int 1,.int 1,.int 0]] t=some (.tup [.int (cf t).1,.int (cf t).2.1,.int (cf t).2.2.1,.int (cf t).2.2.2]):=by
 rcases t8 h0 h1 with rfl|rfl|rfl|rfl|rfl|rfl|rfl|rfl<;>rfl
theorem tx_at{t:Int}(h0:0<=t)(h1:t<8)(x y:Int):atI [D.tup [.int x,.int y],.tup [.int (-y),.int x],.tup [.int (-x),.int (-y)],.tup [.int y,.int (-x)],.tup [.int (-x),.int y],.tup [.int (-y),.int (-x)],.tup [.int x,.int (-y)],.tup [.int y,.int x]] t=some (.tup [.int (tx t x y),.int (ty t x y)]):=by
 rcases t8 h0 h1 with rfl|rfl|rfl|rfl|rfl|rfl|rfl|rfl<;>rfl
theorem bMul2{i j:Int}(h:Hh)(a: -2<i)(b:i<2):binD .mul (.int i) (.int j) h=.ok (.int (i*j)) h:=bMulL h (by omega) (by omega)
theorem tbh_f:∀a b:Fin 8,(if 3<(b.1:Int) then -((a.1:Int)%4) else(a.1:Int)%4)+(b.1:Int)=(if 3<(b.1:Int) then -((a.1:Int)%4) else(a.1:Int)%4)+(b.1:Int)/\((if 3<(b.1:Int) then -((a.1:Int)%4) else(a.1:Int)%4)+(b.1:Int))%4+4*(((a.1:Int)/4+(b.1:Int)/4)%2)=tbh (a.1:Int) (b.1:Int):=by decide+kernel
theorem tbh_l{t u:Int}(h0:0<=t)(h1:t<8)(h2:0<=u)(h3:u<8):((if 3<u then -(t%4) else t%4)+u)%4+4*((t/4+u/4)%2)=tbh t u:=by
 obtain⟨a,rfl⟩:=fin8 h0 h1
 obtain⟨b,rfl⟩:=fin8 h2 h3
 exact(tbh_f a b).2
end Ng
end
section
namespace Ng
open PySem L2
theorem qzy{t:Tg}{body:Ev->Hh->Rs Fl}{n:Nat}{l:List D}(I:Nat->Ev->Hh->Prop)(R:D->Hh->Prop)(hl:∀i r h,I i r h->lstAt h n=some l)
 (hb:∀i d,l[i]? =some d->∀r h,I i r h->∃r1,setT t d r=some r1/\((∃r2 h2,body r1 h=.ok (.nx r2) h2/\I (i+1) r2 h2)\/∃d h2,body r1 h=.ok (.rt d) h2/\R d h2)):
 ∀(k i:Nat)(r:Ev)(h:Hh),I i r h->i<=l.length->l.length-i<k->(∃r' h',forI t body n k i r h=.ok (.nx r') h'/\I l.length r' h')\/∃d h',forI t body n k i r h=.ok (.rt d) h'/\R d h':=by
 intro k
 induction k with
 |zero=>intro i r h _ _ hk;omega
 |succ k ih=>
  intro i r h hI hi hk
  have e0:=hl i r h hI
  by_cases hlt:i<l.length
  ·have ed:l[i]? =some l[i]:=List.getElem?_eq_getElem hlt
   obtain⟨r1,e1,hbb⟩:=hb i _ ed r h hI
   rcases hbb with ⟨r2,h2,e2,i2⟩|⟨d,h2,e2,q⟩
   ·rcases ih (i+1) r2 h2 i2 hlt (by omega) with ⟨r',h',e3,i3⟩|⟨d,h',e3,q⟩
    ·exact .inl ⟨r',h',by simp only[forI,e0,ed,e1,e2,jze,e3],i3⟩
    ·exact .inr ⟨d,h',by simp only[forI,e0,ed,e1,e2,jze,e3],q⟩
   ·exact .inr ⟨d,h2,by simp only[forI,e0,ed,e1,e2,jze],q⟩
  ·have ed:l[i]? =none:=List.getElem?_eq_none_iff.mpr (by omega)
   have hi':i=l.length:=by omega
   subst hi'
   exact .inl ⟨r,h,by simp only[forI,e0,ed],hI⟩
theorem zza{h0:Hh}{n:Nat}{l:List D}(g:Hh)(e:lstAt h0 n=some l):lstAt (h0++g) n=some l:=jzC h0 g e
structure It {α:Type}(φ:α->D)(t:Tg)(cs:Ev->Hh->Rs Bool)(f:Ev->Hh->Rs D)(h0:Hh)(F:Ev->Prop)(p:α->Bool)(g:α->D)(x:α):Prop where
 it:∀r ys gb,F r->∃r1 g1,setT t (φ x) r=some r1/\cs r1 (h0++ .lst ys::gb)=.ok (p x) (h0++ .lst ys::(gb++g1))/\F r1/\(p x=true->∃g2,f r1 (h0++ .lst ys::(gb++g1))=.ok (g x) (h0++ .lst ys::(gb++g1++g2)))
theorem jz3{α:Type}{φ:α->D}{t:Tg}{cs:Ev->Hh->Rs Bool}{f:Ev->Hh->Rs D}{h0:Hh}{F:Ev->Prop}{p:α->Bool}{g:α->D}:∀(l:List α),(∀d∈l,It φ t cs f h0 F p g d)->
 ∀r ys gb,F r->ys.length+l.length<1000000->∃gb',compS t cs f h0.length (l.map φ) r (h0++ .lst ys::gb)=.ok () (h0++ .lst (ys++(l.filter p).map g)::gb')
 | [],_,r,ys,gb,_,_=>⟨gb,by simp[compS]⟩
 |d::l,hb,r,ys,gb,hF,hl=>by
  obtain⟨r1,g1,e1,e2,f1,e3⟩:=(hb d List.mem_cons_self).it r ys gb hF
  by_cases hp:p d=true
  ·obtain⟨g2,e3⟩:=e3 hp
   obtain⟨gb',e4⟩:=jz3 l (λd hd=>hb d (List.mem_cons_of_mem _ hd)) r1 (ys++ [g d]) (gb++g1++g2) f1 (by simp at hl⊢;omega)
   refine⟨gb',?_⟩
   rw[hp] at e2
   simp only[List.map_cons,compS,e1,e2,jze,if_true,e3,xzJ _ _ _ _ (show ys.length<1000000 by simp at hl;omega),e4,List.filter_cons,hp]
   simp
  ·obtain⟨gb',e4⟩:=jz3 l (λd hd=>hb d (List.mem_cons_of_mem _ hd)) r1 ys (gb++g1) f1 (by simp at hl⊢;omega)
   refine⟨gb',?_⟩
   have hp':p d=false:=by simpa using hp
   rw[hp'] at e2
   simp only[List.map_cons,compS,e1,e2,jze,if_false,Bool.false_eq_true,e4,List.filter_cons,hp']
theorem xzs{α:Type}{φ:α->D}{t:Tg}{cs:Ev->Hh->Rs Bool}{f:Ev->Hh->Rs D}{h0:Hh}{F:Ev->Prop}{p:α->Bool}{g:α->D}{n:Nat}{l:List α}(hl:lstAt h0 n=some (l.map φ))(hb:∀d∈l,It φ t cs f h0 F p g d)(hm:∀z:Nat,z<=2*l.length->z<1000000):
 ∀k i r ys gb,F r->i<=l.length->l.length-i<k->ys.length<=i->∃gb',compI t cs f h0.length n k i r (h0++ .lst ys::gb)=.ok () (h0++ .lst (ys++((l.drop i).filter p).map g)::gb'):=by
 intro k
 induction k with
 |zero=>intro i r ys gb _ _ hk;omega
 |succ k ih=>
  intro i r ys gb hF hi hk hy
  have e0:lstAt (h0++ .lst ys::gb) n=some (l.map φ):=zza _ hl
  by_cases hlt:i<l.length
  ·have ed:(l.map φ)[i]? =some (φ l[i]):=by rw[List.getElem?_map,List.getElem?_eq_getElem hlt];rfl
   have hdr:l.drop i=l[i]::l.drop (i+1):=List.drop_eq_getElem_cons hlt
   obtain⟨r1,g1,e1,e2,f1,e3⟩:=(hb l[i] (List.getElem_mem hlt)).it r ys gb hF
   by_cases hp:p l[i]=true
   ·obtain⟨g2,e3⟩:=e3 hp
    obtain⟨gb',e4⟩:=ih (i+1) r1 (ys++ [g l[i]]) (gb++g1++g2) f1 hlt (by omega) (by simp;omega)
    refine⟨gb',?_⟩
    rw[hp] at e2
    simp only[compI,e0,ed,e1,e2,jze,if_true,e3,xzJ _ _ _ _ (hm ys.length (by omega)),e4,hdr,List.filter_cons,hp]
    simp
   ·obtain⟨gb',e4⟩:=ih (i+1) r1 ys (gb++g1) f1 hlt (by omega) (by omega)
    refine⟨gb',?_⟩
    have hp':p l[i]=false:=by simpa using hp
    rw[hp'] at e2
    simp only[compI,e0,ed,e1,e2,jze,if_false,Bool.false_eq_true,e4,hdr,List.filter_cons,hp']
  ·have ed:(l.map φ)[i]? =none:=List.getElem?_eq_none_iff.mpr (by simp;omega)
   refine⟨gb,?_⟩
   simp only[compI,e0,ed,List.drop_eq_nil_of_le (show l.length<=i by omega),List.filter_nil,List.map_nil,List.append_nil]
section
variable {α:Type}{φ:α->D}{G:Gs}{cl:Cl}{t:Tg}{it cs:Es}{e:E}{N:List Str}{cap:List Nat}{r:Ev}{h h1:Hh}
theorem xzg{n:Nat}{l:List α}(φ:α->D)(F:Ev->Prop)(p:α->Bool)(g:α->D)(hi:evs G cl it r h=.ok [.ref n] h1)(hl:lstAt h1 n=some (l.map φ))(hm:l.length<=1000)(hF:F (blockE N cap r))(hb:∀d∈l,It φ t (evt G cl cs) (ev G cl e) h1 F p g d):
 ∃gb,ev G cl (.comp t .sq it cs e N cap) r h=.ok (.ref h1.length) (h1++ .lst ((l.filter p).map g)::gb):=by
 obtain⟨gb,e1⟩:=xzs hl hb (λz hz=>by omega) ((l.map φ).length+1) 0 (blockE N cap r) [] [] hF (Nat.zero_le _) (by simp) (Nat.le_refl _)
 exact⟨gb,wza hi hl e1⟩
theorem wzv{n:Nat}{l:List α}(φ:α->D)(F:Ev->Prop)(g:α->D)(hi:evs G cl it r h=.ok [.ref n] h1)(hl:lstAt h1 n=some (l.map φ))(hm:l.length<=1000)(hF:F (blockE N cap r))
 (hb:∀d∈l,∀r h,F r->∃r1,setT t (φ d) r=some r1/\F r1/\ev G cl e r1 h=.ok (g d) h):
 ∃gb,ev G cl (.comp t .sq it .nil e N cap) r h=.ok (.ref h1.length) (h1++ .lst (l.map g)::gb):=by
 obtain⟨gb,q⟩:=xzg (cs:=.nil) (e:=e) (t:=t) (N:=N) (cap:=cap) φ F (λ_=>true) g hi hl hm hF λd hd=>⟨λr ys gb hr=>by
  obtain⟨r1,e1,f1,e2⟩:=hb d hd r (h1++ .lst ys::gb) hr
  exact⟨r1,[],e1,by rw[qz8,List.append_nil],f1,λ_=>⟨[],by rw[List.append_nil,List.append_nil];exact e2⟩⟩⟩
 rw[List.filter_eq_self.mpr (λ_ _=>rfl)] at q
 exact⟨gb,q⟩
theorem evC_r1{j:Nat}(F:Ev->Prop)(p:Nat->Bool)(g:Nat->D)(hi:evs G cl it r h=.ok [.int (j:Int)] h1)(hm:j<=1000)(hF:F (blockE N cap r))(hb:∀d∈List.range j,It (λk:Nat=>D.int k) t (evt G cl cs) (ev G cl e) h1 F p g d):
 ∃gb,ev G cl (.comp t .r1 it cs e N cap) r h=.ok (.ref h1.length) (h1++ .lst (((List.range j).filter p).map g)::gb):=by
 obtain⟨gb,e1⟩:=jz3 (List.range j) hb (blockE N cap r) [] [] hF (by simp;omega)
 have e2:(List.range j).map (λk:Nat=>D.int k)=rngD 0 j:=by
  unfold rngD
  simp
 rw[e2] at e1
 exact⟨gb,xze hi (qzD (by omega)) e1⟩
end
theorem zz3(L:List Int):intsD (L.map D.int)=some L:=by
 induction L with
 |nil=>rfl
 |cons x L ih=>simp only[List.map_cons,intsD,ih];rfl
def best1(mx:Bool)(d:Int):List Int->Int
 | []=>d
 |i::r=>bestI mx i r
theorem vzT{h:Hh}{n:Nat}{L:List Int}(mx:Bool)(d:Int)(e:lstAt h n=some (L.map D.int)):bestD mx (.ref n) (.int d) h=.ok (.int (best1 mx d L)) h:=by
 have e1:isLst (.ref n) h=true:=by rw[jz6,e];rfl
 unfold bestD
 rw[e1,sRef,e]
 show(match intsD (L.map D.int) with|some (i::r)=>Rs.ok (D.int (bestI mx i r)) h|some []=>Rs.ok (D.int d) h|none=>.bad)=_
 rw[zz3]
 cases L<;>rfl
@[simp] theorem bMaxI(i j:Int)(h:Hh):bltD .max [.int i,.int j] h=.ok (.int (if j>i then j else i)) h:=rfl
@[simp] theorem bMinI(i j:Int)(h:Hh):bltD .min [.int i,.int j] h=.ok (.int (if j<i then j else i)) h:=rfl
end Ng
end
section
namespace Ng
open PySem L2
def Kp(h h':Hh):Prop:=∀(n:Nat)(o:O),h[n]? =some o->h'[n]? =some o
theorem Kp.refl(h:Hh):Kp h h:=λ_ _ e=>e
theorem Kp.trans{a b c:Hh}(x:Kp a b)(y:Kp b c):Kp a c:=λn o e=>y n o (x n o e)
theorem Kp.app(h g:Hh):Kp h (h++g):=λn o e=>by rw[List.getElem?_append_left (List.getElem?_eq_some_iff.mp e).1];exact e
theorem Kp.lst{h h':Hh}(k:Kp h h'){n:Nat}{l:List D}(e:lstAt h n=some l):lstAt h' n=some l:=by
 unfold lstAt at e⊢
 cases q:h[n]? with
 |none=>rw[q] at e;cases e
 |some o=>rw[q] at e;rw[k n o q];exact e
theorem Kp.set{h h':Hh}(k:Kp h h'){n:Nat}(o:O)(hn:h.length<=n):Kp h (h'.set n o):=λj u e=>by
 have hj:j<h.length:=(List.getElem?_eq_some_iff.mp e).1
 rw[List.getElem?_set_ne (by omega)]
 exact k j u e
structure Tie where
 n:Int
 one:Str
 other:Str
 m:M3
def Tie.d(t:Tie):D:=.tup [.int t.n,.str t.one,.str t.other,mo t.m]
def Tie.en(t:Tie)(x:Str):Option Str:=if t.one=x then some t.other else if t.other=x then some t.one else none
end Ng
end
section
namespace Ng
open PySem L2
theorem atInt{l:List Int}{i:Int}(a:0<=i)(b:i<l.length):∃v∈l,atI (l.map D.int) i=some (.int v):=by
 have hj:i.toNat<l.length:=by omega
 have:=qza (xs:=l.map D.int) (j:=i.toNat) (v:=.int l[i.toNat]) (by rw[List.getElem?_map,List.getElem?_eq_getElem hj];rfl)
 rw[Int.toNat_of_nonneg a] at this
 exact⟨_,List.getElem_mem hj,this⟩
section
variable {G:Gs}{cl:Cl}{W:Nat}
theorem zz1{es:Es}{e:E}{l:List Int}{r:Ev}{h:Hh}{i:Int}(he:evs G cl es r h=.ok (l.map D.int) h)(hl:l.length<=1000)(hi:ev G cl e r (h++ [.lst (l.map D.int)])=.ok (.int i) (h++ [.lst (l.map D.int)]))(a:0<=i)(b:i<l.length):
 ∃v∈l,ev G cl (.ix (.lst es) e) r h=.ok (.int v) (h++ [.lst (l.map D.int)]):=by
 obtain⟨v,hv,e1⟩:=atInt a b
 refine⟨v,hv,?_⟩
 rw[evIx,evLst,he,jze,if_pos (by rw[List.length_map];exact hl),jze,hi,jze,iRef _ _ (jzv _ _),e1]
theorem evIxV{i:Nat}{x y d:D}{e:E}{r:Ev}{h h1:Hh}(hr:r[i]? =some (some x))(he:ev G cl e r h=.ok y h1)(hx:ixD x y h1=.ok d h1):ev G cl (.ix (.var i) e) r h=.ok d h1:=by
 rw[evIx,evVar,hr]
 show(ev G cl e r h).bind _=_
 rw[he]
 exact hx
theorem jzg{op:Bop}{a b:E}{x y d:D}{r:Ev}{h h1 h2:Hh}(ha:ev G cl a r h=.ok x h1)(hb:ev G cl b r h1=.ok y h2)(hd:binD op x y h2=.ok d h2):ev G cl (.bin op a b) r h=.ok d h2:=by
 rw[evBin,ha]
 show(ev G cl b r h1).bind _=_
 rw[hb]
 exact hd
theorem evV{i:Nat}{x:D}{r:Ev}{h:Hh}(hr:r[i]? =some (some x)):ev G cl (.var i) r h=.ok x h:=by
 rw[evVar,hr]
structure Row (h:Hh)(n:Nat)(row:List Int):Prop where
 at':lstAt h n=some (row.map D.int)
 inr:InR row
def Row.R(row:List Int)(j:Nat):Int:=row.getD j 0
theorem Row.ix{h h':Hh}{n:Nat}{row:List Int}(Q:Row h n row)(kp:Kp h h')(j:Nat)(hj:j<row.length):ixD (.ref n) (.int j) h'=.ok (.int (Row.R row j)) h':=by
 rw[iRef _ _ (kp.lst Q.at'),qza (v:=.int (Row.R row j)) (by rw[List.getElem?_map,List.getElem?_eq_getElem hj];simp[Row.R,hj])]
theorem xzI{h:Hh}{p:Nat}{l:List D}(y:D)(e:h[p]? =some (.lst l))(hl:l.length<1000000):appD (.ref p) y h=.ok .non (h.set p (.lst (l++ [y]))):=by
 rw[appR,e]
 show(if _ then _ else _)=_
 rw[if_pos hl]
theorem jzM{h:Hh}{p:Nat}{l:List D}(e:h[p]? =some (.lst l)):lstAt h p=some l:=by
 unfold lstAt
 rw[e]
 rfl
theorem evLen{i n:Nat}{l:List D}{r:Ev}{h:Hh}(hr:r[i]? =some (some (.ref n)))(e:lstAt h n=some l):ev G cl (.blt .len (.cons (.var i) .nil)) r h=.ok (.int l.length) h:=by
 simp only[evBlt,jzB,jzO,evVar,hr,jze,bLen,sRef,e]
theorem jzt{i:Nat}{e:E}{d:D}{r:Ev}{h h':Hh}(he:ev G cl e r h=.ok d h'):xs G cl W (.asg (.nm i) e) r h=.ok (.nx (r.set i (some d))) h':=by
 rw[xsAsg,he];rfl
theorem jzZ{c:E}{a b:Ss}{r:Ev}{h h':Hh}(hc:ev G cl c r h=.ok (.bl true) h'):xs G cl W (.iff c a b) r h=xss G cl W a r h':=by
 rw[xsIff,hc];rfl
theorem jzI{c:E}{a b:Ss}{r:Ev}{h h':Hh}(hc:ev G cl c r h=.ok (.bl false) h'):xs G cl W (.iff c a b) r h=xss G cl W b r h':=by
 rw[xsIff,hc];rfl
theorem jzz{op:Cop}{a b:E}{x y d:D}{r:Ev}{h h1 h2 h3:Hh}(ha:ev G cl a r h=.ok x h1)(hb:ev G cl b r h1=.ok y h2)(hd:cmpD op x y h2=.ok d h3):ev G cl (.cmp op a b) r h=.ok d h3:=by
 rw[evCmp,ha]
 show(ev G cl b r h1).bind _=_
 rw[hb]
 exact hd
theorem evChI{op op':Cop}{a b c:E}{x y z:D}{p q:Bool}{r:Ev}{h:Hh}(ha:ev G cl a r h=.ok x h)(hb:ev G cl b r h=.ok y h)(hp:cmpD op x y h=.ok (.bl p) h)(hc:ev G cl c r h=.ok z h)(hq:cmpD op' y z h=.ok (.bl q) h):ev G cl (.chn op op' a b c) r h=.ok (.bl (p&&q)) h:=by
 rw[evChn,ha,jze,hb,jze,hp,jze]
 cases p
 ·rfl
 ·show(ev G cl c r h).bind _=_
  rw[hc,jze,hq];rfl
theorem jzY{a b:E}{p q:Bool}{r:Ev}{h:Hh}(ha:ev G cl a r h=.ok (.bl p) h)(hb:ev G cl b r h=.ok (.bl q) h):ev G cl (.and a b) r h=.ok (.bl (p&&q)) h:=by
 rw[evAnd,ha,jze,tBl]
 cases p
 ·rfl
 ·exact hb
theorem qzt{a:E}{p:Bool}{r:Ev}{h h':Hh}(ha:ev G cl a r h=.ok (.bl p) h'):ev G cl (.not a) r h=.ok (.bl (!p)) h':=by
 rw[evNot,ha,jze,tBl]
theorem qzh{i n:Nat}{cn f:Str}{fs:List (Str×D)}{d:D}{r:Ev}{h:Hh}(hr:r[i]? =some (some (.ref n)))(e:h[n]? =some (.ins cn fs))(q:fs.lookup f=some d):ev G cl (.att (.var i) cn f) r h=.ok d h:=by
 rw[evAtt,evV hr,jze,attOk h e q]
theorem vzH{i n f:Nat}{cn m:Str}{fs:List (Str×D)}{l:Es}{ds:List D}{d:D}{r:Ev}{h h1 h':Hh}(hr:r[i]? =some (some (.ref n)))(e:h[n]? =some (.ins cn fs))(q:fs.lookup m=none)(hl:evs G cl l r h=.ok ds h1)(hc:cl f (.ref n::ds) h1=.ok d h'):ev G cl (.mth (.var i) cn m f l) r h=.ok d h':=by
 rw[evMth,evV hr,jze,if_pos (mthYes h e q),hl,jze,hc,nxOk]
theorem jzQ{a b:E}{x y:D}{r:Ev}{h h1 h2:Hh}(ha:ev G cl a r h=.ok x h1)(hb:ev G cl b r h1=.ok y h2):ev G cl (.tup (.cons a (.cons b .nil))) r h=.ok (.tup [x,y]) h2:=by
 rw[evTup,jzB,ha,jze,jzB,hb,jze,jzO,jze,jze,jze]
 rfl
theorem evs1{a:E}{x:D}{r:Ev}{h h1:Hh}(ha:ev G cl a r h=.ok x h1):evs G cl (.cons a .nil) r h=.ok [x] h1:=by
 rw[jzB,ha,jze,jzO,jze]
theorem evs2{a b:E}{x y:D}{r:Ev}{h h1 h2:Hh}(ha:ev G cl a r h=.ok x h1)(hb:ev G cl b r h1=.ok y h2):evs G cl (.cons a (.cons b .nil)) r h=.ok [x,y] h2:=by
 rw[jzB,ha,jze,evs1 hb,jze]
theorem evCl{f:Nat}{l:Es}{ds:List D}{d:D}{r:Ev}{h h1 h':Hh}(hl:evs G cl l r h=.ok ds h1)(hc:cl f ds h1=.ok d h'):ev G cl (.call f l) r h=.ok d h':=by
 rw[evCall,hl,jze,hc,nxOk]
theorem evBl1{f:Blt}{l:Es}{ds:List D}{d:D}{r:Ev}{h h1 h':Hh}(hl:evs G cl l r h=.ok ds h1)(hc:bltD f ds h1=.ok d h'):ev G cl (.blt f l) r h=.ok d h':=by
 rw[evBlt,hl,jze,hc]
theorem jzD{e:E}{d:D}{r:Ev}{h h':Hh}(he:ev G cl e r h=.ok d h'):xs G cl W (.ret e) r h=.ok (.rt d) h':=by
 rw[xsRet,he];rfl
end
abbrev St3:=Int×Int×Int
def s3(s:St3):D:=.tup [.int s.1,.int s.2.1,.int s.2.2]
def kv(s:St3):List Int×D:=([s.1,s.2.1],.int s.2.2)
def npS(a b:St3):Prop:=¬(a.1=b.1/\a.2.1=b.2.1)
def inW(w t x y:Int):Bool:=(decide (0<=x)&&decide (x<w))&&(decide (0<=y)&&decide (y<t))
structure Good (w t l:Int)(S:List St3):Prop where
 hw:1<=w/\w<=8
 ht:1<=t/\t<=8
 hl:1<=l/\l<=9
 len:S.length<=8
 up:S.Pairwise npS
 st:∀s∈S,inW w t s.1 s.2.1=true/\l<=s.2.2/\s.2.2<=9
def flds(nm:Str)(w t l:Int)(k:Nat):List (Str×D):= [("name",.str nm),("width",.int w),("height",.int t),("limit",.int l),("bright_at",.ref k)]
def PlateAt(h:Hh)(n:Nat)(nm:Str)(w t l:Int)(S:List St3):Prop:=∃k,h[n]? =some (.ins "Plate" (flds nm w t l k))/\h[k]? =some (.dtf (S.map kv))
theorem PlateAt.kp{h h':Hh}{n:Nat}{nm:Str}{w t l:Int}{S:List St3}(P:PlateAt h n nm w t l S)(k:Kp h h'):PlateAt h' n nm w t l S:=by
 obtain⟨j,e1,e2⟩:=P
 exact⟨j,k _ _ e1,k _ _ e2⟩
theorem fW(nm:Str)(w t l:Int)(k:Nat):(flds nm w t l k).lookup ("width":Str)=some (D.int w):=rfl
theorem fH(nm:Str)(w t l:Int)(k:Nat):(flds nm w t l k).lookup ("height":Str)=some (D.int t):=rfl
theorem fL(nm:Str)(w t l:Int)(k:Nat):(flds nm w t l k).lookup ("limit":Str)=some (D.int l):=rfl
theorem fB(nm:Str)(w t l:Int)(k:Nat):(flds nm w t l k).lookup ("bright_at":Str)=some (D.ref k):=rfl
theorem fN(nm:Str)(w t l:Int)(k:Nat):(flds nm w t l k).lookup ("name":Str)=some (D.str nm):=rfl
section
variable {G:Gs}{cl:Cl}{W:Nat}
abbrev hoB:Ss:=(.cons (.asg (.tp [2,3]) (.var 1)) (.cons (.ret (.and (.chn .le .lt (.int 0) (.var 2) (.att (.var 0) "Plate" "width")) (.chn .le .lt (.int 0) (.var 3) (.att (.var 0) "Plate" "height")))) .nil))
def Hol(cl:Cl)(f:Nat):Prop:=∀(h:Hh)(n:Nat)(nm:Str)(w t l:Int)(S:List St3)(x y:Int),PlateAt h n nm w t l S->cl f [.ref n,.tup [.int x,.int y]] h=.ok (.bl (inW w t x y)) h
theorem hol_ok{h:Hh}{n:Nat}{nm:Str}{w t l:Int}{S:List St3}(x y:Int)(P:PlateAt h n nm w t l S):(xss G cl W hoB [some (.ref n),some (.tup [.int x,.int y]),none,none] h).bind endD=.ok (.bl (inW w t x y)) h:=by
 obtain⟨k,e1,e2⟩:=P
 rw[xssNx (r':= [some (.ref n),some (.tup [.int x,.int y]),some (.int x),some (.int y)]) (h':=h) (by rw[xsAsg,evV rfl];rfl),
  xssRt (jzD (jzY (evChI (evInt ..) (evV rfl) (cLe ..) (qzh rfl e1 (fW ..)) (cLt ..)) (evChI (evInt ..) (evV rfl) (cLe ..) (qzh rfl e1 (fH ..)) (cLt ..))))]
 rfl
def at3(S:List St3)(x y:Int):Option Int:=(S.find? λs=>decide (s.1=x/\s.2.1=y)).map (·.2.2)
theorem zzi(S:List St3)(x y:Int):valT (S.map kv) [x,y]=(at3 S x y).map D.int:=by
 unfold valT at3
 induction S with
 |nil=>rfl
 |cons s S ih=>
  rw[List.map_cons,List.find?_cons,List.find?_cons]
  have e:decide ((kv s).1=[x,y])=decide (s.1=x/\s.2.1=y):=by simp[kv]
  rw[e]
  cases decide (s.1=x/\s.2.1=y) with
  |true=>rfl
  |false=>exact ih
def sayD(w t l:Int)(S:List St3)(x y:Int):D:=match at3 S x y with
 |some b=>.tup [.str "star",.int b]
 |none=>if inW w t x y=true then .tup [.str "under",.int l] else .tup [.str "unseen",.int 0]
theorem cIn{h:Hh}{k:Nat}{S:List St3}(x y:Int)(e:h[k]? =some (.dtf (S.map kv))):cmpD .inn (.tup [.int x,.int y]) (.ref k) h=.ok (.bl (at3 S x y).isSome) h:=by
 have e1:dtfAt h (.ref k)=some (S.map kv):=by simp only[dtfAt,e]
 have e2:inX (.tup [.int x,.int y]) (.ref k) h=some (at3 S x y).isSome:=by
  simp only[inX,e1]
  show((some [x,y]).map λq=>(valT (S.map kv) q).isSome)=_
  rw[Option.map_some,zzi]
  cases at3 S x y<;>rfl
 unfold cmpD
 simp only[e2]
theorem iDtf{h:Hh}{k:Nat}{S:List St3}{x y b:Int}(e:h[k]? =some (.dtf (S.map kv)))(q:at3 S x y=some b):ixD (.ref k) (.tup [.int x,.int y]) h=.ok (.int b) h:=by
 have e0:dctAt h (.ref k)=none:=by
  show(match h[k]? with|some (.dct l)=>some l|_=>none)=none
  rw[e]
 have e1:dtfAt h (.ref k)=some (S.map kv):=by simp only[dtfAt,e]
 show(match dctAt h (.ref k) with|some l=>ixK l (.tup [.int x,.int y]) h|none=>match dtfAt h (.ref k) with|some l=>ixF l (.tup [.int x,.int y]) h|none=>ixS (.ref k) (.tup [.int x,.int y]) h)=_
 rw[e0,e1]
 show(match (some [x,y]).bind (valT (S.map kv)) with|some d=>Rs.ok d h|none=>.bad)=_
 rw[Option.bind_some,zzi,q]
 rfl
abbrev syB:Ss:=(.cons (.iff (.cmp .inn (.var 1) (.att (.var 0) "Plate" "bright_at")) (.cons (.ret (.tup (.cons (.str "star") (.cons (.ix (.att (.var 0) "Plate" "bright_at") (.var 1)) .nil)))) .nil) .nil) (.cons (.ret (.ite (.mth (.var 0) "Plate" "holds" 35 (.cons (.var 1) .nil)) (.tup (.cons (.str "under") (.cons (.att (.var 0) "Plate" "limit") .nil))) (.gc 4))) .nil))
def Sys(cl:Cl)(f:Nat):Prop:=∀(h:Hh)(n:Nat)(nm:Str)(w t l:Int)(S:List St3)(x y:Int),PlateAt h n nm w t l S->cl f [.ref n,.tup [.int x,.int y]] h=.ok (sayD w t l S x y) h
theorem sys_ok(hh:Hol cl 35)(gu:∀r h,ev G cl (.gc 4) r h=.ok (.tup [.str "unseen",.int 0]) h){h:Hh}{n:Nat}{nm:Str}{w t l:Int}{S:List St3}(x y:Int)(P:PlateAt h n nm w t l S):(xss G cl W syB [some (.ref n),some (.tup [.int x,.int y])] h).bind endD=.ok (sayD w t l S x y) h:=by
 obtain⟨k,e1,e2⟩:=id P
 have c1:ev G cl (.cmp .inn (.var 1) (.att (.var 0) "Plate" "bright_at")) [some (.ref n),some (.tup [.int x,.int y])] h=.ok (.bl (at3 S x y).isSome) h:=jzz (evV rfl) (qzh rfl e1 (fB ..)) (cIn x y e2)
 unfold sayD
 cases q:at3 S x y with
 |some b=>
  rw[q] at c1
  rw[xssRt (d:=.tup [.str "star",.int b]) (h':=h) (by
   rw[jzZ c1,xssRt (jzD (jzQ (evStr ..) (by rw[evIx,qzh rfl e1 (fB ..),jze,evV rfl,jze,iDtf e2 q])))])]
  rfl
 |none=>
  rw[q] at c1
  rw[xssNx (r':= [some (.ref n),some (.tup [.int x,.int y])]) (h':=h) (by rw[jzI c1,jzq])]
  have c2:ev G cl (.mth (.var 0) "Plate" "holds" 35 (.cons (.var 1) .nil)) [some (.ref n),some (.tup [.int x,.int y])] h=.ok (.bl (inW w t x y)) h:=vzH rfl e1 rfl (evs1 (evV rfl)) (hh h n nm w t l S x y P)
  cases hw:inW w t x y with
  |true=>
   rw[hw] at c2
   rw[xssRt (d:=.tup [.str "under",.int l]) (h':=h) (jzD (by rw[evIte,c2,jze,tBl];exact jzQ (evStr ..) (qzh rfl e1 (fL ..))))]
   rfl
  |false=>
   rw[hw] at c2
   rw[xssRt (d:=.tup [.str "unseen",.int 0]) (h':=h) (jzD (by rw[evIte,c2,jze,tBl];exact gu _ _))]
   rfl
end
end Ng
end
section
namespace Ng
open PySem L2
theorem at3_in{w t l:Int}{S:List St3}(g:Good w t l S){x y b:Int}(h:at3 S x y=some b):inW w t x y=true:=by
 unfold at3 at h
 obtain⟨s,hs,rfl⟩:=Option.map_eq_some_iff.mp h
 have hm:=List.mem_of_find?_eq_some hs
 have hp:=List.find?_some hs
 simp only[decide_eq_true_eq] at hp
 have:=(g.st s hm).1
 rw[hp.1,hp.2] at this
 exact this
def pn(nm:Str)(w t l:Int)(p:Nat):D:=.tup [.str nm,.int w,.int t,.int l,.ref p]
section
variable {G:Gs}{cl:Cl}{W:Nat}
def leS(a b:St3):Bool:=decide (a.1<b.1\/(a.1=b.1/\a.2.1<=b.2.1))
def bfS(a b:St3):Prop:=a.1<b.1\/(a.1=b.1/\a.2.1<b.2.1)
theorem bef_s{a b:St3}(h:bfS a b):Bef ltK (s3 a) (s3 b):=by
 unfold bfS at h
 unfold Bef
 rcases h with h|⟨h1,h2⟩
 ·have e1:¬a.1=b.1:=by omega
  have e2:¬b.1=a.1:=by omega
  have e3:¬b.1<a.1:=by omega
  exact⟨by simp[ltK,s3,ltF,e1,h],by simp[ltK,s3,ltF,e2];omega⟩
 ·have e1:¬a.2.1=b.2.1:=by omega
  have e2:¬b.2.1=a.2.1:=by omega
  have e3:¬b.2.1<a.2.1:=by omega
  exact⟨by simp[ltK,s3,ltF,h1,e1,h2],by simp[ltK,s3,ltF,h1,e2];omega⟩
theorem srt3{S:List St3}(u:S.Pairwise npS)(hl:S.length<=8):∃U:List St3,U.Perm S/\srtD (S.map s3)=some (U.map s3):=by
 have s:(S.mergeSort leS).Pairwise (λa b=>leS a b=true):=List.pairwise_mergeSort (λa b c h1 h2=>by simp[leS] at*;omega) (λa b=>by simp[leS];omega) S
 have p:(S.mergeSort leS).Perm S:=List.mergeSort_perm S _
 have v:(S.mergeSort leS).Pairwise npS:=(p.symm.pairwise_iff λh z=>h ⟨z.1.symm,z.2.symm⟩).mp u
 refine⟨S.mergeSort leS,p,srtD_ok ⟨by simp;omega,.inr ⟨3,by decide,λx hx=>?_⟩⟩ (p.map s3) ?_⟩
 ·obtain⟨r,_,rfl⟩:=List.mem_map.mp hx;rfl
 ·rw[List.pairwise_map]
  refine(s.and v).imp λ{a b} h=>bef_s ?_
  obtain⟨h1,h2⟩:=h
  simp[leS] at h1
  unfold npS at h2
  unfold bfS
  omega
theorem srtL3{h:Hh}{n:Nat}{l l':List D}(e:lstAt h n=some l)(q:srtD l=some l'):bltD .sorted [.ref n] h=.ok (.ref h.length) (h++ [.lst l']):=by
 show srtL (.ref n) h=_
 unfold srtL
 have e1:isLst (.ref n) h=true:=by rw[jz6,e];rfl
 rw[e1,sRef,e]
 simp only[q]
def it3(s:St3):D:=.tup [.tup [.int s.1,.int s.2.1],.int s.2.2]
theorem kv_it(S:List St3):(S.map kv).map (λp=>D.tup [.tup (p.1.map D.int),p.2])=S.map it3:=by
 rw[List.map_map];rfl
theorem evC_itf{t:Tg}{it:Es}{e:E}{N:List Str}{cap:List Nat}{r:Ev}{h:Hh}{k:Nat}{S:List St3}(F:Ev->Prop)(g:St3->D)(hi:evs G cl it r h=.ok [.ref k] h)(hl:h[k]? =some (.dtf (S.map kv)))(hm:S.length<=1000)(hF:F (blockE N cap r))
 (hb:∀s∈S,∀r h',F r->Kp h h'->∃r1,setT t (it3 s) r=some r1/\F r1/\ev G cl e r1 h'=.ok (g s) h'):
 ∃gb,ev G cl (.comp t .itf it .nil e N cap) r h=.ok (.ref h.length) (h++ .lst (S.map g)::gb):=by
 obtain⟨gb,q⟩:=jz3 (φ:=it3) (t:=t) (cs:=evt G cl .nil) (f:=ev G cl e) (h0:=h) (F:=F) (p:=λ_=>true) (g:=g) S (λs hs=>⟨λr ys gb hr=>by
  obtain⟨r1,e1,f1,e2⟩:=hb s hs r (h++ .lst ys::gb) hr (Kp.app _ _)
  exact⟨r1,[],e1,by rw[qz8,List.append_nil],f1,λ_=>⟨[],by rw[List.append_nil,List.append_nil];exact e2⟩⟩⟩) (blockE N cap r) [] [] hF (by simp;omega)
 rw[List.filter_eq_self.mpr (λ_ _=>rfl),List.nil_append] at q
 refine⟨gb,?_⟩
 rw[vzI,hi,jze]
 have e':compL t (evt G cl .nil) (ev G cl e) h.length .itf [.ref k] h (blockE N cap r) (h++ [.lst []])=.ok () (h++ .lst (S.map g)::gb):=by
  show(match h[k]? with|some (.dtf l)=>compS t (evt G cl .nil) (ev G cl e) h.length (l.map λ(p:List Int×D)=>D.tup [.tup (p.1.map D.int),p.2]) (blockE N cap r) (h++ [O.lst []])|_=>.bad)=_
  rw[hl]
  show compS t (evt G cl .nil) (ev G cl e) h.length ((S.map kv).map λp=>D.tup [.tup (p.1.map D.int),p.2]) (blockE N cap r) (h++ [.lst []])=_
  rw[kv_it];exact q
 rw[e'];rfl
def Smd(cl:Cl)(f:Nat):Prop:=∀(d:D)(h:Hh),pd 1 d=true->cl f [d,d] h=.ok (.bl true) h
end
end Ng
end
section
namespace Ng
open PySem L2
abbrev abc:Str:="abcdefghijklmnopqrstuvwxyz"
structure NmOk (nm:Str):Prop where
 lo:1<=nm.length
 hi:nm.length<=8
 ch:∀c∈nm.cps.toList,inX (.str ⟨#[c]⟩) (.str abc) []=some true
section
variable {G:Gs}{cl:Cl}{W:Nat}
theorem bls_true{α:Type}(l:List α):blsD (l.map λ_=>D.bl true)=some (l.map λ_=>true):=by
 induction l with
 |nil=>rfl
 |cons a l ih=>rw[List.map_cons,blsD,ih];rfl
theorem vzU{α:Type}{h:Hh}{n:Nat}(l:List α)(e:lstAt h n=some (l.map λ_=>D.bl true)):bltD .all [.ref n] h=.ok (.bl true) h:=by
 show allL (.ref n) h=_
 unfold allL
 have e1:isLst (.ref n) h=true:=by rw[jz6,e];rfl
 rw[e1,sRef,e]
 simp only[bls_true]
 congr 2
 rw[List.all_eq_true]
 intro x hx
 obtain⟨_,_,rfl⟩:=List.mem_map.mp hx
 rfl
abbrev inmB:Ss:=(.cons (.ret (.and (.chn .le .le (.int 1) (.blt .len (.cons (.var 0) .nil)) (.gc 6)) (.blt .all (.cons (.comp (.nm 0) .st (.cons (.var 0) .nil) .nil (.cmp .inn (.var 0) (.gc 5)) ["sign"] []) .nil)))) .nil)
def Isn(cl:Cl)(f:Nat):Prop:=∀(h:Hh)(nm:Str),NmOk nm->∃g,cl f [.str nm] h=.ok (.bl true) (h++g)
theorem isn_ok(g3:∀r h,ev G cl (.gc 6) r h=.ok (.int 8) h)(g2:∀r h,ev G cl (.gc 5) r h=.ok (.str abc) h){h:Hh}{nm:Str}(N:NmOk nm):∃g,(xss G cl W inmB [some (.str nm)] h).bind endD=.ok (.bl true) (h++g):=by
 have ln:bltD .len [.str nm] h=.ok (.int nm.length) h:=by
  rw[bLen]
  show lenN (.str nm) h=_
  show(if nm.length<=sizeLine then _ else _)=_
  rw[if_pos (Nat.le_trans N.hi (by decide))]
 have c1:=evChI (G:=G) (cl:=cl) (op:=.le) (op':=.le) (r:= [some (.str nm)]) (h:=h) (evInt _ _ _ _ 1) (evBl1 (evs1 (evV (i:=0) rfl)) ln) (cLe ..) (g3 _ _) (cLe ..)
 rw[decide_eq_true (show(1:Int)<=(nm.length:Int) from by have:=N.lo;omega),decide_eq_true (show(nm.length:Int)<=8 from by have:=N.hi;omega)] at c1
 obtain⟨gb,q⟩:=jz3 (φ:=λc:Nat=>D.str ⟨#[c]⟩) (t:=.nm 0) (cs:=evt G cl .nil) (f:=ev G cl (.cmp .inn (.var 0) (.gc 5))) (h0:=h) (F:=λr=>∃a,r=[a]) (p:=λ_=>true) (g:=λ_=>D.bl true) nm.cps.toList (λc hc=>⟨λr ys gb hr=>by
  obtain⟨a,rfl⟩:=hr
  refine⟨[some (.str ⟨#[c]⟩)],[],rfl,by rw[qz8,List.append_nil],⟨_,rfl⟩,λ_=>⟨[],?_⟩⟩
  rw[List.append_nil,List.append_nil]
  refine jzz (evV rfl) (g2 _ _) ?_
  have e:inX (.str ⟨#[c]⟩) (.str abc) (h++ .lst ys::gb)=some true:=N.ch c hc
  unfold cmpD
  simp only[e]⟩) (blockE ["sign"] [] [some (.str nm)]) [] [] ⟨_,rfl⟩ (by
   have:=N.hi
   have e:nm.cps.toList.length=nm.length:=Array.length_toList
   simp only[List.length_nil];omega)
 rw[List.filter_eq_self.mpr (λ_ _=>rfl),List.nil_append] at q
 have c2:ev G cl (.comp (.nm 0) .st (.cons (.var 0) .nil) .nil (.cmp .inn (.var 0) (.gc 5)) ["sign"] []) [some (.str nm)] h=.ok (.ref h.length) (h++ .lst (nm.cps.toList.map λ_=>D.bl true)::gb):=by
  rw[vzI,evs1 (evV rfl),jze]
  have e':compL (.nm 0) (evt G cl .nil) (ev G cl (.cmp .inn (.var 0) (.gc 5))) h.length .st [.str nm] h (blockE ["sign"] [] [some (.str nm)]) (h++ [.lst []])=.ok () (h++ .lst (nm.cps.toList.map λ_=>D.bl true)::gb):=by
   show(if nm.length<=1000 then _ else _)=_
   rw[if_pos (Nat.le_trans N.hi (by decide))]
   exact q
  rw[e'];rfl
 refine⟨.lst (nm.cps.toList.map λ_=>D.bl true)::gb,?_⟩
 rw[xssRt (jzD (d:=.bl true) (h':=h++ .lst (nm.cps.toList.map λ_=>D.bl true)::gb) (by
  rw[evAnd,c1,jze]
  show ev G cl _ _ _=_
  exact evBl1 (evs1 c2) (vzU _ (jzN ..))))]
 rfl
abbrev iwB:Ss:=(.cons (.asg (.nm 3) (.and (.chn .le .le (.int 1) (.var 0) (.gc 7)) (.chn .le .le (.int 1) (.var 1) (.gc 7)))) (.cons (.ret (.and (.var 3) (.chn .le .le (.int 1) (.var 2) (.gc 3)))) .nil))
def Isw(cl:Cl)(f:Nat):Prop:=∀(h:Hh)(w t l:Int)(S:List St3),Good w t l S->cl f [.int w,.int t,.int l] h=.ok (.bl true) h
theorem isw_ok(g4:∀r h,ev G cl (.gc 7) r h=.ok (.int 8) h)(g0:∀r h,ev G cl (.gc 3) r h=.ok (.int 9) h){h:Hh}{w t l:Int}{S:List St3}(g:Good w t l S):(xss G cl W iwB [some (.int w),some (.int t),some (.int l),none] h).bind endD=.ok (.bl true) h:=by
 have c1:ev G cl (.and (.chn .le .le (.int 1) (.var 0) (.gc 7)) (.chn .le .le (.int 1) (.var 1) (.gc 7))) [some (.int w),some (.int t),some (.int l),none] h=.ok (.bl ((decide (1<=w)&&decide (w<=8))&&(decide (1<=t)&&decide (t<=8)))) h:=jzY (evChI (evInt ..) (evV rfl) (cLe ..) (g4 _ _) (cLe ..)) (evChI (evInt ..) (evV rfl) (cLe ..) (g4 _ _) (cLe ..))
 rw[decide_eq_true g.hw.1,decide_eq_true g.hw.2,decide_eq_true g.ht.1,decide_eq_true g.ht.2] at c1
 have c2:ev G cl (.and (.var 3) (.chn .le .le (.int 1) (.var 2) (.gc 3))) [some (.int w),some (.int t),some (.int l),some (.bl true)] h=.ok (.bl (true&&(decide (1<=l)&&decide (l<=9)))) h:=jzY (evV rfl) (evChI (evInt ..) (evV rfl) (cLe ..) (g0 _ _) (cLe ..))
 rw[decide_eq_true g.hl.1,decide_eq_true g.hl.2] at c2
 rw[xssNx (r':= [some (.int w),some (.int t),some (.int l),some (.bl true)]) (h':=h) (jzt c1),xssRt (jzD c2)]
 rfl
abbrev shB:Ss:=(.cons (.ret (.blt .all (.cons (.comp (.tp [0,1]) .itf (.cons (.att (.var 0) "Plate" "bright_at") .nil) .nil (.and (.mth (.var 2) "Plate" "holds" 35 (.cons (.var 0) .nil)) (.chn .le .le (.att (.var 2) "Plate" "limit") (.var 1) (.gc 3))) ["place","bright","self"] [0]) .nil))) .nil)
def Sho(cl:Cl)(f:Nat):Prop:=∀(h:Hh)(n:Nat)(nm:Str)(w t l:Int)(S:List St3),PlateAt h n nm w t l S->Good w t l S->∃g,cl f [.ref n] h=.ok (.bl true) (h++g)
theorem sho_ok(h11:Hol cl 35)(g0:∀r h,ev G cl (.gc 3) r h=.ok (.int 9) h){h:Hh}{n:Nat}{nm:Str}{w t l:Int}{S:List St3}(P:PlateAt h n nm w t l S)(g:Good w t l S):∃gg,(xss G cl W shB [some (.ref n)] h).bind endD=.ok (.bl true) (h++gg):=by
 obtain⟨k,e1,e2⟩:=id P
 obtain⟨gb,q⟩:=evC_itf (G:=G) (cl:=cl) (t:=.tp [0,1]) (it:=.cons (.att (.var 0) "Plate" "bright_at") .nil) (e:=.and (.mth (.var 2) "Plate" "holds" 35 (.cons (.var 0) .nil)) (.chn .le .le (.att (.var 2) "Plate" "limit") (.var 1) (.gc 3))) (N:= ["place","bright","self"]) (cap:= [0]) (r:= [some (.ref n)]) (λr=>∃a b,r=[a,b,some (.ref n)]) (λ_=>D.bl true) (evs1 (qzh rfl e1 (fB ..))) e2 (by have:=g.len;omega) ⟨_,_,rfl⟩
  (by
    rintro s hs r h' ⟨a,b,rfl⟩ kp
    refine⟨[some (.tup [.int s.1,.int s.2.1]),some (.int s.2.2),some (.ref n)],rfl,⟨_,_,rfl⟩,?_⟩
    have P':=P.kp kp
    obtain⟨k',e1',_⟩:=id P'
    have c:=jzY (G:=G) (cl:=cl) (r:= [some (.tup [.int s.1,.int s.2.1]),some (.int s.2.2),some (.ref n)]) (h:=h') (vzH (i:=2) (m:="holds") (f:=35) rfl e1' rfl (evs1 (evV (i:=0) rfl)) (h11 h' n nm w t l S s.1 s.2.1 P')) (evChI (op:=.le) (op':=.le) (qzh (i:=2) rfl e1' (fL ..)) (evV (i:=1) rfl) (cLe ..) (g0 _ _) (cLe ..))
    obtain⟨s1,s2,s3⟩:=g.st s hs
    rw[s1,decide_eq_true s2,decide_eq_true s3] at c
    exact c)
 refine⟨.lst (S.map λ_=>D.bl true)::gb,?_⟩
 rw[xssRt (jzD (evBl1 (evs1 q) (vzU _ (jzN ..))))]
 rfl
abbrev dcE:E:=(.dcT (.tp [0,1,2]) (.var 5) (.tup (.cons (.var 0) (.cons (.var 1) .nil))) (.var 2) ["x","y","bright"] [])
theorem no_any{S:List St3}(u:S.Pairwise npS){i:Nat}{s:St3}(hs:S[i]? =some s):(((S.take i).map kv).any λp=>decide (p.1=[s.1,s.2.1]))=false:=by
 rw[List.any_eq_false]
 intro p hp
 obtain⟨a,ha,rfl⟩:=List.mem_map.mp hp
 obtain⟨hi,rfl⟩:=List.getElem?_eq_some_iff.mp hs
 have e:S=S.take i++S[i]::S.drop (i+1):=by rw[<- List.drop_eq_getElem_cons hi,List.take_append_drop]
 rw[e,List.pairwise_append] at u
 have:=u.2.2 a ha _ List.mem_cons_self
 simpa [kv,npS] using this
theorem dtI_ok{S:List St3}(u:S.Pairwise npS)(hl:S.length<=8){h0:Hh}{n:Nat}(e:lstAt h0 n=some (S.map s3)):∀(k i:Nat)(r:Ev),(∃a b c,r=[a,b,c])->i<=S.length->S.length-i<k->
 dtI (.tp [0,1,2]) (ev G cl (.tup (.cons (.var 0) (.cons (.var 1) .nil)))) (ev G cl (.var 2)) h0.length n k i r (h0++ [O.dtt ((S.take i).map kv)])=.ok () (h0++ [O.dtt (S.map kv)]):=by
 intro k
 induction k with
 |zero=>intro i r _ _ hk;omega
 |succ k ih=>
  rintro i r ⟨a,b,c,rfl⟩ hi hk
  have e0:lstAt (h0++ [O.dtt ((S.take i).map kv)]) n=some (S.map s3):=jzC _ _ e
  by_cases hlt:i<S.length
  ·have es:S[i]? =some S[i]:=List.getElem?_eq_getElem hlt
   have ed:(S.map s3)[i]? =some (s3 S[i]):=by rw[List.getElem?_map,es];rfl
   have na:=no_any u es
   have ln:((S.take i).map kv).length<1000:=by rw[List.length_map,List.length_take];omega
   have pt:dputN h0.length (.tup [.int S[i].1,.int S[i].2.1]) (.int S[i].2.2) (h0++ [O.dtt ((S.take i).map kv)])=.ok () (h0++ [O.dtt ((S.take (i+1)).map kv)]):=by
    unfold dputN
    rw[jzH]
    show(if((S.take i).map kv).length<1000 then Rs.ok () ((h0++ [O.dtt ((S.take i).map kv)]).set h0.length (.dtt (putT ((S.take i).map kv) [S[i].1,S[i].2.1] (.int S[i].2.2)))) else .bad)=_
    rw[if_pos ln,wzj]
    unfold putT
    rw[na,if_neg Bool.false_ne_true,List.take_succ,es,List.map_append]
    rfl
   have st:setT (.tp [0,1,2]) (s3 S[i]) [a,b,c]=some [some (.int S[i].1),some (.int S[i].2.1),some (.int S[i].2.2)]:=rfl
   have k1:∀h:Hh,ev G cl (.tup (.cons (.var 0) (.cons (.var 1) .nil))) [some (.int S[i].1),some (.int S[i].2.1),some (.int S[i].2.2)] h=.ok (.tup [.int S[i].1,.int S[i].2.1]) h:=λh=>jzQ (evV rfl) (evV rfl)
   have k2:∀h:Hh,ev G cl (.var 2) [some (.int S[i].1),some (.int S[i].2.1),some (.int S[i].2.2)] h=.ok (.int S[i].2.2) h:=λh=>evV rfl
   simp only[dtI,e0,ed,st,k1,k2,jze,pt]
   exact ih (i+1) _ ⟨_,_,_,rfl⟩ hlt (by omega)
  ·have ed:(S.map s3)[i]? =none:=List.getElem?_eq_none_iff.mpr (by simp;omega)
   simp only[dtI,e0,ed]
   rw[List.take_of_length_le (by omega)]
theorem dcE_ok{S:List St3}(u:S.Pairwise npS)(hl:S.length<=8){h:Hh}{n:Nat}{r:Ev}(hr:r[5]? =some (some (.ref n)))(e:lstAt h n=some (S.map s3)):ev G cl dcE r h=.ok (.ref h.length) (h++ [.dtf (S.map kv)]):=by
 rw[evDcT,evV hr,jze]
 show(match lstAt h n with|some l=>(dtI (.tp [0,1,2]) (ev G cl (.tup (.cons (.var 0) (.cons (.var 1) .nil)))) (ev G cl (.var 2)) h.length n (l.length+1) 0 (blockE ["x","y","bright"] [] r) (h++ [O.dtt []])).bind (λ_ h'=>dtZ h.length h')|none=>.bad)=_
 rw[e]
 have q:=dtI_ok (G:=G) (cl:=cl) u hl e ((S.map s3).length+1) 0 (blockE ["x","y","bright"] [] r) ⟨none,none,none,rfl⟩ (Nat.zero_le _) (by rw[List.length_map];omega)
 rw[List.take_zero,List.map_nil] at q
 show(dtI _ _ _ _ _ _ _ _ _).bind _=_
 rw[q,jze]
 unfold dtZ
 rw[jzH]
 show Rs.ok _ _=_
 rw[wzj]
end
end Ng
end
section
namespace Ng
open PySem L2
section
variable {G:Gs}{cl:Cl}{W:Nat}
theorem qzA{h g g':Hh}{cn f:Str}{fs:List (Str×D)}{a:E}{d:D}{r:Ev}{i:Nat}(hr:r[i]? =some (some (.ref h.length)))(ha:ev G cl a r (h++ .ins cn fs::g)=.ok d (h++ .ins cn fs::g'))(hl:fs.length<900):
 xs G cl W (.sfl (.var i) cn f a) r (h++ .ins cn fs::g)=.ok (.nx r) (h++ .ins cn (putA f d fs)::g'):=by
 rw[xsSfl,ha,nxOk,jze,evV hr,nxOk,jze,satOk _ (qzP ..) hl,nxOk,jze,zzr]
theorem lenDtf{h:Hh}{k:Nat}{l:List (List Int×D)}(e:h[k]? =some (.dtf l)):bltD .len [.ref k] h=.ok (.int l.length) h:=by
 have e0:lstAt h k=none:=by unfold lstAt;rw[e];rfl
 have e1:dtfAt h (.ref k)=some l:=by simp only[dtfAt,e]
 rw[bLen,sRef,e0]
 show lenN (.ref k) h=_
 show(match dtfAt h (.ref k) with|some l=>Rs.ok (D.int l.length) h|none=>.bad)=_
 rw[e1]
abbrev nitB:Ss:=(.cons (.iff (.not (.call 9 (.cons (.var 1) .nil))) (.cons (.rais 1 "a plate's name has one to eight small letters") .nil) .nil) (.cons (.iff (.not (.call 10 (.cons (.var 2) (.cons (.var 3) (.cons (.var 4) .nil))))) (.cons (.rais 2 "a plate has sides of 1 to 8 and a limit of 1 to 9") .nil) .nil) (.cons (.iff (.cmp .gt (.blt .len (.cons (.var 5) .nil)) (.gc 8)) (.cons (.rais 2 "a plate has at most eight stars") .nil) .nil) (.cons (.sfl (.var 0) "Plate" "name" (.var 1)) (.cons (.sfl (.var 0) "Plate" "width" (.var 2)) (.cons (.sfl (.var 0) "Plate" "height" (.var 3)) (.cons (.sfl (.var 0) "Plate" "limit" (.var 4)) (.cons (.sfl (.var 0) "Plate" "bright_at" (.dcT (.tp [0,1,2]) (.var 5) (.tup (.cons (.var 0) (.cons (.var 1) .nil))) (.var 2) ["x","y","bright"] [])) (.cons (.iff (.cmp .lt (.blt .len (.cons (.att (.var 0) "Plate" "bright_at") .nil)) (.blt .len (.cons (.var 5) .nil))) (.cons (.rais 2 "a plate has no two stars at one place") .nil) .nil) (.cons (.iff (.not (.mth (.var 0) "Plate" "shows_its_stars" 34 .nil)) (.cons (.rais 2 "a star lies in the window, and is as bright as the limit to 9") .nil) .nil) .nil))))))))))
def Ini(cl:Cl)(f:Nat):Prop:=∀(h:Hh)(nm:Str)(w t l:Int)(S:List St3)(s:Nat),NmOk nm->Good w t l S->lstAt h s=some (S.map s3)->∃h',cl f [.ref h.length,.str nm,.int w,.int t,.int l,.ref s] (h++ [.ins "Plate" []])=.ok .non h'/\PlateAt h' h.length nm w t l S/\Kp h h'
theorem ini_ok(h0:Isn cl 9)(h1:Isw cl 10)(h9:Sho cl 34)(g5:∀r h,ev G cl (.gc 8) r h=.ok (.int 8) h){h:Hh}{nm:Str}{w t l:Int}{S:List St3}{s:Nat}(N:NmOk nm)(g:Good w t l S)(e:lstAt h s=some (S.map s3)):
 ∃h',(xss G cl W nitB [some (.ref h.length),some (.str nm),some (.int w),some (.int t),some (.int l),some (.ref s)] (h++ [.ins "Plate" []])).bind endD=.ok .non h'/\PlateAt h' h.length nm w t l S/\Kp h h':=by
 obtain⟨g1,q1⟩:=h0 (h++ [.ins "Plate" []]) nm N
 rw[List.append_assoc,List.singleton_append] at q1
 have q2:=h1 (h++ .ins "Plate" []::g1) w t l S g
 have q3:ev G cl (.cmp .gt (.blt .len (.cons (.var 5) .nil)) (.gc 8)) [some (.ref h.length),some (.str nm),some (.int w),some (.int t),some (.int l),some (.ref s)] (h++ .ins "Plate" []::g1)=.ok (.bl (decide ((8:Int)<((S.map s3).length:Nat)))) (h++ .ins "Plate" []::g1):=jzz (evLen rfl (jzC _ _ e)) (g5 _ _) (cGt ..)
 rw[decide_eq_false (by rw[List.length_map];have:=g.len;omega)] at q3
 generalize hF:([("name",D.str nm),("width",.int w),("height",.int t),("limit",.int l)]:List (Str×D))=F4
 have q8:ev G cl dcE [some (.ref h.length),some (.str nm),some (.int w),some (.int t),some (.int l),some (.ref s)] (h++ .ins "Plate" F4::g1)=.ok (.ref (h++O.ins "Plate" F4::g1).length) (h++ .ins "Plate" F4::(g1++ [.dtf (S.map kv)])):=by
  have:=dcE_ok (G:=G) (cl:=cl) g.up g.len (r:= [some (.ref h.length),some (.str nm),some (.int w),some (.int t),some (.int l),some (.ref s)]) rfl (jzC h [] (l:=S.map s3) (n:=s) e |> λ_=>jzC h (.ins "Plate" F4::g1) e)
  rw[List.append_assoc,List.cons_append] at this
  exact this
 have eP:putA "bright_at" (.ref (h++O.ins "Plate" F4::g1).length) F4=flds nm w t l (h++O.ins "Plate" F4::g1).length:=by rw[<- hF];rfl
 generalize hk:(h++O.ins "Plate" F4::g1).length=k at q8 eP
 have kE:k=(h++O.ins "Plate" (flds nm w t l k)::g1).length:=by rw[<- hk];simp
 have P:PlateAt (h++ .ins "Plate" (flds nm w t l k)::(g1++ [.dtf (S.map kv)])) h.length nm w t l S:=by
  refine⟨k,qzP ..,?_⟩
  have e2:h++O.ins "Plate" (flds nm w t l k)::(g1++ [.dtf (S.map kv)])=(h++O.ins "Plate" (flds nm w t l k)::g1)++ [.dtf (S.map kv)]:=by simp
  rw[e2]
  have e3:=jzH (h++O.ins "Plate" (flds nm w t l k)::g1) (.dtf (S.map kv))
  rwa [<- kE] at e3
 have eS:lstAt (h++ .ins "Plate" (flds nm w t l k)::(g1++ [.dtf (S.map kv)])) s=some (S.map s3):=jzC _ _ e
 obtain⟨k',p1,p2⟩:=id P
 obtain⟨g2,q10⟩:=h9 _ _ nm w t l S P g
 have q9:ev G cl (.cmp .lt (.blt .len (.cons (.att (.var 0) "Plate" "bright_at") .nil)) (.blt .len (.cons (.var 5) .nil))) [some (.ref h.length),some (.str nm),some (.int w),some (.int t),some (.int l),some (.ref s)] (h++ .ins "Plate" (flds nm w t l k)::(g1++ [.dtf (S.map kv)]))=.ok (.bl (decide (((S.map kv).length:Int)<((S.map s3).length:Nat)))) (h++ .ins "Plate" (flds nm w t l k)::(g1++ [.dtf (S.map kv)])):=
  jzz (evBl1 (evs1 (qzh rfl p1 (fB ..))) (lenDtf p2)) (evLen rfl eS) (cLt ..)
 rw[decide_eq_false (by rw[List.length_map,List.length_map];omega)] at q9
 generalize hHc:h++O.ins "Plate" (flds nm w t l k)::(g1++ [.dtf (S.map kv)])=Hc at P eS p1 p2 q10 q9
 have kp:Kp h (Hc++g2):=by rw[<- hHc,List.append_assoc];exact Kp.app _ _
 refine⟨Hc++g2,?_,P.kp (Kp.app _ _),kp⟩
 rw[xssNx (r':= [some (.ref h.length),some (.str nm),some (.int w),some (.int t),some (.int l),some (.ref s)]) (h':=h++ .ins "Plate" []::g1) (by rw[jzI (qzt (p:=true) (evCl (evs1 (evV rfl)) q1)),jzq]),
  xssNx (r':= [some (.ref h.length),some (.str nm),some (.int w),some (.int t),some (.int l),some (.ref s)]) (h':=h++ .ins "Plate" []::g1) (by rw[jzI (qzt (p:=true) (evCl (by rw[jzB,evV rfl,jze,evs2 (evV rfl) (evV rfl),jze]) q2)),jzq]),
  xssNx (r':= [some (.ref h.length),some (.str nm),some (.int w),some (.int t),some (.int l),some (.ref s)]) (h':=h++ .ins "Plate" []::g1) (by rw[jzI q3,jzq]),
  xssNx (r':= [some (.ref h.length),some (.str nm),some (.int w),some (.int t),some (.int l),some (.ref s)]) (h':=h++ .ins "Plate" [("name",D.str nm)]::g1) (qzA (h:=h) (fs:= []) (g':=g1) rfl (evV rfl) (Nat.lt_of_le_of_lt (m:=8) (Nat.le_of_ble_eq_true rfl) (by decide))),
  xssNx (r':= [some (.ref h.length),some (.str nm),some (.int w),some (.int t),some (.int l),some (.ref s)]) (h':=h++ .ins "Plate" [("name",D.str nm),("width",.int w)]::g1) (qzA (h:=h) (fs:= [("name",D.str nm)]) (g':=g1) rfl (evV rfl) (Nat.lt_of_le_of_lt (m:=8) (Nat.le_of_ble_eq_true rfl) (by decide))),
  xssNx (r':= [some (.ref h.length),some (.str nm),some (.int w),some (.int t),some (.int l),some (.ref s)]) (h':=h++ .ins "Plate" [("name",D.str nm),("width",.int w),("height",.int t)]::g1) (qzA (h:=h) (fs:= [("name",D.str nm),("width",.int w)]) (g':=g1) rfl (evV rfl) (Nat.lt_of_le_of_lt (m:=8) (Nat.le_of_ble_eq_true rfl) (by decide))),
  xssNx (r':= [some (.ref h.length),some (.str nm),some (.int w),some (.int t),some (.int l),some (.ref s)]) (h':=h++ .ins "Plate" [("name",D.str nm),("width",.int w),("height",.int t),("limit",.int l)]::g1) (qzA (h:=h) (fs:= [("name",D.str nm),("width",.int w),("height",.int t)]) (g':=g1) rfl (evV rfl) (Nat.lt_of_le_of_lt (m:=8) (Nat.le_of_ble_eq_true rfl) (by decide))),
  xssNx (r':= [some (.ref h.length),some (.str nm),some (.int w),some (.int t),some (.int l),some (.ref s)]) (h':=Hc) (by
   have z:=qzA (G:=G) (cl:=cl) (W:=W) (h:=h) (fs:=F4) (g:=g1) (f:="bright_at") (i:=0) rfl q8 (by rw[<- hF];exact Nat.lt_of_le_of_lt (m:=8) (Nat.le_of_ble_eq_true rfl) (by decide))
   rw[eP,hHc] at z
   rw[<- hF] at z
   exact z),
  xssNx (r':= [some (.ref h.length),some (.str nm),some (.int w),some (.int t),some (.int l),some (.ref s)]) (h':=Hc) (by rw[jzI q9,jzq]),
  xssNx (r':= [some (.ref h.length),some (.str nm),some (.int w),some (.int t),some (.int l),some (.ref s)]) (h':=Hc++g2) (by rw[jzI (qzt (p:=true) (vzH rfl p1 rfl (jzO ..) q10)),jzq]),jzq]
 rfl
end
end Ng
end
section
namespace Ng
open PySem L2
def chr(j:Int):Nat:=(abc.cps.toList[j.toNat]?).getD 0
theorem xzM:abc.cps.toList.length=26:=by decide
theorem xzv{j:Int}(h0:0<=j)(h1:j<26):chr j∈abc.cps.toList:=by
 have hj:j.toNat<abc.cps.toList.length:=by rw[xzM];omega
 unfold chr
 rw[List.getElem?_eq_getElem hj]
 exact List.getElem_mem hj
theorem chr_in:∀c∈abc.cps.toList,inX (.str ⟨#[c]⟩) (.str abc) []=some true:=by decide+kernel
theorem chr_ok{j:Int}(h0:0<=j)(h1:j<26)(h:Hh):ixD (.str abc) (.int j) h=.ok (.str ⟨#[chr j]⟩) h:=by
 have hj:j.toNat<abc.cps.toList.length:=by rw[xzM];omega
 have e:atI abc.cps.toList j=some (abc.cps.toList[j.toNat]):=by
  have:=qza (xs:=abc.cps.toList) (j:=j.toNat) (List.getElem?_eq_getElem hj)
  rwa [Int.toNat_of_nonneg h0] at this
 show(if abc.length<=sizeLine then(match atI abc.cps.toList j with|some c=>Rs.ok (D.str ⟨#[c]⟩) h|none=>.bad) else .bad)=_
 rw[if_pos (by decide),e]
 unfold chr
 rw[List.getElem?_eq_getElem hj]
 rfl
theorem wzG:∀l:List Str,strsD (l.map D.str)=some l
 | []=>rfl
 |x::l=>by rw[List.map_cons,strsD,wzG l];rfl
theorem vzG(f:Nat->Nat):∀(l:List Nat)(acc:Array Nat),((l.map λk=>(⟨#[f k]⟩:Str)).foldl (λacc q=>acc++(Str.ofString "").cps++q.cps) acc).toList=acc.toList++l.map f
 | [],acc=>by simp
 |a::l,acc=>by
  rw[List.map_cons,List.foldl_cons,vzG f l]
  simp[show(Str.ofString "").cps= #[] from rfl]
theorem zz6(f:Nat->Nat)(a:Nat)(l:List Nat):(Txt.join "" ((a::l).map λk=>(⟨#[f k]⟩:Str))).cps.toList=(a::l).map f:=by
 show((l.map λk=>(⟨#[f k]⟩:Str)).foldl (λacc q=>acc++(Str.ofString "").cps++q.cps) #[f a]).toList=_
 rw[vzG]
 rfl
theorem zzp(f:Nat->Nat):∀l:List Nat,((l.map λk=>(⟨#[f k]⟩:Str)).map λx=>x.length).sum=l.length
 | []=>rfl
 |x::l=>by
  rw[List.map_cons,List.map_cons,List.sum_cons,zzp f l,List.length_cons]
  show 1+l.length=l.length+1
  omega
section
variable {G:Gs}{cl:Cl}{W:Nat}
theorem evJoin(s:Str)(e:E)(r:Ev)(h:Hh):ev G cl (.join s e) r h=(ev G cl e r h).bind λx h=>joinD s x h:=by rw[ev]<;>rfl
def pl2(s:St3):D:=.tup [.int s.1,.int s.2.1]
theorem inT_pl(x y:Int):∀S:List St3,inT (.tup [.int x,.int y]) (S.map pl2)=some (S.any λs=>decide (s.1=x/\s.2.1=y))
 | []=>rfl
 |s::S=>by
  rw[List.map_cons,inT,inT_pl x y S,List.any_cons]
  have e:eqD 20 (pl2 s) (.tup [.int x,.int y])=some (decide (s.1=x/\s.2.1=y)):=by
   unfold pl2
   rw[eqDT]
   simp only[eqL1,eqL0,eqDI,Bool.and_true,Bool.decide_and]
  rw[e]
theorem dct_lst{h:Hh}{n:Nat}{l:List D}(e:lstAt h n=some l):dctAt h (.ref n)=none:=by
 show(match h[n]? with|some (.dct l)=>some l|_=>none)=none
 unfold lstAt at e
 cases q:h[n]? with
 |none=>rfl
 |some o=>
  cases o with
  |dct l'=>rw[q] at e;cases e
  |_=>rfl
theorem cNotin{h:Hh}{n:Nat}{S:List St3}(x y:Int)(e:lstAt h n=some (S.map pl2)):cmpD .notin (.tup [.int x,.int y]) (.ref n) h=.ok (.bl (!(S.any λs=>decide (s.1=x/\s.2.1=y)))) h:=by
 have e1:inTs (.tup [.int x,.int y]) (.ref n) (S.map pl2)=some (S.any λs=>decide (s.1=x/\s.2.1=y)):=inT_pl x y S
 unfold cmpD
 simp only[dct_lst e,sRef,e,e1]
theorem sl2(s:St3)(h:Hh):slTD (s3 s) (.int 2) h=.ok (pl2 s) h:=rfl
end
end Ng
end
section
namespace Ng
open PySem L2
section
variable {G:Gs}{cl:Cl}{W:Nat}
theorem exApp{i a:Nat}{e:E}{y:D}{l:List D}{r:Ev}{h:Hh}(hr:r[i]? =some (some (.ref a)))(he:ev G cl e r h=.ok y h)(hs:h[a]? =some (.lst l))(hl:l.length<=1000):xs G cl W (.ex (.app (.var i) e)) r h=.ok (.nx r) (h.set a (.lst (l++ [y]))):=by
 have hL:isLst (.ref a) h=true:=by rw[jz6,jzM hs];rfl
 rw[xsEx,evApp,evV hr,jze,if_pos hL,he,jze,xzI _ hs (by omega),nxOk,jze]
theorem PlateAt.set{h:Hh}{n a:Nat}{nm:Str}{w t l:Int}{S:List St3}{L:List D}{o:O}(P:PlateAt h n nm w t l S)(hs:h[a]? =some (.lst L)):PlateAt (h.set a o) n nm w t l S:=by
 obtain⟨k,e1,e2⟩:=P
 have n1:a≠n:=λz=>by rw[z,e1] at hs;cases hs
 have n2:a≠k:=λz=>by rw[z,e2] at hs;cases hs
 exact⟨k,by rw[List.getElem?_set_ne n1];exact e1,by rw[List.getElem?_set_ne n2];exact e2⟩
theorem qzO{h:Hh}{a:Nat}{o o':O}(hs:h[a]? =some o'):(h.set a o)[a]? =some o:=List.getElem?_set_self (List.getElem?_eq_some_iff.mp hs).1
def Dru(cl:Cl)(f:Nat)(ns:List Int):Prop:=∀(at':Int)(M:Nat)(h:Hh),M<=1000->0<=at'->at'<100000->lstAt h 0=some (ns.map D.int)->∃row:List Int,row.length=M/\InR row/\cl f [.ref 0,.int at',.int M] h=.ok (.ref h.length) (h++ [.lst (row.map D.int)])
theorem evs3{a b c:E}{x y z:D}{r:Ev}{h h1 h2 h3:Hh}(ha:ev G cl a r h=.ok x h1)(hb:ev G cl b r h1=.ok y h2)(hc:ev G cl c r h2=.ok z h3):evs G cl (.cons a (.cons b (.cons c .nil))) r h=.ok [x,y,z] h3:=by
 rw[jzB,ha,jze,evs2 hb hc,jze]
theorem evs4{a b c d:E}{x y z u:D}{r:Ev}{h h1 h2 h3 h4:Hh}(ha:ev G cl a r h=.ok x h1)(hb:ev G cl b r h1=.ok y h2)(hc:ev G cl c r h2=.ok z h3)(hd:ev G cl d r h3=.ok u h4):evs G cl (.cons a (.cons b (.cons c (.cons d .nil)))) r h=.ok [x,y,z,u] h4:=by
 rw[jzB,ha,jze,evs3 hb hc hd,jze]
theorem evs5{a b c d e:E}{x y z u v:D}{r:Ev}{h h1 h2 h3 h4 h5:Hh}(ha:ev G cl a r h=.ok x h1)(hb:ev G cl b r h1=.ok y h2)(hc:ev G cl c r h2=.ok z h3)(hd:ev G cl d r h3=.ok u h4)(he:ev G cl e r h4=.ok v h5):evs G cl (.cons a (.cons b (.cons c (.cons d (.cons e .nil))))) r h=.ok [x,y,z,u,v] h5:=by
 rw[jzB,ha,jze,evs4 hb hc hd he,jze]
theorem qz9{l:Es}{ds:List D}{r:Ev}{h h1:Hh}(hl:evs G cl l r h=.ok ds h1)(hn:ds.length<=1000):ev G cl (.tup l) r h=.ok (.tup ds) h1:=by
 rw[evTup,hl,jze,if_pos hn]
theorem wzT{l:Es}{ds:List D}{r:Ev}{h h1:Hh}(hl:evs G cl l r h=.ok ds h1)(hn:ds.length<=1000):ev G cl (.lst l) r h=.ok (.ref h1.length) (h1++ [.lst ds]):=by
 rw[evLst,hl,jze,if_pos hn]
theorem small{l:List D}(h:Nat.ble l.length 8=true):l.length<=1000:=Nat.le_trans (Nat.le_of_ble_eq_true h) (by decide)
end
end Ng
end
section
namespace Ng
open PySem L2
@[simp] theorem ne_us:(Str.ofString "unseen"=Str.ofString "star")=False:=eq_false (by decide)
@[simp] theorem ne_su:(Str.ofString "star"=Str.ofString "unseen")=False:=eq_false (by decide)
@[simp] theorem ne_du:(Str.ofString "under"=Str.ofString "unseen")=False:=eq_false (by decide)
@[simp] theorem ne_uu:(Str.ofString "unseen"=Str.ofString "under")=False:=eq_false (by decide)
@[simp] theorem ne_ds:(Str.ofString "under"=Str.ofString "star")=False:=eq_false (by decide)
@[simp] theorem ne_sd:(Str.ofString "star"=Str.ofString "under")=False:=eq_false (by decide)
inductive Sy where
 |un|st (k:Int)|ud (k:Int)
deriving DecidableEq
def Sy.d:Sy->D
 |.un=>.tup [.str "unseen",.int 0]
 |.st k=>.tup [.str "star",.int k]
 |.ud k=>.tup [.str "under",.int k]
def Sy.w:Sy->Str
 |.un=>"unseen"
 |.st _=>"star"
 |.ud _=>"under"
def Sy.n:Sy->Int
 |.un=>0
 |.st k=>k
 |.ud k=>k
def Sy.lo:Sy->Int
 |.st k=>k
 |_=>0
def Sy.hi:Sy->Int
 |.un=>9
 |.st k=>k
 |.ud k=>k-1
def Sy.ok:Sy->Prop
 |.un=>True
 |.st k=>1<=k/\k<=9
 |.ud k=>1<=k/\k<=9
def rngI(k:Int):List Int:=(List.range (k-0).toNat).map λ(j:Nat)=>0+(j:Int)
def Sy.left:Sy->List Int
 |.un=>rngI 10
 |.st k=>[k]
 |.ud k=>rngI k
def all19:List Sy:= [.un,.st 1,.st 2,.st 3,.st 4,.st 5,.st 6,.st 7,.st 8,.st 9,.ud 1,.ud 2,.ud 3,.ud 4,.ud 5,.ud 6,.ud 7,.ud 8,.ud 9]
theorem n9{k:Int}(h:1<=k/\k<=9):k=1\/k=2\/k=3\/k=4\/k=5\/k=6\/k=7\/k=8\/k=9:=by omega
theorem Sy.mem{s:Sy}(h:s.ok):s∈all19:=by
 cases s with
 |un=>decide
 |st k=>rcases n9 h with rfl|rfl|rfl|rfl|rfl|rfl|rfl|rfl|rfl<;>decide
 |ud k=>rcases n9 h with rfl|rfl|rfl|rfl|rfl|rfl|rfl|rfl|rfl<;>decide
def spD2(s:Sy):D:=.tup [.int s.lo,.int s.hi]
def clo(ss:List Sy):Int:=best1 true 0 (ss.map Sy.lo)
def chi(ss:List Sy):Int:=best1 false 9 (ss.map Sy.hi)
def nrw(lo hi:Int):Sy:=if lo=hi/\0<lo then .st lo else if hi<9 then .ud (hi+1) else .un
def lnarA:Int->List Sy->Sy
 |m,[]=>if m<10 then .ud m else .un
 |_,.st k::_=>.st k
 |m,.ud k::r=>lnarA (if k<m then k else m) r
 |m,.un::r=>lnarA m r
theorem Sy.pd(s:Sy):Ng.pd 1 s.d=true:=by cases s<;>simp[Ng.pd,Sy.d]
theorem qzf(a x:Int)(l:List Int):minI a (x::l)=minI (if x<a then x else a) l:=rfl
theorem wzQ(a x:Int)(l:List Int):maxI a (x::l)=maxI (if x>a then x else a) l:=rfl
theorem vzf:∀(l:List Int)(a:Int),minI a l<=a/\∀x∈l,minI a l<=x
 | [],a=>⟨Int.le_refl _,λ_ h=>by cases h⟩
 |y::l,a=>by
  obtain⟨h1,h2⟩:=vzf l (if y<a then y else a)
  rw[qzf]
  have hm:(if y<a then y else a)<=a/\(if y<a then y else a)<=y:=by split<;>omega
  refine⟨by omega,λx hx=>?_⟩
  rcases List.mem_cons.mp hx with rfl|hx
  ·omega
  ·exact h2 x hx
theorem wzp:∀(l:List Int)(a:Int),minI a l=a\/minI a l∈l
 | [],a=>.inl rfl
 |y::l,a=>by
  rw[qzf]
  rcases wzp l (if y<a then y else a) with h|h
  ·rw[h]
   split
   ·exact .inr List.mem_cons_self
   ·exact .inl rfl
  ·exact .inr (List.mem_cons_of_mem _ h)
theorem zzS:∀(l:List Int)(a:Int),a<=maxI a l/\∀x∈l,x<=maxI a l
 | [],a=>⟨Int.le_refl _,λ_ h=>by cases h⟩
 |y::l,a=>by
  obtain⟨h1,h2⟩:=zzS l (if y>a then y else a)
  rw[wzQ]
  have hm:a<=(if y>a then y else a)/\y<=(if y>a then y else a):=by split<;>omega
  refine⟨by omega,λx hx=>?_⟩
  rcases List.mem_cons.mp hx with rfl|hx
  ·omega
  ·exact h2 x hx
theorem vzE:∀(l:List Int)(a:Int),maxI a l=a\/maxI a l∈l
 | [],a=>.inl rfl
 |y::l,a=>by
  rw[wzQ]
  rcases vzE l (if y>a then y else a) with h|h
  ·rw[h]
   split
   ·exact .inr List.mem_cons_self
   ·exact .inl rfl
  ·exact .inr (List.mem_cons_of_mem _ h)
def has(s:Sy)(b:Int):Bool:=s.left.any (·==b)
theorem lh19:∀s∈all19,0<=s.lo/\s.lo<=s.hi/\s.hi<=9/\nrw s.lo s.hi=s:=by decide+kernel
section
variable {ss:List Sy}(ne:ss≠ [])(ok:∀s∈ss,s.ok)
include ne ok
end
def pick(s:Sy)(a b c:D):D:=match s with
 |.st _=>a
 |.ud _=>b
 |.un=>c
def agr:Sy->Sy->Bool
 |.st k,.st j=>decide (k=j)
 |.st k,.ud j=>decide (k<j)
 |.ud k,.st j=>decide (j<k)
 |_,_=>true
theorem agr19:∀a∈all19,∀b∈all19,agr a b=(decide (a.lo<=b.hi)&&decide (b.lo<=a.hi)):=by decide+kernel
theorem xzt{ss:List Sy}{s:Sy}(h:s∈ss):s.lo<=clo ss:=by
 cases ss with
 |nil=>cases h
 |cons a r=>
  obtain⟨h1,h2⟩:=zzS (r.map Sy.lo) a.lo
  rcases List.mem_cons.mp h with rfl|h
  ·exact h1
  ·exact h2 _ (List.mem_map.mpr ⟨s,h,rfl⟩)
theorem vzP{ss:List Sy}{s:Sy}(h:s∈ss):chi ss<=s.hi:=by
 cases ss with
 |nil=>cases h
 |cons a r=>
  obtain⟨h1,h2⟩:=vzf (r.map Sy.hi) a.hi
  rcases List.mem_cons.mp h with rfl|h
  ·exact h1
  ·exact h2 _ (List.mem_map.mpr ⟨s,h,rfl⟩)
theorem clo_at:∀(ss:List Sy),(ss=[]/\clo ss=0)\/∃s∈ss,s.lo=clo ss
 | []=>.inl ⟨rfl,rfl⟩
 |a::r=>.inr (by
  rcases vzE (r.map Sy.lo) a.lo with e|e
  ·exact⟨a,List.mem_cons_self,e.symm⟩
  ·obtain⟨s,hs,es⟩:=List.mem_map.mp e
   exact⟨s,List.mem_cons_of_mem _ hs,es⟩)
theorem chi_at:∀(ss:List Sy),(ss=[]/\chi ss=9)\/∃s∈ss,s.hi=chi ss
 | []=>.inl ⟨rfl,rfl⟩
 |a::r=>.inr (by
  rcases wzp (r.map Sy.hi) a.hi with e|e
  ·exact⟨a,List.mem_cons_self,e.symm⟩
  ·obtain⟨s,hs,es⟩:=List.mem_map.mp e
   exact⟨s,List.mem_cons_of_mem _ hs,es⟩)
section
variable {ss:List Sy}(ok:∀s∈ss,s.ok)
include ok
theorem all_agr:(ss.all λa=>ss.all (agr a))=decide (clo ss<=chi ss):=by
 by_cases h:clo ss<=chi ss
 ·rw[decide_eq_true h,List.all_eq_true]
  intro a ha
  rw[List.all_eq_true]
  intro b hb
  rw[agr19 a (Sy.mem (ok a ha)) b (Sy.mem (ok b hb)),Bool.and_eq_true,decide_eq_true_eq,decide_eq_true_eq]
  have:=xzt ha
  have:=xzt hb
  have:=vzP ha
  have:=vzP hb
  omega
 ·rw[decide_eq_false h,List.all_eq_false]
  rcases clo_at ss with ⟨e1,e2⟩|⟨a,ha,ea⟩
  ·subst e1
   exact absurd (by decide) h
  ·rcases chi_at ss with ⟨e1,e2⟩|⟨b,hb,eb⟩
   ·subst e1;cases ha
   ·refine⟨a,ha,λz=>?_⟩
    rw[List.all_eq_true] at z
    have z:=z b hb
    rw[agr19 a (Sy.mem (ok a ha)) b (Sy.mem (ok b hb)),Bool.and_eq_true,decide_eq_true_eq,decide_eq_true_eq] at z
    omega
end
theorem vzh{k:Int}:∀(ss:List Sy)(m:Int),Sy.st k∈ss->∃j,Sy.st j∈ss/\lnarA m ss=.st j
 |.st j::r,m,_=>⟨j,List.mem_cons_self,rfl⟩
 |.un::r,m,h=>by
  obtain⟨j,h1,h2⟩:=vzh r m (by rcases List.mem_cons.mp h with e|h;cases e;exact h)
  exact⟨j,List.mem_cons_of_mem _ h1,h2⟩
 |.ud i::r,m,h=>by
  obtain⟨j,h1,h2⟩:=vzh r (if i<m then i else m) (by rcases List.mem_cons.mp h with e|h;cases e;exact h)
  exact⟨j,List.mem_cons_of_mem _ h1,h2⟩
theorem vzi:∀(ss:List Sy)(m:Int),m<=10->(∀k,Sy.st k ∉ ss)->lnarA m ss=if minI m (ss.map λs=>s.hi+1)<10 then .ud (minI m (ss.map λs=>s.hi+1)) else .un
 | [],m,_,_=>rfl
 |.st j::r,m,_,h=>absurd List.mem_cons_self (h j)
 |.un::r,m,hm,h=>by
  have ih:=vzi r m hm λk hk=>h k (List.mem_cons_of_mem _ hk)
  rw[List.map_cons,qzf,if_neg (show ¬Sy.un.hi+1<m by simp only[Sy.hi];omega)]
  exact ih
 |.ud i::r,m,hm,h=>by
  have ih:=vzi r (if i<m then i else m) (by split<;>omega) λk hk=>h k (List.mem_cons_of_mem _ hk)
  rw[List.map_cons,qzf,show(Sy.ud i).hi+1=i by simp only[Sy.hi];omega]
  exact ih
theorem lnar_is{ss:List Sy}(ok:∀s∈ss,s.ok)(h:clo ss<=chi ss):lnarA 10 ss=nrw (clo ss) (chi ss):=by
 by_cases hst:∃k,Sy.st k∈ss
 ·obtain⟨k,hk⟩:=hst
  obtain⟨j,hj,e⟩:=vzh ss 10 hk
  have a:=xzt hj
  have b:=vzP hj
  simp only[Sy.lo,Sy.hi] at a b
  have c:1<=j/\j<=9:=ok _ hj
  rw[e]
  unfold nrw
  rw[show clo ss=j by omega,show chi ss=j by omega,if_pos ⟨rfl,by omega⟩]
 ·have ns:∀k,Sy.st k ∉ ss:=λk hk=>hst ⟨k,hk⟩
  have l0:clo ss=0:=by
   rcases clo_at ss with ⟨_,e2⟩|⟨a,ha,ea⟩
   ·exact e2
   ·cases a with
    |un=>exact ea.symm
    |ud k=>exact ea.symm
    |st k=>exact absurd ha (ns k)
  have m1:minI 10 (ss.map λs=>s.hi+1)=chi ss+1:=by
   obtain⟨h1,h2⟩:=vzf (ss.map λs=>s.hi+1) 10
   rcases chi_at ss with ⟨e1,e2⟩|⟨b,hb,eb⟩
   ·subst e1;rfl
   ·have y:=lh19 b (Sy.mem (ok b hb))
    have z:=h2 (b.hi+1) (List.mem_map.mpr ⟨b,hb,rfl⟩)
    rcases wzp (ss.map λs=>s.hi+1) 10 with e|e
    ·omega
    ·obtain⟨s,hs,es⟩:=List.mem_map.mp e
     have:=vzP hs
     omega
  rw[vzi ss 10 (by omega) ns,m1,l0]
  unfold nrw
  rw[if_neg (show ¬(0=chi ss/\(0:Int)<0) by omega)]
  by_cases h9:chi ss<9
  ·rw[if_pos (show chi ss+1<10 by omega),if_pos h9]
  ·rw[if_neg (show ¬chi ss+1<10 by omega),if_neg h9]
end Ng
end
section
namespace Ng
open PySem L2
theorem nm_of{s:Str}(a:1<=s.length)(b:s.length<=8)(c:∀x∈s.cps.toList,x∈abc.cps.toList):NmOk s:=⟨a,b,λx hx=>chr_in x (c x hx)⟩
theorem join_abc{h:Hh}{n m:Nat}(f:Nat->Nat)(hm:m<=8)(e:lstAt h n=some ((List.range m).map λk=>D.str ⟨#[f k]⟩)):∃s:Str,s.cps.toList=(List.range m).map f/\joinD "" (.ref n) h=.ok (.str s) h:=by
 have e1:((List.range m).map λk=>D.str ⟨#[f k]⟩)=((List.range m).map λk=>(⟨#[f k]⟩:Str)).map D.str:=by rw[List.map_map];rfl
 rw[e1] at e
 refine⟨Txt.join "" ((List.range m).map λk=>(⟨#[f k]⟩:Str)),?_,?_⟩
 ·cases q:List.range m with
  |nil=>rfl
  |cons a l=>exact zz6 f a l
 ·unfold joinD
  rw[jz6,sRef,e]
  show(match strsD (((List.range m).map λk=>(⟨#[f k]⟩:Str)).map D.str) with|some xs=>if(xs.map (λx:Str=>x.length)).sum+xs.length*(Str.length "")<=1000 then Rs.ok (D.str (Txt.join "" xs)) h else .bad|none=>.bad)=_
  rw[wzG]
  show(if _ then _ else _)=_
  rw[if_pos]
  rw[zzp f,show Str.length ""=0 from rfl]
  simp
  omega
theorem vzs(x y:Str):(x++y).length=x.length+y.length:=Array.size_append
theorem vzt(x y:Str):(x++y).cps.toList=x.cps.toList++y.cps.toList:=Array.toList_append
theorem bAddS{x y:Str}(h:Hh)(hl:x.length+y.length<=1000):binD .add (.str x) (.str y) h=.ok (.str (x++y)) h:=by
 show(if _ then _ else _)=_
 rw[if_pos (Nat.le_trans hl (by decide))]
section
variable {G:Gs}{cl:Cl}{W:Nat}
def en(dr p:Nat)(d3 d4 d5 d6:Option D):Ev:= [some (.ref dr),some (.str abc),some (.ref p),d3,d4,d5,d6]
abbrev nqO:E:=(.ix (.var 1) (.bin .mod (.bin .add (.bin .mul (.var 3) (.ix (.lst (.cons (.int 1) (.cons (.int 3) (.cons (.int 5) (.cons (.int 7) (.cons (.int 9) (.cons (.int 11) .nil))))))) (.bin .mod (.ix (.var 0) (.int 2)) (.int 6)))) (.ix (.var 0) (.int 3))) (.int 26)))
abbrev nqJ:E:=(.join "" (.comp (.nm 0) .r1 (.cons (.var 5) .nil) .nil (.ix (.var 1) (.bin .mod (.bin .add (.ix (.var 2) (.int 3)) (.bin .mul (.var 0) (.ix (.var 2) (.int 4)))) (.int 26))) ["_law_at","_law_letters","_law_d"] [1,0]))
abbrev nqL:Ss:=(.cons (.asg (.nm 4) nqO) (.cons (.asg (.nm 5) (.bin .mod (.bin .fdiv (.ix (.var 0) (.int 4)) (.int 4)) (.int 8))) (.cons (.iff (.cmp .eq (.bin .mod (.ix (.var 0) (.int 4)) (.int 2)) (.int 1)) (.cons (.asg (.nm 5) (.bin .mod (.ix (.var 0) (.bin .add (.int 5) (.var 3))) (.int 8))) .nil) .nil) (.cons (.asg (.nm 6) nqJ) (.cons (.iff (.cmp .eq (.bin .mod (.bin .fdiv (.ix (.var 0) (.int 4)) (.int 2)) (.int 2)) (.int 1)) (.cons (.ex (.app (.var 2) (.bin .add (.var 4) (.var 6)))) .nil) (.cons (.ex (.app (.var 2) (.bin .add (.var 6) (.var 4)))) .nil)) .nil)))))
abbrev nqN:E:=(.ix (.lst (.cons (.int 2) (.cons (.int 3) (.cons (.int 3) (.cons (.int 4) (.cons (.int 4) (.cons (.int 5) (.cons (.int 6) (.cons (.int 7) (.cons (.int 12) (.cons (.int 1) .nil))))))))))) (.bin .mod (.ix (.var 0) (.int 1)) (.int 10)))
abbrev nqB:Ss:=(.cons (.asg (.nm 1) (.str "abcdefghijklmnopqrstuvwxyz")) (.cons (.asg (.nm 2) (.lst .nil)) (.cons (.forr (.nm 3) (.r1 nqN) nqL) (.cons (.ret (.var 2)) .nil))))
theorem xzk{l:List Int}{r:Ev}{h:Hh}:evs G cl (l.foldr (λi e=>.cons (.int i) e) .nil) r h=.ok (l.map D.int) h:=by
 induction l with
 |nil=>rw[List.foldr_nil,jzO];rfl
 |cons a l ih=>rw[List.foldr_cons,jzB,evInt,jze,ih,jze];rfl
theorem tenle{l:List Int}(h:Nat.ble l.length 16=true):l.length<=1000:=Nat.le_trans (Nat.le_of_ble_eq_true h) (by decide)
theorem nq_turn{h0 h:Hh}{dr p:Nat}{row:List Int}(Q:Row h0 dr row)(hr:row.length=18)(hp:h0.length<=p)(k:Nat)(hk:k<12)(kp:Kp h0 h){l:List Str}(hl:h[p]? =some (.lst (l.map D.str)))(hll:l.length<=100)(d4 d5 d6:Option D):
 ∃h' s d4' d5' d6',xss G cl W nqL (en dr p (some (.int k)) d4 d5 d6) h=.ok (.nx (en dr p (some (.int k)) d4' d5' d6')) h'/\Kp h0 h'/\h'[p]? =some (.lst ((l++ [s]).map D.str))/\NmOk s:=by
 obtain⟨v,_,ev1⟩:=zz1 (G:=G) (cl:=cl) (es:=(.cons (.int 1) (.cons (.int 3) (.cons (.int 5) (.cons (.int 7) (.cons (.int 9) (.cons (.int 11) .nil))))))) (e:=(.bin .mod (.ix (.var 0) (.int 2)) (.int 6))) (l:= [1,3,5,7,9,11]) (r:=en dr p (some (.int k)) d4 d5 d6) (h:=h) (i:=Row.R row 2%6) (xzk (l:= [1,3,5,7,9,11])) (tenle rfl)
  (jzg (evIxV rfl (evInt _ _ _ _ 2) (Q.ix (kp.trans (Kp.app _ _)) 2 (by omega))) (evInt ..) (bMod _ (by omega))) (Int.emod_nonneg _ (by omega)) (Int.emod_lt_of_pos _ (by decide))
 generalize hg1:h++ [O.lst ([1,3,5,7,9,11].map D.int)]=h1 at ev1
 have k1:Kp h h1:=by rw[<- hg1];exact Kp.app _ _
 have kp1:=kp.trans k1
 have j0:(0:Int)<=((k:Int)*v+Row.R row 3)%26:=Int.emod_nonneg _ (by omega)
 have j1:((k:Int)*v+Row.R row 3)%26<26:=Int.emod_lt_of_pos _ (by omega)
 have s1:ev G cl nqO (en dr p (some (.int k)) d4 d5 d6) h=.ok (.str ⟨#[chr (((k:Int)*v+Row.R row 3)%26)]⟩) h1:=
  evIxV rfl (jzg (jzg (jzg (evV rfl) ev1 (bMulL _ (by omega) (by omega))) (evIxV rfl (evInt _ _ _ _ 3) (Q.ix kp1 3 (by omega))) (bAdd ..)) (evInt ..) (bMod _ (by omega))) (chr_ok j0 j1 h1)
 have hc:=xzv j0 j1
 generalize chr (((k:Int)*v+Row.R row 3)%26)=c at s1 hc
 rw[xssNx (r':=en dr p (some (.int k)) (some (.str ⟨#[c]⟩)) d5 d6) (h':=h1) (jzt s1)]
 obtain⟨z,hz,s2⟩:∃z:Nat,z<8/\∀Z:Ss,xss G cl W (.cons (.asg (.nm 5) (.bin .mod (.bin .fdiv (.ix (.var 0) (.int 4)) (.int 4)) (.int 8))) (.cons (.iff (.cmp .eq (.bin .mod (.ix (.var 0) (.int 4)) (.int 2)) (.int 1)) (.cons (.asg (.nm 5) (.bin .mod (.ix (.var 0) (.bin .add (.int 5) (.var 3))) (.int 8))) .nil) .nil) Z)) (en dr p (some (.int k)) (some (.str ⟨#[c]⟩)) d5 d6) h1=xss G cl W Z (en dr p (some (.int k)) (some (.str ⟨#[c]⟩)) (some (.int z)) d6) h1:=by
  have a0:(0:Int)<=Row.R row 4/4%8:=Int.emod_nonneg _ (by omega)
  have a1:Row.R row 4/4%8<8:=Int.emod_lt_of_pos _ (by omega)
  have b0:(0:Int)<=Row.R row (5+k)%8:=Int.emod_nonneg _ (by omega)
  have b1:Row.R row (5+k)%8<8:=Int.emod_lt_of_pos _ (by omega)
  have t1:ev G cl (.bin .mod (.bin .fdiv (.ix (.var 0) (.int 4)) (.int 4)) (.int 8)) (en dr p (some (.int k)) (some (.str ⟨#[c]⟩)) d5 d6) h1=.ok (.int (Row.R row 4/4%8)) h1:=jzg (jzg (evIxV rfl (evInt _ _ _ _ 4) (Q.ix kp1 4 (by omega))) (evInt ..) (bDiv _ (by omega) (by omega))) (evInt ..) (bMod _ (by omega))
  have c1:ev G cl (.cmp .eq (.bin .mod (.ix (.var 0) (.int 4)) (.int 2)) (.int 1)) (en dr p (some (.int k)) (some (.str ⟨#[c]⟩)) (some (.int (Row.R row 4/4%8))) d6) h1=.ok (.bl (decide (Row.R row 4%2=1))) h1:=jzz (jzg (evIxV rfl (evInt _ _ _ _ 4) (Q.ix kp1 4 (by omega))) (evInt ..) (bMod _ (by omega))) (evInt ..) (cEqI ..)
  by_cases hc2:Row.R row 4%2=1
  ·rw[decide_eq_true hc2] at c1
   have t2:ev G cl (.bin .mod (.ix (.var 0) (.bin .add (.int 5) (.var 3))) (.int 8)) (en dr p (some (.int k)) (some (.str ⟨#[c]⟩)) (some (.int (Row.R row 4/4%8))) d6) h1=.ok (.int (Row.R row (5+k)%8)) h1:=jzg (evIxV rfl (jzg (evInt ..) (evV rfl) (bAdd ..)) (by have:=Q.ix kp1 (5+k) (by omega);rwa [Int.natCast_add] at this)) (evInt ..) (bMod _ (by omega))
   refine⟨(Row.R row (5+k)%8).toNat,by omega,λZ=>?_⟩
   rw[Int.toNat_of_nonneg b0,xssNx (jzt t1),xssNx (r':=en dr p (some (.int k)) (some (.str ⟨#[c]⟩)) (some (.int (Row.R row (5+k)%8))) d6) (h':=h1) (by show xs G cl W _ (en dr p (some (.int k)) (some (.str ⟨#[c]⟩)) (some (.int (Row.R row 4/4%8))) d6) h1=_;rw[jzZ c1,xssNx (jzt t2),jzq];rfl)]
  ·rw[decide_eq_false hc2] at c1
   refine⟨(Row.R row 4/4%8).toNat,by omega,λZ=>?_⟩
   rw[Int.toNat_of_nonneg a0,xssNx (jzt t1),xssNx (r':=en dr p (some (.int k)) (some (.str ⟨#[c]⟩)) (some (.int (Row.R row 4/4%8))) d6) (h':=h1) (by show xs G cl W _ (en dr p (some (.int k)) (some (.str ⟨#[c]⟩)) (some (.int (Row.R row 4/4%8))) d6) h1=_;rw[jzI c1,jzq])]
 rw[s2]
 obtain⟨gb,q⟩:=evC_r1 (G:=G) (cl:=cl) (t:=.nm 0) (it:=.cons (.var 5) .nil) (cs:=.nil) (e:=(.ix (.var 1) (.bin .mod (.bin .add (.ix (.var 2) (.int 3)) (.bin .mul (.var 0) (.ix (.var 2) (.int 4)))) (.int 26)))) (N:= ["_law_at","_law_letters","_law_d"]) (cap:= [1,0]) (r:=en dr p (some (.int k)) (some (.str ⟨#[c]⟩)) (some (.int z)) d6) (h:=h1) (h1:=h1) (j:=z)
  (λr=>∃d,r=[d,some (.str abc),some (.ref dr)]) (λ_=>true) (λ(b:Nat)=>D.str ⟨#[chr ((Row.R row 3+(b:Int)*Row.R row 4)%26)]⟩) (evs1 (evV rfl)) (by omega) ⟨none,rfl⟩ λb hb=>⟨by
    rintro r ys gb ⟨d,rfl⟩
    have hb':b<z:=List.mem_range.mp hb
    refine⟨[some (.int b),some (.str abc),some (.ref dr)],[],rfl,by rw[qz8,List.append_nil],⟨_,rfl⟩,λ_=>⟨[],?_⟩⟩
    rw[List.append_nil,List.append_nil]
    have kq:Kp h0 (h1++ .lst ys::gb):=kp1.trans (Kp.app _ _)
    exact evIxV rfl (jzg (jzg (evIxV rfl (evInt _ _ _ _ 3) (Q.ix kq 3 (by omega))) (jzg (evV rfl) (evIxV rfl (evInt _ _ _ _ 4) (Q.ix kq 4 (by omega))) (bMulL _ (by omega) (by omega))) (bAdd ..)) (evInt ..) (bMod _ (by omega))) (chr_ok (Int.emod_nonneg _ (by omega)) (Int.emod_lt_of_pos _ (by omega)) _)⟩
 rw[List.filter_eq_self.mpr (λ_ _=>rfl)] at q
 obtain⟨s,hs,ej⟩:=join_abc (h:=h1++ .lst ((List.range z).map λ(b:Nat)=>D.str ⟨#[chr ((Row.R row 3+(b:Int)*Row.R row 4)%26)]⟩)::gb) (n:=h1.length) (λ(b:Nat)=>chr ((Row.R row 3+(b:Int)*Row.R row 4)%26)) (m:=z) (by omega) (jzN ..)
 have sl:s.length=z:=by show s.cps.size=z;rw[<- Array.length_toList,hs,List.length_map,List.length_range]
 have sc:∀x∈s.cps.toList,x∈abc.cps.toList:=λx hx=>by
  rw[hs] at hx
  obtain⟨b,_,rfl⟩:=List.mem_map.mp hx
  exact xzv (Int.emod_nonneg _ (by omega)) (Int.emod_lt_of_pos _ (by omega))
 generalize hg2:h1++O.lst ((List.range z).map λ(b:Nat)=>D.str ⟨#[chr ((Row.R row 3+(b:Int)*Row.R row 4)%26)]⟩)::gb=h2 at q ej
 have kp2:Kp h0 h2:=by rw[<- hg2];exact kp1.trans (Kp.app _ _)
 have hl2:h2[p]? =some (.lst (l.map D.str)):=by rw[<- hg2];exact Kp.app _ _ _ _ (k1 _ _ hl)
 rw[xssNx (r':=en dr p (some (.int k)) (some (.str ⟨#[c]⟩)) (some (.int z)) (some (.str s))) (h':=h2) (jzt (by rw[evJoin,q,jze,ej]))]
 have c2:ev G cl (.cmp .eq (.bin .mod (.bin .fdiv (.ix (.var 0) (.int 4)) (.int 2)) (.int 2)) (.int 1)) (en dr p (some (.int k)) (some (.str ⟨#[c]⟩)) (some (.int z)) (some (.str s))) h2=.ok (.bl (decide (Row.R row 4/2%2=1))) h2:=jzz (jzg (jzg (evIxV rfl (evInt _ _ _ _ 4) (Q.ix kp2 4 (by omega))) (evInt ..) (bDiv _ (by omega) (by omega))) (evInt ..) (bMod _ (by omega))) (evInt ..) (cEqI ..)
 have ol:(⟨#[c]⟩:Str).length=1:=rfl
 have fin:∀w:Str,w.length=z+1->(∀x∈w.cps.toList,x∈abc.cps.toList)->(∃A B:Ss,xss G cl W (.cons (.iff (.cmp .eq (.bin .mod (.bin .fdiv (.ix (.var 0) (.int 4)) (.int 2)) (.int 2)) (.int 1)) A B) .nil) (en dr p (some (.int k)) (some (.str ⟨#[c]⟩)) (some (.int z)) (some (.str s))) h2=.ok (.nx (en dr p (some (.int k)) (some (.str ⟨#[c]⟩)) (some (.int z)) (some (.str s)))) (h2.set p (.lst (l.map D.str++ [.str w]))))->Kp h0 (h2.set p (.lst (l.map D.str++ [.str w])))/\(h2.set p (.lst (l.map D.str++ [.str w])))[p]? =some (.lst ((l++ [w]).map D.str))/\NmOk w:=λw hw hwc _=>
  ⟨kp2.set _ hp,by rw[qzO hl2,List.map_append];rfl,nm_of (by omega) (by omega) hwc⟩
 have cc:∀x∈(⟨#[c]⟩:Str).cps.toList,x∈abc.cps.toList:=λx hx=>by
  have:x=c:=by simpa using hx
  rw[this];exact hc
 by_cases hc3:Row.R row 4/2%2=1
 ·rw[decide_eq_true hc3] at c2
  have e:xss G cl W (.cons (.iff (.cmp .eq (.bin .mod (.bin .fdiv (.ix (.var 0) (.int 4)) (.int 2)) (.int 2)) (.int 1)) (.cons (.ex (.app (.var 2) (.bin .add (.var 4) (.var 6)))) .nil) (.cons (.ex (.app (.var 2) (.bin .add (.var 6) (.var 4)))) .nil)) .nil) (en dr p (some (.int k)) (some (.str ⟨#[c]⟩)) (some (.int z)) (some (.str s))) h2=.ok (.nx (en dr p (some (.int k)) (some (.str ⟨#[c]⟩)) (some (.int z)) (some (.str s)))) (h2.set p (.lst (l.map D.str++ [.str (⟨#[c]⟩++s)]))):=by
   rw[xssNx (by rw[jzZ c2,xssNx (exApp rfl (jzg (evV rfl) (evV rfl) (bAddS _ (by rw[ol,sl];omega))) hl2 (by rw[List.length_map];omega)),jzq]),jzq]
  obtain⟨f1,f2,f3⟩:=fin (⟨#[c]⟩++s) (by rw[vzs,ol,sl];omega) (λx hx=>by rw[vzt] at hx;rcases List.mem_append.mp hx with h|h;exact cc x h;exact sc x h) ⟨_,_,e⟩
  exact⟨_,_,_,_,_,e,f1,f2,f3⟩
 ·rw[decide_eq_false hc3] at c2
  have e:xss G cl W (.cons (.iff (.cmp .eq (.bin .mod (.bin .fdiv (.ix (.var 0) (.int 4)) (.int 2)) (.int 2)) (.int 1)) (.cons (.ex (.app (.var 2) (.bin .add (.var 4) (.var 6)))) .nil) (.cons (.ex (.app (.var 2) (.bin .add (.var 6) (.var 4)))) .nil)) .nil) (en dr p (some (.int k)) (some (.str ⟨#[c]⟩)) (some (.int z)) (some (.str s))) h2=.ok (.nx (en dr p (some (.int k)) (some (.str ⟨#[c]⟩)) (some (.int z)) (some (.str s)))) (h2.set p (.lst (l.map D.str++ [.str (s++⟨#[c]⟩)]))):=by
   rw[xssNx (by rw[jzI c2,xssNx (exApp rfl (jzg (evV rfl) (evV rfl) (bAddS _ (by rw[ol,sl];omega))) hl2 (by rw[List.length_map];omega)),jzq]),jzq]
  obtain⟨f1,f2,f3⟩:=fin (s++⟨#[c]⟩) (by rw[vzs,ol,sl]) (λx hx=>by rw[vzt] at hx;rcases List.mem_append.mp hx with h|h;exact sc x h;exact cc x h) ⟨_,_,e⟩
  exact⟨_,_,_,_,_,e,f1,f2,f3⟩
def Nms(cl:Cl)(f:Nat):Prop:=∀(h:Hh)(dr:Nat)(row:List Int),Row h dr row->row.length=18->∃(h':Hh)(p:Nat)(l:List Str),cl f [.ref dr] h=.ok (.ref p) h'/\Kp h h'/\lstAt h' p=some (l.map D.str)/\l.length<=12/\∀s∈l,NmOk s
theorem nms_ok{h:Hh}{dr:Nat}{row:List Int}(Q:Row h dr row)(hr:row.length=18):
 ∃(h':Hh)(p:Nat)(l:List Str),(xss G cl W nqB [some (.ref dr),none,none,none,none,none,none] h).bind endD=.ok (.ref p) h'/\Kp h h'/\lstAt h' p=some (l.map D.str)/\l.length<=12/\∀s∈l,NmOk s:=by
 have kp0:Kp h (h++ [.lst []]):=Kp.app _ _
 obtain⟨v,hv,ev1⟩:=zz1 (G:=G) (cl:=cl) (es:=(.cons (.int 2) (.cons (.int 3) (.cons (.int 3) (.cons (.int 4) (.cons (.int 4) (.cons (.int 5) (.cons (.int 6) (.cons (.int 7) (.cons (.int 12) (.cons (.int 1) .nil))))))))))) (e:=(.bin .mod (.ix (.var 0) (.int 1)) (.int 10))) (l:= [2,3,3,4,4,5,6,7,12,1]) (r:=en dr h.length none none none none) (h:=h++ [.lst []]) (i:=Row.R row 1%10) (xzk (l:= [2,3,3,4,4,5,6,7,12,1])) (tenle rfl)
  (jzg (evIxV rfl (evInt _ _ _ _ 1) (Q.ix (kp0.trans (Kp.app _ _)) 1 (by omega))) (evInt ..) (bMod _ (by omega))) (Int.emod_nonneg _ (by omega)) (Int.emod_lt_of_pos _ (by decide))
 have hv':0<v/\v<=12:=by
  simp at hv
  omega
 generalize hg:(h++ [O.lst []])++ [O.lst ([2,3,3,4,4,5,6,7,12,1].map D.int)]=h1 at ev1
 have kp1:Kp h h1:=by rw[<- hg];exact kp0.trans (Kp.app _ _)
 have hh1:h1[h.length]? =some (.lst (([]:List Str).map D.str)):=by rw[<- hg];exact Kp.app _ _ _ _ (jzH ..)
 have hm:(v.toNat:Int)=v:=Int.toNat_of_nonneg (by omega)
 obtain⟨r',h',el,l,d3,d4,d5,d6,rfl,kp',hp,hl,hN⟩:=qzx (t:=.nm 3) (body:=xss G cl W nqL)
  (λk r h'=>∃(l:List Str)(d3 d4 d5 d6:Option D),r=en dr h.length d3 d4 d5 d6/\Kp h h'/\h'[h.length]? =some (.lst (l.map D.str))/\l.length=k/\∀s∈l,NmOk s)
  (rngD 0 v.toNat) 0 (by
    rintro k d hk r h' ⟨l,d3,d4,d5,d6,rfl,kp,hp,hl,hN⟩
    have hlt:k<v.toNat:=by
     have:=(List.getElem?_eq_some_iff.mp hk).1
     rwa [qzc] at this
    rw[wzk _ _ hlt] at hk
    cases hk
    obtain⟨h2,s,d4',d5',d6',e,k2,e2,n2⟩:=nq_turn (G:=G) (cl:=cl) (W:=W) Q hr (Nat.le_refl _) k (by omega) kp hp (by omega) d4 d5 d6
    exact⟨_,_,_,rfl,e,l++ [s],_,d4',d5',d6',rfl,k2,e2,by simp;omega,λx hx=>by rcases List.mem_append.mp hx with h|h;exact hN x h;exact(List.mem_singleton.mp h) ▸ n2⟩)
  (en dr h.length none none none none) h1 ⟨[],none,none,none,none,rfl,kp1,hh1,rfl,λs hs=>nomatch hs⟩
 rw[qzc] at hl
 refine⟨h',h.length,l,?_,kp',jzM hp,by omega,hN⟩
 rw[xssNx (r':= [some (.ref dr),some (.str abc),none,none,none,none,none]) (h':=h) (jzt (evStr ..)),
  xssNx (r':=en dr h.length none none none none) (h':=h++ [.lst []]) (jzt (wzT (jzO ..) (small rfl))),
  xssNx (qzv (j:=v) (h1:=h1) ev1 (by rw[<- hm];exact qzD (by omega)) (by rw[<- hm];exact el)),xssRt (jzD (evV rfl))]
 rfl
end
end Ng
end
section
namespace Ng
open PySem L2
theorem up_snoc{S:List St3}{s0:St3}(u:S.Pairwise npS)(a:(S.any λs=>decide (s.1=s0.1/\s.2.1=s0.2.1))=false):(S++ [s0]).Pairwise npS:=by
 rw[List.pairwise_append]
 refine⟨u,List.pairwise_singleton _ _,λx hx y hy=>?_⟩
 have ey:y=s0:=by simpa using hy
 subst ey
 rw[List.any_eq_false] at a
 simpa [npS] using a x hx
structure Hev (S:List St3):Prop where
 len:S.length<=8
 up:S.Pairwise npS
 br:∀s∈S,1<=s.2.2/\s.2.2<=9
section
variable {G:Gs}{cl:Cl}{W:Nat}
theorem ixS3(s:St3)(h:Hh):ixD (s3 s) (.int 0) h=.ok (.int s.1) h/\ixD (s3 s) (.int 1) h=.ok (.int s.2.1) h:=⟨rfl,rfl⟩
theorem evIntB{a:E}{b:Bool}{r:Ev}{h h':Hh}(ha:ev G cl a r h=.ok (.bl b) h'):ev G cl (.blt .int (.cons a .nil)) r h=.ok (.int (if b then 1 else 0)) h':=evBl1 (evs1 ha) (bIntB ..)
theorem two_ok{a b c:E}{i j:Int}{q:Bool}{r:Ev}{h:Hh}(ha:ev G cl a r h=.ok (.int i) h)(hb:ev G cl b r h=.ok (.int j) h)(hc:∀h',Kp h h'->ev G cl c r h'=.ok (.bl q) h'):∃v h',(v=i\/v=j)/\Kp h h'/\ev G cl (.ix (.lst (.cons a (.cons b .nil))) (.blt .int (.cons c .nil))) r h=.ok (.int v) h':=by
 obtain⟨v,hv,e⟩:=zz1 (G:=G) (cl:=cl) (es:=.cons a (.cons b .nil)) (e:=.blt .int (.cons c .nil)) (l:= [i,j]) (r:=r) (h:=h) (i:=if q then 1 else 0) (evs2 ha hb) (Nat.le_trans (Nat.le_of_ble_eq_true (m:=8) rfl) (by decide)) (evIntB (hc _ (Kp.app _ _))) (by cases q<;>decide) (by cases q<;>(show(_:Int)<(2:Nat);decide))
 exact⟨v,_,by simpa using hv,Kp.app _ _,e⟩
def eh(k:Nat)(p:Nat)(d3 d4 d5 d6:Option D):Ev:= [some (.ref 0),some (.ref k),some (.ref p),d3,d4,d5,d6]
abbrev hvX(j:Int):E:=(.bin .sub (.bin .mod (.ix (.var 1) (.bin .add (.bin .mul (.int 3) (.var 3)) (.int j))) (.int 9)) (.int 4))
abbrev hvZ:E:=(.ix (.lst (.cons (.bin .add (.int 1) (.bin .mod (.ix (.var 1) (.bin .add (.bin .mul (.int 3) (.var 3)) (.int 3))) (.int 9))) (.cons (.bin .add (.int 8) (.bin .mod (.ix (.var 1) (.bin .add (.bin .mul (.int 3) (.var 3)) (.int 3))) (.int 2))) .nil))) (.blt .int (.cons (.cmp .eq (.bin .mod (.bin .fdiv (.ix (.var 1) (.int 0)) (.int 9)) (.int 3)) (.int 1)) .nil)))
abbrev hvL:Ss:=(.cons (.asg (.nm 4) (hvX 1)) (.cons (.asg (.nm 5) (hvX 2)) (.cons (.asg (.nm 6) hvZ) (.cons (.iff (.cmp .notin (.tup (.cons (.var 4) (.cons (.var 5) .nil))) (.comp (.nm 0) .sq (.cons (.var 2) .nil) .nil (.tup (.cons (.ix (.var 0) (.int 0)) (.cons (.ix (.var 0) (.int 1)) .nil))) ["_law_star"] [])) (.cons (.ex (.app (.var 2) (.tup (.cons (.var 4) (.cons (.var 5) (.cons (.var 6) .nil)))))) .nil) .nil) .nil))))
abbrev hvB:Ss:=(.cons (.asg (.nm 1) (.call 12 (.cons (.var 0) (.cons (.int 1) (.cons (.int 25) .nil))))) (.cons (.asg (.nm 2) (.lst .nil)) (.cons (.forr (.nm 3) (.r1 (.bin .mod (.ix (.var 1) (.int 0)) (.int 9))) hvL) (.cons (.ret (.var 2)) .nil))))
theorem hv_turn{hb h:Hh}{k p:Nat}{row:List Int}(Q:Row hb k row)(hr:row.length=25)(hp:hb.length<=p)(kp:Kp hb h){S:List St3}(g:Hev S)(hS:S.length<8)(hs:h[p]? =some (.lst (S.map s3)))(j:Nat)(hj:j<8)(d4 d5 d6:Option D):
 ∃h' S' d4' d5' d6',xss G cl W hvL (eh k p (some (.int j)) d4 d5 d6) h=.ok (.nx (eh k p (some (.int j)) d4' d5' d6')) h'/\Kp hb h'/\h'[p]? =some (.lst (S'.map s3))/\S'.length<=S.length+1/\Hev S':=by
 have ix:∀(a:Nat)(d4 d5 d6:Option D)(h':Hh),Kp hb h'->a<=3->ev G cl (.ix (.var 1) (.bin .add (.bin .mul (.int 3) (.var 3)) (.int (a:Int)))) (eh k p (some (.int j)) d4 d5 d6) h'=.ok (.int (Row.R row (3*j+a))) h':=λa d4 d5 d6 h' kq ha=>by
  have m3:binD .mul (.int 3) (.int j) h'=.ok (.int ((3*j:Nat):Int)) h':=by rw[bMulL h' (by omega) (by omega)];push_cast;rfl
  exact evIxV rfl (jzg (jzg (evInt ..) (evV rfl) m3) (evInt ..) (bAdd ..)) (by have:=Q.ix kq (3*j+a) (by omega);rwa [Int.natCast_add] at this)
 have e4:ev G cl (hvX 1) (eh k p (some (.int j)) d4 d5 d6) h=.ok (.int (Row.R row (3*j+1)%9-4)) h:=jzg (jzg (ix 1 _ _ _ _ kp (by omega)) (evInt ..) (bMod _ (by omega))) (evInt ..) (bSub ..)
 generalize Row.R row (3*j+1)%9-4=x at e4
 have e5:ev G cl (hvX 2) (eh k p (some (.int j)) (some (.int x)) d5 d6) h=.ok (.int (Row.R row (3*j+2)%9-4)) h:=jzg (jzg (ix 2 _ _ _ _ kp (by omega)) (evInt ..) (bMod _ (by omega))) (evInt ..) (bSub ..)
 generalize Row.R row (3*j+2)%9-4=y at e5
 have b0:(0:Int)<=Row.R row (3*j+3)%9:=Int.emod_nonneg _ (by omega)
 have b1:Row.R row (3*j+3)%9<9:=Int.emod_lt_of_pos _ (by omega)
 have c0:(0:Int)<=Row.R row (3*j+3)%2:=Int.emod_nonneg _ (by omega)
 have c1:Row.R row (3*j+3)%2<2:=Int.emod_lt_of_pos _ (by omega)
 obtain⟨z,h1,hz,k1,e6⟩:=two_ok (G:=G) (cl:=cl) (a:=.bin .add (.int 1) (.bin .mod (.ix (.var 1) (.bin .add (.bin .mul (.int 3) (.var 3)) (.int 3))) (.int 9))) (b:=.bin .add (.int 8) (.bin .mod (.ix (.var 1) (.bin .add (.bin .mul (.int 3) (.var 3)) (.int 3))) (.int 2))) (c:=.cmp .eq (.bin .mod (.bin .fdiv (.ix (.var 1) (.int 0)) (.int 9)) (.int 3)) (.int 1)) (r:=eh k p (some (.int j)) (some (.int x)) (some (.int y)) d6) (h:=h)
  (jzg (evInt ..) (jzg (ix 3 _ _ _ _ kp (by omega)) (evInt ..) (bMod _ (by omega))) (bAdd ..)) (jzg (evInt ..) (jzg (ix 3 _ _ _ _ kp (by omega)) (evInt ..) (bMod _ (by omega))) (bAdd ..)) (λh' kq=>jzz (jzg (jzg (evIxV rfl (evInt _ _ _ _ 0) (Q.ix (kp.trans kq) 0 (by omega))) (evInt ..) (bDiv _ (by omega) (by omega))) (evInt ..) (bMod _ (by omega))) (evInt ..) (cEqI ..))
 have zb:1<=z/\z<=9:=by omega
 have hs1:=k1 _ _ hs
 have kp1:=kp.trans k1
 obtain⟨gb,q⟩:=wzv (G:=G) (cl:=cl) (t:=.nm 0) (it:=.cons (.var 2) .nil) (e:=.tup (.cons (.ix (.var 0) (.int 0)) (.cons (.ix (.var 0) (.int 1)) .nil))) (N:= ["_law_star"]) (cap:= []) (r:=eh k p (some (.int j)) (some (.int x)) (some (.int y)) (some (.int z))) (h:=h1) (h1:=h1) (l:=S) s3 (λr=>∃d,r=[d]) pl2 (evs1 (evV rfl)) (jzM hs1) (by omega) ⟨_,rfl⟩
  (by
    rintro s _ r h ⟨d,rfl⟩
    exact⟨[some (s3 s)],rfl,⟨_,rfl⟩,jzQ (evIxV (x:=s3 s) rfl (evInt ..) (ixS3 s h).1) (evIxV (x:=s3 s) rfl (evInt ..) (ixS3 s h).2)⟩)
 have c:ev G cl (.cmp .notin (.tup (.cons (.var 4) (.cons (.var 5) .nil))) (.comp (.nm 0) .sq (.cons (.var 2) .nil) .nil (.tup (.cons (.ix (.var 0) (.int 0)) (.cons (.ix (.var 0) (.int 1)) .nil))) ["_law_star"] [])) (eh k p (some (.int j)) (some (.int x)) (some (.int y)) (some (.int z))) h1=.ok (.bl (!(S.any λs=>decide (s.1=x/\s.2.1=y)))) (h1++ .lst (S.map pl2)::gb):=
  jzz (jzQ (evV rfl) (evV rfl)) q (cNotin _ _ (jzN ..))
 have hs':(h1++ .lst (S.map pl2)::gb)[p]? =some (.lst (S.map s3)):=Kp.app _ _ _ _ hs1
 have kp':Kp hb (h1++ .lst (S.map pl2)::gb):=kp1.trans (Kp.app _ _)
 rw[xssNx (r':=eh k p (some (.int j)) (some (.int x)) d5 d6) (h':=h) (jzt e4),xssNx (r':=eh k p (some (.int j)) (some (.int x)) (some (.int y)) d6) (h':=h) (jzt e5),xssNx (r':=eh k p (some (.int j)) (some (.int x)) (some (.int y)) (some (.int z))) (h':=h1) (jzt e6)]
 generalize hH:h1++O.lst (S.map pl2)::gb=H at q c hs' kp'
 cases hany:(S.any λs=>decide (s.1=x/\s.2.1=y)) with
 |true=>
  rw[hany] at c
  exact⟨H,S,_,_,_,by rw[xssNx (by rw[jzI c,jzq]),jzq],kp',hs',by omega,g⟩
 |false=>
  rw[hany] at c
  have ap:xs G cl W (.ex (.app (.var 2) (.tup (.cons (.var 4) (.cons (.var 5) (.cons (.var 6) .nil)))))) (eh k p (some (.int j)) (some (.int x)) (some (.int y)) (some (.int z))) H=.ok (.nx (eh k p (some (.int j)) (some (.int x)) (some (.int y)) (some (.int z)))) (H.set p (.lst (S.map s3++ [s3 (x,y,z)]))):=exApp rfl (qz9 (evs3 (evV rfl) (evV rfl) (evV rfl)) (small rfl)) hs' (by rw[List.length_map];omega)
  refine⟨H.set p (.lst (S.map s3++ [s3 (x,y,z)])),S++ [(x,y,z)],_,_,_,by rw[xssNx (by rw[jzZ c,xssNx ap,jzq]),jzq],kp'.set _ hp,by rw[qzO hs',List.map_append];rfl,by simp,⟨by simp;omega,up_snoc g.up hany,λs hs=>?_⟩⟩
  rcases List.mem_append.mp hs with h|h
  ·exact g.br s h
  ·have ey:s=(x,y,z):=by simpa using h
   subst ey;exact zb
def Hvn(cl:Cl)(f:Nat)(ns:List Int):Prop:=∀h:Hh,lstAt h 0=some (ns.map D.int)->∃h' p S,cl f [.ref 0] h=.ok (.ref p) h'/\Kp h h'/\lstAt h' p=some (S.map s3)/\Hev S
theorem hvn_ok{ns:List Int}(hd:Dru cl 12 ns){h:Hh}(h00:lstAt h 0=some (ns.map D.int)):∃h' p S,(xss G cl W hvB [some (.ref 0),none,none,none,none,none,none] h).bind endD=.ok (.ref p) h'/\Kp h h'/\lstAt h' p=some (S.map s3)/\Hev S:=by
 obtain⟨row,hr,ir,q1⟩:=hd 1 25 h (by omega) (by omega) (by omega) h00
 have Q:Row (h++ [.lst (row.map D.int)]) h.length row:=⟨jzv ..,ir⟩
 have k0:Kp h (h++ [.lst (row.map D.int)]):=Kp.app _ _
 generalize h++ [O.lst (row.map D.int)]=hb at q1 Q k0
 have m0:(0:Int)<=Row.R row 0%9:=Int.emod_nonneg _ (by omega)
 have m1:Row.R row 0%9<9:=Int.emod_lt_of_pos _ (by omega)
 have hm:((Row.R row 0%9).toNat:Int)=Row.R row 0%9:=Int.toNat_of_nonneg m0
 obtain⟨r',h',e,S,d3,d4,d5,d6,er,kp,hs,_,g⟩:=qzx (t:=.nm 3) (body:=xss G cl W hvL) (λj r h'=>∃(S:List St3)(d3 d4 d5 d6:Option D),r=eh h.length hb.length d3 d4 d5 d6/\Kp hb h'/\h'[hb.length]? =some (.lst (S.map s3))/\S.length<=j/\Hev S)
  (rngD 0 (Row.R row 0%9).toNat) 0 (λj d hd r h' ⟨S,d3,d4,d5,d6,er,kp,hs,hl,g⟩=>by
    subst er
    have hj:j<(Row.R row 0%9).toNat:=by
     have:=(List.getElem?_eq_some_iff.mp hd).1
     rwa [qzc] at this
    rw[wzk _ _ hj] at hd
    cases hd
    obtain⟨h',S',d4',d5',d6',q1,q2,q3,q4,q5⟩:=hv_turn (G:=G) (cl:=cl) (W:=W) Q hr (Nat.le_refl _) kp g (by omega) hs j (by omega) d4 d5 d6
    exact⟨_,_,h',rfl,q1,S',_,_,_,_,rfl,q2,q3,by omega,q5⟩)
  (eh h.length hb.length none none none none) (hb++ [.lst []]) ⟨[],_,_,_,_,rfl,Kp.app _ _,jzH ..,Nat.le_refl _,⟨Nat.zero_le _,.nil,λs hs=>nomatch hs⟩⟩
 subst er
 refine⟨h',hb.length,S,?_,k0.trans kp,jzM hs,g⟩
 rw[xssNx (r':= [some (.ref 0),some (.ref h.length),none,none,none,none,none]) (h':=hb) (jzt (evCl (evs3 (evV rfl) (evInt ..) (evInt ..)) q1)),
  xssNx (r':=eh h.length hb.length none none none none) (h':=hb++ [.lst []]) (jzt (wzT (jzO ..) (small rfl))),
  xssNx (qzv (j:=Row.R row 0%9) (h1:=hb++ [.lst []]) (jzg (evIxV rfl (evInt _ _ _ _ 0) (Q.ix (Kp.app _ _) 0 (by omega))) (evInt ..) (bMod _ (by omega))) (by rw[<- hm];exact qzD (by omega)) (by rw[<- hm];exact e)),xssRt (jzD (evV rfl))]
 rfl
end
end Ng
end
section
namespace Ng
open PySem L2
theorem act_inj{m:M3}(hm:ok8 m){x y:Int×Int}(e:act (bk m) x=act (bk m) y):x=y:=by
 rw[<- xzL hm x,e,xzL hm y]
def fSt(m:M3)(s:St3):St3:=((act (bk m) (s.1,s.2.1)).1,(act (bk m) (s.1,s.2.1)).2,s.2.2)
theorem fSt_np{m:M3}(hm:ok8 m){a b:St3}(h:npS a b):npS (fSt m a) (fSt m b):=λ⟨e1,e2⟩=>by
 have e:act (bk m) (a.1,a.2.1)=act (bk m) (b.1,b.2.1):=Prod.ext e1 e2
 have:=act_inj hm e
 exact h ⟨(Prod.mk.inj this).1,(Prod.mk.inj this).2⟩
structure StIn (w t l:Int)(S:List St3):Prop where
 up:S.Pairwise npS
 st:∀s∈S,inW w t s.1 s.2.1=true/\l<=s.2.2/\s.2.2<=9
theorem npS.symm{a b:St3}(h:npS a b):npS b a:=λ⟨e1,e2⟩=>h ⟨e1.symm,e2.symm⟩
theorem Good.perm{w t l:Int}{S U:List St3}(hw:1<=w/\w<=8)(ht:1<=t/\t<=8)(hl:1<=l/\l<=9)(g:StIn w t l S)(hn:S.length<=8)(p:U.Perm S):Good w t l U:=
 ⟨hw,ht,hl,by rw[p.length_eq];exact hn,(p.pairwise_iff (λh=>npS.symm h)).mpr g.up,λs hs=>g.st s (p.mem_iff.mp hs)⟩
def paneT(nm:Str)(w t l:Int)(U:List St3):D:=.tup [.str nm,.int w,.int t,.int l,.tup (U.map s3)]
section
variable {G:Gs}{cl:Cl}{W:Nat}
def Lmv(cl:Cl)(f:Nat):Prop:=∀(m:M3)(x:Int×Int)(h:Hh),ok8 m->∃g,cl f [mo m,pl x] h=.ok (pl (act m x)) (h++g)
def Lbk(cl:Cl)(f:Nat):Prop:=∀(m:M3)(h:Hh),ok8 m->∃g,cl f [mo m] h=.ok (mo (bk m)) (h++g)
def epn(nm:Str)(m:M3)(hp dr:Nat)(d4 d5 d6 d7 d8 d9 d10 d11 d12 d13:Option D):Ev:= [some (.str nm),some (mo m),some (.ref hp),some (.ref dr),d4,d5,d6,d7,d8,d9,d10,d11,d12,d13]
abbrev paD(i a b c e f:Int):E:=(.ix (.lst (.cons (.bin .add (.int 1) (.bin .mod (.ix (.var 3) (.int i)) (.int a))) (.cons (.bin .add (.int 1) (.bin .mod (.bin .fdiv (.ix (.var 3) (.int i)) (.int b)) (.int c))) .nil))) (.blt .int (.cons (.cmp .eq (.bin .mod (.bin .fdiv (.ix (.var 3) (.int i)) (.int e)) (.int f)) (.int 0)) .nil)))
abbrev paC:E:=(.and (.cmp .le (.int 0) (.var 11)) (.and (.cmp .lt (.var 11) (.var 4)) (.and (.cmp .le (.int 0) (.var 12)) (.and (.cmp .lt (.var 12) (.var 5)) (.cmp .ge (.var 10) (.var 6))))))
abbrev paL:Ss:=(.cons (.asg (.tp [11,12]) (.call 15 (.cons (.call 17 (.cons (.var 1) .nil)) (.cons (.tup (.cons (.var 8) (.cons (.var 9) .nil))) .nil)))) (.cons (.iff paC (.cons (.ex (.app (.var 7) (.tup (.cons (.var 11) (.cons (.var 12) (.cons (.var 10) .nil)))))) .nil) .nil) .nil))
abbrev paO:E:=(.tup (.cons (.bin .mod (.ix (.var 3) (.int 10)) (.var 4)) (.cons (.bin .mod (.ix (.var 3) (.int 11)) (.var 5)) (.cons (.bin .add (.var 6) (.bin .mod (.bin .fdiv (.ix (.var 3) (.int 10)) (.int 8)) (.bin .sub (.int 10) (.var 6)))) .nil))))
abbrev paK:E:=(.comp (.nm 0) .sq (.cons (.var 7) .nil) (.cons (.cmp .ne (.slT (.var 0) (.int 2)) (.slT (.var 1) (.int 2))) .nil) (.var 0) ["_law_star","_law_odd"] [13])
abbrev paI:S:=(.iff (.cmp .eq (.bin .mod (.ix (.var 3) (.int 3)) (.int 6)) (.int 1)) (.cons (.asg (.nm 13) paO) (.cons (.asg (.nm 7) (.bin .add paK (.lst (.cons (.var 13) .nil)))) .nil)) .nil)
abbrev paR:E:=(.tup (.cons (.var 0) (.cons (.var 4) (.cons (.var 5) (.cons (.var 6) (.cons (.blt .tup (.cons (.blt .sorted (.cons (.slL (.var 7) (.neg (.int 8))) .nil)) .nil)) .nil))))))
abbrev paB:Ss:=(.cons (.asg (.nm 4) (paD 4 4 24 8 4 6)) (.cons (.asg (.nm 5) (paD 5 4 24 8 4 6)) (.cons (.asg (.nm 6) (paD 6 3 12 9 3 4)) (.cons (.asg (.nm 7) (.lst .nil)) (.cons (.forr (.tp [8,9,10]) (.sq (.var 2)) paL) (.cons paI (.cons (.ret paR) .nil)))))))
theorem zzJ{hb h:Hh}{nm:Str}{m:M3}{hp dr:Nat}{row:List Int}(Q:Row hb dr row)(kp:Kp hb h)(i:Nat)(hi:i<row.length)(a b c e f M:Int)(ha:0<a/\a<=M)(hbb:0<b/\b<1000)(hc:0<c/\c<=M)(he:0<e/\e<1000)(hf:0<f)(d4 d5 d6 d7 d8 d9 d10 d11 d12 d13:Option D):
 ∃v h',(1<=v/\v<=M)/\Kp h h'/\ev G cl (paD i a b c e f) (epn nm m hp dr d4 d5 d6 d7 d8 d9 d10 d11 d12 d13) h=.ok (.int v) h':=by
 have ix:∀h',Kp hb h'->ev G cl (.ix (.var 3) (.int i)) (epn nm m hp dr d4 d5 d6 d7 d8 d9 d10 d11 d12 d13) h'=.ok (.int (Row.R row i)) h':=λh' kq=>evIxV rfl (evInt ..) (Q.ix kq i hi)
 obtain⟨v,h',hv,k',ev'⟩:=two_ok (G:=G) (cl:=cl) (a:=.bin .add (.int 1) (.bin .mod (.ix (.var 3) (.int i)) (.int a))) (b:=.bin .add (.int 1) (.bin .mod (.bin .fdiv (.ix (.var 3) (.int i)) (.int b)) (.int c))) (c:=.cmp .eq (.bin .mod (.bin .fdiv (.ix (.var 3) (.int i)) (.int e)) (.int f)) (.int 0)) (r:=epn nm m hp dr d4 d5 d6 d7 d8 d9 d10 d11 d12 d13) (h:=h)
  (jzg (evInt ..) (jzg (ix h kp) (evInt ..) (bMod _ ha.1)) (bAdd ..)) (jzg (evInt ..) (jzg (jzg (ix h kp) (evInt ..) (bDiv _ hbb.1 (by omega))) (evInt ..) (bMod _ hc.1)) (bAdd ..)) (λh' kq=>jzz (jzg (jzg (ix _ (kp.trans kq)) (evInt ..) (bDiv _ he.1 (by omega))) (evInt ..) (bMod _ hf)) (evInt ..) (cEqI ..))
 have p1:=Int.emod_nonneg (Row.R row i) (show a≠0 by omega)
 have p2:=Int.emod_lt_of_pos (Row.R row i) ha.1
 have p3:=Int.emod_nonneg (Row.R row i/b) (show c≠0 by omega)
 have p4:=Int.emod_lt_of_pos (Row.R row i/b) hc.1
 exact⟨v,h',by omega,k',ev'⟩
theorem pa_turn(h15:Lmv cl 15)(h17:Lbk cl 17){hb h:Hh}{nm:Str}{m:M3}(hm:ok8 m){hp dr p:Nat}(hpb:hb.length<=p)(kp:Kp hb h){w t l:Int}{T:List St3}(hT:T.length<=100)(hs:h[p]? =some (.lst (T.map s3)))(s:St3)(hb9:s.2.2<=9)(d11 d12:Option D)(g:StIn w t l T)(hn:∀a∈T,npS a (fSt m s)):
 ∃h' T' a b,xss G cl W paL (epn nm m hp dr (some (.int w)) (some (.int t)) (some (.int l)) (some (.ref p)) (some (.int s.1)) (some (.int s.2.1)) (some (.int s.2.2)) d11 d12 none) h=.ok (.nx (epn nm m hp dr (some (.int w)) (some (.int t)) (some (.int l)) (some (.ref p)) (some (.int s.1)) (some (.int s.2.1)) (some (.int s.2.2)) a b none)) h'/\Kp hb h'/\h'[p]? =some (.lst (T'.map s3))/\StIn w t l T'/\(T'=T\/T'=T++ [fSt m s]):=by
 obtain⟨g1,e1⟩:=h17 m h hm
 obtain⟨g2,e2⟩:=h15 (bk m) (s.1,s.2.1) (h++g1) (bk8 hm)
 have kq:Kp hb (h++g1++g2):=(kp.trans (Kp.app _ _)).trans (Kp.app _ _)
 have hs':(h++g1++g2)[p]? =some (.lst (T.map s3)):=Kp.app _ _ _ _ (Kp.app _ _ _ _ hs)
 generalize hH:h++g1++g2=H at e2 kq hs'
 obtain⟨X,Y,hXY⟩:∃X Y,act (bk m) (s.1,s.2.1)=(X,Y):=⟨_,_,rfl⟩
 have hf:fSt m s=(X,Y,s.2.2):=by unfold fSt;rw[hXY]
 rw[hXY] at e2
 have a1:xs G cl W (.asg (.tp [11,12]) (.call 15 (.cons (.call 17 (.cons (.var 1) .nil)) (.cons (.tup (.cons (.var 8) (.cons (.var 9) .nil))) .nil)))) (epn nm m hp dr (some (.int w)) (some (.int t)) (some (.int l)) (some (.ref p)) (some (.int s.1)) (some (.int s.2.1)) (some (.int s.2.2)) d11 d12 none) h=.ok (.nx (epn nm m hp dr (some (.int w)) (some (.int t)) (some (.int l)) (some (.ref p)) (some (.int s.1)) (some (.int s.2.1)) (some (.int s.2.2)) (some (.int X)) (some (.int Y)) none)) H:=by
  rw[xsAsg,evCl (evs2 (evCl (evs1 (evV (x:=mo m) rfl)) e1) (jzQ (x:=.int s.1) (y:=.int s.2.1) (evV rfl) (evV rfl))) e2]
  rfl
 rw[xssNx a1]
 have c:ev G cl paC (epn nm m hp dr (some (.int w)) (some (.int t)) (some (.int l)) (some (.ref p)) (some (.int s.1)) (some (.int s.2.1)) (some (.int s.2.2)) (some (.int X)) (some (.int Y)) none) H=.ok (.bl (decide (0<=X)&&(decide (X<w)&&(decide (0<=Y)&&(decide (Y<t)&&decide (l<=s.2.2)))))) H:=
  jzY (jzz (evInt ..) (evV rfl) (cLe ..)) (jzY (jzz (evV rfl) (evV rfl) (cLt ..)) (jzY (jzz (evInt ..) (evV rfl) (cLe ..)) (jzY (jzz (evV rfl) (evV rfl) (cLt ..)) (jzz (evV rfl) (evV rfl) (cGe ..)))))
 cases hc:(decide (0<=X)&&(decide (X<w)&&(decide (0<=Y)&&(decide (Y<t)&&decide (l<=s.2.2))))) with
 |false=>
  rw[hc] at c
  exact⟨H,T,_,_,by rw[xssNx (by rw[jzI c,jzq]),jzq],kq,hs',g,.inl rfl⟩
 |true=>
  rw[hc] at c
  simp only[Bool.and_eq_true,decide_eq_true_eq] at hc
  have ap:xs G cl W (.ex (.app (.var 7) (.tup (.cons (.var 11) (.cons (.var 12) (.cons (.var 10) .nil)))))) (epn nm m hp dr (some (.int w)) (some (.int t)) (some (.int l)) (some (.ref p)) (some (.int s.1)) (some (.int s.2.1)) (some (.int s.2.2)) (some (.int X)) (some (.int Y)) none) H=.ok (.nx _) (H.set p (.lst (T.map s3++ [s3 (X,Y,s.2.2)]))):=exApp rfl (qz9 (evs3 (evV rfl) (evV rfl) (evV rfl)) (small rfl)) hs' (by rw[List.length_map];omega)
  rw[hf] at hn
  refine⟨H.set p (.lst (T.map s3++ [s3 (X,Y,s.2.2)])),T++ [(X,Y,s.2.2)],_,_,by rw[xssNx (by rw[jzZ c,xssNx ap,jzq]),jzq],kq.set _ hpb,by rw[qzO hs',List.map_append];rfl,⟨?_,λa ha=>?_⟩,.inr (by rw[hf])⟩
  ·rw[List.pairwise_append]
   exact⟨g.up,List.pairwise_singleton _ _,λx hx y hy=>by rw[List.mem_singleton.mp hy];exact hn x hx⟩
  ·rcases List.mem_append.mp ha with z|z
   ·exact g.st a z
   ·rw[List.mem_singleton.mp z]
    refine⟨?_,hc.2.2.2.2,hb9⟩
    show((decide (0<=X)&&decide (X<w))&&(decide (0<=Y)&&decide (Y<t)))=true
    rw[decide_eq_true hc.1,decide_eq_true hc.2.1,decide_eq_true hc.2.2.1,decide_eq_true hc.2.2.2.1];rfl
theorem catL{h:Hh}{n k:Nat}{a b:List D}(ea:h[n]? =some (.lst a))(eb:h[k]? =some (.lst b))(hl:a.length+b.length<=1000):binD .add (.ref n) (.ref k) h=.ok (.ref h.length) (h++ [.lst (a++b)]):=by
 show(match h[n]?,h[k]? with|some (.lst a),some (.lst b)=>if a.length+b.length<=1000 then Rs.ok (D.ref h.length) (h++ [O.lst (a++b)]) else .bad|_,_=>.bad)=_
 rw[ea,eb]
 show(if _ then _ else _)=_
 rw[if_pos hl]
theorem evBinH{op:Bop}{a b:E}{x y d:D}{r:Ev}{h h1 h2 h3:Hh}(ha:ev G cl a r h=.ok x h1)(hb:ev G cl b r h1=.ok y h2)(hd:binD op x y h2=.ok d h3):ev G cl (.bin op a b) r h=.ok d h3:=by
 rw[evBin,ha]
 show(ev G cl b r h1).bind _=_
 rw[hb]
 exact hd
theorem cNeP(a b:St3)(h:Hh):cmpD .ne (pl2 a) (pl2 b) h=.ok (.bl (!decide (a.1=b.1/\a.2.1=b.2.1))) h:=by
 unfold pl2
 rw[cNeT]
 simp only[eqL1,eqL0,eqDI,Bool.and_true,Bool.decide_and]
theorem pa_odd{hb h:Hh}{nm:Str}{m:M3}{hp dr p:Nat}{row:List Int}(Q:Row hb dr row)(hr:row.length=12)(kp:Kp hb h){w t l:Int}(hw:1<=w/\w<=8)(ht:1<=t/\t<=8)(hl:1<=l/\l<=9){T:List St3}(hT:T.length<=100)(hs:h[p]? =some (.lst (T.map s3)))(g:StIn w t l T)(d8 d9 d10 d11 d12:Option D):
 ∃h' p' T' d13,xs G cl W paI (epn nm m hp dr (some (.int w)) (some (.int t)) (some (.int l)) (some (.ref p)) d8 d9 d10 d11 d12 none) h=.ok (.nx (epn nm m hp dr (some (.int w)) (some (.int t)) (some (.int l)) (some (.ref p')) d8 d9 d10 d11 d12 d13)) h'/\Kp hb h'/\lstAt h' p'=some (T'.map s3)/\StIn w t l T'/\T'.length<=101:=by
 have c:ev G cl (.cmp .eq (.bin .mod (.ix (.var 3) (.int 3)) (.int 6)) (.int 1)) (epn nm m hp dr (some (.int w)) (some (.int t)) (some (.int l)) (some (.ref p)) d8 d9 d10 d11 d12 none) h=.ok (.bl (decide (Row.R row 3%6=1))) h:=jzz (jzg (evIxV rfl (evInt _ _ _ _ 3) (Q.ix kp 3 (by omega))) (evInt ..) (bMod _ (by omega))) (evInt ..) (cEqI ..)
 by_cases hc:Row.R row 3%6=1
 ·rw[decide_eq_true hc] at c
  have eo:ev G cl paO (epn nm m hp dr (some (.int w)) (some (.int t)) (some (.int l)) (some (.ref p)) d8 d9 d10 d11 d12 none) h=.ok (s3 (Row.R row 10%w,Row.R row 11%t,l+Row.R row 10/8%(10-l))) h:=
   qz9 (evs3 (jzg (evIxV rfl (evInt _ _ _ _ 10) (Q.ix kp 10 (by omega))) (evV rfl) (bMod _ (by omega))) (jzg (evIxV rfl (evInt _ _ _ _ 11) (Q.ix kp 11 (by omega))) (evV rfl) (bMod _ (by omega))) (jzg (evV rfl) (jzg (jzg (evIxV rfl (evInt _ _ _ _ 10) (Q.ix kp 10 (by omega))) (evInt ..) (bDiv _ (by omega) (by omega))) (jzg (evInt ..) (evV rfl) (bSub ..)) (bMod _ (by omega))) (bAdd ..))) (small rfl)
  have go:inW w t (Row.R row 10%w) (Row.R row 11%t)=true/\l<=l+Row.R row 10/8%(10-l)/\l+Row.R row 10/8%(10-l)<=9:=by
   have p1:=Int.emod_nonneg (Row.R row 10) (show w≠0 by omega)
   have p2:=Int.emod_lt_of_pos (Row.R row 10) (show 0<w by omega)
   have p3:=Int.emod_nonneg (Row.R row 11) (show t≠0 by omega)
   have p4:=Int.emod_lt_of_pos (Row.R row 11) (show 0<t by omega)
   have p5:=Int.emod_nonneg (Row.R row 10/8) (show 10-l≠0 by omega)
   have p6:=Int.emod_lt_of_pos (Row.R row 10/8) (show 0<10-l by omega)
   refine⟨?_,by omega,by omega⟩
   unfold inW
   rw[decide_eq_true p1,decide_eq_true p2,decide_eq_true p3,decide_eq_true p4];rfl
  generalize hod:((Row.R row 10%w,Row.R row 11%t,l+Row.R row 10/8%(10-l)):St3)=od at eo
  have go':inW w t od.1 od.2.1=true/\l<=od.2.2/\od.2.2<=9:=by rw[<- hod];exact go
  obtain⟨gb,q⟩:=xzg (G:=G) (cl:=cl) (t:=.nm 0) (it:=.cons (.var 7) .nil) (cs:=.cons (.cmp .ne (.slT (.var 0) (.int 2)) (.slT (.var 1) (.int 2))) .nil) (e:=.var 0) (N:= ["_law_star","_law_odd"]) (cap:= [13]) (r:=epn nm m hp dr (some (.int w)) (some (.int t)) (some (.int l)) (some (.ref p)) d8 d9 d10 d11 d12 (some (s3 od))) (h:=h) (h1:=h) (l:=T) s3 (λr=>∃d,r=[d,some (s3 od)]) (λa=> !decide (a.1=od.1/\a.2.1=od.2.1)) s3 (evs1 (evV rfl)) (jzM hs) (by omega) ⟨none,rfl⟩
   (λa ha=>⟨λr ys gb ⟨d,er⟩=>by
     subst er
     refine⟨[some (s3 a),some (s3 od)],[],rfl,?_,⟨_,rfl⟩,λ_=>⟨[],?_⟩⟩
     ·rw[List.append_nil,evtCons,jzz (x:=pl2 a) (y:=pl2 od) (by rw[evSlT,evV (x:=s3 a) rfl,jze,evInt,jze,sl2]) (by rw[evSlT,evV (x:=s3 od) rfl,jze,evInt,jze,sl2]) (cNeP ..),jze,tBl]
      cases(!decide (a.1=od.1/\a.2.1=od.2.1))
      ·rfl
      ·exact qz8 ..
     ·rw[List.append_nil,List.append_nil];exact evV (i:=0) (x:=s3 a) rfl⟩)
  generalize hT1:T.filter (λa=> !decide (a.1=od.1/\a.2.1=od.2.1))=T1 at q
  have hl1:T1.length<=100:=by rw[<- hT1];exact Nat.le_trans (List.length_filter_le _ _) hT
  generalize hg1:h++O.lst (T1.map s3)::gb=h1 at q
  have k1:Kp h h1:=by rw[<- hg1];exact Kp.app _ _
  have p1:h1[h.length]? =some (.lst (T1.map s3)):=by rw[<- hg1];exact qzP ..
  have b1:=wzT (G:=G) (cl:=cl) (evs1 (r:=epn nm m hp dr (some (.int w)) (some (.int t)) (some (.int l)) (some (.ref p)) d8 d9 d10 d11 d12 (some (s3 od))) (h:=h1) (x:=s3 od) (evV (i:=13) rfl)) (small rfl)
  generalize hg2:h1++ [O.lst [s3 od]]=h2 at b1
  have k2:Kp h1 h2:=by rw[<- hg2];exact Kp.app _ _
  have p2:h2[h1.length]? =some (.lst [s3 od]):=by rw[<- hg2];exact jzH ..
  have b2:=evBinH (G:=G) (cl:=cl) (op:=.add) q b1 (catL (k2 _ _ p1) p2 (by rw[List.length_map];show _+1<=_;omega))
  refine⟨h2++ [.lst (T1.map s3++ [s3 od])],h2.length,T1++ [od],some (s3 od),?_,((kp.trans k1).trans k2).trans (Kp.app _ _),by rw[jzv,List.map_append];rfl,⟨?_,λa ha=>?_⟩,by rw[List.length_append];show _+1<=_;omega⟩
  ·rw[jzZ c,xssNx (r':=epn nm m hp dr (some (.int w)) (some (.int t)) (some (.int l)) (some (.ref p)) d8 d9 d10 d11 d12 (some (s3 od))) (h':=h) (jzt eo),xssNx (jzt b2),jzq]
   rfl
  ·rw[List.pairwise_append]
   refine⟨by rw[<- hT1];exact g.up.filter _,List.pairwise_singleton _ _,λx hx y hy=>?_⟩
   rw[List.mem_singleton.mp hy]
   rw[<- hT1,List.mem_filter] at hx
   have z:=hx.2
   exact λe=>by rw[decide_eq_true e] at z;cases z
  ·rcases List.mem_append.mp ha with z|z
   ·rw[<- hT1,List.mem_filter] at z;exact g.st a z.1
   ·rw[List.mem_singleton.mp z];exact go'
 ·rw[decide_eq_false hc] at c
  exact⟨h,p,T,none,by rw[jzI c,jzq],kp,jzM hs,g,by omega⟩
theorem evSlN{a:E}{n:Nat}{l:List D}{r:Ev}{h:Hh}(ha:ev G cl a r h=.ok (.ref n) h)(e:lstAt h n=some l):ev G cl (.slL a (.neg (.int 8))) r h=.ok (.ref h.length) (h++ [.lst (l.drop (l.length-8))]):=by
 have e0:ev G cl (.slL a (.neg (.int 8))) r h=(ev G cl a r h).bind λx h=>(ev G cl (.neg (.int 8)) r h).bind λy h=>slLD x y h:=by rw[ev]<;>rfl
 rw[e0,ha,jze,evNeg,evInt,jze,jze]
 have e1:isLst (.ref n) h=true:=by rw[jz6,e];rfl
 unfold slLD
 rw[e1,sRef,e]
 rfl
def Pan(cl:Cl)(f:Nat):Prop:=∀(h:Hh)(nm:Str)(m:M3)(hp dr:Nat)(S:List St3)(row:List Int),ok8 m->lstAt h hp=some (S.map s3)->Hev S->Row h dr row->row.length=12->∃h' w t l U,cl f [.str nm,mo m,.ref hp,.ref dr] h=.ok (paneT nm w t l U) h'/\Kp h h'/\Good w t l U
theorem pan_ok(hW:100<=W)(h15:Lmv cl 15)(h17:Lbk cl 17){h:Hh}{nm:Str}{m:M3}{hp dr:Nat}{S:List St3}{row:List Int}(hm:ok8 m)(hS:lstAt h hp=some (S.map s3))(HS:Hev S)(Q:Row h dr row)(hr:row.length=12):
 ∃h' w t l U,(xss G cl W paB (epn nm m hp dr none none none none none none none none none none) h).bind endD=.ok (paneT nm w t l U) h'/\Kp h h'/\Good w t l U:=by
 obtain⟨w,h1,hw,k1,e1⟩:=zzJ (G:=G) (cl:=cl) (nm:=nm) (m:=m) (hp:=hp) Q (Kp.refl _) 4 (by omega) 4 24 8 4 6 8 (by omega) (by omega) (by omega) (by omega) (by omega) none none none none none none none none none none
 obtain⟨t,h2,ht,k2,e2⟩:=zzJ (G:=G) (cl:=cl) (nm:=nm) (m:=m) (hp:=hp) Q k1 5 (by omega) 4 24 8 4 6 8 (by omega) (by omega) (by omega) (by omega) (by omega) (some (.int w)) none none none none none none none none none
 obtain⟨l,h3,hl,k3,e3⟩:=zzJ (G:=G) (cl:=cl) (nm:=nm) (m:=m) (hp:=hp) Q (k1.trans k2) 6 (by omega) 3 12 9 3 4 9 (by omega) (by omega) (by omega) (by omega) (by omega) (some (.int w)) (some (.int t)) none none none none none none none none
 have k03:Kp h h3:=(k1.trans k2).trans k3
 have kb:Kp h (h3++ [.lst []]):=k03.trans (Kp.app _ _)
 have fl:=qzy (t:=.tp [8,9,10]) (body:=xss G cl W paL) (n:=hp) (l:=S.map s3) (λi r h'=>∃(T:List St3)(d8 d9 d10 d11 d12:Option D),r=epn nm m hp dr (some (.int w)) (some (.int t)) (some (.int l)) (some (.ref h3.length)) d8 d9 d10 d11 d12 none/\Kp h3 h'/\h'[h3.length]? =some (.lst (T.map s3))/\T.length<=i/\StIn w t l T/\∀a∈T,∃s∈S.take i,a=fSt m s)
  (λ_ _=>False) (λi r h' ⟨T,_,_,_,_,_,_,kq,_⟩=>(k03.trans kq).lst hS)
  (λi d hd r h' ⟨T,d8,d9,d10,d11,d12,er,kq,hs,hT,g,hn⟩=>by
    subst er
    rw[List.getElem?_map,Option.map_eq_some_iff] at hd
    obtain⟨s,es,rfl⟩:=hd
    have hi:i<S.length:=(List.getElem?_eq_some_iff.mp es).1
    have hsm:s∈S:=(List.getElem?_eq_some_iff.mp es).2 ▸ List.getElem_mem _
    have hlen:=HS.len
    refine⟨epn nm m hp dr (some (.int w)) (some (.int t)) (some (.int l)) (some (.ref h3.length)) (some (.int s.1)) (some (.int s.2.1)) (some (.int s.2.2)) d11 d12 none,rfl,.inl ?_⟩
    obtain⟨h'',T',a,b,q1,q2,q3,q4,q5⟩:=pa_turn (G:=G) (W:=W) (nm:=nm) (hp:=hp) (dr:=dr) h15 h17 hm (Nat.le_refl _) kq (by omega) hs s (HS.br s hsm).2 d11 d12 g (λx hx=>by
     obtain⟨s',hs',rfl⟩:=hn x hx
     refine fSt_np hm ?_
     have u:=HS.up
     rw[<- List.take_append_drop i S,List.pairwise_append] at u
     refine u.2.2 s' hs' s ?_
     rw[List.drop_eq_getElem_cons hi]
     exact(List.getElem?_eq_some_iff.mp es).2 ▸ List.mem_cons_self)
    have tk:∀s'∈S.take i,s'∈S.take (i+1):=λs' h=>by rw[List.take_succ];exact List.mem_append_left _ h
    refine⟨_,h'',q1,T',_,_,_,_,_,rfl,q2,q3,?_,q4,λx hx=>?_⟩
    ·rcases q5 with rfl|rfl
     ·omega
     ·rw[List.length_append];show _+1<=_;omega
    ·rcases q5 with rfl|rfl
     ·obtain⟨s',a,b⟩:=hn x hx;exact⟨s',tk s' a,b⟩
     ·rcases List.mem_append.mp hx with z|z
      ·obtain⟨s',a,b⟩:=hn x z;exact⟨s',tk s' a,b⟩
      ·exact⟨s,by rw[List.take_succ,es];exact List.mem_append_right _ List.mem_cons_self,List.mem_singleton.mp z⟩)
  W 0 (epn nm m hp dr (some (.int w)) (some (.int t)) (some (.int l)) (some (.ref h3.length)) none none none none none none) (h3++ [.lst []]) ⟨[],_,_,_,_,_,rfl,Kp.app _ _,jzH ..,Nat.le_refl _,⟨.nil,λs hs=>nomatch hs⟩,λs hs=>nomatch hs⟩ (Nat.zero_le _) (by rw[List.length_map];have:=HS.len;omega)
 rcases fl with ⟨r4,h4,e4,T,d8,d9,d10,d11,d12,rfl,k4,hs4,hT4,g4,_⟩|⟨_,_,_,z⟩
 ·have hT:T.length<=8:=by rw[List.length_map] at hT4;have:=HS.len;omega
  obtain⟨h5,p5,T5,d13,e5,k5,hs5,g5,l5⟩:=pa_odd (G:=G) (cl:=cl) (W:=W) (nm:=nm) (m:=m) (hp:=hp) Q hr (k03.trans k4) hw ht hl (by omega) hs4 g4 d8 d9 d10 d11 d12
  have u6:(T5.drop (T5.length-8)).Pairwise npS:=g5.up.sublist (List.drop_sublist _ _)
  have l6:(T5.drop (T5.length-8)).length<=8:=by rw[List.length_drop];omega
  obtain⟨U,hU,eU⟩:=srt3 u6 l6
  have g6:StIn w t l (T5.drop (T5.length-8)):=⟨u6,λs hs=>g5.st s (List.mem_of_mem_drop hs)⟩
  have e6:=evSlN (G:=G) (cl:=cl) (a:=.var 7) (r:=epn nm m hp dr (some (.int w)) (some (.int t)) (some (.int l)) (some (.ref p5)) d8 d9 d10 d11 d12 d13) (evV rfl) hs5
  rw[List.length_map, <- List.map_drop] at e6
  generalize T5.drop (T5.length-8)=T6 at e6 eU hU g6 l6
  have e7:ev G cl (.blt .sorted (.cons (.slL (.var 7) (.neg (.int 8))) .nil)) (epn nm m hp dr (some (.int w)) (some (.int t)) (some (.int l)) (some (.ref p5)) d8 d9 d10 d11 d12 d13) h5=.ok (.ref (h5++ [O.lst (T6.map s3)]).length) (h5++ [.lst (T6.map s3)]++ [.lst (U.map s3)]):=evBl1 (evs1 e6) (srtL3 (jzv ..) eU)
  have e8:ev G cl (.blt .tup (.cons (.blt .sorted (.cons (.slL (.var 7) (.neg (.int 8))) .nil)) .nil)) (epn nm m hp dr (some (.int w)) (some (.int t)) (some (.int l)) (some (.ref p5)) d8 d9 d10 d11 d12 d13) h5=.ok (.tup (U.map s3)) (h5++ [.lst (T6.map s3)]++ [.lst (U.map s3)]):=by
   refine evBl1 (evs1 e7) ?_
   show tupL _ _=_
   unfold tupL
   have e1:isLst (.ref (h5++ [O.lst (T6.map s3)]).length) (h5++ [.lst (T6.map s3)]++ [.lst (U.map s3)])=true:=by rw[jz6,jzv];rfl
   rw[e1,sRef,jzv]
  refine⟨h5++ [.lst (T6.map s3)]++ [.lst (U.map s3)],w,t,l,U,?_,((k5.trans (Kp.app _ _)).trans (Kp.app _ _)),Good.perm hw ht hl g6 l6 hU⟩
  rw[xssNx (r':=epn nm m hp dr (some (.int w)) none none none none none none none none none) (h':=h1) (jzt e1),xssNx (r':=epn nm m hp dr (some (.int w)) (some (.int t)) none none none none none none none none) (h':=h2) (jzt e2),xssNx (r':=epn nm m hp dr (some (.int w)) (some (.int t)) (some (.int l)) none none none none none none none) (h':=h3) (jzt e3),
   xssNx (r':=epn nm m hp dr (some (.int w)) (some (.int t)) (some (.int l)) (some (.ref h3.length)) none none none none none none) (h':=h3++ [.lst []]) (jzt (wzT (jzO ..) (small rfl))),
   xssNx (by rw[qzb,evV (x:=.ref hp) rfl,nxOk,jze,forDR,e4]),xssNx e5,xssRt (jzD (qz9 (evs5 (x:=.str nm) (y:=.int w) (z:=.int t) (u:=.int l) (evV rfl) (evV rfl) (evV rfl) (evV rfl) e8) (small rfl)))]
  rfl
 ·exact z.elim
end
end Ng
end
section
namespace Ng
open PySem L2
theorem xzr{α β:Type}{φ:α->D}{t:Tg}{f:Ev->Hh->Rs D}{G:Gs}{cl:Cl}{h0:Hh}{F:Ev->Prop}{n:Nat}{l:List α}(val:α->β->D)(P:α->β->Hh->Prop)(hl:lstAt h0 n=some (l.map φ))(hm:l.length<=1000)
 (s1:∀a b h h',P a b h->Kp h h'->P a b h')(s2:∀a b h k L o,P a b h->h[k]? =some (.lst L)->P a b (h.set k o))
 (hb:∀a∈l,∀r h',F r->Kp h0 h'->∃r1 b h'',setT t (φ a) r=some r1/\F r1/\f r1 h'=.ok (val a b) h''/\Kp h' h''/\P a b h''):
 ∀(k i:Nat)(r:Ev)(h':Hh)(M:List (α×β)),F r->i<=l.length->l.length-i<k->Kp h0 h'->M.map Prod.fst=l.take i->h'[h0.length]? =some (.lst (M.map λq=>val q.1 q.2))->(∀q∈M,P q.1 q.2 h')->
  ∃(h'':Hh)(M':List (α×β)),compI t (evt G cl .nil) f h0.length n k i r h'=.ok () h''/\Kp h0 h''/\M'.map Prod.fst=l/\h''[h0.length]? =some (.lst (M'.map λq=>val q.1 q.2))/\∀q∈M',P q.1 q.2 h'':=by
 intro k
 induction k with
 |zero=>intro i r h' M _ _ hk;omega
 |succ k ih=>
  intro i r h' M hF hi hk kp hM hs hP
  have e0:=kp.lst hl
  by_cases hlt:i<l.length
  ·have ed:(l.map φ)[i]? =some (φ l[i]):=by rw[List.getElem?_map,List.getElem?_eq_getElem hlt];rfl
   obtain⟨r1,b,h1,e1,f1,e2,k1,p1⟩:=hb l[i] (List.getElem_mem hlt) r h' hF kp
   have hs1:=k1 _ _ hs
   have ln:(M.map λq=>val q.1 q.2).length<1000000:=by
    have:=congrArg List.length hM
    rw[List.length_map,List.length_take] at this
    rw[List.length_map];omega
   have ea:=xzI (val l[i] b) hs1 ln
   obtain⟨h2,M',q1,q2,q3,q4,q5⟩:=ih (i+1) r1 (h1.set h0.length (.lst ((M.map λq=>val q.1 q.2)++ [val l[i] b]))) (M++ [(l[i],b)]) f1 hlt (by omega) ((kp.trans k1).set _ (Nat.le_refl _)) (by rw[List.map_append,hM,List.take_succ,List.getElem?_eq_getElem hlt];rfl) (by rw[qzO hs1,List.map_append];rfl)
    (λq hq=>by
      refine s2 _ _ _ _ _ _ ?_ hs1
      rcases List.mem_append.mp hq with z|z
      ·exact s1 _ _ _ _ (hP q z) k1
      ·rw[List.mem_singleton.mp z];exact p1)
   refine⟨h2,M',?_,q2,q3,q4,q5⟩
   simp only[compI,e0,ed,e1,qz8,jze,if_true,e2,ea,q1]
  ·have ed:(l.map φ)[i]? =none:=List.getElem?_eq_none_iff.mpr (by simp;omega)
   refine⟨h',M,by simp only[compI,e0,ed],kp,?_,hs,hP⟩
   rw[hM,List.take_of_length_le (by omega)]
theorem xzf{α β:Type}{G:Gs}{cl:Cl}{t:Tg}{it:Es}{e:E}{N:List Str}{cap:List Nat}{r:Ev}{h h1:Hh}{n:Nat}{l:List α}(φ:α->D)(F:Ev->Prop)(val:α->β->D)(P:α->β->Hh->Prop)(hi:evs G cl it r h=.ok [.ref n] h1)(hl:lstAt h1 n=some (l.map φ))(hm:l.length<=1000)(hF:F (blockE N cap r))
 (s1:∀a b h h',P a b h->Kp h h'->P a b h')(s2:∀a b h k L o,P a b h->h[k]? =some (.lst L)->P a b (h.set k o))
 (hb:∀a∈l,∀r h',F r->Kp h1 h'->∃r1 b h'',setT t (φ a) r=some r1/\F r1/\ev G cl e r1 h'=.ok (val a b) h''/\Kp h' h''/\P a b h''):
 ∃(h':Hh)(M:List (α×β)),ev G cl (.comp t .sq it .nil e N cap) r h=.ok (.ref h1.length) h'/\Kp h1 h'/\M.map Prod.fst=l/\lstAt h' h1.length=some (M.map λq=>val q.1 q.2)/\∀q∈M,P q.1 q.2 h':=by
 obtain⟨h',M,q1,q2,q3,q4,q5⟩:=xzr (G:=G) (cl:=cl) val P hl hm s1 s2 hb ((l.map φ).length+1) 0 (blockE N cap r) (h1++ [.lst []]) [] hF (Nat.zero_le _) (by rw[List.length_map];omega) (Kp.app _ _) (by rw[List.take_zero];rfl) (jzH ..) (λq hq=>nomatch hq)
 exact⟨h',M,wza hi hl q1,q2,q3,jzM q4,q5⟩
theorem wzu{α:Type}{G:Gs}{cl:Cl}{t:Tg}{it:Es}{e:E}{N:List Str}{cap:List Nat}{r:Ev}{h h1:Hh}{n:Nat}{l:List α}(φ:α->D)(F:Ev->Prop)(g:α->D)(hi:evs G cl it r h=.ok [.ref n] h1)(hl:lstAt h1 n=some (l.map φ))(hm:l.length<=1000)(hF:F (blockE N cap r))
 (hb:∀a∈l,∀r h',F r->Kp h1 h'->∃r1 h'',setT t (φ a) r=some r1/\F r1/\ev G cl e r1 h'=.ok (g a) h''/\Kp h' h''):
 ∃h',ev G cl (.comp t .sq it .nil e N cap) r h=.ok (.ref h1.length) h'/\Kp h1 h'/\lstAt h' h1.length=some (l.map g):=by
 obtain⟨h',M,q1,q2,q3,q4,_⟩:=xzf (G:=G) (cl:=cl) (β:=Unit) (e:=e) (t:=t) (N:=N) (cap:=cap) φ F (λa _=>g a) (λ_ _ _=>True) hi hl hm hF (λ_ _ _ _ _ _=>trivial) (λ_ _ _ _ _ _ _ _=>trivial) (λa ha r h' hr kp=>by
  obtain⟨r1,h'',a1,a2,a3,a4⟩:=hb a ha r h' hr kp
  exact⟨r1,(),h'',a1,a2,a3,a4,trivial⟩)
 refine⟨h',q1,q2,?_⟩
 rw[q4, <- q3,List.map_map]
 rfl
structure Pr where
 nm:Str
 w:Int
 t:Int
 l:Int
 U:List St3
 m:M3
def Pr.p(r:Pr):D:=paneT r.nm r.w r.t r.l r.U
def Pr.d(r:Pr):D:=.tup [r.p,mo r.m]
structure Pr.ok (r:Pr):Prop where
 nm:NmOk r.nm
 g:Good r.w r.t r.l r.U
 m:ok8 r.m
def sySt(w t l:Int)(U:List St3)(x y:Int):Sy:=match at3 U x y with
 |some b=>.st b
 |none=>if inW w t x y=true then .ud l else .un
theorem sySt_d(w t l:Int)(U:List St3)(x y:Int):sayD w t l U x y=(sySt w t l U x y).d:=by
 unfold sayD sySt
 cases at3 U x y with
 |some b=>rfl
 |none=>cases inW w t x y<;>rfl
theorem sySt_ok{w t l:Int}{U:List St3}(g:Good w t l U)(x y:Int):(sySt w t l U x y).ok:=by
 unfold sySt
 cases q:at3 U x y with
 |some b=>
  unfold at3 at q
  rw[Option.map_eq_some_iff] at q
  obtain⟨s,hs,rfl⟩:=q
  have:=g.st s (List.mem_of_find?_eq_some hs)
  have:=g.hl
  show 1<=s.2.2/\s.2.2<=9
  omega
 |none=>
  cases inW w t x y with
  |true=>exact g.hl
  |false=>exact trivial
def Pr.sy(X:Int×Int)(r:Pr):Sy:=sySt r.w r.t r.l r.U (act (bk r.m) X).1 (act (bk r.m) X).2
section
variable {G:Gs}{cl:Cl}{W:Nat}
abbrev lqT:E:=(.and (.cmp .le (.int 0) (.ix (.var 1) (.int 0))) (.and (.cmp .lt (.ix (.var 1) (.int 0)) (.ix (.var 0) (.int 1))) (.and (.cmp .le (.int 0) (.ix (.var 1) (.int 1))) (.cmp .lt (.ix (.var 1) (.int 1)) (.ix (.var 0) (.int 2))))))
abbrev lqL:Ss:=(.cons (.iff (.and (.cmp .eq (.var 2) (.ix (.var 1) (.int 0))) (.cmp .eq (.var 3) (.ix (.var 1) (.int 1)))) (.cons (.ret (.tup (.cons (.str "star") (.cons (.var 4) .nil)))) .nil) .nil) .nil)
abbrev lqB:Ss:=(.cons (.iff (.not lqT) (.cons (.ret (.tup (.cons (.str "unseen") (.cons (.int 0) .nil)))) .nil) .nil) (.cons (.forr (.tp [2,3,4]) (.sq (.ix (.var 0) (.int 4))) lqL) (.cons (.ret (.tup (.cons (.str "under") (.cons (.ix (.var 0) (.int 3)) .nil)))) .nil)))
def Lsq(cl:Cl)(f:Nat):Prop:=∀(h:Hh)(nm:Str)(w t l:Int)(U:List St3)(X:Int×Int),Good w t l U->cl f [paneT nm w t l U,pl X] h=.ok (sySt w t l U X.1 X.2).d h
def eq5(P:D)(x y:Int)(a b c:Option D):Ev:= [some P,some (.tup [.int x,.int y]),a,b,c]
theorem zzV{h:Hh}(P:D)(x y:Int):∀(U:List St3)(a b c:Option D),(∃b',at3 U x y=some b'/\forS (.tp [2,3,4]) (xss G cl W lqL) (U.map s3) (eq5 P x y a b c) h=.ok (.rt (.tup [.str "star",.int b'])) h)\/(at3 U x y=none/\∃a' b' c',forS (.tp [2,3,4]) (xss G cl W lqL) (U.map s3) (eq5 P x y a b c) h=.ok (.nx (eq5 P x y a' b' c')) h)
 | [],a,b,c=>.inr ⟨rfl,a,b,c,rfl⟩
 |s::U,a,b,c=>by
  have c1:ev G cl (.and (.cmp .eq (.var 2) (.ix (.var 1) (.int 0))) (.cmp .eq (.var 3) (.ix (.var 1) (.int 1)))) (eq5 P x y (some (.int s.1)) (some (.int s.2.1)) (some (.int s.2.2))) h=.ok (.bl (decide (s.1=x)&&decide (s.2.1=y))) h:=
   jzY (jzz (evV rfl) (evIxV rfl (evInt ..) (d:=.int x) rfl) (cEqI ..)) (jzz (evV rfl) (evIxV rfl (evInt ..) (d:=.int y) rfl) (cEqI ..))
  have st:setT (.tp [2,3,4]) (s3 s) (eq5 P x y a b c)=some (eq5 P x y (some (.int s.1)) (some (.int s.2.1)) (some (.int s.2.2))):=rfl
  have ea:at3 (s::U) x y=if decide (s.1=x/\s.2.1=y)=true then some s.2.2 else at3 U x y:=by
   unfold at3
   rw[List.find?_cons]
   cases decide (s.1=x/\s.2.1=y)<;>rfl
  rw[<- Bool.decide_and] at c1
  rw[List.map_cons,forS1,st]
  cases q:decide (s.1=x/\s.2.1=y) with
  |true=>
   rw[q] at c1
   refine .inl ⟨s.2.2,by rw[ea,q];rfl,?_⟩
   show(xss G cl W lqL _ h).bind _=_
   rw[xssRt (d:=.tup [.str "star",.int s.2.2]) (h':=h) (by rw[jzZ c1,xssRt (jzD (jzQ (evStr ..) (evV rfl)))])]
   rfl
  |false=>
   rw[q] at c1
   have e1:xss G cl W lqL (eq5 P x y (some (.int s.1)) (some (.int s.2.1)) (some (.int s.2.2))) h=.ok (.nx (eq5 P x y (some (.int s.1)) (some (.int s.2.1)) (some (.int s.2.2)))) h:=by rw[xssNx (by rw[jzI c1,jzq]),jzq]
   have e2:at3 (s::U) x y=at3 U x y:=by rw[ea,q];rfl
   rw[e2]
   show(∃b',_/\(xss G cl W lqL _ h).bind _=_)\/(_/\∃a' b' c',(xss G cl W lqL _ h).bind _=_)
   rw[e1]
   exact zzV P x y U (some (.int s.1)) (some (.int s.2.1)) (some (.int s.2.2))
theorem lsq_ok{h:Hh}{nm:Str}{w t l:Int}{U:List St3}(X:Int×Int)(g:Good w t l U):(xss G cl W lqB [some (paneT nm w t l U),some (pl X),none,none,none] h).bind endD=.ok (sySt w t l U X.1 X.2).d h:=by
 obtain⟨x,y⟩:=X
 have i0:∀r:Ev,r[1]? =some (some (.tup [.int x,.int y]))->ev G cl (.ix (.var 1) (.int 0)) r h=.ok (.int x) h:=λr hr=>evIxV hr (evInt ..) rfl
 have i1:∀r:Ev,r[1]? =some (some (.tup [.int x,.int y]))->ev G cl (.ix (.var 1) (.int 1)) r h=.ok (.int y) h:=λr hr=>evIxV hr (evInt ..) rfl
 have iw:∀r:Ev,r[0]? =some (some (paneT nm w t l U))->ev G cl (.ix (.var 0) (.int 1)) r h=.ok (.int w) h:=λr hr=>evIxV hr (evInt ..) rfl
 have it:∀r:Ev,r[0]? =some (some (paneT nm w t l U))->ev G cl (.ix (.var 0) (.int 2)) r h=.ok (.int t) h:=λr hr=>evIxV hr (evInt ..) rfl
 have c1:ev G cl lqT (eq5 (paneT nm w t l U) x y none none none) h=.ok (.bl (inW w t x y)) h:=by
  have e:=jzY (G:=G) (cl:=cl) (jzz (evInt _ _ _ _ 0) (i0 (eq5 (paneT nm w t l U) x y none none none) rfl) (cLe ..)) (jzY (jzz (i0 _ rfl) (iw _ rfl) (cLt ..)) (jzY (jzz (evInt _ _ _ _ 0) (i1 _ rfl) (cLe ..)) (jzz (i1 _ rfl) (it _ rfl) (cLt ..))))
  rw[<- Bool.and_assoc] at e
  exact e
 show(xss G cl W lqB (eq5 (paneT nm w t l U) x y none none none) h).bind endD=.ok (sySt w t l U x y).d h
 cases hw:inW w t x y with
 |false=>
  rw[hw] at c1
  have q:at3 U x y=none:=by
   cases q:at3 U x y with
   |none=>rfl
   |some b=>rw[at3_in g q] at hw;cases hw
  rw[xssRt (d:=.tup [.str "unseen",.int 0]) (h':=h) (by rw[jzZ (qzt c1),xssRt (jzD (jzQ (evStr ..) (evInt ..)))])]
  unfold sySt
  rw[q,hw]
  rfl
 |true=>
  rw[hw] at c1
  rw[xssNx (r':=eq5 (paneT nm w t l U) x y none none none) (h':=h) (by rw[jzI (qzt c1),jzq])]
  have i4:ev G cl (.ix (.var 0) (.int 4)) (eq5 (paneT nm w t l U) x y none none none) h=.ok (.tup (U.map s3)) h:=evIxV rfl (evInt ..) rfl
  unfold sySt
  rcases zzV (G:=G) (cl:=cl) (W:=W) (h:=h) (paneT nm w t l U) x y U none none none with ⟨b',q,e⟩|⟨q,a',b',c',e⟩
  ·rw[xssRt (by rw[qzb,i4,nxOk,jze,forDT,e]),q]
   rfl
  ·rw[xssNx (by rw[qzb,i4,nxOk,jze,forDT,e]),xssRt (jzD (jzQ (evStr ..) (evIxV (x:=paneT nm w t l U) (d:=.int l) rfl (evInt ..) rfl))),q,hw]
   rfl
abbrev sgB:Ss:=(.cons (.ret (.comp (.tp [0,1]) .sq (.cons (.var 0) .nil) .nil (.call 23 (.cons (.var 0) (.cons (.call 15 (.cons (.call 17 (.cons (.var 1) .nil)) (.cons (.var 2) .nil))) .nil))) ["_law_pane_here","_law_motion_here","_law_place"] [1])) .nil)
def Sgs(cl:Cl)(f:Nat):Prop:=∀(h:Hh)(p:Nat)(R:List Pr)(X:Int×Int),lstAt h p=some (R.map Pr.d)->R.length<=100->(∀r∈R,r.ok)->∃h' k,cl f [.ref p,pl X] h=.ok (.ref k) h'/\Kp h h'/\lstAt h' k=some ((R.map (Pr.sy X)).map Sy.d)
theorem sgs_ok(h15:Lmv cl 15)(h17:Lbk cl 17)(h23:Lsq cl 23){h:Hh}{p:Nat}{R:List Pr}{X:Int×Int}(hp:lstAt h p=some (R.map Pr.d))(hl:R.length<=100)(ok:∀r∈R,r.ok):∃h' k,(xss G cl W sgB [some (.ref p),some (pl X)] h).bind endD=.ok (.ref k) h'/\Kp h h'/\lstAt h' k=some ((R.map (Pr.sy X)).map Sy.d):=by
 obtain⟨h',q,kp,e⟩:=wzu (G:=G) (cl:=cl) (t:=.tp [0,1]) (it:=.cons (.var 0) .nil) (e:=.call 23 (.cons (.var 0) (.cons (.call 15 (.cons (.call 17 (.cons (.var 1) .nil)) (.cons (.var 2) .nil))) .nil))) (N:= ["_law_pane_here","_law_motion_here","_law_place"]) (cap:= [1]) (r:= [some (.ref p),some (pl X)]) (h:=h) (h1:=h) Pr.d (λr=>∃a b,r=[a,b,some (pl X)]) (λr=>(r.sy X).d) (evs1 (evV rfl)) hp (by omega) ⟨_,_,rfl⟩
  (λr hr e h' ⟨a,b,er⟩ kp=>by
    subst er
    have O:=ok r hr
    obtain⟨g1,e1⟩:=h17 r.m h' O.m
    obtain⟨g2,e2⟩:=h15 (bk r.m) X (h'++g1) (bk8 O.m)
    exact⟨[some r.p,some (mo r.m),some (pl X)],h'++g1++g2,rfl,⟨_,_,rfl⟩,evCl (evs2 (evV rfl) (evCl (evs2 (evCl (evs1 (evV rfl)) e1) (evV rfl)) e2)) (h23 _ r.nm r.w r.t r.l r.U (act (bk r.m) X) O.g),(Kp.app _ _).trans (Kp.app _ _)⟩)
 refine⟨h',h.length,?_,kp,?_⟩
 ·rw[xssRt (jzD q)];rfl
 ·rw[e,List.map_map];rfl
abbrev ptB:Ss:=(.cons (.ret (.comp (.tp [0,1]) .sq (.cons (.var 0) .nil) .nil (.tup (.cons (.new "Plate" 33 (.cons (.ix (.var 0) (.int 0)) (.cons (.ix (.var 0) (.int 1)) (.cons (.ix (.var 0) (.int 2)) (.cons (.ix (.var 0) (.int 3)) (.cons (.blt .list (.cons (.ix (.var 0) (.int 4)) .nil)) .nil)))))) (.cons (.var 1) .nil))) ["_law_pane_here","_law_motion_here"] [])) .nil)
def hd2(r:Pr)(n:Nat):D:=.tup [.ref n,mo r.m]
def PlA(r:Pr)(n:Nat)(h:Hh):Prop:=PlateAt h n r.nm r.w r.t r.l r.U
def Pls(cl:Cl)(f:Nat):Prop:=∀(h:Hh)(p:Nat)(R:List Pr),lstAt h p=some (R.map Pr.d)->R.length<=100->(∀r∈R,r.ok)->∃(h':Hh)(k:Nat)(M:List (Pr×Nat)),cl f [.ref p] h=.ok (.ref k) h'/\Kp h h'/\M.map Prod.fst=R/\lstAt h' k=some (M.map λq=>hd2 q.1 q.2)/\∀q∈M,PlA q.1 q.2 h'
theorem pls_ok(h33:Ini cl 33){h:Hh}{p:Nat}{R:List Pr}(hp:lstAt h p=some (R.map Pr.d))(hl:R.length<=100)(ok:∀r∈R,r.ok):∃(h':Hh)(k:Nat)(M:List (Pr×Nat)),(xss G cl W ptB [some (.ref p)] h).bind endD=.ok (.ref k) h'/\Kp h h'/\M.map Prod.fst=R/\lstAt h' k=some (M.map λq=>hd2 q.1 q.2)/\∀q∈M,PlA q.1 q.2 h':=by
 obtain⟨h',M,q,kp,e1,e2,e3⟩:=xzf (G:=G) (cl:=cl) (t:=.tp [0,1]) (it:=.cons (.var 0) .nil) (e:=.tup (.cons (.new "Plate" 33 (.cons (.ix (.var 0) (.int 0)) (.cons (.ix (.var 0) (.int 1)) (.cons (.ix (.var 0) (.int 2)) (.cons (.ix (.var 0) (.int 3)) (.cons (.blt .list (.cons (.ix (.var 0) (.int 4)) .nil)) .nil)))))) (.cons (.var 1) .nil))) (N:= ["_law_pane_here","_law_motion_here"]) (cap:= []) (r:= [some (.ref p)]) (h:=h) (h1:=h) Pr.d (λr=>∃a b,r=[a,b]) hd2 PlA (evs1 (evV rfl)) hp (by omega) ⟨_,_,rfl⟩
  (λa b h h' P k=>P.kp k) (λa b h k L o P e=>P.set e)
  (λr hr e h' ⟨a,b,er⟩ kp=>by
    subst er
    have Ok:=ok r hr
    have el:ev G cl (.blt .list (.cons (.ix (.var 0) (.int 4)) .nil)) [some r.p,some (mo r.m)] h'=.ok (.ref h'.length) (h'++ [.lst (r.U.map s3)]):=evBl1 (evs1 (evIxV (x:=r.p) (d:=.tup (r.U.map s3)) rfl (evInt ..) rfl)) rfl
    obtain⟨h2,e2,P2,k2⟩:=h33 (h'++ [.lst (r.U.map s3)]) r.nm r.w r.t r.l r.U h'.length Ok.nm Ok.g (jzv ..)
    refine⟨[some r.p,some (mo r.m)],(h'++ [O.lst (r.U.map s3)]).length,h2,rfl,⟨_,_,rfl⟩,?_,(Kp.app _ _).trans k2,P2⟩
    refine jzQ (x:=.ref (h'++ [O.lst (r.U.map s3)]).length) (y:=mo r.m) ?_ (evV rfl)
    rw[evNew,evs5 (x:=.str r.nm) (y:=.int r.w) (z:=.int r.t) (u:=.int r.l) (evIxV (x:=r.p) rfl (evInt ..) rfl) (evIxV (x:=r.p) rfl (evInt ..) rfl) (evIxV (x:=r.p) rfl (evInt ..) rfl) (evIxV (x:=r.p) rfl (evInt ..) rfl) el,jze]
    unfold newD
    rw[e2]
    rfl)
 exact⟨h',h.length,M,by rw[xssRt (jzD q)];rfl,kp,e1,e2,e3⟩
abbrev kpB:Ss:=(.cons (.ret (.cmp .eq (.comp (.tp [0,1]) .sq (.cons (.var 0) .nil) .nil (.tup (.cons (.att (.var 0) "Plate" "name") (.cons (.var 1) .nil))) ["_law_plate","_law_motion_here"] []) (.comp (.tp [0,1]) .sq (.cons (.var 1) .nil) .nil (.tup (.cons (.ix (.var 0) (.int 0)) (.cons (.var 1) .nil))) ["_law_pane_here","_law_motion_here"] []))) .nil)
def nmo(r:Pr):D:=.tup [.str r.nm,mo r.m]
theorem xzi:∀R:List Pr,eqL (eqD 20) (R.map nmo) (R.map nmo)=some true
 | []=>rfl
 |r::R=>by
  rw[List.map_cons,eqL1,xzi R]
  have:eqD 20 (nmo r) (nmo r)=some true:=by
   unfold nmo mo
   rw[eqDT]
   simp only[eqL1,eqL0,eqDS,eqDT,eqDI,decide_true,Bool.and_true]
  rw[this]
  rfl
def Kpt(cl:Cl)(f:Nat):Prop:=∀(h:Hh)(k p:Nat)(M:List (Pr×Nat)),lstAt h k=some (M.map λq=>hd2 q.1 q.2)->lstAt h p=some ((M.map Prod.fst).map Pr.d)->M.length<=100->(∀q∈M,PlA q.1 q.2 h)->∃h',cl f [.ref k,.ref p] h=.ok (.bl true) h'/\Kp h h'
theorem kpt_ok{h:Hh}{k p:Nat}{M:List (Pr×Nat)}(hk:lstAt h k=some (M.map λq=>hd2 q.1 q.2))(hp:lstAt h p=some ((M.map Prod.fst).map Pr.d))(hl:M.length<=100)(hP:∀q∈M,PlA q.1 q.2 h):∃h',(xss G cl W kpB [some (.ref k),some (.ref p)] h).bind endD=.ok (.bl true) h'/\Kp h h':=by
 obtain⟨h1,q1,k1,e1⟩:=wzu (G:=G) (cl:=cl) (t:=.tp [0,1]) (it:=.cons (.var 0) .nil) (e:=.tup (.cons (.att (.var 0) "Plate" "name") (.cons (.var 1) .nil))) (N:= ["_law_plate","_law_motion_here"]) (cap:= []) (r:= [some (.ref k),some (.ref p)]) (h:=h) (h1:=h) (λq:Pr×Nat=>hd2 q.1 q.2) (λr=>∃a b,r=[a,b]) (λq=>nmo q.1) (evs1 (evV rfl)) hk (by omega) ⟨_,_,rfl⟩
  (λq hq r h' ⟨a,b,er⟩ kp=>by
    subst er
    obtain⟨j,p1,p2⟩:=PlateAt.kp (hP q hq) kp
    exact⟨[some (.ref q.2),some (mo q.1.m)],h',rfl,⟨_,_,rfl⟩,jzQ (qzh rfl p1 (fN ..)) (evV rfl),Kp.refl _⟩)
 obtain⟨h2,q2,k2,e2⟩:=wzu (G:=G) (cl:=cl) (t:=.tp [0,1]) (it:=.cons (.var 1) .nil) (e:=.tup (.cons (.ix (.var 0) (.int 0)) (.cons (.var 1) .nil))) (N:= ["_law_pane_here","_law_motion_here"]) (cap:= []) (r:= [some (.ref k),some (.ref p)]) (h:=h1) (h1:=h1) Pr.d (λr=>∃a b,r=[a,b]) nmo (evs1 (evV rfl)) (k1.lst hp) (by rw[List.length_map];omega) ⟨_,_,rfl⟩
  (λq hq r h' ⟨a,b,er⟩ kp=>by
    subst er
    exact⟨[some q.p,some (mo q.m)],h',rfl,⟨_,_,rfl⟩,jzQ (evIxV (x:=q.p) (d:=.str q.nm) rfl (evInt ..) rfl) (evV rfl),Kp.refl _⟩)
 refine⟨h2,?_,k1.trans k2⟩
 rw[xssRt (jzD (d:=.bl true) (h':=h2) (jzz q1 q2 ?_))]
 ·rfl
 ·have z1:lstAt h2 h.length=some ((M.map Prod.fst).map nmo):=by rw[k2.lst e1,List.map_map];rfl
  show(match eqH (.ref h.length) (.ref h1.length) h2 with|some b=>Rs.ok (D.bl b) h2|none=>.bad)=_
  have z:eqH (.ref h.length) (.ref h1.length) h2=some true:=by
   show(match lstAt h2 h.length,lstAt h2 h1.length with|some a,some b=>if a.length=b.length then eqL (eqD 20) a b else some false|_,_=>none)=_
   rw[z1,e2]
   show(if _ then _ else _)=_
   rw[if_pos rfl,xzi]
  rw[z]
end
end Ng
end
section
namespace Ng
open PySem L2
section
variable {G:Gs}{cl:Cl}{W:Nat}
abbrev hoQ:Ss:=(.cons (.ret (.tup (.cons (.bin .mod (.ix (.var 0) (.int 7)) (.int 8)) (.cons (.bin .sub (.bin .mod (.ix (.var 0) (.int 8)) (.int 7)) (.int 3)) (.cons (.bin .sub (.bin .mod (.ix (.var 0) (.int 9)) (.int 7)) (.int 3)) .nil))))) .nil)
def Hom(cl:Cl)(f:Nat):Prop:=∀(h:Hh)(dr:Nat)(row:List Int),Row h dr row->row.length=12->∃m:M3,ok8 m/\cl f [.ref dr] h=.ok (mo m) h
theorem hom_ok{h:Hh}{dr:Nat}{row:List Int}(Q:Row h dr row)(hr:row.length=12):∃m:M3,ok8 m/\(xss G cl W hoQ [some (.ref dr)] h).bind endD=.ok (mo m) h:=by
 refine⟨(Row.R row 7%8,Row.R row 8%7-3,Row.R row 9%7-3),⟨Int.emod_nonneg _ (by omega),Int.emod_lt_of_pos _ (by omega)⟩,?_⟩
 rw[xssRt (jzD (qz9 (evs3 (jzg (evIxV rfl (evInt _ _ _ _ 7) (Q.ix (Kp.refl _) 7 (by omega))) (evInt ..) (bMod _ (by omega))) (jzg (jzg (evIxV rfl (evInt _ _ _ _ 8) (Q.ix (Kp.refl _) 8 (by omega))) (evInt ..) (bMod _ (by omega))) (evInt ..) (bSub ..)) (jzg (jzg (evIxV rfl (evInt _ _ _ _ 9) (Q.ix (Kp.refl _) 9 (by omega))) (evInt ..) (bMod _ (by omega))) (evInt ..) (bSub ..))) (small rfl)))]
 rfl
def Lbh(cl:Cl)(f:Nat):Prop:=∀(a b:M3)(h:Hh),ok8 a->ok8 b->∃g,cl f [mo a,mo b] h=.ok (mo (bh a b)) (h++g)
abbrev pqH:E:=(.tup (.cons (.ix (.var 8) (.int 0)) (.cons (.bin .add (.ix (.var 8) (.int 1)) (.bin .mul (.int 400) (.bin .sub (.ix (.var 7) (.int 1)) (.int 506)))) (.cons (.bin .add (.ix (.var 8) (.int 2)) (.bin .mul (.bin .pow (.int 10) (.int 27)) (.bin .mod (.ix (.var 7) (.int 2)) (.int 3)))) .nil))))
abbrev pqL:Ss:=(.cons (.asg (.nm 7) (.call 12 (.cons (.var 0) (.cons (.bin .add (.var 1) (.var 6)) (.cons (.int 12) .nil))))) (.cons (.asg (.nm 8) (.call 27 (.cons (.var 7) .nil))) (.cons (.iff (.cmp .eq (.bin .mod (.ix (.var 7) (.int 0)) (.int 12)) (.int 5)) (.cons (.asg (.nm 8) pqH) .nil) .nil) (.cons (.ex (.app (.var 5) (.tup (.cons (.call 26 (.cons (.ix (.var 2) (.var 6)) (.cons (.var 8) (.cons (.var 3) (.cons (.var 7) .nil))))) (.cons (.call 16 (.cons (.var 8) (.cons (.var 4) .nil))) .nil))))) .nil))))
abbrev pqB:Ss:=(.cons (.asg (.nm 5) (.lst .nil)) (.cons (.forr (.nm 6) (.r1 (.blt .len (.cons (.var 2) .nil))) pqL) (.cons (.ret (.var 5)) .nil)))
def eq9(np hp:Nat)(m:M3)(p:Nat)(d6 d7 d8:Option D):Ev:= [some (.ref 0),some (.int 2),some (.ref np),some (.ref hp),some (mo m),some (.ref p),d6,d7,d8]
def Pns(cl:Cl)(f:Nat)(ns:List Int):Prop:=∀(h:Hh)(np hp:Nat)(l:List Str)(S:List St3)(m:M3),lstAt h 0=some (ns.map D.int)->lstAt h np=some (l.map D.str)->l.length<=12->(∀s∈l,NmOk s)->lstAt h hp=some (S.map s3)->Hev S->ok8 m->∃(h':Hh)(p:Nat)(R:List Pr),cl f [.ref 0,.int 2,.ref np,.ref hp,mo m] h=.ok (.ref p) h'/\Kp h h'/\lstAt h' p=some (R.map Pr.d)/\R.length<=12/\∀r∈R,r.ok
theorem appH{i a:Nat}{e:E}{y:D}{l:List D}{r:Ev}{h h':Hh}(hr:r[i]? =some (some (.ref a)))(hl0:lstAt h a=some l)(he:ev G cl e r h=.ok y h')(hs:h'[a]? =some (.lst l))(hl:l.length<=1000):xs G cl W (.ex (.app (.var i) e)) r h=.ok (.nx r) (h'.set a (.lst (l++ [y]))):=by
 have e1:isLst (.ref a) h=true:=by rw[jz6,hl0];rfl
 rw[xsEx,evApp,evV hr,jze,if_pos e1,he,jze,xzI _ hs (by omega),nxOk,jze]
theorem pns_turn{ns:List Int}(hd:Dru cl 12 ns)(h27:Hom cl 27)(h26:Pan cl 26)(h16:Lbh cl 16){hb h:Hh}{np hp p:Nat}{l:List Str}{S:List St3}{m:M3}(h00:lstAt hb 0=some (ns.map D.int))(hn:lstAt hb np=some (l.map D.str))(hN:∀s∈l,NmOk s)(hS:lstAt hb hp=some (S.map s3))(HS:Hev S)(hm:ok8 m)(hpb:hb.length<=p)(kp:Kp hb h){R:List Pr}(hR:R.length<=100)(ok:∀r∈R,r.ok)(hs:h[p]? =some (.lst (R.map Pr.d)))(j:Nat)(hj:j<l.length)(hj2:j<12)(d7 d8:Option D):
 ∃h' d7' d8' r,xss G cl W pqL (eq9 np hp m p (some (.int j)) d7 d8) h=.ok (.nx (eq9 np hp m p (some (.int j)) d7' d8')) h'/\Kp hb h'/\h'[p]? =some (.lst ((R++ [r]).map Pr.d))/\r.ok:=by
 obtain⟨row,hr,ir,q1⟩:=hd (2+(j:Int)) 12 h (by omega) (by omega) (by omega) (kp.lst h00)
 have Q:Row (h++ [.lst (row.map D.int)]) h.length row:=⟨jzv ..,ir⟩
 have k1:Kp h (h++ [.lst (row.map D.int)]):=Kp.app _ _
 generalize hg1:h++ [O.lst (row.map D.int)]=h1 at q1 Q k1
 obtain⟨m0,hm0,e27⟩:=h27 h1 h.length row Q hr
 rw[xssNx (r':=eq9 np hp m p (some (.int j)) (some (.ref h.length)) d8) (h':=h1) (jzt (evCl (evs3 (evV rfl) (jzg (evV rfl) (evV rfl) (bAdd ..)) (evInt ..)) q1)),xssNx (r':=eq9 np hp m p (some (.int j)) (some (.ref h.length)) (some (mo m0))) (h':=h1) (jzt (evCl (evs1 (evV rfl)) e27))]
 obtain⟨m1,hm1,e8⟩:∃m1:M3,ok8 m1/\xs G cl W (.iff (.cmp .eq (.bin .mod (.ix (.var 7) (.int 0)) (.int 12)) (.int 5)) (.cons (.asg (.nm 8) pqH) .nil) .nil) (eq9 np hp m p (some (.int j)) (some (.ref h.length)) (some (mo m0))) h1=.ok (.nx (eq9 np hp m p (some (.int j)) (some (.ref h.length)) (some (mo m1)))) h1:=by
  have c:ev G cl (.cmp .eq (.bin .mod (.ix (.var 7) (.int 0)) (.int 12)) (.int 5)) (eq9 np hp m p (some (.int j)) (some (.ref h.length)) (some (mo m0))) h1=.ok (.bl (decide (Row.R row 0%12=5))) h1:=jzz (jzg (evIxV rfl (evInt _ _ _ _ 0) (Q.ix (Kp.refl _) 0 (by omega))) (evInt ..) (bMod _ (by omega))) (evInt ..) (cEqI ..)
  by_cases hc:Row.R row 0%12=5
  ·rw[decide_eq_true hc] at c
   have b0:=Int.emod_nonneg (Row.R row 2) (show(3:Int)≠0 by omega)
   have b1:=Int.emod_lt_of_pos (Row.R row 2) (show(0:Int)<3 by omega)
   refine⟨(m0.1,m0.2.1+400*(Row.R row 1-506),m0.2.2+1000000000000000000000000000*(Row.R row 2%3)),hm0,?_⟩
   rw[jzZ c,xssNx (jzt (qz9 (evs3 (evIxV (x:=mo m0) (d:=.int m0.1) rfl (evInt ..) rfl) (jzg (evIxV (x:=mo m0) (d:=.int m0.2.1) rfl (evInt ..) rfl) (jzg (evInt ..) (jzg (evIxV rfl (evInt _ _ _ _ 1) (Q.ix (Kp.refl _) 1 (by omega))) (evInt ..) (bSub ..)) (bMulL _ (by omega) (by omega))) (bAdd ..)) (jzg (evIxV (x:=mo m0) (d:=.int m0.2.2) rfl (evInt ..) rfl) (jzg (jzg (evInt ..) (evInt ..) (bPow27 _)) (jzg (evIxV rfl (evInt _ _ _ _ 2) (Q.ix (Kp.refl _) 2 (by omega))) (evInt ..) (bMod _ (by omega))) (bMulR _ (by omega) (by omega))) (bAdd ..))) (small rfl))),jzq]
   rfl
  ·rw[decide_eq_false hc] at c
   exact⟨m0,hm0,by rw[jzI c,jzq]⟩
 rw[xssNx e8]
 have en:ixD (.ref np) (.int j) h1=.ok (.str l[j]) h1:=by
  rw[iRef _ _ ((kp.trans k1).lst hn),qza (v:=.str l[j]) (by rw[List.getElem?_map,List.getElem?_eq_getElem hj];rfl)]
 obtain⟨h2,w,t,lm,U,e26,k2,gU⟩:=h26 h1 l[j] m1 hp h.length S row hm1 ((kp.trans k1).lst hS) HS Q hr
 obtain⟨g3,e16⟩:=h16 m1 m h2 hm1 hm
 have k03:Kp hb (h2++g3):=((kp.trans k1).trans k2).trans (Kp.app _ _)
 have hs3:(h2++g3)[p]? =some (.lst (R.map Pr.d)):=Kp.app _ _ _ _ (k2 _ _ (k1 _ _ hs))
 have e4:=appH (G:=G) (cl:=cl) (W:=W) (i:=5) (r:=eq9 np hp m p (some (.int j)) (some (.ref h.length)) (some (mo m1))) rfl (jzM (k1 _ _ hs)) (jzQ (evCl (f:=26) (evs4 (evIxV (i:=2) rfl (evV (i:=6) rfl) en) (evV (i:=8) rfl) (evV (i:=3) rfl) (evV (i:=7) rfl)) e26) (evCl (f:=16) (evs2 (evV (i:=8) rfl) (evV (i:=4) rfl)) e16)) hs3 (by rw[List.length_map];omega)
 refine⟨_,_,_,⟨l[j],w,t,lm,U,bh m1 m⟩,by rw[xssNx e4,jzq],k03.set _ hpb,by rw[qzO hs3,List.map_append];rfl,⟨hN _ (List.getElem_mem hj),gU,bh8 m1 m⟩⟩
theorem pns_ok{ns:List Int}(hd:Dru cl 12 ns)(h27:Hom cl 27)(h26:Pan cl 26)(h16:Lbh cl 16){h:Hh}{np hp:Nat}{l:List Str}{S:List St3}{m:M3}(h00:lstAt h 0=some (ns.map D.int))(hn:lstAt h np=some (l.map D.str))(hl:l.length<=12)(hN:∀s∈l,NmOk s)(hS:lstAt h hp=some (S.map s3))(HS:Hev S)(hm:ok8 m):
 ∃(h':Hh)(p:Nat)(R:List Pr),(xss G cl W pqB [some (.ref 0),some (.int 2),some (.ref np),some (.ref hp),some (mo m),none,none,none,none] h).bind endD=.ok (.ref p) h'/\Kp h h'/\lstAt h' p=some (R.map Pr.d)/\R.length<=12/\∀r∈R,r.ok:=by
 obtain⟨r',h',e,R,d6,d7,d8,er,kp,hs,hR,ok⟩:=qzx (t:=.nm 6) (body:=xss G cl W pqL) (λj r h'=>∃(R:List Pr)(d6 d7 d8:Option D),r=eq9 np hp m h.length d6 d7 d8/\Kp h h'/\h'[h.length]? =some (.lst (R.map Pr.d))/\R.length=j/\∀r∈R,r.ok)
  (rngD 0 l.length) 0 (λj d hdd r h' ⟨R,d6,d7,d8,er,kp,hs,hR,ok⟩=>by
    subst er
    have hj:j<l.length:=by
     have:=(List.getElem?_eq_some_iff.mp hdd).1
     rwa [qzc] at this
    rw[wzk _ _ hj] at hdd
    cases hdd
    obtain⟨h2,d7',d8',r,q1,q2,q3,q4⟩:=pns_turn (G:=G) (W:=W) hd h27 h26 h16 h00 hn hN hS HS hm (Nat.le_refl _) kp (by omega) ok hs j hj (by omega) d7 d8
    exact⟨_,_,h2,rfl,q1,R++ [r],_,_,_,rfl,q2,q3,by rw[List.length_append];show _+1=_;omega,λx hx=>by rcases List.mem_append.mp hx with z|z;exact ok x z;exact(List.mem_singleton.mp z) ▸ q4⟩)
  (eq9 np hp m h.length none none none) (h++ [.lst []]) ⟨[],_,_,_,rfl,Kp.app _ _,jzH ..,rfl,λs hs=>nomatch hs⟩
 subst er
 rw[qzc] at hR
 refine⟨h',h.length,R,?_,kp,jzM hs,by omega,ok⟩
 have eL:=evLen (G:=G) (cl:=cl) (i:=2) (r:=eq9 np hp m h.length none none none) rfl (jzC h [O.lst []] hn)
 rw[List.length_map] at eL
 rw[xssNx (r':=eq9 np hp m h.length none none none) (h':=h++ [.lst []]) (jzt (wzT (jzO ..) (small rfl))),xssNx (qzv (j:=(l.length:Int)) (h1:=h++ [.lst []]) eL (qzD (by omega)) e),xssRt (jzD (evV rfl))]
 rfl
abbrev saE:E:=(.comp (.tp [0,1]) .sq (.cons (.var 0) .nil) .nil (.mth (.var 0) "Plate" "says" 36 (.cons (.call 2 (.cons (.call 4 (.cons (.var 1) .nil)) (.cons (.var 2) .nil))) .nil)) ["plate","motion","place"] [1])
abbrev saB:Ss:=(.cons (.retX 8 (.cons saE .nil)) .nil)
def Mvd(cl:Cl)(f:Nat):Prop:=∀(m:M3)(x:Int×Int)(h:Hh),ok8 m->cl f [mo m,pl x] h=.ok (pl (act m x)) h
def Bck(cl:Cl)(f:Nat):Prop:=∀(m:M3)(h:Hh),ok8 m->cl f [mo m] h=.ok (mo (bk m)) h
def Poo(cl:Cl)(f:Nat):Prop:=∀(ss:List Sy)(k:Nat)(h:Hh),lstAt h k=some (ss.map Sy.d)->ss.length<=1000->∃g,(decide (clo ss<=chi ss)=true->cl f [.ref k] h=.ok (nrw (clo ss) (chi ss)).d (h++g))/\(decide (clo ss<=chi ss)=false->∃r,cl f [.ref k] h=.exc 3 r (h++g))
def Sai(cl:Cl)(f:Nat):Prop:=∀(h:Hh)(k:Nat)(M:List (Pr×Nat))(X:Int×Int),lstAt h k=some (M.map λq=>hd2 q.1 q.2)->M.length<=100->(∀q∈M,PlA q.1 q.2 h)->(∀q∈M,q.1.ok)->∃h',Kp h h'/\(decide (clo ((M.map Prod.fst).map (Pr.sy X))<=chi ((M.map Prod.fst).map (Pr.sy X)))=true->cl f [.ref k,pl X] h=.ok (nrw (clo ((M.map Prod.fst).map (Pr.sy X))) (chi ((M.map Prod.fst).map (Pr.sy X)))).d h')/\(decide (clo ((M.map Prod.fst).map (Pr.sy X))<=chi ((M.map Prod.fst).map (Pr.sy X)))=false->∃r,cl f [.ref k,pl X] h=.exc 3 r h')
theorem sai_ok(h2:Mvd cl 2)(h4:Bck cl 4)(h36:Sys cl 36)(h8:Poo cl 8){h:Hh}{k:Nat}{M:List (Pr×Nat)}{X:Int×Int}(hk:lstAt h k=some (M.map λq=>hd2 q.1 q.2))(hl:M.length<=100)(hP:∀q∈M,PlA q.1 q.2 h)(ok:∀q∈M,q.1.ok):
 ∃h',Kp h h'/\(decide (clo ((M.map Prod.fst).map (Pr.sy X))<=chi ((M.map Prod.fst).map (Pr.sy X)))=true->(xss G cl W saB [some (.ref k),some (pl X)] h).bind endD=.ok (nrw (clo ((M.map Prod.fst).map (Pr.sy X))) (chi ((M.map Prod.fst).map (Pr.sy X)))).d h')/\(decide (clo ((M.map Prod.fst).map (Pr.sy X))<=chi ((M.map Prod.fst).map (Pr.sy X)))=false->∃r,(xss G cl W saB [some (.ref k),some (pl X)] h).bind endD=.exc 3 r h'):=by
 obtain⟨h1,q1,k1,e1⟩:=wzu (G:=G) (cl:=cl) (t:=.tp [0,1]) (it:=.cons (.var 0) .nil) (e:=.mth (.var 0) "Plate" "says" 36 (.cons (.call 2 (.cons (.call 4 (.cons (.var 1) .nil)) (.cons (.var 2) .nil))) .nil)) (N:= ["plate","motion","place"]) (cap:= [1]) (r:= [some (.ref k),some (pl X)]) (h:=h) (h1:=h) (λq:Pr×Nat=>hd2 q.1 q.2) (λr=>∃a b,r=[a,b,some (pl X)]) (λq=>(q.1.sy X).d) (evs1 (evV rfl)) hk (by omega) ⟨_,_,rfl⟩
  (λq hq r h' ⟨a,b,er⟩ kp=>by
    subst er
    have P:=PlateAt.kp (hP q hq) kp
    have Ok:=ok q hq
    obtain⟨j,p1,p2⟩:=id P
    refine⟨[some (.ref q.2),some (mo q.1.m),some (pl X)],h',rfl,⟨_,_,rfl⟩,?_,Kp.refl _⟩
    have e36:=h36 h' q.2 q.1.nm q.1.w q.1.t q.1.l q.1.U (act (bk q.1.m) X).1 (act (bk q.1.m) X).2 P
    rw[sySt_d] at e36
    exact vzH rfl p1 rfl (evs1 (evCl (evs2 (evCl (evs1 (evV rfl)) (h4 q.1.m h' Ok.m)) (evV rfl)) (h2 (bk q.1.m) X h' (bk8 Ok.m)))) e36)
 have e1':lstAt h1 h.length=some (((M.map Prod.fst).map (Pr.sy X)).map Sy.d):=by rw[e1,List.map_map,List.map_map];rfl
 generalize (M.map Prod.fst).map (Pr.sy X)=ss at e1'
 have hss:ss.length<=1000:=by
  have:=congrArg (Option.map List.length) (e1.symm.trans e1')
  simp only[Option.map_some,List.length_map,Option.some.injEq] at this
  omega
 obtain⟨g,a1,a2⟩:=h8 ss h.length h1 e1' hss
 refine⟨h1++g,k1.trans (Kp.app _ _),λhd=>?_,λhd=>?_⟩
 ·rw[xssRt (d:=(nrw (clo ss) (chi ss)).d) (h':=h1++g) (by rw[xsRetX,evs1 q1,nxOk,jze,a1 hd];rfl)]
  rfl
 ·obtain⟨r,e⟩:=a2 hd
  refine⟨[some (.ref k),some (pl X)],?_⟩
  rw[xssX (c:=3) (r':= [some (.ref k),some (pl X)]) (h':=h1++g) (by rw[xsRetX,evs1 q1,nxOk,jze,e];rfl)]
  rfl
abbrev tqS:S:=(.tryx (.cons (.asgX (.nm 9) 11 (.cons (.var 7) (.cons (.var 6) .nil))) .nil) 0 (some 10) [.bl 8 (.and (.isx 3) .isv)])
abbrev lqZ:Ss:=(.cons (.iff (.not (.call 31 (.cons (.var 7) (.cons (.var 5) .nil)))) (.cons (.ret (.bl false)) .nil) .nil) (.cons (.asg (.nm 11) (.call 30 (.cons (.var 5) (.cons (.var 6) .nil)))) (.cons (.iff (.not (.call 21 (.cons (.var 11) .nil))) (.cons (.ret (.var 8)) .nil) .nil) (.cons (.ret (.and (.not (.var 8)) (.call 19 (.cons (.var 9) (.cons (.call 22 (.cons (.var 11) .nil)) .nil))))) .nil))))
abbrev l15:Ss:=(.cons (.asg (.nm 1) (.call 12 (.cons (.var 0) (.cons (.int 0) (.cons (.int 18) .nil))))) (.cons (.asg (.nm 2) (.call 12 (.cons (.var 0) (.cons (.int 9) (.cons (.int 9) .nil))))) (.cons (.asg (.nm 3) (.slU (.call 25 (.cons (.var 1) .nil)) (.bin .mod (.ix (.var 2) (.int 0)) (.int 7)))) (.cons (.asg (.nm 4) (.call 18 (.cons (.var 2) (.cons (.int 1) .nil)))) (.cons (.asg (.nm 5) (.call 28 (.cons (.var 0) (.cons (.int 2) (.cons (.var 3) (.cons (.call 24 (.cons (.var 0) .nil)) (.cons (.var 4) .nil))))))) (.cons (.asg (.nm 6) (.call 15 (.cons (.var 4) (.cons (.tup (.cons (.bin .sub (.bin .mod (.ix (.var 2) (.int 6)) (.int 11)) (.int 5)) (.cons (.bin .sub (.bin .mod (.ix (.var 2) (.int 7)) (.int 11)) (.int 5)) .nil))) .nil)))) (.cons (.asg (.nm 7) (.call 29 (.cons (.var 5) .nil))) (.cons (.asg (.nm 8) (.bl false)) (.cons (.asg (.nm 9) .non) (.cons tqS lqZ))))))))))
def Mtn(cl:Cl)(f:Nat):Prop:=∀(k:Nat)(l:List Int)(h:Hh),lstAt h k=some (l.map D.int)->l.length=9->InR l->∃m:M3,ok8 m/\cl f [.ref k,.int 1] h=.ok (mo m) h
def Aag(cl:Cl)(f:Nat):Prop:=∀(ss:List Sy)(k:Nat)(h:Hh),lstAt h k=some (ss.map Sy.d)->ss.length<=1000->cl f [.ref k] h=.ok (.bl (ss.all λa=>ss.all (agr a))) h
def Lnr(cl:Cl)(f:Nat):Prop:=∀(ss:List Sy)(k:Nat)(h:Hh),lstAt h k=some (ss.map Sy.d)->ss.length<=1000->cl f [.ref k] h=.ok (lnarA 10 ss).d h
def e12(a b c:Nat)(m:M3)(p:Nat)(X:Int×Int)(k:Nat)(d8 d9 d10 d11:Option D):Ev:= [some (.ref 0),some (.ref a),some (.ref b),some (.ref c),some (mo m),some (.ref p),some (pl X),some (.ref k),d8,d9,d10,d11]
theorem evSlU2{a b:E}{n:Nat}{l:List D}{i:Int}{r:Ev}{h h1:Hh}(ha:ev G cl a r h=.ok (.ref n) h1)(hb:ev G cl b r h1=.ok (.int i) h1)(e:lstAt h1 n=some l)(hi:0<=i):ev G cl (.slU a b) r h=.ok (.ref h1.length) (h1++ [.lst (l.take i.toNat)]):=by
 have e0:ev G cl (.slU a b) r h=(ev G cl a r h).bind λx h=>(ev G cl b r h).bind λy h=>slUD x y h:=by rw[ev]<;>rfl
 rw[e0,ha,jze,hb,jze]
 have e1:isLst (.ref n) h1=true:=by rw[jz6,e];rfl
 unfold slUD
 rw[e1,sRef,e]
 show(if _ then _ else _)=_
 rw[if_pos hi]
theorem law15_ok(hs1:(3,0)∈G.sub)(hr3:∀r:Ev,hrun G 3 [.bl 8 (.and (.isx 3) .isv)] r=some (r.set 8 (some (.bl true)))){ns:List Int}(hd:Dru cl 12 ns)(h25:Nms cl 25)(h18:Mtn cl 18)(h24:Hvn cl 24 ns)(h28:Pns cl 28 ns)(h15:Lmv cl 15)(h29:Pls cl 29)(h11:Sai cl 11)(h31:Kpt cl 31)(h30:Sgs cl 30)(h21:Aag cl 21)(h22:Lnr cl 22)(h19:Smd cl 19):
 ∃h',(xss G cl W l15 [some (.ref 0),none,none,none,none,none,none,none,none,none,none,none] [.ro (ns.map D.int)]).bind endD=.ok (.bl true) h':=by
 have e0:lstAt [.ro (ns.map D.int)] 0=some (ns.map D.int):=rfl
 obtain⟨row,hr,ir,q1⟩:=hd 0 18 [.ro (ns.map D.int)] (by omega) (by omega) (by omega) e0
 obtain⟨er,he,ie,q2⟩:=hd 9 9 ([.ro (ns.map D.int)]++ [.lst (row.map D.int)]) (by omega) (by omega) (by omega) (jzC _ _ e0)
 have Q:Row ([.ro (ns.map D.int)]++ [.lst (row.map D.int)]++ [.lst (er.map D.int)]) 1 row:=⟨rfl,ir⟩
 have Q2:Row ([.ro (ns.map D.int)]++ [.lst (row.map D.int)]++ [.lst (er.map D.int)]) 2 er:=⟨rfl,ie⟩
 have e02:lstAt ([.ro (ns.map D.int)]++ [.lst (row.map D.int)]++ [.lst (er.map D.int)]) 0=some (ns.map D.int):=rfl
 have q1':cl 12 [.ref 0,.int 0,.int 18] [.ro (ns.map D.int)]=.ok (.ref 1) ([.ro (ns.map D.int)]++ [.lst (row.map D.int)]):=q1
 have q2':cl 12 [.ref 0,.int 9,.int 9] ([.ro (ns.map D.int)]++ [.lst (row.map D.int)])=.ok (.ref 2) ([.ro (ns.map D.int)]++ [.lst (row.map D.int)]++ [.lst (er.map D.int)]):=q2
 generalize [O.ro (ns.map D.int)]++ [.lst (row.map D.int)]=h1 at q1' q2' Q Q2 e02
 generalize h1++ [O.lst (er.map D.int)]=h2 at q2' Q Q2 e02
 obtain⟨h3,p3,l3,e3,k3,hl3,n3,N3⟩:=h25 h2 1 row Q hr
 have i0:(0:Int)<=Row.R er 0%7:=Int.emod_nonneg _ (by omega)
 have s3':=evSlU2 (G:=G) (cl:=cl) (a:=.call 25 (.cons (.var 1) .nil)) (b:=.bin .mod (.ix (.var 2) (.int 0)) (.int 7)) (r:= [some (.ref 0),some (.ref 1),some (.ref 2),none,none,none,none,none,none,none,none,none]) (evCl (evs1 (evV rfl)) e3) (jzg (evIxV rfl (evInt _ _ _ _ 0) (Q2.ix k3 0 (by omega))) (evInt ..) (bMod _ (by omega))) hl3 i0
 rw[<- List.map_take] at s3'
 have N4:∀s∈l3.take (Row.R er 0%7).toNat,NmOk s:=λs hs=>N3 s (List.mem_of_mem_take hs)
 have n4:(l3.take (Row.R er 0%7).toNat).length<=12:=by rw[List.length_take];omega
 generalize l3.take (Row.R er 0%7).toNat=l4 at s3' N4 n4
 have k4:Kp h2 (h3++ [.lst (l4.map D.str)]):=k3.trans (Kp.app _ _)
 have hl4:lstAt (h3++ [.lst (l4.map D.str)]) h3.length=some (l4.map D.str):=jzv ..
 generalize h3++ [O.lst (l4.map D.str)]=h4 at s3' k4 hl4
 obtain⟨m,hm,e4⟩:=h18 2 er h4 (k4.lst Q2.at') he ie
 obtain⟨h5,p5,S,e5,k5,hS,HS⟩:=h24 h4 (k4.lst e02)
 obtain⟨h6,p6,R,e6,k6,hR,nR,okR'⟩:=h28 h5 h3.length p5 l4 S m ((k4.trans k5).lst e02) (k5.lst hl4) n4 N4 hS HS hm
 have k26:Kp h2 h6:=(k4.trans k5).trans k6
 obtain⟨g7,e7⟩:=h15 m (Row.R er 6%11-5,Row.R er 7%11-5) h6 hm
 generalize hX:act m (Row.R er 6%11-5,Row.R er 7%11-5)=X at e7
 have k27:Kp h2 (h6++g7):=k26.trans (Kp.app _ _)
 have hR7:lstAt (h6++g7) p6=some (R.map Pr.d):=jzC _ _ hR
 obtain⟨h8,p8,M,e8,k8,eM,hM,PM⟩:=h29 (h6++g7) p6 R hR7 (by omega) okR'
 have lM:M.length<=100:=by have:=congrArg List.length eM;rw[List.length_map] at this;omega
 have okM:∀q∈M,q.1.ok:=λq hq=>okR' q.1 (by rw[<- eM];exact List.mem_map.mpr ⟨q,hq,rfl⟩)
 obtain⟨h9,k9,sT,sF⟩:=h11 h8 p8 M X hM lM PM okM
 rw[eM] at sT sF
 have okS:∀s∈R.map (Pr.sy X),s.ok:=λs hs=>by
  obtain⟨r,hr,rfl⟩:=List.mem_map.mp hs
  exact sySt_ok (okR' r hr).g _ _
 obtain⟨h10,e10,k10⟩:=h31 h9 p8 p6 M (k9.lst hM) (by rw[eM];exact k9.lst (k8.lst hR7)) lM (λq hq=>PlateAt.kp (PM q hq) k9)
 obtain⟨h11',p11,e11,k11,hS11⟩:=h30 h10 p6 R X (k10.lst (k9.lst (k8.lst hR7))) (by omega) okR'
 have lS:(R.map (Pr.sy X)).length<=1000:=by rw[List.length_map];omega
 have a21:=h21 _ p11 h11' hS11 lS
 have a22:=h22 _ p11 h11' hS11 lS
 rw[all_agr okS] at a21
 have ln:=λz=>lnar_is okS z
 generalize R.map (Pr.sy X)=ss at sT sF a21 a22 ln
 have head:∀Z:Ss,xss G cl W (.cons (.asg (.nm 1) (.call 12 (.cons (.var 0) (.cons (.int 0) (.cons (.int 18) .nil))))) (.cons (.asg (.nm 2) (.call 12 (.cons (.var 0) (.cons (.int 9) (.cons (.int 9) .nil))))) (.cons (.asg (.nm 3) (.slU (.call 25 (.cons (.var 1) .nil)) (.bin .mod (.ix (.var 2) (.int 0)) (.int 7)))) (.cons (.asg (.nm 4) (.call 18 (.cons (.var 2) (.cons (.int 1) .nil)))) (.cons (.asg (.nm 5) (.call 28 (.cons (.var 0) (.cons (.int 2) (.cons (.var 3) (.cons (.call 24 (.cons (.var 0) .nil)) (.cons (.var 4) .nil))))))) (.cons (.asg (.nm 6) (.call 15 (.cons (.var 4) (.cons (.tup (.cons (.bin .sub (.bin .mod (.ix (.var 2) (.int 6)) (.int 11)) (.int 5)) (.cons (.bin .sub (.bin .mod (.ix (.var 2) (.int 7)) (.int 11)) (.int 5)) .nil))) .nil)))) (.cons (.asg (.nm 7) (.call 29 (.cons (.var 5) .nil))) (.cons (.asg (.nm 8) (.bl false)) (.cons (.asg (.nm 9) .non) Z))))))))) [some (.ref 0),none,none,none,none,none,none,none,none,none,none,none] [.ro (ns.map D.int)]=xss G cl W Z (e12 1 2 h3.length m p6 X p8 (some (.bl false)) (some .non) none none) h8:=λZ=>by
  rw[xssNx (r':= [some (.ref 0),some (.ref 1),none,none,none,none,none,none,none,none,none,none]) (h':=h1) (jzt (evCl (evs3 (evV rfl) (evInt ..) (evInt ..)) q1')),
   xssNx (r':= [some (.ref 0),some (.ref 1),some (.ref 2),none,none,none,none,none,none,none,none,none]) (h':=h2) (jzt (evCl (evs3 (evV rfl) (evInt ..) (evInt ..)) q2')),
   xssNx (r':= [some (.ref 0),some (.ref 1),some (.ref 2),some (.ref h3.length),none,none,none,none,none,none,none,none]) (h':=h4) (jzt s3'),
   xssNx (r':= [some (.ref 0),some (.ref 1),some (.ref 2),some (.ref h3.length),some (mo m),none,none,none,none,none,none,none]) (h':=h4) (jzt (evCl (evs2 (evV rfl) (evInt ..)) e4)),
   xssNx (r':= [some (.ref 0),some (.ref 1),some (.ref 2),some (.ref h3.length),some (mo m),some (.ref p6),none,none,none,none,none,none]) (h':=h6) (jzt (evCl (evs5 (evV rfl) (evInt ..) (evV rfl) (evCl (evs1 (evV rfl)) e5) (evV rfl)) e6)),
   xssNx (r':= [some (.ref 0),some (.ref 1),some (.ref 2),some (.ref h3.length),some (mo m),some (.ref p6),some (pl X),none,none,none,none,none]) (h':=h6++g7) (jzt (evCl (evs2 (evV rfl) (jzQ (jzg (jzg (evIxV rfl (evInt _ _ _ _ 6) (Q2.ix k26 6 (by omega))) (evInt ..) (bMod _ (by omega))) (evInt ..) (bSub ..)) (jzg (jzg (evIxV rfl (evInt _ _ _ _ 7) (Q2.ix k26 7 (by omega))) (evInt ..) (bMod _ (by omega))) (evInt ..) (bSub ..)))) e7)),
   xssNx (r':=e12 1 2 h3.length m p6 X p8 none none none none) (h':=h8) (jzt (evCl (evs1 (evV rfl)) e8)),
   xssNx (r':=e12 1 2 h3.length m p6 X p8 (some (.bl false)) none none none) (h':=h8) (jzt (evBl ..)),
   xssNx (r':=e12 1 2 h3.length m p6 X p8 (some (.bl false)) (some .non) none none) (h':=h8) (jzt (evNon ..))]
 rw[head]
 have tail:∀(b:Bool)(d:D)(Z:Ss),xss G cl W (.cons (.iff (.not (.call 31 (.cons (.var 7) (.cons (.var 5) .nil)))) (.cons (.ret (.bl false)) .nil) .nil) (.cons (.asg (.nm 11) (.call 30 (.cons (.var 5) (.cons (.var 6) .nil)))) Z)) (e12 1 2 h3.length m p6 X p8 (some (.bl b)) (some d) none none) h9=xss G cl W Z (e12 1 2 h3.length m p6 X p8 (some (.bl b)) (some d) none (some (.ref p11))) h11':=λb d Z=>by
  rw[xssNx (r':=e12 1 2 h3.length m p6 X p8 (some (.bl b)) (some d) none none) (h':=h10) (by rw[jzI (qzt (p:=true) (evCl (evs2 (evV rfl) (evV rfl)) e10)),jzq]),xssNx (r':=e12 1 2 h3.length m p6 X p8 (some (.bl b)) (some d) none (some (.ref p11))) (h':=h11') (jzt (evCl (evs2 (evV rfl) (evV rfl)) e11))]
 have c21:∀(b:Bool)(d:D),ev G cl (.not (.call 21 (.cons (.var 11) .nil))) (e12 1 2 h3.length m p6 X p8 (some (.bl b)) (some d) none (some (.ref p11))) h11'=.ok (.bl (!decide (clo ss<=chi ss))) h11':=λb d=>qzt (evCl (evs1 (evV rfl)) a21)
 refine⟨h11',?_⟩
 cases hb:decide (clo ss<=chi ss) with
 |true=>
  have eS:=sT hb
  rw[hb] at c21
  rw[ln (of_decide_eq_true hb)] at a22
  have e19:=h19 (nrw (clo ss) (chi ss)).d h11' (Sy.pd _)
  rw[xssNx (r':=e12 1 2 h3.length m p6 X p8 (some (.bl false)) (some (nrw (clo ss) (chi ss)).d) none none) (h':=h9) (by
   rw[xsTry,xssNx (r':=e12 1 2 h3.length m p6 X p8 (some (.bl false)) (some (nrw (clo ss) (chi ss)).d) none none) (h':=h9) (by rw[xsAsgX,evs2 (x:=.ref p8) (y:=pl X) (evV rfl) (evV rfl),nxOk,jze,eS];rfl),jzq]
   rfl),tail,xssNx (by rw[jzI (c21 _ _),jzq]),xssRt (jzD (d:=.bl true) (h':=h11') (by
    rw[evAnd,qzt (evV (i:=8) (x:=.bl false) rfl),jze,Bool.not_false,tBl]
    exact evCl (evs2 (evV rfl) (evCl (evs1 (evV rfl)) a22)) e19))]
  rfl
 |false=>
  obtain⟨r0,eS⟩:=sF hb
  rw[hb] at c21
  rw[xssNx (r':=e12 1 2 h3.length m p6 X p8 (some (.bl true)) (some .non) none none) (h':=h9) (by
   rw[xsTry,xssX (c:=3) (r':=e12 1 2 h3.length m p6 X p8 (some (.bl false)) (some .non) none none) (h':=h9) (by rw[xsAsgX,evs2 (x:=.ref p8) (y:=pl X) (evV rfl) (evV rfl),nxOk,jze,eS];rfl)]
   show(if(3,0)∈G.sub then _ else _)=_
   rw[if_pos hs1,hr3];rfl),tail,xssRt (d:=.bl true) (h':=h11') (by rw[jzZ (c21 _ _),xssRt (jzD (evV rfl))])]
  rfl
end
end Ng
end
section
namespace Pk15
open PySem L2
open Ng
open Ng renaming zzu->ac,ds_cons->dc
set_option maxHeartbeats 0
theorem vr{N:List Str}{sc:Scope}{G:Gs}{i:Nat}{x:Str}{pos:Pos}(h1:N[i]? =some x:=by rfl)(h:(visB sc x&&noDbg x)=true:=by decide+kernel):SE N sc G (.var i) (.Name x pos):=dE_var h1 h
theorem len4{us:List Value}(h:us.length=4):∃a b c d,us=[a,b,c,d]:=by
 obtain⟨a,us,rfl⟩:=List.exists_cons_of_length_eq_add_one h
 obtain⟨b,c,d,rfl⟩:=len3 (Nat.succ.inj h)
 exact⟨_,_,_,_,rfl⟩
theorem len5{us:List Value}(h:us.length=5):∃a b c d e,us=[a,b,c,d,e]:=by
 obtain⟨a,us,rfl⟩:=List.exists_cons_of_length_eq_add_one h
 obtain⟨b,us,rfl⟩:=List.exists_cons_of_length_eq_add_one (Nat.succ.inj h)
 obtain⟨c,d,e,rfl⟩:=len3 (Nat.succ.inj (Nat.succ.inj h))
 exact⟨_,_,_,_,_,rfl⟩
local macro_rules
 | `(tactic|trivial)=> `(tactic|first |decide+kernel|exact⟨rfl,rfl,rfl,by decide+kernel,rfl,by decide+kernel,by decide+kernel⟩|(intro _ _ _ _ _ _ us hl;first |(obtain⟨_,e⟩:=len1 hl;subst e;rfl)|(obtain⟨_,_,e⟩:=len2 hl;subst e;rfl)|(obtain⟨_,_,_,e⟩:=len3 hl;subst e;rfl)|(obtain⟨_,_,_,_,e⟩:=len4 hl;subst e;rfl)|(obtain⟨_,_,_,_,_,e⟩:=len5 hl;subst e;rfl)|(obtain⟨_,_,_,_,_,_,e⟩:=len6 hl;subst e;rfl)))
def top(i:Nat):PySem.Stmt:=PySem.Challenge.pw_nightglass_k15_said_of_a_place.main.body.getD i (.Pass ⟨0,0,0,0⟩)
def mtop(i k:Nat):PySem.Stmt:=inClass (top i) k
def G:Gs:=⟨("turned"::"turn_back"::"moved"::"leading"::"back"::"span"::"common_span"::"narrowest"::"pool"::"is_name"::"is_window"::"said"::"_law_draws"::"_law_far"::"_law_turned"::"_law_moved"::"_law_behind"::"_law_back"::"_law_motion"::"_law_same"::"_law_agreeing"::"_law_all_agreeing"::"_law_narrow"::"_law_says"::"_law_heaven"::"_law_names"::"_law_pane"::"_law_home"::"_law_panes"::"_law_plates"::"_law_sayings"::"_law_kept"::"law":: []:List Str),[("ORIGIN",.tup [.int (0),.int (0)]),("TURNS",.tup [.tup [.int (1),.int (0),.int (0),.int (1)],.tup [.int (0),.int (-1),.int (1),.int (0)],.tup [.int (-1),.int (0),.int (0),.int (-1)],.tup [.int (0),.int (1),.int (-1),.int (0)],.tup [.int (-1),.int (0),.int (0),.int (1)],.tup [.int (0),.int (-1),.int (-1),.int (0)],.tup [.int (1),.int (0),.int (0),.int (-1)],.tup [.int (0),.int (1),.int (1),.int (0)]]),("MIRRORED",.int (4)),("BRIGHTEST",.int (9)),("UNSEEN",.tup [.str "unseen",.int (0)]),("LETTERS",.str "abcdefghijklmnopqrstuvwxyz"),("LONGEST_NAME",.int (8)),("LONGEST_SIDE",.int (8)),("MOST_STARS",.int (8))],["GlassError","BadName","BadPlate","Denied"],[(0,0),(1,1),(1,0),(2,2),(2,0),(3,3),(3,0)],[(1,3),(2,3)],[("Plate",33)],[("Plate","shows_its_stars",34),("Plate","holds",35),("Plate","says",36)],[("Plate","name"),("Plate","width"),("Plate","height"),("Plate","limit"),("Plate","bright_at")]⟩
theorem gc0:G.csts[0]? =some (("ORIGIN",.tup [.int (0),.int (0)]):Str×D):=rfl
theorem gc1:G.csts[1]? =some (("TURNS",.tup [.tup [.int (1),.int (0),.int (0),.int (1)],.tup [.int (0),.int (-1),.int (1),.int (0)],.tup [.int (-1),.int (0),.int (0),.int (-1)],.tup [.int (0),.int (1),.int (-1),.int (0)],.tup [.int (-1),.int (0),.int (0),.int (1)],.tup [.int (0),.int (-1),.int (-1),.int (0)],.tup [.int (1),.int (0),.int (0),.int (-1)],.tup [.int (0),.int (1),.int (1),.int (0)]]):Str×D):=rfl
theorem gc2:G.csts[2]? =some (("MIRRORED",.int (4)):Str×D):=rfl
theorem gc3:G.csts[3]? =some (("BRIGHTEST",.int (9)):Str×D):=rfl
theorem gc4:G.csts[4]? =some (("UNSEEN",.tup [.str "unseen",.int (0)]):Str×D):=rfl
theorem gc5:G.csts[5]? =some (("LETTERS",.str "abcdefghijklmnopqrstuvwxyz"):Str×D):=rfl
theorem gc6:G.csts[6]? =some (("LONGEST_NAME",.int (8)):Str×D):=rfl
theorem gc7:G.csts[7]? =some (("LONGEST_SIDE",.int (8)):Str×D):=rfl
theorem gc8:G.csts[8]? =some (("MOST_STARS",.int (8)):Str×D):=rfl
def b0:Ss:=(.cons (.asg (.tp [2,3]) (.var 1)) (.cons (.asg (.tp [4,5,6,7]) (.ix (.gc 1) (.var 0))) (.cons (.ret (.tup (.cons (.bin .add (.bin .mul (.var 4) (.var 2)) (.bin .mul (.var 5) (.var 3))) (.cons (.bin .add (.bin .mul (.var 6) (.var 2)) (.bin .mul (.var 7) (.var 3))) .nil)))) .nil)))
def b1:Ss:=(.cons (.ret (.ite (.cmp .ge (.var 0) (.gc 2)) (.var 0) (.bin .mod (.neg (.var 0)) (.int 4)))) .nil)
def b2:Ss:=(.cons (.asg (.tp [2,3,4]) (.var 0)) (.cons (.asg (.tp [5,6]) (.call 0 (.cons (.var 2) (.cons (.var 1) .nil)))) (.cons (.ret (.tup (.cons (.bin .add (.var 5) (.var 3)) (.cons (.bin .add (.var 6) (.var 4)) .nil)))) .nil)))
def b3:Ss:=(.cons (.asg (.tp [3,4]) (.call 0 (.cons (.var 0) (.cons (.var 1) .nil)))) (.cons (.asg (.tp [5,6]) (.var 2)) (.cons (.ret (.tup (.cons (.var 0) (.cons (.bin .sub (.var 5) (.var 3)) (.cons (.bin .sub (.var 6) (.var 4)) .nil))))) .nil)))
def b4:Ss:=(.cons (.ret (.call 3 (.cons (.call 1 (.cons (.ix (.var 0) (.int 0)) .nil)) (.cons (.call 2 (.cons (.var 0) (.cons (.gc 0) .nil))) (.cons (.gc 0) .nil))))) .nil)
def b5:Ss:=(.cons (.asg (.tp [1,2]) (.var 0)) (.cons (.iff (.cmp .eq (.var 1) (.str "star")) (.cons (.ret (.tup (.cons (.var 2) (.cons (.var 2) .nil)))) .nil) .nil) (.cons (.iff (.cmp .eq (.var 1) (.str "under")) (.cons (.ret (.tup (.cons (.int 0) (.cons (.bin .sub (.var 2) (.int 1)) .nil)))) .nil) .nil) (.cons (.ret (.tup (.cons (.int 0) (.cons (.gc 3) .nil)))) .nil))))
def b6:Ss:=(.cons (.asc 1 (.comp (.nm 0) .sq (.cons (.var 0) .nil) .nil (.call 5 (.cons (.var 0) .nil)) ["saying"] [])) (.cons (.asg (.nm 2) (.mxd true (.comp (.tp [0,1]) .sq (.cons (.var 1) .nil) .nil (.var 0) ["low","high"] []) (.int 0))) (.cons (.asg (.nm 3) (.mxd false (.comp (.tp [0,1]) .sq (.cons (.var 1) .nil) .nil (.var 1) ["low","high"] []) (.gc 3))) (.cons (.ret (.tup (.cons (.var 2) (.cons (.var 3) .nil)))) .nil))))
def b7:Ss:=(.cons (.iff (.and (.cmp .eq (.var 0) (.var 1)) (.cmp .gt (.var 0) (.int 0))) (.cons (.ret (.tup (.cons (.str "star") (.cons (.var 0) .nil)))) .nil) .nil) (.cons (.iff (.cmp .lt (.var 1) (.gc 3)) (.cons (.ret (.tup (.cons (.str "under") (.cons (.bin .add (.var 1) (.int 1)) .nil)))) .nil) .nil) (.cons (.ret (.gc 4)) .nil)))
def b8:Ss:=(.cons (.asg (.tp [1,2]) (.call 6 (.cons (.var 0) .nil))) (.cons (.iff (.cmp .gt (.var 1) (.var 2)) (.cons (.rais 3 "the sayings leave no brightness in common") .nil) .nil) (.cons (.ret (.call 7 (.cons (.var 1) (.cons (.var 2) .nil)))) .nil)))
def b9:Ss:=inmB
def b10:Ss:=iwB
def b11:Ss:=saB
def b12:Ss:=(.cons (.asg (.nm 3) (.bin .add (.bin .mul (.int 7) (.var 1)) (.int 1))) (.cons (.iff (.cmp .lt (.var 1) (.blt .len (.cons (.var 0) .nil))) (.cons (.asg (.nm 3) (.ix (.var 0) (.var 1))) .nil) (.cons (.iff (.cmp .gt (.blt .len (.cons (.var 0) .nil)) (.int 0)) (.cons (.asg (.nm 3) (.bin .add (.bin .add (.bin .mod (.ix (.var 0) (.bin .mod (.var 1) (.blt .len (.cons (.var 0) .nil)))) (.int 999983)) (.bin .mul (.bin .mul (.var 1) (.var 1)) (.int 97))) (.int 1))) .nil) .nil) .nil)) (.cons (.asg (.nm 4) (.bin .add (.bin .add (.bin .mod (.var 3) (.int 999983)) (.bin .mul (.int 31) (.var 1))) (.int 5))) (.cons (.asg (.nm 5) (.lst .nil)) (.cons (.iff (.cmp .ge (.var 3) (.bin .pow (.int 10) (.int 18))) (.cons (.whl (.and (.cmp .gt (.var 3) (.int 0)) (.cmp .lt (.blt .len (.cons (.var 5) .nil)) (.var 2))) (.cons (.ex (.app (.var 5) (.bin .mod (.var 3) (.int 1013)))) (.cons (.asg (.nm 3) (.bin .fdiv (.var 3) (.int 1013))) .nil))) .nil) .nil) (.cons (.whl (.cmp .lt (.blt .len (.cons (.var 5) .nil)) (.var 2)) (.cons (.asg (.nm 6) (.bin .add (.blt .len (.cons (.var 5) .nil)) (.int 1))) (.cons (.asg (.nm 4) (.bin .mod (.bin .add (.bin .add (.bin .mul (.var 4) (.int 48271)) (.bin .mul (.bin .mul (.var 6) (.var 6)) (.int 6133))) (.int 17)) (.int 2147483647))) (.cons (.ex (.app (.var 5) (.bin .mod (.bin .mod (.bin .mul (.bin .mod (.var 4) (.int 65521)) (.bin .add (.bin .mod (.bin .fdiv (.var 4) (.int 65521)) (.int 32749)) (.int 1))) (.int 1000003)) (.int 1013)))) .nil)))) (.cons (.ret (.var 5)) .nil)))))))
def b13:Ss:=(.cons (.iff (.cmp .lt (.bin .mod (.var 0) (.int 5)) (.int 3)) (.cons (.ret (.bin .sub (.bin .mod (.bin .fdiv (.var 0) (.int 5)) (.int 13)) (.int 6))) .nil) .nil) (.cons (.iff (.cmp .eq (.bin .mod (.var 0) (.int 5)) (.int 3)) (.cons (.ret (.bin .sub (.bin .add (.bin .mul (.var 0) (.int 1013)) (.var 1)) (.int 513000))) .nil) .nil) (.cons (.ret (.bin .add (.bin .mul (.bin .sub (.var 1) (.int 506)) (.bin .pow (.int 10) (.int 27))) (.var 0))) .nil)))
def b14:Ss:=(.cons (.ret (.ix (.lst (.cons (.tup (.cons (.var 1) (.cons (.var 2) .nil))) (.cons (.tup (.cons (.neg (.var 2)) (.cons (.var 1) .nil))) (.cons (.tup (.cons (.neg (.var 1)) (.cons (.neg (.var 2)) .nil))) (.cons (.tup (.cons (.var 2) (.cons (.neg (.var 1)) .nil))) (.cons (.tup (.cons (.neg (.var 1)) (.cons (.var 2) .nil))) (.cons (.tup (.cons (.neg (.var 2)) (.cons (.neg (.var 1)) .nil))) (.cons (.tup (.cons (.var 1) (.cons (.neg (.var 2)) .nil))) (.cons (.tup (.cons (.var 2) (.cons (.var 1) .nil))) .nil))))))))) (.var 0))) .nil)
def b15:Ss:=(.cons (.asg (.tp [2,3]) (.call 14 (.cons (.ix (.var 0) (.int 0)) (.cons (.ix (.var 1) (.int 0)) (.cons (.ix (.var 1) (.int 1)) .nil))))) (.cons (.ret (.tup (.cons (.bin .add (.var 2) (.ix (.var 0) (.int 1))) (.cons (.bin .add (.var 3) (.ix (.var 0) (.int 2))) .nil)))) .nil))
def b16:Ss:=(.cons (.asg (.nm 2) (.bin .mod (.ix (.var 0) (.int 0)) (.int 4))) (.cons (.iff (.cmp .gt (.ix (.var 1) (.int 0)) (.int 3)) (.cons (.asg (.nm 2) (.neg (.var 2))) .nil) .nil) (.cons (.asg (.nm 3) (.bin .add (.bin .mod (.bin .add (.var 2) (.ix (.var 1) (.int 0))) (.int 4)) (.bin .mul (.int 4) (.bin .mod (.bin .add (.bin .fdiv (.ix (.var 0) (.int 0)) (.int 4)) (.bin .fdiv (.ix (.var 1) (.int 0)) (.int 4))) (.int 2))))) (.cons (.asg (.tp [4,5]) (.call 14 (.cons (.ix (.var 1) (.int 0)) (.cons (.ix (.var 0) (.int 1)) (.cons (.ix (.var 0) (.int 2)) .nil))))) (.cons (.ret (.tup (.cons (.var 3) (.cons (.bin .add (.var 4) (.ix (.var 1) (.int 1))) (.cons (.bin .add (.var 5) (.ix (.var 1) (.int 2))) .nil))))) .nil)))))
def b17:Ss:=(.cons (.asg (.nm 1) (.ix (.lst (.cons (.int 0) (.cons (.int 3) (.cons (.int 2) (.cons (.int 1) (.cons (.int 4) (.cons (.int 5) (.cons (.int 6) (.cons (.int 7) .nil))))))))) (.ix (.var 0) (.int 0)))) (.cons (.asg (.tp [2,3]) (.call 14 (.cons (.var 1) (.cons (.ix (.var 0) (.int 1)) (.cons (.ix (.var 0) (.int 2)) .nil))))) (.cons (.ret (.tup (.cons (.var 1) (.cons (.neg (.var 2)) (.cons (.neg (.var 3)) .nil))))) .nil)))
def b18:Ss:=(.cons (.ret (.tup (.cons (.bin .mod (.ix (.var 0) (.var 1)) (.int 8)) (.cons (.call 13 (.cons (.ix (.var 0) (.bin .add (.var 1) (.int 1))) (.cons (.ix (.var 0) (.bin .add (.var 1) (.int 2))) .nil))) (.cons (.call 13 (.cons (.ix (.var 0) (.bin .add (.var 1) (.int 3))) (.cons (.ix (.var 0) (.bin .add (.var 1) (.int 4))) .nil))) .nil))))) .nil)
def b19:Ss:=(.cons (.iff (.blt .isinst (.cons (.var 1) (.cons (.tup (.cons (.ty .tuple) (.cons (.ty .list) .nil))) .nil))) (.cons (.iff (.or (.cmp .ne (.blt .isinst (.cons (.var 1) (.cons (.ty .tuple) .nil))) (.blt .isinst (.cons (.var 0) (.cons (.ty .tuple) .nil)))) (.cmp .ne (.blt .isinst (.cons (.var 1) (.cons (.ty .list) .nil))) (.blt .isinst (.cons (.var 0) (.cons (.ty .list) .nil))))) (.cons (.ret (.bl false)) .nil) .nil) (.cons (.iff (.cmp .ne (.blt .len (.cons (.var 0) .nil)) (.blt .len (.cons (.var 1) .nil))) (.cons (.ret (.bl false)) .nil) .nil) (.cons (.forr (.nm 2) (.r1 (.blt .len (.cons (.var 1) .nil))) (.cons (.iff (.not (.call 19 (.cons (.ix (.var 0) (.var 2)) (.cons (.ix (.var 1) (.var 2)) .nil)))) (.cons (.ret (.bl false)) .nil) .nil) .nil)) (.cons (.ret (.bl true)) .nil)))) .nil) (.cons (.iff (.cmp .is (.var 1) .non) (.cons (.ret (.cmp .is (.var 0) .non)) .nil) .nil) (.cons (.iff (.or (.blt .isinst (.cons (.var 1) (.cons (.ty .bool) .nil))) (.blt .isinst (.cons (.var 0) (.cons (.ty .bool) .nil)))) (.cons (.ret (.and (.blt .isinst (.cons (.var 1) (.cons (.ty .bool) .nil))) (.and (.blt .isinst (.cons (.var 0) (.cons (.ty .bool) .nil))) (.cmp .eq (.var 0) (.var 1))))) .nil) .nil) (.cons (.iff (.blt .isinst (.cons (.var 1) (.cons (.ty .int) .nil))) (.cons (.ret (.and (.blt .isinst (.cons (.var 0) (.cons (.ty .int) .nil))) (.cmp .eq (.var 0) (.var 1)))) .nil) .nil) (.cons (.ret (.and (.blt .isinst (.cons (.var 0) (.cons (.ty .str) .nil))) (.cmp .eq (.var 0) (.var 1)))) .nil)))))
def b20:Ss:=(.cons (.iff (.and (.cmp .eq (.ix (.var 0) (.int 0)) (.str "star")) (.cmp .eq (.ix (.var 1) (.int 0)) (.str "star"))) (.cons (.ret (.cmp .eq (.ix (.var 0) (.int 1)) (.ix (.var 1) (.int 1)))) .nil) .nil) (.cons (.iff (.and (.cmp .eq (.ix (.var 0) (.int 0)) (.str "star")) (.cmp .eq (.ix (.var 1) (.int 0)) (.str "under"))) (.cons (.ret (.cmp .lt (.ix (.var 0) (.int 1)) (.ix (.var 1) (.int 1)))) .nil) .nil) (.cons (.iff (.and (.cmp .eq (.ix (.var 0) (.int 0)) (.str "under")) (.cmp .eq (.ix (.var 1) (.int 0)) (.str "star"))) (.cons (.ret (.cmp .lt (.ix (.var 1) (.int 1)) (.ix (.var 0) (.int 1)))) .nil) .nil) (.cons (.ret (.bl true)) .nil))))
def b21:Ss:=(.cons (.forr (.nm 1) (.sq (.var 0)) (.cons (.forr (.nm 2) (.sq (.var 0)) (.cons (.iff (.not (.call 20 (.cons (.var 1) (.cons (.var 2) .nil)))) (.cons (.ret (.bl false)) .nil) .nil) .nil)) .nil)) (.cons (.ret (.bl true)) .nil))
def b22:Ss:=(.cons (.asg (.nm 1) (.int 10)) (.cons (.forr (.tp [2,3]) (.sq (.var 0)) (.cons (.iff (.cmp .eq (.var 2) (.str "star")) (.cons (.ret (.tup (.cons (.var 2) (.cons (.var 3) .nil)))) .nil) .nil) (.cons (.iff (.cmp .eq (.var 2) (.str "under")) (.cons (.asg (.nm 1) (.blt .min (.cons (.var 1) (.cons (.var 3) .nil)))) .nil) .nil) .nil))) (.cons (.iff (.cmp .lt (.var 1) (.int 10)) (.cons (.ret (.tup (.cons (.str "under") (.cons (.var 1) .nil)))) .nil) .nil) (.cons (.ret (.tup (.cons (.str "unseen") (.cons (.int 0) .nil)))) .nil))))
def b23:Ss:=lqB
def b24:Ss:=hvB
def b25:Ss:=nqB
def b26:Ss:=paB
def b27:Ss:=hoQ
def b28:Ss:=pqB
def b29:Ss:=ptB
def b30:Ss:=sgB
def b31:Ss:=kpB
def b32:Ss:=l15
def b33:Ss:=nitB
def b34:Ss:=shB
def b35:Ss:=hoB
def b36:Ss:=syB
def T:Nat->Option Fc
 |0=>some ⟨2,8,b0⟩
 |1=>some ⟨1,1,b1⟩
 |2=>some ⟨2,7,b2⟩
 |3=>some ⟨3,7,b3⟩
 |4=>some ⟨1,1,b4⟩
 |5=>some ⟨1,3,b5⟩
 |6=>some ⟨1,4,b6⟩
 |7=>some ⟨2,2,b7⟩
 |8=>some ⟨1,3,b8⟩
 |9=>some ⟨1,1,b9⟩
 |10=>some ⟨3,4,b10⟩
 |11=>some ⟨2,2,b11⟩
 |12=>some ⟨3,7,b12⟩
 |13=>some ⟨2,2,b13⟩
 |14=>some ⟨3,3,b14⟩
 |15=>some ⟨2,4,b15⟩
 |16=>some ⟨2,6,b16⟩
 |17=>some ⟨1,4,b17⟩
 |18=>some ⟨2,2,b18⟩
 |19=>some ⟨2,3,b19⟩
 |20=>some ⟨2,2,b20⟩
 |21=>some ⟨1,3,b21⟩
 |22=>some ⟨1,4,b22⟩
 |23=>some ⟨2,5,b23⟩
 |24=>some ⟨1,7,b24⟩
 |25=>some ⟨1,7,b25⟩
 |26=>some ⟨4,14,b26⟩
 |27=>some ⟨1,1,b27⟩
 |28=>some ⟨5,9,b28⟩
 |29=>some ⟨1,1,b29⟩
 |30=>some ⟨2,2,b30⟩
 |31=>some ⟨2,2,b31⟩
 |32=>some ⟨1,12,b32⟩
 |33=>some ⟨6,6,b33⟩
 |34=>some ⟨1,1,b34⟩
 |35=>some ⟨2,4,b35⟩
 |36=>some ⟨2,2,b36⟩
 |_=>none
theorem sc0:FnScope ["turn","place","x","y","x_to_x","y_to_x","x_to_y","y_to_y"] ["turn","place"] (defScope (top 4)):=by trivial
theorem ck0:SSs ["turn","place","x","y","x_to_x","y_to_x","x_to_y","y_to_y"] (defScope (top 4)) G b0 (defBody (top 4)):=(dc (jzG (by trivial) rfl (λ_=>rfl) vr) (dc (jzG (by trivial) rfl (λ_=>rfl) (dE_ix (λ_ _=>rfl) (dE_gc gc1 (by trivial)) vr)) (dc (jzi (jzm (ac rfl (jzb (jzb vr vr) (jzb vr vr)) (ac rfl (jzb (jzb vr vr) (jzb vr vr)) jzc)))) jzd)))
theorem sc1:FnScope ["turn"] ["turn"] (defScope (top 5)):=by trivial
theorem ck1:SSs ["turn"] (defScope (top 5)) G b1 (defBody (top 5)):=(dc (jzi (dE_ite (jzf rfl vr (dE_gc gc2 (by trivial))) vr (jzb (jzW vr) jza))) jzd)
theorem sc2:FnScope ["motion","place","turn","right","up","x","y"] ["motion","place"] (defScope (top 6)):=by trivial
theorem ck2:SSs ["motion","place","turn","right","up","x","y"] (defScope (top 6)) G b2 (defBody (top 6)):=(dc (jzG (by trivial) rfl (λ_=>rfl) vr) (dc (jzG (by trivial) rfl (λ_=>rfl) (jzj rfl (by trivial) (ac rfl vr (ac rfl vr jzc)))) (dc (jzi (jzm (ac rfl (jzb vr vr) (ac rfl (jzb vr vr) jzc)))) jzd)))
theorem sc3:FnScope ["turn","place","goal","x","y","goal_x","goal_y"] ["turn","place","goal"] (defScope (top 7)):=by trivial
theorem ck3:SSs ["turn","place","goal","x","y","goal_x","goal_y"] (defScope (top 7)) G b3 (defBody (top 7)):=(dc (jzG (by trivial) rfl (λ_=>rfl) (jzj rfl (by trivial) (ac rfl vr (ac rfl vr jzc)))) (dc (jzG (by trivial) rfl (λ_=>rfl) vr) (dc (jzi (jzm (ac rfl vr (ac rfl (jzb vr vr) (ac rfl (jzb vr vr) jzc))))) jzd)))
theorem sc4:FnScope ["motion"] ["motion"] (defScope (top 8)):=by trivial
theorem ck4:SSs ["motion"] (defScope (top 8)) G b4 (defBody (top 8)):=(dc (jzi (jzj rfl (by trivial) (ac rfl (jzj rfl (by trivial) (ac rfl (dE_ix (λ_ _=>rfl) vr jza) jzc)) (ac rfl (jzj rfl (by trivial) (ac rfl vr (ac rfl (dE_gc gc0 (by trivial)) jzc))) (ac rfl (dE_gc gc0 (by trivial)) jzc))))) jzd)
theorem sc5:FnScope ["saying","word","number"] ["saying"] (defScope (top 17)):=by trivial
theorem ck5:SSs ["saying","word","number"] (defScope (top 17)) G b5 (defBody (top 17)):=(dc (jzG (by trivial) rfl (λ_=>rfl) vr) (dc (jzn (jzf rfl vr jzE) (dc (jzi (jzm (ac rfl vr (ac rfl vr jzc)))) jzd) jzd) (dc (jzn (jzf rfl vr jzE) (dc (jzi (jzm (ac rfl jza (ac rfl (jzb vr jza) jzc)))) jzd) jzd) (dc (jzi (jzm (ac rfl jza (ac rfl (dE_gc gc3 (by trivial)) jzc)))) jzd))))
theorem sc6:FnScope ["sayings","spans","least","greatest"] ["sayings"] (defScope (top 18)):=by trivial
theorem ck6:SSs ["sayings","spans","least","greatest"] (defScope (top 18)) G b6 (defBody (top 18)):=(dc (dS_asc rfl (by trivial) (by trivial) (by trivial) (jzS (by trivial)) rfl (by trivial) (it_sq vr) jzU (jzj rfl (by trivial) (ac rfl vr jzc))) (dc (jzh rfl (by trivial) rfl (dE_mxd (by trivial) rfl (jzJ (jzS (by trivial)) rfl (by trivial) (it_sq vr) jzU vr) jza)) (dc (jzh rfl (by trivial) rfl (dE_mxd (by trivial) rfl (jzJ (jzS (by trivial)) rfl (by trivial) (it_sq vr) jzU vr) (dE_gc gc3 (by trivial)))) (dc (jzi (jzm (ac rfl vr (ac rfl vr jzc)))) jzd))))
theorem sc7:FnScope ["least","greatest"] ["least","greatest"] (defScope (top 19)):=by trivial
theorem ck7:SSs ["least","greatest"] (defScope (top 19)) G b7 (defBody (top 19)):=(dc (jzn (jzo (jzf rfl vr vr) (jzf rfl vr jza)) (dc (jzi (jzm (ac rfl jzE (ac rfl vr jzc)))) jzd) jzd) (dc (jzn (jzf rfl vr (dE_gc gc3 (by trivial))) (dc (jzi (jzm (ac rfl jzE (ac rfl (jzb vr jza) jzc)))) jzd) jzd) (dc (jzi (dE_gc gc4 (by trivial))) jzd)))
theorem sc8:FnScope ["sayings","least","greatest"] ["sayings"] (defScope (top 20)):=by trivial
theorem ck8:SSs ["sayings","least","greatest"] (defScope (top 20)) G b8 (defBody (top 20)):=(dc (jzG (by trivial) rfl (λ_=>rfl) (jzj rfl (by trivial) (ac rfl vr jzc))) (dc (jzn (jzf rfl vr vr) (dc (qzp rfl (by trivial)) jzd) jzd) (dc (jzi (jzj rfl (by trivial) (ac rfl vr (ac rfl vr jzc)))) jzd)))
theorem sc9:FnScope ["text"] ["text"] (defScope (top 26)):=by trivial
theorem ck9:SSs ["text"] (defScope (top 26)) G b9 (defBody (top 26)):=(dc (jzi (jzo (qzS (by with_unfolding_all rfl) jza (jzp (by trivial) (ac rfl vr jzc)) (dE_gc gc6 (by trivial))) (jzp (by trivial) (ac rfl (jzJ (jzS (by trivial)) rfl (by trivial) (it_st vr) jzU (jzf rfl vr (dE_gc gc5 (by trivial)))) jzc)))) jzd)
theorem sc10:FnScope ["width","height","limit","sides_fit"] ["width","height","limit"] (defScope (top 27)):=by trivial
theorem ck10:SSs ["width","height","limit","sides_fit"] (defScope (top 27)) G b10 (defBody (top 27)):=(dc (jzh rfl (by trivial) rfl (jzo (qzS (by with_unfolding_all rfl) jza vr (dE_gc gc7 (by trivial))) (qzS (by with_unfolding_all rfl) jza vr (dE_gc gc7 (by trivial))))) (dc (jzi (jzo vr (qzS (by with_unfolding_all rfl) jza vr (dE_gc gc3 (by trivial))))) jzd))
theorem sc11:FnScope ["laid","place"] ["laid","place"] (defScope (top 30)):=by trivial
theorem ck11:SSs ["laid","place"] (defScope (top 30)) G b11 (defBody (top 30)):=(dc (dS_retX rfl (by trivial) (ac rfl (jzJ (jzS (by trivial)) rfl (by trivial) (it_sq vr) jzU (xzp (by trivial) (λ_=>⟨_,rfl⟩) vr (ac rfl (jzj rfl (by trivial) (ac rfl (jzj rfl (by trivial) (ac rfl vr jzc)) (ac rfl vr jzc))) jzc))) jzc)) jzd)
theorem sc12:FnScope ["_law_script","_law_at","_law_many","_law_cell","_law_seed","_law_row","_law_mark"] ["_law_script","_law_at","_law_many"] (defScope (top 32)):=by trivial
theorem ck12:SSs ["_law_script","_law_at","_law_many","_law_cell","_law_seed","_law_row","_law_mark"] (defScope (top 32)) G b12 (defBody (top 32)):=(dc (jzh rfl (by trivial) rfl (jzb (jzb jza vr) jza)) (dc (jzn (jzf rfl vr (jzp (by trivial) (ac rfl vr jzc))) (dc (jzh rfl (by trivial) rfl (dE_ix (λ_ _=>rfl) vr vr)) jzd) (dc (jzn (jzf rfl (jzp (by trivial) (ac rfl vr jzc)) jza) (dc (jzh rfl (by trivial) rfl (jzb (jzb (jzb (dE_ix (λ_ _=>rfl) vr (jzb vr (jzp (by trivial) (ac rfl vr jzc)))) jza) (jzb (jzb vr vr) jza)) jza)) jzd) jzd) jzd)) (dc (jzh rfl (by trivial) rfl (jzb (jzb (jzb vr jza) (jzb jza vr)) jza)) (dc (jzh rfl (by trivial) rfl (jzR jzc)) (dc (jzn (jzf rfl vr (jzb jza jza)) (dc (dS_whl (jzo (jzf rfl vr jza) (jzf rfl (jzp (by trivial) (ac rfl vr jzc)) vr)) (dc (dS_ex rfl (qzT rfl rfl vr (jzb vr jza))) (dc (jzh rfl (by trivial) rfl (jzb vr jza)) jzd))) jzd) jzd) (dc (dS_whl (jzf rfl (jzp (by trivial) (ac rfl vr jzc)) vr) (dc (jzh rfl (by trivial) rfl (jzb (jzp (by trivial) (ac rfl vr jzc)) jza)) (dc (jzh rfl (by trivial) rfl (jzb (jzb (jzb (jzb vr jza) (jzb (jzb vr vr) jza)) jza) jza)) (dc (dS_ex rfl (qzT rfl rfl vr (jzb (jzb (jzb (jzb vr jza) (jzb (jzb (jzb vr jza) jza) jza)) jza) jza))) jzd)))) (dc (jzi vr) jzd)))))))
theorem sc13:FnScope ["_law_one","_law_two"] ["_law_one","_law_two"] (defScope (top 33)):=by trivial
theorem ck13:SSs ["_law_one","_law_two"] (defScope (top 33)) G b13 (defBody (top 33)):=(dc (jzn (jzf rfl (jzb vr jza) jza) (dc (jzi (jzb (jzb (jzb vr jza) jza) jza)) jzd) jzd) (dc (jzn (jzf rfl (jzb vr jza) jza) (dc (jzi (jzb (jzb (jzb vr jza) vr) jza)) jzd) jzd) (dc (jzi (jzb (jzb (jzb vr jza) (jzb jza jza)) vr)) jzd)))
theorem sc14:FnScope ["_law_turn","_law_x","_law_y"] ["_law_turn","_law_x","_law_y"] (defScope (top 34)):=by trivial
theorem ck14:SSs ["_law_turn","_law_x","_law_y"] (defScope (top 34)) G b14 (defBody (top 34)):=(dc (jzi (dE_ix (λ_ _=>rfl) (jzR (ac rfl (jzm (ac rfl vr (ac rfl vr jzc))) (ac rfl (jzm (ac rfl (jzW vr) (ac rfl vr jzc))) (ac rfl (jzm (ac rfl (jzW vr) (ac rfl (jzW vr) jzc))) (ac rfl (jzm (ac rfl vr (ac rfl (jzW vr) jzc))) (ac rfl (jzm (ac rfl (jzW vr) (ac rfl vr jzc))) (ac rfl (jzm (ac rfl (jzW vr) (ac rfl (jzW vr) jzc))) (ac rfl (jzm (ac rfl vr (ac rfl (jzW vr) jzc))) (ac rfl (jzm (ac rfl vr (ac rfl vr jzc))) jzc))))))))) vr)) jzd)
theorem sc15:FnScope ["_law_motion_here","_law_place","_law_x","_law_y"] ["_law_motion_here","_law_place"] (defScope (top 35)):=by trivial
theorem ck15:SSs ["_law_motion_here","_law_place","_law_x","_law_y"] (defScope (top 35)) G b15 (defBody (top 35)):=(dc (jzG (by trivial) rfl (λ_=>rfl) (jzj rfl (by trivial) (ac rfl (dE_ix (λ_ _=>rfl) vr jza) (ac rfl (dE_ix (λ_ _=>rfl) vr jza) (ac rfl (dE_ix (λ_ _=>rfl) vr jza) jzc))))) (dc (jzi (jzm (ac rfl (jzb vr (dE_ix (λ_ _=>rfl) vr jza)) (ac rfl (jzb vr (dE_ix (λ_ _=>rfl) vr jza)) jzc)))) jzd))
theorem sc16:FnScope ["_law_first","_law_second","_law_quarters","_law_turn","_law_x","_law_y"] ["_law_first","_law_second"] (defScope (top 36)):=by trivial
theorem ck16:SSs ["_law_first","_law_second","_law_quarters","_law_turn","_law_x","_law_y"] (defScope (top 36)) G b16 (defBody (top 36)):=(dc (jzh rfl (by trivial) rfl (jzb (dE_ix (λ_ _=>rfl) vr jza) jza)) (dc (jzn (jzf rfl (dE_ix (λ_ _=>rfl) vr jza) jza) (dc (jzh rfl (by trivial) rfl (jzW vr)) jzd) jzd) (dc (jzh rfl (by trivial) rfl (jzb (jzb (jzb vr (dE_ix (λ_ _=>rfl) vr jza)) jza) (jzb jza (jzb (jzb (jzb (dE_ix (λ_ _=>rfl) vr jza) jza) (jzb (dE_ix (λ_ _=>rfl) vr jza) jza)) jza)))) (dc (jzG (by trivial) rfl (λ_=>rfl) (jzj rfl (by trivial) (ac rfl (dE_ix (λ_ _=>rfl) vr jza) (ac rfl (dE_ix (λ_ _=>rfl) vr jza) (ac rfl (dE_ix (λ_ _=>rfl) vr jza) jzc))))) (dc (jzi (jzm (ac rfl vr (ac rfl (jzb vr (dE_ix (λ_ _=>rfl) vr jza)) (ac rfl (jzb vr (dE_ix (λ_ _=>rfl) vr jza)) jzc))))) jzd)))))
theorem sc17:FnScope ["_law_motion_here","_law_turn","_law_x","_law_y"] ["_law_motion_here"] (defScope (top 37)):=by trivial
theorem ck17:SSs ["_law_motion_here","_law_turn","_law_x","_law_y"] (defScope (top 37)) G b17 (defBody (top 37)):=(dc (jzh rfl (by trivial) rfl (dE_ix (λ_ _=>rfl) (jzR (ac rfl jza (ac rfl jza (ac rfl jza (ac rfl jza (ac rfl jza (ac rfl jza (ac rfl jza (ac rfl jza jzc))))))))) (dE_ix (λ_ _=>rfl) vr jza))) (dc (jzG (by trivial) rfl (λ_=>rfl) (jzj rfl (by trivial) (ac rfl vr (ac rfl (dE_ix (λ_ _=>rfl) vr jza) (ac rfl (dE_ix (λ_ _=>rfl) vr jza) jzc))))) (dc (jzi (jzm (ac rfl vr (ac rfl (jzW vr) (ac rfl (jzW vr) jzc))))) jzd)))
theorem sc18:FnScope ["_law_d","_law_at"] ["_law_d","_law_at"] (defScope (top 38)):=by trivial
theorem ck18:SSs ["_law_d","_law_at"] (defScope (top 38)) G b18 (defBody (top 38)):=(dc (jzi (jzm (ac rfl (jzb (dE_ix (λ_ _=>rfl) vr vr) jza) (ac rfl (jzj rfl (by trivial) (ac rfl (dE_ix (λ_ _=>rfl) vr (jzb vr jza)) (ac rfl (dE_ix (λ_ _=>rfl) vr (jzb vr jza)) jzc))) (ac rfl (jzj rfl (by trivial) (ac rfl (dE_ix (λ_ _=>rfl) vr (jzb vr jza)) (ac rfl (dE_ix (λ_ _=>rfl) vr (jzb vr jza)) jzc))) jzc))))) jzd)
theorem sc19:FnScope ["_law_found","_law_due","_law_k"] ["_law_found","_law_due"] (defScope (top 39)):=by trivial
theorem ck19:SSs ["_law_found","_law_due","_law_k"] (defScope (top 39)) G b19 (defBody (top 39)):=(dc (jzn (jzp (by trivial) (ac rfl vr (ac rfl (jzm (ac rfl (dE_ty (by trivial)) (ac rfl (dE_ty (by trivial)) jzc))) jzc))) (dc (jzn (dE_or (jzf rfl (jzp (by trivial) (ac rfl vr (ac rfl (dE_ty (by trivial)) jzc))) (jzp (by trivial) (ac rfl vr (ac rfl (dE_ty (by trivial)) jzc)))) (jzf rfl (jzp (by trivial) (ac rfl vr (ac rfl (dE_ty (by trivial)) jzc))) (jzp (by trivial) (ac rfl vr (ac rfl (dE_ty (by trivial)) jzc))))) (dc (jzi dE_bl) jzd) jzd) (dc (jzn (jzf rfl (jzp (by trivial) (ac rfl vr jzc)) (jzp (by trivial) (ac rfl vr jzc))) (dc (jzi dE_bl) jzd) jzd) (dc (wzx (by trivial) (by trivial) rfl (jzp (by trivial) (ac rfl vr jzc)) (dc (jzn (qzi (jzj rfl (by trivial) (ac rfl (dE_ix (λ_ _=>rfl) vr vr) (ac rfl (dE_ix (λ_ _=>rfl) vr vr) jzc)))) (dc (jzi dE_bl) jzd) jzd) jzd)) (dc (jzi dE_bl) jzd)))) jzd) (dc (jzn (jzf rfl vr xzo) (dc (jzi (jzf rfl vr xzo)) jzd) jzd) (dc (jzn (dE_or (jzp (by trivial) (ac rfl vr (ac rfl (dE_ty (by trivial)) jzc))) (jzp (by trivial) (ac rfl vr (ac rfl (dE_ty (by trivial)) jzc)))) (dc (jzi (by first |exact jzK (jzp (by trivial) (ac rfl vr (ac rfl (dE_ty (by trivial)) jzc))) (jzo (jzp (by trivial) (ac rfl vr (ac rfl (dE_ty (by trivial)) jzc))) (jzf rfl vr vr))|exact jzo (jzp (by trivial) (ac rfl vr (ac rfl (dE_ty (by trivial)) jzc))) (jzo (jzp (by trivial) (ac rfl vr (ac rfl (dE_ty (by trivial)) jzc))) (jzf rfl vr vr)))) jzd) jzd) (dc (jzn (jzp (by trivial) (ac rfl vr (ac rfl (dE_ty (by trivial)) jzc))) (dc (jzi (jzo (jzp (by trivial) (ac rfl vr (ac rfl (dE_ty (by trivial)) jzc))) (jzf rfl vr vr))) jzd) jzd) (dc (jzi (jzo (jzp (by trivial) (ac rfl vr (ac rfl (dE_ty (by trivial)) jzc))) (jzf rfl vr vr))) jzd)))))
theorem sc20:FnScope ["_law_one","_law_other"] ["_law_one","_law_other"] (defScope (top 40)):=by trivial
theorem ck20:SSs ["_law_one","_law_other"] (defScope (top 40)) G b20 (defBody (top 40)):=(dc (jzn (jzo (jzf rfl (dE_ix (λ_ _=>rfl) vr jza) jzE) (jzf rfl (dE_ix (λ_ _=>rfl) vr jza) jzE)) (dc (jzi (jzf rfl (dE_ix (λ_ _=>rfl) vr jza) (dE_ix (λ_ _=>rfl) vr jza))) jzd) jzd) (dc (jzn (jzo (jzf rfl (dE_ix (λ_ _=>rfl) vr jza) jzE) (jzf rfl (dE_ix (λ_ _=>rfl) vr jza) jzE)) (dc (jzi (jzf rfl (dE_ix (λ_ _=>rfl) vr jza) (dE_ix (λ_ _=>rfl) vr jza))) jzd) jzd) (dc (jzn (jzo (jzf rfl (dE_ix (λ_ _=>rfl) vr jza) jzE) (jzf rfl (dE_ix (λ_ _=>rfl) vr jza) jzE)) (dc (jzi (jzf rfl (dE_ix (λ_ _=>rfl) vr jza) (dE_ix (λ_ _=>rfl) vr jza))) jzd) jzd) (dc (jzi dE_bl) jzd))))
theorem sc21:FnScope ["_law_sayings_here","_law_one","_law_other"] ["_law_sayings_here"] (defScope (top 41)):=by trivial
theorem ck21:SSs ["_law_sayings_here","_law_one","_law_other"] (defScope (top 41)) G b21 (defBody (top 41)):=(dc (qzR (by trivial) (λ_ _=>rfl) vr (dc (qzR (by trivial) (λ_ _=>rfl) vr (dc (jzn (qzi (jzj rfl (by trivial) (ac rfl vr (ac rfl vr jzc)))) (dc (jzi dE_bl) jzd) jzd) jzd)) jzd)) (dc (jzi dE_bl) jzd))
theorem sc22:FnScope ["_law_sayings_here","_law_least","_law_word","_law_number"] ["_law_sayings_here"] (defScope (top 42)):=by trivial
theorem ck22:SSs ["_law_sayings_here","_law_least","_law_word","_law_number"] (defScope (top 42)) G b22 (defBody (top 42)):=(dc (jzh rfl (by trivial) rfl jza) (dc (qzR (by trivial) (λ_ _=>rfl) vr (dc (jzn (jzf rfl vr jzE) (dc (jzi (jzm (ac rfl vr (ac rfl vr jzc)))) jzd) jzd) (dc (jzn (jzf rfl vr jzE) (dc (jzh rfl (by trivial) rfl (jzp (by trivial) (ac rfl vr (ac rfl vr jzc)))) jzd) jzd) jzd))) (dc (jzn (jzf rfl vr jza) (dc (jzi (jzm (ac rfl jzE (ac rfl vr jzc)))) jzd) jzd) (dc (jzi (jzm (ac rfl jzE (ac rfl jza jzc)))) jzd))))
theorem sc23:FnScope ["_law_pane_here","_law_place","_law_x","_law_y","_law_bright"] ["_law_pane_here","_law_place"] (defScope (top 43)):=by trivial
theorem ck23:SSs ["_law_pane_here","_law_place","_law_x","_law_y","_law_bright"] (defScope (top 43)) G b23 (defBody (top 43)):=(dc (jzn (qzi (by first |exact jzK (jzf rfl jza (dE_ix (λ_ _=>rfl) vr jza)) (by first |exact jzK (jzf rfl (dE_ix (λ_ _=>rfl) vr jza) (dE_ix (λ_ _=>rfl) vr jza)) (jzo (jzf rfl jza (dE_ix (λ_ _=>rfl) vr jza)) (jzf rfl (dE_ix (λ_ _=>rfl) vr jza) (dE_ix (λ_ _=>rfl) vr jza)))|exact jzo (jzf rfl (dE_ix (λ_ _=>rfl) vr jza) (dE_ix (λ_ _=>rfl) vr jza)) (jzo (jzf rfl jza (dE_ix (λ_ _=>rfl) vr jza)) (jzf rfl (dE_ix (λ_ _=>rfl) vr jza) (dE_ix (λ_ _=>rfl) vr jza))))|exact jzo (jzf rfl jza (dE_ix (λ_ _=>rfl) vr jza)) (by first |exact jzK (jzf rfl (dE_ix (λ_ _=>rfl) vr jza) (dE_ix (λ_ _=>rfl) vr jza)) (jzo (jzf rfl jza (dE_ix (λ_ _=>rfl) vr jza)) (jzf rfl (dE_ix (λ_ _=>rfl) vr jza) (dE_ix (λ_ _=>rfl) vr jza)))|exact jzo (jzf rfl (dE_ix (λ_ _=>rfl) vr jza) (dE_ix (λ_ _=>rfl) vr jza)) (jzo (jzf rfl jza (dE_ix (λ_ _=>rfl) vr jza)) (jzf rfl (dE_ix (λ_ _=>rfl) vr jza) (dE_ix (λ_ _=>rfl) vr jza)))))) (dc (jzi (jzm (ac rfl jzE (ac rfl jza jzc)))) jzd) jzd) (dc (qzR (by trivial) (λ_ _=>rfl) (dE_ix (λ_ _=>rfl) vr jza) (dc (jzn (jzo (jzf rfl vr (dE_ix (λ_ _=>rfl) vr jza)) (jzf rfl vr (dE_ix (λ_ _=>rfl) vr jza))) (dc (jzi (jzm (ac rfl jzE (ac rfl vr jzc)))) jzd) jzd) jzd)) (dc (jzi (jzm (ac rfl jzE (ac rfl (dE_ix (λ_ _=>rfl) vr jza) jzc)))) jzd)))
theorem sc24:FnScope ["_law_script","_law_d","_law_found","_law_k","_law_x","_law_y","_law_bright"] ["_law_script"] (defScope (top 44)):=by trivial
theorem ck24:SSs ["_law_script","_law_d","_law_found","_law_k","_law_x","_law_y","_law_bright"] (defScope (top 44)) G b24 (defBody (top 44)):=(dc (jzh rfl (by trivial) rfl (jzj rfl (by trivial) (ac rfl vr (ac rfl jza (ac rfl jza jzc))))) (dc (jzh rfl (by trivial) rfl (jzR jzc)) (dc (wzx (by trivial) (by trivial) rfl (jzb (dE_ix (λ_ _=>rfl) vr jza) jza) (dc (jzh rfl (by trivial) rfl (jzb (jzb (dE_ix (λ_ _=>rfl) vr (jzb (jzb jza vr) jza)) jza) jza)) (dc (jzh rfl (by trivial) rfl (jzb (jzb (dE_ix (λ_ _=>rfl) vr (jzb (jzb jza vr) jza)) jza) jza)) (dc (jzh rfl (by trivial) rfl (dE_ix (λ_ _=>rfl) (jzR (ac rfl (jzb jza (jzb (dE_ix (λ_ _=>rfl) vr (jzb (jzb jza vr) jza)) jza)) (ac rfl (jzb jza (jzb (dE_ix (λ_ _=>rfl) vr (jzb (jzb jza vr) jza)) jza)) jzc))) (jzp (by trivial) (ac rfl (jzf rfl (jzb (jzb (dE_ix (λ_ _=>rfl) vr jza) jza) jza) jza) jzc)))) (dc (jzn (jzf rfl (jzm (ac rfl vr (ac rfl vr jzc))) (jzJ (jzS (by trivial)) rfl (by trivial) (it_sq vr) jzU (jzm (ac rfl (dE_ix (λ_ _=>rfl) vr jza) (ac rfl (dE_ix (λ_ _=>rfl) vr jza) jzc))))) (dc (dS_ex rfl (qzT rfl rfl vr (jzm (ac rfl vr (ac rfl vr (ac rfl vr jzc)))))) jzd) jzd) jzd))))) (dc (jzi vr) jzd))))
theorem sc25:FnScope ["_law_d","_law_letters","_law_names_here","_law_k","_law_own","_law_size","_law_rest"] ["_law_d"] (defScope (top 45)):=by trivial
theorem ck25:SSs ["_law_d","_law_letters","_law_names_here","_law_k","_law_own","_law_size","_law_rest"] (defScope (top 45)) G b25 (defBody (top 45)):=(dc (jzh rfl (by trivial) rfl jzE) (dc (jzh rfl (by trivial) rfl (jzR jzc)) (dc (wzx (by trivial) (by trivial) rfl (dE_ix (λ_ _=>rfl) (jzR (ac rfl jza (ac rfl jza (ac rfl jza (ac rfl jza (ac rfl jza (ac rfl jza (ac rfl jza (ac rfl jza (ac rfl jza (ac rfl jza jzc))))))))))) (jzb (dE_ix (λ_ _=>rfl) vr jza) jza)) (dc (jzh rfl (by trivial) rfl (dE_ix (λ_ _=>rfl) vr (jzb (jzb (jzb vr (dE_ix (λ_ _=>rfl) (jzR (ac rfl jza (ac rfl jza (ac rfl jza (ac rfl jza (ac rfl jza (ac rfl jza jzc))))))) (jzb (dE_ix (λ_ _=>rfl) vr jza) jza))) (dE_ix (λ_ _=>rfl) vr jza)) jza))) (dc (jzh rfl (by trivial) rfl (jzb (jzb (dE_ix (λ_ _=>rfl) vr jza) jza) jza)) (dc (jzn (jzf rfl (jzb (dE_ix (λ_ _=>rfl) vr jza) jza) jza) (dc (jzh rfl (by trivial) rfl (jzb (dE_ix (λ_ _=>rfl) vr (jzb jza vr)) jza)) jzd) jzd) (dc (jzh rfl (by trivial) rfl (dE_join rfl rfl (jzJ (jzS (by trivial)) rfl (by trivial) (it_r1 (by trivial) rfl vr) jzU (dE_ix (λ_ _=>rfl) vr (jzb (jzb (dE_ix (λ_ _=>rfl) vr jza) (jzb vr (dE_ix (λ_ _=>rfl) vr jza))) jza))))) (dc (jzn (jzf rfl (jzb (jzb (dE_ix (λ_ _=>rfl) vr jza) jza) jza) jza) (dc (dS_ex rfl (qzT rfl rfl vr (jzb vr vr))) jzd) (dc (dS_ex rfl (qzT rfl rfl vr (jzb vr vr))) jzd)) jzd)))))) (dc (jzi vr) jzd))))
theorem sc26:FnScope ["_law_name","_law_home_here","_law_heaven_here","_law_d","_law_width","_law_height","_law_limit","_law_stars","_law_x","_law_y","_law_bright","_law_right","_law_up","_law_odd"] ["_law_name","_law_home_here","_law_heaven_here","_law_d"] (defScope (top 46)):=by trivial
theorem ck26:SSs ["_law_name","_law_home_here","_law_heaven_here","_law_d","_law_width","_law_height","_law_limit","_law_stars","_law_x","_law_y","_law_bright","_law_right","_law_up","_law_odd"] (defScope (top 46)) G b26 (defBody (top 46)):=(dc (jzh rfl (by trivial) rfl (dE_ix (λ_ _=>rfl) (jzR (ac rfl (jzb jza (jzb (dE_ix (λ_ _=>rfl) vr jza) jza)) (ac rfl (jzb jza (jzb (jzb (dE_ix (λ_ _=>rfl) vr jza) jza) jza)) jzc))) (jzp (by trivial) (ac rfl (jzf rfl (jzb (jzb (dE_ix (λ_ _=>rfl) vr jza) jza) jza) jza) jzc)))) (dc (jzh rfl (by trivial) rfl (dE_ix (λ_ _=>rfl) (jzR (ac rfl (jzb jza (jzb (dE_ix (λ_ _=>rfl) vr jza) jza)) (ac rfl (jzb jza (jzb (jzb (dE_ix (λ_ _=>rfl) vr jza) jza) jza)) jzc))) (jzp (by trivial) (ac rfl (jzf rfl (jzb (jzb (dE_ix (λ_ _=>rfl) vr jza) jza) jza) jza) jzc)))) (dc (jzh rfl (by trivial) rfl (dE_ix (λ_ _=>rfl) (jzR (ac rfl (jzb jza (jzb (dE_ix (λ_ _=>rfl) vr jza) jza)) (ac rfl (jzb jza (jzb (jzb (dE_ix (λ_ _=>rfl) vr jza) jza) jza)) jzc))) (jzp (by trivial) (ac rfl (jzf rfl (jzb (jzb (dE_ix (λ_ _=>rfl) vr jza) jza) jza) jza) jzc)))) (dc (jzh rfl (by trivial) rfl (jzR jzc)) (dc (qzR (by trivial) (λ_ _=>rfl) vr (dc (jzG (by trivial) rfl (λ_=>rfl) (jzj rfl (by trivial) (ac rfl (jzj rfl (by trivial) (ac rfl vr jzc)) (ac rfl (jzm (ac rfl vr (ac rfl vr jzc))) jzc)))) (dc (jzn (by first |exact jzK (jzf rfl jza vr) (by first |exact jzK (jzf rfl vr vr) (by first |exact jzK (jzf rfl jza vr) (jzo (jzf rfl vr vr) (jzf rfl vr vr))|exact jzo (jzf rfl jza vr) (jzo (jzf rfl vr vr) (jzf rfl vr vr)))|exact jzo (jzf rfl vr vr) (by first |exact jzK (jzf rfl jza vr) (jzo (jzf rfl vr vr) (jzf rfl vr vr))|exact jzo (jzf rfl jza vr) (jzo (jzf rfl vr vr) (jzf rfl vr vr))))|exact jzo (jzf rfl jza vr) (by first |exact jzK (jzf rfl vr vr) (by first |exact jzK (jzf rfl jza vr) (jzo (jzf rfl vr vr) (jzf rfl vr vr))|exact jzo (jzf rfl jza vr) (jzo (jzf rfl vr vr) (jzf rfl vr vr)))|exact jzo (jzf rfl vr vr) (by first |exact jzK (jzf rfl jza vr) (jzo (jzf rfl vr vr) (jzf rfl vr vr))|exact jzo (jzf rfl jza vr) (jzo (jzf rfl vr vr) (jzf rfl vr vr))))) (dc (dS_ex rfl (qzT rfl rfl vr (jzm (ac rfl vr (ac rfl vr (ac rfl vr jzc)))))) jzd) jzd) jzd))) (dc (jzn (jzf rfl (jzb (dE_ix (λ_ _=>rfl) vr jza) jza) jza) (dc (jzh rfl (by trivial) rfl (jzm (ac rfl (jzb (dE_ix (λ_ _=>rfl) vr jza) vr) (ac rfl (jzb (dE_ix (λ_ _=>rfl) vr jza) vr) (ac rfl (jzb vr (jzb (jzb (dE_ix (λ_ _=>rfl) vr jza) jza) (jzb jza vr))) jzc))))) (dc (jzh rfl (by trivial) rfl (jzb (jzJ (jzS (by trivial)) rfl (by trivial) (it_sq vr) (sb_cons (jzf rfl (dE_slT vr jza) (dE_slT vr jza)) jzU) vr) (jzR (ac rfl vr jzc)))) jzd)) jzd) (dc (jzi (jzm (ac rfl vr (ac rfl vr (ac rfl vr (ac rfl vr (ac rfl (jzp (by trivial) (ac rfl (jzp (by trivial) (ac rfl (dE_slL vr (jzW jza)) jzc)) jzc)) jzc))))))) jzd)))))))
theorem sc27:FnScope ["_law_d"] ["_law_d"] (defScope (top 47)):=by trivial
theorem ck27:SSs ["_law_d"] (defScope (top 47)) G b27 (defBody (top 47)):=(dc (jzi (jzm (ac rfl (jzb (dE_ix (λ_ _=>rfl) vr jza) jza) (ac rfl (jzb (jzb (dE_ix (λ_ _=>rfl) vr jza) jza) jza) (ac rfl (jzb (jzb (dE_ix (λ_ _=>rfl) vr jza) jza) jza) jzc))))) jzd)
theorem sc28:FnScope ["_law_script","_law_at","_law_names_here","_law_heaven_here","_law_whole","_law_rows","_law_k","_law_d","_law_home_here"] ["_law_script","_law_at","_law_names_here","_law_heaven_here","_law_whole"] (defScope (top 48)):=by trivial
theorem ck28:SSs ["_law_script","_law_at","_law_names_here","_law_heaven_here","_law_whole","_law_rows","_law_k","_law_d","_law_home_here"] (defScope (top 48)) G b28 (defBody (top 48)):=(dc (jzh rfl (by trivial) rfl (jzR jzc)) (dc (wzx (by trivial) (by trivial) rfl (jzp (by trivial) (ac rfl vr jzc)) (dc (jzh rfl (by trivial) rfl (jzj rfl (by trivial) (ac rfl vr (ac rfl (jzb vr vr) (ac rfl jza jzc))))) (dc (jzh rfl (by trivial) rfl (jzj rfl (by trivial) (ac rfl vr jzc))) (dc (jzn (jzf rfl (jzb (dE_ix (λ_ _=>rfl) vr jza) jza) jza) (dc (jzh rfl (by trivial) rfl (jzm (ac rfl (dE_ix (λ_ _=>rfl) vr jza) (ac rfl (jzb (dE_ix (λ_ _=>rfl) vr jza) (jzb jza (jzb (dE_ix (λ_ _=>rfl) vr jza) jza))) (ac rfl (jzb (dE_ix (λ_ _=>rfl) vr jza) (jzb (jzb jza jza) (jzb (dE_ix (λ_ _=>rfl) vr jza) jza))) jzc))))) jzd) jzd) (dc (dS_ex rfl (qzT rfl rfl vr (jzm (ac rfl (jzj rfl (by trivial) (ac rfl (dE_ix (λ_ _=>rfl) vr vr) (ac rfl vr (ac rfl vr (ac rfl vr jzc))))) (ac rfl (jzj rfl (by trivial) (ac rfl vr (ac rfl vr jzc))) jzc))))) jzd))))) (dc (jzi vr) jzd)))
theorem sc29:FnScope ["_law_rows"] ["_law_rows"] (defScope (top 49)):=by trivial
theorem ck29:SSs ["_law_rows"] (defScope (top 49)) G b29 (defBody (top 49)):=(dc (jzi (jzJ (jzS (by trivial)) rfl (by trivial) (it_sq vr) jzU (jzm (ac rfl (dE_new (by trivial) (by trivial) (ac rfl (dE_ix (λ_ _=>rfl) vr jza) (ac rfl (dE_ix (λ_ _=>rfl) vr jza) (ac rfl (dE_ix (λ_ _=>rfl) vr jza) (ac rfl (dE_ix (λ_ _=>rfl) vr jza) (ac rfl (jzp (by trivial) (ac rfl (dE_ix (λ_ _=>rfl) vr jza) jzc)) jzc)))))) (ac rfl vr jzc))))) jzd)
theorem sc30:FnScope ["_law_rows","_law_place"] ["_law_rows","_law_place"] (defScope (top 50)):=by trivial
theorem ck30:SSs ["_law_rows","_law_place"] (defScope (top 50)) G b30 (defBody (top 50)):=(dc (jzi (jzJ (jzS (by trivial)) rfl (by trivial) (it_sq vr) jzU (jzj rfl (by trivial) (ac rfl vr (ac rfl (jzj rfl (by trivial) (ac rfl (jzj rfl (by trivial) (ac rfl vr jzc)) (ac rfl vr jzc))) jzc))))) jzd)
theorem sc31:FnScope ["_law_handed","_law_rows"] ["_law_handed","_law_rows"] (defScope (top 51)):=by trivial
theorem ck31:SSs ["_law_handed","_law_rows"] (defScope (top 51)) G b31 (defBody (top 51)):=(dc (jzi (jzf rfl (jzJ (jzS (by trivial)) rfl (by trivial) (it_sq vr) jzU (jzm (ac rfl (qzj (by trivial) (λ_=>rfl) vr) (ac rfl vr jzc)))) (jzJ (jzS (by trivial)) rfl (by trivial) (it_sq vr) jzU (jzm (ac rfl (dE_ix (λ_ _=>rfl) vr jza) (ac rfl vr jzc)))))) jzd)
theorem sc32:FnScope ["_law_script","_law_d","_law_f","_law_names_here","_law_whole","_law_rows","_law_place","_law_handed","_law_refused","_law_found","e","_law_sayings_here"] ["_law_script"] (defScope (top 52)):=by trivial
theorem ck32:SSs ["_law_script","_law_d","_law_f","_law_names_here","_law_whole","_law_rows","_law_place","_law_handed","_law_refused","_law_found","e","_law_sayings_here"] (defScope (top 52)) G b32 (defBody (top 52)):=(dc (jzh rfl (by trivial) rfl (jzj rfl (by trivial) (ac rfl vr (ac rfl jza (ac rfl jza jzc))))) (dc (jzh rfl (by trivial) rfl (jzj rfl (by trivial) (ac rfl vr (ac rfl jza (ac rfl jza jzc))))) (dc (jzh rfl (by trivial) rfl (dE_slU (jzj rfl (by trivial) (ac rfl vr jzc)) (jzb (dE_ix (λ_ _=>rfl) vr jza) jza))) (dc (jzh rfl (by trivial) rfl (jzj rfl (by trivial) (ac rfl vr (ac rfl jza jzc)))) (dc (jzh rfl (by trivial) rfl (jzj rfl (by trivial) (ac rfl vr (ac rfl jza (ac rfl vr (ac rfl (jzj rfl (by trivial) (ac rfl vr jzc)) (ac rfl vr jzc))))))) (dc (jzh rfl (by trivial) rfl (jzj rfl (by trivial) (ac rfl vr (ac rfl (jzm (ac rfl (jzb (jzb (dE_ix (λ_ _=>rfl) vr jza) jza) jza) (ac rfl (jzb (jzb (dE_ix (λ_ _=>rfl) vr jza) jza) jza) jzc))) jzc)))) (dc (jzh rfl (by trivial) rfl (jzj rfl (by trivial) (ac rfl vr jzc))) (dc (jzh rfl (by trivial) rfl dE_bl) (dc (jzh rfl (by trivial) rfl xzo) (dc (dS_tryx rfl (by trivial) rfl (.cons (.one (.bl (by trivial) (.and (.isx (by trivial)) (.one (.isv (by trivial)))))) .nil) (dc (dS_asgX (by trivial) (λ_=>rfl) (λ_=>rfl) rfl (by trivial) (ac rfl vr (ac rfl vr jzc))) jzd)) (dc (jzn (qzi (jzj rfl (by trivial) (ac rfl vr (ac rfl vr jzc)))) (dc (jzi dE_bl) jzd) jzd) (dc (jzh rfl (by trivial) rfl (jzj rfl (by trivial) (ac rfl vr (ac rfl vr jzc)))) (dc (jzn (qzi (jzj rfl (by trivial) (ac rfl vr jzc))) (dc (jzi vr) jzd) jzd) (dc (jzi (jzo (qzi vr) (jzj rfl (by trivial) (ac rfl vr (ac rfl (jzj rfl (by trivial) (ac rfl vr jzc)) jzc))))) jzd))))))))))))))
theorem sc33:FnScope ["self","name","width","height","limit","stars"] ["self","name","width","height","limit","stars"] (defScope (mtop 28 0)):=by trivial
theorem ck33:SSs ["self","name","width","height","limit","stars"] (defScope (mtop 28 0)) G b33 (defBody (mtop 28 0)):=(dc (jzn (qzi (jzj rfl (by trivial) (ac rfl vr jzc))) (dc (qzp rfl (by trivial)) jzd) jzd) (dc (jzn (qzi (jzj rfl (by trivial) (ac rfl vr (ac rfl vr (ac rfl vr jzc))))) (dc (qzp rfl (by trivial)) jzd) jzd) (dc (jzn (jzf rfl (jzp (by trivial) (ac rfl vr jzc)) (dE_gc gc8 (by trivial))) (dc (qzp rfl (by trivial)) jzd) jzd) (dc (wzU (by trivial) (λ_=>rfl) vr vr) (dc (wzU (by trivial) (λ_=>rfl) vr vr) (dc (wzU (by trivial) (λ_=>rfl) vr vr) (dc (wzU (by trivial) (λ_=>rfl) vr vr) (dc (wzU (by trivial) (λ_=>rfl) (dE_dcT (jzS (by trivial)) rfl (by trivial) vr (jzm (ac rfl vr (ac rfl vr jzc))) vr) vr) (dc (jzn (jzf rfl (jzp (by trivial) (ac rfl (qzj (by trivial) (λ_=>rfl) vr) jzc)) (jzp (by trivial) (ac rfl vr jzc))) (dc (qzp rfl (by trivial)) jzd) jzd) (dc (jzn (qzi (dE_mth0 (by trivial) (λ_=>⟨_,rfl⟩) vr)) (dc (qzp rfl (by trivial)) jzd) jzd) jzd))))))))))
theorem sc34:FnScope ["self"] ["self"] (defScope (mtop 28 1)):=by trivial
theorem ck34:SSs ["self"] (defScope (mtop 28 1)) G b34 (defBody (mtop 28 1)):=(dc (jzi (jzp (by trivial) (ac rfl (jzJ (jzS (by trivial)) rfl (by trivial) (it_itf (λ_=>rfl) rfl (qzj (by trivial) (λ_=>rfl) vr)) jzU (jzo (xzp (by trivial) (λ_=>⟨_,rfl⟩) vr (ac rfl vr jzc)) (qzS (by with_unfolding_all rfl) (qzj (by trivial) (λ_=>rfl) vr) vr (dE_gc gc3 (by trivial))))) jzc))) jzd)
theorem sc35:FnScope ["self","place","x","y"] ["self","place"] (defScope (mtop 28 3)):=by trivial
theorem ck35:SSs ["self","place","x","y"] (defScope (mtop 28 3)) G b35 (defBody (mtop 28 3)):=(dc (jzG (by trivial) rfl (λ_=>rfl) vr) (dc (jzi (jzo (qzS (by with_unfolding_all rfl) jza vr (qzj (by trivial) (λ_=>rfl) vr)) (qzS (by with_unfolding_all rfl) jza vr (qzj (by trivial) (λ_=>rfl) vr)))) jzd))
theorem sc36:FnScope ["self","place"] ["self","place"] (defScope (mtop 28 4)):=by trivial
theorem ck36:SSs ["self","place"] (defScope (mtop 28 4)) G b36 (defBody (mtop 28 4)):=(dc (jzn (jzf rfl vr (qzj (by trivial) (λ_=>rfl) vr)) (dc (jzi (jzm (ac rfl jzE (ac rfl (dE_ix (λ_ _=>rfl) (qzj (by trivial) (λ_=>rfl) vr) vr) jzc)))) jzd) jzd) (dc (jzi (dE_ite (xzp (by trivial) (λ_=>⟨_,rfl⟩) vr (ac rfl vr jzc)) (jzm (ac rfl jzE (ac rfl (qzj (by trivial) (λ_=>rfl) vr) jzc))) (dE_gc gc4 (by trivial)))) jzd))
theorem all_mk{K:W.Frag}{h:Heap}{mg:Str->Option Value}{fa:Addr}(X:K.In h)(Gn:h.Ns mainGlobals mg)(hfa:mg "law"=some (.ref fa))
 {f0 f1 f2 f3 f4 f5 f6 f7 f8 f9 f10 f11 f12 f13 f14 f15 f16 f17 f18 f19 f20 f21 f22 f23 f24 f25 f26 f27 f28 f29 f30 f31 f32 C0 f33 f34 f35 f36 t0 t3 t4 t9 t14 t19 t24 t29 t34 t39 t46 c0 c1 c2 c3:Addr}{oc0 kV0 dc0 pm0 cd0 ct0 oc1 kV1 dc1 pm1 cd1 ct1 oc2 kV2 dc2 pm2 cd2 ct2 oc3 kV3 dc3 pm3 cd3 ct3 oc4 kV4 dc4 pm4 cd4 ct4 oc5 kV5 dc5 pm5 cd5 ct5 oc6 kV6 dc6 pm6 cd6 ct6 oc7 kV7 dc7 pm7 cd7 ct7 oc8 kV8 dc8 pm8 cd8 ct8 oc9 kV9 dc9 pm9 cd9 ct9 oc10 kV10 dc10 pm10 cd10 ct10 oc11 kV11 dc11 pm11 cd11 ct11 oc12 kV12 dc12 pm12 cd12 ct12 oc13 kV13 dc13 pm13 cd13 ct13 oc14 kV14 dc14 pm14 cd14 ct14 oc15 kV15 dc15 pm15 cd15 ct15 oc16 kV16 dc16 pm16 cd16 ct16 oc17 kV17 dc17 pm17 cd17 ct17 oc18 kV18 dc18 pm18 cd18 ct18 oc19 kV19 dc19 pm19 cd19 ct19 oc20 kV20 dc20 pm20 cd20 ct20 oc21 kV21 dc21 pm21 cd21 ct21 oc22 kV22 dc22 pm22 cd22 ct22 oc23 kV23 dc23 pm23 cd23 ct23 oc24 kV24 dc24 pm24 cd24 ct24 oc25 kV25 dc25 pm25 cd25 ct25 oc26 kV26 dc26 pm26 cd26 ct26 oc27 kV27 dc27 pm27 cd27 ct27 oc28 kV28 dc28 pm28 cd28 ct28 oc29 kV29 dc29 pm29 cd29 ct29 oc30 kV30 dc30 pm30 cd30 ct30 oc31 kV31 dc31 pm31 cd31 ct31 oc32 kV32 dc32 pm32 cd32 ct32 oc33 kV33 dc33 pm33 cd33 ct33 oc34 kV34 dc34 pm34 cd34 ct34 oc35 kV35 dc35 pm35 cd35 ct35 oc36 kV36 dc36 pm36 cd36 ct36:Value}{od0 an0 od1 an1 od2 an2 od3 an3 od4 an4 od5 an5 od6 an6 od7 an7 od8 an8 od9 an9 od10 an10 od11 an11 od12 an12 od13 an13 od14 an14 od15 an15 od16 an16 od17 an17 od18 an18 od19 an19 od20 an20 od21 an21 od22 an22 od23 an23 od24 an24 od25 an25 od26 an26 od27 an27 od28 an28 od29 an29 od30 an30 od31 an31 od32 an32 od33 an33 od34 an34 od35 an35 od36 an36 td0 td3 td4 td9 td14 td19 td24 td29 td34 td39 td46:Option Addr}{sl0 sl1 sl2 sl3 sl4 sl5 sl6 sl7 sl8 sl9 sl10 sl11 sl12 sl13 sl14 sl15 sl16 sl17 sl18 sl19 sl20 sl21 sl22 sl23 sl24 sl25 sl26 sl27 sl28 sl29 sl30 sl31 sl32 sl33 sl34 sl35 sl36 ts0 ts3 ts4 ts9 ts14 ts19 ts24 ts29 ts34 ts39 ts46:Array (Option Value)}{tn0 tn3 tn4 tn9 tn14 tn19 tn24 tn29 tn34 tn39 tn46:Nat}{u1 u2 u5 u6 u7 u8 u10 u11 u12 u13 u15 u16 u17 u18 u20 u21 u22 u23 u25 u26 u27 u28 u30 u31 u32 u33 u35 u36 u37 u38 u40 u41 u42 u43 u44 u45 u47 u48 u49 u50 u51 u52:Tok}
 (fa0:W.nsIn K mainGlobals "turned"=some (some (.ref f0)))
 (fl0:K.lookup f0=some ⟨oc0,od0,.func (W.fnOf "turned" "turned" (defArgs (top 4)) (defBody (top 4)) (defScope (top 4)) .none kV0 dc0 pm0 an0 cd0 ct0),sl0⟩)
 (fc0:W.codeIn K cd0 "turned"=true)
 (fk0:W.keepIn K (.ref f0)=true)
 (fa1:W.nsIn K mainGlobals "turn_back"=some (some (.ref f1)))
 (fl1:K.lookup f1=some ⟨oc1,od1,.func (W.fnOf "turn_back" "turn_back" (defArgs (top 5)) (defBody (top 5)) (defScope (top 5)) .none kV1 dc1 pm1 an1 cd1 ct1),sl1⟩)
 (fc1:W.codeIn K cd1 "turn_back"=true)
 (fk1:W.keepIn K (.ref f1)=true)
 (fa2:W.nsIn K mainGlobals "moved"=some (some (.ref f2)))
 (fl2:K.lookup f2=some ⟨oc2,od2,.func (W.fnOf "moved" "moved" (defArgs (top 6)) (defBody (top 6)) (defScope (top 6)) .none kV2 dc2 pm2 an2 cd2 ct2),sl2⟩)
 (fc2:W.codeIn K cd2 "moved"=true)
 (fk2:W.keepIn K (.ref f2)=true)
 (fa3:W.nsIn K mainGlobals "leading"=some (some (.ref f3)))
 (fl3:K.lookup f3=some ⟨oc3,od3,.func (W.fnOf "leading" "leading" (defArgs (top 7)) (defBody (top 7)) (defScope (top 7)) .none kV3 dc3 pm3 an3 cd3 ct3),sl3⟩)
 (fc3:W.codeIn K cd3 "leading"=true)
 (fk3:W.keepIn K (.ref f3)=true)
 (fa4:W.nsIn K mainGlobals "back"=some (some (.ref f4)))
 (fl4:K.lookup f4=some ⟨oc4,od4,.func (W.fnOf "back" "back" (defArgs (top 8)) (defBody (top 8)) (defScope (top 8)) .none kV4 dc4 pm4 an4 cd4 ct4),sl4⟩)
 (fc4:W.codeIn K cd4 "back"=true)
 (fk4:W.keepIn K (.ref f4)=true)
 (fa5:W.nsIn K mainGlobals "span"=some (some (.ref f5)))
 (fl5:K.lookup f5=some ⟨oc5,od5,.func (W.fnOf "span" "span" (defArgs (top 17)) (defBody (top 17)) (defScope (top 17)) .none kV5 dc5 pm5 an5 cd5 ct5),sl5⟩)
 (fc5:W.codeIn K cd5 "span"=true)
 (fk5:W.keepIn K (.ref f5)=true)
 (fa6:W.nsIn K mainGlobals "common_span"=some (some (.ref f6)))
 (fl6:K.lookup f6=some ⟨oc6,od6,.func (W.fnOf "common_span" "common_span" (defArgs (top 18)) (defBody (top 18)) (defScope (top 18)) .none kV6 dc6 pm6 an6 cd6 ct6),sl6⟩)
 (fc6:W.codeIn K cd6 "common_span"=true)
 (fk6:W.keepIn K (.ref f6)=true)
 (fa7:W.nsIn K mainGlobals "narrowest"=some (some (.ref f7)))
 (fl7:K.lookup f7=some ⟨oc7,od7,.func (W.fnOf "narrowest" "narrowest" (defArgs (top 19)) (defBody (top 19)) (defScope (top 19)) .none kV7 dc7 pm7 an7 cd7 ct7),sl7⟩)
 (fc7:W.codeIn K cd7 "narrowest"=true)
 (fk7:W.keepIn K (.ref f7)=true)
 (fa8:W.nsIn K mainGlobals "pool"=some (some (.ref f8)))
 (fl8:K.lookup f8=some ⟨oc8,od8,.func (W.fnOf "pool" "pool" (defArgs (top 20)) (defBody (top 20)) (defScope (top 20)) .none kV8 dc8 pm8 an8 cd8 ct8),sl8⟩)
 (fc8:W.codeIn K cd8 "pool"=true)
 (fk8:W.keepIn K (.ref f8)=true)
 (fa9:W.nsIn K mainGlobals "is_name"=some (some (.ref f9)))
 (fl9:K.lookup f9=some ⟨oc9,od9,.func (W.fnOf "is_name" "is_name" (defArgs (top 26)) (defBody (top 26)) (defScope (top 26)) .none kV9 dc9 pm9 an9 cd9 ct9),sl9⟩)
 (fc9:W.codeIn K cd9 "is_name"=true)
 (fk9:W.keepIn K (.ref f9)=true)
 (fa10:W.nsIn K mainGlobals "is_window"=some (some (.ref f10)))
 (fl10:K.lookup f10=some ⟨oc10,od10,.func (W.fnOf "is_window" "is_window" (defArgs (top 27)) (defBody (top 27)) (defScope (top 27)) .none kV10 dc10 pm10 an10 cd10 ct10),sl10⟩)
 (fc10:W.codeIn K cd10 "is_window"=true)
 (fk10:W.keepIn K (.ref f10)=true)
 (fa11:W.nsIn K mainGlobals "said"=some (some (.ref f11)))
 (fl11:K.lookup f11=some ⟨oc11,od11,.func (W.fnOf "said" "said" (defArgs (top 30)) (defBody (top 30)) (defScope (top 30)) .none kV11 dc11 pm11 an11 cd11 ct11),sl11⟩)
 (fc11:W.codeIn K cd11 "said"=true)
 (fk11:W.keepIn K (.ref f11)=true)
 (fa12:W.nsIn K mainGlobals "_law_draws"=some (some (.ref f12)))
 (fl12:K.lookup f12=some ⟨oc12,od12,.func (W.fnOf "_law_draws" "_law_draws" (defArgs (top 32)) (defBody (top 32)) (defScope (top 32)) .none kV12 dc12 pm12 an12 cd12 ct12),sl12⟩)
 (fc12:W.codeIn K cd12 "_law_draws"=true)
 (fk12:W.keepIn K (.ref f12)=true)
 (fa13:W.nsIn K mainGlobals "_law_far"=some (some (.ref f13)))
 (fl13:K.lookup f13=some ⟨oc13,od13,.func (W.fnOf "_law_far" "_law_far" (defArgs (top 33)) (defBody (top 33)) (defScope (top 33)) .none kV13 dc13 pm13 an13 cd13 ct13),sl13⟩)
 (fc13:W.codeIn K cd13 "_law_far"=true)
 (fk13:W.keepIn K (.ref f13)=true)
 (fa14:W.nsIn K mainGlobals "_law_turned"=some (some (.ref f14)))
 (fl14:K.lookup f14=some ⟨oc14,od14,.func (W.fnOf "_law_turned" "_law_turned" (defArgs (top 34)) (defBody (top 34)) (defScope (top 34)) .none kV14 dc14 pm14 an14 cd14 ct14),sl14⟩)
 (fc14:W.codeIn K cd14 "_law_turned"=true)
 (fk14:W.keepIn K (.ref f14)=true)
 (fa15:W.nsIn K mainGlobals "_law_moved"=some (some (.ref f15)))
 (fl15:K.lookup f15=some ⟨oc15,od15,.func (W.fnOf "_law_moved" "_law_moved" (defArgs (top 35)) (defBody (top 35)) (defScope (top 35)) .none kV15 dc15 pm15 an15 cd15 ct15),sl15⟩)
 (fc15:W.codeIn K cd15 "_law_moved"=true)
 (fk15:W.keepIn K (.ref f15)=true)
 (fa16:W.nsIn K mainGlobals "_law_behind"=some (some (.ref f16)))
 (fl16:K.lookup f16=some ⟨oc16,od16,.func (W.fnOf "_law_behind" "_law_behind" (defArgs (top 36)) (defBody (top 36)) (defScope (top 36)) .none kV16 dc16 pm16 an16 cd16 ct16),sl16⟩)
 (fc16:W.codeIn K cd16 "_law_behind"=true)
 (fk16:W.keepIn K (.ref f16)=true)
 (fa17:W.nsIn K mainGlobals "_law_back"=some (some (.ref f17)))
 (fl17:K.lookup f17=some ⟨oc17,od17,.func (W.fnOf "_law_back" "_law_back" (defArgs (top 37)) (defBody (top 37)) (defScope (top 37)) .none kV17 dc17 pm17 an17 cd17 ct17),sl17⟩)
 (fc17:W.codeIn K cd17 "_law_back"=true)
 (fk17:W.keepIn K (.ref f17)=true)
 (fa18:W.nsIn K mainGlobals "_law_motion"=some (some (.ref f18)))
 (fl18:K.lookup f18=some ⟨oc18,od18,.func (W.fnOf "_law_motion" "_law_motion" (defArgs (top 38)) (defBody (top 38)) (defScope (top 38)) .none kV18 dc18 pm18 an18 cd18 ct18),sl18⟩)
 (fc18:W.codeIn K cd18 "_law_motion"=true)
 (fk18:W.keepIn K (.ref f18)=true)
 (fa19:W.nsIn K mainGlobals "_law_same"=some (some (.ref f19)))
 (fl19:K.lookup f19=some ⟨oc19,od19,.func (W.fnOf "_law_same" "_law_same" (defArgs (top 39)) (defBody (top 39)) (defScope (top 39)) .none kV19 dc19 pm19 an19 cd19 ct19),sl19⟩)
 (fc19:W.codeIn K cd19 "_law_same"=true)
 (fk19:W.keepIn K (.ref f19)=true)
 (fa20:W.nsIn K mainGlobals "_law_agreeing"=some (some (.ref f20)))
 (fl20:K.lookup f20=some ⟨oc20,od20,.func (W.fnOf "_law_agreeing" "_law_agreeing" (defArgs (top 40)) (defBody (top 40)) (defScope (top 40)) .none kV20 dc20 pm20 an20 cd20 ct20),sl20⟩)
 (fc20:W.codeIn K cd20 "_law_agreeing"=true)
 (fk20:W.keepIn K (.ref f20)=true)
 (fa21:W.nsIn K mainGlobals "_law_all_agreeing"=some (some (.ref f21)))
 (fl21:K.lookup f21=some ⟨oc21,od21,.func (W.fnOf "_law_all_agreeing" "_law_all_agreeing" (defArgs (top 41)) (defBody (top 41)) (defScope (top 41)) .none kV21 dc21 pm21 an21 cd21 ct21),sl21⟩)
 (fc21:W.codeIn K cd21 "_law_all_agreeing"=true)
 (fk21:W.keepIn K (.ref f21)=true)
 (fa22:W.nsIn K mainGlobals "_law_narrow"=some (some (.ref f22)))
 (fl22:K.lookup f22=some ⟨oc22,od22,.func (W.fnOf "_law_narrow" "_law_narrow" (defArgs (top 42)) (defBody (top 42)) (defScope (top 42)) .none kV22 dc22 pm22 an22 cd22 ct22),sl22⟩)
 (fc22:W.codeIn K cd22 "_law_narrow"=true)
 (fk22:W.keepIn K (.ref f22)=true)
 (fa23:W.nsIn K mainGlobals "_law_says"=some (some (.ref f23)))
 (fl23:K.lookup f23=some ⟨oc23,od23,.func (W.fnOf "_law_says" "_law_says" (defArgs (top 43)) (defBody (top 43)) (defScope (top 43)) .none kV23 dc23 pm23 an23 cd23 ct23),sl23⟩)
 (fc23:W.codeIn K cd23 "_law_says"=true)
 (fk23:W.keepIn K (.ref f23)=true)
 (fa24:W.nsIn K mainGlobals "_law_heaven"=some (some (.ref f24)))
 (fl24:K.lookup f24=some ⟨oc24,od24,.func (W.fnOf "_law_heaven" "_law_heaven" (defArgs (top 44)) (defBody (top 44)) (defScope (top 44)) .none kV24 dc24 pm24 an24 cd24 ct24),sl24⟩)
 (fc24:W.codeIn K cd24 "_law_heaven"=true)
 (fk24:W.keepIn K (.ref f24)=true)
 (fa25:W.nsIn K mainGlobals "_law_names"=some (some (.ref f25)))
 (fl25:K.lookup f25=some ⟨oc25,od25,.func (W.fnOf "_law_names" "_law_names" (defArgs (top 45)) (defBody (top 45)) (defScope (top 45)) .none kV25 dc25 pm25 an25 cd25 ct25),sl25⟩)
 (fc25:W.codeIn K cd25 "_law_names"=true)
 (fk25:W.keepIn K (.ref f25)=true)
 (fa26:W.nsIn K mainGlobals "_law_pane"=some (some (.ref f26)))
 (fl26:K.lookup f26=some ⟨oc26,od26,.func (W.fnOf "_law_pane" "_law_pane" (defArgs (top 46)) (defBody (top 46)) (defScope (top 46)) .none kV26 dc26 pm26 an26 cd26 ct26),sl26⟩)
 (fc26:W.codeIn K cd26 "_law_pane"=true)
 (fk26:W.keepIn K (.ref f26)=true)
 (fa27:W.nsIn K mainGlobals "_law_home"=some (some (.ref f27)))
 (fl27:K.lookup f27=some ⟨oc27,od27,.func (W.fnOf "_law_home" "_law_home" (defArgs (top 47)) (defBody (top 47)) (defScope (top 47)) .none kV27 dc27 pm27 an27 cd27 ct27),sl27⟩)
 (fc27:W.codeIn K cd27 "_law_home"=true)
 (fk27:W.keepIn K (.ref f27)=true)
 (fa28:W.nsIn K mainGlobals "_law_panes"=some (some (.ref f28)))
 (fl28:K.lookup f28=some ⟨oc28,od28,.func (W.fnOf "_law_panes" "_law_panes" (defArgs (top 48)) (defBody (top 48)) (defScope (top 48)) .none kV28 dc28 pm28 an28 cd28 ct28),sl28⟩)
 (fc28:W.codeIn K cd28 "_law_panes"=true)
 (fk28:W.keepIn K (.ref f28)=true)
 (fa29:W.nsIn K mainGlobals "_law_plates"=some (some (.ref f29)))
 (fl29:K.lookup f29=some ⟨oc29,od29,.func (W.fnOf "_law_plates" "_law_plates" (defArgs (top 49)) (defBody (top 49)) (defScope (top 49)) .none kV29 dc29 pm29 an29 cd29 ct29),sl29⟩)
 (fc29:W.codeIn K cd29 "_law_plates"=true)
 (fk29:W.keepIn K (.ref f29)=true)
 (fa30:W.nsIn K mainGlobals "_law_sayings"=some (some (.ref f30)))
 (fl30:K.lookup f30=some ⟨oc30,od30,.func (W.fnOf "_law_sayings" "_law_sayings" (defArgs (top 50)) (defBody (top 50)) (defScope (top 50)) .none kV30 dc30 pm30 an30 cd30 ct30),sl30⟩)
 (fc30:W.codeIn K cd30 "_law_sayings"=true)
 (fk30:W.keepIn K (.ref f30)=true)
 (fa31:W.nsIn K mainGlobals "_law_kept"=some (some (.ref f31)))
 (fl31:K.lookup f31=some ⟨oc31,od31,.func (W.fnOf "_law_kept" "_law_kept" (defArgs (top 51)) (defBody (top 51)) (defScope (top 51)) .none kV31 dc31 pm31 an31 cd31 ct31),sl31⟩)
 (fc31:W.codeIn K cd31 "_law_kept"=true)
 (fk31:W.keepIn K (.ref f31)=true)
 (fa32:W.nsIn K mainGlobals "law"=some (some (.ref f32)))
 (fl32:K.lookup f32=some ⟨oc32,od32,.func (W.fnOf "law" "law" (defArgs (top 52)) (defBody (top 52)) (defScope (top 52)) .none kV32 dc32 pm32 an32 cd32 ct32),sl32⟩)
 (fc32:W.codeIn K cd32 "law"=true)
 (fk32:W.keepIn K (.ref f32)=true)
 (ka0:W.nsIn K mainGlobals "Plate"=some (some (.ref C0)))
 (fa33:W.findIn K (.ref C0) "__init__"=some (some (.ref f33)))
 (fi33:W.isFn K (.ref f33)=true)
 (fl33:K.lookup f33=some ⟨oc33,od33,.func (W.fnOf "__init__" "Plate.__init__" (defArgs (mtop 28 0)) (defBody (mtop 28 0)) (defScope (mtop 28 0)) .none kV33 dc33 pm33 an33 cd33 ct33),sl33⟩)
 (fc33:W.codeIn K cd33 "Plate.__init__"=true)
 (fk33:W.keepIn K (.ref f33)=true)
 (fa34:W.findIn K (.ref C0) "shows_its_stars"=some (some (.ref f34)))
 (fi34:W.isFn K (.ref f34)=true)
 (fl34:K.lookup f34=some ⟨oc34,od34,.func (W.fnOf "shows_its_stars" "Plate.shows_its_stars" (defArgs (mtop 28 1)) (defBody (mtop 28 1)) (defScope (mtop 28 1)) .none kV34 dc34 pm34 an34 cd34 ct34),sl34⟩)
 (fc34:W.codeIn K cd34 "Plate.shows_its_stars"=true)
 (fk34:W.keepIn K (.ref f34)=true)
 (fa35:W.findIn K (.ref C0) "holds"=some (some (.ref f35)))
 (fi35:W.isFn K (.ref f35)=true)
 (fl35:K.lookup f35=some ⟨oc35,od35,.func (W.fnOf "holds" "Plate.holds" (defArgs (mtop 28 3)) (defBody (mtop 28 3)) (defScope (mtop 28 3)) .none kV35 dc35 pm35 an35 cd35 ct35),sl35⟩)
 (fc35:W.codeIn K cd35 "Plate.holds"=true)
 (fk35:W.keepIn K (.ref f35)=true)
 (fa36:W.findIn K (.ref C0) "says"=some (some (.ref f36)))
 (fi36:W.isFn K (.ref f36)=true)
 (fl36:K.lookup f36=some ⟨oc36,od36,.func (W.fnOf "says" "Plate.says" (defArgs (mtop 28 4)) (defBody (mtop 28 4)) (defScope (mtop 28 4)) .none kV36 dc36 pm36 an36 cd36 ct36),sl36⟩)
 (fc36:W.codeIn K cd36 "Plate.says"=true)
 (fk36:W.keepIn K (.ref f36)=true)
 (kb0:W.plainGet K C0 Str.empty=true)
 (kc0:W.hasDictIn K C0=true)
 (kd0:W.plainOver K C0=true)
 (ke0:W.findIn K (.ref C0) "__setattr__"=some (some (.builtin "object.__setattr__")))
 (kf0:W.makesIn K C0=true)
 (kg0:W.keepIn K (.ref C0)=true)
 (kn0:W.findIn K (.ref C0) "name"=some none)
 (kn1:W.findIn K (.ref C0) "width"=some none)
 (kn2:W.findIn K (.ref C0) "height"=some none)
 (kn3:W.findIn K (.ref C0) "limit"=some none)
 (kn4:W.findIn K (.ref C0) "bright_at"=some none)
 (ga0:W.nsIn K mainGlobals "ORIGIN"=some (some (.ref t0)))
 (tt0:K.lookup t0=some ⟨.type "tuple",td0,.seq #[.int (0) u1,.int (0) u2] tn0,ts0⟩)
 (ga1:W.nsIn K mainGlobals "TURNS"=some (some (.ref t3)))
 (tt3:K.lookup t3=some ⟨.type "tuple",td3,.seq #[.ref t4,.ref t9,.ref t14,.ref t19,.ref t24,.ref t29,.ref t34,.ref t39] tn3,ts3⟩)
 (tt4:K.lookup t4=some ⟨.type "tuple",td4,.seq #[.int (1) u5,.int (0) u6,.int (0) u7,.int (1) u8] tn4,ts4⟩)
 (tt9:K.lookup t9=some ⟨.type "tuple",td9,.seq #[.int (0) u10,.int (-1) u11,.int (1) u12,.int (0) u13] tn9,ts9⟩)
 (tt14:K.lookup t14=some ⟨.type "tuple",td14,.seq #[.int (-1) u15,.int (0) u16,.int (0) u17,.int (-1) u18] tn14,ts14⟩)
 (tt19:K.lookup t19=some ⟨.type "tuple",td19,.seq #[.int (0) u20,.int (1) u21,.int (-1) u22,.int (0) u23] tn19,ts19⟩)
 (tt24:K.lookup t24=some ⟨.type "tuple",td24,.seq #[.int (-1) u25,.int (0) u26,.int (0) u27,.int (1) u28] tn24,ts24⟩)
 (tt29:K.lookup t29=some ⟨.type "tuple",td29,.seq #[.int (0) u30,.int (-1) u31,.int (-1) u32,.int (0) u33] tn29,ts29⟩)
 (tt34:K.lookup t34=some ⟨.type "tuple",td34,.seq #[.int (1) u35,.int (0) u36,.int (0) u37,.int (-1) u38] tn34,ts34⟩)
 (tt39:K.lookup t39=some ⟨.type "tuple",td39,.seq #[.int (0) u40,.int (1) u41,.int (1) u42,.int (0) u43] tn39,ts39⟩)
 (ga2:W.nsIn K mainGlobals "MIRRORED"=some (some (.int (4) u44)))
 (ga3:W.nsIn K mainGlobals "BRIGHTEST"=some (some (.int (9) u45)))
 (ga4:W.nsIn K mainGlobals "UNSEEN"=some (some (.ref t46)))
 (tt46:K.lookup t46=some ⟨.type "tuple",td46,.seq #[.str "unseen" u47,.int (0) u48] tn46,ts46⟩)
 (ga5:W.nsIn K mainGlobals "LETTERS"=some (some (.str "abcdefghijklmnopqrstuvwxyz" u49)))
 (ga6:W.nsIn K mainGlobals "LONGEST_NAME"=some (some (.int (8) u50)))
 (ga7:W.nsIn K mainGlobals "LONGEST_SIDE"=some (some (.int (8) u51)))
 (ga8:W.nsIn K mainGlobals "MOST_STARS"=some (some (.int (8) u52)))
 (xa0:W.nsIn K mainGlobals "GlassError"=some (some (.ref c0)))
 (xb0:W.excIn K c0 bmV "ValueError.__new__"=true)
 (xc0:W.keepIn K (.ref c0)=true)
 (xd0:W.kitOne K (.ref c0) (.type "ValueError")=some true)
 (xa1:W.nsIn K mainGlobals "BadName"=some (some (.ref c1)))
 (xb1:W.excIn K c1 bmV "ValueError.__new__"=true)
 (xc1:W.keepIn K (.ref c1)=true)
 (xd1:W.kitOne K (.ref c1) (.type "ValueError")=some true)
 (xa2:W.nsIn K mainGlobals "BadPlate"=some (some (.ref c2)))
 (xb2:W.excIn K c2 bmV "ValueError.__new__"=true)
 (xc2:W.keepIn K (.ref c2)=true)
 (xd2:W.kitOne K (.ref c2) (.type "ValueError")=some true)
 (xa3:W.nsIn K mainGlobals "Denied"=some (some (.ref c3)))
 (xb3:W.excIn K c3 bmV "ValueError.__new__"=true)
 (xc3:W.keepIn K (.ref c3)=true)
 (xd3:W.kitOne K (.ref c3) (.type "ValueError")=some true)
 (xe0:W.exmOne K (.ref c0) (.ref c0)=some true)
 (xf0:W.kitOne K (.ref c0) (.ref c0)=some true)
 (xe1:W.exmOne K (.ref c1) (.ref c1)=some true)
 (xf1:W.kitOne K (.ref c1) (.ref c1)=some true)
 (xe2:W.exmOne K (.ref c1) (.ref c0)=some true)
 (xf2:W.kitOne K (.ref c1) (.ref c0)=some true)
 (xe3:W.exmOne K (.ref c2) (.ref c2)=some true)
 (xf3:W.kitOne K (.ref c2) (.ref c2)=some true)
 (xe4:W.exmOne K (.ref c2) (.ref c0)=some true)
 (xf4:W.kitOne K (.ref c2) (.ref c0)=some true)
 (xe5:W.exmOne K (.ref c3) (.ref c3)=some true)
 (xf5:W.kitOne K (.ref c3) (.ref c3)=some true)
 (xe6:W.exmOne K (.ref c3) (.ref c0)=some true)
 (xf6:W.kitOne K (.ref c3) (.ref c0)=some true)
 (na1:W.findIn K (.ref c1) "__getattribute__"=some (some (.builtin "BaseException.__getattribute__")))
 (nb1:W.findIn K (.ref c1) "__getattr__"=some none)
 (nc1:W.findIn K (.ref c1) "__class__"=some (some (.builtin "object.__class__")))
 (nd1:W.mroIn K c1 (.type "object")=some true)
 (ne1:W.mroIn K c1 (.type "BaseException")=some true)
 (na2:W.findIn K (.ref c2) "__getattribute__"=some (some (.builtin "BaseException.__getattribute__")))
 (nb2:W.findIn K (.ref c2) "__getattr__"=some none)
 (nc2:W.findIn K (.ref c2) "__class__"=some (some (.builtin "object.__class__")))
 (nd2:W.mroIn K c2 (.type "object")=some true)
 (ne2:W.mroIn K c2 (.type "BaseException")=some true)
 (nf0:W.specialIn K (.builtin "object.__class__") "__get__"=some (some (.builtin "getset_descriptor.__get__")))
 (ng0:W.takesIn K (.builtin "object.__class__")=some true)
 (nh0:W.kitOne K (.ref c1) (.ref c3)=some false)
 (nh1:W.kitOne K (.ref c2) (.ref c3)=some false)
 (z_len:W.nsIn K mainGlobals "len"=some none)
 (z_isinstance:W.nsIn K mainGlobals "isinstance"=some none)
 (z_int:W.nsIn K mainGlobals "int"=some none)
 (z_list:W.nsIn K mainGlobals "list"=some none)
 (z_bool:W.nsIn K mainGlobals "bool"=some none)
 (z_str:W.nsIn K mainGlobals "str"=some none)
 (z_tuple:W.nsIn K mainGlobals "tuple"=some none)
 (z_range:W.nsIn K mainGlobals "range"=some none)
 (z_max:W.nsIn K mainGlobals "max"=some none)
 (z_min:W.nsIn K mainGlobals "min"=some none)
 (z_sorted:W.nsIn K mainGlobals "sorted"=some none)
 (z_all:W.nsIn K mainGlobals "all"=some none)
 (z_ValueError:W.nsIn K mainGlobals "ValueError"=some none)
 :∃ca:Nat->Addr,PrOk K mg G ca T/\∃fd:FuncData,(∀(s:Shared)(u:Value),BindsTo s fd ⟨[u],[]⟩ [("_law_script",u)])/\∃c st N qual,T 32=some c/\Fun K "law" qual st fa fd/\FnScope N ["_law_script"] (defScope st)/\1=c.np/\N.length=c.ns/\SSs N (defScope st) G c.body (defBody st):=by
 have e:=hfa.symm.trans (W.mg_of X Gn fa32)
 cases e
 have F0:=jzr (st:=top 4) fl0 fc0 fk0
 have B0:=F0.binds (ps:= ["turn","place"]) (by trivial)
 have F1:=jzr (st:=top 5) fl1 fc1 fk1
 have B1:=F1.binds (ps:= ["turn"]) (by trivial)
 have F2:=jzr (st:=top 6) fl2 fc2 fk2
 have B2:=F2.binds (ps:= ["motion","place"]) (by trivial)
 have F3:=jzr (st:=top 7) fl3 fc3 fk3
 have B3:=F3.binds (ps:= ["turn","place","goal"]) (by trivial)
 have F4:=jzr (st:=top 8) fl4 fc4 fk4
 have B4:=F4.binds (ps:= ["motion"]) (by trivial)
 have F5:=jzr (st:=top 17) fl5 fc5 fk5
 have B5:=F5.binds (ps:= ["saying"]) (by trivial)
 have F6:=jzr (st:=top 18) fl6 fc6 fk6
 have B6:=F6.binds (ps:= ["sayings"]) (by trivial)
 have F7:=jzr (st:=top 19) fl7 fc7 fk7
 have B7:=F7.binds (ps:= ["least","greatest"]) (by trivial)
 have F8:=jzr (st:=top 20) fl8 fc8 fk8
 have B8:=F8.binds (ps:= ["sayings"]) (by trivial)
 have F9:=jzr (st:=top 26) fl9 fc9 fk9
 have B9:=F9.binds (ps:= ["text"]) (by trivial)
 have F10:=jzr (st:=top 27) fl10 fc10 fk10
 have B10:=F10.binds (ps:= ["width","height","limit"]) (by trivial)
 have F11:=jzr (st:=top 30) fl11 fc11 fk11
 have B11:=F11.binds (ps:= ["laid","place"]) (by trivial)
 have F12:=jzr (st:=top 32) fl12 fc12 fk12
 have B12:=F12.binds (ps:= ["_law_script","_law_at","_law_many"]) (by trivial)
 have F13:=jzr (st:=top 33) fl13 fc13 fk13
 have B13:=F13.binds (ps:= ["_law_one","_law_two"]) (by trivial)
 have F14:=jzr (st:=top 34) fl14 fc14 fk14
 have B14:=F14.binds (ps:= ["_law_turn","_law_x","_law_y"]) (by trivial)
 have F15:=jzr (st:=top 35) fl15 fc15 fk15
 have B15:=F15.binds (ps:= ["_law_motion_here","_law_place"]) (by trivial)
 have F16:=jzr (st:=top 36) fl16 fc16 fk16
 have B16:=F16.binds (ps:= ["_law_first","_law_second"]) (by trivial)
 have F17:=jzr (st:=top 37) fl17 fc17 fk17
 have B17:=F17.binds (ps:= ["_law_motion_here"]) (by trivial)
 have F18:=jzr (st:=top 38) fl18 fc18 fk18
 have B18:=F18.binds (ps:= ["_law_d","_law_at"]) (by trivial)
 have F19:=jzr (st:=top 39) fl19 fc19 fk19
 have B19:=F19.binds (ps:= ["_law_found","_law_due"]) (by trivial)
 have F20:=jzr (st:=top 40) fl20 fc20 fk20
 have B20:=F20.binds (ps:= ["_law_one","_law_other"]) (by trivial)
 have F21:=jzr (st:=top 41) fl21 fc21 fk21
 have B21:=F21.binds (ps:= ["_law_sayings_here"]) (by trivial)
 have F22:=jzr (st:=top 42) fl22 fc22 fk22
 have B22:=F22.binds (ps:= ["_law_sayings_here"]) (by trivial)
 have F23:=jzr (st:=top 43) fl23 fc23 fk23
 have B23:=F23.binds (ps:= ["_law_pane_here","_law_place"]) (by trivial)
 have F24:=jzr (st:=top 44) fl24 fc24 fk24
 have B24:=F24.binds (ps:= ["_law_script"]) (by trivial)
 have F25:=jzr (st:=top 45) fl25 fc25 fk25
 have B25:=F25.binds (ps:= ["_law_d"]) (by trivial)
 have F26:=jzr (st:=top 46) fl26 fc26 fk26
 have B26:=F26.binds (ps:= ["_law_name","_law_home_here","_law_heaven_here","_law_d"]) (by trivial)
 have F27:=jzr (st:=top 47) fl27 fc27 fk27
 have B27:=F27.binds (ps:= ["_law_d"]) (by trivial)
 have F28:=jzr (st:=top 48) fl28 fc28 fk28
 have B28:=F28.binds (ps:= ["_law_script","_law_at","_law_names_here","_law_heaven_here","_law_whole"]) (by trivial)
 have F29:=jzr (st:=top 49) fl29 fc29 fk29
 have B29:=F29.binds (ps:= ["_law_rows"]) (by trivial)
 have F30:=jzr (st:=top 50) fl30 fc30 fk30
 have B30:=F30.binds (ps:= ["_law_rows","_law_place"]) (by trivial)
 have F31:=jzr (st:=top 51) fl31 fc31 fk31
 have B31:=F31.binds (ps:= ["_law_handed","_law_rows"]) (by trivial)
 have F32:=jzr (st:=top 52) fl32 fc32 fk32
 have B32:=F32.binds (ps:= ["_law_script"]) (by trivial)
 have F33:=jzr (st:=mtop 28 0) fl33 fc33 fk33
 have B33:=F33.binds (ps:= ["self","name","width","height","limit","stars"]) (by trivial)
 have F34:=jzr (st:=mtop 28 1) fl34 fc34 fk34
 have B34:=F34.binds (ps:= ["self"]) (by trivial)
 have F35:=jzr (st:=mtop 28 3) fl35 fc35 fk35
 have B35:=F35.binds (ps:= ["self","place"]) (by trivial)
 have F36:=jzr (st:=mtop 28 4) fl36 fc36 fk36
 have B36:=F36.binds (ps:= ["self","place"]) (by trivial)
 have L0:Cls K C0:=⟨kb0,kc0,kd0,ke0⟩
 have E0:ExcF K c0:=⟨xb0,xc0,xd0⟩
 have E1:ExcF K c1:=⟨xb1,xc1,xd1⟩
 have E2:ExcF K c2:=⟨xb2,xc2,xd2⟩
 have E3:ExcF K c3:=⟨xb3,xc3,xd3⟩
 refine⟨λi=>([c0,c1,c2,c3]:List Addr).getD i 0,⟨λf x hf=>?_,λg x d hg=>?_,λb=>?_,λt=>?_,W.mg_none_of X Gn z_range,λc x hx=>?_,λq hq=>?_,λq hq=>?_,W.mg_none_of X Gn z_ValueError,λp hp=>?_,λp hp=>?_,λp hp=>?_⟩,?_⟩
 ·refine AllP.get0 (P:=λf x=>∃c,T f=some c/\FcOk K mg G x c) (l:=G.fns) ?_ hf
  refine⟨⟨_,rfl,_,_,_,_,_,_,F0,sc0,rfl,rfl,B0,W.mg_of X Gn fa0,ck0⟩,?_⟩
  refine⟨⟨_,rfl,_,_,_,_,_,_,F1,sc1,rfl,rfl,B1,W.mg_of X Gn fa1,ck1⟩,?_⟩
  refine⟨⟨_,rfl,_,_,_,_,_,_,F2,sc2,rfl,rfl,B2,W.mg_of X Gn fa2,ck2⟩,?_⟩
  refine⟨⟨_,rfl,_,_,_,_,_,_,F3,sc3,rfl,rfl,B3,W.mg_of X Gn fa3,ck3⟩,?_⟩
  refine⟨⟨_,rfl,_,_,_,_,_,_,F4,sc4,rfl,rfl,B4,W.mg_of X Gn fa4,ck4⟩,?_⟩
  refine⟨⟨_,rfl,_,_,_,_,_,_,F5,sc5,rfl,rfl,B5,W.mg_of X Gn fa5,ck5⟩,?_⟩
  refine⟨⟨_,rfl,_,_,_,_,_,_,F6,sc6,rfl,rfl,B6,W.mg_of X Gn fa6,ck6⟩,?_⟩
  refine⟨⟨_,rfl,_,_,_,_,_,_,F7,sc7,rfl,rfl,B7,W.mg_of X Gn fa7,ck7⟩,?_⟩
  refine⟨⟨_,rfl,_,_,_,_,_,_,F8,sc8,rfl,rfl,B8,W.mg_of X Gn fa8,ck8⟩,?_⟩
  refine⟨⟨_,rfl,_,_,_,_,_,_,F9,sc9,rfl,rfl,B9,W.mg_of X Gn fa9,ck9⟩,?_⟩
  refine⟨⟨_,rfl,_,_,_,_,_,_,F10,sc10,rfl,rfl,B10,W.mg_of X Gn fa10,ck10⟩,?_⟩
  refine⟨⟨_,rfl,_,_,_,_,_,_,F11,sc11,rfl,rfl,B11,W.mg_of X Gn fa11,ck11⟩,?_⟩
  refine⟨⟨_,rfl,_,_,_,_,_,_,F12,sc12,rfl,rfl,B12,W.mg_of X Gn fa12,ck12⟩,?_⟩
  refine⟨⟨_,rfl,_,_,_,_,_,_,F13,sc13,rfl,rfl,B13,W.mg_of X Gn fa13,ck13⟩,?_⟩
  refine⟨⟨_,rfl,_,_,_,_,_,_,F14,sc14,rfl,rfl,B14,W.mg_of X Gn fa14,ck14⟩,?_⟩
  refine⟨⟨_,rfl,_,_,_,_,_,_,F15,sc15,rfl,rfl,B15,W.mg_of X Gn fa15,ck15⟩,?_⟩
  refine⟨⟨_,rfl,_,_,_,_,_,_,F16,sc16,rfl,rfl,B16,W.mg_of X Gn fa16,ck16⟩,?_⟩
  refine⟨⟨_,rfl,_,_,_,_,_,_,F17,sc17,rfl,rfl,B17,W.mg_of X Gn fa17,ck17⟩,?_⟩
  refine⟨⟨_,rfl,_,_,_,_,_,_,F18,sc18,rfl,rfl,B18,W.mg_of X Gn fa18,ck18⟩,?_⟩
  refine⟨⟨_,rfl,_,_,_,_,_,_,F19,sc19,rfl,rfl,B19,W.mg_of X Gn fa19,ck19⟩,?_⟩
  refine⟨⟨_,rfl,_,_,_,_,_,_,F20,sc20,rfl,rfl,B20,W.mg_of X Gn fa20,ck20⟩,?_⟩
  refine⟨⟨_,rfl,_,_,_,_,_,_,F21,sc21,rfl,rfl,B21,W.mg_of X Gn fa21,ck21⟩,?_⟩
  refine⟨⟨_,rfl,_,_,_,_,_,_,F22,sc22,rfl,rfl,B22,W.mg_of X Gn fa22,ck22⟩,?_⟩
  refine⟨⟨_,rfl,_,_,_,_,_,_,F23,sc23,rfl,rfl,B23,W.mg_of X Gn fa23,ck23⟩,?_⟩
  refine⟨⟨_,rfl,_,_,_,_,_,_,F24,sc24,rfl,rfl,B24,W.mg_of X Gn fa24,ck24⟩,?_⟩
  refine⟨⟨_,rfl,_,_,_,_,_,_,F25,sc25,rfl,rfl,B25,W.mg_of X Gn fa25,ck25⟩,?_⟩
  refine⟨⟨_,rfl,_,_,_,_,_,_,F26,sc26,rfl,rfl,B26,W.mg_of X Gn fa26,ck26⟩,?_⟩
  refine⟨⟨_,rfl,_,_,_,_,_,_,F27,sc27,rfl,rfl,B27,W.mg_of X Gn fa27,ck27⟩,?_⟩
  refine⟨⟨_,rfl,_,_,_,_,_,_,F28,sc28,rfl,rfl,B28,W.mg_of X Gn fa28,ck28⟩,?_⟩
  refine⟨⟨_,rfl,_,_,_,_,_,_,F29,sc29,rfl,rfl,B29,W.mg_of X Gn fa29,ck29⟩,?_⟩
  refine⟨⟨_,rfl,_,_,_,_,_,_,F30,sc30,rfl,rfl,B30,W.mg_of X Gn fa30,ck30⟩,?_⟩
  refine⟨⟨_,rfl,_,_,_,_,_,_,F31,sc31,rfl,rfl,B31,W.mg_of X Gn fa31,ck31⟩,?_⟩
  refine⟨⟨_,rfl,_,_,_,_,_,_,F32,sc32,rfl,rfl,B32,W.mg_of X Gn fa32,ck32⟩,?_⟩
  exact trivial
 ·refine AllP.get0 (P:=λ_ p=>∃v u,mg p.1=some u/\RelV v u/\∀m H,RD K m H p.2 v) (l:=G.csts) ?_ hg
  refine⟨⟨V.ref t0,_,W.mg_of X Gn ga0,rfl,λm H=>cstT (vs:= [V.int (0),V.int (0)]) tt0 (by show 2<=sizeLine;decide) (.cons ⟨_,rfl⟩ (.cons ⟨_,rfl⟩ .nil)) (.cons (RD.int _) (.cons (RD.int _) .nil))⟩,?_⟩
  refine⟨⟨V.ref t3,_,W.mg_of X Gn ga1,rfl,λm H=>cstT (vs:= [V.ref t4,V.ref t9,V.ref t14,V.ref t19,V.ref t24,V.ref t29,V.ref t34,V.ref t39]) tt3 (by show 8<=sizeLine;decide) (.cons rfl (.cons rfl (.cons rfl (.cons rfl (.cons rfl (.cons rfl (.cons rfl (.cons rfl .nil)))))))) (.cons (cstT (vs:= [V.int (1),V.int (0),V.int (0),V.int (1)]) tt4 (by show 4<=sizeLine;decide) (.cons ⟨_,rfl⟩ (.cons ⟨_,rfl⟩ (.cons ⟨_,rfl⟩ (.cons ⟨_,rfl⟩ .nil)))) (.cons (RD.int _) (.cons (RD.int _) (.cons (RD.int _) (.cons (RD.int _) .nil))))) (.cons (cstT (vs:= [V.int (0),V.int (-1),V.int (1),V.int (0)]) tt9 (by show 4<=sizeLine;decide) (.cons ⟨_,rfl⟩ (.cons ⟨_,rfl⟩ (.cons ⟨_,rfl⟩ (.cons ⟨_,rfl⟩ .nil)))) (.cons (RD.int _) (.cons (RD.int _) (.cons (RD.int _) (.cons (RD.int _) .nil))))) (.cons (cstT (vs:= [V.int (-1),V.int (0),V.int (0),V.int (-1)]) tt14 (by show 4<=sizeLine;decide) (.cons ⟨_,rfl⟩ (.cons ⟨_,rfl⟩ (.cons ⟨_,rfl⟩ (.cons ⟨_,rfl⟩ .nil)))) (.cons (RD.int _) (.cons (RD.int _) (.cons (RD.int _) (.cons (RD.int _) .nil))))) (.cons (cstT (vs:= [V.int (0),V.int (1),V.int (-1),V.int (0)]) tt19 (by show 4<=sizeLine;decide) (.cons ⟨_,rfl⟩ (.cons ⟨_,rfl⟩ (.cons ⟨_,rfl⟩ (.cons ⟨_,rfl⟩ .nil)))) (.cons (RD.int _) (.cons (RD.int _) (.cons (RD.int _) (.cons (RD.int _) .nil))))) (.cons (cstT (vs:= [V.int (-1),V.int (0),V.int (0),V.int (1)]) tt24 (by show 4<=sizeLine;decide) (.cons ⟨_,rfl⟩ (.cons ⟨_,rfl⟩ (.cons ⟨_,rfl⟩ (.cons ⟨_,rfl⟩ .nil)))) (.cons (RD.int _) (.cons (RD.int _) (.cons (RD.int _) (.cons (RD.int _) .nil))))) (.cons (cstT (vs:= [V.int (0),V.int (-1),V.int (-1),V.int (0)]) tt29 (by show 4<=sizeLine;decide) (.cons ⟨_,rfl⟩ (.cons ⟨_,rfl⟩ (.cons ⟨_,rfl⟩ (.cons ⟨_,rfl⟩ .nil)))) (.cons (RD.int _) (.cons (RD.int _) (.cons (RD.int _) (.cons (RD.int _) .nil))))) (.cons (cstT (vs:= [V.int (1),V.int (0),V.int (0),V.int (-1)]) tt34 (by show 4<=sizeLine;decide) (.cons ⟨_,rfl⟩ (.cons ⟨_,rfl⟩ (.cons ⟨_,rfl⟩ (.cons ⟨_,rfl⟩ .nil)))) (.cons (RD.int _) (.cons (RD.int _) (.cons (RD.int _) (.cons (RD.int _) .nil))))) (.cons (cstT (vs:= [V.int (0),V.int (1),V.int (1),V.int (0)]) tt39 (by show 4<=sizeLine;decide) (.cons ⟨_,rfl⟩ (.cons ⟨_,rfl⟩ (.cons ⟨_,rfl⟩ (.cons ⟨_,rfl⟩ .nil)))) (.cons (RD.int _) (.cons (RD.int _) (.cons (RD.int _) (.cons (RD.int _) .nil))))) .nil))))))))⟩,?_⟩
  refine⟨⟨V.int (4),_,W.mg_of X Gn ga2,⟨_,rfl⟩,λm H=>RD.int _⟩,?_⟩
  refine⟨⟨V.int (9),_,W.mg_of X Gn ga3,⟨_,rfl⟩,λm H=>RD.int _⟩,?_⟩
  refine⟨⟨V.ref t46,_,W.mg_of X Gn ga4,rfl,λm H=>cstT (vs:= [V.str "unseen",V.int (0)]) tt46 (by show 2<=sizeLine;decide) (.cons ⟨_,rfl⟩ (.cons ⟨_,rfl⟩ .nil)) (.cons (RD.str _) (.cons (RD.int _) .nil))⟩,?_⟩
  refine⟨⟨V.str "abcdefghijklmnopqrstuvwxyz",_,W.mg_of X Gn ga5,⟨_,rfl⟩,λm H=>RD.str _⟩,?_⟩
  refine⟨⟨V.int (8),_,W.mg_of X Gn ga6,⟨_,rfl⟩,λm H=>RD.int _⟩,?_⟩
  refine⟨⟨V.int (8),_,W.mg_of X Gn ga7,⟨_,rfl⟩,λm H=>RD.int _⟩,?_⟩
  refine⟨⟨V.int (8),_,W.mg_of X Gn ga8,⟨_,rfl⟩,λm H=>RD.int _⟩,?_⟩
  exact trivial
 ·cases b
  ·exact W.mg_none_of X Gn z_len
  ·exact W.mg_none_of X Gn z_isinstance
  ·exact W.mg_none_of X Gn z_int
  ·exact W.mg_none_of X Gn z_list
  ·exact W.mg_none_of X Gn z_max
  ·exact W.mg_none_of X Gn z_min
  ·exact W.mg_none_of X Gn z_sorted
  ·exact W.mg_none_of X Gn z_all
  ·exact W.mg_none_of X Gn z_tuple
 ·cases t
  ·exact W.mg_none_of X Gn z_int
  ·exact W.mg_none_of X Gn z_bool
  ·exact W.mg_none_of X Gn z_str
  ·exact W.mg_none_of X Gn z_tuple
  ·exact W.mg_none_of X Gn z_list
 ·refine AllP.get0 (P:=λc x=>mg x=some (.ref (([c0,c1,c2,c3]:List Addr).getD c 0))/\ExcF K (([c0,c1,c2,c3]:List Addr).getD c 0)) (l:=G.excs) ?_ hx
  refine⟨⟨W.mg_of X Gn xa0,E0⟩,?_⟩
  refine⟨⟨W.mg_of X Gn xa1,E1⟩,?_⟩
  refine⟨⟨W.mg_of X Gn xa2,E2⟩,?_⟩
  refine⟨⟨W.mg_of X Gn xa3,E3⟩,?_⟩
  exact trivial
 ·simp only[G,List.mem_cons,List.not_mem_nil,or_false] at hq
  rcases hq with rfl|rfl|rfl|rfl|rfl|rfl|rfl
  ·exact⟨xe0,xf0,E0⟩
  ·exact⟨xe1,xf1,E1⟩
  ·exact⟨xe2,xf2,E1⟩
  ·exact⟨xe3,xf3,E2⟩
  ·exact⟨xe4,xf4,E2⟩
  ·exact⟨xe5,xf5,E3⟩
  ·exact⟨xe6,xf6,E3⟩
 ·simp only[G,List.mem_cons,List.not_mem_nil,or_false] at hq
  rcases hq with rfl|rfl
  ·exact⟨nh0,na1,nb1,nc1,nf0,ng0,nd1,ne1,_,_,xb1⟩
  ·exact⟨nh1,na2,nb2,nc2,nf0,ng0,nd2,ne2,_,_,xb2⟩
 ·refine AllP.mem (i:=0) (P:=λp=>∃C,W.nsIn K mainGlobals p.1=some (some (.ref C))/\Cls K C/\NoAttr K C p.2) (l:=G.atts) ?_ hp
  refine⟨⟨_,ka0,L0,kn0⟩,?_⟩
  refine⟨⟨_,ka0,L0,kn1⟩,?_⟩
  refine⟨⟨_,ka0,L0,kn2⟩,?_⟩
  refine⟨⟨_,ka0,L0,kn3⟩,?_⟩
  refine⟨⟨_,ka0,L0,kn4⟩,?_⟩
  exact trivial
 ·refine AllP.mem (i:=0) (P:=λp=>∃C c,W.nsIn K mainGlobals p.1=some (some (.ref C))/\Cls K C/\T p.2.2=some c/\FmOk K G (λfa=>Meth K C p.2.1 fa) p.2.1 c) (l:=G.meths) ?_ hp
  refine⟨⟨_,_,ka0,L0,rfl,⟨_,_,_,_,_,_,F34,sc34,rfl,rfl,B34,⟨fa34,fi34,fk34⟩,ck34⟩⟩,?_⟩
  refine⟨⟨_,_,ka0,L0,rfl,⟨_,_,_,_,_,_,F35,sc35,rfl,rfl,B35,⟨fa35,fi35,fk35⟩,ck35⟩⟩,?_⟩
  refine⟨⟨_,_,ka0,L0,rfl,⟨_,_,_,_,_,_,F36,sc36,rfl,rfl,B36,⟨fa36,fi36,fk36⟩,ck36⟩⟩,?_⟩
  exact trivial
 ·refine AllP.mem (i:=0) (P:=λp=>∃C c,W.nsIn K mainGlobals p.1=some (some (.ref C))/\mg p.1=some (.ref C)/\T p.2=some c/\FmOk K G (λfa=>Mk K C fa) "__init__" c) (l:=G.news) ?_ hp
  refine⟨⟨_,_,ka0,W.mg_of X Gn ka0,rfl,⟨_,_,_,_,_,_,F33,sc33,rfl,rfl,B33,⟨kf0,fa33,fi33,kg0⟩,ck33⟩⟩,?_⟩
  exact trivial
 ·exact⟨_,λs v=>.of_eq rfl,_,_,_,_,rfl,F32,sc32,rfl,rfl,ck32⟩
end Pk15
namespace Pk15
open PySem L2 Ng
def W:Nat:=2000
theorem wzE(n:Nat)(t x y:Int)(h:Hh)(h0:0<=t)(h1:t<8):callD G T W (n+1) 0 [.int t,.tup [.int x,.int y]] h=.ok (.tup [.int (tx t x y),.int (ty t x y)]) h:=by
 obtain⟨c1,c2,c3,c4⟩:=cf_b h0 h1
 have ea:=cf_at h0 h1
 rw[jzk (c:=⟨2,8,b0⟩) rfl rfl,tx_cf,ty_cf]
 generalize (cf t).1=a1,(cf t).2.1=a2,(cf t).2.2.1=a3,(cf t).2.2.2=a4 at*
 generalize callD G T W n=cl
 show(xss G cl W b0 [some (.int t),some (.tup [.int x,.int y]),none,none,none,none,none,none] h).bind endD=_
 have e1:ev G cl (.ix (.gc 1) (.var 0)) [some (.int t),some (.tup [.int x,.int y]),some (.int x),some (.int y),none,none,none,none] h=.ok (.tup [.int a1,.int a2,.int a3,.int a4]) h:=by
  rw[evIx,evGc,gc1]
  simp only[jze]
  rw[evV (x:=.int t) rfl,jze,Ng.iTup,ea]
 rw[b0,xssNx (r':= [some (.int t),some (.tup [.int x,.int y]),some (.int x),some (.int y),none,none,none,none]) (h':=h) (by rw[xsAsg,evV (x:=.tup [.int x,.int y]) rfl];rfl),
  xssNx (r':= [some (.int t),some (.tup [.int x,.int y]),some (.int x),some (.int y),some (.int a1),some (.int a2),some (.int a3),some (.int a4)]) (h':=h) (by rw[xsAsg,e1];rfl),
  xssRt (d:=.tup [.int (a1*x+a2*y),.int (a3*x+a4*y)]) (h':=h) (by
   rw[xsRet,evTup,jzB,jzg (jzg (x:=.int a1) (y:=.int x) (evV rfl) (evV rfl) (bMul2 h c1.1 c1.2)) (jzg (x:=.int a2) (y:=.int y) (evV rfl) (evV rfl) (bMul2 h c2.1 c2.2)) (bAdd ..),jze,
    jzB,jzg (jzg (x:=.int a3) (y:=.int x) (evV rfl) (evV rfl) (bMul2 h c3.1 c3.2)) (jzg (x:=.int a4) (y:=.int y) (evV rfl) (evV rfl) (bMul2 h c4.1 c4.2)) (bAdd ..),jze,jzO]
   rfl)]
 rfl
theorem tback_ok(n:Nat)(t:Int)(h:Hh)(h0:0<=t)(h1:t<8):callD G T W (n+1) 1 [.int t] h=.ok (.int (tb t)) h:=by
 have q4:∀x:Int,binD .mod (.int x) (.int 4) h=.ok (.int (x%4)) h:=λx=>bMod h (by omega)
 rw[jzk (c:=⟨1,1,b1⟩) rfl rfl]
 by_cases c:4<=t<;>simp[b1,gc0,gc1,gc2,gc3,gc4,gc5,gc6,gc7,gc8,tb,q4,c]
theorem vzB(n:Nat)(t p q x y:Int)(h:Hh)(h0:0<=t)(h1:t<8):callD G T W (n+2) 2 [.tup [.int t,.int p,.int q],.tup [.int x,.int y]] h=.ok (.tup [.int (tx t x y+p),.int (ty t x y+q)]) h:=by
 rw[jzk (c:=⟨2,7,b2⟩) rfl rfl]
 simp[b2,wzE n t x y h h0 h1]
theorem zzc(n:Nat)(t x y a b:Int)(h:Hh)(h0:0<=t)(h1:t<8):callD G T W (n+2) 3 [.int t,.tup [.int x,.int y],.tup [.int a,.int b]] h=.ok (.tup [.int t,.int (a-tx t x y),.int (b-ty t x y)]) h:=by
 rw[jzk (c:=⟨3,7,b3⟩) rfl rfl]
 simp[b3,wzE n t x y h h0 h1]
theorem back_ok(n:Nat)(t p q:Int)(h:Hh)(h0:0<=t)(h1:t<8):callD G T W (n+3) 4 [.tup [.int t,.int p,.int q]] h=.ok (.tup [.int (tb t),.int (0-tx (tb t) (tx t 0 0+p) (ty t 0 0+q)),.int (0-ty (tb t) (tx t 0 0+p) (ty t 0 0+q))]) h:=by
 rw[jzk (c:=⟨1,1,b4⟩) rfl rfl]
 obtain⟨b0,b1⟩:=tb_in h0 h1
 have e1:callD G T W (n+2) _ _ h=_:=tback_ok (n+1) t h h0 h1
 have e2:=vzB n t p q 0 0 h h0 h1
 have e3:=zzc n (tb t) (tx t 0 0+p) (ty t 0 0+q) 0 0 h b0 b1
 simp[b4,gc0,gc1,gc2,gc3,gc4,gc5,gc6,gc7,gc8,atI,ixN,e1,e2,e3]
theorem span_ok(n:Nat)(s:Sy)(h:Hh):callD G T W (n+1) 5 [s.d] h=.ok (spD2 s) h:=by
 rw[jzk (c:=⟨1,3,b5⟩) rfl rfl]
 cases s<;>simp[b5,Sy.d,spD2,Sy.lo,Sy.hi,gc3]
theorem cspan_ok(n:Nat)(ss:List Sy)(k:Nat)(h:Hh)(hl:lstAt h k=some (ss.map Sy.d))(hm:ss.length<=1000):∃g,callD G T W (n+2) 6 [.ref k] h=.ok (.tup [.int (clo ss),.int (chi ss)]) (h++g):=by
 rw[jzk (c:=⟨1,4,b6⟩) rfl rfl]
 generalize hcl:callD G T W (n+1)=cl
 have hs:∀(s:Sy)(h:Hh),cl 5 [s.d] h=.ok (spD2 s) h:=λs h=>by rw[<- hcl];exact span_ok n s h
 obtain⟨g1,e1⟩:=wzv (G:=G) (cl:=cl) (t:=.nm 0) (it:=.cons (.var 0) .nil) (e:=.call 5 (.cons (.var 0) .nil)) (N:= ["saying"]) (cap:= []) (r:= [some (.ref k),none,none,none]) (h:=h) (h1:=h) (l:=ss) Sy.d (λr=>∃d,r=[d]) spD2 (by simp) hl hm ⟨_,rfl⟩
  (by rintro s _ r h ⟨d,rfl⟩;exact⟨_,rfl,⟨_,rfl⟩,by simp[hs]⟩)
 have x1:=jzN h g1 (ss.map spD2)
 generalize hH1:h++O.lst (ss.map spD2)::g1=H1 at e1 x1
 obtain⟨g2,e2⟩:=wzv (G:=G) (cl:=cl) (t:=.tp [0,1]) (it:=.cons (.var 1) .nil) (e:=.var 0) (N:= ["low","high"]) (cap:= []) (r:= [some (.ref k),some (.ref h.length),none,none]) (h:=H1) (h1:=H1) (l:=ss) spD2 (λr=>∃a b,r=[a,b]) (λs=>.int s.lo) (by simp) x1 hm ⟨_,_,rfl⟩
  (by rintro s _ r h ⟨a,b,rfl⟩;exact⟨_,rfl,⟨_,_,rfl⟩,by simp[spD2]⟩)
 have x2:lstAt (H1++O.lst (ss.map λs=>.int s.lo)::g2) h.length=some (ss.map spD2):=jzC _ _ x1
 have y2:=jzN H1 g2 (ss.map λs=>.int s.lo)
 generalize hH2:H1++O.lst (ss.map λs=>.int s.lo)::g2=H2 at e2 x2 y2
 obtain⟨g3,e3⟩:=wzv (G:=G) (cl:=cl) (t:=.tp [0,1]) (it:=.cons (.var 1) .nil) (e:=.var 1) (N:= ["low","high"]) (cap:= []) (r:= [some (.ref k),some (.ref h.length),some (.int (clo ss)),none]) (h:=H2) (h1:=H2) (l:=ss) spD2 (λr=>∃a b,r=[a,b]) (λs=>.int s.hi) (by simp) x2 hm ⟨_,_,rfl⟩
  (by rintro s _ r h ⟨a,b,rfl⟩;exact⟨_,rfl,⟨_,_,rfl⟩,by simp[spD2]⟩)
 have y3:=jzN H2 g3 (ss.map λs=>.int s.hi)
 generalize hH3:H2++O.lst (ss.map λs=>.int s.hi)::g3=H3 at e3 y3
 have m2:=vzT (L:=ss.map Sy.lo) true 0 (by rw[y2,List.map_map];rfl)
 have m3:=vzT (L:=ss.map Sy.hi) false 9 (by rw[y3,List.map_map];rfl)
 refine⟨O.lst (ss.map spD2)::g1++(O.lst (ss.map λs=>.int s.lo)::g2)++(O.lst (ss.map λs=>.int s.hi)::g3),?_⟩
 rw[show h++(O.lst (ss.map spD2)::g1++(O.lst (ss.map λs=>.int s.lo)::g2)++(O.lst (ss.map λs=>.int s.hi)::g3))=H3 by rw[<- hH3, <- hH2, <- hH1];simp]
 show(xss G cl W b6 [some (.ref k),none,none,none] h).bind endD=_
 rw[b6,xssNx (r':= [some (.ref k),some (.ref h.length),none,none]) (h':=H1) (by rw[xsAsc,e1];rfl),
  xssNx (r':= [some (.ref k),some (.ref h.length),some (.int (clo ss)),none]) (h':=H2) (by rw[xsAsg,evMxd,e2];simp[m2];rfl),
  xssNx (r':= [some (.ref k),some (.ref h.length),some (.int (clo ss)),some (.int (chi ss))]) (h':=H3) (by rw[xsAsg,evMxd,e3];simp[gc3,m3];rfl)]
 simp
theorem nrw_ok(n:Nat)(lo hi:Int)(h:Hh):callD G T W (n+1) 7 [.int lo,.int hi] h=.ok (nrw lo hi).d h:=by
 rw[jzk (c:=⟨2,2,b7⟩) rfl rfl]
 unfold nrw
 by_cases h1:lo=hi
 ·subst h1
  by_cases h2:0<lo
  ·simp[b7,h2,Sy.d]
  ·by_cases h3:lo<9
   ·simp[b7,gc3,h2,h3,Sy.d]
   ·simp[b7,gc3,gc4,h2,h3,Sy.d]
 ·by_cases h3:hi<9
  ·simp[b7,gc3,h1,h3,Sy.d]
  ·simp[b7,gc3,gc4,h1,h3,Sy.d]
theorem pool_ok(n:Nat)(ss:List Sy)(k:Nat)(h:Hh)(hl:lstAt h k=some (ss.map Sy.d))(hm:ss.length<=1000):∃g,(decide (clo ss<=chi ss)=true->callD G T W (n+3) 8 [.ref k] h=.ok (nrw (clo ss) (chi ss)).d (h++g))/\(decide (clo ss<=chi ss)=false->∃r,callD G T W (n+3) 8 [.ref k] h=.exc 3 r (h++g)):=by
 rw[jzk (c:=⟨1,3,b8⟩) rfl rfl]
 obtain⟨g,e⟩:=cspan_ok n ss k h hl hm
 have e2:=nrw_ok (n+1) (clo ss) (chi ss) (h++g)
 rw[show n+1+1=n+2 from rfl] at e2
 generalize callD G T W (n+2)=cl at e e2
 refine⟨g,λhd=>?_,λhd=>?_⟩
 ·have hd':¬chi ss<clo ss:=by have:=of_decide_eq_true hd;omega
  simp[b8,e,hd',e2]
 ·have hd':chi ss<clo ss:=by have:=of_decide_eq_false hd;omega
  simp[b8,e,hd']
theorem draws(n:Nat)(ns:List Int)(at':Int)(M:Nat)(hM:M<=1000)(h:Hh)(h0:0<=at')(h1:at'<100000)(hs:lstAt h 0=some (ns.map D.int)):∃row:List Int,row.length=M/\InR row/\callD G T W (n+1) 12 [.ref 0,.int at',.int M] h=.ok (.ref h.length) (h++ [.lst (row.map D.int)]):=by
 obtain⟨row,r1,r2,e⟩:=draws_ok G (callD G T W n) W h 0 ns at' M hM h0 h1 hs (by decide)
 refine⟨row,r1,r2,?_⟩
 rw[jzk (c:=⟨3,7,b12⟩) rfl rfl]
 have e':xss G (callD G T W n) W b12 _ h=_:=e
 show(xss G (callD G T W n) W b12 [some (.ref 0),some (.int at'),some (.int M),none,none,none,none] h).bind endD=_
 rw[e']
 rfl
theorem far_ok(n:Nat)(a b:Int)(h:Hh)(hb:0<=b)(hb2:b<1013):∃v:Int,callD G T W (n+1) 13 [.int a,.int b] h=.ok (.int v) h:=by
 have q1:∀x:Int,binD .mod (.int x) (.int 5) h=.ok (.int (x%5)) h:=λx=>bMod h (by omega)
 have q2:∀x:Int,binD .mod (.int x) (.int 13) h=.ok (.int (x%13)) h:=λx=>bMod h (by omega)
 have q3:∀x:Int,binD .fdiv (.int x) (.int 5) h=.ok (.int (x/5)) h:=λx=>bDiv h (by omega) (by omega)
 have q4:∀x:Int,binD .mul (.int x) (.int 1013) h=.ok (.int (x*1013)) h:=λx=>bMulR h (by omega) (by omega)
 have q5:∀x:Int,binD .mul (.int (b-506)) (.int x) h=.ok (.int ((b-506)*x)) h:=λx=>bMulL h (by omega) (by omega)
 rw[jzk (c:=⟨2,2,b13⟩) rfl rfl]
 by_cases h1:a%5<3
 ·exact⟨a/5%13-6,by simp[b13,q1,q2,q3,h1]⟩
 ·by_cases h2:a%5=3
  ·exact⟨a*1013+b-513000,by simp[b13,q1,q2,q3,q4,h1,h2]⟩
  ·exact⟨(b-506)*1000000000000000000000000000+a,by simp[b13,q1,q2,q3,q4,q5,h1,h2]⟩
theorem iLast(h:Hh)(l:List D)(i:Int):ixD (.ref h.length) (.int i) (h++ [.lst l])=(match atI l i with|some d=>.ok d (h++ [.lst l])|none=>.bad):=iRef _ _ (jzv _ _)
theorem qzk(n:Nat)(t x y:Int)(h:Hh)(h0:0<=t)(h1:t<8):∃g,callD G T W (n+1) 14 [.int t,.int x,.int y] h=.ok (.tup [.int (tx t x y),.int (ty t x y)]) (h++g):=by
 rw[jzk (c:=⟨3,3,b14⟩) rfl rfl]
 generalize callD G T W n=cl
 refine⟨[.lst [.tup [.int x,.int y],.tup [.int (-y),.int x],.tup [.int (-x),.int (-y)],.tup [.int y,.int (-x)],.tup [.int (-x),.int y],.tup [.int (-y),.int (-x)],.tup [.int x,.int (-y)],.tup [.int y,.int x]]],?_⟩
 have ea:=tx_at h0 h1 x y
 generalize tx t x y=X,ty t x y=Y at ea⊢
 show(xss G cl W b14 [some (.int t),some (.int x),some (.int y)] h).bind endD=_
 rw[b14,xssRt (d:=.tup [.int X,.int Y]) (by
  rw[xsRet,evIx,evLst]
  simp only[jzB,jzO,evTup,evVar,evNeg,List.getElem?_cons_succ,ge0,jze,List.length_cons,List.length_nil,Nat.reduceAdd,Nat.reduceLeDiff,if_true]
  rw[iLast,ea]
  rfl)]
 rfl
theorem zzY(n:Nat)(t p q x y:Int)(h:Hh)(h0:0<=t)(h1:t<8):∃g,callD G T W (n+2) 15 [.tup [.int t,.int p,.int q],.tup [.int x,.int y]] h=.ok (.tup [.int (tx t x y+p),.int (ty t x y+q)]) (h++g):=by
 obtain⟨g,e⟩:=qzk n t x y h h0 h1
 refine⟨g,?_⟩
 rw[jzk (c:=⟨2,4,b15⟩) rfl rfl]
 simp[b15,atI,ixN,e]
theorem lbehind(n:Nat)(a b:M3)(h:Hh)(ha:ok8 a)(hb:ok8 b):∃g,callD G T W (n+2) 16 [mo a,mo b] h=.ok (mo (bh a b)) (h++g):=by
 obtain⟨t,p,q⟩:=a
 obtain⟨u,r,s⟩:=b
 obtain⟨g,e⟩:=qzk n u p q h hb.1 hb.2
 have a1:0<=t:=ha.1
 have a2:t<8:=ha.2
 have b1:0<=u:=hb.1
 have b2:u<8:=hb.2
 have q4:∀(x:Int)(h:Hh),binD .mod (.int x) (.int 4) h=.ok (.int (x%4)) h:=λx h=>bMod h (by omega)
 have q2:∀(x:Int)(h:Hh),binD .mod (.int x) (.int 2) h=.ok (.int (x%2)) h:=λx h=>bMod h (by omega)
 have f4:∀(x:Int)(h:Hh),binD .fdiv (.int x) (.int 4) h=.ok (.int (x/4)) h:=λx h=>bDiv h (by omega) (by omega)
 have m4:∀(x:Int)(h:Hh),binD .mul (.int 4) (.int x) h=.ok (.int (4*x)) h:=λx h=>bMulL h (by omega) (by omega)
 refine⟨g,?_⟩
 rw[jzk (c:=⟨2,6,b16⟩) rfl rfl]
 have hT:=tbh_l a1 a2 b1 b2
 by_cases c:3<u
 ·rw[if_pos c] at hT
  simp[b16,mo,bh,atI,ixN,q4,f4,q2,m4,c,e,hT]
 ·rw[if_neg c] at hT
  simp[b16,mo,bh,atI,ixN,q4,f4,q2,m4,c,e, <- hT]
theorem lback(n:Nat)(a:M3)(h:Hh)(ha:ok8 a):∃g,callD G T W (n+2) 17 [mo a] h=.ok (mo (bk a)) (h++g):=by
 obtain⟨t,p,q⟩:=a
 obtain⟨b1,b2⟩:=tb_in (t:=t) ha.1 ha.2
 obtain⟨g,e⟩:=qzk n (tb t) p q (h++ [.lst [.int 0,.int 3,.int 2,.int 1,.int 4,.int 5,.int 6,.int 7]]) b1 b2
 refine⟨[.lst [.int 0,.int 3,.int 2,.int 1,.int 4,.int 5,.int 6,.int 7]]++g,?_⟩
 have ix:ixD (.ref h.length) (.int t) (h++ [.lst [.int 0,.int 3,.int 2,.int 1,.int 4,.int 5,.int 6,.int 7]])=.ok (.int (tb t)) (h++ [.lst [.int 0,.int 3,.int 2,.int 1,.int 4,.int 5,.int 6,.int 7]]):=by
  rw[iRef _ _ (jzv _ _)]
  rcases t8 ha.1 ha.2 with e|e|e|e|e|e|e|e<;>(simp only at e;subst e;rfl)
 rw[jzk (c:=⟨1,4,b17⟩) rfl rfl, <- List.append_assoc]
 have i0:ixD (mo (t,p,q)) (.int 0) (h++ [.lst [.int 0,.int 3,.int 2,.int 1,.int 4,.int 5,.int 6,.int 7]])=.ok (.int t) (h++ [.lst [.int 0,.int 3,.int 2,.int 1,.int 4,.int 5,.int 6,.int 7]]):=rfl
 have i1:ixD (mo (t,p,q)) (.int 1) (h++ [.lst [.int 0,.int 3,.int 2,.int 1,.int 4,.int 5,.int 6,.int 7]])=.ok (.int p) (h++ [.lst [.int 0,.int 3,.int 2,.int 1,.int 4,.int 5,.int 6,.int 7]]):=rfl
 have i2:ixD (mo (t,p,q)) (.int 2) (h++ [.lst [.int 0,.int 3,.int 2,.int 1,.int 4,.int 5,.int 6,.int 7]])=.ok (.int q) (h++ [.lst [.int 0,.int 3,.int 2,.int 1,.int 4,.int 5,.int 6,.int 7]]):=rfl
 simp[b17,bk,i0,i1,i2,ix,e]
 rfl
theorem zzb(n k:Nat)(l:List Int)(at':Nat)(a0 a1 a2 a3 a4:Int)(h:Hh)(hl:lstAt h k=some (l.map D.int))(e0:l[at']? =some a0)(e1:l[at'+1]? =some a1)(e2:l[at'+2]? =some a2)(e3:l[at'+3]? =some a3)(e4:l[at'+4]? =some a4)(hr:InR l):
 ∃t p q:Int,0<=t/\t<8/\callD G T W (n+2) 18 [.ref k,.int at'] h=.ok (.tup [.int t,.int p,.int q]) h:=by
 have mem:∀(j:Nat) v,l[j]? =some v->0<=v/\v<1013:=λj v e=>hr v (List.mem_of_getElem? e)
 obtain⟨p,ep⟩:=far_ok n a1 a2 h (mem _ _ e2).1 (mem _ _ e2).2
 obtain⟨q,eq⟩:=far_ok n a3 a4 h (mem _ _ e4).1 (mem _ _ e4).2
 have g:∀(j:Nat) v,l[j]? =some v->atI (l.map D.int) (j:Int)=some (.int v):=λj v e=>qza (by rw[List.getElem?_map,e];rfl)
 have g0:=g _ _ e0
 have g1:=g _ _ e1
 have g2:=g _ _ e2
 have g3:=g _ _ e3
 have g4:=g _ _ e4
 simp only[Int.natCast_add,Int.cast_ofNat_Int] at g1 g2 g3 g4
 have q8:∀x:Int,binD .mod (.int x) (.int 8) h=.ok (.int (x%8)) h:=λx=>bMod h (by omega)
 refine⟨a0%8,p,q,by omega,by omega,?_⟩
 have hix:∀j:Int,ixD (.ref k) (.int j) h=(match atI (l.map D.int) j with|some d=>.ok d h|none=>.bad):=λj=>iRef h j hl
 rw[jzk (c:=⟨2,2,b18⟩) rfl rfl]
 simp[b18,hix,g0,g1,g2,g3,g4,ep,eq,q8]
abbrev sameL:Ss:=(.cons (.iff (.not (.call 19 (.cons (.ix (.var 0) (.var 2)) (.cons (.ix (.var 1) (.var 2)) .nil)))) (.cons (.ret (.bl false)) .nil) .nil) .nil)
theorem same_seq{cl:Cl}(x y:D)(l:List D)(h:Hh)(hl:l.length<=1000)(ix:∀k:Nat,∀d,l[k]? =some d->ixD x (.int k) h=.ok d h/\ixD y (.int k) h=.ok d h)(hs:∀d∈l,cl 19 [d,d] h=.ok (.bl true) h)
 (ny:bltD .len [y] h=.ok (.int l.length) h):
 ∃r',xs G cl W (.forr (.nm 2) (.r1 (.blt .len (.cons (.var 1) .nil))) sameL) [some x,some y,none] h=.ok (.nx r') h:=by
 obtain⟨r',el,_⟩:=zz8 (t:=.nm 2) (body:=xss G cl W sameL) (λr=>∃d2,r=[some x,some y,d2]) h (rngD 0 l.length)
  (by
    rintro d hd r ⟨d2,rfl⟩
    obtain⟨j,hj,rfl⟩:=rngD_mem hd
    have ej:l[j]? =some l[j]:=List.getElem?_eq_getElem hj
    obtain⟨i1,i2⟩:=ix j _ ej
    have es:=hs l[j] (List.getElem_mem hj)
    exact⟨_,_,rfl,by simp[sameL,i1,i2,es];rfl,_,rfl⟩)
  [some x,some y,none] ⟨none,rfl⟩
 exact⟨r',qzv (j:=l.length) (h1:=h) (by simp[ny]) (qzD (by omega)) el⟩
theorem wzL(d:D)(hd:pd 0 d=true)(n:Nat)(h:Hh):callD G T W (n+1) 19 [d,d] h=.ok (.bl true) h:=by
 rw[jzk (c:=⟨2,3,b19⟩) rfl rfl]
 generalize callD G T W n=cl
 have e1:∀d:D,pd 0 d=true->ev G cl (.blt .isinst (.cons (.var 1) (.cons (.tup (.cons (.ty .tuple) (.cons (.ty .list) .nil))) .nil))) [some d,some d,none] h=.ok (.bl false) h:=λd hd=>by
  simp only[evBlt,jzB,jzO,evVar,evTup,evTy,List.getElem?_cons_succ,ge0,jze,List.length_cons,List.length_nil,Nat.reduceAdd,Nat.reduceLeDiff,if_true,bIs]
  cases d<;>first |(cases hd;done)|rfl
 have eT:∀(d:D)(i:Nat)(t:Ty)(b:Bool),([some d,some d,none]:Ev)[i]? =some (some d)->isinL d (.ty t.nm) h=.ok (.bl b) h->ev G cl (.blt .isinst (.cons (.var i) (.cons (.ty t) .nil))) [some d,some d,none] h=.ok (.bl b) h:=λd i t b hi e=>by
  simp only[evBlt,jzB,jzO,evV hi,evTy,jze,bIs,e]
 have eN:∀(d:D)(i:Nat),([some d,some d,none]:Ev)[i]? =some (some d)->ev G cl (.cmp .is (.var i) .non) [some d,some d,none] h=.ok (.bl (isNon d)) h:=λd i hi=>jzz (evV hi) (evNon ..) (cIsN ..)
 have eE:∀(d:D),cmpD .eq d d h=.ok (.bl true) h->ev G cl (.cmp .eq (.var 0) (.var 1)) [some d,some d,none] h=.ok (.bl true) h:=λd e=>jzz (evV rfl) (evV rfl) e
 have eA:∀(a b:E)(r:Ev),ev G cl a r h=.ok (.bl true) h->ev G cl b r h=.ok (.bl true) h->ev G cl (.and a b) r h=.ok (.bl true) h:=λa b r ea eb=>by
  rw[evAnd,ea,jze,tBl];exact eb
 have eOf:∀(a b:E)(r:Ev),ev G cl a r h=.ok (.bl false) h->ev G cl b r h=.ok (.bl false) h->ev G cl (.or a b) r h=.ok (.bl false) h:=λa b r ea eb=>by
  rw[evOr,ea,jze,tBl];exact eb
 have rt:∀(a:E)(Z:Ss)(r:Ev),ev G cl a r h=.ok (.bl true) h->xss G cl W (.cons (.ret a) Z) r h=.ok (.rt (.bl true)) h:=λa Z r e=>xssRt (by rw[xsRet,e];rfl)
 show(xss G cl W b19 [some d,some d,none] h).bind endD=_
 have s1:∀(A Z:Ss)(c:E)(r:Ev),ev G cl c r h=.ok (.bl false) h->xss G cl W (.cons (.iff c A .nil) Z) r h=xss G cl W Z r h:=λA Z c r e=>xssNx (by rw[jzI e,jzq])
 have s2:∀(A Z:Ss)(c:E)(r:Ev),ev G cl c r h=.ok (.bl true) h->xss G cl W A r h=.ok (.rt (.bl true)) h->xss G cl W (.cons (.iff c A .nil) Z) r h=.ok (.rt (.bl true)) h:=λA Z c r e ea=>xssRt (by rw[jzZ e,ea])
 cases d with
 |non=>rw[b19,s1 _ _ _ _ (e1 _ hd),s2 _ _ _ _ (eN _ 1 rfl) (rt _ _ _ (eN _ 0 rfl))];rfl
 |bl b=>rw[b19,s1 _ _ _ _ (e1 _ hd),s1 _ _ _ _ (eN _ 1 rfl),s2 _ _ _ _ (by rw[evOr,eT _ 1 .bool true rfl rfl,jze,tBl]) (rt _ _ _ (eA _ _ _ (eT _ 1 .bool true rfl rfl) (eA _ _ _ (eT _ 0 .bool true rfl rfl) (eE _ (by simp)))))];rfl
 |int z=>rw[b19,s1 _ _ _ _ (e1 _ hd),s1 _ _ _ _ (eN _ 1 rfl),s1 _ _ _ _ (eOf _ _ _ (eT _ 1 .bool false rfl rfl) (eT _ 0 .bool false rfl rfl)),s2 _ _ _ _ (eT _ 1 .int true rfl rfl) (rt _ _ _ (eA _ _ _ (eT _ 0 .int true rfl rfl) (eE _ (by simp))))];rfl
 |str z=>rw[b19,s1 _ _ _ _ (e1 _ hd),s1 _ _ _ _ (eN _ 1 rfl),s1 _ _ _ _ (eOf _ _ _ (eT _ 1 .bool false rfl rfl) (eT _ 0 .bool false rfl rfl)),s1 _ _ _ _ (eT _ 1 .int false rfl rfl),rt _ _ _ (eA _ _ _ (eT _ 0 .str true rfl rfl) (eE _ (by simp)))];rfl
 |tup l=>cases hd
 |ref n=>cases hd
 |ty t=>cases hd
theorem zzt:∀(k:Nat)(d:D),pd k d=true->∀(n:Nat)(h:Hh),callD G T W (k+n+1) 19 [d,d] h=.ok (.bl true) h:=by
 intro k
 induction k with
 |zero=>
  intro d hd n h
  rw[Nat.zero_add]
  exact wzL d hd n h
 |succ k ih=>
  intro d hd n h
  by_cases hf:pd 0 d=true
  ·exact wzL d hf _ h
  cases d<;>first |exact absurd rfl hf|(cases hd;done)|skip
  rename_i l
  simp only[pd,Bool.and_eq_true,decide_eq_true_eq] at hd
  obtain⟨h1,h2⟩:=hd
  obtain⟨r',ef⟩:=same_seq (cl:=callD G T W (k+1+n)) (.tup l) (.tup l) l h h1 (λj d ej=>by
   have ea:atI l (j:Int)=some d:=qza ej
   exact⟨by rw[Ng.iTup,ea],by rw[Ng.iTup,ea]⟩) (λd hd=>by
    have:=ih d (by rw[List.all_eq_true] at h2;exact h2 _ hd) n h
    rwa [show k+n+1=k+1+n by omega] at this) (by simp)
  show(xss G (callD G T W (k+1+n)) W b19 [some (.tup l),some (.tup l),none] h).bind endD=_
  rw[b19,xssRt (d:=.bl true) (h':=h) (by
   rw[xsIff,show ev G (callD G T W (k+1+n)) (.blt .isinst (.cons (.var 1) (.cons (.tup (.cons (.ty .tuple) (.cons (.ty .list) .nil))) .nil))) [some (.tup l),some (.tup l),none] h=.ok (.bl true) h from by simp,nxOk,jze]
   show xss G _ W _ _ h=_
   rw[xssNx (r':= [some (.tup l),some (.tup l),none]) (h':=h) (by simp),xssNx (r':= [some (.tup l),some (.tup l),none]) (h':=h) (by simp),xssNx ef]
   simp)]
  rfl
theorem agr_ok(n:Nat)(a b:Sy)(h:Hh):callD G T W (n+1) 20 [a.d,b.d] h=.ok (.bl (agr a b)) h:=by
 rw[jzk (c:=⟨2,2,b20⟩) rfl rfl]
 cases a<;>cases b<;>simp[b20,Sy.d,agr,atI,ixN]
abbrev inL:Ss:=(.cons (.iff (.not (.call 20 (.cons (.var 1) (.cons (.var 2) .nil)))) (.cons (.ret (.bl false)) .nil) .nil) .nil)
abbrev outL:Ss:=(.cons (.forr (.nm 2) (.sq (.var 0)) inL) .nil)
theorem vzV{p:Sy->Bool}{l:List Sy}{i:Nat}{x:Sy}(e:l[i]? =some x):(l.take (i+1)).all p=((l.take i).all p&&p x):=by
 rw[List.take_succ,e]
 simp
theorem inl_ok{cl:Cl}(hc:∀(a b:Sy)(h:Hh),cl 20 [a.d,b.d] h=.ok (.bl (agr a b)) h)(a:Sy)(ss:List Sy)(k:Nat)(d2:Option D)(h:Hh)(hl:lstAt h k=some (ss.map Sy.d))(hm:ss.length<=1000):
 (ss.all (agr a)=true/\∃d2',xs G cl W (.forr (.nm 2) (.sq (.var 0)) inL) [some (.ref k),some a.d,d2] h=.ok (.nx [some (.ref k),some a.d,d2']) h)\/(ss.all (agr a)=false/\xs G cl W (.forr (.nm 2) (.sq (.var 0)) inL) [some (.ref k),some a.d,d2] h=.ok (.rt (.bl false)) h):=by
 rcases qzy (t:=.nm 2) (body:=xss G cl W inL) (n:=k) (l:=ss.map Sy.d)
  (λi r h'=>h'=h/\(ss.take i).all (agr a)=true/\∃d2,r=[some (.ref k),some a.d,d2]) (λd h'=>d=.bl false/\h'=h/\ss.all (agr a)=false) (λi r h' q=>by rw[q.1];exact hl)
  (by
    rintro i d hd r h' ⟨rfl,ha,d2,rfl⟩
    rw[List.getElem?_map] at hd
    cases hx:ss[i]? with
    |none=>rw[hx] at hd;cases hd
    |some s=>
     rw[hx] at hd;cases hd
     have hcc:=hc a s h'
     refine⟨[some (.ref k),some a.d,some s.d],rfl,?_⟩
     cases hq:agr a s with
     |true=>
      rw[hq] at hcc
      exact .inl ⟨[some (.ref k),some a.d,some s.d],h',by simp[inL,hcc],rfl,by rw[vzV hx,ha,hq];rfl,_,rfl⟩
     |false=>
      rw[hq] at hcc
      exact .inr ⟨.bl false,h',by simp[inL,hcc],rfl,rfl,by rw[List.all_eq_false];exact⟨s,List.mem_of_getElem? hx,by rw[hq];decide⟩⟩)
  W 0 [some (.ref k),some a.d,d2] h ⟨rfl,rfl,d2,rfl⟩ (Nat.zero_le _) (by simp only[List.length_map];unfold W;omega) with ⟨r',h',ef,rfl,ha,d2',rfl⟩|⟨d,h',ef,rfl,rfl,hf⟩
 ·rw[List.length_map,List.take_of_length_le (Nat.le_refl _)] at ha
  exact .inl ⟨ha,d2',by rw[qzb];simp only[evVar,ge0,nxOk,jze,forDR];exact ef⟩
 ·exact .inr ⟨hf,by rw[qzb];simp only[evVar,ge0,nxOk,jze,forDR];exact ef⟩
theorem xzK(n:Nat)(ss:List Sy)(k:Nat)(h:Hh)(hl:lstAt h k=some (ss.map Sy.d))(hm:ss.length<=1000):callD G T W (n+2) 21 [.ref k] h=.ok (.bl (ss.all λa=>ss.all (agr a))) h:=by
 rw[jzk (c:=⟨1,3,b21⟩) rfl rfl]
 have hc:∀(a b:Sy)(h:Hh),callD G T W (n+1) 20 [a.d,b.d] h=.ok (.bl (agr a b)) h:=λa b h=>agr_ok n a b h
 generalize callD G T W (n+1)=cl at hc
 show(xss G cl W b21 [some (.ref k),none,none] h).bind endD=_
 rcases qzy (t:=.nm 1) (body:=xss G cl W outL) (n:=k) (l:=ss.map Sy.d)
  (λi r h'=>h'=h/\(ss.take i).all (λa=>ss.all (agr a))=true/\∃d1 d2,r=[some (.ref k),d1,d2]) (λd h'=>d=.bl false/\h'=h/\(ss.all λa=>ss.all (agr a))=false) (λi r h' q=>by rw[q.1];exact hl)
  (by
    rintro i d hd r h' ⟨rfl,ha,d1,d2,rfl⟩
    rw[List.getElem?_map] at hd
    cases hx:ss[i]? with
    |none=>rw[hx] at hd;cases hd
    |some s=>
     rw[hx] at hd;cases hd
     refine⟨[some (.ref k),some s.d,d2],rfl,?_⟩
     rcases inl_ok hc s ss k d2 h' hl hm with ⟨hq,d2',e⟩|⟨hq,e⟩
     ·exact .inl ⟨[some (.ref k),some s.d,d2'],h',by rw[outL,xssNx e];simp,rfl,by rw[vzV hx,ha,hq];rfl,_,_,rfl⟩
     ·exact .inr ⟨.bl false,h',by rw[outL,xssRt e],rfl,rfl,by rw[List.all_eq_false];exact⟨s,List.mem_of_getElem? hx,by rw[hq];decide⟩⟩)
  W 0 [some (.ref k),none,none] h ⟨rfl,rfl,none,none,rfl⟩ (Nat.zero_le _) (by simp only[List.length_map];unfold W;omega) with ⟨r',h',ef,rfl,ha,d1,d2,rfl⟩|⟨d,h',ef,rfl,rfl,hf⟩
 ·rw[List.length_map,List.take_of_length_le (Nat.le_refl _)] at ha
  rw[ha,b21,xssNx (r':= [some (.ref k),d1,d2]) (h':=h') (by rw[qzb];simp only[evVar,ge0,nxOk,jze,forDR];exact ef)]
  simp
 ·rw[hf,b21,xssRt (d:=.bl false) (h':=h') (by rw[qzb];simp only[evVar,ge0,nxOk,jze,forDR];exact ef)]
  rfl
abbrev narL:Ss:=(.cons (.iff (.cmp .eq (.var 2) (.str "star")) (.cons (.ret (.tup (.cons (.var 2) (.cons (.var 3) .nil)))) .nil) .nil) (.cons (.iff (.cmp .eq (.var 2) (.str "under")) (.cons (.asg (.nm 1) (.blt .min (.cons (.var 1) (.cons (.var 3) .nil)))) .nil) .nil) .nil))
theorem lnar_ok(n:Nat)(ss:List Sy)(k:Nat)(h:Hh)(hl:lstAt h k=some (ss.map Sy.d))(hm:ss.length<=1000):callD G T W (n+1) 22 [.ref k] h=.ok (lnarA 10 ss).d h:=by
 rw[jzk (c:=⟨1,4,b22⟩) rfl rfl]
 generalize callD G T W n=cl
 show(xss G cl W b22 [some (.ref k),none,none,none] h).bind endD=_
 rcases qzy (t:=.tp [2,3]) (body:=xss G cl W narL) (n:=k) (l:=ss.map Sy.d)
  (λi r h'=>h'=h/\∃m d2 d3,lnarA 10 ss=lnarA m (ss.drop i)/\r=[some (.ref k),some (.int m),d2,d3]) (λd h'=>d=(lnarA 10 ss).d/\h'=h) (λi r h' q=>by rw[q.1];exact hl)
  (by
    rintro i d hd r h' ⟨rfl,m,d2,d3,em,rfl⟩
    rw[List.getElem?_map] at hd
    cases hx:ss[i]? with
    |none=>rw[hx] at hd;cases hd
    |some s=>
     rw[hx] at hd;cases hd
     have hlt:i<ss.length:=(List.getElem?_eq_some_iff.mp hx).1
     have hs:ss[i]=s:=(List.getElem?_eq_some_iff.mp hx).2
     rw[List.drop_eq_getElem_cons hlt,hs] at em
     cases s with
     |un=>exact⟨[some (.ref k),some (.int m),some (.str "unseen"),some (.int 0)],rfl,.inl ⟨[some (.ref k),some (.int m),some (.str "unseen"),some (.int 0)],h',by simp[narL],rfl,_,_,_,em,rfl⟩⟩
     |st j=>exact⟨[some (.ref k),some (.int m),some (.str "star"),some (.int j)],rfl,.inr ⟨.tup [.str "star",.int j],h',by simp[narL],by rw[em];rfl,rfl⟩⟩
     |ud j=>exact⟨[some (.ref k),some (.int m),some (.str "under"),some (.int j)],rfl,.inl ⟨[some (.ref k),some (.int (if j<m then j else m)),some (.str "under"),some (.int j)],h',by simp[narL],rfl,_,_,_,em,rfl⟩⟩)
  W 0 [some (.ref k),some (.int 10),none,none] h ⟨rfl,10,none,none,rfl,rfl⟩ (Nat.zero_le _) (by simp;unfold W;omega) with ⟨r',h',ef,rfl,m,d2,d3,em,rfl⟩|⟨d,h',ef,rfl,rfl⟩
 ·rw[List.length_map,List.drop_eq_nil_of_le (Nat.le_refl _)] at em
  rw[b22,xssNx (r':= [some (.ref k),some (.int 10),none,none]) (h':=h') (by simp),xssNx (r':= [some (.ref k),some (.int m),d2,d3]) (h':=h') (by rw[qzb];simp only[evVar,ge0,nxOk,jze,forDR];exact ef),em]
  by_cases hmm:m<10
  ·simp[hmm,lnarA,Sy.d]
  ·simp[hmm,lnarA,Sy.d]
 ·rw[b22,xssNx (r':= [some (.ref k),some (.int 10),none,none]) (h':=h') (by simp),xssRt (d:=(lnarA 10 ss).d) (h':=h') (by rw[qzb];simp only[evVar,ge0,nxOk,jze,forDR];exact ef)]
  rfl
theorem W1:100<=W:=by decide
theorem k3(cl:Cl)(r:Ev)(h:Hh):ev G cl (.gc 3) r h=.ok (.int 9) h:=by rw[evGc,gc3]
theorem k4(cl:Cl)(r:Ev)(h:Hh):ev G cl (.gc 4) r h=.ok (.tup [.str "unseen",.int 0]) h:=by rw[evGc,gc4]
theorem k5(cl:Cl)(r:Ev)(h:Hh):ev G cl (.gc 5) r h=.ok (.str abc) h:=by rw[evGc,gc5]
theorem k6(cl:Cl)(r:Ev)(h:Hh):ev G cl (.gc 6) r h=.ok (.int 8) h:=by rw[evGc,gc6]
theorem k7(cl:Cl)(r:Ev)(h:Hh):ev G cl (.gc 7) r h=.ok (.int 8) h:=by rw[evGc,gc7]
theorem k8(cl:Cl)(r:Ev)(h:Hh):ev G cl (.gc 8) r h=.ok (.int 8) h:=by rw[evGc,gc8]
theorem hol(n:Nat):Hol (callD G T W (n+1)) 35:=λh m nm w t l S x y P=>by
 rw[jzk (c:=⟨2,4,b35⟩) rfl rfl]
 exact hol_ok x y P
theorem sys(n:Nat):Sys (callD G T W (n+2)) 36:=λh m nm w t l S x y P=>by
 rw[jzk (c:=⟨2,2,b36⟩) rfl rfl]
 exact sys_ok (hol n) (k4 _) x y P
theorem isn(n:Nat):Isn (callD G T W (n+1)) 9:=λh nm N=>by
 rw[jzk (c:=⟨1,1,b9⟩) rfl rfl]
 exact isn_ok (k6 _) (k5 _) N
theorem isw(n:Nat):Isw (callD G T W (n+1)) 10:=λh w t l S g=>by
 rw[jzk (c:=⟨3,4,b10⟩) rfl rfl]
 exact isw_ok (k7 _) (k3 _) g
theorem sho(n:Nat):Sho (callD G T W (n+2)) 34:=λh m nm w t l S P g=>by
 rw[jzk (c:=⟨1,1,b34⟩) rfl rfl]
 exact sho_ok (hol n) (k3 _) P g
theorem ini(n:Nat):Ini (callD G T W (n+3)) 33:=λh nm w t l S s N g e=>by
 rw[jzk (c:=⟨6,6,b33⟩) rfl rfl]
 exact ini_ok (isn (n+1)) (isw (n+1)) (sho n) (k8 _) N g e
theorem smd(n:Nat):Smd (callD G T W (n+2)) 19:=λd h hd=>by
 rw[show n+2=1+n+1 by omega]
 exact zzt 1 d hd n h
theorem mvd(n:Nat):Mvd (callD G T W (n+2)) 2:=λm x h hm=>vzB n m.1 m.2.1 m.2.2 x.1 x.2 h hm.1 hm.2
theorem bck(n:Nat):Bck (callD G T W (n+3)) 4:=λm h ha=>by
 obtain⟨t,p,q⟩:=m
 have e:=back_ok n t p q h ha.1 ha.2
 have z1:=t00 t
 rw[z1.1,z1.2] at e
 simpa [mo,bk] using e
theorem lmv(n:Nat):Lmv (callD G T W (n+2)) 15:=λm x h hm=>zzY n m.1 m.2.1 m.2.2 x.1 x.2 h hm.1 hm.2
theorem lbk(n:Nat):Lbk (callD G T W (n+2)) 17:=λm h hm=>lback n m h hm
theorem lbhh(n:Nat):Lbh (callD G T W (n+2)) 16:=λa b h ha hb=>lbehind n a b h ha hb
theorem poo(n:Nat):Poo (callD G T W (n+3)) 8:=λss k h hl hm=>pool_ok n ss k h hl hm
theorem aag(n:Nat):Aag (callD G T W (n+2)) 21:=λss k h hl hm=>xzK n ss k h hl hm
theorem lnr(n:Nat):Lnr (callD G T W (n+1)) 22:=λss k h hl hm=>lnar_ok n ss k h hl hm
theorem mtn(n:Nat):Mtn (callD G T W (n+2)) 18:=λk l h hl hn hr=>by
 have ge:∀j:Nat,j<9->∃a,l[j]? =some a:=λj hj=>⟨_,List.getElem?_eq_getElem (by omega)⟩
 obtain⟨a0,e0⟩:=ge 1 (by omega)
 obtain⟨a1,e1⟩:=ge 2 (by omega)
 obtain⟨a2,e2⟩:=ge 3 (by omega)
 obtain⟨a3,e3⟩:=ge 4 (by omega)
 obtain⟨a4,e4⟩:=ge 5 (by omega)
 obtain⟨t,p,q,h0,h1,e⟩:=zzb n k l 1 a0 a1 a2 a3 a4 h hl e0 e1 e2 e3 e4 hr
 exact⟨(t,p,q),⟨h0,h1⟩,e⟩
theorem dru(n:Nat)(ns:List Int):Dru (callD G T W (n+1)) 12 ns:=λat' M h hM h0 h1 hs=>draws n ns at' M hM h h0 h1 hs
theorem nms(n:Nat):Nms (callD G T W (n+1)) 25:=λh dr row Q hr=>by
 rw[jzk (c:=⟨1,7,b25⟩) rfl rfl]
 exact nms_ok Q hr
theorem hvn(n:Nat)(ns:List Int):Hvn (callD G T W (n+2)) 24 ns:=λh h00=>by
 rw[jzk (c:=⟨1,7,b24⟩) rfl rfl]
 exact hvn_ok (dru n ns) h00
theorem pan(n:Nat):Pan (callD G T W (n+3)) 26:=λh nm m hp dr S row hm hS HS Q hr=>by
 rw[jzk (c:=⟨4,14,b26⟩) rfl rfl]
 exact pan_ok W1 (lmv n) (lbk n) hm hS HS Q hr
theorem hom(n:Nat):Hom (callD G T W (n+1)) 27:=λh dr row Q hr=>by
 rw[jzk (c:=⟨1,1,b27⟩) rfl rfl]
 exact hom_ok Q hr
theorem pns(n:Nat)(ns:List Int):Pns (callD G T W (n+4)) 28 ns:=λh np hp l S m h00 hn hl hN hS HS hm=>by
 rw[jzk (c:=⟨5,9,b28⟩) rfl rfl]
 exact pns_ok (dru (n+2) ns) (hom (n+2)) (pan n) (lbhh (n+1)) h00 hn hl hN hS HS hm
theorem lsq(n:Nat):Lsq (callD G T W (n+1)) 23:=λh nm w t l U X g=>by
 rw[jzk (c:=⟨2,5,b23⟩) rfl rfl]
 exact lsq_ok X g
theorem sgs(n:Nat):Sgs (callD G T W (n+3)) 30:=λh p R X hp hl ok=>by
 rw[jzk (c:=⟨2,2,b30⟩) rfl rfl]
 exact sgs_ok (lmv n) (lbk n) (lsq (n+1)) hp hl ok
theorem pls(n:Nat):Pls (callD G T W (n+4)) 29:=λh p R hp hl ok=>by
 rw[jzk (c:=⟨1,1,b29⟩) rfl rfl]
 exact pls_ok (ini n) hp hl ok
theorem kpt(n:Nat):Kpt (callD G T W (n+1)) 31:=λh k p M hk hp hl hP=>by
 rw[jzk (c:=⟨2,2,b31⟩) rfl rfl]
 exact kpt_ok hk hp hl hP
theorem sai(n:Nat):Sai (callD G T W (n+4)) 11:=λh k M X hk hl hP ok=>by
 rw[jzk (c:=⟨2,2,b11⟩) rfl rfl]
 exact sai_ok (mvd (n+1)) (bck n) (sys (n+1)) (poo n) hk hl hP ok
theorem run(ns:List Int)(hn:ns.length<=63):∃h',callD G T W (49+1) 32 [.ref 0] [.ro (ns.map D.int)]=.ok (.bl true) h':=by
 rw[jzk (c:=⟨1,12,b32⟩) rfl rfl]
 exact law15_ok (by decide) (λr=>rfl) (dru 48 ns) (nms 48) (mtn 47) (hvn 47 ns) (pns 45 ns) (lmv 47) (pls 45) (sai 45) (kpt 48) (sgs 46) (aag 47) (lnr 48) (smd 47)
end Pk15
end
open PySem PySem.W PyProof.Rows
namespace Sh
set_option maxRecDepth 100000 in
set_option maxHeartbeats 0 in
theorem hd:PySem.Challenge.rw_nightglass_k15_said_of_a_place.Holds:=by
 refine pk.imp ⟨?_⟩
 dsimp only[pk]
 k_fill
 refine Ng.law_of (G:=Pk15.G) (T:=Pk15.T) (W:=Pk15.W) (l:=PySem.Challenge.rw_nightglass_k15_said_of_a_place) (n:=63) (k:=49) (lw:=32) (x:="_law_script") Pk15.run rfl (by decide) rfl ⟨rfl,by decide,by decide⟩ (λw h Y=>PySem.W.kIn_of Y) ?F
 case F=>
  intro w mg fa h KX Gn hmg
  refine' Pk15.all_mk KX Gn hmg ?fa0 ?fl0 ?fc0 ?fk0 ?fa1 ?fl1 ?fc1 ?fk1 ?fa2 ?fl2 ?fc2 ?fk2 ?fa3 ?fl3 ?fc3 ?fk3 ?fa4 ?fl4 ?fc4 ?fk4 ?fa5 ?fl5 ?fc5 ?fk5 ?fa6 ?fl6 ?fc6 ?fk6 ?fa7 ?fl7 ?fc7 ?fk7 ?fa8 ?fl8 ?fc8 ?fk8 ?fa9 ?fl9 ?fc9 ?fk9 ?fa10 ?fl10 ?fc10 ?fk10 ?fa11 ?fl11 ?fc11 ?fk11 ?fa12 ?fl12 ?fc12 ?fk12 ?fa13 ?fl13 ?fc13 ?fk13 ?fa14 ?fl14 ?fc14 ?fk14 ?fa15 ?fl15 ?fc15 ?fk15 ?fa16 ?fl16 ?fc16 ?fk16 ?fa17 ?fl17 ?fc17 ?fk17 ?fa18 ?fl18 ?fc18 ?fk18 ?fa19 ?fl19 ?fc19 ?fk19 ?fa20 ?fl20 ?fc20 ?fk20 ?fa21 ?fl21 ?fc21 ?fk21 ?fa22 ?fl22 ?fc22 ?fk22 ?fa23 ?fl23 ?fc23 ?fk23 ?fa24 ?fl24 ?fc24 ?fk24 ?fa25 ?fl25 ?fc25 ?fk25 ?fa26 ?fl26 ?fc26 ?fk26 ?fa27 ?fl27 ?fc27 ?fk27 ?fa28 ?fl28 ?fc28 ?fk28 ?fa29 ?fl29 ?fc29 ?fk29 ?fa30 ?fl30 ?fc30 ?fk30 ?fa31 ?fl31 ?fc31 ?fk31 ?fa32 ?fl32 ?fc32 ?fk32 ?ka0 ?fa33 ?fi33 ?fl33 ?fc33 ?fk33 ?fa34 ?fi34 ?fl34 ?fc34 ?fk34 ?fa35 ?fi35 ?fl35 ?fc35 ?fk35 ?fa36 ?fi36 ?fl36 ?fc36 ?fk36 ?kb0 ?kc0 ?kd0 ?ke0 ?kf0 ?kg0 ?kn0 ?kn1 ?kn2 ?kn3 ?kn4 ?ga0 ?tt0 ?ga1 ?tt3 ?tt4 ?tt9 ?tt14 ?tt19 ?tt24 ?tt29 ?tt34 ?tt39 ?ga2 ?ga3 ?ga4 ?tt46 ?ga5 ?ga6 ?ga7 ?ga8 ?xa0 ?xb0 ?xc0 ?xd0 ?xa1 ?xb1 ?xc1 ?xd1 ?xa2 ?xb2 ?xc2 ?xd2 ?xa3 ?xb3 ?xc3 ?xd3 ?xe0 ?xf0 ?xe1 ?xf1 ?xe2 ?xf2 ?xe3 ?xf3 ?xe4 ?xf4 ?xe5 ?xf5 ?xe6 ?xf6 ?na1 ?nb1 ?nc1 ?nd1 ?ne1 ?na2 ?nb2 ?nc2 ?nd2 ?ne2 ?nf0 ?ng0 ?nh0 ?nh1 ?z_len ?z_isinstance ?z_int ?z_list ?z_bool ?z_str ?z_tuple ?z_range ?z_max ?z_min ?z_sorted ?z_all ?z_ValueError
  (case fa0|fl0|fc0|fk0|fa1|fl1|fc1|fk1|fa2|fl2|fc2|fk2|fa3|fl3|fc3|fk3|fa4|fl4|fc4|fk4|fa5|fl5|fc5|fk5|fa6|fl6|fc6|fk6|fa7|fl7|fc7|fk7|fa8|fl8|fc8|fk8|fa9|fl9|fc9|fk9|fa10|fl10|fc10|fk10|fa11|fl11|fc11|fk11|fa12|fl12|fc12|fk12|fa13|fl13|fc13|fk13|fa14|fl14|fc14|fk14|fa15|fl15|fc15|fk15|fa16|fl16|fc16|fk16|fa17|fl17|fc17|fk17|fa18|fl18|fc18|fk18|fa19|fl19|fc19|fk19|fa20|fl20|fc20|fk20|fa21|fl21|fc21|fk21|fa22|fl22|fc22|fk22|fa23|fl23|fc23|fk23|fa24|fl24|fc24|fk24|fa25|fl25|fc25|fk25|fa26|fl26|fc26|fk26|fa27|fl27|fc27|fk27|fa28|fl28|fc28|fk28|fa29|fl29|fc29|fk29|fa30|fl30|fc30|fk30|fa31|fl31|fc31|fk31|fa32|fl32|fc32|fk32|ka0|fa33|fi33|fl33|fc33|fk33|fa34|fi34|fl34|fc34|fk34|fa35|fi35|fl35|fc35|fk35|fa36|fi36|fl36|fc36|fk36|kb0|kc0|kd0|ke0|kf0|kg0|kn0|kn1|kn2|kn3|kn4|ga0|tt0|ga1|tt3|tt4|tt9|tt14|tt19|tt24|tt29|tt34|tt39|ga2|ga3|ga4|tt46|ga5|ga6|ga7|ga8|xa0=>k_is)
  (case xb0=>k_exc)
  (case xc0=>k_is)
  (case xd0=>kit_is)
  (case xa1=>k_is)
  (case xb1=>k_exc)
  (case xc1=>k_is)
  (case xd1=>kit_is)
  (case xa2=>k_is)
  (case xb2=>k_exc)
  (case xc2=>k_is)
  (case xd2=>kit_is)
  (case xa3=>k_is)
  (case xb3=>k_exc)
  (case xc3=>k_is)
  (case xd3=>kit_is)
  (case xe0=>kts_exm)
  (case xf0=>kit_is)
  (case xe1=>kts_exm)
  (case xf1=>kit_is)
  (case xe2=>kts_exm)
  (case xf2=>kit_is)
  (case xe3=>kts_exm)
  (case xf3=>kit_is)
  (case xe4=>kts_exm)
  (case xf4=>kit_is)
  (case xe5=>kts_exm)
  (case xf5=>kit_is)
  (case xe6=>kts_exm)
  (case xf6=>kit_is)
  (case na1|nb1|nc1|nd1|ne1|na2|nb2|nc2|nd2|ne2|nf0|ng0=>k_is)
  (case nh0|nh1=>kit_is)
  (case z_len|z_isinstance|z_int|z_list|z_bool|z_str|z_tuple|z_range|z_max|z_min|z_sorted|z_all|z_ValueError=>k_is)
end Sh
theorem PySem.Challenge.cw_nightglass_k15_said_of_a_place_holds : PySem.Challenge.rw_nightglass_k15_said_of_a_place.Holds :=
 Sh.hd
