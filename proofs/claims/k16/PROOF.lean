import PyProof.Rows.All
import Wide.All
import OpenK.AllK
import Wide.FinOn
import Lean
import PyProof.EqAt
import PyProof.EqKinds
import PyProof.TupleCall
import PyProof.NeKinds
import KE.RegKIsAll
import KE.KTryMore
import KE.RegKTryMore
import PyProof.StationsW
import PyProof.Rows.CatchOwn
import OpenK.KOwn
import PyProof.NsDelKeeps
import PyProof.Rows.RuleN_isinstance
import KE.KSortTup
import PyProof.Rows.StrJoin2
import PyProof.DictItems
import KE.KMinBuiltin
import PyProof.WalkInts
import PyProof.Rows.CallKwBuiltin
import KE.KPairComp
import PyProof.Rows.SortWalk
import KE.KListMore
import PyProof.ListRange
import PyProof.RangeFor
import PyProof.CompFree
import PyProof.DictCompW
import PyProof.StrWalks
import PyProof.SliceStr2
import KE.KLam
import KE.KNestM
import KE.KDictSum
import PyProof.FitsReplace
import PySem.Challenge.RW_nightglass_k16_the_first_that_is_unlike
set_option Elab.async false
set_option linter.all false
set_option maxRecDepth 100000
set_option maxHeartbeats 4000000
set_option autoImplicit false
namespace Th
open PySem PySem.W PyProof.Rows
noncomputable def topG(g:Thread->Bool)(f:SharedT->Thread->Option (SharedT×Thread)):Nat->SharedT->Thread->Option SharedT
 |0,_,_=>none
 |n+1,s,t=>match through t with
  |true=>some s
  |false=>match g t with
   |false=>none
   |true=>match f s t with
    |some (s',t')=>topG g f n s' t'
    |none=>none
theorem vE{tb:String->Option Builtin}{p:Program}{w:World}{n₀:Nat}{ann:Option Value}:∀{n:Nat}{s s':SharedT}{t:Thread},topG (stepOk n₀ ann) (stepT (denote tb) p w) n s t=some s'->topRun tb p w n₀ ann n s.abs t=some s'.abs
 |0,_,_,_,h=>by cases h
 |n+1,s,s',t,h=>by
  unfold topG at h;unfold topRun;cases a:through t with
  |true=>rw[a] at h;cases h;rfl
  |false=>
   rw[a] at h;cases k:stepOk n₀ ann t with
   |false=>rw[k] at h;cases h
   |true=>
    rw[k] at h;cases e:stepT (denote tb) p w s t with
    |none=>rw[e] at h;cases h
    |some r=>obtain⟨s₂,t₂⟩:=r;rw[e] at h;rw[stepT_spec e];exact vE h
noncomputable def zI:List Obj->Nat->BT->BT
 | [],_,t=>t
 |o::l,n,t=>zI l (n+1) (t.ins n o)
noncomputable def bs(P:Params)(os:OsState):SharedT:=⟨zI (boot_heap P).objs.toList 0 .nil,11,(boot_heap P).life, #[],boot_drawn,boot_toks,os⟩
theorem OQ(P:Params)(os:OsState):(bs P os).abs=⟨boot_heap P, #[],boot_drawn,boot_toks,os⟩:=by kernel_rfl
theorem HL(P:Params):(boot_heap P).isNs mainGlobals=true/\(boot_heap P).objs.size=11/\(boot_heap P).nsMap mainGlobals "__annotations__"=some (.ref 6):=⟨by kernel_rfl,by kernel_rfl,by kernel_rfl⟩
theorem RN{p q p':Program}{loose:List Str}{Xt:Shared->Bool}{α:Type}{Yf:Shared->α}{Ya:World->α}{N:Nat}{F1:Nat->Option Value->Thread->Bool}{F2:(Code->Sem Fin)->Program->World->SharedT->Thread->Option (SharedT×Thread)}{F3:(String->Option Builtin)->Code->Sem Fin}{F4:String->Option Builtin}{F5:Program->List Str->List Str->(Shared->Bool)->Bool->Shared->_}{F6:List Stmt->List Str}
 (h1:@stepOk=F1)(h2:@stepT=F2)(h3:@denote=F3)(h4:@treeTable=F4)(h5:@openSeen=F5)(h6:@importedModules=F6)(hp:p=p')
 (e:opening p=plainProg p.main.scope.names)(hN:Nat.ble 600 N=true)(f:∀s,fenceModules? p s=some s)
 (run:∀(w:World)(os:OsState),(topG (F1 11 (some (.ref 6))) (F2 (F3 F4) p' w) N (bs w.params os) (topStub p')).map (λs=>(staticsOk (F6 p'.main.body) (boot_heap w.params) s.abs.heap&&namesBound p' s.abs.heap&&gensDone s.abs&&laidKept (boot_heap w.params) s.abs.heap,F5 q loose (F6 p'.main.body) Xt true s.abs,Yf s.abs))=some (true,openGood q loose,Ya w)):LeftO p q loose Xt Yf Ya N:=λw=>by
 subst hp h1 h2 h3 h4 h5 h6;obtain⟨s,hs,hv⟩:=Option.map_eq_some_iff.mp (boot_open (p:=p) (N:=N) e hN f w);obtain⟨hp,gs,dr,tk,os⟩:=s;simp only[Prod.mk.injEq] at hv;obtain⟨rfl,rfl,rfl,rfl⟩:=hv;obtain⟨s1,h1,h2⟩:=Option.map_eq_some_iff.mp (run w os);simp only[Prod.mk.injEq] at h2;obtain⟨a1,a2,a3⟩:=h2;have t:=vE h1;rw[OQ] at t;obtain⟨g1,g2,g3⟩:=HL w.params;unfold openEnds;rw[hs]
 show((topFrom treeTable p w N ⟨boot_heap w.params, #[],boot_drawn,boot_toks,os⟩).map _)=_
 unfold topFrom;simp only[g1,g2,g3];have e2:(true&&(#[]:Array GenState).size==0)=true:=rfl;rw[e2,t]
 show(match staticsOk (importedModules p.main.body) (boot_heap w.params) s1.abs.heap&&namesBound p s1.abs.heap&&gensDone s1.abs&&laidKept (boot_heap w.params) s1.abs.heap with|true=>some s1.abs|false=>none).map _=_
 rw[a1];show some (openSeen q loose (importedModules p.main.body) Xt true s1.abs,Yf s1.abs)=some _;rw[a2,a3]
end Th
namespace Sh
open PySem PySem.W PyProof.Rows
theorem WT{α β γ:Type}{o:Option α}{f:α->β}{g:α->γ}{b:β}{c:γ}(h1:o.map f=some b)(h2:o.map g=some c):o.map (λs=>(f s,g s))=some (b,c):=by
 cases o with
 |none=>cases h1
 |some a=>cases h1;cases h2;rfl
class Cc (C:outParam Prop):Prop where
 out:C
def Kp{C:Prop}(_:Cc C):Prop:=True
theorem PySem.W.holds_open{r:OpenRow}{q:Program}{loose:List Str}{Xt:Shared->Bool}{XP:(Str->Option Value)->Heap->Prop}{α:Type}{Yf:Shared->α}{Ya:World->α}{YP:World->Heap->Prop}{d:DefRec}{kwd:List (Str×Expr)}{N:Nat}{C:Prop} [i:Cc C]
 (_:True)(hY:∀w s,Yf s=Ya w->YP w s.heap)(hYk:∀w h h',YP w h->(∀b o,h.get? b=some o->h'.get? b=some o)->YP w h')
 (hX:∀s,Xt s=true->XP (s.heap.nsMap mainGlobals) s.heap)(hXk:∀mg h h',XP mg h->(∀b o,h.get? b=some o->h'.get? b=some o)->XP mg h')
 (hdef:defOf q r.name=some (d,kwd))(hp:r.prog.theDef r.name=some (d.params,d.body,d.scope))(hk:kwWritten? d.params.kwonlyargs d.params.kw_defaults=some kwd)(hRf:∀s,Xt s=true->RecFacts r.records s.heap)(hwr:(!r.writes||r.records.isEmpty)=true)
 (k1:r.wellSaid=true)(ok:(chainsOk q&&opensWell r.prog&&(frees r.toRowW&&r.within.isEmpty))=true)(hb:r.prog.bare)(hw:r.toRowW.promised)
 (call:Kp i/\LeftO r.prog q loose Xt Yf Ya N/\WalkO q loose XP YP r.toRowW d kwd λf vs=>PySem.call f vs):r.Holds:=
 _root_.PySem.W.holds_open call.2.1 hY hYk hX hXk hdef hp hk hRf hwr k1 ok hb hw call.2.2
end Sh
section
open PySem PySem.W PyProof.Rows
namespace Sh
theorem sd:PySem.Challenge.rw_nightglass_k16_the_first_that_is_unlike.wellSaid=true:=by kernel_rfl
structure PackT (H:Prop) where
 C:Prop
 imp:Cc C->H
set_option maxHeartbeats 0 in
noncomputable def pk:PackT PySem.Challenge.rw_nightglass_k16_the_first_that_is_unlike.Holds:=by
 refine' ⟨_,λc=>?g⟩
 case g=>
  refine holds_law sd λsaid=>?_;refine @Function.const _ True ?m ?hl;rotate_left;exact True.intro
  w_on;k_head;(case hw=>w_witness2)
  k_fill
  refine⟨True.intro,Th.RN PySem.W.Fast.te6613529449190102663 PySem.W.Fast.te10156331382660048174 PySem.W.Fast.te11892475500146522536 PySem.W.Fast.te14364793385576792824 PySem.W.Fast.te4187177175401517315 PySem.W.Fast.te5923862056798008813 rfl (by kernel_rfl) (by decide) (λs=>by kernel_rfl) (λw os=>by kernel_rfl),?_⟩;exact c.out
end Sh
end
namespace L2
open PySem PySem.Spec PyProof.Rows
noncomputable abbrev _root_.Za:=@wpAny_bind
noncomputable abbrev _root_.Zb:=@wpAny_pure
noncomputable abbrev _root_.Zc:=@List.length_map
noncomputable abbrev _root_.Zd:=@List.getElem?_eq_getElem
noncomputable abbrev _root_.Ze:=@List.getElem?_eq_some_iff
noncomputable abbrev _root_.Zf:=@Heap.get?_push_of_some
noncomputable abbrev _root_.Zg:=@Option.some.inj
noncomputable abbrev _root_.Zh:=@List.map_cons
noncomputable abbrev _root_.Zi:=@List.getElem?_map
noncomputable abbrev _root_.Zj:=@List.mem_cons_of_mem
noncomputable abbrev _root_.Zk:=@List.size_toArray
noncomputable abbrev _root_.Zl:=@List.mem_cons_self
noncomputable abbrev _root_.Zm:=@List.append_nil
noncomputable abbrev _root_.Zn:=@Nat.le_refl
noncomputable abbrev cB:=Sum Int Str
noncomputable def nL:cB->Value->Bool
 |.inl k,v=>Value.isInt k v
 |.inr x,v=>Value.isStrOf x v
noncomputable def ZL(w:World):cB->Int
 |.inl k=>hashInt k
 |.inr x=>hashStr w x
theorem bW:∀{k:cB}{v:Value},nL k v=true->(∃i t,k=Sum.inl i/\v=Value.int i t)\/(∃x t,k=Sum.inr x/\v=Value.str x t)
 |.inl i,v,h=>by
  obtain⟨t,e⟩:=Value.isInt_shape (k:=i) (v:=v) h;exact .inl ⟨i,t,rfl,e⟩
 |.inr x,v,h=>by
  obtain⟨t,e⟩:=Value.isStrOf_shape (x:=x) (v:=v) h;exact .inr ⟨x,t,rfl,e⟩
theorem yU(i:Int)(t:Tok):nL (.inl i) (.int i t)=true:=by simp[nL,Value.isInt]
theorem yT(x:Str)(t:Tok):nL (.inr x) (.str x t)=true:=by simp[nL,Value.isStrOf]
theorem OA(a b:Int):decide ((Sum.inl a:cB)=Sum.inl b)=(a==b):=by
 by_cases e:a=b
 ·subst e;simp
 ·have h:¬(Sum.inl a:cB)=Sum.inl b:=λq=>e (Sum.inl.inj q);rw[decide_eq_false h];exact(beq_eq_false_iff_ne.mpr e).symm
theorem NX(a b:Str):decide ((Sum.inr a:cB)=Sum.inr b)=decide (a=b):=by
 by_cases e:a=b
 ·subst e;simp
 ·have h:¬(Sum.inr a:cB)=Sum.inr b:=λq=>e (Sum.inr.inj q);rw[decide_eq_false h,decide_eq_false e]
theorem NZ(a:Int)(b:Str):decide ((Sum.inl a:cB)=Sum.inr b)=false:=decide_eq_false (λq=>nomatch q)
theorem NY(a:Str)(b:Int):decide ((Sum.inr a:cB)=Sum.inl b)=false:=decide_eq_false (λq=>nomatch q)
noncomputable def cD(prog:Program)(w:World):PySem.KeyKind prog w cB where
 is:=nL
 hash:=ZL w
 inj:=λv a b ha hb=>by
  rcases bW ha with ⟨i,t,rfl,rfl⟩|⟨x,t,rfl,rfl⟩
  ·rcases bW hb with ⟨j,u,rfl,e⟩|⟨y,u,rfl,e⟩
   ·injection e with e1 _;rw[e1]
   ·exact nomatch e
  ·rcases bW hb with ⟨j,u,rfl,e⟩|⟨y,u,rfl,e⟩
   ·exact nomatch e
   ·injection e with e1 _;rw[e1]
 byValue:=λk v h=>by
  rcases bW h with ⟨i,t,rfl,rfl⟩|⟨x,t,rfl,rfl⟩<;>rfl
 pyHash:=λhv h=>by
  rcases bW hv with ⟨i,t,rfl,rfl⟩|⟨x,t,rfl,rfl⟩
  ·exact wpAny_pyHash_int h
  ·exact wpAny_pyHash_str h
 eqBool:=λhu hv h=>by
  rcases bW hu with ⟨i,t,rfl,rfl⟩|⟨x,t,rfl,rfl⟩
  ·rcases bW hv with ⟨j,u,rfl,rfl⟩|⟨y,u,rfl,rfl⟩
   ·rw[OA] at h;exact wpAny_eqBool_int h
   ·rw[NZ] at h;exact SeqAt.EqAt.int_str i t y u _ _ _ _ h
  ·rcases bW hv with ⟨j,u,rfl,rfl⟩|⟨y,u,rfl,rfl⟩
   ·rw[NY] at h;exact SeqAt.EqAt.str_int x t j u _ _ _ _ h
   ·rw[NX] at h;exact wpAny_eqBool_str h
 «strs»:=λk x t v h=>by
  rcases bW h with ⟨i,u,rfl,e⟩|⟨y,u,rfl,e⟩
  ·exact nomatch e
  ·injection e with e1 _;subst e1;cases v<;>rfl
theorem uR(prog:Program)(w:World)(k:cB)(v:Value):(cD prog w).is k v=nL k v:=rfl
theorem sI(prog:Program)(w:World)(i:Int)(t:Tok):(cD prog w).is (.inl i) (.int i t)=true:=yU i t
theorem sH(prog:Program)(w:World)(x:Str)(t:Tok):(cD prog w).is (.inr x) (.str x t)=true:=yT x t
end L2
namespace L2
open PySem PySem.Spec PyProof.Rows
inductive V where
 |non|bl (b:Bool)|int (i:Int)|str (x:Str)|byt (b:Array UInt8)|flt (b:UInt64)|ref (a:Addr)|ty (n:String)
 deriving DecidableEq
noncomputable def RelV:V->Value->Prop
 |.non,u=>u=Value.none
 |.bl b,u=>u=Value.bool b
 |.int i,u=>∃t,u=Value.int i t
 |.str x,u=>∃t,u=Value.str x t
 |.byt b,u=>∃t,u=Value.bytes b t
 |.flt b,u=>∃t,u=Value.float b t
 |.ref a,u=>u=Value.ref a
 |.ty n,u=>u=Value.type n
noncomputable abbrev Vals:List V->List Value->Prop:=Paired RelV
theorem Vals.length{xs:List V}{us:List Value}(r:Vals xs us):xs.length=us.length:=Paired.length r
theorem Vals.get:∀{xs:List V}{us:List Value}{i:Nat}{x:V},Vals xs us->xs[i]? =some x->∃u,us[i]? =some u/\RelV x u
 |_,_,_,_,.nil,e=>by simp at e
 |_,_,0,_,.cons r _,e=>by simp at e;subst e;exact⟨_,rfl,r⟩
 |_,_,i+1,x,.cons _ t,e=>by
  obtain⟨u,h1,h2⟩:=Vals.get (i:=i) (x:=x) t (by simpa using e);exact⟨u,by simpa using h1,h2⟩
theorem Vals.set{x:V}{u:Value}(r:RelV x u):∀{xs:List V}{us:List Value}(i:Nat),Vals xs us->Vals (xs.set i x) (us.set i u)
 |_,_,_,.nil=>.nil
 |_,_,0,.cons _ t=>.cons r t
 |_,_,i+1,.cons q t=>.cons q (Vals.set r i t)
theorem Vals.append:∀{xs ys:List V}{us ws:List Value},Vals xs us->Vals ys ws->Vals (xs++ys) (us++ws)
 |_,_,_,_,.nil,s=>s
 |_,_,_,_,.cons r t,s=>.cons r (Vals.append t s)
theorem Vals.take:∀{xs:List V}{us:List Value}(n:Nat),Vals xs us->Vals (xs.take n) (us.take n)
 |_,_,0,_=>.nil
 |_,_,_+1,.nil=>.nil
 |_,_,n+1,.cons r t=>.cons r (Vals.take n t)
theorem Vals.drop:∀{xs:List V}{us:List Value}(n:Nat),Vals xs us->Vals (xs.drop n) (us.drop n)
 |_,_,0,r=>r
 |_,_,_+1,.nil=>.nil
 |_,_,n+1,.cons _ t=>Vals.drop n t
noncomputable def RelO:Option V->Option Value->Prop
 |some v,some u=>RelV v u
 |none,none=>True
 |_,_=>False
noncomputable def KV{κ:Type}:List (κ×V)->List (κ×Value)->Prop:=Paired λ(p:κ×V)(q:κ×Value)=>p.1=q.1/\RelV p.2 q.2
noncomputable def kV:cB->V
 |.inl i=>.int i
 |.inr x=>.str x
inductive HO where
 /-- a list -/
 |lst (xs:List V)
 /-- a tuple (never changes) -/
 |tup (xs:List V)
 /-- a dict whose keys are ints and texts;one whose keys are tuples of ints and texts (the empty one is both) -/
 |dK (kvs:List (cB×V))|dT (kvs:List (List cB×V))
 /-- a set of ints:its members,its size -/
 |set (S:Int->Bool) (n:Nat)
 /-- an instance of the class at C,its dict at dx,its attributes -/
 |ins (C dx:Addr) (fs:List (Str×V))
 /-- the dict of the instance at x -/
 |own (x:Addr)
 /-- the dict of an exception -/
 |xd (fs:List (Str×V))
 /-- a bound method,f of x -/
 |met (f x:Addr)
 /-- a range object lo,lo+1,.. below hi -/
 |rng (lo hi:Int)
 /-- a thing that is known to the object (the script;a dict while a loop walks it):read,never written while it is so -/
 |frz (o:Obj) (u:HO)
 /-- a code object's table -/
 |tbl (ps:Array Value)
 /-- any other thing,by what is true of its one object (a def of one's own:SetO a S n:=HO.ext λh=>..) -/
 |ext (φ:Heap->Prop)
noncomputable abbrev Hp:=Addr->Option HO
noncomputable def bS(H:Hp)(a:Addr)(o:HO):Hp:=λb=>if b=a then some o else H b
theorem aZ{H:Hp}{a:Addr}{o:HO}:bS H a o a=some o:=by unfold bS;rw[if_pos rfl]
theorem aM{H:Hp}{a b:Addr}{o:HO}(h:b≠a):bS H a o b=H b:=by unfold bS;rw[if_neg h]
theorem nE{H:Hp}{a b:Addr}{o u:HO}(h:H a=some o)(h':H b=some u)(d:o≠u):a≠b:=by
 intro e;subst e;rw[h] at h';exact d (Zg h')
theorem bI{H:Hp}{a b:Addr}{o:HO}(h:H a=some o)(h':H b=none):a≠b:=by
 intro e;subst e;rw[h] at h';cases h'
section
variable (P:Program)(w:World)
noncomputable def ObjOk(H:Hp)(h:Heap)(a:Addr):HO->Prop
 |.lst xs=>xs.length<=sizeLine/\∃(its:List Value)(n:Nat),Vals xs its/\h.get? a=some {cls:=.type "list",data:=.seq its.toArray n}
 |.tup xs=>xs.length<=sizeLine/\∃its:List Value,Vals xs its/\IsTup h a its.toArray
 |.dK kvs=>kvs.length<=sizeLine/\(a==sysModules)=false/\∃vs,KV kvs vs/\h.DictOf (cD P w) a vs
 |.dT kvs=>kvs.length<=sizeLine/\(a==sysModules)=false/\∃xs:List (List cB×Addr×Value),
   Paired (λ(p:List cB×V)(q:List cB×Addr×Value)=>p.1=q.1/\H q.2.1=some (.tup (p.1.map kV))/\RelV p.2 q.2.2) kvs xs/\
   ∃o es ep,h.get? a=some o/\o.ExactDict/\o.data=.dict es ep/\es.toList=xs.map (entryOfKey (tupleKind (cD P w)))/\(xs.map (·.1)).Nodup
 |.set S n=>h.SetOf (intKind P w) a S n
 |.ins C dx fs=>H dx=some (.own a)/\fs.length<=1000/\dx≠a/\h.get? a=some (W.instObj C dx)/\
   ∃mA,h.Ns1 dx mA/\(∀f,RelO (fs.lookup f) (mA f))/\PySem.Within mA (fs.map (·.1))
 |.own _=>∃o,h.get? a=some o
 |.xd fs=>∃mA,h.Ns1 a mA/\∀f,RelO (fs.lookup f) (mA f)
 |.rng lo hi=>∃t u v,h.get? a=some {cls:=.type "range",data:=.fields #[.int lo t,.int hi u,.int 1 v]}
 |.frz o u=>h.get? a=some o/\ObjOk H h a u
 |.tbl ps=>h.get? a=some {cls:=.none,data:=.fields ps}
 |.met f x=>h.get? a=some (W.methodObj (.ref f) (.ref x))
 |.ext φ=>φ h/\(∃o,h.get? a=some o)/\∀h1 h2:Heap,φ h1->(∀o,h1.get? a=some o->h2.get? a=some o)->φ h2
def HOk(H:Hp)(h:Heap):Prop:=∀a o,H a=some o->ObjOk P w H h a o
end
section
variable {P:Program}{w:World}{H H':Hp}{h h':Heap}{a:Addr}{o:HO}
theorem ObjOk.lt(x:ObjOk P w H h a o):a<h.objs.size:=by
 cases o with
 |lst xs=>obtain⟨_,_,_,_,e⟩:=x;exact Heap.lt_size e
 |tup xs=>obtain⟨_,_,_,p⟩:=x;exact p.lt
 |dK kvs=>obtain⟨_,_,_,_,o,_,_,e,_⟩:=x;exact Heap.lt_size e
 |dT kvs=>obtain⟨_,_,_,_,o,_,_,e,_⟩:=x;exact Heap.lt_size e
 |set S n=>obtain⟨o,_,_,_,e,_⟩:=x;exact Heap.lt_size e
 |ins C dx fs=>obtain⟨_,_,_,e,_⟩:=x;exact Heap.lt_size e
 |own y=>obtain⟨_,e⟩:=x;exact Heap.lt_size e
 |xd fs=>obtain⟨_,⟨_,_,_,e,_⟩,_⟩:=x;exact Heap.lt_size e
 |rng lo hi=>obtain⟨_,_,_,e⟩:=x;exact Heap.lt_size e
 |frz ob u=>obtain⟨e,_⟩:=x;exact Heap.lt_size e
 |tbl ps=>exact Heap.lt_size (show h.get? a=some _ from x)
 |met f y=>exact Heap.lt_size (show h.get? a=some _ from x)
 |ext φ=>obtain⟨_,⟨_,e⟩,_⟩:=x;exact Heap.lt_size e
theorem Paired.mapP{α β:Type}{F G:α->β->Prop}:∀{l₁:List α}{l₂:List β},Paired F l₁ l₂->(∀a b,F a b->G a b)->Paired G l₁ l₂
 |_,_,.nil,_=>.nil
 |_,_,.cons r t,f=>.cons (f _ _ r) (Paired.mapP t f)
theorem ObjOk.stay(x:ObjOk P w H h a o)(k:∀b u,(b=a\/H b=some (.own a))->h.get? b=some u->h'.get? b=some u)
 (ho:∀b,H b=some (.own a)->H' b=some (.own a))(ht:∀b xs,H b=some (.tup xs)->H' b=some (.tup xs)):ObjOk P w H' h' a o:=by
 induction o with
 |lst xs=>obtain⟨z,its,n,r,e⟩:=x;exact⟨z,its,n,r,k _ _ (.inl rfl) e⟩
 |tup xs=>obtain⟨z,its,r,ob,e,c⟩:=x;exact⟨z,its,r,ob,k _ _ (.inl rfl) e,c⟩
 |dK kvs=>obtain⟨z,y,vs,r,ob,es,ep,e,c⟩:=x;exact⟨z,y,vs,r,ob,es,ep,k _ _ (.inl rfl) e,c⟩
 |dT kvs=>
  obtain⟨z,y,xs,r,ob,es,ep,e,c⟩:=x;exact⟨z,y,xs,Paired.mapP r λp q z=>⟨z.1,ht _ _ z.2.1,z.2.2⟩,ob,es,ep,k _ _ (.inl rfl) e,c⟩
 |set S n=>obtain⟨ob,es,ep,t,e,c⟩:=x;exact⟨ob,es,ep,t,k _ _ (.inl rfl) e,c⟩
 |ins C dx fs=>
  obtain⟨d,z,ne,e,mA,⟨od,es,ep,e2,c⟩,r⟩:=x;exact⟨ho _ d,z,ne,k _ _ (.inl rfl) e,mA,⟨od,es,ep,k _ _ (.inr d) e2,c⟩,r⟩
 |own y=>obtain⟨ob,e⟩:=x;exact⟨ob,k _ _ (.inl rfl) e⟩
 |xd fs=>obtain⟨mA,⟨od,es,ep,e,c⟩,r⟩:=x;exact⟨mA,⟨od,es,ep,k _ _ (.inl rfl) e,c⟩,r⟩
 |rng lo hi=>obtain⟨t,u,v,e⟩:=x;exact⟨t,u,v,k _ _ (.inl rfl) e⟩
 |frz ob u ih=>obtain⟨e,q⟩:=x;exact⟨k _ _ (.inl rfl) e,ih q⟩
 |tbl ps=>
  have e:h.get? a=some {cls:=.none,data:=.fields ps}:=x;show h'.get? a=some {cls:=.none,data:=.fields ps};exact k a _ (.inl rfl) e
 |met f y=>
  have e:h.get? a=some (W.methodObj (.ref f) (.ref y)):=x;show h'.get? a=some (W.methodObj (.ref f) (.ref y));exact k a _ (.inl rfl) e
 |ext φ=>obtain⟨p,⟨o,e⟩,st⟩:=x;exact⟨st _ _ p λo q=>k _ _ (.inl rfl) q,⟨o,k _ _ (.inl rfl) e⟩,st⟩
theorem HOk.lt(x:HOk P w H h)(e:H a=some o):a<h.objs.size:=(x a o e).lt
theorem HOk.fresh(x:HOk P w H h)(e:h.objs.size<=a):H a=none:=by
 cases q:H a with
 |none=>rfl
 |some u=>exact absurd (Nat.lt_of_lt_of_le (x.lt q) e) (Nat.lt_irrefl _)
theorem HOk.kept(x:HOk P w H h)(k:∀b u,h.get? b=some u->h'.get? b=some u):HOk P w H h':=λa o e=>
 (x a o e).stay (λb u _ q=>k b u q) (λ_ q=>q) λ_ _ q=>q
theorem HOk.laid(x:HOk P w H h)(k:∀b u,h.get? b=some u->h'.get? b=some u)(hp:h.objs.size<=a)(new:ObjOk P w (bS H a o) h' a o):HOk P w (bS H a o) h':=λb u e=>by
 have hn:=x.fresh hp
 by_cases hb:b=a
 ·subst hb;rw[aZ] at e;cases e;exact new
 ·rw[aM hb] at e;exact(x b u e).stay (λc v _ q=>k c v q) (λc q=>by rw[aM (bI q hn)];exact q) λc xs q=>by rw[aM (bI q hn)];exact q
end
def Rd(H:Hp)(a:Addr)(u:HO):Prop:=H a=some u\/∃o,H a=some (.frz o u)
theorem Rd.ok{P:Program}{w:World}{H:Hp}{h:Heap}{a:Addr}{u:HO}(r:Rd H a u)(x:HOk P w H h):ObjOk P w H h a u:=by
 rcases r with r|⟨o,r⟩
 ·exact x a u r
 ·obtain⟨_,q⟩:=x a _ r;exact q
noncomputable def WN:Option HO->Prop
 |some (.lst _)=>True
 |some (.dK _)=>True
 |some (.dT _)=>True
 |some (.set _ _)=>True
 |some (.ins _ _ _)=>True
 |some (.ext _)=>True
 |_=>False
section
variable {P:Program}{w:World}{H:Hp}{h h':Heap}{x e:Addr}{o':HO}
theorem HOk.write(ok:HOk P w H h)(mu:WN (H x))(he:e=x\/H e=some (.own x))(k:∀b u,b≠e->h.get? b=some u->h'.get? b=some u)(heo:∃u,h'.get? e=some u)
 (new:ObjOk P w (bS H x o') h' x o'):HOk P w (bS H x o') h':=λb u q=>by
 have nown:∀c y,H c=some (.own y)->c≠x:=λc y r z=>by subst z;rw[r] at mu;exact mu
 have ntup:∀c xs,H c=some (.tup xs)->c≠x:=λc xs r z=>by subst z;rw[r] at mu;exact mu
 by_cases hb:b=x
 ·subst hb;rw[aZ] at q;cases q;exact new
 ·rw[aM hb] at q
  by_cases hbe:b=e
  ·have q':H b=some (.own x):=by
    rcases he with z|z
    ·exact absurd (hbe.trans z) hb
    ·rw[hbe];exact z
   rw[q] at q';cases q';obtain⟨v,hv⟩:=heo;exact⟨v,by rw[hbe];exact hv⟩
  ·refine(ok b u q).stay (λc v hc r=>k c v ?_ r) (λc r=>by rw[aM (nown c b r)];exact r) λc xs r=>by rw[aM (ntup c xs r)];exact r
   rcases hc with rfl|hc
   ·exact hbe
   ·rintro rfl;rcases he with z|z
    ·exact nown c b hc z
    ·rw[hc] at z;cases z;exact hb rfl
end
structure Un (fs ex:List Addr)(H H':Hp)(h h':Heap):Prop where
 keep:∀b o,h.get? b=some o->H b=none->b ∉ fs->b ∉ ex->h'.get? b=some o
 slot:∀b o,h.get? b=some o->H b=none->b∈fs->b ∉ ex->∃sl,h'.get? b=some {o with slots:=sl}
 free:∀b o,h.get? b=some o->H b=none->b ∉ ex->H' b=none
 there:∀b o,h.get? b=some o->b ∉ ex->∃o',h'.get? b=some o'
 tups:∀b xs,H b=some (.tup xs)->H' b=some (.tup xs)
 frzs:∀b o u,H b=some (.frz o u)->H' b=some (.frz o u)
 tbls:∀b ps,H b=some (.tbl ps)->∃more,H' b=some (.tbl (ps++more))
section
variable {fs fs' ex ex':List Addr}{H H1 H2:Hp}{h h1 h2 h':Heap}{a x e:Addr}{o:HO}
theorem Un.any(u:Un fs ex H H1 h h1){b:Addr}{ob:Obj}(q:h.get? b=some ob)(n:H b=none)(hx:b ∉ ex):∃sl,h1.get? b=some {ob with slots:=sl}:=by
 by_cases hb:b∈fs
 ·exact u.slot b ob q n hb hx
 ·exact⟨ob.slots,u.keep b ob q n hb hx⟩
theorem Un.kept(k:∀b u,h.get? b=some u->h'.get? b=some u):Un fs ex H H h h':=
 ⟨λb ob q _ _ _=>k b ob q,λb ob q _ _ _=>⟨ob.slots,k b ob q⟩,λ_ _ _ n _=>n,λb ob q _=>⟨ob,k b ob q⟩,λ_ _ q=>q,λ_ _ _ q=>q,λ_ ps q=>⟨#[],by rw[q];simp⟩⟩
theorem Un.refl:Un fs ex H H h h:=Un.kept λ_ _ q=>q
theorem Un.laid(k:∀b u,h.get? b=some u->h'.get? b=some u)(hp:h.objs.size<=a)(hn:H a=none):Un fs ex H (bS H a o) h h' where
 keep:=λb u q _ _ _=>k b u q
 slot:=λb u q _ _ _=>⟨u.slots,k b u q⟩
 free:=λb u q n _=>by rw[aM (Nat.ne_of_lt (Nat.lt_of_lt_of_le (Heap.lt_size q) hp))];exact n
 there:=λb u q _=>⟨u,k b u q⟩
 tups:=λb xs q=>by rw[aM (bI q hn)];exact q
 frzs:=λb u xs q=>by rw[aM (bI q hn)];exact q
 tbls:=λb ps q=>⟨#[],by rw[aM (bI q hn),q];simp⟩
theorem Un.write(mu:WN (H x))(he:e=x\/H e=some (.own x))(k:∀b u,b≠e->h.get? b=some u->h'.get? b=some u)(heo:∃u,h'.get? e=some u):Un fs ex H (bS H x o) h h':=by
 have hx:∀b,H b=none->b≠x:=λb n z=>by subst z;rw[n] at mu;exact mu
 have hb:∀b,H b=none->b≠e:=λb n z=>by
  subst z;rcases he with r|r
  ·exact hx b n r
  ·rw[n] at r;cases r
 have hm:∀b u,H b=some u->¬WN (some u)->b≠x:=λb u q nm z=>by subst z;rw[q] at mu;exact nm mu
 refine⟨λb u q n _ _=>k b u (hb b n) q,λb u q n _ _=>⟨u.slots,k b u (hb b n) q⟩,λb u q n _=>by rw[aM (hx b n)];exact n,λb u q _=>?_,
  λb xs q=>by rw[aM (hm b _ q λz=>z)];exact q,λb u xs q=>by rw[aM (hm b _ q λz=>z)];exact q,λb ps q=>⟨#[],by rw[aM (hm b _ q λz=>z),q];simp⟩⟩
 by_cases hbe:b=e
 ·subst hbe;exact heo
 ·exact⟨u,k b u hbe q⟩
end
noncomputable def zX(h:Heap)(H:Hp):List Addr:=(List.range h.objs.size).filter λa=>(H a).isSome
noncomputable def sT(h:Heap)(H:Hp):Heap:=W.hideAll h (zX h H)
theorem yX(h:Heap)(H:Hp):(sT h H).objs.size=h.objs.size:=W.hideAll_size _ _
theorem nR{h:Heap}{H:Hp}{b:Addr}{o:Obj}(e:h.get? b=some o)(n:H b=none):(sT h H).get? b=some o:=
 W.hideAll_get _ e λhm=>by
  have q:(H b).isSome=true:=(List.mem_filter.mp hm).2;rw[n] at q;simp at q
theorem GW{h:Heap}{H:Hp}{b:Addr}{o:Obj}(e:(sT h H).get? b=some o):h.get? b=some o/\H b=none:=by
 have e':h.get? b=some o:=W.of_hideAll (zX h H) e;refine⟨e',?_⟩;cases q:H b with
 |none=>rfl
 |some x=>
  have hm:b∈zX h H:=List.mem_filter.mpr ⟨List.mem_range.mpr (Heap.lt_size e'),by simp[q]⟩;have z:(sT h H).get? b=none:=W.hideAll_none (zX h H) hm;rw[z] at e;cases e
noncomputable def iH(g h:Heap)(L:Addr):List (Addr×Obj):=(List.range h.objs.size).filterMap λa=>if a=L\/(g.get? a).isSome=true then none else(h.get? a).map λo=>(a,o)
theorem bV{g h:Heap}{L a:Addr}{o:Obj}(h1:a≠L)(h2:g.get? a=none)(h3:h.get? a=some o):(a,o)∈iH g h L:=
 List.mem_filterMap.mpr ⟨a,List.mem_range.mpr (Heap.lt_size h3),by simp[h1,h2,h3]⟩
theorem mZ{g h:Heap}{L:Addr}{p:Addr×Obj}(hp:p∈iH g h L):p.1≠L/\g.get? p.1=none/\h.get? p.1=some p.2:=by
 obtain⟨b,_,e⟩:=List.mem_filterMap.mp hp;split at e
 ·cases e
 ·rename_i hn;cases q:h.get? b with
  |none=>rw[q] at e;simp at e
  |some u=>
   rw[q] at e;simp only[Option.map_some,Option.some.injEq] at e;subst e;refine⟨λz=>hn (.inl z),?_,q⟩;show g.get? b=none;cases r:g.get? b with
   |none=>rfl
   |some v=>exact(hn (.inr (by simp[r]))).elim
noncomputable def rest(g h:Heap)(L d:Addr):List (Addr×Obj):=(iH g h L).filter λp=>decide (p.1≠d)
theorem qI{g h:Heap}{L d:Addr}:∀p∈rest g h L d,p.1≠d:=λp hp=>of_decide_eq_true (List.mem_filter.mp hp).2
theorem BY{g h:Heap}{L d a:Addr}{o:Obj}(h1:a≠L)(h2:g.get? a=none)(h3:h.get? a=some o)(h4:a≠d):(a,o)∈rest g h L d:=
 List.mem_filter.mpr ⟨bV h1 h2 h3,decide_eq_true h4⟩
theorem jU{g h:Heap}{L:Addr}:News g L h (iH g h L):=λp hp=>let⟨a,b,c⟩:=mZ hp;⟨c,a,b⟩
theorem qO{g h:Heap}{L d:Addr}{o:Obj}(h1:d≠L)(h2:g.get? d=none)(h3:h.get? d=some o):News g L h ((d,o)::rest g h L d):=λp hp=>by
 rcases List.mem_cons.mp hp with rfl|hp
 ·exact⟨h3,h1,h2⟩
 ·exact jU p (List.mem_filter.mp hp).1
theorem jX{g h h':Heap}{L d:Addr}{m:Str->Option Value}(k:∀b o,g.get? b=some o->h.get? b=some o)(F:Fr g L h' m)(N:News g L h' (rest g h L d)):
 ∀b o,b≠L->b≠d->h.get? b=some o->h'.get? b=some o:=λb o h1 h2 e=>by
 cases q:g.get? b with
 |some u=>
  have:=k b u q;rw[e] at this;cases this;exact F.keep b _ q
 |none=>exact(N (b,o) (BY h1 q e h2)).1
end L2
namespace L2
open PySem PySem.Spec PyProof.Rows
def WO(mg:Str->Option Value)(h:Heap):Prop:=∃bm ob,mg "__builtins__"=some (.ref bm)/\bm≠builtinsNs/\h.get? bm=some ob/\ob.cls=.type "module"/\ob.dict=some builtinsNs/\ob.data=.plain
structure Mod (K:W.Frag)(mg:Str->Option Value)(base:Heap):Prop where
 kin:K.In base
 glob:base.Ns mainGlobals mg
 blt:∃mb,base.Ns builtinsNs mb/\∀x:Str,x≠"__name__"->mb x=bootBuiltins x
 nolimit:base.NoLimit
 bm:WO mg base
structure Cx where
 prog:Program
 w:World
 K:W.Frag
 mg:Str->Option Value
 base:Heap
 A:Around
 N:List Str
 s₀:Shared
 H₀:Hp
 env:Env
 outer:List Env
 stack:List Env
 ex:List Addr
 fn:Str->Bool
 calm:Bool
 pn:List (Addr×Obj)
 xe:Value->Shared->Prop
noncomputable def jZ(l:List Env):List Addr:=l.filterMap (·.frame)
noncomputable abbrev Cx.fs(X:Cx):List Addr:=jZ X.outer
def XJ(sc:Scope)(x:Str):Prop:=sc.names.lookup x=some .local\/sc.names.lookup x=some .cell\/sc.names.lookup x=some .free
def RR(sc:Scope)(x:Str):Prop:=sc.names.lookup x=some .local\/sc.names.lookup x=some .cell
def L6(env:Env)(h:Heap)(m:Str->Option Value)(x:Str)(u:Value):Prop:=
 (env.kindOf x=some .local/\m x=some u)\/((env.kindOf x=some .cell\/env.kindOf x=some .free)/\∃c,env.cells.lookup x=some c/\h.IsCell c (some u))
structure Cx.Ok (X:Cx):Prop where
 mod:Mod X.K X.mg X.base
 kind:X.env.scope.kind=.function
 glob:X.env.globals=mainGlobals
 blt:X.env.builtins=builtinsNs
 above:X.s₀.heap.objs.size<=X.env.locals
 inj:∀x y c,X.env.cells.lookup x=some c->X.env.cells.lookup y=some c->x=y
 has:∀x,(X.env.kindOf x=some .cell\/X.env.kindOf x=some .free)->∃c,X.env.cells.lookup x=some c
 cab:∀x c,X.fn x=true->X.env.cells.lookup x=some c->X.s₀.heap.objs.size<=c
 hd:X.calm=true->X.A.handled=none
 frames:X.A.frames=some X.stack
 stk:X.stack=X.outer\/(X.stack=X.env::X.outer/\X.env.frame=some X.env.locals)
 exf:∀b∈X.ex,b≠X.env.locals/\∀x c,X.env.cells.lookup x=some c->c≠b
 bs:∀b o,X.base.get? b=some o->X.s₀.heap.get? b=some o/\X.H₀ b=none
 bsz:X.base.objs.size<=X.s₀.heap.objs.size
 noex:∀b o,X.base.get? b=some o->b ∉ X.ex
 exfs:∀b∈X.ex,b ∉ X.fs
 funs:X.s₀.heap.FunFrames X.base X.outer
 frf:∀b∈X.fs,X.H₀ b=none
structure Inv (X:Cx)(pins:List (Addr×Obj))(σ:List (Option V))(H:Hp)(s:Shared):Prop where
 ok:X.Ok
 os:s.os=X.s₀.os
 bare:AllBare s.gens
 base:Un X.fs X.ex X.H₀ H X.s₀.heap s.heap
 loc:∃m,s.heap.Ns X.env.locals m/\∀(i:Nat)(x:Str)(v:V),X.N[i]? =some x->σ[i]? =some (some v)->XJ X.env.scope x->∃u,RelV v u/\L6 X.env s.heap m x u
 cell:∀x c,X.env.cells.lookup x=some c->∃v,s.heap.IsCell c v
 free:H X.env.locals=none
 freeC:∀x c,X.env.cells.lookup x=some c->H c=none
 pin:∀p∈X.pn++pins,s.heap.get? p.1=some p.2/\H p.1=none/\p.1≠X.env.locals/\p.1 ∉ X.fs/\∀v,p.2.data≠ .cell v
 hok:HOk X.prog X.w H s.heap
 len:σ.length=X.N.length
section
variable {X:Cx}{pins:List (Addr×Obj)}{σ:List (Option V)}{H H':Hp}{s:Shared}{h':Heap}
theorem Cx.Ok.nofr(ok:X.Ok){b:Addr}{o:Obj}(e:X.base.get? b=some o):b ∉ X.fs:=λhb=>by
 have:=(ok.funs.mem hb).1;rw[e] at this;cases this
theorem Inv.bs(I:Inv X pins σ H s):∀b o,X.base.get? b=some o->s.heap.get? b=some o/\H b=none:=λb o e=>
 ⟨I.base.keep b o (I.ok.bs b o e).1 (I.ok.bs b o e).2 (I.ok.nofr e) (I.ok.noex b o e),I.base.free b o (I.ok.bs b o e).1 (I.ok.bs b o e).2 (I.ok.noex b o e)⟩
theorem Inv.bk(I:Inv X pins σ H s):∀b o,X.base.get? b=some o->s.heap.get? b=some o:=λb o e=>(I.bs b o e).1
theorem Inv.mod(I:Inv X pins σ H s):Mod X.K X.mg X.base:=I.ok.mod
theorem Inv.kIn(I:Inv X pins σ H s):X.K.In s.heap:=I.ok.mod.kin.keeps I.bk
theorem Inv.nolimit(I:Inv X pins σ H s):s.heap.NoLimit:=I.ok.mod.nolimit.keeps I.bk
theorem Inv.fr(I:Inv X pins σ H s):∃m,Fr X.base X.env.locals s.heap m:=
 let⟨m,hn,_⟩:=I.loc
 ⟨m,hn,I.bk,Nat.le_trans I.ok.bsz I.ok.above⟩
theorem Inv.lt(I:Inv X pins σ H s):X.env.locals<s.heap.objs.size:=let⟨_,hn,_⟩:=I.loc;hn.lt
theorem Inv.sz(I:Inv X pins σ H s):X.s₀.heap.objs.size<=s.heap.objs.size:=Nat.le_trans I.ok.above (Nat.le_of_lt I.lt)
theorem Inv.nofs(I:Inv X pins σ H s){a:Addr}(h:s.heap.objs.size<=a):a ∉ X.fs:=λhb=>by
 obtain⟨_,o,ho,_⟩:=I.ok.funs.mem hb;exact absurd (Nat.lt_of_lt_of_le (Heap.lt_size ho) (Nat.le_trans I.sz h)) (Nat.lt_irrefl _)
theorem Inv.cne(I:Inv X pins σ H s):∀x c,X.env.cells.lookup x=some c->c≠X.env.locals:=λx c e z=>by
 obtain⟨v,o,ho,hd⟩:=I.cell x c e;obtain⟨m,⟨o',es,ep,ho',hd',_⟩,_⟩:=I.loc;rw[z,ho'] at ho;cases ho;rw[hd'] at hd;cases hd
theorem Inv.funs(I:Inv X pins σ H s):s.heap.FunFrames X.base X.outer:=by
 have all:∀(l:List Env),(∀b∈jZ l,b∈X.fs)->X.s₀.heap.FunFrames X.base l->s.heap.FunFrames X.base l:=by
  intro l
  induction l with
  |nil=>intro _ _;trivial
  |cons env r ih=>
   intro hs hl;obtain⟨hk,⟨L,o,hf,hn,ho,hd⟩,hr⟩:=hl;have hL:L∈X.fs:=hs L (by unfold jZ;rw[List.filterMap_cons,hf];exact Zl);obtain⟨sl,e⟩:=I.base.slot L o ho (I.ok.frf L hL) hL λz=>I.ok.exfs L z hL;exact⟨hk,⟨L,_,hf,hn,e,hd⟩,ih (λb hb=>hs b (by unfold jZ;rw[List.filterMap_cons,hf];exact Zj _ hb)) hr⟩
 exact all X.outer (λ_ hb=>hb) I.ok.funs
theorem Inv.stack(I:Inv X pins σ H s):s.heap.FunFrames X.base X.stack:=by
 rcases I.ok.stk with e|⟨e,hf⟩
 ·rw[e];exact I.funs
 ·rw[e];obtain⟨m,hn,_⟩:=I.loc;refine .cons (by rw[I.ok.kind];decide) hf hn ?_ I.funs;exact Heap.get?_none_of_le (Nat.le_trans I.ok.bsz I.ok.above)
theorem Inv.stkSub(I:Inv X pins σ H s):∀b∈jZ X.stack,b∈X.env.locals::X.fs:=λb hb=>by
 rcases I.ok.stk with e|⟨e,hf⟩
 ·rw[e] at hb;exact Zj _ hb
 ·rw[e] at hb;unfold jZ at hb;rw[List.filterMap_cons,hf] at hb;exact hb
theorem Inv.stkFree(I:Inv X pins σ H s):∀b∈jZ X.stack,H b=none:=λb hb=>by
 rcases List.mem_cons.mp (I.stkSub b hb) with e|hb
 ·rw[e];exact I.free
 ·obtain⟨_,o,ho,_⟩:=I.ok.funs.mem hb;exact I.base.free b o ho (I.ok.frf b hb) λz=>I.ok.exfs b z hb
theorem Inv.step{g':Array GenState}{t':Nat}{d':Drawn}{ch:List Addr}(I:Inv X pins σ H s)
 (hch:∀b∈ch,(b∈X.ex\/X.s₀.heap.objs.size<=b)/\b≠X.env.locals/\(∀x c,X.env.cells.lookup x=some c->c≠b)/\∀p∈X.pn++pins,p.1≠b)
 (keep:∀b o,b≠X.env.locals->b ∉ X.fs->b ∉ ch->s.heap.get? b=some o->H b=none->h'.get? b=some o)
 (slot:∀b o,b≠X.env.locals->b∈X.fs->b ∉ ch->s.heap.get? b=some o->H b=none->∃sl,h'.get? b=some {o with slots:=sl})(free:∀b o,b ∉ ch->s.heap.get? b=some o->H b=none->H' b=none)
 (there:∀b o,b ∉ ch->s.heap.get? b=some o->∃o',h'.get? b=some o')
 (tups:∀b xs,H b=some (.tup xs)->H' b=some (.tup xs))(frzs:∀b o u,H b=some (.frz o u)->H' b=some (.frz o u))(tbls:∀b ps,H b=some (.tbl ps)->∃more,H' b=some (.tbl (ps++more)))
 (ns:∀m,s.heap.Ns X.env.locals m->h'.Ns X.env.locals m)(hok:HOk X.prog X.w H' h')(hg:AllBare g'):
 Inv X pins σ H' {s with heap:=h',gens:=g',drawn:=d',toks:=t'}:=by
 have neL:∀b o,X.s₀.heap.get? b=some o->b≠X.env.locals:=λb o e=>Nat.ne_of_lt (Nat.lt_of_lt_of_le (Heap.lt_size e) I.ok.above)
 have neC:∀b o,X.s₀.heap.get? b=some o->b ∉ X.ex->b ∉ ch:=λb o e hx hb=>by
  rcases(hch b hb).1 with z|z
  ·exact hx z
  ·exact absurd (Nat.lt_of_lt_of_le (Heap.lt_size e) z) (Nat.lt_irrefl _)
 have cellK:∀x c,X.env.cells.lookup x=some c->∀v,s.heap.IsCell c v->h'.IsCell c v:=λx c e v ⟨o,ho,hd⟩=>by
  have nch:c ∉ ch:=λz=>(hch c z).2.2.1 x c e rfl
  by_cases hc:c∈X.fs
  ·obtain⟨sl,q⟩:=slot c o (I.cne x c e) hc nch ho (I.freeC x c e);exact⟨_,q,hd⟩
  ·exact⟨o,keep c o (I.cne x c e) hc nch ho (I.freeC x c e),hd⟩
 refine⟨I.ok,I.os,hg,⟨λb o e n hb hx=>?_,λb o e n hb hx=>?_,λb o e n hx=>?_,λb o e hx=>?_,λb xs e=>tups b xs (I.base.tups b xs e),λb o xs e=>frzs b o xs (I.base.frzs b o xs e),λb ps e=>?_⟩,?_,λx c e=>?_,?_,λx c e=>?_,λp hp=>?_,hok,I.len⟩
 ·exact keep b o (neL b o e) hb (neC b o e hx) (I.base.keep b o e n hb hx) (I.base.free b o e n hx)
 ·obtain⟨sl,e1⟩:=I.base.slot b o e n hb hx;obtain⟨sl',e2⟩:=slot b _ (neL b o e) hb (neC b o e hx) e1 (I.base.free b o e n hx);exact⟨sl',e2⟩
 ·obtain⟨o',e1⟩:=I.base.there b o e hx;exact free b o' (neC b o e hx) e1 (I.base.free b o e n hx)
 ·obtain⟨o',e1⟩:=I.base.there b o e hx;exact there b o' (neC b o e hx) e1
 ·obtain⟨m1,e1⟩:=I.base.tbls b ps e;obtain⟨m2,e2⟩:=tbls b _ e1;exact⟨m1++m2,by rw[e2,Array.append_assoc]⟩
 ·obtain⟨m,hn,hl⟩:=I.loc;refine⟨m,ns m hn,λi x v e1 e2 e3=>?_⟩;obtain⟨u,r,l⟩:=hl i x v e1 e2 e3;refine⟨u,r,?_⟩;rcases l with l|⟨k,c,e,z⟩
  ·exact .inl l
  ·exact .inr ⟨k,c,e,cellK x c e _ z⟩
 ·obtain⟨v,z⟩:=I.cell x c e;exact⟨v,cellK x c e v z⟩
 ·obtain⟨m,⟨o,_,_,ho,_⟩,_⟩:=I.loc;exact free _ o (λz=>(hch _ z).2.1 rfl) ho I.free
 ·obtain⟨v,o,ho,hd⟩:=I.cell x c e;exact free c o (λz=>(hch c z).2.2.1 x c e rfl) ho (I.freeC x c e)
 ·obtain⟨e,n,ne,nf,d⟩:=I.pin p hp;have nch:p.1 ∉ ch:=λz=>(hch p.1 z).2.2.2 p hp rfl;exact⟨keep p.1 p.2 ne nf nch e n,free p.1 p.2 nch e n,ne,nf,d⟩
theorem Inv.un{t':Nat}(I:Inv X pins σ H s)(u:Un X.fs [] H H' s.heap h')(hok:HOk X.prog X.w H' h'):Inv X pins σ H' {s with heap:=h',toks:=t'}:=by
 obtain⟨m,⟨o,es,ep,ho,r⟩,_⟩:=id I.loc;obtain⟨sl,hL⟩:=u.any ho I.free (by simp)
 exact I.step (g':=s.gens) (d':=s.drawn) (ch:= []) (λ_ z=>nomatch z) (λb o _ hb _ e n=>u.keep b o e n hb (by simp)) (λb o _ hb _ e n=>u.slot b o e n hb (by simp)) (λb o _ e n=>u.free b o e n (by simp)) (λb o _ e=>u.there b o e (by simp)) u.tups u.frzs u.tbls (λm' hm=>by
  obtain⟨o',es',ep',ho',r'⟩:=hm;rw[ho] at ho';cases ho';exact⟨_,es',ep',hL,r'⟩) hok I.bare
theorem Inv.call{g':Array GenState}{t':Nat}{d':Drawn}{ch:List Addr}(I:Inv X pins σ H s)(u:Un (jZ X.stack) ch H H' s.heap h')(hok:HOk X.prog X.w H' h')(hg:AllBare g')
 (hch:∀b∈ch,(b∈X.ex\/X.s₀.heap.objs.size<=b)/\b≠X.env.locals/\(∀x c,X.env.cells.lookup x=some c->c≠b)/\∀p∈X.pn++pins,p.1≠b):
 Inv X pins σ H' {s with heap:=h',gens:=g',drawn:=d',toks:=t'}:=by
 obtain⟨m,⟨o,es,ep,ho,r⟩,_⟩:=id I.loc;obtain⟨sl,hL⟩:=u.any ho I.free λz=>(hch _ z).2.1 rfl
 exact I.step (ch:=ch) hch (λb o hL hb hc e n=>u.keep b o e n (λz=>(List.mem_cons.mp (I.stkSub b z)).elim hL hb) hc) (λb o _ _ hc e n=>u.any e n hc) (λb o hc e n=>u.free b o e n hc) (λb o hc e=>u.there b o e hc) u.tups u.frzs u.tbls (λm' hm=>by
  obtain⟨o',es',ep',ho',r'⟩:=hm;rw[ho] at ho';cases ho';exact⟨_,es',ep',hL,r'⟩) hok hg
theorem Inv.turned{t':Nat}{it:Addr}(I:Inv X pins σ H s)(k:∀b o,b≠it->s.heap.get? b=some o->h'.get? b=some o)(hn:H it=none)(hL:it≠X.env.locals)
 (h1:it∈X.ex\/X.s₀.heap.objs.size<=it)(h2:∀x c,X.env.cells.lookup x=some c->c≠it)(h3:∀p∈X.pn++pins,p.1≠it):Inv X pins σ H {s with heap:=h',toks:=t'}:=by
 have nit:∀b u,H b=some u->b≠it:=λb u e z=>by rw[z,hn] at e;cases e
 refine I.step (g':=s.gens) (d':=s.drawn) (ch:= [it]) (λb hb=>?_) (λb o _ _ hc e _=>k b o (λz=>hc (by simp[z])) e) (λb o _ _ hc e _=>⟨o.slots,k b o (λz=>hc (by simp[z])) e⟩) (λ_ _ _ _ n=>n)
  (λb o hc e=>⟨o,k b o (λz=>hc (by simp[z])) e⟩) (λ_ _ e=>e) (λ_ _ _ e=>e) (λb ps e=>⟨#[],by rw[e];simp⟩) (λm hm=>?_) (λb u e=>?_) I.bare
 ·have e:b=it:=by simpa using hb
  subst e;exact⟨h1,hL,h2,h3⟩
 ·obtain⟨o,es,ep,ho,r⟩:=hm;exact⟨o,es,ep,k _ o (Ne.symm hL) ho,r⟩
 ·refine(I.hok b u e).stay (λc v hc q=>k c v ?_ q) (λ_ q=>q) λ_ _ q=>q;rcases hc with z|z
  ·rw[z];exact nit b u e
  ·exact nit c _ z
theorem Inv.tok(I:Inv X pins σ H s)(t:Nat):Inv X pins σ H {s with toks:=t}:=I.un (h':=s.heap) (t':=t) Un.refl I.hok
theorem Inv.kept{t':Nat}(I:Inv X pins σ H s)(k:∀b u,s.heap.get? b=some u->h'.get? b=some u):Inv X pins σ H {s with heap:=h',toks:=t'}:=I.un (Un.kept k) (I.hok.kept k)
theorem Inv.laid{a:Addr}{o:HO}{t':Nat}(I:Inv X pins σ H s)(k:∀b u,s.heap.get? b=some u->h'.get? b=some u)(hp:s.heap.objs.size<=a)(new:ObjOk X.prog X.w (bS H a o) h' a o):
 Inv X pins σ (bS H a o) {s with heap:=h',toks:=t'}:=I.un (Un.laid k hp (I.hok.fresh hp)) (I.hok.laid k hp new)
theorem Inv.write{x e:Addr}{o:HO}{t':Nat}(I:Inv X pins σ H s)(mu:WN (H x))(he:e=x\/H e=some (.own x))(k:∀b u,b≠e->s.heap.get? b=some u->h'.get? b=some u)(heo:∃u,h'.get? e=some u)
 (new:ObjOk X.prog X.w (bS H x o) h' x o):Inv X pins σ (bS H x o) {s with heap:=h',toks:=t'}:=I.un (Un.write mu he k heo) (I.hok.write mu he k heo new)
theorem Inv.pins_of{pins':List (Addr×Obj)}(I:Inv X pins σ H s)(h:∀p∈pins',s.heap.get? p.1=some p.2/\H p.1=none/\p.1≠X.env.locals/\p.1 ∉ X.fs/\∀v,p.2.data≠ .cell v):Inv X pins' σ H s:=
 ⟨I.ok,I.os,I.bare,I.base,I.loc,I.cell,I.free,I.freeC,λp hp=>(List.mem_append.mp hp).elim (λz=>I.pin p (List.mem_append_left _ z)) (h p),I.hok,I.len⟩
theorem sG{N:List Str}(hN:N.Nodup){i j:Nat}{x:Str}(a:N[i]? =some x)(b:N[j]? =some x):i=j:=by
 obtain⟨h1,e1⟩:=Ze.mp a;obtain⟨h2,e2⟩:=Ze.mp b;exact(List.getElem_inj hN).mp (e1.trans e2.symm)
theorem pB{M:Model}{A:Around}{E:Value->Shared->Prop}{i:Nat}{x:Str}{v:V}{u:Value}{Q:Unit->Shared->Prop}(I:Inv X pins σ H s)(hN:X.N.Nodup)(hi:X.N[i]? =some x)(hx:RR X.env.scope x)(r:RelV v u)
 (h:∀s',Inv X pins (σ.set i (some v)) H s'->(∃a,Heap.SameBut a s.heap s'.heap/\(a=X.env.locals\/X.env.cells.lookup x=some a))->Q () s')(hf:X.fn x=true\/X.env.scope.names.lookup x=some .local:=by first |exact .inl rfl|exact .inr rfl|assumption):wpAny M A (storeName X.env x u) Q E s:=by
 obtain⟨m,hn,hl⟩:=id I.loc;have hcls:(X.env.scope.kind== .class||(X.env.scope.kind== .module&&X.env.locals != X.env.globals))=false:=by rw[I.ok.kind];rfl
 have hiσ:i<σ.length:=by rw[I.len];exact(Ze.mp hi).1
 have cne:=I.cne
 have tracked:∀{a:Addr}{h':Heap},(∃o,s.heap.get? a=some o/\H a=none)->Heap.SameBut a s.heap h'->HOk X.prog X.w H h':=λ{a h'} ha hs b ob e=>by
  obtain⟨_,_,hfree⟩:=ha;refine(I.hok b ob e).stay (λc w' hc q=>(hs.2 c ?_).trans q) (λ_ q=>q) λ_ _ q=>q;rintro rfl;rcases hc with rfl|hc
  ·rw[hfree] at e;cases e
  ·rw[hfree] at hc;cases hc
 rcases hx with hk|hk
 ·refine wpAny_storeName_local hk hn (λh' hn' hs=>?_) hcls;obtain⟨oL,_,_,hoL,_⟩:=id hn;refine h _ ⟨I.ok,I.os,I.bare,⟨λb o e n hb hx=>?_,λb o e n hb hx=>?_,I.base.free,λb o e hx=>?_,I.base.tups,I.base.frzs,I.base.tbls⟩,⟨_,hn',λj y v' e1 e2 e3=>?_⟩,λy c e=>?_,I.free,I.freeC,λp hp=>?_,tracked ⟨oL,hoL,I.free⟩ hs,by simpa using I.len⟩ ⟨_,hs,.inl rfl⟩
  ·exact(hs.2 b (Nat.ne_of_lt (Nat.lt_of_lt_of_le (Heap.lt_size e) I.ok.above))).trans (I.base.keep b o e n hb hx)
  ·obtain⟨sl,e1⟩:=I.base.slot b o e n hb hx;exact⟨sl,(hs.2 b (Nat.ne_of_lt (Nat.lt_of_lt_of_le (Heap.lt_size e) I.ok.above))).trans e1⟩
  ·obtain⟨o',e1⟩:=I.base.there b o e hx;exact⟨o',(hs.2 b (Nat.ne_of_lt (Nat.lt_of_lt_of_le (Heap.lt_size e) I.ok.above))).trans e1⟩
  ·by_cases hj:j=i
   ·subst hj;rw[hi] at e1;cases e1;rw[List.getElem?_set_self hiσ] at e2;cases e2;exact⟨u,r,.inl ⟨hk,by simp⟩⟩
   ·rw[List.getElem?_set_ne (Ne.symm hj)] at e2;obtain⟨u',r',q⟩:=hl j y v' e1 e2 e3;refine⟨u',r',?_⟩;rcases q with ⟨k,e⟩|⟨k,c,e,z⟩
    ·refine .inl ⟨k,?_⟩;have:y≠x:=λe=>hj (sG hN e1 (e ▸ hi));simp[this,e]
    ·exact .inr ⟨k,c,e,z.sameBut hs (cne y c e)⟩
  ·obtain⟨w',z⟩:=I.cell y c e;exact⟨w',z.sameBut hs (cne y c e)⟩
  ·obtain⟨e,n,ne,nf,d⟩:=I.pin p hp;exact⟨(hs.2 p.1 ne).trans e,n,ne,nf,d⟩
 ·have hfn:X.fn x=true:=by
   rcases hf with z|z
   ·exact z
   ·rw[z] at hk;cases hk
  obtain⟨c,hc⟩:=I.ok.has x (.inl hk);obtain⟨w',z⟩:=I.cell x c hc;refine wpAny_storeName_cell I.ok.kind hk hc z (λh' hc' hs=>?_);obtain⟨oc,hoc,hocd⟩:=id z;refine h {s with heap:=h'} ⟨I.ok,I.os,I.bare,⟨λb o e n hb hx=>?_,λb o e n hb hx=>?_,I.base.free,λb o e hx=>?_,I.base.tups,I.base.frzs,I.base.tbls⟩,⟨m,hn.sameBut hs (Ne.symm (cne x c hc)),λj y v' e1 e2 e3=>?_⟩,λy c' e=>?_,I.free,I.freeC,λp hp=>?_,tracked ⟨oc,hoc,I.freeC x c hc⟩ hs,by simpa using I.len⟩ ⟨c,hs,.inr hc⟩
  ·exact(hs.2 b (Nat.ne_of_lt (Nat.lt_of_lt_of_le (Heap.lt_size e) (I.ok.cab x c hfn hc)))).trans (I.base.keep b o e n hb hx)
  ·obtain⟨sl,e1⟩:=I.base.slot b o e n hb hx;exact⟨sl,(hs.2 b (Nat.ne_of_lt (Nat.lt_of_lt_of_le (Heap.lt_size e) (I.ok.cab x c hfn hc)))).trans e1⟩
  ·obtain⟨o',e1⟩:=I.base.there b o e hx;exact⟨o',(hs.2 b (Nat.ne_of_lt (Nat.lt_of_lt_of_le (Heap.lt_size e) (I.ok.cab x c hfn hc)))).trans e1⟩
  ·by_cases hj:j=i
   ·subst hj;rw[hi] at e1;cases e1;rw[List.getElem?_set_self hiσ] at e2;cases e2;exact⟨u,r,.inr ⟨.inl hk,c,hc,hc'⟩⟩
   ·rw[List.getElem?_set_ne (Ne.symm hj)] at e2;obtain⟨u',r',q⟩:=hl j y v' e1 e2 e3;refine⟨u',r',?_⟩;rcases q with q|⟨k,c',e,z'⟩
    ·exact .inl q
    ·refine .inr ⟨k,c',e,z'.sameBut hs ?_⟩;rintro rfl;exact hj (sG hN e1 (I.ok.inj _ _ _ e hc ▸ hi))
  ·by_cases hcc:c'=c
   ·subst hcc;exact⟨_,hc'⟩
   ·obtain⟨w2,z2⟩:=I.cell y c' e;exact⟨w2,z2.sameBut hs hcc⟩
  ·obtain⟨e,n,ne,nf,d⟩:=I.pin p hp;refine⟨(hs.2 p.1 ?_).trans e,n,ne,nf,d⟩;intro q;rw[q,hoc] at e;have q':oc=p.2:=Zg e;exact d w' (by rw[<- q'];exact hocd)
theorem rW{M:Model}{A:Around}{E:Value->Shared->Prop}{i:Nat}{x:Str}{v:V}{u:Value}{Q:Unit->Shared->Prop}(I:Inv X pins σ H s)(hN:X.N.Nodup)(hi:X.N[i]? =some x)(hx:RR X.env.scope x)(r:RelV v u)
 (h:∀s',Inv X pins (σ.set i (some v)) H s'->Q () s')(hf:X.fn x=true\/X.env.scope.names.lookup x=some .local:=by first |exact .inl rfl|exact .inr rfl|assumption):wpAny M A (storeName X.env x u) Q E s:=
 pB I hN hi hx r (λs' I' _=>h s' I') hf
end
noncomputable abbrev XK:=Value->Option Addr->Hp->Prop
noncomputable abbrev St:=List (Option V)
noncomputable abbrev VK:=V->Hp->Prop
noncomputable abbrev TE:=St->Hp->VK->Prop
noncomputable abbrev TT:=St->Hp->(Bool->Hp->Prop)->Prop
noncomputable abbrev TA:=St->Hp->(List V->Hp->Prop)->Prop
structure Ends where
 nx:St->Hp->Prop
 rt:VK
 bk:St->Hp->Prop:=λ_ _=>False
 ct:St->Hp->Prop:=λ_ _=>False
noncomputable abbrev TS:=Ends->St->Hp->Prop
def EP(X:Cx)(pins:List (Addr×Obj))(σ:St)(Q:VK)(u:Value)(s':Shared):Prop:=∃v H',Inv X pins σ H' s'/\RelV v u/\Q v H'
def TP(X:Cx)(pins:List (Addr×Obj))(σ:St)(Q:Bool->Hp->Prop)(b:Bool)(s':Shared):Prop:=∃H',Inv X pins σ H' s'/\Q b H'
def AP(X:Cx)(pins:List (Addr×Obj))(σ:St)(Q:List V->Hp->Prop)(us:List Value)(s':Shared):Prop:=∃vs H',Inv X pins σ H' s'/\Vals vs us/\Q vs H'
def SP(X:Cx)(pins:List (Addr×Obj))(D:Ends)(f:Flow)(s':Shared):Prop:=
 match f with
 |.next=>∃σ' H',Inv X pins σ' H' s'/\D.nx σ' H'
 |.brk=>∃σ' H',Inv X pins σ' H' s'/\D.bk σ' H'
 |.cont=>∃σ' H',Inv X pins σ' H' s'/\D.ct σ' H'
 |.ret u=>∃v σ' H',Inv X pins σ' H' s'/\RelV v u/\D.rt v H'
def PE(X:Cx)(e:Expr)(t:TE):Prop:=
 ∀(pins:List (Addr×Obj))(s:Shared)(σ:St)(H:Hp)(Q:VK),Inv X pins σ H s->t σ H Q->wpAny (model X.prog X.w) X.A (eval e X.env) (EP X pins σ Q) X.xe s
def PT(X:Cx)(e:Expr)(t:TT):Prop:=
 ∀(pins:List (Addr×Obj))(s:Shared)(σ:St)(H:Hp)(Q:Bool->Hp->Prop),Inv X pins σ H s->t σ H Q->wpAny (model X.prog X.w) X.A (isTrue e X.env (eval e X.env)) (TP X pins σ Q) X.xe s
def PW(X:Cx)(e:Expr)(t:TT):Prop:=
 ∀(whole:Sem Value)(pins:List (Addr×Obj))(s:Shared)(σ:St)(H:Hp)(Q:Bool->Hp->Prop),Inv X pins σ H s->t σ H Q->wpAny (model X.prog X.w) X.A (isTrue e X.env whole) (TP X pins σ Q) X.xe s
theorem PW.pt{X:Cx}{e:Expr}{t:TT}(h:PW X e t):PT X e t:=h _
def PA(X:Cx)(es:List Expr)(t:TA):Prop:=
 ∀(pos:Pos)(pins:List (Addr×Obj))(s:Shared)(σ:St)(H:Hp)(Q:List V->Hp->Prop),Inv X pins σ H s->t σ H Q->wpAny (model X.prog X.w) X.A (spliced (backTo pos (starEach es X.env))) (AP X pins σ Q) X.xe s
def PS(X:Cx)(st:Stmt)(t:TS):Prop:=
 ∀(pins:List (Addr×Obj))(s:Shared)(σ:St)(H:Hp)(D:Ends),Inv X pins σ H s->t D σ H->wpAny (model X.prog X.w) X.A (exec st X.env) (SP X pins D) X.xe s
def PSs(X:Cx)(st:List Stmt)(t:TS):Prop:=
 ∀(pins:List (Addr×Obj))(s:Shared)(σ:St)(H:Hp)(D:Ends),Inv X pins σ H s->t D σ H->wpAny (model X.prog X.w) X.A (execs st X.env) (SP X pins D) X.xe s
theorem bP{α:Type}{t:Sem α}{Q Q':α->Shared->Prop}{M:Model}{A:Around}{E:Value->Shared->Prop}{s:Shared}(h:wpAny M A t Q E s)(hQ:∀a s,Q a s->Q' a s):wpAny M A t Q' E s:=wpAny_mono h hQ λ_ _ x=>x
end L2
namespace L2
open PySem PySem.Spec PyProof.Rows
section
variable {X:Cx}
theorem bin{a b:Expr}{ta tb:TE}(ha:PE X a ta)(hb:PE X b tb){pins:List (Addr×Obj)}{s:Shared}{σ:St}{H:Hp}{R:V->V->Hp->Prop}(I:Inv X pins σ H s)(h:ta σ H λx H1=>tb σ H1 λy H2=>R x y H2)
 {α:Type}{Q:α->Shared->Prop}{f:Value->Value->Sem α}
 (hf:∀v u s2 x y H2,Inv X pins σ H2 s2->RelV x v->RelV y u->R x y H2->wpAny (model X.prog X.w) X.A (f v u) Q X.xe s2):
 wpAny (model X.prog X.w) X.A (eval a X.env) (λv s₁=>wpAny (model X.prog X.w) X.A (eval b X.env) (λu s₂=>wpAny (model X.prog X.w) X.A (f v u) Q X.xe s₂) X.xe s₁) X.xe s:=by
 refine bP (ha pins s σ H _ I h) λv s1 ⟨x,H1,I1,r1,q1⟩=>?_;refine bP (hb pins s1 σ H1 _ I1 q1) λu s2 ⟨y,H2,I2,r2,q2⟩=>?_;exact hf v u s2 x y H2 I2 r1 r2 q2
def SC(i:Nat):TE:=λσ H Q=>∃v,σ[i]? =some (some v)/\Q v H
def tC(v:V):TE:=λ_ H Q=>Q v H
theorem MP{i:Nat}{x:Str}{pos:Pos}(hN:X.N[i]? =some x)(hv:XJ X.env.scope x)(hd:(x==("__debug__":Str))=false:=by decide)(hcd:(x==("__classdict__":Str))=false:=by decide):PE X (.Name x pos) (SC i):=by
 intro pins s σ H Q I h;obtain⟨v,e,h⟩:=h;obtain⟨m,hn,hl⟩:=I.loc;obtain⟨u,r,l⟩:=hl i x v hN e hv;have fin:EP X pins σ Q u s:=⟨v,H,I,r,h⟩;rcases l with ⟨hk,hm⟩|⟨hk,c,hc,hcell⟩
 ·exact wpAny_Name (wpAny_loadName_local I.ok.kind hk hn hm fin) hd
 ·rcases hk with hk|hk
  ·exact wpAny_Name (wpAny_loadName_cell I.ok.kind hk hc hcell fin) hd
  ·exact wpAny_Name (wpAny_loadName_free I.ok.kind hk hc hcell fin hcd) hd
theorem MW{i j pos}:PE X (.Constant (.int i) j pos) (tC (.int i)):=λ_ _ _ H _ I h=>wpAny_Constant_int ⟨.int i,H,I.tok _,⟨_,rfl⟩,h⟩
theorem TH{b j pos}:PE X (.Constant (.bool b) j pos) (tC (.bl b)):=λ_ _ _ H _ I h=>Constant_bool ⟨.bl b,H,I,rfl,h⟩
theorem MT{j pos}:PE X (.Constant .none j pos) (tC .non):=λ_ _ _ H _ I h=>Constant_none ⟨.non,H,I,rfl,h⟩
theorem BQ{x j pos}:PE X (.Constant (.str x) j pos) (tC (.str x)):=λ_ _ _ H _ I h=>Calls.Constant_str ⟨.str x,H,I.tok _,⟨_,rfl⟩,h⟩
def Gl(X:Cx)(x:Str):Prop:=X.env.kindOf x=some .globalImplicit
theorem qS{E:Value->Shared->Prop}{pins:List (Addr×Obj)}{s:Shared}{σ:St}{H:Hp}{x:Str}{u:Value}{pos:Pos}{Q:Value->Shared->Prop}(I:Inv X pins σ H s)(hg:Gl X x)(hm:X.mg x=some u)(h:Q u s)
 (hd:(x==("__debug__":Str))=false:=by decide):wpAny (model X.prog X.w) X.A (eval (.Name x pos) X.env) Q E s:=
 Calls.Name_function_global I.ok.kind hg (Calls.loadGlobal_global (by rw[I.ok.glob];exact I.mod.glob.keeps I.bk) hm h) hd
theorem kW{E:Value->Shared->Prop}{pins:List (Addr×Obj)}{s:Shared}{σ:St}{H:Hp}{x:Str}{u:Value}{pos:Pos}{Q:Value->Shared->Prop}(I:Inv X pins σ H s)(hg:Gl X x)(hm:X.mg x=none)(hv:bootBuiltins x=some u)(h:Q u s)
 (hn:x≠"__name__":=by decide)(hd:(x==("__debug__":Str))=false:=by decide):wpAny (model X.prog X.w) X.A (eval (.Name x pos) X.env) Q E s:=by
 obtain⟨mb,h1,h2⟩:=I.mod.blt;exact Calls.Name_function_global I.ok.kind hg (Calls.loadGlobal_builtin (by rw[I.ok.glob];exact I.mod.glob.keeps I.bk) hm (by rw[I.ok.blt];exact h1.keeps I.bk) ((h2 x hn).trans hv) h) hd
theorem GJ{x:Str}{v:V}{u:Value}{pos:Pos}(hg:Gl X x)(hm:X.mg x=some u)(r:RelV v u)(hd:(x==("__debug__":Str))=false:=by decide):PE X (.Name x pos) (tC v):=
 λ_ _ _ H _ I h=>qS I hg hm ⟨v,H,I,r,h⟩ hd
theorem GM{x:Str}{v:V}{u:Value}{pos:Pos}(hg:Gl X x)(hm:X.mg x=none)(hv:bootBuiltins x=some u)(r:RelV v u)(hn:x≠"__name__":=by decide)(hd:(x==("__debug__":Str))=false:=by decide):PE X (.Name x pos) (tC v):=
 λ_ _ _ H _ I h=>kW I hg hm hv ⟨v,H,I,r,h⟩ hn hd
variable {a b:Expr}{ta tb:TE}{pos:Pos}
variable {tA tB':TT}{rest:List Expr}
def YI(t u:TT):TT:=λσ H Q=>t σ H λc H1=>if c=true then u σ H1 Q else Q false H1
def tOr(t u:TT):TT:=λσ H Q=>t σ H λc H1=>if c=true then Q true H1 else u σ H1 Q
def YC(t:TT):TT:=λσ H Q=>t σ H λc H1=>Q (!c) H1
theorem FX(ha:PT X a tA):PW X (.BoolOp .And [a] pos) tA:=by
 intro wh pins s σ H Q I h;refine isTrue_and (bP (ha pins s σ H Q I h) λc s1 e=>?_);cases c with
 |true=>exact isTrue_and_nil e
 |false=>exact e
theorem MG(ha:PT X a tA):PW X (.BoolOp .Or [a] pos) tA:=by
 intro wh pins s σ H Q I h;refine isTrue_or (bP (ha pins s σ H Q I h) λc s1 e=>?_);cases c with
 |false=>exact isTrue_or_nil e
 |true=>exact e
theorem MH(ha:PT X a tA)(hb:PW X (.BoolOp .And (b::rest) pos) tB'):PW X (.BoolOp .And (a::b::rest) pos) (YI tA tB'):=by
 intro wh pins s σ H Q I h;refine isTrue_and (bP (ha pins s σ H _ I h) λc s1 ⟨H1,I1,q1⟩=>?_);cases c with
 |true=>exact hb wh pins s1 σ H1 Q I1 q1
 |false=>exact⟨H1,I1,q1⟩
theorem SY(ha:PT X a tA)(hb:PW X (.BoolOp .Or (b::rest) pos) tB'):PW X (.BoolOp .Or (a::b::rest) pos) (tOr tA tB'):=by
 intro wh pins s σ H Q I h;refine isTrue_or (bP (ha pins s σ H _ I h) λc s1 ⟨H1,I1,q1⟩=>?_);cases c with
 |true=>exact⟨H1,I1,q1⟩
 |false=>exact hb wh pins s1 σ H1 Q I1 q1
theorem MI(ha:PT X a tA):PT X (.UnaryOp .Not a pos) (YC tA):=by
 intro pins s σ H Q I h;exact isTrue_not (ha pins s σ H (λc H1=>Q (!c) H1) I h)
theorem BR{op}{t:TE}(h:PE X a t):PE X (.BoolOp op [a] pos) t:=λpins s σ H Q I hw=>BoolOp_one (h pins s σ H Q I hw)
def tIf(t:TT)(ta tb:TE):TE:=λσ H Q=>t σ H λc H1=>if c=true then ta σ H1 Q else tb σ H1 Q
theorem BT{c:Expr}(hc:PT X c tA)(ha:PE X a ta)(hb:PE X b tb):PE X (.IfExp c a b pos) (tIf tA ta tb):=by
 intro pins s σ H Q I h;refine wpAny_IfExp (bP (hc pins s σ H _ I h) λd s1 ⟨H1,I1,q1⟩=>?_);cases d with
 |true=>exact ha pins s1 σ H1 Q I1 q1
 |false=>exact hb pins s1 σ H1 Q I1 q1
end
end L2
namespace L2
open PySem PySem.Spec PyProof.Rows
def SqL(K:W.Frag)(H:Hp)(a:Addr)(xs:List V):Prop:=
 Rd H a (.lst xs)\/
  ∃(o:Obj)(its:Array Value)(n:Nat),K.lookup a=some o/\o.cls=.type "list"/\o.dict=none/\o.data=.seq its n/\its.size<=sizeLine/\Vals xs its.toList
def SqT(K:W.Frag)(H:Hp)(a:Addr)(xs:List V):Prop:=
 Rd H a (.tup xs)\/
  ∃(o:Obj)(its:Array Value)(n:Nat),K.lookup a=some o/\o.cls=.type "tuple"/\o.data=.seq its n/\its.size<=sizeLine/\Vals xs its.toList
noncomputable def K4:Value->Option V
 |.none=>some .non
 |.bool b=>some (.bl b)
 |.int i _=>some (.int i)
 |.str x _=>some (.str x)
 |.bytes b _=>some (.byt b)
 |.float b _=>some (.flt b)
 |.ref a=>some (.ref a)
 |.type n=>some (.ty n)
 |_=>none
theorem RelV.abs{x:V}{u:Value}(r:RelV x u):K4 u=some x:=by
 cases x with
 |non=>cases r;rfl
 |bl _=>cases r;rfl
 |int _=>obtain⟨t,rfl⟩:=r;rfl
 |str _=>obtain⟨t,rfl⟩:=r;rfl
 |byt _=>obtain⟨t,rfl⟩:=r;rfl
 |flt _=>obtain⟨t,rfl⟩:=r;rfl
 |ref _=>cases r;rfl
 |ty _=>cases r;rfl
theorem RelV.inj{x y:V}{u:Value}(r:RelV x u)(q:RelV y u):x=y:=Zg (r.abs.symm.trans q.abs)
theorem Vals.inj:∀{xs ys:List V}{us:List Value},Vals xs us->Vals ys us->xs=ys
 |_,_,_,.nil,.nil=>rfl
 |_,_,_,.cons r t,.cons r' t'=>by rw[r.inj r',Vals.inj t t']
section
variable {X:Cx}{pins:List (Addr×Obj)}{σ:St}{H:Hp}{s:Shared}{a:Addr}{xs ys:List V}
theorem SqL.of{K:W.Frag}(h:H a=some (.lst xs)):SqL K H a xs:=.inl (.inl h)
theorem SqT.of{K:W.Frag}(h:H a=some (.tup xs)):SqT K H a xs:=.inl (.inl h)
theorem Inv.list(I:Inv X pins σ H s)(h:SqL X.K H a xs):∃its:List Value,Vals xs its/\PlainL s.heap a its.toArray/\xs.length<=sizeLine:=by
 rcases h with h|⟨o,its,n,hk,hc,hd,hs,hz,r⟩
 ·obtain⟨z,its,n,r,e⟩:=h.ok I.hok;exact⟨its,r,⟨_,n,e,rfl,rfl,rfl⟩,z⟩
 ·refine⟨its.toList,r,⟨o,n,I.kIn a o hk,hc,hd,by simpa using hs⟩,?_⟩;have e:=r.length;simp only[Array.length_toList] at e;omega
theorem Inv.tuple(I:Inv X pins σ H s)(h:SqT X.K H a xs):∃its:List Value,Vals xs its/\IsTup s.heap a its.toArray/\xs.length<=sizeLine:=by
 rcases h with h|⟨o,its,n,hk,hc,hs,hz,r⟩
 ·obtain⟨z,its,r,p⟩:=h.ok I.hok;exact⟨its,r,p,z⟩
 ·refine⟨its.toList,r,⟨o,I.kIn a o hk,hc,n,by simpa using hs⟩,?_⟩;have e:=r.length;simp only[Array.length_toList] at e;omega
theorem Inv.list_inj(I:Inv X pins σ H s)(h:SqL X.K H a xs)(h':SqL X.K H a ys):xs=ys:=by
 obtain⟨its,r,⟨o,n,e,_,_,d⟩,_⟩:=I.list h;obtain⟨its',r',⟨o',n',e',_,_,d'⟩,_⟩:=I.list h';rw[e] at e';cases e';rw[d] at d';injection d' with d1 _;have:its=its':=by simpa using congrArg Array.toList d1
 subst this;exact r.inj r'
theorem Inv.tuple_inj(I:Inv X pins σ H s)(h:SqT X.K H a xs)(h':SqT X.K H a ys):xs=ys:=by
 obtain⟨its,r,⟨o,e,_,n,d⟩,_⟩:=I.tuple h;obtain⟨its',r',⟨o',e',_,n',d'⟩,_⟩:=I.tuple h';rw[e] at e';cases e';rw[d] at d';injection d' with d1 _;have:its=its':=by simpa using congrArg Array.toList d1
 subst this;exact r.inj r'
end
noncomputable abbrev Cx.wish(X:Cx)(E:Value->Shared->Prop):Cx:={X with xe:=E}
noncomputable abbrev Cx.nox(X:Cx):Cx:=X.wish λ_ _=>False
section
variable {X:Cx}{pins:List (Addr×Obj)}{σ:St}{H:Hp}{s:Shared}{E:Value->Shared->Prop}
end
section
variable {X:Cx}{st:Stmt}{rest:List Stmt}{t u:TS}{e:Expr}{te:TE}{pos:Pos}
def SG:TS:=λD σ H=>D.nx σ H
def XZ(t u:TS):TS:=λD σ H=>t {D with nx:=u D} σ H
theorem GB:PSs X [] SG:=λ_ _ σ H _ I h=>wpAny_execs_nil ⟨σ,H,I,h⟩
theorem BG(h1:PS X st t)(h2:PSs X rest u):PSs X (st::rest) (XZ t u):=by
 intro pins s σ H D I h;refine wpAny_execs_cons (bP (h1 pins s σ H {D with nx:=u D} I h) λf s1 q=>?_);cases f with
 |next=>
  obtain⟨σ',H',I',q⟩:=q;exact h2 pins s1 σ' H' D I' q
 |ret v=>exact q
 |brk=>exact q
 |cont=>exact q
theorem GA(h1:PS X st t):PSs X [st] t:=by
 intro pins s σ H D I h;refine wpAny_execs_cons (bP (h1 pins s σ H D I h) λf s1 q=>?_);cases f with
 |next=>exact wpAny_execs_nil q
 |ret v=>exact q
 |brk=>exact q
 |cont=>exact q
theorem Inv.quiet{pins:List (Addr×Obj)}{σ:St}{H:Hp}{s:Shared}(I:Inv X pins σ H s):interactive X.env=false:=by simp[interactive,I.ok.kind]
def SI(te:TE):TS:=λD σ H=>te σ H λ_ H1=>D.nx σ H1
theorem GC(he:PE X e te)(hs:swapsWith e none pos.line X.env=pure false:=by rfl):PS X (.Expr e pos) (SI te):=by
 intro pins s σ H D I h;exact wpAny_Expr_any (bP (he pins s σ H _ I h) λv s1 ⟨x,H1,I1,r1,q1⟩=>⟨σ,H1,I1,q1⟩) I.quiet hs
def YA(te:TE):TS:=λD σ H=>te σ H D.rt
theorem BI(he:PE X e te):PS X (.Return (some e) pos) (YA te):=by
 intro pins s σ H D I h;exact wpAny_Return_some (bP (he pins s σ H _ I h) λv s1 ⟨x,H1,I1,r1,q1⟩=>⟨x,σ,H1,I1,r1,q1⟩)
def YE(c:TT)(t u:TS):TS:=λD σ H=>c σ H λb H1=>if b=true then t D σ H1 else u D σ H1
theorem SZ{c:Expr}{a b:List Stmt}{tc:TT}(hc:PT X c tc)(ha:PSs X a t)(hb:PSs X b u):PS X (.If c a b pos) (YE tc t u):=by
 intro pins s σ H D I h;refine wpAny_If (bP (hc pins s σ H _ I h) λd s1 ⟨H1,I1,q1⟩=>?_);cases d with
 |true=>exact ha pins s1 σ H1 D I1 q1
 |false=>exact hb pins s1 σ H1 D I1 q1
end
noncomputable abbrev TG:=V->St->Hp->(St->Hp->Prop)->Prop
noncomputable abbrev LI:=List V->St->Hp->(St->Hp->Prop)->Prop
def PG(X:Cx)(target:Expr)(t:TG):Prop:=
 ∀(pins:List (Addr×Obj))(s:Shared)(σ:St)(H:Hp)(v:V)(u:Value)(Q:St->Hp->Prop),Inv X pins σ H s->RelV v u->t v σ H Q->
  wpAny (model X.prog X.w) X.A (assign target X.env u) (λ_ s'=>∃σ' H',Inv X pins σ' H' s'/\Q σ' H') X.xe s
def WM(X:Cx)(ts:List Expr)(t:LI):Prop:=
 ∀(pins:List (Addr×Obj))(s:Shared)(σ:St)(H:Hp)(vs:List V)(us:List Value)(Q:St->Hp->Prop),Inv X pins σ H s->Vals vs us->t vs σ H Q->
  wpAny (model X.prog X.w) X.A (assignInOrder ((assignEach ts X.env).map (·.2)) us) (λ_ s'=>∃σ' H',Inv X pins σ' H' s'/\Q σ' H') X.xe s
noncomputable abbrev JI:=V->V->V->Hp->(Hp->Prop)->Prop
def QW(X:Cx)(t:JI):Prop:=
 ∀(pins:List (Addr×Obj))(s:Shared)(σ:St)(H:Hp)(o i v:V)(ov iv u:Value)(Q:Hp->Prop),Inv X pins σ H s->RelV o ov->RelV i iv->RelV v u->t o i v H Q->
  wpAny (model X.prog X.w) X.A (setItem ov iv u) (λ_ s'=>∃H',Inv X pins σ H' s'/\Q H') X.xe s
section
variable {X:Cx}{pos:Pos}
noncomputable def sX(i:Nat):TG:=λv σ H Q=>Q (σ.set i (some v)) H
theorem wH{i:Nat}{x:Str}(hN:X.N.Nodup)(hi:X.N[i]? =some x)(hx:RR X.env.scope x)(hf:X.fn x=true\/X.env.scope.names.lookup x=some .local:=by first |exact .inl rfl|exact .inr rfl|assumption):PG X (.Name x pos) (sX i):=by
 intro pins s σ H v u Q I r h;exact wpAny_assign_Name (rW I hN hi hx r (λs' I'=>⟨_,H,I',h⟩) hf)
noncomputable def A6:LI:=λvs σ H Q=>vs=[]/\Q σ H
noncomputable def UR(t:TG)(u:LI):LI:=λvs σ H Q=>∃v r,vs=v::r/\t v σ H λσ' H'=>u r σ' H' Q
theorem GD:WM X [] A6:=by
 intro pins s σ H vs us Q I r h;obtain⟨e,h⟩:=h;subst e;cases r;exact assignInOrder_nil ⟨σ,H,I,h⟩
theorem BO{e:Expr}{es:List Expr}{t:TG}{u:LI}(h1:PG X e t)(h2:WM X es u)
 (hs:(assignEach (e::es) X.env).map (·.2)=assign e X.env::(assignEach es X.env).map (·.2):=by rfl):WM X (e::es) (UR t u):=by
 intro pins s σ H vs us Q I r h;obtain⟨v,vr,e1,h⟩:=h;subst e1;cases r with
 |cons r rr=>
  rw[hs];refine assignInOrder_cons (bP (h1 pins s σ H _ _ _ I r h) λ_ s1 ⟨σ1,H1,I1,q1⟩=>?_);exact h2 pins s1 σ1 H1 _ _ Q I1 rr q1
noncomputable def A4(K:W.Frag)(n:Nat)(t:LI):TG:=λv σ H Q=>∃a xs,v=.ref a/\SqT K H a xs/\xs.length=n/\t xs σ H Q
theorem MN{es:List Expr}{k:Nat}{t:LI}{n:Nat}(hc:X.calm=true)(h:WM X es t)
 (hn:(assignEach es X.env).length=n:=by rfl)(hst:(assignEach es X.env).findIdx? (·.1)=none:=by rfl):PG X (.Tuple es k pos) (A4 X.K n t):=by
 intro pins s σ H v u Q I r hw;obtain⟨a,xs,e1,hq,hl,hw⟩:=hw;subst e1;cases r;obtain⟨its,rv,ht,hz⟩:=I.tuple hq;refine assign_Tuple_tuple (I.ok.hd hc) ht (by simp[hn, <- hl,rv.length]) hst λh' hx=>?_;have I1:Inv X pins σ H {s with heap:=h'}:=I.kept (t':=s.toks) λb o e=>hx b o (Nat.ne_of_lt (Heap.lt_size e)) e;exact h pins _ σ H xs _ Q I1 (by simpa using rv) hw
noncomputable def A5(to ti:TE)(t:JI):TG:=λv σ H Q=>to σ H λo H1=>ti σ H1 λi H2=>t o i v H2 λH3=>Q σ H3
theorem MO{o i:Expr}{to ti:TE}{t:JI}(ho:PE X o to)(hi:PE X i ti)(hs:QW X t)
 (ha:∀v,assign (.Subscript o i pos) X.env v=(do
   let ov <- holding [v] (eval o X.env)
   let iv <- holding [v,ov] (eval i X.env)
   standAt pos
   holding [v,ov,iv] (setItem ov iv v)
   release [v,ov,iv] []):=by intro _;rfl):PG X (.Subscript o i pos) (A5 to ti t):=by
 intro pins s σ H v u Q I r h;rw[ha];refine Za (wpAny_holding (bP (ho pins s σ H _ I h) λov s1 ⟨x,H1,I1,r1,q1⟩=>?_));refine Za (wpAny_holding (bP (hi pins s1 σ H1 _ I1 q1) λiv s2 ⟨y,H2,I2,r2,q2⟩=>?_));refine Za (wpAny_standAt (Za (wpAny_holding (bP (hs pins s2 σ H2 x y v ov iv u _ I2 r1 r2 r q2) λ_ s3 ⟨H3,I3,q3⟩=>?_))));exact wpAny_release ⟨σ,H3,I3,q3⟩
def LY(te:TE)(g:TG):TS:=λD σ H=>te σ H λx H1=>g x σ H1 D.nx
theorem BJ{tg e:Expr}{te:TE}{g:TG}(he:PE X e te)(hg:PG X tg g)(hs:swapsWithSole [tg] e pos.line X.env=pure false:=by rfl)(hw:swappedStores [tg] e X.env=pure none:=by rfl)
 (h1:(assignEach [tg] X.env).map (·.2)=[assign tg X.env]:=by rfl):PS X (.Assign [tg] e pos) (LY te g):=by
 intro pins s σ H D I h;refine wpAny_Assign_stores (bP (he pins s σ H _ I h) λv s1 ⟨x,H1,I1,r1,q1⟩=>?_) hs hw;rw[h1];exact bP (hg pins s1 σ H1 x v _ I1 r1 q1) λ_ s2 q=>q
theorem MJ{i:Nat}{x:Str}{e:Expr}{te:TE}{pos':Pos}(hN:X.N.Nodup)(hi:X.N[i]? =some x)(hx:RR X.env.scope x)(he:PE X e te)(hs:swapsWith e (some (.Name x pos')) pos.line X.env=pure false:=by rfl)(hf:X.fn x=true\/X.env.scope.names.lookup x=some .local:=by first |exact .inl rfl|exact .inr rfl|assumption):
 PS X (.Assign [.Name x pos'] e pos) (LY te (sX i)):=by
 intro pins s σ H D I h;refine wpAny_Assign_Name (bP (he pins s σ H _ I h) λv s1 ⟨y,H1,I1,r1,q1⟩=>?_) hs;exact rW I1 hN hi hx r1 (λs2 I2=>⟨_,H1,I2,q1⟩) hf
end
section
variable {X:Cx}{pos:Pos}
def AL(c:TT)(tb:TS):TS:=λD σ H=>∃W:Nat->St->Hp->Prop,(∃m,W m σ H)/\∀m σ H,W m σ H->
 c σ H λb H1=>if b=true then ∃N:St->Hp->Prop,(∀σ' H',N σ' H'->∃m',m'<m/\W m' σ' H')/\tb {D with nx:=N,ct:=N,bk:=D.nx} σ H1 else D.nx σ H1
theorem BH{c:Expr}{body:List Stmt}{tc:TT}{tb:TS}(hp:PassesOwn (model X.prog X.w) X.A X.env X.xe)(hc:PT X c tc)(hb:PSs X body tb):PS X (.While c body [] pos) (AL tc tb):=by
 intro pins s σ H D I h;obtain⟨W,⟨m0,w0⟩,turn⟩:=h;refine wpAny_While (codeAny_whileLoop (λn s'=>∃σ' H',Inv X pins σ' H' s'/\W n σ' H') ?_ m0 ⟨σ,H,I,w0⟩);rintro n s1 ⟨σ1,H1,I1,w1⟩;refine wpAny_passesOwn hp (bP (hc pins s1 σ1 H1 _ I1 (turn n σ1 H1 w1)) λb s2 ⟨H2,I2,q2⟩=>?_);cases b with
 |true=>
  obtain⟨N,hN,q2⟩:=q2;rw[if_pos rfl];refine wpAny_passesOwn hp (bP (hb pins s2 σ1 H2 _ I2 q2) λf s3 q3=>?_);cases f with
  |next=>
   obtain⟨σ3,H3,I3,n3⟩:=q3;obtain⟨m',hm,w3⟩:=hN σ3 H3 n3;exact⟨m',hm,σ3,H3,I3,w3⟩
  |cont=>
   obtain⟨σ3,H3,I3,n3⟩:=q3;obtain⟨m',hm,w3⟩:=hN σ3 H3 n3;exact⟨m',hm,σ3,H3,I3,w3⟩
  |brk=>exact q3
  |ret v=>exact q3
 |false=>
  rw[if_neg Bool.false_ne_true];exact wpAny_execs_nil ⟨σ1,H2,I2,q2⟩
end
structure It where
 go:Nat->Hp->Prop
 yld:Nat->Hp->V->Hp->Prop
 stop:Nat->Hp->Prop
def gO(X:Cx)(pins:List (Addr×Obj))(H:Hp)(b:Addr):Prop:=
 H b=none/\b≠X.env.locals/\b ∉ X.fs/\(b∈X.ex\/X.s₀.heap.objs.size<=b)/\(∀x c,X.env.cells.lookup x=some c->c≠b)/\∀p∈X.pn++pins,p.1≠b
theorem Inv.fpOk{X:Cx}{pins:List (Addr×Obj)}{σ:St}{H H':Hp}{s:Shared}{b:Addr}(I:Inv X pins σ H s)(hb:s.heap.objs.size<=b)(hn:H' b=none):gO X pins H' b:=by
 refine⟨hn,Nat.ne_of_gt (Nat.lt_of_lt_of_le I.lt hb),I.nofs hb,.inr (Nat.le_trans I.sz hb),λx c e z=>?_,λp hp z=>?_⟩
 ·obtain⟨v,q⟩:=I.cell x c e;exact absurd (Nat.lt_of_lt_of_le q.lt (by rw[z];exact hb)) (Nat.lt_irrefl _)
 ·exact absurd (Nat.lt_of_lt_of_le (Heap.lt_size (I.pin p hp).1) (by rw[z];exact hb)) (Nat.lt_irrefl _)
structure Turn (P:Program)(w:World)(K:W.Frag)(tg:Expr)(J:It)(fp:List Addr)(it:Addr)(tn:Nat->Heap->Prop):Prop where
 mem:it∈fp
 obj:∀i h,tn i h->∀b∈fp,∃o,h.get? b=some o/\∀v,o.data≠ .cell v
 keep:∀i h h',tn i h->(∀b∈fp,∀o,h.get? b=some o->h'.get? b=some o)->tn i h'
 item:∀(X:Cx),X.prog=P->X.w=w->X.K=K->X.calm=true->∀(i:Nat)(pins:List (Addr×Obj))(s:Shared)(σ:St)(H:Hp)(E:Value->Shared->Prop),Inv X pins σ H s->(∀b∈fp,gO X pins H b)->tn i s.heap->J.go i H->
  wpAny (model P w) X.A (pyNext (.ref it)) (λr s1=>∃u,r=some u/\
   wpAny (model P w) X.A (letOwnedTupleGo tg (.ref it) u) (λ_ s2=>∃x H',Inv X pins σ H' s2/\RelV x u/\J.yld i H x H'/\tn (i+1) s2.heap/\∀b∈fp,H' b=none) E s1) E s
 done:∀(X:Cx),X.prog=P->X.w=w->X.K=K->X.calm=true->∀(i:Nat)(pins:List (Addr×Obj))(s:Shared)(σ:St)(H:Hp)(E:Value->Shared->Prop),Inv X pins σ H s->(∀b∈fp,gO X pins H b)->tn i s.heap->J.stop i H->
  wpAny (model P w) X.A (pyNext (.ref it)) (λr s1=>r=none/\Inv X pins σ H s1) E s
 self:∀(A:Around)(i:Nat)(s:Shared)(Q:Value->Shared->Prop)(E:Value->Shared->Prop),tn i s.heap->Q (.ref it) s->wpAny (model P w) A (pyIter (.ref it)) Q E s
noncomputable abbrev TI:=St->Hp->(It->Hp->Prop)->Prop
def LJ(X:Cx)(pins:List (Addr×Obj))(σ:St)(tg:Expr)(R:It->Hp->Prop)(itv:Value)(s2:Shared):Prop:=
 ∃(it:Addr)(fp:List Addr)(tn:Nat->Heap->Prop)(J:It)(H':Hp),itv=.ref it/\Inv X pins σ H' s2/\Turn X.prog X.w X.K tg J fp it tn/\tn 0 s2.heap/\(∀b∈fp,gO X pins H' b)/\R J H'
def PI(X:Cx)(tg iter:Expr)(wi:TI):Prop:=
 ∀(pins:List (Addr×Obj))(s:Shared)(σ:St)(H:Hp)(R:It->Hp->Prop),Inv X pins σ H s->wi σ H R->
  wpAny (model X.prog X.w) X.A (eval iter X.env) (λv s1=>wpAny (model X.prog X.w) X.A (pyIter v) (LJ X pins σ tg R) X.xe s1) X.xe s
theorem wP{M:Model}{A:Around}{E:Value->Shared->Prop}{s:Shared}{tg:Expr}{it:Addr}{u:Value}{o:Obj}{n:String}{vs:Array Value}{Q:Unit->Shared->Prop}(ho:s.heap.get? it=some o)(hc:o.cls=.type n)(hd:o.data=.fields vs)
 (hn: ["enumerate","zip","dict_itemiterator","dict_reverseitemiterator","odict_iterator","itertools.zip_longest","itertools.pairwise"].contains n=false)(hQ:Q () s):wpAny M A (letOwnedTupleGo tg (.ref it) u) Q E s:=by
 unfold letOwnedTupleGo
 cases tg<;>first
  |exact Zb hQ
  |(cases u<;>first
     |exact Zb hQ
     |(refine Za (wpAny_load ho ?_)
       rw[hc,hd];show wpAny M A (if(["enumerate","zip","dict_itemiterator","dict_reverseitemiterator","odict_iterator","itertools.zip_longest","itertools.pairwise"].contains n&&vs[0]? ==some (rawInt _))=true then _ else _) Q E s;rw[if_neg (by intro h;rw[hn,Bool.false_and] at h;cases h)];exact Zb hQ))
noncomputable def LL(K:W.Frag)(a:Addr):It:=
 ⟨λi H=>∃xs x,SqL K H a xs/\xs[i]? =some x,λi H x H'=>H'=H/\∀xs,SqL K H a xs->xs[i]? =some x,λi H=>∃xs,SqL K H a xs/\xs.length<=i⟩
noncomputable def JL(K:W.Frag)(a:Addr):It:=
 ⟨λi H=>∃xs x,SqT K H a xs/\xs[i]? =some x,λi H x H'=>H'=H/\∀xs,SqT K H a xs->xs[i]? =some x,λi H=>∃xs,SqT K H a xs/\xs.length<=i⟩
noncomputable def zW(lo:Int)(n:Nat):It:=⟨λi _=>i<n,λi H x H'=>H'=H/\x=.int (lo+i),λi _=>n<=i⟩
theorem xZ{P:Program}{w:World}{K:W.Frag}{tg:Expr}(a it:Addr):Turn P w K tg (LL K a) [it] it (λi h=>h.IsListIter it a i) where
 mem:=by simp
 obj:=λi h st b hb=>by
  have e:b=it:=by simpa using hb
  subst e;obtain⟨o,e,c,d⟩:=st;exact⟨o,e,λv z=>by rw[d] at z;cases z⟩
 keep:=λi h h' st k=>st.at λo e=>k it (by simp) o e
 item:=by
  intro X hP hw hK hc i pins s σ H E I hf st hg;subst hP hw hK;obtain⟨xs,x,hq,hx⟩:=hg;obtain⟨its,rv,p,hz⟩:=I.list hq;obtain⟨u,hu,ru⟩:=rv.get hx;obtain⟨f0,f1,f2,f3,f4,f5⟩:=hf it (by simp);refine wpAny_pyNext_list_item st p.isList (x:=u) (by simpa using hu) λh' st' sb=>?_;have I1:Inv X pins σ H {s with heap:=h'}:=I.turned (t':=s.toks) (λb o hb e=>(sb.2 b hb).trans e) f0 f1 f3 f4 f5;obtain⟨o,e,c,d⟩:=id st';exact⟨u,rfl,wP (s:={s with heap:=h'}) e c d (by decide) ⟨x,H,I1,ru,⟨rfl,λys hy=>by rw[I.list_inj hy hq];exact hx⟩,st',λb hb=>(hf b hb).1⟩⟩
 done:=by
  intro X hP hw hK hc i pins s σ H E I hf st hg;subst hP hw hK;obtain⟨xs,hq,hx⟩:=hg;obtain⟨its,rv,p,hz⟩:=I.list hq;obtain⟨f0,f1,f2,f3,f4,f5⟩:=hf it (by simp);have hl:=rv.length;exact wpAny_pyNext_list_end (I.ok.hd hc) st p.isList (by simp;omega) λh' eb=>⟨rfl,I.turned (t':=s.toks) (λb o hb e=>eb b o hb e) f0 f1 f3 f4 f5⟩
 self:=λ_ _ _ _ _ st h=>wpAny_pyIter_listiter st h
theorem tY{P:Program}{w:World}{K:W.Frag}{tg:Expr}(a it:Addr):Turn P w K tg (JL K a) [it] it (λi h=>h.IsTupleIter it a i) where
 mem:=by simp
 obj:=λi h st b hb=>by
  have e:b=it:=by simpa using hb
  subst e;obtain⟨o,e,c,d⟩:=st;exact⟨o,e,λv z=>by rw[d] at z;cases z⟩
 keep:=λi h h' st k=>st.at λo e=>k it (by simp) o e
 item:=by
  intro X hP hw hK hc i pins s σ H E I hf st hg;subst hP hw hK;obtain⟨xs,x,hq,hx⟩:=hg;obtain⟨its,rv,p,hz⟩:=I.tuple hq;obtain⟨u,hu,ru⟩:=rv.get hx;obtain⟨f0,f1,f2,f3,f4,f5⟩:=hf it (by simp);refine wpAny_pyNext_tuple_item st (show s.heap.IsTuple a its.toArray from p) (x:=u) (by simpa using hu) λh' st' sb=>?_;have I1:Inv X pins σ H {s with heap:=h'}:=I.turned (t':=s.toks) (λb o hb e=>(sb.2 b hb).trans e) f0 f1 f3 f4 f5;obtain⟨o,e,c,d⟩:=id st';exact⟨u,rfl,wP (s:={s with heap:=h'}) e c d (by decide) ⟨x,H,I1,ru,⟨rfl,λys hy=>by rw[I.tuple_inj hy hq];exact hx⟩,st',λb hb=>(hf b hb).1⟩⟩
 done:=by
  intro X hP hw hK hc i pins s σ H E I hf st hg;subst hP hw hK;obtain⟨xs,hq,hx⟩:=hg;obtain⟨its,rv,p,hz⟩:=I.tuple hq;obtain⟨f0,f1,f2,f3,f4,f5⟩:=hf it (by simp);have hl:=rv.length;exact wpAny_pyNext_tuple_end (I.ok.hd hc) st (show s.heap.IsTuple a its.toArray from p) (by simp;omega) λh' eb=>⟨rfl,I.turned (t':=s.toks) (λb o hb e=>eb b o hb e) f0 f1 f3 f4 f5⟩
 self:=λ_ _ _ _ _ st h=>wpAny_pyIter_tupleiter st h
theorem tZ{P:Program}{w:World}{K:PySem.W.Frag}{tg:Expr}(it:Addr)(lo:Int)(n:Nat):Turn P w K tg (zW lo n) [it] it (λi h=>IsRangeIter h it (lo+(i:Nat)*1) ((n:Int)-(i:Nat)) 1) where
 mem:=by simp
 obj:=λi h st b hb=>by
  have e:b=it:=by simpa using hb
  subst e
  exact⟨_,st,λv z=>by
   have z':Data.fields _=Data.cell v:=z;cases z'⟩
 keep:=λi h h' st k=>k it (by simp) _ st
 item:=by
  intro X hP hw hK hc i pins s σ H E I hf st hg;subst hP hw hK;obtain⟨f0,f1,f2,f3,f4,f5⟩:=hf it (by simp);have W:=Walks.range (prog:=X.prog) (w:=X.w) (I.ok.hd hc) it lo 1 n;refine W.item i s _ _ hg st λv h' tk hv st' kk=>?_;obtain⟨t,rfl⟩:=hv;have I1:Inv X pins σ H {s with heap:=h',toks:=tk}:=I.turned (λb o hb e=>kk b o (by simpa using hb) e) f0 f1 f3 f4 f5;refine⟨_,rfl,wP (s:={s with heap:=h',toks:=tk}) (n:="range_iterator") st' rfl rfl (by decide) ⟨.int (lo+i),H,I1,⟨t,?_⟩,⟨rfl,rfl⟩,st',λb hb=>(hf b hb).1⟩⟩;rw[Int.mul_one]
 done:=by
  intro X hP hw hK hc i pins s σ H E I hf st hg;subst hP hw hK;obtain⟨f0,f1,f2,f3,f4,f5⟩:=hf it (by simp);exact wpAny_pyNext_range_end (I.ok.hd hc) st (by have:n<=i:=hg;omega) λh' eb=>⟨rfl,I.turned (t':=s.toks) (λb o hb e=>eb b o hb e) f0 f1 f3 f4 f5⟩
 self:=λ_ _ _ _ _ st h=>wpAny_pyIter_rangeiter st h
end L2
namespace L2
open PySem PySem.Spec PyProof.Rows
section
variable {X:Cx}{tg:Expr}
noncomputable def UO(K:W.Frag)(tl:TE):TI:=λσ H R=>tl σ H λx H1=>∃a,x=.ref a/\(∃xs,SqL K H1 a xs)/\R (LL K a) H1
noncomputable def iTup(K:W.Frag)(tl:TE):TI:=λσ H R=>tl σ H λx H1=>∃a,x=.ref a/\(∃xs,SqT K H1 a xs)/\R (JL K a) H1
theorem qM{l:Expr}{tl:TE}(hl:PE X l tl):PI X tg l (UO X.K tl):=by
 intro pins s σ H R I h;refine bP (hl pins s σ H _ I h) λv s1 ⟨x,H1,I1,r1,q1⟩=>?_;obtain⟨a,e,⟨xs,hq⟩,q⟩:=q1;subst e;cases r1;obtain⟨its,rv,p,hz⟩:=I1.list hq;refine wpAny_pyIter_list p.isList ?_;refine⟨s1.heap.objs.size,[s1.heap.objs.size],_,_,H1,rfl,I1.kept (t':=s1.toks) λb o e=>Zf _ e,xZ a _,⟨_,Heap.get?_push_size _ rfl,rfl,rfl⟩,λb hb=>?_,q⟩;have e:b=s1.heap.objs.size:=by simpa using hb
 subst e;exact I1.fpOk (Zn _) (I1.hok.fresh (Zn _))
theorem BN{l:Expr}{tl:TE}(hl:PE X l tl):PI X tg l (iTup X.K tl):=by
 intro pins s σ H R I h;refine bP (hl pins s σ H _ I h) λv s1 ⟨x,H1,I1,r1,q1⟩=>?_;obtain⟨a,e,⟨xs,hq⟩,q⟩:=q1;subst e;cases r1;obtain⟨its,rv,p,hz⟩:=I1.tuple hq;refine wpAny_pyIter_tuple (show s1.heap.IsTuple a its.toArray from p) ?_;refine⟨s1.heap.objs.size,[s1.heap.objs.size],_,_,H1,rfl,I1.kept (t':=s1.toks) λb o e=>Zf _ e,tY a _,⟨_,Heap.get?_push_size _ rfl,rfl,rfl⟩,λb hb=>?_,q⟩;have e:b=s1.heap.objs.size:=by simpa using hb
 subst e;exact I1.fpOk (Zn _) (I1.hok.fresh (Zn _))
theorem BD{pins:List (Addr×Obj)}{σ:St}{H:Hp}{s:Shared}{R:It->Hp->Prop}{E:Value->Shared->Prop}{lo hi:Int}{t u v:Tok}{tk:Nat}(I:Inv X pins σ H s)(h1: -(2^62)<=lo)(h2:lo<2^62)(h3: -(2^62)<=hi)(h4:hi<2^62)
 (q:R (zW lo (hi-lo).toNat) H):wpAny (model X.prog X.w) X.A (pyIter (.ref s.heap.objs.size)) (LJ X pins σ tg R) E {s with heap:=s.heap.push {cls:=.type "range",data:=.fields #[.int lo t,.int hi u,.int 1 v]},toks:=tk}:=by
 refine wpAny_pyIter_range (IsRange.new ..) (small_one h1 h2 h3 h4) ?_;have I1:Inv X pins σ H {s with heap:=s.heap.push {cls:=.type "range",data:=.fields #[.int lo t,.int hi u,.int 1 v]},toks:=tk}:=I.kept λb o e=>Zf _ e
 refine⟨(s.heap.push {cls:=.type "range",data:=.fields #[.int lo t,.int hi u,.int 1 v]}).objs.size,[(s.heap.push {cls:=.type "range",data:=.fields #[.int lo t,.int hi u,.int 1 v]}).objs.size],_,_,H,rfl,
  I1.kept (t':=tk) λb o e=>Zf _ e,tZ _ lo (hi-lo).toNat,?_,λb hb=>?_,q⟩
 ·have e1:lo+((0:Nat):Int)*1=lo:=by simp
  have e2:(((hi-lo).toNat:Nat):Int)-((0:Nat):Int)=Builtin.Range.rangeSize lo hi 1:=by rw[rangeSize_one];split<;>omega
  show IsRangeIter _ _ (lo+((0:Nat):Int)*1) ((((hi-lo).toNat:Nat):Int)-((0:Nat):Int)) 1;rw[e1,e2];exact Heap.get?_push_size _ rfl
 ·have e:b=(s.heap.push {cls:=.type "range",data:=.fields #[.int lo t,.int hi u,.int 1 v]}).objs.size:=by simpa using hb
  subst e;exact I1.fpOk (Zn _) (I1.hok.fresh (Zn _))
noncomputable def UN(ta:TA):TI:=λσ H R=>ta σ H λvs H1=>∃j:Int,vs=[.int j]/\ -(2^62)<=j/\j<2^62/\R (zW 0 j.toNat) H1
theorem iA{a:Expr}{ta:TA}{p pos:Pos}(hg:Gl X "range")(hm:X.mg "range"=none)(ha:PA X [a] ta)(hs:starEach [a] X.env=[(false,eval a X.env)]:=by rfl):PI X tg (.Call (.Name "range" p) [a] [] pos) (UN ta):=by
 intro pins s σ H R I h;refine Call_ (kW I hg hm boot_range (PyProof.Rows.callWith_type1 (bP (ha pos pins s σ H _ I h) λus s1 ⟨vs,H1,I1,r1,q1⟩=>?_) hs rfl));obtain⟨j,e,q1,q2,q⟩:=q1;subst e;cases r1 with
 |cons r rr=>
  cases rr;obtain⟨t,rfl⟩:=r;exact call_range_1 (BD I1 (by omega) (by omega) q1 q2 (by simpa using q))
def YF(wi:TI)(g:TG)(tb:TS):TS:=λD σ H=>wi σ H λJ H1=>∃W:Nat->Nat->St->Hp->Prop,(∃m,W 0 m σ H1)/\∀i m σ H,W i m σ H->
 (J.stop i H/\D.nx σ H)\/(J.go i H/\∃N:St->Hp->Prop,(∀σ' H',N σ' H'->∃m',m'<m/\W (i+1) m' σ' H')/\∀x H',J.yld i H x H'->g x σ H' λσ2 H2=>tb {D with nx:=N,ct:=N,bk:=D.nx} σ2 H2)
noncomputable def iT(fp:List Addr)(h:Heap):List (Addr×Obj):=fp.filterMap λb=>(h.get? b).map λo=>(b,o)
theorem eW{fp:List Addr}{h:Heap}{b:Addr}{o:Obj}(hb:b∈fp)(e:h.get? b=some o):(b,o)∈iT fp h:=List.mem_filterMap.mpr ⟨b,hb,by rw[e];rfl⟩
theorem yL{fp:List Addr}{h:Heap}{p:Addr×Obj}(hp:p∈iT fp h):p.1∈fp/\h.get? p.1=some p.2:=by
 obtain⟨b,hb,e⟩:=List.mem_filterMap.mp hp;cases q:h.get? b with
 |none=>rw[q] at e;cases e
 |some o=>
  rw[q] at e;have e':(b,o)=p:=Zg e;subst e';exact⟨hb,q⟩
theorem Inv.pinned{pins:List (Addr×Obj)}{σ:St}{H:Hp}{s:Shared}{fp:List Addr}(I:Inv X pins σ H s)(hf:∀b∈fp,gO X pins H b)(ho:∀b∈fp,∃o,s.heap.get? b=some o/\∀v,o.data≠ .cell v):Inv X (pins++iT fp s.heap) σ H s:=
 I.pins_of λp hp=>(List.mem_append.mp hp).elim (λz=>I.pin p (List.mem_append_right _ z)) λz=>by
  obtain⟨hb,e⟩:=yL z;obtain⟨f0,f1,f2,_⟩:=hf p.1 hb;obtain⟨o,e',d⟩:=ho p.1 hb;rw[e] at e';cases e';exact⟨e,f0,f1,f2,d⟩
theorem Inv.unpinned{pins pl:List (Addr×Obj)}{σ:St}{H:Hp}{s:Shared}(I:Inv X (pins++pl) σ H s):Inv X pins σ H s:=I.pins_of λp hp=>I.pin p (List.mem_append_right _ (List.mem_append_left _ hp))
theorem uL{iter:Expr}{body:List Stmt}{wi:TI}{g:TG}{tb:TS}{pos:Pos}(hp:PassesOwn (model X.prog X.w) X.A X.env X.xe)(hc:X.calm=true)(hi:PI X tg iter wi)(hg:PG X tg g)(hb:PSs X body tb)
 (hs:∀x,foldedSetIterable iter X.env x=pure x:=by intro _;rfl):PS X (.For tg iter body [] pos) (YF wi g tb):=by
 intro pins s σ H D I h;refine wpAny_For (bP (hi pins s σ H _ I h) λv s1 h1=>bP h1 λitv s2 h2=>?_) hs;obtain⟨it,fp,tn,J,H2,e,I2,T,st2,f2,W,⟨m0,w0⟩,turn⟩:=h2;subst e;have stat:∀{H':Hp},(∀b∈fp,H' b=none)->∀b∈fp,gO X pins H' b:=λhn b hb=>⟨hn b hb,(f2 b hb).2⟩;refine codeAny_forLoop_any (λn s'=>∃i σ' H',Inv X pins σ' H' s'/\tn i s'.heap/\(∀b∈fp,H' b=none)/\W i n σ' H') ?_ m0 ⟨0,σ,H2,I2,st2,λb hb=>(f2 b hb).1,w0⟩;rintro n s3 ⟨i,σ3,H3,I3,st3,fr3,w3⟩;rcases turn i n σ3 H3 w3 with ⟨stop,qn⟩|⟨go,N,hN,step⟩
 ·refine wpAny_passesOwn hp (bP (T.done X rfl rfl rfl hc i pins s3 σ3 H3 X.xe I3 (stat fr3) st3 stop) λr s4 ⟨hr,I4⟩=>?_);subst hr;exact wpAny_execs_nil ⟨σ3,H3,I4,qn⟩
 ·refine wpAny_passesOwn hp (bP (T.item X rfl rfl rfl hc i pins s3 σ3 H3 X.xe I3 (stat fr3) st3 go) λr s4 ⟨u,hr,h4⟩=>?_);subst hr;refine wpAny_passesOwn hp (bP h4 λ_ s5 ⟨x,H5,I5,r5,y5,st5,fr5⟩=>?_);have I5':=I5.pinned (stat fr5) (T.obj _ _ st5);refine wpAny_passesOwn hp (bP (hg _ s5 σ3 H5 x u _ I5' r5 (step x H5 y5)) λ_ s6 ⟨σ6,H6,I6,q6⟩=>?_);refine wpAny_passesOwn hp (bP (hb _ s6 σ6 H6 _ I6 q6) λf s7 q7=>?_)
  have again:∀{σ7:St}{H7:Hp},Inv X (pins++iT fp s5.heap) σ7 H7 s7->N σ7 H7->∃m,m<n/\∃i σ' H',Inv X pins σ' H' s7/\tn i s7.heap/\(∀b∈fp,H' b=none)/\W i m σ' H':=λ{σ7 H7} I7 n7=>by
   obtain⟨m',hm,w7⟩:=hN σ7 H7 n7;refine⟨m',hm,i+1,σ7,H7,I7.unpinned,T.keep _ _ _ st5 λb hb o e=>(I7.pin (b,o) (List.mem_append_right _ (List.mem_append_right _ (eW hb e)))).1,λb hb=>?_,w7⟩;obtain⟨o,e,d⟩:=T.obj _ _ st5 b hb;exact(I7.pin (b,o) (List.mem_append_right _ (List.mem_append_right _ (eW hb e)))).2.1
  cases f with
  |next=>obtain⟨σ7,H7,I7,n7⟩:=q7;exact again I7 n7
  |cont=>obtain⟨σ7,H7,I7,n7⟩:=q7;exact again I7 n7
  |brk=>obtain⟨σ7,H7,I7,q7⟩:=q7;exact⟨σ7,H7,I7.unpinned,q7⟩
  |ret v=>obtain⟨x7,σ7,H7,I7,r7,q7⟩:=q7;exact⟨x7,σ7,H7,I7.unpinned,r7,q7⟩
end
theorem HW{K:PySem.W.Frag}{a:Addr}{xs:List V}{g:TG}{tb:TS}{D:Ends}{σ:St}{H:Hp}(Pv:Nat->St->Hp->Prop)(h0:Pv 0 σ H)(hl:∀i σ H,i<=xs.length->Pv i σ H->SqT K H a xs)
 (hs:∀i x σ H,xs[i]? =some x->Pv i σ H->g x σ H λσ2 H2=>tb {D with nx:=Pv (i+1),ct:=Pv (i+1),bk:=D.nx} σ2 H2)(hd:∀σ H,Pv xs.length σ H->D.nx σ H):
 ∃W:Nat->Nat->St->Hp->Prop,(∃m,W 0 m σ H)/\∀i m σ H,W i m σ H->
  ((JL K a).stop i H/\D.nx σ H)\/((JL K a).go i H/\∃N:St->Hp->Prop,(∀σ' H',N σ' H'->∃m',m'<m/\W (i+1) m' σ' H')/\∀x H',(JL K a).yld i H x H'->g x σ H' λσ2 H2=>tb {D with nx:=N,ct:=N,bk:=D.nx} σ2 H2):=by
 refine⟨λi m σ H=>m=xs.length-i/\i<=xs.length/\Pv i σ H,⟨xs.length,by simp,Nat.zero_le _,h0⟩,?_⟩;rintro i m σ H ⟨rfl,hi,p⟩;have q:=hl i σ H hi p
 by_cases hlt:i<xs.length
 ·refine .inr ⟨⟨xs,xs[i],q,by simp[hlt]⟩,Pv (i+1),λσ' H' p'=>⟨xs.length-(i+1),by omega,rfl,hlt,p'⟩,λx H' y=>?_⟩;obtain⟨e,y⟩:=y;subst e;exact hs i x σ _ (y xs q) p
 ·have e:i=xs.length:=by omega
  subst e;exact .inl ⟨⟨xs,q,Zn _⟩,hd σ H p⟩
theorem zA{lo:Int}{n:Nat}{g:TG}{tb:TS}{D:Ends}{σ:St}{H:Hp}(Pv:Nat->St->Hp->Prop)(h0:Pv 0 σ H)
 (hs:∀i σ H,i<n->Pv i σ H->g (.int (lo+i)) σ H λσ2 H2=>tb {D with nx:=Pv (i+1),ct:=Pv (i+1),bk:=D.nx} σ2 H2)(hd:∀σ H,Pv n σ H->D.nx σ H):
 ∃W:Nat->Nat->St->Hp->Prop,(∃m,W 0 m σ H)/\∀i m σ H,W i m σ H->
  ((zW lo n).stop i H/\D.nx σ H)\/((zW lo n).go i H/\∃N:St->Hp->Prop,(∀σ' H',N σ' H'->∃m',m'<m/\W (i+1) m' σ' H')/\∀x H',(zW lo n).yld i H x H'->g x σ H' λσ2 H2=>tb {D with nx:=N,ct:=N,bk:=D.nx} σ2 H2):=by
 refine⟨λi m σ H=>m=n-i/\i<=n/\Pv i σ H,⟨n,by simp,Nat.zero_le _,h0⟩,?_⟩;rintro i m σ H ⟨rfl,hi,p⟩
 by_cases hlt:i<n
 ·refine .inr ⟨hlt,Pv (i+1),λσ' H' p'=>⟨n-(i+1),by omega,rfl,hlt,p'⟩,λx H' y=>?_⟩;obtain⟨e,y⟩:=y;subst e y;exact hs i σ _ hlt p
 ·have e:i=n:=by omega
  subst e;exact .inl ⟨Zn _,hd σ H p⟩
end L2
namespace L2
open PySem PySem.Spec PyProof.Rows
noncomputable abbrev R2:=V->V->Hp->VK->Prop
def jN(X:Cx)(f:Value->Value->Sem Value)(r:R2):Prop:=
 ∀(pins:List (Addr×Obj))(s:Shared)(σ:St)(H:Hp)(x y:V)(v u:Value)(Q:VK),Inv X pins σ H s->RelV x v->RelV y u->r x y H Q->
  wpAny (model X.prog X.w) X.A (f v u) (EP X pins σ Q) X.xe s
def K6(X:Cx)(f:Value->Sem Value)(r:V->Hp->VK->Prop):Prop:=
 ∀(pins:List (Addr×Obj))(s:Shared)(σ:St)(H:Hp)(x:V)(v:Value)(Q:VK),Inv X pins σ H s->RelV x v->r x H Q->
  wpAny (model X.prog X.w) X.A (f v) (EP X pins σ Q) X.xe s
def fK(X:Cx)(f:Value)(r:List V->Hp->VK->Prop):Prop:=
 ∀(pins:List (Addr×Obj))(s:Shared)(σ:St)(H:Hp)(xs:List V)(us:List Value)(Q:VK),Inv X pins σ H s->Vals xs us->r xs H Q->
  wpAny (model X.prog X.w) X.A (call f us) (EP X pins σ Q) X.xe s
def K7(X:Cx)(r:V->Hp->(Bool->Hp->Prop)->Prop):Prop:=
 ∀(pins:List (Addr×Obj))(s:Shared)(σ:St)(H:Hp)(x:V)(v:Value)(Q:Bool->Hp->Prop),Inv X pins σ H s->RelV x v->r x H Q->
  wpAny (model X.prog X.w) X.A (truthy v) (TP X pins σ Q) X.xe s
def RB(r:R2)(ta tb:TE):TE:=λσ H Q=>ta σ H λx H1=>tb σ H1 λy H2=>r x y H2 Q
def tUn(r:V->Hp->VK->Prop)(ta:TE):TE:=λσ H Q=>ta σ H λx H1=>r x H1 Q
noncomputable def rI(C:Int->Int->Prop)(g:Int->Int->V):R2:=λx y H Q=>∃i j,x=.int i/\y=.int j/\C i j/\Q (g i j) H
noncomputable def JZ(g:Int->Int->V):R2:=λx y H Q=>∃i j,x=.int i/\y=.int j/\Q (g i j) H
noncomputable def rU(g:Int->V):V->Hp->VK->Prop:=λx H Q=>∃i,x=.int i/\Q (g i) H
section
variable {X:Cx}{a b c:Expr}{ta tb tc:TE}{pos:Pos}
theorem QL(ha:PE X a ta)(hb:PE X b tb){pins:List (Addr×Obj)}{s:Shared}{σ:St}{H:Hp}{R:V->V->Hp->Prop}(I:Inv X pins σ H s)
 (h:ta σ H λx H1=>tb σ H1 λy H2=>R x y H2){Q:Value->Shared->Prop}{f:Value->Value->Sem Value}
 (hf:∀v u s2 x y H2,Inv X pins σ H2 s2->RelV x v->RelV y u->R x y H2->wpAny (model X.prog X.w) X.A (f v u) Q X.xe s2):
 wpAny (model X.prog X.w) X.A (eval a X.env) (λv s₁=>wpAny (model X.prog X.w) X.A (eval b X.env) (λu s₂=>wpAny (model X.prog X.w) X.A (f v u) Q X.xe s₂) X.xe s₁) X.xe s:=by
 refine bP (ha pins s σ H _ I h) λv s1 ⟨x,H1,I1,r1,q1⟩=>?_;refine bP (hb pins s1 σ H1 _ I1 q1) λu s2 ⟨y,H2,I2,r2,q2⟩=>?_;exact hf v u s2 x y H2 I2 r1 r2 q2
theorem TD{op:Operator}{r:R2}(ho:jN X (binaryOp op) r)(ha:PE X a ta)(hb:PE X b tb):PE X (.BinOp a op b pos) (RB r ta tb):=by
 intro pins s σ H Q I h;exact wpAny_BinOp (QL ha hb I h λv u s2 x y H2 I2 rx ry q=>ho pins s2 σ H2 x y v u Q I2 rx ry q)
theorem TC{op:UnaryOp}{r:V->Hp->VK->Prop}(ho:K6 X (unaryOp op) r)(ha:PE X a ta):PE X (.UnaryOp op a pos) (tUn r ta):=by
 intro pins s σ H Q I h;exact UnaryOp_ (bP (ha pins s σ H _ I h) λv s1 ⟨x,H1,I1,r1,q1⟩=>ho pins s1 σ H1 x v Q I1 r1 q1)
theorem WV{f:Value->Value->Sem Value}{C:Int->Int->Prop}{g:Int->Int->Int}
 (rule:∀(i j:Int)(t u:Tok)(s:Shared)(Q:Value->Shared->Prop)(E:Value->Shared->Prop),C i j->Q (.int (g i j) s.toks) {s with toks:=s.toks+1}->wpAny (model X.prog X.w) X.A (f (.int i t) (.int j u)) Q E s):
 jN X f (rI C λi j=>.int (g i j)):=by
 intro pins s σ H x y v u Q I rx ry h;obtain⟨i,j,rfl,rfl,hc,q⟩:=h;obtain⟨t,rfl⟩:=rx;obtain⟨t',rfl⟩:=ry;exact rule i j t t' s _ _ hc ⟨.int (g i j),H,I.tok _,⟨_,rfl⟩,q⟩
theorem TN{f:Value->Value->Sem Value}{g:Int->Int->Int}
 (rule:∀(i j:Int)(t u:Tok)(s:Shared)(Q:Value->Shared->Prop)(E:Value->Shared->Prop),Q (.int (g i j) s.toks) {s with toks:=s.toks+1}->wpAny (model X.prog X.w) X.A (f (.int i t) (.int j u)) Q E s):
 jN X f (JZ λi j=>.int (g i j)):=by
 intro pins s σ H x y v u Q I rx ry h;obtain⟨i,j,rfl,rfl,q⟩:=h;obtain⟨t,rfl⟩:=rx;obtain⟨t',rfl⟩:=ry;exact rule i j t t' s _ _ ⟨.int (g i j),H,I.tok _,⟨_,rfl⟩,q⟩
theorem GV{f:Value->Value->Sem Value}{g:Int->Int->Bool}
 (rule:∀(i j:Int)(t u:Tok)(s:Shared)(Q:Value->Shared->Prop)(E:Value->Shared->Prop),Q (.bool (g i j)) s->wpAny (model X.prog X.w) X.A (f (.int i t) (.int j u)) Q E s):
 jN X f (JZ λi j=>.bl (g i j)):=by
 intro pins s σ H x y v u Q I rx ry h;obtain⟨i,j,rfl,rfl,q⟩:=h;obtain⟨t,rfl⟩:=rx;obtain⟨t',rfl⟩:=ry;exact rule i j t t' s _ _ ⟨.bl (g i j),H,I,rfl,q⟩
def M9(i j:Int):Prop:=0<j/\j<1073741824
def M8(i j:Int):Prop:=0<=j/\j<=1000000/\i.natAbs<2^64
def CMul(i j:Int):Prop:=(-(2^64)<i/\i<2^64)\/(-(2^64)<j/\j<2^64)
theorem CMul.ok{i j:Int}(h:CMul i j):IntMulOk i j:=by
 rcases h with ⟨h1,h2⟩|⟨h1,h2⟩
 ·exact .of_left (intBits_le_64 h1 h2)
 ·exact .of_right (intBits_le_64 h1 h2)
theorem NJ:jN X (binaryOp .Add) (JZ λi j=>.int (i+j)):=TN λ_ _ _ _ _ _ _ q=>add_int q
theorem ND:jN X (binaryOp .Sub) (JZ λi j=>.int (i-j)):=TN λ_ _ _ _ _ _ _ q=>sub_int q
theorem NF:jN X (binaryOp .Mult) (rI CMul λi j=>.int (i*j)):=WV λ_ _ _ _ _ _ _ hc q=>mul_int q hc.ok
theorem GT:jN X (binaryOp .FloorDiv) (rI M9 λi j=>.int (i/j)):=WV λi j _ _ _ _ _ hc q=>by
 have h1:(0:Int)<j:=hc.1;have h2:j<1073741824:=hc.2;exact floordiv_int (by omega) (by rw[Int.fdiv_eq_ediv_of_nonneg i (by omega)];exact q) (.inl (PyProof.noPylong_small (by omega)))
theorem NG:jN X (binaryOp .Mod) (rI (λ_ j=>0<j) λi j=>.int (i%j)):=WV λi j _ _ _ _ _ hc q=>by
 have h1:(0:Int)<j:=hc;exact mod_int' (by omega) (by rw[Int.fmod_eq_emod_of_nonneg i (by omega)];exact q)
theorem NE:jN X (binaryOp .Pow) (rI M8 λi j=>.int (i^j.toNat)):=WV λ_ _ _ _ _ _ _ hc q=>pow_int_small hc.1 hc.2.1 hc.2.2 q
theorem RA{f:Value->Sem Value}{g:Int->Int}
 (rule:∀(i:Int)(t:Tok)(s:Shared)(Q:Value->Shared->Prop)(E:Value->Shared->Prop),Q (.int (g i) s.toks) {s with toks:=s.toks+1}->wpAny (model X.prog X.w) X.A (f (.int i t)) Q E s):
 K6 X f (rU λi=>.int (g i)):=by
 intro pins s σ H x v Q I rx h;obtain⟨i,rfl,q⟩:=h;obtain⟨t,rfl⟩:=rx;exact rule i t s _ _ ⟨.int (g i),H,I.tok _,⟨_,rfl⟩,q⟩
theorem LT:K6 X (unaryOp .USub) (rU λi=>.int (-i)):=RA λ_ _ _ _ _ q=>neg_int q
end
section
variable {X:Cx}{a b c:Expr}{ta tb tc:TE}{pos:Pos}
theorem vE{pins:List (Addr×Obj)}{σ:St}{H:Hp}{s:Shared}{Q:VK}{k k':Bool}(I:Inv X pins σ H s)(q:Q (.bl k) H)(e:k=k'):EP X pins σ Q (.bool k') s:=by
 subst e;exact⟨.bl k,H,I,rfl,q⟩
theorem TJ:jN X (compareOp .Lt) (JZ λi j=>.bl (decide (i<j))):=GV λ_ _ _ _ _ _ _ q=>lt_int q
theorem TK:jN X (compareOp .LtE) (JZ λi j=>.bl (decide (i<=j))):=GV λ_ _ _ _ _ _ _ q=>le_int q
theorem TL:jN X (compareOp .Gt) (JZ λi j=>.bl (decide (j<i))):=GV λ_ _ _ _ _ _ _ q=>gt_int q
theorem TM:jN X (compareOp .GtE) (JZ λi j=>.bl (decide (j<=i))):=GV λ_ _ _ _ _ _ _ q=>ge_int q
theorem yJ:jN X (compareOp .In) (λx y H Q=>∃i j,x=.str i/\y=.str j/\Q (.bl (!(Builtin.Str.occurrences j i 0 j.length 1).isEmpty)) H):=by
 intro pins s σ H x y v u Q I rx ry h;obtain⟨i,j,rfl,rfl,q⟩:=h;obtain⟨t,rfl⟩:=rx;obtain⟨t',rfl⟩:=ry;exact in_str (vE I q rfl)
theorem NH:jN X (compareOp .Is) (λx y H Q=>y=.non/\Q (.bl (decide (x=.non))) H):=by
 intro pins s σ H x y v u Q I rx ry h;obtain⟨rfl,q⟩:=h;cases ry;refine is_none_gen (vE I q ?_)
 cases x<;>first
  |(cases rx;rfl)
  |(obtain⟨t,rfl⟩:=rx;rfl)
theorem GS:jN X (compareOp .IsNot) (λx y H Q=>y=.non/\Q (.bl (!decide (x=.non))) H):=by
 intro pins s σ H x y v u Q I rx ry h;obtain⟨rfl,q⟩:=h;cases ry;refine isnot_none_gen (vE I q ?_)
 cases x<;>first
  |(cases rx;rfl)
  |(obtain⟨t,rfl⟩:=rx;rfl)
theorem GK{op:CmpOp}{r:R2}(ho:jN X (compareOp op) r)(ha:PE X a ta)(hb:PE X b tb)(hm:behindInMarks op b=false):PE X (.Compare a [op] [b] pos) (RB r ta tb):=by
 intro pins s σ H Q I h;exact wpAny_Compare1 (QL ha hb I h λv u s2 x y H2 I2 rx ry q=>ho pins s2 σ H2 x y v u Q I2 rx ry q) hm
def JU(t:TE):TT:=λσ H Q=>t σ H λx H'=>∃k,x=.bl k/\Q k H'
theorem FZ{op:CmpOp}{r:R2}(ho:jN X (compareOp op) r)(ha:PE X a ta)(hb:PE X b tb)(hm:behindInMarks op b=false):PT X (.Compare a [op] [b] pos) (JU (RB r ta tb)):=by
 intro pins s σ H Q I h
 refine wpAny_isTrue_Compare1 (bP (ha pins s σ H _ I h) λv s1 ⟨x,H1,I1,r1,q1⟩=>bP (hb pins s1 σ H1 _ I1 q1) λu s2 ⟨y,H2,I2,r2,q2⟩=>
  bP (ho pins s2 σ H2 x y v u _ I2 r1 r2 q2) λc s3 ⟨z,H3,I3,r3,k,e,q3⟩=>?_) hm
 subst e;cases r3;exact wpAny_truthy_bool ⟨H3,I3,q3⟩
def uD(r r':R2)(ta tb tc:TE):TE:=λσ H Q=>ta σ H λx H1=>tb σ H1 λy H2=>r x y H2 λz H3=>∃k,z=.bl k/\
 (if k=true then tc σ H3 λw' H4=>r' y w' H4 Q else Q (.bl false) H3)
theorem BV{op op':CmpOp}{r r':R2}(ho:jN X (compareOp op) r)(ho':jN X (compareOp op') r')(ha:PE X a ta)(hb:PE X b tb)(hc:PE X c tc)
 (hm:lastMarks [op,op'] [b,c]=false:=by with_unfolding_all rfl):PE X (.Compare a [op,op'] [b,c] pos) (uD r r' ta tb tc):=by
 intro pins s σ H Q I h
 refine Compare_chain (bP (ha pins s σ H _ I h) λv s1 ⟨x,H1,I1,r1,q1⟩=>chain_link (bP (hb pins s1 σ H1 _ I1 q1) λu s2 ⟨y,H2,I2,r2,q2⟩=>
  bP (ho pins s2 σ H2 x y v u _ I2 r1 r2 q2) λd s3 ⟨z,H3,I3,r3,k,e,q3⟩=>?_)) hm
 subst e;cases r3;refine wpAny_truthy_bool ?_;cases k with
 |false=>exact ite_ff ⟨.bl false,H3,I3,rfl,q3⟩
 |true=>exact ite_tt (chain_last (bP (hc pins s3 σ H3 _ I3 q3) λw' s4 ⟨z',H4,I4,r4,q4⟩=>ho' pins s4 σ H4 y z' u w' Q I4 r2 r4 q4))
theorem BF{op op':CmpOp}{r r':R2}(ho:jN X (compareOp op) r)(ho':jN X (compareOp op') r')(ha:PE X a ta)(hb:PE X b tb)(hc:PE X c tc)
 (hm:lastMarks [op,op'] [b,c]=false:=by with_unfolding_all rfl):PT X (.Compare a [op,op'] [b,c] pos) (JU (uD r r' ta tb tc)):=by
 intro pins s σ H Q I h
 refine isTrue_chain (bP (ha pins s σ H _ I h) λv s1 ⟨x,H1,I1,r1,q1⟩=>test_link (bP (hb pins s1 σ H1 _ I1 q1) λu s2 ⟨y,H2,I2,r2,q2⟩=>
  bP (ho pins s2 σ H2 x y v u _ I2 r1 r2 q2) λd s3 ⟨z,H3,I3,r3,k,e,q3⟩=>?_)) hm
 subst e;cases r3;refine wpAny_truthy_bool ?_;cases k with
 |false=>
  obtain⟨k',e',q'⟩:=q3;cases e';exact ite_ff ⟨H3,I3,q'⟩
 |true=>
  refine ite_tt (test_last (bP (hc pins s3 σ H3 _ I3 q3) λw' s4 ⟨z',H4,I4,r4,q4⟩=>bP (ho' pins s4 σ H4 y z' u w' _ I4 r2 r4 q4) λd' s5 ⟨z2,H5,I5,r5,k2,e2,q5⟩=>?_));subst e2;cases r5;exact wpAny_truthy_bool ⟨H5,I5,q5⟩
def vR(K:W.Frag)(x:V)(H:Hp)(k:Bool):Prop:=
 match x with
 |.non=>k=false
 |.bl b=>k=b
 |.int i=>k=(i != 0)
 |.str y=>y.length<=sizeLine/\k=((y.length:Int) != 0)
 |.byt y=>y.size<=sizeLine/\k=((y.size:Int) != 0)
 |.ref p=>(∃xs,SqL K H p xs/\k= !xs.isEmpty)\/(∃xs,SqT K H p xs/\k= !xs.isEmpty)\/∃kvs,H p=some (.dK kvs)/\k= !kvs.isEmpty
 |_=>False
theorem vC{κ:Type}{kvs:List (κ×V)}{vs:List (κ×Value)}(r:KV kvs vs):(!vs.isEmpty)= !kvs.isEmpty:=by
 cases r<;>rfl
theorem nQ{xs:List V}{its:List Value}(r:Vals xs its):(!its.toArray.isEmpty)= !xs.isEmpty:=by
 cases r<;>simp
theorem iZ:(sizeLine:Nat)<2^63:=by rw[sizeLine_eq];decide
theorem AI:K7 X (λx H Q=>∃k,vR X.K x H k/\Q k H):=by
 intro pins s σ H x v Q I rx h;obtain⟨k,e,q⟩:=h;have hl:=iZ;have hs:sizeLine=16777216:=sizeLine_eq;cases x with
 |non=>
  cases rx;have e':k=false:=e;subst e';exact truthy_none ⟨H,I,q⟩
 |bl b=>
  cases rx;have e':k=b:=e;subst e';exact wpAny_truthy_bool ⟨H,I,q⟩
 |int i=>
  obtain⟨t,rfl⟩:=rx;have e':k=(i != 0):=e;subst e';exact PySem.P.truthy_int ⟨H,I,q⟩
 |str y=>
  obtain⟨t,rfl⟩:=rx;obtain⟨hy,e'⟩:y.length<=sizeLine/\k=((y.length:Int) != 0):=e;subst e';exact PySem.P.truthy_str (by omega) ⟨H,I.tok _,q⟩
 |byt y=>
  obtain⟨t,rfl⟩:=rx;obtain⟨hy,e'⟩:y.size<=sizeLine/\k=((y.size:Int) != 0):=e;subst e';exact W.truthy_bytes (by omega) ⟨H,I.tok _,q⟩
 |ref p=>
  cases rx;have e':(∃xs,SqL X.K H p xs/\k= !xs.isEmpty)\/(∃xs,SqT X.K H p xs/\k= !xs.isEmpty)\/∃kvs,H p=some (.dK kvs)/\k= !kvs.isEmpty:=e;rcases e' with ⟨xs,hx,e'⟩|⟨xs,hx,e'⟩|⟨kvs,hx,e'⟩
  ·subst e';obtain⟨its,r,pl,hz⟩:=I.list hx;have hlen:=r.length;exact wpAny_truthy_list pl.isList (by simp only[Zk];omega) ⟨H,I.tok _,by rw[nQ r];exact q⟩
  ·subst e';obtain⟨its,r,pl,hz⟩:=I.tuple hx;have hlen:=r.length;exact truthy_tuple pl (by simp only[Zk];omega) ⟨H,I.tok _,by rw[nQ r];exact q⟩
  ·subst e';obtain⟨hz,hS,vs,r,m⟩:kvs.length<=sizeLine/\(p==sysModules)=false/\∃vs,KV kvs vs/\s.heap.DictOf (cD X.prog X.w) p vs:=I.hok p _ hx;have hlen:kvs.length=vs.length:=Paired.length r;exact wpAny_truthy_dict hS m (by omega) ⟨H,I.tok _,by rw[vC r];exact q⟩
 |_=>exact(show False from e).elim
theorem BE(ha:PE X a ta)(he:∀whole,isTrue a X.env whole=(do let v <- whole;standAt a.pos;holding [v] (truthy v))):
 PT X a (λσ H Q=>ta σ H λx H'=>∃k,vR X.K x H' k/\Q k H'):=by
 intro pins s σ H Q I h;exact isTrue_plain (bP (ha pins s σ H _ I h) λv s1 ⟨x,H1,I1,r1,q1⟩=>AI pins s1 σ H1 x v Q I1 r1 q1) (he _)
theorem uQ:jN X (binaryOp .Add) (λx y H Q=>∃i j,x=.str i/\y=.str j/\i.length+j.length<=sizeLine/\Q (.str (i++j)) H):=by
 intro pins s σ H x y v u Q I rx ry h;obtain⟨i,j,rfl,rfl,hz,q⟩:=h;obtain⟨t,rfl⟩:=rx;obtain⟨t',rfl⟩:=ry;exact add_str (λt' tk=>⟨.str (i++j),H,I.tok _,⟨_,rfl⟩,q⟩) hz
theorem fP{x:V}{us:List Value}(r:Vals [x] us):∃u,us=[u]/\RelV x u:=by
 cases r with
 |cons r1 r2=>cases r2;exact⟨_,rfl,r1⟩
theorem JP{x y:V}{us:List Value}(r:Vals [x,y] us):∃u w',us=[u,w']/\RelV x u/\RelV y w':=by
 cases r with
 |cons r1 r2=>
  cases r2 with
  |cons r3 r4=>cases r4;exact⟨_,_,rfl,r1,r3⟩
theorem zO(hc:X.calm=true):fK X (.builtin "max") (λxs H Q=>∃i j,xs=[.int i,.int j]/\Q (.int (if j>i then j else i)) H):=by
 intro pins s σ H xs us Q I r h;obtain⟨i,j,rfl,q⟩:=h;obtain⟨u,w',rfl,⟨t,rfl⟩,⟨t',rfl⟩⟩:=JP r;refine max_two_ints (I.ok.hd hc) λh' tk k=>⟨_,H,I.kept k,?_,q⟩
 by_cases hj:j>i
 ·rw[if_pos hj,if_pos hj];exact⟨_,rfl⟩
 ·rw[if_neg hj,if_neg hj];exact⟨_,rfl⟩
theorem zN(hc:X.calm=true):fK X (.builtin "min") (λxs H Q=>∃i j,xs=[.int i,.int j]/\Q (.int (if j<i then j else i)) H):=by
 intro pins s σ H xs us Q I r h;obtain⟨i,j,rfl,q⟩:=h;obtain⟨u,w',rfl,⟨t,rfl⟩,⟨t',rfl⟩⟩:=JP r;refine min_two_ints (I.ok.hd hc) λh' tk k=>⟨_,H,I.kept k,?_,q⟩
 by_cases hj:j<i
 ·rw[if_pos hj,if_pos hj];exact⟨_,rfl⟩
 ·rw[if_neg hj,if_neg hj];exact⟨_,rfl⟩
theorem pR:fK X (.type "int") (λxs H Q=>(∃i,xs=[.int i]/\Q (.int i) H)\/∃k,xs=[.bl k]/\Q (.int (if k then 1 else 0)) H):=by
 intro pins s σ H xs us Q I r h;rcases h with ⟨i,rfl,q⟩|⟨k,rfl,q⟩
 ·obtain⟨u,rfl,t,rfl⟩:=fP r;exact call_int_int ⟨.int i,H,I,⟨_,rfl⟩,q⟩
 ·obtain⟨u,rfl,r1⟩:=fP r;cases r1;exact call_int_bool ⟨.int (if k then 1 else 0),H,I.tok _,⟨_,rfl⟩,q⟩
end
end L2
namespace L2
open PySem PySem.Spec PyProof.Rows
structure ObjM (h:Heap)(x dx C:Addr)(mA:Str->Option Value):Prop where
 obj:h.get? x=some (W.instObj C dx)
 ns:h.Ns1 dx mA
 ne:dx≠x
theorem yR{h:Heap}{dx:Addr}{mA:Str->Option Value}(n:h.Ns1 dx mA):∃od,h.get? dx=some od/\∀name,W.lookIn name od=some (mA name):=by
 obtain⟨o,es,ep,ho,hd,hk,_,hm⟩:=n;refine⟨o,ho,λname=>?_⟩;have e:=hm name;unfold nsFind findBy at e;rw[<- Array.find?_toList] at e;unfold W.lookIn;rw[hd];dsimp only;split
 ·rename_i y q;rw[q] at e;exact congrArg some e
 ·rename_i q;rw[q] at e
  have a:es.toList.any (·.refKey)=false:=by
   rw[List.any_eq_false];intro y hy;obtain⟨z,t,hkey⟩:=hk y (Array.mem_toList_iff.mp hy);simp[DictEntry.refKey,hkey]
  have a':¬es.toList.any (·.refKey)=true:=by rw[a];exact Bool.false_ne_true
  rw[if_neg a'];exact congrArg some e
theorem ObjM.look{h:Heap}{x dx C:Addr}{mA:Str->Option Value}(I:ObjM h x dx C mA):∃od,W.InstAt h x (W.instObj C dx) C (some od)/\∀name,W.lookIn name od=some (mA name):=
 let⟨od,ho,hl⟩:=yR I.ns
 ⟨od,⟨I.obj,rfl,rfl,ho⟩,hl⟩
section
variable {prog:Program}{w:World}{A:Around}{E:Value->Shared->Prop}{s:Shared}{K:W.Frag}{x dx C f:Addr}{mA:Str->Option Value}{name:Str}{v:Value}
theorem gG{expr:Bool}{Q:Value->Shared->Prop}(X:K.In s.heap)(I:ObjM s.heap x dx C mA)(hg:W.plainGet K C name=true)(hh:W.hasDictIn K C=true)
 (ha:W.findIn K (.ref C) name=some none)(hv:mA name=some v)(hv':W.handedIn v=true)(h:Q v {s with toks:=s.toks+1}):
 wpAny (model prog w) A (getAttr (.ref x) name expr) Q E s:=by
 obtain⟨od,J,hl⟩:=I.look;exact W.get_value X J (W.plainGet_of hg).1 (W.findObj_own hh ha rfl (by rw[hl,hv])) hv' h
theorem CO{pl:Sem Bool}{Q:Value×List Value->Shared->Prop}(X:K.In s.heap)(I:ObjM s.heap x dx C mA)(hg:W.plainGet K C name=true)
 (hf:W.findIn K (.ref C) name=some (some (.ref f)))(ht:W.isFn K (.ref f)=true)(hv:mA name=none)(h:Q (.ref f,[.ref x]) s):
 wpAny (model prog w) A (getMethod (.ref x) name pl) Q E s:=by
 obtain⟨od,J,hl⟩:=I.look;exact W.method_fn X J (W.plainGet_of hg).1 (W.plainGet_of hg).2 hf (beq_iff_eq.mp ht) (by show(W.lookIn name od).map (·.isSome)=some false;rw[hl,hv];rfl) h
theorem FQ{ns:List Str}{Q:Unit->Shared->Prop}(X:K.In s.heap)(I:ObjM s.heap x dx C mA)
 (hs:W.findIn K (.ref C) "__setattr__"=some (some (.builtin "object.__setattr__")))(hp:W.plainOver K C=true)(ht:W.takerIn K C name=some none)(hh:W.hasDictIn K C=true)
 (hw:PySem.Within mA ns)(hsz:ns.length<=sizeLine)
 (h:∀h',ObjM h' x dx C (λy=>if y=name then some v else mA y)->Heap.SameBut dx s.heap h'->Q () {s with heap:=h',toks:=s.toks+2}):
 wpAny (model prog w) A (setAttr (.ref x) name v) Q E s:=by
 obtain⟨od,J,hl⟩:=I.look;refine W.set_plain X J hs (W.osa_open (s:={s with toks:=s.toks+1}) (r:=none) X J hp ht λb=>?_);obtain⟨cd,hc,hd'⟩:=W.any_some hh;have hx:s.heap.get? x=some ⟨.ref C,some dx,.plain, #[]⟩:=I.obj;refine Za (Zb (Za (Za (wpAny_loadPart hx (Za (W.Looks.here (s:={s with toks:=s.toks+1}) (W.looks_clsIn X hc) ?_))))));rw[hd'];refine Zb (a:=some dx) (Za (Zb (Za ?_)));refine wpAny_nsSet1 (s:={s with toks:=s.toks+1}) I.ns λh' hn2 hs2=>?_;obtain⟨oD,esD,epD,hoD,hdD,hcD⟩:=hn2.count (PySem.Within.cons name v hw);refine Za (wpAny_lookBehind hoD (by rw[hdD];exact pastItsLine_dict (Nat.le_trans hcD (by rw[List.length_cons];omega))) ?_);exact Zb (h _ ⟨(hs2.2 _ (Ne.symm I.ne)).trans I.obj,hn2,I.ne⟩ hs2)
theorem BZ{R:Result->Shared->Prop}{vs:List Value}{kw:List (Str×Value)}(X:K.In s.heap)(hm:W.makesIn K C=true)
 (hi:W.findIn K (.ref C) "__init__"=some (some (.ref f)))(hf:W.typeIn K (.ref f)=some (.type "function"))
 (h:codeAny (model prog w) (A.under (.builtin "type.__call__" ⟨.ref C::vs,kw⟩)) (.call (.ref f) ⟨.ref (s.heap.objs.size+1)::vs,kw⟩) (W.InitBack (s.heap.objs.size+1) R)
   {s with heap:=(s.heap.push W.emptyDict).push (W.instObj C s.heap.objs.size)}):
 codeAny (model prog w) A (.call (.ref C) ⟨vs,kw⟩) R s:=by
 obtain⟨hh,g,d,t,os⟩:=s;exact W.make_core (W.makes_of X hm) (W.looks_findIn X hi) (λself=>W.bind_fn X self hf) (.inl rfl) h
end
noncomputable def fQ(f:Str)(v:V):List (Str×V)->List (Str×V)
 | []=>[(f,v)]
 |(g,x)::r=>if g=f then(g,v)::r else(g,x)::fQ f v r
theorem lJ(f g:Str)(v:V):∀fs:List (Str×V),(fQ f v fs).lookup g=if g=f then some v else fs.lookup g
 | []=>by
   show List.lookup g [(f,v)]=_
   by_cases h:g=f
   ·have hb:(g==f)=true:=beq_iff_eq.mpr h;simp only[List.lookup,hb,if_pos h]
   ·have hb:(g==f)=false:=beq_eq_false_iff_ne.mpr h;simp only[List.lookup,hb,if_neg h]
 |(k,x)::r=>by
  have ih:=lJ f g v r;rw[show fQ f v ((k,x)::r)=(if k=f then(k,v)::r else(k,x)::fQ f v r) from rfl]
  by_cases hk:k=f
  ·rw[if_pos hk]
   by_cases h:g=k
   ·have hb:(g==k)=true:=beq_iff_eq.mpr h;simp only[List.lookup,hb,if_pos (h.trans hk)]
   ·have hb:(g==k)=false:=beq_eq_false_iff_ne.mpr h;simp only[List.lookup,hb,if_neg (λe:g=f=>h (e.trans hk.symm))]
  ·rw[if_neg hk]
   by_cases h:g=k
   ·have hb:(g==k)=true:=beq_iff_eq.mpr h;simp only[List.lookup,hb,if_neg (λe:g=f=>hk (h.symm.trans e))]
   ·have hb:(g==k)=false:=beq_eq_false_iff_ne.mpr h;simp only[List.lookup,hb];exact ih
theorem kX(f:Str)(v:V):∀fs:List (Str×V),f∈(fQ f v fs).map (·.1)/\∀g,g∈fs.map (·.1)->g∈(fQ f v fs).map (·.1)
 | []=>⟨by simp[fQ],λg h=>by simp at h⟩
 |(k,x)::r=>by
  obtain⟨i1,i2⟩:=kX f v r;rw[show fQ f v ((k,x)::r)=(if k=f then(k,v)::r else(k,x)::fQ f v r) from rfl]
  by_cases hk:k=f
  ·rw[if_pos hk];subst hk;exact⟨by simp,λg h=>by simpa using h⟩
  ·rw[if_neg hk];refine⟨?_,λg h=>?_⟩
   ·rw[Zh];exact Zj _ i1
   ·rw[Zh] at h⊢;rcases List.mem_cons.mp h with e|e
    ·exact List.mem_cons.mpr (.inl e)
    ·exact Zj _ (i2 g e)
theorem lL(f:Str)(v:V):∀fs:List (Str×V),(fQ f v fs).length<=fs.length+1
 | []=>by simp[fQ]
 |(k,x)::r=>by
  have ih:=lL f v r;rw[show fQ f v ((k,x)::r)=(if k=f then(k,v)::r else(k,x)::fQ f v r) from rfl]
  by_cases hk:k=f
  ·rw[if_pos hk,List.length_cons,List.length_cons];omega
  ·rw[if_neg hk,List.length_cons,List.length_cons];omega
theorem RelO.some_of{v:V}{o:Option Value}(r:RelO (some v) o):∃u,o=some u/\RelV v u:=by
 cases o with
 |none=>exact(show False from r).elim
 |some u=>exact⟨u,rfl,r⟩
theorem RelO.none_of{o:Option Value}(r:RelO none o):o=none:=by
 cases o with
 |none=>rfl
 |some u=>exact(show False from r).elim
theorem yY{v:V}{u:Value}(r:RelV v u):W.handedIn u=true:=by
 cases v with
 |non=>cases(show u=Value.none from r);rfl
 |bl b=>cases(show u=Value.bool b from r);rfl
 |int i=>obtain⟨t,e⟩:=(show ∃t,u=Value.int i t from r);cases e;rfl
 |str x=>obtain⟨t,e⟩:=(show ∃t,u=Value.str x t from r);cases e;rfl
 |byt b=>obtain⟨t,e⟩:=(show ∃t,u=Value.bytes b t from r);cases e;rfl
 |flt b=>obtain⟨t,e⟩:=(show ∃t,u=Value.float b t from r);cases e;rfl
 |ref a=>cases(show u=Value.ref a from r);rfl
 |ty n=>cases(show u=Value.type n from r);rfl
section
variable {P:Program}{w:World}{H H':Hp}{h h':Heap}{a C dx:Addr}{fs fs':List (Str×V)}
theorem qU(hok:HOk P w H h)(e:H a=some (.ins C dx fs)):∃mA,ObjM h a dx C mA/\(∀f,RelO (fs.lookup f) (mA f))/\PySem.Within mA (fs.map (·.1))/\fs.length<=1000/\H dx=some (.own a):=by
 obtain⟨d,z,ne,ob,mA,n,r,q⟩:=(show ObjOk P w H h a (.ins C dx fs) from hok a _ e);exact⟨mA,⟨ob,n,ne⟩,r,q,z,d⟩
end
structure Cls (K:W.Frag)(C:Addr):Prop where
 pg:W.plainGet K C Str.empty=true
 hd:W.hasDictIn K C=true
 po:W.plainOver K C=true
 sa:W.findIn K (.ref C) "__setattr__"=some (some (.builtin "object.__setattr__"))
theorem Cls.get{K:W.Frag}{C:Addr}(c:Cls K C)(f:Str):W.plainGet K C f=true:=c.pg
def NoAttr(K:W.Frag)(C:Addr)(f:Str):Prop:=W.findIn K (.ref C) f=some none
theorem NoAttr.taker{K:W.Frag}{C:Addr}{f:Str}(n:NoAttr K C f):W.takerIn K C f=some none:=by
 unfold W.takerIn;rw[show W.findIn K (.ref C) f=some none from n];rfl
structure Meth (K:W.Frag)(C:Addr)(m:Str)(f:Addr):Prop where
 at_:W.findIn K (.ref C) m=some (some (.ref f))
 fn:W.isFn K (.ref f)=true
 kp:W.keepIn K (.ref f)=true
section
variable {X:Cx}{pins:List (Addr×Obj)}{σ:St}{H:Hp}{s:Shared}{a C dx:Addr}{fs:List (Str×V)}{f:Str}{v:V}{A:Around}{E:Value->Shared->Prop}
theorem vD{b:Bool}{Q:Value->Shared->Prop}(I:Inv X pins σ H s)(e:H a=some (.ins C dx fs))(c:Cls X.K C)(n:NoAttr X.K C f)(l:fs.lookup f=some v)
 (h:∀u s',Inv X pins σ H s'->RelV v u->Q u s'):wpAny (model X.prog X.w) A (getAttr (.ref a) f b) Q E s:=by
 obtain⟨mA,O,r,_,_,_⟩:=qU I.hok e;obtain⟨u,hu,ru⟩:=RelO.some_of (v:=v) (o:=mA f) (by rw[<- l];exact r f);exact gG I.kIn O (c.get f) c.hd n hu (yY ru) (h u _ (I.tok _) ru)
theorem nT{m:Str}{g:Addr}{pl:Sem Bool}{Q:Value×List Value->Shared->Prop}(I:Inv X pins σ H s)(e:H a=some (.ins C dx fs))(c:Cls X.K C)(k:Meth X.K C m g)(l:fs.lookup m=none)
 (h:Q (.ref g,[.ref a]) s):wpAny (model X.prog X.w) A (getMethod (.ref a) m pl) Q E s:=by
 obtain⟨mA,O,r,_,_,_⟩:=qU I.hok e;have hn:mA m=none:=RelO.none_of (by rw[<- l];exact r m);exact CO I.kIn O (c.get m) k.at_ k.fn hn h
theorem uH{y:V}{u:Value}{Q:Unit->Shared->Prop}(I:Inv X pins σ H s)(e:H a=some (.ins C dx fs))(c:Cls X.K C)(n:NoAttr X.K C f)(hl:fs.length<1000)(ry:RelV y u)
 (h:∀s',Inv X pins σ (bS H a (.ins C dx (fQ f y fs))) s'->Q () s'):wpAny (model X.prog X.w) A (setAttr (.ref a) f u) Q E s:=by
 obtain⟨mA,O,r,wi,_,ho⟩:=qU I.hok e;have hz:(fs.map (·.1)).length<=sizeLine:=by rw[Zc,sizeLine_eq];omega
 refine FQ I.kIn O c.sa c.po n.taker c.hd wi hz λh' O' sb=>h _ ?_;have hd:∃o,h'.get? dx=some o:=let⟨o,_,_,e',_⟩:=O'.ns;⟨o,e'⟩;refine I.write (x:=a) (e:=dx) (by rw[e];exact True.intro) (.inr ho) (λb q hb z=>(sb.2 b hb).trans z) hd ?_;refine⟨by rw[aM O.ne];exact ho,?_,O.ne,O'.obj,_,O'.ns,λg=>?_,λg hg=>?_⟩
 ·have:=lL f y fs;omega
 ·show RelO ((fQ f y fs).lookup g) (if g=f then some u else mA g);rw[lJ]
  by_cases q:g=f
  ·rw[if_pos q,if_pos q];exact ry
  ·rw[if_neg q,if_neg q];exact r g
 ·by_cases q:g=f
  ·rw[q];exact(kX f y fs).1
  ·refine(kX f y fs).2 g (wi g λz=>hg ?_)
   show(if g=f then some u else mA g)=none
   rw[if_neg q];exact z
theorem Inv.made(I:Inv X pins σ H s):Inv X pins σ (bS (bS H s.heap.objs.size (.own (s.heap.objs.size+1))) (s.heap.objs.size+1) (.ins C s.heap.objs.size []))
 {s with heap:=(s.heap.push W.emptyDict).push (W.instObj C s.heap.objs.size)}:=by
 have e1:(s.heap.push W.emptyDict).get? s.heap.objs.size=some W.emptyDict:=Heap.get?_push_size s.heap rfl
 have e2:((s.heap.push W.emptyDict).push (W.instObj C s.heap.objs.size)).get? (s.heap.objs.size+1)=some (W.instObj C s.heap.objs.size):=by
  have:=Heap.get?_push_size (s.heap.push W.emptyDict) (o:=W.instObj C s.heap.objs.size) rfl;rwa [Heap.size_push] at this
 have e3:(s.heap.push W.emptyDict).Ns s.heap.objs.size (λ_=>none):=⟨W.emptyDict, #[],_,e1,rfl,(λe he=>absurd he (by simp)),λ_=>rfl⟩;have I1:=I.laid (a:=s.heap.objs.size) (o:=.own (s.heap.objs.size+1)) (h':=s.heap.push W.emptyDict) (t':=s.toks) (λb u q=>Zf _ q) (Zn _) ⟨_,e1⟩;refine I1.laid (a:=s.heap.objs.size+1) (o:=.ins C s.heap.objs.size []) (t':=s.toks) (λb u q=>Zf _ q) (Nat.le_of_eq (Heap.size_push _ _)) ?_;have ne:s.heap.objs.size≠s.heap.objs.size+1:=Nat.ne_of_lt (Nat.lt_succ_self _);refine⟨by rw[aM ne,aZ],Nat.zero_le _,ne,e2,λ_=>none,(Heap.Ns1.of_empty e3).at λo q=>Zf _ q,λ_=>True.intro,λy hy=>absurd rfl hy⟩
theorem JE{prog:Program}{w:World}{env:Env}{e:Expr}{f:Str}{pos:Pos}{s:Shared}{Q:Value->Shared->Prop}(hb:attributeBase e f env (eval e env)=eval e env)
 (h:wpAny (model prog w) A (eval e env) (λo s₁=>wpAny (model prog w) A (getAttr o f true) Q E s₁) E s):wpAny (model prog w) A (eval (.Attribute e f pos) env) Q E s:=
 Attribute_any_ h (by rw[arm_eval_Attribute,hb])
end
def YG(K:W.Frag)(ta:TE)(f:Str):TE:=λσ H Q=>ta σ H λx H1=>∃a C dx fs v,x=.ref a/\H1 a=some (.ins C dx fs)/\Cls K C/\NoAttr K C f/\fs.lookup f=some v/\Q v H1
def YS(K:W.Frag)(ta tv:TE)(f:Str):TS:=λD σ H=>tv σ H λy H1=>ta σ H1 λx H2=>∃a C dx fs,x=.ref a/\H2 a=some (.ins C dx fs)/\Cls K C/\NoAttr K C f/\fs.length<1000/\
 D.nx σ (bS H2 a (.ins C dx (fQ f y fs)))
section
variable {X:Cx}{o e value:Expr}{f:Str}{pos pos' tpos:Pos}{ta tv:TE}
theorem MX(he:PE X e ta)(hb:attributeBase e f X.env (eval e X.env)=eval e X.env):PE X (.Attribute e f pos) (YG X.K ta f):=by
 intro pins s σ H Q I h;refine JE hb (bP (he pins s σ H _ I h) λu s1 ⟨x,H1,I1,rx,a,C,dx,fs,v,ex,ea,c,n,l,q⟩=>?_);subst ex;obtain rfl:u=Value.ref a:=rx;exact vD I1 ea c n l λu' s2 I2 ru=>⟨v,H1,I2,ru,q⟩
theorem MK(ha:PE X o ta)(hv:PE X value tv)(hs:swapsWith value (some (.Attribute o f pos')) pos.line X.env=pure false):PS X (.Assign [.Attribute o f pos'] value pos) (YS X.K ta tv f):=by
 intro pins s σ H D I h;refine plainObj_wpAny_Assign_Attribute (bP (hv pins s σ H _ I h) λu s1 ⟨y,H1,I1,ry,q⟩=>bP (ha pins s1 σ H1 _ I1 q) λov s2 ⟨x,H2,I2,rx,a,C,dx,fs,ex,ea,c,n,l,q2⟩=>?_) hs;subst ex;obtain rfl:ov=Value.ref a:=rx;exact uH I2 ea c n l ry λs3 I3=>⟨σ,_,I3,q2⟩
end
section
variable {X:Cx}{pins:List (Addr×Obj)}{σ:St}{H:Hp}{s:Shared}{A:Around}{E:Value->Shared->Prop}{Q:Value->Shared->Prop}{c:Value}{b:Bool}
end
end L2
namespace L2
open PySem PySem.Spec PyProof.Rows
structure Room (k:Nat)(A:Around):Prop where
 hd:A.handled=none
 dp:A.depth+3*k+5<recursionLimit
 un:A.units+16*k+200<cLine
theorem Room.mono{j k:Nat}{A:Around}(r:Room k A)(h:j<=k):Room j A:=⟨r.hd,by have:=r.dp;omega,by have:=r.un;omega⟩
theorem Room.deeper{k:Nat}{A:Around}(r:Room (k+1) A)(env:Env):Room k (A.deeper env):=
 ⟨r.hd,by have:=r.dp;show A.depth+1+3*k+5<_;omega,by have:=r.un;show A.units+3+16*k+200<_;omega⟩
theorem Room.in1{k:Nat}{A:Around}(r:Room (k+1) A):Room k A.in1:=
 ⟨r.hd,by have:=r.dp;show A.depth+3*k+5<_;omega,by have:=r.un;show A.units+1+16*k+200<_;omega⟩
theorem uV{A:Around}{C:Addr}{us:List Value}{kw:List (Str×Value)}:(A.under (.builtin "type.__call__" ⟨.ref C::us,kw⟩)).depth=A.depth+1:=by
 first |rfl|simp[Around.under,Code.weight,Code.isCreation,Code.isGuard,Code.isCaller,Code.frames,Code.isFrame,guardIds]
theorem uU{A:Around}{C:Addr}{us:List Value}{kw:List (Str×Value)}:(A.under (.builtin "type.__call__" ⟨.ref C::us,kw⟩)).units=A.units+1:=by
 first |rfl|simp[Around.under,Code.cUnits,Code.frames,Code.isFrame]
theorem Room.make{k:Nat}{A:Around}(r:Room (k+1) A)(C:Addr)(us:List Value)(kw:List (Str×Value)):Room k (A.under (.builtin "type.__call__" ⟨.ref C::us,kw⟩)):=
 ⟨r.hd,by have:=r.dp;rw[uV];omega,by have:=r.un;rw[uU];omega⟩
theorem Room.depth{k:Nat}{A:Around}(r:Room k A):A.depth<recursionLimit:=by have:=r.dp;omega
theorem Room.units{k:Nat}{A:Around}(r:Room k A):A.units+64<cLine:=by have:=r.un;omega
noncomputable def rT:TA:=λ_ H Q=>Q [] H
noncomputable def mO(ta:TE)(tr:TA):TA:=λσ H Q=>ta σ H λx H1=>tr σ H1 λxs H2=>Q (x::xs) H2
section
variable {X:Cx}{e:Expr}{es:List Expr}{te:TE}{t:TA}{pos:Pos}
theorem iU:PA X [] rT:=λ_ _ _ _ H Q I h=>Calls.spliced_nil ⟨[],H,I,.nil,h⟩
theorem gE(ha:PE X e te)(hr:PA X es t)(hs:starEach (e::es) X.env=(false,eval e X.env)::starEach es X.env:=by rfl):PA X (e::es) (mO te t):=by
 intro pos pins s σ H Q I h;rw[hs];show wpAny _ _ (spliced ((false,eval e X.env)::backTo pos (starEach es X.env))) _ _ s;refine Calls.spliced_cons (bP (ha pins s σ H _ I h) λu s1 ⟨x,H1,I1,r1,q1⟩=>?_);exact bP (hr pos pins s1 σ H1 _ I1 q1) λus s2 ⟨xs,H2,I2,r2,q2⟩=>⟨x::xs,H2,I2,.cons r1 r2,q2⟩
def XY(t:TA):TE:=λσ H Q=>t σ H λxs H1=>xs.length<=sizeLine/\∀p,H1 p=none->Q (.ref p) (bS H1 p (.tup xs))
def YD(t:TA):TE:=λσ H Q=>t σ H λxs H1=>xs.length<=sizeLine/\∀p,H1 p=none->Q (.ref p) (bS H1 p (.lst xs))
theorem MQ{x1}(h:PA X es t):PE X (.Tuple es x1 pos) (XY t):=by
 intro pins s σ H Q I hq;refine wpAny_Tuple_spliced (bP (h pos pins s σ H _ I hq) λus s1 ⟨xs,H1,I1,r,z,q⟩=>⟨by rw[<- r.length];exact z,?_⟩);have hf:H1 s1.heap.objs.size=none:=I1.hok.fresh (Zn _);refine⟨.ref s1.heap.objs.size,bS H1 s1.heap.objs.size (.tup xs),I1.laid (t':=s1.toks) (λb u e=>Zf _ e) (Zn _) ?_,rfl,q _ hf⟩;exact⟨z,us,r,⟨_,Heap.get?_push_size _ rfl,rfl,_,rfl⟩⟩
theorem MV(h:PA X es t):PE X (.List es pos) (YD t):=by
 intro pins s σ H Q I hq;refine wpAny_List_spliced (bP (h pos pins s σ H _ I hq) λus s1 ⟨xs,H1,I1,r,z,q⟩=>⟨by rw[<- r.length];exact z,?_⟩);have hf:H1 s1.heap.objs.size=none:=I1.hok.fresh (Zn _);refine⟨.ref s1.heap.objs.size,bS H1 s1.heap.objs.size (.lst xs),I1.laid (t':=s1.toks) (λb u e=>Zf _ e) (Zn _) ?_,rfl,q _ hf⟩;exact⟨z,us,0,r,Heap.get?_push_size _ rfl⟩
end
noncomputable abbrev Sp:=List V->Hp->VK->XK->Prop
noncomputable abbrev AA:=List Env->Hp->Shared->XK->Value->Shared->Prop
structure Env0 (P:Program)(w:World)(K:W.Frag)(mg:Str->Option Value)(base:Heap)(A:Around)(outer:List Env)(s:Shared)(H:Hp):Prop where
 frames:A.frames=some outer
 mod:Mod K mg base
 bs:∀b o,base.get? b=some o->s.heap.get? b=some o/\H b=none
 bsz:base.objs.size<=s.heap.objs.size
 funs:s.heap.FunFrames base outer
 frf:∀b∈jZ outer,H b=none
 hok:HOk P w H s.heap
 bare:AllBare s.gens
def CE(outer:List Env)(P:Program)(w:World)(H:Hp)(s:Shared)(Q:VK)(u:Value)(s':Shared):Prop:=
 ∃v H',s'.os=s.os/\AllBare s'.gens/\Un (jZ outer) [] H H' s.heap s'.heap/\HOk P w H' s'.heap/\RelV v u/\Q v H'
def CR(CX:AA)(outer:List Env)(P:Program)(w:World)(H:Hp)(s:Shared)(Q:VK)(E:XK)(r:Result)(s':Shared):Prop:=
 match r with
 |.ok (.ret u)=>CE outer P w H s Q u s'
 |.ok _=>False
 |.error e=>CX outer H s E e s'
structure FnOk (P:Program)(w:World)(K:W.Frag)(mg:Str->Option Value)(base:Heap)(CX:AA)(k:Nat)(f:Addr)(fd:FuncData)(ps:List Str)(sp:Sp):Prop where
 len:∀vs H Q E,sp vs H Q E->vs.length=ps.length
 run:∀(A:Around)(outer:List Env)(s:Shared)(H:Hp)(args:Args)(us:List Value)(vs:List V)(Q:VK)(E:XK),Room k A->Env0 P w K mg base A outer s H->BindsTo s fd args (ps.zip us)->Vals vs us->sp vs H Q E->
  codeAny (model P w) A (.call (.ref f) args) (CR CX outer P w H s Q E) s
theorem FnOk.imp{P:Program}{w:World}{K:W.Frag}{mg:Str->Option Value}{base:Heap}{CX:AA}{k:Nat}{f:Addr}{fd:FuncData}{ps:List Str}{sp sp':Sp}(F:FnOk P w K mg base CX k f fd ps sp)
 (h:∀vs H Q E,sp' vs H Q E->sp vs H Q E):FnOk P w K mg base CX k f fd ps sp':=
 ⟨λvs H Q E q=>F.len vs H Q E (h _ _ _ _ q),λA outer s H args us vs Q E hr he hb hv hs=>F.run A outer s H args us vs Q E hr he hb hv (h _ _ _ _ hs)⟩
theorem Env0.make{P:Program}{w:World}{K:W.Frag}{mg:Str->Option Value}{base:Heap}{A:Around}{outer:List Env}{s:Shared}{H:Hp}(e:Env0 P w K mg base A outer s H)(C:Addr)(us:List Value)(kw:List (Str×Value)):
 Env0 P w K mg base (A.under (.builtin "type.__call__" ⟨.ref C::us,kw⟩)) outer s H:=⟨by first |exact e.frames|(simpa [Around.under,Code.envs,Code.isFrame,pushEnvs] using e.frames),e.mod,e.bs,e.bsz,e.funs,e.frf,e.hok,e.bare⟩
section
variable {X:Cx}{pins:List (Addr×Obj)}{σ:St}{H:Hp}{s s':Shared}
theorem Inv.env0(I:Inv X pins σ H s):Env0 X.prog X.w X.K X.mg X.base X.A X.stack s H:=
 ⟨I.ok.frames,I.ok.mod,I.bs,Nat.le_trans I.ok.bsz I.sz,I.stack,I.stkFree,I.hok,I.bare⟩
theorem Inv.after{Q:VK}{u:Value}(I:Inv X pins σ H s)(h:CE X.stack X.prog X.w H s Q u s'):EP X pins σ Q u s':=by
 obtain⟨v,H',os,bare,un,hok,r,q⟩:=h;obtain⟨hh,g,d,t,os'⟩:=s';obtain rfl:os'=s.os:=os;exact⟨v,H',I.call (h':=hh) (g':=g) (d':=d) (t':=t) (ch:= []) un hok bare (λb z=>absurd z (by simp)),r,q⟩
end
def SJ(sp:Sp)(dvs:List V)(E:XK)(t:TA):TE:=λσ H Q=>t σ H λvs H1=>sp (vs++dvs) H1 Q E
def JV(C:Addr)(m:Str)(sp:Sp)(dvs:List V)(E:XK)(ta:TE)(t:TA):TE:=λσ H Q=>ta σ H λx H1=>∃a dx fs,x=.ref a/\H1 a=some (.ins C dx fs)/\fs.lookup m=none/\
 t σ H1 λvs H2=>sp (x::(vs++dvs)) H2 Q E
def SH(C:Addr)(sp:Sp)(dvs:List V)(E:XK)(t:TA):TE:=λσ H Q=>t σ H λvs H1=>∀x dx,H1 x=none->H1 dx=none->dx≠x->
 sp (.ref x::(vs++dvs)) (bS (bS H1 dx (.own x)) x (.ins C dx [])) (λv H2=>v=.non/\Q (.ref x) H2) E
def Binds(K:W.Frag)(fd:FuncData)(ps:List Str)(ds:List Value):Prop:=
 ∀(s:Shared)(us:List Value),K.In s.heap->(us++ds).length=ps.length->BindsTo s fd ⟨us,[]⟩ (ps.zip (us++ds))
theorem Binds.all{K:W.Frag}{fd:FuncData}{ps:List Str}(h:∀us:List Value,us.length=ps.length->bindArgs fd ⟨us,[]⟩=pure (ps.zip us)):Binds K fd ps []:=λs us _ hl=>by
 rw[Zm] at hl⊢;exact .of_eq (h us hl)
def jL(CX:AA)(X:Cx)(E:XK):Prop:=∀(pins:List (Addr×Obj))(σ:St)(H:Hp)(s:Shared)(e:Value)(s':Shared),Inv X pins σ H s->CX X.stack H s E e s'->X.xe e s'
section
variable {X:Cx}{CX:AA}{k:Nat}{f C:Addr}{fd:FuncData}{ps:List Str}{sp:Sp}{dvs:List V}{ds:List Value}{E:XK}{x m:Str}{p pos apos:Pos}{e o:Expr}{es:List Expr}{ta:TE}{t:TA}
theorem uJ{pins:List (Addr×Obj)}{σ:St}{H:Hp}{s:Shared}{Q:VK}{us:List Value}{vs:List V}(F:FnOk X.prog X.w X.K X.mg X.base CX k f fd ps sp)(hr:Room k X.A)(hb:Binds X.K fd ps ds)(hd:Vals dvs ds)(hx:jL CX X E)
 (I:Inv X pins σ H s)(r:Vals vs us)(h:sp (vs++dvs) H Q E):wpAny (model X.prog X.w) X.A (call (.ref f) us) (EP X pins σ Q) X.xe s:=by
 have r2:Vals (vs++dvs) (us++ds):=r.append hd;have hl:(us++ds).length=ps.length:=by rw[<- r2.length];exact F.len _ _ _ _ h
 refine wpAny_call (codeAny_mono (F.run X.A X.stack s H ⟨us,[]⟩ (us++ds) (vs++dvs) Q E hr I.env0 (hb s us I.kIn hl) r2 h) λr s' hq=>?_);cases r with
 |error e=>exact hx pins σ H s e s' I hq
 |ok fl=>
  cases fl with
  |ret u=>exact I.after hq
  |next=>exact False.elim hq
  |brk=>exact False.elim hq
  |cont=>exact False.elim hq
theorem GL(F:FnOk X.prog X.w X.K X.mg X.base CX k f fd ps sp)(hr:Room k X.A)(hg:Gl X x)(hm:X.mg x=some (.ref f))(hk:W.keepIn X.K (.ref f)=true)(hb:Binds X.K fd ps ds)(hd:Vals dvs ds)(hx:jL CX X E)
 (ha:PA X (e::es) t)(hdb:(x==("__debug__":Str))=false:=by decide)(he:starEach (e::es) X.env=(false,eval e X.env)::starEach es X.env:=by rfl)(hpl:(backTo pos (starEach es X.env)).any (·.1)=false:=by rfl):
 PE X (.Call (.Name x p) (e::es) [] pos) (SJ sp dvs E t):=by
 intro pins s σ H Q I h;refine wpAny_Call_Name_kw (qS I hg hm ?_ hdb);refine W.callWith_K (h₀:=X.base) I.ok.mod.kin hk (bP (ha pos pins s σ H _ I h) λus s1 ⟨vs,H1,I1,r,q⟩=>⟨I1.kIn,?_⟩) he hpl;exact uJ F hr hb hd hx I1 r q
theorem GH{pl:Sem Bool}(he:PE X o ta)(c:Cls X.K C)(hm:Meth X.K C m f)(F:FnOk X.prog X.w X.K X.mg X.base CX k f fd ps sp)(hr:Room k X.A)(hb:Binds X.K fd ps ds)(hd:Vals dvs ds)(hx:jL CX X E)(ha:PA X (e::es) t)
 (hst:starEach (e::es) X.env=(false,eval e X.env)::starEach es X.env:=by rfl)(hpl:(backTo pos (starEach es X.env)).any (·.1)=false:=by rfl)
 (ht:eval (.Call (.Attribute o m apos) (e::es) [] pos) X.env=(do
   let ov <- eval o X.env
   standAt apos.atName
   let(f,first) <- holding [ov] (getMethod ov m pl)
   callWith pos f first (backTo pos (starEach (e::es) X.env)) (backToKw pos (keywordEach [] X.env))):=by rfl):
 PE X (.Call (.Attribute o m apos) (e::es) [] pos) (JV C m sp dvs E ta t):=by
 intro pins s σ H Q I h;refine W.methodCall_KW (pl:=pl) (bP (he pins s σ H _ I h) λu s1 ⟨x,H1,I1,rx,a,dx,fs,ex,ea,l,q⟩=>?_) ht;subst ex;obtain rfl:u=Value.ref a:=rx;refine nT I1 ea c hm l ?_;refine W.callWith_K (first:= [.ref a]) (h₀:=X.base) I.ok.mod.kin hm.kp (bP (ha pos pins s1 σ H1 _ I1 q) λus s2 ⟨vs,H2,I2,r,q2⟩=>⟨I2.kIn,?_⟩) hst hpl;exact uJ (us:=.ref a::us) (vs:=.ref a::vs) F hr hb hd hx I2 (.cons rfl r) q2
theorem BS{pl:Sem Bool}(he:PE X o ta)(c:Cls X.K C)(hm:Meth X.K C m f)(F:FnOk X.prog X.w X.K X.mg X.base CX k f fd ps sp)(hr:Room k X.A)(hb:Binds X.K fd ps ds)(hd:Vals dvs ds)(hx:jL CX X E)
 (ht:eval (.Call (.Attribute o m apos) [] [] pos) X.env=(do
   let ov <- eval o X.env
   standAt apos.atName
   let(f,first) <- holding [ov] (getMethod ov m pl)
   callWith pos f first (backTo pos (starEach [] X.env)) (backToKw pos (keywordEach [] X.env))):=by rfl):
 PE X (.Call (.Attribute o m apos) [] [] pos) (JV C m sp dvs E ta rT):=by
 intro pins s σ H Q I h;refine W.methodCall_KW (pl:=pl) (bP (he pins s σ H _ I h) λu s1 ⟨x,H1,I1,rx,a,dx,fs,ex,ea,l,q⟩=>?_) ht;subst ex;obtain rfl:u=Value.ref a:=rx;refine nT I1 ea c hm l ?_;exact W.callWith_K0 (first:= [.ref a]) I1.kIn hm.kp (uJ (us:= [.ref a]) (vs:= [.ref a]) F hr hb hd hx I1 (.cons rfl .nil) q)
structure Mk (K:W.Frag)(C f:Addr):Prop where
 makes:W.makesIn K C=true
 init:W.findIn K (.ref C) "__init__"=some (some (.ref f))
 fn:W.isFn K (.ref f)=true
 kp:W.keepIn K (.ref C)=true
theorem BB{pins:List (Addr×Obj)}{σ:St}{H:Hp}{s:Shared}{Q:VK}{us:List Value}{vs:List V}(M:Mk X.K C f)(F:FnOk X.prog X.w X.K X.mg X.base CX k f fd ps sp)(hr:Room (k+1) X.A)(hb:Binds X.K fd ps ds)(hd:Vals dvs ds)
 (hx:jL CX X E)(I:Inv X pins σ H s)(r:Vals vs us)
 (h:∀x dx,H x=none->H dx=none->dx≠x->sp (.ref x::(vs++dvs)) (bS (bS H dx (.own x)) x (.ins C dx [])) (λv H2=>v=.non/\Q (.ref x) H2) E):
 wpAny (model X.prog X.w) X.A (call (.ref C) us) (EP X pins σ Q) X.xe s:=by
 have hq:=h (s.heap.objs.size+1) s.heap.objs.size (I.hok.fresh (Nat.le_succ _)) (I.hok.fresh (Zn _)) (Nat.ne_of_lt (Nat.lt_succ_self _));have I2:=Inv.made (C:=C) I;have r2:Vals (V.ref (s.heap.objs.size+1)::(vs++dvs)) (Value.ref (s.heap.objs.size+1)::(us++ds)):=.cons rfl (r.append hd)
 have hl:(Value.ref (s.heap.objs.size+1)::us++ds).length=ps.length:=by
  have e:=r2.length;rw[F.len _ _ _ _ hq] at e;exact e.symm
 refine wpAny_call (BZ (f:=f) I.kIn M.makes M.init (beq_iff_eq.mp M.fn) (codeAny_mono (F.run _ X.stack _ _ ⟨Value.ref (s.heap.objs.size+1)::us,[]⟩ (Value.ref (s.heap.objs.size+1)::(us++ds)) _ _ E (hr.make C us [])
  (I2.env0.make C us []) (hb _ (Value.ref (s.heap.objs.size+1)::us) I2.kIn hl) r2 hq) λr s' hq'=>?_))
 cases r with
 |error e=>exact hx pins σ _ _ e s' I2 hq'
 |ok fl=>
  cases fl with
  |ret u=>
   obtain⟨v,H',I3,rv,ev,q3⟩:=I2.after hq';subst ev;exact⟨rv,⟨V.ref (s.heap.objs.size+1),H',I3,rfl,q3⟩⟩
  |next=>exact False.elim hq'
  |brk=>exact False.elim hq'
  |cont=>exact False.elim hq'
theorem GI(M:Mk X.K C f)(F:FnOk X.prog X.w X.K X.mg X.base CX k f fd ps sp)(hr:Room (k+1) X.A)(hg:Gl X x)(hm:X.mg x=some (.ref C))(hb:Binds X.K fd ps ds)(hd:Vals dvs ds)(hx:jL CX X E)
 (ha:PA X (e::es) t)(hdb:(x==("__debug__":Str))=false:=by decide)(he:starEach (e::es) X.env=(false,eval e X.env)::starEach es X.env:=by rfl)(hpl:(backTo pos (starEach es X.env)).any (·.1)=false:=by rfl):
 PE X (.Call (.Name x p) (e::es) [] pos) (SH C sp dvs E t):=by
 intro pins s σ H Q I h;refine wpAny_Call_Name_kw (qS I hg hm ?_ hdb);refine W.callWith_K (h₀:=X.base) I.ok.mod.kin M.kp (bP (ha pos pins s σ H _ I h) λus s1 ⟨vs,H1,I1,r,q⟩=>⟨I1.kIn,?_⟩) he hpl;exact BB M F hr hb hd hx I1 r q
end
section
variable {X:Cx}{CX:AA}{k:Nat}{f C:Addr}{fd:FuncData}{ps ks:List Str}{sp:Sp}{E:XK}{x m:Str}{p pos apos kpos:Pos}{e o:Expr}{es:List Expr}{kws:List Keyword}{te ta:TE}{t tk:TA}{nm:Option Str}
variable {g:List Value->List Value->List Value}{gV:List V->List V->List V}
end
structure FnScope (N P:List Str)(sc:Scope):Prop where
 kind:sc.kind=.function
 co:sc.isCoroutine=false
 gen:sc.isGenerator=false
 nd:N.Nodup
 pre:N.take P.length=P
 par:∀x∈P,sc.names.lookup x=some .local\/sc.names.lookup x=some .cell
 nofree:∀y∈sc.names,y.2≠ .free
theorem pT{kindOf:Str->Option NameKind}{x:Str}:∀{binds:List (Str×Value)}{m:Str->Option Value},(∀v,(x,v) ∉ binds)->bindL kindOf binds m x=m x
 | [],_,_=>rfl
 |(n,v)::r,m,h=>by
  unfold bindL;rw[pT λw hw=>h w (Zj _ hw)];split
  ·have:x≠n:=by rintro rfl;exact h v Zl
   simp[this]
  ·rfl
theorem pX{kindOf:Str->Option NameKind}{x:Str}:∀{binds:List (Str×Value)}{m:Str->Option Value},(∀v,(x,v) ∉ binds)->bindC kindOf binds m x=m x
 | [],_,_=>rfl
 |(n,v)::r,m,h=>by
  unfold bindC;rw[pX λw hw=>h w (Zj _ hw)];split
  ·rfl
  ·have:x≠n:=by rintro rfl;exact h v Zl
   simp[this]
theorem pW{kindOf:Str->Option NameKind}{x:Str}{v:Value}:∀{P:List Str}{vs:List Value}{i:Nat}{m:Str->Option Value},P.Nodup->P[i]? =some x->vs[i]? =some v->kindOf x=some .local->
 bindL kindOf (P.zip vs) m x=some v
 | [],_,_,_,_,h,_,_=>by simp at h
 |_::_,[],_,_,_,_,h,_=>by simp at h
 |p::P,w::vs,0,m,nd,h1,h2,hk=>by
  simp at h1 h2;subst h1;subst h2;show bindL kindOf ((p,w)::P.zip vs) m p=_;unfold bindL;rw[pT λv hv=>(List.nodup_cons.mp nd).1 (List.of_mem_zip hv).1,if_pos hk]
  simp
 |p::P,w::vs,i+1,m,nd,h1,h2,hk=>by
  show bindL kindOf ((p,w)::P.zip vs) m x=_;unfold bindL;exact pW (i:=i) (List.nodup_cons.mp nd).2 (by simpa using h1) (by simpa using h2) hk
theorem pY{kindOf:Str->Option NameKind}{x:Str}{v:Value}:∀{P:List Str}{vs:List Value}{i:Nat}{m:Str->Option Value},P.Nodup->P[i]? =some x->vs[i]? =some v->kindOf x≠some .local->
 bindC kindOf (P.zip vs) m x=some v
 | [],_,_,_,_,h,_,_=>by simp at h
 |_::_,[],_,_,_,_,h,_=>by simp at h
 |p::P,w::vs,0,m,nd,h1,h2,hk=>by
  simp at h1 h2;subst h1;subst h2;show bindC kindOf ((p,w)::P.zip vs) m p=_;unfold bindC;rw[pX λv hv=>(List.nodup_cons.mp nd).1 (List.of_mem_zip hv).1,if_neg hk]
  simp
 |p::P,w::vs,i+1,m,nd,h1,h2,hk=>by
  show bindC kindOf ((p,w)::P.zip vs) m x=_;unfold bindC;exact pY (i:=i) (List.nodup_cons.mp nd).2 (by simpa using h1) (by simpa using h2) hk
noncomputable def start(N:List Str)(vs:List V):St:=vs.map some++List.replicate (N.length-vs.length) none
noncomputable def iN(CX:AA)(P:Program)(w:World)(K:W.Frag)(mg:Str->Option Value)(base:Heap)(N:List Str)(qual:Str)(scope:Scope)(f:Addr)(cd:Value)(A:Around)(outer:List Env)(s:Shared)(H:Hp)(E:XK):Cx where
 prog:=P
 w:=w
 K:=K
 mg:=mg
 base:=base
 A:=A.deeper (envOfC qual scope s.heap.objs.size f cd)
 N:=N
 s₀:=s
 H₀:=H
 env:=envOfC qual scope s.heap.objs.size f cd
 outer:=outer
 stack:=envOfC qual scope s.heap.objs.size f cd::outer
 ex:= []
 calm:=true
 fn:=λ_=>true
 pn:= []
 xe:=λe s'=>wpAny (model P w) (A.deeper (envOfC qual scope s.heap.objs.size f cd)) (leaving (envOfC qual scope s.heap.objs.size f cd) e) (λ_ s''=>CX outer H s E e s'') (λe' s''=>CX outer H s E e' s'') s'
theorem tO{sc:Scope}{n:Nat}{x:Str}(h:sc.names.lookup x=some .cell):∃c,(cellsFrom n sc.names []).lookup x=some c:=by
 have q:=W.cellsFrom_some sc.names n [] (.inl h);exact Option.isSome_iff_exists.mp q
theorem pJ{CX:AA}{P:Program}{w:World}{K:W.Frag}{mg:Str->Option Value}{base:Heap}{N ps:List Str}{qual:Str}{scope:Scope}{f:Addr}{cd:Value}{A:Around}{outer:List Env}{s s1:Shared}{H:Hp}{E:XK}{us:List Value}{vs:List V}
 (S:FnScope N ps scope)(hd:A.handled=none)(e0:Env0 P w K mg base A outer s H)(hl:vs.length=ps.length)(r:Vals vs us)
 (x:InCallC s s.heap.objs.size (bindL (envOfC qual scope s.heap.objs.size f cd).kindOf (ps.zip us) λ_=>none) (cellsFrom (s.heap.objs.size+1) scope.names []) (bindC (envOfC qual scope s.heap.objs.size f cd).kindOf (ps.zip us) λ_=>none) s1):
 Inv (iN CX P w K mg base N qual scope f cd A outer s H E) [] (start N vs) H s1:=by
 have hpl:ps.length<=N.length:=by have:=congrArg List.length S.pre;rw[List.length_take] at this;omega
 obtain⟨h1,tk,rfl,hk⟩:=x.done;have noA:∀b:Addr,b ∉ (iN CX P w K mg base N qual scope f cd A outer s H E).ex:=λb z=>absurd (show b∈([]:List Addr) from z) (by simp)
 refine⟨⟨e0.mod,S.kind,rfl,rfl,Zn _,λy z c h1 h2=>?_,λy hy=>?_,λy c _ h=>?_,λ_=>hd,Around.frames_deeper e0.frames,.inr ⟨rfl,rfl⟩,λb z=>absurd z (noA b),e0.bs,e0.bsz,λb _ _=>noA b,λb z=>absurd z (noA b),e0.funs,e0.frf⟩,
  rfl,e0.bare,Un.kept hk,⟨_,x.toInCall.ns,λi y v h1 h2 h3=>?_⟩,λy c h=>⟨_,x.cell y c h⟩,e0.hok.fresh (Zn _),λy c h=>?_,λp hp=>absurd (show p∈([]:List (Addr×Obj)) from hp) (by simp),e0.hok.kept hk,?_⟩
 ·exact name_of_addr x.apart (PySem.mem_of_lookup h1) (PySem.mem_of_lookup h2)
 ·have hy:scope.names.lookup y=some .cell\/scope.names.lookup y=some .free:=hy;rcases hy with hy|hy
  ·exact tO hy
  ·exact absurd rfl (S.nofree _ (PySem.mem_of_lookup hy))
 ·exact Nat.le_of_lt (x.above y c (PySem.mem_of_lookup h))
 ·have hi:i<vs.length:=by
   unfold start at h2
   by_cases hi:i<vs.length
   ·exact hi
   ·rw[List.getElem?_append_right (by simpa using hi)] at h2;rw[List.getElem?_replicate] at h2;split at h2<;>cases h2
  have ha:vs[i]? =some v:=by
   unfold start at h2;rw[List.getElem?_append_left (by simpa using hi),Zi] at h2;cases e:vs[i]? with
   |none=>rw[e] at h2;cases h2
   |some a=>rw[e] at h2;cases h2;rfl
  obtain⟨u,hu,rv⟩:=r.get ha
  have hp:ps[i]? =some y:=by
   rw[<- S.pre,List.getElem?_take_of_lt (by omega)];exact h1
  have ndP:ps.Nodup:=by rw[<- S.pre];exact S.nd.sublist (List.take_sublist _ _)
  refine⟨u,rv,?_⟩;rcases S.par y (List.mem_of_getElem? hp) with k|k
  ·exact .inl ⟨k,pW ndP hp hu k⟩
  ·obtain⟨c,e⟩:=tO (n:=s.heap.objs.size+1) k;refine .inr ⟨.inl k,c,e,?_⟩;have q:=x.cell y c e;rw[pY ndP hp hu (by show scope.names.lookup y≠_;rw[k];decide)] at q;exact q
 ·exact e0.hok.fresh (Nat.le_of_lt (x.above y c (PySem.mem_of_lookup h)))
 ·unfold start;show _=N.length;rw[List.length_append,Zc,List.length_replicate];omega
theorem US{CX:AA}{P:Program}{w:World}{K:W.Frag}{mg:Str->Option Value}{base:Heap}{k:Nat}{f:Addr}{name qual:Str}{params:Arguments}{body:List Stmt}{scope:Scope}{dV kV doc pm cdv ct oc:Value}{an od:Option Addr}
 {osl:Array (Option Value)}{N ps:List Str}{sp:Sp}(lk:K.lookup f=some ⟨oc,od,.func (W.fnOf name qual params body scope dV kV doc pm an cdv ct),osl⟩)(hcd:W.codeIn K cdv qual=true)(S:FnScope N ps scope)
 (len:∀vs H Q E,sp vs H Q E->vs.length=ps.length)
 (hbody:∀(A:Around)(outer:List Env)(s:Shared)(H:Hp)(vs:List V)(Q:VK)(E:XK),Room k (A.deeper (envOfC qual scope s.heap.objs.size f cdv))->sp vs H Q E->
   ∃t,PSs (iN CX P w K mg base N qual scope f cdv A outer s H E) body t/\t {nx:=λ_ H'=>Q .non H',rt:=Q} (start N vs) H):
 FnOk P w K mg base CX (k+1) f (W.fnOf name qual params body scope dV kV doc pm an cdv ct) ps sp:=by
 refine⟨len,λA outer s H args us vs Q E hr e0 hb r hsp=>?_⟩;have hl:=len _ _ _ _ hsp;have KX:K.In s.heap:=e0.mod.kin.keeps λb o e=>(e0.bs b o e).1;have lim:s.heap.NoLimit:=e0.mod.nolimit.keeps λb o e=>(e0.bs b o e).1
 have hkind:∀y∈ps.zip us,scope.names.lookup y.1=some .local\/(scope.names.lookup y.1=some .cell/\((cellsFrom (s.heap.objs.size+1) scope.names []).lookup y.1).isSome=true):=λ⟨n,v⟩ hy=>by
  rcases S.par n (List.of_mem_zip hy).1 with q|q
  ·exact .inl q
  ·exact .inr ⟨q,W.cellsFrom_some _ _ _ (.inl q)⟩
 refine codeAny_call_function hr.depth (KX _ _ lk) rfl S.co S.gen rfl (W.codeRec_of KX hcd) (hb _ _ _ _ ?_);refine wpAny_newFunctionEnv_cells S.kind hkind λenv he s1 x=>?_;subst he;refine⟨lim.keeps x.toInCall.keep,codeAny_func ?_⟩;obtain⟨t,ht,hq⟩:=hbody A outer s H vs Q E (hr.deeper _) hsp;have I:Inv (iN CX P w K mg base N qual scope f cdv A outer s H E) [] (start N vs) H s1:=pJ S hr.hd e0 hl r x;refine wpAny_mono (ht [] s1 (start N vs) H _ I hq) (λfl s' hs=>?_) λe s' hs=>hs
 have fin:∀{σ':St}{H':Hp}{v:V}{u:Value},Inv (iN CX P w K mg base N qual scope f cdv A outer s H E) [] σ' H' s'->RelV v u->Q v H'->CE outer P w H s Q u s':=
  λ{σ' H' v u} J rv q=>⟨v,H',J.os,J.bare,J.base,J.hok,rv,q⟩
 cases fl with
 |ret u=>
  obtain⟨v,σ',H',J,rv,q⟩:=hs;exact fin J rv q
 |next=>
  obtain⟨σ',H',J,q⟩:=hs;exact fin (v:=V.non) (u:=Value.none) J rfl q
 |brk=>
  obtain⟨_,_,_,q⟩:=hs;exact False.elim q
 |cont=>
  obtain⟨_,_,_,q⟩:=hs;exact False.elim q
end L2
namespace L2
open PySem PySem.Spec PyProof.Rows
section
variable {X:Cx}{x:Str}{p pos:Pos}{e:Expr}{es:List Expr}{t:TA}{id T:String}{r:List V->Hp->VK->Prop}
def YH(r:List V->Hp->VK->Prop)(t:TA):TE:=λσ H Q=>t σ H λvs H1=>r vs H1 Q
theorem sF(hc:fK X (.builtin id) r)(hg:Gl X x)(hm:X.mg x=none)(hv:bootBuiltins x=some (.builtin id))(ha:PA X (e::es) t)(hn:x≠"__name__":=by decide)(hdb:(x==("__debug__":Str))=false:=by decide)
 (he:starEach (e::es) X.env=(false,eval e X.env)::starEach es X.env:=by rfl)(hpl:(backTo pos (starEach es X.env)).any (·.1)=false:=by rfl):PE X (.Call (.Name x p) (e::es) [] pos) (YH r t):=by
 intro pins s σ H Q I h;refine wpAny_Call_Name_kw (kW I hg hm hv ?_ hn hdb);exact PyProof.Rows.callWith_builtin1 (bP (ha pos pins s σ H _ I h) λus s1 ⟨vs,H1,I1,r1,q1⟩=>hc pins s1 σ H1 vs us Q I1 r1 q1) he hpl
theorem yI(hc:fK X (.type T) r)(hg:Gl X x)(hm:X.mg x=none)(hv:bootBuiltins x=some (.type T))(ha:PA X (e::es) t)(hn:x≠"__name__":=by decide)(hdb:(x==("__debug__":Str))=false:=by decide)
 (he:starEach (e::es) X.env=(false,eval e X.env)::starEach es X.env:=by rfl)(hpl:(backTo pos (starEach es X.env)).any (·.1)=false:=by rfl):PE X (.Call (.Name x p) (e::es) [] pos) (YH r t):=by
 intro pins s σ H Q I h;refine wpAny_Call_Name_kw (kW I hg hm hv ?_ hn hdb);exact PyProof.Rows.callWith_type1 (bP (ha pos pins s σ H _ I h) λus s1 ⟨vs,H1,I1,r1,q1⟩=>hc pins s1 σ H1 vs us Q I1 r1 q1) he hpl
end
end L2
namespace HT
open PySem PyProof.Rows
section
open PySem.SeqAt
open PySem.AutoSeq1 (wpAny_loadPart')
open PySem.MeetsSeq PySem.MeetsSeq2 PySem.MeetsSeq3
end
section
variable {prog:Program}{w:World}{A:Around}{E:Value->Shared->Prop}{s:Shared}
theorem cat_tup{t b:Addr}{vs ws:List Value}{Q:Value->Shared->Prop}(ht:IsTup s.heap t vs.toArray)(hb:IsTup s.heap b ws.toArray)(hv:vs≠ [])
 (h1:ws=[]->Q (.ref t) s)(h2:ws≠ []->Q (.ref s.heap.objs.size) {s with heap:=s.heap.push {cls:=.type "tuple",data:=.seq (vs++ws).toArray}})
 (hsz:vs.length+ws.length<=sizeLine):wpAny (model prog w) A (binaryOp .Add (.ref t) (.ref b)) Q E s:=by
 obtain⟨⟨cls,dd,data,sl⟩,ho,hc,n,hd⟩:=id ht;obtain⟨⟨cls2,dd2,data2,zY⟩,ho2,hc2,n2,EZ⟩:=id hb;simp only at hc hd hc2 EZ;subst hc hd hc2 EZ;have e:vs.toArray++ws.toArray=(vs++ws).toArray:=by simp
 by_cases hw:ws=[]
 ·exact concat_meets ⟨_,ho,rfl⟩ ⟨_,ho2,rfl⟩ noFill_tuple_add seq_tuple_add PySem.F.slot_tuple_add PySem.F.entry_tuple_add (PySem.F.args_tuple_add_2 _ _)
   (tuple_addW1 t b vs.toArray ws.toArray n n2 dd dd2 sl zY (by simpa using hv) (by simp[hw])) ⟨ho,ho2,h1 hw⟩
 ·refine concat_meets ⟨_,ho,rfl⟩ ⟨_,ho2,rfl⟩ noFill_tuple_add seq_tuple_add PySem.F.slot_tuple_add PySem.F.entry_tuple_add (PySem.F.args_tuple_add_2 _ _)
   (tuple_addW2 t b vs.toArray ws.toArray n n2 dd dd2 sl zY (by simpa using hv) (by simpa using hw) (by rw[Zk,Zk];exact hsz)) ⟨ho,ho2,?_⟩
  rw[e];exact h2 hw
noncomputable def sIx(n d:Nat):Option Int->Nat
 |none=>d
 |some v=>if v<0 then(v+(n:Int)).toNat else min v.toNat n
theorem sIx_none(n d:Nat):sIx n d none=d:=rfl
theorem MF(n d:Nat)(hd:d<=n)(o:Option Int):sIx n d o<=n:=by
 cases o with
 |none=>exact hd
 |some v=>
  show(if v<0 then(v+(n:Int)).toNat else min v.toNat n)<=n
  by_cases hv:v<0
  ·rw[if_pos hv];omega
  ·rw[if_neg hv];exact Nat.min_le_right _ _
theorem xI(v:Int)(n d:Nat):(if v<0 then max (v+(n:Int)) 0 else min v (n:Int))=((sIx n d (some v):Nat):Int):=by
 show(if v<0 then max (v+(n:Int)) 0 else min v (n:Int))=(((if v<0 then(v+(n:Int)).toNat else min v.toNat n):Nat):Int)
 by_cases hv:v<0
 ·simp only[if_pos hv];omega
 ·simp only[if_neg hv];omega
theorem vQ(lo hi:Option Int)(n:Nat):Builtin.Slice.sliceAdjust lo hi 1 (n:Int)=(((sIx n 0 lo:Nat):Int),((sIx n n hi:Nat):Int)):=by
 have h1:¬((1:Int)<0):=by omega
 unfold Builtin.Slice.sliceAdjust;simp only[h1,if_false];refine Prod.ext ?_ ?_
 ·cases lo with
  |none=>rfl
  |some v=>exact xI v n 0
 ·cases hi with
  |none=>rfl
  |some v=>exact xI v n n
theorem uM(i j:Nat):Builtin.Slice.slicePlaces (i:Int) (j:Int) 1=j-i:=by
 unfold Builtin.Slice.slicePlaces;have h1:(1:Int)>0:=by omega
 simp only[h1,if_true,Int.ediv_one];split<;>omega
theorem mT{v:Value}{o:Option Int}{Q:Option Int->Shared->Prop}(p:IsPart v o)(h:Q o s):wpAny (model prog w) A (Builtin.Slice.slicePartIndex v) Q E s:=by
 cases p with
 |none=>exact slicePart_none h
 |int i t=>exact slicePart_int h
theorem kN{sl:Addr}{vl vu:Value}{lo hi:Option Int}{n:Nat}{Q:Int×Int×Nat->Shared->Prop}(hs:s.heap.IsSliceOf sl vl vu .none)(pl:IsPart vl lo)(pu:IsPart vu hi)
 (h:Q (((sIx n 0 lo:Nat):Int),1,sIx n n hi-sIx n 0 lo) s):wpAny (model prog w) A (Builtin.Slice.sliceApplied (.ref sl) (pure (n:Int))) Q E s:=by
 obtain⟨os,hos,hcs,hds⟩:=id hs;unfold Builtin.Slice.sliceApplied Builtin.Slice.sliceFields;refine Za (Za (wpAny_field hos hds (x:=vl) rfl (Za (wpAny_field hos hds (x:=vu) rfl (Za (wpAny_field hos hds (x:=.none) rfl (Zb ?_)))))));refine Za (slicePart_none ?_);show wpAny _ _ (if((1:Int)==0)=true then _ else _) _ _ s;rw[if_neg (by decide)];refine Za (mT pl (Za (mT pu (Za (Zb ?_)))));show wpAny _ _ (match Builtin.Slice.sliceAdjust lo hi 1 (n:Int) with|(lo,hi)=>pure (lo,(1:Int),Builtin.Slice.slicePlaces lo hi 1)) _ _ s;rw[vQ lo hi n];show wpAny _ _ (pure (((sIx n 0 lo:Nat):Int),(1:Int),Builtin.Slice.slicePlaces ((sIx n 0 lo:Nat):Int) ((sIx n n hi:Nat):Int) 1)) _ _ s;rw[uM];exact Zb h
theorem BM(xs:Array Value)(i k:Nat):((List.range k).filterMap λ(m:Nat)=>xs[((i:Int)+(m:Int)*1).toNat]?).toArray=((xs.toList.drop i).take k).toArray:=by
 have e:(λ(m:Nat)=>xs[((i:Int)+(m:Int)*1).toNat]?)=λm=>xs[i+m]? :=by
  funext m;have:((i:Int)+(m:Int)*1).toNat=i+m:=by omega
  rw[this]
 rw[e];have:=pick_run xs i k;rw[List.filterMap_map] at this;have e2:((λx=>xs[x]?)∘λx=>i+x)=λm=>xs[i+m]? :=rfl;rw[e2] at this;rw[this]
theorem getItem_tuple_cut{t sl:Addr}{items:Array Value}{vl vu:Value}{lo hi:Option Int}{Q:Value->Shared->Prop}(ht:IsTup s.heap t items)(hs:s.heap.IsSliceOf sl vl vu .none)(pl:IsPart vl lo)(pu:IsPart vu hi)
 (hw:¬(sIx items.size 0 lo=0/\sIx items.size items.size hi=items.size))
 (h:Q (.ref s.heap.objs.size) {s with heap:=s.heap.push {cls:=.type "tuple",data:=.seq ((items.toList.drop (sIx items.size 0 lo)).take (sIx items.size items.size hi-sIx items.size 0 lo)).toArray}})
 (hsz:items.size<=sizeLine):wpAny (model prog w) A (getItem (.ref t) (.ref sl)) Q E s:=by
 have htake:sizeOk (.seq ((items.toList.drop (sIx items.size 0 lo)).take (sIx items.size items.size hi-sIx items.size 0 lo)).toArray):=by
  show((items.toList.drop (sIx items.size 0 lo)).take (sIx items.size items.size hi-sIx items.size 0 lo)).toArray.size<=sizeLine
  rw[Zk,List.length_take,List.length_drop,Array.length_toList];omega
 have hj:sIx items.size items.size hi<=items.size:=MF _ _ (Zn _) hi;obtain⟨os,hos,hcs,hds⟩:=id hs;have hTs:s.TypeIs (.ref sl) "slice":=⟨os,hos,hcs⟩;unfold getItem
 try with_reducible refine wpAny_holding ?_
 first |refine Za (Zb ?_)|skip
 refine Za (wpAny_sequenceKey ht.typeIs (by decide) ?_)
 refine Za (wpAny_callSpecial?_slot (name:=Str.ofString "__getitem__") ht.typeIs PyProof.Rows.slot_tuple_getitem
  (wpAny_call_entry PyProof.Rows.slot_tuple_getitem ht.typeIs entry_tuple_getitem ?_ (args_tuple_getitem _ _)))
 show wpAny _ _ (Builtin.Tuple.tupleItemsOf (.ref t)>>=_) _ _ s;refine Za (tupleItemsOf_ ht ?_);refine Za (wpAny_typeOf hTs ?_);rw[if_pos (by decide)];refine Za (kN hs pl pu ?_)
 have hno:¬((((sIx items.size 0 lo:Nat):Int)==0&&(1:Int)==1&&(sIx items.size items.size hi-sIx items.size 0 lo)==items.size)=true):=by
  intro q;rw[Bool.and_eq_true,Bool.and_eq_true] at q;have q1:((sIx items.size 0 lo:Nat):Int)=0:=eq_of_beq q.1.1;have q2:sIx items.size items.size hi-sIx items.size 0 lo=items.size:=eq_of_beq q.2;exact hw ⟨by omega,by omega⟩
 show wpAny _ _ (if(((sIx items.size 0 lo:Nat):Int)==0&&(1:Int)==1&&(sIx items.size items.size hi-sIx items.size 0 lo)==items.size)=true then _ else _) _ _ s;rw[if_neg hno,BM]
 first
  |exact Za (m:=Builtin.Tuple.tupleExact _) (wpAny_newObj_type (Zb ⟨_,rfl,Zb h⟩) htake)
  |exact Za (m:=Builtin.Tuple.tupleExact _) (wpAny_newObj_type (Za (Zb (Zb ⟨_,rfl,Zb h⟩))) htake)
  |exact Za (Za (m:=Builtin.Tuple.tupleExact _) (wpAny_newObj_type (Zb (Zb ⟨_,rfl,Zb h⟩)) htake))
  |exact Za (Za (m:=Builtin.Tuple.tupleExact _) (wpAny_newObj_type (Zb ⟨_,rfl,Zb h⟩) htake))
end
end HT
namespace L2
open PySem PySem.Spec PyProof.Rows
noncomputable abbrev TO:=St->Hp->(Option Int->Hp->Prop)->Prop
def PO(X:Cx)(e:Option Expr)(t:TO):Prop:=
 ∀(pins:List (Addr×Obj))(s:Shared)(σ:St)(H:Hp)(Q:Option Int->Hp->Prop),Inv X pins σ H s->t σ H Q->
  wpAny (model X.prog X.w) X.A (evalPart e X.env) (λu s'=>∃o H',Inv X pins σ H' s'/\IsPart u o/\Q o H') X.xe s
noncomputable def FK:TO:=λ_ H Q=>Q none H
noncomputable def SD(t:TE):TO:=λσ H Q=>t σ H λx H1=>∃i,x=.int i/\Q (some i) H1
section
variable {X:Cx}{e:Expr}{te:TE}{lo hi:Option Expr}{tl th:TO}{pos p2:Pos}
theorem qL:PO X none FK:=by
 intro pins s σ H Q I h;rw[evalPart_none];exact Zb ⟨none,H,I,.none,h⟩
theorem mC(h:PE X e te):PO X (some e) (SD te):=by
 intro pins s σ H Q I hw;rw[evalPart_some];refine bP (h pins s σ H _ I hw) λu s1 ⟨x,H1,I1,r1,q1⟩=>?_;obtain⟨i,rfl,q⟩:=q1;obtain⟨t,rfl⟩:=r1;exact⟨some i,H1,I1,.int i t,q⟩
def K8(X:Cx)(r:V->Option Int->Option Int->Hp->VK->Prop):Prop:=
 ∀(pins:List (Addr×Obj))(s:Shared)(σ:St)(H:Hp)(x:V)(v vl vu:Value)(lo hi:Option Int)(sl:Addr)(Q:VK),Inv X pins σ H s->RelV x v->s.heap.IsSliceOf sl vl vu .none->IsPart vl lo->IsPart vu hi->r x lo hi H Q->
  ∃T id,typeLookup (.type T) "__getitem__"=pure (some (.builtin id))/\s.TypeIs v T/\wpAny (model X.prog X.w) X.A (getItem v (.ref sl)) (EP X pins σ Q) X.xe s
def tSl(r:V->Option Int->Option Int->Hp->VK->Prop)(te:TE)(tl th:TO):TE:=λσ H Q=>te σ H λx H1=>tl σ H1 λl H2=>th σ H2 λu H3=>r x l u H3 Q
theorem mY{r:V->Option Int->Option Int->Hp->VK->Prop}(hr:K8 X r)(he:PE X e te)(hl:PO X lo tl)(hu:PO X hi th):PE X (.Subscript e (.Slice lo hi none p2) pos) (tSl r te tl th):=by
 intro pins s σ H Q I h;refine Subscript_ (bP (he pins s σ H _ I h) λv s1 ⟨x,H1,I1,r1,q1⟩=>?_);refine wpAny_Slice (bP (hl pins s1 σ H1 _ I1 q1) λvl s2 ⟨l,H2,I2,pl,q2⟩=>bP (hu pins s2 σ H2 _ I2 q2) λvu s3 ⟨u,H3,I3,pu,q3⟩=>?_);rw[evalPart_none];refine Zb ?_;have I4:Inv X pins σ H3 {s3 with heap:=s3.heap.push {cls:=.type "slice",data:=.fields #[vl,vu,.none]}}:=I3.kept (t':=s3.toks) λb ob q=>Zf _ q;obtain⟨T,id,hT,ht,hg⟩:=hr pins {s3 with heap:=s3.heap.push {cls:=.type "slice",data:=.fields #[vl,vu,.none]}} σ H3 x v vl vu l u s3.heap.objs.size Q I4 r1 (Heap.IsSliceOf.new ..) pl pu q3;show wpAny (model X.prog X.w) X.A (subscriptTail e (.Slice lo hi none p2) v (.ref s3.heap.objs.size)) (EP X pins σ Q) X.xe {s3 with heap:=s3.heap.push {cls:=.type "slice",data:=.fields #[vl,vu,.none]}};exact tail_any (ops:= [.ref s3.heap.objs.size,v]) ht hT hg (by with_unfolding_all rfl)
noncomputable def oS(xs:List V)(lo hi:Option Int):List V:=(xs.drop (HT.sIx xs.length 0 lo)).take (HT.sIx xs.length xs.length hi-HT.sIx xs.length 0 lo)
theorem lQ(xs:List V)(lo hi:Option Int):(oS xs lo hi).length<=xs.length:=by
 unfold oS;rw[List.length_take,List.length_drop];omega
noncomputable def YU(K:W.Frag):V->Option Int->Option Int->Hp->VK->Prop:=λx lo hi H Q=>∃a xs,x=.ref a/\SqT K H a xs/\
 ¬(HT.sIx xs.length 0 lo=0/\HT.sIx xs.length xs.length hi=xs.length)/\∀p,H p=none->Q (.ref p) (bS H p (.tup (oS xs lo hi)))
theorem MC:K8 X (YU X.K):=by
 intro pins s σ H x v vl vu lo hi sl Q I rx hs pl pu h;obtain⟨a,xs,rfl,hx,hw,q⟩:=h;cases rx;obtain⟨its,r,ht,hz⟩:=I.tuple hx;have hlen:its.toArray.size=xs.length:=by rw[Zk];exact r.length.symm
 refine⟨"tuple",_,PyProof.Rows.slot_tuple_getitem.lookup,ht.typeIs,?_⟩;refine HT.getItem_tuple_cut ht hs pl pu (by rw[hlen];exact hw) ?_ (by rw[hlen];exact hz);rw[hlen];refine⟨.ref s.heap.objs.size,_,I.laid (t':=s.toks) (o:=.tup (oS xs lo hi)) (λb ob q=>Zf _ q) (Zn _) ?_,rfl,q _ (I.hok.fresh (Zn _))⟩;exact⟨Nat.le_trans (lQ xs lo hi) hz,_,(r.drop (HT.sIx xs.length 0 lo)).take (HT.sIx xs.length xs.length hi-HT.sIx xs.length 0 lo),IsTup.new _ _⟩
noncomputable def SW(K:W.Frag):R2:=λx y H Q=>∃a b xs ys,x=.ref a/\y=.ref b/\SqT K H a xs/\SqT K H b ys/\xs≠ []/\xs.length+ys.length<=sizeLine/\
 (ys=[]->Q (.ref a) H)/\(ys≠ []->∀p,H p=none->Q (.ref p) (bS H p (.tup (xs++ys))))
theorem Vals.nil_iff{xs:List V}{us:List Value}(r:Vals xs us):us=[]↔xs=[]:=by
 cases r with
 |nil=>simp
 |cons _ _=>simp
theorem GU:jN X (binaryOp .Add) (SW X.K):=by
 intro pins s σ H x y v u Q I rx ry h;obtain⟨a,b,xs,ys,rfl,rfl,ha,hb,hx,hz,q1,q2⟩:=h;cases rx;cases ry;obtain⟨its,r1,p1,_⟩:=I.tuple ha;obtain⟨its2,r2,p2,_⟩:=I.tuple hb;refine HT.cat_tup p1 p2 (λz=>hx (r1.nil_iff.mp z)) (λz=>⟨.ref a,H,I,rfl,q1 (r2.nil_iff.mp z)⟩) (λz=>?_) (by rw[<- r1.length, <- r2.length];exact hz);refine⟨.ref s.heap.objs.size,_,I.laid (t':=s.toks) (o:=.tup (xs++ys)) (λb ob q=>Zf _ q) (Zn _) ?_,rfl,q2 (λw=>z (r2.nil_iff.mpr w)) _ (I.hok.fresh (Zn _))⟩;exact⟨by rw[List.length_append];exact hz,_,r1.append r2,IsTup.new _ _⟩
end
end L2
namespace L2
open PySem PySem.Spec PyProof.Rows
noncomputable def uZ(n:Nat)(i:Int):Option Nat:=if 0<=i then(if i<n then some i.toNat else none) else if -(n:Int)<=i then some (i+n).toNat else none
noncomputable def iG{α:Type}(xs:List α)(i:Int):Option α:=(uZ xs.length i).bind λj=>xs[j]?
theorem wO{n:Nat}{i:Int}{j:Nat}(h:uZ n i=some j):seqIndex? i n=some j/\j<n/\ -(n:Int)<=i/\i<n:=by
 unfold uZ at h
 by_cases h0:0<=i
 ·rw[if_pos h0] at h
  by_cases h1:i<n
  ·rw[if_pos h1] at h;have e:i.toNat=j:=Zg h;exact⟨by rw[seqIndex_of h0 h1,e],by omega,by omega,h1⟩
  ·rw[if_neg h1] at h;cases h
 ·rw[if_neg h0] at h
  by_cases h1: -(n:Int)<=i
  ·rw[if_pos h1] at h;have e:(i+n).toNat=j:=Zg h;exact⟨by rw[seqIndex_neg (by omega) h1,e],by omega,h1,by omega⟩
  ·rw[if_neg h1] at h;cases h
theorem rF{α:Type}{xs:List α}{i:Int}{v:α}(h:iG xs i=some v):∃j,seqIndex? i xs.length=some j/\xs[j]? =some v/\j<xs.length/\ -(xs.length:Int)<=i/\i<xs.length:=by
 unfold iG at h;cases e:uZ xs.length i with
 |none=>rw[e] at h;cases h
 |some j=>
  rw[e] at h;obtain⟨h1,h2,h3,h4⟩:=wO e;exact⟨j,h1,h,h2,h3,h4⟩
theorem fJ{α:Type}{xs:List α}{j:Nat}{v:α}(h:xs[j]? =some v):iG xs (j:Int)=some v:=by
 have hj:j<xs.length:=(Ze.mp h).1
 have e:uZ xs.length (j:Int)=some j:=by
  unfold uZ;rw[if_pos (by omega),if_pos (by omega)];simp
 unfold iG;rw[e];exact h
def xU(b:Expr):Prop:=∀o i,subscripted b false o i=operate [o,i] (getItem o i)
def RS(X:Cx)(r:R2):Prop:=
 ∀(value slice:Expr)(pins:List (Addr×Obj))(s:Shared)(σ:St)(H:Hp)(x y:V)(v u:Value)(Q:VK),Inv X pins σ H s->RelV x v->RelV y u->r x y H Q->
  subscripted slice false v u=operate [v,u] (getItem v u)->wpAny (model X.prog X.w) X.A (subscriptTail value slice v u) (EP X pins σ Q) X.xe s
def MtR(X:Cx)(id:String)(r:V->List V->Hp->VK->Prop):Prop:=
 ∀(pins:List (Addr×Obj))(s:Shared)(σ:St)(H:Hp)(x:V)(xs:List V)(v:Value)(us:List Value)(Q:VK),Inv X pins σ H s->RelV x v->Vals xs us->r x xs H Q->
  wpAny (model X.prog X.w) X.A (call (.builtin id) (v::us)) (EP X pins σ Q) X.xe s
section
variable {X:Cx}{a b:Expr}{ta tb:TE}{pos:Pos}
theorem TF{r:R2}(hr:RS X r)(ha:PE X a ta)(hb:PE X b tb)(hs:xU b):PE X (.Subscript a b pos) (RB r ta tb):=by
 intro pins s σ H Q I h;exact Subscript_ (QL ha hb I h λv u s2 x y H2 I2 rx ry q=>hr a b pins s2 σ H2 x y v u Q I2 rx ry q (hs _ _))
noncomputable def YY(K:W.Frag):R2:=λx y H Q=>∃p xs i v,x=.ref p/\y=.int i/\SqL K H p xs/\iG xs i=some v/\Q v H
noncomputable def YW(K:W.Frag):R2:=λx y H Q=>∃p xs i v,x=.ref p/\y=.int i/\SqT K H p xs/\iG xs i=some v/\Q v H
noncomputable def YX:R2:=λx y H Q=>∃z i c,x=.str z/\y=.int i/\z.length<=sizeLine/\iG z.cps.toList i=some c/\Q (.str ⟨#[c]⟩) H
theorem HJ:RS X (YY X.K):=by
 intro value slice pins s σ H x y v u Q I rx ry h hs;obtain⟨p,xs,i,z,rfl,rfl,hq,he,q⟩:=h;cases rx;obtain⟨t,rfl⟩:=ry;obtain⟨its,r,pl,hz⟩:=I.list hq;obtain⟨j,h1,h2,h3,h4,h5⟩:=rF he;obtain⟨w,ew,rw'⟩:=r.get h2;have hl:=r.length;have hn:=iZ;have fin:EP X pins σ Q w s:=⟨z,H,I,rw',q⟩
 by_cases h0:0<=i
 ·have hj:i.toNat=j:=by
   rw[seqIndex_of h0 h5] at h1;exact Zg h1
  exact item_listR pl.isList h0 (by omega) (by rw[hj];simpa using ew) fin hs
 ·have hj:(i+(its.toArray.size:Int)).toNat=j:=by
   rw[seqIndex_neg (by omega) h4] at h1;rw[Zk, <- hl];exact Zg h1
  exact subscriptTail_builtinR (x:=w) pl.isList.typeIs slot_list_getitem.lookup
   (wpAny_getItem_list_neg (Q:=λr s'=>r=w/\EP X pins σ Q r s') pl.isList (by omega) (by rw[Zk]<;>omega) (by omega) (by rw[hj];simpa using ew) ⟨rfl,fin⟩) hs
theorem OC:RS X (YW X.K):=by
 intro value slice pins s σ H x y v u Q I rx ry h hs;obtain⟨p,xs,i,z,rfl,rfl,hq,he,q⟩:=h;cases rx;obtain⟨t,rfl⟩:=ry;obtain⟨its,r,pl,hz⟩:=I.tuple hq;obtain⟨j,h1,h2,h3,h4,h5⟩:=rF he;obtain⟨w,ew,rw'⟩:=r.get h2;have hl:=r.length;have hn:=iZ;have fin:EP X pins σ Q w s:=⟨z,H,I,rw',q⟩
 exact subscriptTail_builtinR (x:=w) pl.typeIs slot_tuple_getitem.lookup
  (getItem_tuple (j:=j) (Q:=λr s'=>r=w/\EP X pins σ Q r s') pl (by omega) (by omega) (by rw[Zk, <- hl];exact h1) (by simpa using ew) ⟨rfl,fin⟩) hs
theorem OE:RS X YX:=by
 intro value slice pins s σ H x y v u Q I rx ry h hs;obtain⟨z,i,c,rfl,rfl,hz,he,q⟩:=h;obtain⟨t,rfl⟩:=rx;obtain⟨t',rfl⟩:=ry;obtain⟨j,h1,h2,h3,h4,h5⟩:=rF he;have hl:z.cps.toList.length=z.length:=by simp[Str.length]
 rw[hl] at h1 h4 h5;have hn:=iZ
 exact tail_any (typeIs_str s z t) slot_str_getitem.lookup (getItem_str (c:=c) (by
  have e1:decide (i< -(2^63:Int))=false:=decide_eq_false (by omega);have e2:decide (i ≥ 2^63)=false:=decide_eq_false (by omega);rw[e1,e2,Bool.or_false]) (by rw[h1];simpa using h2) ⟨.str ⟨#[c]⟩,H,I.tok _,⟨_,rfl⟩,q⟩) hs
theorem uT(its:List Value)(n j:Nat)(u:Value):Obj.mapSeq (·.setIfInBounds j u) {cls:=.type "list",data:=.seq its.toArray n}={cls:=.type "list",data:=.seq (its.set j u).toArray n}:=by
 simp[Obj.mapSeq]
theorem Inv.lst{pins:List (Addr×Obj)}{σ:St}{H:Hp}{s:Shared}{p:Addr}{xs:List V}(I:Inv X pins σ H s)(h:H p=some (.lst xs)):
 ∃(its:List Value)(n:Nat),Vals xs its/\s.heap.get? p=some {cls:=.type "list",data:=.seq its.toArray n}/\xs.length<=sizeLine:=by
 obtain⟨z,its,n,r,e⟩:=I.hok p _ h;exact⟨its,n,r,e,z⟩
theorem Inv.lstUpd{pins:List (Addr×Obj)}{σ:St}{H:Hp}{s:Shared}{p:Addr}{xs ys:List V}{its its':List Value}{n n':Nat}{f:Obj->Obj}(I:Inv X pins σ H s)(h:H p=some (.lst xs))
 (ho:s.heap.get? p=some {cls:=.type "list",data:=.seq its.toArray n})(hf:f {cls:=.type "list",data:=.seq its.toArray n}={cls:=.type "list",data:=.seq its'.toArray n'})(r:Vals ys its')(hz:ys.length<=sizeLine)(t:Nat):
 Inv X pins σ (bS H p (.lst ys)) {s with heap:=s.heap.update p f,toks:=t}:=by
 have e:(s.heap.update p f).get? p=some {cls:=.type "list",data:=.seq its'.toArray n'}:=by
  rw[Heap.get?_update_self f ho (by rw[hf]<;>rfl),hf]
 refine I.write (x:=p) (e:=p) (by rw[h];trivial) (.inl rfl) (λb u hb q=>(Heap.get?_update_other _ _ (Ne.symm hb)).trans q) ⟨_,e⟩ ?_;exact⟨hz,its',n',r,e⟩
noncomputable def SV:V->V->V->Hp->(Hp->Prop)->Prop:=λo i v H Q=>∃p xs k j,o=.ref p/\i=.int k/\H p=some (.lst xs)/\uZ xs.length k=some j/\Q (bS H p (.lst (xs.set j v)))
theorem AU:QW X SV:=by
 intro pins s σ H o i v ov iv u Q I ro ri rv h;obtain⟨p,xs,k,j,rfl,rfl,hp,hj,q⟩:=h;cases ro;obtain⟨t,rfl⟩:=ri;obtain⟨its,n,r,ho,hz⟩:=I.lst hp;obtain⟨h1,h2,h3,h4⟩:=wO hj;have hl:=r.length;have hn:=iZ
 have I':Inv X pins σ (bS H p (.lst (xs.set j v))) {s with heap:=s.heap.update p (Obj.mapSeq (·.setIfInBounds j u))}:=
  I.lstUpd hp ho (uT its n j u) (r.set rv j) (by rw[List.length_set];exact hz) s.toks
 by_cases h0:0<=k
 ·have hk:k.toNat=j:=by
   rw[seqIndex_of h0 h4] at h1;exact Zg h1
  exact W.ki_setAt ho h0 (by omega) (by rw[Zk, <- hl];exact h4) (by rw[hk];exact⟨_,I',q⟩)
 ·have hk:(k+(its.toArray.size:Int)).toNat=j:=by
   rw[seqIndex_neg (by omega) h3] at h1;rw[Zk, <- hl];exact Zg h1
  exact W.ki_setBack ho (by omega) (by rw[Zk, <- hl];exact h3) (by omega) (by rw[hk];exact⟨_,I',q⟩)
theorem qG(lo hi:Option Int)(n:Nat):(sliceBounds lo hi none n).1=((HT.sIx n 0 lo:Nat):Int)/\(sliceBounds lo hi none n).2.1=((HT.sIx n n hi:Nat):Int)/\(sliceBounds lo hi none n).2.2=1:=by
 refine⟨?_,?_,rfl⟩
 ·cases lo with
  |none=>simp[sliceBounds,HT.sIx]
  |some i=>
   simp only[sliceBounds,HT.sIx,Option.getD_none,show(1:Int)>0 by decide,if_true]
   by_cases h:i<0
   ·simp only[h,if_true]<;>omega
   ·simp only[h,if_false]<;>omega
 ·cases hi with
  |none=>simp[sliceBounds,HT.sIx]
  |some i=>
   simp only[sliceBounds,HT.sIx,Option.getD_none,show(1:Int)>0 by decide,if_true]
   by_cases h:i<0
   ·simp only[h,if_true]<;>omega
   ·simp only[h,if_false]<;>omega
theorem oM(its:List Value)(lo hi:Option Int):slicePick its.toArray lo hi none=((its.drop (HT.sIx its.length 0 lo)).take (HT.sIx its.length its.length hi-HT.sIx its.length 0 lo)).toArray:=by
 obtain⟨h1,h2,h3⟩:=qG lo hi its.toArray.size;unfold slicePick;rw[h1,h2,h3];simp only[sliceRange_one,pick_run,Zk]<;>rfl
noncomputable def YV(K:W.Frag):V->Option Int->Option Int->Hp->VK->Prop:=λx lo hi H Q=>∃a xs,x=.ref a/\SqL K H a xs/\∀p,H p=none->Q (.ref p) (bS H p (.lst (oS xs lo hi)))
theorem wB:K8 X (YV X.K):=by
 intro pins s σ H x v vl vu lo hi sl Q I rx hs pl pu h;obtain⟨a,xs,rfl,hx,q⟩:=h;cases rx;obtain⟨its,r,ht,hz⟩:=I.list hx;have hlen:=r.length;refine⟨"list",_,slot_list_getitem.lookup,ht.isList.typeIs,?_⟩;refine wpAny_getItem_list_slice ht.isList hs pl pu .none (by simp) ?_ (by rw[Zk]<;>omega);rw[oM, <- hlen];refine⟨.ref s.heap.objs.size,_,I.laid (t':=s.toks) (o:=.lst (oS xs lo hi)) (λb ob q=>Zf _ q) (Zn _) ?_,rfl,q _ (I.hok.fresh (Zn _))⟩;exact⟨Nat.le_trans (lQ xs lo hi) hz,_,0,(r.drop (HT.sIx xs.length 0 lo)).take (HT.sIx xs.length xs.length hi-HT.sIx xs.length 0 lo),Heap.get?_push_size _ rfl⟩
noncomputable def iO:V->Bool
 |.non=>true
 |.bl _=>true
 |.int _=>true
 |.str _=>true
 |_=>false
noncomputable def DI:V->V->Bool
 |.non,.non=>true
 |.bl a,.bl b=>a==b
 |.bl a,.int b=>(if a then 1 else 0)==b
 |.int a,.bl b=>a==(if b then 1 else 0)
 |.int a,.int b=>a==b
 |.str a,.str b=>a==b
 |_,_=>false
theorem vJ{A:Around}{s:Shared}{y x:V}{u v:Value}(ry:RelV y u)(rx:RelV x v)(fy:iO y=true)(fx:iO x=true):SeqAt.EqAt A s u v (DI y x):=by
 cases y with
 |non=>
  cases ry;cases x with
  |non=>cases rx;exact SeqAt.EqAt.same _
  |bl b=>cases rx;exact SeqAt.EqAt.none_bool b
  |int b=>obtain⟨t,rfl⟩:=rx;exact SeqAt.EqAt.none_int b t
  |str b=>obtain⟨t,rfl⟩:=rx;exact SeqAt.EqAt.none_str b t
  |_=>exact absurd (show false=true from fx) Bool.false_ne_true
 |bl a=>
  cases ry;cases x with
  |non=>cases rx;exact SeqAt.EqAt.bool_none a
  |bl b=>cases rx;exact SeqAt.EqAt.bool_bool a b
  |int b=>obtain⟨t,rfl⟩:=rx;exact SeqAt.EqAt.bool_int a b t
  |str b=>obtain⟨t,rfl⟩:=rx;exact SeqAt.EqAt.bool_str a b t
  |_=>exact absurd (show false=true from fx) Bool.false_ne_true
 |int a=>
  obtain⟨t',rfl⟩:=ry;cases x with
  |non=>cases rx;exact SeqAt.EqAt.int_none a t'
  |bl b=>cases rx;exact SeqAt.EqAt.int_bool a t' b
  |int b=>obtain⟨t,rfl⟩:=rx;exact SeqAt.EqAt.int_int a t' b t
  |str b=>obtain⟨t,rfl⟩:=rx;exact SeqAt.EqAt.int_str a t' b t
  |_=>exact absurd (show false=true from fx) Bool.false_ne_true
 |str a=>
  obtain⟨t',rfl⟩:=ry;cases x with
  |non=>cases rx;exact SeqAt.EqAt.str_none a t'
  |bl b=>cases rx;exact SeqAt.EqAt.str_bool a t' b
  |int b=>obtain⟨t,rfl⟩:=rx;exact SeqAt.EqAt.str_int a t' b t
  |str b=>obtain⟨t,rfl⟩:=rx;exact SeqAt.EqAt.str_str a t' b t
  |_=>exact absurd (show false=true from fx) Bool.false_ne_true
 |_=>exact absurd (show false=true from fy) Bool.false_ne_true
noncomputable def vI(x:V)(u:Value):Bool:=match u with
 |.none=>DI .non x
 |.bool b=>DI (.bl b) x
 |.int i _=>DI (.int i) x
 |.str z _=>DI (.str z) x
 |_=>false
theorem DJ{x y:V}{u:Value}(r:RelV y u)(f:iO y=true):vI x u=DI y x:=by
 cases y with
 |non=>cases r;rfl
 |bl b=>cases r;rfl
 |int i=>obtain⟨t,rfl⟩:=r;rfl
 |str z=>obtain⟨t,rfl⟩:=r;rfl
 |_=>exact absurd (show false=true from f) Bool.false_ne_true
theorem kI{x:V}:∀{xs:List V}{us:List Value},Vals xs us->xs.all iO=true->us.any (vI x)=xs.any λy=>DI y x
 |_,_,.nil,_=>rfl
 |y::xs,u::us,.cons r t,f=>by
  rw[List.all_cons,Bool.and_eq_true] at f;rw[List.any_cons,List.any_cons,DJ r f.1,kI t f.2]
theorem gR{A:Around}{s:Shared}{x:V}{v:Value}(rx:RelV x v)(fx:iO x=true):∀{xs:List V}{us:List Value},Vals xs us->xs.all iO=true->∀u∈us,SeqAt.EqAt A s u v (vI x u)
 |_,_,.nil,_=>λu hu=>by cases hu
 |y::xs,u::us,.cons r t,f=>λu' hu=>by
  rw[List.all_cons,Bool.and_eq_true] at f;rcases List.mem_cons.mp hu with rfl|hu
  ·rw[DJ r f.1];exact vJ r rx f.1 fx
  ·exact gR rx fx t f.2 u' hu
noncomputable def KJ(x:V)(xs:List V):Bool:=xs.any λy=>DI y x
noncomputable def rIn(K:W.Frag)(neg:Bool):R2:=λx y H Q=>∃p xs,y=.ref p/\(SqL K H p xs\/SqT K H p xs)/\iO x=true/\xs.all iO=true/\Q (.bl (if neg then !KJ x xs else KJ x xs)) H
theorem yK:jN X (compareOp .In) (rIn X.K false):=by
 intro pins s σ H x y v u Q I rx ry h;obtain⟨p,xs,rfl,hq,fx,fs,q⟩:=h;cases ry;rcases hq with hq|hq
 ·obtain⟨its,r,pl,hz⟩:=I.list hq;refine SeqAt.in_listAt (vI x) pl.isList (λw hw=>gR rx fx r fs w (by simpa using hw)) ⟨.bl _,H,I,rfl,?_⟩;rw[show its.toArray.any (vI x)=its.any (vI x) by simp,kI r fs];exact q
 ·obtain⟨its,r,pl,hz⟩:=I.tuple hq;refine SeqAt.in_tupleAt (vI x) pl (λw hw=>gR rx fx r fs w (by simpa using hw)) ⟨.bl _,H,I,rfl,?_⟩;rw[show its.toArray.any (vI x)=its.any (vI x) by simp,kI r fs];exact q
theorem qN:jN X (compareOp .NotIn) (rIn X.K true):=by
 intro pins s σ H x y v u Q I rx ry h;obtain⟨p,xs,rfl,hq,fx,fs,q⟩:=h;cases ry;rcases hq with hq|hq
 ·obtain⟨its,r,pl,hz⟩:=I.list hq;refine SeqAt.notIn_listAt (vI x) pl.isList (λw hw=>gR rx fx r fs w (by simpa using hw)) ⟨.bl _,H,I,rfl,?_⟩;rw[show its.toArray.any (vI x)=its.any (vI x) by simp,kI r fs];exact q
 ·obtain⟨its,r,pl,hz⟩:=I.tuple hq;refine SeqAt.notIn_tupleAt (vI x) pl (λw hw=>gR rx fx r fs w (by simpa using hw)) ⟨.bl _,H,I,rfl,?_⟩;rw[show its.toArray.any (vI x)=its.any (vI x) by simp,kI r fs];exact q
theorem rC:fK X (.builtin "len") (λxs H Q=>∃p ys,xs=[.ref p]/\(SqL X.K H p ys\/SqT X.K H p ys)/\Q (.int ys.length) H):=by
 intro pins s σ H xs us Q I r h;obtain⟨p,ys,rfl,hq,q⟩:=h;obtain⟨u,rfl,rx⟩:=fP r;cases rx;have hn:=iZ;rcases hq with hq|hq
 ·obtain⟨its,r',pl,hz⟩:=I.list hq;have hlen:=r'.length;exact Calls.call_len_list pl.isList (by simp only[Zk]<;>omega) ⟨.int ys.length,H,I.tok _,⟨s.toks+1,by rw[Zk,hlen]⟩,q⟩
 ·obtain⟨its,r',pl,hz⟩:=I.tuple hq;have hlen:=r'.length;exact len_tuple pl (by simp only[Zk]<;>omega) ⟨.int ys.length,H,I.tok _,⟨s.toks+1,by rw[Zk,hlen]⟩,q⟩
theorem rB:fK X (.builtin "len") (λxs H Q=>∃z,xs=[.str z]/\z.length<=sizeLine/\Q (.int z.length) H):=by
 intro pins s σ H xs us Q I r h;obtain⟨z,rfl,hz,q⟩:=h;obtain⟨u,rfl,t,rfl⟩:=fP r;have hn:=iZ;exact len_str (by omega) ⟨.int z.length,H,I.tok _,⟨_,rfl⟩,q⟩
theorem rA:fK X (.type "list") (λxs H Q=>∃p ys,xs=[.ref p]/\(SqL X.K H p ys\/SqT X.K H p ys)/\∀l,H l=none->Q (.ref l) (bS H l (.lst ys))):=by
 intro pins s σ H xs us Q I r h;obtain⟨p,ys,rfl,hq,q⟩:=h;obtain⟨u,rfl,rx⟩:=fP r;cases rx
 have fin:∀(its:List Value),Vals ys its->ys.length<=sizeLine->∀(h':Heap)(c':Nat),(∀b o',s.heap.get? b=some o'->h'.get? b=some o')->
  h'.get? s.heap.objs.size=some {cls:=.type "list",dict:=none,data:=.seq its.toArray c',slots:= #[]}->EP X pins σ Q (.ref s.heap.objs.size) {s with heap:=h'}:=λits r' hz h' c' kp e=>
  ⟨.ref s.heap.objs.size,_,I.laid (t':=s.toks) kp (Zn _) (show ObjOk X.prog X.w _ h' _ (.lst ys) from⟨hz,its,c',r',e⟩),rfl,q _ (I.hok.fresh (Zn _))⟩
 rcases hq with hq|hq
 ·obtain⟨its,r',pl,hz⟩:=I.list hq;have hlen:=r'.length;obtain⟨o,ho,hc,n,hd⟩:=pl.isList;exact call_list_seq p (.inl rfl) ho hc hd (λh' c' kp e=>fin its r' hz h' c' kp e) (by simp only[Zk]<;>omega)
 ·obtain⟨its,r',pl,hz⟩:=I.tuple hq;have hlen:=r'.length;obtain⟨o,ho,hc,n,hd⟩:=pl;exact call_list_seq p (.inr rfl) ho hc hd (λh' c' kp e=>fin its r' hz h' c' kp e) (by simp only[Zk]<;>omega)
theorem oT:fK X (.type "tuple") (λxs H Q=>∃p ys,xs=[.ref p]/\((SqL X.K H p ys/\∀l,H l=none->Q (.ref l) (bS H l (.tup ys)))\/(SqT X.K H p ys/\Q (.ref p) H))):=by
 intro pins s σ H xs us Q I r h;obtain⟨p,ys,rfl,h⟩:=h;obtain⟨u,rfl,rx⟩:=fP r;cases rx;rcases h with ⟨hq,q⟩|⟨hq,q⟩
 ·obtain⟨its,r',pl,hz⟩:=I.list hq;have hlen:=r'.length;refine call_tuple_list pl.isList (λh' kp=>?_) (by simp only[Zk]<;>omega);have I1:Inv X pins σ H {s with heap:=h'}:=I.kept (t':=s.toks) kp
  have I2:Inv X pins σ (bS H h'.objs.size (.tup ys)) {s with heap:=h'.push {cls:=.type "tuple",data:=.seq its.toArray}}:=
   I1.laid (t':=s.toks) (λb o e=>Zf _ e) (Zn _) (show ObjOk X.prog X.w _ _ _ (.tup ys) from⟨hz,its,r',IsTup.new _ _⟩)
  exact⟨.ref h'.objs.size,_,I2,rfl,q _ (I1.hok.fresh (Zn _))⟩
 ·obtain⟨its,r',pl,hz⟩:=I.tuple hq;exact call_tuple_same pl ⟨.ref p,H,I,rfl,q⟩
def tyV(K:W.Frag)(T:String)(x:V)(H:Hp):Prop:=match x with
 |.str _=>T="str"
 |.int _=>T="int"
 |.ref p=>(T="list"/\∃xs,SqL K H p xs)\/(T="tuple"/\∃o,K.lookup p=some o/\o.cls=.type "tuple"/\o.dict=none)\/
   (T="dict"/\((∃kvs,H p=some (.dK kvs))\/∃kvs,H p=some (.dT kvs)))\/(T="set"/\∃S n,H p=some (.set S n))
 |_=>False
theorem LU{pins:List (Addr×Obj)}{σ:St}{H:Hp}{s:Shared}{T:String}{x:V}{v:Value}(I:Inv X pins σ H s)(r:RelV x v)(ty:tyV X.K T x H):
 s.TypeIs v T/\∀a,v=.ref a->∃ob,s.heap.get? a=some ob/\ob.dict=none:=by
 cases x with
 |str z=>
  obtain⟨t,rfl⟩:=r
  cases(show T="str" from ty)
  exact⟨typeIs_str s z t,λ_ e=>nomatch e⟩
 |int i=>
  obtain⟨t,rfl⟩:=r
  cases(show T="int" from ty)
  exact⟨typeIs_int s i t,λ_ e=>nomatch e⟩
 |ref p=>
  cases r;rcases ty with ⟨rfl,xs,hq⟩|⟨rfl,o,hk,hc,hd⟩|⟨rfl,hk⟩|⟨rfl,S,n,hk⟩
  ·obtain⟨its,_,pl,_⟩:=I.list hq;refine⟨pl.isList.typeIs,λa e=>?_⟩;cases e;obtain⟨o,n,e,c,hd,_⟩:=pl;exact⟨o,e,hd⟩
  ·refine⟨⟨o,I.kIn p o hk,hc⟩,λa e=>?_⟩;cases e;exact⟨o,I.kIn _ o hk,hd⟩
  ·have z:∃o,s.heap.get? p=some o/\o.ExactDict:=by
    rcases hk with ⟨kvs,hk⟩|⟨kvs,hk⟩
    ·obtain⟨_,_,_,_,o,_,_,e,ex,_⟩:=I.hok p _ hk;exact⟨o,e,ex⟩
    ·obtain⟨_,_,_,_,o,_,_,e,ex,_⟩:=I.hok p _ hk;exact⟨o,e,ex⟩
   obtain⟨o,e,ex⟩:=z;refine⟨⟨o,e,ex.1⟩,λa e2=>?_⟩;cases e2;exact⟨o,e,ex.2.1⟩
  ·obtain⟨o,_,_,_,e,ex,_⟩:=I.hok p _ hk;refine⟨⟨o,e,ex.1⟩,λa e2=>?_⟩;cases e2;exact⟨o,e,ex.2.1⟩
 |_=>exact False.elim ty
def tBM(K:W.Frag)(T:String)(r:V->List V->Hp->VK->Prop)(to:TE)(t:TA):TE:=λσ H Q=>to σ H λx H1=>tyV K T x H1/\t σ H1 λxs H2=>r x xs H2 Q
variable {o e:Expr}{es:List Expr}{to:TE}{t:TA}{name:Str}{apos cpos:Pos}{T id:String}{r:V->List V->Hp->VK->Prop}
theorem KB(pa:PlainAttrs T)(slot:Slot T name id)(hty:typeOf (.builtin id)=pure (.type "method_descriptor"))(hm:MtR X id r)(ho:PE X o to)(ha:PA X (e::es) t)
 (hbase:attributeBase o name X.env (eval o X.env)=eval o X.env:=by rfl)
 (hfew:((backTo cpos (starEach (e::es) X.env)).all (λx=> !x.1)&&(backToKw cpos (keywordEach [] X.env)).all (λx=>x.1.isSome)
   &&decide ((e::es).length+([]:List Keyword).length+(if([]:List Keyword).isEmpty then 0 else 1)<30))=true:=by rfl)
 (hline:(apos.endLine==cpos.line)=true:=by rfl)(hs:starEach (e::es) X.env=(false,eval e X.env)::starEach es X.env:=by rfl)(hplain:(backTo cpos (starEach es X.env)).any (·.1)=false:=by rfl):
 PE X (.Call (.Attribute o name apos) (e::es) [] cpos) (tBM X.K T r to t):=by
 intro pins s σ H Q I h;refine wpAny_Call_method_late hbase hfew hline rfl (bP (ho pins s σ H _ I h) λv s1 ⟨x,H1,I1,r1,ty,q1⟩=>?_);obtain⟨h1,h2⟩:=LU I1 r1 ty;refine⟨T,id,pa,slot,hty,h1,h2,?_⟩;have hA:=ha cpos pins s1 σ H1 _ I1 q1;rw[hs] at hA⊢;refine Calls.callWith_builtin (by show(false||(backTo cpos (starEach es X.env)).any (·.1))=false;rw[hplain]<;>rfl) (Calls.evalArgs_plain ?_);exact bP hA λus s2 ⟨vs,H2,I2,r2,q2⟩=>hm pins s2 σ H2 x vs v us Q I2 r1 r2 q2
end
end L2
namespace L2
open PySem PySem.Spec PyProof.Rows
def MtM(X:Cx)(id:String)(r:V->List V->Hp->VK->Prop):Prop:=
 ∀(pins:List (Addr×Obj))(s:Shared)(σ:St)(H:Hp)(x:V)(xs:List V)(v:Value)(us:List Value)(Q:VK),Inv X pins σ H s->RelV x v->Vals xs us->r x xs H Q->
  wpAny (model X.prog X.w) X.A (call (.builtin id) (v::us)) (EP X pins σ Q) X.xe s
theorem Vals.one:∀{x:V}{us:List Value},Vals [x] us->∃u,us=[u]/\RelV x u
 |_,_,.cons r .nil=>⟨_,rfl,r⟩
section
variable {X:Cx}{pins:List (Addr×Obj)}{σ:St}{H:Hp}{s:Shared}{l b:Addr}{xs ys zs:List V}
theorem Inv.lset{its its':List Value}{n:Nat}{f:Array Value->Array Value}{t':Nat}(I:Inv X pins σ H s)(hH:H l=some (.lst xs))
 (e:s.heap.get? l=some {cls:=.type "list",data:=.seq its.toArray n})(hf:f its.toArray=its'.toArray)(hv:Vals ys its')(hz:ys.length<=sizeLine):
 Inv X pins σ (bS H l (.lst ys)) {s with heap:=s.heap.update l (Obj.mapSeq f),toks:=t'}:=by
 have q:=PySem.IsL.update e f;rw[hf] at q;refine I.write (x:=l) (e:=l) (by rw[hH];exact trivial) (.inl rfl) (λb' u hb hu=>(Heap.get?_update_other s.heap (Obj.mapSeq f) (Ne.symm hb)).trans hu) ⟨_,q⟩ ?_;exact⟨hz,its',_,hv,q⟩
theorem Inv.lnew{its:List Value}{t':Nat}(I:Inv X pins σ H s)(hv:Vals ys its)(hz:ys.length<=sizeLine):
 Inv X pins σ (bS H s.heap.objs.size (.lst ys)) {s with heap:=s.heap.push {cls:=.type "list",data:=.seq its.toArray},toks:=t'}:=
 I.laid (λ_ _ q=>Zf _ q) (Zn _) ⟨hz,its,0,hv,Heap.get?_push_size _ rfl⟩
theorem Inv.fresh(I:Inv X pins σ H s):H s.heap.objs.size=none:=I.hok.fresh (Zn _)
theorem Inv.lstM(I:Inv X pins σ H s)(hH:H l=some (.lst xs)):xs.length<=sizeLine/\∃(its:List Value)(n:Nat),Vals xs its/\xs.length=its.length/\s.heap.get? l=some {cls:=.type "list",data:=.seq its.toArray n}:=by
 obtain⟨z,its,n,r,e⟩:=I.hok l _ hH;exact⟨z,its,n,r,r.length,e⟩
end
section
variable {X:Cx}
noncomputable def FW:V->List V->Hp->VK->Prop:=λx vs H Q=>∃l xs y,x=.ref l/\vs=[y]/\H l=some (.lst xs)/\xs.length<sizeLine/\Q .non (bS H l (.lst (xs++ [y])))
theorem kR:MtM X "list.append" FW:=by
 intro pins s σ H x vs v us Q I rx rv h;obtain⟨l,xs,y,rfl,rfl,hH,hz,q⟩:=h;cases rx;obtain⟨u,rfl,ru⟩:=rv.one;obtain⟨z,its,n,r,hl,e⟩:=I.lstM hH;refine call_meets F.slot_list_append ⟨_,e,rfl⟩ F.entry_list_append (F.args_list_append_2 _ _) (PySem.list_append l its.toArray n u (by rw[Zk];omega)) ⟨e,?_⟩;refine⟨.non,_,I.lset (its':=its++ [u]) hH e (by simp) (r.append (.cons ru .nil)) ?_,rfl,q⟩;rw[List.length_append,List.length_singleton];omega
noncomputable def YZ:R2:=λx y H Q=>∃l b xs zs,x=.ref l/\y=.ref b/\H l=some (.lst xs)/\H b=some (.lst zs)/\xs.length+zs.length<=sizeLine/\∀p,H p=none->Q (.ref p) (bS H p (.lst (xs++zs)))
theorem NI:jN X (binaryOp .Add) YZ:=by
 intro pins s σ H x y v u Q I rx ry h;obtain⟨l,b,xs,zs,rfl,rfl,hH,hB,hz,q⟩:=h;cases rx;cases ry;obtain⟨z,its,n,r,hl,e⟩:=I.lstM hH;obtain⟨z2,its2,n2,r2,hl2,e2⟩:=I.lstM hB;refine PySem.P.add_list e e2 ?_ (by rw[Zk,Zk];omega);have ea:its.toArray++its2.toArray=(its++its2).toArray:=by simp
 rw[ea];exact⟨.ref _,_,I.lnew (t':=s.toks) (r.append r2) (by rw[List.length_append];omega),rfl,q _ I.fresh⟩
end
section
variable {prog:Program}{w:World}{A:Around}{E:Value->Shared->Prop}{s:Shared}
end
section
variable {X:Cx}
end
end L2
namespace Att
open PySem PySem.W PySem.Calls PyProof.Rows
theorem lU{P:Params}{h:Heap}:∀(ns:List Int)(vs:List Value),WellAll P h vs (ns.map WData.int)->IntsAre vs ns:=by
 intro ns
 induction ns with
 |nil=>
  intro vs w;rw[List.map_nil] at w;cases w;exact .nil
 |cons n ns ih=>
  intro vs w;rw[Zh] at w;cases w with
  |cons a b=>
   cases a;exact .cons _ _ (ih _ b)
theorem yC{l:OpenLaw}{n:Nat}(hn:l.most=some n){P:Params}{h:Heap}{args:List WData}{vals:List Value}
 (hpre:l.row.toRowW.claim.pre args=true)(hwl:WellAll P h vals args):
 ∃a vs ns,vals=[Value.ref a]/\args=[WData.list (ns.map WData.int)]/\h.get? a=some {cls:=.type "list",data:=.seq vs.toArray}/\IntsAre vs ns/\ns.length<=n:=by
 have hsh:WShape.hasAll [] args [.list .int]=true:=(pre_splitW hpre).1;have hc:l.pre.holds [] {args:=args}=true:=(pre_splitW hpre).2;obtain⟨d,r,rfl,h1,h2⟩:=hasAllW_cons hsh;obtain rfl:=hasAllW_nil h2;obtain⟨xs,rfl,h3⟩:=hasW_list h1;obtain⟨ns,rfl⟩:=items_int h3
 have hlen:ns.length<=n:=by
  unfold OpenLaw.pre at hc
  have h4:(WTm.not (.lt (.lit (.int (n:Int))) (.len (.arg 0)))).holds [] {args:= [.list (ns.map .int)]}=true:=by
   have h4:=(holds_andW hc).1;rw[hn] at h4;exact h4
  have h5:=condW_of h4 (w_not (w_lt w_lit (w_len_list (w_arg rfl))));rw[Zc] at h5;refine Nat.le_of_not_lt λq=>?_;have q':(n:Int)<((ns.length:Nat):Int):=by omega
  first
   |(rw[decide_eq_true q'] at h5;exact absurd h5 (by decide))
   |(simp at h5;omega)
 cases hwl with
 |cons w1 w2=>
  cases w2;cases w1 with
  |list ho hall=>exact⟨_,_,ns,rfl,rfl,ho,lU ns _ hall,hlen⟩
theorem yH(l:OpenLaw)(args:List WData):l.row.toRowW.claim.post args (.bool true) args=true:=
 postW_of (r:=l.row.toRowW) (X:=(true==true))
  (show WShape.has [] (.bool true) .bool=true by first |rfl|decide|simp[WShape.has,WShape.arms,WShape.armsAll])
  (show(WTm.eq .res (.lit (.bool true))).value [] {args:=args,res:=some (.bool true),after:=args}=some (.bool (true==true)) from w_eq_bool (w_res rfl) w_lit) rfl
theorem attach_call{l:OpenLaw}{n:Nat}{q:Program}{loose:List Str}{XP:(Str->Option Value)->Heap->Prop}{YP:World->Heap->Prop}{d:DefRec}
 (hn:l.most=some n)(hdf:d.params.defaults=[])
 (call:∀(w:World)(s₀ s₁:Shared)(mg mb:Str->Option Value)(fa:Addr)(o:Obj)(pm cd doc:Value)(a:Addr)(vs:List Value)(ns:List Int),
   Ground q loose [] XP w s₀ mg mb s₁.heap->YP w s₁.heap->
   s₁.heap.get? fa=some o->o.data=.func (docDef d.name d.params d.body d.scope pm cd doc)->s₁.heap.CodeRec cd d.name->mg d.name=some (.ref fa)->
   s₁.heap.get? a=some {cls:=.type "list",data:=.seq vs.toArray}->IntsAre vs ns->ns.length<=n->s₁.gens= #[]->
   codeAny (model l.prog w) callerA (.call (.ref fa) ⟨[.ref a],[]⟩) (λr s'=>r=.ok (.ret (.bool true))/\OldK s₁.heap s'.heap/\s'.os=s₁.os/\AllBare s'.gens) s₁):
 WalkO q loose XP YP l.row.toRowW d [] (λf vs=>PySem.call f vs):=by
 intro w s₀ s₁ mg mb G Y fa o pm cd doc dV kV ho hd hcd hD hmg hg args vals as hpre hlay hrd hwl hlo;obtain rfl:dV=.none:=Dflts.none hD hdf;obtain rfl:kV=.none:=Dflts.noKw hD;obtain⟨a,vs,ns,rfl,rfl,hobj,hints,hlen⟩:=yC hn hpre hwl;refine enter_call (codeAny_mono (call w s₀ s₁ mg mb fa o pm cd doc a vs ns G Y ho (fd_plain hd) hcd hmg hobj hints hlen hg) λr s' hq=>?_);obtain⟨rfl,h2,h3,h4⟩:=hq;exact⟨.inl ⟨.bool true,.bool true,[],rfl,λ_=>rfl,.bool true,yH l _,λ_=>⟨List.Pairwise.nil,λ_ hm=>(nomatch hm)⟩⟩,h2,h3,h4⟩
section
variable {prog:Program}{w:World}{A:Around}{E:Value->Shared->Prop}{s:Shared}{K:Frag}
end
end Att
namespace L2
open PySem PySem.Spec PyProof.Rows
theorem oW:∀{vs:List Value}{ns:List Int},IntsAre vs ns->Vals (ns.map V.int) vs
 |_,_,.nil=>.nil
 |_,_,.cons n t h=>.cons ⟨t,rfl⟩ (oW h)
end L2
namespace L2
open PySem PySem.Spec PyProof.Rows
end L2
namespace L2
open PySem PySem.Spec PyProof.Rows
noncomputable def HP(s:Stmt)(j:Nat):Stmt:=match s with
 |.ClassDef _ _ _ body _ _ _ _ _ _ _=>body.getD j (.Pass ⟨0,0,0,0⟩)
 |_=>.Pass ⟨0,0,0,0⟩
noncomputable def dA(s:Stmt):Arguments:=match s with
 |.FunctionDef _ a _ _ _ _ _ _ _ _=>a
 |_=>{posonlyargs:= [],args:= [],vararg:=none,kwonlyargs:= [],kw_defaults:= [],kwarg:=none,defaults:= []}
noncomputable def aN(s:Stmt):List Stmt:=match s with
 |.FunctionDef _ _ b _ _ _ _ _ _ _=>b
 |_=>[]
noncomputable def aG(s:Stmt):Scope:=match s with
 |.FunctionDef _ _ _ _ _ _ sc _ _ _=>sc
 |_=>{kind:=.function,names:= [],isGenerator:=false,isCoroutine:=false}
abbrev CX0:AA:=λ_ _ _ _ _ _=>False
abbrev E0:XK:=λ_ _ _=>False
structure Fun (K:W.Frag)(x qual:Str)(st:Stmt)(f:Addr)(fd:FuncData):Prop where
 ex:∃(oc:Value)(od:Option Addr)(kV doc pm:Value)(an:Option Addr)(cdv ct:Value)(osl:Array (Option Value)),
  fd=W.fnOf x qual (dA st) (aN st) (aG st) .none kV doc pm an cdv ct/\K.lookup f=some ⟨oc,od,.func fd,osl⟩/\W.codeIn K cdv qual=true
 kp:W.keepIn K (.ref f)=true
section
variable {P:Program}{w:World}{K:W.Frag}{mg:Str->Option Value}{base:Heap}
theorem Fun.binds{x qual:Str}{st:Stmt}{f:Addr}{fd:FuncData}{ps:List Str}(F:Fun K x qual st f fd)
 (h:∀(kV doc pm:Value)(an:Option Addr)(cdv ct:Value)(us:List Value),us.length=ps.length->bindArgs (W.fnOf x qual (dA st) (aN st) (aG st) .none kV doc pm an cdv ct) ⟨us,[]⟩=pure (ps.zip us)):Binds K fd ps []:=by
 obtain⟨oc,od,kV,doc,pm,an,cdv,ct,osl,rfl,lk,hcd⟩:=F.ex;exact .all (h kV doc pm an cdv ct)
theorem jC{x qual:Str}{st:Stmt}{f:Addr}{oc:Value}{od an:Option Addr}{osl:Array (Option Value)}{kV doc pm cdv ct:Value}(l:K.lookup f=some ⟨oc,od,.func (W.fnOf x qual (dA st) (aN st) (aG st) .none kV doc pm an cdv ct),osl⟩)
 (c:W.codeIn K cdv qual=true)(k:W.keepIn K (.ref f)=true):Fun K x qual st f (W.fnOf x qual (dA st) (aN st) (aG st) .none kV doc pm an cdv ct):=⟨⟨oc,od,kV,doc,pm,an,cdv,ct,osl,rfl,l,c⟩,k⟩
end
theorem pC{n:Nat}(h:n<=1000):n<sizeLine:=Nat.lt_of_le_of_lt h (by decide)
section
variable {X:Cx}
theorem pv(i:Nat){x:Str}{pos:Pos}(hN:X.N[i]? =some x:=by rfl)(hv:XJ X.env.scope x:=by first |exact Or.inl rfl|exact Or.inr (Or.inl rfl)|exact Or.inr (Or.inr rfl))(hd:(x==("__debug__":Str))=false:=by decide)
 (hcd:(x==("__classdict__":Str))=false:=by decide):PE X (.Name x pos) (SC i):=MP hN hv hd hcd
end
theorem vB{A B:Prop}(h:B):if false=true then A else B:=by
 rw[if_neg Bool.false_ne_true];exact h
theorem vA{A B:Prop}(h:A):if true=true then A else B:=by
 rw[if_pos rfl];exact h
def Same(H H':Hp):Prop:=∀b o,H b=some o->H' b=some o
end L2
section
namespace L2
open PySem PySem.Spec PyProof.Rows
section
variable {κ:Type} [DecidableEq κ]
noncomputable def iI(kvs:List (κ×V))(k:κ):Option V:=(kvs.find? λkv=>decide (kv.1=k)).map (·.2)
noncomputable def gQ(kvs:List (κ×V))(k:κ)(v:V):List (κ×V):=
 if(kvs.any λkv=>decide (kv.1=k))=true then kvs.map (λkv=>if kv.1=k then(kv.1,v) else kv) else kvs++ [(k,v)]
noncomputable def dropK(kvs:List (κ×V))(k:κ):List (κ×V):=kvs.filter λkv=>decide (kv.1≠k)
theorem mI{p:κ×V}{r:List (κ×V)}{k:κ}(e:p.1=k):iI (p::r) k=some p.2:=by simp[iI,List.find?_cons,e]
theorem mJ{p:κ×V}{r:List (κ×V)}{k:κ}(e:¬p.1=k):iI (p::r) k=iI r k:=by simp[iI,List.find?_cons,e]
theorem rM(k:κ):∀kvs:List (κ×V),(kvs.any λkv=>decide (kv.1=k))=(iI kvs k).isSome
 | []=>rfl
 |p::r=>by
  rw[List.any_cons]
  by_cases e:p.1=k
  ·simp only[mI e,decide_eq_true e,Bool.true_or,Option.isSome_some]
  ·rw[mJ e,decide_eq_false e,Bool.false_or];exact rM k r
theorem lK(kvs:List (κ×V))(k:κ)(v:V):(gQ kvs k v).length<=kvs.length+1:=by
 unfold gQ;split
 ·rw[Zc];omega
 ·rw[List.length_append,List.length_cons,List.length_nil];omega
theorem RelO.isSome_eq{o:Option V}{u:Option Value}(r:RelO o u):o.isSome=u.isSome:=by
 cases o with
 |none=>cases u with
  |none=>rfl
  |some _=>exact(show False from r).elim
 |some _=>cases u with
  |none=>exact(show False from r).elim
  |some _=>rfl
theorem KV.val{kvs:List (κ×V)}{vs:List (κ×Value)}(r:KV kvs vs)(k:κ):RelO (iI kvs k) (valueAt vs k):=by
 unfold KV at r
 induction r with
 |nil=>exact True.intro
 | @cons p q ps qs h t ih=>
   obtain⟨h1,h2⟩:=h
   by_cases e:p.1=k
   ·have e':q.1=k:=h1.symm.trans e;have b:valueAt (q::qs) k=some q.2:=by simp[valueAt,List.find?_cons,e']
    rw[mI e,b];exact h2
   ·have e':¬q.1=k:=λz=>e (h1.trans z);have b:valueAt (q::qs) k=valueAt qs k:=by simp[valueAt,List.find?_cons,e']
    rw[mJ e,b];exact ih
theorem KV.any{kvs:List (κ×V)}{vs:List (κ×Value)}(r:KV kvs vs)(k:κ):(kvs.any λkv=>decide (kv.1=k))=vs.any λkv=>decide (kv.1=k):=by
 unfold KV at r
 induction r with
 |nil=>rfl
 |cons h t ih=>rw[List.any_cons,List.any_cons,ih,h.1]
theorem KV.repl{kvs:List (κ×V)}{vs:List (κ×Value)}(r:KV kvs vs)(k:κ){y:V}{u:Value}(ry:RelV y u):
 KV (kvs.map λkv=>if kv.1=k then(kv.1,y) else kv) (vs.map λkv=>if kv.1=k then(kv.1,u) else kv):=by
 unfold KV at r⊢
 induction r with
 |nil=>exact .nil
 | @cons p q ps qs h t ih=>
   rw[Zh,Zh];refine .cons ?_ ih;obtain⟨h1,h2⟩:=h
   by_cases e:p.1=k
   ·rw[if_pos e,if_pos (h1.symm.trans e)];exact⟨h1,ry⟩
   ·rw[if_neg e,if_neg (λz=>e (h1.trans z))];exact⟨h1,h2⟩
theorem KV.put{kvs:List (κ×V)}{vs:List (κ×Value)}(r:KV kvs vs)(k:κ){y:V}{u:Value}(ry:RelV y u):KV (gQ kvs k y) (stored vs k u):=by
 unfold gQ stored;rw[r.any k]
 by_cases e:(vs.any λkv=>decide (kv.1=k))=true
 ·rw[if_pos e,if_pos e];exact r.repl k ry
 ·rw[if_neg e,if_neg e];exact Paired.snoc r ⟨rfl,ry⟩
theorem KV.length{kvs:List (κ×V)}{vs:List (κ×Value)}(r:KV kvs vs):kvs.length=vs.length:=Paired.length r
end
theorem sP{P:Program}{w:World}{k:cB}{u:Value}(r:RelV (kV k) u):(cD P w).is k u=true:=by
 cases k with
 |inl i=>obtain⟨t,e⟩:=(show ∃t,u=Value.int i t from r);subst e;exact sI P w i t
 |inr x=>obtain⟨t,e⟩:=(show ∃t,u=Value.str x t from r);subst e;exact sH P w x t
theorem pI{P:Program}{w:World}:∀{ks:List cB}{us:List Value},Vals (ks.map kV) us->ItemsAre (cD P w) ks us
 | [],_,r=>by rw[List.map_nil] at r;cases r;exact .nil
 |k::ks,_,r=>by
  rw[Zh] at r;cases r with
  |cons h t=>exact .cons (sP h) (pI t)
noncomputable abbrev KT(H:Hp):List (List cB×V)->List (List cB×Addr×Value)->Prop:=Paired λp q=>p.1=q.1/\H q.2.1=some (.tup (p.1.map kV))/\RelV p.2 q.2.2
theorem KT.val{H:Hp}{kvs:List (List cB×V)}{xs:List (List cB×Addr×Value)}(r:KT H kvs xs)(k:List cB):RelO (iI kvs k) ((atKey xs k).map (·.2)):=by
 induction r with
 |nil=>exact True.intro
 | @cons p q ps qs h t ih=>
   obtain⟨h1,_,h2⟩:=h
   by_cases e:p.1=k
   ·have e':q.1=k:=h1.symm.trans e;have b:atKey (q::qs) k=some q.2:=by simp[atKey,List.find?_cons,e']
    rw[mI e,b];exact h2
   ·have e':¬q.1=k:=λz=>e (h1.trans z);have b:atKey (q::qs) k=atKey qs k:=by simp[atKey,List.find?_cons,e']
    rw[mJ e,b];exact ih
theorem KT.repl{H:Hp}{kvs:List (List cB×V)}{xs:List (List cB×Addr×Value)}(r:KT H kvs xs)(k:List cB){y:V}{u:Value}(ry:RelV y u):
 KT H (kvs.map λkv=>if kv.1=k then(kv.1,y) else kv) (xs.map (putAt k u)):=by
 induction r with
 |nil=>exact .nil
 | @cons p q ps qs h t ih=>
   rw[Zh,Zh];refine .cons ?_ ih;obtain⟨h1,h2,h3⟩:=h;unfold putAt
   by_cases e:p.1=k
   ·rw[if_pos e,if_pos (h1.symm.trans e)];exact⟨h1,h2,ry⟩
   ·rw[if_neg e,if_neg (λz=>e (h1.trans z))];exact⟨h1,h2,h3⟩
theorem KT.put{H:Hp}{kvs:List (List cB×V)}{xs:List (List cB×Addr×Value)}(r:KT H kvs xs)(k:List cB){b:Addr}{y:V}{u:Value}(hb:H b=some (.tup (k.map kV)))(ry:RelV y u):
 KT H (gQ kvs k y) (storedH xs k b u):=by
 have e:(kvs.any λkv=>decide (kv.1=k))=(atKey xs k).isSome:=by
  rw[rM,(r.val k).isSome_eq,Option.isSome_map]
 unfold gQ storedH;rw[e]
 by_cases q:(atKey xs k).isSome=true
 ·rw[if_pos q,if_pos q];exact r.repl k ry
 ·rw[if_neg q,if_neg q];exact Paired.snoc r ⟨rfl,hb,ry⟩
theorem KT.keeps{H H':Hp}{kvs:List (List cB×V)}{xs:List (List cB×Addr×Value)}(r:KT H kvs xs)(ht:∀b ys,H b=some (.tup ys)->H' b=some (.tup ys)):KT H' kvs xs:=
 Paired.mapP r λ_ _ z=>⟨z.1,ht _ _ z.2.1,z.2.2⟩
section
variable {P:Program}{w:World}{H:Hp}{h:Heap}{a:Addr}
theorem JY{u:HO}(ok:HOk P w H h)(e:Rd H a u):ObjOk P w H h a u:=e.ok ok
theorem tG{kvs:List (cB×V)}(ok:HOk P w H h)(e:Rd H a (.dK kvs)):kvs.length<=sizeLine/\(a==sysModules)=false/\∃vs,KV kvs vs/\h.DictOf (cD P w) a vs:=
 show ObjOk P w H h a (.dK kvs) from JY ok e
theorem KW{kvs:List (cB×V)}(ok:HOk P w H h)(e:H a=some (.dK kvs)):kvs.length<=sizeLine/\(a==sysModules)=false/\∃vs,KV kvs vs/\h.DictOf (cD P w) a vs:=tG ok (.inl e)
theorem nK{ks:List cB}(ok:HOk P w H h)(e:H a=some (.tup (ks.map kV))):(tupleKind (cD P w)).is h ks a:=by
 obtain⟨_,its,r,o,h1,h2,n,h3⟩:=(show ObjOk P w H h a (.tup (ks.map kV)) from ok a _ e);exact⟨o,its.toArray,n,h1,h2,h3,by simpa using pI r⟩
theorem tE{kvs:List (List cB×V)}(ok:HOk P w H h)(e:Rd H a (.dT kvs)):kvs.length<=sizeLine/\(a==sysModules)=false/\
 ∃xs,KT H kvs xs/\h.DictOfH (tupleKind (cD P w)) a xs:=by
 obtain⟨z,y,xs,r,o,es,ep,h1,h2,h3,h4,h5⟩:=(show ObjOk P w H h a (.dT kvs) from JY ok e);refine⟨z,y,xs,r,o,es,ep,h1,h2,h3,h4,λx hx=>?_,h5⟩
 have all:∀{l:List (List cB×V)}{m:List (List cB×Addr×Value)},KT H l m->∀x∈m,(tupleKind (cD P w)).is h x.1 x.2.1:=by
  intro l m q
  induction q with
  |nil=>intro x hx;exact nomatch hx
  | @cons p q ps qs hq t ih=>
    intro x hx;rcases List.mem_cons.mp hx with e|hx
    ·subst e;exact nK ok (by rw[<- hq.1];exact hq.2.1)
    ·exact ih x hx
 exact all r x hx
theorem VM{kvs:List (List cB×V)}(ok:HOk P w H h)(e:H a=some (.dT kvs)):kvs.length<=sizeLine/\(a==sysModules)=false/\
 ∃xs,KT H kvs xs/\h.DictOfH (tupleKind (cD P w)) a xs:=tE ok (.inl e)
end
def DGet(H:Hp)(a:Addr)(y:V)(r:Option V):Prop:=
 (∃kvs k,Rd H a (.dK kvs)/\y=kV k/\r=iI kvs k)\/∃kvs k b,Rd H a (.dT kvs)/\y=.ref b/\H b=some (.tup (k.map kV))/\r=iI kvs k
def DPut(H:Hp)(a:Addr)(y v:V)(H':Hp):Prop:=
 (∃kvs k,H a=some (.dK kvs)/\y=kV k/\kvs.length<sizeLine/\H'=bS H a (.dK (gQ kvs k v)))\/
 ∃kvs k b,H a=some (.dT kvs)/\y=.ref b/\H b=some (.tup (k.map kV))/\kvs.length<sizeLine/\H'=bS H a (.dT (gQ kvs k v))
theorem DGet.k{H:Hp}{a:Addr}{kvs:List (cB×V)}{k:cB}(e:H a=some (.dK kvs)):DGet H a (kV k) (iI kvs k):=.inl ⟨kvs,k,.inl e,rfl,rfl⟩
theorem DPut.k{H:Hp}{a:Addr}{kvs:List (cB×V)}{k:cB}{v:V}(e:H a=some (.dK kvs))(hl:kvs.length<sizeLine):DPut H a (kV k) v (bS H a (.dK (gQ kvs k v))):=.inl ⟨kvs,k,e,rfl,hl,rfl⟩
section
variable {X:Cx}{pins:List (Addr×Obj)}{σ:St}{H:Hp}{s:Shared}{a:Addr}{y v:V}{u r:Value}{o:Option V}{A:Around}{E:Value->Shared->Prop}
theorem Inv.big(I:Inv X pins σ H s):sysModules<s.heap.objs.size:=by
 have h:mainGlobals<s.heap.objs.size:=(I.mod.glob.keeps I.bk).lt;exact Nat.lt_trans (by decide) h
theorem zF{Q:Value->Shared->Prop}(hu:A.units+1<cLine)(I:Inv X pins σ H s)(g:DGet H a y (some v))(ry:RelV y u)(h:∀w' s',Inv X pins σ H s'->RelV v w'->Q w' s'):
 wpAny (model X.prog X.w) A (getItem (.ref a) u) Q E s:=by
 rcases g with ⟨kvs,k,e,ey,l⟩|⟨kvs,k,b,e,ey,eb,l⟩
 ·subst ey;obtain⟨z,hd,vs,rel,dd⟩:=tG I.hok e;obtain⟨w',hw,rw'⟩:=RelO.some_of (v:=v) (o:=valueAt vs k) (by rw[l];exact rel.val k);exact wpAny_getItem_of (sP ry) dd.mapOf hw (h w' _ (I.tok _) rw')
 ·subst ey
  cases(show u=Value.ref b from ry)
  obtain⟨z,hd,xs,rel,dd⟩:=tE I.hok e;obtain⟨w',hw,rw'⟩:=RelO.some_of (v:=v) (o:=(atKey xs k).map (·.2)) (by rw[l];exact rel.val k);obtain⟨p,hp,hp2⟩:=Option.map_eq_some_iff.mp hw;refine wpAny_getItem_heap (tupleKind_room_in1 hu) (nK I.hok eb) dd hp ?_;rw[hp2];exact h w' _ (I.tok _) rw'
theorem B2{Q:Value->Shared->Prop}(hu:A.units+1<cLine)(I:Inv X pins σ H s)(g:DGet H a y o)(ry:RelV y u)(h:∀s',Inv X pins σ H s'->Q (.bool o.isSome) s'):
 wpAny (model X.prog X.w) A (compareOp .In u (.ref a)) Q E s:=by
 rcases g with ⟨kvs,k,e,ey,l⟩|⟨kvs,k,b,e,ey,eb,l⟩
 ·subst ey;obtain⟨z,hd,vs,rel,dd⟩:=tG I.hok e;refine wpAny_in_of (sP ry) hd dd.mapOf ?_;rw[<- (rel.val k).isSome_eq, <- l];exact h _ (I.tok _)
 ·subst ey
  cases(show u=Value.ref b from ry)
  obtain⟨z,hd,xs,rel,dd⟩:=tE I.hok e;refine wpAny_in_heap (tupleKind_room_in1 hu) (nK I.hok eb) hd dd ?_;have q:=(rel.val k).isSome_eq;rw[Option.isSome_map] at q;rw[<- q, <- l];exact h _ (I.tok _)
theorem II{Q:Value->Shared->Prop}(hu:A.units+1<cLine)(I:Inv X pins σ H s)(g:DGet H a y o)(ry:RelV y u)(h:∀s',Inv X pins σ H s'->Q (.bool (!o.isSome)) s'):
 wpAny (model X.prog X.w) A (compareOp .NotIn u (.ref a)) Q E s:=by
 rcases g with ⟨kvs,k,e,ey,l⟩|⟨kvs,k,b,e,ey,eb,l⟩
 ·subst ey;obtain⟨z,hd,vs,rel,dd⟩:=tG I.hok e;refine wpAny_notIn_of (sP ry) hd dd.mapOf ?_;rw[<- (rel.val k).isSome_eq, <- l];exact h _ (I.tok _)
 ·subst ey
  cases(show u=Value.ref b from ry)
  obtain⟨z,hd,xs,rel,dd⟩:=tE I.hok e;refine wpAny_notIn_heap (tupleKind_room_in1 hu) (nK I.hok eb) hd dd ?_;have q:=(rel.val k).isSome_eq;rw[Option.isSome_map] at q;rw[<- q, <- l];exact h _ (I.tok _)
theorem kG{h':Heap}{t':Nat}{ob:HO}(I:Inv X pins σ H s)(mu:WN (H a))(hs:Heap.SameBut a s.heap h')(he:∃q,h'.get? a=some q)(new:ObjOk X.prog X.w (bS H a ob) h' a ob):
 Inv X pins σ (bS H a ob) {s with heap:=h',toks:=t'}:=
 I.write (x:=a) (e:=a) mu (.inl rfl) (λb q hb z=>(hs.2 b hb).trans z) he new
theorem PM{P:Program}{w:World}{H':Hp}{h':Heap}{kvs:List (cB×V)}{vs:List (cB×Value)}(z:kvs.length<=sizeLine)(hd:(a==sysModules)=false)(rel:KV kvs vs)(dd:h'.DictOf (cD P w) a vs):
 ObjOk P w H' h' a (.dK kvs):=⟨z,hd,vs,rel,dd⟩
theorem zE{H':Hp}{Q:Unit->Shared->Prop}(hu:A.units+1<cLine)(I:Inv X pins σ H s)(g:DPut H a y v H')(ry:RelV y u)(rv:RelV v r)(h:∀s',Inv X pins σ H' s'->Q () s'):
 wpAny (model X.prog X.w) A (setItem (.ref a) u r) Q E s:=by
 rcases g with ⟨kvs,k,e,ey,l,eH⟩|⟨kvs,k,b,e,ey,eb,l,eH⟩
 ·subst ey eH;obtain⟨z,hd,vs,rel,dd⟩:=KW I.hok e;have hz:vs.length<=sizeLine:=by rw[<- rel.length];exact z
  have hl:(gQ kvs k v).length<=sizeLine:=by have:=lK kvs k v;omega
  refine wpAny_setItem_pairs (hsz:=hz) (sP ry) dd λh' dd' hs=>h _ ?_;have he:∃q,h'.get? a=some q:=let⟨q,_,_,hq,_⟩:=dd';⟨q,hq⟩;exact kG I (by rw[e];exact True.intro) hs he (PM hl hd (rel.put k rv) dd')
 ·subst ey eH
  cases(show u=Value.ref b from ry)
  obtain⟨z,hd,xs,rel,dd⟩:=VM I.hok e;have hz:xs.length<=sizeLine:=by rw[<- Paired.length rel];exact z
  have hl:(gQ kvs k v).length<=sizeLine:=by have:=lK kvs k v;omega
  refine wpAny_setItem_heap (hsz:=hz) (tupleKind_room_in1 hu) (nK I.hok eb) dd λh' dd' hs=>h _ ?_;obtain⟨q,es,ep,hq,h2,h3,h4,_,h5⟩:=dd';refine kG I (by rw[e];exact True.intro) hs ⟨q,hq⟩ ⟨hl,hd,_,(rel.put k eb rv).keeps λc ys ec=>?_,q,es,ep,hq,h2,h3,h4,h5⟩;rw[aM (nE ec e (λz=>nomatch z))];exact ec
end
section
variable {X:Cx}{pins:List (Addr×Obj)}{σ:St}{H:Hp}{s:Shared}{a:Addr}{kvs:List (cB×V)}{k:cB}{u:Value}{A:Around}{E:Value->Shared->Prop}
end
theorem tH{X:Cx}{pins:List (Addr×Obj)}{σ:St}{H:Hp}{s:Shared}{a:Addr}{y:V}{o:Option V}(I:Inv X pins σ H s)(g:DGet H a y o):s.TypeIs (.ref a) "dict":=by
 rcases g with ⟨kvs,k,e,_,_⟩|⟨kvs,k,b,e,_,_,_⟩
 ·obtain⟨_,_,vs,_,dd⟩:=tG I.hok e;exact dd.typeIs
 ·obtain⟨_,_,xs,_,dd⟩:=tE I.hok e;exact dd.typeIs
section
variable {X:Cx}{o i e value:Expr}{pos pos' tpos:Pos}{td ty tv:TE}
end
theorem DR{P:Program}{w:World}{H:Hp}(h:Heap)(hb:sysModules<h.objs.size):ObjOk P w H (h.push {cls:=.type "dict",data:=.dict #[]}) h.objs.size (.dK []):=
 ⟨Nat.zero_le _,beq_eq_false_iff_ne.mpr (Ne.symm (Nat.ne_of_lt hb)),[],.nil,Heap.DictOf.new h⟩
def LW:TE:=λ_ H Q=>∀p,H p=none->Q (.ref p) (bS H p (.dK []))
section
variable {X:Cx}{pos:Pos}
theorem BU:PE X (.Dict [] [] pos) LW:=λpins s σ H Q I h=>
 wpAny_Dict_empty ⟨.ref s.heap.objs.size,_,I.laid (a:=s.heap.objs.size) (o:=.dK []) (t':=s.toks) (λ_ _ q=>Zf _ q) (Zn _) (DR s.heap I.big),rfl,h _ (I.hok.fresh (Zn _))⟩
end
structure M1 (X:Cx)(o:Expr)(m:Str)(apos:Pos)(e:Expr)(cpos:Pos):Prop where
 base:attributeBase o m X.env (eval o X.env)=eval o X.env
 few:((backTo cpos (starEach [e] X.env)).all (λx=> !x.1)&&(backToKw cpos (keywordEach [] X.env)).all (λx=>x.1.isSome)
  &&decide (([e]:List Expr).length+([]:List Keyword).length+(if([]:List Keyword).isEmpty then 0 else 1)<30))=true
 line:(apos.endLine==cpos.line)=true
 trees:backTo cpos (starEach [e] X.env)=[(false,eval e X.env)]
structure M2 (X:Cx)(o:Expr)(m:Str)(apos:Pos)(e f:Expr)(cpos:Pos):Prop where
 base:attributeBase o m X.env (eval o X.env)=eval o X.env
 few:((backTo cpos (starEach [e,f] X.env)).all (λx=> !x.1)&&(backToKw cpos (keywordEach [] X.env)).all (λx=>x.1.isSome)
  &&decide (([e,f]:List Expr).length+([]:List Keyword).length+(if([]:List Keyword).isEmpty then 0 else 1)<30))=true
 line:(apos.endLine==cpos.line)=true
 trees:backTo cpos (starEach [e,f] X.env)=[(false,eval e X.env),(false,eval f X.env)]
section
variable {X:Cx}{pins:List (Addr×Obj)}{σ:St}{H:Hp}{s:Shared}{a:Addr}{y d:V}{u r:Value}{o:Option V}{A:Around}{E:Value->Shared->Prop}
end
section
variable {X:Cx}{o e f:Expr}{apos cpos:Pos}{td ty tx:TE}
end
section
variable {X:Cx}{pins:List (Addr×Obj)}{σ:St}{H:Hp}{s:Shared}{a:Addr}{kvs:List (cB×V)}{A:Around}{E:Value->Shared->Prop}
end
section
variable {X:Cx}{pins:List (Addr×Obj)}{σ:St}{H:Hp}{s:Shared}{a:Addr}{y:V}{u:Value}{A:Around}{E:Value->Shared->Prop}
end
end L2
namespace L2
open PySem PySem.Spec PyProof.Rows
section
variable {X:Cx}
end
section
variable {κ:Type} [DecidableEq κ]
end
end L2
end
section
namespace Ng
open PySem PySem.Spec PyProof.Rows L2
noncomputable abbrev Sg:=L2.St
inductive D where
 |non|bl (b:Bool)|int (i:Int)|str (x:Str)|ty (n:String)|tup (l:List D)|ref (n:Nat)
inductive O where
 |lst (l:List D)|ro (l:List D)|dct (l:List (cB×D))|dtt (l:List (List Int×D))|ded|dtf (l:List (List Int×D))|ins (cn:Str) (fs:List (Str×D))|tab (P:Addr) (pos:Pos) (q:Str)
noncomputable abbrev Hh:=List O
noncomputable abbrev Ev:=List (Option D)
inductive Rs (A:Type) where
 |ok (a:A) (h:Hh)|exc (c:Nat) (r:Ev) (h:Hh)|bad
noncomputable def Rs.bind{A B:Type}:Rs A->(A->Hh->Rs B)->Rs B
 |.ok a h,f=>f a h
 |.exc c r h,_=>.exc c r h
 |.bad,_=>.bad
theorem Rs.bind_ok{A B:Type}{r:Rs A}{f:A->Hh->Rs B}{b:B}{h':Hh}(e:r.bind f=.ok b h'):∃a h,r=.ok a h/\f a h=.ok b h':=by
 cases r with
 |ok a h=>exact⟨a,h,rfl,e⟩
 |exc c r h=>cases e
 |bad=>cases e
noncomputable def Rs.nx{A:Type}:Rs A->Rs A
 |.ok a h=>.ok a h
 |_=>.bad
theorem Rs.nx_ok{A:Type}{r:Rs A}{a:A}{h:Hh}(e:r.nx=.ok a h):r=.ok a h:=by
 cases r with
 |ok b h'=>exact e
 |exc c r h'=>cases e
 |bad=>cases e
noncomputable def Rs.inn{A:Type}(r:Ev):Rs A->Rs A
 |.exc c _ h=>.exc c r h
 |o=>o
mutual
inductive RD (K:W.Frag) (m:List Addr) (H:Hp):D->V->Prop where
 |non:RD K m H .non .non
 |bl (b:Bool):RD K m H (.bl b) (.bl b)
 |int (i:Int):RD K m H (.int i) (.int i)
 |str (x:Str):RD K m H (.str x) (.str x)
 |ty (n:String):RD K m H (.ty n) (.ty n)
 |tup {a:Addr} {ds:List D} {vs:List V} (h:SqT K H a vs) (r:RDs K m H ds vs):RD K m H (.tup ds) (.ref a)
 |ref {n:Nat} {a:Addr} (h:m[n]? =some a):RD K m H (.ref n) (.ref a)
inductive RDs (K:W.Frag) (m:List Addr) (H:Hp):List D->List V->Prop where
 |nil:RDs K m H [] []
 |cons {d:D} {v:V} {ds:List D} {vs:List V} (h:RD K m H d v) (r:RDs K m H ds vs):RDs K m H (d::ds) (v::vs)
end
structure Gr (K:W.Frag)(m:List Addr)(H:Hp)(m':List Addr)(H':Hp):Prop where
 pre:∀(n:Nat)(a:Addr),m[n]? =some a->m'[n]? =some a
 tup:∀(a:Addr)(vs:List V),SqT K H a vs->SqT K H' a vs
 frz:∀(a:Addr)(o:Obj)(u:HO),H a=some (.frz o u)->H' a=some (.frz o u)
theorem Gr.refl{K:W.Frag}{m:List Addr}{H:Hp}:Gr K m H m H:=⟨λ_ _ e=>e,λ_ _ e=>e,λ_ _ _ e=>e⟩
theorem Gr.trans{K:W.Frag}{m m1 m2:List Addr}{H H1 H2:Hp}(a:Gr K m H m1 H1)(b:Gr K m1 H1 m2 H2):Gr K m H m2 H2:=
 ⟨λn x e=>b.pre n x (a.pre n x e),λn x e=>b.tup n x (a.tup n x e),λn x u e=>b.frz n x u (a.frz n x u e)⟩
section
variable {K:W.Frag}{m m':List Addr}{H H':Hp}
mutual
theorem RD.mono(g:Gr K m H m' H'):∀{d:D}{v:V},RD K m H d v->RD K m' H' d v
 |_,_,.non=>.non
 |_,_,.bl b=>.bl b
 |_,_,.int i=>.int i
 |_,_,.str x=>.str x
 |_,_,.ty n=>.ty n
 |_,_,.tup h r=>.tup (g.tup _ _ h) (RDs.mono g r)
 |_,_,.ref h=>.ref (g.pre _ _ h)
theorem RDs.mono(g:Gr K m H m' H'):∀{ds:List D}{vs:List V},RDs K m H ds vs->RDs K m' H' ds vs
 |_,_,.nil=>.nil
 |_,_,.cons h r=>.cons (RD.mono g h) (RDs.mono g r)
end
theorem RDs.length:∀{ds:List D}{vs:List V},RDs K m H ds vs->ds.length=vs.length
 |_,_,.nil=>rfl
 |_,_,.cons _ r=>by simp[RDs.length r]
theorem RDs.get:∀{ds:List D}{vs:List V}{i:Nat}{d:D},RDs K m H ds vs->ds[i]? =some d->∃v,vs[i]? =some v/\RD K m H d v
 |_,_,_,_,.nil,e=>by simp at e
 |_,_,0,_,.cons h _,e=>by simp at e;subst e;exact⟨_,rfl,h⟩
 |_,_,i+1,d,.cons _ r,e=>by
  obtain⟨v,h1,h2⟩:=RDs.get (i:=i) (d:=d) r (by simpa using e);exact⟨v,by simpa using h1,h2⟩
theorem RDs.getV:∀{ds:List D}{vs:List V}{i:Nat}{v:V},RDs K m H ds vs->vs[i]? =some v->∃d,ds[i]? =some d/\RD K m H d v
 |_,_,_,_,.nil,e=>by simp at e
 |_,_,0,_,.cons h _,e=>by simp at e;subst e;exact⟨_,rfl,h⟩
 |_,_,i+1,v,.cons _ r,e=>by
  obtain⟨d,h1,h2⟩:=RDs.getV (i:=i) (v:=v) r (by simpa using e);exact⟨d,by simpa using h1,h2⟩
theorem RDs.append:∀{ds es:List D}{vs us:List V},RDs K m H ds vs->RDs K m H es us->RDs K m H (ds++es) (vs++us)
 |_,_,_,_,.nil,s=>s
 |_,_,_,_,.cons h r,s=>.cons h (RDs.append r s)
theorem RDs.set{d:D}{v:V}(q:RD K m H d v):∀{ds:List D}{vs:List V}(i:Nat),RDs K m H ds vs->RDs K m H (ds.set i d) (vs.set i v)
 |_,_,_,.nil=>.nil
 |_,_,0,.cons _ t=>.cons q t
 |_,_,i+1,.cons h t=>.cons h (RDs.set q i t)
end
theorem RDs.ints{K:W.Frag}{m:List Addr}{H:Hp}:∀(ns:List Int),RDs K m H (ns.map D.int) (ns.map V.int)
 | []=>.nil
 |n::ns=>.cons (.int n) (RDs.ints ns)
def SqR(K:W.Frag)(H:Hp)(a:Addr)(xs:List V):Prop:=
 (∃o,H a=some (.frz o (.lst xs)))\/
   ∃(o:Obj)(its:Array Value)(n:Nat),K.lookup a=some o/\o.cls=.type "list"/\o.dict=none/\o.data=.seq its n/\its.size<=sizeLine/\Vals xs its.toList
theorem SqR.sq{K:W.Frag}{H:Hp}{a:Addr}{xs:List V}(h:SqR K H a xs):SqL K H a xs:=by
 rcases h with h|h
 ·exact .inl (.inr h)
 ·exact .inr h
def Dtt(a:Addr)(xs:List (List Int×Addr×Value))(h:Heap):Prop:=
 (a==sysModules)=false/\xs.length<=1000/\∃(P:Program)(w:World)(o:Obj)(es:Array DictEntry)(ep:Nat),h.get? a=some o/\o.ExactDict/\o.data=.dict es ep/\
   es.toList=xs.map (entryOfKey (tupleKind (intKind P w)))/\(xs.map (·.1)).Nodup
def Dfo(a:Addr)(xs:List (List Int×Addr×Value))(o:Obj)(es:Array DictEntry)(ep:Nat):Prop:=
 (a==sysModules)=false/\xs.length<=1000/\o.ExactDict/\o.data=.dict es ep/\(∃(P:Program)(w:World),es.toList=xs.map (entryOfKey (tupleKind (intKind P w))))/\(xs.map (·.1)).Nodup
def L8(H:Hp)(P:Addr)(pos:Pos)(q:Str):Prop:=H P=some (.tbl #[])\/∃(c:Addr)(oc:Obj)(vs:Array Value)(t:Tok),H P=some (.tbl #[rawInt pos.line,rawInt pos.col,.ref c])/\H c=some (.frz oc (.own c))/\oc.data=.fields vs/\vs[1]? =some (.str q t)
noncomputable def RO(K:W.Frag)(m:List Addr)(H:Hp)(a:Addr):O->Prop
 |.lst ds=>∃vs,H a=some (.lst vs)/\RDs K m H ds vs
 |.ro ds=>∃vs,SqR K H a vs/\RDs K m H ds vs
 |.dct ds=>∃us:List (cB×V),H a=some (.dK us)/\ds.map (·.1)=us.map (·.1)/\RDs K m H (ds.map (·.2)) (us.map (·.2))
 |.dtt ds=>∃(xs:List (List Int×Addr×Value))(us:List V),H a=some (.ext (Dtt a xs))/\ds.map (·.1)=xs.map (·.1)/\(∀x∈xs,SqT K H x.2.1 (x.1.map V.int))/\RDs K m H (ds.map (·.2)) us/\Vals us (xs.map (·.2.2))
 |.ded=>True
 |.tab P pos q=>a=P/\L8 H P pos q
 |.dtf ds=>∃(xs:List (List Int×Addr×Value))(us:List V)(o:Obj)(es:Array DictEntry)(ep:Nat),H a=some (.frz o (.own a))/\Dfo a xs o es ep/\ds.map (·.1)=xs.map (·.1)/\(∀x∈xs,SqT K H x.2.1 (x.1.map V.int))/\RDs K m H (ds.map (·.2)) us/\Vals us (xs.map (·.2.2))
 |.ins cn fs=>∃(C dx:Addr)(us:List (Str×V)),W.nsIn K mainGlobals cn=some (some (.ref C))/\H a=some (.ins C dx us)/\fs.map (·.1)=us.map (·.1)/\RDs K m H (fs.map (·.2)) (us.map (·.2))
noncomputable def O.wr:O->Bool
 |.lst _=>true
 |.ro _=>false
 |.dct _=>true
 |.dtt _=>true
 |.ded=>false
 |.dtf _=>false
 |.ins _ _=>true
 |.tab _ _ _=>true
noncomputable def WP:HO->Bool
 |.lst _=>true
 |.dK _=>true
 |.ext _=>true
 |.ins _ _ _=>true
 |.tbl _=>true
 |_=>false
structure Wd (K:W.Frag)(m:List Addr)(h:Hh)(H:Hp):Prop where
 len:m.length=h.length
 nd:∀(i j:Nat)(a:Addr)(o u:O),m[i]? =some a->m[j]? =some a->h[i]? =some o->h[j]? =some u->o.wr=true->u.wr=true->i=j
 ob:∀(n:Nat)(o:O)(a:Addr),h[n]? =some o->m[n]? =some a->RO K m H a o
theorem Wd.at{K:W.Frag}{m:List Addr}{h:Hh}{H:Hp}(w:Wd K m h H){n:Nat}{o:O}(e:h[n]? =some o):∃a,m[n]? =some a/\RO K m H a o:=by
 have hn:n<h.length:=(Ze.mp e).1;have hm:n<m.length:=by rw[w.len];exact hn
 exact⟨m[n],Zd hm,w.ob n o _ e (Zd hm)⟩
def RSt(K:W.Frag)(m:List Addr)(H:Hp)(r:Ev)(s:Sg):Prop:=r.length=s.length/\∀(i:Nat)(d:D),r[i]? =some (some d)->∃v,s[i]? =some (some v)/\RD K m H d v
theorem RSt.mono{K:W.Frag}{m m':List Addr}{H H':Hp}{r:Ev}{s:Sg}(g:Gr K m H m' H')(h:RSt K m H r s):RSt K m' H' r s:=
 ⟨h.1,λi d e=>let⟨v,h1,h2⟩:=h.2 i d e;⟨v,h1,h2.mono g⟩⟩
theorem RSt.set{K:W.Frag}{m:List Addr}{H:Hp}{r:Ev}{s:Sg}{d:D}{v:V}(h:RSt K m H r s)(i:Nat)(q:RD K m H d v):RSt K m H (r.set i (some d)) (s.set i (some v)):=by
 refine⟨by simp[h.1],λj e he=>?_⟩
 by_cases hij:i=j
 ·subst hij
  have hl:i<r.length:=by
   have:=(Ze.mp he).1;simpa using this
  rw[List.getElem?_set_self hl] at he;have he':d=e:=by injection he with z;injection z
  subst he';exact⟨v,List.getElem?_set_self (by rw[<- h.1];exact hl),q⟩
 ·rw[List.getElem?_set_ne hij] at he;obtain⟨u,h1,h2⟩:=h.2 j e he;exact⟨u,by rw[List.getElem?_set_ne hij];exact h1,h2⟩
theorem SqT.upd_new{K:W.Frag}{H:Hp}{p:Addr}{o:HO}(hp:H p=none){a:Addr}{vs:List V}(h:SqT K H a vs):SqT K (bS H p o) a vs:=by
 rcases h with (h|⟨ob,h⟩)|h
 ·exact .inl (.inl (by rw[aM (bI h hp)];exact h))
 ·exact .inl (.inr ⟨ob,by rw[aM (bI h hp)];exact h⟩)
 ·exact .inr h
theorem SqT.upd_w{K:W.Frag}{H:Hp}{p:Addr}{u o:HO}(hp:H p=some u)(hw:WP u=true){a:Addr}{vs:List V}(h:SqT K H a vs):SqT K (bS H p o) a vs:=by
 rcases h with (h|⟨ob,h⟩)|h
 ·exact .inl (.inl (by rw[aM (nE h hp (λz=>by subst z;cases hw))];exact h))
 ·exact .inl (.inr ⟨ob,by rw[aM (nE h hp (λz=>by subst z;cases hw))];exact h⟩)
 ·exact .inr h
theorem SqR.upd_new{K:W.Frag}{H:Hp}{p:Addr}{o:HO}(hp:H p=none){a:Addr}{vs:List V}(h:SqR K H a vs):SqR K (bS H p o) a vs:=by
 rcases h with ⟨ob,h⟩|h
 ·exact .inl ⟨ob,by rw[aM (bI h hp)];exact h⟩
 ·exact .inr h
theorem SqR.upd_w{K:W.Frag}{H:Hp}{p:Addr}{u o:HO}(hp:H p=some u)(hw:WP u=true){a:Addr}{vs:List V}(h:SqR K H a vs):SqR K (bS H p o) a vs:=by
 rcases h with ⟨ob,h⟩|h
 ·exact .inl ⟨ob,by rw[aM (nE h hp (λz=>by subst z;cases hw))];exact h⟩
 ·exact .inr h
section
variable {K:W.Frag}{m:List Addr}{h:Hh}{H:Hp}
theorem Gr.tupNew{p:Addr}{o:HO}(hp:H p=none):Gr K m H m (bS H p o):=⟨λ_ _ e=>e,λ_ _ e=>SqT.upd_new hp e,λb o' u' e=>by rw[aM (bI e hp)];exact e⟩
theorem RO.some_of{a:Addr}{o:O}(r:RO K m H a o)(w:o.wr=true):∃u,H a=some u/\WP u=true:=by
 cases o with
 |lst ds=>obtain⟨vs,h1,_⟩:=r;exact⟨_,h1,rfl⟩
 |ro ds=>cases w
 |dct ds=>obtain⟨vs,h1,_⟩:=r;exact⟨_,h1,rfl⟩
 |dtt ds=>obtain⟨xs,us,h1,_⟩:=r;exact⟨_,h1,rfl⟩
 |ded=>cases w
 |dtf ds=>cases w
 |ins cn fs=>obtain⟨C,dx,us,_,h1,_⟩:=r;exact⟨_,h1,rfl⟩
 |tab P pos q=>
  obtain⟨rfl,r|⟨_,_,_,_,r,_⟩⟩:=r
  ·exact⟨_,r,rfl⟩
  ·exact⟨_,r,rfl⟩
theorem RO.keepNew{p a:Addr}{o:HO}{u:O}{m':List Addr}(hp:H p=none)(g:Gr K m H m' (bS H p o))(q:RO K m H a u):RO K m' (bS H p o) a u:=by
 cases u with
 |lst ds=>
  obtain⟨vs,h1,h2⟩:=q;exact⟨vs,by rw[aM (bI h1 hp)];exact h1,h2.mono g⟩
 |ro ds=>
  obtain⟨vs,h1,h2⟩:=q;exact⟨vs,SqR.upd_new hp h1,h2.mono g⟩
 |dct ds=>
  obtain⟨vs,h1,h2,h3⟩:=q;exact⟨vs,by rw[aM (bI h1 hp)];exact h1,h2,h3.mono g⟩
 |dtt ds=>
  obtain⟨xs,us,h1,h2,h3,h4,h5⟩:=q;exact⟨xs,us,by rw[aM (bI h1 hp)];exact h1,h2,λx hx=>g.tup _ _ (h3 x hx),h4.mono g,h5⟩
 |ded=>trivial
 |dtf ds=>
  obtain⟨xs,us,o',es,ep,h1,h2,h3,h4,h5,h6⟩:=q;exact⟨xs,us,o',es,ep,by rw[aM (bI h1 hp)];exact h1,h2,h3,λx hx=>g.tup _ _ (h4 x hx),h5.mono g,h6⟩
 |ins cn fs=>
  obtain⟨C,dx,us,h1,h2,h3,h4⟩:=q;exact⟨C,dx,us,h1,by rw[aM (bI h2 hp)];exact h2,h3,h4.mono g⟩
 |tab P pos q0=>
  obtain⟨rfl,r|⟨c,oc,vs,t,r1,r2,r3⟩⟩:=q
  ·exact⟨rfl,.inl (by rw[aM (bI r hp)];exact r)⟩
  ·exact⟨rfl,.inr ⟨c,oc,vs,t,by rw[aM (bI r1 hp)];exact r1,by rw[aM (bI r2 hp)];exact r2,r3⟩⟩
theorem RO.keepSet{p a:Addr}{v o:HO}{u:O}{m':List Addr}(hp:H p=some v)(hw:WP v=true)(na:u.wr=true->a≠p)(g:Gr K m H m' (bS H p o))(q:RO K m H a u):RO K m' (bS H p o) a u:=by
 cases u with
 |lst ds=>
  obtain⟨vs,h1,h2⟩:=q;exact⟨vs,by rw[aM (na rfl)];exact h1,h2.mono g⟩
 |ro ds=>
  obtain⟨vs,h1,h2⟩:=q;exact⟨vs,SqR.upd_w hp hw h1,h2.mono g⟩
 |dct ds=>
  obtain⟨vs,h1,h2,h3⟩:=q;exact⟨vs,by rw[aM (na rfl)];exact h1,h2,h3.mono g⟩
 |dtt ds=>
  obtain⟨xs,us,h1,h2,h3,h4,h5⟩:=q;exact⟨xs,us,by rw[aM (na rfl)];exact h1,h2,λx hx=>g.tup _ _ (h3 x hx),h4.mono g,h5⟩
 |ded=>trivial
 |dtf ds=>
  obtain⟨xs,us,o',es,ep,h1,h2,h3,h4,h5,h6⟩:=q;exact⟨xs,us,o',es,ep,by rw[aM (nE h1 hp (λz=>by subst z;cases hw))];exact h1,h2,h3,λx hx=>g.tup _ _ (h4 x hx),h5.mono g,h6⟩
 |ins cn fs=>
  obtain⟨C,dx,us,h1,h2,h3,h4⟩:=q;exact⟨C,dx,us,h1,by rw[aM (na rfl)];exact h2,h3,h4.mono g⟩
 |tab P pos q0=>
  obtain⟨rfl,r|⟨c,oc,vs,t,r1,r2,r3⟩⟩:=q
  ·exact⟨rfl,.inl (by rw[aM (na rfl)];exact r)⟩
  ·exact⟨rfl,.inr ⟨c,oc,vs,t,by rw[aM (na rfl)];exact r1,by rw[aM (nE r2 hp (λz=>by subst z;cases hw))];exact r2,r3⟩⟩
theorem Wd.keepNew(w:Wd K m h H){p:Addr}{o:HO}(hp:H p=none):Wd K m h (bS H p o):=
 ⟨w.len,w.nd,λn ob a e1 e2=>(w.ob n ob a e1 e2).keepNew hp (Gr.tupNew hp)⟩
theorem Wd.objNew(w:Wd K m h H){p:Addr}{o:O}{u:HO}(hp:H p=none)(r:Gr K m H (m++ [p]) (bS H p u)->RO K (m++ [p]) (bS H p u) p o):Wd K (m++ [p]) (h++ [o]) (bS H p u)/\Gr K m H (m++ [p]) (bS H p u):=by
 have g:Gr K m H (m++ [p]) (bS H p u):=⟨λn a e=>by
  rw[List.getElem?_append_left (Ze.mp e).1];exact e,λ_ _ e=>SqT.upd_new hp e,λb o' u' e=>by rw[aM (bI e hp)];exact e⟩
 have cs:∀(i:Nat)(a:Addr)(o':O),(m++ [p])[i]? =some a->(h++ [o])[i]? =some o'->(i<h.length/\m[i]? =some a/\h[i]? =some o')\/(i=h.length/\a=p/\o'=o):=by
  intro i a o' e1 e2
  by_cases hi:i<h.length
  ·rw[List.getElem?_append_left (by rw[w.len];exact hi)] at e1;rw[List.getElem?_append_left hi] at e2;exact .inl ⟨hi,e1,e2⟩
  ·have hl:=(Ze.mp e2).1;have e:i=h.length:=by simp at hl;omega
   subst e;rw[<- w.len] at e1;simp at e1 e2;exact .inr ⟨rfl,e1.symm,e2.symm⟩
 have fr:∀(i:Nat)(o:O),m[i]? =some p->h[i]? =some o->o.wr=true->False:=λi o e1 e2 hw=>by
  obtain⟨u,hu,_⟩:=(w.ob i o p e2 e1).some_of hw;rw[hp] at hu;cases hu
 refine⟨⟨by simp[w.len],λi j a o1 o2 e1 e2 e3 e4 w1 w2=>?_,λn o' a e1 e2=>?_⟩,g⟩
 ·rcases cs i a o1 e1 e3 with ⟨_,x1,x2⟩|⟨z1,z2,z3⟩
  ·rcases cs j a o2 e2 e4 with ⟨_,y1,y2⟩|⟨y1,y2,y3⟩
   ·exact w.nd i j a o1 o2 x1 y1 x2 y2 w1 w2
   ·subst y2;exact(fr i o1 x1 x2 w1).elim
  ·rcases cs j a o2 e2 e4 with ⟨_,y1,y2⟩|⟨y1,y2,y3⟩
   ·subst z2;exact(fr j o2 y1 y2 w2).elim
   ·rw[z1,y1]
 ·rcases cs n a o' e2 e1 with ⟨_,x1,x2⟩|⟨z1,z2,z3⟩
  ·exact(w.ob n o' a x2 x1).keepNew hp g
  ·subst z2;subst z3;exact r g
theorem Wd.objSet(w:Wd K m h H){n:Nat}{a:Addr}{o o':O}{u:HO}(e1:h[n]? =some o)(hw:o.wr=true)(e2:m[n]? =some a)(r:Gr K m H m (bS H a u)->RO K m (bS H a u) a o'):
 Wd K m (h.set n o') (bS H a u)/\Gr K m H m (bS H a u):=by
 obtain⟨v,ha,hv⟩:=(w.ob n o a e1 e2).some_of hw;have g:Gr K m H m (bS H a u):=⟨λ_ _ e=>e,λ_ _ e=>SqT.upd_w ha hv e,λb o' u' e=>by rw[aM (nE e ha (λz=>by subst z;cases hv))];exact e⟩;have hn:n<h.length:=(Ze.mp e1).1
 have cs:∀(i:Nat)(o1:O),(h.set n o')[i]? =some o1->(i=n/\o1=o')\/(i≠n/\h[i]? =some o1):=by
  intro i o1 e
  by_cases hi:n=i
  ·subst hi;rw[List.getElem?_set_self hn] at e;exact .inl ⟨rfl,(Zg e).symm⟩
  ·rw[List.getElem?_set_ne hi] at e;exact .inr ⟨λz=>hi z.symm,e⟩
 refine⟨⟨by simp[w.len],λi j b o1 o2 x1 x2 x3 x4 w1 w2=>?_,λi o1 b x1 x2=>?_⟩,g⟩
 ·rcases cs i o1 x3 with ⟨z,_⟩|⟨ni,y3⟩
  ·subst z;rcases cs j o2 x4 with ⟨z,_⟩|⟨nj,y4⟩
   ·exact z.symm
   ·exact w.nd i j b o o2 x1 x2 e1 y4 hw w2
  ·rcases cs j o2 x4 with ⟨z,_⟩|⟨nj,y4⟩
   ·subst z;exact w.nd i j b o1 o x1 x2 y3 e1 w1 hw
   ·exact w.nd i j b o1 o2 x1 x2 y3 y4 w1 w2
 ·rcases cs i o1 x1 with ⟨z1,z2⟩|⟨ni,y⟩
  ·subst z1;subst z2;rw[e2] at x2;cases x2;exact r g
  ·refine(w.ob i o1 b y x2).keepSet ha hv (λhw1 z=>?_) g;subst z;exact ni (w.nd i n b _ _ x2 e2 y e1 hw1 hw)
theorem Wd.lstNew(w:Wd K m h H){p:Addr}{ds:List D}{vs:List V}(hp:H p=none)(r:RDs K m H ds vs):Wd K (m++ [p]) (h++ [.lst ds]) (bS H p (.lst vs))/\Gr K m H (m++ [p]) (bS H p (.lst vs)):=
 w.objNew hp λg=>⟨vs,aZ,r.mono g⟩
theorem Wd.lstSet(w:Wd K m h H){n:Nat}{a:Addr}{ds es:List D}{us:List V}(e1:h[n]? =some (.lst ds))(e2:m[n]? =some a)(r:RDs K m H es us):
 (∃vs,H a=some (.lst vs)/\RDs K m H ds vs)/\Wd K m (h.set n (.lst es)) (bS H a (.lst us))/\Gr K m H m (bS H a (.lst us)):=
 ⟨w.ob n _ a e1 e2,w.objSet e1 rfl e2 λg=>⟨us,aZ,r.mono g⟩⟩
noncomputable def KC:O->Option (List D)
 |.lst l=>some l
 |.ro l=>some l
 |.dct _=>none
 |.dtt _=>none
 |.ded=>none
 |.dtf _=>none
 |.ins _ _=>none
 |.tab _ _ _=>none
noncomputable def aJ(h:Hh)(n:Nat):Option (List D):=(h[n]?).bind KC
theorem Wd.lst(w:Wd K m h H){n:Nat}{ds:List D}(e:aJ h n=some ds):∃a vs,m[n]? =some a/\SqL K H a vs/\RDs K m H ds vs:=by
 unfold aJ at e;cases q:h[n]? with
 |none=>rw[q] at e;cases e
 |some o=>
  rw[q] at e;obtain⟨a,e1,r⟩:=w.at q;cases o with
  |lst l=>
   obtain rfl:l=ds:=Zg e;obtain⟨vs,h1,h2⟩:=r;exact⟨a,vs,e1,.of h1,h2⟩
  |ro l=>
   obtain rfl:l=ds:=Zg e;obtain⟨vs,h1,h2⟩:=r;exact⟨a,vs,e1,h1.sq,h2⟩
  |dct l=>cases e
  |dtt l=>cases e
  |ded=>cases e
  |dtf l=>cases e
  |ins c l=>cases e
  |tab P p q=>cases e
end
noncomputable abbrev iX:Value->Shared->Prop:=λ_ _=>False
theorem HR{P:Program}{w:World}{H:Hp}{h:Heap}{fs:List Addr}(x:HOk P w H h)(nf:∀b∈fs,H b=none):HOk P w H (W.hideAll h fs):=λa o e=>
 (x a o e).stay (λb u hb q=>W.hideAll_get _ q λhm=>by
   rcases hb with rfl|hb
   ·rw[nf _ hm] at e;cases e
   ·rw[nf _ hm] at hb;cases hb) (λ_ q=>q) λ_ _ q=>q
structure Fly (P:Program)(w:World)(l:List Env)(H:Hp)(s:Heap)(Hs:Hp)(e C:Addr)(h B:Heap):Prop where
 fl:∃t,Heap.FlyingW B l e (.ref C) (.ref t) h
 hok:HOk P w H B
 kb:∀b o,s.get? b=some o->Hs b=none->b ∉ jZ l->B.get? b=some o
 kt:∀b o,s.get? b=some o->b ∉ jZ l->∃o',B.get? b=some o'
def rK(P:Program)(w:World):AA:=λouter Hs s E e s'=>∃H' B ea C,e=.ref ea/\s'.os=s.os/\AllBare s'.gens/\Un (jZ outer) [] Hs H' s.heap s'.heap/\Fly P w outer H' s.heap Hs ea C s'.heap B/\E e (some C) H'
theorem wI{X:Cx}:jL (rK X.prog X.w) X E0:=λ_ _ _ _ _ _ _ ⟨_,_,_,_,_,_,_,_,_,z⟩=>z.elim
theorem AD{fs:List Addr}{H H':Hp}{h h1 h2 B:Heap}(u:Un fs [] H H' h h1)(kb:∀b o,h.get? b=some o->H b=none->b ∉ fs->B.get? b=some o)(kt:∀b o,h.get? b=some o->b ∉ fs->∃o',B.get? b=some o')
 (st:B.StaysIn h2)(up:h1.UpToSlots h2)(fr:∀b∈fs,∀o,h1.get? b=some o->∀vs,o.data≠ .fields vs):Un fs [] H H' h h2 where
 keep:=λb o e n hb _=>st b o (kb b o e n hb)
 slot:=λb o e n hb hx=>by
  obtain⟨sl,e1⟩:=u.slot b o e n hb hx;obtain⟨sl',e2⟩:=up b _ e1 (fr b hb _ e1);exact⟨sl',e2⟩
 free:=u.free
 there:=λb o e hx=>by
  by_cases hb:b∈fs
  ·obtain⟨o1,e1⟩:=u.there b o e hx;obtain⟨sl,e2⟩:=up b o1 e1 (fr b hb _ e1);exact⟨_,e2⟩
  ·obtain⟨o',e'⟩:=kt b o e hb;exact⟨o',st b o' e'⟩
 tups:=u.tups
 frzs:=u.frzs
 tbls:=u.tbls
structure FlyX (X:Cx)(pins:List (Addr×Obj))(H:Hp)(e C:Addr)(s:Shared)(B:Heap):Prop where
 fly:Fly X.prog X.w X.stack H X.s₀.heap X.H₀ e C s.heap B
 pc1:∀p∈X.pn++pins,B.get? p.1=some p.2
 pc2:∀x c,X.env.cells.lookup x=some c->∃o,s.heap.get? c=some o/\B.get? c=some o
section
variable {X:Cx}{pins:List (Addr×Obj)}{σ:Sg}{H:Hp}{s:Shared}
theorem sY(I:Inv X pins σ H s):∀b∈jZ X.stack,∀o,s.heap.get? b=some o->∀vs,o.data≠ .fields vs:=λb hb o e vs q=>by
 obtain⟨_,o',e',nf⟩:=I.stack.mem hb;rw[e] at e';cases e';exact nf vs q
theorem iB(I:Inv X pins σ H s){b:Addr}{o:Obj}(e:X.s₀.heap.get? b=some o)(hb:b ∉ jZ X.outer):b ∉ jZ X.stack:=λhm=>by
 rcases List.mem_cons.mp (I.stkSub b hm) with z|z
 ·exact absurd (Heap.lt_size e) (by rw[z];exact Nat.not_lt.mpr I.ok.above)
 ·exact hb z
end
theorem iW{P:Program}{w:World}{H:Hp}{h:Heap}{a:Addr}:∀{o:HO},ObjOk P w H h a o->∃u,h.get? a=some u:=by
 intro o x;cases o with
 |lst xs=>obtain⟨_,_,_,_,e⟩:=x;exact⟨_,e⟩
 |tup xs=>obtain⟨_,_,_,o,e,_⟩:=x;exact⟨_,e⟩
 |dK kvs=>obtain⟨_,_,_,_,o,_,_,e,_⟩:=x;exact⟨_,e⟩
 |dT kvs=>obtain⟨_,_,_,_,o,_,_,e,_⟩:=x;exact⟨_,e⟩
 |set S n=>obtain⟨o,_,_,_,e,_⟩:=x;exact⟨_,e⟩
 |ins C dx fs=>obtain⟨_,_,_,e,_⟩:=x;exact⟨_,e⟩
 |own y=>obtain⟨_,e⟩:=x;exact⟨_,e⟩
 |xd fs=>obtain⟨_,⟨_,_,_,e,_⟩,_⟩:=x;exact⟨_,e⟩
 |rng lo hi=>obtain⟨_,_,_,e⟩:=x;exact⟨_,e⟩
 |frz ob u=>obtain⟨e,_⟩:=x;exact⟨_,e⟩
 |tbl ps=>exact⟨_,x⟩
 |met f y=>exact⟨_,x⟩
 |ext φ=>obtain⟨_,⟨_,e⟩,_⟩:=x;exact⟨_,e⟩
structure XX (X:Cx)(ca:Nat->Addr)(W:Nat->Sg->Hp->Prop)(rz:Bool):Prop where
 ex:X.ex=[]
 stk:X.stack=X.env::X.outer/\X.env.frame=some X.env.locals
 fly:∀(pins:List (Addr×Obj))(σ:Sg)(H:Hp)(s:Shared)(e:Addr)(c:Nat),Inv X pins σ H s->(∃B,FlyX X pins H e (ca c) s B)->W c σ H->X.xe (.ref e) s
 made:rz=true->∀(pins:List (Addr×Obj))(σ:Sg)(H:Hp)(s:Shared)(h':Heap)(e:Addr)(c:Nat)(args:List Value),Inv X pins σ H s->Heap.MadeExcOf s.heap h' e (.ref (ca c)) args->W c σ H->X.xe (.ref e) {s with heap:=h'}
section
variable {P:Program}{w:World}{K:W.Frag}{mg:Str->Option Value}{base:Heap}{N:List Str}{qual:Str}{scope:Scope}{f:Addr}{cd:Value}{A:Around}{outer:List Env}{s₀:Shared}{H₀:Hp}{E:XK}{ca:Nat->Addr}
theorem UT:XX (iN (rK P w) P w K mg base N qual scope f cd A outer s₀ H₀ E) ca (λc _ H=>∀v,E v (some (ca c)) H) true where
 ex:=rfl
 stk:=⟨rfl,rfl⟩
 fly:=λpins σ H s e c I ⟨B,F⟩ hW=>by
  have F:=F.fly;obtain⟨t,fl⟩:=id F.fl;refine wpAny_leaves_onW (L:=s₀.heap.objs.size) I.ok.frames rfl fl λh' fl' up=>?_;refine⟨H,B,e,ca c,rfl,I.os,I.bare,?_,⟨⟨t,fl'⟩,F.hok,λb o e1 n hb=>F.kb b o e1 n (iB I e1 hb),λb o e1 hb=>F.kt b o e1 (iB I e1 hb)⟩,hW _⟩;exact AD (h1:=s.heap) I.base (λb o e1 n hb=>F.kb b o e1 n (iB I e1 hb)) (λb o e1 hb=>F.kt b o e1 (iB I e1 hb)) fl'.1 up λb hb o e1=>sY I b (Zj _ hb) o e1
 made:=λ_ pins σ H s h1 e c args I hx hW=>by
  have hin:∀env∈(iN (rK P w) P w K mg base N qual scope f cd A outer s₀ H₀ E).stack,∀b,env.frame=some b->b∈jZ (iN (rK P w) P w K mg base N qual scope f cd A outer s₀ H₀ E).stack:=λenv he b hb=>List.mem_filterMap.mpr ⟨env,he,hb⟩;refine wpAny_leaves_madeW (s:={s with heap:=h1}) (h:=s.heap) (base:=W.hideAll s.heap (jZ (iN (rK P w) P w K mg base N qual scope f cd A outer s₀ H₀ E).stack)) (L:=s₀.heap.objs.size) I.ok.frames rfl (λb o q=>W.of_hideAll _ q) (W.funFrames_hide I.stack hin) hx λh' t fl' _ _ up=>?_
  have kb:∀b o,s₀.heap.get? b=some o->H₀ b=none->b ∉ jZ outer->(W.hideAll s.heap (jZ (iN (rK P w) P w K mg base N qual scope f cd A outer s₀ H₀ E).stack)).get? b=some o:=λb o e1 n hb=>
   W.hideAll_get _ (I.base.keep b o e1 n hb (by simp[iN])) (iB I e1 hb)
  have kt:∀b o,s₀.heap.get? b=some o->b ∉ jZ outer->∃o',(W.hideAll s.heap (jZ (iN (rK P w) P w K mg base N qual scope f cd A outer s₀ H₀ E).stack)).get? b=some o':=λb o e1 hb=>by
   obtain⟨o1,e2⟩:=I.base.there b o e1 (by simp[iN]);exact⟨o1,W.hideAll_get _ e2 (iB I e1 hb)⟩
  refine⟨H,_,e,ca c,rfl,I.os,I.bare,?_,⟨⟨t,fl'⟩,HR I.hok I.stkFree,kb,kt⟩,hW _⟩
  have u1:Un (jZ outer) [] H₀ H s₀.heap h1:=by
   refine⟨λb o e1 n hb hn=>hx.keeps _ _ (I.base.keep b o e1 n hb hn),λb o e1 n hb hn=>?_,I.base.free,λb o e1 hn=>?_,I.base.tups,I.base.frzs,I.base.tbls⟩
   ·obtain⟨sl,q⟩:=I.base.slot b o e1 n hb hn;exact⟨sl,hx.keeps _ _ q⟩
   ·obtain⟨o1,q⟩:=I.base.there b o e1 hn;exact⟨o1,hx.keeps _ _ q⟩
  refine AD (h1:=h1) u1 kb kt fl'.1 up λb hb o e1=>?_;obtain⟨_,o',e',nf⟩:=I.stack.mem (Zj _ hb);have e2:=hx.keeps _ _ e';rw[e1] at e2;cases e2;exact nf
end
section
variable {X:Cx}{pins:List (Addr×Obj)}{σ:Sg}{H:Hp}{s:Shared}{e C:Addr}{B:Heap}{oe:Obj}
end
end Ng
end
section
namespace Ng
open PySem PySem.Spec PyProof.Rows L2 PySem.W Builtin Builtin.ObjectAttr Builtin.Getset_descriptor
structure ExcN (K:W.Frag)(C:Addr):Prop where
 ga:findIn K (.ref C) "__getattribute__"=some (some (.builtin "BaseException.__getattribute__"))
 gt:findIn K (.ref C) "__getattr__"=some none
 cl:findIn K (.ref C) "__class__"=some (some (.builtin "object.__class__"))
 gg:specialIn K (.builtin "object.__class__") "__get__"=some (some (.builtin "getset_descriptor.__get__"))
 tk:takesIn K (.builtin "object.__class__")=some true
 mr:mroIn K C (.type "object")=some true
 mb:mroIn K C (.type "BaseException")=some true
 ty:∃l n,excIn K C l n=true
section
variable {prog:Program}{w:World}{A:Around}{E:Value->Shared->Prop}{s:Shared}{K:W.Frag}{x C:Addr}{ox:Obj}
end
end Ng
end
section
namespace Ng
open PySem PySem.W PyProof.Rows
noncomputable def KOk(n:Nat)(L:Nat->Nat->Bool){α:Type}:KasT α->(α->Prop)->Prop
 |.ret a,Q=>Q a
 |.ask i j k,Q=>i<n/\j<n/\i≠j/\KOk n L (k (L i j)) Q
section
variable {n:Nat}{L:Nat->Nat->Bool}{α β:Type}
theorem KOk.mono:∀{t:KasT α}{Q Q':α->Prop},KOk n L t Q->(∀a,Q a->Q' a)->KOk n L t Q'
 |.ret a,_,_,h,c=>c a h
 |.ask i j k,_,_,h,c=>⟨h.1,h.2.1,h.2.2.1,KOk.mono (t:=k (L i j)) h.2.2.2 c⟩
theorem KOk.bind{f:α->KasT β}{Q:β->Prop}:∀{t:KasT α},KOk n L t (λa=>KOk n L (f a) Q)->KOk n L (t.bind f) Q
 |.ret a,h=>h
 |.ask i j k,h=>⟨h.1,h.2.1,h.2.2.1,KOk.bind (t:=k (L i j)) h.2.2.2⟩
theorem KOk.wp{cmp:Nat->Nat->(Bool->Shared->Prop)->Shared->Prop}{s:Shared}(hc:∀i j (C:Bool->Shared->Prop),i<n->j<n->i≠j->C (L i j) s->cmp i j C s){R:α->Shared->Prop}:∀{t:KasT α}{Q:α->Prop},KOk n L t Q->(∀a,Q a->R a s)->t.kasWp cmp R s
 |.ret a,_,h,c=>c a h
 |.ask i j k,_,h,c=>hc i j _ h.1 h.2.1 h.2.2.1 (KOk.wp hc (t:=k (L i j)) h.2.2.2 c)
end
noncomputable abbrev gD(p:Array Nat)(i:Nat):Nat:=p.getD i 0
structure SO (n:Nat)(L:Nat->Nat->Bool):Prop where
 tot:∀i j,i<n->j<n->i≠j->L i j=true\/L j i=true
 tr:∀i j k,i<n->j<n->k<n->L i j=true->L j k=true->L i k=true
def PV(n:Nat)(p:Array Nat):Prop:=p.toList.Perm (List.range n)
def Sd(L:Nat->Nat->Bool)(p:Array Nat)(k:Nat):Prop:=∀i j,i<j->j<k->L (gD p i) (gD p j)=true
section
variable {n:Nat}{L:Nat->Nat->Bool}{p:Array Nat}
theorem PV.size(h:PV n p):p.size=n:=by
 have:=h.length_eq;simpa using this
theorem wR{i:Nat}(h:i<p.size):gD p i=p[i]:=by simp[gD,Array.getD,h]
theorem PV.lt(h:PV n p){i:Nat}(hi:i<n):gD p i<n:=by
 have hz:=h.size;rw[wR (by omega)];have:p[i]∈p.toList:=by simp
 exact List.mem_range.mp (h.mem_iff.mp this)
theorem PV.ne(h:PV n p){i j:Nat}(hi:i<n)(hj:j<n)(hij:i≠j):gD p i≠gD p j:=by
 have hz:=h.size;have nd:p.toList.Nodup:=h.nodup_iff.mpr List.nodup_range;rw[wR (by omega),wR (by omega)];intro e;rw[List.Nodup,List.pairwise_iff_getElem] at nd;rcases Nat.lt_or_gt_of_ne hij with z|z
 ·exact nd i j (by simpa using(by omega:i<p.size)) (by simpa using(by omega:j<p.size)) z (by simpa using e)
 ·exact nd j i (by simpa using(by omega:j<p.size)) (by simpa using(by omega:i<p.size)) z (by simpa using e.symm)
theorem PV.perm{q:Array Nat}(h:PV n p)(e:q.Perm p):PV n q:=(Array.perm_iff_toList_perm.mp e).trans h
theorem AS(so:SO n L)(h:PV n p){i j:Nat}(hi:i<n)(hj:j<n)(hij:i≠j)(e:L (gD p j) (gD p i)=false):L (gD p i) (gD p j)=true:=by
 rcases so.tot _ _ (h.lt hi) (h.lt hj) (h.ne hi hj hij) with z|z
 ·exact z
 ·rw[e] at z;cases z
theorem Sd.snoc(so:SO n L)(h:PV n p){k:Nat}(hk:k<n)(h1:1<=k)(s:Sd L p k)(e:L (gD p (k-1)) (gD p k)=true):Sd L p (k+1):=λi j hij hj=>by
 by_cases z:j<k
 ·exact s i j hij z
 ·have ej:j=k:=by omega
  subst ej
  by_cases y:i=j-1
  ·subst y;exact e
  ·exact so.tr _ _ _ (h.lt (by omega)) (h.lt (by omega)) (h.lt hk) (s i (j-1) (by omega) (by omega)) e
theorem vP(so:SO n L)(h:PV n p):∀(f k:Nat),1<=k->k+f<=n->Sd L p k->KOk n L (kas_asc p f k) (λm=>k<=m/\m<=k+f/\Sd L p m/\(m<k+f->L (gD p m) (gD p (m-1))=true))
 |0,k,h1,h2,s=>⟨Zn _,Zn _,s,λz=>absurd z (Nat.lt_irrefl _)⟩
 |f+1,k,h1,h2,s=>by
  refine⟨h.lt (by omega),h.lt (by omega),h.ne (by omega) (by omega) (by omega),?_⟩;cases e:L (gD p k) (gD p (k-1)) with
  |true=>exact⟨Zn _,by omega,s,λ_=>e⟩
  |false=>
   refine KOk.mono (vP so h f (k+1) (by omega) (by omega) (s.snoc so h (by omega) h1 (AS so h (by omega) (by omega) (by omega) e))) λm ⟨a,b,c,d⟩=>⟨by omega,by omega,c,λz=>d (by omega)⟩
def Ds(L:Nat->Nat->Bool)(p:Array Nat)(k:Nat):Prop:=∀i j,i<j->j<k->L (gD p j) (gD p i)=true
theorem Ds.snoc(so:SO n L)(h:PV n p){k:Nat}(hk:k<n)(h1:1<=k)(s:Ds L p k)(e:L (gD p k) (gD p (k-1))=true):Ds L p (k+1):=λi j hij hj=>by
 by_cases z:j<k
 ·exact s i j hij z
 ·have ej:j=k:=by omega
  subst ej
  by_cases y:i=j-1
  ·subst y;exact e
  ·exact so.tr _ _ _ (h.lt hk) (h.lt (by omega)) (h.lt (by omega)) e (s i (j-1) (by omega) (by omega))
theorem xH(so:SO n L)(h:PV n p):∀(f k:Nat),1<=k->k+f<=n->Ds L p k->KOk n L (kas_desc f p k 0) (λr=>r.1=p/\r.2.2=0/\k<=r.2.1/\r.2.1<=k+f/\Ds L p r.2.1)
 |0,k,h1,h2,s=>⟨rfl,rfl,Zn _,Zn _,s⟩
 |f+1,k,h1,h2,s=>by
  refine⟨h.lt (by omega),h.lt (by omega),h.ne (by omega) (by omega) (by omega),?_⟩;cases e:L (gD p k) (gD p (k-1)) with
  |true=>
   refine KOk.mono (xH so h f (k+1) (by omega) (by omega) (s.snoc so h (by omega) h1 e)) λr ⟨a,b,c,d,x⟩=>⟨a,b,by omega,by omega,x⟩
  |false=>
   have e':=AS so h (i:=k-1) (j:=k) (by omega) (by omega) (by omega) e;refine⟨h.lt (by omega),h.lt (by omega),h.ne (by omega) (by omega) (by omega),?_⟩;rw[show L (p.getD (k-1) 0) (p.getD k 0)=true from e'];exact⟨rfl,rfl,Zn _,Nat.le_add_right k (f+1),s⟩
theorem wF{k:Nat}(hm:k<=p.size)(i:Nat):gD (kas_rev p 0 k) i=if i<k then gD p (k-1-i) else gD p i:=by
 have e:=getElem?_mirror_all (i:=0) (j:=k) hm i;unfold kas_rev;have g:∀(q:Array Nat)(i:Nat),gD q i=(q[i]?).getD 0:=λq i=>by simp[gD,Array.getD_eq_getD_getElem?]
 rw[g,e]
 by_cases hi:i<k
 ·rw[if_pos ⟨Nat.zero_le _,hi⟩,if_pos hi,g,show 0+k-1-i=k-1-i by omega]
 ·rw[if_neg (λz=>hi z.2),if_neg hi,g]
theorem FJ(so:SO n L)(h:PV n p){m:Nat}(h1:1<=m)(hm:m<=n)(s:Ds L p m):KOk n L (kas_tail3 m n p) (λr=>PV n r.2/\m<=r.1/\r.1<=n/\Sd L r.2 r.1):=by
 have hz:=h.size;have hp:PV n (kas_rev p 0 m):=h.perm (mirror_perm _ _ _ _)
 have hs:Sd L (kas_rev p 0 m) m:=λi j hij hj=>by
  rw[wF (by omega),wF (by omega),if_pos (by omega),if_pos hj];exact s (m-1-j) (m-1-i) (by omega) (by omega)
 unfold kas_tail3;exact KOk.bind (KOk.mono (vP so hp (n-m) m h1 (by omega) hs) λr ⟨a,b,c,_⟩=>⟨hp,a,by omega,c⟩)
theorem ED(so:SO n L)(h:PV n p)(h2:2<=n):KOk n L (kas_count n p) (λr=>PV n r.2/\1<=r.1/\r.1<=n/\Sd L r.2 r.1):=by
 unfold kas_count;refine KOk.bind (KOk.mono (vP so h (n-1) 1 (Zn _) (by omega) λi j a b=>by omega) λm ⟨a,b,c,d⟩=>?_)
 by_cases e:m=n
 ·subst e;rw[if_pos (by simp)];exact⟨h,a,Zn _,c⟩
 ·rw[if_neg (by simpa using e)]
  by_cases g:m>1
  ·rw[if_pos g];refine⟨h.lt (by omega),h.lt (by omega),h.ne (by omega) (by omega) (by omega),?_⟩;have e2:L (p.getD 0 0) (p.getD (m-1) 0)=true:=c 0 (m-1) (by omega) (by omega);rw[e2];show KOk n L (if true=true then KasT.ret (m,p) else _) _;rw[if_pos rfl];exact⟨h,a,(by show m<=n;omega),c⟩
  ·rw[if_neg g];have em:m=1:=by omega
   subst em;unfold kas_descPart;have d':=d (by omega);refine KOk.bind (KOk.mono (xH so h (n-(1+1)) (1+1) (by omega) (by omega) λi j a b=>?_) λr ⟨x1,x2,x3,x4,x5⟩=>?_)
   ·have:j=1:=by omega
    have:i=0:=by omega
    subst_vars
    exact d'
   ·rw[x2,if_neg (by omega),x1];exact KOk.mono (FJ so h (by omega) (by omega) x5) λr ⟨y1,y2,y3,y4⟩=>⟨y1,by omega,y3,y4⟩
theorem mX(so:SO n L)(h:PV n p){k:Nat}(hk:k<n)(s:Sd L p k):∀(f l r:Nat),l<=r->r<=k->r-l<=f->(∀i,i<l->L (gD p i) (gD p k)=true)->(∀i,r<=i->i<k->L (gD p k) (gD p i)=true)->
 KOk n L (kas_place p k f l r) (λm=>m<=k/\(∀i,i<m->L (gD p i) (gD p k)=true)/\∀i,m<=i->i<k->L (gD p k) (gD p i)=true)
 |0,l,r,h1,h2,h3,a,b=>by
  have:l=r:=by omega
  subst this;exact⟨h2,a,b⟩
 |f+1,l,r,h1,h2,h3,a,b=>by
  unfold kas_place
  by_cases g:l ≥ r
  ·rw[if_pos g];have:l=r:=by omega
   subst this;exact⟨h2,a,b⟩
  ·rw[if_neg g];have hm1:l<=(l+r)/2:=by omega
   have hm2:(l+r)/2<r:=by omega
   generalize (l+r)/2=m at hm1 hm2⊢;have hmk:m<k:=Nat.lt_of_lt_of_le hm2 h2;have hmn:=Nat.lt_trans hmk hk;refine⟨h.lt hk,h.lt hmn,h.ne hk hmn (Nat.ne_of_gt hmk),?_⟩;cases e:L (p.getD k 0) (p.getD m 0) with
   |true=>
    refine mX so h hk s f l m hm1 (Nat.le_of_lt hmk) (by omega) a λi x y=>?_
    by_cases z:i=m
    ·subst z;exact e
    ·exact so.tr _ _ _ (h.lt hk) (h.lt hmn) (h.lt (Nat.lt_trans y hk)) e (s _ _ (Nat.lt_of_le_of_ne x (Ne.symm z)) y)
   |false=>
    have e':=AS so h (i:=m) (j:=k) hmn hk (Nat.ne_of_lt hmk) e;refine mX so h hk s f (m+1) r hm2 h2 (by omega) (λi x=>?_) b
    by_cases z:i=m
    ·subst z;exact e'
    ·have him:i<m:=Nat.lt_of_le_of_ne (Nat.le_of_lt_succ x) z;exact so.tr _ _ _ (h.lt (Nat.lt_trans him hmn)) (h.lt hmn) (h.lt hk) (s i _ him hmk) e'
theorem xL{k l:Nat}(hk:k<p.size)(hl:l<=k)(i:Nat):gD (bubble p k (k-l)) i=if i=l then gD p k else if l<i/\i<=k then gD p (i-1) else gD p i:=by
 have e:=getElem?_bubble hk (k-l) (by omega) i;have g:∀(q:Array Nat)(i:Nat),gD q i=(q[i]?).getD 0:=λq i=>by simp[gD,Array.getD_eq_getD_getElem?]
 rw[show k-(k-l)=l by omega] at e;rw[g,e]
 by_cases h1:i=l
 ·rw[if_pos h1,if_pos h1,g]
 ·rw[if_neg h1,if_neg h1]
  by_cases h2:l<i/\i<=k
  ·rw[if_pos h2,if_pos h2,g]
  ·rw[if_neg h2,if_neg h2,g]
end
theorem EQ{n:Nat}{L:Nat->Nat->Bool}(so:SO n L):∀(f k:Nat)(p:Array Nat),k+f=n->PV n p->Sd L p k->KOk n L (kas_bin f p k) (λq=>PV n q/\Sd L q n)
 |0,k,p,hk,h,s=>⟨h,by rw[<- hk];exact s⟩
 |f+1,k,p,hk,h,s=>by
  have hz:=h.size;unfold kas_bin;refine KOk.bind (KOk.mono (mX so h (by omega) s k 0 k (by omega) (Zn _) (by omega) (λi z=>by omega) λi x y=>by omega) λl ⟨a,b,c⟩=>?_);refine EQ so f (k+1) _ (by omega) (h.perm (bubble_perm _ _ _)) λi j hij hj=>?_;rw[xL (by omega) a,xL (by omega) a]
  by_cases i1:i=l
  ·rw[if_pos i1,if_neg (by omega),if_pos (by omega)];exact c _ (by omega) (by omega)
  ·rw[if_neg i1]
   by_cases j1:j=l
   ·rw[if_neg (by omega),if_pos j1];exact b _ (by omega)
   ·rw[if_neg j1]
    by_cases i2:l<i/\i<=k
    ·rw[if_pos i2,if_pos (by omega)];exact s _ _ (by omega) (by omega)
    ·rw[if_neg i2]
     by_cases j2:l<j/\j<=k
     ·rw[if_pos j2];exact s _ _ (by omega) (by omega)
     ·rw[if_neg j2];exact s _ _ (by omega) (by omega)
theorem qE{n:Nat}{L:Nat->Nat->Bool}(so:SO n L)(h2:2<=n):KOk n L (kas_sort n) (λq=>PV n q/\Sd L q n):=by
 have h0:PV n (List.toArray (List.range n)):=by unfold PV;simp
 unfold kas_sort;refine KOk.bind (KOk.mono (ED so h0 h2) λr ⟨a,b,c,d⟩=>?_)
 by_cases g:r.1<n
 ·rw[if_pos g,show max r.1 1=r.1 by omega];exact EQ so _ _ _ (by omega) a d
 ·rw[if_neg g];have:r.1=n:=by omega
  rw[this] at d;exact⟨a,d⟩
section
variable {δ:Type}
theorem fC{R:δ->δ->Prop}(as:∀x y,R x y->R y x->False):∀{l1 l2:List δ},l1.Perm l2->l1.Pairwise R->l2.Pairwise R->l1=l2
 | [],l2,hp,_,_=>(List.nil_perm.mp hp).symm
 |x::l1,[],hp,_,_=>absurd (List.perm_nil.mp hp) (by simp)
 |x::l1,y::l2,hp,h1,h2=>by
  have exy:x=y:=by
   obtain⟨a1,b1⟩:=List.pairwise_cons.mp h1;obtain⟨a2,b2⟩:=List.pairwise_cons.mp h2;have hx:x∈y::l2:=hp.mem_iff.mp Zl;have hy:y∈x::l1:=hp.mem_iff.mpr Zl;rcases List.mem_cons.mp hx with z|z
   ·exact z
   ·rcases List.mem_cons.mp hy with w|w
    ·exact w.symm
    ·exact(as x y (a1 y w) (a2 x z)).elim
  subst exy;rw[fC as (List.perm_cons x |>.mp hp) (List.pairwise_cons.mp h1).2 (List.pairwise_cons.mp h2).2]
def Bef(lt:δ->δ->Option Bool)(x y:δ):Prop:=lt x y=some true/\lt y x=some false
theorem Bef.asy{lt:δ->δ->Option Bool}{x y:δ}(a:Bef lt x y)(b:Bef lt y x):False:=by
 have:=a.1;rw[b.2] at this;cases this
theorem EK{lt:δ->δ->Option Bool}{l:List δ}(h:l.Pairwise (Bef lt)){i j:Nat}(hi:i<l.length)(hj:j<l.length)(ne:i≠j):(lt l[i] l[j]=some true->i<j)/\(i<j->Bef lt l[i] l[j]):=by
 rw[List.pairwise_iff_getElem] at h;refine⟨λe=>?_,λz=>h i j hi hj z⟩;rcases Nat.lt_trichotomy i j with z|z|z
 ·exact z
 ·exact absurd z ne
 ·have:=(h j i hj hi z).2;rw[e] at this;cases this
theorem oF{lt:δ->δ->Option Bool}{l:List δ}(h:l.Pairwise (Bef lt)):l.Nodup:=h.imp λa z=>by
 subst z;have:=a.1;rw[a.2] at this;cases this
theorem gC{l l':List δ}(hp:l'.Perm l){i:Nat}{x:δ}(e:l[i]? =some x):∃k:Nat,l'[k]? =some x:=by
 obtain⟨k,hk,z⟩:=List.mem_iff_getElem.mp (hp.mem_iff.mpr (List.mem_of_getElem? e));exact⟨k,by rw[Zd hk,z]⟩
theorem iD{l:List δ}(nd:l.Nodup){i j:Nat}{x:δ}(a:l[i]? =some x)(b:l[j]? =some x):i=j:=by
 obtain⟨hi,ei⟩:=Ze.mp a;obtain⟨hj,ej⟩:=Ze.mp b;rw[List.Nodup,List.pairwise_iff_getElem] at nd;rcases Nat.lt_trichotomy i j with z|z|z
 ·exact(nd i j hi hj z (ei.trans ej.symm)).elim
 ·exact z
 ·exact(nd j i hj hi z (ej.trans ei.symm)).elim
theorem kH{lt:δ->δ->Option Bool}{l:List δ}(h:l.Pairwise (Bef lt)){a b:Nat}{x y:δ}(ha:l[a]? =some x)(hb:l[b]? =some y)(ne:a≠b):(lt x y=some true↔a<b)/\(a<b->Bef lt x y):=by
 obtain⟨hi,rfl⟩:=Ze.mp ha;obtain⟨hj,rfl⟩:=Ze.mp hb;obtain⟨p,q⟩:=EK h hi hj ne;exact⟨⟨p,λz=>(q z).1⟩,q⟩
theorem AR{lt:δ->δ->Option Bool}{l l':List δ}(hp:l'.Perm l)(h:l'.Pairwise (Bef lt)){L:Nat->Nat->Bool}(hne:∀i,L i i=false)(hL:∀(i j:Nat)(x y:δ),l[i]? =some x->l[j]? =some y->i≠j->(L i j=true↔lt x y=some true)):SO l.length L:=by
 have nd':=oF h;have nd:l.Nodup:=hp.nodup_iff.mp nd';have g:∀i,i<l.length->∃x,l[i]? =some x:=λi hi=>⟨_,Zd hi⟩;refine⟨λi j hi hj hij=>?_,λi j k hi hj hk e1 e2=>?_⟩
 ·obtain⟨x,ex⟩:=g i hi;obtain⟨y,ey⟩:=g j hj;obtain⟨a,ea⟩:=gC hp ex;obtain⟨b,eb⟩:=gC hp ey
  have nab:a≠b:=λz=>by
   subst z;rw[ea] at eb;cases eb;exact hij (iD nd ex ey)
  rcases Nat.lt_or_gt_of_ne nab with z|z
  ·exact .inl ((hL i j x y ex ey hij).mpr ((kH h ea eb nab).1.mpr z))
  ·exact .inr ((hL j i y x ey ex (Ne.symm hij)).mpr ((kH h eb ea (Ne.symm nab)).1.mpr z))
 ·obtain⟨x,ex⟩:=g i hi;obtain⟨y,ey⟩:=g j hj;obtain⟨z,ez⟩:=g k hk;obtain⟨a,ea⟩:=gC hp ex;obtain⟨b,eb⟩:=gC hp ey;obtain⟨c,ec⟩:=gC hp ez;have nij:i≠j:=λq=>by subst q;rw[hne] at e1;cases e1
  have njk:j≠k:=λq=>by subst q;rw[hne] at e2;cases e2
  have nab:a≠b:=λq=>by
   subst q;rw[ea] at eb;cases eb;exact nij (iD nd ex ey)
  have nbc:b≠c:=λq=>by
   subst q;rw[eb] at ec;cases ec;exact njk (iD nd ey ez)
  have l1:=(kH h ea eb nab).1.mp ((hL i j x y ex ey nij).mp e1);have l2:=(kH h eb ec nbc).1.mp ((hL j k y z ey ez njk).mp e2)
  have nik:i≠k:=λq=>by
   subst q;rw[ex] at ez;cases ez;have:=iD nd' ea ec;omega
  exact(hL i k x z ex ez nik).mpr ((kH h ea ec (by omega)).1.mpr (by omega))
theorem yO(l:List δ)(d:δ):(List.range l.length).map (λi=>l.getD i d)=l:=by
 apply List.ext_getElem?
 intro i;rw[Zi]
 by_cases hi:i<l.length
 ·rw[List.getElem?_range hi,Zd hi];simp[List.getD_eq_getElem?_getD,Zd hi]
 ·rw[List.getElem?_eq_none (by simpa using hi),List.getElem?_eq_none (by simpa using hi)];rfl
theorem uP{lt:δ->δ->Option Bool}{l l':List δ}(hp:l'.Perm l)(h:l'.Pairwise (Bef lt)){L:Nat->Nat->Bool}(hL:∀(i j:Nat)(x y:δ),l[i]? =some x->l[j]? =some y->i≠j->(L i j=true↔lt x y=some true)){p:Array Nat}(hv:PV l.length p)(hs:Sd L p l.length)(d:δ):
 p.toList.map (λi=>l.getD i d)=l':=by
 have nd':=oF h;have nd:l.Nodup:=hp.nodup_iff.mp nd';refine fC (R:=Bef lt) (λ_ _=>Bef.asy) (((hv.map _).trans (by rw[yO])).trans hp.symm) ?_ h;rw[List.pairwise_iff_getElem];intro a b ha hb hab;rw[Zc,Array.length_toList] at ha hb;have hz:=hv.size
 have e:∀c (hc:c<p.size),(p.toList.map (λi=>l.getD i d))[c]'(by simpa using hc)=l.getD (gD p c) d:=λc hc=>by
  rw[List.getElem_map,wR hc];rfl
 rw[e a ha,e b hb];have la:=hv.lt (i:=a) (by omega);have lb:=hv.lt (i:=b) (by omega);have nab:=hv.ne (i:=a) (j:=b) (by omega) (by omega) (by omega);have g:∀i,i<l.length->l[i]? =some (l.getD i d):=λi hi=>by simp[List.getD_eq_getElem?_getD,Zd hi]
 have t:=(hL _ _ _ _ (g _ la) (g _ lb) nab).mp (hs a b hab (by omega));obtain⟨x,ex⟩:=gC hp (g _ la);obtain⟨y,ey⟩:=gC hp (g _ lb)
 have nxy:x≠y:=λq=>by
  subst q;rw[ex] at ey;have e2:=Zg ey;exact nab (iD nd (g _ la) (by rw[e2];exact g _ lb))
 exact(kH h ex ey nxy).2 ((kH h ex ey nxy).1.mp t)
end
end Ng
end
section
namespace Ng
open PySem PySem.Spec PyProof.Rows L2
inductive Bop where
 |add|sub|mul|fdiv|mod|pow
inductive Cop where
 |lt|le|gt|ge|eq|ne|is|isnot|inn|notin
inductive Ty where
 |int|bool|str|tuple|list
noncomputable def Ty.nm:Ty->String
 |.int=>"int"|.bool=>"bool"|.str=>"str"|.tuple=>"tuple"|.list=>"list"
inductive Blt where
 |len|isinst|int|list|max|min|sorted|all|tup
inductive Tg where
 |nm (i:Nat)|tp (l:List Nat)
inductive Ck where
 |r1|r2|sq|its|itf|st
noncomputable def gB:List Nat->List D->Ev->Ev
 |i::is,d::ds,r=>gB is ds (r.set i (some d))
 |_,_,r=>r
noncomputable def cX:Tg->D->Ev->Option Ev
 |.nm i,d,r=>some (r.set i (some d))
 |.tp l,.tup ds,r=>if ds.length=l.length then some (gB l ds r) else none
 |_,_,_=>none
noncomputable def bU(i j:Int):List D:=(List.range (j-i).toNat).map λ(k:Nat)=>D.int (i+k)
def kJ(j:Int):Prop:= -(2^62)<=j/\j<2^62
instance (j:Int):Decidable (kJ j):=by unfold kJ;infer_instance
mutual
inductive E where
 |var (i:Nat)|int (i:Int)|bl (b:Bool)|non|str (x:Str)|gc (g:Nat)|ty (t:Ty)
 |bin (op:Bop) (a b:E)|neg (a:E)|cmp (op:Cop) (a b:E)
 |and (a b:E)|or (a b:E)|not (a:E)|ite (c a b:E)
 |ix (a b:E)|tup (l:Es)|lst (l:Es)|call (f:Nat) (l:Es)|blt (f:Blt) (l:Es)|app (o e:E)
 |comp (t:Tg) (k:Ck) (it cs:Es) (e:E) (N:List Str) (cap:List Nat)
 |mxd (mx:Bool) (l d:E)|lrg (e:E)|disp (ks:List Str) (vs:Es)|ins (o i e:E)
 |slU (a b:E)|slL (a b:E)|att (o:E) (cn f:Str)|new (cn:Str) (f:Nat) (l:Es)|slT (a b:E)|slA (a b:E)|slZ (a b:E)|mth (o:E) (cn m:Str) (f:Nat) (l:Es)|chn (op op':Cop) (a b c:E)|rev (o:E)|dcT (t:Tg) (i k v:E) (N:List Str) (cap:List Nat)|dnw|dnt|get2 (o k d:E)|join (x:Str) (e:E)|sbn (o:E) (P:Addr) (pos:Pos) (q:Str)|rvs (o:E)|sdk (o:E)|cm2 (x y:Nat) (i j e:E) (N:List Str) (cap:List Nat)|dcomp (t1:Tg) (i1:E) (t2:Tg) (i2 k v:E) (N:List Str) (cap:List Nat)
inductive Es where
 |nil|cons (e:E) (r:Es)
end
noncomputable def fZ:D->Hh->Option Bool
 |.non,_=>some false
 |.bl b,_=>some b
 |.int i,_=>some (i != 0)
 |.str y,_=>if y.length<=sizeLine then some ((y.length:Int) != 0) else none
 |.tup l,_=>some (!l.isEmpty)
 |.ref n,h=>match aJ h n with
  |some l=>some (!l.isEmpty)
  |none=>none
 |.ty _,_=>none
noncomputable def bX:Bop->D->D->Hh->Rs D
 |.add,.int i,.int j,h=>.ok (.int (i+j)) h
 |.add,.str x,.str y,h=>if x.length+y.length<=sizeLine then .ok (.str (x++y)) h else .bad
 |.add,.tup a,.tup b,h=>if a.length+b.length<=1000/\0<a.length/\0<b.length then .ok (.tup (a++b)) h else .bad
 |.add,.ref n,.ref k,h=>match h[n]?,h[k]? with
  |some (.lst a),some (.lst b)=>if a.length+b.length<=1000 then .ok (.ref h.length) (h++ [.lst (a++b)]) else .bad
  |_,_=>.bad
 |.sub,.int i,.int j,h=>.ok (.int (i-j)) h
 |.mul,.int i,.int j,h=>if(-(2^64)<i/\i<2^64)\/(-(2^64)<j/\j<2^64) then .ok (.int (i*j)) h else .bad
 |.fdiv,.int i,.int j,h=>if 0<j/\j<1073741824 then .ok (.int (i/j)) h else .bad
 |.mod,.int i,.int j,h=>if 0<j then .ok (.int (i%j)) h else .bad
 |.pow,.int i,.int j,h=>if 0<=j/\j<=1000000/\i.natAbs<2^64 then .ok (.int (i^j.toNat)) h else .bad
 |_,_,_,_=>.bad
noncomputable def oR(f:D->D->Option Bool):List D->List D->Option Bool
 | [],[]=>some true
 | [],_::_=>some false
 |_::_,[]=>some false
 |x::xs,y::ys=>match f x y,oR f xs ys with
  |some a,some b=>some (a&&b)
  |_,_=>none
noncomputable def iQ:Nat->D->D->Option Bool
 |_,.non,.non=>some true
 |_,.non,.int _=>some false
 |_,.int _,.non=>some false
 |_,.non,.str _=>some false
 |_,.str _,.non=>some false
 |_,.int a,.int b=>some (a==b)
 |_,.bl a,.bl b=>some (a==b)
 |_,.str a,.str b=>some (a==b)
 |_,.int _,.str _=>some false
 |_,.str _,.int _=>some false
 |n+1,.tup a,.tup b=>oR (iQ n) a b
 |_,_,_=>none
noncomputable def DK:D->D->Hh->Option Bool
 |.ref i,.ref j,h=>match aJ h i,aJ h j with
  |some a,some b=>if a.length=b.length then oR (iQ 20) a b else some false
  |_,_=>none
 |x,y,_=>iQ 20 x y
noncomputable def fR:D->Bool
 |.non=>true
 |_=>false
noncomputable def flat:D->Bool
 |.non=>true|.bl _=>true|.int _=>true|.str _=>true
 |_=>false
noncomputable def eqF:D->D->Bool
 |.non,.non=>true
 |.bl a,.bl b=>a==b
 |.bl a,.int b=>(if a then 1 else 0)==b
 |.int a,.bl b=>a==(if b then 1 else 0)
 |.int a,.int b=>a==b
 |.str a,.str b=>a==b
 |_,_=>false
noncomputable def KL(x:D)(l:List D)(neg:Bool)(h:Hh):Rs D:=if flat x=true/\l.all flat=true then .ok (.bl (if neg then !(l.any λy=>eqF y x) else l.any λy=>eqF y x)) h else .bad
noncomputable def eC:D->Hh->Option (List D)
 |.tup l,_=>some l
 |.ref n,h=>aJ h n
 |_,_=>none
noncomputable def dO(h:Hh)(x:D):Option (List (cB×D)):=match x with
 |.ref n=>match h[n]? with
  |some (.dct l)=>some l
  |_=>none
 |_=>none
noncomputable def CC:D->Option cB
 |.int i=>some (.inl i)
 |.str x=>some (.inr x)
 |_=>none
noncomputable def gN(l:List (cB×D))(k:cB):Option D:=(l.find? λkv=>decide (kv.1=k)).map (·.2)
noncomputable def KK(x:D)(l:List (cB×D))(neg:Bool)(h:Hh):Rs D:=match CC x with
 |some k=>.ok (.bl (if neg then !(gN l k).isSome else(gN l k).isSome)) h
 |none=>.bad
noncomputable def sC(l:List (cB×D))(k:cB)(v:D):List (cB×D):=if l.any (λkv=>decide (kv.1=k)) then l.map (λkv=>if kv.1=k then(kv.1,v) else kv) else l++ [(k,v)]
noncomputable def UQ(x y z:D)(h:Hh):Rs D:=match dO h x,CC y with
 |some l,some k=>.ok ((gN l k).getD z) h
 |_,_=>.bad
noncomputable def tF(n:Nat)(y z:D)(h:Hh):Rs Unit:=match h[n]?,CC y with
 |some (.dct l),some k=>if l.length<1000 then .ok () (h.set n (.dct (sC l k z))) else .bad
 |_,_=>.bad
noncomputable def mQ:List D->Option (List Str)
 | []=>some []
 |.str x::r=>(mQ r).map (x:: ·)
 |_::_=>none
noncomputable def CA:List D->List D->Option Bool
 | [],[]=>some false
 | [],_::_=>some true
 |_::_,[]=>some false
 |.int a::xs,.int b::ys=>if a=b then CA xs ys else some (decide (a<b))
 |.str a::xs,.str b::ys=>if a=b then CA xs ys else some (decide (a.cps.toList<b.cps.toList))
 |_,_=>none
noncomputable def lS:D->D->Option Bool
 |.int a,.int b=>some (decide (a<b))
 |.str a,.str b=>some (decide (a.cps.toList<b.cps.toList))
 |.tup a,.tup b=>CA a b
 |_,_=>none
noncomputable def sO:D->Nat
 |.int _=>1
 |.str _=>2
 |.tup (.int _::_)=>3
 |.tup (.str _::_)=>4
 |_=>0
def JM(l:List D):Prop:=l.length<64/\(l.length<2\/∃k,k≠0/\∀x∈l,sO x=k)
open Classical in
noncomputable def mS(l:List D):Option (List D):=if h:JM l/\∃l':List D,l'.Perm l/\l'.Pairwise (Bef lS) then some (Classical.choose h.2) else none
theorem qD{l l':List D}(c:JM l)(hp:l'.Perm l)(hs:l'.Pairwise (Bef lS)):mS l=some l':=by
 have h:JM l/\∃l':List D,l'.Perm l/\l'.Pairwise (Bef lS):=⟨c,l',hp,hs⟩;unfold mS;rw[dif_pos h];have q:=Classical.choose_spec h.2;rw[fC (R:=Bef lS) (λ_ _=>Bef.asy) (q.1.trans hp.symm) q.2 hs]
theorem wA{l l':List D}(e:mS l=some l'):JM l/\l'.Perm l/\l'.Pairwise (Bef lS):=by
 unfold mS at e;split at e
 ·rename_i h;have q:=Classical.choose_spec h.2;have e':=Zg e;rw[e'] at q;exact⟨h.1,q⟩
 ·cases e
noncomputable def dN(h:Hh)(x:D):Option (List (List Int×D)):=match x with
 |.ref n=>match h[n]? with
  |some (.dtf l)=>some l
  |_=>none
 |_=>none
noncomputable def sS:List D->Option (List Int)
 | []=>some []
 |.int i::r=>(sS r).map (i:: ·)
 |_::_=>none
noncomputable def oK(l:List (List Int×D))(k:List Int):Option D:=(l.find? λkv=>decide (kv.1=k)).map (·.2)
noncomputable def KI(x y:D)(h:Hh):Option Bool:=match x,y with
 |.str a,.str b=>some (!(Builtin.Str.occurrences b a 0 b.length 1).isEmpty)
 |.tup ks,y=>match dN h y with
  |some l=>(sS ks).map λk=>(oK l k).isSome
  |none=>none
 |_,_=>none
noncomputable def RH(x:D):List D->Option Bool
 | []=>some false
 |y::r=>match iQ 20 y x,RH x r with
  |some a,some b=>some (a||b)
  |_,_=>none
noncomputable def HN(x y:D)(l:List D):Option Bool:=match x,y with
 |.tup _,.ref _=>RH x l
 |_,_=>none
noncomputable def cH:Cop->D->D->Hh->Rs D
 |.lt,.int i,.int j,h=>.ok (.bl (decide (i<j))) h
 |.le,.int i,.int j,h=>.ok (.bl (decide (i<=j))) h
 |.gt,.int i,.int j,h=>.ok (.bl (decide (j<i))) h
 |.ge,.int i,.int j,h=>.ok (.bl (decide (j<=i))) h
 |.eq,x,y,h=>match DK x y h with
  |some b=>.ok (.bl b) h
  |none=>.bad
 |.ne,x,y,h=>match DK x y h with
  |some b=>.ok (.bl (!b)) h
  |none=>.bad
 |.is,x,.non,h=>.ok (.bl (fR x)) h
 |.isnot,x,.non,h=>.ok (.bl (!fR x)) h
 |.inn,x,y,h=>match KI x y h with
  |some b=>.ok (.bl b) h
  |none=>match dO h y with
   |some l=>KK x l false h
   |none=>match eC y h with
    |some l=>KL x l false h
    |none=>.bad
 |.notin,x,y,h=>match dO h y with
  |some l=>KK x l true h
  |none=>match eC y h with
   |some l=>match HN x y l with
    |some b=>.ok (.bl (!b)) h
    |none=>KL x l true h
   |none=>.bad
 |_,_,_,_=>.bad
noncomputable def KH(x y:D)(h:Hh):Rs D:=match eC x h,y with
 |some l,.int i=>match iG l i with
  |some d=>.ok d h
  |none=>.bad
 |_,_=>.bad
noncomputable def RG(l:List (cB×D))(y:D)(h:Hh):Rs D:=match CC y with
 |some k=>match gN l k with
  |some d=>.ok d h
  |none=>.bad
 |none=>.bad
noncomputable def ixT(x:Str)(y:D)(h:Hh):Rs D:=match y with
 |.int i=>if x.length<=sizeLine then(match iG x.cps.toList i with
  |some c=>.ok (.str ⟨#[c]⟩) h
  |none=>.bad) else .bad
 |_=>.bad
noncomputable def UH(l:List (List Int×D))(y:D)(h:Hh):Rs D:=match y with
 |.tup ks=>match (sS ks).bind (oK l) with
  |some d=>.ok d h
  |none=>.bad
 |_=>.bad
noncomputable def jA(x y:D)(h:Hh):Rs D:=match x with
 |.str z=>ixT z y h
 |x=>match dO h x with
  |some l=>RG l y h
  |none=>match dN h x with
   |some l=>UH l y h
   |none=>KH x y h
noncomputable def cF:D->Hh->Bool
 |.ref n,h=>(aJ h n).isSome
 |_,_=>false
noncomputable def XU:D->Hh->Option Ty
 |.bl _,_=>some .bool
 |.int _,_=>some .int
 |.str _,_=>some .str
 |.tup _,_=>some .tuple
 |.ref n,h=>match aJ h n with
  |some _=>some .list
  |none=>none
 |_,_=>none
noncomputable def ZN:Ty->String->Bool
 |.bool,s=>s=="bool"||s=="int"
 |t,s=>t.nm==s
noncomputable def lZ:List String:= ["int","bool","str","tuple","list"]
noncomputable def sQ(x:D)(T:String)(h:Hh):Option Bool:=match x with
 |.non=>if T∈lZ then some false else none
 |x=>match XU x h with
  |some t=>if T∈lZ then some (ZN t T) else none
  |none=>none
noncomputable def vW:List D->Option (List String)
 | []=>some []
 |.ty T::r=>match vW r with
  |some l=>some (T::l)
  |none=>none
 |_=>none
noncomputable def jY(x:D)(h:Hh):List String->Option Bool
 | []=>some false
 |T::r=>match sQ x T h,jY x h r with
  |some a,some b=>some (a||b)
  |_,_=>none
noncomputable def cR(x:D):D->Hh->Rs D
 |.ty T,h=>match sQ x T h with
  |some b=>.ok (.bl b) h
  |none=>.bad
 |.tup l,h=>match vW l with
  |some []=>.bad
  |some (T::Ts)=>match jY x h (T::Ts) with
   |some b=>.ok (.bl b) h
   |none=>.bad
  |none=>.bad
 |_,_=>.bad
noncomputable def ZZ:D->Hh->Rs D
 |.int i,h=>.ok (.int i) h
 |.bl b,h=>.ok (.int (if b then 1 else 0)) h
 |_,_=>.bad
noncomputable def UB(x:D)(h:Hh):Rs D:=match eC x h with
 |some l=>.ok (.int l.length) h
 |none=>match x with
  |.str z=>if z.length<=sizeLine then .ok (.int z.length) h else .bad
  |x=>match dN h x with
   |some l=>.ok (.int l.length) h
   |none=>.bad
noncomputable def zQ:List D->Option (List Bool)
 | []=>some []
 |.bl b::r=>(zQ r).map (b:: ·)
 |_::_=>none
noncomputable def EV(x:D)(h:Hh):Rs D:=match cF x h,eC x h with
 |true,some l=>match zQ l with
  |some bs=>.ok (.bl (bs.all id)) h
  |none=>.bad
 |_,_=>.bad
noncomputable def SU(x:D)(h:Hh):Rs D:=match x with
 |.ref n=>match h[n]? with
  |some (.lst l)=>.ok .non (h.set n (.lst l.reverse))
  |_=>.bad
 |_=>.bad
noncomputable def KD(x:D)(h:Hh):Rs D:=match eC x h with
 |some l=>.ok (.ref h.length) (h++ [.lst l])
 |none=>.bad
noncomputable def AO(x:D)(h:Hh):Rs D:=match cF x h,eC x h with
 |true,some l=>match mS l with
  |some l'=>.ok (.ref h.length) (h++ [.lst l'])
  |none=>.bad
 |_,_=>.bad
noncomputable def nM(s:Str)(x:D)(h:Hh):Rs D:=match cF x h,eC x h with
 |true,some l=>match mQ l with
  |some xs=>if(xs.map (·.length)).sum+xs.length*s.length<=1000 then .ok (.str (Txt.join s xs)) h else .bad
  |none=>.bad
 |_,_=>.bad
noncomputable def FP(x y:D)(h:Hh):Rs D:=match x,y with
 |.tup l,.int i=>if 0<=i/\i<(l.length:Int) then .ok (.tup (l.take i.toNat)) h else .bad
 |_,_=>.bad
noncomputable def SQ(x y:D)(h:Hh):Rs D:=match x,y with
 |.str z,.int i=>if 0<=i/\z.length<=1000 then .ok (.str ⟨(z.cps.toList.take i.toNat).toArray⟩) h else .bad
 |_,_=>.bad
noncomputable def SN(x y:D)(h:Hh):Rs D:=match x,y with
 |.str z,.int i=>if 0<=i/\z.length<=1000 then .ok (.str ⟨(z.cps.toList.drop i.toNat).toArray⟩) h else .bad
 |_,_=>.bad
noncomputable def FO(x y:D)(h:Hh):Rs D:=match cF x h,eC x h,y with
 |true,some l,.int i=>if 0<=i then .ok (.ref h.length) (h++ [.lst (l.take i.toNat)]) else .bad
 |_,_,_=>.bad
noncomputable def yB(x y:D)(h:Hh):Rs D:=match cF x h,eC x h,y with
 |true,some l,.int i=>if 0<=i then .ok (.ref h.length) (h++ [.lst (l.drop i.toNat)]) else .ok (.ref h.length) (h++ [.lst (l.drop (l.length-i.natAbs))])
 |_,_,_=>.bad
noncomputable def FF(x:D)(h:Hh):Rs D:=match cF x h,eC x h with
 |true,some l=>.ok (.tup l) h
 |_,_=>.bad
noncomputable def one(k:D->Hh->Rs D):List D->Hh->Rs D
 | [x],h=>k x h
 |_,_=>.bad
noncomputable def two(k:D->D->Hh->Rs D):List D->Hh->Rs D
 | [x,y],h=>k x y h
 |_,_=>.bad
noncomputable def lO:List D->Option (List Int)
 | []=>some []
 |.int i::r=>(lO r).map (i:: ·)
 |_::_=>none
noncomputable def oN(l:List (List Int×D))(k:List Int)(v:D):List (List Int×D):=if l.any (λkv=>decide (kv.1=k)) then l.map (λkv=>if kv.1=k then(kv.1,v) else kv) else l++ [(k,v)]
noncomputable def xF(n:Nat)(l:List (List Int×D))(y z:D)(h:Hh):Rs Unit:=match y with
 |.tup ks=>match lO ks with
  |some k=>if l.length<1000 then .ok () (h.set n (.dtt (oN l k z))) else .bad
  |none=>.bad
 |_=>.bad
noncomputable def qQ(a:Int)(l:List Int):Int:=l.foldl (λm x=>if x>m then x else m) a
noncomputable def qP(a:Int)(l:List Int):Int:=l.foldl (λm x=>if x<m then x else m) a
noncomputable def xO(mx:Bool):Int->List Int->Int:=if mx then qQ else qP
noncomputable def xN(mx:Bool):List D->Hh->Rs D
 | [x,y],h=>match x,y with
   |.int i,.int j=>.ok (.int (xO mx i [j])) h
   |_,_=>.bad
 |_,_=>.bad
noncomputable def oH(mx:Bool)(x d:D)(h:Hh):Rs D:=match cF x h,eC x h with
 |true,some l=>match lO l with
  |some (i::r)=>.ok (.int (xO mx i r)) h
  |some []=>.ok d h
  |none=>.bad
 |_,_=>.bad
noncomputable def TY(x:D)(h:Hh):Rs D:=match x with
 |.int j=>if -(2^62)<=j/\j<=1000 then .ok (.ref h.length) (h++ [.lst (bU 0 j)]) else .bad
 |_=>.bad
noncomputable def KY(ks:List Str)(ds:List D)(n:Nat)(h:Hh):Rs D:=match h[n]? with
 |some (.dct [])=>if ds.length=ks.length/\ks.Nodup/\ks.length<=15 then .ok (.ref n) (h.set n (.dct ((ks.map Sum.inr).zip ds))) else .bad
 |_=>.bad
noncomputable def hJ:Blt->List D->Hh->Rs D
 |.len=>one UB
 |.isinst=>two cR
 |.int=>one ZZ
 |.list=>one KD
 |.max=>xN true
 |.min=>xN false
 |.sorted=>one AO
 |.all=>one EV
 |.tup=>one FF
noncomputable def jK(x y:D)(h:Hh):Rs D:=match x with
 |.ref n=>match h[n]? with
  |some (.lst l)=>if l.length<1000000 then .ok .non (h.set n (.lst (l++ [y]))) else .bad
  |_=>.bad
 |_=>.bad
noncomputable def UL(x y z:D)(h:Hh):Rs D:=match x,y with
 |.ref n,.int i=>match h[n]? with
  |some (.lst l)=>if 0<=i/\i<=(l.length:Int)/\l.length<1000000 then .ok .non (h.set n (.lst (l.take i.toNat++z::l.drop i.toNat))) else .bad
  |_=>.bad
 |_,_=>.bad
noncomputable def oP(h:Hh):D->Option Str
 |.tup (.ref p::_)=>match h[p]? with
  |some (.ins c fs)=>if c=("Plate":Str) then(match fs.lookup ("name":Str) with
   |some (.str k)=>some k
   |_=>none) else none
  |_=>none
 |_=>none
noncomputable def yP(h:Hh)(a b:D):Option Bool:=match oP h a,oP h b with
 |some x,some y=>some (decide (x.cps.toList<y.cps.toList))
 |_,_=>none
def JN(h:Hh)(P:Addr)(pos:Pos)(q:Str)(l:List D):Prop:=l.length<64/\h[1]? =some (.tab P pos q)/\∀x∈l,∃k,oP h x=some k
open Classical in
noncomputable def uI(h:Hh)(P:Addr)(pos:Pos)(q:Str)(l:List D):Option (List D):=if c:JN h P pos q l/\∃l':List D,l'.Perm l/\l'.Pairwise (Bef (yP h)) then some (Classical.choose c.2) else none
theorem FS{h:Hh}{P:Addr}{pos:Pos}{q:Str}{l l':List D}(c:JN h P pos q l)(hp:l'.Perm l)(hs:l'.Pairwise (Bef (yP h))):uI h P pos q l=some l':=by
 have z:JN h P pos q l/\∃l':List D,l'.Perm l/\l'.Pairwise (Bef (yP h)):=⟨c,l',hp,hs⟩;unfold uI;rw[dif_pos z];have q:=Classical.choose_spec z.2;rw[fC (R:=Bef (yP h)) (λ_ _=>Bef.asy) (q.1.trans hp.symm) q.2 hs]
theorem FT{h:Hh}{P:Addr}{pos:Pos}{q:Str}{l l':List D}(e:uI h P pos q l=some l'):JN h P pos q l/\l'.Perm l/\l'.Pairwise (Bef (yP h)):=by
 unfold uI at e;split at e
 ·rename_i z;have q:=Classical.choose_spec z.2;have e':=Zg e;rw[e'] at q;exact⟨z.1,q⟩
 ·cases e
noncomputable def FU(P:Addr)(pos:Pos)(q:Str)(x:D)(h:Hh):Rs D:=match cF x h,eC x h with
 |true,some l=>match uI h P pos q l with
  |some l'=>.ok (.ref h.length) (h++ [.lst l'])
  |none=>.bad
 |_,_=>.bad
noncomputable def FV(x:D)(h:Hh):Rs D:=match cF x h,eC x h with
 |true,some l=>.ok (.ref h.length) (h++ [.lst l.reverse])
 |_,_=>.bad
noncomputable def nJ:List (cB×D)->Option (List Str)
 | []=>some []
 |(.inr x,_)::r=>(nJ r).map (x:: ·)
 |(.inl _,_)::_=>none
noncomputable def AV(x:D)(h:Hh):Rs D:=match dO h x with
 |some l=>match nJ l with
  |some ks=>match mS (ks.map D.str) with
   |some l'=>.ok (.ref h.length) (h++ [.lst l'])
   |none=>.bad
  |none=>.bad
 |none=>.bad
noncomputable def LF(y:Nat)(fe:Ev->Hh->Rs D)(n0:Nat):List D->Ev->Hh->Rs Ev
 | [],r,h=>.ok r h
 |d::ds,r,h=>(fe (r.set y (some d)) h).bind λz h=>(jK (.ref n0) z h).bind λ_ h=>LF y fe n0 ds (r.set y (some d)) h
noncomputable def F5(y:Nat)(fj fe:Ev->Hh->Rs D)(n0:Nat)(r:Ev)(h:Hh):Rs Ev:=(fj r h).bind λz h=>match z with
 |.int j=>if kJ j then LF y fe n0 (bU 0 j) r h else .bad
 |_=>.bad
noncomputable def LE(x y:Nat)(fj fe:Ev->Hh->Rs D)(n0:Nat):List D->Ev->Hh->Rs Unit
 | [],_,h=>.ok () h
 |d::ds,r,h=>(F5 y fj fe n0 (r.set x (some d)) h).bind λr h=>LE x y fj fe n0 ds r h
noncomputable def F0(x y:Nat)(fj fe:Ev->Hh->Rs D)(z:D)(r:Ev)(h:Hh):Rs D:=match z with
 |.int j=>if kJ j then(LE x y fj fe h.length (bU 0 j) r (h++ [.lst []])).bind λ_ h'=>.ok (.ref h.length) h' else .bad
 |_=>.bad
noncomputable def cL(t:Tg)(cs:Ev->Hh->Rs Bool)(f:Ev->Hh->Rs D)(n0:Nat):List D->Ev->Hh->Rs Unit
 | [],_,h=>.ok () h
 |d::ds,r,h=>match cX t d r with
  |none=>.bad
  |some r1=>(cs r1 h).bind λb h=>if b=true then(f r1 h).bind λy h=>(jK (.ref n0) y h).bind λ_ h=>cL t cs f n0 ds r1 h else cL t cs f n0 ds r1 h
noncomputable def fA(t:Tg)(cs:Ev->Hh->Rs Bool)(f:Ev->Hh->Rs D)(n0 n:Nat):Nat->Nat->Ev->Hh->Rs Unit
 |0,_,_,_=>.bad
 |k+1,i,r,h=>match aJ h n with
  |none=>.bad
  |some l=>match l[i]? with
   |none=>.ok () h
   |some d=>match cX t d r with
    |none=>.bad
    |some r1=>(cs r1 h).bind λb h=>if b=true then(f r1 h).bind λy h=>(jK (.ref n0) y h).bind λ_ h=>fA t cs f n0 n k (i+1) r1 h else fA t cs f n0 n k (i+1) r1 h
noncomputable def fU(t:Tg)(cs:Ev->Hh->Rs Bool)(f:Ev->Hh->Rs D)(n0:Nat)(k:Ck)(xs:List D)(h0:Hh)(r:Ev)(h:Hh):Rs Unit:=match k,xs with
 |.r1,[.int j]=>if kJ j then cL t cs f n0 (bU 0 j) r h else .bad
 |.r2,[.int i,.int j]=>if kJ i/\kJ j then cL t cs f n0 (bU i j) r h else .bad
 |.st,[.str x]=>if x.length<=1000 then cL t cs f n0 (x.cps.toList.map λc=>D.str ⟨#[c]⟩) r h else .bad
 |.itf,[.ref n]=>match h0[n]? with
  |some (.dtf l)=>cL t cs f n0 (l.map λp=>D.tup [.tup (p.1.map D.int),p.2]) r h
  |_=>.bad
 |.its,[.ref n]=>match h0[n]? with
  |some (.dtt l)=>cL t cs f n0 (l.map λp=>D.tup [.tup (p.1.map D.int),p.2]) r (h.set n .ded)
  |_=>.bad
 |.sq,[.tup l]=>cL t cs f n0 l r h
 |.sq,[.ref n]=>match aJ h0 n with
  |some l=>fA t cs f n0 n (l.length+1) 0 r h
  |none=>.bad
 |_,_=>.bad
noncomputable def dcS(t2:Tg)(fk fv:Ev->Hh->Rs D)(n0:Nat):List D->Ev->Hh->Rs Ev
 | [],r,h=>.ok r h
 |d::ds,r,h=>match cX t2 d r with
  |none=>.bad
  |some r1=>(fk r1 h).bind λy h=>(fv r1 h).bind λz h=>(tF n0 y z h).bind λ_ h=>dcS t2 fk fv n0 ds r1 h
noncomputable def dcI(t1:Tg)(fi:Ev->Hh->Rs D)(t2:Tg)(fk fv:Ev->Hh->Rs D)(n0 n:Nat):Nat->Nat->Ev->Hh->Rs Unit
 |0,_,_,_=>.bad
 |k+1,i,r,h=>match aJ h n with
  |none=>.bad
  |some l=>match l[i]? with
   |none=>.ok () h
   |some d=>match cX t1 d r with
    |none=>.bad
    |some r1=>(fi r1 h).bind λy h=>match y with
     |.tup ds=>(dcS t2 fk fv n0 ds r1 h).bind λr2 h=>dcI t1 fi t2 fk fv n0 n k (i+1) r2 h
     |_=>.bad
noncomputable def dcL(t1:Tg)(fi:Ev->Hh->Rs D)(t2:Tg)(fk fv:Ev->Hh->Rs D)(x:D)(r:Ev)(h:Hh):Rs D:=match x with
 |.ref n=>match aJ h n with
  |some l=>(dcI t1 fi t2 fk fv h.length n (l.length+1) 0 r (h++ [.dct []])).bind λ_ h'=>.ok (.ref h.length) h'
  |none=>.bad
 |_=>.bad
noncomputable def nZ(n:Nat)(y z:D)(h:Hh):Rs Unit:=match h[n]? with
 |some (.dtt l)=>xF n l y z h
 |_=>.bad
noncomputable def DO(t:Tg)(fk fv:Ev->Hh->Rs D)(n0 n:Nat):Nat->Nat->Ev->Hh->Rs Unit
 |0,_,_,_=>.bad
 |k+1,i,r,h=>match aJ h n with
  |none=>.bad
  |some l=>match l[i]? with
   |none=>.ok () h
   |some d=>match cX t d r with
    |none=>.bad
    |some r1=>(fk r1 h).bind λy h=>(fv r1 h).bind λz h=>(nZ n0 y z h).bind λ_ h=>DO t fk fv n0 n k (i+1) r1 h
noncomputable def VO(n:Nat)(h:Hh):Rs D:=match h[n]? with
 |some (.dtt l)=>.ok (.ref n) (h.set n (.dtf l))
 |_=>.bad
noncomputable def VP(t:Tg)(fk fv:Ev->Hh->Rs D)(x:D)(r:Ev)(h:Hh):Rs D:=match x with
 |.ref n=>match aJ h n with
  |some l=>(DO t fk fv h.length n (l.length+1) 0 r (h++ [.dtt []])).bind λ_ h'=>VO h.length h'
  |none=>.bad
 |_=>.bad
noncomputable def QI(r:Ev)(i:Nat):Option D:=match r[i]? with
 |some x=>x
 |none=>none
noncomputable def bA(N:List Str)(cap:List Nat)(r:Ev):Ev:=List.replicate (N.length-cap.length) none++cap.map (QI r)
structure Gs where
 fns:List Str
 csts:List (Str×D)
 excs:List Str:= []
 sub:List (Nat×Nat):= []
 nsub:List (Nat×Nat):= []
 news:List (Str×Nat):= []
 meths:List (Str×Str×Nat):= []
 atts:List (Str×Str):= []
noncomputable abbrev Cl:=Nat->List D->Hh->Rs D
noncomputable def vO(cn:Str)(x:D)(f:Str)(h:Hh):Rs D:=match x with
 |.ref n=>match h[n]? with
  |some (.ins c fs)=>if c=cn then(match fs.lookup f with
   |some d=>.ok d h
   |none=>.bad) else .bad
  |_=>.bad
 |_=>.bad
noncomputable def lI(x:D)(cn m:Str)(h:Hh):Bool:=match x with
 |.ref n=>match h[n]? with
  |some (.ins c fs)=>decide (c=cn)&&(fs.lookup m).isNone
  |_=>false
 |_=>false
noncomputable def qK(f:Str)(y:D):List (Str×D)->List (Str×D)
 | []=>[(f,y)]
 |(g,x)::r=>if g=f then(g,y)::r else(g,x)::qK f y r
noncomputable def AY(cn:Str)(x y:D)(f:Str)(h:Hh):Rs Unit:=match x with
 |.ref n=>match h[n]? with
  |some (.ins c fs)=>if c=cn/\fs.length<900 then .ok () (h.set n (.ins c (qK f y fs))) else .bad
  |_=>.bad
 |_=>.bad
noncomputable def yM(cn:Str)(f:List D->Hh->Rs D)(ds:List D)(h:Hh):Rs D:=(f (.ref h.length::ds) (h++ [.ins cn []])).bind λd h'=>match d with
 |.non=>.ok (.ref h.length) h'
 |_=>.bad
mutual
noncomputable def ev(G:Gs)(cl:Cl):E->Ev->Hh->Rs D
 |.var i,r,h=>match r[i]? with
  |some (some d)=>.ok d h
  |_=>.bad
 |.int i,_,h=>.ok (.int i) h
 |.bl b,_,h=>.ok (.bl b) h
 |.non,_,h=>.ok .non h
 |.str x,_,h=>.ok (.str x) h
 |.gc g,_,h=>match G.csts[g]? with
  |some p=>.ok p.2 h
  |none=>.bad
 |.ty t,_,h=>.ok (.ty t.nm) h
 |.bin op a b,r,h=>(ev G cl a r h).bind λx h=>(ev G cl b r h).bind λy h=>bX op x y h
 |.neg a,r,h=>(ev G cl a r h).bind λx h=>match x with
  |.int i=>.ok (.int (-i)) h
  |_=>.bad
 |.cmp op a b,r,h=>(ev G cl a r h).bind λx h=>(ev G cl b r h).bind λy h=>cH op x y h
 |.and a b,r,h=>(ev G cl a r h).bind λx h=>match fZ x h with
  |some true=>ev G cl b r h
  |some false=>.ok x h
  |none=>.bad
 |.or a b,r,h=>(ev G cl a r h).bind λx h=>match fZ x h with
  |some true=>.ok x h
  |some false=>ev G cl b r h
  |none=>.bad
 |.not a,r,h=>(ev G cl a r h).bind λx h=>match fZ x h with
  |some b=>.ok (.bl (!b)) h
  |none=>.bad
 |.ite c a b,r,h=>(ev G cl c r h).bind λx h=>match fZ x h with
  |some true=>ev G cl a r h
  |some false=>ev G cl b r h
  |none=>.bad
 |.ix a b,r,h=>(ev G cl a r h).bind λx h=>(ev G cl b r h).bind λy h=>jA x y h
 |.tup l,r,h=>(cW G cl l r h).bind λds h=>if ds.length<=1000 then .ok (.tup ds) h else .bad
 |.lst l,r,h=>(cW G cl l r h).bind λds h=>if ds.length<=1000 then .ok (.ref h.length) (h++ [.lst ds]) else .bad
 |.call f l,r,h=>(cW G cl l r h).bind λds h=>(cl f ds h).nx
 |.blt f l,r,h=>(cW G cl l r h).bind λds h=>hJ f ds h
 |.app o e,r,h=>(ev G cl o r h).bind λx h=>if cF x h=true then(ev G cl e r h).bind λy h=>jK x y h else .bad
 |.ins o i e,r,h=>(ev G cl o r h).bind λx h=>if cF x h=true then(ev G cl i r h).bind λy h=>(ev G cl e r h).bind λz h=>UL x y z h else .bad
 |.mxd mx l d,r,h=>(ev G cl l r h).bind λx h=>(ev G cl d r h).bind λy h=>oH mx x y h
 |.lrg e,r,h=>(ev G cl e r h).bind λx h=>TY x h
 |.disp ks vs,r,h=>(cW G cl vs r (h++ [.dct []])).bind λds h'=>KY ks ds h.length h'
 |.dnw,_,h=>.ok (.ref h.length) (h++ [.dct []])
 |.slU a b,r,h=>(ev G cl a r h).bind λx h=>(ev G cl b r h).bind λy h=>FO x y h
 |.slL a b,r,h=>(ev G cl a r h).bind λx h=>(ev G cl b r h).bind λy h=>yB x y h
 |.att o cn f,r,h=>(ev G cl o r h).bind λx h=>vO cn x f h
 |.new cn f l,r,h=>(cW G cl l r h).bind λds h=>(yM cn (cl f) ds h).nx
 |.slA a b,r,h=>(ev G cl a r h).bind λx h=>(ev G cl b r h).bind λy h=>SQ x y h
 |.slZ a b,r,h=>(ev G cl a r h).bind λx h=>(ev G cl b r h).bind λy h=>SN x y h
 |.slT a b,r,h=>(ev G cl a r h).bind λx h=>(ev G cl b r h).bind λy h=>FP x y h
 |.mth o cn m f l,r,h=>(ev G cl o r h).bind λx h=>if lI x cn m h=true then(cW G cl l r h).bind λds h=>(cl f (x::ds) h).nx else .bad
 |.chn op op' a b c,r,h=>(ev G cl a r h).bind λx h=>(ev G cl b r h).bind λy h=>(cH op x y h).bind λp h=>match p with
  |.bl true=>(ev G cl c r h).bind λz h=>cH op' y z h
  |.bl false=>.ok (.bl false) h
  |_=>.bad
 |.rev o,r,h=>(ev G cl o r h).bind λx h=>SU x h
 |.dcT t i k v N cap,r,h=>(ev G cl i r h).bind λx h=>VP t (ev G cl k) (ev G cl v) x (bA N cap r) h
 |.dnt,_,h=>.ok (.ref h.length) (h++ [.dtt []])
 |.get2 o k d,r,h=>(ev G cl o r h).bind λx h=>if(dO h x).isSome=true then(ev G cl k r h).bind λy h=>(ev G cl d r h).bind λz h=>UQ x y z h else .bad
 |.sbn a P pos q,r,h=>(ev G cl a r h).bind λx h=>FU P pos q x h
 |.rvs a,r,h=>(ev G cl a r h).bind λx h=>FV x h
 |.sdk a,r,h=>(ev G cl a r h).bind λx h=>AV x h
 |.cm2 x y i j e N cap,r,h=>(ev G cl i r h).bind λz h=>F0 x y (ev G cl j) (ev G cl e) z (bA N cap r) h
 |.join s e,r,h=>(ev G cl e r h).bind λx h=>nM s x h
 |.dcomp t1 i1 t2 i2 k v N cap,r,h=>(ev G cl i1 r h).bind λx h=>dcL t1 (ev G cl i2) t2 (ev G cl k) (ev G cl v) x (bA N cap r) h
 |.comp t k it cs e N cap,r,h=>(cW G cl it r h).bind λxs h=>(fU t (kB G cl cs) (ev G cl e) h.length k xs h (bA N cap r) (h++ [.lst []])).bind λ_ h'=>.ok (.ref h.length) h'
noncomputable def kB(G:Gs)(cl:Cl):Es->Ev->Hh->Rs Bool
 |.nil,_,h=>.ok true h
 |.cons c l,r,h=>(ev G cl c r h).bind λx h=>match fZ x h with
  |some true=>kB G cl l r h
  |some false=>.ok false h
  |none=>.bad
noncomputable def cW(G:Gs)(cl:Cl):Es->Ev->Hh->Rs (List D)
 |.nil,_,h=>.ok [] h
 |.cons e l,r,h=>(ev G cl e r h).bind λd h=>(cW G cl l r h).bind λds h=>.ok (d::ds) h
end
noncomputable def FD(sc:Scope)(x:Str):Bool:=match sc.names.lookup x with
 |some .local=>true
 |some .cell=>true
 |some .free=>true
 |_=>false
noncomputable def lT(sc:Scope)(x:Str):Bool:=match sc.names.lookup x with
 |some .local=>true
 |some .cell=>true
 |_=>false
noncomputable def wQ(sc:Scope)(x:Str):Bool:=match sc.names.lookup x with
 |some .globalImplicit=>true
 |_=>false
noncomputable def nB(x:Str):Bool:= !(x==("__debug__":Str))&& !(x==("__classdict__":Str))&& !(x==("__name__":Str))
noncomputable def Bop.op:Bop->Operator
 |.add=>.Add|.sub=>.Sub|.mul=>.Mult|.fdiv=>.FloorDiv|.mod=>.Mod|.pow=>.Pow
noncomputable def Cop.op:Cop->CmpOp
 |.lt=>.Lt|.le=>.LtE|.gt=>.Gt|.ge=>.GtE|.eq=>.Eq|.ne=>.NotEq|.is=>.Is|.isnot=>.IsNot|.inn=>.In|.notin=>.NotIn
noncomputable def Blt.nm:Blt->Str
 |.len=>"len"|.isinst=>"isinstance"|.int=>"int"|.list=>"list"|.max=>"max"|.min=>"min"|.sorted=>"sorted"|.all=>"all"|.tup=>"tuple"
noncomputable def oO:Bool->Str
 |true=>"max"
 |false=>"min"
noncomputable def pF:Expr->Bool
 |.Set _ _ _=>false
 |_=>true
noncomputable def dJ:Expr->Bool
 |.Starred _ _=>false
 |_=>true
noncomputable def cY(scope sc:Scope):Scope:={scope with names:=scope.names.map λ(n,k)=>if(k== .free&&sc.kind== .function&&sc.names.lookup n==some .cell) then(n,.cell) else(n,k)}
noncomputable def oE(N:List Str)(sc:Scope):List Nat->List Expr->Bool
 | [],[]=>true
 |i::is,.Name x _::es=>N[i]? ==some x&&lT sc x&&oE N sc is es
 |_,_=>false
noncomputable def iR(N:List Str)(sc:Scope):Tg->Expr->Bool
 |.nm i,.Name x _=>N[i]? ==some x&&lT sc x
 |.tp l,.Tuple es _ _=>oE N sc l es
 |_,_=>false
noncomputable def nA:List Str->Bool
 | []=>true
 |x::l=> !l.contains x&&nA l
noncomputable def ME(scope sc:Scope):Bool:=scope.kind== .function&&sc.kind== .function&&nA (scope.names.map (·.1))&&scope.names.all λp=>(!(p.2== .local)||scope.names.lookup p.1==some .local)&&(!(p.2== .free)||sc.names.lookup p.1==some .cell)
noncomputable def LC(N N':List Str)(cap:List Nat)(scope:Scope):Bool:=decide (cap.length<=N'.length)&&(N'.drop (N'.length-cap.length)).map some==cap.map (λ(i:Nat)=>N[i]?)&&(N'.drop (N'.length-cap.length)).all λx=>scope.names.lookup x==some .free
def TDE(K:W.Frag)(f:Ev->Hh->Rs D):TE:=λs H Q=>∃m r h d h',Wd K m h H/\RSt K m H r s/\f r h=.ok d h'/\
 ∀m' v H',Gr K m H m' H'->Wd K m' h' H'->RD K m' H' d v->Q v H'
def WI(K:W.Frag)(f:Ev->Hh->Rs D):TT:=λs H Q=>∃m r h d h' b,Wd K m h H/\RSt K m H r s/\f r h=.ok d h'/\fZ d h'=some b/\
 ∀m' H',Gr K m H m' H'->Wd K m' h' H'->Q b H'
noncomputable def TDA(K:W.Frag)(f:Ev->Hh->Rs (List D)):TA:=λs H Q=>∃m r h ds h',Wd K m h H/\RSt K m H r s/\f r h=.ok ds h'/\
 ∀m' vs H',Gr K m H m' H'->Wd K m' h' H'->RDs K m' H' ds vs->Q vs H'
noncomputable def rD(K:W.Frag)(k:D->D->Hh->Rs D):R2:=λx y H Q=>∃m h dx dy d h',Wd K m h H/\RD K m H dx x/\RD K m H dy y/\k dx dy h=.ok d h'/\
 ∀m' v H',Gr K m H m' H'->Wd K m' h' H'->RD K m' H' d v->Q v H'
noncomputable def RC(K:W.Frag)(k:List D->Hh->Rs D):List V->Hp->VK->Prop:=λxs H Q=>∃m h ds d h',Wd K m h H/\RDs K m H ds xs/\k ds h=.ok d h'/\
 ∀m' v H',Gr K m H m' H'->Wd K m' h' H'->RD K m' H' d v->Q v H'
theorem _root_.L2.PE.wk{X:Cx}{e:Expr}{t t':TE}(h:PE X e t)(i:∀s H Q,t' s H Q->t s H Q):PE X e t':=λpins s σ H Q I q=>h pins s σ H Q I (i _ _ _ q)
theorem _root_.L2.PT.wk{X:Cx}{e:Expr}{t t':TT}(h:PT X e t)(i:∀s H Q,t' s H Q->t s H Q):PT X e t':=λpins s σ H Q I q=>h pins s σ H Q I (i _ _ _ q)
theorem _root_.L2.PA.wk{X:Cx}{e:List Expr}{t t':TA}(h:PA X e t)(i:∀s H Q,t' s H Q->t s H Q):PA X e t':=λpos pins s σ H Q I q=>h pos pins s σ H Q I (i _ _ _ q)
theorem TDE.two{K:W.Frag}{fa fb:Ev->Hh->Rs D}{k:D->D->Hh->Rs D}{s:Sg}{H:Hp}{R:V->V->Hp->Prop}{m:List Addr}{r:Ev}{h:Hh}{d:D}{h':Hh}(w:Wd K m h H)(st:RSt K m H r s)
 (e:((fa r h).bind λx h1=>(fb r h1).bind λy h2=>k x y h2)=.ok d h')
 (c:∀m2 H2 h2 dx dy x y,Gr K m H m2 H2->Wd K m2 h2 H2->RD K m2 H2 dx x->RD K m2 H2 dy y->k dx dy h2=.ok d h'->R x y H2):
 TDE K fa s H λx H1=>TDE K fb s H1 λy H2=>R x y H2:=by
 obtain⟨dx,h1,e1,e⟩:=Rs.bind_ok e;obtain⟨dy,h2,e2,e⟩:=Rs.bind_ok e;exact⟨m,r,h,dx,h1,w,st,e1,λm1 x H1 g1 w1 rx=>⟨m1,r,h1,dy,h2,w1,st.mono g1,e2,λm2 y H2 g2 w2 ry=>c m2 H2 h2 dx dy x y (g1.trans g2) w2 (rx.mono g2) ry e⟩⟩
theorem TDE.op{K:W.Frag}{fa fb f:Ev->Hh->Rs D}{k:D->D->Hh->Rs D}(hf:∀r h,f r h=(fa r h).bind λx h1=>(fb r h1).bind λy h2=>k x y h2)(s:Sg)(H:Hp)(Q:VK)(q:TDE K f s H Q):RB (rD K k) (TDE K fa) (TDE K fb) s H Q:=by
 obtain⟨m,r,h,d,h',w,st,e,c⟩:=q;rw[hf] at e;exact TDE.two w st e λm2 H2 h2 dx dy x y g w2 rx ry e=>⟨m2,h2,dx,dy,d,h',w2,rx,ry,e,λm' v H' g'=>c m' v H' (g.trans g')⟩
structure XOk (X:Cx)(N:List Str)(sc:Scope):Prop where
 n:X.N=N
 s:X.env.scope=sc
 calm:X.calm=true
 nd:X.N.Nodup
 room:∃k,Room k X.A
 rng:X.mg "range"=none
 po:PassesOwn (model X.prog X.w) X.A X.env X.xe
def AQ(K:W.Frag)(ca:Nat->Addr)(f:List D->Hh->Rs D)(n:Nat):Sp:=λvs H Q E=>vs.length=n/\∃m h ds,Wd K m h H/\RDs K m H ds vs/\(match f ds h with
 |.ok d h'=>∀m' v H',Gr K m H m' H'->Wd K m' h' H'->RD K m' H' d v->Q v H'
 |.exc c _ h'=>∀m' H' v,Gr K m H m' H'->Wd K m' h' H'->E v (some (ca c)) H'
 |.bad=>False)
noncomputable abbrev bmV:List Value:= [.type "ValueError",.type "Exception",.type "BaseException",.type "object"]
structure ExcF (K:W.Frag)(C:Addr):Prop where
 own:W.excIn K C bmV "ValueError.__new__"=true
 kp:W.keepIn K (.ref C)=true
 val:W.kitOne K (.ref C) (.type "ValueError")=some true
structure COk (X:Cx)(G:Gs)(ca:Nat->Addr)(cl:Cl):Prop where
 att:∀p∈G.atts,∃C,W.nsIn X.K mainGlobals p.1=some (some (.ref C))/\Cls X.K C/\NoAttr X.K C p.2
 meth:∀p∈G.meths,∃C fa fd ps k,W.nsIn X.K mainGlobals p.1=some (some (.ref C))/\Cls X.K C/\Meth X.K C p.2.1 fa/\FnOk X.prog X.w X.K X.mg X.base (rK X.prog X.w) k fa fd ps (AQ X.K ca (cl p.2.2) ps.length)/\Room k X.A/\Binds X.K fd ps []/\∀ds h,cl p.2.2 ds h≠ .bad->ds.length=ps.length
 new:∀p∈G.news,∃C fa fd ps k,W.nsIn X.K mainGlobals p.1=some (some (.ref C))/\X.mg p.1=some (.ref C)/\Mk X.K C fa/\FnOk X.prog X.w X.K X.mg X.base (rK X.prog X.w) k fa fd ps (AQ X.K ca (cl p.2) ps.length)/\Room (k+1) X.A/\Binds X.K fd ps []/\∀ds h,cl p.2 ds h≠ .bad->ds.length=ps.length
structure GOk (X:Cx)(G:Gs)(ca:Nat->Addr)(cl:Cl):Prop where
 fn:∀(f:Nat)(x:Str),G.fns[f]? =some x->∃fa fd ps k,FnOk X.prog X.w X.K X.mg X.base (rK X.prog X.w) k fa fd ps (AQ X.K ca (cl f) ps.length)/\Room k X.A/\X.mg x=some (.ref fa)/\W.keepIn X.K (.ref fa)=true/\Binds X.K fd ps []/\∀ds h,cl f ds h≠ .bad->ds.length=ps.length
 cst:∀(g:Nat)(x:Str)(d:D),G.csts[g]? =some (x,d)->∃v u,X.mg x=some u/\RelV v u/\∀m H,RD X.K m H d v
 blt:∀f:Blt,X.mg f.nm=none
 ty:∀t:Ty,X.mg (Str.ofString t.nm)=none
 exc:∀(c:Nat)(x:Str),G.excs[c]? =some x->X.mg x=some (.ref (ca c))/\ExcF X.K (ca c)
 sub:∀p∈G.sub,W.exmOne X.K (.ref (ca p.1)) (.ref (ca p.2))=some true/\W.kitOne X.K (.ref (ca p.1)) (.ref (ca p.2))=some true/\ExcF X.K (ca p.1)
 nsub:∀p∈G.nsub,W.kitOne X.K (.ref (ca p.1)) (.ref (ca p.2))=some false/\ExcN X.K (ca p.1)
 verr:X.mg "ValueError"=none
 c:COk X G ca cl
section
variable {X:Cx}
theorem TQ(op:Bop):jN X (binaryOp op.op) (rD X.K (bX op)):=by
 intro pins s σ H x y v u Q I rx ry q;obtain⟨m,h,dx,dy,d,h',w,r1,r2,e,c⟩:=q;have fin:∀z,RD X.K m H d z->h=h'->Q z H:=λz rz eh=>by subst eh;exact c m z H Gr.refl w rz
 cases op with
 |add=>
  have k:(∃i j,dx=.int i/\dy=.int j)\/(∃a b,dx=.str a/\dy=.str b)\/(∃a b,dx=.tup a/\dy=.tup b)\/∃a b,dx=.ref a/\dy=.ref b:=by
   cases dx<;>first |(cases e;done)|skip
   ·exact .inl ⟨_,(by cases dy<;>first |(cases e;done)|exact⟨_,rfl,rfl⟩)⟩
   ·exact .inr (.inl ⟨_,(by cases dy<;>first |(cases e;done)|exact⟨_,rfl,rfl⟩)⟩)
   ·exact .inr (.inr (.inl ⟨_,(by cases dy<;>first |(cases e;done)|exact⟨_,rfl,rfl⟩)⟩))
   ·exact .inr (.inr (.inr ⟨_,(by cases dy<;>first |(cases e;done)|exact⟨_,rfl,rfl⟩)⟩))
  rcases k with ⟨i,j,rfl,rfl⟩|⟨a,b,rfl,rfl⟩|⟨a,b,rfl,rfl⟩|⟨a,b,rfl,rfl⟩
  ·cases r1;cases r2;cases e;exact NJ pins s σ H _ _ v u Q I rx ry ⟨_,_,rfl,rfl,fin _ (.int _) rfl⟩
  ·cases r1;cases r2;have e':(if a.length+b.length<=sizeLine then Rs.ok (D.str (a++b)) h else .bad)=.ok d h':=e;split at e'
   ·rename_i hz;cases e';exact uQ pins s σ H _ _ v u Q I rx ry ⟨_,_,rfl,rfl,hz,fin _ (.str _) rfl⟩
   ·cases e'
  ·have e':(if a.length+b.length<=1000/\0<a.length/\0<b.length then Rs.ok (D.tup (a++b)) h else .bad)=.ok d h':=e;split at e'
   ·rename_i hz;cases e';cases r1 with
    |tup h1 q1=>
     cases r2 with
     |tup h2 q2=>
      have l1:=q1.length;have l2:=q2.length;refine GU pins s σ H _ _ v u Q I rx ry ⟨_,_,_,_,rfl,rfl,h1,h2,(λz=>by rw[z,List.length_nil] at l1;omega),Nat.le_trans (by omega) (show 1000<=sizeLine by decide),(λz=>by rw[z,List.length_nil] at l2;omega),λ_ p hp=>?_⟩;exact c m _ _ (Gr.tupNew hp) (w.keepNew hp) (.tup (.of aZ) ((q1.append q2).mono (Gr.tupNew hp)))
   ·cases e'
  ·have e':(match h[a]?,h[b]? with|some (.lst x),some (.lst y)=>(if x.length+y.length<=1000 then Rs.ok (D.ref h.length) (h++ [O.lst (x++y)]) else .bad)|_,_=>.bad)=.ok d h':=e;split at e'
   ·rename_i la lb ea eb;split at e'
    ·rename_i hz;cases e';cases r1 with
     |ref m1=>
      cases r2 with
      |ref m2=>
       obtain⟨vs,hv,q1⟩:∃vs,H _=some (.lst vs)/\RDs X.K m H la vs:=w.ob a _ _ ea m1;obtain⟨us,hu,q2⟩:∃vs,H _=some (.lst vs)/\RDs X.K m H lb vs:=w.ob b _ _ eb m2;have l1:=q1.length;have l2:=q2.length;refine NI pins s σ H _ _ v u Q I rx ry ⟨_,_,_,_,rfl,rfl,hv,hu,Nat.le_trans (by omega) (show 1000<=sizeLine by decide),λp hp=>?_⟩;obtain⟨w2,g2⟩:=w.lstNew hp (q1.append q2);exact c _ _ _ g2 w2 (.ref (by rw[<- w.len];simp))
    ·cases e'
   ·cases e'
 |sub=>
  obtain⟨i,rfl⟩:∃i,dx=.int i:=by cases dx<;>first |exact⟨_,rfl⟩|(cases e;done)
  obtain⟨j,rfl⟩:∃j,dy=.int j:=by cases dy<;>first |exact⟨_,rfl⟩|(cases e;done)
  cases r1;cases r2;cases e;exact ND pins s σ H _ _ v u Q I rx ry ⟨_,_,rfl,rfl,fin _ (.int _) rfl⟩
 |mul=>
  obtain⟨i,rfl⟩:∃i,dx=.int i:=by cases dx<;>first |exact⟨_,rfl⟩|(cases e;done)
  obtain⟨j,rfl⟩:∃j,dy=.int j:=by cases dy<;>first |exact⟨_,rfl⟩|(cases e;done)
  cases r1;cases r2;have e':(if(-(2^64)<i/\i<2^64)\/(-(2^64)<j/\j<2^64) then Rs.ok (D.int (i*j)) h else .bad)=.ok d h':=e;split at e'
  ·rename_i hz;cases e';exact NF pins s σ H _ _ v u Q I rx ry ⟨_,_,rfl,rfl,hz,fin _ (.int _) rfl⟩
  ·cases e'
 |fdiv=>
  obtain⟨i,rfl⟩:∃i,dx=.int i:=by cases dx<;>first |exact⟨_,rfl⟩|(cases e;done)
  obtain⟨j,rfl⟩:∃j,dy=.int j:=by cases dy<;>first |exact⟨_,rfl⟩|(cases e;done)
  cases r1;cases r2;have e':(if 0<j/\j<1073741824 then Rs.ok (D.int (i/j)) h else .bad)=.ok d h':=e;split at e'
  ·rename_i hz;cases e';exact GT pins s σ H _ _ v u Q I rx ry ⟨_,_,rfl,rfl,hz,fin _ (.int _) rfl⟩
  ·cases e'
 |mod=>
  obtain⟨i,rfl⟩:∃i,dx=.int i:=by cases dx<;>first |exact⟨_,rfl⟩|(cases e;done)
  obtain⟨j,rfl⟩:∃j,dy=.int j:=by cases dy<;>first |exact⟨_,rfl⟩|(cases e;done)
  cases r1;cases r2;have e':(if 0<j then Rs.ok (D.int (i%j)) h else .bad)=.ok d h':=e;split at e'
  ·rename_i hz;cases e';exact NG pins s σ H _ _ v u Q I rx ry ⟨_,_,rfl,rfl,hz,fin _ (.int _) rfl⟩
  ·cases e'
 |pow=>
  obtain⟨i,rfl⟩:∃i,dx=.int i:=by cases dx<;>first |exact⟨_,rfl⟩|(cases e;done)
  obtain⟨j,rfl⟩:∃j,dy=.int j:=by cases dy<;>first |exact⟨_,rfl⟩|(cases e;done)
  cases r1;cases r2;have e':(if 0<=j/\j<=1000000/\i.natAbs<2^64 then Rs.ok (D.int (i^j.toNat)) h else .bad)=.ok d h':=e;split at e'
  ·rename_i hz;cases e';exact NE pins s σ H _ _ v u Q I rx ry ⟨_,_,rfl,rfl,hz,fin _ (.int _) rfl⟩
  ·cases e'
theorem mE{f:D->D->Option Bool}:∀{a b:List D}{k:Bool},oR f a b=some k->∃e:Nat->Bool,(∀j x y,a[j]? =some x->b[j]? =some y->f x y=some (e j))/\k=((List.range (min a.length b.length)).all e&&a.length==b.length)
 | [],[],k,h=>by
   simp[oR] at h;exact⟨λ_=>true,λj x y e=>by simp at e,by simp[h.symm]⟩
 | [],_::_,k,h=>by
   simp[oR] at h;exact⟨λ_=>true,λj x y e=>by simp at e,by simp[h.symm]⟩
 |_::_,[],k,h=>by
  simp[oR] at h;exact⟨λ_=>true,λj x y _ e=>by simp at e,by simp[h.symm]⟩
 |x::xs,y::ys,k,h=>by
  simp only[oR] at h;split at h
  ·rename_i a b h1 h2;obtain⟨e,p,q⟩:=mE h2
   refine⟨λj=>match j with
    |0=>a
    |j+1=>e j,λj x' y' e1 e2=>?_,?_⟩
   ·cases j with
    |zero=>simp at e1 e2;subst e1;subst e2;exact h1
    |succ j=>exact p j x' y' (by simpa using e1) (by simpa using e2)
   ·have h':(a&&b)=k:=Zg h;rw[<- h',q];simp only[List.length_cons,Nat.succ_min_succ,List.range_succ_eq_map,List.all_cons,List.all_map];rw[show((xs.length+1==ys.length+1):Bool)=(xs.length==ys.length) by simp];rw[Bool.and_assoc];rfl
  ·cases h
theorem DL{pins:List (Addr×Obj)}{σ:Sg}{H:Hp}{s:Shared}{m:List Addr}(I:Inv X pins σ H s):∀(n:Nat){d d':D}{v:V}{b:Bool},RD X.K m H d v->RD X.K m H d' v->iQ n d d'=some b->b=true:=by
 intro n
 induction n with
 |zero=>
  intro d d' v b r r' e;cases r<;>cases r'<;>simp[iQ] at e<;>exact e
 |succ n ih=>
  intro d d' v b r r' e;cases r<;>cases r'<;>first |(simp[iQ] at e;exact e)|(simp[iQ] at e;done)|skip
  rename_i a ds vs h1 q1 ds' vs' q2 h2;obtain rfl:=I.tuple_inj h1 h2
  have go:∀{ds ds':List D}{vs:List V}{b:Bool},RDs X.K m H ds vs->RDs X.K m H ds' vs->oR (iQ n) ds ds'=some b->b=true:=by
   intro ds
   induction ds with
   |nil=>
    intro ds' vs b q1 q2 e;cases q1;cases q2;simp[oR] at e;exact e
   |cons x xs ih2=>
    intro ds' vs b q1 q2 e;cases q1 with
    |cons p1 t1=>
     cases q2 with
     |cons p2 t2=>
      simp only[oR] at e;split at e
      ·rename_i k1 k2 z1 z2;have:=ih p1 p2 z1;have:=ih2 t1 t2 z2
       subst_vars
       simpa using e.symm
      ·cases e
  exact go q1 q2 (by simpa [iQ] using e)
theorem DM{pins:List (Addr×Obj)}{σ:Sg}{H:Hp}{s:Shared}{m:List Addr}(I:Inv X pins σ H s):∀(n:Nat){A:Around}{d d':D}{v v':V}{u u':Value}{b:Bool},A.units+n<cLine->RD X.K m H d v->RD X.K m H d' v'->RelV v u->RelV v' u'->iQ n d d'=some b->SeqAt.EqAt A s u u' b:=by
 intro n
 induction n with
 |zero=>
  intro A d d' v v' u u' b hu r r' q q' e;cases r<;>cases r'<;>first |(simp[iQ] at e;done)|skip
  all_goals simp[iQ] at e
  all_goals subst e
  all_goals first
   |(have h:=vJ (A:=A) (s:=s) q q' rfl rfl;simpa [DI] using h)
 |succ n ih=>
  intro A d d' v v' u u' b hu r r' q q' e;cases r<;>cases r'<;>first |(simp[iQ] at e;done)|skip
  all_goals first
   |(simp[iQ] at e;subst e;have h:=vJ (A:=A) (s:=s) q q' rfl rfl;simpa [DI] using h)
   |skip
  rename_i a ds vs h1 q1 a' ds' vs' h2 q2;cases q;cases q'
  by_cases ha:a=a'
  ·subst ha;have:=DL I (n+1) (.tup h1 q1) (.tup h2 q2) e;subst this;exact SeqAt.EqAt.same _
  ·obtain⟨its,p1,t1,_⟩:=I.tuple h1;obtain⟨its',p2,t2,_⟩:=I.tuple h2;obtain⟨f,hf,rfl⟩:=mE (show oR (iQ n) ds ds'=some b from by simpa [iQ] using e);have l1:=q1.length;have l2:=q2.length;have l3:=p1.length;have l4:=p2.length
   have key:=SeqAt.RcAt.tuples (A:=A) (e:=f) t1 t2 (by omega) (λj j1 j2=>by
    have j1':j<its.length:=by simpa using j1
    have j2':j<its'.length:=by simpa using j2
    have e1:ds[j]? =some ds[j]:=Zd (by omega);have e2:ds'[j]? =some ds'[j]:=Zd (by omega);obtain⟨x,hx,rx⟩:=q1.get e1;obtain⟨y,hy,ry⟩:=q2.get e2;obtain⟨ux,hux,sx⟩:=p1.get hx;obtain⟨uy,huy,sy⟩:=p2.get hy
    have z1:its.toArray[j]=ux:=by
     have:=Ze.mp hux;obtain⟨_,z⟩:=this;simpa using z
    have z2:its'.toArray[j]=uy:=by
     have:=Ze.mp huy;obtain⟨_,z⟩:=this;simpa using z
    rw[z1,z2];exact ih (A:=A.in1) (by show A.units+1+n<cLine;omega) rx ry sx sy (hf j _ _ e1 e2))
   refine SeqAt.EqAt.of_refs ha ?_;have el:its.toArray.size=ds.length:=by simp;omega
   have el':its'.toArray.size=ds'.length:=by simp;omega
   rw[el,el'] at key;exact key
end
section
variable {prog:Program}{w:World}{A:Around}{E:Value->Shared->Prop}{s:Shared}{it d:Addr}{i n ep:Nat}{q1 q2:Value}{od:Obj}{es:Array DictEntry}
theorem uO:Builtin.Dict_items.ownsTuple "dict_itemiterator"=true:=by decide
theorem CI{v:Addr}{ov:Obj}{Q:Value->Shared->Prop}(gv:s.heap.get? v=some ov)(cv:ov.cls=.type "dict_items")(dv:ov.data=.fields #[.ref d])(go:s.heap.get? d=some od)(gd:od.data=.dict es ep)
 (c:Q (.ref s.heap.objs.size) {s with heap:=s.heap.push {cls:=.type "dict_itemiterator",data:=.fields #[.none,.bool false,.ref d,.int 0 0,.int es.size 0,.int ep 0,.none,.none]}}):wpAny (model prog w) A (pyIter (.ref v)) Q E s:=by
 have tv:s.TypeIs (.ref v) "dict_items":=⟨ov,gv,cv⟩;refine wpAny_pyIter_slot tv F.slot_dict_items_iter (wpAny_call_entry F.slot_dict_items_iter tv F.entry_dict_items_iter ?_ (F.args_dict_items_iter_1 _));unfold Builtin.«dict_items.__iter__»;refine Za (Zb (Za ?_));unfold Builtin.Dict_items.dictOf;refine Za (wpAny_field gv dv (x:=.ref d) rfl (Zb (Za ?_)));unfold Builtin.Dict_items.newIterator;refine Za (wpAny_dictEntries go gd (Za (wpAny_dictEpoch go gd ?_)));simp only[uO,if_true]
 refine wpAny_newObj_type (Zb ⟨_,rfl,"dict_itemiterator",_,⟨_,Heap.get?_push_size _ rfl,rfl⟩,F.slot_dict_itemiterator_next.lookup,?_⟩)
  (by simp only[sizeOk,Builtin.Dict_items.ownedTupleFields,Zk,List.length_append,List.length_cons,List.length_nil,sizeLine_eq];omega)
 simpa [rawInt,Builtin.Dict_items.ownedTupleFields] using c
theorem CH{en:DictEntry}{Q:Option Value->Shared->Prop}(hit:IsItemIter s.heap it d i n ep q1 q2)(go:s.heap.get? d=some od)(gd:od.data=.dict es ep)(hn:es.size=n)(hx:es[i]? =some en)
 (c:∀g,IsItemIterOut g it d (i+1) n ep en.key en.val s.heap.objs.size->g.get? s.heap.objs.size=some {cls:=.type "tuple",data:=.seq #[en.key,en.val]}->g.objs.size=s.heap.objs.size+1->
   (∀b o,b≠it->s.heap.get? b=some o->g.get? b=some o)->Q (some (.ref s.heap.objs.size)) {s with heap:=g}):wpAny (model prog w) A (pyNext (.ref it)) Q E s:=by
 obtain⟨hp,gn,dr,tk,os⟩:=s;have T0:Shared.TypeIs ⟨hp,gn,dr,tk,os⟩ (.ref it) "dict_itemiterator":=⟨_,hit,rfl⟩;unfold pyNext;refine Za (wpAny_attempt (wpAny_callSpecial?_slot (name:=Str.ofString "__next__") T0 F.slot_dict_itemiterator_next (wpAny_call_entry F.slot_dict_itemiterator_next T0 F.entry_dict_itemiterator_next ?_ (F.args_dict_itemiterator_next_1 _))));refine Za (Zb (Za (Za ?_)))
 first |refine Za (wpAny_typeNameOfWhole_itemiter T0 (Zb ?_))|refine Za (wpAny_typeNameOf_itemiter T0 (Zb ?_))
 refine Za (wpAny_fieldsOf hit rfl ?_);simp only[uO,if_true];show wpAny _ _ (if(Value.ref d==Value.none)=true then _ else _) _ _ _;rw[if_neg (show ¬((Value.ref d==Value.none)=true) from Bool.false_ne_true)];refine Za (Zb (Za (wpAny_dictEntries go gd ?_)));rw[if_neg (by rw[hn];simp)];refine Za (Zb (Za (wpAny_dictEpoch go gd ?_)));rw[if_neg (by simp)];refine Zb ?_;have lt:i<es.size:=(Array.getElem?_eq_some_iff.mp hx).1;have ee:es[i]=en:=(Array.getElem?_eq_some_iff.mp hx).2;simp only[show ¬((i:Int)<0) from by omega,if_false,Int.toNat_natCast,hx];refine Za ?_
 first |refine Za (wpAny_typeNameOfWhole_itemiter T0 (Zb ?_))|refine Za (wpAny_typeNameOf_itemiter T0 (Zb ?_))
 refine Za (wpAny_isOneOf_itemiter T0 ?_);show wpAny _ _ (setField (.ref it) 3 (rawInt ((i:Int)+1))>>=_) _ _ ⟨hp,gn,dr,tk,os⟩;refine Za (wpAny_setField_rec hit (by simp) λa1 e1 s1=>?_)
 replace s1:Heap.SameBut it hp a1:=s1
 replace e1:IsItemIter a1 it d (i+1) n ep q1 q2:=by
  have z:((i+1:Nat):Int)=(i:Int)+1:=by omega
  unfold IsItemIter;rw[z];simpa [rawInt] using e1
 have T1:Shared.TypeIs ⟨a1,gn,dr,tk,os⟩ (.ref it) "dict_itemiterator":=⟨_,e1,rfl⟩;refine Za (wpAny_holding (Za (wpAny_isOneOf_itemiter T1 (Za (wpAny_isOneOf_itemiter T1 ?_)))));show wpAny _ _ (Builtin.Dict_items.pairFromOwner (.ref it) 6 en.key en.val) _ _ ⟨a1,gn,dr,tk,os⟩;unfold Builtin.Dict_items.pairFromOwner;refine Za (wpAny_newTuple ?_);have e2:IsItemIter (a1.push {cls:=.type "tuple",data:=.seq #[en.key,en.val]}) it d (i+1) n ep q1 q2:=Zf _ e1;generalize h2:a1.push {cls:=.type "tuple",data:=.seq #[en.key,en.val]}=a2 at e2;have z1:a1.objs.size=hp.objs.size:=s1.1;have il:it<hp.objs.size:=Heap.lt_size hit;have t2:a2.get? hp.objs.size=some {cls:=.type "tuple",data:=.seq #[en.key,en.val]}:=by rw[<- h2, <- z1];exact Heap.get?_push_size _ rfl
 have z2:a2.objs.size=hp.objs.size+1:=by rw[<- h2,Heap.size_push,z1]
 have k2:∀b o,b≠it->hp.get? b=some o->a2.get? b=some o:=λb o hb e=>by rw[<- h2];exact Zf _ (s1.extBut b o hb e)
 show wpAny _ _ (Builtin.Dict_items.ownedTupleIsFree (.ref it)>>=_) _ _ ⟨a2,gn,dr,tk,os⟩;rw[z1];clear h2 e1 s1 T1 z1 a1;refine Za ?_;unfold Builtin.Dict_items.ownedTupleIsFree;refine Za (wpAny_field e2 rfl (x:=.none) rfl (Zb ?_));simp only[if_true];refine Za (wpAny_field e2 rfl (x:=q1) rfl (Za (wpAny_field e2 rfl (x:=q2) rfl ?_)));refine Za (wpAny_setField_rec e2 (by simp) λa3 e3 s3=>?_)
 replace s3:Heap.SameBut it a2 a3:=s3
 replace e3:IsItemIter a3 it d (i+1) n ep en.key q2:=e3
 refine Za (wpAny_setField_rec e3 (by simp) λa4 e4 s4=>?_)
 replace s4:Heap.SameBut it a3 a4:=s4
 replace e4:IsItemIter a4 it d (i+1) n ep en.key en.val:=e4
 refine Za (wpAny_setField_rec e4 (by simp) λa5 e5 s5=>?_)
 replace s5:Heap.SameBut it a4 a5:=s5
 replace e5:IsItemIterOut a5 it d (i+1) n ep en.key en.val hp.objs.size:=e5
 refine Za (wpAny_setField_rec e5 (by simp) λa6 e6 s6=>?_)
 replace s6:Heap.SameBut it a5 a6:=s6
 replace e6:IsItemIterOut a6 it d (i+1) n ep en.key en.val hp.objs.size:=e6
 refine Za (wpAny_letGo (Zb (Zb ⟨_,rfl,Zb (c a6 e6 ?_ ?_ ?_)⟩)))
 ·exact s6.extBut _ _ (Nat.ne_of_gt il) (s5.extBut _ _ (Nat.ne_of_gt il) (s4.extBut _ _ (Nat.ne_of_gt il) (s3.extBut _ _ (Nat.ne_of_gt il) t2)))
 ·show a6.objs.size=hp.objs.size+1;rw[s6.1,s5.1,s4.1,s3.1,z2]
 ·exact λb o hb e=>s6.extBut b o hb (s5.extBut b o hb (s4.extBut b o hb (s3.extBut b o hb (k2 b o hb e))))
theorem HM{Q:Option Value->Shared->Prop}(hh:A.handled=none)(hit:IsItemIter s.heap it d i n ep q1 q2)(go:s.heap.get? d=some od)(gd:od.data=.dict es ep)(hn:es.size=n)(hx:n<=i)
 (c:∀g,Heap.ExtBut it s.heap g->Q none {s with heap:=g}):wpAny (model prog w) A (pyNext (.ref it)) Q E s:=by
 have T0:s.TypeIs (.ref it) "dict_itemiterator":=⟨_,hit,rfl⟩;unfold pyNext;refine Za (wpAny_attempt (wpAny_callSpecial?_slot (name:=Str.ofString "__next__") T0 F.slot_dict_itemiterator_next (wpAny_call_entry F.slot_dict_itemiterator_next T0 F.entry_dict_itemiterator_next ?_ (F.args_dict_itemiterator_next_1 _))));refine Za (Zb (Za (Za ?_)))
 first |refine Za (wpAny_typeNameOfWhole_itemiter T0 (Zb ?_))|refine Za (wpAny_typeNameOf_itemiter T0 (Zb ?_))
 refine Za (wpAny_fieldsOf hit rfl ?_);simp only[uO,if_true];show wpAny _ _ (if(Value.ref d==Value.none)=true then _ else _) _ _ s;rw[if_neg (show ¬((Value.ref d==Value.none)=true) from Bool.false_ne_true)];refine Za (Zb (Za (wpAny_dictEntries go gd ?_)));rw[if_neg (by rw[hn];simp)];refine Za (Zb (Za (wpAny_dictEpoch go gd ?_)));rw[if_neg (by simp)];refine Zb ?_;have ge:es.size<=i:=by omega
 simp only[show ¬((i:Int)<0) from by omega,if_false,Int.toNat_natCast,Array.getElem?_eq_none ge];refine Za ?_
 first |refine Za (wpAny_typeNameOfWhole_itemiter T0 (Zb ?_))|refine Za (wpAny_typeNameOf_itemiter T0 (Zb ?_))
 show wpAny _ _ (setField (.ref it) 2 .none>>=_) _ _ s;refine Za (wpAny_setField hit rfl (by simp) ?_);show wpAny _ _ (newExc (.type "StopIteration") []>>=_) _ _ _;refine Za ?_;simp only[newExc,newTuple];refine Za (wpAny_newObj_type ?_ (by size_fits));refine Za (m:=firstArgMember _ _) (wpAny_of_eq (a:=Value.none) (by first |rfl|(simp only[firstArgMember];rfl)) ?_);refine wpAny_newObj_type ?_ (by size_fits);simp only[raiseNew];refine Za (wpAny_handled ?_);rw[show A.in1.handled=none from hh];refine Za (Zb (wpAny_throw ?_));refine Za (wpAny_isInstance (T:="StopIteration") (b:=true) ⟨_,Heap.get?_push_size _ rfl,rfl⟩ isSubtype_stop ?_);exact Zb (c _ (((Heap.SameBut.update ..).extBut.push _).push _))
end
theorem nY(P P':Program)(w w':World):entryOfKey (tupleKind (intKind P w))=entryOfKey (tupleKind (intKind P' w')):=rfl
theorem CJ{P:Program}{w:World}:∀{ks:List Int}{us:List Value},Vals (ks.map V.int) us->ItemsAre (intKind P w) ks us
 | [],_,.nil=>.nil
 |k::ks,_,.cons h t=>by
  obtain⟨tk,rfl⟩:=h;exact .cons (by show Value.isInt k (.int k tk)=true;simp[Value.isInt]) (CJ t)
section
variable {X:Cx}{pins:List (Addr×Obj)}{σ:Sg}{H:Hp}{s:Shared}
theorem uY(I:Inv X pins σ H s){b:Addr}{k:List Int}(h:SqT X.K H b (k.map V.int)):(tupleKind (intKind X.prog X.w)).is s.heap k b:=by
 obtain⟨its,p,t,_⟩:=I.tuple h;obtain⟨o,h1,h2,n,h3⟩:=t;exact⟨o,its.toArray,n,h1,h2,h3,by simpa using CJ p⟩
theorem pZ{xs:List (List Int×Addr×Value)}{k:List Int}:(atKey xs k).isSome=xs.any λx=>decide (x.1=k):=by
 induction xs with
 |nil=>rfl
 |cons x xs ih=>
  by_cases e:x.1=k
  ·simp[atKey,List.find?_cons,e]
  ·have:atKey (x::xs) k=atKey xs k:=by simp[atKey,List.find?_cons,e]
   rw[this,ih];simp[e]
theorem oI{α:Type}{l:List (List Int×α)}{xs:List (List Int×Addr×Value)}{k:List Int}(h:l.map (·.1)=xs.map (·.1)):l.any (λkv=>decide (kv.1=k))=xs.any λx=>decide (x.1=k):=by
 have a:l.any (λkv=>decide (kv.1=k))=(l.map (·.1)).any λy=>decide (y=k):=by rw[List.any_map];rfl
 have b:(xs.any λx=>decide (x.1=k))=(xs.map (·.1)).any λy=>decide (y=k):=by rw[List.any_map];rfl
 rw[a,b,h]
theorem rO(k:List Int):∀l:List (List Int×D),(oK l k).isSome=l.any λkv=>decide (kv.1=k)
 | []=>rfl
 |p::l=>by
  have ih:=rO k l;unfold oK at ih⊢;rw[List.find?_cons,List.any_cons]
  by_cases e:p.1=k
  ·rw[decide_eq_true e];rfl
  ·rw[decide_eq_false e];simpa using ih
theorem rN{K:W.Frag}{m:List Addr}{k:List Int}{d:D}:∀{ds:List (List Int×D)}{xs:List (List Int×Addr×Value)}{us:List V},ds.map (·.1)=xs.map (·.1)->RDs K m H (ds.map (·.2)) us->Vals us (xs.map (·.2.2))->oK ds k=some d->∃v p,RD K m H d v/\atKey xs k=some p/\RelV v p.2
 | [],_,_,_,_,_,e=>by cases e
 |_::_,[],_,h,_,_,_=>by cases h
 |q::ds,x::xs,us,h,r,p,e=>by
  cases r with
  |cons r1 r=>
   cases p with
   |cons p1 p=>
    obtain⟨h1,h2⟩:=List.cons.inj (show q.1::ds.map (·.1)=x.1::xs.map (·.1) from h);unfold oK at e;rw[List.find?_cons] at e
    by_cases z:q.1=k
    ·rw[decide_eq_true z] at e;have e':q.2=d:=Zg e;subst e';have z':x.1=k:=by rw[<- h1];exact z
     exact⟨_,x.2,r1,by simp[atKey,List.find?_cons,z'],p1⟩
    ·rw[decide_eq_false z] at e;have z':¬x.1=k:=by rw[<- h1];exact z
     have:atKey (x::xs) k=atKey xs k:=by simp[atKey,List.find?_cons,z']
     rw[this];exact rN h2 r p e
theorem kY{K:W.Frag}{m:List Addr}:∀{ds:List D}{vs:List V}{l:List Int},RDs K m H ds vs->sS ds=some l->vs=l.map V.int
 |_,_,_,.nil,e=>by cases e;rfl
 |_,_,_,.cons r t,e=>by
  cases r<;>first |(cases e;done)|skip
  simp only[sS,Option.map_eq_some_iff] at e;obtain⟨l',e1,rfl⟩:=e;rw[kY t e1];rfl
theorem qW(I:Inv X pins σ H s){m:List Addr}{h:Hh}(w:Wd X.K m h H){x:D}{v:V}{l:List (List Int×D)}(r:RD X.K m H x v)(e:dN h x=some l):
 ∃n a xs us o es ep,x=.ref n/\v=.ref a/\h[n]? =some (.dtf l)/\m[n]? =some a/\H a=some (.frz o (.own a))/\Dfo a xs o es ep/\s.heap.get? a=some o/\l.map (·.1)=xs.map (·.1)/\(∀x∈xs,SqT X.K H x.2.1 (x.1.map V.int))/\RDs X.K m H (l.map (·.2)) us/\Vals us (xs.map (·.2.2))/\s.heap.DictOfH (tupleKind (intKind X.prog X.w)) a xs:=by
 cases r<;>first |(cases e;done)|skip
 rename_i n a ha;simp only[dN] at e;split at e
 ·rename_i l' el;cases e;obtain⟨xs,us,o,es,ep,q1,q2,q3,q4,q5,q6⟩:RO X.K m H a (.dtf l):=w.ob n _ a el ha;have go:s.heap.get? a=some o:=(show ObjOk X.prog X.w H s.heap a (.frz o (.own a)) from I.hok a _ q1).1;obtain⟨d1,d2,d3,d4,⟨P,w',d5⟩,d6⟩:=id q2;exact⟨n,a,xs,us,o,es,ep,rfl,rfl,el,ha,q1,q2,go,q3,q4,q5,q6,o,es,ep,go,d3,d4,d5.trans (by rw[nY P X.prog w' X.w]),λx hx=>uY I (q4 x hx),d6⟩
 ·cases e
theorem uS{prog:Program}{w:World}(d:Addr)(hd:(d==sysModules)=false):MeetsIn prog w (Builtin.«dict.__len__» ⟨[.ref d],[]⟩) (λ_ R s=>∃o es ep,s.heap.get? d=some o/\o.data=.dict es ep/\R (.ok (.ret (.int es.size s.toks))) {s with toks:=s.toks+1}):=
 .of_wp λA R s ⟨o,es,ep,ho,hdat,h⟩=>by
  show wpAny _ _ (dictSize d>>=_) _ _ s;unfold dictSize;refine Za (Za (wpAny_dictEntries ho hdat (Zb ?_)));show wpAny _ _ (Builtin.Dict.pendingCount d>>=_) _ _ s;refine Za (wpAny_pendingCount_other hd (wpAny_ret_mkInt ?_));rw[Nat.add_zero];exact h
theorem zP{prog:Program}{w:World}{A:Around}{E:Value->Shared->Prop}{s:Shared}{d:Addr}{o:Obj}{es:Array DictEntry}{ep:Nat}{Q:Value->Shared->Prop}(hd:(d==sysModules)=false)(ho:s.heap.get? d=some o)(hx:o.ExactDict)(hdat:o.data=.dict es ep)(hfit:(es.size:Int)<2^63)
 (h:Q (.int es.size (s.toks+1)) {s with toks:=s.toks+1+1}):wpAny (model prog w) A (call (.builtin "len") [.ref d]) Q E s:=by
 have ty:s.TypeIs (.ref d) "dict":=⟨o,ho,hx.1⟩;refine Calls.call_function_entry kind_len plain_len entry_len (args_len1 _) ?_;unfold Builtin.«len»;refine Za (m:=oneArg "len" _) (Zb ?_);refine Za (m:=callSpecial? (.ref d) (Str.ofString "__len__")) (wpAny_callSpecial?_slot (name:=Str.ofString "__len__") ty F.slot_dict_len (call_meetsIn F.slot_dict_len ty F.entry_dict_len (F.args_dict_len_1 _) (uS d hd) ⟨o,es,ep,ho,hdat,?_⟩));show wpAny _ _ _ _ _ {s with toks:=s.toks+1};refine Za (wpAny_holding (Zb (Za (wpAny_letGo ?_))));show wpAny _ _ (if((es.size:Nat):Int)<0 then _ else _) _ _ _;rw[if_neg (by omega)];show wpAny _ _ (if((es.size:Nat):Int) ≥ 2^63 then _ else _) _ _ _;rw[if_neg (by omega)];exact Za (wpAny_mkInt (Zb ⟨_,rfl,h⟩))
end
inductive CT (A:Around) (s:Shared) (x:Value):List Value->Bool->Prop where
 |nil:CT A s x [] false
 |hit {y:Value} {ys:List Value} (h:SeqAt.EqAt A s y x true):CT A s x (y::ys) true
 |mis {y:Value} {ys:List Value} {b:Bool} (h:SeqAt.EqAt A s y x false) (r:CT A s x ys b):CT A s x (y::ys) b
section
open PySem.SeqAt
open PySem.AutoSeq1 (wpAny_loadPart')
open PySem.MeetsSeq PySem.MeetsSeq2 PySem.MeetsSeq3
theorem IN(l:Addr)(items:Array Value)(n:Nat)(dd:Option Addr)(sl:Array (Option Value))(x:Value){b:Bool}:∀(m i:Nat),items.size-i=m->Meets (Builtin.«list.__contains__.loop» ⟨[.ref l,x,rawInt i],[]⟩)
 (λA R s=>s.heap.get? l=some {cls:=.type "list",dict:=dd,data:=.seq items n,slots:=sl}/\CT A.in1 s x (items.toList.drop i) b/\R (.ok (.ret (.bool b))) s):=by
 intro m
 induction m with
 |zero=>
  intro i hk prog w A R s h;obtain⟨hp,g,d,tk,os⟩:=s;obtain⟨hl,hf,h⟩:=h
  wp_walk using wpAny_loadPart' hl
  have hi:items[((i:Nat):Int).toNat]? =none:=by simp;omega
  have hd:items.toList.drop i=[]:=by simp;omega
  rw[hd] at hf;cases hf;rw[hi]
  wp_walk
  exact h
 |succ m ih=>
  intro i hk prog w A R s h;obtain⟨hp,g,d,tk,os⟩:=s;obtain⟨hl,hf,h⟩:=h;have lt:i<items.size:=by omega
  have d1:items.toList.drop i=items[i]::items.toList.drop (i+1):=by rw[List.drop_eq_getElem_cons (by simpa using lt)];simp
  have hi:items[((i:Nat):Int).toNat]? =some items[i]:=by simp[lt]
  have hc:((i:Int)+1)=((i+1:Nat):Int):=by push_cast;rfl
  wp_walk using wpAny_loadPart' hl
  rw[hi];rw[d1] at hf;cases hf with
  |hit he=>
   refine Za (he prog w _ _ ?_)
   wp_walk
   exact h
  |mis he r=>
   refine Za (he prog w _ _ ?_)
   wp_walk
   rw[hc]
   exact⟨plainId_quiet plain_contains_loop _,codeAny_builtin entry_contains_loop (by
    rw[Around.under_plainId plain_contains_loop _];exact ih (i+1) (by omega) prog w A R _ ⟨hl,r,h⟩)⟩
theorem IP(l:Addr)(items:Array Value)(n:Nat)(dd:Option Addr)(sl:Array (Option Value))(x:Value){b:Bool}:Meets (Builtin.«list.__contains__» ⟨[.ref l,x],[]⟩)
 (λA R s=>s.heap.get? l=some {cls:=.type "list",dict:=dd,data:=.seq items n,slots:=sl}/\CT A.in1 s x items.toList b/\R (.ok (.ret (.bool b))) s):=by
 intro prog w A R s h;obtain⟨hp,g,d,tk,os⟩:=s;obtain⟨hl,hf,h⟩:=h
 wp_walk using wpAny_loadPart' hl
 exact⟨plainId_quiet plain_contains_loop _,codeAny_builtin entry_contains_loop (by
  rw[Around.under_plainId plain_contains_loop _];exact IN l items n dd sl x _ 0 rfl prog w A R _ ⟨hl,by simpa using hf,h⟩)⟩
end
section
variable {X:Cx}
theorem KU{pins:List (Addr×Obj)}{σ:Sg}{H:Hp}{s:Shared}{m:List Addr}(I:Inv X pins σ H s){n:Nat}{A:Around}{ds ds':List D}{vs vs':List V}{its its':List Value}(hu:A.units+1+n<cLine)
 (q1:RDs X.K m H ds vs)(q2:RDs X.K m H ds' vs')(p1:Vals vs its)(p2:Vals vs' its'){f:Nat->Bool}(hf:∀j x y,ds[j]? =some x->ds'[j]? =some y->iQ n x y=some (f j)):
 ∀j (h1:j<its.toArray.size) (h2:j<its'.toArray.size),SeqAt.EqAt A.in1 s its.toArray[j] its'.toArray[j] (f j):=λj j1 j2=>by
 have l1:=q1.length;have l2:=q2.length;have l3:=p1.length;have l4:=p2.length;have j1':j<its.length:=by simpa using j1
 have j2':j<its'.length:=by simpa using j2
 have e1:ds[j]? =some ds[j]:=Zd (by omega);have e2:ds'[j]? =some ds'[j]:=Zd (by omega);obtain⟨x,hx,rx⟩:=q1.get e1;obtain⟨y,hy,ry⟩:=q2.get e2;obtain⟨ux,hux,sx⟩:=p1.get hx;obtain⟨uy,huy,sy⟩:=p2.get hy
 have z1:its.toArray[j]=ux:=by
  obtain⟨_,z⟩:=Ze.mp hux;simpa using z
 have z2:its'.toArray[j]=uy:=by
  obtain⟨_,z⟩:=Ze.mp huy;simpa using z
 rw[z1,z2];exact DM I n (by show A.units+1+n<cLine;omega) rx ry sx sy (hf j _ _ e1 e2)
theorem xD{pins:List (Addr×Obj)}{σ:Sg}{H:Hp}{s:Shared}{m:List Addr}{h:Hh}(I:Inv X pins σ H s)(hr:∃k,Room k X.A){x y:V}{v u:Value}{dx dy:D}{b:Bool}(w:Wd X.K m h H)(r1:RD X.K m H dx x)(r2:RD X.K m H dy y)
 (rx:RelV x v)(ry:RelV y u)(e:DK dx dy h=some b):SeqAt.RcAt X.A s v u b/\SeqAt.RcNeAt X.A s v u (!b):=by
 obtain⟨k,hr⟩:=hr;have hu:=hr.units;cases r1<;>cases r2<;>first |(simp[DK,iQ] at e;done)|skip
 case ref.ref=>
  rename_i i a ha j c hc;cases rx;cases ry;simp only[DK] at e;split at e
  ·rename_i ds ds' e1 e2;obtain⟨a',vs,ha',hq,q1⟩:=w.lst e1;obtain⟨c',vs',hc',hq',q2⟩:=w.lst e2;rw[ha] at ha';cases ha';rw[hc] at hc';cases hc';obtain⟨its,p1,t1,_⟩:=I.list hq;obtain⟨its',p2,t2,_⟩:=I.list hq';have l1:=q1.length;have l2:=q2.length;have l3:=p1.length;have l4:=p2.length;split at e
   ·rename_i el;obtain⟨f,hf,rfl⟩:=mE e;have hs:its.toArray.size=its'.toArray.size:=by simp;omega
    have he:=KU (A:=X.A) I (n:=20) (by omega) q1 q2 p1 p2 hf;have el2:its.toArray.size=ds.length:=by simp;omega
    have k1:=SeqAt.RcAt.lists (A:=X.A) (e:=f) t1.isList t2.isList hs (by omega) he;have k2:=SeqAt.RcNeAt.lists (A:=X.A) (e:=f) t1.isList t2.isList hs (by omega) he;rw[el2] at k1 k2;rw[show(min ds.length ds'.length)=ds.length by omega,show(ds.length==ds'.length)=true by simp[el],Bool.and_true];exact⟨k1,k2⟩
   ·rename_i el;have eb:false=b:=Zg e;subst eb;have hs:(its.toArray.size != its'.toArray.size)=true:=by simp;omega
    exact⟨SeqAt.RcAt.lists_lengths t1.isList t2.isList hs (by omega),SeqAt.RcNeAt.lists_lengths t1.isList t2.isList hs (by omega)⟩
  ·cases e
 case tup.tup=>
  rename_i a ds vs h1 q1 a' ds' vs' h2 q2;cases rx;cases ry;obtain⟨its,p1,t1,_⟩:=I.tuple h1;obtain⟨its',p2,t2,_⟩:=I.tuple h2;have l1:=q1.length;have l2:=q2.length;have l3:=p1.length;have l4:=p2.length;obtain⟨f,hf,rfl⟩:=mE (show oR (iQ 19) ds ds'=some b from by simpa [DK,iQ] using e);have he:=KU (A:=X.A) I (n:=19) (by omega) q1 q2 p1 p2 hf;have k1:=SeqAt.RcAt.tuples (A:=X.A) (e:=f) t1 t2 (by omega) he;have k2:=SeqAt.RcNeAt.tuples (A:=X.A) (e:=f) t1 t2 (by omega) he;have el:its.toArray.size=ds.length:=by simp;omega
  have el':its'.toArray.size=ds'.length:=by simp;omega
  rw[el,el'] at k1 k2;exact⟨k1,k2⟩
 all_goals simp[DK,iQ] at e
 all_goals subst e
 case non.non=>cases rx;cases ry;exact⟨SeqAt.RcAt.none_none,SeqAt.RcNeAt.none_none⟩
 case non.int=>cases rx;obtain⟨t,rfl⟩:=ry;exact⟨SeqAt.RcAt.none_int _ _,SeqAt.RcNeAt.none_int _ _⟩
 case non.str=>cases rx;obtain⟨t,rfl⟩:=ry;exact⟨SeqAt.RcAt.none_str _ _,SeqAt.RcNeAt.none_str _ _⟩
 case int.non=>cases ry;obtain⟨t,rfl⟩:=rx;exact⟨SeqAt.RcAt.int_none _ _,SeqAt.RcNeAt.int_none _ _⟩
 case str.non=>cases ry;obtain⟨t,rfl⟩:=rx;exact⟨SeqAt.RcAt.str_none _ _,SeqAt.RcNeAt.str_none _ _⟩
 case bl.bl=>cases rx;cases ry;exact⟨SeqAt.RcAt.bool_bool _ _,SeqAt.RcNeAt.bool_bool _ _⟩
 case int.int=>obtain⟨t,rfl⟩:=rx;obtain⟨t',rfl⟩:=ry;exact⟨SeqAt.RcAt.int_int _ _ _ _,SeqAt.RcNeAt.int_int _ _ _ _⟩
 case int.str=>obtain⟨t,rfl⟩:=rx;obtain⟨t',rfl⟩:=ry;exact⟨SeqAt.RcAt.int_str _ _ _ _,SeqAt.RcNeAt.int_str _ _ _ _⟩
 case str.int=>obtain⟨t,rfl⟩:=rx;obtain⟨t',rfl⟩:=ry;exact⟨SeqAt.RcAt.str_int _ _ _ _,SeqAt.RcNeAt.str_int _ _ _ _⟩
 case str.str=>obtain⟨t,rfl⟩:=rx;obtain⟨t',rfl⟩:=ry;exact⟨SeqAt.RcAt.str_str _ _ _ _,SeqAt.RcNeAt.str_str _ _ _ _⟩
theorem RD.flat{K:W.Frag}{m:List Addr}{H:Hp}{d:D}{v:V}(r:RD K m H d v)(f:flat d=true):iO v=true:=by
 cases r<;>first |rfl|(cases f;done)
theorem RD.eqF{K:W.Frag}{m:List Addr}{H:Hp}{d d':D}{v v':V}(r:RD K m H d v)(r':RD K m H d' v')(f:Ng.flat d=true)(f':Ng.flat d'=true):DI v v'=Ng.eqF d d':=by
 cases r<;>first |(cases f;done)|skip
 all_goals cases r'<;>first |(cases f';done)|rfl
theorem RDs.flat{K:W.Frag}{m:List Addr}{H:Hp}:∀{ds:List D}{vs:List V},RDs K m H ds vs->ds.all Ng.flat=true->vs.all iO=true
 |_,_,.nil,_=>rfl
 |_,_,.cons r t,f=>by
  rw[List.all_cons,Bool.and_eq_true] at f;rw[List.all_cons,r.flat f.1,RDs.flat t f.2];rfl
theorem RDs.anyF{K:W.Frag}{m:List Addr}{H:Hp}{x:D}{v:V}(rx:RD K m H x v)(fx:Ng.flat x=true):∀{ds:List D}{vs:List V},RDs K m H ds vs->ds.all Ng.flat=true->KJ v vs=ds.any λy=>Ng.eqF y x
 |_,_,.nil,_=>rfl
 |_,_,.cons r t,f=>by
  rw[List.all_cons,Bool.and_eq_true] at f;have ih:=RDs.anyF rx fx t f.2;unfold KJ at ih⊢;rw[List.any_cons,List.any_cons,ih,r.eqF rx f.1 fx]
theorem mV{m:List Addr}{h:Hh}{H:Hp}{K:W.Frag}(w:Wd K m h H){d:D}{v:V}{l:List D}(r:RD K m H d v)(e:eC d h=some l):∃p vs,v=.ref p/\(SqL K H p vs\/SqT K H p vs)/\RDs K m H l vs:=by
 cases r<;>first |(simp[eC] at e;done)|skip
 ·rename_i a ds vs h1 q;have e':ds=l:=by simpa [eC] using e
  subst e';exact⟨a,vs,rfl,.inr h1,q⟩
 ·rename_i n a ha;obtain⟨a',vs,ha',hq,q⟩:=w.lst (show aJ h n=some l from e);rw[ha] at ha';cases ha';exact⟨a,vs,rfl,.inl hq,q⟩
theorem mK{K:W.Frag}{m:List Addr}{H:Hp}{k:cB}{d:D}:∀{ds:List (cB×D)}{us:List (cB×V)},ds.map (·.1)=us.map (·.1)->RDs K m H (ds.map (·.2)) (us.map (·.2))->gN ds k=some d->∃v,iI us k=some v/\RD K m H d v
 | [],_,_,_,e=>by simp[gN] at e
 |p::ds,[],hk,_,_=>by simp at hk
 |p::ds,q::us,hk,r,e=>by
  simp only[Zh,List.cons.injEq] at hk;cases r with
  |cons r1 r2=>
   unfold gN at e;unfold iI;rw[List.find?_cons] at e⊢;rw[<- hk.1]
   by_cases z:p.1=k
   ·rw[decide_eq_true z] at e⊢;simp only at e⊢;cases e;exact⟨q.2,rfl,r1⟩
   ·rw[decide_eq_false z] at e⊢;exact mK hk.2 r2 e
theorem jW{K:W.Frag}{m:List Addr}{H:Hp}{d:D}{v:V}{k:cB}(r:RD K m H d v)(e:CC d=some k):v=kV k:=by
 cases r<;>first |(cases e;done)|(cases e;rfl)
theorem iE{K:W.Frag}{m:List Addr}{h:Hh}{H:Hp}{x:D}{v:V}{l:List (cB×D)}(w:Wd K m h H)(r:RD K m H x v)(e:dO h x=some l):∃n a us,x=.ref n/\v=.ref a/\h[n]? =some (.dct l)/\m[n]? =some a/\H a=some (.dK us)/\l.map (·.1)=us.map (·.1)/\RDs K m H (l.map (·.2)) (us.map (·.2)):=by
 cases r<;>first |(cases e;done)|skip
 rename_i n a ha;simp only[dO] at e;split at e
 ·rename_i l' el;cases e;obtain⟨us,q1,q2,q3⟩:=w.ob n _ a el ha;exact⟨n,a,us,rfl,rfl,el,ha,q1,q2,q3⟩
 ·cases e
theorem oX{K:W.Frag}{k:cB}:∀{ds:List (cB×D)}{us:List (cB×V)},ds.map (·.1)=us.map (·.1)->gN ds k=none->iI us k=none
 | [],[],_,_=>rfl
 | [],q::us,hk,_=>by simp at hk
 |p::ds,[],hk,_=>by simp at hk
 |p::ds,q::us,hk,e=>by
  simp only[Zh,List.cons.injEq] at hk;unfold gN at e;unfold iI;rw[List.find?_cons] at e⊢;rw[<- hk.1]
  by_cases z:p.1=k
  ·rw[decide_eq_true z] at e;cases e
  ·rw[decide_eq_false z] at e⊢;exact oX (K:=K) hk.2 e
theorem nP{K:W.Frag}{m:List Addr}{H:Hp}{k:cB}{ds:List (cB×D)}{us:List (cB×V)}(hk:ds.map (·.1)=us.map (·.1))(r:RDs K m H (ds.map (·.2)) (us.map (·.2))):(iI us k).isSome=(gN ds k).isSome:=by
 cases e:gN ds k with
 |none=>rw[oX (K:=K) hk e]<;>rfl
 |some d=>obtain⟨v,hv,_⟩:=mK hk r e;rw[hv];rfl
theorem LA{pins:List (Addr×Obj)}{σ:Sg}{H:Hp}{s:Shared}{m:List Addr}(I:Inv X pins σ H s){A:Around}(hu:A.units+20<cLine){dx:D}{x:V}{v:Value}(rx:RD X.K m H dx x)(sx:RelV x v):∀{ds:List D}{vs:List V}{its:List Value}{b:Bool},RDs X.K m H ds vs->Vals vs its->RH dx ds=some b->CT A s v its b
 | [],_,_,b,.nil,.nil,e=>by cases e;exact .nil
 |y::ds,_,_,b,.cons r q,.cons p t,e=>by
  simp only[RH] at e;split at e
  ·rename_i a c e1 e2;have e':=Zg e;have z:=DM I 20 hu r rx p sx e1;have ih:=LA I hu rx sx q t e2;cases a with
   |true=>subst e';exact .hit z
   |false=>rw[Bool.false_or] at e';subst e';exact .mis z ih
  ·cases e
theorem pE(hr:∃k,Room k X.A)(op:Cop):jN X (compareOp op.op) (rD X.K (cH op)):=by
 intro pins s σ H x y v u Q I rx ry q;obtain⟨m,h,dx,dy,d,h',w,r1,r2,e,c⟩:=q;have fin:∀z,RD X.K m H d z->h=h'->Q z H:=λz rz eh=>by subst eh;exact c m z H Gr.refl w rz
 cases op with
 |lt=>
  obtain⟨i,rfl⟩:∃i,dx=.int i:=by cases dx<;>first |exact⟨_,rfl⟩|(cases e;done)
  obtain⟨j,rfl⟩:∃j,dy=.int j:=by cases dy<;>first |exact⟨_,rfl⟩|(cases e;done)
  cases r1;cases r2;cases e;exact TJ pins s σ H _ _ v u Q I rx ry ⟨_,_,rfl,rfl,fin _ (.bl _) rfl⟩
 |le=>
  obtain⟨i,rfl⟩:∃i,dx=.int i:=by cases dx<;>first |exact⟨_,rfl⟩|(cases e;done)
  obtain⟨j,rfl⟩:∃j,dy=.int j:=by cases dy<;>first |exact⟨_,rfl⟩|(cases e;done)
  cases r1;cases r2;cases e;exact TK pins s σ H _ _ v u Q I rx ry ⟨_,_,rfl,rfl,fin _ (.bl _) rfl⟩
 |gt=>
  obtain⟨i,rfl⟩:∃i,dx=.int i:=by cases dx<;>first |exact⟨_,rfl⟩|(cases e;done)
  obtain⟨j,rfl⟩:∃j,dy=.int j:=by cases dy<;>first |exact⟨_,rfl⟩|(cases e;done)
  cases r1;cases r2;cases e;exact TL pins s σ H _ _ v u Q I rx ry ⟨_,_,rfl,rfl,fin _ (.bl _) rfl⟩
 |ge=>
  obtain⟨i,rfl⟩:∃i,dx=.int i:=by cases dx<;>first |exact⟨_,rfl⟩|(cases e;done)
  obtain⟨j,rfl⟩:∃j,dy=.int j:=by cases dy<;>first |exact⟨_,rfl⟩|(cases e;done)
  cases r1;cases r2;cases e;exact TM pins s σ H _ _ v u Q I rx ry ⟨_,_,rfl,rfl,fin _ (.bl _) rfl⟩
 |eq=>
  replace e:(match DK dx dy h with|some b=>Rs.ok (D.bl (b)) h|none=>.bad)=.ok d h':=e
  split at e
  ·rename_i b eb;cases e;exact(xD I hr w r1 r2 rx ry eb).1 _ _ _ _ ⟨.bl b,H,I,rfl,fin _ (.bl _) rfl⟩
  ·cases e
 |ne=>
  replace e:(match DK dx dy h with|some b=>Rs.ok (D.bl (!b)) h|none=>.bad)=.ok d h':=e
  split at e
  ·rename_i b eb;cases e;exact(xD I hr w r1 r2 rx ry eb).2 _ _ _ _ ⟨.bl (!b),H,I,rfl,fin _ (.bl _) rfl⟩
  ·cases e
 |is=>
  obtain rfl:dy=.non:=by cases dy<;>first |rfl|(cases e;done)
  cases r2;cases e;refine NH pins s σ H _ _ v u Q I rx ry ⟨rfl,fin _ ?_ rfl⟩;cases r1<;>exact .bl _
 |isnot=>
  obtain rfl:dy=.non:=by cases dy<;>first |rfl|(cases e;done)
  cases r2;cases e;refine GS pins s σ H _ _ v u Q I rx ry ⟨rfl,fin _ ?_ rfl⟩;cases r1<;>exact .bl _
 |inn=>
  replace e:(match KI dx dy h with|some b=>Rs.ok (D.bl b) h|none=>match dO h dy with|some l=>KK dx l false h|none=>match eC dy h with|some l=>KL dx l false h|none=>.bad)=.ok d h':=e
  split at e
  ·rename_i b eb;cases e;unfold KI at eb;split at eb
   ·cases eb;cases r1;cases r2;exact yJ pins s σ H _ _ v u Q I rx ry ⟨_,_,rfl,rfl,fin _ (.bl _) rfl⟩
   ·rename_i ks;split at eb
    ·rename_i l el;obtain⟨n,a,xs,us,o,es,ep,rfl,rfl,hn,ha,hf,df,go,hk,hks,rv,vv,dd⟩:=qW I w r2 el;rw[Option.map_eq_some_iff] at eb;obtain⟨k,ek,rfl⟩:=eb;cases r1 with
     |tup hq q=>
      have:=kY q ek;subst this;obtain⟨kk,hr⟩:=hr;have hun:=hr.units;cases rx;cases ry;refine wpAny_in_heap (tupleKind_room_in1 (by omega)) (uY I hq) df.1 dd ⟨.bl _,H,I.tok _,rfl,?_⟩;rw[pZ, <- oI hk, <- rO];exact fin _ (.bl _) rfl
    ·cases eb
   ·cases eb
  split at e
  ·rename_i l el;obtain⟨n,a,us,rfl,rfl,hn,ha,hu,hk,rv⟩:=iE w r2 el;unfold KK at e;split at e
   ·rename_i k ek;cases e;have:=jW r1 ek;subst this;obtain⟨kk,hr⟩:=hr;have hun:=hr.units;cases ry;refine B2 (by omega) I (DGet.k hu) rx λs3 I3=>⟨.bl _,H,I3,rfl,?_⟩;rw[nP hk rv];exact fin _ (.bl _) rfl
   ·cases e
  ·split at e
   ·rename_i l el;unfold KL at e;split at e
    ·rename_i hf;cases e;obtain⟨p,vs,rfl,hq,q⟩:=mV w r2 el;refine yK pins s σ H _ _ v u Q I rx ry ⟨p,vs,rfl,hq,r1.flat hf.1,q.flat hf.2,?_⟩;have z:=RDs.anyF r1 hf.1 q hf.2;show Q (.bl (if false=true then !KJ x vs else KJ x vs)) H;rw[if_neg (by decide),z];exact fin _ (.bl _) rfl
    ·cases e
   ·cases e
 |notin=>
  replace e:(match dO h dy with|some l=>KK dx l true h|none=>match eC dy h with|some l=>(match HN dx dy l with|some b=>Rs.ok (D.bl (!b)) h|none=>KL dx l true h)|none=>.bad)=.ok d h':=e
  split at e
  ·rename_i l el;obtain⟨n,a,us,rfl,rfl,hn,ha,hu,hk,rv⟩:=iE w r2 el;unfold KK at e;split at e
   ·rename_i k ek;cases e;have:=jW r1 ek;subst this;obtain⟨kk,hr⟩:=hr;have hun:=hr.units;cases ry;refine II (by omega) I (DGet.k hu) rx λs3 I3=>⟨.bl _,H,I3,rfl,?_⟩;rw[nP hk rv];exact fin _ (by simpa using RD.bl (!(gN l k).isSome)) rfl
   ·cases e
  ·split at e
   ·rename_i l el;split at e
    ·rename_i b eb;cases e;unfold HN at eb;split at eb
     ·cases r2 with
      |ref hm=>
       obtain⟨a',vs',hm',hq',q'⟩:=w.lst (show aJ h _=some l from el);rw[hm] at hm';cases hm';obtain⟨its,p1,t1,_⟩:=I.list hq';obtain⟨kk,hr⟩:=hr;have hun:=hr.units;obtain⟨⟨cls,dd,data,sl⟩,ho,hcl,nn,hd⟩:=t1.isList;simp only at hcl hd;subst hcl hd;cases ry;refine PySem.SeqRoads2.notIn_meets ⟨_,ho,rfl⟩ F.slot_list_contains F.entry_list_contains (F.args_list_contains_2 _ _) (IP _ its.toArray nn dd sl v (b:=b)) ⟨ho,?_,_,rfl,⟨.bl _,H,I,rfl,fin _ (.bl _) rfl⟩⟩;simpa using LA I (A:=X.A.in1) (by show X.A.units+1+20<cLine;omega) r1 rx q' p1 eb
     ·cases eb
    rename_i hnt;unfold KL at e;split at e
    ·rename_i hf;cases e;obtain⟨p,vs,rfl,hq,q⟩:=mV w r2 el;refine qN pins s σ H _ _ v u Q I rx ry ⟨p,vs,rfl,hq,r1.flat hf.1,q.flat hf.2,?_⟩;have z:=RDs.anyF r1 hf.1 q hf.2;show Q (.bl (if true=true then !KJ x vs else KJ x vs)) H;rw[if_pos rfl,z];exact fin _ (by simpa using RD.bl _) rfl
    ·cases e
   ·cases e
theorem JF{K:W.Frag}{m:List Addr}{H:Hp}{ds:List D}{vs:List V}{i:Int}{d:D}(q:RDs K m H ds vs)(e:iG ds i=some d):∃v,iG vs i=some v/\RD K m H d v:=by
 unfold iG at e⊢;rw[q.length] at e;cases z:uZ vs.length i with
 |none=>rw[z] at e;cases e
 |some j=>
  rw[z] at e;obtain⟨v,h1,h2⟩:=q.get (show ds[j]? =some d from e);exact⟨v,h1,h2⟩
theorem OF:RS X (rD X.K KH):=by
 intro value slice pins s σ H x y v u Q I rx ry q hs;obtain⟨m,h,dx,dy,d,h',w,r1,r2,e,c⟩:=q;unfold KH at e;split at e
 ·rename_i l i el;split at e
  ·rename_i d' ed;simp at e;obtain⟨rfl,rfl⟩:=e;obtain⟨p,vs,rfl,hq,q⟩:=mV w r1 el;obtain⟨z,hz,rz⟩:=JF q ed;cases r2;have qz:Q z H:=c m z H Gr.refl w rz;rcases hq with hq|hq
   ·exact HJ value slice pins s σ H _ _ v u Q I rx ry ⟨p,vs,i,z,rfl,rfl,hq,hz,qz⟩ hs
   ·exact OC value slice pins s σ H _ _ v u Q I rx ry ⟨p,vs,i,z,rfl,rfl,hq,hz,qz⟩ hs
  ·cases e
 ·cases e
theorem UF(hr:∃k,Room k X.A):RS X (rD X.K jA):=by
 intro value slice pins s σ H x y v u Q I rx ry q hs;obtain⟨m,h,dx,dy,d,h',w,r1,r2,e,c⟩:=q;unfold jA at e;split at e
 ·rename_i z;unfold ixT at e;split at e<;>first |(cases e;done)|skip
  rename_i i;split at e<;>first |(cases e;done)|skip
  rename_i hz;split at e<;>first |(cases e;done)|skip
  rename_i c' ec;simp at e;obtain⟨rfl,rfl⟩:=e;cases r1;cases r2;exact OE value slice pins s σ H _ _ v u Q I rx ry ⟨z,i,c',rfl,rfl,hz,ec,c m _ H Gr.refl w (.str _)⟩ hs
 split at e
 ·rename_i l el;obtain⟨n,a,us,rfl,rfl,hn,ha,hu,hk,rv⟩:=iE w r1 el;unfold RG at e;split at e
  ·rename_i k ek;split at e
   ·rename_i d' ed;simp at e;obtain⟨rfl,rfl⟩:=e;obtain⟨z,hz,rz⟩:=mK hk rv ed;have:=jW r2 ek;subst this;obtain⟨kk,hr⟩:=hr;have hun:=hr.units;cases rx;have g:DGet H a (kV k) (some z):=by rw[<- hz];exact DGet.k hu
    exact tail_any (tH I g) PySem.F.slot_dict_getitem.lookup (zF (by omega) I g ry λw' s3 I3 rw'=>⟨z,H,I3,rw',c m z H Gr.refl w rz⟩) hs
   ·cases e
  ·cases e
 ·split at e
  ·rename_i l el;obtain⟨n,a,xs,us,o,es,ep,rfl,rfl,hn,ha,hf,df,go,hk,hks,rv,vv,dd⟩:=qW I w r1 el;unfold UH at e;split at e
   ·rename_i ks;split at e
    ·rename_i d' ed;simp at e;obtain⟨rfl,rfl⟩:=e;rw[Option.bind_eq_some_iff] at ed;obtain⟨k,ek,ed⟩:=ed;cases r2 with
     |tup hq q=>
      have:=kY q ek;subst this;obtain⟨kk,hr⟩:=hr;have hun:=hr.units;cases rx;cases ry;obtain⟨z,p,rz,hp,sz⟩:=rN hk rv vv ed;exact tail_any (T:="dict") ⟨o,go,df.2.2.1.1⟩ PySem.F.slot_dict_getitem.lookup (wpAny_getItem_heap (tupleKind_room_in1 (by omega)) (uY I hq) dd hp ⟨z,H,I.tok _,sz,c m z H Gr.refl w rz⟩) hs
    ·cases e
   ·cases e
  ·exact OF value slice pins s σ H x y v u Q I rx ry ⟨m,h,dx,dy,d,h',w,r1,r2,e,c⟩ hs
theorem lN{K:W.Frag}{m:List Addr}{H:Hp}{ds:List D}{vs:List V}(q:RDs K m H ds vs):ds.isEmpty=vs.isEmpty:=by
 cases q<;>rfl
theorem kL{K:W.Frag}{m:List Addr}{h:Hh}{H:Hp}(w:Wd K m h H){d:D}{v:V}{b:Bool}(r:RD K m H d v)(e:fZ d h=some b):vR K v H b:=by
 cases r with
 |non=>exact(Zg e).symm
 |bl c=>exact(Zg e).symm
 |int i=>exact(Zg e).symm
 |str y=>
  simp only[fZ] at e;split at e
  ·rename_i hz;exact⟨hz,(Zg e).symm⟩
  ·cases e
 |ty n=>cases e
 |tup h1 q=>
  refine .inr (.inl ⟨_,h1,?_⟩);have:=(Zg e).symm;rw[this,lN q]
 |ref ha=>
  simp only[fZ] at e;split at e
  ·rename_i l el;obtain⟨a',vs,ha',hq,q⟩:=w.lst el;rw[ha] at ha';cases ha';refine .inl ⟨_,hq,?_⟩;have:=(Zg e).symm;rw[this,lN q]
  ·cases e
end
theorem HE{prog:Program}{w:World}{A:Around}{I:Addr}{fp wr:List Addr}{n:Nat}{P:Nat->Value->Prop}{St:Nat->Heap->Prop}(T:Walks prog w A.in1 I fp wr n P St)(bt:Nat->Nat->Bool)(cmp:CmpOf prog w A.in1 .Gt P bt)(S:Addr)(nS:S ∉ fp)(K:List (Str×Value)){R:Result->Shared->Prop}:
 ∀(left j:Nat)(z:Shared)(best:Value)(cc:Nat),n-(j+1)=left->j+1<=n->St (j+1) z.heap->P (argBest bt j) best->z.heap.get? S=some (seqObj "list" #[best,best] cc)->
  (∀v g tk,P (argBest bt (n-1)) v->(∀b o,b ∉ wr->b≠S->z.heap.get? b=some o->g.get? b=some o)->R (.ok (.ret v)) {z with heap:=g,toks:=tk})->
  codeAny (model prog w) A (.builtin "max.loop" ⟨[.ref I,.none,.ref S],K⟩) R z:=by
 have nSw:S ∉ wr:=λq=>nS (T.sub _ q);have nmL:(toString "max"++toString ".loop":String)="max.loop":=rfl;intro left
 induction left with
 |zero=>
  intro j z best cc e1 e2 st pb hS fin;have en:n=j+1:=by omega
  refine codeAny_builtin F.entry_max_loop ?_;rw[Around.under_plainId F.plain_max_loop _];show wpAny _ _ (seqItems? (Value.ref S)>>=_) _ _ z;refine Za (wpAny_seqItems hS rfl ?_);show wpAny _ _ (tryCatch (pyNext (Value.ref I)) _>>=_) _ _ z;refine Za (wpAny_tryCatch (T.done z _ _ (en ▸ st) λg tk kp=>?_));have hS2:=kp S _ nSw hS;show wpAny _ _ (updateSeq S (λ_=> #[])>>=_) _ _ _;refine Za (wpAny_updateSeq hS2 rfl (Za (wpAny_letGo (Zb (fin best _ tk ?_ ?_)))))
  ·rw[en];exact pb
  ·exact λb o b1 b2 e=>(Heap.get?_update_other _ _ (λq=>b2 q.symm)).trans (kp b o b1 e)
 |succ left ih=>
  intro j z best cc e1 e2 st pb hS fin;refine codeAny_builtin F.entry_max_loop ?_;rw[Around.under_plainId F.plain_max_loop _];show wpAny _ _ (seqItems? (Value.ref S)>>=_) _ _ z;refine Za (wpAny_seqItems hS rfl ?_);show wpAny _ _ (tryCatch (pyNext (Value.ref I)) _>>=_) _ _ z;refine Za (wpAny_tryCatch (T.item (j+1) z _ _ (by omega) st λv g tk pv st2 kp=>?_));have hS2:=kp S _ nSw hS;show wpAny _ _ (tryCatch (holding [v,v] (richCompare .Gt v best>>=_)) _>>=_) _ _ _;refine Za (wpAny_tryCatch (wpAny_holding (Za (cmp (j+1) (argBest bt j) v best _ _ _ pv pb (Za (wpAny_holding (wpAny_truthy_bool (Za (wpAny_letGo (Zb ?_))))))))))
  by_cases hb:bt (j+1) (argBest bt j)=true
  ·have pa:argBest bt (j+1)=j+1:=by simp only[argBest];rw[if_pos hb]
   rw[hb];simp only[if_true];refine Za (wpAny_updateSeq hS2 rfl (Za (wpAny_letGo ?_)));rw[nmL];refine Zb ⟨plainId_quiet F.plain_max_loop _,ih (j+1) _ v _ (by omega) (by omega) (T.frame _ _ _ st2 λb hbf o e=>?_) (by rw[pa];exact pv) (Heap.get?_update_self _ hS2 rfl) λu g2 tk2 pu kp2=>fin u g2 tk2 pu λb o b1 b2 e=>kp2 b o b1 b2 ?_⟩
   ·exact(Heap.get?_update_other _ _ (λq:S=b=>nS (q ▸ hbf))).trans e
   ·exact(Heap.get?_update_other _ _ (λq=>b2 q.symm)).trans (kp b o b1 e)
  ·have pa:argBest bt (j+1)=argBest bt j:=by simp only[argBest];rw[if_neg hb]
   have hb':bt (j+1) (argBest bt j)=false:=by simpa using hb
   rw[hb'];simp only[Bool.false_eq_true,if_false];refine Za (wpAny_letGo ?_);rw[nmL];exact Zb ⟨plainId_quiet F.plain_max_loop _,ih (j+1) _ best cc (by omega) (by omega) st2 (by rw[pa];exact pb) hS2 λu g2 tk2 pu kp2=>fin u g2 tk2 pu λb o b1 b2 e=>kp2 b o b1 b2 (kp b o b1 e)⟩
theorem zV(a d:Value):argsOk "max" ⟨[a],[(Str.ofString "default",d)]⟩:=by unfold argsOk;kernel_rfl
theorem zM{prog:Program}{w:World}{A:Around}{x d:Value}{s:Shared}{Q:Value->Shared->Prop}{E:Value->Shared->Prop}
 (h:wpAny (model prog w) A.in1 (pyIter x) (λit z=>∃I fp wr n P St bt,it=.ref I/\Walks prog w A.in1 I fp wr n P St/\St 0 z.heap/\(∀b∈fp,b<z.heap.objs.size)/\CmpOf prog w A.in1 .Gt P bt/\
   (∀v g tk,0<n->P (argBest bt (n-1)) v->(∀b o,b ∉ wr->z.heap.get? b=some o->g.get? b=some o)->Q v {z with heap:=g,toks:=tk})/\
   (∀g tk,n=0->(∀b o,b ∉ wr->z.heap.get? b=some o->g.get? b=some o)->Q d {z with heap:=g,toks:=tk})) E s):
 wpAny (model prog w) A (call (.builtin "max") [x] [(Str.ofString "default",d)]) Q E s:=by
 have nmL:(toString "max"++toString ".loop":String)="max.loop":=rfl;refine PyProof.Rows.kmb_tree F.kind_max F.plain_max F.entry_max (zV _ _) ?_;show wpAny _ _ (Builtin.Builtins.bindParams "max" ["key","default"] 0 ⟨[],[(Str.ofString "default",d)]⟩>>=_) _ _ s;have eb:Builtin.Builtins.bindParams "max" ["key","default"] 0 ⟨[],[(Str.ofString "default",d)]⟩=pure [none,some d]:=rfl;refine Za (wpAny_of_eq eb (Za (Zb (Za (wpAny_mono h (λit z hz=>?_) λ_ _ q=>q)))));obtain⟨I,fp,wr,n,P,St,bt,rfl,T,st,lt,cmp,f1,f2⟩:=hz;refine Za (wpAny_newList ?_ (Nat.zero_le _));have nS:z.heap.objs.size ∉ fp:=λq=>Nat.lt_irrefl _ (lt _ q);have nSw:z.heap.objs.size ∉ wr:=λq=>nS (T.sub _ q);rw[nmL];refine Zb ⟨plainId_quiet F.plain_max_loop _,codeAny_builtin F.entry_max_loop ?_⟩;rw[Around.under_plainId F.plain_max_loop _];have hS:(z.heap.push (seqObj "list" #[] 0)).get? z.heap.objs.size=some (seqObj "list" #[] 0):=Heap.get?_push_size _ rfl;have st1:St 0 (z.heap.push (seqObj "list" #[] 0)):=T.frame _ _ _ st λb _ o e=>Zf _ e;show wpAny _ _ (seqItems? (Value.ref z.heap.objs.size)>>=_) _ _ _;refine Za (wpAny_seqItems hS rfl ?_);show wpAny _ _ (tryCatch (pyNext (Value.ref I)) _>>=_) _ _ _
 have old:∀(g:Heap),(∀b o,b ∉ wr->b≠z.heap.objs.size->(z.heap.push (seqObj "list" #[] 0)).get? b=some o->g.get? b=some o)->∀b o,b ∉ wr->z.heap.get? b=some o->g.get? b=some o:=
  λg k b o b1 e=>k b o b1 (Nat.ne_of_lt (Heap.lt_size e)) (Zf _ e)
 by_cases hn:n=0
 ·subst hn;refine Za (wpAny_tryCatch (T.done _ _ _ st1 λg tk kp=>?_));refine Za (wpAny_rule (Zb ?_));exact f2 g tk rfl (old g λb o b1 _ e=>kp b o b1 e)
 ·refine Za (wpAny_tryCatch (T.item 0 _ _ _ (by omega) st1 λv g tk pv st2 kp=>?_));have hS2:=kp _ _ nSw hS;show wpAny _ _ (updateSeq z.heap.objs.size (λ_=> #[v,v])>>=_) _ _ _;refine Za (wpAny_updateSeq hS2 rfl ?_);rw[nmL];refine Zb ⟨plainId_quiet F.plain_max_loop _,HE T bt cmp z.heap.objs.size nS _ _ 0 _ v _ rfl (by omega) (T.frame _ _ _ st2 λb hbf o e=>?_) pv (Heap.get?_update_self _ hS2 rfl) λu g2 tk2 pu kp2=>?_⟩
  ·exact(Heap.get?_update_other _ _ (λq:z.heap.objs.size=b=>nS (q ▸ hbf))).trans e
  ·refine f1 u g2 tk2 (by omega) pu (old g2 λb o b1 b2 e=>kp2 b o b1 b2 ?_);exact(Heap.get?_update_other _ _ (λq=>b2 q.symm)).trans (kp b o b1 e)
theorem HC{prog:Program}{w:World}{A:Around}{I:Addr}{fp wr:List Addr}{n:Nat}{P:Nat->Value->Prop}{St:Nat->Heap->Prop}(T:Walks prog w A.in1 I fp wr n P St)(bt:Nat->Nat->Bool)(cmp:CmpOf prog w A.in1 .Lt P bt)(S:Addr)(nS:S ∉ fp)(K:List (Str×Value)){R:Result->Shared->Prop}:
 ∀(left j:Nat)(z:Shared)(best:Value)(cc:Nat),n-(j+1)=left->j+1<=n->St (j+1) z.heap->P (argBest bt j) best->z.heap.get? S=some (seqObj "list" #[best,best] cc)->
  (∀v g tk,P (argBest bt (n-1)) v->(∀b o,b ∉ wr->b≠S->z.heap.get? b=some o->g.get? b=some o)->R (.ok (.ret v)) {z with heap:=g,toks:=tk})->
  codeAny (model prog w) A (.builtin "min.loop" ⟨[.ref I,.none,.ref S],K⟩) R z:=by
 have nSw:S ∉ wr:=λq=>nS (T.sub _ q);have nmL:(toString "min"++toString ".loop":String)="min.loop":=rfl;intro left
 induction left with
 |zero=>
  intro j z best cc e1 e2 st pb hS fin;have en:n=j+1:=by omega
  refine codeAny_builtin F.entry_min_loop ?_;rw[Around.under_plainId F.plain_min_loop _];show wpAny _ _ (seqItems? (Value.ref S)>>=_) _ _ z;refine Za (wpAny_seqItems hS rfl ?_);show wpAny _ _ (tryCatch (pyNext (Value.ref I)) _>>=_) _ _ z;refine Za (wpAny_tryCatch (T.done z _ _ (en ▸ st) λg tk kp=>?_));have hS2:=kp S _ nSw hS;show wpAny _ _ (updateSeq S (λ_=> #[])>>=_) _ _ _;refine Za (wpAny_updateSeq hS2 rfl (Za (wpAny_letGo (Zb (fin best _ tk ?_ ?_)))))
  ·rw[en];exact pb
  ·exact λb o b1 b2 e=>(Heap.get?_update_other _ _ (λq=>b2 q.symm)).trans (kp b o b1 e)
 |succ left ih=>
  intro j z best cc e1 e2 st pb hS fin;refine codeAny_builtin F.entry_min_loop ?_;rw[Around.under_plainId F.plain_min_loop _];show wpAny _ _ (seqItems? (Value.ref S)>>=_) _ _ z;refine Za (wpAny_seqItems hS rfl ?_);show wpAny _ _ (tryCatch (pyNext (Value.ref I)) _>>=_) _ _ z;refine Za (wpAny_tryCatch (T.item (j+1) z _ _ (by omega) st λv g tk pv st2 kp=>?_));have hS2:=kp S _ nSw hS;show wpAny _ _ (tryCatch (holding [v,v] (richCompare .Lt v best>>=_)) _>>=_) _ _ _;refine Za (wpAny_tryCatch (wpAny_holding (Za (cmp (j+1) (argBest bt j) v best _ _ _ pv pb (Za (wpAny_holding (wpAny_truthy_bool (Za (wpAny_letGo (Zb ?_))))))))))
  by_cases hb:bt (j+1) (argBest bt j)=true
  ·have pa:argBest bt (j+1)=j+1:=by simp only[argBest];rw[if_pos hb]
   rw[hb];simp only[if_true];refine Za (wpAny_updateSeq hS2 rfl (Za (wpAny_letGo ?_)));rw[nmL];refine Zb ⟨plainId_quiet F.plain_min_loop _,ih (j+1) _ v _ (by omega) (by omega) (T.frame _ _ _ st2 λb hbf o e=>?_) (by rw[pa];exact pv) (Heap.get?_update_self _ hS2 rfl) λu g2 tk2 pu kp2=>fin u g2 tk2 pu λb o b1 b2 e=>kp2 b o b1 b2 ?_⟩
   ·exact(Heap.get?_update_other _ _ (λq:S=b=>nS (q ▸ hbf))).trans e
   ·exact(Heap.get?_update_other _ _ (λq=>b2 q.symm)).trans (kp b o b1 e)
  ·have pa:argBest bt (j+1)=argBest bt j:=by simp only[argBest];rw[if_neg hb]
   have hb':bt (j+1) (argBest bt j)=false:=by simpa using hb
   rw[hb'];simp only[Bool.false_eq_true,if_false];refine Za (wpAny_letGo ?_);rw[nmL];exact Zb ⟨plainId_quiet F.plain_min_loop _,ih (j+1) _ best cc (by omega) (by omega) st2 (by rw[pa];exact pb) hS2 λu g2 tk2 pu kp2=>fin u g2 tk2 pu λb o b1 b2 e=>kp2 b o b1 b2 (kp b o b1 e)⟩
theorem zU(a d:Value):argsOk "min" ⟨[a],[(Str.ofString "default",d)]⟩:=by unfold argsOk;kernel_rfl
theorem zL{prog:Program}{w:World}{A:Around}{x d:Value}{s:Shared}{Q:Value->Shared->Prop}{E:Value->Shared->Prop}
 (h:wpAny (model prog w) A.in1 (pyIter x) (λit z=>∃I fp wr n P St bt,it=.ref I/\Walks prog w A.in1 I fp wr n P St/\St 0 z.heap/\(∀b∈fp,b<z.heap.objs.size)/\CmpOf prog w A.in1 .Lt P bt/\
   (∀v g tk,0<n->P (argBest bt (n-1)) v->(∀b o,b ∉ wr->z.heap.get? b=some o->g.get? b=some o)->Q v {z with heap:=g,toks:=tk})/\
   (∀g tk,n=0->(∀b o,b ∉ wr->z.heap.get? b=some o->g.get? b=some o)->Q d {z with heap:=g,toks:=tk})) E s):
 wpAny (model prog w) A (call (.builtin "min") [x] [(Str.ofString "default",d)]) Q E s:=by
 have nmL:(toString "min"++toString ".loop":String)="min.loop":=rfl;refine PyProof.Rows.kmb_tree F.kind_min F.plain_min F.entry_min (zU _ _) ?_;show wpAny _ _ (Builtin.Builtins.bindParams "min" ["key","default"] 0 ⟨[],[(Str.ofString "default",d)]⟩>>=_) _ _ s;have eb:Builtin.Builtins.bindParams "min" ["key","default"] 0 ⟨[],[(Str.ofString "default",d)]⟩=pure [none,some d]:=rfl;refine Za (wpAny_of_eq eb (Za (Zb (Za (wpAny_mono h (λit z hz=>?_) λ_ _ q=>q)))));obtain⟨I,fp,wr,n,P,St,bt,rfl,T,st,lt,cmp,f1,f2⟩:=hz;refine Za (wpAny_newList ?_ (Nat.zero_le _));have nS:z.heap.objs.size ∉ fp:=λq=>Nat.lt_irrefl _ (lt _ q);have nSw:z.heap.objs.size ∉ wr:=λq=>nS (T.sub _ q);rw[nmL];refine Zb ⟨plainId_quiet F.plain_min_loop _,codeAny_builtin F.entry_min_loop ?_⟩;rw[Around.under_plainId F.plain_min_loop _];have hS:(z.heap.push (seqObj "list" #[] 0)).get? z.heap.objs.size=some (seqObj "list" #[] 0):=Heap.get?_push_size _ rfl;have st1:St 0 (z.heap.push (seqObj "list" #[] 0)):=T.frame _ _ _ st λb _ o e=>Zf _ e;show wpAny _ _ (seqItems? (Value.ref z.heap.objs.size)>>=_) _ _ _;refine Za (wpAny_seqItems hS rfl ?_);show wpAny _ _ (tryCatch (pyNext (Value.ref I)) _>>=_) _ _ _
 have old:∀(g:Heap),(∀b o,b ∉ wr->b≠z.heap.objs.size->(z.heap.push (seqObj "list" #[] 0)).get? b=some o->g.get? b=some o)->∀b o,b ∉ wr->z.heap.get? b=some o->g.get? b=some o:=
  λg k b o b1 e=>k b o b1 (Nat.ne_of_lt (Heap.lt_size e)) (Zf _ e)
 by_cases hn:n=0
 ·subst hn;refine Za (wpAny_tryCatch (T.done _ _ _ st1 λg tk kp=>?_));refine Za (wpAny_rule (Zb ?_));exact f2 g tk rfl (old g λb o b1 _ e=>kp b o b1 e)
 ·refine Za (wpAny_tryCatch (T.item 0 _ _ _ (by omega) st1 λv g tk pv st2 kp=>?_));have hS2:=kp _ _ nSw hS;show wpAny _ _ (updateSeq z.heap.objs.size (λ_=> #[v,v])>>=_) _ _ _;refine Za (wpAny_updateSeq hS2 rfl ?_);rw[nmL];refine Zb ⟨plainId_quiet F.plain_min_loop _,HC T bt cmp z.heap.objs.size nS _ _ 0 _ v _ rfl (by omega) (T.frame _ _ _ st2 λb hbf o e=>?_) pv (Heap.get?_update_self _ hS2 rfl) λu g2 tk2 pu kp2=>?_⟩
  ·exact(Heap.get?_update_other _ _ (λq:z.heap.objs.size=b=>nS (q ▸ hbf))).trans e
  ·refine f1 u g2 tk2 (by omega) pu (old g2 λb o b1 b2 e=>kp2 b o b1 b2 ?_);exact(Heap.get?_update_other _ _ (λq=>b2 q.symm)).trans (kp b o b1 e)
noncomputable def eO(l:List Int)(j:Nat):Int:=(l[j]?).getD 0
theorem lY{l:List Int}{its:List Value}(p:Vals (l.map V.int) its){j:Nat}{v:Value}(hv:its.toArray[j]? =some v):∃t,v=.int (eO l j) t:=by
 have hv':its[j]? =some v:=by simpa using hv
 have hj:j<its.length:=(Ze.mp hv').1;have hl:=p.length;rw[Zc] at hl;have e:(l.map V.int)[j]? =some (.int l[j]):=by rw[Zi,Zd (by omega)];rfl
 obtain⟨u,hu,r⟩:=p.get e;rw[hv'] at hu;cases hu;obtain⟨t,rfl⟩:=r;exact⟨t,by simp[eO,Zd (show j<l.length by omega)]⟩
theorem nH{prog:Program}{w:World}{A:Around}{s:Shared}{a:Addr}{items:Array Value}(hh:A.handled=none)(hl:s.heap.IsList a items):
 Walks prog w A s.heap.objs.size [s.heap.objs.size,a] [s.heap.objs.size] items.size (λi v=>items[i]? =some v) (λi h=>h.IsListIter s.heap.objs.size a i/\h.IsList a items)/\
 ((s.heap.push {cls:=.type "list_iterator",data:=.fields #[.ref a,.int 0 0]}).IsListIter s.heap.objs.size a 0/\(s.heap.push {cls:=.type "list_iterator",data:=.fields #[.ref a,.int 0 0]}).IsList a items)/\
 (∀b∈ [s.heap.objs.size,a],b<(s.heap.push {cls:=.type "list_iterator",data:=.fields #[.ref a,.int 0 0]}).objs.size)/\
 ∀g:Heap,(∀b o,b ∉ [s.heap.objs.size]->(s.heap.push {cls:=.type "list_iterator",data:=.fields #[.ref a,.int 0 0]}).get? b=some o->g.get? b=some o)->∀b o,s.heap.get? b=some o->g.get? b=some o:=by
 have lt:a<s.heap.objs.size:=by obtain⟨_,e,_⟩:=hl;exact Heap.lt_size e
 refine⟨Walks.list hh _ a (Nat.ne_of_lt lt) items,⟨⟨_,Heap.get?_push_size _ rfl,rfl,rfl⟩,hl.push _⟩,λb hb=>?_,λg kp b o e=>kp b o (λz=>?_) (Zf _ e)⟩
 ·rw[Heap.size_push];simp at hb;rcases hb with rfl|rfl
  ·exact Nat.lt_succ_self _
  ·exact Nat.lt_succ_of_lt lt
 ·simp at z;subst z;exact Nat.lt_irrefl _ (Heap.lt_size e)
section
variable {X:Cx}
theorem wK(i:Int):∀(r:List Int)(k:Nat),k<=r.length->eO (i::r) (argBest (λa b=>decide (eO (i::r) a>eO (i::r) b)) k)=qQ i (r.take k)
 |r,0,_=>by simp[argBest,eO,qQ]
 |r,k+1,hk=>by
  have ih:=wK i r k (by omega);have hk':k<r.length:=by omega
  have e1:r.take (k+1)=r.take k++ [r[k]]:=by rw[List.take_succ,Zd hk'];rfl
  have e2:eO (i::r) (k+1)=r[k]:=by simp[eO,Zd hk']
  have e3:qQ i (r.take (k+1))=if r[k]>qQ i (r.take k) then r[k] else qQ i (r.take k):=by
   rw[e1];unfold qQ;rw[List.foldl_append];rfl
  rw[e3, <- ih];simp only[argBest]
  by_cases hb:eO (i::r) (k+1)>eO (i::r) (argBest (λa b=>decide (eO (i::r) a>eO (i::r) b)) k)
  ·rw[if_pos (decide_eq_true hb),if_pos (by rw[<- e2];exact hb),e2]
  ·rw[if_neg (by rw[decide_eq_false hb];exact Bool.false_ne_true),if_neg (by rw[<- e2];exact hb)]
theorem sL(hc:X.calm=true){pins:List (Addr×Obj)}{s:Shared}{σ:Sg}{H:Hp}{a:Addr}{l:List Int}{d:V}{u:Value}{Q:VK}(I:Inv X pins σ H s)(hq:SqL X.K H a (l.map V.int))(ru:RelV d u)(q0:l=[]->Q d H)(q1:∀i r,l=i::r->Q (.int (qQ i r)) H):
 wpAny (model X.prog X.w) X.A (call (.builtin "max") [.ref a] [(Str.ofString "default",u)]) (EP X pins σ Q) X.xe s:=by
 obtain⟨its,p1,t1,_⟩:=I.list hq;refine zM (wpAny_pyIter_list t1.isList ?_);obtain⟨h1,h2,h3,h4⟩:=nH (A:=X.A.in1) (prog:=X.prog) (w:=X.w) (s:=s) (I.ok.hd hc) t1.isList;have hlen:=p1.length;rw[Zc] at hlen;refine⟨_,_,_,_,_,_,_,rfl,h1,h2,h3,CmpOf.ints_gt (eO l) (λj v hv=>lY p1 hv),λv g tk hn hv kp=>?_,λg tk hn kp=>?_⟩
 ·cases l with
  |nil=>simp at hlen hn;omega
  |cons i r=>
   obtain⟨t,rfl⟩:=lY p1 hv
   have hl:its.toArray.size-1=r.length:=by
    simp at hlen⊢;omega
   rw[hl,wK i r r.length (Zn _),List.take_length];exact⟨.int (qQ i r),H,I.kept (h4 g kp),⟨t,rfl⟩,q1 i r rfl⟩
 ·have hl:l=[]:=by
   cases l with
   |nil=>rfl
   |cons i r=>simp at hlen hn;rw[hn] at hlen;simp at hlen
  exact⟨d,H,I.kept (h4 g kp),ru,q0 hl⟩
theorem wJ(i:Int):∀(r:List Int)(k:Nat),k<=r.length->eO (i::r) (argBest (λa b=>decide (eO (i::r) a<eO (i::r) b)) k)=qP i (r.take k)
 |r,0,_=>by simp[argBest,eO,qP]
 |r,k+1,hk=>by
  have ih:=wJ i r k (by omega);have hk':k<r.length:=by omega
  have e1:r.take (k+1)=r.take k++ [r[k]]:=by rw[List.take_succ,Zd hk'];rfl
  have e2:eO (i::r) (k+1)=r[k]:=by simp[eO,Zd hk']
  have e3:qP i (r.take (k+1))=if r[k]<qP i (r.take k) then r[k] else qP i (r.take k):=by
   rw[e1];unfold qP;rw[List.foldl_append];rfl
  rw[e3, <- ih];simp only[argBest]
  by_cases hb:eO (i::r) (k+1)<eO (i::r) (argBest (λa b=>decide (eO (i::r) a<eO (i::r) b)) k)
  ·rw[if_pos (decide_eq_true hb),if_pos (by rw[<- e2];exact hb),e2]
  ·rw[if_neg (by rw[decide_eq_false hb];exact Bool.false_ne_true),if_neg (by rw[<- e2];exact hb)]
theorem sJ(hc:X.calm=true){pins:List (Addr×Obj)}{s:Shared}{σ:Sg}{H:Hp}{a:Addr}{l:List Int}{d:V}{u:Value}{Q:VK}(I:Inv X pins σ H s)(hq:SqL X.K H a (l.map V.int))(ru:RelV d u)(q0:l=[]->Q d H)(q1:∀i r,l=i::r->Q (.int (qP i r)) H):
 wpAny (model X.prog X.w) X.A (call (.builtin "min") [.ref a] [(Str.ofString "default",u)]) (EP X pins σ Q) X.xe s:=by
 obtain⟨its,p1,t1,_⟩:=I.list hq;refine zL (wpAny_pyIter_list t1.isList ?_);obtain⟨h1,h2,h3,h4⟩:=nH (A:=X.A.in1) (prog:=X.prog) (w:=X.w) (s:=s) (I.ok.hd hc) t1.isList;have hlen:=p1.length;rw[Zc] at hlen;refine⟨_,_,_,_,_,_,_,rfl,h1,h2,h3,CmpOf.ints_lt (eO l) (λj v hv=>lY p1 hv),λv g tk hn hv kp=>?_,λg tk hn kp=>?_⟩
 ·cases l with
  |nil=>simp at hlen hn;omega
  |cons i r=>
   obtain⟨t,rfl⟩:=lY p1 hv
   have hl:its.toArray.size-1=r.length:=by
    simp at hlen⊢;omega
   rw[hl,wJ i r r.length (Zn _),List.take_length];exact⟨.int (qP i r),H,I.kept (h4 g kp),⟨t,rfl⟩,q1 i r rfl⟩
 ·have hl:l=[]:=by
   cases l with
   |nil=>rfl
   |cons i r=>simp at hlen hn;rw[hn] at hlen;simp at hlen
  exact⟨d,H,I.kept (h4 g kp),ru,q0 hl⟩
end
section
open PySem.SeqAt
open PySem.AutoSeq1 (wpAny_loadPart')
open PySem.MeetsSeq PySem.MeetsSeq2 PySem.MeetsSeq3
end
section
variable {X:Cx}{pins:List (Addr×Obj)}{σ:Sg}{H:Hp}{s:Shared}{m:List Addr}
end
section
variable {prog:Program}{w:World}{A:Around}{E:Value->Shared->Prop}{s:Shared}
theorem pG{a:Addr}{vs:List Value}{n:Nat}{P:PySem.Fin->Shared->Prop}(ho:s.heap.get? a=some (seqObj "list" vs.toArray n))(h1:vs.length<2)
 (h:P (.done (.ret .none)) {s with heap:=sortedHeap s.heap a vs vs.toArray}):wpAny (model prog w) A (Builtin.«list.sort» ⟨[.ref a],[]⟩) P E s:=by
 have la:=Heap.lt_size ho;obtain⟨e1,o1⟩:∃e1,(s.heap.update a (Obj.mapSeq λ_=> #[])).get? a=some (seqObj "list" #[] e1):=⟨_,get?_update_seq ho (λ_=> #[])⟩
 have o6:(((s.heap.update a (Obj.mapSeq λ_=> #[])).push (seqObj "tuple" vs.toArray 0)).push (seqObj "list" #[] 0)).get? a=some (seqObj "list" #[] e1):=
  Zf _ (Zf _ o1)
 have few:vs.toArray.size<2:=by simpa using h1
 have zs:(vs.toArray.zip vs.toArray).map (·.2)=vs.toArray:=by
  apply Array.toList_inj.mp;simp[List.map_snd_zip]
 rw[list_sort_plain];refine Za (listItems_at ho rfl (Za (listUpdate_at ho rfl (Za (seqEpoch_at o1 rfl (Za (wpAny_newTuple (Za (wpAny_newList (wpAny_holding ?_))))))))));show wpAny (model prog w) A _ P E {s with heap:=((s.heap.update a (Obj.mapSeq λ_=> #[])).push (seqObj "tuple" vs.toArray 0)).push (seqObj "list" #[] 0)};dsimp only;rw[if_pos few,if_pos few];refine Za (Zb ?_);rw[StateT.run_pure];refine Za (Zb ?_);dsimp only
 refine Za (seqEpoch_at o6 rfl (Za (listUpdate_at o6 rfl ?_ (hsz2:=by
  show((vs.toArray.zip vs.toArray).map (·.2)).size<=_
  rw[zs,sizeLine_eq,Zk];omega))))
 simp only[bne_self_eq_false,Bool.false_eq_true,if_false];refine Zb ?_;show P (.done (.ret .none)) {s with heap:=_};have z2:(arrOf (SortSt.mk' general' (vs.toArray.zip vs.toArray) #[] 7 none)).map (·.2)=vs.toArray:=zs;rw[z2];exact h
theorem uG{l:Addr}{vs:List Value}{Q:Value->Shared->Prop}(hl:s.heap.IsList l vs.toArray)(h1:vs.length<2)
 (h:Q (.ref (s.heap.objs.size+1)) {s with heap:=sortedAll s.heap vs vs.toArray}):wpAny (model prog w) A (call (.builtin "sorted") [.ref l]) Q E s:=by
 refine Calls.call_function_entry kind_sorted plain_sorted entry_sorted (args_sorted1 _) ?_;have z1:((s.heap.push (seqObj "list" #[] 0)).update s.heap.objs.size (Obj.mapSeq (·++vs.toArray))).objs.size=s.heap.objs.size+1:=by rw[Heap.size_update,size_push']
 have o1:(((s.heap.push (seqObj "list" #[] 0)).update s.heap.objs.size (Obj.mapSeq (·++vs.toArray))).push (seqObj "list" vs.toArray 0)).get? (s.heap.objs.size+1)=some (seqObj "list" vs.toArray 0):=z1 ▸ Heap.get?_push_size _ rfl;unfold Builtin.«sorted»;refine Za (m:=checkCount "sorted" 1 1 _) (Zb (Za (collect_list hl (Za (wpAny_newList ?_)))));show wpAny _ _ _ _ _ {s with heap:=((s.heap.push (seqObj "list" #[] 0)).update s.heap.objs.size (Obj.mapSeq (·++vs.toArray))).push (seqObj "list" vs.toArray 0)};rw[z1];exact Za (wpAny_holding (wpAny_call_entry slot_list_sort ⟨_,o1,rfl⟩ entry_list_sort (pG o1 h1 ⟨_,rfl,Zb ⟨_,rfl,h⟩⟩) (args_list_sort _)))
end
theorem jB{h h':Heap}{L a:Addr}{xs:Array Value}{mm:Str->Option Value}(hn:h.Ns L mm)(k:∀b o,b≠L->h.get? b=some o->h'.get? b=some o)(t:IsTup h a xs):IsTup h' a xs:=by
 obtain⟨o,h1,h2,n,h3⟩:=t;refine⟨o,k a o (λz=>?_) h1,h2,n,h3⟩;subst z;obtain⟨o',es,ep,g1,g2,_⟩:=hn;rw[h1] at g1;cases g1;rw[h3] at g2;cases g2
section
variable {X:Cx}{pins:List (Addr×Obj)}{σ:Sg}{H:Hp}{s:Shared}{m:List Addr}{K:W.Frag}
theorem kK(I:Inv X pins σ H s){ds:List D}{v:V}{u:Value}(r:RD X.K m H (.tup ds) v)(rv:RelV v u):∃a vs its,u=.ref a/\RDs X.K m H ds vs/\Vals vs its/\IsTup s.heap a its.toArray:=by
 cases r with
 |tup h q=>
  cases rv;obtain⟨its,p,t,_⟩:=I.tuple h;exact⟨_,_,its,rfl,q,p,t⟩
theorem CD{prog:Program}{w:World}{A:Around}{b fin:Bool}{Q:Bool->Shared->Prop}{t:Shared}(hb:b=true):∀{xs ys:List D}{vs us:List V}{its jts:List Value}{i:Nat}{c:Bool},RDs K m H xs vs->RDs K m H ys us->Vals vs its->Vals us jts->CA xs ys=some c->
 ∀(p q:Nat),p+its.length=q+jts.length->fin=decide (q<p)->Q c t->W.KatLex prog w A b fin Q (its.zip jts) i t:=by
 intro xs
 induction xs with
 |nil=>
  intro ys vs us its jts i c hx hy hv hu e p q hpq hf h;cases hx;cases hv;cases hy with
  |nil=>
   cases hu;have e':false=c:=Zg e;subst e';show Q fin t;rw[hf,decide_eq_false (by simp at hpq;omega)];exact h
  |cons r2 q2=>
   cases hu;have e':true=c:=Zg e;subst e';show Q fin t;rw[hf,decide_eq_true (by simp at hpq;omega)];exact h
 |cons x xs ih=>
  intro ys vs us its jts i c hx hy hv hu e p q hpq hf h;cases hx with
  |cons r1 q1=>
  cases hv with
  |cons s1 t1=>
  cases hy with
  |nil=>
   cases hu
   have e':false=c:=by
    cases x<;>exact Zg e
   subst e';show Q fin t;rw[hf,decide_eq_false (by simp at hpq;omega)];exact h
  |cons r2 q2=>
  cases hu with
  |cons s2 t2=>
   simp only[List.length_cons] at hpq;cases r1<;>cases r2<;>first |(simp[CA] at e;done)|skip
   ·rename_i a a';obtain⟨tk,rfl⟩:=s1;obtain⟨tk',rfl⟩:=s2;simp only[CA] at e;refine W.kat_cons (wpAny_eqBool_int ?_)
    by_cases z:a=a'
    ·rw[if_pos z] at e;rw[show(a==a')=true by simp[z]];exact W.kat_yes (ih q1 q2 t1 t2 e p q (by omega) hf h)
    ·rw[if_neg z] at e;have e':=Zg e;rw[show(a==a')=false by simp[z]];refine W.kat_no ?_;subst e' hb
     by_cases hi:i=0
     ·subst hi;exact oneLt_int h
     ·rw[show((true&&i==0):Bool)=false by simp[hi]];exact W.kat_one _ _ (PyProof.Rows.lt_int h)
   ·rename_i a a';obtain⟨tk,rfl⟩:=s1;obtain⟨tk',rfl⟩:=s2;simp only[CA] at e;refine W.kat_cons (wpAny_eqBool_str ?_)
    by_cases z:a=a'
    ·rw[if_pos z] at e;rw[decide_eq_true z];exact W.kat_yes (ih q1 q2 t1 t2 e p q (by omega) hf h)
    ·rw[if_neg z] at e;have e':=Zg e;rw[decide_eq_false z];refine W.kat_no ?_;subst e' hb
     by_cases hi:i=0
     ·subst hi;exact oneLt_str h
     ·rw[show((true&&i==0):Bool)=false by simp[hi]];exact W.kat_one _ _ (lt_str h)
theorem dZ{α:Type}{l:List α}{i:Nat}{x d:α}(h:l[i]? =some x):l.getD i d=x:=by simp[List.getD_eq_getElem?_getD,h]
theorem RDs.pick{ds:List D}{vs:List V}(q:RDs K m H ds vs):∀(p:List Nat),(∀i∈p,i<ds.length)->RDs K m H (p.map λi=>ds.getD i .non) (p.map λi=>vs.getD i .non)
 | [],_=>.nil
 |i::p,h=>by
  have e:=Zd (h i Zl);obtain⟨v,hv,rv⟩:=q.get e;refine .cons ?_ (RDs.pick q p λj hj=>h j (Zj _ hj));show RD K m H (ds.getD i .non) (vs.getD i .non);rw[dZ e,dZ hv];exact rv
theorem hZ{vs:List V}{us:List Value}(q:Vals vs us):∀(p:List Nat),(∀i∈p,i<vs.length)->Vals (p.map λi=>vs.getD i .non) (p.map λi=>us.getD i Value.none)
 | [],_=>.nil
 |i::p,h=>by
  have e:=Zd (h i Zl);obtain⟨v,hv,rv⟩:=q.get e;refine .cons ?_ (hZ q p λj hj=>h j (Zj _ hj));show RelV (vs.getD i .non) (us.getD i Value.none);rw[dZ e,dZ hv];exact rv
theorem QO{prog:Program}{w:World}{A:Around}{s':Shared}(I:Inv X pins σ H s)(kp:∀b o,b≠X.env.locals->s.heap.get? b=some o->s'.heap.get? b=some o){k:Nat}{x y:D}{vx vy:V}{ux uy:Value}{c:Bool}{κ:SortKind}(hκ:κ=if k<3 then oneType' else tuples' true)
 (kx:sO x=k)(ky:sO y=k)(k0:k≠0)(rx:RD X.K m H x vx)(ry:RD X.K m H y vy)(sx:RelV vx ux)(sy:RelV vy uy)(e:lS x y=some c){C:Bool->Shared->Prop}(h:C c s'):
 wpAny (model prog w) A (keyLt' κ ux uy) C (λ_ _=>False) s':=by
 obtain⟨mm,hn,_⟩:=id I.loc
 have tup:∀{a b:List D},x=.tup a->y=.tup b->¬k<3->wpAny (model prog w) A (keyLt' κ ux uy) C (λ_ _=>False) s':=λ{a b} ea eb h3=>by
  subst ea eb;rw[if_neg h3] at hκ;subst hκ;obtain⟨a1,vs,its,rfl,q1,p1,t1⟩:=kK I rx sx;obtain⟨a2,us,jts,rfl,q2,p2,t2⟩:=kK I ry sy;obtain⟨o1,g1,_,n1,d1⟩:=jB hn kp t1;obtain⟨o2,g2,_,n2,d2⟩:=jB hn kp t2;exact W.kat_lt g1 d1 g2 d2 (CD (K:=X.K) rfl q1 q2 p1 p2 (by simpa [lS] using e) jts.length its.length (by simp;omega) (by simp) h)
 cases x with
 |int a=>
  cases y with
  |int b=>
   have z:1=k:=kx;subst z;rw[if_pos (by decide)] at hκ;subst hκ;cases rx;cases ry;obtain⟨t,rfl⟩:=sx;obtain⟨t',rfl⟩:=sy;have e':=Zg e;subst e';exact W.kat_lt_int h
  |_=>simp[lS] at e
 |str a=>
  cases y with
  |str b=>
   have z:2=k:=kx;subst z;rw[if_pos (by decide)] at hκ;subst hκ;cases rx;cases ry;obtain⟨t,rfl⟩:=sx;obtain⟨t',rfl⟩:=sy;have e':=Zg e;subst e';exact W.kas_lt_str h
  |_=>simp[lS] at e
 |tup a=>
  cases y with
  |tup b=>
   refine tup rfl rfl λh3=>?_;cases a with
   |nil=>exact k0 kx.symm
   |cons d ds=>cases d<;>first |(exact k0 kx.symm)|(have z:3=k:=kx;omega)|(have z:4=k:=kx;omega)
  |_=>simp[lS] at e
 |_=>simp[lS] at e
theorem HI{prog:Program}{w:World}{A:Around}{s':Shared}(I:Inv X pins σ H s)(kp:∀b o,b≠X.env.locals->s.heap.get? b=some o->s'.heap.get? b=some o){k:Nat}{l:List D}{vs:List V}{its:List Value}(h2:2<=l.length)(hk:∀x∈l,sO x=k)(k0:k≠0)
 (q:RDs X.K m H l vs)(p:Vals vs its){C:SortKind->Shared->Prop}(h:C (if k<3 then oneType' else tuples' true) s'):wpAny (model prog w) A (keyKind' its.toArray) C (λ_ _=>False) s':=by
 obtain⟨mm,hn,_⟩:=id I.loc;have ln:=q.length;have ln2:=p.length
 have mem:∀u∈its,∃x∈l,∃v,RD X.K m H x v/\RelV v u:=λu hu=>by
  obtain⟨i,hi,rfl⟩:=List.mem_iff_getElem.mp hu;obtain⟨x,ex⟩:∃x,l[i]? =some x:=⟨_,Zd (by omega)⟩;obtain⟨v,hv,rv⟩:=q.get ex;obtain⟨u,hu,ru⟩:=p.get hv;rw[Zd hi] at hu;cases hu;exact⟨x,List.mem_of_getElem? ex,v,rv,ru⟩
 by_cases h3:k<3
 ·rw[if_pos h3] at h
  by_cases h1:k=1
  ·refine W.kas_kind (T:=.type "int") (by omega) (λu hu=>?_) (by decide) (by decide) h;obtain⟨x,hx,v,rx,rv⟩:=mem u hu;have:=hk x hx;cases rx<;>first |(exfalso;simp[sO] at this;omega)|skip
   ·obtain⟨t,rfl⟩:=rv;exact .now
   ·rename_i a ds vs' hq q';exfalso;cases ds with
    |nil=>simp[sO] at this;omega
    |cons d ds=>cases d<;>simp[sO] at this<;>omega
  ·have h1:k=2:=by omega
   refine W.kas_kind (T:=.type "str") (by omega) (λu hu=>?_) (by decide) (by decide) h;obtain⟨x,hx,v,rx,rv⟩:=mem u hu;have:=hk x hx;cases rx<;>first |(exfalso;simp[sO] at this;omega)|skip
   ·obtain⟨t,rfl⟩:=rv;exact .now
   ·rename_i a ds vs' hq q';exfalso;cases ds with
    |nil=>simp[sO] at this;omega
    |cons d ds=>cases d<;>simp[sO] at this<;>omega
 ·rw[if_neg h3] at h
  have T:∃T:Value,(T=.type "int"\/T=.type "str")/\∀x∈l,∃d ds,x=.tup (d::ds)/\((T=.type "int"/\∃i,d=.int i)\/(T=.type "str"/\∃i,d=.str i)):=by
   by_cases h4:k=3
   ·refine⟨.type "int",.inl rfl,λx hx=>?_⟩;have:=hk x hx;cases x<;>first |(exfalso;simp[sO] at this;omega)|skip
    rename_i ds;cases ds with
    |nil=>exfalso;simp[sO] at this;omega
    |cons d ds=>cases d<;>first |(exfalso;simp[sO] at this;omega)|exact⟨_,_,rfl,.inl ⟨rfl,_,rfl⟩⟩
   ·refine⟨.type "str",.inr rfl,λx hx=>?_⟩;have:=hk x hx;cases x<;>first |(exfalso;simp[sO] at this;omega)|skip
    rename_i ds;cases ds with
    |nil=>exfalso;simp[sO] at this;omega
    |cons d ds=>cases d<;>first |(exfalso;simp[sO] at this;omega)|exact⟨_,_,rfl,.inr ⟨rfl,_,rfl⟩⟩
  obtain⟨T,hT,hl⟩:=T
  have go:∀{l:List D}{vs:List V}{its:List Value},(∀x∈l,∃d ds,x=.tup (d::ds)/\((T=.type "int"/\∃i,d=.int i)\/(T=.type "str"/\∃i,d=.str i)))->RDs X.K m H l vs->Vals vs its->
   ∃fs,W.KatTups s'.heap its fs/\fs.length=l.length/\∀f∈fs,W.Looks (model prog w) s'.heap (typeOf f) T:=by
   intro l
   induction l with
   |nil=>
    intro vs its _ q p;cases q;cases p;exact⟨[],trivial,rfl,λf hf=>by cases hf⟩
   |cons x l ih=>
    intro vs its hl q p;cases q with
    |cons r q=>
     cases p with
     |cons sv p=>
      obtain⟨fs,f1,f2,f3⟩:=ih (λy hy=>hl y (Zj _ hy)) q p;obtain⟨d,ds,rfl,hd⟩:=hl x Zl;obtain⟨a,vs',its',rfl,q',p',t'⟩:=kK I r sv;obtain⟨o,g1,g2,n,g3⟩:=jB hn kp t';cases q' with
      |cons rd q'=>
       cases p' with
       |cons sd p'=>
        rename_i u us;refine⟨u::fs,W.KatTups.cons g1 g2 g3 (by simp) f1,by simp[f2],λf hf=>?_⟩;rcases List.mem_cons.mp hf with rfl|hf
        ·rcases hd with ⟨rfl,i,rfl⟩|⟨rfl,i,rfl⟩
         ·cases rd;obtain⟨t,rfl⟩:=sd;exact .now
         ·cases rd;obtain⟨t,rfl⟩:=sd;exact .now
        ·exact f3 f hf
  obtain⟨fs,f1,f2,f3⟩:=go hl q p;refine W.kat_kind f1 (by omega) f3 (by rcases hT with rfl|rfl<;>decide) ?_;rw[show(T != Value.type "tuple")=true by rcases hT with rfl|rfl<;>decide];exact h
theorem rX(I:Inv X pins σ H s){h:Hh}(w:Wd X.K m h H){a:Addr}{l l':List D}{vs:List V}(hq:SqL X.K H a vs)(q:RDs X.K m H l vs)(h2:2<=l.length)(h64:l.length<64){k:Nat}(k0:k≠0)(hk:∀x∈l,sO x=k)(hp:l'.Perm l)(hs:l'.Pairwise (Bef lS)){Q:VK}
 (c:∀(p:Addr)(us:List V),H p=none->RDs X.K m H l' us->us.length<=sizeLine->Q (.ref p) (bS H p (.lst us))):wpAny (model X.prog X.w) X.A (call (.builtin "sorted") [.ref a]) (EP X pins σ Q) X.xe s:=by
 obtain⟨its,p1,t1,_⟩:=I.list hq;have l1:=q.length;have l2:=p1.length;obtain⟨mm,F⟩:=I.fr;have hL:H X.env.locals=none:=I.free;refine W.kat_sorted F (jU (g:=X.base)) t1.isList (by omega) (by omega) λDn e1 h' F' N' ltD=>?_;have D0:=N' (Dn,seqObj "list" #[] e1) Zl
 have notD:∀b o,s.heap.get? b=some o->b≠Dn:=λb o e z=>by
  subst z;exact Nat.lt_irrefl _ (ltD (b,o) (bV D0.2.1 D0.2.2 e))
 have HD:H Dn=none:=by
  cases e:H Dn with
  |none=>rfl
  |some o=>
   obtain⟨u,hu⟩:=iW (I.hok Dn o e);exact absurd rfl (notD Dn u hu)
 have kp:∀b o,b≠X.env.locals->s.heap.get? b=some o->h'.get? b=some o:=λb o hb e=>by
  cases z:X.base.get? b with
  |some u=>
   have:=I.bk b u z;rw[e] at this;cases this;exact F'.keep b _ z
  |none=>exact(N' (b,o) (Zj _ (bV hb z e))).1
 refine HI I (s':={s with heap:=h'}) kp h2 hk k0 q p1 ?_
 let L:Nat->Nat->Bool:=λi j=>decide (i≠j)&&(lS (l.getD i .non) (l.getD j .non)==some true)
 have hne:∀i,L i i=false:=λi=>by simp[L]
 have hL':∀(i j:Nat)(x y:D),l[i]? =some x->l[j]? =some y->i≠j->(L i j=true↔lS x y=some true):=λi j x y ex ey ne=>by
  simp[L,ne,ex,ey,List.getD_eq_getElem?_getD]
 have so:=AR hp hs hne hL';have it1:its.length=l.length:=by omega
 rw[it1];refine KOk.wp (λi j C hi hj ne hC=>?_) (qE so h2) λp ⟨hv,hsd⟩=>?_
 ·have ex:l[i]? =some l[i]:=Zd hi;have ey:l[j]? =some l[j]:=Zd hj;obtain⟨vx,hvx,rx⟩:=q.get ex;obtain⟨vy,hvy,ry⟩:=q.get ey;obtain⟨ux,hux,sx⟩:=p1.get hvx;obtain⟨uy,huy,sy⟩:=p1.get hvy
  have lt:lS l[i] l[j]=some (L i j):=by
   obtain⟨a1,b1⟩:=gC hp ex;obtain⟨a2,b2⟩:=gC hp ey;have nd:l.Nodup:=hp.nodup_iff.mp (oF hs)
   have na:a1≠a2:=λz=>by
    subst z;rw[b1] at b2;have e2:=Zg b2;exact ne (iD nd ex (by rw[e2];exact ey))
   rcases Nat.lt_or_gt_of_ne na with z|z
   ·have bf:=(kH hs b1 b2 na).2 z;rw[bf.1,(hL' i j _ _ ex ey ne).mpr bf.1]
   ·have bf:=(kH hs b2 b1 (Ne.symm na)).2 z
    have:L i j=false:=by
     cases e:L i j with
     |false=>rfl
     |true=>
      have:=(hL' i j _ _ ex ey ne).mp e;rw[bf.2] at this;cases this
    rw[bf.2,this]
  show wpAny _ _ (keyLt' _ (its.getD i Value.none) (its.getD j Value.none)) C _ _;rw[dZ hux,dZ huy];exact QO I (s':={s with heap:=h'}) kp rfl (hk _ (List.mem_of_getElem? ex)) (hk _ (List.mem_of_getElem? ey)) k0 rx ry sx sy lt hC
 ·have pl:∀i∈p.toList,i<l.length:=λi hi=>List.mem_range.mp (hv.mem_iff.mp hi);have out:=uP hp hs hL' hv hsd D.non;have rd:=q.pick p.toList pl;rw[out] at rd;have vl:=hZ p1 p.toList (λi hi=>by have:=pl i hi;omega);have hz:=hv.size;have lz:(p.toList.map λi=>vs.getD i .non).length<=sizeLine:=by rw[Zc,Array.length_toList,hz,sizeLine_eq];omega
  refine⟨_,_,F',N',.head (λr hr=>Nat.ne_of_lt (ltD r hr)),λh2 cc F2 N2=>?_⟩
  have kp2:∀b o,b≠X.env.locals->s.heap.get? b=some o->h2.get? b=some o:=λb o hb e=>by
   cases z:X.base.get? b with
   |some u=>
    have:=I.bk b u z;rw[e] at this;cases this;exact F2.keep b _ z
   |none=>exact(N2 (b,o) (Zj _ (bV hb z e))).1
  have D2:=N2 (Dn,_) Zl;have tr:∀b o,H b=some o->b≠Dn/\b≠X.env.locals:=λb o e=>⟨(λz=>by rw[z,HD] at e;cases e),(λz=>by rw[z,hL] at e;cases e)⟩
  suffices IX:Inv X pins σ (bS H Dn (.lst (p.toList.map λi=>vs.getD i .non))) {s with heap:=h2,gens:=s.gens,drawn:=s.drawn,toks:=s.toks} from
   ⟨.ref Dn,bS H Dn (.lst (p.toList.map λi=>vs.getD i .non)),IX,rfl,c Dn _ HD rd lz⟩
  refine L2.Inv.step (s:=s) (g':=s.gens) (d':=s.drawn) (t':=s.toks) (ch:= []) I (λ_ z=>nomatch z) (λb o hb _ _ e _=>kp2 b o hb e) (λb o hb _ _ e _=>⟨o.slots,kp2 b o hb e⟩) (λb o _ e n=>by rw[aM (notD b o e)];exact n) (λb o _ e=>?_) (λb xs e=>by rw[aM (tr b _ e).1];exact e) (λb o u e=>by rw[aM (tr b _ e).1];exact e)
   (λb ps e=>⟨#[],by rw[aM (tr b _ e).1,e];simp⟩) (λm' hm=>?_) (λb o e=>?_) I.bare
  ·by_cases hb:b=X.env.locals
   ·subst hb;obtain⟨o',_,_,e',_⟩:=F2.ns;exact⟨o',e'⟩
   ·exact⟨o,kp2 b o hb e⟩
  ·have:m'=mm:=funext λx=>hm.agree F.ns x;rw[this];exact F2.ns
  ·by_cases hb:b=Dn
   ·subst hb;rw[aZ] at e;cases e;exact⟨lz,_,cc,vl,D2.1⟩
   ·rw[aM hb] at e;refine(I.hok b o e).stay (λb' u hb' e'=>kp2 b' u ?_ e') (λb' e'=>by rw[aM (tr b' _ e').1];exact e') λb' xs e'=>by rw[aM (tr b' _ e').1];exact e'
    rcases hb' with z|z
    ·rw[z];exact(tr b _ e).2
    ·exact(tr b' _ z).2
end
section
variable {X:Cx}
noncomputable def mM:D->Hh->Option String
 |.non,_=>some "NoneType"
 |d,h=>(XU d h).map Ty.nm
theorem nO{K:W.Frag}{d:D}{h:Hh}{T:String}{b:Bool}(e:sQ d T h=some b):∃t,mM d h=some t/\W.kitOne K (.type t) (.type T)=some b:=by
 unfold sQ at e;split at e
 ·split at e
  ·rename_i hT;have eb:=Zg e;subst eb;refine⟨"NoneType",rfl,?_⟩;simp[lZ] at hT;rcases hT with rfl|rfl|rfl|rfl|rfl<;>rfl
  ·cases e
 ·rename_i hn;split at e
  ·rename_i t et;split at e
   ·rename_i hT;have eb:=Zg e;subst eb;refine⟨t.nm,?_,?_⟩
    ·cases d<;>first |(exact absurd rfl hn)|(simp[mM,et])
    ·simp[lZ] at hT;cases t<;>rcases hT with rfl|rfl|rfl|rfl|rfl<;>rfl
   ·cases e
  ·cases e
theorem KG{pins:List (Addr×Obj)}{σ:Sg}{H:Hp}{s:Shared}{m:List Addr}{h:Hh}(I:Inv X pins σ H s)(w:Wd X.K m h H){d:D}{v:V}{u:Value}{t:String}(r:RD X.K m H d v)(rv:RelV v u)(e:mM d h=some t):
 ∃P:Heap->Prop,W.KitX X.K u (.type t) P/\P s.heap/\u≠ .builtin "__main__.__loader__#opaque":=by
 cases r with
 |non=>cases rv;cases e;exact⟨_,W.kitx_none,trivial,λz=>nomatch z⟩
 |bl c=>cases rv;cases e;exact⟨_,W.kitx_bool,trivial,λz=>nomatch z⟩
 |int i=>obtain⟨t',rfl⟩:=rv;cases e;exact⟨_,W.kitx_int,trivial,λz=>nomatch z⟩
 |str x=>obtain⟨t',rfl⟩:=rv;cases e;exact⟨_,W.kitx_str,trivial,λz=>nomatch z⟩
 |ty n=>cases e
 |tup h1 q=>
  cases rv;cases e;obtain⟨its,p1,⟨o,h2,h3,_⟩,_⟩:=I.tuple h1;exact⟨_,W.kitx_tuple,⟨o,h2,h3⟩,λz=>nomatch z⟩
 |ref ha=>
  rename_i n a;cases rv;simp only[mM,XU] at e;cases z:aJ h n with
  |none=>rw[z] at e;cases e
  |some l=>
   rw[z] at e;have e':"list"=t:=Zg e;subst e';obtain⟨a',vs,ha',hq,q⟩:=w.lst z;rw[ha] at ha';cases ha';obtain⟨its,p1,⟨o,k,h2,h3,_⟩,_⟩:=I.list hq;exact⟨_,W.kitx_list,⟨o,h2,h3⟩,λz=>nomatch z⟩
theorem LR{x y:V}{us:List Value}(r:Vals [x,y] us):∃u v,us=[u,v]/\RelV x u/\RelV y v:=by
 cases r with
 |cons a t=>cases t with
  |cons b t=>cases t;exact⟨_,_,rfl,a,b⟩
theorem iV{K:W.Frag}{m:List Addr}{H:Hp}{k:D->Hh->Rs D}{ds:List D}{xs:List V}{h h':Hh}{d:D}(r:RDs K m H ds xs)(e:one k ds h=.ok d h'):∃x v,xs=[v]/\RD K m H x v/\k x h=.ok d h':=by
 cases r with
 |nil=>cases e
 |cons r1 r=>
  cases r with
  |nil=>exact⟨_,_,rfl,r1,e⟩
  |cons=>cases e
theorem LV{K:W.Frag}{m:List Addr}{H:Hp}{k:D->D->Hh->Rs D}{ds:List D}{xs:List V}{h h':Hh}{d:D}(r:RDs K m H ds xs)(e:two k ds h=.ok d h'):∃x y v u,xs=[v,u]/\RD K m H x v/\RD K m H y u/\k x y h=.ok d h':=by
 cases r with
 |nil=>cases e
 |cons r1 r=>
  cases r with
  |nil=>cases e
  |cons r2 r=>
   cases r with
   |nil=>exact⟨_,_,_,_,rfl,r1,r2,e⟩
   |cons=>cases e
theorem rP{K:W.Frag}{m:List Addr}{H:Hp}:∀{ds:List D}{vs:List V}{us:List Value}{Ts:List String},RDs K m H ds vs->Vals vs us->vW ds=some Ts->us=Ts.map Value.type
 |_,_,_,_,.nil,.nil,e=>by
  have e':=Zg e;subst e';rfl
 |_,_,_,_,.cons r q,.cons v t,e=>by
  cases r<;>first |(cases e;done)|skip
  simp only[vW] at e;split at e
  ·rename_i l el;have e':=Zg e;subst e';cases v;rw[rP q t el];rfl
  ·cases e
theorem lM{K:W.Frag}{d:D}{h:Hh}{t:String}(et:mM d h=some t):∀{Ts:List String}{b:Bool},jY d h Ts=some b->W.kitAny K (.type t) (Ts.map Value.type)=some b
 | [],b,e=>e
 |T::r,b,e=>by
  simp only[jY] at e;split at e
  ·rename_i a c e1 e2;have e':=Zg e;subst e';obtain⟨t',et',ek⟩:=nO (K:=K) e1;rw[et] at et';cases et';have ih:=lM (K:=K) et e2;simp only[Zh,W.kitAny,ek,ih];cases a<;>rfl
  ·cases e
noncomputable def Blt.val:Blt->Value
 |.len=>.builtin "len"|.isinst=>.builtin "isinstance"|.int=>.type "int"|.list=>.type "list"|.max=>.builtin "max"|.min=>.builtin "min"|.sorted=>.builtin "sorted"|.all=>.builtin "all"|.tup=>.type "tuple"
theorem gW{K:W.Frag}{m:List Addr}{H:Hp}:∀{ds:List D}{vs:List V}{l:List Int},RDs K m H ds vs->lO ds=some l->vs=l.map V.int
 |_,_,_,.nil,e=>by cases e;rfl
 |_,_,l,.cons r t,e=>by
  cases r<;>first |(cases e;done)|skip
  rename_i i;simp only[lO,Option.map_eq_some_iff] at e;obtain⟨l',e1,rfl⟩:=e;rw[gW t e1];rfl
theorem fM{m:List Addr}{h:Hh}{H:Hp}{K:W.Frag}(w:Wd K m h H){d:D}{v:V}{l:List D}(r:RD K m H d v)(hl:cF d h=true)(e:eC d h=some l):∃p vs,v=.ref p/\SqL K H p vs/\RDs K m H l vs:=by
 cases r<;>first |(cases hl;done)|skip
 rename_i n a ha;obtain⟨a',vs,ha',hq,q⟩:=w.lst (show aJ h n=some l from e);rw[ha] at ha';cases ha';exact⟨a,vs,rfl,hq,q⟩
theorem xP(hc:X.calm=true)(hr:∃k,Room k X.A)(mx:Bool):fK X (.builtin (if mx then "max" else "min")) (RC X.K (xN mx)):=by
 intro pins s σ H xs us Q I rs q;obtain⟨m,h,ds,d,h',w,r,e,c⟩:=q;have fin:∀z,RD X.K m H d z->h=h'->Q z H:=λz rz eh=>by subst eh;exact c m z H Gr.refl w rz
 cases r with
 |nil=>cases e
 |cons r1 r=>
  cases r with
  |nil=>cases e
  |cons r2 r=>
   cases r with
   |cons=>cases e
   |nil=>
    cases r1<;>first |(cases e;done)|skip
    rename_i i;cases r2<;>first |(cases e;done)|skip
    rename_i j;simp[xN] at e;obtain⟨rfl,rfl⟩:=e;cases mx with
    |true=>exact zO hc pins s σ H _ us Q I rs ⟨i,j,rfl,fin _ (.int _) rfl⟩
    |false=>exact zN hc pins s σ H _ us Q I rs ⟨i,j,rfl,fin _ (.int _) rfl⟩
theorem FN:fK X (.builtin "sorted") (RC X.K (one AO)):=by
 intro pins s σ H xs us Q I rs q;obtain⟨m,h,ds,d,h',w,r,e,c⟩:=q;obtain⟨x,v,rfl,r1,e⟩:=iV r e;unfold AO at e;split at e
 ·rename_i l hl el;split at e
  ·rename_i l' es;simp at e;obtain⟨rfl,rfl⟩:=e;obtain⟨⟨h64,hk⟩,hp,hs⟩:=wA es;obtain⟨p,vs,rfl,hq,q⟩:=fM w r1 hl el;obtain⟨u,rfl,ru⟩:=fP rs;cases ru
   have fin:∀(p:Addr)(us:List V),H p=none->RDs X.K m H l' us->us.length<=sizeLine->Q (.ref p) (bS H p (.lst us)):=λp us hp rd _=>by
    obtain⟨w2,g2⟩:=w.lstNew hp rd;exact c _ _ _ g2 w2 (.ref (by rw[<- w.len];simp))
   by_cases h2:2<=l.length
   ·rcases hk with z|⟨k,k0,hk⟩
    ·omega
    ·exact rX I w hq q h2 h64 k0 hk hp hs fin
   ·obtain⟨its,p1,t1,_⟩:=I.list hq;have l1:=q.length;have l2:=p1.length
    have ell:l'=l:=by
     have:=hp.length_eq;rcases l with _|⟨x,_|⟨y,l⟩⟩
     ·exact List.perm_nil.mp hp
     ·exact List.perm_singleton.mp hp
     ·simp at h2
    subst ell;refine uG t1.isList (by omega) ?_;obtain⟨e1,ho⟩:=sortedAll_at s.heap its its.toArray;have kp:∀b o,s.heap.get? b=some o->(sortedAll s.heap its its.toArray).get? b=some o:=λb o e=>sortedAll_old e;have fr:H (s.heap.objs.size+1)=none:=I.hok.fresh (Nat.le_succ _);have lz:vs.length<=sizeLine:=by rw[sizeLine_eq];omega
    exact⟨.ref _,_,I.laid (t':=s.toks) (o:=.lst vs) kp (Nat.le_succ _) ⟨lz,its,e1,p1,ho⟩,rfl,fin _ vs fr q lz⟩
  ·cases e
 ·cases e
theorem xM{K:W.Frag}{m:List Addr}{H:Hp}:∀{ds:List D}{vs:List V}{us:List Value}{l:List Bool},RDs K m H ds vs->Vals vs us->zQ ds=some l->us=l.map Value.bool
 |_,_,_,_,.nil,.nil,e=>by cases e;rfl
 |_,_,_,_,.cons r q,.cons v t,e=>by
  cases r<;>first |(cases e;done)|skip
  simp only[zQ,Option.map_eq_some_iff] at e;obtain⟨l,e1,rfl⟩:=e;cases v;rw[xM q t e1];rfl
theorem yG{bs:List Bool}:(List.range bs.length).all (λi=>bs.getD i false)=bs.all id:=by
 induction bs with
 |nil=>rfl
 |cons b bs ih=>
  rw[List.length_cons,List.range_succ_eq_map,List.all_cons,List.all_map,List.all_cons];congr 1
theorem QQ(hc:X.calm=true):fK X (.builtin "all") (RC X.K (one EV)):=by
 intro pins s σ H xs us Q I rs q;obtain⟨m,h,ds,d,h',w,r,e,c⟩:=q;obtain⟨x,v,rfl,r1,e⟩:=iV r e;unfold EV at e;split at e
 ·rename_i l hl el;split at e
  ·rename_i bs eb;simp at e;obtain⟨rfl,rfl⟩:=e;obtain⟨p,vs,rfl,hq,q⟩:=fM w r1 hl el;obtain⟨u,rfl,ru⟩:=fP rs;cases ru;obtain⟨its,p1,t1,_⟩:=I.list hq;have ei:=xM q p1 eb;subst ei;refine call_all_walk (wpAny_pyIter_list t1.isList ?_);obtain⟨h1,h2,h3,h4⟩:=nH (A:=X.A.in1) (prog:=X.prog) (w:=X.w) (s:=s) (I.ok.hd hc) t1.isList;refine⟨_,_,_,_,_,_,λi=>bs.getD i false,rfl,h1,h2,?_,λg tk kp=>⟨.bl (bs.all id),H,I.kept (h4 g kp),?_,c m _ H Gr.refl w (.bl _)⟩⟩
   ·intro i v s' Q' E' hv hQ;have hv':(bs.map Value.bool)[i]? =some v:=by simpa using hv
    rw[Zi,Option.map_eq_some_iff] at hv';obtain⟨b,hb,rfl⟩:=hv';have:bs.getD i false=b:=by rw[List.getD_eq_getElem?_getD,hb];rfl
    have hQ':Q' (bs.getD i false) s':=hQ;rw[this] at hQ';exact wpAny_truthy_bool hQ'
   ·have:(bs.map Value.bool).toArray.size=bs.length:=by simp
    rw[this,yG];rfl
  ·cases e
 ·cases e
theorem IU(hc:X.calm=true)(hr:∃k,Room k X.A)(f:Blt):fK X f.val (RC X.K (hJ f)):=by
 by_cases hm:f=.max
 ·subst hm;exact xP hc hr true
 by_cases hm':f=.min
 ·subst hm';exact xP hc hr false
 by_cases hm2:f=.sorted
 ·subst hm2;exact FN
 by_cases hm3:f=.all
 ·subst hm3;exact QQ hc
 intro pins s σ H xs us Q I rs q;obtain⟨m,h,ds,d,h',w,r,e,c⟩:=q;have fin:∀z,RD X.K m H d z->h=h'->Q z H:=λz rz eh=>by subst eh;exact c m z H Gr.refl w rz
 cases f with
 |max=>exact absurd rfl hm
 |min=>exact absurd rfl hm'
 |sorted=>exact absurd rfl hm2
 |len=>
  obtain⟨x,v,rfl,r1,e⟩:=iV r e;unfold UB at e;split at e
  ·rename_i l el;simp at e;obtain⟨rfl,rfl⟩:=e;obtain⟨p,vs,rfl,hq,q⟩:=mV w r1 el;refine rC pins s σ H _ us Q I rs ⟨p,vs,rfl,hq,?_⟩;rw[<- q.length];exact fin _ (.int _) rfl
  ·split at e
   ·split at e
    ·rename_i hz;cases e;cases r1;exact rB pins s σ H _ us Q I rs ⟨_,rfl,hz,fin _ (.int _) rfl⟩
    ·cases e
   ·split at e
    ·rename_i l el;simp at e;obtain⟨rfl,rfl⟩:=e;obtain⟨n,a,xs,us',o,es,ep,rfl,rfl,hn,ha,hf,df,go,hk,hks,rv,vv,dd⟩:=qW I w r1 el;obtain⟨u,rfl,ru⟩:=fP rs;cases ru;obtain⟨d1,d2,d3,d4,⟨P,w',d5⟩,d6⟩:=df
     have ez:es.size=l.length:=by
      have z1:=congrArg List.length d5;have z2:=congrArg List.length hk;simp at z1 z2;omega
     have zl:l.length=xs.length:=by have z2:=congrArg List.length hk;simpa using z2
     refine zP d1 go d3 d4 (by omega) ⟨.int es.size,H,I.tok _,⟨_,rfl⟩,?_⟩;rw[ez];exact fin _ (.int _) rfl
    ·cases e
 |all=>exact absurd rfl hm3
 |tup=>
  obtain⟨x,v,rfl,r1,e⟩:=iV r e;unfold FF at e;split at e
  ·rename_i l hl el;simp at e;obtain⟨rfl,rfl⟩:=e;obtain⟨p,vs,rfl,hq,q⟩:=fM w r1 hl el;exact oT pins s σ H _ us Q I rs ⟨p,vs,rfl,.inl ⟨hq,λa ha=>c m _ _ (Gr.tupNew ha) (w.keepNew ha) (.tup (.of aZ) (q.mono (Gr.tupNew ha)))⟩⟩
  ·cases e
 |int=>
  obtain⟨x,v,rfl,r1,e⟩:=iV r e;cases r1<;>first |(cases e;done)|skip
  ·cases e;exact pR pins s σ H _ us Q I rs (.inr ⟨_,rfl,fin _ (.int _) rfl⟩)
  ·cases e;exact pR pins s σ H _ us Q I rs (.inl ⟨_,rfl,fin _ (.int _) rfl⟩)
 |list=>
  obtain⟨x,v,rfl,r1,e⟩:=iV r e;unfold KD at e;split at e
  ·rename_i l el;simp at e;obtain⟨rfl,rfl⟩:=e;obtain⟨p,vs,rfl,hq,q⟩:=mV w r1 el;refine rA pins s σ H _ us Q I rs ⟨p,vs,rfl,hq,λa ha=>?_⟩;obtain⟨w2,g2⟩:=w.lstNew ha q;exact c _ _ _ g2 w2 (.ref (by rw[<- w.len];simp))
  ·cases e
 |isinst=>
  obtain⟨x,y,v,u,rfl,r1,r2,e⟩:=LV r e;obtain⟨u1,u2,rfl,rv1,rv2⟩:=LR rs;cases r2<;>first |(cases e;done)|skip
  ·rename_i T;cases rv2;simp only[cR] at e;split at e
   ·rename_i b eb;simp at e;obtain⟨rfl,rfl⟩:=e;obtain⟨t,et,ek⟩:=nO (K:=X.K) eb;obtain⟨P,Z,hP,hx⟩:=KG I w r1 rv1 et;exact W.kia_one Z I.kIn hP ek hx λtk=>⟨.bl b,H,I.tok tk,rfl,fin _ (.bl b) rfl⟩
   ·cases e
  ·rename_i a ds vs h1 q1;cases rv2;simp only[cR] at e;split at e
   ·cases e
   ·rename_i T Ts eT;split at e
    ·rename_i b eb;simp at e;obtain⟨rfl,rfl⟩:=e
     have e1:∃k,sQ x T h=some k:=by
      simp only[jY] at eb;split at eb
      ·rename_i z _;exact⟨_,z⟩
      ·cases eb
     obtain⟨k,e1⟩:=e1;obtain⟨t,et,_⟩:=nO (K:=X.K) e1;obtain⟨P,Z,hP,hx⟩:=KG I w r1 rv1 et;obtain⟨its,p1,⟨⟨oc,od,odt,osl⟩,h2,h3,n,h4⟩,_⟩:=I.tuple h1;simp only at h3 h4;subst h3 h4;rw[rP q1 p1 eT] at h2;exact W.kia_tup Z I.kIn hP h2 (lM et eb) hx λtk=>⟨.bl b,H,I.tok tk,rfl,fin _ (.bl _) rfl⟩
    ·cases e
   ·cases e
end
section
variable {X:Cx}{N:List Str}{sc:Scope}{G:Gs}{cl:Cl}
theorem FC{x:Str}(h:FD sc x=true):XJ sc x:=by
 unfold FD at h;split at h
 ·rename_i e;exact .inl e
 ·rename_i e;exact .inr (.inl e)
 ·rename_i e;exact .inr (.inr e)
 ·cases h
theorem qR{x:Str}(h:lT sc x=true):RR sc x:=by
 unfold lT at h;split at h
 ·rename_i e;exact .inl e
 ·rename_i e;exact .inr e
 ·cases h
theorem dW(xo:XOk X N sc){x:Str}(h:wQ sc x=true):Gl X x:=by
 unfold wQ at h;split at h
 ·rename_i e;show X.env.scope.names.lookup x=some .globalImplicit;rw[xo.s];exact e
 ·cases h
theorem jT{x:Str}(h:nB x=true):(x==("__debug__":Str))=false/\(x==("__classdict__":Str))=false/\x≠"__name__":=by
 unfold nB at h;simp only[Bool.and_eq_true,Bool.not_eq_true'] at h;exact⟨h.1.1,h.1.2,λz=>by have:=h.2;rw[z] at this;simp at this⟩
theorem jM{e:Expr}{f:Ev->Hh->Rs D}(h:PE X e (TDE X.K f))(he:∀whole,isTrue e X.env whole=(do let v <- whole;standAt e.pos;holding [v] (truthy v))):PT X e (WI X.K f):=
 L2.PT.wk (BE h he) λs H Q ⟨m,r,hh,d,h',b,w,st,e1,eb,c⟩=>⟨m,r,hh,d,h',w,st,e1,λm' v H' g w' rd=>⟨b,kL w' rd eb,c m' H' g w'⟩⟩
theorem OL{x d:D}{l:List (cB×D)}{n:Bool}{h h':Hh}(e:KK x l n h=.ok d h'):∃k,d=.bl k:=by
 unfold KK at e;split at e<;>first |(cases e;exact⟨_,rfl⟩)|(cases e;done)
theorem OM{x d:D}{l:List D}{n:Bool}{h h':Hh}(e:KL x l n h=.ok d h'):∃k,d=.bl k:=by
 unfold KL at e;split at e<;>first |(cases e;exact⟨_,rfl⟩)|(cases e;done)
theorem mF{op:Cop}{x y d:D}{h h':Hh}(e:cH op x y h=.ok d h'):∃k,d=.bl k:=by
 unfold cH at e
 repeat' split at e
 all_goals first
  |(cases e;exact⟨_,rfl⟩)
  |exact OL e
  |exact OM e
  |(cases e;done)
def SK(K:W.Frag)(ta tb:TE):TE:=λσ H Q=>ta σ H λx H1=>∃k,vR K x H1 k/\if k=true then tb σ H1 Q else Q x H1
def YB(K:W.Frag)(ta tb:TE):TE:=λσ H Q=>ta σ H λx H1=>∃k,vR K x H1 k/\if k=true then Q x H1 else tb σ H1 Q
def SF(K:W.Frag)(ta:TE):TE:=λσ H Q=>ta σ H λx H1=>∃k,vR K x H1 k/\Q (.bl (!k)) H1
theorem mN{pins:List (Addr×Obj)}{s:Shared}{σ:Sg}{H:Hp}{x:V}{v:Value}{k:Bool}{Q:Bool->Shared->Prop}(I:Inv X pins σ H s)(r:RelV x v)(t:vR X.K x H k)(h:∀s',Inv X pins σ H s'->Q k s'):wpAny (model X.prog X.w) X.A (truthy v) Q X.xe s:=
 bP (AI pins s σ H x v (λb H'=>b=k/\H'=H) I r ⟨k,t,rfl,rfl⟩) λb s' ⟨H',I',e1,e2⟩=>by subst e1;subst e2;exact h s' I'
theorem GN{a b:Expr}{rest:List Expr}{pos:Pos}{ta tb:TE}(ha:PE X a ta)(hb:PE X (.BoolOp .And (b::rest) pos) tb):PE X (.BoolOp .And (a::b::rest) pos) (SK X.K ta tb):=by
 intro pins s σ H Q I h;refine BoolOp_and (bP (ha pins s σ H _ I h) λv s1 ⟨x,H1,I1,r1,k,t,q1⟩=>?_);refine mN I1 r1 t λs2 I2=>?_;cases k with
 |true=>exact hb pins s2 σ H1 Q I2 q1
 |false=>exact⟨x,H1,I2,r1,q1⟩
theorem MS{a b:Expr}{rest:List Expr}{pos:Pos}{ta tb:TE}(ha:PE X a ta)(hb:PE X (.BoolOp .Or (b::rest) pos) tb):PE X (.BoolOp .Or (a::b::rest) pos) (YB X.K ta tb):=by
 intro pins s σ H Q I h;refine BoolOp_or (bP (ha pins s σ H _ I h) λv s1 ⟨x,H1,I1,r1,k,t,q1⟩=>?_);refine mN I1 r1 t λs2 I2=>?_;cases k with
 |false=>exact hb pins s2 σ H1 Q I2 q1
 |true=>exact⟨x,H1,I2,r1,q1⟩
theorem GG{a:Expr}{pos:Pos}{ta:TE}(ha:PE X a ta):PE X (.UnaryOp .Not a pos) (SF X.K ta):=by
 intro pins s σ H Q I h;refine UnaryOp_ (bP (ha pins s σ H _ I h) λv s1 ⟨x,H1,I1,r1,k,t,q1⟩=>?_);exact not_of (mN I1 r1 t λs2 I2=>⟨.bl (!k),H1,I2,rfl,q1⟩)
theorem KA{op:BoolOp}{vs:List Expr}{pos:Pos}{t:TT}(h:PT X (.BoolOp op vs pos) t):PW X (.BoolOp op vs pos) t:=λwh pins s σ H Q I q=>by
 have:=h pins s σ H Q I q;exact this
theorem bM{e:Expr}(es:List Expr)(h:dJ e=true):starEach (e::es) X.env=(false,eval e X.env)::starEach es X.env:=by
 cases e<;>first |rfl|(cases h;done)
end
theorem vT:∀{vs:List V}{us:List Value},vs.length=us.length->(∀(k:Nat) u,us[k]? =some u->∃v,vs[k]? =some v/\RelV v u)->Vals vs us
 | [],[],_,_=>.nil
 | [],_::_,h,_=>by simp at h
 |_::_,[],h,_=>by simp at h
 |v::vs,u::us,h,k=>by
  obtain⟨v',e,r⟩:=k 0 u rfl;simp at e;subst e;exact .cons r (vT (by simpa using h) λj u' hu=>k (j+1) u' (by simpa using hu))
section
variable {X:Cx}
theorem HA(mx:Bool):bootBuiltins (oO mx)=some (.builtin (if mx then "max" else "min")):=by cases mx<;>decide+kernel
theorem BX(mx:Bool):(oO mx==("__debug__":Str))=false/\oO mx≠"__name__":=by cases mx<;>decide+kernel
theorem MU(hc:X.calm=true){mx:Bool}{y z:Expr}{p kp pos:Pos}{ta tb:TE}(hg:Gl X (oO mx))(hm:X.mg (oO mx)=none)(ha:PE X y ta)(hb:PE X z tb)(hs:starEach [y] X.env=[(false,eval y X.env)]):
 PE X (.Call (.Name (oO mx) p) [y] [⟨some "default",z,kp⟩] pos) (RB (rD X.K (oH mx)) ta tb):=by
 intro pins s σ H Q I q;have hA:PA X [y] (mO ta rT):=gE ha iU (by rw[hs];rfl);refine wpAny_Call_Name_kw (kW I hg hm (HA mx) ?_ (BX mx).2 (BX mx).1);refine callWith_kw (bP (hA pos pins s σ H (λvs H1=>match vs with| [x]=>tb σ H1 λy H2=>rD X.K (oH mx) x y H2 Q|_=>False) I q) λus s1 ⟨vs,H1,I1,r1,q1⟩=>?_) (by rw[hs];rfl) (by rw[hs];rfl) rfl rfl
 ·obtain⟨x,rfl⟩:∃x,vs=[x]:=by
   rcases vs with _|⟨x,_|⟨y,vs⟩⟩
   ·exact q1.elim
   ·exact⟨x,rfl⟩
   ·exact q1.elim
  refine kws_cons (bP (hb pins s1 σ H1 _ I1 q1) λu s2 ⟨w2,H2,I2,r2,q2⟩=>kws_nil ?_);obtain⟨v,rfl,rv⟩:=fP r1;obtain⟨m,h,dx,dy,d,h',w,rx,ry,e,c⟩:=q2;have fin:∀z,RD X.K m H2 d z->h=h'->Q z H2:=λz rz eh=>by subst eh;exact c m z H2 Gr.refl w rz
  unfold oH at e;split at e
  ·rename_i l hl el;obtain⟨pa,ws,rfl,hq,rw'⟩:=fM w rx hl el;cases rv;split at e
   ·rename_i i r' ei;simp at e;obtain⟨rfl,rfl⟩:=e;have ev:=gW rw' ei;subst ev;cases mx with
    |true=>exact sL (l:=i::r') hc I2 hq r2 (λz=>by cases z) λi1 r1 z=>by cases z;exact fin _ (.int _) rfl
    |false=>exact sJ (l:=i::r') hc I2 hq r2 (λz=>by cases z) λi1 r1 z=>by cases z;exact fin _ (.int _) rfl
   ·rename_i ei;simp at e;obtain⟨rfl,rfl⟩:=e;have ev:=gW rw' ei;subst ev;cases mx with
    |true=>exact sL (l:= []) hc I2 hq r2 (λ_=>fin _ ry rfl) λi1 r1 z=>by cases z
    |false=>exact sJ (l:= []) hc I2 hq r2 (λ_=>fin _ ry rfl) λi1 r1 z=>by cases z
   ·cases e
  ·cases e
end
noncomputable def Es.len:Es->Nat
 |.nil=>0
 |.cons _ l=>l.len+1
section
variable {X:Cx}
end
noncomputable def dY(env:Env)(p:Str×NameKind)(cs:List (Str×Addr)):List (Str×Addr):=if(p.2== .free)=true then(match env.cells.lookup p.1 with|some c=>(p.1,c)::cs|none=>cs) else cs
noncomputable def lW(scope:Scope)(env:Env):List (Str×Addr):=scope.names.foldl (λcs p=>dY env p cs) []
theorem nU{f:Str×NameKind->List (Str×Addr)->Sem (ForInStep (List (Str×Addr)))}{g:Str×NameKind->List (Str×Addr)->List (Str×Addr)}:∀(l:List (Str×NameKind))(acc:List (Str×Addr)),(∀p∈l,∀cs,f p cs=pure (.yield (g p cs)))->forIn l acc f=pure (l.foldl (λcs p=>g p cs) acc)
 | [],acc,_=>rfl
 |p::l,acc,h=>by
  rw[List.forIn_cons,h p Zl]
  show(forIn l (g p acc) f)=_
  rw[nU l (g p acc) λq hq=>h q (Zj _ hq)];rfl
theorem gJ{scope:Scope}{env:Env}(h:∀p∈scope.names,p.2=.free->∃c,env.cells.lookup p.1=some c):closureFor scope env=pure (lW scope env):=by
 simp only[closureFor]
 rw[nU (g:=dY env) scope.names [] (λp hp cs=>by
  obtain⟨n,k⟩:=p;cases hk:(k==NameKind.free) with
  |false=>(simp only[hk,dY,Bool.false_eq_true,if_false]<;>rfl)
  |true=>
   obtain⟨c,hc⟩:=h (n,k) hp (by simpa using hk)
   (simp only[hk,dY,if_true,hc,cellOf]<;>rfl))]
 rfl
theorem EG{env:Env}:∀(l:List (Str×NameKind))(acc:List (Str×Addr)),(∀q∈acc,env.cells.lookup q.1=some q.2)->∀q∈l.foldl (λcs p=>dY env p cs) acc,env.cells.lookup q.1=some q.2
 | [],acc,h=>h
 |p::l,acc,h=>EG l (dY env p acc) λq hq=>by
  unfold dY at hq;split at hq
  ·split at hq
   ·rename_i c hc;rcases List.mem_cons.mp hq with rfl|hq
    ·exact hc
    ·exact h q hq
   ·exact h q hq
  ·exact h q hq
theorem EF{env:Env}:∀(l:List (Str×NameKind))(acc:List (Str×Addr))(q:Str×Addr),q∈acc->q∈l.foldl (λcs p=>dY env p cs) acc
 | [],acc,q,h=>h
 |p::l,acc,q,h=>EF l (dY env p acc) q (by
  unfold dY;split
  ·split
   ·exact Zj _ h
   ·exact h
  ·exact h)
theorem EH{env:Env}:∀(l:List (Str×NameKind))(acc:List (Str×Addr))(n:Str)(c:Addr),(n,NameKind.free)∈l->env.cells.lookup n=some c->(n,c)∈l.foldl (λcs p=>dY env p cs) acc
 | [],_,_,_,h,_=>by cases h
 |p::l,acc,n,c,h,hc=>by
  rcases List.mem_cons.mp h with rfl|h
  ·refine EF l (dY env (n,NameKind.free) acc) (n,c) ?_;unfold dY;rw[if_pos (by rfl)];simp only[hc];exact Zl
  ·exact EH l _ n c h hc
theorem eX{α:Type}{n:Str}{c:α}:∀{l:List (Str×α)},(n,c)∈l->∃c',l.lookup n=some c'
 | [],h=>by cases h
 |(m,d)::l,h=>by
  cases e:n==m with
  |true=>exact⟨d,by simp[List.lookup_cons,e]⟩
  |false=>
   rcases List.mem_cons.mp h with z|z
   ·cases z;simp at e
   ·obtain⟨c',hc'⟩:=eX z;exact⟨c',by simp only[List.lookup_cons,e];exact hc'⟩
theorem bQ{scope:Scope}{env:Env}{n:Str}{c:Addr}(h:(lW scope env).lookup n=some c):env.cells.lookup n=some c:=
 EG scope.names [] (λ_ hq=>by cases hq) (n,c) (PySem.mem_of_lookup h)
theorem tM{scope:Scope}{env:Env}{n:Str}{c:Addr}(h:(n,NameKind.free)∈scope.names)(hc:env.cells.lookup n=some c):(lW scope env).lookup n=some c:=by
 obtain⟨c',hc'⟩:=eX (EH scope.names [] n c h hc);have:=bQ hc';rw[hc] at this;cases this;exact hc'
theorem qJ{scope sc:Scope}{x:Str}{k':NameKind}(h:(cY scope sc).names.lookup x=some k'):∃k,scope.names.lookup x=some k/\(k'=k\/(k=.free/\k'=.cell)):=by
 unfold cY at h
 have go:∀(l:List (Str×NameKind)),(l.map λ(n,k)=>if(k== .free&&sc.kind== .function&&sc.names.lookup n==some .cell) then(n,NameKind.cell) else(n,k)).lookup x=some k'->∃k,l.lookup x=some k/\(k'=k\/(k=.free/\k'=.cell)):=by
  intro l
  induction l with
  |nil=>intro h;simp at h
  |cons p l ih=>
   intro h;obtain⟨n,k⟩:=p;cases e:x==n with
   |true=>
    refine⟨k,by simp[List.lookup_cons,e],?_⟩;simp only[Zh] at h
    by_cases hc:(k== .free&&sc.kind== .function&&sc.names.lookup n==some .cell)=true
    ·rw[if_pos hc] at h;simp only[List.lookup_cons,e] at h;simp only[Bool.and_eq_true,beq_iff_eq] at hc;exact .inr ⟨hc.1.1,(Zg h).symm⟩
    ·rw[if_neg hc] at h;simp only[List.lookup_cons,e] at h;exact .inl (Zg h).symm
   |false=>
    simp only[Zh] at h
    have h':(l.map λ(n,k)=>if(k== .free&&sc.kind== .function&&sc.names.lookup n==some .cell) then(n,NameKind.cell) else(n,k)).lookup x=some k':=by
     by_cases hc:(k== .free&&sc.kind== .function&&sc.names.lookup n==some .cell)=true
     ·rw[if_pos hc] at h;simp only[List.lookup_cons,e] at h;exact h
     ·rw[if_neg hc] at h;simp only[List.lookup_cons,e] at h;exact h
    obtain⟨k2,e2,e3⟩:=ih h';exact⟨k2,by simp only[List.lookup_cons,e];exact e2,e3⟩
 exact go scope.names h
theorem uK{scope sc:Scope}{x:Str}(h:scope.names.lookup x=some .free)(hk:sc.kind=.function)(hc:sc.names.lookup x=some .cell):(cY scope sc).names.lookup x=some .cell:=by
 unfold cY
 have go:∀(l:List (Str×NameKind)),l.lookup x=some .free->(l.map λ(n,k)=>if(k== .free&&sc.kind== .function&&sc.names.lookup n==some .cell) then(n,NameKind.cell) else(n,k)).lookup x=some .cell:=by
  intro l
  induction l with
  |nil=>intro h;simp at h
  |cons p l ih=>
   intro h;obtain⟨n,k⟩:=p;cases e:x==n with
   |true=>
    have ex:x=n:=by simpa using e
    subst ex;simp only[List.lookup_cons,e] at h;cases h;simp[Zh,hk,hc]
   |false=>
    simp only[List.lookup_cons,e] at h;simp only[Zh]
    by_cases hc:(k== .free&&sc.kind== .function&&sc.names.lookup n==some .cell)=true
    ·rw[if_pos hc];simp only[List.lookup_cons,e];exact ih h
    ·rw[if_neg hc];simp only[List.lookup_cons,e];exact ih h
 exact go scope.names h
theorem kO:∀{l:List Str},nA l=true->l.Nodup
 | [],_=>List.nodup_nil
 |x::l,h=>by
  have h':(!l.contains x&&nA l)=true:=h;simp only[Bool.and_eq_true,Bool.not_eq_true'] at h';refine List.nodup_cons.mpr ⟨λhx=>?_,kO h'.2⟩;have:=h'.1;simp[hx] at this
structure ScOk (scope sc:Scope):Prop where
 kind:scope.kind=.function
 out:sc.kind=.function
 nd:(scope.names.map (·.1)).Nodup
 loc:∀p∈scope.names,p.2=.local->scope.names.lookup p.1=some .local
 free:∀p∈scope.names,p.2=.free->sc.names.lookup p.1=some .cell
theorem FR{scope sc:Scope}(h:ME scope sc=true):ScOk scope sc:=by
 unfold ME at h;simp only[Bool.and_eq_true,beq_iff_eq,List.all_eq_true,Bool.or_eq_true,Bool.not_eq_true'] at h;obtain⟨⟨⟨h1,h2⟩,h0⟩,h3⟩:=h;refine⟨h1,h2,kO h0,λp hp e=>?_,λp hp e=>?_⟩
 ·rcases(h3 p hp).1 with z|z
  ·rw[e] at z;simp at z
  ·simpa using z
 ·rcases(h3 p hp).2 with z|z
  ·rw[e] at z;simp at z
  ·simpa using z
theorem kU{α:Type}{x:Str}{k:α}:∀{l:List (Str×α)},(l.map (·.1)).Nodup->(x,k)∈l->l.lookup x=some k
 | [],_,h=>by cases h
 |(y,j)::l,nd,h=>by
  rw[Zh,List.nodup_cons] at nd;rcases List.mem_cons.mp h with e|h2
  ·cases e;simp[List.lookup_cons]
  ·have ne:(x==y)=false:=by
    rw[beq_eq_false_iff_ne];rintro rfl;exact nd.1 (List.mem_map.mpr ⟨(x,k),h2,rfl⟩)
   rw[List.lookup_cons,ne];exact kU nd.2 h2
theorem yE{scope:Scope}{env:Env}{x:Str}(h:scope.names.lookup x=some .cell):(relabel scope env).names.lookup x=some .cell:=by
 unfold relabel
 have go:∀(l:List (Str×NameKind)),l.lookup x=some .cell->(l.map λ(n,k)=>if(k== .free&&env.scope.kind== .function&&env.kindOf n==some .cell) then(n,NameKind.cell) else(n,k)).lookup x=some .cell:=by
  intro l
  induction l with
  |nil=>intro h;simp at h
  |cons p l ih=>
   intro h;obtain⟨n,k⟩:=p;cases e:x==n with
   |true=>
    simp only[List.lookup_cons,e] at h;cases h;simp[Zh,List.lookup_cons,e]
   |false=>
    simp only[List.lookup_cons,e] at h;simp only[Zh]
    by_cases hc:(k== .free&&env.scope.kind== .function&&env.kindOf n==some .cell)=true
    ·rw[if_pos hc];simp only[List.lookup_cons,e];exact ih h
    ·rw[if_neg hc];simp only[List.lookup_cons,e];exact ih h
 exact go scope.names h
theorem cZ:∀(names:List (Str×NameKind))(n:Nat)(acc:List (Str×Addr)),cellsFrom n names acc=cellsFrom n names []++acc
 | [],_,_=>rfl
 |(x,k)::r,n,acc=>by
  unfold cellsFrom;split
  ·rw[cZ r (n+1) ((x,n)::acc),cZ r (n+1) [(x,n)]];simp
  ·exact cZ r n acc
theorem fO:∀(names:List (Str×NameKind))(n:Nat)(x:Str)(c:Addr),(x,c)∈cellsFrom n names []->(x,NameKind.cell)∈names
 | [],_,_,_,h=>by cases h
 |(y,k)::r,n,x,c,h=>by
  unfold cellsFrom at h;split at h
  ·rename_i hk;rw[cZ] at h;rcases List.mem_append.mp h with h|h
   ·exact Zj _ (fO r _ x c h)
   ·have e:(x,c)=(y,n):=by simpa using h
    cases e;have hk':k=.cell:=by simpa using hk
    subst hk';exact Zl
  ·exact Zj _ (fO r _ x c h)
noncomputable def zS(scope:Scope)(env:Env)(C:Addr):List (Str×Addr):=cellsFrom (C+1) scope.names (lW scope env)
structure BCs (scope:Scope)(env:Env)(C:Addr)(h1:Heap):Prop where
 old:∀x,(x,NameKind.free)∈scope.names->(zS scope env C).lookup x=(lW scope env).lookup x
 new:∀x,scope.names.lookup x=some .cell->∃c,(zS scope env C).lookup x=some c
 inv:∀x c,(zS scope env C).lookup x=some c->(lW scope env).lookup x=some c\/(C<c/\h1.IsCell c none/\∀y,(zS scope env C).lookup y=some c->C<c->x=y)
 cellNew:∀x c,scope.names.lookup x=some .cell->(zS scope env C).lookup x=some c->C<c
theorem vN{scope sc:Scope}{env:Env}{C:Addr}{h1:Heap}(S:ScOk scope sc)(hlow:∀x c,env.cells.lookup x=some c->c<C)(ok:CellsOk h1 (C+1) (cellsFrom (C+1) scope.names [])):BCs scope env C h1:=by
 have spl:∀x,(zS scope env C).lookup x=((cellsFrom (C+1) scope.names []).lookup x).or ((lW scope env).lookup x):=λx=>by
  unfold zS;rw[cZ,List.lookup_append]
 have inv:∀x c,(zS scope env C).lookup x=some c->(cellsFrom (C+1) scope.names []).lookup x=some c\/((cellsFrom (C+1) scope.names []).lookup x=none/\(lW scope env).lookup x=some c):=λx c e=>by
  rw[spl] at e;cases q:(cellsFrom (C+1) scope.names []).lookup x with
  |none=>rw[q] at e;exact .inr ⟨rfl,e⟩
  |some c'=>rw[q] at e;exact .inl e
 refine⟨λx hx=>?_,λx hx=>?_,λx c e=>?_,λx c hx e=>?_⟩
 ·rw[spl];cases q:(cellsFrom (C+1) scope.names []).lookup x with
  |none=>rfl
  |some c=>
   have z:=kU S.nd (fO _ _ _ _ (PySem.mem_of_lookup q));rw[kU S.nd hx] at z;cases z
 ·have q:=W.cellsFrom_some scope.names (C+1) [] (.inl hx);obtain⟨c,hc⟩:=Option.isSome_iff_exists.mp q;exact⟨c,by rw[spl,hc];rfl⟩
 ·rcases inv x c e with q|⟨_,q⟩
  ·have m:=ok.empty x c (PySem.mem_of_lookup q);refine .inr ⟨m.2,m.1,λy ey _=>?_⟩;rcases inv y c ey with q'|⟨_,q'⟩
   ·exact name_of_addr ok.apart (PySem.mem_of_lookup q) (PySem.mem_of_lookup q')
   ·exact absurd (hlow y c (bQ q')) (Nat.not_lt.mpr (Nat.le_of_lt m.2))
  ·exact .inl q
 ·rcases inv x c e with q|⟨q0,q⟩
  ·exact(ok.empty x c (PySem.mem_of_lookup q)).2
  ·have q2:=W.cellsFrom_some scope.names (C+1) [] (.inl hx);rw[q0] at q2;cases q2
noncomputable def cQ(X:Cx)(N':List Str)(scope:Scope)(C:Addr)(s3:Shared)(H3:Hp)(fp:List Addr):Cx:=
 {X with N:=N',s₀:=s3,H₀:=H3,env:=compEnvC scope (zS scope X.env C) C X.env,outer:=X.stack,stack:=X.stack,ex:=fp,fn:=λx=>scope.names.lookup x==some .cell,pn:= [],xe:=λ_ _=>False}
noncomputable def vM(N':List Str)(cap:List Nat)(σ:Sg):Sg:=List.replicate (N'.length-cap.length) none++cap.map λ(i:Nat)=>(match σ[i]? with|some x=>x|none=>none)
section
variable {X:Cx}{pins:List (Addr×Obj)}{σ:Sg}{H3:Hp}{s3:Shared}{N':List Str}{scope:Scope}{fp:List Addr}{cap:List Nat}
theorem lE(I:Inv X pins σ H3 s3)(S:ScOk scope X.env.scope)(hcap:cap.length<=N'.length)(hN:(N'.drop (N'.length-cap.length)).map some=cap.map (λ(i:Nat)=>X.N[i]?))(hfr:∀x∈N'.drop (N'.length-cap.length),scope.names.lookup x=some .free)
 {h1:Heap}{tk:Nat}{m:Str->Option Value}(hns:h1.Ns s3.heap.objs.size m)(keep:∀b o,s3.heap.get? b=some o->h1.get? b=some o)(B:BCs scope X.env s3.heap.objs.size h1)
 (hfp:∀b∈fp,gO X pins H3 b)(hob:∀b∈fp,b<s3.heap.objs.size)(hfb:∀b∈fp,∀o,X.base.get? b≠some o):Inv (cQ X N' scope s3.heap.objs.size s3 H3 fp) [] (vM N' cap σ) H3 {s3 with heap:=h1,toks:=tk}:=by
 have stkN:∀b,b≠X.env.locals->b ∉ X.fs->b ∉ jZ X.stack:=λb h1 h2 hb=>(List.mem_cons.mp (I.stkSub b hb)).elim h1 h2;have kd:X.env.scope.kind=.function:=I.ok.kind
 have cellFree:∀x,(cY scope X.env.scope).names.lookup x=some .cell\/(cY scope X.env.scope).names.lookup x=some .free->(x,NameKind.free)∈scope.names\/scope.names.lookup x=some .cell:=λx hx=>by
  have:∃k',(k'=NameKind.cell\/k'=.free)/\(cY scope X.env.scope).names.lookup x=some k':=by
   rcases hx with h|h
   ·exact⟨_,.inl rfl,h⟩
   ·exact⟨_,.inr rfl,h⟩
  obtain⟨k',hk',h⟩:=this;obtain⟨k,e1,e2⟩:=qJ h;have hm:=PySem.mem_of_lookup e1;rcases e2 with rfl|⟨rfl,_⟩
  ·rcases hk' with rfl|rfl
   ·exact .inr e1
   ·exact .inl hm
  ·exact .inl hm
 have lowC:∀x c,X.env.cells.lookup x=some c->c<s3.heap.objs.size:=λx c e=>let⟨_,q⟩:=I.cell x c e;q.lt;have hasC:∀x,(x,NameKind.free)∈scope.names->∃c,X.env.cells.lookup x=some c:=λx hx=>I.ok.has x (.inl (S.free _ hx rfl))
 refine⟨⟨I.ok.mod,by show(relabel scope X.env).kind=_;exact S.kind,I.ok.glob,I.ok.blt,Zn _,λx y c h1 h2=>?_,λx hx=>?_,λx c h e=>Nat.le_of_lt (B.cellNew x c (beq_iff_eq.mp h) e),I.ok.hd,I.ok.frames,.inl rfl,λb hb=>⟨Nat.ne_of_lt (hob b hb),λx c e=>?_⟩,I.bs,Nat.le_trans I.ok.bsz I.sz,λb o e hb=>hfb b hb o e,λb hb=>stkN b (hfp b hb).2.1 (hfp b hb).2.2.1,I.stack,I.stkFree⟩,
  rfl,I.bare,Un.kept keep,⟨m,hns,λi x v e1 e2 e3=>?_⟩,λx c e=>?_,I.hok.fresh (Zn _),λx c e=>?_,λp hp=>absurd (show p∈([]:List (Addr×Obj)) from hp) (by simp),I.hok.kept keep,?_⟩
 ·rcases B.inv x c h1 with a|⟨a1,_,a3⟩
  ·rcases B.inv y c h2 with b|⟨b1,_,_⟩
   ·exact I.ok.inj x y c (bQ a) (bQ b)
   ·exact absurd (lowC x c (bQ a)) (Nat.not_lt.mpr (Nat.le_of_lt b1))
  ·exact a3 y h2 a1
 ·rcases cellFree x hx with hf|hf
  ·obtain⟨c,hc⟩:=hasC x hf;exact⟨c,(B.old x hf).trans (tM hf hc)⟩
  ·exact B.new x hf
 ·rcases B.inv x c e with a|⟨a1,_,_⟩
  ·exact(hfp b hb).2.2.2.2.1 x c (bQ a)
  ·exact Nat.ne_of_gt (Nat.lt_trans (hob b hb) a1)
 ·-- a captured name
  have hi:¬i<N'.length-cap.length:=λhi=>by
   unfold vM at e2;rw[List.getElem?_append_left (by simpa using hi),List.getElem?_replicate] at e2;split at e2<;>cases e2
  have e1':N'[i]? =some x:=e1;have hiN:i<N'.length:=(Ze.mp e1').1;unfold vM at e2;rw[List.getElem?_append_right (by simpa using hi),List.length_replicate,Zi] at e2
  have hd:(N'.drop (N'.length-cap.length))[i-(N'.length-cap.length)]? =some x:=by
   rw[List.getElem?_drop];rw[show N'.length-cap.length+(i-(N'.length-cap.length))=i by omega];exact e1'
  cases ec:cap[i-(N'.length-cap.length)]? with
  |none=>rw[ec] at e2;cases e2
  |some j=>
   rw[ec] at e2
   have hj:X.N[j]? =some x:=by
    have z:=congrArg (λl=>l[i-(N'.length-cap.length)]?) hN;simp only[Zi,hd,ec,Option.map_some] at z;exact(Zg z).symm
   have hσ:σ[j]? =some (some v):=by
    have e2':(match σ[j]? with|some x=>x|none=>none)=some v:=Zg e2;cases q:σ[j]? with
    |none=>rw[q] at e2';cases e2'
    |some y=>rw[q] at e2';exact congrArg some e2'
   have hxf:scope.names.lookup x=some .free:=hfr x (List.mem_of_getElem? hd);have hxc:=S.free _ (PySem.mem_of_lookup hxf) rfl;obtain⟨m0,hn0,hl0⟩:=I.loc;obtain⟨u,ru,l0⟩:=hl0 j x v hj hσ (.inr (.inl hxc));refine⟨u,ru,.inr ⟨.inl ?_,?_⟩⟩
   ·show(relabel scope X.env).names.lookup x=some .cell
    exact uK (sc:=X.env.scope) hxf kd hxc
   ·rcases l0 with ⟨z,_⟩|⟨_,c,hc,o,ho,hd'⟩
    ·have z':X.env.scope.names.lookup x=some .local:=z;rw[hxc] at z';cases z'
    ·exact⟨c,(B.old x (PySem.mem_of_lookup hxf)).trans (tM (PySem.mem_of_lookup hxf) hc),o,keep c o ho,hd'⟩
 ·rcases B.inv x c e with a|⟨_,a2,_⟩
  ·obtain⟨v,o,ho,hd⟩:=I.cell x c (bQ a);exact⟨v,o,keep c o ho,hd⟩
  ·exact⟨_,a2⟩
 ·rcases B.inv x c e with a|⟨a1,_,_⟩
  ·exact I.freeC x c (bQ a)
  ·exact I.hok.fresh (Nat.le_of_lt a1)
 ·unfold vM;show _=N'.length;rw[List.length_append,List.length_replicate,Zc];omega
end
theorem dH{M:Model}{A:Around}{E:Value->Shared->Prop}{scope:Scope}{env:Env}{s:Shared}{Q:Env->Shared->Prop}
 (h:∀h1:Heap,h1.Ns s.heap.objs.size (λ_=>none)->(∀b o,s.heap.get? b=some o->h1.get? b=some o)->CellsOk h1 (s.heap.objs.size+1) (cellsFrom (s.heap.objs.size+1) scope.names [])->
   Q (newEnv scope s.heap.objs.size env.globals (zS scope env s.heap.objs.size) env.qual none .none (some env) builtinsNs) {s with heap:=h1}):
 wpAny M A (newFunctionEnv scope env.globals (lW scope env) [] env.qual none .none (some env)) Q E s:=by
 simp only[newFunctionEnv,Option.isSome_some,if_true];refine Za (wpAny_alloc ?_);refine Za (wpAny_layCells _ (λname kind cells=>by cases hkc:kind==NameKind.cell<;>simp[hkc]) _ _ _ _ ?_);have hsz:(s.heap.push {cls:=.type "dict",data:=.dict #[]}).objs.size=s.heap.objs.size+1:=Heap.size_push ..;have ok:=cellsFrom_ok scope.names (s.heap.push {cls:=.type "dict",data:=.dict #[]}) (s.heap.objs.size+1) [] ⟨λ_ _ hm=>(nomatch hm),List.Pairwise.nil⟩ (by rw[hsz];exact Zn _);rw[hsz] at ok;rw[show({s with heap:=s.heap.push {cls:=.type "dict",data:=.dict #[]}}:Shared).heap.objs.size=s.heap.objs.size+1 from hsz];refine Za (wpAny_of_eq (List.forIn_nil ..) (Zb ?_));exact h _ ((Heap.Ns.new s.heap (.type "dict")).keeps (pushCells_keeps _ _)) (λb o e=>pushCells_keeps _ _ b o (Zf _ e)) ok
noncomputable def gA(ifs:List Expr)(env:Env)(b:Bool):Sem Bool:=forIn ifs b λc r=>if r=true then do let ok <- isTrue c env (eval c env);pure (ForInStep.yield ok) else pure (ForInStep.yield r)
theorem zI{elt tg iter:Expr}{ifs:List Expr}{scope:Scope}{pos:Pos}{it acc:Value}{env:Env}{P:Program}{w:World}{A:Around}{R:Result->Shared->Prop}{s:Shared}(J:Nat->Shared->Prop)
 (turn:∀k s,J k s->wpAny (model P w) A (pyNext it) (λr s1=>match r with
   |none=>R (.ok .next) s1
   |some v=>wpAny (model P w) A (letOwnedTupleGo tg it v) (λ_ s2=>wpAny (model P w) A (assign tg env v) (λ_ s3=>wpAny (model P w) A (gA ifs env true) (λok s4=>
     if ok=true then wpAny (model P w) A (eval elt env) (λx s5=>wpAny (model P w) A (call (.builtin "list.append") [acc,x]) (λ_ s6=>∃k',k'<k/\J k' s6) iX s5) iX s4
     else ∃k',k'<k/\J k' s4) iX s3) iX s2) iX s1) iX s)
 (k:Nat)(h:J k s):codeAny (model P w) A (.compLoop (.ListComp elt [⟨tg,iter,ifs,0⟩] scope pos) 0 it acc env) R s:=by
 refine codeAny_loop (I:=J) rfl (turn:=λk s hk=>?_) k h;show wpAny _ A (Sem.onRaise (compTurn (.ListComp elt [⟨tg,iter,ifs,0⟩] scope pos) 0 it acc env) (λx=>do noteFrame x env;theTreesLotGoes x)) _ _ s;refine wpAny_noted ?_;rw[compTurn_list];have no:∀{E:Value->Shared->Prop}(e:Value)(s:Shared),iX e s->E e s:=λ_ _ f=>f.elim;refine Za (wpAny_standAt (Za (wpAny_mono (turn k s hk) (λr s1 q1=>?_) no)));cases r with
 |none=>exact Zb q1
 |some v=>
  refine Za (wpAny_mono q1 (λ_ s2 q2=>Za (wpAny_mono q2 (λ_ s3 q3=>Za (wpAny_mono q3 (λok s4 q4=>?_) no)) no)) no);cases ok with
  |false=>exact Zb ⟨rfl,q4⟩
  |true=>exact Za (Za (wpAny_mono q4 (λx s5 q5=>Za (wpAny_mono q5 (λ_ s6 q6=>Zb (Zb ⟨rfl,q6⟩)) no)) no))
noncomputable def tT(K:W.Frag)(t:Tg):TG:=λv s H Q=>∃m h r d r',Wd K m h H/\RSt K m H r s/\RD K m H d v/\cX t d r=some r'/\∀s',RSt K m H r' s'->Q s' H
def RP(K:W.Frag)(f:Ev->Hh->Rs Bool):TT:=λs H Q=>∃m r h b h',Wd K m h H/\RSt K m H r s/\f r h=.ok b h'/\∀m' H',Gr K m H m' H'->Wd K m' h' H'->Q b H'
def WL(X:Cx)(ifs:List Expr)(t:TT):Prop:=∀(pins:List (Addr×Obj))(s:Shared)(σ:Sg)(H:Hp)(Q:Bool->Hp->Prop),Inv X pins σ H s->t σ H Q->wpAny (model X.prog X.w) X.A (gA ifs X.env true) (TP X pins σ Q) X.xe s
def Stp(K:W.Frag)(t:Tg)(cs:Ev->Hh->Rs Bool)(f:Ev->Hh->Rs D)(n0:Nat)(h':Hh)(J:It)(Lp:Nat->Nat->Ev->Hh->Prop)(i k:Nat)(r:Ev)(h:Hh)(m:List Addr)(H:Hp):Prop:=
 (J.stop i H/\h=h')\/(J.go i H/\∃d,(∀x H2,J.yld i H x H2->Gr K m H m H2/\Wd K m h H2/\RD K m H2 d x)/\∃r1,cX t d r=some r1/\∃b h1,cs r1 h=.ok b h1/\
   if b=true then ∃y h2 z h3,f r1 h1=.ok y h2/\jK (.ref n0) y h2=.ok z h3/\∃k',k'<k/\Lp (i+1) k' r1 h3 else ∃k',k'<k/\Lp (i+1) k' r1 h1)
section
variable {X:Cx}{G:Gs}{ca:Nat->Addr}{cl:Cl}{N':List Str}{scope:Scope}{cap:List Nat}{tg elt iter:Expr}{ifs:List Expr}{pos:Pos}{t:Tg}{ft:Ev->Hh->Rs Bool}{fe:Ev->Hh->Rs D}
theorem jJ{K:W.Frag}{m:List Addr}{H:Hp}{r:Ev}{σ:Sg}(st:RSt K m H r σ):RSt K m H (bA N' cap r) (vM N' cap σ):=by
 refine⟨by simp[bA,vM],λi d e=>?_⟩;unfold bA at e;unfold vM
 by_cases hi:i<N'.length-cap.length
 ·rw[List.getElem?_append_left (by simpa using hi),List.getElem?_replicate] at e;split at e<;>cases e
 ·rw[List.getElem?_append_right (by simpa using hi),List.length_replicate,Zi] at e;rw[List.getElem?_append_right (by simpa using hi),List.length_replicate,Zi];cases ec:cap[i-(N'.length-cap.length)]? with
  |none=>rw[ec] at e;cases e
  |some j=>
   rw[ec] at e;have e':QI r j=some d:=Zg e
   have hr:r[j]? =some (some d):=by
    unfold QI at e';cases q:r[j]? with
    |none=>rw[q] at e';cases e'
    |some y=>rw[q] at e';exact congrArg some e'
   obtain⟨v,hv,rv⟩:=st.2 j d hr;refine⟨v,?_,rv⟩;show some (match σ[j]? with|some x=>x|none=>none)=some (some v);rw[hv]
theorem pO{pins:List (Addr×Obj)}{σ:Sg}{H2:Hp}{s2:Shared}{J:It}{fp:List Addr}{it:Addr}{tn:Nat->Heap->Prop}{m2:List Addr}{h2 h':Hh}{r:Ev}(S:ScOk scope X.env.scope)(hcap:cap.length<=N'.length)
 (hN:(N'.drop (N'.length-cap.length)).map some=cap.map (λ(i:Nat)=>X.N[i]?))(hfr:∀x∈N'.drop (N'.length-cap.length),scope.names.lookup x=some .free)(calm:X.calm=true)
 (blk:∀(C:Addr)(s3:Shared)(H3:Hp)(fp:List Addr),PG (cQ X N' scope C s3 H3 fp) tg (tT X.K t)/\WL (cQ X N' scope C s3 H3 fp) ifs (RP X.K ft)/\PE (cQ X N' scope C s3 H3 fp) elt (TDE X.K fe))
 (I:Inv X pins σ H2 s2)(T:Turn X.prog X.w X.K tg J fp it tn)(st:tn 0 s2.heap)(fok:∀b∈fp,gO X pins H2 b)(w2:Wd X.K m2 h2 H2)(rst:RSt X.K m2 H2 r σ)
 (Lp:Nat->Nat->Ev->Hh->Prop)(k0:Nat)(L0:Lp 0 k0 (bA N' cap r) (h2++ [.lst []]))(hst:∀i k r h m H,Gr X.K m2 H2 m H->Wd X.K m h H->Lp i k r h->Stp X.K t ft fe h2.length h' J Lp i k r h m H)
 {Rr:Value->Addr->Result->Shared->Prop}
 (c:∀(acc C:Addr)(s1:Shared)(H':Hp)(m':List Addr),Inv X pins σ H' s1->(∃mm,s1.heap.Ns C mm)->H' C=none->C≠X.env.locals->X.s₀.heap.objs.size<=C->(∀x a,X.env.cells.lookup x=some a->a≠C)->(∀p∈X.pn++pins,p.1≠C)->Gr X.K m2 H2 m' H'->Wd X.K m' h' H'->RD X.K m' H' (.ref h2.length) (.ref acc)->Rr (.ref acc) C (.ok .next) s1):
 wpAny (model X.prog X.w) X.A (newList []) (λacc s3=>wpAny (model X.prog X.w) X.A (newFunctionEnv scope X.env.globals (lW scope X.env) [] X.env.qual none .none (some X.env)) (λcenv s4=>
  codeAny (model X.prog X.w) X.A (.compStart (.ListComp elt [⟨tg,iter,ifs,0⟩] scope pos) 0 (.ref it) acc {cenv with scope:=relabel scope X.env}) (Rr acc cenv.locals) s4) X.xe s3) X.xe s2:=by
 have fob:∀b∈fp,b<s2.heap.objs.size:=λb hb=>let⟨o,e,_⟩:=T.obj 0 _ st b hb;Heap.lt_size e
 have ffb:∀b∈fp,∀o,X.base.get? b≠some o:=λb hb o e=>by
  rcases(fok b hb).2.2.2.1 with z|z
  ·exact I.ok.noex b o e z
  ·exact absurd (Nat.lt_of_lt_of_le (Heap.lt_size (I.ok.bs b o e).1) z) (Nat.lt_irrefl _)
 have hacc0:H2 s2.heap.objs.size=none:=I.hok.fresh (Zn _);refine wpAny_newObj_type (dH (λh1 hns keep cok=>?_));dsimp only at hns keep cok⊢;obtain⟨w3,g3⟩:=w2.lstNew (ds:= []) (vs:= []) hacc0 .nil
 have I3:Inv X pins σ (bS H2 s2.heap.objs.size (.lst [])) {s2 with heap:=s2.heap.push {cls:=.type "list",dict:=none,data:=.seq ([]:List Value).toArray}}:=
  I.laid (t':=s2.toks) (λb u e=>Zf _ e) (Zn _) ⟨Nat.zero_le _,[],0,.nil,Heap.get?_push_size _ rfl⟩
 have fok3:∀b∈fp,gO X pins (bS H2 s2.heap.objs.size (.lst [])) b:=λb hb=>⟨by rw[aM (Nat.ne_of_lt (fob b hb))];exact(fok b hb).1,(fok b hb).2⟩;have st3:tn 0 h1:=T.keep _ _ _ st λb hb o e=>keep b o (Zf _ e);have B:=vN (env:=X.env) S (λx c e=>let⟨_,q⟩:=I3.cell x c e;q.lt) cok
 have I4:=lE (N':=N') (scope:=scope) (fp:=fp) (cap:=cap) I3 S hcap hN hfr (h1:=h1) (tk:=s2.toks) hns keep B fok3 (λb hb=>by
  show b<(s2.heap.push _).objs.size;rw[Heap.size_push];exact Nat.lt_succ_of_lt (fob b hb)) ffb
 have hsz:(s2.heap.push {cls:=.type "list",dict:=none,data:=.seq ([]:List Value).toArray}).objs.size=s2.heap.objs.size+1:=Heap.size_push ..;generalize hs3:({s2 with heap:=s2.heap.push {cls:=.type "list",dict:=none,data:=.seq ([]:List Value).toArray}}:Shared)=s3 at I3 I4;have eh3:s2.heap.push {cls:=.type "list",dict:=none,data:=.seq ([]:List Value).toArray}=s3.heap:=by rw[<- hs3]
 rw[eh3] at hns keep cok B hsz⊢;generalize hH3:bS H2 s2.heap.objs.size (.lst [])=H3 at I3 I4 w3 g3 fok3;obtain⟨bG,bT,bE⟩:=blk s3.heap.objs.size s3 H3 fp;have ha:(m2++ [s2.heap.objs.size])[h2.length]? =some s2.heap.objs.size:=by rw[<- w2.len];simp
 have stkN:∀b,b≠X.env.locals->b ∉ X.fs->b ∉ jZ X.stack:=λb h1 h2 hb=>(List.mem_cons.mp (I3.stkSub b hb)).elim h1 h2
 have fokB:∀{H:Hp},(∀b∈fp,H b=none)->∀b∈fp,gO (cQ X N' scope s3.heap.objs.size s3 H3 fp) [] H b:=λhn b hb=>
  ⟨hn b hb,Nat.ne_of_lt (by rw[hsz];exact Nat.lt_succ_of_lt (fob b hb)),stkN b (fok b hb).2.1 (fok b hb).2.2.1,.inl hb,λx c e=>(B.inv x c e).elim (λa=>(fok b hb).2.2.2.2.1 x c (bQ a)) (λa=>Nat.ne_of_gt (Nat.lt_trans (by rw[hsz];exact Nat.lt_succ_of_lt (fob b hb)) a.1)),λp hp=>absurd (show p∈([]:List (Addr×Obj)) from hp) (by simp)⟩
 have hw:X.w=X.w:=rfl
 have loop:∀s4:Shared,s4={s3 with heap:=h1,toks:=s2.toks}->codeAny (model X.prog X.w) X.A (.compLoop (.ListComp elt [⟨tg,iter,ifs,0⟩] scope pos) 0 (.ref it) (.ref s2.heap.objs.size) (compEnvC scope (zS scope X.env s3.heap.objs.size) s3.heap.objs.size X.env)) (Rr (.ref s2.heap.objs.size) s3.heap.objs.size) s4:=by
  rintro s4 rfl
  refine zI (λk s=>∃i σ' H' m r h,Inv (cQ X N' scope s3.heap.objs.size s3 H3 fp) [] σ' H' s/\tn i s.heap/\(∀b∈fp,H' b=none)/\Gr X.K (m2++ [s2.heap.objs.size]) H3 m H'/\Wd X.K m h H'/\RSt X.K m H' r σ'/\Lp i k r h) ?_ k0
   ⟨0,_,H3,_,_,_,I4,st3,λb hb=>(fok3 b hb).1,.refl,w3,jJ (rst.mono g3),L0⟩
  rintro k s ⟨i,σ',H',m,r',h,I',st',fr',g',w',rst',L⟩;rcases hst i k r' h m H' (g3.trans g') w' L with ⟨stop,rfl⟩|⟨go,d,hy,r1,er,b,hb1,eb,rest⟩
  ·refine bP (T.done (cQ X N' scope s3.heap.objs.size s3 H3 fp) rfl rfl rfl calm i [] s σ' H' iX I' (fokB fr') st' stop) λres s1 ⟨hr,I1⟩=>?_;subst hr;obtain⟨mm,hn1,_⟩:=id I1.loc;obtain⟨hp1,gg,dr,tk,os⟩:=s1;obtain rfl:os=s3.os:=I1.os;have IX:Inv X pins σ H' {s3 with heap:=hp1,gens:=gg,drawn:=dr,toks:=tk}:=I3.call (ch:=fp) I1.base I1.hok I1.bare λb hb=>⟨(fok3 b hb).2.2.2.1,(fok3 b hb).2.1,(fok3 b hb).2.2.2.2.1,(fok3 b hb).2.2.2.2.2⟩
   exact c _ _ _ H' m IX ⟨mm,hn1⟩ I1.free (Nat.ne_of_gt I3.lt) I3.sz (λx a e=>by
    obtain⟨v,q⟩:=I3.cell x a e;exact Nat.ne_of_lt q.lt) (λp hp=>Nat.ne_of_lt (Heap.lt_size (I3.pin p hp).1)) (g3.trans g') w' (.ref (g'.pre _ _ ha))
  ·refine bP (T.item (cQ X N' scope s3.heap.objs.size s3 H3 fp) rfl rfl rfl calm i [] s σ' H' iX I' (fokB fr') st' go) λres s1 ⟨u,hr,q1⟩=>?_;subst hr;refine bP q1 λ_ s5 ⟨x,H5,I5,rx,yl,st5,fr5⟩=>?_;obtain⟨gy,wy,rd⟩:=hy x H5 yl;have I5':=I5.pinned (fokB fr5) (T.obj _ _ st5)
   have again:∀{σ7:Sg}{H7:Hp}{s7:Shared}{m7:List Addr}{r7:Ev}{h7:Hh},Inv (cQ X N' scope s3.heap.objs.size s3 H3 fp) ([]++iT fp s5.heap) σ7 H7 s7->Gr X.K m H5 m7 H7->Wd X.K m7 h7 H7->RSt X.K m7 H7 r7 σ7->(∃k',k'<k/\Lp (i+1) k' r7 h7)->
    ∃k',k'<k/\∃i σ' H' m r h,Inv (cQ X N' scope s3.heap.objs.size s3 H3 fp) [] σ' H' s7/\tn i s7.heap/\(∀b∈fp,H' b=none)/\Gr X.K (m2++ [s2.heap.objs.size]) H3 m H'/\Wd X.K m h H'/\RSt X.K m H' r σ'/\Lp i k' r h:=λ{σ7 H7 s7 m7 r7 h7} I7 g7 w7 st7 ⟨k',hk,L7⟩=>by
    have pn:∀b∈fp,∀o,s5.heap.get? b=some o->s7.heap.get? b=some o/\H7 b=none:=λb hb o e=>let z:=I7.pin (b,o) (List.mem_append_right _ (List.mem_append_right _ (eW hb e)));⟨z.1,z.2.1⟩;exact⟨k',hk,i+1,σ7,H7,m7,r7,h7,I7.unpinned,T.keep _ _ _ st5 λb hb o e=>(pn b hb o e).1,λb hb=>let⟨o,e,_⟩:=T.obj _ _ st5 b hb;(pn b hb o e).2,g'.trans (gy.trans g7),w7,st7,L7⟩
   refine bP (bG _ s5 σ' H5 x u (λσ2 H6=>H6=H5/\RSt X.K m H5 r1 σ2) I5' rx ⟨m,h,r',d,r1,wy,rst'.mono gy,rd,er,λs' z=>⟨rfl,z⟩⟩) λ_ s6 ⟨σ6,H6,I6,eH6,st6⟩=>?_;subst eH6;refine bP (bT _ s6 σ6 H6 (λb' H7=>b'=b/\∃m7,Gr X.K m H6 m7 H7/\Wd X.K m7 hb1 H7) I6 ⟨m,r1,h,b,hb1,wy,st6,eb,λm' H' g w=>⟨rfl,m',g,w⟩⟩) λb' s7 ⟨H7,I7,e7,m7,g7,w7⟩=>?_;subst e7;cases b' with
   |false=>
    rw[if_neg Bool.false_ne_true] at rest⊢;exact again I7 g7 w7 (st6.mono g7) rest
   |true=>
    rw[if_pos rfl] at rest⊢;obtain⟨y,h8,z,h9,ey,ea,rest⟩:=rest;refine bP (bE _ s7 σ6 H7 (λv H8=>∃m8,Gr X.K m7 H7 m8 H8/\Wd X.K m8 h8 H8/\RD X.K m8 H8 y v) I7 ⟨m7,r1,hb1,y,h8,w7,st6.mono g7,ey,λm' v H' g w rv=>⟨m',g,w,rv⟩⟩) λyv s8 ⟨v,H8,I8,rv,m8,g8,w8,rdy⟩=>?_;have ha8:m8[h2.length]? =some s2.heap.objs.size:=g8.pre _ _ (g7.pre _ _ (gy.pre _ _ (g'.pre _ _ ha)));simp only[jK] at ea;split at ea<;>first |(cases ea;done)|skip
    rename_i l el;split at ea<;>first |(cases ea;done)|skip
    rename_i hlen;cases ea;obtain⟨vs,hv,rvs⟩:∃vs,H8 s2.heap.objs.size=some (.lst vs)/\RDs X.K m8 H8 l vs:=w8.ob _ _ _ el ha8;obtain⟨_,w9,g9⟩:=w8.lstSet el ha8 (rvs.append (.cons rdy .nil));refine bP (kR (X:=cQ X N' scope s3.heap.objs.size s3 H3 fp) _ s8 σ6 H8 (.ref s2.heap.objs.size) [v] (.ref s2.heap.objs.size) [yv] (λ_ H9=>H9=bS H8 s2.heap.objs.size (.lst (vs++ [v]))) I8 rfl (.cons rv .nil) ⟨_,vs,v,rfl,rfl,hv,by rw[<- rvs.length];exact Nat.lt_of_lt_of_le hlen (by decide),rfl⟩) λ_ s9 ⟨_,H9,I9,_,e9⟩=>?_;subst e9;exact again I9 ((g7.trans g8).trans g9) w9 (st6.mono ((g7.trans g8).trans g9)) rest
 have es:({s2 with heap:=h1,toks:=s2.toks}:Shared)={s3 with heap:=h1,toks:=s2.toks}:=by subst hs3;rfl
 exact codeAny_compStart_list (loop _ es) (T.self X.A 0 _ _ _ st3 (loop _ es))
end
theorem _root_.L2.PG.wk{X:Cx}{e:Expr}{t t':TG}(h:PG X e t)(i:∀v s H Q,t' v s H Q->t v s H Q):PG X e t':=λpins s σ H v u Q I r q=>h pins s σ H v u Q I r (i _ _ _ _ q)
noncomputable def A7(is:List Nat):LI:=λvs s H Q=>∃(K:W.Frag)(m:List Addr)(r:Ev)(ds:List D),RSt K m H r s/\RDs K m H ds vs/\ds.length=is.length/\∀s',RSt K m H (gB is ds r) s'->Q s' H
section
variable {X:Cx}{N:List Str}{sc:Scope}{G:Gs}{ca:Nat->Addr}{cl:Cl}{K:W.Frag}
theorem TB(ok:Expr->Nat->Bool)(hok:∀e i,ok e i=true->∃x pos,e=.Name x pos/\PG X (.Name x pos) (sX i)):∀{is:List Nat}{es:List Expr},is.length=es.length->(∀(j:Nat) i e,is[j]? =some i->es[j]? =some e->ok e i=true)->WM X es (A7 is)/\(assignEach es X.env).length=is.length/\(assignEach es X.env).findIdx? (·.1)=none
 | [],[],_,_=>⟨λpins s σ H vs us Q I rv ⟨K,m,r,ds,st,rd,hl,c⟩=>by
     cases ds with
     |cons=>cases hl
     |nil=>
      cases rd;exact GD pins s σ H [] us Q I rv ⟨rfl,c _ st⟩,rfl,rfl⟩
 |i::is,e::es,hl,h=>by
  obtain⟨x,pos,rfl,pn⟩:=hok e i (h 0 i e rfl rfl);obtain⟨ih,i2,i3⟩:=TB ok hok (is:=is) (es:=es) (by simpa using hl) λj i e e1 e2=>h (j+1) i e (by simpa using e1) (by simpa using e2);refine⟨λpins s σ H vs us Q I rv ⟨K,m,r,ds,st,rd,hl,c⟩=>?_,?_,?_⟩
  ·cases ds with
   |nil=>cases hl
   |cons d ds=>
    cases rd with
    |cons r1 rd=>
     exact BO pn ih rfl pins s σ H _ us Q I rv ⟨_,_,rfl,K,m,_,ds,st.set i r1,rd,by simpa using hl,c⟩
  ·show(assignEach es X.env).length+1=is.length+1
   rw[i2]
  ·show((false,assign (.Name x pos) X.env)::assignEach es X.env).findIdx? (·.1)=none
   rw[List.findIdx?_cons];simp[i3]
 | [],_::_,hl,_=>by simp at hl
 |_::_,[],hl,_=>by simp at hl
theorem BP(ok:Expr->Nat->Bool)(hok:∀e i,ok e i=true->∃x pos,e=.Name x pos/\PG X (.Name x pos) (sX i))(calm:X.calm=true){t:Tg}{tg:Expr}
 (h:match t with|.nm i=>ok tg i=true|.tp l=>(∃es k pos,tg=.Tuple es k pos/\l.length=es.length/\∀(j:Nat) i e,l[j]? =some i->es[j]? =some e->ok e i=true)):PG X tg (tT X.K t):=by
 cases t with
 |nm i=>
  obtain⟨x,pos,rfl,pn⟩:=hok tg i h;refine pn.wk λv s H Q ⟨m,hh,r,d,r',w,st,rd,e,c⟩=>?_;cases e;exact c _ (st.set i rd)
 |tp l=>
  obtain⟨es,k,pos,rfl,hl,h⟩:=h;obtain⟨p1,p2,p3⟩:=TB ok hok hl h;refine(MN calm p1 p2 p3).wk λv s H Q ⟨m,hh,r,d,r',w,st,rd,e,c⟩=>?_;cases rd<;>first |(cases e;done)|skip
  rename_i a ds vs hq q _;simp only[cX] at e;split at e
  ·rename_i hl;cases e;exact⟨a,vs,rfl,hq,by rw[<- q.length];exact hl,X.K,m,r,ds,st,q,hl,c⟩
  ·cases e
theorem pP:∀{l:List Nat}{es:List Expr},oE N sc l es=true->l.length=es.length/\∀(j:Nat) i e,l[j]? =some i->es[j]? =some e->iR N sc (.nm i) e=true
 | [],[],_=>⟨rfl,λj i e h=>by simp at h⟩
 |i::is,e::es,h=>by
  cases e<;>first |exact absurd (show false=true from h) Bool.false_ne_true|skip
  rename_i x pos;have h':(N[i]? ==some x&&lT sc x&&oE N sc is es)=true:=h;rw[Bool.and_eq_true] at h';obtain⟨i1,i2⟩:=pP h'.2;refine⟨by simp[i1],λj i' e' e1 e2=>?_⟩;cases j with
  |zero=>
   simp at e1 e2;subst e1;subst e2;exact h'.1
  |succ j=>exact i2 j i' e' (by simpa using e1) (by simpa using e2)
 | [],_::_,h=>absurd (show false=true from h) Bool.false_ne_true
 |_::_,[],h=>absurd (show false=true from h) Bool.false_ne_true
abbrev LK(X:Cx)(scope:Scope):Prop:=∀x,lT scope x=true->RR X.env.scope x/\(X.fn x=true\/X.env.scope.names.lookup x=some .local)
theorem GE{scope:Scope}(xo:XOk X N sc)(lo:LK X scope){t:Tg}{tg:Expr}(h:iR N scope t tg=true):PG X tg (tT X.K t):=by
 refine BP (λe i=>iR N scope (.nm i) e) (λe i he=>?_) xo.calm ?_
 ·cases e<;>first |exact absurd (show false=true from he) Bool.false_ne_true|skip
  rename_i x pos;have h':(N[i]? ==some x&&lT scope x)=true:=he;simp only[Bool.and_eq_true,beq_iff_eq] at h';obtain⟨l1,l2⟩:=lo x h'.2;exact⟨x,pos,rfl,wH xo.nd (by rw[xo.n];exact h'.1) l1 l2⟩
 ·cases t with
  |nm i=>exact h
  |tp l=>
   cases tg<;>first |exact absurd (show false=true from h) Bool.false_ne_true|skip
   rename_i es k pos;obtain⟨h1,h2⟩:=pP (show oE N scope l es=true from h);exact⟨es,k,pos,rfl,h1,h2⟩
section
variable {t:Tg}{ft:Ev->Hh->Rs Bool}{fe:Ev->Hh->Rs D}{n0:Nat}{h':Hh}{J:It}{m2:List Addr}{H2:Hp}{r0:Ev}{h0:Hh}
abbrev hV(K:W.Frag)(t:Tg)(ft:Ev->Hh->Rs Bool)(fe:Ev->Hh->Rs D)(n0:Nat)(h':Hh)(J:It)(m2:List Addr)(H2:Hp)(r0:Ev)(h0:Hh):Prop:=∃(Lp:Nat->Nat->Ev->Hh->Prop)(k0:Nat),Lp 0 k0 r0 h0/\∀i k r h m H,Gr K m2 H2 m H->Wd K m h H->Lp i k r h->Stp K t ft fe n0 h' J Lp i k r h m H
theorem fX{l:List D}(e:cL t ft fe n0 l r0 h0=.ok () h')(hgo:∀(i:Nat) d m H,Gr K m2 H2 m H->l[i]? =some d->J.go i H/\∀x H',J.yld i H x H'->H'=H/\RD K m H d x)(hstop:∀(i:Nat) m H,Gr K m2 H2 m H->l.length<=i->J.stop i H):hV K t ft fe n0 h' J m2 H2 r0 h0:=by
 refine⟨λi k r h=>k=l.length-i/\cL t ft fe n0 (l.drop i) r h=.ok () h',l.length,⟨by simp,e⟩,λi k r h m H g w ⟨hk,e⟩=>?_⟩
 by_cases hi:i<l.length
 ·have ed:l[i]? =some l[i]:=Zd hi;obtain⟨a,b⟩:=hgo i _ m H g ed;rw[List.drop_eq_getElem_cons hi] at e;simp only[cL] at e;split at e
  ·cases e
  ·rename_i r1 er;obtain⟨bb,h1,e1,e⟩:=Rs.bind_ok e;refine .inr ⟨a,_,λx H2 y=>by obtain⟨eH,rd⟩:=b x H2 y;subst eH;exact⟨.refl,w,rd⟩,r1,er,bb,h1,e1,?_⟩;cases bb with
   |true=>
    rw[if_pos rfl] at e⊢;obtain⟨y,h3,e3,e⟩:=Rs.bind_ok e;obtain⟨z,h4,e4,e⟩:=Rs.bind_ok e;exact⟨y,h3,z,h4,e3,e4,_,by omega,rfl,e⟩
   |false=>
    rw[if_neg Bool.false_ne_true] at e⊢;exact⟨_,by omega,rfl,e⟩
 ·rw[List.drop_eq_nil_of_le (by omega)] at e;cases e;exact .inl ⟨hstop i m H g (by omega),rfl⟩
theorem xW{a:Addr}{l:List D}{vs:List V}(hq:SqT K H2 a vs)(q:RDs K m2 H2 l vs)(e:cL t ft fe n0 l r0 h0=.ok () h'):hV K t ft fe n0 h' (JL K a) m2 H2 r0 h0:=
 fX e (λi d m H g ed=>by
  obtain⟨v,hv,rv⟩:=q.get ed
  exact⟨⟨vs,v,g.tup _ _ hq,hv⟩,λx H' y=>by
   obtain⟨eH,y⟩:=y;have:=y vs (g.tup _ _ hq);rw[hv] at this;cases this;exact⟨eH,rv.mono g⟩⟩) λi m H g hi=>⟨vs,g.tup _ _ hq,by rw[<- q.length];exact hi⟩
theorem xX{lo hi:Int}(e:cL t ft fe n0 (bU lo hi) r0 h0=.ok () h'):hV K t ft fe n0 h' (zW lo (hi-lo).toNat) m2 H2 r0 h0:=by
 have hl:(bU lo hi).length=(hi-lo).toNat:=by unfold bU;simp
 refine fX e (λi d m H g ed=>?_) λi m H g h=>by rw[hl] at h;exact h
 have hi':i<(hi-lo).toNat:=by rw[<- hl];exact(Ze.mp ed).1
 have hd:(bU lo hi)[i]? =some (D.int (lo+i)):=by
  unfold bU;rw[Zi,List.getElem?_range hi'];rfl
 rw[hd] at ed;cases ed;exact⟨hi',λx H' y=>⟨y.1,by rw[y.2];exact .int _⟩⟩
theorem xY{a:Addr}{n k0:Nat}(ha:m2[n]? =some a)(e:fA t ft fe n0 n k0 0 r0 h0=.ok () h'):hV K t ft fe n0 h' (LL K a) m2 H2 r0 h0:=by
 refine⟨λi k r h=>fA t ft fe n0 n k i r h=.ok () h',k0,e,λi k r h m H g w e=>?_⟩;cases k with
 |zero=>cases e
 |succ k=>
  simp only[fA] at e;split at e
  ·cases e
  ·rename_i l el;obtain⟨a',vs,ha',hq,q⟩:=w.lst el;rw[g.pre _ _ ha] at ha';cases ha';split at e
   ·rename_i en;cases e;exact .inl ⟨⟨vs,hq,by rw[<- q.length];exact List.getElem?_eq_none_iff.mp en⟩,rfl⟩
   ·rename_i d ed;obtain⟨v,hv,rv⟩:=q.get ed;split at e
    ·cases e
    ·rename_i r1 er;obtain⟨bb,h1,e1,e⟩:=Rs.bind_ok e;refine .inr ⟨⟨vs,v,hq,hv⟩,d,λx H' y=>?_,r1,er,bb,h1,e1,?_⟩
     ·obtain⟨eH,y⟩:=y;have:=y vs hq;rw[hv] at this;cases this;subst eH;exact⟨.refl,w,rv⟩
     ·cases bb with
      |true=>
       rw[if_pos rfl] at e⊢;obtain⟨y,h3,e3,e⟩:=Rs.bind_ok e;obtain⟨z,h4,e4,e⟩:=Rs.bind_ok e;exact⟨y,h3,z,h4,e3,e4,k,Nat.lt_succ_self _,e⟩
      |false=>
       rw[if_neg Bool.false_ne_true] at e⊢;exact⟨k,Nat.lt_succ_self _,e⟩
theorem tX{l:List D}(e:cL t ft fe n0 l r0 h0=.ok () h')(hgo:∀(i:Nat) d m h H,Gr K m2 H2 m H->Wd K m h H->l[i]? =some d->J.go i H/\∀x H',J.yld i H x H'->Gr K m H m H'/\Wd K m h H'/\RD K m H' d x)(hstop:∀(i:Nat) m H,Gr K m2 H2 m H->l.length<=i->J.stop i H):hV K t ft fe n0 h' J m2 H2 r0 h0:=by
 refine⟨λi k r h=>k=l.length-i/\cL t ft fe n0 (l.drop i) r h=.ok () h',l.length,⟨by simp,e⟩,λi k r h m H g w ⟨hk,e⟩=>?_⟩
 by_cases hi:i<l.length
 ·have ed:l[i]? =some l[i]:=Zd hi;obtain⟨a,b⟩:=hgo i _ m h H g w ed;rw[List.drop_eq_getElem_cons hi] at e;simp only[cL] at e;split at e
  ·cases e
  ·rename_i r1 er;obtain⟨bb,h1,e1,e⟩:=Rs.bind_ok e;refine .inr ⟨a,_,b,r1,er,bb,h1,e1,?_⟩;cases bb with
   |true=>
    rw[if_pos rfl] at e⊢;obtain⟨y,h3,e3,e⟩:=Rs.bind_ok e;obtain⟨z,h4,e4,e⟩:=Rs.bind_ok e;exact⟨y,h3,z,h4,e3,e4,_,by omega,rfl,e⟩
   |false=>
    rw[if_neg Bool.false_ne_true] at e⊢;exact⟨_,by omega,rfl,e⟩
 ·rw[List.drop_eq_nil_of_le (by omega)] at e;cases e;exact .inl ⟨hstop i m H g (by omega),rfl⟩
end
theorem IR{N':List Str}{scope:Scope}{cap:List Nat}{tg elt iter:Expr}{ifs:List Expr}{pos:Pos}{t:Tg}{ft:Ev->Hh->Rs Bool}{fe:Ev->Hh->Rs D}{f:Ev->Hh->Rs D}(xo:XOk X N sc)(S:ScOk scope sc)(hcap:cap.length<=N'.length)
 (hN:(N'.drop (N'.length-cap.length)).map some=cap.map (λ(i:Nat)=>N[i]?))(hfr:∀x∈N'.drop (N'.length-cap.length),scope.names.lookup x=some .free)
 (blk:∀(C:Addr)(s3:Shared)(H3:Hp)(fp:List Addr),PG (cQ X N' scope C s3 H3 fp) tg (tT X.K t)/\WL (cQ X N' scope C s3 H3 fp) ifs (RP X.K ft)/\PE (cQ X N' scope C s3 H3 fp) elt (TDE X.K fe))(hset:pF iter=true)
 (hi:∀(pins:List (Addr×Obj))(s:Shared)(σ:Sg)(H:Hp)(m:List Addr)(r:Ev)(h:Hh)(d:D)(h':Hh),Inv X pins σ H s->Wd X.K m h H->RSt X.K m H r σ->f r h=.ok d h'->∃h1:Hh,d=.ref h1.length/\wpAny (model X.prog X.w) X.A (eval iter X.env) (λv s1=>wpAny (model X.prog X.w) X.A (pyIter v)
   (LJ X pins σ tg λJ H2=>∃(m2:List Addr)(h2:Hh),h2.length=h1.length/\Gr X.K m H m2 H2/\Wd X.K m2 h2 H2/\hV X.K t ft fe h2.length h' J m2 H2 (bA N' cap r) (h2++ [.lst []])) X.xe s1) X.xe s):
 PE X (.ListComp elt [⟨tg,iter,ifs,0⟩] scope pos) (TDE X.K f):=by
 intro pins s σ H Q I ⟨m,r,h,d,h',w,st,e,c⟩;obtain⟨h1,rfl,hw⟩:=hi pins s σ H m r h d h' I w st e;rw[eval_ListComp];have S':ScOk scope X.env.scope:=by rw[xo.s];exact S
 refine wpAny_comprehension_free (use:=none) rfl (λz=>by cases iter<;>first |rfl|(cases hset;done)) (gJ λp hp e=>I.ok.has p.1 (.inl (S'.free p hp e))) S.kind S.loc ?_;refine bP hw λv s1 q1=>bP q1 λitv s2 q2=>?_;obtain⟨it,fp,tn,J,H2,rfl,I2,T,st2,fok,m2,h2,eh2,g2,w2,Lp,k0,L0,hst⟩:=q2;refine pO (Rr:=λacc C=>compPost (model X.prog X.w) X.A X.xe none (EP X pins σ Q) acc C) S' hcap (by rw[xo.n];exact hN) hfr xo.calm blk I2 T st2 fok w2 (st.mono g2) Lp k0 L0 hst λacc C s1 H' m' I1 ⟨mm,hn⟩ hC hL hz hc hp g' w' rv=>?_;rw[eh2] at rv;refine⟨mm,hn,λhh hsb=>⟨.ref acc,H',I1.turned (λb o hb e=>hsb.extBut b o hb e) hC (Ne.symm (Ne.symm hL)) (.inr hz) hc hp,rfl,c m' _ H' (g2.trans g') w' rv⟩⟩
theorem IQ{N':List Str}{scope:Scope}{cap:List Nat}{tg elt iter:Expr}{ifs:List Expr}{pos spos py:Pos}{y:Str}{i:Nat}{t:Tg}{ft:Ev->Hh->Rs Bool}{fe:Ev->Hh->Rs D}{f:Ev->Hh->Rs D}(xo:XOk X N sc)(S:ScOk scope sc)(hcap:cap.length<=N'.length)
 (hN:(N'.drop (N'.length-cap.length)).map some=cap.map (λ(i:Nat)=>N[i]?))(hfr:∀x∈N'.drop (N'.length-cap.length),scope.names.lookup x=some .free)
 (blk:∀(C:Addr)(s3:Shared)(H3:Hp)(fp:List Addr),PG (cQ X N' scope C s3 H3 fp) tg (tT X.K t)/\WL (cQ X N' scope C s3 H3 fp) ifs (RP X.K ft)/\PE (cQ X N' scope C s3 H3 fp) elt (TDE X.K fe))(hset:pF iter=true)
 (hi:∀(pins:List (Addr×Obj))(s:Shared)(σ:Sg)(H:Hp)(m:List Addr)(r:Ev)(h:Hh)(d:D)(h':Hh),Inv X pins σ H s->Wd X.K m h H->RSt X.K m H r σ->f r h=.ok d h'->∃h1:Hh,d=.ref h1.length/\wpAny (model X.prog X.w) X.A (eval iter X.env) (λv s1=>wpAny (model X.prog X.w) X.A (pyIter v)
   (LJ X pins σ tg λJ H2=>∃(m2:List Addr)(h2:Hh),h2.length=h1.length/\Gr X.K m H m2 H2/\Wd X.K m2 h2 H2/\hV X.K t ft fe h2.length h' J m2 H2 (bA N' cap r) (h2++ [.lst []])) X.xe s1) X.xe s)
 (hy:N[i]? =some y)(hl:sc.names.lookup y=some .local)(hsw:swapsWith (.ListComp elt [⟨tg,iter,ifs,0⟩] scope pos) (some (.Name y py)) spos.line X.env=pure true):
 PS X (.Assign [.Name y py] (.ListComp elt [⟨tg,iter,ifs,0⟩] scope pos) spos) (LY (TDE X.K f) (sX i)):=by
 intro pins s σ H Z I ⟨m,r,h,d,h',w,st,e,c⟩;obtain⟨h1,rfl,hw⟩:=hi pins s σ H m r h d h' I w st e;have S':ScOk scope X.env.scope:=by rw[xo.s];exact S
 rw[exec_Assign_Name_used _ _ _ _ hsw];refine Za (wpAny_standAt (Za ?_));show wpAny _ X.A (do let _ <- comprehension (.ListComp elt [⟨tg,iter,ifs,0⟩] scope pos) scope X.env _ (newList []) false (eval iter X.env) (some (assign (.Name y py) X.env))) _ _ s;refine Za (bP (wpAny_comprehension_free (use:=some (assign (.Name y py) X.env)) (Q:=λ_ s'=>SP X pins Z .next s') rfl (λz=>by cases iter<;>first |rfl|(cases hset;done)) (gJ λp hp e=>I.ok.has p.1 (.inl (S'.free p hp e))) S.kind S.loc ?_) λ_ s' q=>Zb (Zb q));refine bP hw λv s1 q1=>bP q1 λitv s2 q2=>?_;obtain⟨it,fp,tn,J,H2,rfl,I2,T,st2,fok,m2,h2,eh2,g2,w2,Lp,k0,L0,hst⟩:=q2;refine pO (Rr:=λacc C=>compPost (model X.prog X.w) X.A X.xe (some (assign (.Name y py) X.env)) (λ_ s'=>SP X pins Z .next s') acc C) S' hcap (by rw[xo.n];exact hN) hfr xo.calm blk I2 T st2 fok w2 (st.mono g2) Lp k0 L0 hst λacc C s1 H' m' I1 ⟨mm,hn⟩ hC hL hz hc hp g' w' rv=>?_;rw[eh2] at rv;show wpAny _ X.A (assign (.Name y py) X.env (.ref acc)) _ _ s1;have hyl:X.env.kindOf y=some .local:=by show X.env.scope.names.lookup y=_;rw[xo.s];exact hl
 refine wpAny_assign_Name (pB (i:=i) (v:=.ref acc) I1 xo.nd (by rw[xo.n];exact hy) (.inl (by rw[xo.s];exact hl)) rfl (λs5 I5 ⟨a,hsa,hq⟩=>?_) (.inr (by rw[xo.s];exact hl)))
 have ea:a≠C:=by
  rcases hq with rfl|hq
  ·exact λz=>hL z.symm
  ·exact hc _ _ hq
 refine⟨mm,?_,λhh hsb=>⟨_,H',I5.turned (λb o hb e=>hsb.extBut b o hb e) hC hL (.inr hz) hc hp,c m' _ H' (g2.trans g') w' rv⟩⟩;obtain⟨o,es,ep,e1,e2⟩:=hn;exact⟨o,es,ep,hsa.extBut C o (Ne.symm ea) e1,e2⟩
end
section
variable {X:Cx}{N:List Str}{sc:Scope}{G:Gs}{ca:Nat->Addr}{cl:Cl}
theorem rS{ifs:List Expr}{env:Env}{M:Model}{A:Around}{E:Value->Shared->Prop}{s:Shared}{Q:Bool->Shared->Prop}(h:Q false s):wpAny M A (gA ifs env false) Q E s:=by
 induction ifs with
 |nil=>exact Zb h
 |cons c l ih=>
  unfold gA at ih⊢;rw[List.forIn_cons,if_neg Bool.false_ne_true];exact Za (Zb ih)
theorem uC{c:Expr}{l:List Expr}{env:Env}{M:Model}{A:Around}{E:Value->Shared->Prop}{s:Shared}{Q:Bool->Shared->Prop}(h:wpAny M A (isTrue c env (eval c env)) (λb s'=>wpAny M A (gA l env b) Q E s') E s):wpAny M A (gA (c::l) env true) Q E s:=by
 unfold gA at h⊢;rw[List.forIn_cons,if_pos rfl];exact Za (Za (bP h λb s' q=>Zb q))
theorem eJ{N':List Str}{scope:Scope}(xo:XOk X N sc)(nd:N'.Nodup)(C:Addr)(s3:Shared)(H3:Hp)(fp:List Addr):XOk (cQ X N' scope C s3 H3 fp) N' (cY scope sc):=
 ⟨rfl,by rw[<- xo.s];rfl,xo.calm,nd,xo.room,xo.rng,PassesOwn.never⟩
theorem mG{N':List Str}{scope:Scope}(S:ScOk scope X.env.scope)(C:Addr)(s3:Shared)(H3:Hp)(fp:List Addr):LK (cQ X N' scope C s3 H3 fp) scope:=λx hx=>by
 rcases qR hx with h|h
 ·have z:(relabel scope X.env).names.lookup x=some .local:=lookup_relabel_local h;exact⟨.inl z,.inr z⟩
 ·have z:(relabel scope X.env).names.lookup x=some .cell:=yE h;refine⟨.inr z,.inl ?_⟩
  show(scope.names.lookup x==some .cell)=true
  rw[h];rfl
theorem lG{N':List Str}{scope:Scope}(go:GOk X G ca cl)(C:Addr)(s3:Shared)(H3:Hp)(fp:List Addr):GOk (cQ X N' scope C s3 H3 fp) G ca cl:=⟨go.fn,go.cst,go.blt,go.ty,go.exc,go.sub,go.nsub,go.verr,⟨go.c.att,go.c.meth,go.c.new⟩⟩
end
noncomputable abbrev rH:=Sem PySem.Fin->Sem PySem.Fin
noncomputable def DV(kx vx:Expr)(Dn:Addr)(env:Env):rH:=λag=>(eval kx env>>=λkv=>holding [kv] (eval vx env)>>=λvv=>standAt {kx.pos with endLine:=vx.pos.endLine,endCol:=vx.pos.endCol}>>=λ_=>holding [kv,vv] (dictSet Dn kv vv))>>=λ_=>ag
noncomputable def CM(e iter2:Expr)(acc:Value)(env:Env):rH:=λag=>eval iter2 env>>=λx=>standAt iter2.pos>>=λ_=>foldedSetIterable iter2 env x>>=λy=>holding [y] (pyIter y)>>=λi2=>runOwn (.compStart e 1 i2 acc env) env>>=λ_=>ag
noncomputable def fY(tg:Expr)(ip:Pos)(it:Value)(env:Env)(emit:rH)(ag:Sem PySem.Fin):Sem PySem.Fin:=standAt ip>>=λ_=>pyNext it>>=λr=>match r with
 |none=>pure (.done .next)
 |some v=>letOwnedTupleGo tg it v>>=λ_=>assign tg env v>>=λ_=>emit ag
theorem TZ{kx vx e tg:Expr}{gens:List Comprehension}{scope:Scope}{pos:Pos}{dep:Nat}{ip:Pos}{it acc:Value}{env:Env}{emit:rH}(he:e=.DictComp kx vx gens scope pos){P:Program}{w:World}{A:Around}{R:Result->Shared->Prop}{s:Shared}(hct:compTurn e dep it acc env=fY tg ip it env emit (again (.compLoop e dep it acc env)))(J:Nat->Shared->Prop)
 (turn:∀k s,J k s->wpAny (model P w) A (pyNext it) (λr s1=>match r with
   |none=>R (.ok .next) s1
   |some v=>wpAny (model P w) A (letOwnedTupleGo tg it v) (λ_ s2=>wpAny (model P w) A (assign tg env v) (λ_ s3=>∀(Z:PySem.Fin->Shared->Prop)(E:Value->Shared->Prop)(ag:Sem PySem.Fin),(∀s4,(∃k',k'<k/\J k' s4)->wpAny (model P w) A ag Z E s4)->wpAny (model P w) A (emit ag) Z E s3) iX s2) iX s1) iX s)
 (k:Nat)(h:J k s):codeAny (model P w) A (.compLoop e dep it acc env) R s:=by
 subst he;refine codeAny_loop (I:=J) rfl (turn:=λk s hk=>?_) k h;show wpAny _ A (Sem.onRaise (compTurn (.DictComp kx vx gens scope pos) dep it acc env) (λx=>do noteFrame x env;theTreesLotGoes x)) _ _ s;refine wpAny_noted ?_;rw[hct];unfold fY;have no:∀{E:Value->Shared->Prop}(e:Value)(s:Shared),iX e s->E e s:=λ_ _ f=>f.elim;refine Za (wpAny_standAt (Za (wpAny_mono (turn k s hk) (λr s1 q1=>?_) no)));cases r with
 |none=>exact Zb q1
 |some v=>exact Za (wpAny_mono q1 (λ_ s2 q2=>Za (wpAny_mono q2 (λ_ s3 q3=>q3 _ _ _ λs4 q4=>Zb ⟨rfl,q4⟩) no)) no)
def PB(Y:Cx)(emit:rH)(n0:Nat)(acc:Addr)(fb:Ev->Hh->Rs Ev):Prop:=∀(pins:List (Addr×Obj))(s:Shared)(σ:Sg)(H:Hp)(m:List Addr)(r:Ev)(h:Hh)(r':Ev)(h':Hh),Inv Y pins σ H s->Wd Y.K m h H->RSt Y.K m H r σ->m[n0]? =some acc->fb r h=.ok r' h'->
 ∀(Z:PySem.Fin->Shared->Prop)(E:Value->Shared->Prop)(ag:Sem PySem.Fin),(∀s' m' σ' H',Inv Y pins σ' H' s'->Gr Y.K m H m' H'->Wd Y.K m' h' H'->RSt Y.K m' H' r' σ'->wpAny (model Y.prog Y.w) Y.A ag Z E s')->wpAny (model Y.prog Y.w) Y.A (emit ag) Z E s
def WJ(K:W.Frag)(t:Tg)(fb:Ev->Hh->Rs Ev)(End:Ev->Hh->Prop)(J:It)(Lp:Nat->Nat->Ev->Hh->Prop)(i k:Nat)(r:Ev)(h:Hh)(m:List Addr)(H:Hp):Prop:=
 (J.stop i H/\End r h)\/(J.go i H/\∃d,(∀x H2,J.yld i H x H2->H2=H/\RD K m H d x)/\∃r1,cX t d r=some r1/\∃r2 h1,fb r1 h=.ok r2 h1/\∃k',k'<k/\Lp (i+1) k' r2 h1)
section
variable {Y:Cx}{tg e:Expr}{kx vx:Expr}{gens:List Comprehension}{scope:Scope}{pos:Pos}{t:Tg}{emit:rH}{fb:Ev->Hh->Rs Ev}{n0 acc dep:Nat}{ip:Pos}{it:Addr}{J:It}{fp:List Addr}{tn:Nat->Heap->Prop}{m2:List Addr}{H2:Hp}{End:Ev->Hh->Prop}{R:Result->Shared->Prop}{pins:List (Addr×Obj)}
theorem yQ(he:e=.DictComp kx vx gens scope pos)(hct:compTurn e dep (.ref it) (.ref acc) Y.env=fY tg ip (.ref it) Y.env emit (again (.compLoop e dep (.ref it) (.ref acc) Y.env)))(calm:Y.calm=true)(bG:PG Y tg (tT Y.K t))(hxe:Y.xe=iX)(bE:PB Y emit n0 acc fb)(T:Turn Y.prog Y.w Y.K tg J fp it tn)
 (Lp:Nat->Nat->Ev->Hh->Prop)(hst:∀i k r h m H,Gr Y.K m2 H2 m H->Wd Y.K m h H->Lp i k r h->WJ Y.K t fb End J Lp i k r h m H)(hacc:m2[n0]? =some acc)
 (fok:∀{H:Hp},(∀b∈fp,H b=none)->∀b∈fp,gO Y pins H b)
 {s:Shared}{σ:Sg}{H:Hp}{m:List Addr}{r:Ev}{h:Hh}{k:Nat}(I:Inv Y pins σ H s)(st:tn 0 s.heap)(fr:∀b∈fp,H b=none)(g:Gr Y.K m2 H2 m H)(w:Wd Y.K m h H)(rs:RSt Y.K m H r σ)(L0:Lp 0 k r h)
 (fin:∀s' σ' H' m' r' h',Inv Y pins σ' H' s'->Gr Y.K m2 H2 m' H'->Wd Y.K m' h' H'->RSt Y.K m' H' r' σ'->End r' h'->R (.ok .next) s'):codeAny (model Y.prog Y.w) Y.A (.compLoop e dep (.ref it) (.ref acc) Y.env) R s:=by
 refine TZ he hct (λk s=>∃i σ' H' m r h,Inv Y pins σ' H' s/\tn i s.heap/\(∀b∈fp,H' b=none)/\Gr Y.K m2 H2 m H'/\Wd Y.K m h H'/\RSt Y.K m H' r σ'/\Lp i k r h) ?_ k ⟨0,σ,H,m,r,h,I,st,fr,g,w,rs,L0⟩;rintro k s ⟨i,σ',H',m,r',h,I',st',fr',g',w',rst',L⟩;rcases hst i k r' h m H' g' w' L with ⟨stop,eh⟩|⟨go,d,hy,r1,er,r2,h1,eb,rest⟩
 ·refine bP (T.done Y rfl rfl rfl calm i pins s σ' H' iX I' (fok fr') st' stop) λres s1 ⟨hr,I1⟩=>?_;subst hr;exact fin s1 σ' H' m r' h I1 g' w' rst' eh
 ·refine bP (T.item Y rfl rfl rfl calm i pins s σ' H' iX I' (fok fr') st' go) λres s1 ⟨u,hr,q1⟩=>?_;subst hr;refine bP q1 λ_ s5 ⟨x,H5,I5,rx,yl,st5,fr5⟩=>?_;obtain⟨eH,rd⟩:=hy x H5 yl;subst eH;have I5':=I5.pinned (fok fr5) (T.obj _ _ st5);have bG':=bG (pins++iT fp s5.heap) s5 σ' H5 x u (λσ2 H6=>H6=H5/\RSt Y.K m H5 r1 σ2) I5' rx ⟨m,h,r',d,r1,w',rst',rd,er,λs' z=>⟨rfl,z⟩⟩;rw[hxe] at bG';refine bP bG' λ_ s6 ⟨σ6,H6,I6,eH6,st6⟩=>?_;subst eH6;obtain⟨k',hk,L7⟩:=rest;intro Z E ag hag;refine bE _ s6 σ6 H6 m r1 h r2 h1 I6 w' st6 (g'.pre _ _ hacc) eb Z E ag λs7 m7 σ7 H7 I7 g7 w7 st7=>hag s7 ?_;have pn:∀b∈fp,∀o,s5.heap.get? b=some o->s7.heap.get? b=some o/\H7 b=none:=λb hb o e=>let z:=I7.pin (b,o) (List.mem_append_right _ (List.mem_append_right _ (eW hb e)));⟨z.1,z.2.1⟩;exact⟨k',hk,i+1,σ7,H7,m7,r2,h1,I7.unpinned,T.keep _ _ _ st5 λb hb o e=>(pn b hb o e).1,λb hb=>let⟨o,e,_⟩:=T.obj _ _ st5 b hb;(pn b hb o e).2,g'.trans g7,w7,st7,L7⟩
end
section
variable {Y:Cx}{kx vx iter2:Expr}{fk fv fi:Ev->Hh->Rs D}{n0 acc:Nat}
theorem RDs.snd_put{K:W.Frag}{m:List Addr}{H:Hp}{k:cB}{z:D}{v:V}(rz:RD K m H z v):∀{ds:List (cB×D)}{us:List (cB×V)},ds.map (·.1)=us.map (·.1)->RDs K m H (ds.map (·.2)) (us.map (·.2))->
 (ds.map (λkv=>if kv.1=k then(kv.1,z) else kv)).map (·.1)=(us.map (λkv=>if kv.1=k then(kv.1,v) else kv)).map (·.1)/\RDs K m H ((ds.map (λkv=>if kv.1=k then(kv.1,z) else kv)).map (·.2)) ((us.map (λkv=>if kv.1=k then(kv.1,v) else kv)).map (·.2))
 | [],[],_,_=>⟨rfl,.nil⟩
 | [],q::us,hk,_=>by simp at hk
 |p::ds,[],hk,_=>by simp at hk
 |p::ds,q::us,hk,r=>by
  simp only[Zh,List.cons.injEq] at hk;cases r with
  |cons r1 r2=>
   obtain⟨i1,i2⟩:=RDs.snd_put (k:=k) rz hk.2 r2;simp only[Zh]
   by_cases e:p.1=k
   ·have e2:q.1=k:=by rw[<- hk.1];exact e
    rw[if_pos e,if_pos e2];exact⟨by simp only[List.cons.injEq];exact⟨hk.1,i1⟩,.cons rz i2⟩
   ·have e2:¬q.1=k:=by rw[<- hk.1];exact e
    rw[if_neg e,if_neg e2];exact⟨by simp only[List.cons.injEq];exact⟨hk.1,i1⟩,.cons r1 i2⟩
theorem FY{K:W.Frag}{m:List Addr}{H:Hp}{k:cB}{z:D}{v:V}{ds:List (cB×D)}{us:List (cB×V)}(rz:RD K m H z v)(hk:ds.map (·.1)=us.map (·.1))(r:RDs K m H (ds.map (·.2)) (us.map (·.2))):
 (sC ds k z).map (·.1)=(gQ us k v).map (·.1)/\RDs K m H ((sC ds k z).map (·.2)) ((gQ us k v).map (·.2)):=by
 have an:(ds.any λkv=>decide (kv.1=k))=us.any λkv=>decide (kv.1=k):=by
  have h1:(ds.any λkv=>decide (kv.1=k))=(ds.map (·.1)).any λx=>decide (x=k):=by rw[List.any_map];rfl
  have h2:(us.any λkv=>decide (kv.1=k))=(us.map (·.1)).any λx=>decide (x=k):=by rw[List.any_map];rfl
  rw[h1,h2,hk]
 unfold sC gQ;rw[an];split
 ·exact RDs.snd_put rz hk r
 ·simp only[List.map_append,Zh,List.map_nil];exact⟨by rw[hk],r.append (.cons rz .nil)⟩
theorem IF{K:W.Frag}{m:List Addr}{h h':Hh}{H:Hp}{n:Nat}{a:Addr}{y z:D}{vy vz:V}{u:Unit}(w:Wd K m h H)(ha:m[n]? =some a)(ry:RD K m H y vy)(rz:RD K m H z vz)(e:tF n y z h=.ok u h'):
 ∃us k,H a=some (.dK us)/\vy=kV k/\us.length<1000/\Wd K m h' (bS H a (.dK (gQ us k vz)))/\Gr K m H m (bS H a (.dK (gQ us k vz))):=by
 unfold tF at e;split at e
 ·rename_i l k el ek;split at e
  ·rename_i hl;cases e;obtain⟨us,q1,q2,q3⟩:=w.ob n _ a el ha;have ll:l.length=us.length:=by have:=congrArg List.length q2;simpa using this
   obtain⟨w2,g2⟩:=w.objSet (o':=.dct (sC l k z)) (u:=.dK (gQ us k vz)) el rfl ha λg=>by
    obtain⟨i1,i2⟩:=FY (k:=k) (rz.mono g) q2 (q3.mono g);exact⟨_,aZ,i1,i2⟩
   exact⟨us,k,q1,jW ry ek,by omega,w2,g2⟩
  ·cases e
 ·cases e
end
section
variable {Y:Cx}{kx vx tg1 iter1 tg2 iter2:Expr}{scope:Scope}{pos:Pos}{t2:Tg}{fk fv fi:Ev->Hh->Rs D}{n0 acc:Nat}
end
section
variable {X:Cx}{N':List Str}{scope:Scope}{cap:List Nat}{kx vx tg1 iter1 tg2 iter2:Expr}{pos:Pos}{t1 t2:Tg}{fi fk fv:Ev->Hh->Rs D}
end
section
variable {X:Cx}{pins:List (Addr×Obj)}{σ:Sg}{H:Hp}{s:Shared}
theorem vK{P:Program}{w:World}{H:Hp}{h:Heap}{a:Addr}{xs:List (List Int×Addr×Value)}(d:Dtt a xs h):ObjOk P w H h a (.ext (Dtt a xs)):=by
 obtain⟨h1,h2,P0,w0,o,es,ep,h3,h4,h5,h6,h7⟩:=id d;refine⟨d,⟨o,h3⟩,λg1 g2 ⟨a1,a2,P1,w1,o1,es1,ep1,a3,a4⟩ k=>⟨a1,a2,P1,w1,o1,es1,ep1,k o1 a3,a4⟩⟩
theorem Dtt.of(I:Inv X pins σ H s){a:Addr}{xs:List (List Int×Addr×Value)}(e:H a=some (.ext (Dtt a xs))):Dtt a xs s.heap:=(show ObjOk X.prog X.w H s.heap a (.ext (Dtt a xs)) from I.hok a _ e).1
theorem sA{K:W.Frag}{m:List Addr}{H:Hp}{k:List Int}{z:D}{vz:V}{uz:Value}(rz:RD K m H z vz)(sz:RelV vz uz):∀{ds:List (List Int×D)}{xs:List (List Int×Addr×Value)}{us:List V},ds.map (·.1)=xs.map (·.1)->RDs K m H (ds.map (·.2)) us->Vals us (xs.map (·.2.2))->
 ∃us',(ds.map λkv=>if kv.1=k then(kv.1,z) else kv).map (·.1)=(xs.map (putAt k uz)).map (·.1)/\RDs K m H ((ds.map λkv=>if kv.1=k then(kv.1,z) else kv).map (·.2)) us'/\Vals us' ((xs.map (putAt k uz)).map (·.2.2))/\∀x∈xs.map (putAt k uz),∃y∈xs,x.1=y.1/\x.2.1=y.2.1
 | [],[],us,_,r,p=>⟨[],rfl,.nil,.nil,λx hx=>by cases hx⟩
 | [],_::_,us,h,_,_=>by cases h
 |_::_,[],us,h,_,_=>by cases h
 |d::ds,x::xs,us,h,r,p=>by
  cases r with
  | @cons _ v1 _ _ r1 r=>
    cases p with
    |cons p1 p=>
     obtain⟨h1,h2⟩:=List.cons.inj (show d.1::ds.map (·.1)=x.1::xs.map (·.1) from h);obtain⟨us',a,b,c,e⟩:=sA rz sz h2 r p
     by_cases q:d.1=k
     ·have q':x.1=k:=by rw[<- h1];exact q
      refine⟨vz::us',?_,?_,?_,?_⟩
      ·simp only[Zh,putAt,if_pos q,if_pos q'];rw[h1];congr 1
      ·simp only[Zh,if_pos q];exact .cons rz b
      ·simp only[Zh,putAt,if_pos q'];exact .cons sz c
      ·intro y hy;rw[Zh] at hy;rcases List.mem_cons.mp hy with rfl|hy
       ·exact⟨x,Zl,by simp[putAt,q'],by simp[putAt,q']⟩
       ·obtain⟨y',m1,m2⟩:=e y hy;exact⟨y',Zj _ m1,m2⟩
     ·have q':¬x.1=k:=by rw[<- h1];exact q
      refine⟨v1::us',?_,?_,?_,?_⟩
      ·simp only[Zh,putAt,if_neg q,if_neg q'];rw[h1];congr 1
      ·simp only[Zh,if_neg q];exact .cons r1 b
      ·simp only[Zh,putAt,if_neg q'];exact .cons p1 c
      ·intro y hy;rw[Zh] at hy;rcases List.mem_cons.mp hy with rfl|hy
       ·exact⟨x,Zl,by simp[putAt,q'],by simp[putAt,q']⟩
       ·obtain⟨y',m1,m2⟩:=e y hy;exact⟨y',Zj _ m1,m2⟩
theorem sB{K:W.Frag}{m:List Addr}{H:Hp}{k:List Int}{z:D}{vz:V}{uz:Value}{b:Addr}(hb:SqT K H b (k.map V.int))(rz:RD K m H z vz)(sz:RelV vz uz){ds:List (List Int×D)}{xs:List (List Int×Addr×Value)}{us:List V}(h:ds.map (·.1)=xs.map (·.1))(hk:∀x∈xs,SqT K H x.2.1 (x.1.map V.int))(r:RDs K m H (ds.map (·.2)) us)(p:Vals us (xs.map (·.2.2))):
 ∃us',(oN ds k z).map (·.1)=(storedH xs k b uz).map (·.1)/\(∀x∈storedH xs k b uz,SqT K H x.2.1 (x.1.map V.int))/\RDs K m H ((oN ds k z).map (·.2)) us'/\Vals us' ((storedH xs k b uz).map (·.2.2)):=by
 have e:ds.any (λkv=>decide (kv.1=k))=(atKey xs k).isSome:=by rw[pZ];exact oI h
 unfold oN storedH;rw[e]
 by_cases q:(atKey xs k).isSome=true
 ·rw[if_pos q,if_pos q];obtain⟨us',a,b',c,d⟩:=sA (k:=k) rz sz h r p;refine⟨us',a,λx hx=>?_,b',c⟩;obtain⟨y,hy,e1,e2⟩:=d x hx;rw[e1,e2];exact hk y hy
 ·rw[if_neg q,if_neg q];refine⟨us++ [vz],by simp[h],λx hx=>?_,?_,?_⟩
  ·rcases List.mem_append.mp hx with hx|hx
   ·exact hk x hx
   ·have:x=(k,b,uz):=by simpa using hx
    subst this;exact hb
  ·rw[List.map_append];exact r.append (.cons rz .nil)
  ·rw[List.map_append];exact p.append (.cons sz .nil)
theorem mR{xs:List (List Int×Addr×Value)}{k:List Int}{b:Addr}{u:Value}:(storedH xs k b u).length<=xs.length+1:=by
 unfold storedH;split<;>simp
theorem IC{A:Around}{E:Value->Shared->Prop}{Q:Unit->Shared->Prop}{m:List Addr}{h:Hh}(hu:A.units+1<cLine)(I:Inv X pins σ H s)(w:Wd X.K m h H){n:Nat}{a b:Addr}{l:List (List Int×D)}{k:List Int}{z:D}{vz:V}{uz:Value}(hn:h[n]? =some (.dtt l))(ha:m[n]? =some a)(hl:l.length<1000)
 (hb:SqT X.K H b (k.map V.int))(rz:RD X.K m H z vz)(sz:RelV vz uz)(c:∀s' H',Inv X pins σ H' s'->Gr X.K m H m H'->Wd X.K m (h.set n (.dtt (oN l k z))) H'->Q () s'):wpAny (model X.prog X.w) A (setItem (.ref a) (.ref b) uz) Q E s:=by
 obtain⟨xs,us,h1,h2,h3,h4,h5⟩:RO X.K m H a (.dtt l):=w.ob n _ a hn ha;obtain⟨d1,d2,P0,w0,o,es,ep,d3,d4,d5,d6,d7⟩:=Dtt.of I h1;have xl:l.length=xs.length:=by have:=congrArg List.length h2;simpa using this
 have dd:s.heap.DictOfH (tupleKind (intKind X.prog X.w)) a xs:=⟨o,es,ep,d3,d4,d5,d6.trans (by rw[nY P0 X.prog w0 X.w]),λx hx=>uY I (h3 x hx),d7⟩
 refine wpAny_setItem_heap (hsz:=by have:(1000:Nat)<=sizeLine:=by decide
                                    omega) (tupleKind_room_in1 hu) (uY I hb) dd λg dd' hs=>?_
 obtain⟨o',es',ep',e3,e4,e5,e6,_,e7⟩:=dd';have dn:Dtt a (storedH xs k b uz) g:=⟨d1,by have:=mR (xs:=xs) (k:=k) (b:=b) (u:=uz);omega,X.prog,X.w,o',es',ep',e3,e4,e5,e6,e7⟩;obtain⟨us',f1,f2,f3,f4⟩:=sB hb rz sz h2 h3 h4 h5;obtain⟨w2,g2⟩:=w.objSet (o':=.dtt (oN l k z)) (u:=.ext (Dtt a (storedH xs k b uz))) hn rfl ha λg=>⟨storedH xs k b uz,us',aZ,f1,λx hx=>g.tup _ _ (f2 x hx),f3.mono g,f4⟩;exact c _ _ (kG I (by rw[h1];exact True.intro) hs ⟨o',e3⟩ (vK dn)) g2 w2
theorem sK{prog:Program}{w:World}(d:Addr)(hd:(d==sysModules)=false):MeetsIn prog w (Builtin.«dict.items» ⟨[.ref d],[]⟩) (λ_ R s=>s.TypeIs (.ref d) "dict"/\
 R (.ok (.ret (.ref s.heap.objs.size))) {s with heap:=s.heap.push {cls:=.type "dict_items",data:=.fields #[.ref d]}}):=
 .of_wp λA R s ⟨ht,h⟩=>by
  unfold Builtin.«dict.items»;refine Za ?_;unfold Builtin.Dict.noArgs;refine Za (wpAny_notOrdered_dict ht ?_);show wpAny _ _ (pure d) _ _ s;refine Zb ?_;show wpAny _ _ (Builtin.Dict.showsAll d>>=_) _ _ s;unfold Builtin.Dict.showsAll;rw[if_neg (by rw[hd];exact Bool.false_ne_true)];exact Za (Zb (Za (wpAny_newObj_type (Zb ⟨_,rfl,h⟩))))
noncomputable def Itd(d:Addr)(o:Obj)(ks:List (Addr×V)):It:=
 ⟨λi H=>H d=some (.frz o (.own d))/\i<ks.length,λi H x H'=>∃p k v,H p=none/\ks[i]? =some (k,v)/\x=.ref p/\H'=bS H p (.tup [.ref k,v]),λi H=>H d=some (.frz o (.own d))/\ks.length<=i⟩
theorem uA{P:Program}{w:World}{K:W.Frag}{elts:List Expr}{x1:Nat}{pos:Pos}{d it:Addr}{o:Obj}{es:Array DictEntry}{ep:Nat}{ks:List (Addr×V)}(ho:o.data=.dict es ep)(hn:es.size=ks.length)(hk:∀(i:Nat) k v,ks[i]? =some (k,v)->∃en,es[i]? =some en/\en.key=.ref k/\RelV v en.val):
 Turn P w K (.Tuple elts x1 pos) (Itd d o ks) [it] it (λi h=>∃q1 q2,IsItemIter h it d i ks.length ep q1 q2) where
 mem:=by simp
 obj:=λi h st b hb=>by
  have e:b=it:=by simpa using hb
  subst e;obtain⟨q1,q2,e⟩:=st;exact⟨_,e,λv z=>nomatch z⟩
 keep:=λi h h' ⟨q1,q2,e⟩ k=>⟨q1,q2,k it (by simp) _ e⟩
 item:=by
  intro X hP hw hK hc i pins s σ H E I hf st hg;subst hP hw hK;obtain⟨q1,q2,st⟩:=st;obtain⟨hd,hi⟩:=hg;obtain⟨f0,f1,f2,f3,f4,f5⟩:=hf it (by simp);obtain⟨⟨k,v⟩,hkv⟩:∃p,ks[i]? =some p:=⟨_,Zd hi⟩;obtain⟨en,e1,e2,e3⟩:=hk i k v hkv;have od:s.heap.get? d=some o:=(show ObjOk X.prog X.w H s.heap d (.frz o (.own d)) from I.hok d _ hd).1;have il:it<s.heap.objs.size:=Heap.lt_size st;refine CH st od ho hn e1 λg h1 h2 h3 h4=>⟨.ref s.heap.objs.size,rfl,?_⟩;refine wpAny_letOwnedTupleGo_items h1 λg2 h5 h6=>?_;have hp:H s.heap.objs.size=none:=I.hok.fresh (Zn _)
  have I1:Inv X pins σ (bS H s.heap.objs.size (.tup [.ref k,v])) {s with heap:=s.heap.push {cls:=.type "tuple",data:=.seq #[en.key,en.val]}}:=
   I.laid (t':=s.toks) (o:=.tup [.ref k,v]) (λb u q=>Zf _ q) (Zn _) ⟨by show 2<=sizeLine;decide,[en.key,en.val],.cons (by rw[e2];rfl) (.cons e3 .nil),IsTup.new _ _⟩
  have ne:it≠s.heap.objs.size:=Nat.ne_of_lt il
  have I2:Inv X pins σ (bS H s.heap.objs.size (.tup [.ref k,v])) {s with heap:=g2}:=L2.Inv.turned (s:={s with heap:=s.heap.push {cls:=.type "tuple",data:=.seq #[en.key,en.val]}}) (h':=g2) (t':=s.toks) (it:=it) I1 (λb u hb q=>by
   have q0:(s.heap.push {cls:=.type "tuple",data:=.seq #[en.key,en.val]}).get? b=some u:=q
   by_cases z:b=s.heap.objs.size
   ·subst z;have q':some {cls:=.type "tuple",data:=.seq #[en.key,en.val]}=some u:=(Heap.get?_push_size s.heap rfl).symm.trans q0;rw[<- q'];exact h6.extBut _ _ hb h2
   ·rw[Heap.get?_push_ne _ _ _ z] at q0;exact h6.extBut b u hb (h4 b u hb q0)) (by rw[aM ne];exact f0) f1 f3 f4 f5
  exact⟨.ref s.heap.objs.size,_,I2,rfl,⟨_,k,v,hp,hkv,rfl,rfl⟩,⟨_,_,h5⟩,λb hb=>by
   have e:b=it:=by simpa using hb
   subst e;rw[aM ne];exact f0⟩
 done:=by
  intro X hP hw hK hc i pins s σ H E I hf st hg;subst hP hw hK;obtain⟨q1,q2,st⟩:=st;obtain⟨hd,hi⟩:=hg;obtain⟨f0,f1,f2,f3,f4,f5⟩:=hf it (by simp);have od:s.heap.get? d=some o:=(show ObjOk X.prog X.w H s.heap d (.frz o (.own d)) from I.hok d _ hd).1;exact HM (I.ok.hd hc) st od ho hn hi λg eb=>⟨rfl,I.turned (t':=s.toks) (λb o hb e=>eb b o hb e) f0 f1 f3 f4 f5⟩
 self:=λ_ _ _ _ _ ⟨q1,q2,st⟩ h=>W.kcp_self st h
end
theorem IY(t:Ty):bootBuiltins (Str.ofString t.nm)=some (.type t.nm):=by cases t<;>decide+kernel
theorem AE(t:Ty):(Str.ofString t.nm==("__debug__":Str))=false/\Str.ofString t.nm≠"__name__":=by cases t<;>decide+kernel
theorem oG(f:Blt):bootBuiltins f.nm=some f.val:=by cases f<;>decide+kernel
theorem JA(f:Blt):(f.nm==("__debug__":Str))=false/\f.nm≠"__name__":=by cases f<;>decide+kernel
section
variable {X:Cx}{N:List Str}{sc:Scope}{G:Gs}{ca:Nat->Addr}{cl:Cl}
theorem TDE.one{K:W.Frag}{fa f:Ev->Hh->Rs D}{k:Ev->D->Hh->Rs D}{s:Sg}{H:Hp}{Q R:VK}(hf:∀r h,f r h=(fa r h).bind (k r))(q:TDE K f s H Q)
 (c:∀(m m2:List Addr)(r:Ev)(d:D)(h2 h':Hh)(H2:Hp)(dx:D)(x:V),RSt K m H r s->Gr K m H m2 H2->Wd K m2 h2 H2->RSt K m2 H2 r s->RD K m2 H2 dx x->k r dx h2=.ok d h'->(∀m' v H',Gr K m2 H2 m' H'->Wd K m' h' H'->RD K m' H' d v->Q v H')->R x H2):TDE K fa s H R:=by
 obtain⟨m,r,h,d,h',w,st,e,cc⟩:=q;rw[hf] at e;obtain⟨dx,h1,e1,e⟩:=Rs.bind_ok e;exact⟨m,r,h,dx,h1,w,st,e1,λm1 x H1 g1 w1 rx=>c m m1 r d h1 h' H1 dx x st g1 w1 (st.mono g1) rx e λm' v H' g=>cc m' v H' (g1.trans g)⟩
end
def SE(N:List Str)(sc:Scope)(G:Gs)(c:E)(e:Expr):Prop:=∀{X:Cx}{ca:Nat->Addr}{cl:Cl},XOk X N sc->GOk X G ca cl->PE X e (TDE X.K (ev G cl c))/\PT X e (WI X.K (ev G cl c))
def JJ(N:List Str)(sc:Scope)(G:Gs)(l:Es)(es:List Expr):Prop:=es.all dJ=true/\∀{X:Cx}{ca:Nat->Addr}{cl:Cl},XOk X N sc->GOk X G ca cl->PA X es (TDA X.K (cW G cl l))
def RQ(N:List Str)(sc:Scope)(G:Gs)(l:Es)(es:List Expr):Prop:=∀{X:Cx}{ca:Nat->Addr}{cl:Cl},XOk X N sc->GOk X G ca cl->WL X es (RP X.K (kB G cl l))
theorem gK{X:Cx}(pos:Pos):∀{es:List Expr},es.all dJ=true->(backTo pos (starEach es X.env)).any (·.1)=false
 | [],_=>rfl
 |e::es,h=>by
  rw[List.all_cons,Bool.and_eq_true] at h;rw[bM es h.1];have ih:=gK (X:=X) pos (es:=es) h.2;exact(show(false||(backTo pos (starEach es X.env)).any (·.1))=false by rw[ih];rfl)
section
variable {N:List Str}{sc:Scope}{G:Gs}
theorem PU{i:Nat}{x:Str}{pos:Pos}(h1:N[i]? =some x)(h:(FD sc x&&nB x)=true):SE N sc G (.var i) (.Name x pos):=λ{X ca cl} xo go=>by
 rw[Bool.and_eq_true] at h;obtain⟨h2,h3⟩:=h;obtain⟨d1,d2,d3⟩:=jT h3
 have p:PE X (.Name x pos) (TDE X.K (ev G cl (.var i))):=(pv i (by rw[xo.n];exact h1) (by rw[xo.s];exact FC h2) d1 d2).wk λs H Q ⟨m,r,hh,d,h',w,st,e1,c⟩=>by
  simp only[ev] at e1;split at e1
  ·rename_i d' ed;cases e1;obtain⟨v,hv,rv⟩:=st.2 i _ ed;exact⟨v,hv,c m v H Gr.refl w rv⟩
  ·cases e1
 exact⟨p,jM p λ_=>rfl⟩
theorem aA{i:Int}{j:Nat}{pos:Pos}:SE N sc G (.int i) (.Constant (.int i) j pos):=λ{X ca cl} xo go=>by
 have p:PE X (.Constant (.int i) j pos) (TDE X.K (ev G cl (.int i))):=(MW).wk λs H Q ⟨m,r,hh,d,h',w,st,e1,c⟩=>by
  cases e1;exact c m _ H Gr.refl w (.int i)
 exact⟨p,jM p λ_=>rfl⟩
theorem tJ{b:Bool}{j:Nat}{pos:Pos}:SE N sc G (.bl b) (.Constant (.bool b) j pos):=λ{X ca cl} xo go=>by
 have p:PE X (.Constant (.bool b) j pos) (TDE X.K (ev G cl (.bl b))):=(TH).wk λs H Q ⟨m,r,hh,d,h',w,st,e1,c⟩=>by
  cases e1;exact c m _ H Gr.refl w (.bl b)
 exact⟨p,jM p λ_=>rfl⟩
theorem gI{j:Nat}{pos:Pos}:SE N sc G .non (.Constant .none j pos):=λ{X ca cl} xo go=>by
 have p:PE X (.Constant .none j pos) (TDE X.K (ev G cl .non)):=(MT).wk λs H Q ⟨m,r,hh,d,h',w,st,e1,c⟩=>by
  cases e1;exact c m _ H Gr.refl w .non
 exact⟨p,jM p λ_=>rfl⟩
theorem dP{x:Str}{j:Nat}{pos:Pos}:SE N sc G (.str x) (.Constant (.str x) j pos):=λ{X ca cl} xo go=>by
 have p:PE X (.Constant (.str x) j pos) (TDE X.K (ev G cl (.str x))):=(BQ).wk λs H Q ⟨m,r,hh,d,h',w,st,e1,c⟩=>by
  cases e1;exact c m _ H Gr.refl w (.str x)
 exact⟨p,jM p λ_=>rfl⟩
theorem dF{g:Nat}{x:Str}{d0:D}{pos:Pos}(q:G.csts[g]? =some (x,d0))(h:(wQ sc x&&nB x)=true):SE N sc G (.gc g) (.Name x pos):=λ{X ca cl} xo go=>by
 rw[Bool.and_eq_true] at h;obtain⟨h2,h3⟩:=h;obtain⟨d1,d2,d3⟩:=jT h3;obtain⟨v,u,hm,rv,rd⟩:=go.cst g x d0 q
 have p:PE X (.Name x pos) (TDE X.K (ev G cl (.gc g))):=(GJ (dW xo h2) hm rv d1).wk λs H Q ⟨m,r,hh,d,h',w,st,e1,c⟩=>by
  simp only[ev,q] at e1;cases e1;exact c m _ H Gr.refl w (rd m H)
 exact⟨p,jM p λ_=>rfl⟩
theorem eY{t:Ty}{pos:Pos}(hg:wQ sc (Str.ofString t.nm)=true):SE N sc G (.ty t) (.Name (Str.ofString t.nm) pos):=λ{X ca cl} xo go=>by
 have p:PE X (.Name (Str.ofString t.nm) pos) (TDE X.K (ev G cl (.ty t))):=(GM (v:=.ty t.nm) (dW xo hg) (go.ty t) (IY t) rfl (AE t).2 (AE t).1).wk λs H Q ⟨m,r,hh,d,h',w,st,e1,c⟩=>by
  cases e1;exact c m _ H Gr.refl w (.ty _)
 exact⟨p,jM p λ_=>rfl⟩
theorem aC{op:Bop}{a b:E}{x y:Expr}{pos:Pos}(h_a:SE N sc G a x)(h_b:SE N sc G b y):SE N sc G (.bin op a b) (.BinOp x op.op y pos):=λ{X ca cl} xo go=>by
 have p:PE X (.BinOp x op.op y pos) (TDE X.K (ev G cl (.bin op a b))):=(TD (TQ op) (h_a xo go).1 (h_b xo go).1).wk (TDE.op λr h=>by simp only[ev]);exact⟨p,jM p λ_=>rfl⟩
theorem dQ{a:E}{x:Expr}{pos:Pos}(h_a:SE N sc G a x):SE N sc G (.neg a) (.UnaryOp .USub x pos):=λ{X ca cl} xo go=>by
 have p:PE X (.UnaryOp .USub x pos) (TDE X.K (ev G cl (.neg a))):=(TC LT (h_a xo go).1).wk λs H Q q=>by
  refine TDE.one (λ_ _=>rfl) q λm m2 r d h2 h' H2 dx y st g w2 st2 rx e c=>?_;cases rx<;>first |(cases e;done)|skip
  cases e;exact⟨_,rfl,c m2 _ H2 Gr.refl w2 (.int _)⟩
 exact⟨p,jM p λ_=>rfl⟩
theorem aI{op:Cop}{a b:E}{x y:Expr}{pos:Pos}(hm:behindInMarks op.op y=false)(h_a:SE N sc G a x)(h_b:SE N sc G b y):SE N sc G (.cmp op a b) (.Compare x [op.op] [y] pos):=λ{X ca cl} xo go=>by
 refine⟨(GK (pE xo.room op) ((h_a xo go).1) ((h_b xo go).1) hm).wk (TDE.op λr h=>by simp only[ev]),?_⟩;refine(FZ (pE xo.room op) ((h_a xo go).1) ((h_b xo go).1) hm).wk λs H Q ⟨m,r,hh,d,h',k,w,st,e1,ek,c⟩=>?_;refine TDE.op (f:=ev G cl (.cmp op a b)) (k:=cH op) (λr h=>by simp only[ev]) s H _ ⟨m,r,hh,d,h',w,st,e1,λm' v H' g w' rd=>?_⟩;have e1':=e1;simp only[ev] at e1';obtain⟨_,_,_,e1'⟩:=Rs.bind_ok e1';obtain⟨_,_,_,e1'⟩:=Rs.bind_ok e1';obtain⟨k',rfl⟩:=mF e1';cases rd;have ek':k'=k:=Zg ek;subst ek';exact⟨k',rfl,c m' H' g w'⟩
theorem cP{a b:E}{x:Expr}{v:Expr}{vs:List Expr}{pos:Pos}(h_a:SE N sc G a x)(h_b:SE N sc G b (.BoolOp .And (v::vs) pos)):SE N sc G (.and a b) (.BoolOp .And (x::v::vs) pos):=λ{X ca cl} xo go=>by
 have hb:=h_b xo go;refine⟨(GN ((h_a xo go).1) hb.1).wk λs H Q q=>?_,(MH ((h_a xo go).2) (KA hb.2)).pt.wk λs H Q q=>?_⟩
 ·refine TDE.one (λ_ _=>rfl) q λm m2 r d h2 h' H2 dx v st g w2 st2 rx e c=>?_;split at e
  ·rename_i et;exact⟨true,kL w2 rx et,vA (⟨m2,r,h2,d,h',w2,st2,e,c⟩)⟩
  ·rename_i et;cases e;exact⟨false,kL w2 rx et,vB (c m2 v H2 Gr.refl w2 rx)⟩
  ·cases e
 ·obtain⟨m,r,hh,d,h',k,w,st,e1,ek,c⟩:=q;simp only[ev] at e1;obtain⟨dx,h1,e0,e1⟩:=Rs.bind_ok e1;split at e1
  ·rename_i et;exact⟨m,r,hh,dx,h1,true,w,st,e0,et,λm' H' g w'=>vA (⟨m',r,h1,d,h',k,w',st.mono g,e1,ek,λm2 H2 g2=>c m2 H2 (g.trans g2)⟩)⟩
  ·rename_i et;cases e1;rw[et] at ek;cases ek;exact⟨m,r,hh,_,_,false,w,st,e0,et,λm' H' g w'=>vB (c m' H' g w')⟩
  ·cases e1
theorem bD{a b:E}{x y:Expr}{pos:Pos}(h_a:SE N sc G a x)(h_b:SE N sc G b y):SE N sc G (.and a b) (.BoolOp .And [x,y] pos):=
 cP h_a λ{X ca cl} xo go=>⟨BR (h_b xo go).1,(FX (h_b xo go).2).pt⟩
theorem PZ{a b:E}{x:Expr}{v:Expr}{vs:List Expr}{pos:Pos}(h_a:SE N sc G a x)(h_b:SE N sc G b (.BoolOp .Or (v::vs) pos)):SE N sc G (.or a b) (.BoolOp .Or (x::v::vs) pos):=λ{X ca cl} xo go=>by
 have hb:=h_b xo go;refine⟨(MS ((h_a xo go).1) hb.1).wk λs H Q q=>?_,(SY ((h_a xo go).2) (KA hb.2)).pt.wk λs H Q q=>?_⟩
 ·refine TDE.one (λ_ _=>rfl) q λm m2 r d h2 h' H2 dx v st g w2 st2 rx e c=>?_;split at e
  ·rename_i et;cases e;exact⟨true,kL w2 rx et,vA (c m2 v H2 Gr.refl w2 rx)⟩
  ·rename_i et;exact⟨false,kL w2 rx et,vB (⟨m2,r,h2,d,h',w2,st2,e,c⟩)⟩
  ·cases e
 ·obtain⟨m,r,hh,d,h',k,w,st,e1,ek,c⟩:=q;simp only[ev] at e1;obtain⟨dx,h1,e0,e1⟩:=Rs.bind_ok e1;split at e1
  ·rename_i et;cases e1;rw[et] at ek;cases ek;exact⟨m,r,hh,_,_,true,w,st,e0,et,λm' H' g w'=>vA (c m' H' g w')⟩
  ·rename_i et;exact⟨m,r,hh,dx,h1,false,w,st,e0,et,λm' H' g w'=>vB (⟨m',r,h1,d,h',k,w',st.mono g,e1,ek,λm2 H2 g2=>c m2 H2 (g.trans g2)⟩)⟩
  ·cases e1
theorem KZ{a b:E}{x y:Expr}{pos:Pos}(h_a:SE N sc G a x)(h_b:SE N sc G b y):SE N sc G (.or a b) (.BoolOp .Or [x,y] pos):=
 PZ h_a λ{X ca cl} xo go=>⟨BR (h_b xo go).1,(MG (h_b xo go).2).pt⟩
theorem jG{a:E}{x:Expr}{pos:Pos}(h_a:SE N sc G a x):SE N sc G (.not a) (.UnaryOp .Not x pos):=λ{X ca cl} xo go=>by
 refine⟨(GG ((h_a xo go).1)).wk λs H Q q=>?_,(MI ((h_a xo go).2)).wk λs H Q q=>?_⟩
 ·refine TDE.one (λ_ _=>rfl) q λm m2 r d h2 h' H2 dx v st g w2 st2 rx e c=>?_;split at e
  ·rename_i k et;cases e;exact⟨k,kL w2 rx et,c m2 _ H2 Gr.refl w2 (.bl _)⟩
  ·cases e
 ·obtain⟨m,r,hh,d,h',k,w,st,e1,ek,c⟩:=q;simp only[ev] at e1;obtain⟨dx,h1,e0,e1⟩:=Rs.bind_ok e1;split at e1
  ·rename_i k' et;cases e1;have:(!k')=k:=Zg ek;subst this;exact⟨m,r,hh,dx,h',k',w,st,e0,et,c⟩
  ·cases e1
theorem qZ{cc a b:E}{z x y:Expr}{pos:Pos}(h_cc:SE N sc G cc z)(h_a:SE N sc G a x)(h_b:SE N sc G b y):SE N sc G (.ite cc a b) (.IfExp z x y pos):=λ{X ca cl} xo go=>by
 refine⟨(BT (h_cc xo go).2 (h_a xo go).1 (h_b xo go).1).wk λs H Q ⟨m,r,hh,d,h',w,st,e1,c⟩=>?_,?_⟩
 ·simp only[ev] at e1;obtain⟨dx,h1,e0,e1⟩:=Rs.bind_ok e1;split at e1
  ·rename_i et;exact⟨m,r,hh,dx,h1,true,w,st,e0,et,λm' H' g w'=>vA (⟨m',r,h1,d,h',w',st.mono g,e1,λm2 v H2 g2=>c m2 v H2 (g.trans g2)⟩)⟩
  ·rename_i et;exact⟨m,r,hh,dx,h1,false,w,st,e0,et,λm' H' g w'=>vB (⟨m',r,h1,d,h',w',st.mono g,e1,λm2 v H2 g2=>c m2 v H2 (g.trans g2)⟩)⟩
  ·cases e1
 ·intro pins s σ H Q I ⟨m,r,hh,d,h',k,w,st,e1,ek,c⟩;simp only[ev] at e1;obtain⟨dx,h1,e0,e1⟩:=Rs.bind_ok e1;have hz':=(h_cc xo go).2;have hx':=(h_a xo go).2;have hy':=(h_b xo go).2;show wpAny _ _ (do if <- isTrue z X.env (eval z X.env) then isTrue x X.env (eval x X.env) else isTrue y X.env (eval y X.env)) _ _ _;split at e1
  ·rename_i et;refine Za (bP (hz' pins s σ H (λkb H1=>kb=true/\WI X.K (ev G cl a) σ H1 Q) I ⟨m,r,hh,dx,h1,true,w,st,e0,et,λm' H' g w'=>⟨rfl,m',r,h1,d,h',k,w',st.mono g,e1,ek,λm2 H2 g2=>c m2 H2 (g.trans g2)⟩⟩) λkb s1 ⟨H1,I1,eb,q1⟩=>?_);subst eb;exact hx' pins s1 σ H1 Q I1 q1
  ·rename_i et;refine Za (bP (hz' pins s σ H (λkb H1=>kb=false/\WI X.K (ev G cl b) σ H1 Q) I ⟨m,r,hh,dx,h1,false,w,st,e0,et,λm' H' g w'=>⟨rfl,m',r,h1,d,h',k,w',st.mono g,e1,ek,λm2 H2 g2=>c m2 H2 (g.trans g2)⟩⟩) λkb s1 ⟨H1,I1,eb,q1⟩=>?_);subst eb;exact hy' pins s1 σ H1 Q I1 q1
  ·cases e1
theorem aH{a b:E}{x y:Expr}{pos:Pos}(hs:xU y)(h_a:SE N sc G a x)(h_b:SE N sc G b y):SE N sc G (.ix a b) (.Subscript x y pos):=λ{X ca cl} xo go=>by
 have p:PE X (.Subscript x y pos) (TDE X.K (ev G cl (.ix a b))):=(TF (UF xo.room) (h_a xo go).1 (h_b xo go).1 hs).wk (TDE.op λr h=>by simp only[ev]);exact⟨p,jM p λ_=>rfl⟩
theorem aX{l:Es}{es:List Expr}{k:Nat}{pos:Pos}(h_l:JJ N sc G l es):SE N sc G (.tup l) (.Tuple es k pos):=λ{X ca cl} xo go=>by
 have p:PE X (.Tuple es k pos) (TDE X.K (ev G cl (.tup l))):=(MQ (h_l.2 xo go)).wk λs H Q ⟨m,r,hh,d,h',w,st,e1,c⟩=>by
  simp only[ev] at e1;obtain⟨ds,h1,e0,e1⟩:=Rs.bind_ok e1;split at e1
  ·rename_i hl;cases e1;refine⟨m,r,hh,ds,_,w,st,e0,λm' vs H' g w' rd=>⟨?_,λq hq=>?_⟩⟩
   ·rw[<- rd.length];exact Nat.le_of_lt (pC hl)
   ·exact c m' _ _ (g.trans (Gr.tupNew hq)) (w'.keepNew hq) (.tup (.of aZ) (rd.mono (Gr.tupNew hq)))
  ·cases e1
 exact⟨p,jM p λ_=>rfl⟩
theorem cK{l:Es}{es:List Expr}{pos:Pos}(h_l:JJ N sc G l es):SE N sc G (.lst l) (.List es pos):=λ{X ca cl} xo go=>by
 have p:PE X (.List es pos) (TDE X.K (ev G cl (.lst l))):=(MV (h_l.2 xo go)).wk λs H Q ⟨m,r,hh,d,h',w,st,e1,c⟩=>by
  simp only[ev] at e1;obtain⟨ds,h1,e0,e1⟩:=Rs.bind_ok e1;split at e1
  ·rename_i hl;cases e1;refine⟨m,r,hh,ds,_,w,st,e0,λm' vs H' g w' rd=>⟨?_,λq hq=>?_⟩⟩
   ·rw[<- rd.length];exact Nat.le_of_lt (pC hl)
   ·obtain⟨w2,g2⟩:=w'.lstNew hq rd;exact c _ _ _ (g.trans g2) w2 (.ref (by rw[<- w'.len];simp))
  ·cases e1
 exact⟨p,jM p λ_=>rfl⟩
theorem aP{f:Nat}{l:Es}{x:Str}{y:Expr}{ys:List Expr}{np pos:Pos}(h1:G.fns[f]? =some x)(h:(wQ sc x&&nB x)=true)(h_l:JJ N sc G l (y::ys)):SE N sc G (.call f l) (.Call (.Name x np) (y::ys) [] pos):=λ{X ca cl} xo go=>by
 rw[Bool.and_eq_true] at h;obtain⟨h2,h3⟩:=h;obtain⟨d1,d2,d3⟩:=jT h3;obtain⟨fa,fd,ps,k,F,hr,hm,hk,hb,hlen⟩:=go.fn f x h1;have hns:=h_l.1;rw[List.all_cons,Bool.and_eq_true] at hns
 have p:PE X (.Call (.Name x np) (y::ys) [] pos) (TDE X.K (ev G cl (.call f l))):=(GL F hr (dW xo h2) hm hk hb .nil wI (h_l.2 xo go) d1 (bM ys hns.1) (gK pos hns.2)).wk λs H Q ⟨m,r,hh,d,h',w,st,e1,c⟩=>by
  simp only[ev] at e1;obtain⟨ds,h1,e0,e1⟩:=Rs.bind_ok e1;have e1:=Rs.nx_ok e1;refine⟨m,r,hh,ds,h1,w,st,e0,λm' vs H' g w' rd=>?_⟩;show AQ X.K ca (cl f) ps.length (vs++ []) H' Q E0;rw[Zm];exact⟨by rw[<- rd.length];exact hlen _ _ (by rw[e1];exact λz=>nomatch z),m',h1,ds,w',rd,by rw[e1];exact λm2 v H2 g2=>c m2 v H2 (g.trans g2)⟩
 exact⟨p,jM p λ_=>rfl⟩
theorem bH{f:Blt}{l:Es}{y:Expr}{ys:List Expr}{np pos:Pos}(h2:wQ sc f.nm=true)(h_l:JJ N sc G l (y::ys)):SE N sc G (.blt f l) (.Call (.Name f.nm np) (y::ys) [] pos):=λ{X ca cl} xo go=>by
 obtain⟨d1,d3⟩:=JA f;have hns:=h_l.1;rw[List.all_cons,Bool.and_eq_true] at hns
 have im:∀s H Q,TDE X.K (ev G cl (.blt f l)) s H Q->YH (RC X.K (hJ f)) (TDA X.K (cW G cl l)) s H Q:=λs H Q ⟨m,r,hh,d,h',w,st,e1,c⟩=>by
  simp only[ev] at e1;obtain⟨ds,h1,e0,e1⟩:=Rs.bind_ok e1;exact⟨m,r,hh,ds,h1,w,st,e0,λm' vs H' g w' rd=>⟨m',h1,ds,d,h',w',rd,e1,λm2 v H2 g2=>c m2 v H2 (g.trans g2)⟩⟩
 have p:PE X (.Call (.Name f.nm np) (y::ys) [] pos) (TDE X.K (ev G cl (.blt f l))):=by
  have cb:=IU (X:=X) xo.calm xo.room f;have bb:=oG f;have key:∀v,f.val=v->(∃i,v=.builtin i)\/(∃T,v=.type T):=λv e=>by subst e;cases f<;>first |exact .inl ⟨_,rfl⟩|exact .inr ⟨_,rfl⟩
  rcases key _ rfl with ⟨i,ei⟩|⟨T,eT⟩
  ·rw[ei] at cb bb;exact(sF cb (dW xo h2) (go.blt f) bb (h_l.2 xo go) d3 d1 (bM ys hns.1) (gK pos hns.2)).wk im
  ·rw[eT] at cb bb;exact(yI cb (dW xo h2) (go.blt f) bb (h_l.2 xo go) d3 d1 (bM ys hns.1) (gK pos hns.2)).wk im
 exact⟨p,jM p λ_=>rfl⟩
theorem jI{o a:E}{z:Str}{pz ap cp:Pos}{y:Expr}(h2:(ap.endLine==cp.line)=true)(h3:dJ y=true)(h_o:SE N sc G o (.Name z pz))(h_a:SE N sc G a y):SE N sc G (.app o a) (.Call (.Attribute (.Name z pz) "append" ap) [y] [] cp):=λ{X ca cl} xo go=>by
 have ho:=(h_o xo go).1;have hA:PA X [y] (mO (TDE X.K (ev G cl a)) rT):=gE ((h_a xo go).1) iU (bM [] h3)
 have p:PE X (.Call (.Attribute (.Name z pz) "append" ap) [y] [] cp) (TDE X.K (ev G cl (.app o a))):=(KB PySem.F.plainAttrs_list PySem.F.slot_list_append PySem.F.type_list_append kR ho hA rfl (by rw[bM [] h3];rfl) h2 (bM [] h3) rfl).wk λs H Q q=>by
  refine TDE.one (λ_ _=>rfl) q λm m2 r d h2 h' H2 dx v st g w2 st2 rx e c=>?_;split at e
  ·rename_i hl;obtain⟨dy,h3,e3,e⟩:=Rs.bind_ok e;cases rx<;>first |(cases e;done)|skip
   case ref n a' ha eb=>
    simp only[jK] at e;split at e<;>first |(cases e;done)|skip
    rename_i l el;split at e<;>first |(cases e;done)|skip
    rename_i hz;cases e;have hl':∃l0,aJ h2 n=some l0:=Option.isSome_iff_exists.mp hl;obtain⟨l0,hl'⟩:=hl';obtain⟨a'',vs0,ha'',hq,_⟩:=w2.lst hl';rw[ha] at ha'';cases ha'';refine⟨.inl ⟨rfl,vs0,hq⟩,m2,r,h2,dy,h3,w2,st2,e3,λm3 y' H3 g3 w3 ry=>?_⟩;have ha3:=g3.pre _ _ ha;obtain⟨vs,hv,rv⟩:∃vs,H3 a'=some (.lst vs)/\RDs X.K m3 H3 l vs:=w3.ob n _ a' el ha3;obtain⟨_,w4,g4⟩:=w3.lstSet el ha3 (rv.append (.cons ry .nil));exact⟨a',vs,y',rfl,rfl,hv,by rw[<- rv.length];exact Nat.lt_of_lt_of_le hz (by decide),c m3 _ _ (g3.trans g4) w4 .non⟩
  ·cases e
 exact⟨p,jM p λ_=>rfl⟩
theorem DZ{pos:Pos}:SE N sc G .dnw (.Dict [] [] pos):=λ{X ca cl} xo go=>by
 have p:PE X (.Dict [] [] pos) (TDE X.K (ev G cl .dnw)):=(BU (X:=X) (pos:=pos)).wk λs H Q ⟨m,r,hh,d,h',w,st,e1,c⟩=>λp hp=>by
  rw[ev] at e1;cases e1;obtain⟨w2,g2⟩:=w.objNew (o:=.dct []) (u:=.dK []) hp λ_=>⟨[],aZ,rfl,.nil⟩;exact c _ _ _ g2 w2 (.ref (by rw[<- w.len];simp))
 exact⟨p,jM p λ_=>rfl⟩
theorem tK{α:Type}(l:List α)(i:Int)(h:0<=i):(l.drop (HT.sIx l.length 0 none)).take (HT.sIx l.length l.length (some i)-HT.sIx l.length 0 none)=l.take i.toNat:=by
 have:HT.sIx l.length l.length (some i)=min i.toNat l.length:=by
  show(if i<0 then _ else _)=_
  rw[if_neg (by omega)]
 rw[HT.sIx_none,this,List.drop_zero,Nat.sub_zero]
 by_cases z:i.toNat<=l.length
 ·rw[Nat.min_eq_left z]
 ·rw[Nat.min_eq_right (by omega),List.take_length,List.take_of_length_le (by omega)]
theorem EA{α:Type}(l:List α)(i:Int)(h:0<=i):(l.drop (HT.sIx l.length 0 (some i))).take (HT.sIx l.length l.length none-HT.sIx l.length 0 (some i))=l.drop i.toNat:=by
 have:HT.sIx l.length 0 (some i)=min i.toNat l.length:=by
  show(if i<0 then _ else _)=_
  rw[if_neg (by omega)]
 rw[HT.sIx_none,this]
 by_cases z:i.toNat<=l.length
 ·rw[Nat.min_eq_left z,List.take_of_length_le (by rw[List.length_drop];omega)]
 ·rw[Nat.min_eq_right (by omega),List.drop_length,List.drop_of_length_le (by omega),List.take_nil]
theorem EB{α:Type}(l:List α)(i:Int)(h:¬0<=i):(l.drop (HT.sIx l.length 0 (some i))).take (HT.sIx l.length l.length none-HT.sIx l.length 0 (some i))=l.drop (l.length-i.natAbs):=by
 have:HT.sIx l.length 0 (some i)=l.length-i.natAbs:=by
  show(if i<0 then(i+(l.length:Int)).toNat else _)=_
  rw[if_pos (by omega)];omega
 rw[HT.sIx_none,this,List.take_of_length_le (by rw[List.length_drop];omega)]
theorem RDs.take{K:W.Frag}{m:List Addr}{H:Hp}:∀{ds:List D}{vs:List V}(n:Nat),RDs K m H ds vs->RDs K m H (ds.take n) (vs.take n)
 |_,_,0,_=>by rw[List.take_zero,List.take_zero];exact .nil
 |_,_,n+1,.nil=>by rw[List.take_nil,List.take_nil];exact .nil
 |_,_,n+1,.cons h t=>by rw[List.take_succ_cons,List.take_succ_cons];exact .cons h (RDs.take n t)
theorem RDs.drop{K:W.Frag}{m:List Addr}{H:Hp}:∀{ds:List D}{vs:List V}(n:Nat),RDs K m H ds vs->RDs K m H (ds.drop n) (vs.drop n)
 |_,_,0,q=>q
 |_,_,n+1,.nil=>.nil
 |_,_,n+1,.cons h t=>RDs.drop n t
theorem DW{a b:E}{x y:Expr}{p2 pos:Pos}(h_a:SE N sc G a x)(h_b:SE N sc G b y):SE N sc G (.slU a b) (.Subscript x (.Slice none (some y) none p2) pos):=λ{X ca cl} xo go=>by
 have p:PE X (.Subscript x (.Slice none (some y) none p2) pos) (TDE X.K (ev G cl (.slU a b))):=(mY wB (h_a xo go).1 qL (mC (h_b xo go).1)).wk λs H Q q=>by
  obtain⟨m,r,h,d,h',w,st,e,c⟩:=q;rw[ev] at e;refine TDE.two w st e λm2 H2 h2 dx dy x y g w2 rx ry e=>?_;unfold FO at e;split at e
  ·rename_i l i hl el;split at e
   ·rename_i hi;cases e;obtain⟨p,vs,rfl,hq,q⟩:=fM w2 rx hl el;cases ry;refine⟨i,rfl,p,vs,rfl,hq,λk hk=>?_⟩;have e1:oS vs none (some i)=vs.take i.toNat:=tK vs i hi;rw[e1];obtain⟨w3,g3⟩:=w2.lstNew hk (q.take i.toNat);exact c _ _ _ (g.trans g3) w3 (.ref (by rw[<- w2.len];simp))
   ·cases e
  ·cases e
 exact⟨p,jM p λ_=>rfl⟩
theorem DX{a b:E}{x y:Expr}{p2 pos:Pos}(h_a:SE N sc G a x)(h_b:SE N sc G b y):SE N sc G (.slL a b) (.Subscript x (.Slice (some y) none none p2) pos):=λ{X ca cl} xo go=>by
 have p:PE X (.Subscript x (.Slice (some y) none none p2) pos) (TDE X.K (ev G cl (.slL a b))):=(mY wB (h_a xo go).1 (mC (h_b xo go).1) qL).wk λs H Q q=>by
  obtain⟨m,r,h,d,h',w,st,e,c⟩:=q;rw[ev] at e;refine TDE.two w st e λm2 H2 h2 dx dy x y g w2 rx ry e=>?_;unfold yB at e;split at e
  ·rename_i l i hl el;split at e
   ·rename_i hi;cases e;obtain⟨p,vs,rfl,hq,q⟩:=fM w2 rx hl el;cases ry;refine⟨i,rfl,p,vs,rfl,hq,λk hk=>?_⟩;have e1:oS vs (some i) none=vs.drop i.toNat:=EA vs i hi;rw[e1];obtain⟨w3,g3⟩:=w2.lstNew hk (q.drop i.toNat);exact c _ _ _ (g.trans g3) w3 (.ref (by rw[<- w2.len];simp))
   ·rename_i hi;cases e;obtain⟨p,vs,rfl,hq,q⟩:=fM w2 rx hl el;cases ry;refine⟨i,rfl,p,vs,rfl,hq,λk hk=>?_⟩;have e1:oS vs (some i) none=vs.drop (vs.length-i.natAbs):=EB vs i hi;rw[e1];obtain⟨w3,g3⟩:=w2.lstNew hk (q.drop (vs.length-i.natAbs));rw[<- q.length] at*;exact c _ _ _ (g.trans g3) w3 (.ref (by rw[<- w2.len];simp))
  ·cases e
 exact⟨p,jM p λ_=>rfl⟩
theorem rV{K:W.Frag}{m:List Addr}{H:Hp}:∀{ds:List D}{vs:List V}{us:List Value}{xs:List Str},RDs K m H ds vs->Vals vs us->mQ ds=some xs->StrsAre us xs
 |_,_,_,_,.nil,.nil,e=>by cases e;exact .nil
 |_,_,_,_,.cons r q,.cons v t,e=>by
  cases r<;>first |(cases e;done)|skip
  simp only[mQ,Option.map_eq_some_iff] at e;obtain⟨l,e1,rfl⟩:=e;obtain⟨tk,rfl⟩:=v;exact .cons _ tk (rV q t e1)
theorem GZ{X:Cx}(z:Str):MtR X "str.join" (λx vs H Q=>x=.str z/\∃m h y v d h',vs=[v]/\Wd X.K m h H/\RD X.K m H y v/\nM z y h=.ok d h'/\∀m' v H',Gr X.K m H m' H'->Wd X.K m' h' H'->RD X.K m' H' d v->Q v H'):=by
 intro pins s σ H x vs v us Q I rx rv ⟨ex,m,h,y,v',d,h',ev,w,r1,e,c⟩;subst ex ev;obtain⟨t,rfl⟩:=rx;obtain⟨u,rfl,ru⟩:=fP rv;unfold nM at e;split at e
 ·rename_i l hl el;split at e
  ·rename_i xs ex;split at e
   ·rename_i hz;cases e;obtain⟨p,ws,rfl,hq,q⟩:=fM w r1 hl el;cases ru;obtain⟨its,p1,t1,_⟩:=I.list hq;exact join_list t1.isList (by simpa using rV q p1 ex) (by omega) λt' k=>⟨.str _,H,I.tok k,⟨t',rfl⟩,c m _ H .refl w (.str _)⟩
   ·cases e
  ·cases e
 ·cases e
theorem IM{z:Str}{a:E}{j:Nat}{kp ap cp:Pos}{y:Expr}(h2:(ap.endLine==cp.line)=true)(h3:dJ y=true)(h_a:SE N sc G a y):SE N sc G (.join z a) (.Call (.Attribute (.Constant (.str z) j kp) "join" ap) [y] [] cp):=λ{X ca cl} xo go=>by
 have hA:PA X [y] (mO (TDE X.K (ev G cl a)) rT):=gE ((h_a xo go).1) iU (bM [] h3)
 have p:PE X (.Call (.Attribute (.Constant (.str z) j kp) "join" ap) [y] [] cp) (TDE X.K (ev G cl (.join z a))):=(KB PySem.F.plainAttrs_str PySem.F.slot_str_join PySem.F.type_str_join (GZ z) BQ hA rfl (by rw[bM [] h3];rfl) (by simpa using h2) (bM [] h3) rfl).wk λs H Q q=>by
  refine⟨rfl,TDE.one (k:=λ_ x h=>nM z x h) (λr h=>by rw[ev]) q λm m2 r d h2 h' H2 dx v st g w2 st2 rx e c=>?_⟩;exact⟨rfl,m2,h2,dx,v,d,h',rfl,w2,rx,e,c⟩
 exact⟨p,jM p λ_=>rfl⟩
theorem aB:JJ N sc G .nil []:=⟨rfl,λ{X ca cl} xo go=>L2.PA.wk iU λs H Q ⟨m,r,hh,ds,h',w,st,e1,c⟩=>by
 cases e1;exact c m [] H Gr.refl w .nil⟩
theorem mB{c:E}{l:Es}{e:Expr}{es:List Expr}(hn:dJ e=true)(he:SE N sc G c e)(hl:JJ N sc G l es):JJ N sc G (.cons c l) (e::es):=⟨by rw[List.all_cons,hn,hl.1];rfl,λ{X ca cl} xo go=>by
 refine L2.PA.wk (gE (he xo go).1 (hl.2 xo go) (bM es hn)) λs H Q ⟨m,r,hh,ds,h',w,st,e1,cc⟩=>?_;simp only[cW] at e1;obtain⟨d,h1,e0,e1⟩:=Rs.bind_ok e1;obtain⟨ds',h2,e2,e1⟩:=Rs.bind_ok e1;cases e1;exact⟨m,r,hh,d,h1,w,st,e0,λm1 v H1 g1 w1 rv=>⟨m1,r,h1,ds',_,w1,st.mono g1,e2,λm2 vs H2 g2 w2 rvs=>cc m2 _ H2 (g1.trans g2) w2 (.cons (rv.mono g2) rvs)⟩⟩⟩
theorem dI:RQ N sc G .nil []:=λ{X ca cl} xo go=>λpins s σ H Q I ⟨m,r,hh,b,h',w,st,e1,c⟩=>by
 rw[kB] at e1;cases e1;exact Zb ⟨H,I,c m H Gr.refl w⟩
theorem qH{c:E}{l:Es}{e:Expr}{es:List Expr}(he:SE N sc G c e)(hl:RQ N sc G l es):RQ N sc G (.cons c l) (e::es):=λ{X ca cl} xo go=>λpins s σ H Q I ⟨m,r,hh,b,h',w,st,e1,cc⟩=>by
 rw[kB] at e1;obtain⟨d,h1,e0,e1⟩:=Rs.bind_ok e1;refine uC ?_;split at e1
 ·rename_i et;refine bP ((he xo go).2 pins s σ H (λk H1=>k=true/\RP X.K (kB G cl l) σ H1 Q) I ⟨m,r,hh,d,h1,true,w,st,e0,et,λm' H' g w'=>⟨rfl,m',r,h1,b,_,w',st.mono g,e1,λm2 H2 g2=>cc m2 H2 (g.trans g2)⟩⟩) λk s1 ⟨H1,I1,ek,q1⟩=>?_;subst ek;exact hl xo go pins s1 σ H1 Q I1 q1
 ·rename_i et;cases e1;refine bP ((he xo go).2 pins s σ H (λk H1=>k=false/\Q false H1) I ⟨m,r,hh,d,_,false,w,st,e0,et,λm' H' g w'=>⟨rfl,cc m' H' g w'⟩⟩) λk s1 ⟨H1,I1,ek,q1⟩=>?_;subst ek;exact rS ⟨H1,I1,q1⟩
 ·cases e1
structure Blk (N:List Str)(sc:Scope)(N':List Str)(cap:List Nat)(scope:Scope):Prop where
 S:ScOk scope sc
 nd:N'.Nodup
 capL:cap.length<=N'.length
 nN:(N'.drop (N'.length-cap.length)).map some=cap.map (λ(i:Nat)=>N[i]?)
 fr:∀x∈N'.drop (N'.length-cap.length),scope.names.lookup x=some .free
theorem cV{N':List Str}{cap:List Nat}{scope:Scope}(h:(ME scope sc&&nA N'&&LC N N' cap scope)=true):Blk N sc N' cap scope:=by
 simp only[Bool.and_eq_true] at h;obtain⟨⟨h1,h2⟩,h3⟩:=h;unfold LC at h3;simp only[Bool.and_eq_true,decide_eq_true_eq,beq_iff_eq,List.all_eq_true] at h3;exact⟨FR h1,kO h2,h3.1.1,h3.1.2,h3.2⟩
noncomputable def FG:Ck->Expr->Bool
 |.itf,.Tuple _ _ _=>true
 |.itf,_=>false
 |.its,.Tuple _ _ _=>true
 |.its,_=>false
 |_,_=>true
def QV(N:List Str)(sc:Scope)(G:Gs)(k:Ck)(it:Es)(iter:Expr):Prop:=∀{X:Cx}{ca:Nat->Addr}{cl:Cl},XOk X N sc->GOk X G ca cl->∀{t:Tg}{tg:Expr}{ft:Ev->Hh->Rs Bool}{fe:Ev->Hh->Rs D}{N':List Str}{cap:List Nat}(_:FG k tg=true)
    (pins:List (Addr×Obj))(s:Shared)(σ:Sg)(H:Hp)(m:List Addr)(r:Ev)(h:Hh)(xs:List D)(h1 h':Hh),Inv X pins σ H s->Wd X.K m h H->RSt X.K m H r σ->cW G cl it r h=.ok xs h1->fU t ft fe h1.length k xs h1 (bA N' cap r) (h1++ [.lst []])=.ok () h'->
    wpAny (model X.prog X.w) X.A (eval iter X.env) (λv s1=>wpAny (model X.prog X.w) X.A (pyIter v)
     (LJ X pins σ tg λJ H2=>∃(m2:List Addr)(h2:Hh),h2.length=h1.length/\Gr X.K m H m2 H2/\Wd X.K m2 h2 H2/\hV X.K t ft fe h2.length h' J m2 H2 (bA N' cap r) (h2++ [.lst []])) X.xe s1) X.xe s
theorem gS{a:E}{x:Expr}(ha:SE N sc G a x):QV N sc G .sq (.cons a .nil) x:=λ{X ca cl} xo go {t tg ft fe N' cap} tk pins s σ H m r h xs h1 h' I w st e1 e3=>by
 have hp:=(ha xo go).1;rw[cW] at e1;obtain⟨x,h5,ex,e1⟩:=Rs.bind_ok e1;rw[cW] at e1;obtain⟨_,_,e4,e1⟩:=Rs.bind_ok e1;cases e4;cases e1;cases x<;>first |(cases e3;done)|skip
 ·refine BN hp pins s σ H _ I ⟨m,r,h,_,_,w,st,ex,λm' v H' g w' rv=>?_⟩;cases rv with
  |tup hq q=>exact⟨_,rfl,⟨_,hq⟩,m',_,rfl,g,w',xW hq q e3⟩
 ·rename_i n;simp only[fU] at e3;split at e3
  ·rename_i l el;refine qM hp pins s σ H _ I ⟨m,r,h,_,_,w,st,ex,λm' v H' g w' rv=>?_⟩;cases rv with
   |ref ha=>
    obtain⟨a',vs,ha',hq,_⟩:=w'.lst el;rw[ha] at ha';cases ha';exact⟨_,rfl,⟨_,hq⟩,m',_,rfl,g,w',xY ha e3⟩
  ·cases e3
theorem UK{a:E}{y:Expr}{p pos:Pos}(hg:wQ sc "range"=true)(hs:dJ y=true)(ha:SE N sc G a y):QV N sc G .r1 (.cons a .nil) (.Call (.Name "range" p) [y] [] pos):=λ{X ca cl} xo go {t tg ft fe N' cap} tk pins s σ H m r h xs h1 h' I w st e1 e3=>by
 have hA:=mB hs ha (aB (N:=N) (sc:=sc) (G:=G));refine iA (dW xo hg) xo.rng (hA.2 xo go) (bM [] hs) pins s σ H _ I ⟨m,r,h,xs,h1,w,st,e1,λm' vs H' g w' rv=>?_⟩;rcases xs with _|⟨x,_|⟨y,xs⟩⟩<;>first |(cases e3;done)|(cases x<;>(cases e3;done))|skip
 cases x<;>first |(cases e3;done)|skip
 rename_i j;simp only[fU] at e3;split at e3
 ·rename_i ho;cases rv with
  |cons rx rv=>
   cases rx;cases rv;have tt:=xX (K:=X.K) (m2:=m') (H2:=H') (lo:=0) (hi:=j) e3;exact⟨j,rfl,ho.1,ho.2,m',_,rfl,g,w',by simpa using tt⟩
 ·cases e3
theorem vS{K:W.Frag}{m:List Addr}{H:Hp}:∀{ds:List (List Int×D)}{xs:List (List Int×Addr×Value)}{us:List V},ds.map (·.1)=xs.map (·.1)->(∀x∈xs,SqT K H x.2.1 (x.1.map V.int))->RDs K m H (ds.map (·.2)) us->Vals us (xs.map (·.2.2))->
 ∃ks:List (Addr×V),ks.length=xs.length/\ds.length=ks.length/\(∀(i:Nat) k v,ks[i]? =some (k,v)->∃x,xs[i]? =some x/\x.2.1=k/\RelV v x.2.2)/\∀(i:Nat) d,ds[i]? =some d->∃k v,ks[i]? =some (k,v)/\SqT K H k (d.1.map V.int)/\RD K m H d.2 v
 | [],[],us,_,_,r,p=>⟨[],rfl,rfl,λi k v e=>by simp at e,λi d e=>by simp at e⟩
 | [],_::_,us,h,_,_,_=>by cases h
 |_::_,[],us,h,_,_,_=>by cases h
 |d::ds,x::xs,us,h,hk,r,p=>by
  cases r with
  | @cons _ v1 _ _ r1 r=>
    cases p with
    |cons p1 p=>
     obtain⟨h1,h2⟩:=List.cons.inj (show d.1::ds.map (·.1)=x.1::xs.map (·.1) from h);obtain⟨ks,a,a',b,c⟩:=vS h2 (λy hy=>hk y (Zj _ hy)) r p;refine⟨(x.2.1,v1)::ks,by simp[a],by simp[a'],λi k v e=>?_,λi d' e=>?_⟩
     ·cases i with
      |zero=>
       simp at e;obtain⟨rfl,rfl⟩:=e;exact⟨x,rfl,rfl,p1⟩
      |succ i=>exact b i k v (by simpa using e)
     ·cases i with
      |zero=>
       simp at e;subst e;exact⟨x.2.1,v1,rfl,by rw[h1];exact hk x Zl,r1⟩
      |succ i=>exact c i d' (by simpa using e)
theorem EE{t:Tg}{k:Ck}{it cs:Es}{e:E}{N':List Str}{cap:List Nat}{tg iter:Expr}(hi:QV N sc G k it iter)(tk:FG k tg=true){X:Cx}{ca:Nat->Addr}{cl:Cl}(xo:XOk X N sc)(go:GOk X G ca cl)
 (pins:List (Addr×Obj))(s:Shared)(σ:Sg)(H:Hp)(m:List Addr)(r:Ev)(h:Hh)(d:D)(h':Hh)(I:Inv X pins σ H s)(w:Wd X.K m h H)(st:RSt X.K m H r σ)(ev1:ev G cl (.comp t k it cs e N' cap) r h=.ok d h'):
 ∃h1:Hh,d=.ref h1.length/\wpAny (model X.prog X.w) X.A (eval iter X.env) (λv s1=>wpAny (model X.prog X.w) X.A (pyIter v)
  (LJ X pins σ tg λJ H2=>∃(m2:List Addr)(h2:Hh),h2.length=h1.length/\Gr X.K m H m2 H2/\Wd X.K m2 h2 H2/\hV X.K t (kB G cl cs) (ev G cl e) h2.length h' J m2 H2 (bA N' cap r) (h2++ [.lst []])) X.xe s1) X.xe s:=by
 rw[ev] at ev1;obtain⟨xs,hh1,e1,e2⟩:=Rs.bind_ok ev1;obtain⟨_,hh2,e3,e2⟩:=Rs.bind_ok e2;cases e2;exact⟨hh1,rfl,hi xo go tk pins s σ H m r h xs hh1 _ I w st e1 e3⟩
theorem tL{t:Tg}{cs:Es}{e:E}{N':List Str}{cap:List Nat}{elt tg:Expr}{ifs:List Expr}{scope:Scope}(B:Blk N sc N' cap scope)(ht:iR N' scope t tg=true)(hc:RQ N' (cY scope sc) G cs ifs)(he:SE N' (cY scope sc) G e elt){X:Cx}{ca:Nat->Addr}{cl:Cl}(xo:XOk X N sc)(go:GOk X G ca cl)(C:Addr)(s3:Shared)(H3:Hp)(fp:List Addr):
 PG (cQ X N' scope C s3 H3 fp) tg (tT X.K t)/\WL (cQ X N' scope C s3 H3 fp) ifs (RP X.K (kB G cl cs))/\PE (cQ X N' scope C s3 H3 fp) elt (TDE X.K (ev G cl e)):=
 ⟨GE (eJ xo B.nd C s3 H3 fp) (mG (by rw[xo.s];exact B.S) C s3 H3 fp) ht,hc (eJ xo B.nd C s3 H3 fp) (lG go C s3 H3 fp),(he (eJ xo B.nd C s3 H3 fp) (lG go C s3 H3 fp)).1⟩
theorem cO{t:Tg}{k:Ck}{it cs:Es}{e:E}{N':List Str}{cap:List Nat}{elt tg iter:Expr}{ifs:List Expr}{scope:Scope}{pos:Pos}(B:Blk N sc N' cap scope)(ns:pF iter=true)(ht:iR N' scope t tg=true)(hi:QV N sc G k it iter)(hc:RQ N' (cY scope sc) G cs ifs)(he:SE N' (cY scope sc) G e elt)(tk:FG k tg=true:=by rfl):
 SE N sc G (.comp t k it cs e N' cap) (.ListComp elt [⟨tg,iter,ifs,0⟩] scope pos):=λ{X ca cl} xo go=>by
 have p:PE X (.ListComp elt [⟨tg,iter,ifs,0⟩] scope pos) (TDE X.K (ev G cl (.comp t k it cs e N' cap))):=IR xo B.S B.capL B.nN B.fr (tL B ht hc he xo go) ns (EE hi tk xo go);exact⟨p,jM p λ_=>rfl⟩
end
inductive Ir where
 |r1 (e:E)|r2 (a b:E)|sq (e:E)
inductive HB where
 |isx (k:Nat)|isv|and (a b:HB)|not (a:HB)
inductive HS where
 |bl (i:Nat) (b:HB)|cst (i:Nat) (d:Sum Bool Str)|ifc (b:HB) (i:Nat) (d:Sum Bool Str)
noncomputable def HB.run(G:Gs)(c:Nat):HB->Option Bool
 |.isx k=>if(c,k)∈G.sub then some true else if(c,k)∈G.nsub then some false else none
 |.isv=>some true
 |.and a b=>match a.run G c with
  |some true=>b.run G c
  |some false=>some false
  |none=>none
 |.not a=>match a.run G c with
  |some v=>some (!v)
  |none=>none
noncomputable def VT:Sum Bool Str->D
 |.inl b=>.bl b
 |.inr x=>.str x
noncomputable def CN(G:Gs)(c:Nat):List HS->Ev->Option Ev
 | [],r=>some r
 |.bl i b::l,r=>match b.run G c with
  |some v=>CN G c l (r.set i (some (.bl v)))
  |none=>none
 |.cst i d::l,r=>CN G c l (r.set i (some (VT d)))
 |.ifc b i d::l,r=>match b.run G c with
  |some true=>CN G c l (r.set i (some (VT d)))
  |some false=>CN G c l r
  |none=>none
noncomputable def clr:Option Nat->Ev->Ev
 |some j,r=>r.set j none
 |none,r=>r
mutual
inductive S where
 |rais (c:Nat) (x:Str)|asgX (t:Tg) (f:Nat) (l:Es)|retX (f:Nat) (l:Es)|exX (f:Nat) (l:Es)|tryx (b:Ss) (g:Nat) (j:Option Nat) (hs:List HS)
 |asg (t:Tg) (e:E)|asc (i:Nat) (e:E)|ex (e:E)|ret (e:E)|iff (c:E) (a b:Ss)|forr (t:Tg) (it:Ir) (b:Ss)|whl (c:E) (b:Ss)
 |pass|brk|cont|stx (o i e:E)|sfl (o:E) (cn f:Str) (e:E)|asgL (l:List Nat) (e:E)|exN (cn:Str) (f:Nat) (l:Es)|never
inductive Ss where
 |nil|cons (s:S) (r:Ss)
end
inductive Fl where
 |nx (r:Ev)|rt (d:D)|bk (r:Ev)|ct (r:Ev)
noncomputable def dM(t:Tg)(body:Ev->Hh->Rs Fl):List D->Ev->Hh->Rs Fl
 | [],r,h=>.ok (.nx r) h
 |d::ds,r,h=>match cX t d r with
  |none=>.bad
  |some r1=>(body r1 h).bind λfl h=>match fl with
   |.nx r2=>dM t body ds r2 h
   |.ct r2=>dM t body ds r2 h
   |.bk r2=>.ok (.nx r2) h
   |.rt d=>.ok (.rt d) h
noncomputable def gH(t:Tg)(body:Ev->Hh->Rs Fl)(n:Nat):Nat->Nat->Ev->Hh->Rs Fl
 |0,_,_,_=>.bad
 |k+1,i,r,h=>match aJ h n with
  |none=>.bad
  |some l=>match l[i]? with
   |none=>.ok (.nx r) h
   |some d=>match cX t d r with
    |none=>.bad
    |some r1=>(body r1 h).bind λfl h=>match fl with
     |.nx r2=>gH t body n k (i+1) r2 h
     |.ct r2=>gH t body n k (i+1) r2 h
     |.bk r2=>.ok (.nx r2) h
     |.rt d=>.ok (.rt d) h
noncomputable def cS(c:Ev->Hh->Rs D)(body:Ev->Hh->Rs Fl):Nat->Ev->Hh->Rs Fl
 |0,_,_=>.bad
 |k+1,r,h=>(c r h).nx.bind λx h=>match fZ x h with
  |none=>.bad
  |some false=>.ok (.nx r) h
  |some true=>(body r h).bind λfl h=>match fl with
   |.nx r2=>cS c body k r2 h
   |.ct r2=>cS c body k r2 h
   |.bk r2=>.ok (.nx r2) h
   |.rt d=>.ok (.rt d) h
noncomputable def SL(n:Nat)(l:List D)(y z:D)(h:Hh):Rs Unit:=match y with
 |.int k=>match uZ l.length k with
  |some j=>.ok () (h.set n (.lst (l.set j z)))
  |none=>.bad
 |_=>.bad
noncomputable def uE(x y z:D)(h:Hh):Rs Unit:=match x with
 |.ref n=>match h[n]? with
  |some (.lst l)=>SL n l y z h
  |some (.dct _)=>tF n y z h
  |some (.dtt l)=>xF n l y z h
  |_=>.bad
 |_=>.bad
noncomputable def CY(W:Nat)(t:Tg)(body:Ev->Hh->Rs Fl)(x:D)(r:Ev)(h:Hh):Rs Fl:=match x with
 |.tup l=>dM t body l r h
 |.ref n=>gH t body n W 0 r h
 |_=>.bad
noncomputable def EL(G:Gs)(g:Nat)(j:Option Nat)(hs:List HS):Rs Fl->Rs Fl
 |.exc c r h=>if(c,g)∈G.sub then(match CN G c hs (clr j r) with
  |some r'=>.ok (.nx (clr j r')) h
  |none=>.bad) else .bad
 |o=>o
mutual
noncomputable def xs(G:Gs)(cl:Cl)(W:Nat):S->Ev->Hh->Rs Fl
 |.rais c _,r,h=>.exc c r h
 |.asgX t f l,r,h=>(cW G cl l r h).nx.bind λds h=>((cl f ds h).inn r).bind λx h=>match cX t x r with
  |some r1=>.ok (.nx r1) h
  |none=>.bad
 |.retX f l,r,h=>(cW G cl l r h).nx.bind λds h=>((cl f ds h).inn r).bind λx h=>.ok (.rt x) h
 |.exX f l,r,h=>(cW G cl l r h).nx.bind λds h=>((cl f ds h).inn r).bind λ_ h=>.ok (.nx r) h
 |.tryx b g j hs,r,h=>EL G g j hs (bO G cl W b r h)
 |.asg t e,r,h=>(ev G cl e r h).nx.bind λx h=>match cX t x r with
  |some r1=>.ok (.nx r1) h
  |none=>.bad
 |.asc i e,r,h=>(ev G cl e r h).nx.bind λx h=>.ok (.nx (r.set i (some x))) h
 |.ex e,r,h=>(ev G cl e r h).nx.bind λ_ h=>.ok (.nx r) h
 |.ret e,r,h=>(ev G cl e r h).nx.bind λx h=>.ok (.rt x) h
 |.iff c a b,r,h=>(ev G cl c r h).nx.bind λx h=>match fZ x h with
  |some true=>bO G cl W a r h
  |some false=>bO G cl W b r h
  |none=>.bad
 |.forr t (.r1 e) b,r,h=>(ev G cl e r h).nx.bind λx h=>match x with
  |.int j=>if kJ j then dM t (bO G cl W b) (bU 0 j) r h else .bad
  |_=>.bad
 |.forr t (.r2 e e') b,r,h=>(ev G cl e r h).nx.bind λx h=>(ev G cl e' r h).nx.bind λy h=>match x,y with
  |.int i,.int j=>if kJ i/\kJ j then dM t (bO G cl W b) (bU i j) r h else .bad
  |_,_=>.bad
 |.forr t (.sq e) b,r,h=>(ev G cl e r h).nx.bind λx h=>CY W t (bO G cl W b) x r h
 |.whl c b,r,h=>cS (ev G cl c) (bO G cl W b) W r h
 |.pass,r,h=>.ok (.nx r) h
 |.brk,r,h=>.ok (.bk r) h
 |.cont,r,h=>.ok (.ct r) h
 |.stx o i e,r,h=>(ev G cl e r h).nx.bind λz h=>(ev G cl o r h).nx.bind λx h=>(ev G cl i r h).nx.bind λy h=>(uE x y z h).nx.bind λ_ h=>.ok (.nx r) h
 |.sfl o cn f e,r,h=>(ev G cl e r h).nx.bind λz h=>(ev G cl o r h).nx.bind λx h=>(AY cn x z f h).nx.bind λ_ h=>.ok (.nx r) h
 |.asgL l e,r,h=>(ev G cl e r h).nx.bind λx h=>match x with
  |.ref n=>(match aJ h n with
   |some ds=>if ds.length=l.length then .ok (.nx (gB l ds r)) h else .bad
   |none=>.bad)
  |_=>.bad
 |.exN cn f l,r,h=>(cW G cl l r h).nx.bind λds h=>((yM cn (cl f) ds h).inn r).bind λ_ h=>.ok (.nx r) h
 |.never,_,_=>.bad
noncomputable def bO(G:Gs)(cl:Cl)(W:Nat):Ss->Ev->Hh->Rs Fl
 |.nil,r,h=>.ok (.nx r) h
 |.cons s l,r,h=>(xs G cl W s r h).bind λfl h=>match fl with
  |.nx r2=>bO G cl W l r2 h
  |f=>.ok f h
end
noncomputable def kQ:Expr->Bool
 |.ListComp _ _ _ _=>false
 |.SetComp _ _ _ _=>false
 |.DictComp _ _ _ _ _=>false
 |_=>true
noncomputable def pQ(N:List Str)(sc:Scope):List Nat->List Expr->Bool
 | [],[]=>true
 |i::is,.Name x _::es=>N[i]? ==some x&&lT sc x&&pQ N sc is es
 |_,_=>false
noncomputable def EJ(N:List Str)(sc:Scope):Tg->Expr->Bool
 |.nm i,.Name x _=>N[i]? ==some x&&lT sc x
 |.tp l,.Tuple es _ _=>pQ N sc l es
 |_,_=>false
mutual
noncomputable def GY:S->Bool
 |.rais _ _=>false
 |.iff _ a b=>gL a&&gL b
 |.forr _ _ b=>gL b
 |.whl _ b=>gL b
 |.tryx _ _ _ _=>false
 |_=>true
noncomputable def gL:Ss->Bool
 |.nil=>true
 |.cons s l=>GY s&&gL l
end
noncomputable def M6(K:W.Frag)(m:List Addr)(H:Hp)(D:Ends):Fl->Prop
 |.nx r=>∀s,RSt K m H r s->D.nx s H
 |.rt d=>∀v,RD K m H d v->D.rt v H
 |.bk r=>∀s,RSt K m H r s->D.bk s H
 |.ct r=>∀s,RSt K m H r s->D.ct s H
noncomputable abbrev Ws:=Nat->Sg->Hp->Prop
noncomputable def OutS(K:PySem.W.Frag)(W:Ws)(m:List Addr)(H:Hp)(D:Ends):Rs Fl->Prop
 |.ok fl h'=>∀m' H',Gr K m H m' H'->Wd K m' h' H'->M6 K m' H' D fl
 |.exc c r' h'=>∀m' H' s',Gr K m H m' H'->Wd K m' h' H'->RSt K m' H' r' s'->W c s' H'
 |.bad=>False
theorem OutS.mono{K:PySem.W.Frag}{W:Ws}{m m1:List Addr}{H H1:Hp}{D:Ends}(g:Gr K m H m1 H1):∀{o:Rs Fl},OutS K W m H D o->OutS K W m1 H1 D o
 |.ok _ _,q=>λm' H' g'=>q m' H' (g.trans g')
 |.exc _ _ _,q=>λm' H' s' g'=>q m' H' s' (g.trans g')
 |.bad,q=>q
def TDS(K:PySem.W.Frag)(W:Ws)(f:Ev->Hh->Rs Fl):TS:=λD s H=>∃m r h,Wd K m h H/\RSt K m H r s/\OutS K W m H D (f r h)
theorem _root_.L2.PS.wk{X:Cx}{e:Stmt}{t t':TS}(h:PS X e t)(i:∀D s H,t' D s H->t D s H):PS X e t':=λpins s σ H D I q=>h pins s σ H D I (i _ _ _ q)
theorem _root_.L2.PSs.wk{X:Cx}{e:List Stmt}{t t':TS}(h:PSs X e t)(i:∀D s H,t' D s H->t D s H):PSs X e t':=λpins s σ H D I q=>h pins s σ H D I (i _ _ _ q)
section
variable {X:Cx}{N:List Str}{sc:Scope}{G:Gs}{ca:Nat->Addr}{cl:Cl}
theorem tN:∀{l:List Nat}{es:List Expr},pQ N sc l es=true->l.length=es.length/\∀(j:Nat) i e,l[j]? =some i->es[j]? =some e->EJ N sc (.nm i) e=true
 | [],[],_=>⟨rfl,λj i e h=>by simp at h⟩
 |i::is,e::es,h=>by
  cases e<;>first |exact absurd (show false=true from h) Bool.false_ne_true|skip
  rename_i x pos;have h':(N[i]? ==some x&&lT sc x&&pQ N sc is es)=true:=h;rw[Bool.and_eq_true] at h';obtain⟨i1,i2⟩:=tN h'.2;refine⟨by simp[i1],λj i' e' e1 e2=>?_⟩;cases j with
  |zero=>
   simp at e1 e2;subst e1;subst e2;exact h'.1
  |succ j=>exact i2 j i' e' (by simpa using e1) (by simpa using e2)
 | [],_::_,h=>absurd (show false=true from h) Bool.false_ne_true
 |_::_,[],h=>absurd (show false=true from h) Bool.false_ne_true
theorem WS(xo:XOk X N sc)(hfn:∀x,X.fn x=true){t:Tg}{tg:Expr}(h:EJ N sc t tg=true):PG X tg (tT X.K t):=by
 refine BP (λe i=>EJ N sc (.nm i) e) (λe i he=>?_) xo.calm ?_
 ·cases e<;>first |exact absurd (show false=true from he) Bool.false_ne_true|skip
  rename_i x pos;have h':(N[i]? ==some x&&lT sc x)=true:=he;simp only[Bool.and_eq_true,beq_iff_eq] at h';exact⟨x,pos,rfl,wH xo.nd (by rw[xo.n];exact h'.1) (by rw[xo.s];exact qR h'.2) (.inl (hfn x))⟩
 ·cases t with
  |nm i=>exact h
  |tp l=>
   cases tg<;>first |exact absurd (show false=true from h) Bool.false_ne_true|skip
   rename_i es k pos;obtain⟨h1,h2⟩:=tN (show pQ N sc l es=true from h);exact⟨es,k,pos,rfl,h1,h2⟩
end
section
variable {X:Cx}{N:List Str}{sc:Scope}{G:Gs}{cl:Cl}{W:Nat}{K:PySem.W.Frag}{Wx:Ws}
theorem OutS.nx{A:Type}{m:List Addr}{H:Hp}{Z:Ends}{a:Rs A}{k:A->Hh->Rs Fl}(q:OutS K Wx m H Z (a.nx.bind k)):∃d h1,a=.ok d h1/\OutS K Wx m H Z (k d h1):=by
 cases a with
 |ok d h1=>exact⟨d,h1,rfl,q⟩
 |exc c r h=>exact q.elim
 |bad=>exact q.elim
theorem OutS.body{Z:Ends}{m:List Addr}{H:Hp}{P:Sg->Hp->Prop}{o:Rs Fl}{next:Ev->Hh->Rs Fl}
 (e:OutS K Wx m H Z (o.bind λfl h=>match fl with
   |.nx r2=>next r2 h
   |.ct r2=>next r2 h
   |.bk r2=>.ok (.nx r2) h
   |.rt d=>.ok (.rt d) h))
 (hP:∀m' H' h' r s,Gr K m H m' H'->Wd K m' h' H'->RSt K m' H' r s->OutS K Wx m' H' Z (next r h')->P s H'):OutS K Wx m H {Z with nx:=P,ct:=P,bk:=Z.nx} o:=by
 cases o with
 |bad=>exact e
 |exc c r h=>exact e
 |ok fl h2=>
  intro m' H' g w;have e':=OutS.mono g e;cases fl with
  |nx r=>exact λs st=>hP m' H' h2 r s g w st e'
  |ct r=>exact λs st=>hP m' H' h2 r s g w st e'
  |bk r=>exact λs st=>e' m' H' .refl w s st
  |rt d=>exact λv rd=>e' m' H' .refl w v rd
theorem JQ{t:Tg}{body:Ev->Hh->Rs Fl}{Z:Ends}{d:D}{ds:List D}{P:Sg->Hp->Prop}{m1:List Addr}{r1:Ev}{h1:Hh}{s1:Sg}{H1:Hp}{v:V}
 (w:Wd K m1 h1 H1)(st:RSt K m1 H1 r1 s1)(rd:RD K m1 H1 d v)(e:OutS K Wx m1 H1 Z (dM t body (d::ds) r1 h1))
 (hP:∀m2 H2 r2 h2 s2,Gr K m1 H1 m2 H2->Wd K m2 h2 H2->RSt K m2 H2 r2 s2->OutS K Wx m2 H2 Z (dM t body ds r2 h2)->P s2 H2):
 tT K t v s1 H1 λs2 H2=>TDS K Wx body {Z with nx:=P,ct:=P,bk:=Z.nx} s2 H2:=by
 simp only[dM] at e;split at e
 ·exact e.elim
 ·rename_i r2 er;exact⟨m1,h1,r1,d,r2,w,st,rd,er,λs2 st2=>⟨m1,r2,h1,w,st2,OutS.body (next:=dM t body ds) e λm' H' h' r s g w' st' e'=>hP m' H' r h' s g w' st' e'⟩⟩
theorem CU{t:Tg}{body:Ev->Hh->Rs Fl}{Z:Ends}{m0:List Addr}{H0:Hp}{h0:Hh}{ds:List D}{vs:List V}{r0:Ev}{s0:Sg}{a:Addr}
 (w:Wd K m0 h0 H0)(st:RSt K m0 H0 r0 s0)(hq:SqT K H0 a vs)(q:RDs K m0 H0 ds vs)(e:OutS K Wx m0 H0 Z (dM t body ds r0 h0)):
 ∃Wv:Nat->Nat->Sg->Hp->Prop,(∃m,Wv 0 m s0 H0)/\∀i m s H,Wv i m s H->
  ((JL K a).stop i H/\Z.nx s H)\/((JL K a).go i H/\∃P:Sg->Hp->Prop,(∀s' H',P s' H'->∃m',m'<m/\Wv (i+1) m' s' H')/\∀x H',(JL K a).yld i H x H'->tT K t x s H' λs2 H2=>TDS K Wx body {Z with nx:=P,ct:=P,bk:=Z.nx} s2 H2):=by
 refine HW (K:=K) (a:=a) (xs:=vs) (λi s H=>∃m r h,Gr K m0 H0 m H/\Wd K m h H/\RSt K m H r s/\OutS K Wx m H Z (dM t body (ds.drop i) r h))
  ⟨m0,r0,h0,.refl,w,st,e⟩ (λi s H _ ⟨m,r,h,g,_⟩=>g.tup _ _ hq) ?_ ?_
 ·rintro i x s H hi ⟨m,r,h,g,w1,st1,e1⟩;obtain⟨d,hd,rd⟩:=q.getV hi
  have ed:ds.drop i=d::ds.drop (i+1):=by
   obtain⟨hl,z⟩:=Ze.mp hd;rw[<- z];exact List.drop_eq_getElem_cons hl
  rw[ed] at e1;exact JQ w1 st1 (rd.mono g) e1 λm2 H2 r2 h2 s2 g2 w2 st2 e2=>⟨m2,r2,h2,g.trans g2,w2,st2,e2⟩
 ·rintro s H ⟨m,r,h,g,w1,st1,e1⟩;rw[<- q.length,List.drop_length] at e1;exact e1 m H .refl w1 s st1
theorem CV{t:Tg}{body:Ev->Hh->Rs Fl}{Z:Ends}{m0:List Addr}{H0:Hp}{h0:Hh}{lo hi:Int}{r0:Ev}{s0:Sg}
 (w:Wd K m0 h0 H0)(st:RSt K m0 H0 r0 s0)(e:OutS K Wx m0 H0 Z (dM t body (bU lo hi) r0 h0)):
 ∃Wv:Nat->Nat->Sg->Hp->Prop,(∃m,Wv 0 m s0 H0)/\∀i m s H,Wv i m s H->
  ((zW lo (hi-lo).toNat).stop i H/\Z.nx s H)\/((zW lo (hi-lo).toNat).go i H/\∃P:Sg->Hp->Prop,(∀s' H',P s' H'->∃m',m'<m/\Wv (i+1) m' s' H')/\∀x H',(zW lo (hi-lo).toNat).yld i H x H'->tT K t x s H' λs2 H2=>TDS K Wx body {Z with nx:=P,ct:=P,bk:=Z.nx} s2 H2):=by
 refine zA (lo:=lo) (n:=(hi-lo).toNat) (λi s H=>∃m r h,Gr K m0 H0 m H/\Wd K m h H/\RSt K m H r s/\OutS K Wx m H Z (dM t body ((bU lo hi).drop i) r h))
  ⟨m0,r0,h0,.refl,w,st,e⟩ ?_ ?_
 ·rintro i s H hi' ⟨m,r,h,g,w1,st1,e1⟩
  have hd:(bU lo hi)[i]? =some (D.int (lo+i)):=by
   unfold bU;rw[Zi,List.getElem?_range hi'];rfl
  have ed:(bU lo hi).drop i=D.int (lo+i)::(bU lo hi).drop (i+1):=by
   obtain⟨hl,z⟩:=Ze.mp hd;rw[<- z];exact List.drop_eq_getElem_cons hl
  rw[ed] at e1;exact JQ w1 st1 (.int _) e1 λm2 H2 r2 h2 s2 g2 w2 st2 e2=>⟨m2,r2,h2,g.trans g2,w2,st2,e2⟩
 ·rintro s H ⟨m,r,h,g,w1,st1,e1⟩;have hl:(bU lo hi).length=(hi-lo).toNat:=by unfold bU;simp
  rw[<- hl,List.drop_length] at e1;exact e1 m H .refl w1 s st1
theorem CW{t:Tg}{body:Ev->Hh->Rs Fl}{Z:Ends}{m0:List Addr}{H0:Hp}{h0:Hh}{n:Nat}{r0:Ev}{s0:Sg}{a:Addr}
 (w:Wd K m0 h0 H0)(st:RSt K m0 H0 r0 s0)(ha:m0[n]? =some a)(e:OutS K Wx m0 H0 Z (gH t body n W 0 r0 h0)):
 ∃Wv:Nat->Nat->Sg->Hp->Prop,(∃m,Wv 0 m s0 H0)/\∀i m s H,Wv i m s H->
  ((LL K a).stop i H/\Z.nx s H)\/((LL K a).go i H/\∃P:Sg->Hp->Prop,(∀s' H',P s' H'->∃m',m'<m/\Wv (i+1) m' s' H')/\∀x H',(LL K a).yld i H x H'->tT K t x s H' λs2 H2=>TDS K Wx body {Z with nx:=P,ct:=P,bk:=Z.nx} s2 H2):=by
 refine⟨λi k s H=>∃m r h,Gr K m0 H0 m H/\Wd K m h H/\RSt K m H r s/\OutS K Wx m H Z (gH t body n k i r h),⟨W,m0,r0,h0,.refl,w,st,e⟩,?_⟩;rintro i k s H ⟨m,r,h,g,w1,st1,e1⟩;cases k with
 |zero=>exact e1.elim
 |succ k=>
  simp only[gH] at e1;split at e1
  ·exact e1.elim
  ·rename_i l el;obtain⟨a',vs,ha',hq,q⟩:=w1.lst el;have:=g.pre _ _ ha;rw[this] at ha';cases ha';split at e1
   ·rename_i en;refine .inl ⟨⟨vs,hq,?_⟩,e1 m H .refl w1 s st1⟩;rw[<- q.length];exact List.getElem?_eq_none_iff.mp en
   ·rename_i d ed;obtain⟨v,hv,rd⟩:=q.get ed;refine .inr ⟨⟨vs,v,hq,hv⟩,λs' H'=>∃m r h,Gr K m0 H0 m H'/\Wd K m h H'/\RSt K m H' r s'/\OutS K Wx m H' Z (gH t body n k (i+1) r h),λs' H' p=>⟨k,Nat.lt_succ_self _,p⟩,λx H' y=>?_⟩;obtain⟨rfl,y⟩:=y;have hx:=y vs hq;rw[hv] at hx;cases hx;split at e1
    ·exact e1.elim
    ·rename_i r2 er;exact⟨m,h,r,d,r2,w1,st1,rd,er,λs2 st2=>⟨m,r2,h,w1,st2,OutS.body (next:=gH t body n k (i+1)) e1 λm' H' h' r s g' w' st' e'=>⟨m',r,h',g.trans g',w',st',e'⟩⟩⟩
theorem LQ{f:Ev->Hh->Rs D}{body:Ev->Hh->Rs Fl}{Z:Ends}{m0:List Addr}{H0:Hp}{h0:Hh}{r0:Ev}{s0:Sg}
 (w:Wd K m0 h0 H0)(st:RSt K m0 H0 r0 s0)(e:OutS K Wx m0 H0 Z (cS f body W r0 h0)):AL (WI K f) (TDS K Wx body) Z s0 H0:=by
 refine⟨λk s H=>∃m r h,Gr K m0 H0 m H/\Wd K m h H/\RSt K m H r s/\OutS K Wx m H Z (cS f body k r h),⟨W,m0,r0,h0,.refl,w,st,e⟩,?_⟩;rintro k s H ⟨m,r,h,g,w1,st1,e1⟩;cases k with
 |zero=>exact e1.elim
 |succ k=>
  simp only[cS] at e1;obtain⟨x,h1,ex,e1⟩:=e1.nx;split at e1
  ·exact e1.elim
  ·rename_i et;exact⟨m,r,h,x,h1,false,w1,st1,ex,et,λm' H' g' w'=>vB (e1 m' H' g' w' s (st1.mono g'))⟩
  ·rename_i et
   exact⟨m,r,h,x,h1,true,w1,st1,ex,et,λm' H' g' w'=>vA ⟨λs' H'=>∃m r h,Gr K m0 H0 m H'/\Wd K m h H'/\RSt K m H' r s'/\OutS K Wx m H' Z (cS f body k r h),λs' H' p=>⟨k,Nat.lt_succ_self _,p⟩,
    m',r,h1,w',st1.mono g',OutS.body (next:=cS f body k) (e1.mono g') λm3 H3 h3 r s g3 w3 st' e'=>⟨m3,r,h3,(g.trans g').trans g3,w3,st',e'⟩⟩⟩
end
section
variable {X:Cx}{ca:Nat->Addr}{Wx:Ws}
end
section
variable {X:Cx}{N:List Str}{sc:Scope}{G:Gs}{ca:Nat->Addr}{cl:Cl}{Wx:Ws}{rz:Bool}
theorem TDS.one{K:W.Frag}{fa:Ev->Hh->Rs D}{f:Ev->Hh->Rs Fl}{k:Ev->D->Hh->Rs Fl}{s:Sg}{H:Hp}{Z:Ends}{R:VK}(hf:∀r h,f r h=(fa r h).nx.bind (k r))(q:TDS K Wx f Z s H)
 (c:∀(m2:List Addr)(r:Ev)(h2:Hh)(H2:Hp)(dx:D)(x:V),Wd K m2 h2 H2->RSt K m2 H2 r s->RD K m2 H2 dx x->OutS K Wx m2 H2 Z (k r dx h2)->R x H2):TDE K fa s H R:=by
 obtain⟨m,r,h,w,st,o⟩:=q;rw[hf] at o;obtain⟨dx,h1,e1,o⟩:=o.nx;exact⟨m,r,h,dx,h1,w,st,e1,λm1 x H1 g1 w1 rx=>c m1 r h1 H1 dx x w1 (st.mono g1) rx (o.mono g1)⟩
end
section
variable {X:Cx}{N:List Str}{sc:Scope}{G:Gs}{ca:Nat->Addr}{cl:Cl}{e:Addr}{oe:Obj}{c:Nat}
def hslot(N:List Str)(e:Addr)(n:Option Str)(σ:Sg):Prop:=∀x,n=some x->∃j:Nat,N[j]? =some x/\σ[j]? =some (some (.ref e))
end
theorem kP{env:Env}{v:Expr}{t:Option Expr}{l:Nat}(h:kQ v=true):swapsWith v t l env=pure false:=by
 cases v<;>first |rfl|(cases h;done)
theorem lH{env:Env}{v tg:Expr}{l:Nat}(h:kQ v=true):swapsWithSole [tg] v l env=pure false:=kP (t:=some tg) h
section
variable {X:Cx}{N:List Str}{sc:Scope}{G:Gs}{ca:Nat->Addr}{cl:Cl}{e:Addr}{oe:Obj}{c:Nat}
noncomputable def HS.ix:HS->Nat
 |.bl i _=>i
 |.cst i _=>i
 |.ifc _ i _=>i
end
section
variable {X:Cx}{pins pins':List (Addr×Obj)}{E:Value->Shared->Prop}{σ:Sg}{H:Hp}{s:Shared}
end
section
variable {X:Cx}{N:List Str}{sc:Scope}{G:Gs}{ca:Nat->Addr}{cl:Cl}{Wx:Ws}{rz:Bool}
end
section
variable {X:Cx}
noncomputable def gSt(K:W.Frag):JI:=λo i v H Q=>∃m h x y z h',Wd K m h H/\RD K m H x o/\RD K m H y i/\RD K m H z v/\uE x y z h=.ok () h'/\∀m' H',Gr K m H m' H'->Wd K m' h' H'->Q H'
theorem YL(hr:∃k,Room k X.A):QW X (gSt X.K):=by
 intro pins s σ H o i v ov iv u Q I ro ri rv ⟨m,h,x,y,z,h',w,r1,r2,r3,e,c⟩;cases r1<;>first |(cases e;done)|skip
 rename_i n a ha;simp only[uE] at e;split at e
 ·rename_i l el;unfold SL at e;cases r2<;>first |(cases e;done)|skip
  rename_i k;simp only at e;split at e
  ·rename_i j ej;cases e;obtain⟨vs,hv,rvs⟩:∃vs,H a=some (.lst vs)/\RDs X.K m H l vs:=w.ob n _ a el ha;obtain⟨_,w4,g4⟩:=w.lstSet el ha (rvs.set r3 j);exact AU pins s σ H _ _ v ov iv u Q I ro ri rv ⟨a,vs,k,j,rfl,rfl,hv,by rw[<- rvs.length];exact ej,c m _ g4 w4⟩
  ·cases e
 ·rename_i l el;obtain⟨us,k,q1,rfl,q3,w3,g3⟩:=IF w ha r2 r3 e;cases ro;obtain⟨kk,hr⟩:=hr;have hun:=hr.units
  exact zE (by omega) I (DPut.k q1 (by have:(1000:Nat)<=sizeLine:=by decide
                                       omega)) ri rv λs' I'=>⟨_,I',c m _ g3 w3⟩
 ·rename_i l el;unfold xF at e;cases r2<;>first |(cases e;done)|skip
  rename_i b ds vs hq q;simp only at e;split at e
  ·rename_i k ek;split at e
   ·rename_i hl;cases e;obtain⟨kk,hr⟩:=hr;have hun:=hr.units;cases ro;cases ri;have ev:=gW q ek;subst ev;exact IC (by omega) I w el ha hl hq r3 rv λs' H' I' g' w'=>⟨_,I',c m _ g' w'⟩
   ·cases e
  ·cases e
 ·cases e
end
def SS(N:List Str)(sc:Scope)(G:Gs)(c:S)(e:Stmt):Prop:=∀{X:Cx}{ca:Nat->Addr}{cl:Cl}{W:Nat}{Wx:Ws}{rz:Bool},XOk X N sc->GOk X G ca cl->(∀x,X.fn x=true)->XX X ca Wx rz->(rz=true\/GY c=true)->PS X e (TDS X.K Wx (xs G cl W c))
def eQ(N:List Str)(sc:Scope)(G:Gs)(c:Ss)(e:List Stmt):Prop:=∀{X:Cx}{ca:Nat->Addr}{cl:Cl}{W:Nat}{Wx:Ws}{rz:Bool},XOk X N sc->GOk X G ca cl->(∀x,X.fn x=true)->XX X ca Wx rz->(rz=true\/gL c=true)->PSs X e (TDS X.K Wx (bO G cl W c))
section
variable {N:List Str}{sc:Scope}{G:Gs}
theorem aO{i:Nat}{a:E}{x:Str}{px pos:Pos}{v:Expr}(h1:N[i]? =some x)(h2:lT sc x=true)(h3:kQ v=true)(h_a:SE N sc G a v):SS N sc G (.asg (.nm i) a) (.Assign [.Name x px] v pos):=λ{X ca cl W Wx rz} xo go hfn xx hz=>by
 refine(MJ (i:=i) xo.nd (by rw[xo.n];exact h1) (by rw[xo.s];exact qR h2) (h_a xo go).1 (kP h3) (.inl (hfn x))).wk λZ s H q=>?_;refine TDS.one (λr h=>by rw[xs]) q λm2 r h2 H2 dx y w2 st2 rx o=>?_;exact o m2 H2 .refl w2 _ (st2.set i rx)
theorem cN{l:List Nat}{a:E}{es:List Expr}{k:Nat}{px pos:Pos}{v:Expr}(h1:pQ N sc l es=true)(h3:kQ v=true)(hw:∀env,swappedStores [.Tuple es k px] v env=pure none)(h_a:SE N sc G a v):SS N sc G (.asg (.tp l) a) (.Assign [.Tuple es k px] v pos):=λ{X ca cl W Wx rz} xo go hfn xx hz=>by
 refine(BJ (h_a xo go).1 (WS xo hfn (t:=.tp l) (tg:=.Tuple es k px) h1) (lH h3) (hw X.env) rfl).wk λZ s H q=>?_;refine TDS.one (λr h=>by rw[xs]) q λm2 r h2 H2 dx y w2 st2 rx o=>?_;split at o
 ·rename_i r1 er;exact⟨m2,_,r,dx,r1,w2,st2,rx,er,λs' st'=>o m2 H2 .refl w2 s' st'⟩
 ·exact o.elim
theorem AM{X:Cx}(xo:XOk X N sc){y:Str}{py pos:Pos}{scope:Scope}(hk:(sc.kind== .function)=true)(h2:sc.names.lookup y=some .local)(h4:(py.line==pos.line&& !(scope.names.any λ(n,k)=>n==y&&(k== .local||k== .cell)))=true):
 (pure (X.env.blockKind== .function&&X.env.kindOf y==some .local&&py.line==pos.line&& !(scope.names.any λ(n,k)=>n==y&&(k== .local||k== .cell))):Sem Bool)=pure true:=by
 have hb:X.env.blockKind=.function:=by
  unfold Env.blockKind;rw[xo.s,eq_of_beq hk];rfl
 have hy:X.env.kindOf y=some .local:=by show X.env.scope.names.lookup y=_;rw[xo.s];exact h2
 rw[hb,hy];rw[Bool.and_assoc,h4];rfl
theorem PQ{i:Nat}{t:Tg}{k:Ck}{it cs:Es}{e:E}{N':List Str}{cap:List Nat}{elt tg iter:Expr}{ifs:List Expr}{scope:Scope}{y:Str}{py pos spos:Pos}(h1:N[i]? =some y)(hk:(sc.kind== .function)=true)(h2:sc.names.lookup y=some .local)(h4:(py.line==pos.line&& !(scope.names.any λ(n,k)=>n==y&&(k== .local||k== .cell)))=true)
 (B:Blk N sc N' cap scope)(ns:pF iter=true)(ht:iR N' scope t tg=true)(hi:QV N sc G k it iter)(hc:RQ N' (cY scope sc) G cs ifs)(he:SE N' (cY scope sc) G e elt)(tk:FG k tg=true:=by rfl):SS N sc G (.asc i (.comp t k it cs e N' cap)) (.Assign [.Name y py] (.ListComp elt [⟨tg,iter,ifs,0⟩] scope pos) spos):=λ{X ca cl W Wx rz} xo go hfn xx hz=>by
 refine(IQ (i:=i) xo B.S B.capL B.nN B.fr (tL B ht hc he xo go) ns (EE (cl:=cl) hi tk xo go) h1 h2 (AM xo hk h2 h4)).wk λZ s H q=>?_;refine TDS.one (λr h=>by rw[xs]) q λm2 r h2 H2 dx y w2 st2 rx o=>?_;exact o m2 H2 .refl w2 _ (st2.set i rx)
theorem oB{a:E}{v:Expr}{pos:Pos}(h3:kQ v=true)(h_a:SE N sc G a v):SS N sc G (.ex a) (.Expr v pos):=λ{X ca cl W Wx rz} xo go hfn xx hz=>by
 refine(GC (h_a xo go).1 (kP h3)).wk λZ s H q=>?_;refine TDS.one (λr h=>by rw[xs]) q λm2 r h2 H2 dx y w2 st2 rx o=>?_;exact o m2 H2 .refl w2 _ st2
theorem aR{a:E}{v:Expr}{pos:Pos}(h_a:SE N sc G a v):SS N sc G (.ret a) (.Return (some v) pos):=λ{X ca cl W Wx rz} xo go hfn xx hz=>by
 refine(BI (h_a xo go).1).wk λZ s H q=>?_;refine TDS.one (λr h=>by rw[xs]) q λm2 r h2 H2 dx y w2 st2 rx o=>?_;exact o m2 H2 .refl w2 _ rx
theorem bJ{a:E}{b1 b2:Ss}{t:Expr}{x y:List Stmt}{pos:Pos}(h_a:SE N sc G a t)(h_b1:eQ N sc G b1 x)(h_b2:eQ N sc G b2 y):SS N sc G (.iff a b1 b2) (.If t x y pos):=λ{X ca cl W Wx rz} xo go hfn xx hz=>by
 have hz':(rz=true\/gL b1=true)/\(rz=true\/gL b2=true):=by
  rcases hz with z|z
  ·exact⟨.inl z,.inl z⟩
  ·have z':(gL b1&&gL b2)=true:=z;rw[Bool.and_eq_true] at z';exact⟨.inr z'.1,.inr z'.2⟩
 refine(SZ ((h_a xo go).2) (h_b1 (W:=W) xo go hfn xx hz'.1) (h_b2 (W:=W) xo go hfn xx hz'.2)).wk λZ s H ⟨m,r,hh,w,st,o⟩=>?_;rw[xs] at o;obtain⟨dx,h1,e0,o⟩:=o.nx;split at o
 ·rename_i et;exact⟨m,r,hh,dx,h1,true,w,st,e0,et,λm' H' g w'=>vA ⟨m',r,h1,w',st.mono g,o.mono g⟩⟩
 ·rename_i et;exact⟨m,r,hh,dx,h1,false,w,st,e0,et,λm' H' g w'=>vB ⟨m',r,h1,w',st.mono g,o.mono g⟩⟩
 ·exact o.elim
theorem iF{t:Tg}{a:E}{b:Ss}{tg y:Expr}{x:List Stmt}{p pos' pos:Pos}(h1:EJ N sc t tg=true)(h6:wQ sc "range"=true)(h7:dJ y=true)(h_a:SE N sc G a y)(h_b:eQ N sc G b x):SS N sc G (.forr t (.r1 a) b) (.For tg (.Call (.Name "range" p) [y] [] pos') x [] pos):=λ{X ca cl W Wx rz} xo go hfn xx hz=>by
 have hs:∀z,foldedSetIterable (.Call (.Name "range" p) [y] [] pos') X.env z=pure z:=λz=>rfl;have hA:PA X [y] (mO (TDE X.K (ev G cl a)) rT):=gE (h_a xo go).1 iU (bM [] h7);refine(uL xo.po xo.calm (iA (dW xo h6) xo.rng hA (bM [] h7)) (WS xo hfn h1) (h_b (W:=W) xo go hfn xx hz) hs).wk λZ s H q=>?_;refine TDS.one (λr h=>by rw[xs]) q λm2 r h2 H2 dx y w2 st2 rx o=>?_;cases rx<;>first |exact o.elim|skip
 rename_i j;simp only at o;split at o
 ·rename_i ho;refine⟨j,rfl,ho.1,ho.2,?_⟩;have:=CV (lo:=0) (hi:=j) w2 st2 o;simpa using this
 ·exact o.elim
theorem fI{t:Tg}{a:E}{b:Ss}{tg it:Expr}{x:List Stmt}{pos:Pos}(h1:EJ N sc t tg=true)(hs':∀env z,foldedSetIterable it env z=pure z)(h_a:SE N sc G a it)(h_b:eQ N sc G b x):SS N sc G (.forr t (.sq a) b) (.For tg it x [] pos):=λ{X ca cl W Wx rz} xo go hfn xx hz=>by
 have hs:=hs' X.env;have hp:=(h_a xo go).1;have p1:=uL xo.po xo.calm (qM hp) (WS xo hfn h1) (h_b (W:=W) xo go hfn xx hz) hs (pos:=pos);have p2:=uL xo.po xo.calm (BN hp) (WS xo hfn h1) (h_b (W:=W) xo go hfn xx hz) hs (pos:=pos);intro pins s σ H Z I ⟨m,r,hh,w,st,o⟩;rw[xs] at o;obtain⟨dx,h5,e0,o⟩:=o.nx;have mk:∀(R:VK),(∀(m2:List Addr)(H2:Hp)(y:V),Gr X.K m H m2 H2->Wd X.K m2 h5 H2->RD X.K m2 H2 dx y->R y H2)->TDE X.K (ev G cl a) σ H R:=λR k=>⟨m,r,hh,dx,h5,w,st,e0,λm2 y H2 g2 w2 ry=>k m2 H2 y g2 w2 ry⟩;cases dx<;>first |exact o.elim|skip
 ·refine p2 pins s σ H Z I (mk _ λm2 H2 y g2 w2 ry=>?_);cases ry with
  |tup hq q'=>exact⟨_,rfl,⟨_,hq⟩,CU w2 (st.mono g2) hq q' (OutS.mono g2 o)⟩
 ·rename_i n;refine p1 pins s σ H Z I (mk _ λm2 H2 y g2 w2 ry=>?_);cases ry with
  |ref ha=>
   have hl:∃l,aJ h5 n=some l:=by
    cases W with
    |zero=>exact o.elim
    |succ k=>
     simp only[CY,gH] at o;split at o
     ·exact o.elim
     ·rename_i l el;exact⟨l,el⟩
   obtain⟨l,hl⟩:=hl;obtain⟨a',vs,ha',hq,_⟩:=w2.lst hl;rw[ha] at ha';cases ha';exact⟨_,rfl,⟨_,hq⟩,CW (W:=W) w2 (st.mono g2) ha (OutS.mono g2 o)⟩
theorem DT{a:E}{b:Ss}{t:Expr}{x:List Stmt}{pos:Pos}(h_a:SE N sc G a t)(h_b:eQ N sc G b x):SS N sc G (.whl a b) (.While t x [] pos):=λ{X ca cl W Wx rz} xo go hfn xx hz=>by
 refine(BH xo.po (h_a xo go).2 (h_b (W:=W) xo go hfn xx hz)).wk λZ s H ⟨m,r,hh,w,st,o⟩=>?_;rw[xs] at o;exact LQ w st o
def JK(o i:Expr)(pos:Pos):Prop:=∀(env:Env)(v:Value),assign (.Subscript o i pos) env v=(do
 let ov <- holding [v] (eval o env)
 let iv <- holding [v,ov] (eval i env)
 standAt pos
 holding [v,ov,iv] (setItem ov iv v)
 release [v,ov,iv] [])
theorem DU{o i a:E}{x y v:Expr}{px pos:Pos}(h1:kQ v=true)(hy:JK x y px)(h_a:SE N sc G a v)(h_o:SE N sc G o x)(h_i:SE N sc G i y):SS N sc G (.stx o i a) (.Assign [.Subscript x y px] v pos):=λ{X ca cl W Wx rz} xo go hfn xx hz=>by
 refine(BJ ((h_a xo go).1) (MO ((h_o xo go).1) ((h_i xo go).1) (YL xo.room) (λv=>hy X.env v)) (lH h1) rfl rfl).wk λZ s H q=>?_;refine TDS.one (λr h=>by rw[xs]) q λm2 r h2 H2 dz z w2 st2 rdz o=>?_;obtain⟨dx,h6,e6,o⟩:=o.nx;obtain⟨dy,h7,e7,o⟩:=o.nx;obtain⟨_,h8,e8,o⟩:=o.nx;exact⟨m2,r,h2,dx,h6,w2,st2,e6,λm3 x' H3 g3 w3 rx=>⟨m3,r,h6,dy,h7,w3,st2.mono g3,e7,λm4 y' H4 g4 w4 ry=>⟨m4,h7,dx,dy,dz,h8,w4,rx.mono g4,ry,rdz.mono (g3.trans g4),e8,λm5 H5 g5 w5=>o m5 H5 ((g3.trans g4).trans g5) w5 s (st2.mono ((g3.trans g4).trans g5))⟩⟩⟩
theorem aE:eQ N sc G .nil []:=λ{X ca cl W Wx rz} xo go hfn xx hz=>(GB).wk λZ s H ⟨m,r,hh,w,st,o⟩=>by
 rw[bO] at o;exact o m H .refl w s st
theorem IE{a:S}{l:Ss}{x:Stmt}{xs':List Stmt}(h_a:SS N sc G a x)(h_l:eQ N sc G l xs'):eQ N sc G (.cons a l) (x::xs'):=λ{X ca cl W Wx rz} xo go hfn xx hz=>by
 have hz':(rz=true\/GY a=true)/\(rz=true\/gL l=true):=by
  rcases hz with z|z
  ·exact⟨.inl z,.inl z⟩
  ·have z':(GY a&&gL l)=true:=z;rw[Bool.and_eq_true] at z';exact⟨.inr z'.1,.inr z'.2⟩
 refine(BG (h_a (W:=W) xo go hfn xx hz'.1) (h_l (W:=W) xo go hfn xx hz'.2)).wk λZ s H ⟨m,r,hh,w,st,o⟩=>?_;rw[bO] at o;refine⟨m,r,hh,w,st,?_⟩;cases ho:xs G cl W a r hh with
 |bad=>rw[ho] at o;exact o
 |exc c rr h1=>rw[ho] at o;exact o
 |ok f h1=>
  rw[ho] at o;intro m1 H1 g1 w1;have o':=OutS.mono g1 o;cases f with
  |nx r2=>exact λs' st'=>⟨m1,r2,h1,w1,st',o'⟩
  |rt d=>exact o' m1 H1 .refl w1
  |bk r2=>exact o' m1 H1 .refl w1
  |ct r2=>exact o' m1 H1 .refl w1
end
section
variable {N:List Str}{sc:Scope}{G:Gs}
theorem nG{K:W.Frag}{m:List Addr}{H:Hp}{f:Str}:∀{fs:List (Str×D)}{us:List (Str×V)},fs.map (·.1)=us.map (·.1)->RDs K m H (fs.map (·.2)) (us.map (·.2))->(∀d,fs.lookup f=some d->∃v,us.lookup f=some v/\RD K m H d v)/\(fs.lookup f=none->us.lookup f=none)
 | [],[],_,_=>⟨λd e=>(nomatch e),λ_=>rfl⟩
 |(k,d)::fs,(k',v)::us,h,r=>by
  obtain⟨h1,h2⟩:=List.cons.inj (show k::fs.map (·.1)=k'::us.map (·.1) from h);subst h1;cases r with
  |cons r1 r=>
   obtain⟨i1,i2⟩:=nG h2 r;simp only[List.lookup_cons];cases f==k with
   |true=>exact⟨λd' e=>by cases e;exact⟨v,rfl,r1⟩,λe=>(nomatch e)⟩
   |false=>exact⟨i1,i2⟩
 | [],_::_,h,_=>by cases h
 |_::_,[],h,_=>by cases h
theorem dR{o:E}{cn f:Str}{e:Expr}{pos:Pos}(hG:(cn,f)∈G.atts)(hb:∀env:Env,attributeBase e f env (eval e env)=eval e env)(h_o:SE N sc G o e):SE N sc G (.att o cn f) (.Attribute e f pos):=λ{X ca cl} xo go=>by
 obtain⟨C,hC,cls,na⟩:=go.c.att _ hG
 have p:PE X (.Attribute e f pos) (TDE X.K (ev G cl (.att o cn f))):=(MX (h_o xo go).1 (hb X.env)).wk λs H Q q=>by
  refine TDE.one (λr h=>by simp only[ev];rfl) q λm m2 r d h2 h' H2 dx v st g w2 st2 rx e c=>?_;cases rx<;>first |(cases e;done)|skip
  rename_i n a ha;simp only[vO] at e;split at e<;>first |(cases e;done)|skip
  rename_i c0 fs el;split at e<;>first |(cases e;done)|skip
  rename_i ec;subst ec;obtain⟨C',dx',us,q1,q2,q3,q4⟩:RO X.K m2 H2 a (.ins c0 fs):=w2.ob n _ a el ha;have hC':W.nsIn X.K mainGlobals c0=some (some (.ref C)):=hC;rw[q1] at hC';cases hC';split at e<;>first |(cases e;done)|skip
  rename_i d0 ed;cases e;obtain⟨v,hv,rv⟩:=(nG q3 q4).1 _ ed;exact⟨a,_,dx',us,v,rfl,q2,cls,na,hv,c m2 v H2 Gr.refl w2 rv⟩
 exact⟨p,jM p λ_=>rfl⟩
def MtE(e:Expr)(m:Str)(ap cp:Pos)(args:List Expr):Prop:=∀env:Env,∃pl:Sem Bool,eval (.Call (.Attribute e m ap) args [] cp) env=(do
 let ov <- eval e env
 standAt ap.atName
 let(f,first) <- holding [ov] (getMethod ov m pl)
 callWith cp f first (backTo cp (starEach args env)) (backToKw cp (keywordEach [] env)))
theorem BW{X:Cx}{m2:List Addr}{h2:Hh}{H2:Hp}{x:D}{v:V}{cn mt:Str}{C:Addr}(w2:Wd X.K m2 h2 H2)(rx:RD X.K m2 H2 x v)(hC:W.nsIn X.K mainGlobals cn=some (some (.ref C)))(e:lI x cn mt h2=true):∃a dx us,v=.ref a/\H2 a=some (.ins C dx us)/\us.lookup mt=none:=by
 cases rx<;>first |(cases e;done)|skip
 rename_i n a ha;simp only[lI] at e;split at e<;>first |(cases e;done)|skip
 rename_i c0 fs el;rw[Bool.and_eq_true,decide_eq_true_eq] at e;obtain⟨rfl,e⟩:=e;obtain⟨C',dx',us,q1,q2,q3,q4⟩:RO X.K m2 H2 a (.ins c0 fs):=w2.ob n _ a el ha;rw[q1] at hC;cases hC;exact⟨a,dx',us,rfl,q2,(nG q3 q4).2 (Option.isNone_iff_eq_none.mp e)⟩
theorem qY{o:E}{cn mt:Str}{f:Nat}{l:Es}{e y:Expr}{ys:List Expr}{ap cp:Pos}(hG:(cn,mt,f)∈G.meths)(ht:MtE e mt ap cp (y::ys))(h_o:SE N sc G o e)(h_l:JJ N sc G l (y::ys)):SE N sc G (.mth o cn mt f l) (.Call (.Attribute e mt ap) (y::ys) [] cp):=λ{X ca cl} xo go=>by
 obtain⟨C,fa,fd,ps,k,hC,cls,hm,F,hr,hb,hlen⟩:=go.c.meth _ hG;have hns:=h_l.1;rw[List.all_cons,Bool.and_eq_true] at hns;obtain⟨pl,ht⟩:=ht X.env
 have p:PE X (.Call (.Attribute e mt ap) (y::ys) [] cp) (TDE X.K (ev G cl (.mth o cn mt f l))):=(GH (h_o xo go).1 cls hm F hr hb .nil wI (h_l.2 xo go) (bM ys hns.1) (gK cp hns.2) ht).wk λs H Q q=>by
  refine TDE.one (k:=λr x h=>if lI x cn mt h=true then(cW G cl l r h).bind λds h=>(cl f (x::ds) h).nx else .bad) (λr h=>by simp only[ev]) q λm m2 r d h2 h' H2 dx v st g w2 st2 rx e c=>?_;split at e<;>first |(cases e;done)|skip
  rename_i hmt;obtain⟨a,dx',us,rfl,q2,q3⟩:=BW w2 rx hC hmt;obtain⟨ds,h3,e3,e⟩:=Rs.bind_ok e;have e:=Rs.nx_ok e;refine⟨a,dx',us,rfl,q2,q3,m2,r,h2,ds,h3,w2,st2,e3,λm' vs H' g' w' rd=>?_⟩;show AQ X.K ca (cl f) ps.length (V.ref a::(vs++ [])) H' Q E0;rw[Zm];have rd':=RDs.cons (rx.mono g') rd;exact⟨by rw[<- rd'.length];exact hlen _ _ (by rw[e];exact λz=>nomatch z),m',h3,dx::ds,w',rd',by rw[e];exact λm2 v H2 g2=>c m2 v H2 (g'.trans g2)⟩
 exact⟨p,jM p λ_=>rfl⟩
theorem IL{o:E}{cn mt:Str}{f:Nat}{e:Expr}{ap cp:Pos}(hG:(cn,mt,f)∈G.meths)(ht:MtE e mt ap cp [])(h_o:SE N sc G o e):SE N sc G (.mth o cn mt f .nil) (.Call (.Attribute e mt ap) [] [] cp):=λ{X ca cl} xo go=>by
 obtain⟨C,fa,fd,ps,k,hC,cls,hm,F,hr,hb,hlen⟩:=go.c.meth _ hG;obtain⟨pl,ht⟩:=ht X.env
 have p:PE X (.Call (.Attribute e mt ap) [] [] cp) (TDE X.K (ev G cl (.mth o cn mt f .nil))):=(BS (h_o xo go).1 cls hm F hr hb .nil wI ht).wk λs H Q q=>by
  refine TDE.one (k:=λr x h=>if lI x cn mt h=true then(cW G cl .nil r h).bind λds h=>(cl f (x::ds) h).nx else .bad) (λr h=>by simp only[ev]) q λm m2 r d h2 h' H2 dx v st g w2 st2 rx e c=>?_;split at e<;>first |(cases e;done)|skip
  rename_i hmt;obtain⟨a,dx',us,rfl,q2,q3⟩:=BW w2 rx hC hmt;obtain⟨ds,h3,e3,e⟩:=Rs.bind_ok e;have e:=Rs.nx_ok e;simp only[cW] at e3;cases e3;refine⟨a,dx',us,rfl,q2,q3,?_⟩;show AQ X.K ca (cl f) ps.length [V.ref a] H2 Q E0;have rd':=RDs.cons rx .nil;exact⟨by rw[<- rd'.length];exact hlen _ _ (by rw[e];exact λz=>nomatch z),m2,h2,[dx],w2,rd',by rw[e];exact λm2 v H2 g2=>c m2 v H2 g2⟩
 exact⟨p,jM p λ_=>rfl⟩
theorem QA{cn:Str}{f:Nat}{l:Es}{y:Expr}{ys:List Expr}{np pos:Pos}(hG:(cn,f)∈G.news)(h:(wQ sc cn&&nB cn)=true)(h_l:JJ N sc G l (y::ys)):SE N sc G (.new cn f l) (.Call (.Name cn np) (y::ys) [] pos):=λ{X ca cl} xo go=>by
 rw[Bool.and_eq_true] at h;obtain⟨h2,h3⟩:=h;obtain⟨d1,d2,d3⟩:=jT h3;obtain⟨C,fa,fd,ps,k,hC,hmg,M,F,hr,hb,hlen⟩:=go.c.new _ hG;have hns:=h_l.1;rw[List.all_cons,Bool.and_eq_true] at hns
 have p:PE X (.Call (.Name cn np) (y::ys) [] pos) (TDE X.K (ev G cl (.new cn f l))):=(GI M F hr (dW xo h2) hmg hb .nil wI (h_l.2 xo go) d1 (bM ys hns.1) (gK pos hns.2)).wk λs H Q ⟨m,r,hh,d,h',w,st,e1,c⟩=>by
  simp only[ev] at e1;obtain⟨ds,h1,e0,e1⟩:=Rs.bind_ok e1;have e1:=Rs.nx_ok e1;unfold yM at e1;obtain⟨d',h2,e2,e1⟩:=Rs.bind_ok e1;cases d'<;>first |(cases e1;done)|skip
  cases e1;refine⟨m,r,hh,ds,h1,w,st,e0,λm' vs H' g w' rd x dx hx hdx ne=>?_⟩;have w2:=w'.keepNew (o:=.own x) hdx;have g2:Gr X.K m' H' m' (bS H' dx (.own x)):=Gr.tupNew hdx;have hx2:(bS H' dx (.own x)) x=none:=by rw[aM (Ne.symm ne)];exact hx
  obtain⟨w3,g3⟩:=w2.objNew (o:=.ins cn []) (u:=.ins C dx []) hx2 λ_=>⟨C,dx,[],hC,aZ,rfl,.nil⟩;have hr0:(m'++ [x])[h1.length]? =some x:=by rw[<- w'.len];simp
  show AQ X.K ca (cl f) ps.length (V.ref x::(vs++ [])) _ _ E0;rw[Zm];have rd':=RDs.cons (RD.ref (K:=X.K) (H:=bS (bS H' dx (.own x)) x (.ins C dx [])) hr0) ((rd.mono g2).mono g3)
  exact⟨by rw[<- rd'.length];exact hlen _ _ (by rw[e2];exact λz=>nomatch z),m'++ [x],h1++ [.ins cn []],.ref h1.length::ds,w3,rd',by
   rw[e2]
   exact λm4 v H4 g4 w4 rv=>by
    cases rv;exact⟨rfl,c m4 _ H4 (((g.trans g2).trans g3).trans g4) w4 (.ref (g4.pre _ _ hr0))⟩⟩
 exact⟨p,jM p λ_=>rfl⟩
theorem vL{a b:E}{x y:Expr}{p2 pos:Pos}(h_a:SE N sc G a x)(h_b:SE N sc G b y):SE N sc G (.slT a b) (.Subscript x (.Slice none (some y) none p2) pos):=λ{X ca cl} xo go=>by
 have p:PE X (.Subscript x (.Slice none (some y) none p2) pos) (TDE X.K (ev G cl (.slT a b))):=(mY MC (h_a xo go).1 qL (mC (h_b xo go).1)).wk λs H Q q=>by
  obtain⟨m,r,h,d,h',w,st,e,c⟩:=q;rw[ev] at e;refine TDE.two w st e λm2 H2 h2 dx dy x y g w2 rx ry e=>?_;unfold FP at e;split at e<;>first |(cases e;done)|skip
  rename_i l i;split at e<;>first |(cases e;done)|skip
  rename_i hi;cases e;cases ry;cases rx with
  | @tup a' _ vs hq q=>
    have lq:=q.length;refine⟨i,rfl,a',vs,rfl,hq,λz=>?_,λk hk=>?_⟩
    ·have:HT.sIx vs.length vs.length (some i)=min i.toNat vs.length:=by
      show(if i<0 then _ else _)=_
      rw[if_neg (by omega)]
     omega
    ·have e1:oS vs none (some i)=vs.take i.toNat:=tK vs i hi.1;rw[e1];have gt:=Gr.tupNew (K:=X.K) (m:=m2) (o:=.tup (vs.take i.toNat)) hk;exact c _ _ _ (g.trans gt) (w2.keepNew hk) (.tup (.of aZ) ((q.take i.toNat).mono gt))
 exact⟨p,jM p λ_=>rfl⟩
theorem jH{op op':Cop}{a b cc:E}{x y z:Expr}{pos:Pos}(hm:lastMarks [op.op,op'.op] [y,z]=false)(h_a:SE N sc G a x)(h_b:SE N sc G b y)(h_c:SE N sc G cc z):SE N sc G (.chn op op' a b cc) (.Compare x [op.op,op'.op] [y,z] pos):=λ{X ca cl} xo go=>by
 have im:∀s H (Q:VK) m r hh d h',Wd X.K m hh H->RSt X.K m H r s->ev G cl (.chn op op' a b cc) r hh=.ok d h'->(∀m' v H',Gr X.K m H m' H'->Wd X.K m' h' H'->RD X.K m' H' d v->Q v H')->uD (rD X.K (cH op)) (rD X.K (cH op')) (TDE X.K (ev G cl a)) (TDE X.K (ev G cl b)) (TDE X.K (ev G cl cc)) s H Q:=by
  intro s H Q m r hh d h' w st e c;simp only[ev] at e
  refine TDE.two (k:=λx y h=>(cH op x y h).bind λp h=>match p with
   |.bl true=>(ev G cl cc r h).bind λz h=>cH op' y z h
   |.bl false=>.ok (.bl false) h
   |_=>.bad) w st e λm2 H2 h2 dx dy x y g w2 rx ry e=>?_
  obtain⟨p,h3,e3,e⟩:=Rs.bind_ok e;obtain⟨k,rfl⟩:=mF e3;refine⟨m2,h2,dx,dy,_,h3,w2,rx,ry,e3,λm4 v H4 g4 w4 rv=>?_⟩;cases rv;refine⟨k,rfl,?_⟩;cases k with
  |false=>
   cases e;exact c m4 _ H4 (g.trans g4) w4 (.bl _)
  |true=>
   obtain⟨z,h5,e5,e⟩:=Rs.bind_ok (show((ev G cl cc r h3).bind λz h=>cH op' dy z h)=.ok d h' from e);exact⟨m4,r,h3,z,h5,w4,st.mono (g.trans g4),e5,λm5 v5 H5 g5 w5 r5=>⟨m5,h5,dy,z,d,h',w5,(ry.mono g4).mono g5,r5,e,λm6 v6 H6 g6 w6 r6=>c m6 v6 H6 (((g.trans g4).trans g5).trans g6) w6 r6⟩⟩
 have bl:∀{r hh d h'},ev G cl (.chn op op' a b cc) r hh=.ok d h'->∃k,d=.bl k:=by
  intro r hh d h' e;simp only[ev] at e;obtain⟨_,_,_,e⟩:=Rs.bind_ok e;obtain⟨_,_,_,e⟩:=Rs.bind_ok e;obtain⟨p,_,e3,e⟩:=Rs.bind_ok e;obtain⟨k,rfl⟩:=mF e3;cases k with
  |false=>cases e;exact⟨_,rfl⟩
  |true=>
   obtain⟨_,_,_,e⟩:=Rs.bind_ok e;exact mF e
 refine⟨(BV (pE xo.room op) (pE xo.room op') (h_a xo go).1 (h_b xo go).1 (h_c xo go).1 hm).wk λs H Q ⟨m,r,hh,d,h',w,st,e,c⟩=>im s H Q m r hh d h' w st e c,?_⟩;refine(BF (pE xo.room op) (pE xo.room op') (h_a xo go).1 (h_b xo go).1 (h_c xo go).1 hm).wk λs H Q ⟨m,r,hh,d,h',k,w,st,e,ek,c⟩=>im s H _ m r hh d h' w st e λm' v H' g w' rd=>?_;obtain⟨k',rfl⟩:=bl e;cases rd;have ek':k'=k:=Zg ek;subst ek';exact⟨k',rfl,c m' H' g w'⟩
theorem RDs.rev{K:W.Frag}{m:List Addr}{H:Hp}:∀{ds:List D}{vs:List V},RDs K m H ds vs->RDs K m H ds.reverse vs.reverse
 |_,_,.nil=>.nil
 |_,_,.cons r rs=>by
  rw[List.reverse_cons,List.reverse_cons];exact(RDs.rev rs).append (.cons r .nil)
end
noncomputable def Itc(x:Str):It:=⟨λi _=>i<x.cps.size,λi H y H'=>H'=H/\∃c,x.cps[i]? =some c/\y=.str ⟨#[c]⟩,λi _=>x.cps.size<=i⟩
theorem AG{P:Program}{w:World}{K:PySem.W.Frag}{tg:Expr}{x:Str}{t:Tok}{T:String}{it:Addr}(hn: ["enumerate","zip","dict_itemiterator","dict_reverseitemiterator","odict_iterator","itertools.zip_longest","itertools.pairwise"].contains T=false)
 (W:∀A':Around,A'.handled=none->Walks P w A' it [it] [it] x.cps.size (SignAt x) (λi h=>h.IsStrIter it T x t i))(hs:∀(A:Around)(i:Nat)(s:Shared)(Q:Value->Shared->Prop)(E:Value->Shared->Prop),s.heap.IsStrIter it T x t i->Q (.ref it) s->wpAny (model P w) A (pyIter (.ref it)) Q E s):
 Turn P w K tg (Itc x) [it] it (λi h=>i<=x.cps.size/\h.IsStrIter it T x t i) where
 mem:=by simp
 obj:=λi h st b hb=>by
  have e:b=it:=by simpa using hb
  subst e;obtain⟨_,o,e,c,d⟩:=st;exact⟨o,e,λv z=>by rw[d] at z;cases z⟩
 keep:=λi h h' st k=>⟨st.1,let⟨o,e,r⟩:=st.2;⟨o,k it (by simp) o e,r⟩⟩
 item:=by
  intro X hP hw hK hc i pins s σ H E I hf st hg;subst hP hw hK;obtain⟨f0,f1,f2,f3,f4,f5⟩:=hf it (by simp);refine(W X.A (I.ok.hd hc)).item i s _ _ hg st.2 λv h' tk hv st' kk=>?_;obtain⟨c,u,h1,rfl⟩:=hv;have I1:Inv X pins σ H {s with heap:=h',toks:=tk}:=I.turned (λb o hb e=>kk b o (by simpa using hb) e) f0 f1 f3 f4 f5;obtain⟨o,e1,e2,e3⟩:=id st';exact⟨_,rfl,wP (s:={s with heap:=h',toks:=tk}) (n:=T) e1 e2 e3 hn ⟨.str ⟨#[c]⟩,H,I1,⟨u,rfl⟩,⟨rfl,c,h1,rfl⟩,⟨hg,st'⟩,λb hb=>(hf b hb).1⟩⟩
 done:=by
  intro X hP hw hK hc i pins s σ H E I hf st hg;subst hP hw hK;obtain⟨f0,f1,f2,f3,f4,f5⟩:=hf it (by simp);obtain⟨s1,s2⟩:=st;have ei:i=x.cps.size:=Nat.le_antisymm s1 hg;subst ei;exact(W X.A (I.ok.hd hc)).done s _ _ s2 λh' tk eb=>⟨rfl,I.turned (t':=tk) (λb o hb e=>eb b o (by simpa using hb) e) f0 f1 f3 f4 f5⟩
 self:=λA i s Q E st h=>hs A i s Q E st.2 h
section
variable {N:List Str}{sc:Scope}{G:Gs}
theorem UJ{a:E}{x:Expr}(ha:SE N sc G a x):QV N sc G .st (.cons a .nil) x:=λ{X ca cl} xo go {t tg ft fe N' cap} tk pins s σ H m r h xs h1 h' I w st e1 e3=>by
 have hp:=(ha xo go).1;rw[cW] at e1;obtain⟨x,h5,ex,e1⟩:=Rs.bind_ok e1;rw[cW] at e1;obtain⟨_,_,e4,e1⟩:=Rs.bind_ok e1;cases e4;cases e1;obtain⟨y,rfl⟩:∃y,x=.str y:=by cases x<;>first |exact⟨_,rfl⟩|(cases e3;done)
 simp only[fU] at e3;split at e3<;>first |(cases e3;done)|skip
 refine bP (hp pins s σ H (λv H'=>∃m',Gr X.K m H m' H'/\Wd X.K m' h1 H'/\RD X.K m' H' (.str y) v) I ⟨m,r,h,_,_,w,st,ex,λm' v H' g w' rv=>⟨m',g,w',rv⟩⟩) λu s1 ⟨v,H1,I1,rv,m1,g1,w1,rd⟩=>?_;cases rd;obtain⟨tt,rfl⟩:=rv
 have tl:hV X.K t ft fe h1.length h' (Itc y) m1 H1 (bA N' cap r) (h1++ [.lst []]):=by
  refine fX e3 (λi d m H g ed=>?_) λi m H g hi=>?_
  ·rw[Zi,Option.map_eq_some_iff] at ed;obtain⟨c,ec,rfl⟩:=ed;have ec':y.cps[i]? =some c:=by rw[<- Array.getElem?_toList];exact ec
   refine⟨(Array.getElem?_eq_some_iff.mp ec').1,λz H' ⟨q1,c',q2,q3⟩=>?_⟩;rw[ec'] at q2;cases q2;subst q3;exact⟨q1,.str _⟩
  ·rw[Zc,Array.length_toList] at hi;exact hi
 have fin:∀(T:String)(o:Obj),o.cls=.type T->o.data=.fields #[.str y tt,.int 0 0]->o.isFreed=false->["enumerate","zip","dict_itemiterator","dict_reverseitemiterator","odict_iterator","itertools.zip_longest","itertools.pairwise"].contains T=false->
  (∀A':Around,A'.handled=none->Walks X.prog X.w A' s1.heap.objs.size [s1.heap.objs.size] [s1.heap.objs.size] y.cps.size (SignAt y) (λi h=>h.IsStrIter s1.heap.objs.size T y tt i))->(∀(A:Around)(i:Nat)(s:Shared)(Q:Value->Shared->Prop)(E:Value->Shared->Prop),s.heap.IsStrIter s1.heap.objs.size T y tt i->Q (.ref s1.heap.objs.size) s->wpAny (model X.prog X.w) A (pyIter (.ref s1.heap.objs.size)) Q E s)->
  LJ X pins σ tg (λJ H2=>∃(m2:List Addr)(h2:Hh),h2.length=h1.length/\Gr X.K m H m2 H2/\Wd X.K m2 h2 H2/\hV X.K t ft fe h2.length h' J m2 H2 (bA N' cap r) (h2++ [.lst []])) (.ref s1.heap.objs.size) {s1 with heap:=s1.heap.push o}:=λT o o1 o2 of hn W hs=>by
  refine⟨s1.heap.objs.size,[s1.heap.objs.size],_,_,H1,rfl,I1.kept (t':=s1.toks) λb o e=>Zf _ e,AG hn W hs,⟨Nat.zero_le _,o,Heap.get?_push_size _ of,o1,o2⟩,λb hb=>?_,m1,h1,rfl,g1,w1,tl⟩;have e:b=s1.heap.objs.size:=by simpa using hb
  subst e;exact I1.fpOk (Zn _) (I1.hok.fresh (Zn _))
 cases hal:y.cps.all (·<128)
 ·exact wpAny_pyIter_wide hal (fin "str_iterator" _ rfl rfl rfl (by decide) (λA' hA=>Walks.strWide hA _ y tt) λA i s Q E st h=>wpAny_pyIter_striter_wide st h)
 ·exact wpAny_pyIter_ascii hal (fin "str_ascii_iterator" _ rfl rfl rfl (by decide) (λA' hA=>Walks.strAscii hA _ y tt) λA i s Q E st h=>wpAny_pyIter_striter_ascii st h)
theorem OG{a:E}{ox:Expr}{ap cp:Pos}(hb:∀env:Env,attributeBase ox "items" env (eval ox env)=eval ox env)(h2:(ap.endLine==cp.line)=true)(ha:SE N sc G a ox):QV N sc G .itf (.cons a .nil) (.Call (.Attribute ox "items" ap) [] [] cp):=λ{X ca cl} xo go {t tg ft fe N' cap} tk pins s σ H m r h xs h1 h' I w st e1 e3=>by
 have hp:=(ha xo go).1;rw[cW] at e1;obtain⟨x,h5,ex,e1⟩:=Rs.bind_ok e1;rw[cW] at e1;obtain⟨_,_,e4,e1⟩:=Rs.bind_ok e1;cases e4;cases e1;obtain⟨n,rfl⟩:∃n,x=.ref n:=by cases x<;>first |exact⟨_,rfl⟩|(cases e3;done)
 simp only[fU] at e3;split at e3
 ·rename_i l el;cases tg<;>first |(cases tk;done)|skip
  rename_i elts j tp;refine wpAny_Call_method0_late (hb X.env) h2 (bP (hp pins s σ H (λv H'=>∃m',Gr X.K m H m' H'/\Wd X.K m' h1 H'/\RD X.K m' H' (.ref n) v) I ⟨m,r,h,_,_,w,st,ex,λm' v H' g w' rv=>⟨m',g,w',rv⟩⟩) λu s1 ⟨v,H1,I1,rv,m1,g1,w1,rd⟩=>?_);have el':dN h1 (.ref n)=some l:=by simp only[dN,el]
  obtain⟨n',d,xs,us,o,es,ep,en,rfl,_,hd,x1,x2,go',x3,x4,x5,x6,_⟩:=qW I1 w1 rd el';obtain rfl:u=Value.ref d:=rv;obtain⟨d1,d2,d4,d5,⟨P0,w0,d6⟩,d7⟩:=id x2;have ty:s1.TypeIs (.ref d) "dict":=⟨o,go',d4.1⟩;refine⟨"dict","dict.items",PySem.F.plainAttrs_dict,PySem.F.slot_dict_items,PySem.F.type_dict_items,ty,λb q=>by cases q;exact⟨o,go',d4.2.1⟩,Calls.callWith_builtin rfl (PySem.evalArgs_none ?_)⟩;refine call_meetsIn PySem.F.slot_dict_items ty PySem.F.entry_dict_items (PySem.F.args_dict_items_1 _) (sK d d1) ⟨ty,?_⟩;have k1:∀b u,s1.heap.get? b=some u->(s1.heap.push {cls:=.type "dict_items",data:=.fields #[.ref d]}).get? b=some u:=λb u q=>Zf _ q;have I2:=I1.kept (t':=s1.toks) k1;refine CI (ov:={cls:=.type "dict_items",data:=.fields #[.ref d]}) (od:=o) (es:=es) (ep:=ep) (Heap.get?_push_size _ rfl) rfl rfl (k1 _ _ go') d5 ?_;generalize hs2:(s1.heap.push {cls:=.type "dict_items",data:=.fields #[.ref d]})=g2 at I2 k1⊢;have d3':=k1 _ _ go';have k2:∀b u,g2.get? b=some u->(g2.push {cls:=.type "dict_itemiterator",data:=.fields #[.none,.bool false,.ref d,.int 0 0,.int es.size 0,.int ep 0,.none,.none]}).get? b=some u:=λb u q=>Zf _ q;have I3:=L2.Inv.kept (s:={s1 with heap:=g2}) (t':=s1.toks) I2 k2;obtain⟨ks,b1,b0,b2,b3⟩:=vS x3 x4 x5 x6
  have esz:es.size=ks.length:=by
   have:=congrArg List.length d6;simp at this;omega
  have hit:H1 g2.objs.size=none:=I2.hok.fresh (Zn g2.objs.size);refine⟨g2.objs.size,[g2.objs.size],_,Itd d o ks,_,rfl,I3,uA (it:=g2.objs.size) d5 esz (λi k v e=>?_),⟨.none,.none,by rw[<- esz];exact Heap.get?_push_size _ rfl⟩,λb hb=>?_,m1,h1,rfl,g1,w1,?_⟩
  ·obtain⟨x,f1,f2,f3⟩:=b2 i k v e;refine⟨entryOfKey (tupleKind (intKind P0 w0)) x,?_,by rw[<- f2];rfl,f3⟩;rw[<- Array.getElem?_toList,d6,Zi,f1];rfl
  ·have e:b=g2.objs.size:=by simpa using hb
   subst e;exact L2.Inv.fpOk I2 (Zn _) hit
  ·refine tX e3 (λi dd m h H g w e=>?_) λi m H g hi=>⟨g.frz _ _ _ x1,by rw[Zc] at hi;omega⟩;rw[Zi,Option.map_eq_some_iff] at e;obtain⟨p,ep',rfl⟩:=e;obtain⟨k,v,c1,c2,c3⟩:=b3 i p ep';refine⟨⟨g.frz _ _ _ x1,(Ze.mp c1).1⟩,λx H' ⟨q,k',v',y1,y2,y3,y4⟩=>?_⟩;rw[c1] at y2;cases y2;subst y3 y4;have gt:=Gr.tupNew (K:=X.K) (m:=m) (o:=.tup [.ref k,v]) y1;exact⟨gt,w.keepNew y1,.tup (.of aZ) (.cons (.tup (gt.tup _ _ (g.tup _ _ c2)) (RDs.ints p.1)) (.cons ((c3.mono g).mono gt) .nil))⟩
 ·cases e3
end
theorem QD(kx vx tg1 iter1:Expr)(scope:Scope)(pos:Pos)(it:Value)(Dn:Addr)(env:Env):compTurn (.DictComp kx vx [⟨tg1,iter1,[],0⟩] scope pos) 0 it (.ref Dn) env=
 fY tg1 iter1.pos it env (DV kx vx Dn env) (again (.compLoop (.DictComp kx vx [⟨tg1,iter1,[],0⟩] scope pos) 0 it (.ref Dn) env)):=by rfl
noncomputable def tFb(fk fv:Ev->Hh->Rs D)(n0:Nat):Ev->Hh->Rs Ev:=λr h=>(fk r h).bind λy h=>(fv r h).bind λz h=>(nZ n0 y z h).bind λ_ h=>.ok r h
theorem HV{X:Cx}{pins:List (Addr×Obj)}{σ:Sg}{H:Hp}{s:Shared}{m:List Addr}{h:Hh}{n:Nat}{a:Addr}{l:List (List Int×D)}(I:Inv X pins σ H s)(w:Wd X.K m h H)(el:h[n]? =some (.dtt l))(ha:m[n]? =some a):
 ∃o:Obj,(∃u,H a=some u)/\Inv X pins σ (bS H a (.frz o (.own a))) s/\Gr X.K m H m (bS H a (.frz o (.own a)))/\Wd X.K m (h.set n (.dtf l)) (bS H a (.frz o (.own a))):=by
 obtain⟨xs,us,x1,x2,x3,x4,x5⟩:RO X.K m H a (.dtt l):=w.ob n _ a el ha;obtain⟨d1,d2,P0,w0,o,es,ep,d3,d4,d5,d6,d7⟩:=Dtt.of I x1;have I4:=kG (a:=a) (ob:=.frz o (.own a)) (h':=s.heap) (t':=s.toks) I (by rw[x1];exact True.intro) ⟨rfl,λ_ _=>rfl⟩ ⟨o,d3⟩ ⟨d3,o,d3⟩;obtain⟨w2,gg2⟩:=w.objSet (o':=.dtf l) (u:=.frz o (.own a)) el rfl ha λg=>⟨xs,us,o,es,ep,aZ,⟨d1,d2,d4,d5,⟨P0,w0,d6⟩,d7⟩,x2,λx hx=>g.tup _ _ (x3 x hx),x4.mono g,x5⟩;exact⟨o,⟨_,x1⟩,I4,gg2,w2⟩
theorem yN{H:Hp}{a b:Addr}(ha:∃u,H a=some u)(hb:H b=none):b≠a:=λz=>by
 obtain⟨u,hu⟩:=ha;rw[z,hu] at hb;cases hb
section
variable {X:Cx}{pins:List (Addr×Obj)}{σ:Sg}{H:Hp}{s:Shared}
theorem IB{A:Around}{E:Value->Shared->Prop}{Q:Unit->Shared->Prop}{m:List Addr}{h:Hh}(hu:A.units+1<cLine)(I:Inv X pins σ H s)(w:Wd X.K m h H){n:Nat}{a b:Addr}{l:List (List Int×D)}{k:List Int}{z:D}{vz:V}{uz:Value}(hn:h[n]? =some (.dtt l))(ha:m[n]? =some a)(hl:l.length<1000)
 (hb:SqT X.K H b (k.map V.int))(rz:RD X.K m H z vz)(sz:RelV vz uz)(c:∀s' H',Inv X pins σ H' s'->Gr X.K m H m H'->Wd X.K m (h.set n (.dtt (oN l k z))) H'->Q () s'):wpAny (model X.prog X.w) A (dictSet a (.ref b) uz) Q E s:=by
 obtain⟨xs,us,h1,h2,h3,h4,h5⟩:RO X.K m H a (.dtt l):=w.ob n _ a hn ha;obtain⟨d1,d2,P0,w0,o,es,ep,d3,d4,d5,d6,d7⟩:=Dtt.of I h1;have xl:l.length=xs.length:=by have:=congrArg List.length h2;simpa using this
 have dd:s.heap.DictOfH (tupleKind (intKind X.prog X.w)) a xs:=⟨o,es,ep,d3,d4,d5,d6.trans (by rw[nY P0 X.prog w0 X.w]),λx hx=>uY I (h3 x hx),d7⟩
 refine wpAny_dictSet_heap (hsz:=by have:(1000:Nat)<=sizeLine:=by decide
                                    omega) (Nat.lt_of_succ_lt hu) (uY I hb) dd λg dd' hs=>?_
 obtain⟨o',es',ep',e3,e4,e5,e6,_,e7⟩:=dd';have dn:Dtt a (storedH xs k b uz) g:=⟨d1,by have:=mR (xs:=xs) (k:=k) (b:=b) (u:=uz);omega,X.prog,X.w,o',es',ep',e3,e4,e5,e6,e7⟩;obtain⟨us',f1,f2,f3,f4⟩:=sB hb rz sz h2 h3 h4 h5;obtain⟨w2,g2⟩:=w.objSet (o':=.dtt (oN l k z)) (u:=.ext (Dtt a (storedH xs k b uz))) hn rfl ha λg=>⟨storedH xs k b uz,us',aZ,f1,λx hx=>g.tup _ _ (f2 x hx),f3.mono g,f4⟩;exact c _ _ (kG I (by rw[h1];exact True.intro) hs ⟨o',e3⟩ (vK dn)) g2 w2
end
section
variable {Y:Cx}{kx vx:Expr}{fk fv:Ev->Hh->Rs D}{n0 acc:Nat}
theorem MZ(hxe:Y.xe=iX)(hr:∃k,Room k Y.A)(pk:PE Y kx (TDE Y.K fk))(pvx:PE Y vx (TDE Y.K fv)):PB Y (DV kx vx acc Y.env) n0 acc (tFb fk fv n0):=by
 intro pins s σ H m r h r' h' I w st hm e Z E ag hag;obtain⟨y,h1,e1,e⟩:=Rs.bind_ok e;obtain⟨z,h2,e2,e⟩:=Rs.bind_ok e;obtain⟨u,h3,e3,e⟩:=Rs.bind_ok e;cases e;have no:∀{E:Value->Shared->Prop}(e:Value)(s:Shared),iX e s->E e s:=λ_ _ f=>f.elim;unfold DV;have p1:=pk pins s σ H (λv H1=>∃m1,Gr Y.K m H m1 H1/\Wd Y.K m1 h1 H1/\RD Y.K m1 H1 y v) I ⟨m,r,h,y,h1,w,st,e1,λm' v H' g w' rv=>⟨m',g,w',rv⟩⟩;rw[hxe] at p1;refine Za (Za (wpAny_mono p1 (λkv s1 ⟨ky,H1,I1,rk,m1,g1,w1,rdk⟩=>?_) no));have p2:=pvx pins s1 σ H1 (λv H2=>∃m2,Gr Y.K m1 H1 m2 H2/\Wd Y.K m2 h2 H2/\RD Y.K m2 H2 z v) I1 ⟨m1,r,h1,z,h2,w1,st.mono g1,e2,λm' v H' g w' rv=>⟨m',g,w',rv⟩⟩;rw[hxe] at p2;refine Za (wpAny_holding (wpAny_mono p2 (λvv s2 ⟨vy,H2,I2,rv,m2,g2,w2,rdv⟩=>?_) no));refine Za (wpAny_standAt (wpAny_holding ?_));have hm2:=g2.pre _ _ (g1.pre _ _ hm);unfold nZ at e3;split at e3<;>first |(cases e3;done)|skip
 rename_i l el;unfold xF at e3;obtain⟨ds,rfl⟩:∃ds,y=.tup ds:=by cases y<;>first |exact⟨_,rfl⟩|(cases e3;done)
 have rdk2:=rdk.mono g2;cases rdk2 with
 |tup hq q=>
  simp only at e3;split at e3<;>first |(cases e3;done)|skip
  rename_i k ek;split at e3<;>first |(cases e3;done)|skip
  rename_i hl;cases e3;cases rk;have ev:=gW q ek;subst ev;obtain⟨kk,hr⟩:=hr;have hun:=hr.units;exact IB (by omega) I2 w2 el hm2 hl hq rdv rv λs' H' I' g' w'=>hag s' m2 σ H' I' ((g1.trans g2).trans g') w' (st.mono ((g1.trans g2).trans g'))
end
section
variable {X:Cx}{N':List Str}{scope:Scope}{cap:List Nat}{kx vx tg1 iter1:Expr}{pos:Pos}{t1:Tg}{fk fv:Ev->Hh->Rs D}
structure TBlk (Y:Cx)(K:W.Frag)(tg1 kx vx:Expr)(t1:Tg)(fk fv:Ev->Hh->Rs D):Prop where
 g1:PG Y tg1 (tT K t1)
 rm:∃k,Room k Y.A
 k:PE Y kx (TDE K fk)
 v:PE Y vx (TDE K fv)
theorem ID{pins:List (Addr×Obj)}{σ:Sg}{H2:Hp}{s2:Shared}{fp:List Addr}{it a:Addr}{tn:Nat->Heap->Prop}{m2:List Addr}{h2 h':Hh}{r:Ev}{n k0:Nat}(S:ScOk scope X.env.scope)(hcap:cap.length<=N'.length)
 (hN:(N'.drop (N'.length-cap.length)).map some=cap.map (λ(i:Nat)=>X.N[i]?))(hfr:∀x∈N'.drop (N'.length-cap.length),scope.names.lookup x=some .free)(calm:X.calm=true)
 (blk:∀(C:Addr)(s3:Shared)(H3:Hp)(fp:List Addr),TBlk (cQ X N' scope C s3 H3 fp) X.K tg1 kx vx t1 fk fv)
 (I:Inv X pins σ H2 s2)(T:Turn X.prog X.w X.K tg1 (LL X.K a) fp it tn)(st:tn 0 s2.heap)(fok:∀b∈fp,gO X pins H2 b)(w2:Wd X.K m2 h2 H2)(rst:RSt X.K m2 H2 r σ)(ha:m2[n]? =some a)
 (e:DO t1 fk fv h2.length n k0 0 (bA N' cap r) (h2++ [.dtt []])=.ok () h')
 {Rr:Value->Addr->Result->Shared->Prop}
 (c:∀(acc C:Addr)(s1:Shared)(H':Hp)(m':List Addr),Inv X pins σ H' s1->(∃mm,s1.heap.Ns C mm)->H' C=none->C≠X.env.locals->X.s₀.heap.objs.size<=C->(∀x a,X.env.cells.lookup x=some a->a≠C)->(∀p∈X.pn++pins,p.1≠C)->Gr X.K m2 H2 m' H'->Wd X.K m' h' H'->RD X.K m' H' (.ref h2.length) (.ref acc)->Rr (.ref acc) C (.ok .next) s1):
 wpAny (model X.prog X.w) X.A newDict (λacc s3=>wpAny (model X.prog X.w) X.A (newFunctionEnv scope X.env.globals (lW scope X.env) [] X.env.qual none .none (some X.env)) (λcenv s4=>
  codeAny (model X.prog X.w) X.A (.compStart (.DictComp kx vx [⟨tg1,iter1,[],0⟩] scope pos) 0 (.ref it) acc {cenv with scope:=relabel scope X.env}) (Rr acc cenv.locals) s4) X.xe s3) X.xe s2:=by
 have fob:∀b∈fp,b<s2.heap.objs.size:=λb hb=>let⟨o,e,_⟩:=T.obj 0 _ st b hb;Heap.lt_size e
 have ffb:∀b∈fp,∀o,X.base.get? b≠some o:=λb hb o e=>by
  rcases(fok b hb).2.2.2.1 with z|z
  ·exact I.ok.noex b o e z
  ·exact absurd (Nat.lt_of_lt_of_le (Heap.lt_size (I.ok.bs b o e).1) z) (Nat.lt_irrefl _)
 have hacc0:H2 s2.heap.objs.size=none:=I.hok.fresh (Zn _);refine wpAny_newObj_type (dH (λh1 hns keep cok=>?_));dsimp only at hns keep cok⊢;obtain⟨w3,g3⟩:=w2.objNew (o:=.dtt []) (u:=.ext (Dtt s2.heap.objs.size [])) hacc0 λ_=>⟨[],[],aZ,rfl,(λx hx=>by cases hx),.nil,.nil⟩
 have I3:Inv X pins σ (bS H2 s2.heap.objs.size (.ext (Dtt s2.heap.objs.size []))) {s2 with heap:=s2.heap.push {cls:=.type "dict",dict:=none,data:=.dict #[]}}:=
  I.laid (t':=s2.toks) (λb u e=>Zf _ e) (Zn _) (vK ⟨beq_eq_false_iff_ne.mpr (Ne.symm (Nat.ne_of_lt I.big)),Nat.zero_le _,X.prog,X.w,_, #[],_,Heap.get?_push_size _ rfl,⟨rfl,rfl,rfl⟩,rfl,rfl,List.nodup_nil⟩)
 have fok3:∀b∈fp,gO X pins (bS H2 s2.heap.objs.size (.ext (Dtt s2.heap.objs.size []))) b:=λb hb=>⟨by rw[aM (Nat.ne_of_lt (fob b hb))];exact(fok b hb).1,(fok b hb).2⟩;have st3:tn 0 h1:=T.keep _ _ _ st λb hb o e=>keep b o (Zf _ e);have B:=vN (env:=X.env) S (λx c e=>let⟨_,q⟩:=I3.cell x c e;q.lt) cok
 have I4:=lE (N':=N') (scope:=scope) (fp:=fp) (cap:=cap) I3 S hcap hN hfr (h1:=h1) (tk:=s2.toks) hns keep B fok3 (λb hb=>by
  show b<(s2.heap.push _).objs.size;rw[Heap.size_push];exact Nat.lt_succ_of_lt (fob b hb)) ffb
 have hsz:(s2.heap.push {cls:=.type "dict",dict:=none,data:=.dict #[]}).objs.size=s2.heap.objs.size+1:=Heap.size_push ..;generalize hs3:({s2 with heap:=s2.heap.push {cls:=.type "dict",dict:=none,data:=.dict #[]}}:Shared)=s3 at I3 I4;have eh3:s2.heap.push {cls:=.type "dict",dict:=none,data:=.dict #[]}=s3.heap:=by rw[<- hs3]
 rw[eh3] at hns keep cok B hsz⊢;generalize hH3:bS H2 s2.heap.objs.size (.ext (Dtt s2.heap.objs.size []))=H3 at I3 I4 w3 g3 fok3;have b:=blk s3.heap.objs.size s3 H3 fp;have hac:(m2++ [s2.heap.objs.size])[h2.length]? =some s2.heap.objs.size:=by rw[<- w2.len];simp
 have stkN:∀b,b≠X.env.locals->b ∉ X.fs->b ∉ jZ X.stack:=λb h1 h2 hb=>(List.mem_cons.mp (I3.stkSub b hb)).elim h1 h2
 have fokB:∀{H:Hp},(∀b∈fp,H b=none)->∀b∈fp,gO (cQ X N' scope s3.heap.objs.size s3 H3 fp) [] H b:=λhn b hb=>
  ⟨hn b hb,Nat.ne_of_lt (by rw[hsz];exact Nat.lt_succ_of_lt (fob b hb)),stkN b (fok b hb).2.1 (fok b hb).2.2.1,.inl hb,λx c e=>(B.inv x c e).elim (λa=>(fok b hb).2.2.2.2.1 x c (bQ a)) (λa=>Nat.ne_of_gt (Nat.lt_trans (by rw[hsz];exact Nat.lt_succ_of_lt (fob b hb)) a.1)),λp hp=>absurd (show p∈([]:List (Addr×Obj)) from hp) (by simp)⟩
 have loop:∀s4:Shared,s4={s3 with heap:=h1,toks:=s2.toks}->codeAny (model X.prog X.w) X.A (.compLoop (.DictComp kx vx [⟨tg1,iter1,[],0⟩] scope pos) 0 (.ref it) (.ref s2.heap.objs.size) (compEnvC scope (zS scope X.env s3.heap.objs.size) s3.heap.objs.size X.env)) (Rr (.ref s2.heap.objs.size) s3.heap.objs.size) s4:=by
  rintro s4 rfl
  refine yQ (Y:=cQ X N' scope s3.heap.objs.size s3 H3 fp) (m2:=m2++ [s2.heap.objs.size]) (H2:=H3) (n0:=h2.length) (acc:=s2.heap.objs.size) (e:=.DictComp kx vx [⟨tg1,iter1,[],0⟩] scope pos) (pins:= []) (t:=t1) (End:=λ_ h=>h=h') rfl (QD ..) calm b.g1 rfl
   (MZ rfl b.rm b.k b.v) T (λi k r h=>DO t1 fk fv h2.length n k i r h=.ok () h') (λi k r h m H g w e=>?_) hac fokB I4 st3 (λb hb=>(fok3 b hb).1) .refl w3 (jJ (rst.mono g3)) e λs' σ' H' m' r' hh I1 g' w' st' eh=>?_
  ·cases k with
   |zero=>cases e
   |succ k=>
    simp only[DO] at e;split at e
    ·cases e
    ·rename_i l el;obtain⟨a',vs,ha',hq,q⟩:=w.lst el;rw[g.pre _ _ (g3.pre _ _ ha)] at ha';cases ha';split at e
     ·rename_i en;cases e;exact .inl ⟨⟨vs,hq,by rw[<- q.length];exact List.getElem?_eq_none_iff.mp en⟩,rfl⟩
     ·rename_i d ed;obtain⟨v,hv,rv⟩:=q.get ed;split at e
      ·cases e
      ·rename_i r1 er;obtain⟨y,h5,ey,e⟩:=Rs.bind_ok e;obtain⟨z,h6,ez,e⟩:=Rs.bind_ok e;obtain⟨_,h7,e7,e⟩:=Rs.bind_ok e;refine .inr ⟨⟨vs,v,hq,hv⟩,d,λx H' y=>?_,r1,er,r1,h7,?_,k,Nat.lt_succ_self _,e⟩
       ·obtain⟨eH,y⟩:=y;have:=y vs hq;rw[hv] at this;cases this;exact⟨eH,rv⟩
       ·unfold tFb;rw[ey]
        show((fv r1 h5).bind λz h=>(nZ h2.length y z h).bind λ_ h=>.ok r1 h)=_
        rw[ez]
        show((nZ h2.length y z h6).bind λ_ h=>.ok r1 h)=_
        rw[e7];rfl
  ·subst eh;obtain⟨mm,hn1,_⟩:=id I1.loc;obtain⟨hp1,gg,dr,tk,os⟩:=s';obtain rfl:os=s3.os:=I1.os;have IX:Inv X pins σ H' {s3 with heap:=hp1,gens:=gg,drawn:=dr,toks:=tk}:=I3.call (ch:=fp) I1.base I1.hok I1.bare λb hb=>⟨(fok3 b hb).2.2.2.1,(fok3 b hb).2.1,(fok3 b hb).2.2.2.2.1,(fok3 b hb).2.2.2.2.2⟩
   exact c _ _ _ H' m' IX ⟨mm,hn1⟩ I1.free (Nat.ne_of_gt I3.lt) I3.sz (λx a e=>by
    obtain⟨v,q⟩:=I3.cell x a e;exact Nat.ne_of_lt q.lt) (λp hp=>Nat.ne_of_lt (Heap.lt_size (I3.pin p hp).1)) (g3.trans g') w' (.ref (g'.pre _ _ hac))
 have es:({s2 with heap:=h1,toks:=s2.toks}:Shared)={s3 with heap:=h1,toks:=s2.toks}:=by subst hs3;rfl
 exact codeAny_compStart_dict (loop _ es) (T.self X.A 0 _ _ _ st3 (loop _ es))
theorem VN{N:List Str}{sc:Scope}{fo f:Ev->Hh->Rs D}{N'':List Str}{cp:List Nat}(hp:PE X iter1 (TDE X.K fo))(hf:∀r h,f r h=(fo r h).bind λx h=>VP t1 fk fv x (bA N'' cp r) h)
 (pins:List (Addr×Obj))(s:Shared)(σ:Sg)(H:Hp)(m:List Addr)(r:Ev)(h:Hh)(d:D)(h':Hh)(I:Inv X pins σ H s)(w:Wd X.K m h H)(st:RSt X.K m H r σ)(e:f r h=.ok d h'):
 ∃h1 n k0 h2,DO t1 fk fv h1.length n k0 0 (bA N'' cp r) (h1++ [.dtt []])=.ok () h2/\VO h1.length h2=.ok d h'/\wpAny (model X.prog X.w) X.A (eval iter1 X.env) (λv s1=>wpAny (model X.prog X.w) X.A (pyIter v)
  (LJ X pins σ tg1 λJ H2=>∃a m2,J=LL X.K a/\Gr X.K m H m2 H2/\Wd X.K m2 h1 H2/\m2[n]? =some a) X.xe s1) X.xe s:=by
 rw[hf] at e;obtain⟨x,h1,ex,e⟩:=Rs.bind_ok e;unfold VP at e;split at e
 ·rename_i n;split at e
  ·rename_i l el;obtain⟨u,h2,e2,e⟩:=Rs.bind_ok e;refine⟨h1,n,l.length+1,h2,e2,e,?_⟩;refine qM hp pins s σ H _ I ⟨m,r,h,_,_,w,st,ex,λm' v H' g w' rv=>?_⟩;cases rv with
   |ref ha=>
    obtain⟨a',vs,ha',hq,_⟩:=w'.lst el;rw[ha] at ha';cases ha';exact⟨_,rfl,⟨_,hq⟩,_,m',rfl,g,w',ha⟩
  ·cases e
 ·cases e
theorem VL{N:List Str}{sc:Scope}{fo f:Ev->Hh->Rs D}(xo:XOk X N sc)(S:ScOk scope sc)(hcap:cap.length<=N'.length)(hN:(N'.drop (N'.length-cap.length)).map some=cap.map (λ(i:Nat)=>N[i]?))(hfr:∀x∈N'.drop (N'.length-cap.length),scope.names.lookup x=some .free)
 (blk:∀(C:Addr)(s3:Shared)(H3:Hp)(fp:List Addr),TBlk (cQ X N' scope C s3 H3 fp) X.K tg1 kx vx t1 fk fv)(hset:pF iter1=true)(hp:PE X iter1 (TDE X.K fo))(hf:∀r h,f r h=(fo r h).bind λx h=>VP t1 fk fv x (bA N' cap r) h):
 PE X (.DictComp kx vx [⟨tg1,iter1,[],0⟩] scope pos) (TDE X.K f):=by
 intro pins s σ H Q I ⟨m,r,h,d,h',w,st,e,c⟩;obtain⟨h1,n,k0,h2,e1,ez,hw⟩:=VN (N:=N) (sc:=sc) (tg1:=tg1) hp hf pins s σ H m r h d h' I w st e;have S':ScOk scope X.env.scope:=by rw[xo.s];exact S
 show wpAny _ X.A (comprehension (.DictComp kx vx [⟨tg1,iter1,[],0⟩] scope pos) scope X.env _ newDict false (eval iter1 X.env)) _ _ s;refine wpAny_comprehension_free (use:=none) rfl (λz=>by cases iter1<;>first |rfl|(cases hset;done)) (gJ λp hp e=>I.ok.has p.1 (.inl (S'.free p hp e))) S.kind S.loc ?_;refine bP hw λv s1 q1=>bP q1 λitv s2 q2=>?_;obtain⟨it,fp,tn,J,H2,rfl,I2,T,st2,fok,a,m2,rfl,g2,w2,ha⟩:=q2;refine ID (Rr:=λacc C=>compPost (model X.prog X.w) X.A X.xe none (EP X pins σ Q) acc C) S' hcap (by rw[xo.n];exact hN) hfr xo.calm blk I2 T st2 fok w2 (st.mono g2) ha e1 λacc C s1 H' m' I1 ⟨mm,hn⟩ hC hL hz hc hp g' w' rv=>?_;unfold VO at ez;split at ez<;>first |(cases ez;done)|skip
 rename_i l el;cases ez;cases rv with
 |ref hm=>
  obtain⟨o,nC,IZ,gZ,wZ⟩:=HV I1 w' el hm;exact⟨mm,hn,λhh hsb=>⟨.ref acc,_,IZ.turned (λb o hb e=>hsb.extBut b o hb e) (by rw[aM (yN nC hC)];exact hC) (Ne.symm (Ne.symm hL)) (.inr hz) hc hp,rfl,c m' _ _ ((g2.trans g').trans gZ) wZ (.ref hm)⟩⟩
end
section
variable {N:List Str}{sc:Scope}{G:Gs}
theorem PK{t:Tg}{k v:E}{N':List Str}{cap:List Nat}{kx vx tg:Expr}{scope:Scope}(B:Blk N sc N' cap scope)(ht:iR N' scope t tg=true)(h_k:SE N' (cY scope sc) G k kx)(h_v:SE N' (cY scope sc) G v vx)
 {X:Cx}{ca:Nat->Addr}{cl:Cl}(xo:XOk X N sc)(go:GOk X G ca cl)(C:Addr)(s3:Shared)(H3:Hp)(fp:List Addr):TBlk (cQ X N' scope C s3 H3 fp) X.K tg kx vx t (ev G cl k) (ev G cl v):=
 ⟨GE (eJ xo B.nd C s3 H3 fp) (mG (by rw[xo.s];exact B.S) C s3 H3 fp) ht,(eJ xo B.nd C s3 H3 fp).room,
  (h_k (eJ xo B.nd C s3 H3 fp) (lG go C s3 H3 fp)).1,(h_v (eJ xo B.nd C s3 H3 fp) (lG go C s3 H3 fp)).1⟩
theorem QB{t:Tg}{i k v:E}{N':List Str}{cap:List Nat}{kx vx tg iter:Expr}{scope:Scope}{pos:Pos}(B:Blk N sc N' cap scope)(ns:pF iter=true)(ht:iR N' scope t tg=true)
 (h_i:SE N sc G i iter)(h_k:SE N' (cY scope sc) G k kx)(h_v:SE N' (cY scope sc) G v vx):SE N sc G (.dcT t i k v N' cap) (.DictComp kx vx [⟨tg,iter,[],0⟩] scope pos):=λ{X ca cl} xo go=>by
 have p:PE X (.DictComp kx vx [⟨tg,iter,[],0⟩] scope pos) (TDE X.K (ev G cl (.dcT t i k v N' cap))):=VL xo B.S B.capL B.nN B.fr (PK B ht h_k h_v xo go) ns (h_i xo go).1 λr h=>by rw[ev]
 exact⟨p,jM p λ_=>rfl⟩
end
section
variable {prog:Program}{w:World}{A:Around}{E:Value->Shared->Prop}
end
section
variable {X:Cx}
end
section
variable {N:List Str}{sc:Scope}{G:Gs}
end
section
variable {N:List Str}{sc:Scope}{G:Gs}
theorem sD{K:W.Frag}{m:List Addr}{H:Hp}{f:Str}{z:D}{v:V}(rz:RD K m H z v):∀{fs:List (Str×D)}{us:List (Str×V)},fs.map (·.1)=us.map (·.1)->RDs K m H (fs.map (·.2)) (us.map (·.2))->
 (qK f z fs).map (·.1)=(fQ f v us).map (·.1)/\RDs K m H ((qK f z fs).map (·.2)) ((fQ f v us).map (·.2))
 | [],[],_,_=>⟨rfl,.cons rz .nil⟩
 |(k,d)::fs,(k',u)::us,h,r=>by
  obtain⟨h1,h2⟩:=List.cons.inj (show k::fs.map (·.1)=k'::us.map (·.1) from h);subst h1;cases r with
  |cons r1 r=>
   obtain⟨i1,i2⟩:=sD rz h2 r;unfold qK fQ
   by_cases q:k=f
   ·rw[if_pos q,if_pos q];exact⟨h,.cons rz r⟩
   ·rw[if_neg q,if_neg q];exact⟨by rw[Zh,Zh,i1],.cons r1 i2⟩
 | [],_::_,h,_=>by cases h
 |_::_,[],h,_=>by cases h
theorem oA{o a:E}{cn f:Str}{x v:Expr}{px pos:Pos}(hG:(cn,f)∈G.atts)(hs:∀env:Env,swapsWith v (some (.Attribute x f px)) pos.line env=pure false)(h_a:SE N sc G a v)(h_o:SE N sc G o x):SS N sc G (.sfl o cn f a) (.Assign [.Attribute x f px] v pos):=λ{X ca cl W Wx rz} xo go hfn xx hz=>by
 obtain⟨C,hC,cls,na⟩:=go.c.att _ hG;refine(MK (h_o xo go).1 (h_a xo go).1 (hs X.env)).wk λZ s H q=>?_;refine TDS.one (λr h=>by rw[xs]) q λm2 r h2 H2 dz z w2 st2 rdz o=>?_;obtain⟨dx,h6,e6,o⟩:=o.nx;obtain⟨_,h8,e8,o⟩:=o.nx;refine⟨m2,r,h2,dx,h6,w2,st2,e6,λm3 x' H3 g3 w3 rx=>?_⟩;cases rx<;>first |(cases e8;done)|skip
 rename_i n a' ha;simp only[AY] at e8;split at e8<;>first |(cases e8;done)|skip
 rename_i c0 fs el;split at e8<;>first |(cases e8;done)|skip
 rename_i hc;obtain⟨rfl,hl⟩:=hc;cases e8;obtain⟨C',dx',us,q1,q2,q3,q4⟩:RO X.K m3 H3 a' (.ins c0 fs):=w3.ob n _ a' el ha;have hC':PySem.W.nsIn X.K mainGlobals c0=some (some (.ref C)):=hC;rw[q1] at hC';cases hC';have ll:fs.length=us.length:=by have:=congrArg List.length q3;simpa using this
 obtain⟨w4,g4⟩:=w3.objSet (o':=.ins c0 (qK f dz fs)) (u:=.ins C dx' (fQ f z us)) el rfl ha λg=>by
  obtain⟨i1,i2⟩:=sD (f:=f) ((rdz.mono g3).mono g) q3 (q4.mono g);exact⟨C,dx',_,q1,aZ,i1,i2⟩
 exact⟨a',C,dx',us,rfl,q2,cls,na,by omega,o m3 _ (g3.trans g4) w4 s (st2.mono (g3.trans g4))⟩
theorem DY{mx:Bool}{l d:E}{y z:Expr}{np kp pos:Pos}(h3:wQ sc (oO mx)=true)(h4:dJ y=true)(h_l:SE N sc G l y)(h_d:SE N sc G d z):SE N sc G (.mxd mx l d) (.Call (.Name (oO mx) np) [y] [⟨some "default",z,kp⟩] pos):=λ{X ca cl} xo go=>by
 have hm:X.mg (oO mx)=none:=by
  cases mx with
  |true=>exact go.blt .max
  |false=>exact go.blt .min
 have p:PE X (.Call (.Name (oO mx) np) [y] [⟨some "default",z,kp⟩] pos) (TDE X.K (ev G cl (.mxd mx l d))):=(MU xo.calm (dW xo h3) hm (h_l xo go).1 (h_d xo go).1 (bM [] h4)).wk (TDE.op λr h=>by simp only[ev]);exact⟨p,jM p λ_=>rfl⟩
end
theorem GOk.mute{X Y:Cx}{G:Gs}{ca:Nat->Addr}{cl:Cl}(go:GOk X G ca cl)(eP:Y.prog=X.prog)(ew:Y.w=X.w)(eK:Y.K=X.K)(em:Y.mg=X.mg)(eb:Y.base=X.base)(hr:Room 1 Y.A):GOk Y G ca (λ_ _ _=>.bad):=by
 obtain⟨p,w,K,mg,base,A,N,s₀,H₀,env,outer,stack,ex,calm,fn,pn,xe⟩:=Y;dsimp only at eP ew eK em eb hr;subst eP ew eK em eb;have no:∀{n:Nat}{vs:List V}{H:Hp}{Q:VK}{E:XK},AQ X.K ca (λ_ _=>.bad) n vs H Q E->False:=λ⟨_,_,_,_,_,_,o⟩=>o
 exact⟨λf x hf=>let⟨fa,fd,ps,k,F,_,hm,hk,hb,_⟩:=go.fn f x hf
  ⟨fa,fd,ps,0,⟨λ_ _ _ _ h=>h.1,λ_ _ _ _ _ _ _ _ _ _ _ _ _ h=>(no h).elim⟩,hr.mono (by omega),hm,hk,hb,λ_ _ e=>absurd rfl e⟩,
  go.cst,go.blt,go.ty,go.exc,go.sub,go.nsub,go.verr,⟨go.c.att,λp hp=>let⟨C,fa,fd,ps,k,h1,h2,h3,_,_,hb,_⟩:=go.c.meth p hp
   ⟨C,fa,fd,ps,0,h1,h2,h3,⟨λ_ _ _ _ h=>h.1,λ_ _ _ _ _ _ _ _ _ _ _ _ _ h=>(no h).elim⟩,hr.mono (by omega),hb,λ_ _ e=>absurd rfl e⟩,
   λp hp=>let⟨C,fa,fd,ps,k,h1,h2,h3,_,_,hb,_⟩:=go.c.new p hp
   ⟨C,fa,fd,ps,0,h1,h2,h3,⟨λ_ _ _ _ h=>h.1,λ_ _ _ _ _ _ _ _ _ _ _ _ _ h=>(no h).elim⟩,hr,hb,λ_ _ e=>absurd rfl e⟩⟩⟩
theorem YT{K:W.Frag}{m:List Addr}{H:Hp}{d:D}{v:V}(rd:RD K m H d v):RSt K m H [some d] [some v]:=⟨rfl,λi e hi=>by
 cases i with
 |zero=>
  have z:some (some d)=some (some e):=hi;cases z;exact⟨v,rfl,rd⟩
 |succ i=>cases hi⟩
structure LamO (H:Hp)(f:Addr)(lq:Str)(ps:Arguments)(body:Expr)(sc:Scope):Prop where
 ex:∃(c:Addr)(pm ctv:Value)(oc fo:Obj)(vs:Array Value)(t:Tok),H f=some (.frz fo (.own f))/\fo.data=.func (W.kla_fn "<lambda>" lq ps body sc [] pm (.ref c) ctv)/\H c=some (.frz oc (.own c))/\oc.data=.fields vs/\vs[1]? =some (.str lq t)
theorem LamO.mono{K:W.Frag}{m m':List Addr}{H H':Hp}{f:Addr}{lq:Str}{ps:Arguments}{body:Expr}{sc:Scope}(L:LamO H f lq ps body sc)(g:Gr K m H m' H'):LamO H' f lq ps body sc:=by
 obtain⟨c,pm,ctv,oc,fo,vs,t,h1,h2,h3,h4⟩:=L.ex;exact⟨c,pm,ctv,oc,fo,vs,t,g.frz _ _ _ h1,h2,g.frz _ _ _ h3,h4⟩
section
variable {X:Cx}{N:List Str}{sc:Scope}{G:Gs}{ca:Nat->Addr}{cl:Cl}{pins:List (Addr×Obj)}{σ:Sg}{H:Hp}{s:Shared}
theorem HG(go:GOk X G ca cl)(xo:XOk X N sc)(I:Inv X pins σ H s){A:Around}(hr:Room 2 A)(e0:Env0 X.prog X.w X.K X.mg X.base A X.stack s H){f:Addr}{lq x:Str}{ps:Arguments}{body:Expr}{lsc:Scope}(L:LamO H f lq ps body lsc)(S:FnScope [x] [x] lsc)(hb:∀(s:Shared)(u pm cd ct:Value),BindsTo s (W.kla_fn "<lambda>" lq ps body lsc [] pm cd ct) ⟨[u],[]⟩ [(x,u)])
 {m:List Addr}{h:Hh}(w:Wd X.K m h H){a:E}(he:SE [x] lsc G a body){d d':D}{v:V}{u:Value}(rd:RD X.K m H d v)(rv:RelV v u)(hk:ev G (λ_ _ _=>.bad) a [some d] h=.ok d' h):
 wpAny (model X.prog X.w) A (call (.ref f) [u]) (λu' s'=>∃v' H' m',RelV v' u'/\RD X.K m' H' d' v'/\Inv X pins σ H' s'/\Un (jZ X.stack) [] H H' s.heap s'.heap/\Gr X.K m H m' H'/\Wd X.K m' h H') (λ_ _=>False) s:=by
 obtain⟨c,pm,ctv,oc,fo,vs,t,h1,h2,h3,h4,h5⟩:=L.ex;have gf:s.heap.get? f=some fo:=(I.hok f _ h1).1;have gc:s.heap.get? c=some oc:=(I.hok c _ h3).1;have KX:X.K.In s.heap:=I.kIn;have lim:=I.nolimit
 let X':Cx:=iN (rK X.prog X.w) X.prog X.w X.K X.mg X.base [x] lq lsc f (.ref c) A X.stack s H (λ_ _ _=>False)
 have hrd:Room 1 X'.A:=hr.deeper _;have xo':XOk X' [x] lsc:=⟨rfl,rfl,rfl,S.nd,⟨_,hrd⟩,xo.rng,PassesOwn.leaving⟩;have go':GOk X' G ca (λ_ _ _=>.bad):=go.mute rfl rfl rfl rfl rfl hrd
 have hkind:∀y∈ [(x,u)],lsc.names.lookup y.1=some .local\/(lsc.names.lookup y.1=some .cell/\((cellsFrom (s.heap.objs.size+1) lsc.names []).lookup y.1).isSome=true):=λy hy=>by
  rw[List.mem_singleton] at hy;subst hy;rcases S.par x Zl with q|q
  ·exact .inl q
  ·exact .inr ⟨q,W.cellsFrom_some _ _ _ (.inl q)⟩
 have run:codeAny (model X.prog X.w) A (.call (.ref f) ⟨[u],[]⟩) (CR (rK X.prog X.w) X.stack X.prog X.w H s (λv' H'=>∃m',RD X.K m' H' d' v'/\Gr X.K m H m' H'/\Wd X.K m' h H') (λ_ _ _=>False)) s:=by
  refine W.kla_callFunE hr.depth gf h2 S.co S.gen rfl ⟨c,oc,vs,t,rfl,gc,h4,h5⟩ (hb s u pm (.ref c) ctv _ _ _ _ ?_);refine wpAny_newFunctionEnv_cells S.kind hkind λenv hen s1 q=>?_;subst hen;refine⟨lim.keeps q.toInCall.keep,W.kla_codeExpr ?_⟩;have I1:Inv X' [] (start [x] [v]) H s1:=pJ S hr.hd e0 rfl (.cons rv .nil) q;refine wpAny_mono ((he xo' go').1 [] s1 (start [x] [v]) H (λv' H'=>∃m',RD X.K m' H' d' v'/\Gr X.K m H m' H'/\Wd X.K m' h H') I1 ⟨m,[some d],h,d',h,w,YT rd,hk,λm' v' H' g w' r'=>⟨m',r',g,w'⟩⟩) (λu' s' ⟨v',H',J,r',q'⟩=>?_) λe s' hs=>hs;exact⟨v',H',J.os,J.bare,J.base,J.hok,r',q'⟩
 refine wpAny_call (codeAny_mono run λres s' hq=>?_);cases res with
 |error e=>
  obtain⟨_,_,_,_,_,_,_,_,_,z⟩:=hq;exact z
 |ok fl=>
  cases fl with
  |ret u'=>
   have hq':CE X.stack X.prog X.w H s (λv' H'=>∃m',RD X.K m' H' d' v'/\Gr X.K m H m' H'/\Wd X.K m' h H') u' s':=hq;obtain⟨v',H',os,bare,un,hok,r',m',q1,q2,q3⟩:=hq';obtain⟨hh,gg,dd,tt,os'⟩:=s';obtain rfl:os'=s.os:=os;exact⟨v',H',m',r',q1,I.call (h':=hh) (g':=gg) (d':=dd) (t':=tt) (ch:= []) un hok bare (λb z=>absurd z (by simp)),un,q2,q3⟩
  |next=>exact False.elim hq
  |brk=>exact False.elim hq
  |cont=>exact False.elim hq
structure LamF (K:W.Frag)(c P:Addr):Prop where
 hd:W.codeHdIn K c P=true
theorem AT{h:Hh}{n:Nat}{o:O}(e:h[n]? =some o):h.set n o=h:=by
 obtain⟨l,e⟩:=Ze.mp e;subst e;exact List.set_getElem_self l
theorem CB(I:Inv X pins σ H s){c P:Addr}{pos:Pos}{lq:Str}(F:LamF X.K c P)(hcode:X.env.code=.ref c)(hq:X.env.qual++"<lambda>"=lq){args:Arguments}{body:Expr}{lsc:Scope}(hd:defaultsOf args X.env=([],[]))(hcl:closureFor lsc X.env=pure []){m:List Addr}{h:Hh}(w:Wd X.K m h H)(h1:h[1]? =some (.tab P pos lq))
 {R:VK}(k:∀f H',Gr X.K m H m H'->Wd X.K m h H'->LamO H' f lq args body lsc->X.s₀.heap.objs.size<=f->R (.ref f) H'):wpAny (model X.prog X.w) X.A (eval (.Lambda args body lsc pos) X.env) (EP X pins σ R) X.xe s:=by
 obtain⟨a,hm,ea,hT⟩:=w.at h1;subst ea;have KX:=I.kIn;have C:W.CodeHd s.heap c a:=W.codeHd_of_K KX F.hd;have hns:s.heap.Ns mainGlobals X.mg:=I.ok.mod.glob.keeps I.bk
 have zX:H a≠none:=λz=>by
  rcases hT with e|⟨_,_,_,_,e,_⟩<;>rw[e] at z<;>cases z
 have ba:∀{b:Addr}{o:Obj},X.base.get? b=some o->b≠a:=λ{b o} e z=>zX (by rw[<- z];exact(I.bs b o e).2)
 have hgP:mainGlobals≠a:=by
  obtain⟨o,_,_,e,_⟩:=I.ok.mod.glob;exact ba e
 have hb:s.heap.BuiltinsAt X.mg a:=by
  obtain⟨bm,o,q1,q2,q4,q5,q6⟩:=I.ok.mod.bm
  have hbG:bm≠mainGlobals:=λz=>by
   obtain⟨o2,es,ep,e,d,_⟩:=I.ok.mod.glob;rw[z,e] at q4;cases q4;rw[d] at q6;cases q6.2
  exact⟨bm,o,q1,q2,hbG,ba q4,I.bk _ _ q4,q5,q6⟩
 rw[arm_eval_Lambda,hd,hq];refine Za (m:=evalAll []) (Zb ?_);refine Za (wpAny_holding (m:=evalAllOpt []) (Zb ?_));rcases hT with e|⟨c1,oc,vs,t,e,ec,d1,d2⟩
 ·have hP:s.heap.get? a=some (W.tabObj #[]):=I.hok a _ e;refine W.kla_makeFunction hcl I.ok.glob hns hcode C hP trivial rfl hgP hb λc1 ctv h' tk hx hge hlt hrec htb=>?_;obtain⟨c2,oc,vs,t,e2,g1,d1,d2⟩:=hrec;cases e2;have n1:H c1=none:=I.hok.fresh hge;have sz:s.heap.objs.size<=h'.objs.size:=Nat.le_trans hge (Nat.le_of_lt hlt);have n2:bS H c1 (.frz oc (.own c1)) h'.objs.size=none:=by rw[aM (Nat.ne_of_gt hlt)];exact I.hok.fresh sz
  have w1:=w.keepNew (o:=.frz oc (.own c1)) n1;have G1:Gr X.K m H m (bS H c1 (.frz oc (.own c1))):=Gr.tupNew n1;obtain⟨fo,efo⟩:∃fo,fo=W.kla_obj "<lambda>" lq args body lsc [] ((X.mg "__name__").getD .none) c1 ctv:=⟨_,rfl⟩;rw[<- efo];have w2:=w1.keepNew (o:=.frz fo (.own h'.objs.size)) n2;have G2:=G1.trans (Gr.tupNew (m:=m) (K:=X.K) (o:=.frz fo (.own h'.objs.size)) n2);have ac:a≠c1:=λz=>zX (by rw[z];exact n1);have af:a≠h'.objs.size:=λz=>zX (by rw[z];exact I.hok.fresh sz);obtain⟨w3,G3⟩:=w2.objSet (o':=.tab a pos lq) (u:=.tbl #[rawInt pos.line,rawInt pos.col,.ref c1]) h1 rfl hm λg=>⟨rfl,.inr ⟨c1,oc,vs,t,aZ,g.frz _ _ _ (by rw[aM (Nat.ne_of_lt hlt)];exact aZ),d1,d2⟩⟩;rw[AT h1] at w3;have G:=G2.trans G3;have kp:∀b o,b≠a->s.heap.get? b=some o->(h'.push fo).get? b=some o:=λb o hb e=>Zf _ (hx b o hb e);have old:∀b u,H b=some u->b≠c1/\b≠h'.objs.size:=λb u e=>⟨(λz=>by rw[z,n1] at e;cases e),(λz=>by rw[z,I.hok.fresh sz] at e;cases e)⟩;have up:∀b,b≠a->b≠c1->b≠h'.objs.size->bS (bS (bS H c1 (.frz oc (.own c1))) h'.objs.size (.frz fo (.own h'.objs.size))) a (.tbl #[rawInt pos.line,rawInt pos.col,.ref c1]) b=H b:=λb q1 q2 q3=>by rw[aM q1,aM q3,aM q2]
  have aL:a≠X.env.locals:=λz=>zX (by rw[z];exact I.free);have gf:(h'.push fo).get? h'.objs.size=some fo:=Heap.get?_push_size _ (by rw[efo];rfl);refine⟨.ref h'.objs.size,_,?_,rfl,k _ _ G w3 ⟨c1,_,ctv,oc,fo,vs,t,by rw[aM (Ne.symm af)];exact aZ,by rw[efo],by rw[aM (Ne.symm ac),aM (Nat.ne_of_lt hlt)];exact aZ,d1,d2⟩ (Nat.le_trans I.sz sz)⟩;refine I.step (g':=s.gens) (d':=s.drawn) (t':=tk) (ch:= []) (λ_ z=>nomatch z) (λb o _ _ _ q n=>kp b o (λz=>zX (by rw[<- z];exact n)) q) (λb o _ _ _ q n=>⟨o.slots,kp b o (λz=>zX (by rw[<- z];exact n)) q⟩) (λb o _ q n=>?_) (λb o _ q=>?_) (λb xs q=>?_) (λb o u q=>?_) (λb ps q=>?_) (λmm hn=>?_) (λb u q=>?_) I.bare
  ·rw[up b (λz=>zX (by rw[<- z];exact n)) (λz=>by subst z;exact absurd (Heap.lt_size q) (Nat.not_lt.mpr hge)) (λz=>by subst z;exact absurd (Heap.lt_size q) (Nat.not_lt.mpr sz))];exact n
  ·by_cases z:b=a
   ·exact⟨_,by rw[z];exact Zf _ htb⟩
   ·exact⟨o,kp b o z q⟩
  ·rw[up b (λz=>by rw[z,e] at q;cases q) (old b _ q).1 (old b _ q).2];exact q
  ·rw[up b (λz=>by rw[z,e] at q;cases q) (old b _ q).1 (old b _ q).2];exact q
  ·by_cases z:b=a
   ·subst z;rw[e] at q;cases q;exact⟨#[rawInt pos.line,rawInt pos.col,.ref c1],by rw[aZ];simp⟩
   ·exact⟨#[],by rw[up b z (old b _ q).1 (old b _ q).2,q];simp⟩
  ·obtain⟨o,es,ep,q1,q2⟩:=hn;exact⟨o,es,ep,kp _ o (Ne.symm aL) q1,q2⟩
  ·by_cases z:b=a
   ·subst z;rw[aZ] at q;cases q;exact Zf _ htb
   ·by_cases z1:b=h'.objs.size
    ·subst z1;rw[aM z,aZ] at q;cases q;exact⟨gf,⟨_,gf⟩⟩
    ·by_cases z2:b=c1
     ·subst z2;rw[aM z,aM z1,aZ] at q;cases q;exact⟨Zf _ g1,⟨_,Zf _ g1⟩⟩
     ·rw[up b z z2 z1] at q;refine(I.hok b u q).stay (λb' u' hb' q'=>kp b' u' (λy=>?_) q') (λb' q'=>?_) λb' xs q'=>?_
      ·rcases hb' with hb'|hb'
       ·exact z (by rw[<- hb',y])
       ·rw[y,e] at hb';cases hb'
      ·rw[up b' (λy=>by rw[y,e] at q';cases q') (old b' _ q').1 (old b' _ q').2];exact q'
      ·rw[up b' (λy=>by rw[y,e] at q';cases q') (old b' _ q').1 (old b' _ q').2];exact q'
 ·have hP:s.heap.get? a=some (W.tabObj #[rawInt pos.line,rawInt pos.col,.ref c1]):=I.hok a _ e;refine W.kla_makeFunctionHit (cv:=.ref c1) hcl I.ok.glob hns hcode C hP trivial (by simp[codeAmong,rawInt]) hb λctv h' tk hx sz=>?_;obtain⟨fo,efo⟩:∃fo:Obj,fo={cls:=.type "function",data:=.func (W.kla_fn "<lambda>" lq args body lsc [] ((X.mg "__name__").getD .none) (.ref c1) ctv)}:=⟨_,rfl⟩;rw[<- efo];have n2:H h'.objs.size=none:=I.hok.fresh sz;have gf:(h'.push fo).get? h'.objs.size=some fo:=Heap.get?_push_size _ (by rw[efo];rfl);have G1:Gr X.K m H m (bS H h'.objs.size (.frz fo (.own h'.objs.size))):=Gr.tupNew n2;exact⟨.ref h'.objs.size,_,I.laid (o:=.frz fo (.own h'.objs.size)) (λb u q=>Zf _ (hx b u q)) sz ⟨gf,⟨_,gf⟩⟩,rfl,k _ _ G1 (w.keepNew n2) ⟨c1,_,ctv,oc,fo,vs,t,aZ,by rw[efo],G1.frz _ _ _ ec,d1,d2⟩ (Nat.le_trans I.sz sz)⟩
end
noncomputable abbrev RF:E:=.att (.ix (.var 0) (.int 0)) "Plate" "name"
theorem OB{G:Gs}{cl:Cl}{h:Hh}{x:D}{k:Str}(e:oP h x=some k):ev G cl RF [some x] h=.ok (.str k) h:=by
 unfold oP at e;split at e
 ·rename_i p r;split at e
  ·rename_i c fs hp;split at e
   ·rename_i hc;subst hc;split at e
    ·rename_i k' hl;cases e
     have i0:jA (.tup (.ref p::r)) (.int 0) h=.ok (.ref p) h:=by
      show(match iG (D.ref p::r) 0 with|some d=>Rs.ok d h|none=>.bad)=_
      rw[show iG (D.ref p::r) 0=some (.ref p) from fJ (xs:=D.ref p::r) (j:=0) rfl]
     have a0:vO "Plate" (.ref p) "name" h=.ok (.str k) h:=by
      unfold vO;simp only[hp,if_true,hl]
     have v0:ev G cl (.var 0) [some (.tup (.ref p::r))] h=.ok (.tup (.ref p::r)) h:=by rw[ev]<;>rfl
     have v1:ev G cl (.int 0) [some (.tup (.ref p::r))] h=.ok (.int 0) h:=by rw[ev]<;>rfl
     have v2:ev G cl (.ix (.var 0) (.int 0)) [some (.tup (.ref p::r))] h=.ok (.ref p) h:=by
      rw[ev,v0]
      show((ev G cl (.int 0) [some (.tup (.ref p::r))] h).bind λy h=>jA (.tup (.ref p::r)) y h)=_
      rw[v1];exact i0
     rw[RF,ev,v2];exact a0
    ·cases e
   ·cases e
  ·cases e
 ·cases e
inductive KVs (h:Hh):List D->List Value->Prop
 |nil:KVs h [] []
 |snoc {l:List D} {ks:List Value} {x:D} {k:Str} {t:Tok} (r:KVs h l ks) (e:oP h x=some k):KVs h (l++ [x]) (ks++ [.str k t])
theorem KVs.len{h:Hh}{l:List D}{ks:List Value}(r:KVs h l ks):ks.length=l.length:=by
 induction r with
 |nil=>rfl
 |snoc r e ih=>simp[ih]
theorem KVs.at{h:Hh}{l:List D}{ks:List Value}(r:KVs h l ks):∀(i:Nat)(x:D),l[i]? =some x->∃k t,oP h x=some k/\ks[i]? =some (.str k t):=by
 induction r with
 |nil=>intro i x e;cases e
 | @snoc l ks x k t r e ih=>
   intro i y ey
   by_cases hi:i<l.length
   ·rw[List.getElem?_append_left hi] at ey;obtain⟨k',t',h1,h2⟩:=ih i y ey;exact⟨k',t',h1,by rw[List.getElem?_append_left (by rw[r.len];exact hi)];exact h2⟩
   ·have:i=l.length:=by
     have:=(Ze.mp ey).1;simp at this;omega
    subst this;simp at ey;subst ey;exact⟨k,t,e,by rw[<- r.len];simp⟩
section
variable {X:Cx}{N:List Str}{sc:Scope}{G:Gs}{ca:Nat->Addr}{cl:Cl}{pins:List (Addr×Obj)}{σ:Sg}{H0:Hp}{s:Shared}
structure KSt (X:Cx)(pins:List (Addr×Obj))(σ:Sg)(m0:List Addr)(H0:Hp)(h:Hh)(mm:Str->Option Value)(Dn kS:Addr)(e1:Nat)(m:List Addr)(H:Hp)(s:Shared)(ks:List Value)(e:Nat):Prop where
 I:Inv X pins σ H s
 g:Gr X.K m0 H0 m H
 w:Wd X.K m h H
 ns:s.heap.Ns X.env.locals mm
 hk:s.heap.get? kS=some (seqObj "list" ks.toArray e)
 hd:s.heap.get? Dn=some (seqObj "list" #[] e1)
 nk:H kS=none
 nd:H Dn=none
structure Own (X:Cx)(pins:List (Addr×Obj))(a:Addr):Prop where
 above:X.s₀.heap.objs.size<=a
 ne:a≠X.env.locals
 cell:∀x c,X.env.cells.lookup x=some c->c≠a
 pin:∀p∈X.pn++pins,p.1≠a
 base:X.base.get? a=none
theorem Own.nofr{a:Addr}(O:Own X pins a)(ok:X.Ok):a ∉ X.fs:=λhb=>by
 obtain⟨_,o,ho,_⟩:=ok.funs.mem hb;exact absurd (Heap.lt_size ho) (Nat.not_lt.mpr O.above)
theorem sR{H:Hp}{a:Addr}{h':Heap}{tk:Nat}(I:Inv X pins σ H s)(O:Own X pins a)(n:H a=none)(kp:∀b o,b≠X.env.locals->b≠a->s.heap.get? b=some o->h'.get? b=some o)(ns:∀m,s.heap.Ns X.env.locals m->h'.Ns X.env.locals m):Inv X pins σ H {s with heap:=h',toks:=tk}:=by
 have tr:∀b u,H b=some u->b≠X.env.locals/\b≠a:=λb u e=>⟨(λz=>by rw[z,I.free] at e;cases e),(λz=>by rw[z,n] at e;cases e)⟩;refine I.step (g':=s.gens) (d':=s.drawn) (ch:= [a]) (λb hb=>?_) (λb o h1 _ h3 e _=>kp b o h1 (λz=>h3 (by simp[z])) e) (λb o h1 _ h3 e _=>⟨o.slots,kp b o h1 (λz=>h3 (by simp[z])) e⟩) (λ_ _ _ _ q=>q) (λb o h3 e=>?_) (λ_ _ q=>q) (λ_ _ _ q=>q) (λb ps q=>⟨#[],by rw[q];simp⟩) ns (λb u q=>?_) I.bare
 ·have e:b=a:=by simpa using hb
  subst e;exact⟨.inr O.above,O.ne,O.cell,O.pin⟩
 ·by_cases z:b=X.env.locals
  ·subst z;obtain⟨mm,hn,_⟩:=id I.loc;obtain⟨o',_,_,q,_⟩:=ns mm hn;exact⟨o',q⟩
  ·exact⟨o,kp b o z (λz=>h3 (by simp[z])) e⟩
 ·refine(I.hok b u q).stay (λb' u' hb' q'=>?_) (λ_ q=>q) λ_ _ q=>q;rcases hb' with z|z
  ·subst z;exact kp _ _ (tr _ _ q).1 (tr _ _ q).2 q'
  ·exact kp _ _ (tr _ _ z).1 (tr _ _ z).2 q'
variable {m0:List Addr}{h:Hh}{mm:Str->Option Value}{Dn kS:Addr}{e1:Nat}
theorem KSt.push{m:List Addr}{H:Hp}{ks ks':List Value}{e c:Nat}{h':Heap}(K:KSt X pins σ m0 H0 h mm Dn kS e1 m H s ks e)(O:Own X pins kS)(OD:Own X pins Dn)(ne:Dn≠kS)(F:Fr X.base X.env.locals h' mm)(Nw:News X.base X.env.locals h' ((kS,seqObj "list" (List.toArray ks') c)::rest X.base s.heap X.env.locals kS)):KSt X pins σ m0 H0 h mm Dn kS e1 m H {s with heap:=h'} ks' c:=by
 have kp:=jX (d:=kS) K.I.bk F (λp hp=>Nw p (Zj _ hp));refine⟨sR (tk:=s.toks) K.I O K.nk kp (λm' hm=>?_),K.g,K.w,F.ns,(Nw _ Zl).1,kp Dn _ OD.ne ne K.hd,K.nk,K.nd⟩;have:m'=mm:=funext λx=>hm.agree K.ns x;rw[this];exact F.ns
theorem KSt.fr{m:List Addr}{H:Hp}{ks:List Value}{e:Nat}(K:KSt X pins σ m0 H0 h mm Dn kS e1 m H s ks e):Fr X.base X.env.locals s.heap mm:=⟨K.ns,K.I.bk,Nat.le_trans K.I.ok.bsz K.I.ok.above⟩
theorem wN(go:GOk X G ca cl)(xo:XOk X N sc){A:Around}(hr:Room 2 A)(hA:A.frames=X.A.frames){f:Addr}{lq x:Str}{ps:Arguments}{body:Expr}{lsc:Scope}(L:LamO H0 f lq ps body lsc)(S:FnScope [x] [x] lsc)(hb:∀(s:Shared)(u pm cd ct:Value),BindsTo s (W.kla_fn "<lambda>" lq ps body lsc [] pm cd ct) ⟨[u],[]⟩ [(x,u)])(he:SE [x] lsc G RF body)
 (O:Own X pins kS)(OD:Own X pins Dn)(ne:Dn≠kS){Fin:List Value->Nat->Shared->Prop}:∀(r done:List D)(m:List Addr)(H:Hp)(s:Shared)(ks:List Value)(e:Nat)(vs:List V)(its:List Value),(∀d∈r,∃k,oP h d=some k)->KSt X pins σ m0 H0 h mm Dn kS e1 m H s ks e->KVs h done ks->RDs X.K m H r vs->Vals vs its->
   (∀m' H' s' ks' e',KSt X pins σ m0 H0 h mm Dn kS e1 m' H' s' ks' e'->KVs h (done++r) ks'->Fin ks' e' s')->W.KatKeys X.prog X.w A X.base X.env.locals mm kS (.ref f) Fin its ks e s:=by
 intro r
 induction r with
 |nil=>
  intro done m H s ks e vs its hk K kv rd vl fin;cases rd;cases vl;exact W.KatKeys.nil (fin m H s ks e K (by rw[Zm];exact kv))
 |cons d r ih=>
  intro done m H s ks e vs its hk K kv rd vl fin;cases rd with
  |cons rd rds=>
   cases vl with
   |cons rv vls=>
    obtain⟨k,ek⟩:=hk d Zl;have ev0:=OB (G:=G) (cl:=λ_ _ _=>.bad) ek;have e0:Env0 X.prog X.w X.K X.mg X.base A X.stack s H:=let z:=K.I.env0;⟨by rw[hA];exact z.frames,z.mod,z.bs,z.bsz,z.funs,z.frf,z.hok,z.bare⟩;refine W.KatKeys.cons (wpAny_mono (HG go xo K.I hr e0 (L.mono K.g) S hb K.w he rd rv ev0) (λu' s' ⟨v',H',m',r1,r2,I',un,g',w'⟩=>?_) λ_ _ z=>z);cases r2;obtain⟨t,rfl⟩:=r1;have stk:∀a,Own X pins a->a ∉ jZ X.stack:=λa O hm=>(List.mem_cons.mp (K.I.stkSub a hm)).elim O.ne (O.nofr K.I.ok)
    have ns':s'.heap.Ns X.env.locals mm:=by
     obtain⟨o,es,ep,q1,q2⟩:=K.ns;obtain⟨sl,q3⟩:=un.any q1 K.I.free (by simp);exact⟨_,es,ep,q3,q2⟩
    have K':KSt X pins σ m0 H0 h mm Dn kS e1 m' H' s' ks e:=⟨I',K.g.trans g',w',ns',un.keep _ _ K.hk K.nk (stk _ O) (by simp),un.keep _ _ K.hd K.nd (stk _ OD) (by simp),un.free _ _ K.hk K.nk (by simp),un.free _ _ K.hd K.nd (by simp)⟩;refine W.KatBack.intro K'.fr (qO O.ne O.base K'.hk) (.head λp hp=>qI p hp) λh' c F' N'=>?_;exact ih (done++ [d]) m' H' {s' with heap:=h'} (ks++ [.str k t]) c _ _ (λy hy=>hk y (Zj _ hy)) (K'.push O OD ne F' N') (.snoc kv ek) (rds.mono g') vls (by rw[List.append_assoc];exact fin)
theorem yV{H:Hp}{a:Addr}{h':Heap}{tk c:Nat}{us:List V}{its:List Value}(I:Inv X pins σ H s)(O:Own X pins a)(n:H a=none)(kp:∀b o,b≠X.env.locals->b≠a->s.heap.get? b=some o->h'.get? b=some o)(ns:∀m,s.heap.Ns X.env.locals m->h'.Ns X.env.locals m)(hv:Vals us its)(hz:us.length<=sizeLine)(ha:h'.get? a=some (seqObj "list" its.toArray c)):Inv X pins σ (bS H a (.lst us)) {s with heap:=h',toks:=tk}:=by
 have tr:∀b u,H b=some u->b≠X.env.locals/\b≠a:=λb u e=>⟨(λz=>by rw[z,I.free] at e;cases e),(λz=>by rw[z,n] at e;cases e)⟩;refine I.step (g':=s.gens) (d':=s.drawn) (ch:= [a]) (λb hb=>?_) (λb o h1 _ h3 e _=>kp b o h1 (λz=>h3 (by simp[z])) e) (λb o h1 _ h3 e _=>⟨o.slots,kp b o h1 (λz=>h3 (by simp[z])) e⟩) (λb _ h3 _ q=>by rw[aM (λz=>h3 (by simp[z]))];exact q) (λb o h3 e=>?_) (λb _ q=>by rw[aM (tr b _ q).2];exact q) (λb _ _ q=>by rw[aM (tr b _ q).2];exact q) (λb ps q=>⟨#[],by rw[aM (tr b _ q).2,q];simp⟩) ns (λb u q=>?_) I.bare
 ·have e:b=a:=by simpa using hb
  subst e;exact⟨.inr O.above,O.ne,O.cell,O.pin⟩
 ·by_cases z:b=X.env.locals
  ·subst z;obtain⟨mm,hn,_⟩:=id I.loc;obtain⟨o',_,_,q,_⟩:=ns mm hn;exact⟨o',q⟩
  ·exact⟨o,kp b o z (λz=>h3 (by simp[z])) e⟩
 ·by_cases z:b=a
  ·subst z;rw[aZ] at q;cases q;exact⟨hz,its,c,hv,ha⟩
  ·rw[aM z] at q;refine(I.hok b u q).stay (λb' u' hb' q'=>?_) (λb' q'=>by rw[aM (tr b' _ q').2];exact q') λb' _ q'=>by rw[aM (tr b' _ q').2];exact q'
   rcases hb' with y|y
   ·subst y;exact kp _ _ (tr _ _ q).1 (tr _ _ q).2 q'
   ·exact kp _ _ (tr _ _ y).1 (tr _ _ y).2 q'
theorem KSt.fin{m:List Addr}{H:Hp}{ks:List Value}{e:Nat}(K:KSt X pins σ m0 H0 h mm Dn kS e1 m H s ks e)(O:Own X pins kS)(OD:Own X pins Dn)(ne:Dn≠kS){l':List D}{us:List V}{its:List Value}(rd:RDs X.K m H l' us)(vl:Vals us its)(hz:us.length<=sizeLine){Q:VK}
 (c:∀m' H',Gr X.K m0 H0 m' H'->Wd X.K m' (h++ [.lst l']) H'->RD X.K m' H' (.ref h.length) (.ref Dn)->Q (.ref Dn) H'):W.KatFin X.base X.env.locals mm kS Dn ks e e1 its (λs4=>EP X pins σ Q (.ref Dn) s4) s:=by
 refine W.KatFin.intro K.fr (qO O.ne O.base K.hk) (.head λp hp=>qI p hp) λh1 c1 F1 N1=>?_;have K1:KSt X pins σ m0 H0 h mm Dn kS e1 m H {s with heap:=h1} [] c1:=K.push O OD ne F1 N1;refine W.KasFin.intro K1.fr (qO OD.ne OD.base K1.hd) (.head λp hp=>qI p hp) λh2 c2 F2 N2=>?_;have kp:=jX (d:=Dn) K1.I.bk F2 (λp hp=>N2 p (Zj _ hp));obtain⟨w2,g2⟩:=K.w.lstNew K.nd rd;have hl:(m++ [Dn])[h.length]? =some Dn:=by rw[<- K.w.len];simp
 exact⟨.ref Dn,_,yV (tk:=s.toks) K1.I OD K.nd kp (λm' hm=>by
  have:m'=mm:=funext λx=>hm.agree K1.ns x;rw[this];exact F2.ns) vl hz (N2 _ Zl).1,rfl,c _ _ (K.g.trans g2) w2 (.ref hl)⟩
theorem yA{m:List Addr}{H:Hp}{ks:List Value}{e:Nat}{A:Around}(K:KSt X pins σ m0 H0 h mm Dn kS e1 m H s ks e)(O:Own X pins kS)(OD:Own X pins Dn)(ne:Dn≠kS){l l':List D}{vs:List V}{its:List Value}(kv:KVs h l ks)(q:RDs X.K m H l vs)(vl:Vals vs its)(h2:2<=l.length)(h64:l.length<64)(hp:l'.Perm l)(hs:l'.Pairwise (Bef (yP h))){Q:VK}
 (c:∀m' H',Gr X.K m0 H0 m' H'->Wd X.K m' (h++ [.lst l']) H'->RD X.K m' H' (.ref h.length) (.ref Dn)->Q (.ref Dn) H'):
 wpAny (model X.prog X.w) A (keyKind' (List.toArray ks)) (λκ s''=>(W.kas_sort its.length).kasWp (W.kas_ask X.prog X.w A κ ks) (λp s3=>W.KatFin X.base X.env.locals mm kS Dn ks e e1 (p.toList.map λi=>its.getD i Value.none) (λs4=>EP X pins σ Q (.ref Dn) s4) s3) s'') (λ_ _=>False) s:=by
 have l1:=q.length;have l2:=vl.length;have l3:=kv.len;refine W.kas_kind (T:=.type "str") (by omega) (λu hu=>?_) (by decide) (by decide) ?_
 ·obtain⟨i,hi,rfl⟩:=List.mem_iff_getElem.mp hu;obtain⟨k,t,_,e2⟩:=kv.at i _ (Zd (by omega));rw[Zd hi] at e2;rw[Zg e2];exact .now
 ·let L:Nat->Nat->Bool:=λi j=>decide (i≠j)&&(yP h (l.getD i .non) (l.getD j .non)==some true)
  have hne:∀i,L i i=false:=λi=>by simp[L]
  have hL':∀(i j:Nat)(x y:D),l[i]? =some x->l[j]? =some y->i≠j->(L i j=true↔yP h x y=some true):=λi j x y ex ey ne=>by
   simp[L,ne,ex,ey,List.getD_eq_getElem?_getD]
  have so:=AR hp hs hne hL';rw[show its.length=l.length by omega];refine KOk.wp (λi j C hi hj ne hC=>?_) (qE so h2) λp ⟨hv,hsd⟩=>?_
  ·have ex:l[i]? =some l[i]:=Zd hi;have ey:l[j]? =some l[j]:=Zd hj;obtain⟨k1,t1,a1,b1⟩:=kv.at i _ ex;obtain⟨k2,t2,a2,b2⟩:=kv.at j _ ey;have lt:yP h l[i] l[j]=some (decide (k1.cps.toList<k2.cps.toList)):=by unfold yP;rw[a1,a2]
   have eL:L i j=decide (k1.cps.toList<k2.cps.toList):=by
    cases z:L i j with
    |true=>have:=(hL' i j _ _ ex ey ne).mp z;rw[lt] at this;exact(Zg this).symm
    |false=>
     cases y:decide (k1.cps.toList<k2.cps.toList) with
     |false=>rfl
     |true=>rw[y] at lt;have:=(hL' i j _ _ ex ey ne).mpr lt;rw[z] at this;cases this
   show wpAny _ _ (keyLt' _ (ks.getD i Value.none) (ks.getD j Value.none)) C _ _;rw[dZ b1,dZ b2];rw[eL] at hC;exact W.kas_lt_str hC
  ·have pl:∀i∈p.toList,i<l.length:=λi hi=>List.mem_range.mp (hv.mem_iff.mp hi);have out:=uP hp hs hL' hv hsd D.non;have rd:=q.pick p.toList pl;rw[out] at rd;have vl':=hZ vl p.toList (λi hi=>by have:=pl i hi;omega);have hz:=hv.size;exact K.fin O OD ne rd vl' (by rw[Zc,Array.length_toList,hz,sizeLine_eq];omega) c
end
section
variable {prog:Program}{w:World}{A:Around}{E:Value->Shared->Prop}{s:Shared}{h₀:Heap}{L a kS:Addr}{m:Str->Option Value}{vs:List Value}
theorem DA{f:Value}{e1:Nat}{P:PySem.Fin->Shared->Prop}(hk:s.heap.get? kS=some (seqObj "list" #[] 0))(h1:vs.length<2)
 (h:W.KatKeys prog w A h₀ L m kS f (λks e t=>W.KatFin h₀ L m kS a ks e e1 vs (λt4=>P (.done (.ret .none)) t4) t) vs [] 0 s):wpAny (model prog w) A (ksk_rest a f false vs.toArray e1 (.ref kS)) P E s:=by
 unfold ksk_rest;refine Za (wpAny_rule ?_);rw[List.forIn_toArray];refine Za (bP (W.kat_fold (n:=vs.length) (by omega) (λy ks e t C hz hx=>?_) vs [] 0 s (by simp) hk h) λ_ t ⟨ks,e,g1,g2,g3⟩=>?_)
 ·refine Za (wpAny_attempt (wpAny_mono hx (λk t2 q=>?_) λ_ _ z=>z.elim));obtain⟨nw,g,F,Nw,U,c⟩:=q;obtain⟨pre,post,ee,hg,x1,x2⟩:=U.split;rw[ee] at Nw;have n1:=Nw (kS,seqObj "list" ks.toArray e) (List.mem_append_right _ Zl);have sb:=Heap.SameBut.update t2.heap kS (Obj.mapSeq (·.push k));obtain⟨c2,hc⟩:∃c2,(t2.heap.update kS (Obj.mapSeq (·.push k))).get? kS=some (seqObj "list" (ks++ [k]).toArray c2):=⟨_,by rw[show(ks++ [k]).toArray=ks.toArray.push k by simp];exact get?_update_seq n1.1 (·.push k)⟩;dsimp only;refine Za (listUpdate_at n1.1 rfl ?_ (by rw[Zk,sizeLine_eq];omega) (by show(ks.toArray.push k).size<=_;rw[Array.size_push,Zk,sizeLine_eq];omega));exact Zb ⟨rfl,k,c2,hc,c _ c2 (W.kas_fr F sb n1.2.1 n1.2.2) (by rw[hg];exact W.news_set Nw x1 x2 sb hc)⟩
 ·refine Za (listItems_at g1 rfl ?_);have few:vs.toArray.size<2:=by simpa using h1
  have zs:(ks.toArray.zip vs.toArray).map (·.2)=vs.toArray:=by
   apply Array.toList_inj.mp;simp[List.map_snd_zip,g2]
  unfold ksk_end;dsimp only;simp only[Bool.false_eq_true,if_false];rw[if_pos few,if_pos few];refine Za (Zb ?_);rw[StateT.run_pure];refine Za (Zb ?_);exact W.kat_tail (out:=vs) zs (by omega) (by omega) rfl g3
theorem vF{l f:Addr}{Q:Value->Shared->Prop}(hl:s.heap.IsList l vs.toArray)(h1:vs.length<2)
 (h:∀Dn kS e1 h',s.heap.objs.size<=Dn->Dn<kS->(∀b o,s.heap.get? b=some o->h'.get? b=some o)->h'.get? kS=some (seqObj "list" #[] 0)->h'.get? Dn=some (seqObj "list" #[] e1)->
   ∃h₀ L m,W.KatKeys prog w A.in1.in1 h₀ L m kS (.ref f) (λks e t=>W.KatFin h₀ L m kS Dn ks e e1 vs (λt4=>Q (.ref Dn) t4) t) vs [] 0 {s with heap:=h'}):wpAny (model prog w) A (call (.builtin "sorted") [.ref l] [(Str.ofString "key",.ref f)]) Q E s:=by
 refine call_function_entry_kw kind_sorted plain_sorted entry_sorted (ksk_s1 _ _) ?_;have z1:((s.heap.push (seqObj "list" #[] 0)).update s.heap.objs.size (Obj.mapSeq (·++vs.toArray))).objs.size=s.heap.objs.size+1:=by rw[Heap.size_update,size_push']
 have o1:(((s.heap.push (seqObj "list" #[] 0)).update s.heap.objs.size (Obj.mapSeq (·++vs.toArray))).push (seqObj "list" vs.toArray 0)).get? (s.heap.objs.size+1)=some (seqObj "list" vs.toArray 0):=z1 ▸ Heap.get?_push_size _ rfl
 have k1:∀b o,s.heap.get? b=some o->(((s.heap.push (seqObj "list" #[] 0)).update s.heap.objs.size (Obj.mapSeq (·++vs.toArray))).push (seqObj "list" vs.toArray 0)).get? b=some o:=λb o q=>by
  have hlt:=Heap.lt_size q;refine Zf _ ?_;rw[Heap.get?_update_ne _ _ _ _ (Nat.ne_of_lt hlt)];exact Zf _ q
 unfold Builtin.«sorted»;refine Za (m:=checkCount "sorted" 1 1 _) (Zb (Za (collect_list hl (Za (wpAny_newList ?_)))));show wpAny _ _ _ _ _ {s with heap:=((s.heap.push (seqObj "list" #[] 0)).update s.heap.objs.size (Obj.mapSeq (·++vs.toArray))).push (seqObj "list" vs.toArray 0)};rw[z1];refine Za (wpAny_holding (wpAny_call_entry_kw slot_list_sort ⟨_,o1,rfl⟩ entry_list_sort ?body (ksk_l1 _ _)))
 case body=>
  show wpAny (model prog w) A.in1.in1 (Builtin.«list.sort» ⟨[.ref (s.heap.objs.size+1)],[(Str.ofString "key",.ref f)]⟩) _ _ _;rw[ksk_t1];have z2:(((s.heap.push (seqObj "list" #[] 0)).update s.heap.objs.size (Obj.mapSeq (·++vs.toArray))).push (seqObj "list" vs.toArray 0)).objs.size=s.heap.objs.size+2:=by rw[size_push',z1]
  generalize ((s.heap.push (seqObj "list" #[] 0)).update s.heap.objs.size (Obj.mapSeq (·++vs.toArray))).push (seqObj "list" vs.toArray 0)=g at o1 k1 z2;obtain⟨e1,o2⟩:∃e1,(g.update (s.heap.objs.size+1) (Obj.mapSeq λ_=>(#[]:Array Value))).get? (s.heap.objs.size+1)=some (seqObj "list" #[] e1):=⟨_,get?_update_seq o1 λ_=> #[]⟩;have z3:((g.update (s.heap.objs.size+1) (Obj.mapSeq λ_=>(#[]:Array Value))).push (seqObj "tuple" vs.toArray 0)).objs.size=s.heap.objs.size+3:=by rw[size_push',Heap.size_update,z2]
  have q1:(((g.update (s.heap.objs.size+1) (Obj.mapSeq λ_=>(#[]:Array Value))).push (seqObj "tuple" vs.toArray 0)).push (seqObj "list" #[] 0)).get? (s.heap.objs.size+3)=some (seqObj "list" #[] 0):=z3 ▸ Heap.get?_push_size _ rfl
  obtain⟨h₀,L,m,K⟩:=h (s.heap.objs.size+1) (s.heap.objs.size+3) e1 (((g.update (s.heap.objs.size+1) (Obj.mapSeq λ_=>(#[]:Array Value))).push (seqObj "tuple" vs.toArray 0)).push (seqObj "list" #[] 0)) (Nat.le_succ _) (Nat.lt_of_lt_of_le (Nat.lt_succ_self _) (Nat.le_succ _)) (λb o q=>by
   have hlt:=Heap.lt_size q;refine Zf _ (Zf _ ?_);rw[Heap.get?_update_ne _ _ _ _ (Nat.ne_of_lt (Nat.lt_succ_of_lt hlt))];exact k1 b o q) q1 (Zf _ (Zf _ o2))
  unfold ksk_tree;refine Za (listItems_at o1 rfl (Za (listUpdate_at o1 rfl (Za (seqEpoch_at o2 rfl (Za (wpAny_newTuple (Za (wpAny_newList (wpAny_holding ?_))))))) (by rw[Zk,sizeLine_eq];omega) (Nat.zero_le _))));dsimp only;rw[z3];exact DA (h₀:=h₀) (L:=L) (m:=m) (P:=_) q1 h1 (W.kat_keys_mono K λks e t _ hd=>hd.mono λt4 hq=>⟨_,rfl,Zb ⟨_,rfl,hq⟩⟩)
end
section
variable {X:Cx}{N:List Str}{sc:Scope}{G:Gs}{ca:Nat->Addr}{cl:Cl}{pins:List (Addr×Obj)}{σ:Sg}{H:Hp}{s:Shared}{m:List Addr}{h:Hh}
theorem AW(go:GOk X G ca cl)(xo:XOk X N sc)(hr:Room 4 X.A)(I:Inv X pins σ H s)(w:Wd X.K m h H){f:Addr}{lq x:Str}{ps:Arguments}{body:Expr}{lsc:Scope}(L:LamO H f lq ps body lsc)(hf:X.s₀.heap.objs.size<=f)(S:FnScope [x] [x] lsc)(hb:∀(s:Shared)(u pm cd ct:Value),BindsTo s (W.kla_fn "<lambda>" lq ps body lsc [] pm cd ct) ⟨[u],[]⟩ [(x,u)])(he:SE [x] lsc G RF body)
 {a:Addr}{l l':List D}{vs:List V}(hq:SqL X.K H a vs)(q:RDs X.K m H l vs)(h64:l.length<64)(hk:∀d∈l,∃k,oP h d=some k)(hp:l'.Perm l)(hs:l'.Pairwise (Bef (yP h))){Q:VK}
 (c:∀p m' H',Gr X.K m H m' H'->Wd X.K m' (h++ [.lst l']) H'->RD X.K m' H' (.ref h.length) (.ref p)->Q (.ref p) H'):wpAny (model X.prog X.w) X.A (call (.builtin "sorted") [.ref a] [(Str.ofString "key",.ref f)]) (EP X pins σ Q) X.xe s:=by
 obtain⟨its,p1,t1,_⟩:=I.list hq;have l1:=q.length;have l2:=p1.length;obtain⟨mm,F⟩:=I.fr;have hr2:Room 2 X.A.in1.in1:=hr.mono (by omega) |>.in1.in1
 have own:∀b,X.s₀.heap.objs.size<=b->b≠X.env.locals->X.base.get? b=none->(∀b' o,s.heap.get? b'=some o->b'≠b)->Own X pins b/\H b=none:=λb h1 h2 h3 h4=>⟨⟨h1,h2,λy c e=>by
  obtain⟨v,o,ho,_⟩:=I.cell y c e;exact h4 c o ho,λp hp=>h4 _ _ (I.pin p hp).1,h3⟩,by
  cases e:H b with
  |none=>rfl
  |some u=>
   obtain⟨o,ho⟩:=iW (I.hok b u e);exact absurd rfl (h4 b o ho)⟩
 have start:∀Dn kS e1 (h':Heap),Own X pins Dn->H Dn=none->Own X pins kS->H kS=none->(∀b o,b≠X.env.locals->s.heap.get? b=some o->h'.get? b=some o)->h'.Ns X.env.locals mm->h'.get? kS=some (seqObj "list" #[] 0)->h'.get? Dn=some (seqObj "list" #[] e1)->KSt X pins σ m H h mm Dn kS e1 m H {s with heap:=h'} [] 0:=λDn kS e1 h' OD HD OK HK kp ns g1 g2=>
  ⟨sR (tk:=s.toks) I OD HD (λb o h1 _ e=>kp b o h1 e) (λm' hm=>by
   have:m'=mm:=funext λx=>hm.agree F.ns x;rw[this];exact ns),.refl,w,ns,g1,g2,HK,HD⟩
 by_cases h2:2<=l.length
 ·refine W.kat_sortedK (b:=false) F (jU (g:=X.base)) t1.isList (by omega) (by omega) (ksk_s1 _ _) (λy=>ksk_l1 _ _) (λy=>ksk_t1 f y) λDn kS e1 h' F' N' lk ltD=>?_;have K0:=N' (kS,seqObj "list" #[] 0) Zl;have D0:=N' (Dn,seqObj "list" #[] e1) (Zj _ Zl);obtain⟨c0,pm,ctv,oc,fo,vz,tz,hf1,_⟩:=L.ex;have gf:s.heap.get? f=some fo:=(I.hok f _ hf1).1
  have fb:X.base.get? f=none:=by
   cases e:X.base.get? f with
   |none=>rfl
   |some o=>have:=(I.bs f o e).2;rw[hf1] at this;cases this
  have fD:f<Dn:=ltD (f,fo) (bV (λz=>by rw[z,I.free] at hf1;cases hf1) fb gf);obtain⟨OD,HD⟩:=own Dn (Nat.le_trans hf (Nat.le_of_lt fD)) D0.2.1 D0.2.2 (λb o e z=>by subst z;exact Nat.lt_irrefl _ (ltD (b,o) (bV D0.2.1 D0.2.2 e)));obtain⟨OK,HK⟩:=own kS (Nat.le_trans hf (Nat.le_of_lt (Nat.lt_trans fD lk))) K0.2.1 K0.2.2 (λb o e z=>by subst z;exact absurd (ltD (b,o) (bV K0.2.1 K0.2.2 e)) (Nat.not_lt.mpr (Nat.le_of_lt lk)));have ne:Dn≠kS:=Nat.ne_of_lt lk
  have kp:∀b o,b≠X.env.locals->s.heap.get? b=some o->h'.get? b=some o:=λb o hb e=>by
   cases z:X.base.get? b with
   |some u=>
    have:=I.bk b u z;rw[e] at this;cases this;exact F'.keep b _ z
   |none=>exact(N' (b,o) (Zj _ (Zj _ (bV hb z e)))).1
  refine wN go xo hr2 rfl L S hb he OK OD ne l [] m H _ [] 0 vs its hk (start Dn kS e1 h' OD HD OK HK kp F'.ns K0.1 D0.1) .nil q p1 λm' H' s' ks' e' K kv=>?_;exact yA K OK OD ne kv (q.mono K.g) p1 h2 h64 hp hs (c Dn)
 ·have el:l'=l:=by
   have hl:=hp.length_eq
   match l,l',h2,hl,hp with
   | [],[],_,_,_=>rfl
   | [_],[_],_,_,hp=>exact List.perm_singleton.mp hp
   | [],_::_,_,hl,_=>simp at hl
   | [_],[],_,hl,_=>simp at hl
   | [_],_::_::_,_,hl,_=>simp at hl
   |_::_::_,_,h2,_,_=>exact absurd (by simp) h2
  subst el;refine vF t1.isList (by omega) λDn kS e1 h' lD lk kp g1 g2=>⟨X.base,X.env.locals,mm,?_⟩;have Ll:=I.lt
  have bz:∀b,s.heap.objs.size<=b->X.base.get? b=none:=λb hb=>by
   cases e:X.base.get? b with
   |none=>rfl
   |some o=>exact absurd (Heap.lt_size (I.bk b o e)) (Nat.not_lt.mpr hb)
  have sz:=I.sz;obtain⟨OD,HD⟩:=own Dn (Nat.le_trans sz lD) (Nat.ne_of_gt (Nat.lt_of_lt_of_le Ll lD)) (bz _ lD) (λb o e=>Nat.ne_of_lt (Nat.lt_of_lt_of_le (Heap.lt_size e) lD));obtain⟨OK,HK⟩:=own kS (Nat.le_trans sz (Nat.le_trans lD (Nat.le_of_lt lk))) (Nat.ne_of_gt (Nat.lt_of_lt_of_le Ll (Nat.le_trans lD (Nat.le_of_lt lk)))) (bz _ (Nat.le_trans lD (Nat.le_of_lt lk))) (λb o e=>Nat.ne_of_lt (Nat.lt_of_lt_of_le (Heap.lt_size e) (Nat.le_trans lD (Nat.le_of_lt lk))));have ne:Dn≠kS:=Nat.ne_of_lt lk;refine wN go xo hr2 rfl L S hb he OK OD ne l' [] m H _ [] 0 vs its hk (start Dn kS e1 h' OD HD OK HK (λb o _ e=>kp b o e) (F.ns.keeps kp) g1 g2) .nil q p1 λm' H' s' ks' e' K kv=>?_;exact K.fin OK OD ne (q.mono K.g) p1 (by rw[<- l1,sizeLine_eq];omega) (c Dn)
end
structure LamX (X:Cx)(c P:Addr)(lq:Str):Prop where
 code:X.env.code=.ref c
 f:LamF X.K c P
 q:X.env.qual++"<lambda>"=lq
 room:Room 4 X.A
def QU(P:Addr)(lq:Str)(N:List Str)(sc:Scope)(G:Gs)(c:Ss)(e:List Stmt):Prop:=∀{X:Cx}{ca:Nat->Addr}{cl:Cl}{W:Nat}{Wx:Ws}{rz:Bool}{ch:Addr},XOk X N sc->GOk X G ca cl->(∀x,X.fn x=true)->XX X ca Wx rz->LamX X ch P lq->PSs X e (TDS X.K Wx (bO G cl W c))
section
variable {X:Cx}{N:List Str}{sc:Scope}{G:Gs}{ca:Nat->Addr}{cl:Cl}
theorem MR(xo:XOk X N sc)(go:GOk X G ca cl){c P:Addr}{lq:Str}(LX:LamX X c P lq){y:Expr}{p kp pos lpos:Pos}{args:Arguments}{body:Expr}{lsc:Scope}{x:Str}{a:E}(hg:Gl X "sorted")(ha:PE X y (TDE X.K (ev G cl a)))(hs:starEach [y] X.env=[(false,eval y X.env)])
 (hd:defaultsOf args X.env=([],[]))(hcl:closureFor lsc X.env=pure [])(S:FnScope [x] [x] lsc)(hb:∀(s:Shared)(u pm cd ct:Value),BindsTo s (W.kla_fn "<lambda>" lq args body lsc [] pm cd ct) ⟨[u],[]⟩ [(x,u)])(he:SE [x] lsc G RF body):
 PE X (.Call (.Name "sorted" p) [y] [⟨some "key",.Lambda args body lsc lpos,kp⟩] pos) (TDE X.K (ev G cl (.sbn a P lpos lq))):=by
 intro pins s σ H Q I ⟨m,r,h,d,h',w,st,e,c⟩;rw[ev] at e;obtain⟨z,h1,ez,e⟩:=Rs.bind_ok e;unfold FU at e;split at e
 ·rename_i l hl el;split at e
  ·rename_i l' es;cases e;obtain⟨⟨h64,tab,hk⟩,hp,hs'⟩:=FT es;have hA:PA X [y] (mO (TDE X.K (ev G cl a)) rT):=gE ha iU (by rw[hs];rfl);refine wpAny_Call_Name_kw (kW I hg (go.blt .sorted) (oG .sorted) ?_ (by decide+kernel) (by decide+kernel));refine callWith_kw (bP (hA pos pins s σ H (λvs H1=>match vs with| [v]=>∃m1,Gr X.K m H m1 H1/\Wd X.K m1 h1 H1/\RD X.K m1 H1 z v|_=>False) I ⟨m,r,h,z,h1,w,st,ez,λm' v H' g w' rv=>⟨m',g,w',rv⟩⟩) λus s1 ⟨vs,H1,I1,r1,q1⟩=>?_) (by rw[hs];rfl) (by rw[hs];rfl) rfl rfl
   obtain⟨v,rfl⟩:∃v,vs=[v]:=by
    rcases vs with _|⟨v,_|⟨y,vs⟩⟩
    ·exact q1.elim
    ·exact⟨v,rfl⟩
    ·exact q1.elim
   obtain⟨m1,g1,w1,rz⟩:=q1;refine kws_cons (bP (CB I1 LX.f LX.code LX.q hd hcl w1 tab (R:=λv2 H2=>∃f,v2=.ref f/\Gr X.K m1 H1 m1 H2/\Wd X.K m1 h1 H2/\LamO H2 f lq args body lsc/\X.s₀.heap.objs.size<=f) λf H2 g2 w2 L hf=>⟨f,rfl,g2,w2,L,hf⟩) λu s2 ⟨v2,H2,I2,r2,f,ef,g2,w2,L,hf⟩=>kws_nil ?_);subst ef;cases r2;obtain⟨u1,rfl,ru⟩:=fP r1;obtain⟨pa,ws,rfl,hq,rw'⟩:=fM w2 (rz.mono g2) hl el;cases ru;exact AW go xo LX.room I2 w2 L hf S hb he hq rw' h64 hk hp hs' λp m' H' g w' rd=>c m' _ H' (g1.trans (g2.trans g)) w' rd
  ·cases e
 ·cases e
end
theorem VR{P:Addr}{lq:Str}{N:List Str}{sc:Scope}{G:Gs}{y:Expr}{p kp pos lpos rp:Pos}{args:Arguments}{body:Expr}{lsc:Scope}{x:Str}{a:E}(hg:wQ sc "sorted"=true)(hn:dJ y=true)(ha:SE N sc G a y)(hd:∀env:Env,defaultsOf args env=([],[]))(hcl:∀env:Env,closureFor lsc env=pure [])(S:FnScope [x] [x] lsc)
 (hb:∀(s:Shared)(u pm cd ct:Value),BindsTo s (PySem.W.kla_fn "<lambda>" lq args body lsc [] pm cd ct) ⟨[u],[]⟩ [(x,u)])(he:SE [x] lsc G RF body):
 QU P lq N sc G (.cons (.ret (.sbn a P lpos lq)) .nil) [.Return (some (.Call (.Name "sorted" p) [y] [⟨some "key",.Lambda args body lsc lpos,kp⟩] pos)) rp]:=λ{X ca cl W Wx rz ch} xo go hfn xx LX=>by
 refine(GA (BI (MR (p:=p) (kp:=kp) (pos:=pos) xo go LX (dW xo hg) (ha xo go).1 (by rw[bM [] hn];rfl) (hd X.env) (hcl X.env) S hb he))).wk λZ s H ⟨m,r,hh,w,st,o⟩=>?_;refine TDS.one (Wx:=Wx) (f:=λr h=>(ev G cl (.sbn a P lpos lq) r h).nx.bind λz h=>.ok (.rt z) h) (λr h=>rfl) ⟨m,r,hh,w,st,?_⟩ λm2 r h2 H2 dx y w2 st2 rx o=>o m2 H2 .refl w2 _ rx;rw[bO,xs] at o;cases hx:ev G cl (.sbn a P lpos lq) r hh with
 |ok z h3=>rw[hx] at o;dsimp only;rw[hx];exact o
 |exc c r' h3=>rw[hx] at o;dsimp only;rw[hx];exact o
 |bad=>rw[hx] at o;dsimp only;rw[hx];exact o
structure Fc where
 np:Nat
 ns:Nat
 body:Ss
noncomputable def cU:Fl->Hh->Rs D
 |.rt d,h=>.ok d h
 |.nx _,h=>.ok .non h
 |_,_=>.bad
noncomputable def aS(G:Gs)(T:Nat->Option Fc)(W:Nat):Nat->Cl
 |0,_,_,_=>.bad
 |n+1,f,ds,h=>match T f with
  |none=>.bad
  |some c=>if ds.length=c.np then(bO G (aS G T W n) W c.body (ds.map some++List.replicate (c.ns-c.np) none) h).bind cU else .bad
def SX(K:W.Frag)(G:Gs)(qual:Str)(fd:FuncData)(N:List Str)(sc:Scope)(b:Ss)(e:List Stmt):Prop:=eQ N sc G b e\/∃P lq ch,fd.code=.ref ch/\LamF K ch P/\qual++".<locals>."++"<lambda>"=lq/\QU P lq N sc G b e
structure FmOk (K:W.Frag)(G:Gs)(P:Addr->Prop)(x:Str)(c:Fc):Prop where
 ex:∃st fa fd N ps qual,Fun K x qual st fa fd/\FnScope N ps (aG st)/\ps.length=c.np/\N.length=c.ns/\Binds K fd ps []/\P fa/\SX K G qual fd N (aG st) c.body (aN st)
abbrev QZ(K:W.Frag)(mg:Str->Option Value)(G:Gs)(x:Str)(c:Fc):Prop:=FmOk K G (λfa=>mg x=some (.ref fa)) x c
noncomputable def AllP{α:Type}(P:Nat->α->Prop):Nat->List α->Prop
 |_,[]=>True
 |i,a::l=>P i a/\AllP P (i+1) l
theorem AllP.get{α:Type}{P:Nat->α->Prop}:∀{l:List α}{i:Nat},AllP P i l->∀{f:Nat}{x:α},l[f]? =some x->P (i+f) x
 |_::_,_,h,0,_,e=>by cases e;exact h.1
 |_::l,i,h,f+1,x,e=>by
  have q:=AllP.get h.2 (f:=f) (x:=x) (by simpa using e);rwa [show i+1+f=i+(f+1) by omega] at q
theorem AllP.get0{α:Type}{P:Nat->α->Prop}{l:List α}(h:AllP P 0 l){f:Nat}{x:α}(e:l[f]? =some x):P f x:=by
 have q:=AllP.get h e;rwa [Nat.zero_add] at q
theorem NV{us:List Value}(h:us.length=1):∃a,us=[a]:=List.length_eq_one_iff.mp h
theorem ZJ{us:List Value}(h:us.length=2):∃a b,us=[a,b]:=by
 match us,h with
 | [a,b],_=>exact⟨a,b,rfl⟩
theorem NU{us:List Value}(h:us.length=3):∃a b c,us=[a,b,c]:=by
 match us,h with
 | [a,b,c],_=>exact⟨a,b,c,rfl⟩
theorem ZG{us:List Value}(h:us.length=6):∃a b c d e f,us=[a,b,c,d,e,f]:=by
 match us,h with
 | [a,b,c,d,e,f],_=>exact⟨a,b,c,d,e,f,rfl⟩
theorem AllP.mem{α:Type}{P:α->Prop}:∀{l:List α}{i:Nat},AllP (λ_=>P) i l->∀{x:α},x∈l->P x
 |_::_,_,h,_,.head _=>h.1
 |_::_,_,h,_,.tail _ q=>AllP.mem h.2 q
structure PrOk (K:W.Frag)(mg:Str->Option Value)(G:Gs)(ca:Nat->Addr)(T:Nat->Option Fc):Prop where
 fn:∀(f:Nat)(x:Str),G.fns[f]? =some x->∃c,T f=some c/\QZ K mg G x c
 cst:∀(g:Nat)(x:Str)(d:D),G.csts[g]? =some (x,d)->∃v u,mg x=some u/\RelV v u/\∀m H,RD K m H d v
 blt:∀f:Blt,mg f.nm=none
 ty:∀t:Ty,mg (Str.ofString t.nm)=none
 rng:mg "range"=none
 exc:∀(c:Nat)(x:Str),G.excs[c]? =some x->mg x=some (.ref (ca c))/\ExcF K (ca c)
 sub:∀p∈G.sub,W.exmOne K (.ref (ca p.1)) (.ref (ca p.2))=some true/\W.kitOne K (.ref (ca p.1)) (.ref (ca p.2))=some true/\ExcF K (ca p.1)
 nsub:∀p∈G.nsub,W.kitOne K (.ref (ca p.1)) (.ref (ca p.2))=some false/\ExcN K (ca p.1)
 verr:mg "ValueError"=none
 att:∀p∈G.atts,∃C,W.nsIn K mainGlobals p.1=some (some (.ref C))/\Cls K C/\NoAttr K C p.2
 meth:∀p∈G.meths,∃C c,W.nsIn K mainGlobals p.1=some (some (.ref C))/\Cls K C/\T p.2.2=some c/\FmOk K G (λfa=>Meth K C p.2.1 fa) p.2.1 c
 new:∀p∈G.news,∃C c,W.nsIn K mainGlobals p.1=some (some (.ref C))/\mg p.1=some (.ref C)/\T p.2=some c/\FmOk K G (λfa=>Mk K C fa) "__init__" c
theorem RSt.start{K:W.Frag}{m:List Addr}{H:Hp}{ds:List D}{vs:List V}(r:RDs K m H ds vs)(k:Nat):RSt K m H (ds.map some++List.replicate k none) (vs.map some++List.replicate k none):=by
 refine⟨by simp[r.length],λi d e=>?_⟩
 by_cases hi:i<ds.length
 ·rw[List.getElem?_append_left (by simpa using hi),Zi] at e;cases z:ds[i]? with
  |none=>rw[z] at e;cases e
  |some d'=>
   rw[z] at e
   have e':d'=d:=by
    have e2:some (some d')=some (some d):=e;injection e2 with e2;injection e2
   subst e';obtain⟨v,hv,rv⟩:=r.get z;exact⟨v,by rw[List.getElem?_append_left (by rw[Zc, <- r.length];exact hi),Zi,hv];rfl,rv⟩
 ·rw[List.getElem?_append_right (by simpa using hi),List.getElem?_replicate] at e;split at e<;>cases e
section
variable {P:Program}{w:World}{K:PySem.W.Frag}{mg:Str->Option Value}{base:Heap}{G:Gs}{ca:Nat->Addr}{T:Nat->Option Fc}{W:Nat}
theorem _root_.L2.Fun.okX{x qual:Str}{st:Stmt}{f:Addr}{fd:FuncData}{N ps:List Str}{k:Nat}{sp:Sp}(F:Fun K x qual st f fd)(S:FnScope N ps (aG st))(len:∀vs H Q E,sp vs H Q E->vs.length=ps.length)
 (hbody:∀(cdv:Value),fd.code=cdv->∀(A:Around)(outer:List Env)(s:Shared)(H:Hp)(vs:List V)(Q:VK)(E:XK),Room k (A.deeper (envOfC qual (aG st) s.heap.objs.size f cdv))->sp vs H Q E->
   ∃t,PSs (iN (rK P w) P w K mg base N qual (aG st) f cdv A outer s H E) (aN st) t/\t {nx:=λ_ H'=>Q .non H',rt:=Q} (start N vs) H):FnOk P w K mg base (rK P w) (k+1) f fd ps sp:=by
 obtain⟨oc,od,kV,doc,pm,an,cdv,ct,osl,rfl,lk,hcd⟩:=F.ex;exact US lk hcd S len λA outer s H vs Q E hr hsp=>hbody cdv rfl A outer s H vs Q E hr hsp
abbrev LM(P:Program)(w:World)(K:PySem.W.Frag)(mg:Str->Option Value)(base:Heap)(G:Gs)(ca:Nat->Addr)(T:Nat->Option Fc)(W n:Nat):Prop:=∀(f:Nat)(x:Str)(c:Fc)(R:Addr->Prop),T f=some c->FmOk K G R x c->∃fa fd ps,FnOk P w K mg base (rK P w) (2*n+4) fa fd ps (AQ K ca (aS G T W n f) ps.length)/\R fa/\PySem.W.keepIn K (.ref fa)=true/\Binds K fd ps []/\∀ds h,aS G T W n f ds h≠ .bad->ds.length=ps.length
theorem wV(pr:PrOk K mg G ca T){n f:Nat}(ih:LM P w K mg base G ca T W n){x qual:Str}{c:Fc}{st:Stmt}{fa:Addr}{fd:FuncData}{N ps:List Str}(hc:T f=some c)(F:Fun K x qual st fa fd)(S:FnScope N ps (aG st))(h1:ps.length=c.np)(h2:N.length=c.ns)
 (hk:SX K G qual fd N (aG st) c.body (aN st)):FnOk P w K mg base (rK P w) (2*n+4+1+1) fa fd ps (AQ K ca (aS G T W (n+1) f) ps.length):=by
 refine F.okX S (λvs H Q E h=>h.1) (λcdv hcdv A outer s H vs Q E hr h=>?_);obtain⟨hl,m,h,ds,wd,rd,o⟩:=h;simp only[aS,hc] at o;have hlen:ds.length=c.np:=by rw[rd.length,hl,h1]
 rw[if_pos hlen] at o
 let X:Cx:=iN (rK P w) P w K mg base N qual (aG st) fa cdv A outer s H E
 have xo:XOk X N (aG st):=⟨rfl,rfl,rfl,S.nd,⟨_,hr⟩,pr.rng,PassesOwn.leaving⟩;have hr0:Room (2*n+4) X.A:=hr.mono (Nat.le_succ _)
 have go:GOk X G ca (aS G T W n):=⟨λf' x' hf'=>by
  obtain⟨c',hc',fc⟩:=pr.fn f' x' hf';obtain⟨fa',fd',ps',F',hm',hk',hb',hl'⟩:=ih f' x' c' _ hc' fc
  exact⟨fa',fd',ps',_,F',hr0,hm',hk',hb',hl'⟩,pr.cst,pr.blt,pr.ty,pr.exc,pr.sub,pr.nsub,pr.verr,⟨pr.att,λp hp=>by
   obtain⟨C,c',hC,cls,hc',fc⟩:=pr.meth p hp;obtain⟨fa',fd',ps',F',hm',hk',hb',hl'⟩:=ih p.2.2 p.2.1 c' _ hc' fc;exact⟨C,fa',fd',ps',_,hC,cls,hm',F',hr0,hb',hl'⟩,λp hp=>by
   obtain⟨C,c',hC,hmC,hc',fc⟩:=pr.new p hp;obtain⟨fa',fd',ps',F',hm',hk',hb',hl'⟩:=ih p.2 _ c' _ hc' fc;exact⟨C,fa',fd',ps',_,hC,hmC,hm',F',hr,hb',hl'⟩⟩⟩
 have hk':PSs X (aN st) (TDS X.K (λc _ H=>∀v,E v (some (ca c)) H) (bO G (aS G T W n) W c.body)):=by
  rcases hk with hk|⟨P0,lq,ch,e1,e2,e3,hk⟩
  ·exact hk (W:=W) xo go (λ_=>rfl) UT (.inl rfl)
  ·exact hk (W:=W) xo go (λ_=>rfl) UT ⟨by show cdv=_;rw[<- hcdv,e1],e2,e3,hr0.mono (by omega)⟩
 refine⟨_,hk',m,ds.map some++List.replicate (c.ns-c.np) none,h,wd,?_,?_⟩
 ·show RSt K m H _ (vs.map some++List.replicate (N.length-vs.length) none);rw[show N.length-vs.length=c.ns-c.np by omega];exact RSt.start rd _
 ·cases hx:bO G (aS G T W n) W c.body (ds.map some++List.replicate (c.ns-c.np) none) h with
  |bad=>rw[hx] at o;exact o
  |exc c' r' h'=>
   rw[hx] at o;exact λm' H' s' g w' _ v=>o m' H' v g w'
  |ok fl h'=>
   rw[hx] at o;intro m' H' g w';cases fl with
   |rt d'=>exact λv rv=>o m' v H' g w' rv
   |nx r'=>exact λs' _=>o m' .non H' g w' .non
   |bk r'=>exact o.elim
   |ct r'=>exact o.elim
theorem OS(pr:PrOk K mg G ca T):∀n:Nat,LM P w K mg base G ca T W n:=by
 intro n
 induction n with
 |zero=>
  intro f x c R hc ⟨st,fa,fd,N,ps,qual,F,S,h1,h2,hb,hm,hk⟩;refine⟨fa,fd,ps,⟨λvs H Q E h=>h.1,λA outer s H args us vs Q E _ _ _ _ h=>?_⟩,hm,F.kp,hb,λds h e=>absurd rfl e⟩;obtain⟨_,m,h,ds,_,_,o⟩:=h;exact o.elim
 |succ n ih=>
  intro f x c R hc ⟨st,fa,fd,N,ps,qual,F,S,h1,h2,hb,hm,hk⟩;refine⟨fa,fd,ps,wV pr ih hc F S h1 h2 hk,hm,F.kp,hb,λds h e=>?_⟩;simp only[aS,hc] at e
  by_cases hn:ds.length=c.np
  ·rw[hn,h1]
  ·rw[if_neg hn] at e;exact absurd rfl e
end
theorem oC{K:W.Frag}{m:List Addr}{H:Hp}{a:Addr}{dd:Option Addr}{its:Array Value}{n:Nat}{sl:Array (Option Value)}{ds:List D}{vs:List V}(h:K.lookup a=some ⟨.type "tuple",dd,.seq its n,sl⟩)(hz:its.size<=sizeLine)
 (v:Vals vs its.toList)(r:RDs K m H ds vs):RD K m H (.tup ds) (.ref a):=.tup (.inr ⟨_,its,n,h,rfl,rfl,hz,v⟩) r
def spO(K:W.Frag)(f:List D->Hh->Rs D)(n:Nat):Sp:=λvs H Q _=>vs.length=n/\∃m h ds d h',Wd K m h H/\RDs K m H ds vs/\f ds h=.ok d h'/\∀m' v H',Gr K m H m' H'->Wd K m' h' H'->RD K m' H' d v->Q v H'
theorem SM{K:W.Frag}{ca:Nat->Addr}{f:List D->Hh->Rs D}{n:Nat}{vs:List V}{H:Hp}{Q:VK}{E:XK}(h:spO K f n vs H Q E):AQ K ca f n vs H Q E:=by
 obtain⟨hl,m,h,ds,d,h',w,r,e,c⟩:=h;exact⟨hl,m,h,ds,w,r,by rw[e];exact c⟩
theorem law_callT{P:Program}{w:World}{K:W.Frag}{mg mb:Str->Option Value}{CX:AA}{k:Nat}{fa a Tb cT:Addr}{fd:FuncData}{x:Str}{sp:Sp}{s₁:Shared}{vs:List Value}{ns:List Int}
 (KX:K.In s₁.heap)(hns:s₁.heap.Ns mainGlobals mg)(hb:s₁.heap.Ns builtinsNs mb)(hbb:∀x:Str,x≠"__name__"->mb x=bootBuiltins x)(hlim:s₁.heap.NoLimit)(hbm:WO mg s₁.heap)(hg:s₁.gens= #[])
 (ha:s₁.heap.get? a=some {cls:=.type "list",data:=.seq vs.toArray})(hi:IntsAre vs ns)(hl:ns.length<=sizeLine)(hr:Room k callerA)(C:W.CodeHd s₁.heap cT Tb)(hT:s₁.heap.get? Tb=some (W.tabObj #[]))(kT:K.lookup Tb=none)
 (F:∀base:Heap,K.In base->base.Ns mainGlobals mg->FnOk P w K mg base CX k fa fd [x] sp)(hbind:∀(s:Shared)(u:Value),BindsTo s fd ⟨[u],[]⟩ [(x,u)])
 (hsp:∀H:Hp,SqR K H a (ns.map V.int)->H Tb=some (.tbl #[])->sp [.ref a] H (λv _=>v=.bl true) λ_ _ _=>False)
 (hCX:∀H e s',CX [] H s₁ (λ_ _ _=>False) e s'->False):
 codeAny (model P w) callerA (.call (.ref fa) ⟨[.ref a],[]⟩) (λr s'=>r=.ok (.ret (.bool true))/\OldK s₁.heap s'.heap/\s'.os=s₁.os/\AllBare s'.gens) s₁:=by
 have rv:=oW hi;have lenV:=hi.length;have aT:a≠Tb:=λz=>by rw[z,hT] at ha;cases ha
 have core:∀H:Hp,(∀b,H b=none\/(b=a/\∃o xs,H b=some (.frz o (.lst xs)))\/(b=Tb/\H b=some (.tbl #[])))->H Tb=some (.tbl #[])->SqR K H a (ns.map V.int)->HOk P w H s₁.heap->(H a≠none->K.lookup a=none)->
  codeAny (model P w) callerA (.call (.ref fa) ⟨[.ref a],[]⟩) (λr s'=>r=.ok (.ret (.bool true))/\OldK s₁.heap s'.heap/\s'.os=s₁.os/\AllBare s'.gens) s₁:=by
  intro H hO hTb hS hok hK
  have no:∀{b:Addr}{o:Obj}{es:Array DictEntry}{ep:Nat},s₁.heap.get? b=some o->o.data=.dict es ep->H b=none:=λ{b o es ep} e d=>by
   rcases hO b with z|⟨rfl,_⟩|⟨rfl,_⟩
   ·exact z
   ·rw[ha] at e;cases e;cases d
   ·rw[hT] at e;cases e;cases d
  have nsK:∀{b:Addr}{m:Str->Option Value},s₁.heap.Ns b m->(sT s₁.heap H).Ns b m:=λ{b m} ⟨o,es,ep,e,d,r⟩=>⟨o,es,ep,nR e (no e d),d,r⟩
  have hKb:K.In (sT s₁.heap H):=λb o e=>nR (KX b o e) (by
   rcases hO b with z|⟨rfl,o,xs,z⟩|⟨rfl,_⟩
   ·exact z
   ·rw[hK (by rw[z];simp)] at e;cases e
   ·rw[kT] at e;cases e)
  have hM:Mod K mg (sT s₁.heap H):=⟨hKb,nsK hns,⟨mb,nsK hb,hbb⟩,let⟨mc,h1,h2⟩:=hlim;⟨mc,nsK h1,h2⟩,let⟨bm,ob,c1,c2,c3,c4,c5⟩:=hbm;⟨bm,ob,c1,c2,nR c3 (by
   rcases hO bm with z|⟨z,_⟩|⟨z,_⟩
   ·exact z
   ·rw[z,ha] at c3;cases c3;cases c5.2
   ·rw[z,hT] at c3;cases c3;cases c5.2),c4,c5⟩⟩
  have e0:Env0 P w K mg (sT s₁.heap H) callerA [] s₁ H:=⟨rfl,hM,λb o e=>GW e,Nat.le_of_eq (yX _ _),trivial,λb hb=>absurd (show b∈([]:List Addr) from hb) (by simp),hok,.of_eq hg⟩;refine codeAny_mono ((F _ hKb (nsK hns)).run callerA [] s₁ H ⟨[.ref a],[]⟩ [.ref a] [.ref a] _ _ hr e0 (hbind s₁ (.ref a)) (.cons rfl .nil) (hsp H hS hTb)) λr s' h=>?_;cases r with
  |error e=>exact(hCX H e s' h).elim
  |ok fl=>
   cases fl with
   |next=>exact False.elim h
   |brk=>exact False.elim h
   |cont=>exact False.elim h
   |ret u=>
    obtain⟨v,H',os,bare,un,hok',r',q⟩:=h;have q':v=.bl true:=q;subst q';obtain rfl:u=Value.bool true:=r';obtain⟨more,hT'⟩:=un.tbls Tb _ hTb;have gT:s'.heap.get? Tb=some {cls:=.none,data:=.fields (#[]++more)}:=hok' Tb _ hT'
    have keep:∀b o,b≠Tb->s₁.heap.get? b=some o->s'.heap.get? b=some o:=λb o nb e=>by
     rcases hO b with z|⟨rfl,ob,xs,z⟩|⟨rfl,_⟩
     ·exact un.keep b o e z (by intro y;exact absurd (show b∈([]:List Addr) from y) (by simp)) (by simp)
     ·have z2:=un.frzs b ob _ z;obtain⟨e1,_⟩:=hok b _ z;obtain⟨e2,_⟩:=hok' b _ z2;rw[e] at e1;cases e1;exact e2
     ·exact absurd rfl nb
    refine⟨rfl,⟨λb o e=>?_,λb o e=>?_⟩,os,bare⟩
    ·by_cases nb:b=Tb
     ·subst nb;rw[hT] at e;cases e;exact .inr (.inl ⟨(C.tab hT).isCodeTable,rfl, #[],more,rfl,gT⟩)
     ·exact .inl (keep b o nb e)
    ·by_cases nb:b=Tb
     ·exact⟨_,by rw[nb];exact gT⟩
     ·exact⟨o,keep b o nb e⟩
 cases hk:K.lookup a with
 |some o=>
  have e:=KX a o hk;rw[ha] at e;cases e;refine core (λb=>if b=Tb then some (.tbl #[]) else none) (λb=>?_) (if_pos rfl) (.inr ⟨_,vs.toArray,_,hk,rfl,rfl,rfl,by rw[Zk,lenV];exact hl,by simpa using rv⟩) (λb u z=>?_) λz=>absurd (if_neg aT) z
  ·by_cases nb:b=Tb
   ·exact .inr (.inr ⟨nb,if_pos nb⟩)
   ·exact .inl (if_neg nb)
  ·by_cases nb:b=Tb
   ·have z':=(if_pos nb).symm.trans z;cases z';subst nb;exact hT
   ·have z':=(if_neg nb).symm.trans z;cases z'
 |none=>
  refine core (λb=>if b=Tb then some (.tbl #[]) else if b=a then some (.frz {cls:=.type "list",data:=.seq vs.toArray} (.lst (ns.map V.int))) else none) (λb=>?_) (if_pos rfl) (.inl ⟨{cls:=.type "list",data:=.seq vs.toArray},(if_neg aT).trans (if_pos rfl)⟩) (λb u z=>?_) λ_=>hk
  ·by_cases nb:b=Tb
   ·exact .inr (.inr ⟨nb,if_pos nb⟩)
   ·by_cases na:b=a
    ·exact .inr (.inl ⟨na,_,_,(if_neg nb).trans (if_pos na)⟩)
    ·exact .inl ((if_neg nb).trans (if_neg na))
  ·by_cases nb:b=Tb
   ·have z':=(if_pos nb).symm.trans z;cases z';subst nb;exact hT
   ·have z1:=(if_neg nb).symm.trans z
    by_cases na:b=a
    ·have z':=(if_pos na).symm.trans z1;cases z';subst na;exact⟨ha,by rw[Zc];exact hl,vs,_,rv,ha⟩
    ·have z':=(if_neg na).symm.trans z1;cases z'
theorem law_ofT{G:Gs}{T:Nat->Option Fc}{W:Nat}{l:PySem.W.OpenLaw}{n k lw:Nat}{q:Program}{loose:List Str}{XP:(Str->Option Value)->Heap->Prop}{YP:World->Heap->Prop}{d:DefRec}{K:Params->PySem.W.Frag}{x lq:Str}{Tb:Addr}{lpos:Pos}
 (run:∀ns:List Int,ns.length<=n->∃h',aS G T W (k+1) lw [.ref 0] [.ro (ns.map D.int),.tab Tb lpos lq]=.ok (.bl true) h')
 (hn:l.most=some n)(hn2:n<=sizeLine)(hdf:d.params.defaults=[])(hr:Room (2*k+4+1+1) callerA)
 (hY:∀(w:World)(h:Heap),YP w h->(K w.params).In h/\h.get? Tb=some (PySem.W.tabObj #[]))
 (F:∀(w:World)(mg:Str->Option Value)(fa:Addr)(h:Heap),(K w.params).In h->h.Ns mainGlobals mg->mg d.name=some (.ref fa)->
   (∃cT,PySem.W.codeHdIn (K w.params) cT Tb=true)/\(K w.params).lookup Tb=none/\∃ca:Nat->Addr,PrOk (K w.params) mg G ca T/\∃fd:FuncData,(∀(s:Shared)(u:Value),BindsTo s fd ⟨[u],[]⟩ [(x,u)])/\∃c st N qual,T lw=some c/\Fun (K w.params) d.name qual st fa fd/\FnScope N [x] (aG st)/\1=c.np/\N.length=c.ns/\SX (K w.params) G qual fd N (aG st) c.body (aN st)):
 PySem.W.WalkO q loose XP YP l.row.toRowW d [] (λf vs=>PySem.call f vs):=by
 refine Att.attach_call hn hdf λw s₀ s₁ mg mb fa o pm cd doc a vs ns Gd Y ho hd hcd hmg hobj hints hlen hg=>?_;obtain⟨KX,hT⟩:=hY w _ Y;obtain⟨⟨cT,hc⟩,kT,ca,pr,fd,hb,c,st,N,qual,hcT,Fu,S,h1,h2,hk⟩:=F w mg fa _ KX Gd.T.g hmg;refine law_callT (k:=2*k+4+1+1) (CX:=rK l.prog w) (sp:=spO (K w.params) (aS G T W (k+1) lw) 1) KX Gd.T.g Gd.T.b Gd.T.builtins Gd.T.nolimit Gd.T.bmain hg hobj hints (Nat.le_trans hlen hn2) hr (PySem.W.codeHd_of_K KX hc) hT kT (λbase _ _=>(wV pr (OS pr k) hcT Fu S h1 h2 hk).imp λ_ _ _ _=>SM) hb (λH hS hTb=>?_) λ_ _ _ ⟨_,_,_,_,_,_,_,_,_,z⟩=>z;obtain⟨h',e⟩:=run ns hlen;refine⟨rfl,[a,Tb],[.ro (ns.map D.int),.tab Tb lpos lq],[.ref 0],.bl true,h',⟨rfl,λi j b o u e1 e2 e3 e4 w1 w2=>?_,λi o b e1 e2=>?_⟩,.cons (.ref rfl) .nil,e,λm' v H' _ _ rd=>by cases rd;rfl⟩
 ·have only:∀(i:Nat)(o:O),([.ro (ns.map D.int),.tab Tb lpos lq]:Hh)[i]? =some o->o.wr=true->i=1:=λi o e w=>by
   match i,e with
   |0,e=>cases e;cases w
   |1,_=>rfl
   |i+2,e=>cases e
  rw[only i o e3 w1,only j u e4 w2]
 ·match i,e1,e2 with
  |0,e1,e2=>cases e1;cases e2;exact⟨_,hS,RDs.ints ns⟩
  |1,e1,e2=>cases e1;cases e2;exact⟨rfl,.inl hTb⟩
  |i+2,e1,e2=>cases e1
theorem hE{N:List Str}{sc:Scope}{G:Gs}{st:Stmt}:SS N sc G .never st:=λ{X ca cl W Wx rz} xo go hfn xx hz=>λpins s σ H Z I ⟨m,r,h,w,st,o⟩=>o.elim
def GF(K:W.Frag)(x:Str)(st:Stmt):Prop:=∃f d,W.nsIn K mainGlobals x=some (some (.ref f))/\Fun K x x st f d
section
variable {K:W.Frag}{x:Str}{st:Stmt}{f:Addr}{oc kV doc pm cdv ct:Value}{od an:Option Addr}{osl:Array (Option Value)}
theorem GF.mk(a:W.nsIn K mainGlobals x=some (some (.ref f)))(l:K.lookup f=some ⟨oc,od,.func (W.fnOf x x (dA st) (aN st) (aG st) .none kV doc pm an cdv ct),osl⟩)(c:W.codeIn K cdv x=true)(k:W.keepIn K (.ref f)=true):GF K x st:=⟨f,_,a,jC l c k⟩
variable {h:Heap}{mg:Str->Option Value}{G:Gs}{c:Fc}{N:List Str}
theorem GF.ok(b:GF K x st)(X:K.In h)(Gn:h.Ns mainGlobals mg)(ps:List Str)(ck:eQ N (aG st) G c.body (aN st))(S:FnScope N ps (aG st):=by trivial)(e1:ps.length=c.np:=by rfl)(e2:N.length=c.ns:=by rfl)
 (hB:∀(kV doc pm:Value)(an:Option Addr)(cdv ct:Value)(us:List Value),us.length=ps.length->bindArgs (W.fnOf x x (dA st) (aN st) (aG st) .none kV doc pm an cdv ct) ⟨us,[]⟩=pure (ps.zip us):=by trivial):QZ K mg G x c:=
 let⟨_,_,a,F⟩:=b;⟨_,_,_,_,_,_,F,S,e1,e2,F.binds hB,W.mg_of X Gn a,.inl ck⟩
end
theorem yF(its:List Value):∀n,n<=its.length->((List.range n).map λ(k:Nat)=>((its.length:Int)-1+ -1*(k:Int)).toNat).filterMap (its[·]?)=its.reverse.take n:=by
 intro n
 induction n with
 |zero=>intro _;simp
 |succ n ih=>
  intro hn;rw[List.range_succ,List.map_append,List.filterMap_append,ih (by omega),List.take_succ,List.getElem?_reverse (by omega),Zh,List.map_nil,show((its.length:Int)-1+ -1*(n:Int)).toNat=its.length-1-n by omega,List.filterMap_cons,Zd (show its.length-1-n<its.length by omega)];rfl
theorem BL(its:List Value):slicePick its.toArray none none (some (-1))=its.reverse.toArray:=by
 unfold slicePick sliceBounds sliceRange;simp only[Option.getD_some,show ¬((-1:Int)>0) by decide,if_false,Zk]
 have hc:(if(its.length:Int)-1> -1 then((its.length:Int)-1 - -1 - -1-1) / - -1 else 0).toNat=its.length:=by
  split
  ·simp
  ·omega
 rw[hc];congr 1;have:=yF its _ (Zn _);rw[List.take_of_length_le (by simp)] at this;rw[<- this]
 simp
section
variable {X:Cx}{N:List Str}{sc:Scope}{G:Gs}
theorem AC{vs:List V}{us:List Value}(h:Vals vs us):Vals vs.reverse us.reverse:=by
 induction h with
 |nil=>exact .nil
 |cons r _ ih=>
  rw[List.reverse_cons,List.reverse_cons];exact ih.append (.cons r .nil)
theorem PY{a:E}{x:Expr}{j:Nat}{p2 p3 p4 pos:Pos}(h_a:SE N sc G a x):SE N sc G (.rvs a) (.Subscript x (.Slice none none (some (.UnaryOp .USub (.Constant (.int 1) j p3) p4)) p2) pos):=λ{X ca cl} xo go=>by
 have h_b:SE N sc G (.neg (.int 1)) (.UnaryOp .USub (.Constant (.int 1) j p3) p4):=dQ aA
 have p:PE X (.Subscript x (.Slice none none (some (.UnaryOp .USub (.Constant (.int 1) j p3) p4)) p2) pos) (TDE X.K (ev G cl (.rvs a))):=by
  intro pins s σ H Q I ⟨m,r,h,d,h',w,st,e,c⟩;rw[ev] at e;obtain⟨z,h1,ez,e⟩:=Rs.bind_ok e;unfold FV at e;split at e
  ·rename_i l hl el;cases e;refine Subscript_ (bP ((h_a xo go).1 pins s σ H (λv H1=>∃m1,Gr X.K m H m1 H1/\Wd X.K m1 h1 H1/\RD X.K m1 H1 z v) I ⟨m,r,h,z,h1,w,st,ez,λm' v H' g w' rv=>⟨m',g,w',rv⟩⟩) λv s1 ⟨vz,H1,I1,r1,m1,g1,w1,rz⟩=>?_)
   have eb:ev G cl (.neg (.int 1)) r h1=.ok (.int (-1)) h1:=by
    rw[ev,show ev G cl (.int 1) r h1=.ok (.int 1) h1 by rw[ev]<;>rfl];rfl
   refine wpAny_Slice ?_;rw[evalPart_none];refine Zb (Zb ?_);refine bP (mC (h_b xo go).1 pins s1 σ H1 (λo H2=>o=some (-1)/\∃m2,Gr X.K m1 H1 m2 H2/\Wd X.K m2 h1 H2) I1 ⟨m1,r,h1,_,h1,w1,st.mono g1,eb,λm' v H' g w' rv=>by cases rv;exact⟨_,rfl,rfl,m',g,w'⟩⟩) λvk s3 ⟨o,H3,I3,pk,eo,m3,g3,w3⟩=>?_;subst eo;obtain⟨pa,ws,rfl,hq,rw'⟩:=fM w3 (rz.mono g3) hl el;cases r1;have I4:Inv X pins σ H3 {s3 with heap:=s3.heap.push {cls:=.type "slice",data:=.fields #[.none,.none,vk]}}:=I3.kept (t':=s3.toks) λb ob q=>Zf _ q;obtain⟨its,p1,t1,hz⟩:=I4.list hq;show wpAny (model X.prog X.w) X.A (subscriptTail x (.Slice none none (some (.UnaryOp .USub (.Constant (.int 1) j p3) p4)) p2) (.ref pa) (.ref s3.heap.objs.size)) (EP X pins σ Q) X.xe {s3 with heap:=s3.heap.push {cls:=.type "slice",data:=.fields #[.none,.none,vk]}};refine tail_any (ops:= [.ref pa,.ref s3.heap.objs.size]) t1.isList.typeIs slot_list_getitem.lookup (wpAny_getItem_list_slice t1.isList (Heap.IsSliceOf.new ..) .none .none pk (by simp) ?_ (by rw[Zk, <- p1.length];exact hz)) (by with_unfolding_all rfl);rw[BL];have fr:=I4.hok.fresh (Zn _);obtain⟨w4,g4⟩:=w3.lstNew fr rw'.rev;exact⟨.ref _,_,I4.laid (t':=s3.toks) (o:=.lst ws.reverse) (λb ob q=>Zf _ q) (Zn _) ⟨by rw[List.length_reverse];exact hz,_,0,AC p1,Heap.get?_push_size _ rfl⟩,rfl,c _ _ _ (g1.trans (g3.trans g4)) w4 (.ref (by rw[<- w3.len];simp))⟩
  ·cases e
 exact⟨p,jM p λ_=>rfl⟩
end
theorem pH:∀{l:List (cB×D)}{ks:List Str},nJ l=some ks->l.map (·.1)=ks.map Sum.inr
 | [],ks,e=>by cases e;rfl
 |(.inl i,d)::r,ks,e=>by cases e
 |(.inr x,d)::r,ks,e=>by
  obtain⟨ks',e1,rfl⟩:=Option.map_eq_some_iff.mp (show(nJ r).map (x:: ·)=some ks from e);rw[Zh,Zh,pH e1]
theorem HH{kvs:List (cB×V)}{vs:List (cB×Value)}(h:KV kvs vs):kvs.map (·.1)=vs.map (·.1):=by
 induction h with
 |nil=>rfl
 |cons e _ ih=>rw[Zh,Zh,e.1,ih]
theorem wG{K:W.Frag}{m:List Addr}{H:Hp}:∀ks:List Str,RDs K m H (ks.map D.str) (ks.map V.str)
 | []=>.nil
 |x::ks=>.cons (.str x) (wG ks)
section
variable {X:Cx}{pins:List (Addr×Obj)}{σ:Sg}{H:Hp}{s:Shared}{mm:Str->Option Value}{Dn:Addr}
theorem CK{h2:Heap}{tk c:Nat}{us:List V}{its:List Value}(I:Inv X pins σ H s)(hn0:s.heap.Ns X.env.locals mm)(nD:∀b o,s.heap.get? b=some o->b≠Dn)(kp:∀b o,b≠X.env.locals->s.heap.get? b=some o->h2.get? b=some o)(ns:h2.Ns X.env.locals mm)(hv:Vals us its)(hz:us.length<=sizeLine)(ha:h2.get? Dn=some (seqObj "list" its.toArray c)):H Dn=none/\Inv X pins σ (bS H Dn (.lst us)) {s with heap:=h2,toks:=tk}:=by
 have HD:H Dn=none:=by
  cases e:H Dn with
  |none=>rfl
  |some o=>
   obtain⟨u,hu⟩:=iW (I.hok Dn o e);exact absurd rfl (nD Dn u hu)
 have tr:∀b u,H b=some u->b≠Dn/\b≠X.env.locals:=λb u e=>⟨(λz=>by rw[z,HD] at e;cases e),(λz=>by rw[z,I.free] at e;cases e)⟩;refine⟨HD,I.step (g':=s.gens) (d':=s.drawn) (ch:= []) (λ_ z=>nomatch z) (λb o hb _ _ e _=>kp b o hb e) (λb o hb _ _ e _=>⟨o.slots,kp b o hb e⟩) (λb o _ e n=>by rw[aM (nD b o e)];exact n) (λb o _ e=>?_) (λb xs e=>by rw[aM (tr b _ e).1];exact e) (λb o u e=>by rw[aM (tr b _ e).1];exact e) (λb ps e=>⟨#[],by rw[aM (tr b _ e).1,e];simp⟩) (λm' hm=>?_) (λb u e=>?_) I.bare⟩
 ·by_cases hb:b=X.env.locals
  ·subst hb;obtain⟨o',_,_,e',_⟩:=ns;exact⟨o',e'⟩
  ·exact⟨o,kp b o hb e⟩
 ·have:m'=mm:=funext λx=>hm.agree hn0 x;rw[this];exact ns
 ·by_cases hb:b=Dn
  ·subst hb;rw[aZ] at e;cases e;exact⟨hz,its,c,hv,ha⟩
  ·rw[aM hb] at e;refine(I.hok b u e).stay (λb' u' hb' e'=>?_) (λb' e'=>by rw[aM (tr b' _ e').1];exact e') λb' xs e'=>by rw[aM (tr b' _ e').1];exact e'
   rcases hb' with z|z
   ·subst z;exact kp _ _ (tr _ _ e).2 e'
   ·exact kp _ _ (tr _ _ z).2 e'
theorem IT(hc:X.calm=true):fK X (.builtin "sorted") (RC X.K (one AV)):=by
 intro pins s σ H xs us Q I rs ⟨m,h,ds,d,h',w,r,e,c⟩;obtain⟨x,v,rfl,r1,e⟩:=iV r e;unfold AV at e;split at e<;>first |(cases e;done)|skip
 rename_i l el;split at e<;>first |(cases e;done)|skip
 rename_i ks ek;split at e<;>first |(cases e;done)|skip
 rename_i l' es;cases e;obtain⟨⟨h64,_⟩,hp,hs⟩:=wA es;rw[Zc] at h64;obtain⟨n,a,kvs,rfl,rfl,hn,ha,hH,q1,q2⟩:=iE w r1 el;obtain⟨u,rfl,ru⟩:=fP rs;cases ru;obtain⟨z,hsm,vs,rel,o,es',ep,dd⟩:=KW I.hok hH;have kk:=pH ek
 have ln:vs.length=ks.length:=by
  have h1:=congrArg List.length q1;have h2:=congrArg List.length kk;have h3:=rel.length;simp at h1 h2;omega
 have kkv:vs.map (·.1)=ks.map Sum.inr:=by rw[<- kk,q1];exact(HH rel).symm
 obtain⟨mm,F⟩:=I.fr;refine W.kdu_sorted (W.kdl_dict (knd:=cD X.prog X.w) (kvs:=vs) (ep:=ep) hsm) (I.ok.hd hc) F (jU (g:=X.base)) ⟨o,es',dd⟩ (by rw[ln,sizeLine_eq];omega) λDn g tk its F' N' lD hl hv=>?_
 have hit:∀i k,ks[i]? =some k->∃t,its[i]? =some (Value.str k t):=λi k e1=>by
  have hi:i<its.length:=by rw[hl,ln];exact(Ze.mp e1).1
  obtain⟨k',y,f1,f2⟩:=hv i _ (Zd hi)
  have f3:k'=.inr k:=by
   have:=congrArg (λz=>z[i]?) kkv;simp only[Zi,f1,e1] at this;exact Zg this
  subst f3;rw[uR] at f2;rcases bW f2 with ⟨j,t,g1,g2⟩|⟨j,t,g1,g2⟩
  ·cases g1
  ·cases g1;exact⟨t,by rw[Zd hi,g2]⟩
 have lit:its.length=ks.length:=by rw[hl,ln]
 have vl:Vals (ks.map V.str) its:=vT (by rw[Zc,lit]) λi u e1=>by
  have hi:i<ks.length:=by rw[<- lit];exact(Ze.mp e1).1
  obtain⟨t,f1⟩:=hit i _ (Zd hi);rw[e1] at f1;cases f1;exact⟨.str ks[i],by rw[Zi,Zd hi];rfl,t,rfl⟩
 have q:RDs X.K m H (ks.map D.str) (ks.map V.str):=wG ks;have D0:=N' (Dn,W.listOf its.toArray 0) Zl
 have nD:∀b o,s.heap.get? b=some o->b≠Dn:=λb o e z=>by
  subst z;exact Nat.lt_irrefl _ (lD (b,o) (bV D0.2.1 D0.2.2 e))
 have kpN:∀{h2:Heap}{o2:Obj},Fr X.base X.env.locals h2 mm->News X.base X.env.locals h2 ((Dn,o2)::iH X.base s.heap X.env.locals)->∀b o,b≠X.env.locals->s.heap.get? b=some o->h2.get? b=some o:=λ{h2 o2} F2 N2 b o hb e=>by
  cases z:X.base.get? b with
  |some u=>
   have:=I.bk b u z;rw[e] at this;cases this;exact F2.keep b _ z
  |none=>exact(N2 (b,o) (Zj _ (bV hb z e))).1
 have fin:∀{h2:Heap}{c2:Nat}{us:List V}{its':List Value},Fr X.base X.env.locals h2 mm->News X.base X.env.locals h2 ((Dn,W.listOf its'.toArray c2)::iH X.base s.heap X.env.locals)->RDs X.K m H l' us->Vals us its'->us.length<=sizeLine->EP X pins σ Q (.ref Dn) {s with heap:=h2,toks:=tk}:=λ{h2 c2 us its'} F2 N2 rd v2 hz=>by
  obtain⟨HD,I2⟩:=CK (tk:=tk) I F.ns nD (kpN F2 N2) F2.ns v2 hz (N2 _ Zl).1;obtain⟨w2,g2⟩:=w.lstNew HD rd;exact⟨.ref Dn,_,I2,rfl,c _ _ _ g2 w2 (.ref (by rw[<- w.len];simp))⟩
 by_cases h2:2<=ks.length
 ·refine W.kat_lsort (its:=its.toArray) F' N' (.head λp hp z=>?_) rfl (by rw[List.toList_toArray];omega) (by rw[List.toList_toArray];omega) λe1 g2 F2 N2=>?_
  ·exact absurd (lD p hp) (by rw[z];exact Nat.lt_irrefl _)
  rw[List.toList_toArray];refine W.kas_kind (T:=.type "str") (by omega) (λu hu=>?_) (by decide) (by decide) ?_
  ·obtain⟨i,hi,rfl⟩:=List.mem_iff_getElem.mp hu;obtain⟨t,f1⟩:=hit i _ (Zd (by omega));rw[Zd hi] at f1;rw[Zg f1];exact .now
  ·let L:Nat->Nat->Bool:=λi j=>decide (i≠j)&&(lS ((ks.map D.str).getD i .non) ((ks.map D.str).getD j .non)==some true)
   have hne:∀i,L i i=false:=λi=>by simp[L]
   have hL':∀(i j:Nat)(x y:D),(ks.map D.str)[i]? =some x->(ks.map D.str)[j]? =some y->i≠j->(L i j=true↔lS x y=some true):=λi j x y ex ey ne=>by
    simp only[L,ne,ne_eq,not_false_eq_true,decide_true,Bool.true_and,List.getD_eq_getElem?_getD,ex,ey,Option.getD_some,beq_iff_eq]
   have so:=AR hp hs hne hL';rw[Zc] at so;rw[lit];refine KOk.wp (λi j C hi hj ne hC=>?_) (qE so h2) λp ⟨hv,hsd⟩=>?_
   ·obtain⟨t1,b1⟩:=hit i _ (Zd hi);obtain⟨t2,b2⟩:=hit j _ (Zd hj);have ex:(ks.map D.str)[i]? =some (.str ks[i]):=by rw[Zi,Zd hi];rfl
    have ey:(ks.map D.str)[j]? =some (.str ks[j]):=by rw[Zi,Zd hj];rfl
    have eL:L i j=decide (ks[i].cps.toList<ks[j].cps.toList):=by
     have z:=hL' i j _ _ ex ey ne;have lt:lS (.str ks[i]) (.str ks[j])=some (decide (ks[i].cps.toList<ks[j].cps.toList)):=rfl;rw[lt] at z;cases y:L i j with
     |true=>exact(Zg (z.mp y)).symm
     |false=>
      cases y2:decide (ks[i].cps.toList<ks[j].cps.toList) with
      |false=>rfl
      |true=>rw[y2] at z;rw[z.mpr rfl] at y;cases y
    show wpAny _ _ (keyLt' _ (its.getD i Value.none) (its.getD j Value.none)) C _ _;rw[dZ b1,dZ b2];rw[eL] at hC;exact W.kas_lt_str hC
   ·have hv':PV (ks.map D.str).length p:=by rw[Zc];exact hv
    have hsd':Sd L p (ks.map D.str).length:=by rw[Zc];exact hsd
    have pl:∀i∈p.toList,i<(ks.map D.str).length:=λi hi=>List.mem_range.mp (hv'.mem_iff.mp hi);have out:=uP hp hs hL' hv' hsd' D.non;have rd:=q.pick p.toList pl;rw[out] at rd;have v2:=hZ vl p.toList (λi hi=>by have:=pl i hi;simp at this⊢;omega);have hz:=hv.size;refine W.KasFin.intro F2 N2 (.head λp hp z=>absurd (lD p hp) (by rw[z];exact Nat.lt_irrefl _)) λg3 c3 F3 N3=>?_;exact fin F3 N3 rd v2 (by rw[Zc,Array.length_toList,hz,sizeLine_eq];omega)
 ·have e2:l'=ks.map D.str:=by
   have hlen:=hp.length_eq;rw[Zc] at hlen
   match l',ks,h2,hlen,hp with
   | [],[],_,_,_=>rfl
   | [_],[_],_,_,hp=>exact List.perm_singleton.mp hp
   | [],_::_,_,hl,_=>simp at hl
   |_::_,[],_,hl,_=>simp at hl
   |_::_::_,[_],_,hl,_=>simp at hl
   |_,_::_::_,h2,_,_=>exact absurd (by simp) h2
  have o1:g.get? Dn=some (seqObj "list" its.toArray 0):=D0.1;refine wpAny_call_entry slot_list_sort ⟨_,o1,rfl⟩ entry_list_sort (pG o1 (by omega) ?_) (args_list_sort _);have old:∀b o,b≠Dn->g.get? b=some o->(sortedHeap g Dn its its.toArray).get? b=some o:=λb o hb e=>by rw[sortedHeap_old hb (Heap.lt_size e)];exact e
  obtain⟨c2,at2⟩:=sortedHeap_at (out:=its.toArray) o1
  have F2:Fr X.base X.env.locals (sortedHeap g Dn its its.toArray) mm:=⟨by
   obtain⟨o,es,ep,f1,f2⟩:=F'.ns;exact⟨o,es,ep,old _ _ (Ne.symm D0.2.1) f1,f2⟩,λb o e=>old b o (λz=>by rw[z,D0.2.2] at e;cases e) (F'.keep b o e),F'.above⟩
  refine⟨_,rfl,fin (c2:=c2) (its':=its) F2 (λp hp=>?_) (by rw[e2];exact q) vl (by rw[Zc,sizeLine_eq];omega)⟩;rcases List.mem_cons.mp hp with rfl|hp
  ·exact⟨at2,D0.2.1,D0.2.2⟩
  ·have z:=N' p (Zj _ hp);exact⟨old _ _ (λy=>absurd (lD p hp) (by rw[y];exact Nat.lt_irrefl _)) z.1,z.2⟩
end
section
variable {N:List Str}{sc:Scope}{G:Gs}
theorem PX{a:E}{y:Expr}{np pos:Pos}(h2:wQ sc "sorted"=true)(h3:dJ y=true)(h_a:SE N sc G a y):SE N sc G (.sdk a) (.Call (.Name "sorted" np) [y] [] pos):=λ{X ca cl} xo go=>by
 have hl:=mB h3 h_a (aB (N:=N) (sc:=sc) (G:=G))
 have p:PE X (.Call (.Name "sorted" np) [y] [] pos) (TDE X.K (ev G cl (.sdk a))):=(sF (IT xo.calm) (dW xo h2) (go.blt .sorted) (oG .sorted) (hl.2 xo go) (by decide+kernel) (by decide+kernel) (bM [] h3) (gK pos rfl)).wk λs H Q ⟨m,r,hh,d,h',w,st,e1,cc⟩=>by
  rw[ev] at e1;obtain⟨x,h1,e0,e1⟩:=Rs.bind_ok e1;refine⟨m,r,hh,[x],h1,w,st,?_,λm' vs H' g w' rd=>⟨m',h1,[x],d,h',w',rd,e1,λm2 v H2 g2=>cc m2 v H2 (g.trans g2)⟩⟩;rw[cW,e0];rfl
 exact⟨p,jM p λ_=>rfl⟩
end
noncomputable abbrev sM(elt tg1 iter1 tg2 iter2:Expr)(scope:Scope)(pos:Pos):Expr:=.ListComp elt [⟨tg1,iter1,[],0⟩,⟨tg2,iter2,[],0⟩] scope pos
noncomputable def wM(elt:Expr)(acc:Value)(env:Env):rH:=λag=>(eval elt env>>=λx=>call (.builtin "list.append") [acc,x]>>=λ_=>pure ())>>=λ_=>ag
theorem VU(elt tg1 iter1 tg2 iter2:Expr)(scope:Scope)(pos:Pos)(it acc:Value)(env:Env):compTurn (sM elt tg1 iter1 tg2 iter2 scope pos) 1 it acc env=
 fY tg2 iter2.pos it env (wM elt acc env) (again (.compLoop (sM elt tg1 iter1 tg2 iter2 scope pos) 1 it acc env)):=by rfl
theorem QG(elt tg1 iter1 tg2 iter2:Expr)(scope:Scope)(pos:Pos)(it acc:Value)(env:Env):compTurn (sM elt tg1 iter1 tg2 iter2 scope pos) 0 it acc env=
 fY tg1 iter1.pos it env (CM (sM elt tg1 iter1 tg2 iter2 scope pos) iter2 acc env) (again (.compLoop (sM elt tg1 iter1 tg2 iter2 scope pos) 0 it acc env)):=by rfl
theorem UA{elt e tg:Expr}{gens:List Comprehension}{scope:Scope}{pos:Pos}{dep:Nat}{ip:Pos}{it acc:Value}{env:Env}{emit:rH}(he:e=.ListComp elt gens scope pos){P:Program}{w:World}{A:Around}{R:Result->Shared->Prop}{s:Shared}(hct:compTurn e dep it acc env=fY tg ip it env emit (again (.compLoop e dep it acc env)))(J:Nat->Shared->Prop)
 (turn:∀k s,J k s->wpAny (model P w) A (pyNext it) (λr s1=>match r with
   |none=>R (.ok .next) s1
   |some v=>wpAny (model P w) A (letOwnedTupleGo tg it v) (λ_ s2=>wpAny (model P w) A (assign tg env v) (λ_ s3=>∀(Z:PySem.Fin->Shared->Prop)(E:Value->Shared->Prop)(ag:Sem PySem.Fin),(∀s4,(∃k',k'<k/\J k' s4)->wpAny (model P w) A ag Z E s4)->wpAny (model P w) A (emit ag) Z E s3) iX s2) iX s1) iX s)
 (k:Nat)(h:J k s):codeAny (model P w) A (.compLoop e dep it acc env) R s:=by
 subst he;refine codeAny_loop (I:=J) rfl (turn:=λk s hk=>?_) k h;show wpAny _ A (Sem.onRaise (compTurn (.ListComp elt gens scope pos) dep it acc env) (λx=>do noteFrame x env;theTreesLotGoes x)) _ _ s;refine wpAny_noted ?_;rw[hct];unfold fY;have no:∀{E:Value->Shared->Prop}(e:Value)(s:Shared),iX e s->E e s:=λ_ _ f=>f.elim;refine Za (wpAny_standAt (Za (wpAny_mono (turn k s hk) (λr s1 q1=>?_) no)));cases r with
 |none=>exact Zb q1
 |some v=>exact Za (wpAny_mono q1 (λ_ s2 q2=>Za (wpAny_mono q2 (λ_ s3 q3=>q3 _ _ _ λs4 q4=>Zb ⟨rfl,q4⟩) no)) no)
section
variable {Y:Cx}{tg e:Expr}{elt:Expr}{gens:List Comprehension}{scope:Scope}{pos:Pos}{t:Tg}{emit:rH}{fb:Ev->Hh->Rs Ev}{n0 acc dep:Nat}{ip:Pos}{it:Addr}{J:It}{fp:List Addr}{tn:Nat->Heap->Prop}{m2:List Addr}{H2:Hp}{End:Ev->Hh->Prop}{R:Result->Shared->Prop}{pins:List (Addr×Obj)}
theorem LB(he:e=.ListComp elt gens scope pos)(hct:compTurn e dep (.ref it) (.ref acc) Y.env=fY tg ip (.ref it) Y.env emit (again (.compLoop e dep (.ref it) (.ref acc) Y.env)))(calm:Y.calm=true)(bG:PG Y tg (tT Y.K t))(hxe:Y.xe=iX)(bE:PB Y emit n0 acc fb)(T:Turn Y.prog Y.w Y.K tg J fp it tn)
 (Lp:Nat->Nat->Ev->Hh->Prop)(hst:∀i k r h m H,Gr Y.K m2 H2 m H->Wd Y.K m h H->Lp i k r h->WJ Y.K t fb End J Lp i k r h m H)(hacc:m2[n0]? =some acc)
 (fok:∀{H:Hp},(∀b∈fp,H b=none)->∀b∈fp,gO Y pins H b)
 {s:Shared}{σ:Sg}{H:Hp}{m:List Addr}{r:Ev}{h:Hh}{k:Nat}(I:Inv Y pins σ H s)(st:tn 0 s.heap)(fr:∀b∈fp,H b=none)(g:Gr Y.K m2 H2 m H)(w:Wd Y.K m h H)(rs:RSt Y.K m H r σ)(L0:Lp 0 k r h)
 (fin:∀s' σ' H' m' r' h',Inv Y pins σ' H' s'->Gr Y.K m2 H2 m' H'->Wd Y.K m' h' H'->RSt Y.K m' H' r' σ'->End r' h'->R (.ok .next) s'):codeAny (model Y.prog Y.w) Y.A (.compLoop e dep (.ref it) (.ref acc) Y.env) R s:=by
 refine UA he hct (λk s=>∃i σ' H' m r h,Inv Y pins σ' H' s/\tn i s.heap/\(∀b∈fp,H' b=none)/\Gr Y.K m2 H2 m H'/\Wd Y.K m h H'/\RSt Y.K m H' r σ'/\Lp i k r h) ?_ k ⟨0,σ,H,m,r,h,I,st,fr,g,w,rs,L0⟩;rintro k s ⟨i,σ',H',m,r',h,I',st',fr',g',w',rst',L⟩;rcases hst i k r' h m H' g' w' L with ⟨stop,eh⟩|⟨go,d,hy,r1,er,r2,h1,eb,rest⟩
 ·refine bP (T.done Y rfl rfl rfl calm i pins s σ' H' iX I' (fok fr') st' stop) λres s1 ⟨hr,I1⟩=>?_;subst hr;exact fin s1 σ' H' m r' h I1 g' w' rst' eh
 ·refine bP (T.item Y rfl rfl rfl calm i pins s σ' H' iX I' (fok fr') st' go) λres s1 ⟨u,hr,q1⟩=>?_;subst hr;refine bP q1 λ_ s5 ⟨x,H5,I5,rx,yl,st5,fr5⟩=>?_;obtain⟨eH,rd⟩:=hy x H5 yl;subst eH;have I5':=I5.pinned (fok fr5) (T.obj _ _ st5);have bG':=bG (pins++iT fp s5.heap) s5 σ' H5 x u (λσ2 H6=>H6=H5/\RSt Y.K m H5 r1 σ2) I5' rx ⟨m,h,r',d,r1,w',rst',rd,er,λs' z=>⟨rfl,z⟩⟩;rw[hxe] at bG';refine bP bG' λ_ s6 ⟨σ6,H6,I6,eH6,st6⟩=>?_;subst eH6;obtain⟨k',hk,L7⟩:=rest;intro Z E ag hag;refine bE _ s6 σ6 H6 m r1 h r2 h1 I6 w' st6 (g'.pre _ _ hacc) eb Z E ag λs7 m7 σ7 H7 I7 g7 w7 st7=>hag s7 ?_;have pn:∀b∈fp,∀o,s5.heap.get? b=some o->s7.heap.get? b=some o/\H7 b=none:=λb hb o e=>let z:=I7.pin (b,o) (List.mem_append_right _ (List.mem_append_right _ (eW hb e)));⟨z.1,z.2.1⟩;exact⟨k',hk,i+1,σ7,H7,m7,r2,h1,I7.unpinned,T.keep _ _ _ st5 λb hb o e=>(pn b hb o e).1,λb hb=>let⟨o,e,_⟩:=T.obj _ _ st5 b hb;(pn b hb o e).2,g'.trans g7,w7,st7,L7⟩
end
section
variable {Y:Cx}{elt tg1 iter1 tg2 iter2:Expr}{scope:Scope}{pos:Pos}{x y:Nat}{fj fe:Ev->Hh->Rs D}{n0 acc:Nat}
noncomputable def ZK(fe:Ev->Hh->Rs D)(n0:Nat):Ev->Hh->Rs Ev:=λr h=>(fe r h).bind λz h=>(jK (.ref n0) z h).bind λ_ h=>.ok r h
theorem GO(hxe:Y.xe=iX)(pe:PE Y elt (TDE Y.K fe)):PB Y (wM elt (.ref acc) Y.env) n0 acc (ZK fe n0):=by
 intro pins s σ H m r h r' h' I w st hm e Z E ag hag;obtain⟨z,h1,e1,e⟩:=Rs.bind_ok e;obtain⟨u,h2,e2,e⟩:=Rs.bind_ok e;cases e;have no:∀{E:Value->Shared->Prop}(e:Value)(s:Shared),iX e s->E e s:=λ_ _ f=>f.elim;unfold wM;have p1:=pe pins s σ H (λv H1=>∃m1,Gr Y.K m H m1 H1/\Wd Y.K m1 h1 H1/\RD Y.K m1 H1 z v) I ⟨m,r,h,z,h1,w,st,e1,λm' v H' g w' rv=>⟨m',g,w',rv⟩⟩;rw[hxe] at p1;refine Za (Za (wpAny_mono p1 (λzv s1 ⟨v,H1,I1,rv,m1,g1,w1,rz⟩=>?_) no));have ha1:=g1.pre _ _ hm;simp only[jK] at e2;split at e2<;>first |(cases e2;done)|skip
 rename_i l el;split at e2<;>first |(cases e2;done)|skip
 rename_i hlen;cases e2;obtain⟨vs,hv,rvs⟩:∃vs,H1 acc=some (.lst vs)/\RDs Y.K m1 H1 l vs:=w1.ob _ _ _ el ha1;obtain⟨_,w9,g9⟩:=w1.lstSet el ha1 (rvs.append (.cons rz .nil));have p2:=kR (X:=Y) pins s1 σ H1 (.ref acc) [v] (.ref acc) [zv] (λ_ H9=>H9=bS H1 acc (.lst (vs++ [v]))) I1 rfl (.cons rv .nil) ⟨_,vs,v,rfl,rfl,hv,by rw[<- rvs.length];exact Nat.lt_of_lt_of_le hlen (by decide),rfl⟩;rw[hxe] at p2;refine Za (wpAny_mono p2 (λ_ s9 ⟨_,H9,I9,_,e9⟩=>?_) no);subst e9;exact Zb (hag s9 m1 σ _ I9 (g1.trans g9) w9 (st.mono (g1.trans g9)))
theorem MB{it acc:Value}{env:Env}{P:Program}{w:World}{A:Around}{R:Result->Shared->Prop}{s:Shared}
 (h0:codeAny (model P w) A (.compLoop (sM elt tg1 iter1 tg2 iter2 scope pos) 1 it acc env) R s)
 (h:wpAny (model P w) A (pyIter it) (λit' s'=>codeAny (model P w) A (.compLoop (sM elt tg1 iter1 tg2 iter2 scope pos) 1 it' acc env) R s') iX s):
 codeAny (model P w) A (.compStart (sM elt tg1 iter1 tg2 iter2 scope pos) 1 it acc env) R s:=by
 refine codeAny_of_tree ?_;show wpAny _ A (Sem.onRaise (compStart (sM elt tg1 iter1 tg2 iter2 scope pos) 1 it acc env) (λx=>do noteFrame x env;standAt theWindowsPlace)) _ _ s;have no:∀{E:Value->Shared->Prop}(e:Value)(s:Shared),iX e s->E e s:=λ_ _ f=>f.elim;refine wpAny_notedAt ?_;unfold compStart;show wpAny _ _ (ask>>=_) _ _ s;refine Za (wpAny_askSetting (wpAny_ite ?_));split
 ·first
   |exact Zb ⟨rfl,h0⟩
   |exact Za (Zb (Zb ⟨rfl,h0⟩))
 ·refine Za (wpAny_rule ?_);show wpAny _ _ (standAt iter2.pos>>=_) _ _ s;exact Za (wpAny_standAt (Za (wpAny_mono h (λit' s' h'=>Zb ⟨rfl,h'⟩) no)))
theorem wE{j:Int}{i:Nat}(hi:i<j.toNat):(bU 0 j)[i]? =some (.int (0+i)):=by
 unfold bU;rw[Zi,List.getElem?_range (by simpa using hi)];rfl
theorem wD(j:Int):(bU 0 j).length=j.toNat:=by unfold bU;simp
theorem MY{a:Expr}{rp cp:Pos}(hi2:iter2=.Call (.Name "range" rp) [a] [] cp)(hxe:Y.xe=iX)(calm:Y.calm=true)(hg:Gl Y "range")(hm0:Y.mg "range"=none)(hs:starEach [a] Y.env=[(false,eval a Y.env)])(pj:PE Y a (TDE Y.K fj))(bG:PG Y tg2 (tT Y.K (.nm y)))(bE:PB Y (wM elt (.ref acc) Y.env) n0 acc (ZK fe n0)):
 PB Y (CM (sM elt tg1 iter1 tg2 iter2 scope pos) iter2 (.ref acc) Y.env) n0 acc (F5 y fj fe n0):=by
 subst hi2;intro pins s σ H m r h r' h' I w st hm e Z E ag hag;unfold F5 at e;obtain⟨z,h1,e1,e⟩:=Rs.bind_ok e;cases z<;>first |(cases e;done)|skip
 rename_i j;have e':(if kJ j then LF y fe n0 (bU 0 j) r h1 else .bad)=.ok r' h':=e;split at e'<;>first |(cases e';done)|skip
 rename_i oj;have no:∀{E:Value->Shared->Prop}(e:Value)(s:Shared),iX e s->E e s:=λ_ _ f=>f.elim;unfold CM;have hA:PA Y [a] (mO (TDE Y.K fj) rT):=gE pj iU (by rw[hs];rfl)
 have p1:=iA (tg:=tg2) (p:=rp) (pos:=cp) hg hm0 hA hs pins s σ H (λJ H1=>∃m1,J=zW 0 j.toNat/\Gr Y.K m H m1 H1/\Wd Y.K m1 h1 H1) I ⟨m,r,h,_,h1,w,st,e1,λm' v H' g w' rv=>by
  cases rv;exact⟨j,rfl,oj.1,oj.2,m',rfl,g,w'⟩⟩
 rw[hxe] at p1;refine Za (wpAny_mono p1 (λv s1 q1=>Za (wpAny_standAt (Za (wpAny_of_eq (a:=v) rfl (Za (wpAny_holding (wpAny_mono q1 (λitv s2 q2=>?_) no))))))) no);obtain⟨it,fp,tn,J,H1,rfl,I1,T,st1,fok,m1,rfl,g1,w1⟩:=q2
 have loop:∀R:Result->Shared->Prop,(∀s' m' σ' H',Inv Y pins σ' H' s'->Gr Y.K m H m' H'->Wd Y.K m' h' H'->RSt Y.K m' H' r' σ'->R (.ok .next) s')->
  codeAny (model Y.prog Y.w) Y.A (.compLoop (sM elt tg1 iter1 tg2 (.Call (.Name "range" rp) [a] [] cp) scope pos) 1 (.ref it) (.ref acc) Y.env) R s2:=λR fin=>by
  refine LB (m2:=m1) (H2:=H1) (n0:=n0) (acc:=acc) (e:=sM elt tg1 iter1 tg2 (.Call (.Name "range" rp) [a] [] cp) scope pos) rfl (VU ..) calm bG hxe bE T (λi k r h=>k=j.toNat-i/\LF y fe n0 ((bU 0 j).drop i) r h=.ok r' h') (End:=λr h=>r=r'/\h=h') (λi k r h m H g w ⟨hk,e⟩=>?_) (g1.pre _ _ hm)
   (λhn b hb=>⟨hn b hb,(fok b hb).2⟩) I1 st1 (λb hb=>(fok b hb).1) .refl w1 (st.mono g1) (k:=j.toNat) ⟨by simp,by simpa using e'⟩ λs' σ' H' m' r2 h2 I' g' w' st' ⟨er,eh⟩=>by subst er eh;exact fin s' m' σ' H' I' (g1.trans g') w' st'
  have ln:=wD j
  by_cases hi:i<j.toNat
  ·have hi':i<(bU 0 j).length:=by rw[ln];exact hi
   have gi:=wE hi;rw[Zd hi'] at gi;rw[List.drop_eq_getElem_cons hi',Zg gi] at e;simp only[LF] at e;obtain⟨z,h2,ez,e⟩:=Rs.bind_ok e;obtain⟨u,h3,eu,e⟩:=Rs.bind_ok e;refine .inr ⟨hi,.int (0+i),λx H' yl=>⟨yl.1,by rw[yl.2];exact .int _⟩,_,rfl,_,h3,?_,j.toNat-(i+1),by omega,rfl,e⟩;unfold ZK;rw[ez]
   show((jK (.ref n0) z h2).bind λ_ h=>.ok _ h)=_
   rw[eu];rfl
  ·rw[List.drop_eq_nil_of_le (by rw[ln];omega)] at e;cases e;exact .inl ⟨Nat.not_lt.mp hi,rfl,rfl⟩
 refine Za (wpAny_runOwn (MB (loop _ ?_) (T.self Y.A 0 _ _ _ st1 (loop _ ?_))))
 ·exact λs' m' σ' H' I' g' w' st'=>hag s' m' σ' H' I' g' w' st'
 ·exact λs' m' σ' H' I' g' w' st'=>hag s' m' σ' H' I' g' w' st'
end
section
variable {X:Cx}{N':List Str}{scope:Scope}{cap:List Nat}{elt tg1 iter1 tg2 a:Expr}{pos rp cp:Pos}{x y:Nat}{fj fe:Ev->Hh->Rs D}
structure LBlk (Y:Cx)(K:W.Frag)(tg1 tg2 a elt:Expr)(x y:Nat)(fj fe:Ev->Hh->Rs D):Prop where
 g1:PG Y tg1 (tT K (.nm x))
 g2:PG Y tg2 (tT K (.nm y))
 j:PE Y a (TDE K fj)
 e:PE Y elt (TDE K fe)
 rng:Gl Y "range"
theorem IV{pins:List (Addr×Obj)}{σ:Sg}{H2:Hp}{s2:Shared}{fp:List Addr}{it:Addr}{tn:Nat->Heap->Prop}{m2:List Addr}{h2 h':Hh}{r:Ev}{j:Int}(S:ScOk scope X.env.scope)(hcap:cap.length<=N'.length)
 (hN:(N'.drop (N'.length-cap.length)).map some=cap.map (λ(i:Nat)=>X.N[i]?))(hfr:∀x∈N'.drop (N'.length-cap.length),scope.names.lookup x=some .free)(calm:X.calm=true)(hm0:X.mg "range"=none)(hna:dJ a=true)
 (blk:∀(C:Addr)(s3:Shared)(H3:Hp)(fp:List Addr),LBlk (cQ X N' scope C s3 H3 fp) X.K tg1 tg2 a elt x y fj fe)
 (I:Inv X pins σ H2 s2)(T:Turn X.prog X.w X.K tg1 (zW 0 j.toNat) fp it tn)(st:tn 0 s2.heap)(fok:∀b∈fp,gO X pins H2 b)(w2:Wd X.K m2 h2 H2)(rst:RSt X.K m2 H2 r σ)
 (e:LE x y fj fe h2.length (bU 0 j) (bA N' cap r) (h2++ [.lst []])=.ok () h')
 {Rr:Value->Addr->Result->Shared->Prop}
 (c:∀(acc C:Addr)(s1:Shared)(H':Hp)(m':List Addr),Inv X pins σ H' s1->(∃mm,s1.heap.Ns C mm)->H' C=none->C≠X.env.locals->X.s₀.heap.objs.size<=C->(∀x a,X.env.cells.lookup x=some a->a≠C)->(∀p∈X.pn++pins,p.1≠C)->Gr X.K m2 H2 m' H'->Wd X.K m' h' H'->RD X.K m' H' (.ref h2.length) (.ref acc)->Rr (.ref acc) C (.ok .next) s1):
 wpAny (model X.prog X.w) X.A (newList []) (λacc s3=>wpAny (model X.prog X.w) X.A (newFunctionEnv scope X.env.globals (lW scope X.env) [] X.env.qual none .none (some X.env)) (λcenv s4=>
  codeAny (model X.prog X.w) X.A (.compStart (sM elt tg1 iter1 tg2 (.Call (.Name "range" rp) [a] [] cp) scope pos) 0 (.ref it) acc {cenv with scope:=relabel scope X.env}) (Rr acc cenv.locals) s4) X.xe s3) X.xe s2:=by
 have fob:∀b∈fp,b<s2.heap.objs.size:=λb hb=>let⟨o,e,_⟩:=T.obj 0 _ st b hb;Heap.lt_size e
 have ffb:∀b∈fp,∀o,X.base.get? b≠some o:=λb hb o e=>by
  rcases(fok b hb).2.2.2.1 with z|z
  ·exact I.ok.noex b o e z
  ·exact absurd (Nat.lt_of_lt_of_le (Heap.lt_size (I.ok.bs b o e).1) z) (Nat.lt_irrefl _)
 have hacc0:H2 s2.heap.objs.size=none:=I.hok.fresh (Zn _);refine wpAny_newObj_type (dH (λh1 hns keep cok=>?_));dsimp only at hns keep cok⊢;obtain⟨w3,g3⟩:=w2.lstNew (ds:= []) (vs:= []) hacc0 .nil
 have I3:Inv X pins σ (bS H2 s2.heap.objs.size (.lst [])) {s2 with heap:=s2.heap.push {cls:=.type "list",dict:=none,data:=.seq ([]:List Value).toArray}}:=
  I.laid (t':=s2.toks) (λb u e=>Zf _ e) (Zn _) ⟨Nat.zero_le _,[],0,.nil,Heap.get?_push_size _ rfl⟩
 have fok3:∀b∈fp,gO X pins (bS H2 s2.heap.objs.size (.lst [])) b:=λb hb=>⟨by rw[aM (Nat.ne_of_lt (fob b hb))];exact(fok b hb).1,(fok b hb).2⟩;have st3:tn 0 h1:=T.keep _ _ _ st λb hb o e=>keep b o (Zf _ e);have B:=vN (env:=X.env) S (λx c e=>let⟨_,q⟩:=I3.cell x c e;q.lt) cok
 have I4:=lE (N':=N') (scope:=scope) (fp:=fp) (cap:=cap) I3 S hcap hN hfr (h1:=h1) (tk:=s2.toks) hns keep B fok3 (λb hb=>by
  show b<(s2.heap.push _).objs.size;rw[Heap.size_push];exact Nat.lt_succ_of_lt (fob b hb)) ffb
 have hsz:(s2.heap.push {cls:=.type "list",dict:=none,data:=.seq ([]:List Value).toArray}).objs.size=s2.heap.objs.size+1:=Heap.size_push ..;generalize hs3:({s2 with heap:=s2.heap.push {cls:=.type "list",dict:=none,data:=.seq ([]:List Value).toArray}}:Shared)=s3 at I3 I4;have eh3:s2.heap.push {cls:=.type "list",dict:=none,data:=.seq ([]:List Value).toArray}=s3.heap:=by rw[<- hs3]
 rw[eh3] at hns keep cok B hsz⊢;generalize hH3:bS H2 s2.heap.objs.size (.lst [])=H3 at I3 I4 w3 g3 fok3;have b:=blk s3.heap.objs.size s3 H3 fp;have hac:(m2++ [s2.heap.objs.size])[h2.length]? =some s2.heap.objs.size:=by rw[<- w2.len];simp
 have stkN:∀b,b≠X.env.locals->b ∉ X.fs->b ∉ jZ X.stack:=λb h1 h2 hb=>(List.mem_cons.mp (I3.stkSub b hb)).elim h1 h2
 have fokB:∀{H:Hp},(∀b∈fp,H b=none)->∀b∈fp,gO (cQ X N' scope s3.heap.objs.size s3 H3 fp) [] H b:=λhn b hb=>
  ⟨hn b hb,Nat.ne_of_lt (by rw[hsz];exact Nat.lt_succ_of_lt (fob b hb)),stkN b (fok b hb).2.1 (fok b hb).2.2.1,.inl hb,λx c e=>(B.inv x c e).elim (λa=>(fok b hb).2.2.2.2.1 x c (bQ a)) (λa=>Nat.ne_of_gt (Nat.lt_trans (by rw[hsz];exact Nat.lt_succ_of_lt (fob b hb)) a.1)),λp hp=>absurd (show p∈([]:List (Addr×Obj)) from hp) (by simp)⟩
 have loop:∀s4:Shared,s4={s3 with heap:=h1,toks:=s2.toks}->codeAny (model X.prog X.w) X.A (.compLoop (sM elt tg1 iter1 tg2 (.Call (.Name "range" rp) [a] [] cp) scope pos) 0 (.ref it) (.ref s2.heap.objs.size) (compEnvC scope (zS scope X.env s3.heap.objs.size) s3.heap.objs.size X.env)) (Rr (.ref s2.heap.objs.size) s3.heap.objs.size) s4:=by
  rintro s4 rfl
  refine LB (Y:=cQ X N' scope s3.heap.objs.size s3 H3 fp) (m2:=m2++ [s2.heap.objs.size]) (H2:=H3) (n0:=h2.length) (acc:=s2.heap.objs.size) (e:=sM elt tg1 iter1 tg2 (.Call (.Name "range" rp) [a] [] cp) scope pos) (pins:= []) (t:=.nm x) (End:=λ_ h=>h=h') rfl (QG ..) calm b.g1 rfl
   (MY (Y:=cQ X N' scope s3.heap.objs.size s3 H3 fp) (y:=y) (tg1:=tg1) (iter1:=iter1) (scope:=scope) (pos:=pos) rfl rfl calm b.rng hm0 (by rw[bM [] hna];rfl) b.j b.g2 (GO (Y:=cQ X N' scope s3.heap.objs.size s3 H3 fp) rfl b.e)) T (λi k r h=>k=j.toNat-i/\LE x y fj fe h2.length ((bU 0 j).drop i) r h=.ok () h') (λi k r h m H g w ⟨hk,e⟩=>?_) hac fokB I4 st3 (λb hb=>(fok3 b hb).1) .refl w3 (jJ (rst.mono g3)) (k:=j.toNat) ⟨by simp,by simpa using e⟩ λs' σ' H' m' r' hh I1 g' w' st' eh=>?_
  ·have ln:=wD j
   by_cases hi:i<j.toNat
   ·have hi':i<(bU 0 j).length:=by rw[ln];exact hi
    have gi:=wE hi;rw[Zd hi'] at gi;rw[List.drop_eq_getElem_cons hi',Zg gi] at e;simp only[LE] at e;obtain⟨r2,h5,e5,e⟩:=Rs.bind_ok e;exact .inr ⟨hi,.int (0+i),λz H' yl=>⟨yl.1,by rw[yl.2];exact .int _⟩,_,rfl,r2,h5,e5,j.toNat-(i+1),by omega,rfl,e⟩
   ·rw[List.drop_eq_nil_of_le (by rw[ln];omega)] at e;cases e;exact .inl ⟨Nat.not_lt.mp hi,rfl⟩
  ·subst eh;obtain⟨mm,hn1,_⟩:=id I1.loc;obtain⟨hp1,gg,dr,tk,os⟩:=s';obtain rfl:os=s3.os:=I1.os;have IX:Inv X pins σ H' {s3 with heap:=hp1,gens:=gg,drawn:=dr,toks:=tk}:=I3.call (ch:=fp) I1.base I1.hok I1.bare λb hb=>⟨(fok3 b hb).2.2.2.1,(fok3 b hb).2.1,(fok3 b hb).2.2.2.2.1,(fok3 b hb).2.2.2.2.2⟩
   exact c _ _ _ H' m' IX ⟨mm,hn1⟩ I1.free (Nat.ne_of_gt I3.lt) I3.sz (λx a e=>by
    obtain⟨v,q⟩:=I3.cell x a e;exact Nat.ne_of_lt q.lt) (λp hp=>Nat.ne_of_lt (Heap.lt_size (I3.pin p hp).1)) (g3.trans g') w' (.ref (g'.pre _ _ hac))
 have es:({s2 with heap:=h1,toks:=s2.toks}:Shared)={s3 with heap:=h1,toks:=s2.toks}:=by subst hs3;rfl
 exact codeAny_compStart_list (loop _ es) (T.self X.A 0 _ _ _ st3 (loop _ es))
end
section
variable {N:List Str}{sc:Scope}{G:Gs}
theorem QC{x y:Nat}{i j e:E}{N':List Str}{cap:List Nat}{elt tg1 a1 tg2 a2:Expr}{scope:Scope}{pos rp1 cp1 rp2 cp2:Pos}(B:Blk N sc N' cap scope)(hg:(wQ sc "range"&&wQ (cY scope sc) "range")=true)(hn:(dJ a1&&dJ a2)=true)(ht1:iR N' scope (.nm x) tg1=true)(ht2:iR N' scope (.nm y) tg2=true)
 (h_i:SE N sc G i a1)(h_j:SE N' (cY scope sc) G j a2)(h_e:SE N' (cY scope sc) G e elt):SE N sc G (.cm2 x y i j e N' cap) (sM elt tg1 (.Call (.Name "range" rp1) [a1] [] cp1) tg2 (.Call (.Name "range" rp2) [a2] [] cp2) scope pos):=λ{X ca cl} xo go=>by
 rw[Bool.and_eq_true] at hg hn
 have p:PE X (sM elt tg1 (.Call (.Name "range" rp1) [a1] [] cp1) tg2 (.Call (.Name "range" rp2) [a2] [] cp2) scope pos) (TDE X.K (ev G cl (.cm2 x y i j e N' cap))):=by
  intro pins s σ H Q I ⟨m,r,h,d,h',w,st,e0,c⟩;rw[ev] at e0;obtain⟨z,h1,ez,e1⟩:=Rs.bind_ok e0;unfold F0 at e1;split at e1<;>first |(cases e1;done)|skip
  rename_i jj;split at e1<;>first |(cases e1;done)|skip
  rename_i oj;obtain⟨u,h2,e2,e1⟩:=Rs.bind_ok e1;cases e1;have S':ScOk scope X.env.scope:=by rw[xo.s];exact B.S
  have hA:=mB hn.1 h_i (aB (N:=N) (sc:=sc) (G:=G))
  have blk:∀(C:Addr)(s3:Shared)(H3:Hp)(fp:List Addr),LBlk (cQ X N' scope C s3 H3 fp) X.K tg1 tg2 a2 elt x y (ev G cl j) (ev G cl e):=λC s3 H3 fp=>
   ⟨GE (eJ xo B.nd C s3 H3 fp) (mG S' C s3 H3 fp) ht1,GE (eJ xo B.nd C s3 H3 fp) (mG S' C s3 H3 fp) ht2,(h_j (eJ xo B.nd C s3 H3 fp) (lG go C s3 H3 fp)).1,(h_e (eJ xo B.nd C s3 H3 fp) (lG go C s3 H3 fp)).1,dW (eJ xo B.nd C s3 H3 fp) hg.2⟩
  rw[eval_ListComp];refine wpAny_comprehension_free (use:=none) rfl (λz=>rfl) (gJ λp hp e=>I.ok.has p.1 (.inl (S'.free p hp e))) B.S.kind B.S.loc ?_
  refine bP (iA (tg:=tg1) (dW xo hg.1) xo.rng (hA.2 xo go) (bM [] hn.1) pins s σ H (λJ H1=>∃m1,J=zW 0 jj.toNat/\Gr X.K m H m1 H1/\Wd X.K m1 h1 H1) I ⟨m,r,h,[.int jj],h1,w,st,by rw[cW,ez];rfl,λm' vs H' g w' rv=>by
   cases rv with
   |cons r1 r2=>
    cases r1;cases r2;exact⟨jj,rfl,oj.1,oj.2,m',rfl,g,w'⟩⟩) λv s1 q1=>bP q1 λitv s2 q2=>?_
  obtain⟨it,fp,tn,J,H2,rfl,I2,T,st2,fok,m2,rfl,g2,w2⟩:=q2;refine IV (Rr:=λacc C=>compPost (model X.prog X.w) X.A X.xe none (EP X pins σ Q) acc C) S' B.capL (by rw[xo.n];exact B.nN) B.fr xo.calm xo.rng hn.2 blk I2 T st2 fok w2 (st.mono g2) e2 λacc C s1 H' m' I1 ⟨mm,hn⟩ hC hL hz hc hp g' w' rv=>?_;exact⟨mm,hn,λhh hsb=>⟨.ref acc,H',I1.turned (λb o hb e=>hsb.extBut b o hb e) hC hL (.inr hz) hc hp,rfl,c m' _ H' (g2.trans g') w' rv⟩⟩
 exact⟨p,jM p λ_=>rfl⟩
end
end Ng
end
section
namespace Ng
open PySem L2
section
variable {A B:Type}(G:Gs)(cl:Cl)(W:Nat)(r:Ev)(h:Hh)
theorem bR{α:Type} [BEq α] [LawfulBEq α] [DecidableEq α](i j:α):(i==j)=decide (i=j):=by
 by_cases e:i=j
 ·subst e;simp
 ·rw[decide_eq_false e];exact beq_eq_false_iff_ne.mpr e
@[simp] theorem aD(a:A)(f:A->Hh->Rs B):(Rs.ok a h).bind f=f a h:=rfl
@[simp] theorem dS(a:A):(Rs.ok a h).nx=.ok a h:=rfl
@[simp] theorem nxBad:(Rs.bad:Rs A).nx=.bad:=rfl
@[simp] theorem nxExc(c:Nat)(r':Ev):(Rs.exc c r' h:Rs A).nx=.bad:=rfl
@[simp] theorem innOk(a:A):(Rs.ok a h).inn r=.ok a h:=rfl
@[simp] theorem A0(c:Nat)(r':Ev):(Rs.exc c r' h:Rs A).inn r=.exc c r h:=rfl
@[simp] theorem XD(c:Nat)(r':Ev)(f:A->Hh->Rs B):(Rs.exc c r' h:Rs A).bind f=.exc c r' h:=rfl
@[simp] theorem XE(f:A->Hh->Rs B):(Rs.bad:Rs A).bind f=.bad:=rfl
@[simp] theorem fG(i:Nat):ev G cl (.var i) r h=(match r[i]? with|some (some d)=>.ok d h|_=>.bad):=by rw[ev]<;>rfl
@[simp] theorem CP(a:Option D)(l:Ev):(a::l)[0]? =some a:=rfl
@[simp] theorem gd0(a:D)(l:List D):(a::l)[0]? =some a:=rfl
@[simp] theorem aF(i:Int):ev G cl (.int i) r h=.ok (.int i) h:=by rw[ev]<;>rfl
@[simp] theorem evBl(i:Bool):ev G cl (.bl i) r h=.ok (.bl i) h:=by rw[ev]<;>rfl
@[simp] theorem kC:ev G cl .non r h=.ok .non h:=by rw[ev]<;>rfl
@[simp] theorem pM(i:Str):ev G cl (.str i) r h=.ok (.str i) h:=by rw[ev]<;>rfl
@[simp] theorem vH(i:Nat):ev G cl (.gc i) r h=(match G.csts[i]? with|some p=>.ok p.2 h|none=>.bad):=by rw[ev]<;>(cases G.csts[i]? <;>rfl)
@[simp] theorem UW(t:Ty):ev G cl (.ty t) r h=.ok (.ty t.nm) h:=by rw[ev]<;>rfl
@[simp] theorem iP(op:Bop)(a b:E):ev G cl (.bin op a b) r h=(ev G cl a r h).bind λx h=>(ev G cl b r h).bind λy h=>bX op x y h:=by rw[ev]<;>rfl
@[simp] theorem KQ(a:E):ev G cl (.neg a) r h=(ev G cl a r h).bind λx h=>match x with|.int i=>.ok (.int (-i)) h|_=>.bad:=by rw[ev]<;>rfl
@[simp] theorem xA(op:Cop)(a b:E):ev G cl (.cmp op a b) r h=(ev G cl a r h).bind λx h=>(ev G cl b r h).bind λy h=>cH op x y h:=by rw[ev]<;>rfl
@[simp] theorem lP(a b:E):ev G cl (.and a b) r h=(ev G cl a r h).bind λx h=>match fZ x h with|some true=>ev G cl b r h|some false=>.ok x h|none=>.bad:=by rw[ev]<;>rfl
@[simp] theorem VB(a b:E):ev G cl (.or a b) r h=(ev G cl a r h).bind λx h=>match fZ x h with|some true=>.ok x h|some false=>ev G cl b r h|none=>.bad:=by rw[ev]<;>rfl
@[simp] theorem VC(a:E):ev G cl (.not a) r h=(ev G cl a r h).bind λx h=>match fZ x h with|some b=>.ok (.bl (!b)) h|none=>.bad:=by rw[ev]<;>rfl
@[simp] theorem KS(c a b:E):ev G cl (.ite c a b) r h=(ev G cl c r h).bind λx h=>match fZ x h with|some true=>ev G cl a r h|some false=>ev G cl b r h|none=>.bad:=by rw[ev]<;>rfl
@[simp] theorem tD(a b:E):ev G cl (.ix a b) r h=(ev G cl a r h).bind λx h=>(ev G cl b r h).bind λy h=>jA x y h:=by rw[ev]<;>rfl
@[simp] theorem tB(l:Es):ev G cl (.tup l) r h=(cW G cl l r h).bind λds h=>if ds.length<=1000 then .ok (.tup ds) h else .bad:=by rw[ev]<;>rfl
@[simp] theorem wY(l:Es):ev G cl (.lst l) r h=(cW G cl l r h).bind λds h=>if ds.length<=1000 then .ok (.ref h.length) (h++ [.lst ds]) else .bad:=by rw[ev]<;>rfl
@[simp] theorem OZ(f:Nat)(l:Es):ev G cl (.call f l) r h=(cW G cl l r h).bind λds h=>(cl f ds h).nx:=by rw[ev]<;>rfl
@[simp] theorem pN(f:Blt)(l:Es):ev G cl (.blt f l) r h=(cW G cl l r h).bind λds h=>hJ f ds h:=by rw[ev]<;>rfl
@[simp] theorem DH(o e:E):ev G cl (.app o e) r h=(ev G cl o r h).bind λx h=>if cF x h=true then(ev G cl e r h).bind λy h=>jK x y h else .bad:=by rw[ev]<;>rfl
@[simp] theorem jD:kB G cl .nil r h=.ok true h:=by rw[kB]<;>rfl
@[simp] theorem wX(e:E)(l:Es):kB G cl (.cons e l) r h=(ev G cl e r h).bind λx h=>match fZ x h with|some true=>kB G cl l r h|some false=>.ok false h|none=>.bad:=by rw[kB]<;>rfl
theorem qV(t:Tg)(k:Ck)(it cs:Es)(e:E)(N:List Str)(cap:List Nat):ev G cl (.comp t k it cs e N cap) r h=(cW G cl it r h).bind λxs h=>(fU t (kB G cl cs) (ev G cl e) h.length k xs h (bA N cap r) (h++ [.lst []])).bind λ_ h'=>.ok (.ref h.length) h':=by rw[ev]<;>rfl
@[simp] theorem dD:cW G cl .nil r h=.ok [] h:=by rw[cW]<;>rfl
@[simp] theorem cA(e:E)(l:Es):cW G cl (.cons e l) r h=(ev G cl e r h).bind λd h=>(cW G cl l r h).bind λds h=>.ok (d::ds) h:=by rw[cW]<;>rfl
@[simp] theorem fE(t:Tg)(e:E):xs G cl W (.asg t e) r h=(ev G cl e r h).nx.bind λx h=>match cX t x r with|some r1=>.ok (.nx r1) h|none=>.bad:=by rw[xs]<;>rfl
@[simp] theorem RW(i:Nat)(e:E):xs G cl W (.asc i e) r h=(ev G cl e r h).nx.bind λx h=>.ok (.nx (r.set i (some x))) h:=by rw[xs]<;>rfl
@[simp] theorem LO(e:E):xs G cl W (.ex e) r h=(ev G cl e r h).nx.bind λ_ h=>.ok (.nx r) h:=by rw[xs]<;>rfl
@[simp] theorem rL(e:E):xs G cl W (.ret e) r h=(ev G cl e r h).nx.bind λx h=>.ok (.rt x) h:=by rw[xs]<;>rfl
@[simp] theorem oV(c:E)(a b:Ss):xs G cl W (.iff c a b) r h=(ev G cl c r h).nx.bind λx h=>match fZ x h with|some true=>bO G cl W a r h|some false=>bO G cl W b r h|none=>.bad:=by rw[xs]<;>rfl
@[simp] theorem LN(t:Tg)(e:E)(b:Ss):xs G cl W (.forr t (.r1 e) b) r h=(ev G cl e r h).nx.bind λx h=>match x with|.int j=>if kJ j then dM t (bO G cl W b) (bU 0 j) r h else .bad|_=>.bad:=by rw[xs]<;>rfl
@[simp] theorem XQ(t:Tg)(e e':E)(b:Ss):xs G cl W (.forr t (.r2 e e') b) r h=(ev G cl e r h).nx.bind λx h=>(ev G cl e' r h).nx.bind λy h=>match x,y with|.int i,.int j=>if kJ i/\kJ j then dM t (bO G cl W b) (bU i j) r h else .bad|_,_=>.bad:=by rw[xs]<;>rfl
@[simp] theorem qC(t:Tg)(e:E)(b:Ss):xs G cl W (.forr t (.sq e) b) r h=(ev G cl e r h).nx.bind λx h=>CY W t (bO G cl W b) x r h:=by rw[xs]<;>rfl
@[simp] theorem JO(c:E)(b:Ss):xs G cl W (.whl c b) r h=cS (ev G cl c) (bO G cl W b) W r h:=by rw[xs]<;>rfl
@[simp] theorem XN(c:Nat)(x:Str):xs G cl W (.rais c x) r h=.exc c r h:=by rw[xs]<;>rfl
@[simp] theorem XS(t:Tg)(f:Nat)(l:Es):xs G cl W (.asgX t f l) r h=(cW G cl l r h).nx.bind λds h=>((cl f ds h).inn r).bind λx h=>match cX t x r with|some r1=>.ok (.nx r1) h|none=>.bad:=by rw[xs]<;>rfl
@[simp] theorem XM(f:Nat)(l:Es):xs G cl W (.retX f l) r h=(cW G cl l r h).nx.bind λds h=>((cl f ds h).inn r).bind λx h=>.ok (.rt x) h:=by rw[xs]<;>rfl
@[simp] theorem xsExX(f:Nat)(l:Es):xs G cl W (.exX f l) r h=(cW G cl l r h).nx.bind λds h=>((cl f ds h).inn r).bind λ_ h=>.ok (.nx r) h:=by rw[xs]<;>rfl
@[simp] theorem xsTry(b:Ss)(g:Nat)(j:Option Nat)(hs:List HS):xs G cl W (.tryx b g j hs) r h=EL G g j hs (bO G cl W b r h):=by rw[xs]<;>rfl
@[simp] theorem KR(mx:Bool)(a b:E):ev G cl (.mxd mx a b) r h=(ev G cl a r h).bind λx h=>(ev G cl b r h).bind λy h=>oH mx x y h:=by rw[ev]<;>rfl
@[simp] theorem evIns(o i e:E):ev G cl (.ins o i e) r h=(ev G cl o r h).bind λx h=>if cF x h=true then(ev G cl i r h).bind λy h=>(ev G cl e r h).bind λz h=>UL x y z h else .bad:=by rw[ev]<;>rfl
@[simp] theorem evLrg(a:E):ev G cl (.lrg a) r h=(ev G cl a r h).bind λx h=>TY x h:=by rw[ev]<;>rfl
@[simp] theorem A8(ks:List Str)(vs:Es):ev G cl (.disp ks vs) r h=(cW G cl vs r (h++ [.dct []])).bind λds h'=>KY ks ds h.length h':=by rw[ev]<;>rfl
@[simp] theorem XO:xs G cl W .pass r h=.ok (.nx r) h:=by rw[xs]<;>rfl
@[simp] theorem xsBrk:xs G cl W .brk r h=.ok (.bk r) h:=by rw[xs]<;>rfl
@[simp] theorem XR:xs G cl W .cont r h=.ok (.ct r) h:=by rw[xs]<;>rfl
@[simp] theorem RU(o i e:E):xs G cl W (.stx o i e) r h=(ev G cl e r h).nx.bind λz h=>(ev G cl o r h).nx.bind λx h=>(ev G cl i r h).nx.bind λy h=>(uE x y z h).nx.bind λ_ h=>.ok (.nx r) h:=by rw[xs]<;>rfl
@[simp] theorem aV:bO G cl W .nil r h=.ok (.nx r) h:=by rw[bO]<;>rfl
@[simp] theorem lX(s:S)(l:Ss):bO G cl W (.cons s l) r h=(xs G cl W s r h).bind λfl h=>match fl with|.nx r2=>bO G cl W l r2 h|f=>.ok f h:=by rw[bO]<;>rfl
theorem aK{s:S}{l:Ss}{r r':Ev}{h h':Hh}{G:Gs}{cl:Cl}{W:Nat}(e:xs G cl W s r h=.ok (.nx r') h'):bO G cl W (.cons s l) r h=bO G cl W l r' h':=by rw[lX,e];rfl
theorem bL{s:S}{l:Ss}{r:Ev}{d:D}{h h':Hh}{G:Gs}{cl:Cl}{W:Nat}(e:xs G cl W s r h=.ok (.rt d) h'):bO G cl W (.cons s l) r h=.ok (.rt d) h':=by rw[lX,e];rfl
@[simp] theorem rY(i:Nat)(d:D):cX (.nm i) d r=some (r.set i (some d)):=rfl
@[simp] theorem setTp(l:List Nat)(ds:List D):cX (.tp l) (.tup ds) r=if ds.length=l.length then some (gB l ds r) else none:=rfl
@[simp] theorem WR:gB [] [] r=r:=rfl
@[simp] theorem WQ(i:Nat)(is:List Nat)(d:D)(ds:List D):gB (i::is) (d::ds) r=gB is ds (r.set i (some d)):=rfl
@[simp] theorem fV(i j:Int):bX .add (.int i) (.int j) h=.ok (.int (i+j)) h:=rfl
@[simp] theorem zT(i j:Int):bX .sub (.int i) (.int j) h=.ok (.int (i-j)) h:=rfl
theorem gM{i j:Int}(a: -18446744073709551616<i)(b:i<18446744073709551616):bX .mul (.int i) (.int j) h=.ok (.int (i*j)) h:=by
 show(if _ then _ else _)=_
 rw[if_pos (.inl ⟨a,b⟩)]
theorem tR{i j:Int}(a: -18446744073709551616<j)(b:j<18446744073709551616):bX .mul (.int i) (.int j) h=.ok (.int (i*j)) h:=by
 show(if _ then _ else _)=_
 rw[if_pos (.inr ⟨a,b⟩)]
theorem oU{i j:Int}(a:0<j)(b:j<1073741824):bX .fdiv (.int i) (.int j) h=.ok (.int (i/j)) h:=by
 show(if _ then _ else _)=_
 rw[if_pos ⟨a,b⟩]
theorem bY{i j:Int}(a:0<j):bX .mod (.int i) (.int j) h=.ok (.int (i%j)) h:=by
 show(if _ then _ else _)=_
 rw[if_pos a]
@[simp] theorem ES:bX .pow (.int 10) (.int 18) h=.ok (.int 1000000000000000000) h:=rfl
@[simp] theorem QM:bX .pow (.int 10) (.int 27) h=.ok (.int 1000000000000000000000000000) h:=rfl
@[simp] theorem LD(i j:Int):cH .lt (.int i) (.int j) h=.ok (.bl (decide (i<j))) h:=rfl
@[simp] theorem tP(i j:Int):cH .le (.int i) (.int j) h=.ok (.bl (decide (i<=j))) h:=rfl
@[simp] theorem cGt(i j:Int):cH .gt (.int i) (.int j) h=.ok (.bl (decide (j<i))) h:=rfl
@[simp] theorem E8(i j:Int):cH .ge (.int i) (.int j) h=.ok (.bl (decide (j<=i))) h:=rfl
@[simp] theorem rE(i j:Int):cH .eq (.int i) (.int j) h=.ok (.bl (decide (i=j))) h:=by rw[<- bR];rfl
@[simp] theorem cNeI(i j:Int):cH .ne (.int i) (.int j) h=.ok (.bl (!decide (i=j))) h:=by rw[<- bR];rfl
@[simp] theorem cEqB(i j:Bool):cH .eq (.bl i) (.bl j) h=.ok (.bl (decide (i=j))) h:=by rw[<- bR];rfl
@[simp] theorem cNeB(i j:Bool):cH .ne (.bl i) (.bl j) h=.ok (.bl (!decide (i=j))) h:=by rw[<- bR];rfl
@[simp] theorem E9(i j:Str):cH .eq (.str i) (.str j) h=.ok (.bl (decide (i=j))) h:=by rw[<- bR];rfl
@[simp] theorem cNeS(i j:Str):cH .ne (.str i) (.str j) h=.ok (.bl (!decide (i=j))) h:=by rw[<- bR];rfl
@[simp] theorem E7(a b:List D):cH .ne (.tup a) (.tup b) h=(match oR (iQ 19) a b with|some k=>.ok (.bl (!k)) h|none=>.bad):=rfl
@[simp] theorem cEqT(a b:List D):cH .eq (.tup a) (.tup b) h=(match oR (iQ 19) a b with|some k=>.ok (.bl k) h|none=>.bad):=rfl
@[simp] theorem PD(f:D->D->Option Bool):oR f [] []=some true:=rfl
@[simp] theorem HZ(f:D->D->Option Bool)(x y:D)(xs ys:List D):oR f (x::xs) (y::ys)=(match f x y,oR f xs ys with|some a,some b=>some (a&&b)|_,_=>none):=rfl
@[simp] theorem PH(n:Nat)(i j:Int):iQ n (.int i) (.int j)=some (decide (i=j)):=by rw[<- bR];cases n<;>rfl
@[simp] theorem A9(n:Nat)(i j:Str):iQ n (.str i) (.str j)=some (decide (i=j)):=by rw[<- bR];cases n<;>rfl
@[simp] theorem PF(n:Nat)(a b:List D):iQ (n+1) (.tup a) (.tup b)=oR (iQ n) a b:=rfl
@[simp] theorem isInt(i:Int):cR (.int i) (.ty "int") h=.ok (.bl true) h:=rfl
@[simp] theorem ZX(i:Int):cR (.int i) (.ty "bool") h=.ok (.bl false) h:=rfl
@[simp] theorem ZV(i:Int):cR (.int i) (.ty "tuple") h=.ok (.bl false) h:=rfl
@[simp] theorem ZW(i:Int):cR (.int i) (.ty "list") h=.ok (.bl false) h:=rfl
@[simp] theorem XA(i:Int):cR (.int i) (.tup [.ty "tuple",.ty "list"]) h=.ok (.bl false) h:=rfl
@[simp] theorem ZO(l:List D):cR (.tup l) (.ty "tuple") h=.ok (.bl true) h:=rfl
@[simp] theorem ZP(l:List D):cR (.tup l) (.ty "list") h=.ok (.bl false) h:=rfl
@[simp] theorem WX(l:List D):cR (.tup l) (.tup [.ty "tuple",.ty "list"]) h=.ok (.bl true) h:=rfl
@[simp] theorem ZR(l:List D):cR (.tup l) (.ty "bool") h=.ok (.bl false) h:=rfl
@[simp] theorem ZQ(l:List D):cR (.tup l) (.ty "int") h=.ok (.bl false) h:=rfl
@[simp] theorem nmInt:Ty.int.nm="int":=rfl
@[simp] theorem ZD:Ty.bool.nm="bool":=rfl
@[simp] theorem nmStr:Ty.str.nm="str":=rfl
@[simp] theorem nmTup:Ty.tuple.nm="tuple":=rfl
@[simp] theorem nmLst:Ty.list.nm="list":=rfl
@[simp] theorem WB(x:D):cH .is x .non h=.ok (.bl (fR x)) h:=rfl
@[simp] theorem WA(x:D):cH .isnot x .non h=.ok (.bl (!fR x)) h:=rfl
@[simp] theorem tU(b:Bool):fZ (.bl b) h=some b:=rfl
@[simp] theorem tInt(i:Int):fZ (.int i) h=some (i != 0):=rfl
@[simp] theorem sTup(l:List D):eC (.tup l) h=some l:=rfl
@[simp] theorem iS(n:Nat):eC (.ref n) h=aJ h n:=rfl
@[simp] theorem iTup(l:List D)(i:Int):jA (.tup l) (.int i) h=(match iG l i with|some d=>.ok d h|none=>.bad):=rfl
theorem lV{n:Nat}{l:List D}(i:Int)(e:aJ h n=some l):jA (.ref n) (.int i) h=(match iG l i with|some d=>.ok d h|none=>.bad):=by
 have d0:dO h (.ref n)=none:=by
  show(match h[n]? with|some (.dct l)=>some l|_=>none)=none
  unfold aJ at e;cases q:h[n]? with
  |none=>rfl
  |some o=>
   cases o with
   |lst l'=>rfl
   |ro l'=>rfl
   |dct l'=>rw[q] at e;cases e
   |dtt l'=>rfl
   |ded=>rfl
   |dtf l'=>rfl
   |ins c f=>rfl
   |tab P p q=>rfl
 have d1:dN h (.ref n)=none:=by
  show(match h[n]? with|some (.dtf l)=>some l|_=>none)=none
  unfold aJ at e;cases q:h[n]? with
  |none=>rfl
  |some o=>
   cases o with
   |dtf l'=>rw[q] at e;cases e
   |_=>rfl
 have e2:eC (.ref n) h=some l:=e;have e3:jA (.ref n) (.int i) h=(match dO h (.ref n) with|some l=>RG l (.int i) h|none=>match dN h (.ref n) with|some l=>UH l (.int i) h|none=>KH (.ref n) (.int i) h):=rfl;rw[e3,d0,d1];show KH (.ref n) (.int i) h=_;unfold KH;rw[e2]<;>rfl
theorem A2{n:Nat}{l:List (cB×D)}(y:D)(e:h[n]? =some (.dct l)):jA (.ref n) y h=RG l y h:=by
 have d0:dO h (.ref n)=some l:=by
  show(match h[n]? with|some (.dct l)=>some l|_=>none)=some l
  rw[e]
 show(match dO h (.ref n) with|some l=>RG l y h|none=>match dN h (.ref n) with|some l=>UH l y h|none=>KH (.ref n) y h)=_
 rw[d0]
noncomputable def NS(x:D)(h:Hh):Rs D:=match x with
 |.str z=>if z.length<=sizeLine then .ok (.int z.length) h else .bad
 |x=>match dN h x with
  |some l=>.ok (.int l.length) h
  |none=>.bad
@[simp] theorem ET(x:D):hJ .len [x] h=(match eC x h with|some l=>.ok (.int l.length) h|none=>NS x h):=rfl
theorem WH{n:Nat}{cn f:Str}{fs:List (Str×D)}{d:D}(e:h[n]? =some (.ins cn fs))(q:fs.lookup f=some d):vO cn (.ref n) f h=.ok d h:=by
 unfold vO;simp only[e,if_true,q]
theorem NM{n:Nat}{cn m:Str}{fs:List (Str×D)}(e:h[n]? =some (.ins cn fs))(q:fs.lookup m=none):lI (.ref n) cn m h=true:=by
 unfold lI;simp only[e,q,decide_true,Bool.true_and,Option.isNone_none]
theorem ST{n:Nat}{cn f:Str}{fs:List (Str×D)}{d:D}(e:h[n]? =some (.ins cn fs))(q:fs.length<900):AY cn (.ref n) d f h=.ok () (h.set n (.ins cn (qK f d fs))):=by
 unfold AY;simp only[e,q,and_self,if_true]
@[simp] theorem VI(o:E)(cn f:Str):ev G cl (.att o cn f) r h=(ev G cl o r h).bind λx h=>vO cn x f h:=by rw[ev]<;>rfl
@[simp] theorem VD(cn:Str)(f:Nat)(l:Es):ev G cl (.new cn f l) r h=(cW G cl l r h).bind λds h=>(yM cn (cl f) ds h).nx:=by rw[ev]<;>rfl
@[simp] theorem VE(o:E)(cn m:Str)(f:Nat)(l:Es):ev G cl (.mth o cn m f l) r h=(ev G cl o r h).bind λx h=>if lI x cn m h=true then(cW G cl l r h).bind λds h=>(cl f (x::ds) h).nx else .bad:=by rw[ev]<;>rfl
@[simp] theorem DD(a b:E):ev G cl (.slT a b) r h=(ev G cl a r h).bind λx h=>(ev G cl b r h).bind λy h=>FP x y h:=by rw[ev]<;>rfl
@[simp] theorem evSlA(a b:E):ev G cl (.slA a b) r h=(ev G cl a r h).bind λx h=>(ev G cl b r h).bind λy h=>SQ x y h:=by rw[ev]<;>rfl
@[simp] theorem evSlZ(a b:E):ev G cl (.slZ a b) r h=(ev G cl a r h).bind λx h=>(ev G cl b r h).bind λy h=>SN x y h:=by rw[ev]<;>rfl
@[simp] theorem VH(op op':Cop)(a b c:E):ev G cl (.chn op op' a b c) r h=(ev G cl a r h).bind λx h=>(ev G cl b r h).bind λy h=>(cH op x y h).bind λp h=>match p with
 |.bl true=>(ev G cl c r h).bind λz h=>cH op' y z h
 |.bl false=>.ok (.bl false) h
 |_=>.bad:=by rw[ev]<;>rfl
@[simp] theorem evRev(o:E):ev G cl (.rev o) r h=(ev G cl o r h).bind λx h=>SU x h:=by rw[ev]<;>rfl
theorem VG(t:Tg)(i k v:E)(N:List Str)(cap:List Nat):ev G cl (.dcT t i k v N cap) r h=(ev G cl i r h).bind λx h=>VP t (ev G cl k) (ev G cl v) x (bA N cap r) h:=by rw[ev]<;>rfl
@[simp] theorem XT(l:List Nat)(e:E):xs G cl W (.asgL l e) r h=(ev G cl e r h).nx.bind λx h=>match x with
 |.ref n=>(match aJ h n with
  |some ds=>if ds.length=l.length then .ok (.nx (gB l ds r)) h else .bad
  |none=>.bad)
 |_=>.bad:=by rw[xs]<;>rfl
@[simp] theorem xsExN(cn:Str)(f:Nat)(l:Es):xs G cl W (.exN cn f l) r h=(cW G cl l r h).nx.bind λds h=>((yM cn (cl f) ds h).inn r).bind λ_ h=>.ok (.nx r) h:=by rw[xs]<;>rfl
@[simp] theorem RV(o:E)(cn f:Str)(e:E):xs G cl W (.sfl o cn f e) r h=(ev G cl e r h).nx.bind λz h=>(ev G cl o r h).nx.bind λx h=>(AY cn x z f h).nx.bind λ_ h=>.ok (.nx r) h:=by rw[xs]<;>rfl
@[simp] theorem bIs(x y:D):hJ .isinst [x,y] h=cR x y h:=rfl
@[simp] theorem bIntI(i:Int):hJ .int [.int i] h=.ok (.int i) h:=rfl
@[simp] theorem WD(i:Bool):hJ .int [.bl i] h=.ok (.int (if i then 1 else 0)) h:=rfl
@[simp] theorem bList(x:D):hJ .list [x] h=(match eC x h with|some l=>.ok (.ref h.length) (h++ [.lst l])|none=>.bad):=rfl
@[simp] theorem dU(n:Nat):cF (.ref n) h=(aJ h n).isSome:=rfl
@[simp] theorem QP(n:Nat)(y:D):jK (.ref n) y h=(match h[n]? with|some (.lst l)=>if l.length<1000000 then .ok .non (h.set n (.lst (l++ [y]))) else .bad|_=>.bad):=rfl
@[simp] theorem aU(l:List D):aJ (h++ [.lst l]) h.length=some l:=by simp[aJ,KC]
theorem dE{n:Nat}{l:List D}(o:List O)(e:aJ h n=some l):aJ (h++o) n=some l:=by
 unfold aJ at e⊢;cases q:h[n]? with
 |none=>rw[q] at e;cases e
 |some u=>
  rw[List.getElem?_append_left (Ze.mp q).1,q];rw[q] at e;exact e
@[simp] theorem bZ(o:O):(h++ [o])[h.length]? =some o:=by simp
@[simp] theorem mU(o o':O):(h++ [o]).set h.length o'=h++ [o']:=by simp
@[simp] theorem forS0(t:Tg)(b:Ev->Hh->Rs Fl):dM t b [] r h=.ok (.nx r) h:=rfl
@[simp] theorem pL(t:Tg)(b:Ev->Hh->Rs Fl)(d:D)(ds:List D):dM t b (d::ds) r h=(match cX t d r with|none=>.bad|some r1=>(b r1 h).bind λfl h=>match fl with|.nx r2=>dM t b ds r2 h|.ct r2=>dM t b ds r2 h|.bk r2=>.ok (.nx r2) h|.rt d=>.ok (.rt d) h):=rfl
@[simp] theorem KO(t:Tg)(b:Ev->Hh->Rs Fl)(l:List D):CY W t b (.tup l) r h=dM t b l r h:=rfl
@[simp] theorem KP(t:Tg)(b:Ev->Hh->Rs Fl)(n:Nat):CY W t b (.ref n) r h=gH t b n W 0 r h:=rfl
@[simp] theorem endRt(d:D):cU (.rt d) h=.ok d h:=rfl
@[simp] theorem endNx(d:Ev):cU (.nx d) h=.ok .non h:=rfl
end
theorem aW{G:Gs}{T:Nat->Option Fc}{W n f:Nat}{c:Fc}{ds:List D}{h:Hh}(hc:T f=some c)(hl:ds.length=c.np):aS G T W (n+1) f ds h=(bO G (aS G T W n) W c.body (ds.map some++List.replicate (c.ns-c.np) none) h).bind cU:=by
 simp only[aS,hc];rw[if_pos hl]
noncomputable def zH:E:=(.and (.cmp .gt (.var 3) (.int 0)) (.cmp .lt (.blt .len (.cons (.var 5) .nil)) (.var 2)))
noncomputable def IK:Ss:=(.cons (.ex (.app (.var 5) (.bin .mod (.var 3) (.int 1013)))) (.cons (.asg (.nm 3) (.bin .fdiv (.var 3) (.int 1013))) .nil))
noncomputable def tI:E:=(.cmp .lt (.blt .len (.cons (.var 5) .nil)) (.var 2))
noncomputable def zG:Ss:=(.cons (.asg (.nm 6) (.bin .add (.blt .len (.cons (.var 5) .nil)) (.int 1))) (.cons (.asg (.nm 4) (.bin .mod (.bin .add (.bin .add (.bin .mul (.var 4) (.int 48271)) (.bin .mul (.bin .mul (.var 6) (.var 6)) (.int 6133))) (.int 17)) (.int 2147483647))) (.cons (.ex (.app (.var 5) (.bin .mod (.bin .mod (.bin .mul (.bin .mod (.var 4) (.int 65521)) (.bin .add (.bin .mod (.bin .fdiv (.var 4) (.int 65521)) (.int 32749)) (.int 1))) (.int 1000003)) (.int 1013)))) .nil)))
def InR(row:List Int):Prop:=∀v∈row,0<=v/\v<1013
theorem InR.snoc{row:List Int}{v:Int}(h:InR row)(a:0<=v)(b:v<1013):InR (row++ [v]):=λu hu=>by
 rcases List.mem_append.mp hu with hu|hu
 ·exact h u hu
 ·have:u=v:=by simpa using hu
  subst this;exact⟨a,b⟩
section
variable (G:Gs)(cl:Cl)(W:Nat)(h:Hh)
theorem dW1(M:Nat)(hM:M<=1000)(d0 d1 d4:Option D)(d6:Option D):∀(k:Nat)(row:List Int)(cell:Int),row.length<=M->InR row->M-row.length<k->
 ∃row' cell',row'.length<=M/\InR row'/\cS (ev G cl zH) (bO G cl W IK) k [d0,d1,some (.int M),some (.int cell),d4,some (.ref h.length),d6] (h++ [.lst (row.map D.int)])
  =.ok (.nx [d0,d1,some (.int M),some (.int cell'),d4,some (.ref h.length),d6]) (h++ [.lst (row'.map D.int)])
 |0,_,_,_,_,hk=>by omega
 |k+1,row,cell,hl,hr,hk=>by
  by_cases hc:0<cell
  ·by_cases hm:row.length<M
   ·have hm':((row.length:Int)<(M:Int)):=by omega
    have hb:InR (row++ [cell%1013]):=hr.snoc (Int.emod_nonneg _ (by decide)) (Int.emod_lt_of_pos _ (by decide));obtain⟨row',cell',h1,h2,h3⟩:=dW1 M hM d0 d1 d4 d6 k (row++ [cell%1013]) (cell/1013) (by simp;omega) hb (by simp;omega);refine⟨row',cell',h1,h2,?_⟩;rw[<- h3];have hz:row.length<1000000:=by omega
    simp (disch:=omega) [cS,zH,IK,hc,hm',hm,hz,bY,oU]
   ·refine⟨row,cell,hl,hr,?_⟩;have hm':¬((row.length:Int)<(M:Int)):=by omega
    simp[cS,zH,hc,hm',hm]
  ·refine⟨row,cell,hl,hr,?_⟩;simp[cS,zH,hc]
noncomputable def RE(mark seed:Int):Int:=(seed*48271+mark*mark*6133+17)%2147483647
noncomputable def WW(s:Int):Int:=(s%65521)*(s/65521%32749+1)%1000003%1013
theorem dT2(d0 d1 d2 d3 d5:Option D)(mark seed:Int)(hm:0<=mark)(hm2:mark<100000)(hh:Hh):
 xs G cl W (.asg (.nm 4) (.bin .mod (.bin .add (.bin .add (.bin .mul (.var 4) (.int 48271)) (.bin .mul (.bin .mul (.var 6) (.var 6)) (.int 6133))) (.int 17)) (.int 2147483647))) [d0,d1,d2,d3,some (.int seed),d5,some (.int mark)] hh
  =.ok (.nx [d0,d1,d2,d3,some (.int (RE mark seed)),d5,some (.int mark)]) hh:=by
 have m1:bX .mul (.int mark) (.int mark) hh=.ok (.int (mark*mark)) hh:=gM hh (by omega) (by omega);have m2:bX .mul (.int seed) (.int 48271) hh=.ok (.int (seed*48271)) hh:=tR hh (by omega) (by omega);have m3:∀x:Int,bX .mul (.int x) (.int 6133) hh=.ok (.int (x*6133)) hh:=λx=>tR hh (by omega) (by omega);have q1:∀x:Int,bX .mod (.int x) (.int 2147483647) hh=.ok (.int (x%2147483647)) hh:=λx=>bY hh (by omega);have e1:∀x:Int,(seed*48271+mark*mark*6133+17)%2147483647=RE mark seed:=λ_=>rfl;simp only[fE,iP,fG,List.getElem?_cons_succ,CP,aF,aD,dS,m1,m2,m3,fV,q1,rY,List.set_cons_succ,List.set_cons_zero,e1 0]
theorem dT3(d0 d1 d2 d3 d6:Option D)(row:List Int)(seed:Int)(hz:row.length<1000000):
 xs G cl W (.ex (.app (.var 5) (.bin .mod (.bin .mod (.bin .mul (.bin .mod (.var 4) (.int 65521)) (.bin .add (.bin .mod (.bin .fdiv (.var 4) (.int 65521)) (.int 32749)) (.int 1))) (.int 1000003)) (.int 1013)))) [d0,d1,d2,d3,some (.int seed),some (.ref h.length),d6] (h++ [.lst (row.map D.int)])
  =.ok (.nx [d0,d1,d2,d3,some (.int seed),some (.ref h.length),d6]) (h++ [.lst ((row++ [WW seed]).map D.int)]):=by
 have hk:=Int.emod_nonneg seed (show(65521:Int)≠0 by decide);have hk2:=Int.emod_lt_of_pos seed (show(0:Int)<65521 by decide);have m4:∀(x:Int) hh,bX .mul (.int (seed%65521)) (.int x) hh=.ok (.int ((seed%65521)*x)) hh:=λx hh=>gM hh (by omega) (by omega);have q2:∀(x:Int) hh,bX .mod (.int x) (.int 65521) hh=.ok (.int (x%65521)) hh:=λx hh=>bY hh (by omega);have q3:∀(x:Int) hh,bX .mod (.int x) (.int 32749) hh=.ok (.int (x%32749)) hh:=λx hh=>bY hh (by omega);have q4:∀(x:Int) hh,bX .mod (.int x) (.int 1000003) hh=.ok (.int (x%1000003)) hh:=λx hh=>bY hh (by omega);have q5:∀(x:Int) hh,bX .mod (.int x) (.int 1013) hh=.ok (.int (x%1013)) hh:=λx hh=>bY hh (by omega);have q6:∀(x:Int) hh,bX .fdiv (.int x) (.int 65521) hh=.ok (.int (x/65521)) hh:=λx hh=>oU hh (by omega) (by omega);have e2:∀s:Int,(s%65521)*(s/65521%32749+1)%1000003%1013=WW s:=λ_=>rfl;simp only[LO,iP,fG,List.getElem?_cons_succ,CP,aF,aD,dS,DH,dU,aU,Option.isSome_some,if_true,fV,q2,q3,q4,q5,q6,m4,e2,QP,bZ,Zc,hz,if_pos,mU,List.map_append,Zh,List.map_nil]
theorem dT1(d0 d1 d2 d3 d4 d6:Option D)(row:List Int):
 xs G cl W (.asg (.nm 6) (.bin .add (.blt .len (.cons (.var 5) .nil)) (.int 1))) [d0,d1,d2,d3,d4,some (.ref h.length),d6] (h++ [.lst (row.map D.int)])
  =.ok (.nx [d0,d1,d2,d3,d4,some (.ref h.length),some (.int ((row.length:Int)+1))]) (h++ [.lst (row.map D.int)]):=by
 simp only[fE,iP,pN,cA,dD,fG,List.getElem?_cons_succ,CP,aF,aD,dS,ET,iS,aU,Zc,fV,rY,List.set_cons_succ,List.set_cons_zero]
theorem IJ(d0 d1 d2 d3 d6:Option D)(row:List Int)(seed:Int)(hz:row.length<1000):
 bO G cl W zG [d0,d1,d2,d3,some (.int seed),some (.ref h.length),d6] (h++ [.lst (row.map D.int)])
  =.ok (.nx [d0,d1,d2,d3,some (.int (RE ((row.length:Int)+1) seed)),some (.ref h.length),some (.int ((row.length:Int)+1))]) (h++ [.lst ((row++ [WW (RE ((row.length:Int)+1) seed)]).map D.int)]):=by
 rw[zG,aK (dT1 G cl W h d0 d1 d2 d3 _ d6 row),aK (dT2 G cl W d0 d1 d2 d3 _ _ seed (by omega) (by omega) _),aK (dT3 G cl W h _ _ _ _ _ row _ (by omega)),aV]
theorem dW2(M:Nat)(hM:M<=1000)(d0 d1 d3:Option D):∀(k:Nat)(row:List Int)(seed:Int)(d6:Option D),row.length<=M->InR row->M-row.length<k->
 ∃row' seed' d6',row'.length=M/\InR row'/\cS (ev G cl tI) (bO G cl W zG) k [d0,d1,some (.int M),d3,some (.int seed),some (.ref h.length),d6] (h++ [.lst (row.map D.int)])
  =.ok (.nx [d0,d1,some (.int M),d3,some (.int seed'),some (.ref h.length),d6']) (h++ [.lst (row'.map D.int)]):=by
 intro k
 induction k with
 |zero=>intro row seed d6 _ _ hk;omega
 |succ k ih=>
  intro row seed d6 hl hr hk
  by_cases hm:row.length<M
  ·have hm':((row.length:Int)<(M:Int)):=by omega
   obtain⟨row',seed',d6',h1,h2,h3⟩:=ih (row++ [WW (RE ((row.length:Int)+1) seed)]) (RE ((row.length:Int)+1) seed) (some (.int ((row.length:Int)+1))) (by simp;omega)
    (hr.snoc (Int.emod_nonneg _ (by decide)) (Int.emod_lt_of_pos _ (by decide))) (by simp;omega)
   refine⟨row',seed',d6',h1,h2,?_⟩;rw[<- h3];have hc:ev G cl tI [d0,d1,some (.int M),d3,some (.int seed),some (.ref h.length),d6] (h++ [.lst (row.map D.int)])=.ok (.bl true) (h++ [.lst (row.map D.int)]):=by simp[tI,hm]
   simp only[cS,hc,aD,dS,tU,IJ G cl W h d0 d1 _ d3 d6 row seed (by omega)]
  ·refine⟨row,seed,d6,by omega,hr,?_⟩;have hc:ev G cl tI [d0,d1,some (.int M),d3,some (.int seed),some (.ref h.length),d6] (h++ [.lst (row.map D.int)])=.ok (.bl false) (h++ [.lst (row.map D.int)]):=by simp[tI,hm]
   simp only[cS,hc,aD,dS,tU]
noncomputable def VS:S:=.iff (.cmp .lt (.var 1) (.blt .len (.cons (.var 0) .nil))) (.cons (.asg (.nm 3) (.ix (.var 0) (.var 1))) .nil) (.cons (.iff (.cmp .gt (.blt .len (.cons (.var 0) .nil)) (.int 0)) (.cons (.asg (.nm 3) (.bin .add (.bin .add (.bin .mod (.ix (.var 0) (.bin .mod (.var 1) (.blt .len (.cons (.var 0) .nil)))) (.int 999983)) (.bin .mul (.bin .mul (.var 1) (.var 1)) (.int 97))) (.int 1))) .nil) .nil) .nil)
noncomputable def DQ:Ss:=(.cons (.asg (.nm 3) (.bin .add (.bin .mul (.int 7) (.var 1)) (.int 1))) (.cons VS (.cons (.asg (.nm 4) (.bin .add (.bin .add (.bin .mod (.var 3) (.int 999983)) (.bin .mul (.int 31) (.var 1))) (.int 5))) (.cons (.asg (.nm 5) (.lst .nil)) (.cons (.iff (.cmp .ge (.var 3) (.bin .pow (.int 10) (.int 18))) (.cons (.whl zH IK) .nil) .nil) (.cons (.whl tI zG) (.cons (.ret (.var 5)) .nil)))))))
theorem EU{l:List Int}{i:Int}(a:0<=i)(b:i<l.length):∃v,iG (l.map D.int) i=some (.int v):=by
 have hb:i.toNat<l.length:=by omega
 refine⟨l[i.toNat],?_⟩;have:=fJ (xs:=l.map D.int) (j:=i.toNat) (v:=.int l[i.toNat]) (by rw[Zi,Zd hb];rfl);rwa [show((i.toNat:Nat):Int)=i by omega] at this
theorem PR(s:Nat)(ns:List Int)(at' c0:Int)(d2 d4 d5 d6:Option D)(h0:0<=at')(h1:at'<100000)(hs:aJ h s=some (ns.map D.int)):
 ∃c:Int,xs G cl W VS [some (.ref s),some (.int at'),d2,some (.int c0),d4,d5,d6] h=.ok (.nx [some (.ref s),some (.int at'),d2,some (.int c),d4,d5,d6]) h:=by
 by_cases hl:at'<(ns.length:Int)
 ·obtain⟨v,hv⟩:=EU h0 hl;exact⟨v,by simp[VS,hs,hl,hv,lV h _ hs]⟩
 ·by_cases hp:(0:Int)<ns.length
  ·obtain⟨v,hv⟩:=EU (l:=ns) (i:=at'%ns.length) (Int.emod_nonneg _ (by omega)) (Int.emod_lt_of_pos _ hp);have m0:∀x:Int,bX .mod (.int x) (.int ns.length) h=.ok (.int (x%ns.length)) h:=λx=>bY h hp;have m1:bX .mul (.int at') (.int at') h=.ok (.int (at'*at')) h:=gM h (by omega) (by omega);have m2:∀x:Int,bX .mul (.int x) (.int 97) h=.ok (.int (x*97)) h:=λx=>tR h (by omega) (by omega);have m3:∀x:Int,bX .mod (.int x) (.int 999983) h=.ok (.int (x%999983)) h:=λx=>bY h (by omega);refine⟨v%999983+at'*at'*97+1,?_⟩;simp only[VS,oV,lX,aV,fE,xA,fG,List.getElem?_cons_succ,CP,pN,cA,dD,aD,dS,ET,iS,hs,Zc,LD,tU,hl,decide_false,aF,cGt,hp,decide_true,iP,tD,m0,lV h _ hs,hv,m1,m2,m3,fV,rY,List.set_cons_succ,List.set_cons_zero]
  ·have hp2:¬(0<ns.length):=by omega
   exact⟨c0,by simp[VS,hs,hl,hp,hp2]⟩
theorem DP(s:Nat)(ns:List Int)(at':Int)(M:Nat)(hM:M<=1000)(h0:0<=at')(h1:at'<100000)(hs:aJ h s=some (ns.map D.int))(hW:2000<=W):
 ∃row:List Int,row.length=M/\InR row/\bO G cl W DQ [some (.ref s),some (.int at'),some (.int M),none,none,none,none] h=.ok (.rt (.ref h.length)) (h++ [.lst (row.map D.int)]):=by
 have a1:xs G cl W (.asg (.nm 3) (.bin .add (.bin .mul (.int 7) (.var 1)) (.int 1))) [some (.ref s),some (.int at'),some (.int M),none,none,none,none] h=.ok (.nx [some (.ref s),some (.int at'),some (.int M),some (.int (7*at'+1)),none,none,none]) h:=by
  have m1:bX .mul (.int 7) (.int at') h=.ok (.int (7*at')) h:=gM h (by omega) (by omega);simp only[fE,iP,fG,List.getElem?_cons_succ,CP,aF,aD,dS,m1,fV,rY,List.set_cons_succ,List.set_cons_zero]
 obtain⟨c,a2⟩:=PR G cl W h s ns at' (7*at'+1) (some (.int M)) none none none h0 h1 hs
 have a3:xs G cl W (.asg (.nm 4) (.bin .add (.bin .add (.bin .mod (.var 3) (.int 999983)) (.bin .mul (.int 31) (.var 1))) (.int 5))) [some (.ref s),some (.int at'),some (.int M),some (.int c),none,none,none] h=.ok (.nx [some (.ref s),some (.int at'),some (.int M),some (.int c),some (.int (c%999983+31*at'+5)),none,none]) h:=by
  have m1:bX .mul (.int 31) (.int at') h=.ok (.int (31*at')) h:=gM h (by omega) (by omega);have m3:∀x:Int,bX .mod (.int x) (.int 999983) h=.ok (.int (x%999983)) h:=λx=>bY h (by omega);simp only[fE,iP,fG,List.getElem?_cons_succ,CP,aF,aD,dS,m1,m3,fV,rY,List.set_cons_succ,List.set_cons_zero]
 have a4:∀x:Int,xs G cl W (.asg (.nm 5) (.lst .nil)) [some (.ref s),some (.int at'),some (.int M),some (.int c),some (.int x),none,none] h=.ok (.nx [some (.ref s),some (.int at'),some (.int M),some (.int c),some (.int x),some (.ref h.length),none]) (h++ [.lst (([]:List Int).map D.int)]):=λx=>by
  simp[fE]
 have a5:∀x:Int,∃row c',row.length<=M/\InR row/\xs G cl W (.iff (.cmp .ge (.var 3) (.bin .pow (.int 10) (.int 18))) (.cons (.whl zH IK) .nil) .nil) [some (.ref s),some (.int at'),some (.int M),some (.int c),some (.int x),some (.ref h.length),none] (h++ [.lst (([]:List Int).map D.int)])
  =.ok (.nx [some (.ref s),some (.int at'),some (.int M),some (.int c'),some (.int x),some (.ref h.length),none]) (h++ [.lst (row.map D.int)]):=λx=>by
  by_cases hc:(1000000000000000000:Int)<=c
  ·obtain⟨row,c',r1,r2,r3⟩:=dW1 G cl W h M hM (some (.ref s)) (some (.int at')) (some (.int x)) none W [] c (Nat.zero_le _) (λ_ z=>by cases z) (by simp;omega);refine⟨row,c',r1,r2,?_⟩;simp only[oV,xA,fG,List.getElem?_cons_succ,CP,iP,aF,aD,dS,ES,E8,hc,decide_true,tU,lX,JO,r3,aV]
  ·refine⟨[],c,Nat.zero_le _,(λ_ z=>by cases z),?_⟩;simp only[oV,xA,fG,List.getElem?_cons_succ,CP,iP,aF,aD,dS,ES,E8,hc,decide_false,tU,aV]
 obtain⟨row1,c',r1,r2,a5⟩:=a5 (c%999983+31*at'+5);obtain⟨row,sd,d6,q1,q2,a6⟩:=dW2 G cl W h M hM (some (.ref s)) (some (.int at')) (some (.int c')) W row1 (c%999983+31*at'+5) none r1 r2 (by omega);refine⟨row,q1,q2,?_⟩;rw[DQ,aK a1,aK a2,aK a3,aK (a4 _),aK a5,aK (show xs G cl W (.whl tI zG) _ _=_ from(JO G cl W _ _ tI zG).trans a6)];exact bL (by simp only[rL,fG,List.getElem?_cons_succ,CP,aD,dS])
end
theorem wU{t:Tg}{body:Ev->Hh->Rs Fl}(F:Ev->Prop)(h:Hh):∀(l:List D),(∀d∈l,∀r,F r->∃r1 r2,cX t d r=some r1/\body r1 h=.ok (.nx r2) h/\F r2)->∀r,F r->∃r',dM t body l r h=.ok (.nx r') h/\F r'
 | [],_,r,hF=>⟨r,by simp,hF⟩
 |d::l,hb,r,hF=>by
  obtain⟨r1,r2,e1,e2,f2⟩:=hb d Zl r hF;obtain⟨r',e3,f3⟩:=wU F h l (λd hd=>hb d (Zj _ hd)) r2 f2;refine⟨r',?_,f3⟩;rw[<- e3,pL,e1]
  show(body r1 h).bind _=_
  rw[e2];rfl
theorem t8{t:Int}(h0:0<=t)(h1:t<8):t=0\/t=1\/t=2\/t=3\/t=4\/t=5\/t=6\/t=7:=by omega
noncomputable def tx(t x y:Int):Int:=if t=0 then x else if t=1 then -y else if t=2 then -x else if t=3 then y else if t=4 then -x else if t=5 then -y else if t=6 then x else y
noncomputable def ty(t x y:Int):Int:=if t=0 then y else if t=1 then x else if t=2 then -y else if t=3 then -x else if t=4 then y else if t=5 then -x else if t=6 then -y else x
section
variable (h:Hh)
@[simp] theorem WY(i:Str):cR (.str i) (.tup [.ty "tuple",.ty "list"]) h=.ok (.bl false) h:=rfl
@[simp] theorem ZY(i:Bool):cR (.bl i) (.tup [.ty "tuple",.ty "list"]) h=.ok (.bl false) h:=rfl
@[simp] theorem WZ:cR .non (.tup [.ty "tuple",.ty "list"]) h=.ok (.bl false) h:=rfl
@[simp] theorem ZU(i:Str):cR (.str i) (.ty "bool") h=.ok (.bl false) h:=rfl
@[simp] theorem ZT(i:Str):cR (.str i) (.ty "int") h=.ok (.bl false) h:=rfl
@[simp] theorem ZS(i:Str):cR (.str i) (.ty "str") h=.ok (.bl true) h:=rfl
@[simp] theorem isBlB(i:Bool):cR (.bl i) (.ty "bool") h=.ok (.bl true) h:=rfl
@[simp] theorem inN:fR .non=true:=rfl
@[simp] theorem inI(i:Int):fR (.int i)=false:=rfl
@[simp] theorem inS(i:Str):fR (.str i)=false:=rfl
@[simp] theorem inB(i:Bool):fR (.bl i)=false:=rfl
@[simp] theorem inTu(i:List D):fR (.tup i)=false:=rfl
@[simp] theorem inR(i:Nat):fR (.ref i)=false:=rfl
end
noncomputable def pd:Nat->D->Bool
 |_,.int _=>true
 |_,.str _=>true
 |_,.bl _=>true
 |_,.non=>true
 |k+1,.tup l=>decide (l.length<=1000)&&l.all (pd k)
 |_,_=>false
theorem BC{j:Nat}{d:D}(hd:d∈bU 0 j):∃k:Nat,k<j/\d=.int k:=by
 unfold bU at hd;obtain⟨k,hk,rfl⟩:=List.mem_map.mp hd;exact⟨k,by simpa using hk,by simp⟩
theorem iC(h0 g:Hh)(o:O):(h0++o::g)[h0.length]? =some o:=by simp
theorem wC(h0 g:Hh)(o o':O):(h0++o::g).set h0.length o'=h0++o'::g:=by simp
theorem xR(h0 g:Hh)(l:List D)(y:D)(hl:l.length<1000000):jK (.ref h0.length) y (h0++ .lst l::g)=.ok .non (h0++ .lst (l++ [y])::g):=by
 rw[QP,iC]
 show(if _ then _ else _)=_
 rw[if_pos hl,wC]
theorem cM(h0 g:Hh)(l:List D):aJ (h0++ .lst l::g) h0.length=some l:=by
 unfold aJ;rw[iC];rfl
theorem kA{t:Tg}{body:Ev->Hh->Rs Fl}(I:Nat->Ev->Hh->Prop):∀(l:List D)(i:Nat),(∀j d,l[j]? =some d->∀r h,I (i+j) r h->∃r1 r2 h2,cX t d r=some r1/\body r1 h=.ok (.nx r2) h2/\I (i+j+1) r2 h2)->
 ∀r h,I i r h->∃r' h',dM t body l r h=.ok (.nx r') h'/\I (i+l.length) r' h'
 | [],i,_,r,h,hI=>⟨r,h,by simp,hI⟩
 |d::l,i,hb,r,h,hI=>by
  obtain⟨r1,r2,h2,e1,e2,i2⟩:=hb 0 d rfl r h hI
  obtain⟨r',h',e3,i3⟩:=kA I l (i+1) (λj d hd r h hI=>by
   have:=hb (j+1) d (by simpa using hd) r h (by rw[show i+(j+1)=i+1+j by omega];exact hI);rw[show i+(j+1)=i+1+j by omega] at this;exact this) r2 h2 i2
  refine⟨r',h',?_,by rw[List.length_cons,show i+(l.length+1)=i+1+l.length by omega];exact i3⟩;rw[<- e3,pL,e1]
  show(body r1 h).bind _=_
  rw[e2];rfl
theorem mW(j k:Nat)(hk:k<j):(bU 0 j)[k]? =some (D.int k):=by
 unfold bU;rw[Zi,List.getElem?_range (by simpa using hk)]
 simp
theorem gP(j:Nat):(bU 0 j).length=j:=by unfold bU;simp
theorem zC{G:Gs}{cl:Cl}{t:Tg}{it cs:Es}{e:E}{N:List Str}{cap:List Nat}{r:Ev}{h h1 h':Hh}{j:Int}(hi:cW G cl it r h=.ok [.int j] h1)(hj:kJ j)
 (hc:cL t (kB G cl cs) (ev G cl e) h1.length (bU 0 j) (bA N cap r) (h1++ [O.lst []])=.ok () h'):ev G cl (.comp t .r1 it cs e N cap) r h=.ok (.ref h1.length) h':=by
 rw[qV,hi]
 show(fU t _ _ _ .r1 [.int j] h1 _ _).bind _=_
 have e':fU t (kB G cl cs) (ev G cl e) h1.length .r1 [.int j] h1 (bA N cap r) (h1++ [O.lst []])=.ok () h':=by
  show(if kJ j then _ else _)=_
  rw[if_pos hj];exact hc
 rw[e'];rfl
theorem nW{G:Gs}{cl:Cl}{t:Tg}{it cs:Es}{e:E}{N:List Str}{cap:List Nat}{r:Ev}{h h1 h':Hh}{n:Nat}{l:List D}(hi:cW G cl it r h=.ok [.ref n] h1)(hl:aJ h1 n=some l)
 (hc:fA t (kB G cl cs) (ev G cl e) h1.length n (l.length+1) 0 (bA N cap r) (h1++ [O.lst []])=.ok () h'):ev G cl (.comp t .sq it cs e N cap) r h=.ok (.ref h1.length) h':=by
 rw[qV,hi]
 show(fU t _ _ _ .sq [.ref n] h1 _ _).bind _=_
 have e':fU t (kB G cl cs) (ev G cl e) h1.length .sq [.ref n] h1 (bA N cap r) (h1++ [O.lst []])=.ok () h':=by
  show(match aJ h1 n with|some l=>fA t (kB G cl cs) (ev G cl e) h1.length n (l.length+1) 0 (bA N cap r) (h1++ [O.lst []])|none=>.bad)=_
  rw[hl];exact hc
 rw[e'];rfl
theorem eB{G:Gs}{cl:Cl}{W:Nat}{t:Tg}{e:E}{b:Ss}{r:Ev}{h h1 h':Hh}{j:Int}{fl:Fl}(hi:ev G cl e r h=.ok (.int j) h1)(hj:kJ j)(hf:dM t (bO G cl W b) (bU 0 j) r h1=.ok fl h'):xs G cl W (.forr t (.r1 e) b) r h=.ok fl h':=by
 rw[LN,hi]
 show(if kJ j then _ else _)=_
 rw[if_pos hj];exact hf
theorem jS{n:Nat}(h:n<=1000000):kJ (n:Int):=by unfold kJ;omega
noncomputable def tb(t:Int):Int:=if 4<=t then t else(-t)%4
theorem vX{t:Int}(h0:0<=t)(h1:t<8):0<=tb t/\tb t<8:=by
 unfold tb;split<;>omega
noncomputable def oZ(a b:Int):Int:=(if 4<=b then b-a else b+a)%4+(if decide (4<=a)=decide (4<=b) then 0 else 4)
theorem AJ(a b:Int):0<=oZ a b/\oZ a b<8:=by
 unfold oZ;split<;>split<;>omega
noncomputable abbrev M3:=Int×Int×Int
noncomputable def mo(m:M3):D:=.tup [.int m.1,.int m.2.1,.int m.2.2]
def iJ(m:M3):Prop:=0<=m.1/\m.1<8
noncomputable def bh(m n:M3):M3:=(oZ m.1 n.1,tx n.1 m.2.1 m.2.2+n.2.1,ty n.1 m.2.1 m.2.2+n.2.2)
noncomputable def bk(m:M3):M3:=(tb m.1, -tx (tb m.1) m.2.1 m.2.2, -ty (tb m.1) m.2.1 m.2.2)
noncomputable def qA(m:M3)(x:Int×Int):Int×Int:=(tx m.1 x.1 x.2+m.2.1,ty m.1 x.1 x.2+m.2.2)
noncomputable def pl(x:Int×Int):D:=.tup [.int x.1,.int x.2]
noncomputable def cf(t:Int):Int×Int×Int×Int:=if t=0 then(1,0,0,1) else if t=1 then(0, -1,1,0) else if t=2 then(-1,0,0, -1) else if t=3 then(0,1, -1,0) else if t=4 then(-1,0,0,1) else if t=5 then(0, -1, -1,0) else if t=6 then(1,0,0, -1) else(0,1,1,0)
theorem rR(t x y:Int):tx t x y=(cf t).1*x+(cf t).2.1*y:=by
 unfold tx cf;split
 ·simp
 split
 ·simp
 split
 ·simp
 split
 ·simp
 split
 ·simp
 split
 ·simp
 split
 ·simp
 ·simp
theorem rQ(t x y:Int):ty t x y=(cf t).2.2.1*x+(cf t).2.2.2*y:=by
 unfold ty cf;split
 ·simp
 split
 ·simp
 split
 ·simp
 split
 ·simp
 split
 ·simp
 split
 ·simp
 split
 ·simp
 ·simp
theorem YJ(t:Int):tx t 0 0=0/\ty t 0 0=0:=by rw[rR,rQ];simp
theorem F7(m n:M3):iJ (bh m n):=AJ m.1 n.1
theorem F6{m:M3}(h:iJ m):iJ (bk m):=vX h.1 h.2
theorem zB{t:Int}(h0:0<=t)(h1:t<8):∃k:Fin 8,t=(k.1:Int):=⟨⟨t.toNat,by omega⟩,by simp;omega⟩
theorem XV:∀a b:Fin 8,cf (oZ (a.1:Int) (b.1:Int))=((cf (b.1:Int)).1*(cf (a.1:Int)).1+(cf (b.1:Int)).2.1*(cf (a.1:Int)).2.2.1,(cf (b.1:Int)).1*(cf (a.1:Int)).2.1+(cf (b.1:Int)).2.1*(cf (a.1:Int)).2.2.2,
 (cf (b.1:Int)).2.2.1*(cf (a.1:Int)).1+(cf (b.1:Int)).2.2.2*(cf (a.1:Int)).2.2.1,(cf (b.1:Int)).2.2.1*(cf (a.1:Int)).2.1+(cf (b.1:Int)).2.2.2*(cf (a.1:Int)).2.2.2):=by decide+kernel
theorem SB{t u:Int}(h0:0<=t)(h1:t<8)(h2:0<=u)(h3:u<8)(x y:Int):tx (oZ t u) x y=tx u (tx t x y) (ty t x y)/\ty (oZ t u) x y=ty u (tx t x y) (ty t x y):=by
 obtain⟨i,rfl⟩:=zB h0 h1;obtain⟨j,rfl⟩:=zB h2 h3;simp only[rR,rQ,XV i j];constructor
 ·rw[Int.add_mul,Int.add_mul,Int.mul_add,Int.mul_add];simp only[Int.mul_assoc];omega
 ·rw[Int.add_mul,Int.add_mul,Int.mul_add,Int.mul_add];simp only[Int.mul_assoc];omega
theorem JT(t x y x' y':Int):tx t (x+x') (y+y')=tx t x y+tx t x' y'/\ty t (x+x') (y+y')=ty t x y+ty t x' y':=by
 simp only[rR,rQ,Int.mul_add];constructor<;>omega
theorem JS(t x y:Int):tx t (-x) (-y)= -tx t x y/\ty t (-x) (-y)= -ty t x y:=by
 simp only[rR,rQ,Int.mul_neg];constructor<;>omega
theorem XW:∀a:Fin 8,oZ (a.1:Int) (tb (a.1:Int))=0/\oZ (tb (a.1:Int)) (a.1:Int)=0/\oZ 0 (a.1:Int)=(a.1:Int)/\oZ (a.1:Int) 0=(a.1:Int):=by decide+kernel
theorem SA{t:Int}(h0:0<=t)(h1:t<8)(x y:Int):tx (tb t) (tx t x y) (ty t x y)=x/\ty (tb t) (tx t x y) (ty t x y)=y/\tx t (tx (tb t) x y) (ty (tb t) x y)=x/\ty t (tx (tb t) x y) (ty (tb t) x y)=y:=by
 obtain⟨b0,b1⟩:=vX h0 h1;have z1:=SB h0 h1 b0 b1 x y;have z2:=SB b0 b1 h0 h1 x y;obtain⟨i,rfl⟩:=zB h0 h1;have z:=XW i;rw[z.1] at z1;rw[z.2.1] at z2;exact⟨z1.1.symm,z1.2.symm,z2.1.symm,z2.2.symm⟩
theorem xS{a:M3}(ha:iJ a)(x:Int×Int):qA a (qA (bk a) x)=x:=by
 obtain⟨t,p,q⟩:=a;obtain⟨x,y⟩:=x;obtain⟨b0,b1⟩:=ha;simp only at b0 b1;have z:=SA b0 b1 x y;have z':=SA b0 b1 p q;simp only[qA,bk,(JT _ _ _ _ _).1,(JT _ _ _ _ _).2,(JS _ _ _).1,(JS _ _ _).2,z.2.2.1,z.2.2.2,z'.2.2.1,z'.2.2.2,Prod.mk.injEq];constructor<;>omega
theorem E5:∀k:Fin 8,(-2<(cf (k.1:Int)).1/\(cf (k.1:Int)).1<2)/\(-2<(cf (k.1:Int)).2.1/\(cf (k.1:Int)).2.1<2)/\(-2<(cf (k.1:Int)).2.2.1/\(cf (k.1:Int)).2.2.1<2)/\(-2<(cf (k.1:Int)).2.2.2/\(cf (k.1:Int)).2.2.2<2):=by decide+kernel
theorem E6{t:Int}(h0:0<=t)(h1:t<8):(-2<(cf t).1/\(cf t).1<2)/\(-2<(cf t).2.1/\(cf t).2.1<2)/\(-2<(cf t).2.2.1/\(cf t).2.2.1<2)/\(-2<(cf t).2.2.2/\(cf t).2.2.2<2):=by
 obtain⟨k,rfl⟩:=zB h0 h1;exact E5 k
theorem VX{t:Int}(h0:0<=t)(h1:t<8):iG [D.tup [.int 1,.int 0,.int 0,.int 1],.tup [.int 0,.int (-1),.int 1,.int 0],.tup [.int (-1),.int 0,.int 0,.int (-1)],.tup [.int 0,.int 1,.int (-1),.int 0],.tup [.int (-1),.int 0,.int 0,.int 1],.tup [.int 0,.int (-1),.int (-1),.int 0],.tup [.int 1,.int 0,.int 0,.int (-1)],.tup [.int 0,.int 1,.int 1,.int 0]] t=some (.tup [.int (cf t).1,.int (cf t).2.1,.int (cf t).2.2.1,.int (cf t).2.2.2]):=by
 rcases t8 h0 h1 with rfl|rfl|rfl|rfl|rfl|rfl|rfl|rfl<;>rfl
theorem RX{t:Int}(h0:0<=t)(h1:t<8)(x y:Int):iG [D.tup [.int x,.int y],.tup [.int (-y),.int x],.tup [.int (-x),.int (-y)],.tup [.int y,.int (-x)],.tup [.int (-x),.int y],.tup [.int (-y),.int (-x)],.tup [.int x,.int (-y)],.tup [.int y,.int x]] t=some (.tup [.int (tx t x y),.int (ty t x y)]):=by
 rcases t8 h0 h1 with rfl|rfl|rfl|rfl|rfl|rfl|rfl|rfl<;>rfl
theorem xQ{i j:Int}(h:Hh)(a: -2<i)(b:i<2):bX .mul (.int i) (.int j) h=.ok (.int (i*j)) h:=gM h (by omega) (by omega)
theorem RZ:∀a b:Fin 8,(if 3<(b.1:Int) then -((a.1:Int)%4) else(a.1:Int)%4)+(b.1:Int)=(if 3<(b.1:Int) then -((a.1:Int)%4) else(a.1:Int)%4)+(b.1:Int)/\((if 3<(b.1:Int) then -((a.1:Int)%4) else(a.1:Int)%4)+(b.1:Int))%4+4*(((a.1:Int)/4+(b.1:Int)/4)%2)=oZ (a.1:Int) (b.1:Int):=by decide+kernel
theorem RY{t u:Int}(h0:0<=t)(h1:t<8)(h2:0<=u)(h3:u<8):((if 3<u then -(t%4) else t%4)+u)%4+4*((t/4+u/4)%2)=oZ t u:=by
 obtain⟨a,rfl⟩:=zB h0 h1;obtain⟨b,rfl⟩:=zB h2 h3;exact(RZ a b).2
theorem gX{t:Tg}{body:Ev->Hh->Rs Fl}{n:Nat}{l:List D}(I:Nat->Ev->Hh->Prop)(R:D->Hh->Prop)(hl:∀i r h,I i r h->aJ h n=some l)
 (hb:∀i d,l[i]? =some d->∀r h,I i r h->∃r1,cX t d r=some r1/\((∃r2 h2,body r1 h=.ok (.nx r2) h2/\I (i+1) r2 h2)\/∃d h2,body r1 h=.ok (.rt d) h2/\R d h2)):
 ∀(k i:Nat)(r:Ev)(h:Hh),I i r h->i<=l.length->l.length-i<k->(∃r' h',gH t body n k i r h=.ok (.nx r') h'/\I l.length r' h')\/∃d h',gH t body n k i r h=.ok (.rt d) h'/\R d h':=by
 intro k
 induction k with
 |zero=>intro i r h _ _ hk;omega
 |succ k ih=>
  intro i r h hI hi hk;have e0:=hl i r h hI
  by_cases hlt:i<l.length
  ·have ed:l[i]? =some l[i]:=Zd hlt;obtain⟨r1,e1,hbb⟩:=hb i _ ed r h hI;rcases hbb with ⟨r2,h2,e2,i2⟩|⟨d,h2,e2,q⟩
   ·rcases ih (i+1) r2 h2 i2 hlt (by omega) with ⟨r',h',e3,i3⟩|⟨d,h',e3,q⟩
    ·exact .inl ⟨r',h',by simp only[gH,e0,ed,e1,e2,aD,e3],i3⟩
    ·exact .inr ⟨d,h',by simp only[gH,e0,ed,e1,e2,aD,e3],q⟩
   ·exact .inr ⟨d,h2,by simp only[gH,e0,ed,e1,e2,aD],q⟩
  ·have ed:l[i]? =none:=List.getElem?_eq_none_iff.mpr (by omega);have hi':i=l.length:=by omega
   subst hi';exact .inl ⟨r,h,by simp only[gH,e0,ed],hI⟩
theorem sZ{t:Tg}{body:Ev->Hh->Rs Fl}(I:Nat->Ev->Hh->Prop)(R:D->Hh->Prop):∀(l:List D)(i:Nat),(∀j d,l[j]? =some d->∀r h,I (i+j) r h->∃r1,cX t d r=some r1/\((∃r2 h2,body r1 h=.ok (.nx r2) h2/\I (i+j+1) r2 h2)\/∃d h2,body r1 h=.ok (.rt d) h2/\R d h2))->
 ∀r h,I i r h->(∃r' h',dM t body l r h=.ok (.nx r') h'/\I (i+l.length) r' h')\/∃d h',dM t body l r h=.ok (.rt d) h'/\R d h'
 | [],i,_,r,h,hI=>.inl ⟨r,h,by simp,hI⟩
 |d::l,i,hb,r,h,hI=>by
  obtain⟨r1,e1,hbb⟩:=hb 0 d rfl r h hI;rcases hbb with ⟨r2,h2,e2,i2⟩|⟨d,h2,e2,q⟩
  ·rcases sZ I R l (i+1) (λj d hd r h hI=>by
    have:=hb (j+1) d (by simpa using hd) r h (by rw[show i+(j+1)=i+1+j by omega];exact hI);rw[show i+(j+1)=i+1+j by omega] at this;exact this) r2 h2 i2 with ⟨r',h',e3,i3⟩|⟨d,h',e3,q⟩
   ·exact .inl ⟨r',h',by rw[pL,e1];show(body r1 h).bind _=_;rw[e2];exact e3,by rw[List.length_cons,show i+(l.length+1)=i+1+l.length by omega];exact i3⟩
   ·exact .inr ⟨d,h',by rw[pL,e1];show(body r1 h).bind _=_;rw[e2];exact e3,q⟩
  ·exact .inr ⟨d,h2,by rw[pL,e1];show(body r1 h).bind _=_;rw[e2];rfl,q⟩
theorem uW{h0:Hh}{n:Nat}{l:List D}(g:Hh)(e:aJ h0 n=some l):aJ (h0++g) n=some l:=dE h0 g e
structure It {α:Type}(φ:α->D)(t:Tg)(cs:Ev->Hh->Rs Bool)(f:Ev->Hh->Rs D)(h0:Hh)(F:Ev->Prop)(p:α->Bool)(g:α->D)(x:α):Prop where
 it:∀r ys gb,F r->∃r1 g1,cX t (φ x) r=some r1/\cs r1 (h0++ .lst ys::gb)=.ok (p x) (h0++ .lst ys::(gb++g1))/\F r1/\(p x=true->∃g2,f r1 (h0++ .lst ys::(gb++g1))=.ok (g x) (h0++ .lst ys::(gb++g1++g2)))
theorem fT{α:Type}{φ:α->D}{t:Tg}{cs:Ev->Hh->Rs Bool}{f:Ev->Hh->Rs D}{h0:Hh}{F:Ev->Prop}{p:α->Bool}{g:α->D}:∀(l:List α),(∀d∈l,It φ t cs f h0 F p g d)->
 ∀r ys gb,F r->ys.length+l.length<1000000->∃gb',cL t cs f h0.length (l.map φ) r (h0++ .lst ys::gb)=.ok () (h0++ .lst (ys++(l.filter p).map g)::gb')
 | [],_,r,ys,gb,_,_=>⟨gb,by simp[cL]⟩
 |d::l,hb,r,ys,gb,hF,hl=>by
  obtain⟨r1,g1,e1,e2,f1,e3⟩:=(hb d Zl).it r ys gb hF
  by_cases hp:p d=true
  ·obtain⟨g2,e3⟩:=e3 hp;obtain⟨gb',e4⟩:=fT l (λd hd=>hb d (Zj _ hd)) r1 (ys++ [g d]) (gb++g1++g2) f1 (by simp at hl⊢;omega);refine⟨gb',?_⟩;rw[hp] at e2;simp only[Zh,cL,e1,e2,aD,if_true,e3,xR _ _ _ _ (show ys.length<1000000 by simp at hl;omega),e4,List.filter_cons,hp]
   simp
  ·obtain⟨gb',e4⟩:=fT l (λd hd=>hb d (Zj _ hd)) r1 ys (gb++g1) f1 (by simp at hl⊢;omega);refine⟨gb',?_⟩;have hp':p d=false:=by simpa using hp
   rw[hp'] at e2;simp only[Zh,cL,e1,e2,aD,if_false,Bool.false_eq_true,e4,List.filter_cons,hp']
theorem zK{α:Type}{φ:α->D}{t:Tg}{cs:Ev->Hh->Rs Bool}{f:Ev->Hh->Rs D}{h0:Hh}{F:Ev->Prop}{p:α->Bool}{g:α->D}{n:Nat}{l:List α}(hl:aJ h0 n=some (l.map φ))(hb:∀d∈l,It φ t cs f h0 F p g d)(hm:∀z:Nat,z<=2*l.length->z<1000000):
 ∀k i r ys gb,F r->i<=l.length->l.length-i<k->ys.length<=i->∃gb',fA t cs f h0.length n k i r (h0++ .lst ys::gb)=.ok () (h0++ .lst (ys++((l.drop i).filter p).map g)::gb'):=by
 intro k
 induction k with
 |zero=>intro i r ys gb _ _ hk;omega
 |succ k ih=>
  intro i r ys gb hF hi hk hy;have e0:aJ (h0++ .lst ys::gb) n=some (l.map φ):=uW _ hl
  by_cases hlt:i<l.length
  ·have ed:(l.map φ)[i]? =some (φ l[i]):=by rw[Zi,Zd hlt];rfl
   have hdr:l.drop i=l[i]::l.drop (i+1):=List.drop_eq_getElem_cons hlt;obtain⟨r1,g1,e1,e2,f1,e3⟩:=(hb l[i] (List.getElem_mem hlt)).it r ys gb hF
   by_cases hp:p l[i]=true
   ·obtain⟨g2,e3⟩:=e3 hp;obtain⟨gb',e4⟩:=ih (i+1) r1 (ys++ [g l[i]]) (gb++g1++g2) f1 hlt (by omega) (by simp;omega);refine⟨gb',?_⟩;rw[hp] at e2;simp only[fA,e0,ed,e1,e2,aD,if_true,e3,xR _ _ _ _ (hm ys.length (by omega)),e4,hdr,List.filter_cons,hp]
    simp
   ·obtain⟨gb',e4⟩:=ih (i+1) r1 ys (gb++g1) f1 hlt (by omega) (by omega);refine⟨gb',?_⟩;have hp':p l[i]=false:=by simpa using hp
    rw[hp'] at e2;simp only[fA,e0,ed,e1,e2,aD,if_false,Bool.false_eq_true,e4,hdr,List.filter_cons,hp']
  ·have ed:(l.map φ)[i]? =none:=List.getElem?_eq_none_iff.mpr (by simp;omega);refine⟨gb,?_⟩;simp only[fA,e0,ed,List.drop_eq_nil_of_le (show l.length<=i by omega),List.filter_nil,List.map_nil,Zm]
section
variable {α:Type}{φ:α->D}{G:Gs}{cl:Cl}{t:Tg}{it cs:Es}{e:E}{N:List Str}{cap:List Nat}{r:Ev}{h h1:Hh}
theorem mD{n:Nat}{l:List α}(φ:α->D)(F:Ev->Prop)(p:α->Bool)(g:α->D)(hi:cW G cl it r h=.ok [.ref n] h1)(hl:aJ h1 n=some (l.map φ))(hm:l.length<=1000)(hF:F (bA N cap r))(hb:∀d∈l,It φ t (kB G cl cs) (ev G cl e) h1 F p g d):
 ∃gb,ev G cl (.comp t .sq it cs e N cap) r h=.ok (.ref h1.length) (h1++ .lst ((l.filter p).map g)::gb):=by
 obtain⟨gb,e1⟩:=zK hl hb (λz hz=>by omega) ((l.map φ).length+1) 0 (bA N cap r) [] [] hF (Nat.zero_le _) (by simp) (Zn _);exact⟨gb,nW hi hl e1⟩
theorem kD{n:Nat}{l:List α}(φ:α->D)(F:Ev->Prop)(g:α->D)(hi:cW G cl it r h=.ok [.ref n] h1)(hl:aJ h1 n=some (l.map φ))(hm:l.length<=1000)(hF:F (bA N cap r))
 (hb:∀d∈l,∀r h,F r->∃r1,cX t (φ d) r=some r1/\F r1/\ev G cl e r1 h=.ok (g d) h):
 ∃gb,ev G cl (.comp t .sq it .nil e N cap) r h=.ok (.ref h1.length) (h1++ .lst (l.map g)::gb):=by
 obtain⟨gb,q⟩:=mD (cs:=.nil) (e:=e) (t:=t) (N:=N) (cap:=cap) φ F (λ_=>true) g hi hl hm hF λd hd=>⟨λr ys gb hr=>by
  obtain⟨r1,e1,f1,e2⟩:=hb d hd r (h1++ .lst ys::gb) hr;exact⟨r1,[],e1,by rw[jD,Zm],f1,λ_=>⟨[],by rw[Zm,Zm];exact e2⟩⟩⟩
 rw[List.filter_eq_self.mpr (λ_ _=>rfl)] at q;exact⟨gb,q⟩
theorem PC{j:Nat}(F:Ev->Prop)(p:Nat->Bool)(g:Nat->D)(hi:cW G cl it r h=.ok [.int (j:Int)] h1)(hm:j<=1000)(hF:F (bA N cap r))(hb:∀d∈List.range j,It (λk:Nat=>D.int k) t (kB G cl cs) (ev G cl e) h1 F p g d):
 ∃gb,ev G cl (.comp t .r1 it cs e N cap) r h=.ok (.ref h1.length) (h1++ .lst (((List.range j).filter p).map g)::gb):=by
 obtain⟨gb,e1⟩:=fT (List.range j) hb (bA N cap r) [] [] hF (by simp;omega)
 have e2:(List.range j).map (λk:Nat=>D.int k)=bU 0 j:=by
  unfold bU
  simp
 rw[e2] at e1;exact⟨gb,zC hi (jS (by omega)) e1⟩
end
theorem yW(L:List Int):lO (L.map D.int)=some L:=by
 induction L with
 |nil=>rfl
 |cons x L ih=>simp only[Zh,lO,ih];rfl
noncomputable def ER(mx:Bool)(d:Int):List Int->Int
 | []=>d
 |i::r=>xO mx i r
theorem tQ{h:Hh}{n:Nat}{L:List Int}(mx:Bool)(d:Int)(e:aJ h n=some (L.map D.int)):oH mx (.ref n) (.int d) h=.ok (.int (ER mx d L)) h:=by
 have e1:cF (.ref n) h=true:=by rw[dU,e];rfl
 unfold oH;rw[e1,iS,e]
 show(match lO (L.map D.int) with|some (i::r)=>Rs.ok (D.int (xO mx i r)) h|some []=>Rs.ok (D.int d) h|none=>.bad)=_
 rw[yW];cases L<;>rfl
@[simp] theorem bMaxI(i j:Int)(h:Hh):hJ .max [.int i,.int j] h=.ok (.int (if j>i then j else i)) h:=rfl
@[simp] theorem bMinI(i j:Int)(h:Hh):hJ .min [.int i,.int j] h=.ok (.int (if j<i then j else i)) h:=rfl
def Kp(h h':Hh):Prop:=∀(n:Nat)(o:O),h[n]? =some o->h'[n]? =some o
theorem Kp.refl(h:Hh):Kp h h:=λ_ _ e=>e
theorem Kp.trans{a b c:Hh}(x:Kp a b)(y:Kp b c):Kp a c:=λn o e=>y n o (x n o e)
theorem Kp.app(h g:Hh):Kp h (h++g):=λn o e=>by rw[List.getElem?_append_left (Ze.mp e).1];exact e
theorem Kp.lst{h h':Hh}(k:Kp h h'){n:Nat}{l:List D}(e:aJ h n=some l):aJ h' n=some l:=by
 unfold aJ at e⊢;cases q:h[n]? with
 |none=>rw[q] at e;cases e
 |some o=>rw[q] at e;rw[k n o q];exact e
theorem Kp.set{h h':Hh}(k:Kp h h'){n:Nat}(o:O)(hn:h.length<=n):Kp h (h'.set n o):=λj u e=>by
 have hj:j<h.length:=(Ze.mp e).1;rw[List.getElem?_set_ne (by omega)];exact k j u e
theorem xV(p:cB×D)(l:List (cB×D))(k:cB):gN (p::l) k=if p.1=k then some p.2 else gN l k:=by
 unfold gN;rw[List.find?_cons]
 by_cases e:p.1=k
 ·rw[decide_eq_true e,if_pos e];rfl
 ·rw[decide_eq_false e,if_neg e]
structure Tie where
 n:Int
 one:Str
 other:Str
 m:M3
noncomputable def Tie.d(t:Tie):D:=.tup [.int t.n,.str t.one,.str t.other,mo t.m]
noncomputable def Tie.en(t:Tie)(x:Str):Option Str:=if t.one=x then some t.other else if t.other=x then some t.one else none
noncomputable abbrev n1(a:E):Es:=.cons a .nil
noncomputable abbrev n2(a b:E):Es:=.cons a (n1 b)
noncomputable abbrev n3(a b c:E):Es:=.cons a (n2 b c)
noncomputable abbrev n4(a b c d:E):Es:=.cons a (n3 b c d)
noncomputable abbrev n5(a b c d e:E):Es:=.cons a (n4 b c d e)
noncomputable abbrev t1(a:S):Ss:=.cons a .nil
noncomputable abbrev t2(a b:S):Ss:=.cons a (t1 b)
noncomputable abbrev t3(a b c:S):Ss:=.cons a (t2 b c)
noncomputable abbrev t4(a b c d:S):Ss:=.cons a (t3 b c d)
noncomputable abbrev t5(a b c d e:S):Ss:=.cons a (t4 b c d e)
theorem LH{l:List Int}{i:Int}(a:0<=i)(b:i<l.length):∃v∈l,iG (l.map D.int) i=some (.int v):=by
 have hj:i.toNat<l.length:=by omega
 have:=fJ (xs:=l.map D.int) (j:=i.toNat) (v:=.int l[i.toNat]) (by rw[Zi,Zd hj];rfl);rw[Int.toNat_of_nonneg a] at this;exact⟨_,List.getElem_mem hj,this⟩
section
variable {G:Gs}{cl:Cl}{W:Nat}
theorem CG{es:Es}{e:E}{l:List Int}{r:Ev}{h:Hh}{i:Int}(he:cW G cl es r h=.ok (l.map D.int) h)(hl:l.length<=1000)(hi:ev G cl e r (h++ [.lst (l.map D.int)])=.ok (.int i) (h++ [.lst (l.map D.int)]))(a:0<=i)(b:i<l.length):
 ∃v∈l,ev G cl (.ix (.lst es) e) r h=.ok (.int v) (h++ [.lst (l.map D.int)]):=by
 obtain⟨v,hv,e1⟩:=LH a b;refine⟨v,hv,?_⟩;rw[tD,wY,he,aD,if_pos (by rw[Zc];exact hl),aD,hi,aD,lV _ _ (aU _ _),e1]
theorem bB{i:Nat}{x y d:D}{e:E}{r:Ev}{h h1:Hh}(hr:r[i]? =some (some x))(he:ev G cl e r h=.ok y h1)(hx:jA x y h1=.ok d h1):ev G cl (.ix (.var i) e) r h=.ok d h1:=by
 rw[tD,fG,hr]
 show(ev G cl e r h).bind _=_
 rw[he];exact hx
theorem aQ{op:Bop}{a b:E}{x y d:D}{r:Ev}{h h1 h2:Hh}(ha:ev G cl a r h=.ok x h1)(hb:ev G cl b r h1=.ok y h2)(hd:bX op x y h2=.ok d h2):ev G cl (.bin op a b) r h=.ok d h2:=by
 rw[iP,ha]
 show(ev G cl b r h1).bind _=_
 rw[hb];exact hd
theorem aY{i:Nat}{x:D}{r:Ev}{h:Hh}(hr:r[i]? =some (some x)):ev G cl (.var i) r h=.ok x h:=by
 rw[fG,hr]
structure Row (h:Hh)(n:Nat)(row:List Int):Prop where
 at':aJ h n=some (row.map D.int)
 inr:InR row
noncomputable def Row.R(row:List Int)(j:Nat):Int:=row.getD j 0
theorem Row.ix{h h':Hh}{n:Nat}{row:List Int}(Q:Row h n row)(kp:Kp h h')(j:Nat)(hj:j<row.length):jA (.ref n) (.int j) h'=.ok (.int (Row.R row j)) h':=by
 rw[lV _ _ (kp.lst Q.at'),fJ (v:=.int (Row.R row j)) (by rw[Zi,Zd hj];simp[Row.R,hj])]
theorem rG{h:Hh}{p:Nat}{l:List D}(y:D)(e:h[p]? =some (.lst l))(hl:l.length<1000000):jK (.ref p) y h=.ok .non (h.set p (.lst (l++ [y]))):=by
 rw[QP,e]
 show(if _ then _ else _)=_
 rw[if_pos hl]
theorem dL{h:Hh}{p:Nat}{l:List D}(e:h[p]? =some (.lst l)):aJ h p=some l:=by
 unfold aJ;rw[e];rfl
theorem DE{i n:Nat}{l:List D}{r:Ev}{h:Hh}(hr:r[i]? =some (some (.ref n)))(e:aJ h n=some l):ev G cl (.blt .len (n1 (.var i))) r h=.ok (.int l.length) h:=by
 simp only[pN,cA,dD,fG,hr,aD,ET,iS,e]
theorem bC{i:Nat}{e:E}{d:D}{r:Ev}{h h':Hh}(he:ev G cl e r h=.ok d h'):xs G cl W (.asg (.nm i) e) r h=.ok (.nx (r.set i (some d))) h':=by
 rw[fE,he];rfl
theorem dB{c:E}{a b:Ss}{r:Ev}{h h':Hh}(hc:ev G cl c r h=.ok (.bl true) h'):xs G cl W (.iff c a b) r h=bO G cl W a r h':=by
 rw[oV,hc];rfl
theorem cC{c:E}{a b:Ss}{r:Ev}{h h':Hh}(hc:ev G cl c r h=.ok (.bl false) h'):xs G cl W (.iff c a b) r h=bO G cl W b r h':=by
 rw[oV,hc];rfl
theorem bK{op:Cop}{a b:E}{x y d:D}{r:Ev}{h h1 h2 h3:Hh}(ha:ev G cl a r h=.ok x h1)(hb:ev G cl b r h1=.ok y h2)(hd:cH op x y h2=.ok d h3):ev G cl (.cmp op a b) r h=.ok d h3:=by
 rw[xA,ha]
 show(ev G cl b r h1).bind _=_
 rw[hb];exact hd
theorem nX{op op':Cop}{a b c:E}{x y z:D}{p q:Bool}{r:Ev}{h:Hh}(ha:ev G cl a r h=.ok x h)(hb:ev G cl b r h=.ok y h)(hp:cH op x y h=.ok (.bl p) h)(hc:ev G cl c r h=.ok z h)(hq:cH op' y z h=.ok (.bl q) h):ev G cl (.chn op op' a b c) r h=.ok (.bl (p&&q)) h:=by
 rw[VH,ha,aD,hb,aD,hp,aD];cases p
 ·rfl
 ·show(ev G cl c r h).bind _=_
  rw[hc,aD,hq];rfl
theorem eG{a b:E}{p q:Bool}{r:Ev}{h:Hh}(ha:ev G cl a r h=.ok (.bl p) h)(hb:ev G cl b r h=.ok (.bl q) h):ev G cl (.and a b) r h=.ok (.bl (p&&q)) h:=by
 rw[lP,ha,aD,tU];cases p
 ·rfl
 ·exact hb
theorem jF{a:E}{p:Bool}{r:Ev}{h h':Hh}(ha:ev G cl a r h=.ok (.bl p) h'):ev G cl (.not a) r h=.ok (.bl (!p)) h':=by
 rw[VC,ha,aD,tU]
theorem dX{i n:Nat}{cn f:Str}{fs:List (Str×D)}{d:D}{r:Ev}{h:Hh}(hr:r[i]? =some (some (.ref n)))(e:h[n]? =some (.ins cn fs))(q:fs.lookup f=some d):ev G cl (.att (.var i) cn f) r h=.ok d h:=by
 rw[VI,aY hr,aD,WH h e q]
theorem nV{i n f:Nat}{cn m:Str}{fs:List (Str×D)}{l:Es}{ds:List D}{d:D}{r:Ev}{h h1 h':Hh}(hr:r[i]? =some (some (.ref n)))(e:h[n]? =some (.ins cn fs))(q:fs.lookup m=none)(hl:cW G cl l r h=.ok ds h1)(hc:cl f (.ref n::ds) h1=.ok d h'):ev G cl (.mth (.var i) cn m f l) r h=.ok d h':=by
 rw[VE,aY hr,aD,if_pos (NM h e q),hl,aD,hc,dS]
theorem cG{a b:E}{x y:D}{r:Ev}{h h1 h2:Hh}(ha:ev G cl a r h=.ok x h1)(hb:ev G cl b r h1=.ok y h2):ev G cl (.tup (.cons a (.cons b .nil))) r h=.ok (.tup [x,y]) h2:=by
 rw[tB,cA,ha,aD,cA,hb,aD,dD,aD,aD,aD];rfl
theorem cE{a:E}{x:D}{r:Ev}{h h1:Hh}(ha:ev G cl a r h=.ok x h1):cW G cl (.cons a .nil) r h=.ok [x] h1:=by
 rw[cA,ha,aD,dD,aD]
theorem fS{a b:E}{x y:D}{r:Ev}{h h1 h2:Hh}(ha:ev G cl a r h=.ok x h1)(hb:ev G cl b r h1=.ok y h2):cW G cl (.cons a (.cons b .nil)) r h=.ok [x,y] h2:=by
 rw[cA,ha,aD,cE hb,aD]
theorem cI{f:Nat}{l:Es}{ds:List D}{d:D}{r:Ev}{h h1 h':Hh}(hl:cW G cl l r h=.ok ds h1)(hc:cl f ds h1=.ok d h'):ev G cl (.call f l) r h=.ok d h':=by
 rw[OZ,hl,aD,hc,dS]
theorem kF{f:Blt}{l:Es}{ds:List D}{d:D}{r:Ev}{h h1 h':Hh}(hl:cW G cl l r h=.ok ds h1)(hc:hJ f ds h1=.ok d h'):ev G cl (.blt f l) r h=.ok d h':=by
 rw[pN,hl,aD,hc]
theorem bN{e:E}{d:D}{r:Ev}{h h':Hh}(he:ev G cl e r h=.ok d h'):xs G cl W (.ret e) r h=.ok (.rt d) h':=by
 rw[rL,he];rfl
end
noncomputable abbrev cJ:=Int×Int×Int
noncomputable def s3(s:cJ):D:=.tup [.int s.1,.int s.2.1,.int s.2.2]
noncomputable def kv(s:cJ):List Int×D:=([s.1,s.2.1],.int s.2.2)
def npS(a b:cJ):Prop:=¬(a.1=b.1/\a.2.1=b.2.1)
noncomputable def tV(w t x y:Int):Bool:=(decide (0<=x)&&decide (x<w))&&(decide (0<=y)&&decide (y<t))
structure Good (w t l:Int)(S:List cJ):Prop where
 hw:1<=w/\w<=8
 ht:1<=t/\t<=8
 hl:1<=l/\l<=9
 len:S.length<=8
 up:S.Pairwise npS
 st:∀s∈S,tV w t s.1 s.2.1=true/\l<=s.2.2/\s.2.2<=9
noncomputable def iK(nm:Str)(w t l:Int)(k:Nat):List (Str×D):= [("name",.str nm),("width",.int w),("height",.int t),("limit",.int l),("bright_at",.ref k)]
def PlateAt(h:Hh)(n:Nat)(nm:Str)(w t l:Int)(S:List cJ):Prop:=∃k,h[n]? =some (.ins "Plate" (iK nm w t l k))/\h[k]? =some (.dtf (S.map kv))
theorem PlateAt.kp{h h':Hh}{n:Nat}{nm:Str}{w t l:Int}{S:List cJ}(P:PlateAt h n nm w t l S)(k:Kp h h'):PlateAt h' n nm w t l S:=by
 obtain⟨j,e1,e2⟩:=P;exact⟨j,k _ _ e1,k _ _ e2⟩
theorem fW(nm:Str)(w t l:Int)(k:Nat):(iK nm w t l k).lookup ("width":Str)=some (D.int w):=rfl
theorem fH(nm:Str)(w t l:Int)(k:Nat):(iK nm w t l k).lookup ("height":Str)=some (D.int t):=rfl
theorem fL(nm:Str)(w t l:Int)(k:Nat):(iK nm w t l k).lookup ("limit":Str)=some (D.int l):=rfl
theorem fB(nm:Str)(w t l:Int)(k:Nat):(iK nm w t l k).lookup ("bright_at":Str)=some (D.ref k):=rfl
theorem fN(nm:Str)(w t l:Int)(k:Nat):(iK nm w t l k).lookup ("name":Str)=some (D.str nm):=rfl
section
variable {G:Gs}{cl:Cl}{W:Nat}
noncomputable abbrev hoB:Ss:=(t2 (.asg (.tp [2,3]) (.var 1)) (.ret (.and (.chn .le .lt (.int 0) (.var 2) (.att (.var 0) "Plate" "width")) (.chn .le .lt (.int 0) (.var 3) (.att (.var 0) "Plate" "height")))))
def M5(cl:Cl)(f:Nat):Prop:=∀(h:Hh)(n:Nat)(nm:Str)(w t l:Int)(S:List cJ)(x y:Int),PlateAt h n nm w t l S->cl f [.ref n,.tup [.int x,.int y]] h=.ok (.bl (tV w t x y)) h
theorem OQ{h:Hh}{n:Nat}{nm:Str}{w t l:Int}{S:List cJ}(x y:Int)(P:PlateAt h n nm w t l S):(bO G cl W hoB [some (.ref n),some (.tup [.int x,.int y]),none,none] h).bind cU=.ok (.bl (tV w t x y)) h:=by
 obtain⟨k,e1,e2⟩:=P
 rw[aK (r':= [some (.ref n),some (.tup [.int x,.int y]),some (.int x),some (.int y)]) (h':=h) (by rw[fE,aY rfl];rfl),
  bL (bN (eG (nX (aF ..) (aY rfl) (tP ..) (dX rfl e1 (fW ..)) (LD ..)) (nX (aF ..) (aY rfl) (tP ..) (dX rfl e1 (fH ..)) (LD ..))))]
 rfl
noncomputable def mH(S:List cJ)(x y:Int):Option Int:=(S.find? λs=>decide (s.1=x/\s.2.1=y)).map (·.2.2)
theorem vU(S:List cJ)(x y:Int):oK (S.map kv) [x,y]=(mH S x y).map D.int:=by
 unfold oK mH
 induction S with
 |nil=>rfl
 |cons s S ih=>
  rw[Zh,List.find?_cons,List.find?_cons];have e:decide ((kv s).1=[x,y])=decide (s.1=x/\s.2.1=y):=by simp[kv]
  rw[e];cases decide (s.1=x/\s.2.1=y) with
  |true=>rfl
  |false=>exact ih
noncomputable def AX(w t l:Int)(S:List cJ)(x y:Int):D:=match mH S x y with
 |some b=>.tup [.str "star",.int b]
 |none=>if tV w t x y=true then .tup [.str "under",.int l] else .tup [.str "unseen",.int 0]
theorem cIn{h:Hh}{k:Nat}{S:List cJ}(x y:Int)(e:h[k]? =some (.dtf (S.map kv))):cH .inn (.tup [.int x,.int y]) (.ref k) h=.ok (.bl (mH S x y).isSome) h:=by
 have e1:dN h (.ref k)=some (S.map kv):=by simp only[dN,e]
 have e2:KI (.tup [.int x,.int y]) (.ref k) h=some (mH S x y).isSome:=by
  simp only[KI,e1]
  show((some [x,y]).map λq=>(oK (S.map kv) q).isSome)=_
  rw[Option.map_some,vU];cases mH S x y<;>rfl
 unfold cH;simp only[e2]
theorem A1{h:Hh}{k:Nat}{S:List cJ}{x y b:Int}(e:h[k]? =some (.dtf (S.map kv)))(q:mH S x y=some b):jA (.ref k) (.tup [.int x,.int y]) h=.ok (.int b) h:=by
 have e0:dO h (.ref k)=none:=by
  show(match h[k]? with|some (.dct l)=>some l|_=>none)=none
  rw[e]
 have e1:dN h (.ref k)=some (S.map kv):=by simp only[dN,e]
 show(match dO h (.ref k) with|some l=>RG l (.tup [.int x,.int y]) h|none=>match dN h (.ref k) with|some l=>UH l (.tup [.int x,.int y]) h|none=>KH (.ref k) (.tup [.int x,.int y]) h)=_
 rw[e0,e1]
 show(match (some [x,y]).bind (oK (S.map kv)) with|some d=>Rs.ok d h|none=>.bad)=_
 rw[Option.bind_some,vU,q];rfl
noncomputable abbrev syB:Ss:=(t2 (.iff (.cmp .inn (.var 1) (.att (.var 0) "Plate" "bright_at")) (t1 (.ret (.tup (n2 (.str "star") (.ix (.att (.var 0) "Plate" "bright_at") (.var 1)))))) .nil) (.ret (.ite (.mth (.var 0) "Plate" "holds" 37 (n1 (.var 1))) (.tup (n2 (.str "under") (.att (.var 0) "Plate" "limit"))) (.gc 4))))
def Sys(cl:Cl)(f:Nat):Prop:=∀(h:Hh)(n:Nat)(nm:Str)(w t l:Int)(S:List cJ)(x y:Int),PlateAt h n nm w t l S->cl f [.ref n,.tup [.int x,.int y]] h=.ok (AX w t l S x y) h
theorem LZ(hh:M5 cl 37)(gu:∀r h,ev G cl (.gc 4) r h=.ok (.tup [.str "unseen",.int 0]) h){h:Hh}{n:Nat}{nm:Str}{w t l:Int}{S:List cJ}(x y:Int)(P:PlateAt h n nm w t l S):(bO G cl W syB [some (.ref n),some (.tup [.int x,.int y])] h).bind cU=.ok (AX w t l S x y) h:=by
 obtain⟨k,e1,e2⟩:=id P;have c1:ev G cl (.cmp .inn (.var 1) (.att (.var 0) "Plate" "bright_at")) [some (.ref n),some (.tup [.int x,.int y])] h=.ok (.bl (mH S x y).isSome) h:=bK (aY rfl) (dX rfl e1 (fB ..)) (cIn x y e2);unfold AX;cases q:mH S x y with
 |some b=>
  rw[q] at c1
  rw[bL (d:=.tup [.str "star",.int b]) (h':=h) (by
   rw[dB c1,bL (bN (cG (pM ..) (by rw[tD,dX rfl e1 (fB ..),aD,aY rfl,aD,A1 e2 q])))])]
  rfl
 |none=>
  rw[q] at c1;rw[aK (r':= [some (.ref n),some (.tup [.int x,.int y])]) (h':=h) (by rw[cC c1,aV])];have c2:ev G cl (.mth (.var 0) "Plate" "holds" 37 (n1 (.var 1))) [some (.ref n),some (.tup [.int x,.int y])] h=.ok (.bl (tV w t x y)) h:=nV rfl e1 rfl (cE (aY rfl)) (hh h n nm w t l S x y P);cases hw:tV w t x y with
  |true=>
   rw[hw] at c2;rw[bL (d:=.tup [.str "under",.int l]) (h':=h) (bN (by rw[KS,c2,aD,tU];exact cG (pM ..) (dX rfl e1 (fL ..))))];rfl
  |false=>
   rw[hw] at c2;rw[bL (d:=.tup [.str "unseen",.int 0]) (h':=h) (bN (by rw[KS,c2,aD,tU];exact gu _ _))];rfl
end
theorem QN{w t l:Int}{S:List cJ}(g:Good w t l S){x y b:Int}(h:mH S x y=some b):tV w t x y=true:=by
 unfold mH at h;obtain⟨s,hs,rfl⟩:=Option.map_eq_some_iff.mp h;have hm:=List.mem_of_find?_eq_some hs;have hp:=List.find?_some hs;simp only[decide_eq_true_eq] at hp;have:=(g.st s hm).1;rw[hp.1,hp.2] at this;exact this
noncomputable def pn(nm:Str)(w t l:Int)(p:Nat):D:=.tup [.str nm,.int w,.int t,.int l,.ref p]
section
variable {G:Gs}{cl:Cl}{W:Nat}
noncomputable def KF(a b:cJ):Bool:=decide (a.1<b.1\/(a.1=b.1/\a.2.1<=b.2.1))
def F8(a b:cJ):Prop:=a.1<b.1\/(a.1=b.1/\a.2.1<b.2.1)
theorem WC{a b:cJ}(h:F8 a b):Bef lS (s3 a) (s3 b):=by
 unfold F8 at h;unfold Bef;rcases h with h|⟨h1,h2⟩
 ·have e1:¬a.1=b.1:=by omega
  have e2:¬b.1=a.1:=by omega
  have e3:¬b.1<a.1:=by omega
  exact⟨by simp[lS,s3,CA,e1,h],by simp[lS,s3,CA,e2];omega⟩
 ·have e1:¬a.2.1=b.2.1:=by omega
  have e2:¬b.2.1=a.2.1:=by omega
  have e3:¬b.2.1<a.2.1:=by omega
  exact⟨by simp[lS,s3,CA,h1,e1,h2],by simp[lS,s3,CA,h1,e2];omega⟩
theorem YK{S:List cJ}(u:S.Pairwise npS)(hl:S.length<=8):∃U:List cJ,U.Perm S/\mS (S.map s3)=some (U.map s3):=by
 have s:(S.mergeSort KF).Pairwise (λa b=>KF a b=true):=List.pairwise_mergeSort (λa b c h1 h2=>by simp[KF] at*;omega) (λa b=>by simp[KF];omega) S;have p:(S.mergeSort KF).Perm S:=List.mergeSort_perm S _;have v:(S.mergeSort KF).Pairwise npS:=(p.symm.pairwise_iff λh z=>h ⟨z.1.symm,z.2.symm⟩).mp u;refine⟨S.mergeSort KF,p,qD ⟨by simp;omega,.inr ⟨3,by decide,λx hx=>?_⟩⟩ (p.map s3) ?_⟩
 ·obtain⟨r,_,rfl⟩:=List.mem_map.mp hx;rfl
 ·rw[List.pairwise_map];refine(s.and v).imp λ{a b} h=>WC ?_;obtain⟨h1,h2⟩:=h;simp[KF] at h1;unfold npS at h2;unfold F8;omega
theorem JX{h:Hh}{n:Nat}{l l':List D}(e:aJ h n=some l)(q:mS l=some l'):hJ .sorted [.ref n] h=.ok (.ref h.length) (h++ [.lst l']):=by
 show AO (.ref n) h=_;unfold AO;have e1:cF (.ref n) h=true:=by rw[dU,e];rfl
 rw[e1,iS,e];simp only[q]
noncomputable def ZM(s:cJ):D:=.tup [.tup [.int s.1,.int s.2.1],.int s.2.2]
theorem UE(S:List cJ):(S.map kv).map (λp=>D.tup [.tup (p.1.map D.int),p.2])=S.map ZM:=by
 rw[List.map_map];rfl
theorem HY{t:Tg}{it:Es}{e:E}{N:List Str}{cap:List Nat}{r:Ev}{h:Hh}{k:Nat}{S:List cJ}(F:Ev->Prop)(g:cJ->D)(hi:cW G cl it r h=.ok [.ref k] h)(hl:h[k]? =some (.dtf (S.map kv)))(hm:S.length<=1000)(hF:F (bA N cap r))
 (hb:∀s∈S,∀r h',F r->Kp h h'->∃r1,cX t (ZM s) r=some r1/\F r1/\ev G cl e r1 h'=.ok (g s) h'):
 ∃gb,ev G cl (.comp t .itf it .nil e N cap) r h=.ok (.ref h.length) (h++ .lst (S.map g)::gb):=by
 obtain⟨gb,q⟩:=fT (φ:=ZM) (t:=t) (cs:=kB G cl .nil) (f:=ev G cl e) (h0:=h) (F:=F) (p:=λ_=>true) (g:=g) S (λs hs=>⟨λr ys gb hr=>by
  obtain⟨r1,e1,f1,e2⟩:=hb s hs r (h++ .lst ys::gb) hr (Kp.app _ _);exact⟨r1,[],e1,by rw[jD,Zm],f1,λ_=>⟨[],by rw[Zm,Zm];exact e2⟩⟩⟩) (bA N cap r) [] [] hF (by simp;omega)
 rw[List.filter_eq_self.mpr (λ_ _=>rfl),List.nil_append] at q;refine⟨gb,?_⟩;rw[qV,hi,aD]
 have e':fU t (kB G cl .nil) (ev G cl e) h.length .itf [.ref k] h (bA N cap r) (h++ [.lst []])=.ok () (h++ .lst (S.map g)::gb):=by
  show(match h[k]? with|some (.dtf l)=>cL t (kB G cl .nil) (ev G cl e) h.length (l.map λ(p:List Int×D)=>D.tup [.tup (p.1.map D.int),p.2]) (bA N cap r) (h++ [O.lst []])|_=>.bad)=_
  rw[hl];show cL t (kB G cl .nil) (ev G cl e) h.length ((S.map kv).map λp=>D.tup [.tup (p.1.map D.int),p.2]) (bA N cap r) (h++ [.lst []])=_;rw[UE];exact q
 rw[e'];rfl
end
noncomputable abbrev abc:Str:="abcdefghijklmnopqrstuvwxyz"
structure NmOk (nm:Str):Prop where
 lo:1<=nm.length
 hi:nm.length<=8
 ch:∀c∈nm.cps.toList,KI (.str ⟨#[c]⟩) (.str abc) []=some true
section
variable {G:Gs}{cl:Cl}{W:Nat}
theorem EO{α:Type}(l:List α):zQ (l.map λ_=>D.bl true)=some (l.map λ_=>true):=by
 induction l with
 |nil=>rfl
 |cons a l ih=>rw[Zh,zQ,ih];rfl
theorem tS{α:Type}{h:Hh}{n:Nat}(l:List α)(e:aJ h n=some (l.map λ_=>D.bl true)):hJ .all [.ref n] h=.ok (.bl true) h:=by
 show EV (.ref n) h=_;unfold EV;have e1:cF (.ref n) h=true:=by rw[dU,e];rfl
 rw[e1,iS,e];simp only[EO];congr 2;rw[List.all_eq_true];intro x hx;obtain⟨_,_,rfl⟩:=List.mem_map.mp hx;rfl
noncomputable abbrev UM:Ss:=(t1 (.ret (.and (.chn .le .le (.int 1) (.blt .len (n1 (.var 0))) (.gc 6)) (.blt .all (n1 (.comp (.nm 0) .st (n1 (.var 0)) .nil (.cmp .inn (.var 0) (.gc 5)) ["sign"] []))))))
def Isn(cl:Cl)(f:Nat):Prop:=∀(h:Hh)(nm:Str),NmOk nm->∃g,cl f [.str nm] h=.ok (.bl true) (h++g)
theorem OI(g3:∀r h,ev G cl (.gc 6) r h=.ok (.int 8) h)(g2:∀r h,ev G cl (.gc 5) r h=.ok (.str abc) h){h:Hh}{nm:Str}(N:NmOk nm):∃g,(bO G cl W UM [some (.str nm)] h).bind cU=.ok (.bl true) (h++g):=by
 have ln:hJ .len [.str nm] h=.ok (.int nm.length) h:=by
  rw[ET];show NS (.str nm) h=_
  show(if nm.length<=sizeLine then _ else _)=_
  rw[if_pos (Nat.le_trans N.hi (by decide))]
 have c1:=nX (G:=G) (cl:=cl) (op:=.le) (op':=.le) (r:= [some (.str nm)]) (h:=h) (aF _ _ _ _ 1) (kF (cE (aY (i:=0) rfl)) ln) (tP ..) (g3 _ _) (tP ..);rw[decide_eq_true (show(1:Int)<=(nm.length:Int) from by have:=N.lo;omega),decide_eq_true (show(nm.length:Int)<=8 from by have:=N.hi;omega)] at c1
 obtain⟨gb,q⟩:=fT (φ:=λc:Nat=>D.str ⟨#[c]⟩) (t:=.nm 0) (cs:=kB G cl .nil) (f:=ev G cl (.cmp .inn (.var 0) (.gc 5))) (h0:=h) (F:=λr=>∃a,r=[a]) (p:=λ_=>true) (g:=λ_=>D.bl true) nm.cps.toList (λc hc=>⟨λr ys gb hr=>by
  obtain⟨a,rfl⟩:=hr;refine⟨[some (.str ⟨#[c]⟩)],[],rfl,by rw[jD,Zm],⟨_,rfl⟩,λ_=>⟨[],?_⟩⟩;rw[Zm,Zm];refine bK (aY rfl) (g2 _ _) ?_;have e:KI (.str ⟨#[c]⟩) (.str abc) (h++ .lst ys::gb)=some true:=N.ch c hc;unfold cH
  simp only[e]⟩) (bA ["sign"] [] [some (.str nm)]) [] [] ⟨_,rfl⟩ (by
   have:=N.hi;have e:nm.cps.toList.length=nm.length:=Array.length_toList;simp only[List.length_nil];omega)
 rw[List.filter_eq_self.mpr (λ_ _=>rfl),List.nil_append] at q
 have c2:ev G cl (.comp (.nm 0) .st (n1 (.var 0)) .nil (.cmp .inn (.var 0) (.gc 5)) ["sign"] []) [some (.str nm)] h=.ok (.ref h.length) (h++ .lst (nm.cps.toList.map λ_=>D.bl true)::gb):=by
  rw[qV,cE (aY rfl),aD]
  have e':fU (.nm 0) (kB G cl .nil) (ev G cl (.cmp .inn (.var 0) (.gc 5))) h.length .st [.str nm] h (bA ["sign"] [] [some (.str nm)]) (h++ [.lst []])=.ok () (h++ .lst (nm.cps.toList.map λ_=>D.bl true)::gb):=by
   show(if nm.length<=1000 then _ else _)=_
   rw[if_pos (Nat.le_trans N.hi (by decide))];exact q
  rw[e'];rfl
 refine⟨.lst (nm.cps.toList.map λ_=>D.bl true)::gb,?_⟩
 rw[bL (bN (d:=.bl true) (h':=h++ .lst (nm.cps.toList.map λ_=>D.bl true)::gb) (by
  rw[lP,c1,aD];show ev G cl _ _ _=_;exact kF (cE c2) (tS _ (cM ..))))]
 rfl
noncomputable abbrev iwB:Ss:=(t2 (.asg (.nm 3) (.and (.chn .le .le (.int 1) (.var 0) (.gc 7)) (.chn .le .le (.int 1) (.var 1) (.gc 7)))) (.ret (.and (.var 3) (.chn .le .le (.int 1) (.var 2) (.gc 3)))))
def Isw(cl:Cl)(f:Nat):Prop:=∀(h:Hh)(w t l:Int)(S:List cJ),Good w t l S->cl f [.int w,.int t,.int l] h=.ok (.bl true) h
theorem OH(g4:∀r h,ev G cl (.gc 7) r h=.ok (.int 8) h)(g0:∀r h,ev G cl (.gc 3) r h=.ok (.int 9) h){h:Hh}{w t l:Int}{S:List cJ}(g:Good w t l S):(bO G cl W iwB [some (.int w),some (.int t),some (.int l),none] h).bind cU=.ok (.bl true) h:=by
 have c1:ev G cl (.and (.chn .le .le (.int 1) (.var 0) (.gc 7)) (.chn .le .le (.int 1) (.var 1) (.gc 7))) [some (.int w),some (.int t),some (.int l),none] h=.ok (.bl ((decide (1<=w)&&decide (w<=8))&&(decide (1<=t)&&decide (t<=8)))) h:=eG (nX (aF ..) (aY rfl) (tP ..) (g4 _ _) (tP ..)) (nX (aF ..) (aY rfl) (tP ..) (g4 _ _) (tP ..));rw[decide_eq_true g.hw.1,decide_eq_true g.hw.2,decide_eq_true g.ht.1,decide_eq_true g.ht.2] at c1;have c2:ev G cl (.and (.var 3) (.chn .le .le (.int 1) (.var 2) (.gc 3))) [some (.int w),some (.int t),some (.int l),some (.bl true)] h=.ok (.bl (true&&(decide (1<=l)&&decide (l<=9)))) h:=eG (aY rfl) (nX (aF ..) (aY rfl) (tP ..) (g0 _ _) (tP ..));rw[decide_eq_true g.hl.1,decide_eq_true g.hl.2] at c2;rw[aK (r':= [some (.int w),some (.int t),some (.int l),some (.bl true)]) (h':=h) (bC c1),bL (bN c2)];rfl
noncomputable abbrev shB:Ss:=(t1 (.ret (.blt .all (n1 (.comp (.tp [0,1]) .itf (n1 (.att (.var 0) "Plate" "bright_at")) .nil (.and (.mth (.var 2) "Plate" "holds" 37 (n1 (.var 0))) (.chn .le .le (.att (.var 2) "Plate" "limit") (.var 1) (.gc 3))) ["place","bright","self"] [0])))))
def Sho(cl:Cl)(f:Nat):Prop:=∀(h:Hh)(n:Nat)(nm:Str)(w t l:Int)(S:List cJ),PlateAt h n nm w t l S->Good w t l S->∃g,cl f [.ref n] h=.ok (.bl true) (h++g)
theorem MD(h11:M5 cl 37)(g0:∀r h,ev G cl (.gc 3) r h=.ok (.int 9) h){h:Hh}{n:Nat}{nm:Str}{w t l:Int}{S:List cJ}(P:PlateAt h n nm w t l S)(g:Good w t l S):∃gg,(bO G cl W shB [some (.ref n)] h).bind cU=.ok (.bl true) (h++gg):=by
 obtain⟨k,e1,e2⟩:=id P
 obtain⟨gb,q⟩:=HY (G:=G) (cl:=cl) (t:=.tp [0,1]) (it:=.cons (.att (.var 0) "Plate" "bright_at") .nil) (e:=.and (.mth (.var 2) "Plate" "holds" 37 (n1 (.var 0))) (.chn .le .le (.att (.var 2) "Plate" "limit") (.var 1) (.gc 3))) (N:= ["place","bright","self"]) (cap:= [0]) (r:= [some (.ref n)]) (λr=>∃a b,r=[a,b,some (.ref n)]) (λ_=>D.bl true) (cE (dX rfl e1 (fB ..))) e2 (by have:=g.len;omega) ⟨_,_,rfl⟩
  (by
    rintro s hs r h' ⟨a,b,rfl⟩ kp;refine⟨[some (.tup [.int s.1,.int s.2.1]),some (.int s.2.2),some (.ref n)],rfl,⟨_,_,rfl⟩,?_⟩;have P':=P.kp kp;obtain⟨k',e1',_⟩:=id P';have c:=eG (G:=G) (cl:=cl) (r:= [some (.tup [.int s.1,.int s.2.1]),some (.int s.2.2),some (.ref n)]) (h:=h') (nV (i:=2) (m:="holds") (f:=37) rfl e1' rfl (cE (aY (i:=0) rfl)) (h11 h' n nm w t l S s.1 s.2.1 P')) (nX (op:=.le) (op':=.le) (dX (i:=2) rfl e1' (fL ..)) (aY (i:=1) rfl) (tP ..) (g0 _ _) (tP ..));obtain⟨s1,s2,s3⟩:=g.st s hs;rw[s1,decide_eq_true s2,decide_eq_true s3] at c;exact c)
 refine⟨.lst (S.map λ_=>D.bl true)::gb,?_⟩;rw[bL (bN (kF (cE q) (tS _ (cM ..))))];rfl
noncomputable abbrev dcE:E:=(.dcT (.tp [0,1,2]) (.var 5) (.tup (n2 (.var 0) (.var 1))) (.var 2) ["x","y","bright"] [])
theorem NK{S:List cJ}(u:S.Pairwise npS){i:Nat}{s:cJ}(hs:S[i]? =some s):(((S.take i).map kv).any λp=>decide (p.1=[s.1,s.2.1]))=false:=by
 rw[List.any_eq_false];intro p hp;obtain⟨a,ha,rfl⟩:=List.mem_map.mp hp;obtain⟨hi,rfl⟩:=Ze.mp hs;have e:S=S.take i++S[i]::S.drop (i+1):=by rw[<- List.drop_eq_getElem_cons hi,List.take_append_drop]
 rw[e,List.pairwise_append] at u;have:=u.2.2 a ha _ Zl;simpa [kv,npS] using this
theorem PL{S:List cJ}(u:S.Pairwise npS)(hl:S.length<=8){h0:Hh}{n:Nat}(e:aJ h0 n=some (S.map s3)):∀(k i:Nat)(r:Ev),(∃a b c,r=[a,b,c])->i<=S.length->S.length-i<k->
 DO (.tp [0,1,2]) (ev G cl (.tup (n2 (.var 0) (.var 1)))) (ev G cl (.var 2)) h0.length n k i r (h0++ [O.dtt ((S.take i).map kv)])=.ok () (h0++ [O.dtt (S.map kv)]):=by
 intro k
 induction k with
 |zero=>intro i r _ _ hk;omega
 |succ k ih=>
  rintro i r ⟨a,b,c,rfl⟩ hi hk;have e0:aJ (h0++ [O.dtt ((S.take i).map kv)]) n=some (S.map s3):=dE _ _ e
  by_cases hlt:i<S.length
  ·have es:S[i]? =some S[i]:=Zd hlt;have ed:(S.map s3)[i]? =some (s3 S[i]):=by rw[Zi,es];rfl
   have na:=NK u es;have ln:((S.take i).map kv).length<1000:=by rw[Zc,List.length_take];omega
   have pt:nZ h0.length (.tup [.int S[i].1,.int S[i].2.1]) (.int S[i].2.2) (h0++ [O.dtt ((S.take i).map kv)])=.ok () (h0++ [O.dtt ((S.take (i+1)).map kv)]):=by
    unfold nZ;rw[bZ]
    show(if((S.take i).map kv).length<1000 then Rs.ok () ((h0++ [O.dtt ((S.take i).map kv)]).set h0.length (.dtt (oN ((S.take i).map kv) [S[i].1,S[i].2.1] (.int S[i].2.2)))) else .bad)=_
    rw[if_pos ln,mU];unfold oN;rw[na,if_neg Bool.false_ne_true,List.take_succ,es,List.map_append];rfl
   have st:cX (.tp [0,1,2]) (s3 S[i]) [a,b,c]=some [some (.int S[i].1),some (.int S[i].2.1),some (.int S[i].2.2)]:=rfl;have k1:∀h:Hh,ev G cl (.tup (n2 (.var 0) (.var 1))) [some (.int S[i].1),some (.int S[i].2.1),some (.int S[i].2.2)] h=.ok (.tup [.int S[i].1,.int S[i].2.1]) h:=λh=>cG (aY rfl) (aY rfl);have k2:∀h:Hh,ev G cl (.var 2) [some (.int S[i].1),some (.int S[i].2.1),some (.int S[i].2.2)] h=.ok (.int S[i].2.2) h:=λh=>aY rfl;simp only[DO,e0,ed,st,k1,k2,aD,pt];exact ih (i+1) _ ⟨_,_,_,rfl⟩ hlt (by omega)
  ·have ed:(S.map s3)[i]? =none:=List.getElem?_eq_none_iff.mpr (by simp;omega);simp only[DO,e0,ed];rw[List.take_of_length_le (by omega)]
theorem PP{S:List cJ}(u:S.Pairwise npS)(hl:S.length<=8){h:Hh}{n:Nat}{r:Ev}(hr:r[5]? =some (some (.ref n)))(e:aJ h n=some (S.map s3)):ev G cl dcE r h=.ok (.ref h.length) (h++ [.dtf (S.map kv)]):=by
 rw[VG,aY hr,aD]
 show(match aJ h n with|some l=>(DO (.tp [0,1,2]) (ev G cl (.tup (n2 (.var 0) (.var 1)))) (ev G cl (.var 2)) h.length n (l.length+1) 0 (bA ["x","y","bright"] [] r) (h++ [O.dtt []])).bind (λ_ h'=>VO h.length h')|none=>.bad)=_
 rw[e];have q:=PL (G:=G) (cl:=cl) u hl e ((S.map s3).length+1) 0 (bA ["x","y","bright"] [] r) ⟨none,none,none,rfl⟩ (Nat.zero_le _) (by rw[Zc];omega);rw[List.take_zero,List.map_nil] at q
 show(DO _ _ _ _ _ _ _ _ _).bind _=_
 rw[q,aD];unfold VO;rw[bZ];show Rs.ok _ _=_;rw[mU]
end
section
variable {G:Gs}{cl:Cl}{W:Nat}
theorem jP{h g g':Hh}{cn f:Str}{fs:List (Str×D)}{a:E}{d:D}{r:Ev}{i:Nat}(hr:r[i]? =some (some (.ref h.length)))(ha:ev G cl a r (h++ .ins cn fs::g)=.ok d (h++ .ins cn fs::g'))(hl:fs.length<900):
 xs G cl W (.sfl (.var i) cn f a) r (h++ .ins cn fs::g)=.ok (.nx r) (h++ .ins cn (qK f d fs)::g'):=by
 rw[RV,ha,dS,aD,aY hr,dS,aD,ST _ (iC ..) hl,dS,aD,wC]
theorem NT{h:Hh}{k:Nat}{l:List (List Int×D)}(e:h[k]? =some (.dtf l)):hJ .len [.ref k] h=.ok (.int l.length) h:=by
 have e0:aJ h k=none:=by unfold aJ;rw[e];rfl
 have e1:dN h (.ref k)=some l:=by simp only[dN,e]
 rw[ET,iS,e0];show NS (.ref k) h=_
 show(match dN h (.ref k) with|some l=>Rs.ok (D.int l.length) h|none=>.bad)=_
 rw[e1]
noncomputable abbrev TU:Ss:=(.cons (.iff (.not (.call 10 (n1 (.var 1)))) (t1 .never) .nil) (.cons (.iff (.not (.call 11 (n3 (.var 2) (.var 3) (.var 4)))) (t1 .never) .nil) (.cons (.iff (.cmp .gt (.blt .len (n1 (.var 5))) (.gc 8)) (t1 .never) .nil) (.cons (.sfl (.var 0) "Plate" "name" (.var 1)) (.cons (.sfl (.var 0) "Plate" "width" (.var 2)) (t5 (.sfl (.var 0) "Plate" "height" (.var 3)) (.sfl (.var 0) "Plate" "limit" (.var 4)) (.sfl (.var 0) "Plate" "bright_at" (.dcT (.tp [0,1,2]) (.var 5) (.tup (n2 (.var 0) (.var 1))) (.var 2) ["x","y","bright"] [])) (.iff (.cmp .lt (.blt .len (n1 (.att (.var 0) "Plate" "bright_at"))) (.blt .len (n1 (.var 5)))) (t1 .never) .nil) (.iff (.not (.mth (.var 0) "Plate" "shows_its_stars" 36 .nil)) (t1 .never) .nil)))))))
def Ini(cl:Cl)(f:Nat):Prop:=∀(h:Hh)(nm:Str)(w t l:Int)(S:List cJ)(s:Nat),NmOk nm->Good w t l S->aJ h s=some (S.map s3)->∃h',cl f [.ref h.length,.str nm,.int w,.int t,.int l,.ref s] (h++ [.ins "Plate" []])=.ok .non h'/\PlateAt h' h.length nm w t l S/\Kp h h'
noncomputable def eI(h:Hh)(nm:Str)(w t l:Int)(s:Nat):Ev:= [some (.ref h.length),some (.str nm),some (.int w),some (.int t),some (.int l),some (.ref s)]
theorem OJ(h0:Isn cl 10)(h1:Isw cl 11)(h9:Sho cl 36)(g5:∀r h,ev G cl (.gc 8) r h=.ok (.int 8) h){h:Hh}{nm:Str}{w t l:Int}{S:List cJ}{s:Nat}(N:NmOk nm)(g:Good w t l S)(e:aJ h s=some (S.map s3)):
 ∃h',(bO G cl W TU (eI h nm w t l s) (h++ [.ins "Plate" []])).bind cU=.ok .non h'/\PlateAt h' h.length nm w t l S/\Kp h h':=by
 obtain⟨g1,q1⟩:=h0 (h++ [.ins "Plate" []]) nm N;rw[List.append_assoc,List.singleton_append] at q1;have q2:=h1 (h++ .ins "Plate" []::g1) w t l S g;have q3:ev G cl (.cmp .gt (.blt .len (n1 (.var 5))) (.gc 8)) (eI h nm w t l s) (h++ .ins "Plate" []::g1)=.ok (.bl (decide ((8:Int)<((S.map s3).length:Nat)))) (h++ .ins "Plate" []::g1):=bK (DE rfl (dE _ _ e)) (g5 _ _) (cGt ..);rw[decide_eq_false (by rw[Zc];have:=g.len;omega)] at q3;generalize hF:([("name",D.str nm),("width",.int w),("height",.int t),("limit",.int l)]:List (Str×D))=F4
 have q8:ev G cl dcE (eI h nm w t l s) (h++ .ins "Plate" F4::g1)=.ok (.ref (h++O.ins "Plate" F4::g1).length) (h++ .ins "Plate" F4::(g1++ [.dtf (S.map kv)])):=by
  have:=PP (G:=G) (cl:=cl) g.up g.len (r:=(eI h nm w t l s)) rfl (dE h [] (l:=S.map s3) (n:=s) e |> λ_=>dE h (.ins "Plate" F4::g1) e);rw[List.append_assoc,List.cons_append] at this;exact this
 have eP:qK "bright_at" (.ref (h++O.ins "Plate" F4::g1).length) F4=iK nm w t l (h++O.ins "Plate" F4::g1).length:=by rw[<- hF];rfl
 generalize hk:(h++O.ins "Plate" F4::g1).length=k at q8 eP;have kE:k=(h++O.ins "Plate" (iK nm w t l k)::g1).length:=by rw[<- hk];simp
 have P:PlateAt (h++ .ins "Plate" (iK nm w t l k)::(g1++ [.dtf (S.map kv)])) h.length nm w t l S:=by
  refine⟨k,iC ..,?_⟩;have e2:h++O.ins "Plate" (iK nm w t l k)::(g1++ [.dtf (S.map kv)])=(h++O.ins "Plate" (iK nm w t l k)::g1)++ [.dtf (S.map kv)]:=by simp
  rw[e2];have e3:=bZ (h++O.ins "Plate" (iK nm w t l k)::g1) (.dtf (S.map kv));rwa [<- kE] at e3
 have eS:aJ (h++ .ins "Plate" (iK nm w t l k)::(g1++ [.dtf (S.map kv)])) s=some (S.map s3):=dE _ _ e;obtain⟨k',p1,p2⟩:=id P;obtain⟨g2,q10⟩:=h9 _ _ nm w t l S P g
 have q9:ev G cl (.cmp .lt (.blt .len (n1 (.att (.var 0) "Plate" "bright_at"))) (.blt .len (n1 (.var 5)))) (eI h nm w t l s) (h++ .ins "Plate" (iK nm w t l k)::(g1++ [.dtf (S.map kv)]))=.ok (.bl (decide (((S.map kv).length:Int)<((S.map s3).length:Nat)))) (h++ .ins "Plate" (iK nm w t l k)::(g1++ [.dtf (S.map kv)])):=
  bK (kF (cE (dX rfl p1 (fB ..))) (NT p2)) (DE rfl eS) (LD ..)
 rw[decide_eq_false (by rw[Zc,Zc];omega)] at q9;generalize hHc:h++O.ins "Plate" (iK nm w t l k)::(g1++ [.dtf (S.map kv)])=Hc at P eS p1 p2 q10 q9;have kp:Kp h (Hc++g2):=by rw[<- hHc,List.append_assoc];exact Kp.app _ _
 refine⟨Hc++g2,?_,P.kp (Kp.app _ _),kp⟩
 rw[aK (r':=(eI h nm w t l s)) (h':=h++ .ins "Plate" []::g1) (by rw[cC (jF (p:=true) (cI (cE (aY rfl)) q1)),aV]),
  aK (r':=(eI h nm w t l s)) (h':=h++ .ins "Plate" []::g1) (by rw[cC (jF (p:=true) (cI (by rw[cA,aY rfl,aD,fS (aY rfl) (aY rfl),aD]) q2)),aV]),
  aK (r':=(eI h nm w t l s)) (h':=h++ .ins "Plate" []::g1) (by rw[cC q3,aV]),
  aK (r':=(eI h nm w t l s)) (h':=h++ .ins "Plate" [("name",D.str nm)]::g1) (jP (h:=h) (fs:= []) (g':=g1) rfl (aY rfl) (Nat.lt_of_le_of_lt (m:=8) (Nat.le_of_ble_eq_true rfl) (by decide))),
  aK (r':=(eI h nm w t l s)) (h':=h++ .ins "Plate" [("name",D.str nm),("width",.int w)]::g1) (jP (h:=h) (fs:= [("name",D.str nm)]) (g':=g1) rfl (aY rfl) (Nat.lt_of_le_of_lt (m:=8) (Nat.le_of_ble_eq_true rfl) (by decide))),
  aK (r':=(eI h nm w t l s)) (h':=h++ .ins "Plate" [("name",D.str nm),("width",.int w),("height",.int t)]::g1) (jP (h:=h) (fs:= [("name",D.str nm),("width",.int w)]) (g':=g1) rfl (aY rfl) (Nat.lt_of_le_of_lt (m:=8) (Nat.le_of_ble_eq_true rfl) (by decide))),
  aK (r':=(eI h nm w t l s)) (h':=h++ .ins "Plate" [("name",D.str nm),("width",.int w),("height",.int t),("limit",.int l)]::g1) (jP (h:=h) (fs:= [("name",D.str nm),("width",.int w),("height",.int t)]) (g':=g1) rfl (aY rfl) (Nat.lt_of_le_of_lt (m:=8) (Nat.le_of_ble_eq_true rfl) (by decide))),
  aK (r':=(eI h nm w t l s)) (h':=Hc) (by
   have z:=jP (G:=G) (cl:=cl) (W:=W) (h:=h) (fs:=F4) (g:=g1) (f:="bright_at") (i:=0) rfl q8 (by rw[<- hF];exact Nat.lt_of_le_of_lt (m:=8) (Nat.le_of_ble_eq_true rfl) (by decide));rw[eP,hHc] at z;rw[<- hF] at z;exact z),
  aK (r':=(eI h nm w t l s)) (h':=Hc) (by rw[cC q9,aV]),
  aK (r':=(eI h nm w t l s)) (h':=Hc++g2) (by rw[cC (jF (p:=true) (nV rfl p1 rfl (dD ..) q10)),aV]),aV]
 rfl
end
noncomputable def tW(j:Int):Nat:=(abc.cps.toList[j.toNat]?).getD 0
theorem xT:abc.cps.toList.length=26:=by decide
theorem xJ{j:Int}(h0:0<=j)(h1:j<26):tW j∈abc.cps.toList:=by
 have hj:j.toNat<abc.cps.toList.length:=by rw[xT];omega
 unfold tW;rw[Zd hj];exact List.getElem_mem hj
theorem QH:∀c∈abc.cps.toList,KI (.str ⟨#[c]⟩) (.str abc) []=some true:=by decide+kernel
theorem EI{j:Int}(h0:0<=j)(h1:j<26)(h:Hh):jA (.str abc) (.int j) h=.ok (.str ⟨#[tW j]⟩) h:=by
 have hj:j.toNat<abc.cps.toList.length:=by rw[xT];omega
 have e:iG abc.cps.toList j=some (abc.cps.toList[j.toNat]):=by
  have:=fJ (xs:=abc.cps.toList) (j:=j.toNat) (Zd hj);rwa [Int.toNat_of_nonneg h0] at this
 show(if abc.length<=sizeLine then(match iG abc.cps.toList j with|some c=>Rs.ok (D.str ⟨#[c]⟩) h|none=>.bad) else .bad)=_
 rw[if_pos (by decide),e];unfold tW;rw[Zd hj];rfl
theorem pA:∀l:List Str,mQ (l.map D.str)=some l
 | []=>rfl
 |x::l=>by rw[Zh,mQ,pA l];rfl
theorem sW(f:Nat->Nat):∀(l:List Nat)(acc:Array Nat),((l.map λk=>(⟨#[f k]⟩:Str)).foldl (λacc q=>acc++(Str.ofString "").cps++q.cps) acc).toList=acc.toList++l.map f
 | [],acc=>by simp
 |a::l,acc=>by
  rw[Zh,List.foldl_cons,sW f l];simp[show(Str.ofString "").cps= #[] from rfl]
theorem yZ(f:Nat->Nat)(a:Nat)(l:List Nat):(Txt.join "" ((a::l).map λk=>(⟨#[f k]⟩:Str))).cps.toList=(a::l).map f:=by
 show((l.map λk=>(⟨#[f k]⟩:Str)).foldl (λacc q=>acc++(Str.ofString "").cps++q.cps) #[f a]).toList=_
 rw[sW];rfl
theorem vZ(f:Nat->Nat):∀l:List Nat,((l.map λk=>(⟨#[f k]⟩:Str)).map λx=>x.length).sum=l.length
 | []=>rfl
 |x::l=>by
  rw[Zh,Zh,List.sum_cons,vZ f l,List.length_cons];show 1+l.length=l.length+1;omega
section
variable {G:Gs}{cl:Cl}{W:Nat}
theorem OX(s:Str)(e:E)(r:Ev)(h:Hh):ev G cl (.join s e) r h=(ev G cl e r h).bind λx h=>nM s x h:=by rw[ev]<;>rfl
noncomputable def rJ(s:cJ):D:=.tup [.int s.1,.int s.2.1]
theorem CL(x y:Int):∀S:List cJ,RH (.tup [.int x,.int y]) (S.map rJ)=some (S.any λs=>decide (s.1=x/\s.2.1=y))
 | []=>rfl
 |s::S=>by
  rw[Zh,RH,CL x y S,List.any_cons]
  have e:iQ 20 (rJ s) (.tup [.int x,.int y])=some (decide (s.1=x/\s.2.1=y)):=by
   unfold rJ;rw[PF];simp only[HZ,PD,PH,Bool.and_true,Bool.decide_and]
  rw[e]
theorem IH{h:Hh}{n:Nat}{l:List D}(e:aJ h n=some l):dO h (.ref n)=none:=by
 show(match h[n]? with|some (.dct l)=>some l|_=>none)=none
 unfold aJ at e;cases q:h[n]? with
 |none=>rfl
 |some o=>
  cases o with
  |dct l'=>rw[q] at e;cases e
  |_=>rfl
theorem QJ{h:Hh}{n:Nat}{S:List cJ}(x y:Int)(e:aJ h n=some (S.map rJ)):cH .notin (.tup [.int x,.int y]) (.ref n) h=.ok (.bl (!(S.any λs=>decide (s.1=x/\s.2.1=y)))) h:=by
 have e1:HN (.tup [.int x,.int y]) (.ref n) (S.map rJ)=some (S.any λs=>decide (s.1=x/\s.2.1=y)):=CL x y S;unfold cH;simp only[IH e,iS,e,e1]
theorem zY(s:cJ)(h:Hh):FP (s3 s) (.int 2) h=.ok (rJ s) h:=rfl
end
section
variable {G:Gs}{cl:Cl}{W:Nat}
theorem wW{i a:Nat}{e:E}{y:D}{l:List D}{r:Ev}{h:Hh}(hr:r[i]? =some (some (.ref a)))(he:ev G cl e r h=.ok y h)(hs:h[a]? =some (.lst l))(hl:l.length<=1000):xs G cl W (.ex (.app (.var i) e)) r h=.ok (.nx r) (h.set a (.lst (l++ [y]))):=by
 have hL:cF (.ref a) h=true:=by rw[dU,dL hs];rfl
 rw[LO,DH,aY hr,aD,if_pos hL,he,aD,rG _ hs (by omega),dS,aD]
theorem PlateAt.set{h:Hh}{n a:Nat}{nm:Str}{w t l:Int}{S:List cJ}{L:List D}{o:O}(P:PlateAt h n nm w t l S)(hs:h[a]? =some (.lst L)):PlateAt (h.set a o) n nm w t l S:=by
 obtain⟨k,e1,e2⟩:=P;have n1:a≠n:=λz=>by rw[z,e1] at hs;cases hs
 have n2:a≠k:=λz=>by rw[z,e2] at hs;cases hs
 exact⟨k,by rw[List.getElem?_set_ne n1];exact e1,by rw[List.getElem?_set_ne n2];exact e2⟩
theorem gF{h:Hh}{a:Nat}{o o':O}(hs:h[a]? =some o'):(h.set a o)[a]? =some o:=List.getElem?_set_self (Ze.mp hs).1
def RT(cl:Cl)(f:Nat)(ns:List Int):Prop:=∀(at':Int)(M:Nat)(h:Hh),M<=1000->0<=at'->at'<100000->aJ h 0=some (ns.map D.int)->∃row:List Int,row.length=M/\InR row/\cl f [.ref 0,.int at',.int M] h=.ok (.ref h.length) (h++ [.lst (row.map D.int)])
theorem lB{a b c:E}{x y z:D}{r:Ev}{h h1 h2 h3:Hh}(ha:ev G cl a r h=.ok x h1)(hb:ev G cl b r h1=.ok y h2)(hc:ev G cl c r h2=.ok z h3):cW G cl (.cons a (.cons b (.cons c .nil))) r h=.ok [x,y,z] h3:=by
 rw[cA,ha,aD,fS hb hc,aD]
theorem UV{a b c d:E}{x y z u:D}{r:Ev}{h h1 h2 h3 h4:Hh}(ha:ev G cl a r h=.ok x h1)(hb:ev G cl b r h1=.ok y h2)(hc:ev G cl c r h2=.ok z h3)(hd:ev G cl d r h3=.ok u h4):cW G cl (.cons a (.cons b (.cons c (.cons d .nil)))) r h=.ok [x,y,z,u] h4:=by
 rw[cA,ha,aD,lB hb hc hd,aD]
theorem HX{a b c d e:E}{x y z u v:D}{r:Ev}{h h1 h2 h3 h4 h5:Hh}(ha:ev G cl a r h=.ok x h1)(hb:ev G cl b r h1=.ok y h2)(hc:ev G cl c r h2=.ok z h3)(hd:ev G cl d r h3=.ok u h4)(he:ev G cl e r h4=.ok v h5):cW G cl (.cons a (.cons b (.cons c (.cons d (.cons e .nil))))) r h=.ok [x,y,z,u,v] h5:=by
 rw[cA,ha,aD,UV hb hc hd he,aD]
theorem jE{l:Es}{ds:List D}{r:Ev}{h h1:Hh}(hl:cW G cl l r h=.ok ds h1)(hn:ds.length<=1000):ev G cl (.tup l) r h=.ok (.tup ds) h1:=by
 rw[tB,hl,aD,if_pos hn]
theorem gY{l:Es}{ds:List D}{r:Ev}{h h1:Hh}(hl:cW G cl l r h=.ok ds h1)(hn:ds.length<=1000):ev G cl (.lst l) r h=.ok (.ref h1.length) (h1++ [.lst ds]):=by
 rw[wY,hl,aD,if_pos hn]
theorem eR{l:List D}(h:Nat.ble l.length 8=true):l.length<=1000:=Nat.le_trans (Nat.le_of_ble_eq_true h) (by decide)
end
theorem TR{s:Str}(a:1<=s.length)(b:s.length<=8)(c:∀x∈s.cps.toList,x∈abc.cps.toList):NmOk s:=⟨a,b,λx hx=>QH x (c x hx)⟩
theorem CF{h:Hh}{n m:Nat}(f:Nat->Nat)(hm:m<=8)(e:aJ h n=some ((List.range m).map λk=>D.str ⟨#[f k]⟩)):∃s:Str,s.cps.toList=(List.range m).map f/\nM "" (.ref n) h=.ok (.str s) h:=by
 have e1:((List.range m).map λk=>D.str ⟨#[f k]⟩)=((List.range m).map λk=>(⟨#[f k]⟩:Str)).map D.str:=by rw[List.map_map];rfl
 rw[e1] at e;refine⟨Txt.join "" ((List.range m).map λk=>(⟨#[f k]⟩:Str)),?_,?_⟩
 ·cases q:List.range m with
  |nil=>rfl
  |cons a l=>exact yZ f a l
 ·unfold nM;rw[dU,iS,e]
  show(match mQ (((List.range m).map λk=>(⟨#[f k]⟩:Str)).map D.str) with|some xs=>if(xs.map (λx:Str=>x.length)).sum+xs.length*(Str.length "")<=1000 then Rs.ok (D.str (Txt.join "" xs)) h else .bad|none=>.bad)=_
  rw[pA]
  show(if _ then _ else _)=_
  rw[if_pos];rw[vZ f,show Str.length ""=0 from rfl]
  simp
  omega
theorem rZ(x y:Str):(x++y).length=x.length+y.length:=Array.size_append
theorem jQ(x y:Str):(x++y).cps.toList=x.cps.toList++y.cps.toList:=Array.toList_append
theorem LG{x y:Str}(h:Hh)(hl:x.length+y.length<=1000):bX .add (.str x) (.str y) h=.ok (.str (x++y)) h:=by
 show(if _ then _ else _)=_
 rw[if_pos (Nat.le_trans hl (by decide))]
section
variable {G:Gs}{cl:Cl}{W:Nat}
noncomputable def en(dr p:Nat)(d3 d4 d5 d6:Option D):Ev:= [some (.ref dr),some (.str abc),some (.ref p),d3,d4,d5,d6]
noncomputable abbrev nqO:E:=(.ix (.var 1) (.bin .mod (.bin .add (.bin .mul (.var 3) (.ix (.lst (.cons (.int 1) (n5 (.int 3) (.int 5) (.int 7) (.int 9) (.int 11)))) (.bin .mod (.ix (.var 0) (.int 2)) (.int 6)))) (.ix (.var 0) (.int 3))) (.int 26)))
noncomputable abbrev nqJ:E:=(.join "" (.comp (.nm 0) .r1 (n1 (.var 5)) .nil (.ix (.var 1) (.bin .mod (.bin .add (.ix (.var 2) (.int 3)) (.bin .mul (.var 0) (.ix (.var 2) (.int 4)))) (.int 26))) ["_law_at","_law_letters","_law_d"] [1,0]))
noncomputable abbrev ZC:Ss:=(t5 (.asg (.nm 4) nqO) (.asg (.nm 5) (.bin .mod (.bin .fdiv (.ix (.var 0) (.int 4)) (.int 4)) (.int 8))) (.iff (.cmp .eq (.bin .mod (.ix (.var 0) (.int 4)) (.int 2)) (.int 1)) (t1 (.asg (.nm 5) (.bin .mod (.ix (.var 0) (.bin .add (.int 5) (.var 3))) (.int 8)))) .nil) (.asg (.nm 6) nqJ) (.iff (.cmp .eq (.bin .mod (.bin .fdiv (.ix (.var 0) (.int 4)) (.int 2)) (.int 2)) (.int 1)) (t1 (.ex (.app (.var 2) (.bin .add (.var 4) (.var 6))))) (t1 (.ex (.app (.var 2) (.bin .add (.var 6) (.var 4)))))))
noncomputable abbrev nqN:E:=(.ix (.lst (.cons (.int 2) (.cons (.int 3) (.cons (.int 3) (.cons (.int 4) (.cons (.int 4) (n5 (.int 5) (.int 6) (.int 7) (.int 12) (.int 1)))))))) (.bin .mod (.ix (.var 0) (.int 1)) (.int 10)))
noncomputable abbrev nqB:Ss:=(t4 (.asg (.nm 1) (.str "abcdefghijklmnopqrstuvwxyz")) (.asg (.nm 2) (.lst .nil)) (.forr (.nm 3) (.r1 nqN) ZC) (.ret (.var 2)))
theorem xG{l:List Int}{r:Ev}{h:Hh}:cW G cl (l.foldr (λi e=>.cons (.int i) e) .nil) r h=.ok (l.map D.int) h:=by
 induction l with
 |nil=>rw[List.foldr_nil,dD];rfl
 |cons a l ih=>rw[List.foldr_cons,cA,aF,aD,ih,aD];rfl
theorem JR{l:List Int}(h:Nat.ble l.length 16=true):l.length<=1000:=Nat.le_trans (Nat.le_of_ble_eq_true h) (by decide)
noncomputable def GR(row:List Int)(s:Str):Option Nat:=if Row.R row 4/2%2=1 then s.cps.toList.head? else s.cps.toList.getLast?
theorem IS:∀i<26,∀j<26,tW (i:Nat)=tW (j:Nat)->i=j:=by decide+kernel
theorem GQ:∀v∈([1,3,5,7,9,11]:List Int),∀i<12,∀j<12,((i:Nat)*v-(j:Nat)*v)%26=0->i=j:=by decide+kernel
theorem NC{v r:Int}(hv:v∈([1,3,5,7,9,11]:List Int)){i j:Nat}(hi:i<12)(hj:j<12)(e:tW (((i:Int)*v+r)%26)=tW (((j:Int)*v+r)%26)):i=j:=by
 have z:(26:Int)≠0:=by decide
 have y:(0:Int)<26:=by decide
 have a0:=Int.emod_nonneg ((i:Int)*v+r) z;have a1:=Int.emod_lt_of_pos ((i:Int)*v+r) y;have b0:=Int.emod_nonneg ((j:Int)*v+r) z;have b1:=Int.emod_lt_of_pos ((j:Int)*v+r) y;rw[<- Int.toNat_of_nonneg a0, <- Int.toNat_of_nonneg b0] at e;have q:=IS _ (by rw[<- Int.ofNat_lt,Int.toNat_of_nonneg a0];exact a1) _ (by rw[<- Int.ofNat_lt,Int.toNat_of_nonneg b0];exact b1) e;have q2:((i:Int)*v+r)%26=((j:Int)*v+r)%26:=by rw[<- Int.toNat_of_nonneg a0, <- Int.toNat_of_nonneg b0,q]
 refine GQ v hv i hi j hj ?_;rw[show(i:Int)*v-j*v=(i*v+r)-(j*v+r) by rw[Int.add_sub_add_right]];exact Int.emod_eq_emod_iff_emod_sub_eq_zero.mp q2
theorem HL{es:Es}{e:E}{l:List Int}{r:Ev}{h:Hh}{i v:Int}(he:cW G cl es r h=.ok (l.map D.int) h)(hl:l.length<=1000)(hi:ev G cl e r (h++ [.lst (l.map D.int)])=.ok (.int i) (h++ [.lst (l.map D.int)]))(e1:iG (l.map D.int) i=some (.int v)):
 ev G cl (.ix (.lst es) e) r h=.ok (.int v) (h++ [.lst (l.map D.int)]):=by
 rw[tD,wY,he,aD,if_pos (by rw[Zc];exact hl),aD,hi,aD,lV _ _ (aU _ _),e1]
noncomputable def eN(dr p k c:Nat)(z:Int)(s:Str):Ev:=en dr p (some (.int k)) (some (.str ⟨#[c]⟩)) (some (.int z)) (some (.str s))
theorem GX{h0 h:Hh}{dr p:Nat}{row:List Int}(Q:Row h0 dr row)(hr:row.length=18)(hp:h0.length<=p)(k:Nat)(hk:k<12)(kp:Kp h0 h){l:List Str}(hl:h[p]? =some (.lst (l.map D.str)))(hll:l.length<=100){v:Int}(hv:iG (([1,3,5,7,9,11]:List Int).map D.int) (Row.R row 2%6)=some (.int v))(d4 d5 d6:Option D):
 ∃h' s d4' d5' d6',bO G cl W ZC (en dr p (some (.int k)) d4 d5 d6) h=.ok (.nx (en dr p (some (.int k)) d4' d5' d6')) h'/\Kp h0 h'/\h'[p]? =some (.lst ((l++ [s]).map D.str))/\NmOk s/\GR row s=some (tW (((k:Int)*v+Row.R row 3)%26)):=by
 have ev1:=HL (G:=G) (cl:=cl) (es:=(.cons (.int 1) (n5 (.int 3) (.int 5) (.int 7) (.int 9) (.int 11)))) (e:=(.bin .mod (.ix (.var 0) (.int 2)) (.int 6))) (l:= [1,3,5,7,9,11]) (r:=en dr p (some (.int k)) d4 d5 d6) (h:=h) (i:=Row.R row 2%6) (xG (l:= [1,3,5,7,9,11])) (JR rfl)
  (aQ (bB rfl (aF _ _ _ _ 2) (Q.ix (kp.trans (Kp.app _ _)) 2 (by omega))) (aF ..) (bY _ (by omega))) hv
 generalize hg1:h++ [O.lst ([1,3,5,7,9,11].map D.int)]=h1 at ev1;have k1:Kp h h1:=by rw[<- hg1];exact Kp.app _ _
 have kp1:=kp.trans k1;have j0:(0:Int)<=((k:Int)*v+Row.R row 3)%26:=Int.emod_nonneg _ (by omega);have j1:((k:Int)*v+Row.R row 3)%26<26:=Int.emod_lt_of_pos _ (by omega)
 have s1:ev G cl nqO (en dr p (some (.int k)) d4 d5 d6) h=.ok (.str ⟨#[tW (((k:Int)*v+Row.R row 3)%26)]⟩) h1:=
  bB rfl (aQ (aQ (aQ (aY rfl) ev1 (gM _ (by omega) (by omega))) (bB rfl (aF _ _ _ _ 3) (Q.ix kp1 3 (by omega))) (fV ..)) (aF ..) (bY _ (by omega))) (EI j0 j1 h1)
 have hc:=xJ j0 j1;generalize tW (((k:Int)*v+Row.R row 3)%26)=c at s1 hc⊢;rw[aK (r':=en dr p (some (.int k)) (some (.str ⟨#[c]⟩)) d5 d6) (h':=h1) (bC s1)]
 obtain⟨z,hz,s2⟩:∃z:Nat,z<8/\∀Z:Ss,bO G cl W (.cons (.asg (.nm 5) (.bin .mod (.bin .fdiv (.ix (.var 0) (.int 4)) (.int 4)) (.int 8))) (.cons (.iff (.cmp .eq (.bin .mod (.ix (.var 0) (.int 4)) (.int 2)) (.int 1)) (t1 (.asg (.nm 5) (.bin .mod (.ix (.var 0) (.bin .add (.int 5) (.var 3))) (.int 8)))) .nil) Z)) (en dr p (some (.int k)) (some (.str ⟨#[c]⟩)) d5 d6) h1=bO G cl W Z (en dr p (some (.int k)) (some (.str ⟨#[c]⟩)) (some (.int z)) d6) h1:=by
  have a0:(0:Int)<=Row.R row 4/4%8:=Int.emod_nonneg _ (by omega);have a1:Row.R row 4/4%8<8:=Int.emod_lt_of_pos _ (by omega);have b0:(0:Int)<=Row.R row (5+k)%8:=Int.emod_nonneg _ (by omega);have b1:Row.R row (5+k)%8<8:=Int.emod_lt_of_pos _ (by omega);have t1:ev G cl (.bin .mod (.bin .fdiv (.ix (.var 0) (.int 4)) (.int 4)) (.int 8)) (en dr p (some (.int k)) (some (.str ⟨#[c]⟩)) d5 d6) h1=.ok (.int (Row.R row 4/4%8)) h1:=aQ (aQ (bB rfl (aF _ _ _ _ 4) (Q.ix kp1 4 (by omega))) (aF ..) (oU _ (by omega) (by omega))) (aF ..) (bY _ (by omega));have c1:ev G cl (.cmp .eq (.bin .mod (.ix (.var 0) (.int 4)) (.int 2)) (.int 1)) (en dr p (some (.int k)) (some (.str ⟨#[c]⟩)) (some (.int (Row.R row 4/4%8))) d6) h1=.ok (.bl (decide (Row.R row 4%2=1))) h1:=bK (aQ (bB rfl (aF _ _ _ _ 4) (Q.ix kp1 4 (by omega))) (aF ..) (bY _ (by omega))) (aF ..) (rE ..)
  by_cases hc2:Row.R row 4%2=1
  ·rw[decide_eq_true hc2] at c1;have t2:ev G cl (.bin .mod (.ix (.var 0) (.bin .add (.int 5) (.var 3))) (.int 8)) (en dr p (some (.int k)) (some (.str ⟨#[c]⟩)) (some (.int (Row.R row 4/4%8))) d6) h1=.ok (.int (Row.R row (5+k)%8)) h1:=aQ (bB rfl (aQ (aF ..) (aY rfl) (fV ..)) (by have:=Q.ix kp1 (5+k) (by omega);rwa [Int.natCast_add] at this)) (aF ..) (bY _ (by omega));refine⟨(Row.R row (5+k)%8).toNat,by omega,λZ=>?_⟩;rw[Int.toNat_of_nonneg b0,aK (bC t1),aK (r':=en dr p (some (.int k)) (some (.str ⟨#[c]⟩)) (some (.int (Row.R row (5+k)%8))) d6) (h':=h1) (by show xs G cl W _ (en dr p (some (.int k)) (some (.str ⟨#[c]⟩)) (some (.int (Row.R row 4/4%8))) d6) h1=_;rw[dB c1,aK (bC t2),aV];rfl)]
  ·rw[decide_eq_false hc2] at c1;refine⟨(Row.R row 4/4%8).toNat,by omega,λZ=>?_⟩;rw[Int.toNat_of_nonneg a0,aK (bC t1),aK (r':=en dr p (some (.int k)) (some (.str ⟨#[c]⟩)) (some (.int (Row.R row 4/4%8))) d6) (h':=h1) (by show xs G cl W _ (en dr p (some (.int k)) (some (.str ⟨#[c]⟩)) (some (.int (Row.R row 4/4%8))) d6) h1=_;rw[cC c1,aV])]
 rw[s2]
 obtain⟨gb,q⟩:=PC (G:=G) (cl:=cl) (t:=.nm 0) (it:=.cons (.var 5) .nil) (cs:=.nil) (e:=(.ix (.var 1) (.bin .mod (.bin .add (.ix (.var 2) (.int 3)) (.bin .mul (.var 0) (.ix (.var 2) (.int 4)))) (.int 26)))) (N:= ["_law_at","_law_letters","_law_d"]) (cap:= [1,0]) (r:=en dr p (some (.int k)) (some (.str ⟨#[c]⟩)) (some (.int z)) d6) (h:=h1) (h1:=h1) (j:=z)
  (λr=>∃d,r=[d,some (.str abc),some (.ref dr)]) (λ_=>true) (λ(b:Nat)=>D.str ⟨#[tW ((Row.R row 3+(b:Int)*Row.R row 4)%26)]⟩) (cE (aY rfl)) (by omega) ⟨none,rfl⟩ λb hb=>⟨by
    rintro r ys gb ⟨d,rfl⟩;have hb':b<z:=List.mem_range.mp hb;refine⟨[some (.int b),some (.str abc),some (.ref dr)],[],rfl,by rw[jD,Zm],⟨_,rfl⟩,λ_=>⟨[],?_⟩⟩;rw[Zm,Zm];have kq:Kp h0 (h1++ .lst ys::gb):=kp1.trans (Kp.app _ _);exact bB rfl (aQ (aQ (bB rfl (aF _ _ _ _ 3) (Q.ix kq 3 (by omega))) (aQ (aY rfl) (bB rfl (aF _ _ _ _ 4) (Q.ix kq 4 (by omega))) (gM _ (by omega) (by omega))) (fV ..)) (aF ..) (bY _ (by omega))) (EI (Int.emod_nonneg _ (by omega)) (Int.emod_lt_of_pos _ (by omega)) _)⟩
 rw[List.filter_eq_self.mpr (λ_ _=>rfl)] at q;obtain⟨s,hs,ej⟩:=CF (h:=h1++ .lst ((List.range z).map λ(b:Nat)=>D.str ⟨#[tW ((Row.R row 3+(b:Int)*Row.R row 4)%26)]⟩)::gb) (n:=h1.length) (λ(b:Nat)=>tW ((Row.R row 3+(b:Int)*Row.R row 4)%26)) (m:=z) (by omega) (cM ..);have sl:s.length=z:=by show s.cps.size=z;rw[<- Array.length_toList,hs,Zc,List.length_range]
 have sc:∀x∈s.cps.toList,x∈abc.cps.toList:=λx hx=>by
  rw[hs] at hx;obtain⟨b,_,rfl⟩:=List.mem_map.mp hx;exact xJ (Int.emod_nonneg _ (by omega)) (Int.emod_lt_of_pos _ (by omega))
 generalize hg2:h1++O.lst ((List.range z).map λ(b:Nat)=>D.str ⟨#[tW ((Row.R row 3+(b:Int)*Row.R row 4)%26)]⟩)::gb=h2 at q ej;have kp2:Kp h0 h2:=by rw[<- hg2];exact kp1.trans (Kp.app _ _)
 have hl2:h2[p]? =some (.lst (l.map D.str)):=by rw[<- hg2];exact Kp.app _ _ _ _ (k1 _ _ hl)
 rw[aK (r':=eN dr p k c z s) (h':=h2) (bC (by rw[OX,q,aD,ej]))];have c2:ev G cl (.cmp .eq (.bin .mod (.bin .fdiv (.ix (.var 0) (.int 4)) (.int 2)) (.int 2)) (.int 1)) (eN dr p k c z s) h2=.ok (.bl (decide (Row.R row 4/2%2=1))) h2:=bK (aQ (aQ (bB rfl (aF _ _ _ _ 4) (Q.ix kp2 4 (by omega))) (aF ..) (oU _ (by omega) (by omega))) (aF ..) (bY _ (by omega))) (aF ..) (rE ..);have ol:(⟨#[c]⟩:Str).length=1:=rfl
 have fin:∀w:Str,w.length=z+1->(∀x∈w.cps.toList,x∈abc.cps.toList)->(∃A B:Ss,bO G cl W (t1 (.iff (.cmp .eq (.bin .mod (.bin .fdiv (.ix (.var 0) (.int 4)) (.int 2)) (.int 2)) (.int 1)) A B)) (eN dr p k c z s) h2=.ok (.nx (eN dr p k c z s)) (h2.set p (.lst (l.map D.str++ [.str w]))))->Kp h0 (h2.set p (.lst (l.map D.str++ [.str w])))/\(h2.set p (.lst (l.map D.str++ [.str w])))[p]? =some (.lst ((l++ [w]).map D.str))/\NmOk w:=λw hw hwc _=>
  ⟨kp2.set _ hp,by rw[gF hl2,List.map_append];rfl,TR (by omega) (by omega) hwc⟩
 have cc:∀x∈(⟨#[c]⟩:Str).cps.toList,x∈abc.cps.toList:=λx hx=>by
  have:x=c:=by simpa using hx
  rw[this];exact hc
 by_cases hc3:Row.R row 4/2%2=1
 ·rw[decide_eq_true hc3] at c2
  have e:bO G cl W (t1 (.iff (.cmp .eq (.bin .mod (.bin .fdiv (.ix (.var 0) (.int 4)) (.int 2)) (.int 2)) (.int 1)) (t1 (.ex (.app (.var 2) (.bin .add (.var 4) (.var 6))))) (t1 (.ex (.app (.var 2) (.bin .add (.var 6) (.var 4))))))) (eN dr p k c z s) h2=.ok (.nx (eN dr p k c z s)) (h2.set p (.lst (l.map D.str++ [.str (⟨#[c]⟩++s)]))):=by
   rw[aK (by rw[dB c2,aK (wW rfl (aQ (aY rfl) (aY rfl) (LG _ (by rw[ol,sl];omega))) hl2 (by rw[Zc];omega)),aV]),aV]
  obtain⟨f1,f2,f3⟩:=fin (⟨#[c]⟩++s) (by rw[rZ,ol,sl];omega) (λx hx=>by rw[jQ] at hx;rcases List.mem_append.mp hx with h|h;exact cc x h;exact sc x h) ⟨_,_,e⟩;exact⟨_,_,_,_,_,e,f1,f2,f3,by unfold GR;rw[if_pos hc3,jQ];rfl⟩
 ·rw[decide_eq_false hc3] at c2
  have e:bO G cl W (t1 (.iff (.cmp .eq (.bin .mod (.bin .fdiv (.ix (.var 0) (.int 4)) (.int 2)) (.int 2)) (.int 1)) (t1 (.ex (.app (.var 2) (.bin .add (.var 4) (.var 6))))) (t1 (.ex (.app (.var 2) (.bin .add (.var 6) (.var 4))))))) (eN dr p k c z s) h2=.ok (.nx (eN dr p k c z s)) (h2.set p (.lst (l.map D.str++ [.str (s++⟨#[c]⟩)]))):=by
   rw[aK (by rw[cC c2,aK (wW rfl (aQ (aY rfl) (aY rfl) (LG _ (by rw[ol,sl];omega))) hl2 (by rw[Zc];omega)),aV]),aV]
  obtain⟨f1,f2,f3⟩:=fin (s++⟨#[c]⟩) (by rw[rZ,ol,sl]) (λx hx=>by rw[jQ] at hx;rcases List.mem_append.mp hx with h|h;exact sc x h;exact cc x h) ⟨_,_,e⟩;exact⟨_,_,_,_,_,e,f1,f2,f3,by unfold GR;rw[if_neg hc3,jQ];exact List.getLast?_concat ..⟩
def L4(cl:Cl)(f:Nat):Prop:=∀(h:Hh)(dr:Nat)(row:List Int),Row h dr row->row.length=18->∃(h':Hh)(p:Nat)(l:List Str),cl f [.ref dr] h=.ok (.ref p) h'/\Kp h h'/\aJ h' p=some (l.map D.str)/\l.length<=12/\(∀s∈l,NmOk s)/\l.Nodup
theorem NL{h:Hh}{dr:Nat}{row:List Int}(Q:Row h dr row)(hr:row.length=18):
 ∃(h':Hh)(p:Nat)(l:List Str),(bO G cl W nqB [some (.ref dr),none,none,none,none,none,none] h).bind cU=.ok (.ref p) h'/\Kp h h'/\aJ h' p=some (l.map D.str)/\l.length<=12/\(∀s∈l,NmOk s)/\l.Nodup:=by
 have kp0:Kp h (h++ [.lst []]):=Kp.app _ _;obtain⟨u,hu,hv6⟩:=LH (l:= [1,3,5,7,9,11]) (i:=Row.R row 2%6) (Int.emod_nonneg _ (by omega)) (Int.emod_lt_of_pos _ (by decide))
 obtain⟨v,hv,ev1⟩:=CG (G:=G) (cl:=cl) (es:=(.cons (.int 2) (.cons (.int 3) (.cons (.int 3) (.cons (.int 4) (.cons (.int 4) (n5 (.int 5) (.int 6) (.int 7) (.int 12) (.int 1)))))))) (e:=(.bin .mod (.ix (.var 0) (.int 1)) (.int 10))) (l:= [2,3,3,4,4,5,6,7,12,1]) (r:=en dr h.length none none none none) (h:=h++ [.lst []]) (i:=Row.R row 1%10) (xG (l:= [2,3,3,4,4,5,6,7,12,1])) (JR rfl)
  (aQ (bB rfl (aF _ _ _ _ 1) (Q.ix (kp0.trans (Kp.app _ _)) 1 (by omega))) (aF ..) (bY _ (by omega))) (Int.emod_nonneg _ (by omega)) (Int.emod_lt_of_pos _ (by decide))
 have hv':0<v/\v<=12:=by
  simp at hv;omega
 generalize hg:(h++ [O.lst []])++ [O.lst ([2,3,3,4,4,5,6,7,12,1].map D.int)]=h1 at ev1;have kp1:Kp h h1:=by rw[<- hg];exact kp0.trans (Kp.app _ _)
 have hh1:h1[h.length]? =some (.lst (([]:List Str).map D.str)):=by rw[<- hg];exact Kp.app _ _ _ _ (bZ ..)
 have hm:(v.toNat:Int)=v:=Int.toNat_of_nonneg (by omega)
 obtain⟨r',h',el,l,d3,d4,d5,d6,rfl,kp',hp,hl,hN,hO⟩:=kA (t:=.nm 3) (body:=bO G cl W ZC)
  (λk r h'=>∃(l:List Str)(d3 d4 d5 d6:Option D),r=en dr h.length d3 d4 d5 d6/\Kp h h'/\h'[h.length]? =some (.lst (l.map D.str))/\l.length=k/\(∀s∈l,NmOk s)/\∀(i:Nat)(s:Str),l[i]? =some s->GR row s=some (tW (((i:Int)*u+Row.R row 3)%26)))
  (bU 0 v.toNat) 0 (by
    rintro k d hk r h' ⟨l,d3,d4,d5,d6,rfl,kp,hp,hl,hN,hO⟩
    have hlt:k<v.toNat:=by
     have:=(Ze.mp hk).1;rwa [gP] at this
    rw[mW _ _ hlt] at hk;cases hk;obtain⟨h2,s,d4',d5',d6',e,k2,e2,n2,o2⟩:=GX (G:=G) (cl:=cl) (W:=W) Q hr (Zn _) k (by omega) kp hp (by omega) hv6 d4 d5 d6
    exact⟨_,_,_,rfl,e,l++ [s],_,d4',d5',d6',rfl,k2,e2,by simp;omega,λx hx=>by rcases List.mem_append.mp hx with h|h;exact hN x h;exact(List.mem_singleton.mp h) ▸ n2,λi x hx=>by
     rcases Nat.lt_or_ge i l.length with z|z
     ·rw[List.getElem?_append_left z] at hx;exact hO i x hx
     ·rw[List.getElem?_append_right z] at hx
      have z2:i-l.length=0:=by
       have:=(Ze.mp hx).1;simp at this;omega
      rw[z2] at hx;cases hx;rw[show i=k by omega];exact o2⟩)
  (en dr h.length none none none none) h1 ⟨[],none,none,none,none,rfl,kp1,hh1,rfl,λs hs=>(nomatch hs),λi s hs=>(nomatch hs)⟩
 rw[gP] at hl;refine⟨h',h.length,l,?_,kp',dL hp,by omega,hN,?_⟩
 ·rw[aK (r':= [some (.ref dr),some (.str abc),none,none,none,none,none]) (h':=h) (bC (pM ..)),
  aK (r':=en dr h.length none none none none) (h':=h++ [.lst []]) (bC (gY (dD ..) (eR rfl))),
  aK (eB (j:=v) (h1:=h1) ev1 (by rw[<- hm];exact jS (by omega)) (by rw[<- hm];exact el)),bL (bN (aY rfl))]
  rfl
 ·refine List.pairwise_iff_getElem.mpr λi j hi hj hij e=>?_;have a:=hO i _ (Zd hi);have b:=hO j _ (Zd hj);rw[e,b] at a;have:=NC hu (by omega) (by omega) (Zg a);omega
end
@[simp] theorem ne_us:(Str.ofString "unseen"=Str.ofString "star")=False:=eq_false (by decide)
@[simp] theorem ne_su:(Str.ofString "star"=Str.ofString "unseen")=False:=eq_false (by decide)
@[simp] theorem ne_du:(Str.ofString "under"=Str.ofString "unseen")=False:=eq_false (by decide)
@[simp] theorem ne_uu:(Str.ofString "unseen"=Str.ofString "under")=False:=eq_false (by decide)
@[simp] theorem ne_ds:(Str.ofString "under"=Str.ofString "star")=False:=eq_false (by decide)
@[simp] theorem ne_sd:(Str.ofString "star"=Str.ofString "under")=False:=eq_false (by decide)
inductive Sy where
 |un|st (k:Int)|ud (k:Int)
deriving DecidableEq
noncomputable def Sy.d:Sy->D
 |.un=>.tup [.str "unseen",.int 0]
 |.st k=>.tup [.str "star",.int k]
 |.ud k=>.tup [.str "under",.int k]
noncomputable def Sy.w:Sy->Str
 |.un=>"unseen"
 |.st _=>"star"
 |.ud _=>"under"
noncomputable def Sy.n:Sy->Int
 |.un=>0
 |.st k=>k
 |.ud k=>k
noncomputable def Sy.lo:Sy->Int
 |.st k=>k
 |_=>0
noncomputable def Sy.hi:Sy->Int
 |.un=>9
 |.st k=>k
 |.ud k=>k-1
noncomputable def Sy.ok:Sy->Prop
 |.un=>True
 |.st k=>1<=k/\k<=9
 |.ud k=>1<=k/\k<=9
noncomputable def eF(k:Int):List Int:=(List.range (k-0).toNat).map λ(j:Nat)=>0+(j:Int)
theorem jR(k:Int):(eF k).map D.int=bU 0 k:=by
 unfold eF bU;rw[List.map_map];rfl
noncomputable def Sy.left:Sy->List Int
 |.un=>eF 10
 |.st k=>[k]
 |.ud k=>eF k
noncomputable def EW:List Sy:= [.un,.st 1,.st 2,.st 3,.st 4,.st 5,.st 6,.st 7,.st 8,.st 9,.ud 1,.ud 2,.ud 3,.ud 4,.ud 5,.ud 6,.ud 7,.ud 8,.ud 9]
theorem n9{k:Int}(h:1<=k/\k<=9):k=1\/k=2\/k=3\/k=4\/k=5\/k=6\/k=7\/k=8\/k=9:=by omega
theorem Sy.mem{s:Sy}(h:s.ok):s∈EW:=by
 cases s with
 |un=>decide
 |st k=>rcases n9 h with rfl|rfl|rfl|rfl|rfl|rfl|rfl|rfl|rfl<;>decide
 |ud k=>rcases n9 h with rfl|rfl|rfl|rfl|rfl|rfl|rfl|rfl|rfl<;>decide
noncomputable def kM(s:Sy):D:=.tup [.int s.lo,.int s.hi]
noncomputable def QF(ss:List Sy):Int:=ER true 0 (ss.map Sy.lo)
noncomputable def VW(ss:List Sy):Int:=ER false 9 (ss.map Sy.hi)
noncomputable def has(s:Sy)(b:Int):Bool:=s.left.any (·==b)
section
variable {ss:List Sy}(ne:ss≠ [])(ok:∀s∈ss,s.ok)
include ne ok
end
noncomputable def pick(s:Sy)(a b c:D):D:=match s with
 |.st _=>a
 |.ud _=>b
 |.un=>c
noncomputable def QT:Sy->Sy->Bool
 |.st k,.st j=>decide (k=j)
 |.st k,.ud j=>decide (k<j)
 |.ud k,.st j=>decide (j<k)
 |_,_=>true
section
variable {ss:List Sy}(ok:∀s∈ss,s.ok)
include ok
end
theorem vV{S:List cJ}{s0:cJ}(u:S.Pairwise npS)(a:(S.any λs=>decide (s.1=s0.1/\s.2.1=s0.2.1))=false):(S++ [s0]).Pairwise npS:=by
 rw[List.pairwise_append];refine⟨u,List.pairwise_singleton _ _,λx hx y hy=>?_⟩;have ey:y=s0:=by simpa using hy
 subst ey;rw[List.any_eq_false] at a;simpa [npS] using a x hx
structure Hev (S:List cJ):Prop where
 len:S.length<=8
 up:S.Pairwise npS
 br:∀s∈S,1<=s.2.2/\s.2.2<=9
section
variable {G:Gs}{cl:Cl}{W:Nat}
theorem UG(s:cJ)(h:Hh):jA (s3 s) (.int 0) h=.ok (.int s.1) h/\jA (s3 s) (.int 1) h=.ok (.int s.2.1) h:=⟨rfl,rfl⟩
theorem OY{a:E}{b:Bool}{r:Ev}{h h':Hh}(ha:ev G cl a r h=.ok (.bl b) h'):ev G cl (.blt .int (.cons a .nil)) r h=.ok (.int (if b then 1 else 0)) h':=kF (cE ha) (WD ..)
theorem AF{a b c:E}{i j:Int}{q:Bool}{r:Ev}{h:Hh}(ha:ev G cl a r h=.ok (.int i) h)(hb:ev G cl b r h=.ok (.int j) h)(hc:∀h',Kp h h'->ev G cl c r h'=.ok (.bl q) h'):∃v h',(v=i\/v=j)/\Kp h h'/\ev G cl (.ix (.lst (.cons a (.cons b .nil))) (.blt .int (.cons c .nil))) r h=.ok (.int v) h':=by
 obtain⟨v,hv,e⟩:=CG (G:=G) (cl:=cl) (es:=.cons a (.cons b .nil)) (e:=.blt .int (.cons c .nil)) (l:= [i,j]) (r:=r) (h:=h) (i:=if q then 1 else 0) (fS ha hb) (Nat.le_trans (Nat.le_of_ble_eq_true (m:=8) rfl) (by decide)) (OY (hc _ (Kp.app _ _))) (by cases q<;>decide) (by cases q<;>(show(_:Int)<(2:Nat);decide));exact⟨v,_,by simpa using hv,Kp.app _ _,e⟩
noncomputable def eh(k:Nat)(p:Nat)(d3 d4 d5 d6:Option D):Ev:= [some (.ref 0),some (.ref k),some (.ref p),d3,d4,d5,d6]
noncomputable abbrev XB(j:Int):E:=(.bin .sub (.bin .mod (.ix (.var 1) (.bin .add (.bin .mul (.int 3) (.var 3)) (.int j))) (.int 9)) (.int 4))
noncomputable abbrev hvZ:E:=(.ix (.lst (n2 (.bin .add (.int 1) (.bin .mod (.ix (.var 1) (.bin .add (.bin .mul (.int 3) (.var 3)) (.int 3))) (.int 9))) (.bin .add (.int 8) (.bin .mod (.ix (.var 1) (.bin .add (.bin .mul (.int 3) (.var 3)) (.int 3))) (.int 2))))) (.blt .int (n1 (.cmp .eq (.bin .mod (.bin .fdiv (.ix (.var 1) (.int 0)) (.int 9)) (.int 3)) (.int 1)))))
noncomputable abbrev A3:Ss:=(t4 (.asg (.nm 4) (XB 1)) (.asg (.nm 5) (XB 2)) (.asg (.nm 6) hvZ) (.iff (.cmp .notin (.tup (n2 (.var 4) (.var 5))) (.comp (.nm 0) .sq (n1 (.var 2)) .nil (.tup (n2 (.ix (.var 0) (.int 0)) (.ix (.var 0) (.int 1)))) ["_law_star"] [])) (t1 (.ex (.app (.var 2) (.tup (n3 (.var 4) (.var 5) (.var 6)))))) .nil))
noncomputable abbrev hvB:Ss:=(t4 (.asg (.nm 1) (.call 16 (n3 (.var 0) (.int 1) (.int 25)))) (.asg (.nm 2) (.lst .nil)) (.forr (.nm 3) (.r1 (.bin .mod (.ix (.var 1) (.int 0)) (.int 9))) A3) (.ret (.var 2)))
theorem HQ{hb h:Hh}{k p:Nat}{row:List Int}(Q:Row hb k row)(hr:row.length=25)(hp:hb.length<=p)(kp:Kp hb h){S:List cJ}(g:Hev S)(hS:S.length<8)(hs:h[p]? =some (.lst (S.map s3)))(j:Nat)(hj:j<8)(d4 d5 d6:Option D):
 ∃h' S' d4' d5' d6',bO G cl W A3 (eh k p (some (.int j)) d4 d5 d6) h=.ok (.nx (eh k p (some (.int j)) d4' d5' d6')) h'/\Kp hb h'/\h'[p]? =some (.lst (S'.map s3))/\S'.length<=S.length+1/\Hev S':=by
 have ix:∀(a:Nat)(d4 d5 d6:Option D)(h':Hh),Kp hb h'->a<=3->ev G cl (.ix (.var 1) (.bin .add (.bin .mul (.int 3) (.var 3)) (.int (a:Int)))) (eh k p (some (.int j)) d4 d5 d6) h'=.ok (.int (Row.R row (3*j+a))) h':=λa d4 d5 d6 h' kq ha=>by
  have m3:bX .mul (.int 3) (.int j) h'=.ok (.int ((3*j:Nat):Int)) h':=by rw[gM h' (by omega) (by omega)];push_cast;rfl
  exact bB rfl (aQ (aQ (aF ..) (aY rfl) m3) (aF ..) (fV ..)) (by have:=Q.ix kq (3*j+a) (by omega);rwa [Int.natCast_add] at this)
 have e4:ev G cl (XB 1) (eh k p (some (.int j)) d4 d5 d6) h=.ok (.int (Row.R row (3*j+1)%9-4)) h:=aQ (aQ (ix 1 _ _ _ _ kp (by omega)) (aF ..) (bY _ (by omega))) (aF ..) (zT ..);generalize Row.R row (3*j+1)%9-4=x at e4;have e5:ev G cl (XB 2) (eh k p (some (.int j)) (some (.int x)) d5 d6) h=.ok (.int (Row.R row (3*j+2)%9-4)) h:=aQ (aQ (ix 2 _ _ _ _ kp (by omega)) (aF ..) (bY _ (by omega))) (aF ..) (zT ..);generalize Row.R row (3*j+2)%9-4=y at e5;have b0:(0:Int)<=Row.R row (3*j+3)%9:=Int.emod_nonneg _ (by omega);have b1:Row.R row (3*j+3)%9<9:=Int.emod_lt_of_pos _ (by omega);have c0:(0:Int)<=Row.R row (3*j+3)%2:=Int.emod_nonneg _ (by omega);have c1:Row.R row (3*j+3)%2<2:=Int.emod_lt_of_pos _ (by omega)
 obtain⟨z,h1,hz,k1,e6⟩:=AF (G:=G) (cl:=cl) (a:=.bin .add (.int 1) (.bin .mod (.ix (.var 1) (.bin .add (.bin .mul (.int 3) (.var 3)) (.int 3))) (.int 9))) (b:=.bin .add (.int 8) (.bin .mod (.ix (.var 1) (.bin .add (.bin .mul (.int 3) (.var 3)) (.int 3))) (.int 2))) (c:=.cmp .eq (.bin .mod (.bin .fdiv (.ix (.var 1) (.int 0)) (.int 9)) (.int 3)) (.int 1)) (r:=eh k p (some (.int j)) (some (.int x)) (some (.int y)) d6) (h:=h)
  (aQ (aF ..) (aQ (ix 3 _ _ _ _ kp (by omega)) (aF ..) (bY _ (by omega))) (fV ..)) (aQ (aF ..) (aQ (ix 3 _ _ _ _ kp (by omega)) (aF ..) (bY _ (by omega))) (fV ..)) (λh' kq=>bK (aQ (aQ (bB rfl (aF _ _ _ _ 0) (Q.ix (kp.trans kq) 0 (by omega))) (aF ..) (oU _ (by omega) (by omega))) (aF ..) (bY _ (by omega))) (aF ..) (rE ..))
 have zb:1<=z/\z<=9:=by omega
 have hs1:=k1 _ _ hs;have kp1:=kp.trans k1
 obtain⟨gb,q⟩:=kD (G:=G) (cl:=cl) (t:=.nm 0) (it:=.cons (.var 2) .nil) (e:=.tup (n2 (.ix (.var 0) (.int 0)) (.ix (.var 0) (.int 1)))) (N:= ["_law_star"]) (cap:= []) (r:=eh k p (some (.int j)) (some (.int x)) (some (.int y)) (some (.int z))) (h:=h1) (h1:=h1) (l:=S) s3 (λr=>∃d,r=[d]) rJ (cE (aY rfl)) (dL hs1) (by omega) ⟨_,rfl⟩
  (by
    rintro s _ r h ⟨d,rfl⟩;exact⟨[some (s3 s)],rfl,⟨_,rfl⟩,cG (bB (x:=s3 s) rfl (aF ..) (UG s h).1) (bB (x:=s3 s) rfl (aF ..) (UG s h).2)⟩)
 have c:ev G cl (.cmp .notin (.tup (n2 (.var 4) (.var 5))) (.comp (.nm 0) .sq (n1 (.var 2)) .nil (.tup (n2 (.ix (.var 0) (.int 0)) (.ix (.var 0) (.int 1)))) ["_law_star"] [])) (eh k p (some (.int j)) (some (.int x)) (some (.int y)) (some (.int z))) h1=.ok (.bl (!(S.any λs=>decide (s.1=x/\s.2.1=y)))) (h1++ .lst (S.map rJ)::gb):=
  bK (cG (aY rfl) (aY rfl)) q (QJ _ _ (cM ..))
 have hs':(h1++ .lst (S.map rJ)::gb)[p]? =some (.lst (S.map s3)):=Kp.app _ _ _ _ hs1;have kp':Kp hb (h1++ .lst (S.map rJ)::gb):=kp1.trans (Kp.app _ _);rw[aK (r':=eh k p (some (.int j)) (some (.int x)) d5 d6) (h':=h) (bC e4),aK (r':=eh k p (some (.int j)) (some (.int x)) (some (.int y)) d6) (h':=h) (bC e5),aK (r':=eh k p (some (.int j)) (some (.int x)) (some (.int y)) (some (.int z))) (h':=h1) (bC e6)];generalize hH:h1++O.lst (S.map rJ)::gb=H at q c hs' kp';cases hany:(S.any λs=>decide (s.1=x/\s.2.1=y)) with
 |true=>
  rw[hany] at c;exact⟨H,S,_,_,_,by rw[aK (by rw[cC c,aV]),aV],kp',hs',by omega,g⟩
 |false=>
  rw[hany] at c;have ap:xs G cl W (.ex (.app (.var 2) (.tup (n3 (.var 4) (.var 5) (.var 6))))) (eh k p (some (.int j)) (some (.int x)) (some (.int y)) (some (.int z))) H=.ok (.nx (eh k p (some (.int j)) (some (.int x)) (some (.int y)) (some (.int z)))) (H.set p (.lst (S.map s3++ [s3 (x,y,z)]))):=wW rfl (jE (lB (aY rfl) (aY rfl) (aY rfl)) (eR rfl)) hs' (by rw[Zc];omega);refine⟨H.set p (.lst (S.map s3++ [s3 (x,y,z)])),S++ [(x,y,z)],_,_,_,by rw[aK (by rw[dB c,aK ap,aV]),aV],kp'.set _ hp,by rw[gF hs',List.map_append];rfl,by simp,⟨by simp;omega,vV g.up hany,λs hs=>?_⟩⟩;rcases List.mem_append.mp hs with h|h
  ·exact g.br s h
  ·have ey:s=(x,y,z):=by simpa using h
   subst ey;exact zb
def M0(cl:Cl)(f:Nat)(ns:List Int):Prop:=∀h:Hh,aJ h 0=some (ns.map D.int)->∃h' p S,cl f [.ref 0] h=.ok (.ref p) h'/\Kp h h'/\aJ h' p=some (S.map s3)/\Hev S
theorem ON{ns:List Int}(hd:RT cl 16 ns){h:Hh}(h00:aJ h 0=some (ns.map D.int)):∃h' p S,(bO G cl W hvB [some (.ref 0),none,none,none,none,none,none] h).bind cU=.ok (.ref p) h'/\Kp h h'/\aJ h' p=some (S.map s3)/\Hev S:=by
 obtain⟨row,hr,ir,q1⟩:=hd 1 25 h (by omega) (by omega) (by omega) h00;have Q:Row (h++ [.lst (row.map D.int)]) h.length row:=⟨aU ..,ir⟩;have k0:Kp h (h++ [.lst (row.map D.int)]):=Kp.app _ _;generalize h++ [O.lst (row.map D.int)]=hb at q1 Q k0;have m0:(0:Int)<=Row.R row 0%9:=Int.emod_nonneg _ (by omega);have m1:Row.R row 0%9<9:=Int.emod_lt_of_pos _ (by omega);have hm:((Row.R row 0%9).toNat:Int)=Row.R row 0%9:=Int.toNat_of_nonneg m0
 obtain⟨r',h',e,S,d3,d4,d5,d6,er,kp,hs,_,g⟩:=kA (t:=.nm 3) (body:=bO G cl W A3) (λj r h'=>∃(S:List cJ)(d3 d4 d5 d6:Option D),r=eh h.length hb.length d3 d4 d5 d6/\Kp hb h'/\h'[hb.length]? =some (.lst (S.map s3))/\S.length<=j/\Hev S)
  (bU 0 (Row.R row 0%9).toNat) 0 (λj d hd r h' ⟨S,d3,d4,d5,d6,er,kp,hs,hl,g⟩=>by
    subst er
    have hj:j<(Row.R row 0%9).toNat:=by
     have:=(Ze.mp hd).1;rwa [gP] at this
    rw[mW _ _ hj] at hd;cases hd;obtain⟨h',S',d4',d5',d6',q1,q2,q3,q4,q5⟩:=HQ (G:=G) (cl:=cl) (W:=W) Q hr (Zn _) kp g (by omega) hs j (by omega) d4 d5 d6;exact⟨_,_,h',rfl,q1,S',_,_,_,_,rfl,q2,q3,by omega,q5⟩)
  (eh h.length hb.length none none none none) (hb++ [.lst []]) ⟨[],_,_,_,_,rfl,Kp.app _ _,bZ ..,Zn _,⟨Nat.zero_le _,.nil,λs hs=>nomatch hs⟩⟩
 subst er;refine⟨h',hb.length,S,?_,k0.trans kp,dL hs,g⟩
 rw[aK (r':= [some (.ref 0),some (.ref h.length),none,none,none,none,none]) (h':=hb) (bC (cI (lB (aY rfl) (aF ..) (aF ..)) q1)),
  aK (r':=eh h.length hb.length none none none none) (h':=hb++ [.lst []]) (bC (gY (dD ..) (eR rfl))),
  aK (eB (j:=Row.R row 0%9) (h1:=hb++ [.lst []]) (aQ (bB rfl (aF _ _ _ _ 0) (Q.ix (Kp.app _ _) 0 (by omega))) (aF ..) (bY _ (by omega))) (by rw[<- hm];exact jS (by omega)) (by rw[<- hm];exact e)),bL (bN (aY rfl))]
 rfl
end
theorem JH{m:M3}(hm:iJ m){x y:Int×Int}(e:qA (bk m) x=qA (bk m) y):x=y:=by
 rw[<- xS hm x,e,xS hm y]
noncomputable def OV(m:M3)(s:cJ):cJ:=((qA (bk m) (s.1,s.2.1)).1,(qA (bk m) (s.1,s.2.1)).2,s.2.2)
theorem OU{m:M3}(hm:iJ m){a b:cJ}(h:npS a b):npS (OV m a) (OV m b):=λ⟨e1,e2⟩=>by
 have e:qA (bk m) (a.1,a.2.1)=qA (bk m) (b.1,b.2.1):=Prod.ext e1 e2;have:=JH hm e;exact h ⟨(Prod.mk.inj this).1,(Prod.mk.inj this).2⟩
structure StIn (w t l:Int)(S:List cJ):Prop where
 up:S.Pairwise npS
 st:∀s∈S,tV w t s.1 s.2.1=true/\l<=s.2.2/\s.2.2<=9
theorem npS.symm{a b:cJ}(h:npS a b):npS b a:=λ⟨e1,e2⟩=>h ⟨e1.symm,e2.symm⟩
theorem Good.perm{w t l:Int}{S U:List cJ}(hw:1<=w/\w<=8)(ht:1<=t/\t<=8)(hl:1<=l/\l<=9)(g:StIn w t l S)(hn:S.length<=8)(p:U.Perm S):Good w t l U:=
 ⟨hw,ht,hl,by rw[p.length_eq];exact hn,(p.pairwise_iff (λh=>npS.symm h)).mpr g.up,λs hs=>g.st s (p.mem_iff.mp hs)⟩
noncomputable def fF(nm:Str)(w t l:Int)(U:List cJ):D:=.tup [.str nm,.int w,.int t,.int l,.tup (U.map s3)]
section
variable {G:Gs}{cl:Cl}{W:Nat}
def XL(cl:Cl)(f:Nat):Prop:=∀(m:M3)(x:Int×Int)(h:Hh),iJ m->∃g,cl f [mo m,pl x] h=.ok (pl (qA m x)) (h++g)
def QX(cl:Cl)(f:Nat):Prop:=∀(m:M3)(h:Hh),iJ m->∃g,cl f [mo m] h=.ok (mo (bk m)) (h++g)
noncomputable def lC(nm:Str)(m:M3)(hp dr:Nat)(d4 d5 d6 d7 d8 d9 d10 d11 d12 d13:Option D):Ev:= [some (.str nm),some (mo m),some (.ref hp),some (.ref dr),d4,d5,d6,d7,d8,d9,d10,d11,d12,d13]
noncomputable abbrev WU(i a b c e f:Int):E:=(.ix (.lst (n2 (.bin .add (.int 1) (.bin .mod (.ix (.var 3) (.int i)) (.int a))) (.bin .add (.int 1) (.bin .mod (.bin .fdiv (.ix (.var 3) (.int i)) (.int b)) (.int c))))) (.blt .int (n1 (.cmp .eq (.bin .mod (.bin .fdiv (.ix (.var 3) (.int i)) (.int e)) (.int f)) (.int 0)))))
noncomputable abbrev paC:E:=(.and (.cmp .le (.int 0) (.var 11)) (.and (.cmp .lt (.var 11) (.var 4)) (.and (.cmp .le (.int 0) (.var 12)) (.and (.cmp .lt (.var 12) (.var 5)) (.cmp .ge (.var 10) (.var 6))))))
noncomputable abbrev ZB:Ss:=(t2 (.asg (.tp [11,12]) (.call 19 (n2 (.call 21 (n1 (.var 1))) (.tup (n2 (.var 8) (.var 9)))))) (.iff paC (t1 (.ex (.app (.var 7) (.tup (n3 (.var 11) (.var 12) (.var 10)))))) .nil))
noncomputable abbrev paO:E:=(.tup (n3 (.bin .mod (.ix (.var 3) (.int 10)) (.var 4)) (.bin .mod (.ix (.var 3) (.int 11)) (.var 5)) (.bin .add (.var 6) (.bin .mod (.bin .fdiv (.ix (.var 3) (.int 10)) (.int 8)) (.bin .sub (.int 10) (.var 6))))))
noncomputable abbrev paK:E:=(.comp (.nm 0) .sq (n1 (.var 7)) (n1 (.cmp .ne (.slT (.var 0) (.int 2)) (.slT (.var 1) (.int 2)))) (.var 0) ["_law_star","_law_odd"] [13])
noncomputable abbrev paI:S:=(.iff (.cmp .eq (.bin .mod (.ix (.var 3) (.int 3)) (.int 6)) (.int 1)) (t2 (.asg (.nm 13) paO) (.asg (.nm 7) (.bin .add paK (.lst (n1 (.var 13)))))) .nil)
noncomputable abbrev paR:E:=(.tup (n5 (.var 0) (.var 4) (.var 5) (.var 6) (.blt .tup (n1 (.blt .sorted (n1 (.slL (.var 7) (.neg (.int 8)))))))))
noncomputable abbrev paB:Ss:=(.cons (.asg (.nm 4) (WU 4 4 24 8 4 6)) (.cons (.asg (.nm 5) (WU 5 4 24 8 4 6)) (t5 (.asg (.nm 6) (WU 6 3 12 9 3 4)) (.asg (.nm 7) (.lst .nil)) (.forr (.tp [8,9,10]) (.sq (.var 2)) ZB) paI (.ret paR))))
theorem uN{hb h:Hh}{nm:Str}{m:M3}{hp dr:Nat}{row:List Int}(Q:Row hb dr row)(kp:Kp hb h)(i:Nat)(hi:i<row.length)(a b c e f M:Int)(ha:0<a/\a<=M)(hbb:0<b/\b<1000)(hc:0<c/\c<=M)(he:0<e/\e<1000)(hf:0<f)(d4 d5 d6 d7 d8 d9 d10 d11 d12 d13:Option D):
 ∃v h',(1<=v/\v<=M)/\Kp h h'/\ev G cl (WU i a b c e f) (lC nm m hp dr d4 d5 d6 d7 d8 d9 d10 d11 d12 d13) h=.ok (.int v) h':=by
 have ix:∀h',Kp hb h'->ev G cl (.ix (.var 3) (.int i)) (lC nm m hp dr d4 d5 d6 d7 d8 d9 d10 d11 d12 d13) h'=.ok (.int (Row.R row i)) h':=λh' kq=>bB rfl (aF ..) (Q.ix kq i hi)
 obtain⟨v,h',hv,k',ev'⟩:=AF (G:=G) (cl:=cl) (a:=.bin .add (.int 1) (.bin .mod (.ix (.var 3) (.int i)) (.int a))) (b:=.bin .add (.int 1) (.bin .mod (.bin .fdiv (.ix (.var 3) (.int i)) (.int b)) (.int c))) (c:=.cmp .eq (.bin .mod (.bin .fdiv (.ix (.var 3) (.int i)) (.int e)) (.int f)) (.int 0)) (r:=lC nm m hp dr d4 d5 d6 d7 d8 d9 d10 d11 d12 d13) (h:=h)
  (aQ (aF ..) (aQ (ix h kp) (aF ..) (bY _ ha.1)) (fV ..)) (aQ (aF ..) (aQ (aQ (ix h kp) (aF ..) (oU _ hbb.1 (by omega))) (aF ..) (bY _ hc.1)) (fV ..)) (λh' kq=>bK (aQ (aQ (ix _ (kp.trans kq)) (aF ..) (oU _ he.1 (by omega))) (aF ..) (bY _ hf)) (aF ..) (rE ..))
 have p1:=Int.emod_nonneg (Row.R row i) (show a≠0 by omega);have p2:=Int.emod_lt_of_pos (Row.R row i) ha.1;have p3:=Int.emod_nonneg (Row.R row i/b) (show c≠0 by omega);have p4:=Int.emod_lt_of_pos (Row.R row i/b) hc.1;exact⟨v,h',by omega,k',ev'⟩
theorem GP(h15:XL cl 19)(h17:QX cl 21){hb h:Hh}{nm:Str}{m:M3}(hm:iJ m){hp dr p:Nat}(hpb:hb.length<=p)(kp:Kp hb h){w t l:Int}{T:List cJ}(hT:T.length<=100)(hs:h[p]? =some (.lst (T.map s3)))(s:cJ)(hb9:s.2.2<=9)(d11 d12:Option D)(g:StIn w t l T)(hn:∀a∈T,npS a (OV m s)):
 ∃h' T' a b,bO G cl W ZB (lC nm m hp dr (some (.int w)) (some (.int t)) (some (.int l)) (some (.ref p)) (some (.int s.1)) (some (.int s.2.1)) (some (.int s.2.2)) d11 d12 none) h=.ok (.nx (lC nm m hp dr (some (.int w)) (some (.int t)) (some (.int l)) (some (.ref p)) (some (.int s.1)) (some (.int s.2.1)) (some (.int s.2.2)) a b none)) h'/\Kp hb h'/\h'[p]? =some (.lst (T'.map s3))/\StIn w t l T'/\(T'=T\/T'=T++ [OV m s]):=by
 obtain⟨g1,e1⟩:=h17 m h hm;obtain⟨g2,e2⟩:=h15 (bk m) (s.1,s.2.1) (h++g1) (F6 hm);have kq:Kp hb (h++g1++g2):=(kp.trans (Kp.app _ _)).trans (Kp.app _ _);have hs':(h++g1++g2)[p]? =some (.lst (T.map s3)):=Kp.app _ _ _ _ (Kp.app _ _ _ _ hs);generalize hH:h++g1++g2=H at e2 kq hs';obtain⟨X,Y,hXY⟩:∃X Y,qA (bk m) (s.1,s.2.1)=(X,Y):=⟨_,_,rfl⟩;have hf:OV m s=(X,Y,s.2.2):=by unfold OV;rw[hXY]
 rw[hXY] at e2
 have a1:xs G cl W (.asg (.tp [11,12]) (.call 19 (n2 (.call 21 (n1 (.var 1))) (.tup (n2 (.var 8) (.var 9)))))) (lC nm m hp dr (some (.int w)) (some (.int t)) (some (.int l)) (some (.ref p)) (some (.int s.1)) (some (.int s.2.1)) (some (.int s.2.2)) d11 d12 none) h=.ok (.nx (lC nm m hp dr (some (.int w)) (some (.int t)) (some (.int l)) (some (.ref p)) (some (.int s.1)) (some (.int s.2.1)) (some (.int s.2.2)) (some (.int X)) (some (.int Y)) none)) H:=by
  rw[fE,cI (fS (cI (cE (aY (x:=mo m) rfl)) e1) (cG (x:=.int s.1) (y:=.int s.2.1) (aY rfl) (aY rfl))) e2];rfl
 rw[aK a1]
 have c:ev G cl paC (lC nm m hp dr (some (.int w)) (some (.int t)) (some (.int l)) (some (.ref p)) (some (.int s.1)) (some (.int s.2.1)) (some (.int s.2.2)) (some (.int X)) (some (.int Y)) none) H=.ok (.bl (decide (0<=X)&&(decide (X<w)&&(decide (0<=Y)&&(decide (Y<t)&&decide (l<=s.2.2)))))) H:=
  eG (bK (aF ..) (aY rfl) (tP ..)) (eG (bK (aY rfl) (aY rfl) (LD ..)) (eG (bK (aF ..) (aY rfl) (tP ..)) (eG (bK (aY rfl) (aY rfl) (LD ..)) (bK (aY rfl) (aY rfl) (E8 ..)))))
 cases hc:(decide (0<=X)&&(decide (X<w)&&(decide (0<=Y)&&(decide (Y<t)&&decide (l<=s.2.2))))) with
 |false=>
  rw[hc] at c;exact⟨H,T,_,_,by rw[aK (by rw[cC c,aV]),aV],kq,hs',g,.inl rfl⟩
 |true=>
  rw[hc] at c;simp only[Bool.and_eq_true,decide_eq_true_eq] at hc;have ap:xs G cl W (.ex (.app (.var 7) (.tup (n3 (.var 11) (.var 12) (.var 10))))) (lC nm m hp dr (some (.int w)) (some (.int t)) (some (.int l)) (some (.ref p)) (some (.int s.1)) (some (.int s.2.1)) (some (.int s.2.2)) (some (.int X)) (some (.int Y)) none) H=.ok (.nx _) (H.set p (.lst (T.map s3++ [s3 (X,Y,s.2.2)]))):=wW rfl (jE (lB (aY rfl) (aY rfl) (aY rfl)) (eR rfl)) hs' (by rw[Zc];omega);rw[hf] at hn;refine⟨H.set p (.lst (T.map s3++ [s3 (X,Y,s.2.2)])),T++ [(X,Y,s.2.2)],_,_,by rw[aK (by rw[dB c,aK ap,aV]),aV],kq.set _ hpb,by rw[gF hs',List.map_append];rfl,⟨?_,λa ha=>?_⟩,.inr (by rw[hf])⟩
  ·rw[List.pairwise_append];exact⟨g.up,List.pairwise_singleton _ _,λx hx y hy=>by rw[List.mem_singleton.mp hy];exact hn x hx⟩
  ·rcases List.mem_append.mp ha with z|z
   ·exact g.st a z
   ·rw[List.mem_singleton.mp z];refine⟨?_,hc.2.2.2.2,hb9⟩
    show((decide (0<=X)&&decide (X<w))&&(decide (0<=Y)&&decide (Y<t)))=true
    rw[decide_eq_true hc.1,decide_eq_true hc.2.1,decide_eq_true hc.2.2.1,decide_eq_true hc.2.2.2.1];rfl
theorem VY{h:Hh}{n k:Nat}{a b:List D}(ea:h[n]? =some (.lst a))(eb:h[k]? =some (.lst b))(hl:a.length+b.length<=1000):bX .add (.ref n) (.ref k) h=.ok (.ref h.length) (h++ [.lst (a++b)]):=by
 show(match h[n]?,h[k]? with|some (.lst a),some (.lst b)=>if a.length+b.length<=1000 then Rs.ok (D.ref h.length) (h++ [O.lst (a++b)]) else .bad|_,_=>.bad)=_
 rw[ea,eb]
 show(if _ then _ else _)=_
 rw[if_pos hl]
theorem DG{op:Bop}{a b:E}{x y d:D}{r:Ev}{h h1 h2 h3:Hh}(ha:ev G cl a r h=.ok x h1)(hb:ev G cl b r h1=.ok y h2)(hd:bX op x y h2=.ok d h3):ev G cl (.bin op a b) r h=.ok d h3:=by
 rw[iP,ha]
 show(ev G cl b r h1).bind _=_
 rw[hb];exact hd
theorem VZ(a b:cJ)(h:Hh):cH .ne (rJ a) (rJ b) h=.ok (.bl (!decide (a.1=b.1/\a.2.1=b.2.1))) h:=by
 unfold rJ;rw[E7];simp only[HZ,PD,PH,Bool.and_true,Bool.decide_and]
theorem NB{hb h:Hh}{nm:Str}{m:M3}{hp dr p:Nat}{row:List Int}(Q:Row hb dr row)(hr:row.length=12)(kp:Kp hb h){w t l:Int}(hw:1<=w/\w<=8)(ht:1<=t/\t<=8)(hl:1<=l/\l<=9){T:List cJ}(hT:T.length<=100)(hs:h[p]? =some (.lst (T.map s3)))(g:StIn w t l T)(d8 d9 d10 d11 d12:Option D):
 ∃h' p' T' d13,xs G cl W paI (lC nm m hp dr (some (.int w)) (some (.int t)) (some (.int l)) (some (.ref p)) d8 d9 d10 d11 d12 none) h=.ok (.nx (lC nm m hp dr (some (.int w)) (some (.int t)) (some (.int l)) (some (.ref p')) d8 d9 d10 d11 d12 d13)) h'/\Kp hb h'/\aJ h' p'=some (T'.map s3)/\StIn w t l T'/\T'.length<=101:=by
 have c:ev G cl (.cmp .eq (.bin .mod (.ix (.var 3) (.int 3)) (.int 6)) (.int 1)) (lC nm m hp dr (some (.int w)) (some (.int t)) (some (.int l)) (some (.ref p)) d8 d9 d10 d11 d12 none) h=.ok (.bl (decide (Row.R row 3%6=1))) h:=bK (aQ (bB rfl (aF _ _ _ _ 3) (Q.ix kp 3 (by omega))) (aF ..) (bY _ (by omega))) (aF ..) (rE ..)
 by_cases hc:Row.R row 3%6=1
 ·rw[decide_eq_true hc] at c
  have eo:ev G cl paO (lC nm m hp dr (some (.int w)) (some (.int t)) (some (.int l)) (some (.ref p)) d8 d9 d10 d11 d12 none) h=.ok (s3 (Row.R row 10%w,Row.R row 11%t,l+Row.R row 10/8%(10-l))) h:=
   jE (lB (aQ (bB rfl (aF _ _ _ _ 10) (Q.ix kp 10 (by omega))) (aY rfl) (bY _ (by omega))) (aQ (bB rfl (aF _ _ _ _ 11) (Q.ix kp 11 (by omega))) (aY rfl) (bY _ (by omega))) (aQ (aY rfl) (aQ (aQ (bB rfl (aF _ _ _ _ 10) (Q.ix kp 10 (by omega))) (aF ..) (oU _ (by omega) (by omega))) (aQ (aF ..) (aY rfl) (zT ..)) (bY _ (by omega))) (fV ..))) (eR rfl)
  have go:tV w t (Row.R row 10%w) (Row.R row 11%t)=true/\l<=l+Row.R row 10/8%(10-l)/\l+Row.R row 10/8%(10-l)<=9:=by
   have p1:=Int.emod_nonneg (Row.R row 10) (show w≠0 by omega);have p2:=Int.emod_lt_of_pos (Row.R row 10) (show 0<w by omega);have p3:=Int.emod_nonneg (Row.R row 11) (show t≠0 by omega);have p4:=Int.emod_lt_of_pos (Row.R row 11) (show 0<t by omega);have p5:=Int.emod_nonneg (Row.R row 10/8) (show 10-l≠0 by omega);have p6:=Int.emod_lt_of_pos (Row.R row 10/8) (show 0<10-l by omega);refine⟨?_,by omega,by omega⟩;unfold tV;rw[decide_eq_true p1,decide_eq_true p2,decide_eq_true p3,decide_eq_true p4];rfl
  generalize hod:((Row.R row 10%w,Row.R row 11%t,l+Row.R row 10/8%(10-l)):cJ)=od at eo;have go':tV w t od.1 od.2.1=true/\l<=od.2.2/\od.2.2<=9:=by rw[<- hod];exact go
  obtain⟨gb,q⟩:=mD (G:=G) (cl:=cl) (t:=.nm 0) (it:=.cons (.var 7) .nil) (cs:=.cons (.cmp .ne (.slT (.var 0) (.int 2)) (.slT (.var 1) (.int 2))) .nil) (e:=.var 0) (N:= ["_law_star","_law_odd"]) (cap:= [13]) (r:=lC nm m hp dr (some (.int w)) (some (.int t)) (some (.int l)) (some (.ref p)) d8 d9 d10 d11 d12 (some (s3 od))) (h:=h) (h1:=h) (l:=T) s3 (λr=>∃d,r=[d,some (s3 od)]) (λa=> !decide (a.1=od.1/\a.2.1=od.2.1)) s3 (cE (aY rfl)) (dL hs) (by omega) ⟨none,rfl⟩
   (λa ha=>⟨λr ys gb ⟨d,er⟩=>by
     subst er;refine⟨[some (s3 a),some (s3 od)],[],rfl,?_,⟨_,rfl⟩,λ_=>⟨[],?_⟩⟩
     ·rw[Zm,wX,bK (x:=rJ a) (y:=rJ od) (by rw[DD,aY (x:=s3 a) rfl,aD,aF,aD,zY]) (by rw[DD,aY (x:=s3 od) rfl,aD,aF,aD,zY]) (VZ ..),aD,tU]
      cases(!decide (a.1=od.1/\a.2.1=od.2.1))
      ·rfl
      ·exact jD ..
     ·rw[Zm,Zm];exact aY (i:=0) (x:=s3 a) rfl⟩)
  generalize hT1:T.filter (λa=> !decide (a.1=od.1/\a.2.1=od.2.1))=T1 at q;have hl1:T1.length<=100:=by rw[<- hT1];exact Nat.le_trans (List.length_filter_le _ _) hT
  generalize hg1:h++O.lst (T1.map s3)::gb=h1 at q;have k1:Kp h h1:=by rw[<- hg1];exact Kp.app _ _
  have p1:h1[h.length]? =some (.lst (T1.map s3)):=by rw[<- hg1];exact iC ..
  have b1:=gY (G:=G) (cl:=cl) (cE (r:=lC nm m hp dr (some (.int w)) (some (.int t)) (some (.int l)) (some (.ref p)) d8 d9 d10 d11 d12 (some (s3 od))) (h:=h1) (x:=s3 od) (aY (i:=13) rfl)) (eR rfl);generalize hg2:h1++ [O.lst [s3 od]]=h2 at b1;have k2:Kp h1 h2:=by rw[<- hg2];exact Kp.app _ _
  have p2:h2[h1.length]? =some (.lst [s3 od]):=by rw[<- hg2];exact bZ ..
  have b2:=DG (G:=G) (cl:=cl) (op:=.add) q b1 (VY (k2 _ _ p1) p2 (by rw[Zc];show _+1<=_;omega));refine⟨h2++ [.lst (T1.map s3++ [s3 od])],h2.length,T1++ [od],some (s3 od),?_,((kp.trans k1).trans k2).trans (Kp.app _ _),by rw[aU,List.map_append];rfl,⟨?_,λa ha=>?_⟩,by rw[List.length_append];show _+1<=_;omega⟩
  ·rw[dB c,aK (r':=lC nm m hp dr (some (.int w)) (some (.int t)) (some (.int l)) (some (.ref p)) d8 d9 d10 d11 d12 (some (s3 od))) (h':=h) (bC eo),aK (bC b2),aV];rfl
  ·rw[List.pairwise_append];refine⟨by rw[<- hT1];exact g.up.filter _,List.pairwise_singleton _ _,λx hx y hy=>?_⟩;rw[List.mem_singleton.mp hy];rw[<- hT1,List.mem_filter] at hx;have z:=hx.2;exact λe=>by rw[decide_eq_true e] at z;cases z
  ·rcases List.mem_append.mp ha with z|z
   ·rw[<- hT1,List.mem_filter] at z;exact g.st a z.1
   ·rw[List.mem_singleton.mp z];exact go'
 ·rw[decide_eq_false hc] at c;exact⟨h,p,T,none,by rw[cC c,aV],kp,dL hs,g,by omega⟩
theorem UX{a:E}{n:Nat}{l:List D}{r:Ev}{h:Hh}(ha:ev G cl a r h=.ok (.ref n) h)(e:aJ h n=some l):ev G cl (.slL a (.neg (.int 8))) r h=.ok (.ref h.length) (h++ [.lst (l.drop (l.length-8))]):=by
 have e0:ev G cl (.slL a (.neg (.int 8))) r h=(ev G cl a r h).bind λx h=>(ev G cl (.neg (.int 8)) r h).bind λy h=>yB x y h:=by rw[ev]<;>rfl
 rw[e0,ha,aD,KQ,aF,aD,aD];have e1:cF (.ref n) h=true:=by rw[dU,e];rfl
 unfold yB;rw[e1,iS,e];rfl
def L3(cl:Cl)(f:Nat):Prop:=∀(h:Hh)(nm:Str)(m:M3)(hp dr:Nat)(S:List cJ)(row:List Int),iJ m->aJ h hp=some (S.map s3)->Hev S->Row h dr row->row.length=12->∃h' w t l U,cl f [.str nm,mo m,.ref hp,.ref dr] h=.ok (fF nm w t l U) h'/\Kp h h'/\Good w t l U
theorem NA(hW:100<=W)(h15:XL cl 19)(h17:QX cl 21){h:Hh}{nm:Str}{m:M3}{hp dr:Nat}{S:List cJ}{row:List Int}(hm:iJ m)(hS:aJ h hp=some (S.map s3))(HS:Hev S)(Q:Row h dr row)(hr:row.length=12):
 ∃h' w t l U,(bO G cl W paB (lC nm m hp dr none none none none none none none none none none) h).bind cU=.ok (fF nm w t l U) h'/\Kp h h'/\Good w t l U:=by
 obtain⟨w,h1,hw,k1,e1⟩:=uN (G:=G) (cl:=cl) (nm:=nm) (m:=m) (hp:=hp) Q (Kp.refl _) 4 (by omega) 4 24 8 4 6 8 (by omega) (by omega) (by omega) (by omega) (by omega) none none none none none none none none none none;obtain⟨t,h2,ht,k2,e2⟩:=uN (G:=G) (cl:=cl) (nm:=nm) (m:=m) (hp:=hp) Q k1 5 (by omega) 4 24 8 4 6 8 (by omega) (by omega) (by omega) (by omega) (by omega) (some (.int w)) none none none none none none none none none;obtain⟨l,h3,hl,k3,e3⟩:=uN (G:=G) (cl:=cl) (nm:=nm) (m:=m) (hp:=hp) Q (k1.trans k2) 6 (by omega) 3 12 9 3 4 9 (by omega) (by omega) (by omega) (by omega) (by omega) (some (.int w)) (some (.int t)) none none none none none none none none;have k03:Kp h h3:=(k1.trans k2).trans k3;have kb:Kp h (h3++ [.lst []]):=k03.trans (Kp.app _ _)
 have fl:=gX (t:=.tp [8,9,10]) (body:=bO G cl W ZB) (n:=hp) (l:=S.map s3) (λi r h'=>∃(T:List cJ)(d8 d9 d10 d11 d12:Option D),r=lC nm m hp dr (some (.int w)) (some (.int t)) (some (.int l)) (some (.ref h3.length)) d8 d9 d10 d11 d12 none/\Kp h3 h'/\h'[h3.length]? =some (.lst (T.map s3))/\T.length<=i/\StIn w t l T/\∀a∈T,∃s∈S.take i,a=OV m s)
  (λ_ _=>False) (λi r h' ⟨T,_,_,_,_,_,_,kq,_⟩=>(k03.trans kq).lst hS)
  (λi d hd r h' ⟨T,d8,d9,d10,d11,d12,er,kq,hs,hT,g,hn⟩=>by
    subst er;rw[Zi,Option.map_eq_some_iff] at hd;obtain⟨s,es,rfl⟩:=hd;have hi:i<S.length:=(Ze.mp es).1;have hsm:s∈S:=(Ze.mp es).2 ▸ List.getElem_mem _;have hlen:=HS.len;refine⟨lC nm m hp dr (some (.int w)) (some (.int t)) (some (.int l)) (some (.ref h3.length)) (some (.int s.1)) (some (.int s.2.1)) (some (.int s.2.2)) d11 d12 none,rfl,.inl ?_⟩
    obtain⟨h'',T',a,b,q1,q2,q3,q4,q5⟩:=GP (G:=G) (W:=W) (nm:=nm) (hp:=hp) (dr:=dr) h15 h17 hm (Zn _) kq (by omega) hs s (HS.br s hsm).2 d11 d12 g (λx hx=>by
     obtain⟨s',hs',rfl⟩:=hn x hx;refine OU hm ?_;have u:=HS.up;rw[<- List.take_append_drop i S,List.pairwise_append] at u;refine u.2.2 s' hs' s ?_;rw[List.drop_eq_getElem_cons hi];exact(Ze.mp es).2 ▸ Zl)
    have tk:∀s'∈S.take i,s'∈S.take (i+1):=λs' h=>by rw[List.take_succ];exact List.mem_append_left _ h
    refine⟨_,h'',q1,T',_,_,_,_,_,rfl,q2,q3,?_,q4,λx hx=>?_⟩
    ·rcases q5 with rfl|rfl
     ·omega
     ·rw[List.length_append];show _+1<=_;omega
    ·rcases q5 with rfl|rfl
     ·obtain⟨s',a,b⟩:=hn x hx;exact⟨s',tk s' a,b⟩
     ·rcases List.mem_append.mp hx with z|z
      ·obtain⟨s',a,b⟩:=hn x z;exact⟨s',tk s' a,b⟩
      ·exact⟨s,by rw[List.take_succ,es];exact List.mem_append_right _ Zl,List.mem_singleton.mp z⟩)
  W 0 (lC nm m hp dr (some (.int w)) (some (.int t)) (some (.int l)) (some (.ref h3.length)) none none none none none none) (h3++ [.lst []]) ⟨[],_,_,_,_,_,rfl,Kp.app _ _,bZ ..,Zn _,⟨.nil,λs hs=>nomatch hs⟩,λs hs=>nomatch hs⟩ (Nat.zero_le _) (by rw[Zc];have:=HS.len;omega)
 rcases fl with ⟨r4,h4,e4,T,d8,d9,d10,d11,d12,rfl,k4,hs4,hT4,g4,_⟩|⟨_,_,_,z⟩
 ·have hT:T.length<=8:=by rw[Zc] at hT4;have:=HS.len;omega
  obtain⟨h5,p5,T5,d13,e5,k5,hs5,g5,l5⟩:=NB (G:=G) (cl:=cl) (W:=W) (nm:=nm) (m:=m) (hp:=hp) Q hr (k03.trans k4) hw ht hl (by omega) hs4 g4 d8 d9 d10 d11 d12;have u6:(T5.drop (T5.length-8)).Pairwise npS:=g5.up.sublist (List.drop_sublist _ _);have l6:(T5.drop (T5.length-8)).length<=8:=by rw[List.length_drop];omega
  obtain⟨U,hU,eU⟩:=YK u6 l6;have g6:StIn w t l (T5.drop (T5.length-8)):=⟨u6,λs hs=>g5.st s (List.mem_of_mem_drop hs)⟩;have e6:=UX (G:=G) (cl:=cl) (a:=.var 7) (r:=lC nm m hp dr (some (.int w)) (some (.int t)) (some (.int l)) (some (.ref p5)) d8 d9 d10 d11 d12 d13) (aY rfl) hs5;rw[Zc, <- List.map_drop] at e6;generalize T5.drop (T5.length-8)=T6 at e6 eU hU g6 l6;have e7:ev G cl (.blt .sorted (n1 (.slL (.var 7) (.neg (.int 8))))) (lC nm m hp dr (some (.int w)) (some (.int t)) (some (.int l)) (some (.ref p5)) d8 d9 d10 d11 d12 d13) h5=.ok (.ref (h5++ [O.lst (T6.map s3)]).length) (h5++ [.lst (T6.map s3)]++ [.lst (U.map s3)]):=kF (cE e6) (JX (aU ..) eU)
  have e8:ev G cl (.blt .tup (n1 (.blt .sorted (n1 (.slL (.var 7) (.neg (.int 8))))))) (lC nm m hp dr (some (.int w)) (some (.int t)) (some (.int l)) (some (.ref p5)) d8 d9 d10 d11 d12 d13) h5=.ok (.tup (U.map s3)) (h5++ [.lst (T6.map s3)]++ [.lst (U.map s3)]):=by
   refine kF (cE e7) ?_;show FF _ _=_;unfold FF;have e1:cF (.ref (h5++ [O.lst (T6.map s3)]).length) (h5++ [.lst (T6.map s3)]++ [.lst (U.map s3)])=true:=by rw[dU,aU];rfl
   rw[e1,iS,aU]
  refine⟨h5++ [.lst (T6.map s3)]++ [.lst (U.map s3)],w,t,l,U,?_,((k5.trans (Kp.app _ _)).trans (Kp.app _ _)),Good.perm hw ht hl g6 l6 hU⟩
  rw[aK (r':=lC nm m hp dr (some (.int w)) none none none none none none none none none) (h':=h1) (bC e1),aK (r':=lC nm m hp dr (some (.int w)) (some (.int t)) none none none none none none none none) (h':=h2) (bC e2),aK (r':=lC nm m hp dr (some (.int w)) (some (.int t)) (some (.int l)) none none none none none none none) (h':=h3) (bC e3),
   aK (r':=lC nm m hp dr (some (.int w)) (some (.int t)) (some (.int l)) (some (.ref h3.length)) none none none none none none) (h':=h3++ [.lst []]) (bC (gY (dD ..) (eR rfl))),
   aK (by rw[qC,aY (x:=.ref hp) rfl,dS,aD,KP,e4]),aK e5,bL (bN (jE (HX (x:=.str nm) (y:=.int w) (z:=.int t) (u:=.int l) (aY rfl) (aY rfl) (aY rfl) (aY rfl) e8) (eR rfl)))]
  rfl
 ·exact z.elim
end
theorem zJ{α β:Type}{φ:α->D}{t:Tg}{f:Ev->Hh->Rs D}{G:Gs}{cl:Cl}{h0:Hh}{F:Ev->Prop}{n:Nat}{l:List α}(val:α->β->D)(P:α->β->Hh->Prop)(hl:aJ h0 n=some (l.map φ))(hm:l.length<=1000)
 (s1:∀a b h h',P a b h->Kp h h'->P a b h')(s2:∀a b h k L o,P a b h->h[k]? =some (.lst L)->P a b (h.set k o))
 (hb:∀a∈l,∀r h',F r->Kp h0 h'->∃r1 b h'',cX t (φ a) r=some r1/\F r1/\f r1 h'=.ok (val a b) h''/\Kp h' h''/\P a b h''):
 ∀(k i:Nat)(r:Ev)(h':Hh)(M:List (α×β)),F r->i<=l.length->l.length-i<k->Kp h0 h'->M.map Prod.fst=l.take i->h'[h0.length]? =some (.lst (M.map λq=>val q.1 q.2))->(∀q∈M,P q.1 q.2 h')->
  ∃(h'':Hh)(M':List (α×β)),fA t (kB G cl .nil) f h0.length n k i r h'=.ok () h''/\Kp h0 h''/\M'.map Prod.fst=l/\h''[h0.length]? =some (.lst (M'.map λq=>val q.1 q.2))/\∀q∈M',P q.1 q.2 h'':=by
 intro k
 induction k with
 |zero=>intro i r h' M _ _ hk;omega
 |succ k ih=>
  intro i r h' M hF hi hk kp hM hs hP;have e0:=kp.lst hl
  by_cases hlt:i<l.length
  ·have ed:(l.map φ)[i]? =some (φ l[i]):=by rw[Zi,Zd hlt];rfl
   obtain⟨r1,b,h1,e1,f1,e2,k1,p1⟩:=hb l[i] (List.getElem_mem hlt) r h' hF kp;have hs1:=k1 _ _ hs
   have ln:(M.map λq=>val q.1 q.2).length<1000000:=by
    have:=congrArg List.length hM;rw[Zc,List.length_take] at this;rw[Zc];omega
   have ea:=rG (val l[i] b) hs1 ln
   obtain⟨h2,M',q1,q2,q3,q4,q5⟩:=ih (i+1) r1 (h1.set h0.length (.lst ((M.map λq=>val q.1 q.2)++ [val l[i] b]))) (M++ [(l[i],b)]) f1 hlt (by omega) ((kp.trans k1).set _ (Zn _)) (by rw[List.map_append,hM,List.take_succ,Zd hlt];rfl) (by rw[gF hs1,List.map_append];rfl)
    (λq hq=>by
      refine s2 _ _ _ _ _ _ ?_ hs1;rcases List.mem_append.mp hq with z|z
      ·exact s1 _ _ _ _ (hP q z) k1
      ·rw[List.mem_singleton.mp z];exact p1)
   refine⟨h2,M',?_,q2,q3,q4,q5⟩;simp only[fA,e0,ed,e1,jD,aD,if_true,e2,ea,q1]
  ·have ed:(l.map φ)[i]? =none:=List.getElem?_eq_none_iff.mpr (by simp;omega);refine⟨h',M,by simp only[fA,e0,ed],kp,?_,hs,hP⟩;rw[hM,List.take_of_length_le (by omega)]
theorem xC{α β:Type}{G:Gs}{cl:Cl}{t:Tg}{it:Es}{e:E}{N:List Str}{cap:List Nat}{r:Ev}{h h1:Hh}{n:Nat}{l:List α}(φ:α->D)(F:Ev->Prop)(val:α->β->D)(P:α->β->Hh->Prop)(hi:cW G cl it r h=.ok [.ref n] h1)(hl:aJ h1 n=some (l.map φ))(hm:l.length<=1000)(hF:F (bA N cap r))
 (s1:∀a b h h',P a b h->Kp h h'->P a b h')(s2:∀a b h k L o,P a b h->h[k]? =some (.lst L)->P a b (h.set k o))
 (hb:∀a∈l,∀r h',F r->Kp h1 h'->∃r1 b h'',cX t (φ a) r=some r1/\F r1/\ev G cl e r1 h'=.ok (val a b) h''/\Kp h' h''/\P a b h''):
 ∃(h':Hh)(M:List (α×β)),ev G cl (.comp t .sq it .nil e N cap) r h=.ok (.ref h1.length) h'/\Kp h1 h'/\M.map Prod.fst=l/\aJ h' h1.length=some (M.map λq=>val q.1 q.2)/\∀q∈M,P q.1 q.2 h':=by
 obtain⟨h',M,q1,q2,q3,q4,q5⟩:=zJ (G:=G) (cl:=cl) val P hl hm s1 s2 hb ((l.map φ).length+1) 0 (bA N cap r) (h1++ [.lst []]) [] hF (Nat.zero_le _) (by rw[Zc];omega) (Kp.app _ _) (by rw[List.take_zero];rfl) (bZ ..) (λq hq=>nomatch hq);exact⟨h',M,nW hi hl q1,q2,q3,dL q4,q5⟩
theorem xB{α:Type}{G:Gs}{cl:Cl}{t:Tg}{it:Es}{e:E}{N:List Str}{cap:List Nat}{r:Ev}{h h1:Hh}{n:Nat}{l:List α}(φ:α->D)(F:Ev->Prop)(g:α->D)(hi:cW G cl it r h=.ok [.ref n] h1)(hl:aJ h1 n=some (l.map φ))(hm:l.length<=1000)(hF:F (bA N cap r))
 (hb:∀a∈l,∀r h',F r->Kp h1 h'->∃r1 h'',cX t (φ a) r=some r1/\F r1/\ev G cl e r1 h'=.ok (g a) h''/\Kp h' h''):
 ∃h',ev G cl (.comp t .sq it .nil e N cap) r h=.ok (.ref h1.length) h'/\Kp h1 h'/\aJ h' h1.length=some (l.map g):=by
 obtain⟨h',M,q1,q2,q3,q4,_⟩:=xC (G:=G) (cl:=cl) (β:=Unit) (e:=e) (t:=t) (N:=N) (cap:=cap) φ F (λa _=>g a) (λ_ _ _=>True) hi hl hm hF (λ_ _ _ _ _ _=>trivial) (λ_ _ _ _ _ _ _ _=>trivial) (λa ha r h' hr kp=>by
  obtain⟨r1,h'',a1,a2,a3,a4⟩:=hb a ha r h' hr kp;exact⟨r1,(),h'',a1,a2,a3,a4,trivial⟩)
 refine⟨h',q1,q2,?_⟩;rw[q4, <- q3,List.map_map];rfl
structure Pr where
 nm:Str
 w:Int
 t:Int
 l:Int
 U:List cJ
 m:M3
noncomputable def Pr.p(r:Pr):D:=fF r.nm r.w r.t r.l r.U
noncomputable def Pr.d(r:Pr):D:=.tup [r.p,mo r.m]
structure Pr.ok (r:Pr):Prop where
 nm:NmOk r.nm
 g:Good r.w r.t r.l r.U
 m:iJ r.m
noncomputable def mP(w t l:Int)(U:List cJ)(x y:Int):Sy:=match mH U x y with
 |some b=>.st b
 |none=>if tV w t x y=true then .ud l else .un
theorem MA(w t l:Int)(U:List cJ)(x y:Int):AX w t l U x y=(mP w t l U x y).d:=by
 unfold AX mP;cases mH U x y with
 |some b=>rfl
 |none=>cases tV w t x y<;>rfl
theorem vY{w t l:Int}{U:List cJ}(g:Good w t l U)(x y:Int):(mP w t l U x y).ok:=by
 unfold mP;cases q:mH U x y with
 |some b=>
  unfold mH at q;rw[Option.map_eq_some_iff] at q;obtain⟨s,hs,rfl⟩:=q;have:=g.st s (List.mem_of_find?_eq_some hs);have:=g.hl;show 1<=s.2.2/\s.2.2<=9;omega
 |none=>
  cases tV w t x y with
  |true=>exact g.hl
  |false=>exact trivial
noncomputable def Pr.sy(X:Int×Int)(r:Pr):Sy:=mP r.w r.t r.l r.U (qA (bk r.m) X).1 (qA (bk r.m) X).2
section
variable {G:Gs}{cl:Cl}{W:Nat}
theorem VF{a b:E}{x y d:D}{r:Ev}{h h1 h2 h3:Hh}(ha:ev G cl a r h=.ok x h1)(hb:ev G cl b r h1=.ok y h2)(hd:jA x y h2=.ok d h3):ev G cl (.ix a b) r h=.ok d h3:=by
 rw[tD,ha,aD,hb,aD,hd]
noncomputable abbrev lqT:E:=(.and (.cmp .le (.int 0) (.ix (.var 1) (.int 0))) (.and (.cmp .lt (.ix (.var 1) (.int 0)) (.ix (.var 0) (.int 1))) (.and (.cmp .le (.int 0) (.ix (.var 1) (.int 1))) (.cmp .lt (.ix (.var 1) (.int 1)) (.ix (.var 0) (.int 2))))))
noncomputable abbrev NR:Ss:=(t1 (.iff (.and (.cmp .eq (.var 2) (.ix (.var 1) (.int 0))) (.cmp .eq (.var 3) (.ix (.var 1) (.int 1)))) (t1 (.ret (.tup (n2 (.str "star") (.var 4))))) .nil))
noncomputable abbrev ZF:Ss:=(t3 (.iff (.not lqT) (t1 (.ret (.tup (n2 (.str "unseen") (.int 0))))) .nil) (.forr (.tp [2,3,4]) (.sq (.ix (.var 0) (.int 4))) NR) (.ret (.tup (n2 (.str "under") (.ix (.var 0) (.int 3))))))
def Lsq(cl:Cl)(f:Nat):Prop:=∀(h:Hh)(nm:Str)(w t l:Int)(U:List cJ)(X:Int×Int),Good w t l U->cl f [fF nm w t l U,pl X] h=.ok (mP w t l U X.1 X.2).d h
noncomputable def zD(P:D)(x y:Int)(a b c:Option D):Ev:= [some P,some (.tup [.int x,.int y]),a,b,c]
theorem wL{h:Hh}(P:D)(x y:Int):∀(U:List cJ)(a b c:Option D),(∃b',mH U x y=some b'/\dM (.tp [2,3,4]) (bO G cl W NR) (U.map s3) (zD P x y a b c) h=.ok (.rt (.tup [.str "star",.int b'])) h)\/(mH U x y=none/\∃a' b' c',dM (.tp [2,3,4]) (bO G cl W NR) (U.map s3) (zD P x y a b c) h=.ok (.nx (zD P x y a' b' c')) h)
 | [],a,b,c=>.inr ⟨rfl,a,b,c,rfl⟩
 |s::U,a,b,c=>by
  have c1:ev G cl (.and (.cmp .eq (.var 2) (.ix (.var 1) (.int 0))) (.cmp .eq (.var 3) (.ix (.var 1) (.int 1)))) (zD P x y (some (.int s.1)) (some (.int s.2.1)) (some (.int s.2.2))) h=.ok (.bl (decide (s.1=x)&&decide (s.2.1=y))) h:=
   eG (bK (aY rfl) (bB rfl (aF ..) (d:=.int x) rfl) (rE ..)) (bK (aY rfl) (bB rfl (aF ..) (d:=.int y) rfl) (rE ..))
  have st:cX (.tp [2,3,4]) (s3 s) (zD P x y a b c)=some (zD P x y (some (.int s.1)) (some (.int s.2.1)) (some (.int s.2.2))):=rfl
  have ea:mH (s::U) x y=if decide (s.1=x/\s.2.1=y)=true then some s.2.2 else mH U x y:=by
   unfold mH;rw[List.find?_cons];cases decide (s.1=x/\s.2.1=y)<;>rfl
  rw[<- Bool.decide_and] at c1;rw[Zh,pL,st];cases q:decide (s.1=x/\s.2.1=y) with
  |true=>
   rw[q] at c1;refine .inl ⟨s.2.2,by rw[ea,q];rfl,?_⟩
   show(bO G cl W NR _ h).bind _=_
   rw[bL (d:=.tup [.str "star",.int s.2.2]) (h':=h) (by rw[dB c1,bL (bN (cG (pM ..) (aY rfl)))])];rfl
  |false=>
   rw[q] at c1;have e1:bO G cl W NR (zD P x y (some (.int s.1)) (some (.int s.2.1)) (some (.int s.2.2))) h=.ok (.nx (zD P x y (some (.int s.1)) (some (.int s.2.1)) (some (.int s.2.2)))) h:=by rw[aK (by rw[cC c1,aV]),aV]
   have e2:mH (s::U) x y=mH U x y:=by rw[ea,q];rfl
   rw[e2]
   show(∃b',_/\(bO G cl W NR _ h).bind _=_)\/(_/\∃a' b' c',(bO G cl W NR _ h).bind _=_)
   rw[e1];exact wL P x y U (some (.int s.1)) (some (.int s.2.1)) (some (.int s.2.2))
theorem NQ{h:Hh}{nm:Str}{w t l:Int}{U:List cJ}(X:Int×Int)(g:Good w t l U):(bO G cl W ZF [some (fF nm w t l U),some (pl X),none,none,none] h).bind cU=.ok (mP w t l U X.1 X.2).d h:=by
 obtain⟨x,y⟩:=X;have i0:∀r:Ev,r[1]? =some (some (.tup [.int x,.int y]))->ev G cl (.ix (.var 1) (.int 0)) r h=.ok (.int x) h:=λr hr=>bB hr (aF ..) rfl;have i1:∀r:Ev,r[1]? =some (some (.tup [.int x,.int y]))->ev G cl (.ix (.var 1) (.int 1)) r h=.ok (.int y) h:=λr hr=>bB hr (aF ..) rfl;have iw:∀r:Ev,r[0]? =some (some (fF nm w t l U))->ev G cl (.ix (.var 0) (.int 1)) r h=.ok (.int w) h:=λr hr=>bB hr (aF ..) rfl;have it:∀r:Ev,r[0]? =some (some (fF nm w t l U))->ev G cl (.ix (.var 0) (.int 2)) r h=.ok (.int t) h:=λr hr=>bB hr (aF ..) rfl
 have c1:ev G cl lqT (zD (fF nm w t l U) x y none none none) h=.ok (.bl (tV w t x y)) h:=by
  have e:=eG (G:=G) (cl:=cl) (bK (aF _ _ _ _ 0) (i0 (zD (fF nm w t l U) x y none none none) rfl) (tP ..)) (eG (bK (i0 _ rfl) (iw _ rfl) (LD ..)) (eG (bK (aF _ _ _ _ 0) (i1 _ rfl) (tP ..)) (bK (i1 _ rfl) (it _ rfl) (LD ..))));rw[<- Bool.and_assoc] at e;exact e
 show(bO G cl W ZF (zD (fF nm w t l U) x y none none none) h).bind cU=.ok (mP w t l U x y).d h
 cases hw:tV w t x y with
 |false=>
  rw[hw] at c1
  have q:mH U x y=none:=by
   cases q:mH U x y with
   |none=>rfl
   |some b=>rw[QN g q] at hw;cases hw
  rw[bL (d:=.tup [.str "unseen",.int 0]) (h':=h) (by rw[dB (jF c1),bL (bN (cG (pM ..) (aF ..)))])];unfold mP;rw[q,hw];rfl
 |true=>
  rw[hw] at c1;rw[aK (r':=zD (fF nm w t l U) x y none none none) (h':=h) (by rw[cC (jF c1),aV])];have i4:ev G cl (.ix (.var 0) (.int 4)) (zD (fF nm w t l U) x y none none none) h=.ok (.tup (U.map s3)) h:=bB rfl (aF ..) rfl;unfold mP;rcases wL (G:=G) (cl:=cl) (W:=W) (h:=h) (fF nm w t l U) x y U none none none with ⟨b',q,e⟩|⟨q,a',b',c',e⟩
  ·rw[bL (by rw[qC,i4,dS,aD,KO,e]),q];rfl
  ·rw[aK (by rw[qC,i4,dS,aD,KO,e]),bL (bN (cG (pM ..) (bB (x:=fF nm w t l U) (d:=.int l) rfl (aF ..) rfl))),q,hw];rfl
noncomputable abbrev ptB:Ss:=(t1 (.ret (.comp (.tp [0,1]) .sq (n1 (.var 0)) .nil (.tup (n2 (.new "Plate" 35 (n5 (.ix (.var 0) (.int 0)) (.ix (.var 0) (.int 1)) (.ix (.var 0) (.int 2)) (.ix (.var 0) (.int 3)) (.blt .list (n1 (.ix (.var 0) (.int 4)))))) (.var 1))) ["_law_pane_here","_law_motion_here"] [])))
noncomputable def EZ(r:Pr)(n:Nat):D:=.tup [.ref n,mo r.m]
def qB(r:Pr)(n:Nat)(h:Hh):Prop:=PlateAt h n r.nm r.w r.t r.l r.U
def K9(cl:Cl)(f:Nat):Prop:=∀(h:Hh)(p:Nat)(R:List Pr),aJ h p=some (R.map Pr.d)->R.length<=100->(∀r∈R,r.ok)->∃(h':Hh)(k:Nat)(M:List (Pr×Nat)),cl f [.ref p] h=.ok (.ref k) h'/\Kp h h'/\M.map Prod.fst=R/\aJ h' k=some (M.map λq=>EZ q.1 q.2)/\∀q∈M,qB q.1 q.2 h'
theorem MM(h33:Ini cl 35){h:Hh}{p:Nat}{R:List Pr}(hp:aJ h p=some (R.map Pr.d))(hl:R.length<=100)(ok:∀r∈R,r.ok):∃(h':Hh)(k:Nat)(M:List (Pr×Nat)),(bO G cl W ptB [some (.ref p)] h).bind cU=.ok (.ref k) h'/\Kp h h'/\M.map Prod.fst=R/\aJ h' k=some (M.map λq=>EZ q.1 q.2)/\∀q∈M,qB q.1 q.2 h':=by
 obtain⟨h',M,q,kp,e1,e2,e3⟩:=xC (G:=G) (cl:=cl) (t:=.tp [0,1]) (it:=.cons (.var 0) .nil) (e:=.tup (n2 (.new "Plate" 35 (n5 (.ix (.var 0) (.int 0)) (.ix (.var 0) (.int 1)) (.ix (.var 0) (.int 2)) (.ix (.var 0) (.int 3)) (.blt .list (n1 (.ix (.var 0) (.int 4)))))) (.var 1))) (N:= ["_law_pane_here","_law_motion_here"]) (cap:= []) (r:= [some (.ref p)]) (h:=h) (h1:=h) Pr.d (λr=>∃a b,r=[a,b]) EZ qB (cE (aY rfl)) hp (by omega) ⟨_,_,rfl⟩
  (λa b h h' P k=>P.kp k) (λa b h k L o P e=>P.set e)
  (λr hr e h' ⟨a,b,er⟩ kp=>by
    subst er;have Ok:=ok r hr;have el:ev G cl (.blt .list (n1 (.ix (.var 0) (.int 4)))) [some r.p,some (mo r.m)] h'=.ok (.ref h'.length) (h'++ [.lst (r.U.map s3)]):=kF (cE (bB (x:=r.p) (d:=.tup (r.U.map s3)) rfl (aF ..) rfl)) rfl;obtain⟨h2,e2,P2,k2⟩:=h33 (h'++ [.lst (r.U.map s3)]) r.nm r.w r.t r.l r.U h'.length Ok.nm Ok.g (aU ..);refine⟨[some r.p,some (mo r.m)],(h'++ [O.lst (r.U.map s3)]).length,h2,rfl,⟨_,_,rfl⟩,?_,(Kp.app _ _).trans k2,P2⟩;refine cG (x:=.ref (h'++ [O.lst (r.U.map s3)]).length) (y:=mo r.m) ?_ (aY rfl);rw[VD,HX (x:=.str r.nm) (y:=.int r.w) (z:=.int r.t) (u:=.int r.l) (bB (x:=r.p) rfl (aF ..) rfl) (bB (x:=r.p) rfl (aF ..) rfl) (bB (x:=r.p) rfl (aF ..) rfl) (bB (x:=r.p) rfl (aF ..) rfl) el,aD];unfold yM;rw[e2];rfl)
 exact⟨h',h.length,M,by rw[bL (bN q)];rfl,kp,e1,e2,e3⟩
noncomputable abbrev kpB:Ss:=(t1 (.ret (.cmp .eq (.comp (.tp [0,1]) .sq (n1 (.var 0)) .nil (.tup (n2 (.att (.var 0) "Plate" "name") (.var 1))) ["_law_plate","_law_motion_here"] []) (.comp (.tp [0,1]) .sq (n1 (.var 1)) .nil (.tup (n2 (.ix (.var 0) (.int 0)) (.var 1))) ["_law_pane_here","_law_motion_here"] []))))
noncomputable def oJ(r:Pr):D:=.tup [.str r.nm,mo r.m]
theorem xE:∀R:List Pr,oR (iQ 20) (R.map oJ) (R.map oJ)=some true
 | []=>rfl
 |r::R=>by
  rw[Zh,HZ,xE R]
  have:iQ 20 (oJ r) (oJ r)=some true:=by
   unfold oJ mo;rw[PF];simp only[HZ,PD,A9,PF,PH,decide_true,Bool.and_true]
  rw[this];rfl
def L9(cl:Cl)(f:Nat):Prop:=∀(h:Hh)(k p:Nat)(M:List (Pr×Nat)),aJ h k=some (M.map λq=>EZ q.1 q.2)->aJ h p=some ((M.map Prod.fst).map Pr.d)->M.length<=100->(∀q∈M,qB q.1 q.2 h)->∃h',cl f [.ref k,.ref p] h=.ok (.bl true) h'/\Kp h h'
theorem NW{h:Hh}{k p:Nat}{M:List (Pr×Nat)}(hk:aJ h k=some (M.map λq=>EZ q.1 q.2))(hp:aJ h p=some ((M.map Prod.fst).map Pr.d))(hl:M.length<=100)(hP:∀q∈M,qB q.1 q.2 h):∃h',(bO G cl W kpB [some (.ref k),some (.ref p)] h).bind cU=.ok (.bl true) h'/\Kp h h':=by
 obtain⟨h1,q1,k1,e1⟩:=xB (G:=G) (cl:=cl) (t:=.tp [0,1]) (it:=.cons (.var 0) .nil) (e:=.tup (n2 (.att (.var 0) "Plate" "name") (.var 1))) (N:= ["_law_plate","_law_motion_here"]) (cap:= []) (r:= [some (.ref k),some (.ref p)]) (h:=h) (h1:=h) (λq:Pr×Nat=>EZ q.1 q.2) (λr=>∃a b,r=[a,b]) (λq=>oJ q.1) (cE (aY rfl)) hk (by omega) ⟨_,_,rfl⟩
  (λq hq r h' ⟨a,b,er⟩ kp=>by
    subst er;obtain⟨j,p1,p2⟩:=PlateAt.kp (hP q hq) kp;exact⟨[some (.ref q.2),some (mo q.1.m)],h',rfl,⟨_,_,rfl⟩,cG (dX rfl p1 (fN ..)) (aY rfl),Kp.refl _⟩)
 obtain⟨h2,q2,k2,e2⟩:=xB (G:=G) (cl:=cl) (t:=.tp [0,1]) (it:=.cons (.var 1) .nil) (e:=.tup (n2 (.ix (.var 0) (.int 0)) (.var 1))) (N:= ["_law_pane_here","_law_motion_here"]) (cap:= []) (r:= [some (.ref k),some (.ref p)]) (h:=h1) (h1:=h1) Pr.d (λr=>∃a b,r=[a,b]) oJ (cE (aY rfl)) (k1.lst hp) (by rw[Zc];omega) ⟨_,_,rfl⟩
  (λq hq r h' ⟨a,b,er⟩ kp=>by
    subst er;exact⟨[some q.p,some (mo q.m)],h',rfl,⟨_,_,rfl⟩,cG (bB (x:=q.p) (d:=.str q.nm) rfl (aF ..) rfl) (aY rfl),Kp.refl _⟩)
 refine⟨h2,?_,k1.trans k2⟩;rw[bL (bN (d:=.bl true) (h':=h2) (bK q1 q2 ?_))]
 ·rfl
 ·have z1:aJ h2 h.length=some ((M.map Prod.fst).map oJ):=by rw[k2.lst e1,List.map_map];rfl
  show(match DK (.ref h.length) (.ref h1.length) h2 with|some b=>Rs.ok (D.bl b) h2|none=>.bad)=_
  have z:DK (.ref h.length) (.ref h1.length) h2=some true:=by
   show(match aJ h2 h.length,aJ h2 h1.length with|some a,some b=>if a.length=b.length then oR (iQ 20) a b else some false|_,_=>none)=_
   rw[z1,e2]
   show(if _ then _ else _)=_
   rw[if_pos rfl,xE]
  rw[z]
end
section
variable {G:Gs}{cl:Cl}{W:Nat}
noncomputable abbrev hoQ:Ss:=(t1 (.ret (.tup (n3 (.bin .mod (.ix (.var 0) (.int 7)) (.int 8)) (.bin .sub (.bin .mod (.ix (.var 0) (.int 8)) (.int 7)) (.int 3)) (.bin .sub (.bin .mod (.ix (.var 0) (.int 9)) (.int 7)) (.int 3))))))
def M4(cl:Cl)(f:Nat):Prop:=∀(h:Hh)(dr:Nat)(row:List Int),Row h dr row->row.length=12->∃m:M3,iJ m/\cl f [.ref dr] h=.ok (mo m) h
theorem OP{h:Hh}{dr:Nat}{row:List Int}(Q:Row h dr row)(hr:row.length=12):∃m:M3,iJ m/\(bO G cl W hoQ [some (.ref dr)] h).bind cU=.ok (mo m) h:=by
 refine⟨(Row.R row 7%8,Row.R row 8%7-3,Row.R row 9%7-3),⟨Int.emod_nonneg _ (by omega),Int.emod_lt_of_pos _ (by omega)⟩,?_⟩;rw[bL (bN (jE (lB (aQ (bB rfl (aF _ _ _ _ 7) (Q.ix (Kp.refl _) 7 (by omega))) (aF ..) (bY _ (by omega))) (aQ (aQ (bB rfl (aF _ _ _ _ 8) (Q.ix (Kp.refl _) 8 (by omega))) (aF ..) (bY _ (by omega))) (aF ..) (zT ..)) (aQ (aQ (bB rfl (aF _ _ _ _ 9) (Q.ix (Kp.refl _) 9 (by omega))) (aF ..) (bY _ (by omega))) (aF ..) (zT ..))) (eR rfl)))];rfl
def QY(cl:Cl)(f:Nat):Prop:=∀(a b:M3)(h:Hh),iJ a->iJ b->∃g,cl f [mo a,mo b] h=.ok (mo (bh a b)) (h++g)
noncomputable abbrev pqH:E:=(.tup (n3 (.ix (.var 8) (.int 0)) (.bin .add (.ix (.var 8) (.int 1)) (.bin .mul (.int 400) (.bin .sub (.ix (.var 7) (.int 1)) (.int 506)))) (.bin .add (.ix (.var 8) (.int 2)) (.bin .mul (.bin .pow (.int 10) (.int 27)) (.bin .mod (.ix (.var 7) (.int 2)) (.int 3))))))
noncomputable abbrev ZA:Ss:=(t4 (.asg (.nm 7) (.call 16 (n3 (.var 0) (.bin .add (.var 1) (.var 6)) (.int 12)))) (.asg (.nm 8) (.call 29 (n1 (.var 7)))) (.iff (.cmp .eq (.bin .mod (.ix (.var 7) (.int 0)) (.int 12)) (.int 5)) (t1 (.asg (.nm 8) pqH)) .nil) (.ex (.app (.var 5) (.tup (n2 (.call 28 (n4 (.ix (.var 2) (.var 6)) (.var 8) (.var 3) (.var 7))) (.call 20 (n2 (.var 8) (.var 4))))))))
noncomputable abbrev pqB:Ss:=(t3 (.asg (.nm 5) (.lst .nil)) (.forr (.nm 6) (.r1 (.blt .len (n1 (.var 2)))) ZA) (.ret (.var 5)))
noncomputable def zZ(at':Int)(np hp:Nat)(m:M3)(p:Nat)(d6 d7 d8:Option D):Ev:= [some (.ref 0),some (.int at'),some (.ref np),some (.ref hp),some (mo m),some (.ref p),d6,d7,d8]
def Pns(cl:Cl)(f:Nat)(ns:List Int):Prop:=∀(at':Int)(h:Hh)(np hp:Nat)(l:List Str)(S:List cJ)(m:M3),aJ h 0=some (ns.map D.int)->aJ h np=some (l.map D.str)->l.length<=12->(∀s∈l,NmOk s)->aJ h hp=some (S.map s3)->Hev S->iJ m->0<=at'->at'<=100->∃(h':Hh)(p:Nat)(R:List Pr),cl f [.ref 0,.int at',.ref np,.ref hp,mo m] h=.ok (.ref p) h'/\Kp h h'/\aJ h' p=some (R.map Pr.d)/\R.map Pr.nm=l/\∀r∈R,r.ok
theorem K3{i a:Nat}{e:E}{y:D}{l:List D}{r:Ev}{h h':Hh}(hr:r[i]? =some (some (.ref a)))(hl0:aJ h a=some l)(he:ev G cl e r h=.ok y h')(hs:h'[a]? =some (.lst l))(hl:l.length<=1000):xs G cl W (.ex (.app (.var i) e)) r h=.ok (.nx r) (h'.set a (.lst (l++ [y]))):=by
 have e1:cF (.ref a) h=true:=by rw[dU,hl0];rfl
 rw[LO,DH,aY hr,aD,if_pos e1,he,aD,rG _ hs (by omega),dS,aD]
theorem BK{ns:List Int}(hd:RT cl 16 ns)(h27:M4 cl 29)(h26:L3 cl 28)(h16:QY cl 20){hb h:Hh}{np hp p:Nat}{l:List Str}{S:List cJ}{m:M3}(h00:aJ hb 0=some (ns.map D.int))(hn:aJ hb np=some (l.map D.str))(hN:∀s∈l,NmOk s)(hS:aJ hb hp=some (S.map s3))(HS:Hev S)(hm:iJ m){at':Int}(a0:0<=at')(a1:at'<=100)(hpb:hb.length<=p)(kp:Kp hb h){R:List Pr}(hR:R.length<=100)(ok:∀r∈R,r.ok)(hs:h[p]? =some (.lst (R.map Pr.d)))(j:Nat)(hj:j<l.length)(hj2:j<12)(d7 d8:Option D):
 ∃h' d7' d8' r,bO G cl W ZA (zZ at' np hp m p (some (.int j)) d7 d8) h=.ok (.nx (zZ at' np hp m p (some (.int j)) d7' d8')) h'/\Kp hb h'/\h'[p]? =some (.lst ((R++ [r]).map Pr.d))/\r.ok/\r.nm=l[j]:=by
 obtain⟨row,hr,ir,q1⟩:=hd (at'+(j:Int)) 12 h (by omega) (by omega) (by omega) (kp.lst h00);have Q:Row (h++ [.lst (row.map D.int)]) h.length row:=⟨aU ..,ir⟩;have k1:Kp h (h++ [.lst (row.map D.int)]):=Kp.app _ _;generalize hg1:h++ [O.lst (row.map D.int)]=h1 at q1 Q k1;obtain⟨m0,hm0,e27⟩:=h27 h1 h.length row Q hr;rw[aK (r':=zZ at' np hp m p (some (.int j)) (some (.ref h.length)) d8) (h':=h1) (bC (cI (lB (aY rfl) (aQ (aY rfl) (aY rfl) (fV ..)) (aF ..)) q1)),aK (r':=zZ at' np hp m p (some (.int j)) (some (.ref h.length)) (some (mo m0))) (h':=h1) (bC (cI (cE (aY rfl)) e27))]
 obtain⟨m1,hm1,e8⟩:∃m1:M3,iJ m1/\xs G cl W (.iff (.cmp .eq (.bin .mod (.ix (.var 7) (.int 0)) (.int 12)) (.int 5)) (t1 (.asg (.nm 8) pqH)) .nil) (zZ at' np hp m p (some (.int j)) (some (.ref h.length)) (some (mo m0))) h1=.ok (.nx (zZ at' np hp m p (some (.int j)) (some (.ref h.length)) (some (mo m1)))) h1:=by
  have c:ev G cl (.cmp .eq (.bin .mod (.ix (.var 7) (.int 0)) (.int 12)) (.int 5)) (zZ at' np hp m p (some (.int j)) (some (.ref h.length)) (some (mo m0))) h1=.ok (.bl (decide (Row.R row 0%12=5))) h1:=bK (aQ (bB rfl (aF _ _ _ _ 0) (Q.ix (Kp.refl _) 0 (by omega))) (aF ..) (bY _ (by omega))) (aF ..) (rE ..)
  by_cases hc:Row.R row 0%12=5
  ·rw[decide_eq_true hc] at c;have b0:=Int.emod_nonneg (Row.R row 2) (show(3:Int)≠0 by omega);have b1:=Int.emod_lt_of_pos (Row.R row 2) (show(0:Int)<3 by omega);refine⟨(m0.1,m0.2.1+400*(Row.R row 1-506),m0.2.2+1000000000000000000000000000*(Row.R row 2%3)),hm0,?_⟩;rw[dB c,aK (bC (jE (lB (bB (x:=mo m0) (d:=.int m0.1) rfl (aF ..) rfl) (aQ (bB (x:=mo m0) (d:=.int m0.2.1) rfl (aF ..) rfl) (aQ (aF ..) (aQ (bB rfl (aF _ _ _ _ 1) (Q.ix (Kp.refl _) 1 (by omega))) (aF ..) (zT ..)) (gM _ (by omega) (by omega))) (fV ..)) (aQ (bB (x:=mo m0) (d:=.int m0.2.2) rfl (aF ..) rfl) (aQ (aQ (aF ..) (aF ..) (QM _)) (aQ (bB rfl (aF _ _ _ _ 2) (Q.ix (Kp.refl _) 2 (by omega))) (aF ..) (bY _ (by omega))) (tR _ (by omega) (by omega))) (fV ..))) (eR rfl))),aV];rfl
  ·rw[decide_eq_false hc] at c;exact⟨m0,hm0,by rw[cC c,aV]⟩
 rw[aK e8]
 have en:jA (.ref np) (.int j) h1=.ok (.str l[j]) h1:=by
  rw[lV _ _ ((kp.trans k1).lst hn),fJ (v:=.str l[j]) (by rw[Zi,Zd hj];rfl)]
 obtain⟨h2,w,t,lm,U,e26,k2,gU⟩:=h26 h1 l[j] m1 hp h.length S row hm1 ((kp.trans k1).lst hS) HS Q hr;obtain⟨g3,e16⟩:=h16 m1 m h2 hm1 hm;have k03:Kp hb (h2++g3):=((kp.trans k1).trans k2).trans (Kp.app _ _);have hs3:(h2++g3)[p]? =some (.lst (R.map Pr.d)):=Kp.app _ _ _ _ (k2 _ _ (k1 _ _ hs));have e4:=K3 (G:=G) (cl:=cl) (W:=W) (i:=5) (r:=zZ at' np hp m p (some (.int j)) (some (.ref h.length)) (some (mo m1))) rfl (dL (k1 _ _ hs)) (cG (cI (f:=28) (UV (bB (i:=2) rfl (aY (i:=6) rfl) en) (aY (i:=8) rfl) (aY (i:=3) rfl) (aY (i:=7) rfl)) e26) (cI (f:=20) (fS (aY (i:=8) rfl) (aY (i:=4) rfl)) e16)) hs3 (by rw[Zc];omega);refine⟨_,_,_,⟨l[j],w,t,lm,U,bh m1 m⟩,by rw[aK e4,aV],k03.set _ hpb,by rw[gF hs3,List.map_append];rfl,⟨hN _ (List.getElem_mem hj),gU,F7 m1 m⟩,rfl⟩
theorem ML{ns:List Int}(hd:RT cl 16 ns)(h27:M4 cl 29)(h26:L3 cl 28)(h16:QY cl 20){h:Hh}{np hp:Nat}{l:List Str}{S:List cJ}{m:M3}(h00:aJ h 0=some (ns.map D.int))(hn:aJ h np=some (l.map D.str))(hl:l.length<=12)(hN:∀s∈l,NmOk s)(hS:aJ h hp=some (S.map s3))(HS:Hev S)(hm:iJ m){at':Int}(a0:0<=at')(a1:at'<=100):
 ∃(h':Hh)(p:Nat)(R:List Pr),(bO G cl W pqB [some (.ref 0),some (.int at'),some (.ref np),some (.ref hp),some (mo m),none,none,none,none] h).bind cU=.ok (.ref p) h'/\Kp h h'/\aJ h' p=some (R.map Pr.d)/\R.map Pr.nm=l/\∀r∈R,r.ok:=by
 obtain⟨r',h',e,R,d6,d7,d8,er,kp,hs,hR,ok⟩:=kA (t:=.nm 6) (body:=bO G cl W ZA) (λj r h'=>∃(R:List Pr)(d6 d7 d8:Option D),r=zZ at' np hp m h.length d6 d7 d8/\Kp h h'/\h'[h.length]? =some (.lst (R.map Pr.d))/\R.map Pr.nm=l.take j/\∀r∈R,r.ok)
  (bU 0 l.length) 0 (λj d hdd r h' ⟨R,d6,d7,d8,er,kp,hs,hR,ok⟩=>by
    subst er
    have hj:j<l.length:=by
     have:=(Ze.mp hdd).1;rwa [gP] at this
    rw[mW _ _ hj] at hdd;cases hdd;have lR:=congrArg List.length hR;rw[Zc,List.length_take] at lR;obtain⟨h2,d7',d8',r,q1,q2,q3,q4,q5⟩:=BK (G:=G) (W:=W) hd h27 h26 h16 h00 hn hN hS HS hm a0 a1 (Zn _) kp (by omega) ok hs j hj (by omega) d7 d8;exact⟨_,_,h2,rfl,q1,R++ [r],_,_,_,rfl,q2,q3,by rw[List.map_append,hR,Nat.zero_add,List.take_succ,Zd hj];show _++ [r.nm]=_;rw[q5];rfl,λx hx=>by rcases List.mem_append.mp hx with z|z;exact ok x z;exact(List.mem_singleton.mp z) ▸ q4⟩)
  (zZ at' np hp m h.length none none none) (h++ [.lst []]) ⟨[],_,_,_,rfl,Kp.app _ _,bZ ..,by simp,λs hs=>nomatch hs⟩
 subst er;rw[gP,Nat.zero_add,List.take_length] at hR;refine⟨h',h.length,R,?_,kp,dL hs,hR,ok⟩;have eL:=DE (G:=G) (cl:=cl) (i:=2) (r:=zZ at' np hp m h.length none none none) rfl (dE h [O.lst []] hn);rw[Zc] at eL;rw[aK (r':=zZ at' np hp m h.length none none none) (h':=h++ [.lst []]) (bC (gY (dD ..) (eR rfl))),aK (eB (j:=(l.length:Int)) (h1:=h++ [.lst []]) eL (jS (by omega)) e),bL (bN (aY rfl))];rfl
def Mvd(cl:Cl)(f:Nat):Prop:=∀(m:M3)(x:Int×Int)(h:Hh),iJ m->cl f [mo m,pl x] h=.ok (pl (qA m x)) h
def N4(cl:Cl)(f:Nat):Prop:=∀(m:M3)(h:Hh),iJ m->cl f [mo m] h=.ok (mo (bk m)) h
def L5(cl:Cl)(f:Nat):Prop:=∀(k:Nat)(l:List Int)(h:Hh),aJ h k=some (l.map D.int)->l.length=9->InR l->∃m:M3,iJ m/\cl f [.ref k,.int 1] h=.ok (mo m) h
theorem DC{a b:E}{n:Nat}{l:List D}{i:Int}{r:Ev}{h h1:Hh}(ha:ev G cl a r h=.ok (.ref n) h1)(hb:ev G cl b r h1=.ok (.int i) h1)(e:aJ h1 n=some l)(hi:0<=i):ev G cl (.slU a b) r h=.ok (.ref h1.length) (h1++ [.lst (l.take i.toNat)]):=by
 have e0:ev G cl (.slU a b) r h=(ev G cl a r h).bind λx h=>(ev G cl b r h).bind λy h=>FO x y h:=by rw[ev]<;>rfl
 rw[e0,ha,aD,hb,aD];have e1:cF (.ref n) h1=true:=by rw[dU,e];rfl
 unfold FO;rw[e1,iS,e]
 show(if _ then _ else _)=_
 rw[if_pos hi]
end
theorem CS{α β:Type}{l:List α}{f:α->Option β}{i:Nat}{a:α}{d:β}(hp:(l.take i).findSome? f=none)(ha:l[i]? =some a)(hd:f a=some d):l.findSome? f=some d:=by
 rw[<- List.take_append_drop (i+1) l,List.findSome?_append,List.take_succ,List.findSome?_append,hp,ha];simp[hd]
theorem KN{α β:Type}{l:List α}{f:α->Option β}{i:Nat}{a:α}(hp:(l.take i).findSome? f=none)(ha:l[i]? =some a)(hd:f a=none):(l.take (i+1)).findSome? f=none:=by
 rw[List.take_succ,List.findSome?_append,hp,ha];simp[hd]
theorem gG{α:Type}{l:List α}{φ:α->D}{i:Nat}{d:D}(h:(l.map φ)[i]? =some d):∃a,l[i]? =some a/\a∈l/\d=φ a:=by
 rw[Zi,Option.map_eq_some_iff] at h;obtain⟨a,ha,e⟩:=h;exact⟨a,ha,List.mem_of_getElem? ha,e.symm⟩
def WK{α:Type}(t:Tg)(body:Ev->Hh->Rs Fl)(φ:α->D)(h0:Hh)(f:α->Option D)(F:Ev->Prop)(a:α):Prop:=∀r h,F r->Kp h0 h->∃r1 h2,cX t (φ a) r=some r1/\Kp h0 h2/\((f a=none/\∃r2,body r1 h=.ok (.nx r2) h2/\F r2)\/∃d,f a=some d/\body r1 h=.ok (.rt d) h2)
theorem kZ{α:Type}{t:Tg}{body:Ev->Hh->Rs Fl}{n:Nat}{l:List α}{φ:α->D}{h0:Hh}(f:α->Option D)(F:Ev->Prop)(hl:aJ h0 n=some (l.map φ))(hb:∀a∈l,WK t body φ h0 f F a){k:Nat}(hk:l.length<k){r:Ev}(hr:F r):
 (l.findSome? f=none/\∃r' h',gH t body n k 0 r h0=.ok (.nx r') h'/\F r'/\Kp h0 h')\/∃d h',l.findSome? f=some d/\gH t body n k 0 r h0=.ok (.rt d) h'/\Kp h0 h':=by
 rcases gX (t:=t) (body:=body) (n:=n) (l:=l.map φ) (λi r h=>F r/\Kp h0 h/\(l.take i).findSome? f=none) (λd h=>l.findSome? f=some d/\Kp h0 h) (λi r h q=>q.2.1.lst hl)
  (λi d hd r h ⟨q1,q2,q3⟩=>by
    obtain⟨a,ha,hm,rfl⟩:=gG hd;obtain⟨r1,h2,e1,k2,z⟩:=hb a hm r h q1 q2;refine⟨r1,e1,?_⟩;rcases z with ⟨z1,r2,z2,z3⟩|⟨d,z1,z2⟩
    ·exact .inl ⟨r2,h2,z2,z3,k2,KN q3 ha z1⟩
    ·exact .inr ⟨d,h2,z2,CS q3 ha z1,k2⟩)
  k 0 r h0 ⟨hr,Kp.refl _,by simp⟩ (Nat.zero_le _) (by rw[Zc];omega) with ⟨r',h',e,q1,q2,q3⟩|⟨d,h',e,q1,q2⟩
 ·rw[Zc,List.take_length] at q3;exact .inl ⟨q3,r',h',e,q1,q2⟩
 ·exact .inr ⟨d,h',q1,e,q2⟩
theorem pK{α:Type}{t:Tg}{body:Ev->Hh->Rs Fl}{l:List α}{φ:α->D}{h0:Hh}(f:α->Option D)(F:Ev->Prop)(hb:∀a∈l,WK t body φ h0 f F a){r:Ev}(hr:F r){h:Hh}(kh:Kp h0 h):
 (l.findSome? f=none/\∃r' h',dM t body (l.map φ) r h=.ok (.nx r') h'/\F r'/\Kp h0 h')\/∃d h',l.findSome? f=some d/\dM t body (l.map φ) r h=.ok (.rt d) h'/\Kp h0 h':=by
 rcases sZ (t:=t) (body:=body) (λi r h=>F r/\Kp h0 h/\(l.take i).findSome? f=none) (λd h=>l.findSome? f=some d/\Kp h0 h) (l.map φ) 0
  (λi d hd r h ⟨q1,q2,q3⟩=>by
    obtain⟨a,ha,hm,rfl⟩:=gG hd;obtain⟨r1,h2,e1,k2,z⟩:=hb a hm r h q1 q2;rw[Nat.zero_add] at q3;refine⟨r1,e1,?_⟩;rcases z with ⟨z1,r2,z2,z3⟩|⟨d,z1,z2⟩
    ·exact .inl ⟨r2,h2,z2,z3,k2,by rw[Nat.zero_add];exact KN q3 ha z1⟩
    ·exact .inr ⟨d,h2,z2,CS q3 ha z1,k2⟩)
  r h ⟨hr,kh,by simp⟩ with ⟨r',h',e,q1,q2,q3⟩|⟨d,h',e,q1,q2⟩
 ·rw[Nat.zero_add,Zc,List.take_length] at q3;exact .inl ⟨q3,r',h',e,q1,q2⟩
 ·exact .inr ⟨d,h',q1,e,q2⟩
theorem JG:∀a∈EW,∀b∈EW,decide (QF [a,b]<=VW [a,b])=QT a b:=by decide+kernel
noncomputable def Pr.say(r:Pr)(X:Int×Int):Sy:=mP r.w r.t r.l r.U X.1 X.2
noncomputable def IG(a b:Pr)(m:M3)(X:Int×Int):Bool:= !QT (a.say X) (b.say (qA m X))
noncomputable def EY(w t:Int):List (Int×Int):=(eF w).flatMap λx=>(eF t).map λy=>(x,y)
noncomputable def iM(a b:Pr)(m:M3):Option D:=(EY a.w a.t).findSome? λX=>if IG a b m X=true then some (pl X) else none
noncomputable def dC(d:Option D):D:=d.getD .non
theorem wT{α β γ:Type}(f:β->Option γ)(g:α->List β):∀l:List α,(l.flatMap g).findSome? f=l.findSome? λx=>(g x).findSome? f
 | []=>rfl
 |a::l=>by
  rw[List.flatMap_cons,List.findSome?_append,wT f g l,List.findSome?_cons]
  cases(g a).findSome? f<;>rfl
theorem DS(a b:Pr)(m:M3):iM a b m=(eF a.w).findSome? λx=>(eF a.t).findSome? λy=>if IG a b m (x,y)=true then some (pl (x,y)) else none:=by
 unfold iM EY;rw[wT];congr 1;funext x;rw[List.findSome?_map];rfl
section
variable {G:Gs}{cl:Cl}{W:Nat}
theorem dG{t:Tg}{e:E}{b:Ss}{r:Ev}{h h1 h':Hh}{n:Nat}{fl:Fl}(he:ev G cl e r h=.ok (.ref n) h1)(hf:gH t (bO G cl W b) n W 0 r h1=.ok fl h'):xs G cl W (.forr t (.sq e) b) r h=.ok fl h':=by
 rw[qC,he,dS,aD,KP,hf]
def Csp(cl:Cl)(f:Nat):Prop:=∀(ss:List Sy)(k:Nat)(h:Hh),aJ h k=some (ss.map Sy.d)->ss.length<=1000->∃g,cl f [.ref k] h=.ok (.tup [.int (QF ss),.int (VW ss)]) (h++g)
noncomputable abbrev agB:Ss:=(t2 (.asg (.tp [2,3]) (.call 8 (n1 (.lst (n2 (.var 0) (.var 1)))))) (.ret (.cmp .le (.var 2) (.var 3))))
def Agt(cl:Cl)(f:Nat):Prop:=∀(s t:Sy)(h:Hh),s.ok->t.ok->∃g,cl f [s.d,t.d] h=.ok (.bl (QT s t)) (h++g)
theorem QR(h8:Csp cl 8){s t:Sy}{h:Hh}(hs:s.ok)(ht:t.ok):∃g,(bO G cl W agB [some s.d,some t.d,none,none] h).bind cU=.ok (.bl (QT s t)) (h++g):=by
 obtain⟨g,e⟩:=h8 [s,t] h.length (h++ [.lst [s.d,t.d]]) (aU ..) (by simp);refine⟨.lst [s.d,t.d]::g,?_⟩;rw[List.append_assoc] at e;rw[aK (r':= [some s.d,some t.d,some (.int (QF [s,t])),some (.int (VW [s,t]))]) (by rw[fE,cI (cE (gY (fS (aY rfl) (aY rfl)) (eR rfl))) e];rfl),bL (bN (bK (aY rfl) (aY rfl) (tP ..))),JG _ (Sy.mem hs) _ (Sy.mem ht)];rfl
theorem EN{h0:Hh}{n:Nat}(x:Int):∀(l:List Int)(dy:Option D)(ys:List D),ys.length+l.length<=1000->∃dy',LF 1 (ev G cl (.tup (n2 (.var 0) (.var 1)))) h0.length (l.map D.int) [some (.int x),dy,some (.ref n)] (h0++ [.lst ys])=.ok [some (.int x),dy',some (.ref n)] (h0++ [.lst (ys++l.map λy=>pl (x,y))])
 | [],dy,ys,_=>⟨dy,by rw[List.map_nil,List.map_nil,Zm];rfl⟩
 |y::l,dy,ys,hl=>by
  rw[List.length_cons] at hl;obtain⟨dy',e⟩:=EN x l (some (.int y)) (ys++ [pl (x,y)]) (by rw[List.length_append];show _+1+_<=_;omega);refine⟨dy',?_⟩;have e1:ev G cl (.tup (n2 (.var 0) (.var 1))) [some (.int x),some (.int y),some (.ref n)] (h0++ [.lst ys])=.ok (pl (x,y)) (h0++ [.lst ys]):=cG (aY rfl) (aY rfl);have e2:=rG (pl (x,y)) (bZ h0 (.lst ys)) (show ys.length<1000000 by omega);have e3:(h0++ [O.lst ys]).set h0.length (.lst (ys++ [pl (x,y)]))=h0++ [.lst (ys++ [pl (x,y)])]:=by simp
  rw[e3] at e2
  show((ev G cl (.tup (n2 (.var 0) (.var 1))) [some (.int x),some (.int y),some (.ref n)] (h0++ [.lst ys])).bind λz h=>(jK (.ref h0.length) z h).bind λ_ h=>LF 1 (ev G cl (.tup (n2 (.var 0) (.var 1)))) h0.length (l.map D.int) [some (.int x),some (.int y),some (.ref n)] h)=_
  rw[e1,aD,e2,aD,e,List.append_assoc];rfl
theorem EM{h0:Hh}{n:Nat}{nm:Str}{w t l:Int}{U:List cJ}(P:PlateAt h0 n nm w t l U)(t0:0<=t)(t8:t<=8):∀(L:List Int)(dx dy:Option D)(ys:List D),ys.length+8*L.length<=1000->LE 0 1 (ev G cl (.att (.var 2) "Plate" "height")) (ev G cl (.tup (n2 (.var 0) (.var 1)))) h0.length (L.map D.int) [dx,dy,some (.ref n)] (h0++ [.lst ys])=.ok () (h0++ [.lst (ys++(L.flatMap λx=>(eF t).map λy=>(x,y)).map pl)])
 | [],dx,dy,ys,_=>by rw[List.map_nil,List.flatMap_nil,List.map_nil,Zm];rfl
 |x::L,dx,dy,ys,hl=>by
  rw[List.length_cons] at hl;have lt:(eF t).length<=8:=by unfold eF;rw[Zc,List.length_range];omega
  obtain⟨dy',e⟩:=EN (G:=G) (cl:=cl) (h0:=h0) (n:=n) x (eF t) dy ys (by omega);have ih:=EM P t0 t8 L (some (.int x)) dy' (ys++(eF t).map λy=>pl (x,y)) (by rw[List.length_append,Zc];omega);obtain⟨k,p1,p2⟩:=P.kp (Kp.app h0 [.lst ys])
  show(((ev G cl (.att (.var 2) "Plate" "height") [some (.int x),dy,some (.ref n)] (h0++ [.lst ys])).bind λz h=>match z with
   |.int j=>if kJ j then LF 1 (ev G cl (.tup (n2 (.var 0) (.var 1)))) h0.length (bU 0 j) [some (.int x),dy,some (.ref n)] h else .bad
   |_=>.bad).bind λr h=>LE 0 1 (ev G cl (.att (.var 2) "Plate" "height")) (ev G cl (.tup (n2 (.var 0) (.var 1)))) h0.length (L.map D.int) r h)=_
  rw[dX rfl p1 (fH ..),aD];dsimp only;rw[if_pos (by unfold kJ;omega), <- jR,e,aD,ih,List.flatMap_cons,List.map_append,List.map_map,List.append_assoc];rfl
noncomputable abbrev wpB:Ss:=(t1 (.ret (.cm2 0 1 (.att (.var 0) "Plate" "width") (.att (.var 2) "Plate" "height") (.tup (n2 (.var 0) (.var 1))) ["x","y","plate"] [0])))
def Win(cl:Cl)(f:Nat):Prop:=∀(h:Hh)(n:Nat)(r:Pr),qB r n h->r.ok->cl f [.ref n] h=.ok (.ref h.length) (h++ [.lst ((EY r.w r.t).map pl)])
theorem LP{h:Hh}{n:Nat}{r:Pr}(P:qB r n h)(ok:r.ok):(bO G cl W wpB [some (.ref n)] h).bind cU=.ok (.ref h.length) (h++ [.lst ((EY r.w r.t).map pl)]):=by
 have gw:=ok.g.hw;have gt:=ok.g.ht;have lw:(eF r.w).length<=8:=by unfold eF;rw[Zc,List.length_range];omega
 have e:=EM (G:=G) (cl:=cl) P (by omega) (by omega) (eF r.w) none none [] (by show 0+_<=_;omega);obtain⟨k,p1,p2⟩:=id P;rw[jR,List.nil_append] at e
 have q:ev G cl (.cm2 0 1 (.att (.var 0) "Plate" "width") (.att (.var 2) "Plate" "height") (.tup (n2 (.var 0) (.var 1))) ["x","y","plate"] [0]) [some (.ref n)] h=.ok (.ref h.length) (h++ [.lst ((EY r.w r.t).map pl)]):=by
  have e0:ev G cl (.cm2 0 1 (.att (.var 0) "Plate" "width") (.att (.var 2) "Plate" "height") (.tup (n2 (.var 0) (.var 1))) ["x","y","plate"] [0]) [some (.ref n)] h=(ev G cl (.att (.var 0) "Plate" "width") [some (.ref n)] h).bind λz h=>F0 0 1 (ev G cl (.att (.var 2) "Plate" "height")) (ev G cl (.tup (n2 (.var 0) (.var 1)))) z (bA ["x","y","plate"] [0] [some (.ref n)]) h:=by rw[ev]<;>rfl
  rw[e0,dX rfl p1 (fW ..),aD]
  show(if kJ r.w then _ else _)=_
  rw[if_pos (by unfold kJ;omega)]
  show(LE 0 1 _ _ h.length (bU 0 r.w) [none,none,some (.ref n)] (h++ [.lst []])).bind _=_
  rw[e,aD];rfl
 rw[bL (bN q)];rfl
noncomputable abbrev fdL:Ss:=(t1 (.iff (.not (.call 9 (n2 (.mth (.var 0) "Plate" "says" 38 (n1 (.var 3))) (.mth (.var 1) "Plate" "says" 38 (n1 (.call 3 (n2 (.var 2) (.var 3)))))))) (t1 (.ret (.var 3))) .nil))
noncomputable abbrev fdB:Ss:=(t2 (.forr (.nm 3) (.sq (.call 12 (n1 (.var 0)))) fdL) (.ret .non))
def M7(cl:Cl)(f:Nat):Prop:=∀(h:Hh)(n k:Nat)(a b:Pr)(m:M3),qB a n h->qB b k h->a.ok->b.ok->iJ m->∃h',cl f [.ref n,.ref k,mo m] h=.ok (dC (iM a b m)) h'/\Kp h h'
theorem FB{a:Pr}(ok:a.ok):(EY a.w a.t).length<=64:=by
 have gw:=ok.g.hw;have gt:=ok.g.ht;have l1:(eF a.w).length<=8:=by unfold eF;rw[Zc,List.length_range];omega
 have l2:(eF a.t).length<=8:=by unfold eF;rw[Zc,List.length_range];omega
 unfold EY;generalize eF a.w=L at l1;generalize eF a.t=T at l2
 have:∀L:List Int,(L.flatMap λx=>T.map λy=>(x,y)).length<=8*L.length:=λL=>by
  induction L with
  |nil=>simp
  |cons x L ih=>rw[List.flatMap_cons,List.length_append,Zc,List.length_cons];omega
 have:=this L;omega
theorem OT(hW:100<=W)(h3:Mvd cl 3)(h9:Agt cl 9)(h12:Win cl 12)(h38:Sys cl 38){h:Hh}{n k:Nat}{a b:Pr}{m:M3}(Pa:qB a n h)(Pb:qB b k h)(oa:a.ok)(ob:b.ok)(hm:iJ m):∃h',(bO G cl W fdB [some (.ref n),some (.ref k),some (mo m),none] h).bind cU=.ok (dC (iM a b m)) h'/\Kp h h':=by
 have e12:=h12 h n a Pa oa;have k0:Kp h (h++ [.lst ((EY a.w a.t).map pl)]):=Kp.app _ _;have hl:=aU h ((EY a.w a.t).map pl);generalize h++ [O.lst ((EY a.w a.t).map pl)]=h0 at e12 k0 hl
 have q:=kZ (t:=.nm 3) (body:=bO G cl W fdL) (λX=>if IG a b m X=true then some (pl X) else none) (λr=>∃d,r=[some (.ref n),some (.ref k),some (mo m),d]) hl
  (λX _ r h1 ⟨d,er⟩ k1=>by
    subst er;obtain⟨ka,a1,a2⟩:=PlateAt.kp Pa (k0.trans k1);obtain⟨kb,b1,b2⟩:=PlateAt.kp Pb (k0.trans k1);have s1:=h38 h1 n a.nm a.w a.t a.l a.U X.1 X.2 (PlateAt.kp Pa (k0.trans k1));have s2:=h38 h1 k b.nm b.w b.t b.l b.U (qA m X).1 (qA m X).2 (PlateAt.kp Pb (k0.trans k1));rw[MA] at s1 s2;obtain⟨g,e9⟩:=h9 (a.say X) (b.say (qA m X)) h1 (vY oa.g _ _) (vY ob.g _ _)
    have c:ev G cl (.not (.call 9 (n2 (.mth (.var 0) "Plate" "says" 38 (n1 (.var 3))) (.mth (.var 1) "Plate" "says" 38 (n1 (.call 3 (n2 (.var 2) (.var 3)))))))) [some (.ref n),some (.ref k),some (mo m),some (pl X)] h1=.ok (.bl (IG a b m X)) (h1++g):=
     jF (cI (fS (nV rfl a1 rfl (cE (aY rfl)) s1) (nV rfl b1 rfl (cE (cI (fS (aY rfl) (aY rfl)) (h3 m X h1 hm))) s2)) e9)
    refine⟨[some (.ref n),some (.ref k),some (mo m),some (pl X)],h1++g,rfl,k1.trans (Kp.app _ _),?_⟩;cases hd:IG a b m X with
    |true=>
     rw[hd] at c;exact .inr ⟨pl X,if_pos hd,by rw[bL (by rw[dB c,bL (bN (aY rfl))])]⟩
    |false=>
     rw[hd] at c;exact .inl ⟨if_neg (by rw[hd];exact Bool.noConfusion),_,by rw[aK (by rw[cC c,aV]),aV],⟨_,rfl⟩⟩)
  (k:=W) (by have:=FB oa;omega) (r:= [some (.ref n),some (.ref k),some (mo m),none]) ⟨_,rfl⟩
 have ec:ev G cl (.call 12 (n1 (.var 0))) [some (.ref n),some (.ref k),some (mo m),none] h=.ok (.ref h.length) h0:=cI (cE (aY rfl)) e12;unfold iM;rcases q with ⟨q1,r',h',q2,⟨d,rfl⟩,q3⟩|⟨d,h',q1,q2,q3⟩
 ·refine⟨h',?_,k0.trans q3⟩;rw[q1,aK (dG ec q2),bL (bN (kC ..))];rfl
 ·refine⟨h',?_,k0.trans q3⟩;rw[q1,bL (dG ec q2)];rfl
def Agl(cl:Cl)(f:Nat):Prop:=∀(s t:Sy)(h:Hh),cl f [s.d,t.d] h=.ok (.bl (QT s t)) h
noncomputable abbrev clI:Ss:=(t1 (.iff (.not (.call 24 (n2 (.call 25 (n2 (.var 0) (.tup (n2 (.var 3) (.var 4))))) (.call 25 (n2 (.var 1) (.call 19 (n2 (.var 2) (.tup (n2 (.var 3) (.var 4)))))))))) (t1 (.ret (.tup (n2 (.var 3) (.var 4))))) .nil))
noncomputable abbrev clL:Ss:=(t1 (.forr (.nm 4) (.r1 (.ix (.var 0) (.int 2))) clI))
noncomputable abbrev clB:Ss:=(t2 (.forr (.nm 3) (.r1 (.ix (.var 0) (.int 1))) clL) (.ret .non))
def EX(cl:Cl)(f:Nat):Prop:=∀(h:Hh)(a b:Pr)(m:M3),a.ok->b.ok->iJ m->∃h',cl f [a.p,b.p,mo m] h=.ok (dC (iM a b m)) h'/\Kp h h'
theorem QE(h19:XL cl 19)(h24:Agl cl 24)(h25:Lsq cl 25){h:Hh}{a b:Pr}{m:M3}(oa:a.ok)(ob:b.ok)(hm:iJ m):∃h',(bO G cl W clB [some a.p,some b.p,some (mo m),none,none] h).bind cU=.ok (dC (iM a b m)) h'/\Kp h h':=by
 have gw:=oa.g.hw;have gt:=oa.g.ht
 have q:=pK (t:=.nm 3) (body:=bO G cl W clL) (φ:=D.int) (l:=eF a.w) (h0:=h) (λx=>(eF a.t).findSome? λy=>if IG a b m (x,y)=true then some (pl (x,y)) else none) (λr=>∃c d,r=[some a.p,some b.p,some (mo m),c,d])
  (λx _ r h1 ⟨c,d,er⟩ k1=>by
    subst er
    have q:=pK (t:=.nm 4) (body:=bO G cl W clI) (φ:=D.int) (l:=eF a.t) (h0:=h) (λy=>if IG a b m (x,y)=true then some (pl (x,y)) else none) (λr=>∃d,r=[some a.p,some b.p,some (mo m),some (.int x),d])
     (λy _ r h2 ⟨d,er⟩ k2=>by
       subst er;have s1:=h25 h2 a.nm a.w a.t a.l a.U (x,y) oa.g;obtain⟨g,e19⟩:=h19 m (x,y) h2 hm;have s2:=h25 (h2++g) b.nm b.w b.t b.l b.U (qA m (x,y)) ob.g
       have c:ev G cl (.not (.call 24 (n2 (.call 25 (n2 (.var 0) (.tup (n2 (.var 3) (.var 4))))) (.call 25 (n2 (.var 1) (.call 19 (n2 (.var 2) (.tup (n2 (.var 3) (.var 4)))))))))) [some a.p,some b.p,some (mo m),some (.int x),some (.int y)] h2=.ok (.bl (IG a b m (x,y))) (h2++g):=
        jF (cI (fS (cI (fS (aY rfl) (cG (aY rfl) (aY rfl))) s1) (cI (fS (aY rfl) (cI (fS (aY rfl) (cG (aY rfl) (aY rfl))) e19)) s2)) (h24 (a.say (x,y)) (b.say (qA m (x,y))) (h2++g)))
       refine⟨[some a.p,some b.p,some (mo m),some (.int x),some (.int y)],h2++g,rfl,k2.trans (Kp.app _ _),?_⟩;cases hd:IG a b m (x,y) with
       |true=>
        rw[hd] at c;exact .inr ⟨pl (x,y),if_pos hd,by rw[bL (by rw[dB c,bL (bN (cG (aY rfl) (aY rfl)))])];rfl⟩
       |false=>
        rw[hd] at c;exact .inl ⟨if_neg (by rw[hd];exact Bool.noConfusion),_,by rw[aK (by rw[cC c,aV]),aV],⟨_,rfl⟩⟩)
     (r:= [some a.p,some b.p,some (mo m),some (.int x),d]) ⟨_,rfl⟩ k1
    rw[jR] at q;have i2:ev G cl (.ix (.var 0) (.int 2)) [some a.p,some b.p,some (mo m),some (.int x),d] h1=.ok (.int a.t) h1:=bB (x:=a.p) rfl (aF ..) rfl;rcases q with ⟨q1,r',h',q2,⟨d,rfl⟩,q3⟩|⟨d',h',q1,q2,q3⟩
    ·exact⟨[some a.p,some b.p,some (mo m),some (.int x),_],h',rfl,q3,.inl ⟨q1,_,by rw[aK (eB i2 (by unfold kJ;omega) q2),aV],⟨_,_,rfl⟩⟩⟩
    ·exact⟨[some a.p,some b.p,some (mo m),some (.int x),_],h',rfl,q3,.inr ⟨d',q1,by rw[bL (eB i2 (by unfold kJ;omega) q2)]⟩⟩)
  (r:= [some a.p,some b.p,some (mo m),none,none]) ⟨_,_,rfl⟩ (Kp.refl _)
 rw[jR, <- DS] at q;have i1:ev G cl (.ix (.var 0) (.int 1)) [some a.p,some b.p,some (mo m),none,none] h=.ok (.int a.w) h:=bB (x:=a.p) rfl (aF ..) rfl;rcases q with ⟨q1,r',h',q2,⟨c,d,rfl⟩,q3⟩|⟨d,h',q1,q2,q3⟩
 ·refine⟨h',?_,q3⟩;rw[q1,aK (eB i1 (by unfold kJ;omega) q2),bL (bN (kC ..))];rfl
 ·refine⟨h',?_,q3⟩;rw[q1,bL (eB i1 (by unfold kJ;omega) q2)];rfl
end
def ltS(a b:Str):Prop:=a.cps.toList<b.cps.toList
theorem ltS.asy{a b:Str}(h:ltS a b):¬ltS b a:=List.lt_asymm h
theorem qF{α:Type}(k:α->Str)(l:List α)(nd:(l.map k).Nodup):∃u:List α,u.Perm l/\u.Pairwise λa b=>ltS (k a) (k b):=by
 let le:α->α->Bool:=λa b=>decide ((k a).cps.toList<=(k b).cps.toList)
 have p:(l.mergeSort le).Perm l:=List.mergeSort_perm l _
 have s:(l.mergeSort le).Pairwise (λa b=>le a b=true):=List.pairwise_mergeSort (le:=le) (λa b c h1 h2=>decide_eq_true (List.le_trans (of_decide_eq_true h1) (of_decide_eq_true h2))) (λa b=>by
  rcases List.le_total (k a).cps.toList (k b).cps.toList with z|z
  ·rw[show le a b=true from decide_eq_true z];rfl
  ·rw[show le b a=true from decide_eq_true z];simp) l
 have nd':((l.mergeSort le).map k).Nodup:=(p.map k).nodup_iff.mpr nd;rw[List.Nodup,List.pairwise_map] at nd';refine⟨l.mergeSort le,p,List.Pairwise.imp (λ{a b} ⟨h1,h2⟩=>?_) (s.and nd')⟩;rcases List.le_iff_lt_or_eq.mp (of_decide_eq_true h1) with z|z
 ·exact z
 ·refine absurd ?_ h2;cases ha:k a with
  |mk xa=>
   cases hb:k b with
   |mk xb=>
    rw[ha,hb] at z;have z':xa=xb:=Array.toList_inj.mp z;rw[z']
def jO(U:List Pr):Prop:=U.Pairwise λa b=>ltS a.nm b.nm
noncomputable abbrev FI:O:=.tab 192 ⟨100,28,100,51⟩ "by_name.<locals>.<lambda>"
noncomputable def oQ(q:Pr×Nat):D:=EZ q.1 q.2
section
variable {G:Gs}{cl:Cl}{W:Nat}
theorem qT{h:Hh}{q:Pr×Nat}(P:qB q.1 q.2 h):oP h (oQ q)=some q.1.nm:=by
 obtain⟨k,p1,p2⟩:=P
 show(match h[q.2]? with
  |some (.ins c fs)=>if c=("Plate":Str) then(match fs.lookup ("name":Str) with|some (.str k)=>some k|_=>none) else none
  |_=>none)=_
 rw[p1];dsimp only;rw[if_pos rfl,fN]
theorem UZ{a:E}{P:Addr}{pos:Pos}{q:Str}{n:Nat}{l l':List D}{r:Ev}{h h1:Hh}(ha:ev G cl a r h=.ok (.ref n) h1)(e:aJ h1 n=some l)(z:uI h1 P pos q l=some l'):ev G cl (.sbn a P pos q) r h=.ok (.ref h1.length) (h1++ [.lst l']):=by
 have e0:ev G cl (.sbn a P pos q) r h=(ev G cl a r h).bind λx h=>FU P pos q x h:=by rw[ev]<;>rfl
 have e1:cF (.ref n) h1=true:=by rw[dU,e];rfl
 rw[e0,ha,aD];unfold FU;rw[e1,iS,e];dsimp only;rw[z]
noncomputable abbrev bnB:Ss:=(t1 (.ret (.sbn (.var 0) 192 ⟨100,28,100,51⟩ "by_name.<locals>.<lambda>")))
def Byn(cl:Cl)(f:Nat):Prop:=∀(h:Hh)(k:Nat)(M:List (Pr×Nat)),aJ h k=some (M.map oQ)->M.length<=12->(∀q∈M,qB q.1 q.2 h)->h[1]? =some FI->∀U:List Pr,U.Perm (M.map Prod.fst)->jO U->∃V:List (Pr×Nat),V.Perm M/\V.map Prod.fst=U/\cl f [.ref k] h=.ok (.ref h.length) (h++ [.lst (V.map oQ)])
theorem TV{U:List Pr}(s:jO U):(U.map Pr.nm).Nodup:=by
 rw[List.Nodup,List.pairwise_map];exact List.Pairwise.imp (λ{a b} h e=>by rw[e] at h;exact absurd h h.asy) s
theorem QK{h:Hh}{k:Nat}{M:List (Pr×Nat)}(hk:aJ h k=some (M.map oQ))(hl:M.length<=12)(hP:∀q∈M,qB q.1 q.2 h)(h1:h[1]? =some FI){U:List Pr}(pU:U.Perm (M.map Prod.fst))(sU:jO U):
 ∃V:List (Pr×Nat),V.Perm M/\V.map Prod.fst=U/\(bO G cl W bnB [some (.ref k)] h).bind cU=.ok (.ref h.length) (h++ [.lst (V.map oQ)]):=by
 have nd:(M.map λq=>q.1.nm).Nodup:=by
  have:=(pU.map Pr.nm).nodup_iff.mp (TV sU);rwa [List.map_map] at this
 obtain⟨V,pV,sV⟩:=qF (λq:Pr×Nat=>q.1.nm) M nd;have eV:V.map Prod.fst=U:=fC (R:=λa b:Pr=>ltS a.nm b.nm) (λx y a b=>a.asy b) ((pV.map Prod.fst).trans pU.symm) (by rw[List.pairwise_map];exact sV) sU;refine⟨V,pV,eV,?_⟩
 have z:uI h 192 ⟨100,28,100,51⟩ "by_name.<locals>.<lambda>" (M.map oQ)=some (V.map oQ):=by
  refine FS ⟨by rw[Zc];omega,h1,λx hx=>?_⟩ (pV.map oQ) ?_
  ·obtain⟨q,hq,rfl⟩:=List.mem_map.mp hx;exact⟨_,qT (hP q hq)⟩
  ·rw[List.pairwise_map];refine List.Pairwise.imp_of_mem (λ{a b} ha hb h=>?_) sV;have ka:=qT (hP a (pV.mem_iff.mp ha));have kb:=qT (hP b (pV.mem_iff.mp hb));constructor
   ·unfold yP;rw[ka,kb];exact congrArg some (decide_eq_true h)
   ·unfold yP;rw[ka,kb];exact congrArg some (decide_eq_false h.asy)
 rw[bL (bN (UZ (aY rfl) hk z))];rfl
noncomputable def sE(a b:Pr):Option D:=(iM a b (bh a.m (bk b.m))).map λd=>.tup [.str a.nm,.str b.nm,d]
noncomputable def mL(U1 U2:List Pr):Option D:=U1.findSome? λa=>U2.findSome? (sE a)
theorem qX{a b:Pr}{m:M3}{d:D}(h:iM a b m=some d):∃X,d=pl X:=by
 unfold iM at h;obtain⟨X,_,e⟩:=List.exists_of_findSome?_eq_some h;split at e
 ·exact⟨X,(Zg e).symm⟩
 ·cases e
def N0(cl:Cl)(f:Nat):Prop:=∀(a b:M3)(h:Hh),iJ a->iJ b->cl f [mo a,mo b] h=.ok (mo (bh a b)) h
theorem vG{a b c:E}{x y z:D}{r:Ev}{h h1 h2 h3:Hh}(ha:ev G cl a r h=.ok x h1)(hb:ev G cl b r h1=.ok y h2)(hc:ev G cl c r h2=.ok z h3):ev G cl (.tup (.cons a (.cons b (.cons c .nil)))) r h=.ok (.tup [x,y,z]) h3:=jE (lB ha hb hc) (eR rfl)
noncomputable abbrev RA:Ss:=(t2 (.asg (.nm 7) (.call 14 (n3 (.var 3) (.var 5) (.call 5 (n2 (.var 4) (.call 6 (n1 (.var 6)))))))) (.iff (.cmp .isnot (.var 7) .non) (t1 (.ret (.tup (n3 (.att (.var 3) "Plate" "name") (.att (.var 5) "Plate" "name") (.var 7))))) .nil))
noncomputable abbrev unL:Ss:=(t1 (.forr (.tp [5,6]) (.sq (.var 2)) RA))
noncomputable abbrev unB:Ss:=(t3 (.asg (.nm 2) (.call 13 (n1 (.var 1)))) (.forr (.tp [3,4]) (.sq (.call 13 (n1 (.var 0)))) unL) (.ret .non))
def K5(cl:Cl)(f:Nat):Prop:=∀(h:Hh)(k1 k2:Nat)(M1 M2:List (Pr×Nat)),aJ h k1=some (M1.map oQ)->aJ h k2=some (M2.map oQ)->M1.length<=12->M2.length<=12->(∀q∈M1,qB q.1 q.2 h)->(∀q∈M2,qB q.1 q.2 h)->(∀q∈M1,q.1.ok)->(∀q∈M2,q.1.ok)->h[1]? =some FI->∀U1 U2:List Pr,U1.Perm (M1.map Prod.fst)->jO U1->U2.Perm (M2.map Prod.fst)->jO U2->∃h',cl f [.ref k1,.ref k2] h=.ok (dC (mL U1 U2)) h'/\Kp h h'
theorem FE(h5:N0 cl 5)(h6:N4 cl 6)(h14:M7 cl 14){h0:Hh}{q s:Pr×Nat}(P1:qB q.1 q.2 h0)(P2:qB s.1 s.2 h0)(o1:q.1.ok)(o2:s.1.ok){d0 d1 d2:Option D}{F:Ev->Prop}(hF:∀a b c,F [d0,d1,d2,some (.ref q.2),some (mo q.1.m),a,b,c]){r:Ev}{h:Hh}(hr:∃a b c,r=[d0,d1,d2,some (.ref q.2),some (mo q.1.m),a,b,c])(kp:Kp h0 h):
 ∃r1 h2,cX (.tp [5,6]) (oQ s) r=some r1/\Kp h0 h2/\((sE q.1 s.1=none/\∃r2,bO G cl W RA r1 h=.ok (.nx r2) h2/\F r2)\/∃d,sE q.1 s.1=some d/\bO G cl W RA r1 h=.ok (.rt d) h2):=by
 obtain⟨a,b,c,rfl⟩:=hr;have P1':=PlateAt.kp P1 kp;have P2':=PlateAt.kp P2 kp;obtain⟨h',e14,k14⟩:=h14 h q.2 s.2 q.1 s.1 (bh q.1.m (bk s.1.m)) P1' P2' o1 o2 (F7 _ _);obtain⟨ka,a1,_⟩:=PlateAt.kp P1' k14;obtain⟨kb,b1,_⟩:=PlateAt.kp P2' k14;refine⟨[d0,d1,d2,some (.ref q.2),some (mo q.1.m),some (.ref s.2),some (mo s.1.m),c],h',rfl,kp.trans k14,?_⟩
 have e7:xs G cl W (.asg (.nm 7) (.call 14 (n3 (.var 3) (.var 5) (.call 5 (n2 (.var 4) (.call 6 (n1 (.var 6)))))))) [d0,d1,d2,some (.ref q.2),some (mo q.1.m),some (.ref s.2),some (mo s.1.m),c] h=.ok (.nx [d0,d1,d2,some (.ref q.2),some (mo q.1.m),some (.ref s.2),some (mo s.1.m),some (dC (iM q.1 s.1 (bh q.1.m (bk s.1.m))))]) h':=
  bC (cI (lB (aY rfl) (aY rfl) (cI (fS (aY rfl) (cI (cE (aY rfl)) (h6 _ _ o2.m))) (h5 _ _ _ o1.m (F6 o2.m)))) e14)
 rw[aK e7];unfold sE;cases hd:iM q.1 s.1 (bh q.1.m (bk s.1.m)) with
 |none=>
  refine .inl ⟨rfl,[d0,d1,d2,some (.ref q.2),some (mo q.1.m),some (.ref s.2),some (mo s.1.m),some .non],?_,hF _ _ _⟩;rw[aK (r':= [d0,d1,d2,some (.ref q.2),some (mo q.1.m),some (.ref s.2),some (mo s.1.m),some .non]) (by rw[cC (bK (x:=.non) (y:=.non) (h3:=h') (aY rfl) (kC ..) rfl),aV];rfl),aV]
 |some d=>
  obtain⟨X,rfl⟩:=qX hd;refine .inr ⟨_,rfl,?_⟩;rw[bL (by rw[dB (bK (x:=pl X) (y:=.non) (h3:=h') (aY rfl) (kC ..) rfl),bL (bN (vG (dX rfl a1 (fN ..)) (dX rfl b1 (fN ..)) (aY rfl)))])];rfl
theorem LS(hW:100<=W)(h5:N0 cl 5)(h6:N4 cl 6)(h13:Byn cl 13)(h14:M7 cl 14){h:Hh}{k1 k2:Nat}{M1 M2:List (Pr×Nat)}(hk1:aJ h k1=some (M1.map oQ))(hk2:aJ h k2=some (M2.map oQ))(l1:M1.length<=12)(l2:M2.length<=12)(P1:∀q∈M1,qB q.1 q.2 h)(P2:∀q∈M2,qB q.1 q.2 h)(o1:∀q∈M1,q.1.ok)(o2:∀q∈M2,q.1.ok)(ht:h[1]? =some FI){U1 U2:List Pr}(p1:U1.Perm (M1.map Prod.fst))(s1:jO U1)(p2:U2.Perm (M2.map Prod.fst))(s2:jO U2):
 ∃h',(bO G cl W unB [some (.ref k1),some (.ref k2),none,none,none,none,none,none] h).bind cU=.ok (dC (mL U1 U2)) h'/\Kp h h':=by
 obtain⟨V2,q2,e2,c2⟩:=h13 h k2 M2 hk2 l2 P2 ht U2 p2 s2;have a1:Kp h (h++ [.lst (V2.map oQ)]):=Kp.app _ _;have b2:=aU h (V2.map oQ);generalize h++ [O.lst (V2.map oQ)]=h1 at c2 a1 b2;obtain⟨V1,q1,e1,c1⟩:=h13 h1 k1 M1 (a1.lst hk1) l1 (λq hq=>PlateAt.kp (P1 q hq) a1) (a1 _ _ ht) U1 p1 s1;have a2:Kp h1 (h1++ [.lst (V1.map oQ)]):=Kp.app _ _;have b1:=aU h1 (V1.map oQ);generalize h1++ [O.lst (V1.map oQ)]=h2 at c1 a2 b1;have k02:=a1.trans a2;have L1:V1.length<W:=by have:=q1.length_eq;omega
 have L2:V2.length<W:=by have:=q2.length_eq;omega
 have fst_fs:∀(V:List (Pr×Nat))(f:Pr->Option D),(V.findSome? λq=>f q.1)=(V.map Prod.fst).findSome? f:=λV f=>by rw[List.findSome?_map];rfl
 have q:=kZ (t:=.tp [3,4]) (body:=bO G cl W unL) (φ:=oQ) (l:=V1) (h0:=h2) (λq=>U2.findSome? (sE q.1)) (λr=>∃a b c d e,r=[some (.ref k1),some (.ref k2),some (.ref h.length),a,b,c,d,e]) b1
  (λq hq r h3 ⟨a,b,c,d,e,er⟩ k3=>by
    subst er
    have q':=kZ (t:=.tp [5,6]) (body:=bO G cl W RA) (φ:=oQ) (l:=V2) (h0:=h3) (λs=>sE q.1 s.1) (λr=>∃a b c,r=[some (.ref k1),some (.ref k2),some (.ref h.length),some (.ref q.2),some (mo q.1.m),a,b,c]) (k3.lst (a2.lst b2))
     (λs hs r h4 hr k4=>FE h5 h6 h14 (PlateAt.kp (P1 q (q1.mem_iff.mp hq)) (k02.trans k3)) (PlateAt.kp (P2 s (q2.mem_iff.mp hs)) (k02.trans k3)) (o1 q (q1.mem_iff.mp hq)) (o2 s (q2.mem_iff.mp hs)) (λa b c=>⟨a,b,c,rfl⟩) hr k4)
     (k:=W) L2 (r:= [some (.ref k1),some (.ref k2),some (.ref h.length),some (.ref q.2),some (mo q.1.m),c,d,e]) ⟨_,_,_,rfl⟩
    rw[fst_fs,e2] at q';rcases q' with ⟨z1,r',h',z2,⟨a,b,c,rfl⟩,z3⟩|⟨d',h',z1,z2,z3⟩
    ·exact⟨[some (.ref k1),some (.ref k2),some (.ref h.length),some (.ref q.2),some (mo q.1.m),_,_,_],h',rfl,k3.trans z3,.inl ⟨z1,_,by rw[aK (dG (aY rfl) z2),aV],⟨_,_,_,_,_,rfl⟩⟩⟩
    ·exact⟨[some (.ref k1),some (.ref k2),some (.ref h.length),some (.ref q.2),some (mo q.1.m),_,_,_],h',rfl,k3.trans z3,.inr ⟨d',z1,by rw[bL (dG (aY rfl) z2)]⟩⟩)
  (k:=W) L1 (r:= [some (.ref k1),some (.ref k2),some (.ref h.length),none,none,none,none,none]) ⟨_,_,_,_,_,rfl⟩
 rw[fst_fs V1 (λa=>U2.findSome? (sE a)),e1] at q;have ec:ev G cl (.call 13 (n1 (.var 0))) [some (.ref k1),some (.ref k2),some (.ref h.length),none,none,none,none,none] h1=.ok (.ref h1.length) h2:=cI (cE (aY rfl)) c1;rw[aK (r':= [some (.ref k1),some (.ref k2),some (.ref h.length),none,none,none,none,none]) (h':=h1) (bC (cI (cE (aY rfl)) c2))];unfold mL;rcases q with ⟨z1,r',h',z2,⟨a,b,c,d,e,rfl⟩,z3⟩|⟨d',h',z1,z2,z3⟩
 ·refine⟨h',?_,k02.trans z3⟩;rw[z1,aK (dG ec z2),bL (bN (kC ..))];rfl
 ·refine⟨h',?_,k02.trans z3⟩;rw[z1,bL (dG ec z2)];rfl
end
noncomputable def pS(f:Pr->D)(R:List Pr):List (cB×D):=R.map λr=>((.inr r.nm:cB),f r)
theorem IW{f:Pr->D}{R:List Pr}(nd:(R.map Pr.nm).Nodup){a:Pr}(h:a∈R):gN (pS f R) (.inr a.nm)=some (f a):=by
 induction R with
 |nil=>cases h
 |cons r R ih=>
  rw[Zh,List.nodup_cons] at nd;show gN ((.inr r.nm,f r)::pS f R) _=_;rw[xV];rcases List.mem_cons.mp h with rfl|h
  ·rw[if_pos rfl]
  ·rw[if_neg,ih nd.2 h];intro e;have e':r.nm=a.nm:=Sum.inr.inj e;exact nd.1 (by rw[e'];exact List.mem_map.mpr ⟨a,h,rfl⟩)
theorem xK{f:Pr->D}{R:List Pr}{r:Pr}(h:r.nm ∉ R.map Pr.nm):sC (pS f R) (.inr r.nm) (f r)=pS f (R++ [r]):=by
 unfold sC;rw[if_neg,pS,pS,List.map_append]
 ·rfl
 ·intro e;obtain⟨kv,hk,e⟩:=List.any_eq_true.mp e;obtain⟨q,hq,rfl⟩:=List.mem_map.mp hk;have e':q.nm=r.nm:=Sum.inr.inj (of_decide_eq_true e);exact h (by rw[<- e'];exact List.mem_map.mpr ⟨q,hq,rfl⟩)
theorem sN(f:Pr->D):∀R:List Pr,nJ (pS f R)=some (R.map Pr.nm)
 | []=>rfl
 |r::R=>by
  show(nJ (pS f R)).map (r.nm:: ·)=_
  rw[sN f R];rfl
theorem JB{a b:Str}(h:ltS a b):Bef lS (.str a) (.str b):=⟨congrArg some (decide_eq_true h),congrArg some (decide_eq_false h.asy)⟩
theorem JC{a b:Pr}(h:ltS a.nm b.nm):Bef lS (oJ a) (oJ b):=by
 have n1:¬a.nm=b.nm:=λe=>by rw[e] at h;exact h.asy h
 have n2:¬b.nm=a.nm:=λe=>n1 e.symm;constructor
 ·show(if a.nm=b.nm then _ else _)=_
  rw[if_neg n1];exact congrArg some (decide_eq_true h)
 ·show(if b.nm=a.nm then _ else _)=_
  rw[if_neg n2];exact congrArg some (decide_eq_false h.asy)
theorem AN{R U:List Pr}(hl:R.length<=12)(p:U.Perm R)(s:jO U):mS ((R.map Pr.nm).map D.str)=some ((U.map Pr.nm).map D.str):=by
 refine qD ⟨by simp;omega,.inr ⟨2,by decide,λx hx=>?_⟩⟩ ((p.map Pr.nm).map D.str) ?_
 ·obtain⟨y,_,rfl⟩:=List.mem_map.mp hx;rfl
 ·rw[List.map_map,List.pairwise_map];exact List.Pairwise.imp (λh=>JB h) s
theorem FL{R U:List Pr}(hl:R.length<=12)(p:U.Perm R)(s:jO U):mS (R.map oJ)=some (U.map oJ):=by
 refine qD ⟨by simp;omega,.inr ⟨4,by decide,λx hx=>?_⟩⟩ (p.map oJ) ?_
 ·obtain⟨y,_,rfl⟩:=List.mem_map.mp hx;rfl
 ·rw[List.pairwise_map];exact List.Pairwise.imp (λh=>JC h) s
theorem CZ{R:List Pr}(nd:(R.map Pr.nm).Nodup){u:Pr}(h:u∈R):R.filter (λr=>decide (r.nm=u.nm))=[u]:=by
 induction R with
 |nil=>cases h
 |cons r R ih=>
  rw[Zh,List.nodup_cons] at nd;rcases List.mem_cons.mp h with rfl|h
  ·rw[List.filter_cons,if_pos (decide_eq_true rfl),List.filter_eq_nil_iff.mpr];intro q hq e;exact nd.1 (List.mem_map.mpr ⟨q,hq,of_decide_eq_true e⟩)
  ·rw[List.filter_cons,if_neg,ih nd.2 h];intro e;exact nd.1 (by rw[of_decide_eq_true e];exact List.mem_map.mpr ⟨u,h,rfl⟩)
section
variable {G:Gs}{cl:Cl}{W:Nat}
theorem JW{h:Hh}{q:Nat}{N:List (cB×D)}(x:Str)(v:D)(e:h[q]? =some (.dct N))(hn:N.length<1000):uE (.ref q) (.str x) v h=.ok () (h.set q (.dct (sC N (.inr x) v))):=by
 unfold uE;dsimp only;rw[e];dsimp only;unfold tF;rw[e]
 show(if _ then _ else _)=_
 rw[if_pos hn]
theorem UU{c:E}{b:Bool}{r:Ev}{h h':Hh}(hc:ev G cl c r h=.ok (.bl b) h'):kB G cl (.cons c .nil) r h=.ok b h':=by
 rw[wX,hc,aD,tU];cases b
 ·rfl
 ·exact jD ..
theorem AB{o i e:E}{x y z:D}{r:Ev}{h h':Hh}(he:ev G cl e r h=.ok z h)(ho:ev G cl o r h=.ok x h)(hi:ev G cl i r h=.ok y h)(hs:uE x y z h=.ok () h'):xs G cl W (.stx o i e) r h=.ok (.nx r) h':=by
 rw[RU,he,dS,aD,ho,dS,aD,hi,dS,aD,hs,dS,aD]
theorem UI{h:Hh}{n:Nat}{f:Pr->D}{R:List Pr}{a:Pr}(e:h[n]? =some (.dct (pS f R)))(nd:(R.map Pr.nm).Nodup)(ha:a∈R):jA (.ref n) (.str a.nm) h=.ok (f a) h:=by
 rw[A2 h (.str a.nm) e]
 show(match gN (pS f R) (.inr a.nm) with|some d=>Rs.ok d h|none=>.bad)=_
 rw[IW nd ha]
noncomputable abbrev Z6:=Option D×Option D×Option D×Option D×Option D×Option D
noncomputable def iL(z:Z6)(p6 p7 a b:Nat)(d10 d11 d12 d13 d14 d15:Option D):Ev:= [z.1,z.2.1,z.2.2.1,z.2.2.2.1,z.2.2.2.2.1,z.2.2.2.2.2,some (.ref p6),some (.ref p7),some (.ref a),some (.ref b),d10,d11,d12,d13,d14,d15,none,none]
noncomputable abbrev XC:Ss:=(t2 (.stx (.var 8) (.ix (.var 10) (.int 0)) (.var 10)) (.stx (.var 9) (.ix (.var 10) (.int 0)) (.var 11)))
theorem PN(hW:100<=W){h0 h:Hh}{z:Z6}{p6 p7 a b:Nat}{R:List Pr}(hR:aJ h0 p6=some (R.map Pr.d))(hl:R.length<=12)(nd:(R.map Pr.nm).Nodup)(ha:h0.length<=a)(hb:h0.length<=b)(ab:a≠b)(k0:Kp h0 h)(ea:h[a]? =some (.dct []))(eb:h[b]? =some (.dct [])):
 ∃h' d10 d11,xs G cl W (.forr (.tp [10,11]) (.sq (.var 6)) XC) (iL z p6 p7 a b none none none none none none) h=.ok (.nx (iL z p6 p7 a b d10 d11 none none none none)) h'/\Kp h0 h'/\h'[a]? =some (.dct (pS Pr.p R))/\h'[b]? =some (.dct (pS (λr=>mo r.m) R)):=by
 rcases gX (t:=.tp [10,11]) (body:=bO G cl W XC) (n:=p6) (l:=R.map Pr.d) (λi r h'=>∃d10 d11,r=iL z p6 p7 a b d10 d11 none none none none/\Kp h0 h'/\h'[a]? =some (.dct (pS Pr.p (R.take i)))/\h'[b]? =some (.dct (pS (λr=>mo r.m) (R.take i)))) (λ_ _=>False) (λi r h' ⟨_,_,_,k,_⟩=>k.lst hR)
  (λi d hd r h' ⟨d10,d11,er,k,e1,e2⟩=>by
    subst er;obtain⟨q,hq,hm,rfl⟩:=gG hd;have hlt:=(Ze.mp hq).1;have tk:R.take (i+1)=R.take i++ [q]:=by rw[List.take_succ,hq];rfl
    have nq:q.nm ∉ (R.take i).map Pr.nm:=by
     have:((R.take (i+1)).map Pr.nm).Nodup:=(List.Sublist.map Pr.nm (List.take_sublist _ _)).nodup nd;rw[tk,List.map_append,List.nodup_append] at this;intro z;exact this.2.2 _ z _ (List.mem_singleton.mpr rfl) rfl
    have ln:∀f:Pr->D,(pS f (R.take i)).length<1000:=λf=>by unfold pS;rw[Zc,List.length_take];omega
    have i0:∀h,ev G cl (.ix (.var 10) (.int 0)) (iL z p6 p7 a b (some q.p) (some (mo q.m)) none none none none) h=.ok (.str q.nm) h:=λh=>bB (x:=q.p) rfl (aF ..) rfl;have s1:=JW q.nm q.p e1 (ln _);rw[xK nq] at s1;have e2':(h'.set a (.dct (pS Pr.p (R.take i++ [q]))))[b]? =some (.dct (pS (λr=>mo r.m) (R.take i))):=by rw[List.getElem?_set_ne ab];exact e2
    have s2:=JW q.nm (mo q.m) e2' (ln _);rw[xK (f:=λr=>mo r.m) nq] at s2
    refine⟨iL z p6 p7 a b (some q.p) (some (mo q.m)) none none none none,rfl,.inl ⟨_,_,by
     rw[aK (AB (x:=.ref a) (aY rfl) (aY rfl) (i0 _) s1),aK (AB (x:=.ref b) (aY rfl) (aY rfl) (i0 _) s2),aV],_,_,rfl,(k.set _ ha).set _ hb,?_,?_⟩⟩
    ·rw[List.getElem?_set_ne (Ne.symm ab),gF e1,tk]
    ·rw[gF e2',tk])
  W 0 (iL z p6 p7 a b none none none none none none) h ⟨_,_,rfl,k0,ea,eb⟩ (Nat.zero_le _) (by rw[Zc];omega) with ⟨r',h',e,d10,d11,er,q1,q2,q3⟩|⟨_,_,_,z⟩
 ·subst er;rw[Zc,List.take_length] at q2 q3;exact⟨h',d10,d11,dG (aY rfl) e,q1,q2,q3⟩
 ·exact z.elim
def tupO(o:Option D):Prop:=∀d,o=some d->∃ds,d=.tup ds
theorem tupO.or{x y:Option D}(a:tupO x)(b:tupO y):tupO (x.or y):=λd e=>by
 cases x with
 |none=>exact b d e
 |some z=>exact a d e
theorem AH(a b:Pr):tupO (sE a b):=λd e=>by
 unfold sE at e;obtain⟨x,_,rfl⟩:=Option.map_eq_some_iff.mp e;exact⟨_,rfl⟩
theorem uB{α:Type}{f:α->Option D}(h:∀a,tupO (f a))(l:List α):tupO (l.findSome? f):=λd e=>by
 obtain⟨a,_,e⟩:=List.exists_of_findSome?_eq_some e;exact h a d e
theorem wS{α β:Type}{l:List α}{f:α->Option β}{i:Nat}{a:α}(ha:l[i]? =some a):(l.take (i+1)).findSome? f=((l.take i).findSome? f).or (f a):=by
 rw[List.take_succ,List.findSome?_append,ha];congr 1;show List.findSome? f [a]=f a;rw[List.findSome?_cons];cases f a<;>rfl
noncomputable abbrev duC:E:=(.comp (.tp [0,1]) .sq (n1 (.var 7)) (n1 (.cmp .eq (.ix (.var 0) (.int 0)) (.var 2))) (.var 0) ["_law_one","_law_own","_law_there"] [14])
noncomputable abbrev B0:Ss:=(t3 (.asg (.nm 10) (.ix duC (.int 0))) (.asg (.nm 15) (.call 30 (n3 (.ix (.var 8) (.var 13)) (.var 10) (.call 20 (n2 (.ix (.var 9) (.var 13)) (.call 21 (n1 (.var 11)))))))) (.iff (.and (.cmp .is (.var 12) .non) (.cmp .isnot (.var 15) .non)) (t1 (.asg (.nm 12) (.tup (n3 (.var 13) (.var 14) (.var 15))))) .nil))
structure Due (h0:Hh)(p7 a b:Nat)(R1 R2:List Pr):Prop where
 ea:h0[a]? =some (.dct (pS Pr.p R1))
 eb:h0[b]? =some (.dct (pS (λr=>mo r.m) R1))
 e7:aJ h0 p7=some (R2.map Pr.d)
 l1:R1.length<=12
 l2:R2.length<=12
 n1:(R1.map Pr.nm).Nodup
 n2:(R2.map Pr.nm).Nodup
 o1:∀r∈R1,r.ok
 o2:∀r∈R2,r.ok
noncomputable def eD(z:Z6)(p6 p7 a b:Nat)(q u:Pr)(du:Option D)(x:Option D):Ev:=iL z p6 p7 a b (some u.p) (some (mo u.m)) (some (dC du)) (some (.str q.nm)) (some (.str u.nm)) x
theorem DN(h20:QY cl 20)(h21:QX cl 21)(h30:EX cl 30){h0 h:Hh}{z:Z6}{p6 p7 a b:Nat}{R1 R2:List Pr}(Q:Due h0 p7 a b R1 R2){q u:Pr}(hq:q∈R1)(hu:u∈R2){du:Option D}(td:tupO du)(kp:Kp h0 h)(d10 d15:Option D):
 ∃h' d10' d15',bO G cl W B0 (iL z p6 p7 a b d10 (some (mo u.m)) (some (dC du)) (some (.str q.nm)) (some (.str u.nm)) d15) h=.ok (.nx (iL z p6 p7 a b d10' (some (mo u.m)) (some (dC (du.or (sE q u)))) (some (.str q.nm)) (some (.str u.nm)) d15')) h'/\Kp h0 h':=by
 have oq:=Q.o1 q hq;have ou:=Q.o2 u hu
 obtain⟨gb,q1⟩:=mD (G:=G) (cl:=cl) (t:=.tp [0,1]) (it:=.cons (.var 7) .nil) (cs:=.cons (.cmp .eq (.ix (.var 0) (.int 0)) (.var 2)) .nil) (e:=.var 0) (N:= ["_law_one","_law_own","_law_there"]) (cap:= [14]) (r:=iL z p6 p7 a b d10 (some (mo u.m)) (some (dC du)) (some (.str q.nm)) (some (.str u.nm)) d15) (h:=h) (h1:=h) (l:=R2) Pr.d (λr=>∃x y,r=[x,y,some (.str u.nm)]) (λr=>decide (r.nm=u.nm)) Pr.p (cE (aY rfl)) (kp.lst Q.e7) (by have:=Q.l2;omega) ⟨_,_,rfl⟩
  (λs _=>⟨λr ys gb ⟨x,y,er⟩=>by
    subst er;refine⟨[some s.p,some (mo s.m),some (.str u.nm)],[],rfl,?_,⟨_,_,rfl⟩,λ_=>⟨[],?_⟩⟩
    ·rw[Zm];have c:ev G cl (.cmp .eq (.ix (.var 0) (.int 0)) (.var 2)) [some s.p,some (mo s.m),some (.str u.nm)] (h++ .lst ys::gb)=.ok (.bl (decide (s.nm=u.nm))) (h++ .lst ys::gb):=bK (bB (x:=s.p) (d:=.str s.nm) rfl (aF ..) rfl) (aY rfl) (E9 ..);exact UU c
    ·rw[Zm,Zm];exact aY rfl⟩)
 rw[CZ Q.n2 hu] at q1;have k1:Kp h (h++ .lst ([u].map Pr.p)::gb):=Kp.app _ _
 have x1:jA (.ref h.length) (.int 0) (h++ .lst ([u].map Pr.p)::gb)=.ok u.p (h++ .lst ([u].map Pr.p)::gb):=by
  rw[lV _ _ (cM ..)];rfl
 generalize h++O.lst ([u].map Pr.p)::gb=h1 at q1 k1 x1;have kp1:=kp.trans k1;rw[aK (r':=eD z p6 p7 a b q u du d15) (h':=h1) (bC (VF q1 (aF ..) x1))];obtain⟨g2,e2⟩:=h21 u.m h1 ou.m;obtain⟨g3,e3⟩:=h20 q.m (bk u.m) (h1++g2) oq.m (F6 ou.m);obtain⟨h',e4,k4⟩:=h30 (h1++g2++g3) q u (bh q.m (bk u.m)) oq ou (F7 _ _);have x2:=UI (a:=q) (kp1 _ _ Q.ea) Q.n1 hq;have x3:jA (.ref b) (.str q.nm) h1=.ok (mo q.m) h1:=UI (a:=q) (kp1 _ _ Q.eb) Q.n1 hq;have kp':Kp h0 h':=((kp1.trans (Kp.app _ _)).trans (Kp.app _ _)).trans k4;rw[aK (r':=eD z p6 p7 a b q u du (some (dC (iM q u (bh q.m (bk u.m)))))) (h':=h') (bC (cI (lB (bB rfl (aY rfl) x2) (aY rfl) (cI (fS (bB rfl (aY rfl) x3) (cI (cE (aY rfl)) e2)) e3)) e4))];have c1:∀d15,ev G cl (.cmp .is (.var 12) .non) (eD z p6 p7 a b q u du d15) h'=.ok (.bl (fR (dC du))) h':=λd15=>bK (aY rfl) (kC ..) (WB ..);have c2:∀d15:D,ev G cl (.cmp .isnot (.var 15) .non) (eD z p6 p7 a b q u du (some d15)) h'=.ok (.bl (!fR d15)) h':=λd15=>bK (aY rfl) (kC ..) (WA ..);cases hd:du with
 |some d=>
  obtain⟨ds,rfl⟩:=td d hd;subst hd;refine⟨h',some u.p,some (dC (iM q u (bh q.m (bk u.m)))),?_,kp'⟩;rw[aK (r':=iL z p6 p7 a b (some u.p) (some (mo u.m)) (some (.tup ds)) (some (.str q.nm)) (some (.str u.nm)) (some (dC (iM q u (bh q.m (bk u.m)))))) (h':=h') (by rw[cC (c:=.and (.cmp .is (.var 12) .non) (.cmp .isnot (.var 15) .non)) (h':=h') (by rw[lP,c1,aD];rfl),aV];rfl),aV];rfl
 |none=>
  subst hd;unfold sE;cases hn:iM q u (bh q.m (bk u.m)) with
  |none=>
   refine⟨h',some u.p,some .non,?_,kp'⟩;rw[aK (r':=iL z p6 p7 a b (some u.p) (some (mo u.m)) (some .non) (some (.str q.nm)) (some (.str u.nm)) (some .non)) (h':=h') (by rw[cC (c:=.and (.cmp .is (.var 12) .non) (.cmp .isnot (.var 15) .non)) (h':=h') (by rw[lP,c1,aD];exact c2 _),aV];rfl),aV];rfl
  |some d=>
   obtain⟨X,rfl⟩:=qX hn;refine⟨h',some u.p,some (pl X),?_,kp'⟩;rw[aK (r':=iL z p6 p7 a b (some u.p) (some (mo u.m)) (some (.tup [.str q.nm,.str u.nm,pl X])) (some (.str q.nm)) (some (.str u.nm)) (some (pl X))) (h':=h') (by rw[dB (c:=.and (.cmp .is (.var 12) .non) (.cmp .isnot (.var 15) .non)) (h':=h') (by rw[lP,c1,aD];exact c2 _),aK (bC (vG (aY rfl) (aY rfl) (aY rfl))),aV];rfl),aV];rfl
theorem Due.kp{h0 h:Hh}{p7 a b:Nat}{R1 R2:List Pr}(Q:Due h0 p7 a b R1 R2)(k:Kp h0 h):Due h p7 a b R1 R2:=⟨k _ _ Q.ea,k _ _ Q.eb,k.lst Q.e7,Q.l1,Q.l2,Q.n1,Q.n2,Q.o1,Q.o2⟩
noncomputable abbrev duS:E:=(.comp (.tp [0,1]) .sq (n1 (.var 7)) .nil (.tup (n2 (.ix (.var 0) (.int 0)) (.var 1))) ["_law_pane_here","_law_own"] [])
noncomputable abbrev VJ:Ss:=(t1 (.forr (.tp [14,11]) (.sq (.blt .sorted (.cons duS .nil))) B0))
theorem IA(hW:100<=W)(h20:QY cl 20)(h21:QX cl 21)(h30:EX cl 30){h0 h:Hh}{z:Z6}{p6 p7 a b:Nat}{R1 R2 U2:List Pr}(Q:Due h0 p7 a b R1 R2)(p2:U2.Perm R2)(s2:jO U2){q:Pr}(hq:q∈R1){du:Option D}(td:tupO du)(kp:Kp h0 h)(d10 d11 d14 d15:Option D):
 ∃h' d10' d11' d14' d15',bO G cl W VJ (iL z p6 p7 a b d10 d11 (some (dC du)) (some (.str q.nm)) d14 d15) h=.ok (.nx (iL z p6 p7 a b d10' d11' (some (dC (du.or (U2.findSome? (sE q))))) (some (.str q.nm)) d14' d15')) h'/\Kp h0 h':=by
 obtain⟨gb,q1⟩:=kD (G:=G) (cl:=cl) (t:=.tp [0,1]) (it:=.cons (.var 7) .nil) (e:=.tup (n2 (.ix (.var 0) (.int 0)) (.var 1))) (N:= ["_law_pane_here","_law_own"]) (cap:= []) (r:=iL z p6 p7 a b d10 d11 (some (dC du)) (some (.str q.nm)) d14 d15) (h:=h) (h1:=h) (l:=R2) Pr.d (λr=>∃x y,r=[x,y]) oJ (cE (aY rfl)) (kp.lst Q.e7) (by have:=Q.l2;omega) ⟨_,_,rfl⟩
  (λs _ r h ⟨x,y,er⟩=>by
    subst er;exact⟨[some s.p,some (mo s.m)],rfl,⟨_,_,rfl⟩,cG (bB (x:=s.p) (d:=.str s.nm) rfl (aF ..) rfl) (aY rfl)⟩)
 have k1:Kp h (h++ .lst (R2.map oJ)::gb):=Kp.app _ _;have x1:=cM h gb (R2.map oJ);generalize h++O.lst (R2.map oJ)::gb=h1 at q1 k1 x1;have q2:ev G cl (.blt .sorted (.cons duS .nil)) (iL z p6 p7 a b d10 d11 (some (dC du)) (some (.str q.nm)) d14 d15) h=.ok (.ref h1.length) (h1++ [.lst (U2.map oJ)]):=kF (cE q1) (JX x1 (FL Q.l2 p2 s2));have k2:Kp h1 (h1++ [.lst (U2.map oJ)]):=Kp.app _ _;have x2:=aU h1 (U2.map oJ);generalize h1++ [O.lst (U2.map oJ)]=h2 at q2 k2 x2;have k02:=(kp.trans k1).trans k2;have Q2:=Q.kp k02;have L2:U2.length<W:=by have:=p2.length_eq;have:=Q.l2;omega
 rcases gX (t:=.tp [14,11]) (body:=bO G cl W B0) (n:=h1.length) (l:=U2.map oJ) (λi r h'=>∃d10 d11 d14 d15,r=iL z p6 p7 a b d10 d11 (some (dC (du.or ((U2.take i).findSome? (sE q))))) (some (.str q.nm)) d14 d15/\Kp h2 h') (λ_ _=>False) (λi r h' ⟨_,_,_,_,_,k⟩=>k.lst x2)
  (λi d hd r h' ⟨d10,d11,d14,d15,er,k⟩=>by
    subst er;obtain⟨u,hu,hm,rfl⟩:=gG hd;obtain⟨h3,d10',d15',e,k3⟩:=DN (G:=G) (W:=W) (z:=z) (p6:=p6) h20 h21 h30 Q2 hq (p2.mem_iff.mp hm) (td.or (uB (AH q) (U2.take i))) k d10 d15;refine⟨iL z p6 p7 a b d10 (some (mo u.m)) (some (dC (du.or ((U2.take i).findSome? (sE q))))) (some (.str q.nm)) (some (.str u.nm)) d15,rfl,.inl ⟨_,h3,e,d10',some (mo u.m),some (.str u.nm),d15',?_,k3⟩⟩;rw[wS hu,Option.or_assoc])
  W 0 (iL z p6 p7 a b d10 d11 (some (dC du)) (some (.str q.nm)) d14 d15) h2 ⟨d10,d11,d14,d15,by rw[List.take_zero];show _=iL z p6 p7 a b d10 d11 (some (dC (du.or none))) _ _ _;rw[Option.or_none],Kp.refl _⟩ (Nat.zero_le _) (by rw[Zc];omega) with ⟨r',h',e,d10',d11',d14',d15',er,k3⟩|⟨_,_,_,y⟩
 ·subst er;rw[Zc,List.take_length] at e;exact⟨h',d10',d11',d14',d15',by rw[aK (dG q2 e),aV],k02.trans k3⟩
 ·exact y.elim
theorem UY{o:E}{n:Nat}{l:List (cB×D)}{ks:List Str}{l':List D}{r:Ev}{h h1:Hh}(ho:ev G cl o r h=.ok (.ref n) h1)(e:h1[n]? =some (.dct l))(hk:nJ l=some ks)(hs:mS (ks.map D.str)=some l'):ev G cl (.sdk o) r h=.ok (.ref h1.length) (h1++ [.lst l']):=by
 have e0:ev G cl (.sdk o) r h=(ev G cl o r h).bind λx h=>AV x h:=by rw[ev]<;>rfl
 have e1:dO h1 (.ref n)=some l:=by unfold dO;dsimp only;rw[e]
 rw[e0,ho,aD];unfold AV;rw[e1];dsimp only;rw[hk];dsimp only;rw[hs]
theorem PJ(hW:100<=W)(h20:QY cl 20)(h21:QX cl 21)(h30:EX cl 30){h:Hh}{z:Z6}{p6 p7 a b:Nat}{R1 R2 U1 U2:List Pr}(Q:Due h p7 a b R1 R2)(p1:U1.Perm R1)(s1:jO U1)(p2:U2.Perm R2)(s2:jO U2)(d10 d11:Option D):
 ∃h' d10' d11' d13 d14 d15,xs G cl W (.forr (.nm 13) (.sq (.sdk (.var 9))) VJ) (iL z p6 p7 a b d10 d11 (some .non) none none none) h=.ok (.nx (iL z p6 p7 a b d10' d11' (some (dC (mL U1 U2))) d13 d14 d15)) h'/\Kp h h':=by
 have q1:ev G cl (.sdk (.var 9)) (iL z p6 p7 a b d10 d11 (some .non) none none none) h=.ok (.ref h.length) (h++ [.lst ((U1.map Pr.nm).map D.str)]):=UY (aY rfl) Q.eb (sN _ R1) (AN Q.l1 p1 s1);have k1:Kp h (h++ [.lst ((U1.map Pr.nm).map D.str)]):=Kp.app _ _;have x1:=aU h ((U1.map Pr.nm).map D.str);generalize h++ [O.lst ((U1.map Pr.nm).map D.str)]=h1 at q1 k1 x1;rw[List.map_map] at x1;have Q1:=Q.kp k1;have L1:U1.length<W:=by have:=p1.length_eq;have:=Q.l1;omega
 rcases gX (t:=.nm 13) (body:=bO G cl W VJ) (n:=h.length) (l:=U1.map (D.str∘Pr.nm)) (λi r h'=>∃d10 d11 d13 d14 d15,r=iL z p6 p7 a b d10 d11 (some (dC ((U1.take i).findSome? λq=>U2.findSome? (sE q)))) d13 d14 d15/\Kp h1 h') (λ_ _=>False) (λi r h' ⟨_,_,_,_,_,_,k⟩=>k.lst x1)
  (λi d hd r h' ⟨d10,d11,d13,d14,d15,er,k⟩=>by
    subst er;obtain⟨u,hu,hm,rfl⟩:=gG hd;obtain⟨h3,d10',d11',d14',d15',e,k3⟩:=IA (G:=G) (W:=W) (z:=z) (p6:=p6) hW h20 h21 h30 Q1 p2 s2 (p1.mem_iff.mp hm) (uB (λq=>uB (AH q) U2) (U1.take i)) k d10 d11 d14 d15;refine⟨iL z p6 p7 a b d10 d11 (some (dC ((U1.take i).findSome? λq=>U2.findSome? (sE q)))) (some (.str u.nm)) d14 d15,rfl,.inl ⟨_,h3,e,d10',d11',some (.str u.nm),d14',d15',?_,k3⟩⟩;rw[wS hu])
  W 0 (iL z p6 p7 a b d10 d11 (some .non) none none none) h1 ⟨d10,d11,none,none,none,by rw[List.take_zero];rfl,Kp.refl _⟩ (Nat.zero_le _) (by rw[Zc];omega) with ⟨r',h',e,d10',d11',d13,d14,d15,er,k3⟩|⟨_,_,_,y⟩
 ·subst er;rw[Zc,List.take_length] at e;exact⟨h',d10',d11',d13,d14,d15,dG q1 e,k1.trans k3⟩
 ·exact y.elim
end
section
variable {G:Gs}{cl:Cl}{W:Nat}
noncomputable abbrev hv2:E:=(.bin .add (.comp (.nm 0) .sq (n1 (.slL (.var 5) (.int 1))) (n1 (.cmp .ne (.slT (.var 0) (.int 2)) (.tup (n2 (.int 0) (.int 1))))) (.var 0) ["_law_star"] []) (.lst (n1 (.tup (n3 (.int 0) (.int 1) (.int 5))))))
theorem OW{a:E}{n:Nat}{l:List D}{r:Ev}{h:Hh}(ha:ev G cl a r h=.ok (.ref n) h)(e:aJ h n=some l):ev G cl (.slL a (.int 1)) r h=.ok (.ref h.length) (h++ [.lst (l.drop 1)]):=by
 have e0:ev G cl (.slL a (.int 1)) r h=(ev G cl a r h).bind λx h=>(ev G cl (.int 1) r h).bind λy h=>yB x y h:=by rw[ev]<;>rfl
 rw[e0,ha,aD,aF,aD];have e1:cF (.ref n) h=true:=by rw[dU,e];rfl
 unfold yB;rw[e1,iS,e];rfl
theorem OO{h:Hh}{p:Nat}{S:List cJ}{r:Ev}(r5:r[5]? =some (some (.ref p)))(hS:aJ h p=some (S.map s3))(H:Hev S):∃h' p' S',ev G cl hv2 r h=.ok (.ref p') h'/\Kp h h'/\aJ h' p'=some (S'.map s3)/\Hev S':=by
 have q1:=OW (G:=G) (cl:=cl) (aY r5) hS;rw[<- List.map_drop] at q1;have x1:=aU h ((S.drop 1).map s3);have k1:Kp h (h++ [.lst ((S.drop 1).map s3)]):=Kp.app _ _;generalize h++ [O.lst ((S.drop 1).map s3)]=h1 at q1 x1 k1;have NV:(S.drop 1).length<=7:=by rw[List.length_drop];have:=H.len;omega
 obtain⟨gb,q2⟩:=mD (G:=G) (cl:=cl) (t:=.nm 0) (it:=.cons (.slL (.var 5) (.int 1)) .nil) (cs:=.cons (.cmp .ne (.slT (.var 0) (.int 2)) (.tup (n2 (.int 0) (.int 1)))) .nil) (e:=.var 0) (N:= ["_law_star"]) (cap:= []) (r:=r) (h:=h) (h1:=h1) (l:=S.drop 1) s3 (λr=>∃x,r=[x]) (λs=> !decide (s.1=0/\s.2.1=1)) s3 (cE q1) x1 (by omega) ⟨_,rfl⟩
  (λs _=>⟨λr ys gb ⟨x,er⟩=>by
    subst er;refine⟨[some (s3 s)],[],rfl,?_,⟨_,rfl⟩,λ_=>⟨[],?_⟩⟩
    ·rw[Zm];refine UU (bK (x:=rJ s) (y:=rJ (0,1,5)) (by rw[DD,aY (x:=s3 s) rfl,aD,aF,aD,zY]) (cG (aF ..) (aF ..)) (VZ s (0,1,5) _))
    ·rw[Zm,Zm];exact aY rfl⟩)
 have lF:((S.drop 1).filter λs=> !decide (s.1=0/\s.2.1=1)).length<=7:=Nat.le_trans (List.length_filter_le _ _) NV;have uF:((S.drop 1).filter λs=> !decide (s.1=0/\s.2.1=1)).Pairwise npS:=(H.up.sublist (List.drop_sublist _ _)).sublist List.filter_sublist;have bF:∀s∈(S.drop 1).filter λs=> !decide (s.1=0/\s.2.1=1),1<=s.2.2/\s.2.2<=9:=λs hs=>H.br s (List.mem_of_mem_drop (List.mem_filter.mp hs).1)
 have nF:(((S.drop 1).filter λs=> !decide (s.1=0/\s.2.1=1)).any λs=>decide (s.1=0/\s.2.1=1))=false:=by
  rw[List.any_eq_false];intro s hs e;have:=(List.mem_filter.mp hs).2;rw[e] at this;cases this
 generalize (S.drop 1).filter (λs=> !decide (s.1=0/\s.2.1=1))=T at q2 lF uF bF nF;have e3:ev G cl (.lst (n1 (.tup (n3 (.int 0) (.int 1) (.int 5))))) r (h1++ .lst (T.map s3)::gb)=.ok (.ref (h1++O.lst (T.map s3)::gb).length) (h1++ .lst (T.map s3)::gb++ [.lst [s3 (0,1,5)]]):=gY (cE (vG (aF ..) (aF ..) (aF ..))) (eR rfl);have g1:(h1++ .lst (T.map s3)::gb++ [O.lst [s3 (0,1,5)]])[h1.length]? =some (.lst (T.map s3)):=Kp.app _ _ _ _ (iC ..);have g2:=bZ (h1++ .lst (T.map s3)::gb) (O.lst [s3 (0,1,5)]);have e4:=VY g1 g2 (by rw[Zc];show _+1<=_;omega);have k4:Kp h (h1++ .lst (T.map s3)::gb++ [O.lst [s3 (0,1,5)]]++ [.lst (T.map s3++ [s3 (0,1,5)])]):=((k1.trans (Kp.app _ _)).trans (Kp.app _ _)).trans (Kp.app _ _);refine⟨_,_,T++ [(0,1,5)],DG q2 e3 e4,k4,?_,⟨by rw[List.length_append];show _+1<=_;omega,vV uF nF,λs hs=>?_⟩⟩
 ·rw[List.map_append];exact aU ..
 ·rcases List.mem_append.mp hs with z|z
  ·exact bF s z
  ·rw[List.mem_singleton.mp z];exact⟨by decide,by decide⟩
theorem VA{o:E}{n:Nat}{l:List D}{r:Ev}{h h1:Hh}(ho:ev G cl o r h=.ok (.ref n) h1)(e:aJ h1 n=some l):ev G cl (.rvs o) r h=.ok (.ref h1.length) (h1++ [.lst l.reverse]):=by
 have e0:ev G cl (.rvs o) r h=(ev G cl o r h).bind λx h=>FV x h:=by rw[ev]<;>rfl
 rw[e0,ho,aD];have e1:cF (.ref n) h1=true:=by rw[dU,e];rfl
 unfold FV;rw[e1,iS,e]
theorem DF(r:Ev)(h:Hh):ev G cl .dnw r h=.ok (.ref h.length) (h++ [.dct []]):=by rw[ev]<;>rfl
noncomputable def eL(d1 d2 d3 d4 d5 d6 d7 d8 d9:Option D):Ev:= [some (.ref 0),d1,d2,d3,d4,d5,d6,d7,d8,d9,none,none,none,none,none,none,none,none]
noncomputable abbrev lwA(Z:Ss):Ss:=(.cons (.asg (.nm 1) (.call 16 (n3 (.var 0) (.int 0) (.int 18)))) (.cons (.asg (.nm 2) (.call 16 (n3 (.var 0) (.int 19) (.int 9)))) (.cons (.asg (.nm 3) (.call 27 (n1 (.var 1)))) (.cons (.asg (.nm 4) (.call 22 (n2 (.var 2) (.int 1)))) (.cons (.asg (.nm 5) (.call 26 (n1 (.var 0)))) Z)))))
noncomputable abbrev TX:E:=(.call 31 (n5 (.var 0) (.int 2) (.slU (.var 3) (.bin .mod (.ix (.var 2) (.int 0)) (.int 5))) (.var 5) (.var 4)))
noncomputable abbrev NO:S:=(.iff (.cmp .eq (.bin .mod (.ix (.var 2) (.int 6)) (.int 3)) (.int 1)) (t1 (.asg (.nm 5) hv2)) .nil)
noncomputable abbrev TW:E:=(.call 31 (n5 (.var 0) (.int 8) (.slU (.rvs (.var 3)) (.bin .mod (.ix (.var 2) (.int 7)) (.int 5))) (.var 5) (.var 4)))
noncomputable abbrev ZE:Ss:=(t3 (.asg (.nm 16) (.lst (n2 (.call 32 (n1 (.var 6))) (.call 32 (n1 (.var 7)))))) (.asg (.nm 17) (.call 15 (n2 (.ix (.var 16) (.int 0)) (.ix (.var 16) (.int 1))))) (.ret (.and (.call 23 (n2 (.var 17) (.var 12))) (.and (.call 33 (n2 (.ix (.var 16) (.int 0)) (.var 6))) (.call 33 (n2 (.ix (.var 16) (.int 1)) (.var 7)))))))
noncomputable abbrev l16:Ss:=lwA (.cons (.asg (.nm 6) TX) (.cons NO (.cons (.asg (.nm 7) TW) (.cons (.asg (.nm 8) .dnw) (.cons (.asg (.nm 9) .dnw) (.cons (.forr (.tp [10,11]) (.sq (.var 6)) XC) (.cons (.asg (.nm 12) .non) (.cons (.forr (.nm 13) (.sq (.sdk (.var 9))) VJ) ZE))))))))
structure Hp2 (h:Hh)(ns:List Int):Prop where
 s:aJ h 0=some (ns.map D.int)
 t:h[1]? =some FI
theorem Hp2.kp{h h':Hh}{ns:List Int}(P:Hp2 h ns)(k:Kp h h'):Hp2 h' ns:=⟨k.lst P.s,k _ _ P.t⟩
theorem NP{ns:List Int}(hd:RT cl 16 ns)(h27:L4 cl 27)(h22:L5 cl 22)(h26:M0 cl 26 ns)(Z:Ss):∃(h:Hh)(a b c e:Nat)(er:List Int)(l:List Str)(S:List cJ)(m:M3),bO G cl W (lwA Z) (eL none none none none none none none none none) [.ro (ns.map D.int),FI]=bO G cl W Z (eL (some (.ref a)) (some (.ref b)) (some (.ref c)) (some (mo m)) (some (.ref e)) none none none none) h/\Hp2 h ns/\Row h b er/\er.length=9/\aJ h c=some (l.map D.str)/\l.length<=12/\(∀s∈l,NmOk s)/\l.Nodup/\aJ h e=some (S.map s3)/\Hev S/\iJ m:=by
 have P0:Hp2 [.ro (ns.map D.int),FI] ns:=⟨rfl,rfl⟩;generalize ([.ro (ns.map D.int),FI]:Hh)=h0 at P0;obtain⟨row,hr,ir,q1⟩:=hd 0 18 h0 (by omega) (by omega) (by omega) P0.s;have k1:Kp h0 (h0++ [.lst (row.map D.int)]):=Kp.app _ _;have R1:Row (h0++ [.lst (row.map D.int)]) h0.length row:=⟨aU ..,ir⟩;generalize h0++ [O.lst (row.map D.int)]=h1 at q1 k1 R1;obtain⟨er,he,ie,q2⟩:=hd 19 9 h1 (by omega) (by omega) (by omega) (P0.kp k1).s;have k2:Kp h1 (h1++ [.lst (er.map D.int)]):=Kp.app _ _;have R2:Row (h1++ [.lst (er.map D.int)]) h1.length er:=⟨aU ..,ie⟩;generalize h1++ [O.lst (er.map D.int)]=h2 at q2 k2 R2;obtain⟨h3,p3,l,e3,k3,hl,nl,Nl,Dl⟩:=h27 h2 h0.length row ⟨k2.lst R1.at',ir⟩ hr;obtain⟨m,hm,e4⟩:=h22 h1.length er h3 (k3.lst R2.at') he ie;obtain⟨h5,p5,S,e5,k5,hS,HS⟩:=h26 h3 (P0.kp ((k1.trans k2).trans k3)).s;refine⟨h5,h0.length,h1.length,p3,p5,er,l,S,m,?_,P0.kp (((k1.trans k2).trans k3).trans k5),⟨k5.lst (k3.lst R2.at'),ie⟩,he,k5.lst hl,nl,Nl,Dl,hS,HS,hm⟩
 rw[aK (r':=eL (some (.ref h0.length)) none none none none none none none none) (h':=h1) (bC (cI (lB (aY rfl) (aF ..) (aF ..)) q1)),
  aK (r':=eL (some (.ref h0.length)) (some (.ref h1.length)) none none none none none none none) (h':=h2) (bC (cI (lB (aY rfl) (aF ..) (aF ..)) q2)),
  aK (r':=eL (some (.ref h0.length)) (some (.ref h1.length)) (some (.ref p3)) none none none none none none) (h':=h3) (bC (cI (cE (aY rfl)) e3)),
  aK (r':=eL (some (.ref h0.length)) (some (.ref h1.length)) (some (.ref p3)) (some (mo m)) none none none none none) (h':=h3) (bC (cI (fS (aY rfl) (aF ..)) e4)),
  aK (r':=eL (some (.ref h0.length)) (some (.ref h1.length)) (some (.ref p3)) (some (mo m)) (some (.ref p5)) none none none none) (h':=h5) (bC (cI (cE (aY rfl)) e5))]
theorem NN{ns:List Int}(h15:K5 cl 15)(h23:∀(d:D)(h:Hh),pd 2 d=true->cl 23 [d,d] h=.ok (.bl true) h)(h32:K9 cl 32)(h33:L9 cl 33){h:Hh}(P:Hp2 h ns){z:Z6}{p6 p7 a b:Nat}{R1 R2 U1 U2:List Pr}(e6:aJ h p6=some (R1.map Pr.d))(e7:aJ h p7=some (R2.map Pr.d))(l1:R1.length<=12)(l2:R2.length<=12)(o1:∀r∈R1,r.ok)(o2:∀r∈R2,r.ok)(p1:U1.Perm R1)(s1:jO U1)(p2:U2.Perm R2)(s2:jO U2)(d10 d11 d13 d14 d15:Option D):
 ∃h',(bO G cl W ZE (iL z p6 p7 a b d10 d11 (some (dC (mL U1 U2))) d13 d14 d15) h).bind cU=.ok (.bl true) h':=by
 obtain⟨h1,k1,M1,c1,kp1,m1,x1,P1⟩:=h32 h p6 R1 e6 (by omega) o1;obtain⟨h2,k2,M2,c2,kp2,m2,x2,P2⟩:=h32 h1 p7 R2 (kp1.lst e7) (by omega) o2;have L1:M1.length=R1.length:=by rw[<- m1,Zc]
 have L2:M2.length=R2.length:=by rw[<- m2,Zc]
 have ok1:∀q∈M1,q.1.ok:=λq hq=>o1 q.1 (by rw[<- m1];exact List.mem_map.mpr ⟨q,hq,rfl⟩);have ok2:∀q∈M2,q.1.ok:=λq hq=>o2 q.1 (by rw[<- m2];exact List.mem_map.mpr ⟨q,hq,rfl⟩);have k3:Kp h2 (h2++ [.lst [.ref k1,.ref k2]]):=Kp.app _ _;have x3:=aU h2 [.ref k1,.ref k2];have s16:xs G cl W (.asg (.nm 16) (.lst (n2 (.call 32 (n1 (.var 6))) (.call 32 (n1 (.var 7)))))) (iL z p6 p7 a b d10 d11 (some (dC (mL U1 U2))) d13 d14 d15) h=.ok (.nx ((iL z p6 p7 a b d10 d11 (some (dC (mL U1 U2))) d13 d14 d15).set 16 (some (.ref h2.length)))) (h2++ [.lst [.ref k1,.ref k2]]):=bC (gY (fS (cI (cE (aY rfl)) c1) (cI (cE (aY rfl)) c2)) (eR rfl));rw[aK s16];generalize h2++ [O.lst [.ref k1,.ref k2]]=h3 at k3 x3;obtain⟨h4,c4,kp4⟩:=h15 h3 k1 k2 M1 M2 ((kp2.trans k3).lst x1) (k3.lst x2) (by omega) (by omega) (λq hq=>PlateAt.kp (P1 q hq) (kp2.trans k3)) (λq hq=>PlateAt.kp (P2 q hq) k3) ok1 ok2 (P.kp ((kp1.trans kp2).trans k3)).t U1 U2 (by rw[m1];exact p1) s1 (by rw[m2];exact p2) s2;have i0:∀h',Kp h3 h'->jA (.ref h2.length) (.int 0) h'=.ok (.ref k1) h':=λh' k=>by rw[lV _ _ (k.lst x3)];rfl
 have i1:∀h',Kp h3 h'->jA (.ref h2.length) (.int 1) h'=.ok (.ref k2) h':=λh' k=>by rw[lV _ _ (k.lst x3)];rfl
 have pdu:pd 2 (dC (mL U1 U2))=true:=by
  cases hu:mL U1 U2 with
  |none=>rfl
  |some d=>
   unfold mL at hu;obtain⟨q,_,e⟩:=List.exists_of_findSome?_eq_some hu;obtain⟨u,_,e⟩:=List.exists_of_findSome?_eq_some e;unfold sE at e;obtain⟨x,hx,rfl⟩:=Option.map_eq_some_iff.mp e;obtain⟨X,rfl⟩:=qX hx;rfl
 generalize dC (mL U1 U2)=du at c4 pdu;obtain⟨h5,c5,kp5⟩:=h33 h4 k1 p6 M1 (kp4.lst ((kp2.trans k3).lst x1)) (by rw[m1];exact kp4.lst (((kp1.trans kp2).trans k3).lst e6)) (by omega) (λq hq=>PlateAt.kp (P1 q hq) ((kp2.trans k3).trans kp4));obtain⟨h6,c6,kp6⟩:=h33 h5 k2 p7 M2 (kp5.lst (kp4.lst (k3.lst x2))) (by rw[m2];exact kp5.lst (kp4.lst (((kp1.trans kp2).trans k3).lst e7))) (by omega) (λq hq=>PlateAt.kp (P2 q hq) ((k3.trans kp4).trans kp5));refine⟨h6,?_⟩;rw[aK (r':=((iL z p6 p7 a b d10 d11 (some du) d13 d14 d15).set 16 (some (.ref h2.length))).set 17 (some du)) (h':=h4) (bC (cI (fS (bB rfl (aF ..) (i0 _ (Kp.refl _))) (bB rfl (aF ..) (i1 _ (Kp.refl _)))) c4))]
 rw[bL (d:=.bl true) (h':=h6) (bN (by
  rw[lP,cI (fS (x:=du) (y:=du) (aY rfl) (aY rfl)) (h23 du h4 pdu),aD,tU];show ev G cl (.and _ _) _ _=_;rw[lP,cI (fS (x:=.ref k1) (y:=.ref p6) (bB rfl (aF ..) (i0 _ kp4)) (aY rfl)) c5,aD,tU];exact cI (fS (x:=.ref k2) (y:=.ref p7) (bB rfl (aF ..) (i1 _ (kp4.trans kp5))) (aY rfl)) c6))]
 rfl
noncomputable def eM(a b c:Nat)(m:M3)(e p:Nat):Ev:=eL (some (.ref a)) (some (.ref b)) (some (.ref c)) (some (mo m)) (some (.ref e)) (some (.ref p)) none none none
noncomputable def eZ(a b c:Nat)(m:M3)(e:Nat):Z6:=(some (.ref 0),some (.ref a),some (.ref b),some (.ref c),some (mo m),some (.ref e))
theorem law16_ok(hW:100<=W){ns:List Int}(hd:RT cl 16 ns)(h27:L4 cl 27)(h22:L5 cl 22)(h26:M0 cl 26 ns)(h31:Pns cl 31 ns)(h20:QY cl 20)(h21:QX cl 21)(h30:EX cl 30)(h15:K5 cl 15)(h23:∀(d:D)(h:Hh),pd 2 d=true->cl 23 [d,d] h=.ok (.bl true) h)(h32:K9 cl 32)(h33:L9 cl 33):
 ∃h',(bO G cl W l16 (eL none none none none none none none none none) [.ro (ns.map D.int),FI]).bind cU=.ok (.bl true) h':=by
 obtain⟨h,a,b,c,e,er,l,S,m,q,P,Re,hre,hl,nl,Nl,Dl,hS,HS,hm⟩:=NP (G:=G) (W:=W) hd h27 h22 h26 (.cons (.asg (.nm 6) TX) (.cons NO (.cons (.asg (.nm 7) TW) (.cons (.asg (.nm 8) .dnw) (.cons (.asg (.nm 9) .dnw) (.cons (.forr (.tp [10,11]) (.sq (.var 6)) XC) (.cons (.asg (.nm 12) .non) (.cons (.forr (.nm 13) (.sq (.sdk (.var 9))) VJ) ZE))))))));rw[q];have sl1:=DC (G:=G) (cl:=cl) (a:=.var 3) (b:=.bin .mod (.ix (.var 2) (.int 0)) (.int 5)) (r:=eL (some (.ref a)) (some (.ref b)) (some (.ref c)) (some (mo m)) (some (.ref e)) none none none none) (aY rfl) (aQ (bB rfl (aF _ _ _ _ 0) (Re.ix (Kp.refl _) 0 (by omega))) (aF ..) (bY _ (by omega))) hl (Int.emod_nonneg _ (by omega));rw[<- List.map_take] at sl1;have la:(l.take (Row.R er 0%5).toNat).length<=12:=by rw[List.length_take];omega
 have da:(l.take (Row.R er 0%5).toNat).Nodup:=(List.take_sublist _ _).nodup Dl;have na:∀s∈l.take (Row.R er 0%5).toNat,NmOk s:=λs hs=>Nl s (List.mem_of_mem_take hs);generalize l.take (Row.R er 0%5).toNat=la' at sl1 la da na;have x1:=aU h (la'.map D.str);have k1:Kp h (h++ [.lst (la'.map D.str)]):=Kp.app _ _;generalize h++ [O.lst (la'.map D.str)]=h1 at sl1 x1 k1;obtain⟨h2,p6,R1,c2,kp2,x2,n2,o1⟩:=h31 2 h1 h.length e la' S m (P.kp k1).s x1 la na (k1.lst hS) HS hm (by omega) (by omega);have k02:=k1.trans kp2;rw[aK (r':=eM a b c m e p6) (h':=h2) (bC (cI (HX (aY rfl) (aF ..) sl1 (aY rfl) (aY rfl)) c2))]
 obtain⟨h3,e',S',s5,k23,hS',HS'⟩:∃h3 e' S',xs G cl W NO (eM a b c m e p6) h2=.ok (.nx (eM a b c m e' p6)) h3/\Kp h2 h3/\aJ h3 e'=some (S'.map s3)/\Hev S':=by
  have cc:ev G cl (.cmp .eq (.bin .mod (.ix (.var 2) (.int 6)) (.int 3)) (.int 1)) (eM a b c m e p6) h2=.ok (.bl (decide (Row.R er 6%3=1))) h2:=bK (aQ (bB rfl (aF _ _ _ _ 6) (Re.ix k02 6 (by omega))) (aF ..) (bY _ (by omega))) (aF ..) (rE ..);cases hc:decide (Row.R er 6%3=1) with
  |true=>
   rw[hc] at cc;obtain⟨h3,p',S',w1,w2,w3,w4⟩:=OO (G:=G) (cl:=cl) (r:=eM a b c m e p6) rfl (k02.lst hS) HS;exact⟨h3,p',S',by rw[dB cc,aK (bC w1),aV];rfl,w2,w3,w4⟩
  |false=>
   rw[hc] at cc;exact⟨h2,e,S,by rw[cC cc,aV],Kp.refl _,k02.lst hS,HS⟩
 rw[aK s5];have k03:=k02.trans k23;have rv:=VA (G:=G) (cl:=cl) (o:=.var 3) (r:=eM a b c m e' p6) (h:=h3) (aY rfl) (k03.lst hl);rw[<- List.map_reverse] at rv;have x4:=aU h3 (l.reverse.map D.str);have k4:Kp h3 (h3++ [.lst (l.reverse.map D.str)]):=Kp.app _ _;generalize h3++ [O.lst (l.reverse.map D.str)]=h4 at rv x4 k4;have zY:=DC (G:=G) (cl:=cl) (a:=.rvs (.var 3)) (b:=.bin .mod (.ix (.var 2) (.int 7)) (.int 5)) (r:=eM a b c m e' p6) rv (aQ (bB rfl (aF _ _ _ _ 7) (Re.ix (k03.trans k4) 7 (by omega))) (aF ..) (bY _ (by omega))) x4 (Int.emod_nonneg _ (by omega));rw[<- List.map_take] at zY;have lb:(l.reverse.take (Row.R er 7%5).toNat).length<=12:=by rw[List.length_take,List.length_reverse];omega
 have db:(l.reverse.take (Row.R er 7%5).toNat).Nodup:=(List.take_sublist _ _).nodup (List.pairwise_reverse.mpr (List.Pairwise.imp (λh=>Ne.symm h) Dl));have nb:∀s∈l.reverse.take (Row.R er 7%5).toNat,NmOk s:=λs hs=>Nl s (List.mem_reverse.mp (List.mem_of_mem_take hs));generalize l.reverse.take (Row.R er 7%5).toNat=lb' at zY lb db nb;have x5:=aU h4 (lb'.map D.str);have k5:Kp h4 (h4++ [.lst (lb'.map D.str)]):=Kp.app _ _;generalize h4++ [O.lst (lb'.map D.str)]=h5 at zY x5 k5;have k35:=k4.trans k5;obtain⟨h6,p7,R2,c6,kp6,x6,n6,o2⟩:=h31 8 h5 h4.length e' lb' S' m (P.kp (k03.trans k35)).s x5 lb nb (k35.lst hS') HS' hm (by omega) (by omega);rw[aK (r':=eL (some (.ref a)) (some (.ref b)) (some (.ref c)) (some (mo m)) (some (.ref e')) (some (.ref p6)) (some (.ref p7)) none none) (h':=h6) (bC (cI (HX (aY rfl) (aF ..) zY (aY rfl) (aY rfl)) c6))];have k26:Kp h2 h6:=(k23.trans k35).trans kp6;have e6:=k26.lst x2;have P6:=P.kp (k02.trans k26);have L1:R1.length<=12:=by rw[<- n2,Zc] at la;exact la
 have L2:R2.length<=12:=by rw[<- n6,Zc] at lb;exact lb
 rw[<- n2] at da;rw[<- n6] at db;obtain⟨U1,p1,s1⟩:=qF Pr.nm R1 da;obtain⟨U2,p2,s2⟩:=qF Pr.nm R2 db;clear q sl1 zY rv c2 c6 s5;have g8:=bZ h6 (O.dct []);have g9:=bZ (h6++ [O.dct []]) (O.dct []);have lA:(h6++ [O.dct []]).length=h6.length+1:=by simp
 rw[aK (r':=eL (some (.ref a)) (some (.ref b)) (some (.ref c)) (some (mo m)) (some (.ref e')) (some (.ref p6)) (some (.ref p7)) (some (.ref h6.length)) none) (h':=h6++ [.dct []]) (bC (DF ..)),
  aK (r':=iL (eZ a b c m e') p6 p7 h6.length (h6++ [O.dct []]).length none none none none none none) (h':=h6++ [.dct []]++ [.dct []]) (bC (DF ..))]
 obtain⟨h7,d10,d11,w1,k7,ea,eb⟩:=PN (G:=G) (cl:=cl) (W:=W) (z:=(eZ a b c m e')) (p7:=p7) hW e6 L1 da (Zn _) (by omega) (by omega) ((Kp.app _ _).trans (Kp.app _ _)) (Kp.app _ _ _ _ g8) g9;rw[aK w1,aK (r':=iL (eZ a b c m e') p6 p7 h6.length (h6++ [O.dct []]).length d10 d11 (some .non) none none none) (h':=h7) (bC (kC ..))];obtain⟨h8,d10',d11',d13,d14,d15,w2,k8⟩:=PJ (G:=G) (cl:=cl) (W:=W) (z:=(eZ a b c m e')) (p6:=p6) hW h20 h21 h30 ⟨ea,eb,k7.lst x6,L1,L2,da,db,o1,o2⟩ p1 s1 p2 s2 d10 d11;rw[aK w2];exact NN h15 h23 h32 h33 (P6.kp (k7.trans k8)) (k8.lst (k7.lst e6)) (k8.lst (k7.lst x6)) L1 L2 o1 o2 p1 s1 p2 s2 _ _ _ _ _
end
end Ng
end
section
namespace Pk16
open PySem L2
open Ng
open Ng renaming mB->ac,IE->dc
set_option maxHeartbeats 0
theorem vr{N:List Str}{sc:Scope}{G:Gs}{i:Nat}{x:Str}{pos:Pos}(h1:N[i]? =some x:=by rfl)(h:(FD sc x&&nB x)=true:=by decide+kernel):SE N sc G (.var i) (.Name x pos):=PU h1 h
theorem ZI{us:List Value}(h:us.length=4):∃a b c d,us=[a,b,c,d]:=by
 obtain⟨a,us,rfl⟩:=List.exists_cons_of_length_eq_add_one h;obtain⟨b,c,d,rfl⟩:=NU (Nat.succ.inj h);exact⟨_,_,_,_,rfl⟩
theorem ZH{us:List Value}(h:us.length=5):∃a b c d e,us=[a,b,c,d,e]:=by
 obtain⟨a,us,rfl⟩:=List.exists_cons_of_length_eq_add_one h;obtain⟨b,us,rfl⟩:=List.exists_cons_of_length_eq_add_one (Nat.succ.inj h);obtain⟨c,d,e,rfl⟩:=NU (Nat.succ.inj (Nat.succ.inj h));exact⟨_,_,_,_,_,rfl⟩
local macro_rules
 | `(tactic|trivial)=> `(tactic|first |decide+kernel|exact⟨rfl,rfl,rfl,by decide+kernel,rfl,by decide+kernel,by decide+kernel⟩|(intro _ _ _ _ _ _ us hl;first |(obtain⟨_,e⟩:=NV hl;subst e;rfl)|(obtain⟨_,_,e⟩:=ZJ hl;subst e;rfl)|(obtain⟨_,_,_,e⟩:=NU hl;subst e;rfl)|(obtain⟨_,_,_,_,e⟩:=ZI hl;subst e;rfl)|(obtain⟨_,_,_,_,_,e⟩:=ZH hl;subst e;rfl)|(obtain⟨_,_,_,_,_,_,e⟩:=ZG hl;subst e;rfl)))
noncomputable def top(i:Nat):PySem.Stmt:=PySem.Challenge.pw_nightglass_k16_the_first_that_is_unlike.main.body.getD i (.Pass ⟨0,0,0,0⟩)
noncomputable def mtop(i k:Nat):PySem.Stmt:=HP (top i) k
noncomputable def G:Gs:=⟨("turned"::"turn_behind"::"turn_back"::"moved"::"leading"::"behind"::"back"::"span"::"common_span"::"agree"::"is_name"::"is_window"::"window_places"::"by_name"::"first_denied"::"unlike"::"_law_draws"::"_law_far"::"_law_turned"::"_law_moved"::"_law_behind"::"_law_back"::"_law_motion"::"_law_same"::"_law_agreeing"::"_law_says"::"_law_heaven"::"_law_names"::"_law_pane"::"_law_home"::"_law_clash_of_two"::"_law_panes"::"_law_plates"::"_law_kept"::"law":: []:List Str),[("ORIGIN",.tup [.int (0),.int (0)]),("TURNS",.tup [.tup [.int (1),.int (0),.int (0),.int (1)],.tup [.int (0),.int (-1),.int (1),.int (0)],.tup [.int (-1),.int (0),.int (0),.int (-1)],.tup [.int (0),.int (1),.int (-1),.int (0)],.tup [.int (-1),.int (0),.int (0),.int (1)],.tup [.int (0),.int (-1),.int (-1),.int (0)],.tup [.int (1),.int (0),.int (0),.int (-1)],.tup [.int (0),.int (1),.int (1),.int (0)]]),("MIRRORED",.int (4)),("BRIGHTEST",.int (9)),("UNSEEN",.tup [.str "unseen",.int (0)]),("LETTERS",.str "abcdefghijklmnopqrstuvwxyz"),("LONGEST_NAME",.int (8)),("LONGEST_SIDE",.int (8)),("MOST_STARS",.int (8))],[],[],[],[("Plate",35)],[("Plate","shows_its_stars",36),("Plate","holds",37),("Plate","says",38)],[("Plate","name"),("Plate","width"),("Plate","height"),("Plate","limit"),("Plate","bright_at")]⟩
theorem KM:G.csts[0]? =some (("ORIGIN",.tup [.int (0),.int (0)]):Str×D):=rfl
theorem RM:G.csts[1]? =some (("TURNS",.tup [.tup [.int (1),.int (0),.int (0),.int (1)],.tup [.int (0),.int (-1),.int (1),.int (0)],.tup [.int (-1),.int (0),.int (0),.int (-1)],.tup [.int (0),.int (1),.int (-1),.int (0)],.tup [.int (-1),.int (0),.int (0),.int (1)],.tup [.int (0),.int (-1),.int (-1),.int (0)],.tup [.int (1),.int (0),.int (0),.int (-1)],.tup [.int (0),.int (1),.int (1),.int (0)]]):Str×D):=rfl
theorem HU:G.csts[2]? =some (("MIRRORED",.int (4)):Str×D):=rfl
theorem CQ:G.csts[3]? =some (("BRIGHTEST",.int (9)):Str×D):=rfl
theorem RL:G.csts[4]? =some (("UNSEEN",.tup [.str "unseen",.int (0)]):Str×D):=rfl
theorem RK:G.csts[5]? =some (("LETTERS",.str "abcdefghijklmnopqrstuvwxyz"):Str×D):=rfl
theorem RJ:G.csts[6]? =some (("LONGEST_NAME",.int (8)):Str×D):=rfl
theorem OR:G.csts[7]? =some (("LONGEST_SIDE",.int (8)):Str×D):=rfl
theorem RI:G.csts[8]? =some (("MOST_STARS",.int (8)):Str×D):=rfl
noncomputable def b0:Ss:=(.cons (.asg (.tp [2,3]) (.var 1)) (.cons (.asg (.tp [4,5,6,7]) (.ix (.gc 1) (.var 0))) (.cons (.ret (.tup (.cons (.bin .add (.bin .mul (.var 4) (.var 2)) (.bin .mul (.var 5) (.var 3))) (.cons (.bin .add (.bin .mul (.var 6) (.var 2)) (.bin .mul (.var 7) (.var 3))) .nil)))) .nil)))
noncomputable def b1:Ss:=(.cons (.asg (.nm 2) (.ite (.cmp .ge (.var 1) (.gc 2)) (.bin .sub (.var 1) (.var 0)) (.bin .add (.var 1) (.var 0)))) (.cons (.asg (.nm 3) (.cmp .ne (.cmp .ge (.var 0) (.gc 2)) (.cmp .ge (.var 1) (.gc 2)))) (.cons (.ret (.bin .add (.bin .mod (.var 2) (.int 4)) (.ite (.var 3) (.gc 2) (.int 0)))) .nil)))
noncomputable def b2:Ss:=(.cons (.ret (.ite (.cmp .ge (.var 0) (.gc 2)) (.var 0) (.bin .mod (.neg (.var 0)) (.int 4)))) .nil)
noncomputable def b3:Ss:=(.cons (.asg (.tp [2,3,4]) (.var 0)) (.cons (.asg (.tp [5,6]) (.call 0 (.cons (.var 2) (.cons (.var 1) .nil)))) (.cons (.ret (.tup (.cons (.bin .add (.var 5) (.var 3)) (.cons (.bin .add (.var 6) (.var 4)) .nil)))) .nil)))
noncomputable def b4:Ss:=(.cons (.asg (.tp [3,4]) (.call 0 (.cons (.var 0) (.cons (.var 1) .nil)))) (.cons (.asg (.tp [5,6]) (.var 2)) (.cons (.ret (.tup (.cons (.var 0) (.cons (.bin .sub (.var 5) (.var 3)) (.cons (.bin .sub (.var 6) (.var 4)) .nil))))) .nil)))
noncomputable def b5:Ss:=(.cons (.asg (.nm 2) (.call 1 (.cons (.ix (.var 0) (.int 0)) (.cons (.ix (.var 1) (.int 0)) .nil)))) (.cons (.ret (.call 4 (.cons (.var 2) (.cons (.gc 0) (.cons (.call 3 (.cons (.var 1) (.cons (.call 3 (.cons (.var 0) (.cons (.gc 0) .nil))) .nil))) .nil))))) .nil))
noncomputable def b6:Ss:=(.cons (.ret (.call 4 (.cons (.call 2 (.cons (.ix (.var 0) (.int 0)) .nil)) (.cons (.call 3 (.cons (.var 0) (.cons (.gc 0) .nil))) (.cons (.gc 0) .nil))))) .nil)
noncomputable def b7:Ss:=(.cons (.asg (.tp [1,2]) (.var 0)) (.cons (.iff (.cmp .eq (.var 1) (.str "star")) (.cons (.ret (.tup (.cons (.var 2) (.cons (.var 2) .nil)))) .nil) .nil) (.cons (.iff (.cmp .eq (.var 1) (.str "under")) (.cons (.ret (.tup (.cons (.int 0) (.cons (.bin .sub (.var 2) (.int 1)) .nil)))) .nil) .nil) (.cons (.ret (.tup (.cons (.int 0) (.cons (.gc 3) .nil)))) .nil))))
noncomputable def b8:Ss:=(.cons (.asc 1 (.comp (.nm 0) .sq (.cons (.var 0) .nil) .nil (.call 7 (.cons (.var 0) .nil)) ["saying"] [])) (.cons (.asg (.nm 2) (.mxd true (.comp (.tp [0,1]) .sq (.cons (.var 1) .nil) .nil (.var 0) ["low","high"] []) (.int 0))) (.cons (.asg (.nm 3) (.mxd false (.comp (.tp [0,1]) .sq (.cons (.var 1) .nil) .nil (.var 1) ["low","high"] []) (.gc 3))) (.cons (.ret (.tup (.cons (.var 2) (.cons (.var 3) .nil)))) .nil))))
noncomputable def b9:Ss:=agB
noncomputable def K2:Ss:=UM
noncomputable def J9:Ss:=iwB
noncomputable def J8:Ss:=wpB
noncomputable def J7:Ss:=bnB
noncomputable def J6:Ss:=fdB
noncomputable def J5:Ss:=unB
noncomputable def WG:Ss:=(.cons (.asg (.nm 3) (.bin .add (.bin .mul (.int 7) (.var 1)) (.int 1))) (.cons (.iff (.cmp .lt (.var 1) (.blt .len (.cons (.var 0) .nil))) (.cons (.asg (.nm 3) (.ix (.var 0) (.var 1))) .nil) (.cons (.iff (.cmp .gt (.blt .len (.cons (.var 0) .nil)) (.int 0)) (.cons (.asg (.nm 3) (.bin .add (.bin .add (.bin .mod (.ix (.var 0) (.bin .mod (.var 1) (.blt .len (.cons (.var 0) .nil)))) (.int 999983)) (.bin .mul (.bin .mul (.var 1) (.var 1)) (.int 97))) (.int 1))) .nil) .nil) .nil)) (.cons (.asg (.nm 4) (.bin .add (.bin .add (.bin .mod (.var 3) (.int 999983)) (.bin .mul (.int 31) (.var 1))) (.int 5))) (.cons (.asg (.nm 5) (.lst .nil)) (.cons (.iff (.cmp .ge (.var 3) (.bin .pow (.int 10) (.int 18))) (.cons (.whl (.and (.cmp .gt (.var 3) (.int 0)) (.cmp .lt (.blt .len (.cons (.var 5) .nil)) (.var 2))) (.cons (.ex (.app (.var 5) (.bin .mod (.var 3) (.int 1013)))) (.cons (.asg (.nm 3) (.bin .fdiv (.var 3) (.int 1013))) .nil))) .nil) .nil) (.cons (.whl (.cmp .lt (.blt .len (.cons (.var 5) .nil)) (.var 2)) (.cons (.asg (.nm 6) (.bin .add (.blt .len (.cons (.var 5) .nil)) (.int 1))) (.cons (.asg (.nm 4) (.bin .mod (.bin .add (.bin .add (.bin .mul (.var 4) (.int 48271)) (.bin .mul (.bin .mul (.var 6) (.var 6)) (.int 6133))) (.int 17)) (.int 2147483647))) (.cons (.ex (.app (.var 5) (.bin .mod (.bin .mod (.bin .mul (.bin .mod (.var 4) (.int 65521)) (.bin .add (.bin .mod (.bin .fdiv (.var 4) (.int 65521)) (.int 32749)) (.int 1))) (.int 1000003)) (.int 1013)))) .nil)))) (.cons (.ret (.var 5)) .nil)))))))
noncomputable def RN:Ss:=(.cons (.iff (.cmp .lt (.bin .mod (.var 0) (.int 5)) (.int 3)) (.cons (.ret (.bin .sub (.bin .mod (.bin .fdiv (.var 0) (.int 5)) (.int 13)) (.int 6))) .nil) .nil) (.cons (.iff (.cmp .eq (.bin .mod (.var 0) (.int 5)) (.int 3)) (.cons (.ret (.bin .sub (.bin .add (.bin .mul (.var 0) (.int 1013)) (.var 1)) (.int 513000))) .nil) .nil) (.cons (.ret (.bin .add (.bin .mul (.bin .sub (.var 1) (.int 506)) (.bin .pow (.int 10) (.int 27))) (.var 0))) .nil)))
noncomputable def WF:Ss:=(.cons (.ret (.ix (.lst (.cons (.tup (.cons (.var 1) (.cons (.var 2) .nil))) (.cons (.tup (.cons (.neg (.var 2)) (.cons (.var 1) .nil))) (.cons (.tup (.cons (.neg (.var 1)) (.cons (.neg (.var 2)) .nil))) (.cons (.tup (.cons (.var 2) (.cons (.neg (.var 1)) .nil))) (.cons (.tup (.cons (.neg (.var 1)) (.cons (.var 2) .nil))) (.cons (.tup (.cons (.neg (.var 2)) (.cons (.neg (.var 1)) .nil))) (.cons (.tup (.cons (.var 1) (.cons (.neg (.var 2)) .nil))) (.cons (.tup (.cons (.var 2) (.cons (.var 1) .nil))) .nil))))))))) (.var 0))) .nil)
noncomputable def XI:Ss:=(.cons (.asg (.tp [2,3]) (.call 18 (.cons (.ix (.var 0) (.int 0)) (.cons (.ix (.var 1) (.int 0)) (.cons (.ix (.var 1) (.int 1)) .nil))))) (.cons (.ret (.tup (.cons (.bin .add (.var 2) (.ix (.var 0) (.int 1))) (.cons (.bin .add (.var 3) (.ix (.var 0) (.int 2))) .nil)))) .nil))
noncomputable def WE:Ss:=(.cons (.asg (.nm 2) (.bin .mod (.ix (.var 0) (.int 0)) (.int 4))) (.cons (.iff (.cmp .gt (.ix (.var 1) (.int 0)) (.int 3)) (.cons (.asg (.nm 2) (.neg (.var 2))) .nil) .nil) (.cons (.asg (.nm 3) (.bin .add (.bin .mod (.bin .add (.var 2) (.ix (.var 1) (.int 0))) (.int 4)) (.bin .mul (.int 4) (.bin .mod (.bin .add (.bin .fdiv (.ix (.var 0) (.int 0)) (.int 4)) (.bin .fdiv (.ix (.var 1) (.int 0)) (.int 4))) (.int 2))))) (.cons (.asg (.tp [4,5]) (.call 18 (.cons (.ix (.var 1) (.int 0)) (.cons (.ix (.var 0) (.int 1)) (.cons (.ix (.var 0) (.int 2)) .nil))))) (.cons (.ret (.tup (.cons (.var 3) (.cons (.bin .add (.var 4) (.ix (.var 1) (.int 1))) (.cons (.bin .add (.var 5) (.ix (.var 1) (.int 2))) .nil))))) .nil)))))
noncomputable def XH:Ss:=(.cons (.asg (.nm 1) (.ix (.lst (.cons (.int 0) (.cons (.int 3) (.cons (.int 2) (.cons (.int 1) (.cons (.int 4) (.cons (.int 5) (.cons (.int 6) (.cons (.int 7) .nil))))))))) (.ix (.var 0) (.int 0)))) (.cons (.asg (.tp [2,3]) (.call 18 (.cons (.var 1) (.cons (.ix (.var 0) (.int 1)) (.cons (.ix (.var 0) (.int 2)) .nil))))) (.cons (.ret (.tup (.cons (.var 1) (.cons (.neg (.var 2)) (.cons (.neg (.var 3)) .nil))))) .nil)))
noncomputable def XG:Ss:=(.cons (.ret (.tup (.cons (.bin .mod (.ix (.var 0) (.var 1)) (.int 8)) (.cons (.call 17 (.cons (.ix (.var 0) (.bin .add (.var 1) (.int 1))) (.cons (.ix (.var 0) (.bin .add (.var 1) (.int 2))) .nil))) (.cons (.call 17 (.cons (.ix (.var 0) (.bin .add (.var 1) (.int 3))) (.cons (.ix (.var 0) (.bin .add (.var 1) (.int 4))) .nil))) .nil))))) .nil)
noncomputable def FA:Ss:=(.cons (.iff (.blt .isinst (.cons (.var 1) (.cons (.tup (.cons (.ty .tuple) (.cons (.ty .list) .nil))) .nil))) (.cons (.iff (.or (.cmp .ne (.blt .isinst (.cons (.var 1) (.cons (.ty .tuple) .nil))) (.blt .isinst (.cons (.var 0) (.cons (.ty .tuple) .nil)))) (.cmp .ne (.blt .isinst (.cons (.var 1) (.cons (.ty .list) .nil))) (.blt .isinst (.cons (.var 0) (.cons (.ty .list) .nil))))) (.cons (.ret (.bl false)) .nil) .nil) (.cons (.iff (.cmp .ne (.blt .len (.cons (.var 0) .nil)) (.blt .len (.cons (.var 1) .nil))) (.cons (.ret (.bl false)) .nil) .nil) (.cons (.forr (.nm 2) (.r1 (.blt .len (.cons (.var 1) .nil))) (.cons (.iff (.not (.call 23 (.cons (.ix (.var 0) (.var 2)) (.cons (.ix (.var 1) (.var 2)) .nil)))) (.cons (.ret (.bl false)) .nil) .nil) .nil)) (.cons (.ret (.bl true)) .nil)))) .nil) (.cons (.iff (.cmp .is (.var 1) .non) (.cons (.ret (.cmp .is (.var 0) .non)) .nil) .nil) (.cons (.iff (.or (.blt .isinst (.cons (.var 1) (.cons (.ty .bool) .nil))) (.blt .isinst (.cons (.var 0) (.cons (.ty .bool) .nil)))) (.cons (.ret (.and (.blt .isinst (.cons (.var 1) (.cons (.ty .bool) .nil))) (.and (.blt .isinst (.cons (.var 0) (.cons (.ty .bool) .nil))) (.cmp .eq (.var 0) (.var 1))))) .nil) .nil) (.cons (.iff (.blt .isinst (.cons (.var 1) (.cons (.ty .int) .nil))) (.cons (.ret (.and (.blt .isinst (.cons (.var 0) (.cons (.ty .int) .nil))) (.cmp .eq (.var 0) (.var 1)))) .nil) .nil) (.cons (.ret (.and (.blt .isinst (.cons (.var 0) (.cons (.ty .str) .nil))) (.cmp .eq (.var 0) (.var 1)))) .nil)))))
noncomputable def XF:Ss:=(.cons (.iff (.and (.cmp .eq (.ix (.var 0) (.int 0)) (.str "star")) (.cmp .eq (.ix (.var 1) (.int 0)) (.str "star"))) (.cons (.ret (.cmp .eq (.ix (.var 0) (.int 1)) (.ix (.var 1) (.int 1)))) .nil) .nil) (.cons (.iff (.and (.cmp .eq (.ix (.var 0) (.int 0)) (.str "star")) (.cmp .eq (.ix (.var 1) (.int 0)) (.str "under"))) (.cons (.ret (.cmp .lt (.ix (.var 0) (.int 1)) (.ix (.var 1) (.int 1)))) .nil) .nil) (.cons (.iff (.and (.cmp .eq (.ix (.var 0) (.int 0)) (.str "under")) (.cmp .eq (.ix (.var 1) (.int 0)) (.str "star"))) (.cons (.ret (.cmp .lt (.ix (.var 1) (.int 1)) (.ix (.var 0) (.int 1)))) .nil) .nil) (.cons (.ret (.bl true)) .nil))))
noncomputable def J4:Ss:=ZF
noncomputable def J3:Ss:=hvB
noncomputable def J2:Ss:=nqB
noncomputable def J1:Ss:=paB
noncomputable def J0:Ss:=hoQ
noncomputable def I0:Ss:=clB
noncomputable def G9:Ss:=pqB
noncomputable def G8:Ss:=ptB
noncomputable def G7:Ss:=kpB
noncomputable def G6:Ss:=l16
noncomputable def G5:Ss:=TU
noncomputable def G4:Ss:=shB
noncomputable def G0:Ss:=hoB
noncomputable def F9:Ss:=syB
noncomputable def T:Nat->Option Fc
 |0=>some ⟨2,8,b0⟩
 |1=>some ⟨2,4,b1⟩
 |2=>some ⟨1,1,b2⟩
 |3=>some ⟨2,7,b3⟩
 |4=>some ⟨3,7,b4⟩
 |5=>some ⟨2,3,b5⟩
 |6=>some ⟨1,1,b6⟩
 |7=>some ⟨1,3,b7⟩
 |8=>some ⟨1,4,b8⟩
 |9=>some ⟨2,4,b9⟩
 |10=>some ⟨1,1,K2⟩
 |11=>some ⟨3,4,J9⟩
 |12=>some ⟨1,1,J8⟩
 |13=>some ⟨1,1,J7⟩
 |14=>some ⟨3,4,J6⟩
 |15=>some ⟨2,8,J5⟩
 |16=>some ⟨3,7,WG⟩
 |17=>some ⟨2,2,RN⟩
 |18=>some ⟨3,3,WF⟩
 |19=>some ⟨2,4,XI⟩
 |20=>some ⟨2,6,WE⟩
 |21=>some ⟨1,4,XH⟩
 |22=>some ⟨2,2,XG⟩
 |23=>some ⟨2,3,FA⟩
 |24=>some ⟨2,2,XF⟩
 |25=>some ⟨2,5,J4⟩
 |26=>some ⟨1,7,J3⟩
 |27=>some ⟨1,7,J2⟩
 |28=>some ⟨4,14,J1⟩
 |29=>some ⟨1,1,J0⟩
 |30=>some ⟨3,5,I0⟩
 |31=>some ⟨5,9,G9⟩
 |32=>some ⟨1,1,G8⟩
 |33=>some ⟨2,2,G7⟩
 |34=>some ⟨1,18,G6⟩
 |35=>some ⟨6,6,G5⟩
 |36=>some ⟨1,1,G4⟩
 |37=>some ⟨2,4,G0⟩
 |38=>some ⟨2,2,F9⟩
 |_=>none
theorem ck0:eQ ["turn","place","x","y","x_to_x","y_to_x","x_to_y","y_to_y"] (aG (top 4)) G b0 (aN (top 4)):=(dc (cN (by trivial) rfl (λ_=>rfl) vr) (dc (cN (by trivial) rfl (λ_=>rfl) (aH (λ_ _=>rfl) (dF RM (by trivial)) vr)) (dc (aR (aX (ac rfl (aC (aC vr vr) (aC vr vr)) (ac rfl (aC (aC vr vr) (aC vr vr)) aB)))) aE)))
theorem ck1:eQ ["first","second","quarters","mirrors"] (aG (top 5)) G b1 (aN (top 5)):=(dc (aO rfl (by trivial) rfl (qZ (aI rfl vr (dF HU (by trivial))) (aC vr vr) (aC vr vr))) (dc (aO rfl (by trivial) rfl (aI rfl (aI rfl vr (dF HU (by trivial))) (aI rfl vr (dF HU (by trivial))))) (dc (aR (aC (aC vr aA) (qZ vr (dF HU (by trivial)) aA))) aE)))
theorem ck2:eQ ["turn"] (aG (top 6)) G b2 (aN (top 6)):=(dc (aR (qZ (aI rfl vr (dF HU (by trivial))) vr (aC (dQ vr) aA))) aE)
theorem ck3:eQ ["motion","place","turn","right","up","x","y"] (aG (top 7)) G b3 (aN (top 7)):=(dc (cN (by trivial) rfl (λ_=>rfl) vr) (dc (cN (by trivial) rfl (λ_=>rfl) (aP rfl (by trivial) (ac rfl vr (ac rfl vr aB)))) (dc (aR (aX (ac rfl (aC vr vr) (ac rfl (aC vr vr) aB)))) aE)))
theorem ck4:eQ ["turn","place","goal","x","y","goal_x","goal_y"] (aG (top 8)) G b4 (aN (top 8)):=(dc (cN (by trivial) rfl (λ_=>rfl) (aP rfl (by trivial) (ac rfl vr (ac rfl vr aB)))) (dc (cN (by trivial) rfl (λ_=>rfl) vr) (dc (aR (aX (ac rfl vr (ac rfl (aC vr vr) (ac rfl (aC vr vr) aB))))) aE)))
theorem ck5:eQ ["first","second","turn"] (aG (top 9)) G b5 (aN (top 9)):=(dc (aO rfl (by trivial) rfl (aP rfl (by trivial) (ac rfl (aH (λ_ _=>rfl) vr aA) (ac rfl (aH (λ_ _=>rfl) vr aA) aB)))) (dc (aR (aP rfl (by trivial) (ac rfl vr (ac rfl (dF KM (by trivial)) (ac rfl (aP rfl (by trivial) (ac rfl vr (ac rfl (aP rfl (by trivial) (ac rfl vr (ac rfl (dF KM (by trivial)) aB))) aB))) aB))))) aE))
theorem ck6:eQ ["motion"] (aG (top 10)) G b6 (aN (top 10)):=(dc (aR (aP rfl (by trivial) (ac rfl (aP rfl (by trivial) (ac rfl (aH (λ_ _=>rfl) vr aA) aB)) (ac rfl (aP rfl (by trivial) (ac rfl vr (ac rfl (dF KM (by trivial)) aB))) (ac rfl (dF KM (by trivial)) aB))))) aE)
theorem ck7:eQ ["saying","word","number"] (aG (top 18)) G b7 (aN (top 18)):=(dc (cN (by trivial) rfl (λ_=>rfl) vr) (dc (bJ (aI rfl vr dP) (dc (aR (aX (ac rfl vr (ac rfl vr aB)))) aE) aE) (dc (bJ (aI rfl vr dP) (dc (aR (aX (ac rfl aA (ac rfl (aC vr aA) aB)))) aE) aE) (dc (aR (aX (ac rfl aA (ac rfl (dF CQ (by trivial)) aB)))) aE))))
theorem ck8:eQ ["sayings","spans","least","greatest"] (aG (top 19)) G b8 (aN (top 19)):=(dc (PQ rfl (by trivial) (by trivial) (by trivial) (cV (by trivial)) rfl (by trivial) (gS vr) dI (aP rfl (by trivial) (ac rfl vr aB))) (dc (aO rfl (by trivial) rfl (DY (by trivial) rfl (cO (cV (by trivial)) rfl (by trivial) (gS vr) dI vr) aA)) (dc (aO rfl (by trivial) rfl (DY (by trivial) rfl (cO (cV (by trivial)) rfl (by trivial) (gS vr) dI vr) (dF CQ (by trivial)))) (dc (aR (aX (ac rfl vr (ac rfl vr aB)))) aE))))
theorem ck9:eQ ["one","other","least","greatest"] (aG (top 20)) G b9 (aN (top 20)):=(dc (cN (by trivial) rfl (λ_=>rfl) (aP rfl (by trivial) (ac rfl (cK (ac rfl vr (ac rfl vr aB))) aB))) (dc (aR (aI rfl vr vr)) aE))
theorem E4:eQ ["text"] (aG (top 26)) G K2 (aN (top 26)):=(dc (aR (bD (jH (by with_unfolding_all rfl) aA (bH (by trivial) (ac rfl vr aB)) (dF RJ (by trivial))) (bH (by trivial) (ac rfl (cO (cV (by trivial)) rfl (by trivial) (UJ vr) dI (aI rfl vr (dF RK (by trivial)))) aB)))) aE)
theorem E3:eQ ["width","height","limit","sides_fit"] (aG (top 27)) G J9 (aN (top 27)):=(dc (aO rfl (by trivial) rfl (bD (jH (by with_unfolding_all rfl) aA vr (dF OR (by trivial))) (jH (by with_unfolding_all rfl) aA vr (dF OR (by trivial))))) (dc (aR (bD vr (jH (by with_unfolding_all rfl) aA vr (dF CQ (by trivial))))) aE))
theorem E2:eQ ["plate"] (aG (top 29)) G J8 (aN (top 29)):=(dc (aR (QC (cV (by trivial)) (by trivial) rfl (by trivial) (by trivial) (dR (by trivial) (λ_=>rfl) vr) (dR (by trivial) (λ_=>rfl) vr) (aX (ac rfl vr (ac rfl vr aB))))) aE)
theorem YR:FnScope ["laid"] ["laid"] (aG (top 31)):=by trivial
theorem E1:QU 192 "by_name.<locals>.<lambda>" ["laid"] (aG (top 31)) G J7 (aN (top 31)):=VR (by trivial) rfl vr (λ_=>rfl) (λ_=>rfl) ⟨rfl,rfl,rfl,by decide+kernel,rfl,by decide+kernel,by decide+kernel⟩ (λ_ _ _ _ _=>.of_eq rfl) (dR (by trivial) (λ_=>rfl) (aH (λ_ _=>rfl) vr aA))
theorem D9:eQ ["here","there","motion","place"] (aG (top 32)) G J6 (aN (top 32)):=(dc (fI (by trivial) (λ_ _=>rfl) (aP rfl (by trivial) (ac rfl vr aB)) (dc (bJ (jG (aP rfl (by trivial) (ac rfl (qY (by trivial) (λ_=>⟨_,rfl⟩) vr (ac rfl vr aB)) (ac rfl (qY (by trivial) (λ_=>⟨_,rfl⟩) vr (ac rfl (aP rfl (by trivial) (ac rfl vr (ac rfl vr aB))) aB)) aB)))) (dc (aR vr) aE) aE) aE)) (dc (aR gI) aE))
theorem D8:eQ ["laid","others","others_in_order","here","here_motion","there","there_motion","place"] (aG (top 33)) G J5 (aN (top 33)):=(dc (aO rfl (by trivial) rfl (aP rfl (by trivial) (ac rfl vr aB))) (dc (fI (by trivial) (λ_ _=>rfl) (aP rfl (by trivial) (ac rfl vr aB)) (dc (fI (by trivial) (λ_ _=>rfl) vr (dc (aO rfl (by trivial) rfl (aP rfl (by trivial) (ac rfl vr (ac rfl vr (ac rfl (aP rfl (by trivial) (ac rfl vr (ac rfl (aP rfl (by trivial) (ac rfl vr aB)) aB))) aB))))) (dc (bJ (aI rfl vr gI) (dc (aR (aX (ac rfl (dR (by trivial) (λ_=>rfl) vr) (ac rfl (dR (by trivial) (λ_=>rfl) vr) (ac rfl vr aB))))) aE) aE) aE))) aE)) (dc (aR gI) aE)))
theorem D7:eQ ["_law_script","_law_at","_law_many","_law_cell","_law_seed","_law_row","_law_mark"] (aG (top 35)) G WG (aN (top 35)):=(dc (aO rfl (by trivial) rfl (aC (aC aA vr) aA)) (dc (bJ (aI rfl vr (bH (by trivial) (ac rfl vr aB))) (dc (aO rfl (by trivial) rfl (aH (λ_ _=>rfl) vr vr)) aE) (dc (bJ (aI rfl (bH (by trivial) (ac rfl vr aB)) aA) (dc (aO rfl (by trivial) rfl (aC (aC (aC (aH (λ_ _=>rfl) vr (aC vr (bH (by trivial) (ac rfl vr aB)))) aA) (aC (aC vr vr) aA)) aA)) aE) aE) aE)) (dc (aO rfl (by trivial) rfl (aC (aC (aC vr aA) (aC aA vr)) aA)) (dc (aO rfl (by trivial) rfl (cK aB)) (dc (bJ (aI rfl vr (aC aA aA)) (dc (DT (bD (aI rfl vr aA) (aI rfl (bH (by trivial) (ac rfl vr aB)) vr)) (dc (oB rfl (jI rfl rfl vr (aC vr aA))) (dc (aO rfl (by trivial) rfl (aC vr aA)) aE))) aE) aE) (dc (DT (aI rfl (bH (by trivial) (ac rfl vr aB)) vr) (dc (aO rfl (by trivial) rfl (aC (bH (by trivial) (ac rfl vr aB)) aA)) (dc (aO rfl (by trivial) rfl (aC (aC (aC (aC vr aA) (aC (aC vr vr) aA)) aA) aA)) (dc (oB rfl (jI rfl rfl vr (aC (aC (aC (aC vr aA) (aC (aC (aC vr aA) aA) aA)) aA) aA))) aE)))) (dc (aR vr) aE)))))))
theorem D6:eQ ["_law_one","_law_two"] (aG (top 36)) G RN (aN (top 36)):=(dc (bJ (aI rfl (aC vr aA) aA) (dc (aR (aC (aC (aC vr aA) aA) aA)) aE) aE) (dc (bJ (aI rfl (aC vr aA) aA) (dc (aR (aC (aC (aC vr aA) vr) aA)) aE) aE) (dc (aR (aC (aC (aC vr aA) (aC aA aA)) vr)) aE)))
theorem D5:eQ ["_law_turn","_law_x","_law_y"] (aG (top 37)) G WF (aN (top 37)):=(dc (aR (aH (λ_ _=>rfl) (cK (ac rfl (aX (ac rfl vr (ac rfl vr aB))) (ac rfl (aX (ac rfl (dQ vr) (ac rfl vr aB))) (ac rfl (aX (ac rfl (dQ vr) (ac rfl (dQ vr) aB))) (ac rfl (aX (ac rfl vr (ac rfl (dQ vr) aB))) (ac rfl (aX (ac rfl (dQ vr) (ac rfl vr aB))) (ac rfl (aX (ac rfl (dQ vr) (ac rfl (dQ vr) aB))) (ac rfl (aX (ac rfl vr (ac rfl (dQ vr) aB))) (ac rfl (aX (ac rfl vr (ac rfl vr aB))) aB))))))))) vr)) aE)
theorem D4:eQ ["_law_motion_here","_law_place","_law_x","_law_y"] (aG (top 38)) G XI (aN (top 38)):=(dc (cN (by trivial) rfl (λ_=>rfl) (aP rfl (by trivial) (ac rfl (aH (λ_ _=>rfl) vr aA) (ac rfl (aH (λ_ _=>rfl) vr aA) (ac rfl (aH (λ_ _=>rfl) vr aA) aB))))) (dc (aR (aX (ac rfl (aC vr (aH (λ_ _=>rfl) vr aA)) (ac rfl (aC vr (aH (λ_ _=>rfl) vr aA)) aB)))) aE))
theorem D3:eQ ["_law_first","_law_second","_law_quarters","_law_turn","_law_x","_law_y"] (aG (top 39)) G WE (aN (top 39)):=(dc (aO rfl (by trivial) rfl (aC (aH (λ_ _=>rfl) vr aA) aA)) (dc (bJ (aI rfl (aH (λ_ _=>rfl) vr aA) aA) (dc (aO rfl (by trivial) rfl (dQ vr)) aE) aE) (dc (aO rfl (by trivial) rfl (aC (aC (aC vr (aH (λ_ _=>rfl) vr aA)) aA) (aC aA (aC (aC (aC (aH (λ_ _=>rfl) vr aA) aA) (aC (aH (λ_ _=>rfl) vr aA) aA)) aA)))) (dc (cN (by trivial) rfl (λ_=>rfl) (aP rfl (by trivial) (ac rfl (aH (λ_ _=>rfl) vr aA) (ac rfl (aH (λ_ _=>rfl) vr aA) (ac rfl (aH (λ_ _=>rfl) vr aA) aB))))) (dc (aR (aX (ac rfl vr (ac rfl (aC vr (aH (λ_ _=>rfl) vr aA)) (ac rfl (aC vr (aH (λ_ _=>rfl) vr aA)) aB))))) aE)))))
theorem D1:eQ ["_law_motion_here","_law_turn","_law_x","_law_y"] (aG (top 40)) G XH (aN (top 40)):=(dc (aO rfl (by trivial) rfl (aH (λ_ _=>rfl) (cK (ac rfl aA (ac rfl aA (ac rfl aA (ac rfl aA (ac rfl aA (ac rfl aA (ac rfl aA (ac rfl aA aB))))))))) (aH (λ_ _=>rfl) vr aA))) (dc (cN (by trivial) rfl (λ_=>rfl) (aP rfl (by trivial) (ac rfl vr (ac rfl (aH (λ_ _=>rfl) vr aA) (ac rfl (aH (λ_ _=>rfl) vr aA) aB))))) (dc (aR (aX (ac rfl vr (ac rfl (dQ vr) (ac rfl (dQ vr) aB))))) aE)))
theorem C9:eQ ["_law_d","_law_at"] (aG (top 41)) G XG (aN (top 41)):=(dc (aR (aX (ac rfl (aC (aH (λ_ _=>rfl) vr vr) aA) (ac rfl (aP rfl (by trivial) (ac rfl (aH (λ_ _=>rfl) vr (aC vr aA)) (ac rfl (aH (λ_ _=>rfl) vr (aC vr aA)) aB))) (ac rfl (aP rfl (by trivial) (ac rfl (aH (λ_ _=>rfl) vr (aC vr aA)) (ac rfl (aH (λ_ _=>rfl) vr (aC vr aA)) aB))) aB))))) aE)
theorem C8:eQ ["_law_found","_law_due","_law_k"] (aG (top 42)) G FA (aN (top 42)):=(dc (bJ (bH (by trivial) (ac rfl vr (ac rfl (aX (ac rfl (eY (by trivial)) (ac rfl (eY (by trivial)) aB))) aB))) (dc (bJ (KZ (aI rfl (bH (by trivial) (ac rfl vr (ac rfl (eY (by trivial)) aB))) (bH (by trivial) (ac rfl vr (ac rfl (eY (by trivial)) aB)))) (aI rfl (bH (by trivial) (ac rfl vr (ac rfl (eY (by trivial)) aB))) (bH (by trivial) (ac rfl vr (ac rfl (eY (by trivial)) aB))))) (dc (aR tJ) aE) aE) (dc (bJ (aI rfl (bH (by trivial) (ac rfl vr aB)) (bH (by trivial) (ac rfl vr aB))) (dc (aR tJ) aE) aE) (dc (iF (by trivial) (by trivial) rfl (bH (by trivial) (ac rfl vr aB)) (dc (bJ (jG (aP rfl (by trivial) (ac rfl (aH (λ_ _=>rfl) vr vr) (ac rfl (aH (λ_ _=>rfl) vr vr) aB)))) (dc (aR tJ) aE) aE) aE)) (dc (aR tJ) aE)))) aE) (dc (bJ (aI rfl vr gI) (dc (aR (aI rfl vr gI)) aE) aE) (dc (bJ (KZ (bH (by trivial) (ac rfl vr (ac rfl (eY (by trivial)) aB))) (bH (by trivial) (ac rfl vr (ac rfl (eY (by trivial)) aB)))) (dc (aR (by first |exact cP (bH (by trivial) (ac rfl vr (ac rfl (eY (by trivial)) aB))) (bD (bH (by trivial) (ac rfl vr (ac rfl (eY (by trivial)) aB))) (aI rfl vr vr))|exact bD (bH (by trivial) (ac rfl vr (ac rfl (eY (by trivial)) aB))) (bD (bH (by trivial) (ac rfl vr (ac rfl (eY (by trivial)) aB))) (aI rfl vr vr)))) aE) aE) (dc (bJ (bH (by trivial) (ac rfl vr (ac rfl (eY (by trivial)) aB))) (dc (aR (bD (bH (by trivial) (ac rfl vr (ac rfl (eY (by trivial)) aB))) (aI rfl vr vr))) aE) aE) (dc (aR (bD (bH (by trivial) (ac rfl vr (ac rfl (eY (by trivial)) aB))) (aI rfl vr vr))) aE)))))
theorem C7:eQ ["_law_one","_law_other"] (aG (top 43)) G XF (aN (top 43)):=(dc (bJ (bD (aI rfl (aH (λ_ _=>rfl) vr aA) dP) (aI rfl (aH (λ_ _=>rfl) vr aA) dP)) (dc (aR (aI rfl (aH (λ_ _=>rfl) vr aA) (aH (λ_ _=>rfl) vr aA))) aE) aE) (dc (bJ (bD (aI rfl (aH (λ_ _=>rfl) vr aA) dP) (aI rfl (aH (λ_ _=>rfl) vr aA) dP)) (dc (aR (aI rfl (aH (λ_ _=>rfl) vr aA) (aH (λ_ _=>rfl) vr aA))) aE) aE) (dc (bJ (bD (aI rfl (aH (λ_ _=>rfl) vr aA) dP) (aI rfl (aH (λ_ _=>rfl) vr aA) dP)) (dc (aR (aI rfl (aH (λ_ _=>rfl) vr aA) (aH (λ_ _=>rfl) vr aA))) aE) aE) (dc (aR tJ) aE))))
theorem C6:eQ ["_law_pane_here","_law_place","_law_x","_law_y","_law_bright"] (aG (top 44)) G J4 (aN (top 44)):=(dc (bJ (jG (by first |exact cP (aI rfl aA (aH (λ_ _=>rfl) vr aA)) (by first |exact cP (aI rfl (aH (λ_ _=>rfl) vr aA) (aH (λ_ _=>rfl) vr aA)) (bD (aI rfl aA (aH (λ_ _=>rfl) vr aA)) (aI rfl (aH (λ_ _=>rfl) vr aA) (aH (λ_ _=>rfl) vr aA)))|exact bD (aI rfl (aH (λ_ _=>rfl) vr aA) (aH (λ_ _=>rfl) vr aA)) (bD (aI rfl aA (aH (λ_ _=>rfl) vr aA)) (aI rfl (aH (λ_ _=>rfl) vr aA) (aH (λ_ _=>rfl) vr aA))))|exact bD (aI rfl aA (aH (λ_ _=>rfl) vr aA)) (by first |exact cP (aI rfl (aH (λ_ _=>rfl) vr aA) (aH (λ_ _=>rfl) vr aA)) (bD (aI rfl aA (aH (λ_ _=>rfl) vr aA)) (aI rfl (aH (λ_ _=>rfl) vr aA) (aH (λ_ _=>rfl) vr aA)))|exact bD (aI rfl (aH (λ_ _=>rfl) vr aA) (aH (λ_ _=>rfl) vr aA)) (bD (aI rfl aA (aH (λ_ _=>rfl) vr aA)) (aI rfl (aH (λ_ _=>rfl) vr aA) (aH (λ_ _=>rfl) vr aA)))))) (dc (aR (aX (ac rfl dP (ac rfl aA aB)))) aE) aE) (dc (fI (by trivial) (λ_ _=>rfl) (aH (λ_ _=>rfl) vr aA) (dc (bJ (bD (aI rfl vr (aH (λ_ _=>rfl) vr aA)) (aI rfl vr (aH (λ_ _=>rfl) vr aA))) (dc (aR (aX (ac rfl dP (ac rfl vr aB)))) aE) aE) aE)) (dc (aR (aX (ac rfl dP (ac rfl (aH (λ_ _=>rfl) vr aA) aB)))) aE)))
theorem C5:eQ ["_law_script","_law_d","_law_found","_law_k","_law_x","_law_y","_law_bright"] (aG (top 45)) G J3 (aN (top 45)):=(dc (aO rfl (by trivial) rfl (aP rfl (by trivial) (ac rfl vr (ac rfl aA (ac rfl aA aB))))) (dc (aO rfl (by trivial) rfl (cK aB)) (dc (iF (by trivial) (by trivial) rfl (aC (aH (λ_ _=>rfl) vr aA) aA) (dc (aO rfl (by trivial) rfl (aC (aC (aH (λ_ _=>rfl) vr (aC (aC aA vr) aA)) aA) aA)) (dc (aO rfl (by trivial) rfl (aC (aC (aH (λ_ _=>rfl) vr (aC (aC aA vr) aA)) aA) aA)) (dc (aO rfl (by trivial) rfl (aH (λ_ _=>rfl) (cK (ac rfl (aC aA (aC (aH (λ_ _=>rfl) vr (aC (aC aA vr) aA)) aA)) (ac rfl (aC aA (aC (aH (λ_ _=>rfl) vr (aC (aC aA vr) aA)) aA)) aB))) (bH (by trivial) (ac rfl (aI rfl (aC (aC (aH (λ_ _=>rfl) vr aA) aA) aA) aA) aB)))) (dc (bJ (aI rfl (aX (ac rfl vr (ac rfl vr aB))) (cO (cV (by trivial)) rfl (by trivial) (gS vr) dI (aX (ac rfl (aH (λ_ _=>rfl) vr aA) (ac rfl (aH (λ_ _=>rfl) vr aA) aB))))) (dc (oB rfl (jI rfl rfl vr (aX (ac rfl vr (ac rfl vr (ac rfl vr aB)))))) aE) aE) aE))))) (dc (aR vr) aE))))
theorem C4:eQ ["_law_d","_law_letters","_law_names_here","_law_k","_law_own","_law_size","_law_rest"] (aG (top 46)) G J2 (aN (top 46)):=(dc (aO rfl (by trivial) rfl dP) (dc (aO rfl (by trivial) rfl (cK aB)) (dc (iF (by trivial) (by trivial) rfl (aH (λ_ _=>rfl) (cK (ac rfl aA (ac rfl aA (ac rfl aA (ac rfl aA (ac rfl aA (ac rfl aA (ac rfl aA (ac rfl aA (ac rfl aA (ac rfl aA aB))))))))))) (aC (aH (λ_ _=>rfl) vr aA) aA)) (dc (aO rfl (by trivial) rfl (aH (λ_ _=>rfl) vr (aC (aC (aC vr (aH (λ_ _=>rfl) (cK (ac rfl aA (ac rfl aA (ac rfl aA (ac rfl aA (ac rfl aA (ac rfl aA aB))))))) (aC (aH (λ_ _=>rfl) vr aA) aA))) (aH (λ_ _=>rfl) vr aA)) aA))) (dc (aO rfl (by trivial) rfl (aC (aC (aH (λ_ _=>rfl) vr aA) aA) aA)) (dc (bJ (aI rfl (aC (aH (λ_ _=>rfl) vr aA) aA) aA) (dc (aO rfl (by trivial) rfl (aC (aH (λ_ _=>rfl) vr (aC aA vr)) aA)) aE) aE) (dc (aO rfl (by trivial) rfl (IM rfl rfl (cO (cV (by trivial)) rfl (by trivial) (UK (by trivial) rfl vr) dI (aH (λ_ _=>rfl) vr (aC (aC (aH (λ_ _=>rfl) vr aA) (aC vr (aH (λ_ _=>rfl) vr aA))) aA))))) (dc (bJ (aI rfl (aC (aC (aH (λ_ _=>rfl) vr aA) aA) aA) aA) (dc (oB rfl (jI rfl rfl vr (aC vr vr))) aE) (dc (oB rfl (jI rfl rfl vr (aC vr vr))) aE)) aE)))))) (dc (aR vr) aE))))
theorem C3:eQ ["_law_name","_law_home_here","_law_heaven_here","_law_d","_law_width","_law_height","_law_limit","_law_stars","_law_x","_law_y","_law_bright","_law_right","_law_up","_law_odd"] (aG (top 47)) G J1 (aN (top 47)):=(dc (aO rfl (by trivial) rfl (aH (λ_ _=>rfl) (cK (ac rfl (aC aA (aC (aH (λ_ _=>rfl) vr aA) aA)) (ac rfl (aC aA (aC (aC (aH (λ_ _=>rfl) vr aA) aA) aA)) aB))) (bH (by trivial) (ac rfl (aI rfl (aC (aC (aH (λ_ _=>rfl) vr aA) aA) aA) aA) aB)))) (dc (aO rfl (by trivial) rfl (aH (λ_ _=>rfl) (cK (ac rfl (aC aA (aC (aH (λ_ _=>rfl) vr aA) aA)) (ac rfl (aC aA (aC (aC (aH (λ_ _=>rfl) vr aA) aA) aA)) aB))) (bH (by trivial) (ac rfl (aI rfl (aC (aC (aH (λ_ _=>rfl) vr aA) aA) aA) aA) aB)))) (dc (aO rfl (by trivial) rfl (aH (λ_ _=>rfl) (cK (ac rfl (aC aA (aC (aH (λ_ _=>rfl) vr aA) aA)) (ac rfl (aC aA (aC (aC (aH (λ_ _=>rfl) vr aA) aA) aA)) aB))) (bH (by trivial) (ac rfl (aI rfl (aC (aC (aH (λ_ _=>rfl) vr aA) aA) aA) aA) aB)))) (dc (aO rfl (by trivial) rfl (cK aB)) (dc (fI (by trivial) (λ_ _=>rfl) vr (dc (cN (by trivial) rfl (λ_=>rfl) (aP rfl (by trivial) (ac rfl (aP rfl (by trivial) (ac rfl vr aB)) (ac rfl (aX (ac rfl vr (ac rfl vr aB))) aB)))) (dc (bJ (by first |exact cP (aI rfl aA vr) (by first |exact cP (aI rfl vr vr) (by first |exact cP (aI rfl aA vr) (bD (aI rfl vr vr) (aI rfl vr vr))|exact bD (aI rfl aA vr) (bD (aI rfl vr vr) (aI rfl vr vr)))|exact bD (aI rfl vr vr) (by first |exact cP (aI rfl aA vr) (bD (aI rfl vr vr) (aI rfl vr vr))|exact bD (aI rfl aA vr) (bD (aI rfl vr vr) (aI rfl vr vr))))|exact bD (aI rfl aA vr) (by first |exact cP (aI rfl vr vr) (by first |exact cP (aI rfl aA vr) (bD (aI rfl vr vr) (aI rfl vr vr))|exact bD (aI rfl aA vr) (bD (aI rfl vr vr) (aI rfl vr vr)))|exact bD (aI rfl vr vr) (by first |exact cP (aI rfl aA vr) (bD (aI rfl vr vr) (aI rfl vr vr))|exact bD (aI rfl aA vr) (bD (aI rfl vr vr) (aI rfl vr vr))))) (dc (oB rfl (jI rfl rfl vr (aX (ac rfl vr (ac rfl vr (ac rfl vr aB)))))) aE) aE) aE))) (dc (bJ (aI rfl (aC (aH (λ_ _=>rfl) vr aA) aA) aA) (dc (aO rfl (by trivial) rfl (aX (ac rfl (aC (aH (λ_ _=>rfl) vr aA) vr) (ac rfl (aC (aH (λ_ _=>rfl) vr aA) vr) (ac rfl (aC vr (aC (aC (aH (λ_ _=>rfl) vr aA) aA) (aC aA vr))) aB))))) (dc (aO rfl (by trivial) rfl (aC (cO (cV (by trivial)) rfl (by trivial) (gS vr) (qH (aI rfl (vL vr aA) (vL vr aA)) dI) vr) (cK (ac rfl vr aB)))) aE)) aE) (dc (aR (aX (ac rfl vr (ac rfl vr (ac rfl vr (ac rfl vr (ac rfl (bH (by trivial) (ac rfl (bH (by trivial) (ac rfl (DX vr (dQ aA)) aB)) aB)) aB))))))) aE)))))))
theorem C2:eQ ["_law_d"] (aG (top 48)) G J0 (aN (top 48)):=(dc (aR (aX (ac rfl (aC (aH (λ_ _=>rfl) vr aA) aA) (ac rfl (aC (aC (aH (λ_ _=>rfl) vr aA) aA) aA) (ac rfl (aC (aC (aH (λ_ _=>rfl) vr aA) aA) aA) aB))))) aE)
theorem C1:eQ ["_law_here","_law_there","_law_away","_law_x","_law_y"] (aG (top 49)) G I0 (aN (top 49)):=(dc (iF (by trivial) (by trivial) rfl (aH (λ_ _=>rfl) vr aA) (dc (iF (by trivial) (by trivial) rfl (aH (λ_ _=>rfl) vr aA) (dc (bJ (jG (aP rfl (by trivial) (ac rfl (aP rfl (by trivial) (ac rfl vr (ac rfl (aX (ac rfl vr (ac rfl vr aB))) aB))) (ac rfl (aP rfl (by trivial) (ac rfl vr (ac rfl (aP rfl (by trivial) (ac rfl vr (ac rfl (aX (ac rfl vr (ac rfl vr aB))) aB))) aB))) aB)))) (dc (aR (aX (ac rfl vr (ac rfl vr aB)))) aE) aE) aE)) aE)) (dc (aR gI) aE))
theorem B9:eQ ["_law_script","_law_at","_law_names_here","_law_heaven_here","_law_whole","_law_rows","_law_k","_law_d","_law_home_here"] (aG (top 50)) G G9 (aN (top 50)):=(dc (aO rfl (by trivial) rfl (cK aB)) (dc (iF (by trivial) (by trivial) rfl (bH (by trivial) (ac rfl vr aB)) (dc (aO rfl (by trivial) rfl (aP rfl (by trivial) (ac rfl vr (ac rfl (aC vr vr) (ac rfl aA aB))))) (dc (aO rfl (by trivial) rfl (aP rfl (by trivial) (ac rfl vr aB))) (dc (bJ (aI rfl (aC (aH (λ_ _=>rfl) vr aA) aA) aA) (dc (aO rfl (by trivial) rfl (aX (ac rfl (aH (λ_ _=>rfl) vr aA) (ac rfl (aC (aH (λ_ _=>rfl) vr aA) (aC aA (aC (aH (λ_ _=>rfl) vr aA) aA))) (ac rfl (aC (aH (λ_ _=>rfl) vr aA) (aC (aC aA aA) (aC (aH (λ_ _=>rfl) vr aA) aA))) aB))))) aE) aE) (dc (oB rfl (jI rfl rfl vr (aX (ac rfl (aP rfl (by trivial) (ac rfl (aH (λ_ _=>rfl) vr vr) (ac rfl vr (ac rfl vr (ac rfl vr aB))))) (ac rfl (aP rfl (by trivial) (ac rfl vr (ac rfl vr aB))) aB))))) aE))))) (dc (aR vr) aE)))
theorem B8:eQ ["_law_rows"] (aG (top 51)) G G8 (aN (top 51)):=(dc (aR (cO (cV (by trivial)) rfl (by trivial) (gS vr) dI (aX (ac rfl (QA (by trivial) (by trivial) (ac rfl (aH (λ_ _=>rfl) vr aA) (ac rfl (aH (λ_ _=>rfl) vr aA) (ac rfl (aH (λ_ _=>rfl) vr aA) (ac rfl (aH (λ_ _=>rfl) vr aA) (ac rfl (bH (by trivial) (ac rfl (aH (λ_ _=>rfl) vr aA) aB)) aB)))))) (ac rfl vr aB))))) aE)
theorem B7:eQ ["_law_handed","_law_rows"] (aG (top 52)) G G7 (aN (top 52)):=(dc (aR (aI rfl (cO (cV (by trivial)) rfl (by trivial) (gS vr) dI (aX (ac rfl (dR (by trivial) (λ_=>rfl) vr) (ac rfl vr aB)))) (cO (cV (by trivial)) rfl (by trivial) (gS vr) dI (aX (ac rfl (aH (λ_ _=>rfl) vr aA) (ac rfl vr aB)))))) aE)
theorem SR:FnScope ["_law_script","_law_d","_law_e","_law_names_here","_law_whole","_law_heaven_here","_law_ones","_law_others","_law_panes_here","_law_hung","_law_pane_here","_law_motion_here","_law_due","_law_here","_law_there","_law_place","_law_handed","_law_found"] ["_law_script"] (aG (top 53)):=by trivial
theorem VV:eQ ["_law_script","_law_d","_law_e","_law_names_here","_law_whole","_law_heaven_here","_law_ones","_law_others","_law_panes_here","_law_hung","_law_pane_here","_law_motion_here","_law_due","_law_here","_law_there","_law_place","_law_handed","_law_found"] (aG (top 53)) G G6 (aN (top 53)):=(dc (aO rfl (by trivial) rfl (aP rfl (by trivial) (ac rfl vr (ac rfl aA (ac rfl aA aB))))) (dc (aO rfl (by trivial) rfl (aP rfl (by trivial) (ac rfl vr (ac rfl aA (ac rfl aA aB))))) (dc (aO rfl (by trivial) rfl (aP rfl (by trivial) (ac rfl vr aB))) (dc (aO rfl (by trivial) rfl (aP rfl (by trivial) (ac rfl vr (ac rfl aA aB)))) (dc (aO rfl (by trivial) rfl (aP rfl (by trivial) (ac rfl vr aB))) (dc (aO rfl (by trivial) rfl (aP rfl (by trivial) (ac rfl vr (ac rfl aA (ac rfl (DW vr (aC (aH (λ_ _=>rfl) vr aA) aA)) (ac rfl vr (ac rfl vr aB))))))) (dc (bJ (aI rfl (aC (aH (λ_ _=>rfl) vr aA) aA) aA) (dc (aO rfl (by trivial) rfl (aC (cO (cV (by trivial)) rfl (by trivial) (gS (DX vr aA)) (qH (aI rfl (vL vr aA) (aX (ac rfl aA (ac rfl aA aB)))) dI) vr) (cK (ac rfl (aX (ac rfl aA (ac rfl aA (ac rfl aA aB)))) aB)))) aE) aE) (dc (aO rfl (by trivial) rfl (aP rfl (by trivial) (ac rfl vr (ac rfl aA (ac rfl (DW (PY vr) (aC (aH (λ_ _=>rfl) vr aA) aA)) (ac rfl vr (ac rfl vr aB))))))) (dc (aO rfl (by trivial) rfl DZ) (dc (aO rfl (by trivial) rfl DZ) (dc (fI (by trivial) (λ_ _=>rfl) vr (dc (DU rfl (λ_ _=>rfl) vr vr (aH (λ_ _=>rfl) vr aA)) (dc (DU rfl (λ_ _=>rfl) vr vr (aH (λ_ _=>rfl) vr aA)) aE))) (dc (aO rfl (by trivial) rfl gI) (dc (fI (by trivial) (λ_ _=>rfl) (PX (by trivial) rfl vr) (dc (fI (by trivial) (λ_ _=>rfl) (bH (by trivial) (ac rfl (cO (cV (by trivial)) rfl (by trivial) (gS vr) dI (aX (ac rfl (aH (λ_ _=>rfl) vr aA) (ac rfl vr aB)))) aB)) (dc (aO rfl (by trivial) rfl (aH (λ_ _=>rfl) (cO (cV (by trivial)) rfl (by trivial) (gS vr) (qH (aI rfl (aH (λ_ _=>rfl) vr aA) vr) dI) vr) aA)) (dc (aO rfl (by trivial) rfl (aP rfl (by trivial) (ac rfl (aH (λ_ _=>rfl) vr vr) (ac rfl vr (ac rfl (aP rfl (by trivial) (ac rfl (aH (λ_ _=>rfl) vr vr) (ac rfl (aP rfl (by trivial) (ac rfl vr aB)) aB))) aB))))) (dc (bJ (bD (aI rfl vr gI) (aI rfl vr gI)) (dc (aO rfl (by trivial) rfl (aX (ac rfl vr (ac rfl vr (ac rfl vr aB))))) aE) aE) aE)))) aE)) (dc (aO rfl (by trivial) rfl (cK (ac rfl (aP rfl (by trivial) (ac rfl vr aB)) (ac rfl (aP rfl (by trivial) (ac rfl vr aB)) aB)))) (dc (aO rfl (by trivial) rfl (aP rfl (by trivial) (ac rfl (aH (λ_ _=>rfl) vr aA) (ac rfl (aH (λ_ _=>rfl) vr aA) aB)))) (dc (aR (by first |exact cP (aP rfl (by trivial) (ac rfl vr (ac rfl vr aB))) (bD (aP rfl (by trivial) (ac rfl (aH (λ_ _=>rfl) vr aA) (ac rfl vr aB))) (aP rfl (by trivial) (ac rfl (aH (λ_ _=>rfl) vr aA) (ac rfl vr aB))))|exact bD (aP rfl (by trivial) (ac rfl vr (ac rfl vr aB))) (bD (aP rfl (by trivial) (ac rfl (aH (λ_ _=>rfl) vr aA) (ac rfl vr aB))) (aP rfl (by trivial) (ac rfl (aH (λ_ _=>rfl) vr aA) (ac rfl vr aB)))))) aE))))))))))))))))
theorem YQ:FnScope ["self","name","width","height","limit","stars"] ["self","name","width","height","limit","stars"] (aG (mtop 28 0)):=by trivial
theorem B6:eQ ["self","name","width","height","limit","stars"] (aG (mtop 28 0)) G G5 (aN (mtop 28 0)):=(dc (bJ (jG (aP rfl (by trivial) (ac rfl vr aB))) (dc hE aE) aE) (dc (bJ (jG (aP rfl (by trivial) (ac rfl vr (ac rfl vr (ac rfl vr aB))))) (dc hE aE) aE) (dc (bJ (aI rfl (bH (by trivial) (ac rfl vr aB)) (dF RI (by trivial))) (dc hE aE) aE) (dc (oA (by trivial) (λ_=>rfl) vr vr) (dc (oA (by trivial) (λ_=>rfl) vr vr) (dc (oA (by trivial) (λ_=>rfl) vr vr) (dc (oA (by trivial) (λ_=>rfl) vr vr) (dc (oA (by trivial) (λ_=>rfl) (QB (cV (by trivial)) rfl (by trivial) vr (aX (ac rfl vr (ac rfl vr aB))) vr) vr) (dc (bJ (aI rfl (bH (by trivial) (ac rfl (dR (by trivial) (λ_=>rfl) vr) aB)) (bH (by trivial) (ac rfl vr aB))) (dc hE aE) aE) (dc (bJ (jG (IL (by trivial) (λ_=>⟨_,rfl⟩) vr)) (dc hE aE) aE) aE))))))))))
theorem YO:FnScope ["self"] ["self"] (aG (mtop 28 1)):=by trivial
theorem B5:eQ ["self"] (aG (mtop 28 1)) G G4 (aN (mtop 28 1)):=(dc (aR (bH (by trivial) (ac rfl (cO (cV (by trivial)) rfl (by trivial) (OG (λ_=>rfl) rfl (dR (by trivial) (λ_=>rfl) vr)) dI (bD (qY (by trivial) (λ_=>⟨_,rfl⟩) vr (ac rfl vr aB)) (jH (by with_unfolding_all rfl) (dR (by trivial) (λ_=>rfl) vr) vr (dF CQ (by trivial))))) aB))) aE)
theorem YN:FnScope ["self","place","x","y"] ["self","place"] (aG (mtop 28 3)):=by trivial
theorem B4:eQ ["self","place","x","y"] (aG (mtop 28 3)) G G0 (aN (mtop 28 3)):=(dc (cN (by trivial) rfl (λ_=>rfl) vr) (dc (aR (bD (jH (by with_unfolding_all rfl) aA vr (dR (by trivial) (λ_=>rfl) vr)) (jH (by with_unfolding_all rfl) aA vr (dR (by trivial) (λ_=>rfl) vr)))) aE))
theorem YM:FnScope ["self","place"] ["self","place"] (aG (mtop 28 4)):=by trivial
theorem B3:eQ ["self","place"] (aG (mtop 28 4)) G F9 (aN (mtop 28 4)):=(dc (bJ (aI rfl vr (dR (by trivial) (λ_=>rfl) vr)) (dc (aR (aX (ac rfl dP (ac rfl (aH (λ_ _=>rfl) (dR (by trivial) (λ_=>rfl) vr) vr) aB)))) aE) aE) (dc (aR (qZ (qY (by trivial) (λ_=>⟨_,rfl⟩) vr (ac rfl vr aB)) (aX (ac rfl dP (ac rfl (dR (by trivial) (λ_=>rfl) vr) aB))) (dF RL (by trivial)))) aE))
theorem all_mk{K:W.Frag}{h:Heap}{mg:Str->Option Value}{fa:Addr}(X:K.In h)(Gn:h.Ns mainGlobals mg)(hfa:mg "law"=some (.ref fa))
 {f13 f34 C0 f35 f36 f37 f38 t0 t3 t4 t9 t14 t19 t24 t29 t34 t39 t46:Addr}{oc13 kV13 dc13 pm13 cd13 ct13 oc34 kV34 dc34 pm34 cd34 ct34 oc35 kV35 dc35 pm35 cd35 ct35 oc36 kV36 dc36 pm36 cd36 ct36 oc37 kV37 dc37 pm37 cd37 ct37 oc38 kV38 dc38 pm38 cd38 ct38:Value}{od13 an13 od34 an34 od35 an35 od36 an36 od37 an37 od38 an38 td0 td3 td4 td9 td14 td19 td24 td29 td34 td39 td46:Option Addr}{sl13 sl34 sl35 sl36 sl37 sl38 ts0 ts3 ts4 ts9 ts14 ts19 ts24 ts29 ts34 ts39 ts46:Array (Option Value)}{tn0 tn3 tn4 tn9 tn14 tn19 tn24 tn29 tn34 tn39 tn46:Nat}{u1 u2 u5 u6 u7 u8 u10 u11 u12 u13 u15 u16 u17 u18 u20 u21 u22 u23 u25 u26 u27 u28 u30 u31 u32 u33 u35 u36 u37 u38 u40 u41 u42 u43 u44 u45 u47 u48 u49 u50 u51 u52:Tok}
 (gb0:GF K "turned" (top 4))
 (gb1:GF K "turn_behind" (top 5))
 (gb2:GF K "turn_back" (top 6))
 (gb3:GF K "moved" (top 7))
 (gb4:GF K "leading" (top 8))
 (gb5:GF K "behind" (top 9))
 (gb6:GF K "back" (top 10))
 (gb7:GF K "span" (top 18))
 (gb8:GF K "common_span" (top 19))
 (gb9:GF K "agree" (top 20))
 (gb10:GF K "is_name" (top 26))
 (gb11:GF K "is_window" (top 27))
 (gb12:GF K "window_places" (top 29))
 (fa13:W.nsIn K mainGlobals "by_name"=some (some (.ref f13)))
 (fl13:K.lookup f13=some ⟨oc13,od13,.func (W.fnOf "by_name" "by_name" (dA (top 31)) (aN (top 31)) (aG (top 31)) .none kV13 dc13 pm13 an13 cd13 ct13),sl13⟩)
 (fc13:W.codeIn K cd13 "by_name"=true)
 (fk13:W.keepIn K (.ref f13)=true)
 (gb14:GF K "first_denied" (top 32))
 (gb15:GF K "unlike" (top 33))
 (gb16:GF K "_law_draws" (top 35))
 (gb17:GF K "_law_far" (top 36))
 (gb18:GF K "_law_turned" (top 37))
 (gb19:GF K "_law_moved" (top 38))
 (gb20:GF K "_law_behind" (top 39))
 (gb21:GF K "_law_back" (top 40))
 (gb22:GF K "_law_motion" (top 41))
 (gb23:GF K "_law_same" (top 42))
 (gb24:GF K "_law_agreeing" (top 43))
 (gb25:GF K "_law_says" (top 44))
 (gb26:GF K "_law_heaven" (top 45))
 (gb27:GF K "_law_names" (top 46))
 (gb28:GF K "_law_pane" (top 47))
 (gb29:GF K "_law_home" (top 48))
 (gb30:GF K "_law_clash_of_two" (top 49))
 (gb31:GF K "_law_panes" (top 50))
 (gb32:GF K "_law_plates" (top 51))
 (gb33:GF K "_law_kept" (top 52))
 (fa34:W.nsIn K mainGlobals "law"=some (some (.ref f34)))
 (fl34:K.lookup f34=some ⟨oc34,od34,.func (W.fnOf "law" "law" (dA (top 53)) (aN (top 53)) (aG (top 53)) .none kV34 dc34 pm34 an34 cd34 ct34),sl34⟩)
 (fc34:W.codeIn K cd34 "law"=true)
 (fk34:W.keepIn K (.ref f34)=true)
 (ka0:W.nsIn K mainGlobals "Plate"=some (some (.ref C0)))
 (fa35:W.findIn K (.ref C0) "__init__"=some (some (.ref f35)))
 (fi35:W.isFn K (.ref f35)=true)
 (fl35:K.lookup f35=some ⟨oc35,od35,.func (W.fnOf "__init__" "Plate.__init__" (dA (mtop 28 0)) (aN (mtop 28 0)) (aG (mtop 28 0)) .none kV35 dc35 pm35 an35 cd35 ct35),sl35⟩)
 (fc35:W.codeIn K cd35 "Plate.__init__"=true)
 (fk35:W.keepIn K (.ref f35)=true)
 (fa36:W.findIn K (.ref C0) "shows_its_stars"=some (some (.ref f36)))
 (fi36:W.isFn K (.ref f36)=true)
 (fl36:K.lookup f36=some ⟨oc36,od36,.func (W.fnOf "shows_its_stars" "Plate.shows_its_stars" (dA (mtop 28 1)) (aN (mtop 28 1)) (aG (mtop 28 1)) .none kV36 dc36 pm36 an36 cd36 ct36),sl36⟩)
 (fc36:W.codeIn K cd36 "Plate.shows_its_stars"=true)
 (fk36:W.keepIn K (.ref f36)=true)
 (fa37:W.findIn K (.ref C0) "holds"=some (some (.ref f37)))
 (fi37:W.isFn K (.ref f37)=true)
 (fl37:K.lookup f37=some ⟨oc37,od37,.func (W.fnOf "holds" "Plate.holds" (dA (mtop 28 3)) (aN (mtop 28 3)) (aG (mtop 28 3)) .none kV37 dc37 pm37 an37 cd37 ct37),sl37⟩)
 (fc37:W.codeIn K cd37 "Plate.holds"=true)
 (fk37:W.keepIn K (.ref f37)=true)
 (fa38:W.findIn K (.ref C0) "says"=some (some (.ref f38)))
 (fi38:W.isFn K (.ref f38)=true)
 (fl38:K.lookup f38=some ⟨oc38,od38,.func (W.fnOf "says" "Plate.says" (dA (mtop 28 4)) (aN (mtop 28 4)) (aG (mtop 28 4)) .none kV38 dc38 pm38 an38 cd38 ct38),sl38⟩)
 (fc38:W.codeIn K cd38 "Plate.says"=true)
 (fk38:W.keepIn K (.ref f38)=true)
 (kb0:W.plainGet K C0 Str.empty=true)
 (kc0:W.hasDictIn K C0=true)
 (kd0:W.plainOver K C0=true)
 (ke0:W.findIn K (.ref C0) "__setattr__"=some (some (.builtin "object.__setattr__")))
 (kf0:W.makesIn K C0=true)
 (kg0:W.keepIn K (.ref C0)=true)
 (kn0:W.findIn K (.ref C0) "name"=some none)
 (kn1:W.findIn K (.ref C0) "width"=some none)
 (kn2:W.findIn K (.ref C0) "height"=some none)
 (kn3:W.findIn K (.ref C0) "limit"=some none)
 (kn4:W.findIn K (.ref C0) "bright_at"=some none)
 (ga0:W.nsIn K mainGlobals "ORIGIN"=some (some (.ref t0)))
 (tt0:K.lookup t0=some ⟨.type "tuple",td0,.seq #[.int (0) u1,.int (0) u2] tn0,ts0⟩)
 (ga1:W.nsIn K mainGlobals "TURNS"=some (some (.ref t3)))
 (tt3:K.lookup t3=some ⟨.type "tuple",td3,.seq #[.ref t4,.ref t9,.ref t14,.ref t19,.ref t24,.ref t29,.ref t34,.ref t39] tn3,ts3⟩)
 (tt4:K.lookup t4=some ⟨.type "tuple",td4,.seq #[.int (1) u5,.int (0) u6,.int (0) u7,.int (1) u8] tn4,ts4⟩)
 (tt9:K.lookup t9=some ⟨.type "tuple",td9,.seq #[.int (0) u10,.int (-1) u11,.int (1) u12,.int (0) u13] tn9,ts9⟩)
 (tt14:K.lookup t14=some ⟨.type "tuple",td14,.seq #[.int (-1) u15,.int (0) u16,.int (0) u17,.int (-1) u18] tn14,ts14⟩)
 (tt19:K.lookup t19=some ⟨.type "tuple",td19,.seq #[.int (0) u20,.int (1) u21,.int (-1) u22,.int (0) u23] tn19,ts19⟩)
 (tt24:K.lookup t24=some ⟨.type "tuple",td24,.seq #[.int (-1) u25,.int (0) u26,.int (0) u27,.int (1) u28] tn24,ts24⟩)
 (tt29:K.lookup t29=some ⟨.type "tuple",td29,.seq #[.int (0) u30,.int (-1) u31,.int (-1) u32,.int (0) u33] tn29,ts29⟩)
 (tt34:K.lookup t34=some ⟨.type "tuple",td34,.seq #[.int (1) u35,.int (0) u36,.int (0) u37,.int (-1) u38] tn34,ts34⟩)
 (tt39:K.lookup t39=some ⟨.type "tuple",td39,.seq #[.int (0) u40,.int (1) u41,.int (1) u42,.int (0) u43] tn39,ts39⟩)
 (ga2:W.nsIn K mainGlobals "MIRRORED"=some (some (.int (4) u44)))
 (ga3:W.nsIn K mainGlobals "BRIGHTEST"=some (some (.int (9) u45)))
 (ga4:W.nsIn K mainGlobals "UNSEEN"=some (some (.ref t46)))
 (tt46:K.lookup t46=some ⟨.type "tuple",td46,.seq #[.str "unseen" u47,.int (0) u48] tn46,ts46⟩)
 (ga5:W.nsIn K mainGlobals "LETTERS"=some (some (.str "abcdefghijklmnopqrstuvwxyz" u49)))
 (ga6:W.nsIn K mainGlobals "LONGEST_NAME"=some (some (.int (8) u50)))
 (ga7:W.nsIn K mainGlobals "LONGEST_SIDE"=some (some (.int (8) u51)))
 (ga8:W.nsIn K mainGlobals "MOST_STARS"=some (some (.int (8) u52)))
 (lh0:∃ch:Addr,cd13=.ref ch/\W.codeHdIn K ch 192=true)
 (lt0:K.lookup 192=none)
 (z_len:W.nsIn K mainGlobals "len"=some none)
 (z_isinstance:W.nsIn K mainGlobals "isinstance"=some none)
 (z_int:W.nsIn K mainGlobals "int"=some none)
 (z_list:W.nsIn K mainGlobals "list"=some none)
 (z_bool:W.nsIn K mainGlobals "bool"=some none)
 (z_str:W.nsIn K mainGlobals "str"=some none)
 (z_tuple:W.nsIn K mainGlobals "tuple"=some none)
 (z_range:W.nsIn K mainGlobals "range"=some none)
 (z_max:W.nsIn K mainGlobals "max"=some none)
 (z_min:W.nsIn K mainGlobals "min"=some none)
 (z_sorted:W.nsIn K mainGlobals "sorted"=some none)
 (z_all:W.nsIn K mainGlobals "all"=some none)
 (z_ValueError:W.nsIn K mainGlobals "ValueError"=some none)
 :(∃cT,W.codeHdIn K cT 192=true)/\K.lookup 192=none/\∃ca:Nat->Addr,PrOk K mg G ca T/\∃fd:FuncData,(∀(s:Shared)(u:Value),BindsTo s fd ⟨[u],[]⟩ [("_law_script",u)])/\∃c st N qual,T 34=some c/\Fun K "law" qual st fa fd/\FnScope N ["_law_script"] (aG st)/\1=c.np/\N.length=c.ns/\SX K G qual fd N (aG st) c.body (aN st):=by
 have e:=hfa.symm.trans (W.mg_of X Gn fa34);cases e;have F13:=jC (st:=top 31) fl13 fc13 fk13;have B13:=F13.binds (ps:= ["laid"]) (by trivial);have F34:=jC (st:=top 53) fl34 fc34 fk34;have B34:=F34.binds (ps:= ["_law_script"]) (by trivial);have F35:=jC (st:=mtop 28 0) fl35 fc35 fk35;have B35:=F35.binds (ps:= ["self","name","width","height","limit","stars"]) (by trivial);have F36:=jC (st:=mtop 28 1) fl36 fc36 fk36;have B36:=F36.binds (ps:= ["self"]) (by trivial);have F37:=jC (st:=mtop 28 3) fl37 fc37 fk37;have B37:=F37.binds (ps:= ["self","place"]) (by trivial);have F38:=jC (st:=mtop 28 4) fl38 fc38 fk38;have B38:=F38.binds (ps:= ["self","place"]) (by trivial);have L0:Cls K C0:=⟨kb0,kc0,kd0,ke0⟩;obtain⟨ch,ec,hc⟩:=lh0;refine⟨⟨ch,hc⟩,lt0,λi=>([]:List Addr).getD i 0,⟨λf x hf=>?_,λg x d hg=>?_,λb=>?_,λt=>?_,W.mg_none_of X Gn z_range,λc x hx=>?_,λq hq=>?_,λq hq=>?_,W.mg_none_of X Gn z_ValueError,λp hp=>?_,λp hp=>?_,λp hp=>?_⟩,?_⟩
 ·refine AllP.get0 (P:=λf x=>∃c,T f=some c/\QZ K mg G x c) (l:=G.fns) ?_ hf;refine⟨⟨_,rfl,gb0.ok X Gn ["turn","place"] ck0⟩,?_⟩;refine⟨⟨_,rfl,gb1.ok X Gn ["first","second"] ck1⟩,?_⟩;refine⟨⟨_,rfl,gb2.ok X Gn ["turn"] ck2⟩,?_⟩;refine⟨⟨_,rfl,gb3.ok X Gn ["motion","place"] ck3⟩,?_⟩;refine⟨⟨_,rfl,gb4.ok X Gn ["turn","place","goal"] ck4⟩,?_⟩;refine⟨⟨_,rfl,gb5.ok X Gn ["first","second"] ck5⟩,?_⟩;refine⟨⟨_,rfl,gb6.ok X Gn ["motion"] ck6⟩,?_⟩;refine⟨⟨_,rfl,gb7.ok X Gn ["saying"] ck7⟩,?_⟩;refine⟨⟨_,rfl,gb8.ok X Gn ["sayings"] ck8⟩,?_⟩;refine⟨⟨_,rfl,gb9.ok X Gn ["one","other"] ck9⟩,?_⟩;refine⟨⟨_,rfl,gb10.ok X Gn ["text"] E4⟩,?_⟩;refine⟨⟨_,rfl,gb11.ok X Gn ["width","height","limit"] E3⟩,?_⟩;refine⟨⟨_,rfl,gb12.ok X Gn ["plate"] E2⟩,?_⟩;refine⟨⟨_,rfl,_,_,_,_,_,_,F13,YR,rfl,rfl,B13,W.mg_of X Gn fa13,.inr ⟨_,_,ch,ec,⟨hc⟩,rfl,E1⟩⟩,?_⟩;refine⟨⟨_,rfl,gb14.ok X Gn ["here","there","motion"] D9⟩,?_⟩;refine⟨⟨_,rfl,gb15.ok X Gn ["laid","others"] D8⟩,?_⟩;refine⟨⟨_,rfl,gb16.ok X Gn ["_law_script","_law_at","_law_many"] D7⟩,?_⟩;refine⟨⟨_,rfl,gb17.ok X Gn ["_law_one","_law_two"] D6⟩,?_⟩;refine⟨⟨_,rfl,gb18.ok X Gn ["_law_turn","_law_x","_law_y"] D5⟩,?_⟩;refine⟨⟨_,rfl,gb19.ok X Gn ["_law_motion_here","_law_place"] D4⟩,?_⟩;refine⟨⟨_,rfl,gb20.ok X Gn ["_law_first","_law_second"] D3⟩,?_⟩;refine⟨⟨_,rfl,gb21.ok X Gn ["_law_motion_here"] D1⟩,?_⟩;refine⟨⟨_,rfl,gb22.ok X Gn ["_law_d","_law_at"] C9⟩,?_⟩;refine⟨⟨_,rfl,gb23.ok X Gn ["_law_found","_law_due"] C8⟩,?_⟩;refine⟨⟨_,rfl,gb24.ok X Gn ["_law_one","_law_other"] C7⟩,?_⟩;refine⟨⟨_,rfl,gb25.ok X Gn ["_law_pane_here","_law_place"] C6⟩,?_⟩;refine⟨⟨_,rfl,gb26.ok X Gn ["_law_script"] C5⟩,?_⟩;refine⟨⟨_,rfl,gb27.ok X Gn ["_law_d"] C4⟩,?_⟩;refine⟨⟨_,rfl,gb28.ok X Gn ["_law_name","_law_home_here","_law_heaven_here","_law_d"] C3⟩,?_⟩;refine⟨⟨_,rfl,gb29.ok X Gn ["_law_d"] C2⟩,?_⟩;refine⟨⟨_,rfl,gb30.ok X Gn ["_law_here","_law_there","_law_away"] C1⟩,?_⟩;refine⟨⟨_,rfl,gb31.ok X Gn ["_law_script","_law_at","_law_names_here","_law_heaven_here","_law_whole"] B9⟩,?_⟩;refine⟨⟨_,rfl,gb32.ok X Gn ["_law_rows"] B8⟩,?_⟩;refine⟨⟨_,rfl,gb33.ok X Gn ["_law_handed","_law_rows"] B7⟩,?_⟩;refine⟨⟨_,rfl,_,_,_,_,_,_,F34,SR,rfl,rfl,B34,W.mg_of X Gn fa34,.inl VV⟩,?_⟩;exact trivial
 ·refine AllP.get0 (P:=λ_ p=>∃v u,mg p.1=some u/\RelV v u/\∀m H,RD K m H p.2 v) (l:=G.csts) ?_ hg;refine⟨⟨V.ref t0,_,W.mg_of X Gn ga0,rfl,λm H=>oC (vs:= [V.int (0),V.int (0)]) tt0 (by show 2<=sizeLine;decide) (.cons ⟨_,rfl⟩ (.cons ⟨_,rfl⟩ .nil)) (.cons (RD.int _) (.cons (RD.int _) .nil))⟩,?_⟩;refine⟨⟨V.ref t3,_,W.mg_of X Gn ga1,rfl,λm H=>oC (vs:= [V.ref t4,V.ref t9,V.ref t14,V.ref t19,V.ref t24,V.ref t29,V.ref t34,V.ref t39]) tt3 (by show 8<=sizeLine;decide) (.cons rfl (.cons rfl (.cons rfl (.cons rfl (.cons rfl (.cons rfl (.cons rfl (.cons rfl .nil)))))))) (.cons (oC (vs:= [V.int (1),V.int (0),V.int (0),V.int (1)]) tt4 (by show 4<=sizeLine;decide) (.cons ⟨_,rfl⟩ (.cons ⟨_,rfl⟩ (.cons ⟨_,rfl⟩ (.cons ⟨_,rfl⟩ .nil)))) (.cons (RD.int _) (.cons (RD.int _) (.cons (RD.int _) (.cons (RD.int _) .nil))))) (.cons (oC (vs:= [V.int (0),V.int (-1),V.int (1),V.int (0)]) tt9 (by show 4<=sizeLine;decide) (.cons ⟨_,rfl⟩ (.cons ⟨_,rfl⟩ (.cons ⟨_,rfl⟩ (.cons ⟨_,rfl⟩ .nil)))) (.cons (RD.int _) (.cons (RD.int _) (.cons (RD.int _) (.cons (RD.int _) .nil))))) (.cons (oC (vs:= [V.int (-1),V.int (0),V.int (0),V.int (-1)]) tt14 (by show 4<=sizeLine;decide) (.cons ⟨_,rfl⟩ (.cons ⟨_,rfl⟩ (.cons ⟨_,rfl⟩ (.cons ⟨_,rfl⟩ .nil)))) (.cons (RD.int _) (.cons (RD.int _) (.cons (RD.int _) (.cons (RD.int _) .nil))))) (.cons (oC (vs:= [V.int (0),V.int (1),V.int (-1),V.int (0)]) tt19 (by show 4<=sizeLine;decide) (.cons ⟨_,rfl⟩ (.cons ⟨_,rfl⟩ (.cons ⟨_,rfl⟩ (.cons ⟨_,rfl⟩ .nil)))) (.cons (RD.int _) (.cons (RD.int _) (.cons (RD.int _) (.cons (RD.int _) .nil))))) (.cons (oC (vs:= [V.int (-1),V.int (0),V.int (0),V.int (1)]) tt24 (by show 4<=sizeLine;decide) (.cons ⟨_,rfl⟩ (.cons ⟨_,rfl⟩ (.cons ⟨_,rfl⟩ (.cons ⟨_,rfl⟩ .nil)))) (.cons (RD.int _) (.cons (RD.int _) (.cons (RD.int _) (.cons (RD.int _) .nil))))) (.cons (oC (vs:= [V.int (0),V.int (-1),V.int (-1),V.int (0)]) tt29 (by show 4<=sizeLine;decide) (.cons ⟨_,rfl⟩ (.cons ⟨_,rfl⟩ (.cons ⟨_,rfl⟩ (.cons ⟨_,rfl⟩ .nil)))) (.cons (RD.int _) (.cons (RD.int _) (.cons (RD.int _) (.cons (RD.int _) .nil))))) (.cons (oC (vs:= [V.int (1),V.int (0),V.int (0),V.int (-1)]) tt34 (by show 4<=sizeLine;decide) (.cons ⟨_,rfl⟩ (.cons ⟨_,rfl⟩ (.cons ⟨_,rfl⟩ (.cons ⟨_,rfl⟩ .nil)))) (.cons (RD.int _) (.cons (RD.int _) (.cons (RD.int _) (.cons (RD.int _) .nil))))) (.cons (oC (vs:= [V.int (0),V.int (1),V.int (1),V.int (0)]) tt39 (by show 4<=sizeLine;decide) (.cons ⟨_,rfl⟩ (.cons ⟨_,rfl⟩ (.cons ⟨_,rfl⟩ (.cons ⟨_,rfl⟩ .nil)))) (.cons (RD.int _) (.cons (RD.int _) (.cons (RD.int _) (.cons (RD.int _) .nil))))) .nil))))))))⟩,?_⟩;refine⟨⟨V.int (4),_,W.mg_of X Gn ga2,⟨_,rfl⟩,λm H=>RD.int _⟩,?_⟩;refine⟨⟨V.int (9),_,W.mg_of X Gn ga3,⟨_,rfl⟩,λm H=>RD.int _⟩,?_⟩;refine⟨⟨V.ref t46,_,W.mg_of X Gn ga4,rfl,λm H=>oC (vs:= [V.str "unseen",V.int (0)]) tt46 (by show 2<=sizeLine;decide) (.cons ⟨_,rfl⟩ (.cons ⟨_,rfl⟩ .nil)) (.cons (RD.str _) (.cons (RD.int _) .nil))⟩,?_⟩;refine⟨⟨V.str "abcdefghijklmnopqrstuvwxyz",_,W.mg_of X Gn ga5,⟨_,rfl⟩,λm H=>RD.str _⟩,?_⟩;refine⟨⟨V.int (8),_,W.mg_of X Gn ga6,⟨_,rfl⟩,λm H=>RD.int _⟩,?_⟩;refine⟨⟨V.int (8),_,W.mg_of X Gn ga7,⟨_,rfl⟩,λm H=>RD.int _⟩,?_⟩;refine⟨⟨V.int (8),_,W.mg_of X Gn ga8,⟨_,rfl⟩,λm H=>RD.int _⟩,?_⟩;exact trivial
 ·cases b
  ·exact W.mg_none_of X Gn z_len
  ·exact W.mg_none_of X Gn z_isinstance
  ·exact W.mg_none_of X Gn z_int
  ·exact W.mg_none_of X Gn z_list
  ·exact W.mg_none_of X Gn z_max
  ·exact W.mg_none_of X Gn z_min
  ·exact W.mg_none_of X Gn z_sorted
  ·exact W.mg_none_of X Gn z_all
  ·exact W.mg_none_of X Gn z_tuple
 ·cases t
  ·exact W.mg_none_of X Gn z_int
  ·exact W.mg_none_of X Gn z_bool
  ·exact W.mg_none_of X Gn z_str
  ·exact W.mg_none_of X Gn z_tuple
  ·exact W.mg_none_of X Gn z_list
 ·refine AllP.get0 (P:=λc x=>mg x=some (.ref (([]:List Addr).getD c 0))/\ExcF K (([]:List Addr).getD c 0)) (l:=G.excs) ?_ hx;exact trivial
 ·simp only[G,List.mem_cons,List.not_mem_nil,or_false] at hq
 ·simp only[G,List.mem_cons,List.not_mem_nil,or_false] at hq
 ·refine AllP.mem (i:=0) (P:=λp=>∃C,W.nsIn K mainGlobals p.1=some (some (.ref C))/\Cls K C/\NoAttr K C p.2) (l:=G.atts) ?_ hp;refine⟨⟨_,ka0,L0,kn0⟩,?_⟩;refine⟨⟨_,ka0,L0,kn1⟩,?_⟩;refine⟨⟨_,ka0,L0,kn2⟩,?_⟩;refine⟨⟨_,ka0,L0,kn3⟩,?_⟩;refine⟨⟨_,ka0,L0,kn4⟩,?_⟩;exact trivial
 ·refine AllP.mem (i:=0) (P:=λp=>∃C c,W.nsIn K mainGlobals p.1=some (some (.ref C))/\Cls K C/\T p.2.2=some c/\FmOk K G (λfa=>Meth K C p.2.1 fa) p.2.1 c) (l:=G.meths) ?_ hp;refine⟨⟨_,_,ka0,L0,rfl,⟨_,_,_,_,_,_,F36,YO,rfl,rfl,B36,⟨fa36,fi36,fk36⟩,.inl B5⟩⟩,?_⟩;refine⟨⟨_,_,ka0,L0,rfl,⟨_,_,_,_,_,_,F37,YN,rfl,rfl,B37,⟨fa37,fi37,fk37⟩,.inl B4⟩⟩,?_⟩;refine⟨⟨_,_,ka0,L0,rfl,⟨_,_,_,_,_,_,F38,YM,rfl,rfl,B38,⟨fa38,fi38,fk38⟩,.inl B3⟩⟩,?_⟩;exact trivial
 ·refine AllP.mem (i:=0) (P:=λp=>∃C c,W.nsIn K mainGlobals p.1=some (some (.ref C))/\mg p.1=some (.ref C)/\T p.2=some c/\FmOk K G (λfa=>Mk K C fa) "__init__" c) (l:=G.news) ?_ hp;refine⟨⟨_,_,ka0,W.mg_of X Gn ka0,rfl,⟨_,_,_,_,_,_,F35,YQ,rfl,rfl,B35,⟨kf0,fa35,fi35,kg0⟩,.inl B6⟩⟩,?_⟩;exact trivial
 ·exact⟨_,λs v=>.of_eq rfl,_,_,_,_,rfl,F34,SR,rfl,rfl,.inl VV⟩
end Pk16
namespace Pk16
open PySem L2 Ng
noncomputable def W:Nat:=2000
theorem oY(n:Nat)(t x y:Int)(h:Hh)(h0:0<=t)(h1:t<8):aS G T W (n+1) 0 [.int t,.tup [.int x,.int y]] h=.ok (.tup [.int (tx t x y),.int (ty t x y)]) h:=by
 obtain⟨c1,c2,c3,c4⟩:=E6 h0 h1;have ea:=VX h0 h1;rw[aW (c:=⟨2,8,b0⟩) rfl rfl,rR,rQ];generalize (cf t).1=a1,(cf t).2.1=a2,(cf t).2.2.1=a3,(cf t).2.2.2=a4 at*;generalize aS G T W n=cl
 show(bO G cl W b0 [some (.int t),some (.tup [.int x,.int y]),none,none,none,none,none,none] h).bind cU=_
 have e1:ev G cl (.ix (.gc 1) (.var 0)) [some (.int t),some (.tup [.int x,.int y]),some (.int x),some (.int y),none,none,none,none] h=.ok (.tup [.int a1,.int a2,.int a3,.int a4]) h:=by
  rw[tD,vH,RM];simp only[aD];rw[aY (x:=.int t) rfl,aD,Ng.iTup,ea]
 rw[b0,aK (r':= [some (.int t),some (.tup [.int x,.int y]),some (.int x),some (.int y),none,none,none,none]) (h':=h) (by rw[fE,aY (x:=.tup [.int x,.int y]) rfl];rfl),
  aK (r':= [some (.int t),some (.tup [.int x,.int y]),some (.int x),some (.int y),some (.int a1),some (.int a2),some (.int a3),some (.int a4)]) (h':=h) (by rw[fE,e1];rfl),
  bL (d:=.tup [.int (a1*x+a2*y),.int (a3*x+a4*y)]) (h':=h) (by
   rw[rL,tB,cA,aQ (aQ (x:=.int a1) (y:=.int x) (aY rfl) (aY rfl) (xQ h c1.1 c1.2)) (aQ (x:=.int a2) (y:=.int y) (aY rfl) (aY rfl) (xQ h c2.1 c2.2)) (fV ..),aD,
    cA,aQ (aQ (x:=.int a3) (y:=.int x) (aY rfl) (aY rfl) (xQ h c3.1 c3.2)) (aQ (x:=.int a4) (y:=.int y) (aY rfl) (aY rfl) (xQ h c4.1 c4.2)) (fV ..),aD,dD]
   rfl)]
 rfl
theorem FH(n:Nat)(a b:Int)(h:Hh):aS G T W (n+1) 1 [.int a,.int b] h=.ok (.int (oZ a b)) h:=by
 have q4:∀x:Int,bX .mod (.int x) (.int 4) h=.ok (.int (x%4)) h:=λx=>bY h (by omega);rw[aW (c:=⟨2,4,b1⟩) rfl rfl]
 by_cases ha:4<=a<;>by_cases hb:4<=b<;>simp[b1,KM,RM,HU,CQ,RL,RK,RJ,OR,RI,oZ,q4,ha,hb]
theorem AK(n:Nat)(t:Int)(h:Hh)(h0:0<=t)(h1:t<8):aS G T W (n+1) 2 [.int t] h=.ok (.int (tb t)) h:=by
 have q4:∀x:Int,bX .mod (.int x) (.int 4) h=.ok (.int (x%4)) h:=λx=>bY h (by omega);rw[aW (c:=⟨1,1,b2⟩) rfl rfl]
 by_cases c:4<=t<;>simp[b2,KM,RM,HU,CQ,RL,RK,RJ,OR,RI,tb,q4,c]
theorem jV(n:Nat)(t p q x y:Int)(h:Hh)(h0:0<=t)(h1:t<8):aS G T W (n+2) 3 [.tup [.int t,.int p,.int q],.tup [.int x,.int y]] h=.ok (.tup [.int (tx t x y+p),.int (ty t x y+q)]) h:=by
 rw[aW (c:=⟨2,7,b3⟩) rfl rfl];simp[b3,oY n t x y h h0 h1]
theorem nI(n:Nat)(t x y a b:Int)(h:Hh)(h0:0<=t)(h1:t<8):aS G T W (n+2) 4 [.int t,.tup [.int x,.int y],.tup [.int a,.int b]] h=.ok (.tup [.int t,.int (a-tx t x y),.int (b-ty t x y)]) h:=by
 rw[aW (c:=⟨3,7,b4⟩) rfl rfl];simp[b4,oY n t x y h h0 h1]
theorem zR(n:Nat)(t p q u r s:Int)(h:Hh)(h0:0<=t)(h1:t<8)(h2:0<=u)(h3:u<8):aS G T W (n+3) 5 [.tup [.int t,.int p,.int q],.tup [.int u,.int r,.int s]] h
 =.ok (.tup [.int (oZ t u),.int (tx u (tx t 0 0+p) (ty t 0 0+q)+r-tx (oZ t u) 0 0),.int (ty u (tx t 0 0+p) (ty t 0 0+q)+s-ty (oZ t u) 0 0)]) h:=by
 rw[aW (c:=⟨2,3,b5⟩) rfl rfl];obtain⟨b0,b1⟩:=AJ t u;have e1:aS G T W (n+2) _ _ h=_:=FH (n+1) t u h;have e2:=jV n t p q 0 0 h h0 h1;have e3:=jV n u r s (tx t 0 0+p) (ty t 0 0+q) h h2 h3;have e4:=nI n (oZ t u) 0 0 (tx u (tx t 0 0+p) (ty t 0 0+q)+r) (ty u (tx t 0 0+p) (ty t 0 0+q)+s) h b0 b1;simp[b5,KM,RM,HU,CQ,RL,RK,RJ,OR,RI,iG,uZ,e1,e2,e3,e4]
theorem JD(n:Nat)(t p q:Int)(h:Hh)(h0:0<=t)(h1:t<8):aS G T W (n+3) 6 [.tup [.int t,.int p,.int q]] h=.ok (.tup [.int (tb t),.int (0-tx (tb t) (tx t 0 0+p) (ty t 0 0+q)),.int (0-ty (tb t) (tx t 0 0+p) (ty t 0 0+q))]) h:=by
 rw[aW (c:=⟨1,1,b6⟩) rfl rfl];obtain⟨b0,b1⟩:=vX h0 h1;have e1:aS G T W (n+2) _ _ h=_:=AK (n+1) t h h0 h1;have e2:=jV n t p q 0 0 h h0 h1;have e3:=nI n (tb t) (tx t 0 0+p) (ty t 0 0+q) 0 0 h b0 b1;simp[b6,KM,RM,HU,CQ,RL,RK,RJ,OR,RI,iG,uZ,e1,e2,e3]
theorem FM(n:Nat)(s:Sy)(h:Hh):aS G T W (n+1) 7 [s.d] h=.ok (kM s) h:=by
 rw[aW (c:=⟨1,3,b7⟩) rfl rfl];cases s<;>simp[b7,Sy.d,kM,Sy.lo,Sy.hi,CQ]
theorem EC(n:Nat)(ss:List Sy)(k:Nat)(h:Hh)(hl:aJ h k=some (ss.map Sy.d))(hm:ss.length<=1000):∃g,aS G T W (n+2) 8 [.ref k] h=.ok (.tup [.int (QF ss),.int (VW ss)]) (h++g):=by
 rw[aW (c:=⟨1,4,b8⟩) rfl rfl];generalize hcl:aS G T W (n+1)=cl;have hs:∀(s:Sy)(h:Hh),cl 7 [s.d] h=.ok (kM s) h:=λs h=>by rw[<- hcl];exact FM n s h
 obtain⟨g1,e1⟩:=kD (G:=G) (cl:=cl) (t:=.nm 0) (it:=.cons (.var 0) .nil) (e:=.call 7 (.cons (.var 0) .nil)) (N:= ["saying"]) (cap:= []) (r:= [some (.ref k),none,none,none]) (h:=h) (h1:=h) (l:=ss) Sy.d (λr=>∃d,r=[d]) kM (by simp) hl hm ⟨_,rfl⟩
  (by rintro s _ r h ⟨d,rfl⟩;exact⟨_,rfl,⟨_,rfl⟩,by simp[hs]⟩)
 have x1:=cM h g1 (ss.map kM);generalize hH1:h++O.lst (ss.map kM)::g1=H1 at e1 x1
 obtain⟨g2,e2⟩:=kD (G:=G) (cl:=cl) (t:=.tp [0,1]) (it:=.cons (.var 1) .nil) (e:=.var 0) (N:= ["low","high"]) (cap:= []) (r:= [some (.ref k),some (.ref h.length),none,none]) (h:=H1) (h1:=H1) (l:=ss) kM (λr=>∃a b,r=[a,b]) (λs=>.int s.lo) (by simp) x1 hm ⟨_,_,rfl⟩
  (by rintro s _ r h ⟨a,b,rfl⟩;exact⟨_,rfl,⟨_,_,rfl⟩,by simp[kM]⟩)
 have x2:aJ (H1++O.lst (ss.map λs=>.int s.lo)::g2) h.length=some (ss.map kM):=dE _ _ x1;have y2:=cM H1 g2 (ss.map λs=>.int s.lo);generalize hH2:H1++O.lst (ss.map λs=>.int s.lo)::g2=H2 at e2 x2 y2
 obtain⟨g3,e3⟩:=kD (G:=G) (cl:=cl) (t:=.tp [0,1]) (it:=.cons (.var 1) .nil) (e:=.var 1) (N:= ["low","high"]) (cap:= []) (r:= [some (.ref k),some (.ref h.length),some (.int (QF ss)),none]) (h:=H2) (h1:=H2) (l:=ss) kM (λr=>∃a b,r=[a,b]) (λs=>.int s.hi) (by simp) x2 hm ⟨_,_,rfl⟩
  (by rintro s _ r h ⟨a,b,rfl⟩;exact⟨_,rfl,⟨_,_,rfl⟩,by simp[kM]⟩)
 have y3:=cM H2 g3 (ss.map λs=>.int s.hi);generalize hH3:H2++O.lst (ss.map λs=>.int s.hi)::g3=H3 at e3 y3;have m2:=tQ (L:=ss.map Sy.lo) true 0 (by rw[y2,List.map_map];rfl);have m3:=tQ (L:=ss.map Sy.hi) false 9 (by rw[y3,List.map_map];rfl);refine⟨O.lst (ss.map kM)::g1++(O.lst (ss.map λs=>.int s.lo)::g2)++(O.lst (ss.map λs=>.int s.hi)::g3),?_⟩;rw[show h++(O.lst (ss.map kM)::g1++(O.lst (ss.map λs=>.int s.lo)::g2)++(O.lst (ss.map λs=>.int s.hi)::g3))=H3 by rw[<- hH3, <- hH2, <- hH1];simp]
 show(bO G cl W b8 [some (.ref k),none,none,none] h).bind cU=_
 rw[b8,aK (r':= [some (.ref k),some (.ref h.length),none,none]) (h':=H1) (by rw[RW,e1];rfl),
  aK (r':= [some (.ref k),some (.ref h.length),some (.int (QF ss)),none]) (h':=H2) (by rw[fE,KR,e2];simp[m2];rfl),
  aK (r':= [some (.ref k),some (.ref h.length),some (.int (QF ss)),some (.int (VW ss))]) (h':=H3) (by rw[fE,KR,e3];simp[CQ,m3];rfl)]
 simp
theorem VQ(n:Nat)(ns:List Int)(at':Int)(M:Nat)(hM:M<=1000)(h:Hh)(h0:0<=at')(h1:at'<100000)(hs:aJ h 0=some (ns.map D.int)):∃row:List Int,row.length=M/\InR row/\aS G T W (n+1) 16 [.ref 0,.int at',.int M] h=.ok (.ref h.length) (h++ [.lst (row.map D.int)]):=by
 obtain⟨row,r1,r2,e⟩:=DP G (aS G T W n) W h 0 ns at' M hM h0 h1 hs (by decide);refine⟨row,r1,r2,?_⟩;rw[aW (c:=⟨3,7,WG⟩) rfl rfl];have e':bO G (aS G T W n) W WG _ h=_:=e
 show(bO G (aS G T W n) W WG [some (.ref 0),some (.int at'),some (.int M),none,none,none,none] h).bind cU=_
 rw[e'];rfl
theorem DB(n:Nat)(a b:Int)(h:Hh)(hb:0<=b)(hb2:b<1013):∃v:Int,aS G T W (n+1) 17 [.int a,.int b] h=.ok (.int v) h:=by
 have q1:∀x:Int,bX .mod (.int x) (.int 5) h=.ok (.int (x%5)) h:=λx=>bY h (by omega);have q2:∀x:Int,bX .mod (.int x) (.int 13) h=.ok (.int (x%13)) h:=λx=>bY h (by omega);have q3:∀x:Int,bX .fdiv (.int x) (.int 5) h=.ok (.int (x/5)) h:=λx=>oU h (by omega) (by omega);have q4:∀x:Int,bX .mul (.int x) (.int 1013) h=.ok (.int (x*1013)) h:=λx=>tR h (by omega) (by omega);have q5:∀x:Int,bX .mul (.int (b-506)) (.int x) h=.ok (.int ((b-506)*x)) h:=λx=>gM h (by omega) (by omega);rw[aW (c:=⟨2,2,RN⟩) rfl rfl]
 by_cases h1:a%5<3
 ·exact⟨a/5%13-6,by simp[RN,q1,q2,q3,h1]⟩
 ·by_cases h2:a%5=3
  ·exact⟨a*1013+b-513000,by simp[RN,q1,q2,q3,q4,h1,h2]⟩
  ·exact⟨(b-506)*1000000000000000000000000000+a,by simp[RN,q1,q2,q3,q4,q5,h1,h2]⟩
theorem UP(h:Hh)(l:List D)(i:Int):jA (.ref h.length) (.int i) (h++ [.lst l])=(match iG l i with|some d=>.ok d (h++ [.lst l])|none=>.bad):=lV _ _ (aU _ _)
theorem iY(n:Nat)(t x y:Int)(h:Hh)(h0:0<=t)(h1:t<8):∃g,aS G T W (n+1) 18 [.int t,.int x,.int y] h=.ok (.tup [.int (tx t x y),.int (ty t x y)]) (h++g):=by
 rw[aW (c:=⟨3,3,WF⟩) rfl rfl];generalize aS G T W n=cl;refine⟨[.lst [.tup [.int x,.int y],.tup [.int (-y),.int x],.tup [.int (-x),.int (-y)],.tup [.int y,.int (-x)],.tup [.int (-x),.int y],.tup [.int (-y),.int (-x)],.tup [.int x,.int (-y)],.tup [.int y,.int x]]],?_⟩;have ea:=RX h0 h1 x y;generalize tx t x y=X,ty t x y=Y at ea⊢
 show(bO G cl W WF [some (.int t),some (.int x),some (.int y)] h).bind cU=_
 rw[WF,bL (d:=.tup [.int X,.int Y]) (by
  rw[rL,tD,wY];simp only[cA,dD,tB,fG,KQ,List.getElem?_cons_succ,CP,aD,List.length_cons,List.length_nil,Nat.reduceAdd,Nat.reduceLeDiff,if_true];rw[UP,ea];rfl)]
 rfl
theorem yS(n:Nat)(t p q x y:Int)(h:Hh)(h0:0<=t)(h1:t<8):∃g,aS G T W (n+2) 19 [.tup [.int t,.int p,.int q],.tup [.int x,.int y]] h=.ok (.tup [.int (tx t x y+p),.int (ty t x y+q)]) (h++g):=by
 obtain⟨g,e⟩:=iY n t x y h h0 h1;refine⟨g,?_⟩;rw[aW (c:=⟨2,4,XI⟩) rfl rfl];simp[XI,iG,uZ,e]
theorem HF(n:Nat)(a b:M3)(h:Hh)(ha:iJ a)(hb:iJ b):∃g,aS G T W (n+2) 20 [mo a,mo b] h=.ok (mo (bh a b)) (h++g):=by
 obtain⟨t,p,q⟩:=a;obtain⟨u,r,s⟩:=b;obtain⟨g,e⟩:=iY n u p q h hb.1 hb.2;have a1:0<=t:=ha.1;have a2:t<8:=ha.2;have b1:0<=u:=hb.1;have b2:u<8:=hb.2;have q4:∀(x:Int)(h:Hh),bX .mod (.int x) (.int 4) h=.ok (.int (x%4)) h:=λx h=>bY h (by omega);have q2:∀(x:Int)(h:Hh),bX .mod (.int x) (.int 2) h=.ok (.int (x%2)) h:=λx h=>bY h (by omega);have f4:∀(x:Int)(h:Hh),bX .fdiv (.int x) (.int 4) h=.ok (.int (x/4)) h:=λx h=>oU h (by omega) (by omega);have m4:∀(x:Int)(h:Hh),bX .mul (.int 4) (.int x) h=.ok (.int (4*x)) h:=λx h=>gM h (by omega) (by omega);refine⟨g,?_⟩;rw[aW (c:=⟨2,6,WE⟩) rfl rfl];have hT:=RY a1 a2 b1 b2
 by_cases c:3<u
 ·rw[if_pos c] at hT;simp[WE,mo,bh,iG,uZ,q4,f4,q2,m4,c,e,hT]
 ·rw[if_neg c] at hT;simp[WE,mo,bh,iG,uZ,q4,f4,q2,m4,c,e, <- hT]
theorem UD(n:Nat)(a:M3)(h:Hh)(ha:iJ a):∃g,aS G T W (n+2) 21 [mo a] h=.ok (mo (bk a)) (h++g):=by
 obtain⟨t,p,q⟩:=a;obtain⟨b1,b2⟩:=vX (t:=t) ha.1 ha.2;obtain⟨g,e⟩:=iY n (tb t) p q (h++ [.lst [.int 0,.int 3,.int 2,.int 1,.int 4,.int 5,.int 6,.int 7]]) b1 b2;refine⟨[.lst [.int 0,.int 3,.int 2,.int 1,.int 4,.int 5,.int 6,.int 7]]++g,?_⟩
 have ix:jA (.ref h.length) (.int t) (h++ [.lst [.int 0,.int 3,.int 2,.int 1,.int 4,.int 5,.int 6,.int 7]])=.ok (.int (tb t)) (h++ [.lst [.int 0,.int 3,.int 2,.int 1,.int 4,.int 5,.int 6,.int 7]]):=by
  rw[lV _ _ (aU _ _)];rcases t8 ha.1 ha.2 with e|e|e|e|e|e|e|e<;>(simp only at e;subst e;rfl)
 rw[aW (c:=⟨1,4,XH⟩) rfl rfl, <- List.append_assoc];have i0:jA (mo (t,p,q)) (.int 0) (h++ [.lst [.int 0,.int 3,.int 2,.int 1,.int 4,.int 5,.int 6,.int 7]])=.ok (.int t) (h++ [.lst [.int 0,.int 3,.int 2,.int 1,.int 4,.int 5,.int 6,.int 7]]):=rfl;have i1:jA (mo (t,p,q)) (.int 1) (h++ [.lst [.int 0,.int 3,.int 2,.int 1,.int 4,.int 5,.int 6,.int 7]])=.ok (.int p) (h++ [.lst [.int 0,.int 3,.int 2,.int 1,.int 4,.int 5,.int 6,.int 7]]):=rfl;have i2:jA (mo (t,p,q)) (.int 2) (h++ [.lst [.int 0,.int 3,.int 2,.int 1,.int 4,.int 5,.int 6,.int 7]])=.ok (.int q) (h++ [.lst [.int 0,.int 3,.int 2,.int 1,.int 4,.int 5,.int 6,.int 7]]):=rfl;simp[XH,bk,i0,i1,i2,ix,e];rfl
theorem uX(n k:Nat)(l:List Int)(at':Nat)(a0 a1 a2 a3 a4:Int)(h:Hh)(hl:aJ h k=some (l.map D.int))(e0:l[at']? =some a0)(e1:l[at'+1]? =some a1)(e2:l[at'+2]? =some a2)(e3:l[at'+3]? =some a3)(e4:l[at'+4]? =some a4)(hr:InR l):
 ∃t p q:Int,0<=t/\t<8/\aS G T W (n+2) 22 [.ref k,.int at'] h=.ok (.tup [.int t,.int p,.int q]) h:=by
 have mem:∀(j:Nat) v,l[j]? =some v->0<=v/\v<1013:=λj v e=>hr v (List.mem_of_getElem? e);obtain⟨p,ep⟩:=DB n a1 a2 h (mem _ _ e2).1 (mem _ _ e2).2;obtain⟨q,eq⟩:=DB n a3 a4 h (mem _ _ e4).1 (mem _ _ e4).2;have g:∀(j:Nat) v,l[j]? =some v->iG (l.map D.int) (j:Int)=some (.int v):=λj v e=>fJ (by rw[Zi,e];rfl);have g0:=g _ _ e0;have g1:=g _ _ e1;have g2:=g _ _ e2;have g3:=g _ _ e3;have g4:=g _ _ e4;simp only[Int.natCast_add,Int.cast_ofNat_Int] at g1 g2 g3 g4;have q8:∀x:Int,bX .mod (.int x) (.int 8) h=.ok (.int (x%8)) h:=λx=>bY h (by omega);refine⟨a0%8,p,q,by omega,by omega,?_⟩;have hix:∀j:Int,jA (.ref k) (.int j) h=(match iG (l.map D.int) j with|some d=>.ok d h|none=>.bad):=λj=>lV h j hl;rw[aW (c:=⟨2,2,XG⟩) rfl rfl];simp[XG,hix,g0,g1,g2,g3,g4,ep,eq,q8]
noncomputable abbrev BA:Ss:=(.cons (.iff (.not (.call 23 (.cons (.ix (.var 0) (.var 2)) (.cons (.ix (.var 1) (.var 2)) .nil)))) (.cons (.ret (.bl false)) .nil) .nil) .nil)
theorem AZ{cl:Cl}(x y:D)(l:List D)(h:Hh)(hl:l.length<=1000)(ix:∀k:Nat,∀d,l[k]? =some d->jA x (.int k) h=.ok d h/\jA y (.int k) h=.ok d h)(hs:∀d∈l,cl 23 [d,d] h=.ok (.bl true) h)
 (ny:hJ .len [y] h=.ok (.int l.length) h):
 ∃r',xs G cl W (.forr (.nm 2) (.r1 (.blt .len (.cons (.var 1) .nil))) BA) [some x,some y,none] h=.ok (.nx r') h:=by
 obtain⟨r',el,_⟩:=wU (t:=.nm 2) (body:=bO G cl W BA) (λr=>∃d2,r=[some x,some y,d2]) h (bU 0 l.length)
  (by
    rintro d hd r ⟨d2,rfl⟩;obtain⟨j,hj,rfl⟩:=BC hd;have ej:l[j]? =some l[j]:=Zd hj;obtain⟨i1,i2⟩:=ix j _ ej;have es:=hs l[j] (List.getElem_mem hj);exact⟨_,_,rfl,by simp[BA,i1,i2,es];rfl,_,rfl⟩)
  [some x,some y,none] ⟨none,rfl⟩
 exact⟨r',eB (j:=l.length) (h1:=h) (by simp[ny]) (jS (by omega)) el⟩
theorem pD(d:D)(hd:pd 0 d=true)(n:Nat)(h:Hh):aS G T W (n+1) 23 [d,d] h=.ok (.bl true) h:=by
 rw[aW (c:=⟨2,3,FA⟩) rfl rfl];generalize aS G T W n=cl
 have e1:∀d:D,pd 0 d=true->ev G cl (.blt .isinst (.cons (.var 1) (.cons (.tup (.cons (.ty .tuple) (.cons (.ty .list) .nil))) .nil))) [some d,some d,none] h=.ok (.bl false) h:=λd hd=>by
  simp only[pN,cA,dD,fG,tB,UW,List.getElem?_cons_succ,CP,aD,List.length_cons,List.length_nil,Nat.reduceAdd,Nat.reduceLeDiff,if_true,bIs];cases d<;>first |(cases hd;done)|rfl
 have eT:∀(d:D)(i:Nat)(t:Ty)(b:Bool),([some d,some d,none]:Ev)[i]? =some (some d)->cR d (.ty t.nm) h=.ok (.bl b) h->ev G cl (.blt .isinst (.cons (.var i) (.cons (.ty t) .nil))) [some d,some d,none] h=.ok (.bl b) h:=λd i t b hi e=>by
  simp only[pN,cA,dD,aY hi,UW,aD,bIs,e]
 have eN:∀(d:D)(i:Nat),([some d,some d,none]:Ev)[i]? =some (some d)->ev G cl (.cmp .is (.var i) .non) [some d,some d,none] h=.ok (.bl (fR d)) h:=λd i hi=>bK (aY hi) (kC ..) (WB ..);have eE:∀(d:D),cH .eq d d h=.ok (.bl true) h->ev G cl (.cmp .eq (.var 0) (.var 1)) [some d,some d,none] h=.ok (.bl true) h:=λd e=>bK (aY rfl) (aY rfl) e
 have eA:∀(a b:E)(r:Ev),ev G cl a r h=.ok (.bl true) h->ev G cl b r h=.ok (.bl true) h->ev G cl (.and a b) r h=.ok (.bl true) h:=λa b r ea eb=>by
  rw[lP,ea,aD,tU];exact eb
 have eOf:∀(a b:E)(r:Ev),ev G cl a r h=.ok (.bl false) h->ev G cl b r h=.ok (.bl false) h->ev G cl (.or a b) r h=.ok (.bl false) h:=λa b r ea eb=>by
  rw[VB,ea,aD,tU];exact eb
 have rt:∀(a:E)(Z:Ss)(r:Ev),ev G cl a r h=.ok (.bl true) h->bO G cl W (.cons (.ret a) Z) r h=.ok (.rt (.bl true)) h:=λa Z r e=>bL (by rw[rL,e];rfl)
 show(bO G cl W FA [some d,some d,none] h).bind cU=_
 have s1:∀(A Z:Ss)(c:E)(r:Ev),ev G cl c r h=.ok (.bl false) h->bO G cl W (.cons (.iff c A .nil) Z) r h=bO G cl W Z r h:=λA Z c r e=>aK (by rw[cC e,aV]);have s2:∀(A Z:Ss)(c:E)(r:Ev),ev G cl c r h=.ok (.bl true) h->bO G cl W A r h=.ok (.rt (.bl true)) h->bO G cl W (.cons (.iff c A .nil) Z) r h=.ok (.rt (.bl true)) h:=λA Z c r e ea=>bL (by rw[dB e,ea]);cases d with
 |non=>rw[FA,s1 _ _ _ _ (e1 _ hd),s2 _ _ _ _ (eN _ 1 rfl) (rt _ _ _ (eN _ 0 rfl))];rfl
 |bl b=>rw[FA,s1 _ _ _ _ (e1 _ hd),s1 _ _ _ _ (eN _ 1 rfl),s2 _ _ _ _ (by rw[VB,eT _ 1 .bool true rfl rfl,aD,tU]) (rt _ _ _ (eA _ _ _ (eT _ 1 .bool true rfl rfl) (eA _ _ _ (eT _ 0 .bool true rfl rfl) (eE _ (by simp)))))];rfl
 |int z=>rw[FA,s1 _ _ _ _ (e1 _ hd),s1 _ _ _ _ (eN _ 1 rfl),s1 _ _ _ _ (eOf _ _ _ (eT _ 1 .bool false rfl rfl) (eT _ 0 .bool false rfl rfl)),s2 _ _ _ _ (eT _ 1 .int true rfl rfl) (rt _ _ _ (eA _ _ _ (eT _ 0 .int true rfl rfl) (eE _ (by simp))))];rfl
 |str z=>rw[FA,s1 _ _ _ _ (e1 _ hd),s1 _ _ _ _ (eN _ 1 rfl),s1 _ _ _ _ (eOf _ _ _ (eT _ 1 .bool false rfl rfl) (eT _ 0 .bool false rfl rfl)),s1 _ _ _ _ (eT _ 1 .int false rfl rfl),rt _ _ _ (eA _ _ _ (eT _ 0 .str true rfl rfl) (eE _ (by simp)))];rfl
 |tup l=>cases hd
 |ref n=>cases hd
 |ty t=>cases hd
theorem yD:∀(k:Nat)(d:D),pd k d=true->∀(n:Nat)(h:Hh),aS G T W (k+n+1) 23 [d,d] h=.ok (.bl true) h:=by
 intro k
 induction k with
 |zero=>
  intro d hd n h;rw[Nat.zero_add];exact pD d hd n h
 |succ k ih=>
  intro d hd n h
  by_cases hf:pd 0 d=true
  ·exact pD d hf _ h
  cases d<;>first |exact absurd rfl hf|(cases hd;done)|skip
  rename_i l;simp only[pd,Bool.and_eq_true,decide_eq_true_eq] at hd;obtain⟨h1,h2⟩:=hd
  obtain⟨r',ef⟩:=AZ (cl:=aS G T W (k+1+n)) (.tup l) (.tup l) l h h1 (λj d ej=>by
   have ea:iG l (j:Int)=some d:=fJ ej
   exact⟨by rw[Ng.iTup,ea],by rw[Ng.iTup,ea]⟩) (λd hd=>by
    have:=ih d (by rw[List.all_eq_true] at h2;exact h2 _ hd) n h;rwa [show k+n+1=k+1+n by omega] at this) (by simp)
  show(bO G (aS G T W (k+1+n)) W FA [some (.tup l),some (.tup l),none] h).bind cU=_
  rw[FA,bL (d:=.bl true) (h':=h) (by
   rw[oV,show ev G (aS G T W (k+1+n)) (.blt .isinst (.cons (.var 1) (.cons (.tup (.cons (.ty .tuple) (.cons (.ty .list) .nil))) .nil))) [some (.tup l),some (.tup l),none] h=.ok (.bl true) h from by simp,dS,aD];show bO G _ W _ _ h=_;rw[aK (r':= [some (.tup l),some (.tup l),none]) (h':=h) (by simp),aK (r':= [some (.tup l),some (.tup l),none]) (h':=h) (by simp),aK ef]
   simp)]
  rfl
theorem QS(n:Nat)(a b:Sy)(h:Hh):aS G T W (n+1) 24 [a.d,b.d] h=.ok (.bl (QT a b)) h:=by
 rw[aW (c:=⟨2,2,XF⟩) rfl rfl];cases a<;>cases b<;>simp[XF,Sy.d,QT,iG,uZ]
theorem W1:100<=W:=by decide
theorem k3(cl:Cl)(r:Ev)(h:Hh):ev G cl (.gc 3) r h=.ok (.int 9) h:=by rw[vH,CQ]
theorem k4(cl:Cl)(r:Ev)(h:Hh):ev G cl (.gc 4) r h=.ok (.tup [.str "unseen",.int 0]) h:=by rw[vH,RL]
theorem k5(cl:Cl)(r:Ev)(h:Hh):ev G cl (.gc 5) r h=.ok (.str abc) h:=by rw[vH,RK]
theorem k6(cl:Cl)(r:Ev)(h:Hh):ev G cl (.gc 6) r h=.ok (.int 8) h:=by rw[vH,RJ]
theorem k7(cl:Cl)(r:Ev)(h:Hh):ev G cl (.gc 7) r h=.ok (.int 8) h:=by rw[vH,OR]
theorem k8(cl:Cl)(r:Ev)(h:Hh):ev G cl (.gc 8) r h=.ok (.int 8) h:=by rw[vH,RI]
theorem hol(n:Nat):M5 (aS G T W (n+1)) 37:=λh m nm w t l S x y P=>by
 rw[aW (c:=⟨2,4,G0⟩) rfl rfl];exact OQ x y P
theorem sys(n:Nat):Sys (aS G T W (n+2)) 38:=λh m nm w t l S x y P=>by
 rw[aW (c:=⟨2,2,F9⟩) rfl rfl];exact LZ (hol n) (k4 _) x y P
theorem isn(n:Nat):Isn (aS G T W (n+1)) 10:=λh nm N=>by
 rw[aW (c:=⟨1,1,K2⟩) rfl rfl];exact OI (k6 _) (k5 _) N
theorem isw(n:Nat):Isw (aS G T W (n+1)) 11:=λh w t l S g=>by
 rw[aW (c:=⟨3,4,J9⟩) rfl rfl];exact OH (k7 _) (k3 _) g
theorem sho(n:Nat):Sho (aS G T W (n+2)) 36:=λh m nm w t l S P g=>by
 rw[aW (c:=⟨1,1,G4⟩) rfl rfl];exact MD (hol n) (k3 _) P g
theorem ini(n:Nat):Ini (aS G T W (n+3)) 35:=λh nm w t l S s N g e=>by
 rw[aW (c:=⟨6,6,G5⟩) rfl rfl];exact OJ (isn (n+1)) (isw (n+1)) (sho n) (k8 _) N g e
theorem mvd(n:Nat):Mvd (aS G T W (n+2)) 3:=λm x h hm=>jV n m.1 m.2.1 m.2.2 x.1 x.2 h hm.1 hm.2
theorem bck(n:Nat):N4 (aS G T W (n+3)) 6:=λm h ha=>by
 obtain⟨t,p,q⟩:=m;have e:=JD n t p q h ha.1 ha.2;have z1:=YJ t;rw[z1.1,z1.2] at e;simpa [mo,bk] using e
theorem bhd(n:Nat):N0 (aS G T W (n+3)) 5:=λa b h ha hb=>by
 obtain⟨t,p,q⟩:=a;obtain⟨u,r,s⟩:=b;have e:=zR n t p q u r s h ha.1 ha.2 hb.1 hb.2;have z1:=YJ t;have z2:=YJ (oZ t u);rw[z1.1,z1.2,z2.1,z2.2] at e;simpa [mo,bh] using e
theorem lmv(n:Nat):XL (aS G T W (n+2)) 19:=λm x h hm=>yS n m.1 m.2.1 m.2.2 x.1 x.2 h hm.1 hm.2
theorem lbk(n:Nat):QX (aS G T W (n+2)) 21:=λm h hm=>UD n m h hm
theorem UC(n:Nat):QY (aS G T W (n+2)) 20:=λa b h ha hb=>HF n a b h ha hb
theorem mtn(n:Nat):L5 (aS G T W (n+2)) 22:=λk l h hl hn hr=>by
 have ge:∀j:Nat,j<9->∃a,l[j]? =some a:=λj hj=>⟨_,Zd (by omega)⟩;obtain⟨a0,e0⟩:=ge 1 (by omega);obtain⟨a1,e1⟩:=ge 2 (by omega);obtain⟨a2,e2⟩:=ge 3 (by omega);obtain⟨a3,e3⟩:=ge 4 (by omega);obtain⟨a4,e4⟩:=ge 5 (by omega);obtain⟨t,p,q,h0,h1,e⟩:=uX n k l 1 a0 a1 a2 a3 a4 h hl e0 e1 e2 e3 e4 hr;exact⟨(t,p,q),⟨h0,h1⟩,e⟩
theorem B1(n:Nat)(ns:List Int):RT (aS G T W (n+1)) 16 ns:=λat' M h hM h0 h1 hs=>VQ n ns at' M hM h h0 h1 hs
theorem nms(n:Nat):L4 (aS G T W (n+1)) 27:=λh dr row Q hr=>by
 rw[aW (c:=⟨1,7,J2⟩) rfl rfl];exact NL Q hr
theorem hvn(n:Nat)(ns:List Int):M0 (aS G T W (n+2)) 26 ns:=λh h00=>by
 rw[aW (c:=⟨1,7,J3⟩) rfl rfl];exact ON (B1 n ns) h00
theorem pan(n:Nat):L3 (aS G T W (n+3)) 28:=λh nm m hp dr S row hm hS HS Q hr=>by
 rw[aW (c:=⟨4,14,J1⟩) rfl rfl];exact NA W1 (lmv n) (lbk n) hm hS HS Q hr
theorem hom(n:Nat):M4 (aS G T W (n+1)) 29:=λh dr row Q hr=>by
 rw[aW (c:=⟨1,1,J0⟩) rfl rfl];exact OP Q hr
theorem pns(n:Nat)(ns:List Int):Pns (aS G T W (n+4)) 31 ns:=λat' h np hp l S m h00 hn hl hN hS HS hm a0 a1=>by
 rw[aW (c:=⟨5,9,G9⟩) rfl rfl];exact ML (B1 (n+2) ns) (hom (n+2)) (pan n) (UC (n+1)) h00 hn hl hN hS HS hm a0 a1
theorem lsq(n:Nat):Lsq (aS G T W (n+1)) 25:=λh nm w t l U X g=>by
 rw[aW (c:=⟨2,5,J4⟩) rfl rfl];exact NQ X g
theorem pls(n:Nat):K9 (aS G T W (n+4)) 32:=λh p R hp hl ok=>by
 rw[aW (c:=⟨1,1,G8⟩) rfl rfl];exact MM (ini n) hp hl ok
theorem kpt(n:Nat):L9 (aS G T W (n+1)) 33:=λh k p M hk hp hl hP=>by
 rw[aW (c:=⟨2,2,G7⟩) rfl rfl];exact NW hk hp hl hP
theorem csp(n:Nat):Csp (aS G T W (n+2)) 8:=λss k h hl hm=>EC n ss k h hl hm
theorem agt(n:Nat):Agt (aS G T W (n+3)) 9:=λs t h hs ht=>by
 rw[aW (c:=⟨2,4,b9⟩) rfl rfl];exact QR (csp n) hs ht
theorem win(n:Nat):Win (aS G T W (n+1)) 12:=λh k r P ok=>by
 rw[aW (c:=⟨1,1,J8⟩) rfl rfl];exact LP P ok
theorem fdn(n:Nat):M7 (aS G T W (n+4)) 14:=λh i k a b m Pa Pb oa ob hm=>by
 rw[aW (c:=⟨3,4,J6⟩) rfl rfl];exact OT W1 (mvd (n+1)) (agt n) (win (n+2)) (sys (n+1)) Pa Pb oa ob hm
theorem byn(n:Nat):Byn (aS G T W (n+1)) 13:=λh k M hk hl hP h1 U pU sU=>by
 obtain⟨V,a,b,c⟩:=QK (G:=G) (cl:=aS G T W n) (W:=W) hk hl hP h1 pU sU;exact⟨V,a,b,by rw[aW (c:=⟨1,1,J7⟩) rfl rfl];exact c⟩
theorem unl(n:Nat):K5 (aS G T W (n+5)) 15:=λh k1 k2 M1 M2 a1 a2 a3 a4 a5 a6 a7 a8 a9 U1 U2 p1 s1 p2 s2=>by
 rw[aW (c:=⟨2,8,J5⟩) rfl rfl];exact LS W1 (bhd (n+1)) (bck (n+1)) (byn (n+3)) (fdn n) a1 a2 a3 a4 a5 a6 a7 a8 a9 p1 s1 p2 s2
theorem clh(n:Nat):EX (aS G T W (n+3)) 30:=λh a b m oa ob hm=>by
 rw[aW (c:=⟨3,5,I0⟩) rfl rfl];exact QE (lmv n) (λs t h=>QS (n+1) s t h) (lsq (n+1)) oa ob hm
theorem run(ns:List Int)(hn:ns.length<=63):∃h',aS G T W (49+1) 34 [.ref 0] [.ro (ns.map D.int),.tab 192 ⟨100,28,100,51⟩ "by_name.<locals>.<lambda>"]=.ok (.bl true) h':=by
 rw[aW (c:=⟨1,18,G6⟩) rfl rfl];exact law16_ok W1 (B1 48 ns) (nms 48) (mtn 47) (hvn 47 ns) (pns 45 ns) (UC 47) (lbk 47) (clh 46) (unl 44) (λd h hd=>yD 2 d hd 46 h) (pls 45) (kpt 48)
end Pk16
end
open PySem PySem.W PyProof.Rows
namespace Sh
set_option maxRecDepth 100000 in
set_option maxHeartbeats 0 in
theorem hd:PySem.Challenge.rw_nightglass_k16_the_first_that_is_unlike.Holds:=by
 refine pk.imp ⟨?_⟩;dsimp only[pk]
 k_fill
 refine Ng.law_ofT (Tb:=192) (G:=Pk16.G) (T:=Pk16.T) (W:=Pk16.W) (l:=PySem.Challenge.rw_nightglass_k16_the_first_that_is_unlike) (n:=63) (k:=49) (lw:=34) (x:="_law_script") Pk16.run rfl (by decide) rfl ⟨rfl,by decide,by decide⟩ (λw h Y=>⟨PySem.W.km_in_of Y,PySem.W.km_tabs_of Y 192 (by simp)⟩) ?F
 case F=>
  intro w mg fa h KX Gn hmg
  refine' Pk16.all_mk KX Gn hmg ?gb0 ?gb1 ?gb2 ?gb3 ?gb4 ?gb5 ?gb6 ?gb7 ?gb8 ?gb9 ?gb10 ?gb11 ?gb12 ?fa13 ?fl13 ?fc13 ?fk13 ?gb14 ?gb15 ?gb16 ?gb17 ?gb18 ?gb19 ?gb20 ?gb21 ?gb22 ?gb23 ?gb24 ?gb25 ?gb26 ?gb27 ?gb28 ?gb29 ?gb30 ?gb31 ?gb32 ?gb33 ?fa34 ?fl34 ?fc34 ?fk34 ?ka0 ?fa35 ?fi35 ?fl35 ?fc35 ?fk35 ?fa36 ?fi36 ?fl36 ?fc36 ?fk36 ?fa37 ?fi37 ?fl37 ?fc37 ?fk37 ?fa38 ?fi38 ?fl38 ?fc38 ?fk38 ?kb0 ?kc0 ?kd0 ?ke0 ?kf0 ?kg0 ?kn0 ?kn1 ?kn2 ?kn3 ?kn4 ?ga0 ?tt0 ?ga1 ?tt3 ?tt4 ?tt9 ?tt14 ?tt19 ?tt24 ?tt29 ?tt34 ?tt39 ?ga2 ?ga3 ?ga4 ?tt46 ?ga5 ?ga6 ?ga7 ?ga8 ?lh0 ?lt0 ?z_len ?z_isinstance ?z_int ?z_list ?z_bool ?z_str ?z_tuple ?z_range ?z_max ?z_min ?z_sorted ?z_all ?z_ValueError
  (case gb0|gb1|gb2|gb3|gb4|gb5|gb6|gb7|gb8|gb9|gb10|gb11|gb12=>exact Ng.GF.mk (by k_is) (by k_is) (by k_is) (by k_is))
  (case fa13|fl13|fc13|fk13=>k_is)
  (case gb14|gb15|gb16|gb17|gb18|gb19|gb20|gb21|gb22|gb23|gb24|gb25|gb26|gb27|gb28|gb29|gb30|gb31|gb32|gb33=>exact Ng.GF.mk (by k_is) (by k_is) (by k_is) (by k_is))
  (case fa34|fl34|fc34|fk34|ka0|fa35|fi35|fl35|fc35|fk35|fa36|fi36|fl36|fc36|fk36|fa37|fi37|fl37|fc37|fk37|fa38|fi38|fl38|fc38|fk38|kb0|kc0|kd0|ke0|kf0|kg0|kn0|kn1|kn2|kn3|kn4|ga0|tt0|ga1|tt3|tt4|tt9|tt14|tt19|tt24|tt29|tt34|tt39|ga2|ga3|ga4|tt46|ga5|ga6|ga7|ga8=>k_is)
  (case lh0=>exact⟨_,rfl,by kernel_rfl⟩)
  (case lt0=>kernel_rfl)
  (case z_len|z_isinstance|z_int|z_list|z_bool|z_str|z_tuple|z_range|z_max|z_min|z_sorted|z_all|z_ValueError=>k_is)
end Sh
theorem PySem.Challenge.cw_nightglass_k16_the_first_that_is_unlike_holds : PySem.Challenge.rw_nightglass_k16_the_first_that_is_unlike.Holds :=
 Sh.hd
