import PyProof.Rows.All
import Wide.All
import OpenK.AllK
import Wide.FinOn
import Lean
import PyProof.EqAt
import PyProof.EqKinds
import PyProof.TupleCall
import PyProof.NeKinds
import KE.RegKIsAll
import KE.KTryMore
import KE.RegKTryMore
import PyProof.StationsW
import PyProof.Rows.CatchOwn
import OpenK.KOwn
import PyProof.NsDelKeeps
import PyProof.Rows.RuleN_isinstance
import KE.KSortTup
import PyProof.Rows.StrJoin2
import PyProof.StrBlock2
import PyProof.DictItems
import KE.KMinBuiltin
import PyProof.WalkInts
import PyProof.Rows.CallKwBuiltin
import KE.KPairComp
import PyProof.Rows.SortWalk
import KE.KListMore
import PyProof.ListRange
import PyProof.RangeFor
import PyProof.CompFree
import PyProof.DictCompW
import PyProof.StrWalks
import PyProof.SliceStr2
import KE.KDictSum
import KE.KDictOf
import PyProof.StrLaws
import PyProof.FString
import PyProof.MeetsDictList
import PyProof.FitsReplace
import PySem.Challenge.RW_nightglass_k25_plates_in_the_book
set_option Elab.async false
set_option linter.all false
set_option maxRecDepth 100000
set_option maxHeartbeats 4000000
set_option autoImplicit false
namespace Th
open PySem PySem.W PyProof.Rows
noncomputable def topG(g:Thread->Bool)(f:SharedT->Thread->Option (SharedT×Thread)):Nat->SharedT->Thread->Option SharedT
 |0,_,_=>none
 |n+1,s,t=>match through t with
  |true=>some s
  |false=>match g t with
   |false=>none
   |true=>match f s t with
    |some (s',t')=>topG g f n s' t'
    |none=>none
theorem vE{tb:String->Option Builtin}{p:Program}{w:World}{n₀:Nat}{ann:Option Value}:∀{n:Nat}{s s':SharedT}{t:Thread},topG (stepOk n₀ ann) (stepT (denote tb) p w) n s t=some s'->topRun tb p w n₀ ann n s.abs t=some s'.abs
 |0,_,_,_,h=>by cases h
 |n+1,s,s',t,h=>by
  unfold topG at h;unfold topRun;cases a:through t with
  |true=>rw[a] at h;cases h;rfl
  |false=>
   rw[a] at h;cases k:stepOk n₀ ann t with
   |false=>rw[k] at h;cases h
   |true=>
    rw[k] at h;cases e:stepT (denote tb) p w s t with
    |none=>rw[e] at h;cases h
    |some r=>obtain⟨s₂,t₂⟩:=r;rw[e] at h;rw[stepT_spec e];exact vE h
noncomputable def zI:List Obj->Nat->BT->BT
 | [],_,t=>t
 |o::l,n,t=>zI l (n+1) (t.ins n o)
noncomputable def bs(P:Params)(os:OsState):SharedT:=⟨zI (boot_heap P).objs.toList 0 .nil,11,(boot_heap P).life, #[],boot_drawn,boot_toks,os⟩
theorem OQ(P:Params)(os:OsState):(bs P os).abs=⟨boot_heap P, #[],boot_drawn,boot_toks,os⟩:=by kernel_rfl
theorem HL(P:Params):(boot_heap P).isNs mainGlobals=true/\(boot_heap P).objs.size=11/\(boot_heap P).nsMap mainGlobals "__annotations__"=some (.ref 6):=⟨by kernel_rfl,by kernel_rfl,by kernel_rfl⟩
theorem RN{p q p':Program}{loose:List Str}{Xt:Shared->Bool}{α:Type}{Yf:Shared->α}{Ya:World->α}{N:Nat}{F1:Nat->Option Value->Thread->Bool}{F2:(Code->Sem Fin)->Program->World->SharedT->Thread->Option (SharedT×Thread)}{F3:(String->Option Builtin)->Code->Sem Fin}{F4:String->Option Builtin}{F5:Program->List Str->List Str->(Shared->Bool)->Bool->Shared->_}{F6:List Stmt->List Str}
 (h1:@stepOk=F1)(h2:@stepT=F2)(h3:@denote=F3)(h4:@treeTable=F4)(h5:@openSeen=F5)(h6:@importedModules=F6)(hp:p=p')
 (e:opening p=plainProg p.main.scope.names)(hN:Nat.ble 600 N=true)(f:∀s,fenceModules? p s=some s)
 (run:∀(w:World)(os:OsState),(topG (F1 11 (some (.ref 6))) (F2 (F3 F4) p' w) N (bs w.params os) (topStub p')).map (λs=>(staticsOk (F6 p'.main.body) (boot_heap w.params) s.abs.heap&&namesBound p' s.abs.heap&&gensDone s.abs&&laidKept (boot_heap w.params) s.abs.heap,F5 q loose (F6 p'.main.body) Xt true s.abs,Yf s.abs))=some (true,openGood q loose,Ya w)):LeftO p q loose Xt Yf Ya N:=λw=>by
 subst hp h1 h2 h3 h4 h5 h6;obtain⟨s,hs,hv⟩:=Option.map_eq_some_iff.mp (boot_open (p:=p) (N:=N) e hN f w);obtain⟨hp,gs,dr,tk,os⟩:=s;simp only[Prod.mk.injEq] at hv;obtain⟨rfl,rfl,rfl,rfl⟩:=hv;obtain⟨s1,h1,h2⟩:=Option.map_eq_some_iff.mp (run w os);simp only[Prod.mk.injEq] at h2;obtain⟨a1,a2,a3⟩:=h2;have t:=vE h1;rw[OQ] at t;obtain⟨g1,g2,g3⟩:=HL w.params;unfold openEnds;rw[hs]
 show((topFrom treeTable p w N ⟨boot_heap w.params, #[],boot_drawn,boot_toks,os⟩).map _)=_
 unfold topFrom;simp only[g1,g2,g3];have e2:(true&&(#[]:Array GenState).size==0)=true:=rfl;rw[e2,t]
 show(match staticsOk (importedModules p.main.body) (boot_heap w.params) s1.abs.heap&&namesBound p s1.abs.heap&&gensDone s1.abs&&laidKept (boot_heap w.params) s1.abs.heap with|true=>some s1.abs|false=>none).map _=_
 rw[a1];show some (openSeen q loose (importedModules p.main.body) Xt true s1.abs,Yf s1.abs)=some _;rw[a2,a3]
theorem FA{α β γ:Type}{o:Option α}{f:α->β}{g:α->γ}{b:β}{c:γ}(h1:o.map f=some b)(h2:o.map g=some c):o.map (λs=>(f s,g s))=some (b,c):=by
 cases o with
 |none=>cases h1
 |some a=>cases h1;cases h2;rfl
theorem nine{A:Type}{o:Option A}{B1 B2 B3 B4 B5 B6 B7 B8 B9 C:Type}{c:A->C}{cc:C}{f:A->B1×B2×B3×B4×B5×B6×B7×B8×B9}{a:B1×B2×B3×B4×B5×B6×B7×B8×B9}(h1:o.map (λs=>(c s,(f s).1,(f s).2.1,(f s).2.2.1))=some (cc,a.1,a.2.1,a.2.2.1))(h2:o.map (λs=>((f s).2.2.2.2.2.1,(f s).2.2.2.2.2.2.1))=some (a.2.2.2.2.2.1,a.2.2.2.2.2.2.1))(h3:o.map (λs=>((f s).2.2.2.1,(f s).2.2.2.2.1,(f s).2.2.2.2.2.2.2.1,(f s).2.2.2.2.2.2.2.2))=some (a.2.2.2.1,a.2.2.2.2.1,a.2.2.2.2.2.2.2.1,a.2.2.2.2.2.2.2.2)):o.map (λs=>(c s,f s))=some (cc,a):=by
 cases o with
 |none=>cases h1
 |some s=>
  simp only[Option.map_some,Option.some.injEq,Prod.mk.injEq] at h1 h2 h3⊢;obtain⟨e0,e1,e2,e3⟩:=h1;obtain⟨e6,e7⟩:=h2;obtain⟨e4,e5,e8,e9⟩:=h3;exact⟨e0,Prod.ext e1 (Prod.ext e2 (Prod.ext e3 (Prod.ext e4 (Prod.ext e5 (Prod.ext e6 (Prod.ext e7 (Prod.ext e8 e9)))))))⟩
theorem leftS{p p':Program}{qf:Program->Program}{loose:List Str}{Xf:Program->Shared->Bool}{α:Type}{Yf:Shared->α}{Ya:World->α}{N:Nat}{F1:Nat->Option Value->Thread->Bool}{F2:(Code->Sem Fin)->Program->World->SharedT->Thread->Option (SharedT×Thread)}{F3:(String->Option Builtin)->Code->Sem Fin}{F4:String->Option Builtin}{F5:Program->List Str->List Str->(Shared->Bool)->Bool->Shared->_}{F6:List Stmt->List Str}
 (h1:@stepOk=F1)(h2:@stepT=F2)(h3:@denote=F3)(h4:@treeTable=F4)(h5:@openSeen=F5)(h6:@importedModules=F6)(hp:p=p')
 (e:opening p=plainProg p.main.scope.names)(hN:Nat.ble 600 N=true)(f:∀s,fenceModules? p s=some s)
 (rA:∀(w:World)(os:OsState),(topG (F1 11 (some (.ref 6))) (F2 (F3 F4) p' w) N (bs w.params os) (topStub p')).map (λs=>(staticsOk (F6 p'.main.body) (boot_heap w.params) s.abs.heap&&namesBound p' s.abs.heap&&gensDone s.abs&&laidKept (boot_heap w.params) s.abs.heap,F5 (qf p') loose (F6 p'.main.body) (Xf p') true s.abs))=some (true,openGood (qf p') loose))
 (rC:∀(w:World)(os:OsState),(topG (F1 11 (some (.ref 6))) (F2 (F3 F4) p' w) N (bs w.params os) (topStub p')).map (λs=>Yf s.abs)=some (Ya w)):LeftO p (qf p) loose (Xf p) Yf Ya N:=by
 subst hp;refine RN h1 h2 h3 h4 h5 h6 rfl e hN f λw os=>?_;have q:=FA (rA w os) (rC w os);generalize topG (F1 11 (some (.ref 6))) (F2 (F3 F4) p w) N (bs w.params os) (topStub p)=o at q;cases o with
 |none=>cases q
 |some s=>
  simp only[Option.map_some,Option.some.injEq,Prod.mk.injEq] at q⊢;exact⟨q.1.1,q.1.2,q.2⟩
end Th
namespace Sh
open PySem PySem.W PyProof.Rows
class Cc (C:outParam Prop):Prop where
 out:C
def Kp{C:Prop}(_:Cc C):Prop:=True
theorem PySem.W.holds_open{r:OpenRow}{q:Program}{loose:List Str}{Xt:Shared->Bool}{XP:(Str->Option Value)->Heap->Prop}{α:Type}{Yf:Shared->α}{Ya:World->α}{YP:World->Heap->Prop}{d:DefRec}{kwd:List (Str×Expr)}{N:Nat}{C:Prop} [i:Cc C]
 (_:True)(hY:∀w s,Yf s=Ya w->YP w s.heap)(hYk:∀w h h',YP w h->(∀b o,h.get? b=some o->h'.get? b=some o)->YP w h')
 (hX:∀s,Xt s=true->XP (s.heap.nsMap mainGlobals) s.heap)(hXk:∀mg h h',XP mg h->(∀b o,h.get? b=some o->h'.get? b=some o)->XP mg h')
 (hdef:defOf q r.name=some (d,kwd))(hp:r.prog.theDef r.name=some (d.params,d.body,d.scope))(hk:kwWritten? d.params.kwonlyargs d.params.kw_defaults=some kwd)(hRf:∀s,Xt s=true->RecFacts r.records s.heap)(hwr:(!r.writes||r.records.isEmpty)=true)
 (k1:r.wellSaid=true)(ok:(chainsOk q&&opensWell r.prog&&(frees r.toRowW&&r.within.isEmpty))=true)(hb:r.prog.bare)(hw:r.toRowW.promised)
 (call:Kp i/\LeftO r.prog q loose Xt Yf Ya N/\WalkO q loose XP YP r.toRowW d kwd λf vs=>PySem.call f vs):r.Holds:=
 _root_.PySem.W.holds_open call.2.1 hY hYk hX hXk hdef hp hk hRf hwr k1 ok hb hw call.2.2
end Sh
section
open PySem PySem.W PyProof.Rows
namespace Sh
set_option maxHeartbeats 0
theorem sd:PySem.Challenge.rw_nightglass_k25_plates_in_the_book.wellSaid=true:=by kernel_rfl
noncomputable abbrev qf(p:Program):Program:=view p [0,2,3,4,5,6,7,8,9,10,11,13,14,15,16,17,18,19,20,21,22,23,25,26,27,28,29,31,32,33,34,35,36,37,38,40,41,42,44,45,46,47,49,50,51,52,53,54,55,56,57,58,59,61,63,64,65,66,67,68,69,70,71,72,73,74]
noncomputable def vw:Program:=qf PySem.Challenge.pw_nightglass_k25_plates_in_the_book
noncomputable def run(w:World)(os:OsState):Option SharedT:=Th.topG (PySem.W.Fast.tw6613529449190102663 11 (some (.ref 6))) (PySem.W.Fast.tw10156331382660048174 (PySem.W.Fast.tw11892475500146522536 PySem.W.Fast.tw14364793385576792824) PySem.Challenge.pw_nightglass_k25_plates_in_the_book w) 11072 (Th.bs w.params os) (topStub PySem.Challenge.pw_nightglass_k25_plates_in_the_book)
noncomputable def im:List Str:=PySem.W.Fast.tw5923862056798008813 PySem.Challenge.pw_nightglass_k25_plates_in_the_book.main.body
noncomputable def sn(s:SharedT):=PySem.W.Fast.tw4187177175401517315 vw [] im (λs=>xlAt vw [] s&&recOk PySem.Challenge.rw_nightglass_k25_plates_in_the_book.row.records s) true s.abs
noncomputable def oa(w:World)(s:SharedT):Bool:=staticsOk im (boot_heap w.params) s.abs.heap&&namesBound PySem.Challenge.pw_nightglass_k25_plates_in_the_book s.abs.heap&&gensDone s.abs&&laidKept (boot_heap w.params) s.abs.heap
theorem r1(w:World)(os:OsState):(run w os).map (λs=>(oa w s,(sn s).1,(sn s).2.1,(sn s).2.2.1))=some (true,expectedOf vw,bltViewBooted,true):=by kernel_rfl
theorem r2(w:World)(os:OsState):(run w os).map (λs=>((sn s).2.2.2.2.2.1,(sn s).2.2.2.2.2.2.1))=some (plainGoodE vw (looseW vw []),plainGoodD vw []):=by kernel_rfl
theorem r3(w:World)(os:OsState):(run w os).map (λs=>((sn s).2.2.2.1,(sn s).2.2.2.2.1,(sn s).2.2.2.2.2.2.2.1,(sn s).2.2.2.2.2.2.2.2))=some (true,pinGoodD (drecsOf vw),wideGood vw,clsGoodW vw []):=by kernel_rfl
theorem rA(w:World)(os:OsState):(run w os).map (λs=>(oa w s,sn s))=some (true,openGood vw []):=Th.nine (a:=openGood vw []) (r1 w os) (r2 w os) (r3 w os)
structure PackT (H:Prop) where
 C:Prop
 imp:Cc C->H
noncomputable def pk:PackT PySem.Challenge.rw_nightglass_k25_plates_in_the_book.Holds:=by
 refine' ⟨_,λc=>?g⟩
 case g=>
  refine holds_law sd λsaid=>?_;refine @Function.const _ True ?m ?hl;rotate_left;exact True.intro
  w_on;k_head;(case hw=>w_witness2)
  k_fill
  refine⟨True.intro,Th.leftS (qf:=qf) (Xf:=λp s=>xlAt (qf p) [] s&&recOk PySem.Challenge.rw_nightglass_k25_plates_in_the_book.row.records s) PySem.W.Fast.te6613529449190102663 PySem.W.Fast.te10156331382660048174 PySem.W.Fast.te11892475500146522536 PySem.W.Fast.te14364793385576792824 PySem.W.Fast.te4187177175401517315 PySem.W.Fast.te5923862056798008813 rfl (by kernel_rfl) (by decide) (λs=>by kernel_rfl) rA (λw os=>by kernel_rfl),?_⟩;exact c.out
end Sh
end
namespace L2
open PySem PySem.Spec PyProof.Rows
noncomputable abbrev _root_.Za:=@wpAny_bind
noncomputable abbrev _root_.Zb:=@wpAny_pure
noncomputable abbrev _root_.Zc:=@List.length_map
noncomputable abbrev _root_.Zd:=@List.getElem?_eq_getElem
noncomputable abbrev _root_.Ze:=@List.getElem?_eq_some_iff
noncomputable abbrev _root_.Zf:=@Heap.get?_push_of_some
noncomputable abbrev _root_.Zg:=@Option.some.inj
noncomputable abbrev _root_.Zh:=@List.map_cons
noncomputable abbrev _root_.Zi:=@List.getElem?_map
noncomputable abbrev _root_.Zj:=@List.mem_cons_of_mem
noncomputable abbrev _root_.Zk:=@List.size_toArray
noncomputable abbrev _root_.Zl:=@List.mem_cons_self
noncomputable abbrev _root_.Zm:=@List.append_nil
noncomputable abbrev _root_.Zn:=@Nat.le_refl
noncomputable abbrev bQ:=Sum Int Str
noncomputable def mV:bQ->Value->Bool
 |.inl k,v=>Value.isInt k v
 |.inr x,v=>Value.isStrOf x v
noncomputable def XA(w:World):bQ->Int
 |.inl k=>hashInt k
 |.inr x=>hashStr w x
theorem bN:∀{k:bQ}{v:Value},mV k v=true->(∃i t,k=Sum.inl i/\v=Value.int i t)\/(∃x t,k=Sum.inr x/\v=Value.str x t)
 |.inl i,v,h=>by
  obtain⟨t,e⟩:=Value.isInt_shape (k:=i) (v:=v) h;exact .inl ⟨i,t,rfl,e⟩
 |.inr x,v,h=>by
  obtain⟨t,e⟩:=Value.isStrOf_shape (x:=x) (v:=v) h;exact .inr ⟨x,t,rfl,e⟩
theorem xV(i:Int)(t:Tok):mV (.inl i) (.int i t)=true:=by simp[mV,Value.isInt]
theorem xU(x:Str)(t:Tok):mV (.inr x) (.str x t)=true:=by simp[mV,Value.isStrOf]
theorem MV(a b:Int):decide ((Sum.inl a:bQ)=Sum.inl b)=(a==b):=by
 by_cases e:a=b
 ·subst e;simp
 ·have h:¬(Sum.inl a:bQ)=Sum.inl b:=λq=>e (Sum.inl.inj q);rw[decide_eq_false h];exact(beq_eq_false_iff_ne.mpr e).symm
theorem MS(a b:Str):decide ((Sum.inr a:bQ)=Sum.inr b)=decide (a=b):=by
 by_cases e:a=b
 ·subst e;simp
 ·have h:¬(Sum.inr a:bQ)=Sum.inr b:=λq=>e (Sum.inr.inj q);rw[decide_eq_false h,decide_eq_false e]
theorem MU(a:Int)(b:Str):decide ((Sum.inl a:bQ)=Sum.inr b)=false:=decide_eq_false (λq=>nomatch q)
theorem MT(a:Str)(b:Int):decide ((Sum.inr a:bQ)=Sum.inl b)=false:=decide_eq_false (λq=>nomatch q)
noncomputable def bX(prog:Program)(w:World):PySem.KeyKind prog w bQ where
 is:=mV
 hash:=XA w
 inj:=λv a b ha hb=>by
  rcases bN ha with ⟨i,t,rfl,rfl⟩|⟨x,t,rfl,rfl⟩
  ·rcases bN hb with ⟨j,u,rfl,e⟩|⟨y,u,rfl,e⟩
   ·injection e with e1 _;rw[e1]
   ·exact nomatch e
  ·rcases bN hb with ⟨j,u,rfl,e⟩|⟨y,u,rfl,e⟩
   ·exact nomatch e
   ·injection e with e1 _;rw[e1]
 byValue:=λk v h=>by
  rcases bN h with ⟨i,t,rfl,rfl⟩|⟨x,t,rfl,rfl⟩<;>rfl
 pyHash:=λhv h=>by
  rcases bN hv with ⟨i,t,rfl,rfl⟩|⟨x,t,rfl,rfl⟩
  ·exact wpAny_pyHash_int h
  ·exact wpAny_pyHash_str h
 eqBool:=λhu hv h=>by
  rcases bN hu with ⟨i,t,rfl,rfl⟩|⟨x,t,rfl,rfl⟩
  ·rcases bN hv with ⟨j,u,rfl,rfl⟩|⟨y,u,rfl,rfl⟩
   ·rw[MV] at h;exact wpAny_eqBool_int h
   ·rw[MU] at h;exact SeqAt.EqAt.int_str i t y u _ _ _ _ h
  ·rcases bN hv with ⟨j,u,rfl,rfl⟩|⟨y,u,rfl,rfl⟩
   ·rw[MT] at h;exact SeqAt.EqAt.str_int x t j u _ _ _ _ h
   ·rw[MS] at h;exact wpAny_eqBool_str h
 «strs»:=λk x t v h=>by
  rcases bN h with ⟨i,u,rfl,e⟩|⟨y,u,rfl,e⟩
  ·exact nomatch e
  ·injection e with e1 _;subst e1;cases v<;>rfl
theorem mR(prog:Program)(w:World)(k:bQ)(v:Value):(bX prog w).is k v=mV k v:=rfl
theorem rS(prog:Program)(w:World)(i:Int)(t:Tok):(bX prog w).is (.inl i) (.int i t)=true:=xV i t
theorem rR(prog:Program)(w:World)(x:Str)(t:Tok):(bX prog w).is (.inr x) (.str x t)=true:=xU x t
end L2
namespace L2
open PySem PySem.Spec PyProof.Rows
inductive V where
 |non|bl (b:Bool)|int (i:Int)|str (x:Str)|byt (b:Array UInt8)|flt (b:UInt64)|ref (a:Addr)|ty (n:String)
 deriving DecidableEq
noncomputable def RelV:V->Value->Prop
 |.non,u=>u=Value.none
 |.bl b,u=>u=Value.bool b
 |.int i,u=>∃t,u=Value.int i t
 |.str x,u=>∃t,u=Value.str x t
 |.byt b,u=>∃t,u=Value.bytes b t
 |.flt b,u=>∃t,u=Value.float b t
 |.ref a,u=>u=Value.ref a
 |.ty n,u=>u=Value.type n
noncomputable abbrev Vals:List V->List Value->Prop:=Paired RelV
theorem Vals.length{xs:List V}{us:List Value}(r:Vals xs us):xs.length=us.length:=Paired.length r
theorem Vals.get:∀{xs:List V}{us:List Value}{i:Nat}{x:V},Vals xs us->xs[i]? =some x->∃u,us[i]? =some u/\RelV x u
 |_,_,_,_,.nil,e=>by simp at e
 |_,_,0,_,.cons r _,e=>by simp at e;subst e;exact⟨_,rfl,r⟩
 |_,_,i+1,x,.cons _ t,e=>by
  obtain⟨u,h1,h2⟩:=Vals.get (i:=i) (x:=x) t (by simpa using e);exact⟨u,by simpa using h1,h2⟩
theorem Vals.set{x:V}{u:Value}(r:RelV x u):∀{xs:List V}{us:List Value}(i:Nat),Vals xs us->Vals (xs.set i x) (us.set i u)
 |_,_,_,.nil=>.nil
 |_,_,0,.cons _ t=>.cons r t
 |_,_,i+1,.cons q t=>.cons q (Vals.set r i t)
theorem Vals.append:∀{xs ys:List V}{us ws:List Value},Vals xs us->Vals ys ws->Vals (xs++ys) (us++ws)
 |_,_,_,_,.nil,s=>s
 |_,_,_,_,.cons r t,s=>.cons r (Vals.append t s)
theorem Vals.take:∀{xs:List V}{us:List Value}(n:Nat),Vals xs us->Vals (xs.take n) (us.take n)
 |_,_,0,_=>.nil
 |_,_,_+1,.nil=>.nil
 |_,_,n+1,.cons r t=>.cons r (Vals.take n t)
theorem Vals.drop:∀{xs:List V}{us:List Value}(n:Nat),Vals xs us->Vals (xs.drop n) (us.drop n)
 |_,_,0,r=>r
 |_,_,_+1,.nil=>.nil
 |_,_,n+1,.cons _ t=>Vals.drop n t
noncomputable def RelO:Option V->Option Value->Prop
 |some v,some u=>RelV v u
 |none,none=>True
 |_,_=>False
noncomputable def KV{κ:Type}:List (κ×V)->List (κ×Value)->Prop:=Paired λ(p:κ×V)(q:κ×Value)=>p.1=q.1/\RelV p.2 q.2
noncomputable def kV:bQ->V
 |.inl i=>.int i
 |.inr x=>.str x
inductive HO where
 /-- a list -/
 |lst (xs:List V)
 /-- a tuple (never changes) -/
 |tup (xs:List V)
 /-- a dict whose keys are ints and texts;one whose keys are tuples of ints and texts (the empty one is both) -/
 |dK (kvs:List (bQ×V))|dT (kvs:List (List bQ×V))
 /-- a set of ints:its members,its size -/
 |set (S:Int->Bool) (n:Nat)
 /-- an instance of the class at C,its dict at dx,its attributes -/
 |ins (C dx:Addr) (fs:List (Str×V))
 /-- the dict of the instance at x -/
 |own (x:Addr)
 /-- the dict of an exception -/
 |xd (fs:List (Str×V))
 /-- a bound method,f of x -/
 |met (f x:Addr)
 /-- a range object lo,lo+1,.. below hi -/
 |rng (lo hi:Int)
 /-- a thing that is known to the object (the script;a dict while a loop walks it):read,never written while it is so -/
 |frz (o:Obj) (u:HO)
 /-- a code object's table -/
 |tbl (ps:Array Value)
 /-- any other thing,by what is true of its one object (a def of one's own:SetO a S n:=HO.ext λh=>..) -/
 |ext (φ:Heap->Prop)
noncomputable abbrev Hp:=Addr->Option HO
noncomputable def bI(H:Hp)(a:Addr)(o:HO):Hp:=λb=>if b=a then some o else H b
theorem aS{H:Hp}{a:Addr}{o:HO}:bI H a o a=some o:=by unfold bI;rw[if_pos rfl]
theorem aK{H:Hp}{a b:Addr}{o:HO}(h:b≠a):bI H a o b=H b:=by unfold bI;rw[if_neg h]
theorem oN{H:Hp}{a b:Addr}{o u:HO}(h:H a=some o)(h':H b=some u)(d:o≠u):a≠b:=by
 intro e;subst e;rw[h] at h';exact d (Zg h')
theorem bC{H:Hp}{a b:Addr}{o:HO}(h:H a=some o)(h':H b=none):a≠b:=by
 intro e;subst e;rw[h] at h';cases h'
section
variable (P:Program)(w:World)
noncomputable def ObjOk(H:Hp)(h:Heap)(a:Addr):HO->Prop
 |.lst xs=>xs.length<=sizeLine/\∃(its:List Value)(n:Nat),Vals xs its/\h.get? a=some {cls:=.type "list",data:=.seq its.toArray n}
 |.tup xs=>xs.length<=sizeLine/\∃its:List Value,Vals xs its/\IsTup h a its.toArray
 |.dK kvs=>kvs.length<=sizeLine/\(a==sysModules)=false/\∃vs,KV kvs vs/\h.DictOf (bX P w) a vs
 |.dT kvs=>kvs.length<=sizeLine/\(a==sysModules)=false/\∃xs:List (List bQ×Addr×Value),
   Paired (λ(p:List bQ×V)(q:List bQ×Addr×Value)=>p.1=q.1/\H q.2.1=some (.tup (p.1.map kV))/\RelV p.2 q.2.2) kvs xs/\
   ∃o es ep,h.get? a=some o/\o.ExactDict/\o.data=.dict es ep/\es.toList=xs.map (entryOfKey (tupleKind (bX P w)))/\(xs.map (·.1)).Nodup
 |.set S n=>h.SetOf (intKind P w) a S n
 |.ins C dx fs=>H dx=some (.own a)/\fs.length<=1000/\dx≠a/\h.get? a=some (W.instObj C dx)/\
   ∃mA,h.Ns1 dx mA/\(∀f,RelO (fs.lookup f) (mA f))/\PySem.Within mA (fs.map (·.1))
 |.own _=>∃o,h.get? a=some o
 |.xd fs=>∃mA,h.Ns1 a mA/\∀f,RelO (fs.lookup f) (mA f)
 |.rng lo hi=>∃t u v,h.get? a=some {cls:=.type "range",data:=.fields #[.int lo t,.int hi u,.int 1 v]}
 |.frz o u=>h.get? a=some o/\ObjOk H h a u
 |.tbl ps=>h.get? a=some {cls:=.none,data:=.fields ps}
 |.met f x=>h.get? a=some (W.methodObj (.ref f) (.ref x))
 |.ext φ=>φ h/\(∃o,h.get? a=some o)/\∀h1 h2:Heap,φ h1->(∀o,h1.get? a=some o->h2.get? a=some o)->φ h2
def HOk(H:Hp)(h:Heap):Prop:=∀a o,H a=some o->ObjOk P w H h a o
end
section
variable {P:Program}{w:World}{H H':Hp}{h h':Heap}{a:Addr}{o:HO}
theorem ObjOk.lt(x:ObjOk P w H h a o):a<h.objs.size:=by
 cases o with
 |lst xs=>obtain⟨_,_,_,_,e⟩:=x;exact Heap.lt_size e
 |tup xs=>obtain⟨_,_,_,p⟩:=x;exact p.lt
 |dK kvs=>obtain⟨_,_,_,_,o,_,_,e,_⟩:=x;exact Heap.lt_size e
 |dT kvs=>obtain⟨_,_,_,_,o,_,_,e,_⟩:=x;exact Heap.lt_size e
 |set S n=>obtain⟨o,_,_,_,e,_⟩:=x;exact Heap.lt_size e
 |ins C dx fs=>obtain⟨_,_,_,e,_⟩:=x;exact Heap.lt_size e
 |own y=>obtain⟨_,e⟩:=x;exact Heap.lt_size e
 |xd fs=>obtain⟨_,⟨_,_,_,e,_⟩,_⟩:=x;exact Heap.lt_size e
 |rng lo hi=>obtain⟨_,_,_,e⟩:=x;exact Heap.lt_size e
 |frz ob u=>obtain⟨e,_⟩:=x;exact Heap.lt_size e
 |tbl ps=>exact Heap.lt_size (show h.get? a=some _ from x)
 |met f y=>exact Heap.lt_size (show h.get? a=some _ from x)
 |ext φ=>obtain⟨_,⟨_,e⟩,_⟩:=x;exact Heap.lt_size e
theorem Paired.mapP{α β:Type}{F G:α->β->Prop}:∀{l₁:List α}{l₂:List β},Paired F l₁ l₂->(∀a b,F a b->G a b)->Paired G l₁ l₂
 |_,_,.nil,_=>.nil
 |_,_,.cons r t,f=>.cons (f _ _ r) (Paired.mapP t f)
theorem ObjOk.stay(x:ObjOk P w H h a o)(k:∀b u,(b=a\/H b=some (.own a))->h.get? b=some u->h'.get? b=some u)
 (ho:∀b,H b=some (.own a)->H' b=some (.own a))(ht:∀b xs,H b=some (.tup xs)->H' b=some (.tup xs)):ObjOk P w H' h' a o:=by
 induction o with
 |lst xs=>obtain⟨z,its,n,r,e⟩:=x;exact⟨z,its,n,r,k _ _ (.inl rfl) e⟩
 |tup xs=>obtain⟨z,its,r,ob,e,c⟩:=x;exact⟨z,its,r,ob,k _ _ (.inl rfl) e,c⟩
 |dK kvs=>obtain⟨z,y,vs,r,ob,es,ep,e,c⟩:=x;exact⟨z,y,vs,r,ob,es,ep,k _ _ (.inl rfl) e,c⟩
 |dT kvs=>
  obtain⟨z,y,xs,r,ob,es,ep,e,c⟩:=x;exact⟨z,y,xs,Paired.mapP r λp q z=>⟨z.1,ht _ _ z.2.1,z.2.2⟩,ob,es,ep,k _ _ (.inl rfl) e,c⟩
 |set S n=>obtain⟨ob,es,ep,t,e,c⟩:=x;exact⟨ob,es,ep,t,k _ _ (.inl rfl) e,c⟩
 |ins C dx fs=>
  obtain⟨d,z,ne,e,mA,⟨od,es,ep,e2,c⟩,r⟩:=x;exact⟨ho _ d,z,ne,k _ _ (.inl rfl) e,mA,⟨od,es,ep,k _ _ (.inr d) e2,c⟩,r⟩
 |own y=>obtain⟨ob,e⟩:=x;exact⟨ob,k _ _ (.inl rfl) e⟩
 |xd fs=>obtain⟨mA,⟨od,es,ep,e,c⟩,r⟩:=x;exact⟨mA,⟨od,es,ep,k _ _ (.inl rfl) e,c⟩,r⟩
 |rng lo hi=>obtain⟨t,u,v,e⟩:=x;exact⟨t,u,v,k _ _ (.inl rfl) e⟩
 |frz ob u ih=>obtain⟨e,q⟩:=x;exact⟨k _ _ (.inl rfl) e,ih q⟩
 |tbl ps=>
  have e:h.get? a=some {cls:=.none,data:=.fields ps}:=x;show h'.get? a=some {cls:=.none,data:=.fields ps};exact k a _ (.inl rfl) e
 |met f y=>
  have e:h.get? a=some (W.methodObj (.ref f) (.ref y)):=x;show h'.get? a=some (W.methodObj (.ref f) (.ref y));exact k a _ (.inl rfl) e
 |ext φ=>obtain⟨p,⟨o,e⟩,st⟩:=x;exact⟨st _ _ p λo q=>k _ _ (.inl rfl) q,⟨o,k _ _ (.inl rfl) e⟩,st⟩
theorem HOk.lt(x:HOk P w H h)(e:H a=some o):a<h.objs.size:=(x a o e).lt
theorem HOk.fresh(x:HOk P w H h)(e:h.objs.size<=a):H a=none:=by
 cases q:H a with
 |none=>rfl
 |some u=>exact absurd (Nat.lt_of_lt_of_le (x.lt q) e) (Nat.lt_irrefl _)
theorem HOk.kept(x:HOk P w H h)(k:∀b u,h.get? b=some u->h'.get? b=some u):HOk P w H h':=λa o e=>
 (x a o e).stay (λb u _ q=>k b u q) (λ_ q=>q) λ_ _ q=>q
theorem HOk.laid(x:HOk P w H h)(k:∀b u,h.get? b=some u->h'.get? b=some u)(hp:h.objs.size<=a)(new:ObjOk P w (bI H a o) h' a o):HOk P w (bI H a o) h':=λb u e=>by
 have hn:=x.fresh hp
 by_cases hb:b=a
 ·subst hb;rw[aS] at e;cases e;exact new
 ·rw[aK hb] at e;exact(x b u e).stay (λc v _ q=>k c v q) (λc q=>by rw[aK (bC q hn)];exact q) λc xs q=>by rw[aK (bC q hn)];exact q
end
def Rd(H:Hp)(a:Addr)(u:HO):Prop:=H a=some u\/∃o,H a=some (.frz o u)
theorem Rd.ok{P:Program}{w:World}{H:Hp}{h:Heap}{a:Addr}{u:HO}(r:Rd H a u)(x:HOk P w H h):ObjOk P w H h a u:=by
 rcases r with r|⟨o,r⟩
 ·exact x a u r
 ·obtain⟨_,q⟩:=x a _ r;exact q
noncomputable def UL:Option HO->Prop
 |some (.lst _)=>True
 |some (.dK _)=>True
 |some (.dT _)=>True
 |some (.set _ _)=>True
 |some (.ins _ _ _)=>True
 |some (.ext _)=>True
 |_=>False
section
variable {P:Program}{w:World}{H:Hp}{h h':Heap}{x e:Addr}{o':HO}
theorem HOk.write(ok:HOk P w H h)(mu:UL (H x))(he:e=x\/H e=some (.own x))(k:∀b u,b≠e->h.get? b=some u->h'.get? b=some u)(heo:∃u,h'.get? e=some u)
 (new:ObjOk P w (bI H x o') h' x o'):HOk P w (bI H x o') h':=λb u q=>by
 have nown:∀c y,H c=some (.own y)->c≠x:=λc y r z=>by subst z;rw[r] at mu;exact mu
 have ntup:∀c xs,H c=some (.tup xs)->c≠x:=λc xs r z=>by subst z;rw[r] at mu;exact mu
 by_cases hb:b=x
 ·subst hb;rw[aS] at q;cases q;exact new
 ·rw[aK hb] at q
  by_cases hbe:b=e
  ·have q':H b=some (.own x):=by
    rcases he with z|z
    ·exact absurd (hbe.trans z) hb
    ·rw[hbe];exact z
   rw[q] at q';cases q';obtain⟨v,hv⟩:=heo;exact⟨v,by rw[hbe];exact hv⟩
  ·refine(ok b u q).stay (λc v hc r=>k c v ?_ r) (λc r=>by rw[aK (nown c b r)];exact r) λc xs r=>by rw[aK (ntup c xs r)];exact r
   rcases hc with rfl|hc
   ·exact hbe
   ·rintro rfl;rcases he with z|z
    ·exact nown c b hc z
    ·rw[hc] at z;cases z;exact hb rfl
end
structure Un (fs ex:List Addr)(H H':Hp)(h h':Heap):Prop where
 keep:∀b o,h.get? b=some o->H b=none->b ∉ fs->b ∉ ex->h'.get? b=some o
 slot:∀b o,h.get? b=some o->H b=none->b∈fs->b ∉ ex->∃sl,h'.get? b=some {o with slots:=sl}
 free:∀b o,h.get? b=some o->H b=none->b ∉ ex->H' b=none
 there:∀b o,h.get? b=some o->b ∉ ex->∃o',h'.get? b=some o'
 tups:∀b xs,H b=some (.tup xs)->H' b=some (.tup xs)
 frzs:∀b o u,H b=some (.frz o u)->H' b=some (.frz o u)
 tbls:∀b ps,H b=some (.tbl ps)->∃more,H' b=some (.tbl (ps++more))
section
variable {fs fs' ex ex':List Addr}{H H1 H2:Hp}{h h1 h2 h':Heap}{a x e:Addr}{o:HO}
theorem Un.any(u:Un fs ex H H1 h h1){b:Addr}{ob:Obj}(q:h.get? b=some ob)(n:H b=none)(hx:b ∉ ex):∃sl,h1.get? b=some {ob with slots:=sl}:=by
 by_cases hb:b∈fs
 ·exact u.slot b ob q n hb hx
 ·exact⟨ob.slots,u.keep b ob q n hb hx⟩
theorem Un.kept(k:∀b u,h.get? b=some u->h'.get? b=some u):Un fs ex H H h h':=
 ⟨λb ob q _ _ _=>k b ob q,λb ob q _ _ _=>⟨ob.slots,k b ob q⟩,λ_ _ _ n _=>n,λb ob q _=>⟨ob,k b ob q⟩,λ_ _ q=>q,λ_ _ _ q=>q,λ_ ps q=>⟨#[],by rw[q];simp⟩⟩
theorem Un.refl:Un fs ex H H h h:=Un.kept λ_ _ q=>q
theorem Un.laid(k:∀b u,h.get? b=some u->h'.get? b=some u)(hp:h.objs.size<=a)(hn:H a=none):Un fs ex H (bI H a o) h h' where
 keep:=λb u q _ _ _=>k b u q
 slot:=λb u q _ _ _=>⟨u.slots,k b u q⟩
 free:=λb u q n _=>by rw[aK (Nat.ne_of_lt (Nat.lt_of_lt_of_le (Heap.lt_size q) hp))];exact n
 there:=λb u q _=>⟨u,k b u q⟩
 tups:=λb xs q=>by rw[aK (bC q hn)];exact q
 frzs:=λb u xs q=>by rw[aK (bC q hn)];exact q
 tbls:=λb ps q=>⟨#[],by rw[aK (bC q hn),q];simp⟩
theorem Un.write(mu:UL (H x))(he:e=x\/H e=some (.own x))(k:∀b u,b≠e->h.get? b=some u->h'.get? b=some u)(heo:∃u,h'.get? e=some u):Un fs ex H (bI H x o) h h':=by
 have hx:∀b,H b=none->b≠x:=λb n z=>by subst z;rw[n] at mu;exact mu
 have hb:∀b,H b=none->b≠e:=λb n z=>by
  subst z;rcases he with r|r
  ·exact hx b n r
  ·rw[n] at r;cases r
 have hm:∀b u,H b=some u->¬UL (some u)->b≠x:=λb u q nm z=>by subst z;rw[q] at mu;exact nm mu
 refine⟨λb u q n _ _=>k b u (hb b n) q,λb u q n _ _=>⟨u.slots,k b u (hb b n) q⟩,λb u q n _=>by rw[aK (hx b n)];exact n,λb u q _=>?_,
  λb xs q=>by rw[aK (hm b _ q λz=>z)];exact q,λb u xs q=>by rw[aK (hm b _ q λz=>z)];exact q,λb ps q=>⟨#[],by rw[aK (hm b _ q λz=>z),q];simp⟩⟩
 by_cases hbe:b=e
 ·subst hbe;exact heo
 ·exact⟨u,k b u hbe q⟩
end
noncomputable def UR(h:Heap)(H:Hp):List Addr:=(List.range h.objs.size).filter λa=>(H a).isSome
noncomputable def qB(h:Heap)(H:Hp):Heap:=W.hideAll h (UR h H)
theorem xX(h:Heap)(H:Hp):(qB h H).objs.size=h.objs.size:=W.hideAll_size _ _
theorem BM{h:Heap}{H:Hp}{b:Addr}{o:Obj}(e:h.get? b=some o)(n:H b=none):(qB h H).get? b=some o:=
 W.hideAll_get _ e λhm=>by
  have q:(H b).isSome=true:=(List.mem_filter.mp hm).2;rw[n] at q;simp at q
theorem FG{h:Heap}{H:Hp}{b:Addr}{o:Obj}(e:(qB h H).get? b=some o):h.get? b=some o/\H b=none:=by
 have e':h.get? b=some o:=W.of_hideAll (UR h H) e;refine⟨e',?_⟩;cases q:H b with
 |none=>rfl
 |some x=>
  have hm:b∈UR h H:=List.mem_filter.mpr ⟨List.mem_range.mpr (Heap.lt_size e'),by simp[q]⟩;have z:(qB h H).get? b=none:=W.hideAll_none (UR h H) hm;rw[z] at e;cases e
noncomputable def iG(g h:Heap)(L:Addr):List (Addr×Obj):=(List.range h.objs.size).filterMap λa=>if a=L\/(g.get? a).isSome=true then none else(h.get? a).map λo=>(a,o)
theorem dJ{g h:Heap}{L a:Addr}{o:Obj}(h1:a≠L)(h2:g.get? a=none)(h3:h.get? a=some o):(a,o)∈iG g h L:=
 List.mem_filterMap.mpr ⟨a,List.mem_range.mpr (Heap.lt_size h3),by simp[h1,h2,h3]⟩
theorem mO{g h:Heap}{L:Addr}{p:Addr×Obj}(hp:p∈iG g h L):p.1≠L/\g.get? p.1=none/\h.get? p.1=some p.2:=by
 obtain⟨b,_,e⟩:=List.mem_filterMap.mp hp;split at e
 ·cases e
 ·rename_i hn;cases q:h.get? b with
  |none=>rw[q] at e;simp at e
  |some u=>
   rw[q] at e;simp only[Option.map_some,Option.some.injEq] at e;subst e;refine⟨λz=>hn (.inl z),?_,q⟩;show g.get? b=none;cases r:g.get? b with
   |none=>rfl
   |some v=>exact(hn (.inr (by simp[r]))).elim
noncomputable def rest(g h:Heap)(L d:Addr):List (Addr×Obj):=(iG g h L).filter λp=>decide (p.1≠d)
theorem rQ{g h:Heap}{L:Addr}:News g L h (iG g h L):=λp hp=>let⟨a,b,c⟩:=mO hp;⟨c,a,b⟩
end L2
namespace L2
open PySem PySem.Spec PyProof.Rows
structure Mod (K:W.Frag)(mg:Str->Option Value)(base:Heap):Prop where
 kin:K.In base
 glob:base.Ns mainGlobals mg
 blt:∃mb,base.Ns builtinsNs mb/\∀x:Str,x≠"__name__"->mb x=bootBuiltins x
 nolimit:base.NoLimit
structure Cx where
 prog:Program
 w:World
 K:W.Frag
 mg:Str->Option Value
 base:Heap
 A:Around
 N:List Str
 s₀:Shared
 H₀:Hp
 env:Env
 outer:List Env
 stack:List Env
 ex:List Addr
 fn:Str->Bool
 calm:Bool
 pn:List (Addr×Obj)
 xe:Value->Shared->Prop
noncomputable def jH(l:List Env):List Addr:=l.filterMap (·.frame)
noncomputable abbrev Cx.fs(X:Cx):List Addr:=jH X.outer
def UH(sc:Scope)(x:Str):Prop:=sc.names.lookup x=some .local\/sc.names.lookup x=some .cell\/sc.names.lookup x=some .free
def DY(sc:Scope)(x:Str):Prop:=sc.names.lookup x=some .local\/sc.names.lookup x=some .cell
def D1(env:Env)(h:Heap)(m:Str->Option Value)(x:Str)(u:Value):Prop:=
 (env.kindOf x=some .local/\m x=some u)\/((env.kindOf x=some .cell\/env.kindOf x=some .free)/\∃c,env.cells.lookup x=some c/\h.IsCell c (some u))
structure Cx.Ok (X:Cx):Prop where
 mod:Mod X.K X.mg X.base
 kind:X.env.scope.kind=.function
 glob:X.env.globals=mainGlobals
 blt:X.env.builtins=builtinsNs
 above:X.s₀.heap.objs.size<=X.env.locals
 inj:∀x y c,X.env.cells.lookup x=some c->X.env.cells.lookup y=some c->x=y
 has:∀x,(X.env.kindOf x=some .cell\/X.env.kindOf x=some .free)->∃c,X.env.cells.lookup x=some c
 cab:∀x c,X.fn x=true->X.env.cells.lookup x=some c->X.s₀.heap.objs.size<=c
 hd:X.calm=true->X.A.handled=none
 frames:X.A.frames=some X.stack
 stk:X.stack=X.outer\/(X.stack=X.env::X.outer/\X.env.frame=some X.env.locals)
 exf:∀b∈X.ex,b≠X.env.locals/\∀x c,X.env.cells.lookup x=some c->c≠b
 bs:∀b o,X.base.get? b=some o->X.s₀.heap.get? b=some o/\X.H₀ b=none
 bsz:X.base.objs.size<=X.s₀.heap.objs.size
 noex:∀b o,X.base.get? b=some o->b ∉ X.ex
 exfs:∀b∈X.ex,b ∉ X.fs
 funs:X.s₀.heap.FunFrames X.base X.outer
 frf:∀b∈X.fs,X.H₀ b=none
structure Inv (X:Cx)(pins:List (Addr×Obj))(σ:List (Option V))(H:Hp)(s:Shared):Prop where
 ok:X.Ok
 os:s.os=X.s₀.os
 bare:AllBare s.gens
 base:Un X.fs X.ex X.H₀ H X.s₀.heap s.heap
 loc:∃m,s.heap.Ns X.env.locals m/\∀(i:Nat)(x:Str)(v:V),X.N[i]? =some x->σ[i]? =some (some v)->UH X.env.scope x->∃u,RelV v u/\D1 X.env s.heap m x u
 cell:∀x c,X.env.cells.lookup x=some c->∃v,s.heap.IsCell c v
 free:H X.env.locals=none
 freeC:∀x c,X.env.cells.lookup x=some c->H c=none
 pin:∀p∈X.pn++pins,s.heap.get? p.1=some p.2/\H p.1=none/\p.1≠X.env.locals/\p.1 ∉ X.fs/\∀v,p.2.data≠ .cell v
 hok:HOk X.prog X.w H s.heap
 len:σ.length=X.N.length
section
variable {X:Cx}{pins:List (Addr×Obj)}{σ:List (Option V)}{H H':Hp}{s:Shared}{h':Heap}
theorem Cx.Ok.nofr(ok:X.Ok){b:Addr}{o:Obj}(e:X.base.get? b=some o):b ∉ X.fs:=λhb=>by
 have:=(ok.funs.mem hb).1;rw[e] at this;cases this
theorem Inv.bs(I:Inv X pins σ H s):∀b o,X.base.get? b=some o->s.heap.get? b=some o/\H b=none:=λb o e=>
 ⟨I.base.keep b o (I.ok.bs b o e).1 (I.ok.bs b o e).2 (I.ok.nofr e) (I.ok.noex b o e),I.base.free b o (I.ok.bs b o e).1 (I.ok.bs b o e).2 (I.ok.noex b o e)⟩
theorem Inv.bk(I:Inv X pins σ H s):∀b o,X.base.get? b=some o->s.heap.get? b=some o:=λb o e=>(I.bs b o e).1
theorem Inv.mod(I:Inv X pins σ H s):Mod X.K X.mg X.base:=I.ok.mod
theorem Inv.kIn(I:Inv X pins σ H s):X.K.In s.heap:=I.ok.mod.kin.keeps I.bk
theorem Inv.fr(I:Inv X pins σ H s):∃m,Fr X.base X.env.locals s.heap m:=
 let⟨m,hn,_⟩:=I.loc
 ⟨m,hn,I.bk,Nat.le_trans I.ok.bsz I.ok.above⟩
theorem Inv.lt(I:Inv X pins σ H s):X.env.locals<s.heap.objs.size:=let⟨_,hn,_⟩:=I.loc;hn.lt
theorem Inv.sz(I:Inv X pins σ H s):X.s₀.heap.objs.size<=s.heap.objs.size:=Nat.le_trans I.ok.above (Nat.le_of_lt I.lt)
theorem Inv.nofs(I:Inv X pins σ H s){a:Addr}(h:s.heap.objs.size<=a):a ∉ X.fs:=λhb=>by
 obtain⟨_,o,ho,_⟩:=I.ok.funs.mem hb;exact absurd (Nat.lt_of_lt_of_le (Heap.lt_size ho) (Nat.le_trans I.sz h)) (Nat.lt_irrefl _)
theorem Inv.cne(I:Inv X pins σ H s):∀x c,X.env.cells.lookup x=some c->c≠X.env.locals:=λx c e z=>by
 obtain⟨v,o,ho,hd⟩:=I.cell x c e;obtain⟨m,⟨o',es,ep,ho',hd',_⟩,_⟩:=I.loc;rw[z,ho'] at ho;cases ho;rw[hd'] at hd;cases hd
theorem Inv.funs(I:Inv X pins σ H s):s.heap.FunFrames X.base X.outer:=by
 have all:∀(l:List Env),(∀b∈jH l,b∈X.fs)->X.s₀.heap.FunFrames X.base l->s.heap.FunFrames X.base l:=by
  intro l
  induction l with
  |nil=>intro _ _;trivial
  |cons env r ih=>
   intro hs hl;obtain⟨hk,⟨L,o,hf,hn,ho,hd⟩,hr⟩:=hl;have hL:L∈X.fs:=hs L (by unfold jH;rw[List.filterMap_cons,hf];exact Zl);obtain⟨sl,e⟩:=I.base.slot L o ho (I.ok.frf L hL) hL λz=>I.ok.exfs L z hL;exact⟨hk,⟨L,_,hf,hn,e,hd⟩,ih (λb hb=>hs b (by unfold jH;rw[List.filterMap_cons,hf];exact Zj _ hb)) hr⟩
 exact all X.outer (λ_ hb=>hb) I.ok.funs
theorem Inv.stack(I:Inv X pins σ H s):s.heap.FunFrames X.base X.stack:=by
 rcases I.ok.stk with e|⟨e,hf⟩
 ·rw[e];exact I.funs
 ·rw[e];obtain⟨m,hn,_⟩:=I.loc;refine .cons (by rw[I.ok.kind];decide) hf hn ?_ I.funs;exact Heap.get?_none_of_le (Nat.le_trans I.ok.bsz I.ok.above)
theorem Inv.stkSub(I:Inv X pins σ H s):∀b∈jH X.stack,b∈X.env.locals::X.fs:=λb hb=>by
 rcases I.ok.stk with e|⟨e,hf⟩
 ·rw[e] at hb;exact Zj _ hb
 ·rw[e] at hb;unfold jH at hb;rw[List.filterMap_cons,hf] at hb;exact hb
theorem Inv.stkFree(I:Inv X pins σ H s):∀b∈jH X.stack,H b=none:=λb hb=>by
 rcases List.mem_cons.mp (I.stkSub b hb) with e|hb
 ·rw[e];exact I.free
 ·obtain⟨_,o,ho,_⟩:=I.ok.funs.mem hb;exact I.base.free b o ho (I.ok.frf b hb) λz=>I.ok.exfs b z hb
theorem Inv.step{g':Array GenState}{t':Nat}{d':Drawn}{ch:List Addr}(I:Inv X pins σ H s)
 (hch:∀b∈ch,(b∈X.ex\/X.s₀.heap.objs.size<=b)/\b≠X.env.locals/\(∀x c,X.env.cells.lookup x=some c->c≠b)/\∀p∈X.pn++pins,p.1≠b)
 (keep:∀b o,b≠X.env.locals->b ∉ X.fs->b ∉ ch->s.heap.get? b=some o->H b=none->h'.get? b=some o)
 (slot:∀b o,b≠X.env.locals->b∈X.fs->b ∉ ch->s.heap.get? b=some o->H b=none->∃sl,h'.get? b=some {o with slots:=sl})(free:∀b o,b ∉ ch->s.heap.get? b=some o->H b=none->H' b=none)
 (there:∀b o,b ∉ ch->s.heap.get? b=some o->∃o',h'.get? b=some o')
 (tups:∀b xs,H b=some (.tup xs)->H' b=some (.tup xs))(frzs:∀b o u,H b=some (.frz o u)->H' b=some (.frz o u))(tbls:∀b ps,H b=some (.tbl ps)->∃more,H' b=some (.tbl (ps++more)))
 (ns:∀m,s.heap.Ns X.env.locals m->h'.Ns X.env.locals m)(hok:HOk X.prog X.w H' h')(hg:AllBare g'):
 Inv X pins σ H' {s with heap:=h',gens:=g',drawn:=d',toks:=t'}:=by
 have neL:∀b o,X.s₀.heap.get? b=some o->b≠X.env.locals:=λb o e=>Nat.ne_of_lt (Nat.lt_of_lt_of_le (Heap.lt_size e) I.ok.above)
 have neC:∀b o,X.s₀.heap.get? b=some o->b ∉ X.ex->b ∉ ch:=λb o e hx hb=>by
  rcases(hch b hb).1 with z|z
  ·exact hx z
  ·exact absurd (Nat.lt_of_lt_of_le (Heap.lt_size e) z) (Nat.lt_irrefl _)
 have cellK:∀x c,X.env.cells.lookup x=some c->∀v,s.heap.IsCell c v->h'.IsCell c v:=λx c e v ⟨o,ho,hd⟩=>by
  have nch:c ∉ ch:=λz=>(hch c z).2.2.1 x c e rfl
  by_cases hc:c∈X.fs
  ·obtain⟨sl,q⟩:=slot c o (I.cne x c e) hc nch ho (I.freeC x c e);exact⟨_,q,hd⟩
  ·exact⟨o,keep c o (I.cne x c e) hc nch ho (I.freeC x c e),hd⟩
 refine⟨I.ok,I.os,hg,⟨λb o e n hb hx=>?_,λb o e n hb hx=>?_,λb o e n hx=>?_,λb o e hx=>?_,λb xs e=>tups b xs (I.base.tups b xs e),λb o xs e=>frzs b o xs (I.base.frzs b o xs e),λb ps e=>?_⟩,?_,λx c e=>?_,?_,λx c e=>?_,λp hp=>?_,hok,I.len⟩
 ·exact keep b o (neL b o e) hb (neC b o e hx) (I.base.keep b o e n hb hx) (I.base.free b o e n hx)
 ·obtain⟨sl,e1⟩:=I.base.slot b o e n hb hx;obtain⟨sl',e2⟩:=slot b _ (neL b o e) hb (neC b o e hx) e1 (I.base.free b o e n hx);exact⟨sl',e2⟩
 ·obtain⟨o',e1⟩:=I.base.there b o e hx;exact free b o' (neC b o e hx) e1 (I.base.free b o e n hx)
 ·obtain⟨o',e1⟩:=I.base.there b o e hx;exact there b o' (neC b o e hx) e1
 ·obtain⟨m1,e1⟩:=I.base.tbls b ps e;obtain⟨m2,e2⟩:=tbls b _ e1;exact⟨m1++m2,by rw[e2,Array.append_assoc]⟩
 ·obtain⟨m,hn,hl⟩:=I.loc;refine⟨m,ns m hn,λi x v e1 e2 e3=>?_⟩;obtain⟨u,r,l⟩:=hl i x v e1 e2 e3;refine⟨u,r,?_⟩;rcases l with l|⟨k,c,e,z⟩
  ·exact .inl l
  ·exact .inr ⟨k,c,e,cellK x c e _ z⟩
 ·obtain⟨v,z⟩:=I.cell x c e;exact⟨v,cellK x c e v z⟩
 ·obtain⟨m,⟨o,_,_,ho,_⟩,_⟩:=I.loc;exact free _ o (λz=>(hch _ z).2.1 rfl) ho I.free
 ·obtain⟨v,o,ho,hd⟩:=I.cell x c e;exact free c o (λz=>(hch c z).2.2.1 x c e rfl) ho (I.freeC x c e)
 ·obtain⟨e,n,ne,nf,d⟩:=I.pin p hp;have nch:p.1 ∉ ch:=λz=>(hch p.1 z).2.2.2 p hp rfl;exact⟨keep p.1 p.2 ne nf nch e n,free p.1 p.2 nch e n,ne,nf,d⟩
theorem Inv.un{t':Nat}(I:Inv X pins σ H s)(u:Un X.fs [] H H' s.heap h')(hok:HOk X.prog X.w H' h'):Inv X pins σ H' {s with heap:=h',toks:=t'}:=by
 obtain⟨m,⟨o,es,ep,ho,r⟩,_⟩:=id I.loc;obtain⟨sl,hL⟩:=u.any ho I.free (by simp)
 exact I.step (g':=s.gens) (d':=s.drawn) (ch:= []) (λ_ z=>nomatch z) (λb o _ hb _ e n=>u.keep b o e n hb (by simp)) (λb o _ hb _ e n=>u.slot b o e n hb (by simp)) (λb o _ e n=>u.free b o e n (by simp)) (λb o _ e=>u.there b o e (by simp)) u.tups u.frzs u.tbls (λm' hm=>by
  obtain⟨o',es',ep',ho',r'⟩:=hm;rw[ho] at ho';cases ho';exact⟨_,es',ep',hL,r'⟩) hok I.bare
theorem Inv.call{g':Array GenState}{t':Nat}{d':Drawn}{ch:List Addr}(I:Inv X pins σ H s)(u:Un (jH X.stack) ch H H' s.heap h')(hok:HOk X.prog X.w H' h')(hg:AllBare g')
 (hch:∀b∈ch,(b∈X.ex\/X.s₀.heap.objs.size<=b)/\b≠X.env.locals/\(∀x c,X.env.cells.lookup x=some c->c≠b)/\∀p∈X.pn++pins,p.1≠b):
 Inv X pins σ H' {s with heap:=h',gens:=g',drawn:=d',toks:=t'}:=by
 obtain⟨m,⟨o,es,ep,ho,r⟩,_⟩:=id I.loc;obtain⟨sl,hL⟩:=u.any ho I.free λz=>(hch _ z).2.1 rfl
 exact I.step (ch:=ch) hch (λb o hL hb hc e n=>u.keep b o e n (λz=>(List.mem_cons.mp (I.stkSub b z)).elim hL hb) hc) (λb o _ _ hc e n=>u.any e n hc) (λb o hc e n=>u.free b o e n hc) (λb o hc e=>u.there b o e hc) u.tups u.frzs u.tbls (λm' hm=>by
  obtain⟨o',es',ep',ho',r'⟩:=hm;rw[ho] at ho';cases ho';exact⟨_,es',ep',hL,r'⟩) hok hg
theorem Inv.turned{t':Nat}{it:Addr}(I:Inv X pins σ H s)(k:∀b o,b≠it->s.heap.get? b=some o->h'.get? b=some o)(hn:H it=none)(hL:it≠X.env.locals)
 (h1:it∈X.ex\/X.s₀.heap.objs.size<=it)(h2:∀x c,X.env.cells.lookup x=some c->c≠it)(h3:∀p∈X.pn++pins,p.1≠it):Inv X pins σ H {s with heap:=h',toks:=t'}:=by
 have nit:∀b u,H b=some u->b≠it:=λb u e z=>by rw[z,hn] at e;cases e
 refine I.step (g':=s.gens) (d':=s.drawn) (ch:= [it]) (λb hb=>?_) (λb o _ _ hc e _=>k b o (λz=>hc (by simp[z])) e) (λb o _ _ hc e _=>⟨o.slots,k b o (λz=>hc (by simp[z])) e⟩) (λ_ _ _ _ n=>n)
  (λb o hc e=>⟨o,k b o (λz=>hc (by simp[z])) e⟩) (λ_ _ e=>e) (λ_ _ _ e=>e) (λb ps e=>⟨#[],by rw[e];simp⟩) (λm hm=>?_) (λb u e=>?_) I.bare
 ·have e:b=it:=by simpa using hb
  subst e;exact⟨h1,hL,h2,h3⟩
 ·obtain⟨o,es,ep,ho,r⟩:=hm;exact⟨o,es,ep,k _ o (Ne.symm hL) ho,r⟩
 ·refine(I.hok b u e).stay (λc v hc q=>k c v ?_ q) (λ_ q=>q) λ_ _ q=>q;rcases hc with z|z
  ·rw[z];exact nit b u e
  ·exact nit c _ z
theorem Inv.tok(I:Inv X pins σ H s)(t:Nat):Inv X pins σ H {s with toks:=t}:=I.un (h':=s.heap) (t':=t) Un.refl I.hok
theorem Inv.kept{t':Nat}(I:Inv X pins σ H s)(k:∀b u,s.heap.get? b=some u->h'.get? b=some u):Inv X pins σ H {s with heap:=h',toks:=t'}:=I.un (Un.kept k) (I.hok.kept k)
theorem Inv.laid{a:Addr}{o:HO}{t':Nat}(I:Inv X pins σ H s)(k:∀b u,s.heap.get? b=some u->h'.get? b=some u)(hp:s.heap.objs.size<=a)(new:ObjOk X.prog X.w (bI H a o) h' a o):
 Inv X pins σ (bI H a o) {s with heap:=h',toks:=t'}:=I.un (Un.laid k hp (I.hok.fresh hp)) (I.hok.laid k hp new)
theorem Inv.write{x e:Addr}{o:HO}{t':Nat}(I:Inv X pins σ H s)(mu:UL (H x))(he:e=x\/H e=some (.own x))(k:∀b u,b≠e->s.heap.get? b=some u->h'.get? b=some u)(heo:∃u,h'.get? e=some u)
 (new:ObjOk X.prog X.w (bI H x o) h' x o):Inv X pins σ (bI H x o) {s with heap:=h',toks:=t'}:=I.un (Un.write mu he k heo) (I.hok.write mu he k heo new)
theorem Inv.pins_of{pins':List (Addr×Obj)}(I:Inv X pins σ H s)(h:∀p∈pins',s.heap.get? p.1=some p.2/\H p.1=none/\p.1≠X.env.locals/\p.1 ∉ X.fs/\∀v,p.2.data≠ .cell v):Inv X pins' σ H s:=
 ⟨I.ok,I.os,I.bare,I.base,I.loc,I.cell,I.free,I.freeC,λp hp=>(List.mem_append.mp hp).elim (λz=>I.pin p (List.mem_append_left _ z)) (h p),I.hok,I.len⟩
theorem mP{N:List Str}(hN:N.Nodup){i j:Nat}{x:Str}(a:N[i]? =some x)(b:N[j]? =some x):i=j:=by
 obtain⟨h1,e1⟩:=Ze.mp a;obtain⟨h2,e2⟩:=Ze.mp b;exact(List.getElem_inj hN).mp (e1.trans e2.symm)
theorem kG{M:Model}{A:Around}{E:Value->Shared->Prop}{i:Nat}{x:Str}{v:V}{u:Value}{Q:Unit->Shared->Prop}(I:Inv X pins σ H s)(hN:X.N.Nodup)(hi:X.N[i]? =some x)(hx:DY X.env.scope x)(r:RelV v u)
 (h:∀s',Inv X pins (σ.set i (some v)) H s'->(∃a,Heap.SameBut a s.heap s'.heap/\(a=X.env.locals\/X.env.cells.lookup x=some a))->Q () s')(hf:X.fn x=true\/X.env.scope.names.lookup x=some .local:=by first |exact .inl rfl|exact .inr rfl|assumption):wpAny M A (storeName X.env x u) Q E s:=by
 obtain⟨m,hn,hl⟩:=id I.loc;have hcls:(X.env.scope.kind== .class||(X.env.scope.kind== .module&&X.env.locals != X.env.globals))=false:=by rw[I.ok.kind];rfl
 have hiσ:i<σ.length:=by rw[I.len];exact(Ze.mp hi).1
 have cne:=I.cne
 have tracked:∀{a:Addr}{h':Heap},(∃o,s.heap.get? a=some o/\H a=none)->Heap.SameBut a s.heap h'->HOk X.prog X.w H h':=λ{a h'} ha hs b ob e=>by
  obtain⟨_,_,hfree⟩:=ha;refine(I.hok b ob e).stay (λc w' hc q=>(hs.2 c ?_).trans q) (λ_ q=>q) λ_ _ q=>q;rintro rfl;rcases hc with rfl|hc
  ·rw[hfree] at e;cases e
  ·rw[hfree] at hc;cases hc
 rcases hx with hk|hk
 ·refine wpAny_storeName_local hk hn (λh' hn' hs=>?_) hcls;obtain⟨oL,_,_,hoL,_⟩:=id hn;refine h _ ⟨I.ok,I.os,I.bare,⟨λb o e n hb hx=>?_,λb o e n hb hx=>?_,I.base.free,λb o e hx=>?_,I.base.tups,I.base.frzs,I.base.tbls⟩,⟨_,hn',λj y v' e1 e2 e3=>?_⟩,λy c e=>?_,I.free,I.freeC,λp hp=>?_,tracked ⟨oL,hoL,I.free⟩ hs,by simpa using I.len⟩ ⟨_,hs,.inl rfl⟩
  ·exact(hs.2 b (Nat.ne_of_lt (Nat.lt_of_lt_of_le (Heap.lt_size e) I.ok.above))).trans (I.base.keep b o e n hb hx)
  ·obtain⟨sl,e1⟩:=I.base.slot b o e n hb hx;exact⟨sl,(hs.2 b (Nat.ne_of_lt (Nat.lt_of_lt_of_le (Heap.lt_size e) I.ok.above))).trans e1⟩
  ·obtain⟨o',e1⟩:=I.base.there b o e hx;exact⟨o',(hs.2 b (Nat.ne_of_lt (Nat.lt_of_lt_of_le (Heap.lt_size e) I.ok.above))).trans e1⟩
  ·by_cases hj:j=i
   ·subst hj;rw[hi] at e1;cases e1;rw[List.getElem?_set_self hiσ] at e2;cases e2;exact⟨u,r,.inl ⟨hk,by simp⟩⟩
   ·rw[List.getElem?_set_ne (Ne.symm hj)] at e2;obtain⟨u',r',q⟩:=hl j y v' e1 e2 e3;refine⟨u',r',?_⟩;rcases q with ⟨k,e⟩|⟨k,c,e,z⟩
    ·refine .inl ⟨k,?_⟩;have:y≠x:=λe=>hj (mP hN e1 (e ▸ hi));simp[this,e]
    ·exact .inr ⟨k,c,e,z.sameBut hs (cne y c e)⟩
  ·obtain⟨w',z⟩:=I.cell y c e;exact⟨w',z.sameBut hs (cne y c e)⟩
  ·obtain⟨e,n,ne,nf,d⟩:=I.pin p hp;exact⟨(hs.2 p.1 ne).trans e,n,ne,nf,d⟩
 ·have hfn:X.fn x=true:=by
   rcases hf with z|z
   ·exact z
   ·rw[z] at hk;cases hk
  obtain⟨c,hc⟩:=I.ok.has x (.inl hk);obtain⟨w',z⟩:=I.cell x c hc;refine wpAny_storeName_cell I.ok.kind hk hc z (λh' hc' hs=>?_);obtain⟨oc,hoc,hocd⟩:=id z;refine h {s with heap:=h'} ⟨I.ok,I.os,I.bare,⟨λb o e n hb hx=>?_,λb o e n hb hx=>?_,I.base.free,λb o e hx=>?_,I.base.tups,I.base.frzs,I.base.tbls⟩,⟨m,hn.sameBut hs (Ne.symm (cne x c hc)),λj y v' e1 e2 e3=>?_⟩,λy c' e=>?_,I.free,I.freeC,λp hp=>?_,tracked ⟨oc,hoc,I.freeC x c hc⟩ hs,by simpa using I.len⟩ ⟨c,hs,.inr hc⟩
  ·exact(hs.2 b (Nat.ne_of_lt (Nat.lt_of_lt_of_le (Heap.lt_size e) (I.ok.cab x c hfn hc)))).trans (I.base.keep b o e n hb hx)
  ·obtain⟨sl,e1⟩:=I.base.slot b o e n hb hx;exact⟨sl,(hs.2 b (Nat.ne_of_lt (Nat.lt_of_lt_of_le (Heap.lt_size e) (I.ok.cab x c hfn hc)))).trans e1⟩
  ·obtain⟨o',e1⟩:=I.base.there b o e hx;exact⟨o',(hs.2 b (Nat.ne_of_lt (Nat.lt_of_lt_of_le (Heap.lt_size e) (I.ok.cab x c hfn hc)))).trans e1⟩
  ·by_cases hj:j=i
   ·subst hj;rw[hi] at e1;cases e1;rw[List.getElem?_set_self hiσ] at e2;cases e2;exact⟨u,r,.inr ⟨.inl hk,c,hc,hc'⟩⟩
   ·rw[List.getElem?_set_ne (Ne.symm hj)] at e2;obtain⟨u',r',q⟩:=hl j y v' e1 e2 e3;refine⟨u',r',?_⟩;rcases q with q|⟨k,c',e,z'⟩
    ·exact .inl q
    ·refine .inr ⟨k,c',e,z'.sameBut hs ?_⟩;rintro rfl;exact hj (mP hN e1 (I.ok.inj _ _ _ e hc ▸ hi))
  ·by_cases hcc:c'=c
   ·subst hcc;exact⟨_,hc'⟩
   ·obtain⟨w2,z2⟩:=I.cell y c' e;exact⟨w2,z2.sameBut hs hcc⟩
  ·obtain⟨e,n,ne,nf,d⟩:=I.pin p hp;refine⟨(hs.2 p.1 ?_).trans e,n,ne,nf,d⟩;intro q;rw[q,hoc] at e;have q':oc=p.2:=Zg e;exact d w' (by rw[<- q'];exact hocd)
theorem mF{M:Model}{A:Around}{E:Value->Shared->Prop}{i:Nat}{x:Str}{v:V}{u:Value}{Q:Unit->Shared->Prop}(I:Inv X pins σ H s)(hN:X.N.Nodup)(hi:X.N[i]? =some x)(hx:DY X.env.scope x)(r:RelV v u)
 (h:∀s',Inv X pins (σ.set i (some v)) H s'->Q () s')(hf:X.fn x=true\/X.env.scope.names.lookup x=some .local:=by first |exact .inl rfl|exact .inr rfl|assumption):wpAny M A (storeName X.env x u) Q E s:=
 kG I hN hi hx r (λs' I' _=>h s' I') hf
theorem Inv.call'{s':Shared}{ch:List Addr}(I:Inv X pins σ H s)(ho:s'.os=s.os)(u:Un (jH X.stack) ch H H' s.heap s'.heap)(hok:HOk X.prog X.w H' s'.heap)(hg:AllBare s'.gens)
 (hch:∀b∈ch,(b∈X.ex\/X.s₀.heap.objs.size<=b)/\b≠X.env.locals/\(∀x c,X.env.cells.lookup x=some c->c≠b)/\∀p∈X.pn++pins,p.1≠b):Inv X pins σ H' s':=by
 obtain⟨h',g',d',t',o'⟩:=s';have e:o'=s.os:=ho;subst e;exact I.call (g':=g') (t':=t') (d':=d') u hok hg hch
end
noncomputable abbrev XK:=Value->Option Addr->Hp->Prop
noncomputable abbrev St:=List (Option V)
noncomputable abbrev VK:=V->Hp->Prop
noncomputable abbrev TE:=St->Hp->VK->Prop
noncomputable abbrev TT:=St->Hp->(Bool->Hp->Prop)->Prop
noncomputable abbrev TA:=St->Hp->(List V->Hp->Prop)->Prop
structure Ends where
 nx:St->Hp->Prop
 rt:VK
 bk:St->Hp->Prop:=λ_ _=>False
 ct:St->Hp->Prop:=λ_ _=>False
noncomputable abbrev TS:=Ends->St->Hp->Prop
def EP(X:Cx)(pins:List (Addr×Obj))(σ:St)(Q:VK)(u:Value)(s':Shared):Prop:=∃v H',Inv X pins σ H' s'/\RelV v u/\Q v H'
def TP(X:Cx)(pins:List (Addr×Obj))(σ:St)(Q:Bool->Hp->Prop)(b:Bool)(s':Shared):Prop:=∃H',Inv X pins σ H' s'/\Q b H'
def AP(X:Cx)(pins:List (Addr×Obj))(σ:St)(Q:List V->Hp->Prop)(us:List Value)(s':Shared):Prop:=∃vs H',Inv X pins σ H' s'/\Vals vs us/\Q vs H'
def SP(X:Cx)(pins:List (Addr×Obj))(D:Ends)(f:Flow)(s':Shared):Prop:=
 match f with
 |.next=>∃σ' H',Inv X pins σ' H' s'/\D.nx σ' H'
 |.brk=>∃σ' H',Inv X pins σ' H' s'/\D.bk σ' H'
 |.cont=>∃σ' H',Inv X pins σ' H' s'/\D.ct σ' H'
 |.ret u=>∃v σ' H',Inv X pins σ' H' s'/\RelV v u/\D.rt v H'
def PE(X:Cx)(e:Expr)(t:TE):Prop:=
 ∀(pins:List (Addr×Obj))(s:Shared)(σ:St)(H:Hp)(Q:VK),Inv X pins σ H s->t σ H Q->wpAny (model X.prog X.w) X.A (eval e X.env) (EP X pins σ Q) X.xe s
def PT(X:Cx)(e:Expr)(t:TT):Prop:=
 ∀(pins:List (Addr×Obj))(s:Shared)(σ:St)(H:Hp)(Q:Bool->Hp->Prop),Inv X pins σ H s->t σ H Q->wpAny (model X.prog X.w) X.A (isTrue e X.env (eval e X.env)) (TP X pins σ Q) X.xe s
def PW(X:Cx)(e:Expr)(t:TT):Prop:=
 ∀(whole:Sem Value)(pins:List (Addr×Obj))(s:Shared)(σ:St)(H:Hp)(Q:Bool->Hp->Prop),Inv X pins σ H s->t σ H Q->wpAny (model X.prog X.w) X.A (isTrue e X.env whole) (TP X pins σ Q) X.xe s
theorem PW.pt{X:Cx}{e:Expr}{t:TT}(h:PW X e t):PT X e t:=h _
def PA(X:Cx)(es:List Expr)(t:TA):Prop:=
 ∀(pos:Pos)(pins:List (Addr×Obj))(s:Shared)(σ:St)(H:Hp)(Q:List V->Hp->Prop),Inv X pins σ H s->t σ H Q->wpAny (model X.prog X.w) X.A (spliced (backTo pos (starEach es X.env))) (AP X pins σ Q) X.xe s
def PS(X:Cx)(st:Stmt)(t:TS):Prop:=
 ∀(pins:List (Addr×Obj))(s:Shared)(σ:St)(H:Hp)(D:Ends),Inv X pins σ H s->t D σ H->wpAny (model X.prog X.w) X.A (exec st X.env) (SP X pins D) X.xe s
def PSs(X:Cx)(st:List Stmt)(t:TS):Prop:=
 ∀(pins:List (Addr×Obj))(s:Shared)(σ:St)(H:Hp)(D:Ends),Inv X pins σ H s->t D σ H->wpAny (model X.prog X.w) X.A (execs st X.env) (SP X pins D) X.xe s
theorem bM{α:Type}{t:Sem α}{Q Q':α->Shared->Prop}{M:Model}{A:Around}{E:Value->Shared->Prop}{s:Shared}(h:wpAny M A t Q E s)(hQ:∀a s,Q a s->Q' a s):wpAny M A t Q' E s:=wpAny_mono h hQ λ_ _ x=>x
end L2
namespace L2
open PySem PySem.Spec PyProof.Rows
section
variable {X:Cx}
theorem bin{a b:Expr}{ta tb:TE}(ha:PE X a ta)(hb:PE X b tb){pins:List (Addr×Obj)}{s:Shared}{σ:St}{H:Hp}{R:V->V->Hp->Prop}(I:Inv X pins σ H s)(h:ta σ H λx H1=>tb σ H1 λy H2=>R x y H2)
 {α:Type}{Q:α->Shared->Prop}{f:Value->Value->Sem α}
 (hf:∀v u s2 x y H2,Inv X pins σ H2 s2->RelV x v->RelV y u->R x y H2->wpAny (model X.prog X.w) X.A (f v u) Q X.xe s2):
 wpAny (model X.prog X.w) X.A (eval a X.env) (λv s₁=>wpAny (model X.prog X.w) X.A (eval b X.env) (λu s₂=>wpAny (model X.prog X.w) X.A (f v u) Q X.xe s₂) X.xe s₁) X.xe s:=by
 refine bM (ha pins s σ H _ I h) λv s1 ⟨x,H1,I1,r1,q1⟩=>?_;refine bM (hb pins s1 σ H1 _ I1 q1) λu s2 ⟨y,H2,I2,r2,q2⟩=>?_;exact hf v u s2 x y H2 I2 r1 r2 q2
def zL(i:Nat):TE:=λσ H Q=>∃v,σ[i]? =some (some v)/\Q v H
def tC(v:V):TE:=λ_ H Q=>Q v H
theorem AN{i:Nat}{x:Str}{pos:Pos}(hN:X.N[i]? =some x)(hv:UH X.env.scope x)(hd:(x==("__debug__":Str))=false:=by decide)(hcd:(x==("__classdict__":Str))=false:=by decide):PE X (.Name x pos) (zL i):=by
 intro pins s σ H Q I h;obtain⟨v,e,h⟩:=h;obtain⟨m,hn,hl⟩:=I.loc;obtain⟨u,r,l⟩:=hl i x v hN e hv;have fin:EP X pins σ Q u s:=⟨v,H,I,r,h⟩;rcases l with ⟨hk,hm⟩|⟨hk,c,hc,hcell⟩
 ·exact wpAny_Name (wpAny_loadName_local I.ok.kind hk hn hm fin) hd
 ·rcases hk with hk|hk
  ·exact wpAny_Name (wpAny_loadName_cell I.ok.kind hk hc hcell fin) hd
  ·exact wpAny_Name (wpAny_loadName_free I.ok.kind hk hc hcell fin hcd) hd
theorem MB{i j pos}:PE X (.Constant (.int i) j pos) (tC (.int i)):=λ_ _ _ H _ I h=>wpAny_Constant_int ⟨.int i,H,I.tok _,⟨_,rfl⟩,h⟩
theorem JA{b j pos}:PE X (.Constant (.bool b) j pos) (tC (.bl b)):=λ_ _ _ H _ I h=>Constant_bool ⟨.bl b,H,I,rfl,h⟩
theorem LZ{j pos}:PE X (.Constant .none j pos) (tC .non):=λ_ _ _ H _ I h=>Constant_none ⟨.non,H,I,rfl,h⟩
theorem pV{x j pos}:PE X (.Constant (.str x) j pos) (tC (.str x)):=λ_ _ _ H _ I h=>Calls.Constant_str ⟨.str x,H,I.tok _,⟨_,rfl⟩,h⟩
def Gl(X:Cx)(x:Str):Prop:=X.env.kindOf x=some .globalImplicit
theorem dX{E:Value->Shared->Prop}{pins:List (Addr×Obj)}{s:Shared}{σ:St}{H:Hp}{x:Str}{u:Value}{pos:Pos}{Q:Value->Shared->Prop}(I:Inv X pins σ H s)(hg:Gl X x)(hm:X.mg x=some u)(h:Q u s)
 (hd:(x==("__debug__":Str))=false:=by decide):wpAny (model X.prog X.w) X.A (eval (.Name x pos) X.env) Q E s:=
 Calls.Name_function_global I.ok.kind hg (Calls.loadGlobal_global (by rw[I.ok.glob];exact I.mod.glob.keeps I.bk) hm h) hd
theorem pY{E:Value->Shared->Prop}{pins:List (Addr×Obj)}{s:Shared}{σ:St}{H:Hp}{x:Str}{u:Value}{pos:Pos}{Q:Value->Shared->Prop}(I:Inv X pins σ H s)(hg:Gl X x)(hm:X.mg x=none)(hv:bootBuiltins x=some u)(h:Q u s)
 (hn:x≠"__name__":=by decide)(hd:(x==("__debug__":Str))=false:=by decide):wpAny (model X.prog X.w) X.A (eval (.Name x pos) X.env) Q E s:=by
 obtain⟨mb,h1,h2⟩:=I.mod.blt;exact Calls.Name_function_global I.ok.kind hg (Calls.loadGlobal_builtin (by rw[I.ok.glob];exact I.mod.glob.keeps I.bk) hm (by rw[I.ok.blt];exact h1.keeps I.bk) ((h2 x hn).trans hv) h) hd
theorem vP{x:Str}{v:V}{u:Value}{pos:Pos}(hg:Gl X x)(hm:X.mg x=some u)(r:RelV v u)(hd:(x==("__debug__":Str))=false:=by decide):PE X (.Name x pos) (tC v):=
 λ_ _ _ H _ I h=>dX I hg hm ⟨v,H,I,r,h⟩ hd
theorem vQ{x:Str}{v:V}{u:Value}{pos:Pos}(hg:Gl X x)(hm:X.mg x=none)(hv:bootBuiltins x=some u)(r:RelV v u)(hn:x≠"__name__":=by decide)(hd:(x==("__debug__":Str))=false:=by decide):PE X (.Name x pos) (tC v):=
 λ_ _ _ H _ I h=>pY I hg hm hv ⟨v,H,I,r,h⟩ hn hd
variable {a b:Expr}{ta tb:TE}{pos:Pos}
variable {tA tB':TT}{rest:List Expr}
def WF(t u:TT):TT:=λσ H Q=>t σ H λc H1=>if c=true then u σ H1 Q else Q false H1
def tOr(t u:TT):TT:=λσ H Q=>t σ H λc H1=>if c=true then Q true H1 else u σ H1 Q
def VZ(t:TT):TT:=λσ H Q=>t σ H λc H1=>Q (!c) H1
theorem vK(ha:PT X a tA):PW X (.BoolOp .And [a] pos) tA:=by
 intro wh pins s σ H Q I h;refine isTrue_and (bM (ha pins s σ H Q I h) λc s1 e=>?_);cases c with
 |true=>exact isTrue_and_nil e
 |false=>exact e
theorem LN(ha:PT X a tA):PW X (.BoolOp .Or [a] pos) tA:=by
 intro wh pins s σ H Q I h;refine isTrue_or (bM (ha pins s σ H Q I h) λc s1 e=>?_);cases c with
 |false=>exact isTrue_or_nil e
 |true=>exact e
theorem zZ(ha:PT X a tA)(hb:PW X (.BoolOp .And (b::rest) pos) tB'):PW X (.BoolOp .And (a::b::rest) pos) (WF tA tB'):=by
 intro wh pins s σ H Q I h;refine isTrue_and (bM (ha pins s σ H _ I h) λc s1 ⟨H1,I1,q1⟩=>?_);cases c with
 |true=>exact hb wh pins s1 σ H1 Q I1 q1
 |false=>exact⟨H1,I1,q1⟩
theorem QO(ha:PT X a tA)(hb:PW X (.BoolOp .Or (b::rest) pos) tB'):PW X (.BoolOp .Or (a::b::rest) pos) (tOr tA tB'):=by
 intro wh pins s σ H Q I h;refine isTrue_or (bM (ha pins s σ H _ I h) λc s1 ⟨H1,I1,q1⟩=>?_);cases c with
 |true=>exact⟨H1,I1,q1⟩
 |false=>exact hb wh pins s1 σ H1 Q I1 q1
theorem AB(ha:PT X a tA):PT X (.UnaryOp .Not a pos) (VZ tA):=by
 intro pins s σ H Q I h;exact isTrue_not (ha pins s σ H (λc H1=>Q (!c) H1) I h)
theorem tK{op}{t:TE}(h:PE X a t):PE X (.BoolOp op [a] pos) t:=λpins s σ H Q I hw=>BoolOp_one (h pins s σ H Q I hw)
end
end L2
namespace L2
open PySem PySem.Spec PyProof.Rows
def SqL(K:W.Frag)(H:Hp)(a:Addr)(xs:List V):Prop:=
 Rd H a (.lst xs)\/
  ∃(o:Obj)(its:Array Value)(n:Nat),K.lookup a=some o/\o.cls=.type "list"/\o.dict=none/\o.data=.seq its n/\its.size<=sizeLine/\Vals xs its.toList
def SqT(K:W.Frag)(H:Hp)(a:Addr)(xs:List V):Prop:=
 Rd H a (.tup xs)\/
  ∃(o:Obj)(its:Array Value)(n:Nat),K.lookup a=some o/\o.cls=.type "tuple"/\o.data=.seq its n/\its.size<=sizeLine/\Vals xs its.toList
noncomputable def A9:Value->Option V
 |.none=>some .non
 |.bool b=>some (.bl b)
 |.int i _=>some (.int i)
 |.str x _=>some (.str x)
 |.bytes b _=>some (.byt b)
 |.float b _=>some (.flt b)
 |.ref a=>some (.ref a)
 |.type n=>some (.ty n)
 |_=>none
theorem RelV.abs{x:V}{u:Value}(r:RelV x u):A9 u=some x:=by
 cases x with
 |non=>cases r;rfl
 |bl _=>cases r;rfl
 |int _=>obtain⟨t,rfl⟩:=r;rfl
 |str _=>obtain⟨t,rfl⟩:=r;rfl
 |byt _=>obtain⟨t,rfl⟩:=r;rfl
 |flt _=>obtain⟨t,rfl⟩:=r;rfl
 |ref _=>cases r;rfl
 |ty _=>cases r;rfl
theorem RelV.inj{x y:V}{u:Value}(r:RelV x u)(q:RelV y u):x=y:=Zg (r.abs.symm.trans q.abs)
theorem Vals.inj:∀{xs ys:List V}{us:List Value},Vals xs us->Vals ys us->xs=ys
 |_,_,_,.nil,.nil=>rfl
 |_,_,_,.cons r t,.cons r' t'=>by rw[r.inj r',Vals.inj t t']
section
variable {X:Cx}{pins:List (Addr×Obj)}{σ:St}{H:Hp}{s:Shared}{a:Addr}{xs ys:List V}
theorem SqL.of{K:W.Frag}(h:H a=some (.lst xs)):SqL K H a xs:=.inl (.inl h)
theorem SqT.of{K:W.Frag}(h:H a=some (.tup xs)):SqT K H a xs:=.inl (.inl h)
theorem Inv.list(I:Inv X pins σ H s)(h:SqL X.K H a xs):∃its:List Value,Vals xs its/\PlainL s.heap a its.toArray/\xs.length<=sizeLine:=by
 rcases h with h|⟨o,its,n,hk,hc,hd,hs,hz,r⟩
 ·obtain⟨z,its,n,r,e⟩:=h.ok I.hok;exact⟨its,r,⟨_,n,e,rfl,rfl,rfl⟩,z⟩
 ·refine⟨its.toList,r,⟨o,n,I.kIn a o hk,hc,hd,by simpa using hs⟩,?_⟩;have e:=r.length;simp only[Array.length_toList] at e;omega
theorem Inv.tuple(I:Inv X pins σ H s)(h:SqT X.K H a xs):∃its:List Value,Vals xs its/\IsTup s.heap a its.toArray/\xs.length<=sizeLine:=by
 rcases h with h|⟨o,its,n,hk,hc,hs,hz,r⟩
 ·obtain⟨z,its,r,p⟩:=h.ok I.hok;exact⟨its,r,p,z⟩
 ·refine⟨its.toList,r,⟨o,I.kIn a o hk,hc,n,by simpa using hs⟩,?_⟩;have e:=r.length;simp only[Array.length_toList] at e;omega
theorem Inv.list_inj(I:Inv X pins σ H s)(h:SqL X.K H a xs)(h':SqL X.K H a ys):xs=ys:=by
 obtain⟨its,r,⟨o,n,e,_,_,d⟩,_⟩:=I.list h;obtain⟨its',r',⟨o',n',e',_,_,d'⟩,_⟩:=I.list h';rw[e] at e';cases e';rw[d] at d';injection d' with d1 _;have:its=its':=by simpa using congrArg Array.toList d1
 subst this;exact r.inj r'
theorem Inv.tuple_inj(I:Inv X pins σ H s)(h:SqT X.K H a xs)(h':SqT X.K H a ys):xs=ys:=by
 obtain⟨its,r,⟨o,e,_,n,d⟩,_⟩:=I.tuple h;obtain⟨its',r',⟨o',e',_,n',d'⟩,_⟩:=I.tuple h';rw[e] at e';cases e';rw[d] at d';injection d' with d1 _;have:its=its':=by simpa using congrArg Array.toList d1
 subst this;exact r.inj r'
end
noncomputable abbrev Cx.wish(X:Cx)(E:Value->Shared->Prop):Cx:={X with xe:=E}
noncomputable abbrev Cx.nox(X:Cx):Cx:=X.wish λ_ _=>False
section
variable {X:Cx}{pins:List (Addr×Obj)}{σ:St}{H:Hp}{s:Shared}{E:Value->Shared->Prop}
end
section
variable {X:Cx}{st:Stmt}{rest:List Stmt}{t u:TS}{e:Expr}{te:TE}{pos:Pos}
def QB:TS:=λD σ H=>D.nx σ H
def VW(t u:TS):TS:=λD σ H=>t {D with nx:=u D} σ H
theorem fS:PSs X [] QB:=λ_ _ σ H _ I h=>wpAny_execs_nil ⟨σ,H,I,h⟩
theorem jQ(h1:PS X st t)(h2:PSs X rest u):PSs X (st::rest) (VW t u):=by
 intro pins s σ H D I h;refine wpAny_execs_cons (bM (h1 pins s σ H {D with nx:=u D} I h) λf s1 q=>?_);cases f with
 |next=>
  obtain⟨σ',H',I',q⟩:=q;exact h2 pins s1 σ' H' D I' q
 |ret v=>exact q
 |brk=>exact q
 |cont=>exact q
theorem Inv.quiet{pins:List (Addr×Obj)}{σ:St}{H:Hp}{s:Shared}(I:Inv X pins σ H s):interactive X.env=false:=by simp[interactive,I.ok.kind]
def QC(te:TE):TS:=λD σ H=>te σ H λ_ H1=>D.nx σ H1
theorem vL(he:PE X e te)(hs:swapsWith e none pos.line X.env=pure false:=by rfl):PS X (.Expr e pos) (QC te):=by
 intro pins s σ H D I h;exact wpAny_Expr_any (bM (he pins s σ H _ I h) λv s1 ⟨x,H1,I1,r1,q1⟩=>⟨σ,H1,I1,q1⟩) I.quiet hs
def VX(te:TE):TS:=λD σ H=>te σ H D.rt
theorem LP(he:PE X e te):PS X (.Return (some e) pos) (VX te):=by
 intro pins s σ H D I h;exact wpAny_Return_some (bM (he pins s σ H _ I h) λv s1 ⟨x,H1,I1,r1,q1⟩=>⟨x,σ,H1,I1,r1,q1⟩)
def WB(c:TT)(t u:TS):TS:=λD σ H=>c σ H λb H1=>if b=true then t D σ H1 else u D σ H1
theorem AG{c:Expr}{a b:List Stmt}{tc:TT}(hc:PT X c tc)(ha:PSs X a t)(hb:PSs X b u):PS X (.If c a b pos) (WB tc t u):=by
 intro pins s σ H D I h;refine wpAny_If (bM (hc pins s σ H _ I h) λd s1 ⟨H1,I1,q1⟩=>?_);cases d with
 |true=>exact ha pins s1 σ H1 D I1 q1
 |false=>exact hb pins s1 σ H1 D I1 q1
end
noncomputable abbrev TG:=V->St->Hp->(St->Hp->Prop)->Prop
noncomputable abbrev KC:=List V->St->Hp->(St->Hp->Prop)->Prop
def PG(X:Cx)(target:Expr)(t:TG):Prop:=
 ∀(pins:List (Addr×Obj))(s:Shared)(σ:St)(H:Hp)(v:V)(u:Value)(Q:St->Hp->Prop),Inv X pins σ H s->RelV v u->t v σ H Q->
  wpAny (model X.prog X.w) X.A (assign target X.env u) (λ_ s'=>∃σ' H',Inv X pins σ' H' s'/\Q σ' H') X.xe s
def UJ(X:Cx)(ts:List Expr)(t:KC):Prop:=
 ∀(pins:List (Addr×Obj))(s:Shared)(σ:St)(H:Hp)(vs:List V)(us:List Value)(Q:St->Hp->Prop),Inv X pins σ H s->Vals vs us->t vs σ H Q->
  wpAny (model X.prog X.w) X.A (assignInOrder ((assignEach ts X.env).map (·.2)) us) (λ_ s'=>∃σ' H',Inv X pins σ' H' s'/\Q σ' H') X.xe s
noncomputable abbrev HV:=V->V->V->Hp->(Hp->Prop)->Prop
def OX(X:Cx)(t:HV):Prop:=
 ∀(pins:List (Addr×Obj))(s:Shared)(σ:St)(H:Hp)(o i v:V)(ov iv u:Value)(Q:Hp->Prop),Inv X pins σ H s->RelV o ov->RelV i iv->RelV v u->t o i v H Q->
  wpAny (model X.prog X.w) X.A (setItem ov iv u) (λ_ s'=>∃H',Inv X pins σ H' s'/\Q H') X.xe s
section
variable {X:Cx}{pos:Pos}
noncomputable def oT(i:Nat):TG:=λv σ H Q=>Q (σ.set i (some v)) H
theorem vN{i:Nat}{x:Str}(hN:X.N.Nodup)(hi:X.N[i]? =some x)(hx:DY X.env.scope x)(hf:X.fn x=true\/X.env.scope.names.lookup x=some .local:=by first |exact .inl rfl|exact .inr rfl|assumption):PG X (.Name x pos) (oT i):=by
 intro pins s σ H v u Q I r h;exact wpAny_assign_Name (mF I hN hi hx r (λs' I'=>⟨_,H,I',h⟩) hf)
noncomputable def YB:KC:=λvs σ H Q=>vs=[]/\Q σ H
noncomputable def SF(t:TG)(u:KC):KC:=λvs σ H Q=>∃v r,vs=v::r/\t v σ H λσ' H'=>u r σ' H' Q
theorem pU:UJ X [] YB:=by
 intro pins s σ H vs us Q I r h;obtain⟨e,h⟩:=h;subst e;cases r;exact assignInOrder_nil ⟨σ,H,I,h⟩
theorem gM{e:Expr}{es:List Expr}{t:TG}{u:KC}(h1:PG X e t)(h2:UJ X es u)
 (hs:(assignEach (e::es) X.env).map (·.2)=assign e X.env::(assignEach es X.env).map (·.2):=by rfl):UJ X (e::es) (SF t u):=by
 intro pins s σ H vs us Q I r h;obtain⟨v,vr,e1,h⟩:=h;subst e1;cases r with
 |cons r rr=>
  rw[hs];refine assignInOrder_cons (bM (h1 pins s σ H _ _ _ I r h) λ_ s1 ⟨σ1,H1,I1,q1⟩=>?_);exact h2 pins s1 σ1 H1 _ _ Q I1 rr q1
noncomputable def XZ(K:W.Frag)(n:Nat)(t:KC):TG:=λv σ H Q=>∃a xs,v=.ref a/\SqT K H a xs/\xs.length=n/\t xs σ H Q
theorem tJ{es:List Expr}{k:Nat}{t:KC}{n:Nat}(hc:X.calm=true)(h:UJ X es t)
 (hn:(assignEach es X.env).length=n:=by rfl)(hst:(assignEach es X.env).findIdx? (·.1)=none:=by rfl):PG X (.Tuple es k pos) (XZ X.K n t):=by
 intro pins s σ H v u Q I r hw;obtain⟨a,xs,e1,hq,hl,hw⟩:=hw;subst e1;cases r;obtain⟨its,rv,ht,hz⟩:=I.tuple hq;refine assign_Tuple_tuple (I.ok.hd hc) ht (by simp[hn, <- hl,rv.length]) hst λh' hx=>?_;have I1:Inv X pins σ H {s with heap:=h'}:=I.kept (t':=s.toks) λb o e=>hx b o (Nat.ne_of_lt (Heap.lt_size e)) e;exact h pins _ σ H xs _ Q I1 (by simpa using rv) hw
noncomputable def YA(to ti:TE)(t:HV):TG:=λv σ H Q=>to σ H λo H1=>ti σ H1 λi H2=>t o i v H2 λH3=>Q σ H3
theorem LU{o i:Expr}{to ti:TE}{t:HV}(ho:PE X o to)(hi:PE X i ti)(hs:OX X t)
 (ha:∀v,assign (.Subscript o i pos) X.env v=(do
   let ov <- holding [v] (eval o X.env)
   let iv <- holding [v,ov] (eval i X.env)
   standAt pos
   holding [v,ov,iv] (setItem ov iv v)
   release [v,ov,iv] []):=by intro _;rfl):PG X (.Subscript o i pos) (YA to ti t):=by
 intro pins s σ H v u Q I r h;rw[ha];refine Za (wpAny_holding (bM (ho pins s σ H _ I h) λov s1 ⟨x,H1,I1,r1,q1⟩=>?_));refine Za (wpAny_holding (bM (hi pins s1 σ H1 _ I1 q1) λiv s2 ⟨y,H2,I2,r2,q2⟩=>?_));refine Za (wpAny_standAt (Za (wpAny_holding (bM (hs pins s2 σ H2 x y v ov iv u _ I2 r1 r2 r q2) λ_ s3 ⟨H3,I3,q3⟩=>?_))));exact wpAny_release ⟨σ,H3,I3,q3⟩
def EG(te:TE)(g:TG):TS:=λD σ H=>te σ H λx H1=>g x σ H1 D.nx
theorem pR{tg e:Expr}{te:TE}{g:TG}(he:PE X e te)(hg:PG X tg g)(hs:swapsWithSole [tg] e pos.line X.env=pure false:=by rfl)(hw:swappedStores [tg] e X.env=pure none:=by rfl)
 (h1:(assignEach [tg] X.env).map (·.2)=[assign tg X.env]:=by rfl):PS X (.Assign [tg] e pos) (EG te g):=by
 intro pins s σ H D I h;refine wpAny_Assign_stores (bM (he pins s σ H _ I h) λv s1 ⟨x,H1,I1,r1,q1⟩=>?_) hs hw;rw[h1];exact bM (hg pins s1 σ H1 x v _ I1 r1 q1) λ_ s2 q=>q
theorem mI{i:Nat}{x:Str}{e:Expr}{te:TE}{pos':Pos}(hN:X.N.Nodup)(hi:X.N[i]? =some x)(hx:DY X.env.scope x)(he:PE X e te)(hs:swapsWith e (some (.Name x pos')) pos.line X.env=pure false:=by rfl)(hf:X.fn x=true\/X.env.scope.names.lookup x=some .local:=by first |exact .inl rfl|exact .inr rfl|assumption):
 PS X (.Assign [.Name x pos'] e pos) (EG te (oT i)):=by
 intro pins s σ H D I h;refine wpAny_Assign_Name (bM (he pins s σ H _ I h) λv s1 ⟨y,H1,I1,r1,q1⟩=>?_) hs;exact mF I1 hN hi hx r1 (λs2 I2=>⟨_,H1,I2,q1⟩) hf
end
section
variable {X:Cx}{pos:Pos}
def zK(c:TT)(tb:TS):TS:=λD σ H=>∃W:Nat->St->Hp->Prop,(∃m,W m σ H)/\∀m σ H,W m σ H->
 c σ H λb H1=>if b=true then ∃N:St->Hp->Prop,(∀σ' H',N σ' H'->∃m',m'<m/\W m' σ' H')/\tb {D with nx:=N,ct:=N,bk:=D.nx} σ H1 else D.nx σ H1
theorem AE{c:Expr}{body:List Stmt}{tc:TT}{tb:TS}(hp:PassesOwn (model X.prog X.w) X.A X.env X.xe)(hc:PT X c tc)(hb:PSs X body tb):PS X (.While c body [] pos) (zK tc tb):=by
 intro pins s σ H D I h;obtain⟨W,⟨m0,w0⟩,turn⟩:=h;refine wpAny_While (codeAny_whileLoop (λn s'=>∃σ' H',Inv X pins σ' H' s'/\W n σ' H') ?_ m0 ⟨σ,H,I,w0⟩);rintro n s1 ⟨σ1,H1,I1,w1⟩;refine wpAny_passesOwn hp (bM (hc pins s1 σ1 H1 _ I1 (turn n σ1 H1 w1)) λb s2 ⟨H2,I2,q2⟩=>?_);cases b with
 |true=>
  obtain⟨N,hN,q2⟩:=q2;rw[if_pos rfl];refine wpAny_passesOwn hp (bM (hb pins s2 σ1 H2 _ I2 q2) λf s3 q3=>?_);cases f with
  |next=>
   obtain⟨σ3,H3,I3,n3⟩:=q3;obtain⟨m',hm,w3⟩:=hN σ3 H3 n3;exact⟨m',hm,σ3,H3,I3,w3⟩
  |cont=>
   obtain⟨σ3,H3,I3,n3⟩:=q3;obtain⟨m',hm,w3⟩:=hN σ3 H3 n3;exact⟨m',hm,σ3,H3,I3,w3⟩
  |brk=>exact q3
  |ret v=>exact q3
 |false=>
  rw[if_neg Bool.false_ne_true];exact wpAny_execs_nil ⟨σ1,H2,I2,q2⟩
end
structure It where
 go:Nat->Hp->Prop
 yld:Nat->Hp->V->Hp->Prop
 stop:Nat->Hp->Prop
def gY(X:Cx)(pins:List (Addr×Obj))(H:Hp)(b:Addr):Prop:=
 H b=none/\b≠X.env.locals/\b ∉ X.fs/\(b∈X.ex\/X.s₀.heap.objs.size<=b)/\(∀x c,X.env.cells.lookup x=some c->c≠b)/\∀p∈X.pn++pins,p.1≠b
theorem Inv.fpOk{X:Cx}{pins:List (Addr×Obj)}{σ:St}{H H':Hp}{s:Shared}{b:Addr}(I:Inv X pins σ H s)(hb:s.heap.objs.size<=b)(hn:H' b=none):gY X pins H' b:=by
 refine⟨hn,Nat.ne_of_gt (Nat.lt_of_lt_of_le I.lt hb),I.nofs hb,.inr (Nat.le_trans I.sz hb),λx c e z=>?_,λp hp z=>?_⟩
 ·obtain⟨v,q⟩:=I.cell x c e;exact absurd (Nat.lt_of_lt_of_le q.lt (by rw[z];exact hb)) (Nat.lt_irrefl _)
 ·exact absurd (Nat.lt_of_lt_of_le (Heap.lt_size (I.pin p hp).1) (by rw[z];exact hb)) (Nat.lt_irrefl _)
structure Turn (P:Program)(w:World)(K:W.Frag)(tg:Expr)(J:It)(fp:List Addr)(it:Addr)(tn:Nat->Heap->Prop):Prop where
 mem:it∈fp
 obj:∀i h,tn i h->∀b∈fp,∃o,h.get? b=some o/\∀v,o.data≠ .cell v
 keep:∀i h h',tn i h->(∀b∈fp,∀o,h.get? b=some o->h'.get? b=some o)->tn i h'
 item:∀(X:Cx),X.prog=P->X.w=w->X.K=K->X.calm=true->∀(i:Nat)(pins:List (Addr×Obj))(s:Shared)(σ:St)(H:Hp)(E:Value->Shared->Prop),Inv X pins σ H s->(∀b∈fp,gY X pins H b)->tn i s.heap->J.go i H->
  wpAny (model P w) X.A (pyNext (.ref it)) (λr s1=>∃u,r=some u/\
   wpAny (model P w) X.A (letOwnedTupleGo tg (.ref it) u) (λ_ s2=>∃x H',Inv X pins σ H' s2/\RelV x u/\J.yld i H x H'/\tn (i+1) s2.heap/\∀b∈fp,H' b=none) E s1) E s
 done:∀(X:Cx),X.prog=P->X.w=w->X.K=K->X.calm=true->∀(i:Nat)(pins:List (Addr×Obj))(s:Shared)(σ:St)(H:Hp)(E:Value->Shared->Prop),Inv X pins σ H s->(∀b∈fp,gY X pins H b)->tn i s.heap->J.stop i H->
  wpAny (model P w) X.A (pyNext (.ref it)) (λr s1=>r=none/\Inv X pins σ H s1) E s
 self:∀(A:Around)(i:Nat)(s:Shared)(Q:Value->Shared->Prop)(E:Value->Shared->Prop),tn i s.heap->Q (.ref it) s->wpAny (model P w) A (pyIter (.ref it)) Q E s
noncomputable abbrev TI:=St->Hp->(It->Hp->Prop)->Prop
def HX(X:Cx)(pins:List (Addr×Obj))(σ:St)(tg:Expr)(R:It->Hp->Prop)(itv:Value)(s2:Shared):Prop:=
 ∃(it:Addr)(fp:List Addr)(tn:Nat->Heap->Prop)(J:It)(H':Hp),itv=.ref it/\Inv X pins σ H' s2/\Turn X.prog X.w X.K tg J fp it tn/\tn 0 s2.heap/\(∀b∈fp,gY X pins H' b)/\R J H'
def PI(X:Cx)(tg iter:Expr)(wi:TI):Prop:=
 ∀(pins:List (Addr×Obj))(s:Shared)(σ:St)(H:Hp)(R:It->Hp->Prop),Inv X pins σ H s->wi σ H R->
  wpAny (model X.prog X.w) X.A (eval iter X.env) (λv s1=>wpAny (model X.prog X.w) X.A (pyIter v) (HX X pins σ tg R) X.xe s1) X.xe s
theorem vV{M:Model}{A:Around}{E:Value->Shared->Prop}{s:Shared}{tg:Expr}{it:Addr}{u:Value}{o:Obj}{n:String}{vs:Array Value}{Q:Unit->Shared->Prop}(ho:s.heap.get? it=some o)(hc:o.cls=.type n)(hd:o.data=.fields vs)
 (hn: ["enumerate","zip","dict_itemiterator","dict_reverseitemiterator","odict_iterator","itertools.zip_longest","itertools.pairwise"].contains n=false)(hQ:Q () s):wpAny M A (letOwnedTupleGo tg (.ref it) u) Q E s:=by
 unfold letOwnedTupleGo
 cases tg<;>first
  |exact Zb hQ
  |(cases u<;>first
     |exact Zb hQ
     |(refine Za (wpAny_load ho ?_)
       rw[hc,hd];show wpAny M A (if(["enumerate","zip","dict_itemiterator","dict_reverseitemiterator","odict_iterator","itertools.zip_longest","itertools.pairwise"].contains n&&vs[0]? ==some (rawInt _))=true then _ else _) Q E s;rw[if_neg (by intro h;rw[hn,Bool.false_and] at h;cases h)];exact Zb hQ))
noncomputable def KI(K:W.Frag)(a:Addr):It:=
 ⟨λi H=>∃xs x,SqL K H a xs/\xs[i]? =some x,λi H x H'=>H'=H/\∀xs,SqL K H a xs->xs[i]? =some x,λi H=>∃xs,SqL K H a xs/\xs.length<=i⟩
noncomputable def HZ(K:W.Frag)(a:Addr):It:=
 ⟨λi H=>∃xs x,SqT K H a xs/\xs[i]? =some x,λi H x H'=>H'=H/\∀xs,SqT K H a xs->xs[i]? =some x,λi H=>∃xs,SqT K H a xs/\xs.length<=i⟩
noncomputable def IA(lo:Int)(n:Nat):It:=⟨λi _=>i<n,λi H x H'=>H'=H/\x=.int (lo+i),λi _=>n<=i⟩
theorem xB{P:Program}{w:World}{K:W.Frag}{tg:Expr}(a it:Addr):Turn P w K tg (KI K a) [it] it (λi h=>h.IsListIter it a i) where
 mem:=by simp
 obj:=λi h st b hb=>by
  have e:b=it:=by simpa using hb
  subst e;obtain⟨o,e,c,d⟩:=st;exact⟨o,e,λv z=>by rw[d] at z;cases z⟩
 keep:=λi h h' st k=>st.at λo e=>k it (by simp) o e
 item:=by
  intro X hP hw hK hc i pins s σ H E I hf st hg;subst hP hw hK;obtain⟨xs,x,hq,hx⟩:=hg;obtain⟨its,rv,p,hz⟩:=I.list hq;obtain⟨u,hu,ru⟩:=rv.get hx;obtain⟨f0,f1,f2,f3,f4,f5⟩:=hf it (by simp);refine wpAny_pyNext_list_item st p.isList (x:=u) (by simpa using hu) λh' st' sb=>?_;have I1:Inv X pins σ H {s with heap:=h'}:=I.turned (t':=s.toks) (λb o hb e=>(sb.2 b hb).trans e) f0 f1 f3 f4 f5;obtain⟨o,e,c,d⟩:=id st';exact⟨u,rfl,vV (s:={s with heap:=h'}) e c d (by decide) ⟨x,H,I1,ru,⟨rfl,λys hy=>by rw[I.list_inj hy hq];exact hx⟩,st',λb hb=>(hf b hb).1⟩⟩
 done:=by
  intro X hP hw hK hc i pins s σ H E I hf st hg;subst hP hw hK;obtain⟨xs,hq,hx⟩:=hg;obtain⟨its,rv,p,hz⟩:=I.list hq;obtain⟨f0,f1,f2,f3,f4,f5⟩:=hf it (by simp);have hl:=rv.length;exact wpAny_pyNext_list_end (I.ok.hd hc) st p.isList (by simp;omega) λh' eb=>⟨rfl,I.turned (t':=s.toks) (λb o hb e=>eb b o hb e) f0 f1 f3 f4 f5⟩
 self:=λ_ _ _ _ _ st h=>wpAny_pyIter_listiter st h
theorem sX{P:Program}{w:World}{K:W.Frag}{tg:Expr}(a it:Addr):Turn P w K tg (HZ K a) [it] it (λi h=>h.IsTupleIter it a i) where
 mem:=by simp
 obj:=λi h st b hb=>by
  have e:b=it:=by simpa using hb
  subst e;obtain⟨o,e,c,d⟩:=st;exact⟨o,e,λv z=>by rw[d] at z;cases z⟩
 keep:=λi h h' st k=>st.at λo e=>k it (by simp) o e
 item:=by
  intro X hP hw hK hc i pins s σ H E I hf st hg;subst hP hw hK;obtain⟨xs,x,hq,hx⟩:=hg;obtain⟨its,rv,p,hz⟩:=I.tuple hq;obtain⟨u,hu,ru⟩:=rv.get hx;obtain⟨f0,f1,f2,f3,f4,f5⟩:=hf it (by simp);refine wpAny_pyNext_tuple_item st (show s.heap.IsTuple a its.toArray from p) (x:=u) (by simpa using hu) λh' st' sb=>?_;have I1:Inv X pins σ H {s with heap:=h'}:=I.turned (t':=s.toks) (λb o hb e=>(sb.2 b hb).trans e) f0 f1 f3 f4 f5;obtain⟨o,e,c,d⟩:=id st';exact⟨u,rfl,vV (s:={s with heap:=h'}) e c d (by decide) ⟨x,H,I1,ru,⟨rfl,λys hy=>by rw[I.tuple_inj hy hq];exact hx⟩,st',λb hb=>(hf b hb).1⟩⟩
 done:=by
  intro X hP hw hK hc i pins s σ H E I hf st hg;subst hP hw hK;obtain⟨xs,hq,hx⟩:=hg;obtain⟨its,rv,p,hz⟩:=I.tuple hq;obtain⟨f0,f1,f2,f3,f4,f5⟩:=hf it (by simp);have hl:=rv.length;exact wpAny_pyNext_tuple_end (I.ok.hd hc) st (show s.heap.IsTuple a its.toArray from p) (by simp;omega) λh' eb=>⟨rfl,I.turned (t':=s.toks) (λb o hb e=>eb b o hb e) f0 f1 f3 f4 f5⟩
 self:=λ_ _ _ _ _ st h=>wpAny_pyIter_tupleiter st h
theorem sY{P:Program}{w:World}{K:PySem.W.Frag}{tg:Expr}(it:Addr)(lo:Int)(n:Nat):Turn P w K tg (IA lo n) [it] it (λi h=>IsRangeIter h it (lo+(i:Nat)*1) ((n:Int)-(i:Nat)) 1) where
 mem:=by simp
 obj:=λi h st b hb=>by
  have e:b=it:=by simpa using hb
  subst e
  exact⟨_,st,λv z=>by
   have z':Data.fields _=Data.cell v:=z;cases z'⟩
 keep:=λi h h' st k=>k it (by simp) _ st
 item:=by
  intro X hP hw hK hc i pins s σ H E I hf st hg;subst hP hw hK;obtain⟨f0,f1,f2,f3,f4,f5⟩:=hf it (by simp);have W:=Walks.range (prog:=X.prog) (w:=X.w) (I.ok.hd hc) it lo 1 n;refine W.item i s _ _ hg st λv h' tk hv st' kk=>?_;obtain⟨t,rfl⟩:=hv;have I1:Inv X pins σ H {s with heap:=h',toks:=tk}:=I.turned (λb o hb e=>kk b o (by simpa using hb) e) f0 f1 f3 f4 f5;refine⟨_,rfl,vV (s:={s with heap:=h',toks:=tk}) (n:="range_iterator") st' rfl rfl (by decide) ⟨.int (lo+i),H,I1,⟨t,?_⟩,⟨rfl,rfl⟩,st',λb hb=>(hf b hb).1⟩⟩;rw[Int.mul_one]
 done:=by
  intro X hP hw hK hc i pins s σ H E I hf st hg;subst hP hw hK;obtain⟨f0,f1,f2,f3,f4,f5⟩:=hf it (by simp);exact wpAny_pyNext_range_end (I.ok.hd hc) st (by have:n<=i:=hg;omega) λh' eb=>⟨rfl,I.turned (t':=s.toks) (λb o hb e=>eb b o hb e) f0 f1 f3 f4 f5⟩
 self:=λ_ _ _ _ _ st h=>wpAny_pyIter_rangeiter st h
end L2
namespace L2
open PySem PySem.Spec PyProof.Rows
section
variable {X:Cx}{tg:Expr}
noncomputable def RZ(K:W.Frag)(tl:TE):TI:=λσ H R=>tl σ H λx H1=>∃a,x=.ref a/\(∃xs,SqL K H1 a xs)/\R (KI K a) H1
noncomputable def iTup(K:W.Frag)(tl:TE):TI:=λσ H R=>tl σ H λx H1=>∃a,x=.ref a/\(∃xs,SqT K H1 a xs)/\R (HZ K a) H1
theorem pT{l:Expr}{tl:TE}(hl:PE X l tl):PI X tg l (RZ X.K tl):=by
 intro pins s σ H R I h;refine bM (hl pins s σ H _ I h) λv s1 ⟨x,H1,I1,r1,q1⟩=>?_;obtain⟨a,e,⟨xs,hq⟩,q⟩:=q1;subst e;cases r1;obtain⟨its,rv,p,hz⟩:=I1.list hq;refine wpAny_pyIter_list p.isList ?_;refine⟨s1.heap.objs.size,[s1.heap.objs.size],_,_,H1,rfl,I1.kept (t':=s1.toks) λb o e=>Zf _ e,xB a _,⟨_,Heap.get?_push_size _ rfl,rfl,rfl⟩,λb hb=>?_,q⟩;have e:b=s1.heap.objs.size:=by simpa using hb
 subst e;exact I1.fpOk (Zn _) (I1.hok.fresh (Zn _))
theorem AK{l:Expr}{tl:TE}(hl:PE X l tl):PI X tg l (iTup X.K tl):=by
 intro pins s σ H R I h;refine bM (hl pins s σ H _ I h) λv s1 ⟨x,H1,I1,r1,q1⟩=>?_;obtain⟨a,e,⟨xs,hq⟩,q⟩:=q1;subst e;cases r1;obtain⟨its,rv,p,hz⟩:=I1.tuple hq;refine wpAny_pyIter_tuple (show s1.heap.IsTuple a its.toArray from p) ?_;refine⟨s1.heap.objs.size,[s1.heap.objs.size],_,_,H1,rfl,I1.kept (t':=s1.toks) λb o e=>Zf _ e,sX a _,⟨_,Heap.get?_push_size _ rfl,rfl,rfl⟩,λb hb=>?_,q⟩;have e:b=s1.heap.objs.size:=by simpa using hb
 subst e;exact I1.fpOk (Zn _) (I1.hok.fresh (Zn _))
theorem zX{pins:List (Addr×Obj)}{σ:St}{H:Hp}{s:Shared}{R:It->Hp->Prop}{E:Value->Shared->Prop}{lo hi:Int}{t u v:Tok}{tk:Nat}(I:Inv X pins σ H s)(h1: -(2^62)<=lo)(h2:lo<2^62)(h3: -(2^62)<=hi)(h4:hi<2^62)
 (q:R (IA lo (hi-lo).toNat) H):wpAny (model X.prog X.w) X.A (pyIter (.ref s.heap.objs.size)) (HX X pins σ tg R) E {s with heap:=s.heap.push {cls:=.type "range",data:=.fields #[.int lo t,.int hi u,.int 1 v]},toks:=tk}:=by
 refine wpAny_pyIter_range (IsRange.new ..) (small_one h1 h2 h3 h4) ?_;have I1:Inv X pins σ H {s with heap:=s.heap.push {cls:=.type "range",data:=.fields #[.int lo t,.int hi u,.int 1 v]},toks:=tk}:=I.kept λb o e=>Zf _ e
 refine⟨(s.heap.push {cls:=.type "range",data:=.fields #[.int lo t,.int hi u,.int 1 v]}).objs.size,[(s.heap.push {cls:=.type "range",data:=.fields #[.int lo t,.int hi u,.int 1 v]}).objs.size],_,_,H,rfl,
  I1.kept (t':=tk) λb o e=>Zf _ e,sY _ lo (hi-lo).toNat,?_,λb hb=>?_,q⟩
 ·have e1:lo+((0:Nat):Int)*1=lo:=by simp
  have e2:(((hi-lo).toNat:Nat):Int)-((0:Nat):Int)=Builtin.Range.rangeSize lo hi 1:=by rw[rangeSize_one];split<;>omega
  show IsRangeIter _ _ (lo+((0:Nat):Int)*1) ((((hi-lo).toNat:Nat):Int)-((0:Nat):Int)) 1;rw[e1,e2];exact Heap.get?_push_size _ rfl
 ·have e:b=(s.heap.push {cls:=.type "range",data:=.fields #[.int lo t,.int hi u,.int 1 v]}).objs.size:=by simpa using hb
  subst e;exact I1.fpOk (Zn _) (I1.hok.fresh (Zn _))
noncomputable def RY(ta:TA):TI:=λσ H R=>ta σ H λvs H1=>∃j:Int,vs=[.int j]/\ -(2^62)<=j/\j<2^62/\R (IA 0 j.toNat) H1
theorem xK{a:Expr}{ta:TA}{p pos:Pos}(hg:Gl X "range")(hm:X.mg "range"=none)(ha:PA X [a] ta)(hs:starEach [a] X.env=[(false,eval a X.env)]:=by rfl):PI X tg (.Call (.Name "range" p) [a] [] pos) (RY ta):=by
 intro pins s σ H R I h;refine Call_ (pY I hg hm boot_range (PyProof.Rows.callWith_type1 (bM (ha pos pins s σ H _ I h) λus s1 ⟨vs,H1,I1,r1,q1⟩=>?_) hs rfl));obtain⟨j,e,q1,q2,q⟩:=q1;subst e;cases r1 with
 |cons r rr=>
  cases rr;obtain⟨t,rfl⟩:=r;exact call_range_1 (zX I1 (by omega) (by omega) q1 q2 (by simpa using q))
def WC(wi:TI)(g:TG)(tb:TS):TS:=λD σ H=>wi σ H λJ H1=>∃W:Nat->Nat->St->Hp->Prop,(∃m,W 0 m σ H1)/\∀i m σ H,W i m σ H->
 (J.stop i H/\D.nx σ H)\/(J.go i H/\∃N:St->Hp->Prop,(∀σ' H',N σ' H'->∃m',m'<m/\W (i+1) m' σ' H')/\∀x H',J.yld i H x H'->g x σ H' λσ2 H2=>tb {D with nx:=N,ct:=N,bk:=D.nx} σ2 H2)
noncomputable def kJ(fp:List Addr)(h:Heap):List (Addr×Obj):=fp.filterMap λb=>(h.get? b).map λo=>(b,o)
theorem fU{fp:List Addr}{h:Heap}{b:Addr}{o:Obj}(hb:b∈fp)(e:h.get? b=some o):(b,o)∈kJ fp h:=List.mem_filterMap.mpr ⟨b,hb,by rw[e];rfl⟩
theorem xO{fp:List Addr}{h:Heap}{p:Addr×Obj}(hp:p∈kJ fp h):p.1∈fp/\h.get? p.1=some p.2:=by
 obtain⟨b,hb,e⟩:=List.mem_filterMap.mp hp;cases q:h.get? b with
 |none=>rw[q] at e;cases e
 |some o=>
  rw[q] at e;have e':(b,o)=p:=Zg e;subst e';exact⟨hb,q⟩
theorem Inv.pinned{pins:List (Addr×Obj)}{σ:St}{H:Hp}{s:Shared}{fp:List Addr}(I:Inv X pins σ H s)(hf:∀b∈fp,gY X pins H b)(ho:∀b∈fp,∃o,s.heap.get? b=some o/\∀v,o.data≠ .cell v):Inv X (pins++kJ fp s.heap) σ H s:=
 I.pins_of λp hp=>(List.mem_append.mp hp).elim (λz=>I.pin p (List.mem_append_right _ z)) λz=>by
  obtain⟨hb,e⟩:=xO z;obtain⟨f0,f1,f2,_⟩:=hf p.1 hb;obtain⟨o,e',d⟩:=ho p.1 hb;rw[e] at e';cases e';exact⟨e,f0,f1,f2,d⟩
theorem Inv.unpinned{pins pl:List (Addr×Obj)}{σ:St}{H:Hp}{s:Shared}(I:Inv X (pins++pl) σ H s):Inv X pins σ H s:=I.pins_of λp hp=>I.pin p (List.mem_append_right _ (List.mem_append_left _ hp))
theorem pQ{iter:Expr}{body:List Stmt}{wi:TI}{g:TG}{tb:TS}{pos:Pos}(hp:PassesOwn (model X.prog X.w) X.A X.env X.xe)(hc:X.calm=true)(hi:PI X tg iter wi)(hg:PG X tg g)(hb:PSs X body tb)
 (hs:∀x,foldedSetIterable iter X.env x=pure x:=by intro _;rfl):PS X (.For tg iter body [] pos) (WC wi g tb):=by
 intro pins s σ H D I h;refine wpAny_For (bM (hi pins s σ H _ I h) λv s1 h1=>bM h1 λitv s2 h2=>?_) hs;obtain⟨it,fp,tn,J,H2,e,I2,T,st2,f2,W,⟨m0,w0⟩,turn⟩:=h2;subst e;have stat:∀{H':Hp},(∀b∈fp,H' b=none)->∀b∈fp,gY X pins H' b:=λhn b hb=>⟨hn b hb,(f2 b hb).2⟩;refine codeAny_forLoop_any (λn s'=>∃i σ' H',Inv X pins σ' H' s'/\tn i s'.heap/\(∀b∈fp,H' b=none)/\W i n σ' H') ?_ m0 ⟨0,σ,H2,I2,st2,λb hb=>(f2 b hb).1,w0⟩;rintro n s3 ⟨i,σ3,H3,I3,st3,fr3,w3⟩;rcases turn i n σ3 H3 w3 with ⟨stop,qn⟩|⟨go,N,hN,step⟩
 ·refine wpAny_passesOwn hp (bM (T.done X rfl rfl rfl hc i pins s3 σ3 H3 X.xe I3 (stat fr3) st3 stop) λr s4 ⟨hr,I4⟩=>?_);subst hr;exact wpAny_execs_nil ⟨σ3,H3,I4,qn⟩
 ·refine wpAny_passesOwn hp (bM (T.item X rfl rfl rfl hc i pins s3 σ3 H3 X.xe I3 (stat fr3) st3 go) λr s4 ⟨u,hr,h4⟩=>?_);subst hr;refine wpAny_passesOwn hp (bM h4 λ_ s5 ⟨x,H5,I5,r5,y5,st5,fr5⟩=>?_);have I5':=I5.pinned (stat fr5) (T.obj _ _ st5);refine wpAny_passesOwn hp (bM (hg _ s5 σ3 H5 x u _ I5' r5 (step x H5 y5)) λ_ s6 ⟨σ6,H6,I6,q6⟩=>?_);refine wpAny_passesOwn hp (bM (hb _ s6 σ6 H6 _ I6 q6) λf s7 q7=>?_)
  have again:∀{σ7:St}{H7:Hp},Inv X (pins++kJ fp s5.heap) σ7 H7 s7->N σ7 H7->∃m,m<n/\∃i σ' H',Inv X pins σ' H' s7/\tn i s7.heap/\(∀b∈fp,H' b=none)/\W i m σ' H':=λ{σ7 H7} I7 n7=>by
   obtain⟨m',hm,w7⟩:=hN σ7 H7 n7;refine⟨m',hm,i+1,σ7,H7,I7.unpinned,T.keep _ _ _ st5 λb hb o e=>(I7.pin (b,o) (List.mem_append_right _ (List.mem_append_right _ (fU hb e)))).1,λb hb=>?_,w7⟩;obtain⟨o,e,d⟩:=T.obj _ _ st5 b hb;exact(I7.pin (b,o) (List.mem_append_right _ (List.mem_append_right _ (fU hb e)))).2.1
  cases f with
  |next=>obtain⟨σ7,H7,I7,n7⟩:=q7;exact again I7 n7
  |cont=>obtain⟨σ7,H7,I7,n7⟩:=q7;exact again I7 n7
  |brk=>obtain⟨σ7,H7,I7,q7⟩:=q7;exact⟨σ7,H7,I7.unpinned,q7⟩
  |ret v=>obtain⟨x7,σ7,H7,I7,r7,q7⟩:=q7;exact⟨x7,σ7,H7,I7.unpinned,r7,q7⟩
end
theorem GD{K:PySem.W.Frag}{a:Addr}{xs:List V}{g:TG}{tb:TS}{D:Ends}{σ:St}{H:Hp}(Pv:Nat->St->Hp->Prop)(h0:Pv 0 σ H)(hl:∀i σ H,i<=xs.length->Pv i σ H->SqT K H a xs)
 (hs:∀i x σ H,xs[i]? =some x->Pv i σ H->g x σ H λσ2 H2=>tb {D with nx:=Pv (i+1),ct:=Pv (i+1),bk:=D.nx} σ2 H2)(hd:∀σ H,Pv xs.length σ H->D.nx σ H):
 ∃W:Nat->Nat->St->Hp->Prop,(∃m,W 0 m σ H)/\∀i m σ H,W i m σ H->
  ((HZ K a).stop i H/\D.nx σ H)\/((HZ K a).go i H/\∃N:St->Hp->Prop,(∀σ' H',N σ' H'->∃m',m'<m/\W (i+1) m' σ' H')/\∀x H',(HZ K a).yld i H x H'->g x σ H' λσ2 H2=>tb {D with nx:=N,ct:=N,bk:=D.nx} σ2 H2):=by
 refine⟨λi m σ H=>m=xs.length-i/\i<=xs.length/\Pv i σ H,⟨xs.length,by simp,Nat.zero_le _,h0⟩,?_⟩;rintro i m σ H ⟨rfl,hi,p⟩;have q:=hl i σ H hi p
 by_cases hlt:i<xs.length
 ·refine .inr ⟨⟨xs,xs[i],q,by simp[hlt]⟩,Pv (i+1),λσ' H' p'=>⟨xs.length-(i+1),by omega,rfl,hlt,p'⟩,λx H' y=>?_⟩;obtain⟨e,y⟩:=y;subst e;exact hs i x σ _ (y xs q) p
 ·have e:i=xs.length:=by omega
  subst e;exact .inl ⟨⟨xs,q,Zn _⟩,hd σ H p⟩
theorem xZ{lo:Int}{n:Nat}{g:TG}{tb:TS}{D:Ends}{σ:St}{H:Hp}(Pv:Nat->St->Hp->Prop)(h0:Pv 0 σ H)
 (hs:∀i σ H,i<n->Pv i σ H->g (.int (lo+i)) σ H λσ2 H2=>tb {D with nx:=Pv (i+1),ct:=Pv (i+1),bk:=D.nx} σ2 H2)(hd:∀σ H,Pv n σ H->D.nx σ H):
 ∃W:Nat->Nat->St->Hp->Prop,(∃m,W 0 m σ H)/\∀i m σ H,W i m σ H->
  ((IA lo n).stop i H/\D.nx σ H)\/((IA lo n).go i H/\∃N:St->Hp->Prop,(∀σ' H',N σ' H'->∃m',m'<m/\W (i+1) m' σ' H')/\∀x H',(IA lo n).yld i H x H'->g x σ H' λσ2 H2=>tb {D with nx:=N,ct:=N,bk:=D.nx} σ2 H2):=by
 refine⟨λi m σ H=>m=n-i/\i<=n/\Pv i σ H,⟨n,by simp,Nat.zero_le _,h0⟩,?_⟩;rintro i m σ H ⟨rfl,hi,p⟩
 by_cases hlt:i<n
 ·refine .inr ⟨hlt,Pv (i+1),λσ' H' p'=>⟨n-(i+1),by omega,rfl,hlt,p'⟩,λx H' y=>?_⟩;obtain⟨e,y⟩:=y;subst e y;exact hs i σ _ hlt p
 ·have e:i=n:=by omega
  subst e;exact .inl ⟨Zn _,hd σ H p⟩
end L2
namespace L2
open PySem PySem.Spec PyProof.Rows
noncomputable abbrev R2:=V->V->Hp->VK->Prop
def jI(X:Cx)(f:Value->Value->Sem Value)(r:R2):Prop:=
 ∀(pins:List (Addr×Obj))(s:Shared)(σ:St)(H:Hp)(x y:V)(v u:Value)(Q:VK),Inv X pins σ H s->RelV x v->RelV y u->r x y H Q->
  wpAny (model X.prog X.w) X.A (f v u) (EP X pins σ Q) X.xe s
def C3(X:Cx)(f:Value->Sem Value)(r:V->Hp->VK->Prop):Prop:=
 ∀(pins:List (Addr×Obj))(s:Shared)(σ:St)(H:Hp)(x:V)(v:Value)(Q:VK),Inv X pins σ H s->RelV x v->r x H Q->
  wpAny (model X.prog X.w) X.A (f v) (EP X pins σ Q) X.xe s
def dN(X:Cx)(f:Value)(r:List V->Hp->VK->Prop):Prop:=
 ∀(pins:List (Addr×Obj))(s:Shared)(σ:St)(H:Hp)(xs:List V)(us:List Value)(Q:VK),Inv X pins σ H s->Vals xs us->r xs H Q->
  wpAny (model X.prog X.w) X.A (call f us) (EP X pins σ Q) X.xe s
def C4(X:Cx)(r:V->Hp->(Bool->Hp->Prop)->Prop):Prop:=
 ∀(pins:List (Addr×Obj))(s:Shared)(σ:St)(H:Hp)(x:V)(v:Value)(Q:Bool->Hp->Prop),Inv X pins σ H s->RelV x v->r x H Q->
  wpAny (model X.prog X.w) X.A (truthy v) (TP X pins σ Q) X.xe s
def PZ(r:R2)(ta tb:TE):TE:=λσ H Q=>ta σ H λx H1=>tb σ H1 λy H2=>r x y H2 Q
def tUn(r:V->Hp->VK->Prop)(ta:TE):TE:=λσ H Q=>ta σ H λx H1=>r x H1 Q
noncomputable def rI(C:Int->Int->Prop)(g:Int->Int->V):R2:=λx y H Q=>∃i j,x=.int i/\y=.int j/\C i j/\Q (g i j) H
noncomputable def IT(g:Int->Int->V):R2:=λx y H Q=>∃i j,x=.int i/\y=.int j/\Q (g i j) H
noncomputable def rU(g:Int->V):V->Hp->VK->Prop:=λx H Q=>∃i,x=.int i/\Q (g i) H
section
variable {X:Cx}{a b c:Expr}{ta tb tc:TE}{pos:Pos}
theorem OR(ha:PE X a ta)(hb:PE X b tb){pins:List (Addr×Obj)}{s:Shared}{σ:St}{H:Hp}{R:V->V->Hp->Prop}(I:Inv X pins σ H s)
 (h:ta σ H λx H1=>tb σ H1 λy H2=>R x y H2){Q:Value->Shared->Prop}{f:Value->Value->Sem Value}
 (hf:∀v u s2 x y H2,Inv X pins σ H2 s2->RelV x v->RelV y u->R x y H2->wpAny (model X.prog X.w) X.A (f v u) Q X.xe s2):
 wpAny (model X.prog X.w) X.A (eval a X.env) (λv s₁=>wpAny (model X.prog X.w) X.A (eval b X.env) (λu s₂=>wpAny (model X.prog X.w) X.A (f v u) Q X.xe s₂) X.xe s₁) X.xe s:=by
 refine bM (ha pins s σ H _ I h) λv s1 ⟨x,H1,I1,r1,q1⟩=>?_;refine bM (hb pins s1 σ H1 _ I1 q1) λu s2 ⟨y,H2,I2,r2,q2⟩=>?_;exact hf v u s2 x y H2 I2 r1 r2 q2
theorem IW{op:Operator}{r:R2}(ho:jI X (binaryOp op) r)(ha:PE X a ta)(hb:PE X b tb):PE X (.BinOp a op b pos) (PZ r ta tb):=by
 intro pins s σ H Q I h;exact wpAny_BinOp (OR ha hb I h λv u s2 x y H2 I2 rx ry q=>ho pins s2 σ H2 x y v u Q I2 rx ry q)
theorem QR{op:UnaryOp}{r:V->Hp->VK->Prop}(ho:C3 X (unaryOp op) r)(ha:PE X a ta):PE X (.UnaryOp op a pos) (tUn r ta):=by
 intro pins s σ H Q I h;exact UnaryOp_ (bM (ha pins s σ H _ I h) λv s1 ⟨x,H1,I1,r1,q1⟩=>ho pins s1 σ H1 x v Q I1 r1 q1)
theorem UV{f:Value->Value->Sem Value}{C:Int->Int->Prop}{g:Int->Int->Int}
 (rule:∀(i j:Int)(t u:Tok)(s:Shared)(Q:Value->Shared->Prop)(E:Value->Shared->Prop),C i j->Q (.int (g i j) s.toks) {s with toks:=s.toks+1}->wpAny (model X.prog X.w) X.A (f (.int i t) (.int j u)) Q E s):
 jI X f (rI C λi j=>.int (g i j)):=by
 intro pins s σ H x y v u Q I rx ry h;obtain⟨i,j,rfl,rfl,hc,q⟩:=h;obtain⟨t,rfl⟩:=rx;obtain⟨t',rfl⟩:=ry;exact rule i j t t' s _ _ hc ⟨.int (g i j),H,I.tok _,⟨_,rfl⟩,q⟩
theorem RA{f:Value->Value->Sem Value}{g:Int->Int->Int}
 (rule:∀(i j:Int)(t u:Tok)(s:Shared)(Q:Value->Shared->Prop)(E:Value->Shared->Prop),Q (.int (g i j) s.toks) {s with toks:=s.toks+1}->wpAny (model X.prog X.w) X.A (f (.int i t) (.int j u)) Q E s):
 jI X f (IT λi j=>.int (g i j)):=by
 intro pins s σ H x y v u Q I rx ry h;obtain⟨i,j,rfl,rfl,q⟩:=h;obtain⟨t,rfl⟩:=rx;obtain⟨t',rfl⟩:=ry;exact rule i j t t' s _ _ ⟨.int (g i j),H,I.tok _,⟨_,rfl⟩,q⟩
theorem FF{f:Value->Value->Sem Value}{g:Int->Int->Bool}
 (rule:∀(i j:Int)(t u:Tok)(s:Shared)(Q:Value->Shared->Prop)(E:Value->Shared->Prop),Q (.bool (g i j)) s->wpAny (model X.prog X.w) X.A (f (.int i t) (.int j u)) Q E s):
 jI X f (IT λi j=>.bl (g i j)):=by
 intro pins s σ H x y v u Q I rx ry h;obtain⟨i,j,rfl,rfl,q⟩:=h;obtain⟨t,rfl⟩:=rx;obtain⟨t',rfl⟩:=ry;exact rule i j t t' s _ _ ⟨.bl (g i j),H,I,rfl,q⟩
def E6(i j:Int):Prop:=0<j/\j<1073741824
def D9(i j:Int):Prop:=0<=j/\j<=1000000/\i.natAbs<2^64
def CMul(i j:Int):Prop:=(-(2^64)<i/\i<2^64)\/(-(2^64)<j/\j<2^64)
theorem CMul.ok{i j:Int}(h:CMul i j):IntMulOk i j:=by
 rcases h with ⟨h1,h2⟩|⟨h1,h2⟩
 ·exact .of_left (intBits_le_64 h1 h2)
 ·exact .of_right (intBits_le_64 h1 h2)
theorem MM:jI X (binaryOp .Add) (IT λi j=>.int (i+j)):=RA λ_ _ _ _ _ _ _ q=>add_int q
theorem MG:jI X (binaryOp .Sub) (IT λi j=>.int (i-j)):=RA λ_ _ _ _ _ _ _ q=>sub_int q
theorem MI:jI X (binaryOp .Mult) (rI CMul λi j=>.int (i*j)):=UV λ_ _ _ _ _ _ _ hc q=>mul_int q hc.ok
theorem FD:jI X (binaryOp .FloorDiv) (rI E6 λi j=>.int (i/j)):=UV λi j _ _ _ _ _ hc q=>by
 have h1:(0:Int)<j:=hc.1;have h2:j<1073741824:=hc.2;exact floordiv_int (by omega) (by rw[Int.fdiv_eq_ediv_of_nonneg i (by omega)];exact q) (.inl (PyProof.noPylong_small (by omega)))
theorem MJ:jI X (binaryOp .Mod) (rI (λ_ j=>0<j) λi j=>.int (i%j)):=UV λi j _ _ _ _ _ hc q=>by
 have h1:(0:Int)<j:=hc;exact mod_int' (by omega) (by rw[Int.fmod_eq_emod_of_nonneg i (by omega)];exact q)
theorem MH:jI X (binaryOp .Pow) (rI D9 λi j=>.int (i^j.toNat)):=UV λ_ _ _ _ _ _ _ hc q=>pow_int_small hc.1 hc.2.1 hc.2.2 q
theorem unI{f:Value->Sem Value}{g:Int->Int}
 (rule:∀(i:Int)(t:Tok)(s:Shared)(Q:Value->Shared->Prop)(E:Value->Shared->Prop),Q (.int (g i) s.toks) {s with toks:=s.toks+1}->wpAny (model X.prog X.w) X.A (f (.int i t)) Q E s):
 C3 X f (rU λi=>.int (g i)):=by
 intro pins s σ H x v Q I rx h;obtain⟨i,rfl,q⟩:=h;obtain⟨t,rfl⟩:=rx;exact rule i t s _ _ ⟨.int (g i),H,I.tok _,⟨_,rfl⟩,q⟩
theorem KS:C3 X (unaryOp .USub) (rU λi=>.int (-i)):=unI λ_ _ _ _ _ q=>neg_int q
end
section
variable {X:Cx}{a b c:Expr}{ta tb tc:TE}{pos:Pos}
theorem uC{pins:List (Addr×Obj)}{σ:St}{H:Hp}{s:Shared}{Q:VK}{k k':Bool}(I:Inv X pins σ H s)(q:Q (.bl k) H)(e:k=k'):EP X pins σ Q (.bool k') s:=by
 subst e;exact⟨.bl k,H,I,rfl,q⟩
theorem QW:jI X (compareOp .Lt) (IT λi j=>.bl (decide (i<j))):=FF λ_ _ _ _ _ _ _ q=>lt_int q
theorem QX:jI X (compareOp .LtE) (IT λi j=>.bl (decide (i<=j))):=FF λ_ _ _ _ _ _ _ q=>le_int q
theorem QY:jI X (compareOp .Gt) (IT λi j=>.bl (decide (j<i))):=FF λ_ _ _ _ _ _ _ q=>gt_int q
theorem QZ:jI X (compareOp .GtE) (IT λi j=>.bl (decide (j<=i))):=FF λ_ _ _ _ _ _ _ q=>ge_int q
theorem xL:jI X (compareOp .In) (λx y H Q=>∃i j,x=.str i/\y=.str j/\Q (.bl (!(Builtin.Str.occurrences j i 0 j.length 1).isEmpty)) H):=by
 intro pins s σ H x y v u Q I rx ry h;obtain⟨i,j,rfl,rfl,q⟩:=h;obtain⟨t,rfl⟩:=rx;obtain⟨t',rfl⟩:=ry;exact in_str (uC I q rfl)
theorem MK:jI X (compareOp .Is) (λx y H Q=>y=.non/\Q (.bl (decide (x=.non))) H):=by
 intro pins s σ H x y v u Q I rx ry h;obtain⟨rfl,q⟩:=h;cases ry;refine is_none_gen (uC I q ?_)
 cases x<;>first
  |(cases rx;rfl)
  |(obtain⟨t,rfl⟩:=rx;rfl)
theorem FC:jI X (compareOp .IsNot) (λx y H Q=>y=.non/\Q (.bl (!decide (x=.non))) H):=by
 intro pins s σ H x y v u Q I rx ry h;obtain⟨rfl,q⟩:=h;cases ry;refine isnot_none_gen (uC I q ?_)
 cases x<;>first
  |(cases rx;rfl)
  |(obtain⟨t,rfl⟩:=rx;rfl)
theorem EX{op:CmpOp}{r:R2}(ho:jI X (compareOp op) r)(ha:PE X a ta)(hb:PE X b tb)(hm:behindInMarks op b=false):PE X (.Compare a [op] [b] pos) (PZ r ta tb):=by
 intro pins s σ H Q I h;exact wpAny_Compare1 (OR ha hb I h λv u s2 x y H2 I2 rx ry q=>ho pins s2 σ H2 x y v u Q I2 rx ry q) hm
def IJ(t:TE):TT:=λσ H Q=>t σ H λx H'=>∃k,x=.bl k/\Q k H'
theorem EU{op:CmpOp}{r:R2}(ho:jI X (compareOp op) r)(ha:PE X a ta)(hb:PE X b tb)(hm:behindInMarks op b=false):PT X (.Compare a [op] [b] pos) (IJ (PZ r ta tb)):=by
 intro pins s σ H Q I h
 refine wpAny_isTrue_Compare1 (bM (ha pins s σ H _ I h) λv s1 ⟨x,H1,I1,r1,q1⟩=>bM (hb pins s1 σ H1 _ I1 q1) λu s2 ⟨y,H2,I2,r2,q2⟩=>
  bM (ho pins s2 σ H2 x y v u _ I2 r1 r2 q2) λc s3 ⟨z,H3,I3,r3,k,e,q3⟩=>?_) hm
 subst e;cases r3;exact wpAny_truthy_bool ⟨H3,I3,q3⟩
def tD(r r':R2)(ta tb tc:TE):TE:=λσ H Q=>ta σ H λx H1=>tb σ H1 λy H2=>r x y H2 λz H3=>∃k,z=.bl k/\
 (if k=true then tc σ H3 λw' H4=>r' y w' H4 Q else Q (.bl false) H3)
theorem AW{op op':CmpOp}{r r':R2}(ho:jI X (compareOp op) r)(ho':jI X (compareOp op') r')(ha:PE X a ta)(hb:PE X b tb)(hc:PE X c tc)
 (hm:lastMarks [op,op'] [b,c]=false:=by with_unfolding_all rfl):PE X (.Compare a [op,op'] [b,c] pos) (tD r r' ta tb tc):=by
 intro pins s σ H Q I h
 refine Compare_chain (bM (ha pins s σ H _ I h) λv s1 ⟨x,H1,I1,r1,q1⟩=>chain_link (bM (hb pins s1 σ H1 _ I1 q1) λu s2 ⟨y,H2,I2,r2,q2⟩=>
  bM (ho pins s2 σ H2 x y v u _ I2 r1 r2 q2) λd s3 ⟨z,H3,I3,r3,k,e,q3⟩=>?_)) hm
 subst e;cases r3;refine wpAny_truthy_bool ?_;cases k with
 |false=>exact ite_ff ⟨.bl false,H3,I3,rfl,q3⟩
 |true=>exact ite_tt (chain_last (bM (hc pins s3 σ H3 _ I3 q3) λw' s4 ⟨z',H4,I4,r4,q4⟩=>ho' pins s4 σ H4 y z' u w' Q I4 r2 r4 q4))
theorem AC{op op':CmpOp}{r r':R2}(ho:jI X (compareOp op) r)(ho':jI X (compareOp op') r')(ha:PE X a ta)(hb:PE X b tb)(hc:PE X c tc)
 (hm:lastMarks [op,op'] [b,c]=false:=by with_unfolding_all rfl):PT X (.Compare a [op,op'] [b,c] pos) (IJ (tD r r' ta tb tc)):=by
 intro pins s σ H Q I h
 refine isTrue_chain (bM (ha pins s σ H _ I h) λv s1 ⟨x,H1,I1,r1,q1⟩=>test_link (bM (hb pins s1 σ H1 _ I1 q1) λu s2 ⟨y,H2,I2,r2,q2⟩=>
  bM (ho pins s2 σ H2 x y v u _ I2 r1 r2 q2) λd s3 ⟨z,H3,I3,r3,k,e,q3⟩=>?_)) hm
 subst e;cases r3;refine wpAny_truthy_bool ?_;cases k with
 |false=>
  obtain⟨k',e',q'⟩:=q3;cases e';exact ite_ff ⟨H3,I3,q'⟩
 |true=>
  refine ite_tt (test_last (bM (hc pins s3 σ H3 _ I3 q3) λw' s4 ⟨z',H4,I4,r4,q4⟩=>bM (ho' pins s4 σ H4 y z' u w' _ I4 r2 r4 q4) λd' s5 ⟨z2,H5,I5,r5,k2,e2,q5⟩=>?_));subst e2;cases r5;exact wpAny_truthy_bool ⟨H5,I5,q5⟩
def uY(K:W.Frag)(x:V)(H:Hp)(k:Bool):Prop:=
 match x with
 |.non=>k=false
 |.bl b=>k=b
 |.int i=>k=(i != 0)
 |.str y=>y.length<=sizeLine/\k=((y.length:Int) != 0)
 |.byt y=>y.size<=sizeLine/\k=((y.size:Int) != 0)
 |.ref p=>(∃xs,SqL K H p xs/\k= !xs.isEmpty)\/(∃xs,SqT K H p xs/\k= !xs.isEmpty)\/∃kvs,H p=some (.dK kvs)/\k= !kvs.isEmpty
 |_=>False
theorem tY{κ:Type}{kvs:List (κ×V)}{vs:List (κ×Value)}(r:KV kvs vs):(!vs.isEmpty)= !kvs.isEmpty:=by
 cases r<;>rfl
theorem nA{xs:List V}{its:List Value}(r:Vals xs its):(!its.toArray.isEmpty)= !xs.isEmpty:=by
 cases r<;>simp
theorem iU:(sizeLine:Nat)<2^63:=by rw[sizeLine_eq];decide
theorem zH:C4 X (λx H Q=>∃k,uY X.K x H k/\Q k H):=by
 intro pins s σ H x v Q I rx h;obtain⟨k,e,q⟩:=h;have hl:=iU;have hs:sizeLine=16777216:=sizeLine_eq;cases x with
 |non=>
  cases rx;have e':k=false:=e;subst e';exact truthy_none ⟨H,I,q⟩
 |bl b=>
  cases rx;have e':k=b:=e;subst e';exact wpAny_truthy_bool ⟨H,I,q⟩
 |int i=>
  obtain⟨t,rfl⟩:=rx;have e':k=(i != 0):=e;subst e';exact PySem.P.truthy_int ⟨H,I,q⟩
 |str y=>
  obtain⟨t,rfl⟩:=rx;obtain⟨hy,e'⟩:y.length<=sizeLine/\k=((y.length:Int) != 0):=e;subst e';exact PySem.P.truthy_str (by omega) ⟨H,I.tok _,q⟩
 |byt y=>
  obtain⟨t,rfl⟩:=rx;obtain⟨hy,e'⟩:y.size<=sizeLine/\k=((y.size:Int) != 0):=e;subst e';exact W.truthy_bytes (by omega) ⟨H,I.tok _,q⟩
 |ref p=>
  cases rx;have e':(∃xs,SqL X.K H p xs/\k= !xs.isEmpty)\/(∃xs,SqT X.K H p xs/\k= !xs.isEmpty)\/∃kvs,H p=some (.dK kvs)/\k= !kvs.isEmpty:=e;rcases e' with ⟨xs,hx,e'⟩|⟨xs,hx,e'⟩|⟨kvs,hx,e'⟩
  ·subst e';obtain⟨its,r,pl,hz⟩:=I.list hx;have hlen:=r.length;exact wpAny_truthy_list pl.isList (by simp only[Zk];omega) ⟨H,I.tok _,by rw[nA r];exact q⟩
  ·subst e';obtain⟨its,r,pl,hz⟩:=I.tuple hx;have hlen:=r.length;exact truthy_tuple pl (by simp only[Zk];omega) ⟨H,I.tok _,by rw[nA r];exact q⟩
  ·subst e';obtain⟨hz,hS,vs,r,m⟩:kvs.length<=sizeLine/\(p==sysModules)=false/\∃vs,KV kvs vs/\s.heap.DictOf (bX X.prog X.w) p vs:=I.hok p _ hx;have hlen:kvs.length=vs.length:=Paired.length r;exact wpAny_truthy_dict hS m (by omega) ⟨H,I.tok _,by rw[tY r];exact q⟩
 |_=>exact(show False from e).elim
theorem rO(ha:PE X a ta)(he:∀whole,isTrue a X.env whole=(do let v <- whole;standAt a.pos;holding [v] (truthy v))):
 PT X a (λσ H Q=>ta σ H λx H'=>∃k,uY X.K x H' k/\Q k H'):=by
 intro pins s σ H Q I h;exact isTrue_plain (bM (ha pins s σ H _ I h) λv s1 ⟨x,H1,I1,r1,q1⟩=>zH pins s1 σ H1 x v Q I1 r1 q1) (he _)
theorem mM:jI X (binaryOp .Add) (λx y H Q=>∃i j,x=.str i/\y=.str j/\i.length+j.length<=sizeLine/\Q (.str (i++j)) H):=by
 intro pins s σ H x y v u Q I rx ry h;obtain⟨i,j,rfl,rfl,hz,q⟩:=h;obtain⟨t,rfl⟩:=rx;obtain⟨t',rfl⟩:=ry;exact add_str (λt' tk=>⟨.str (i++j),H,I.tok _,⟨_,rfl⟩,q⟩) hz
theorem gE{x:V}{us:List Value}(r:Vals [x] us):∃u,us=[u]/\RelV x u:=by
 cases r with
 |cons r1 r2=>cases r2;exact⟨_,rfl,r1⟩
theorem IG{x y:V}{us:List Value}(r:Vals [x,y] us):∃u w',us=[u,w']/\RelV x u/\RelV y w':=by
 cases r with
 |cons r1 r2=>
  cases r2 with
  |cons r3 r4=>cases r4;exact⟨_,_,rfl,r1,r3⟩
theorem yL(hc:X.calm=true):dN X (.builtin "max") (λxs H Q=>∃i j,xs=[.int i,.int j]/\Q (.int (if j>i then j else i)) H):=by
 intro pins s σ H xs us Q I r h;obtain⟨i,j,rfl,q⟩:=h;obtain⟨u,w',rfl,⟨t,rfl⟩,⟨t',rfl⟩⟩:=IG r;refine max_two_ints (I.ok.hd hc) λh' tk k=>⟨_,H,I.kept k,?_,q⟩
 by_cases hj:j>i
 ·rw[if_pos hj,if_pos hj];exact⟨_,rfl⟩
 ·rw[if_neg hj,if_neg hj];exact⟨_,rfl⟩
theorem yK(hc:X.calm=true):dN X (.builtin "min") (λxs H Q=>∃i j,xs=[.int i,.int j]/\Q (.int (if j<i then j else i)) H):=by
 intro pins s σ H xs us Q I r h;obtain⟨i,j,rfl,q⟩:=h;obtain⟨u,w',rfl,⟨t,rfl⟩,⟨t',rfl⟩⟩:=IG r;refine min_two_ints (I.ok.hd hc) λh' tk k=>⟨_,H,I.kept k,?_,q⟩
 by_cases hj:j<i
 ·rw[if_pos hj,if_pos hj];exact⟨_,rfl⟩
 ·rw[if_neg hj,if_neg hj];exact⟨_,rfl⟩
theorem pA:dN X (.type "int") (λxs H Q=>(∃i,xs=[.int i]/\Q (.int i) H)\/∃k,xs=[.bl k]/\Q (.int (if k then 1 else 0)) H):=by
 intro pins s σ H xs us Q I r h;rcases h with ⟨i,rfl,q⟩|⟨k,rfl,q⟩
 ·obtain⟨u,rfl,t,rfl⟩:=gE r;exact call_int_int ⟨.int i,H,I,⟨_,rfl⟩,q⟩
 ·obtain⟨u,rfl,r1⟩:=gE r;cases r1;exact call_int_bool ⟨.int (if k then 1 else 0),H,I.tok _,⟨_,rfl⟩,q⟩
end
end L2
namespace L2
open PySem PySem.Spec PyProof.Rows
structure ObjM (h:Heap)(x dx C:Addr)(mA:Str->Option Value):Prop where
 obj:h.get? x=some (W.instObj C dx)
 ns:h.Ns1 dx mA
 ne:dx≠x
theorem xS{h:Heap}{dx:Addr}{mA:Str->Option Value}(n:h.Ns1 dx mA):∃od,h.get? dx=some od/\∀name,W.lookIn name od=some (mA name):=by
 obtain⟨o,es,ep,ho,hd,hk,_,hm⟩:=n;refine⟨o,ho,λname=>?_⟩;have e:=hm name;unfold nsFind findBy at e;rw[<- Array.find?_toList] at e;unfold W.lookIn;rw[hd];dsimp only;split
 ·rename_i y q;rw[q] at e;exact congrArg some e
 ·rename_i q;rw[q] at e
  have a:es.toList.any (·.refKey)=false:=by
   rw[List.any_eq_false];intro y hy;obtain⟨z,t,hkey⟩:=hk y (Array.mem_toList_iff.mp hy);simp[DictEntry.refKey,hkey]
  have a':¬es.toList.any (·.refKey)=true:=by rw[a];exact Bool.false_ne_true
  rw[if_neg a'];exact congrArg some e
theorem ObjM.look{h:Heap}{x dx C:Addr}{mA:Str->Option Value}(I:ObjM h x dx C mA):∃od,W.InstAt h x (W.instObj C dx) C (some od)/\∀name,W.lookIn name od=some (mA name):=
 let⟨od,ho,hl⟩:=xS I.ns
 ⟨od,⟨I.obj,rfl,rfl,ho⟩,hl⟩
section
variable {prog:Program}{w:World}{A:Around}{E:Value->Shared->Prop}{s:Shared}{K:W.Frag}{x dx C f:Addr}{mA:Str->Option Value}{name:Str}{v:Value}
theorem GB{expr:Bool}{Q:Value->Shared->Prop}(X:K.In s.heap)(I:ObjM s.heap x dx C mA)(hg:W.plainGet K C name=true)(hh:W.hasDictIn K C=true)
 (ha:W.findIn K (.ref C) name=some none)(hv:mA name=some v)(hv':W.handedIn v=true)(h:Q v {s with toks:=s.toks+1}):
 wpAny (model prog w) A (getAttr (.ref x) name expr) Q E s:=by
 obtain⟨od,J,hl⟩:=I.look;exact W.get_value X J (W.plainGet_of hg).1 (W.findObj_own hh ha rfl (by rw[hl,hv])) hv' h
theorem BO{pl:Sem Bool}{Q:Value×List Value->Shared->Prop}(X:K.In s.heap)(I:ObjM s.heap x dx C mA)(hg:W.plainGet K C name=true)
 (hf:W.findIn K (.ref C) name=some (some (.ref f)))(ht:W.isFn K (.ref f)=true)(hv:mA name=none)(h:Q (.ref f,[.ref x]) s):
 wpAny (model prog w) A (getMethod (.ref x) name pl) Q E s:=by
 obtain⟨od,J,hl⟩:=I.look;exact W.method_fn X J (W.plainGet_of hg).1 (W.plainGet_of hg).2 hf (beq_iff_eq.mp ht) (by show(W.lookIn name od).map (·.isSome)=some false;rw[hl,hv];rfl) h
theorem EN{ns:List Str}{Q:Unit->Shared->Prop}(X:K.In s.heap)(I:ObjM s.heap x dx C mA)
 (hs:W.findIn K (.ref C) "__setattr__"=some (some (.builtin "object.__setattr__")))(hp:W.plainOver K C=true)(ht:W.takerIn K C name=some none)(hh:W.hasDictIn K C=true)
 (hw:PySem.Within mA ns)(hsz:ns.length<=sizeLine)
 (h:∀h',ObjM h' x dx C (λy=>if y=name then some v else mA y)->Heap.SameBut dx s.heap h'->Q () {s with heap:=h',toks:=s.toks+2}):
 wpAny (model prog w) A (setAttr (.ref x) name v) Q E s:=by
 obtain⟨od,J,hl⟩:=I.look;refine W.set_plain X J hs (W.osa_open (s:={s with toks:=s.toks+1}) (r:=none) X J hp ht λb=>?_);obtain⟨cd,hc,hd'⟩:=W.any_some hh;have hx:s.heap.get? x=some ⟨.ref C,some dx,.plain, #[]⟩:=I.obj;refine Za (Zb (Za (Za (wpAny_loadPart hx (Za (W.Looks.here (s:={s with toks:=s.toks+1}) (W.looks_clsIn X hc) ?_))))));rw[hd'];refine Zb (a:=some dx) (Za (Zb (Za ?_)));refine wpAny_nsSet1 (s:={s with toks:=s.toks+1}) I.ns λh' hn2 hs2=>?_;obtain⟨oD,esD,epD,hoD,hdD,hcD⟩:=hn2.count (PySem.Within.cons name v hw);refine Za (wpAny_lookBehind hoD (by rw[hdD];exact pastItsLine_dict (Nat.le_trans hcD (by rw[List.length_cons];omega))) ?_);exact Zb (h _ ⟨(hs2.2 _ (Ne.symm I.ne)).trans I.obj,hn2,I.ne⟩ hs2)
theorem rT{R:Result->Shared->Prop}{vs:List Value}{kw:List (Str×Value)}(X:K.In s.heap)(hm:W.makesIn K C=true)
 (hi:W.findIn K (.ref C) "__init__"=some (some (.ref f)))(hf:W.typeIn K (.ref f)=some (.type "function"))
 (h:codeAny (model prog w) (A.under (.builtin "type.__call__" ⟨.ref C::vs,kw⟩)) (.call (.ref f) ⟨.ref (s.heap.objs.size+1)::vs,kw⟩) (W.InitBack (s.heap.objs.size+1) R)
   {s with heap:=(s.heap.push W.emptyDict).push (W.instObj C s.heap.objs.size)}):
 codeAny (model prog w) A (.call (.ref C) ⟨vs,kw⟩) R s:=by
 obtain⟨hh,g,d,t,os⟩:=s;exact W.make_core (W.makes_of X hm) (W.looks_findIn X hi) (λself=>W.bind_fn X self hf) (.inl rfl) h
end
noncomputable def fI(f:Str)(v:V):List (Str×V)->List (Str×V)
 | []=>[(f,v)]
 |(g,x)::r=>if g=f then(g,v)::r else(g,x)::fI f v r
theorem kY(f g:Str)(v:V):∀fs:List (Str×V),(fI f v fs).lookup g=if g=f then some v else fs.lookup g
 | []=>by
   show List.lookup g [(f,v)]=_
   by_cases h:g=f
   ·have hb:(g==f)=true:=beq_iff_eq.mpr h;simp only[List.lookup,hb,if_pos h]
   ·have hb:(g==f)=false:=beq_eq_false_iff_ne.mpr h;simp only[List.lookup,hb,if_neg h]
 |(k,x)::r=>by
  have ih:=kY f g v r;rw[show fI f v ((k,x)::r)=(if k=f then(k,v)::r else(k,x)::fI f v r) from rfl]
  by_cases hk:k=f
  ·rw[if_pos hk]
   by_cases h:g=k
   ·have hb:(g==k)=true:=beq_iff_eq.mpr h;simp only[List.lookup,hb,if_pos (h.trans hk)]
   ·have hb:(g==k)=false:=beq_eq_false_iff_ne.mpr h;simp only[List.lookup,hb,if_neg (λe:g=f=>h (e.trans hk.symm))]
  ·rw[if_neg hk]
   by_cases h:g=k
   ·have hb:(g==k)=true:=beq_iff_eq.mpr h;simp only[List.lookup,hb,if_neg (λe:g=f=>hk (h.symm.trans e))]
   ·have hb:(g==k)=false:=beq_eq_false_iff_ne.mpr h;simp only[List.lookup,hb];exact ih
theorem kO(f:Str)(v:V):∀fs:List (Str×V),f∈(fI f v fs).map (·.1)/\∀g,g∈fs.map (·.1)->g∈(fI f v fs).map (·.1)
 | []=>⟨by simp[fI],λg h=>by simp at h⟩
 |(k,x)::r=>by
  obtain⟨i1,i2⟩:=kO f v r;rw[show fI f v ((k,x)::r)=(if k=f then(k,v)::r else(k,x)::fI f v r) from rfl]
  by_cases hk:k=f
  ·rw[if_pos hk];subst hk;exact⟨by simp,λg h=>by simpa using h⟩
  ·rw[if_neg hk];refine⟨?_,λg h=>?_⟩
   ·rw[Zh];exact Zj _ i1
   ·rw[Zh] at h⊢;rcases List.mem_cons.mp h with e|e
    ·exact List.mem_cons.mpr (.inl e)
    ·exact Zj _ (i2 g e)
theorem kZ(f:Str)(v:V):∀fs:List (Str×V),(fI f v fs).length<=fs.length+1
 | []=>by simp[fI]
 |(k,x)::r=>by
  have ih:=kZ f v r;rw[show fI f v ((k,x)::r)=(if k=f then(k,v)::r else(k,x)::fI f v r) from rfl]
  by_cases hk:k=f
  ·rw[if_pos hk,List.length_cons,List.length_cons];omega
  ·rw[if_neg hk,List.length_cons,List.length_cons];omega
theorem RelO.some_of{v:V}{o:Option Value}(r:RelO (some v) o):∃u,o=some u/\RelV v u:=by
 cases o with
 |none=>exact(show False from r).elim
 |some u=>exact⟨u,rfl,r⟩
theorem RelO.none_of{o:Option Value}(r:RelO none o):o=none:=by
 cases o with
 |none=>rfl
 |some u=>exact(show False from r).elim
theorem xY{v:V}{u:Value}(r:RelV v u):W.handedIn u=true:=by
 cases v with
 |non=>cases(show u=Value.none from r);rfl
 |bl b=>cases(show u=Value.bool b from r);rfl
 |int i=>obtain⟨t,e⟩:=(show ∃t,u=Value.int i t from r);cases e;rfl
 |str x=>obtain⟨t,e⟩:=(show ∃t,u=Value.str x t from r);cases e;rfl
 |byt b=>obtain⟨t,e⟩:=(show ∃t,u=Value.bytes b t from r);cases e;rfl
 |flt b=>obtain⟨t,e⟩:=(show ∃t,u=Value.float b t from r);cases e;rfl
 |ref a=>cases(show u=Value.ref a from r);rfl
 |ty n=>cases(show u=Value.type n from r);rfl
section
variable {P:Program}{w:World}{H H':Hp}{h h':Heap}{a C dx:Addr}{fs fs':List (Str×V)}
theorem qA(hok:HOk P w H h)(e:H a=some (.ins C dx fs)):∃mA,ObjM h a dx C mA/\(∀f,RelO (fs.lookup f) (mA f))/\PySem.Within mA (fs.map (·.1))/\fs.length<=1000/\H dx=some (.own a):=by
 obtain⟨d,z,ne,ob,mA,n,r,q⟩:=(show ObjOk P w H h a (.ins C dx fs) from hok a _ e);exact⟨mA,⟨ob,n,ne⟩,r,q,z,d⟩
end
structure Cls (K:W.Frag)(C:Addr):Prop where
 pg:W.plainGet K C Str.empty=true
 hd:W.hasDictIn K C=true
 po:W.plainOver K C=true
 sa:W.findIn K (.ref C) "__setattr__"=some (some (.builtin "object.__setattr__"))
theorem Cls.get{K:W.Frag}{C:Addr}(c:Cls K C)(f:Str):W.plainGet K C f=true:=c.pg
def NoAttr(K:W.Frag)(C:Addr)(f:Str):Prop:=W.findIn K (.ref C) f=some none
theorem NoAttr.taker{K:W.Frag}{C:Addr}{f:Str}(n:NoAttr K C f):W.takerIn K C f=some none:=by
 unfold W.takerIn;rw[show W.findIn K (.ref C) f=some none from n];rfl
structure Meth (K:W.Frag)(C:Addr)(m:Str)(f:Addr):Prop where
 at_:W.findIn K (.ref C) m=some (some (.ref f))
 fn:W.isFn K (.ref f)=true
 kp:W.keepIn K (.ref f)=true
section
variable {X:Cx}{pins:List (Addr×Obj)}{σ:St}{H:Hp}{s:Shared}{a C dx:Addr}{fs:List (Str×V)}{f:Str}{v:V}{A:Around}{E:Value->Shared->Prop}
theorem uA{b:Bool}{Q:Value->Shared->Prop}(I:Inv X pins σ H s)(e:H a=some (.ins C dx fs))(c:Cls X.K C)(n:NoAttr X.K C f)(l:fs.lookup f=some v)
 (h:∀u s',Inv X pins σ H s'->RelV v u->Q u s'):wpAny (model X.prog X.w) A (getAttr (.ref a) f b) Q E s:=by
 obtain⟨mA,O,r,_,_,_⟩:=qA I.hok e;obtain⟨u,hu,ru⟩:=RelO.some_of (v:=v) (o:=mA f) (by rw[<- l];exact r f);exact GB I.kIn O (c.get f) c.hd n hu (xY ru) (h u _ (I.tok _) ru)
theorem iX{m:Str}{g:Addr}{pl:Sem Bool}{Q:Value×List Value->Shared->Prop}(I:Inv X pins σ H s)(e:H a=some (.ins C dx fs))(c:Cls X.K C)(k:Meth X.K C m g)(l:fs.lookup m=none)
 (h:Q (.ref g,[.ref a]) s):wpAny (model X.prog X.w) A (getMethod (.ref a) m pl) Q E s:=by
 obtain⟨mA,O,r,_,_,_⟩:=qA I.hok e;have hn:mA m=none:=RelO.none_of (by rw[<- l];exact r m);exact BO I.kIn O (c.get m) k.at_ k.fn hn h
theorem tG{y:V}{u:Value}{Q:Unit->Shared->Prop}(I:Inv X pins σ H s)(e:H a=some (.ins C dx fs))(c:Cls X.K C)(n:NoAttr X.K C f)(hl:fs.length<1000)(ry:RelV y u)
 (h:∀s',Inv X pins σ (bI H a (.ins C dx (fI f y fs))) s'->Q () s'):wpAny (model X.prog X.w) A (setAttr (.ref a) f u) Q E s:=by
 obtain⟨mA,O,r,wi,_,ho⟩:=qA I.hok e;have hz:(fs.map (·.1)).length<=sizeLine:=by rw[Zc,sizeLine_eq];omega
 refine EN I.kIn O c.sa c.po n.taker c.hd wi hz λh' O' sb=>h _ ?_;have hd:∃o,h'.get? dx=some o:=let⟨o,_,_,e',_⟩:=O'.ns;⟨o,e'⟩;refine I.write (x:=a) (e:=dx) (by rw[e];exact True.intro) (.inr ho) (λb q hb z=>(sb.2 b hb).trans z) hd ?_;refine⟨by rw[aK O.ne];exact ho,?_,O.ne,O'.obj,_,O'.ns,λg=>?_,λg hg=>?_⟩
 ·have:=kZ f y fs;omega
 ·show RelO ((fI f y fs).lookup g) (if g=f then some u else mA g);rw[kY]
  by_cases q:g=f
  ·rw[if_pos q,if_pos q];exact ry
  ·rw[if_neg q,if_neg q];exact r g
 ·by_cases q:g=f
  ·rw[q];exact(kO f y fs).1
  ·refine(kO f y fs).2 g (wi g λz=>hg ?_)
   show(if g=f then some u else mA g)=none
   rw[if_neg q];exact z
theorem Inv.made(I:Inv X pins σ H s):Inv X pins σ (bI (bI H s.heap.objs.size (.own (s.heap.objs.size+1))) (s.heap.objs.size+1) (.ins C s.heap.objs.size []))
 {s with heap:=(s.heap.push W.emptyDict).push (W.instObj C s.heap.objs.size)}:=by
 have e1:(s.heap.push W.emptyDict).get? s.heap.objs.size=some W.emptyDict:=Heap.get?_push_size s.heap rfl
 have e2:((s.heap.push W.emptyDict).push (W.instObj C s.heap.objs.size)).get? (s.heap.objs.size+1)=some (W.instObj C s.heap.objs.size):=by
  have:=Heap.get?_push_size (s.heap.push W.emptyDict) (o:=W.instObj C s.heap.objs.size) rfl;rwa [Heap.size_push] at this
 have e3:(s.heap.push W.emptyDict).Ns s.heap.objs.size (λ_=>none):=⟨W.emptyDict, #[],_,e1,rfl,(λe he=>absurd he (by simp)),λ_=>rfl⟩;have I1:=I.laid (a:=s.heap.objs.size) (o:=.own (s.heap.objs.size+1)) (h':=s.heap.push W.emptyDict) (t':=s.toks) (λb u q=>Zf _ q) (Zn _) ⟨_,e1⟩;refine I1.laid (a:=s.heap.objs.size+1) (o:=.ins C s.heap.objs.size []) (t':=s.toks) (λb u q=>Zf _ q) (Nat.le_of_eq (Heap.size_push _ _)) ?_;have ne:s.heap.objs.size≠s.heap.objs.size+1:=Nat.ne_of_lt (Nat.lt_succ_self _);refine⟨by rw[aK ne,aS],Nat.zero_le _,ne,e2,λ_=>none,(Heap.Ns1.of_empty e3).at λo q=>Zf _ q,λ_=>True.intro,λy hy=>absurd rfl hy⟩
theorem HP{prog:Program}{w:World}{env:Env}{e:Expr}{f:Str}{pos:Pos}{s:Shared}{Q:Value->Shared->Prop}(hb:attributeBase e f env (eval e env)=eval e env)
 (h:wpAny (model prog w) A (eval e env) (λo s₁=>wpAny (model prog w) A (getAttr o f true) Q E s₁) E s):wpAny (model prog w) A (eval (.Attribute e f pos) env) Q E s:=
 Attribute_any_ h (by rw[arm_eval_Attribute,hb])
end
def WD(K:W.Frag)(ta:TE)(f:Str):TE:=λσ H Q=>ta σ H λx H1=>∃a C dx fs v,x=.ref a/\H1 a=some (.ins C dx fs)/\Cls K C/\NoAttr K C f/\fs.lookup f=some v/\Q v H1
def WI(K:W.Frag)(ta tv:TE)(f:Str):TS:=λD σ H=>tv σ H λy H1=>ta σ H1 λx H2=>∃a C dx fs,x=.ref a/\H2 a=some (.ins C dx fs)/\Cls K C/\NoAttr K C f/\fs.length<1000/\
 D.nx σ (bI H2 a (.ins C dx (fI f y fs)))
section
variable {X:Cx}{o e value:Expr}{f:Str}{pos pos' tpos:Pos}{ta tv:TE}
theorem MC(he:PE X e ta)(hb:attributeBase e f X.env (eval e X.env)=eval e X.env):PE X (.Attribute e f pos) (WD X.K ta f):=by
 intro pins s σ H Q I h;refine HP hb (bM (he pins s σ H _ I h) λu s1 ⟨x,H1,I1,rx,a,C,dx,fs,v,ex,ea,c,n,l,q⟩=>?_);subst ex;obtain rfl:u=Value.ref a:=rx;exact uA I1 ea c n l λu' s2 I2 ru=>⟨v,H1,I2,ru,q⟩
theorem LQ(ha:PE X o ta)(hv:PE X value tv)(hs:swapsWith value (some (.Attribute o f pos')) pos.line X.env=pure false):PS X (.Assign [.Attribute o f pos'] value pos) (WI X.K ta tv f):=by
 intro pins s σ H D I h;refine plainObj_wpAny_Assign_Attribute (bM (hv pins s σ H _ I h) λu s1 ⟨y,H1,I1,ry,q⟩=>bM (ha pins s1 σ H1 _ I1 q) λov s2 ⟨x,H2,I2,rx,a,C,dx,fs,ex,ea,c,n,l,q2⟩=>?_) hs;subst ex;obtain rfl:ov=Value.ref a:=rx;exact tG I2 ea c n l ry λs3 I3=>⟨σ,_,I3,q2⟩
end
section
variable {X:Cx}{pins:List (Addr×Obj)}{σ:St}{H:Hp}{s:Shared}{A:Around}{E:Value->Shared->Prop}{Q:Value->Shared->Prop}{c:Value}{b:Bool}
end
end L2
namespace L2
open PySem PySem.Spec PyProof.Rows
structure Room (k:Nat)(A:Around):Prop where
 hd:A.handled=none
 dp:A.depth+3*k+5<recursionLimit
 un:A.units+16*k+200<cLine
theorem Room.mono{j k:Nat}{A:Around}(r:Room k A)(h:j<=k):Room j A:=⟨r.hd,by have:=r.dp;omega,by have:=r.un;omega⟩
theorem Room.deeper{k:Nat}{A:Around}(r:Room (k+1) A)(env:Env):Room k (A.deeper env):=
 ⟨r.hd,by have:=r.dp;show A.depth+1+3*k+5<_;omega,by have:=r.un;show A.units+3+16*k+200<_;omega⟩
theorem tT{A:Around}{C:Addr}{us:List Value}{kw:List (Str×Value)}:(A.under (.builtin "type.__call__" ⟨.ref C::us,kw⟩)).depth=A.depth+1:=by
 first |rfl|simp[Around.under,Code.weight,Code.isCreation,Code.isGuard,Code.isCaller,Code.frames,Code.isFrame,guardIds]
theorem tS{A:Around}{C:Addr}{us:List Value}{kw:List (Str×Value)}:(A.under (.builtin "type.__call__" ⟨.ref C::us,kw⟩)).units=A.units+1:=by
 first |rfl|simp[Around.under,Code.cUnits,Code.frames,Code.isFrame]
theorem Room.make{k:Nat}{A:Around}(r:Room (k+1) A)(C:Addr)(us:List Value)(kw:List (Str×Value)):Room k (A.under (.builtin "type.__call__" ⟨.ref C::us,kw⟩)):=
 ⟨r.hd,by have:=r.dp;rw[tT];omega,by have:=r.un;rw[tS];omega⟩
theorem Room.depth{k:Nat}{A:Around}(r:Room k A):A.depth<recursionLimit:=by have:=r.dp;omega
theorem Room.units{k:Nat}{A:Around}(r:Room k A):A.units+64<cLine:=by have:=r.un;omega
noncomputable def mD:TA:=λ_ H Q=>Q [] H
noncomputable def jN(ta:TE)(tr:TA):TA:=λσ H Q=>ta σ H λx H1=>tr σ H1 λxs H2=>Q (x::xs) H2
section
variable {X:Cx}{e:Expr}{es:List Expr}{te:TE}{t:TA}{pos:Pos}
theorem iQ:PA X [] mD:=λ_ _ _ _ H Q I h=>Calls.spliced_nil ⟨[],H,I,.nil,h⟩
theorem eR(ha:PE X e te)(hr:PA X es t)(hs:starEach (e::es) X.env=(false,eval e X.env)::starEach es X.env:=by rfl):PA X (e::es) (jN te t):=by
 intro pos pins s σ H Q I h;rw[hs];show wpAny _ _ (spliced ((false,eval e X.env)::backTo pos (starEach es X.env))) _ _ s;refine Calls.spliced_cons (bM (ha pins s σ H _ I h) λu s1 ⟨x,H1,I1,r1,q1⟩=>?_);exact bM (hr pos pins s1 σ H1 _ I1 q1) λus s2 ⟨xs,H2,I2,r2,q2⟩=>⟨x::xs,H2,I2,.cons r1 r2,q2⟩
def VV(t:TA):TE:=λσ H Q=>t σ H λxs H1=>xs.length<=sizeLine/\∀p,H1 p=none->Q (.ref p) (bI H1 p (.tup xs))
def WA(t:TA):TE:=λσ H Q=>t σ H λxs H1=>xs.length<=sizeLine/\∀p,H1 p=none->Q (.ref p) (bI H1 p (.lst xs))
theorem LX{x1}(h:PA X es t):PE X (.Tuple es x1 pos) (VV t):=by
 intro pins s σ H Q I hq;refine wpAny_Tuple_spliced (bM (h pos pins s σ H _ I hq) λus s1 ⟨xs,H1,I1,r,z,q⟩=>⟨by rw[<- r.length];exact z,?_⟩);have hf:H1 s1.heap.objs.size=none:=I1.hok.fresh (Zn _);refine⟨.ref s1.heap.objs.size,bI H1 s1.heap.objs.size (.tup xs),I1.laid (t':=s1.toks) (λb u e=>Zf _ e) (Zn _) ?_,rfl,q _ hf⟩;exact⟨z,us,r,⟨_,Heap.get?_push_size _ rfl,rfl,_,rfl⟩⟩
theorem MA(h:PA X es t):PE X (.List es pos) (WA t):=by
 intro pins s σ H Q I hq;refine wpAny_List_spliced (bM (h pos pins s σ H _ I hq) λus s1 ⟨xs,H1,I1,r,z,q⟩=>⟨by rw[<- r.length];exact z,?_⟩);have hf:H1 s1.heap.objs.size=none:=I1.hok.fresh (Zn _);refine⟨.ref s1.heap.objs.size,bI H1 s1.heap.objs.size (.lst xs),I1.laid (t':=s1.toks) (λb u e=>Zf _ e) (Zn _) ?_,rfl,q _ hf⟩;exact⟨z,us,0,r,Heap.get?_push_size _ rfl⟩
end
noncomputable abbrev Sp:=List V->Hp->VK->XK->Prop
noncomputable abbrev yS:=List Env->Hp->Shared->XK->Value->Shared->Prop
structure Env0 (P:Program)(w:World)(K:W.Frag)(mg:Str->Option Value)(base:Heap)(A:Around)(outer:List Env)(s:Shared)(H:Hp):Prop where
 frames:A.frames=some outer
 mod:Mod K mg base
 bs:∀b o,base.get? b=some o->s.heap.get? b=some o/\H b=none
 bsz:base.objs.size<=s.heap.objs.size
 funs:s.heap.FunFrames base outer
 frf:∀b∈jH outer,H b=none
 hok:HOk P w H s.heap
 bare:AllBare s.gens
def CE(outer:List Env)(P:Program)(w:World)(H:Hp)(s:Shared)(Q:VK)(u:Value)(s':Shared):Prop:=
 ∃v H',s'.os=s.os/\AllBare s'.gens/\Un (jH outer) [] H H' s.heap s'.heap/\HOk P w H' s'.heap/\RelV v u/\Q v H'
def CR(CX:yS)(outer:List Env)(P:Program)(w:World)(H:Hp)(s:Shared)(Q:VK)(E:XK)(r:Result)(s':Shared):Prop:=
 match r with
 |.ok (.ret u)=>CE outer P w H s Q u s'
 |.ok _=>False
 |.error e=>CX outer H s E e s'
structure FnOk (P:Program)(w:World)(K:W.Frag)(mg:Str->Option Value)(base:Heap)(CX:yS)(k:Nat)(f:Addr)(fd:FuncData)(ps:List Str)(sp:Sp):Prop where
 len:∀vs H Q E,sp vs H Q E->vs.length=ps.length
 run:∀(A:Around)(outer:List Env)(s:Shared)(H:Hp)(args:Args)(us:List Value)(vs:List V)(Q:VK)(E:XK),Room k A->Env0 P w K mg base A outer s H->BindsTo s fd args (ps.zip us)->Vals vs us->sp vs H Q E->
  codeAny (model P w) A (.call (.ref f) args) (CR CX outer P w H s Q E) s
theorem FnOk.imp{P:Program}{w:World}{K:W.Frag}{mg:Str->Option Value}{base:Heap}{CX:yS}{k:Nat}{f:Addr}{fd:FuncData}{ps:List Str}{sp sp':Sp}(F:FnOk P w K mg base CX k f fd ps sp)
 (h:∀vs H Q E,sp' vs H Q E->sp vs H Q E):FnOk P w K mg base CX k f fd ps sp':=
 ⟨λvs H Q E q=>F.len vs H Q E (h _ _ _ _ q),λA outer s H args us vs Q E hr he hb hv hs=>F.run A outer s H args us vs Q E hr he hb hv (h _ _ _ _ hs)⟩
theorem Env0.make{P:Program}{w:World}{K:W.Frag}{mg:Str->Option Value}{base:Heap}{A:Around}{outer:List Env}{s:Shared}{H:Hp}(e:Env0 P w K mg base A outer s H)(C:Addr)(us:List Value)(kw:List (Str×Value)):
 Env0 P w K mg base (A.under (.builtin "type.__call__" ⟨.ref C::us,kw⟩)) outer s H:=⟨by first |exact e.frames|(simpa [Around.under,Code.envs,Code.isFrame,pushEnvs] using e.frames),e.mod,e.bs,e.bsz,e.funs,e.frf,e.hok,e.bare⟩
section
variable {X:Cx}{pins:List (Addr×Obj)}{σ:St}{H:Hp}{s s':Shared}
theorem Inv.env0(I:Inv X pins σ H s):Env0 X.prog X.w X.K X.mg X.base X.A X.stack s H:=
 ⟨I.ok.frames,I.ok.mod,I.bs,Nat.le_trans I.ok.bsz I.sz,I.stack,I.stkFree,I.hok,I.bare⟩
theorem Inv.after{Q:VK}{u:Value}(I:Inv X pins σ H s)(h:CE X.stack X.prog X.w H s Q u s'):EP X pins σ Q u s':=by
 obtain⟨v,H',os,bare,un,hok,r,q⟩:=h;obtain⟨hh,g,d,t,os'⟩:=s';obtain rfl:os'=s.os:=os;exact⟨v,H',I.call (h':=hh) (g':=g) (d':=d) (t':=t) (ch:= []) un hok bare (λb z=>absurd z (by simp)),r,q⟩
end
def IM(sp:Sp)(dvs:List V)(E:XK)(t:TA):TE:=λσ H Q=>t σ H λvs H1=>sp (vs++dvs) H1 Q E
def IK(C:Addr)(m:Str)(sp:Sp)(dvs:List V)(E:XK)(ta:TE)(t:TA):TE:=λσ H Q=>ta σ H λx H1=>∃a dx fs,x=.ref a/\H1 a=some (.ins C dx fs)/\fs.lookup m=none/\
 t σ H1 λvs H2=>sp (x::(vs++dvs)) H2 Q E
def IL(C:Addr)(sp:Sp)(dvs:List V)(E:XK)(t:TA):TE:=λσ H Q=>t σ H λvs H1=>∀x dx,H1 x=none->H1 dx=none->dx≠x->
 sp (.ref x::(vs++dvs)) (bI (bI H1 dx (.own x)) x (.ins C dx [])) (λv H2=>v=.non/\Q (.ref x) H2) E
def Binds(K:W.Frag)(fd:FuncData)(ps:List Str)(ds:List Value):Prop:=
 ∀(s:Shared)(us:List Value),K.In s.heap->(us++ds).length=ps.length->BindsTo s fd ⟨us,[]⟩ (ps.zip (us++ds))
theorem Binds.all{K:W.Frag}{fd:FuncData}{ps:List Str}(h:∀us:List Value,us.length=ps.length->bindArgs fd ⟨us,[]⟩=pure (ps.zip us)):Binds K fd ps []:=λs us _ hl=>by
 rw[Zm] at hl⊢;exact .of_eq (h us hl)
def gC(CX:yS)(X:Cx)(E:XK):Prop:=∀(pins:List (Addr×Obj))(σ:St)(H:Hp)(s:Shared)(e:Value)(s':Shared),Inv X pins σ H s->CX X.stack H s E e s'->X.xe e s'
section
variable {X:Cx}{CX:yS}{k:Nat}{f C:Addr}{fd:FuncData}{ps:List Str}{sp:Sp}{dvs:List V}{ds:List Value}{E:XK}{x m:Str}{p pos apos:Pos}{e o:Expr}{es:List Expr}{ta:TE}{t:TA}
theorem pO{pins:List (Addr×Obj)}{σ:St}{H:Hp}{s:Shared}{Q:VK}{us:List Value}{vs:List V}(F:FnOk X.prog X.w X.K X.mg X.base CX k f fd ps sp)(hr:Room k X.A)(hb:Binds X.K fd ps ds)(hd:Vals dvs ds)(hx:gC CX X E)
 (I:Inv X pins σ H s)(r:Vals vs us)(h:sp (vs++dvs) H Q E):wpAny (model X.prog X.w) X.A (call (.ref f) us) (EP X pins σ Q) X.xe s:=by
 have r2:Vals (vs++dvs) (us++ds):=r.append hd;have hl:(us++ds).length=ps.length:=by rw[<- r2.length];exact F.len _ _ _ _ h
 refine wpAny_call (codeAny_mono (F.run X.A X.stack s H ⟨us,[]⟩ (us++ds) (vs++dvs) Q E hr I.env0 (hb s us I.kIn hl) r2 h) λr s' hq=>?_);cases r with
 |error e=>exact hx pins σ H s e s' I hq
 |ok fl=>
  cases fl with
  |ret u=>exact I.after hq
  |next=>exact False.elim hq
  |brk=>exact False.elim hq
  |cont=>exact False.elim hq
theorem EY(F:FnOk X.prog X.w X.K X.mg X.base CX k f fd ps sp)(hr:Room k X.A)(hg:Gl X x)(hm:X.mg x=some (.ref f))(hk:W.keepIn X.K (.ref f)=true)(hb:Binds X.K fd ps ds)(hd:Vals dvs ds)(hx:gC CX X E)
 (ha:PA X (e::es) t)(hdb:(x==("__debug__":Str))=false:=by decide)(he:starEach (e::es) X.env=(false,eval e X.env)::starEach es X.env:=by rfl)(hpl:(backTo pos (starEach es X.env)).any (·.1)=false:=by rfl):
 PE X (.Call (.Name x p) (e::es) [] pos) (IM sp dvs E t):=by
 intro pins s σ H Q I h;refine wpAny_Call_Name_kw (dX I hg hm ?_ hdb);refine W.callWith_K (h₀:=X.base) I.ok.mod.kin hk (bM (ha pos pins s σ H _ I h) λus s1 ⟨vs,H1,I1,r,q⟩=>⟨I1.kIn,?_⟩) he hpl;exact pO F hr hb hd hx I1 r q
theorem AY(F:FnOk X.prog X.w X.K X.mg X.base CX k f fd ps sp)(hr:Room k X.A)(hg:Gl X x)(hm:X.mg x=some (.ref f))(hk:W.keepIn X.K (.ref f)=true)(hb:Binds X.K fd ps ds)(hd:Vals dvs ds)(hx:gC CX X E)
 (hdb:(x==("__debug__":Str))=false:=by decide):PE X (.Call (.Name x p) [] [] pos) (IM sp dvs E mD):=by
 intro pins s σ H Q I h;refine wpAny_Call_Name_kw (dX I hg hm ?_ hdb);exact W.callWith_K0 I.kIn hk (pO (us:= []) F hr hb hd hx I .nil h)
theorem EV{pl:Sem Bool}(he:PE X o ta)(c:Cls X.K C)(hm:Meth X.K C m f)(F:FnOk X.prog X.w X.K X.mg X.base CX k f fd ps sp)(hr:Room k X.A)(hb:Binds X.K fd ps ds)(hd:Vals dvs ds)(hx:gC CX X E)(ha:PA X (e::es) t)
 (hst:starEach (e::es) X.env=(false,eval e X.env)::starEach es X.env:=by rfl)(hpl:(backTo pos (starEach es X.env)).any (·.1)=false:=by rfl)
 (ht:eval (.Call (.Attribute o m apos) (e::es) [] pos) X.env=(do
   let ov <- eval o X.env
   standAt apos.atName
   let(f,first) <- holding [ov] (getMethod ov m pl)
   callWith pos f first (backTo pos (starEach (e::es) X.env)) (backToKw pos (keywordEach [] X.env))):=by rfl):
 PE X (.Call (.Attribute o m apos) (e::es) [] pos) (IK C m sp dvs E ta t):=by
 intro pins s σ H Q I h;refine W.methodCall_KW (pl:=pl) (bM (he pins s σ H _ I h) λu s1 ⟨x,H1,I1,rx,a,dx,fs,ex,ea,l,q⟩=>?_) ht;subst ex;obtain rfl:u=Value.ref a:=rx;refine iX I1 ea c hm l ?_;refine W.callWith_K (first:= [.ref a]) (h₀:=X.base) I.ok.mod.kin hm.kp (bM (ha pos pins s1 σ H1 _ I1 q) λus s2 ⟨vs,H2,I2,r,q2⟩=>⟨I2.kIn,?_⟩) hst hpl;exact pO (us:=.ref a::us) (vs:=.ref a::vs) F hr hb hd hx I2 (.cons rfl r) q2
theorem AQ{pl:Sem Bool}(he:PE X o ta)(c:Cls X.K C)(hm:Meth X.K C m f)(F:FnOk X.prog X.w X.K X.mg X.base CX k f fd ps sp)(hr:Room k X.A)(hb:Binds X.K fd ps ds)(hd:Vals dvs ds)(hx:gC CX X E)
 (ht:eval (.Call (.Attribute o m apos) [] [] pos) X.env=(do
   let ov <- eval o X.env
   standAt apos.atName
   let(f,first) <- holding [ov] (getMethod ov m pl)
   callWith pos f first (backTo pos (starEach [] X.env)) (backToKw pos (keywordEach [] X.env))):=by rfl):
 PE X (.Call (.Attribute o m apos) [] [] pos) (IK C m sp dvs E ta mD):=by
 intro pins s σ H Q I h;refine W.methodCall_KW (pl:=pl) (bM (he pins s σ H _ I h) λu s1 ⟨x,H1,I1,rx,a,dx,fs,ex,ea,l,q⟩=>?_) ht;subst ex;obtain rfl:u=Value.ref a:=rx;refine iX I1 ea c hm l ?_;exact W.callWith_K0 (first:= [.ref a]) I1.kIn hm.kp (pO (us:= [.ref a]) (vs:= [.ref a]) F hr hb hd hx I1 (.cons rfl .nil) q)
structure Mk (K:W.Frag)(C f:Addr):Prop where
 makes:W.makesIn K C=true
 init:W.findIn K (.ref C) "__init__"=some (some (.ref f))
 fn:W.isFn K (.ref f)=true
 kp:W.keepIn K (.ref C)=true
theorem rG{pins:List (Addr×Obj)}{σ:St}{H:Hp}{s:Shared}{Q:VK}{us:List Value}{vs:List V}(M:Mk X.K C f)(F:FnOk X.prog X.w X.K X.mg X.base CX k f fd ps sp)(hr:Room (k+1) X.A)(hb:Binds X.K fd ps ds)(hd:Vals dvs ds)
 (hx:gC CX X E)(I:Inv X pins σ H s)(r:Vals vs us)
 (h:∀x dx,H x=none->H dx=none->dx≠x->sp (.ref x::(vs++dvs)) (bI (bI H dx (.own x)) x (.ins C dx [])) (λv H2=>v=.non/\Q (.ref x) H2) E):
 wpAny (model X.prog X.w) X.A (call (.ref C) us) (EP X pins σ Q) X.xe s:=by
 have hq:=h (s.heap.objs.size+1) s.heap.objs.size (I.hok.fresh (Nat.le_succ _)) (I.hok.fresh (Zn _)) (Nat.ne_of_lt (Nat.lt_succ_self _));have I2:=Inv.made (C:=C) I;have r2:Vals (V.ref (s.heap.objs.size+1)::(vs++dvs)) (Value.ref (s.heap.objs.size+1)::(us++ds)):=.cons rfl (r.append hd)
 have hl:(Value.ref (s.heap.objs.size+1)::us++ds).length=ps.length:=by
  have e:=r2.length;rw[F.len _ _ _ _ hq] at e;exact e.symm
 refine wpAny_call (rT (f:=f) I.kIn M.makes M.init (beq_iff_eq.mp M.fn) (codeAny_mono (F.run _ X.stack _ _ ⟨Value.ref (s.heap.objs.size+1)::us,[]⟩ (Value.ref (s.heap.objs.size+1)::(us++ds)) _ _ E (hr.make C us [])
  (I2.env0.make C us []) (hb _ (Value.ref (s.heap.objs.size+1)::us) I2.kIn hl) r2 hq) λr s' hq'=>?_))
 cases r with
 |error e=>exact hx pins σ _ _ e s' I2 hq'
 |ok fl=>
  cases fl with
  |ret u=>
   obtain⟨v,H',I3,rv,ev,q3⟩:=I2.after hq';subst ev;exact⟨rv,⟨V.ref (s.heap.objs.size+1),H',I3,rfl,q3⟩⟩
  |next=>exact False.elim hq'
  |brk=>exact False.elim hq'
  |cont=>exact False.elim hq'
theorem EW(M:Mk X.K C f)(F:FnOk X.prog X.w X.K X.mg X.base CX k f fd ps sp)(hr:Room (k+1) X.A)(hg:Gl X x)(hm:X.mg x=some (.ref C))(hb:Binds X.K fd ps ds)(hd:Vals dvs ds)(hx:gC CX X E)
 (ha:PA X (e::es) t)(hdb:(x==("__debug__":Str))=false:=by decide)(he:starEach (e::es) X.env=(false,eval e X.env)::starEach es X.env:=by rfl)(hpl:(backTo pos (starEach es X.env)).any (·.1)=false:=by rfl):
 PE X (.Call (.Name x p) (e::es) [] pos) (IL C sp dvs E t):=by
 intro pins s σ H Q I h;refine wpAny_Call_Name_kw (dX I hg hm ?_ hdb);refine W.callWith_K (h₀:=X.base) I.ok.mod.kin M.kp (bM (ha pos pins s σ H _ I h) λus s1 ⟨vs,H1,I1,r,q⟩=>⟨I1.kIn,?_⟩) he hpl;exact rG M F hr hb hd hx I1 r q
theorem AS(M:Mk X.K C f)(F:FnOk X.prog X.w X.K X.mg X.base CX k f fd ps sp)(hr:Room (k+1) X.A)(hg:Gl X x)(hm:X.mg x=some (.ref C))(hb:Binds X.K fd ps ds)(hd:Vals dvs ds)(hx:gC CX X E)
 (hdb:(x==("__debug__":Str))=false:=by decide):PE X (.Call (.Name x p) [] [] pos) (IL C sp dvs E mD):=by
 intro pins s σ H Q I h;refine wpAny_Call_Name_kw (dX I hg hm ?_ hdb);exact W.callWith_K0 I.kIn M.kp (rG (us:= []) M F hr hb hd hx I .nil h)
end
section
variable {X:Cx}{CX:yS}{k:Nat}{f C:Addr}{fd:FuncData}{ps ks:List Str}{sp:Sp}{E:XK}{x m:Str}{p pos apos kpos:Pos}{e o:Expr}{es:List Expr}{kws:List Keyword}{te ta:TE}{t tk:TA}{nm:Option Str}
variable {g:List Value->List Value->List Value}{gV:List V->List V->List V}
end
structure FnScope (N P:List Str)(sc:Scope):Prop where
 kind:sc.kind=.function
 co:sc.isCoroutine=false
 gen:sc.isGenerator=false
 nd:N.Nodup
 pre:N.take P.length=P
 par:∀x∈P,sc.names.lookup x=some .local\/sc.names.lookup x=some .cell
 nofree:∀y∈sc.names,y.2≠ .free
theorem pB{kindOf:Str->Option NameKind}{x:Str}:∀{binds:List (Str×Value)}{m:Str->Option Value},(∀v,(x,v) ∉ binds)->bindL kindOf binds m x=m x
 | [],_,_=>rfl
 |(n,v)::r,m,h=>by
  unfold bindL;rw[pB λw hw=>h w (Zj _ hw)];split
  ·have:x≠n:=by rintro rfl;exact h v Zl
   simp[this]
  ·rfl
theorem pD{kindOf:Str->Option NameKind}{x:Str}:∀{binds:List (Str×Value)}{m:Str->Option Value},(∀v,(x,v) ∉ binds)->bindC kindOf binds m x=m x
 | [],_,_=>rfl
 |(n,v)::r,m,h=>by
  unfold bindC;rw[pD λw hw=>h w (Zj _ hw)];split
  ·rfl
  ·have:x≠n:=by rintro rfl;exact h v Zl
   simp[this]
theorem pC{kindOf:Str->Option NameKind}{x:Str}{v:Value}:∀{P:List Str}{vs:List Value}{i:Nat}{m:Str->Option Value},P.Nodup->P[i]? =some x->vs[i]? =some v->kindOf x=some .local->
 bindL kindOf (P.zip vs) m x=some v
 | [],_,_,_,_,h,_,_=>by simp at h
 |_::_,[],_,_,_,_,h,_=>by simp at h
 |p::P,w::vs,0,m,nd,h1,h2,hk=>by
  simp at h1 h2;subst h1;subst h2;show bindL kindOf ((p,w)::P.zip vs) m p=_;unfold bindL;rw[pB λv hv=>(List.nodup_cons.mp nd).1 (List.of_mem_zip hv).1,if_pos hk]
  simp
 |p::P,w::vs,i+1,m,nd,h1,h2,hk=>by
  show bindL kindOf ((p,w)::P.zip vs) m x=_;unfold bindL;exact pC (i:=i) (List.nodup_cons.mp nd).2 (by simpa using h1) (by simpa using h2) hk
theorem pE{kindOf:Str->Option NameKind}{x:Str}{v:Value}:∀{P:List Str}{vs:List Value}{i:Nat}{m:Str->Option Value},P.Nodup->P[i]? =some x->vs[i]? =some v->kindOf x≠some .local->
 bindC kindOf (P.zip vs) m x=some v
 | [],_,_,_,_,h,_,_=>by simp at h
 |_::_,[],_,_,_,_,h,_=>by simp at h
 |p::P,w::vs,0,m,nd,h1,h2,hk=>by
  simp at h1 h2;subst h1;subst h2;show bindC kindOf ((p,w)::P.zip vs) m p=_;unfold bindC;rw[pD λv hv=>(List.nodup_cons.mp nd).1 (List.of_mem_zip hv).1,if_neg hk]
  simp
 |p::P,w::vs,i+1,m,nd,h1,h2,hk=>by
  show bindC kindOf ((p,w)::P.zip vs) m x=_;unfold bindC;exact pE (i:=i) (List.nodup_cons.mp nd).2 (by simpa using h1) (by simpa using h2) hk
noncomputable def start(N:List Str)(vs:List V):St:=vs.map some++List.replicate (N.length-vs.length) none
noncomputable def jC(CX:yS)(P:Program)(w:World)(K:W.Frag)(mg:Str->Option Value)(base:Heap)(N:List Str)(qual:Str)(scope:Scope)(f:Addr)(cd:Value)(A:Around)(outer:List Env)(s:Shared)(H:Hp)(E:XK):Cx where
 prog:=P
 w:=w
 K:=K
 mg:=mg
 base:=base
 A:=A.deeper (envOfC qual scope s.heap.objs.size f cd)
 N:=N
 s₀:=s
 H₀:=H
 env:=envOfC qual scope s.heap.objs.size f cd
 outer:=outer
 stack:=envOfC qual scope s.heap.objs.size f cd::outer
 ex:= []
 calm:=true
 fn:=λ_=>true
 pn:= []
 xe:=λe s'=>wpAny (model P w) (A.deeper (envOfC qual scope s.heap.objs.size f cd)) (leaving (envOfC qual scope s.heap.objs.size f cd) e) (λ_ s''=>CX outer H s E e s'') (λe' s''=>CX outer H s E e' s'') s'
theorem sQ{sc:Scope}{n:Nat}{x:Str}(h:sc.names.lookup x=some .cell):∃c,(cellsFrom n sc.names []).lookup x=some c:=by
 have q:=W.cellsFrom_some sc.names n [] (.inl h);exact Option.isSome_iff_exists.mp q
theorem xW{CX:yS}{P:Program}{w:World}{K:W.Frag}{mg:Str->Option Value}{base:Heap}{N ps:List Str}{qual:Str}{scope:Scope}{f:Addr}{cd:Value}{A:Around}{outer:List Env}{s s1:Shared}{H:Hp}{E:XK}{us:List Value}{vs:List V}
 (S:FnScope N ps scope)(hd:A.handled=none)(e0:Env0 P w K mg base A outer s H)(hl:vs.length=ps.length)(r:Vals vs us)
 (x:InCallC s s.heap.objs.size (bindL (envOfC qual scope s.heap.objs.size f cd).kindOf (ps.zip us) λ_=>none) (cellsFrom (s.heap.objs.size+1) scope.names []) (bindC (envOfC qual scope s.heap.objs.size f cd).kindOf (ps.zip us) λ_=>none) s1):
 Inv (jC CX P w K mg base N qual scope f cd A outer s H E) [] (start N vs) H s1:=by
 have hpl:ps.length<=N.length:=by have:=congrArg List.length S.pre;rw[List.length_take] at this;omega
 obtain⟨h1,tk,rfl,hk⟩:=x.done;have noA:∀b:Addr,b ∉ (jC CX P w K mg base N qual scope f cd A outer s H E).ex:=λb z=>absurd (show b∈([]:List Addr) from z) (by simp)
 refine⟨⟨e0.mod,S.kind,rfl,rfl,Zn _,λy z c h1 h2=>?_,λy hy=>?_,λy c _ h=>?_,λ_=>hd,Around.frames_deeper e0.frames,.inr ⟨rfl,rfl⟩,λb z=>absurd z (noA b),e0.bs,e0.bsz,λb _ _=>noA b,λb z=>absurd z (noA b),e0.funs,e0.frf⟩,
  rfl,e0.bare,Un.kept hk,⟨_,x.toInCall.ns,λi y v h1 h2 h3=>?_⟩,λy c h=>⟨_,x.cell y c h⟩,e0.hok.fresh (Zn _),λy c h=>?_,λp hp=>absurd (show p∈([]:List (Addr×Obj)) from hp) (by simp),e0.hok.kept hk,?_⟩
 ·exact name_of_addr x.apart (PySem.mem_of_lookup h1) (PySem.mem_of_lookup h2)
 ·have hy:scope.names.lookup y=some .cell\/scope.names.lookup y=some .free:=hy;rcases hy with hy|hy
  ·exact sQ hy
  ·exact absurd rfl (S.nofree _ (PySem.mem_of_lookup hy))
 ·exact Nat.le_of_lt (x.above y c (PySem.mem_of_lookup h))
 ·have hi:i<vs.length:=by
   unfold start at h2
   by_cases hi:i<vs.length
   ·exact hi
   ·rw[List.getElem?_append_right (by simpa using hi)] at h2;rw[List.getElem?_replicate] at h2;split at h2<;>cases h2
  have ha:vs[i]? =some v:=by
   unfold start at h2;rw[List.getElem?_append_left (by simpa using hi),Zi] at h2;cases e:vs[i]? with
   |none=>rw[e] at h2;cases h2
   |some a=>rw[e] at h2;cases h2;rfl
  obtain⟨u,hu,rv⟩:=r.get ha
  have hp:ps[i]? =some y:=by
   rw[<- S.pre,List.getElem?_take_of_lt (by omega)];exact h1
  have ndP:ps.Nodup:=by rw[<- S.pre];exact S.nd.sublist (List.take_sublist _ _)
  refine⟨u,rv,?_⟩;rcases S.par y (List.mem_of_getElem? hp) with k|k
  ·exact .inl ⟨k,pC ndP hp hu k⟩
  ·obtain⟨c,e⟩:=sQ (n:=s.heap.objs.size+1) k;refine .inr ⟨.inl k,c,e,?_⟩;have q:=x.cell y c e;rw[pE ndP hp hu (by show scope.names.lookup y≠_;rw[k];decide)] at q;exact q
 ·exact e0.hok.fresh (Nat.le_of_lt (x.above y c (PySem.mem_of_lookup h)))
 ·unfold start;show _=N.length;rw[List.length_append,Zc,List.length_replicate];omega
theorem SG{CX:yS}{P:Program}{w:World}{K:W.Frag}{mg:Str->Option Value}{base:Heap}{k:Nat}{f:Addr}{name qual:Str}{params:Arguments}{body:List Stmt}{scope:Scope}{dV kV doc pm cdv ct oc:Value}{an od:Option Addr}
 {osl:Array (Option Value)}{N ps:List Str}{sp:Sp}(lk:K.lookup f=some ⟨oc,od,.func (W.fnOf name qual params body scope dV kV doc pm an cdv ct),osl⟩)(hcd:W.codeIn K cdv qual=true)(S:FnScope N ps scope)
 (len:∀vs H Q E,sp vs H Q E->vs.length=ps.length)
 (hbody:∀(A:Around)(outer:List Env)(s:Shared)(H:Hp)(vs:List V)(Q:VK)(E:XK),Room k (A.deeper (envOfC qual scope s.heap.objs.size f cdv))->sp vs H Q E->
   ∃t,PSs (jC CX P w K mg base N qual scope f cdv A outer s H E) body t/\t {nx:=λ_ H'=>Q .non H',rt:=Q} (start N vs) H):
 FnOk P w K mg base CX (k+1) f (W.fnOf name qual params body scope dV kV doc pm an cdv ct) ps sp:=by
 refine⟨len,λA outer s H args us vs Q E hr e0 hb r hsp=>?_⟩;have hl:=len _ _ _ _ hsp;have KX:K.In s.heap:=e0.mod.kin.keeps λb o e=>(e0.bs b o e).1;have lim:s.heap.NoLimit:=e0.mod.nolimit.keeps λb o e=>(e0.bs b o e).1
 have hkind:∀y∈ps.zip us,scope.names.lookup y.1=some .local\/(scope.names.lookup y.1=some .cell/\((cellsFrom (s.heap.objs.size+1) scope.names []).lookup y.1).isSome=true):=λ⟨n,v⟩ hy=>by
  rcases S.par n (List.of_mem_zip hy).1 with q|q
  ·exact .inl q
  ·exact .inr ⟨q,W.cellsFrom_some _ _ _ (.inl q)⟩
 refine codeAny_call_function hr.depth (KX _ _ lk) rfl S.co S.gen rfl (W.codeRec_of KX hcd) (hb _ _ _ _ ?_);refine wpAny_newFunctionEnv_cells S.kind hkind λenv he s1 x=>?_;subst he;refine⟨lim.keeps x.toInCall.keep,codeAny_func ?_⟩;obtain⟨t,ht,hq⟩:=hbody A outer s H vs Q E (hr.deeper _) hsp;have I:Inv (jC CX P w K mg base N qual scope f cdv A outer s H E) [] (start N vs) H s1:=xW S hr.hd e0 hl r x;refine wpAny_mono (ht [] s1 (start N vs) H _ I hq) (λfl s' hs=>?_) λe s' hs=>hs
 have fin:∀{σ':St}{H':Hp}{v:V}{u:Value},Inv (jC CX P w K mg base N qual scope f cdv A outer s H E) [] σ' H' s'->RelV v u->Q v H'->CE outer P w H s Q u s':=
  λ{σ' H' v u} J rv q=>⟨v,H',J.os,J.bare,J.base,J.hok,rv,q⟩
 cases fl with
 |ret u=>
  obtain⟨v,σ',H',J,rv,q⟩:=hs;exact fin J rv q
 |next=>
  obtain⟨σ',H',J,q⟩:=hs;exact fin (v:=V.non) (u:=Value.none) J rfl q
 |brk=>
  obtain⟨_,_,_,q⟩:=hs;exact False.elim q
 |cont=>
  obtain⟨_,_,_,q⟩:=hs;exact False.elim q
end L2
namespace L2
open PySem PySem.Spec PyProof.Rows
section
variable {X:Cx}{x:Str}{p pos:Pos}{e:Expr}{es:List Expr}{t:TA}{id T:String}{r:List V->Hp->VK->Prop}
def WE(r:List V->Hp->VK->Prop)(t:TA):TE:=λσ H Q=>t σ H λvs H1=>r vs H1 Q
theorem mL(hc:dN X (.builtin id) r)(hg:Gl X x)(hm:X.mg x=none)(hv:bootBuiltins x=some (.builtin id))(ha:PA X (e::es) t)(hn:x≠"__name__":=by decide)(hdb:(x==("__debug__":Str))=false:=by decide)
 (he:starEach (e::es) X.env=(false,eval e X.env)::starEach es X.env:=by rfl)(hpl:(backTo pos (starEach es X.env)).any (·.1)=false:=by rfl):PE X (.Call (.Name x p) (e::es) [] pos) (WE r t):=by
 intro pins s σ H Q I h;refine wpAny_Call_Name_kw (pY I hg hm hv ?_ hn hdb);exact PyProof.Rows.callWith_builtin1 (bM (ha pos pins s σ H _ I h) λus s1 ⟨vs,H1,I1,r1,q1⟩=>hc pins s1 σ H1 vs us Q I1 r1 q1) he hpl
theorem oI(hc:dN X (.type T) r)(hg:Gl X x)(hm:X.mg x=none)(hv:bootBuiltins x=some (.type T))(ha:PA X (e::es) t)(hn:x≠"__name__":=by decide)(hdb:(x==("__debug__":Str))=false:=by decide)
 (he:starEach (e::es) X.env=(false,eval e X.env)::starEach es X.env:=by rfl)(hpl:(backTo pos (starEach es X.env)).any (·.1)=false:=by rfl):PE X (.Call (.Name x p) (e::es) [] pos) (WE r t):=by
 intro pins s σ H Q I h;refine wpAny_Call_Name_kw (pY I hg hm hv ?_ hn hdb);exact PyProof.Rows.callWith_type1 (bM (ha pos pins s σ H _ I h) λus s1 ⟨vs,H1,I1,r1,q1⟩=>hc pins s1 σ H1 vs us Q I1 r1 q1) he hpl
end
end L2
namespace HT
open PySem PyProof.Rows
section
open PySem.SeqAt
open PySem.AutoSeq1 (wpAny_loadPart')
open PySem.MeetsSeq PySem.MeetsSeq2 PySem.MeetsSeq3
end
section
variable {prog:Program}{w:World}{A:Around}{E:Value->Shared->Prop}{s:Shared}
theorem cat_tup{t b:Addr}{vs ws:List Value}{Q:Value->Shared->Prop}(ht:IsTup s.heap t vs.toArray)(hb:IsTup s.heap b ws.toArray)(hv:vs≠ [])
 (h1:ws=[]->Q (.ref t) s)(h2:ws≠ []->Q (.ref s.heap.objs.size) {s with heap:=s.heap.push {cls:=.type "tuple",data:=.seq (vs++ws).toArray}})
 (hsz:vs.length+ws.length<=sizeLine):wpAny (model prog w) A (binaryOp .Add (.ref t) (.ref b)) Q E s:=by
 obtain⟨⟨cls,dd,data,sl⟩,ho,hc,n,hd⟩:=id ht;obtain⟨⟨cls2,dd2,data2,QJ⟩,ho2,hc2,n2,hd2⟩:=id hb;simp only at hc hd hc2 hd2;subst hc hd hc2 hd2;have e:vs.toArray++ws.toArray=(vs++ws).toArray:=by simp
 by_cases hw:ws=[]
 ·exact concat_meets ⟨_,ho,rfl⟩ ⟨_,ho2,rfl⟩ noFill_tuple_add seq_tuple_add PySem.F.slot_tuple_add PySem.F.entry_tuple_add (PySem.F.args_tuple_add_2 _ _)
   (tuple_addW1 t b vs.toArray ws.toArray n n2 dd dd2 sl QJ (by simpa using hv) (by simp[hw])) ⟨ho,ho2,h1 hw⟩
 ·refine concat_meets ⟨_,ho,rfl⟩ ⟨_,ho2,rfl⟩ noFill_tuple_add seq_tuple_add PySem.F.slot_tuple_add PySem.F.entry_tuple_add (PySem.F.args_tuple_add_2 _ _)
   (tuple_addW2 t b vs.toArray ws.toArray n n2 dd dd2 sl QJ (by simpa using hv) (by simpa using hw) (by rw[Zk,Zk];exact hsz)) ⟨ho,ho2,?_⟩
  rw[e];exact h2 hw
noncomputable def sIx(n d:Nat):Option Int->Nat
 |none=>d
 |some v=>if v<0 then(v+(n:Int)).toNat else min v.toNat n
theorem sIx_none(n d:Nat):sIx n d none=d:=rfl
theorem LL(n d:Nat)(hd:d<=n)(o:Option Int):sIx n d o<=n:=by
 cases o with
 |none=>exact hd
 |some v=>
  show(if v<0 then(v+(n:Int)).toNat else min v.toNat n)<=n
  by_cases hv:v<0
  ·rw[if_pos hv];omega
  ·rw[if_neg hv];exact Nat.min_le_right _ _
theorem wL(v:Int)(n d:Nat):(if v<0 then max (v+(n:Int)) 0 else min v (n:Int))=((sIx n d (some v):Nat):Int):=by
 show(if v<0 then max (v+(n:Int)) 0 else min v (n:Int))=(((if v<0 then(v+(n:Int)).toNat else min v.toNat n):Nat):Int)
 by_cases hv:v<0
 ·simp only[if_pos hv];omega
 ·simp only[if_neg hv];omega
theorem uX(lo hi:Option Int)(n:Nat):Builtin.Slice.sliceAdjust lo hi 1 (n:Int)=(((sIx n 0 lo:Nat):Int),((sIx n n hi:Nat):Int)):=by
 have h1:¬((1:Int)<0):=by omega
 unfold Builtin.Slice.sliceAdjust;simp only[h1,if_false];refine Prod.ext ?_ ?_
 ·cases lo with
  |none=>rfl
  |some v=>exact wL v n 0
 ·cases hi with
  |none=>rfl
  |some v=>exact wL v n n
theorem tI(i j:Nat):Builtin.Slice.slicePlaces (i:Int) (j:Int) 1=j-i:=by
 unfold Builtin.Slice.slicePlaces;have h1:(1:Int)>0:=by omega
 simp only[h1,if_true,Int.ediv_one];split<;>omega
theorem mG{v:Value}{o:Option Int}{Q:Option Int->Shared->Prop}(p:IsPart v o)(h:Q o s):wpAny (model prog w) A (Builtin.Slice.slicePartIndex v) Q E s:=by
 cases p with
 |none=>exact slicePart_none h
 |int i t=>exact slicePart_int h
theorem kH{sl:Addr}{vl vu:Value}{lo hi:Option Int}{n:Nat}{Q:Int×Int×Nat->Shared->Prop}(hs:s.heap.IsSliceOf sl vl vu .none)(pl:IsPart vl lo)(pu:IsPart vu hi)
 (h:Q (((sIx n 0 lo:Nat):Int),1,sIx n n hi-sIx n 0 lo) s):wpAny (model prog w) A (Builtin.Slice.sliceApplied (.ref sl) (pure (n:Int))) Q E s:=by
 obtain⟨os,hos,hcs,hds⟩:=id hs;unfold Builtin.Slice.sliceApplied Builtin.Slice.sliceFields;refine Za (Za (wpAny_field hos hds (x:=vl) rfl (Za (wpAny_field hos hds (x:=vu) rfl (Za (wpAny_field hos hds (x:=.none) rfl (Zb ?_)))))));refine Za (slicePart_none ?_);show wpAny _ _ (if((1:Int)==0)=true then _ else _) _ _ s;rw[if_neg (by decide)];refine Za (mG pl (Za (mG pu (Za (Zb ?_)))));show wpAny _ _ (match Builtin.Slice.sliceAdjust lo hi 1 (n:Int) with|(lo,hi)=>pure (lo,(1:Int),Builtin.Slice.slicePlaces lo hi 1)) _ _ s;rw[uX lo hi n];show wpAny _ _ (pure (((sIx n 0 lo:Nat):Int),(1:Int),Builtin.Slice.slicePlaces ((sIx n 0 lo:Nat):Int) ((sIx n n hi:Nat):Int) 1)) _ _ s;rw[tI];exact Zb h
theorem AJ(xs:Array Value)(i k:Nat):((List.range k).filterMap λ(m:Nat)=>xs[((i:Int)+(m:Int)*1).toNat]?).toArray=((xs.toList.drop i).take k).toArray:=by
 have e:(λ(m:Nat)=>xs[((i:Int)+(m:Int)*1).toNat]?)=λm=>xs[i+m]? :=by
  funext m;have:((i:Int)+(m:Int)*1).toNat=i+m:=by omega
  rw[this]
 rw[e];have:=pick_run xs i k;rw[List.filterMap_map] at this;have e2:((λx=>xs[x]?)∘λx=>i+x)=λm=>xs[i+m]? :=rfl;rw[e2] at this;rw[this]
theorem getItem_tuple_cut{t sl:Addr}{items:Array Value}{vl vu:Value}{lo hi:Option Int}{Q:Value->Shared->Prop}(ht:IsTup s.heap t items)(hs:s.heap.IsSliceOf sl vl vu .none)(pl:IsPart vl lo)(pu:IsPart vu hi)
 (hw:¬(sIx items.size 0 lo=0/\sIx items.size items.size hi=items.size))
 (h:Q (.ref s.heap.objs.size) {s with heap:=s.heap.push {cls:=.type "tuple",data:=.seq ((items.toList.drop (sIx items.size 0 lo)).take (sIx items.size items.size hi-sIx items.size 0 lo)).toArray}})
 (hsz:items.size<=sizeLine):wpAny (model prog w) A (getItem (.ref t) (.ref sl)) Q E s:=by
 have htake:sizeOk (.seq ((items.toList.drop (sIx items.size 0 lo)).take (sIx items.size items.size hi-sIx items.size 0 lo)).toArray):=by
  show((items.toList.drop (sIx items.size 0 lo)).take (sIx items.size items.size hi-sIx items.size 0 lo)).toArray.size<=sizeLine
  rw[Zk,List.length_take,List.length_drop,Array.length_toList];omega
 have hj:sIx items.size items.size hi<=items.size:=LL _ _ (Zn _) hi;obtain⟨os,hos,hcs,hds⟩:=id hs;have hTs:s.TypeIs (.ref sl) "slice":=⟨os,hos,hcs⟩;unfold getItem
 try with_reducible refine wpAny_holding ?_
 first |refine Za (Zb ?_)|skip
 refine Za (wpAny_sequenceKey ht.typeIs (by decide) ?_)
 refine Za (wpAny_callSpecial?_slot (name:=Str.ofString "__getitem__") ht.typeIs PyProof.Rows.slot_tuple_getitem
  (wpAny_call_entry PyProof.Rows.slot_tuple_getitem ht.typeIs entry_tuple_getitem ?_ (args_tuple_getitem _ _)))
 show wpAny _ _ (Builtin.Tuple.tupleItemsOf (.ref t)>>=_) _ _ s;refine Za (tupleItemsOf_ ht ?_);refine Za (wpAny_typeOf hTs ?_);rw[if_pos (by decide)];refine Za (kH hs pl pu ?_)
 have hno:¬((((sIx items.size 0 lo:Nat):Int)==0&&(1:Int)==1&&(sIx items.size items.size hi-sIx items.size 0 lo)==items.size)=true):=by
  intro q;rw[Bool.and_eq_true,Bool.and_eq_true] at q;have q1:((sIx items.size 0 lo:Nat):Int)=0:=eq_of_beq q.1.1;have q2:sIx items.size items.size hi-sIx items.size 0 lo=items.size:=eq_of_beq q.2;exact hw ⟨by omega,by omega⟩
 show wpAny _ _ (if(((sIx items.size 0 lo:Nat):Int)==0&&(1:Int)==1&&(sIx items.size items.size hi-sIx items.size 0 lo)==items.size)=true then _ else _) _ _ s;rw[if_neg hno,AJ]
 first
  |exact Za (m:=Builtin.Tuple.tupleExact _) (wpAny_newObj_type (Zb ⟨_,rfl,Zb h⟩) htake)
  |exact Za (m:=Builtin.Tuple.tupleExact _) (wpAny_newObj_type (Za (Zb (Zb ⟨_,rfl,Zb h⟩))) htake)
  |exact Za (Za (m:=Builtin.Tuple.tupleExact _) (wpAny_newObj_type (Zb (Zb ⟨_,rfl,Zb h⟩)) htake))
  |exact Za (Za (m:=Builtin.Tuple.tupleExact _) (wpAny_newObj_type (Zb ⟨_,rfl,Zb h⟩) htake))
end
end HT
namespace L2
open PySem PySem.Spec PyProof.Rows
noncomputable abbrev TO:=St->Hp->(Option Int->Hp->Prop)->Prop
def PO(X:Cx)(e:Option Expr)(t:TO):Prop:=
 ∀(pins:List (Addr×Obj))(s:Shared)(σ:St)(H:Hp)(Q:Option Int->Hp->Prop),Inv X pins σ H s->t σ H Q->
  wpAny (model X.prog X.w) X.A (evalPart e X.env) (λu s'=>∃o H',Inv X pins σ H' s'/\IsPart u o/\Q o H') X.xe s
noncomputable def EF:TO:=λ_ H Q=>Q none H
noncomputable def PY(t:TE):TO:=λσ H Q=>t σ H λx H1=>∃i,x=.int i/\Q (some i) H1
section
variable {X:Cx}{e:Expr}{te:TE}{lo hi:Option Expr}{tl th:TO}{pos p2:Pos}
theorem vM:PO X none EF:=by
 intro pins s σ H Q I h;rw[evalPart_none];exact Zb ⟨none,H,I,.none,h⟩
theorem jR(h:PE X e te):PO X (some e) (PY te):=by
 intro pins s σ H Q I hw;rw[evalPart_some];refine bM (h pins s σ H _ I hw) λu s1 ⟨x,H1,I1,r1,q1⟩=>?_;obtain⟨i,rfl,q⟩:=q1;obtain⟨t,rfl⟩:=r1;exact⟨some i,H1,I1,.int i t,q⟩
def C8(X:Cx)(r:V->Option Int->Option Int->Hp->VK->Prop):Prop:=
 ∀(pins:List (Addr×Obj))(s:Shared)(σ:St)(H:Hp)(x:V)(v vl vu:Value)(lo hi:Option Int)(sl:Addr)(Q:VK),Inv X pins σ H s->RelV x v->s.heap.IsSliceOf sl vl vu .none->IsPart vl lo->IsPart vu hi->r x lo hi H Q->
  ∃T id,typeLookup (.type T) "__getitem__"=pure (some (.builtin id))/\s.TypeIs v T/\wpAny (model X.prog X.w) X.A (getItem v (.ref sl)) (EP X pins σ Q) X.xe s
def tSl(r:V->Option Int->Option Int->Hp->VK->Prop)(te:TE)(tl th:TO):TE:=λσ H Q=>te σ H λx H1=>tl σ H1 λl H2=>th σ H2 λu H3=>r x l u H3 Q
theorem mK{r:V->Option Int->Option Int->Hp->VK->Prop}(hr:C8 X r)(he:PE X e te)(hl:PO X lo tl)(hu:PO X hi th):PE X (.Subscript e (.Slice lo hi none p2) pos) (tSl r te tl th):=by
 intro pins s σ H Q I h;refine Subscript_ (bM (he pins s σ H _ I h) λv s1 ⟨x,H1,I1,r1,q1⟩=>?_);refine wpAny_Slice (bM (hl pins s1 σ H1 _ I1 q1) λvl s2 ⟨l,H2,I2,pl,q2⟩=>bM (hu pins s2 σ H2 _ I2 q2) λvu s3 ⟨u,H3,I3,pu,q3⟩=>?_);rw[evalPart_none];refine Zb ?_;have I4:Inv X pins σ H3 {s3 with heap:=s3.heap.push {cls:=.type "slice",data:=.fields #[vl,vu,.none]}}:=I3.kept (t':=s3.toks) λb ob q=>Zf _ q;obtain⟨T,id,hT,ht,hg⟩:=hr pins {s3 with heap:=s3.heap.push {cls:=.type "slice",data:=.fields #[vl,vu,.none]}} σ H3 x v vl vu l u s3.heap.objs.size Q I4 r1 (Heap.IsSliceOf.new ..) pl pu q3;show wpAny (model X.prog X.w) X.A (subscriptTail e (.Slice lo hi none p2) v (.ref s3.heap.objs.size)) (EP X pins σ Q) X.xe {s3 with heap:=s3.heap.push {cls:=.type "slice",data:=.fields #[vl,vu,.none]}};exact tail_any (ops:= [.ref s3.heap.objs.size,v]) ht hT hg (by with_unfolding_all rfl)
noncomputable def nO(xs:List V)(lo hi:Option Int):List V:=(xs.drop (HT.sIx xs.length 0 lo)).take (HT.sIx xs.length xs.length hi-HT.sIx xs.length 0 lo)
theorem lH(xs:List V)(lo hi:Option Int):(nO xs lo hi).length<=xs.length:=by
 unfold nO;rw[List.length_take,List.length_drop];omega
noncomputable def WJ(K:W.Frag):V->Option Int->Option Int->Hp->VK->Prop:=λx lo hi H Q=>∃a xs,x=.ref a/\SqT K H a xs/\
 ¬(HT.sIx xs.length 0 lo=0/\HT.sIx xs.length xs.length hi=xs.length)/\∀p,H p=none->Q (.ref p) (bI H p (.tup (nO xs lo hi)))
theorem LJ:C8 X (WJ X.K):=by
 intro pins s σ H x v vl vu lo hi sl Q I rx hs pl pu h;obtain⟨a,xs,rfl,hx,hw,q⟩:=h;cases rx;obtain⟨its,r,ht,hz⟩:=I.tuple hx;have hlen:its.toArray.size=xs.length:=by rw[Zk];exact r.length.symm
 refine⟨"tuple",_,PyProof.Rows.slot_tuple_getitem.lookup,ht.typeIs,?_⟩;refine HT.getItem_tuple_cut ht hs pl pu (by rw[hlen];exact hw) ?_ (by rw[hlen];exact hz);rw[hlen];refine⟨.ref s.heap.objs.size,_,I.laid (t':=s.toks) (o:=.tup (nO xs lo hi)) (λb ob q=>Zf _ q) (Zn _) ?_,rfl,q _ (I.hok.fresh (Zn _))⟩;exact⟨Nat.le_trans (lH xs lo hi) hz,_,(r.drop (HT.sIx xs.length 0 lo)).take (HT.sIx xs.length xs.length hi-HT.sIx xs.length 0 lo),IsTup.new _ _⟩
noncomputable def QN(K:W.Frag):R2:=λx y H Q=>∃a b xs ys,x=.ref a/\y=.ref b/\SqT K H a xs/\SqT K H b ys/\xs≠ []/\xs.length+ys.length<=sizeLine/\
 (ys=[]->Q (.ref a) H)/\(ys≠ []->∀p,H p=none->Q (.ref p) (bI H p (.tup (xs++ys))))
theorem Vals.nil_iff{xs:List V}{us:List Value}(r:Vals xs us):us=[]↔xs=[]:=by
 cases r with
 |nil=>simp
 |cons _ _=>simp
theorem FE:jI X (binaryOp .Add) (QN X.K):=by
 intro pins s σ H x y v u Q I rx ry h;obtain⟨a,b,xs,ys,rfl,rfl,ha,hb,hx,hz,q1,q2⟩:=h;cases rx;cases ry;obtain⟨its,r1,p1,_⟩:=I.tuple ha;obtain⟨its2,r2,p2,_⟩:=I.tuple hb;refine HT.cat_tup p1 p2 (λz=>hx (r1.nil_iff.mp z)) (λz=>⟨.ref a,H,I,rfl,q1 (r2.nil_iff.mp z)⟩) (λz=>?_) (by rw[<- r1.length, <- r2.length];exact hz);refine⟨.ref s.heap.objs.size,_,I.laid (t':=s.toks) (o:=.tup (xs++ys)) (λb ob q=>Zf _ q) (Zn _) ?_,rfl,q2 (λw=>z (r2.nil_iff.mpr w)) _ (I.hok.fresh (Zn _))⟩;exact⟨by rw[List.length_append];exact hz,_,r1.append r2,IsTup.new _ _⟩
end
end L2
namespace L2
open PySem PySem.Spec PyProof.Rows
noncomputable def yT(n:Nat)(i:Int):Option Nat:=if 0<=i then(if i<n then some i.toNat else none) else if -(n:Int)<=i then some (i+n).toNat else none
noncomputable def lM{α:Type}(xs:List α)(i:Int):Option α:=(yT xs.length i).bind λj=>xs[j]?
theorem vT{n:Nat}{i:Int}{j:Nat}(h:yT n i=some j):seqIndex? i n=some j/\j<n/\ -(n:Int)<=i/\i<n:=by
 unfold yT at h
 by_cases h0:0<=i
 ·rw[if_pos h0] at h
  by_cases h1:i<n
  ·rw[if_pos h1] at h;have e:i.toNat=j:=Zg h;exact⟨by rw[seqIndex_of h0 h1,e],by omega,by omega,h1⟩
  ·rw[if_neg h1] at h;cases h
 ·rw[if_neg h0] at h
  by_cases h1: -(n:Int)<=i
  ·rw[if_pos h1] at h;have e:(i+n).toNat=j:=Zg h;exact⟨by rw[seqIndex_neg (by omega) h1,e],by omega,h1,by omega⟩
  ·rw[if_neg h1] at h;cases h
theorem qN{α:Type}{xs:List α}{i:Int}{v:α}(h:lM xs i=some v):∃j,seqIndex? i xs.length=some j/\xs[j]? =some v/\j<xs.length/\ -(xs.length:Int)<=i/\i<xs.length:=by
 unfold lM at h;cases e:yT xs.length i with
 |none=>rw[e] at h;cases h
 |some j=>
  rw[e] at h;obtain⟨h1,h2,h3,h4⟩:=vT e;exact⟨j,h1,h,h2,h3,h4⟩
theorem iF{α:Type}{xs:List α}{j:Nat}{v:α}(h:xs[j]? =some v):lM xs (j:Int)=some v:=by
 have hj:j<xs.length:=(Ze.mp h).1
 have e:yT xs.length (j:Int)=some j:=by
  unfold yT;rw[if_pos (by omega),if_pos (by omega)];simp
 unfold lM;rw[e];exact h
def wW(b:Expr):Prop:=∀o i,subscripted b false o i=operate [o,i] (getItem o i)
def PL(X:Cx)(r:R2):Prop:=
 ∀(value slice:Expr)(pins:List (Addr×Obj))(s:Shared)(σ:St)(H:Hp)(x y:V)(v u:Value)(Q:VK),Inv X pins σ H s->RelV x v->RelV y u->r x y H Q->
  subscripted slice false v u=operate [v,u] (getItem v u)->wpAny (model X.prog X.w) X.A (subscriptTail value slice v u) (EP X pins σ Q) X.xe s
def MtR(X:Cx)(id:String)(r:V->List V->Hp->VK->Prop):Prop:=
 ∀(pins:List (Addr×Obj))(s:Shared)(σ:St)(H:Hp)(x:V)(xs:List V)(v:Value)(us:List Value)(Q:VK),Inv X pins σ H s->RelV x v->Vals xs us->r x xs H Q->
  wpAny (model X.prog X.w) X.A (call (.builtin id) (v::us)) (EP X pins σ Q) X.xe s
section
variable {X:Cx}{a b:Expr}{ta tb:TE}{pos:Pos}
theorem QS{r:R2}(hr:PL X r)(ha:PE X a ta)(hb:PE X b tb)(hs:wW b):PE X (.Subscript a b pos) (PZ r ta tb):=by
 intro pins s σ H Q I h;exact Subscript_ (OR ha hb I h λv u s2 x y H2 I2 rx ry q=>hr a b pins s2 σ H2 x y v u Q I2 rx ry q (hs _ _))
noncomputable def WN(K:W.Frag):R2:=λx y H Q=>∃p xs i v,x=.ref p/\y=.int i/\SqL K H p xs/\lM xs i=some v/\Q v H
noncomputable def WL(K:W.Frag):R2:=λx y H Q=>∃p xs i v,x=.ref p/\y=.int i/\SqT K H p xs/\lM xs i=some v/\Q v H
noncomputable def WM:R2:=λx y H Q=>∃z i c,x=.str z/\y=.int i/\z.length<=sizeLine/\lM z.cps.toList i=some c/\Q (.str ⟨#[c]⟩) H
theorem FN:PL X (WN X.K):=by
 intro value slice pins s σ H x y v u Q I rx ry h hs;obtain⟨p,xs,i,z,rfl,rfl,hq,he,q⟩:=h;cases rx;obtain⟨t,rfl⟩:=ry;obtain⟨its,r,pl,hz⟩:=I.list hq;obtain⟨j,h1,h2,h3,h4,h5⟩:=qN he;obtain⟨w,ew,rw'⟩:=r.get h2;have hl:=r.length;have hn:=iU;have fin:EP X pins σ Q w s:=⟨z,H,I,rw',q⟩
 by_cases h0:0<=i
 ·have hj:i.toNat=j:=by
   rw[seqIndex_of h0 h5] at h1;exact Zg h1
  exact item_listR pl.isList h0 (by omega) (by rw[hj];simpa using ew) fin hs
 ·have hj:(i+(its.toArray.size:Int)).toNat=j:=by
   rw[seqIndex_neg (by omega) h4] at h1;rw[Zk, <- hl];exact Zg h1
  exact subscriptTail_builtinR (x:=w) pl.isList.typeIs slot_list_getitem.lookup
   (wpAny_getItem_list_neg (Q:=λr s'=>r=w/\EP X pins σ Q r s') pl.isList (by omega) (by rw[Zk]<;>omega) (by omega) (by rw[hj];simpa using ew) ⟨rfl,fin⟩) hs
theorem MW:PL X (WL X.K):=by
 intro value slice pins s σ H x y v u Q I rx ry h hs;obtain⟨p,xs,i,z,rfl,rfl,hq,he,q⟩:=h;cases rx;obtain⟨t,rfl⟩:=ry;obtain⟨its,r,pl,hz⟩:=I.tuple hq;obtain⟨j,h1,h2,h3,h4,h5⟩:=qN he;obtain⟨w,ew,rw'⟩:=r.get h2;have hl:=r.length;have hn:=iU;have fin:EP X pins σ Q w s:=⟨z,H,I,rw',q⟩
 exact subscriptTail_builtinR (x:=w) pl.typeIs slot_tuple_getitem.lookup
  (getItem_tuple (j:=j) (Q:=λr s'=>r=w/\EP X pins σ Q r s') pl (by omega) (by omega) (by rw[Zk, <- hl];exact h1) (by simpa using ew) ⟨rfl,fin⟩) hs
theorem MX:PL X WM:=by
 intro value slice pins s σ H x y v u Q I rx ry h hs;obtain⟨z,i,c,rfl,rfl,hz,he,q⟩:=h;obtain⟨t,rfl⟩:=rx;obtain⟨t',rfl⟩:=ry;obtain⟨j,h1,h2,h3,h4,h5⟩:=qN he;have hl:z.cps.toList.length=z.length:=by simp[Str.length]
 rw[hl] at h1 h4 h5;have hn:=iU
 exact tail_any (typeIs_str s z t) slot_str_getitem.lookup (getItem_str (c:=c) (by
  have e1:decide (i< -(2^63:Int))=false:=decide_eq_false (by omega);have e2:decide (i ≥ 2^63)=false:=decide_eq_false (by omega);rw[e1,e2,Bool.or_false]) (by rw[h1];simpa using h2) ⟨.str ⟨#[c]⟩,H,I.tok _,⟨_,rfl⟩,q⟩) hs
theorem tR(its:List Value)(n j:Nat)(u:Value):Obj.mapSeq (·.setIfInBounds j u) {cls:=.type "list",data:=.seq its.toArray n}={cls:=.type "list",data:=.seq (its.set j u).toArray n}:=by
 simp[Obj.mapSeq]
theorem Inv.lst{pins:List (Addr×Obj)}{σ:St}{H:Hp}{s:Shared}{p:Addr}{xs:List V}(I:Inv X pins σ H s)(h:H p=some (.lst xs)):
 ∃(its:List Value)(n:Nat),Vals xs its/\s.heap.get? p=some {cls:=.type "list",data:=.seq its.toArray n}/\xs.length<=sizeLine:=by
 obtain⟨z,its,n,r,e⟩:=I.hok p _ h;exact⟨its,n,r,e,z⟩
theorem Inv.lstUpd{pins:List (Addr×Obj)}{σ:St}{H:Hp}{s:Shared}{p:Addr}{xs ys:List V}{its its':List Value}{n n':Nat}{f:Obj->Obj}(I:Inv X pins σ H s)(h:H p=some (.lst xs))
 (ho:s.heap.get? p=some {cls:=.type "list",data:=.seq its.toArray n})(hf:f {cls:=.type "list",data:=.seq its.toArray n}={cls:=.type "list",data:=.seq its'.toArray n'})(r:Vals ys its')(hz:ys.length<=sizeLine)(t:Nat):
 Inv X pins σ (bI H p (.lst ys)) {s with heap:=s.heap.update p f,toks:=t}:=by
 have e:(s.heap.update p f).get? p=some {cls:=.type "list",data:=.seq its'.toArray n'}:=by
  rw[Heap.get?_update_self f ho (by rw[hf]<;>rfl),hf]
 refine I.write (x:=p) (e:=p) (by rw[h];trivial) (.inl rfl) (λb u hb q=>(Heap.get?_update_other _ _ (Ne.symm hb)).trans q) ⟨_,e⟩ ?_;exact⟨hz,its',n',r,e⟩
noncomputable def QM:V->V->V->Hp->(Hp->Prop)->Prop:=λo i v H Q=>∃p xs k j,o=.ref p/\i=.int k/\H p=some (.lst xs)/\yT xs.length k=some j/\Q (bI H p (.lst (xs.set j v)))
theorem zQ:OX X QM:=by
 intro pins s σ H o i v ov iv u Q I ro ri rv h;obtain⟨p,xs,k,j,rfl,rfl,hp,hj,q⟩:=h;cases ro;obtain⟨t,rfl⟩:=ri;obtain⟨its,n,r,ho,hz⟩:=I.lst hp;obtain⟨h1,h2,h3,h4⟩:=vT hj;have hl:=r.length;have hn:=iU
 have I':Inv X pins σ (bI H p (.lst (xs.set j v))) {s with heap:=s.heap.update p (Obj.mapSeq (·.setIfInBounds j u))}:=
  I.lstUpd hp ho (tR its n j u) (r.set rv j) (by rw[List.length_set];exact hz) s.toks
 by_cases h0:0<=k
 ·have hk:k.toNat=j:=by
   rw[seqIndex_of h0 h4] at h1;exact Zg h1
  exact W.ki_setAt ho h0 (by omega) (by rw[Zk, <- hl];exact h4) (by rw[hk];exact⟨_,I',q⟩)
 ·have hk:(k+(its.toArray.size:Int)).toNat=j:=by
   rw[seqIndex_neg (by omega) h3] at h1;rw[Zk, <- hl];exact Zg h1
  exact W.ki_setBack ho (by omega) (by rw[Zk, <- hl];exact h3) (by omega) (by rw[hk];exact⟨_,I',q⟩)
theorem pL(lo hi:Option Int)(n:Nat):(sliceBounds lo hi none n).1=((HT.sIx n 0 lo:Nat):Int)/\(sliceBounds lo hi none n).2.1=((HT.sIx n n hi:Nat):Int)/\(sliceBounds lo hi none n).2.2=1:=by
 refine⟨?_,?_,rfl⟩
 ·cases lo with
  |none=>simp[sliceBounds,HT.sIx]
  |some i=>
   simp only[sliceBounds,HT.sIx,Option.getD_none,show(1:Int)>0 by decide,if_true]
   by_cases h:i<0
   ·simp only[h,if_true]<;>omega
   ·simp only[h,if_false]<;>omega
 ·cases hi with
  |none=>simp[sliceBounds,HT.sIx]
  |some i=>
   simp only[sliceBounds,HT.sIx,Option.getD_none,show(1:Int)>0 by decide,if_true]
   by_cases h:i<0
   ·simp only[h,if_true]<;>omega
   ·simp only[h,if_false]<;>omega
theorem nU(its:List Value)(lo hi:Option Int):slicePick its.toArray lo hi none=((its.drop (HT.sIx its.length 0 lo)).take (HT.sIx its.length its.length hi-HT.sIx its.length 0 lo)).toArray:=by
 obtain⟨h1,h2,h3⟩:=pL lo hi its.toArray.size;unfold slicePick;rw[h1,h2,h3];simp only[sliceRange_one,pick_run,Zk]<;>rfl
noncomputable def WK(K:W.Frag):V->Option Int->Option Int->Hp->VK->Prop:=λx lo hi H Q=>∃a xs,x=.ref a/\SqL K H a xs/\∀p,H p=none->Q (.ref p) (bI H p (.lst (nO xs lo hi)))
theorem vG:C8 X (WK X.K):=by
 intro pins s σ H x v vl vu lo hi sl Q I rx hs pl pu h;obtain⟨a,xs,rfl,hx,q⟩:=h;cases rx;obtain⟨its,r,ht,hz⟩:=I.list hx;have hlen:=r.length;refine⟨"list",_,slot_list_getitem.lookup,ht.isList.typeIs,?_⟩;refine wpAny_getItem_list_slice ht.isList hs pl pu .none (by simp) ?_ (by rw[Zk]<;>omega);rw[nU, <- hlen];refine⟨.ref s.heap.objs.size,_,I.laid (t':=s.toks) (o:=.lst (nO xs lo hi)) (λb ob q=>Zf _ q) (Zn _) ?_,rfl,q _ (I.hok.fresh (Zn _))⟩;exact⟨Nat.le_trans (lH xs lo hi) hz,_,0,(r.drop (HT.sIx xs.length 0 lo)).take (HT.sIx xs.length xs.length hi-HT.sIx xs.length 0 lo),Heap.get?_push_size _ rfl⟩
noncomputable def iI:V->Bool
 |.non=>true
 |.bl _=>true
 |.int _=>true
 |.str _=>true
 |_=>false
noncomputable def CF:V->V->Bool
 |.non,.non=>true
 |.bl a,.bl b=>a==b
 |.bl a,.int b=>(if a then 1 else 0)==b
 |.int a,.bl b=>a==(if b then 1 else 0)
 |.int a,.int b=>a==b
 |.str a,.str b=>a==b
 |_,_=>false
theorem uH{A:Around}{s:Shared}{y x:V}{u v:Value}(ry:RelV y u)(rx:RelV x v)(fy:iI y=true)(fx:iI x=true):SeqAt.EqAt A s u v (CF y x):=by
 cases y with
 |non=>
  cases ry;cases x with
  |non=>cases rx;exact SeqAt.EqAt.same _
  |bl b=>cases rx;exact SeqAt.EqAt.none_bool b
  |int b=>obtain⟨t,rfl⟩:=rx;exact SeqAt.EqAt.none_int b t
  |str b=>obtain⟨t,rfl⟩:=rx;exact SeqAt.EqAt.none_str b t
  |_=>exact absurd (show false=true from fx) Bool.false_ne_true
 |bl a=>
  cases ry;cases x with
  |non=>cases rx;exact SeqAt.EqAt.bool_none a
  |bl b=>cases rx;exact SeqAt.EqAt.bool_bool a b
  |int b=>obtain⟨t,rfl⟩:=rx;exact SeqAt.EqAt.bool_int a b t
  |str b=>obtain⟨t,rfl⟩:=rx;exact SeqAt.EqAt.bool_str a b t
  |_=>exact absurd (show false=true from fx) Bool.false_ne_true
 |int a=>
  obtain⟨t',rfl⟩:=ry;cases x with
  |non=>cases rx;exact SeqAt.EqAt.int_none a t'
  |bl b=>cases rx;exact SeqAt.EqAt.int_bool a t' b
  |int b=>obtain⟨t,rfl⟩:=rx;exact SeqAt.EqAt.int_int a t' b t
  |str b=>obtain⟨t,rfl⟩:=rx;exact SeqAt.EqAt.int_str a t' b t
  |_=>exact absurd (show false=true from fx) Bool.false_ne_true
 |str a=>
  obtain⟨t',rfl⟩:=ry;cases x with
  |non=>cases rx;exact SeqAt.EqAt.str_none a t'
  |bl b=>cases rx;exact SeqAt.EqAt.str_bool a t' b
  |int b=>obtain⟨t,rfl⟩:=rx;exact SeqAt.EqAt.str_int a t' b t
  |str b=>obtain⟨t,rfl⟩:=rx;exact SeqAt.EqAt.str_str a t' b t
  |_=>exact absurd (show false=true from fx) Bool.false_ne_true
 |_=>exact absurd (show false=true from fy) Bool.false_ne_true
noncomputable def uG(x:V)(u:Value):Bool:=match u with
 |.none=>CF .non x
 |.bool b=>CF (.bl b) x
 |.int i _=>CF (.int i) x
 |.str z _=>CF (.str z) x
 |_=>false
theorem CG{x y:V}{u:Value}(r:RelV y u)(f:iI y=true):uG x u=CF y x:=by
 cases y with
 |non=>cases r;rfl
 |bl b=>cases r;rfl
 |int i=>obtain⟨t,rfl⟩:=r;rfl
 |str z=>obtain⟨t,rfl⟩:=r;rfl
 |_=>exact absurd (show false=true from f) Bool.false_ne_true
theorem jY{x:V}:∀{xs:List V}{us:List Value},Vals xs us->xs.all iI=true->us.any (uG x)=xs.any λy=>CF y x
 |_,_,.nil,_=>rfl
 |y::xs,u::us,.cons r t,f=>by
  rw[List.all_cons,Bool.and_eq_true] at f;rw[List.any_cons,List.any_cons,CG r f.1,jY t f.2]
theorem gO{A:Around}{s:Shared}{x:V}{v:Value}(rx:RelV x v)(fx:iI x=true):∀{xs:List V}{us:List Value},Vals xs us->xs.all iI=true->∀u∈us,SeqAt.EqAt A s u v (uG x u)
 |_,_,.nil,_=>λu hu=>by cases hu
 |y::xs,u::us,.cons r t,f=>λu' hu=>by
  rw[List.all_cons,Bool.and_eq_true] at f;rcases List.mem_cons.mp hu with rfl|hu
  ·rw[CG r f.1];exact uH r rx f.1 fx
  ·exact gO rx fx t f.2 u' hu
noncomputable def JH(x:V)(xs:List V):Bool:=xs.any λy=>CF y x
noncomputable def rIn(K:W.Frag)(neg:Bool):R2:=λx y H Q=>∃p xs,y=.ref p/\(SqL K H p xs\/SqT K H p xs)/\iI x=true/\xs.all iI=true/\Q (.bl (if neg then !JH x xs else JH x xs)) H
theorem xM:jI X (compareOp .In) (rIn X.K false):=by
 intro pins s σ H x y v u Q I rx ry h;obtain⟨p,xs,rfl,hq,fx,fs,q⟩:=h;cases ry;rcases hq with hq|hq
 ·obtain⟨its,r,pl,hz⟩:=I.list hq;refine SeqAt.in_listAt (uG x) pl.isList (λw hw=>gO rx fx r fs w (by simpa using hw)) ⟨.bl _,H,I,rfl,?_⟩;rw[show its.toArray.any (uG x)=its.any (uG x) by simp,jY r fs];exact q
 ·obtain⟨its,r,pl,hz⟩:=I.tuple hq;refine SeqAt.in_tupleAt (uG x) pl (λw hw=>gO rx fx r fs w (by simpa using hw)) ⟨.bl _,H,I,rfl,?_⟩;rw[show its.toArray.any (uG x)=its.any (uG x) by simp,jY r fs];exact q
theorem pW:jI X (compareOp .NotIn) (rIn X.K true):=by
 intro pins s σ H x y v u Q I rx ry h;obtain⟨p,xs,rfl,hq,fx,fs,q⟩:=h;cases ry;rcases hq with hq|hq
 ·obtain⟨its,r,pl,hz⟩:=I.list hq;refine SeqAt.notIn_listAt (uG x) pl.isList (λw hw=>gO rx fx r fs w (by simpa using hw)) ⟨.bl _,H,I,rfl,?_⟩;rw[show its.toArray.any (uG x)=its.any (uG x) by simp,jY r fs];exact q
 ·obtain⟨its,r,pl,hz⟩:=I.tuple hq;refine SeqAt.notIn_tupleAt (uG x) pl (λw hw=>gO rx fx r fs w (by simpa using hw)) ⟨.bl _,H,I,rfl,?_⟩;rw[show its.toArray.any (uG x)=its.any (uG x) by simp,jY r fs];exact q
theorem qL:dN X (.builtin "len") (λxs H Q=>∃p ys,xs=[.ref p]/\(SqL X.K H p ys\/SqT X.K H p ys)/\Q (.int ys.length) H):=by
 intro pins s σ H xs us Q I r h;obtain⟨p,ys,rfl,hq,q⟩:=h;obtain⟨u,rfl,rx⟩:=gE r;cases rx;have hn:=iU;rcases hq with hq|hq
 ·obtain⟨its,r',pl,hz⟩:=I.list hq;have hlen:=r'.length;exact Calls.call_len_list pl.isList (by simp only[Zk]<;>omega) ⟨.int ys.length,H,I.tok _,⟨s.toks+1,by rw[Zk,hlen]⟩,q⟩
 ·obtain⟨its,r',pl,hz⟩:=I.tuple hq;have hlen:=r'.length;exact len_tuple pl (by simp only[Zk]<;>omega) ⟨.int ys.length,H,I.tok _,⟨s.toks+1,by rw[Zk,hlen]⟩,q⟩
theorem qK:dN X (.builtin "len") (λxs H Q=>∃z,xs=[.str z]/\z.length<=sizeLine/\Q (.int z.length) H):=by
 intro pins s σ H xs us Q I r h;obtain⟨z,rfl,hz,q⟩:=h;obtain⟨u,rfl,t,rfl⟩:=gE r;have hn:=iU;exact len_str (by omega) ⟨.int z.length,H,I.tok _,⟨_,rfl⟩,q⟩
theorem qJ:dN X (.type "list") (λxs H Q=>∃p ys,xs=[.ref p]/\(SqL X.K H p ys\/SqT X.K H p ys)/\∀l,H l=none->Q (.ref l) (bI H l (.lst ys))):=by
 intro pins s σ H xs us Q I r h;obtain⟨p,ys,rfl,hq,q⟩:=h;obtain⟨u,rfl,rx⟩:=gE r;cases rx
 have fin:∀(its:List Value),Vals ys its->ys.length<=sizeLine->∀(h':Heap)(c':Nat),(∀b o',s.heap.get? b=some o'->h'.get? b=some o')->
  h'.get? s.heap.objs.size=some {cls:=.type "list",dict:=none,data:=.seq its.toArray c',slots:= #[]}->EP X pins σ Q (.ref s.heap.objs.size) {s with heap:=h'}:=λits r' hz h' c' kp e=>
  ⟨.ref s.heap.objs.size,_,I.laid (t':=s.toks) kp (Zn _) (show ObjOk X.prog X.w _ h' _ (.lst ys) from⟨hz,its,c',r',e⟩),rfl,q _ (I.hok.fresh (Zn _))⟩
 rcases hq with hq|hq
 ·obtain⟨its,r',pl,hz⟩:=I.list hq;have hlen:=r'.length;obtain⟨o,ho,hc,n,hd⟩:=pl.isList;exact call_list_seq p (.inl rfl) ho hc hd (λh' c' kp e=>fin its r' hz h' c' kp e) (by simp only[Zk]<;>omega)
 ·obtain⟨its,r',pl,hz⟩:=I.tuple hq;have hlen:=r'.length;obtain⟨o,ho,hc,n,hd⟩:=pl;exact call_list_seq p (.inr rfl) ho hc hd (λh' c' kp e=>fin its r' hz h' c' kp e) (by simp only[Zk]<;>omega)
theorem oA:dN X (.type "tuple") (λxs H Q=>∃p ys,xs=[.ref p]/\((SqL X.K H p ys/\∀l,H l=none->Q (.ref l) (bI H l (.tup ys)))\/(SqT X.K H p ys/\Q (.ref p) H))):=by
 intro pins s σ H xs us Q I r h;obtain⟨p,ys,rfl,h⟩:=h;obtain⟨u,rfl,rx⟩:=gE r;cases rx;rcases h with ⟨hq,q⟩|⟨hq,q⟩
 ·obtain⟨its,r',pl,hz⟩:=I.list hq;have hlen:=r'.length;refine call_tuple_list pl.isList (λh' kp=>?_) (by simp only[Zk]<;>omega);have I1:Inv X pins σ H {s with heap:=h'}:=I.kept (t':=s.toks) kp
  have I2:Inv X pins σ (bI H h'.objs.size (.tup ys)) {s with heap:=h'.push {cls:=.type "tuple",data:=.seq its.toArray}}:=
   I1.laid (t':=s.toks) (λb o e=>Zf _ e) (Zn _) (show ObjOk X.prog X.w _ _ _ (.tup ys) from⟨hz,its,r',IsTup.new _ _⟩)
  exact⟨.ref h'.objs.size,_,I2,rfl,q _ (I1.hok.fresh (Zn _))⟩
 ·obtain⟨its,r',pl,hz⟩:=I.tuple hq;exact call_tuple_same pl ⟨.ref p,H,I,rfl,q⟩
def tyV(K:W.Frag)(T:String)(x:V)(H:Hp):Prop:=match x with
 |.str _=>T="str"
 |.int _=>T="int"
 |.ref p=>(T="list"/\∃xs,SqL K H p xs)\/(T="tuple"/\∃o,K.lookup p=some o/\o.cls=.type "tuple"/\o.dict=none)\/
   (T="dict"/\((∃kvs,H p=some (.dK kvs))\/∃kvs,H p=some (.dT kvs)))\/(T="set"/\∃S n,H p=some (.set S n))
 |_=>False
theorem KU{pins:List (Addr×Obj)}{σ:St}{H:Hp}{s:Shared}{T:String}{x:V}{v:Value}(I:Inv X pins σ H s)(r:RelV x v)(ty:tyV X.K T x H):
 s.TypeIs v T/\∀a,v=.ref a->∃ob,s.heap.get? a=some ob/\ob.dict=none:=by
 cases x with
 |str z=>
  obtain⟨t,rfl⟩:=r
  cases(show T="str" from ty)
  exact⟨typeIs_str s z t,λ_ e=>nomatch e⟩
 |int i=>
  obtain⟨t,rfl⟩:=r
  cases(show T="int" from ty)
  exact⟨typeIs_int s i t,λ_ e=>nomatch e⟩
 |ref p=>
  cases r;rcases ty with ⟨rfl,xs,hq⟩|⟨rfl,o,hk,hc,hd⟩|⟨rfl,hk⟩|⟨rfl,S,n,hk⟩
  ·obtain⟨its,_,pl,_⟩:=I.list hq;refine⟨pl.isList.typeIs,λa e=>?_⟩;cases e;obtain⟨o,n,e,c,hd,_⟩:=pl;exact⟨o,e,hd⟩
  ·refine⟨⟨o,I.kIn p o hk,hc⟩,λa e=>?_⟩;cases e;exact⟨o,I.kIn _ o hk,hd⟩
  ·have z:∃o,s.heap.get? p=some o/\o.ExactDict:=by
    rcases hk with ⟨kvs,hk⟩|⟨kvs,hk⟩
    ·obtain⟨_,_,_,_,o,_,_,e,ex,_⟩:=I.hok p _ hk;exact⟨o,e,ex⟩
    ·obtain⟨_,_,_,_,o,_,_,e,ex,_⟩:=I.hok p _ hk;exact⟨o,e,ex⟩
   obtain⟨o,e,ex⟩:=z;refine⟨⟨o,e,ex.1⟩,λa e2=>?_⟩;cases e2;exact⟨o,e,ex.2.1⟩
  ·obtain⟨o,_,_,_,e,ex,_⟩:=I.hok p _ hk;refine⟨⟨o,e,ex.1⟩,λa e2=>?_⟩;cases e2;exact⟨o,e,ex.2.1⟩
 |_=>exact False.elim ty
def tBM(K:W.Frag)(T:String)(r:V->List V->Hp->VK->Prop)(to:TE)(t:TA):TE:=λσ H Q=>to σ H λx H1=>tyV K T x H1/\t σ H1 λxs H2=>r x xs H2 Q
variable {o e:Expr}{es:List Expr}{to:TE}{t:TA}{name:Str}{apos cpos:Pos}{T id:String}{r:V->List V->Hp->VK->Prop}
theorem IY(pa:PlainAttrs T)(slot:Slot T name id)(hty:typeOf (.builtin id)=pure (.type "method_descriptor"))(hm:MtR X id r)(ho:PE X o to)(ha:PA X (e::es) t)
 (hbase:attributeBase o name X.env (eval o X.env)=eval o X.env:=by rfl)
 (hfew:((backTo cpos (starEach (e::es) X.env)).all (λx=> !x.1)&&(backToKw cpos (keywordEach [] X.env)).all (λx=>x.1.isSome)
   &&decide ((e::es).length+([]:List Keyword).length+(if([]:List Keyword).isEmpty then 0 else 1)<30))=true:=by rfl)
 (hline:(apos.endLine==cpos.line)=true:=by rfl)(hs:starEach (e::es) X.env=(false,eval e X.env)::starEach es X.env:=by rfl)(hplain:(backTo cpos (starEach es X.env)).any (·.1)=false:=by rfl):
 PE X (.Call (.Attribute o name apos) (e::es) [] cpos) (tBM X.K T r to t):=by
 intro pins s σ H Q I h;refine wpAny_Call_method_late hbase hfew hline rfl (bM (ho pins s σ H _ I h) λv s1 ⟨x,H1,I1,r1,ty,q1⟩=>?_);obtain⟨h1,h2⟩:=KU I1 r1 ty;refine⟨T,id,pa,slot,hty,h1,h2,?_⟩;have hA:=ha cpos pins s1 σ H1 _ I1 q1;rw[hs] at hA⊢;refine Calls.callWith_builtin (by show(false||(backTo cpos (starEach es X.env)).any (·.1))=false;rw[hplain]<;>rfl) (Calls.evalArgs_plain ?_);exact bM hA λus s2 ⟨vs,H2,I2,r2,q2⟩=>hm pins s2 σ H2 x vs v us Q I2 r1 r2 q2
end
end L2
namespace L2
open PySem PySem.Spec PyProof.Rows
def MtM(X:Cx)(id:String)(r:V->List V->Hp->VK->Prop):Prop:=
 ∀(pins:List (Addr×Obj))(s:Shared)(σ:St)(H:Hp)(x:V)(xs:List V)(v:Value)(us:List Value)(Q:VK),Inv X pins σ H s->RelV x v->Vals xs us->r x xs H Q->
  wpAny (model X.prog X.w) X.A (call (.builtin id) (v::us)) (EP X pins σ Q) X.xe s
theorem Vals.one:∀{x:V}{us:List Value},Vals [x] us->∃u,us=[u]/\RelV x u
 |_,_,.cons r .nil=>⟨_,rfl,r⟩
section
variable {X:Cx}{pins:List (Addr×Obj)}{σ:St}{H:Hp}{s:Shared}{l b:Addr}{xs ys zs:List V}
theorem Inv.lset{its its':List Value}{n:Nat}{f:Array Value->Array Value}{t':Nat}(I:Inv X pins σ H s)(hH:H l=some (.lst xs))
 (e:s.heap.get? l=some {cls:=.type "list",data:=.seq its.toArray n})(hf:f its.toArray=its'.toArray)(hv:Vals ys its')(hz:ys.length<=sizeLine):
 Inv X pins σ (bI H l (.lst ys)) {s with heap:=s.heap.update l (Obj.mapSeq f),toks:=t'}:=by
 have q:=PySem.IsL.update e f;rw[hf] at q;refine I.write (x:=l) (e:=l) (by rw[hH];exact trivial) (.inl rfl) (λb' u hb hu=>(Heap.get?_update_other s.heap (Obj.mapSeq f) (Ne.symm hb)).trans hu) ⟨_,q⟩ ?_;exact⟨hz,its',_,hv,q⟩
theorem Inv.lnew{its:List Value}{t':Nat}(I:Inv X pins σ H s)(hv:Vals ys its)(hz:ys.length<=sizeLine):
 Inv X pins σ (bI H s.heap.objs.size (.lst ys)) {s with heap:=s.heap.push {cls:=.type "list",data:=.seq its.toArray},toks:=t'}:=
 I.laid (λ_ _ q=>Zf _ q) (Zn _) ⟨hz,its,0,hv,Heap.get?_push_size _ rfl⟩
theorem Inv.fresh(I:Inv X pins σ H s):H s.heap.objs.size=none:=I.hok.fresh (Zn _)
theorem Inv.lstM(I:Inv X pins σ H s)(hH:H l=some (.lst xs)):xs.length<=sizeLine/\∃(its:List Value)(n:Nat),Vals xs its/\xs.length=its.length/\s.heap.get? l=some {cls:=.type "list",data:=.seq its.toArray n}:=by
 obtain⟨z,its,n,r,e⟩:=I.hok l _ hH;exact⟨z,its,n,r,r.length,e⟩
end
section
variable {X:Cx}
noncomputable def ES:V->List V->Hp->VK->Prop:=λx vs H Q=>∃l xs y,x=.ref l/\vs=[y]/\H l=some (.lst xs)/\xs.length<sizeLine/\Q .non (bI H l (.lst (xs++ [y])))
theorem kL:MtM X "list.append" ES:=by
 intro pins s σ H x vs v us Q I rx rv h;obtain⟨l,xs,y,rfl,rfl,hH,hz,q⟩:=h;cases rx;obtain⟨u,rfl,ru⟩:=rv.one;obtain⟨z,its,n,r,hl,e⟩:=I.lstM hH;refine call_meets F.slot_list_append ⟨_,e,rfl⟩ F.entry_list_append (F.args_list_append_2 _ _) (PySem.list_append l its.toArray n u (by rw[Zk];omega)) ⟨e,?_⟩;refine⟨.non,_,I.lset (its':=its++ [u]) hH e (by simp) (r.append (.cons ru .nil)) ?_,rfl,q⟩;rw[List.length_append,List.length_singleton];omega
noncomputable def WO:R2:=λx y H Q=>∃l b xs zs,x=.ref l/\y=.ref b/\H l=some (.lst xs)/\H b=some (.lst zs)/\xs.length+zs.length<=sizeLine/\∀p,H p=none->Q (.ref p) (bI H p (.lst (xs++zs)))
theorem ML:jI X (binaryOp .Add) WO:=by
 intro pins s σ H x y v u Q I rx ry h;obtain⟨l,b,xs,zs,rfl,rfl,hH,hB,hz,q⟩:=h;cases rx;cases ry;obtain⟨z,its,n,r,hl,e⟩:=I.lstM hH;obtain⟨z2,its2,n2,r2,hl2,e2⟩:=I.lstM hB;refine PySem.P.add_list e e2 ?_ (by rw[Zk,Zk];omega);have ea:its.toArray++its2.toArray=(its++its2).toArray:=by simp
 rw[ea];exact⟨.ref _,_,I.lnew (t':=s.toks) (r.append r2) (by rw[List.length_append];omega),rfl,q _ I.fresh⟩
end
section
variable {prog:Program}{w:World}{A:Around}{E:Value->Shared->Prop}{s:Shared}
end
section
variable {X:Cx}
end
end L2
namespace Att
open PySem PySem.W PySem.Calls PyProof.Rows
theorem lK{P:Params}{h:Heap}:∀(ns:List Int)(vs:List Value),WellAll P h vs (ns.map WData.int)->IntsAre vs ns:=by
 intro ns
 induction ns with
 |nil=>
  intro vs w;rw[List.map_nil] at w;cases w;exact .nil
 |cons n ns ih=>
  intro vs w;rw[Zh] at w;cases w with
  |cons a b=>
   cases a;exact .cons _ _ (ih _ b)
theorem xE{l:OpenLaw}{n:Nat}(hn:l.most=some n){P:Params}{h:Heap}{args:List WData}{vals:List Value}
 (hpre:l.row.toRowW.claim.pre args=true)(hwl:WellAll P h vals args):
 ∃a vs ns,vals=[Value.ref a]/\args=[WData.list (ns.map WData.int)]/\h.get? a=some {cls:=.type "list",data:=.seq vs.toArray}/\IntsAre vs ns/\ns.length<=n:=by
 have hsh:WShape.hasAll [] args [.list .int]=true:=(pre_splitW hpre).1;have hc:l.pre.holds [] {args:=args}=true:=(pre_splitW hpre).2;obtain⟨d,r,rfl,h1,h2⟩:=hasAllW_cons hsh;obtain rfl:=hasAllW_nil h2;obtain⟨xs,rfl,h3⟩:=hasW_list h1;obtain⟨ns,rfl⟩:=items_int h3
 have hlen:ns.length<=n:=by
  unfold OpenLaw.pre at hc
  have h4:(WTm.not (.lt (.lit (.int (n:Int))) (.len (.arg 0)))).holds [] {args:= [.list (ns.map .int)]}=true:=by
   have h4:=(holds_andW hc).1;rw[hn] at h4;exact h4
  have h5:=condW_of h4 (w_not (w_lt w_lit (w_len_list (w_arg rfl))));rw[Zc] at h5;refine Nat.le_of_not_lt λq=>?_;have q':(n:Int)<((ns.length:Nat):Int):=by omega
  first
   |(rw[decide_eq_true q'] at h5;exact absurd h5 (by decide))
   |(simp at h5;omega)
 cases hwl with
 |cons w1 w2=>
  cases w2;cases w1 with
  |list ho hall=>exact⟨_,_,ns,rfl,rfl,ho,lK ns _ hall,hlen⟩
theorem xJ(l:OpenLaw)(args:List WData):l.row.toRowW.claim.post args (.bool true) args=true:=
 postW_of (r:=l.row.toRowW) (X:=(true==true))
  (show WShape.has [] (.bool true) .bool=true by first |rfl|decide|simp[WShape.has,WShape.arms,WShape.armsAll])
  (show(WTm.eq .res (.lit (.bool true))).value [] {args:=args,res:=some (.bool true),after:=args}=some (.bool (true==true)) from w_eq_bool (w_res rfl) w_lit) rfl
theorem attach_call{l:OpenLaw}{n:Nat}{q:Program}{loose:List Str}{XP:(Str->Option Value)->Heap->Prop}{YP:World->Heap->Prop}{d:DefRec}
 (hn:l.most=some n)(hdf:d.params.defaults=[])
 (call:∀(w:World)(s₀ s₁:Shared)(mg mb:Str->Option Value)(fa:Addr)(o:Obj)(pm cd doc:Value)(a:Addr)(vs:List Value)(ns:List Int),
   Ground q loose [] XP w s₀ mg mb s₁.heap->YP w s₁.heap->
   s₁.heap.get? fa=some o->o.data=.func (docDef d.name d.params d.body d.scope pm cd doc)->s₁.heap.CodeRec cd d.name->mg d.name=some (.ref fa)->
   s₁.heap.get? a=some {cls:=.type "list",data:=.seq vs.toArray}->IntsAre vs ns->ns.length<=n->s₁.gens= #[]->
   codeAny (model l.prog w) callerA (.call (.ref fa) ⟨[.ref a],[]⟩) (λr s'=>r=.ok (.ret (.bool true))/\OldK s₁.heap s'.heap/\s'.os=s₁.os/\AllBare s'.gens) s₁):
 WalkO q loose XP YP l.row.toRowW d [] (λf vs=>PySem.call f vs):=by
 intro w s₀ s₁ mg mb G Y fa o pm cd doc dV kV ho hd hcd hD hmg hg args vals as hpre hlay hrd hwl hlo;obtain rfl:dV=.none:=Dflts.none hD hdf;obtain rfl:kV=.none:=Dflts.noKw hD;obtain⟨a,vs,ns,rfl,rfl,hobj,hints,hlen⟩:=xE hn hpre hwl;refine enter_call (codeAny_mono (call w s₀ s₁ mg mb fa o pm cd doc a vs ns G Y ho (fd_plain hd) hcd hmg hobj hints hlen hg) λr s' hq=>?_);obtain⟨rfl,h2,h3,h4⟩:=hq;exact⟨.inl ⟨.bool true,.bool true,[],rfl,λ_=>rfl,.bool true,xJ l _,λ_=>⟨List.Pairwise.nil,λ_ hm=>(nomatch hm)⟩⟩,h2,h3,h4⟩
section
variable {prog:Program}{w:World}{A:Around}{E:Value->Shared->Prop}{s:Shared}{K:Frag}
end
end Att
namespace L2
open PySem PySem.Spec PyProof.Rows
theorem oC:∀{vs:List Value}{ns:List Int},IntsAre vs ns->Vals (ns.map V.int) vs
 |_,_,.nil=>.nil
 |_,_,.cons n t h=>.cons ⟨t,rfl⟩ (oC h)
def HY(H:Hp):Prop:=∀b,H b=none\/∃o xs,H b=some (.frz o (.lst xs))
theorem law_call{P:Program}{w:World}{K:W.Frag}{mg mb:Str->Option Value}{CX:yS}{k:Nat}{fa a:Addr}{fd:FuncData}{x:Str}{sp:Sp}{s₁:Shared}{vs:List Value}{ns:List Int}
 (KX:K.In s₁.heap)(hns:s₁.heap.Ns mainGlobals mg)(hb:s₁.heap.Ns builtinsNs mb)(hbb:∀x:Str,x≠"__name__"->mb x=bootBuiltins x)(hlim:s₁.heap.NoLimit)(hg:s₁.gens= #[])
 (ha:s₁.heap.get? a=some {cls:=.type "list",data:=.seq vs.toArray})(hi:IntsAre vs ns)(hl:ns.length<=sizeLine)(hr:Room k callerA)
 (F:∀base:Heap,K.In base->base.Ns mainGlobals mg->FnOk P w K mg base CX k fa fd [x] sp)(hbind:∀(s:Shared)(u:Value),BindsTo s fd ⟨[u],[]⟩ [(x,u)])
 (hsp:∀H:Hp,HY H->SqL K H a (ns.map V.int)->sp [.ref a] H (λv _=>v=.bl true) λ_ _ _=>False)
 (hCX:∀H e s',CX [] H s₁ (λ_ _ _=>False) e s'->False):
 codeAny (model P w) callerA (.call (.ref fa) ⟨[.ref a],[]⟩) (λr s'=>r=.ok (.ret (.bool true))/\OldK s₁.heap s'.heap/\s'.os=s₁.os/\AllBare s'.gens) s₁:=by
 have rv:=oC hi;have lenV:=hi.length
 have core:∀H:Hp,HY H->SqL K H a (ns.map V.int)->HOk P w H s₁.heap->(∀b,H b≠none->b=a)->(H a≠none->K.lookup a=none)->
  codeAny (model P w) callerA (.call (.ref fa) ⟨[.ref a],[]⟩) (λr s'=>r=.ok (.ret (.bool true))/\OldK s₁.heap s'.heap/\s'.os=s₁.os/\AllBare s'.gens) s₁:=by
  intro H hO hS hok hA hK;have base_of:∀{b:Addr}{o:Obj},s₁.heap.get? b=some o->H b=none->(qB s₁.heap H).get? b=some o:=λe n=>BM e n
  have noA:∀{b:Addr}{o:Obj}{es:Array DictEntry}{ep:Nat},s₁.heap.get? b=some o->o.data=.dict es ep->H b=none:=λ{b o es ep} e d=>by
   cases q:H b with
   |none=>rfl
   |some u=>
    have e':b=a:=hA b (by rw[q];simp);subst e';rw[ha] at e;cases e;have d':Data.seq vs.toArray _=Data.dict es ep:=d;cases d'
  have nsK:∀{b:Addr}{m:Str->Option Value},s₁.heap.Ns b m->(qB s₁.heap H).Ns b m:=λ{b m} ⟨o,es,ep,e,d,r⟩=>⟨o,es,ep,base_of e (noA e d),d,r⟩
  have hKb:K.In (qB s₁.heap H):=λb o e=>base_of (KX b o e) (by
   cases q:H b with
   |none=>rfl
   |some u=>
    have e':b=a:=hA b (by rw[q];simp);subst e';rw[hK (by rw[q];simp)] at e;cases e)
  have hM:Mod K mg (qB s₁.heap H):=⟨hKb,nsK hns,⟨mb,nsK hb,hbb⟩,let⟨mc,h1,h2⟩:=hlim;⟨mc,nsK h1,h2⟩⟩;have e0:Env0 P w K mg (qB s₁.heap H) callerA [] s₁ H:=⟨rfl,hM,λb o e=>FG e,Nat.le_of_eq (xX _ _),trivial,λb hb=>absurd (show b∈([]:List Addr) from hb) (by simp),hok,.of_eq hg⟩;refine codeAny_mono ((F _ hKb (nsK hns)).run callerA [] s₁ H ⟨[.ref a],[]⟩ [.ref a] [.ref a] _ _ hr e0 (hbind s₁ (.ref a)) (.cons rfl .nil) (hsp H hO hS)) λr s' h=>?_;cases r with
  |error e=>exact(hCX H e s' h).elim
  |ok fl=>
   cases fl with
   |next=>exact False.elim h
   |brk=>exact False.elim h
   |cont=>exact False.elim h
   |ret u=>
    obtain⟨v,H',os,bare,un,hok',r',q⟩:=h;have q':v=.bl true:=q;subst q';obtain rfl:u=Value.bool true:=r';refine⟨rfl,OldK.of_keep λb o e=>?_,os,bare⟩;cases q:H b with
    |none=>exact un.keep b o e q (by intro z;exact absurd (show b∈([]:List Addr) from z) (by simp)) (by simp)
    |some u=>
     rcases hO b with z|⟨ob,xs,z⟩
     ·rw[q] at z;cases z
     ·have z2:=un.frzs b ob _ z;obtain⟨e1,_⟩:=hok b _ z;obtain⟨e2,_⟩:=hok' b _ z2;rw[e] at e1;cases e1;exact e2
 cases hk:K.lookup a with
 |some o=>
  have e:=KX a o hk;rw[ha] at e;cases e;refine core (λ_=>none) (λ_=>.inl rfl) (.inr ⟨_,vs.toArray,_,hk,rfl,rfl,rfl,by rw[Zk,lenV];exact hl,by simpa using rv⟩) (λb u z=>by have z':(none:Option HO)=some u:=z;cases z') (λb z=>absurd rfl z) λz=>absurd rfl z
 |none=>
  refine core (λb=>if b=a then some (.frz {cls:=.type "list",data:=.seq vs.toArray} (.lst (ns.map V.int))) else none) (λb=>?_) (.inl (.inr ⟨{cls:=.type "list",data:=.seq vs.toArray},if_pos rfl⟩)) (λb u z=>?_) (λb z=>?_) λ_=>hk
  ·by_cases hb:b=a
   ·exact .inr ⟨_,_,if_pos hb⟩
   ·exact .inl (if_neg hb)
  ·by_cases hb:b=a
   ·have z':=(if_pos hb).symm.trans z;cases z';subst hb;exact⟨ha,by rw[Zc];exact hl,vs,_,rv,ha⟩
   ·have z':=(if_neg hb).symm.trans z;cases z'
  ·by_cases hb:b=a
   ·exact hb
   ·exact absurd (if_neg hb) z
end L2
namespace L2
open PySem PySem.Spec PyProof.Rows
theorem walk_of{l:W.OpenLaw}{n k:Nat}{q:Program}{loose:List Str}{XP:(Str->Option Value)->Heap->Prop}{YP:World->Heap->Prop}{d:DefRec}{K:Params->W.Frag}{CX:World->yS}{sp:World->Sp}{x:Str}
 (hn:l.most=some n)(hn2:n<=sizeLine)(hdf:d.params.defaults=[])(hr:Room k callerA)
 (hY:∀(w:World)(h:Heap),YP w h->(K w.params).In h)
 (F:∀(w:World)(mg:Str->Option Value)(fa:Addr)(h:Heap),(K w.params).In h->h.Ns mainGlobals mg->mg d.name=some (.ref fa)->
   ∃fd:FuncData,(∀(s:Shared)(u:Value),BindsTo s fd ⟨[u],[]⟩ [(x,u)])/\
    ∀base:Heap,(K w.params).In base->base.Ns mainGlobals mg->FnOk l.prog w (K w.params) mg base (CX w) k fa fd [x] (sp w))
 (hsp:∀(w:World)(H:Hp)(a:Addr)(ns:List Int),ns.length<=n->HY H->SqL (K w.params) H a (ns.map V.int)->sp w [.ref a] H (λv _=>v=.bl true) λ_ _ _=>False)
 (hCX:∀(w:World)(H:Hp)(s:Shared)(e:Value)(s':Shared),CX w [] H s (λ_ _ _=>False) e s'->False):
 W.WalkO q loose XP YP l.row.toRowW d [] (λf vs=>PySem.call f vs):=by
 refine Att.attach_call hn hdf λw s₀ s₁ mg mb fa o pm cd doc a vs ns G Y ho hd hcd hmg hobj hints hlen hg=>?_;have KX:=hY w _ Y;obtain⟨fd,hb,hF⟩:=F w mg fa _ KX G.T.g hmg;exact law_call KX G.T.g G.T.b G.T.builtins G.T.nolimit hg hobj hints (Nat.le_trans hlen hn2) hr hF hb (λH hO hS=>hsp w H a ns hlen hO hS) λH e s'=>hCX w H s₁ e s'
end L2
namespace L2
open PySem PySem.Spec PyProof.Rows
noncomputable def FU(s:Stmt)(j:Nat):Stmt:=match s with
 |.ClassDef _ _ _ body _ _ _ _ _ _ _=>body.getD j (.Pass ⟨0,0,0,0⟩)
 |_=>.Pass ⟨0,0,0,0⟩
noncomputable def gA(s:Stmt):Arguments:=match s with
 |.FunctionDef _ a _ _ _ _ _ _ _ _=>a
 |_=>{posonlyargs:= [],args:= [],vararg:=none,kwonlyargs:= [],kw_defaults:= [],kwarg:=none,defaults:= []}
noncomputable def aM(s:Stmt):List Stmt:=match s with
 |.FunctionDef _ _ b _ _ _ _ _ _ _=>b
 |_=>[]
noncomputable def aH(s:Stmt):Scope:=match s with
 |.FunctionDef _ _ _ _ _ _ sc _ _ _=>sc
 |_=>{kind:=.function,names:= [],isGenerator:=false,isCoroutine:=false}
abbrev CX0:yS:=λ_ _ _ _ _ _=>False
abbrev E0:XK:=λ_ _ _=>False
structure Fun (K:W.Frag)(x qual:Str)(st:Stmt)(f:Addr)(fd:FuncData):Prop where
 ex:∃(oc:Value)(od:Option Addr)(kV doc pm:Value)(an:Option Addr)(cdv ct:Value)(osl:Array (Option Value)),
  fd=W.fnOf x qual (gA st) (aM st) (aH st) .none kV doc pm an cdv ct/\K.lookup f=some ⟨oc,od,.func fd,osl⟩/\W.codeIn K cdv qual=true
 kp:W.keepIn K (.ref f)=true
section
variable {P:Program}{w:World}{K:W.Frag}{mg:Str->Option Value}{base:Heap}
theorem Fun.binds{x qual:Str}{st:Stmt}{f:Addr}{fd:FuncData}{ps:List Str}(F:Fun K x qual st f fd)
 (h:∀(kV doc pm:Value)(an:Option Addr)(cdv ct:Value)(us:List Value),us.length=ps.length->bindArgs (W.fnOf x qual (gA st) (aM st) (aH st) .none kV doc pm an cdv ct) ⟨us,[]⟩=pure (ps.zip us)):Binds K fd ps []:=by
 obtain⟨oc,od,kV,doc,pm,an,cdv,ct,osl,rfl,lk,hcd⟩:=F.ex;exact .all (h kV doc pm an cdv ct)
theorem BP{x qual:Str}{st:Stmt}{f:Addr}{oc:Value}{od an:Option Addr}{osl:Array (Option Value)}{kV doc pm cdv ct:Value}(l:K.lookup f=some ⟨oc,od,.func (W.fnOf x qual (gA st) (aM st) (aH st) .none kV doc pm an cdv ct),osl⟩)
 (c:W.codeIn K cdv qual=true)(k:W.keepIn K (.ref f)=true):Fun K x qual st f (W.fnOf x qual (gA st) (aM st) (aH st) .none kV doc pm an cdv ct):=⟨⟨oc,od,kV,doc,pm,an,cdv,ct,osl,rfl,l,c⟩,k⟩
end
theorem oF{n:Nat}(h:n<=1000):n<sizeLine:=Nat.lt_of_le_of_lt h (by decide)
section
variable {X:Cx}
theorem pv(i:Nat){x:Str}{pos:Pos}(hN:X.N[i]? =some x:=by rfl)(hv:UH X.env.scope x:=by first |exact Or.inl rfl|exact Or.inr (Or.inl rfl)|exact Or.inr (Or.inr rfl))(hd:(x==("__debug__":Str))=false:=by decide)
 (hcd:(x==("__classdict__":Str))=false:=by decide):PE X (.Name x pos) (zL i):=AN hN hv hd hcd
end
theorem nY{A B:Prop}(h:B):if false=true then A else B:=by
 rw[if_neg Bool.false_ne_true];exact h
theorem nX{A B:Prop}(h:A):if true=true then A else B:=by
 rw[if_pos rfl];exact h
def Same(H H':Hp):Prop:=∀b o,H b=some o->H' b=some o
end L2
section
namespace L2
open PySem PySem.Spec PyProof.Rows
section
variable {κ:Type} [DecidableEq κ]
noncomputable def fD(kvs:List (κ×V))(k:κ):Option V:=(kvs.find? λkv=>decide (kv.1=k)).map (·.2)
noncomputable def gI(kvs:List (κ×V))(k:κ)(v:V):List (κ×V):=
 if(kvs.any λkv=>decide (kv.1=k))=true then kvs.map (λkv=>if kv.1=k then(kv.1,v) else kv) else kvs++ [(k,v)]
noncomputable def gF(kvs:List (κ×V))(k:κ):List (κ×V):=kvs.filter λkv=>decide (kv.1≠k)
theorem lV{p:κ×V}{r:List (κ×V)}{k:κ}(e:p.1=k):fD (p::r) k=some p.2:=by simp[fD,List.find?_cons,e]
theorem lW{p:κ×V}{r:List (κ×V)}{k:κ}(e:¬p.1=k):fD (p::r) k=fD r k:=by simp[fD,List.find?_cons,e]
theorem qQ(k:κ):∀kvs:List (κ×V),(kvs.any λkv=>decide (kv.1=k))=(fD kvs k).isSome
 | []=>rfl
 |p::r=>by
  rw[List.any_cons]
  by_cases e:p.1=k
  ·simp only[lV e,decide_eq_true e,Bool.true_or,Option.isSome_some]
  ·rw[lW e,decide_eq_false e,Bool.false_or];exact qQ k r
theorem gP(kvs:List (κ×V))(k:κ)(v:V):(gI kvs k v).length<=kvs.length+1:=by
 unfold gI;split
 ·rw[Zc];omega
 ·rw[List.length_append,List.length_cons,List.length_nil];omega
theorem RelO.isSome_eq{o:Option V}{u:Option Value}(r:RelO o u):o.isSome=u.isSome:=by
 cases o with
 |none=>cases u with
  |none=>rfl
  |some _=>exact(show False from r).elim
 |some _=>cases u with
  |none=>exact(show False from r).elim
  |some _=>rfl
theorem KV.val{kvs:List (κ×V)}{vs:List (κ×Value)}(r:KV kvs vs)(k:κ):RelO (fD kvs k) (valueAt vs k):=by
 unfold KV at r
 induction r with
 |nil=>exact True.intro
 | @cons p q ps qs h t ih=>
   obtain⟨h1,h2⟩:=h
   by_cases e:p.1=k
   ·have e':q.1=k:=h1.symm.trans e;have b:valueAt (q::qs) k=some q.2:=by simp[valueAt,List.find?_cons,e']
    rw[lV e,b];exact h2
   ·have e':¬q.1=k:=λz=>e (h1.trans z);have b:valueAt (q::qs) k=valueAt qs k:=by simp[valueAt,List.find?_cons,e']
    rw[lW e,b];exact ih
theorem KV.any{kvs:List (κ×V)}{vs:List (κ×Value)}(r:KV kvs vs)(k:κ):(kvs.any λkv=>decide (kv.1=k))=vs.any λkv=>decide (kv.1=k):=by
 unfold KV at r
 induction r with
 |nil=>rfl
 |cons h t ih=>rw[List.any_cons,List.any_cons,ih,h.1]
theorem KV.repl{kvs:List (κ×V)}{vs:List (κ×Value)}(r:KV kvs vs)(k:κ){y:V}{u:Value}(ry:RelV y u):
 KV (kvs.map λkv=>if kv.1=k then(kv.1,y) else kv) (vs.map λkv=>if kv.1=k then(kv.1,u) else kv):=by
 unfold KV at r⊢
 induction r with
 |nil=>exact .nil
 | @cons p q ps qs h t ih=>
   rw[Zh,Zh];refine .cons ?_ ih;obtain⟨h1,h2⟩:=h
   by_cases e:p.1=k
   ·rw[if_pos e,if_pos (h1.symm.trans e)];exact⟨h1,ry⟩
   ·rw[if_neg e,if_neg (λz=>e (h1.trans z))];exact⟨h1,h2⟩
theorem KV.put{kvs:List (κ×V)}{vs:List (κ×Value)}(r:KV kvs vs)(k:κ){y:V}{u:Value}(ry:RelV y u):KV (gI kvs k y) (stored vs k u):=by
 unfold gI stored;rw[r.any k]
 by_cases e:(vs.any λkv=>decide (kv.1=k))=true
 ·rw[if_pos e,if_pos e];exact r.repl k ry
 ·rw[if_neg e,if_neg e];exact Paired.snoc r ⟨rfl,ry⟩
theorem KV.drop{kvs:List (κ×V)}{vs:List (κ×Value)}(r:KV kvs vs)(k:κ):KV (gF kvs k) (without vs k):=by
 unfold KV at r⊢;unfold gF without
 induction r with
 |nil=>exact .nil
 | @cons p q ps qs h t ih=>
   obtain⟨h1,h2⟩:=h;rw[List.filter_cons,List.filter_cons]
   by_cases e:p.1=k
   ·have a:¬decide (p.1≠k)=true:=by simp[e]
    have b:¬decide (q.1≠k)=true:=by simp[h1.symm.trans e]
    rw[if_neg a,if_neg b];exact ih
   ·have e':¬q.1=k:=λz=>e (h1.trans z);have a:decide (p.1≠k)=true:=by simp[e]
    have b:decide (q.1≠k)=true:=by simp[e']
    rw[if_pos a,if_pos b];exact .cons ⟨h1,h2⟩ ih
theorem KV.length{kvs:List (κ×V)}{vs:List (κ×Value)}(r:KV kvs vs):kvs.length=vs.length:=Paired.length r
theorem CL(kvs:List (κ×V))(k:κ):(gF kvs k).length<=kvs.length:=List.length_filter_le _ _
end
theorem mX{P:Program}{w:World}{k:bQ}{u:Value}(r:RelV (kV k) u):(bX P w).is k u=true:=by
 cases k with
 |inl i=>obtain⟨t,e⟩:=(show ∃t,u=Value.int i t from r);subst e;exact rS P w i t
 |inr x=>obtain⟨t,e⟩:=(show ∃t,u=Value.str x t from r);subst e;exact rR P w x t
theorem oS{P:Program}{w:World}:∀{ks:List bQ}{us:List Value},Vals (ks.map kV) us->ItemsAre (bX P w) ks us
 | [],_,r=>by rw[List.map_nil] at r;cases r;exact .nil
 |k::ks,_,r=>by
  rw[Zh] at r;cases r with
  |cons h t=>exact .cons (mX h) (oS t)
noncomputable abbrev KT(H:Hp):List (List bQ×V)->List (List bQ×Addr×Value)->Prop:=Paired λp q=>p.1=q.1/\H q.2.1=some (.tup (p.1.map kV))/\RelV p.2 q.2.2
theorem KT.val{H:Hp}{kvs:List (List bQ×V)}{xs:List (List bQ×Addr×Value)}(r:KT H kvs xs)(k:List bQ):RelO (fD kvs k) ((atKey xs k).map (·.2)):=by
 induction r with
 |nil=>exact True.intro
 | @cons p q ps qs h t ih=>
   obtain⟨h1,_,h2⟩:=h
   by_cases e:p.1=k
   ·have e':q.1=k:=h1.symm.trans e;have b:atKey (q::qs) k=some q.2:=by simp[atKey,List.find?_cons,e']
    rw[lV e,b];exact h2
   ·have e':¬q.1=k:=λz=>e (h1.trans z);have b:atKey (q::qs) k=atKey qs k:=by simp[atKey,List.find?_cons,e']
    rw[lW e,b];exact ih
theorem KT.repl{H:Hp}{kvs:List (List bQ×V)}{xs:List (List bQ×Addr×Value)}(r:KT H kvs xs)(k:List bQ){y:V}{u:Value}(ry:RelV y u):
 KT H (kvs.map λkv=>if kv.1=k then(kv.1,y) else kv) (xs.map (putAt k u)):=by
 induction r with
 |nil=>exact .nil
 | @cons p q ps qs h t ih=>
   rw[Zh,Zh];refine .cons ?_ ih;obtain⟨h1,h2,h3⟩:=h;unfold putAt
   by_cases e:p.1=k
   ·rw[if_pos e,if_pos (h1.symm.trans e)];exact⟨h1,h2,ry⟩
   ·rw[if_neg e,if_neg (λz=>e (h1.trans z))];exact⟨h1,h2,h3⟩
theorem KT.put{H:Hp}{kvs:List (List bQ×V)}{xs:List (List bQ×Addr×Value)}(r:KT H kvs xs)(k:List bQ){b:Addr}{y:V}{u:Value}(hb:H b=some (.tup (k.map kV)))(ry:RelV y u):
 KT H (gI kvs k y) (storedH xs k b u):=by
 have e:(kvs.any λkv=>decide (kv.1=k))=(atKey xs k).isSome:=by
  rw[qQ,(r.val k).isSome_eq,Option.isSome_map]
 unfold gI storedH;rw[e]
 by_cases q:(atKey xs k).isSome=true
 ·rw[if_pos q,if_pos q];exact r.repl k ry
 ·rw[if_neg q,if_neg q];exact Paired.snoc r ⟨rfl,hb,ry⟩
theorem KT.keeps{H H':Hp}{kvs:List (List bQ×V)}{xs:List (List bQ×Addr×Value)}(r:KT H kvs xs)(ht:∀b ys,H b=some (.tup ys)->H' b=some (.tup ys)):KT H' kvs xs:=
 Paired.mapP r λ_ _ z=>⟨z.1,ht _ _ z.2.1,z.2.2⟩
section
variable {P:Program}{w:World}{H:Hp}{h:Heap}{a:Addr}
theorem IS{u:HO}(ok:HOk P w H h)(e:Rd H a u):ObjOk P w H h a u:=e.ok ok
theorem nL{kvs:List (bQ×V)}(ok:HOk P w H h)(e:Rd H a (.dK kvs)):kvs.length<=sizeLine/\(a==sysModules)=false/\∃vs,KV kvs vs/\h.DictOf (bX P w) a vs:=
 show ObjOk P w H h a (.dK kvs) from IS ok e
theorem oW{kvs:List (bQ×V)}(ok:HOk P w H h)(e:H a=some (.dK kvs)):kvs.length<=sizeLine/\(a==sysModules)=false/\∃vs,KV kvs vs/\h.DictOf (bX P w) a vs:=nL ok (.inl e)
theorem mU{ks:List bQ}(ok:HOk P w H h)(e:H a=some (.tup (ks.map kV))):(tupleKind (bX P w)).is h ks a:=by
 obtain⟨_,its,r,o,h1,h2,n,h3⟩:=(show ObjOk P w H h a (.tup (ks.map kV)) from ok a _ e);exact⟨o,its.toArray,n,h1,h2,h3,by simpa using oS r⟩
theorem oV{kvs:List (List bQ×V)}(ok:HOk P w H h)(e:Rd H a (.dT kvs)):kvs.length<=sizeLine/\(a==sysModules)=false/\
 ∃xs,KT H kvs xs/\h.DictOfH (tupleKind (bX P w)) a xs:=by
 obtain⟨z,y,xs,r,o,es,ep,h1,h2,h3,h4,h5⟩:=(show ObjOk P w H h a (.dT kvs) from IS ok e);refine⟨z,y,xs,r,o,es,ep,h1,h2,h3,h4,λx hx=>?_,h5⟩
 have all:∀{l:List (List bQ×V)}{m:List (List bQ×Addr×Value)},KT H l m->∀x∈m,(tupleKind (bX P w)).is h x.1 x.2.1:=by
  intro l m q
  induction q with
  |nil=>intro x hx;exact nomatch hx
  | @cons p q ps qs hq t ih=>
    intro x hx;rcases List.mem_cons.mp hx with e|hx
    ·subst e;exact mU ok (by rw[<- hq.1];exact hq.2.1)
    ·exact ih x hx
 exact all r x hx
theorem TB{kvs:List (List bQ×V)}(ok:HOk P w H h)(e:H a=some (.dT kvs)):kvs.length<=sizeLine/\(a==sysModules)=false/\
 ∃xs,KT H kvs xs/\h.DictOfH (tupleKind (bX P w)) a xs:=oV ok (.inl e)
end
def DGet(H:Hp)(a:Addr)(y:V)(r:Option V):Prop:=
 (∃kvs k,Rd H a (.dK kvs)/\y=kV k/\r=fD kvs k)\/∃kvs k b,Rd H a (.dT kvs)/\y=.ref b/\H b=some (.tup (k.map kV))/\r=fD kvs k
def DPut(H:Hp)(a:Addr)(y v:V)(H':Hp):Prop:=
 (∃kvs k,H a=some (.dK kvs)/\y=kV k/\kvs.length<sizeLine/\H'=bI H a (.dK (gI kvs k v)))\/
 ∃kvs k b,H a=some (.dT kvs)/\y=.ref b/\H b=some (.tup (k.map kV))/\kvs.length<sizeLine/\H'=bI H a (.dT (gI kvs k v))
theorem DGet.k{H:Hp}{a:Addr}{kvs:List (bQ×V)}{k:bQ}(e:H a=some (.dK kvs)):DGet H a (kV k) (fD kvs k):=.inl ⟨kvs,k,.inl e,rfl,rfl⟩
theorem DPut.k{H:Hp}{a:Addr}{kvs:List (bQ×V)}{k:bQ}{v:V}(e:H a=some (.dK kvs))(hl:kvs.length<sizeLine):DPut H a (kV k) v (bI H a (.dK (gI kvs k v))):=.inl ⟨kvs,k,e,rfl,hl,rfl⟩
section
variable {X:Cx}{pins:List (Addr×Obj)}{σ:St}{H:Hp}{s:Shared}{a:Addr}{y v:V}{u r:Value}{o:Option V}{A:Around}{E:Value->Shared->Prop}
theorem Inv.big(I:Inv X pins σ H s):sysModules<s.heap.objs.size:=by
 have h:mainGlobals<s.heap.objs.size:=(I.mod.glob.keeps I.bk).lt;exact Nat.lt_trans (by decide) h
theorem yE{Q:Value->Shared->Prop}(hu:A.units+1<cLine)(I:Inv X pins σ H s)(g:DGet H a y (some v))(ry:RelV y u)(h:∀w' s',Inv X pins σ H s'->RelV v w'->Q w' s'):
 wpAny (model X.prog X.w) A (getItem (.ref a) u) Q E s:=by
 rcases g with ⟨kvs,k,e,ey,l⟩|⟨kvs,k,b,e,ey,eb,l⟩
 ·subst ey;obtain⟨z,hd,vs,rel,dd⟩:=nL I.hok e;obtain⟨w',hw,rw'⟩:=RelO.some_of (v:=v) (o:=valueAt vs k) (by rw[l];exact rel.val k);exact wpAny_getItem_of (mX ry) dd.mapOf hw (h w' _ (I.tok _) rw')
 ·subst ey
  cases(show u=Value.ref b from ry)
  obtain⟨z,hd,xs,rel,dd⟩:=oV I.hok e;obtain⟨w',hw,rw'⟩:=RelO.some_of (v:=v) (o:=(atKey xs k).map (·.2)) (by rw[l];exact rel.val k);obtain⟨p,hp,hp2⟩:=Option.map_eq_some_iff.mp hw;refine wpAny_getItem_heap (tupleKind_room_in1 hu) (mU I.hok eb) dd hp ?_;rw[hp2];exact h w' _ (I.tok _) rw'
theorem YK{Q:Value->Shared->Prop}(hu:A.units+1<cLine)(I:Inv X pins σ H s)(g:DGet H a y o)(ry:RelV y u)(h:∀s',Inv X pins σ H s'->Q (.bool o.isSome) s'):
 wpAny (model X.prog X.w) A (compareOp .In u (.ref a)) Q E s:=by
 rcases g with ⟨kvs,k,e,ey,l⟩|⟨kvs,k,b,e,ey,eb,l⟩
 ·subst ey;obtain⟨z,hd,vs,rel,dd⟩:=nL I.hok e;refine wpAny_in_of (mX ry) hd dd.mapOf ?_;rw[<- (rel.val k).isSome_eq, <- l];exact h _ (I.tok _)
 ·subst ey
  cases(show u=Value.ref b from ry)
  obtain⟨z,hd,xs,rel,dd⟩:=oV I.hok e;refine wpAny_in_heap (tupleKind_room_in1 hu) (mU I.hok eb) hd dd ?_;have q:=(rel.val k).isSome_eq;rw[Option.isSome_map] at q;rw[<- q, <- l];exact h _ (I.tok _)
theorem GS{Q:Value->Shared->Prop}(hu:A.units+1<cLine)(I:Inv X pins σ H s)(g:DGet H a y o)(ry:RelV y u)(h:∀s',Inv X pins σ H s'->Q (.bool (!o.isSome)) s'):
 wpAny (model X.prog X.w) A (compareOp .NotIn u (.ref a)) Q E s:=by
 rcases g with ⟨kvs,k,e,ey,l⟩|⟨kvs,k,b,e,ey,eb,l⟩
 ·subst ey;obtain⟨z,hd,vs,rel,dd⟩:=nL I.hok e;refine wpAny_notIn_of (mX ry) hd dd.mapOf ?_;rw[<- (rel.val k).isSome_eq, <- l];exact h _ (I.tok _)
 ·subst ey
  cases(show u=Value.ref b from ry)
  obtain⟨z,hd,xs,rel,dd⟩:=oV I.hok e;refine wpAny_notIn_heap (tupleKind_room_in1 hu) (mU I.hok eb) hd dd ?_;have q:=(rel.val k).isSome_eq;rw[Option.isSome_map] at q;rw[<- q, <- l];exact h _ (I.tok _)
theorem eZ{h':Heap}{t':Nat}{ob:HO}(I:Inv X pins σ H s)(mu:UL (H a))(hs:Heap.SameBut a s.heap h')(he:∃q,h'.get? a=some q)(new:ObjOk X.prog X.w (bI H a ob) h' a ob):
 Inv X pins σ (bI H a ob) {s with heap:=h',toks:=t'}:=
 I.write (x:=a) (e:=a) mu (.inl rfl) (λb q hb z=>(hs.2 b hb).trans z) he new
theorem uM{P:Program}{w:World}{H':Hp}{h':Heap}{kvs:List (bQ×V)}{vs:List (bQ×Value)}(z:kvs.length<=sizeLine)(hd:(a==sysModules)=false)(rel:KV kvs vs)(dd:h'.DictOf (bX P w) a vs):
 ObjOk P w H' h' a (.dK kvs):=⟨z,hd,vs,rel,dd⟩
theorem yD{H':Hp}{Q:Unit->Shared->Prop}(hu:A.units+1<cLine)(I:Inv X pins σ H s)(g:DPut H a y v H')(ry:RelV y u)(rv:RelV v r)(h:∀s',Inv X pins σ H' s'->Q () s'):
 wpAny (model X.prog X.w) A (setItem (.ref a) u r) Q E s:=by
 rcases g with ⟨kvs,k,e,ey,l,eH⟩|⟨kvs,k,b,e,ey,eb,l,eH⟩
 ·subst ey eH;obtain⟨z,hd,vs,rel,dd⟩:=oW I.hok e;have hz:vs.length<=sizeLine:=by rw[<- rel.length];exact z
  have hl:(gI kvs k v).length<=sizeLine:=by have:=gP kvs k v;omega
  refine wpAny_setItem_pairs (hsz:=hz) (mX ry) dd λh' dd' hs=>h _ ?_;have he:∃q,h'.get? a=some q:=let⟨q,_,_,hq,_⟩:=dd';⟨q,hq⟩;exact eZ I (by rw[e];exact True.intro) hs he (uM hl hd (rel.put k rv) dd')
 ·subst ey eH
  cases(show u=Value.ref b from ry)
  obtain⟨z,hd,xs,rel,dd⟩:=TB I.hok e;have hz:xs.length<=sizeLine:=by rw[<- Paired.length rel];exact z
  have hl:(gI kvs k v).length<=sizeLine:=by have:=gP kvs k v;omega
  refine wpAny_setItem_heap (hsz:=hz) (tupleKind_room_in1 hu) (mU I.hok eb) dd λh' dd' hs=>h _ ?_;obtain⟨q,es,ep,hq,h2,h3,h4,_,h5⟩:=dd';refine eZ I (by rw[e];exact True.intro) hs ⟨q,hq⟩ ⟨hl,hd,_,(rel.put k eb rv).keeps λc ys ec=>?_,q,es,ep,hq,h2,h3,h4,h5⟩;rw[aK (oN ec e (λz=>nomatch z))];exact ec
end
section
variable {X:Cx}{pins:List (Addr×Obj)}{σ:St}{H:Hp}{s:Shared}{a:Addr}{kvs:List (bQ×V)}{k:bQ}{u:Value}{A:Around}{E:Value->Shared->Prop}
theorem TK{v:V}{more:List Value}{Q:Value->Shared->Prop}(I:Inv X pins σ H s)(e:H a=some (.dK kvs))(ry:RelV (kV k) u)(l:fD kvs k=some v)(hm:more=[]\/∃x,more=[x])
 (h:∀w' s',Inv X pins σ (bI H a (.dK (gF kvs k))) s'->RelV v w'->Q w' s'):wpAny (model X.prog X.w) A (call (.builtin "dict.pop") (.ref a::u::more)) Q E s:=by
 obtain⟨z,hd,vs,rel,dd⟩:=oW I.hok e;obtain⟨w',hw,rw'⟩:=RelO.some_of (v:=v) (o:=valueAt vs k) (by rw[<- l];exact rel.val k)
 have hp:(keyPart u).isSome=true:=by
  cases k with
  |inl i=>obtain⟨t,q⟩:=(show ∃t,u=Value.int i t from ry);subst q;rfl
  |inr x=>obtain⟨t,q⟩:=(show ∃t,u=Value.str x t from ry);subst q;rfl
 have ha:argsOk "dict.pop" ⟨.ref a::u::more,[]⟩:=by
  rcases hm with q|⟨x,q⟩
  ·subst q;exact PySem.F.args_dict_pop_2 _ _
  ·subst q;exact PySem.F.args_dict_pop_3 _ _ _
 refine call_meetsIn PySem.F.slot_dict_pop dd.typeIs PySem.F.entry_dict_pop ha (meets_dict_pop_there (bX X.prog X.w) a (mX ry) more hm hp)
  ⟨vs,w',dd,by rw[<- rel.length];exact z,hw,λh' dd' hs=>h w' _ ?_ rw'⟩
 have he:∃q,h'.get? a=some q:=let⟨q,_,_,hq,_⟩:=dd';⟨q,hq⟩;exact eZ I (by rw[e];exact True.intro) hs he (uM (Nat.le_trans (CL kvs k) z) hd (rel.drop k) dd')
theorem TM{Q:Value->Shared->Prop}(I:Inv X pins σ H s)(e:Rd H a (.dK kvs))(h:∀t s',Inv X pins σ H s'->Q (.int kvs.length t) s'):wpAny (model X.prog X.w) A (call (.builtin "len") [.ref a]) Q E s:=by
 obtain⟨z,hd,vs,rel,dd⟩:=nL I.hok e;refine call_len_dict hd dd (by rw[<- rel.length];rw[sizeLine_eq] at z;omega) ?_;rw[<- rel.length];exact h _ _ (I.tok _)
end
theorem sJ{X:Cx}{pins:List (Addr×Obj)}{σ:St}{H:Hp}{s:Shared}{a:Addr}{y:V}{o:Option V}(I:Inv X pins σ H s)(g:DGet H a y o):s.TypeIs (.ref a) "dict":=by
 rcases g with ⟨kvs,k,e,_,_⟩|⟨kvs,k,b,e,_,_,_⟩
 ·obtain⟨_,_,vs,_,dd⟩:=nL I.hok e;exact dd.typeIs
 ·obtain⟨_,_,xs,_,dd⟩:=oV I.hok e;exact dd.typeIs
section
variable {X:Cx}{o i e value:Expr}{pos pos' tpos:Pos}{td ty tv:TE}
end
theorem sI{P:Program}{w:World}{H:Hp}(h:Heap)(hb:sysModules<h.objs.size):ObjOk P w H (h.push {cls:=.type "dict",data:=.dict #[]}) h.objs.size (.dK []):=
 ⟨Nat.zero_le _,beq_eq_false_iff_ne.mpr (Ne.symm (Nat.ne_of_lt hb)),[],.nil,Heap.DictOf.new h⟩
def LC:TE:=λ_ H Q=>∀p,H p=none->Q (.ref p) (bI H p (.dK []))
section
variable {X:Cx}{pos:Pos}
theorem AV:PE X (.Dict [] [] pos) LC:=λpins s σ H Q I h=>
 wpAny_Dict_empty ⟨.ref s.heap.objs.size,_,I.laid (a:=s.heap.objs.size) (o:=.dK []) (t':=s.toks) (λ_ _ q=>Zf _ q) (Zn _) (sI s.heap I.big),rfl,h _ (I.hok.fresh (Zn _))⟩
end
structure M1 (X:Cx)(o:Expr)(m:Str)(apos:Pos)(e:Expr)(cpos:Pos):Prop where
 base:attributeBase o m X.env (eval o X.env)=eval o X.env
 few:((backTo cpos (starEach [e] X.env)).all (λx=> !x.1)&&(backToKw cpos (keywordEach [] X.env)).all (λx=>x.1.isSome)
  &&decide (([e]:List Expr).length+([]:List Keyword).length+(if([]:List Keyword).isEmpty then 0 else 1)<30))=true
 line:(apos.endLine==cpos.line)=true
 trees:backTo cpos (starEach [e] X.env)=[(false,eval e X.env)]
def IsD(H:Hp)(a:Addr):Prop:=(∃kvs,Rd H a (.dK kvs))\/∃kvs,Rd H a (.dT kvs)
theorem NC{X:Cx}{pins:List (Addr×Obj)}{σ:St}{H:Hp}{s:Shared}{a:Addr}(I:Inv X pins σ H s)(d:IsD H a):
 s.TypeIs (.ref a) "dict"/\(∀b,Value.ref a=.ref b->∃ob,s.heap.get? b=some ob/\ob.dict=none)/\(a==sysModules)=false:=by
 rcases d with ⟨kvs,e⟩|⟨kvs,e⟩
 ·obtain⟨_,hd,vs,_,dd⟩:=nL I.hok e;refine⟨dd.typeIs,λb q=>?_,hd⟩;cases q;obtain⟨ob,_,_,h1,h2,_⟩:=dd;exact⟨ob,h1,h2.2.1⟩
 ·obtain⟨_,hd,xs,_,dd⟩:=oV I.hok e;refine⟨dd.typeIs,λb q=>?_,hd⟩;cases q;obtain⟨ob,_,_,h1,h2,_⟩:=dd;exact⟨ob,h1,h2.2.1⟩
section
variable {X:Cx}{pins:List (Addr×Obj)}{σ:St}{H:Hp}{s:Shared}{a:Addr}{y d:V}{u r:Value}{o:Option V}{A:Around}{E:Value->Shared->Prop}
end
def LB(td ty:TE):TE:=λσ H Q=>td σ H λx H1=>∃a,x=.ref a/\IsD H1 a/\ty σ H1 λy H2=>∃kvs k v,H2 a=some (.dK kvs)/\y=kV k/\fD kvs k=some v/\Q v (bI H2 a (.dK (gF kvs k)))
section
variable {X:Cx}{o e f:Expr}{apos cpos:Pos}{td ty tx:TE}
theorem AU(ho:PE X o td)(he:PE X e ty)(m:M1 X o "pop" apos e cpos):PE X (.Call (.Attribute o "pop" apos) [e] [] cpos) (LB td ty):=by
 intro pins s σ H Q I h;refine wpAny_Call_method m.base m.few m.line PySem.F.plainAttrs_dict PySem.F.slot_dict_pop PySem.F.type_dict_pop (bM (ho pins s σ H _ I h) λu s1 ⟨x,H1,I1,rx,a,ex,d,q1⟩=>?_);subst ex;obtain rfl:u=Value.ref a:=rx;obtain⟨t1,t2,_⟩:=NC I1 d;refine⟨t1,t2,?_⟩;rw[m.trees];refine Calls.callWith_builtin rfl (Calls.evalArgs_plain (Calls.spliced_cons (bM (he pins s1 σ H1 _ I1 q1) λiv s2 ⟨y,H2,I2,ry,kvs,k,v,ea,ey,l,q2⟩=>Calls.spliced_nil ?_)));subst ey;exact TK I2 ea ry l (.inl rfl) λw' s3 I3 rw'=>⟨v,_,I3,rw',q2⟩
end
section
variable {X:Cx}{pins:List (Addr×Obj)}{σ:St}{H:Hp}{s:Shared}{a:Addr}{kvs:List (bQ×V)}{A:Around}{E:Value->Shared->Prop}
end
section
variable {X:Cx}{pins:List (Addr×Obj)}{σ:St}{H:Hp}{s:Shared}{a:Addr}{y:V}{u:Value}{A:Around}{E:Value->Shared->Prop}
end
end L2
namespace L2
open PySem PySem.Spec PyProof.Rows
section
variable {X:Cx}
theorem yM:dN X (.builtin "len") (λxs H Q=>∃a kvs,xs=[V.ref a]/\H a=some (.dK kvs)/\Q (.int kvs.length) H):=by
 intro pins s σ H xs us Q I r h;obtain⟨a,kvs,rfl,ha,q⟩:=h;obtain⟨u,rfl,ru⟩:=gE r;cases ru;exact TM I (.inl ha) λt s' I'=>⟨.int kvs.length,H,I',⟨t,rfl⟩,q⟩
end
section
variable {κ:Type} [DecidableEq κ]
end
end L2
end
section
namespace Ng
open PySem PySem.Spec PyProof.Rows L2
noncomputable abbrev Sg:=L2.St
inductive D where
 |non|bl (b:Bool)|int (i:Int)|str (x:Str)|ty (n:String)|tup (l:List D)|ref (n:Nat)
inductive O where
 |lst (l:List D)|ro (l:List D)|dct (l:List (bQ×D))|dtt (l:List (List Int×D))|ded|dtf (l:List (List Int×D))|ins (cn:Str) (fs:List (Str×D))
noncomputable abbrev Hh:=List O
noncomputable abbrev Ev:=List (Option D)
inductive Rs (A:Type) where
 |ok (a:A) (h:Hh)|exc (c:Nat) (r:Ev) (h:Hh)|bad
noncomputable def Rs.bind{A B:Type}:Rs A->(A->Hh->Rs B)->Rs B
 |.ok a h,f=>f a h
 |.exc c r h,_=>.exc c r h
 |.bad,_=>.bad
theorem Rs.bind_ok{A B:Type}{r:Rs A}{f:A->Hh->Rs B}{b:B}{h':Hh}(e:r.bind f=.ok b h'):∃a h,r=.ok a h/\f a h=.ok b h':=by
 cases r with
 |ok a h=>exact⟨a,h,rfl,e⟩
 |exc c r h=>cases e
 |bad=>cases e
noncomputable def Rs.nx{A:Type}:Rs A->Rs A
 |.ok a h=>.ok a h
 |_=>.bad
theorem Rs.nx_ok{A:Type}{r:Rs A}{a:A}{h:Hh}(e:r.nx=.ok a h):r=.ok a h:=by
 cases r with
 |ok b h'=>exact e
 |exc c r h'=>cases e
 |bad=>cases e
noncomputable def Rs.inn{A:Type}(r:Ev):Rs A->Rs A
 |.exc c _ h=>.exc c r h
 |o=>o
mutual
inductive RD (K:W.Frag) (m:List Addr) (H:Hp):D->V->Prop where
 |non:RD K m H .non .non
 |bl (b:Bool):RD K m H (.bl b) (.bl b)
 |int (i:Int):RD K m H (.int i) (.int i)
 |str (x:Str):RD K m H (.str x) (.str x)
 |ty (n:String):RD K m H (.ty n) (.ty n)
 |tup {a:Addr} {ds:List D} {vs:List V} (h:SqT K H a vs) (r:RDs K m H ds vs):RD K m H (.tup ds) (.ref a)
 |ref {n:Nat} {a:Addr} (h:m[n]? =some a):RD K m H (.ref n) (.ref a)
inductive RDs (K:W.Frag) (m:List Addr) (H:Hp):List D->List V->Prop where
 |nil:RDs K m H [] []
 |cons {d:D} {v:V} {ds:List D} {vs:List V} (h:RD K m H d v) (r:RDs K m H ds vs):RDs K m H (d::ds) (v::vs)
end
structure Gr (K:W.Frag)(m:List Addr)(H:Hp)(m':List Addr)(H':Hp):Prop where
 pre:∀(n:Nat)(a:Addr),m[n]? =some a->m'[n]? =some a
 tup:∀(a:Addr)(vs:List V),SqT K H a vs->SqT K H' a vs
 frz:∀(a:Addr)(o:Obj)(u:HO),H a=some (.frz o u)->H' a=some (.frz o u)
theorem Gr.refl{K:W.Frag}{m:List Addr}{H:Hp}:Gr K m H m H:=⟨λ_ _ e=>e,λ_ _ e=>e,λ_ _ _ e=>e⟩
theorem Gr.trans{K:W.Frag}{m m1 m2:List Addr}{H H1 H2:Hp}(a:Gr K m H m1 H1)(b:Gr K m1 H1 m2 H2):Gr K m H m2 H2:=
 ⟨λn x e=>b.pre n x (a.pre n x e),λn x e=>b.tup n x (a.tup n x e),λn x u e=>b.frz n x u (a.frz n x u e)⟩
section
variable {K:W.Frag}{m m':List Addr}{H H':Hp}
mutual
theorem RD.mono(g:Gr K m H m' H'):∀{d:D}{v:V},RD K m H d v->RD K m' H' d v
 |_,_,.non=>.non
 |_,_,.bl b=>.bl b
 |_,_,.int i=>.int i
 |_,_,.str x=>.str x
 |_,_,.ty n=>.ty n
 |_,_,.tup h r=>.tup (g.tup _ _ h) (RDs.mono g r)
 |_,_,.ref h=>.ref (g.pre _ _ h)
theorem RDs.mono(g:Gr K m H m' H'):∀{ds:List D}{vs:List V},RDs K m H ds vs->RDs K m' H' ds vs
 |_,_,.nil=>.nil
 |_,_,.cons h r=>.cons (RD.mono g h) (RDs.mono g r)
end
theorem RDs.length:∀{ds:List D}{vs:List V},RDs K m H ds vs->ds.length=vs.length
 |_,_,.nil=>rfl
 |_,_,.cons _ r=>by simp[RDs.length r]
theorem RDs.get:∀{ds:List D}{vs:List V}{i:Nat}{d:D},RDs K m H ds vs->ds[i]? =some d->∃v,vs[i]? =some v/\RD K m H d v
 |_,_,_,_,.nil,e=>by simp at e
 |_,_,0,_,.cons h _,e=>by simp at e;subst e;exact⟨_,rfl,h⟩
 |_,_,i+1,d,.cons _ r,e=>by
  obtain⟨v,h1,h2⟩:=RDs.get (i:=i) (d:=d) r (by simpa using e);exact⟨v,by simpa using h1,h2⟩
theorem RDs.getV:∀{ds:List D}{vs:List V}{i:Nat}{v:V},RDs K m H ds vs->vs[i]? =some v->∃d,ds[i]? =some d/\RD K m H d v
 |_,_,_,_,.nil,e=>by simp at e
 |_,_,0,_,.cons h _,e=>by simp at e;subst e;exact⟨_,rfl,h⟩
 |_,_,i+1,v,.cons _ r,e=>by
  obtain⟨d,h1,h2⟩:=RDs.getV (i:=i) (v:=v) r (by simpa using e);exact⟨d,by simpa using h1,h2⟩
theorem RDs.append:∀{ds es:List D}{vs us:List V},RDs K m H ds vs->RDs K m H es us->RDs K m H (ds++es) (vs++us)
 |_,_,_,_,.nil,s=>s
 |_,_,_,_,.cons h r,s=>.cons h (RDs.append r s)
theorem RDs.set{d:D}{v:V}(q:RD K m H d v):∀{ds:List D}{vs:List V}(i:Nat),RDs K m H ds vs->RDs K m H (ds.set i d) (vs.set i v)
 |_,_,_,.nil=>.nil
 |_,_,0,.cons _ t=>.cons q t
 |_,_,i+1,.cons h t=>.cons h (RDs.set q i t)
end
theorem RDs.ints{K:W.Frag}{m:List Addr}{H:Hp}:∀(ns:List Int),RDs K m H (ns.map D.int) (ns.map V.int)
 | []=>.nil
 |n::ns=>.cons (.int n) (RDs.ints ns)
def SqR(K:W.Frag)(H:Hp)(a:Addr)(xs:List V):Prop:=
 (∃o,H a=some (.frz o (.lst xs)))\/
   ∃(o:Obj)(its:Array Value)(n:Nat),K.lookup a=some o/\o.cls=.type "list"/\o.dict=none/\o.data=.seq its n/\its.size<=sizeLine/\Vals xs its.toList
theorem SqR.sq{K:W.Frag}{H:Hp}{a:Addr}{xs:List V}(h:SqR K H a xs):SqL K H a xs:=by
 rcases h with h|h
 ·exact .inl (.inr h)
 ·exact .inr h
def Dtt(a:Addr)(xs:List (List Int×Addr×Value))(h:Heap):Prop:=
 (a==sysModules)=false/\xs.length<=1000/\∃(P:Program)(w:World)(o:Obj)(es:Array DictEntry)(ep:Nat),h.get? a=some o/\o.ExactDict/\o.data=.dict es ep/\
   es.toList=xs.map (entryOfKey (tupleKind (intKind P w)))/\(xs.map (·.1)).Nodup
def Dfo(a:Addr)(xs:List (List Int×Addr×Value))(o:Obj)(es:Array DictEntry)(ep:Nat):Prop:=
 (a==sysModules)=false/\xs.length<=1000/\o.ExactDict/\o.data=.dict es ep/\(∃(P:Program)(w:World),es.toList=xs.map (entryOfKey (tupleKind (intKind P w))))/\(xs.map (·.1)).Nodup
noncomputable def RO(K:W.Frag)(m:List Addr)(H:Hp)(a:Addr):O->Prop
 |.lst ds=>∃vs,H a=some (.lst vs)/\RDs K m H ds vs
 |.ro ds=>∃vs,SqR K H a vs/\RDs K m H ds vs
 |.dct ds=>∃us:List (bQ×V),H a=some (.dK us)/\ds.map (·.1)=us.map (·.1)/\RDs K m H (ds.map (·.2)) (us.map (·.2))
 |.dtt ds=>∃(xs:List (List Int×Addr×Value))(us:List V),H a=some (.ext (Dtt a xs))/\ds.map (·.1)=xs.map (·.1)/\(∀x∈xs,SqT K H x.2.1 (x.1.map V.int))/\RDs K m H (ds.map (·.2)) us/\Vals us (xs.map (·.2.2))
 |.ded=>True
 |.dtf ds=>∃(xs:List (List Int×Addr×Value))(us:List V)(o:Obj)(es:Array DictEntry)(ep:Nat),H a=some (.frz o (.own a))/\Dfo a xs o es ep/\ds.map (·.1)=xs.map (·.1)/\(∀x∈xs,SqT K H x.2.1 (x.1.map V.int))/\RDs K m H (ds.map (·.2)) us/\Vals us (xs.map (·.2.2))
 |.ins cn fs=>∃(C dx:Addr)(us:List (Str×V)),W.nsIn K mainGlobals cn=some (some (.ref C))/\H a=some (.ins C dx us)/\fs.map (·.1)=us.map (·.1)/\RDs K m H (fs.map (·.2)) (us.map (·.2))
noncomputable def O.wr:O->Bool
 |.lst _=>true
 |.ro _=>false
 |.dct _=>true
 |.dtt _=>true
 |.ded=>false
 |.dtf _=>false
 |.ins _ _=>true
noncomputable def UP:HO->Bool
 |.lst _=>true
 |.dK _=>true
 |.ext _=>true
 |.ins _ _ _=>true
 |_=>false
structure Wd (K:W.Frag)(m:List Addr)(h:Hh)(H:Hp):Prop where
 len:m.length=h.length
 nd:∀(i j:Nat)(a:Addr)(o u:O),m[i]? =some a->m[j]? =some a->h[i]? =some o->h[j]? =some u->o.wr=true->u.wr=true->i=j
 ob:∀(n:Nat)(o:O)(a:Addr),h[n]? =some o->m[n]? =some a->RO K m H a o
theorem Wd.at{K:W.Frag}{m:List Addr}{h:Hh}{H:Hp}(w:Wd K m h H){n:Nat}{o:O}(e:h[n]? =some o):∃a,m[n]? =some a/\RO K m H a o:=by
 have hn:n<h.length:=(Ze.mp e).1;have hm:n<m.length:=by rw[w.len];exact hn
 exact⟨m[n],Zd hm,w.ob n o _ e (Zd hm)⟩
def RSt(K:W.Frag)(m:List Addr)(H:Hp)(r:Ev)(s:Sg):Prop:=r.length=s.length/\∀(i:Nat)(d:D),r[i]? =some (some d)->∃v,s[i]? =some (some v)/\RD K m H d v
theorem RSt.mono{K:W.Frag}{m m':List Addr}{H H':Hp}{r:Ev}{s:Sg}(g:Gr K m H m' H')(h:RSt K m H r s):RSt K m' H' r s:=
 ⟨h.1,λi d e=>let⟨v,h1,h2⟩:=h.2 i d e;⟨v,h1,h2.mono g⟩⟩
theorem RSt.set{K:W.Frag}{m:List Addr}{H:Hp}{r:Ev}{s:Sg}{d:D}{v:V}(h:RSt K m H r s)(i:Nat)(q:RD K m H d v):RSt K m H (r.set i (some d)) (s.set i (some v)):=by
 refine⟨by simp[h.1],λj e he=>?_⟩
 by_cases hij:i=j
 ·subst hij
  have hl:i<r.length:=by
   have:=(Ze.mp he).1;simpa using this
  rw[List.getElem?_set_self hl] at he;have he':d=e:=by injection he with z;injection z
  subst he';exact⟨v,List.getElem?_set_self (by rw[<- h.1];exact hl),q⟩
 ·rw[List.getElem?_set_ne hij] at he;obtain⟨u,h1,h2⟩:=h.2 j e he;exact⟨u,by rw[List.getElem?_set_ne hij];exact h1,h2⟩
theorem SqT.upd_new{K:W.Frag}{H:Hp}{p:Addr}{o:HO}(hp:H p=none){a:Addr}{vs:List V}(h:SqT K H a vs):SqT K (bI H p o) a vs:=by
 rcases h with (h|⟨ob,h⟩)|h
 ·exact .inl (.inl (by rw[aK (bC h hp)];exact h))
 ·exact .inl (.inr ⟨ob,by rw[aK (bC h hp)];exact h⟩)
 ·exact .inr h
theorem SqT.upd_w{K:W.Frag}{H:Hp}{p:Addr}{u o:HO}(hp:H p=some u)(hw:UP u=true){a:Addr}{vs:List V}(h:SqT K H a vs):SqT K (bI H p o) a vs:=by
 rcases h with (h|⟨ob,h⟩)|h
 ·exact .inl (.inl (by rw[aK (oN h hp (λz=>by subst z;cases hw))];exact h))
 ·exact .inl (.inr ⟨ob,by rw[aK (oN h hp (λz=>by subst z;cases hw))];exact h⟩)
 ·exact .inr h
theorem SqR.upd_new{K:W.Frag}{H:Hp}{p:Addr}{o:HO}(hp:H p=none){a:Addr}{vs:List V}(h:SqR K H a vs):SqR K (bI H p o) a vs:=by
 rcases h with ⟨ob,h⟩|h
 ·exact .inl ⟨ob,by rw[aK (bC h hp)];exact h⟩
 ·exact .inr h
theorem SqR.upd_w{K:W.Frag}{H:Hp}{p:Addr}{u o:HO}(hp:H p=some u)(hw:UP u=true){a:Addr}{vs:List V}(h:SqR K H a vs):SqR K (bI H p o) a vs:=by
 rcases h with ⟨ob,h⟩|h
 ·exact .inl ⟨ob,by rw[aK (oN h hp (λz=>by subst z;cases hw))];exact h⟩
 ·exact .inr h
section
variable {K:W.Frag}{m:List Addr}{h:Hh}{H:Hp}
theorem Gr.tupNew{p:Addr}{o:HO}(hp:H p=none):Gr K m H m (bI H p o):=⟨λ_ _ e=>e,λ_ _ e=>SqT.upd_new hp e,λb o' u' e=>by rw[aK (bC e hp)];exact e⟩
theorem RO.some_of{a:Addr}{o:O}(r:RO K m H a o)(w:o.wr=true):∃u,H a=some u/\UP u=true:=by
 cases o with
 |lst ds=>obtain⟨vs,h1,_⟩:=r;exact⟨_,h1,rfl⟩
 |ro ds=>cases w
 |dct ds=>obtain⟨vs,h1,_⟩:=r;exact⟨_,h1,rfl⟩
 |dtt ds=>obtain⟨xs,us,h1,_⟩:=r;exact⟨_,h1,rfl⟩
 |ded=>cases w
 |dtf ds=>cases w
 |ins cn fs=>obtain⟨C,dx,us,_,h1,_⟩:=r;exact⟨_,h1,rfl⟩
theorem RO.keepNew{p a:Addr}{o:HO}{u:O}{m':List Addr}(hp:H p=none)(g:Gr K m H m' (bI H p o))(q:RO K m H a u):RO K m' (bI H p o) a u:=by
 cases u with
 |lst ds=>
  obtain⟨vs,h1,h2⟩:=q;exact⟨vs,by rw[aK (bC h1 hp)];exact h1,h2.mono g⟩
 |ro ds=>
  obtain⟨vs,h1,h2⟩:=q;exact⟨vs,SqR.upd_new hp h1,h2.mono g⟩
 |dct ds=>
  obtain⟨vs,h1,h2,h3⟩:=q;exact⟨vs,by rw[aK (bC h1 hp)];exact h1,h2,h3.mono g⟩
 |dtt ds=>
  obtain⟨xs,us,h1,h2,h3,h4,h5⟩:=q;exact⟨xs,us,by rw[aK (bC h1 hp)];exact h1,h2,λx hx=>g.tup _ _ (h3 x hx),h4.mono g,h5⟩
 |ded=>trivial
 |dtf ds=>
  obtain⟨xs,us,o',es,ep,h1,h2,h3,h4,h5,h6⟩:=q;exact⟨xs,us,o',es,ep,by rw[aK (bC h1 hp)];exact h1,h2,h3,λx hx=>g.tup _ _ (h4 x hx),h5.mono g,h6⟩
 |ins cn fs=>
  obtain⟨C,dx,us,h1,h2,h3,h4⟩:=q;exact⟨C,dx,us,h1,by rw[aK (bC h2 hp)];exact h2,h3,h4.mono g⟩
theorem RO.keepSet{p a:Addr}{v o:HO}{u:O}{m':List Addr}(hp:H p=some v)(hw:UP v=true)(na:u.wr=true->a≠p)(g:Gr K m H m' (bI H p o))(q:RO K m H a u):RO K m' (bI H p o) a u:=by
 cases u with
 |lst ds=>
  obtain⟨vs,h1,h2⟩:=q;exact⟨vs,by rw[aK (na rfl)];exact h1,h2.mono g⟩
 |ro ds=>
  obtain⟨vs,h1,h2⟩:=q;exact⟨vs,SqR.upd_w hp hw h1,h2.mono g⟩
 |dct ds=>
  obtain⟨vs,h1,h2,h3⟩:=q;exact⟨vs,by rw[aK (na rfl)];exact h1,h2,h3.mono g⟩
 |dtt ds=>
  obtain⟨xs,us,h1,h2,h3,h4,h5⟩:=q;exact⟨xs,us,by rw[aK (na rfl)];exact h1,h2,λx hx=>g.tup _ _ (h3 x hx),h4.mono g,h5⟩
 |ded=>trivial
 |dtf ds=>
  obtain⟨xs,us,o',es,ep,h1,h2,h3,h4,h5,h6⟩:=q;exact⟨xs,us,o',es,ep,by rw[aK (oN h1 hp (λz=>by subst z;cases hw))];exact h1,h2,h3,λx hx=>g.tup _ _ (h4 x hx),h5.mono g,h6⟩
 |ins cn fs=>
  obtain⟨C,dx,us,h1,h2,h3,h4⟩:=q;exact⟨C,dx,us,h1,by rw[aK (na rfl)];exact h2,h3,h4.mono g⟩
theorem Wd.keepNew(w:Wd K m h H){p:Addr}{o:HO}(hp:H p=none):Wd K m h (bI H p o):=
 ⟨w.len,w.nd,λn ob a e1 e2=>(w.ob n ob a e1 e2).keepNew hp (Gr.tupNew hp)⟩
theorem Wd.objNew(w:Wd K m h H){p:Addr}{o:O}{u:HO}(hp:H p=none)(r:Gr K m H (m++ [p]) (bI H p u)->RO K (m++ [p]) (bI H p u) p o):Wd K (m++ [p]) (h++ [o]) (bI H p u)/\Gr K m H (m++ [p]) (bI H p u):=by
 have g:Gr K m H (m++ [p]) (bI H p u):=⟨λn a e=>by
  rw[List.getElem?_append_left (Ze.mp e).1];exact e,λ_ _ e=>SqT.upd_new hp e,λb o' u' e=>by rw[aK (bC e hp)];exact e⟩
 have cs:∀(i:Nat)(a:Addr)(o':O),(m++ [p])[i]? =some a->(h++ [o])[i]? =some o'->(i<h.length/\m[i]? =some a/\h[i]? =some o')\/(i=h.length/\a=p/\o'=o):=by
  intro i a o' e1 e2
  by_cases hi:i<h.length
  ·rw[List.getElem?_append_left (by rw[w.len];exact hi)] at e1;rw[List.getElem?_append_left hi] at e2;exact .inl ⟨hi,e1,e2⟩
  ·have hl:=(Ze.mp e2).1;have e:i=h.length:=by simp at hl;omega
   subst e;rw[<- w.len] at e1;simp at e1 e2;exact .inr ⟨rfl,e1.symm,e2.symm⟩
 have fr:∀(i:Nat)(o:O),m[i]? =some p->h[i]? =some o->o.wr=true->False:=λi o e1 e2 hw=>by
  obtain⟨u,hu,_⟩:=(w.ob i o p e2 e1).some_of hw;rw[hp] at hu;cases hu
 refine⟨⟨by simp[w.len],λi j a o1 o2 e1 e2 e3 e4 w1 w2=>?_,λn o' a e1 e2=>?_⟩,g⟩
 ·rcases cs i a o1 e1 e3 with ⟨_,x1,x2⟩|⟨z1,z2,z3⟩
  ·rcases cs j a o2 e2 e4 with ⟨_,y1,y2⟩|⟨y1,y2,y3⟩
   ·exact w.nd i j a o1 o2 x1 y1 x2 y2 w1 w2
   ·subst y2;exact(fr i o1 x1 x2 w1).elim
  ·rcases cs j a o2 e2 e4 with ⟨_,y1,y2⟩|⟨y1,y2,y3⟩
   ·subst z2;exact(fr j o2 y1 y2 w2).elim
   ·rw[z1,y1]
 ·rcases cs n a o' e2 e1 with ⟨_,x1,x2⟩|⟨z1,z2,z3⟩
  ·exact(w.ob n o' a x2 x1).keepNew hp g
  ·subst z2;subst z3;exact r g
theorem Wd.objSet(w:Wd K m h H){n:Nat}{a:Addr}{o o':O}{u:HO}(e1:h[n]? =some o)(hw:o.wr=true)(e2:m[n]? =some a)(r:Gr K m H m (bI H a u)->RO K m (bI H a u) a o'):
 Wd K m (h.set n o') (bI H a u)/\Gr K m H m (bI H a u):=by
 obtain⟨v,ha,hv⟩:=(w.ob n o a e1 e2).some_of hw;have g:Gr K m H m (bI H a u):=⟨λ_ _ e=>e,λ_ _ e=>SqT.upd_w ha hv e,λb o' u' e=>by rw[aK (oN e ha (λz=>by subst z;cases hv))];exact e⟩;have hn:n<h.length:=(Ze.mp e1).1
 have cs:∀(i:Nat)(o1:O),(h.set n o')[i]? =some o1->(i=n/\o1=o')\/(i≠n/\h[i]? =some o1):=by
  intro i o1 e
  by_cases hi:n=i
  ·subst hi;rw[List.getElem?_set_self hn] at e;exact .inl ⟨rfl,(Zg e).symm⟩
  ·rw[List.getElem?_set_ne hi] at e;exact .inr ⟨λz=>hi z.symm,e⟩
 refine⟨⟨by simp[w.len],λi j b o1 o2 x1 x2 x3 x4 w1 w2=>?_,λi o1 b x1 x2=>?_⟩,g⟩
 ·rcases cs i o1 x3 with ⟨z,_⟩|⟨ni,y3⟩
  ·subst z;rcases cs j o2 x4 with ⟨z,_⟩|⟨nj,y4⟩
   ·exact z.symm
   ·exact w.nd i j b o o2 x1 x2 e1 y4 hw w2
  ·rcases cs j o2 x4 with ⟨z,_⟩|⟨nj,y4⟩
   ·subst z;exact w.nd i j b o1 o x1 x2 y3 e1 w1 hw
   ·exact w.nd i j b o1 o2 x1 x2 y3 y4 w1 w2
 ·rcases cs i o1 x1 with ⟨z1,z2⟩|⟨ni,y⟩
  ·subst z1;subst z2;rw[e2] at x2;cases x2;exact r g
  ·refine(w.ob i o1 b y x2).keepSet ha hv (λhw1 z=>?_) g;subst z;exact ni (w.nd i n b _ _ x2 e2 y e1 hw1 hw)
theorem Wd.lstNew(w:Wd K m h H){p:Addr}{ds:List D}{vs:List V}(hp:H p=none)(r:RDs K m H ds vs):Wd K (m++ [p]) (h++ [.lst ds]) (bI H p (.lst vs))/\Gr K m H (m++ [p]) (bI H p (.lst vs)):=
 w.objNew hp λg=>⟨vs,aS,r.mono g⟩
theorem Wd.lstSet(w:Wd K m h H){n:Nat}{a:Addr}{ds es:List D}{us:List V}(e1:h[n]? =some (.lst ds))(e2:m[n]? =some a)(r:RDs K m H es us):
 (∃vs,H a=some (.lst vs)/\RDs K m H ds vs)/\Wd K m (h.set n (.lst es)) (bI H a (.lst us))/\Gr K m H m (bI H a (.lst us)):=
 ⟨w.ob n _ a e1 e2,w.objSet e1 rfl e2 λg=>⟨us,aS,r.mono g⟩⟩
noncomputable def JC:O->Option (List D)
 |.lst l=>some l
 |.ro l=>some l
 |.dct _=>none
 |.dtt _=>none
 |.ded=>none
 |.dtf _=>none
 |.ins _ _=>none
noncomputable def aI(h:Hh)(n:Nat):Option (List D):=(h[n]?).bind JC
theorem Wd.lst(w:Wd K m h H){n:Nat}{ds:List D}(e:aI h n=some ds):∃a vs,m[n]? =some a/\SqL K H a vs/\RDs K m H ds vs:=by
 unfold aI at e;cases q:h[n]? with
 |none=>rw[q] at e;cases e
 |some o=>
  rw[q] at e;obtain⟨a,e1,r⟩:=w.at q;cases o with
  |lst l=>
   obtain rfl:l=ds:=Zg e;obtain⟨vs,h1,h2⟩:=r;exact⟨a,vs,e1,.of h1,h2⟩
  |ro l=>
   obtain rfl:l=ds:=Zg e;obtain⟨vs,h1,h2⟩:=r;exact⟨a,vs,e1,h1.sq,h2⟩
  |dct l=>cases e
  |dtt l=>cases e
  |ded=>cases e
  |dtf l=>cases e
  |ins c l=>cases e
end
noncomputable abbrev lI:Value->Shared->Prop:=λ_ _=>False
theorem FZ{P:Program}{w:World}{H:Hp}{h:Heap}{fs:List Addr}(x:HOk P w H h)(nf:∀b∈fs,H b=none):HOk P w H (W.hideAll h fs):=λa o e=>
 (x a o e).stay (λb u hb q=>W.hideAll_get _ q λhm=>by
   rcases hb with rfl|hb
   ·rw[nf _ hm] at e;cases e
   ·rw[nf _ hm] at hb;cases hb) (λ_ q=>q) λ_ _ q=>q
structure Fly (P:Program)(w:World)(l:List Env)(H:Hp)(s:Heap)(Hs:Hp)(e C:Addr)(h B:Heap):Prop where
 fl:∃t,Heap.FlyingW B l e (.ref C) (.ref t) h
 hok:HOk P w H B
 kb:∀b o,s.get? b=some o->Hs b=none->b ∉ jH l->B.get? b=some o
 kt:∀b o,s.get? b=some o->b ∉ jH l->∃o',B.get? b=some o'
def pH(P:Program)(w:World):yS:=λouter Hs s E e s'=>∃H' B ea C,e=.ref ea/\s'.os=s.os/\AllBare s'.gens/\Un (jH outer) [] Hs H' s.heap s'.heap/\Fly P w outer H' s.heap Hs ea C s'.heap B/\E e (some C) H'
theorem oJ{X:Cx}:gC (pH X.prog X.w) X E0:=λ_ _ _ _ _ _ _ ⟨_,_,_,_,_,_,_,_,_,z⟩=>z.elim
theorem sV{fs:List Addr}{H H':Hp}{h h1 h2 B:Heap}(u:Un fs [] H H' h h1)(kb:∀b o,h.get? b=some o->H b=none->b ∉ fs->B.get? b=some o)(kt:∀b o,h.get? b=some o->b ∉ fs->∃o',B.get? b=some o')
 (st:B.StaysIn h2)(up:h1.UpToSlots h2)(fr:∀b∈fs,∀o,h1.get? b=some o->∀vs,o.data≠ .fields vs):Un fs [] H H' h h2 where
 keep:=λb o e n hb _=>st b o (kb b o e n hb)
 slot:=λb o e n hb hx=>by
  obtain⟨sl,e1⟩:=u.slot b o e n hb hx;obtain⟨sl',e2⟩:=up b _ e1 (fr b hb _ e1);exact⟨sl',e2⟩
 free:=u.free
 there:=λb o e hx=>by
  by_cases hb:b∈fs
  ·obtain⟨o1,e1⟩:=u.there b o e hx;obtain⟨sl,e2⟩:=up b o1 e1 (fr b hb _ e1);exact⟨_,e2⟩
  ·obtain⟨o',e'⟩:=kt b o e hb;exact⟨o',st b o' e'⟩
 tups:=u.tups
 frzs:=u.frzs
 tbls:=u.tbls
structure FlyX (X:Cx)(pins:List (Addr×Obj))(H:Hp)(e C:Addr)(s:Shared)(B:Heap):Prop where
 fly:Fly X.prog X.w X.stack H X.s₀.heap X.H₀ e C s.heap B
 pc1:∀p∈X.pn++pins,B.get? p.1=some p.2
 pc2:∀x c,X.env.cells.lookup x=some c->∃o,s.heap.get? c=some o/\B.get? c=some o
section
variable {X:Cx}{pins:List (Addr×Obj)}{σ:Sg}{H:Hp}{s:Shared}
theorem gS(I:Inv X pins σ H s):∀b∈jH X.stack,∀o,s.heap.get? b=some o->∀vs,o.data≠ .fields vs:=λb hb o e vs q=>by
 obtain⟨_,o',e',nf⟩:=I.stack.mem hb;rw[e] at e';cases e';exact nf vs q
theorem eV(I:Inv X pins σ H s){b:Addr}{o:Obj}(e:X.s₀.heap.get? b=some o)(hb:b ∉ jH X.outer):b ∉ jH X.stack:=λhm=>by
 rcases List.mem_cons.mp (I.stkSub b hm) with z|z
 ·exact absurd (Heap.lt_size e) (by rw[z];exact Nat.not_lt.mpr I.ok.above)
 ·exact hb z
theorem uW{E:XK}{e:Value}{s':Shared}(I:Inv X pins σ H s)(hx:X.ex=[])(hfn:∀x,X.fn x=true)(q:pH X.prog X.w X.stack H s E e s'):
 ∃H' ea C,e=.ref ea/\Inv X pins σ H' s'/\(∃B,FlyX X pins H' ea C s' B)/\E e (some C) H':=by
 obtain⟨H',B,ea,C,rfl,ho,hg,un,f,z⟩:=q;obtain⟨t,fl⟩:=id f.fl;refine⟨H',ea,C,rfl,I.call' (ch:= []) ho un (f.hok.kept fl.1) hg (λb z=>absurd z (by simp)),⟨B,⟨f.fl,f.hok,λb o e n hb=>?_,λb o e hb=>?_⟩,λp hp=>?_,λx c hc=>?_⟩,z⟩
 ·have hb':b ∉ X.fs:=λhm=>hb (by
   rcases I.ok.stk with z|z
   ·rw[z];exact hm
   ·rw[z.1];obtain⟨env,he,hf⟩:=List.mem_filterMap.mp (show b∈X.outer.filterMap (·.frame) from hm);exact List.mem_filterMap.mpr ⟨env,Zj _ he,hf⟩)
  have hn:b ∉ X.ex:=by rw[hx];simp
  exact f.kb b o (I.base.keep b o e n hb' hn) (I.base.free b o e n hn) hb
 ·have hn:b ∉ X.ex:=by rw[hx];simp
  obtain⟨o1,e1⟩:=I.base.there b o e hn;exact f.kt b o1 e1 hb
 ·obtain⟨e1,n,ne,nf,_⟩:=I.pin p hp;exact f.kb _ _ e1 n λhm=>(List.mem_cons.mp (I.stkSub _ hm)).elim ne nf
 ·obtain⟨v,o,e1,_⟩:=I.cell x c hc
  have hb:B.get? c=some o:=f.kb _ _ e1 (I.freeC x c hc) λhm=>by
   rcases List.mem_cons.mp (I.stkSub _ hm) with z|z
   ·exact I.cne x c hc z
   ·obtain⟨_,o',e',_⟩:=I.ok.funs.mem z;exact absurd (Heap.lt_size e') (Nat.not_lt.mpr (I.ok.cab x c (hfn x) hc))
  exact⟨o,fl.1 _ _ hb,hb⟩
theorem uB{e C:Addr}{B h':Heap}(I:Inv X pins σ H s)(F:FlyX X pins H e C s B)(hx:X.ex=[])(st:B.StaysIn h')(up:s.heap.UpToSlots h'):Inv X pins σ H {s with heap:=h'}:=by
 have base:Un X.fs [] X.H₀ H X.s₀.heap s.heap:=by have:=I.base;rw[hx] at this;exact this
 have sub:∀b∈X.fs,b∈jH X.stack:=λb hm=>by
  rcases I.ok.stk with z|z
  ·rw[z];exact hm
  ·rw[z.1];obtain⟨env,he,hf⟩:=List.mem_filterMap.mp (show b∈X.outer.filterMap (·.frame) from hm);exact List.mem_filterMap.mpr ⟨env,Zj _ he,hf⟩
 have cell:∀x c v,X.env.cells.lookup x=some c->s.heap.IsCell c v->Heap.IsCell h' c v:=λx c v hc ⟨o,e1,d⟩=>by
  obtain⟨o',e2,e3⟩:=F.pc2 x c hc;rw[e1] at e2;cases e2;exact⟨o,st _ _ e3,d⟩
 refine⟨I.ok,I.os,I.bare,?_,?_,λx c hc=>?_,I.free,I.freeC,λp hp=>?_,F.fly.hok.kept st,I.len⟩
 ·rw[hx];exact sV base (λb o e1 n hb=>F.fly.kb b o e1 n (eV I e1 hb)) (λb o e1 hb=>F.fly.kt b o e1 (eV I e1 hb)) st up λb hb o e1=>gS I b (sub b hb) o e1
 ·obtain⟨m,hn,hl⟩:=I.loc;refine⟨m,up.ns hn,λi x v e1 e2 e3=>?_⟩;obtain⟨u,ru,L⟩:=hl i x v e1 e2 e3;refine⟨u,ru,?_⟩;rcases L with L|⟨k,c,hc,ic⟩
  ·exact .inl L
  ·exact .inr ⟨k,c,hc,cell x c _ hc ic⟩
 ·obtain⟨v,ic⟩:=I.cell x c hc;exact⟨v,cell x c v hc ic⟩
 ·exact⟨st _ _ (F.pc1 p hp),(I.pin p hp).2⟩
theorem FlyX.step{e C:Addr}{B h':Heap}(F:FlyX X pins H e C s B)(fl:∃t,Heap.FlyingW B X.stack e (.ref C) (.ref t) h'):FlyX X pins H e C {s with heap:=h'} B:=
 ⟨⟨fl,F.fly.hok,F.fly.kb,F.fly.kt⟩,F.pc1,λx c hc=>by
   obtain⟨o,_,e2⟩:=F.pc2 x c hc;obtain⟨t,fl⟩:=fl;exact⟨o,fl.1 _ _ e2,e2⟩⟩
end
theorem iR{P:Program}{w:World}{H:Hp}{h:Heap}{a:Addr}:∀{o:HO},ObjOk P w H h a o->∃u,h.get? a=some u:=by
 intro o x;cases o with
 |lst xs=>obtain⟨_,_,_,_,e⟩:=x;exact⟨_,e⟩
 |tup xs=>obtain⟨_,_,_,o,e,_⟩:=x;exact⟨_,e⟩
 |dK kvs=>obtain⟨_,_,_,_,o,_,_,e,_⟩:=x;exact⟨_,e⟩
 |dT kvs=>obtain⟨_,_,_,_,o,_,_,e,_⟩:=x;exact⟨_,e⟩
 |set S n=>obtain⟨o,_,_,_,e,_⟩:=x;exact⟨_,e⟩
 |ins C dx fs=>obtain⟨_,_,_,e,_⟩:=x;exact⟨_,e⟩
 |own y=>obtain⟨_,e⟩:=x;exact⟨_,e⟩
 |xd fs=>obtain⟨_,⟨_,_,_,e,_⟩,_⟩:=x;exact⟨_,e⟩
 |rng lo hi=>obtain⟨_,_,_,e⟩:=x;exact⟨_,e⟩
 |frz ob u=>obtain⟨e,_⟩:=x;exact⟨_,e⟩
 |tbl ps=>exact⟨_,x⟩
 |met f y=>exact⟨_,x⟩
 |ext φ=>obtain⟨_,⟨_,e⟩,_⟩:=x;exact⟨_,e⟩
structure XX (X:Cx)(ca:Nat->Addr)(W:Nat->Sg->Hp->Prop)(rz:Bool):Prop where
 ex:X.ex=[]
 stk:X.stack=X.env::X.outer/\X.env.frame=some X.env.locals
 fly:∀(pins:List (Addr×Obj))(σ:Sg)(H:Hp)(s:Shared)(e:Addr)(c:Nat),Inv X pins σ H s->(∃B,FlyX X pins H e (ca c) s B)->W c σ H->X.xe (.ref e) s
 made:rz=true->∀(pins:List (Addr×Obj))(σ:Sg)(H:Hp)(s:Shared)(h':Heap)(e:Addr)(c:Nat)(args:List Value),Inv X pins σ H s->Heap.MadeExcOf s.heap h' e (.ref (ca c)) args->W c σ H->X.xe (.ref e) {s with heap:=h'}
section
variable {P:Program}{w:World}{K:W.Frag}{mg:Str->Option Value}{base:Heap}{N:List Str}{qual:Str}{scope:Scope}{f:Addr}{cd:Value}{A:Around}{outer:List Env}{s₀:Shared}{H₀:Hp}{E:XK}{ca:Nat->Addr}
theorem YD:XX (jC (pH P w) P w K mg base N qual scope f cd A outer s₀ H₀ E) ca (λc _ H=>∀v,E v (some (ca c)) H) true where
 ex:=rfl
 stk:=⟨rfl,rfl⟩
 fly:=λpins σ H s e c I ⟨B,F⟩ hW=>by
  have F:=F.fly;obtain⟨t,fl⟩:=id F.fl;refine wpAny_leaves_onW (L:=s₀.heap.objs.size) I.ok.frames rfl fl λh' fl' up=>?_;refine⟨H,B,e,ca c,rfl,I.os,I.bare,?_,⟨⟨t,fl'⟩,F.hok,λb o e1 n hb=>F.kb b o e1 n (eV I e1 hb),λb o e1 hb=>F.kt b o e1 (eV I e1 hb)⟩,hW _⟩;exact sV (h1:=s.heap) I.base (λb o e1 n hb=>F.kb b o e1 n (eV I e1 hb)) (λb o e1 hb=>F.kt b o e1 (eV I e1 hb)) fl'.1 up λb hb o e1=>gS I b (Zj _ hb) o e1
 made:=λ_ pins σ H s h1 e c args I hx hW=>by
  have hin:∀env∈(jC (pH P w) P w K mg base N qual scope f cd A outer s₀ H₀ E).stack,∀b,env.frame=some b->b∈jH (jC (pH P w) P w K mg base N qual scope f cd A outer s₀ H₀ E).stack:=λenv he b hb=>List.mem_filterMap.mpr ⟨env,he,hb⟩;refine wpAny_leaves_madeW (s:={s with heap:=h1}) (h:=s.heap) (base:=W.hideAll s.heap (jH (jC (pH P w) P w K mg base N qual scope f cd A outer s₀ H₀ E).stack)) (L:=s₀.heap.objs.size) I.ok.frames rfl (λb o q=>W.of_hideAll _ q) (W.funFrames_hide I.stack hin) hx λh' t fl' _ _ up=>?_
  have kb:∀b o,s₀.heap.get? b=some o->H₀ b=none->b ∉ jH outer->(W.hideAll s.heap (jH (jC (pH P w) P w K mg base N qual scope f cd A outer s₀ H₀ E).stack)).get? b=some o:=λb o e1 n hb=>
   W.hideAll_get _ (I.base.keep b o e1 n hb (by simp[jC])) (eV I e1 hb)
  have kt:∀b o,s₀.heap.get? b=some o->b ∉ jH outer->∃o',(W.hideAll s.heap (jH (jC (pH P w) P w K mg base N qual scope f cd A outer s₀ H₀ E).stack)).get? b=some o':=λb o e1 hb=>by
   obtain⟨o1,e2⟩:=I.base.there b o e1 (by simp[jC]);exact⟨o1,W.hideAll_get _ e2 (eV I e1 hb)⟩
  refine⟨H,_,e,ca c,rfl,I.os,I.bare,?_,⟨⟨t,fl'⟩,FZ I.hok I.stkFree,kb,kt⟩,hW _⟩
  have u1:Un (jH outer) [] H₀ H s₀.heap h1:=by
   refine⟨λb o e1 n hb hn=>hx.keeps _ _ (I.base.keep b o e1 n hb hn),λb o e1 n hb hn=>?_,I.base.free,λb o e1 hn=>?_,I.base.tups,I.base.frzs,I.base.tbls⟩
   ·obtain⟨sl,q⟩:=I.base.slot b o e1 n hb hn;exact⟨sl,hx.keeps _ _ q⟩
   ·obtain⟨o1,q⟩:=I.base.there b o e1 hn;exact⟨o1,hx.keeps _ _ q⟩
  refine sV (h1:=h1) u1 kb kt fl'.1 up λb hb o e1=>?_;obtain⟨_,o',e',nf⟩:=I.stack.mem (Zj _ hb);have e2:=hx.keeps _ _ e';rw[e1] at e2;cases e2;exact nf
end
theorem kip{prog:Program}{w:World}{A:Around}{E:Value->Shared->Prop}{s:Shared}{Q:Value->Shared->Prop}{K:W.Frag}{x t c:Value}(LT:W.Looks (model prog w) s.heap (typeOf x) t)(KX:K.In s.heap)(e:W.kitOne K t c=some true)(hx:x≠ .builtin "__main__.__loader__#opaque")(h:Q (.bool true) s):
 wpAny (model prog w) A (call (.builtin "isinstance") [x,c]) Q E s:=by
 refine call_isinstance_of ?_ hx;obtain⟨hp,g,d,tk,os⟩:=s;unfold W.kitOne at e;unfold Builtin.«isinstance.nested»;refine Za (LT.at ?_)
 by_cases q:(t==c)=true
 ·rw[if_pos q]
  first
   |exact Za (wpAny_rule (Zb h))
   |exact Za (wpAny_rule h)
 ·rw[if_neg q] at e;rw[if_neg q];obtain⟨l1,l2,l3⟩:=W.kit_cls (M:=model prog w) KX e;have l4:W.Looks (model prog w) hp (isInstance x c) true:=LT.andThen l3;refine Za (l1.at ?_);rw[if_pos (by decide)]
  k_delta "plainIsInstance"
  refine Za (Za (l2.at ?_));simp only[Bool.not_true,Bool.false_eq_true,if_false];refine Za (l4.at ?_)
  first
   |exact Zb (Zb h)
   |(simp only[if_true];first |exact Zb (Zb h)|exact Zb h|exact Za (Zb (Zb h)))
noncomputable def hX(X:Cx)(e:Addr)(oe:Obj):Cx:={X with A:=X.A.mark (some (.ref e)),calm:=false,pn:=(e,oe)::X.pn,xe:=lI}
section
variable {X:Cx}{pins:List (Addr×Obj)}{σ:Sg}{H:Hp}{s:Shared}{e C:Addr}{B:Heap}{oe:Obj}
theorem JJ(I:Inv X pins σ H s)(pin:s.heap.get? e=some oe/\H e=none/\e≠X.env.locals/\e ∉ X.fs/\∀v,oe.data≠ .cell v):Inv (hX X e oe) pins σ H s:=
 ⟨⟨I.ok.mod,I.ok.kind,I.ok.glob,I.ok.blt,I.ok.above,I.ok.inj,I.ok.has,I.ok.cab,(λz=>by cases z),I.ok.frames,I.ok.stk,I.ok.exf,I.ok.bs,I.ok.bsz,I.ok.noex,I.ok.exfs,I.ok.funs,I.ok.frf⟩,I.os,I.bare,I.base,I.loc,I.cell,I.free,I.freeC,λp hp=>by
   rcases List.mem_cons.mp (show p∈(e,oe)::(X.pn++pins) from hp) with rfl|z
   ·exact pin
   ·exact I.pin p z,I.hok,I.len⟩
theorem BN(ok:X.Ok)(I:Inv (hX X e oe) pins σ H s):Inv X pins σ H s:=
 ⟨ok,I.os,I.bare,I.base,I.loc,I.cell,I.free,I.freeC,λp hp=>I.pin p (Zj _ hp),I.hok,I.len⟩
theorem xQ{M:Model}{A:Around}{E:Value->Shared->Prop}{j:Nat}{n:Str}{pos:Pos}{Q:Unit->Shared->Prop}(I:Inv X pins σ H s)(hN:X.N.Nodup)(hj:X.N[j]? =some n)(hl:X.env.scope.names.lookup n=some .local)
 (h:∀s',Inv X pins (σ.set j none) H s'->Q () s'):wpAny M A (do bindName X.env n .none;unbindBehindTheSuite X.env n pos) Q E s:=by
 obtain⟨m,hn,hlk⟩:=id I.loc;have hcls:(X.env.scope.kind== .class||(X.env.scope.kind== .module&&X.env.locals != X.env.globals))=false:=by rw[I.ok.kind];rfl
 refine wpAny_nameGoes_keeps hl hn hcls λh' v hn' hs=>h _ ?_;obtain⟨oL,_,_,hoL,_⟩:=id hn;have ne:∀b o,X.s₀.heap.get? b=some o->b≠X.env.locals:=λb o q=>Nat.ne_of_lt (Nat.lt_of_lt_of_le (Heap.lt_size q) I.ok.above);refine⟨I.ok,I.os,I.bare,⟨λb o q nn hb hx=>?_,λb o q nn hb hx=>?_,I.base.free,λb o q hx=>?_,I.base.tups,I.base.frzs,I.base.tbls⟩,⟨_,hn',λi y v' e1 e2 e3=>?_⟩,λy c q=>?_,I.free,I.freeC,λp hp=>?_,λb ob q=>?_,by simpa using I.len⟩
 ·exact(hs.2 b (ne b o q)).trans (I.base.keep b o q nn hb hx)
 ·obtain⟨sl,q1⟩:=I.base.slot b o q nn hb hx;exact⟨sl,(hs.2 b (ne b o q)).trans q1⟩
 ·obtain⟨o',q1⟩:=I.base.there b o q hx;exact⟨o',(hs.2 b (ne b o q)).trans q1⟩
 ·have hij:i≠j:=λz=>by
   subst z
   by_cases hi:i<σ.length
   ·rw[List.getElem?_set_self hi] at e2;cases e2
   ·rw[List.getElem?_eq_none (by simpa using hi)] at e2;cases e2
  rw[List.getElem?_set_ne (Ne.symm hij)] at e2;obtain⟨u',r',L⟩:=hlk i y v' e1 e2 e3;refine⟨u',r',?_⟩;rcases L with ⟨k,q⟩|⟨k,c,hc,z⟩
  ·have:y≠n:=λz=>hij (mP hN e1 (z ▸ hj));exact .inl ⟨k,by simp[this,q]⟩
  ·exact .inr ⟨k,c,hc,z.sameBut hs (I.cne y c hc)⟩
 ·obtain⟨w',z⟩:=I.cell y c q;exact⟨w',z.sameBut hs (I.cne y c q)⟩
 ·obtain⟨q,nn,ne',nf,d⟩:=I.pin p hp;exact⟨(hs.2 p.1 ne').trans q,nn,ne',nf,d⟩
 ·refine(I.hok b ob q).stay (λc w' hc q'=>(hs.2 c ?_).trans q') (λ_ z=>z) λ_ _ z=>z;rintro rfl;rcases hc with rfl|hc
  ·rw[I.free] at q;cases q
  ·rw[I.free] at hc;cases hc
theorem WZ{g:Str}{Gc:Addr}{gp hp:Pos}{nm:Option Str}{b0:Stmt}{suite:List Stmt}{rest:List ExceptHandler}{Q:Flow->Shared->Prop}(I:Inv X pins σ H s)(F:FlyX X pins H e C s B)(hx:X.ex=[])(stk:X.stack=X.env::X.outer/\X.env.frame=some X.env.locals)
 (hg:Gl X g)(hm:X.mg g=some (.ref Gc))(hd:(g==("__debug__":Str))=false)(hxm:W.exmOne X.K (.ref C) (.ref Gc)=some true)
 (k:∀s5,Inv X pins σ H s5->FlyX X pins H e C s5 B->codeAny (model X.prog X.w) (X.A.mark (some (.ref e))) (.handlers (.ref e) [.ExceptHandler none nm (b0::suite) hp] X.env) (λr s6=>match r with
   |.ok f=>(match nm with
    |none=>Q f s6
    |some n=>wpAny (model X.prog X.w) X.A (do bindName X.env n .none;unbindBehindTheSuite X.env n hp) (λ_ s7=>Q f s7) X.xe s6)
   |.error x=>cameBackBy (model X.prog X.w) X.A X.env X.xe x s6) s5):
 wpAny (model X.prog X.w) X.A (noteFrame (.ref e) X.env) (λ_ s2=>wpAny (model X.prog X.w) X.A (setFlight (.ref e) none) (λ_ s3=>wpAny (model X.prog X.w) X.A (handleBy (.ref e) X.env (.ExceptHandler (some (.Name g gp)) nm (b0::suite) hp::rest)) Q X.xe s3) X.xe s2) X.xe s:=by
 obtain⟨t,fl⟩:=id F.fly.fl;rw[stk.1] at fl;refine wpAny_looks_onW (by rw[I.ok.frames,stk.1]) stk.2 fl λh1 held up1=>?_;refine wpAny_landsW held λh2 fl2 up2=>?_;have I2:Inv X pins σ H {s with heap:=h2}:=uB I F hx fl2.1 (up1.trans up2);have F2:FlyX X pins H e C {s with heap:=h2} B:=F.step ⟨t,by rw[stk.1];exact fl2⟩;obtain⟨oe,vs,he,hc,hdt,_⟩:=fl2.first;have LT:W.Looks (model X.prog X.w) h2 (typeOf (.ref e)) (.ref C):=hc ▸ (W.Looks.ld he).andThen .now;refine wpAny_handleBy_cons (codeAny_handlers_test ?_) (by intro q;cases q)
 have glob:∀(Q':Value->Shared->Prop)(E':Value->Shared->Prop),Q' (.ref Gc) {s with heap:=h2}->wpAny (model X.prog X.w) (X.A.mark (some (.ref e))) (eval (.Name g gp) X.env) Q' E' {s with heap:=h2}:=λQ' E' q=>
  Calls.Name_function_global I2.ok.kind hg (Calls.loadGlobal_global (by rw[I2.ok.glob];exact I2.mod.glob.keeps I2.bk) hm q) hd
 refine glob _ _ ?_;refine(W.exm_one (M:=model X.prog X.w) I2.kIn LT hxm).at ?_;exact k _ I2 F2
theorem vZ(I:Inv X pins σ H s)(F:FlyX X pins H e C s B)(stk:X.stack=X.env::X.outer/\X.env.frame=some X.env.locals):∃oe,oe.cls=.ref C/\s.heap.get? e=some oe/\H e=none/\e≠X.env.locals/\e ∉ X.fs/\∀v,oe.data≠ .cell v:=by
 obtain⟨t,fl⟩:=id F.fly.fl;obtain⟨oe,vs,he,hc,hdt,_⟩:=fl.first;have nst:e ∉ jH X.stack:=λhm=>gS I e hm oe he vs hdt;refine⟨oe,hc,he,?_,λz=>nst ?_,λz=>nst ?_,λv q=>by rw[hdt] at q;cases q⟩
 ·cases q:H e with
  |none=>rfl
  |some u=>
   obtain⟨o,z⟩:=iR (F.fly.hok e u q);rw[fl.2.1] at z;cases z
 ·rw[stk.1,z];exact List.mem_filterMap.mpr ⟨X.env,Zl,stk.2⟩
 ·rw[stk.1];obtain⟨env,he',hf⟩:=List.mem_filterMap.mp (show e∈X.outer.filterMap (·.frame) from z);exact List.mem_filterMap.mpr ⟨env,Zj _ he',hf⟩
theorem LE{hp:Pos}{b0:Stmt}{suite:List Stmt}{R:Result->Shared->Prop}(I:Inv X pins σ H s)(F:FlyX X pins H e C s B)(hx:X.ex=[])(stk:X.stack=X.env::X.outer/\X.env.frame=some X.env.locals)
 (k:∀oe s6,oe.cls=.ref C->Inv (hX X e oe) pins σ H s6->wpAny (model X.prog X.w) (X.A.mark (some (.ref e))) (execs (b0::suite) X.env) (λf s7=>R (.ok f) s7) lI s6):
 codeAny (model X.prog X.w) (X.A.mark (some (.ref e))) (.handlers (.ref e) [.ExceptHandler none none (b0::suite) hp] X.env) R s:=by
 obtain⟨t,fl⟩:=id F.fly.fl;refine codeAny_handlers_suite (lands_againW fl λh6 fl6 up6=>?_);have I6:Inv X pins σ H {s with heap:=h6}:=uB I F hx fl6.1 up6;have F6:FlyX X pins H e C {s with heap:=h6} B:=F.step ⟨t,fl6⟩;obtain⟨oe,hc,pin⟩:=vZ I6 F6 stk;exact wpAny_mono (k oe _ hc (JJ I6 pin)) (λ_ _ q=>q) λ_ _ q=>q.elim
theorem LD{hp:Pos}{n:Str}{j:Nat}{b0:Stmt}{suite:List Stmt}{R:Result->Shared->Prop}(I:Inv X pins σ H s)(F:FlyX X pins H e C s B)(hx:X.ex=[])(stk:X.stack=X.env::X.outer/\X.env.frame=some X.env.locals)
 (hN:X.N.Nodup)(hj:X.N[j]? =some n)(hl:X.env.scope.names.lookup n=some .local)
 (k:∀oe s6,oe.cls=.ref C->Inv (hX X e oe) pins (σ.set j (some (.ref e))) H s6->wpAny (model X.prog X.w) (X.A.mark (some (.ref e))) (execs (b0::suite) X.env) (λf s7=>R (.ok f) s7) lI s6):
 codeAny (model X.prog X.w) (X.A.mark (some (.ref e))) (.handlers (.ref e) [.ExceptHandler none (some n) (b0::suite) hp] X.env) R s:=by
 obtain⟨t,fl⟩:=id F.fly.fl;refine codeAny_handlers_suite_as (lands_againW fl λh6 fl6 up6=>?_);have I6:Inv X pins σ H {s with heap:=h6}:=uB I F hx fl6.1 up6;have F6:FlyX X pins H e C {s with heap:=h6} B:=F.step ⟨t,fl6⟩;obtain⟨oe,hc,pin⟩:=vZ I6 F6 stk;refine mF (X:=hX X e oe) (v:=.ref e) (JJ I6 pin) hN hj (.inl hl) rfl (λs7 I7=>?_) (.inr hl);exact wpAny_mono (k oe _ hc I7) (λ_ _ q=>q) λ_ _ q=>q.elim
end
end Ng
end
section
namespace Ng
open PySem PySem.Spec PyProof.Rows L2 PySem.W Builtin Builtin.ObjectAttr Builtin.Getset_descriptor
structure ExcN (K:W.Frag)(C:Addr):Prop where
 ga:findIn K (.ref C) "__getattribute__"=some (some (.builtin "BaseException.__getattribute__"))
 gt:findIn K (.ref C) "__getattr__"=some none
 cl:findIn K (.ref C) "__class__"=some (some (.builtin "object.__class__"))
 gg:specialIn K (.builtin "object.__class__") "__get__"=some (some (.builtin "getset_descriptor.__get__"))
 tk:takesIn K (.builtin "object.__class__")=some true
 mr:mroIn K C (.type "object")=some true
 mb:mroIn K C (.type "BaseException")=some true
 ty:∃l n,excIn K C l n=true
section
variable {prog:Program}{w:World}{A:Around}{E:Value->Shared->Prop}{s:Shared}{K:W.Frag}{x C:Addr}{ox:Obj}
theorem BW{M:Model}{h:Heap}(KX:K.In h)(n:ExcN K C):Looks M h (find (.ref x) (.ref C) "__class__") (.bind (.builtin "getset_descriptor.__get__") (.builtin "object.__class__")):=by
 have T1:=looks_findIn (M:=M) KX n.cl;have T2:Looks M h (getOf (some (.builtin "object.__class__"))) (some (.builtin "getset_descriptor.__get__")):=looks_specialIn KX n.gg;have T3:=looks_takesIn (M:=M) KX n.tk;exact T1.andThen (T2.andThen ((show Looks M h (dataDescriptor? (some (.builtin "object.__class__")) (some (.builtin "getset_descriptor.__get__"))) (some (.builtin "getset_descriptor.__get__",.builtin "object.__class__")) from T3.andThen .now).andThen (Looks.tag .now)))
theorem yA{Q:Option Value->Shared->Prop}(KX:K.In s.heap)(he:s.heap.get? x=some ox)(hc:ox.cls=.ref C)(n:ExcN K C)(q:Q (some (.ref C)) {s with toks:=s.toks+1}):wpAny (model prog w) A (getAttr? (.ref x) "__class__") Q E s:=by
 obtain⟨hp,gn,dr,tk,os⟩:=s;have T0:Looks (model prog w) hp (typeOf (.ref x)) (.ref C):=hc ▸ (Looks.ld he).andThen .now;have T1:=looks_findIn (M:=model prog w) KX n.ga;have T2:=BW (M:=model prog w) (x:=x) KX n;have T3:=looks_findIn (M:=model prog w) KX n.gt;have T4:=looks_mroIn (M:=model prog w) KX n.mr;have T5:=looks_mroIn (M:=model prog w) KX n.mb;unfold getAttr? getAttrBy? getAttrBy;refine Za (wpAny_mkText (Za (wpAny_attempt (wpAny_holding (Za (T0.at (Za (T1.at ?_))))))));show wpAny _ _ (getAttrByItsOwn (.ref x) _ (.ref C) (.builtin "BaseException.__getattribute__") false false) _ _ _;unfold getAttrByItsOwn hookBefore callGetattribute boundAndCalled;refine Za (T3.at ?_);refine Za (wpAny_attempt (wpAny_holding ?_));show wpAny _ _ (bindSpecial (.builtin "BaseException.__getattribute__") (.ref x)>>=_) _ _ _;refine Za (wpAny_of_eq (F.excAttr_ValueError.ga.bind _) ?_);refine wpAny_call (codeAny_call_builtin F.excAttr_ValueError.ga.plain F.entry_bexc_ga ?_);have hk:builtinKind "BaseException.__getattribute__"=some .slot:=by decide+kernel
 have hsplit:splitId "BaseException.__getattribute__"=some ("BaseException","__getattribute__"):=by decide+kernel
 have ha:=F.args_bexc_ga (.ref x) (.str "__class__" tk);simp only[checkBuiltinCall,hk,hsplit];unfold isInstance
 repeat (first |(with_reducible refine wpAny_call ?_)|lk)
 refine codeAny_call_builtin KF.slot_gs.plain KF.entry_gs (KF.slot_gs.check _ _ _ _ _ _ _ _ KF.type_class (KF.args_gs _ _ _) ?_);unfold Builtin.«getset_descriptor.__get__» descrGet;rw[dga_obj];refine Za (Zb ?_);unfold descrGetter descrCheckInstance descrNameAndClass isInstance;simp only[KF.owner_class]
 repeat lk
 refine⟨Code.quiet_builtin _ (by decide+kernel),codeAny_builtin KF.entry_class ?_⟩;unfold Builtin.«object.__class__» shownTypeOf
 repeat lk
 exact q
theorem nG{h:Heap}(KX:K.In h)(n:ExcN K C):∃cc cd' sl dd,h.get? C=some ⟨cc,dd,.cls cd',sl⟩:=by
 obtain⟨l,i,hcd⟩:=n.ty;unfold excIn at hcd;split at hcd
 ·rename_i dd cdt slots hob;exact⟨_,_,_,_,KX _ _ hob⟩
 ·cases hcd
theorem BC(n:ExcN K C):KitX K (.ref x) (.ref C) (λh=>h.get? x=some ox/\ox.cls=.ref C) where
 ty:=λ_ _ _ p=>p.2 ▸ (Looks.ld p.1).andThen .now
 it:=λM h KX _=>by
  obtain⟨cc,cd,sl,dd,ho⟩:=nG KX n;intro A1 Q1 E1 s1 kp z;unfold isType loadHead;exact Za (wpAny_loadPart (kp _ _ ho) (Zb z))
 ne:=λh tp dd its m sl KX ht=>by
  obtain⟨cc,cd,sl,dd,ho⟩:=nG KX n;refine Bool.eq_false_iff.mpr λz=>?_;have ee:C=tp:=Value.ref.inj (beq_iff_eq.mp z);rw[ee,ht] at ho;cases ho
 ca:=λKX p z=>yA KX p.1 p.2 n z
end
end Ng
end
section
namespace Ng
open PySem PySem.W PyProof.Rows
noncomputable def KOk(n:Nat)(L:Nat->Nat->Bool){α:Type}:KasT α->(α->Prop)->Prop
 |.ret a,Q=>Q a
 |.ask i j k,Q=>i<n/\j<n/\i≠j/\KOk n L (k (L i j)) Q
section
variable {n:Nat}{L:Nat->Nat->Bool}{α β:Type}
theorem KOk.mono:∀{t:KasT α}{Q Q':α->Prop},KOk n L t Q->(∀a,Q a->Q' a)->KOk n L t Q'
 |.ret a,_,_,h,c=>c a h
 |.ask i j k,_,_,h,c=>⟨h.1,h.2.1,h.2.2.1,KOk.mono (t:=k (L i j)) h.2.2.2 c⟩
theorem KOk.bind{f:α->KasT β}{Q:β->Prop}:∀{t:KasT α},KOk n L t (λa=>KOk n L (f a) Q)->KOk n L (t.bind f) Q
 |.ret a,h=>h
 |.ask i j k,h=>⟨h.1,h.2.1,h.2.2.1,KOk.bind (t:=k (L i j)) h.2.2.2⟩
theorem KOk.wp{cmp:Nat->Nat->(Bool->Shared->Prop)->Shared->Prop}{s:Shared}(hc:∀i j (C:Bool->Shared->Prop),i<n->j<n->i≠j->C (L i j) s->cmp i j C s){R:α->Shared->Prop}:∀{t:KasT α}{Q:α->Prop},KOk n L t Q->(∀a,Q a->R a s)->t.kasWp cmp R s
 |.ret a,_,h,c=>c a h
 |.ask i j k,_,h,c=>hc i j _ h.1 h.2.1 h.2.2.1 (KOk.wp hc (t:=k (L i j)) h.2.2.2 c)
end
noncomputable abbrev gD(p:Array Nat)(i:Nat):Nat:=p.getD i 0
structure SO (n:Nat)(L:Nat->Nat->Bool):Prop where
 tot:∀i j,i<n->j<n->i≠j->L i j=true\/L j i=true
 tr:∀i j k,i<n->j<n->k<n->L i j=true->L j k=true->L i k=true
def PV(n:Nat)(p:Array Nat):Prop:=p.toList.Perm (List.range n)
def Sd(L:Nat->Nat->Bool)(p:Array Nat)(k:Nat):Prop:=∀i j,i<j->j<k->L (gD p i) (gD p j)=true
section
variable {n:Nat}{L:Nat->Nat->Bool}{p:Array Nat}
theorem PV.size(h:PV n p):p.size=n:=by
 have:=h.length_eq;simpa using this
theorem vW{i:Nat}(h:i<p.size):gD p i=p[i]:=by simp[gD,Array.getD,h]
theorem PV.lt(h:PV n p){i:Nat}(hi:i<n):gD p i<n:=by
 have hz:=h.size;rw[vW (by omega)];have:p[i]∈p.toList:=by simp
 exact List.mem_range.mp (h.mem_iff.mp this)
theorem PV.ne(h:PV n p){i j:Nat}(hi:i<n)(hj:j<n)(hij:i≠j):gD p i≠gD p j:=by
 have hz:=h.size;have nd:p.toList.Nodup:=h.nodup_iff.mpr List.nodup_range;rw[vW (by omega),vW (by omega)];intro e;rw[List.Nodup,List.pairwise_iff_getElem] at nd;rcases Nat.lt_or_gt_of_ne hij with z|z
 ·exact nd i j (by simpa using(by omega:i<p.size)) (by simpa using(by omega:j<p.size)) z (by simpa using e)
 ·exact nd j i (by simpa using(by omega:j<p.size)) (by simpa using(by omega:i<p.size)) z (by simpa using e.symm)
theorem PV.perm{q:Array Nat}(h:PV n p)(e:q.Perm p):PV n q:=(Array.perm_iff_toList_perm.mp e).trans h
theorem zO(so:SO n L)(h:PV n p){i j:Nat}(hi:i<n)(hj:j<n)(hij:i≠j)(e:L (gD p j) (gD p i)=false):L (gD p i) (gD p j)=true:=by
 rcases so.tot _ _ (h.lt hi) (h.lt hj) (h.ne hi hj hij) with z|z
 ·exact z
 ·rw[e] at z;cases z
theorem Sd.snoc(so:SO n L)(h:PV n p){k:Nat}(hk:k<n)(h1:1<=k)(s:Sd L p k)(e:L (gD p (k-1)) (gD p k)=true):Sd L p (k+1):=λi j hij hj=>by
 by_cases z:j<k
 ·exact s i j hij z
 ·have ej:j=k:=by omega
  subst ej
  by_cases y:i=j-1
  ·subst y;exact e
  ·exact so.tr _ _ _ (h.lt (by omega)) (h.lt (by omega)) (h.lt hk) (s i (j-1) (by omega) (by omega)) e
theorem uV(so:SO n L)(h:PV n p):∀(f k:Nat),1<=k->k+f<=n->Sd L p k->KOk n L (kas_asc p f k) (λm=>k<=m/\m<=k+f/\Sd L p m/\(m<k+f->L (gD p m) (gD p (m-1))=true))
 |0,k,h1,h2,s=>⟨Zn _,Zn _,s,λz=>absurd z (Nat.lt_irrefl _)⟩
 |f+1,k,h1,h2,s=>by
  refine⟨h.lt (by omega),h.lt (by omega),h.ne (by omega) (by omega) (by omega),?_⟩;cases e:L (gD p k) (gD p (k-1)) with
  |true=>exact⟨Zn _,by omega,s,λ_=>e⟩
  |false=>
   refine KOk.mono (uV so h f (k+1) (by omega) (by omega) (s.snoc so h (by omega) h1 (zO so h (by omega) (by omega) (by omega) e))) λm ⟨a,b,c,d⟩=>⟨by omega,by omega,c,λz=>d (by omega)⟩
def Ds(L:Nat->Nat->Bool)(p:Array Nat)(k:Nat):Prop:=∀i j,i<j->j<k->L (gD p j) (gD p i)=true
theorem Ds.snoc(so:SO n L)(h:PV n p){k:Nat}(hk:k<n)(h1:1<=k)(s:Ds L p k)(e:L (gD p k) (gD p (k-1))=true):Ds L p (k+1):=λi j hij hj=>by
 by_cases z:j<k
 ·exact s i j hij z
 ·have ej:j=k:=by omega
  subst ej
  by_cases y:i=j-1
  ·subst y;exact e
  ·exact so.tr _ _ _ (h.lt hk) (h.lt (by omega)) (h.lt (by omega)) e (s i (j-1) (by omega) (by omega))
theorem wI(so:SO n L)(h:PV n p):∀(f k:Nat),1<=k->k+f<=n->Ds L p k->KOk n L (kas_desc f p k 0) (λr=>r.1=p/\r.2.2=0/\k<=r.2.1/\r.2.1<=k+f/\Ds L p r.2.1)
 |0,k,h1,h2,s=>⟨rfl,rfl,Zn _,Zn _,s⟩
 |f+1,k,h1,h2,s=>by
  refine⟨h.lt (by omega),h.lt (by omega),h.ne (by omega) (by omega) (by omega),?_⟩;cases e:L (gD p k) (gD p (k-1)) with
  |true=>
   refine KOk.mono (wI so h f (k+1) (by omega) (by omega) (s.snoc so h (by omega) h1 e)) λr ⟨a,b,c,d,x⟩=>⟨a,b,by omega,by omega,x⟩
  |false=>
   have e':=zO so h (i:=k-1) (j:=k) (by omega) (by omega) (by omega) e;refine⟨h.lt (by omega),h.lt (by omega),h.ne (by omega) (by omega) (by omega),?_⟩;rw[show L (p.getD (k-1) 0) (p.getD k 0)=true from e'];exact⟨rfl,rfl,Zn _,Nat.le_add_right k (f+1),s⟩
theorem vI{k:Nat}(hm:k<=p.size)(i:Nat):gD (kas_rev p 0 k) i=if i<k then gD p (k-1-i) else gD p i:=by
 have e:=getElem?_mirror_all (i:=0) (j:=k) hm i;unfold kas_rev;have g:∀(q:Array Nat)(i:Nat),gD q i=(q[i]?).getD 0:=λq i=>by simp[gD,Array.getD_eq_getD_getElem?]
 rw[g,e]
 by_cases hi:i<k
 ·rw[if_pos ⟨Nat.zero_le _,hi⟩,if_pos hi,g,show 0+k-1-i=k-1-i by omega]
 ·rw[if_neg (λz=>hi z.2),if_neg hi,g]
theorem EE(so:SO n L)(h:PV n p){m:Nat}(h1:1<=m)(hm:m<=n)(s:Ds L p m):KOk n L (kas_tail3 m n p) (λr=>PV n r.2/\m<=r.1/\r.1<=n/\Sd L r.2 r.1):=by
 have hz:=h.size;have hp:PV n (kas_rev p 0 m):=h.perm (mirror_perm _ _ _ _)
 have hs:Sd L (kas_rev p 0 m) m:=λi j hij hj=>by
  rw[vI (by omega),vI (by omega),if_pos (by omega),if_pos hj];exact s (m-1-j) (m-1-i) (by omega) (by omega)
 unfold kas_tail3;exact KOk.bind (KOk.mono (uV so hp (n-m) m h1 (by omega) hs) λr ⟨a,b,c,_⟩=>⟨hp,a,by omega,c⟩)
theorem DE(so:SO n L)(h:PV n p)(h2:2<=n):KOk n L (kas_count n p) (λr=>PV n r.2/\1<=r.1/\r.1<=n/\Sd L r.2 r.1):=by
 unfold kas_count;refine KOk.bind (KOk.mono (uV so h (n-1) 1 (Zn _) (by omega) λi j a b=>by omega) λm ⟨a,b,c,d⟩=>?_)
 by_cases e:m=n
 ·subst e;rw[if_pos (by simp)];exact⟨h,a,Zn _,c⟩
 ·rw[if_neg (by simpa using e)]
  by_cases g:m>1
  ·rw[if_pos g];refine⟨h.lt (by omega),h.lt (by omega),h.ne (by omega) (by omega) (by omega),?_⟩;have e2:L (p.getD 0 0) (p.getD (m-1) 0)=true:=c 0 (m-1) (by omega) (by omega);rw[e2];show KOk n L (if true=true then KasT.ret (m,p) else _) _;rw[if_pos rfl];exact⟨h,a,(by show m<=n;omega),c⟩
  ·rw[if_neg g];have em:m=1:=by omega
   subst em;unfold kas_descPart;have d':=d (by omega);refine KOk.bind (KOk.mono (wI so h (n-(1+1)) (1+1) (by omega) (by omega) λi j a b=>?_) λr ⟨x1,x2,x3,x4,x5⟩=>?_)
   ·have:j=1:=by omega
    have:i=0:=by omega
    subst_vars
    exact d'
   ·rw[x2,if_neg (by omega),x1];exact KOk.mono (EE so h (by omega) (by omega) x5) λr ⟨y1,y2,y3,y4⟩=>⟨y1,by omega,y3,y4⟩
theorem mJ(so:SO n L)(h:PV n p){k:Nat}(hk:k<n)(s:Sd L p k):∀(f l r:Nat),l<=r->r<=k->r-l<=f->(∀i,i<l->L (gD p i) (gD p k)=true)->(∀i,r<=i->i<k->L (gD p k) (gD p i)=true)->
 KOk n L (kas_place p k f l r) (λm=>m<=k/\(∀i,i<m->L (gD p i) (gD p k)=true)/\∀i,m<=i->i<k->L (gD p k) (gD p i)=true)
 |0,l,r,h1,h2,h3,a,b=>by
  have:l=r:=by omega
  subst this;exact⟨h2,a,b⟩
 |f+1,l,r,h1,h2,h3,a,b=>by
  unfold kas_place
  by_cases g:l ≥ r
  ·rw[if_pos g];have:l=r:=by omega
   subst this;exact⟨h2,a,b⟩
  ·rw[if_neg g];have hm1:l<=(l+r)/2:=by omega
   have hm2:(l+r)/2<r:=by omega
   generalize (l+r)/2=m at hm1 hm2⊢;have hmk:m<k:=Nat.lt_of_lt_of_le hm2 h2;have hmn:=Nat.lt_trans hmk hk;refine⟨h.lt hk,h.lt hmn,h.ne hk hmn (Nat.ne_of_gt hmk),?_⟩;cases e:L (p.getD k 0) (p.getD m 0) with
   |true=>
    refine mJ so h hk s f l m hm1 (Nat.le_of_lt hmk) (by omega) a λi x y=>?_
    by_cases z:i=m
    ·subst z;exact e
    ·exact so.tr _ _ _ (h.lt hk) (h.lt hmn) (h.lt (Nat.lt_trans y hk)) e (s _ _ (Nat.lt_of_le_of_ne x (Ne.symm z)) y)
   |false=>
    have e':=zO so h (i:=m) (j:=k) hmn hk (Nat.ne_of_lt hmk) e;refine mJ so h hk s f (m+1) r hm2 h2 (by omega) (λi x=>?_) b
    by_cases z:i=m
    ·subst z;exact e'
    ·have him:i<m:=Nat.lt_of_le_of_ne (Nat.le_of_lt_succ x) z;exact so.tr _ _ _ (h.lt (Nat.lt_trans him hmn)) (h.lt hmn) (h.lt hk) (s i _ him hmk) e'
theorem wO{k l:Nat}(hk:k<p.size)(hl:l<=k)(i:Nat):gD (bubble p k (k-l)) i=if i=l then gD p k else if l<i/\i<=k then gD p (i-1) else gD p i:=by
 have e:=getElem?_bubble hk (k-l) (by omega) i;have g:∀(q:Array Nat)(i:Nat),gD q i=(q[i]?).getD 0:=λq i=>by simp[gD,Array.getD_eq_getD_getElem?]
 rw[show k-(k-l)=l by omega] at e;rw[g,e]
 by_cases h1:i=l
 ·rw[if_pos h1,if_pos h1,g]
 ·rw[if_neg h1,if_neg h1]
  by_cases h2:l<i/\i<=k
  ·rw[if_pos h2,if_pos h2,g]
  ·rw[if_neg h2,if_neg h2,g]
end
theorem DP{n:Nat}{L:Nat->Nat->Bool}(so:SO n L):∀(f k:Nat)(p:Array Nat),k+f=n->PV n p->Sd L p k->KOk n L (kas_bin f p k) (λq=>PV n q/\Sd L q n)
 |0,k,p,hk,h,s=>⟨h,by rw[<- hk];exact s⟩
 |f+1,k,p,hk,h,s=>by
  have hz:=h.size;unfold kas_bin;refine KOk.bind (KOk.mono (mJ so h (by omega) s k 0 k (by omega) (Zn _) (by omega) (λi z=>by omega) λi x y=>by omega) λl ⟨a,b,c⟩=>?_);refine DP so f (k+1) _ (by omega) (h.perm (bubble_perm _ _ _)) λi j hij hj=>?_;rw[wO (by omega) a,wO (by omega) a]
  by_cases i1:i=l
  ·rw[if_pos i1,if_neg (by omega),if_pos (by omega)];exact c _ (by omega) (by omega)
  ·rw[if_neg i1]
   by_cases j1:j=l
   ·rw[if_neg (by omega),if_pos j1];exact b _ (by omega)
   ·rw[if_neg j1]
    by_cases i2:l<i/\i<=k
    ·rw[if_pos i2,if_pos (by omega)];exact s _ _ (by omega) (by omega)
    ·rw[if_neg i2]
     by_cases j2:l<j/\j<=k
     ·rw[if_pos j2];exact s _ _ (by omega) (by omega)
     ·rw[if_neg j2];exact s _ _ (by omega) (by omega)
theorem vF{n:Nat}{L:Nat->Nat->Bool}(so:SO n L)(h2:2<=n):KOk n L (kas_sort n) (λq=>PV n q/\Sd L q n):=by
 have h0:PV n (List.toArray (List.range n)):=by unfold PV;simp
 unfold kas_sort;refine KOk.bind (KOk.mono (DE so h0 h2) λr ⟨a,b,c,d⟩=>?_)
 by_cases g:r.1<n
 ·rw[if_pos g,show max r.1 1=r.1 by omega];exact DP so _ _ _ (by omega) a d
 ·rw[if_neg g];have:r.1=n:=by omega
  rw[this] at d;exact⟨a,d⟩
section
variable {δ:Type}
theorem jD{R:δ->δ->Prop}(as:∀x y,R x y->R y x->False):∀{l1 l2:List δ},l1.Perm l2->l1.Pairwise R->l2.Pairwise R->l1=l2
 | [],l2,hp,_,_=>(List.nil_perm.mp hp).symm
 |x::l1,[],hp,_,_=>absurd (List.perm_nil.mp hp) (by simp)
 |x::l1,y::l2,hp,h1,h2=>by
  have exy:x=y:=by
   obtain⟨a1,b1⟩:=List.pairwise_cons.mp h1;obtain⟨a2,b2⟩:=List.pairwise_cons.mp h2;have hx:x∈y::l2:=hp.mem_iff.mp Zl;have hy:y∈x::l1:=hp.mem_iff.mpr Zl;rcases List.mem_cons.mp hx with z|z
   ·exact z
   ·rcases List.mem_cons.mp hy with w|w
    ·exact w.symm
    ·exact(as x y (a1 y w) (a2 x z)).elim
  subst exy;rw[jD as (List.perm_cons x |>.mp hp) (List.pairwise_cons.mp h1).2 (List.pairwise_cons.mp h2).2]
def Bef(lt:δ->δ->Option Bool)(x y:δ):Prop:=lt x y=some true/\lt y x=some false
theorem Bef.asy{lt:δ->δ->Option Bool}{x y:δ}(a:Bef lt x y)(b:Bef lt y x):False:=by
 have:=a.1;rw[b.2] at this;cases this
theorem DM{lt:δ->δ->Option Bool}{l:List δ}(h:l.Pairwise (Bef lt)){i j:Nat}(hi:i<l.length)(hj:j<l.length)(ne:i≠j):(lt l[i] l[j]=some true->i<j)/\(i<j->Bef lt l[i] l[j]):=by
 rw[List.pairwise_iff_getElem] at h;refine⟨λe=>?_,λz=>h i j hi hj z⟩;rcases Nat.lt_trichotomy i j with z|z|z
 ·exact z
 ·exact absurd z ne
 ·have:=(h j i hj hi z).2;rw[e] at this;cases this
theorem nQ{lt:δ->δ->Option Bool}{l:List δ}(h:l.Pairwise (Bef lt)):l.Nodup:=h.imp λa z=>by
 subst z;have:=a.1;rw[a.2] at this;cases this
theorem fT{l l':List δ}(hp:l'.Perm l){i:Nat}{x:δ}(e:l[i]? =some x):∃k:Nat,l'[k]? =some x:=by
 obtain⟨k,hk,z⟩:=List.mem_iff_getElem.mp (hp.mem_iff.mpr (List.mem_of_getElem? e));exact⟨k,by rw[Zd hk,z]⟩
theorem iC{l:List δ}(nd:l.Nodup){i j:Nat}{x:δ}(a:l[i]? =some x)(b:l[j]? =some x):i=j:=by
 obtain⟨hi,ei⟩:=Ze.mp a;obtain⟨hj,ej⟩:=Ze.mp b;rw[List.Nodup,List.pairwise_iff_getElem] at nd;rcases Nat.lt_trichotomy i j with z|z|z
 ·exact(nd i j hi hj z (ei.trans ej.symm)).elim
 ·exact z
 ·exact(nd j i hj hi z (ej.trans ei.symm)).elim
theorem jX{lt:δ->δ->Option Bool}{l:List δ}(h:l.Pairwise (Bef lt)){a b:Nat}{x y:δ}(ha:l[a]? =some x)(hb:l[b]? =some y)(ne:a≠b):(lt x y=some true↔a<b)/\(a<b->Bef lt x y):=by
 obtain⟨hi,rfl⟩:=Ze.mp ha;obtain⟨hj,rfl⟩:=Ze.mp hb;obtain⟨p,q⟩:=DM h hi hj ne;exact⟨⟨p,λz=>(q z).1⟩,q⟩
theorem IP{lt:δ->δ->Option Bool}{l l':List δ}(hp:l'.Perm l)(h:l'.Pairwise (Bef lt)){L:Nat->Nat->Bool}(hne:∀i,L i i=false)(hL:∀(i j:Nat)(x y:δ),l[i]? =some x->l[j]? =some y->i≠j->(L i j=true↔lt x y=some true)):SO l.length L:=by
 have nd':=nQ h;have nd:l.Nodup:=hp.nodup_iff.mp nd';have g:∀i,i<l.length->∃x,l[i]? =some x:=λi hi=>⟨_,Zd hi⟩;refine⟨λi j hi hj hij=>?_,λi j k hi hj hk e1 e2=>?_⟩
 ·obtain⟨x,ex⟩:=g i hi;obtain⟨y,ey⟩:=g j hj;obtain⟨a,ea⟩:=fT hp ex;obtain⟨b,eb⟩:=fT hp ey
  have nab:a≠b:=λz=>by
   subst z;rw[ea] at eb;cases eb;exact hij (iC nd ex ey)
  rcases Nat.lt_or_gt_of_ne nab with z|z
  ·exact .inl ((hL i j x y ex ey hij).mpr ((jX h ea eb nab).1.mpr z))
  ·exact .inr ((hL j i y x ey ex (Ne.symm hij)).mpr ((jX h eb ea (Ne.symm nab)).1.mpr z))
 ·obtain⟨x,ex⟩:=g i hi;obtain⟨y,ey⟩:=g j hj;obtain⟨z,ez⟩:=g k hk;obtain⟨a,ea⟩:=fT hp ex;obtain⟨b,eb⟩:=fT hp ey;obtain⟨c,ec⟩:=fT hp ez;have nij:i≠j:=λq=>by subst q;rw[hne] at e1;cases e1
  have njk:j≠k:=λq=>by subst q;rw[hne] at e2;cases e2
  have nab:a≠b:=λq=>by
   subst q;rw[ea] at eb;cases eb;exact nij (iC nd ex ey)
  have nbc:b≠c:=λq=>by
   subst q;rw[eb] at ec;cases ec;exact njk (iC nd ey ez)
  have l1:=(jX h ea eb nab).1.mp ((hL i j x y ex ey nij).mp e1);have l2:=(jX h eb ec nbc).1.mp ((hL j k y z ey ez njk).mp e2)
  have nik:i≠k:=λq=>by
   subst q;rw[ex] at ez;cases ez;have:=iC nd' ea ec;omega
  exact(hL i k x z ex ez nik).mpr ((jX h ea ec (by omega)).1.mpr (by omega))
theorem xR(l:List δ)(d:δ):(List.range l.length).map (λi=>l.getD i d)=l:=by
 apply List.ext_getElem?
 intro i;rw[Zi]
 by_cases hi:i<l.length
 ·rw[List.getElem?_range hi,Zd hi];simp[List.getD_eq_getElem?_getD,Zd hi]
 ·rw[List.getElem?_eq_none (by simpa using hi),List.getElem?_eq_none (by simpa using hi)];rfl
theorem AZ{lt:δ->δ->Option Bool}{l l':List δ}(hp:l'.Perm l)(h:l'.Pairwise (Bef lt)){L:Nat->Nat->Bool}(hL:∀(i j:Nat)(x y:δ),l[i]? =some x->l[j]? =some y->i≠j->(L i j=true↔lt x y=some true)){p:Array Nat}(hv:PV l.length p)(hs:Sd L p l.length)(d:δ):
 p.toList.map (λi=>l.getD i d)=l':=by
 have nd':=nQ h;have nd:l.Nodup:=hp.nodup_iff.mp nd';refine jD (R:=Bef lt) (λ_ _=>Bef.asy) (((hv.map _).trans (by rw[xR])).trans hp.symm) ?_ h;rw[List.pairwise_iff_getElem];intro a b ha hb hab;rw[Zc,Array.length_toList] at ha hb;have hz:=hv.size
 have e:∀c (hc:c<p.size),(p.toList.map (λi=>l.getD i d))[c]'(by simpa using hc)=l.getD (gD p c) d:=λc hc=>by
  rw[List.getElem_map,vW hc];rfl
 rw[e a ha,e b hb];have la:=hv.lt (i:=a) (by omega);have lb:=hv.lt (i:=b) (by omega);have nab:=hv.ne (i:=a) (j:=b) (by omega) (by omega) (by omega);have g:∀i,i<l.length->l[i]? =some (l.getD i d):=λi hi=>by simp[List.getD_eq_getElem?_getD,Zd hi]
 have t:=(hL _ _ _ _ (g _ la) (g _ lb) nab).mp (hs a b hab (by omega));obtain⟨x,ex⟩:=fT hp (g _ la);obtain⟨y,ey⟩:=fT hp (g _ lb)
 have nxy:x≠y:=λq=>by
  subst q;rw[ex] at ey;have e2:=Zg ey;exact nab (iC nd (g _ la) (by rw[e2];exact g _ lb))
 exact(jX h ex ey nxy).2 ((jX h ex ey nxy).1.mp t)
end
end Ng
end
section
namespace Ng
open PySem PySem.Spec PyProof.Rows L2
inductive Bop where
 |add|sub|mul|fdiv|mod|pow
inductive Cop where
 |lt|le|gt|ge|eq|ne|is|isnot|inn|notin
inductive Ty where
 |int|bool|str|tuple|list|dict
noncomputable def Ty.nm:Ty->String
 |.int=>"int"|.bool=>"bool"|.str=>"str"|.tuple=>"tuple"|.list=>"list"|.dict=>"dict"
inductive Blt where
 |len|isinst|int|list|max|min|sorted|all|tup
inductive Tg where
 |nm (i:Nat)|tp (l:List Nat)|tn (i j k:Nat)
inductive Ck where
 |r1|r2|sq|its|itf|st
noncomputable def fR:List Nat->List D->Ev->Ev
 |i::is,d::ds,r=>fR is ds (r.set i (some d))
 |_,_,r=>r
noncomputable def zR(i j k:Nat)(r:Ev)(d:D):Option Ev:=match d with
 |.tup [.tup [a,b],c]=>some (((r.set i (some a)).set j (some b)).set k (some c))
 |_=>none
noncomputable def cZ:Tg->D->Ev->Option Ev
 |.nm i,d,r=>some (r.set i (some d))
 |.tp l,.tup ds,r=>if ds.length=l.length then some (fR l ds r) else none
 |.tn i j k,d,r=>zR i j k r d
 |_,_,_=>none
noncomputable def dP(i j:Int):List D:=(List.range (j-i).toNat).map λ(k:Nat)=>D.int (i+k)
def tN(j:Int):Prop:= -(2^62)<=j/\j<2^62
instance (j:Int):Decidable (tN j):=by unfold tN;infer_instance
mutual
inductive E where
 |var (i:Nat)|int (i:Int)|bl (b:Bool)|non|str (x:Str)|gc (g:Nat)|ty (t:Ty)
 |bin (op:Bop) (a b:E)|neg (a:E)|cmp (op:Cop) (a b:E)
 |and (a b:E)|or (a b:E)|not (a:E)|ite (c a b:E)
 |ix (a b:E)|tup (l:Es)|lst (l:Es)|call (f:Nat) (l:Es)|blt (f:Blt) (l:Es)|app (o e:E)
 |comp (t:Tg) (k:Ck) (it cs:Es) (e:E) (N:List Str) (cap:List Nat)
 |mxd (mx:Bool) (l d:E)|lrg (e:E)|disp (ks:List Str) (vs:Es)|ins (o i e:E)
 |slU (a b:E)|slL (a b:E)|att (o:E) (cn f:Str)|new (cn:Str) (f:Nat) (l:Es)|slT (a b:E)|slA (a b:E)|slZ (a b:E)|mth (o:E) (cn m:Str) (f:Nat) (l:Es)|chn (op op':Cop) (a b c:E)|rev (o:E)|dcT (t:Tg) (i k v:E) (N:List Str) (cap:List Nat)|dnw|dnt|get2 (o k d:E)|join (x:Str) (e:E)|fst (l:Es)|fmt (a:E)|rvs (o:E)|sdk (o:E)|dcp (a:E)|slB (a i j:E)|pop (o k:E)|dci (t:Tg) (o:E) (cs:Es) (k v:E) (N:List Str) (cap:List Nat)|dcomp (t1:Tg) (i1:E) (t2:Tg) (i2 k v:E) (N:List Str) (cap:List Nat)
inductive Es where
 |nil|cons (e:E) (r:Es)
end
noncomputable def fQ:D->Hh->Option Bool
 |.non,_=>some false
 |.bl b,_=>some b
 |.int i,_=>some (i != 0)
 |.str y,_=>if y.length<=sizeLine then some ((y.length:Int) != 0) else none
 |.tup l,_=>some (!l.isEmpty)
 |.ref n,h=>match aI h n with
  |some l=>some (!l.isEmpty)
  |none=>none
 |.ty _,_=>none
noncomputable def cQ:Bop->D->D->Hh->Rs D
 |.add,.int i,.int j,h=>.ok (.int (i+j)) h
 |.add,.str x,.str y,h=>if x.length+y.length<=sizeLine then .ok (.str (x++y)) h else .bad
 |.mul,.str x,.int i,h=>if 0<=i/\i<=1000/\x.length<=1000 then .ok (.str (Txt.mul x i)) h else .bad
 |.add,.tup a,.tup b,h=>if a.length+b.length<=1000/\0<a.length/\0<b.length then .ok (.tup (a++b)) h else .bad
 |.add,.ref n,.ref k,h=>match h[n]?,h[k]? with
  |some (.lst a),some (.lst b)=>if a.length+b.length<=1000 then .ok (.ref h.length) (h++ [.lst (a++b)]) else .bad
  |_,_=>.bad
 |.sub,.int i,.int j,h=>.ok (.int (i-j)) h
 |.mul,.int i,.int j,h=>if(-(2^64)<i/\i<2^64)\/(-(2^64)<j/\j<2^64) then .ok (.int (i*j)) h else .bad
 |.fdiv,.int i,.int j,h=>if 0<j/\j<1073741824 then .ok (.int (i/j)) h else .bad
 |.mod,.int i,.int j,h=>if 0<j then .ok (.int (i%j)) h else .bad
 |.pow,.int i,.int j,h=>if 0<=j/\j<=1000000/\i.natAbs<2^64 then .ok (.int (i^j.toNat)) h else .bad
 |_,_,_,_=>.bad
noncomputable def nZ(f:D->D->Option Bool):List D->List D->Option Bool
 | [],[]=>some true
 | [],_::_=>some false
 |_::_,[]=>some false
 |x::xs,y::ys=>match f x y,nZ f xs ys with
  |some a,some b=>some (a&&b)
  |_,_=>none
noncomputable def iK:Nat->D->D->Option Bool
 |_,.non,.non=>some true
 |_,.non,.int _=>some false
 |_,.int _,.non=>some false
 |_,.non,.str _=>some false
 |_,.str _,.non=>some false
 |_,.int a,.int b=>some (a==b)
 |_,.bl a,.bl b=>some (a==b)
 |_,.str a,.str b=>some (a==b)
 |_,.int _,.str _=>some false
 |_,.str _,.int _=>some false
 |n+1,.tup a,.tup b=>nZ (iK n) a b
 |_,_,_=>none
noncomputable def CH:D->D->Hh->Option Bool
 |.ref i,.ref j,h=>match aI h i,aI h j with
  |some a,some b=>if a.length=b.length then nZ (iK 20) a b else some false
  |_,_=>none
 |x,y,_=>iK 20 x y
noncomputable def gR:D->Bool
 |.non=>true
 |_=>false
noncomputable def flat:D->Bool
 |.non=>true|.bl _=>true|.int _=>true|.str _=>true
 |_=>false
noncomputable def eqF:D->D->Bool
 |.non,.non=>true
 |.bl a,.bl b=>a==b
 |.bl a,.int b=>(if a then 1 else 0)==b
 |.int a,.bl b=>a==(if b then 1 else 0)
 |.int a,.int b=>a==b
 |.str a,.str b=>a==b
 |_,_=>false
noncomputable def JI(x:D)(l:List D)(neg:Bool)(h:Hh):Rs D:=if flat x=true/\l.all flat=true then .ok (.bl (if neg then !(l.any λy=>eqF y x) else l.any λy=>eqF y x)) h else .bad
noncomputable def dO:D->Hh->Option (List D)
 |.tup l,_=>some l
 |.ref n,h=>aI h n
 |_,_=>none
noncomputable def bW(h:Hh)(x:D):Option (List (bQ×D)):=match x with
 |.ref n=>match h[n]? with
  |some (.dct l)=>some l
  |_=>none
 |_=>none
noncomputable def mW:D->Option bQ
 |.int i=>some (.inl i)
 |.str x=>some (.inr x)
 |_=>none
noncomputable def dW(l:List (bQ×D))(k:bQ):Option D:=(l.find? λkv=>decide (kv.1=k)).map (·.2)
noncomputable def DX(x:D)(l:List (bQ×D))(neg:Bool)(h:Hh):Rs D:=match mW x with
 |some k=>.ok (.bl (if neg then !(dW l k).isSome else(dW l k).isSome)) h
 |none=>.bad
noncomputable def nV(l:List (bQ×D))(k:bQ)(v:D):List (bQ×D):=if l.any (λkv=>decide (kv.1=k)) then l.map (λkv=>if kv.1=k then(kv.1,v) else kv) else l++ [(k,v)]
noncomputable def SD(x y z:D)(h:Hh):Rs D:=match bW h x,mW y with
 |some l,some k=>.ok ((dW l k).getD z) h
 |_,_=>.bad
noncomputable def gG(n:Nat)(y z:D)(h:Hh):Rs Unit:=match h[n]?,mW y with
 |some (.dct l),some k=>if l.length<1000 then .ok () (h.set n (.dct (nV l k z))) else .bad
 |_,_=>.bad
noncomputable def qZ:List D->Option (List Str)
 | []=>some []
 |.str x::r=>(qZ r).map (x:: ·)
 |_::_=>none
noncomputable def BA:List D->List D->Option Bool
 | [],[]=>some false
 | [],_::_=>some true
 |_::_,[]=>some false
 |.int a::xs,.int b::ys=>if a=b then BA xs ys else some (decide (a<b))
 |.str a::xs,.str b::ys=>if a=b then BA xs ys else some (decide (a.cps.toList<b.cps.toList))
 |_,_=>none
noncomputable def kM:D->D->Option Bool
 |.int a,.int b=>some (decide (a<b))
 |.str a,.str b=>some (decide (a.cps.toList<b.cps.toList))
 |.tup a,.tup b=>BA a b
 |_,_=>none
noncomputable def rW:D->Nat
 |.int _=>1
 |.str _=>2
 |.tup (.int _::_)=>3
 |.tup (.str _::_)=>4
 |_=>0
def IB(l:List D):Prop:=l.length<64/\(l.length<2\/∃k,k≠0/\∀x∈l,rW x=k)
open Classical in
noncomputable def gK(l:List D):Option (List D):=if h:IB l/\∃l':List D,l'.Perm l/\l'.Pairwise (Bef kM) then some (Classical.choose h.2) else none
theorem pJ{l l':List D}(c:IB l)(hp:l'.Perm l)(hs:l'.Pairwise (Bef kM)):gK l=some l':=by
 have h:IB l/\∃l':List D,l'.Perm l/\l'.Pairwise (Bef kM):=⟨c,l',hp,hs⟩;unfold gK;rw[dif_pos h];have q:=Classical.choose_spec h.2;rw[jD (R:=Bef kM) (λ_ _=>Bef.asy) (q.1.trans hp.symm) q.2 hs]
theorem pK{l l':List D}(e:gK l=some l'):IB l/\l'.Perm l/\l'.Pairwise (Bef kM):=by
 unfold gK at e;split at e
 ·rename_i h;have q:=Classical.choose_spec h.2;have e':=Zg e;rw[e'] at q;exact⟨h.1,q⟩
 ·cases e
noncomputable def eY(h:Hh)(x:D):Option (List (List Int×D)):=match x with
 |.ref n=>match h[n]? with
  |some (.dtf l)=>some l
  |_=>none
 |_=>none
noncomputable def rZ:List D->Option (List Int)
 | []=>some []
 |.int i::r=>(rZ r).map (i:: ·)
 |_::_=>none
noncomputable def wX(l:List (List Int×D))(k:List Int):Option D:=(l.find? λkv=>decide (kv.1=k)).map (·.2)
noncomputable def RX(x y:D)(h:Hh):Option Bool:=match x,y with
 |.str a,.str b=>some (!(Builtin.Str.occurrences b a 0 b.length 1).isEmpty)
 |.tup ks,y=>match eY h y with
  |some l=>(rZ ks).map λk=>(wX l k).isSome
  |none=>none
 |_,_=>none
noncomputable def PH(x:D):List D->Option Bool
 | []=>some false
 |y::r=>match iK 20 y x,PH x r with
  |some a,some b=>some (a||b)
  |_,_=>none
noncomputable def FT(x y:D)(l:List D):Option Bool:=match x,y with
 |.tup _,.ref _=>PH x l
 |_,_=>none
noncomputable def cG:Cop->D->D->Hh->Rs D
 |.lt,.int i,.int j,h=>.ok (.bl (decide (i<j))) h
 |.le,.int i,.int j,h=>.ok (.bl (decide (i<=j))) h
 |.gt,.int i,.int j,h=>.ok (.bl (decide (j<i))) h
 |.ge,.int i,.int j,h=>.ok (.bl (decide (j<=i))) h
 |.eq,x,y,h=>match CH x y h with
  |some b=>.ok (.bl b) h
  |none=>.bad
 |.ne,x,y,h=>match CH x y h with
  |some b=>.ok (.bl (!b)) h
  |none=>.bad
 |.is,x,.non,h=>.ok (.bl (gR x)) h
 |.isnot,x,.non,h=>.ok (.bl (!gR x)) h
 |.inn,x,y,h=>match RX x y h with
  |some b=>.ok (.bl b) h
  |none=>match bW h y with
   |some l=>DX x l false h
   |none=>match dO y h with
    |some l=>JI x l false h
    |none=>.bad
 |.notin,x,y,h=>match bW h y with
  |some l=>DX x l true h
  |none=>match dO y h with
   |some l=>match FT x y l with
    |some b=>.ok (.bl (!b)) h
    |none=>JI x l true h
   |none=>.bad
 |_,_,_,_=>.bad
noncomputable def MZ(x y:D)(h:Hh):Rs D:=match dO x h,y with
 |some l,.int i=>match lM l i with
  |some d=>.ok d h
  |none=>.bad
 |_,_=>.bad
noncomputable def PF(l:List (bQ×D))(y:D)(h:Hh):Rs D:=match mW y with
 |some k=>match dW l k with
  |some d=>.ok d h
  |none=>.bad
 |none=>.bad
noncomputable def ixT(x:Str)(y:D)(h:Hh):Rs D:=match y with
 |.int i=>if x.length<=sizeLine then(match lM x.cps.toList i with
  |some c=>.ok (.str ⟨#[c]⟩) h
  |none=>.bad) else .bad
 |_=>.bad
noncomputable def UY(l:List (List Int×D))(y:D)(h:Hh):Rs D:=match y with
 |.tup ks=>match (rZ ks).bind (wX l) with
  |some d=>.ok d h
  |none=>.bad
 |_=>.bad
noncomputable def lJ(x y:D)(h:Hh):Rs D:=match x with
 |.str z=>ixT z y h
 |x=>match bW h x with
  |some l=>PF l y h
  |none=>match eY h x with
   |some l=>UY l y h
   |none=>MZ x y h
noncomputable def cO:D->Hh->Bool
 |.ref n,h=>(aI h n).isSome
 |_,_=>false
noncomputable def UQ:D->Hh->Option Ty
 |.bl _,_=>some .bool
 |.int _,_=>some .int
 |.str _,_=>some .str
 |.tup _,_=>some .tuple
 |.ref n,h=>match aI h n with
  |some _=>some .list
  |none=>none
 |_,_=>none
noncomputable def FQ:Ty->String->Bool
 |.bool,s=>s=="bool"||s=="int"
 |t,s=>t.nm==s
noncomputable def fP:List String:= ["int","bool","str","tuple","list","dict"]
noncomputable def lA(x:D)(T:String)(h:Hh):Option Bool:=match x with
 |.non=>if T∈fP then some false else none
 |x=>match UQ x h with
  |some t=>if T∈fP then some (FQ t T) else none
  |none=>none
noncomputable def qV:List D->Option (List String)
 | []=>some []
 |.ty T::r=>match qV r with
  |some l=>some (T::l)
  |none=>none
 |_=>none
noncomputable def iA(x:D)(h:Hh):List String->Option Bool
 | []=>some false
 |T::r=>match lA x T h,iA x h r with
  |some a,some b=>some (a||b)
  |_,_=>none
noncomputable def cH(x:D):D->Hh->Rs D
 |.ty T,h=>match lA x T h with
  |some b=>.ok (.bl b) h
  |none=>.bad
 |.tup l,h=>match qV l with
  |some []=>.bad
  |some (T::Ts)=>match iA x h (T::Ts) with
   |some b=>.ok (.bl b) h
   |none=>.bad
  |none=>.bad
 |_,_=>.bad
noncomputable def XQ:D->Hh->Rs D
 |.int i,h=>.ok (.int i) h
 |.bl b,h=>.ok (.int (if b then 1 else 0)) h
 |_,_=>.bad
noncomputable def RJ(x:D)(h:Hh):Rs D:=match dO x h with
 |some l=>.ok (.int l.length) h
 |none=>match x with
  |.str z=>if z.length<=sizeLine then .ok (.int z.length) h else .bad
  |x=>match eY h x with
   |some l=>.ok (.int l.length) h
   |none=>match bW h x with
    |some l=>.ok (.int l.length) h
    |none=>.bad
noncomputable def yO:List D->Option (List Bool)
 | []=>some []
 |.bl b::r=>(yO r).map (b:: ·)
 |_::_=>none
noncomputable def DV(x:D)(h:Hh):Rs D:=match cO x h,dO x h with
 |true,some l=>match yO l with
  |some bs=>.ok (.bl (bs.all id)) h
  |none=>.bad
 |_,_=>.bad
noncomputable def QL(x:D)(h:Hh):Rs D:=match x with
 |.ref n=>match h[n]? with
  |some (.lst l)=>.ok .non (h.set n (.lst l.reverse))
  |_=>.bad
 |_=>.bad
noncomputable def JD(x:D)(h:Hh):Rs D:=match dO x h with
 |some l=>.ok (.ref h.length) (h++ [.lst l])
 |none=>.bad
noncomputable def zN(x:D)(h:Hh):Rs D:=match cO x h,dO x h with
 |true,some l=>match gK l with
  |some l'=>.ok (.ref h.length) (h++ [.lst l'])
  |none=>.bad
 |_,_=>.bad
noncomputable def RR(s:Str)(x:D)(h:Hh):Rs D:=match cO x h,dO x h with
 |true,some l=>match qZ l with
  |some xs=>if(xs.map (·.length)).sum+xs.length*s.length<=1000 then .ok (.str (Txt.join s xs)) h else .bad
  |none=>.bad
 |_,_=>.bad
noncomputable def EI(x y:D)(h:Hh):Rs D:=match x,y with
 |.tup l,.int i=>if 0<=i/\i<(l.length:Int) then .ok (.tup (l.take i.toNat)) h else .bad
 |_,_=>.bad
noncomputable def QI(x y:D)(h:Hh):Rs D:=match x,y with
 |.str z,.int i=>if 0<=i/\z.length<=1000 then .ok (.str ⟨(z.cps.toList.take i.toNat).toArray⟩) h else .bad
 |_,_=>.bad
noncomputable def QH(x y:D)(h:Hh):Rs D:=match x,y with
 |.str z,.int i=>if 0<=i/\z.length<=1000 then .ok (.str ⟨(z.cps.toList.drop i.toNat).toArray⟩) h else .bad
 |_,_=>.bad
noncomputable def WG(x y:D)(h:Hh):Rs D:=match cO x h,dO x h,y with
 |true,some l,.int i=>if 0<=i then .ok (.ref h.length) (h++ [.lst (l.take i.toNat)]) else .bad
 |_,_,_=>.bad
noncomputable def EJ(x y:D)(h:Hh):Rs D:=match cO x h,dO x h,y with
 |true,some l,.int i=>if 0<=i then .ok (.ref h.length) (h++ [.lst (l.drop i.toNat)]) else .ok (.ref h.length) (h++ [.lst (l.drop (l.length-i.natAbs))])
 |_,_,_=>.bad
noncomputable def xC(x:D)(h:Hh):Rs D:=match cO x h,dO x h with
 |true,some l=>.ok (.tup l) h
 |_,_=>.bad
noncomputable def one(k:D->Hh->Rs D):List D->Hh->Rs D
 | [x],h=>k x h
 |_,_=>.bad
noncomputable def two(k:D->D->Hh->Rs D):List D->Hh->Rs D
 | [x,y],h=>k x y h
 |_,_=>.bad
noncomputable def sB:List D->Option (List Int)
 | []=>some []
 |.int i::r=>(sB r).map (i:: ·)
 |_::_=>none
noncomputable def jP(l:List (List Int×D))(k:List Int)(v:D):List (List Int×D):=if l.any (λkv=>decide (kv.1=k)) then l.map (λkv=>if kv.1=k then(kv.1,v) else kv) else l++ [(k,v)]
noncomputable def wH(n:Nat)(l:List (List Int×D))(y z:D)(h:Hh):Rs Unit:=match y with
 |.tup ks=>match sB ks with
  |some k=>if l.length<1000 then .ok () (h.set n (.dtt (jP l k z))) else .bad
  |none=>.bad
 |_=>.bad
noncomputable def WU(a:Int)(l:List Int):Int:=l.foldl (λm x=>if x>m then x else m) a
noncomputable def WT(a:Int)(l:List Int):Int:=l.foldl (λm x=>if x<m then x else m) a
noncomputable def JZ(mx:Bool):Int->List Int->Int:=if mx then WU else WT
noncomputable def wR(mx:Bool):List D->Hh->Rs D
 | [x,y],h=>match x,y with
   |.int i,.int j=>.ok (.int (JZ mx i [j])) h
   |_,_=>.bad
 |_,_=>.bad
noncomputable def KA(mx:Bool)(x d:D)(h:Hh):Rs D:=match cO x h,dO x h with
 |true,some l=>match sB l with
  |some (i::r)=>.ok (.int (JZ mx i r)) h
  |some []=>.ok d h
  |none=>.bad
 |_,_=>.bad
noncomputable def RF(x:D)(h:Hh):Rs D:=match x with
 |.int j=>if -(2^62)<=j/\j<=1000 then .ok (.ref h.length) (h++ [.lst (dP 0 j)]) else .bad
 |_=>.bad
noncomputable def JV(ks:List Str)(ds:List D)(n:Nat)(h:Hh):Rs D:=match h[n]? with
 |some (.dct [])=>if ds.length=ks.length/\ks.Nodup/\ks.length<=15 then .ok (.ref n) (h.set n (.dct ((ks.map Sum.inr).zip ds))) else .bad
 |_=>.bad
noncomputable def fG:Blt->List D->Hh->Rs D
 |.len=>one RJ
 |.isinst=>two cH
 |.int=>one XQ
 |.list=>one JD
 |.max=>wR true
 |.min=>wR false
 |.sorted=>one zN
 |.all=>one DV
 |.tup=>one xC
noncomputable def nS(x y:D)(h:Hh):Rs D:=match x with
 |.ref n=>match h[n]? with
  |some (.lst l)=>if l.length<1000000 then .ok .non (h.set n (.lst (l++ [y]))) else .bad
  |_=>.bad
 |_=>.bad
noncomputable def RV(x y z:D)(h:Hh):Rs D:=match x,y with
 |.ref n,.int i=>match h[n]? with
  |some (.lst l)=>if 0<=i/\i<=(l.length:Int)/\l.length<1000000 then .ok .non (h.set n (.lst (l.take i.toNat++z::l.drop i.toNat))) else .bad
  |_=>.bad
 |_,_=>.bad
noncomputable def NK(x:D)(h:Hh):Rs D:=match x with
 |.int i=>if i.natAbs.log2<1920 then .ok (.str (toString i)) h else .bad
 |.str z=>if z.length<=100000 then .ok (.str z) h else .bad
 |_=>.bad
noncomputable def uR:List Str->Str
 | []=>Str.empty
 |x::l=>x++uR l
noncomputable def NI(l:List D)(h:Hh):Rs D:=match qZ l with
 |some xs=>if(xs.map (·.length)).sum<=100000 then .ok (.str (uR xs)) h else .bad
 |none=>.bad
noncomputable def qO:bQ->D
 |.inl i=>.int i
 |.inr x=>.str x
noncomputable def ER(x:D)(h:Hh):Rs D:=match cO x h,dO x h with
 |true,some l=>.ok (.ref h.length) (h++ [.lst l.reverse])
 |_,_=>.bad
noncomputable def oR:List (bQ×D)->Option (List Str)
 | []=>some []
 |(.inr x,_)::r=>(oR r).map (x:: ·)
 |(.inl _,_)::_=>none
noncomputable def zS(x:D)(h:Hh):Rs D:=match bW h x with
 |some l=>match oR l with
  |some ks=>match gK (ks.map D.str) with
   |some l'=>.ok (.ref h.length) (h++ [.lst l'])
   |none=>.bad
  |none=>.bad
 |none=>.bad
noncomputable def CN(x:D)(h:Hh):Rs D:=match bW h x with
 |some l=>.ok (.ref h.length) (h++ [.dct l])
 |none=>.bad
noncomputable def EK(x y z:D)(h:Hh):Rs D:=match cO x h,dO x h,y,z with
 |true,some l,.int i,.int j=>if 0<=i/\i<=j/\j<=(l.length:Int) then .ok (.ref h.length) (h++ [.lst ((l.take j.toNat).drop i.toNat)]) else .bad
 |_,_,_,_=>.bad
noncomputable def AH(x y:D)(h:Hh):Rs D:=match x with
 |.ref n=>match h[n]?,mW y with
  |some (.dct l),some k=>match dW l k with
   |some v=>.ok v (h.set n (.dct (l.filter λkv=>decide (kv.1≠k))))
   |none=>.bad
  |_,_=>.bad
 |_=>.bad
noncomputable def DJ(t:Tg)(fc:Ev->Hh->Rs Bool)(fk fv:Ev->Hh->Rs D)(n0:Nat):List D->Ev->Hh->Rs Unit
 | [],_,h=>.ok () h
 |d::ds,r,h=>match cZ t d r with
  |none=>.bad
  |some r1=>(fc r1 h).bind λb h=>if b=true then(fk r1 h).bind λy h=>(fv r1 h).bind λz h=>(gG n0 y z h).bind λ_ h=>DJ t fc fk fv n0 ds r1 h else DJ t fc fk fv n0 ds r1 h
noncomputable def PJ(t:Tg)(fc:Ev->Hh->Rs Bool)(fk fv:Ev->Hh->Rs D)(x:D)(r:Ev)(h:Hh):Rs D:=match x with
 |.ref n=>match h[n]? with
  |some (.dct l)=>(DJ t fc fk fv h.length (l.map λp=>D.tup [qO p.1,p.2]) r (h.set n .ded++ [.dct []])).bind λ_ h'=>.ok (.ref h.length) h'
  |_=>.bad
 |_=>.bad
noncomputable def cW(t:Tg)(cs:Ev->Hh->Rs Bool)(f:Ev->Hh->Rs D)(n0:Nat):List D->Ev->Hh->Rs Unit
 | [],_,h=>.ok () h
 |d::ds,r,h=>match cZ t d r with
  |none=>.bad
  |some r1=>(cs r1 h).bind λb h=>if b=true then(f r1 h).bind λy h=>(nS (.ref n0) y h).bind λ_ h=>cW t cs f n0 ds r1 h else cW t cs f n0 ds r1 h
noncomputable def gH(t:Tg)(cs:Ev->Hh->Rs Bool)(f:Ev->Hh->Rs D)(n0 n:Nat):Nat->Nat->Ev->Hh->Rs Unit
 |0,_,_,_=>.bad
 |k+1,i,r,h=>match aI h n with
  |none=>.bad
  |some l=>match l[i]? with
   |none=>.ok () h
   |some d=>match cZ t d r with
    |none=>.bad
    |some r1=>(cs r1 h).bind λb h=>if b=true then(f r1 h).bind λy h=>(nS (.ref n0) y h).bind λ_ h=>gH t cs f n0 n k (i+1) r1 h else gH t cs f n0 n k (i+1) r1 h
noncomputable def iM(t:Tg)(cs:Ev->Hh->Rs Bool)(f:Ev->Hh->Rs D)(n0:Nat)(k:Ck)(xs:List D)(h0:Hh)(r:Ev)(h:Hh):Rs Unit:=match k,xs with
 |.r1,[.int j]=>if tN j then cW t cs f n0 (dP 0 j) r h else .bad
 |.r2,[.int i,.int j]=>if tN i/\tN j then cW t cs f n0 (dP i j) r h else .bad
 |.st,[.str x]=>if x.length<=1000 then cW t cs f n0 (x.cps.toList.map λc=>D.str ⟨#[c]⟩) r h else .bad
 |.itf,[.ref n]=>match h0[n]? with
  |some (.dtf l)=>cW t cs f n0 (l.map λp=>D.tup [.tup (p.1.map D.int),p.2]) r h
  |_=>.bad
 |.its,[.ref n]=>match h0[n]? with
  |some (.dtt l)=>cW t cs f n0 (l.map λp=>D.tup [.tup (p.1.map D.int),p.2]) r (h.set n .ded)
  |_=>.bad
 |.sq,[.tup l]=>cW t cs f n0 l r h
 |.sq,[.ref n]=>match aI h0 n with
  |some l=>gH t cs f n0 n (l.length+1) 0 r h
  |none=>.bad
 |_,_=>.bad
noncomputable def dcS(t2:Tg)(fk fv:Ev->Hh->Rs D)(n0:Nat):List D->Ev->Hh->Rs Ev
 | [],r,h=>.ok r h
 |d::ds,r,h=>match cZ t2 d r with
  |none=>.bad
  |some r1=>(fk r1 h).bind λy h=>(fv r1 h).bind λz h=>(gG n0 y z h).bind λ_ h=>dcS t2 fk fv n0 ds r1 h
noncomputable def dcI(t1:Tg)(fi:Ev->Hh->Rs D)(t2:Tg)(fk fv:Ev->Hh->Rs D)(n0 n:Nat):Nat->Nat->Ev->Hh->Rs Unit
 |0,_,_,_=>.bad
 |k+1,i,r,h=>match aI h n with
  |none=>.bad
  |some l=>match l[i]? with
   |none=>.ok () h
   |some d=>match cZ t1 d r with
    |none=>.bad
    |some r1=>(fi r1 h).bind λy h=>match y with
     |.tup ds=>(dcS t2 fk fv n0 ds r1 h).bind λr2 h=>dcI t1 fi t2 fk fv n0 n k (i+1) r2 h
     |_=>.bad
noncomputable def dcL(t1:Tg)(fi:Ev->Hh->Rs D)(t2:Tg)(fk fv:Ev->Hh->Rs D)(x:D)(r:Ev)(h:Hh):Rs D:=match x with
 |.ref n=>match aI h n with
  |some l=>(dcI t1 fi t2 fk fv h.length n (l.length+1) 0 r (h++ [.dct []])).bind λ_ h'=>.ok (.ref h.length) h'
  |none=>.bad
 |_=>.bad
noncomputable def nK(n:Nat)(y z:D)(h:Hh):Rs Unit:=match h[n]? with
 |some (.dtt l)=>wH n l y z h
 |_=>.bad
noncomputable def CK(t:Tg)(fk fv:Ev->Hh->Rs D)(n0 n:Nat):Nat->Nat->Ev->Hh->Rs Unit
 |0,_,_,_=>.bad
 |k+1,i,r,h=>match aI h n with
  |none=>.bad
  |some l=>match l[i]? with
   |none=>.ok () h
   |some d=>match cZ t d r with
    |none=>.bad
    |some r1=>(fk r1 h).bind λy h=>(fv r1 h).bind λz h=>(nK n0 y z h).bind λ_ h=>CK t fk fv n0 n k (i+1) r1 h
noncomputable def TD(n:Nat)(h:Hh):Rs D:=match h[n]? with
 |some (.dtt l)=>.ok (.ref n) (h.set n (.dtf l))
 |_=>.bad
noncomputable def TF(t:Tg)(fk fv:Ev->Hh->Rs D)(x:D)(r:Ev)(h:Hh):Rs D:=match x with
 |.ref n=>match aI h n with
  |some l=>(CK t fk fv h.length n (l.length+1) 0 r (h++ [.dtt []])).bind λ_ h'=>TD h.length h'
  |none=>.bad
 |_=>.bad
noncomputable def ON(r:Ev)(i:Nat):Option D:=match r[i]? with
 |some x=>x
 |none=>none
noncomputable def aT(N:List Str)(cap:List Nat)(r:Ev):Ev:=List.replicate (N.length-cap.length) none++cap.map (ON r)
structure Gs where
 fns:List Str
 csts:List (Str×D)
 excs:List Str:= []
 sub:List (Nat×Nat):= []
 nsub:List (Nat×Nat):= []
 news:List (Str×Nat):= []
 meths:List (Str×Str×Nat):= []
 atts:List (Str×Str):= []
noncomputable abbrev Cl:=Nat->List D->Hh->Rs D
noncomputable def DR(cn:Str)(x:D)(f:Str)(h:Hh):Rs D:=match x with
 |.ref n=>match h[n]? with
  |some (.ins c fs)=>if c=cn then(match fs.lookup f with
   |some d=>.ok d h
   |none=>.bad) else .bad
  |_=>.bad
 |_=>.bad
noncomputable def fK(x:D)(cn m:Str)(h:Hh):Bool:=match x with
 |.ref n=>match h[n]? with
  |some (.ins c fs)=>decide (c=cn)&&(fs.lookup m).isNone
  |_=>false
 |_=>false
noncomputable def nW(f:Str)(y:D):List (Str×D)->List (Str×D)
 | []=>[(f,y)]
 |(g,x)::r=>if g=f then(g,y)::r else(g,x)::nW f y r
noncomputable def zT(cn:Str)(x y:D)(f:Str)(h:Hh):Rs Unit:=match x with
 |.ref n=>match h[n]? with
  |some (.ins c fs)=>if c=cn/\fs.length<900 then .ok () (h.set n (.ins c (nW f y fs))) else .bad
  |_=>.bad
 |_=>.bad
noncomputable def jS(cn:Str)(f:List D->Hh->Rs D)(ds:List D)(h:Hh):Rs D:=(f (.ref h.length::ds) (h++ [.ins cn []])).bind λd h'=>match d with
 |.non=>.ok (.ref h.length) h'
 |_=>.bad
mutual
noncomputable def ev(G:Gs)(cl:Cl):E->Ev->Hh->Rs D
 |.var i,r,h=>match r[i]? with
  |some (some d)=>.ok d h
  |_=>.bad
 |.int i,_,h=>.ok (.int i) h
 |.bl b,_,h=>.ok (.bl b) h
 |.non,_,h=>.ok .non h
 |.str x,_,h=>.ok (.str x) h
 |.gc g,_,h=>match G.csts[g]? with
  |some p=>.ok p.2 h
  |none=>.bad
 |.ty t,_,h=>.ok (.ty t.nm) h
 |.bin op a b,r,h=>(ev G cl a r h).bind λx h=>(ev G cl b r h).bind λy h=>cQ op x y h
 |.neg a,r,h=>(ev G cl a r h).bind λx h=>match x with
  |.int i=>.ok (.int (-i)) h
  |_=>.bad
 |.cmp op a b,r,h=>(ev G cl a r h).bind λx h=>(ev G cl b r h).bind λy h=>cG op x y h
 |.and a b,r,h=>(ev G cl a r h).bind λx h=>match fQ x h with
  |some true=>ev G cl b r h
  |some false=>.ok x h
  |none=>.bad
 |.or a b,r,h=>(ev G cl a r h).bind λx h=>match fQ x h with
  |some true=>.ok x h
  |some false=>ev G cl b r h
  |none=>.bad
 |.not a,r,h=>(ev G cl a r h).bind λx h=>match fQ x h with
  |some b=>.ok (.bl (!b)) h
  |none=>.bad
 |.ite c a b,r,h=>(ev G cl c r h).bind λx h=>match fQ x h with
  |some true=>ev G cl a r h
  |some false=>ev G cl b r h
  |none=>.bad
 |.ix a b,r,h=>(ev G cl a r h).bind λx h=>(ev G cl b r h).bind λy h=>lJ x y h
 |.tup l,r,h=>(cJ G cl l r h).bind λds h=>if ds.length<=1000 then .ok (.tup ds) h else .bad
 |.lst l,r,h=>(cJ G cl l r h).bind λds h=>if ds.length<=1000 then .ok (.ref h.length) (h++ [.lst ds]) else .bad
 |.call f l,r,h=>(cJ G cl l r h).bind λds h=>(cl f ds h).nx
 |.blt f l,r,h=>(cJ G cl l r h).bind λds h=>fG f ds h
 |.app o e,r,h=>(ev G cl o r h).bind λx h=>if cO x h=true then(ev G cl e r h).bind λy h=>nS x y h else .bad
 |.ins o i e,r,h=>(ev G cl o r h).bind λx h=>if cO x h=true then(ev G cl i r h).bind λy h=>(ev G cl e r h).bind λz h=>RV x y z h else .bad
 |.mxd mx l d,r,h=>(ev G cl l r h).bind λx h=>(ev G cl d r h).bind λy h=>KA mx x y h
 |.lrg e,r,h=>(ev G cl e r h).bind λx h=>RF x h
 |.disp ks vs,r,h=>(cJ G cl vs r (h++ [.dct []])).bind λds h'=>JV ks ds h.length h'
 |.dnw,_,h=>.ok (.ref h.length) (h++ [.dct []])
 |.slU a b,r,h=>(ev G cl a r h).bind λx h=>(ev G cl b r h).bind λy h=>WG x y h
 |.slL a b,r,h=>(ev G cl a r h).bind λx h=>(ev G cl b r h).bind λy h=>EJ x y h
 |.att o cn f,r,h=>(ev G cl o r h).bind λx h=>DR cn x f h
 |.new cn f l,r,h=>(cJ G cl l r h).bind λds h=>(jS cn (cl f) ds h).nx
 |.slA a b,r,h=>(ev G cl a r h).bind λx h=>(ev G cl b r h).bind λy h=>QI x y h
 |.slZ a b,r,h=>(ev G cl a r h).bind λx h=>(ev G cl b r h).bind λy h=>QH x y h
 |.slT a b,r,h=>(ev G cl a r h).bind λx h=>(ev G cl b r h).bind λy h=>EI x y h
 |.mth o cn m f l,r,h=>(ev G cl o r h).bind λx h=>if fK x cn m h=true then(cJ G cl l r h).bind λds h=>(cl f (x::ds) h).nx else .bad
 |.chn op op' a b c,r,h=>(ev G cl a r h).bind λx h=>(ev G cl b r h).bind λy h=>(cG op x y h).bind λp h=>match p with
  |.bl true=>(ev G cl c r h).bind λz h=>cG op' y z h
  |.bl false=>.ok (.bl false) h
  |_=>.bad
 |.rev o,r,h=>(ev G cl o r h).bind λx h=>QL x h
 |.dcT t i k v N cap,r,h=>(ev G cl i r h).bind λx h=>TF t (ev G cl k) (ev G cl v) x (aT N cap r) h
 |.dnt,_,h=>.ok (.ref h.length) (h++ [.dtt []])
 |.get2 o k d,r,h=>(ev G cl o r h).bind λx h=>if(bW h x).isSome=true then(ev G cl k r h).bind λy h=>(ev G cl d r h).bind λz h=>SD x y z h else .bad
 |.join s e,r,h=>(ev G cl e r h).bind λx h=>RR s x h
 |.fst l,r,h=>(cJ G cl l r h).bind λds h=>NI ds h
 |.fmt a,r,h=>(ev G cl a r h).bind λx h=>NK x h
 |.rvs a,r,h=>(ev G cl a r h).bind λx h=>ER x h
 |.sdk a,r,h=>(ev G cl a r h).bind λx h=>zS x h
 |.dcp a,r,h=>(ev G cl a r h).bind λx h=>CN x h
 |.slB a i j,r,h=>(ev G cl a r h).bind λx h=>(ev G cl i r h).bind λy h=>(ev G cl j r h).bind λz h=>EK x y z h
 |.pop o k,r,h=>(ev G cl o r h).bind λx h=>if(bW h x).isSome=true then(ev G cl k r h).bind λy h=>AH x y h else .bad
 |.dci t o cs k v N cap,r,h=>(ev G cl o r h).bind λx h=>PJ t (jU G cl cs) (ev G cl k) (ev G cl v) x (aT N cap r) h
 |.dcomp t1 i1 t2 i2 k v N cap,r,h=>(ev G cl i1 r h).bind λx h=>dcL t1 (ev G cl i2) t2 (ev G cl k) (ev G cl v) x (aT N cap r) h
 |.comp t k it cs e N cap,r,h=>(cJ G cl it r h).bind λxs h=>(iM t (jU G cl cs) (ev G cl e) h.length k xs h (aT N cap r) (h++ [.lst []])).bind λ_ h'=>.ok (.ref h.length) h'
noncomputable def jU(G:Gs)(cl:Cl):Es->Ev->Hh->Rs Bool
 |.nil,_,h=>.ok true h
 |.cons c l,r,h=>(ev G cl c r h).bind λx h=>match fQ x h with
  |some true=>jU G cl l r h
  |some false=>.ok false h
  |none=>.bad
noncomputable def cJ(G:Gs)(cl:Cl):Es->Ev->Hh->Rs (List D)
 |.nil,_,h=>.ok [] h
 |.cons e l,r,h=>(ev G cl e r h).bind λd h=>(cJ G cl l r h).bind λds h=>.ok (d::ds) h
end
noncomputable def yY(sc:Scope)(x:Str):Bool:=match sc.names.lookup x with
 |some .local=>true
 |some .cell=>true
 |some .free=>true
 |_=>false
noncomputable def iH(sc:Scope)(x:Str):Bool:=match sc.names.lookup x with
 |some .local=>true
 |some .cell=>true
 |_=>false
noncomputable def lE(sc:Scope)(x:Str):Bool:=match sc.names.lookup x with
 |some .globalImplicit=>true
 |_=>false
noncomputable def cS(x:Str):Bool:= !(x==("__debug__":Str))&& !(x==("__classdict__":Str))&& !(x==("__name__":Str))
noncomputable def Bop.op:Bop->Operator
 |.add=>.Add|.sub=>.Sub|.mul=>.Mult|.fdiv=>.FloorDiv|.mod=>.Mod|.pow=>.Pow
noncomputable def Cop.op:Cop->CmpOp
 |.lt=>.Lt|.le=>.LtE|.gt=>.Gt|.ge=>.GtE|.eq=>.Eq|.ne=>.NotEq|.is=>.Is|.isnot=>.IsNot|.inn=>.In|.notin=>.NotIn
noncomputable def Blt.nm:Blt->Str
 |.len=>"len"|.isinst=>"isinstance"|.int=>"int"|.list=>"list"|.max=>"max"|.min=>"min"|.sorted=>"sorted"|.all=>"all"|.tup=>"tuple"
noncomputable def oM:Expr->Bool
 |.Set _ _ _=>false
 |_=>true
noncomputable def dQ:Expr->Bool
 |.Starred _ _=>false
 |_=>true
noncomputable def cN(scope sc:Scope):Scope:={scope with names:=scope.names.map λ(n,k)=>if(k== .free&&sc.kind== .function&&sc.names.lookup n==some .cell) then(n,.cell) else(n,k)}
noncomputable def nP(N:List Str)(sc:Scope):List Nat->List Expr->Bool
 | [],[]=>true
 |i::is,.Name x _::es=>N[i]? ==some x&&iH sc x&&nP N sc is es
 |_,_=>false
noncomputable def wM(N:List Str)(sc:Scope)(i:Nat)(e:Expr):Bool:=match e with
 |.Name x _=>N[i]? ==some x&&iH sc x
 |_=>false
noncomputable def DL(f:Expr->Bool)(g:Expr->Bool)(e:Expr):Bool:=match e with
 |.Tuple [a,b] _ _=>f a&&g b
 |_=>false
noncomputable def fC(N:List Str)(sc:Scope):Tg->Expr->Bool
 |.nm i,e=>wM N sc i e
 |.tp l,.Tuple es _ _=>nP N sc l es
 |.tn i j k,e=>DL (DL (wM N sc i) (wM N sc j)) (wM N sc k) e
 |_,_=>false
noncomputable def mQ:List Str->Bool
 | []=>true
 |x::l=> !l.contains x&&mQ l
noncomputable def LK(scope sc:Scope):Bool:=scope.kind== .function&&sc.kind== .function&&mQ (scope.names.map (·.1))&&scope.names.all λp=>(!(p.2== .local)||scope.names.lookup p.1==some .local)&&(!(p.2== .free)||sc.names.lookup p.1==some .cell)
noncomputable def JX(N N':List Str)(cap:List Nat)(scope:Scope):Bool:=decide (cap.length<=N'.length)&&(N'.drop (N'.length-cap.length)).map some==cap.map (λ(i:Nat)=>N[i]?)&&(N'.drop (N'.length-cap.length)).all λx=>scope.names.lookup x==some .free
def TDE(K:W.Frag)(f:Ev->Hh->Rs D):TE:=λs H Q=>∃m r h d h',Wd K m h H/\RSt K m H r s/\f r h=.ok d h'/\
 ∀m' v H',Gr K m H m' H'->Wd K m' h' H'->RD K m' H' d v->Q v H'
def C5(K:W.Frag)(f:Ev->Hh->Rs D):TT:=λs H Q=>∃m r h d h' b,Wd K m h H/\RSt K m H r s/\f r h=.ok d h'/\fQ d h'=some b/\
 ∀m' H',Gr K m H m' H'->Wd K m' h' H'->Q b H'
noncomputable def TDA(K:W.Frag)(f:Ev->Hh->Rs (List D)):TA:=λs H Q=>∃m r h ds h',Wd K m h H/\RSt K m H r s/\f r h=.ok ds h'/\
 ∀m' vs H',Gr K m H m' H'->Wd K m' h' H'->RDs K m' H' ds vs->Q vs H'
noncomputable def rD(K:W.Frag)(k:D->D->Hh->Rs D):R2:=λx y H Q=>∃m h dx dy d h',Wd K m h H/\RD K m H dx x/\RD K m H dy y/\k dx dy h=.ok d h'/\
 ∀m' v H',Gr K m H m' H'->Wd K m' h' H'->RD K m' H' d v->Q v H'
noncomputable def LM(K:W.Frag)(k:List D->Hh->Rs D):List V->Hp->VK->Prop:=λxs H Q=>∃m h ds d h',Wd K m h H/\RDs K m H ds xs/\k ds h=.ok d h'/\
 ∀m' v H',Gr K m H m' H'->Wd K m' h' H'->RD K m' H' d v->Q v H'
theorem _root_.L2.PE.wk{X:Cx}{e:Expr}{t t':TE}(h:PE X e t)(i:∀s H Q,t' s H Q->t s H Q):PE X e t':=λpins s σ H Q I q=>h pins s σ H Q I (i _ _ _ q)
theorem _root_.L2.PT.wk{X:Cx}{e:Expr}{t t':TT}(h:PT X e t)(i:∀s H Q,t' s H Q->t s H Q):PT X e t':=λpins s σ H Q I q=>h pins s σ H Q I (i _ _ _ q)
theorem _root_.L2.PA.wk{X:Cx}{e:List Expr}{t t':TA}(h:PA X e t)(i:∀s H Q,t' s H Q->t s H Q):PA X e t':=λpos pins s σ H Q I q=>h pos pins s σ H Q I (i _ _ _ q)
theorem TDE.two{K:W.Frag}{fa fb:Ev->Hh->Rs D}{k:D->D->Hh->Rs D}{s:Sg}{H:Hp}{R:V->V->Hp->Prop}{m:List Addr}{r:Ev}{h:Hh}{d:D}{h':Hh}(w:Wd K m h H)(st:RSt K m H r s)
 (e:((fa r h).bind λx h1=>(fb r h1).bind λy h2=>k x y h2)=.ok d h')
 (c:∀m2 H2 h2 dx dy x y,Gr K m H m2 H2->Wd K m2 h2 H2->RD K m2 H2 dx x->RD K m2 H2 dy y->k dx dy h2=.ok d h'->R x y H2):
 TDE K fa s H λx H1=>TDE K fb s H1 λy H2=>R x y H2:=by
 obtain⟨dx,h1,e1,e⟩:=Rs.bind_ok e;obtain⟨dy,h2,e2,e⟩:=Rs.bind_ok e;exact⟨m,r,h,dx,h1,w,st,e1,λm1 x H1 g1 w1 rx=>⟨m1,r,h1,dy,h2,w1,st.mono g1,e2,λm2 y H2 g2 w2 ry=>c m2 H2 h2 dx dy x y (g1.trans g2) w2 (rx.mono g2) ry e⟩⟩
theorem TDE.op{K:W.Frag}{fa fb f:Ev->Hh->Rs D}{k:D->D->Hh->Rs D}(hf:∀r h,f r h=(fa r h).bind λx h1=>(fb r h1).bind λy h2=>k x y h2)(s:Sg)(H:Hp)(Q:VK)(q:TDE K f s H Q):PZ (rD K k) (TDE K fa) (TDE K fb) s H Q:=by
 obtain⟨m,r,h,d,h',w,st,e,c⟩:=q;rw[hf] at e;exact TDE.two w st e λm2 H2 h2 dx dy x y g w2 rx ry e=>⟨m2,h2,dx,dy,d,h',w2,rx,ry,e,λm' v H' g'=>c m' v H' (g.trans g')⟩
structure XOk (X:Cx)(N:List Str)(sc:Scope):Prop where
 n:X.N=N
 s:X.env.scope=sc
 calm:X.calm=true
 nd:X.N.Nodup
 room:∃k,Room k X.A
 rng:X.mg "range"=none
 po:PassesOwn (model X.prog X.w) X.A X.env X.xe
def tE(K:W.Frag)(ca:Nat->Addr)(f:List D->Hh->Rs D)(n:Nat):Sp:=λvs H Q E=>vs.length=n/\∃m h ds,Wd K m h H/\RDs K m H ds vs/\(match f ds h with
 |.ok d h'=>∀m' v H',Gr K m H m' H'->Wd K m' h' H'->RD K m' H' d v->Q v H'
 |.exc c _ h'=>∀m' H' v,Gr K m H m' H'->Wd K m' h' H'->E v (some (ca c)) H'
 |.bad=>False)
abbrev bmV:List Value:= [.type "ValueError",.type "Exception",.type "BaseException",.type "object"]
structure ExcF (K:W.Frag)(C:Addr):Prop where
 own:W.excIn K C bmV "ValueError.__new__"=true
 kp:W.keepIn K (.ref C)=true
 val:W.kitOne K (.ref C) (.type "ValueError")=some true
structure COk (X:Cx)(G:Gs)(ca:Nat->Addr)(cl:Cl):Prop where
 att:∀p∈G.atts,∃C,W.nsIn X.K mainGlobals p.1=some (some (.ref C))/\Cls X.K C/\NoAttr X.K C p.2
 meth:∀p∈G.meths,∃C fa fd ps k,W.nsIn X.K mainGlobals p.1=some (some (.ref C))/\Cls X.K C/\Meth X.K C p.2.1 fa/\FnOk X.prog X.w X.K X.mg X.base (pH X.prog X.w) k fa fd ps (tE X.K ca (cl p.2.2) ps.length)/\Room k X.A/\Binds X.K fd ps []/\∀ds h,cl p.2.2 ds h≠ .bad->ds.length=ps.length
 new:∀p∈G.news,∃C fa fd ps k,W.nsIn X.K mainGlobals p.1=some (some (.ref C))/\X.mg p.1=some (.ref C)/\Mk X.K C fa/\FnOk X.prog X.w X.K X.mg X.base (pH X.prog X.w) k fa fd ps (tE X.K ca (cl p.2) ps.length)/\Room (k+1) X.A/\Binds X.K fd ps []/\∀ds h,cl p.2 ds h≠ .bad->ds.length=ps.length
structure GOk (X:Cx)(G:Gs)(ca:Nat->Addr)(cl:Cl):Prop where
 fn:∀(f:Nat)(x:Str),G.fns[f]? =some x->∃fa fd ps k,FnOk X.prog X.w X.K X.mg X.base (pH X.prog X.w) k fa fd ps (tE X.K ca (cl f) ps.length)/\Room k X.A/\X.mg x=some (.ref fa)/\W.keepIn X.K (.ref fa)=true/\Binds X.K fd ps []/\∀ds h,cl f ds h≠ .bad->ds.length=ps.length
 cst:∀(g:Nat)(x:Str)(d:D),G.csts[g]? =some (x,d)->∃v u,X.mg x=some u/\RelV v u/\∀m H,RD X.K m H d v
 blt:∀f:Blt,X.mg f.nm=none
 ty:∀t:Ty,X.mg (Str.ofString t.nm)=none
 exc:∀(c:Nat)(x:Str),G.excs[c]? =some x->X.mg x=some (.ref (ca c))/\ExcF X.K (ca c)
 sub:∀p∈G.sub,W.exmOne X.K (.ref (ca p.1)) (.ref (ca p.2))=some true/\W.kitOne X.K (.ref (ca p.1)) (.ref (ca p.2))=some true/\ExcF X.K (ca p.1)
 nsub:∀p∈G.nsub,W.kitOne X.K (.ref (ca p.1)) (.ref (ca p.2))=some false/\ExcN X.K (ca p.1)
 verr:X.mg "ValueError"=none
 c:COk X G ca cl
section
variable {X:Cx}
theorem RB(op:Bop):jI X (binaryOp op.op) (rD X.K (cQ op)):=by
 intro pins s σ H x y v u Q I rx ry q;obtain⟨m,h,dx,dy,d,h',w,r1,r2,e,c⟩:=q;have fin:∀z,RD X.K m H d z->h=h'->Q z H:=λz rz eh=>by subst eh;exact c m z H Gr.refl w rz
 cases op with
 |add=>
  have k:(∃i j,dx=.int i/\dy=.int j)\/(∃a b,dx=.str a/\dy=.str b)\/(∃a b,dx=.tup a/\dy=.tup b)\/∃a b,dx=.ref a/\dy=.ref b:=by
   cases dx<;>first |(cases e;done)|skip
   ·exact .inl ⟨_,(by cases dy<;>first |(cases e;done)|exact⟨_,rfl,rfl⟩)⟩
   ·exact .inr (.inl ⟨_,(by cases dy<;>first |(cases e;done)|exact⟨_,rfl,rfl⟩)⟩)
   ·exact .inr (.inr (.inl ⟨_,(by cases dy<;>first |(cases e;done)|exact⟨_,rfl,rfl⟩)⟩))
   ·exact .inr (.inr (.inr ⟨_,(by cases dy<;>first |(cases e;done)|exact⟨_,rfl,rfl⟩)⟩))
  rcases k with ⟨i,j,rfl,rfl⟩|⟨a,b,rfl,rfl⟩|⟨a,b,rfl,rfl⟩|⟨a,b,rfl,rfl⟩
  ·cases r1;cases r2;cases e;exact MM pins s σ H _ _ v u Q I rx ry ⟨_,_,rfl,rfl,fin _ (.int _) rfl⟩
  ·cases r1;cases r2;have e':(if a.length+b.length<=sizeLine then Rs.ok (D.str (a++b)) h else .bad)=.ok d h':=e;split at e'
   ·rename_i hz;cases e';exact mM pins s σ H _ _ v u Q I rx ry ⟨_,_,rfl,rfl,hz,fin _ (.str _) rfl⟩
   ·cases e'
  ·have e':(if a.length+b.length<=1000/\0<a.length/\0<b.length then Rs.ok (D.tup (a++b)) h else .bad)=.ok d h':=e;split at e'
   ·rename_i hz;cases e';cases r1 with
    |tup h1 q1=>
     cases r2 with
     |tup h2 q2=>
      have l1:=q1.length;have l2:=q2.length;refine FE pins s σ H _ _ v u Q I rx ry ⟨_,_,_,_,rfl,rfl,h1,h2,(λz=>by rw[z,List.length_nil] at l1;omega),Nat.le_trans (by omega) (show 1000<=sizeLine by decide),(λz=>by rw[z,List.length_nil] at l2;omega),λ_ p hp=>?_⟩;exact c m _ _ (Gr.tupNew hp) (w.keepNew hp) (.tup (.of aS) ((q1.append q2).mono (Gr.tupNew hp)))
   ·cases e'
  ·have e':(match h[a]?,h[b]? with|some (.lst x),some (.lst y)=>(if x.length+y.length<=1000 then Rs.ok (D.ref h.length) (h++ [O.lst (x++y)]) else .bad)|_,_=>.bad)=.ok d h':=e;split at e'
   ·rename_i la lb ea eb;split at e'
    ·rename_i hz;cases e';cases r1 with
     |ref m1=>
      cases r2 with
      |ref m2=>
       obtain⟨vs,hv,q1⟩:∃vs,H _=some (.lst vs)/\RDs X.K m H la vs:=w.ob a _ _ ea m1;obtain⟨us,hu,q2⟩:∃vs,H _=some (.lst vs)/\RDs X.K m H lb vs:=w.ob b _ _ eb m2;have l1:=q1.length;have l2:=q2.length;refine ML pins s σ H _ _ v u Q I rx ry ⟨_,_,_,_,rfl,rfl,hv,hu,Nat.le_trans (by omega) (show 1000<=sizeLine by decide),λp hp=>?_⟩;obtain⟨w2,g2⟩:=w.lstNew hp (q1.append q2);exact c _ _ _ g2 w2 (.ref (by rw[<- w.len];simp))
    ·cases e'
   ·cases e'
 |sub=>
  obtain⟨i,rfl⟩:∃i,dx=.int i:=by cases dx<;>first |exact⟨_,rfl⟩|(cases e;done)
  obtain⟨j,rfl⟩:∃j,dy=.int j:=by cases dy<;>first |exact⟨_,rfl⟩|(cases e;done)
  cases r1;cases r2;cases e;exact MG pins s σ H _ _ v u Q I rx ry ⟨_,_,rfl,rfl,fin _ (.int _) rfl⟩
 |mul=>
  cases dx<;>first |(cases e;done)|skip
  all_goals (cases dy<;>first |(cases e;done)|skip)
  rotate_left
  ·rename_i z j;have e':(if 0<=j/\j<=1000/\z.length<=1000 then Rs.ok (D.str (Txt.mul z j)) h else .bad)=.ok d h':=e;split at e'<;>first |(cases e';done)|skip
   rename_i hz;cases e';cases r1;cases r2;obtain⟨t,rfl⟩:=rx;obtain⟨t',rfl⟩:=ry;refine SB.mul ⟨by rw[decide_eq_false (by omega),decide_eq_false (by omega)];rfl,λh1 _=>?_,λ_ _=>?_⟩ λt' k=>⟨.str _,H,I.tok _,⟨_,rfl⟩,c _ _ _ Gr.refl w (.str _)⟩
   ·have:(1000:Int)<=(2^63-1)/j:=Int.le_ediv_of_mul_le (by omega) (by omega);omega
   ·have:z.length*j.toNat<=1000*1000:=Nat.mul_le_mul hz.2.2 (by omega);exact decide_eq_false (by rw[sizeLine_eq];omega)
  rename_i i j;cases r1;cases r2;have e':(if(-(2^64)<i/\i<2^64)\/(-(2^64)<j/\j<2^64) then Rs.ok (D.int (i*j)) h else .bad)=.ok d h':=e;split at e'
  ·rename_i hz;cases e';exact MI pins s σ H _ _ v u Q I rx ry ⟨_,_,rfl,rfl,hz,fin _ (.int _) rfl⟩
  ·cases e'
 |fdiv=>
  obtain⟨i,rfl⟩:∃i,dx=.int i:=by cases dx<;>first |exact⟨_,rfl⟩|(cases e;done)
  obtain⟨j,rfl⟩:∃j,dy=.int j:=by cases dy<;>first |exact⟨_,rfl⟩|(cases e;done)
  cases r1;cases r2;have e':(if 0<j/\j<1073741824 then Rs.ok (D.int (i/j)) h else .bad)=.ok d h':=e;split at e'
  ·rename_i hz;cases e';exact FD pins s σ H _ _ v u Q I rx ry ⟨_,_,rfl,rfl,hz,fin _ (.int _) rfl⟩
  ·cases e'
 |mod=>
  obtain⟨i,rfl⟩:∃i,dx=.int i:=by cases dx<;>first |exact⟨_,rfl⟩|(cases e;done)
  obtain⟨j,rfl⟩:∃j,dy=.int j:=by cases dy<;>first |exact⟨_,rfl⟩|(cases e;done)
  cases r1;cases r2;have e':(if 0<j then Rs.ok (D.int (i%j)) h else .bad)=.ok d h':=e;split at e'
  ·rename_i hz;cases e';exact MJ pins s σ H _ _ v u Q I rx ry ⟨_,_,rfl,rfl,hz,fin _ (.int _) rfl⟩
  ·cases e'
 |pow=>
  obtain⟨i,rfl⟩:∃i,dx=.int i:=by cases dx<;>first |exact⟨_,rfl⟩|(cases e;done)
  obtain⟨j,rfl⟩:∃j,dy=.int j:=by cases dy<;>first |exact⟨_,rfl⟩|(cases e;done)
  cases r1;cases r2;have e':(if 0<=j/\j<=1000000/\i.natAbs<2^64 then Rs.ok (D.int (i^j.toNat)) h else .bad)=.ok d h':=e;split at e'
  ·rename_i hz;cases e';exact MH pins s σ H _ _ v u Q I rx ry ⟨_,_,rfl,rfl,hz,fin _ (.int _) rfl⟩
  ·cases e'
theorem lN{f:D->D->Option Bool}:∀{a b:List D}{k:Bool},nZ f a b=some k->∃e:Nat->Bool,(∀j x y,a[j]? =some x->b[j]? =some y->f x y=some (e j))/\k=((List.range (min a.length b.length)).all e&&a.length==b.length)
 | [],[],k,h=>by
   simp[nZ] at h;exact⟨λ_=>true,λj x y e=>by simp at e,by simp[h.symm]⟩
 | [],_::_,k,h=>by
   simp[nZ] at h;exact⟨λ_=>true,λj x y e=>by simp at e,by simp[h.symm]⟩
 |_::_,[],k,h=>by
  simp[nZ] at h;exact⟨λ_=>true,λj x y _ e=>by simp at e,by simp[h.symm]⟩
 |x::xs,y::ys,k,h=>by
  simp only[nZ] at h;split at h
  ·rename_i a b h1 h2;obtain⟨e,p,q⟩:=lN h2
   refine⟨λj=>match j with
    |0=>a
    |j+1=>e j,λj x' y' e1 e2=>?_,?_⟩
   ·cases j with
    |zero=>simp at e1 e2;subst e1;subst e2;exact h1
    |succ j=>exact p j x' y' (by simpa using e1) (by simpa using e2)
   ·have h':(a&&b)=k:=Zg h;rw[<- h',q];simp only[List.length_cons,Nat.succ_min_succ,List.range_succ_eq_map,List.all_cons,List.all_map];rw[show((xs.length+1==ys.length+1):Bool)=(xs.length==ys.length) by simp];rw[Bool.and_assoc];rfl
  ·cases h
theorem CI{pins:List (Addr×Obj)}{σ:Sg}{H:Hp}{s:Shared}{m:List Addr}(I:Inv X pins σ H s):∀(n:Nat){d d':D}{v:V}{b:Bool},RD X.K m H d v->RD X.K m H d' v->iK n d d'=some b->b=true:=by
 intro n
 induction n with
 |zero=>
  intro d d' v b r r' e;cases r<;>cases r'<;>simp[iK] at e<;>exact e
 |succ n ih=>
  intro d d' v b r r' e;cases r<;>cases r'<;>first |(simp[iK] at e;exact e)|(simp[iK] at e;done)|skip
  rename_i a ds vs h1 q1 ds' vs' q2 h2;obtain rfl:=I.tuple_inj h1 h2
  have go:∀{ds ds':List D}{vs:List V}{b:Bool},RDs X.K m H ds vs->RDs X.K m H ds' vs->nZ (iK n) ds ds'=some b->b=true:=by
   intro ds
   induction ds with
   |nil=>
    intro ds' vs b q1 q2 e;cases q1;cases q2;simp[nZ] at e;exact e
   |cons x xs ih2=>
    intro ds' vs b q1 q2 e;cases q1 with
    |cons p1 t1=>
     cases q2 with
     |cons p2 t2=>
      simp only[nZ] at e;split at e
      ·rename_i k1 k2 z1 z2;have:=ih p1 p2 z1;have:=ih2 t1 t2 z2
       subst_vars
       simpa using e.symm
      ·cases e
  exact go q1 q2 (by simpa [iK] using e)
theorem CJ{pins:List (Addr×Obj)}{σ:Sg}{H:Hp}{s:Shared}{m:List Addr}(I:Inv X pins σ H s):∀(n:Nat){A:Around}{d d':D}{v v':V}{u u':Value}{b:Bool},A.units+n<cLine->RD X.K m H d v->RD X.K m H d' v'->RelV v u->RelV v' u'->iK n d d'=some b->SeqAt.EqAt A s u u' b:=by
 intro n
 induction n with
 |zero=>
  intro A d d' v v' u u' b hu r r' q q' e;cases r<;>cases r'<;>first |(simp[iK] at e;done)|skip
  all_goals simp[iK] at e
  all_goals subst e
  all_goals first
   |(have h:=uH (A:=A) (s:=s) q q' rfl rfl;simpa [CF] using h)
 |succ n ih=>
  intro A d d' v v' u u' b hu r r' q q' e;cases r<;>cases r'<;>first |(simp[iK] at e;done)|skip
  all_goals first
   |(simp[iK] at e;subst e;have h:=uH (A:=A) (s:=s) q q' rfl rfl;simpa [CF] using h)
   |skip
  rename_i a ds vs h1 q1 a' ds' vs' h2 q2;cases q;cases q'
  by_cases ha:a=a'
  ·subst ha;have:=CI I (n+1) (.tup h1 q1) (.tup h2 q2) e;subst this;exact SeqAt.EqAt.same _
  ·obtain⟨its,p1,t1,_⟩:=I.tuple h1;obtain⟨its',p2,t2,_⟩:=I.tuple h2;obtain⟨f,hf,rfl⟩:=lN (show nZ (iK n) ds ds'=some b from by simpa [iK] using e);have l1:=q1.length;have l2:=q2.length;have l3:=p1.length;have l4:=p2.length
   have key:=SeqAt.RcAt.tuples (A:=A) (e:=f) t1 t2 (by omega) (λj j1 j2=>by
    have j1':j<its.length:=by simpa using j1
    have j2':j<its'.length:=by simpa using j2
    have e1:ds[j]? =some ds[j]:=Zd (by omega);have e2:ds'[j]? =some ds'[j]:=Zd (by omega);obtain⟨x,hx,rx⟩:=q1.get e1;obtain⟨y,hy,ry⟩:=q2.get e2;obtain⟨ux,hux,sx⟩:=p1.get hx;obtain⟨uy,huy,sy⟩:=p2.get hy
    have z1:its.toArray[j]=ux:=by
     have:=Ze.mp hux;obtain⟨_,z⟩:=this;simpa using z
    have z2:its'.toArray[j]=uy:=by
     have:=Ze.mp huy;obtain⟨_,z⟩:=this;simpa using z
    rw[z1,z2];exact ih (A:=A.in1) (by show A.units+1+n<cLine;omega) rx ry sx sy (hf j _ _ e1 e2))
   refine SeqAt.EqAt.of_refs ha ?_;have el:its.toArray.size=ds.length:=by simp;omega
   have el':its'.toArray.size=ds'.length:=by simp;omega
   rw[el,el'] at key;exact key
end
section
variable {prog:Program}{w:World}{A:Around}{E:Value->Shared->Prop}{s:Shared}{it d:Addr}{i n ep:Nat}{q1 q2:Value}{od:Obj}{es:Array DictEntry}
theorem tM:Builtin.Dict_items.ownsTuple "dict_itemiterator"=true:=by decide
theorem rY{v:Addr}{ov:Obj}{Q:Value->Shared->Prop}(gv:s.heap.get? v=some ov)(cv:ov.cls=.type "dict_items")(dv:ov.data=.fields #[.ref d])(go:s.heap.get? d=some od)(gd:od.data=.dict es ep)
 (c:Q (.ref s.heap.objs.size) {s with heap:=s.heap.push {cls:=.type "dict_itemiterator",data:=.fields #[.none,.bool false,.ref d,.int 0 0,.int es.size 0,.int ep 0,.none,.none]}}):wpAny (model prog w) A (pyIter (.ref v)) Q E s:=by
 have tv:s.TypeIs (.ref v) "dict_items":=⟨ov,gv,cv⟩;refine wpAny_pyIter_slot tv F.slot_dict_items_iter (wpAny_call_entry F.slot_dict_items_iter tv F.entry_dict_items_iter ?_ (F.args_dict_items_iter_1 _));unfold Builtin.«dict_items.__iter__»;refine Za (Zb (Za ?_));unfold Builtin.Dict_items.dictOf;refine Za (wpAny_field gv dv (x:=.ref d) rfl (Zb (Za ?_)));unfold Builtin.Dict_items.newIterator;refine Za (wpAny_dictEntries go gd (Za (wpAny_dictEpoch go gd ?_)));simp only[tM,if_true]
 refine wpAny_newObj_type (Zb ⟨_,rfl,"dict_itemiterator",_,⟨_,Heap.get?_push_size _ rfl,rfl⟩,F.slot_dict_itemiterator_next.lookup,?_⟩)
  (by simp only[sizeOk,Builtin.Dict_items.ownedTupleFields,Zk,List.length_append,List.length_cons,List.length_nil,sizeLine_eq];omega)
 simpa [rawInt,Builtin.Dict_items.ownedTupleFields] using c
theorem rX{en:DictEntry}{Q:Option Value->Shared->Prop}(hit:IsItemIter s.heap it d i n ep q1 q2)(go:s.heap.get? d=some od)(gd:od.data=.dict es ep)(hn:es.size=n)(hx:es[i]? =some en)
 (c:∀g,IsItemIterOut g it d (i+1) n ep en.key en.val s.heap.objs.size->g.get? s.heap.objs.size=some {cls:=.type "tuple",data:=.seq #[en.key,en.val]}->g.objs.size=s.heap.objs.size+1->
   (∀b o,b≠it->s.heap.get? b=some o->g.get? b=some o)->Q (some (.ref s.heap.objs.size)) {s with heap:=g}):wpAny (model prog w) A (pyNext (.ref it)) Q E s:=by
 obtain⟨hp,gn,dr,tk,os⟩:=s;have T0:Shared.TypeIs ⟨hp,gn,dr,tk,os⟩ (.ref it) "dict_itemiterator":=⟨_,hit,rfl⟩;unfold pyNext;refine Za (wpAny_attempt (wpAny_callSpecial?_slot (name:=Str.ofString "__next__") T0 F.slot_dict_itemiterator_next (wpAny_call_entry F.slot_dict_itemiterator_next T0 F.entry_dict_itemiterator_next ?_ (F.args_dict_itemiterator_next_1 _))));refine Za (Zb (Za (Za ?_)))
 first |refine Za (wpAny_typeNameOfWhole_itemiter T0 (Zb ?_))|refine Za (wpAny_typeNameOf_itemiter T0 (Zb ?_))
 refine Za (wpAny_fieldsOf hit rfl ?_);simp only[tM,if_true];show wpAny _ _ (if(Value.ref d==Value.none)=true then _ else _) _ _ _;rw[if_neg (show ¬((Value.ref d==Value.none)=true) from Bool.false_ne_true)];refine Za (Zb (Za (wpAny_dictEntries go gd ?_)));rw[if_neg (by rw[hn];simp)];refine Za (Zb (Za (wpAny_dictEpoch go gd ?_)));rw[if_neg (by simp)];refine Zb ?_;have lt:i<es.size:=(Array.getElem?_eq_some_iff.mp hx).1;have ee:es[i]=en:=(Array.getElem?_eq_some_iff.mp hx).2;simp only[show ¬((i:Int)<0) from by omega,if_false,Int.toNat_natCast,hx];refine Za ?_
 first |refine Za (wpAny_typeNameOfWhole_itemiter T0 (Zb ?_))|refine Za (wpAny_typeNameOf_itemiter T0 (Zb ?_))
 refine Za (wpAny_isOneOf_itemiter T0 ?_);show wpAny _ _ (setField (.ref it) 3 (rawInt ((i:Int)+1))>>=_) _ _ ⟨hp,gn,dr,tk,os⟩;refine Za (wpAny_setField_rec hit (by simp) λa1 e1 s1=>?_)
 replace s1:Heap.SameBut it hp a1:=s1
 replace e1:IsItemIter a1 it d (i+1) n ep q1 q2:=by
  have z:((i+1:Nat):Int)=(i:Int)+1:=by omega
  unfold IsItemIter;rw[z];simpa [rawInt] using e1
 have T1:Shared.TypeIs ⟨a1,gn,dr,tk,os⟩ (.ref it) "dict_itemiterator":=⟨_,e1,rfl⟩;refine Za (wpAny_holding (Za (wpAny_isOneOf_itemiter T1 (Za (wpAny_isOneOf_itemiter T1 ?_)))));show wpAny _ _ (Builtin.Dict_items.pairFromOwner (.ref it) 6 en.key en.val) _ _ ⟨a1,gn,dr,tk,os⟩;unfold Builtin.Dict_items.pairFromOwner;refine Za (wpAny_newTuple ?_);have e2:IsItemIter (a1.push {cls:=.type "tuple",data:=.seq #[en.key,en.val]}) it d (i+1) n ep q1 q2:=Zf _ e1;generalize h2:a1.push {cls:=.type "tuple",data:=.seq #[en.key,en.val]}=a2 at e2;have z1:a1.objs.size=hp.objs.size:=s1.1;have il:it<hp.objs.size:=Heap.lt_size hit;have t2:a2.get? hp.objs.size=some {cls:=.type "tuple",data:=.seq #[en.key,en.val]}:=by rw[<- h2, <- z1];exact Heap.get?_push_size _ rfl
 have z2:a2.objs.size=hp.objs.size+1:=by rw[<- h2,Heap.size_push,z1]
 have k2:∀b o,b≠it->hp.get? b=some o->a2.get? b=some o:=λb o hb e=>by rw[<- h2];exact Zf _ (s1.extBut b o hb e)
 show wpAny _ _ (Builtin.Dict_items.ownedTupleIsFree (.ref it)>>=_) _ _ ⟨a2,gn,dr,tk,os⟩;rw[z1];clear h2 e1 s1 T1 z1 a1;refine Za ?_;unfold Builtin.Dict_items.ownedTupleIsFree;refine Za (wpAny_field e2 rfl (x:=.none) rfl (Zb ?_));simp only[if_true];refine Za (wpAny_field e2 rfl (x:=q1) rfl (Za (wpAny_field e2 rfl (x:=q2) rfl ?_)));refine Za (wpAny_setField_rec e2 (by simp) λa3 e3 s3=>?_)
 replace s3:Heap.SameBut it a2 a3:=s3
 replace e3:IsItemIter a3 it d (i+1) n ep en.key q2:=e3
 refine Za (wpAny_setField_rec e3 (by simp) λa4 e4 s4=>?_)
 replace s4:Heap.SameBut it a3 a4:=s4
 replace e4:IsItemIter a4 it d (i+1) n ep en.key en.val:=e4
 refine Za (wpAny_setField_rec e4 (by simp) λa5 e5 s5=>?_)
 replace s5:Heap.SameBut it a4 a5:=s5
 replace e5:IsItemIterOut a5 it d (i+1) n ep en.key en.val hp.objs.size:=e5
 refine Za (wpAny_setField_rec e5 (by simp) λa6 e6 s6=>?_)
 replace s6:Heap.SameBut it a5 a6:=s6
 replace e6:IsItemIterOut a6 it d (i+1) n ep en.key en.val hp.objs.size:=e6
 refine Za (wpAny_letGo (Zb (Zb ⟨_,rfl,Zb (c a6 e6 ?_ ?_ ?_)⟩)))
 ·exact s6.extBut _ _ (Nat.ne_of_gt il) (s5.extBut _ _ (Nat.ne_of_gt il) (s4.extBut _ _ (Nat.ne_of_gt il) (s3.extBut _ _ (Nat.ne_of_gt il) t2)))
 ·show a6.objs.size=hp.objs.size+1;rw[s6.1,s5.1,s4.1,s3.1,z2]
 ·exact λb o hb e=>s6.extBut b o hb (s5.extBut b o hb (s4.extBut b o hb (s3.extBut b o hb (k2 b o hb e))))
theorem vU{Q:Option Value->Shared->Prop}(hh:A.handled=none)(hit:IsItemIter s.heap it d i n ep q1 q2)(go:s.heap.get? d=some od)(gd:od.data=.dict es ep)(hn:es.size=n)(hx:n<=i)
 (c:∀g,Heap.ExtBut it s.heap g->Q none {s with heap:=g}):wpAny (model prog w) A (pyNext (.ref it)) Q E s:=by
 have T0:s.TypeIs (.ref it) "dict_itemiterator":=⟨_,hit,rfl⟩;unfold pyNext;refine Za (wpAny_attempt (wpAny_callSpecial?_slot (name:=Str.ofString "__next__") T0 F.slot_dict_itemiterator_next (wpAny_call_entry F.slot_dict_itemiterator_next T0 F.entry_dict_itemiterator_next ?_ (F.args_dict_itemiterator_next_1 _))));refine Za (Zb (Za (Za ?_)))
 first |refine Za (wpAny_typeNameOfWhole_itemiter T0 (Zb ?_))|refine Za (wpAny_typeNameOf_itemiter T0 (Zb ?_))
 refine Za (wpAny_fieldsOf hit rfl ?_);simp only[tM,if_true];show wpAny _ _ (if(Value.ref d==Value.none)=true then _ else _) _ _ s;rw[if_neg (show ¬((Value.ref d==Value.none)=true) from Bool.false_ne_true)];refine Za (Zb (Za (wpAny_dictEntries go gd ?_)));rw[if_neg (by rw[hn];simp)];refine Za (Zb (Za (wpAny_dictEpoch go gd ?_)));rw[if_neg (by simp)];refine Zb ?_;have ge:es.size<=i:=by omega
 simp only[show ¬((i:Int)<0) from by omega,if_false,Int.toNat_natCast,Array.getElem?_eq_none ge];refine Za ?_
 first |refine Za (wpAny_typeNameOfWhole_itemiter T0 (Zb ?_))|refine Za (wpAny_typeNameOf_itemiter T0 (Zb ?_))
 show wpAny _ _ (setField (.ref it) 2 .none>>=_) _ _ s;refine Za (wpAny_setField hit rfl (by simp) ?_);show wpAny _ _ (newExc (.type "StopIteration") []>>=_) _ _ _;refine Za ?_;simp only[newExc,newTuple];refine Za (wpAny_newObj_type ?_ (by size_fits));refine Za (m:=firstArgMember _ _) (wpAny_of_eq (a:=Value.none) (by first |rfl|(simp only[firstArgMember];rfl)) ?_);refine wpAny_newObj_type ?_ (by size_fits);simp only[raiseNew];refine Za (wpAny_handled ?_);rw[show A.in1.handled=none from hh];refine Za (Zb (wpAny_throw ?_));refine Za (wpAny_isInstance (T:="StopIteration") (b:=true) ⟨_,Heap.get?_push_size _ rfl,rfl⟩ isSubtype_stop ?_);exact Zb (c _ (((Heap.SameBut.update ..).extBut.push _).push _))
end
theorem nJ(P P':Program)(w w':World):entryOfKey (tupleKind (intKind P w))=entryOfKey (tupleKind (intKind P' w')):=rfl
theorem BE{P:Program}{w:World}:∀{ks:List Int}{us:List Value},Vals (ks.map V.int) us->ItemsAre (intKind P w) ks us
 | [],_,.nil=>.nil
 |k::ks,_,.cons h t=>by
  obtain⟨tk,rfl⟩:=h;exact .cons (by show Value.isInt k (.int k tk)=true;simp[Value.isInt]) (BE t)
section
variable {X:Cx}{pins:List (Addr×Obj)}{σ:Sg}{H:Hp}{s:Shared}
theorem tW(I:Inv X pins σ H s){b:Addr}{k:List Int}(h:SqT X.K H b (k.map V.int)):(tupleKind (intKind X.prog X.w)).is s.heap k b:=by
 obtain⟨its,p,t,_⟩:=I.tuple h;obtain⟨o,h1,h2,n,h3⟩:=t;exact⟨o,its.toArray,n,h1,h2,h3,by simpa using BE p⟩
theorem pG{xs:List (List Int×Addr×Value)}{k:List Int}:(atKey xs k).isSome=xs.any λx=>decide (x.1=k):=by
 induction xs with
 |nil=>rfl
 |cons x xs ih=>
  by_cases e:x.1=k
  ·simp[atKey,List.find?_cons,e]
  ·have:atKey (x::xs) k=atKey xs k:=by simp[atKey,List.find?_cons,e]
   rw[this,ih];simp[e]
theorem nT{α:Type}{l:List (List Int×α)}{xs:List (List Int×Addr×Value)}{k:List Int}(h:l.map (·.1)=xs.map (·.1)):l.any (λkv=>decide (kv.1=k))=xs.any λx=>decide (x.1=k):=by
 have a:l.any (λkv=>decide (kv.1=k))=(l.map (·.1)).any λy=>decide (y=k):=by rw[List.any_map];rfl
 have b:(xs.any λx=>decide (x.1=k))=(xs.map (·.1)).any λy=>decide (y=k):=by rw[List.any_map];rfl
 rw[a,b,h]
theorem qS(k:List Int):∀l:List (List Int×D),(wX l k).isSome=l.any λkv=>decide (kv.1=k)
 | []=>rfl
 |p::l=>by
  have ih:=qS k l;unfold wX at ih⊢;rw[List.find?_cons,List.any_cons]
  by_cases e:p.1=k
  ·rw[decide_eq_true e];rfl
  ·rw[decide_eq_false e];simpa using ih
theorem qR{K:W.Frag}{m:List Addr}{k:List Int}{d:D}:∀{ds:List (List Int×D)}{xs:List (List Int×Addr×Value)}{us:List V},ds.map (·.1)=xs.map (·.1)->RDs K m H (ds.map (·.2)) us->Vals us (xs.map (·.2.2))->wX ds k=some d->∃v p,RD K m H d v/\atKey xs k=some p/\RelV v p.2
 | [],_,_,_,_,_,e=>by cases e
 |_::_,[],_,h,_,_,_=>by cases h
 |q::ds,x::xs,us,h,r,p,e=>by
  cases r with
  |cons r1 r=>
   cases p with
   |cons p1 p=>
    obtain⟨h1,h2⟩:=List.cons.inj (show q.1::ds.map (·.1)=x.1::xs.map (·.1) from h);unfold wX at e;rw[List.find?_cons] at e
    by_cases z:q.1=k
    ·rw[decide_eq_true z] at e;have e':q.2=d:=Zg e;subst e';have z':x.1=k:=by rw[<- h1];exact z
     exact⟨_,x.2,r1,by simp[atKey,List.find?_cons,z'],p1⟩
    ·rw[decide_eq_false z] at e;have z':¬x.1=k:=by rw[<- h1];exact z
     have:atKey (x::xs) k=atKey xs k:=by simp[atKey,List.find?_cons,z']
     rw[this];exact qR h2 r p e
theorem kP{K:W.Frag}{m:List Addr}:∀{ds:List D}{vs:List V}{l:List Int},RDs K m H ds vs->rZ ds=some l->vs=l.map V.int
 |_,_,_,.nil,e=>by cases e;rfl
 |_,_,_,.cons r t,e=>by
  cases r<;>first |(cases e;done)|skip
  simp only[rZ,Option.map_eq_some_iff] at e;obtain⟨l',e1,rfl⟩:=e;rw[kP t e1];rfl
theorem qF(I:Inv X pins σ H s){m:List Addr}{h:Hh}(w:Wd X.K m h H){x:D}{v:V}{l:List (List Int×D)}(r:RD X.K m H x v)(e:eY h x=some l):
 ∃n a xs us o es ep,x=.ref n/\v=.ref a/\h[n]? =some (.dtf l)/\m[n]? =some a/\H a=some (.frz o (.own a))/\Dfo a xs o es ep/\s.heap.get? a=some o/\l.map (·.1)=xs.map (·.1)/\(∀x∈xs,SqT X.K H x.2.1 (x.1.map V.int))/\RDs X.K m H (l.map (·.2)) us/\Vals us (xs.map (·.2.2))/\s.heap.DictOfH (tupleKind (intKind X.prog X.w)) a xs:=by
 cases r<;>first |(cases e;done)|skip
 rename_i n a ha;simp only[eY] at e;split at e
 ·rename_i l' el;cases e;obtain⟨xs,us,o,es,ep,q1,q2,q3,q4,q5,q6⟩:RO X.K m H a (.dtf l):=w.ob n _ a el ha;have go:s.heap.get? a=some o:=(show ObjOk X.prog X.w H s.heap a (.frz o (.own a)) from I.hok a _ q1).1;obtain⟨d1,d2,d3,d4,⟨P,w',d5⟩,d6⟩:=id q2;exact⟨n,a,xs,us,o,es,ep,rfl,rfl,el,ha,q1,q2,go,q3,q4,q5,q6,o,es,ep,go,d3,d4,d5.trans (by rw[nJ P X.prog w' X.w]),λx hx=>tW I (q4 x hx),d6⟩
 ·cases e
theorem tQ{prog:Program}{w:World}(d:Addr)(hd:(d==sysModules)=false):MeetsIn prog w (Builtin.«dict.__len__» ⟨[.ref d],[]⟩) (λ_ R s=>∃o es ep,s.heap.get? d=some o/\o.data=.dict es ep/\R (.ok (.ret (.int es.size s.toks))) {s with toks:=s.toks+1}):=
 .of_wp λA R s ⟨o,es,ep,ho,hdat,h⟩=>by
  show wpAny _ _ (dictSize d>>=_) _ _ s;unfold dictSize;refine Za (Za (wpAny_dictEntries ho hdat (Zb ?_)));show wpAny _ _ (Builtin.Dict.pendingCount d>>=_) _ _ s;refine Za (wpAny_pendingCount_other hd (wpAny_ret_mkInt ?_));rw[Nat.add_zero];exact h
theorem yN{prog:Program}{w:World}{A:Around}{E:Value->Shared->Prop}{s:Shared}{d:Addr}{o:Obj}{es:Array DictEntry}{ep:Nat}{Q:Value->Shared->Prop}(hd:(d==sysModules)=false)(ho:s.heap.get? d=some o)(hx:o.ExactDict)(hdat:o.data=.dict es ep)(hfit:(es.size:Int)<2^63)
 (h:Q (.int es.size (s.toks+1)) {s with toks:=s.toks+1+1}):wpAny (model prog w) A (call (.builtin "len") [.ref d]) Q E s:=by
 have ty:s.TypeIs (.ref d) "dict":=⟨o,ho,hx.1⟩;refine Calls.call_function_entry kind_len plain_len entry_len (args_len1 _) ?_;unfold Builtin.«len»;refine Za (m:=oneArg "len" _) (Zb ?_);refine Za (m:=callSpecial? (.ref d) (Str.ofString "__len__")) (wpAny_callSpecial?_slot (name:=Str.ofString "__len__") ty F.slot_dict_len (call_meetsIn F.slot_dict_len ty F.entry_dict_len (F.args_dict_len_1 _) (tQ d hd) ⟨o,es,ep,ho,hdat,?_⟩));show wpAny _ _ _ _ _ {s with toks:=s.toks+1};refine Za (wpAny_holding (Zb (Za (wpAny_letGo ?_))));show wpAny _ _ (if((es.size:Nat):Int)<0 then _ else _) _ _ _;rw[if_neg (by omega)];show wpAny _ _ (if((es.size:Nat):Int) ≥ 2^63 then _ else _) _ _ _;rw[if_neg (by omega)];exact Za (wpAny_mkInt (Zb ⟨_,rfl,h⟩))
end
inductive CT (A:Around) (s:Shared) (x:Value):List Value->Bool->Prop where
 |nil:CT A s x [] false
 |hit {y:Value} {ys:List Value} (h:SeqAt.EqAt A s y x true):CT A s x (y::ys) true
 |mis {y:Value} {ys:List Value} {b:Bool} (h:SeqAt.EqAt A s y x false) (r:CT A s x ys b):CT A s x (y::ys) b
section
open PySem.SeqAt
open PySem.AutoSeq1 (wpAny_loadPart')
open PySem.MeetsSeq PySem.MeetsSeq2 PySem.MeetsSeq3
theorem HC(l:Addr)(items:Array Value)(n:Nat)(dd:Option Addr)(sl:Array (Option Value))(x:Value){b:Bool}:∀(m i:Nat),items.size-i=m->Meets (Builtin.«list.__contains__.loop» ⟨[.ref l,x,rawInt i],[]⟩)
 (λA R s=>s.heap.get? l=some {cls:=.type "list",dict:=dd,data:=.seq items n,slots:=sl}/\CT A.in1 s x (items.toList.drop i) b/\R (.ok (.ret (.bool b))) s):=by
 intro m
 induction m with
 |zero=>
  intro i hk prog w A R s h;obtain⟨hp,g,d,tk,os⟩:=s;obtain⟨hl,hf,h⟩:=h
  wp_walk using wpAny_loadPart' hl
  have hi:items[((i:Nat):Int).toNat]? =none:=by simp;omega
  have hd:items.toList.drop i=[]:=by simp;omega
  rw[hd] at hf;cases hf;rw[hi]
  wp_walk
  exact h
 |succ m ih=>
  intro i hk prog w A R s h;obtain⟨hp,g,d,tk,os⟩:=s;obtain⟨hl,hf,h⟩:=h;have lt:i<items.size:=by omega
  have d1:items.toList.drop i=items[i]::items.toList.drop (i+1):=by rw[List.drop_eq_getElem_cons (by simpa using lt)];simp
  have hi:items[((i:Nat):Int).toNat]? =some items[i]:=by simp[lt]
  have hc:((i:Int)+1)=((i+1:Nat):Int):=by push_cast;rfl
  wp_walk using wpAny_loadPart' hl
  rw[hi];rw[d1] at hf;cases hf with
  |hit he=>
   refine Za (he prog w _ _ ?_)
   wp_walk
   exact h
  |mis he r=>
   refine Za (he prog w _ _ ?_)
   wp_walk
   rw[hc]
   exact⟨plainId_quiet plain_contains_loop _,codeAny_builtin entry_contains_loop (by
    rw[Around.under_plainId plain_contains_loop _];exact ih (i+1) (by omega) prog w A R _ ⟨hl,r,h⟩)⟩
theorem HE(l:Addr)(items:Array Value)(n:Nat)(dd:Option Addr)(sl:Array (Option Value))(x:Value){b:Bool}:Meets (Builtin.«list.__contains__» ⟨[.ref l,x],[]⟩)
 (λA R s=>s.heap.get? l=some {cls:=.type "list",dict:=dd,data:=.seq items n,slots:=sl}/\CT A.in1 s x items.toList b/\R (.ok (.ret (.bool b))) s):=by
 intro prog w A R s h;obtain⟨hp,g,d,tk,os⟩:=s;obtain⟨hl,hf,h⟩:=h
 wp_walk using wpAny_loadPart' hl
 exact⟨plainId_quiet plain_contains_loop _,codeAny_builtin entry_contains_loop (by
  rw[Around.under_plainId plain_contains_loop _];exact HC l items n dd sl x _ 0 rfl prog w A R _ ⟨hl,by simpa using hf,h⟩)⟩
end
section
variable {X:Cx}
theorem JU{pins:List (Addr×Obj)}{σ:Sg}{H:Hp}{s:Shared}{m:List Addr}(I:Inv X pins σ H s){n:Nat}{A:Around}{ds ds':List D}{vs vs':List V}{its its':List Value}(hu:A.units+1+n<cLine)
 (q1:RDs X.K m H ds vs)(q2:RDs X.K m H ds' vs')(p1:Vals vs its)(p2:Vals vs' its'){f:Nat->Bool}(hf:∀j x y,ds[j]? =some x->ds'[j]? =some y->iK n x y=some (f j)):
 ∀j (h1:j<its.toArray.size) (h2:j<its'.toArray.size),SeqAt.EqAt A.in1 s its.toArray[j] its'.toArray[j] (f j):=λj j1 j2=>by
 have l1:=q1.length;have l2:=q2.length;have l3:=p1.length;have l4:=p2.length;have j1':j<its.length:=by simpa using j1
 have j2':j<its'.length:=by simpa using j2
 have e1:ds[j]? =some ds[j]:=Zd (by omega);have e2:ds'[j]? =some ds'[j]:=Zd (by omega);obtain⟨x,hx,rx⟩:=q1.get e1;obtain⟨y,hy,ry⟩:=q2.get e2;obtain⟨ux,hux,sx⟩:=p1.get hx;obtain⟨uy,huy,sy⟩:=p2.get hy
 have z1:its.toArray[j]=ux:=by
  obtain⟨_,z⟩:=Ze.mp hux;simpa using z
 have z2:its'.toArray[j]=uy:=by
  obtain⟨_,z⟩:=Ze.mp huy;simpa using z
 rw[z1,z2];exact CJ I n (by show A.units+1+n<cLine;omega) rx ry sx sy (hf j _ _ e1 e2)
theorem wF{pins:List (Addr×Obj)}{σ:Sg}{H:Hp}{s:Shared}{m:List Addr}{h:Hh}(I:Inv X pins σ H s)(hr:∃k,Room k X.A){x y:V}{v u:Value}{dx dy:D}{b:Bool}(w:Wd X.K m h H)(r1:RD X.K m H dx x)(r2:RD X.K m H dy y)
 (rx:RelV x v)(ry:RelV y u)(e:CH dx dy h=some b):SeqAt.RcAt X.A s v u b/\SeqAt.RcNeAt X.A s v u (!b):=by
 obtain⟨k,hr⟩:=hr;have hu:=hr.units;cases r1<;>cases r2<;>first |(simp[CH,iK] at e;done)|skip
 case ref.ref=>
  rename_i i a ha j c hc;cases rx;cases ry;simp only[CH] at e;split at e
  ·rename_i ds ds' e1 e2;obtain⟨a',vs,ha',hq,q1⟩:=w.lst e1;obtain⟨c',vs',hc',hq',q2⟩:=w.lst e2;rw[ha] at ha';cases ha';rw[hc] at hc';cases hc';obtain⟨its,p1,t1,_⟩:=I.list hq;obtain⟨its',p2,t2,_⟩:=I.list hq';have l1:=q1.length;have l2:=q2.length;have l3:=p1.length;have l4:=p2.length;split at e
   ·rename_i el;obtain⟨f,hf,rfl⟩:=lN e;have hs:its.toArray.size=its'.toArray.size:=by simp;omega
    have he:=JU (A:=X.A) I (n:=20) (by omega) q1 q2 p1 p2 hf;have el2:its.toArray.size=ds.length:=by simp;omega
    have k1:=SeqAt.RcAt.lists (A:=X.A) (e:=f) t1.isList t2.isList hs (by omega) he;have k2:=SeqAt.RcNeAt.lists (A:=X.A) (e:=f) t1.isList t2.isList hs (by omega) he;rw[el2] at k1 k2;rw[show(min ds.length ds'.length)=ds.length by omega,show(ds.length==ds'.length)=true by simp[el],Bool.and_true];exact⟨k1,k2⟩
   ·rename_i el;have eb:false=b:=Zg e;subst eb;have hs:(its.toArray.size != its'.toArray.size)=true:=by simp;omega
    exact⟨SeqAt.RcAt.lists_lengths t1.isList t2.isList hs (by omega),SeqAt.RcNeAt.lists_lengths t1.isList t2.isList hs (by omega)⟩
  ·cases e
 case tup.tup=>
  rename_i a ds vs h1 q1 a' ds' vs' h2 q2;cases rx;cases ry;obtain⟨its,p1,t1,_⟩:=I.tuple h1;obtain⟨its',p2,t2,_⟩:=I.tuple h2;have l1:=q1.length;have l2:=q2.length;have l3:=p1.length;have l4:=p2.length;obtain⟨f,hf,rfl⟩:=lN (show nZ (iK 19) ds ds'=some b from by simpa [CH,iK] using e);have he:=JU (A:=X.A) I (n:=19) (by omega) q1 q2 p1 p2 hf;have k1:=SeqAt.RcAt.tuples (A:=X.A) (e:=f) t1 t2 (by omega) he;have k2:=SeqAt.RcNeAt.tuples (A:=X.A) (e:=f) t1 t2 (by omega) he;have el:its.toArray.size=ds.length:=by simp;omega
  have el':its'.toArray.size=ds'.length:=by simp;omega
  rw[el,el'] at k1 k2;exact⟨k1,k2⟩
 all_goals simp[CH,iK] at e
 all_goals subst e
 case non.non=>cases rx;cases ry;exact⟨SeqAt.RcAt.none_none,SeqAt.RcNeAt.none_none⟩
 case non.int=>cases rx;obtain⟨t,rfl⟩:=ry;exact⟨SeqAt.RcAt.none_int _ _,SeqAt.RcNeAt.none_int _ _⟩
 case non.str=>cases rx;obtain⟨t,rfl⟩:=ry;exact⟨SeqAt.RcAt.none_str _ _,SeqAt.RcNeAt.none_str _ _⟩
 case int.non=>cases ry;obtain⟨t,rfl⟩:=rx;exact⟨SeqAt.RcAt.int_none _ _,SeqAt.RcNeAt.int_none _ _⟩
 case str.non=>cases ry;obtain⟨t,rfl⟩:=rx;exact⟨SeqAt.RcAt.str_none _ _,SeqAt.RcNeAt.str_none _ _⟩
 case bl.bl=>cases rx;cases ry;exact⟨SeqAt.RcAt.bool_bool _ _,SeqAt.RcNeAt.bool_bool _ _⟩
 case int.int=>obtain⟨t,rfl⟩:=rx;obtain⟨t',rfl⟩:=ry;exact⟨SeqAt.RcAt.int_int _ _ _ _,SeqAt.RcNeAt.int_int _ _ _ _⟩
 case int.str=>obtain⟨t,rfl⟩:=rx;obtain⟨t',rfl⟩:=ry;exact⟨SeqAt.RcAt.int_str _ _ _ _,SeqAt.RcNeAt.int_str _ _ _ _⟩
 case str.int=>obtain⟨t,rfl⟩:=rx;obtain⟨t',rfl⟩:=ry;exact⟨SeqAt.RcAt.str_int _ _ _ _,SeqAt.RcNeAt.str_int _ _ _ _⟩
 case str.str=>obtain⟨t,rfl⟩:=rx;obtain⟨t',rfl⟩:=ry;exact⟨SeqAt.RcAt.str_str _ _ _ _,SeqAt.RcNeAt.str_str _ _ _ _⟩
theorem RD.flat{K:W.Frag}{m:List Addr}{H:Hp}{d:D}{v:V}(r:RD K m H d v)(f:flat d=true):iI v=true:=by
 cases r<;>first |rfl|(cases f;done)
theorem RD.eqF{K:W.Frag}{m:List Addr}{H:Hp}{d d':D}{v v':V}(r:RD K m H d v)(r':RD K m H d' v')(f:Ng.flat d=true)(f':Ng.flat d'=true):CF v v'=Ng.eqF d d':=by
 cases r<;>first |(cases f;done)|skip
 all_goals cases r'<;>first |(cases f';done)|rfl
theorem RDs.flat{K:W.Frag}{m:List Addr}{H:Hp}:∀{ds:List D}{vs:List V},RDs K m H ds vs->ds.all Ng.flat=true->vs.all iI=true
 |_,_,.nil,_=>rfl
 |_,_,.cons r t,f=>by
  rw[List.all_cons,Bool.and_eq_true] at f;rw[List.all_cons,r.flat f.1,RDs.flat t f.2];rfl
theorem RDs.anyF{K:W.Frag}{m:List Addr}{H:Hp}{x:D}{v:V}(rx:RD K m H x v)(fx:Ng.flat x=true):∀{ds:List D}{vs:List V},RDs K m H ds vs->ds.all Ng.flat=true->JH v vs=ds.any λy=>Ng.eqF y x
 |_,_,.nil,_=>rfl
 |_,_,.cons r t,f=>by
  rw[List.all_cons,Bool.and_eq_true] at f;have ih:=RDs.anyF rx fx t f.2;unfold JH at ih⊢;rw[List.any_cons,List.any_cons,ih,r.eqF rx f.1 fx]
theorem mH{m:List Addr}{h:Hh}{H:Hp}{K:W.Frag}(w:Wd K m h H){d:D}{v:V}{l:List D}(r:RD K m H d v)(e:dO d h=some l):∃p vs,v=.ref p/\(SqL K H p vs\/SqT K H p vs)/\RDs K m H l vs:=by
 cases r<;>first |(simp[dO] at e;done)|skip
 ·rename_i a ds vs h1 q;have e':ds=l:=by simpa [dO] using e
  subst e';exact⟨a,vs,rfl,.inr h1,q⟩
 ·rename_i n a ha;obtain⟨a',vs,ha',hq,q⟩:=w.lst (show aI h n=some l from e);rw[ha] at ha';cases ha';exact⟨a,vs,rfl,.inl hq,q⟩
theorem lX{K:W.Frag}{m:List Addr}{H:Hp}{k:bQ}{d:D}:∀{ds:List (bQ×D)}{us:List (bQ×V)},ds.map (·.1)=us.map (·.1)->RDs K m H (ds.map (·.2)) (us.map (·.2))->dW ds k=some d->∃v,fD us k=some v/\RD K m H d v
 | [],_,_,_,e=>by simp[dW] at e
 |p::ds,[],hk,_,_=>by simp at hk
 |p::ds,q::us,hk,r,e=>by
  simp only[Zh,List.cons.injEq] at hk;cases r with
  |cons r1 r2=>
   unfold dW at e;unfold fD;rw[List.find?_cons] at e⊢;rw[<- hk.1]
   by_cases z:p.1=k
   ·rw[decide_eq_true z] at e⊢;simp only at e⊢;cases e;exact⟨q.2,rfl,r1⟩
   ·rw[decide_eq_false z] at e⊢;exact lX hk.2 r2 e
theorem gQ{K:W.Frag}{m:List Addr}{H:Hp}{d:D}{v:V}{k:bQ}(r:RD K m H d v)(e:mW d=some k):v=kV k:=by
 cases r<;>first |(cases e;done)|(cases e;rfl)
theorem dF{K:W.Frag}{m:List Addr}{h:Hh}{H:Hp}{x:D}{v:V}{l:List (bQ×D)}(w:Wd K m h H)(r:RD K m H x v)(e:bW h x=some l):∃n a us,x=.ref n/\v=.ref a/\h[n]? =some (.dct l)/\m[n]? =some a/\H a=some (.dK us)/\l.map (·.1)=us.map (·.1)/\RDs K m H (l.map (·.2)) (us.map (·.2)):=by
 cases r<;>first |(cases e;done)|skip
 rename_i n a ha;simp only[bW] at e;split at e
 ·rename_i l' el;cases e;obtain⟨us,q1,q2,q3⟩:=w.ob n _ a el ha;exact⟨n,a,us,rfl,rfl,el,ha,q1,q2,q3⟩
 ·cases e
theorem oE{K:W.Frag}{k:bQ}:∀{ds:List (bQ×D)}{us:List (bQ×V)},ds.map (·.1)=us.map (·.1)->dW ds k=none->fD us k=none
 | [],[],_,_=>rfl
 | [],q::us,hk,_=>by simp at hk
 |p::ds,[],hk,_=>by simp at hk
 |p::ds,q::us,hk,e=>by
  simp only[Zh,List.cons.injEq] at hk;unfold dW at e;unfold fD;rw[List.find?_cons] at e⊢;rw[<- hk.1]
  by_cases z:p.1=k
  ·rw[decide_eq_true z] at e;cases e
  ·rw[decide_eq_false z] at e⊢;exact oE (K:=K) hk.2 e
theorem mZ{K:W.Frag}{m:List Addr}{H:Hp}{k:bQ}{ds:List (bQ×D)}{us:List (bQ×V)}(hk:ds.map (·.1)=us.map (·.1))(r:RDs K m H (ds.map (·.2)) (us.map (·.2))):(fD us k).isSome=(dW ds k).isSome:=by
 cases e:dW ds k with
 |none=>rw[oE (K:=K) hk e]<;>rfl
 |some d=>obtain⟨v,hv,_⟩:=lX hk r e;rw[hv];rfl
theorem JW{pins:List (Addr×Obj)}{σ:Sg}{H:Hp}{s:Shared}{m:List Addr}(I:Inv X pins σ H s){A:Around}(hu:A.units+20<cLine){dx:D}{x:V}{v:Value}(rx:RD X.K m H dx x)(sx:RelV x v):∀{ds:List D}{vs:List V}{its:List Value}{b:Bool},RDs X.K m H ds vs->Vals vs its->PH dx ds=some b->CT A s v its b
 | [],_,_,b,.nil,.nil,e=>by cases e;exact .nil
 |y::ds,_,_,b,.cons r q,.cons p t,e=>by
  simp only[PH] at e;split at e
  ·rename_i a c e1 e2;have e':=Zg e;have z:=CJ I 20 hu r rx p sx e1;have ih:=JW I hu rx sx q t e2;cases a with
   |true=>subst e';exact .hit z
   |false=>rw[Bool.false_or] at e';subst e';exact .mis z ih
  ·cases e
theorem oK(hr:∃k,Room k X.A)(op:Cop):jI X (compareOp op.op) (rD X.K (cG op)):=by
 intro pins s σ H x y v u Q I rx ry q;obtain⟨m,h,dx,dy,d,h',w,r1,r2,e,c⟩:=q;have fin:∀z,RD X.K m H d z->h=h'->Q z H:=λz rz eh=>by subst eh;exact c m z H Gr.refl w rz
 cases op with
 |lt=>
  obtain⟨i,rfl⟩:∃i,dx=.int i:=by cases dx<;>first |exact⟨_,rfl⟩|(cases e;done)
  obtain⟨j,rfl⟩:∃j,dy=.int j:=by cases dy<;>first |exact⟨_,rfl⟩|(cases e;done)
  cases r1;cases r2;cases e;exact QW pins s σ H _ _ v u Q I rx ry ⟨_,_,rfl,rfl,fin _ (.bl _) rfl⟩
 |le=>
  obtain⟨i,rfl⟩:∃i,dx=.int i:=by cases dx<;>first |exact⟨_,rfl⟩|(cases e;done)
  obtain⟨j,rfl⟩:∃j,dy=.int j:=by cases dy<;>first |exact⟨_,rfl⟩|(cases e;done)
  cases r1;cases r2;cases e;exact QX pins s σ H _ _ v u Q I rx ry ⟨_,_,rfl,rfl,fin _ (.bl _) rfl⟩
 |gt=>
  obtain⟨i,rfl⟩:∃i,dx=.int i:=by cases dx<;>first |exact⟨_,rfl⟩|(cases e;done)
  obtain⟨j,rfl⟩:∃j,dy=.int j:=by cases dy<;>first |exact⟨_,rfl⟩|(cases e;done)
  cases r1;cases r2;cases e;exact QY pins s σ H _ _ v u Q I rx ry ⟨_,_,rfl,rfl,fin _ (.bl _) rfl⟩
 |ge=>
  obtain⟨i,rfl⟩:∃i,dx=.int i:=by cases dx<;>first |exact⟨_,rfl⟩|(cases e;done)
  obtain⟨j,rfl⟩:∃j,dy=.int j:=by cases dy<;>first |exact⟨_,rfl⟩|(cases e;done)
  cases r1;cases r2;cases e;exact QZ pins s σ H _ _ v u Q I rx ry ⟨_,_,rfl,rfl,fin _ (.bl _) rfl⟩
 |eq=>
  replace e:(match CH dx dy h with|some b=>Rs.ok (D.bl (b)) h|none=>.bad)=.ok d h':=e
  split at e
  ·rename_i b eb;cases e;exact(wF I hr w r1 r2 rx ry eb).1 _ _ _ _ ⟨.bl b,H,I,rfl,fin _ (.bl _) rfl⟩
  ·cases e
 |ne=>
  replace e:(match CH dx dy h with|some b=>Rs.ok (D.bl (!b)) h|none=>.bad)=.ok d h':=e
  split at e
  ·rename_i b eb;cases e;exact(wF I hr w r1 r2 rx ry eb).2 _ _ _ _ ⟨.bl (!b),H,I,rfl,fin _ (.bl _) rfl⟩
  ·cases e
 |is=>
  obtain rfl:dy=.non:=by cases dy<;>first |rfl|(cases e;done)
  cases r2;cases e;refine MK pins s σ H _ _ v u Q I rx ry ⟨rfl,fin _ ?_ rfl⟩;cases r1<;>exact .bl _
 |isnot=>
  obtain rfl:dy=.non:=by cases dy<;>first |rfl|(cases e;done)
  cases r2;cases e;refine FC pins s σ H _ _ v u Q I rx ry ⟨rfl,fin _ ?_ rfl⟩;cases r1<;>exact .bl _
 |inn=>
  replace e:(match RX dx dy h with|some b=>Rs.ok (D.bl b) h|none=>match bW h dy with|some l=>DX dx l false h|none=>match dO dy h with|some l=>JI dx l false h|none=>.bad)=.ok d h':=e
  split at e
  ·rename_i b eb;cases e;unfold RX at eb;split at eb
   ·cases eb;cases r1;cases r2;exact xL pins s σ H _ _ v u Q I rx ry ⟨_,_,rfl,rfl,fin _ (.bl _) rfl⟩
   ·rename_i ks;split at eb
    ·rename_i l el;obtain⟨n,a,xs,us,o,es,ep,rfl,rfl,hn,ha,hf,df,go,hk,hks,rv,vv,dd⟩:=qF I w r2 el;rw[Option.map_eq_some_iff] at eb;obtain⟨k,ek,rfl⟩:=eb;cases r1 with
     |tup hq q=>
      have:=kP q ek;subst this;obtain⟨kk,hr⟩:=hr;have hun:=hr.units;cases rx;cases ry;refine wpAny_in_heap (tupleKind_room_in1 (by omega)) (tW I hq) df.1 dd ⟨.bl _,H,I.tok _,rfl,?_⟩;rw[pG, <- nT hk, <- qS];exact fin _ (.bl _) rfl
    ·cases eb
   ·cases eb
  split at e
  ·rename_i l el;obtain⟨n,a,us,rfl,rfl,hn,ha,hu,hk,rv⟩:=dF w r2 el;unfold DX at e;split at e
   ·rename_i k ek;cases e;have:=gQ r1 ek;subst this;obtain⟨kk,hr⟩:=hr;have hun:=hr.units;cases ry;refine YK (by omega) I (DGet.k hu) rx λs3 I3=>⟨.bl _,H,I3,rfl,?_⟩;rw[mZ hk rv];exact fin _ (.bl _) rfl
   ·cases e
  ·split at e
   ·rename_i l el;unfold JI at e;split at e
    ·rename_i hf;cases e;obtain⟨p,vs,rfl,hq,q⟩:=mH w r2 el;refine xM pins s σ H _ _ v u Q I rx ry ⟨p,vs,rfl,hq,r1.flat hf.1,q.flat hf.2,?_⟩;have z:=RDs.anyF r1 hf.1 q hf.2;show Q (.bl (if false=true then !JH x vs else JH x vs)) H;rw[if_neg (by decide),z];exact fin _ (.bl _) rfl
    ·cases e
   ·cases e
 |notin=>
  replace e:(match bW h dy with|some l=>DX dx l true h|none=>match dO dy h with|some l=>(match FT dx dy l with|some b=>Rs.ok (D.bl (!b)) h|none=>JI dx l true h)|none=>.bad)=.ok d h':=e
  split at e
  ·rename_i l el;obtain⟨n,a,us,rfl,rfl,hn,ha,hu,hk,rv⟩:=dF w r2 el;unfold DX at e;split at e
   ·rename_i k ek;cases e;have:=gQ r1 ek;subst this;obtain⟨kk,hr⟩:=hr;have hun:=hr.units;cases ry;refine GS (by omega) I (DGet.k hu) rx λs3 I3=>⟨.bl _,H,I3,rfl,?_⟩;rw[mZ hk rv];exact fin _ (by simpa using RD.bl (!(dW l k).isSome)) rfl
   ·cases e
  ·split at e
   ·rename_i l el;split at e
    ·rename_i b eb;cases e;unfold FT at eb;split at eb
     ·cases r2 with
      |ref hm=>
       obtain⟨a',vs',hm',hq',q'⟩:=w.lst (show aI h _=some l from el);rw[hm] at hm';cases hm';obtain⟨its,p1,t1,_⟩:=I.list hq';obtain⟨kk,hr⟩:=hr;have hun:=hr.units;obtain⟨⟨cls,dd,data,sl⟩,ho,hcl,nn,hd⟩:=t1.isList;simp only at hcl hd;subst hcl hd;cases ry;refine PySem.SeqRoads2.notIn_meets ⟨_,ho,rfl⟩ F.slot_list_contains F.entry_list_contains (F.args_list_contains_2 _ _) (HE _ its.toArray nn dd sl v (b:=b)) ⟨ho,?_,_,rfl,⟨.bl _,H,I,rfl,fin _ (.bl _) rfl⟩⟩;simpa using JW I (A:=X.A.in1) (by show X.A.units+1+20<cLine;omega) r1 rx q' p1 eb
     ·cases eb
    rename_i hnt;unfold JI at e;split at e
    ·rename_i hf;cases e;obtain⟨p,vs,rfl,hq,q⟩:=mH w r2 el;refine pW pins s σ H _ _ v u Q I rx ry ⟨p,vs,rfl,hq,r1.flat hf.1,q.flat hf.2,?_⟩;have z:=RDs.anyF r1 hf.1 q hf.2;show Q (.bl (if true=true then !JH x vs else JH x vs)) H;rw[if_pos rfl,z];exact fin _ (by simpa using RD.bl _) rfl
    ·cases e
   ·cases e
theorem HQ{K:W.Frag}{m:List Addr}{H:Hp}{ds:List D}{vs:List V}{i:Int}{d:D}(q:RDs K m H ds vs)(e:lM ds i=some d):∃v,lM vs i=some v/\RD K m H d v:=by
 unfold lM at e⊢;rw[q.length] at e;cases z:yT vs.length i with
 |none=>rw[z] at e;cases e
 |some j=>
  rw[z] at e;obtain⟨v,h1,h2⟩:=q.get (show ds[j]? =some d from e);exact⟨v,h1,h2⟩
theorem MY:PL X (rD X.K MZ):=by
 intro value slice pins s σ H x y v u Q I rx ry q hs;obtain⟨m,h,dx,dy,d,h',w,r1,r2,e,c⟩:=q;unfold MZ at e;split at e
 ·rename_i l i el;split at e
  ·rename_i d' ed;simp at e;obtain⟨rfl,rfl⟩:=e;obtain⟨p,vs,rfl,hq,q⟩:=mH w r1 el;obtain⟨z,hz,rz⟩:=HQ q ed;cases r2;have qz:Q z H:=c m z H Gr.refl w rz;rcases hq with hq|hq
   ·exact FN value slice pins s σ H _ _ v u Q I rx ry ⟨p,vs,i,z,rfl,rfl,hq,hz,qz⟩ hs
   ·exact MW value slice pins s σ H _ _ v u Q I rx ry ⟨p,vs,i,z,rfl,rfl,hq,hz,qz⟩ hs
  ·cases e
 ·cases e
theorem RS(hr:∃k,Room k X.A):PL X (rD X.K lJ):=by
 intro value slice pins s σ H x y v u Q I rx ry q hs;obtain⟨m,h,dx,dy,d,h',w,r1,r2,e,c⟩:=q;unfold lJ at e;split at e
 ·rename_i z;unfold ixT at e;split at e<;>first |(cases e;done)|skip
  rename_i i;split at e<;>first |(cases e;done)|skip
  rename_i hz;split at e<;>first |(cases e;done)|skip
  rename_i c' ec;simp at e;obtain⟨rfl,rfl⟩:=e;cases r1;cases r2;exact MX value slice pins s σ H _ _ v u Q I rx ry ⟨z,i,c',rfl,rfl,hz,ec,c m _ H Gr.refl w (.str _)⟩ hs
 split at e
 ·rename_i l el;obtain⟨n,a,us,rfl,rfl,hn,ha,hu,hk,rv⟩:=dF w r1 el;unfold PF at e;split at e
  ·rename_i k ek;split at e
   ·rename_i d' ed;simp at e;obtain⟨rfl,rfl⟩:=e;obtain⟨z,hz,rz⟩:=lX hk rv ed;have:=gQ r2 ek;subst this;obtain⟨kk,hr⟩:=hr;have hun:=hr.units;cases rx;have g:DGet H a (kV k) (some z):=by rw[<- hz];exact DGet.k hu
    exact tail_any (sJ I g) PySem.F.slot_dict_getitem.lookup (yE (by omega) I g ry λw' s3 I3 rw'=>⟨z,H,I3,rw',c m z H Gr.refl w rz⟩) hs
   ·cases e
  ·cases e
 ·split at e
  ·rename_i l el;obtain⟨n,a,xs,us,o,es,ep,rfl,rfl,hn,ha,hf,df,go,hk,hks,rv,vv,dd⟩:=qF I w r1 el;unfold UY at e;split at e
   ·rename_i ks;split at e
    ·rename_i d' ed;simp at e;obtain⟨rfl,rfl⟩:=e;rw[Option.bind_eq_some_iff] at ed;obtain⟨k,ek,ed⟩:=ed;cases r2 with
     |tup hq q=>
      have:=kP q ek;subst this;obtain⟨kk,hr⟩:=hr;have hun:=hr.units;cases rx;cases ry;obtain⟨z,p,rz,hp,sz⟩:=qR hk rv vv ed;exact tail_any (T:="dict") ⟨o,go,df.2.2.1.1⟩ PySem.F.slot_dict_getitem.lookup (wpAny_getItem_heap (tupleKind_room_in1 (by omega)) (tW I hq) dd hp ⟨z,H,I.tok _,sz,c m z H Gr.refl w rz⟩) hs
    ·cases e
   ·cases e
  ·exact MY value slice pins s σ H x y v u Q I rx ry ⟨m,h,dx,dy,d,h',w,r1,r2,e,c⟩ hs
theorem lC{K:W.Frag}{m:List Addr}{H:Hp}{ds:List D}{vs:List V}(q:RDs K m H ds vs):ds.isEmpty=vs.isEmpty:=by
 cases q<;>rfl
theorem kF{K:W.Frag}{m:List Addr}{h:Hh}{H:Hp}(w:Wd K m h H){d:D}{v:V}{b:Bool}(r:RD K m H d v)(e:fQ d h=some b):uY K v H b:=by
 cases r with
 |non=>exact(Zg e).symm
 |bl c=>exact(Zg e).symm
 |int i=>exact(Zg e).symm
 |str y=>
  simp only[fQ] at e;split at e
  ·rename_i hz;exact⟨hz,(Zg e).symm⟩
  ·cases e
 |ty n=>cases e
 |tup h1 q=>
  refine .inr (.inl ⟨_,h1,?_⟩);have:=(Zg e).symm;rw[this,lC q]
 |ref ha=>
  simp only[fQ] at e;split at e
  ·rename_i l el;obtain⟨a',vs,ha',hq,q⟩:=w.lst el;rw[ha] at ha';cases ha';refine .inl ⟨_,hq,?_⟩;have:=(Zg e).symm;rw[this,lC q]
  ·cases e
end
theorem BB{prog:Program}{w:World}{A:Around}{s:Shared}{a:Addr}{items:Array Value}(hh:A.handled=none)(hl:s.heap.IsList a items):
 Walks prog w A s.heap.objs.size [s.heap.objs.size,a] [s.heap.objs.size] items.size (λi v=>items[i]? =some v) (λi h=>h.IsListIter s.heap.objs.size a i/\h.IsList a items)/\
 ((s.heap.push {cls:=.type "list_iterator",data:=.fields #[.ref a,.int 0 0]}).IsListIter s.heap.objs.size a 0/\(s.heap.push {cls:=.type "list_iterator",data:=.fields #[.ref a,.int 0 0]}).IsList a items)/\
 (∀b∈ [s.heap.objs.size,a],b<(s.heap.push {cls:=.type "list_iterator",data:=.fields #[.ref a,.int 0 0]}).objs.size)/\
 ∀g:Heap,(∀b o,b ∉ [s.heap.objs.size]->(s.heap.push {cls:=.type "list_iterator",data:=.fields #[.ref a,.int 0 0]}).get? b=some o->g.get? b=some o)->∀b o,s.heap.get? b=some o->g.get? b=some o:=by
 have lt:a<s.heap.objs.size:=by obtain⟨_,e,_⟩:=hl;exact Heap.lt_size e
 refine⟨Walks.list hh _ a (Nat.ne_of_lt lt) items,⟨⟨_,Heap.get?_push_size _ rfl,rfl,rfl⟩,hl.push _⟩,λb hb=>?_,λg kp b o e=>kp b o (λz=>?_) (Zf _ e)⟩
 ·rw[Heap.size_push];simp at hb;rcases hb with rfl|rfl
  ·exact Nat.lt_succ_self _
  ·exact Nat.lt_succ_of_lt lt
 ·simp at z;subst z;exact Nat.lt_irrefl _ (Heap.lt_size e)
section
variable {X:Cx}
end
section
open PySem.SeqAt
open PySem.AutoSeq1 (wpAny_loadPart')
open PySem.MeetsSeq PySem.MeetsSeq2 PySem.MeetsSeq3
end
section
variable {X:Cx}{pins:List (Addr×Obj)}{σ:Sg}{H:Hp}{s:Shared}{m:List Addr}
end
section
variable {prog:Program}{w:World}{A:Around}{E:Value->Shared->Prop}{s:Shared}
theorem oO{a:Addr}{vs:List Value}{n:Nat}{P:PySem.Fin->Shared->Prop}(ho:s.heap.get? a=some (seqObj "list" vs.toArray n))(h1:vs.length<2)
 (h:P (.done (.ret .none)) {s with heap:=sortedHeap s.heap a vs vs.toArray}):wpAny (model prog w) A (Builtin.«list.sort» ⟨[.ref a],[]⟩) P E s:=by
 have la:=Heap.lt_size ho;obtain⟨e1,o1⟩:∃e1,(s.heap.update a (Obj.mapSeq λ_=> #[])).get? a=some (seqObj "list" #[] e1):=⟨_,get?_update_seq ho (λ_=> #[])⟩
 have o6:(((s.heap.update a (Obj.mapSeq λ_=> #[])).push (seqObj "tuple" vs.toArray 0)).push (seqObj "list" #[] 0)).get? a=some (seqObj "list" #[] e1):=
  Zf _ (Zf _ o1)
 have few:vs.toArray.size<2:=by simpa using h1
 have zs:(vs.toArray.zip vs.toArray).map (·.2)=vs.toArray:=by
  apply Array.toList_inj.mp;simp[List.map_snd_zip]
 rw[list_sort_plain];refine Za (listItems_at ho rfl (Za (listUpdate_at ho rfl (Za (seqEpoch_at o1 rfl (Za (wpAny_newTuple (Za (wpAny_newList (wpAny_holding ?_))))))))));show wpAny (model prog w) A _ P E {s with heap:=((s.heap.update a (Obj.mapSeq λ_=> #[])).push (seqObj "tuple" vs.toArray 0)).push (seqObj "list" #[] 0)};dsimp only;rw[if_pos few,if_pos few];refine Za (Zb ?_);rw[StateT.run_pure];refine Za (Zb ?_);dsimp only
 refine Za (seqEpoch_at o6 rfl (Za (listUpdate_at o6 rfl ?_ (hsz2:=by
  show((vs.toArray.zip vs.toArray).map (·.2)).size<=_
  rw[zs,sizeLine_eq,Zk];omega))))
 simp only[bne_self_eq_false,Bool.false_eq_true,if_false];refine Zb ?_;show P (.done (.ret .none)) {s with heap:=_};have z2:(arrOf (SortSt.mk' general' (vs.toArray.zip vs.toArray) #[] 7 none)).map (·.2)=vs.toArray:=zs;rw[z2];exact h
theorem tF{l:Addr}{vs:List Value}{Q:Value->Shared->Prop}(hl:s.heap.IsList l vs.toArray)(h1:vs.length<2)
 (h:Q (.ref (s.heap.objs.size+1)) {s with heap:=sortedAll s.heap vs vs.toArray}):wpAny (model prog w) A (call (.builtin "sorted") [.ref l]) Q E s:=by
 refine Calls.call_function_entry kind_sorted plain_sorted entry_sorted (args_sorted1 _) ?_;have z1:((s.heap.push (seqObj "list" #[] 0)).update s.heap.objs.size (Obj.mapSeq (·++vs.toArray))).objs.size=s.heap.objs.size+1:=by rw[Heap.size_update,size_push']
 have o1:(((s.heap.push (seqObj "list" #[] 0)).update s.heap.objs.size (Obj.mapSeq (·++vs.toArray))).push (seqObj "list" vs.toArray 0)).get? (s.heap.objs.size+1)=some (seqObj "list" vs.toArray 0):=z1 ▸ Heap.get?_push_size _ rfl;unfold Builtin.«sorted»;refine Za (m:=checkCount "sorted" 1 1 _) (Zb (Za (collect_list hl (Za (wpAny_newList ?_)))));show wpAny _ _ _ _ _ {s with heap:=((s.heap.push (seqObj "list" #[] 0)).update s.heap.objs.size (Obj.mapSeq (·++vs.toArray))).push (seqObj "list" vs.toArray 0)};rw[z1];exact Za (wpAny_holding (wpAny_call_entry slot_list_sort ⟨_,o1,rfl⟩ entry_list_sort (oO o1 h1 ⟨_,rfl,Zb ⟨_,rfl,h⟩⟩) (args_list_sort _)))
end
theorem iV{h h':Heap}{L a:Addr}{xs:Array Value}{mm:Str->Option Value}(hn:h.Ns L mm)(k:∀b o,b≠L->h.get? b=some o->h'.get? b=some o)(t:IsTup h a xs):IsTup h' a xs:=by
 obtain⟨o,h1,h2,n,h3⟩:=t;refine⟨o,k a o (λz=>?_) h1,h2,n,h3⟩;subst z;obtain⟨o',es,ep,g1,g2,_⟩:=hn;rw[h1] at g1;cases g1;rw[h3] at g2;cases g2
section
variable {X:Cx}{pins:List (Addr×Obj)}{σ:Sg}{H:Hp}{s:Shared}{m:List Addr}{K:W.Frag}
theorem kD(I:Inv X pins σ H s){ds:List D}{v:V}{u:Value}(r:RD X.K m H (.tup ds) v)(rv:RelV v u):∃a vs its,u=.ref a/\RDs X.K m H ds vs/\Vals vs its/\IsTup s.heap a its.toArray:=by
 cases r with
 |tup h q=>
  cases rv;obtain⟨its,p,t,_⟩:=I.tuple h;exact⟨_,_,its,rfl,q,p,t⟩
theorem BD{prog:Program}{w:World}{A:Around}{b fin:Bool}{Q:Bool->Shared->Prop}{t:Shared}(hb:b=true):∀{xs ys:List D}{vs us:List V}{its jts:List Value}{i:Nat}{c:Bool},RDs K m H xs vs->RDs K m H ys us->Vals vs its->Vals us jts->BA xs ys=some c->
 ∀(p q:Nat),p+its.length=q+jts.length->fin=decide (q<p)->Q c t->W.KatLex prog w A b fin Q (its.zip jts) i t:=by
 intro xs
 induction xs with
 |nil=>
  intro ys vs us its jts i c hx hy hv hu e p q hpq hf h;cases hx;cases hv;cases hy with
  |nil=>
   cases hu;have e':false=c:=Zg e;subst e';show Q fin t;rw[hf,decide_eq_false (by simp at hpq;omega)];exact h
  |cons r2 q2=>
   cases hu;have e':true=c:=Zg e;subst e';show Q fin t;rw[hf,decide_eq_true (by simp at hpq;omega)];exact h
 |cons x xs ih=>
  intro ys vs us its jts i c hx hy hv hu e p q hpq hf h;cases hx with
  |cons r1 q1=>
  cases hv with
  |cons s1 t1=>
  cases hy with
  |nil=>
   cases hu
   have e':false=c:=by
    cases x<;>exact Zg e
   subst e';show Q fin t;rw[hf,decide_eq_false (by simp at hpq;omega)];exact h
  |cons r2 q2=>
  cases hu with
  |cons s2 t2=>
   simp only[List.length_cons] at hpq;cases r1<;>cases r2<;>first |(simp[BA] at e;done)|skip
   ·rename_i a a';obtain⟨tk,rfl⟩:=s1;obtain⟨tk',rfl⟩:=s2;simp only[BA] at e;refine W.kat_cons (wpAny_eqBool_int ?_)
    by_cases z:a=a'
    ·rw[if_pos z] at e;rw[show(a==a')=true by simp[z]];exact W.kat_yes (ih q1 q2 t1 t2 e p q (by omega) hf h)
    ·rw[if_neg z] at e;have e':=Zg e;rw[show(a==a')=false by simp[z]];refine W.kat_no ?_;subst e' hb
     by_cases hi:i=0
     ·subst hi;exact oneLt_int h
     ·rw[show((true&&i==0):Bool)=false by simp[hi]];exact W.kat_one _ _ (PyProof.Rows.lt_int h)
   ·rename_i a a';obtain⟨tk,rfl⟩:=s1;obtain⟨tk',rfl⟩:=s2;simp only[BA] at e;refine W.kat_cons (wpAny_eqBool_str ?_)
    by_cases z:a=a'
    ·rw[if_pos z] at e;rw[decide_eq_true z];exact W.kat_yes (ih q1 q2 t1 t2 e p q (by omega) hf h)
    ·rw[if_neg z] at e;have e':=Zg e;rw[decide_eq_false z];refine W.kat_no ?_;subst e' hb
     by_cases hi:i=0
     ·subst hi;exact oneLt_str h
     ·rw[show((true&&i==0):Bool)=false by simp[hi]];exact W.kat_one _ _ (lt_str h)
theorem eX{α:Type}{l:List α}{i:Nat}{x d:α}(h:l[i]? =some x):l.getD i d=x:=by simp[List.getD_eq_getElem?_getD,h]
theorem RDs.pick{ds:List D}{vs:List V}(q:RDs K m H ds vs):∀(p:List Nat),(∀i∈p,i<ds.length)->RDs K m H (p.map λi=>ds.getD i .non) (p.map λi=>vs.getD i .non)
 | [],_=>.nil
 |i::p,h=>by
  have e:=Zd (h i Zl);obtain⟨v,hv,rv⟩:=q.get e;refine .cons ?_ (RDs.pick q p λj hj=>h j (Zj _ hj));show RD K m H (ds.getD i .non) (vs.getD i .non);rw[eX e,eX hv];exact rv
theorem kB{vs:List V}{us:List Value}(q:Vals vs us):∀(p:List Nat),(∀i∈p,i<vs.length)->Vals (p.map λi=>vs.getD i .non) (p.map λi=>us.getD i Value.none)
 | [],_=>.nil
 |i::p,h=>by
  have e:=Zd (h i Zl);obtain⟨v,hv,rv⟩:=q.get e;refine .cons ?_ (kB q p λj hj=>h j (Zj _ hj));show RelV (vs.getD i .non) (us.getD i Value.none);rw[eX e,eX hv];exact rv
theorem OS{prog:Program}{w:World}{A:Around}{s':Shared}(I:Inv X pins σ H s)(kp:∀b o,b≠X.env.locals->s.heap.get? b=some o->s'.heap.get? b=some o){k:Nat}{x y:D}{vx vy:V}{ux uy:Value}{c:Bool}{κ:SortKind}(hκ:κ=if k<3 then oneType' else tuples' true)
 (kx:rW x=k)(ky:rW y=k)(k0:k≠0)(rx:RD X.K m H x vx)(ry:RD X.K m H y vy)(sx:RelV vx ux)(sy:RelV vy uy)(e:kM x y=some c){C:Bool->Shared->Prop}(h:C c s'):
 wpAny (model prog w) A (keyLt' κ ux uy) C (λ_ _=>False) s':=by
 obtain⟨mm,hn,_⟩:=id I.loc
 have tup:∀{a b:List D},x=.tup a->y=.tup b->¬k<3->wpAny (model prog w) A (keyLt' κ ux uy) C (λ_ _=>False) s':=λ{a b} ea eb h3=>by
  subst ea eb;rw[if_neg h3] at hκ;subst hκ;obtain⟨a1,vs,its,rfl,q1,p1,t1⟩:=kD I rx sx;obtain⟨a2,us,jts,rfl,q2,p2,t2⟩:=kD I ry sy;obtain⟨o1,g1,_,n1,d1⟩:=iV hn kp t1;obtain⟨o2,g2,_,n2,d2⟩:=iV hn kp t2;exact W.kat_lt g1 d1 g2 d2 (BD (K:=X.K) rfl q1 q2 p1 p2 (by simpa [kM] using e) jts.length its.length (by simp;omega) (by simp) h)
 cases x with
 |int a=>
  cases y with
  |int b=>
   have z:1=k:=kx;subst z;rw[if_pos (by decide)] at hκ;subst hκ;cases rx;cases ry;obtain⟨t,rfl⟩:=sx;obtain⟨t',rfl⟩:=sy;have e':=Zg e;subst e';exact W.kat_lt_int h
  |_=>simp[kM] at e
 |str a=>
  cases y with
  |str b=>
   have z:2=k:=kx;subst z;rw[if_pos (by decide)] at hκ;subst hκ;cases rx;cases ry;obtain⟨t,rfl⟩:=sx;obtain⟨t',rfl⟩:=sy;have e':=Zg e;subst e';exact W.kas_lt_str h
  |_=>simp[kM] at e
 |tup a=>
  cases y with
  |tup b=>
   refine tup rfl rfl λh3=>?_;cases a with
   |nil=>exact k0 kx.symm
   |cons d ds=>cases d<;>first |(exact k0 kx.symm)|(have z:3=k:=kx;omega)|(have z:4=k:=kx;omega)
  |_=>simp[kM] at e
 |_=>simp[kM] at e
theorem FM{prog:Program}{w:World}{A:Around}{s':Shared}(I:Inv X pins σ H s)(kp:∀b o,b≠X.env.locals->s.heap.get? b=some o->s'.heap.get? b=some o){k:Nat}{l:List D}{vs:List V}{its:List Value}(h2:2<=l.length)(hk:∀x∈l,rW x=k)(k0:k≠0)
 (q:RDs X.K m H l vs)(p:Vals vs its){C:SortKind->Shared->Prop}(h:C (if k<3 then oneType' else tuples' true) s'):wpAny (model prog w) A (keyKind' its.toArray) C (λ_ _=>False) s':=by
 obtain⟨mm,hn,_⟩:=id I.loc;have ln:=q.length;have ln2:=p.length
 have mem:∀u∈its,∃x∈l,∃v,RD X.K m H x v/\RelV v u:=λu hu=>by
  obtain⟨i,hi,rfl⟩:=List.mem_iff_getElem.mp hu;obtain⟨x,ex⟩:∃x,l[i]? =some x:=⟨_,Zd (by omega)⟩;obtain⟨v,hv,rv⟩:=q.get ex;obtain⟨u,hu,ru⟩:=p.get hv;rw[Zd hi] at hu;cases hu;exact⟨x,List.mem_of_getElem? ex,v,rv,ru⟩
 by_cases h3:k<3
 ·rw[if_pos h3] at h
  by_cases h1:k=1
  ·refine W.kas_kind (T:=.type "int") (by omega) (λu hu=>?_) (by decide) (by decide) h;obtain⟨x,hx,v,rx,rv⟩:=mem u hu;have:=hk x hx;cases rx<;>first |(exfalso;simp[rW] at this;omega)|skip
   ·obtain⟨t,rfl⟩:=rv;exact .now
   ·rename_i a ds vs' hq q';exfalso;cases ds with
    |nil=>simp[rW] at this;omega
    |cons d ds=>cases d<;>simp[rW] at this<;>omega
  ·have h1:k=2:=by omega
   refine W.kas_kind (T:=.type "str") (by omega) (λu hu=>?_) (by decide) (by decide) h;obtain⟨x,hx,v,rx,rv⟩:=mem u hu;have:=hk x hx;cases rx<;>first |(exfalso;simp[rW] at this;omega)|skip
   ·obtain⟨t,rfl⟩:=rv;exact .now
   ·rename_i a ds vs' hq q';exfalso;cases ds with
    |nil=>simp[rW] at this;omega
    |cons d ds=>cases d<;>simp[rW] at this<;>omega
 ·rw[if_neg h3] at h
  have T:∃T:Value,(T=.type "int"\/T=.type "str")/\∀x∈l,∃d ds,x=.tup (d::ds)/\((T=.type "int"/\∃i,d=.int i)\/(T=.type "str"/\∃i,d=.str i)):=by
   by_cases h4:k=3
   ·refine⟨.type "int",.inl rfl,λx hx=>?_⟩;have:=hk x hx;cases x<;>first |(exfalso;simp[rW] at this;omega)|skip
    rename_i ds;cases ds with
    |nil=>exfalso;simp[rW] at this;omega
    |cons d ds=>cases d<;>first |(exfalso;simp[rW] at this;omega)|exact⟨_,_,rfl,.inl ⟨rfl,_,rfl⟩⟩
   ·refine⟨.type "str",.inr rfl,λx hx=>?_⟩;have:=hk x hx;cases x<;>first |(exfalso;simp[rW] at this;omega)|skip
    rename_i ds;cases ds with
    |nil=>exfalso;simp[rW] at this;omega
    |cons d ds=>cases d<;>first |(exfalso;simp[rW] at this;omega)|exact⟨_,_,rfl,.inr ⟨rfl,_,rfl⟩⟩
  obtain⟨T,hT,hl⟩:=T
  have go:∀{l:List D}{vs:List V}{its:List Value},(∀x∈l,∃d ds,x=.tup (d::ds)/\((T=.type "int"/\∃i,d=.int i)\/(T=.type "str"/\∃i,d=.str i)))->RDs X.K m H l vs->Vals vs its->
   ∃fs,W.KatTups s'.heap its fs/\fs.length=l.length/\∀f∈fs,W.Looks (model prog w) s'.heap (typeOf f) T:=by
   intro l
   induction l with
   |nil=>
    intro vs its _ q p;cases q;cases p;exact⟨[],trivial,rfl,λf hf=>by cases hf⟩
   |cons x l ih=>
    intro vs its hl q p;cases q with
    |cons r q=>
     cases p with
     |cons sv p=>
      obtain⟨fs,f1,f2,f3⟩:=ih (λy hy=>hl y (Zj _ hy)) q p;obtain⟨d,ds,rfl,hd⟩:=hl x Zl;obtain⟨a,vs',its',rfl,q',p',t'⟩:=kD I r sv;obtain⟨o,g1,g2,n,g3⟩:=iV hn kp t';cases q' with
      |cons rd q'=>
       cases p' with
       |cons sd p'=>
        rename_i u us;refine⟨u::fs,W.KatTups.cons g1 g2 g3 (by simp) f1,by simp[f2],λf hf=>?_⟩;rcases List.mem_cons.mp hf with rfl|hf
        ·rcases hd with ⟨rfl,i,rfl⟩|⟨rfl,i,rfl⟩
         ·cases rd;obtain⟨t,rfl⟩:=sd;exact .now
         ·cases rd;obtain⟨t,rfl⟩:=sd;exact .now
        ·exact f3 f hf
  obtain⟨fs,f1,f2,f3⟩:=go hl q p;refine W.kat_kind f1 (by omega) f3 (by rcases hT with rfl|rfl<;>decide) ?_;rw[show(T != Value.type "tuple")=true by rcases hT with rfl|rfl<;>decide];exact h
theorem rB(I:Inv X pins σ H s){h:Hh}(w:Wd X.K m h H){a:Addr}{l l':List D}{vs:List V}(hq:SqL X.K H a vs)(q:RDs X.K m H l vs)(h2:2<=l.length)(h64:l.length<64){k:Nat}(k0:k≠0)(hk:∀x∈l,rW x=k)(hp:l'.Perm l)(hs:l'.Pairwise (Bef kM)){Q:VK}
 (c:∀(p:Addr)(us:List V),H p=none->RDs X.K m H l' us->us.length<=sizeLine->Q (.ref p) (bI H p (.lst us))):wpAny (model X.prog X.w) X.A (call (.builtin "sorted") [.ref a]) (EP X pins σ Q) X.xe s:=by
 obtain⟨its,p1,t1,_⟩:=I.list hq;have l1:=q.length;have l2:=p1.length;obtain⟨mm,F⟩:=I.fr;have hL:H X.env.locals=none:=I.free;refine W.kat_sorted F (rQ (g:=X.base)) t1.isList (by omega) (by omega) λDn e1 h' F' N' ltD=>?_;have D0:=N' (Dn,seqObj "list" #[] e1) Zl
 have notD:∀b o,s.heap.get? b=some o->b≠Dn:=λb o e z=>by
  subst z;exact Nat.lt_irrefl _ (ltD (b,o) (dJ D0.2.1 D0.2.2 e))
 have HD:H Dn=none:=by
  cases e:H Dn with
  |none=>rfl
  |some o=>
   obtain⟨u,hu⟩:=iR (I.hok Dn o e);exact absurd rfl (notD Dn u hu)
 have kp:∀b o,b≠X.env.locals->s.heap.get? b=some o->h'.get? b=some o:=λb o hb e=>by
  cases z:X.base.get? b with
  |some u=>
   have:=I.bk b u z;rw[e] at this;cases this;exact F'.keep b _ z
  |none=>exact(N' (b,o) (Zj _ (dJ hb z e))).1
 refine FM I (s':={s with heap:=h'}) kp h2 hk k0 q p1 ?_
 let L:Nat->Nat->Bool:=λi j=>decide (i≠j)&&(kM (l.getD i .non) (l.getD j .non)==some true)
 have hne:∀i,L i i=false:=λi=>by simp[L]
 have hL':∀(i j:Nat)(x y:D),l[i]? =some x->l[j]? =some y->i≠j->(L i j=true↔kM x y=some true):=λi j x y ex ey ne=>by
  simp[L,ne,ex,ey,List.getD_eq_getElem?_getD]
 have so:=IP hp hs hne hL';have it1:its.length=l.length:=by omega
 rw[it1];refine KOk.wp (λi j C hi hj ne hC=>?_) (vF so h2) λp ⟨hv,hsd⟩=>?_
 ·have ex:l[i]? =some l[i]:=Zd hi;have ey:l[j]? =some l[j]:=Zd hj;obtain⟨vx,hvx,rx⟩:=q.get ex;obtain⟨vy,hvy,ry⟩:=q.get ey;obtain⟨ux,hux,sx⟩:=p1.get hvx;obtain⟨uy,huy,sy⟩:=p1.get hvy
  have lt:kM l[i] l[j]=some (L i j):=by
   obtain⟨a1,b1⟩:=fT hp ex;obtain⟨a2,b2⟩:=fT hp ey;have nd:l.Nodup:=hp.nodup_iff.mp (nQ hs)
   have na:a1≠a2:=λz=>by
    subst z;rw[b1] at b2;have e2:=Zg b2;exact ne (iC nd ex (by rw[e2];exact ey))
   rcases Nat.lt_or_gt_of_ne na with z|z
   ·have bf:=(jX hs b1 b2 na).2 z;rw[bf.1,(hL' i j _ _ ex ey ne).mpr bf.1]
   ·have bf:=(jX hs b2 b1 (Ne.symm na)).2 z
    have:L i j=false:=by
     cases e:L i j with
     |false=>rfl
     |true=>
      have:=(hL' i j _ _ ex ey ne).mp e;rw[bf.2] at this;cases this
    rw[bf.2,this]
  show wpAny _ _ (keyLt' _ (its.getD i Value.none) (its.getD j Value.none)) C _ _;rw[eX hux,eX huy];exact OS I (s':={s with heap:=h'}) kp rfl (hk _ (List.mem_of_getElem? ex)) (hk _ (List.mem_of_getElem? ey)) k0 rx ry sx sy lt hC
 ·have pl:∀i∈p.toList,i<l.length:=λi hi=>List.mem_range.mp (hv.mem_iff.mp hi);have out:=AZ hp hs hL' hv hsd D.non;have rd:=q.pick p.toList pl;rw[out] at rd;have vl:=kB p1 p.toList (λi hi=>by have:=pl i hi;omega);have hz:=hv.size;have lz:(p.toList.map λi=>vs.getD i .non).length<=sizeLine:=by rw[Zc,Array.length_toList,hz,sizeLine_eq];omega
  refine⟨_,_,F',N',.head (λr hr=>Nat.ne_of_lt (ltD r hr)),λh2 cc F2 N2=>?_⟩
  have kp2:∀b o,b≠X.env.locals->s.heap.get? b=some o->h2.get? b=some o:=λb o hb e=>by
   cases z:X.base.get? b with
   |some u=>
    have:=I.bk b u z;rw[e] at this;cases this;exact F2.keep b _ z
   |none=>exact(N2 (b,o) (Zj _ (dJ hb z e))).1
  have D2:=N2 (Dn,_) Zl;have tr:∀b o,H b=some o->b≠Dn/\b≠X.env.locals:=λb o e=>⟨(λz=>by rw[z,HD] at e;cases e),(λz=>by rw[z,hL] at e;cases e)⟩
  suffices IX:Inv X pins σ (bI H Dn (.lst (p.toList.map λi=>vs.getD i .non))) {s with heap:=h2,gens:=s.gens,drawn:=s.drawn,toks:=s.toks} from
   ⟨.ref Dn,bI H Dn (.lst (p.toList.map λi=>vs.getD i .non)),IX,rfl,c Dn _ HD rd lz⟩
  refine L2.Inv.step (s:=s) (g':=s.gens) (d':=s.drawn) (t':=s.toks) (ch:= []) I (λ_ z=>nomatch z) (λb o hb _ _ e _=>kp2 b o hb e) (λb o hb _ _ e _=>⟨o.slots,kp2 b o hb e⟩) (λb o _ e n=>by rw[aK (notD b o e)];exact n) (λb o _ e=>?_) (λb xs e=>by rw[aK (tr b _ e).1];exact e) (λb o u e=>by rw[aK (tr b _ e).1];exact e)
   (λb ps e=>⟨#[],by rw[aK (tr b _ e).1,e];simp⟩) (λm' hm=>?_) (λb o e=>?_) I.bare
  ·by_cases hb:b=X.env.locals
   ·subst hb;obtain⟨o',_,_,e',_⟩:=F2.ns;exact⟨o',e'⟩
   ·exact⟨o,kp2 b o hb e⟩
  ·have:m'=mm:=funext λx=>hm.agree F.ns x;rw[this];exact F2.ns
  ·by_cases hb:b=Dn
   ·subst hb;rw[aS] at e;cases e;exact⟨lz,_,cc,vl,D2.1⟩
   ·rw[aK hb] at e;refine(I.hok b o e).stay (λb' u hb' e'=>kp2 b' u ?_ e') (λb' e'=>by rw[aK (tr b' _ e').1];exact e') λb' xs e'=>by rw[aK (tr b' _ e').1];exact e'
    rcases hb' with z|z
    ·rw[z];exact(tr b _ e).2
    ·exact(tr b' _ z).2
end
section
variable {X:Cx}
noncomputable def lY:D->Hh->Option String
 |.non,_=>some "NoneType"
 |d,h=>(UQ d h).map Ty.nm
theorem mY{K:W.Frag}{d:D}{h:Hh}{T:String}{b:Bool}(e:lA d T h=some b):∃t,lY d h=some t/\W.kitOne K (.type t) (.type T)=some b:=by
 unfold lA at e;split at e
 ·split at e
  ·rename_i hT;have eb:=Zg e;subst eb;refine⟨"NoneType",rfl,?_⟩;simp[fP] at hT;rcases hT with rfl|rfl|rfl|rfl|rfl|rfl<;>rfl
  ·cases e
 ·rename_i hn;split at e
  ·rename_i t et;split at e
   ·rename_i hT;have eb:=Zg e;subst eb;refine⟨t.nm,?_,?_⟩
    ·cases d<;>first |(exact absurd rfl hn)|(simp[lY,et])
    ·simp[fP] at hT;cases t<;>rcases hT with rfl|rfl|rfl|rfl|rfl|rfl<;>rfl
   ·cases e
  ·cases e
theorem JF{pins:List (Addr×Obj)}{σ:Sg}{H:Hp}{s:Shared}{m:List Addr}{h:Hh}(I:Inv X pins σ H s)(w:Wd X.K m h H){d:D}{v:V}{u:Value}{t:String}(r:RD X.K m H d v)(rv:RelV v u)(e:lY d h=some t):
 ∃P:Heap->Prop,W.KitX X.K u (.type t) P/\P s.heap/\u≠ .builtin "__main__.__loader__#opaque":=by
 cases r with
 |non=>cases rv;cases e;exact⟨_,W.kitx_none,trivial,λz=>nomatch z⟩
 |bl c=>cases rv;cases e;exact⟨_,W.kitx_bool,trivial,λz=>nomatch z⟩
 |int i=>obtain⟨t',rfl⟩:=rv;cases e;exact⟨_,W.kitx_int,trivial,λz=>nomatch z⟩
 |str x=>obtain⟨t',rfl⟩:=rv;cases e;exact⟨_,W.kitx_str,trivial,λz=>nomatch z⟩
 |ty n=>cases e
 |tup h1 q=>
  cases rv;cases e;obtain⟨its,p1,⟨o,h2,h3,_⟩,_⟩:=I.tuple h1;exact⟨_,W.kitx_tuple,⟨o,h2,h3⟩,λz=>nomatch z⟩
 |ref ha=>
  rename_i n a;cases rv;simp only[lY,UQ] at e;cases z:aI h n with
  |none=>rw[z] at e;cases e
  |some l=>
   rw[z] at e;have e':"list"=t:=Zg e;subst e';obtain⟨a',vs,ha',hq,q⟩:=w.lst z;rw[ha] at ha';cases ha';obtain⟨its,p1,⟨o,k,h2,h3,_⟩,_⟩:=I.list hq;exact⟨_,W.kitx_list,⟨o,h2,h3⟩,λz=>nomatch z⟩
theorem zA{x y:V}{us:List Value}(r:Vals [x,y] us):∃u v,us=[u,v]/\RelV x u/\RelV y v:=by
 cases r with
 |cons a t=>cases t with
  |cons b t=>cases t;exact⟨_,_,rfl,a,b⟩
theorem gN{K:W.Frag}{m:List Addr}{H:Hp}{k:D->Hh->Rs D}{ds:List D}{xs:List V}{h h':Hh}{d:D}(r:RDs K m H ds xs)(e:one k ds h=.ok d h'):∃x v,xs=[v]/\RD K m H x v/\k x h=.ok d h':=by
 cases r with
 |nil=>cases e
 |cons r1 r=>
  cases r with
  |nil=>exact⟨_,_,rfl,r1,e⟩
  |cons=>cases e
theorem KW{K:W.Frag}{m:List Addr}{H:Hp}{k:D->D->Hh->Rs D}{ds:List D}{xs:List V}{h h':Hh}{d:D}(r:RDs K m H ds xs)(e:two k ds h=.ok d h'):∃x y v u,xs=[v,u]/\RD K m H x v/\RD K m H y u/\k x y h=.ok d h':=by
 cases r with
 |nil=>cases e
 |cons r1 r=>
  cases r with
  |nil=>cases e
  |cons r2 r=>
   cases r with
   |nil=>exact⟨_,_,_,_,rfl,r1,r2,e⟩
   |cons=>cases e
theorem qU{K:W.Frag}{m:List Addr}{H:Hp}:∀{ds:List D}{vs:List V}{us:List Value}{Ts:List String},RDs K m H ds vs->Vals vs us->qV ds=some Ts->us=Ts.map Value.type
 |_,_,_,_,.nil,.nil,e=>by
  have e':=Zg e;subst e';rfl
 |_,_,_,_,.cons r q,.cons v t,e=>by
  cases r<;>first |(cases e;done)|skip
  simp only[qV] at e;split at e
  ·rename_i l el;have e':=Zg e;subst e';cases v;rw[qU q t el];rfl
  ·cases e
theorem lB{K:W.Frag}{d:D}{h:Hh}{t:String}(et:lY d h=some t):∀{Ts:List String}{b:Bool},iA d h Ts=some b->W.kitAny K (.type t) (Ts.map Value.type)=some b
 | [],b,e=>e
 |T::r,b,e=>by
  simp only[iA] at e;split at e
  ·rename_i a c e1 e2;have e':=Zg e;subst e';obtain⟨t',et',ek⟩:=mY (K:=K) e1;rw[et] at et';cases et';have ih:=lB (K:=K) et e2;simp only[Zh,W.kitAny,ek,ih];cases a<;>rfl
  ·cases e
noncomputable def Blt.val:Blt->Value
 |.len=>.builtin "len"|.isinst=>.builtin "isinstance"|.int=>.type "int"|.list=>.type "list"|.max=>.builtin "max"|.min=>.builtin "min"|.sorted=>.builtin "sorted"|.all=>.builtin "all"|.tup=>.type "tuple"
theorem nB{K:W.Frag}{m:List Addr}{H:Hp}:∀{ds:List D}{vs:List V}{l:List Int},RDs K m H ds vs->sB ds=some l->vs=l.map V.int
 |_,_,_,.nil,e=>by cases e;rfl
 |_,_,l,.cons r t,e=>by
  cases r<;>first |(cases e;done)|skip
  rename_i i;simp only[sB,Option.map_eq_some_iff] at e;obtain⟨l',e1,rfl⟩:=e;rw[nB t e1];rfl
theorem iT{m:List Addr}{h:Hh}{H:Hp}{K:W.Frag}(w:Wd K m h H){d:D}{v:V}{l:List D}(r:RD K m H d v)(hl:cO d h=true)(e:dO d h=some l):∃p vs,v=.ref p/\SqL K H p vs/\RDs K m H l vs:=by
 cases r<;>first |(cases hl;done)|skip
 rename_i n a ha;obtain⟨a',vs,ha',hq,q⟩:=w.lst (show aI h n=some l from e);rw[ha] at ha';cases ha';exact⟨a,vs,rfl,hq,q⟩
theorem wS(hc:X.calm=true)(hr:∃k,Room k X.A)(mx:Bool):dN X (.builtin (if mx then "max" else "min")) (LM X.K (wR mx)):=by
 intro pins s σ H xs us Q I rs q;obtain⟨m,h,ds,d,h',w,r,e,c⟩:=q;have fin:∀z,RD X.K m H d z->h=h'->Q z H:=λz rz eh=>by subst eh;exact c m z H Gr.refl w rz
 cases r with
 |nil=>cases e
 |cons r1 r=>
  cases r with
  |nil=>cases e
  |cons r2 r=>
   cases r with
   |cons=>cases e
   |nil=>
    cases r1<;>first |(cases e;done)|skip
    rename_i i;cases r2<;>first |(cases e;done)|skip
    rename_i j;simp[wR] at e;obtain⟨rfl,rfl⟩:=e;cases mx with
    |true=>exact yL hc pins s σ H _ us Q I rs ⟨i,j,rfl,fin _ (.int _) rfl⟩
    |false=>exact yK hc pins s σ H _ us Q I rs ⟨i,j,rfl,fin _ (.int _) rfl⟩
theorem EH:dN X (.builtin "sorted") (LM X.K (one zN)):=by
 intro pins s σ H xs us Q I rs q;obtain⟨m,h,ds,d,h',w,r,e,c⟩:=q;obtain⟨x,v,rfl,r1,e⟩:=gN r e;unfold zN at e;split at e
 ·rename_i l hl el;split at e
  ·rename_i l' es;simp at e;obtain⟨rfl,rfl⟩:=e;obtain⟨⟨h64,hk⟩,hp,hs⟩:=pK es;obtain⟨p,vs,rfl,hq,q⟩:=iT w r1 hl el;obtain⟨u,rfl,ru⟩:=gE rs;cases ru
   have fin:∀(p:Addr)(us:List V),H p=none->RDs X.K m H l' us->us.length<=sizeLine->Q (.ref p) (bI H p (.lst us)):=λp us hp rd _=>by
    obtain⟨w2,g2⟩:=w.lstNew hp rd;exact c _ _ _ g2 w2 (.ref (by rw[<- w.len];simp))
   by_cases h2:2<=l.length
   ·rcases hk with z|⟨k,k0,hk⟩
    ·omega
    ·exact rB I w hq q h2 h64 k0 hk hp hs fin
   ·obtain⟨its,p1,t1,_⟩:=I.list hq;have l1:=q.length;have l2:=p1.length
    have ell:l'=l:=by
     have:=hp.length_eq;rcases l with _|⟨x,_|⟨y,l⟩⟩
     ·exact List.perm_nil.mp hp
     ·exact List.perm_singleton.mp hp
     ·simp at h2
    subst ell;refine tF t1.isList (by omega) ?_;obtain⟨e1,ho⟩:=sortedAll_at s.heap its its.toArray;have kp:∀b o,s.heap.get? b=some o->(sortedAll s.heap its its.toArray).get? b=some o:=λb o e=>sortedAll_old e;have fr:H (s.heap.objs.size+1)=none:=I.hok.fresh (Nat.le_succ _);have lz:vs.length<=sizeLine:=by rw[sizeLine_eq];omega
    exact⟨.ref _,_,I.laid (t':=s.toks) (o:=.lst vs) kp (Nat.le_succ _) ⟨lz,its,e1,p1,ho⟩,rfl,fin _ vs fr q lz⟩
  ·cases e
 ·cases e
theorem wQ{K:W.Frag}{m:List Addr}{H:Hp}:∀{ds:List D}{vs:List V}{us:List Value}{l:List Bool},RDs K m H ds vs->Vals vs us->yO ds=some l->us=l.map Value.bool
 |_,_,_,_,.nil,.nil,e=>by cases e;rfl
 |_,_,_,_,.cons r q,.cons v t,e=>by
  cases r<;>first |(cases e;done)|skip
  simp only[yO,Option.map_eq_some_iff] at e;obtain⟨l,e1,rfl⟩:=e;cases v;rw[wQ q t e1];rfl
theorem xH{bs:List Bool}:(List.range bs.length).all (λi=>bs.getD i false)=bs.all id:=by
 induction bs with
 |nil=>rfl
 |cons b bs ih=>
  rw[List.length_cons,List.range_succ_eq_map,List.all_cons,List.all_map,List.all_cons];congr 1
theorem OU(hc:X.calm=true):dN X (.builtin "all") (LM X.K (one DV)):=by
 intro pins s σ H xs us Q I rs q;obtain⟨m,h,ds,d,h',w,r,e,c⟩:=q;obtain⟨x,v,rfl,r1,e⟩:=gN r e;unfold DV at e;split at e
 ·rename_i l hl el;split at e
  ·rename_i bs eb;simp at e;obtain⟨rfl,rfl⟩:=e;obtain⟨p,vs,rfl,hq,q⟩:=iT w r1 hl el;obtain⟨u,rfl,ru⟩:=gE rs;cases ru;obtain⟨its,p1,t1,_⟩:=I.list hq;have ei:=wQ q p1 eb;subst ei;refine call_all_walk (wpAny_pyIter_list t1.isList ?_);obtain⟨h1,h2,h3,h4⟩:=BB (A:=X.A.in1) (prog:=X.prog) (w:=X.w) (s:=s) (I.ok.hd hc) t1.isList;refine⟨_,_,_,_,_,_,λi=>bs.getD i false,rfl,h1,h2,?_,λg tk kp=>⟨.bl (bs.all id),H,I.kept (h4 g kp),?_,c m _ H Gr.refl w (.bl _)⟩⟩
   ·intro i v s' Q' E' hv hQ;have hv':(bs.map Value.bool)[i]? =some v:=by simpa using hv
    rw[Zi,Option.map_eq_some_iff] at hv';obtain⟨b,hb,rfl⟩:=hv';have:bs.getD i false=b:=by rw[List.getD_eq_getElem?_getD,hb];rfl
    have hQ':Q' (bs.getD i false) s':=hQ;rw[this] at hQ';exact wpAny_truthy_bool hQ'
   ·have:(bs.map Value.bool).toArray.size=bs.length:=by simp
    rw[this,xH];rfl
  ·cases e
 ·cases e
theorem HK(hc:X.calm=true)(hr:∃k,Room k X.A)(f:Blt):dN X f.val (LM X.K (fG f)):=by
 by_cases hm:f=.max
 ·subst hm;exact wS hc hr true
 by_cases hm':f=.min
 ·subst hm';exact wS hc hr false
 by_cases hm2:f=.sorted
 ·subst hm2;exact EH
 by_cases hm3:f=.all
 ·subst hm3;exact OU hc
 intro pins s σ H xs us Q I rs q;obtain⟨m,h,ds,d,h',w,r,e,c⟩:=q;have fin:∀z,RD X.K m H d z->h=h'->Q z H:=λz rz eh=>by subst eh;exact c m z H Gr.refl w rz
 cases f with
 |max=>exact absurd rfl hm
 |min=>exact absurd rfl hm'
 |sorted=>exact absurd rfl hm2
 |len=>
  obtain⟨x,v,rfl,r1,e⟩:=gN r e;unfold RJ at e;split at e
  ·rename_i l el;simp at e;obtain⟨rfl,rfl⟩:=e;obtain⟨p,vs,rfl,hq,q⟩:=mH w r1 el;refine qL pins s σ H _ us Q I rs ⟨p,vs,rfl,hq,?_⟩;rw[<- q.length];exact fin _ (.int _) rfl
  ·split at e
   ·split at e
    ·rename_i hz;cases e;cases r1;exact qK pins s σ H _ us Q I rs ⟨_,rfl,hz,fin _ (.int _) rfl⟩
    ·cases e
   ·split at e
    ·rename_i l el;simp at e;obtain⟨rfl,rfl⟩:=e;obtain⟨n,a,xs,us',o,es,ep,rfl,rfl,hn,ha,hf,df,go,hk,hks,rv,vv,dd⟩:=qF I w r1 el;obtain⟨u,rfl,ru⟩:=gE rs;cases ru;obtain⟨d1,d2,d3,d4,⟨P,w',d5⟩,d6⟩:=df
     have ez:es.size=l.length:=by
      have z1:=congrArg List.length d5;have z2:=congrArg List.length hk;simp at z1 z2;omega
     have zl:l.length=xs.length:=by have z2:=congrArg List.length hk;simpa using z2
     refine yN d1 go d3 d4 (by omega) ⟨.int es.size,H,I.tok _,⟨_,rfl⟩,?_⟩;rw[ez];exact fin _ (.int _) rfl
    ·split at e
     ·rename_i l el;simp at e;obtain⟨rfl,rfl⟩:=e;obtain⟨n,a,kvs,rfl,rfl,hn,ha,hH,q2,_⟩:=dF w r1 el;have ll:l.length=kvs.length:=by have:=congrArg List.length q2;simpa using this
      refine yM pins s σ H _ _ Q I rs ⟨a,kvs,rfl,hH,?_⟩;rw[<- ll];exact fin _ (.int _) rfl
     ·cases e
 |all=>exact absurd rfl hm3
 |tup=>
  obtain⟨x,v,rfl,r1,e⟩:=gN r e;unfold xC at e;split at e
  ·rename_i l hl el;simp at e;obtain⟨rfl,rfl⟩:=e;obtain⟨p,vs,rfl,hq,q⟩:=iT w r1 hl el;exact oA pins s σ H _ us Q I rs ⟨p,vs,rfl,.inl ⟨hq,λa ha=>c m _ _ (Gr.tupNew ha) (w.keepNew ha) (.tup (.of aS) (q.mono (Gr.tupNew ha)))⟩⟩
  ·cases e
 |int=>
  obtain⟨x,v,rfl,r1,e⟩:=gN r e;cases r1<;>first |(cases e;done)|skip
  ·cases e;exact pA pins s σ H _ us Q I rs (.inr ⟨_,rfl,fin _ (.int _) rfl⟩)
  ·cases e;exact pA pins s σ H _ us Q I rs (.inl ⟨_,rfl,fin _ (.int _) rfl⟩)
 |list=>
  obtain⟨x,v,rfl,r1,e⟩:=gN r e;unfold JD at e;split at e
  ·rename_i l el;simp at e;obtain⟨rfl,rfl⟩:=e;obtain⟨p,vs,rfl,hq,q⟩:=mH w r1 el;refine qJ pins s σ H _ us Q I rs ⟨p,vs,rfl,hq,λa ha=>?_⟩;obtain⟨w2,g2⟩:=w.lstNew ha q;exact c _ _ _ g2 w2 (.ref (by rw[<- w.len];simp))
  ·cases e
 |isinst=>
  obtain⟨x,y,v,u,rfl,r1,r2,e⟩:=KW r e;obtain⟨u1,u2,rfl,rv1,rv2⟩:=zA rs;cases r2<;>first |(cases e;done)|skip
  ·rename_i T;cases rv2;simp only[cH] at e;split at e
   ·rename_i b eb;simp at e;obtain⟨rfl,rfl⟩:=e;obtain⟨t,et,ek⟩:=mY (K:=X.K) eb;obtain⟨P,Z,hP,hx⟩:=JF I w r1 rv1 et;exact W.kia_one Z I.kIn hP ek hx λtk=>⟨.bl b,H,I.tok tk,rfl,fin _ (.bl b) rfl⟩
   ·cases e
  ·rename_i a ds vs h1 q1;cases rv2;simp only[cH] at e;split at e
   ·cases e
   ·rename_i T Ts eT;split at e
    ·rename_i b eb;simp at e;obtain⟨rfl,rfl⟩:=e
     have e1:∃k,lA x T h=some k:=by
      simp only[iA] at eb;split at eb
      ·rename_i z _;exact⟨_,z⟩
      ·cases eb
     obtain⟨k,e1⟩:=e1;obtain⟨t,et,_⟩:=mY (K:=X.K) e1;obtain⟨P,Z,hP,hx⟩:=JF I w r1 rv1 et;obtain⟨its,p1,⟨⟨oc,od,odt,osl⟩,h2,h3,n,h4⟩,_⟩:=I.tuple h1;simp only at h3 h4;subst h3 h4;rw[qU q1 p1 eT] at h2;exact W.kia_tup Z I.kIn hP h2 (lB et eb) hx λtk=>⟨.bl b,H,I.tok tk,rfl,fin _ (.bl _) rfl⟩
    ·cases e
   ·cases e
end
section
variable {X:Cx}{N:List Str}{sc:Scope}{G:Gs}{cl:Cl}
theorem vC{x:Str}(h:yY sc x=true):UH sc x:=by
 unfold yY at h;split at h
 ·rename_i e;exact .inl e
 ·rename_i e;exact .inr (.inl e)
 ·rename_i e;exact .inr (.inr e)
 ·cases h
theorem fV{x:Str}(h:iH sc x=true):DY sc x:=by
 unfold iH at h;split at h
 ·rename_i e;exact .inl e
 ·rename_i e;exact .inr e
 ·cases h
theorem cR(xo:XOk X N sc){x:Str}(h:lE sc x=true):Gl X x:=by
 unfold lE at h;split at h
 ·rename_i e;show X.env.scope.names.lookup x=some .globalImplicit;rw[xo.s];exact e
 ·cases h
theorem cD{x:Str}(h:cS x=true):(x==("__debug__":Str))=false/\(x==("__classdict__":Str))=false/\x≠"__name__":=by
 unfold cS at h;simp only[Bool.and_eq_true,Bool.not_eq_true'] at h;exact⟨h.1.1,h.1.2,λz=>by have:=h.2;rw[z] at this;simp at this⟩
theorem hE{e:Expr}{f:Ev->Hh->Rs D}(h:PE X e (TDE X.K f))(he:∀whole,isTrue e X.env whole=(do let v <- whole;standAt e.pos;holding [v] (truthy v))):PT X e (C5 X.K f):=
 L2.PT.wk (rO h he) λs H Q ⟨m,r,hh,d,h',b,w,st,e1,eb,c⟩=>⟨m,r,hh,d,h',w,st,e1,λm' v H' g w' rd=>⟨b,kF w' rd eb,c m' H' g w'⟩⟩
theorem ND{x d:D}{l:List (bQ×D)}{n:Bool}{h h':Hh}(e:DX x l n h=.ok d h'):∃k,d=.bl k:=by
 unfold DX at e;split at e<;>first |(cases e;exact⟨_,rfl⟩)|(cases e;done)
theorem NE{x d:D}{l:List D}{n:Bool}{h h':Hh}(e:JI x l n h=.ok d h'):∃k,d=.bl k:=by
 unfold JI at e;split at e<;>first |(cases e;exact⟨_,rfl⟩)|(cases e;done)
theorem lR{op:Cop}{x y d:D}{h h':Hh}(e:cG op x y h=.ok d h'):∃k,d=.bl k:=by
 unfold cG at e
 repeat' split at e
 all_goals first
  |(cases e;exact⟨_,rfl⟩)
  |exact ND e
  |exact NE e
  |(cases e;done)
def QD(K:W.Frag)(ta tb:TE):TE:=λσ H Q=>ta σ H λx H1=>∃k,uY K x H1 k/\if k=true then tb σ H1 Q else Q x H1
def VY(K:W.Frag)(ta tb:TE):TE:=λσ H Q=>ta σ H λx H1=>∃k,uY K x H1 k/\if k=true then Q x H1 else tb σ H1 Q
def QA(K:W.Frag)(ta:TE):TE:=λσ H Q=>ta σ H λx H1=>∃k,uY K x H1 k/\Q (.bl (!k)) H1
theorem mB{pins:List (Addr×Obj)}{s:Shared}{σ:Sg}{H:Hp}{x:V}{v:Value}{k:Bool}{Q:Bool->Shared->Prop}(I:Inv X pins σ H s)(r:RelV x v)(t:uY X.K x H k)(h:∀s',Inv X pins σ H s'->Q k s'):wpAny (model X.prog X.w) X.A (truthy v) Q X.xe s:=
 bM (zH pins s σ H x v (λb H'=>b=k/\H'=H) I r ⟨k,t,rfl,rfl⟩) λb s' ⟨H',I',e1,e2⟩=>by subst e1;subst e2;exact h s' I'
theorem vR{a b:Expr}{rest:List Expr}{pos:Pos}{ta tb:TE}(ha:PE X a ta)(hb:PE X (.BoolOp .And (b::rest) pos) tb):PE X (.BoolOp .And (a::b::rest) pos) (QD X.K ta tb):=by
 intro pins s σ H Q I h;refine BoolOp_and (bM (ha pins s σ H _ I h) λv s1 ⟨x,H1,I1,r1,k,t,q1⟩=>?_);refine mB I1 r1 t λs2 I2=>?_;cases k with
 |true=>exact hb pins s2 σ H1 Q I2 q1
 |false=>exact⟨x,H1,I2,r1,q1⟩
theorem LY{a b:Expr}{rest:List Expr}{pos:Pos}{ta tb:TE}(ha:PE X a ta)(hb:PE X (.BoolOp .Or (b::rest) pos) tb):PE X (.BoolOp .Or (a::b::rest) pos) (VY X.K ta tb):=by
 intro pins s σ H Q I h;refine BoolOp_or (bM (ha pins s σ H _ I h) λv s1 ⟨x,H1,I1,r1,k,t,q1⟩=>?_);refine mB I1 r1 t λs2 I2=>?_;cases k with
 |false=>exact hb pins s2 σ H1 Q I2 q1
 |true=>exact⟨x,H1,I2,r1,q1⟩
theorem vO{a:Expr}{pos:Pos}{ta:TE}(ha:PE X a ta):PE X (.UnaryOp .Not a pos) (QA X.K ta):=by
 intro pins s σ H Q I h;refine UnaryOp_ (bM (ha pins s σ H _ I h) λv s1 ⟨x,H1,I1,r1,k,t,q1⟩=>?_);exact not_of (mB I1 r1 t λs2 I2=>⟨.bl (!k),H1,I2,rfl,q1⟩)
theorem zY{op:BoolOp}{vs:List Expr}{pos:Pos}{t:TT}(h:PT X (.BoolOp op vs pos) t):PW X (.BoolOp op vs pos) t:=λwh pins s σ H Q I q=>by
 have:=h pins s σ H Q I q;exact this
theorem aW{e:Expr}(es:List Expr)(h:dQ e=true):starEach (e::es) X.env=(false,eval e X.env)::starEach es X.env:=by
 cases e<;>first |rfl|(cases h;done)
end
theorem vD:∀{vs:List V}{us:List Value},vs.length=us.length->(∀(k:Nat) u,us[k]? =some u->∃v,vs[k]? =some v/\RelV v u)->Vals vs us
 | [],[],_,_=>.nil
 | [],_::_,h,_=>by simp at h
 |_::_,[],h,_=>by simp at h
 |v::vs,u::us,h,k=>by
  obtain⟨v',e,r⟩:=k 0 u rfl;simp at e;subst e;exact .cons r (vD (by simpa using h) λj u' hu=>k (j+1) u' (by simpa using hu))
section
variable {X:Cx}
end
noncomputable def Es.len:Es->Nat
 |.nil=>0
 |.cons _ l=>l.len+1
section
variable {X:Cx}
end
noncomputable def dH(env:Env)(p:Str×NameKind)(cs:List (Str×Addr)):List (Str×Addr):=if(p.2== .free)=true then(match env.cells.lookup p.1 with|some c=>(p.1,c)::cs|none=>cs) else cs
noncomputable def lL(scope:Scope)(env:Env):List (Str×Addr):=scope.names.foldl (λcs p=>dH env p cs) []
theorem nF{f:Str×NameKind->List (Str×Addr)->Sem (ForInStep (List (Str×Addr)))}{g:Str×NameKind->List (Str×Addr)->List (Str×Addr)}:∀(l:List (Str×NameKind))(acc:List (Str×Addr)),(∀p∈l,∀cs,f p cs=pure (.yield (g p cs)))->forIn l acc f=pure (l.foldl (λcs p=>g p cs) acc)
 | [],acc,_=>rfl
 |p::l,acc,h=>by
  rw[List.forIn_cons,h p Zl]
  show(forIn l (g p acc) f)=_
  rw[nF l (g p acc) λq hq=>h q (Zj _ hq)];rfl
theorem gB{scope:Scope}{env:Env}(h:∀p∈scope.names,p.2=.free->∃c,env.cells.lookup p.1=some c):closureFor scope env=pure (lL scope env):=by
 simp only[closureFor]
 rw[nF (g:=dH env) scope.names [] (λp hp cs=>by
  obtain⟨n,k⟩:=p;cases hk:(k==NameKind.free) with
  |false=>(simp only[hk,dH,Bool.false_eq_true,if_false]<;>rfl)
  |true=>
   obtain⟨c,hc⟩:=h (n,k) hp (by simpa using hk)
   (simp only[hk,dH,if_true,hc,cellOf]<;>rfl))]
 rfl
theorem DH{env:Env}:∀(l:List (Str×NameKind))(acc:List (Str×Addr)),(∀q∈acc,env.cells.lookup q.1=some q.2)->∀q∈l.foldl (λcs p=>dH env p cs) acc,env.cells.lookup q.1=some q.2
 | [],acc,h=>h
 |p::l,acc,h=>DH l (dH env p acc) λq hq=>by
  unfold dH at hq;split at hq
  ·split at hq
   ·rename_i c hc;rcases List.mem_cons.mp hq with rfl|hq
    ·exact hc
    ·exact h q hq
   ·exact h q hq
  ·exact h q hq
theorem DG{env:Env}:∀(l:List (Str×NameKind))(acc:List (Str×Addr))(q:Str×Addr),q∈acc->q∈l.foldl (λcs p=>dH env p cs) acc
 | [],acc,q,h=>h
 |p::l,acc,q,h=>DG l (dH env p acc) q (by
  unfold dH;split
  ·split
   ·exact Zj _ h
   ·exact h
  ·exact h)
theorem DI{env:Env}:∀(l:List (Str×NameKind))(acc:List (Str×Addr))(n:Str)(c:Addr),(n,NameKind.free)∈l->env.cells.lookup n=some c->(n,c)∈l.foldl (λcs p=>dH env p cs) acc
 | [],_,_,_,h,_=>by cases h
 |p::l,acc,n,c,h,hc=>by
  rcases List.mem_cons.mp h with rfl|h
  ·refine DG l (dH env (n,NameKind.free) acc) (n,c) ?_;unfold dH;rw[if_pos (by rfl)];simp only[hc];exact Zl
  ·exact DI l _ n c h hc
theorem eD{α:Type}{n:Str}{c:α}:∀{l:List (Str×α)},(n,c)∈l->∃c',l.lookup n=some c'
 | [],h=>by cases h
 |(m,d)::l,h=>by
  cases e:n==m with
  |true=>exact⟨d,by simp[List.lookup_cons,e]⟩
  |false=>
   rcases List.mem_cons.mp h with z|z
   ·cases z;simp at e
   ·obtain⟨c',hc'⟩:=eD z;exact⟨c',by simp only[List.lookup_cons,e];exact hc'⟩
theorem bO{scope:Scope}{env:Env}{n:Str}{c:Addr}(h:(lL scope env).lookup n=some c):env.cells.lookup n=some c:=
 DH scope.names [] (λ_ hq=>by cases hq) (n,c) (PySem.mem_of_lookup h)
theorem sN{scope:Scope}{env:Env}{n:Str}{c:Addr}(h:(n,NameKind.free)∈scope.names)(hc:env.cells.lookup n=some c):(lL scope env).lookup n=some c:=by
 obtain⟨c',hc'⟩:=eD (DI scope.names [] n c h hc);have:=bO hc';rw[hc] at this;cases this;exact hc'
theorem pP{scope sc:Scope}{x:Str}{k':NameKind}(h:(cN scope sc).names.lookup x=some k'):∃k,scope.names.lookup x=some k/\(k'=k\/(k=.free/\k'=.cell)):=by
 unfold cN at h
 have go:∀(l:List (Str×NameKind)),(l.map λ(n,k)=>if(k== .free&&sc.kind== .function&&sc.names.lookup n==some .cell) then(n,NameKind.cell) else(n,k)).lookup x=some k'->∃k,l.lookup x=some k/\(k'=k\/(k=.free/\k'=.cell)):=by
  intro l
  induction l with
  |nil=>intro h;simp at h
  |cons p l ih=>
   intro h;obtain⟨n,k⟩:=p;cases e:x==n with
   |true=>
    refine⟨k,by simp[List.lookup_cons,e],?_⟩;simp only[Zh] at h
    by_cases hc:(k== .free&&sc.kind== .function&&sc.names.lookup n==some .cell)=true
    ·rw[if_pos hc] at h;simp only[List.lookup_cons,e] at h;simp only[Bool.and_eq_true,beq_iff_eq] at hc;exact .inr ⟨hc.1.1,(Zg h).symm⟩
    ·rw[if_neg hc] at h;simp only[List.lookup_cons,e] at h;exact .inl (Zg h).symm
   |false=>
    simp only[Zh] at h
    have h':(l.map λ(n,k)=>if(k== .free&&sc.kind== .function&&sc.names.lookup n==some .cell) then(n,NameKind.cell) else(n,k)).lookup x=some k':=by
     by_cases hc:(k== .free&&sc.kind== .function&&sc.names.lookup n==some .cell)=true
     ·rw[if_pos hc] at h;simp only[List.lookup_cons,e] at h;exact h
     ·rw[if_neg hc] at h;simp only[List.lookup_cons,e] at h;exact h
    obtain⟨k2,e2,e3⟩:=ih h';exact⟨k2,by simp only[List.lookup_cons,e];exact e2,e3⟩
 exact go scope.names h
theorem tH{scope sc:Scope}{x:Str}(h:scope.names.lookup x=some .free)(hk:sc.kind=.function)(hc:sc.names.lookup x=some .cell):(cN scope sc).names.lookup x=some .cell:=by
 unfold cN
 have go:∀(l:List (Str×NameKind)),l.lookup x=some .free->(l.map λ(n,k)=>if(k== .free&&sc.kind== .function&&sc.names.lookup n==some .cell) then(n,NameKind.cell) else(n,k)).lookup x=some .cell:=by
  intro l
  induction l with
  |nil=>intro h;simp at h
  |cons p l ih=>
   intro h;obtain⟨n,k⟩:=p;cases e:x==n with
   |true=>
    have ex:x=n:=by simpa using e
    subst ex;simp only[List.lookup_cons,e] at h;cases h;simp[Zh,hk,hc]
   |false=>
    simp only[List.lookup_cons,e] at h;simp only[Zh]
    by_cases hc:(k== .free&&sc.kind== .function&&sc.names.lookup n==some .cell)=true
    ·rw[if_pos hc];simp only[List.lookup_cons,e];exact ih h
    ·rw[if_neg hc];simp only[List.lookup_cons,e];exact ih h
 exact go scope.names h
theorem kK:∀{l:List Str},mQ l=true->l.Nodup
 | [],_=>List.nodup_nil
 |x::l,h=>by
  have h':(!l.contains x&&mQ l)=true:=h;simp only[Bool.and_eq_true,Bool.not_eq_true'] at h';refine List.nodup_cons.mpr ⟨λhx=>?_,kK h'.2⟩;have:=h'.1;simp[hx] at this
structure ScOk (scope sc:Scope):Prop where
 kind:scope.kind=.function
 out:sc.kind=.function
 nd:(scope.names.map (·.1)).Nodup
 loc:∀p∈scope.names,p.2=.local->scope.names.lookup p.1=some .local
 free:∀p∈scope.names,p.2=.free->sc.names.lookup p.1=some .cell
theorem EQ{scope sc:Scope}(h:LK scope sc=true):ScOk scope sc:=by
 unfold LK at h;simp only[Bool.and_eq_true,beq_iff_eq,List.all_eq_true,Bool.or_eq_true,Bool.not_eq_true'] at h;obtain⟨⟨⟨h1,h2⟩,h0⟩,h3⟩:=h;refine⟨h1,h2,kK h0,λp hp e=>?_,λp hp e=>?_⟩
 ·rcases(h3 p hp).1 with z|z
  ·rw[e] at z;simp at z
  ·simpa using z
 ·rcases(h3 p hp).2 with z|z
  ·rw[e] at z;simp at z
  ·simpa using z
theorem kN{α:Type}{x:Str}{k:α}:∀{l:List (Str×α)},(l.map (·.1)).Nodup->(x,k)∈l->l.lookup x=some k
 | [],_,h=>by cases h
 |(y,j)::l,nd,h=>by
  rw[Zh,List.nodup_cons] at nd;rcases List.mem_cons.mp h with e|h2
  ·cases e;simp[List.lookup_cons]
  ·have ne:(x==y)=false:=by
    rw[beq_eq_false_iff_ne];rintro rfl;exact nd.1 (List.mem_map.mpr ⟨(x,k),h2,rfl⟩)
   rw[List.lookup_cons,ne];exact kN nd.2 h2
theorem xF{scope:Scope}{env:Env}{x:Str}(h:scope.names.lookup x=some .cell):(relabel scope env).names.lookup x=some .cell:=by
 unfold relabel
 have go:∀(l:List (Str×NameKind)),l.lookup x=some .cell->(l.map λ(n,k)=>if(k== .free&&env.scope.kind== .function&&env.kindOf n==some .cell) then(n,NameKind.cell) else(n,k)).lookup x=some .cell:=by
  intro l
  induction l with
  |nil=>intro h;simp at h
  |cons p l ih=>
   intro h;obtain⟨n,k⟩:=p;cases e:x==n with
   |true=>
    simp only[List.lookup_cons,e] at h;cases h;simp[Zh,List.lookup_cons,e]
   |false=>
    simp only[List.lookup_cons,e] at h;simp only[Zh]
    by_cases hc:(k== .free&&env.scope.kind== .function&&env.kindOf n==some .cell)=true
    ·rw[if_pos hc];simp only[List.lookup_cons,e];exact ih h
    ·rw[if_neg hc];simp only[List.lookup_cons,e];exact ih h
 exact go scope.names h
theorem cX:∀(names:List (Str×NameKind))(n:Nat)(acc:List (Str×Addr)),cellsFrom n names acc=cellsFrom n names []++acc
 | [],_,_=>rfl
 |(x,k)::r,n,acc=>by
  unfold cellsFrom;split
  ·rw[cX r (n+1) ((x,n)::acc),cX r (n+1) [(x,n)]];simp
  ·exact cX r n acc
theorem fF:∀(names:List (Str×NameKind))(n:Nat)(x:Str)(c:Addr),(x,c)∈cellsFrom n names []->(x,NameKind.cell)∈names
 | [],_,_,_,h=>by cases h
 |(y,k)::r,n,x,c,h=>by
  unfold cellsFrom at h;split at h
  ·rename_i hk;rw[cX] at h;rcases List.mem_append.mp h with h|h
   ·exact Zj _ (fF r _ x c h)
   ·have e:(x,c)=(y,n):=by simpa using h
    cases e;have hk':k=.cell:=by simpa using hk
    subst hk';exact Zl
  ·exact Zj _ (fF r _ x c h)
noncomputable def yP(scope:Scope)(env:Env)(C:Addr):List (Str×Addr):=cellsFrom (C+1) scope.names (lL scope env)
structure BCs (scope:Scope)(env:Env)(C:Addr)(h1:Heap):Prop where
 old:∀x,(x,NameKind.free)∈scope.names->(yP scope env C).lookup x=(lL scope env).lookup x
 new:∀x,scope.names.lookup x=some .cell->∃c,(yP scope env C).lookup x=some c
 inv:∀x c,(yP scope env C).lookup x=some c->(lL scope env).lookup x=some c\/(C<c/\h1.IsCell c none/\∀y,(yP scope env C).lookup y=some c->C<c->x=y)
 cellNew:∀x c,scope.names.lookup x=some .cell->(yP scope env C).lookup x=some c->C<c
theorem uT{scope sc:Scope}{env:Env}{C:Addr}{h1:Heap}(S:ScOk scope sc)(hlow:∀x c,env.cells.lookup x=some c->c<C)(ok:CellsOk h1 (C+1) (cellsFrom (C+1) scope.names [])):BCs scope env C h1:=by
 have spl:∀x,(yP scope env C).lookup x=((cellsFrom (C+1) scope.names []).lookup x).or ((lL scope env).lookup x):=λx=>by
  unfold yP;rw[cX,List.lookup_append]
 have inv:∀x c,(yP scope env C).lookup x=some c->(cellsFrom (C+1) scope.names []).lookup x=some c\/((cellsFrom (C+1) scope.names []).lookup x=none/\(lL scope env).lookup x=some c):=λx c e=>by
  rw[spl] at e;cases q:(cellsFrom (C+1) scope.names []).lookup x with
  |none=>rw[q] at e;exact .inr ⟨rfl,e⟩
  |some c'=>rw[q] at e;exact .inl e
 refine⟨λx hx=>?_,λx hx=>?_,λx c e=>?_,λx c hx e=>?_⟩
 ·rw[spl];cases q:(cellsFrom (C+1) scope.names []).lookup x with
  |none=>rfl
  |some c=>
   have z:=kN S.nd (fF _ _ _ _ (PySem.mem_of_lookup q));rw[kN S.nd hx] at z;cases z
 ·have q:=W.cellsFrom_some scope.names (C+1) [] (.inl hx);obtain⟨c,hc⟩:=Option.isSome_iff_exists.mp q;exact⟨c,by rw[spl,hc];rfl⟩
 ·rcases inv x c e with q|⟨_,q⟩
  ·have m:=ok.empty x c (PySem.mem_of_lookup q);refine .inr ⟨m.2,m.1,λy ey _=>?_⟩;rcases inv y c ey with q'|⟨_,q'⟩
   ·exact name_of_addr ok.apart (PySem.mem_of_lookup q) (PySem.mem_of_lookup q')
   ·exact absurd (hlow y c (bO q')) (Nat.not_lt.mpr (Nat.le_of_lt m.2))
  ·exact .inl q
 ·rcases inv x c e with q|⟨q0,q⟩
  ·exact(ok.empty x c (PySem.mem_of_lookup q)).2
  ·have q2:=W.cellsFrom_some scope.names (C+1) [] (.inl hx);rw[q0] at q2;cases q2
noncomputable def cV(X:Cx)(N':List Str)(scope:Scope)(C:Addr)(s3:Shared)(H3:Hp)(fp:List Addr):Cx:=
 {X with N:=N',s₀:=s3,H₀:=H3,env:=compEnvC scope (yP scope X.env C) C X.env,outer:=X.stack,stack:=X.stack,ex:=fp,fn:=λx=>scope.names.lookup x==some .cell,pn:= [],xe:=λ_ _=>False}
noncomputable def uS(N':List Str)(cap:List Nat)(σ:Sg):Sg:=List.replicate (N'.length-cap.length) none++cap.map λ(i:Nat)=>(match σ[i]? with|some x=>x|none=>none)
section
variable {X:Cx}{pins:List (Addr×Obj)}{σ:Sg}{H3:Hp}{s3:Shared}{N':List Str}{scope:Scope}{fp:List Addr}{cap:List Nat}
theorem kU(I:Inv X pins σ H3 s3)(S:ScOk scope X.env.scope)(hcap:cap.length<=N'.length)(hN:(N'.drop (N'.length-cap.length)).map some=cap.map (λ(i:Nat)=>X.N[i]?))(hfr:∀x∈N'.drop (N'.length-cap.length),scope.names.lookup x=some .free)
 {h1:Heap}{tk:Nat}{m:Str->Option Value}(hns:h1.Ns s3.heap.objs.size m)(keep:∀b o,s3.heap.get? b=some o->h1.get? b=some o)(B:BCs scope X.env s3.heap.objs.size h1)
 (hfp:∀b∈fp,gY X pins H3 b)(hob:∀b∈fp,b<s3.heap.objs.size)(hfb:∀b∈fp,∀o,X.base.get? b≠some o):Inv (cV X N' scope s3.heap.objs.size s3 H3 fp) [] (uS N' cap σ) H3 {s3 with heap:=h1,toks:=tk}:=by
 have stkN:∀b,b≠X.env.locals->b ∉ X.fs->b ∉ jH X.stack:=λb h1 h2 hb=>(List.mem_cons.mp (I.stkSub b hb)).elim h1 h2;have kd:X.env.scope.kind=.function:=I.ok.kind
 have cellFree:∀x,(cN scope X.env.scope).names.lookup x=some .cell\/(cN scope X.env.scope).names.lookup x=some .free->(x,NameKind.free)∈scope.names\/scope.names.lookup x=some .cell:=λx hx=>by
  have:∃k',(k'=NameKind.cell\/k'=.free)/\(cN scope X.env.scope).names.lookup x=some k':=by
   rcases hx with h|h
   ·exact⟨_,.inl rfl,h⟩
   ·exact⟨_,.inr rfl,h⟩
  obtain⟨k',hk',h⟩:=this;obtain⟨k,e1,e2⟩:=pP h;have hm:=PySem.mem_of_lookup e1;rcases e2 with rfl|⟨rfl,_⟩
  ·rcases hk' with rfl|rfl
   ·exact .inr e1
   ·exact .inl hm
  ·exact .inl hm
 have lowC:∀x c,X.env.cells.lookup x=some c->c<s3.heap.objs.size:=λx c e=>let⟨_,q⟩:=I.cell x c e;q.lt;have hasC:∀x,(x,NameKind.free)∈scope.names->∃c,X.env.cells.lookup x=some c:=λx hx=>I.ok.has x (.inl (S.free _ hx rfl))
 refine⟨⟨I.ok.mod,by show(relabel scope X.env).kind=_;exact S.kind,I.ok.glob,I.ok.blt,Zn _,λx y c h1 h2=>?_,λx hx=>?_,λx c h e=>Nat.le_of_lt (B.cellNew x c (beq_iff_eq.mp h) e),I.ok.hd,I.ok.frames,.inl rfl,λb hb=>⟨Nat.ne_of_lt (hob b hb),λx c e=>?_⟩,I.bs,Nat.le_trans I.ok.bsz I.sz,λb o e hb=>hfb b hb o e,λb hb=>stkN b (hfp b hb).2.1 (hfp b hb).2.2.1,I.stack,I.stkFree⟩,
  rfl,I.bare,Un.kept keep,⟨m,hns,λi x v e1 e2 e3=>?_⟩,λx c e=>?_,I.hok.fresh (Zn _),λx c e=>?_,λp hp=>absurd (show p∈([]:List (Addr×Obj)) from hp) (by simp),I.hok.kept keep,?_⟩
 ·rcases B.inv x c h1 with a|⟨a1,_,a3⟩
  ·rcases B.inv y c h2 with b|⟨b1,_,_⟩
   ·exact I.ok.inj x y c (bO a) (bO b)
   ·exact absurd (lowC x c (bO a)) (Nat.not_lt.mpr (Nat.le_of_lt b1))
  ·exact a3 y h2 a1
 ·rcases cellFree x hx with hf|hf
  ·obtain⟨c,hc⟩:=hasC x hf;exact⟨c,(B.old x hf).trans (sN hf hc)⟩
  ·exact B.new x hf
 ·rcases B.inv x c e with a|⟨a1,_,_⟩
  ·exact(hfp b hb).2.2.2.2.1 x c (bO a)
  ·exact Nat.ne_of_gt (Nat.lt_trans (hob b hb) a1)
 ·-- a captured name
  have hi:¬i<N'.length-cap.length:=λhi=>by
   unfold uS at e2;rw[List.getElem?_append_left (by simpa using hi),List.getElem?_replicate] at e2;split at e2<;>cases e2
  have e1':N'[i]? =some x:=e1;have hiN:i<N'.length:=(Ze.mp e1').1;unfold uS at e2;rw[List.getElem?_append_right (by simpa using hi),List.length_replicate,Zi] at e2
  have hd:(N'.drop (N'.length-cap.length))[i-(N'.length-cap.length)]? =some x:=by
   rw[List.getElem?_drop];rw[show N'.length-cap.length+(i-(N'.length-cap.length))=i by omega];exact e1'
  cases ec:cap[i-(N'.length-cap.length)]? with
  |none=>rw[ec] at e2;cases e2
  |some j=>
   rw[ec] at e2
   have hj:X.N[j]? =some x:=by
    have z:=congrArg (λl=>l[i-(N'.length-cap.length)]?) hN;simp only[Zi,hd,ec,Option.map_some] at z;exact(Zg z).symm
   have hσ:σ[j]? =some (some v):=by
    have e2':(match σ[j]? with|some x=>x|none=>none)=some v:=Zg e2;cases q:σ[j]? with
    |none=>rw[q] at e2';cases e2'
    |some y=>rw[q] at e2';exact congrArg some e2'
   have hxf:scope.names.lookup x=some .free:=hfr x (List.mem_of_getElem? hd);have hxc:=S.free _ (PySem.mem_of_lookup hxf) rfl;obtain⟨m0,hn0,hl0⟩:=I.loc;obtain⟨u,ru,l0⟩:=hl0 j x v hj hσ (.inr (.inl hxc));refine⟨u,ru,.inr ⟨.inl ?_,?_⟩⟩
   ·show(relabel scope X.env).names.lookup x=some .cell
    exact tH (sc:=X.env.scope) hxf kd hxc
   ·rcases l0 with ⟨z,_⟩|⟨_,c,hc,o,ho,hd'⟩
    ·have z':X.env.scope.names.lookup x=some .local:=z;rw[hxc] at z';cases z'
    ·exact⟨c,(B.old x (PySem.mem_of_lookup hxf)).trans (sN (PySem.mem_of_lookup hxf) hc),o,keep c o ho,hd'⟩
 ·rcases B.inv x c e with a|⟨_,a2,_⟩
  ·obtain⟨v,o,ho,hd⟩:=I.cell x c (bO a);exact⟨v,o,keep c o ho,hd⟩
  ·exact⟨_,a2⟩
 ·rcases B.inv x c e with a|⟨a1,_,_⟩
  ·exact I.freeC x c (bO a)
  ·exact I.hok.fresh (Nat.le_of_lt a1)
 ·unfold uS;show _=N'.length;rw[List.length_append,List.length_replicate,Zc];omega
end
theorem dD{M:Model}{A:Around}{E:Value->Shared->Prop}{scope:Scope}{env:Env}{s:Shared}{Q:Env->Shared->Prop}
 (h:∀h1:Heap,h1.Ns s.heap.objs.size (λ_=>none)->(∀b o,s.heap.get? b=some o->h1.get? b=some o)->CellsOk h1 (s.heap.objs.size+1) (cellsFrom (s.heap.objs.size+1) scope.names [])->
   Q (newEnv scope s.heap.objs.size env.globals (yP scope env s.heap.objs.size) env.qual none .none (some env) builtinsNs) {s with heap:=h1}):
 wpAny M A (newFunctionEnv scope env.globals (lL scope env) [] env.qual none .none (some env)) Q E s:=by
 simp only[newFunctionEnv,Option.isSome_some,if_true];refine Za (wpAny_alloc ?_);refine Za (wpAny_layCells _ (λname kind cells=>by cases hkc:kind==NameKind.cell<;>simp[hkc]) _ _ _ _ ?_);have hsz:(s.heap.push {cls:=.type "dict",data:=.dict #[]}).objs.size=s.heap.objs.size+1:=Heap.size_push ..;have ok:=cellsFrom_ok scope.names (s.heap.push {cls:=.type "dict",data:=.dict #[]}) (s.heap.objs.size+1) [] ⟨λ_ _ hm=>(nomatch hm),List.Pairwise.nil⟩ (by rw[hsz];exact Zn _);rw[hsz] at ok;rw[show({s with heap:=s.heap.push {cls:=.type "dict",data:=.dict #[]}}:Shared).heap.objs.size=s.heap.objs.size+1 from hsz];refine Za (wpAny_of_eq (List.forIn_nil ..) (Zb ?_));exact h _ ((Heap.Ns.new s.heap (.type "dict")).keeps (pushCells_keeps _ _)) (λb o e=>pushCells_keeps _ _ b o (Zf _ e)) ok
noncomputable def eO(ifs:List Expr)(env:Env)(b:Bool):Sem Bool:=forIn ifs b λc r=>if r=true then do let ok <- isTrue c env (eval c env);pure (ForInStep.yield ok) else pure (ForInStep.yield r)
theorem yI{elt tg iter:Expr}{ifs:List Expr}{scope:Scope}{pos:Pos}{it acc:Value}{env:Env}{P:Program}{w:World}{A:Around}{R:Result->Shared->Prop}{s:Shared}(J:Nat->Shared->Prop)
 (turn:∀k s,J k s->wpAny (model P w) A (pyNext it) (λr s1=>match r with
   |none=>R (.ok .next) s1
   |some v=>wpAny (model P w) A (letOwnedTupleGo tg it v) (λ_ s2=>wpAny (model P w) A (assign tg env v) (λ_ s3=>wpAny (model P w) A (eO ifs env true) (λok s4=>
     if ok=true then wpAny (model P w) A (eval elt env) (λx s5=>wpAny (model P w) A (call (.builtin "list.append") [acc,x]) (λ_ s6=>∃k',k'<k/\J k' s6) lI s5) lI s4
     else ∃k',k'<k/\J k' s4) lI s3) lI s2) lI s1) lI s)
 (k:Nat)(h:J k s):codeAny (model P w) A (.compLoop (.ListComp elt [⟨tg,iter,ifs,0⟩] scope pos) 0 it acc env) R s:=by
 refine codeAny_loop (I:=J) rfl (turn:=λk s hk=>?_) k h;show wpAny _ A (Sem.onRaise (compTurn (.ListComp elt [⟨tg,iter,ifs,0⟩] scope pos) 0 it acc env) (λx=>do noteFrame x env;theTreesLotGoes x)) _ _ s;refine wpAny_noted ?_;rw[compTurn_list];have no:∀{E:Value->Shared->Prop}(e:Value)(s:Shared),lI e s->E e s:=λ_ _ f=>f.elim;refine Za (wpAny_standAt (Za (wpAny_mono (turn k s hk) (λr s1 q1=>?_) no)));cases r with
 |none=>exact Zb q1
 |some v=>
  refine Za (wpAny_mono q1 (λ_ s2 q2=>Za (wpAny_mono q2 (λ_ s3 q3=>Za (wpAny_mono q3 (λok s4 q4=>?_) no)) no)) no);cases ok with
  |false=>exact Zb ⟨rfl,q4⟩
  |true=>exact Za (Za (wpAny_mono q4 (λx s5 q5=>Za (wpAny_mono q5 (λ_ s6 q6=>Zb (Zb ⟨rfl,q6⟩)) no)) no))
noncomputable def sU(K:W.Frag)(t:Tg):TG:=λv s H Q=>∃m h r d r',Wd K m h H/\RSt K m H r s/\RD K m H d v/\cZ t d r=some r'/\∀s',RSt K m H r' s'->Q s' H
def KD(K:W.Frag)(f:Ev->Hh->Rs Bool):TT:=λs H Q=>∃m r h b h',Wd K m h H/\RSt K m H r s/\f r h=.ok b h'/\∀m' H',Gr K m H m' H'->Wd K m' h' H'->Q b H'
def OW(X:Cx)(ifs:List Expr)(t:TT):Prop:=∀(pins:List (Addr×Obj))(s:Shared)(σ:Sg)(H:Hp)(Q:Bool->Hp->Prop),Inv X pins σ H s->t σ H Q->wpAny (model X.prog X.w) X.A (eO ifs X.env true) (TP X pins σ Q) X.xe s
def Stp(K:W.Frag)(t:Tg)(cs:Ev->Hh->Rs Bool)(f:Ev->Hh->Rs D)(n0:Nat)(h':Hh)(J:It)(Lp:Nat->Nat->Ev->Hh->Prop)(i k:Nat)(r:Ev)(h:Hh)(m:List Addr)(H:Hp):Prop:=
 (J.stop i H/\h=h')\/(J.go i H/\∃d,(∀x H2,J.yld i H x H2->Gr K m H m H2/\Wd K m h H2/\RD K m H2 d x)/\∃r1,cZ t d r=some r1/\∃b h1,cs r1 h=.ok b h1/\
   if b=true then ∃y h2 z h3,f r1 h1=.ok y h2/\nS (.ref n0) y h2=.ok z h3/\∃k',k'<k/\Lp (i+1) k' r1 h3 else ∃k',k'<k/\Lp (i+1) k' r1 h1)
section
variable {X:Cx}{G:Gs}{ca:Nat->Addr}{cl:Cl}{N':List Str}{scope:Scope}{cap:List Nat}{tg elt iter:Expr}{ifs:List Expr}{pos:Pos}{t:Tg}{ft:Ev->Hh->Rs Bool}{fe:Ev->Hh->Rs D}
theorem jE{K:W.Frag}{m:List Addr}{H:Hp}{r:Ev}{σ:Sg}(st:RSt K m H r σ):RSt K m H (aT N' cap r) (uS N' cap σ):=by
 refine⟨by simp[aT,uS],λi d e=>?_⟩;unfold aT at e;unfold uS
 by_cases hi:i<N'.length-cap.length
 ·rw[List.getElem?_append_left (by simpa using hi),List.getElem?_replicate] at e;split at e<;>cases e
 ·rw[List.getElem?_append_right (by simpa using hi),List.length_replicate,Zi] at e;rw[List.getElem?_append_right (by simpa using hi),List.length_replicate,Zi];cases ec:cap[i-(N'.length-cap.length)]? with
  |none=>rw[ec] at e;cases e
  |some j=>
   rw[ec] at e;have e':ON r j=some d:=Zg e
   have hr:r[j]? =some (some d):=by
    unfold ON at e';cases q:r[j]? with
    |none=>rw[q] at e';cases e'
    |some y=>rw[q] at e';exact congrArg some e'
   obtain⟨v,hv,rv⟩:=st.2 j d hr;refine⟨v,?_,rv⟩;show some (match σ[j]? with|some x=>x|none=>none)=some (some v);rw[hv]
theorem oX{pins:List (Addr×Obj)}{σ:Sg}{H2:Hp}{s2:Shared}{J:It}{fp:List Addr}{it:Addr}{tn:Nat->Heap->Prop}{m2:List Addr}{h2 h':Hh}{r:Ev}(S:ScOk scope X.env.scope)(hcap:cap.length<=N'.length)
 (hN:(N'.drop (N'.length-cap.length)).map some=cap.map (λ(i:Nat)=>X.N[i]?))(hfr:∀x∈N'.drop (N'.length-cap.length),scope.names.lookup x=some .free)(calm:X.calm=true)
 (blk:∀(C:Addr)(s3:Shared)(H3:Hp)(fp:List Addr),PG (cV X N' scope C s3 H3 fp) tg (sU X.K t)/\OW (cV X N' scope C s3 H3 fp) ifs (KD X.K ft)/\PE (cV X N' scope C s3 H3 fp) elt (TDE X.K fe))
 (I:Inv X pins σ H2 s2)(T:Turn X.prog X.w X.K tg J fp it tn)(st:tn 0 s2.heap)(fok:∀b∈fp,gY X pins H2 b)(w2:Wd X.K m2 h2 H2)(rst:RSt X.K m2 H2 r σ)
 (Lp:Nat->Nat->Ev->Hh->Prop)(k0:Nat)(L0:Lp 0 k0 (aT N' cap r) (h2++ [.lst []]))(hst:∀i k r h m H,Gr X.K m2 H2 m H->Wd X.K m h H->Lp i k r h->Stp X.K t ft fe h2.length h' J Lp i k r h m H)
 {Rr:Value->Addr->Result->Shared->Prop}
 (c:∀(acc C:Addr)(s1:Shared)(H':Hp)(m':List Addr),Inv X pins σ H' s1->(∃mm,s1.heap.Ns C mm)->H' C=none->C≠X.env.locals->X.s₀.heap.objs.size<=C->(∀x a,X.env.cells.lookup x=some a->a≠C)->(∀p∈X.pn++pins,p.1≠C)->Gr X.K m2 H2 m' H'->Wd X.K m' h' H'->RD X.K m' H' (.ref h2.length) (.ref acc)->Rr (.ref acc) C (.ok .next) s1):
 wpAny (model X.prog X.w) X.A (newList []) (λacc s3=>wpAny (model X.prog X.w) X.A (newFunctionEnv scope X.env.globals (lL scope X.env) [] X.env.qual none .none (some X.env)) (λcenv s4=>
  codeAny (model X.prog X.w) X.A (.compStart (.ListComp elt [⟨tg,iter,ifs,0⟩] scope pos) 0 (.ref it) acc {cenv with scope:=relabel scope X.env}) (Rr acc cenv.locals) s4) X.xe s3) X.xe s2:=by
 have fob:∀b∈fp,b<s2.heap.objs.size:=λb hb=>let⟨o,e,_⟩:=T.obj 0 _ st b hb;Heap.lt_size e
 have ffb:∀b∈fp,∀o,X.base.get? b≠some o:=λb hb o e=>by
  rcases(fok b hb).2.2.2.1 with z|z
  ·exact I.ok.noex b o e z
  ·exact absurd (Nat.lt_of_lt_of_le (Heap.lt_size (I.ok.bs b o e).1) z) (Nat.lt_irrefl _)
 have hacc0:H2 s2.heap.objs.size=none:=I.hok.fresh (Zn _);refine wpAny_newObj_type (dD (λh1 hns keep cok=>?_));dsimp only at hns keep cok⊢;obtain⟨w3,g3⟩:=w2.lstNew (ds:= []) (vs:= []) hacc0 .nil
 have I3:Inv X pins σ (bI H2 s2.heap.objs.size (.lst [])) {s2 with heap:=s2.heap.push {cls:=.type "list",dict:=none,data:=.seq ([]:List Value).toArray}}:=
  I.laid (t':=s2.toks) (λb u e=>Zf _ e) (Zn _) ⟨Nat.zero_le _,[],0,.nil,Heap.get?_push_size _ rfl⟩
 have fok3:∀b∈fp,gY X pins (bI H2 s2.heap.objs.size (.lst [])) b:=λb hb=>⟨by rw[aK (Nat.ne_of_lt (fob b hb))];exact(fok b hb).1,(fok b hb).2⟩;have st3:tn 0 h1:=T.keep _ _ _ st λb hb o e=>keep b o (Zf _ e);have B:=uT (env:=X.env) S (λx c e=>let⟨_,q⟩:=I3.cell x c e;q.lt) cok
 have I4:=kU (N':=N') (scope:=scope) (fp:=fp) (cap:=cap) I3 S hcap hN hfr (h1:=h1) (tk:=s2.toks) hns keep B fok3 (λb hb=>by
  show b<(s2.heap.push _).objs.size;rw[Heap.size_push];exact Nat.lt_succ_of_lt (fob b hb)) ffb
 have hsz:(s2.heap.push {cls:=.type "list",dict:=none,data:=.seq ([]:List Value).toArray}).objs.size=s2.heap.objs.size+1:=Heap.size_push ..;generalize hs3:({s2 with heap:=s2.heap.push {cls:=.type "list",dict:=none,data:=.seq ([]:List Value).toArray}}:Shared)=s3 at I3 I4;have eh3:s2.heap.push {cls:=.type "list",dict:=none,data:=.seq ([]:List Value).toArray}=s3.heap:=by rw[<- hs3]
 rw[eh3] at hns keep cok B hsz⊢;generalize hH3:bI H2 s2.heap.objs.size (.lst [])=H3 at I3 I4 w3 g3 fok3;obtain⟨bG,bT,bE⟩:=blk s3.heap.objs.size s3 H3 fp;have ha:(m2++ [s2.heap.objs.size])[h2.length]? =some s2.heap.objs.size:=by rw[<- w2.len];simp
 have stkN:∀b,b≠X.env.locals->b ∉ X.fs->b ∉ jH X.stack:=λb h1 h2 hb=>(List.mem_cons.mp (I3.stkSub b hb)).elim h1 h2
 have fokB:∀{H:Hp},(∀b∈fp,H b=none)->∀b∈fp,gY (cV X N' scope s3.heap.objs.size s3 H3 fp) [] H b:=λhn b hb=>
  ⟨hn b hb,Nat.ne_of_lt (by rw[hsz];exact Nat.lt_succ_of_lt (fob b hb)),stkN b (fok b hb).2.1 (fok b hb).2.2.1,.inl hb,λx c e=>(B.inv x c e).elim (λa=>(fok b hb).2.2.2.2.1 x c (bO a)) (λa=>Nat.ne_of_gt (Nat.lt_trans (by rw[hsz];exact Nat.lt_succ_of_lt (fob b hb)) a.1)),λp hp=>absurd (show p∈([]:List (Addr×Obj)) from hp) (by simp)⟩
 have hw:X.w=X.w:=rfl
 have loop:∀s4:Shared,s4={s3 with heap:=h1,toks:=s2.toks}->codeAny (model X.prog X.w) X.A (.compLoop (.ListComp elt [⟨tg,iter,ifs,0⟩] scope pos) 0 (.ref it) (.ref s2.heap.objs.size) (compEnvC scope (yP scope X.env s3.heap.objs.size) s3.heap.objs.size X.env)) (Rr (.ref s2.heap.objs.size) s3.heap.objs.size) s4:=by
  rintro s4 rfl
  refine yI (λk s=>∃i σ' H' m r h,Inv (cV X N' scope s3.heap.objs.size s3 H3 fp) [] σ' H' s/\tn i s.heap/\(∀b∈fp,H' b=none)/\Gr X.K (m2++ [s2.heap.objs.size]) H3 m H'/\Wd X.K m h H'/\RSt X.K m H' r σ'/\Lp i k r h) ?_ k0
   ⟨0,_,H3,_,_,_,I4,st3,λb hb=>(fok3 b hb).1,.refl,w3,jE (rst.mono g3),L0⟩
  rintro k s ⟨i,σ',H',m,r',h,I',st',fr',g',w',rst',L⟩;rcases hst i k r' h m H' (g3.trans g') w' L with ⟨stop,rfl⟩|⟨go,d,hy,r1,er,b,hb1,eb,rest⟩
  ·refine bM (T.done (cV X N' scope s3.heap.objs.size s3 H3 fp) rfl rfl rfl calm i [] s σ' H' lI I' (fokB fr') st' stop) λres s1 ⟨hr,I1⟩=>?_;subst hr;obtain⟨mm,hn1,_⟩:=id I1.loc;obtain⟨hp1,gg,dr,tk,os⟩:=s1;obtain rfl:os=s3.os:=I1.os;have IX:Inv X pins σ H' {s3 with heap:=hp1,gens:=gg,drawn:=dr,toks:=tk}:=I3.call (ch:=fp) I1.base I1.hok I1.bare λb hb=>⟨(fok3 b hb).2.2.2.1,(fok3 b hb).2.1,(fok3 b hb).2.2.2.2.1,(fok3 b hb).2.2.2.2.2⟩
   exact c _ _ _ H' m IX ⟨mm,hn1⟩ I1.free (Nat.ne_of_gt I3.lt) I3.sz (λx a e=>by
    obtain⟨v,q⟩:=I3.cell x a e;exact Nat.ne_of_lt q.lt) (λp hp=>Nat.ne_of_lt (Heap.lt_size (I3.pin p hp).1)) (g3.trans g') w' (.ref (g'.pre _ _ ha))
  ·refine bM (T.item (cV X N' scope s3.heap.objs.size s3 H3 fp) rfl rfl rfl calm i [] s σ' H' lI I' (fokB fr') st' go) λres s1 ⟨u,hr,q1⟩=>?_;subst hr;refine bM q1 λ_ s5 ⟨x,H5,I5,rx,yl,st5,fr5⟩=>?_;obtain⟨gy,wy,rd⟩:=hy x H5 yl;have I5':=I5.pinned (fokB fr5) (T.obj _ _ st5)
   have again:∀{σ7:Sg}{H7:Hp}{s7:Shared}{m7:List Addr}{r7:Ev}{h7:Hh},Inv (cV X N' scope s3.heap.objs.size s3 H3 fp) ([]++kJ fp s5.heap) σ7 H7 s7->Gr X.K m H5 m7 H7->Wd X.K m7 h7 H7->RSt X.K m7 H7 r7 σ7->(∃k',k'<k/\Lp (i+1) k' r7 h7)->
    ∃k',k'<k/\∃i σ' H' m r h,Inv (cV X N' scope s3.heap.objs.size s3 H3 fp) [] σ' H' s7/\tn i s7.heap/\(∀b∈fp,H' b=none)/\Gr X.K (m2++ [s2.heap.objs.size]) H3 m H'/\Wd X.K m h H'/\RSt X.K m H' r σ'/\Lp i k' r h:=λ{σ7 H7 s7 m7 r7 h7} I7 g7 w7 st7 ⟨k',hk,L7⟩=>by
    have pn:∀b∈fp,∀o,s5.heap.get? b=some o->s7.heap.get? b=some o/\H7 b=none:=λb hb o e=>let z:=I7.pin (b,o) (List.mem_append_right _ (List.mem_append_right _ (fU hb e)));⟨z.1,z.2.1⟩;exact⟨k',hk,i+1,σ7,H7,m7,r7,h7,I7.unpinned,T.keep _ _ _ st5 λb hb o e=>(pn b hb o e).1,λb hb=>let⟨o,e,_⟩:=T.obj _ _ st5 b hb;(pn b hb o e).2,g'.trans (gy.trans g7),w7,st7,L7⟩
   refine bM (bG _ s5 σ' H5 x u (λσ2 H6=>H6=H5/\RSt X.K m H5 r1 σ2) I5' rx ⟨m,h,r',d,r1,wy,rst'.mono gy,rd,er,λs' z=>⟨rfl,z⟩⟩) λ_ s6 ⟨σ6,H6,I6,eH6,st6⟩=>?_;subst eH6;refine bM (bT _ s6 σ6 H6 (λb' H7=>b'=b/\∃m7,Gr X.K m H6 m7 H7/\Wd X.K m7 hb1 H7) I6 ⟨m,r1,h,b,hb1,wy,st6,eb,λm' H' g w=>⟨rfl,m',g,w⟩⟩) λb' s7 ⟨H7,I7,e7,m7,g7,w7⟩=>?_;subst e7;cases b' with
   |false=>
    rw[if_neg Bool.false_ne_true] at rest⊢;exact again I7 g7 w7 (st6.mono g7) rest
   |true=>
    rw[if_pos rfl] at rest⊢;obtain⟨y,h8,z,h9,ey,ea,rest⟩:=rest;refine bM (bE _ s7 σ6 H7 (λv H8=>∃m8,Gr X.K m7 H7 m8 H8/\Wd X.K m8 h8 H8/\RD X.K m8 H8 y v) I7 ⟨m7,r1,hb1,y,h8,w7,st6.mono g7,ey,λm' v H' g w rv=>⟨m',g,w,rv⟩⟩) λyv s8 ⟨v,H8,I8,rv,m8,g8,w8,rdy⟩=>?_;have ha8:m8[h2.length]? =some s2.heap.objs.size:=g8.pre _ _ (g7.pre _ _ (gy.pre _ _ (g'.pre _ _ ha)));simp only[nS] at ea;split at ea<;>first |(cases ea;done)|skip
    rename_i l el;split at ea<;>first |(cases ea;done)|skip
    rename_i hlen;cases ea;obtain⟨vs,hv,rvs⟩:∃vs,H8 s2.heap.objs.size=some (.lst vs)/\RDs X.K m8 H8 l vs:=w8.ob _ _ _ el ha8;obtain⟨_,w9,g9⟩:=w8.lstSet el ha8 (rvs.append (.cons rdy .nil));refine bM (kL (X:=cV X N' scope s3.heap.objs.size s3 H3 fp) _ s8 σ6 H8 (.ref s2.heap.objs.size) [v] (.ref s2.heap.objs.size) [yv] (λ_ H9=>H9=bI H8 s2.heap.objs.size (.lst (vs++ [v]))) I8 rfl (.cons rv .nil) ⟨_,vs,v,rfl,rfl,hv,by rw[<- rvs.length];exact Nat.lt_of_lt_of_le hlen (by decide),rfl⟩) λ_ s9 ⟨_,H9,I9,_,e9⟩=>?_;subst e9;exact again I9 ((g7.trans g8).trans g9) w9 (st6.mono ((g7.trans g8).trans g9)) rest
 have es:({s2 with heap:=h1,toks:=s2.toks}:Shared)={s3 with heap:=h1,toks:=s2.toks}:=by subst hs3;rfl
 exact codeAny_compStart_list (loop _ es) (T.self X.A 0 _ _ _ st3 (loop _ es))
end
theorem _root_.L2.PG.wk{X:Cx}{e:Expr}{t t':TG}(h:PG X e t)(i:∀v s H Q,t' v s H Q->t v s H Q):PG X e t':=λpins s σ H v u Q I r q=>h pins s σ H v u Q I r (i _ _ _ _ q)
noncomputable def YC(is:List Nat):KC:=λvs s H Q=>∃(K:W.Frag)(m:List Addr)(r:Ev)(ds:List D),RSt K m H r s/\RDs K m H ds vs/\ds.length=is.length/\∀s',RSt K m H (fR is ds r) s'->Q s' H
section
variable {X:Cx}{N:List Str}{sc:Scope}{G:Gs}{ca:Nat->Addr}{cl:Cl}{K:W.Frag}
theorem QQ(ok:Expr->Nat->Bool)(hok:∀e i,ok e i=true->∃x pos,e=.Name x pos/\PG X (.Name x pos) (oT i)):∀{is:List Nat}{es:List Expr},is.length=es.length->(∀(j:Nat) i e,is[j]? =some i->es[j]? =some e->ok e i=true)->UJ X es (YC is)/\(assignEach es X.env).length=is.length/\(assignEach es X.env).findIdx? (·.1)=none
 | [],[],_,_=>⟨λpins s σ H vs us Q I rv ⟨K,m,r,ds,st,rd,hl,c⟩=>by
     cases ds with
     |cons=>cases hl
     |nil=>
      cases rd;exact pU pins s σ H [] us Q I rv ⟨rfl,c _ st⟩,rfl,rfl⟩
 |i::is,e::es,hl,h=>by
  obtain⟨x,pos,rfl,pn⟩:=hok e i (h 0 i e rfl rfl);obtain⟨ih,i2,i3⟩:=QQ ok hok (is:=is) (es:=es) (by simpa using hl) λj i e e1 e2=>h (j+1) i e (by simpa using e1) (by simpa using e2);refine⟨λpins s σ H vs us Q I rv ⟨K,m,r,ds,st,rd,hl,c⟩=>?_,?_,?_⟩
  ·cases ds with
   |nil=>cases hl
   |cons d ds=>
    cases rd with
    |cons r1 rd=>
     exact gM pn ih rfl pins s σ H _ us Q I rv ⟨_,_,rfl,K,m,_,ds,st.set i r1,rd,by simpa using hl,c⟩
  ·show(assignEach es X.env).length+1=is.length+1
   rw[i2]
  ·show((false,assign (.Name x pos) X.env)::assignEach es X.env).findIdx? (·.1)=none
   rw[List.findIdx?_cons];simp[i3]
 | [],_::_,hl,_=>by simp at hl
 |_::_,[],hl,_=>by simp at hl
theorem EO{i j k:Nat}{d:D}{r r':Ev}(e:cZ (.tn i j k) d r=some r'):∃a b c,d=.tup [.tup [a,b],c]/\r'=((r.set i (some a)).set j (some b)).set k (some c):=by
 have e':zR i j k r d=some r':=e;unfold zR at e';split at e'
 ·cases e';exact⟨_,_,_,rfl,rfl⟩
 ·cases e'
theorem AM(ok:Expr->Nat->Bool)(hok:∀e i,ok e i=true->∃x pos,e=.Name x pos/\PG X (.Name x pos) (oT i))(calm:X.calm=true){t:Tg}{tg:Expr}
 (h:match t with|.nm i=>ok tg i=true|.tp l=>(∃es k pos,tg=.Tuple es k pos/\l.length=es.length/\∀(j:Nat) i e,l[j]? =some i->es[j]? =some e->ok e i=true)|.tn i j k=>∃e1 e2 e3 k1 p1 k2 p2,tg=.Tuple [.Tuple [e1,e2] k1 p1,e3] k2 p2/\ok e1 i=true/\ok e2 j=true/\ok e3 k=true):PG X tg (sU X.K t):=by
 cases t with
 |nm i=>
  obtain⟨x,pos,rfl,pn⟩:=hok tg i h;refine pn.wk λv s H Q ⟨m,hh,r,d,r',w,st,rd,e,c⟩=>?_;cases e;exact c _ (st.set i rd)
 |tp l=>
  obtain⟨es,k,pos,rfl,hl,h⟩:=h;obtain⟨p1,p2,p3⟩:=QQ ok hok hl h;refine(tJ calm p1 p2 p3).wk λv s H Q ⟨m,hh,r,d,r',w,st,rd,e,c⟩=>?_;cases rd<;>first |(cases e;done)|skip
  rename_i a ds vs hq q _;simp only[cZ] at e;split at e
  ·rename_i hl;cases e;exact⟨a,vs,rfl,hq,by rw[<- q.length];exact hl,X.K,m,r,ds,st,q,hl,c⟩
  ·cases e
 |tn i j k=>
  obtain⟨e1,e2,e3,k1,p1,k2,p2,rfl,o1,o2,o3⟩:=h;obtain⟨x1,q1,rfl,g1⟩:=hok e1 i o1;obtain⟨x2,q2,rfl,g2⟩:=hok e2 j o2;obtain⟨x3,q3,rfl,g3⟩:=hok e3 k o3;have inn:PG X (.Tuple [.Name x1 q1,.Name x2 q2] k1 p1) _:=tJ calm (gM g1 (gM g2 pU rfl) rfl) rfl rfl;refine(tJ calm (gM inn (gM g3 pU rfl) rfl) rfl rfl).wk λv s H Q ⟨m,hh,r,d,r',w,st,rd,e,c⟩=>?_;obtain⟨b1,b2,d2,rfl,rfl⟩:=EO e;cases rd with
  |tup hq q=>
  cases q with
  |cons r1 q=>
   cases q with
   |cons r2 q=>
    cases q;cases r1 with
    |tup h1 t1=>
     cases t1 with
     |cons s1 t1=>
      cases t1 with
      |cons s2 t1=>
       cases t1;exact⟨_,_,rfl,hq,rfl,_,_,rfl,_,_,rfl,h1,rfl,_,_,rfl,_,_,rfl,rfl,_,_,rfl,rfl,c _ (((st.set i s1).set j s2).set k r2)⟩
theorem oY:∀{l:List Nat}{es:List Expr},nP N sc l es=true->l.length=es.length/\∀(j:Nat) i e,l[j]? =some i->es[j]? =some e->fC N sc (.nm i) e=true
 | [],[],_=>⟨rfl,λj i e h=>by simp at h⟩
 |i::is,e::es,h=>by
  cases e<;>first |exact absurd (show false=true from h) Bool.false_ne_true|skip
  rename_i x pos;have h':(N[i]? ==some x&&iH sc x&&nP N sc is es)=true:=h;rw[Bool.and_eq_true] at h';obtain⟨i1,i2⟩:=oY h'.2;refine⟨by simp[i1],λj i' e' e1 e2=>?_⟩;cases j with
  |zero=>
   simp at e1 e2;subst e1;subst e2;exact h'.1
  |succ j=>exact i2 j i' e' (by simpa using e1) (by simpa using e2)
 | [],_::_,h=>absurd (show false=true from h) Bool.false_ne_true
 |_::_,[],h=>absurd (show false=true from h) Bool.false_ne_true
theorem sP{f g:Expr->Bool}{e:Expr}(h:DL f g e=true):∃a b k p,e=.Tuple [a,b] k p/\f a=true/\g b=true:=by
 cases e<;>first |exact absurd (show false=true from h) Bool.false_ne_true|skip
 rename_i es k p;rcases es with _|⟨a,_|⟨b,_|⟨c,l⟩⟩⟩<;>first |exact absurd (show false=true from h) Bool.false_ne_true|skip
 have h':(f a&&g b)=true:=h;rw[Bool.and_eq_true] at h';exact⟨a,b,k,p,rfl,h'.1,h'.2⟩
theorem PQ{scope:Scope}{i j k:Nat}{tg:Expr}(h:fC N scope (.tn i j k) tg=true):∃e1 e2 e3 k1 p1 k2 p2,tg=.Tuple [.Tuple [e1,e2] k1 p1,e3] k2 p2/\fC N scope (.nm i) e1=true/\fC N scope (.nm j) e2=true/\fC N scope (.nm k) e3=true:=by
 obtain⟨a,e3,k2,p2,rfl,h1,h2⟩:=sP h;obtain⟨e1,e2,k1,p1,rfl,h3,h4⟩:=sP h1;exact⟨_,_,_,_,_,_,_,rfl,h3,h4,h2⟩
abbrev KH(X:Cx)(scope:Scope):Prop:=∀x,iH scope x=true->DY X.env.scope x/\(X.fn x=true\/X.env.scope.names.lookup x=some .local)
theorem LV{scope:Scope}(xo:XOk X N sc)(lo:KH X scope){t:Tg}{tg:Expr}(h:fC N scope t tg=true):PG X tg (sU X.K t):=by
 refine AM (λe i=>fC N scope (.nm i) e) (λe i he=>?_) xo.calm ?_
 ·cases e<;>first |exact absurd (show false=true from he) Bool.false_ne_true|skip
  rename_i x pos;have h':(N[i]? ==some x&&iH scope x)=true:=he;simp only[Bool.and_eq_true,beq_iff_eq] at h';obtain⟨l1,l2⟩:=lo x h'.2;exact⟨x,pos,rfl,vN xo.nd (by rw[xo.n];exact h'.1) l1 l2⟩
 ·cases t with
  |nm i=>exact h
  |tp l=>
   cases tg<;>first |exact absurd (show false=true from h) Bool.false_ne_true|skip
   rename_i es k pos;obtain⟨h1,h2⟩:=oY (show nP N scope l es=true from h);exact⟨es,k,pos,rfl,h1,h2⟩
  |tn i j k=>exact PQ h
section
variable {t:Tg}{ft:Ev->Hh->Rs Bool}{fe:Ev->Hh->Rs D}{n0:Nat}{h':Hh}{J:It}{m2:List Addr}{H2:Hp}{r0:Ev}{h0:Hh}
abbrev iN(K:W.Frag)(t:Tg)(ft:Ev->Hh->Rs Bool)(fe:Ev->Hh->Rs D)(n0:Nat)(h':Hh)(J:It)(m2:List Addr)(H2:Hp)(r0:Ev)(h0:Hh):Prop:=∃(Lp:Nat->Nat->Ev->Hh->Prop)(k0:Nat),Lp 0 k0 r0 h0/\∀i k r h m H,Gr K m2 H2 m H->Wd K m h H->Lp i k r h->Stp K t ft fe n0 h' J Lp i k r h m H
theorem jM{l:List D}(e:cW t ft fe n0 l r0 h0=.ok () h')(hgo:∀(i:Nat) d m H,Gr K m2 H2 m H->l[i]? =some d->J.go i H/\∀x H',J.yld i H x H'->H'=H/\RD K m H d x)(hstop:∀(i:Nat) m H,Gr K m2 H2 m H->l.length<=i->J.stop i H):iN K t ft fe n0 h' J m2 H2 r0 h0:=by
 refine⟨λi k r h=>k=l.length-i/\cW t ft fe n0 (l.drop i) r h=.ok () h',l.length,⟨by simp,e⟩,λi k r h m H g w ⟨hk,e⟩=>?_⟩
 by_cases hi:i<l.length
 ·have ed:l[i]? =some l[i]:=Zd hi;obtain⟨a,b⟩:=hgo i _ m H g ed;rw[List.drop_eq_getElem_cons hi] at e;simp only[cW] at e;split at e
  ·cases e
  ·rename_i r1 er;obtain⟨bb,h1,e1,e⟩:=Rs.bind_ok e;refine .inr ⟨a,_,λx H2 y=>by obtain⟨eH,rd⟩:=b x H2 y;subst eH;exact⟨.refl,w,rd⟩,r1,er,bb,h1,e1,?_⟩;cases bb with
   |true=>
    rw[if_pos rfl] at e⊢;obtain⟨y,h3,e3,e⟩:=Rs.bind_ok e;obtain⟨z,h4,e4,e⟩:=Rs.bind_ok e;exact⟨y,h3,z,h4,e3,e4,_,by omega,rfl,e⟩
   |false=>
    rw[if_neg Bool.false_ne_true] at e⊢;exact⟨_,by omega,rfl,e⟩
 ·rw[List.drop_eq_nil_of_le (by omega)] at e;cases e;exact .inl ⟨hstop i m H g (by omega),rfl⟩
theorem wY{a:Addr}{l:List D}{vs:List V}(hq:SqT K H2 a vs)(q:RDs K m2 H2 l vs)(e:cW t ft fe n0 l r0 h0=.ok () h'):iN K t ft fe n0 h' (HZ K a) m2 H2 r0 h0:=
 jM e (λi d m H g ed=>by
  obtain⟨v,hv,rv⟩:=q.get ed
  exact⟨⟨vs,v,g.tup _ _ hq,hv⟩,λx H' y=>by
   obtain⟨eH,y⟩:=y;have:=y vs (g.tup _ _ hq);rw[hv] at this;cases this;exact⟨eH,rv.mono g⟩⟩) λi m H g hi=>⟨vs,g.tup _ _ hq,by rw[<- q.length];exact hi⟩
theorem xA{a:Addr}{n k0:Nat}(ha:m2[n]? =some a)(e:gH t ft fe n0 n k0 0 r0 h0=.ok () h'):iN K t ft fe n0 h' (KI K a) m2 H2 r0 h0:=by
 refine⟨λi k r h=>gH t ft fe n0 n k i r h=.ok () h',k0,e,λi k r h m H g w e=>?_⟩;cases k with
 |zero=>cases e
 |succ k=>
  simp only[gH] at e;split at e
  ·cases e
  ·rename_i l el;obtain⟨a',vs,ha',hq,q⟩:=w.lst el;rw[g.pre _ _ ha] at ha';cases ha';split at e
   ·rename_i en;cases e;exact .inl ⟨⟨vs,hq,by rw[<- q.length];exact List.getElem?_eq_none_iff.mp en⟩,rfl⟩
   ·rename_i d ed;obtain⟨v,hv,rv⟩:=q.get ed;split at e
    ·cases e
    ·rename_i r1 er;obtain⟨bb,h1,e1,e⟩:=Rs.bind_ok e;refine .inr ⟨⟨vs,v,hq,hv⟩,d,λx H' y=>?_,r1,er,bb,h1,e1,?_⟩
     ·obtain⟨eH,y⟩:=y;have:=y vs hq;rw[hv] at this;cases this;subst eH;exact⟨.refl,w,rv⟩
     ·cases bb with
      |true=>
       rw[if_pos rfl] at e⊢;obtain⟨y,h3,e3,e⟩:=Rs.bind_ok e;obtain⟨z,h4,e4,e⟩:=Rs.bind_ok e;exact⟨y,h3,z,h4,e3,e4,k,Nat.lt_succ_self _,e⟩
      |false=>
       rw[if_neg Bool.false_ne_true] at e⊢;exact⟨k,Nat.lt_succ_self _,e⟩
theorem sW{l:List D}(e:cW t ft fe n0 l r0 h0=.ok () h')(hgo:∀(i:Nat) d m h H,Gr K m2 H2 m H->Wd K m h H->l[i]? =some d->J.go i H/\∀x H',J.yld i H x H'->Gr K m H m H'/\Wd K m h H'/\RD K m H' d x)(hstop:∀(i:Nat) m H,Gr K m2 H2 m H->l.length<=i->J.stop i H):iN K t ft fe n0 h' J m2 H2 r0 h0:=by
 refine⟨λi k r h=>k=l.length-i/\cW t ft fe n0 (l.drop i) r h=.ok () h',l.length,⟨by simp,e⟩,λi k r h m H g w ⟨hk,e⟩=>?_⟩
 by_cases hi:i<l.length
 ·have ed:l[i]? =some l[i]:=Zd hi;obtain⟨a,b⟩:=hgo i _ m h H g w ed;rw[List.drop_eq_getElem_cons hi] at e;simp only[cW] at e;split at e
  ·cases e
  ·rename_i r1 er;obtain⟨bb,h1,e1,e⟩:=Rs.bind_ok e;refine .inr ⟨a,_,b,r1,er,bb,h1,e1,?_⟩;cases bb with
   |true=>
    rw[if_pos rfl] at e⊢;obtain⟨y,h3,e3,e⟩:=Rs.bind_ok e;obtain⟨z,h4,e4,e⟩:=Rs.bind_ok e;exact⟨y,h3,z,h4,e3,e4,_,by omega,rfl,e⟩
   |false=>
    rw[if_neg Bool.false_ne_true] at e⊢;exact⟨_,by omega,rfl,e⟩
 ·rw[List.drop_eq_nil_of_le (by omega)] at e;cases e;exact .inl ⟨hstop i m H g (by omega),rfl⟩
end
theorem HG{N':List Str}{scope:Scope}{cap:List Nat}{tg elt iter:Expr}{ifs:List Expr}{pos:Pos}{t:Tg}{ft:Ev->Hh->Rs Bool}{fe:Ev->Hh->Rs D}{f:Ev->Hh->Rs D}(xo:XOk X N sc)(S:ScOk scope sc)(hcap:cap.length<=N'.length)
 (hN:(N'.drop (N'.length-cap.length)).map some=cap.map (λ(i:Nat)=>N[i]?))(hfr:∀x∈N'.drop (N'.length-cap.length),scope.names.lookup x=some .free)
 (blk:∀(C:Addr)(s3:Shared)(H3:Hp)(fp:List Addr),PG (cV X N' scope C s3 H3 fp) tg (sU X.K t)/\OW (cV X N' scope C s3 H3 fp) ifs (KD X.K ft)/\PE (cV X N' scope C s3 H3 fp) elt (TDE X.K fe))(hset:oM iter=true)
 (hi:∀(pins:List (Addr×Obj))(s:Shared)(σ:Sg)(H:Hp)(m:List Addr)(r:Ev)(h:Hh)(d:D)(h':Hh),Inv X pins σ H s->Wd X.K m h H->RSt X.K m H r σ->f r h=.ok d h'->∃h1:Hh,d=.ref h1.length/\wpAny (model X.prog X.w) X.A (eval iter X.env) (λv s1=>wpAny (model X.prog X.w) X.A (pyIter v)
   (HX X pins σ tg λJ H2=>∃(m2:List Addr)(h2:Hh),h2.length=h1.length/\Gr X.K m H m2 H2/\Wd X.K m2 h2 H2/\iN X.K t ft fe h2.length h' J m2 H2 (aT N' cap r) (h2++ [.lst []])) X.xe s1) X.xe s):
 PE X (.ListComp elt [⟨tg,iter,ifs,0⟩] scope pos) (TDE X.K f):=by
 intro pins s σ H Q I ⟨m,r,h,d,h',w,st,e,c⟩;obtain⟨h1,rfl,hw⟩:=hi pins s σ H m r h d h' I w st e;rw[eval_ListComp];have S':ScOk scope X.env.scope:=by rw[xo.s];exact S
 refine wpAny_comprehension_free (use:=none) rfl (λz=>by cases iter<;>first |rfl|(cases hset;done)) (gB λp hp e=>I.ok.has p.1 (.inl (S'.free p hp e))) S.kind S.loc ?_;refine bM hw λv s1 q1=>bM q1 λitv s2 q2=>?_;obtain⟨it,fp,tn,J,H2,rfl,I2,T,st2,fok,m2,h2,eh2,g2,w2,Lp,k0,L0,hst⟩:=q2;refine oX (Rr:=λacc C=>compPost (model X.prog X.w) X.A X.xe none (EP X pins σ Q) acc C) S' hcap (by rw[xo.n];exact hN) hfr xo.calm blk I2 T st2 fok w2 (st.mono g2) Lp k0 L0 hst λacc C s1 H' m' I1 ⟨mm,hn⟩ hC hL hz hc hp g' w' rv=>?_;rw[eh2] at rv;refine⟨mm,hn,λhh hsb=>⟨.ref acc,H',I1.turned (λb o hb e=>hsb.extBut b o hb e) hC (Ne.symm (Ne.symm hL)) (.inr hz) hc hp,rfl,c m' _ H' (g2.trans g') w' rv⟩⟩
theorem HF{N':List Str}{scope:Scope}{cap:List Nat}{tg elt iter:Expr}{ifs:List Expr}{pos spos py:Pos}{y:Str}{i:Nat}{t:Tg}{ft:Ev->Hh->Rs Bool}{fe:Ev->Hh->Rs D}{f:Ev->Hh->Rs D}(xo:XOk X N sc)(S:ScOk scope sc)(hcap:cap.length<=N'.length)
 (hN:(N'.drop (N'.length-cap.length)).map some=cap.map (λ(i:Nat)=>N[i]?))(hfr:∀x∈N'.drop (N'.length-cap.length),scope.names.lookup x=some .free)
 (blk:∀(C:Addr)(s3:Shared)(H3:Hp)(fp:List Addr),PG (cV X N' scope C s3 H3 fp) tg (sU X.K t)/\OW (cV X N' scope C s3 H3 fp) ifs (KD X.K ft)/\PE (cV X N' scope C s3 H3 fp) elt (TDE X.K fe))(hset:oM iter=true)
 (hi:∀(pins:List (Addr×Obj))(s:Shared)(σ:Sg)(H:Hp)(m:List Addr)(r:Ev)(h:Hh)(d:D)(h':Hh),Inv X pins σ H s->Wd X.K m h H->RSt X.K m H r σ->f r h=.ok d h'->∃h1:Hh,d=.ref h1.length/\wpAny (model X.prog X.w) X.A (eval iter X.env) (λv s1=>wpAny (model X.prog X.w) X.A (pyIter v)
   (HX X pins σ tg λJ H2=>∃(m2:List Addr)(h2:Hh),h2.length=h1.length/\Gr X.K m H m2 H2/\Wd X.K m2 h2 H2/\iN X.K t ft fe h2.length h' J m2 H2 (aT N' cap r) (h2++ [.lst []])) X.xe s1) X.xe s)
 (hy:N[i]? =some y)(hl:sc.names.lookup y=some .local)(hsw:swapsWith (.ListComp elt [⟨tg,iter,ifs,0⟩] scope pos) (some (.Name y py)) spos.line X.env=pure true):
 PS X (.Assign [.Name y py] (.ListComp elt [⟨tg,iter,ifs,0⟩] scope pos) spos) (EG (TDE X.K f) (oT i)):=by
 intro pins s σ H Z I ⟨m,r,h,d,h',w,st,e,c⟩;obtain⟨h1,rfl,hw⟩:=hi pins s σ H m r h d h' I w st e;have S':ScOk scope X.env.scope:=by rw[xo.s];exact S
 rw[exec_Assign_Name_used _ _ _ _ hsw];refine Za (wpAny_standAt (Za ?_));show wpAny _ X.A (do let _ <- comprehension (.ListComp elt [⟨tg,iter,ifs,0⟩] scope pos) scope X.env _ (newList []) false (eval iter X.env) (some (assign (.Name y py) X.env))) _ _ s;refine Za (bM (wpAny_comprehension_free (use:=some (assign (.Name y py) X.env)) (Q:=λ_ s'=>SP X pins Z .next s') rfl (λz=>by cases iter<;>first |rfl|(cases hset;done)) (gB λp hp e=>I.ok.has p.1 (.inl (S'.free p hp e))) S.kind S.loc ?_) λ_ s' q=>Zb (Zb q));refine bM hw λv s1 q1=>bM q1 λitv s2 q2=>?_;obtain⟨it,fp,tn,J,H2,rfl,I2,T,st2,fok,m2,h2,eh2,g2,w2,Lp,k0,L0,hst⟩:=q2;refine oX (Rr:=λacc C=>compPost (model X.prog X.w) X.A X.xe (some (assign (.Name y py) X.env)) (λ_ s'=>SP X pins Z .next s') acc C) S' hcap (by rw[xo.n];exact hN) hfr xo.calm blk I2 T st2 fok w2 (st.mono g2) Lp k0 L0 hst λacc C s1 H' m' I1 ⟨mm,hn⟩ hC hL hz hc hp g' w' rv=>?_;rw[eh2] at rv;show wpAny _ X.A (assign (.Name y py) X.env (.ref acc)) _ _ s1;have hyl:X.env.kindOf y=some .local:=by show X.env.scope.names.lookup y=_;rw[xo.s];exact hl
 refine wpAny_assign_Name (kG (i:=i) (v:=.ref acc) I1 xo.nd (by rw[xo.n];exact hy) (.inl (by rw[xo.s];exact hl)) rfl (λs5 I5 ⟨a,hsa,hq⟩=>?_) (.inr (by rw[xo.s];exact hl)))
 have ea:a≠C:=by
  rcases hq with rfl|hq
  ·exact λz=>hL z.symm
  ·exact hc _ _ hq
 refine⟨mm,?_,λhh hsb=>⟨_,H',I5.turned (λb o hb e=>hsb.extBut b o hb e) hC hL (.inr hz) hc hp,c m' _ H' (g2.trans g') w' rv⟩⟩;obtain⟨o,es,ep,e1,e2⟩:=hn;exact⟨o,es,ep,hsa.extBut C o (Ne.symm ea) e1,e2⟩
end
section
variable {X:Cx}{N:List Str}{sc:Scope}{G:Gs}{ca:Nat->Addr}{cl:Cl}
theorem qW{ifs:List Expr}{env:Env}{M:Model}{A:Around}{E:Value->Shared->Prop}{s:Shared}{Q:Bool->Shared->Prop}(h:Q false s):wpAny M A (eO ifs env false) Q E s:=by
 induction ifs with
 |nil=>exact Zb h
 |cons c l ih=>
  unfold eO at ih⊢;rw[List.forIn_cons,if_neg Bool.false_ne_true];exact Za (Zb ih)
theorem tB{c:Expr}{l:List Expr}{env:Env}{M:Model}{A:Around}{E:Value->Shared->Prop}{s:Shared}{Q:Bool->Shared->Prop}(h:wpAny M A (isTrue c env (eval c env)) (λb s'=>wpAny M A (eO l env b) Q E s') E s):wpAny M A (eO (c::l) env true) Q E s:=by
 unfold eO at h⊢;rw[List.forIn_cons,if_pos rfl];exact Za (Za (bM h λb s' q=>Zb q))
theorem eK{N':List Str}{scope:Scope}(xo:XOk X N sc)(nd:N'.Nodup)(C:Addr)(s3:Shared)(H3:Hp)(fp:List Addr):XOk (cV X N' scope C s3 H3 fp) N' (cN scope sc):=
 ⟨rfl,by rw[<- xo.s];rfl,xo.calm,nd,xo.room,xo.rng,PassesOwn.never⟩
theorem qM{N':List Str}{scope:Scope}(S:ScOk scope X.env.scope)(C:Addr)(s3:Shared)(H3:Hp)(fp:List Addr):KH (cV X N' scope C s3 H3 fp) scope:=λx hx=>by
 rcases fV hx with h|h
 ·have z:(relabel scope X.env).names.lookup x=some .local:=lookup_relabel_local h;exact⟨.inl z,.inr z⟩
 ·have z:(relabel scope X.env).names.lookup x=some .cell:=xF h;refine⟨.inr z,.inl ?_⟩
  show(scope.names.lookup x==some .cell)=true
  rw[h];rfl
theorem jF{N':List Str}{scope:Scope}(go:GOk X G ca cl)(C:Addr)(s3:Shared)(H3:Hp)(fp:List Addr):GOk (cV X N' scope C s3 H3 fp) G ca cl:=⟨go.fn,go.cst,go.blt,go.ty,go.exc,go.sub,go.nsub,go.verr,⟨go.c.att,go.c.meth,go.c.new⟩⟩
end
noncomputable abbrev yR:=Sem PySem.Fin->Sem PySem.Fin
noncomputable def nM(kx vx:Expr)(Dn:Addr)(env:Env):yR:=λag=>(eval kx env>>=λkv=>holding [kv] (eval vx env)>>=λvv=>standAt {kx.pos with endLine:=vx.pos.endLine,endCol:=vx.pos.endCol}>>=λ_=>holding [kv,vv] (dictSet Dn kv vv))>>=λ_=>ag
noncomputable def lZ(tg:Expr)(ip:Pos)(it:Value)(env:Env)(emit:yR)(ag:Sem PySem.Fin):Sem PySem.Fin:=standAt ip>>=λ_=>pyNext it>>=λr=>match r with
 |none=>pure (.done .next)
 |some v=>letOwnedTupleGo tg it v>>=λ_=>assign tg env v>>=λ_=>emit ag
theorem RI{kx vx e tg:Expr}{gens:List Comprehension}{scope:Scope}{pos:Pos}{dep:Nat}{ip:Pos}{it acc:Value}{env:Env}{emit:yR}(he:e=.DictComp kx vx gens scope pos){P:Program}{w:World}{A:Around}{R:Result->Shared->Prop}{s:Shared}(hct:compTurn e dep it acc env=lZ tg ip it env emit (again (.compLoop e dep it acc env)))(J:Nat->Shared->Prop)
 (turn:∀k s,J k s->wpAny (model P w) A (pyNext it) (λr s1=>match r with
   |none=>R (.ok .next) s1
   |some v=>wpAny (model P w) A (letOwnedTupleGo tg it v) (λ_ s2=>wpAny (model P w) A (assign tg env v) (λ_ s3=>∀(Z:PySem.Fin->Shared->Prop)(E:Value->Shared->Prop)(ag:Sem PySem.Fin),(∀s4,(∃k',k'<k/\J k' s4)->wpAny (model P w) A ag Z E s4)->wpAny (model P w) A (emit ag) Z E s3) lI s2) lI s1) lI s)
 (k:Nat)(h:J k s):codeAny (model P w) A (.compLoop e dep it acc env) R s:=by
 subst he;refine codeAny_loop (I:=J) rfl (turn:=λk s hk=>?_) k h;show wpAny _ A (Sem.onRaise (compTurn (.DictComp kx vx gens scope pos) dep it acc env) (λx=>do noteFrame x env;theTreesLotGoes x)) _ _ s;refine wpAny_noted ?_;rw[hct];unfold lZ;have no:∀{E:Value->Shared->Prop}(e:Value)(s:Shared),lI e s->E e s:=λ_ _ f=>f.elim;refine Za (wpAny_standAt (Za (wpAny_mono (turn k s hk) (λr s1 q1=>?_) no)));cases r with
 |none=>exact Zb q1
 |some v=>exact Za (wpAny_mono q1 (λ_ s2 q2=>Za (wpAny_mono q2 (λ_ s3 q3=>q3 _ _ _ λs4 q4=>Zb ⟨rfl,q4⟩) no)) no)
def PB(Y:Cx)(emit:yR)(n0:Nat)(acc:Addr)(fb:Ev->Hh->Rs Ev):Prop:=∀(pins:List (Addr×Obj))(s:Shared)(σ:Sg)(H:Hp)(m:List Addr)(r:Ev)(h:Hh)(r':Ev)(h':Hh),Inv Y pins σ H s->Wd Y.K m h H->RSt Y.K m H r σ->m[n0]? =some acc->fb r h=.ok r' h'->
 ∀(Z:PySem.Fin->Shared->Prop)(E:Value->Shared->Prop)(ag:Sem PySem.Fin),(∀s' m' σ' H',Inv Y pins σ' H' s'->Gr Y.K m H m' H'->Wd Y.K m' h' H'->RSt Y.K m' H' r' σ'->wpAny (model Y.prog Y.w) Y.A ag Z E s')->wpAny (model Y.prog Y.w) Y.A (emit ag) Z E s
def OV(K:W.Frag)(t:Tg)(fb:Ev->Hh->Rs Ev)(End:Ev->Hh->Prop)(J:It)(Lp:Nat->Nat->Ev->Hh->Prop)(i k:Nat)(r:Ev)(h:Hh)(m:List Addr)(H:Hp):Prop:=
 (J.stop i H/\End r h)\/(J.go i H/\∃d,(∀x H2,J.yld i H x H2->Gr K m H m H2/\Wd K m h H2/\RD K m H2 d x)/\∃r1,cZ t d r=some r1/\∃r2 h1,fb r1 h=.ok r2 h1/\∃k',k'<k/\Lp (i+1) k' r2 h1)
section
variable {Y:Cx}{tg e:Expr}{kx vx:Expr}{gens:List Comprehension}{scope:Scope}{pos:Pos}{t:Tg}{emit:yR}{fb:Ev->Hh->Rs Ev}{n0 acc dep:Nat}{ip:Pos}{it:Addr}{J:It}{fp:List Addr}{tn:Nat->Heap->Prop}{m2:List Addr}{H2:Hp}{End:Ev->Hh->Prop}{R:Result->Shared->Prop}{pins:List (Addr×Obj)}
theorem oP(he:e=.DictComp kx vx gens scope pos)(hct:compTurn e dep (.ref it) (.ref acc) Y.env=lZ tg ip (.ref it) Y.env emit (again (.compLoop e dep (.ref it) (.ref acc) Y.env)))(calm:Y.calm=true)(bG:PG Y tg (sU Y.K t))(hxe:Y.xe=lI)(bE:PB Y emit n0 acc fb)(T:Turn Y.prog Y.w Y.K tg J fp it tn)
 (Lp:Nat->Nat->Ev->Hh->Prop)(hst:∀i k r h m H,Gr Y.K m2 H2 m H->Wd Y.K m h H->Lp i k r h->OV Y.K t fb End J Lp i k r h m H)(hacc:m2[n0]? =some acc)
 (fok:∀{H:Hp},(∀b∈fp,H b=none)->∀b∈fp,gY Y pins H b)
 {s:Shared}{σ:Sg}{H:Hp}{m:List Addr}{r:Ev}{h:Hh}{k:Nat}(I:Inv Y pins σ H s)(st:tn 0 s.heap)(fr:∀b∈fp,H b=none)(g:Gr Y.K m2 H2 m H)(w:Wd Y.K m h H)(rs:RSt Y.K m H r σ)(L0:Lp 0 k r h)
 (fin:∀s' σ' H' m' r' h',Inv Y pins σ' H' s'->Gr Y.K m2 H2 m' H'->Wd Y.K m' h' H'->RSt Y.K m' H' r' σ'->End r' h'->R (.ok .next) s'):codeAny (model Y.prog Y.w) Y.A (.compLoop e dep (.ref it) (.ref acc) Y.env) R s:=by
 refine RI he hct (λk s=>∃i σ' H' m r h,Inv Y pins σ' H' s/\tn i s.heap/\(∀b∈fp,H' b=none)/\Gr Y.K m2 H2 m H'/\Wd Y.K m h H'/\RSt Y.K m H' r σ'/\Lp i k r h) ?_ k ⟨0,σ,H,m,r,h,I,st,fr,g,w,rs,L0⟩;rintro k s ⟨i,σ',H',m,r',h,I',st',fr',g',w',rst',L⟩;rcases hst i k r' h m H' g' w' L with ⟨stop,eh⟩|⟨go,d,hy,r1,er,r2,h1,eb,rest⟩
 ·refine bM (T.done Y rfl rfl rfl calm i pins s σ' H' lI I' (fok fr') st' stop) λres s1 ⟨hr,I1⟩=>?_;subst hr;exact fin s1 σ' H' m r' h I1 g' w' rst' eh
 ·refine bM (T.item Y rfl rfl rfl calm i pins s σ' H' lI I' (fok fr') st' go) λres s1 ⟨u,hr,q1⟩=>?_;subst hr;refine bM q1 λ_ s5 ⟨x,H5,I5,rx,yl,st5,fr5⟩=>?_;obtain⟨gy,wy,rd⟩:=hy x H5 yl;have I5':=I5.pinned (fok fr5) (T.obj _ _ st5);have bG':=bG (pins++kJ fp s5.heap) s5 σ' H5 x u (λσ2 H6=>H6=H5/\RSt Y.K m H5 r1 σ2) I5' rx ⟨m,h,r',d,r1,wy,rst'.mono gy,rd,er,λs' z=>⟨rfl,z⟩⟩;rw[hxe] at bG';refine bM bG' λ_ s6 ⟨σ6,H6,I6,eH6,st6⟩=>?_;subst eH6;obtain⟨k',hk,L7⟩:=rest;intro Z E ag hag;refine bE _ s6 σ6 H6 m r1 h r2 h1 I6 wy st6 (g'.pre _ _ hacc) eb Z E ag λs7 m7 σ7 H7 I7 g7 w7 st7=>hag s7 ?_;have pn:∀b∈fp,∀o,s5.heap.get? b=some o->s7.heap.get? b=some o/\H7 b=none:=λb hb o e=>let z:=I7.pin (b,o) (List.mem_append_right _ (List.mem_append_right _ (fU hb e)));⟨z.1,z.2.1⟩;exact⟨k',hk,i+1,σ7,H7,m7,r2,h1,I7.unpinned,T.keep _ _ _ st5 λb hb o e=>(pn b hb o e).1,λb hb=>let⟨o,e,_⟩:=T.obj _ _ st5 b hb;(pn b hb o e).2,g'.trans (gy.trans g7),w7,st7,L7⟩
end
section
variable {Y:Cx}{kx vx iter2:Expr}{fk fv fi:Ev->Hh->Rs D}{n0 acc:Nat}
theorem RDs.snd_put{K:W.Frag}{m:List Addr}{H:Hp}{k:bQ}{z:D}{v:V}(rz:RD K m H z v):∀{ds:List (bQ×D)}{us:List (bQ×V)},ds.map (·.1)=us.map (·.1)->RDs K m H (ds.map (·.2)) (us.map (·.2))->
 (ds.map (λkv=>if kv.1=k then(kv.1,z) else kv)).map (·.1)=(us.map (λkv=>if kv.1=k then(kv.1,v) else kv)).map (·.1)/\RDs K m H ((ds.map (λkv=>if kv.1=k then(kv.1,z) else kv)).map (·.2)) ((us.map (λkv=>if kv.1=k then(kv.1,v) else kv)).map (·.2))
 | [],[],_,_=>⟨rfl,.nil⟩
 | [],q::us,hk,_=>by simp at hk
 |p::ds,[],hk,_=>by simp at hk
 |p::ds,q::us,hk,r=>by
  simp only[Zh,List.cons.injEq] at hk;cases r with
  |cons r1 r2=>
   obtain⟨i1,i2⟩:=RDs.snd_put (k:=k) rz hk.2 r2;simp only[Zh]
   by_cases e:p.1=k
   ·have e2:q.1=k:=by rw[<- hk.1];exact e
    rw[if_pos e,if_pos e2];exact⟨by simp only[List.cons.injEq];exact⟨hk.1,i1⟩,.cons rz i2⟩
   ·have e2:¬q.1=k:=by rw[<- hk.1];exact e
    rw[if_neg e,if_neg e2];exact⟨by simp only[List.cons.injEq];exact⟨hk.1,i1⟩,.cons r1 i2⟩
theorem ET{K:W.Frag}{m:List Addr}{H:Hp}{k:bQ}{z:D}{v:V}{ds:List (bQ×D)}{us:List (bQ×V)}(rz:RD K m H z v)(hk:ds.map (·.1)=us.map (·.1))(r:RDs K m H (ds.map (·.2)) (us.map (·.2))):
 (nV ds k z).map (·.1)=(gI us k v).map (·.1)/\RDs K m H ((nV ds k z).map (·.2)) ((gI us k v).map (·.2)):=by
 have an:(ds.any λkv=>decide (kv.1=k))=us.any λkv=>decide (kv.1=k):=by
  have h1:(ds.any λkv=>decide (kv.1=k))=(ds.map (·.1)).any λx=>decide (x=k):=by rw[List.any_map];rfl
  have h2:(us.any λkv=>decide (kv.1=k))=(us.map (·.1)).any λx=>decide (x=k):=by rw[List.any_map];rfl
  rw[h1,h2,hk]
 unfold nV gI;rw[an];split
 ·exact RDs.snd_put rz hk r
 ·simp only[List.map_append,Zh,List.map_nil];exact⟨by rw[hk],r.append (.cons rz .nil)⟩
theorem wG{K:W.Frag}{m:List Addr}{h h':Hh}{H:Hp}{n:Nat}{a:Addr}{y z:D}{vy vz:V}{u:Unit}(w:Wd K m h H)(ha:m[n]? =some a)(ry:RD K m H y vy)(rz:RD K m H z vz)(e:gG n y z h=.ok u h'):
 ∃us k,H a=some (.dK us)/\vy=kV k/\us.length<1000/\Wd K m h' (bI H a (.dK (gI us k vz)))/\Gr K m H m (bI H a (.dK (gI us k vz))):=by
 unfold gG at e;split at e
 ·rename_i l k el ek;split at e
  ·rename_i hl;cases e;obtain⟨us,q1,q2,q3⟩:=w.ob n _ a el ha;have ll:l.length=us.length:=by have:=congrArg List.length q2;simpa using this
   obtain⟨w2,g2⟩:=w.objSet (o':=.dct (nV l k z)) (u:=.dK (gI us k vz)) el rfl ha λg=>by
    obtain⟨i1,i2⟩:=ET (k:=k) (rz.mono g) q2 (q3.mono g);exact⟨_,aS,i1,i2⟩
   exact⟨us,k,q1,gQ ry ek,by omega,w2,g2⟩
  ·cases e
 ·cases e
noncomputable def VE(fk fv:Ev->Hh->Rs D)(n0:Nat):Ev->Hh->Rs Ev:=λr h=>(fk r h).bind λy h=>(fv r h).bind λz h=>(gG n0 y z h).bind λ_ h=>.ok r h
theorem EZ(hxe:Y.xe=lI)(pk:PE Y kx (TDE Y.K fk))(pvx:PE Y vx (TDE Y.K fv)):PB Y (nM kx vx acc Y.env) n0 acc (VE fk fv n0):=by
 intro pins s σ H m r h r' h' I w st hm e Z E ag hag;obtain⟨y,h1,e1,e⟩:=Rs.bind_ok e;obtain⟨z,h2,e2,e⟩:=Rs.bind_ok e;obtain⟨u,h3,e3,e⟩:=Rs.bind_ok e;cases e;have no:∀{E:Value->Shared->Prop}(e:Value)(s:Shared),lI e s->E e s:=λ_ _ f=>f.elim;unfold nM;have p1:=pk pins s σ H (λv H1=>∃m1,Gr Y.K m H m1 H1/\Wd Y.K m1 h1 H1/\RD Y.K m1 H1 y v) I ⟨m,r,h,y,h1,w,st,e1,λm' v H' g w' rv=>⟨m',g,w',rv⟩⟩;rw[hxe] at p1;refine Za (Za (wpAny_mono p1 (λkv s1 ⟨ky,H1,I1,rk,m1,g1,w1,rdk⟩=>?_) no));have p2:=pvx pins s1 σ H1 (λv H2=>∃m2,Gr Y.K m1 H1 m2 H2/\Wd Y.K m2 h2 H2/\RD Y.K m2 H2 z v) I1 ⟨m1,r,h1,z,h2,w1,st.mono g1,e2,λm' v H' g w' rv=>⟨m',g,w',rv⟩⟩;rw[hxe] at p2;refine Za (wpAny_holding (wpAny_mono p2 (λvv s2 ⟨vy,H2,I2,rv,m2,g2,w2,rdv⟩=>?_) no));refine Za (wpAny_standAt (wpAny_holding ?_));have hm2:=g2.pre _ _ (g1.pre _ _ hm);obtain⟨us,k,q1,rfl,q3,w3,g3⟩:=wG w2 hm2 (rdk.mono g2) rdv e3;obtain⟨zl,hd,vs,rel,dd⟩:=oW I2.hok q1;have hz:vs.length<=sizeLine:=by rw[<- rel.length];exact zl
 have hl:(gI us k vy).length<=sizeLine:=by have:=gP us k vy;have:(1001:Nat)<=sizeLine:=(by decide);omega
 refine wpAny_dictSet_pairs (hsz:=hz) (mX rk) dd λhh dd' hs=>?_;have he:∃q,hh.get? acc=some q:=let⟨q,_,_,hq,_⟩:=dd';⟨q,hq⟩;exact hag _ m2 σ _ (eZ I2 (by rw[q1];exact True.intro) hs he (uM hl hd (rel.put k rv) dd')) ((g1.trans g2).trans g3) w3 (st.mono ((g1.trans g2).trans g3))
end
section
variable {Y:Cx}{kx vx tg1 iter1 tg2 iter2:Expr}{scope:Scope}{pos:Pos}{t2:Tg}{fk fv fi:Ev->Hh->Rs D}{n0 acc:Nat}
end
section
variable {X:Cx}{N':List Str}{scope:Scope}{cap:List Nat}{kx vx tg1 iter1 tg2 iter2:Expr}{pos:Pos}{t1 t2:Tg}{fi fk fv:Ev->Hh->Rs D}
end
section
variable {X:Cx}{pins:List (Addr×Obj)}{σ:Sg}{H:Hp}{s:Shared}
theorem uI{P:Program}{w:World}{H:Hp}{h:Heap}{a:Addr}{xs:List (List Int×Addr×Value)}(d:Dtt a xs h):ObjOk P w H h a (.ext (Dtt a xs)):=by
 obtain⟨h1,h2,P0,w0,o,es,ep,h3,h4,h5,h6,h7⟩:=id d;refine⟨d,⟨o,h3⟩,λg1 g2 ⟨a1,a2,P1,w1,o1,es1,ep1,a3,a4⟩ k=>⟨a1,a2,P1,w1,o1,es1,ep1,k o1 a3,a4⟩⟩
theorem Dtt.of(I:Inv X pins σ H s){a:Addr}{xs:List (List Int×Addr×Value)}(e:H a=some (.ext (Dtt a xs))):Dtt a xs s.heap:=(show ObjOk X.prog X.w H s.heap a (.ext (Dtt a xs)) from I.hok a _ e).1
theorem rK{K:W.Frag}{m:List Addr}{H:Hp}{k:List Int}{z:D}{vz:V}{uz:Value}(rz:RD K m H z vz)(sz:RelV vz uz):∀{ds:List (List Int×D)}{xs:List (List Int×Addr×Value)}{us:List V},ds.map (·.1)=xs.map (·.1)->RDs K m H (ds.map (·.2)) us->Vals us (xs.map (·.2.2))->
 ∃us',(ds.map λkv=>if kv.1=k then(kv.1,z) else kv).map (·.1)=(xs.map (putAt k uz)).map (·.1)/\RDs K m H ((ds.map λkv=>if kv.1=k then(kv.1,z) else kv).map (·.2)) us'/\Vals us' ((xs.map (putAt k uz)).map (·.2.2))/\∀x∈xs.map (putAt k uz),∃y∈xs,x.1=y.1/\x.2.1=y.2.1
 | [],[],us,_,r,p=>⟨[],rfl,.nil,.nil,λx hx=>by cases hx⟩
 | [],_::_,us,h,_,_=>by cases h
 |_::_,[],us,h,_,_=>by cases h
 |d::ds,x::xs,us,h,r,p=>by
  cases r with
  | @cons _ v1 _ _ r1 r=>
    cases p with
    |cons p1 p=>
     obtain⟨h1,h2⟩:=List.cons.inj (show d.1::ds.map (·.1)=x.1::xs.map (·.1) from h);obtain⟨us',a,b,c,e⟩:=rK rz sz h2 r p
     by_cases q:d.1=k
     ·have q':x.1=k:=by rw[<- h1];exact q
      refine⟨vz::us',?_,?_,?_,?_⟩
      ·simp only[Zh,putAt,if_pos q,if_pos q'];rw[h1];congr 1
      ·simp only[Zh,if_pos q];exact .cons rz b
      ·simp only[Zh,putAt,if_pos q'];exact .cons sz c
      ·intro y hy;rw[Zh] at hy;rcases List.mem_cons.mp hy with rfl|hy
       ·exact⟨x,Zl,by simp[putAt,q'],by simp[putAt,q']⟩
       ·obtain⟨y',m1,m2⟩:=e y hy;exact⟨y',Zj _ m1,m2⟩
     ·have q':¬x.1=k:=by rw[<- h1];exact q
      refine⟨v1::us',?_,?_,?_,?_⟩
      ·simp only[Zh,putAt,if_neg q,if_neg q'];rw[h1];congr 1
      ·simp only[Zh,if_neg q];exact .cons r1 b
      ·simp only[Zh,putAt,if_neg q'];exact .cons p1 c
      ·intro y hy;rw[Zh] at hy;rcases List.mem_cons.mp hy with rfl|hy
       ·exact⟨x,Zl,by simp[putAt,q'],by simp[putAt,q']⟩
       ·obtain⟨y',m1,m2⟩:=e y hy;exact⟨y',Zj _ m1,m2⟩
theorem rL{K:W.Frag}{m:List Addr}{H:Hp}{k:List Int}{z:D}{vz:V}{uz:Value}{b:Addr}(hb:SqT K H b (k.map V.int))(rz:RD K m H z vz)(sz:RelV vz uz){ds:List (List Int×D)}{xs:List (List Int×Addr×Value)}{us:List V}(h:ds.map (·.1)=xs.map (·.1))(hk:∀x∈xs,SqT K H x.2.1 (x.1.map V.int))(r:RDs K m H (ds.map (·.2)) us)(p:Vals us (xs.map (·.2.2))):
 ∃us',(jP ds k z).map (·.1)=(storedH xs k b uz).map (·.1)/\(∀x∈storedH xs k b uz,SqT K H x.2.1 (x.1.map V.int))/\RDs K m H ((jP ds k z).map (·.2)) us'/\Vals us' ((storedH xs k b uz).map (·.2.2)):=by
 have e:ds.any (λkv=>decide (kv.1=k))=(atKey xs k).isSome:=by rw[pG];exact nT h
 unfold jP storedH;rw[e]
 by_cases q:(atKey xs k).isSome=true
 ·rw[if_pos q,if_pos q];obtain⟨us',a,b',c,d⟩:=rK (k:=k) rz sz h r p;refine⟨us',a,λx hx=>?_,b',c⟩;obtain⟨y,hy,e1,e2⟩:=d x hx;rw[e1,e2];exact hk y hy
 ·rw[if_neg q,if_neg q];refine⟨us++ [vz],by simp[h],λx hx=>?_,?_,?_⟩
  ·rcases List.mem_append.mp hx with hx|hx
   ·exact hk x hx
   ·have:x=(k,b,uz):=by simpa using hx
    subst this;exact hb
  ·rw[List.map_append];exact r.append (.cons rz .nil)
  ·rw[List.map_append];exact p.append (.cons sz .nil)
theorem mE{xs:List (List Int×Addr×Value)}{k:List Int}{b:Addr}{u:Value}:(storedH xs k b u).length<=xs.length+1:=by
 unfold storedH;split<;>simp
theorem GK{A:Around}{E:Value->Shared->Prop}{Q:Unit->Shared->Prop}{m:List Addr}{h:Hh}(hu:A.units+1<cLine)(I:Inv X pins σ H s)(w:Wd X.K m h H){n:Nat}{a b:Addr}{l:List (List Int×D)}{k:List Int}{z:D}{vz:V}{uz:Value}(hn:h[n]? =some (.dtt l))(ha:m[n]? =some a)(hl:l.length<1000)
 (hb:SqT X.K H b (k.map V.int))(rz:RD X.K m H z vz)(sz:RelV vz uz)(c:∀s' H',Inv X pins σ H' s'->Gr X.K m H m H'->Wd X.K m (h.set n (.dtt (jP l k z))) H'->Q () s'):wpAny (model X.prog X.w) A (setItem (.ref a) (.ref b) uz) Q E s:=by
 obtain⟨xs,us,h1,h2,h3,h4,h5⟩:RO X.K m H a (.dtt l):=w.ob n _ a hn ha;obtain⟨d1,d2,P0,w0,o,es,ep,d3,d4,d5,d6,d7⟩:=Dtt.of I h1;have xl:l.length=xs.length:=by have:=congrArg List.length h2;simpa using this
 have dd:s.heap.DictOfH (tupleKind (intKind X.prog X.w)) a xs:=⟨o,es,ep,d3,d4,d5,d6.trans (by rw[nJ P0 X.prog w0 X.w]),λx hx=>tW I (h3 x hx),d7⟩
 refine wpAny_setItem_heap (hsz:=by have:(1000:Nat)<=sizeLine:=by decide
                                    omega) (tupleKind_room_in1 hu) (tW I hb) dd λg dd' hs=>?_
 obtain⟨o',es',ep',e3,e4,e5,e6,_,e7⟩:=dd';have dn:Dtt a (storedH xs k b uz) g:=⟨d1,by have:=mE (xs:=xs) (k:=k) (b:=b) (u:=uz);omega,X.prog,X.w,o',es',ep',e3,e4,e5,e6,e7⟩;obtain⟨us',f1,f2,f3,f4⟩:=rL hb rz sz h2 h3 h4 h5;obtain⟨w2,g2⟩:=w.objSet (o':=.dtt (jP l k z)) (u:=.ext (Dtt a (storedH xs k b uz))) hn rfl ha λg=>⟨storedH xs k b uz,us',aS,f1,λx hx=>g.tup _ _ (f2 x hx),f3.mono g,f4⟩;exact c _ _ (eZ I (by rw[h1];exact True.intro) hs ⟨o',e3⟩ (uI dn)) g2 w2
theorem kX{prog:Program}{w:World}(d:Addr)(hd:(d==sysModules)=false):MeetsIn prog w (Builtin.«dict.items» ⟨[.ref d],[]⟩) (λ_ R s=>s.TypeIs (.ref d) "dict"/\
 R (.ok (.ret (.ref s.heap.objs.size))) {s with heap:=s.heap.push {cls:=.type "dict_items",data:=.fields #[.ref d]}}):=
 .of_wp λA R s ⟨ht,h⟩=>by
  unfold Builtin.«dict.items»;refine Za ?_;unfold Builtin.Dict.noArgs;refine Za (wpAny_notOrdered_dict ht ?_);show wpAny _ _ (pure d) _ _ s;refine Zb ?_;show wpAny _ _ (Builtin.Dict.showsAll d>>=_) _ _ s;unfold Builtin.Dict.showsAll;rw[if_neg (by rw[hd];exact Bool.false_ne_true)];exact Za (Zb (Za (wpAny_newObj_type (Zb ⟨_,rfl,h⟩))))
noncomputable def Itd(d:Addr)(o:Obj)(ks:List (Addr×V)):It:=
 ⟨λi H=>H d=some (.frz o (.own d))/\i<ks.length,λi H x H'=>∃p k v,H p=none/\ks[i]? =some (k,v)/\x=.ref p/\H'=bI H p (.tup [.ref k,v]),λi H=>H d=some (.frz o (.own d))/\ks.length<=i⟩
theorem sZ{P:Program}{w:World}{K:W.Frag}{elts:List Expr}{x1:Nat}{pos:Pos}{d it:Addr}{o:Obj}{es:Array DictEntry}{ep:Nat}{ks:List (Addr×V)}(ho:o.data=.dict es ep)(hn:es.size=ks.length)(hk:∀(i:Nat) k v,ks[i]? =some (k,v)->∃en,es[i]? =some en/\en.key=.ref k/\RelV v en.val):
 Turn P w K (.Tuple elts x1 pos) (Itd d o ks) [it] it (λi h=>∃q1 q2,IsItemIter h it d i ks.length ep q1 q2) where
 mem:=by simp
 obj:=λi h st b hb=>by
  have e:b=it:=by simpa using hb
  subst e;obtain⟨q1,q2,e⟩:=st;exact⟨_,e,λv z=>nomatch z⟩
 keep:=λi h h' ⟨q1,q2,e⟩ k=>⟨q1,q2,k it (by simp) _ e⟩
 item:=by
  intro X hP hw hK hc i pins s σ H E I hf st hg;subst hP hw hK;obtain⟨q1,q2,st⟩:=st;obtain⟨hd,hi⟩:=hg;obtain⟨f0,f1,f2,f3,f4,f5⟩:=hf it (by simp);obtain⟨⟨k,v⟩,hkv⟩:∃p,ks[i]? =some p:=⟨_,Zd hi⟩;obtain⟨en,e1,e2,e3⟩:=hk i k v hkv;have od:s.heap.get? d=some o:=(show ObjOk X.prog X.w H s.heap d (.frz o (.own d)) from I.hok d _ hd).1;have il:it<s.heap.objs.size:=Heap.lt_size st;refine rX st od ho hn e1 λg h1 h2 h3 h4=>⟨.ref s.heap.objs.size,rfl,?_⟩;refine wpAny_letOwnedTupleGo_items h1 λg2 h5 h6=>?_;have hp:H s.heap.objs.size=none:=I.hok.fresh (Zn _)
  have I1:Inv X pins σ (bI H s.heap.objs.size (.tup [.ref k,v])) {s with heap:=s.heap.push {cls:=.type "tuple",data:=.seq #[en.key,en.val]}}:=
   I.laid (t':=s.toks) (o:=.tup [.ref k,v]) (λb u q=>Zf _ q) (Zn _) ⟨by show 2<=sizeLine;decide,[en.key,en.val],.cons (by rw[e2];rfl) (.cons e3 .nil),IsTup.new _ _⟩
  have ne:it≠s.heap.objs.size:=Nat.ne_of_lt il
  have I2:Inv X pins σ (bI H s.heap.objs.size (.tup [.ref k,v])) {s with heap:=g2}:=L2.Inv.turned (s:={s with heap:=s.heap.push {cls:=.type "tuple",data:=.seq #[en.key,en.val]}}) (h':=g2) (t':=s.toks) (it:=it) I1 (λb u hb q=>by
   have q0:(s.heap.push {cls:=.type "tuple",data:=.seq #[en.key,en.val]}).get? b=some u:=q
   by_cases z:b=s.heap.objs.size
   ·subst z;have q':some {cls:=.type "tuple",data:=.seq #[en.key,en.val]}=some u:=(Heap.get?_push_size s.heap rfl).symm.trans q0;rw[<- q'];exact h6.extBut _ _ hb h2
   ·rw[Heap.get?_push_ne _ _ _ z] at q0;exact h6.extBut b u hb (h4 b u hb q0)) (by rw[aK ne];exact f0) f1 f3 f4 f5
  exact⟨.ref s.heap.objs.size,_,I2,rfl,⟨_,k,v,hp,hkv,rfl,rfl⟩,⟨_,_,h5⟩,λb hb=>by
   have e:b=it:=by simpa using hb
   subst e;rw[aK ne];exact f0⟩
 done:=by
  intro X hP hw hK hc i pins s σ H E I hf st hg;subst hP hw hK;obtain⟨q1,q2,st⟩:=st;obtain⟨hd,hi⟩:=hg;obtain⟨f0,f1,f2,f3,f4,f5⟩:=hf it (by simp);have od:s.heap.get? d=some o:=(show ObjOk X.prog X.w H s.heap d (.frz o (.own d)) from I.hok d _ hd).1;exact vU (I.ok.hd hc) st od ho hn hi λg eb=>⟨rfl,I.turned (t':=s.toks) (λb o hb e=>eb b o hb e) f0 f1 f3 f4 f5⟩
 self:=λ_ _ _ _ _ ⟨q1,q2,st⟩ h=>W.kcp_self st h
end
theorem wP(t:Ty):bootBuiltins (Str.ofString t.nm)=some (.type t.nm):=by cases t<;>decide+kernel
theorem pI(t:Ty):(Str.ofString t.nm==("__debug__":Str))=false/\Str.ofString t.nm≠"__name__":=by cases t<;>decide+kernel
theorem nR(f:Blt):bootBuiltins f.nm=some f.val:=by cases f<;>decide+kernel
theorem HM(f:Blt):(f.nm==("__debug__":Str))=false/\f.nm≠"__name__":=by cases f<;>decide+kernel
section
variable {X:Cx}{N:List Str}{sc:Scope}{G:Gs}{ca:Nat->Addr}{cl:Cl}
theorem TDE.one{K:W.Frag}{fa f:Ev->Hh->Rs D}{k:Ev->D->Hh->Rs D}{s:Sg}{H:Hp}{Q R:VK}(hf:∀r h,f r h=(fa r h).bind (k r))(q:TDE K f s H Q)
 (c:∀(m m2:List Addr)(r:Ev)(d:D)(h2 h':Hh)(H2:Hp)(dx:D)(x:V),RSt K m H r s->Gr K m H m2 H2->Wd K m2 h2 H2->RSt K m2 H2 r s->RD K m2 H2 dx x->k r dx h2=.ok d h'->(∀m' v H',Gr K m2 H2 m' H'->Wd K m' h' H'->RD K m' H' d v->Q v H')->R x H2):TDE K fa s H R:=by
 obtain⟨m,r,h,d,h',w,st,e,cc⟩:=q;rw[hf] at e;obtain⟨dx,h1,e1,e⟩:=Rs.bind_ok e;exact⟨m,r,h,dx,h1,w,st,e1,λm1 x H1 g1 w1 rx=>c m m1 r d h1 h' H1 dx x st g1 w1 (st.mono g1) rx e λm' v H' g=>cc m' v H' (g1.trans g)⟩
end
def SE(N:List Str)(sc:Scope)(G:Gs)(c:E)(e:Expr):Prop:=∀{X:Cx}{ca:Nat->Addr}{cl:Cl},XOk X N sc->GOk X G ca cl->PE X e (TDE X.K (ev G cl c))/\PT X e (C5 X.K (ev G cl c))
def uZ(N:List Str)(sc:Scope)(G:Gs)(l:Es)(es:List Expr):Prop:=es.all dQ=true/\∀{X:Cx}{ca:Nat->Addr}{cl:Cl},XOk X N sc->GOk X G ca cl->PA X es (TDA X.K (cJ G cl l))
def KG(N:List Str)(sc:Scope)(G:Gs)(l:Es)(es:List Expr):Prop:=∀{X:Cx}{ca:Nat->Addr}{cl:Cl},XOk X N sc->GOk X G ca cl->OW X es (KD X.K (jU G cl l))
theorem dE{X:Cx}(pos:Pos):∀{es:List Expr},es.all dQ=true->(backTo pos (starEach es X.env)).any (·.1)=false
 | [],_=>rfl
 |e::es,h=>by
  rw[List.all_cons,Bool.and_eq_true] at h;rw[aW es h.1];have ih:=dE (X:=X) pos (es:=es) h.2;exact(show(false||(backTo pos (starEach es X.env)).any (·.1))=false by rw[ih];rfl)
section
variable {N:List Str}{sc:Scope}{G:Gs}
theorem OC{i:Nat}{x:Str}{pos:Pos}(h1:N[i]? =some x)(h:(yY sc x&&cS x)=true):SE N sc G (.var i) (.Name x pos):=λ{X ca cl} xo go=>by
 rw[Bool.and_eq_true] at h;obtain⟨h2,h3⟩:=h;obtain⟨d1,d2,d3⟩:=cD h3
 have p:PE X (.Name x pos) (TDE X.K (ev G cl (.var i))):=(pv i (by rw[xo.n];exact h1) (by rw[xo.s];exact vC h2) d1 d2).wk λs H Q ⟨m,r,hh,d,h',w,st,e1,c⟩=>by
  simp only[ev] at e1;split at e1
  ·rename_i d' ed;cases e1;obtain⟨v,hv,rv⟩:=st.2 i _ ed;exact⟨v,hv,c m v H Gr.refl w rv⟩
  ·cases e1
 exact⟨p,hE p λ_=>rfl⟩
theorem aA{i:Int}{j:Nat}{pos:Pos}:SE N sc G (.int i) (.Constant (.int i) j pos):=λ{X ca cl} xo go=>by
 have p:PE X (.Constant (.int i) j pos) (TDE X.K (ev G cl (.int i))):=(MB).wk λs H Q ⟨m,r,hh,d,h',w,st,e1,c⟩=>by
  cases e1;exact c m _ H Gr.refl w (.int i)
 exact⟨p,hE p λ_=>rfl⟩
theorem iL{b:Bool}{j:Nat}{pos:Pos}:SE N sc G (.bl b) (.Constant (.bool b) j pos):=λ{X ca cl} xo go=>by
 have p:PE X (.Constant (.bool b) j pos) (TDE X.K (ev G cl (.bl b))):=(JA).wk λs H Q ⟨m,r,hh,d,h',w,st,e1,c⟩=>by
  cases e1;exact c m _ H Gr.refl w (.bl b)
 exact⟨p,hE p λ_=>rfl⟩
theorem uN{j:Nat}{pos:Pos}:SE N sc G .non (.Constant .none j pos):=λ{X ca cl} xo go=>by
 have p:PE X (.Constant .none j pos) (TDE X.K (ev G cl .non)):=(LZ).wk λs H Q ⟨m,r,hh,d,h',w,st,e1,c⟩=>by
  cases e1;exact c m _ H Gr.refl w .non
 exact⟨p,hE p λ_=>rfl⟩
theorem cB{x:Str}{j:Nat}{pos:Pos}:SE N sc G (.str x) (.Constant (.str x) j pos):=λ{X ca cl} xo go=>by
 have p:PE X (.Constant (.str x) j pos) (TDE X.K (ev G cl (.str x))):=(pV).wk λs H Q ⟨m,r,hh,d,h',w,st,e1,c⟩=>by
  cases e1;exact c m _ H Gr.refl w (.str x)
 exact⟨p,hE p λ_=>rfl⟩
theorem lG{g:Nat}{x:Str}{d0:D}{pos:Pos}(q:G.csts[g]? =some (x,d0))(h:(lE sc x&&cS x)=true):SE N sc G (.gc g) (.Name x pos):=λ{X ca cl} xo go=>by
 rw[Bool.and_eq_true] at h;obtain⟨h2,h3⟩:=h;obtain⟨d1,d2,d3⟩:=cD h3;obtain⟨v,u,hm,rv,rd⟩:=go.cst g x d0 q
 have p:PE X (.Name x pos) (TDE X.K (ev G cl (.gc g))):=(vP (cR xo h2) hm rv d1).wk λs H Q ⟨m,r,hh,d,h',w,st,e1,c⟩=>by
  simp only[ev,q] at e1;cases e1;exact c m _ H Gr.refl w (rd m H)
 exact⟨p,hE p λ_=>rfl⟩
theorem eJ{t:Ty}{pos:Pos}(hg:lE sc (Str.ofString t.nm)=true):SE N sc G (.ty t) (.Name (Str.ofString t.nm) pos):=λ{X ca cl} xo go=>by
 have p:PE X (.Name (Str.ofString t.nm) pos) (TDE X.K (ev G cl (.ty t))):=(vQ (v:=.ty t.nm) (cR xo hg) (go.ty t) (wP t) rfl (pI t).2 (pI t).1).wk λs H Q ⟨m,r,hh,d,h',w,st,e1,c⟩=>by
  cases e1;exact c m _ H Gr.refl w (.ty _)
 exact⟨p,hE p λ_=>rfl⟩
theorem aE{op:Bop}{a b:E}{x y:Expr}{pos:Pos}(h_a:SE N sc G a x)(h_b:SE N sc G b y):SE N sc G (.bin op a b) (.BinOp x op.op y pos):=λ{X ca cl} xo go=>by
 have p:PE X (.BinOp x op.op y pos) (TDE X.K (ev G cl (.bin op a b))):=(IW (RB op) (h_a xo go).1 (h_b xo go).1).wk (TDE.op λr h=>by simp only[ev]);exact⟨p,hE p λ_=>rfl⟩
theorem dR{a:E}{x:Expr}{pos:Pos}(h_a:SE N sc G a x):SE N sc G (.neg a) (.UnaryOp .USub x pos):=λ{X ca cl} xo go=>by
 have p:PE X (.UnaryOp .USub x pos) (TDE X.K (ev G cl (.neg a))):=(QR KS (h_a xo go).1).wk λs H Q q=>by
  refine TDE.one (λ_ _=>rfl) q λm m2 r d h2 h' H2 dx y st g w2 st2 rx e c=>?_;cases rx<;>first |(cases e;done)|skip
  cases e;exact⟨_,rfl,c m2 _ H2 Gr.refl w2 (.int _)⟩
 exact⟨p,hE p λ_=>rfl⟩
theorem aJ{op:Cop}{a b:E}{x y:Expr}{pos:Pos}(hm:behindInMarks op.op y=false)(h_a:SE N sc G a x)(h_b:SE N sc G b y):SE N sc G (.cmp op a b) (.Compare x [op.op] [y] pos):=λ{X ca cl} xo go=>by
 refine⟨(EX (oK xo.room op) ((h_a xo go).1) ((h_b xo go).1) hm).wk (TDE.op λr h=>by simp only[ev]),?_⟩;refine(EU (oK xo.room op) ((h_a xo go).1) ((h_b xo go).1) hm).wk λs H Q ⟨m,r,hh,d,h',k,w,st,e1,ek,c⟩=>?_;refine TDE.op (f:=ev G cl (.cmp op a b)) (k:=cG op) (λr h=>by simp only[ev]) s H _ ⟨m,r,hh,d,h',w,st,e1,λm' v H' g w' rd=>?_⟩;have e1':=e1;simp only[ev] at e1';obtain⟨_,_,_,e1'⟩:=Rs.bind_ok e1';obtain⟨_,_,_,e1'⟩:=Rs.bind_ok e1';obtain⟨k',rfl⟩:=lR e1';cases rd;have ek':k'=k:=Zg ek;subst ek';exact⟨k',rfl,c m' H' g w'⟩
theorem dZ{a b:E}{x:Expr}{v:Expr}{vs:List Expr}{pos:Pos}(h_a:SE N sc G a x)(h_b:SE N sc G b (.BoolOp .And (v::vs) pos)):SE N sc G (.and a b) (.BoolOp .And (x::v::vs) pos):=λ{X ca cl} xo go=>by
 have hb:=h_b xo go;refine⟨(vR ((h_a xo go).1) hb.1).wk λs H Q q=>?_,(zZ ((h_a xo go).2) (zY hb.2)).pt.wk λs H Q q=>?_⟩
 ·refine TDE.one (λ_ _=>rfl) q λm m2 r d h2 h' H2 dx v st g w2 st2 rx e c=>?_;split at e
  ·rename_i et;exact⟨true,kF w2 rx et,nX (⟨m2,r,h2,d,h',w2,st2,e,c⟩)⟩
  ·rename_i et;cases e;exact⟨false,kF w2 rx et,nY (c m2 v H2 Gr.refl w2 rx)⟩
  ·cases e
 ·obtain⟨m,r,hh,d,h',k,w,st,e1,ek,c⟩:=q;simp only[ev] at e1;obtain⟨dx,h1,e0,e1⟩:=Rs.bind_ok e1;split at e1
  ·rename_i et;exact⟨m,r,hh,dx,h1,true,w,st,e0,et,λm' H' g w'=>nX (⟨m',r,h1,d,h',k,w',st.mono g,e1,ek,λm2 H2 g2=>c m2 H2 (g.trans g2)⟩)⟩
  ·rename_i et;cases e1;rw[et] at ek;cases ek;exact⟨m,r,hh,_,_,false,w,st,e0,et,λm' H' g w'=>nY (c m' H' g w')⟩
  ·cases e1
theorem bL{a b:E}{x y:Expr}{pos:Pos}(h_a:SE N sc G a x)(h_b:SE N sc G b y):SE N sc G (.and a b) (.BoolOp .And [x,y] pos):=
 dZ h_a λ{X ca cl} xo go=>⟨tK (h_b xo go).1,(vK (h_b xo go).2).pt⟩
theorem CU{a b:E}{x:Expr}{v:Expr}{vs:List Expr}{pos:Pos}(h_a:SE N sc G a x)(h_b:SE N sc G b (.BoolOp .Or (v::vs) pos)):SE N sc G (.or a b) (.BoolOp .Or (x::v::vs) pos):=λ{X ca cl} xo go=>by
 have hb:=h_b xo go;refine⟨(LY ((h_a xo go).1) hb.1).wk λs H Q q=>?_,(QO ((h_a xo go).2) (zY hb.2)).pt.wk λs H Q q=>?_⟩
 ·refine TDE.one (λ_ _=>rfl) q λm m2 r d h2 h' H2 dx v st g w2 st2 rx e c=>?_;split at e
  ·rename_i et;cases e;exact⟨true,kF w2 rx et,nX (c m2 v H2 Gr.refl w2 rx)⟩
  ·rename_i et;exact⟨false,kF w2 rx et,nY (⟨m2,r,h2,d,h',w2,st2,e,c⟩)⟩
  ·cases e
 ·obtain⟨m,r,hh,d,h',k,w,st,e1,ek,c⟩:=q;simp only[ev] at e1;obtain⟨dx,h1,e0,e1⟩:=Rs.bind_ok e1;split at e1
  ·rename_i et;cases e1;rw[et] at ek;cases ek;exact⟨m,r,hh,_,_,true,w,st,e0,et,λm' H' g w'=>nX (c m' H' g w')⟩
  ·rename_i et;exact⟨m,r,hh,dx,h1,false,w,st,e0,et,λm' H' g w'=>nY (⟨m',r,h1,d,h',k,w',st.mono g,e1,ek,λm2 H2 g2=>c m2 H2 (g.trans g2)⟩)⟩
  ·cases e1
theorem jV{a b:E}{x y:Expr}{pos:Pos}(h_a:SE N sc G a x)(h_b:SE N sc G b y):SE N sc G (.or a b) (.BoolOp .Or [x,y] pos):=
 CU h_a λ{X ca cl} xo go=>⟨tK (h_b xo go).1,(LN (h_b xo go).2).pt⟩
theorem gW{a:E}{x:Expr}{pos:Pos}(h_a:SE N sc G a x):SE N sc G (.not a) (.UnaryOp .Not x pos):=λ{X ca cl} xo go=>by
 refine⟨(vO ((h_a xo go).1)).wk λs H Q q=>?_,(AB ((h_a xo go).2)).wk λs H Q q=>?_⟩
 ·refine TDE.one (λ_ _=>rfl) q λm m2 r d h2 h' H2 dx v st g w2 st2 rx e c=>?_;split at e
  ·rename_i k et;cases e;exact⟨k,kF w2 rx et,c m2 _ H2 Gr.refl w2 (.bl _)⟩
  ·cases e
 ·obtain⟨m,r,hh,d,h',k,w,st,e1,ek,c⟩:=q;simp only[ev] at e1;obtain⟨dx,h1,e0,e1⟩:=Rs.bind_ok e1;split at e1
  ·rename_i k' et;cases e1;have:(!k')=k:=Zg ek;subst this;exact⟨m,r,hh,dx,h',k',w,st,e0,et,c⟩
  ·cases e1
theorem aL{a b:E}{x y:Expr}{pos:Pos}(hs:wW y)(h_a:SE N sc G a x)(h_b:SE N sc G b y):SE N sc G (.ix a b) (.Subscript x y pos):=λ{X ca cl} xo go=>by
 have p:PE X (.Subscript x y pos) (TDE X.K (ev G cl (.ix a b))):=(QS (RS xo.room) (h_a xo go).1 (h_b xo go).1 hs).wk (TDE.op λr h=>by simp only[ev]);exact⟨p,hE p λ_=>rfl⟩
theorem bJ{l:Es}{es:List Expr}{k:Nat}{pos:Pos}(h_l:uZ N sc G l es):SE N sc G (.tup l) (.Tuple es k pos):=λ{X ca cl} xo go=>by
 have p:PE X (.Tuple es k pos) (TDE X.K (ev G cl (.tup l))):=(LX (h_l.2 xo go)).wk λs H Q ⟨m,r,hh,d,h',w,st,e1,c⟩=>by
  simp only[ev] at e1;obtain⟨ds,h1,e0,e1⟩:=Rs.bind_ok e1;split at e1
  ·rename_i hl;cases e1;refine⟨m,r,hh,ds,_,w,st,e0,λm' vs H' g w' rd=>⟨?_,λq hq=>?_⟩⟩
   ·rw[<- rd.length];exact Nat.le_of_lt (oF hl)
   ·exact c m' _ _ (g.trans (Gr.tupNew hq)) (w'.keepNew hq) (.tup (.of aS) (rd.mono (Gr.tupNew hq)))
  ·cases e1
 exact⟨p,hE p λ_=>rfl⟩
theorem cL{l:Es}{es:List Expr}{pos:Pos}(h_l:uZ N sc G l es):SE N sc G (.lst l) (.List es pos):=λ{X ca cl} xo go=>by
 have p:PE X (.List es pos) (TDE X.K (ev G cl (.lst l))):=(MA (h_l.2 xo go)).wk λs H Q ⟨m,r,hh,d,h',w,st,e1,c⟩=>by
  simp only[ev] at e1;obtain⟨ds,h1,e0,e1⟩:=Rs.bind_ok e1;split at e1
  ·rename_i hl;cases e1;refine⟨m,r,hh,ds,_,w,st,e0,λm' vs H' g w' rd=>⟨?_,λq hq=>?_⟩⟩
   ·rw[<- rd.length];exact Nat.le_of_lt (oF hl)
   ·obtain⟨w2,g2⟩:=w'.lstNew hq rd;exact c _ _ _ (g.trans g2) w2 (.ref (by rw[<- w'.len];simp))
  ·cases e1
 exact⟨p,hE p λ_=>rfl⟩
theorem bH{f:Nat}{l:Es}{x:Str}{y:Expr}{ys:List Expr}{np pos:Pos}(h1:G.fns[f]? =some x)(h:(lE sc x&&cS x)=true)(h_l:uZ N sc G l (y::ys)):SE N sc G (.call f l) (.Call (.Name x np) (y::ys) [] pos):=λ{X ca cl} xo go=>by
 rw[Bool.and_eq_true] at h;obtain⟨h2,h3⟩:=h;obtain⟨d1,d2,d3⟩:=cD h3;obtain⟨fa,fd,ps,k,F,hr,hm,hk,hb,hlen⟩:=go.fn f x h1;have hns:=h_l.1;rw[List.all_cons,Bool.and_eq_true] at hns
 have p:PE X (.Call (.Name x np) (y::ys) [] pos) (TDE X.K (ev G cl (.call f l))):=(EY F hr (cR xo h2) hm hk hb .nil oJ (h_l.2 xo go) d1 (aW ys hns.1) (dE pos hns.2)).wk λs H Q ⟨m,r,hh,d,h',w,st,e1,c⟩=>by
  simp only[ev] at e1;obtain⟨ds,h1,e0,e1⟩:=Rs.bind_ok e1;have e1:=Rs.nx_ok e1;refine⟨m,r,hh,ds,h1,w,st,e0,λm' vs H' g w' rd=>?_⟩;show tE X.K ca (cl f) ps.length (vs++ []) H' Q E0;rw[Zm];exact⟨by rw[<- rd.length];exact hlen _ _ (by rw[e1];exact λz=>nomatch z),m',h1,ds,w',rd,by rw[e1];exact λm2 v H2 g2=>c m2 v H2 (g.trans g2)⟩
 exact⟨p,hE p λ_=>rfl⟩
theorem aO{f:Blt}{l:Es}{y:Expr}{ys:List Expr}{np pos:Pos}(h2:lE sc f.nm=true)(h_l:uZ N sc G l (y::ys)):SE N sc G (.blt f l) (.Call (.Name f.nm np) (y::ys) [] pos):=λ{X ca cl} xo go=>by
 obtain⟨d1,d3⟩:=HM f;have hns:=h_l.1;rw[List.all_cons,Bool.and_eq_true] at hns
 have im:∀s H Q,TDE X.K (ev G cl (.blt f l)) s H Q->WE (LM X.K (fG f)) (TDA X.K (cJ G cl l)) s H Q:=λs H Q ⟨m,r,hh,d,h',w,st,e1,c⟩=>by
  simp only[ev] at e1;obtain⟨ds,h1,e0,e1⟩:=Rs.bind_ok e1;exact⟨m,r,hh,ds,h1,w,st,e0,λm' vs H' g w' rd=>⟨m',h1,ds,d,h',w',rd,e1,λm2 v H2 g2=>c m2 v H2 (g.trans g2)⟩⟩
 have p:PE X (.Call (.Name f.nm np) (y::ys) [] pos) (TDE X.K (ev G cl (.blt f l))):=by
  have cb:=HK (X:=X) xo.calm xo.room f;have bb:=nR f;have key:∀v,f.val=v->(∃i,v=.builtin i)\/(∃T,v=.type T):=λv e=>by subst e;cases f<;>first |exact .inl ⟨_,rfl⟩|exact .inr ⟨_,rfl⟩
  rcases key _ rfl with ⟨i,ei⟩|⟨T,eT⟩
  ·rw[ei] at cb bb;exact(mL cb (cR xo h2) (go.blt f) bb (h_l.2 xo go) d3 d1 (aW ys hns.1) (dE pos hns.2)).wk im
  ·rw[eT] at cb bb;exact(oI cb (cR xo h2) (go.blt f) bb (h_l.2 xo go) d3 d1 (aW ys hns.1) (dE pos hns.2)).wk im
 exact⟨p,hE p λ_=>rfl⟩
theorem jB{o a:E}{z:Str}{pz ap cp:Pos}{y:Expr}(h2:(ap.endLine==cp.line)=true)(h3:dQ y=true)(h_o:SE N sc G o (.Name z pz))(h_a:SE N sc G a y):SE N sc G (.app o a) (.Call (.Attribute (.Name z pz) "append" ap) [y] [] cp):=λ{X ca cl} xo go=>by
 have ho:=(h_o xo go).1;have hA:PA X [y] (jN (TDE X.K (ev G cl a)) mD):=eR ((h_a xo go).1) iQ (aW [] h3)
 have p:PE X (.Call (.Attribute (.Name z pz) "append" ap) [y] [] cp) (TDE X.K (ev G cl (.app o a))):=(IY PySem.F.plainAttrs_list PySem.F.slot_list_append PySem.F.type_list_append kL ho hA rfl (by rw[aW [] h3];rfl) h2 (aW [] h3) rfl).wk λs H Q q=>by
  refine TDE.one (λ_ _=>rfl) q λm m2 r d h2 h' H2 dx v st g w2 st2 rx e c=>?_;split at e
  ·rename_i hl;obtain⟨dy,h3,e3,e⟩:=Rs.bind_ok e;cases rx<;>first |(cases e;done)|skip
   case ref n a' ha eb=>
    simp only[nS] at e;split at e<;>first |(cases e;done)|skip
    rename_i l el;split at e<;>first |(cases e;done)|skip
    rename_i hz;cases e;have hl':∃l0,aI h2 n=some l0:=Option.isSome_iff_exists.mp hl;obtain⟨l0,hl'⟩:=hl';obtain⟨a'',vs0,ha'',hq,_⟩:=w2.lst hl';rw[ha] at ha'';cases ha'';refine⟨.inl ⟨rfl,vs0,hq⟩,m2,r,h2,dy,h3,w2,st2,e3,λm3 y' H3 g3 w3 ry=>?_⟩;have ha3:=g3.pre _ _ ha;obtain⟨vs,hv,rv⟩:∃vs,H3 a'=some (.lst vs)/\RDs X.K m3 H3 l vs:=w3.ob n _ a' el ha3;obtain⟨_,w4,g4⟩:=w3.lstSet el ha3 (rv.append (.cons ry .nil));exact⟨a',vs,y',rfl,rfl,hv,by rw[<- rv.length];exact Nat.lt_of_lt_of_le hz (by decide),c m3 _ _ (g3.trans g4) w4 .non⟩
  ·cases e
 exact⟨p,hE p λ_=>rfl⟩
theorem CY{pos:Pos}:SE N sc G .dnw (.Dict [] [] pos):=λ{X ca cl} xo go=>by
 have p:PE X (.Dict [] [] pos) (TDE X.K (ev G cl .dnw)):=(AV (X:=X) (pos:=pos)).wk λs H Q ⟨m,r,hh,d,h',w,st,e1,c⟩=>λp hp=>by
  rw[ev] at e1;cases e1;obtain⟨w2,g2⟩:=w.objNew (o:=.dct []) (u:=.dK []) hp λ_=>⟨[],aS,rfl,.nil⟩;exact c _ _ _ g2 w2 (.ref (by rw[<- w.len];simp))
 exact⟨p,hE p λ_=>rfl⟩
theorem DA{α:Type}(l:List α)(i:Int)(h:0<=i):(l.drop (HT.sIx l.length 0 none)).take (HT.sIx l.length l.length (some i)-HT.sIx l.length 0 none)=l.take i.toNat:=by
 have:HT.sIx l.length l.length (some i)=min i.toNat l.length:=by
  show(if i<0 then _ else _)=_
  rw[if_neg (by omega)]
 rw[HT.sIx_none,this,List.drop_zero,Nat.sub_zero]
 by_cases z:i.toNat<=l.length
 ·rw[Nat.min_eq_left z]
 ·rw[Nat.min_eq_right (by omega),List.take_length,List.take_of_length_le (by omega)]
theorem DB{α:Type}(l:List α)(i:Int)(h:0<=i):(l.drop (HT.sIx l.length 0 (some i))).take (HT.sIx l.length l.length none-HT.sIx l.length 0 (some i))=l.drop i.toNat:=by
 have:HT.sIx l.length 0 (some i)=min i.toNat l.length:=by
  show(if i<0 then _ else _)=_
  rw[if_neg (by omega)]
 rw[HT.sIx_none,this]
 by_cases z:i.toNat<=l.length
 ·rw[Nat.min_eq_left z,List.take_of_length_le (by rw[List.length_drop];omega)]
 ·rw[Nat.min_eq_right (by omega),List.drop_length,List.drop_of_length_le (by omega),List.take_nil]
theorem DC{α:Type}(l:List α)(i:Int)(h:¬0<=i):(l.drop (HT.sIx l.length 0 (some i))).take (HT.sIx l.length l.length none-HT.sIx l.length 0 (some i))=l.drop (l.length-i.natAbs):=by
 have:HT.sIx l.length 0 (some i)=l.length-i.natAbs:=by
  show(if i<0 then(i+(l.length:Int)).toNat else _)=_
  rw[if_pos (by omega)];omega
 rw[HT.sIx_none,this,List.take_of_length_le (by rw[List.length_drop];omega)]
theorem RDs.take{K:W.Frag}{m:List Addr}{H:Hp}:∀{ds:List D}{vs:List V}(n:Nat),RDs K m H ds vs->RDs K m H (ds.take n) (vs.take n)
 |_,_,0,_=>by rw[List.take_zero,List.take_zero];exact .nil
 |_,_,n+1,.nil=>by rw[List.take_nil,List.take_nil];exact .nil
 |_,_,n+1,.cons h t=>by rw[List.take_succ_cons,List.take_succ_cons];exact .cons h (RDs.take n t)
theorem RDs.drop{K:W.Frag}{m:List Addr}{H:Hp}:∀{ds:List D}{vs:List V}(n:Nat),RDs K m H ds vs->RDs K m H (ds.drop n) (vs.drop n)
 |_,_,0,q=>q
 |_,_,n+1,.nil=>.nil
 |_,_,n+1,.cons h t=>RDs.drop n t
theorem OD{a b:E}{x y:Expr}{p2 pos:Pos}(h_a:SE N sc G a x)(h_b:SE N sc G b y):SE N sc G (.slL a b) (.Subscript x (.Slice (some y) none none p2) pos):=λ{X ca cl} xo go=>by
 have p:PE X (.Subscript x (.Slice (some y) none none p2) pos) (TDE X.K (ev G cl (.slL a b))):=(mK vG (h_a xo go).1 (jR (h_b xo go).1) vM).wk λs H Q q=>by
  obtain⟨m,r,h,d,h',w,st,e,c⟩:=q;rw[ev] at e;refine TDE.two w st e λm2 H2 h2 dx dy x y g w2 rx ry e=>?_;unfold EJ at e;split at e
  ·rename_i l i hl el;split at e
   ·rename_i hi;cases e;obtain⟨p,vs,rfl,hq,q⟩:=iT w2 rx hl el;cases ry;refine⟨i,rfl,p,vs,rfl,hq,λk hk=>?_⟩;have e1:nO vs (some i) none=vs.drop i.toNat:=DB vs i hi;rw[e1];obtain⟨w3,g3⟩:=w2.lstNew hk (q.drop i.toNat);exact c _ _ _ (g.trans g3) w3 (.ref (by rw[<- w2.len];simp))
   ·rename_i hi;cases e;obtain⟨p,vs,rfl,hq,q⟩:=iT w2 rx hl el;cases ry;refine⟨i,rfl,p,vs,rfl,hq,λk hk=>?_⟩;have e1:nO vs (some i) none=vs.drop (vs.length-i.natAbs):=DC vs i hi;rw[e1];obtain⟨w3,g3⟩:=w2.lstNew hk (q.drop (vs.length-i.natAbs));rw[<- q.length] at*;exact c _ _ _ (g.trans g3) w3 (.ref (by rw[<- w2.len];simp))
  ·cases e
 exact⟨p,hE p λ_=>rfl⟩
theorem aB:uZ N sc G .nil []:=⟨rfl,λ{X ca cl} xo go=>L2.PA.wk iQ λs H Q ⟨m,r,hh,ds,h',w,st,e1,c⟩=>by
 cases e1;exact c m [] H Gr.refl w .nil⟩
theorem pN{c:E}{l:Es}{e:Expr}{es:List Expr}(hn:dQ e=true)(he:SE N sc G c e)(hl:uZ N sc G l es):uZ N sc G (.cons c l) (e::es):=⟨by rw[List.all_cons,hn,hl.1];rfl,λ{X ca cl} xo go=>by
 refine L2.PA.wk (eR (he xo go).1 (hl.2 xo go) (aW es hn)) λs H Q ⟨m,r,hh,ds,h',w,st,e1,cc⟩=>?_;simp only[cJ] at e1;obtain⟨d,h1,e0,e1⟩:=Rs.bind_ok e1;obtain⟨ds',h2,e2,e1⟩:=Rs.bind_ok e1;cases e1;exact⟨m,r,hh,d,h1,w,st,e0,λm1 v H1 g1 w1 rv=>⟨m1,r,h1,ds',_,w1,st.mono g1,e2,λm2 vs H2 g2 w2 rvs=>cc m2 _ H2 (g1.trans g2) w2 (.cons (rv.mono g2) rvs)⟩⟩⟩
theorem iP:KG N sc G .nil []:=λ{X ca cl} xo go=>λpins s σ H Q I ⟨m,r,hh,b,h',w,st,e1,c⟩=>by
 rw[jU] at e1;cases e1;exact Zb ⟨H,I,c m H Gr.refl w⟩
theorem pM{c:E}{l:Es}{e:Expr}{es:List Expr}(he:SE N sc G c e)(hl:KG N sc G l es):KG N sc G (.cons c l) (e::es):=λ{X ca cl} xo go=>λpins s σ H Q I ⟨m,r,hh,b,h',w,st,e1,cc⟩=>by
 rw[jU] at e1;obtain⟨d,h1,e0,e1⟩:=Rs.bind_ok e1;refine tB ?_;split at e1
 ·rename_i et;refine bM ((he xo go).2 pins s σ H (λk H1=>k=true/\KD X.K (jU G cl l) σ H1 Q) I ⟨m,r,hh,d,h1,true,w,st,e0,et,λm' H' g w'=>⟨rfl,m',r,h1,b,_,w',st.mono g,e1,λm2 H2 g2=>cc m2 H2 (g.trans g2)⟩⟩) λk s1 ⟨H1,I1,ek,q1⟩=>?_;subst ek;exact hl xo go pins s1 σ H1 Q I1 q1
 ·rename_i et;cases e1;refine bM ((he xo go).2 pins s σ H (λk H1=>k=false/\Q false H1) I ⟨m,r,hh,d,_,false,w,st,e0,et,λm' H' g w'=>⟨rfl,cc m' H' g w'⟩⟩) λk s1 ⟨H1,I1,ek,q1⟩=>?_;subst ek;exact qW ⟨H1,I1,q1⟩
 ·cases e1
structure Blk (N:List Str)(sc:Scope)(N':List Str)(cap:List Nat)(scope:Scope):Prop where
 S:ScOk scope sc
 nd:N'.Nodup
 capL:cap.length<=N'.length
 nN:(N'.drop (N'.length-cap.length)).map some=cap.map (λ(i:Nat)=>N[i]?)
 fr:∀x∈N'.drop (N'.length-cap.length),scope.names.lookup x=some .free
theorem gX{N':List Str}{cap:List Nat}{scope:Scope}(h:(LK scope sc&&mQ N'&&JX N N' cap scope)=true):Blk N sc N' cap scope:=by
 simp only[Bool.and_eq_true] at h;obtain⟨⟨h1,h2⟩,h3⟩:=h;unfold JX at h3;simp only[Bool.and_eq_true,decide_eq_true_eq,beq_iff_eq,List.all_eq_true] at h3;exact⟨EQ h1,kK h2,h3.1.1,h3.1.2,h3.2⟩
noncomputable def ED:Ck->Expr->Bool
 |.itf,.Tuple _ _ _=>true
 |.itf,_=>false
 |.its,.Tuple _ _ _=>true
 |.its,_=>false
 |_,_=>true
def PK(N:List Str)(sc:Scope)(G:Gs)(k:Ck)(it:Es)(iter:Expr):Prop:=∀{X:Cx}{ca:Nat->Addr}{cl:Cl},XOk X N sc->GOk X G ca cl->∀{t:Tg}{tg:Expr}{ft:Ev->Hh->Rs Bool}{fe:Ev->Hh->Rs D}{N':List Str}{cap:List Nat}(_:ED k tg=true)
    (pins:List (Addr×Obj))(s:Shared)(σ:Sg)(H:Hp)(m:List Addr)(r:Ev)(h:Hh)(xs:List D)(h1 h':Hh),Inv X pins σ H s->Wd X.K m h H->RSt X.K m H r σ->cJ G cl it r h=.ok xs h1->iM t ft fe h1.length k xs h1 (aT N' cap r) (h1++ [.lst []])=.ok () h'->
    wpAny (model X.prog X.w) X.A (eval iter X.env) (λv s1=>wpAny (model X.prog X.w) X.A (pyIter v)
     (HX X pins σ tg λJ H2=>∃(m2:List Addr)(h2:Hh),h2.length=h1.length/\Gr X.K m H m2 H2/\Wd X.K m2 h2 H2/\iN X.K t ft fe h2.length h' J m2 H2 (aT N' cap r) (h2++ [.lst []])) X.xe s1) X.xe s
theorem BF{a:E}{x:Expr}(ha:SE N sc G a x):PK N sc G .sq (.cons a .nil) x:=λ{X ca cl} xo go {t tg ft fe N' cap} tk pins s σ H m r h xs h1 h' I w st e1 e3=>by
 have hp:=(ha xo go).1;rw[cJ] at e1;obtain⟨x,h5,ex,e1⟩:=Rs.bind_ok e1;rw[cJ] at e1;obtain⟨_,_,e4,e1⟩:=Rs.bind_ok e1;cases e4;cases e1;cases x<;>first |(cases e3;done)|skip
 ·refine AK hp pins s σ H _ I ⟨m,r,h,_,_,w,st,ex,λm' v H' g w' rv=>?_⟩;cases rv with
  |tup hq q=>exact⟨_,rfl,⟨_,hq⟩,m',_,rfl,g,w',wY hq q e3⟩
 ·rename_i n;unfold iM at e3;dsimp only at e3;split at e3
  ·rename_i l el;refine pT hp pins s σ H _ I ⟨m,r,h,_,_,w,st,ex,λm' v H' g w' rv=>?_⟩;cases rv with
   |ref ha=>
    obtain⟨a',vs,ha',hq,_⟩:=w'.lst el;rw[ha] at ha';cases ha';exact⟨_,rfl,⟨_,hq⟩,m',_,rfl,g,w',xA ha e3⟩
  ·cases e3
theorem vA{K:W.Frag}{m:List Addr}{H:Hp}:∀{ds:List (List Int×D)}{xs:List (List Int×Addr×Value)}{us:List V},ds.map (·.1)=xs.map (·.1)->(∀x∈xs,SqT K H x.2.1 (x.1.map V.int))->RDs K m H (ds.map (·.2)) us->Vals us (xs.map (·.2.2))->
 ∃ks:List (Addr×V),ks.length=xs.length/\ds.length=ks.length/\(∀(i:Nat) k v,ks[i]? =some (k,v)->∃x,xs[i]? =some x/\x.2.1=k/\RelV v x.2.2)/\∀(i:Nat) d,ds[i]? =some d->∃k v,ks[i]? =some (k,v)/\SqT K H k (d.1.map V.int)/\RD K m H d.2 v
 | [],[],us,_,_,r,p=>⟨[],rfl,rfl,λi k v e=>by simp at e,λi d e=>by simp at e⟩
 | [],_::_,us,h,_,_,_=>by cases h
 |_::_,[],us,h,_,_,_=>by cases h
 |d::ds,x::xs,us,h,hk,r,p=>by
  cases r with
  | @cons _ v1 _ _ r1 r=>
    cases p with
    |cons p1 p=>
     obtain⟨h1,h2⟩:=List.cons.inj (show d.1::ds.map (·.1)=x.1::xs.map (·.1) from h);obtain⟨ks,a,a',b,c⟩:=vA h2 (λy hy=>hk y (Zj _ hy)) r p;refine⟨(x.2.1,v1)::ks,by simp[a],by simp[a'],λi k v e=>?_,λi d' e=>?_⟩
     ·cases i with
      |zero=>
       simp at e;obtain⟨rfl,rfl⟩:=e;exact⟨x,rfl,rfl,p1⟩
      |succ i=>exact b i k v (by simpa using e)
     ·cases i with
      |zero=>
       simp at e;subst e;exact⟨x.2.1,v1,rfl,by rw[h1];exact hk x Zl,r1⟩
      |succ i=>exact c i d' (by simpa using e)
theorem DF{t:Tg}{k:Ck}{it cs:Es}{e:E}{N':List Str}{cap:List Nat}{tg iter:Expr}(hi:PK N sc G k it iter)(tk:ED k tg=true){X:Cx}{ca:Nat->Addr}{cl:Cl}(xo:XOk X N sc)(go:GOk X G ca cl)
 (pins:List (Addr×Obj))(s:Shared)(σ:Sg)(H:Hp)(m:List Addr)(r:Ev)(h:Hh)(d:D)(h':Hh)(I:Inv X pins σ H s)(w:Wd X.K m h H)(st:RSt X.K m H r σ)(ev1:ev G cl (.comp t k it cs e N' cap) r h=.ok d h'):
 ∃h1:Hh,d=.ref h1.length/\wpAny (model X.prog X.w) X.A (eval iter X.env) (λv s1=>wpAny (model X.prog X.w) X.A (pyIter v)
  (HX X pins σ tg λJ H2=>∃(m2:List Addr)(h2:Hh),h2.length=h1.length/\Gr X.K m H m2 H2/\Wd X.K m2 h2 H2/\iN X.K t (jU G cl cs) (ev G cl e) h2.length h' J m2 H2 (aT N' cap r) (h2++ [.lst []])) X.xe s1) X.xe s:=by
 rw[ev] at ev1;obtain⟨xs,hh1,e1,e2⟩:=Rs.bind_ok ev1;obtain⟨_,hh2,e3,e2⟩:=Rs.bind_ok e2;cases e2;exact⟨hh1,rfl,hi xo go tk pins s σ H m r h xs hh1 _ I w st e1 e3⟩
theorem sM{t:Tg}{cs:Es}{e:E}{N':List Str}{cap:List Nat}{elt tg:Expr}{ifs:List Expr}{scope:Scope}(B:Blk N sc N' cap scope)(ht:fC N' scope t tg=true)(hc:KG N' (cN scope sc) G cs ifs)(he:SE N' (cN scope sc) G e elt){X:Cx}{ca:Nat->Addr}{cl:Cl}(xo:XOk X N sc)(go:GOk X G ca cl)(C:Addr)(s3:Shared)(H3:Hp)(fp:List Addr):
 PG (cV X N' scope C s3 H3 fp) tg (sU X.K t)/\OW (cV X N' scope C s3 H3 fp) ifs (KD X.K (jU G cl cs))/\PE (cV X N' scope C s3 H3 fp) elt (TDE X.K (ev G cl e)):=
 ⟨LV (eK xo B.nd C s3 H3 fp) (qM (by rw[xo.s];exact B.S) C s3 H3 fp) ht,hc (eK xo B.nd C s3 H3 fp) (jF go C s3 H3 fp),(he (eK xo B.nd C s3 H3 fp) (jF go C s3 H3 fp)).1⟩
theorem jW{t:Tg}{k:Ck}{it cs:Es}{e:E}{N':List Str}{cap:List Nat}{elt tg iter:Expr}{ifs:List Expr}{scope:Scope}{pos:Pos}(B:Blk N sc N' cap scope)(ns:oM iter=true)(ht:fC N' scope t tg=true)(hi:PK N sc G k it iter)(hc:KG N' (cN scope sc) G cs ifs)(he:SE N' (cN scope sc) G e elt)(tk:ED k tg=true:=by rfl):
 SE N sc G (.comp t k it cs e N' cap) (.ListComp elt [⟨tg,iter,ifs,0⟩] scope pos):=λ{X ca cl} xo go=>by
 have p:PE X (.ListComp elt [⟨tg,iter,ifs,0⟩] scope pos) (TDE X.K (ev G cl (.comp t k it cs e N' cap))):=HG xo B.S B.capL B.nN B.fr (sM B ht hc he xo go) ns (DF hi tk xo go);exact⟨p,hE p λ_=>rfl⟩
end
inductive Ir where
 |r1 (e:E)|r2 (a b:E)|sq (e:E)|its (e:E)
inductive HB where
 |isx (k:Nat)|isv|and (a b:HB)|not (a:HB)
inductive HS where
 |bl (i:Nat) (b:HB)|cst (i:Nat) (d:Sum Bool Str)|ifc (b:HB) (i:Nat) (d:Sum Bool Str)|ifa (b:HB) (i:Nat) (x:Str)
noncomputable def HB.run(G:Gs)(c:Nat):HB->Option Bool
 |.isx k=>if(c,k)∈G.sub then some true else if(c,k)∈G.nsub then some false else none
 |.isv=>some true
 |.and a b=>match a.run G c with
  |some true=>b.run G c
  |some false=>some false
  |none=>none
 |.not a=>match a.run G c with
  |some v=>some (!v)
  |none=>none
noncomputable def DD:Sum Bool Str->D
 |.inl b=>.bl b
 |.inr x=>.str x
noncomputable def jT(G:Gs)(c:Nat):List HS->Ev->Option Ev
 | [],r=>some r
 |.bl i b::l,r=>match b.run G c with
  |some v=>jT G c l (r.set i (some (.bl v)))
  |none=>none
 |.cst i d::l,r=>jT G c l (r.set i (some (DD d)))
 |.ifc b i d::l,r=>match b.run G c with
  |some true=>jT G c l (r.set i (some (DD d)))
  |some false=>jT G c l r
  |none=>none
 |.ifa b i x::l,r=>match b.run G c with
  |some true=>match r[i]? with
   |some (some (.str y))=>if y.length+x.length<=1000 then jT G c l (r.set i (some (.str (y++x)))) else none
   |_=>none
  |some false=>jT G c l r
  |none=>none
noncomputable def clr:Option Nat->Ev->Ev
 |some j,r=>r.set j none
 |none,r=>r
mutual
inductive S where
 |rais (c:Nat) (x:Str)|asgX (t:Tg) (f:Nat) (l:Es)|retX (f:Nat) (l:Es)|exX (f:Nat) (l:Es)|tryx (b:Ss) (g:Nat) (j:Option Nat) (hs:List HS)
 |asg (t:Tg) (e:E)|asc (i:Nat) (e:E)|ex (e:E)|ret (e:E)|iff (c:E) (a b:Ss)|forr (t:Tg) (it:Ir) (b:Ss)|whl (c:E) (b:Ss)
 |pass|brk|cont|stx (o i e:E)|sfl (o:E) (cn f:Str) (e:E)|asgL (l:List Nat) (e:E)|exN (cn:Str) (f:Nat) (l:Es)|never|asN (i:Nat) (cn:Str) (f:Nat) (l:Es)|exM (o:E) (cn m:Str) (f:Nat) (l:Es)|raisE (c:Nat) (e:E)
inductive Ss where
 |nil|cons (s:S) (r:Ss)
end
inductive Fl where
 |nx (r:Ev)|rt (d:D)|bk (r:Ev)|ct (r:Ev)
noncomputable def dA(t:Tg)(body:Ev->Hh->Rs Fl):List D->Ev->Hh->Rs Fl
 | [],r,h=>.ok (.nx r) h
 |d::ds,r,h=>match cZ t d r with
  |none=>.bad
  |some r1=>(body r1 h).bind λfl h=>match fl with
   |.nx r2=>dA t body ds r2 h
   |.ct r2=>dA t body ds r2 h
   |.bk r2=>.ok (.nx r2) h
   |.rt d=>.ok (.rt d) h
noncomputable def gJ(t:Tg)(body:Ev->Hh->Rs Fl)(n:Nat):Nat->Nat->Ev->Hh->Rs Fl
 |0,_,_,_=>.bad
 |k+1,i,r,h=>match aI h n with
  |none=>.bad
  |some l=>match l[i]? with
   |none=>.ok (.nx r) h
   |some d=>match cZ t d r with
    |none=>.bad
    |some r1=>(body r1 h).bind λfl h=>match fl with
     |.nx r2=>gJ t body n k (i+1) r2 h
     |.ct r2=>gJ t body n k (i+1) r2 h
     |.bk r2=>.ok (.nx r2) h
     |.rt d=>.ok (.rt d) h
noncomputable def cU(c:Ev->Hh->Rs D)(body:Ev->Hh->Rs Fl):Nat->Ev->Hh->Rs Fl
 |0,_,_=>.bad
 |k+1,r,h=>(c r h).nx.bind λx h=>match fQ x h with
  |none=>.bad
  |some false=>.ok (.nx r) h
  |some true=>(body r h).bind λfl h=>match fl with
   |.nx r2=>cU c body k r2 h
   |.ct r2=>cU c body k r2 h
   |.bk r2=>.ok (.nx r2) h
   |.rt d=>.ok (.rt d) h
noncomputable def LF(n:Nat)(l:List D)(y z:D)(h:Hh):Rs Unit:=match y with
 |.int k=>match yT l.length k with
  |some j=>.ok () (h.set n (.lst (l.set j z)))
  |none=>.bad
 |_=>.bad
noncomputable def qY(x y z:D)(h:Hh):Rs Unit:=match x with
 |.ref n=>match h[n]? with
  |some (.lst l)=>LF n l y z h
  |some (.dct _)=>gG n y z h
  |some (.dtt l)=>wH n l y z h
  |_=>.bad
 |_=>.bad
noncomputable def BV(W:Nat)(t:Tg)(body:Ev->Hh->Rs Fl)(x:D)(r:Ev)(h:Hh):Rs Fl:=match x with
 |.tup l=>dA t body l r h
 |.ref n=>gJ t body n W 0 r h
 |_=>.bad
noncomputable def qI(G:Gs)(g:Nat)(j:Option Nat)(hs:List HS):Rs Fl->Rs Fl
 |.exc c r h=>if(c,g)∈G.sub then(match jT G c hs (clr j r) with
  |some r'=>.ok (.nx (clr j r')) h
  |none=>.bad) else .bad
 |o=>o
mutual
noncomputable def xs(G:Gs)(cl:Cl)(W:Nat):S->Ev->Hh->Rs Fl
 |.rais c _,r,h=>.exc c r h
 |.asgX t f l,r,h=>(cJ G cl l r h).nx.bind λds h=>((cl f ds h).inn r).bind λx h=>match cZ t x r with
  |some r1=>.ok (.nx r1) h
  |none=>.bad
 |.retX f l,r,h=>(cJ G cl l r h).nx.bind λds h=>((cl f ds h).inn r).bind λx h=>.ok (.rt x) h
 |.exX f l,r,h=>(cJ G cl l r h).nx.bind λds h=>((cl f ds h).inn r).bind λ_ h=>.ok (.nx r) h
 |.tryx b g j hs,r,h=>qI G g j hs (bR G cl W b r h)
 |.asg t e,r,h=>(ev G cl e r h).nx.bind λx h=>match cZ t x r with
  |some r1=>.ok (.nx r1) h
  |none=>.bad
 |.asc i e,r,h=>(ev G cl e r h).nx.bind λx h=>.ok (.nx (r.set i (some x))) h
 |.ex e,r,h=>(ev G cl e r h).nx.bind λ_ h=>.ok (.nx r) h
 |.ret e,r,h=>(ev G cl e r h).nx.bind λx h=>.ok (.rt x) h
 |.iff c a b,r,h=>(ev G cl c r h).nx.bind λx h=>match fQ x h with
  |some true=>bR G cl W a r h
  |some false=>bR G cl W b r h
  |none=>.bad
 |.forr t (.r1 e) b,r,h=>(ev G cl e r h).nx.bind λx h=>match x with
  |.int j=>if tN j then dA t (bR G cl W b) (dP 0 j) r h else .bad
  |_=>.bad
 |.forr t (.its e) b,r,h=>(ev G cl e r h).nx.bind λx h=>match x with
  |.ref n=>match h[n]? with
   |some (.dct l)=>dA t (bR G cl W b) (l.map λp=>D.tup [qO p.1,p.2]) r (h.set n .ded)
   |_=>.bad
  |_=>.bad
 |.asN i cn f l,r,h=>(cJ G cl l r h).nx.bind λds h=>((jS cn (cl f) ds h).inn r).bind λx h=>.ok (.nx (r.set i (some x))) h
 |.exM o cn m f l,r,h=>(ev G cl o r h).nx.bind λx h=>if fK x cn m h=true then(cJ G cl l r h).nx.bind λds h=>((cl f (x::ds) h).inn r).bind λ_ h=>.ok (.nx r) h else .bad
 |.raisE c e,r,h=>(ev G cl e r h).nx.bind λ_ h=>.exc c r h
 |.forr t (.r2 e e') b,r,h=>(ev G cl e r h).nx.bind λx h=>(ev G cl e' r h).nx.bind λy h=>match x,y with
  |.int i,.int j=>if tN i/\tN j then dA t (bR G cl W b) (dP i j) r h else .bad
  |_,_=>.bad
 |.forr t (.sq e) b,r,h=>(ev G cl e r h).nx.bind λx h=>BV W t (bR G cl W b) x r h
 |.whl c b,r,h=>cU (ev G cl c) (bR G cl W b) W r h
 |.pass,r,h=>.ok (.nx r) h
 |.brk,r,h=>.ok (.bk r) h
 |.cont,r,h=>.ok (.ct r) h
 |.stx o i e,r,h=>(ev G cl e r h).nx.bind λz h=>(ev G cl o r h).nx.bind λx h=>(ev G cl i r h).nx.bind λy h=>(qY x y z h).nx.bind λ_ h=>.ok (.nx r) h
 |.sfl o cn f e,r,h=>(ev G cl e r h).nx.bind λz h=>(ev G cl o r h).nx.bind λx h=>(zT cn x z f h).nx.bind λ_ h=>.ok (.nx r) h
 |.asgL l e,r,h=>(ev G cl e r h).nx.bind λx h=>match x with
  |.ref n=>(match aI h n with
   |some ds=>if ds.length=l.length then .ok (.nx (fR l ds r)) h else .bad
   |none=>.bad)
  |_=>.bad
 |.exN cn f l,r,h=>(cJ G cl l r h).nx.bind λds h=>((jS cn (cl f) ds h).inn r).bind λ_ h=>.ok (.nx r) h
 |.never,_,_=>.bad
noncomputable def bR(G:Gs)(cl:Cl)(W:Nat):Ss->Ev->Hh->Rs Fl
 |.nil,r,h=>.ok (.nx r) h
 |.cons s l,r,h=>(xs G cl W s r h).bind λfl h=>match fl with
  |.nx r2=>bR G cl W l r2 h
  |f=>.ok f h
end
noncomputable def iS:Expr->Bool
 |.ListComp _ _ _ _=>false
 |.SetComp _ _ _ _=>false
 |.DictComp _ _ _ _ _=>false
 |_=>true
noncomputable def oZ(N:List Str)(sc:Scope):List Nat->List Expr->Bool
 | [],[]=>true
 |i::is,.Name x _::es=>N[i]? ==some x&&iH sc x&&oZ N sc is es
 |_,_=>false
noncomputable def uQ(N:List Str)(sc:Scope):Tg->Expr->Bool
 |.nm i,.Name x _=>N[i]? ==some x&&iH sc x
 |.tp l,.Tuple es _ _=>oZ N sc l es
 |_,_=>false
noncomputable def TV(N:List Str)(sc:Scope):Option Nat->Option Str->Bool
 |none,none=>true
 |some j,some n=>N[j]? ==some n&&sc.names.lookup n==some .local
 |_,_=>false
mutual
noncomputable def FH:S->Bool
 |.raisE _ _=>false
 |.rais _ _=>false
 |.iff _ a b=>fJ a&&fJ b
 |.forr _ _ b=>fJ b
 |.whl _ b=>fJ b
 |.tryx _ _ _ _=>false
 |_=>true
noncomputable def fJ:Ss->Bool
 |.nil=>true
 |.cons s l=>FH s&&fJ l
end
noncomputable def D5(K:W.Frag)(m:List Addr)(H:Hp)(D:Ends):Fl->Prop
 |.nx r=>∀s,RSt K m H r s->D.nx s H
 |.rt d=>∀v,RD K m H d v->D.rt v H
 |.bk r=>∀s,RSt K m H r s->D.bk s H
 |.ct r=>∀s,RSt K m H r s->D.ct s H
noncomputable abbrev Ws:=Nat->Sg->Hp->Prop
noncomputable def OutS(K:PySem.W.Frag)(W:Ws)(m:List Addr)(H:Hp)(D:Ends):Rs Fl->Prop
 |.ok fl h'=>∀m' H',Gr K m H m' H'->Wd K m' h' H'->D5 K m' H' D fl
 |.exc c r' h'=>∀m' H' s',Gr K m H m' H'->Wd K m' h' H'->RSt K m' H' r' s'->W c s' H'
 |.bad=>False
theorem OutS.mono{K:PySem.W.Frag}{W:Ws}{m m1:List Addr}{H H1:Hp}{D:Ends}(g:Gr K m H m1 H1):∀{o:Rs Fl},OutS K W m H D o->OutS K W m1 H1 D o
 |.ok _ _,q=>λm' H' g'=>q m' H' (g.trans g')
 |.exc _ _ _,q=>λm' H' s' g'=>q m' H' s' (g.trans g')
 |.bad,q=>q
def TDS(K:PySem.W.Frag)(W:Ws)(f:Ev->Hh->Rs Fl):TS:=λD s H=>∃m r h,Wd K m h H/\RSt K m H r s/\OutS K W m H D (f r h)
theorem _root_.L2.PS.wk{X:Cx}{e:Stmt}{t t':TS}(h:PS X e t)(i:∀D s H,t' D s H->t D s H):PS X e t':=λpins s σ H D I q=>h pins s σ H D I (i _ _ _ q)
theorem _root_.L2.PSs.wk{X:Cx}{e:List Stmt}{t t':TS}(h:PSs X e t)(i:∀D s H,t' D s H->t D s H):PSs X e t':=λpins s σ H D I q=>h pins s σ H D I (i _ _ _ q)
section
variable {X:Cx}{N:List Str}{sc:Scope}{G:Gs}{ca:Nat->Addr}{cl:Cl}
theorem sO:∀{l:List Nat}{es:List Expr},oZ N sc l es=true->l.length=es.length/\∀(j:Nat) i e,l[j]? =some i->es[j]? =some e->uQ N sc (.nm i) e=true
 | [],[],_=>⟨rfl,λj i e h=>by simp at h⟩
 |i::is,e::es,h=>by
  cases e<;>first |exact absurd (show false=true from h) Bool.false_ne_true|skip
  rename_i x pos;have h':(N[i]? ==some x&&iH sc x&&oZ N sc is es)=true:=h;rw[Bool.and_eq_true] at h';obtain⟨i1,i2⟩:=sO h'.2;refine⟨by simp[i1],λj i' e' e1 e2=>?_⟩;cases j with
  |zero=>
   simp at e1 e2;subst e1;subst e2;exact h'.1
  |succ j=>exact i2 j i' e' (by simpa using e1) (by simpa using e2)
 | [],_::_,h=>absurd (show false=true from h) Bool.false_ne_true
 |_::_,[],h=>absurd (show false=true from h) Bool.false_ne_true
theorem LW(xo:XOk X N sc)(hfn:∀x,X.fn x=true){t:Tg}{tg:Expr}(h:uQ N sc t tg=true):PG X tg (sU X.K t):=by
 refine AM (λe i=>uQ N sc (.nm i) e) (λe i he=>?_) xo.calm ?_
 ·cases e<;>first |exact absurd (show false=true from he) Bool.false_ne_true|skip
  rename_i x pos;have h':(N[i]? ==some x&&iH sc x)=true:=he;simp only[Bool.and_eq_true,beq_iff_eq] at h';exact⟨x,pos,rfl,vN xo.nd (by rw[xo.n];exact h'.1) (by rw[xo.s];exact fV h'.2) (.inl (hfn x))⟩
 ·cases t with
  |nm i=>exact h
  |tp l=>
   cases tg<;>first |exact absurd (show false=true from h) Bool.false_ne_true|skip
   rename_i es k pos;obtain⟨h1,h2⟩:=sO (show oZ N sc l es=true from h);exact⟨es,k,pos,rfl,h1,h2⟩
  |tn i j k=>exact absurd (show false=true from h) Bool.false_ne_true
end
section
variable {X:Cx}{N:List Str}{sc:Scope}{G:Gs}{cl:Cl}{W:Nat}{K:PySem.W.Frag}{Wx:Ws}
theorem OutS.nx{A:Type}{m:List Addr}{H:Hp}{Z:Ends}{a:Rs A}{k:A->Hh->Rs Fl}(q:OutS K Wx m H Z (a.nx.bind k)):∃d h1,a=.ok d h1/\OutS K Wx m H Z (k d h1):=by
 cases a with
 |ok d h1=>exact⟨d,h1,rfl,q⟩
 |exc c r h=>exact q.elim
 |bad=>exact q.elim
theorem OutS.body{Z:Ends}{m:List Addr}{H:Hp}{P:Sg->Hp->Prop}{o:Rs Fl}{next:Ev->Hh->Rs Fl}
 (e:OutS K Wx m H Z (o.bind λfl h=>match fl with
   |.nx r2=>next r2 h
   |.ct r2=>next r2 h
   |.bk r2=>.ok (.nx r2) h
   |.rt d=>.ok (.rt d) h))
 (hP:∀m' H' h' r s,Gr K m H m' H'->Wd K m' h' H'->RSt K m' H' r s->OutS K Wx m' H' Z (next r h')->P s H'):OutS K Wx m H {Z with nx:=P,ct:=P,bk:=Z.nx} o:=by
 cases o with
 |bad=>exact e
 |exc c r h=>exact e
 |ok fl h2=>
  intro m' H' g w;have e':=OutS.mono g e;cases fl with
  |nx r=>exact λs st=>hP m' H' h2 r s g w st e'
  |ct r=>exact λs st=>hP m' H' h2 r s g w st e'
  |bk r=>exact λs st=>e' m' H' .refl w s st
  |rt d=>exact λv rd=>e' m' H' .refl w v rd
theorem zG{t:Tg}{body:Ev->Hh->Rs Fl}{Z:Ends}{d:D}{ds:List D}{P:Sg->Hp->Prop}{m1:List Addr}{r1:Ev}{h1:Hh}{s1:Sg}{H1:Hp}{v:V}
 (w:Wd K m1 h1 H1)(st:RSt K m1 H1 r1 s1)(rd:RD K m1 H1 d v)(e:OutS K Wx m1 H1 Z (dA t body (d::ds) r1 h1))
 (hP:∀m2 H2 r2 h2 s2,Gr K m1 H1 m2 H2->Wd K m2 h2 H2->RSt K m2 H2 r2 s2->OutS K Wx m2 H2 Z (dA t body ds r2 h2)->P s2 H2):
 sU K t v s1 H1 λs2 H2=>TDS K Wx body {Z with nx:=P,ct:=P,bk:=Z.nx} s2 H2:=by
 simp only[dA] at e;split at e
 ·exact e.elim
 ·rename_i r2 er;exact⟨m1,h1,r1,d,r2,w,st,rd,er,λs2 st2=>⟨m1,r2,h1,w,st2,OutS.body (next:=dA t body ds) e λm' H' h' r s g w' st' e'=>hP m' H' r h' s g w' st' e'⟩⟩
theorem BQ{t:Tg}{body:Ev->Hh->Rs Fl}{Z:Ends}{m0:List Addr}{H0:Hp}{h0:Hh}{ds:List D}{vs:List V}{r0:Ev}{s0:Sg}{a:Addr}
 (w:Wd K m0 h0 H0)(st:RSt K m0 H0 r0 s0)(hq:SqT K H0 a vs)(q:RDs K m0 H0 ds vs)(e:OutS K Wx m0 H0 Z (dA t body ds r0 h0)):
 ∃Wv:Nat->Nat->Sg->Hp->Prop,(∃m,Wv 0 m s0 H0)/\∀i m s H,Wv i m s H->
  ((HZ K a).stop i H/\Z.nx s H)\/((HZ K a).go i H/\∃P:Sg->Hp->Prop,(∀s' H',P s' H'->∃m',m'<m/\Wv (i+1) m' s' H')/\∀x H',(HZ K a).yld i H x H'->sU K t x s H' λs2 H2=>TDS K Wx body {Z with nx:=P,ct:=P,bk:=Z.nx} s2 H2):=by
 refine GD (K:=K) (a:=a) (xs:=vs) (λi s H=>∃m r h,Gr K m0 H0 m H/\Wd K m h H/\RSt K m H r s/\OutS K Wx m H Z (dA t body (ds.drop i) r h))
  ⟨m0,r0,h0,.refl,w,st,e⟩ (λi s H _ ⟨m,r,h,g,_⟩=>g.tup _ _ hq) ?_ ?_
 ·rintro i x s H hi ⟨m,r,h,g,w1,st1,e1⟩;obtain⟨d,hd,rd⟩:=q.getV hi
  have ed:ds.drop i=d::ds.drop (i+1):=by
   obtain⟨hl,z⟩:=Ze.mp hd;rw[<- z];exact List.drop_eq_getElem_cons hl
  rw[ed] at e1;exact zG w1 st1 (rd.mono g) e1 λm2 H2 r2 h2 s2 g2 w2 st2 e2=>⟨m2,r2,h2,g.trans g2,w2,st2,e2⟩
 ·rintro s H ⟨m,r,h,g,w1,st1,e1⟩;rw[<- q.length,List.drop_length] at e1;exact e1 m H .refl w1 s st1
theorem BR{t:Tg}{body:Ev->Hh->Rs Fl}{Z:Ends}{m0:List Addr}{H0:Hp}{h0:Hh}{lo hi:Int}{r0:Ev}{s0:Sg}
 (w:Wd K m0 h0 H0)(st:RSt K m0 H0 r0 s0)(e:OutS K Wx m0 H0 Z (dA t body (dP lo hi) r0 h0)):
 ∃Wv:Nat->Nat->Sg->Hp->Prop,(∃m,Wv 0 m s0 H0)/\∀i m s H,Wv i m s H->
  ((IA lo (hi-lo).toNat).stop i H/\Z.nx s H)\/((IA lo (hi-lo).toNat).go i H/\∃P:Sg->Hp->Prop,(∀s' H',P s' H'->∃m',m'<m/\Wv (i+1) m' s' H')/\∀x H',(IA lo (hi-lo).toNat).yld i H x H'->sU K t x s H' λs2 H2=>TDS K Wx body {Z with nx:=P,ct:=P,bk:=Z.nx} s2 H2):=by
 refine xZ (lo:=lo) (n:=(hi-lo).toNat) (λi s H=>∃m r h,Gr K m0 H0 m H/\Wd K m h H/\RSt K m H r s/\OutS K Wx m H Z (dA t body ((dP lo hi).drop i) r h))
  ⟨m0,r0,h0,.refl,w,st,e⟩ ?_ ?_
 ·rintro i s H hi' ⟨m,r,h,g,w1,st1,e1⟩
  have hd:(dP lo hi)[i]? =some (D.int (lo+i)):=by
   unfold dP;rw[Zi,List.getElem?_range hi'];rfl
  have ed:(dP lo hi).drop i=D.int (lo+i)::(dP lo hi).drop (i+1):=by
   obtain⟨hl,z⟩:=Ze.mp hd;rw[<- z];exact List.drop_eq_getElem_cons hl
  rw[ed] at e1;exact zG w1 st1 (.int _) e1 λm2 H2 r2 h2 s2 g2 w2 st2 e2=>⟨m2,r2,h2,g.trans g2,w2,st2,e2⟩
 ·rintro s H ⟨m,r,h,g,w1,st1,e1⟩;have hl:(dP lo hi).length=(hi-lo).toNat:=by unfold dP;simp
  rw[<- hl,List.drop_length] at e1;exact e1 m H .refl w1 s st1
theorem BS{t:Tg}{body:Ev->Hh->Rs Fl}{Z:Ends}{m0:List Addr}{H0:Hp}{h0:Hh}{n:Nat}{r0:Ev}{s0:Sg}{a:Addr}
 (w:Wd K m0 h0 H0)(st:RSt K m0 H0 r0 s0)(ha:m0[n]? =some a)(e:OutS K Wx m0 H0 Z (gJ t body n W 0 r0 h0)):
 ∃Wv:Nat->Nat->Sg->Hp->Prop,(∃m,Wv 0 m s0 H0)/\∀i m s H,Wv i m s H->
  ((KI K a).stop i H/\Z.nx s H)\/((KI K a).go i H/\∃P:Sg->Hp->Prop,(∀s' H',P s' H'->∃m',m'<m/\Wv (i+1) m' s' H')/\∀x H',(KI K a).yld i H x H'->sU K t x s H' λs2 H2=>TDS K Wx body {Z with nx:=P,ct:=P,bk:=Z.nx} s2 H2):=by
 refine⟨λi k s H=>∃m r h,Gr K m0 H0 m H/\Wd K m h H/\RSt K m H r s/\OutS K Wx m H Z (gJ t body n k i r h),⟨W,m0,r0,h0,.refl,w,st,e⟩,?_⟩;rintro i k s H ⟨m,r,h,g,w1,st1,e1⟩;cases k with
 |zero=>exact e1.elim
 |succ k=>
  simp only[gJ] at e1;split at e1
  ·exact e1.elim
  ·rename_i l el;obtain⟨a',vs,ha',hq,q⟩:=w1.lst el;have:=g.pre _ _ ha;rw[this] at ha';cases ha';split at e1
   ·rename_i en;refine .inl ⟨⟨vs,hq,?_⟩,e1 m H .refl w1 s st1⟩;rw[<- q.length];exact List.getElem?_eq_none_iff.mp en
   ·rename_i d ed;obtain⟨v,hv,rd⟩:=q.get ed;refine .inr ⟨⟨vs,v,hq,hv⟩,λs' H'=>∃m r h,Gr K m0 H0 m H'/\Wd K m h H'/\RSt K m H' r s'/\OutS K Wx m H' Z (gJ t body n k (i+1) r h),λs' H' p=>⟨k,Nat.lt_succ_self _,p⟩,λx H' y=>?_⟩;obtain⟨rfl,y⟩:=y;have hx:=y vs hq;rw[hv] at hx;cases hx;split at e1
    ·exact e1.elim
    ·rename_i r2 er;exact⟨m,h,r,d,r2,w1,st1,rd,er,λs2 st2=>⟨m,r2,h,w1,st2,OutS.body (next:=gJ t body n k (i+1)) e1 λm' H' h' r s g' w' st' e'=>⟨m',r,h',g.trans g',w',st',e'⟩⟩⟩
theorem KR{f:Ev->Hh->Rs D}{body:Ev->Hh->Rs Fl}{Z:Ends}{m0:List Addr}{H0:Hp}{h0:Hh}{r0:Ev}{s0:Sg}
 (w:Wd K m0 h0 H0)(st:RSt K m0 H0 r0 s0)(e:OutS K Wx m0 H0 Z (cU f body W r0 h0)):zK (C5 K f) (TDS K Wx body) Z s0 H0:=by
 refine⟨λk s H=>∃m r h,Gr K m0 H0 m H/\Wd K m h H/\RSt K m H r s/\OutS K Wx m H Z (cU f body k r h),⟨W,m0,r0,h0,.refl,w,st,e⟩,?_⟩;rintro k s H ⟨m,r,h,g,w1,st1,e1⟩;cases k with
 |zero=>exact e1.elim
 |succ k=>
  simp only[cU] at e1;obtain⟨x,h1,ex,e1⟩:=e1.nx;split at e1
  ·exact e1.elim
  ·rename_i et;exact⟨m,r,h,x,h1,false,w1,st1,ex,et,λm' H' g' w'=>nY (e1 m' H' g' w' s (st1.mono g'))⟩
  ·rename_i et
   exact⟨m,r,h,x,h1,true,w1,st1,ex,et,λm' H' g' w'=>nX ⟨λs' H'=>∃m r h,Gr K m0 H0 m H'/\Wd K m h H'/\RSt K m H' r s'/\OutS K Wx m H' Z (cU f body k r h),λs' H' p=>⟨k,Nat.lt_succ_self _,p⟩,
    m',r,h1,w',st1.mono g',OutS.body (next:=cU f body k) (e1.mono g') λm3 H3 h3 r s g3 w3 st' e'=>⟨m3,r,h3,(g.trans g').trans g3,w3,st',e'⟩⟩⟩
end
theorem QV{K:W.Frag}{hp:Heap}{C:Addr}{bmB:List Value}{nid:String}(KX:K.In hp)(hq0:W.excIn K C bmB nid=true):
 ∃bm N nm qn bs hdct sn sub ab col dd k0 k1 k2 k3 k5 mN,hp.get? C=some (excClassObj nm qn C N bs bm hdct sn sub ab col dd k0 k1 k2 k3 k5 nid)/\hp.Ns N mN/\mN "__init__"=none/\OwnTail hp bmB bm:=by
 unfold W.excIn at hq0;split at hq0
 ·rename_i dd cdt slots hob;split at hq0
  ·rename_i C0 bm k0 k1 k2 k3 n0 k5 hmro hsl;simp only[Bool.and_eq_true,beq_iff_eq,Bool.not_eq_true'] at hq0;obtain⟨⟨⟨⟨⟨eC,en⟩,edel⟩,etl⟩,ens⟩,eni⟩:=hq0;subst eC;subst en;obtain⟨nm,bs,mro,ns,qn,hd,sn,sub,ab,col,del⟩:=cdt;dsimp only at hmro edel ens eni;subst hmro;subst edel;obtain⟨sl⟩:=slots;simp only at hsl;subst hsl;exact⟨bm,ns,nm,qn,bs,hd,sn,sub,ab,col,dd,k0,k1,k2,k3,k5,_,KX _ _ hob,.of_isNs (W.isNs_of_in KX ens),W.nsMap_none_of_in KX ens eni,W.tail_of_in KX etl⟩
  ·cases hq0
 ·cases hq0
section
variable {X:Cx}{ca:Nat->Addr}{Wx:Ws}
theorem AF{c:Nat}{y z:Str}{np cp0 cp pos:Pos}{j:Nat}(xx:XX X ca Wx true)(calm:X.calm=true)(hg:Gl X y)(hm:X.mg y=some (.ref (ca c)))(ef:ExcF X.K (ca c))(hd:(y==("__debug__":Str))=false):
 PS X (.Raise (some (.Call (.Name y np) [.Constant (.str z) j cp0] [] cp)) none pos) (λ_ σ H=>Wx c σ H):=by
 intro pins s σ H D I hW;obtain⟨bm,N,nm,qn,bs,hdct,sn,sub,ab,col,dd,k0,k1,k2,k3,k5,mN,hC,hN,hni,TL⟩:=QV I.ok.mod.kin ef.own
 refine wpAny_Raise_call_subT (C:=ca c) (nm:=nm) (q:=qn) (N:=N) (bs:=bs) (bm:=bm) (hdct:=hdct) (sn:=sn) (sub:=sub) (ab:=ab) (col:=col) (dd:=dd) (k0:=k0) (k1:=k1) (k2:=k2) (k3:=k3) (k5:=k5) (mN:=mN) PySem.F.excBase_ValueError
  (TL.hasType PySem.F.excBase_ValueError.hasBase) (I.ok.hd calm) rfl hni (dX I hg hm ⟨rfl,?_⟩ hd)
 have hA:PA X [.Constant (.str z) j cp0] (jN (tC (.str z)) mD):=eR pV iQ;refine Calls.evalArgs_plain (bM (hA cp pins s σ H (λvs H1=>vs=[.str z]/\Wx c σ H1) I ⟨rfl,hW⟩) λus s2 ⟨vs,H2,I2,r2,ev,q⟩=>?_);subst ev;refine⟨rfl,?_,I2.bk _ _ hC,hN.keeps I2.bk,TL.keeps I2.bk,λh' e hx=>xx.made rfl pins σ H2 s2 h' e c us I2 hx q⟩;rw[<- r2.length];show 1<=sizeLine;rw[sizeLine_eq];decide
end
def VI(K:W.Frag)(Wx:Ws)(f:Ev->Hh->Rs D):TE:=λs H Q=>∃m r h,Wd K m h H/\RSt K m H r s/\(match f r h with
 |.ok d h'=>∀m' v H',Gr K m H m' H'->Wd K m' h' H'->RD K m' H' d v->Q v H'
 |.exc c _ h'=>∀m' H',Gr K m H m' H'->Wd K m' h' H'->Wx c s H'
 |.bad=>False)
section
variable {X:Cx}{N:List Str}{sc:Scope}{G:Gs}{ca:Nat->Addr}{cl:Cl}{Wx:Ws}{rz:Bool}
theorem AX(xo:XOk X N sc)(go:GOk X G ca cl)(hfn:∀x,X.fn x=true)(xx:XX X ca Wx rz){f:Nat}{l:Es}{y:Str}{np pos:Pos}{e:Expr}{es:List Expr}(h1:G.fns[f]? =some y)(h2:lE sc y=true)(h3:cS y=true)(h_l:uZ N sc G l (e::es)):
 PE X (.Call (.Name y np) (e::es) [] pos) (VI X.K Wx λr h=>(cJ G cl l r h).nx.bind λds h=>cl f ds h):=by
 obtain⟨d1,d2,d3⟩:=cD h3;obtain⟨fa,fd,ps,k,F,hr,hm,hk,hb,hlen⟩:=go.fn f y h1;have hns:=h_l.1;rw[List.all_cons,Bool.and_eq_true] at hns;intro pins s σ H Q I ⟨m,r,h,w,st,o⟩;cases he:cJ G cl l r h with
 |bad=>simp only[he] at o;exact o.elim
 |exc c rr hh=>simp only[he] at o;exact o.elim
 |ok ds hh=>
  simp only[he] at o;refine wpAny_Call_Name_kw (dX I (cR xo h2) hm ?_ d1);refine W.callWith_K (h₀:=X.base) I.ok.mod.kin hk (bM (h_l.2 xo go pos pins s σ H (λvs H1=>∃m1,Gr X.K m H m1 H1/\Wd X.K m1 hh H1/\RDs X.K m1 H1 ds vs) I ⟨m,r,h,ds,hh,w,st,he,λm' vs H' g w' rd=>⟨m',g,w',rd⟩⟩) λus s1 ⟨vs,H1,I1,r1,m1,g1,w1,rd1⟩=>⟨I1.kIn,?_⟩) (aW es hns.1) (dE pos hns.2)
  have hsp:tE X.K ca (cl f) ps.length vs H1 Q (λv oa H'=>∃c,oa=some (ca c)/\Wx c σ H'):=by
   have hne:cl f ds hh≠ .bad:=λz=>by
    have o':(match cl f ds hh with|.ok d h'=>∀m' v H',Gr X.K m H m' H'->Wd X.K m' h' H'->RD X.K m' H' d v->Q v H'|.exc c _ h'=>∀m' H',Gr X.K m H m' H'->Wd X.K m' h' H'->Wx c σ H'|.bad=>False):=o;rw[z] at o';exact o'
   refine⟨by rw[<- rd1.length];exact hlen _ _ hne,m1,hh,ds,w1,rd1,?_⟩;have o':(match cl f ds hh with|.ok d h'=>∀m' v H',Gr X.K m H m' H'->Wd X.K m' h' H'->RD X.K m' H' d v->Q v H'|.exc c _ h'=>∀m' H',Gr X.K m H m' H'->Wd X.K m' h' H'->Wx c σ H'|.bad=>False):=o;cases hc:cl f ds hh with
   |ok d h'=>
    rw[hc] at o';exact λm' v H' g=>o' m' v H' (g1.trans g)
   |exc c rr h'=>
    rw[hc] at o';exact λm' H' v g w'=>⟨c,rfl,o' m' H' (g1.trans g) w'⟩
   |bad=>exact hne hc
  have hl:us.length=ps.length:=by rw[<- r1.length];exact F.len _ _ _ _ hsp
  have hbd:BindsTo s1 fd ⟨us,[]⟩ (ps.zip us):=by
   have:=hb s1 us I1.kIn (by simpa using hl);simpa using this
  refine wpAny_call (codeAny_mono (F.run X.A X.stack s1 H1 ⟨us,[]⟩ us vs Q _ hr I1.env0 hbd r1 hsp) λres s' hq=>?_);cases res with
  |error ev=>
   have hq':pH X.prog X.w X.stack H1 s1 (λv oa H'=>∃c,oa=some (ca c)/\Wx c σ H') ev s':=hq;obtain⟨H',ea,C,rfl,I',⟨B,FX⟩,c,hC,hW⟩:=uW I1 xx.ex hfn hq';cases hC;exact xx.fly pins σ H' s' ea c I' ⟨B,FX⟩ hW
  |ok fl=>
   cases fl with
   |ret u=>exact I1.after hq
   |next=>exact False.elim hq
   |brk=>exact False.elim hq
   |cont=>exact False.elim hq
theorem TDS.oneX{K:W.Frag}{fa:Ev->Hh->Rs D}{f:Ev->Hh->Rs Fl}{k:Ev->D->Hh->Rs Fl}{s:Sg}{H:Hp}{Z:Ends}{R:VK}(hf:∀r h,f r h=((fa r h).inn r).bind (k r))(q:TDS K Wx f Z s H)
 (c:∀(m2:List Addr)(r:Ev)(h2:Hh)(H2:Hp)(dx:D)(x:V),Wd K m2 h2 H2->RSt K m2 H2 r s->RD K m2 H2 dx x->OutS K Wx m2 H2 Z (k r dx h2)->R x H2):VI K Wx fa s H R:=by
 obtain⟨m,r,h,w,st,o⟩:=q;rw[hf] at o;refine⟨m,r,h,w,st,?_⟩;cases he:fa r h with
 |bad=>rw[he] at o;exact o
 |exc c' rr hh=>
  rw[he] at o;exact λm' H' g w'=>o m' H' s g w' (st.mono g)
 |ok dx hh=>
  rw[he] at o;exact λm' v H' g w' rd=>c m' r hh H' dx v w' (st.mono g) rd (OutS.mono g o)
theorem TDS.one{K:W.Frag}{fa:Ev->Hh->Rs D}{f:Ev->Hh->Rs Fl}{k:Ev->D->Hh->Rs Fl}{s:Sg}{H:Hp}{Z:Ends}{R:VK}(hf:∀r h,f r h=(fa r h).nx.bind (k r))(q:TDS K Wx f Z s H)
 (c:∀(m2:List Addr)(r:Ev)(h2:Hh)(H2:Hp)(dx:D)(x:V),Wd K m2 h2 H2->RSt K m2 H2 r s->RD K m2 H2 dx x->OutS K Wx m2 H2 Z (k r dx h2)->R x H2):TDE K fa s H R:=by
 obtain⟨m,r,h,w,st,o⟩:=q;rw[hf] at o;obtain⟨dx,h1,e1,o⟩:=o.nx;exact⟨m,r,h,dx,h1,w,st,e1,λm1 x H1 g1 w1 rx=>c m1 r h1 H1 dx x w1 (st.mono g1) rx (o.mono g1)⟩
end
section
variable {X:Cx}{N:List Str}{sc:Scope}{G:Gs}{ca:Nat->Addr}{cl:Cl}{e:Addr}{oe:Obj}{c:Nat}
def hslot(N:List Str)(e:Addr)(n:Option Str)(σ:Sg):Prop:=∀x,n=some x->∃j:Nat,N[j]? =some x/\σ[j]? =some (some (.ref e))
noncomputable def yH:Sum Bool Str->V
 |.inl b=>.bl b
 |.inr x=>.str x
noncomputable def cP(G:Gs)(c:Nat):List HS->Sg->Option Sg
 | [],r=>some r
 |.bl i b::l,r=>match b.run G c with
  |some v=>cP G c l (r.set i (some (.bl v)))
  |none=>none
 |.cst i d::l,r=>cP G c l (r.set i (some (yH d)))
 |.ifc b i d::l,r=>match b.run G c with
  |some true=>cP G c l (r.set i (some (yH d)))
  |some false=>cP G c l r
  |none=>none
 |.ifa b i x::l,r=>match b.run G c with
  |some true=>match r[i]? with
   |some (some (.str y))=>if y.length+x.length<=1000 then cP G c l (r.set i (some (.str (y++x)))) else none
   |_=>none
  |some false=>cP G c l r
  |none=>none
theorem dL{K:W.Frag}{m:List Addr}{H:Hp}{G:Gs}:∀{hs:List HS}{r r':Ev}{σ:Sg},jT G c hs r=some r'->RSt K m H r σ->∃σ',cP G c hs σ=some σ'/\RSt K m H r' σ'
 | [],r,r',σ,h,st=>by cases h;exact⟨σ,rfl,st⟩
 |.bl i b::l,r,r',σ,h,st=>by
  simp only[jT] at h;split at h
  ·rename_i v ev;obtain⟨σ',e1,e2⟩:=dL h (st.set i (.bl v));exact⟨σ',by simp only[cP,ev];exact e1,e2⟩
  ·cases h
 |.cst i d::l,r,r',σ,h,st=>by
  have rd:RD K m H (DD d) (yH d):=by cases d<;>constructor
  obtain⟨σ',e1,e2⟩:=dL (show jT G c l (r.set i (some (DD d)))=some r' from h) (st.set i rd);exact⟨σ',e1,e2⟩
 |.ifc b i d::l,r,r',σ,h,st=>by
  have rd:RD K m H (DD d) (yH d):=by cases d<;>constructor
  simp only[jT] at h;split at h
  ·rename_i ev;obtain⟨σ',e1,e2⟩:=dL h (st.set i rd);exact⟨σ',by simp only[cP,ev];exact e1,e2⟩
  ·rename_i ev;obtain⟨σ',e1,e2⟩:=dL h st;exact⟨σ',by simp only[cP,ev];exact e1,e2⟩
  ·cases h
 |.ifa b i x::l,r,r',σ,h,st=>by
  simp only[jT] at h;split at h
  ·rename_i ev;split at h<;>first |(cases h;done)|skip
   rename_i y ey;split at h<;>first |(cases h;done)|skip
   rename_i hz;obtain⟨v,e0,rv⟩:=st.2 i _ ey;cases rv;obtain⟨σ',e1,e2⟩:=dL h (st.set i (.str (y++x)));exact⟨σ',by simp only[cP,ev,e0,if_pos hz];exact e1,e2⟩
  ·rename_i ev;obtain⟨σ',e1,e2⟩:=dL h st;exact⟨σ',by simp only[cP,ev];exact e1,e2⟩
  ·cases h
theorem BH(go:GOk X G ca cl)(hc:oe.cls=.ref (ca c)):dN (hX X e oe) (.builtin "isinstance") (λxs H Q=>∃t bv,xs=[.ref e,t]/\((∃k,t=.ref (ca k)/\W.kitOne X.K (.ref (ca c)) (.ref (ca k))=some bv/\(bv=true\/ExcN X.K (ca c)))\/(t=.ty "ValueError"/\ExcF X.K (ca c)/\bv=true))/\Q (.bl bv) H):=by
 intro pins s σ H xs us Q I r ⟨t,bv,ex,ht,q⟩;subst ex;obtain⟨u1,u2,rfl,r1,r2⟩:=zA r;cases r1;have pin:=I.pin (e,oe) (List.mem_append_left _ Zl);have LT:W.Looks (model (hX X e oe).prog (hX X e oe).w) s.heap (typeOf (.ref e)) (.ref (ca c)):=hc ▸ (W.Looks.ld pin.1).andThen .now
 have kit:W.kitOne X.K (.ref (ca c)) u2=some bv:=by
  rcases ht with ⟨k,rfl,hk,_⟩|⟨rfl,ef,rfl⟩
  ·cases r2;exact hk
  ·cases r2;exact ef.val
 have ok:bv=true\/ExcN X.K (ca c):=by
  rcases ht with ⟨k,_,_,z⟩|⟨_,_,z⟩
  ·exact z
  ·exact .inl z
 rcases ok with rfl|n
 ·exact kip LT I.kIn kit (λz=>nomatch z) ⟨.bl true,H,I,rfl,q⟩
 ·exact W.kia_one (BC n) I.kIn ⟨pin.1,hc⟩ kit (λz=>nomatch z) λtk=>⟨.bl bv,H,I.tok _,rfl,q⟩
inductive HBt (sc:Scope) (G:Gs) (n:Option Str):HB->Expr->Prop
 |isx {k:Nat} {x y:Str} {fp xp yp pos:Pos} (h:(lE sc "isinstance"&&n==some x&&cS x&&G.excs[k]? ==some y&&lE sc y&&cS y)=true):HBt sc G n (.isx k) (.Call (.Name "isinstance" fp) [.Name x xp,.Name y yp] [] pos)
 |isv {x:Str} {fp xp yp pos:Pos} (h:(lE sc "isinstance"&&n==some x&&cS x&&lE sc "ValueError")=true):HBt sc G n .isv (.Call (.Name "isinstance" fp) [.Name x xp,.Name "ValueError" yp] [] pos)
 |and {a b:HB} {x v:Expr} {vs:List Expr} {pos:Pos} (h1:HBt sc G n a x) (h2:HBt sc G n b (.BoolOp .And (v::vs) pos)):HBt sc G n (.and a b) (.BoolOp .And (x::v::vs) pos)
 |one {a:HB} {x:Expr} {pos:Pos} (h1:HBt sc G n a x):HBt sc G n a (.BoolOp .And [x] pos)
 |not {a:HB} {x:Expr} {pos:Pos} (h1:HBt sc G n a x):HBt sc G n (.not a) (.UnaryOp .Not x pos)
theorem AT(xo:XOk X N sc)(go:GOk X G ca cl)(hc:oe.cls=.ref (ca c))(ef:ExcF X.K (ca c)){n:Option Str}(hn:∀x,n=some x->sc.names.lookup x=some .local):∀(b:HB)(v:Expr),HBt sc G n b v->
 PE (hX X e oe) v (λσ H Q=>hslot N e n σ/\∃bv,b.run G c=some bv/\Q (.bl bv) H)/\PT (hX X e oe) v (λσ H Q=>hslot N e n σ/\∃bv,b.run G c=some bv/\Q bv H):=by
 have hgl:∀{x:Str},lE sc x=true->Gl (hX X e oe) x:=λh=>cR xo h;have isi:(("isinstance":Str)==("__debug__":Str))=false:=by decide+kernel
 have XC:("isinstance":Str)≠"__name__":=by decide+kernel
 have common:∀{x y:Str}{fp xp yp pos:Pos}{t:V},lE sc "isinstance"=true->n=some x->cS x=true->PE (hX X e oe) (.Name y yp) (tC t)->PE (hX X e oe) (.Call (.Name "isinstance" fp) [.Name x xp,.Name y yp] [] pos)
  (λσ H Q=>hslot N e n σ/\∃bv,((∃k,t=.ref (ca k)/\W.kitOne X.K (.ref (ca c)) (.ref (ca k))=some bv/\(bv=true\/ExcN X.K (ca c)))\/(t=.ty "ValueError"/\ExcF X.K (ca c)/\bv=true))/\Q (.bl bv) H):=λ{x y fp xp yp pos t} hgi hx hdx hy=>by
  intro pins s σ H Q I ⟨hs,bv,ht,q⟩;obtain⟨j,hj,hσ⟩:=hs x hx;obtain⟨d1,d2,d3⟩:=cD hdx;have px:PE (hX X e oe) (.Name x xp) (zL j):=pv (X:=hX X e oe) j (by show X.N[j]? =some x;rw[xo.n];exact hj) (.inl (by show X.env.scope.names.lookup x=_;rw[xo.s];exact hn x hx)) d1 d2;have hA:PA (hX X e oe) [.Name x xp,.Name y yp] (jN (zL j) (jN (tC t) mD)):=eR px (eR hy iQ);have p:=mL (X:=hX X e oe) (p:=fp) (pos:=pos) (BH (e:=e) go hc) (hgl hgi) (go.blt .isinst) (nR .isinst) hA XC isi;exact p pins s σ H Q I ⟨.ref e,hσ,t,bv,rfl,ht,q⟩
 have both:∀{b:HB}{v:Expr},PE (hX X e oe) v (λσ H Q=>hslot N e n σ/\∃bv,b.run G c=some bv/\Q (.bl bv) H)->(∀whole,isTrue v (hX X e oe).env whole=(do let u <- whole;standAt v.pos;holding [u] (truthy u)))->PE (hX X e oe) v (λσ H Q=>hslot N e n σ/\∃bv,b.run G c=some bv/\Q (.bl bv) H)/\PT (hX X e oe) v (λσ H Q=>hslot N e n σ/\∃bv,b.run G c=some bv/\Q bv H):=λp he=>⟨p,(rO p he).wk λσ H Q ⟨hs,bv,ev,q⟩=>⟨hs,bv,ev,bv,rfl,q⟩⟩;intro b v hb
 induction hb with
 | @isx k x y fp xp yp pos h'=>
   simp only[Bool.and_eq_true,beq_iff_eq] at h';obtain⟨⟨⟨⟨⟨h2,h3⟩,h4⟩,h5⟩,h6⟩,h7⟩:=h';obtain⟨hm,_⟩:=go.exc k y h5;obtain⟨d1,d2,d3⟩:=cD h7;have py:PE (hX X e oe) (.Name y yp) (tC (.ref (ca k))):=vP (X:=hX X e oe) (hgl h6) hm rfl d1;refine both ((common (t:=.ref (ca k)) h2 h3 h4 py).wk λσ H Q ⟨hs,bv,ev,q⟩=>?_) λ_=>rfl;simp only[HB.run] at ev;split at ev
   ·rename_i hk;cases ev;exact⟨hs,true,.inl ⟨k,rfl,(go.sub _ hk).2.1,.inl rfl⟩,q⟩
   ·split at ev
    ·rename_i hk;cases ev;exact⟨hs,false,.inl ⟨k,rfl,(go.nsub _ hk).1,.inr (go.nsub _ hk).2⟩,q⟩
    ·cases ev
 | @isv x fp xp yp pos h'=>
   simp only[Bool.and_eq_true,beq_iff_eq] at h';obtain⟨⟨⟨h2,h3⟩,h4⟩,h6⟩:=h';have py:PE (hX X e oe) (.Name "ValueError" yp) (tC (.ty "ValueError")):=vQ (X:=hX X e oe) (hgl h6) go.verr (by decide+kernel) rfl;refine both ((common (t:=.ty "ValueError") h2 h3 h4 py).wk λσ H Q ⟨hs,bv,ev,q⟩=>?_) λ_=>rfl;cases ev;exact⟨hs,true,.inr ⟨rfl,ef,rfl⟩,q⟩
 | @and a b x v vs pos h1 h2 iha ihb=>
   refine⟨(vR iha.1 ihb.1).wk λσ H Q ⟨hs,bv,ev,q⟩=>?_,(zZ iha.2 (zY ihb.2)).pt.wk λσ H Q ⟨hs,bv,ev,q⟩=>?_⟩
   ·simp only[HB.run] at ev;split at ev
    ·rename_i e1;exact⟨hs,true,e1,true,rfl,nX ⟨hs,_,ev,q⟩⟩
    ·rename_i e1;cases ev;exact⟨hs,false,e1,false,rfl,nY q⟩
    ·cases ev
   ·simp only[HB.run] at ev;split at ev
    ·rename_i e1;exact⟨hs,true,e1,nX ⟨hs,_,ev,q⟩⟩
    ·rename_i e1;cases ev;exact⟨hs,false,e1,nY q⟩
    ·cases ev
 | @one a x pos h1 iha=>exact⟨tK iha.1,(vK iha.2).pt⟩
 | @not a x pos h1 iha=>
   refine⟨(vO iha.1).wk λσ H Q ⟨hs,bv,ev,q⟩=>?_,(AB iha.2).wk λσ H Q ⟨hs,bv,ev,q⟩=>?_⟩
   ·simp only[HB.run] at ev;split at ev
    ·rename_i v e1;cases ev;exact⟨hs,v,e1,v,rfl,q⟩
    ·cases ev
   ·simp only[HB.run] at ev;split at ev
    ·rename_i v e1;cases ev;exact⟨hs,v,e1,q⟩
    ·cases ev
end
theorem hR{env:Env}{v:Expr}{t:Option Expr}{l:Nat}(h:iS v=true):swapsWith v t l env=pure false:=by
 cases v<;>first |rfl|(cases h;done)
theorem kW{env:Env}{v tg:Expr}{l:Nat}(h:iS v=true):swapsWithSole [tg] v l env=pure false:=hR (t:=some tg) h
section
variable {X:Cx}{N:List Str}{sc:Scope}{G:Gs}{ca:Nat->Addr}{cl:Cl}{e:Addr}{oe:Obj}{c:Nat}
theorem hslot.set{n:Option Str}{σ:Sg}{i:Nat}{x:Str}{v:Option V}(h:hslot N e n σ)(hi:N[i]? =some x)(hx:(n==some x)=false):hslot N e n (σ.set i v):=λy hy=>by
 obtain⟨j,h1,h2⟩:=h y hy;refine⟨j,h1,?_⟩
 have:i≠j:=λz=>by
  subst z;rw[hi] at h1;cases h1;rw[hy] at hx;simp at hx
 rw[List.getElem?_set_ne this];exact h2
noncomputable def HS.ix:HS->Nat
 |.bl i _=>i
 |.cst i _=>i
 |.ifc _ i _=>i
 |.ifa _ i _=>i
inductive HSt (N:List Str) (sc:Scope) (G:Gs) (n:Option Str):HS->Stmt->Prop
 |bl {i:Nat} {b:HB} {x:Str} {v:Expr} {xp pos:Pos} (h:(N[i]? ==some x&&iH sc x&&(!(n==some x))&&iS v)=true) (hb:HBt sc G n b v):HSt N sc G n (.bl i b) (.Assign [.Name x xp] v pos)
 |cb {i:Nat} {b:Bool} {x:Str} {j:Nat} {xp cp pos:Pos} (h:(N[i]? ==some x&&iH sc x&&(!(n==some x)))=true):HSt N sc G n (.cst i (.inl b)) (.Assign [.Name x xp] (.Constant (.bool b) j cp) pos)
 |cs {i:Nat} {y:Str} {x:Str} {j:Nat} {xp cp pos:Pos} (h:(N[i]? ==some x&&iH sc x&&(!(n==some x)))=true):HSt N sc G n (.cst i (.inr y)) (.Assign [.Name x xp] (.Constant (.str y) j cp) pos)
inductive HSn (N:List Str) (sc:Scope) (G:Gs) (n:Option Str):HS->Stmt->Prop
 |one {a:HS} {x:Stmt} (h:HSt N sc G n a x):HSn N sc G n a x
 |ifc {b:HB} {i:Nat} {d:Sum Bool Str} {v:Expr} {x:Stmt} {pos:Pos} (hb:HBt sc G n b v) (h:HSt N sc G n (.cst i d) x):HSn N sc G n (.ifc b i d) (.If v [x] [] pos)
 |ifa {b:HB} {i j:Nat} {z y:Str} {v:Expr} {p1 p2 p3 p4 p5 pos:Pos} (hb:HBt sc G n b v) (h1:N[i]? =some y) (h:(iH sc y&&(!(n==some y))&&yY sc y&&cS y)=true):HSn N sc G n (.ifa b i z) (.If v [.Assign [.Name y p1] (.BinOp (.Name y p2) .Add (.Constant (.str z) j p3) p4) p5] [] pos)
inductive HSts (N:List Str) (sc:Scope) (G:Gs) (n:Option Str):List HS->List Stmt->Prop
 |nil:HSts N sc G n [] []
 |cons {a:HS} {l:List HS} {x:Stmt} {r:List Stmt} (h:HSn N sc G n a x) (hl:HSts N sc G n l r):HSts N sc G n (a::l) (x::r)
theorem IU(xo:XOk X N sc)(go:GOk X G ca cl)(hfn:∀x,X.fn x=true)(hc:oe.cls=.ref (ca c))(ef:ExcF X.K (ca c)){n:Option Str}(hn:∀x,n=some x->sc.names.lookup x=some .local)(a:HS)(st:Stmt)(h:HSt N sc G n a st):
 (∃x,N[a.ix]? =some x/\(n==some x)=false)/\PS (hX X e oe) st (λD σ H=>hslot N e n σ/\∃σ',cP G c [a] σ=some σ'/\D.nx σ' H):=by
 have nd:(hX X e oe).N.Nodup:=xo.nd;cases h with
 | @bl i b x v xp pos h hb=>
   simp only[Bool.and_eq_true,beq_iff_eq,Bool.not_eq_true'] at h;obtain⟨⟨⟨h1,h2⟩,h3⟩,h4⟩:=h;refine⟨⟨x,h1,h3⟩,(mI (X:=hX X e oe) (i:=i) nd (by show X.N[i]? =some x;rw[xo.n];exact h1) (by show DY X.env.scope x;rw[xo.s];exact fV h2) (AT xo go hc ef hn b v hb).1 (hR h4) (.inl (hfn x))).wk λD σ H ⟨hs,σ',er,q⟩=>?_⟩;simp only[cP] at er;split at er
   ·rename_i bv eb;cases er;exact⟨hs,bv,eb,q⟩
   ·cases er
 | @cb i b x j xp cp pos h=>
   simp only[Bool.and_eq_true,beq_iff_eq,Bool.not_eq_true'] at h;obtain⟨⟨h1,h2⟩,h3⟩:=h;refine⟨⟨x,h1,h3⟩,(mI (X:=hX X e oe) (i:=i) nd (by show X.N[i]? =some x;rw[xo.n];exact h1) (by show DY X.env.scope x;rw[xo.s];exact fV h2) JA rfl (.inl (hfn x))).wk λD σ H ⟨hs,σ',er,q⟩=>?_⟩;cases er;exact q
 | @cs i y x j xp cp pos h=>
   simp only[Bool.and_eq_true,beq_iff_eq,Bool.not_eq_true'] at h;obtain⟨⟨h1,h2⟩,h3⟩:=h;refine⟨⟨x,h1,h3⟩,(mI (X:=hX X e oe) (i:=i) nd (by show X.N[i]? =some x;rw[xo.n];exact h1) (by show DY X.env.scope x;rw[xo.s];exact fV h2) pV rfl (.inl (hfn x))).wk λD σ H ⟨hs,σ',er,q⟩=>?_⟩;cases er;exact q
theorem tZ{G:Gs}{a:HS}{l:List HS}{σ σ':Sg}(h:cP G c (a::l) σ=some σ'):∃σ1,cP G c [a] σ=some σ1/\(σ1=σ\/∃v,σ1=σ.set a.ix (some v))/\cP G c l σ1=some σ':=by
 cases a with
 |bl i b=>
  simp only[cP] at h⊢;split at h
  ·rename_i v ev;exact⟨_,rfl,.inr ⟨_,rfl⟩,h⟩
  ·cases h
 |cst i d=>exact⟨_,rfl,.inr ⟨yH d,rfl⟩,h⟩
 |ifc b i d=>
  simp only[cP] at h⊢;split at h
  ·exact⟨_,rfl,.inr ⟨yH d,rfl⟩,h⟩
  ·exact⟨_,rfl,.inl rfl,h⟩
  ·cases h
 |ifa b i x=>
  simp only[cP] at h⊢;split at h
  ·split at h<;>first |(cases h;done)|skip
   rename_i e0;split at h<;>first |(cases h;done)|skip
   rename_i hz;exact⟨_,if_pos hz,.inr ⟨_,rfl⟩,h⟩
  ·exact⟨_,rfl,.inl rfl,h⟩
  ·cases h
theorem QP(xo:XOk X N sc)(go:GOk X G ca cl)(hfn:∀x,X.fn x=true)(hc:oe.cls=.ref (ca c))(ef:ExcF X.K (ca c)){n:Option Str}(hn:∀x,n=some x->sc.names.lookup x=some .local)(a:HS)(st:Stmt)(h:HSn N sc G n a st):
 (∃x,N[a.ix]? =some x/\(n==some x)=false)/\PS (hX X e oe) st (λD σ H=>hslot N e n σ/\∃σ',cP G c [a] σ=some σ'/\D.nx σ' H):=by
 cases h with
 |one h=>exact IU xo go hfn hc ef hn _ _ h
 | @ifc b i d v x pos hb h=>
   obtain⟨hx,p⟩:=IU (e:=e) (oe:=oe) xo go hfn hc ef hn _ _ h;refine⟨hx,?_⟩;have pv:=AT (e:=e) (oe:=oe) xo go hc ef hn b v hb;refine(AG pv.2 (jQ p fS) fS).wk λD σ H ⟨hs,σ',er,q⟩=>?_;simp only[cP] at er;split at er
   ·rename_i ev;cases er;exact⟨hs,true,ev,nX ⟨hs,_,rfl,q⟩⟩
   ·rename_i ev;cases er;exact⟨hs,false,ev,nY q⟩
   ·cases er
 | @ifa b i j z y v p1 p2 p3 p4 p5 pos hb h1 h=>
   simp only[Bool.and_eq_true,Bool.not_eq_true'] at h;obtain⟨⟨⟨h2,h3⟩,h4⟩,h5⟩:=h;obtain⟨d1,d2,_⟩:=cD h5;have pv:=AT (e:=e) (oe:=oe) xo go hc ef hn b v hb;have px:PE (hX X e oe) (.Name y p2) (zL i):=AN (X:=hX X e oe) (i:=i) (by show X.N[i]? =some y;rw[xo.n];exact h1) (by show UH X.env.scope y;rw[xo.s];exact vC h4) d1 d2;have ps:PS (hX X e oe) (.Assign [.Name y p1] (.BinOp (.Name y p2) .Add (.Constant (.str z) j p3) p4) p5) _:=mI (X:=hX X e oe) (i:=i) xo.nd (by show X.N[i]? =some y;rw[xo.n];exact h1) (by show DY X.env.scope y;rw[xo.s];exact fV h2) (IW mM px pV) rfl (.inl (hfn y));refine⟨⟨y,h1,h3⟩,(AG pv.2 (jQ ps fS) fS).wk λD σ H ⟨hs,σ',er,q⟩=>?_⟩;simp only[cP] at er;split at er
   ·rename_i ev;split at er<;>first |(cases er;done)|skip
    rename_i w ew;split at er<;>first |(cases er;done)|skip
    rename_i hz;cases er;exact⟨hs,true,ev,nX ⟨_,ew,_,_,rfl,rfl,Nat.le_trans hz (by decide),q⟩⟩
   ·rename_i ev;cases er;exact⟨hs,false,ev,nY q⟩
   ·cases er
theorem AD(xo:XOk X N sc)(go:GOk X G ca cl)(hfn:∀x,X.fn x=true)(hc:oe.cls=.ref (ca c))(ef:ExcF X.K (ca c)){n:Option Str}(hn:∀x,n=some x->sc.names.lookup x=some .local):∀(l:List HS)(es:List Stmt),HSts N sc G n l es->
 PSs (hX X e oe) es (λD σ H=>hslot N e n σ/\∃σ',cP G c l σ=some σ'/\D.nx σ' H):=by
 intro l es h
 induction h with
 |nil=>exact(fS).wk λD σ H ⟨_,σ',er,q⟩=>by cases er;exact q
 | @cons a l x r h hl ih=>
   obtain⟨⟨y,hy1,hy2⟩,p⟩:=QP (e:=e) (oe:=oe) xo go hfn hc ef hn a x h;refine(jQ p ih).wk λD σ H ⟨hs,σ',er,q⟩=>?_;obtain⟨σ1,e1,es,e2⟩:=tZ er;refine⟨hs,σ1,e1,?_,σ',e2,q⟩;rcases es with rfl|⟨v,rfl⟩
   ·exact hs
   ·exact hs.set hy1 hy2
end
noncomputable def tX(X:Cx)(pins:List (Addr×Obj))(E:Value->Shared->Prop):Cx:={X with pn:=X.pn++pins,xe:=E}
section
variable {X:Cx}{pins pins':List (Addr×Obj)}{E:Value->Shared->Prop}{σ:Sg}{H:Hp}{s:Shared}
theorem PX(I:Inv X pins σ H s):Inv (tX X pins E) [] σ H s:=
 ⟨⟨I.ok.mod,I.ok.kind,I.ok.glob,I.ok.blt,I.ok.above,I.ok.inj,I.ok.has,I.ok.cab,I.ok.hd,I.ok.frames,I.ok.stk,I.ok.exf,I.ok.bs,I.ok.bsz,I.ok.noex,I.ok.exfs,I.ok.funs,I.ok.frf⟩,I.os,I.bare,I.base,I.loc,I.cell,I.free,I.freeC,λp hp=>I.pin p (by rw[Zm] at hp;exact hp),I.hok,I.len⟩
theorem mC(I:Inv (tX X pins E) pins' σ H s):Inv X pins σ H s:=
 ⟨⟨I.ok.mod,I.ok.kind,I.ok.glob,I.ok.blt,I.ok.above,I.ok.inj,I.ok.has,I.ok.cab,I.ok.hd,I.ok.frames,I.ok.stk,I.ok.exf,I.ok.bs,I.ok.bsz,I.ok.noex,I.ok.exfs,I.ok.funs,I.ok.frf⟩,I.os,I.bare,I.base,I.loc,I.cell,I.free,I.freeC,λp hp=>I.pin p (List.mem_append_left _ hp),I.hok,I.len⟩
theorem LA{e C:Addr}{B:Heap}(F:FlyX (tX X pins E) pins' H e C s B):FlyX X pins H e C s B:=⟨F.fly,λp hp=>F.pc1 p (List.mem_append_left _ hp),F.pc2⟩
end
section
variable {X:Cx}{N:List Str}{sc:Scope}{G:Gs}{ca:Nat->Addr}{cl:Cl}{Wx:Ws}{rz:Bool}
noncomputable def Wt(K:W.Frag)(Wx:Ws)(Z:Ends)(G:Gs)(g:Nat)(j:Option Nat)(hs:List HS):Ws:=λc σ H=>∃m r h,Wd K m h H/\RSt K m H r σ/\OutS K Wx m H Z (qI G g j hs (.exc c r h))
theorem RSt.clr{K:W.Frag}{m:List Addr}{H:Hp}{r:Ev}{σ:Sg}(st:RSt K m H r σ)(j:Nat)(v:Option V):RSt K m H (r.set j none) (σ.set j v):=by
 refine⟨by simp[st.1],λi d e=>?_⟩
 by_cases hij:j=i
 ·subst hij
  by_cases hl:j<r.length
  ·rw[List.getElem?_set_self hl] at e;cases e
  ·rw[List.getElem?_eq_none (by simpa using hl)] at e;cases e
 ·rw[List.getElem?_set_ne hij] at e⊢;exact st.2 i d e
theorem xD(xo:XOk X N sc)(go:GOk X G ca cl)(hfn:∀x,X.fn x=true)(xx:XX X ca Wx rz){g:Nat}{j:Option Nat}{hs:List HS}{y:Str}{yp hp:Pos}{n:Option Str}{s0:Stmt}{suite:List Stmt}
 (h1:G.excs[g]? =some y)(h2:lE sc y=true)(h3:cS y=true)(h4:TV N sc j n=true)(h5:HSts N sc G n hs (s0::suite)){Z:Ends}{pins:List (Addr×Obj)}{σ:Sg}{H:Hp}{s:Shared}{e:Addr}{c:Nat}{B:Heap}
 (I:Inv X pins σ H s)(F:FlyX X pins H e (ca c) s B)(hW:Wt X.K Wx Z G g j hs c σ H):
 wpAny (model X.prog X.w) X.A (noteFrame (.ref e) X.env) (λ_ s2=>wpAny (model X.prog X.w) X.A (setFlight (.ref e) none) (λ_ s3=>wpAny (model X.prog X.w) X.A (handleBy (.ref e) X.env [.ExceptHandler (some (.Name y yp)) n (s0::suite) hp]) (SP X pins Z) X.xe s3) X.xe s2) X.xe s:=by
 obtain⟨m,r,h,w,st,o⟩:=hW;obtain⟨d1,d2,d3⟩:=cD h3;obtain⟨hm,_⟩:=go.exc g y h1;simp only[qI] at o;split at o
 case isFalse=>exact o.elim
 case isTrue hsub=>
  split at o
  case h_2=>exact o.elim
  case h_1 r' er=>
   have ef:=(go.sub _ hsub).2.2;refine WZ I F xx.ex xx.stk (cR xo h2) hm d1 (go.sub _ hsub).1 λs5 I5 F5=>?_;cases j with
   |none=>
    cases n with
    |some n=>exact absurd (show false=true from h4) Bool.false_ne_true
    |none=>
     refine LE I5 F5 xx.ex xx.stk λoe s6 hc I6=>?_;obtain⟨σ',es,st'⟩:=dL (c:=c) er (show RSt X.K m H (clr none r) σ from st);refine wpAny_mono (AD (e:=e) (oe:=oe) (n:=none) xo go hfn hc ef (λx z=>by cases z) hs (s0::suite) h5 pins s6 σ H {nx:=λσ1 H1=>σ1=σ'/\H1=H,rt:=λ_ _=>False} I6 ⟨(λx z=>by cases z),σ',es,rfl,rfl⟩) (λf s7 q=>?_) λ_ _ z=>z;cases f with
     |next=>
      obtain⟨σ1,H1,I7,z1,z2⟩:=q;subst z1;subst z2;exact⟨_,_,BN I5.ok I7,o m _ .refl w _ st'⟩
     |brk=>obtain⟨_,_,_,z⟩:=q;exact z.elim
     |cont=>obtain⟨_,_,_,z⟩:=q;exact z.elim
     |ret u=>obtain⟨_,_,_,_,_,z⟩:=q;exact z.elim
   |some j=>
    cases n with
    |none=>exact absurd (show false=true from h4) Bool.false_ne_true
    |some n=>
     have h4':(N[j]? ==some n&&sc.names.lookup n==some .local)=true:=h4;simp only[Bool.and_eq_true,beq_iff_eq] at h4';have hl:X.env.scope.names.lookup n=some .local:=by rw[xo.s];exact h4'.2
     have hj:X.N[j]? =some n:=by rw[xo.n];exact h4'.1
     refine LD I5 F5 xx.ex xx.stk xo.nd hj hl λoe s6 hc I6=>?_;obtain⟨σ',es,st'⟩:=dL (c:=c) er (show RSt X.K m H (clr (some j) r) (σ.set j (some (.ref e))) from st.clr j _);have hjσ:j<σ.length:=by rw[I.len];exact(Ze.mp hj).1
     refine wpAny_mono (AD (e:=e) (oe:=oe) (n:=some n) xo go hfn hc ef (λx z=>by cases z;exact h4'.2) hs (s0::suite) h5 pins s6 (σ.set j (some (.ref e))) H {nx:=λσ1 H1=>σ1=σ'/\H1=H,rt:=λ_ _=>False} I6 ⟨(λx z=>by cases z;exact⟨j,h4'.1,List.getElem?_set_self hjσ⟩),σ',es,rfl,rfl⟩) (λf s7 q=>?_) λ_ _ z=>z;cases f with
     |next=>
      obtain⟨σ1,H1,I7,z1,z2⟩:=q;subst z1;subst z2;refine xQ (BN I5.ok I7) xo.nd hj hl λs8 I8=>?_;exact⟨_,_,I8,o m _ .refl w _ (st'.clr j none)⟩
     |brk=>obtain⟨_,_,_,z⟩:=q;exact z.elim
     |cont=>obtain⟨_,_,_,z⟩:=q;exact z.elim
     |ret u=>obtain⟨_,_,_,_,_,z⟩:=q;exact z.elim
end
section
variable {X:Cx}
noncomputable def gSt(K:W.Frag):HV:=λo i v H Q=>∃m h x y z h',Wd K m h H/\RD K m H x o/\RD K m H y i/\RD K m H z v/\qY x y z h=.ok () h'/\∀m' H',Gr K m H m' H'->Wd K m' h' H'->Q H'
theorem WH(hr:∃k,Room k X.A):OX X (gSt X.K):=by
 intro pins s σ H o i v ov iv u Q I ro ri rv ⟨m,h,x,y,z,h',w,r1,r2,r3,e,c⟩;cases r1<;>first |(cases e;done)|skip
 rename_i n a ha;simp only[qY] at e;split at e
 ·rename_i l el;unfold LF at e;cases r2<;>first |(cases e;done)|skip
  rename_i k;simp only at e;split at e
  ·rename_i j ej;cases e;obtain⟨vs,hv,rvs⟩:∃vs,H a=some (.lst vs)/\RDs X.K m H l vs:=w.ob n _ a el ha;obtain⟨_,w4,g4⟩:=w.lstSet el ha (rvs.set r3 j);exact zQ pins s σ H _ _ v ov iv u Q I ro ri rv ⟨a,vs,k,j,rfl,rfl,hv,by rw[<- rvs.length];exact ej,c m _ g4 w4⟩
  ·cases e
 ·rename_i l el;obtain⟨us,k,q1,rfl,q3,w3,g3⟩:=wG w ha r2 r3 e;cases ro;obtain⟨kk,hr⟩:=hr;have hun:=hr.units
  exact yD (by omega) I (DPut.k q1 (by have:(1000:Nat)<=sizeLine:=by decide
                                       omega)) ri rv λs' I'=>⟨_,I',c m _ g3 w3⟩
 ·rename_i l el;unfold wH at e;cases r2<;>first |(cases e;done)|skip
  rename_i b ds vs hq q;simp only at e;split at e
  ·rename_i k ek;split at e
   ·rename_i hl;cases e;obtain⟨kk,hr⟩:=hr;have hun:=hr.units;cases ro;cases ri;have ev:=nB q ek;subst ev;exact GK (by omega) I w el ha hl hq r3 rv λs' H' I' g' w'=>⟨_,I',c m _ g' w'⟩
   ·cases e
  ·cases e
 ·cases e
end
def SS(N:List Str)(sc:Scope)(G:Gs)(c:S)(e:Stmt):Prop:=∀{X:Cx}{ca:Nat->Addr}{cl:Cl}{W:Nat}{Wx:Ws}{rz:Bool},XOk X N sc->GOk X G ca cl->(∀x,X.fn x=true)->XX X ca Wx rz->(rz=true\/FH c=true)->PS X e (TDS X.K Wx (xs G cl W c))
def eM(N:List Str)(sc:Scope)(G:Gs)(c:Ss)(e:List Stmt):Prop:=∀{X:Cx}{ca:Nat->Addr}{cl:Cl}{W:Nat}{Wx:Ws}{rz:Bool},XOk X N sc->GOk X G ca cl->(∀x,X.fn x=true)->XX X ca Wx rz->(rz=true\/fJ c=true)->PSs X e (TDS X.K Wx (bR G cl W c))
section
variable {N:List Str}{sc:Scope}{G:Gs}
theorem iD{c:Nat}{x y:Str}{np cp0 cp pos:Pos}{j:Nat}(h1:G.excs[c]? =some y)(h:(lE sc y&&cS y)=true):SS N sc G (.rais c x) (.Raise (some (.Call (.Name y np) [.Constant (.str x) j cp0] [] cp)) none pos):=λ{X ca cl W Wx rz} xo go hfn xx hz=>by
 rw[Bool.and_eq_true] at h;obtain⟨h2,h3⟩:=h;have er:rz=true:=hz.elim id λz=>by cases z
 subst er;obtain⟨d1,d2,d3⟩:=cD h3;obtain⟨hm,ef⟩:=go.exc c y h1;refine(AF xx xo.calm (cR xo h2) hm ef d1).wk λZ s H ⟨m,r,hh,w,st,o⟩=>?_;rw[xs] at o;exact o m H s .refl w st
theorem GX{t:Tg}{f:Nat}{l:Es}{tg:Expr}{y:Str}{np pos spos:Pos}{a:Expr}{as:List Expr}(ht:uQ N sc t tg=true)(ae:∀env,(assignEach [tg] env).map (·.2)=[assign tg env])(sw:∀env,swappedStores [tg] (.Call (.Name y np) (a::as) [] pos) env=pure none)(h1:G.fns[f]? =some y)(h:(lE sc y&&cS y)=true)(h_l:uZ N sc G l (a::as)):SS N sc G (.asgX t f l) (.Assign [tg] (.Call (.Name y np) (a::as) [] pos) spos):=λ{X ca cl W Wx rz} xo go hfn xx hz=>by
 rw[Bool.and_eq_true] at h;obtain⟨h2,h3⟩:=h;have pg:=LW xo hfn (t:=t) ht;refine(pR (AX xo go hfn xx h1 h2 h3 h_l) pg rfl (sw X.env) (ae X.env)).wk λZ s H q=>?_;refine TDS.oneX (k:=λr x h=>match cZ t x r with|some r1=>.ok (.nx r1) h|none=>.bad) (λr h=>by rw[xs];cases cJ G cl l r h<;>rfl) q λm2 r h2 H2 dx v w2 st2 rx o=>?_;split at o
 ·rename_i r1 er;exact⟨m2,_,r,dx,r1,w2,st2,rx,er,λs' st'=>o m2 H2 .refl w2 s' st'⟩
 ·exact o.elim
theorem GV{b:Ss}{g:Nat}{j:Option Nat}{hs:List HS}{body:List Stmt}{y:Str}{yp hp pos:Pos}{n:Option Str}{s0:Stmt}{suite:List Stmt}(h1:G.excs[g]? =some y)(hh:(lE sc y&&cS y&&TV N sc j n)=true)(h5:fJ b=true)(h6:HSts N sc G n hs (s0::suite))(h_b:eM N sc G b body):SS N sc G (.tryx b g j hs) (.Try body [.ExceptHandler (some (.Name y yp)) n (s0::suite) hp] [] [] pos):=λ{X ca cl W Wx rz} xo go hfn xx hz=>by
 simp only[Bool.and_eq_true] at hh;obtain⟨⟨h2,h3⟩,h4⟩:=hh;intro pins s σ H Z I ⟨m,r,hh,w,st,o⟩;rw[xs] at o
 let E1:Value->Shared->Prop:=λe1 s1=>wpAny (model X.prog X.w) X.A (noteFrame e1 X.env) (λ_ s2=>wpAny (model X.prog X.w) X.A (setFlight e1 none) (λ_ s3=>wpAny (model X.prog X.w) X.A (handleBy e1 X.env [.ExceptHandler (some (.Name y yp)) n (s0::suite) hp]) (SP X pins Z) X.xe s3) X.xe s2) X.xe s1
 have xo1:XOk (tX X pins E1) N sc:=⟨xo.n,xo.s,xo.calm,xo.nd,xo.room,xo.rng,PassesOwn.looking⟩;have go1:GOk (tX X pins E1) G ca cl:=⟨go.fn,go.cst,go.blt,go.ty,go.exc,go.sub,go.nsub,go.verr,⟨go.c.att,go.c.meth,go.c.new⟩⟩;have xx1:XX (tX X pins E1) ca (Wt X.K Wx Z G g j hs) false:=⟨xx.ex,xx.stk,λpins' σ' H' s' e' c' I' ⟨B,F'⟩ hW=>xD xo go hfn xx h1 h2 h3 h4 h6 (mC I') (LA F') hW,λz=>by cases z⟩;have pb:=h_b (W:=W) xo1 go1 hfn xx1 (.inr h5)
 have q:TDS X.K (Wt X.K Wx Z G g j hs) (bR G cl W b) Z σ H:=by
  refine⟨m,r,hh,w,st,?_⟩;cases ho:bR G cl W b r hh with
  |bad=>rw[ho] at o;exact o
  |ok fl h1=>rw[ho] at o;exact o
  |exc c' r' h1=>
   rw[ho] at o;exact λm' H' s' g w' st'=>⟨m',r',h1,w',st',OutS.mono g o⟩
 refine wpAny_Try_except (wpAny_mono (pb [] s σ H Z (PX I) q) (λf s1 q1=>?_) λe1 s1 q1=>q1);cases f with
 |next=>
  obtain⟨σ1,H1,I1,z⟩:=q1;exact fS pins s1 σ1 H1 Z (mC I1) z
 |brk=>obtain⟨σ1,H1,I1,z⟩:=q1;exact⟨σ1,H1,mC I1,z⟩
 |cont=>obtain⟨σ1,H1,I1,z⟩:=q1;exact⟨σ1,H1,mC I1,z⟩
 |ret u=>obtain⟨v,σ1,H1,I1,rv,z⟩:=q1;exact⟨v,σ1,H1,mC I1,rv,z⟩
theorem aQ{i:Nat}{a:E}{x:Str}{px pos:Pos}{v:Expr}(h1:N[i]? =some x)(h2:iH sc x=true)(h3:iS v=true)(h_a:SE N sc G a v):SS N sc G (.asg (.nm i) a) (.Assign [.Name x px] v pos):=λ{X ca cl W Wx rz} xo go hfn xx hz=>by
 refine(mI (i:=i) xo.nd (by rw[xo.n];exact h1) (by rw[xo.s];exact fV h2) (h_a xo go).1 (hR h3) (.inl (hfn x))).wk λZ s H q=>?_;refine TDS.one (λr h=>by rw[xs]) q λm2 r h2 H2 dx y w2 st2 rx o=>?_;exact o m2 H2 .refl w2 _ (st2.set i rx)
theorem lP{l:List Nat}{a:E}{es:List Expr}{k:Nat}{px pos:Pos}{v:Expr}(h1:oZ N sc l es=true)(h3:iS v=true)(hw:∀env,swappedStores [.Tuple es k px] v env=pure none)(h_a:SE N sc G a v):SS N sc G (.asg (.tp l) a) (.Assign [.Tuple es k px] v pos):=λ{X ca cl W Wx rz} xo go hfn xx hz=>by
 refine(pR (h_a xo go).1 (LW xo hfn (t:=.tp l) (tg:=.Tuple es k px) h1) (kW h3) (hw X.env) rfl).wk λZ s H q=>?_;refine TDS.one (λr h=>by rw[xs]) q λm2 r h2 H2 dx y w2 st2 rx o=>?_;split at o
 ·rename_i r1 er;exact⟨m2,_,r,dx,r1,w2,st2,rx,er,λs' st'=>o m2 H2 .refl w2 s' st'⟩
 ·exact o.elim
theorem qX{X:Cx}(xo:XOk X N sc){y:Str}{py pos:Pos}{scope:Scope}(hk:(sc.kind== .function)=true)(h2:sc.names.lookup y=some .local)(h4:(py.line==pos.line&& !(scope.names.any λ(n,k)=>n==y&&(k== .local||k== .cell)))=true):
 (pure (X.env.blockKind== .function&&X.env.kindOf y==some .local&&py.line==pos.line&& !(scope.names.any λ(n,k)=>n==y&&(k== .local||k== .cell))):Sem Bool)=pure true:=by
 have hb:X.env.blockKind=.function:=by
  unfold Env.blockKind;rw[xo.s,eq_of_beq hk];rfl
 have hy:X.env.kindOf y=some .local:=by show X.env.scope.names.lookup y=_;rw[xo.s];exact h2
 rw[hb,hy];rw[Bool.and_assoc,h4];rfl
theorem NZ{i:Nat}{t:Tg}{k:Ck}{it cs:Es}{e:E}{N':List Str}{cap:List Nat}{elt tg iter:Expr}{ifs:List Expr}{scope:Scope}{y:Str}{py pos spos:Pos}(h1:N[i]? =some y)(hk:(sc.kind== .function)=true)(h2:sc.names.lookup y=some .local)(h4:(py.line==pos.line&& !(scope.names.any λ(n,k)=>n==y&&(k== .local||k== .cell)))=true)
 (B:Blk N sc N' cap scope)(ns:oM iter=true)(ht:fC N' scope t tg=true)(hi:PK N sc G k it iter)(hc:KG N' (cN scope sc) G cs ifs)(he:SE N' (cN scope sc) G e elt)(tk:ED k tg=true:=by rfl):SS N sc G (.asc i (.comp t k it cs e N' cap)) (.Assign [.Name y py] (.ListComp elt [⟨tg,iter,ifs,0⟩] scope pos) spos):=λ{X ca cl W Wx rz} xo go hfn xx hz=>by
 refine(HF (i:=i) xo B.S B.capL B.nN B.fr (sM B ht hc he xo go) ns (DF (cl:=cl) hi tk xo go) h1 h2 (qX xo hk h2 h4)).wk λZ s H q=>?_;refine TDS.one (λr h=>by rw[xs]) q λm2 r h2 H2 dx y w2 st2 rx o=>?_;exact o m2 H2 .refl w2 _ (st2.set i rx)
theorem fA{a:E}{v:Expr}{pos:Pos}(h3:iS v=true)(h_a:SE N sc G a v):SS N sc G (.ex a) (.Expr v pos):=λ{X ca cl W Wx rz} xo go hfn xx hz=>by
 refine(vL (h_a xo go).1 (hR h3)).wk λZ s H q=>?_;refine TDS.one (λr h=>by rw[xs]) q λm2 r h2 H2 dx y w2 st2 rx o=>?_;exact o m2 H2 .refl w2 _ st2
theorem aU{a:E}{v:Expr}{pos:Pos}(h_a:SE N sc G a v):SS N sc G (.ret a) (.Return (some v) pos):=λ{X ca cl W Wx rz} xo go hfn xx hz=>by
 refine(LP (h_a xo go).1).wk λZ s H q=>?_;refine TDS.one (λr h=>by rw[xs]) q λm2 r h2 H2 dx y w2 st2 rx o=>?_;exact o m2 H2 .refl w2 _ rx
theorem aZ{a:E}{b1 b2:Ss}{t:Expr}{x y:List Stmt}{pos:Pos}(h_a:SE N sc G a t)(h_b1:eM N sc G b1 x)(h_b2:eM N sc G b2 y):SS N sc G (.iff a b1 b2) (.If t x y pos):=λ{X ca cl W Wx rz} xo go hfn xx hz=>by
 have hz':(rz=true\/fJ b1=true)/\(rz=true\/fJ b2=true):=by
  rcases hz with z|z
  ·exact⟨.inl z,.inl z⟩
  ·have z':(fJ b1&&fJ b2)=true:=z;rw[Bool.and_eq_true] at z';exact⟨.inr z'.1,.inr z'.2⟩
 refine(AG ((h_a xo go).2) (h_b1 (W:=W) xo go hfn xx hz'.1) (h_b2 (W:=W) xo go hfn xx hz'.2)).wk λZ s H ⟨m,r,hh,w,st,o⟩=>?_;rw[xs] at o;obtain⟨dx,h1,e0,o⟩:=o.nx;split at o
 ·rename_i et;exact⟨m,r,hh,dx,h1,true,w,st,e0,et,λm' H' g w'=>nX ⟨m',r,h1,w',st.mono g,o.mono g⟩⟩
 ·rename_i et;exact⟨m,r,hh,dx,h1,false,w,st,e0,et,λm' H' g w'=>nY ⟨m',r,h1,w',st.mono g,o.mono g⟩⟩
 ·exact o.elim
theorem qH{t:Tg}{a:E}{b:Ss}{tg y:Expr}{x:List Stmt}{p pos' pos:Pos}(h1:uQ N sc t tg=true)(h6:lE sc "range"=true)(h7:dQ y=true)(h_a:SE N sc G a y)(h_b:eM N sc G b x):SS N sc G (.forr t (.r1 a) b) (.For tg (.Call (.Name "range" p) [y] [] pos') x [] pos):=λ{X ca cl W Wx rz} xo go hfn xx hz=>by
 have hs:∀z,foldedSetIterable (.Call (.Name "range" p) [y] [] pos') X.env z=pure z:=λz=>rfl;have hA:PA X [y] (jN (TDE X.K (ev G cl a)) mD):=eR (h_a xo go).1 iQ (aW [] h7);refine(pQ xo.po xo.calm (xK (cR xo h6) xo.rng hA (aW [] h7)) (LW xo hfn h1) (h_b (W:=W) xo go hfn xx hz) hs).wk λZ s H q=>?_;refine TDS.one (λr h=>by rw[xs]) q λm2 r h2 H2 dx y w2 st2 rx o=>?_;cases rx<;>first |exact o.elim|skip
 rename_i j;simp only at o;split at o
 ·rename_i ho;refine⟨j,rfl,ho.1,ho.2,?_⟩;have:=BR (lo:=0) (hi:=j) w2 st2 o;simpa using this
 ·exact o.elim
theorem wK{t:Tg}{a:E}{b:Ss}{tg it:Expr}{x:List Stmt}{pos:Pos}(h1:uQ N sc t tg=true)(hs':∀env z,foldedSetIterable it env z=pure z)(h_a:SE N sc G a it)(h_b:eM N sc G b x):SS N sc G (.forr t (.sq a) b) (.For tg it x [] pos):=λ{X ca cl W Wx rz} xo go hfn xx hz=>by
 have hs:=hs' X.env;have hp:=(h_a xo go).1;have p1:=pQ xo.po xo.calm (pT hp) (LW xo hfn h1) (h_b (W:=W) xo go hfn xx hz) hs (pos:=pos);have p2:=pQ xo.po xo.calm (AK hp) (LW xo hfn h1) (h_b (W:=W) xo go hfn xx hz) hs (pos:=pos);intro pins s σ H Z I ⟨m,r,hh,w,st,o⟩;rw[xs] at o;obtain⟨dx,h5,e0,o⟩:=o.nx;have mk:∀(R:VK),(∀(m2:List Addr)(H2:Hp)(y:V),Gr X.K m H m2 H2->Wd X.K m2 h5 H2->RD X.K m2 H2 dx y->R y H2)->TDE X.K (ev G cl a) σ H R:=λR k=>⟨m,r,hh,dx,h5,w,st,e0,λm2 y H2 g2 w2 ry=>k m2 H2 y g2 w2 ry⟩;cases dx<;>first |exact o.elim|skip
 ·refine p2 pins s σ H Z I (mk _ λm2 H2 y g2 w2 ry=>?_);cases ry with
  |tup hq q'=>exact⟨_,rfl,⟨_,hq⟩,BQ w2 (st.mono g2) hq q' (OutS.mono g2 o)⟩
 ·rename_i n;refine p1 pins s σ H Z I (mk _ λm2 H2 y g2 w2 ry=>?_);cases ry with
  |ref ha=>
   have hl:∃l,aI h5 n=some l:=by
    cases W with
    |zero=>exact o.elim
    |succ k=>
     simp only[BV,gJ] at o;split at o
     ·exact o.elim
     ·rename_i l el;exact⟨l,el⟩
   obtain⟨l,hl⟩:=hl;obtain⟨a',vs,ha',hq,_⟩:=w2.lst hl;rw[ha] at ha';cases ha';exact⟨_,rfl,⟨_,hq⟩,BS (W:=W) w2 (st.mono g2) ha (OutS.mono g2 o)⟩
theorem CO{a:E}{b:Ss}{t:Expr}{x:List Stmt}{pos:Pos}(h_a:SE N sc G a t)(h_b:eM N sc G b x):SS N sc G (.whl a b) (.While t x [] pos):=λ{X ca cl W Wx rz} xo go hfn xx hz=>by
 refine(AE xo.po (h_a xo go).2 (h_b (W:=W) xo go hfn xx hz)).wk λZ s H ⟨m,r,hh,w,st,o⟩=>?_;rw[xs] at o;exact KR w st o
def HW(o i:Expr)(pos:Pos):Prop:=∀(env:Env)(v:Value),assign (.Subscript o i pos) env v=(do
 let ov <- holding [v] (eval o env)
 let iv <- holding [v,ov] (eval i env)
 standAt pos
 holding [v,ov,iv] (setItem ov iv v)
 release [v,ov,iv] [])
theorem qG{o i a:E}{x y v:Expr}{px pos:Pos}(h1:iS v=true)(hy:HW x y px)(h_a:SE N sc G a v)(h_o:SE N sc G o x)(h_i:SE N sc G i y):SS N sc G (.stx o i a) (.Assign [.Subscript x y px] v pos):=λ{X ca cl W Wx rz} xo go hfn xx hz=>by
 refine(pR ((h_a xo go).1) (LU ((h_o xo go).1) ((h_i xo go).1) (WH xo.room) (λv=>hy X.env v)) (kW h1) rfl rfl).wk λZ s H q=>?_;refine TDS.one (λr h=>by rw[xs]) q λm2 r h2 H2 dz z w2 st2 rdz o=>?_;obtain⟨dx,h6,e6,o⟩:=o.nx;obtain⟨dy,h7,e7,o⟩:=o.nx;obtain⟨_,h8,e8,o⟩:=o.nx;exact⟨m2,r,h2,dx,h6,w2,st2,e6,λm3 x' H3 g3 w3 rx=>⟨m3,r,h6,dy,h7,w3,st2.mono g3,e7,λm4 y' H4 g4 w4 ry=>⟨m4,h7,dx,dy,dz,h8,w4,rx.mono g4,ry,rdz.mono (g3.trans g4),e8,λm5 H5 g5 w5=>o m5 H5 ((g3.trans g4).trans g5) w5 s (st2.mono ((g3.trans g4).trans g5))⟩⟩⟩
theorem aD:eM N sc G .nil []:=λ{X ca cl W Wx rz} xo go hfn xx hz=>(fS).wk λZ s H ⟨m,r,hh,w,st,o⟩=>by
 rw[bR] at o;exact o m H .refl w s st
theorem GO{a:S}{l:Ss}{x:Stmt}{xs':List Stmt}(h_a:SS N sc G a x)(h_l:eM N sc G l xs'):eM N sc G (.cons a l) (x::xs'):=λ{X ca cl W Wx rz} xo go hfn xx hz=>by
 have hz':(rz=true\/FH a=true)/\(rz=true\/fJ l=true):=by
  rcases hz with z|z
  ·exact⟨.inl z,.inl z⟩
  ·have z':(FH a&&fJ l)=true:=z;rw[Bool.and_eq_true] at z';exact⟨.inr z'.1,.inr z'.2⟩
 refine(jQ (h_a (W:=W) xo go hfn xx hz'.1) (h_l (W:=W) xo go hfn xx hz'.2)).wk λZ s H ⟨m,r,hh,w,st,o⟩=>?_;rw[bR] at o;refine⟨m,r,hh,w,st,?_⟩;cases ho:xs G cl W a r hh with
 |bad=>rw[ho] at o;exact o
 |exc c rr h1=>rw[ho] at o;exact o
 |ok f h1=>
  rw[ho] at o;intro m1 H1 g1 w1;have o':=OutS.mono g1 o;cases f with
  |nx r2=>exact λs' st'=>⟨m1,r2,h1,w1,st',o'⟩
  |rt d=>exact o' m1 H1 .refl w1
  |bk r2=>exact o' m1 H1 .refl w1
  |ct r2=>exact o' m1 H1 .refl w1
end
section
variable {N:List Str}{sc:Scope}{G:Gs}
theorem mT{K:W.Frag}{m:List Addr}{H:Hp}{f:Str}:∀{fs:List (Str×D)}{us:List (Str×V)},fs.map (·.1)=us.map (·.1)->RDs K m H (fs.map (·.2)) (us.map (·.2))->(∀d,fs.lookup f=some d->∃v,us.lookup f=some v/\RD K m H d v)/\(fs.lookup f=none->us.lookup f=none)
 | [],[],_,_=>⟨λd e=>(nomatch e),λ_=>rfl⟩
 |(k,d)::fs,(k',v)::us,h,r=>by
  obtain⟨h1,h2⟩:=List.cons.inj (show k::fs.map (·.1)=k'::us.map (·.1) from h);subst h1;cases r with
  |cons r1 r=>
   obtain⟨i1,i2⟩:=mT h2 r;simp only[List.lookup_cons];cases f==k with
   |true=>exact⟨λd' e=>by cases e;exact⟨v,rfl,r1⟩,λe=>(nomatch e)⟩
   |false=>exact⟨i1,i2⟩
 | [],_::_,h,_=>by cases h
 |_::_,[],h,_=>by cases h
theorem bB{o:E}{cn f:Str}{e:Expr}{pos:Pos}(hG:(cn,f)∈G.atts)(hb:∀env:Env,attributeBase e f env (eval e env)=eval e env)(h_o:SE N sc G o e):SE N sc G (.att o cn f) (.Attribute e f pos):=λ{X ca cl} xo go=>by
 obtain⟨C,hC,cls,na⟩:=go.c.att _ hG
 have p:PE X (.Attribute e f pos) (TDE X.K (ev G cl (.att o cn f))):=(MC (h_o xo go).1 (hb X.env)).wk λs H Q q=>by
  refine TDE.one (λr h=>by simp only[ev];rfl) q λm m2 r d h2 h' H2 dx v st g w2 st2 rx e c=>?_;cases rx<;>first |(cases e;done)|skip
  rename_i n a ha;simp only[DR] at e;split at e<;>first |(cases e;done)|skip
  rename_i c0 fs el;split at e<;>first |(cases e;done)|skip
  rename_i ec;subst ec;obtain⟨C',dx',us,q1,q2,q3,q4⟩:RO X.K m2 H2 a (.ins c0 fs):=w2.ob n _ a el ha;have hC':W.nsIn X.K mainGlobals c0=some (some (.ref C)):=hC;rw[q1] at hC';cases hC';split at e<;>first |(cases e;done)|skip
  rename_i d0 ed;cases e;obtain⟨v,hv,rv⟩:=(mT q3 q4).1 _ ed;exact⟨a,_,dx',us,v,rfl,q2,cls,na,hv,c m2 v H2 Gr.refl w2 rv⟩
 exact⟨p,hE p λ_=>rfl⟩
def VM(e:Expr)(m:Str)(ap cp:Pos)(args:List Expr):Prop:=∀env:Env,∃pl:Sem Bool,eval (.Call (.Attribute e m ap) args [] cp) env=(do
 let ov <- eval e env
 standAt ap.atName
 let(f,first) <- holding [ov] (getMethod ov m pl)
 callWith cp f first (backTo cp (starEach args env)) (backToKw cp (keywordEach [] env)))
theorem tO{X:Cx}{m2:List Addr}{h2:Hh}{H2:Hp}{x:D}{v:V}{cn mt:Str}{C:Addr}(w2:Wd X.K m2 h2 H2)(rx:RD X.K m2 H2 x v)(hC:W.nsIn X.K mainGlobals cn=some (some (.ref C)))(e:fK x cn mt h2=true):∃a dx us,v=.ref a/\H2 a=some (.ins C dx us)/\us.lookup mt=none:=by
 cases rx<;>first |(cases e;done)|skip
 rename_i n a ha;simp only[fK] at e;split at e<;>first |(cases e;done)|skip
 rename_i c0 fs el;rw[Bool.and_eq_true,decide_eq_true_eq] at e;obtain⟨rfl,e⟩:=e;obtain⟨C',dx',us,q1,q2,q3,q4⟩:RO X.K m2 H2 a (.ins c0 fs):=w2.ob n _ a el ha;rw[q1] at hC;cases hC;exact⟨a,dx',us,rfl,q2,(mT q3 q4).2 (Option.isNone_iff_eq_none.mp e)⟩
theorem iZ{o:E}{cn mt:Str}{f:Nat}{l:Es}{e y:Expr}{ys:List Expr}{ap cp:Pos}(hG:(cn,mt,f)∈G.meths)(ht:VM e mt ap cp (y::ys))(h_o:SE N sc G o e)(h_l:uZ N sc G l (y::ys)):SE N sc G (.mth o cn mt f l) (.Call (.Attribute e mt ap) (y::ys) [] cp):=λ{X ca cl} xo go=>by
 obtain⟨C,fa,fd,ps,k,hC,cls,hm,F,hr,hb,hlen⟩:=go.c.meth _ hG;have hns:=h_l.1;rw[List.all_cons,Bool.and_eq_true] at hns;obtain⟨pl,ht⟩:=ht X.env
 have p:PE X (.Call (.Attribute e mt ap) (y::ys) [] cp) (TDE X.K (ev G cl (.mth o cn mt f l))):=(EV (h_o xo go).1 cls hm F hr hb .nil oJ (h_l.2 xo go) (aW ys hns.1) (dE cp hns.2) ht).wk λs H Q q=>by
  refine TDE.one (k:=λr x h=>if fK x cn mt h=true then(cJ G cl l r h).bind λds h=>(cl f (x::ds) h).nx else .bad) (λr h=>by simp only[ev]) q λm m2 r d h2 h' H2 dx v st g w2 st2 rx e c=>?_;split at e<;>first |(cases e;done)|skip
  rename_i hmt;obtain⟨a,dx',us,rfl,q2,q3⟩:=tO w2 rx hC hmt;obtain⟨ds,h3,e3,e⟩:=Rs.bind_ok e;have e:=Rs.nx_ok e;refine⟨a,dx',us,rfl,q2,q3,m2,r,h2,ds,h3,w2,st2,e3,λm' vs H' g' w' rd=>?_⟩;show tE X.K ca (cl f) ps.length (V.ref a::(vs++ [])) H' Q E0;rw[Zm];have rd':=RDs.cons (rx.mono g') rd;exact⟨by rw[<- rd'.length];exact hlen _ _ (by rw[e];exact λz=>nomatch z),m',h3,dx::ds,w',rd',by rw[e];exact λm2 v H2 g2=>c m2 v H2 (g'.trans g2)⟩
 exact⟨p,hE p λ_=>rfl⟩
theorem lQ{o:E}{cn mt:Str}{f:Nat}{e:Expr}{ap cp:Pos}(hG:(cn,mt,f)∈G.meths)(ht:VM e mt ap cp [])(h_o:SE N sc G o e):SE N sc G (.mth o cn mt f .nil) (.Call (.Attribute e mt ap) [] [] cp):=λ{X ca cl} xo go=>by
 obtain⟨C,fa,fd,ps,k,hC,cls,hm,F,hr,hb,hlen⟩:=go.c.meth _ hG;obtain⟨pl,ht⟩:=ht X.env
 have p:PE X (.Call (.Attribute e mt ap) [] [] cp) (TDE X.K (ev G cl (.mth o cn mt f .nil))):=(AQ (h_o xo go).1 cls hm F hr hb .nil oJ ht).wk λs H Q q=>by
  refine TDE.one (k:=λr x h=>if fK x cn mt h=true then(cJ G cl .nil r h).bind λds h=>(cl f (x::ds) h).nx else .bad) (λr h=>by simp only[ev]) q λm m2 r d h2 h' H2 dx v st g w2 st2 rx e c=>?_;split at e<;>first |(cases e;done)|skip
  rename_i hmt;obtain⟨a,dx',us,rfl,q2,q3⟩:=tO w2 rx hC hmt;obtain⟨ds,h3,e3,e⟩:=Rs.bind_ok e;have e:=Rs.nx_ok e;simp only[cJ] at e3;cases e3;refine⟨a,dx',us,rfl,q2,q3,?_⟩;show tE X.K ca (cl f) ps.length [V.ref a] H2 Q E0;have rd':=RDs.cons rx .nil;exact⟨by rw[<- rd'.length];exact hlen _ _ (by rw[e];exact λz=>nomatch z),m2,h2,[dx],w2,rd',by rw[e];exact λm2 v H2 g2=>c m2 v H2 g2⟩
 exact⟨p,hE p λ_=>rfl⟩
theorem uO{cn:Str}{f:Nat}{l:Es}{y:Expr}{ys:List Expr}{np pos:Pos}(hG:(cn,f)∈G.news)(h:(lE sc cn&&cS cn)=true)(h_l:uZ N sc G l (y::ys)):SE N sc G (.new cn f l) (.Call (.Name cn np) (y::ys) [] pos):=λ{X ca cl} xo go=>by
 rw[Bool.and_eq_true] at h;obtain⟨h2,h3⟩:=h;obtain⟨d1,d2,d3⟩:=cD h3;obtain⟨C,fa,fd,ps,k,hC,hmg,M,F,hr,hb,hlen⟩:=go.c.new _ hG;have hns:=h_l.1;rw[List.all_cons,Bool.and_eq_true] at hns
 have p:PE X (.Call (.Name cn np) (y::ys) [] pos) (TDE X.K (ev G cl (.new cn f l))):=(EW M F hr (cR xo h2) hmg hb .nil oJ (h_l.2 xo go) d1 (aW ys hns.1) (dE pos hns.2)).wk λs H Q ⟨m,r,hh,d,h',w,st,e1,c⟩=>by
  simp only[ev] at e1;obtain⟨ds,h1,e0,e1⟩:=Rs.bind_ok e1;have e1:=Rs.nx_ok e1;unfold jS at e1;obtain⟨d',h2,e2,e1⟩:=Rs.bind_ok e1;cases d'<;>first |(cases e1;done)|skip
  cases e1;refine⟨m,r,hh,ds,h1,w,st,e0,λm' vs H' g w' rd x dx hx hdx ne=>?_⟩;have w2:=w'.keepNew (o:=.own x) hdx;have g2:Gr X.K m' H' m' (bI H' dx (.own x)):=Gr.tupNew hdx;have hx2:(bI H' dx (.own x)) x=none:=by rw[aK (Ne.symm ne)];exact hx
  obtain⟨w3,g3⟩:=w2.objNew (o:=.ins cn []) (u:=.ins C dx []) hx2 λ_=>⟨C,dx,[],hC,aS,rfl,.nil⟩;have hr0:(m'++ [x])[h1.length]? =some x:=by rw[<- w'.len];simp
  show tE X.K ca (cl f) ps.length (V.ref x::(vs++ [])) _ _ E0;rw[Zm];have rd':=RDs.cons (RD.ref (K:=X.K) (H:=bI (bI H' dx (.own x)) x (.ins C dx [])) hr0) ((rd.mono g2).mono g3)
  exact⟨by rw[<- rd'.length];exact hlen _ _ (by rw[e2];exact λz=>nomatch z),m'++ [x],h1++ [.ins cn []],.ref h1.length::ds,w3,rd',by
   rw[e2]
   exact λm4 v H4 g4 w4 rv=>by
    cases rv;exact⟨rfl,c m4 _ H4 (((g.trans g2).trans g3).trans g4) w4 (.ref (g4.pre _ _ hr0))⟩⟩
 exact⟨p,hE p λ_=>rfl⟩
theorem CP{a b:E}{x y:Expr}{p2 pos:Pos}(h_a:SE N sc G a x)(h_b:SE N sc G b y):SE N sc G (.slT a b) (.Subscript x (.Slice none (some y) none p2) pos):=λ{X ca cl} xo go=>by
 have p:PE X (.Subscript x (.Slice none (some y) none p2) pos) (TDE X.K (ev G cl (.slT a b))):=(mK LJ (h_a xo go).1 vM (jR (h_b xo go).1)).wk λs H Q q=>by
  obtain⟨m,r,h,d,h',w,st,e,c⟩:=q;rw[ev] at e;refine TDE.two w st e λm2 H2 h2 dx dy x y g w2 rx ry e=>?_;unfold EI at e;split at e<;>first |(cases e;done)|skip
  rename_i l i;split at e<;>first |(cases e;done)|skip
  rename_i hi;cases e;cases ry;cases rx with
  | @tup a' _ vs hq q=>
    have lq:=q.length;refine⟨i,rfl,a',vs,rfl,hq,λz=>?_,λk hk=>?_⟩
    ·have:HT.sIx vs.length vs.length (some i)=min i.toNat vs.length:=by
      show(if i<0 then _ else _)=_
      rw[if_neg (by omega)]
     omega
    ·have e1:nO vs none (some i)=vs.take i.toNat:=DA vs i hi.1;rw[e1];have gt:=Gr.tupNew (K:=X.K) (m:=m2) (o:=.tup (vs.take i.toNat)) hk;exact c _ _ _ (g.trans gt) (w2.keepNew hk) (.tup (.of aS) ((q.take i.toNat).mono gt))
 exact⟨p,hE p λ_=>rfl⟩
theorem jA{op op':Cop}{a b cc:E}{x y z:Expr}{pos:Pos}(hm:lastMarks [op.op,op'.op] [y,z]=false)(h_a:SE N sc G a x)(h_b:SE N sc G b y)(h_c:SE N sc G cc z):SE N sc G (.chn op op' a b cc) (.Compare x [op.op,op'.op] [y,z] pos):=λ{X ca cl} xo go=>by
 have im:∀s H (Q:VK) m r hh d h',Wd X.K m hh H->RSt X.K m H r s->ev G cl (.chn op op' a b cc) r hh=.ok d h'->(∀m' v H',Gr X.K m H m' H'->Wd X.K m' h' H'->RD X.K m' H' d v->Q v H')->tD (rD X.K (cG op)) (rD X.K (cG op')) (TDE X.K (ev G cl a)) (TDE X.K (ev G cl b)) (TDE X.K (ev G cl cc)) s H Q:=by
  intro s H Q m r hh d h' w st e c;simp only[ev] at e
  refine TDE.two (k:=λx y h=>(cG op x y h).bind λp h=>match p with
   |.bl true=>(ev G cl cc r h).bind λz h=>cG op' y z h
   |.bl false=>.ok (.bl false) h
   |_=>.bad) w st e λm2 H2 h2 dx dy x y g w2 rx ry e=>?_
  obtain⟨p,h3,e3,e⟩:=Rs.bind_ok e;obtain⟨k,rfl⟩:=lR e3;refine⟨m2,h2,dx,dy,_,h3,w2,rx,ry,e3,λm4 v H4 g4 w4 rv=>?_⟩;cases rv;refine⟨k,rfl,?_⟩;cases k with
  |false=>
   cases e;exact c m4 _ H4 (g.trans g4) w4 (.bl _)
  |true=>
   obtain⟨z,h5,e5,e⟩:=Rs.bind_ok (show((ev G cl cc r h3).bind λz h=>cG op' dy z h)=.ok d h' from e);exact⟨m4,r,h3,z,h5,w4,st.mono (g.trans g4),e5,λm5 v5 H5 g5 w5 r5=>⟨m5,h5,dy,z,d,h',w5,(ry.mono g4).mono g5,r5,e,λm6 v6 H6 g6 w6 r6=>c m6 v6 H6 (((g.trans g4).trans g5).trans g6) w6 r6⟩⟩
 have bl:∀{r hh d h'},ev G cl (.chn op op' a b cc) r hh=.ok d h'->∃k,d=.bl k:=by
  intro r hh d h' e;simp only[ev] at e;obtain⟨_,_,_,e⟩:=Rs.bind_ok e;obtain⟨_,_,_,e⟩:=Rs.bind_ok e;obtain⟨p,_,e3,e⟩:=Rs.bind_ok e;obtain⟨k,rfl⟩:=lR e3;cases k with
  |false=>cases e;exact⟨_,rfl⟩
  |true=>
   obtain⟨_,_,_,e⟩:=Rs.bind_ok e;exact lR e
 refine⟨(AW (oK xo.room op) (oK xo.room op') (h_a xo go).1 (h_b xo go).1 (h_c xo go).1 hm).wk λs H Q ⟨m,r,hh,d,h',w,st,e,c⟩=>im s H Q m r hh d h' w st e c,?_⟩;refine(AC (oK xo.room op) (oK xo.room op') (h_a xo go).1 (h_b xo go).1 (h_c xo go).1 hm).wk λs H Q ⟨m,r,hh,d,h',k,w,st,e,ek,c⟩=>im s H _ m r hh d h' w st e λm' v H' g w' rd=>?_;obtain⟨k',rfl⟩:=bl e;cases rd;have ek':k'=k:=Zg ek;subst ek';exact⟨k',rfl,c m' H' g w'⟩
theorem RDs.rev{K:W.Frag}{m:List Addr}{H:Hp}:∀{ds:List D}{vs:List V},RDs K m H ds vs->RDs K m H ds.reverse vs.reverse
 |_,_,.nil=>.nil
 |_,_,.cons r rs=>by
  rw[List.reverse_cons,List.reverse_cons];exact(RDs.rev rs).append (.cons r .nil)
end
noncomputable def Itc(x:Str):It:=⟨λi _=>i<x.cps.size,λi H y H'=>H'=H/\∃c,x.cps[i]? =some c/\y=.str ⟨#[c]⟩,λi _=>x.cps.size<=i⟩
theorem zE{P:Program}{w:World}{K:PySem.W.Frag}{tg:Expr}{x:Str}{t:Tok}{T:String}{it:Addr}(hn: ["enumerate","zip","dict_itemiterator","dict_reverseitemiterator","odict_iterator","itertools.zip_longest","itertools.pairwise"].contains T=false)
 (W:∀A':Around,A'.handled=none->Walks P w A' it [it] [it] x.cps.size (SignAt x) (λi h=>h.IsStrIter it T x t i))(hs:∀(A:Around)(i:Nat)(s:Shared)(Q:Value->Shared->Prop)(E:Value->Shared->Prop),s.heap.IsStrIter it T x t i->Q (.ref it) s->wpAny (model P w) A (pyIter (.ref it)) Q E s):
 Turn P w K tg (Itc x) [it] it (λi h=>i<=x.cps.size/\h.IsStrIter it T x t i) where
 mem:=by simp
 obj:=λi h st b hb=>by
  have e:b=it:=by simpa using hb
  subst e;obtain⟨_,o,e,c,d⟩:=st;exact⟨o,e,λv z=>by rw[d] at z;cases z⟩
 keep:=λi h h' st k=>⟨st.1,let⟨o,e,r⟩:=st.2;⟨o,k it (by simp) o e,r⟩⟩
 item:=by
  intro X hP hw hK hc i pins s σ H E I hf st hg;subst hP hw hK;obtain⟨f0,f1,f2,f3,f4,f5⟩:=hf it (by simp);refine(W X.A (I.ok.hd hc)).item i s _ _ hg st.2 λv h' tk hv st' kk=>?_;obtain⟨c,u,h1,rfl⟩:=hv;have I1:Inv X pins σ H {s with heap:=h',toks:=tk}:=I.turned (λb o hb e=>kk b o (by simpa using hb) e) f0 f1 f3 f4 f5;obtain⟨o,e1,e2,e3⟩:=id st';exact⟨_,rfl,vV (s:={s with heap:=h',toks:=tk}) (n:=T) e1 e2 e3 hn ⟨.str ⟨#[c]⟩,H,I1,⟨u,rfl⟩,⟨rfl,c,h1,rfl⟩,⟨hg,st'⟩,λb hb=>(hf b hb).1⟩⟩
 done:=by
  intro X hP hw hK hc i pins s σ H E I hf st hg;subst hP hw hK;obtain⟨f0,f1,f2,f3,f4,f5⟩:=hf it (by simp);obtain⟨s1,s2⟩:=st;have ei:i=x.cps.size:=Nat.le_antisymm s1 hg;subst ei;exact(W X.A (I.ok.hd hc)).done s _ _ s2 λh' tk eb=>⟨rfl,I.turned (t':=tk) (λb o hb e=>eb b o (by simpa using hb) e) f0 f1 f3 f4 f5⟩
 self:=λA i s Q E st h=>hs A i s Q E st.2 h
section
variable {N:List Str}{sc:Scope}{G:Gs}
theorem RU{a:E}{x:Expr}(ha:SE N sc G a x):PK N sc G .st (.cons a .nil) x:=λ{X ca cl} xo go {t tg ft fe N' cap} tk pins s σ H m r h xs h1 h' I w st e1 e3=>by
 have hp:=(ha xo go).1;rw[cJ] at e1;obtain⟨x,h5,ex,e1⟩:=Rs.bind_ok e1;rw[cJ] at e1;obtain⟨_,_,e4,e1⟩:=Rs.bind_ok e1;cases e4;cases e1;obtain⟨y,rfl⟩:∃y,x=.str y:=by cases x<;>first |exact⟨_,rfl⟩|(cases e3;done)
 unfold iM at e3;dsimp only at e3;split at e3<;>first |(cases e3;done)|skip
 refine bM (hp pins s σ H (λv H'=>∃m',Gr X.K m H m' H'/\Wd X.K m' h1 H'/\RD X.K m' H' (.str y) v) I ⟨m,r,h,_,_,w,st,ex,λm' v H' g w' rv=>⟨m',g,w',rv⟩⟩) λu s1 ⟨v,H1,I1,rv,m1,g1,w1,rd⟩=>?_;cases rd;obtain⟨tt,rfl⟩:=rv
 have tl:iN X.K t ft fe h1.length h' (Itc y) m1 H1 (aT N' cap r) (h1++ [.lst []]):=by
  refine jM e3 (λi d m H g ed=>?_) λi m H g hi=>?_
  ·rw[Zi,Option.map_eq_some_iff] at ed;obtain⟨c,ec,rfl⟩:=ed;have ec':y.cps[i]? =some c:=by rw[<- Array.getElem?_toList];exact ec
   refine⟨(Array.getElem?_eq_some_iff.mp ec').1,λz H' ⟨q1,c',q2,q3⟩=>?_⟩;rw[ec'] at q2;cases q2;subst q3;exact⟨q1,.str _⟩
  ·rw[Zc,Array.length_toList] at hi;exact hi
 have fin:∀(T:String)(o:Obj),o.cls=.type T->o.data=.fields #[.str y tt,.int 0 0]->o.isFreed=false->["enumerate","zip","dict_itemiterator","dict_reverseitemiterator","odict_iterator","itertools.zip_longest","itertools.pairwise"].contains T=false->
  (∀A':Around,A'.handled=none->Walks X.prog X.w A' s1.heap.objs.size [s1.heap.objs.size] [s1.heap.objs.size] y.cps.size (SignAt y) (λi h=>h.IsStrIter s1.heap.objs.size T y tt i))->(∀(A:Around)(i:Nat)(s:Shared)(Q:Value->Shared->Prop)(E:Value->Shared->Prop),s.heap.IsStrIter s1.heap.objs.size T y tt i->Q (.ref s1.heap.objs.size) s->wpAny (model X.prog X.w) A (pyIter (.ref s1.heap.objs.size)) Q E s)->
  HX X pins σ tg (λJ H2=>∃(m2:List Addr)(h2:Hh),h2.length=h1.length/\Gr X.K m H m2 H2/\Wd X.K m2 h2 H2/\iN X.K t ft fe h2.length h' J m2 H2 (aT N' cap r) (h2++ [.lst []])) (.ref s1.heap.objs.size) {s1 with heap:=s1.heap.push o}:=λT o o1 o2 of hn W hs=>by
  refine⟨s1.heap.objs.size,[s1.heap.objs.size],_,_,H1,rfl,I1.kept (t':=s1.toks) λb o e=>Zf _ e,zE hn W hs,⟨Nat.zero_le _,o,Heap.get?_push_size _ of,o1,o2⟩,λb hb=>?_,m1,h1,rfl,g1,w1,tl⟩;have e:b=s1.heap.objs.size:=by simpa using hb
  subst e;exact I1.fpOk (Zn _) (I1.hok.fresh (Zn _))
 cases hal:y.cps.all (·<128)
 ·exact wpAny_pyIter_wide hal (fin "str_iterator" _ rfl rfl rfl (by decide) (λA' hA=>Walks.strWide hA _ y tt) λA i s Q E st h=>wpAny_pyIter_striter_wide st h)
 ·exact wpAny_pyIter_ascii hal (fin "str_ascii_iterator" _ rfl rfl rfl (by decide) (λA' hA=>Walks.strAscii hA _ y tt) λA i s Q E st h=>wpAny_pyIter_striter_ascii st h)
theorem BG{a:E}{ox:Expr}{ap cp:Pos}(hb:∀env:Env,attributeBase ox "items" env (eval ox env)=eval ox env)(h2:(ap.endLine==cp.line)=true)(ha:SE N sc G a ox):PK N sc G .itf (.cons a .nil) (.Call (.Attribute ox "items" ap) [] [] cp):=λ{X ca cl} xo go {t tg ft fe N' cap} tk pins s σ H m r h xs h1 h' I w st e1 e3=>by
 have hp:=(ha xo go).1;rw[cJ] at e1;obtain⟨x,h5,ex,e1⟩:=Rs.bind_ok e1;rw[cJ] at e1;obtain⟨_,_,e4,e1⟩:=Rs.bind_ok e1;cases e4;cases e1;obtain⟨n,rfl⟩:∃n,x=.ref n:=by cases x<;>first |exact⟨_,rfl⟩|(cases e3;done)
 unfold iM at e3;dsimp only at e3;split at e3
 ·rename_i l el;cases tg<;>first |(cases tk;done)|skip
  rename_i elts j tp;refine wpAny_Call_method0_late (hb X.env) h2 (bM (hp pins s σ H (λv H'=>∃m',Gr X.K m H m' H'/\Wd X.K m' h1 H'/\RD X.K m' H' (.ref n) v) I ⟨m,r,h,_,_,w,st,ex,λm' v H' g w' rv=>⟨m',g,w',rv⟩⟩) λu s1 ⟨v,H1,I1,rv,m1,g1,w1,rd⟩=>?_);have el':eY h1 (.ref n)=some l:=by simp only[eY,el]
  obtain⟨n',d,xs,us,o,es,ep,en,rfl,_,hd,x1,x2,go',x3,x4,x5,x6,_⟩:=qF I1 w1 rd el';obtain rfl:u=Value.ref d:=rv;obtain⟨d1,d2,d4,d5,⟨P0,w0,d6⟩,d7⟩:=id x2;have ty:s1.TypeIs (.ref d) "dict":=⟨o,go',d4.1⟩;refine⟨"dict","dict.items",PySem.F.plainAttrs_dict,PySem.F.slot_dict_items,PySem.F.type_dict_items,ty,λb q=>by cases q;exact⟨o,go',d4.2.1⟩,Calls.callWith_builtin rfl (PySem.evalArgs_none ?_)⟩;refine call_meetsIn PySem.F.slot_dict_items ty PySem.F.entry_dict_items (PySem.F.args_dict_items_1 _) (kX d d1) ⟨ty,?_⟩;have k1:∀b u,s1.heap.get? b=some u->(s1.heap.push {cls:=.type "dict_items",data:=.fields #[.ref d]}).get? b=some u:=λb u q=>Zf _ q;have I2:=I1.kept (t':=s1.toks) k1;refine rY (ov:={cls:=.type "dict_items",data:=.fields #[.ref d]}) (od:=o) (es:=es) (ep:=ep) (Heap.get?_push_size _ rfl) rfl rfl (k1 _ _ go') d5 ?_;generalize hs2:(s1.heap.push {cls:=.type "dict_items",data:=.fields #[.ref d]})=g2 at I2 k1⊢;have d3':=k1 _ _ go';have k2:∀b u,g2.get? b=some u->(g2.push {cls:=.type "dict_itemiterator",data:=.fields #[.none,.bool false,.ref d,.int 0 0,.int es.size 0,.int ep 0,.none,.none]}).get? b=some u:=λb u q=>Zf _ q;have I3:=L2.Inv.kept (s:={s1 with heap:=g2}) (t':=s1.toks) I2 k2;obtain⟨ks,b1,b0,b2,b3⟩:=vA x3 x4 x5 x6
  have esz:es.size=ks.length:=by
   have:=congrArg List.length d6;simp at this;omega
  have hit:H1 g2.objs.size=none:=I2.hok.fresh (Zn g2.objs.size);refine⟨g2.objs.size,[g2.objs.size],_,Itd d o ks,_,rfl,I3,sZ (it:=g2.objs.size) d5 esz (λi k v e=>?_),⟨.none,.none,by rw[<- esz];exact Heap.get?_push_size _ rfl⟩,λb hb=>?_,m1,h1,rfl,g1,w1,?_⟩
  ·obtain⟨x,f1,f2,f3⟩:=b2 i k v e;refine⟨entryOfKey (tupleKind (intKind P0 w0)) x,?_,by rw[<- f2];rfl,f3⟩;rw[<- Array.getElem?_toList,d6,Zi,f1];rfl
  ·have e:b=g2.objs.size:=by simpa using hb
   subst e;exact L2.Inv.fpOk I2 (Zn _) hit
  ·refine sW e3 (λi dd m h H g w e=>?_) λi m H g hi=>⟨g.frz _ _ _ x1,by rw[Zc] at hi;omega⟩;rw[Zi,Option.map_eq_some_iff] at e;obtain⟨p,ep',rfl⟩:=e;obtain⟨k,v,c1,c2,c3⟩:=b3 i p ep';refine⟨⟨g.frz _ _ _ x1,(Ze.mp c1).1⟩,λx H' ⟨q,k',v',y1,y2,y3,y4⟩=>?_⟩;rw[c1] at y2;cases y2;subst y3 y4;have gt:=Gr.tupNew (K:=X.K) (m:=m) (o:=.tup [.ref k,v]) y1;exact⟨gt,w.keepNew y1,.tup (.of aS) (.cons (.tup (gt.tup _ _ (g.tup _ _ c2)) (RDs.ints p.1)) (.cons ((c3.mono g).mono gt) .nil))⟩
 ·cases e3
end
theorem OI(kx vx tg1 iter1:Expr)(scope:Scope)(pos:Pos)(it:Value)(Dn:Addr)(env:Env):compTurn (.DictComp kx vx [⟨tg1,iter1,[],0⟩] scope pos) 0 it (.ref Dn) env=
 lZ tg1 iter1.pos it env (nM kx vx Dn env) (again (.compLoop (.DictComp kx vx [⟨tg1,iter1,[],0⟩] scope pos) 0 it (.ref Dn) env)):=by rfl
noncomputable def tFb(fk fv:Ev->Hh->Rs D)(n0:Nat):Ev->Hh->Rs Ev:=λr h=>(fk r h).bind λy h=>(fv r h).bind λz h=>(nK n0 y z h).bind λ_ h=>.ok r h
theorem GC{X:Cx}{pins:List (Addr×Obj)}{σ:Sg}{H:Hp}{s:Shared}{m:List Addr}{h:Hh}{n:Nat}{a:Addr}{l:List (List Int×D)}(I:Inv X pins σ H s)(w:Wd X.K m h H)(el:h[n]? =some (.dtt l))(ha:m[n]? =some a):
 ∃o:Obj,(∃u,H a=some u)/\Inv X pins σ (bI H a (.frz o (.own a))) s/\Gr X.K m H m (bI H a (.frz o (.own a)))/\Wd X.K m (h.set n (.dtf l)) (bI H a (.frz o (.own a))):=by
 obtain⟨xs,us,x1,x2,x3,x4,x5⟩:RO X.K m H a (.dtt l):=w.ob n _ a el ha;obtain⟨d1,d2,P0,w0,o,es,ep,d3,d4,d5,d6,d7⟩:=Dtt.of I x1;have I4:=eZ (a:=a) (ob:=.frz o (.own a)) (h':=s.heap) (t':=s.toks) I (by rw[x1];exact True.intro) ⟨rfl,λ_ _=>rfl⟩ ⟨o,d3⟩ ⟨d3,o,d3⟩;obtain⟨w2,gg2⟩:=w.objSet (o':=.dtf l) (u:=.frz o (.own a)) el rfl ha λg=>⟨xs,us,o,es,ep,aS,⟨d1,d2,d4,d5,⟨P0,w0,d6⟩,d7⟩,x2,λx hx=>g.tup _ _ (x3 x hx),x4.mono g,x5⟩;exact⟨o,⟨_,x1⟩,I4,gg2,w2⟩
theorem xP{H:Hp}{a b:Addr}(ha:∃u,H a=some u)(hb:H b=none):b≠a:=λz=>by
 obtain⟨u,hu⟩:=ha;rw[z,hu] at hb;cases hb
section
variable {X:Cx}{pins:List (Addr×Obj)}{σ:Sg}{H:Hp}{s:Shared}
theorem GJ{A:Around}{E:Value->Shared->Prop}{Q:Unit->Shared->Prop}{m:List Addr}{h:Hh}(hu:A.units+1<cLine)(I:Inv X pins σ H s)(w:Wd X.K m h H){n:Nat}{a b:Addr}{l:List (List Int×D)}{k:List Int}{z:D}{vz:V}{uz:Value}(hn:h[n]? =some (.dtt l))(ha:m[n]? =some a)(hl:l.length<1000)
 (hb:SqT X.K H b (k.map V.int))(rz:RD X.K m H z vz)(sz:RelV vz uz)(c:∀s' H',Inv X pins σ H' s'->Gr X.K m H m H'->Wd X.K m (h.set n (.dtt (jP l k z))) H'->Q () s'):wpAny (model X.prog X.w) A (dictSet a (.ref b) uz) Q E s:=by
 obtain⟨xs,us,h1,h2,h3,h4,h5⟩:RO X.K m H a (.dtt l):=w.ob n _ a hn ha;obtain⟨d1,d2,P0,w0,o,es,ep,d3,d4,d5,d6,d7⟩:=Dtt.of I h1;have xl:l.length=xs.length:=by have:=congrArg List.length h2;simpa using this
 have dd:s.heap.DictOfH (tupleKind (intKind X.prog X.w)) a xs:=⟨o,es,ep,d3,d4,d5,d6.trans (by rw[nJ P0 X.prog w0 X.w]),λx hx=>tW I (h3 x hx),d7⟩
 refine wpAny_dictSet_heap (hsz:=by have:(1000:Nat)<=sizeLine:=by decide
                                    omega) (Nat.lt_of_succ_lt hu) (tW I hb) dd λg dd' hs=>?_
 obtain⟨o',es',ep',e3,e4,e5,e6,_,e7⟩:=dd';have dn:Dtt a (storedH xs k b uz) g:=⟨d1,by have:=mE (xs:=xs) (k:=k) (b:=b) (u:=uz);omega,X.prog,X.w,o',es',ep',e3,e4,e5,e6,e7⟩;obtain⟨us',f1,f2,f3,f4⟩:=rL hb rz sz h2 h3 h4 h5;obtain⟨w2,g2⟩:=w.objSet (o':=.dtt (jP l k z)) (u:=.ext (Dtt a (storedH xs k b uz))) hn rfl ha λg=>⟨storedH xs k b uz,us',aS,f1,λx hx=>g.tup _ _ (f2 x hx),f3.mono g,f4⟩;exact c _ _ (eZ I (by rw[h1];exact True.intro) hs ⟨o',e3⟩ (uI dn)) g2 w2
end
section
variable {Y:Cx}{kx vx:Expr}{fk fv:Ev->Hh->Rs D}{n0 acc:Nat}
theorem MD(hxe:Y.xe=lI)(hr:∃k,Room k Y.A)(pk:PE Y kx (TDE Y.K fk))(pvx:PE Y vx (TDE Y.K fv)):PB Y (nM kx vx acc Y.env) n0 acc (tFb fk fv n0):=by
 intro pins s σ H m r h r' h' I w st hm e Z E ag hag;obtain⟨y,h1,e1,e⟩:=Rs.bind_ok e;obtain⟨z,h2,e2,e⟩:=Rs.bind_ok e;obtain⟨u,h3,e3,e⟩:=Rs.bind_ok e;cases e;have no:∀{E:Value->Shared->Prop}(e:Value)(s:Shared),lI e s->E e s:=λ_ _ f=>f.elim;unfold nM;have p1:=pk pins s σ H (λv H1=>∃m1,Gr Y.K m H m1 H1/\Wd Y.K m1 h1 H1/\RD Y.K m1 H1 y v) I ⟨m,r,h,y,h1,w,st,e1,λm' v H' g w' rv=>⟨m',g,w',rv⟩⟩;rw[hxe] at p1;refine Za (Za (wpAny_mono p1 (λkv s1 ⟨ky,H1,I1,rk,m1,g1,w1,rdk⟩=>?_) no));have p2:=pvx pins s1 σ H1 (λv H2=>∃m2,Gr Y.K m1 H1 m2 H2/\Wd Y.K m2 h2 H2/\RD Y.K m2 H2 z v) I1 ⟨m1,r,h1,z,h2,w1,st.mono g1,e2,λm' v H' g w' rv=>⟨m',g,w',rv⟩⟩;rw[hxe] at p2;refine Za (wpAny_holding (wpAny_mono p2 (λvv s2 ⟨vy,H2,I2,rv,m2,g2,w2,rdv⟩=>?_) no));refine Za (wpAny_standAt (wpAny_holding ?_));have hm2:=g2.pre _ _ (g1.pre _ _ hm);unfold nK at e3;split at e3<;>first |(cases e3;done)|skip
 rename_i l el;unfold wH at e3;obtain⟨ds,rfl⟩:∃ds,y=.tup ds:=by cases y<;>first |exact⟨_,rfl⟩|(cases e3;done)
 have rdk2:=rdk.mono g2;cases rdk2 with
 |tup hq q=>
  simp only at e3;split at e3<;>first |(cases e3;done)|skip
  rename_i k ek;split at e3<;>first |(cases e3;done)|skip
  rename_i hl;cases e3;cases rk;have ev:=nB q ek;subst ev;obtain⟨kk,hr⟩:=hr;have hun:=hr.units;exact GJ (by omega) I2 w2 el hm2 hl hq rdv rv λs' H' I' g' w'=>hag s' m2 σ H' I' ((g1.trans g2).trans g') w' (st.mono ((g1.trans g2).trans g'))
end
section
variable {X:Cx}{N':List Str}{scope:Scope}{cap:List Nat}{kx vx tg1 iter1:Expr}{pos:Pos}{t1:Tg}{fk fv:Ev->Hh->Rs D}
structure TBlk (Y:Cx)(K:W.Frag)(tg1 kx vx:Expr)(t1:Tg)(fk fv:Ev->Hh->Rs D):Prop where
 g1:PG Y tg1 (sU K t1)
 rm:∃k,Room k Y.A
 k:PE Y kx (TDE K fk)
 v:PE Y vx (TDE K fv)
theorem GL{pins:List (Addr×Obj)}{σ:Sg}{H2:Hp}{s2:Shared}{fp:List Addr}{it a:Addr}{tn:Nat->Heap->Prop}{m2:List Addr}{h2 h':Hh}{r:Ev}{n k0:Nat}(S:ScOk scope X.env.scope)(hcap:cap.length<=N'.length)
 (hN:(N'.drop (N'.length-cap.length)).map some=cap.map (λ(i:Nat)=>X.N[i]?))(hfr:∀x∈N'.drop (N'.length-cap.length),scope.names.lookup x=some .free)(calm:X.calm=true)
 (blk:∀(C:Addr)(s3:Shared)(H3:Hp)(fp:List Addr),TBlk (cV X N' scope C s3 H3 fp) X.K tg1 kx vx t1 fk fv)
 (I:Inv X pins σ H2 s2)(T:Turn X.prog X.w X.K tg1 (KI X.K a) fp it tn)(st:tn 0 s2.heap)(fok:∀b∈fp,gY X pins H2 b)(w2:Wd X.K m2 h2 H2)(rst:RSt X.K m2 H2 r σ)(ha:m2[n]? =some a)
 (e:CK t1 fk fv h2.length n k0 0 (aT N' cap r) (h2++ [.dtt []])=.ok () h')
 {Rr:Value->Addr->Result->Shared->Prop}
 (c:∀(acc C:Addr)(s1:Shared)(H':Hp)(m':List Addr),Inv X pins σ H' s1->(∃mm,s1.heap.Ns C mm)->H' C=none->C≠X.env.locals->X.s₀.heap.objs.size<=C->(∀x a,X.env.cells.lookup x=some a->a≠C)->(∀p∈X.pn++pins,p.1≠C)->Gr X.K m2 H2 m' H'->Wd X.K m' h' H'->RD X.K m' H' (.ref h2.length) (.ref acc)->Rr (.ref acc) C (.ok .next) s1):
 wpAny (model X.prog X.w) X.A newDict (λacc s3=>wpAny (model X.prog X.w) X.A (newFunctionEnv scope X.env.globals (lL scope X.env) [] X.env.qual none .none (some X.env)) (λcenv s4=>
  codeAny (model X.prog X.w) X.A (.compStart (.DictComp kx vx [⟨tg1,iter1,[],0⟩] scope pos) 0 (.ref it) acc {cenv with scope:=relabel scope X.env}) (Rr acc cenv.locals) s4) X.xe s3) X.xe s2:=by
 have fob:∀b∈fp,b<s2.heap.objs.size:=λb hb=>let⟨o,e,_⟩:=T.obj 0 _ st b hb;Heap.lt_size e
 have ffb:∀b∈fp,∀o,X.base.get? b≠some o:=λb hb o e=>by
  rcases(fok b hb).2.2.2.1 with z|z
  ·exact I.ok.noex b o e z
  ·exact absurd (Nat.lt_of_lt_of_le (Heap.lt_size (I.ok.bs b o e).1) z) (Nat.lt_irrefl _)
 have hacc0:H2 s2.heap.objs.size=none:=I.hok.fresh (Zn _);refine wpAny_newObj_type (dD (λh1 hns keep cok=>?_));dsimp only at hns keep cok⊢;obtain⟨w3,g3⟩:=w2.objNew (o:=.dtt []) (u:=.ext (Dtt s2.heap.objs.size [])) hacc0 λ_=>⟨[],[],aS,rfl,(λx hx=>by cases hx),.nil,.nil⟩
 have I3:Inv X pins σ (bI H2 s2.heap.objs.size (.ext (Dtt s2.heap.objs.size []))) {s2 with heap:=s2.heap.push {cls:=.type "dict",dict:=none,data:=.dict #[]}}:=
  I.laid (t':=s2.toks) (λb u e=>Zf _ e) (Zn _) (uI ⟨beq_eq_false_iff_ne.mpr (Ne.symm (Nat.ne_of_lt I.big)),Nat.zero_le _,X.prog,X.w,_, #[],_,Heap.get?_push_size _ rfl,⟨rfl,rfl,rfl⟩,rfl,rfl,List.nodup_nil⟩)
 have fok3:∀b∈fp,gY X pins (bI H2 s2.heap.objs.size (.ext (Dtt s2.heap.objs.size []))) b:=λb hb=>⟨by rw[aK (Nat.ne_of_lt (fob b hb))];exact(fok b hb).1,(fok b hb).2⟩;have st3:tn 0 h1:=T.keep _ _ _ st λb hb o e=>keep b o (Zf _ e);have B:=uT (env:=X.env) S (λx c e=>let⟨_,q⟩:=I3.cell x c e;q.lt) cok
 have I4:=kU (N':=N') (scope:=scope) (fp:=fp) (cap:=cap) I3 S hcap hN hfr (h1:=h1) (tk:=s2.toks) hns keep B fok3 (λb hb=>by
  show b<(s2.heap.push _).objs.size;rw[Heap.size_push];exact Nat.lt_succ_of_lt (fob b hb)) ffb
 have hsz:(s2.heap.push {cls:=.type "dict",dict:=none,data:=.dict #[]}).objs.size=s2.heap.objs.size+1:=Heap.size_push ..;generalize hs3:({s2 with heap:=s2.heap.push {cls:=.type "dict",dict:=none,data:=.dict #[]}}:Shared)=s3 at I3 I4;have eh3:s2.heap.push {cls:=.type "dict",dict:=none,data:=.dict #[]}=s3.heap:=by rw[<- hs3]
 rw[eh3] at hns keep cok B hsz⊢;generalize hH3:bI H2 s2.heap.objs.size (.ext (Dtt s2.heap.objs.size []))=H3 at I3 I4 w3 g3 fok3;have b:=blk s3.heap.objs.size s3 H3 fp;have hac:(m2++ [s2.heap.objs.size])[h2.length]? =some s2.heap.objs.size:=by rw[<- w2.len];simp
 have stkN:∀b,b≠X.env.locals->b ∉ X.fs->b ∉ jH X.stack:=λb h1 h2 hb=>(List.mem_cons.mp (I3.stkSub b hb)).elim h1 h2
 have fokB:∀{H:Hp},(∀b∈fp,H b=none)->∀b∈fp,gY (cV X N' scope s3.heap.objs.size s3 H3 fp) [] H b:=λhn b hb=>
  ⟨hn b hb,Nat.ne_of_lt (by rw[hsz];exact Nat.lt_succ_of_lt (fob b hb)),stkN b (fok b hb).2.1 (fok b hb).2.2.1,.inl hb,λx c e=>(B.inv x c e).elim (λa=>(fok b hb).2.2.2.2.1 x c (bO a)) (λa=>Nat.ne_of_gt (Nat.lt_trans (by rw[hsz];exact Nat.lt_succ_of_lt (fob b hb)) a.1)),λp hp=>absurd (show p∈([]:List (Addr×Obj)) from hp) (by simp)⟩
 have loop:∀s4:Shared,s4={s3 with heap:=h1,toks:=s2.toks}->codeAny (model X.prog X.w) X.A (.compLoop (.DictComp kx vx [⟨tg1,iter1,[],0⟩] scope pos) 0 (.ref it) (.ref s2.heap.objs.size) (compEnvC scope (yP scope X.env s3.heap.objs.size) s3.heap.objs.size X.env)) (Rr (.ref s2.heap.objs.size) s3.heap.objs.size) s4:=by
  rintro s4 rfl
  refine oP (Y:=cV X N' scope s3.heap.objs.size s3 H3 fp) (m2:=m2++ [s2.heap.objs.size]) (H2:=H3) (n0:=h2.length) (acc:=s2.heap.objs.size) (e:=.DictComp kx vx [⟨tg1,iter1,[],0⟩] scope pos) (pins:= []) (t:=t1) (End:=λ_ h=>h=h') rfl (OI ..) calm b.g1 rfl
   (MD rfl b.rm b.k b.v) T (λi k r h=>CK t1 fk fv h2.length n k i r h=.ok () h') (λi k r h m H g w e=>?_) hac fokB I4 st3 (λb hb=>(fok3 b hb).1) .refl w3 (jE (rst.mono g3)) e λs' σ' H' m' r' hh I1 g' w' st' eh=>?_
  ·cases k with
   |zero=>cases e
   |succ k=>
    simp only[CK] at e;split at e
    ·cases e
    ·rename_i l el;obtain⟨a',vs,ha',hq,q⟩:=w.lst el;rw[g.pre _ _ (g3.pre _ _ ha)] at ha';cases ha';split at e
     ·rename_i en;cases e;exact .inl ⟨⟨vs,hq,by rw[<- q.length];exact List.getElem?_eq_none_iff.mp en⟩,rfl⟩
     ·rename_i d ed;obtain⟨v,hv,rv⟩:=q.get ed;split at e
      ·cases e
      ·rename_i r1 er;obtain⟨y,h5,ey,e⟩:=Rs.bind_ok e;obtain⟨z,h6,ez,e⟩:=Rs.bind_ok e;obtain⟨_,h7,e7,e⟩:=Rs.bind_ok e;refine .inr ⟨⟨vs,v,hq,hv⟩,d,λx H' y=>?_,r1,er,r1,h7,?_,k,Nat.lt_succ_self _,e⟩
       ·obtain⟨eH,y⟩:=y;have:=y vs hq;rw[hv] at this;cases this;subst eH;exact⟨.refl,w,rv⟩
       ·unfold tFb;rw[ey]
        show((fv r1 h5).bind λz h=>(nK h2.length y z h).bind λ_ h=>.ok r1 h)=_
        rw[ez]
        show((nK h2.length y z h6).bind λ_ h=>.ok r1 h)=_
        rw[e7];rfl
  ·subst eh;obtain⟨mm,hn1,_⟩:=id I1.loc;obtain⟨hp1,gg,dr,tk,os⟩:=s';obtain rfl:os=s3.os:=I1.os;have IX:Inv X pins σ H' {s3 with heap:=hp1,gens:=gg,drawn:=dr,toks:=tk}:=I3.call (ch:=fp) I1.base I1.hok I1.bare λb hb=>⟨(fok3 b hb).2.2.2.1,(fok3 b hb).2.1,(fok3 b hb).2.2.2.2.1,(fok3 b hb).2.2.2.2.2⟩
   exact c _ _ _ H' m' IX ⟨mm,hn1⟩ I1.free (Nat.ne_of_gt I3.lt) I3.sz (λx a e=>by
    obtain⟨v,q⟩:=I3.cell x a e;exact Nat.ne_of_lt q.lt) (λp hp=>Nat.ne_of_lt (Heap.lt_size (I3.pin p hp).1)) (g3.trans g') w' (.ref (g'.pre _ _ hac))
 have es:({s2 with heap:=h1,toks:=s2.toks}:Shared)={s3 with heap:=h1,toks:=s2.toks}:=by subst hs3;rfl
 exact codeAny_compStart_dict (loop _ es) (T.self X.A 0 _ _ _ st3 (loop _ es))
theorem TC{N:List Str}{sc:Scope}{fo f:Ev->Hh->Rs D}{N'':List Str}{cp:List Nat}(hp:PE X iter1 (TDE X.K fo))(hf:∀r h,f r h=(fo r h).bind λx h=>TF t1 fk fv x (aT N'' cp r) h)
 (pins:List (Addr×Obj))(s:Shared)(σ:Sg)(H:Hp)(m:List Addr)(r:Ev)(h:Hh)(d:D)(h':Hh)(I:Inv X pins σ H s)(w:Wd X.K m h H)(st:RSt X.K m H r σ)(e:f r h=.ok d h'):
 ∃h1 n k0 h2,CK t1 fk fv h1.length n k0 0 (aT N'' cp r) (h1++ [.dtt []])=.ok () h2/\TD h1.length h2=.ok d h'/\wpAny (model X.prog X.w) X.A (eval iter1 X.env) (λv s1=>wpAny (model X.prog X.w) X.A (pyIter v)
  (HX X pins σ tg1 λJ H2=>∃a m2,J=KI X.K a/\Gr X.K m H m2 H2/\Wd X.K m2 h1 H2/\m2[n]? =some a) X.xe s1) X.xe s:=by
 rw[hf] at e;obtain⟨x,h1,ex,e⟩:=Rs.bind_ok e;unfold TF at e;split at e
 ·rename_i n;split at e
  ·rename_i l el;obtain⟨u,h2,e2,e⟩:=Rs.bind_ok e;refine⟨h1,n,l.length+1,h2,e2,e,?_⟩;refine pT hp pins s σ H _ I ⟨m,r,h,_,_,w,st,ex,λm' v H' g w' rv=>?_⟩;cases rv with
   |ref ha=>
    obtain⟨a',vs,ha',hq,_⟩:=w'.lst el;rw[ha] at ha';cases ha';exact⟨_,rfl,⟨_,hq⟩,_,m',rfl,g,w',ha⟩
  ·cases e
 ·cases e
theorem SZ{N:List Str}{sc:Scope}{fo f:Ev->Hh->Rs D}(xo:XOk X N sc)(S:ScOk scope sc)(hcap:cap.length<=N'.length)(hN:(N'.drop (N'.length-cap.length)).map some=cap.map (λ(i:Nat)=>N[i]?))(hfr:∀x∈N'.drop (N'.length-cap.length),scope.names.lookup x=some .free)
 (blk:∀(C:Addr)(s3:Shared)(H3:Hp)(fp:List Addr),TBlk (cV X N' scope C s3 H3 fp) X.K tg1 kx vx t1 fk fv)(hset:oM iter1=true)(hp:PE X iter1 (TDE X.K fo))(hf:∀r h,f r h=(fo r h).bind λx h=>TF t1 fk fv x (aT N' cap r) h):
 PE X (.DictComp kx vx [⟨tg1,iter1,[],0⟩] scope pos) (TDE X.K f):=by
 intro pins s σ H Q I ⟨m,r,h,d,h',w,st,e,c⟩;obtain⟨h1,n,k0,h2,e1,ez,hw⟩:=TC (N:=N) (sc:=sc) (tg1:=tg1) hp hf pins s σ H m r h d h' I w st e;have S':ScOk scope X.env.scope:=by rw[xo.s];exact S
 show wpAny _ X.A (comprehension (.DictComp kx vx [⟨tg1,iter1,[],0⟩] scope pos) scope X.env _ newDict false (eval iter1 X.env)) _ _ s;refine wpAny_comprehension_free (use:=none) rfl (λz=>by cases iter1<;>first |rfl|(cases hset;done)) (gB λp hp e=>I.ok.has p.1 (.inl (S'.free p hp e))) S.kind S.loc ?_;refine bM hw λv s1 q1=>bM q1 λitv s2 q2=>?_;obtain⟨it,fp,tn,J,H2,rfl,I2,T,st2,fok,a,m2,rfl,g2,w2,ha⟩:=q2;refine GL (Rr:=λacc C=>compPost (model X.prog X.w) X.A X.xe none (EP X pins σ Q) acc C) S' hcap (by rw[xo.n];exact hN) hfr xo.calm blk I2 T st2 fok w2 (st.mono g2) ha e1 λacc C s1 H' m' I1 ⟨mm,hn⟩ hC hL hz hc hp g' w' rv=>?_;unfold TD at ez;split at ez<;>first |(cases ez;done)|skip
 rename_i l el;cases ez;cases rv with
 |ref hm=>
  obtain⟨o,nC,IZ,gZ,wZ⟩:=GC I1 w' el hm;exact⟨mm,hn,λhh hsb=>⟨.ref acc,_,IZ.turned (λb o hb e=>hsb.extBut b o hb e) (by rw[aK (xP nC hC)];exact hC) (Ne.symm (Ne.symm hL)) (.inr hz) hc hp,rfl,c m' _ _ ((g2.trans g').trans gZ) wZ (.ref hm)⟩⟩
end
section
variable {N:List Str}{sc:Scope}{G:Gs}
theorem NV{t:Tg}{k v:E}{N':List Str}{cap:List Nat}{kx vx tg:Expr}{scope:Scope}(B:Blk N sc N' cap scope)(ht:fC N' scope t tg=true)(h_k:SE N' (cN scope sc) G k kx)(h_v:SE N' (cN scope sc) G v vx)
 {X:Cx}{ca:Nat->Addr}{cl:Cl}(xo:XOk X N sc)(go:GOk X G ca cl)(C:Addr)(s3:Shared)(H3:Hp)(fp:List Addr):TBlk (cV X N' scope C s3 H3 fp) X.K tg kx vx t (ev G cl k) (ev G cl v):=
 ⟨LV (eK xo B.nd C s3 H3 fp) (qM (by rw[xo.s];exact B.S) C s3 H3 fp) ht,(eK xo B.nd C s3 H3 fp).room,
  (h_k (eK xo B.nd C s3 H3 fp) (jF go C s3 H3 fp)).1,(h_v (eK xo B.nd C s3 H3 fp) (jF go C s3 H3 fp)).1⟩
theorem OH{t:Tg}{i k v:E}{N':List Str}{cap:List Nat}{kx vx tg iter:Expr}{scope:Scope}{pos:Pos}(B:Blk N sc N' cap scope)(ns:oM iter=true)(ht:fC N' scope t tg=true)
 (h_i:SE N sc G i iter)(h_k:SE N' (cN scope sc) G k kx)(h_v:SE N' (cN scope sc) G v vx):SE N sc G (.dcT t i k v N' cap) (.DictComp kx vx [⟨tg,iter,[],0⟩] scope pos):=λ{X ca cl} xo go=>by
 have p:PE X (.DictComp kx vx [⟨tg,iter,[],0⟩] scope pos) (TDE X.K (ev G cl (.dcT t i k v N' cap))):=SZ xo B.S B.capL B.nN B.fr (NV B ht h_k h_v xo go) ns (h_i xo go).1 λr h=>by rw[ev]
 exact⟨p,hE p λ_=>rfl⟩
end
section
variable {prog:Program}{w:World}{A:Around}{E:Value->Shared->Prop}
end
section
variable {X:Cx}
end
section
variable {N:List Str}{sc:Scope}{G:Gs}
end
section
variable {N:List Str}{sc:Scope}{G:Gs}
theorem rN{K:W.Frag}{m:List Addr}{H:Hp}{f:Str}{z:D}{v:V}(rz:RD K m H z v):∀{fs:List (Str×D)}{us:List (Str×V)},fs.map (·.1)=us.map (·.1)->RDs K m H (fs.map (·.2)) (us.map (·.2))->
 (nW f z fs).map (·.1)=(fI f v us).map (·.1)/\RDs K m H ((nW f z fs).map (·.2)) ((fI f v us).map (·.2))
 | [],[],_,_=>⟨rfl,.cons rz .nil⟩
 |(k,d)::fs,(k',u)::us,h,r=>by
  obtain⟨h1,h2⟩:=List.cons.inj (show k::fs.map (·.1)=k'::us.map (·.1) from h);subst h1;cases r with
  |cons r1 r=>
   obtain⟨i1,i2⟩:=rN rz h2 r;unfold nW fI
   by_cases q:k=f
   ·rw[if_pos q,if_pos q];exact⟨h,.cons rz r⟩
   ·rw[if_neg q,if_neg q];exact⟨by rw[Zh,Zh,i1],.cons r1 i2⟩
 | [],_::_,h,_=>by cases h
 |_::_,[],h,_=>by cases h
theorem dG{o a:E}{cn f:Str}{x v:Expr}{px pos:Pos}(hG:(cn,f)∈G.atts)(hs:∀env:Env,swapsWith v (some (.Attribute x f px)) pos.line env=pure false)(h_a:SE N sc G a v)(h_o:SE N sc G o x):SS N sc G (.sfl o cn f a) (.Assign [.Attribute x f px] v pos):=λ{X ca cl W Wx rz} xo go hfn xx hz=>by
 obtain⟨C,hC,cls,na⟩:=go.c.att _ hG;refine(LQ (h_o xo go).1 (h_a xo go).1 (hs X.env)).wk λZ s H q=>?_;refine TDS.one (λr h=>by rw[xs]) q λm2 r h2 H2 dz z w2 st2 rdz o=>?_;obtain⟨dx,h6,e6,o⟩:=o.nx;obtain⟨_,h8,e8,o⟩:=o.nx;refine⟨m2,r,h2,dx,h6,w2,st2,e6,λm3 x' H3 g3 w3 rx=>?_⟩;cases rx<;>first |(cases e8;done)|skip
 rename_i n a' ha;simp only[zT] at e8;split at e8<;>first |(cases e8;done)|skip
 rename_i c0 fs el;split at e8<;>first |(cases e8;done)|skip
 rename_i hc;obtain⟨rfl,hl⟩:=hc;cases e8;obtain⟨C',dx',us,q1,q2,q3,q4⟩:RO X.K m3 H3 a' (.ins c0 fs):=w3.ob n _ a' el ha;have hC':PySem.W.nsIn X.K mainGlobals c0=some (some (.ref C)):=hC;rw[q1] at hC';cases hC';have ll:fs.length=us.length:=by have:=congrArg List.length q3;simpa using this
 obtain⟨w4,g4⟩:=w3.objSet (o':=.ins c0 (nW f dz fs)) (u:=.ins C dx' (fI f z us)) el rfl ha λg=>by
  obtain⟨i1,i2⟩:=rN (f:=f) ((rdz.mono g3).mono g) q3 (q4.mono g);exact⟨C,dx',_,q1,aS,i1,i2⟩
 exact⟨a',C,dx',us,rfl,q2,cls,na,by omega,o m3 _ (g3.trans g4) w4 s (st2.mono (g3.trans g4))⟩
theorem AR{X:Cx}{ca:Nat->Addr}{cl:Cl}{Wx:Ws}{rz:Bool}(xo:XOk X N sc)(go:GOk X G ca cl)(hfn:∀x,X.fn x=true)(xx:XX X ca Wx rz){cn:Str}{f:Nat}{l:Es}{np pos:Pos}{e:Expr}{es:List Expr}(hG:(cn,f)∈G.news)(h2:lE sc cn=true)(h3:cS cn=true)(h_l:uZ N sc G l (e::es)):
 PE X (.Call (.Name cn np) (e::es) [] pos) (VI X.K Wx λr h=>(cJ G cl l r h).nx.bind λds h=>jS cn (cl f) ds h):=by
 obtain⟨d1,d2,d3⟩:=cD h3;obtain⟨C,fa,fd,ps,k,hC,hmg,M,F,hr,hb,hlen⟩:=go.c.new _ hG;have hns:=h_l.1;rw[List.all_cons,Bool.and_eq_true] at hns;intro pins s σ H Q I ⟨m,r,h,w,st,o⟩;cases he:cJ G cl l r h with
 |bad=>simp only[he] at o;exact o.elim
 |exc c rr hh=>simp only[he] at o;exact o.elim
 |ok ds hh=>
  simp only[he] at o;have o':(match jS cn (cl f) ds hh with|.ok d h'=>∀m' v H',Gr X.K m H m' H'->Wd X.K m' h' H'->RD X.K m' H' d v->Q v H'|.exc c _ h'=>∀m' H',Gr X.K m H m' H'->Wd X.K m' h' H'->Wx c σ H'|.bad=>False):=o;refine wpAny_Call_Name_kw (dX I (cR xo h2) hmg ?_ d1);refine W.callWith_K (h₀:=X.base) I.ok.mod.kin M.kp (bM (h_l.2 xo go pos pins s σ H (λvs H1=>∃m1,Gr X.K m H m1 H1/\Wd X.K m1 hh H1/\RDs X.K m1 H1 ds vs) I ⟨m,r,h,ds,hh,w,st,he,λm' vs H' g w' rd=>⟨m',g,w',rd⟩⟩) λus s1 ⟨vs,H1,I1,r1,m1,g1,w1,rd1⟩=>⟨I1.kIn,?_⟩) (aW es hns.1) (dE pos hns.2);have I2:=Inv.made (C:=C) I1;have hx0:H1 (s1.heap.objs.size+1)=none:=I1.hok.fresh (Nat.le_succ _);have hd0:H1 s1.heap.objs.size=none:=I1.hok.fresh (Zn _);have ne:s1.heap.objs.size≠s1.heap.objs.size+1:=Nat.ne_of_lt (Nat.lt_succ_self _);generalize hxE:s1.heap.objs.size+1=x at I2 hx0 ne;have w2:=w1.keepNew (o:=.own x) hd0;have g2:Gr X.K m1 H1 m1 (bI H1 s1.heap.objs.size (.own x)):=Gr.tupNew hd0;have hx2:(bI H1 s1.heap.objs.size (.own x)) x=none:=by rw[aK (Ne.symm ne)];exact hx0
  obtain⟨w3,g3⟩:=w2.objNew (o:=.ins cn []) (u:=.ins C s1.heap.objs.size []) hx2 λ_=>⟨C,_,[],hC,aS,rfl,.nil⟩;have hr0:(m1++ [x])[hh.length]? =some x:=by rw[<- w1.len];simp
  have rd':=RDs.cons (RD.ref (K:=X.K) (H:=bI (bI H1 s1.heap.objs.size (.own x)) x (.ins C s1.heap.objs.size [])) hr0) ((rd1.mono g2).mono g3)
  have hne:cl f (.ref hh.length::ds) (hh++ [.ins cn []])≠ .bad:=λz=>by
   unfold jS at o';rw[z] at o';exact o'
  have hsp:tE X.K ca (cl f) ps.length (V.ref x::vs) (bI (bI H1 s1.heap.objs.size (.own x)) x (.ins C s1.heap.objs.size [])) (λv H'=>v=.non/\Q (.ref x) H') (λv oa H'=>∃c,oa=some (ca c)/\Wx c σ H'):=by
   refine⟨by rw[<- rd'.length];exact hlen _ _ hne,m1++ [x],hh++ [.ins cn []],.ref hh.length::ds,w3,rd',?_⟩;unfold jS at o';cases hc:cl f (.ref hh.length::ds) (hh++ [.ins cn []]) with
   |bad=>exact hne hc
   |exc c rr h'=>
    rw[hc] at o';exact λm' H' v g w'=>⟨c,rfl,o' m' H' (((g1.trans g2).trans g3).trans g) w'⟩
   |ok d h'=>
    rw[hc] at o';intro m' v H' g w' rv;obtain rfl:d=.non:=by cases d<;>first |rfl|exact o'.elim
    cases rv;exact⟨rfl,o' m' _ H' (((g1.trans g2).trans g3).trans g) w' (.ref (g.pre _ _ hr0))⟩
  have r2:Vals (V.ref x::vs) (Value.ref x::us):=.cons rfl r1;have hl:(Value.ref x::us).length=ps.length:=by rw[<- r2.length];exact F.len _ _ _ _ hsp
  have hbd:∀s2:Shared,X.K.In s2.heap->BindsTo s2 fd ⟨Value.ref x::us,[]⟩ (ps.zip (Value.ref x::us)):=λs2 ki=>by
   have:=hb s2 (Value.ref x::us) ki (by simpa using hl);simpa using this
  subst hxE;refine wpAny_call (rT (f:=fa) I1.kIn M.makes M.init (beq_iff_eq.mp M.fn) (codeAny_mono (F.run _ X.stack _ _ ⟨Value.ref (s1.heap.objs.size+1)::us,[]⟩ (Value.ref (s1.heap.objs.size+1)::us) _ _ _ (hr.make C us []) (I2.env0.make C us []) (hbd _ I2.kIn) r2 hsp) λres s' hq=>?_));cases res with
  |error ev=>
   have hq':pH X.prog X.w X.stack _ _ (λv oa H'=>∃c,oa=some (ca c)/\Wx c σ H') ev s':=hq;obtain⟨H',ea,C',rfl,I',⟨B,FX⟩,c,hC',hW⟩:=uW I2 xx.ex hfn hq';cases hC';exact xx.fly pins σ H' s' ea c I' ⟨B,FX⟩ hW
  |ok fl=>
   cases fl with
   |ret u=>
    obtain⟨v,H',I3,rv,ev,q3⟩:=I2.after hq;subst ev;exact⟨rv,⟨V.ref _,H',I3,rfl,q3⟩⟩
   |next=>exact False.elim hq
   |brk=>exact False.elim hq
   |cont=>exact False.elim hq
end
structure Fc where
 np:Nat
 ns:Nat
 body:Ss
noncomputable def cK:Fl->Hh->Rs D
 |.rt d,h=>.ok d h
 |.nx _,h=>.ok .non h
 |_,_=>.bad
noncomputable def aR(G:Gs)(T:Nat->Option Fc)(W:Nat):Nat->Cl
 |0,_,_,_=>.bad
 |n+1,f,ds,h=>match T f with
  |none=>.bad
  |some c=>if ds.length=c.np then(bR G (aR G T W n) W c.body (ds.map some++List.replicate (c.ns-c.np) none) h).bind cK else .bad
structure FmOk (K:W.Frag)(G:Gs)(P:Addr->Prop)(x:Str)(c:Fc):Prop where
 ex:∃st fa fd N ps qual,Fun K x qual st fa fd/\FnScope N ps (aH st)/\ps.length=c.np/\N.length=c.ns/\Binds K fd ps []/\P fa/\eM N (aH st) G c.body (aM st)
abbrev OZ(K:W.Frag)(mg:Str->Option Value)(G:Gs)(x:Str)(c:Fc):Prop:=FmOk K G (λfa=>mg x=some (.ref fa)) x c
noncomputable def AllP{α:Type}(P:Nat->α->Prop):Nat->List α->Prop
 |_,[]=>True
 |i,a::l=>P i a/\AllP P (i+1) l
theorem AllP.get{α:Type}{P:Nat->α->Prop}:∀{l:List α}{i:Nat},AllP P i l->∀{f:Nat}{x:α},l[f]? =some x->P (i+f) x
 |_::_,_,h,0,_,e=>by cases e;exact h.1
 |_::l,i,h,f+1,x,e=>by
  have q:=AllP.get h.2 (f:=f) (x:=x) (by simpa using e);rwa [show i+1+f=i+(f+1) by omega] at q
theorem AllP.get0{α:Type}{P:Nat->α->Prop}{l:List α}(h:AllP P 0 l){f:Nat}{x:α}(e:l[f]? =some x):P f x:=by
 have q:=AllP.get h e;rwa [Nat.zero_add] at q
theorem WY{us:List Value}(h:us.length=1):∃a,us=[a]:=List.length_eq_one_iff.mp h
theorem RM{us:List Value}(h:us.length=2):∃a b,us=[a,b]:=by
 match us,h with
 | [a,b],_=>exact⟨a,b,rfl⟩
theorem RL{us:List Value}(h:us.length=3):∃a b c,us=[a,b,c]:=by
 match us,h with
 | [a,b,c],_=>exact⟨a,b,c,rfl⟩
theorem WW{us:List Value}(h:us.length=6):∃a b c d e f,us=[a,b,c,d,e,f]:=by
 match us,h with
 | [a,b,c,d,e,f],_=>exact⟨a,b,c,d,e,f,rfl⟩
theorem AllP.mem{α:Type}{P:α->Prop}:∀{l:List α}{i:Nat},AllP (λ_=>P) i l->∀{x:α},x∈l->P x
 |_::_,_,h,_,.head _=>h.1
 |_::_,_,h,_,.tail _ q=>AllP.mem h.2 q
structure PrOk (K:W.Frag)(mg:Str->Option Value)(G:Gs)(ca:Nat->Addr)(T:Nat->Option Fc):Prop where
 fn:∀(f:Nat)(x:Str),G.fns[f]? =some x->∃c,T f=some c/\OZ K mg G x c
 cst:∀(g:Nat)(x:Str)(d:D),G.csts[g]? =some (x,d)->∃v u,mg x=some u/\RelV v u/\∀m H,RD K m H d v
 blt:∀f:Blt,mg f.nm=none
 ty:∀t:Ty,mg (Str.ofString t.nm)=none
 rng:mg "range"=none
 exc:∀(c:Nat)(x:Str),G.excs[c]? =some x->mg x=some (.ref (ca c))/\ExcF K (ca c)
 sub:∀p∈G.sub,W.exmOne K (.ref (ca p.1)) (.ref (ca p.2))=some true/\W.kitOne K (.ref (ca p.1)) (.ref (ca p.2))=some true/\ExcF K (ca p.1)
 nsub:∀p∈G.nsub,W.kitOne K (.ref (ca p.1)) (.ref (ca p.2))=some false/\ExcN K (ca p.1)
 verr:mg "ValueError"=none
 att:∀p∈G.atts,∃C,W.nsIn K mainGlobals p.1=some (some (.ref C))/\Cls K C/\NoAttr K C p.2
 meth:∀p∈G.meths,∃C c,W.nsIn K mainGlobals p.1=some (some (.ref C))/\Cls K C/\T p.2.2=some c/\FmOk K G (λfa=>Meth K C p.2.1 fa) p.2.1 c
 new:∀p∈G.news,∃C c,W.nsIn K mainGlobals p.1=some (some (.ref C))/\mg p.1=some (.ref C)/\T p.2=some c/\FmOk K G (λfa=>Mk K C fa) "__init__" c
theorem RSt.start{K:W.Frag}{m:List Addr}{H:Hp}{ds:List D}{vs:List V}(r:RDs K m H ds vs)(k:Nat):RSt K m H (ds.map some++List.replicate k none) (vs.map some++List.replicate k none):=by
 refine⟨by simp[r.length],λi d e=>?_⟩
 by_cases hi:i<ds.length
 ·rw[List.getElem?_append_left (by simpa using hi),Zi] at e;cases z:ds[i]? with
  |none=>rw[z] at e;cases e
  |some d'=>
   rw[z] at e
   have e':d'=d:=by
    have e2:some (some d')=some (some d):=e;injection e2 with e2;injection e2
   subst e';obtain⟨v,hv,rv⟩:=r.get z;exact⟨v,by rw[List.getElem?_append_left (by rw[Zc, <- r.length];exact hi),Zi,hv];rfl,rv⟩
 ·rw[List.getElem?_append_right (by simpa using hi),List.getElem?_replicate] at e;split at e<;>cases e
section
variable {P:Program}{w:World}{K:PySem.W.Frag}{mg:Str->Option Value}{base:Heap}{G:Gs}{ca:Nat->Addr}{T:Nat->Option Fc}{W:Nat}
theorem _root_.L2.Fun.okX{x qual:Str}{st:Stmt}{f:Addr}{fd:FuncData}{N ps:List Str}{k:Nat}{sp:Sp}(F:Fun K x qual st f fd)(S:FnScope N ps (aH st))(len:∀vs H Q E,sp vs H Q E->vs.length=ps.length)
 (hbody:∀(cdv:Value)(A:Around)(outer:List Env)(s:Shared)(H:Hp)(vs:List V)(Q:VK)(E:XK),Room k (A.deeper (envOfC qual (aH st) s.heap.objs.size f cdv))->sp vs H Q E->
   ∃t,PSs (jC (pH P w) P w K mg base N qual (aH st) f cdv A outer s H E) (aM st) t/\t {nx:=λ_ H'=>Q .non H',rt:=Q} (start N vs) H):FnOk P w K mg base (pH P w) (k+1) f fd ps sp:=by
 obtain⟨oc,od,kV,doc,pm,an,cdv,ct,osl,rfl,lk,hcd⟩:=F.ex;exact SG lk hcd S len λA outer s H vs Q E hr hsp=>hbody cdv A outer s H vs Q E hr hsp
abbrev KJ(P:Program)(w:World)(K:PySem.W.Frag)(mg:Str->Option Value)(base:Heap)(G:Gs)(ca:Nat->Addr)(T:Nat->Option Fc)(W n:Nat):Prop:=∀(f:Nat)(x:Str)(c:Fc)(R:Addr->Prop),T f=some c->FmOk K G R x c->∃fa fd ps,FnOk P w K mg base (pH P w) (2*n) fa fd ps (tE K ca (aR G T W n f) ps.length)/\R fa/\PySem.W.keepIn K (.ref fa)=true/\Binds K fd ps []/\∀ds h,aR G T W n f ds h≠ .bad->ds.length=ps.length
theorem vY(pr:PrOk K mg G ca T){n f:Nat}(ih:KJ P w K mg base G ca T W n){x qual:Str}{c:Fc}{st:Stmt}{fa:Addr}{fd:FuncData}{N ps:List Str}(hc:T f=some c)(F:Fun K x qual st fa fd)(S:FnScope N ps (aH st))(h1:ps.length=c.np)(h2:N.length=c.ns)
 (hk:eM N (aH st) G c.body (aM st)):FnOk P w K mg base (pH P w) (2*n+1+1) fa fd ps (tE K ca (aR G T W (n+1) f) ps.length):=by
 refine F.okX S (λvs H Q E h=>h.1) (λcdv A outer s H vs Q E hr h=>?_);obtain⟨hl,m,h,ds,wd,rd,o⟩:=h;simp only[aR,hc] at o;have hlen:ds.length=c.np:=by rw[rd.length,hl,h1]
 rw[if_pos hlen] at o
 let X:Cx:=jC (pH P w) P w K mg base N qual (aH st) fa cdv A outer s H E
 have xo:XOk X N (aH st):=⟨rfl,rfl,rfl,S.nd,⟨_,hr⟩,pr.rng,PassesOwn.leaving⟩;have hr0:Room (2*n) X.A:=hr.mono (Nat.le_succ _)
 have go:GOk X G ca (aR G T W n):=⟨λf' x' hf'=>by
  obtain⟨c',hc',fc⟩:=pr.fn f' x' hf';obtain⟨fa',fd',ps',F',hm',hk',hb',hl'⟩:=ih f' x' c' _ hc' fc
  exact⟨fa',fd',ps',_,F',hr0,hm',hk',hb',hl'⟩,pr.cst,pr.blt,pr.ty,pr.exc,pr.sub,pr.nsub,pr.verr,⟨pr.att,λp hp=>by
   obtain⟨C,c',hC,cls,hc',fc⟩:=pr.meth p hp;obtain⟨fa',fd',ps',F',hm',hk',hb',hl'⟩:=ih p.2.2 p.2.1 c' _ hc' fc;exact⟨C,fa',fd',ps',_,hC,cls,hm',F',hr0,hb',hl'⟩,λp hp=>by
   obtain⟨C,c',hC,hmC,hc',fc⟩:=pr.new p hp;obtain⟨fa',fd',ps',F',hm',hk',hb',hl'⟩:=ih p.2 _ c' _ hc' fc;exact⟨C,fa',fd',ps',_,hC,hmC,hm',F',hr,hb',hl'⟩⟩⟩
 refine⟨_,hk (W:=W) xo go (λ_=>rfl) YD (.inl rfl),m,ds.map some++List.replicate (c.ns-c.np) none,h,wd,?_,?_⟩
 ·show RSt K m H _ (vs.map some++List.replicate (N.length-vs.length) none);rw[show N.length-vs.length=c.ns-c.np by omega];exact RSt.start rd _
 ·cases hx:bR G (aR G T W n) W c.body (ds.map some++List.replicate (c.ns-c.np) none) h with
  |bad=>rw[hx] at o;exact o
  |exc c' r' h'=>
   rw[hx] at o;exact λm' H' s' g w' _ v=>o m' H' v g w'
  |ok fl h'=>
   rw[hx] at o;intro m' H' g w';cases fl with
   |rt d'=>exact λv rv=>o m' v H' g w' rv
   |nx r'=>exact λs' _=>o m' .non H' g w' .non
   |bk r'=>exact o.elim
   |ct r'=>exact o.elim
theorem NJ(pr:PrOk K mg G ca T):∀n:Nat,KJ P w K mg base G ca T W n:=by
 intro n
 induction n with
 |zero=>
  intro f x c R hc ⟨st,fa,fd,N,ps,qual,F,S,h1,h2,hb,hm,hk⟩;refine⟨fa,fd,ps,⟨λvs H Q E h=>h.1,λA outer s H args us vs Q E _ _ _ _ h=>?_⟩,hm,F.kp,hb,λds h e=>absurd rfl e⟩;obtain⟨_,m,h,ds,_,_,o⟩:=h;exact o.elim
 |succ n ih=>
  intro f x c R hc ⟨st,fa,fd,N,ps,qual,F,S,h1,h2,hb,hm,hk⟩;refine⟨fa,fd,ps,vY pr ih hc F S h1 h2 hk,hm,F.kp,hb,λds h e=>?_⟩;simp only[aR,hc] at e
  by_cases hn:ds.length=c.np
  ·rw[hn,h1]
  ·rw[if_neg hn] at e;exact absurd rfl e
end
theorem LH{K:W.Frag}{H:Hp}{a:Addr}{xs:List V}(hO:HY H)(h:SqL K H a xs):SqR K H a xs:=by
 rcases h with (h|h)|h
 ·rcases hO a with z|⟨o,ys,z⟩
  ·rw[z] at h;cases h
  ·rw[z] at h;cases h
 ·exact .inl h
 ·exact .inr h
def spO(K:W.Frag)(f:List D->Hh->Rs D)(n:Nat):Sp:=λvs H Q _=>vs.length=n/\∃m h ds d h',Wd K m h H/\RDs K m H ds vs/\f ds h=.ok d h'/\∀m' v H',Gr K m H m' H'->Wd K m' h' H'->RD K m' H' d v->Q v H'
theorem QG{K:W.Frag}{ca:Nat->Addr}{f:List D->Hh->Rs D}{n:Nat}{vs:List V}{H:Hp}{Q:VK}{E:XK}(h:spO K f n vs H Q E):tE K ca f n vs H Q E:=by
 obtain⟨hl,m,h,ds,d,h',w,r,e,c⟩:=h;exact⟨hl,m,h,ds,w,r,by rw[e];exact c⟩
theorem law_of{G:Gs}{T:Nat->Option Fc}{W:Nat}{l:PySem.W.OpenLaw}{n k lw:Nat}{q:Program}{loose:List Str}{XP:(Str->Option Value)->Heap->Prop}{YP:World->Heap->Prop}{d:DefRec}{K:Params->PySem.W.Frag}{x:Str}
 (run:∀ns:List Int,ns.length<=n->∃h',aR G T W (k+1) lw [.ref 0] [.ro (ns.map D.int)]=.ok (.bl true) h')
 (hn:l.most=some n)(hn2:n<=sizeLine)(hdf:d.params.defaults=[])(hr:Room (2*k+1+1) callerA)
 (hY:∀(w:World)(h:Heap),YP w h->(K w.params).In h)
 (F:∀(w:World)(mg:Str->Option Value)(fa:Addr)(h:Heap),(K w.params).In h->h.Ns mainGlobals mg->mg d.name=some (.ref fa)->
   ∃ca:Nat->Addr,PrOk (K w.params) mg G ca T/\∃fd:FuncData,(∀(s:Shared)(u:Value),BindsTo s fd ⟨[u],[]⟩ [(x,u)])/\∃c st N qual,T lw=some c/\Fun (K w.params) d.name qual st fa fd/\FnScope N [x] (aH st)/\1=c.np/\N.length=c.ns/\eM N (aH st) G c.body (aM st)):
 PySem.W.WalkO q loose XP YP l.row.toRowW d [] (λf vs=>PySem.call f vs):=by
 refine L2.walk_of (n:=n) (k:=2*k+1+1) (x:=x) (CX:=λw=>pH l.prog w) (sp:=λw=>spO (K w.params) (aR G T W (k+1) lw) 1) hn hn2 hdf hr hY (λw mg fa h KX hns hm=>?_) (λw H a ns hl hO hS=>?_) λ_ _ _ _ _ ⟨_,_,_,_,_,_,_,_,_,z⟩=>z
 ·obtain⟨ca,pr,fd,hb,c,st,N,qual,hc,Fu,S,h1,h2,hk⟩:=F w mg fa h KX hns hm;exact⟨fd,hb,λbase _ _=>(vY pr (NJ pr k) hc Fu S h1 h2 hk).imp λ_ _ _ _=>QG⟩
 ·obtain⟨h',e⟩:=run ns hl;refine⟨rfl,[a],[.ro (ns.map D.int)],[.ref 0],.bl true,h',⟨rfl,λi j b o u e1 e2 e3 e4 w1 w2=>?_,λi o b e1 e2=>?_⟩,.cons (.ref rfl) .nil,e,?_⟩
  ·cases i with
   |zero=>
    cases j with
    |zero=>rfl
    |succ j=>simp at e4
   |succ i=>simp at e3
  ·cases i with
   |zero=>
    simp at e1 e2;subst e1;subst e2;exact⟨_,LH hO hS,RDs.ints ns⟩
   |succ i=>simp at e1
  ·intro m' v H' _ _ rd;cases rd;rfl
theorem xG(its:List Value):∀n,n<=its.length->((List.range n).map λ(k:Nat)=>((its.length:Int)-1+ -1*(k:Int)).toNat).filterMap (its[·]?)=its.reverse.take n:=by
 intro n
 induction n with
 |zero=>intro _;simp
 |succ n ih=>
  intro hn;rw[List.range_succ,List.map_append,List.filterMap_append,ih (by omega),List.take_succ,List.getElem?_reverse (by omega),Zh,List.map_nil,show((its.length:Int)-1+ -1*(n:Int)).toNat=its.length-1-n by omega,List.filterMap_cons,Zd (show its.length-1-n<its.length by omega)];rfl
theorem AI(its:List Value):slicePick its.toArray none none (some (-1))=its.reverse.toArray:=by
 unfold slicePick sliceBounds sliceRange;simp only[Option.getD_some,show ¬((-1:Int)>0) by decide,if_false,Zk]
 have hc:(if(its.length:Int)-1> -1 then((its.length:Int)-1 - -1 - -1-1) / - -1 else 0).toNat=its.length:=by
  split
  ·simp
  ·omega
 rw[hc];congr 1;have:=xG its _ (Zn _);rw[List.take_of_length_le (by simp)] at this;rw[<- this]
 simp
section
variable {X:Cx}{N:List Str}{sc:Scope}{G:Gs}
theorem yZ{vs:List V}{us:List Value}(h:Vals vs us):Vals vs.reverse us.reverse:=by
 induction h with
 |nil=>exact .nil
 |cons r _ ih=>
  rw[List.reverse_cons,List.reverse_cons];exact ih.append (.cons r .nil)
theorem CS{a:E}{x:Expr}{j:Nat}{p2 p3 p4 pos:Pos}(h_a:SE N sc G a x):SE N sc G (.rvs a) (.Subscript x (.Slice none none (some (.UnaryOp .USub (.Constant (.int 1) j p3) p4)) p2) pos):=λ{X ca cl} xo go=>by
 have h_b:SE N sc G (.neg (.int 1)) (.UnaryOp .USub (.Constant (.int 1) j p3) p4):=dR aA
 have p:PE X (.Subscript x (.Slice none none (some (.UnaryOp .USub (.Constant (.int 1) j p3) p4)) p2) pos) (TDE X.K (ev G cl (.rvs a))):=by
  intro pins s σ H Q I ⟨m,r,h,d,h',w,st,e,c⟩;rw[ev] at e;obtain⟨z,h1,ez,e⟩:=Rs.bind_ok e;unfold ER at e;split at e
  ·rename_i l hl el;cases e;refine Subscript_ (bM ((h_a xo go).1 pins s σ H (λv H1=>∃m1,Gr X.K m H m1 H1/\Wd X.K m1 h1 H1/\RD X.K m1 H1 z v) I ⟨m,r,h,z,h1,w,st,ez,λm' v H' g w' rv=>⟨m',g,w',rv⟩⟩) λv s1 ⟨vz,H1,I1,r1,m1,g1,w1,rz⟩=>?_)
   have eb:ev G cl (.neg (.int 1)) r h1=.ok (.int (-1)) h1:=by
    rw[ev,show ev G cl (.int 1) r h1=.ok (.int 1) h1 by rw[ev]<;>rfl];rfl
   refine wpAny_Slice ?_;rw[evalPart_none];refine Zb (Zb ?_);refine bM (jR (h_b xo go).1 pins s1 σ H1 (λo H2=>o=some (-1)/\∃m2,Gr X.K m1 H1 m2 H2/\Wd X.K m2 h1 H2) I1 ⟨m1,r,h1,_,h1,w1,st.mono g1,eb,λm' v H' g w' rv=>by cases rv;exact⟨_,rfl,rfl,m',g,w'⟩⟩) λvk s3 ⟨o,H3,I3,pk,eo,m3,g3,w3⟩=>?_;subst eo;obtain⟨pa,ws,rfl,hq,rw'⟩:=iT w3 (rz.mono g3) hl el;cases r1;have I4:Inv X pins σ H3 {s3 with heap:=s3.heap.push {cls:=.type "slice",data:=.fields #[.none,.none,vk]}}:=I3.kept (t':=s3.toks) λb ob q=>Zf _ q;obtain⟨its,p1,t1,hz⟩:=I4.list hq;show wpAny (model X.prog X.w) X.A (subscriptTail x (.Slice none none (some (.UnaryOp .USub (.Constant (.int 1) j p3) p4)) p2) (.ref pa) (.ref s3.heap.objs.size)) (EP X pins σ Q) X.xe {s3 with heap:=s3.heap.push {cls:=.type "slice",data:=.fields #[.none,.none,vk]}};refine tail_any (ops:= [.ref pa,.ref s3.heap.objs.size]) t1.isList.typeIs slot_list_getitem.lookup (wpAny_getItem_list_slice t1.isList (Heap.IsSliceOf.new ..) .none .none pk (by simp) ?_ (by rw[Zk, <- p1.length];exact hz)) (by with_unfolding_all rfl);rw[AI];have fr:=I4.hok.fresh (Zn _);obtain⟨w4,g4⟩:=w3.lstNew fr rw'.rev;exact⟨.ref _,_,I4.laid (t':=s3.toks) (o:=.lst ws.reverse) (λb ob q=>Zf _ q) (Zn _) ⟨by rw[List.length_reverse];exact hz,_,0,yZ p1,Heap.get?_push_size _ rfl⟩,rfl,c _ _ _ (g1.trans (g3.trans g4)) w4 (.ref (by rw[<- w3.len];simp))⟩
  ·cases e
 exact⟨p,hE p λ_=>rfl⟩
end
theorem oQ:∀{l:List (bQ×D)}{ks:List Str},oR l=some ks->l.map (·.1)=ks.map Sum.inr
 | [],ks,e=>by cases e;rfl
 |(.inl i,d)::r,ks,e=>by cases e
 |(.inr x,d)::r,ks,e=>by
  obtain⟨ks',e1,rfl⟩:=Option.map_eq_some_iff.mp (show(oR r).map (x:: ·)=some ks from e);rw[Zh,Zh,oQ e1]
theorem FL{kvs:List (bQ×V)}{vs:List (bQ×Value)}(h:KV kvs vs):kvs.map (·.1)=vs.map (·.1):=by
 induction h with
 |nil=>rfl
 |cons e _ ih=>rw[Zh,Zh,e.1,ih]
theorem vJ{K:W.Frag}{m:List Addr}{H:Hp}:∀ks:List Str,RDs K m H (ks.map D.str) (ks.map V.str)
 | []=>.nil
 |x::ks=>.cons (.str x) (vJ ks)
section
variable {X:Cx}{pins:List (Addr×Obj)}{σ:Sg}{H:Hp}{s:Shared}{mm:Str->Option Value}{Dn:Addr}
theorem BK{h2:Heap}{tk c:Nat}{us:List V}{its:List Value}(I:Inv X pins σ H s)(hn0:s.heap.Ns X.env.locals mm)(nD:∀b o,s.heap.get? b=some o->b≠Dn)(kp:∀b o,b≠X.env.locals->s.heap.get? b=some o->h2.get? b=some o)(ns:h2.Ns X.env.locals mm)(hv:Vals us its)(hz:us.length<=sizeLine)(ha:h2.get? Dn=some (seqObj "list" its.toArray c)):H Dn=none/\Inv X pins σ (bI H Dn (.lst us)) {s with heap:=h2,toks:=tk}:=by
 have HD:H Dn=none:=by
  cases e:H Dn with
  |none=>rfl
  |some o=>
   obtain⟨u,hu⟩:=iR (I.hok Dn o e);exact absurd rfl (nD Dn u hu)
 have tr:∀b u,H b=some u->b≠Dn/\b≠X.env.locals:=λb u e=>⟨(λz=>by rw[z,HD] at e;cases e),(λz=>by rw[z,I.free] at e;cases e)⟩;refine⟨HD,I.step (g':=s.gens) (d':=s.drawn) (ch:= []) (λ_ z=>nomatch z) (λb o hb _ _ e _=>kp b o hb e) (λb o hb _ _ e _=>⟨o.slots,kp b o hb e⟩) (λb o _ e n=>by rw[aK (nD b o e)];exact n) (λb o _ e=>?_) (λb xs e=>by rw[aK (tr b _ e).1];exact e) (λb o u e=>by rw[aK (tr b _ e).1];exact e) (λb ps e=>⟨#[],by rw[aK (tr b _ e).1,e];simp⟩) (λm' hm=>?_) (λb u e=>?_) I.bare⟩
 ·by_cases hb:b=X.env.locals
  ·subst hb;obtain⟨o',_,_,e',_⟩:=ns;exact⟨o',e'⟩
  ·exact⟨o,kp b o hb e⟩
 ·have:m'=mm:=funext λx=>hm.agree hn0 x;rw[this];exact ns
 ·by_cases hb:b=Dn
  ·subst hb;rw[aS] at e;cases e;exact⟨hz,its,c,hv,ha⟩
  ·rw[aK hb] at e;refine(I.hok b u e).stay (λb' u' hb' e'=>?_) (λb' e'=>by rw[aK (tr b' _ e').1];exact e') λb' xs e'=>by rw[aK (tr b' _ e').1];exact e'
   rcases hb' with z|z
   ·subst z;exact kp _ _ (tr _ _ e).2 e'
   ·exact kp _ _ (tr _ _ z).2 e'
theorem HI(hc:X.calm=true):dN X (.builtin "sorted") (LM X.K (one zS)):=by
 intro pins s σ H xs us Q I rs ⟨m,h,ds,d,h',w,r,e,c⟩;obtain⟨x,v,rfl,r1,e⟩:=gN r e;unfold zS at e;split at e<;>first |(cases e;done)|skip
 rename_i l el;split at e<;>first |(cases e;done)|skip
 rename_i ks ek;split at e<;>first |(cases e;done)|skip
 rename_i l' es;cases e;obtain⟨⟨h64,_⟩,hp,hs⟩:=pK es;rw[Zc] at h64;obtain⟨n,a,kvs,rfl,rfl,hn,ha,hH,q1,q2⟩:=dF w r1 el;obtain⟨u,rfl,ru⟩:=gE rs;cases ru;obtain⟨z,hsm,vs,rel,o,es',ep,dd⟩:=oW I.hok hH;have kk:=oQ ek
 have ln:vs.length=ks.length:=by
  have h1:=congrArg List.length q1;have h2:=congrArg List.length kk;have h3:=rel.length;simp at h1 h2;omega
 have kkv:vs.map (·.1)=ks.map Sum.inr:=by rw[<- kk,q1];exact(FL rel).symm
 obtain⟨mm,F⟩:=I.fr;refine W.kdu_sorted (W.kdl_dict (knd:=bX X.prog X.w) (kvs:=vs) (ep:=ep) hsm) (I.ok.hd hc) F (rQ (g:=X.base)) ⟨o,es',dd⟩ (by rw[ln,sizeLine_eq];omega) λDn g tk its F' N' lD hl hv=>?_
 have hit:∀i k,ks[i]? =some k->∃t,its[i]? =some (Value.str k t):=λi k e1=>by
  have hi:i<its.length:=by rw[hl,ln];exact(Ze.mp e1).1
  obtain⟨k',y,f1,f2⟩:=hv i _ (Zd hi)
  have f3:k'=.inr k:=by
   have:=congrArg (λz=>z[i]?) kkv;simp only[Zi,f1,e1] at this;exact Zg this
  subst f3;rw[mR] at f2;rcases bN f2 with ⟨j,t,g1,g2⟩|⟨j,t,g1,g2⟩
  ·cases g1
  ·cases g1;exact⟨t,by rw[Zd hi,g2]⟩
 have lit:its.length=ks.length:=by rw[hl,ln]
 have vl:Vals (ks.map V.str) its:=vD (by rw[Zc,lit]) λi u e1=>by
  have hi:i<ks.length:=by rw[<- lit];exact(Ze.mp e1).1
  obtain⟨t,f1⟩:=hit i _ (Zd hi);rw[e1] at f1;cases f1;exact⟨.str ks[i],by rw[Zi,Zd hi];rfl,t,rfl⟩
 have q:RDs X.K m H (ks.map D.str) (ks.map V.str):=vJ ks;have D0:=N' (Dn,W.listOf its.toArray 0) Zl
 have nD:∀b o,s.heap.get? b=some o->b≠Dn:=λb o e z=>by
  subst z;exact Nat.lt_irrefl _ (lD (b,o) (dJ D0.2.1 D0.2.2 e))
 have kpN:∀{h2:Heap}{o2:Obj},Fr X.base X.env.locals h2 mm->News X.base X.env.locals h2 ((Dn,o2)::iG X.base s.heap X.env.locals)->∀b o,b≠X.env.locals->s.heap.get? b=some o->h2.get? b=some o:=λ{h2 o2} F2 N2 b o hb e=>by
  cases z:X.base.get? b with
  |some u=>
   have:=I.bk b u z;rw[e] at this;cases this;exact F2.keep b _ z
  |none=>exact(N2 (b,o) (Zj _ (dJ hb z e))).1
 have fin:∀{h2:Heap}{c2:Nat}{us:List V}{its':List Value},Fr X.base X.env.locals h2 mm->News X.base X.env.locals h2 ((Dn,W.listOf its'.toArray c2)::iG X.base s.heap X.env.locals)->RDs X.K m H l' us->Vals us its'->us.length<=sizeLine->EP X pins σ Q (.ref Dn) {s with heap:=h2,toks:=tk}:=λ{h2 c2 us its'} F2 N2 rd v2 hz=>by
  obtain⟨HD,I2⟩:=BK (tk:=tk) I F.ns nD (kpN F2 N2) F2.ns v2 hz (N2 _ Zl).1;obtain⟨w2,g2⟩:=w.lstNew HD rd;exact⟨.ref Dn,_,I2,rfl,c _ _ _ g2 w2 (.ref (by rw[<- w.len];simp))⟩
 by_cases h2:2<=ks.length
 ·refine W.kat_lsort (its:=its.toArray) F' N' (.head λp hp z=>?_) rfl (by rw[List.toList_toArray];omega) (by rw[List.toList_toArray];omega) λe1 g2 F2 N2=>?_
  ·exact absurd (lD p hp) (by rw[z];exact Nat.lt_irrefl _)
  rw[List.toList_toArray];refine W.kas_kind (T:=.type "str") (by omega) (λu hu=>?_) (by decide) (by decide) ?_
  ·obtain⟨i,hi,rfl⟩:=List.mem_iff_getElem.mp hu;obtain⟨t,f1⟩:=hit i _ (Zd (by omega));rw[Zd hi] at f1;rw[Zg f1];exact .now
  ·let L:Nat->Nat->Bool:=λi j=>decide (i≠j)&&(kM ((ks.map D.str).getD i .non) ((ks.map D.str).getD j .non)==some true)
   have hne:∀i,L i i=false:=λi=>by simp[L]
   have hL':∀(i j:Nat)(x y:D),(ks.map D.str)[i]? =some x->(ks.map D.str)[j]? =some y->i≠j->(L i j=true↔kM x y=some true):=λi j x y ex ey ne=>by
    simp only[L,ne,ne_eq,not_false_eq_true,decide_true,Bool.true_and,List.getD_eq_getElem?_getD,ex,ey,Option.getD_some,beq_iff_eq]
   have so:=IP hp hs hne hL';rw[Zc] at so;rw[lit];refine KOk.wp (λi j C hi hj ne hC=>?_) (vF so h2) λp ⟨hv,hsd⟩=>?_
   ·obtain⟨t1,b1⟩:=hit i _ (Zd hi);obtain⟨t2,b2⟩:=hit j _ (Zd hj);have ex:(ks.map D.str)[i]? =some (.str ks[i]):=by rw[Zi,Zd hi];rfl
    have ey:(ks.map D.str)[j]? =some (.str ks[j]):=by rw[Zi,Zd hj];rfl
    have eL:L i j=decide (ks[i].cps.toList<ks[j].cps.toList):=by
     have z:=hL' i j _ _ ex ey ne;have lt:kM (.str ks[i]) (.str ks[j])=some (decide (ks[i].cps.toList<ks[j].cps.toList)):=rfl;rw[lt] at z;cases y:L i j with
     |true=>exact(Zg (z.mp y)).symm
     |false=>
      cases y2:decide (ks[i].cps.toList<ks[j].cps.toList) with
      |false=>rfl
      |true=>rw[y2] at z;rw[z.mpr rfl] at y;cases y
    show wpAny _ _ (keyLt' _ (its.getD i Value.none) (its.getD j Value.none)) C _ _;rw[eX b1,eX b2];rw[eL] at hC;exact W.kas_lt_str hC
   ·have hv':PV (ks.map D.str).length p:=by rw[Zc];exact hv
    have hsd':Sd L p (ks.map D.str).length:=by rw[Zc];exact hsd
    have pl:∀i∈p.toList,i<(ks.map D.str).length:=λi hi=>List.mem_range.mp (hv'.mem_iff.mp hi);have out:=AZ hp hs hL' hv' hsd' D.non;have rd:=q.pick p.toList pl;rw[out] at rd;have v2:=kB vl p.toList (λi hi=>by have:=pl i hi;simp at this⊢;omega);have hz:=hv.size;refine W.KasFin.intro F2 N2 (.head λp hp z=>absurd (lD p hp) (by rw[z];exact Nat.lt_irrefl _)) λg3 c3 F3 N3=>?_;exact fin F3 N3 rd v2 (by rw[Zc,Array.length_toList,hz,sizeLine_eq];omega)
 ·have e2:l'=ks.map D.str:=by
   have hlen:=hp.length_eq;rw[Zc] at hlen
   match l',ks,h2,hlen,hp with
   | [],[],_,_,_=>rfl
   | [_],[_],_,_,hp=>exact List.perm_singleton.mp hp
   | [],_::_,_,hl,_=>simp at hl
   |_::_,[],_,hl,_=>simp at hl
   |_::_::_,[_],_,hl,_=>simp at hl
   |_,_::_::_,h2,_,_=>exact absurd (by simp) h2
  have o1:g.get? Dn=some (seqObj "list" its.toArray 0):=D0.1;refine wpAny_call_entry slot_list_sort ⟨_,o1,rfl⟩ entry_list_sort (oO o1 (by omega) ?_) (args_list_sort _);have old:∀b o,b≠Dn->g.get? b=some o->(sortedHeap g Dn its its.toArray).get? b=some o:=λb o hb e=>by rw[sortedHeap_old hb (Heap.lt_size e)];exact e
  obtain⟨c2,at2⟩:=sortedHeap_at (out:=its.toArray) o1
  have F2:Fr X.base X.env.locals (sortedHeap g Dn its its.toArray) mm:=⟨by
   obtain⟨o,es,ep,f1,f2⟩:=F'.ns;exact⟨o,es,ep,old _ _ (Ne.symm D0.2.1) f1,f2⟩,λb o e=>old b o (λz=>by rw[z,D0.2.2] at e;cases e) (F'.keep b o e),F'.above⟩
  refine⟨_,rfl,fin (c2:=c2) (its':=its) F2 (λp hp=>?_) (by rw[e2];exact q) vl (by rw[Zc,sizeLine_eq];omega)⟩;rcases List.mem_cons.mp hp with rfl|hp
  ·exact⟨at2,D0.2.1,D0.2.2⟩
  ·have z:=N' p (Zj _ hp);exact⟨old _ _ (λy=>absurd (lD p hp) (by rw[y];exact Nat.lt_irrefl _)) z.1,z.2⟩
end
section
variable {N:List Str}{sc:Scope}{G:Gs}
theorem CQ{a:E}{y:Expr}{np pos:Pos}(h2:lE sc "sorted"=true)(h3:dQ y=true)(h_a:SE N sc G a y):SE N sc G (.sdk a) (.Call (.Name "sorted" np) [y] [] pos):=λ{X ca cl} xo go=>by
 have hl:=pN h3 h_a (aB (N:=N) (sc:=sc) (G:=G))
 have p:PE X (.Call (.Name "sorted" np) [y] [] pos) (TDE X.K (ev G cl (.sdk a))):=(mL (HI xo.calm) (cR xo h2) (go.blt .sorted) (nR .sorted) (hl.2 xo go) (by decide+kernel) (by decide+kernel) (aW [] h3) (dE pos rfl)).wk λs H Q ⟨m,r,hh,d,h',w,st,e1,cc⟩=>by
  rw[ev] at e1;obtain⟨x,h1,e0,e1⟩:=Rs.bind_ok e1;refine⟨m,r,hh,[x],h1,w,st,?_,λm' vs H' g w' rd=>⟨m',h1,[x],d,h',w',rd,e1,λm2 v H2 g2=>cc m2 v H2 (g.trans g2)⟩⟩;rw[cJ,e0];rfl
 exact⟨p,hE p λ_=>rfl⟩
end
section
variable {N:List Str}{sc:Scope}{G:Gs}
theorem HJ{X:Cx}:dN X (.type "dict") (LM X.K (one CN)):=by
 intro pins s σ H xs us Q I rs ⟨m,h,ds,d,h',w,r,e,c⟩;obtain⟨x,v,rfl,r1,e⟩:=gN r e;unfold CN at e;split at e<;>first |(cases e;done)|skip
 rename_i l el;cases e;obtain⟨n,a,kvs,rfl,rfl,hn,ha,hH,q1,q2⟩:=dF w r1 el;obtain⟨u,rfl,ru⟩:=gE rs;cases ru;obtain⟨z,hs,vs,rel,dd⟩:=oW I.hok hH;have ln:vs.length=kvs.length:=rel.length.symm;refine PySem.kt_call_dict hs dd (by omega) λg dg sb=>?_;have fr:H s.heap.objs.size=none:=I.hok.fresh (Zn _);have I1:Inv X pins σ (bI H s.heap.objs.size (.dK kvs)) {s with heap:=g}:=I.laid (t':=s.toks) (λb o q=>sb.extBut b o (Nat.ne_of_lt (Heap.lt_size q)) (Zf _ q)) (Zn _) ⟨z,beq_eq_false_iff_ne.mpr (Ne.symm (Nat.ne_of_lt I.big)),vs,rel,dg⟩;obtain⟨w2,g2⟩:=w.objNew (o:=.dct l) (u:=.dK kvs) fr λg=>⟨kvs,aS,q1,q2.mono g⟩;exact⟨.ref _,_,I1,rfl,c _ _ _ g2 w2 (.ref (by rw[<- w.len];simp))⟩
theorem OG{a:E}{y:Expr}{np pos:Pos}(h2:lE sc "dict"=true)(h3:dQ y=true)(h_a:SE N sc G a y):SE N sc G (.dcp a) (.Call (.Name "dict" np) [y] [] pos):=λ{X ca cl} xo go=>by
 have hl:=pN h3 h_a (aB (N:=N) (sc:=sc) (G:=G))
 have p:PE X (.Call (.Name "dict" np) [y] [] pos) (TDE X.K (ev G cl (.dcp a))):=(oI HJ (cR xo h2) (go.ty .dict) (wP .dict) (hl.2 xo go) (pI .dict).2 (pI .dict).1 (aW [] h3) (dE pos rfl)).wk λs H Q ⟨m,r,hh,d,h',w,st,e1,cc⟩=>by
  rw[ev] at e1;obtain⟨x,h1,e0,e1⟩:=Rs.bind_ok e1;refine⟨m,r,hh,[x],h1,w,st,?_,λm' vs H' g w' rd=>⟨m',h1,[x],d,h',w',rd,e1,λm2 v H2 g2=>cc m2 v H2 (g.trans g2)⟩⟩;rw[cJ,e0];rfl
 exact⟨p,hE p λ_=>rfl⟩
theorem HA{o a:E}{l0:Expr}{ap cp:Pos}{y:Expr}(hb:∀env:Env,attributeBase l0 "append" env (eval l0 env)=eval l0 env)(h2:(ap.endLine==cp.line)=true)(h3:dQ y=true)(h_o:SE N sc G o l0)(h_a:SE N sc G a y):SE N sc G (.app o a) (.Call (.Attribute l0 "append" ap) [y] [] cp):=λ{X ca cl} xo go=>by
 have ho:=(h_o xo go).1;have hA:PA X [y] (jN (TDE X.K (ev G cl a)) mD):=eR ((h_a xo go).1) iQ (aW [] h3)
 have p:PE X (.Call (.Attribute l0 "append" ap) [y] [] cp) (TDE X.K (ev G cl (.app o a))):=(IY PySem.F.plainAttrs_list PySem.F.slot_list_append PySem.F.type_list_append kL ho hA (hb X.env) (by rw[aW [] h3];rfl) h2 (aW [] h3) rfl).wk λs H Q q=>by
  refine TDE.one (λ_ _=>rfl) q λm m2 r d h2 h' H2 dx v st g w2 st2 rx e c=>?_;split at e
  ·rename_i hl;obtain⟨dy,h3,e3,e⟩:=Rs.bind_ok e;cases rx<;>first |(cases e;done)|skip
   case ref n a' ha eb=>
    simp only[nS] at e;split at e<;>first |(cases e;done)|skip
    rename_i l el;split at e<;>first |(cases e;done)|skip
    rename_i hz;cases e;have hl':∃l0,aI h2 n=some l0:=Option.isSome_iff_exists.mp hl;obtain⟨l00,hl'⟩:=hl';obtain⟨a'',vs0,ha'',hq,_⟩:=w2.lst hl';rw[ha] at ha'';cases ha'';refine⟨.inl ⟨rfl,vs0,hq⟩,m2,r,h2,dy,h3,w2,st2,e3,λm3 y' H3 g3 w3 ry=>?_⟩;have ha3:=g3.pre _ _ ha;obtain⟨vs,hv,rv⟩:∃vs,H3 a'=some (.lst vs)/\RDs X.K m3 H3 l vs:=w3.ob n _ a' el ha3;obtain⟨_,w4,g4⟩:=w3.lstSet el ha3 (rv.append (.cons ry .nil));exact⟨a',vs,y',rfl,rfl,hv,by rw[<- rv.length];exact Nat.lt_of_lt_of_le hz (by decide),c m3 _ _ (g3.trans g4) w4 .non⟩
  ·cases e
 exact⟨p,hE p λ_=>rfl⟩
end
noncomputable def DZ(d:Addr)(o:Obj)(ks:List (V×V)):It:=
 ⟨λi H=>H d=some (.frz o (.own d))/\i<ks.length,λi H x H'=>∃p k v,H p=none/\ks[i]? =some (k,v)/\x=.ref p/\H'=bI H p (.tup [k,v]),λi H=>H d=some (.frz o (.own d))/\ks.length<=i⟩
theorem zF{P:Program}{w:World}{K:W.Frag}{elts:List Expr}{x1:Nat}{pos:Pos}{d it:Addr}{o:Obj}{es:Array DictEntry}{ep:Nat}{ks:List (V×V)}(ho:o.data=.dict es ep)(hn:es.size=ks.length)(hk:∀(i:Nat) k v,ks[i]? =some (k,v)->∃en,es[i]? =some en/\RelV k en.key/\RelV v en.val):
 Turn P w K (.Tuple elts x1 pos) (DZ d o ks) [it] it (λi h=>∃q1 q2,IsItemIter h it d i ks.length ep q1 q2) where
 mem:=by simp
 obj:=λi h st b hb=>by
  have e:b=it:=by simpa using hb
  subst e;obtain⟨q1,q2,e⟩:=st;exact⟨_,e,λv z=>nomatch z⟩
 keep:=λi h h' ⟨q1,q2,e⟩ k=>⟨q1,q2,k it (by simp) _ e⟩
 item:=by
  intro X hP hw hK hc i pins s σ H E I hf st hg;subst hP hw hK;obtain⟨q1,q2,st⟩:=st;obtain⟨hd,hi⟩:=hg;obtain⟨f0,f1,f2,f3,f4,f5⟩:=hf it (by simp);obtain⟨⟨k,v⟩,hkv⟩:∃p,ks[i]? =some p:=⟨_,Zd hi⟩;obtain⟨en,e1,e2,e3⟩:=hk i k v hkv;have od:s.heap.get? d=some o:=(show ObjOk X.prog X.w H s.heap d (.frz o (.own d)) from I.hok d _ hd).1;have il:it<s.heap.objs.size:=Heap.lt_size st;refine rX st od ho hn e1 λg h1 h2 h3 h4=>⟨.ref s.heap.objs.size,rfl,?_⟩;refine wpAny_letOwnedTupleGo_items h1 λg2 h5 h6=>?_;have hp:H s.heap.objs.size=none:=I.hok.fresh (Zn _)
  have I1:Inv X pins σ (bI H s.heap.objs.size (.tup [k,v])) {s with heap:=s.heap.push {cls:=.type "tuple",data:=.seq #[en.key,en.val]}}:=
   I.laid (t':=s.toks) (o:=.tup [k,v]) (λb u q=>Zf _ q) (Zn _) ⟨by show 2<=sizeLine;decide,[en.key,en.val],.cons e2 (.cons e3 .nil),IsTup.new _ _⟩
  have ne:it≠s.heap.objs.size:=Nat.ne_of_lt il
  have I2:Inv X pins σ (bI H s.heap.objs.size (.tup [k,v])) {s with heap:=g2}:=L2.Inv.turned (s:={s with heap:=s.heap.push {cls:=.type "tuple",data:=.seq #[en.key,en.val]}}) (h':=g2) (t':=s.toks) (it:=it) I1 (λb u hb q=>by
   have q0:(s.heap.push {cls:=.type "tuple",data:=.seq #[en.key,en.val]}).get? b=some u:=q
   by_cases z:b=s.heap.objs.size
   ·subst z;have q':some {cls:=.type "tuple",data:=.seq #[en.key,en.val]}=some u:=(Heap.get?_push_size s.heap rfl).symm.trans q0;rw[<- q'];exact h6.extBut _ _ hb h2
   ·rw[Heap.get?_push_ne _ _ _ z] at q0;exact h6.extBut b u hb (h4 b u hb q0)) (by rw[aK ne];exact f0) f1 f3 f4 f5
  exact⟨.ref s.heap.objs.size,_,I2,rfl,⟨_,k,v,hp,hkv,rfl,rfl⟩,⟨_,_,h5⟩,λb hb=>by
   have e:b=it:=by simpa using hb
   subst e;rw[aK ne];exact f0⟩
 done:=by
  intro X hP hw hK hc i pins s σ H E I hf st hg;subst hP hw hK;obtain⟨q1,q2,st⟩:=st;obtain⟨hd,hi⟩:=hg;obtain⟨f0,f1,f2,f3,f4,f5⟩:=hf it (by simp);have od:s.heap.get? d=some o:=(show ObjOk X.prog X.w H s.heap d (.frz o (.own d)) from I.hok d _ hd).1;exact vU (I.ok.hd hc) st od ho hn hi λg eb=>⟨rfl,I.turned (t':=s.toks) (λb o hb e=>eb b o hb e) f0 f1 f3 f4 f5⟩
 self:=λ_ _ _ _ _ ⟨q1,q2,st⟩ h=>W.kcp_self st h
section
variable {X:Cx}{elts:List Expr}{x1:Nat}{tp:Pos}
noncomputable def XS(K:W.Frag)(tl:TE):TI:=λσ H R=>tl σ H λx H1=>∃d kvs,x=.ref d/\H1 d=some (.dK kvs)/\∀o,R (DZ d o (kvs.map λp=>(kV p.1,p.2))) (bI H1 d (.frz o (.own d)))
theorem AL{l:Expr}{ap cp:Pos}{tl:TE}(hb:∀env:Env,attributeBase l "items" env (eval l env)=eval l env)(h2:(ap.endLine==cp.line)=true)(hl:PE X l tl):PI X (.Tuple elts x1 tp) (.Call (.Attribute l "items" ap) [] [] cp) (XS X.K tl):=by
 intro pins s σ H R I h;refine wpAny_Call_method0_late (hb X.env) h2 (bM (hl pins s σ H _ I h) λu s1 ⟨v,H1,I1,rv,q⟩=>?_);obtain⟨d,kvs,rfl,hH,q⟩:=q;cases rv;obtain⟨z,hs,vs,rel,o,es,ep,d3,d4,d5,d6,d7,d8⟩:=oW I1.hok hH;have ty:s1.TypeIs (.ref d) "dict":=⟨o,d3,d4.1⟩;refine⟨"dict","dict.items",PySem.F.plainAttrs_dict,PySem.F.slot_dict_items,PySem.F.type_dict_items,ty,λb q=>by cases q;exact⟨o,d3,d4.2.1⟩,Calls.callWith_builtin rfl (PySem.evalArgs_none ?_)⟩;refine call_meetsIn PySem.F.slot_dict_items ty PySem.F.entry_dict_items (PySem.F.args_dict_items_1 _) (kX d hs) ⟨ty,?_⟩;have k1:∀b u,s1.heap.get? b=some u->(s1.heap.push {cls:=.type "dict_items",data:=.fields #[.ref d]}).get? b=some u:=λb u q=>Zf _ q;have I2:=I1.kept (t':=s1.toks) k1;refine rY (ov:={cls:=.type "dict_items",data:=.fields #[.ref d]}) (od:=o) (es:=es) (ep:=ep) (Heap.get?_push_size _ rfl) rfl rfl (k1 _ _ d3) d5 ?_;generalize hs2:(s1.heap.push {cls:=.type "dict_items",data:=.fields #[.ref d]})=g2 at I2 k1⊢;have d3':=k1 _ _ d3;have k2:∀b u,g2.get? b=some u->(g2.push {cls:=.type "dict_itemiterator",data:=.fields #[.none,.bool false,.ref d,.int 0 0,.int es.size 0,.int ep 0,.none,.none]}).get? b=some u:=λb u q=>Zf _ q;have I3:=L2.Inv.kept (s:={s1 with heap:=g2}) (t':=s1.toks) I2 k2;have I4:=eZ (a:=d) (ob:=.frz o (.own d)) (t':=s1.toks) I3 (by rw[hH];exact True.intro) ⟨rfl,λ_ _=>rfl⟩ ⟨o,k2 _ _ d3'⟩ ⟨k2 _ _ d3',o,k2 _ _ d3'⟩;have l1:es.toList.length=vs.length:=d7.length;have l2:=rel.length
 have esz:es.size=(kvs.map λp=>(kV p.1,p.2)).length:=by
  rw[Zc];have:es.toList.length=es.size:=Array.length_toList;omega
 have hit:(bI H1 d (.frz o (.own d))) g2.objs.size=none:=by
  have:=I2.hok.fresh (Zn g2.objs.size);rw[aK (Ne.symm (Nat.ne_of_lt (Heap.lt_size d3')))];exact this
 have ent:∀{l:List DictEntry}{ks:List (bQ×V)}{ws:List (bQ×Value)},Pairs (bX X.prog X.w) l ws->KV ks ws->∀(i:Nat) p,ks[i]? =some p->∃en,l[i]? =some en/\RelV (kV p.1) en.key/\RelV p.2 en.val:=by
  intro l
  induction l with
  |nil=>
   intro ks ws h1 h2 i p e;cases h1;cases h2;simp at e
  |cons en l ih=>
   intro ks ws h1 h2 i p e;cases h1 with
   |cons c1 c2 c3=>
   cases h2 with
   |cons e1 e2=>
   cases i with
   |zero=>
    simp at e;subst e;refine⟨en,rfl,?_,by rw[c2];exact e1.2⟩;rw[mR] at c1;rw[e1.1];rcases bN c1 with ⟨j,t,f1,f2⟩|⟨x,t,f1,f2⟩
    ·rw[f1,f2];exact⟨t,rfl⟩
    ·rw[f1,f2];exact⟨t,rfl⟩
   |succ i=>exact ih c3 e2 i p (by simpa using e)
 refine⟨g2.objs.size,[g2.objs.size],_,DZ d o (kvs.map λp=>(kV p.1,p.2)),_,rfl,I4,zF (it:=g2.objs.size) d5 esz (λi k v e=>?_),⟨.none,.none,by rw[<- esz];exact Heap.get?_push_size _ rfl⟩,λb hb=>?_,q o⟩
 ·rw[Zi,Option.map_eq_some_iff] at e;obtain⟨p,ep',e⟩:=e;obtain⟨e1,e2⟩:=Prod.mk.inj e;subst e1 e2;obtain⟨en,f1,f2,f3⟩:=ent d7 rel i p ep';exact⟨en,by rw[<- Array.getElem?_toList];exact f1,f2,f3⟩
 ·have e:b=g2.objs.size:=by simpa using hb
  subst e;exact L2.Inv.fpOk I2 (Zn _) hit
end
section
variable {K:W.Frag}{Wx:Ws}
theorem GE{t:Tg}{body:Ev->Hh->Rs Fl}{Z:Ends}{m0:List Addr}{H0:Hp}{h0:Hh}{l:List (bQ×D)}{kvs:List (bQ×V)}{r0:Ev}{s0:Sg}{d:Addr}{o:Obj}
 (w:Wd K m0 h0 H0)(st:RSt K m0 H0 r0 s0)(hd:H0 d=some (.frz o (.own d)))(q1:l.map (·.1)=kvs.map (·.1))(q2:RDs K m0 H0 (l.map (·.2)) (kvs.map (·.2)))(e:OutS K Wx m0 H0 Z (dA t body (l.map λp=>D.tup [qO p.1,p.2]) r0 h0)):
 ∃Wv:Nat->Nat->Sg->Hp->Prop,(∃m,Wv 0 m s0 H0)/\∀i m s H,Wv i m s H->
  ((DZ d o (kvs.map λp=>(kV p.1,p.2))).stop i H/\Z.nx s H)\/((DZ d o (kvs.map λp=>(kV p.1,p.2))).go i H/\∃P:Sg->Hp->Prop,(∀s' H',P s' H'->∃m',m'<m/\Wv (i+1) m' s' H')/\∀x H',(DZ d o (kvs.map λp=>(kV p.1,p.2))).yld i H x H'->sU K t x s H' λs2 H2=>TDS K Wx body {Z with nx:=P,ct:=P,bk:=Z.nx} s2 H2):=by
 have ll:l.length=kvs.length:=by have:=congrArg List.length q1;simpa using this
 let ds:List D:=l.map λp=>D.tup [qO p.1,p.2]
 have dl:ds.length=l.length:=by simp[ds]
 refine⟨λi k s H=>k=l.length-i/\∃m r h,Gr K m0 H0 m H/\Wd K m h H/\RSt K m H r s/\OutS K Wx m H Z (dA t body (ds.drop i) r h),⟨l.length,by omega,m0,r0,h0,.refl,w,st,e⟩,?_⟩;rintro i k s H ⟨hk,m,r,h,g,w1,st1,e1⟩
 by_cases hi:i<l.length
 ·have hkv:i<kvs.length:=by omega
  refine .inr ⟨⟨g.frz _ _ _ hd,by rw[Zc];exact hkv⟩,λs' H'=>∃m r h,Gr K m0 H0 m H'/\Wd K m h H'/\RSt K m H' r s'/\OutS K Wx m H' Z (dA t body (ds.drop (i+1)) r h),λs' H' hP=>⟨_,by omega,rfl,hP⟩,?_⟩;rintro x H' ⟨p,kk,vv,y1,y2,y3,y4⟩;rw[Zi,Zd hkv] at y2;obtain⟨z1,z2⟩:=Prod.mk.inj (Zg y2);subst y3 y4 z1 z2;have gt:=Gr.tupNew (K:=K) (m:=m) (o:=.tup [kV kvs[i].1,kvs[i].2]) y1
  have rd2:RD K m0 H0 l[i].2 kvs[i].2:=by
   obtain⟨v,hv,rv⟩:=q2.get (i:=i) (d:=l[i].2) (by rw[Zi,Zd hi];rfl);rw[Zi,Zd hkv] at hv;cases hv;exact rv
  have ek:l[i].1=kvs[i].1:=by
   have:=congrArg (λz:List bQ=>z[i]?) q1;simp only[Zi,Zd hi,Zd hkv] at this;exact Zg this
  have rk:RD K m (bI H p (.tup [kV kvs[i].1,kvs[i].2])) (qO l[i].1) (kV kvs[i].1):=by
   rw[ek];cases kvs[i].1 with
   |inl j=>exact .int j
   |inr x=>exact .str x
  have ed:ds.drop i=D.tup [qO l[i].1,l[i].2]::ds.drop (i+1):=by
   rw[List.drop_eq_getElem_cons (by omega)];simp[ds]
  rw[ed] at e1;exact zG (w1.keepNew y1) (st1.mono gt) (.tup (.of aS) (.cons rk (.cons ((rd2.mono g).mono gt) .nil))) (OutS.mono gt e1) λm2 H2 r2 h2 s2 g2 w2 st2 e2=>⟨m2,r2,h2,(g.trans gt).trans g2,w2,st2,e2⟩
 ·rw[List.drop_of_length_le (by omega)] at e1;exact .inl ⟨⟨g.frz _ _ _ hd,by rw[Zc];omega⟩,e1 m H .refl w1 s st1⟩
end
section
variable {N:List Str}{sc:Scope}{G:Gs}
theorem GW{t:Tg}{a:E}{b:Ss}{es:List Expr}{k:Nat}{tp:Pos}{l:Expr}{x:List Stmt}{ap cp pos:Pos}(hg:∀{X:Cx},XOk X N sc->(∀x,X.fn x=true)->PG X (.Tuple es k tp) (sU X.K t))(hb:∀env:Env,attributeBase l "items" env (eval l env)=eval l env)(h2:(ap.endLine==cp.line)=true)(h_a:SE N sc G a l)(h_b:eM N sc G b x):
 SS N sc G (.forr t (.its a) b) (.For (.Tuple es k tp) (.Call (.Attribute l "items" ap) [] [] cp) x [] pos):=λ{X ca cl W Wx rz} xo go hfn xx hz=>by
 have p1:=pQ xo.po xo.calm (AL hb h2 (h_a xo go).1) (hg xo hfn) (h_b (W:=W) xo go hfn xx hz) (λ_=>rfl) (pos:=pos);intro pins s σ H Z I ⟨m,r,hh,w,st,o⟩;rw[xs] at o;obtain⟨dx,h5,e0,o⟩:=o.nx;obtain⟨n,rfl⟩:∃n,dx=.ref n:=by cases dx<;>first |exact⟨_,rfl⟩|exact o.elim
 have o':OutS X.K Wx m H Z (match h5[n]? with|some (.dct l)=>dA t (bR G cl W b) (l.map λp=>D.tup [qO p.1,p.2]) r (h5.set n .ded)|_=>.bad):=o;split at o'
 ·rename_i dl en;refine p1 pins s σ H Z I ⟨m,r,hh,.ref n,h5,w,st,e0,λm2 y H2 g2 w2 ry=>?_⟩;cases ry with
  | @ref _ d ha=>
    obtain⟨us,q1,q2,q3⟩:RO X.K m2 H2 d (.dct dl):=w2.ob n _ d en ha;refine⟨d,us,rfl,q1,λoo=>?_⟩;obtain⟨w3,g3⟩:=w2.objSet (o':=.ded) (u:=.frz oo (.own d)) en rfl ha λ_=>trivial;exact GE w3 ((st.mono g2).mono g3) aS q2 (q3.mono g3) (OutS.mono (g2.trans g3) o')
 ·exact o'.elim
end
section
variable {N:List Str}{sc:Scope}{G:Gs}
theorem OA{i:Nat}{cn x:Str}{f:Nat}{l:Es}{xp np pos spos:Pos}{a:Expr}{as:List Expr}(hG:(cn,f)∈G.news)(ht:uQ N sc (.nm i) (.Name x xp)=true)(h:(lE sc cn&&cS cn)=true)(h_l:uZ N sc G l (a::as)):SS N sc G (.asN i cn f l) (.Assign [.Name x xp] (.Call (.Name cn np) (a::as) [] pos) spos):=λ{X ca cl W Wx rz} xo go hfn xx hz=>by
 rw[Bool.and_eq_true] at h;have pg:=LW xo hfn (t:=.nm i) ht;refine(pR (AR xo go hfn xx hG h.1 h.2 h_l) pg rfl rfl rfl).wk λZ s H q=>?_;refine TDS.oneX (k:=λr x h=>.ok (.nx (r.set i (some x))) h) (λr h=>by rw[xs];cases cJ G cl l r h<;>rfl) q λm2 r h2 H2 dx v w2 st2 rx o=>?_;exact⟨m2,_,r,dx,_,w2,st2,rx,rfl,λs' st'=>o m2 H2 .refl w2 s' st'⟩
theorem AO{X:Cx}{ca:Nat->Addr}{cl:Cl}{Wx:Ws}{rz:Bool}(xo:XOk X N sc)(go:GOk X G ca cl)(hfn:∀x,X.fn x=true)(xx:XX X ca Wx rz){o:E}{cn mt:Str}{f:Nat}{l:Es}{e y:Expr}{ys:List Expr}{ap cp:Pos}(hG:(cn,mt,f)∈G.meths)(ht:VM e mt ap cp (y::ys))(h_o:SE N sc G o e)(h_l:uZ N sc G l (y::ys)):
 PE X (.Call (.Attribute e mt ap) (y::ys) [] cp) (VI X.K Wx λr h=>(ev G cl o r h).nx.bind λx h=>if fK x cn mt h=true then(cJ G cl l r h).nx.bind λds h=>cl f (x::ds) h else .bad):=by
 obtain⟨C,fa,fd,ps,k,hC,cls,hm,F,hr,hb,hlen⟩:=go.c.meth _ hG;have hns:=h_l.1;rw[List.all_cons,Bool.and_eq_true] at hns;obtain⟨pl,ht⟩:=ht X.env;intro pins s σ H Q I ⟨m,r,h,w,st,oo⟩;cases e0:ev G cl o r h with
 |bad=>simp only[e0] at oo;exact oo.elim
 |exc c rr hh=>simp only[e0] at oo;exact oo.elim
 |ok dx h1=>
 simp only[e0] at oo
 by_cases hmt:fK dx cn mt h1=true
 case neg=>simp only[Rs.nx,Rs.bind,if_neg hmt] at oo
 simp only[Rs.nx,Rs.bind,if_pos hmt] at oo;cases e1:cJ G cl l r h1 with
 |bad=>simp only[e1] at oo
 |exc c rr hh=>simp only[e1] at oo
 |ok ds hh=>
 simp only[e1] at oo;have o':(match cl f (dx::ds) hh with|.ok d h'=>∀m' v H',Gr X.K m H m' H'->Wd X.K m' h' H'->RD X.K m' H' d v->Q v H'|.exc c _ h'=>∀m' H',Gr X.K m H m' H'->Wd X.K m' h' H'->Wx c σ H'|.bad=>False):=oo;refine W.methodCall_KW (pl:=pl) (bM ((h_o xo go).1 pins s σ H (λx H1=>∃m1,Gr X.K m H m1 H1/\Wd X.K m1 h1 H1/\RD X.K m1 H1 dx x) I ⟨m,r,h,dx,h1,w,st,e0,λm' v H' g w' rv=>⟨m',g,w',rv⟩⟩) λu s1 ⟨x,H1,I1,rx,m1,g1,w1,rd⟩=>?_) ht;obtain⟨a,dx',us0,rfl,q2,q3⟩:=tO w1 rd hC hmt;obtain rfl:u=Value.ref a:=rx;refine iX I1 q2 cls hm q3 ?_;refine W.callWith_K (first:= [.ref a]) (h₀:=X.base) I.ok.mod.kin hm.kp (bM (h_l.2 xo go cp pins s1 σ H1 (λvs H2=>∃m2,Gr X.K m1 H1 m2 H2/\Wd X.K m2 hh H2/\RDs X.K m2 H2 ds vs) I1 ⟨m1,r,h1,ds,hh,w1,st.mono g1,e1,λm' vs H' g w' rv=>⟨m',g,w',rv⟩⟩) λus s2 ⟨vs,H2,I2,r2,m2,g2,w2,rd2⟩=>⟨I2.kIn,?_⟩) (aW ys hns.1) (dE cp hns.2);have rd':=RDs.cons (rd.mono g2) rd2;have hne:cl f (dx::ds) hh≠ .bad:=λz=>by rw[z] at o';exact o'
 have hsp:tE X.K ca (cl f) ps.length (V.ref a::vs) H2 Q (λv oa H'=>∃c,oa=some (ca c)/\Wx c σ H'):=by
  refine⟨by rw[<- rd'.length];exact hlen _ _ hne,m2,hh,dx::ds,w2,rd',?_⟩;cases hc:cl f (dx::ds) hh with
  |ok d h'=>
   rw[hc] at o';exact λm' v H' g=>o' m' v H' ((g1.trans g2).trans g)
  |exc c rr h'=>
   rw[hc] at o';exact λm' H' v g w'=>⟨c,rfl,o' m' H' ((g1.trans g2).trans g) w'⟩
  |bad=>exact hne hc
 have r3:Vals (V.ref a::vs) (Value.ref a::us):=.cons rfl r2;have hl:(Value.ref a::us).length=ps.length:=by rw[<- r3.length];exact F.len _ _ _ _ hsp
 have hbd:BindsTo s2 fd ⟨Value.ref a::us,[]⟩ (ps.zip (Value.ref a::us)):=by
  have:=hb s2 (Value.ref a::us) I2.kIn (by simpa using hl);simpa using this
 refine wpAny_call (codeAny_mono (F.run X.A X.stack s2 H2 ⟨Value.ref a::us,[]⟩ (Value.ref a::us) (V.ref a::vs) Q _ hr I2.env0 hbd r3 hsp) λres s' hq=>?_);cases res with
 |error ev=>
  have hq':pH X.prog X.w X.stack H2 s2 (λv oa H'=>∃c,oa=some (ca c)/\Wx c σ H') ev s':=hq;obtain⟨H',ea,C',rfl,I',⟨B,FX⟩,c,hC',hW⟩:=uW I2 xx.ex hfn hq';cases hC';exact xx.fly pins σ H' s' ea c I' ⟨B,FX⟩ hW
 |ok fl=>
  cases fl with
  |ret u=>exact I2.after hq
  |next=>exact False.elim hq
  |brk=>exact False.elim hq
  |cont=>exact False.elim hq
theorem NY{o:E}{cn mt:Str}{f:Nat}{l:Es}{e y:Expr}{ys:List Expr}{ap cp pos:Pos}(hG:(cn,mt,f)∈G.meths)(ht:VM e mt ap cp (y::ys))(h_o:SE N sc G o e)(h_l:uZ N sc G l (y::ys)):SS N sc G (.exM o cn mt f l) (.Expr (.Call (.Attribute e mt ap) (y::ys) [] cp) pos):=λ{X ca cl W Wx rz} xo go hfn xx hz=>by
 refine(vL (AO xo go hfn xx hG ht h_o h_l) rfl).wk λZ s H q=>?_;refine TDS.oneX (k:=λr _ h=>.ok (.nx r) h) (λr h=>?_) q λm2 r h2 H2 dx v w2 st2 rx oo=>oo m2 H2 .refl w2 _ st2;rw[xs];cases ev G cl o r h with
 |bad=>rfl
 |exc c rr hh=>rfl
 |ok x h1=>
  by_cases hm:fK x cn mt h1=true
  ·simp only[Rs.nx,Rs.bind,if_pos hm];cases cJ G cl l r h1<;>rfl
  ·simp only[Rs.nx,Rs.bind,if_neg hm];rfl
theorem xI{X:Cx}{ca:Nat->Addr}{Wx:Ws}{c:Nat}{y:Str}{np cp pos:Pos}{a:Expr}{ta:TE}(xx:XX X ca Wx true)(calm:X.calm=true)(hg:Gl X y)(hm:X.mg y=some (.ref (ca c)))(ef:ExcF X.K (ca c))(hd:(y==("__debug__":Str))=false)(ns:dQ a=true)(pa:PE X a ta):
 PS X (.Raise (some (.Call (.Name y np) [a] [] cp)) none pos) (λ_ σ H=>jN ta mD σ H λvs H1=>vs.length=1/\Wx c σ H1):=by
 intro pins s σ H D I hW;obtain⟨bm,N,nm,qn,bs,hdct,sn,sub,ab,col,dd,k0,k1,k2,k3,k5,mN,hC,hN,hni,TL⟩:=QV I.ok.mod.kin ef.own
 refine wpAny_Raise_call_subT (C:=ca c) (nm:=nm) (q:=qn) (N:=N) (bs:=bs) (bm:=bm) (hdct:=hdct) (sn:=sn) (sub:=sub) (ab:=ab) (col:=col) (dd:=dd) (k0:=k0) (k1:=k1) (k2:=k2) (k3:=k3) (k5:=k5) (mN:=mN) PySem.F.excBase_ValueError
  (TL.hasType PySem.F.excBase_ValueError.hasBase) (I.ok.hd calm) (by rw[aW [] ns];rfl) hni (dX I hg hm ⟨rfl,?_⟩ hd)
 have hA:PA X [a] (jN ta mD):=eR pa iQ (aW [] ns);have hB:=hA cp pins s σ H (λvs H1=>vs.length=1/\Wx c σ H1) I hW;rw[aW (X:=X) [] ns] at hB⊢;refine Calls.evalArgs_plain (bM hB λus s2 ⟨vs,H2,I2,r2,ev,q⟩=>?_);refine⟨rfl,?_,I2.bk _ _ hC,hN.keeps I2.bk,TL.keeps I2.bk,λh' e hx=>xx.made rfl pins σ H2 s2 h' e c us I2 hx q⟩;rw[<- r2.length,ev];show 1<=sizeLine;rw[sizeLine_eq];decide
theorem sL{c:Nat}{a:E}{y:Str}{x:Expr}{np cp pos:Pos}(h1:G.excs[c]? =some y)(h:(lE sc y&&cS y)=true)(ns:dQ x=true)(h_a:SE N sc G a x):SS N sc G (.raisE c a) (.Raise (some (.Call (.Name y np) [x] [] cp)) none pos):=λ{X ca cl W Wx rz} xo go hfn xx hz=>by
 rw[Bool.and_eq_true] at h;obtain⟨h2,h3⟩:=h;have er:rz=true:=hz.elim id λz=>by cases z
 subst er;obtain⟨d1,d2,d3⟩:=cD h3;obtain⟨hm,ef⟩:=go.exc c y h1;refine(xI xx xo.calm (cR xo h2) hm ef d1 ns (h_a xo go).1).wk λZ s H q=>?_;exact TDS.one (k:=λr _ h=>.exc c r h) (λr h=>by rw[xs]) q λm2 r h2 H2 dx v w2 st2 rx o=>⟨rfl,o m2 H2 s .refl w2 st2⟩
end
section
variable {N:List Str}{sc:Scope}{G:Gs}
theorem CW{a:E}{y:Expr}{pos:Pos}(h_a:SE N sc G a y):SE N sc G (.fmt a) (.FormattedValue y (-1) none pos):=λ{X ca cl} xo go=>by
 have p:PE X (.FormattedValue y (-1) none pos) (TDE X.K (ev G cl (.fmt a))):=λpins s σ H Q I q=>by
  obtain⟨m,r,h,d,h',w,st,e,c⟩:=q;rw[ev] at e;obtain⟨dx,h1,e1,e⟩:=Rs.bind_ok e;refine wpAny_FormattedValue_plain (bM ((h_a xo go).1 pins s σ H (λv H1=>∃m1,Gr X.K m H m1 H1/\Wd X.K m1 h1 H1/\RD X.K m1 H1 dx v) I ⟨m,r,h,dx,h1,w,st,e1,λm' v H' g w' rv=>⟨m',g,w',rv⟩⟩) λu s1 ⟨v,H1,I1,rv,m1,g1,w1,rd⟩=>?_);unfold NK at e;split at e
  ·split at e<;>first |(cases e;done)|skip
   rename_i hi;cases e;cases rd;obtain⟨t,rfl⟩:=rv;exact wpAny_formatField_int hi ⟨.str _,H1,I1.tok _,⟨_,rfl⟩,c m1 _ H1 g1 w1 (.str _)⟩
  ·split at e<;>first |(cases e;done)|skip
   rename_i hz;cases e;cases rd;obtain⟨t,rfl⟩:=rv;exact wpAny_formatField_str ⟨.str _,H1,I1,⟨_,rfl⟩,c m1 _ H1 g1 w1 (.str _)⟩ ⟨.str _,H1,I1.tok _,⟨_,rfl⟩,c m1 _ H1 g1 w1 (.str _)⟩ (Nat.le_trans hz (by decide))
  ·cases e
 exact⟨p,hE p λ_=>rfl⟩
def VJ(N:List Str)(sc:Scope)(G:Gs)(l:Es)(es:List Expr):Prop:=∀{X:Cx}{ca:Nat->Addr}{cl:Cl},XOk X N sc->GOk X G ca cl->∀(pins:List (Addr×Obj))(σ:Sg)(r:Ev)(acc:Str)(ds:List D)(xs:List Str)(m:List Addr)(h h':Hh)(H:Hp)(s:Shared)(Q:Str->Shared->Prop),
 Inv X pins σ H s->Wd X.K m h H->RSt X.K m H r σ->cJ G cl l r h=.ok ds h'->qZ ds=some xs->acc.length+(xs.map (·.length)).sum<=sizeLine->(∀m' H' s',Inv X pins σ H' s'->Gr X.K m H m' H'->Wd X.K m' h' H'->Q (acc++uR xs) s')->Joins (model X.prog X.w) X.A X.xe (evalEach es X.env) acc Q s
theorem zP:VJ N sc G .nil []:=λ{X ca cl} xo go pins σ r acc ds xs m h h' H s Q I w st e1 e2 hz q=>by
 cases e1;cases e2;have:=q m H s I .refl w;rw[show acc++uR []=acc from Str.append_empty acc] at this;exact this
theorem hJ{c:E}{l:Es}{e:Expr}{es:List Expr}(he:SE N sc G c e)(hl:VJ N sc G l es):VJ N sc G (.cons c l) (e::es):=λ{X ca cl} xo go pins σ r acc ds xs m h h' H s Q I w st e1 e2 hz q=>by
 rw[cJ] at e1;obtain⟨d,h1,e0,e1⟩:=Rs.bind_ok e1;obtain⟨ds',h2,e3,e1⟩:=Rs.bind_ok e1;cases e1;obtain⟨x,rfl⟩:∃x,d=.str x:=by cases d<;>first |exact⟨_,rfl⟩|(cases e2;done)
 simp only[qZ,Option.map_eq_some_iff] at e2;obtain⟨xs',e2,rfl⟩:=e2;rw[Zh,List.sum_cons] at hz;refine bM ((he xo go).1 pins s σ H (λv H1=>∃m1,Gr X.K m H m1 H1/\Wd X.K m1 h1 H1/\RD X.K m1 H1 (.str x) v) I ⟨m,r,h,_,h1,w,st,e0,λm' v H' g w' rv=>⟨m',g,w',rv⟩⟩) λu s1 ⟨v,H1,I1,rv,m1,g1,w1,rd⟩=>?_;cases rd;obtain⟨t,rfl⟩:=rv;have ea:(acc++x).length=acc.length+x.length:=strLen_append ..;refine⟨x,t,rfl,by omega,hl xo go pins σ r (acc++x) ds' xs' m1 h1 _ H1 s1 Q I1 w1 (st.mono g1) e3 e2 (by omega) λm' H' s' I' g' w'=>?_⟩;rw[Str.append_assoc];exact q m' H' s' I' (g1.trans g') w'
theorem CV{l:Es}{a b:Expr}{es:List Expr}{pos:Pos}(h_l:VJ N sc G l (a::b::es)):SE N sc G (.fst l) (.JoinedStr (a::b::es) pos):=λ{X ca cl} xo go=>by
 have p:PE X (.JoinedStr (a::b::es) pos) (TDE X.K (ev G cl (.fst l))):=λpins s σ H Q I q=>by
  obtain⟨m,r,h,d,h',w,st,e,c⟩:=q;rw[ev] at e;obtain⟨ds,h1,e1,e⟩:=Rs.bind_ok e;unfold NI at e;split at e<;>first |(cases e;done)|skip
  rename_i xs ex;split at e<;>first |(cases e;done)|skip
  rename_i hz;cases e;have hz':(xs.map (·.length)).sum<=sizeLine:=Nat.le_trans hz (by decide);refine wpAny_JoinedStr (h_l xo go pins σ r Str.empty ds xs m h _ H s _ I w st e1 ex (by show 0+_<=_;omega) λm' H' s' I' g' w'=>?_);rw[Str.empty_append]
  have el:∀l:List Str,(uR l).length=(l.map (·.length)).sum:=λl=>by
   induction l with
   |nil=>rfl
   |cons x l ih=>rw[uR,strLen_append,ih,Zh,List.sum_cons]
  exact⟨by rw[el];exact hz',.str _,H',I'.tok _,⟨_,rfl⟩,c m' _ H' g' w' (.str _)⟩
 exact⟨p,hE p λ_=>rfl⟩
theorem OE{a b c:E}{x y z:Expr}{p2 pos:Pos}(h_a:SE N sc G a x)(h_b:SE N sc G b y)(h_c:SE N sc G c z):SE N sc G (.slB a b c) (.Subscript x (.Slice (some y) (some z) none p2) pos):=λ{X ca cl} xo go=>by
 have p:PE X (.Subscript x (.Slice (some y) (some z) none p2) pos) (TDE X.K (ev G cl (.slB a b c))):=(mK vG (h_a xo go).1 (jR (h_b xo go).1) (jR (h_c xo go).1)).wk λs H Q q=>by
  obtain⟨m,r,h,d,h',w,st,e,cc⟩:=q;rw[ev] at e;obtain⟨dx,h1,e1,e⟩:=Rs.bind_ok e;obtain⟨dy,h2,e2,e⟩:=Rs.bind_ok e;obtain⟨dz,h3,e3,e⟩:=Rs.bind_ok e;refine⟨m,r,h,dx,h1,w,st,e1,λm1 v1 H1 g1 w1 r1=>⟨m1,r,h1,dy,h2,w1,st.mono g1,e2,λm2 v2 H2 g2 w2 r2=>?_⟩⟩;unfold EK at e;split at e<;>first |(cases e;done)|skip
  rename_i l i j hl el hx;split at e<;>first |(cases e;done)|skip
  rename_i hi;cases e;cases r2;refine⟨i,rfl,m2,r,h2,.int j,h3,w2,(st.mono g1).mono g2,e3,λm3 v3 H3 g3 w3 r3=>?_⟩;cases r3;refine⟨j,rfl,?_⟩;obtain⟨p,vs,rfl,hq,q⟩:=iT w3 ((r1.mono g2).mono g3) hl el;refine⟨p,vs,rfl,hq,λk hk=>?_⟩;have ln:=q.length
  have s1:HT.sIx vs.length 0 (some i)=i.toNat:=by
   show(if i<0 then _ else _)=_
   rw[if_neg (by omega)];omega
  have s2:HT.sIx vs.length vs.length (some j)=j.toNat:=by
   show(if j<0 then _ else _)=_
   rw[if_neg (by omega)];omega
  have e4:nO vs (some i) (some j)=(vs.take j.toNat).drop i.toNat:=by
   unfold nO;rw[s1,s2,List.drop_take]
  rw[e4];obtain⟨w4,g4⟩:=w3.lstNew hk ((q.take j.toNat).drop i.toNat);exact cc _ _ _ (((g1.trans g2).trans g3).trans g4) w4 (.ref (by rw[<- w3.len];simp))
 exact⟨p,hE p λ_=>rfl⟩
end
theorem sH{K:W.Frag}{m:List Addr}{H:Hp}{k:bQ}:∀{l:List (bQ×D)}{us:List (bQ×V)},l.map (·.1)=us.map (·.1)->RDs K m H (l.map (·.2)) (us.map (·.2))->
 (l.filter λkv=>decide (kv.1≠k)).map (·.1)=(gF us k).map (·.1)/\RDs K m H ((l.filter λkv=>decide (kv.1≠k)).map (·.2)) ((gF us k).map (·.2))/\∀d,dW l k=some d->∃v,fD us k=some v/\RD K m H d v
 | [],[],_,_=>⟨rfl,.nil,λd e=>by cases e⟩
 | [],_::_,h,_=>by cases h
 |_::_,[],h,_=>by cases h
 |p::l,q::us,h,r=>by
  obtain⟨f1,f2⟩:=List.cons.inj (show p.1::l.map (·.1)=q.1::us.map (·.1) from h)
  cases(show RDs K m H (p.2::l.map (·.2)) (q.2::us.map (·.2)) from r) with
  |cons r1 r=>
   obtain⟨i1,i2,i3⟩:=sH (k:=k) f2 r
   by_cases z:p.1=k
   ·have z':q.1=k:=f1 ▸ z;refine⟨by simpa [gF,z,z'] using i1,by simpa [gF,z,z'] using i2,λd e=>⟨q.2,by simp[fD,z'],?_⟩⟩;have:p.2=d:=by simpa [dW,z] using e
    exact this ▸ r1
   ·have z':q.1≠k:=f1 ▸ z;refine⟨by simpa [gF,z,z',f1] using i1,?_,λd e=>?_⟩
    ·have:=RDs.cons r1 i2;simpa [gF,z,z'] using this
    ·obtain⟨v,e1,e2⟩:=i3 d (by simpa [dW,z] using e);exact⟨v,by simpa [fD,z'] using e1,e2⟩
section
variable {N:List Str}{sc:Scope}{G:Gs}
theorem OF{o k:E}{nz:Str}{pz ap cp:Pos}{y:Expr}(h2:(ap.endLine==cp.line)=true)(h3:dQ y=true)(h_o:SE N sc G o (.Name nz pz))(h_k:SE N sc G k y):SE N sc G (.pop o k) (.Call (.Attribute (.Name nz pz) "pop" ap) [y] [] cp):=λ{X ca cl} xo go=>by
 have p:PE X (.Call (.Attribute (.Name nz pz) "pop" ap) [y] [] cp) (TDE X.K (ev G cl (.pop o k))):=(AU (h_o xo go).1 (h_k xo go).1 ⟨rfl,by rw[aW [] h3];rfl,h2,by rw[aW [] h3];rfl⟩).wk λs H Q q=>by
  refine TDE.one (k:=λr x h=>if(bW h x).isSome=true then(ev G cl k r h).bind λy h=>AH x y h else .bad) (λr h=>by rw[ev]) q λm m2 r d h2 h' H2 dx v st g w2 st2 rx e c=>?_;split at e<;>first |(cases e;done)|skip
  rename_i hd;obtain⟨l0,hd⟩:=Option.isSome_iff_exists.mp hd;obtain⟨n,a0,us0,rfl,rfl,hn,ha,hu,_,_⟩:=dF w2 rx hd;obtain⟨dy,h3,e3,e⟩:=Rs.bind_ok e;refine⟨a0,rfl,.inl ⟨us0,.inl hu⟩,m2,r,h2,dy,h3,w2,st2,e3,λm3 y' H3 g3 w3 ry=>?_⟩;simp only[AH] at e;split at e<;>first |(cases e;done)|skip
  rename_i l kk en ek;split at e<;>first |(cases e;done)|skip
  rename_i dv ev;cases e;have ha3:=g3.pre _ _ ha;obtain⟨us,hu',hk,rv⟩:RO X.K m3 H3 a0 (.dct l):=w3.ob n _ a0 en ha3;obtain⟨i1,i2,i3⟩:=sH (k:=kk) hk rv;obtain⟨v,e4,rd⟩:=i3 _ ev;have:=gQ ry ek;subst this;obtain⟨w4,g4⟩:=w3.objSet (o':=.dct (l.filter λkv=>decide (kv.1≠kk))) (u:=.dK (gF us kk)) en rfl ha3 λg=>⟨_,aS,i1,i2.mono g⟩;exact⟨us,kk,v,hu',rfl,e4,c m3 v _ (g3.trans g4) w4 (rd.mono g4)⟩
 exact⟨p,hE p λ_=>rfl⟩
end
noncomputable def DO(ifs:List Expr)(kx vx:Expr)(Dn:Addr)(env:Env):yR:=λag=>eO ifs env true>>=λok=>if ok=true then nM kx vx Dn env ag else ag
theorem OJ(kx vx tg iter:Expr)(ifs:List Expr)(scope:Scope)(pos:Pos)(it:Value)(Dn:Addr)(env:Env):compTurn (.DictComp kx vx [⟨tg,iter,ifs,0⟩] scope pos) 0 it (.ref Dn) env=
 lZ tg iter.pos it env (DO ifs kx vx Dn env) (again (.compLoop (.DictComp kx vx [⟨tg,iter,ifs,0⟩] scope pos) 0 it (.ref Dn) env)):=by rfl
noncomputable def DK(fc:Ev->Hh->Rs Bool)(fk fv:Ev->Hh->Rs D)(n0:Nat):Ev->Hh->Rs Ev:=λr h=>(fc r h).bind λb h=>if b=true then VE fk fv n0 r h else .ok r h
section
variable {Y:Cx}{kx vx:Expr}{ifs:List Expr}{fc:Ev->Hh->Rs Bool}{fk fv:Ev->Hh->Rs D}{n0 acc:Nat}
theorem QU(hxe:Y.xe=lI)(pt:OW Y ifs (KD Y.K fc))(pd:PB Y (nM kx vx acc Y.env) n0 acc (VE fk fv n0)):PB Y (DO ifs kx vx acc Y.env) n0 acc (DK fc fk fv n0):=by
 intro pins s σ H m r h r' h' I w st hm e Z E ag hag;obtain⟨b,h1,e1,e⟩:=Rs.bind_ok e;have no:∀{E:Value->Shared->Prop}(e:Value)(s:Shared),lI e s->E e s:=λ_ _ f=>f.elim;have p1:=pt pins s σ H (λb' H1=>b'=b/\∃m1,Gr Y.K m H m1 H1/\Wd Y.K m1 h1 H1) I ⟨m,r,h,b,h1,w,st,e1,λm' H' g w'=>⟨rfl,m',g,w'⟩⟩;rw[hxe] at p1;unfold DO;refine Za (wpAny_mono p1 (λok s1 ⟨H1,I1,eb,m1,g1,w1⟩=>?_) no);subst eb;cases ok with
 |true=>
  rw[if_pos rfl] at e⊢;exact pd pins s1 σ H1 m1 r h1 r' h' I1 w1 (st.mono g1) (g1.pre _ _ hm) e Z E ag λs' m' σ' H' I' g'=>hag s' m' σ' H' I' (g1.trans g')
 |false=>
  rw[if_neg Bool.false_ne_true] at e⊢;cases e;exact hag s1 m1 σ H1 I1 g1 w1 (st.mono g1)
end
section
variable {K:W.Frag}{t:Tg}{fc:Ev->Hh->Rs Bool}{fk fv:Ev->Hh->Rs D}{n0:Nat}{h':Hh}{m0:List Addr}{H0:Hp}{l:List (bQ×D)}{kvs:List (bQ×V)}{d:Addr}{o:Obj}
theorem NB(hd:H0 d=some (.frz o (.own d)))(q1:l.map (·.1)=kvs.map (·.1))(q2:RDs K m0 H0 (l.map (·.2)) (kvs.map (·.2))){i:Nat}(hi:i<l.length){m:List Addr}{H:Hp}(g:Gr K m0 H0 m H):
 (DZ d o (kvs.map λp=>(kV p.1,p.2))).go i H/\∀(h:Hh) x H',Wd K m h H->(DZ d o (kvs.map λp=>(kV p.1,p.2))).yld i H x H'->Gr K m H m H'/\Wd K m h H'/\RD K m H' (D.tup [qO l[i].1,l[i].2]) x:=by
 have ll:l.length=kvs.length:=by have:=congrArg List.length q1;simpa using this
 have hkv:i<kvs.length:=by omega
 refine⟨⟨g.frz _ _ _ hd,by rw[Zc];exact hkv⟩,?_⟩;rintro h x H' w1 ⟨p,kk,vv,y1,y2,y3,y4⟩;rw[Zi,Zd hkv] at y2;obtain⟨z1,z2⟩:=Prod.mk.inj (Zg y2);subst y3 y4 z1 z2;have gt:=Gr.tupNew (K:=K) (m:=m) (o:=.tup [kV kvs[i].1,kvs[i].2]) y1
 have rd2:RD K m0 H0 l[i].2 kvs[i].2:=by
  obtain⟨v,hv,rv⟩:=q2.get (i:=i) (d:=l[i].2) (by rw[Zi,Zd hi];rfl);rw[Zi,Zd hkv] at hv;cases hv;exact rv
 have ek:l[i].1=kvs[i].1:=by
  have:=congrArg (λz:List bQ=>z[i]?) q1;simp only[Zi,Zd hi,Zd hkv] at this;exact Zg this
 have rk:RD K m (bI H p (.tup [kV kvs[i].1,kvs[i].2])) (qO l[i].1) (kV kvs[i].1):=by
  rw[ek];cases kvs[i].1 with
  |inl j=>exact .int j
  |inr x=>exact .str x
 exact⟨gt,w1.keepNew y1,.tup (.of aS) (.cons rk (.cons ((rd2.mono g).mono gt) .nil))⟩
theorem OK(hd:H0 d=some (.frz o (.own d)))(q1:l.map (·.1)=kvs.map (·.1))(q2:RDs K m0 H0 (l.map (·.2)) (kvs.map (·.2)))(i k:Nat)(r:Ev)(h:Hh)(m:List Addr)(H:Hp)(g:Gr K m0 H0 m H)(w:Wd K m h H)
 (e:k=l.length-i/\DJ t fc fk fv n0 ((l.map λp=>D.tup [qO p.1,p.2]).drop i) r h=.ok () h'):
 OV K t (DK fc fk fv n0) (λ_ h=>h=h') (DZ d o (kvs.map λp=>(kV p.1,p.2))) (λi k r h=>k=l.length-i/\DJ t fc fk fv n0 ((l.map λp=>D.tup [qO p.1,p.2]).drop i) r h=.ok () h') i k r h m H:=by
 obtain⟨hk,e⟩:=e;have ll:l.length=kvs.length:=by have:=congrArg List.length q1;simpa using this
 by_cases hi:i<l.length
 ·obtain⟨a1,a2⟩:=NB hd q1 q2 hi g;rw[List.drop_eq_getElem_cons (by rw[Zc];exact hi),List.getElem_map] at e;simp only[DJ] at e;split at e
  ·cases e
  ·rename_i r1 er;obtain⟨b,h1,e1,e⟩:=Rs.bind_ok e;cases b with
   |true=>
    rw[if_pos rfl] at e;obtain⟨y,h2,ey,e⟩:=Rs.bind_ok e;obtain⟨z,h3,ez,e⟩:=Rs.bind_ok e;obtain⟨_,h4,e4,e⟩:=Rs.bind_ok e;refine .inr ⟨a1,_,λx H'=>a2 h x H' w,r1,er,r1,h4,?_,l.length-(i+1),by omega,rfl,e⟩;unfold DK VE;rw[e1]
    show((fk r1 h1).bind λy h=>(fv r1 h).bind λz h=>(gG n0 y z h).bind λ_ h=>.ok r1 h)=_
    rw[ey]
    show((fv r1 h2).bind λz h=>(gG n0 y z h).bind λ_ h=>.ok r1 h)=_
    rw[ez]
    show((gG n0 y z h3).bind λ_ h=>.ok r1 h)=_
    rw[e4];rfl
   |false=>
    rw[if_neg Bool.false_ne_true] at e;refine .inr ⟨a1,_,λx H'=>a2 h x H' w,r1,er,r1,h1,?_,l.length-(i+1),by omega,rfl,e⟩;unfold DK;rw[e1];rfl
 ·rw[List.drop_eq_nil_of_le (by rw[Zc];omega)] at e;cases e;exact .inl ⟨⟨g.frz _ _ _ hd,by rw[Zc];omega⟩,rfl⟩
end
section
variable {X:Cx}{N':List Str}{scope:Scope}{cap:List Nat}{kx vx tg iter:Expr}{ifs:List Expr}{pos:Pos}{t:Tg}{fc:Ev->Hh->Rs Bool}{fk fv:Ev->Hh->Rs D}
structure CBlk (Y:Cx)(K:W.Frag)(tg:Expr)(ifs:List Expr)(kx vx:Expr)(t:Tg)(fc:Ev->Hh->Rs Bool)(fk fv:Ev->Hh->Rs D):Prop where
 g:PG Y tg (sU K t)
 c:OW Y ifs (KD K fc)
 k:PE Y kx (TDE K fk)
 v:PE Y vx (TDE K fv)
theorem HH{pins:List (Addr×Obj)}{σ:Sg}{H2:Hp}{s2:Shared}{fp:List Addr}{it:Addr}{J:It}{tn:Nat->Heap->Prop}{m2:List Addr}{h2 h':Hh}{r:Ev}{k0:Nat}(S:ScOk scope X.env.scope)(hcap:cap.length<=N'.length)
 (hN:(N'.drop (N'.length-cap.length)).map some=cap.map (λ(i:Nat)=>X.N[i]?))(hfr:∀x∈N'.drop (N'.length-cap.length),scope.names.lookup x=some .free)(calm:X.calm=true)
 (blk:∀(C:Addr)(s3:Shared)(H3:Hp)(fp:List Addr),CBlk (cV X N' scope C s3 H3 fp) X.K tg ifs kx vx t fc fk fv)
 (I:Inv X pins σ H2 s2)(T:Turn X.prog X.w X.K tg J fp it tn)(st:tn 0 s2.heap)(fok:∀b∈fp,gY X pins H2 b)(w2:Wd X.K m2 h2 H2)(rst:RSt X.K m2 H2 r σ)
 (Lp:Nat->Nat->Ev->Hh->Prop)(L0:Lp 0 k0 (aT N' cap r) (h2++ [.dct []]))(hst:∀i k r h m H,Gr X.K m2 H2 m H->Wd X.K m h H->Lp i k r h->OV X.K t (DK fc fk fv h2.length) (λ_ h=>h=h') J Lp i k r h m H)
 {Rr:Value->Addr->Result->Shared->Prop}
 (c:∀(acc C:Addr)(s1:Shared)(H':Hp)(m':List Addr),Inv X pins σ H' s1->(∃mm,s1.heap.Ns C mm)->H' C=none->C≠X.env.locals->X.s₀.heap.objs.size<=C->(∀x a,X.env.cells.lookup x=some a->a≠C)->(∀p∈X.pn++pins,p.1≠C)->Gr X.K m2 H2 m' H'->Wd X.K m' h' H'->RD X.K m' H' (.ref h2.length) (.ref acc)->Rr (.ref acc) C (.ok .next) s1):
 wpAny (model X.prog X.w) X.A newDict (λacc s3=>wpAny (model X.prog X.w) X.A (newFunctionEnv scope X.env.globals (lL scope X.env) [] X.env.qual none .none (some X.env)) (λcenv s4=>
  codeAny (model X.prog X.w) X.A (.compStart (.DictComp kx vx [⟨tg,iter,ifs,0⟩] scope pos) 0 (.ref it) acc {cenv with scope:=relabel scope X.env}) (Rr acc cenv.locals) s4) X.xe s3) X.xe s2:=by
 have fob:∀b∈fp,b<s2.heap.objs.size:=λb hb=>let⟨o,e,_⟩:=T.obj 0 _ st b hb;Heap.lt_size e
 have ffb:∀b∈fp,∀o,X.base.get? b≠some o:=λb hb o e=>by
  rcases(fok b hb).2.2.2.1 with z|z
  ·exact I.ok.noex b o e z
  ·exact absurd (Nat.lt_of_lt_of_le (Heap.lt_size (I.ok.bs b o e).1) z) (Nat.lt_irrefl _)
 have hacc0:H2 s2.heap.objs.size=none:=I.hok.fresh (Zn _);refine wpAny_newObj_type (dD (λh1 hns keep cok=>?_));dsimp only at hns keep cok⊢;obtain⟨w3,g3⟩:=w2.objNew (o:=.dct []) (u:=.dK []) hacc0 λ_=>⟨[],aS,rfl,.nil⟩
 have I3:Inv X pins σ (bI H2 s2.heap.objs.size (.dK [])) {s2 with heap:=s2.heap.push {cls:=.type "dict",dict:=none,data:=.dict #[]}}:=
  I.laid (t':=s2.toks) (λb u e=>Zf _ e) (Zn _) (sI s2.heap I.big)
 have fok3:∀b∈fp,gY X pins (bI H2 s2.heap.objs.size (.dK [])) b:=λb hb=>⟨by rw[aK (Nat.ne_of_lt (fob b hb))];exact(fok b hb).1,(fok b hb).2⟩;have st3:tn 0 h1:=T.keep _ _ _ st λb hb o e=>keep b o (Zf _ e);have B:=uT (env:=X.env) S (λx c e=>let⟨_,q⟩:=I3.cell x c e;q.lt) cok
 have I4:=kU (N':=N') (scope:=scope) (fp:=fp) (cap:=cap) I3 S hcap hN hfr (h1:=h1) (tk:=s2.toks) hns keep B fok3 (λb hb=>by
  show b<(s2.heap.push _).objs.size;rw[Heap.size_push];exact Nat.lt_succ_of_lt (fob b hb)) ffb
 have hsz:(s2.heap.push {cls:=.type "dict",dict:=none,data:=.dict #[]}).objs.size=s2.heap.objs.size+1:=Heap.size_push ..;generalize hs3:({s2 with heap:=s2.heap.push {cls:=.type "dict",dict:=none,data:=.dict #[]}}:Shared)=s3 at I3 I4;have eh3:s2.heap.push {cls:=.type "dict",dict:=none,data:=.dict #[]}=s3.heap:=by rw[<- hs3]
 rw[eh3] at hns keep cok B hsz⊢;generalize hH3:bI H2 s2.heap.objs.size (.dK [])=H3 at I3 I4 w3 g3 fok3;have b:=blk s3.heap.objs.size s3 H3 fp;have hac:(m2++ [s2.heap.objs.size])[h2.length]? =some s2.heap.objs.size:=by rw[<- w2.len];simp
 have stkN:∀b,b≠X.env.locals->b ∉ X.fs->b ∉ jH X.stack:=λb h1 h2 hb=>(List.mem_cons.mp (I3.stkSub b hb)).elim h1 h2
 have fokB:∀{H:Hp},(∀b∈fp,H b=none)->∀b∈fp,gY (cV X N' scope s3.heap.objs.size s3 H3 fp) [] H b:=λhn b hb=>
  ⟨hn b hb,Nat.ne_of_lt (by rw[hsz];exact Nat.lt_succ_of_lt (fob b hb)),stkN b (fok b hb).2.1 (fok b hb).2.2.1,.inl hb,λx c e=>(B.inv x c e).elim (λa=>(fok b hb).2.2.2.2.1 x c (bO a)) (λa=>Nat.ne_of_gt (Nat.lt_trans (by rw[hsz];exact Nat.lt_succ_of_lt (fob b hb)) a.1)),λp hp=>absurd (show p∈([]:List (Addr×Obj)) from hp) (by simp)⟩
 have loop:∀s4:Shared,s4={s3 with heap:=h1,toks:=s2.toks}->codeAny (model X.prog X.w) X.A (.compLoop (.DictComp kx vx [⟨tg,iter,ifs,0⟩] scope pos) 0 (.ref it) (.ref s2.heap.objs.size) (compEnvC scope (yP scope X.env s3.heap.objs.size) s3.heap.objs.size X.env)) (Rr (.ref s2.heap.objs.size) s3.heap.objs.size) s4:=by
  rintro s4 rfl
  refine oP (Y:=cV X N' scope s3.heap.objs.size s3 H3 fp) (m2:=m2++ [s2.heap.objs.size]) (H2:=H3) (n0:=h2.length) (acc:=s2.heap.objs.size) (e:=.DictComp kx vx [⟨tg,iter,ifs,0⟩] scope pos) (pins:= []) (t:=t) (End:=λ_ h=>h=h') rfl (OJ ..) calm b.g rfl
   (QU rfl b.c (EZ rfl b.k b.v)) T Lp (λi k r h m H g w e=>hst i k r h m H (g3.trans g) w e) hac fokB I4 st3 (λb hb=>(fok3 b hb).1) .refl w3 (jE (rst.mono g3)) L0 λs' σ' H' m' r' hh I1 g' w' st' eh=>?_
  subst eh;obtain⟨mm,hn1,_⟩:=id I1.loc;obtain⟨hp1,gg,dr,tk,os⟩:=s';obtain rfl:os=s3.os:=I1.os;have IX:Inv X pins σ H' {s3 with heap:=hp1,gens:=gg,drawn:=dr,toks:=tk}:=I3.call (ch:=fp) I1.base I1.hok I1.bare λb hb=>⟨(fok3 b hb).2.2.2.1,(fok3 b hb).2.1,(fok3 b hb).2.2.2.2.1,(fok3 b hb).2.2.2.2.2⟩
  exact c _ _ _ H' m' IX ⟨mm,hn1⟩ I1.free (Nat.ne_of_gt I3.lt) I3.sz (λx a e=>by
   obtain⟨v,q⟩:=I3.cell x a e;exact Nat.ne_of_lt q.lt) (λp hp=>Nat.ne_of_lt (Heap.lt_size (I3.pin p hp).1)) (g3.trans g') w' (.ref (g'.pre _ _ hac))
 have es:({s2 with heap:=h1,toks:=s2.toks}:Shared)={s3 with heap:=h1,toks:=s2.toks}:=by subst hs3;rfl
 exact codeAny_compStart_dict (loop _ es) (T.self X.A 0 _ _ _ st3 (loop _ es))
end
section
variable {X:Cx}{N':List Str}{scope:Scope}{cap:List Nat}{kx vx ox:Expr}{elts:List Expr}{x1:Nat}{tp ap cp pos:Pos}{ifs:List Expr}{t:Tg}{fc:Ev->Hh->Rs Bool}{fk fv:Ev->Hh->Rs D}
theorem TU{fo f:Ev->Hh->Rs D}(hb:∀env:Env,attributeBase ox "items" env (eval ox env)=eval ox env)(hl:(ap.endLine==cp.line)=true)(hp:PE X ox (TDE X.K fo))(hf:∀r h,f r h=(fo r h).bind λx h=>PJ t fc fk fv x (aT N' cap r) h)
 (pins:List (Addr×Obj))(s:Shared)(σ:Sg)(H:Hp)(m:List Addr)(r:Ev)(h:Hh)(d:D)(h':Hh)(I:Inv X pins σ H s)(w:Wd X.K m h H)(st:RSt X.K m H r σ)(e:f r h=.ok d h'):
 ∃(h2:Hh)(l:List (bQ×D)),d=.ref h2.length/\DJ t fc fk fv h2.length (l.map λp=>D.tup [qO p.1,p.2]) (aT N' cap r) (h2++ [.dct []])=.ok () h'/\wpAny (model X.prog X.w) X.A (eval (.Call (.Attribute ox "items" ap) [] [] cp) X.env) (λv s1=>wpAny (model X.prog X.w) X.A (pyIter v)
  (HX X pins σ (.Tuple elts x1 tp) λJ H2=>∃(a:Addr)(o:Obj)(kvs:List (bQ×V))(m2:List Addr),J=DZ a o (kvs.map λp=>(kV p.1,p.2))/\Gr X.K m H m2 H2/\Wd X.K m2 h2 H2/\H2 a=some (.frz o (.own a))/\l.map (·.1)=kvs.map (·.1)/\RDs X.K m2 H2 (l.map (·.2)) (kvs.map (·.2))) X.xe s1) X.xe s:=by
 rw[hf] at e;obtain⟨x,h1,ex,e⟩:=Rs.bind_ok e;unfold PJ at e;split at e<;>first |(cases e;done)|skip
 rename_i n;split at e<;>first |(cases e;done)|skip
 rename_i l el;obtain⟨u,h2,e2,e⟩:=Rs.bind_ok e;cases e;refine⟨h1.set n .ded,l,by rw[List.length_set],by rw[List.length_set];exact e2,?_⟩;refine AL hb hl hp pins s σ H _ I ⟨m,r,h,_,_,w,st,ex,λm' v H' g w' rv=>?_⟩;cases rv with
 | @ref _ a ha=>
   obtain⟨us,q1,q2,q3⟩:RO X.K m' H' a (.dct l):=w'.ob n _ a el ha;refine⟨a,us,rfl,q1,λoo=>?_⟩;obtain⟨w3,g3⟩:=w'.objSet (o':=.ded) (u:=.frz oo (.own a)) el rfl ha λ_=>trivial;exact⟨a,oo,us,m',rfl,g.trans g3,w3,aS,q2,q3.mono g3⟩
theorem TR{N:List Str}{sc:Scope}{fo f:Ev->Hh->Rs D}{spos py:Pos}{y:Str}{i:Nat}(xo:XOk X N sc)(S:ScOk scope sc)(hcap:cap.length<=N'.length)(hN:(N'.drop (N'.length-cap.length)).map some=cap.map (λ(i:Nat)=>N[i]?))(hfr:∀x∈N'.drop (N'.length-cap.length),scope.names.lookup x=some .free)
 (blk:∀(C:Addr)(s3:Shared)(H3:Hp)(fp:List Addr),CBlk (cV X N' scope C s3 H3 fp) X.K (.Tuple elts x1 tp) ifs kx vx t fc fk fv)(hb:∀env:Env,attributeBase ox "items" env (eval ox env)=eval ox env)(hl2:(ap.endLine==cp.line)=true)(hp:PE X ox (TDE X.K fo))(hf:∀r h,f r h=(fo r h).bind λx h=>PJ t fc fk fv x (aT N' cap r) h)
 (hy:N[i]? =some y)(hl:sc.names.lookup y=some .local)(hsw:swapsWith (.DictComp kx vx [⟨.Tuple elts x1 tp,.Call (.Attribute ox "items" ap) [] [] cp,ifs,0⟩] scope pos) (some (.Name y py)) spos.line X.env=pure true):
 PS X (.Assign [.Name y py] (.DictComp kx vx [⟨.Tuple elts x1 tp,.Call (.Attribute ox "items" ap) [] [] cp,ifs,0⟩] scope pos) spos) (EG (TDE X.K f) (oT i)):=by
 intro pins s σ H Z I ⟨m,r,h,d,h',w,st,e,c⟩;obtain⟨h1,l,rfl,e1,hw⟩:=TU (elts:=elts) (x1:=x1) (tp:=tp) hb hl2 hp hf pins s σ H m r h d h' I w st e;have S':ScOk scope X.env.scope:=by rw[xo.s];exact S
 rw[exec_Assign_Name_used _ _ _ _ hsw];refine Za (wpAny_standAt (Za ?_));show wpAny _ X.A (do let _ <- comprehension (.DictComp kx vx [⟨.Tuple elts x1 tp,.Call (.Attribute ox "items" ap) [] [] cp,ifs,0⟩] scope pos) scope X.env _ newDict false (eval (.Call (.Attribute ox "items" ap) [] [] cp) X.env) (some (assign (.Name y py) X.env))) _ _ s;refine Za (bM (wpAny_comprehension_free (use:=some (assign (.Name y py) X.env)) (Q:=λ_ s'=>SP X pins Z .next s') rfl (λz=>rfl) (gB λp hp e=>I.ok.has p.1 (.inl (S'.free p hp e))) S.kind S.loc ?_) λ_ s' q=>Zb (Zb q));refine bM hw λv s1 q1=>bM q1 λitv s2 q2=>?_;obtain⟨it,fp,tn,J,H2,rfl,I2,T,st2,fok,a,oo,kvs,m2,rfl,g2,w2,ha,k1,k2⟩:=q2;refine HH (Rr:=λacc C=>compPost (model X.prog X.w) X.A X.xe (some (assign (.Name y py) X.env)) (λ_ s'=>SP X pins Z .next s') acc C) S' hcap (by rw[xo.n];exact hN) hfr xo.calm blk I2 T st2 fok w2 (st.mono g2) (k0:=l.length) (λi k r h=>k=l.length-i/\DJ t fc fk fv h1.length ((l.map λp=>D.tup [qO p.1,p.2]).drop i) r h=.ok () h') ⟨rfl,e1⟩ (OK ha k1 k2) λacc C s1 H' m' I1 ⟨mm,hn⟩ hC hL hz hc hp g' w' rv=>?_;show wpAny _ X.A (assign (.Name y py) X.env (.ref acc)) _ _ s1;refine wpAny_assign_Name (kG (i:=i) (v:=.ref acc) I1 xo.nd (by rw[xo.n];exact hy) (.inl (by rw[xo.s];exact hl)) rfl (λs5 I5 ⟨a,hsa,hq⟩=>?_) (.inr (by rw[xo.s];exact hl)))
 have ea:a≠C:=by
  rcases hq with rfl|hq
  ·exact λz=>hL z.symm
  ·exact hc _ _ hq
 refine⟨mm,?_,λhh hsb=>⟨_,H',I5.turned (λb o hb e=>hsb.extBut b o hb e) hC hL (.inr hz) hc hp,c m' _ H' (g2.trans g') w' rv⟩⟩;obtain⟨o,es,ep,e1,e2⟩:=hn;exact⟨o,es,ep,hsa.extBut C o (Ne.symm ea) e1,e2⟩
end
section
variable {N:List Str}{sc:Scope}{G:Gs}
theorem OL{t:Tg}{cs:Es}{k v:E}{N':List Str}{cap:List Nat}{kx vx tg:Expr}{ifs:List Expr}{scope:Scope}(B:Blk N sc N' cap scope)(ht:fC N' scope t tg=true)(hc:KG N' (cN scope sc) G cs ifs)(h_k:SE N' (cN scope sc) G k kx)(h_v:SE N' (cN scope sc) G v vx)
 {X:Cx}{ca:Nat->Addr}{cl:Cl}(xo:XOk X N sc)(go:GOk X G ca cl)(C:Addr)(s3:Shared)(H3:Hp)(fp:List Addr):CBlk (cV X N' scope C s3 H3 fp) X.K tg ifs kx vx t (jU G cl cs) (ev G cl k) (ev G cl v):=
 ⟨LV (eK xo B.nd C s3 H3 fp) (qM (by rw[xo.s];exact B.S) C s3 H3 fp) ht,hc (eK xo B.nd C s3 H3 fp) (jF go C s3 H3 fp),
  (h_k (eK xo B.nd C s3 H3 fp) (jF go C s3 H3 fp)).1,(h_v (eK xo B.nd C s3 H3 fp) (jF go C s3 H3 fp)).1⟩
theorem GY{i:Nat}{t:Tg}{o:E}{cs:Es}{k v:E}{N':List Str}{cap:List Nat}{kx vx ox:Expr}{elts:List Expr}{x1:Nat}{tp ap cp:Pos}{ifs:List Expr}{scope:Scope}{y:Str}{py pos spos:Pos}(h1:N[i]? =some y)(hk:(sc.kind== .function)=true)(h2:sc.names.lookup y=some .local)(h4:(py.line==pos.line&& !(scope.names.any λ(n,k)=>n==y&&(k== .local||k== .cell)))=true)
 (B:Blk N sc N' cap scope)(hb:∀env:Env,attributeBase ox "items" env (eval ox env)=eval ox env)(hl:(ap.endLine==cp.line)=true)(ht:fC N' scope t (.Tuple elts x1 tp)=true)(h_o:SE N sc G o ox)(hc:KG N' (cN scope sc) G cs ifs)(h_k:SE N' (cN scope sc) G k kx)(h_v:SE N' (cN scope sc) G v vx):
 SS N sc G (.asc i (.dci t o cs k v N' cap)) (.Assign [.Name y py] (.DictComp kx vx [⟨.Tuple elts x1 tp,.Call (.Attribute ox "items" ap) [] [] cp,ifs,0⟩] scope pos) spos):=λ{X ca cl W Wx rz} xo go hfn xx hz=>by
 refine(TR (i:=i) (f:=ev G cl (.dci t o cs k v N' cap)) xo B.S B.capL B.nN B.fr (OL B ht hc h_k h_v xo go) hb hl (h_o xo go).1 (λr h=>by rw[ev]) h1 h2 (qX xo hk h2 h4)).wk λZ s H q=>?_;refine TDS.one (λr h=>by rw[xs]) q λm2 r h2 H2 dx y w2 st2 rx o=>?_;exact o m2 H2 .refl w2 _ (st2.set i rx)
theorem CZ{f:Nat}{x:Str}{np pos:Pos}(h1:G.fns[f]? =some x)(h:(lE sc x&&cS x)=true):SE N sc G (.call f .nil) (.Call (.Name x np) [] [] pos):=λ{X ca cl} xo go=>by
 rw[Bool.and_eq_true] at h;obtain⟨h2,h3⟩:=h;obtain⟨d1,d2,d3⟩:=cD h3;obtain⟨fa,fd,ps,k,F,hr,hm,hk,hb,hlen⟩:=go.fn f x h1
 have p:PE X (.Call (.Name x np) [] [] pos) (TDE X.K (ev G cl (.call f .nil))):=(AY F hr (cR xo h2) hm hk hb .nil oJ d1).wk λs H Q ⟨m,r,hh,d,h',w,st,e1,c⟩=>by
  simp only[ev,cJ] at e1;obtain⟨ds,h1,e0,e1⟩:=Rs.bind_ok e1;cases e0;have e1:=Rs.nx_ok e1;show tE X.K ca (cl f) ps.length [] H Q E0;exact⟨by rw[<- (RDs.nil (K:=X.K) (m:=m) (H:=H)).length];exact hlen _ _ (by rw[e1];exact λz=>nomatch z),m,hh,[],w,.nil,by rw[e1];exact λm2 v H2 g2=>c m2 v H2 g2⟩
 exact⟨p,hE p λ_=>rfl⟩
theorem GZ{cn:Str}{f:Nat}{np pos:Pos}(hG:(cn,f)∈G.news)(h:(lE sc cn&&cS cn)=true):SE N sc G (.new cn f .nil) (.Call (.Name cn np) [] [] pos):=λ{X ca cl} xo go=>by
 rw[Bool.and_eq_true] at h;obtain⟨h2,h3⟩:=h;obtain⟨d1,d2,d3⟩:=cD h3;obtain⟨C,fa,fd,ps,k,hC,hmg,M,F,hr,hb,hlen⟩:=go.c.new _ hG
 have p:PE X (.Call (.Name cn np) [] [] pos) (TDE X.K (ev G cl (.new cn f .nil))):=(AS M F hr (cR xo h2) hmg hb .nil oJ d1).wk λs H Q ⟨m,r,hh,d,h',w,st,e1,c⟩=>by
  simp only[ev,cJ] at e1;obtain⟨ds,h1,e0,e1⟩:=Rs.bind_ok e1;cases e0;have e1:=Rs.nx_ok e1;unfold jS at e1;obtain⟨d',h2,e2,e1⟩:=Rs.bind_ok e1;cases d'<;>first |(cases e1;done)|skip
  cases e1;show ∀x dx,_;intro x dx hx hdx ne;have w2:=w.keepNew (o:=.own x) hdx;have g2:Gr X.K m H m (bI H dx (.own x)):=Gr.tupNew hdx;have hx2:(bI H dx (.own x)) x=none:=by rw[aK (Ne.symm ne)];exact hx
  obtain⟨w3,g3⟩:=w2.objNew (o:=.ins cn []) (u:=.ins C dx []) hx2 λ_=>⟨C,dx,[],hC,aS,rfl,.nil⟩;have hr0:(m++ [x])[hh.length]? =some x:=by rw[<- w.len];simp
  show tE X.K ca (cl f) ps.length [V.ref x] _ _ E0;have rd':=RDs.cons (RD.ref (K:=X.K) (H:=bI (bI H dx (.own x)) x (.ins C dx [])) hr0) .nil
  exact⟨by rw[<- rd'.length];exact hlen _ _ (by rw[e2];exact λz=>nomatch z),m++ [x],hh++ [.ins cn []],[.ref hh.length],w3,rd',by
   rw[e2]
   exact λm4 v H4 g4 w4 rv=>by
    cases rv;exact⟨rfl,c m4 _ H4 ((g2.trans g3).trans g4) w4 (.ref (g4.pre _ _ hr0))⟩⟩
 exact⟨p,hE p λ_=>rfl⟩
end
def GF(K:W.Frag)(x:Str)(st:Stmt):Prop:=∃f d,W.nsIn K mainGlobals x=some (some (.ref f))/\Fun K x x st f d
def GM(K:W.Frag)(C:Addr)(x q:Str)(st:Stmt):Prop:=∃f d,(W.findIn K (.ref C) x=some (some (.ref f))/\W.isFn K (.ref f)=true)/\Fun K x q st f d
section
variable {K:W.Frag}{x q:Str}{st:Stmt}{f C:Addr}{oc kV doc pm cdv ct:Value}{od an:Option Addr}{osl:Array (Option Value)}
theorem GF.mk(a:W.nsIn K mainGlobals x=some (some (.ref f)))(l:K.lookup f=some ⟨oc,od,.func (W.fnOf x x (gA st) (aM st) (aH st) .none kV doc pm an cdv ct),osl⟩)(c:W.codeIn K cdv x=true)(k:W.keepIn K (.ref f)=true):GF K x st:=⟨f,_,a,BP l c k⟩
theorem GM.mk(a:W.findIn K (.ref C) x=some (some (.ref f)))(i:W.isFn K (.ref f)=true)(l:K.lookup f=some ⟨oc,od,.func (W.fnOf x q (gA st) (aM st) (aH st) .none kV doc pm an cdv ct),osl⟩)(c:W.codeIn K cdv q=true)(k:W.keepIn K (.ref f)=true):GM K C x q st:=⟨f,_,⟨a,i⟩,BP l c k⟩
variable {h:Heap}{mg:Str->Option Value}{G:Gs}{c:Fc}{N:List Str}
abbrev Bq(x q:Str)(st:Stmt)(ps:List Str):Prop:=∀(kV doc pm:Value)(an:Option Addr)(cdv ct:Value)(us:List Value),us.length=ps.length->bindArgs (W.fnOf x q (gA st) (aM st) (aH st) .none kV doc pm an cdv ct) ⟨us,[]⟩=pure (ps.zip us)
theorem GF.ok(b:GF K x st)(X:K.In h)(Gn:h.Ns mainGlobals mg)(ps:List Str)(ck:eM N (aH st) G c.body (aM st))(S:FnScope N ps (aH st):=by trivial)(e1:ps.length=c.np:=by rfl)(e2:N.length=c.ns:=by rfl)(hB:Bq x x st ps:=by trivial):OZ K mg G x c:=
 let⟨_,_,a,F⟩:=b;⟨_,_,_,_,_,_,F,S,e1,e2,F.binds hB,W.mg_of X Gn a,ck⟩
theorem GM.ok(b:GM K C x q st)(ps:List Str)(ck:eM N (aH st) G c.body (aM st))(S:FnScope N ps (aH st):=by trivial)(e1:ps.length=c.np:=by rfl)(e2:N.length=c.ns:=by rfl)(hB:Bq x q st ps:=by trivial):FmOk K G (λfa=>Meth K C x fa) x c:=
 let⟨_,_,a,F⟩:=b;⟨_,_,_,_,_,_,F,S,e1,e2,F.binds hB,⟨a.1,a.2,F.kp⟩,ck⟩
theorem GM.ini(b:GM K C "__init__" q st)(m:W.makesIn K C=true/\W.keepIn K (.ref C)=true)(ps:List Str)(ck:eM N (aH st) G c.body (aM st))(S:FnScope N ps (aH st):=by trivial)(e1:ps.length=c.np:=by rfl)(e2:N.length=c.ns:=by rfl)(hB:Bq "__init__" q st ps:=by trivial):FmOk K G (λfa=>Mk K C fa) "__init__" c:=
 let⟨_,_,a,F⟩:=b;⟨_,_,_,_,_,_,F,S,e1,e2,F.binds hB,⟨m.1,a.1,a.2,m.2⟩,ck⟩
end
end Ng
end
section
namespace Ng
open PySem L2
section
variable {A B:Type}(G:Gs)(cl:Cl)(W:Nat)(r:Ev)(h:Hh)
theorem bP{α:Type} [BEq α] [LawfulBEq α] [DecidableEq α](i j:α):(i==j)=decide (i=j):=by
 by_cases e:i=j
 ·subst e;simp
 ·rw[decide_eq_false e];exact beq_eq_false_iff_ne.mpr e
@[simp] theorem aC(a:A)(f:A->Hh->Rs B):(Rs.ok a h).bind f=f a h:=rfl
@[simp] theorem cM(a:A):(Rs.ok a h).nx=.ok a h:=rfl
@[simp] theorem nxBad:(Rs.bad:Rs A).nx=.bad:=rfl
@[simp] theorem nxExc(c:Nat)(r':Ev):(Rs.exc c r' h:Rs A).nx=.bad:=rfl
@[simp] theorem innOk(a:A):(Rs.ok a h).inn r=.ok a h:=rfl
@[simp] theorem XR(c:Nat)(r':Ev):(Rs.exc c r' h:Rs A).inn r=.exc c r h:=rfl
@[simp] theorem VG(c:Nat)(r':Ev)(f:A->Hh->Rs B):(Rs.exc c r' h:Rs A).bind f=.exc c r' h:=rfl
@[simp] theorem VH(f:A->Hh->Rs B):(Rs.bad:Rs A).bind f=.bad:=rfl
@[simp] theorem eF(i:Nat):ev G cl (.var i) r h=(match r[i]? with|some (some d)=>.ok d h|_=>.bad):=by rw[ev]<;>rfl
@[simp] theorem yU(a:Option D)(l:Ev):(a::l)[0]? =some a:=rfl
@[simp] theorem gd0(a:D)(l:List D):(a::l)[0]? =some a:=rfl
@[simp] theorem aG(i:Int):ev G cl (.int i) r h=.ok (.int i) h:=by rw[ev]<;>rfl
@[simp] theorem YH(i:Bool):ev G cl (.bl i) r h=.ok (.bl i) h:=by rw[ev]<;>rfl
@[simp] theorem JO:ev G cl .non r h=.ok .non h:=by rw[ev]<;>rfl
@[simp] theorem dS(i:Str):ev G cl (.str i) r h=.ok (.str i) h:=by rw[ev]<;>rfl
@[simp] theorem yB(i:Nat):ev G cl (.gc i) r h=(match G.csts[i]? with|some p=>.ok p.2 h|none=>.bad):=by rw[ev]<;>(cases G.csts[i]? <;>rfl)
@[simp] theorem SH(t:Ty):ev G cl (.ty t) r h=.ok (.ty t.nm) h:=by rw[ev]<;>rfl
@[simp] theorem iJ(op:Bop)(a b:E):ev G cl (.bin op a b) r h=(ev G cl a r h).bind λx h=>(ev G cl b r h).bind λy h=>cQ op x y h:=by rw[ev]<;>rfl
@[simp] theorem JP(a:E):ev G cl (.neg a) r h=(ev G cl a r h).bind λx h=>match x with|.int i=>.ok (.int (-i)) h|_=>.bad:=by rw[ev]<;>rfl
@[simp] theorem wC(op:Cop)(a b:E):ev G cl (.cmp op a b) r h=(ev G cl a r h).bind λx h=>(ev G cl b r h).bind λy h=>cG op x y h:=by rw[ev]<;>rfl
@[simp] theorem wE(a b:E):ev G cl (.and a b) r h=(ev G cl a r h).bind λx h=>match fQ x h with|some true=>ev G cl b r h|some false=>.ok x h|none=>.bad:=by rw[ev]<;>rfl
@[simp] theorem BY(a b:E):ev G cl (.or a b) r h=(ev G cl a r h).bind λx h=>match fQ x h with|some true=>.ok x h|some false=>ev G cl b r h|none=>.bad:=by rw[ev]<;>rfl
@[simp] theorem SN(a:E):ev G cl (.not a) r h=(ev G cl a r h).bind λx h=>match fQ x h with|some b=>.ok (.bl (!b)) h|none=>.bad:=by rw[ev]<;>rfl
@[simp] theorem evIte(c a b:E):ev G cl (.ite c a b) r h=(ev G cl c r h).bind λx h=>match fQ x h with|some true=>ev G cl a r h|some false=>ev G cl b r h|none=>.bad:=by rw[ev]<;>rfl
@[simp] theorem uD(a b:E):ev G cl (.ix a b) r h=(ev G cl a r h).bind λx h=>(ev G cl b r h).bind λy h=>lJ x y h:=by rw[ev]<;>rfl
@[simp] theorem sG(l:Es):ev G cl (.tup l) r h=(cJ G cl l r h).bind λds h=>if ds.length<=1000 then .ok (.tup ds) h else .bad:=by rw[ev]<;>rfl
@[simp] theorem BZ(l:Es):ev G cl (.lst l) r h=(cJ G cl l r h).bind λds h=>if ds.length<=1000 then .ok (.ref h.length) (h++ [.lst ds]) else .bad:=by rw[ev]<;>rfl
@[simp] theorem CB(f:Nat)(l:Es):ev G cl (.call f l) r h=(cJ G cl l r h).bind λds h=>(cl f ds h).nx:=by rw[ev]<;>rfl
@[simp] theorem oU(f:Blt)(l:Es):ev G cl (.blt f l) r h=(cJ G cl l r h).bind λds h=>fG f ds h:=by rw[ev]<;>rfl
@[simp] theorem CD(o e:E):ev G cl (.app o e) r h=(ev G cl o r h).bind λx h=>if cO x h=true then(ev G cl e r h).bind λy h=>nS x y h else .bad:=by rw[ev]<;>rfl
@[simp] theorem nH:jU G cl .nil r h=.ok true h:=by rw[jU]<;>rfl
@[simp] theorem wA(e:E)(l:Es):jU G cl (.cons e l) r h=(ev G cl e r h).bind λx h=>match fQ x h with|some true=>jU G cl l r h|some false=>.ok false h|none=>.bad:=by rw[jU]<;>rfl
theorem uF(t:Tg)(k:Ck)(it cs:Es)(e:E)(N:List Str)(cap:List Nat):ev G cl (.comp t k it cs e N cap) r h=(cJ G cl it r h).bind λxs h=>(iM t (jU G cl cs) (ev G cl e) h.length k xs h (aT N cap r) (h++ [.lst []])).bind λ_ h'=>.ok (.ref h.length) h':=by rw[ev]<;>rfl
@[simp] theorem bZ:cJ G cl .nil r h=.ok [] h:=by rw[cJ]<;>rfl
@[simp] theorem cE(e:E)(l:Es):cJ G cl (.cons e l) r h=(ev G cl e r h).bind λd h=>(cJ G cl l r h).bind λds h=>.ok (d::ds) h:=by rw[cJ]<;>rfl
@[simp] theorem jK(t:Tg)(e:E):xs G cl W (.asg t e) r h=(ev G cl e r h).nx.bind λx h=>match cZ t x r with|some r1=>.ok (.nx r1) h|none=>.bad:=by rw[xs]<;>rfl
@[simp] theorem PM(i:Nat)(e:E):xs G cl W (.asc i e) r h=(ev G cl e r h).nx.bind λx h=>.ok (.nx (r.set i (some x))) h:=by rw[xs]<;>rfl
@[simp] theorem KL(e:E):xs G cl W (.ex e) r h=(ev G cl e r h).nx.bind λ_ h=>.ok (.nx r) h:=by rw[xs]<;>rfl
@[simp] theorem vB(e:E):xs G cl W (.ret e) r h=(ev G cl e r h).nx.bind λx h=>.ok (.rt x) h:=by rw[xs]<;>rfl
@[simp] theorem lT(c:E)(a b:Ss):xs G cl W (.iff c a b) r h=(ev G cl c r h).nx.bind λx h=>match fQ x h with|some true=>bR G cl W a r h|some false=>bR G cl W b r h|none=>.bad:=by rw[xs]<;>rfl
@[simp] theorem KK(t:Tg)(e:E)(b:Ss):xs G cl W (.forr t (.r1 e) b) r h=(ev G cl e r h).nx.bind λx h=>match x with|.int j=>if tN j then dA t (bR G cl W b) (dP 0 j) r h else .bad|_=>.bad:=by rw[xs]<;>rfl
@[simp] theorem VP(t:Tg)(e e':E)(b:Ss):xs G cl W (.forr t (.r2 e e') b) r h=(ev G cl e r h).nx.bind λx h=>(ev G cl e' r h).nx.bind λy h=>match x,y with|.int i,.int j=>if tN i/\tN j then dA t (bR G cl W b) (dP i j) r h else .bad|_,_=>.bad:=by rw[xs]<;>rfl
@[simp] theorem yW(t:Tg)(e:E)(b:Ss):xs G cl W (.forr t (.sq e) b) r h=(ev G cl e r h).nx.bind λx h=>BV W t (bR G cl W b) x r h:=by rw[xs]<;>rfl
@[simp] theorem IC(c:E)(b:Ss):xs G cl W (.whl c b) r h=cU (ev G cl c) (bR G cl W b) W r h:=by rw[xs]<;>rfl
@[simp] theorem kA(c:Nat)(x:Str):xs G cl W (.rais c x) r h=.exc c r h:=by rw[xs]<;>rfl
@[simp] theorem KM(t:Tg)(f:Nat)(l:Es):xs G cl W (.asgX t f l) r h=(cJ G cl l r h).nx.bind λds h=>((cl f ds h).inn r).bind λx h=>match cZ t x r with|some r1=>.ok (.nx r1) h|none=>.bad:=by rw[xs]<;>rfl
@[simp] theorem VN(f:Nat)(l:Es):xs G cl W (.retX f l) r h=(cJ G cl l r h).nx.bind λds h=>((cl f ds h).inn r).bind λx h=>.ok (.rt x) h:=by rw[xs]<;>rfl
@[simp] theorem xsExX(f:Nat)(l:Es):xs G cl W (.exX f l) r h=(cJ G cl l r h).nx.bind λds h=>((cl f ds h).inn r).bind λ_ h=>.ok (.nx r) h:=by rw[xs]<;>rfl
@[simp] theorem ID(b:Ss)(g:Nat)(j:Option Nat)(hs:List HS):xs G cl W (.tryx b g j hs) r h=qI G g j hs (bR G cl W b r h):=by rw[xs]<;>rfl
@[simp] theorem evMxd(mx:Bool)(a b:E):ev G cl (.mxd mx a b) r h=(ev G cl a r h).bind λx h=>(ev G cl b r h).bind λy h=>KA mx x y h:=by rw[ev]<;>rfl
@[simp] theorem evIns(o i e:E):ev G cl (.ins o i e) r h=(ev G cl o r h).bind λx h=>if cO x h=true then(ev G cl i r h).bind λy h=>(ev G cl e r h).bind λz h=>RV x y z h else .bad:=by rw[ev]<;>rfl
@[simp] theorem evLrg(a:E):ev G cl (.lrg a) r h=(ev G cl a r h).bind λx h=>RF x h:=by rw[ev]<;>rfl
@[simp] theorem YG(ks:List Str)(vs:Es):ev G cl (.disp ks vs) r h=(cJ G cl vs r (h++ [.dct []])).bind λds h'=>JV ks ds h.length h':=by rw[ev]<;>rfl
theorem fO{s:S}{l:Ss}{r r':Ev}{h h':Hh}{c:Nat}{G:Gs}{cl:Cl}{W:Nat}(e:xs G cl W s r h=.exc c r' h'):bR G cl W (.cons s l) r h=.exc c r' h':=by rw[bR,e];rfl
@[simp] theorem VO:xs G cl W .pass r h=.ok (.nx r) h:=by rw[xs]<;>rfl
@[simp] theorem xsBrk:xs G cl W .brk r h=.ok (.bk r) h:=by rw[xs]<;>rfl
@[simp] theorem VQ:xs G cl W .cont r h=.ok (.ct r) h:=by rw[xs]<;>rfl
@[simp] theorem IE(o i e:E):xs G cl W (.stx o i e) r h=(ev G cl e r h).nx.bind λz h=>(ev G cl o r h).nx.bind λx h=>(ev G cl i r h).nx.bind λy h=>(qY x y z h).nx.bind λ_ h=>.ok (.nx r) h:=by rw[xs]<;>rfl
@[simp] theorem aP:bR G cl W .nil r h=.ok (.nx r) h:=by rw[bR]<;>rfl
@[simp] theorem jJ(s:S)(l:Ss):bR G cl W (.cons s l) r h=(xs G cl W s r h).bind λfl h=>match fl with|.nx r2=>bR G cl W l r2 h|f=>.ok f h:=by rw[bR]<;>rfl
theorem aF{s:S}{l:Ss}{r r':Ev}{h h':Hh}{G:Gs}{cl:Cl}{W:Nat}(e:xs G cl W s r h=.ok (.nx r') h'):bR G cl W (.cons s l) r h=bR G cl W l r' h':=by rw[jJ,e];rfl
theorem bY{s:S}{l:Ss}{r:Ev}{d:D}{h h':Hh}{G:Gs}{cl:Cl}{W:Nat}(e:xs G cl W s r h=.ok (.rt d) h'):bR G cl W (.cons s l) r h=.ok (.rt d) h':=by rw[jJ,e];rfl
@[simp] theorem rE(i:Nat)(d:D):cZ (.nm i) d r=some (r.set i (some d)):=rfl
@[simp] theorem setTp(l:List Nat)(ds:List D):cZ (.tp l) (.tup ds) r=if ds.length=l.length then some (fR l ds r) else none:=rfl
@[simp] theorem UT:fR [] [] r=r:=rfl
@[simp] theorem US(i:Nat)(is:List Nat)(d:D)(ds:List D):fR (i::is) (d::ds) r=fR is ds (r.set i (some d)):=rfl
@[simp] theorem jG(i j:Int):cQ .add (.int i) (.int j) h=.ok (.int (i+j)) h:=rfl
@[simp] theorem sR(i j:Int):cQ .sub (.int i) (.int j) h=.ok (.int (i-j)) h:=rfl
theorem pF{i j:Int}(a: -18446744073709551616<i)(b:i<18446744073709551616):cQ .mul (.int i) (.int j) h=.ok (.int (i*j)) h:=by
 show(if _ then _ else _)=_
 rw[if_pos (.inl ⟨a,b⟩)]
theorem wT{i j:Int}(a: -18446744073709551616<j)(b:j<18446744073709551616):cQ .mul (.int i) (.int j) h=.ok (.int (i*j)) h:=by
 show(if _ then _ else _)=_
 rw[if_pos (.inr ⟨a,b⟩)]
theorem uU{i j:Int}(a:0<j)(b:j<1073741824):cQ .fdiv (.int i) (.int j) h=.ok (.int (i/j)) h:=by
 show(if _ then _ else _)=_
 rw[if_pos ⟨a,b⟩]
theorem dM{i j:Int}(a:0<j):cQ .mod (.int i) (.int j) h=.ok (.int (i%j)) h:=by
 show(if _ then _ else _)=_
 rw[if_pos a]
@[simp] theorem DQ:cQ .pow (.int 10) (.int 18) h=.ok (.int 1000000000000000000) h:=rfl
@[simp] theorem ZN:cQ .pow (.int 10) (.int 27) h=.ok (.int 1000000000000000000000000000) h:=rfl
@[simp] theorem JY(i j:Int):cG .lt (.int i) (.int j) h=.ok (.bl (decide (i<j))) h:=rfl
@[simp] theorem wN(i j:Int):cG .le (.int i) (.int j) h=.ok (.bl (decide (i<=j))) h:=rfl
@[simp] theorem UA(i j:Int):cG .gt (.int i) (.int j) h=.ok (.bl (decide (j<i))) h:=rfl
@[simp] theorem VF(i j:Int):cG .ge (.int i) (.int j) h=.ok (.bl (decide (j<=i))) h:=rfl
@[simp] theorem DN(i j:Int):cG .eq (.int i) (.int j) h=.ok (.bl (decide (i=j))) h:=by rw[<- bP];rfl
@[simp] theorem cNeI(i j:Int):cG .ne (.int i) (.int j) h=.ok (.bl (!decide (i=j))) h:=by rw[<- bP];rfl
@[simp] theorem cEqB(i j:Bool):cG .eq (.bl i) (.bl j) h=.ok (.bl (decide (i=j))) h:=by rw[<- bP];rfl
@[simp] theorem cNeB(i j:Bool):cG .ne (.bl i) (.bl j) h=.ok (.bl (!decide (i=j))) h:=by rw[<- bP];rfl
@[simp] theorem ZK(i j:Str):cG .eq (.str i) (.str j) h=.ok (.bl (decide (i=j))) h:=by rw[<- bP];rfl
@[simp] theorem TY(i j:Str):cG .ne (.str i) (.str j) h=.ok (.bl (!decide (i=j))) h:=by rw[<- bP];rfl
@[simp] theorem ZH(a b:List D):cG .ne (.tup a) (.tup b) h=(match nZ (iK 19) a b with|some k=>.ok (.bl (!k)) h|none=>.bad):=rfl
@[simp] theorem cEqT(a b:List D):cG .eq (.tup a) (.tup b) h=(match nZ (iK 19) a b with|some k=>.ok (.bl k) h|none=>.bad):=rfl
@[simp] theorem SW(f:D->D->Option Bool):nZ f [] []=some true:=rfl
@[simp] theorem NS(f:D->D->Option Bool)(x y:D)(xs ys:List D):nZ f (x::xs) (y::ys)=(match f x y,nZ f xs ys with|some a,some b=>some (a&&b)|_,_=>none):=rfl
@[simp] theorem SX(n:Nat)(i j:Int):iK n (.int i) (.int j)=some (decide (i=j)):=by rw[<- bP];cases n<;>rfl
@[simp] theorem eqDS(n:Nat)(i j:Str):iK n (.str i) (.str j)=some (decide (i=j)):=by rw[<- bP];cases n<;>rfl
@[simp] theorem YJ(n:Nat)(a b:List D):iK (n+1) (.tup a) (.tup b)=nZ (iK n) a b:=rfl
@[simp] theorem isInt(i:Int):cH (.int i) (.ty "int") h=.ok (.bl true) h:=rfl
@[simp] theorem XN(i:Int):cH (.int i) (.ty "bool") h=.ok (.bl false) h:=rfl
@[simp] theorem XL(i:Int):cH (.int i) (.ty "tuple") h=.ok (.bl false) h:=rfl
@[simp] theorem XM(i:Int):cH (.int i) (.ty "list") h=.ok (.bl false) h:=rfl
@[simp] theorem VC(i:Int):cH (.int i) (.tup [.ty "tuple",.ty "list"]) h=.ok (.bl false) h:=rfl
@[simp] theorem XD(l:List D):cH (.tup l) (.ty "tuple") h=.ok (.bl true) h:=rfl
@[simp] theorem XE(l:List D):cH (.tup l) (.ty "list") h=.ok (.bl false) h:=rfl
@[simp] theorem UZ(l:List D):cH (.tup l) (.tup [.ty "tuple",.ty "list"]) h=.ok (.bl true) h:=rfl
@[simp] theorem XG(l:List D):cH (.tup l) (.ty "bool") h=.ok (.bl false) h:=rfl
@[simp] theorem XF(l:List D):cH (.tup l) (.ty "int") h=.ok (.bl false) h:=rfl
@[simp] theorem nmInt:Ty.int.nm="int":=rfl
@[simp] theorem WS:Ty.bool.nm="bool":=rfl
@[simp] theorem nmStr:Ty.str.nm="str":=rfl
@[simp] theorem nmTup:Ty.tuple.nm="tuple":=rfl
@[simp] theorem nmLst:Ty.list.nm="list":=rfl
@[simp] theorem ZJ(x:D):cG .is x .non h=.ok (.bl (gR x)) h:=rfl
@[simp] theorem TZ(x:D):cG .isnot x .non h=.ok (.bl (!gR x)) h:=rfl
@[simp] theorem sT(b:Bool):fQ (.bl b) h=some b:=rfl
@[simp] theorem tInt(i:Int):fQ (.int i) h=some (i != 0):=rfl
@[simp] theorem sTup(l:List D):dO (.tup l) h=some l:=rfl
@[simp] theorem jO(n:Nat):dO (.ref n) h=aI h n:=rfl
@[simp] theorem iTup(l:List D)(i:Int):lJ (.tup l) (.int i) h=(match lM l i with|some d=>.ok d h|none=>.bad):=rfl
theorem iW{n:Nat}{l:List D}(i:Int)(e:aI h n=some l):lJ (.ref n) (.int i) h=(match lM l i with|some d=>.ok d h|none=>.bad):=by
 have d0:bW h (.ref n)=none:=by
  show(match h[n]? with|some (.dct l)=>some l|_=>none)=none
  unfold aI at e;cases q:h[n]? with
  |none=>rfl
  |some o=>
   cases o with
   |lst l'=>rfl
   |ro l'=>rfl
   |dct l'=>rw[q] at e;cases e
   |dtt l'=>rfl
   |ded=>rfl
   |dtf l'=>rfl
   |ins c f=>rfl
 have d1:eY h (.ref n)=none:=by
  show(match h[n]? with|some (.dtf l)=>some l|_=>none)=none
  unfold aI at e;cases q:h[n]? with
  |none=>rfl
  |some o=>
   cases o with
   |dtf l'=>rw[q] at e;cases e
   |_=>rfl
 have e2:dO (.ref n) h=some l:=e;have e3:lJ (.ref n) (.int i) h=(match bW h (.ref n) with|some l=>PF l (.int i) h|none=>match eY h (.ref n) with|some l=>UY l (.int i) h|none=>MZ (.ref n) (.int i) h):=rfl;rw[e3,d0,d1];show MZ (.ref n) (.int i) h=_;unfold MZ;rw[e2]<;>rfl
theorem XT{n:Nat}{l:List (bQ×D)}(y:D)(e:h[n]? =some (.dct l)):lJ (.ref n) y h=PF l y h:=by
 have d0:bW h (.ref n)=some l:=by
  show(match h[n]? with|some (.dct l)=>some l|_=>none)=some l
  rw[e]
 show(match bW h (.ref n) with|some l=>PF l y h|none=>match eY h (.ref n) with|some l=>UY l y h|none=>MZ (.ref n) y h)=_
 rw[d0]
noncomputable def tV(x:D)(h:Hh):Rs D:=match x with
 |.str z=>if z.length<=sizeLine then .ok (.int z.length) h else .bad
 |x=>match eY h x with
  |some l=>.ok (.int l.length) h
  |none=>match bW h x with
   |some l=>.ok (.int l.length) h
   |none=>.bad
@[simp] theorem sS(x:D):fG .len [x] h=(match dO x h with|some l=>.ok (.int l.length) h|none=>tV x h):=rfl
theorem KB{n:Nat}{cn f:Str}{fs:List (Str×D)}{d:D}(e:h[n]? =some (.ins cn fs))(q:fs.lookup f=some d):DR cn (.ref n) f h=.ok d h:=by
 unfold DR;simp only[e,if_true,q]
theorem tP{n:Nat}{cn m:Str}{fs:List (Str×D)}(e:h[n]? =some (.ins cn fs))(q:fs.lookup m=none):fK (.ref n) cn m h=true:=by
 unfold fK;simp only[e,q,decide_true,Bool.true_and,Option.isNone_none]
theorem IQ{n:Nat}{cn f:Str}{fs:List (Str×D)}{d:D}(e:h[n]? =some (.ins cn fs))(q:fs.length<900):zT cn (.ref n) d f h=.ok () (h.set n (.ins cn (nW f d fs))):=by
 unfold zT;simp only[e,q,and_self,if_true]
@[simp] theorem JT(o:E)(cn f:Str):ev G cl (.att o cn f) r h=(ev G cl o r h).bind λx h=>DR cn x f h:=by rw[ev]<;>rfl
@[simp] theorem SQ(cn:Str)(f:Nat)(l:Es):ev G cl (.new cn f l) r h=(cJ G cl l r h).bind λds h=>(jS cn (cl f) ds h).nx:=by rw[ev]<;>rfl
@[simp] theorem JQ(o:E)(cn m:Str)(f:Nat)(l:Es):ev G cl (.mth o cn m f l) r h=(ev G cl o r h).bind λx h=>if fK x cn m h=true then(cJ G cl l r h).bind λds h=>(cl f (x::ds) h).nx else .bad:=by rw[ev]<;>rfl
@[simp] theorem JM(a b:E):ev G cl (.slT a b) r h=(ev G cl a r h).bind λx h=>(ev G cl b r h).bind λy h=>EI x y h:=by rw[ev]<;>rfl
@[simp] theorem evSlA(a b:E):ev G cl (.slA a b) r h=(ev G cl a r h).bind λx h=>(ev G cl b r h).bind λy h=>QI x y h:=by rw[ev]<;>rfl
@[simp] theorem evSlZ(a b:E):ev G cl (.slZ a b) r h=(ev G cl a r h).bind λx h=>(ev G cl b r h).bind λy h=>QH x y h:=by rw[ev]<;>rfl
@[simp] theorem SU(op op':Cop)(a b c:E):ev G cl (.chn op op' a b c) r h=(ev G cl a r h).bind λx h=>(ev G cl b r h).bind λy h=>(cG op x y h).bind λp h=>match p with
 |.bl true=>(ev G cl c r h).bind λz h=>cG op' y z h
 |.bl false=>.ok (.bl false) h
 |_=>.bad:=by rw[ev]<;>rfl
@[simp] theorem evRev(o:E):ev G cl (.rev o) r h=(ev G cl o r h).bind λx h=>QL x h:=by rw[ev]<;>rfl
theorem ST(t:Tg)(i k v:E)(N:List Str)(cap:List Nat):ev G cl (.dcT t i k v N cap) r h=(ev G cl i r h).bind λx h=>TF t (ev G cl k) (ev G cl v) x (aT N cap r) h:=by rw[ev]<;>rfl
@[simp] theorem VR(l:List Nat)(e:E):xs G cl W (.asgL l e) r h=(ev G cl e r h).nx.bind λx h=>match x with
 |.ref n=>(match aI h n with
  |some ds=>if ds.length=l.length then .ok (.nx (fR l ds r)) h else .bad
  |none=>.bad)
 |_=>.bad:=by rw[xs]<;>rfl
@[simp] theorem xsExN(cn:Str)(f:Nat)(l:Es):xs G cl W (.exN cn f l) r h=(cJ G cl l r h).nx.bind λds h=>((jS cn (cl f) ds h).inn r).bind λ_ h=>.ok (.nx r) h:=by rw[xs]<;>rfl
@[simp] theorem IF(o:E)(cn f:Str)(e:E):xs G cl W (.sfl o cn f e) r h=(ev G cl e r h).nx.bind λz h=>(ev G cl o r h).nx.bind λx h=>(zT cn x z f h).nx.bind λ_ h=>.ok (.nx r) h:=by rw[xs]<;>rfl
@[simp] theorem bIs(x y:D):fG .isinst [x,y] h=cH x y h:=rfl
@[simp] theorem bIntI(i:Int):fG .int [.int i] h=.ok (.int i) h:=rfl
@[simp] theorem UE(i:Bool):fG .int [.bl i] h=.ok (.int (if i then 1 else 0)) h:=rfl
@[simp] theorem bList(x:D):fG .list [x] h=(match dO x h with|some l=>.ok (.ref h.length) (h++ [.lst l])|none=>.bad):=rfl
@[simp] theorem fE(n:Nat):cO (.ref n) h=(aI h n).isSome:=rfl
@[simp] theorem OT(n:Nat)(y:D):nS (.ref n) y h=(match h[n]? with|some (.lst l)=>if l.length<1000000 then .ok .non (h.set n (.lst (l++ [y]))) else .bad|_=>.bad):=rfl
@[simp] theorem aX(l:List D):aI (h++ [.lst l]) h.length=some l:=by simp[aI,JC]
theorem eB{n:Nat}{l:List D}(o:List O)(e:aI h n=some l):aI (h++o) n=some l:=by
 unfold aI at e⊢;cases q:h[n]? with
 |none=>rw[q] at e;cases e
 |some u=>
  rw[List.getElem?_append_left (Ze.mp q).1,q];rw[q] at e;exact e
@[simp] theorem bK(o:O):(h++ [o])[h.length]? =some o:=by simp
@[simp] theorem gL(o o':O):(h++ [o]).set h.length o'=h++ [o']:=by simp
@[simp] theorem forS0(t:Tg)(b:Ev->Hh->Rs Fl):dA t b [] r h=.ok (.nx r) h:=rfl
@[simp] theorem sE(t:Tg)(b:Ev->Hh->Rs Fl)(d:D)(ds:List D):dA t b (d::ds) r h=(match cZ t d r with|none=>.bad|some r1=>(b r1 h).bind λfl h=>match fl with|.nx r2=>dA t b ds r2 h|.ct r2=>dA t b ds r2 h|.bk r2=>.ok (.nx r2) h|.rt d=>.ok (.rt d) h):=rfl
@[simp] theorem forDT(t:Tg)(b:Ev->Hh->Rs Fl)(l:List D):BV W t b (.tup l) r h=dA t b l r h:=rfl
@[simp] theorem JK(t:Tg)(b:Ev->Hh->Rs Fl)(n:Nat):BV W t b (.ref n) r h=gJ t b n W 0 r h:=rfl
@[simp] theorem endRt(d:D):cK (.rt d) h=.ok d h:=rfl
@[simp] theorem endNx(d:Ev):cK (.nx d) h=.ok .non h:=rfl
end
theorem aV{G:Gs}{T:Nat->Option Fc}{W n f:Nat}{c:Fc}{ds:List D}{h:Hh}(hc:T f=some c)(hl:ds.length=c.np):aR G T W (n+1) f ds h=(bR G (aR G T W n) W c.body (ds.map some++List.replicate (c.ns-c.np) none) h).bind cK:=by
 simp only[aR,hc];rw[if_pos hl]
noncomputable def yG:E:=(.and (.cmp .gt (.var 3) (.int 0)) (.cmp .lt (.blt .len (.cons (.var 5) .nil)) (.var 2)))
noncomputable def GU:Ss:=(.cons (.ex (.app (.var 5) (.bin .mod (.var 3) (.int 1013)))) (.cons (.asg (.nm 3) (.bin .fdiv (.var 3) (.int 1013))) .nil))
noncomputable def sK:E:=(.cmp .lt (.blt .len (.cons (.var 5) .nil)) (.var 2))
noncomputable def yF:Ss:=(.cons (.asg (.nm 6) (.bin .add (.blt .len (.cons (.var 5) .nil)) (.int 1))) (.cons (.asg (.nm 4) (.bin .mod (.bin .add (.bin .add (.bin .mul (.var 4) (.int 48271)) (.bin .mul (.bin .mul (.var 6) (.var 6)) (.int 6133))) (.int 17)) (.int 2147483647))) (.cons (.ex (.app (.var 5) (.bin .mod (.bin .mod (.bin .mul (.bin .mod (.var 4) (.int 65521)) (.bin .add (.bin .mod (.bin .fdiv (.var 4) (.int 65521)) (.int 32749)) (.int 1))) (.int 1000003)) (.int 1013)))) .nil)))
def InR(row:List Int):Prop:=∀v∈row,0<=v/\v<1013
theorem InR.snoc{row:List Int}{v:Int}(h:InR row)(a:0<=v)(b:v<1013):InR (row++ [v]):=λu hu=>by
 rcases List.mem_append.mp hu with hu|hu
 ·exact h u hu
 ·have:u=v:=by simpa using hu
  subst this;exact⟨a,b⟩
section
variable (G:Gs)(cl:Cl)(W:Nat)(h:Hh)
theorem dW1(M:Nat)(hM:M<=1000)(d0 d1 d4:Option D)(d6:Option D):∀(k:Nat)(row:List Int)(cell:Int),row.length<=M->InR row->M-row.length<k->
 ∃row' cell',row'.length<=M/\InR row'/\cU (ev G cl yG) (bR G cl W GU) k [d0,d1,some (.int M),some (.int cell),d4,some (.ref h.length),d6] (h++ [.lst (row.map D.int)])
  =.ok (.nx [d0,d1,some (.int M),some (.int cell'),d4,some (.ref h.length),d6]) (h++ [.lst (row'.map D.int)])
 |0,_,_,_,_,hk=>by omega
 |k+1,row,cell,hl,hr,hk=>by
  by_cases hc:0<cell
  ·by_cases hm:row.length<M
   ·have hm':((row.length:Int)<(M:Int)):=by omega
    have hb:InR (row++ [cell%1013]):=hr.snoc (Int.emod_nonneg _ (by decide)) (Int.emod_lt_of_pos _ (by decide));obtain⟨row',cell',h1,h2,h3⟩:=dW1 M hM d0 d1 d4 d6 k (row++ [cell%1013]) (cell/1013) (by simp;omega) hb (by simp;omega);refine⟨row',cell',h1,h2,?_⟩;rw[<- h3];have hz:row.length<1000000:=by omega
    simp (disch:=omega) [cU,yG,GU,hc,hm',hm,hz,dM,uU]
   ·refine⟨row,cell,hl,hr,?_⟩;have hm':¬((row.length:Int)<(M:Int)):=by omega
    simp[cU,yG,hc,hm',hm]
  ·refine⟨row,cell,hl,hr,?_⟩;simp[cU,yG,hc]
noncomputable def PC(mark seed:Int):Int:=(seed*48271+mark*mark*6133+17)%2147483647
noncomputable def UW(s:Int):Int:=(s%65521)*(s/65521%32749+1)%1000003%1013
theorem dT2(d0 d1 d2 d3 d5:Option D)(mark seed:Int)(hm:0<=mark)(hm2:mark<100000)(hh:Hh):
 xs G cl W (.asg (.nm 4) (.bin .mod (.bin .add (.bin .add (.bin .mul (.var 4) (.int 48271)) (.bin .mul (.bin .mul (.var 6) (.var 6)) (.int 6133))) (.int 17)) (.int 2147483647))) [d0,d1,d2,d3,some (.int seed),d5,some (.int mark)] hh
  =.ok (.nx [d0,d1,d2,d3,some (.int (PC mark seed)),d5,some (.int mark)]) hh:=by
 have m1:cQ .mul (.int mark) (.int mark) hh=.ok (.int (mark*mark)) hh:=pF hh (by omega) (by omega);have m2:cQ .mul (.int seed) (.int 48271) hh=.ok (.int (seed*48271)) hh:=wT hh (by omega) (by omega);have m3:∀x:Int,cQ .mul (.int x) (.int 6133) hh=.ok (.int (x*6133)) hh:=λx=>wT hh (by omega) (by omega);have q1:∀x:Int,cQ .mod (.int x) (.int 2147483647) hh=.ok (.int (x%2147483647)) hh:=λx=>dM hh (by omega);have e1:∀x:Int,(seed*48271+mark*mark*6133+17)%2147483647=PC mark seed:=λ_=>rfl;simp only[jK,iJ,eF,List.getElem?_cons_succ,yU,aG,aC,cM,m1,m2,m3,jG,q1,rE,List.set_cons_succ,List.set_cons_zero,e1 0]
theorem dT3(d0 d1 d2 d3 d6:Option D)(row:List Int)(seed:Int)(hz:row.length<1000000):
 xs G cl W (.ex (.app (.var 5) (.bin .mod (.bin .mod (.bin .mul (.bin .mod (.var 4) (.int 65521)) (.bin .add (.bin .mod (.bin .fdiv (.var 4) (.int 65521)) (.int 32749)) (.int 1))) (.int 1000003)) (.int 1013)))) [d0,d1,d2,d3,some (.int seed),some (.ref h.length),d6] (h++ [.lst (row.map D.int)])
  =.ok (.nx [d0,d1,d2,d3,some (.int seed),some (.ref h.length),d6]) (h++ [.lst ((row++ [UW seed]).map D.int)]):=by
 have hk:=Int.emod_nonneg seed (show(65521:Int)≠0 by decide);have hk2:=Int.emod_lt_of_pos seed (show(0:Int)<65521 by decide);have m4:∀(x:Int) hh,cQ .mul (.int (seed%65521)) (.int x) hh=.ok (.int ((seed%65521)*x)) hh:=λx hh=>pF hh (by omega) (by omega);have q2:∀(x:Int) hh,cQ .mod (.int x) (.int 65521) hh=.ok (.int (x%65521)) hh:=λx hh=>dM hh (by omega);have q3:∀(x:Int) hh,cQ .mod (.int x) (.int 32749) hh=.ok (.int (x%32749)) hh:=λx hh=>dM hh (by omega);have q4:∀(x:Int) hh,cQ .mod (.int x) (.int 1000003) hh=.ok (.int (x%1000003)) hh:=λx hh=>dM hh (by omega);have q5:∀(x:Int) hh,cQ .mod (.int x) (.int 1013) hh=.ok (.int (x%1013)) hh:=λx hh=>dM hh (by omega);have q6:∀(x:Int) hh,cQ .fdiv (.int x) (.int 65521) hh=.ok (.int (x/65521)) hh:=λx hh=>uU hh (by omega) (by omega);have e2:∀s:Int,(s%65521)*(s/65521%32749+1)%1000003%1013=UW s:=λ_=>rfl;simp only[KL,iJ,eF,List.getElem?_cons_succ,yU,aG,aC,cM,CD,fE,aX,Option.isSome_some,if_true,jG,q2,q3,q4,q5,q6,m4,e2,OT,bK,Zc,hz,if_pos,gL,List.map_append,Zh,List.map_nil]
theorem dT1(d0 d1 d2 d3 d4 d6:Option D)(row:List Int):
 xs G cl W (.asg (.nm 6) (.bin .add (.blt .len (.cons (.var 5) .nil)) (.int 1))) [d0,d1,d2,d3,d4,some (.ref h.length),d6] (h++ [.lst (row.map D.int)])
  =.ok (.nx [d0,d1,d2,d3,d4,some (.ref h.length),some (.int ((row.length:Int)+1))]) (h++ [.lst (row.map D.int)]):=by
 simp only[jK,iJ,oU,cE,bZ,eF,List.getElem?_cons_succ,yU,aG,aC,cM,sS,jO,aX,Zc,jG,rE,List.set_cons_succ,List.set_cons_zero]
theorem GT(d0 d1 d2 d3 d6:Option D)(row:List Int)(seed:Int)(hz:row.length<1000):
 bR G cl W yF [d0,d1,d2,d3,some (.int seed),some (.ref h.length),d6] (h++ [.lst (row.map D.int)])
  =.ok (.nx [d0,d1,d2,d3,some (.int (PC ((row.length:Int)+1) seed)),some (.ref h.length),some (.int ((row.length:Int)+1))]) (h++ [.lst ((row++ [UW (PC ((row.length:Int)+1) seed)]).map D.int)]):=by
 rw[yF,aF (dT1 G cl W h d0 d1 d2 d3 _ d6 row),aF (dT2 G cl W d0 d1 d2 d3 _ _ seed (by omega) (by omega) _),aF (dT3 G cl W h _ _ _ _ _ row _ (by omega)),aP]
theorem dW2(M:Nat)(hM:M<=1000)(d0 d1 d3:Option D):∀(k:Nat)(row:List Int)(seed:Int)(d6:Option D),row.length<=M->InR row->M-row.length<k->
 ∃row' seed' d6',row'.length=M/\InR row'/\cU (ev G cl sK) (bR G cl W yF) k [d0,d1,some (.int M),d3,some (.int seed),some (.ref h.length),d6] (h++ [.lst (row.map D.int)])
  =.ok (.nx [d0,d1,some (.int M),d3,some (.int seed'),some (.ref h.length),d6']) (h++ [.lst (row'.map D.int)]):=by
 intro k
 induction k with
 |zero=>intro row seed d6 _ _ hk;omega
 |succ k ih=>
  intro row seed d6 hl hr hk
  by_cases hm:row.length<M
  ·have hm':((row.length:Int)<(M:Int)):=by omega
   obtain⟨row',seed',d6',h1,h2,h3⟩:=ih (row++ [UW (PC ((row.length:Int)+1) seed)]) (PC ((row.length:Int)+1) seed) (some (.int ((row.length:Int)+1))) (by simp;omega)
    (hr.snoc (Int.emod_nonneg _ (by decide)) (Int.emod_lt_of_pos _ (by decide))) (by simp;omega)
   refine⟨row',seed',d6',h1,h2,?_⟩;rw[<- h3];have hc:ev G cl sK [d0,d1,some (.int M),d3,some (.int seed),some (.ref h.length),d6] (h++ [.lst (row.map D.int)])=.ok (.bl true) (h++ [.lst (row.map D.int)]):=by simp[sK,hm]
   simp only[cU,hc,aC,cM,sT,GT G cl W h d0 d1 _ d3 d6 row seed (by omega)]
  ·refine⟨row,seed,d6,by omega,hr,?_⟩;have hc:ev G cl sK [d0,d1,some (.int M),d3,some (.int seed),some (.ref h.length),d6] (h++ [.lst (row.map D.int)])=.ok (.bl false) (h++ [.lst (row.map D.int)]):=by simp[sK,hm]
   simp only[cU,hc,aC,cM,sT]
noncomputable def TN:S:=.iff (.cmp .lt (.var 1) (.blt .len (.cons (.var 0) .nil))) (.cons (.asg (.nm 3) (.ix (.var 0) (.var 1))) .nil) (.cons (.iff (.cmp .gt (.blt .len (.cons (.var 0) .nil)) (.int 0)) (.cons (.asg (.nm 3) (.bin .add (.bin .add (.bin .mod (.ix (.var 0) (.bin .mod (.var 1) (.blt .len (.cons (.var 0) .nil)))) (.int 999983)) (.bin .mul (.bin .mul (.var 1) (.var 1)) (.int 97))) (.int 1))) .nil) .nil) .nil)
noncomputable def uJ:Ss:=(.cons (.asg (.nm 3) (.bin .add (.bin .mul (.int 7) (.var 1)) (.int 1))) (.cons TN (.cons (.asg (.nm 4) (.bin .add (.bin .add (.bin .mod (.var 3) (.int 999983)) (.bin .mul (.int 31) (.var 1))) (.int 5))) (.cons (.asg (.nm 5) (.lst .nil)) (.cons (.iff (.cmp .ge (.var 3) (.bin .pow (.int 10) (.int 18))) (.cons (.whl yG GU) .nil) .nil) (.cons (.whl sK yF) (.cons (.ret (.var 5)) .nil)))))))
theorem DS{l:List Int}{i:Int}(a:0<=i)(b:i<l.length):∃v,lM (l.map D.int) i=some (.int v):=by
 have hb:i.toNat<l.length:=by omega
 refine⟨l[i.toNat],?_⟩;have:=iF (xs:=l.map D.int) (j:=i.toNat) (v:=.int l[i.toNat]) (by rw[Zi,Zd hb];rfl);rwa [show((i.toNat:Nat):Int)=i by omega] at this
theorem OB(s:Nat)(ns:List Int)(at' c0:Int)(d2 d4 d5 d6:Option D)(h0:0<=at')(h1:at'<100000)(hs:aI h s=some (ns.map D.int)):
 ∃c:Int,xs G cl W TN [some (.ref s),some (.int at'),d2,some (.int c0),d4,d5,d6] h=.ok (.nx [some (.ref s),some (.int at'),d2,some (.int c),d4,d5,d6]) h:=by
 by_cases hl:at'<(ns.length:Int)
 ·obtain⟨v,hv⟩:=DS h0 hl;exact⟨v,by simp[TN,hs,hl,hv,iW h _ hs]⟩
 ·by_cases hp:(0:Int)<ns.length
  ·obtain⟨v,hv⟩:=DS (l:=ns) (i:=at'%ns.length) (Int.emod_nonneg _ (by omega)) (Int.emod_lt_of_pos _ hp);have m0:∀x:Int,cQ .mod (.int x) (.int ns.length) h=.ok (.int (x%ns.length)) h:=λx=>dM h hp;have m1:cQ .mul (.int at') (.int at') h=.ok (.int (at'*at')) h:=pF h (by omega) (by omega);have m2:∀x:Int,cQ .mul (.int x) (.int 97) h=.ok (.int (x*97)) h:=λx=>wT h (by omega) (by omega);have m3:∀x:Int,cQ .mod (.int x) (.int 999983) h=.ok (.int (x%999983)) h:=λx=>dM h (by omega);refine⟨v%999983+at'*at'*97+1,?_⟩;simp only[TN,lT,jJ,aP,jK,wC,eF,List.getElem?_cons_succ,yU,oU,cE,bZ,aC,cM,sS,jO,hs,Zc,JY,sT,hl,decide_false,aG,UA,hp,decide_true,iJ,uD,m0,iW h _ hs,hv,m1,m2,m3,jG,rE,List.set_cons_succ,List.set_cons_zero]
  ·have hp2:¬(0<ns.length):=by omega
   exact⟨c0,by simp[TN,hs,hl,hp,hp2]⟩
theorem CM(s:Nat)(ns:List Int)(at':Int)(M:Nat)(hM:M<=1000)(h0:0<=at')(h1:at'<100000)(hs:aI h s=some (ns.map D.int))(hW:2000<=W):
 ∃row:List Int,row.length=M/\InR row/\bR G cl W uJ [some (.ref s),some (.int at'),some (.int M),none,none,none,none] h=.ok (.rt (.ref h.length)) (h++ [.lst (row.map D.int)]):=by
 have a1:xs G cl W (.asg (.nm 3) (.bin .add (.bin .mul (.int 7) (.var 1)) (.int 1))) [some (.ref s),some (.int at'),some (.int M),none,none,none,none] h=.ok (.nx [some (.ref s),some (.int at'),some (.int M),some (.int (7*at'+1)),none,none,none]) h:=by
  have m1:cQ .mul (.int 7) (.int at') h=.ok (.int (7*at')) h:=pF h (by omega) (by omega);simp only[jK,iJ,eF,List.getElem?_cons_succ,yU,aG,aC,cM,m1,jG,rE,List.set_cons_succ,List.set_cons_zero]
 obtain⟨c,a2⟩:=OB G cl W h s ns at' (7*at'+1) (some (.int M)) none none none h0 h1 hs
 have a3:xs G cl W (.asg (.nm 4) (.bin .add (.bin .add (.bin .mod (.var 3) (.int 999983)) (.bin .mul (.int 31) (.var 1))) (.int 5))) [some (.ref s),some (.int at'),some (.int M),some (.int c),none,none,none] h=.ok (.nx [some (.ref s),some (.int at'),some (.int M),some (.int c),some (.int (c%999983+31*at'+5)),none,none]) h:=by
  have m1:cQ .mul (.int 31) (.int at') h=.ok (.int (31*at')) h:=pF h (by omega) (by omega);have m3:∀x:Int,cQ .mod (.int x) (.int 999983) h=.ok (.int (x%999983)) h:=λx=>dM h (by omega);simp only[jK,iJ,eF,List.getElem?_cons_succ,yU,aG,aC,cM,m1,m3,jG,rE,List.set_cons_succ,List.set_cons_zero]
 have a4:∀x:Int,xs G cl W (.asg (.nm 5) (.lst .nil)) [some (.ref s),some (.int at'),some (.int M),some (.int c),some (.int x),none,none] h=.ok (.nx [some (.ref s),some (.int at'),some (.int M),some (.int c),some (.int x),some (.ref h.length),none]) (h++ [.lst (([]:List Int).map D.int)]):=λx=>by
  simp[jK]
 have a5:∀x:Int,∃row c',row.length<=M/\InR row/\xs G cl W (.iff (.cmp .ge (.var 3) (.bin .pow (.int 10) (.int 18))) (.cons (.whl yG GU) .nil) .nil) [some (.ref s),some (.int at'),some (.int M),some (.int c),some (.int x),some (.ref h.length),none] (h++ [.lst (([]:List Int).map D.int)])
  =.ok (.nx [some (.ref s),some (.int at'),some (.int M),some (.int c'),some (.int x),some (.ref h.length),none]) (h++ [.lst (row.map D.int)]):=λx=>by
  by_cases hc:(1000000000000000000:Int)<=c
  ·obtain⟨row,c',r1,r2,r3⟩:=dW1 G cl W h M hM (some (.ref s)) (some (.int at')) (some (.int x)) none W [] c (Nat.zero_le _) (λ_ z=>by cases z) (by simp;omega);refine⟨row,c',r1,r2,?_⟩;simp only[lT,wC,eF,List.getElem?_cons_succ,yU,iJ,aG,aC,cM,DQ,VF,hc,decide_true,sT,jJ,IC,r3,aP]
  ·refine⟨[],c,Nat.zero_le _,(λ_ z=>by cases z),?_⟩;simp only[lT,wC,eF,List.getElem?_cons_succ,yU,iJ,aG,aC,cM,DQ,VF,hc,decide_false,sT,aP]
 obtain⟨row1,c',r1,r2,a5⟩:=a5 (c%999983+31*at'+5);obtain⟨row,sd,d6,q1,q2,a6⟩:=dW2 G cl W h M hM (some (.ref s)) (some (.int at')) (some (.int c')) W row1 (c%999983+31*at'+5) none r1 r2 (by omega);refine⟨row,q1,q2,?_⟩;rw[uJ,aF a1,aF a2,aF a3,aF (a4 _),aF a5,aF (show xs G cl W (.whl sK yF) _ _=_ from(IC G cl W _ _ sK yF).trans a6)];exact bY (by simp only[vB,eF,List.getElem?_cons_succ,yU,aC,cM])
end
theorem vX{t:Tg}{body:Ev->Hh->Rs Fl}(F:Ev->Prop)(h:Hh):∀(l:List D),(∀d∈l,∀r,F r->∃r1 r2,cZ t d r=some r1/\body r1 h=.ok (.nx r2) h/\F r2)->∀r,F r->∃r',dA t body l r h=.ok (.nx r') h/\F r'
 | [],_,r,hF=>⟨r,by simp,hF⟩
 |d::l,hb,r,hF=>by
  obtain⟨r1,r2,e1,e2,f2⟩:=hb d Zl r hF;obtain⟨r',e3,f3⟩:=vX F h l (λd hd=>hb d (Zj _ hd)) r2 f2;refine⟨r',?_,f3⟩;rw[<- e3,sE,e1]
  show(body r1 h).bind _=_
  rw[e2];rfl
theorem t8{t:Int}(h0:0<=t)(h1:t<8):t=0\/t=1\/t=2\/t=3\/t=4\/t=5\/t=6\/t=7:=by omega
noncomputable def tx(t x y:Int):Int:=if t=0 then x else if t=1 then -y else if t=2 then -x else if t=3 then y else if t=4 then -x else if t=5 then -y else if t=6 then x else y
noncomputable def ty(t x y:Int):Int:=if t=0 then y else if t=1 then x else if t=2 then -y else if t=3 then -x else if t=4 then y else if t=5 then -x else if t=6 then -y else x
section
variable (h:Hh)
@[simp] theorem VA(i:Str):cH (.str i) (.tup [.ty "tuple",.ty "list"]) h=.ok (.bl false) h:=rfl
@[simp] theorem XO(i:Bool):cH (.bl i) (.tup [.ty "tuple",.ty "list"]) h=.ok (.bl false) h:=rfl
@[simp] theorem VB:cH .non (.tup [.ty "tuple",.ty "list"]) h=.ok (.bl false) h:=rfl
@[simp] theorem XJ(i:Str):cH (.str i) (.ty "bool") h=.ok (.bl false) h:=rfl
@[simp] theorem XI(i:Str):cH (.str i) (.ty "int") h=.ok (.bl false) h:=rfl
@[simp] theorem XH(i:Str):cH (.str i) (.ty "str") h=.ok (.bl true) h:=rfl
@[simp] theorem isBlB(i:Bool):cH (.bl i) (.ty "bool") h=.ok (.bl true) h:=rfl
@[simp] theorem inN:gR .non=true:=rfl
@[simp] theorem inI(i:Int):gR (.int i)=false:=rfl
@[simp] theorem inS(i:Str):gR (.str i)=false:=rfl
@[simp] theorem inB(i:Bool):gR (.bl i)=false:=rfl
@[simp] theorem inTu(i:List D):gR (.tup i)=false:=rfl
@[simp] theorem inR(i:Nat):gR (.ref i)=false:=rfl
end
noncomputable def pd:Nat->D->Bool
 |_,.int _=>true
 |_,.str _=>true
 |_,.bl _=>true
 |_,.non=>true
 |k+1,.tup l=>decide (l.length<=1000)&&l.all (pd k)
 |_,_=>false
theorem zW{j:Nat}{d:D}(hd:d∈dP 0 j):∃k:Nat,k<j/\d=.int k:=by
 unfold dP at hd;obtain⟨k,hk,rfl⟩:=List.mem_map.mp hd;exact⟨k,by simpa using hk,by simp⟩
theorem iB(h0 g:Hh)(o:O):(h0++o::g)[h0.length]? =some o:=by simp
theorem vH(h0 g:Hh)(o o':O):(h0++o::g).set h0.length o'=h0++o'::g:=by simp
theorem wU(h0 g:Hh)(l:List D)(y:D)(hl:l.length<1000000):nS (.ref h0.length) y (h0++ .lst l::g)=.ok .non (h0++ .lst (l++ [y])::g):=by
 rw[OT,iB]
 show(if _ then _ else _)=_
 rw[if_pos hl,vH]
theorem hZ(h0 g:Hh)(l:List D):aI (h0++ .lst l::g) h0.length=some l:=by
 unfold aI;rw[iB];rfl
theorem sD{t:Tg}{body:Ev->Hh->Rs Fl}(I:Nat->Ev->Hh->Prop):∀(l:List D)(i:Nat),(∀j d,l[j]? =some d->∀r h,I (i+j) r h->∃r1 r2 h2,cZ t d r=some r1/\body r1 h=.ok (.nx r2) h2/\I (i+j+1) r2 h2)->
 ∀r h,I i r h->∃r' h',dA t body l r h=.ok (.nx r') h'/\I (i+l.length) r' h'
 | [],i,_,r,h,hI=>⟨r,h,by simp,hI⟩
 |d::l,i,hb,r,h,hI=>by
  obtain⟨r1,r2,h2,e1,e2,i2⟩:=hb 0 d rfl r h hI
  obtain⟨r',h',e3,i3⟩:=sD I l (i+1) (λj d hd r h hI=>by
   have:=hb (j+1) d (by simpa using hd) r h (by rw[show i+(j+1)=i+1+j by omega];exact hI);rw[show i+(j+1)=i+1+j by omega] at this;exact this) r2 h2 i2
  refine⟨r',h',?_,by rw[List.length_cons,show i+(l.length+1)=i+1+l.length by omega];exact i3⟩;rw[<- e3,sE,e1]
  show(body r1 h).bind _=_
  rw[e2];rfl
theorem rJ(j k:Nat)(hk:k<j):(dP 0 j)[k]? =some (D.int k):=by
 unfold dP;rw[Zi,List.getElem?_range (by simpa using hk)]
 simp
theorem rH(j:Nat):(dP 0 j).length=j:=by unfold dP;simp
theorem uE{G:Gs}{cl:Cl}{t:Tg}{it cs:Es}{e:E}{N:List Str}{cap:List Nat}{r:Ev}{h h1 h':Hh}{n:Nat}{l:List D}(hi:cJ G cl it r h=.ok [.ref n] h1)(hl:aI h1 n=some l)
 (hc:gH t (jU G cl cs) (ev G cl e) h1.length n (l.length+1) 0 (aT N cap r) (h1++ [O.lst []])=.ok () h'):ev G cl (.comp t .sq it cs e N cap) r h=.ok (.ref h1.length) h':=by
 rw[uF,hi]
 show(iM t _ _ _ .sq [.ref n] h1 _ _).bind _=_
 have e':iM t (jU G cl cs) (ev G cl e) h1.length .sq [.ref n] h1 (aT N cap r) (h1++ [O.lst []])=.ok () h':=by
  show(match aI h1 n with|some l=>gH t (jU G cl cs) (ev G cl e) h1.length n (l.length+1) 0 (aT N cap r) (h1++ [O.lst []])|none=>.bad)=_
  rw[hl];exact hc
 rw[e'];rfl
theorem lU{G:Gs}{cl:Cl}{W:Nat}{t:Tg}{e:E}{b:Ss}{r:Ev}{h h1 h':Hh}{j:Int}{fl:Fl}(hi:ev G cl e r h=.ok (.int j) h1)(hj:tN j)(hf:dA t (bR G cl W b) (dP 0 j) r h1=.ok fl h'):xs G cl W (.forr t (.r1 e) b) r h=.ok fl h':=by
 rw[KK,hi]
 show(if tN j then _ else _)=_
 rw[if_pos hj];exact hf
theorem pX{n:Nat}(h:n<=1000000):tN (n:Int):=by unfold tN;omega
noncomputable def tb(t:Int):Int:=if 4<=t then t else(-t)%4
theorem zJ{t:Int}(h0:0<=t)(h1:t<8):0<=tb t/\tb t<8:=by
 unfold tb;split<;>omega
noncomputable def KZ(a b:Int):Int:=(if 4<=b then b-a else b+a)%4+(if decide (4<=a)=decide (4<=b) then 0 else 4)
noncomputable abbrev M3:=Int×Int×Int
noncomputable def mo(m:M3):D:=.tup [.int m.1,.int m.2.1,.int m.2.2]
def xN(m:M3):Prop:=0<=m.1/\m.1<8
noncomputable def bk(m:M3):M3:=(tb m.1, -tx (tb m.1) m.2.1 m.2.2, -ty (tb m.1) m.2.1 m.2.2)
noncomputable def DW(m:M3)(x:Int×Int):Int×Int:=(tx m.1 x.1 x.2+m.2.1,ty m.1 x.1 x.2+m.2.2)
noncomputable def pl(x:Int×Int):D:=.tup [.int x.1,.int x.2]
noncomputable def cf(t:Int):Int×Int×Int×Int:=if t=0 then(1,0,0,1) else if t=1 then(0, -1,1,0) else if t=2 then(-1,0,0, -1) else if t=3 then(0,1, -1,0) else if t=4 then(-1,0,0,1) else if t=5 then(0, -1, -1,0) else if t=6 then(1,0,0, -1) else(0,1,1,0)
theorem zC(t x y:Int):tx t x y=(cf t).1*x+(cf t).2.1*y:=by
 unfold tx cf;split
 ·simp
 split
 ·simp
 split
 ·simp
 split
 ·simp
 split
 ·simp
 split
 ·simp
 split
 ·simp
 ·simp
theorem zB(t x y:Int):ty t x y=(cf t).2.2.1*x+(cf t).2.2.2*y:=by
 unfold ty cf;split
 ·simp
 split
 ·simp
 split
 ·simp
 split
 ·simp
 split
 ·simp
 split
 ·simp
 split
 ·simp
 ·simp
theorem bk8{m:M3}(h:xN m):xN (bk m):=zJ h.1 h.2
theorem NL{t:Int}(h0:0<=t)(h1:t<8):∃k:Fin 8,t=(k.1:Int):=⟨⟨t.toNat,by omega⟩,by simp;omega⟩
theorem VT:∀a b:Fin 8,cf (KZ (a.1:Int) (b.1:Int))=((cf (b.1:Int)).1*(cf (a.1:Int)).1+(cf (b.1:Int)).2.1*(cf (a.1:Int)).2.2.1,(cf (b.1:Int)).1*(cf (a.1:Int)).2.1+(cf (b.1:Int)).2.1*(cf (a.1:Int)).2.2.2,
 (cf (b.1:Int)).2.2.1*(cf (a.1:Int)).1+(cf (b.1:Int)).2.2.2*(cf (a.1:Int)).2.2.1,(cf (b.1:Int)).2.2.1*(cf (a.1:Int)).2.1+(cf (b.1:Int)).2.2.2*(cf (a.1:Int)).2.2.2):=by decide+kernel
theorem PU{t u:Int}(h0:0<=t)(h1:t<8)(h2:0<=u)(h3:u<8)(x y:Int):tx (KZ t u) x y=tx u (tx t x y) (ty t x y)/\ty (KZ t u) x y=ty u (tx t x y) (ty t x y):=by
 obtain⟨i,rfl⟩:=NL h0 h1;obtain⟨j,rfl⟩:=NL h2 h3;simp only[zC,zB,VT i j];constructor
 ·rw[Int.add_mul,Int.add_mul,Int.mul_add,Int.mul_add];simp only[Int.mul_assoc];omega
 ·rw[Int.add_mul,Int.add_mul,Int.mul_add,Int.mul_add];simp only[Int.mul_assoc];omega
theorem II(t x y x' y':Int):tx t (x+x') (y+y')=tx t x y+tx t x' y'/\ty t (x+x') (y+y')=ty t x y+ty t x' y':=by
 simp only[zC,zB,Int.mul_add];constructor<;>omega
theorem IH(t x y:Int):tx t (-x) (-y)= -tx t x y/\ty t (-x) (-y)= -ty t x y:=by
 simp only[zC,zB,Int.mul_neg];constructor<;>omega
theorem VU:∀a:Fin 8,KZ (a.1:Int) (tb (a.1:Int))=0/\KZ (tb (a.1:Int)) (a.1:Int)=0/\KZ 0 (a.1:Int)=(a.1:Int)/\KZ (a.1:Int) 0=(a.1:Int):=by decide+kernel
theorem PR{t:Int}(h0:0<=t)(h1:t<8)(x y:Int):tx (tb t) (tx t x y) (ty t x y)=x/\ty (tb t) (tx t x y) (ty t x y)=y/\tx t (tx (tb t) x y) (ty (tb t) x y)=x/\ty t (tx (tb t) x y) (ty (tb t) x y)=y:=by
 obtain⟨b0,b1⟩:=zJ h0 h1;have z1:=PU h0 h1 b0 b1 x y;have z2:=PU b0 b1 h0 h1 x y;obtain⟨i,rfl⟩:=NL h0 h1;have z:=VU i;rw[z.1] at z1;rw[z.2.1] at z2;exact⟨z1.1.symm,z1.2.symm,z2.1.symm,z2.2.symm⟩
theorem wV{a:M3}(ha:xN a)(x:Int×Int):DW a (DW (bk a) x)=x:=by
 obtain⟨t,p,q⟩:=a;obtain⟨x,y⟩:=x;obtain⟨b0,b1⟩:=ha;simp only at b0 b1;have z:=PR b0 b1 x y;have z':=PR b0 b1 p q;simp only[DW,bk,(II _ _ _ _ _).1,(II _ _ _ _ _).2,(IH _ _ _).1,(IH _ _ _).2,z.2.2.1,z.2.2.2,z'.2.2.1,z'.2.2.2,Prod.mk.injEq];constructor<;>omega
theorem PP{t:Int}(h0:0<=t)(h1:t<8)(x y:Int):lM [D.tup [.int x,.int y],.tup [.int (-y),.int x],.tup [.int (-x),.int (-y)],.tup [.int y,.int (-x)],.tup [.int (-x),.int y],.tup [.int (-y),.int (-x)],.tup [.int x,.int (-y)],.tup [.int y,.int x]] t=some (.tup [.int (tx t x y),.int (ty t x y)]):=by
 rcases t8 h0 h1 with rfl|rfl|rfl|rfl|rfl|rfl|rfl|rfl<;>rfl
theorem BU{t:Tg}{body:Ev->Hh->Rs Fl}{n:Nat}{l:List D}(I:Nat->Ev->Hh->Prop)(R:D->Hh->Prop)(hl:∀i r h,I i r h->aI h n=some l)
 (hb:∀i d,l[i]? =some d->∀r h,I i r h->∃r1,cZ t d r=some r1/\((∃r2 h2,body r1 h=.ok (.nx r2) h2/\I (i+1) r2 h2)\/∃d h2,body r1 h=.ok (.rt d) h2/\R d h2)):
 ∀(k i:Nat)(r:Ev)(h:Hh),I i r h->i<=l.length->l.length-i<k->(∃r' h',gJ t body n k i r h=.ok (.nx r') h'/\I l.length r' h')\/∃d h',gJ t body n k i r h=.ok (.rt d) h'/\R d h':=by
 intro k
 induction k with
 |zero=>intro i r h _ _ hk;omega
 |succ k ih=>
  intro i r h hI hi hk;have e0:=hl i r h hI
  by_cases hlt:i<l.length
  ·have ed:l[i]? =some l[i]:=Zd hlt;obtain⟨r1,e1,hbb⟩:=hb i _ ed r h hI;rcases hbb with ⟨r2,h2,e2,i2⟩|⟨d,h2,e2,q⟩
   ·rcases ih (i+1) r2 h2 i2 hlt (by omega) with ⟨r',h',e3,i3⟩|⟨d,h',e3,q⟩
    ·exact .inl ⟨r',h',by simp only[gJ,e0,ed,e1,e2,aC,e3],i3⟩
    ·exact .inr ⟨d,h',by simp only[gJ,e0,ed,e1,e2,aC,e3],q⟩
   ·exact .inr ⟨d,h2,by simp only[gJ,e0,ed,e1,e2,aC],q⟩
  ·have ed:l[i]? =none:=List.getElem?_eq_none_iff.mpr (by omega);have hi':i=l.length:=by omega
   subst hi';exact .inl ⟨r,h,by simp only[gJ,e0,ed],hI⟩
theorem nE{t:Tg}{body:Ev->Hh->Rs Fl}(I:Nat->Ev->Hh->Prop)(R:D->Hh->Prop):∀(l:List D)(i:Nat),(∀j d,l[j]? =some d->∀r h,I (i+j) r h->∃r1,cZ t d r=some r1/\((∃r2 h2,body r1 h=.ok (.nx r2) h2/\I (i+j+1) r2 h2)\/∃d h2,body r1 h=.ok (.rt d) h2/\R d h2))->
 ∀r h,I i r h->(∃r' h',dA t body l r h=.ok (.nx r') h'/\I (i+l.length) r' h')\/∃d h',dA t body l r h=.ok (.rt d) h'/\R d h'
 | [],i,_,r,h,hI=>.inl ⟨r,h,by simp,hI⟩
 |d::l,i,hb,r,h,hI=>by
  obtain⟨r1,e1,hbb⟩:=hb 0 d rfl r h hI;rcases hbb with ⟨r2,h2,e2,i2⟩|⟨d,h2,e2,q⟩
  ·rcases nE I R l (i+1) (λj d hd r h hI=>by
    have:=hb (j+1) d (by simpa using hd) r h (by rw[show i+(j+1)=i+1+j by omega];exact hI);rw[show i+(j+1)=i+1+j by omega] at this;exact this) r2 h2 i2 with ⟨r',h',e3,i3⟩|⟨d,h',e3,q⟩
   ·exact .inl ⟨r',h',by rw[sE,e1];show(body r1 h).bind _=_;rw[e2];exact e3,by rw[List.length_cons,show i+(l.length+1)=i+1+l.length by omega];exact i3⟩
   ·exact .inr ⟨d,h',by rw[sE,e1];show(body r1 h).bind _=_;rw[e2];exact e3,q⟩
  ·exact .inr ⟨d,h2,by rw[sE,e1];show(body r1 h).bind _=_;rw[e2];rfl,q⟩
theorem tU{h0:Hh}{n:Nat}{l:List D}(g:Hh)(e:aI h0 n=some l):aI (h0++g) n=some l:=eB h0 g e
structure It {α:Type}(φ:α->D)(t:Tg)(cs:Ev->Hh->Rs Bool)(f:Ev->Hh->Rs D)(h0:Hh)(F:Ev->Prop)(p:α->Bool)(g:α->D)(x:α):Prop where
 it:∀r ys gb,F r->∃r1 g1,cZ t (φ x) r=some r1/\cs r1 (h0++ .lst ys::gb)=.ok (p x) (h0++ .lst ys::(gb++g1))/\F r1/\(p x=true->∃g2,f r1 (h0++ .lst ys::(gb++g1))=.ok (g x) (h0++ .lst ys::(gb++g1++g2)))
theorem iE{α:Type}{φ:α->D}{t:Tg}{cs:Ev->Hh->Rs Bool}{f:Ev->Hh->Rs D}{h0:Hh}{F:Ev->Prop}{p:α->Bool}{g:α->D}:∀(l:List α),(∀d∈l,It φ t cs f h0 F p g d)->
 ∀r ys gb,F r->ys.length+l.length<1000000->∃gb',cW t cs f h0.length (l.map φ) r (h0++ .lst ys::gb)=.ok () (h0++ .lst (ys++(l.filter p).map g)::gb')
 | [],_,r,ys,gb,_,_=>⟨gb,by simp[cW]⟩
 |d::l,hb,r,ys,gb,hF,hl=>by
  obtain⟨r1,g1,e1,e2,f1,e3⟩:=(hb d Zl).it r ys gb hF
  by_cases hp:p d=true
  ·obtain⟨g2,e3⟩:=e3 hp;obtain⟨gb',e4⟩:=iE l (λd hd=>hb d (Zj _ hd)) r1 (ys++ [g d]) (gb++g1++g2) f1 (by simp at hl⊢;omega);refine⟨gb',?_⟩;rw[hp] at e2;simp only[Zh,cW,e1,e2,aC,if_true,e3,wU _ _ _ _ (show ys.length<1000000 by simp at hl;omega),e4,List.filter_cons,hp]
   simp
  ·obtain⟨gb',e4⟩:=iE l (λd hd=>hb d (Zj _ hd)) r1 ys (gb++g1) f1 (by simp at hl⊢;omega);refine⟨gb',?_⟩;have hp':p d=false:=by simpa using hp
   rw[hp'] at e2;simp only[Zh,cW,e1,e2,aC,if_false,Bool.false_eq_true,e4,List.filter_cons,hp']
theorem yJ{α:Type}{φ:α->D}{t:Tg}{cs:Ev->Hh->Rs Bool}{f:Ev->Hh->Rs D}{h0:Hh}{F:Ev->Prop}{p:α->Bool}{g:α->D}{n:Nat}{l:List α}(hl:aI h0 n=some (l.map φ))(hb:∀d∈l,It φ t cs f h0 F p g d)(hm:∀z:Nat,z<=2*l.length->z<1000000):
 ∀k i r ys gb,F r->i<=l.length->l.length-i<k->ys.length<=i->∃gb',gH t cs f h0.length n k i r (h0++ .lst ys::gb)=.ok () (h0++ .lst (ys++((l.drop i).filter p).map g)::gb'):=by
 intro k
 induction k with
 |zero=>intro i r ys gb _ _ hk;omega
 |succ k ih=>
  intro i r ys gb hF hi hk hy;have e0:aI (h0++ .lst ys::gb) n=some (l.map φ):=tU _ hl
  by_cases hlt:i<l.length
  ·have ed:(l.map φ)[i]? =some (φ l[i]):=by rw[Zi,Zd hlt];rfl
   have hdr:l.drop i=l[i]::l.drop (i+1):=List.drop_eq_getElem_cons hlt;obtain⟨r1,g1,e1,e2,f1,e3⟩:=(hb l[i] (List.getElem_mem hlt)).it r ys gb hF
   by_cases hp:p l[i]=true
   ·obtain⟨g2,e3⟩:=e3 hp;obtain⟨gb',e4⟩:=ih (i+1) r1 (ys++ [g l[i]]) (gb++g1++g2) f1 hlt (by omega) (by simp;omega);refine⟨gb',?_⟩;rw[hp] at e2;simp only[gH,e0,ed,e1,e2,aC,if_true,e3,wU _ _ _ _ (hm ys.length (by omega)),e4,hdr,List.filter_cons,hp]
    simp
   ·obtain⟨gb',e4⟩:=ih (i+1) r1 ys (gb++g1) f1 hlt (by omega) (by omega);refine⟨gb',?_⟩;have hp':p l[i]=false:=by simpa using hp
    rw[hp'] at e2;simp only[gH,e0,ed,e1,e2,aC,if_false,Bool.false_eq_true,e4,hdr,List.filter_cons,hp']
  ·have ed:(l.map φ)[i]? =none:=List.getElem?_eq_none_iff.mpr (by simp;omega);refine⟨gb,?_⟩;simp only[gH,e0,ed,List.drop_eq_nil_of_le (show l.length<=i by omega),List.filter_nil,List.map_nil,Zm]
section
variable {α:Type}{φ:α->D}{G:Gs}{cl:Cl}{t:Tg}{it cs:Es}{e:E}{N:List Str}{cap:List Nat}{r:Ev}{h h1:Hh}
theorem qE{n:Nat}{l:List α}(φ:α->D)(F:Ev->Prop)(p:α->Bool)(g:α->D)(hi:cJ G cl it r h=.ok [.ref n] h1)(hl:aI h1 n=some (l.map φ))(hm:l.length<=1000)(hF:F (aT N cap r))(hb:∀d∈l,It φ t (jU G cl cs) (ev G cl e) h1 F p g d):
 ∃gb,ev G cl (.comp t .sq it cs e N cap) r h=.ok (.ref h1.length) (h1++ .lst ((l.filter p).map g)::gb):=by
 obtain⟨gb,e1⟩:=yJ hl hb (λz hz=>by omega) ((l.map φ).length+1) 0 (aT N cap r) [] [] hF (Nat.zero_le _) (by simp) (Zn _);exact⟨gb,uE hi hl e1⟩
theorem GH{n:Nat}{l:List α}(φ:α->D)(F:Ev->Prop)(g:α->D)(hi:cJ G cl it r h=.ok [.ref n] h1)(hl:aI h1 n=some (l.map φ))(hm:l.length<=1000)(hF:F (aT N cap r))
 (hb:∀d∈l,∀r h,F r->∃r1,cZ t (φ d) r=some r1/\F r1/\ev G cl e r1 h=.ok (g d) h):
 ∃gb,ev G cl (.comp t .sq it .nil e N cap) r h=.ok (.ref h1.length) (h1++ .lst (l.map g)::gb):=by
 obtain⟨gb,q⟩:=qE (cs:=.nil) (e:=e) (t:=t) (N:=N) (cap:=cap) φ F (λ_=>true) g hi hl hm hF λd hd=>⟨λr ys gb hr=>by
  obtain⟨r1,e1,f1,e2⟩:=hb d hd r (h1++ .lst ys::gb) hr;exact⟨r1,[],e1,by rw[nH,Zm],f1,λ_=>⟨[],by rw[Zm,Zm];exact e2⟩⟩⟩
 rw[List.filter_eq_self.mpr (λ_ _=>rfl)] at q;exact⟨gb,q⟩
end
theorem pZ{n:Nat}{l:List D}(h:Hh)(e:aI h n=some l):UQ (.ref n) h=some .list:=by
 show(match aI h n with|some _=>some Ty.list|none=>none)=_
 rw[e]
theorem BI{n:Nat}{l:List D}(h:Hh)(e:aI h n=some l):cH (.ref n) (.ty "tuple") h=.ok (.bl false) h:=by
 simp[cH,lA,pZ h e,fP,FQ]
theorem BJ{n:Nat}{l:List D}(h:Hh)(e:aI h n=some l):cH (.ref n) (.ty "list") h=.ok (.bl true) h:=by
 simp[cH,lA,pZ h e,fP,FQ]
theorem FR{n:Nat}{l:List D}(h:Hh)(e:aI h n=some l):cH (.ref n) (.tup [.ty "tuple",.ty "list"]) h=.ok (.bl true) h:=by
 simp[cH,lA,iA,qV,pZ h e,fP,FQ]
@[simp] theorem bMaxI(i j:Int)(h:Hh):fG .max [.int i,.int j] h=.ok (.int (if j>i then j else i)) h:=rfl
@[simp] theorem bMinI(i j:Int)(h:Hh):fG .min [.int i,.int j] h=.ok (.int (if j<i then j else i)) h:=rfl
def Kp(h h':Hh):Prop:=∀(n:Nat)(o:O),h[n]? =some o->h'[n]? =some o
theorem Kp.refl(h:Hh):Kp h h:=λ_ _ e=>e
theorem Kp.trans{a b c:Hh}(x:Kp a b)(y:Kp b c):Kp a c:=λn o e=>y n o (x n o e)
theorem Kp.app(h g:Hh):Kp h (h++g):=λn o e=>by rw[List.getElem?_append_left (Ze.mp e).1];exact e
theorem Kp.lst{h h':Hh}(k:Kp h h'){n:Nat}{l:List D}(e:aI h n=some l):aI h' n=some l:=by
 unfold aI at e⊢;cases q:h[n]? with
 |none=>rw[q] at e;cases e
 |some o=>rw[q] at e;rw[k n o q];exact e
theorem Kp.len{h h':Hh}(k:Kp h h'):h.length<=h'.length:=by
 by_cases z:h.length=0
 ·omega
 ·have e:=Zd (show h.length-1<h.length by omega);have:=(Ze.mp (k _ _ e)).1;omega
theorem Kp.set{h h':Hh}(k:Kp h h'){n:Nat}(o:O)(hn:h.length<=n):Kp h (h'.set n o):=λj u e=>by
 have hj:j<h.length:=(Ze.mp e).1;rw[List.getElem?_set_ne (by omega)];exact k j u e
theorem kC(p:bQ×D)(l:List (bQ×D))(k:bQ):dW (p::l) k=if p.1=k then some p.2 else dW l k:=by
 unfold dW;rw[List.find?_cons]
 by_cases e:p.1=k
 ·rw[decide_eq_true e,if_pos e];rfl
 ·rw[decide_eq_false e,if_neg e]
theorem qT(k:bQ):∀l:List (bQ×D),(l.any λkv=>decide (kv.1=k))=(dW l k).isSome
 | []=>rfl
 |p::l=>by
  rw[List.any_cons,kC,qT k l]
  by_cases e:p.1=k
  ·rw[if_pos e,decide_eq_true e];rfl
  ·rw[if_neg e,decide_eq_false e];simp
structure Tie where
 n:Int
 one:Str
 other:Str
 m:M3
noncomputable def Tie.d(t:Tie):D:=.tup [.int t.n,.str t.one,.str t.other,mo t.m]
noncomputable def Tie.en(t:Tie)(x:Str):Option Str:=if t.one=x then some t.other else if t.other=x then some t.one else none
noncomputable abbrev n1(a:E):Es:=.cons a .nil
noncomputable abbrev n2(a b:E):Es:=.cons a (n1 b)
noncomputable abbrev n3(a b c:E):Es:=.cons a (n2 b c)
noncomputable abbrev n4(a b c d:E):Es:=.cons a (n3 b c d)
noncomputable abbrev n5(a b c d e:E):Es:=.cons a (n4 b c d e)
noncomputable abbrev t1(a:S):Ss:=.cons a .nil
noncomputable abbrev t2(a b:S):Ss:=.cons a (t1 b)
noncomputable abbrev t3(a b c:S):Ss:=.cons a (t2 b c)
noncomputable abbrev t4(a b c d:S):Ss:=.cons a (t3 b c d)
noncomputable abbrev t5(a b c d e:S):Ss:=.cons a (t4 b c d e)
theorem UG{l:List Int}{i:Int}(a:0<=i)(b:i<l.length):∃v∈l,lM (l.map D.int) i=some (.int v):=by
 have hj:i.toNat<l.length:=by omega
 have:=iF (xs:=l.map D.int) (j:=i.toNat) (v:=.int l[i.toNat]) (by rw[Zi,Zd hj];rfl);rw[Int.toNat_of_nonneg a] at this;exact⟨_,List.getElem_mem hj,this⟩
section
variable {G:Gs}{cl:Cl}{W:Nat}
theorem NA{es:Es}{e:E}{l:List Int}{r:Ev}{h:Hh}{i:Int}(he:cJ G cl es r h=.ok (l.map D.int) h)(hl:l.length<=1000)(hi:ev G cl e r (h++ [.lst (l.map D.int)])=.ok (.int i) (h++ [.lst (l.map D.int)]))(a:0<=i)(b:i<l.length):
 ∃v∈l,ev G cl (.ix (.lst es) e) r h=.ok (.int v) (h++ [.lst (l.map D.int)]):=by
 obtain⟨v,hv,e1⟩:=UG a b;refine⟨v,hv,?_⟩;rw[uD,BZ,he,aC,if_pos (by rw[Zc];exact hl),aC,hi,aC,iW _ _ (aX _ _),e1]
theorem cI{i:Nat}{x y d:D}{e:E}{r:Ev}{h h1:Hh}(hr:r[i]? =some (some x))(he:ev G cl e r h=.ok y h1)(hx:lJ x y h1=.ok d h1):ev G cl (.ix (.var i) e) r h=.ok d h1:=by
 rw[uD,eF,hr]
 show(ev G cl e r h).bind _=_
 rw[he];exact hx
theorem aN{op:Bop}{a b:E}{x y d:D}{r:Ev}{h h1 h2:Hh}(ha:ev G cl a r h=.ok x h1)(hb:ev G cl b r h1=.ok y h2)(hd:cQ op x y h2=.ok d h2):ev G cl (.bin op a b) r h=.ok d h2:=by
 rw[iJ,ha]
 show(ev G cl b r h1).bind _=_
 rw[hb];exact hd
theorem aY{i:Nat}{x:D}{r:Ev}{h:Hh}(hr:r[i]? =some (some x)):ev G cl (.var i) r h=.ok x h:=by
 rw[eF,hr]
structure Row (h:Hh)(n:Nat)(row:List Int):Prop where
 at':aI h n=some (row.map D.int)
 inr:InR row
noncomputable def Row.R(row:List Int)(j:Nat):Int:=row.getD j 0
theorem Row.ix{h h':Hh}{n:Nat}{row:List Int}(Q:Row h n row)(kp:Kp h h')(j:Nat)(hj:j<row.length):lJ (.ref n) (.int j) h'=.ok (.int (Row.R row j)) h':=by
 rw[iW _ _ (kp.lst Q.at'),iF (v:=.int (Row.R row j)) (by rw[Zi,Zd hj];simp[Row.R,hj])]
theorem Row.rng{h:Hh}{n:Nat}{row:List Int}(Q:Row h n row)(j:Nat)(hj:j<row.length):0<=Row.R row j/\Row.R row j<1013:=by
 have:Row.R row j=row[j]:=by simp[Row.R,hj]
 rw[this];exact Q.inr _ (List.getElem_mem hj)
theorem DT{h:Hh}{p:Nat}{l:List D}(y:D)(e:h[p]? =some (.lst l))(hl:l.length<1000000):nS (.ref p) y h=.ok .non (h.set p (.lst (l++ [y]))):=by
 rw[OT,e]
 show(if _ then _ else _)=_
 rw[if_pos hl]
theorem bD{h:Hh}{p:Nat}{l:List D}(e:h[p]? =some (.lst l)):aI h p=some l:=by
 unfold aI;rw[e];rfl
theorem CA{i n:Nat}{l:List D}{r:Ev}{h:Hh}(hr:r[i]? =some (some (.ref n)))(e:aI h n=some l):ev G cl (.blt .len (n1 (.var i))) r h=.ok (.int l.length) h:=by
 simp only[oU,cE,bZ,eF,hr,aC,sS,jO,e]
theorem bF{i:Nat}{e:E}{d:D}{r:Ev}{h h':Hh}(he:ev G cl e r h=.ok d h'):xs G cl W (.asg (.nm i) e) r h=.ok (.nx (r.set i (some d))) h':=by
 rw[jK,he];rfl
theorem cT{c:E}{a b:Ss}{r:Ev}{h h':Hh}(hc:ev G cl c r h=.ok (.bl true) h'):xs G cl W (.iff c a b) r h=bR G cl W a r h':=by
 rw[lT,hc];rfl
theorem bV{c:E}{a b:Ss}{r:Ev}{h h':Hh}(hc:ev G cl c r h=.ok (.bl false) h'):xs G cl W (.iff c a b) r h=bR G cl W b r h':=by
 rw[lT,hc];rfl
theorem bA{op:Cop}{a b:E}{x y d:D}{r:Ev}{h h1 h2 h3:Hh}(ha:ev G cl a r h=.ok x h1)(hb:ev G cl b r h1=.ok y h2)(hd:cG op x y h2=.ok d h3):ev G cl (.cmp op a b) r h=.ok d h3:=by
 rw[wC,ha]
 show(ev G cl b r h1).bind _=_
 rw[hb];exact hd
theorem md{k:Int}(hk:0<k)(x:Int)(h:Hh):cQ .mod (.int x) (.int k) h=.ok (.int (x%k)) h:=dM h hk
theorem dv{k:Int}(hk:0<k)(hk2:k<1073741824)(x:Int)(h:Hh):cQ .fdiv (.int x) (.int k) h=.ok (.int (x/k)) h:=uU h hk hk2
theorem SV{f i:Nat}{x d:D}{r:Ev}{h h':Hh}(hx:r[i]? =some (some x))(e:cl f [x] h=.ok d h'):ev G cl (.call f (n1 (.var i))) r h=.ok d h':=by
 simp only[CB,cE,bZ,aY hx,aC,e,cM]
theorem nI{op op':Cop}{a b c:E}{x y z:D}{p q:Bool}{r:Ev}{h:Hh}(ha:ev G cl a r h=.ok x h)(hb:ev G cl b r h=.ok y h)(hp:cG op x y h=.ok (.bl p) h)(hc:ev G cl c r h=.ok z h)(hq:cG op' y z h=.ok (.bl q) h):ev G cl (.chn op op' a b c) r h=.ok (.bl (p&&q)) h:=by
 rw[SU,ha,aC,hb,aC,hp,aC];cases p
 ·rfl
 ·show(ev G cl c r h).bind _=_
  rw[hc,aC,hq];rfl
theorem fZ{a b:E}{p q:Bool}{r:Ev}{h:Hh}(ha:ev G cl a r h=.ok (.bl p) h)(hb:ev G cl b r h=.ok (.bl q) h):ev G cl (.and a b) r h=.ok (.bl (p&&q)) h:=by
 rw[wE,ha,aC,sT];cases p
 ·rfl
 ·exact hb
theorem kS{a:E}{p:Bool}{r:Ev}{h h':Hh}(ha:ev G cl a r h=.ok (.bl p) h'):ev G cl (.not a) r h=.ok (.bl (!p)) h':=by
 rw[SN,ha,aC,sT]
theorem bS{i n:Nat}{cn f:Str}{fs:List (Str×D)}{d:D}{r:Ev}{h:Hh}(hr:r[i]? =some (some (.ref n)))(e:h[n]? =some (.ins cn fs))(q:fs.lookup f=some d):ev G cl (.att (.var i) cn f) r h=.ok d h:=by
 rw[JT,aY hr,aC,KB h e q]
theorem fY{i n f:Nat}{cn m:Str}{fs:List (Str×D)}{l:Es}{ds:List D}{d:D}{r:Ev}{h h1 h':Hh}(hr:r[i]? =some (some (.ref n)))(e:h[n]? =some (.ins cn fs))(q:fs.lookup m=none)(hl:cJ G cl l r h=.ok ds h1)(hc:cl f (.ref n::ds) h1=.ok d h'):ev G cl (.mth (.var i) cn m f l) r h=.ok d h':=by
 rw[JQ,aY hr,aC,if_pos (tP h e q),hl,aC,hc,cM]
theorem kR{a b:E}{x y:D}{r:Ev}{h h1 h2:Hh}(ha:ev G cl a r h=.ok x h1)(hb:ev G cl b r h1=.ok y h2):ev G cl (.tup (.cons a (.cons b .nil))) r h=.ok (.tup [x,y]) h2:=by
 rw[sG,cE,ha,aC,cE,hb,aC,bZ,aC,aC,aC];rfl
theorem dB{a:E}{x:D}{r:Ev}{h h1:Hh}(ha:ev G cl a r h=.ok x h1):cJ G cl (.cons a .nil) r h=.ok [x] h1:=by
 rw[cE,ha,aC,bZ,aC]
theorem gT{a b:E}{x y:D}{r:Ev}{h h1 h2:Hh}(ha:ev G cl a r h=.ok x h1)(hb:ev G cl b r h1=.ok y h2):cJ G cl (.cons a (.cons b .nil)) r h=.ok [x,y] h2:=by
 rw[cE,ha,aC,dB hb,aC]
theorem gU{f:Nat}{l:Es}{ds:List D}{d:D}{r:Ev}{h h1 h':Hh}(hl:cJ G cl l r h=.ok ds h1)(hc:cl f ds h1=.ok d h'):ev G cl (.call f l) r h=.ok d h':=by
 rw[CB,hl,aC,hc,cM]
theorem dU{f:Blt}{l:Es}{ds:List D}{d:D}{r:Ev}{h h1 h':Hh}(hl:cJ G cl l r h=.ok ds h1)(hc:fG f ds h1=.ok d h'):ev G cl (.blt f l) r h=.ok d h':=by
 rw[oU,hl,aC,hc]
theorem cF{e:E}{d:D}{r:Ev}{h h':Hh}(he:ev G cl e r h=.ok d h'):xs G cl W (.ret e) r h=.ok (.rt d) h':=by
 rw[vB,he];rfl
end
noncomputable abbrev bU:=Int×Int×Int
noncomputable def s3(s:bU):D:=.tup [.int s.1,.int s.2.1,.int s.2.2]
noncomputable def kv(s:bU):List Int×D:=([s.1,s.2.1],.int s.2.2)
def npS(a b:bU):Prop:=¬(a.1=b.1/\a.2.1=b.2.1)
noncomputable def JG(w t x y:Int):Bool:=(decide (0<=x)&&decide (x<w))&&(decide (0<=y)&&decide (y<t))
structure Good (w t l:Int)(S:List bU):Prop where
 hw:1<=w/\w<=8
 ht:1<=t/\t<=8
 hl:1<=l/\l<=9
 len:S.length<=8
 up:S.Pairwise npS
 st:∀s∈S,JG w t s.1 s.2.1=true/\l<=s.2.2/\s.2.2<=9
noncomputable def fM(nm:Str)(w t l:Int)(k:Nat):List (Str×D):= [("name",.str nm),("width",.int w),("height",.int t),("limit",.int l),("bright_at",.ref k)]
def PlateAt(h:Hh)(n:Nat)(nm:Str)(w t l:Int)(S:List bU):Prop:=∃k,h[n]? =some (.ins "Plate" (fM nm w t l k))/\h[k]? =some (.dtf (S.map kv))
theorem PlateAt.kp{h h':Hh}{n:Nat}{nm:Str}{w t l:Int}{S:List bU}(P:PlateAt h n nm w t l S)(k:Kp h h'):PlateAt h' n nm w t l S:=by
 obtain⟨j,e1,e2⟩:=P;exact⟨j,k _ _ e1,k _ _ e2⟩
theorem fW(nm:Str)(w t l:Int)(k:Nat):(fM nm w t l k).lookup ("width":Str)=some (D.int w):=rfl
theorem fH(nm:Str)(w t l:Int)(k:Nat):(fM nm w t l k).lookup ("height":Str)=some (D.int t):=rfl
theorem fL(nm:Str)(w t l:Int)(k:Nat):(fM nm w t l k).lookup ("limit":Str)=some (D.int l):=rfl
theorem fB(nm:Str)(w t l:Int)(k:Nat):(fM nm w t l k).lookup ("bright_at":Str)=some (D.ref k):=rfl
theorem fN(nm:Str)(w t l:Int)(k:Nat):(fM nm w t l k).lookup ("name":Str)=some (D.str nm):=rfl
section
variable {G:Gs}{cl:Cl}{W:Nat}
noncomputable abbrev hoB:Ss:=(t2 (.asg (.tp [2,3]) (.var 1)) (.ret (.and (.chn .le .lt (.int 0) (.var 2) (.att (.var 0) "Plate" "width")) (.chn .le .lt (.int 0) (.var 3) (.att (.var 0) "Plate" "height")))))
def Hol(cl:Cl)(f:Nat):Prop:=∀(h:Hh)(n:Nat)(nm:Str)(w t l:Int)(S:List bU)(x y:Int),PlateAt h n nm w t l S->cl f [.ref n,.tup [.int x,.int y]] h=.ok (.bl (JG w t x y)) h
theorem NH{h:Hh}{n:Nat}{nm:Str}{w t l:Int}{S:List bU}(x y:Int)(P:PlateAt h n nm w t l S):(bR G cl W hoB [some (.ref n),some (.tup [.int x,.int y]),none,none] h).bind cK=.ok (.bl (JG w t x y)) h:=by
 obtain⟨k,e1,e2⟩:=P
 rw[aF (r':= [some (.ref n),some (.tup [.int x,.int y]),some (.int x),some (.int y)]) (h':=h) (by rw[jK,aY rfl];rfl),
  bY (cF (fZ (nI (aG ..) (aY rfl) (wN ..) (bS rfl e1 (fW ..)) (JY ..)) (nI (aG ..) (aY rfl) (wN ..) (bS rfl e1 (fH ..)) (JY ..))))]
 rfl
end
noncomputable def pn(nm:Str)(w t l:Int)(p:Nat):D:=.tup [.str nm,.int w,.int t,.int l,.ref p]
section
variable {G:Gs}{cl:Cl}{W:Nat}
noncomputable def JE(a b:bU):Bool:=decide (a.1<b.1\/(a.1=b.1/\a.2.1<=b.2.1))
def ZL(a b:bU):Prop:=a.1<b.1\/(a.1=b.1/\a.2.1<b.2.1)
theorem UD{a b:bU}(h:ZL a b):Bef kM (s3 a) (s3 b):=by
 unfold ZL at h;unfold Bef;rcases h with h|⟨h1,h2⟩
 ·have e1:¬a.1=b.1:=by omega
  have e2:¬b.1=a.1:=by omega
  have e3:¬b.1<a.1:=by omega
  exact⟨by simp[kM,s3,BA,e1,h],by simp[kM,s3,BA,e2];omega⟩
 ·have e1:¬a.2.1=b.2.1:=by omega
  have e2:¬b.2.1=a.2.1:=by omega
  have e3:¬b.2.1<a.2.1:=by omega
  exact⟨by simp[kM,s3,BA,h1,e1,h2],by simp[kM,s3,BA,h1,e2];omega⟩
theorem QF{S:List bU}(u:S.Pairwise npS)(hl:S.length<=8):∃U:List bU,U.Perm S/\gK (S.map s3)=some (U.map s3):=by
 have s:(S.mergeSort JE).Pairwise (λa b=>JE a b=true):=List.pairwise_mergeSort (λa b c h1 h2=>by simp[JE] at*;omega) (λa b=>by simp[JE];omega) S;have p:(S.mergeSort JE).Perm S:=List.mergeSort_perm S _;have v:(S.mergeSort JE).Pairwise npS:=(p.symm.pairwise_iff λh z=>h ⟨z.1.symm,z.2.symm⟩).mp u;refine⟨S.mergeSort JE,p,pJ ⟨by simp;omega,.inr ⟨3,by decide,λx hx=>?_⟩⟩ (p.map s3) ?_⟩
 ·obtain⟨r,_,rfl⟩:=List.mem_map.mp hx;rfl
 ·rw[List.pairwise_map];refine(s.and v).imp λ{a b} h=>UD ?_;obtain⟨h1,h2⟩:=h;simp[JE] at h1;unfold npS at h2;unfold ZL;omega
theorem IN{h:Hh}{n:Nat}{l l':List D}(e:aI h n=some l)(q:gK l=some l'):fG .sorted [.ref n] h=.ok (.ref h.length) (h++ [.lst l']):=by
 show zN (.ref n) h=_;unfold zN;have e1:cO (.ref n) h=true:=by rw[fE,e];rfl
 rw[e1,jO,e];simp only[q]
noncomputable def XB(s:bU):D:=.tup [.tup [.int s.1,.int s.2.1],.int s.2.2]
theorem RQ(S:List bU):(S.map kv).map (λp=>D.tup [.tup (p.1.map D.int),p.2])=S.map XB:=by
 rw[List.map_map];rfl
theorem wD{t:Tg}{it:Es}{e:E}{N:List Str}{cap:List Nat}{r:Ev}{h:Hh}{k:Nat}{S:List bU}(F:Ev->Prop)(g:bU->D)(hi:cJ G cl it r h=.ok [.ref k] h)(hl:h[k]? =some (.dtf (S.map kv)))(hm:S.length<=1000)(hF:F (aT N cap r))
 (hb:∀s∈S,∀r h',F r->Kp h h'->∃r1,cZ t (XB s) r=some r1/\F r1/\ev G cl e r1 h'=.ok (g s) h'):
 ∃gb,ev G cl (.comp t .itf it .nil e N cap) r h=.ok (.ref h.length) (h++ .lst (S.map g)::gb):=by
 obtain⟨gb,q⟩:=iE (φ:=XB) (t:=t) (cs:=jU G cl .nil) (f:=ev G cl e) (h0:=h) (F:=F) (p:=λ_=>true) (g:=g) S (λs hs=>⟨λr ys gb hr=>by
  obtain⟨r1,e1,f1,e2⟩:=hb s hs r (h++ .lst ys::gb) hr (Kp.app _ _);exact⟨r1,[],e1,by rw[nH,Zm],f1,λ_=>⟨[],by rw[Zm,Zm];exact e2⟩⟩⟩) (aT N cap r) [] [] hF (by simp;omega)
 rw[List.filter_eq_self.mpr (λ_ _=>rfl),List.nil_append] at q;refine⟨gb,?_⟩;rw[uF,hi,aC]
 have e':iM t (jU G cl .nil) (ev G cl e) h.length .itf [.ref k] h (aT N cap r) (h++ [.lst []])=.ok () (h++ .lst (S.map g)::gb):=by
  show(match h[k]? with|some (.dtf l)=>cW t (jU G cl .nil) (ev G cl e) h.length (l.map λ(p:List Int×D)=>D.tup [.tup (p.1.map D.int),p.2]) (aT N cap r) (h++ [O.lst []])|_=>.bad)=_
  rw[hl];show cW t (jU G cl .nil) (ev G cl e) h.length ((S.map kv).map λp=>D.tup [.tup (p.1.map D.int),p.2]) (aT N cap r) (h++ [.lst []])=_;rw[RQ];exact q
 rw[e'];rfl
noncomputable abbrev stB:Ss:=(t1 (.ret (.blt .sorted (n1 (.comp (.tn 1 2 0) .itf (n1 (.att (.var 0) "Plate" "bright_at")) .nil (.tup (n3 (.var 1) (.var 2) (.var 0))) ["bright","x","y"] [])))))
def C6(cl:Cl)(f:Nat):Prop:=∀(h:Hh)(n:Nat)(nm:Str)(w t l:Int)(S U:List bU),PlateAt h n nm w t l S->S.length<=8->gK (S.map s3)=some (U.map s3)->∃g k,cl f [.ref n] h=.ok (.ref k) (h++g)/\h.length<=k/\(h++g)[k]? =some (.lst (U.map s3))
theorem LG{h:Hh}{n:Nat}{nm:Str}{w t l:Int}{S U:List bU}(P:PlateAt h n nm w t l S)(hl:S.length<=8)(hU:gK (S.map s3)=some (U.map s3)):∃g k,(bR G cl W stB [some (.ref n)] h).bind cK=.ok (.ref k) (h++g)/\h.length<=k/\(h++g)[k]? =some (.lst (U.map s3)):=by
 obtain⟨k,e1,e2⟩:=P
 obtain⟨gb,q⟩:=wD (G:=G) (cl:=cl) (t:=.tn 1 2 0) (it:=.cons (.att (.var 0) "Plate" "bright_at") .nil) (e:=.tup (n3 (.var 1) (.var 2) (.var 0))) (N:= ["bright","x","y"]) (cap:= []) (r:= [some (.ref n)]) (λr=>∃a b c,r=[a,b,c]) s3 (dB (bS rfl e1 (fB ..))) e2 (by omega) ⟨_,_,_,rfl⟩
  (by
    rintro s _ r h' ⟨a,b,c,rfl⟩ _;refine⟨_,rfl,⟨_,_,_,rfl⟩,?_⟩;simp only[sG,cE,bZ,eF,List.getElem?_cons_succ,yU,aC,List.length_cons,List.length_nil,Nat.reduceAdd,Nat.reduceLeDiff,if_true,List.set_cons_succ,List.set_cons_zero];rfl)
 refine⟨.lst (S.map s3)::gb++ [.lst (U.map s3)],(h++O.lst (S.map s3)::gb).length,?_,?_,?_⟩
 ·rw[<- List.append_assoc,bY (cF (dU (dB q) (IN (hZ h gb _) hU)))];rfl
 ·rw[List.length_append];omega
 ·rw[<- List.append_assoc,bK]
def Smd(cl:Cl)(f:Nat):Prop:=∀(d:D)(h:Hh),pd 1 d=true->cl f [d,d] h=.ok (.bl true) h
def C7(cl:Cl)(f:Nat):Prop:=∀(a b:Nat)(l:List D)(h:Hh),aI h a=some l->aI h b=some l->l.length<=1000->l.all (pd 1)=true->cl f [.ref a,.ref b] h=.ok (.bl true) h
theorem QT(U:List bU):(U.map s3).all (pd 1)=true:=by
 rw[List.all_eq_true];intro d hd;obtain⟨s,_,rfl⟩:=List.mem_map.mp hd;rfl
end
noncomputable abbrev abc:Str:="abcdefghijklmnopqrstuvwxyz"
section
variable {G:Gs}{cl:Cl}{W:Nat}
noncomputable abbrev dcE:E:=(.dcT (.tp [0,1,2]) (.var 5) (.tup (n2 (.var 0) (.var 1))) (.var 2) ["x","y","bright"] [])
end
section
variable {G:Gs}{cl:Cl}{W:Nat}
theorem eQ{h g g':Hh}{cn f:Str}{fs:List (Str×D)}{a:E}{d:D}{r:Ev}{i:Nat}(hr:r[i]? =some (some (.ref h.length)))(ha:ev G cl a r (h++ .ins cn fs::g)=.ok d (h++ .ins cn fs::g'))(hl:fs.length<900):
 xs G cl W (.sfl (.var i) cn f a) r (h++ .ins cn fs::g)=.ok (.nx r) (h++ .ins cn (nW f d fs)::g'):=by
 rw[IF,ha,cM,aC,aY hr,cM,aC,IQ _ (iB ..) hl,cM,aC,vH]
theorem MR{h:Hh}{k:Nat}{l:List (List Int×D)}(e:h[k]? =some (.dtf l)):fG .len [.ref k] h=.ok (.int l.length) h:=by
 have e0:aI h k=none:=by unfold aI;rw[e];rfl
 have e1:eY h (.ref k)=some l:=by simp only[eY,e]
 rw[sS,jO,e0];show tV (.ref k) h=_;unfold tV;simp only[bW,e,e1]
end
noncomputable def ZF(j:Int):Nat:=(abc.cps.toList[j.toNat]?).getD 0
theorem HU:abc.cps.toList.length=26:=by decide
theorem OM{j:Int}(h0:0<=j)(h1:j<26)(h:Hh):lJ (.str abc) (.int j) h=.ok (.str ⟨#[ZF j]⟩) h:=by
 have hj:j.toNat<abc.cps.toList.length:=by rw[HU];omega
 have e:lM abc.cps.toList j=some (abc.cps.toList[j.toNat]):=by
  have:=iF (xs:=abc.cps.toList) (j:=j.toNat) (Zd hj);rwa [Int.toNat_of_nonneg h0] at this
 show(if abc.length<=sizeLine then(match lM abc.cps.toList j with|some c=>Rs.ok (D.str ⟨#[c]⟩) h|none=>.bad) else .bad)=_
 rw[if_pos (by decide),e];unfold ZF;rw[Zd hj];rfl
section
variable {G:Gs}{cl:Cl}{W:Nat}
noncomputable def pS(s:bU):D:=.tup [.int s.1,.int s.2.1]
theorem BL(x y:Int):∀S:List bU,PH (.tup [.int x,.int y]) (S.map pS)=some (S.any λs=>decide (s.1=x/\s.2.1=y))
 | []=>rfl
 |s::S=>by
  rw[Zh,PH,BL x y S,List.any_cons]
  have e:iK 20 (pS s) (.tup [.int x,.int y])=some (decide (s.1=x/\s.2.1=y)):=by
   unfold pS;rw[YJ];simp only[NS,SW,SX,Bool.and_true,Bool.decide_and]
  rw[e]
theorem GQ{h:Hh}{n:Nat}{l:List D}(e:aI h n=some l):bW h (.ref n)=none:=by
 show(match h[n]? with|some (.dct l)=>some l|_=>none)=none
 unfold aI at e;cases q:h[n]? with
 |none=>rfl
 |some o=>
  cases o with
  |dct l'=>rw[q] at e;cases e
  |_=>rfl
theorem OO{h:Hh}{n:Nat}{S:List bU}(x y:Int)(e:aI h n=some (S.map pS)):cG .notin (.tup [.int x,.int y]) (.ref n) h=.ok (.bl (!(S.any λs=>decide (s.1=x/\s.2.1=y)))) h:=by
 have e1:FT (.tup [.int x,.int y]) (.ref n) (S.map pS)=some (S.any λs=>decide (s.1=x/\s.2.1=y)):=BL x y S;unfold cG;simp only[GQ e,jO,e,e1]
theorem QJ(s:bU)(h:Hh):EI (s3 s) (.int 2) h=.ok (pS s) h:=rfl
structure Dims (row:List Int)(w t l:Int):Prop where
 w:w=1+Row.R row 3%8
 t:t=1+Row.R row 4%8
 l:l=1+Row.R row 5%9
end
section
variable {G:Gs}{cl:Cl}{W:Nat}
theorem sF{i a:Nat}{e:E}{y:D}{l:List D}{r:Ev}{h:Hh}(hr:r[i]? =some (some (.ref a)))(he:ev G cl e r h=.ok y h)(hs:h[a]? =some (.lst l))(hl:l.length<=1000):xs G cl W (.ex (.app (.var i) e)) r h=.ok (.nx r) (h.set a (.lst (l++ [y]))):=by
 have hL:cO (.ref a) h=true:=by rw[fE,bD hs];rfl
 rw[KL,CD,aY hr,aC,if_pos hL,he,aC,DT _ hs (by omega),cM,aC]
theorem eW{h:Hh}{a p:Nat}{o:O}{l:List D}(hp:aI h p=some l)(ne:a≠p):aI (h.set a o) p=some l:=by
 unfold aI at hp⊢;rw[List.getElem?_set_ne ne];exact hp
theorem dI{h:Hh}{a:Nat}{o o':O}(hs:h[a]? =some o'):(h.set a o)[a]? =some o:=List.getElem?_set_self (Ze.mp hs).1
def D7(cl:Cl)(f:Nat)(ns:List Int):Prop:=∀(at':Int)(M:Nat)(h:Hh),M<=1000->0<=at'->at'<100000->aI h 0=some (ns.map D.int)->∃row:List Int,row.length=M/\InR row/\cl f [.ref 0,.int at',.int M] h=.ok (.ref h.length) (h++ [.lst (row.map D.int)])
theorem iY{a b c:E}{x y z:D}{r:Ev}{h h1 h2 h3:Hh}(ha:ev G cl a r h=.ok x h1)(hb:ev G cl b r h1=.ok y h2)(hc:ev G cl c r h2=.ok z h3):cJ G cl (.cons a (.cons b (.cons c .nil))) r h=.ok [x,y,z] h3:=by
 rw[cE,ha,aC,gT hb hc,aC]
theorem NO{a b c d:E}{x y z u:D}{r:Ev}{h h1 h2 h3 h4:Hh}(ha:ev G cl a r h=.ok x h1)(hb:ev G cl b r h1=.ok y h2)(hc:ev G cl c r h2=.ok z h3)(hd:ev G cl d r h3=.ok u h4):cJ G cl (.cons a (.cons b (.cons c (.cons d .nil)))) r h=.ok [x,y,z,u] h4:=by
 rw[cE,ha,aC,iY hb hc hd,aC]
theorem GG{a b c d e:E}{x y z u v:D}{r:Ev}{h h1 h2 h3 h4 h5:Hh}(ha:ev G cl a r h=.ok x h1)(hb:ev G cl b r h1=.ok y h2)(hc:ev G cl c r h2=.ok z h3)(hd:ev G cl d r h3=.ok u h4)(he:ev G cl e r h4=.ok v h5):cJ G cl (.cons a (.cons b (.cons c (.cons d (.cons e .nil))))) r h=.ok [x,y,z,u,v] h5:=by
 rw[cE,ha,aC,NO hb hc hd he,aC]
theorem fX{l:Es}{ds:List D}{r:Ev}{h h1:Hh}(hl:cJ G cl l r h=.ok ds h1)(hn:ds.length<=1000):ev G cl (.tup l) r h=.ok (.tup ds) h1:=by
 rw[sG,hl,aC,if_pos hn]
theorem eG{l:Es}{ds:List D}{r:Ev}{h h1:Hh}(hl:cJ G cl l r h=.ok ds h1)(hn:ds.length<=1000):ev G cl (.lst l) r h=.ok (.ref h1.length) (h1++ [.lst ds]):=by
 rw[BZ,hl,aC,if_pos hn]
theorem dC{l:List D}(h:Nat.ble l.length 8=true):l.length<=1000:=Nat.le_trans (Nat.le_of_ble_eq_true h) (by decide)
end
theorem UF{x y:Str}(h:Hh)(hl:x.length+y.length<=1000):cQ .add (.str x) (.str y) h=.ok (.str (x++y)) h:=by
 show(if _ then _ else _)=_
 rw[if_pos (Nat.le_trans hl (by decide))]
section
variable {G:Gs}{cl:Cl}{W:Nat}
noncomputable def en(dr p:Nat)(d3 d4 d5 d6:Option D):Ev:= [some (.ref dr),some (.str abc),some (.ref p),d3,d4,d5,d6]
end
@[simp] theorem ne_us:(Str.ofString "unseen"=Str.ofString "star")=False:=eq_false (by decide)
@[simp] theorem ne_su:(Str.ofString "star"=Str.ofString "unseen")=False:=eq_false (by decide)
@[simp] theorem ne_du:(Str.ofString "under"=Str.ofString "unseen")=False:=eq_false (by decide)
@[simp] theorem ne_uu:(Str.ofString "unseen"=Str.ofString "under")=False:=eq_false (by decide)
@[simp] theorem ne_ds:(Str.ofString "under"=Str.ofString "star")=False:=eq_false (by decide)
@[simp] theorem ne_sd:(Str.ofString "star"=Str.ofString "under")=False:=eq_false (by decide)
inductive Sy where
 |un|st (k:Int)|ud (k:Int)
deriving DecidableEq
noncomputable def Sy.d:Sy->D
 |.un=>.tup [.str "unseen",.int 0]
 |.st k=>.tup [.str "star",.int k]
 |.ud k=>.tup [.str "under",.int k]
noncomputable def Sy.w:Sy->Str
 |.un=>"unseen"
 |.st _=>"star"
 |.ud _=>"under"
noncomputable def Sy.n:Sy->Int
 |.un=>0
 |.st k=>k
 |.ud k=>k
noncomputable def Sy.lo:Sy->Int
 |.st k=>k
 |_=>0
noncomputable def Sy.hi:Sy->Int
 |.un=>9
 |.st k=>k
 |.ud k=>k-1
noncomputable def Sy.ok:Sy->Prop
 |.un=>True
 |.st k=>1<=k/\k<=9
 |.ud k=>1<=k/\k<=9
noncomputable def QK(k:Int):List Int:=(List.range (k-0).toNat).map λ(j:Nat)=>0+(j:Int)
noncomputable def Sy.left:Sy->List Int
 |.un=>QK 10
 |.st k=>[k]
 |.ud k=>QK k
noncomputable def all19:List Sy:= [.un,.st 1,.st 2,.st 3,.st 4,.st 5,.st 6,.st 7,.st 8,.st 9,.ud 1,.ud 2,.ud 3,.ud 4,.ud 5,.ud 6,.ud 7,.ud 8,.ud 9]
noncomputable def has(s:Sy)(b:Int):Bool:=s.left.any (·==b)
section
variable {ss:List Sy}(ne:ss≠ [])(ok:∀s∈ss,s.ok)
include ne ok
end
noncomputable def pick(s:Sy)(a b c:D):D:=match s with
 |.st _=>a
 |.ud _=>b
 |.un=>c
section
variable {ss:List Sy}(ok:∀s∈ss,s.ok)
include ok
end
theorem EC{S:List bU}{s0:bU}(u:S.Pairwise npS)(a:(S.any λs=>decide (s.1=s0.1/\s.2.1=s0.2.1))=false):(S++ [s0]).Pairwise npS:=by
 rw[List.pairwise_append];refine⟨u,List.pairwise_singleton _ _,λx hx y hy=>?_⟩;have ey:y=s0:=by simpa using hy
 subst ey;rw[List.any_eq_false] at a;simpa [npS] using a x hx
structure Hev (S:List bU):Prop where
 len:S.length<=8
 up:S.Pairwise npS
 br:∀s∈S,1<=s.2.2/\s.2.2<=9
section
variable {G:Gs}{cl:Cl}{W:Nat}
theorem RT(s:bU)(h:Hh):lJ (s3 s) (.int 0) h=.ok (.int s.1) h/\lJ (s3 s) (.int 1) h=.ok (.int s.2.1) h:=⟨rfl,rfl⟩
theorem NQ{a:E}{b:Bool}{r:Ev}{h h':Hh}(ha:ev G cl a r h=.ok (.bl b) h'):ev G cl (.blt .int (.cons a .nil)) r h=.ok (.int (if b then 1 else 0)) h':=dU (dB ha) (UE ..)
theorem zD{a b c:E}{i j:Int}{q:Bool}{r:Ev}{h:Hh}(ha:ev G cl a r h=.ok (.int i) h)(hb:ev G cl b r h=.ok (.int j) h)(hc:∀h',Kp h h'->ev G cl c r h'=.ok (.bl q) h'):∃v h',(v=i\/v=j)/\Kp h h'/\ev G cl (.ix (.lst (.cons a (.cons b .nil))) (.blt .int (.cons c .nil))) r h=.ok (.int v) h':=by
 obtain⟨v,hv,e⟩:=NA (G:=G) (cl:=cl) (es:=.cons a (.cons b .nil)) (e:=.blt .int (.cons c .nil)) (l:= [i,j]) (r:=r) (h:=h) (i:=if q then 1 else 0) (gT ha hb) (Nat.le_trans (Nat.le_of_ble_eq_true (m:=8) rfl) (by decide)) (NQ (hc _ (Kp.app _ _))) (by cases q<;>decide) (by cases q<;>(show(_:Int)<(2:Nat);decide));exact⟨v,_,by simpa using hv,Kp.app _ _,e⟩
noncomputable def eh(k:Nat)(p:Nat)(d3 d4 d5 d6:Option D):Ev:= [some (.ref 0),some (.ref k),some (.ref p),d3,d4,d5,d6]
noncomputable abbrev VD(j:Int):E:=(.bin .sub (.bin .mod (.ix (.var 1) (.bin .add (.bin .mul (.int 3) (.var 3)) (.int j))) (.int 9)) (.int 4))
noncomputable abbrev hvZ:E:=(.ix (.lst (n2 (.bin .add (.int 1) (.bin .mod (.ix (.var 1) (.bin .add (.bin .mul (.int 3) (.var 3)) (.int 3))) (.int 9))) (.bin .add (.int 8) (.bin .mod (.ix (.var 1) (.bin .add (.bin .mul (.int 3) (.var 3)) (.int 3))) (.int 2))))) (.blt .int (n1 (.cmp .eq (.bin .mod (.bin .fdiv (.ix (.var 1) (.int 0)) (.int 9)) (.int 3)) (.int 1)))))
noncomputable abbrev XU:Ss:=(t4 (.asg (.nm 4) (VD 1)) (.asg (.nm 5) (VD 2)) (.asg (.nm 6) hvZ) (.iff (.cmp .notin (.tup (n2 (.var 4) (.var 5))) (.comp (.nm 0) .sq (n1 (.var 2)) .nil (.tup (n2 (.ix (.var 0) (.int 0)) (.ix (.var 0) (.int 1)))) ["_law_star"] [])) (t1 (.ex (.app (.var 2) (.tup (n3 (.var 4) (.var 5) (.var 6)))))) .nil))
noncomputable abbrev hvB:Ss:=(t4 (.asg (.nm 1) (.call 6 (n3 (.var 0) (.int 1) (.int 25)))) (.asg (.nm 2) (.lst .nil)) (.forr (.nm 3) (.r1 (.bin .mod (.ix (.var 1) (.int 0)) (.int 9))) XU) (.ret (.var 2)))
theorem FY{hb h:Hh}{k p:Nat}{row:List Int}(Q:Row hb k row)(hr:row.length=25)(hp:hb.length<=p)(kp:Kp hb h){S:List bU}(g:Hev S)(hS:S.length<8)(hs:h[p]? =some (.lst (S.map s3)))(j:Nat)(hj:j<8)(d4 d5 d6:Option D):
 ∃h' S' d4' d5' d6',bR G cl W XU (eh k p (some (.int j)) d4 d5 d6) h=.ok (.nx (eh k p (some (.int j)) d4' d5' d6')) h'/\Kp hb h'/\h'[p]? =some (.lst (S'.map s3))/\S'.length<=S.length+1/\Hev S':=by
 have ix:∀(a:Nat)(d4 d5 d6:Option D)(h':Hh),Kp hb h'->a<=3->ev G cl (.ix (.var 1) (.bin .add (.bin .mul (.int 3) (.var 3)) (.int (a:Int)))) (eh k p (some (.int j)) d4 d5 d6) h'=.ok (.int (Row.R row (3*j+a))) h':=λa d4 d5 d6 h' kq ha=>by
  have m3:cQ .mul (.int 3) (.int j) h'=.ok (.int ((3*j:Nat):Int)) h':=by rw[pF h' (by omega) (by omega)];push_cast;rfl
  exact cI rfl (aN (aN (aG ..) (aY rfl) m3) (aG ..) (jG ..)) (by have:=Q.ix kq (3*j+a) (by omega);rwa [Int.natCast_add] at this)
 have e4:ev G cl (VD 1) (eh k p (some (.int j)) d4 d5 d6) h=.ok (.int (Row.R row (3*j+1)%9-4)) h:=aN (aN (ix 1 _ _ _ _ kp (by omega)) (aG ..) (dM _ (by omega))) (aG ..) (sR ..);generalize Row.R row (3*j+1)%9-4=x at e4;have e5:ev G cl (VD 2) (eh k p (some (.int j)) (some (.int x)) d5 d6) h=.ok (.int (Row.R row (3*j+2)%9-4)) h:=aN (aN (ix 2 _ _ _ _ kp (by omega)) (aG ..) (dM _ (by omega))) (aG ..) (sR ..);generalize Row.R row (3*j+2)%9-4=y at e5;have b0:(0:Int)<=Row.R row (3*j+3)%9:=Int.emod_nonneg _ (by omega);have b1:Row.R row (3*j+3)%9<9:=Int.emod_lt_of_pos _ (by omega);have c0:(0:Int)<=Row.R row (3*j+3)%2:=Int.emod_nonneg _ (by omega);have c1:Row.R row (3*j+3)%2<2:=Int.emod_lt_of_pos _ (by omega)
 obtain⟨z,h1,hz,k1,e6⟩:=zD (G:=G) (cl:=cl) (a:=.bin .add (.int 1) (.bin .mod (.ix (.var 1) (.bin .add (.bin .mul (.int 3) (.var 3)) (.int 3))) (.int 9))) (b:=.bin .add (.int 8) (.bin .mod (.ix (.var 1) (.bin .add (.bin .mul (.int 3) (.var 3)) (.int 3))) (.int 2))) (c:=.cmp .eq (.bin .mod (.bin .fdiv (.ix (.var 1) (.int 0)) (.int 9)) (.int 3)) (.int 1)) (r:=eh k p (some (.int j)) (some (.int x)) (some (.int y)) d6) (h:=h)
  (aN (aG ..) (aN (ix 3 _ _ _ _ kp (by omega)) (aG ..) (dM _ (by omega))) (jG ..)) (aN (aG ..) (aN (ix 3 _ _ _ _ kp (by omega)) (aG ..) (dM _ (by omega))) (jG ..)) (λh' kq=>bA (aN (aN (cI rfl (aG _ _ _ _ 0) (Q.ix (kp.trans kq) 0 (by omega))) (aG ..) (uU _ (by omega) (by omega))) (aG ..) (dM _ (by omega))) (aG ..) (DN ..))
 have zb:1<=z/\z<=9:=by omega
 have hs1:=k1 _ _ hs;have kp1:=kp.trans k1
 obtain⟨gb,q⟩:=GH (G:=G) (cl:=cl) (t:=.nm 0) (it:=.cons (.var 2) .nil) (e:=.tup (n2 (.ix (.var 0) (.int 0)) (.ix (.var 0) (.int 1)))) (N:= ["_law_star"]) (cap:= []) (r:=eh k p (some (.int j)) (some (.int x)) (some (.int y)) (some (.int z))) (h:=h1) (h1:=h1) (l:=S) s3 (λr=>∃d,r=[d]) pS (dB (aY rfl)) (bD hs1) (by omega) ⟨_,rfl⟩
  (by
    rintro s _ r h ⟨d,rfl⟩;exact⟨[some (s3 s)],rfl,⟨_,rfl⟩,kR (cI (x:=s3 s) rfl (aG ..) (RT s h).1) (cI (x:=s3 s) rfl (aG ..) (RT s h).2)⟩)
 have c:ev G cl (.cmp .notin (.tup (n2 (.var 4) (.var 5))) (.comp (.nm 0) .sq (n1 (.var 2)) .nil (.tup (n2 (.ix (.var 0) (.int 0)) (.ix (.var 0) (.int 1)))) ["_law_star"] [])) (eh k p (some (.int j)) (some (.int x)) (some (.int y)) (some (.int z))) h1=.ok (.bl (!(S.any λs=>decide (s.1=x/\s.2.1=y)))) (h1++ .lst (S.map pS)::gb):=
  bA (kR (aY rfl) (aY rfl)) q (OO _ _ (hZ ..))
 have hs':(h1++ .lst (S.map pS)::gb)[p]? =some (.lst (S.map s3)):=Kp.app _ _ _ _ hs1;have kp':Kp hb (h1++ .lst (S.map pS)::gb):=kp1.trans (Kp.app _ _);rw[aF (r':=eh k p (some (.int j)) (some (.int x)) d5 d6) (h':=h) (bF e4),aF (r':=eh k p (some (.int j)) (some (.int x)) (some (.int y)) d6) (h':=h) (bF e5),aF (r':=eh k p (some (.int j)) (some (.int x)) (some (.int y)) (some (.int z))) (h':=h1) (bF e6)];generalize hH:h1++O.lst (S.map pS)::gb=H at q c hs' kp';cases hany:(S.any λs=>decide (s.1=x/\s.2.1=y)) with
 |true=>
  rw[hany] at c;exact⟨H,S,_,_,_,by rw[aF (by rw[bV c,aP]),aP],kp',hs',by omega,g⟩
 |false=>
  rw[hany] at c;have ap:xs G cl W (.ex (.app (.var 2) (.tup (n3 (.var 4) (.var 5) (.var 6))))) (eh k p (some (.int j)) (some (.int x)) (some (.int y)) (some (.int z))) H=.ok (.nx (eh k p (some (.int j)) (some (.int x)) (some (.int y)) (some (.int z)))) (H.set p (.lst (S.map s3++ [s3 (x,y,z)]))):=sF rfl (fX (iY (aY rfl) (aY rfl) (aY rfl)) (dC rfl)) hs' (by rw[Zc];omega);refine⟨H.set p (.lst (S.map s3++ [s3 (x,y,z)])),S++ [(x,y,z)],_,_,_,by rw[aF (by rw[cT c,aF ap,aP]),aP],kp'.set _ hp,by rw[dI hs',List.map_append];rfl,by simp,⟨by simp;omega,EC g.up hany,λs hs=>?_⟩⟩;rcases List.mem_append.mp hs with h|h
  ·exact g.br s h
  ·have ey:s=(x,y,z):=by simpa using h
   subst ey;exact zb
def Hvn(cl:Cl)(f:Nat)(ns:List Int):Prop:=∀h:Hh,aI h 0=some (ns.map D.int)->∃h' p S,cl f [.ref 0] h=.ok (.ref p) h'/\Kp h h'/\aI h' p=some (S.map s3)/\Hev S/\h.length<=p
theorem NF{ns:List Int}(hd:D7 cl 6 ns){h:Hh}(h00:aI h 0=some (ns.map D.int)):∃h' p S,(bR G cl W hvB [some (.ref 0),none,none,none,none,none,none] h).bind cK=.ok (.ref p) h'/\Kp h h'/\aI h' p=some (S.map s3)/\Hev S/\h.length<=p:=by
 obtain⟨row,hr,ir,q1⟩:=hd 1 25 h (by omega) (by omega) (by omega) h00;have Q:Row (h++ [.lst (row.map D.int)]) h.length row:=⟨aX ..,ir⟩;have k0:Kp h (h++ [.lst (row.map D.int)]):=Kp.app _ _;generalize h++ [O.lst (row.map D.int)]=hb at q1 Q k0;have m0:(0:Int)<=Row.R row 0%9:=Int.emod_nonneg _ (by omega);have m1:Row.R row 0%9<9:=Int.emod_lt_of_pos _ (by omega);have hm:((Row.R row 0%9).toNat:Int)=Row.R row 0%9:=Int.toNat_of_nonneg m0
 obtain⟨r',h',e,S,d3,d4,d5,d6,er,kp,hs,_,g⟩:=sD (t:=.nm 3) (body:=bR G cl W XU) (λj r h'=>∃(S:List bU)(d3 d4 d5 d6:Option D),r=eh h.length hb.length d3 d4 d5 d6/\Kp hb h'/\h'[hb.length]? =some (.lst (S.map s3))/\S.length<=j/\Hev S)
  (dP 0 (Row.R row 0%9).toNat) 0 (λj d hd r h' ⟨S,d3,d4,d5,d6,er,kp,hs,hl,g⟩=>by
    subst er
    have hj:j<(Row.R row 0%9).toNat:=by
     have:=(Ze.mp hd).1;rwa [rH] at this
    rw[rJ _ _ hj] at hd;cases hd;obtain⟨h',S',d4',d5',d6',q1,q2,q3,q4,q5⟩:=FY (G:=G) (cl:=cl) (W:=W) Q hr (Zn _) kp g (by omega) hs j (by omega) d4 d5 d6;exact⟨_,_,h',rfl,q1,S',_,_,_,_,rfl,q2,q3,by omega,q5⟩)
  (eh h.length hb.length none none none none) (hb++ [.lst []]) ⟨[],_,_,_,_,rfl,Kp.app _ _,bK ..,Zn _,⟨Nat.zero_le _,.nil,λs hs=>nomatch hs⟩⟩
 subst er;refine⟨h',hb.length,S,?_,k0.trans kp,bD hs,g,k0.len⟩
 rw[aF (r':= [some (.ref 0),some (.ref h.length),none,none,none,none,none]) (h':=hb) (bF (gU (iY (aY rfl) (aG ..) (aG ..)) q1)),
  aF (r':=eh h.length hb.length none none none none) (h':=hb++ [.lst []]) (bF (eG (bZ ..) (dC rfl))),
  aF (lU (j:=Row.R row 0%9) (h1:=hb++ [.lst []]) (aN (cI rfl (aG _ _ _ _ 0) (Q.ix (Kp.app _ _) 0 (by omega))) (aG ..) (dM _ (by omega))) (by rw[<- hm];exact pX (by omega)) (by rw[<- hm];exact e)),bY (cF (aY rfl))]
 rfl
end
theorem HR{m:M3}(hm:xN m){x y:Int×Int}(e:DW (bk m) x=DW (bk m) y):x=y:=by
 rw[<- wV hm x,e,wV hm y]
noncomputable def NN(m:M3)(s:bU):bU:=((DW (bk m) (s.1,s.2.1)).1,(DW (bk m) (s.1,s.2.1)).2,s.2.2)
theorem NM{m:M3}(hm:xN m){a b:bU}(h:npS a b):npS (NN m a) (NN m b):=λ⟨e1,e2⟩=>by
 have e:DW (bk m) (a.1,a.2.1)=DW (bk m) (b.1,b.2.1):=Prod.ext e1 e2;have:=HR hm e;exact h ⟨(Prod.mk.inj this).1,(Prod.mk.inj this).2⟩
structure StIn (w t l:Int)(S:List bU):Prop where
 up:S.Pairwise npS
 st:∀s∈S,JG w t s.1 s.2.1=true/\l<=s.2.2/\s.2.2<=9
theorem npS.symm{a b:bU}(h:npS a b):npS b a:=λ⟨e1,e2⟩=>h ⟨e1.symm,e2.symm⟩
theorem Good.perm{w t l:Int}{S U:List bU}(hw:1<=w/\w<=8)(ht:1<=t/\t<=8)(hl:1<=l/\l<=9)(g:StIn w t l S)(hn:S.length<=8)(p:U.Perm S):Good w t l U:=
 ⟨hw,ht,hl,by rw[p.length_eq];exact hn,(p.pairwise_iff (λh=>npS.symm h)).mpr g.up,λs hs=>g.st s (p.mem_iff.mp hs)⟩
noncomputable def JB(nm:Str)(w t l:Int)(U:List bU):D:=.tup [.str nm,.int w,.int t,.int l,.tup (U.map s3)]
section
variable {G:Gs}{cl:Cl}{W:Nat}
def D3(cl:Cl)(f:Nat):Prop:=∀(m:M3)(x:Int×Int)(h:Hh),xN m->∃g,cl f [mo m,pl x] h=.ok (pl (DW m x)) (h++g)
def D4(cl:Cl)(f:Nat):Prop:=∀(m:M3)(h:Hh),xN m->∃g,cl f [mo m] h=.ok (mo (bk m)) (h++g)
noncomputable def kT(nm:Str)(m:M3)(hp dr:Nat)(d4 d5 d6 d7 d8 d9 d10 d11 d12 d13:Option D):Ev:= [some (.str nm),some (mo m),some (.ref hp),some (.ref dr),d4,d5,d6,d7,d8,d9,d10,d11,d12,d13]
noncomputable abbrev UU(i a b c e f:Int):E:=(.ix (.lst (n2 (.bin .add (.int 1) (.bin .mod (.ix (.var 3) (.int i)) (.int a))) (.bin .add (.int 1) (.bin .mod (.bin .fdiv (.ix (.var 3) (.int i)) (.int b)) (.int c))))) (.blt .int (n1 (.cmp .eq (.bin .mod (.bin .fdiv (.ix (.var 3) (.int i)) (.int e)) (.int f)) (.int 0)))))
noncomputable abbrev paC:E:=(.and (.cmp .le (.int 0) (.var 11)) (.and (.cmp .lt (.var 11) (.var 4)) (.and (.cmp .le (.int 0) (.var 12)) (.and (.cmp .lt (.var 12) (.var 5)) (.cmp .ge (.var 10) (.var 6))))))
noncomputable abbrev WQ:Ss:=(t2 (.asg (.tp [11,12]) (.call 8 (n2 (.call 9 (n1 (.var 1))) (.tup (n2 (.var 8) (.var 9)))))) (.iff paC (t1 (.ex (.app (.var 7) (.tup (n3 (.var 11) (.var 12) (.var 10)))))) .nil))
noncomputable abbrev paO:E:=(.tup (n3 (.bin .mod (.ix (.var 3) (.int 10)) (.var 4)) (.bin .mod (.ix (.var 3) (.int 11)) (.var 5)) (.bin .add (.var 6) (.bin .mod (.bin .fdiv (.ix (.var 3) (.int 10)) (.int 8)) (.bin .sub (.int 10) (.var 6))))))
noncomputable abbrev paK:E:=(.comp (.nm 0) .sq (n1 (.var 7)) (n1 (.cmp .ne (.slT (.var 0) (.int 2)) (.slT (.var 1) (.int 2)))) (.var 0) ["_law_star","_law_odd"] [13])
noncomputable abbrev paI:S:=(.iff (.cmp .eq (.bin .mod (.ix (.var 3) (.int 3)) (.int 6)) (.int 1)) (t2 (.asg (.nm 13) paO) (.asg (.nm 7) (.bin .add paK (.lst (n1 (.var 13)))))) .nil)
noncomputable abbrev paR:E:=(.tup (n5 (.var 0) (.var 4) (.var 5) (.var 6) (.blt .tup (n1 (.blt .sorted (n1 (.slL (.var 7) (.neg (.int 8)))))))))
noncomputable abbrev paB:Ss:=(.cons (.asg (.nm 4) (UU 4 4 24 8 4 6)) (.cons (.asg (.nm 5) (UU 5 4 24 8 4 6)) (t5 (.asg (.nm 6) (UU 6 3 12 9 3 4)) (.asg (.nm 7) (.lst .nil)) (.forr (.tp [8,9,10]) (.sq (.var 2)) WQ) paI (.ret paR))))
theorem tL{hb h:Hh}{nm:Str}{m:M3}{hp dr:Nat}{row:List Int}(Q:Row hb dr row)(kp:Kp hb h)(i:Nat)(hi:i<row.length)(a b c e f M:Int)(ha:0<a/\a<=M)(hbb:0<b/\b<1000)(hc:0<c/\c<=M)(he:0<e/\e<1000)(hf:0<f)(d4 d5 d6 d7 d8 d9 d10 d11 d12 d13:Option D):
 ∃v h',(1<=v/\v<=M)/\Kp h h'/\ev G cl (UU i a b c e f) (kT nm m hp dr d4 d5 d6 d7 d8 d9 d10 d11 d12 d13) h=.ok (.int v) h':=by
 have ix:∀h',Kp hb h'->ev G cl (.ix (.var 3) (.int i)) (kT nm m hp dr d4 d5 d6 d7 d8 d9 d10 d11 d12 d13) h'=.ok (.int (Row.R row i)) h':=λh' kq=>cI rfl (aG ..) (Q.ix kq i hi)
 obtain⟨v,h',hv,k',ev'⟩:=zD (G:=G) (cl:=cl) (a:=.bin .add (.int 1) (.bin .mod (.ix (.var 3) (.int i)) (.int a))) (b:=.bin .add (.int 1) (.bin .mod (.bin .fdiv (.ix (.var 3) (.int i)) (.int b)) (.int c))) (c:=.cmp .eq (.bin .mod (.bin .fdiv (.ix (.var 3) (.int i)) (.int e)) (.int f)) (.int 0)) (r:=kT nm m hp dr d4 d5 d6 d7 d8 d9 d10 d11 d12 d13) (h:=h)
  (aN (aG ..) (aN (ix h kp) (aG ..) (dM _ ha.1)) (jG ..)) (aN (aG ..) (aN (aN (ix h kp) (aG ..) (uU _ hbb.1 (by omega))) (aG ..) (dM _ hc.1)) (jG ..)) (λh' kq=>bA (aN (aN (ix _ (kp.trans kq)) (aG ..) (uU _ he.1 (by omega))) (aG ..) (dM _ hf)) (aG ..) (DN ..))
 have p1:=Int.emod_nonneg (Row.R row i) (show a≠0 by omega);have p2:=Int.emod_lt_of_pos (Row.R row i) ha.1;have p3:=Int.emod_nonneg (Row.R row i/b) (show c≠0 by omega);have p4:=Int.emod_lt_of_pos (Row.R row i/b) hc.1;exact⟨v,h',by omega,k',ev'⟩
theorem FB(h15:D3 cl 8)(h17:D4 cl 9){hb h:Hh}{nm:Str}{m:M3}(hm:xN m){hp dr p:Nat}(hpb:hb.length<=p)(kp:Kp hb h){w t l:Int}{T:List bU}(hT:T.length<=100)(hs:h[p]? =some (.lst (T.map s3)))(s:bU)(hb9:s.2.2<=9)(d11 d12:Option D)(g:StIn w t l T)(hn:∀a∈T,npS a (NN m s)):
 ∃h' T' a b,bR G cl W WQ (kT nm m hp dr (some (.int w)) (some (.int t)) (some (.int l)) (some (.ref p)) (some (.int s.1)) (some (.int s.2.1)) (some (.int s.2.2)) d11 d12 none) h=.ok (.nx (kT nm m hp dr (some (.int w)) (some (.int t)) (some (.int l)) (some (.ref p)) (some (.int s.1)) (some (.int s.2.1)) (some (.int s.2.2)) a b none)) h'/\Kp hb h'/\h'[p]? =some (.lst (T'.map s3))/\StIn w t l T'/\(T'=T\/T'=T++ [NN m s]):=by
 obtain⟨g1,e1⟩:=h17 m h hm;obtain⟨g2,e2⟩:=h15 (bk m) (s.1,s.2.1) (h++g1) (bk8 hm);have kq:Kp hb (h++g1++g2):=(kp.trans (Kp.app _ _)).trans (Kp.app _ _);have hs':(h++g1++g2)[p]? =some (.lst (T.map s3)):=Kp.app _ _ _ _ (Kp.app _ _ _ _ hs);generalize hH:h++g1++g2=H at e2 kq hs';obtain⟨X,Y,hXY⟩:∃X Y,DW (bk m) (s.1,s.2.1)=(X,Y):=⟨_,_,rfl⟩;have hf:NN m s=(X,Y,s.2.2):=by unfold NN;rw[hXY]
 rw[hXY] at e2
 have a1:xs G cl W (.asg (.tp [11,12]) (.call 8 (n2 (.call 9 (n1 (.var 1))) (.tup (n2 (.var 8) (.var 9)))))) (kT nm m hp dr (some (.int w)) (some (.int t)) (some (.int l)) (some (.ref p)) (some (.int s.1)) (some (.int s.2.1)) (some (.int s.2.2)) d11 d12 none) h=.ok (.nx (kT nm m hp dr (some (.int w)) (some (.int t)) (some (.int l)) (some (.ref p)) (some (.int s.1)) (some (.int s.2.1)) (some (.int s.2.2)) (some (.int X)) (some (.int Y)) none)) H:=by
  rw[jK,gU (gT (gU (dB (aY (x:=mo m) rfl)) e1) (kR (x:=.int s.1) (y:=.int s.2.1) (aY rfl) (aY rfl))) e2];rfl
 rw[aF a1]
 have c:ev G cl paC (kT nm m hp dr (some (.int w)) (some (.int t)) (some (.int l)) (some (.ref p)) (some (.int s.1)) (some (.int s.2.1)) (some (.int s.2.2)) (some (.int X)) (some (.int Y)) none) H=.ok (.bl (decide (0<=X)&&(decide (X<w)&&(decide (0<=Y)&&(decide (Y<t)&&decide (l<=s.2.2)))))) H:=
  fZ (bA (aG ..) (aY rfl) (wN ..)) (fZ (bA (aY rfl) (aY rfl) (JY ..)) (fZ (bA (aG ..) (aY rfl) (wN ..)) (fZ (bA (aY rfl) (aY rfl) (JY ..)) (bA (aY rfl) (aY rfl) (VF ..)))))
 cases hc:(decide (0<=X)&&(decide (X<w)&&(decide (0<=Y)&&(decide (Y<t)&&decide (l<=s.2.2))))) with
 |false=>
  rw[hc] at c;exact⟨H,T,_,_,by rw[aF (by rw[bV c,aP]),aP],kq,hs',g,.inl rfl⟩
 |true=>
  rw[hc] at c;simp only[Bool.and_eq_true,decide_eq_true_eq] at hc;have ap:xs G cl W (.ex (.app (.var 7) (.tup (n3 (.var 11) (.var 12) (.var 10))))) (kT nm m hp dr (some (.int w)) (some (.int t)) (some (.int l)) (some (.ref p)) (some (.int s.1)) (some (.int s.2.1)) (some (.int s.2.2)) (some (.int X)) (some (.int Y)) none) H=.ok (.nx _) (H.set p (.lst (T.map s3++ [s3 (X,Y,s.2.2)]))):=sF rfl (fX (iY (aY rfl) (aY rfl) (aY rfl)) (dC rfl)) hs' (by rw[Zc];omega);rw[hf] at hn;refine⟨H.set p (.lst (T.map s3++ [s3 (X,Y,s.2.2)])),T++ [(X,Y,s.2.2)],_,_,by rw[aF (by rw[cT c,aF ap,aP]),aP],kq.set _ hpb,by rw[dI hs',List.map_append];rfl,⟨?_,λa ha=>?_⟩,.inr (by rw[hf])⟩
  ·rw[List.pairwise_append];exact⟨g.up,List.pairwise_singleton _ _,λx hx y hy=>by rw[List.mem_singleton.mp hy];exact hn x hx⟩
  ·rcases List.mem_append.mp ha with z|z
   ·exact g.st a z
   ·rw[List.mem_singleton.mp z];refine⟨?_,hc.2.2.2.2,hb9⟩
    show((decide (0<=X)&&decide (X<w))&&(decide (0<=Y)&&decide (Y<t)))=true
    rw[decide_eq_true hc.1,decide_eq_true hc.2.1,decide_eq_true hc.2.2.1,decide_eq_true hc.2.2.2.1];rfl
theorem ZG{h:Hh}{n k:Nat}{a b:List D}(ea:h[n]? =some (.lst a))(eb:h[k]? =some (.lst b))(hl:a.length+b.length<=1000):cQ .add (.ref n) (.ref k) h=.ok (.ref h.length) (h++ [.lst (a++b)]):=by
 show(match h[n]?,h[k]? with|some (.lst a),some (.lst b)=>if a.length+b.length<=1000 then Rs.ok (D.ref h.length) (h++ [O.lst (a++b)]) else .bad|_,_=>.bad)=_
 rw[ea,eb]
 show(if _ then _ else _)=_
 rw[if_pos hl]
theorem NR{op:Bop}{a b:E}{x y d:D}{r:Ev}{h h1 h2 h3:Hh}(ha:ev G cl a r h=.ok x h1)(hb:ev G cl b r h1=.ok y h2)(hd:cQ op x y h2=.ok d h3):ev G cl (.bin op a b) r h=.ok d h3:=by
 rw[iJ,ha]
 show(ev G cl b r h1).bind _=_
 rw[hb];exact hd
theorem ZI(a b:bU)(h:Hh):cG .ne (pS a) (pS b) h=.ok (.bl (!decide (a.1=b.1/\a.2.1=b.2.1))) h:=by
 unfold pS;rw[ZH];simp only[NS,SW,SX,Bool.and_true,Bool.decide_and]
theorem MF{hb h:Hh}{nm:Str}{m:M3}{hp dr p:Nat}{row:List Int}(Q:Row hb dr row)(hr:row.length=12)(kp:Kp hb h){w t l:Int}(hw:1<=w/\w<=8)(ht:1<=t/\t<=8)(hl:1<=l/\l<=9){T:List bU}(hT:T.length<=100)(hs:h[p]? =some (.lst (T.map s3)))(g:StIn w t l T)(d8 d9 d10 d11 d12:Option D):
 ∃h' p' T' d13,xs G cl W paI (kT nm m hp dr (some (.int w)) (some (.int t)) (some (.int l)) (some (.ref p)) d8 d9 d10 d11 d12 none) h=.ok (.nx (kT nm m hp dr (some (.int w)) (some (.int t)) (some (.int l)) (some (.ref p')) d8 d9 d10 d11 d12 d13)) h'/\Kp hb h'/\aI h' p'=some (T'.map s3)/\StIn w t l T'/\T'.length<=101:=by
 have c:ev G cl (.cmp .eq (.bin .mod (.ix (.var 3) (.int 3)) (.int 6)) (.int 1)) (kT nm m hp dr (some (.int w)) (some (.int t)) (some (.int l)) (some (.ref p)) d8 d9 d10 d11 d12 none) h=.ok (.bl (decide (Row.R row 3%6=1))) h:=bA (aN (cI rfl (aG _ _ _ _ 3) (Q.ix kp 3 (by omega))) (aG ..) (dM _ (by omega))) (aG ..) (DN ..)
 by_cases hc:Row.R row 3%6=1
 ·rw[decide_eq_true hc] at c
  have eo:ev G cl paO (kT nm m hp dr (some (.int w)) (some (.int t)) (some (.int l)) (some (.ref p)) d8 d9 d10 d11 d12 none) h=.ok (s3 (Row.R row 10%w,Row.R row 11%t,l+Row.R row 10/8%(10-l))) h:=
   fX (iY (aN (cI rfl (aG _ _ _ _ 10) (Q.ix kp 10 (by omega))) (aY rfl) (dM _ (by omega))) (aN (cI rfl (aG _ _ _ _ 11) (Q.ix kp 11 (by omega))) (aY rfl) (dM _ (by omega))) (aN (aY rfl) (aN (aN (cI rfl (aG _ _ _ _ 10) (Q.ix kp 10 (by omega))) (aG ..) (uU _ (by omega) (by omega))) (aN (aG ..) (aY rfl) (sR ..)) (dM _ (by omega))) (jG ..))) (dC rfl)
  have go:JG w t (Row.R row 10%w) (Row.R row 11%t)=true/\l<=l+Row.R row 10/8%(10-l)/\l+Row.R row 10/8%(10-l)<=9:=by
   have p1:=Int.emod_nonneg (Row.R row 10) (show w≠0 by omega);have p2:=Int.emod_lt_of_pos (Row.R row 10) (show 0<w by omega);have p3:=Int.emod_nonneg (Row.R row 11) (show t≠0 by omega);have p4:=Int.emod_lt_of_pos (Row.R row 11) (show 0<t by omega);have p5:=Int.emod_nonneg (Row.R row 10/8) (show 10-l≠0 by omega);have p6:=Int.emod_lt_of_pos (Row.R row 10/8) (show 0<10-l by omega);refine⟨?_,by omega,by omega⟩;unfold JG;rw[decide_eq_true p1,decide_eq_true p2,decide_eq_true p3,decide_eq_true p4];rfl
  generalize hod:((Row.R row 10%w,Row.R row 11%t,l+Row.R row 10/8%(10-l)):bU)=od at eo;have go':JG w t od.1 od.2.1=true/\l<=od.2.2/\od.2.2<=9:=by rw[<- hod];exact go
  obtain⟨gb,q⟩:=qE (G:=G) (cl:=cl) (t:=.nm 0) (it:=.cons (.var 7) .nil) (cs:=.cons (.cmp .ne (.slT (.var 0) (.int 2)) (.slT (.var 1) (.int 2))) .nil) (e:=.var 0) (N:= ["_law_star","_law_odd"]) (cap:= [13]) (r:=kT nm m hp dr (some (.int w)) (some (.int t)) (some (.int l)) (some (.ref p)) d8 d9 d10 d11 d12 (some (s3 od))) (h:=h) (h1:=h) (l:=T) s3 (λr=>∃d,r=[d,some (s3 od)]) (λa=> !decide (a.1=od.1/\a.2.1=od.2.1)) s3 (dB (aY rfl)) (bD hs) (by omega) ⟨none,rfl⟩
   (λa ha=>⟨λr ys gb ⟨d,er⟩=>by
     subst er;refine⟨[some (s3 a),some (s3 od)],[],rfl,?_,⟨_,rfl⟩,λ_=>⟨[],?_⟩⟩
     ·rw[Zm,wA,bA (x:=pS a) (y:=pS od) (by rw[JM,aY (x:=s3 a) rfl,aC,aG,aC,QJ]) (by rw[JM,aY (x:=s3 od) rfl,aC,aG,aC,QJ]) (ZI ..),aC,sT]
      cases(!decide (a.1=od.1/\a.2.1=od.2.1))
      ·rfl
      ·exact nH ..
     ·rw[Zm,Zm];exact aY (i:=0) (x:=s3 a) rfl⟩)
  generalize hT1:T.filter (λa=> !decide (a.1=od.1/\a.2.1=od.2.1))=T1 at q;have hl1:T1.length<=100:=by rw[<- hT1];exact Nat.le_trans (List.length_filter_le _ _) hT
  generalize hg1:h++O.lst (T1.map s3)::gb=h1 at q;have k1:Kp h h1:=by rw[<- hg1];exact Kp.app _ _
  have p1:h1[h.length]? =some (.lst (T1.map s3)):=by rw[<- hg1];exact iB ..
  have b1:=eG (G:=G) (cl:=cl) (dB (r:=kT nm m hp dr (some (.int w)) (some (.int t)) (some (.int l)) (some (.ref p)) d8 d9 d10 d11 d12 (some (s3 od))) (h:=h1) (x:=s3 od) (aY (i:=13) rfl)) (dC rfl);generalize hg2:h1++ [O.lst [s3 od]]=h2 at b1;have k2:Kp h1 h2:=by rw[<- hg2];exact Kp.app _ _
  have p2:h2[h1.length]? =some (.lst [s3 od]):=by rw[<- hg2];exact bK ..
  have b2:=NR (G:=G) (cl:=cl) (op:=.add) q b1 (ZG (k2 _ _ p1) p2 (by rw[Zc];show _+1<=_;omega));refine⟨h2++ [.lst (T1.map s3++ [s3 od])],h2.length,T1++ [od],some (s3 od),?_,((kp.trans k1).trans k2).trans (Kp.app _ _),by rw[aX,List.map_append];rfl,⟨?_,λa ha=>?_⟩,by rw[List.length_append];show _+1<=_;omega⟩
  ·rw[cT c,aF (r':=kT nm m hp dr (some (.int w)) (some (.int t)) (some (.int l)) (some (.ref p)) d8 d9 d10 d11 d12 (some (s3 od))) (h':=h) (bF eo),aF (bF b2),aP];rfl
  ·rw[List.pairwise_append];refine⟨by rw[<- hT1];exact g.up.filter _,List.pairwise_singleton _ _,λx hx y hy=>?_⟩;rw[List.mem_singleton.mp hy];rw[<- hT1,List.mem_filter] at hx;have z:=hx.2;exact λe=>by rw[decide_eq_true e] at z;cases z
  ·rcases List.mem_append.mp ha with z|z
   ·rw[<- hT1,List.mem_filter] at z;exact g.st a z.1
   ·rw[List.mem_singleton.mp z];exact go'
 ·rw[decide_eq_false hc] at c;exact⟨h,p,T,none,by rw[bV c,aP],kp,bD hs,g,by omega⟩
theorem SI{a:E}{n:Nat}{l:List D}{r:Ev}{h:Hh}(ha:ev G cl a r h=.ok (.ref n) h)(e:aI h n=some l):ev G cl (.slL a (.neg (.int 8))) r h=.ok (.ref h.length) (h++ [.lst (l.drop (l.length-8))]):=by
 have e0:ev G cl (.slL a (.neg (.int 8))) r h=(ev G cl a r h).bind λx h=>(ev G cl (.neg (.int 8)) r h).bind λy h=>EJ x y h:=by rw[ev]<;>rfl
 rw[e0,ha,aC,JP,aG,aC,aC];have e1:cO (.ref n) h=true:=by rw[fE,e];rfl
 unfold EJ;rw[e1,jO,e];rfl
def Pan(cl:Cl)(f:Nat):Prop:=∀(h:Hh)(nm:Str)(m:M3)(hp dr:Nat)(S:List bU)(row:List Int),xN m->aI h hp=some (S.map s3)->Hev S->Row h dr row->row.length=12->∃h' w t l U,cl f [.str nm,mo m,.ref hp,.ref dr] h=.ok (JB nm w t l U) h'/\Kp h h'/\Good w t l U/\(U.map s3).Pairwise (Bef kM)
theorem ME(hW:100<=W)(h15:D3 cl 8)(h17:D4 cl 9){h:Hh}{nm:Str}{m:M3}{hp dr:Nat}{S:List bU}{row:List Int}(hm:xN m)(hS:aI h hp=some (S.map s3))(HS:Hev S)(Q:Row h dr row)(hr:row.length=12):
 ∃h' w t l U,(bR G cl W paB (kT nm m hp dr none none none none none none none none none none) h).bind cK=.ok (JB nm w t l U) h'/\Kp h h'/\Good w t l U/\(U.map s3).Pairwise (Bef kM):=by
 obtain⟨w,h1,hw,k1,e1⟩:=tL (G:=G) (cl:=cl) (nm:=nm) (m:=m) (hp:=hp) Q (Kp.refl _) 4 (by omega) 4 24 8 4 6 8 (by omega) (by omega) (by omega) (by omega) (by omega) none none none none none none none none none none;obtain⟨t,h2,ht,k2,e2⟩:=tL (G:=G) (cl:=cl) (nm:=nm) (m:=m) (hp:=hp) Q k1 5 (by omega) 4 24 8 4 6 8 (by omega) (by omega) (by omega) (by omega) (by omega) (some (.int w)) none none none none none none none none none;obtain⟨l,h3,hl,k3,e3⟩:=tL (G:=G) (cl:=cl) (nm:=nm) (m:=m) (hp:=hp) Q (k1.trans k2) 6 (by omega) 3 12 9 3 4 9 (by omega) (by omega) (by omega) (by omega) (by omega) (some (.int w)) (some (.int t)) none none none none none none none none;have k03:Kp h h3:=(k1.trans k2).trans k3;have kb:Kp h (h3++ [.lst []]):=k03.trans (Kp.app _ _)
 have fl:=BU (t:=.tp [8,9,10]) (body:=bR G cl W WQ) (n:=hp) (l:=S.map s3) (λi r h'=>∃(T:List bU)(d8 d9 d10 d11 d12:Option D),r=kT nm m hp dr (some (.int w)) (some (.int t)) (some (.int l)) (some (.ref h3.length)) d8 d9 d10 d11 d12 none/\Kp h3 h'/\h'[h3.length]? =some (.lst (T.map s3))/\T.length<=i/\StIn w t l T/\∀a∈T,∃s∈S.take i,a=NN m s)
  (λ_ _=>False) (λi r h' ⟨T,_,_,_,_,_,_,kq,_⟩=>(k03.trans kq).lst hS)
  (λi d hd r h' ⟨T,d8,d9,d10,d11,d12,er,kq,hs,hT,g,hn⟩=>by
    subst er;rw[Zi,Option.map_eq_some_iff] at hd;obtain⟨s,es,rfl⟩:=hd;have hi:i<S.length:=(Ze.mp es).1;have hsm:s∈S:=(Ze.mp es).2 ▸ List.getElem_mem _;have hlen:=HS.len;refine⟨kT nm m hp dr (some (.int w)) (some (.int t)) (some (.int l)) (some (.ref h3.length)) (some (.int s.1)) (some (.int s.2.1)) (some (.int s.2.2)) d11 d12 none,rfl,.inl ?_⟩
    obtain⟨h'',T',a,b,q1,q2,q3,q4,q5⟩:=FB (G:=G) (W:=W) (nm:=nm) (hp:=hp) (dr:=dr) h15 h17 hm (Zn _) kq (by omega) hs s (HS.br s hsm).2 d11 d12 g (λx hx=>by
     obtain⟨s',hs',rfl⟩:=hn x hx;refine NM hm ?_;have u:=HS.up;rw[<- List.take_append_drop i S,List.pairwise_append] at u;refine u.2.2 s' hs' s ?_;rw[List.drop_eq_getElem_cons hi];exact(Ze.mp es).2 ▸ Zl)
    have tk:∀s'∈S.take i,s'∈S.take (i+1):=λs' h=>by rw[List.take_succ];exact List.mem_append_left _ h
    refine⟨_,h'',q1,T',_,_,_,_,_,rfl,q2,q3,?_,q4,λx hx=>?_⟩
    ·rcases q5 with rfl|rfl
     ·omega
     ·rw[List.length_append];show _+1<=_;omega
    ·rcases q5 with rfl|rfl
     ·obtain⟨s',a,b⟩:=hn x hx;exact⟨s',tk s' a,b⟩
     ·rcases List.mem_append.mp hx with z|z
      ·obtain⟨s',a,b⟩:=hn x z;exact⟨s',tk s' a,b⟩
      ·exact⟨s,by rw[List.take_succ,es];exact List.mem_append_right _ Zl,List.mem_singleton.mp z⟩)
  W 0 (kT nm m hp dr (some (.int w)) (some (.int t)) (some (.int l)) (some (.ref h3.length)) none none none none none none) (h3++ [.lst []]) ⟨[],_,_,_,_,_,rfl,Kp.app _ _,bK ..,Zn _,⟨.nil,λs hs=>nomatch hs⟩,λs hs=>nomatch hs⟩ (Nat.zero_le _) (by rw[Zc];have:=HS.len;omega)
 rcases fl with ⟨r4,h4,e4,T,d8,d9,d10,d11,d12,rfl,k4,hs4,hT4,g4,_⟩|⟨_,_,_,z⟩
 ·have hT:T.length<=8:=by rw[Zc] at hT4;have:=HS.len;omega
  obtain⟨h5,p5,T5,d13,e5,k5,hs5,g5,l5⟩:=MF (G:=G) (cl:=cl) (W:=W) (nm:=nm) (m:=m) (hp:=hp) Q hr (k03.trans k4) hw ht hl (by omega) hs4 g4 d8 d9 d10 d11 d12;have u6:(T5.drop (T5.length-8)).Pairwise npS:=g5.up.sublist (List.drop_sublist _ _);have l6:(T5.drop (T5.length-8)).length<=8:=by rw[List.length_drop];omega
  obtain⟨U,hU,eU⟩:=QF u6 l6;have g6:StIn w t l (T5.drop (T5.length-8)):=⟨u6,λs hs=>g5.st s (List.mem_of_mem_drop hs)⟩;have e6:=SI (G:=G) (cl:=cl) (a:=.var 7) (r:=kT nm m hp dr (some (.int w)) (some (.int t)) (some (.int l)) (some (.ref p5)) d8 d9 d10 d11 d12 d13) (aY rfl) hs5;rw[Zc, <- List.map_drop] at e6;generalize T5.drop (T5.length-8)=T6 at e6 eU hU g6 l6;have e7:ev G cl (.blt .sorted (n1 (.slL (.var 7) (.neg (.int 8))))) (kT nm m hp dr (some (.int w)) (some (.int t)) (some (.int l)) (some (.ref p5)) d8 d9 d10 d11 d12 d13) h5=.ok (.ref (h5++ [O.lst (T6.map s3)]).length) (h5++ [.lst (T6.map s3)]++ [.lst (U.map s3)]):=dU (dB e6) (IN (aX ..) eU)
  have e8:ev G cl (.blt .tup (n1 (.blt .sorted (n1 (.slL (.var 7) (.neg (.int 8))))))) (kT nm m hp dr (some (.int w)) (some (.int t)) (some (.int l)) (some (.ref p5)) d8 d9 d10 d11 d12 d13) h5=.ok (.tup (U.map s3)) (h5++ [.lst (T6.map s3)]++ [.lst (U.map s3)]):=by
   refine dU (dB e7) ?_;show xC _ _=_;unfold xC;have e1:cO (.ref (h5++ [O.lst (T6.map s3)]).length) (h5++ [.lst (T6.map s3)]++ [.lst (U.map s3)])=true:=by rw[fE,aX];rfl
   rw[e1,jO,aX]
  refine⟨h5++ [.lst (T6.map s3)]++ [.lst (U.map s3)],w,t,l,U,?_,((k5.trans (Kp.app _ _)).trans (Kp.app _ _)),Good.perm hw ht hl g6 l6 hU,(pK eU).2.2⟩
  rw[aF (r':=kT nm m hp dr (some (.int w)) none none none none none none none none none) (h':=h1) (bF e1),aF (r':=kT nm m hp dr (some (.int w)) (some (.int t)) none none none none none none none none) (h':=h2) (bF e2),aF (r':=kT nm m hp dr (some (.int w)) (some (.int t)) (some (.int l)) none none none none none none none) (h':=h3) (bF e3),
   aF (r':=kT nm m hp dr (some (.int w)) (some (.int t)) (some (.int l)) (some (.ref h3.length)) none none none none none none) (h':=h3++ [.lst []]) (bF (eG (bZ ..) (dC rfl))),
   aF (by rw[yW,aY (x:=.ref hp) rfl,cM,aC,JK,e4]),aF e5,bY (cF (fX (GG (x:=.str nm) (y:=.int w) (z:=.int t) (u:=.int l) (aY rfl) (aY rfl) (aY rfl) (aY rfl) e8) (dC rfl)))]
  rfl
 ·exact z.elim
end
section
variable {G:Gs}{cl:Cl}{W:Nat}
noncomputable abbrev hoQ:Ss:=(t1 (.ret (.tup (n3 (.bin .mod (.ix (.var 0) (.int 7)) (.int 8)) (.bin .sub (.bin .mod (.ix (.var 0) (.int 8)) (.int 7)) (.int 3)) (.bin .sub (.bin .mod (.ix (.var 0) (.int 9)) (.int 7)) (.int 3))))))
def Hom(cl:Cl)(f:Nat):Prop:=∀(h:Hh)(dr:Nat)(row:List Int),Row h dr row->row.length=12->∃m:M3,xN m/\cl f [.ref dr] h=.ok (mo m) h
theorem NG{h:Hh}{dr:Nat}{row:List Int}(Q:Row h dr row)(hr:row.length=12):∃m:M3,xN m/\(bR G cl W hoQ [some (.ref dr)] h).bind cK=.ok (mo m) h:=by
 refine⟨(Row.R row 7%8,Row.R row 8%7-3,Row.R row 9%7-3),⟨Int.emod_nonneg _ (by omega),Int.emod_lt_of_pos _ (by omega)⟩,?_⟩;rw[bY (cF (fX (iY (aN (cI rfl (aG _ _ _ _ 7) (Q.ix (Kp.refl _) 7 (by omega))) (aG ..) (dM _ (by omega))) (aN (aN (cI rfl (aG _ _ _ _ 8) (Q.ix (Kp.refl _) 8 (by omega))) (aG ..) (dM _ (by omega))) (aG ..) (sR ..)) (aN (aN (cI rfl (aG _ _ _ _ 9) (Q.ix (Kp.refl _) 9 (by omega))) (aG ..) (dM _ (by omega))) (aG ..) (sR ..))) (dC rfl)))];rfl
end
noncomputable def FV(c:Nat):Bool:= !(Builtin.Str.occurrences abc ⟨#[c]⟩ 0 abc.length 1).isEmpty
noncomputable def rP(nm:Str):Bool:=(decide ((1:Int)<=nm.length)&&decide ((nm.length:Int)<=8))&&nm.cps.toList.all FV
theorem HN{α:Type}(f:α->Bool)(l:List α):yO (l.map λa=>D.bl (f a))=some (l.map f):=by
 induction l with
 |nil=>rfl
 |cons a l ih=>rw[Zh,yO,ih];rfl
theorem all_map{α:Type}{h:Hh}{n:Nat}(f:α->Bool)(l:List α)(e:aI h n=some (l.map λa=>D.bl (f a))):fG .all [.ref n] h=.ok (.bl (l.all f)) h:=by
 show DV (.ref n) h=_;unfold DV;have e1:cO (.ref n) h=true:=by rw[fE,e];rfl
 rw[e1,jO,e];simp only[HN];rw[List.all_map];rfl
section
variable {G:Gs}{cl:Cl}{W:Nat}
noncomputable abbrev RW:Ss:=(t1 (.ret (.and (.chn .le .le (.int 1) (.blt .len (n1 (.var 0))) (.gc 2)) (.blt .all (n1 (.comp (.nm 0) .st (n1 (.var 0)) .nil (.cmp .inn (.var 0) (.gc 1)) ["sign"] []))))))
def UN(cl:Cl)(f:Nat):Prop:=∀(h:Hh)(nm:Str),nm.length<=100->∃g,cl f [.str nm] h=.ok (.bl (rP nm)) (h++g)
theorem FP(g3:∀r h,ev G cl (.gc 2) r h=.ok (.int 8) h)(g2:∀r h,ev G cl (.gc 1) r h=.ok (.str abc) h){h:Hh}{nm:Str}(N:nm.length<=100):∃g,(bR G cl W RW [some (.str nm)] h).bind cK=.ok (.bl (rP nm)) (h++g):=by
 have ln:fG .len [.str nm] h=.ok (.int nm.length) h:=by
  rw[sS];show tV (.str nm) h=_
  show(if nm.length<=sizeLine then _ else _)=_
  rw[if_pos (Nat.le_trans N (by decide))]
 have c1:=nI (G:=G) (cl:=cl) (op:=.le) (op':=.le) (r:= [some (.str nm)]) (h:=h) (aG _ _ _ _ 1) (dU (dB (aY (i:=0) rfl)) ln) (wN ..) (g3 _ _) (wN ..);unfold rP;cases hb:(decide ((1:Int)<=nm.length)&&decide ((nm.length:Int)<=8)) with
 |false=>
  rw[hb] at c1;refine⟨[],?_⟩;rw[bY (cF (d:=.bl false) (h':=h) (by rw[wE,c1,aC,sT])),Zm];rfl
 |true=>
  rw[hb] at c1
  obtain⟨gb,q⟩:=iE (φ:=λc:Nat=>D.str ⟨#[c]⟩) (t:=.nm 0) (cs:=jU G cl .nil) (f:=ev G cl (.cmp .inn (.var 0) (.gc 1))) (h0:=h) (F:=λr=>∃a,r=[a]) (p:=λ_=>true) (g:=λc=>D.bl (FV c)) nm.cps.toList (λc hc=>⟨λr ys gb hr=>by
   obtain⟨a,rfl⟩:=hr;refine⟨[some (.str ⟨#[c]⟩)],[],rfl,by rw[nH,Zm],⟨_,rfl⟩,λ_=>⟨[],?_⟩⟩;rw[Zm,Zm];refine bA (aY rfl) (g2 _ _) ?_;have e:RX (.str ⟨#[c]⟩) (.str abc) (h++ .lst ys::gb)=some (FV c):=rfl;unfold cG
   simp only[e]⟩) (aT ["sign"] [] [some (.str nm)]) [] [] ⟨_,rfl⟩ (by
    have e:nm.cps.toList.length=nm.length:=Array.length_toList;simp only[List.length_nil];omega)
  rw[List.filter_eq_self.mpr (λ_ _=>rfl),List.nil_append] at q
  have c2:ev G cl (.comp (.nm 0) .st (n1 (.var 0)) .nil (.cmp .inn (.var 0) (.gc 1)) ["sign"] []) [some (.str nm)] h=.ok (.ref h.length) (h++ .lst (nm.cps.toList.map λc=>D.bl (FV c))::gb):=by
   rw[uF,dB (aY rfl),aC]
   have e':iM (.nm 0) (jU G cl .nil) (ev G cl (.cmp .inn (.var 0) (.gc 1))) h.length .st [.str nm] h (aT ["sign"] [] [some (.str nm)]) (h++ [.lst []])=.ok () (h++ .lst (nm.cps.toList.map λc=>D.bl (FV c))::gb):=by
    show(if nm.length<=1000 then _ else _)=_
    rw[if_pos (Nat.le_trans N (by decide))];exact q
   rw[e'];rfl
  refine⟨.lst (nm.cps.toList.map λc=>D.bl (FV c))::gb,?_⟩
  rw[bY (cF (d:=.bl (nm.cps.toList.all FV)) (h':=h++ .lst (nm.cps.toList.map λc=>D.bl (FV c))::gb) (by
   rw[wE,c1,aC];show ev G cl _ _ _=_;exact dU (dB c2) (all_map FV _ (hZ ..))))]
  rfl
noncomputable def qP(w t l:Int):Bool:=((decide (1<=w)&&decide (w<=8))&&(decide (1<=t)&&decide (t<=8)))&&(decide (1<=l)&&decide (l<=9))
noncomputable abbrev iwC:Ss:=(t2 (.asg (.nm 3) (.and (.chn .le .le (.int 1) (.var 0) (.gc 3)) (.chn .le .le (.int 1) (.var 1) (.gc 3)))) (.ret (.and (.var 3) (.chn .le .le (.int 1) (.var 2) (.gc 0)))))
def UM(cl:Cl)(f:Nat):Prop:=∀(h:Hh)(w t l:Int),cl f [.int w,.int t,.int l] h=.ok (.bl (qP w t l)) h
theorem FO(g4:∀r h,ev G cl (.gc 3) r h=.ok (.int 8) h)(g0:∀r h,ev G cl (.gc 0) r h=.ok (.int 9) h){h:Hh}(w t l:Int):(bR G cl W iwC [some (.int w),some (.int t),some (.int l),none] h).bind cK=.ok (.bl (qP w t l)) h:=by
 have c1:ev G cl (.and (.chn .le .le (.int 1) (.var 0) (.gc 3)) (.chn .le .le (.int 1) (.var 1) (.gc 3))) [some (.int w),some (.int t),some (.int l),none] h=.ok (.bl ((decide (1<=w)&&decide (w<=8))&&(decide (1<=t)&&decide (t<=8)))) h:=fZ (nI (aG ..) (aY rfl) (wN ..) (g4 _ _) (wN ..)) (nI (aG ..) (aY rfl) (wN ..) (g4 _ _) (wN ..));unfold qP;generalize ((decide (1<=w)&&decide (w<=8))&&(decide (1<=t)&&decide (t<=8)))=B at c1;have c2:ev G cl (.and (.var 3) (.chn .le .le (.int 1) (.var 2) (.gc 0))) [some (.int w),some (.int t),some (.int l),some (.bl B)] h=.ok (.bl (B&&(decide (1<=l)&&decide (l<=9)))) h:=fZ (aY rfl) (nI (aG ..) (aY rfl) (wN ..) (g0 _ _) (wN ..));rw[aF (r':= [some (.int w),some (.int t),some (.int l),some (.bl B)]) (h':=h) (bF c1),bY (cF c2)];rfl
noncomputable def EM(w t l:Int)(s:bU):Bool:=JG w t s.1 s.2.1&&(decide (l<=s.2.2)&&decide (s.2.2<=9))
noncomputable abbrev shC:Ss:=(t1 (.ret (.blt .all (n1 (.comp (.tp [0,1]) .itf (n1 (.att (.var 0) "Plate" "bright_at")) .nil (.and (.mth (.var 2) "Plate" "holds" 21 (n1 (.var 0))) (.chn .le .le (.att (.var 2) "Plate" "limit") (.var 1) (.gc 0))) ["place","bright","self"] [0])))))
def UI(cl:Cl)(f:Nat):Prop:=∀(h:Hh)(n:Nat)(nm:Str)(w t l:Int)(S:List bU),PlateAt h n nm w t l S->S.length<=100->∃g,cl f [.ref n] h=.ok (.bl (S.all (EM w t l))) (h++g)
theorem EL(h11:Hol cl 21)(g0:∀r h,ev G cl (.gc 0) r h=.ok (.int 9) h){h:Hh}{n:Nat}{nm:Str}{w t l:Int}{S:List bU}(P:PlateAt h n nm w t l S)(hS:S.length<=100):∃gg,(bR G cl W shC [some (.ref n)] h).bind cK=.ok (.bl (S.all (EM w t l))) (h++gg):=by
 obtain⟨k,e1,e2⟩:=id P
 obtain⟨gb,q⟩:=wD (G:=G) (cl:=cl) (t:=.tp [0,1]) (it:=.cons (.att (.var 0) "Plate" "bright_at") .nil) (e:=.and (.mth (.var 2) "Plate" "holds" 21 (n1 (.var 0))) (.chn .le .le (.att (.var 2) "Plate" "limit") (.var 1) (.gc 0))) (N:= ["place","bright","self"]) (cap:= [0]) (r:= [some (.ref n)]) (λr=>∃a b,r=[a,b,some (.ref n)]) (λs=>D.bl (EM w t l s)) (dB (bS rfl e1 (fB ..))) e2 (by omega) ⟨_,_,rfl⟩
  (by
    rintro s hs r h' ⟨a,b,rfl⟩ kp;refine⟨[some (.tup [.int s.1,.int s.2.1]),some (.int s.2.2),some (.ref n)],rfl,⟨_,_,rfl⟩,?_⟩;have P':=P.kp kp;obtain⟨k',e1',_⟩:=id P';exact fZ (G:=G) (cl:=cl) (r:= [some (.tup [.int s.1,.int s.2.1]),some (.int s.2.2),some (.ref n)]) (h:=h') (fY (i:=2) (m:="holds") (f:=21) rfl e1' rfl (dB (aY (i:=0) rfl)) (h11 h' n nm w t l S s.1 s.2.1 P')) (nI (op:=.le) (op':=.le) (bS (i:=2) rfl e1' (fL ..)) (aY (i:=1) rfl) (wN ..) (g0 _ _) (wN ..)))
 refine⟨.lst (S.map λs=>D.bl (EM w t l s))::gb,?_⟩;rw[bY (cF (dU (dB q) (all_map (EM w t l) S (hZ ..))))];rfl
noncomputable def dd(S:List bU):List (List Int×D):=S.foldl (λd s=>jP d [s.1,s.2.1] (.int s.2.2)) []
theorem lO(S:List bU)(s:bU):dd (S++ [s])=jP (dd S) [s.1,s.2.1] (.int s.2.2):=by
 unfold dd;rw[List.foldl_append];rfl
theorem rM(l:List (List Int×D))(k:List Int)(v:D):(jP l k v).length=if(l.any λkv=>decide (kv.1=k))=true then l.length else l.length+1:=by
 unfold jP
 cases(l.any λkv=>decide (kv.1=k))<;>simp
theorem TJ:∀(n:Nat)(S:List bU),S.length=n->(dd S).length<=S.length:=by
 intro n
 induction n with
 |zero=>intro S e;cases S with|nil=>exact Zn _|cons=>cases e
 |succ n ih=>
  intro S e;rcases List.eq_nil_or_concat S with rfl|⟨L,b,rfl⟩
  ·cases e
  ·simp only[List.concat_eq_append] at e⊢;rw[List.length_append] at e;have:=ih L (by simpa using e);rw[lO,rM,List.length_append];split<;>simp<;>omega
theorem DU(S:List bU)(x y:Int):((S.map kv).any λp=>decide (p.1=[x,y]))=S.any λs=>decide (s.1=x/\s.2.1=y):=by
 rw[List.any_map];congr 1;funext s;simp[kv]
theorem wJ:∀(n:Nat)(S:List bU),S.length=n->S.Pairwise npS->dd S=S.map kv:=by
 intro n
 induction n with
 |zero=>intro S e _;cases S with|nil=>rfl|cons=>cases e
 |succ n ih=>
  intro S e u;rcases List.eq_nil_or_concat S with rfl|⟨L,b,rfl⟩
  ·cases e
  ·simp only[List.concat_eq_append] at e u⊢;rw[List.length_append] at e;rw[List.pairwise_append] at u;rw[lO,ih L (by simpa using e) u.1];unfold jP;rw[DU]
   have:(L.any λs=>decide (s.1=b.1/\s.2.1=b.2.1))=false:=by
    rw[List.any_eq_false];intro s hs;have:=u.2.2 s hs b Zl;simpa [npS] using this
   rw[this,if_neg Bool.false_ne_true,List.map_append];rfl
theorem NX:∀(n:Nat)(S:List bU),S.length=n->¬S.Pairwise npS->(dd S).length<S.length:=by
 intro n
 induction n with
 |zero=>intro S e u;cases S with|nil=>exact absurd List.Pairwise.nil u|cons=>cases e
 |succ n ih=>
  intro S e u;rcases List.eq_nil_or_concat S with rfl|⟨L,b,rfl⟩
  ·cases e
  ·simp only[List.concat_eq_append] at e u⊢;rw[List.length_append] at e;have eL:L.length=n:=by simpa using e
   rw[lO,rM,List.length_append]
   by_cases uL:L.Pairwise npS
   ·rw[wJ n L eL uL,DU]
    have:(L.any λs=>decide (s.1=b.1/\s.2.1=b.2.1))=true:=by
     cases h:(L.any λs=>decide (s.1=b.1/\s.2.1=b.2.1)) with
     |true=>rfl
     |false=>
      refine absurd (List.pairwise_append.mpr ⟨uL,List.pairwise_singleton _ _,λx hx y hy=>?_⟩) u;have ey:y=b:=by simpa using hy
      subst ey;rw[List.any_eq_false] at h;simpa [npS] using h x hx
    rw[if_pos this]
    simp
   ·have:=ih L eL uL;split<;>simp<;>omega
theorem GN{S:List bU}(hl:S.length<=100){h0:Hh}{n:Nat}(e:aI h0 n=some (S.map s3)):∀(k i:Nat)(r:Ev),(∃a b c,r=[a,b,c])->i<=S.length->S.length-i<k->
 CK (.tp [0,1,2]) (ev G cl (.tup (n2 (.var 0) (.var 1)))) (ev G cl (.var 2)) h0.length n k i r (h0++ [O.dtt (dd (S.take i))])=.ok () (h0++ [O.dtt (dd S)]):=by
 intro k
 induction k with
 |zero=>intro i r _ _ hk;omega
 |succ k ih=>
  rintro i r ⟨a,b,c,rfl⟩ hi hk;have e0:aI (h0++ [O.dtt (dd (S.take i))]) n=some (S.map s3):=eB _ _ e
  by_cases hlt:i<S.length
  ·have es:S[i]? =some S[i]:=Zd hlt;have ed:(S.map s3)[i]? =some (s3 S[i]):=by rw[Zi,es];rfl
   have ln:(dd (S.take i)).length<1000:=by have:=TJ _ (S.take i) rfl;rw[List.length_take] at this;omega
   have pt:nK h0.length (.tup [.int S[i].1,.int S[i].2.1]) (.int S[i].2.2) (h0++ [O.dtt (dd (S.take i))])=.ok () (h0++ [O.dtt (dd (S.take (i+1)))]):=by
    unfold nK;rw[bK]
    show(if(dd (S.take i)).length<1000 then Rs.ok () ((h0++ [O.dtt (dd (S.take i))]).set h0.length (.dtt (jP (dd (S.take i)) [S[i].1,S[i].2.1] (.int S[i].2.2)))) else .bad)=_
    rw[if_pos ln,gL,List.take_succ,es];show _=Rs.ok () (h0++ [O.dtt (dd (S.take i++ [S[i]]))]);rw[lO]
   have st:cZ (.tp [0,1,2]) (s3 S[i]) [a,b,c]=some [some (.int S[i].1),some (.int S[i].2.1),some (.int S[i].2.2)]:=rfl;have k1:∀h:Hh,ev G cl (.tup (n2 (.var 0) (.var 1))) [some (.int S[i].1),some (.int S[i].2.1),some (.int S[i].2.2)] h=.ok (.tup [.int S[i].1,.int S[i].2.1]) h:=λh=>kR (aY rfl) (aY rfl);have k2:∀h:Hh,ev G cl (.var 2) [some (.int S[i].1),some (.int S[i].2.1),some (.int S[i].2.2)] h=.ok (.int S[i].2.2) h:=λh=>aY rfl;simp only[CK,e0,ed,st,k1,k2,aC,pt];exact ih (i+1) _ ⟨_,_,_,rfl⟩ hlt (by omega)
  ·have ed:(S.map s3)[i]? =none:=List.getElem?_eq_none_iff.mpr (by simp;omega);simp only[CK,e0,ed];rw[List.take_of_length_le (by omega)]
theorem GR{S:List bU}(hl:S.length<=100){h:Hh}{n:Nat}{r:Ev}(hr:r[5]? =some (some (.ref n)))(e:aI h n=some (S.map s3)):ev G cl dcE r h=.ok (.ref h.length) (h++ [.dtf (dd S)]):=by
 rw[ST,aY hr,aC]
 show(match aI h n with|some l=>(CK (.tp [0,1,2]) (ev G cl (.tup (n2 (.var 0) (.var 1)))) (ev G cl (.var 2)) h.length n (l.length+1) 0 (aT ["x","y","bright"] [] r) (h++ [O.dtt []])).bind (λ_ h'=>TD h.length h')|none=>.bad)=_
 rw[e];have q:=GN (G:=G) (cl:=cl) hl e ((S.map s3).length+1) 0 (aT ["x","y","bright"] [] r) ⟨none,none,none,rfl⟩ (Nat.zero_le _) (by rw[Zc];omega);rw[List.take_zero,show dd []=[] from rfl] at q
 show(CK _ _ _ _ _ _ _ _ _).bind _=_
 rw[q,aC];unfold TD;rw[bK];show Rs.ok _ _=_;rw[gL]
end
def iO(w t l:Int)(S:List bU):Prop:=qP w t l=false\/8<S.length\/¬S.Pairwise npS\/S.all (EM w t l)=false
section
variable {G:Gs}{cl:Cl}{W:Nat}
noncomputable abbrev RE:Ss:=(.cons (.iff (.not (.call 0 (n1 (.var 1)))) (.cons (.rais 1 "a plate's name has one to eight small letters") .nil) .nil) (.cons (.iff (.not (.call 1 (n3 (.var 2) (.var 3) (.var 4)))) (.cons (.rais 2 "a plate has sides of 1 to 8 and a limit of 1 to 9") .nil) .nil) (.cons (.iff (.cmp .gt (.blt .len (n1 (.var 5))) (.gc 4)) (.cons (.rais 2 "a plate has at most eight stars") .nil) .nil) (.cons (.sfl (.var 0) "Plate" "name" (.var 1)) (.cons (.sfl (.var 0) "Plate" "width" (.var 2)) (t5 (.sfl (.var 0) "Plate" "height" (.var 3)) (.sfl (.var 0) "Plate" "limit" (.var 4)) (.sfl (.var 0) "Plate" "bright_at" (.dcT (.tp [0,1,2]) (.var 5) (.tup (n2 (.var 0) (.var 1))) (.var 2) ["x","y","bright"] [])) (.iff (.cmp .lt (.blt .len (n1 (.att (.var 0) "Plate" "bright_at"))) (.blt .len (n1 (.var 5)))) (.cons (.rais 2 "a plate has no two stars at one place") .nil) .nil) (.iff (.not (.mth (.var 0) "Plate" "shows_its_stars" 19 .nil)) (.cons (.rais 2 "a star lies in the window, and is as bright as the limit to 9") .nil) .nil)))))))
noncomputable def jZ(h:Hh)(nm:Str)(w t l:Int)(s:Nat):Ev:= [some (.ref h.length),some (.str nm),some (.int w),some (.int t),some (.int l),some (.ref s)]
inductive Mk3 (h:Hh) (nm:Str) (w t l:Int) (S:List bU) (R:Rs D):Prop where
 |let' (a:rP nm=true) (b:¬iO w t l S) (h':Hh) (kp:Kp h h') (p:PlateAt h' h.length nm w t l S) (e:R=.ok .non h')
 |name (a:rP nm=false) (r:Ev) (h':Hh) (kp:Kp h h') (e:R=.exc 1 r h')
 |plate (a:rP nm=true) (b:iO w t l S) (r:Ev) (h':Hh) (kp:Kp h h') (e:R=.exc 2 r h')
def UO(cl:Cl)(f:Nat):Prop:=∀(h:Hh)(nm:Str)(w t l:Int)(S:List bU)(s:Nat),nm.length<=100->S.length<=100->aI h s=some (S.map s3)->Mk3 h nm w t l S (cl f [.ref h.length,.str nm,.int w,.int t,.int l,.ref s] (h++ [.ins "Plate" []]))
theorem FS(h0:UN cl 0)(h1:UM cl 1)(h9:UI cl 19)(g5:∀r h,ev G cl (.gc 4) r h=.ok (.int 8) h){h:Hh}{nm:Str}{w t l:Int}{S:List bU}{s:Nat}(N:nm.length<=100)(hS:S.length<=100)(e:aI h s=some (S.map s3)):
 Mk3 h nm w t l S ((bR G cl W RE (jZ h nm w t l s) (h++ [.ins "Plate" []])).bind cK):=by
 obtain⟨g1,q1⟩:=h0 (h++ [.ins "Plate" []]) nm N;rw[List.append_assoc,List.singleton_append] at q1;have kp1:Kp h (h++ .ins "Plate" []::g1):=Kp.app _ _;have z1:=kS (G:=G) (cl:=cl) (gU (f:=0) (r:=jZ h nm w t l s) (dB (aY (i:=1) (x:=.str nm) rfl)) q1);cases hn:rP nm with
 |false=>
  rw[hn] at z1;refine .name hn (jZ h nm w t l s) _ kp1 ?_;rw[fO (c:=1) (r':=jZ h nm w t l s) (h':=h++ .ins "Plate" []::g1) (by rw[cT z1,fO (kA ..)])];rfl
 |true=>
 rw[hn] at z1;rw[aF (r':=jZ h nm w t l s) (h':=h++ .ins "Plate" []::g1) (by rw[bV z1,aP])];have q2:=h1 (h++ .ins "Plate" []::g1) w t l;have z2:=kS (G:=G) (cl:=cl) (gU (f:=1) (l:=(n3 (.var 2) (.var 3) (.var 4))) (r:=jZ h nm w t l s) (by rw[cE,aY (x:=.int w) rfl,aC,gT (x:=.int t) (y:=.int l) (aY rfl) (aY rfl),aC]) q2);cases hw:qP w t l with
 |false=>
  rw[hw] at z2;refine .plate hn (.inl hw) (jZ h nm w t l s) _ kp1 ?_;rw[fO (c:=2) (r':=jZ h nm w t l s) (h':=h++ .ins "Plate" []::g1) (by rw[cT z2,fO (kA ..)])];rfl
 |true=>
 rw[hw] at z2;rw[aF (r':=jZ h nm w t l s) (h':=h++ .ins "Plate" []::g1) (by rw[bV z2,aP])];have q3:ev G cl (.cmp .gt (.blt .len (n1 (.var 5))) (.gc 4)) (jZ h nm w t l s) (h++ .ins "Plate" []::g1)=.ok (.bl (decide ((8:Int)<((S.map s3).length:Nat)))) (h++ .ins "Plate" []::g1):=bA (CA rfl (eB _ _ e)) (g5 _ _) (UA ..);rw[Zc] at q3
 by_cases h8:8<S.length
 ·rw[decide_eq_true (by omega)] at q3;refine .plate hn (.inr (.inl h8)) (jZ h nm w t l s) _ kp1 ?_;rw[fO (c:=2) (r':=jZ h nm w t l s) (h':=h++ .ins "Plate" []::g1) (by rw[cT q3,fO (kA ..)])];rfl
 rw[decide_eq_false (by omega)] at q3;rw[aF (r':=jZ h nm w t l s) (h':=h++ .ins "Plate" []::g1) (by rw[bV q3,aP])];generalize hF:([("name",D.str nm),("width",.int w),("height",.int t),("limit",.int l)]:List (Str×D))=F4
 have q8:ev G cl dcE (jZ h nm w t l s) (h++ .ins "Plate" F4::g1)=.ok (.ref (h++O.ins "Plate" F4::g1).length) (h++ .ins "Plate" F4::(g1++ [.dtf (dd S)])):=by
  have:=GR (G:=G) (cl:=cl) hS (r:=jZ h nm w t l s) rfl (eB h (.ins "Plate" F4::g1) e);rw[List.append_assoc,List.cons_append] at this;exact this
 have eP:nW "bright_at" (.ref (h++O.ins "Plate" F4::g1).length) F4=fM nm w t l (h++O.ins "Plate" F4::g1).length:=by rw[<- hF];rfl
 generalize hk:(h++O.ins "Plate" F4::g1).length=k at q8 eP;have kE:k=(h++O.ins "Plate" (fM nm w t l k)::g1).length:=by rw[<- hk];simp
 have p1:(h++O.ins "Plate" (fM nm w t l k)::(g1++ [.dtf (dd S)]))[h.length]? =some (.ins "Plate" (fM nm w t l k)):=iB ..
 have p2:(h++O.ins "Plate" (fM nm w t l k)::(g1++ [.dtf (dd S)]))[k]? =some (.dtf (dd S)):=by
  have e2:h++O.ins "Plate" (fM nm w t l k)::(g1++ [.dtf (dd S)])=(h++O.ins "Plate" (fM nm w t l k)::g1)++ [.dtf (dd S)]:=by simp
  rw[e2];have e3:=bK (h++O.ins "Plate" (fM nm w t l k)::g1) (.dtf (dd S));rwa [<- kE] at e3
 have eS:aI (h++ .ins "Plate" (fM nm w t l k)::(g1++ [.dtf (dd S)])) s=some (S.map s3):=eB _ _ e;have kp2:Kp h (h++O.ins "Plate" (fM nm w t l k)::(g1++ [.dtf (dd S)])):=Kp.app _ _
 rw[aF (r':=jZ h nm w t l s) (h':=h++ .ins "Plate" [("name",D.str nm)]::g1) (eQ (h:=h) (fs:= []) (g':=g1) rfl (aY rfl) (Nat.lt_of_le_of_lt (m:=8) (Nat.le_of_ble_eq_true rfl) (by decide))),
  aF (r':=jZ h nm w t l s) (h':=h++ .ins "Plate" [("name",D.str nm),("width",.int w)]::g1) (eQ (h:=h) (fs:= [("name",D.str nm)]) (g':=g1) rfl (aY rfl) (Nat.lt_of_le_of_lt (m:=8) (Nat.le_of_ble_eq_true rfl) (by decide))),
  aF (r':=jZ h nm w t l s) (h':=h++ .ins "Plate" [("name",D.str nm),("width",.int w),("height",.int t)]::g1) (eQ (h:=h) (fs:= [("name",D.str nm),("width",.int w)]) (g':=g1) rfl (aY rfl) (Nat.lt_of_le_of_lt (m:=8) (Nat.le_of_ble_eq_true rfl) (by decide))),
  aF (r':=jZ h nm w t l s) (h':=h++ .ins "Plate" [("name",D.str nm),("width",.int w),("height",.int t),("limit",.int l)]::g1) (eQ (h:=h) (fs:= [("name",D.str nm),("width",.int w),("height",.int t)]) (g':=g1) rfl (aY rfl) (Nat.lt_of_le_of_lt (m:=8) (Nat.le_of_ble_eq_true rfl) (by decide))),
  aF (r':=jZ h nm w t l s) (h':=h++O.ins "Plate" (fM nm w t l k)::(g1++ [.dtf (dd S)])) (by
   have z:=eQ (G:=G) (cl:=cl) (W:=W) (h:=h) (fs:=F4) (g:=g1) (f:="bright_at") (i:=0) rfl q8 (by rw[<- hF];exact Nat.lt_of_le_of_lt (m:=8) (Nat.le_of_ble_eq_true rfl) (by decide));rw[eP] at z;rw[<- hF] at z;exact z)]
 have q9:ev G cl (.cmp .lt (.blt .len (n1 (.att (.var 0) "Plate" "bright_at"))) (.blt .len (n1 (.var 5)))) (jZ h nm w t l s) (h++ .ins "Plate" (fM nm w t l k)::(g1++ [.dtf (dd S)]))=.ok (.bl (decide (((dd S).length:Int)<((S.map s3).length:Nat)))) (h++ .ins "Plate" (fM nm w t l k)::(g1++ [.dtf (dd S)])):=
  bA (dU (dB (bS rfl p1 (fB ..))) (MR p2)) (CA rfl eS) (JY ..)
 rw[Zc] at q9;generalize hHc:h++O.ins "Plate" (fM nm w t l k)::(g1++ [.dtf (dd S)])=Hc at p1 p2 q9 kp2
 by_cases hu:S.Pairwise npS
 ·have ed:=wJ _ S rfl hu;rw[ed,Zc,decide_eq_false (by omega)] at q9;rw[aF (r':=jZ h nm w t l s) (h':=Hc) (by rw[bV q9,aP])];have P:PlateAt Hc h.length nm w t l S:=⟨k,p1,by rw[p2,ed]⟩;obtain⟨g2,q10⟩:=h9 Hc h.length nm w t l S P hS;have z3:=kS (G:=G) (cl:=cl) (fY (i:=0) (m:="shows_its_stars") (f:=19) (r:=jZ h nm w t l s) rfl p1 rfl (bZ ..) q10);have kp3:Kp h (Hc++g2):=kp2.trans (Kp.app _ _);cases ha:S.all (EM w t l) with
  |false=>
   rw[ha] at z3;refine .plate hn (.inr (.inr (.inr ha))) (jZ h nm w t l s) _ kp3 ?_;rw[fO (c:=2) (r':=jZ h nm w t l s) (h':=Hc++g2) (by rw[cT z3,fO (kA ..)])];rfl
  |true=>
   rw[ha] at z3;refine .let' hn (λb=>?_) _ kp3 (P.kp (Kp.app _ _)) ?_
   ·rcases b with b|b|b|b
    ·rw[hw] at b;cases b
    ·exact h8 b
    ·exact b hu
    ·rw[ha] at b;cases b
   ·rw[aF (r':=jZ h nm w t l s) (h':=Hc++g2) (by rw[bV z3,aP]),aP];rfl
 ·have:=NX _ S rfl hu;rw[decide_eq_true (by omega)] at q9;refine .plate hn (.inr (.inr (.inl hu))) (jZ h nm w t l s) _ kp2 ?_;rw[fO (c:=2) (r':=jZ h nm w t l s) (h':=Hc) (by rw[cT q9,fO (kA ..)])];rfl
end
noncomputable def IV(pl st:Nat):List (Str×D):= [("plates",.ref pl),("standing",.ref st),("coming",.int 1)]
noncomputable def yV(pg fu:Nat):List (Str×D):= [("page",.ref pg),("past",.ref 5),("future",.ref fu)]
noncomputable abbrev En:=List (Str×Nat)
noncomputable def dk(L:En):List (bQ×D):=L.map λe=>(.inr e.1,.ref e.2)
theorem lF{α:Type}{l:List α}(h:Nat.ble l.length 8=true):l.length<900:=Nat.lt_of_le_of_lt (Nat.le_of_ble_eq_true h) (by decide)
theorem jL(x:Str):∀L:En,(dW (dk L) (.inr x)).isSome=decide (x∈L.map Prod.fst)
 | []=>rfl
 |e::L=>by
  show(dW ((.inr e.1,.ref e.2)::dk L) (.inr x)).isSome=_
  rw[kC]
  by_cases q:e.1=x
  ·subst q;simp
  ·rw[if_neg (λz=>q (Sum.inr.inj z)),jL x L,Zh];simp[Ne.symm q]
theorem EB{L:En}(nd:(L.map Prod.fst).Nodup){e:Str×Nat}(h:e∈L):dW (dk L) (.inr e.1)=some (.ref e.2):=by
 induction L with
 |nil=>cases h
 |cons a L ih=>
  rw[Zh,List.nodup_cons] at nd;show dW ((.inr a.1,.ref a.2)::dk L) (.inr e.1)=_;rw[kC];rcases List.mem_cons.mp h with rfl|h
  ·rw[if_pos rfl]
  ·rw[if_neg (λz=>nd.1 (List.mem_map.mpr ⟨e,h,(Sum.inr.inj z).symm⟩))];exact ih nd.2 h
theorem uK{L:En}{x:Str}(p:Nat)(h:x ∉ L.map Prod.fst):nV (dk L) (.inr x) (.ref p)=dk (L++ [(x,p)]):=by
 unfold nV;rw[qT,jL,decide_eq_false h,if_neg Bool.false_ne_true];simp[dk]
structure PgAt (h:Hh)(pg pl st:Nat)(L:En):Prop where
 p:h[pg]? =some (.ins "Page" (IV pl st))
 d:h[pl]? =some (.dct (dk L))
 s:h[st]? =some (.lst [])
theorem PgAt.kp{h h':Hh}{pg pl st:Nat}{L:En}(P:PgAt h pg pl st L)(k:Kp h h'):PgAt h' pg pl st L:=⟨k _ _ P.p,k _ _ P.d,k _ _ P.s⟩
def Kq(X:List Nat)(h h':Hh):Prop:=∀(n:Nat)(o:O),n ∉ X->h[n]? =some o->h'[n]? =some o
theorem Kp.kq{h h':Hh}(k:Kp h h')(X:List Nat):Kq X h h':=λn o _ e=>k n o e
theorem Kq.trans{X:List Nat}{a b c:Hh}(x:Kq X a b)(y:Kq X b c):Kq X a c:=λn o q e=>y n o q (x n o q e)
theorem Kq.set{X:List Nat}{h h':Hh}(k:Kq X h h'){n:Nat}(o:O)(hn:n∈X):Kq X h (h'.set n o):=λj u q e=>by
 have ne:n≠j:=λz=>q (z ▸ hn);rw[List.getElem?_set_ne ne];exact k j u q e
section
variable {G:Gs}{cl:Cl}{W:Nat}
theorem CC{a:E}{n:Nat}{cn f:Str}{fs:List (Str×D)}{d:D}{r:Ev}{h h1:Hh}(ha:ev G cl a r h=.ok (.ref n) h1)(e:h1[n]? =some (.ins cn fs))(q:fs.lookup f=some d):ev G cl (.att a cn f) r h=.ok d h1:=by
 rw[JT,ha,aC,KB h1 e q]
theorem qD{cn:Str}{f:Nat}{l:Es}{ds:List D}{r:Ev}{h h1 h2:Hh}(hl:cJ G cl l r h=.ok ds h1)(hc:cl f (.ref h1.length::ds) (h1++ [.ins cn []])=.ok .non h2):ev G cl (.new cn f l) r h=.ok (.ref h1.length) h2:=by
 rw[SQ,hl,aC];unfold jS;rw[hc];rfl
theorem JS{r:Ev}{h:Hh}:ev G cl .dnw r h=.ok (.ref h.length) (h++ [.dct []]):=by rw[ev]<;>rfl
theorem SR{a:E}{n:Nat}{l:List (bQ×D)}{r:Ev}{h h1:Hh}(ha:ev G cl a r h=.ok (.ref n) h1)(e:h1[n]? =some (.dct l)):ev G cl (.dcp a) r h=.ok (.ref h1.length) (h1++ [.dct l]):=by
 have e0:ev G cl (.dcp a) r h=(ev G cl a r h).bind λx h=>CN x h:=by rw[ev]<;>rfl
 rw[e0,ha,aC];unfold CN;simp only[bW,e]
theorem JL{e i:E}{o n:Nat}{z:D}{x:Str}{l:List (bQ×D)}{r:Ev}{h:Hh}(he:ev G cl e r h=.ok z h)(ho:r[o]? =some (some (.ref n)))(hi:ev G cl i r h=.ok (.str x) h)(q:h[n]? =some (.dct l))(hl:l.length<900):xs G cl W (.stx (.var o) i e) r h=.ok (.nx r) (h.set n (.dct (nV l (.inr x) z))):=by
 rw[IE,he,cM,aC,aY ho,cM,aC,hi,cM,aC]
 have:qY (.ref n) (.str x) z h=.ok () (h.set n (.dct (nV l (.inr x) z))):=by
  simp only[qY,q,gG,mW];rw[if_pos (by omega)]
 rw[this];rfl
noncomputable abbrev piB:Ss:=(t3 (.sfl (.var 0) "Page" "plates" (.var 1)) (.sfl (.var 0) "Page" "standing" (.var 2)) (.sfl (.var 0) "Page" "coming" (.var 3)))
def VL(cl:Cl)(f:Nat):Prop:=∀(h:Hh)(pl st:Nat),cl f [.ref h.length,.ref pl,.ref st,.int 1] (h++ [.ins "Page" []])=.ok .non (h++ [.ins "Page" (IV pl st)])
theorem LS(h:Hh)(pl st:Nat):(bR G cl W piB [some (.ref h.length),some (.ref pl),some (.ref st),some (.int 1)] (h++ [.ins "Page" []])).bind cK=.ok .non (h++ [.ins "Page" (IV pl st)]):=by
 rw[aF (eQ (h:=h) (fs:= []) (g:= []) (g':= []) rfl (aY rfl) (lF rfl)),aF (eQ (h:=h) (g:= []) (g':= []) rfl (aY rfl) (lF rfl)),aF (eQ (h:=h) (g:= []) (g':= []) rfl (aY rfl) (lF rfl)),aP];rfl
noncomputable abbrev bpB:Ss:=(t1 (.ret (.new "Page" 22 (n3 .dnw (.lst .nil) (.int 1)))))
theorem UB(h22:VL cl 22)(h:Hh):(bR G cl W bpB [] h).bind cK=.ok (.ref (h.length+2)) (h++ [.dct [],.lst [],.ins "Page" (IV h.length (h.length+1))]):=by
 have e:=iY (G:=G) (cl:=cl) (r:= []) (h:=h) JS (eG (bZ ..) (dC rfl)) (aG _ _ _ _ 1);have q:=h22 (h++ [.dct []]++ [.lst []]) h.length (h++ [O.dct []]).length;rw[bY (cF (qD (cn:="Page") (f:=22) e q))]
 simp
noncomputable abbrev npB:Ss:=(t1 (.forr (.nm 2) (.sq (.var 1)) (t1 (.iff (.cmp .notin (.var 2) (.att (.var 0) "Page" "plates")) (.cons (.raisE 3 (.fst (n3 (.str "no plate ") (.fmt (.var 2)) (.str " stands")))) .nil) .nil))))
def UK(cl:Cl)(f:Nat):Prop:=∀(h:Hh)(pg pl st a:Nat)(L:En)(x:Str),PgAt h pg pl st L->x∈L.map Prod.fst->h[a]? =some (.lst [.str x])->cl f [.ref pg,.ref a] h=.ok .non h
theorem TW{h:Hh}{n:Nat}{x:Str}{L:En}(e:h[n]? =some (.dct (dk L))):cG .notin (.str x) (.ref n) h=.ok (.bl (!decide (x∈L.map Prod.fst))) h:=by
 have e1:bW h (.ref n)=some (dk L):=by simp only[bW,e]
 unfold cG;simp only[e1,DX,mW,jL,if_true]
theorem OP{h:Hh}{n:Nat}{x:Str}{L:En}(e:h[n]? =some (.dct (dk L))):cG .inn (.str x) (.ref n) h=.ok (.bl (decide (x∈L.map Prod.fst))) h:=by
 have e1:bW h (.ref n)=some (dk L):=by simp only[bW,e]
 unfold cG;simp only[RX,e1,DX,mW,jL];rfl
theorem MN(hW:100<=W){h:Hh}{pg pl st a:Nat}{L:En}{x:Str}(P:PgAt h pg pl st L)(hx:x∈L.map Prod.fst)(e:h[a]? =some (.lst [.str x])):(bR G cl W npB [some (.ref pg),some (.ref a),none] h).bind cK=.ok .non h:=by
 obtain⟨k,rfl⟩:∃k,W=k+2:=⟨W-2,by omega⟩
 have c:ev G cl (.cmp .notin (.var 2) (.att (.var 0) "Page" "plates")) [some (.ref pg),some (.ref a),some (.str x)] h=.ok (.bl false) h:=by
  have:=bA (G:=G) (cl:=cl) (op:=.notin) (a:=.var 2) (b:=.att (.var 0) "Page" "plates") (r:= [some (.ref pg),some (.ref a),some (.str x)]) (h:=h) (aY rfl) (bS (i:=0) rfl P.p (d:=.ref pl) rfl) (TW P.d);rwa [decide_eq_true hx] at this
 have b:=bV (G:=G) (cl:=cl) (W:=k+2) (a:=.cons (.raisE 3 (.fst (n3 (.str "no plate ") (.fmt (.var 2)) (.str " stands")))) .nil) (b:=.nil) c
 have f:gJ (.nm 2) (bR G cl (k+2) (t1 (.iff (.cmp .notin (.var 2) (.att (.var 0) "Page" "plates")) (.cons (.raisE 3 (.fst (n3 (.str "no plate ") (.fmt (.var 2)) (.str " stands")))) .nil) .nil))) a (k+2) 0 [some (.ref pg),some (.ref a),none] h=.ok (.nx [some (.ref pg),some (.ref a),some (.str x)]) h:=by
  have s:cZ (.nm 2) (D.str x) [some (.ref pg),some (.ref a),none]=some [some (.ref pg),some (.ref a),some (.str x)]:=rfl;simp only[gJ,bD e,List.getElem?_cons_zero,s,jJ,b,aP,aC,List.getElem?_cons_succ,List.getElem?_nil]
 rw[aF (by rw[yW,aY (x:=.ref a) rfl,cM,aC,JK,f]),aP];rfl
noncomputable abbrev PN:Ss:=(t5 (.iff (.cmp .inn (.att (.var 1) "Plate" "name") (.att (.var 0) "Page" "plates")) (.cons (.raisE 4 (.fst (n3 (.str "a plate ") (.fmt (.att (.var 1) "Plate" "name")) (.str " stands already")))) .nil) .nil) (.iff (.cmp .ge (.blt .len (n1 (.att (.var 0) "Page" "plates"))) (.gc 5)) (.cons (.rais 5 "a book holds at most twelve plates") .nil) .nil) (.asg (.nm 2) (.dcp (.att (.var 0) "Page" "plates"))) (.stx (.var 2) (.att (.var 1) "Plate" "name") (.var 1)) (.ret (.new "Page" 22 (n3 (.var 2) (.att (.var 0) "Page" "standing") (.att (.var 0) "Page" "coming")))))
inductive Wp (h:Hh) (st n:Nat) (x:Str) (L:En) (R:Rs D):Prop where
 |taken (a:x∈L.map Prod.fst) (r:Ev) (e:R=.exc 4 r h)
 |full (a:x ∉ L.map Prod.fst) (b:12<=L.length) (r:Ev) (e:R=.exc 5 r h)
 |let' (a:x ∉ L.map Prod.fst) (b:L.length<12) (h':Hh) (pg pl:Nat) (k:Kp h h') (hp:h.length<=pl) (p:PgAt h' pg pl st (L++ [(x,n)])) (e:R=.ok (.ref pg) h')
def Wpl(cl:Cl)(f:Nat):Prop:=∀(h:Hh)(pg pl st n:Nat)(L:En)(x:Str)(w t l:Int)(S:List bU),PgAt h pg pl st L->PlateAt h n x w t l S->x.length<=100->L.length<=100->Wp h st n x L (cl f [.ref pg,.ref n] h)
theorem RK{h:Hh}{n:Nat}{L:En}(e:h[n]? =some (.dct (dk L))):fG .len [.ref n] h=.ok (.int L.length) h:=by
 have e0:aI h n=none:=by unfold aI;rw[e];rfl
 rw[sS,jO,e0];show tV (.ref n) h=_;unfold tV;simp only[bW,eY,e,dk,Zc]
theorem YE{a b:Str}{e:E}{x:Str}{r:Ev}{h:Hh}(he:ev G cl e r h=.ok (.str x) h)(hx:x.length<=100)(ha:a.length<=100)(hb:b.length<=100):∃y,ev G cl (.fst (n3 (.str a) (.fmt e) (.str b))) r h=.ok (.str y) h:=by
 have e0:∀l:Es,ev G cl (.fst l) r h=(cJ G cl l r h).bind λds h=>NI ds h:=λl=>by rw[ev]<;>rfl
 have e1:ev G cl (.fmt e) r h=.ok (.str x) h:=by
  have:ev G cl (.fmt e) r h=(ev G cl e r h).bind λx h=>NK x h:=by rw[ev]<;>rfl
  rw[this,he,aC]
  show(if x.length<=100000 then _ else _)=_
  rw[if_pos (by omega)]
 refine⟨uR [a,x,b],?_⟩;rw[e0,iY (dS ..) e1 (dS ..),aC]
 show(if a.length+(x.length+(b.length+0))<=100000 then _ else _)=_
 rw[if_pos (by omega)]
theorem EA{c:Nat}{e:E}{d:D}{r:Ev}{h h':Hh}(he:ev G cl e r h=.ok d h'):xs G cl W (.raisE c e) r h=.exc c r h':=by
 have e0:xs G cl W (.raisE c e) r h=(ev G cl e r h).nx.bind λ_ h=>.exc c r h:=by rw[xs]<;>rfl
 rw[e0,he];rfl
theorem KO(h22:VL cl 22)(g5:∀r h,ev G cl (.gc 5) r h=.ok (.int 12) h){h:Hh}{pg pl st n:Nat}{L:En}{x:Str}{w t l:Int}{S:List bU}(P:PgAt h pg pl st L)(Q:PlateAt h n x w t l S)(hx:x.length<=100)(hL:L.length<=100):
 Wp h st n x L ((bR G cl W PN [some (.ref pg),some (.ref n),none] h).bind cK):=by
 obtain⟨j,q1,_⟩:=id Q;have nm:∀(d:Option D),ev G cl (.att (.var 1) "Plate" "name") [some (.ref pg),some (.ref n),d] h=.ok (.str x) h:=λd=>bS rfl q1 (fN ..);have ps:∀(d:Option D),ev G cl (.att (.var 0) "Page" "plates") [some (.ref pg),some (.ref n),d] h=.ok (.ref pl) h:=λd=>bS rfl P.p rfl;have c1:=bA (nm none) (ps none) (OP (x:=x) P.d)
 by_cases a:x∈L.map Prod.fst
 ·rw[decide_eq_true a] at c1;obtain⟨y,ey⟩:=YE (a:="a plate ") (b:=" stands already") (nm none) hx (by decide) (by decide);refine .taken a [some (.ref pg),some (.ref n),none] ?_;rw[fO (c:=4) (r':= [some (.ref pg),some (.ref n),none]) (h':=h) (by rw[cT c1,fO (EA ey)])];rfl
 ·rw[decide_eq_false a] at c1;rw[aF (r':= [some (.ref pg),some (.ref n),none]) (h':=h) (by rw[bV c1,aP])];have c2:=bA (dU (dB (ps none)) (RK P.d)) (g5 _ _) (VF ..)
  by_cases b:12<=L.length
  ·rw[decide_eq_true (by omega)] at c2;refine .full a b [some (.ref pg),some (.ref n),none] ?_;rw[fO (c:=5) (r':= [some (.ref pg),some (.ref n),none]) (h':=h) (by rw[cT c2,fO (kA ..)])];rfl
  ·rw[decide_eq_false (by omega)] at c2;rw[aF (r':= [some (.ref pg),some (.ref n),none]) (h':=h) (by rw[bV c2,aP])];rw[aF (r':= [some (.ref pg),some (.ref n),some (.ref h.length)]) (h':=h++ [.dct (dk L)]) (bF (SR (ps none) P.d))];have kp:Kp h (h++ [.dct (dk L)]):=Kp.app _ _;have e4:=JL (G:=G) (cl:=cl) (W:=W) (o:=2) (e:=.var 1) (i:=.att (.var 1) "Plate" "name") (r:= [some (.ref pg),some (.ref n),some (.ref h.length)]) (h:=h++ [.dct (dk L)]) (z:=.ref n) (x:=x) (aY rfl) rfl (bS rfl (kp _ _ q1) (fN ..)) (bK ..) (by simp[dk];omega);rw[gL,uK n a] at e4;rw[aF e4];have kp2:Kp h (h++ [.dct (dk (L++ [(x,n)]))]):=Kp.app _ _;have P2:=kp2 _ _ P.p;have e5:=iY (G:=G) (cl:=cl) (r:= [some (.ref pg),some (.ref n),some (.ref h.length)]) (h:=h++ [.dct (dk (L++ [(x,n)]))]) (aY (i:=2) rfl) (bS (i:=0) (f:="standing") rfl P2 rfl) (bS (i:=0) (f:="coming") rfl P2 rfl);have e6:=qD (cn:="Page") (f:=22) e5 (h22 _ h.length st);have kp3:Kp (h++ [.dct (dk (L++ [(x,n)]))]) (h++ [.dct (dk (L++ [(x,n)]))]++ [.ins "Page" (IV h.length st)]):=Kp.app _ _;refine .let' a (by omega) _ _ h.length (kp2.trans kp3) (Zn _) ⟨bK ..,kp3 _ _ (bK ..),kp3 _ _ (kp2 _ _ P.s)⟩ ?_;rw[bY (cF e6)];rfl
end
theorem bkpg{f g:List (Str×D)}:O.ins "Book" f≠O.ins "Page" g:=λz=>by
 injection z with z _;exact absurd z (by decide)
theorem bkpt{f g:List (Str×D)}:O.ins "Book" f≠O.ins "Plate" g:=λz=>by
 injection z with z _;exact absurd z (by decide)
theorem eI{h:Hh}{n k:Nat}{o u:O}(a:h[n]? =some o)(b:h[k]? =some u)(ne:o≠u):n≠k:=λz=>ne (by rw[z,b] at a;exact(Zg a).symm)
def Kd(h h':Hh):Prop:=∀(n:Nat)(o:O),n≠1->n≠5->(n=7\/∀l,o≠ .dct l)->h[n]? =some o->h'[n]? =some o
theorem Kp.kd{h h':Hh}(k:Kp h h'):Kd h h':=λn o _ _ _ e=>k n o e
theorem Kq.kd{h h':Hh}(k:Kq [1,5] h h'):Kd h h':=λn o a b _ e=>k n o (by simp[a,b]) e
theorem Kd.trans{a b c:Hh}(x:Kd a b)(y:Kd b c):Kd a c:=λn o q1 q2 q3 e=>y n o q1 q2 q3 (x n o q1 q2 q3 e)
structure BkAt' (h:Hh)(L:En)(n pg fu pl st:Nat)(Z:List D):Prop where
 b:h[1]? =some (.ins "Book" (yV pg fu))
 z:h[5]? =some (.lst Z)
 zl:Z.length<=n
 p:PgAt h pg pl st L
 nn7:pl≠7
 nn5:st≠5
def BkAt(h:Hh)(L:En)(n:Nat):Prop:=∃pg fu pl st Z,BkAt' h L n pg fu pl st Z
def BkS(h:Hh)(L:En)(n st:Nat):Prop:=∃pg fu pl Z,BkAt' h L n pg fu pl st Z
theorem BkS.bk{h:Hh}{L:En}{n st:Nat}(B:BkS h L n st):BkAt h L n:=by
 obtain⟨pg,fu,pl,Z,B⟩:=B;exact⟨pg,fu,pl,st,Z,B⟩
theorem BkAt.kp{h h':Hh}{L:En}{n:Nat}(B:BkAt h L n)(k:Kp h h'):BkAt h' L n:=by
 obtain⟨pg,fu,pl,st,Z,B⟩:=B;exact⟨pg,fu,pl,st,Z,k _ _ B.b,k _ _ B.z,B.zl,B.p.kp k,B.nn7,B.nn5⟩
theorem BkAt.set7{h:Hh}{L:En}{n:Nat}{l:List (bQ×D)}{o:O}(B:BkAt h L n)(e:h[7]? =some (.dct l)):BkAt (h.set 7 o) L n:=by
 obtain⟨pg,fu,pl,st,Z,B⟩:=B;have nn1:7≠pg:=eI e B.p.p nofun;have nn2:7≠st:=eI e B.p.s nofun;exact⟨pg,fu,pl,st,Z,by rw[List.getElem?_set_ne (by decide)];exact B.b,by rw[List.getElem?_set_ne (by decide)];exact B.z,B.zl,⟨by rw[List.getElem?_set_ne nn1];exact B.p.p,by rw[List.getElem?_set_ne B.nn7.symm];exact B.p.d,by rw[List.getElem?_set_ne nn2];exact B.p.s⟩,B.nn7,B.nn5⟩
theorem BkAt.le{h:Hh}{L:En}{n m:Nat}(B:BkAt h L n)(e:n<=m):BkAt h L m:=by
 obtain⟨pg,fu,pl,st,Z,B⟩:=B;exact⟨pg,fu,pl,st,Z,B.b,B.z,Nat.le_trans B.zl e,B.p,B.nn7,B.nn5⟩
theorem PlateAt.kd{h h':Hh}{p:Nat}{nm:Str}{w t l:Int}{S:List bU}(P:PlateAt h p nm w t l S){L:En}{n:Nat}(B:BkAt h L n)(k:Kd h h'):PlateAt h' p nm w t l S:=by
 obtain⟨j,e1,e2⟩:=P;obtain⟨pg,fu,pl,st,Z,B⟩:=B;exact⟨j,k _ _ (eI e1 B.b bkpt.symm) (eI e1 B.z nofun) (.inr nofun) e1,k _ _ (eI e2 B.b nofun) (eI e2 B.z nofun) (.inr nofun) e2⟩
section
variable {G:Gs}{cl:Cl}{W:Nat}
theorem lS{cn f:Str}{fs:List (Str×D)}{a:E}{d:D}{r:Ev}{i n:Nat}{h h1:Hh}(hr:r[i]? =some (some (.ref n)))(ha:ev G cl a r h=.ok d h1)(e:h1[n]? =some (.ins cn fs))(hl:fs.length<900):xs G cl W (.sfl (.var i) cn f a) r h=.ok (.nx r) (h1.set n (.ins cn (nW f d fs))):=by
 rw[IF,ha,cM,aC,aY hr,cM,aC,IQ _ e hl,cM,aC]
theorem oB{e:E}{d:D}{r:Ev}{h h':Hh}(he:ev G cl e r h=.ok d h'):xs G cl W (.ex e) r h=.ok (.nx r) h':=by
 rw[KL,he,cM,aC]
theorem yX{i:Nat}{e:E}{d:D}{r:Ev}{h h':Hh}(he:ev G cl e r h=.ok d h'):xs G cl W (.asc i e) r h=.ok (.nx (r.set i (some d))) h':=by
 rw[PM,he,cM,aC]
noncomputable abbrev VS:E:=(.dci (.tp [0,1]) (.att (.var 0) "Page" "plates") (n1 (.cmp .ne (.var 0) (.var 2))) (.var 0) (.var 1) ["other","plate","name"] [1])
noncomputable abbrev woC:E:=(.comp (.nm 0) .sq (n1 (.att (.var 0) "Page" "standing")) (n1 (.cmp .notin (.var 1) (.tup (n2 (.ix (.var 0) (.int 1)) (.ix (.var 0) (.int 2)))))) (.var 0) ["tie","name"] [1])
noncomputable abbrev woB:Ss:=(t4 (.ex (.call 3 (n2 (.var 0) (.lst (n1 (.var 1)))))) (.asc 2 VS) (.asc 3 woC) (.ret (.new "Page" 22 (n3 (.var 2) (.var 3) (.att (.var 0) "Page" "coming")))))
theorem uP(x:Str)(h0:Hh):∀(L A:En)(a b:Option D),((A++L).map Prod.fst).Nodup->A.length+L.length<=100->
 DJ (.tp [0,1]) (jU G cl (n1 (.cmp .ne (.var 0) (.var 2)))) (ev G cl (.var 0)) (ev G cl (.var 1)) h0.length (L.map λe=>D.tup [.str e.1,.ref e.2]) [a,b,some (.str x)] (h0++ [.dct (dk A)])=.ok () (h0++ [.dct (dk (A++L.filter λe=>decide (e.1≠x)))])
 | [],A,a,b,_,_=>by simp[DJ]
 |e::L,A,a,b,nd,hl=>by
  have s:cZ (.tp [0,1]) (.tup [.str e.1,.ref e.2]) [a,b,some (.str x)]=some [some (.str e.1),some (.ref e.2),some (.str x)]:=rfl
  have c:jU G cl (n1 (.cmp .ne (.var 0) (.var 2))) [some (.str e.1),some (.ref e.2),some (.str x)] (h0++ [.dct (dk A)])=.ok (!decide (e.1=x)) (h0++ [.dct (dk A)]):=by
   rw[wA,bA (aY (i:=0) rfl) (aY (i:=2) rfl) (TY ..),aC,sT,nH];cases decide (e.1=x)<;>rfl
  rw[List.length_cons] at hl;rw[Zh];simp only[DJ,s,c,aC]
  by_cases q:e.1=x
  ·rw[decide_eq_true q,if_neg (by simp)]
   have nd':((A++L).map Prod.fst).Nodup:=by
    rw[List.map_append] at nd⊢;exact nd.sublist ((List.Sublist.refl _).append (List.sublist_cons_self _ _))
   rw[uP x h0 L A _ _ nd' (by omega),List.filter_cons_of_neg (by simp[q])]
  ·rw[decide_eq_false q,if_pos (by simp)]
   have na:e.1 ∉ A.map Prod.fst:=by
    rw[List.map_append,Zh,List.nodup_append] at nd;intro z;exact nd.2.2 _ z _ Zl rfl
   have pt:gG h0.length (.str e.1) (.ref e.2) (h0++ [.dct (dk A)])=.ok () (h0++ [.dct (dk (A++ [e]))]):=by
    unfold gG;rw[bK]
    show(if(dk A).length<1000 then Rs.ok () ((h0++ [O.dct (dk A)]).set h0.length (.dct (nV (dk A) (.inr e.1) (.ref e.2)))) else .bad)=_
    rw[if_pos (by unfold dk;rw[Zc];omega),gL,uK e.2 na]
   rw[aY (x:=.str e.1) rfl,aC,aY (x:=.ref e.2) rfl,aC,pt,aC,uP x h0 L (A++ [e]) _ _ (by rwa [List.append_assoc,List.singleton_append]) (by rw[List.length_append];show _+1+_<=_;omega),List.filter_cons_of_pos (by simp[q]),List.append_assoc,List.singleton_append]
def Wop(cl:Cl)(f:Nat):Prop:=∀(h:Hh)(pg pl st:Nat)(L:En)(x:Str),PgAt h pg pl st L->x∈L.map Prod.fst->(L.map Prod.fst).Nodup->L.length<=100->∃h' pg' pl' st',cl f [.ref pg,.str x] h=.ok (.ref pg') h'/\Kq [pl] h h'/\h.length<=pl'/\h.length<=st'/\PgAt h' pg' pl' st' (L.filter λe=>decide (e.1≠x))
theorem KP(h3:UK cl 3)(h22:VL cl 22){h:Hh}{pg pl st:Nat}{L:En}{x:Str}(P:PgAt h pg pl st L)(hx:x∈L.map Prod.fst)(nd:(L.map Prod.fst).Nodup)(hl:L.length<=100):
 ∃h' pg' pl' st',(bR G cl W woB [some (.ref pg),some (.str x),none,none] h).bind cK=.ok (.ref pg') h'/\Kq [pl] h h'/\h.length<=pl'/\h.length<=st'/\PgAt h' pg' pl' st' (L.filter λe=>decide (e.1≠x)):=by
 have k1:Kp h (h++ [.lst [.str x]]):=Kp.app _ _;have e1:ev G cl (.call 3 (n2 (.var 0) (.lst (n1 (.var 1))))) [some (.ref pg),some (.str x),none,none] h=.ok .non (h++ [.lst [.str x]]):=gU (gT (aY rfl) (eG (dB (aY rfl)) (dC rfl))) (h3 _ pg pl st _ L x (P.kp k1) hx (bK ..));rw[aF (oB e1)];generalize hh1:h++ [O.lst [D.str x]]=h1 at k1;have P1:=P.kp k1;have npg:pl≠pg:=eI P1.d P1.p nofun;have nst:pl≠st:=eI P1.d P1.s nofun
 have e2:ev G cl VS [some (.ref pg),some (.str x),none,none] h1=.ok (.ref (h1.set pl .ded).length) (h1.set pl .ded++ [.dct (dk (L.filter λe=>decide (e.1≠x)))]):=by
  have e0:ev G cl VS [some (.ref pg),some (.str x),none,none] h1=(ev G cl (.att (.var 0) "Page" "plates") [some (.ref pg),some (.str x),none,none] h1).bind λy h=>PJ (.tp [0,1]) (jU G cl (n1 (.cmp .ne (.var 0) (.var 2)))) (ev G cl (.var 0)) (ev G cl (.var 1)) y (aT ["other","plate","name"] [1] [some (.ref pg),some (.str x),none,none]) h:=by rw[ev]<;>rfl
  rw[e0,bS rfl P1.p (d:=.ref pl) rfl,aC];have b:aT ["other","plate","name"] [1] [some (.ref pg),some (.str x),none,none]=[none,none,some (.str x)]:=rfl;have q:=uP (G:=G) (cl:=cl) x (h1.set pl .ded) L [] none none (by simpa using nd) (by simpa using hl);have mm:((dk L).map λp=>D.tup [qO p.1,p.2])=L.map λe=>D.tup [.str e.1,.ref e.2]:=by simp[dk,qO]
  rw[List.nil_append,show dk []=[] from rfl,List.length_set] at q;simp only[PJ,P1.d,b,mm,q,aC,List.length_set]
 rw[aF (yX e2)];have k2:Kq [pl] h1 (h1.set pl .ded++ [.dct (dk (L.filter λe=>decide (e.1≠x)))]):=((Kp.refl h1).kq [pl] |>.set _ Zl).trans ((Kp.app _ _).kq _);have l1:h.length<=h1.length:=k1.len
 have d2:(h1.set pl .ded++ [O.dct (dk (L.filter λe=>decide (e.1≠x)))])[h1.length]? =some (.dct (dk (L.filter λe=>decide (e.1≠x)))):=by
  have:=bK (h1.set pl .ded) (.dct (dk (L.filter λe=>decide (e.1≠x))));rwa [List.length_set] at this
 have pS:=k2 _ _ (by simpa using npg.symm) P1.p;have st2:=k2 _ _ (by simpa using nst.symm) P1.s;have RM:h1.length<(h1.set pl .ded++ [O.dct (dk (L.filter λe=>decide (e.1≠x)))]).length:=by simp
 have ee:(h1.set pl O.ded).length=h1.length:=List.length_set ..;rw[ee];generalize h1.set pl .ded++ [O.dct (dk (L.filter λe=>decide (e.1≠x)))]=h2 at*;show ∃h' pg' pl' st',(bR G cl W _ [some (.ref pg),some (.str x),some (.ref h1.length),none] h2).bind cK=_/\_;obtain⟨gb,e3⟩:=qE (G:=G) (cl:=cl) (t:=.nm 0) (it:=.cons (.att (.var 0) "Page" "standing") .nil) (cs:=.cons (.cmp .notin (.var 1) (.tup (n2 (.ix (.var 0) (.int 1)) (.ix (.var 0) (.int 2))))) .nil) (e:=.var 0) (N:= ["tie","name"]) (cap:= [1]) (r:= [some (.ref pg),some (.str x),some (.ref h1.length),none]) (l:=([]:List Nat)) (λ_=>D.non) (λ_=>True) (λ_=>true) (λ_=>D.non) (dB (bS rfl pS (d:=.ref st) rfl)) (bD st2) (Nat.zero_le _) trivial (λd hd=>nomatch hd);rw[aF (yX e3)];have k3:Kp h2 (h2++ .lst []::gb):=Kp.app _ _;have pl3:=k3 _ _ pS;have e4:=iY (G:=G) (cl:=cl) (r:= [some (.ref pg),some (.str x),some (.ref h1.length),some (.ref h2.length)]) (h:=h2++ .lst []::gb) (aY (i:=2) rfl) (aY (i:=3) rfl) (bS (i:=0) (f:="coming") rfl pl3 rfl);have e5:=qD (cn:="Page") (f:=22) e4 (h22 _ h1.length h2.length);have k4:Kp (h2++ .lst []::gb) (h2++ .lst []::gb++ [.ins "Page" (IV h1.length h2.length)]):=Kp.app _ _;refine⟨_,_,h1.length,h2.length,?_,((k1.kq _).trans k2).trans ((k3.trans k4).kq _),l1,by omega,bK ..,k4 _ _ (k3 _ _ d2),k4 _ _ (iB ..)⟩
 show(bR G cl W _ [some (.ref pg),some (.str x),some (.ref h1.length),some (.ref h2.length)] (h2++ .lst []::gb)).bind cK=_
 rw[bY (cF e5)];rfl
noncomputable abbrev biB:Ss:=(t3 (.sfl (.var 0) "Book" "page" (.call 2 .nil)) (.sfl (.var 0) "Book" "past" (.lst .nil)) (.sfl (.var 0) "Book" "future" (.lst .nil)))
def Bpg(cl:Cl)(f:Nat):Prop:=∀h:Hh,cl f [] h=.ok (.ref (h.length+2)) (h++ [.dct [],.lst [],.ins "Page" (IV h.length (h.length+1))])
noncomputable def h7(o:O):Hh:= [o,.ins "Book" (yV 4 6),.dct [],.lst [],.ins "Page" (IV 2 3),.lst [],.lst []]
theorem UC(h2:Bpg cl 2)(o:O):(bR G cl W biB [some (.ref 1)] [o,.ins "Book" []]).bind cK=.ok .non (h7 o):=by
 rw[aF (lS (h:= [o,.ins "Book" []]) rfl (gU (bZ ..) (h2 _)) (fs:= []) rfl (lF rfl)),aF (lS rfl (eG (bZ ..) (dC rfl)) (fs:= [("page",.ref 4)]) rfl (lF rfl)),aF (lS rfl (eG (bZ ..) (dC rfl)) (fs:= [("page",.ref 4),("past",.ref 5)]) rfl (lF rfl)),aP];rfl
theorem SC(o:O):BkAt (h7 o) [] 0:=⟨4,6,2,3,[],rfl,rfl,Zn _,⟨rfl,rfl,rfl⟩,by decide,by decide⟩
noncomputable abbrev wrB:Ss:=(t3 (.ex (.app (.att (.var 0) "Book" "past") (.tup (n2 (.var 1) (.att (.var 0) "Book" "page"))))) (.sfl (.var 0) "Book" "page" (.var 2)) (.sfl (.var 0) "Book" "future" (.lst .nil)))
def B0(cl:Cl)(f:Nat):Prop:=∀(h:Hh)(d:D)(pg pg' fu:Nat)(Z:List D),h[1]? =some (.ins "Book" (yV pg fu))->h[5]? =some (.lst Z)->Z.length<=500->∃h' fu' z,cl f [.ref 1,d,.ref pg'] h=.ok .non h'/\Kq [1,5] h h'/\h'[1]? =some (.ins "Book" (yV pg' fu'))/\h'[5]? =some (.lst (Z++ [z]))
theorem KN{h:Hh}(d:D){pg:Nat}(pg':Nat){fu:Nat}{Z:List D}(b:h[1]? =some (.ins "Book" (yV pg fu)))(z:h[5]? =some (.lst Z))(hz:Z.length<=500):
 ∃h' fu' z,(bR G cl W wrB [some (.ref 1),some d,some (.ref pg')] h).bind cK=.ok .non h'/\Kq [1,5] h h'/\h'[1]? =some (.ins "Book" (yV pg' fu'))/\h'[5]? =some (.lst (Z++ [z])):=by
 have e1:ev G cl (.app (.att (.var 0) "Book" "past") (.tup (n2 (.var 1) (.att (.var 0) "Book" "page")))) [some (.ref 1),some d,some (.ref pg')] h=.ok .non (h.set 5 (.lst (Z++ [.tup [d,.ref pg]]))):=by
  have hL:cO (.ref 5) h=true:=by rw[fE,bD z];rfl
  rw[CD,bS rfl b (d:=.ref 5) rfl,aC,if_pos hL,kR (aY rfl) (bS rfl b rfl),aC,DT _ z (by omega)]
 have b1:(h.set 5 (.lst (Z++ [.tup [d,.ref pg]])))[1]? =some (.ins "Book" (yV pg fu)):=by rw[List.getElem?_set_ne (by decide)];exact b
 have z1:(h.set 5 (.lst (Z++ [.tup [d,.ref pg]])))[5]? =some (.lst (Z++ [.tup [d,.ref pg]])):=dI z;have k1:Kq [1,5] h (h.set 5 (.lst (Z++ [.tup [d,.ref pg]]))):=((Kp.refl h).kq _).set _ (by decide);generalize h.set 5 (.lst (Z++ [.tup [d,.ref pg]]))=h1 at e1 b1 z1 k1;have e2:xs G cl W (.sfl (.var 0) "Book" "page" (.var 2)) [some (.ref 1),some d,some (.ref pg')] h1=.ok (.nx [some (.ref 1),some d,some (.ref pg')]) (h1.set 1 (.ins "Book" (yV pg' fu))):=lS rfl (aY rfl) b1 (lF rfl);have b2:(h1.set 1 (.ins "Book" (yV pg' fu)))[1]? =some (.ins "Book" (yV pg' fu)):=dI b1;have e3:=lS (G:=G) (cl:=cl) (W:=W) (i:=0) (cn:="Book") (f:="future") (a:=.lst .nil) (r:= [some (.ref 1),some d,some (.ref pg')]) rfl (eG (bZ ..) (dC rfl)) (Kp.app _ _ _ _ b2) (lF rfl);refine⟨_,(h1.set 1 (.ins "Book" (yV pg' fu))).length,.tup [d,.ref pg],by rw[aF (oB e1),aF e2,aF e3,aP];rfl,((k1.set _ (by decide)).trans ((Kp.app _ _).kq _)).set _ (by decide),dI (Kp.app _ _ _ _ b2),?_⟩;rw[List.getElem?_set_ne (by decide)];refine Kp.app _ _ _ _ ?_;rw[List.getElem?_set_ne (by decide)];exact z1
theorem BkAt.wr{h h':Hh}{L':En}{n pg' pl' st' fu':Nat}{Z:List D}{z:D}(b:∃f,h[1]? =some (.ins "Book" f))(z0:h[5]? =some (.lst Z))(k:Kq [1,5] h h')(zl:Z.length<=n)(p:PgAt h pg' pl' st' L')(nn7:pl'≠7)(nn5:st'≠5)(b1:h'[1]? =some (.ins "Book" (yV pg' fu')))(z1:h'[5]? =some (.lst (Z++ [z]))):BkS h' L' (n+1) st':=by
 obtain⟨f,b⟩:=b;have kk:∀{n o},h[n]? =some o->n≠1->n≠5->h'[n]? =some o:=λe a c=>k _ _ (by simp[a,c]) e;exact⟨pg',fu',pl',_,b1,z1,by rw[List.length_append];show _+1<=_;omega,⟨kk p.p (eI p.p b bkpg.symm) (eI p.p z0 nofun),kk p.d (eI p.d b nofun) (eI p.d z0 nofun),kk p.s (eI p.s b nofun) nn5⟩,nn7,nn5⟩
noncomputable abbrev drB:Ss:=(t1 (.ex (.mth (.var 0) "Book" "write" 24 (n2 (.tup (n2 (.str "drop") (.var 1))) (.call 5 (n2 (.att (.var 0) "Book" "page") (.var 1)))))))
def D8(cl:Cl)(f:Nat):Prop:=∀(h:Hh)(L:En)(n:Nat)(x:Str),BkAt h L n->8<=h.length->n<=400->x∈L.map Prod.fst->(L.map Prod.fst).Nodup->L.length<=100->∃h',cl f [.ref 1,.str x] h=.ok .non h'/\Kd h h'/\BkAt h' (L.filter λe=>decide (e.1≠x)) (n+1)
theorem NW(h5:Wop cl 5)(h24:B0 cl 24){h:Hh}{L:En}{n:Nat}{x:Str}(B:BkAt h L n)(h8:8<=h.length)(hn:n<=400)(hx:x∈L.map Prod.fst)(nd:(L.map Prod.fst).Nodup)(hl:L.length<=100):
 ∃h',(bR G cl W drB [some (.ref 1),some (.str x)] h).bind cK=.ok .non h'/\Kd h h'/\BkAt h' (L.filter λe=>decide (e.1≠x)) (n+1):=by
 obtain⟨pg,fu,pl,st,Z,B⟩:=B;obtain⟨h1,pg',pl',st',c1,k1,l1,l2,p1⟩:=h5 h pg pl st L x B.p hx nd hl;have nn1:1≠pl:=eI B.b B.p.d nofun;have nn2:5≠pl:=eI B.z B.p.d nofun;have b1:=k1 _ _ (by simpa using nn1) B.b;have z1:=k1 _ _ (by simpa using nn2) B.z;obtain⟨h2,fu',z,c2,k2,b2,z2⟩:=h24 h1 (.tup [.str "drop",.str x]) pg pg' fu Z b1 z1 (by have:=B.zl;omega);have e:=fY (G:=G) (cl:=cl) (i:=0) (f:=24) (cn:="Book") (m:="write") (l:=.cons (.tup (n2 (.str "drop") (.var 1))) (n1 (.call 5 (n2 (.att (.var 0) "Book" "page") (.var 1))))) (r:= [some (.ref 1),some (.str x)]) rfl B.b rfl (gT (kR (dS ..) (aY rfl)) (gU (gT (bS rfl B.b rfl) (aY rfl)) c1)) c2;refine⟨h2,by rw[aF (oB e),aP];rfl,λj o a b c q=>?_,(BkAt.wr ⟨_,b1⟩ z1 k2 B.zl p1 (by omega) (by omega) b2 z2).bk⟩;refine k2 _ _ (by simp[a,b]) (k1 _ _ ?_ q);intro z;have ez:j=pl:=by simpa using z
 subst ez;rcases c with c|c
 ·exact B.nn7 c
 ·rw[B.p.d] at q;exact c _ (Zg q).symm
noncomputable abbrev RC:Ss:=(t1 (.ret (.sdk (.att (.att (.var 0) "Book" "page") "Page" "plates"))))
theorem rV:∀L:En,oR (dk L)=some (L.map Prod.fst)
 | []=>rfl
 |e::L=>by
  show(oR (dk L)).map (e.1:: ·)=_
  rw[rV L];rfl
theorem JN{a:E}{n:Nat}{L:En}{l:List D}{r:Ev}{h h1:Hh}(ha:ev G cl a r h=.ok (.ref n) h1)(e:h1[n]? =some (.dct (dk L)))(q:gK ((L.map Prod.fst).map D.str)=some l):ev G cl (.sdk a) r h=.ok (.ref h1.length) (h1++ [.lst l]):=by
 have e0:ev G cl (.sdk a) r h=(ev G cl a r h).bind λx h=>zS x h:=by rw[ev]<;>rfl
 rw[e0,ha,aC];unfold zS;simp only[bW,e,rV,q]
def OY(cl:Cl)(f:Nat):Prop:=∀(h:Hh)(L:En)(n:Nat)(l:List D),BkAt h L n->gK ((L.map Prod.fst).map D.str)=some l->cl f [.ref 1] h=.ok (.ref h.length) (h++ [.lst l])
theorem FI{h:Hh}{L:En}{n:Nat}{l:List D}(B:BkAt h L n)(q:gK ((L.map Prod.fst).map D.str)=some l):(bR G cl W RC [some (.ref 1)] h).bind cK=.ok (.ref h.length) (h++ [.lst l]):=by
 obtain⟨pg,fu,pl,st,Z,B⟩:=B;rw[bY (cF (JN (CC (bS rfl B.b (d:=.ref pg) rfl) B.p.p (d:=.ref pl) rfl) B.p.d q))];rfl
theorem vS(h3:UK cl 3){h:Hh}{L:En}{n pg fu pl st:Nat}{Z:List D}{x:Str}(B:BkAt' h L n pg fu pl st Z)(hx:x∈L.map Prod.fst)(l:List (Option D)):xs G cl W (.ex (.call 3 (n2 (.att (.var 0) "Book" "page") (.lst (n1 (.var 1)))))) (some (.ref 1)::some (.str x)::l) h=.ok (.nx (some (.ref 1)::some (.str x)::l)) (h++ [.lst [.str x]]):=
 oB (gU (gT (bS rfl B.b rfl) (eG (dB (aY rfl)) (dC rfl))) (h3 _ pg pl st _ L x (B.p.kp (Kp.app _ _)) hx (bK ..)))
theorem SM{h:Hh}{L:En}{n pg fu pl st p:Nat}{Z:List D}{x:Str}(B:BkAt' h L n pg fu pl st Z)(nd:(L.map Prod.fst).Nodup)(hx:(x,p)∈L)(l:List (Option D)):ev G cl (.ix (.att (.att (.var 0) "Book" "page") "Page" "plates") (.var 1)) (some (.ref 1)::some (.str x)::l) h=.ok (.ref p) h:=by
 rw[uD,CC (bS rfl B.b (d:=.ref pg) rfl) B.p.p (d:=.ref pl) rfl,aC,aY (x:=.str x) rfl,aC,XT _ _ B.p.d];unfold PF;simp only[mW,EB nd hx]
noncomputable abbrev wiB:Ss:=(t3 (.ex (.call 3 (n2 (.att (.var 0) "Book" "page") (.lst (n1 (.var 1)))))) (.asg (.nm 2) (.ix (.att (.att (.var 0) "Book" "page") "Page" "plates") (.var 1))) (.ret (.tup (n3 (.att (.var 2) "Plate" "width") (.att (.var 2) "Plate" "height") (.att (.var 2) "Plate" "limit")))))
theorem BkAt'.kp{h h':Hh}{L:En}{n pg fu pl st:Nat}{Z:List D}(B:BkAt' h L n pg fu pl st Z)(k:Kp h h'):BkAt' h' L n pg fu pl st Z:=⟨k _ _ B.b,k _ _ B.z,B.zl,B.p.kp k,B.nn7,B.nn5⟩
def Win(cl:Cl)(f:Nat):Prop:=∀(h:Hh)(L:En)(n p:Nat)(x:Str)(w t l:Int)(S:List bU),BkAt h L n->(L.map Prod.fst).Nodup->(x,p)∈L->PlateAt h p x w t l S->∃g,cl f [.ref 1,.str x] h=.ok (.tup [.int w,.int t,.int l]) (h++g)
theorem KQ(h3:UK cl 3){h:Hh}{L:En}{n p:Nat}{x:Str}{w t l:Int}{S:List bU}(B:BkAt h L n)(nd:(L.map Prod.fst).Nodup)(hx:(x,p)∈L)(P:PlateAt h p x w t l S):∃g,(bR G cl W wiB [some (.ref 1),some (.str x),none] h).bind cK=.ok (.tup [.int w,.int t,.int l]) (h++g):=by
 obtain⟨pg,fu,pl,st,Z,B⟩:=B;have k:Kp h (h++ [.lst [.str x]]):=Kp.app _ _;obtain⟨j,e,_⟩:=P.kp k;refine⟨[.lst [.str x]],?_⟩;rw[aF (vS h3 B (List.mem_map.mpr ⟨_,hx,rfl⟩) [none]),aF (bF (SM (B.kp k) nd hx [none])),bY (cF (fX (iY (bS (i:=2) (n:=p) rfl e (fW ..)) (bS (i:=2) (n:=p) rfl e (fH ..)) (bS (i:=2) (n:=p) rfl e (fL ..))) (dC rfl)))];rfl
noncomputable abbrev soB:Ss:=(t2 (.ex (.call 3 (n2 (.att (.var 0) "Book" "page") (.lst (n1 (.var 1)))))) (.ret (.mth (.ix (.att (.att (.var 0) "Book" "page") "Page" "plates") (.var 1)) "Plate" "stars" 20 .nil)))
theorem NP{o:E}{n f:Nat}{cn m:Str}{fs:List (Str×D)}{l:Es}{ds:List D}{d:D}{r:Ev}{h h0 h1 h':Hh}(ho:ev G cl o r h=.ok (.ref n) h0)(e:h0[n]? =some (.ins cn fs))(q:fs.lookup m=none)(hl:cJ G cl l r h0=.ok ds h1)(hc:cl f (.ref n::ds) h1=.ok d h'):ev G cl (.mth o cn m f l) r h=.ok d h':=by
 rw[JQ,ho,aC,if_pos (tP h0 e q),hl,aC,hc,cM]
def Sof(cl:Cl)(f:Nat):Prop:=∀(h:Hh)(L:En)(n p:Nat)(x:Str)(w t l:Int)(S U:List bU),BkAt h L n->(L.map Prod.fst).Nodup->(x,p)∈L->PlateAt h p x w t l S->S.length<=8->gK (S.map s3)=some (U.map s3)->∃g k,cl f [.ref 1,.str x] h=.ok (.ref k) (h++g)/\h.length<=k/\(h++g)[k]? =some (.lst (U.map s3))
theorem LI(h3:UK cl 3)(h20:C6 cl 20){h:Hh}{L:En}{n p:Nat}{x:Str}{w t l:Int}{S U:List bU}(B:BkAt h L n)(nd:(L.map Prod.fst).Nodup)(hx:(x,p)∈L)(P:PlateAt h p x w t l S)(hS:S.length<=8)(hU:gK (S.map s3)=some (U.map s3)):∃g k,(bR G cl W soB [some (.ref 1),some (.str x)] h).bind cK=.ok (.ref k) (h++g)/\h.length<=k/\(h++g)[k]? =some (.lst (U.map s3)):=by
 obtain⟨pg,fu,pl,st,Z,B⟩:=B;have kk:Kp h (h++ [.lst [.str x]]):=Kp.app _ _;obtain⟨j,e,_⟩:=id (P.kp kk);obtain⟨g,k,c,hk,q⟩:=h20 _ p x w t l S U (P.kp kk) hS hU;rw[List.append_assoc] at c q;refine⟨[.lst [.str x]]++g,k,?_,Nat.le_trans kk.len hk,q⟩;rw[aF (vS h3 B (List.mem_map.mpr ⟨_,hx,rfl⟩) []),bY (cF (NP (SM (B.kp kk) nd hx []) e rfl (bZ ..) c))];rfl
end
section
variable {G:Gs}{cl:Cl}{W:Nat}
theorem YF{a:E}{l:Es}{x:D}{ds:List D}{r:Ev}{h h1 h2:Hh}(ha:ev G cl a r h=.ok x h1)(hl:cJ G cl l r h1=.ok ds h2):cJ G cl (.cons a l) r h=.ok (x::ds) h2:=by
 rw[cE,ha,aC,hl,aC]
theorem BX{a:E}{n:Nat}{l:List D}{r:Ev}{h h1:Hh}(ha:ev G cl a r h=.ok (.ref n) h1)(e:aI h1 n=some l):ev G cl (.blt .tup (.cons a .nil)) r h=.ok (.tup l) h1:=by
 refine dU (dB ha) ?_;show xC _ _=_;unfold xC;have e1:cO (.ref n) h1=true:=by rw[fE,e];rfl
 rw[e1,jO,e]
noncomputable abbrev ptW:Ss:=(t1 (.ex (.mth (.var 0) "Book" "write" 24 (n2 (.tup (.cons (.str "put") (n5 (.var 1) (.var 2) (.var 3) (.var 4) (.blt .tup (n1 (.mth (.var 6) "Plate" "stars" 20 .nil)))))) (.var 7)))))
noncomputable abbrev ptB:Ss:=(.cons (.asN 6 "Plate" 18 (n5 (.var 1) (.var 2) (.var 3) (.var 4) (.var 5))) (.cons (.asgX (.nm 7) 4 (n2 (.att (.var 0) "Book" "page") (.var 6))) ptW))
inductive Why (x:Str) (w t l:Int) (S:List bU) (L:En):Nat->Str->Prop where
 |name (a:rP x=false):Why x w t l S L 1 "name"
 |plate (a:rP x=true) (b:iO w t l S):Why x w t l S L 2 "plate"
 |taken (a:rP x=true) (b:¬iO w t l S) (c:x∈L.map Prod.fst):Why x w t l S L 4 "taken"
 |full (a:rP x=true) (b:¬iO w t l S) (c:x ∉ L.map Prod.fst) (d:12<=L.length):Why x w t l S L 5 "full"
inductive Pt (h:Hh) (n st:Nat) (x:Str) (w t l:Int) (S:List bU) (L:En) (R:Rs D):Prop where
 |no (c:Nat) (m:Str) (y:Why x w t l S L c m) (r:Ev) (h':Hh) (k:Kp h h') (e:R=.exc c r h')
 |let' (a:rP x=true) (b:¬iO w t l S) (c:x ∉ L.map Prod.fst) (d:L.length<12) (p:Nat) (h':Hh) (k:Kq [1,5] h h') (B:BkS h' (L++ [(x,p)]) (n+1) st) (P:PlateAt h' p x w t l S) (e:R=.ok .non h')
def Put(cl:Cl)(f:Nat):Prop:=∀(h:Hh)(L:En)(n st s:Nat)(x:Str)(w t l:Int)(S:List bU),BkS h L n st->8<=h.length->n<=400->L.length<=100->x.length<=100->S.length<=100->aI h s=some (S.map s3)->Pt h n st x w t l S L (cl f [.ref 1,.str x,.int w,.int t,.int l,.ref s] h)
theorem LO(h4:Wpl cl 4)(h18:UO cl 18)(h20:C6 cl 20)(h24:B0 cl 24){h:Hh}{L:En}{n st s:Nat}{x:Str}{w t l:Int}{S:List bU}(B:BkS h L n st)(h8:8<=h.length)(hn:n<=400)(hL:L.length<=100)(hx:x.length<=100)(hS:S.length<=100)(e:aI h s=some (S.map s3)):
 Pt h n st x w t l S L ((bR G cl W ptB [some (.ref 1),some (.str x),some (.int w),some (.int t),some (.int l),some (.ref s),none,none] h).bind cK):=by
 have c1:=h18 h x w t l S s hx hS e;have a1:=GG (G:=G) (cl:=cl) (r:= [some (.ref 1),some (.str x),some (.int w),some (.int t),some (.int l),some (.ref s),none,none]) (h:=h) (aY (i:=1) rfl) (aY (i:=2) rfl) (aY (i:=3) rfl) (aY (i:=4) rfl) (aY (i:=5) rfl)
 have e0:xs G cl W (.asN 6 "Plate" 18 (n5 (.var 1) (.var 2) (.var 3) (.var 4) (.var 5))) [some (.ref 1),some (.str x),some (.int w),some (.int t),some (.int l),some (.ref s),none,none] h=((jS "Plate" (cl 18) [.str x,.int w,.int t,.int l,.ref s] h).inn [some (.ref 1),some (.str x),some (.int w),some (.int t),some (.int l),some (.ref s),none,none]).bind λy h=>.ok (.nx [some (.ref 1),some (.str x),some (.int w),some (.int t),some (.int l),some (.ref s),some y,none]) h:=by
  rw[xs,a1]<;>rfl
 unfold jS at e0;cases c1 with
 |name a r h' k q=>
  rw[q] at e0;exact .no 1 _ (.name a) _ h' k (by rw[fO e0]<;>rfl)
 |plate a b r h' k q=>
  rw[q] at e0;exact .no 2 _ (.plate a b) _ h' k (by rw[fO e0]<;>rfl)
 |let' a b h1 k1 P1 q=>
  rw[q] at e0;rw[aF e0];obtain⟨pg,fu,pl,Z,B⟩:=B;have B1:=B.kp k1;have c2:=h4 h1 pg pl st h.length L x w t l S B1.p P1 hx hL;have a2:=gT (G:=G) (cl:=cl) (r:= [some (.ref 1),some (.str x),some (.int w),some (.int t),some (.int l),some (.ref s),some (.ref h.length),none]) (h:=h1) (bS (i:=0) (f:="page") rfl B1.b (d:=.ref pg) rfl) (aY (i:=6) rfl);have e2:=KM G cl W [some (.ref 1),some (.str x),some (.int w),some (.int t),some (.int l),some (.ref s),some (.ref h.length),none] h1 (.nm 7) 4 (n2 (.att (.var 0) "Book" "page") (.var 6));rw[a2,cM,aC] at e2;cases c2 with
  |taken c r q2=>
   rw[q2] at e2;exact .no 4 _ (.taken a b c) _ h1 k1 (by rw[fO e2]<;>rfl)
  |full c d r q2=>
   rw[q2] at e2;exact .no 5 _ (.full a b c d) _ h1 k1 (by rw[fO e2]<;>rfl)
  |let' c d h2 pg' pl' k2 hp p2 q2=>
   rw[q2] at e2;rw[aF e2];have hS8:S.length<=8:=Nat.le_of_not_lt λz=>b (.inr (.inl z));obtain⟨U,_,eU⟩:=QF (Classical.not_not.mp λz=>b (.inr (.inr (.inl z)))) hS8;obtain⟨g,j,c3,_,q3⟩:=h20 h2 h.length x w t l S U (P1.kp k2) hS8 eU;obtain⟨m,f1,_⟩:=id (P1.kp k2);have kg:Kp h2 (h2++g):=Kp.app _ _;have B3:=(B1.kp k2).kp kg;have st5:pl'≠7:=by have:=k1.len;omega
   have l8:=k1.len;obtain⟨h3,fu',z,c4,k4,b4,z4⟩:=h24 (h2++g) (.tup [.str "put",.str x,.int w,.int t,.int l,.tup (U.map s3)]) pg pg' fu Z B3.b B3.z (by have:=B.zl;omega);have a5:=fY (G:=G) (cl:=cl) (i:=0) (f:=24) (cn:="Book") (m:="write") (r:= [some (.ref 1),some (.str x),some (.int w),some (.int t),some (.int l),some (.ref s),some (.ref h.length),some (.ref pg')]) (h:=h2) rfl (B1.kp k2).b rfl (gT (fX (YF (dS _ _ _ _ "put") (GG (aY (i:=1) rfl) (aY (i:=2) rfl) (aY (i:=3) rfl) (aY (i:=4) rfl) (BX (fY (i:=6) (m:="stars") (f:=20) rfl f1 rfl (bZ ..) c3) (bD q3)))) (dC rfl)) (aY (i:=7) rfl)) c4;have Bz:=BkAt.wr ⟨_,B3.b⟩ B3.z k4 B.zl (p2.kp kg) st5 B.nn5 b4 z4;have kk:Kq [1,5] h h3:=((k1.trans (k2.trans kg)).kq _).trans k4;refine .let' a b c d h.length h3 kk Bz (((P1.kp k2).kp kg).kd ⟨_,_,_,_,_,B3⟩ k4.kd) ?_
   show(bR G cl W ptW [some (.ref 1),some (.str x),some (.int w),some (.int t),some (.int l),some (.ref s),some (.ref h.length),some (.ref pg')] h2).bind cK=_
   rw[aF (oB a5),aP];rfl
noncomputable def kI(x:Str)(w t l:Int)(U:List bU):List D:= [.str x,.int w,.int t,.int l,.tup (U.map s3)]
noncomputable abbrev RG:S:=(.exM (.var 0) "Book" "put" 25 (n5 (.ix (.var 1) (.int 0)) (.ix (.var 1) (.int 1)) (.ix (.var 1) (.int 2)) (.ix (.var 1) (.int 3)) (.var 2)))
noncomputable abbrev RH:List HS:= [.cst 3 (.inr "else"),.ifc .isv 3 (.inr ""),.ifa (.isx 1) 3 "name",.ifa (.isx 2) 3 "plate",.ifa (.isx 4) 3 "taken",.ifa (.isx 5) 3 "full"]
noncomputable abbrev lpB:Ss:=(t3 (.asg (.nm 3) (.str "let")) (.tryx (.cons RG .nil) 0 (some 4) RH) (.ret (.var 3)))
inductive Pu (h:Hh) (n st:Nat) (x:Str) (w t l:Int) (S:List bU) (L:En) (R:Rs D):Prop where
 |no (c:Nat) (m:Str) (y:Why x w t l S L c m) (h':Hh) (k:Kp h h') (e:R=.ok (.str m) h')
 |let' (a:rP x=true) (b:¬iO w t l S) (c:x ∉ L.map Prod.fst) (d:L.length<12) (p:Nat) (h':Hh) (k:Kq [1,5] h h') (B:BkS h' (L++ [(x,p)]) (n+1) st) (P:PlateAt h' p x w t l S) (e:R=.ok (.str "let") h')
def C9(cl:Cl)(f:Nat):Prop:=∀(h:Hh)(L:En)(n st s q:Nat)(x:Str)(w t l:Int)(S U:List bU),BkS h L n st->8<=h.length->n<=400->L.length<=100->x.length<=100->S.length<=100->aI h s=some (S.map s3)->h[q]? =some (.lst (kI x w t l U))->Pu h n st x w t l S L (cl f [.ref 1,.ref q,.ref s] h)
def Hx(G:Gs):Prop:=∀a b c:Option D,∀p∈ [(1,("name":Str)),(2,"plate"),(4,"taken"),(5,"full")],(p.1,0)∈G.sub/\jT G p.1 RH [a,b,c,some (.str "let"),none]=some [a,b,c,some (.str p.2),none]
theorem LR{h:Hh}{q:Nat}{x:Str}{w t l:Int}{U:List bU}(e:h[q]? =some (.lst (kI x w t l U))):lJ (.ref q) (.int 0) h=.ok (.str x) h/\lJ (.ref q) (.int 1) h=.ok (.int w) h/\lJ (.ref q) (.int 2) h=.ok (.int t) h/\lJ (.ref q) (.int 3) h=.ok (.int l) h/\lJ (.ref q) (.int 4) h=.ok (.tup (U.map s3)) h:=
 ⟨iW _ _ (bD e),iW _ _ (bD e),iW _ _ (bD e),iW _ _ (bD e),iW _ _ (bD e)⟩
theorem MQ(hx0:Hx G)(h25:Put cl 25){h:Hh}{L:En}{n st s q:Nat}{x:Str}{w t l:Int}{S U:List bU}(B:BkS h L n st)(h8:8<=h.length)(hn:n<=400)(hL:L.length<=100)(hx:x.length<=100)(hS:S.length<=100)(e:aI h s=some (S.map s3))(eq:h[q]? =some (.lst (kI x w t l U))):
 Pu h n st x w t l S L ((bR G cl W lpB [some (.ref 1),some (.ref q),some (.ref s),none,none] h).bind cK):=by
 have c:=h25 h L n st s x w t l S B h8 hn hL hx hS e;obtain⟨pg,fu,pl,Z,B⟩:=B;obtain⟨i0,i1,i2,i3,_⟩:=LR eq;have a1:=GG (G:=G) (cl:=cl) (r:= [some (.ref 1),some (.ref q),some (.ref s),some (.str "let"),none]) (h:=h) (cI (i:=1) rfl (aG _ _ _ _ 0) i0) (cI (i:=1) rfl (aG _ _ _ _ 1) i1) (cI (i:=1) rfl (aG _ _ _ _ 2) i2) (cI (i:=1) rfl (aG _ _ _ _ 3) i3) (aY (i:=2) rfl)
 have e0:xs G cl W RG [some (.ref 1),some (.ref q),some (.ref s),some (.str "let"),none] h=((cl 25 [.ref 1,.str x,.int w,.int t,.int l,.ref s] h).inn [some (.ref 1),some (.ref q),some (.ref s),some (.str "let"),none]).bind λ_ h=>.ok (.nx [some (.ref 1),some (.ref q),some (.ref s),some (.str "let"),none]) h:=by
  have:xs G cl W RG [some (.ref 1),some (.ref q),some (.ref s),some (.str "let"),none] h=(ev G cl (.var 0) [some (.ref 1),some (.ref q),some (.ref s),some (.str "let"),none] h).nx.bind λx h=>if fK x "Book" "put" h=true then(cJ G cl (n5 (.ix (.var 1) (.int 0)) (.ix (.var 1) (.int 1)) (.ix (.var 1) (.int 2)) (.ix (.var 1) (.int 3)) (.var 2)) [some (.ref 1),some (.ref q),some (.ref s),some (.str "let"),none] h).nx.bind λds h=>((cl 25 (x::ds) h).inn [some (.ref 1),some (.ref q),some (.ref s),some (.str "let"),none]).bind λ_ h=>.ok (.nx [some (.ref 1),some (.ref q),some (.ref s),some (.str "let"),none]) h else .bad:=by rw[xs]<;>rfl
  rw[this,aY (x:=.ref 1) rfl,cM,aC,if_pos (tP h B.b rfl),a1,cM,aC]
 rw[aF (r':= [some (.ref 1),some (.ref q),some (.ref s),some (.str "let"),none]) (h':=h) (bF (dS ..))];cases c with
 |no c m y r h' k q1=>
  rw[q1] at e0;have hm:(c,m)∈ [(1,("name":Str)),(2,"plate"),(4,"taken"),(5,"full")]:=by cases y<;>simp
  obtain⟨s1,s2⟩:=hx0 (some (.ref 1)) (some (.ref q)) (some (.ref s)) _ hm
  have e1:xs G cl W (.tryx (.cons RG .nil) 0 (some 4) RH) [some (.ref 1),some (.ref q),some (.ref s),some (.str "let"),none] h=.ok (.nx [some (.ref 1),some (.ref q),some (.ref s),some (.str m),none]) h':=by
   rw[ID,fO (c:=c) (r':= [some (.ref 1),some (.ref q),some (.ref s),some (.str "let"),none]) (h':=h') e0]
   show(if(c,0)∈G.sub then(match jT G c RH [some (.ref 1),some (.ref q),some (.ref s),some (.str "let"),none] with|some r'=>Rs.ok (Fl.nx (clr (some 4) r')) h'|none=>.bad) else .bad)=_
   rw[if_pos s1,s2];rfl
  refine .no c m y h' k ?_;rw[aF e1,bY (cF (aY (x:=.str m) rfl))];rfl
 |let' a b c d p h' k B' P q1=>
  rw[q1] at e0
  have e1:xs G cl W (.tryx (.cons RG .nil) 0 (some 4) RH) [some (.ref 1),some (.ref q),some (.ref s),some (.str "let"),none] h=.ok (.nx [some (.ref 1),some (.ref q),some (.ref s),some (.str "let"),none]) h':=by
   rw[ID,aF (r':= [some (.ref 1),some (.ref q),some (.ref s),some (.str "let"),none]) (h':=h') e0,aP];rfl
  refine .let' a b c d p h' k B' P ?_;rw[aF e1,bY (cF (aY (x:=.str "let") rfl))];rfl
noncomputable def XV(x:Str):Bool:= !(Builtin.Str.occurrences x "B" 0 x.length 1).isEmpty
noncomputable def dn(x:Str):Bool:=decide ((x.length:Int)<1)||(decide (8<(x.length:Int))||XV x)
noncomputable def dY(x:Str)(w l:Int)(L:En):Str:=if dn x=true then "name" else if(decide (8<w)||decide (l<1))=true then "plate" else if x∈L.map Prod.fst then "taken" else if 12<=L.length then "full" else "let"
theorem wB{a b:E}{p q:Bool}{r:Ev}{h:Hh}(ha:ev G cl a r h=.ok (.bl p) h)(hb:ev G cl b r h=.ok (.bl q) h):ev G cl (.or a b) r h=.ok (.bl (p||q)) h:=by
 rw[BY,ha,aC,sT];cases p
 ·exact hb
 ·rfl
noncomputable abbrev duN:E:=(.or (.cmp .lt (.blt .len (n1 (.ix (.var 1) (.int 0)))) (.int 1)) (.or (.cmp .gt (.blt .len (n1 (.ix (.var 1) (.int 0)))) (.int 8)) (.cmp .inn (.str "B") (.ix (.var 1) (.int 0)))))
noncomputable abbrev duB:Ss:=(t5 (.iff duN (t1 (.ret (.str "name"))) .nil) (.iff (.or (.cmp .gt (.ix (.var 1) (.int 1)) (.int 8)) (.cmp .lt (.ix (.var 1) (.int 3)) (.int 1))) (t1 (.ret (.str "plate"))) .nil) (.iff (.cmp .inn (.ix (.var 1) (.int 0)) (.var 0)) (t1 (.ret (.str "taken"))) .nil) (.iff (.cmp .gt (.blt .len (n1 (.var 0))) (.int 11)) (t1 (.ret (.str "full"))) .nil) (.ret (.str "let")))
def D6(cl:Cl)(f:Nat):Prop:=∀(h:Hh)(d q:Nat)(L:En)(x:Str)(w t l:Int)(U:List bU),h[d]? =some (.dct (dk L))->h[q]? =some (.lst (kI x w t l U))->x.length<=100->cl f [.ref d,.ref q] h=.ok (.str (dY x w l L)) h
theorem FW{c:E}{b:Bool}{m:Str}{r:Ev}{h:Hh}(l:Ss)(e:ev G cl c r h=.ok (.bl b) h):(bR G cl W (.cons (.iff c (t1 (.ret (.str m))) .nil) l) r h).bind cK=if b=true then .ok (.str m) h else(bR G cl W l r h).bind cK:=by
 cases b with
 |true=>
  rw[bY (d:=.str m) (h':=h) (by rw[cT e,bY (cF (dS ..))])];rfl
 |false=>
  rw[aF (r':=r) (h':=h) (by rw[bV e,aP])];rfl
theorem NT{h:Hh}{d q:Nat}{L:En}{x:Str}{w t l:Int}{U:List bU}(ed:h[d]? =some (.dct (dk L)))(eq:h[q]? =some (.lst (kI x w t l U)))(hx:x.length<=100):(bR G cl W duB [some (.ref d),some (.ref q)] h).bind cK=.ok (.str (dY x w l L)) h:=by
 obtain⟨i0,i1,i2,i3,_⟩:=LR eq
 have ln:fG .len [.str x] h=.ok (.int x.length) h:=by
  rw[sS];show tV (.str x) h=_
  show(if x.length<=sizeLine then _ else _)=_
  rw[if_pos (Nat.le_trans hx (by decide))]
 have v0:ev G cl (.ix (.var 1) (.int 0)) [some (.ref d),some (.ref q)] h=.ok (.str x) h:=cI (i:=1) rfl (aG _ _ _ _ 0) i0;have nn0:ev G cl duN [some (.ref d),some (.ref q)] h=.ok (.bl (dn x)) h:=wB (bA (dU (dB v0) ln) (aG ..) (JY ..)) (wB (bA (dU (dB v0) ln) (aG ..) (UA ..)) (bA (dS ..) v0 rfl));have nn1:=wB (G:=G) (cl:=cl) (r:= [some (.ref d),some (.ref q)]) (bA (cI (i:=1) rfl (aG _ _ _ _ 1) i1) (aG _ _ _ _ 8) (UA ..)) (bA (cI (i:=1) rfl (aG _ _ _ _ 3) i3) (aG _ _ _ _ 1) (JY ..));have nn2:=bA (G:=G) (cl:=cl) (op:=.inn) (b:=.var 0) v0 (aY rfl) (OP (x:=x) ed);have nn3:=bA (G:=G) (cl:=cl) (op:=.gt) (r:= [some (.ref d),some (.ref q)]) (dU (f:=.len) (dB (aY (i:=0) rfl)) (RK ed)) (aG _ _ _ _ 11) (UA ..);rw[FW _ nn0,FW _ nn1,FW _ nn2,FW _ nn3];unfold dY
 have z:(decide (((11:Int)<L.length))=true)=(12<=L.length):=by
  rw[decide_eq_true_eq];exact propext ⟨λa=>by omega,λa=>by omega⟩
 simp only[decide_eq_true_eq] at*;rw[bY (cF (dS ..))]
 show(if _ then _ else if _ then _ else if _ then _ else if _ then _ else Rs.ok (D.str "let") h)=_
 by_cases q0:dn x=true
 ·rw[if_pos q0,if_pos q0]
 ·rw[if_neg q0,if_neg q0]
  by_cases q1:(decide (8<w)||decide (l<1))=true
  ·rw[if_pos q1,if_pos q1]
  ·rw[if_neg q1,if_neg q1]
   by_cases q2:x∈L.map Prod.fst
   ·rw[if_pos q2,if_pos q2]
   ·rw[if_neg q2,if_neg q2]
    by_cases q3:12<=L.length
    ·rw[if_pos (by omega),if_pos q3]
    ·rw[if_neg (by omega),if_neg q3]
end
noncomputable def hV(j k:Nat):Str:=(⟨#[ZF (j:Int)]⟩:Str)++Txt.mul "z" (k:Int)
theorem MO:∀(j:Fin 18)(k:Fin 8),(rP (hV j.1 k.1)&& !dn (hV j.1 k.1)&&Nat.ble (hV j.1 k.1).length 100)=true:=by decide+kernel
theorem ZM:∀x∈ [("":Str),"zzzzzzzzz","aB","B"],(!rP x&&dn x&&Nat.ble x.length 100)=true:=by decide+kernel
structure Mde (x:Str)(w t l:Int)(U:List bU):Prop where
 nm:rP x= !dn x
 len:x.length<=100
 ul:U.length<=8
 bad:(decide (8<w)||decide (l<1))=true->qP w t l=false
 good:(decide (8<w)||decide (l<1))=false->Good w t l U
 srt:(U.map s3).Pairwise (Bef kM)
section
variable {G:Gs}{cl:Cl}{W:Nat}
theorem zM{e i:E}{o n j:Nat}{k:Int}{z:D}{l:List D}{r:Ev}{h h1:Hh}(he:ev G cl e r h=.ok z h1)(ho:r[o]? =some (some (.ref n)))(hi:ev G cl i r h1=.ok (.int k) h1)(q:h1[n]? =some (.lst l))(hk:yT l.length k=some j):xs G cl W (.stx (.var o) i e) r h=.ok (.nx r) (h1.set n (.lst (l.set j z))):=by
 rw[IE,he,cM,aC,aY ho,cM,aC,hi,cM,aC]
 have:qY (.ref n) (.int k) z h1=.ok () (h1.set n (.lst (l.set j z))):=by
  simp only[qY,q,LF,hk]
 rw[this];rfl
noncomputable abbrev mdN:E:=(.bin .add (.ix (.var 2) (.bin .mod (.bin .fdiv (.ix (.var 0) (.int 1)) (.int 16)) (.int 18))) (.bin .mul (.str "z") (.bin .sub (.var 3) (.int 1))))
noncomputable abbrev mdS:E:=(.bin .add (.int 1) (.bin .mul (.bin .mod (.ix (.var 0) (.int 1)) (.int 2)) (.bin .mod (.bin .fdiv (.ix (.var 0) (.int 1)) (.int 2)) (.int 8))))
noncomputable abbrev mdP:E:=(.blt .list (n1 (.call 12 (n4 (.var 4) (.call 13 (n1 (.var 0))) (.var 1) (.var 0)))))
noncomputable abbrev mdA:S:=(.iff (.cmp .eq (.var 6) (.int 1)) (t1 (.stx (.var 5) (.int 0) (.ix (.lst (n4 (.str "") (.str "zzzzzzzzz") (.str "aB") (.str "B"))) (.bin .mod (.bin .fdiv (.ix (.var 0) (.int 2)) (.int 18)) (.int 4))))) .nil)
noncomputable abbrev mdC:S:=(.iff (.or (.cmp .eq (.var 6) (.int 2)) (.cmp .eq (.var 6) (.int 3))) (t1 (.stx (.var 5) (.bin .add (.bin .sub (.var 6) (.int 1)) (.bin .fdiv (.var 6) (.int 3))) (.ix (.lst (n2 (.int 9) (.int 0))) (.bin .sub (.var 6) (.int 2))))) .nil)
noncomputable abbrev mdB:Ss:=(.cons (.asg (.nm 2) (.str "abcdefghijklmnopqrstuvwxyz")) (.cons (.asg (.nm 3) mdS) (.cons (.asg (.nm 4) mdN) (t5 (.asg (.nm 5) mdP) (.asg (.nm 6) (.bin .mod (.ix (.var 0) (.int 2)) (.int 18))) mdA mdC (.ret (.var 5))))))
def Mad(cl:Cl)(f:Nat):Prop:=∀(h:Hh)(dr hv:Nat)(row:List Int)(S:List bU),Row h dr row->row.length=12->aI h hv=some (S.map s3)->Hev S->∃h' q x w t l U,cl f [.ref dr,.ref hv] h=.ok (.ref q) h'/\Kp h h'/\h.length<=q/\h'[q]? =some (.lst (kI x w t l U))/\Mde x w t l U
theorem MP(h12:Pan cl 12)(h13:Hom cl 13){h:Hh}{dr hv:Nat}{row:List Int}{S:List bU}(Q:Row h dr row)(hr:row.length=12)(hS:aI h hv=some (S.map s3))(HS:Hev S):
 ∃h' q x w t l U,(bR G cl W mdB [some (.ref dr),some (.ref hv),none,none,none,none,none] h).bind cK=.ok (.ref q) h'/\Kp h h'/\h.length<=q/\h'[q]? =some (.lst (kI x w t l U))/\Mde x w t l U:=by
 obtain⟨a1,b1⟩:=Q.rng 1 (by omega);obtain⟨a2,b2⟩:=Q.rng 2 (by omega);have ix:∀(j:Nat)(hj:j<12){h':Hh}(kp:Kp h h')(l:Ev),ev G cl (.ix (.var 0) (.int j)) (some (.ref dr)::l) h'=.ok (.int (Row.R row j)) h':=λj hj h' kp l=>cI rfl (aG _ _ _ _ j) (Q.ix kp j (by omega));have x1:∀{h':Hh}(kp:Kp h h')(l:Ev),ev G cl (.ix (.var 0) (.int 1)) (some (.ref dr)::l) h'=.ok (.int (Row.R row 1)) h':=λkp l=>ix 1 (by decide) kp l;have x2:∀{h':Hh}(kp:Kp h h')(l:Ev),ev G cl (.ix (.var 0) (.int 2)) (some (.ref dr)::l) h'=.ok (.int (Row.R row 2)) h':=λkp l=>ix 2 (by decide) kp l;generalize Row.R row 1=v1 at*;generalize Row.R row 2=v2 at*
 obtain⟨k,hk,hk8⟩:∃k:Nat,v1%2*(v1/2%8)=(k:Int)/\k<8:=by
  have z0:0<=v1/2%8:=Int.emod_nonneg _ (by decide);have z1:v1/2%8<8:=Int.emod_lt_of_pos _ (by decide)
  rcases(by omega:v1%2=0\/v1%2=1) with z|z
  ·exact⟨0,by rw[z];simp,by decide⟩
  ·exact⟨(v1/2%8).toNat,by rw[z];omega,by omega⟩
 obtain⟨j,hj,hj8⟩:∃j:Nat,v1/16%18=(j:Int)/\j<18:=⟨(v1/16%18).toNat,by omega,by omega⟩
 have e3:ev G cl mdS [some (.ref dr),some (.ref hv),some (.str abc),none,none,none,none] h=.ok (.int (1+(k:Int))) h:=by
  have m:=wT (i:=v1%2) (j:=v1/2%8) h (by omega) (by omega);rw[hk] at m;exact aN (aG ..) (aN (aN (x1 (Kp.refl _) _) (aG ..) (md (by omega) ..)) (aN (aN (x1 (Kp.refl _) _) (aG ..) (dv (by omega) (by omega) ..)) (aG ..) (md (by omega) ..)) m) (jG ..)
 have e4:ev G cl mdN [some (.ref dr),some (.ref hv),some (.str abc),some (.int (1+(k:Int))),none,none,none] h=.ok (.str (hV j k)) h:=by
  have i4:=aN (G:=G) (cl:=cl) (aN (x1 (Kp.refl _) [some (.ref hv),some (.str abc),some (.int (1+(k:Int))),none,none,none]) (aG _ _ _ _ 16) (dv (by omega) (by omega) ..)) (aG _ _ _ _ 18) (md (by omega) ..);rw[hj] at i4;have i5:=aN (G:=G) (cl:=cl) (r:= [some (.ref dr),some (.ref hv),some (.str abc),some (.int (1+(k:Int))),none,none,none]) (h:=h) (aY (i:=3) rfl) (aG _ _ _ _ 1) (sR ..);rw[show(1:Int)+k-1=k by omega] at i5
  have ml:cQ .mul (.str "z") (.int (k:Int)) h=.ok (.str (Txt.mul "z" (k:Int))) h:=by
   show(if _ then _ else _)=_
   rw[if_pos ⟨by omega,by omega,by decide⟩]
  have sm:∀i:Fin 8,Nat.ble (Txt.mul "z" (i.1:Int)).length 100=true:=by decide+kernel
  have:(Txt.mul "z" (k:Int)).length<=100:=Nat.le_of_ble_eq_true (sm ⟨k,hk8⟩);exact aN (cI (i:=2) rfl i4 (OM (by omega) (by omega) _)) (aN (dS ..) i5 ml) (UF _ (by show 1+_<=_;omega))
 obtain⟨m,hm,c13⟩:=h13 h dr row Q hr;obtain⟨h5,w,t,l,U,c12,k5,gd,sr⟩:=h12 h (hV j k) m hv dr S row hm hS HS Q hr
 have e5:ev G cl mdP [some (.ref dr),some (.ref hv),some (.str abc),some (.int (1+(k:Int))),some (.str (hV j k)),none,none] h=.ok (.ref h5.length) (h5++ [.lst (kI (hV j k) w t l U)]):=
  dU (dB (gU (NO (aY (i:=4) rfl) (SV (i:=0) rfl c13) (aY (i:=1) rfl) (aY (i:=0) rfl)) c12)) rfl
 have l5:=k5.len;have k6:Kp h (h5++ [.lst (kI (hV j k) w t l U)]):=k5.trans (Kp.app _ _);have q6:(h5++ [.lst (kI (hV j k) w t l U)])[h5.length]? =some (.lst (kI (hV j k) w t l U)):=bK ..;have nj:=MO ⟨j,hj8⟩ ⟨k,hk8⟩;simp only[Bool.and_eq_true,Bool.not_eq_true'] at nj;obtain⟨⟨nn1,nn2⟩,nn3⟩:=nj;have nn3:=Nat.le_of_ble_eq_true nn3;have M0:Mde (hV j k) w t l U:=⟨by rw[nn1,nn2];rfl,nn3,gd.len,λz=>by have:=gd.hw;have:=gd.hl;simp at z;omega,λ_=>gd,sr⟩;rw[aF (r':= [some (.ref dr),some (.ref hv),some (.str abc),none,none,none,none]) (h':=h) (bF (dS ..)),aF (r':= [some (.ref dr),some (.ref hv),some (.str abc),some (.int (1+(k:Int))),none,none,none]) (h':=h) (bF e3),aF (r':= [some (.ref dr),some (.ref hv),some (.str abc),some (.int (1+(k:Int))),some (.str (hV j k)),none,none]) (h':=h) (bF e4),aF (r':= [some (.ref dr),some (.ref hv),some (.str abc),some (.int (1+(k:Int))),some (.str (hV j k)),some (.ref h5.length),none]) (bF e5)];generalize h5++ [.lst (kI (hV j k) w t l U)]=h6 at k6 q6;generalize h5.length=q at q6 l5;rw[aF (r':= [some (.ref dr),some (.ref hv),some (.str abc),some (.int (1+(k:Int))),some (.str (hV j k)),some (.ref q),some (.int (v2%18))]) (h':=h6) (bF (aN (x2 k6 _) (aG ..) (md (by omega) ..)))];have c0:∀(i:Int)(h':Hh),ev G cl (.cmp .eq (.var 6) (.int i)) [some (.ref dr),some (.ref hv),some (.str abc),some (.int (1+(k:Int))),some (.str (hV j k)),some (.ref q),some (.int (v2%18))] h'=.ok (.bl (decide (v2%18=i))) h':=λi h'=>bA (aY (i:=6) rfl) (aG ..) (DN ..);have rt:∀(h':Hh),xs G cl W (.ret (.var 5)) [some (.ref dr),some (.ref hv),some (.str abc),some (.int (1+(k:Int))),some (.str (hV j k)),some (.ref q),some (.int (v2%18))] h'=.ok (.rt (.ref q)) h':=λh'=>cF (aY rfl);have c23:∀h',ev G cl (.or (.cmp .eq (.var 6) (.int 2)) (.cmp .eq (.var 6) (.int 3))) [some (.ref dr),some (.ref hv),some (.str abc),some (.int (1+(k:Int))),some (.str (hV j k)),some (.ref q),some (.int (v2%18))] h'=.ok (.bl (decide (v2%18=2)||decide (v2%18=3))) h':=λh'=>wB (c0 2 h') (c0 3 h')
 by_cases w1:v2%18=1
 ·-- a name that is none
  have cA:=c0 1 h6;rw[decide_eq_true w1] at cA
  obtain⟨x,hx,eA⟩:∃x,x∈ [("":Str),"zzzzzzzzz","aB","B"]/\ev G cl (.ix (.lst (n4 (.str "") (.str "zzzzzzzzz") (.str "aB") (.str "B"))) (.bin .mod (.bin .fdiv (.ix (.var 0) (.int 2)) (.int 18)) (.int 4))) [some (.ref dr),some (.ref hv),some (.str abc),some (.int (1+(k:Int))),some (.str (hV j k)),some (.ref q),some (.int (v2%18))] h6=.ok (.str x) (h6++ [.lst [.str "",.str "zzzzzzzzz",.str "aB",.str "B"]]):=by
   have el:=eG (G:=G) (cl:=cl) (r:= [some (.ref dr),some (.ref hv),some (.str abc),some (.int (1+(k:Int))),some (.str (hV j k)),some (.ref q),some (.int (v2%18))]) (h:=h6) (NO (dS _ _ _ _ "") (dS _ _ _ _ "zzzzzzzzz") (dS _ _ _ _ "aB") (dS _ _ _ _ "B")) (dC rfl);have ei:=aN (G:=G) (cl:=cl) (aN (x2 (k6.trans (Kp.app h6 [.lst [.str "",.str "zzzzzzzzz",.str "aB",.str "B"]])) [some (.ref hv),some (.str abc),some (.int (1+(k:Int))),some (.str (hV j k)),some (.ref q),some (.int (v2%18))]) (aG _ _ _ _ 18) (dv (by omega) (by omega) ..)) (aG _ _ _ _ 4) (md (by omega) ..)
   have go:∀(i:Int)(x:Str),v2/18%4=i->lM [D.str "",.str "zzzzzzzzz",.str "aB",.str "B"] i=some (.str x)->ev G cl (.ix (.lst (n4 (.str "") (.str "zzzzzzzzz") (.str "aB") (.str "B"))) (.bin .mod (.bin .fdiv (.ix (.var 0) (.int 2)) (.int 18)) (.int 4))) [some (.ref dr),some (.ref hv),some (.str abc),some (.int (1+(k:Int))),some (.str (hV j k)),some (.ref q),some (.int (v2%18))] h6=.ok (.str x) (h6++ [.lst [.str "",.str "zzzzzzzzz",.str "aB",.str "B"]]):=λi x hi q=>by
    rw[hi] at ei;rw[uD,el,aC,ei,aC,iW _ _ (aX ..),q]
   rcases(by omega:v2/18%4=0\/v2/18%4=1\/v2/18%4=2\/v2/18%4=3) with z|z|z|z
   ·exact⟨"",by simp,go 0 _ z rfl⟩
   ·exact⟨"zzzzzzzzz",by simp,go 1 _ z rfl⟩
   ·exact⟨"aB",by simp,go 2 _ z rfl⟩
   ·exact⟨"B",by simp,go 3 _ z rfl⟩
  have qa:=Kp.app h6 [.lst [.str "",.str "zzzzzzzzz",.str "aB",.str "B"]] _ _ q6;have sA:=zM (G:=G) (cl:=cl) (W:=W) (o:=5) (i:=.int 0) eA rfl (aG _ _ _ _ 0) qa (j:=0) rfl;rw[show(kI (hV j k) w t l U).set 0 (D.str x)=kI x w t l U from rfl] at sA;have k7:=(k6.trans (Kp.app h6 [.lst [.str "",.str "zzzzzzzzz",.str "aB",.str "B"]])).set (.lst (kI x w t l U)) l5;have q7:((h6++ [O.lst [.str "",.str "zzzzzzzzz",.str "aB",.str "B"]]).set q (.lst (kI x w t l U)))[q]? =some (.lst (kI x w t l U)):=dI qa;have b4:=ZM x hx;simp only[Bool.and_eq_true,Bool.not_eq_true'] at b4;obtain⟨⟨m1,m2⟩,m3⟩:=b4;refine⟨_,q,x,w,t,l,U,?_,k7,l5,q7,by rw[m1,m2];rfl,Nat.le_of_ble_eq_true m3,M0.ul,M0.bad,M0.good,sr⟩;have cC:=c23 ((h6++ [O.lst [.str "",.str "zzzzzzzzz",.str "aB",.str "B"]]).set q (.lst (kI x w t l U)));rw[show(decide (v2%18=2)||decide (v2%18=3))=false by rw[w1];rfl] at cC;rw[aF (by rw[cT cA,aF sA,aP]),aF (by rw[bV cC,aP]),bY (rt _)];rfl
 ·have cA:=c0 1 h6;rw[decide_eq_false w1] at cA;rw[aF (by rw[bV cA,aP])]
  by_cases w2:v2%18=2\/v2%18=3
  ·have cC:=c23 h6;rw[show(decide (v2%18=2)||decide (v2%18=3))=true by rcases w2 with z|z<;>rw[z]<;>rfl] at cC;have el:=eG (G:=G) (cl:=cl) (r:= [some (.ref dr),some (.ref hv),some (.str abc),some (.int (1+(k:Int))),some (.str (hV j k)),some (.ref q),some (.int (v2%18))]) (h:=h6) (gT (aG _ _ _ _ 9) (aG _ _ _ _ 0)) (dC rfl);have ei:=aN (G:=G) (cl:=cl) (r:= [some (.ref dr),some (.ref hv),some (.str abc),some (.int (1+(k:Int))),some (.str (hV j k)),some (.ref q),some (.int (v2%18))]) (h:=h6++ [.lst [.int 9,.int 0]]) (aY (i:=6) rfl) (aG _ _ _ _ 2) (sR ..);have eo:=aN (G:=G) (cl:=cl) (r:= [some (.ref dr),some (.ref hv),some (.str abc),some (.int (1+(k:Int))),some (.str (hV j k)),some (.ref q),some (.int (v2%18))]) (h:=h6++ [.lst [.int 9,.int 0]]) (aN (aY (i:=6) rfl) (aG _ _ _ _ 1) (sR ..)) (aN (aY (i:=6) rfl) (aG _ _ _ _ 3) (dv (by omega) (by omega) ..)) (jG ..);have qa:=Kp.app h6 [.lst [.int 9,.int 0]] _ _ q6
   have go:∀(L':List D)(i o:Int)(z:D)(j':Nat),v2%18-2=i->v2%18-1+v2%18/3=o->lM [D.int 9,.int 0] i=some z->yT 5 o=some j'->(kI (hV j k) w t l U).set j' z=L'->(bR G cl W (.cons mdC (t1 (.ret (.var 5)))) [some (.ref dr),some (.ref hv),some (.str abc),some (.int (1+(k:Int))),some (.str (hV j k)),some (.ref q),some (.int (v2%18))] h6).bind cK=.ok (.ref q) ((h6++ [O.lst [.int 9,.int 0]]).set q (.lst L')):=λL' i o z j' hi ho q1 q2 hL=>by
    rw[hi] at ei;rw[ho] at eo
    have e9:ev G cl (.ix (.lst (n2 (.int 9) (.int 0))) (.bin .sub (.var 6) (.int 2))) [some (.ref dr),some (.ref hv),some (.str abc),some (.int (1+(k:Int))),some (.str (hV j k)),some (.ref q),some (.int (v2%18))] h6=.ok z (h6++ [.lst [.int 9,.int 0]]):=by
     rw[uD,el,aC,ei,aC,iW _ _ (aX ..),q1]
    have sC:=zM (G:=G) (cl:=cl) (W:=W) (o:=5) e9 rfl eo qa (j:=j') q2;rw[hL] at sC;rw[aF (by rw[cT cC,aF sC,aP]),bY (rt _)];rfl
   rcases w2 with z|z
   ·refine⟨_,q,hV j k,9,t,l,U,go (kI (hV j k) 9 t l U) 0 1 (.int 9) 1 (by omega) (by omega) rfl rfl rfl,(k6.trans (Kp.app h6 [.lst [.int 9,.int 0]])).set _ l5,l5,dI qa,M0.nm,nn3,M0.ul,λ_=>rfl,λz=>?_,sr⟩;cases z
   ·refine⟨_,q,hV j k,w,t,0,U,go (kI (hV j k) w t 0 U) 1 3 (.int 0) 3 (by omega) (by omega) rfl rfl rfl,(k6.trans (Kp.app h6 [.lst [.int 9,.int 0]])).set _ l5,l5,dI qa,M0.nm,nn3,M0.ul,λ_=>?_,λz=>?_,sr⟩
    ·unfold qP;simp
    ·simp at z
  ·have cC:=c23 h6;rw[show(decide (v2%18=2)||decide (v2%18=3))=false by simpa using w2] at cC;refine⟨h6,q,hV j k,w,t,l,U,?_,k6,l5,q6,M0⟩;rw[aF (by rw[bV cC,aP]),bY (rt _)];rfl
end
theorem QE(l:List Str)(nd:l.Nodup)(hl:l.length<=50):∃u:List Str,u.length=l.length/\gK (l.map D.str)=some (u.map D.str):=by
 let le:Str->Str->Bool:=λa b=>decide (a.cps.toList<=b.cps.toList)
 have p:(l.mergeSort le).Perm l:=List.mergeSort_perm l _
 have s:(l.mergeSort le).Pairwise (λa b=>le a b=true):=List.pairwise_mergeSort (le:=le) (λa b c h1 h2=>decide_eq_true (List.le_trans (of_decide_eq_true h1) (of_decide_eq_true h2))) (λa b=>by
  rcases List.le_total a.cps.toList b.cps.toList with z|z
  ·rw[show le a b=true from decide_eq_true z];rfl
  ·rw[show le b a=true from decide_eq_true z];simp) l
 have nd':(l.mergeSort le).Nodup:=p.nodup_iff.mpr nd;refine⟨l.mergeSort le,p.length_eq,pJ ⟨by rw[Zc];omega,.inr ⟨2,by decide,λx hx=>?_⟩⟩ (p.map _) ?_⟩
 ·obtain⟨r,_,rfl⟩:=List.mem_map.mp hx;rfl
 ·rw[List.pairwise_map];refine List.Pairwise.imp (λ{a b} ⟨h1,h2⟩=>?_) (s.and nd')
  have lt:a.cps.toList<b.cps.toList:=by
   rcases List.le_iff_lt_or_eq.mp (of_decide_eq_true h1) with z|z
   ·exact z
   ·refine absurd ?_ h2;cases a;cases b;exact congrArg Str.mk (Array.toList_inj.mp z)
  refine⟨?_,?_⟩
  ·show some (decide _)=_;rw[decide_eq_true lt]
  ·show some (decide _)=_;rw[decide_eq_false (List.lt_asymm lt)]
theorem GA{w t l:Int}{U:List bU}(g:Good w t l U):¬iO w t l U.reverse:=by
 rintro(b|b|b|b)
 ·have h1:=g.hw;have h2:=g.ht;have h3:=g.hl;unfold qP at b;rw[decide_eq_true h1.1,decide_eq_true h1.2,decide_eq_true h2.1,decide_eq_true h2.2,decide_eq_true h3.1,decide_eq_true h3.2] at b;cases b
 ·rw[List.length_reverse] at b;have:=g.len;omega
 ·exact b (List.pairwise_reverse.mpr (g.up.imp λh=>npS.symm h))
 ·have:U.reverse.all (EM w t l)=true:=List.all_eq_true.mpr λs hs=>by
   obtain⟨a,c,d⟩:=g.st s (List.mem_reverse.mp hs);unfold EM;rw[a,decide_eq_true c,decide_eq_true d];rfl
  rw[this] at b;cases b
theorem NU{x:Str}{w t l:Int}{U:List bU}(M:Mde x w t l U){L L':En}(e:L'.map Prod.fst=L.map Prod.fst){c:Nat}{m:Str}(y:Why x w t l U.reverse L c m):dY x w l L'=m/\m≠"let":=by
 have nm:=M.nm;have le:L'.length=L.length:=by have:=congrArg List.length e;simpa using this
 have nb:∀{b},¬iO w t l U.reverse->(decide (8<w)||decide (l<1))=b->b=false:=λ{b} h q=>by
  cases b with
  |false=>rfl
  |true=>exact absurd (.inl (M.bad q)) h
 unfold dY;rw[e,le];cases y with
 |name a=>
  rw[a] at nm;exact⟨by rw[if_pos (by simpa using nm.symm)],by decide⟩
 |plate a b=>
  rw[a] at nm;refine⟨?_,by decide⟩;rw[if_neg (by simpa using nm.symm)];cases q:(decide (8<w)||decide (l<1)) with
  |true=>rw[if_pos rfl]
  |false=>exact absurd b (GA (M.good q))
 |taken a b c=>
  rw[a] at nm;exact⟨by rw[if_neg (by simpa using nm.symm),nb b rfl,if_neg Bool.false_ne_true,if_pos c],by decide⟩
 |full a b c d=>
  rw[a] at nm;exact⟨by rw[if_neg (by simpa using nm.symm),nb b rfl,if_neg Bool.false_ne_true,if_neg c,if_pos d],by decide⟩
theorem GI{x:Str}{w t l:Int}{U:List bU}(M:Mde x w t l U){L L':En}(e:L'.map Prod.fst=L.map Prod.fst)(a:rP x=true)(b:¬iO w t l U.reverse)(c:x ∉ L.map Prod.fst)(d:L.length<12):dY x w l L'="let"/\Good w t l U:=by
 have nm:=M.nm;have le:L'.length=L.length:=by have:=congrArg List.length e;simpa using this
 rw[a] at nm;unfold dY;rw[e,le];cases q:(decide (8<w)||decide (l<1)) with
 |true=>exact absurd (.inl (M.bad q)) b
 |false=>exact⟨by rw[if_neg (by simpa using nm.symm),if_neg Bool.false_ne_true,if_neg c,if_neg (by omega)],M.good q⟩
structure Pq where
 nm:Str
 w:Int
 t:Int
 l:Int
 U:List bU
 pi:Nat
 qi:Nat
noncomputable def Pq.pe(e:Pq):Str×Nat:=(e.nm,e.pi)
noncomputable def Pq.qe(e:Pq):Str×Nat:=(e.nm,e.qi)
structure Pq.At (h:Hh)(e:Pq):Prop where
 p:PlateAt h e.pi e.nm e.w e.t e.l e.U.reverse
 q:h[e.qi]? =some (.lst (kI e.nm e.w e.t e.l e.U))
 nn8:8<=e.qi
 g:Good e.w e.t e.l e.U
 s:(e.U.map s3).Pairwise (Bef kM)
theorem Pq.At.kp{h h':Hh}{e:Pq}(A:e.At h)(k:Kp h h'):e.At h':=⟨A.p.kp k,k _ _ A.q,A.nn8,A.g,A.s⟩
theorem Pq.At.kd{h h':Hh}{e:Pq}(A:e.At h){L:En}{n:Nat}(B:BkAt h L n)(k:Kd h h'):e.At h':=⟨A.p.kd B k,k _ _ (by have:=A.nn8;omega) (by have:=A.nn8;omega) (.inr nofun) A.q,A.nn8,A.g,A.s⟩
theorem kQ(P:List Pq):(P.map Pq.pe).map Prod.fst=P.map Pq.nm:=by rw[List.map_map];rfl
theorem qC(P:List Pq):(P.map Pq.qe).map Prod.fst=P.map Pq.nm:=by rw[List.map_map];rfl
structure Iv (ns:List Int)(hv:Nat)(S:List bU)(i:Nat)(h:Hh)(P:List Pq):Prop where
 B:BkAt h (P.map Pq.pe) i
 q:h[7]? =some (.dct (dk (P.map Pq.qe)))
 nd:(P.map Pq.nm).Nodup
 len:P.length<=12
 each:∀e∈P,e.At h
 sc:aI h 0=some (ns.map D.int)
 hs:aI h hv=some (S.map s3)
 h8:8<=h.length
theorem Iv.kp{ns:List Int}{hv:Nat}{S:List bU}{i:Nat}{h h':Hh}{P:List Pq}(I:Iv ns hv S i h P)(k:Kp h h'):Iv ns hv S i h' P:=⟨I.B.kp k,k _ _ I.q,I.nd,I.len,λe he=>(I.each e he).kp k,k.lst I.sc,k.lst I.hs,Nat.le_trans I.h8 k.len⟩
theorem Kd.lst{h h':Hh}(k:Kd h h'){n:Nat}{l:List D}(e:aI h n=some l)(a:n≠1)(b:n≠5):aI h' n=some l:=by
 unfold aI at e⊢;cases q:h[n]? with
 |none=>rw[q] at e;cases e
 |some o=>
  rw[q] at e;rw[k n o a b (.inr λl z=>by subst z;cases e) q];exact e
theorem GP(L:En)(x:Str):(dk L).filter (λkv=>decide (kv.1≠ .inr x))=dk (L.filter λe=>decide (e.1≠x)):=by
 unfold dk;rw[List.filter_map];congr 1;refine List.filter_congr λe _=>?_
 simp
section
variable {G:Gs}{cl:Cl}{W:Nat}
theorem SK{a:E}{n:Nat}{l:List D}{r:Ev}{h h1:Hh}(ha:ev G cl a r h=.ok (.ref n) h1)(e:aI h1 n=some l):ev G cl (.rvs a) r h=.ok (.ref h1.length) (h1++ [.lst l.reverse]):=by
 have e0:ev G cl (.rvs a) r h=(ev G cl a r h).bind λx h=>ER x h:=by rw[ev]<;>rfl
 rw[e0,ha,aC];have e1:cO (.ref n) h1=true:=by rw[fE,e];rfl
 unfold ER;rw[e1,jO,e]
theorem JR{a:E}{l:List D}{r:Ev}{h h1:Hh}(ha:ev G cl a r h=.ok (.tup l) h1):ev G cl (.blt .list (.cons a .nil)) r h=.ok (.ref h1.length) (h1++ [.lst l]):=dU (dB ha) rfl
theorem SL{i n:Nat}{k:E}{x:Str}{L:En}{r:Ev}{h:Hh}(hr:r[i]? =some (some (.ref n)))(hk:ev G cl k r h=.ok (.str x) h)(e:h[n]? =some (.dct (dk L)))(hx:x∈L.map Prod.fst):∃v,ev G cl (.pop (.var i) k) r h=.ok v (h.set n (.dct (dk (L.filter λe=>decide (e.1≠x))))):=by
 have e0:ev G cl (.pop (.var i) k) r h=(ev G cl (.var i) r h).bind λx h=>if(bW h x).isSome=true then(ev G cl k r h).bind λy h=>AH x y h else .bad:=by rw[ev]<;>rfl
 have s:=jL x L;rw[decide_eq_true hx] at s;obtain⟨v,hv⟩:=Option.isSome_iff_exists.mp s;have e1:bW h (.ref n)=some (dk L):=by simp only[bW,e]
 refine⟨v,?_⟩;rw[e0,aY hr,aC,if_pos (by rw[e1];rfl),hk,aC];simp only[AH,e,mW,hv,GP]
theorem SJ{a:E}{n:Nat}{l:List D}{r:Ev}{h h1:Hh}(ha:ev G cl a r h=.ok (.ref n) h1)(e:aI h1 n=some l)(hl:4<=l.length):ev G cl (.slB a (.int 1) (.int 4)) r h=.ok (.ref h1.length) (h1++ [.lst ((l.take 4).drop 1)]):=by
 have e0:ev G cl (.slB a (.int 1) (.int 4)) r h=(ev G cl a r h).bind λx h=>(ev G cl (.int 1) r h).bind λy h=>(ev G cl (.int 4) r h).bind λz h=>EK x y z h:=by rw[ev]<;>rfl
 rw[e0,ha,aC,aG,aC,aG,aC];have e1:cO (.ref n) h1=true:=by rw[fE,e];rfl
 unfold EK;rw[e1,jO,e]
 show(if 0<=(1:Int)/\(1:Int)<=4/\(4:Int)<=l.length then _ else _)=_
 rw[if_pos ⟨by decide,by decide,by omega⟩];rfl
theorem YI(S:List bU):nZ (iK 20) (S.map s3) (S.map s3)=some true:=by
 induction S with
 |nil=>rfl
 |cons s S ih=>
  rw[Zh,NS,ih]
  have:iK 20 (s3 s) (s3 s)=some true:=by
   show nZ (iK 19) [.int s.1,.int s.2.1,.int s.2.2] [.int s.1,.int s.2.1,.int s.2.2]=_
   simp
  rw[this];rfl
theorem TX{h:Hh}{a b:Nat}{S:List bU}(ea:aI h a=some (S.map s3))(eb:aI h b=some (S.map s3)):cG .ne (.ref a) (.ref b) h=.ok (.bl false) h:=by
 have:CH (.ref a) (.ref b) h=some true:=by
  unfold CH;simp only[ea,eb,if_true,YI]
 unfold cG;simp only[this];rfl
noncomputable def cY(hv:Nat)(d4 d5 d6 d7 d8 d9 d10:Option D):Ev:= [some (.ref 0),some (.ref 1),some (.ref 7),some (.ref hv),d4,d5,d6,d7,d8,d9,d10]
noncomputable abbrev lwN:Ss:=(t3 (.asg (.nm 9) (.mth (.var 1) "Book" "names" 27 .nil)) (.iff (.not (.call 10 (n2 (.var 9) (.sdk (.var 2))))) (t1 (.ret (.bl false))) .nil) (.ex (.app (.var 9) (.str "zz"))))
theorem FJ(h10:C7 cl 10)(h27:OY cl 27){ns:List Int}{hv:Nat}{S:List bU}{i:Nat}{h:Hh}{P:List Pq}(I:Iv ns hv S i h P)(d4 d5 d6 d7 d8 d9 d10:Option D):
 ∃h' d9',bR G cl W lwN (cY hv d4 d5 d6 d7 d8 d9 d10) h=.ok (.nx (cY hv d4 d5 d6 d7 d8 d9' d10)) h'/\Kp h h':=by
 obtain⟨u,ul,eu⟩:=QE (P.map Pq.nm) I.nd (by rw[Zc];have:=I.len;omega);have c:=h27 h _ i _ I.B (by rw[kQ];exact eu);obtain⟨pg,fu,pl,st,Z,B⟩:=id I.B;have k1:Kp h (h++ [.lst (u.map D.str)]):=Kp.app _ _;have e1:=bF (G:=G) (cl:=cl) (W:=W) (i:=9) (fY (G:=G) (cl:=cl) (i:=1) (f:=27) (m:="names") (r:=cY hv d4 d5 d6 d7 d8 d9 d10) rfl B.b rfl (bZ ..) c);have e2:=JN (G:=G) (cl:=cl) (a:=.var 2) (r:=cY hv d4 d5 d6 d7 d8 (some (.ref h.length)) d10) (h:=h++ [.lst (u.map D.str)]) (aY rfl) (k1 _ _ I.q) (by rw[qC];exact eu);have k2:=Kp.app (h++ [.lst (u.map D.str)]) [.lst (u.map D.str)];have g1:=k2 _ _ (bK h (.lst (u.map D.str)))
 have sm:=h10 h.length (h++ [O.lst (u.map D.str)]).length (u.map D.str) (h++ [O.lst (u.map D.str)]++ [.lst (u.map D.str)]) (bD g1) (aX ..) (by rw[Zc,ul,Zc];have:=I.len;omega) (by
  rw[List.all_map];exact List.all_eq_true.mpr λ_ _=>rfl)
 have e3:=kS (gU (f:=10) (gT (aY (i:=9) rfl) e2) sm);have e4:=sF (G:=G) (cl:=cl) (W:=W) (i:=9) (e:=.str "zz") (r:=cY hv d4 d5 d6 d7 d8 (some (.ref h.length)) d10) rfl (dS ..) g1 (by rw[Zc,ul,Zc];have:=I.len;omega);refine⟨_,some (.ref h.length),?_,(k1.trans k2).set (.lst (u.map D.str++ [.str "zz"])) (Zn _)⟩;rw[aF e1,aF (r':=cY hv d4 d5 d6 d7 d8 (some (.ref h.length)) d10) (by rw[show(cY hv d4 d5 d6 d7 d8 d9 d10).set 9 (some (D.ref h.length))=cY hv d4 d5 d6 d7 d8 (some (.ref h.length)) d10 from rfl,bV e3,aP]),aF e4,aP]
end
section
variable {G:Gs}{cl:Cl}{W:Nat}
noncomputable abbrev lwD:Ss:=(t2 (.ex (.pop (.var 2) (.ix (.var 6) (.int 0)))) (.iff (.cmp .isnot (.mth (.var 1) "Book" "drop" 26 (n1 (.ix (.var 6) (.int 0)))) .non) (t1 (.ret (.bl false))) .nil))
theorem Iv.ne7{ns:List Int}{hv:Nat}{S:List bU}{i:Nat}{h:Hh}{P:List Pq}(I:Iv ns hv S i h P){n:Nat}{l:List D}(e:aI h n=some l):n≠7:=λz=>by
 subst z;unfold aI at e;rw[I.q] at e;cases e
theorem PlateAt.set7{h:Hh}{p:Nat}{nm:Str}{w t l:Int}{S:List bU}{L:List (bQ×D)}{o:O}(P:PlateAt h p nm w t l S)(e:h[7]? =some (.dct L)):PlateAt (h.set 7 o) p nm w t l S:=by
 obtain⟨k,e1,e2⟩:=P;exact⟨k,by rw[List.getElem?_set_ne (eI e e1 nofun)];exact e1,by rw[List.getElem?_set_ne (eI e e2 nofun)];exact e2⟩
theorem Pq.At.set7{h:Hh}{e:Pq}{L:List (bQ×D)}{o:O}(A:e.At h)(q:h[7]? =some (.dct L)):e.At (h.set 7 o):=⟨A.p.set7 q,by rw[List.getElem?_set_ne (eI q A.q nofun)];exact A.q,A.nn8,A.g,A.s⟩
theorem yC(h26:D8 cl 26){ns:List Int}{hv:Nat}{S:List bU}{i:Nat}{h:Hh}{P:List Pq}(I:Iv ns hv S i h P)(hi:i<=100)(hv8:8<=hv){q:Nat}{x:Str}{w t l:Int}{U:List bU}(eq:h[q]? =some (.lst (kI x w t l U)))(hx:x∈P.map Pq.nm)(d4 d5 d7 d8 d9 d10:Option D):
 ∃h' P',bR G cl W lwD (cY hv d4 d5 (some (.ref q)) d7 d8 d9 d10) h=.ok (.nx (cY hv d4 d5 (some (.ref q)) d7 d8 d9 d10)) h'/\Iv ns hv S (i+1) h' P':=by
 have i0:∀{h':Hh},h'[q]? =some (.lst (kI x w t l U))->ev G cl (.ix (.var 6) (.int 0)) (cY hv d4 d5 (some (.ref q)) d7 d8 d9 d10) h'=.ok (.str x) h':=λe=>cI (i:=6) rfl (aG _ _ _ _ 0) (LR e).1;obtain⟨v,e1⟩:=SL (G:=G) (cl:=cl) (i:=2) (r:=cY hv d4 d5 (some (.ref q)) d7 d8 d9 d10) rfl (i0 eq) I.q (by rw[qC];exact hx);have B1:=I.B.set7 (o:=.dct (dk ((P.map Pq.qe).filter λe=>decide (e.1≠x)))) I.q;have q1:(h.set 7 (.dct (dk ((P.map Pq.qe).filter λe=>decide (e.1≠x)))))[q]? =some (.lst (kI x w t l U)):=by rw[List.getElem?_set_ne (eI I.q eq nofun)];exact eq
 have d1:(h.set 7 (.dct (dk ((P.map Pq.qe).filter λe=>decide (e.1≠x)))))[7]? =some (.dct (dk ((P.map Pq.qe).filter λe=>decide (e.1≠x)))):=dI I.q;have A1:∀e∈P,e.At (h.set 7 (.dct (dk ((P.map Pq.qe).filter λe=>decide (e.1≠x))))):=λe he=>(I.each e he).set7 I.q;have s1:=eW (o:=.dct (dk ((P.map Pq.qe).filter λe=>decide (e.1≠x)))) I.sc (I.ne7 I.sc).symm;have v1:=eW (o:=.dct (dk ((P.map Pq.qe).filter λe=>decide (e.1≠x)))) I.hs (I.ne7 I.hs).symm;have l1:8<=(h.set 7 (.dct (dk ((P.map Pq.qe).filter λe=>decide (e.1≠x))))).length:=by rw[List.length_set];exact I.h8
 generalize h.set 7 (.dct (dk ((P.map Pq.qe).filter λe=>decide (e.1≠x))))=h1 at*;obtain⟨h2,c2,k2,B2⟩:=h26 h1 _ i x B1 l1 (by omega) (by rw[kQ];exact hx) (by rw[kQ];exact I.nd) (by rw[Zc];have:=I.len;omega);obtain⟨pg,fu,pl,st,Z,B⟩:=id B1;have e2:ev G cl (.cmp .isnot (.mth (.var 1) "Book" "drop" 26 (n1 (.ix (.var 6) (.int 0)))) .non) (cY hv d4 d5 (some (.ref q)) d7 d8 d9 d10) h1=.ok (.bl false) h2:=bA (fY (i:=1) (f:=26) (m:="drop") rfl B.b rfl (dB (i0 q1)) c2) (JO ..) (TZ ..)
 have fq:∀f:Pq->Str×Nat,(∀e,(f e).1=e.nm)->(P.map f).filter (λe=>decide (e.1≠x))=(P.filter λe=>decide (e.nm≠x)).map f:=λf hf=>by
  rw[List.filter_map];congr 1;refine List.filter_congr λe _=>?_;show decide ((f e).1≠x)=_;rw[hf]
 rw[fq Pq.pe λ_=>rfl] at B2;rw[fq Pq.qe λ_=>rfl] at d1;refine⟨h2,P.filter λe=>decide (e.nm≠x),?_,B2,k2 _ _ (by decide) (by decide) (.inl rfl) d1,I.nd.sublist (List.filter_sublist.map _),Nat.le_trans (List.length_filter_le ..) I.len,λe he=>(A1 e (List.mem_filter.mp he |>.1)).kd B1 k2,k2.lst s1 (by decide) (by decide),k2.lst v1 (by omega) (by omega),?_⟩
 ·rw[aF (oB e1),aF (r':=cY hv d4 d5 (some (.ref q)) d7 d8 d9 d10) (h':=h2) (by rw[bV e2,aP]),aP]
 ·exact(Ze.mp (k2 _ _ (by decide) (by decide) (.inl rfl) d1)).1
noncomputable abbrev UX:E:=(.rvs (.blt .list (n1 (.ix (.var 6) (.int 4)))))
noncomputable abbrev WV:E:=(.or (.cmp .ne (.call 14 (n3 (.var 1) (.var 6) (.var 8))) (.var 7)) (.cmp .ne (.var 8) UX))
noncomputable abbrev lwP:Ss:=(t5 (.asg (.nm 7) (.call 15 (n2 (.var 2) (.var 6)))) (.asg (.nm 8) UX) (.iff WV (t1 (.ret (.bl false))) .nil) (.ex (.app (.var 8) (.tup (n3 (.int 0) (.int 0) (.int 9))))) (.iff (.cmp .eq (.var 7) (.str "let")) (t1 (.stx (.var 2) (.ix (.var 6) (.int 0)) (.var 6))) .nil))
theorem IR{q hv:Nat}{x:Str}{w t l:Int}{U:List bU}{h:Hh}(eq:h[q]? =some (.lst (kI x w t l U)))(d4 d5 d7 d8 d9 d10:Option D):ev G cl UX (cY hv d4 d5 (some (.ref q)) d7 d8 d9 d10) h=.ok (.ref (h.length+1)) (h++ [.lst (U.map s3),.lst (U.reverse.map s3)]):=by
 have e:=SK (G:=G) (cl:=cl) (JR (cI (i:=6) (r:=cY hv d4 d5 (some (.ref q)) d7 d8 d9 d10) rfl (aG _ _ _ _ 4) (LR eq).2.2.2.2)) (aX ..);rw[List.length_append,List.append_assoc, <- List.map_reverse] at e;exact e
theorem Kp.le{i j:Nat}{h:Hh}{ns:List Int}{hv:Nat}{S:List bU}{P:List Pq}(I:Iv ns hv S i h P)(e:i<=j):Iv ns hv S j h P:=⟨I.B.le e,I.q,I.nd,I.len,I.each,I.sc,I.hs,I.h8⟩
theorem AA(h14:C9 cl 14)(h15:D6 cl 15){ns:List Int}{hv:Nat}{S:List bU}{i:Nat}{h:Hh}{P:List Pq}(I:Iv ns hv S i h P)(hi:i<=100)(hv8:8<=hv){q:Nat}{x:Str}{w t l:Int}{U:List bU}(q8:8<=q)(eq:h[q]? =some (.lst (kI x w t l U)))(M:Mde x w t l U)(d4 d5 d7 d8 d9 d10:Option D):
 ∃h' P' d7' d8',bR G cl W lwP (cY hv d4 d5 (some (.ref q)) d7 d8 d9 d10) h=.ok (.nx (cY hv d4 d5 (some (.ref q)) d7' d8' d9 d10)) h'/\Iv ns hv S (i+1) h' P':=by
 have e1:ev G cl (.call 15 (n2 (.var 2) (.var 6))) (cY hv d4 d5 (some (.ref q)) d7 d8 d9 d10) h=.ok (.str (dY x w l (P.map Pq.qe))) h:=gU (gT (aY rfl) (aY rfl)) (h15 h 7 q _ x w t l U I.q eq M.len);have e2:=IR (G:=G) (cl:=cl) (hv:=hv) eq d4 d5 (some (.str (dY x w l (P.map Pq.qe)))) d8 d9 d10;have k2:Kp h (h++ [.lst (U.map s3),.lst (U.reverse.map s3)]):=Kp.app _ _
 have s2:(h++ [O.lst (U.map s3),.lst (U.reverse.map s3)])[h.length+1]? =some (.lst (U.reverse.map s3)):=by
  rw[List.getElem?_append_right (by omega)]
  simp
 have I2:=I.kp k2;have eq2:=k2 _ _ eq;have l8:=I.h8;generalize hs:h.length+1=s at e2 s2;have s8:8<=s:=by omega
 have sh:h.length<=s:=by omega
 generalize hH:h++ [O.lst (U.map s3),.lst (U.reverse.map s3)]=h2 at*;rw[aF (r':=cY hv d4 d5 (some (.ref q)) (some (.str (dY x w l (P.map Pq.qe)))) d8 d9 d10) (h':=h) (bF e1),aF (r':=cY hv d4 d5 (some (.ref q)) (some (.str (dY x w l (P.map Pq.qe)))) (some (.ref s)) d9 d10) (h':=h2) (bF e2)];obtain⟨pg,fu,pl,st,Z,B⟩:=id I.B;have st1:st<h.length:=(Ze.mp B.p.s).1;have pu:=h14 h2 (P.map Pq.pe) i st s q x w t l U.reverse U ⟨pg,fu,pl,Z,B.kp k2⟩ I2.h8 (by omega) (by rw[Zc];have:=I.len;omega) M.len (by rw[List.length_reverse];have:=M.ul;omega) (bD s2) eq2;have ef:(P.map Pq.qe).map Prod.fst=(P.map Pq.pe).map Prod.fst:=by rw[kQ,qC]
 have go:∀(h3:Hh)(m:Str),cl 14 [.ref 1,.ref q,.ref s] h2=.ok (.str m) h3->dY x w l (P.map Pq.qe)=m->Kd h2 h3->∃h4,Kd h2 h4/\Kp h3 h4/\(∃z,h4[s]? =some z/\∀l,z≠ .dct l)/\bR G cl W (t3 (.iff WV (t1 (.ret (.bl false))) .nil) (.ex (.app (.var 8) (.tup (n3 (.int 0) (.int 0) (.int 9))))) (.iff (.cmp .eq (.var 7) (.str "let")) (t1 (.stx (.var 2) (.ix (.var 6) (.int 0)) (.var 6))) .nil)) (cY hv d4 d5 (some (.ref q)) (some (.str (dY x w l (P.map Pq.qe)))) (some (.ref s)) d9 d10) h2=bR G cl W (t1 (.iff (.cmp .eq (.var 7) (.str "let")) (t1 (.stx (.var 2) (.ix (.var 6) (.int 0)) (.var 6))) .nil)) (cY hv d4 d5 (some (.ref q)) (some (.str (dY x w l (P.map Pq.qe)))) (some (.ref s)) d9 d10) (h4.set s (.lst (U.reverse.map s3++ [.tup [.int 0,.int 0,.int 9]]))):=by
  intro h3 m c hm k3;have s3':=k3 _ _ (by omega) (by omega) (.inr (by intro _ z;cases z)) s2;have eq3:=k3 _ _ (by omega) (by omega) (.inr (by intro _ z;cases z)) eq2
  have f1:ev G cl (.cmp .ne (.call 14 (n3 (.var 1) (.var 6) (.var 8))) (.var 7)) (cY hv d4 d5 (some (.ref q)) (some (.str (dY x w l (P.map Pq.qe)))) (some (.ref s)) d9 d10) h2=.ok (.bl false) h3:=by
   refine bA (gU (iY (aY (i:=1) rfl) (aY (i:=6) rfl) (aY (i:=8) rfl)) c) (aY (i:=7) rfl) ?_;rw[hm,TY,decide_eq_true rfl];rfl
  have f2:=IR (G:=G) (cl:=cl) (hv:=hv) eq3 d4 d5 (some (.str (dY x w l (P.map Pq.qe)))) (some (.ref s)) d9 d10;have k4:Kp h3 (h3++ [.lst (U.map s3),.lst (U.reverse.map s3)]):=Kp.app _ _
  have tt4:(h3++ [O.lst (U.map s3),.lst (U.reverse.map s3)])[h3.length+1]? =some (.lst (U.reverse.map s3)):=by
   rw[List.getElem?_append_right (by omega)]
   simp
  have s4:=k4 _ _ s3';have f3:ev G cl (.cmp .ne (.var 8) UX) (cY hv d4 d5 (some (.ref q)) (some (.str (dY x w l (P.map Pq.qe)))) (some (.ref s)) d9 d10) h3=.ok (.bl false) (h3++ [.lst (U.map s3),.lst (U.reverse.map s3)]):=bA (aY (i:=8) rfl) f2 (TX (bD s4) (bD tt4))
  have f4:ev G cl WV (cY hv d4 d5 (some (.ref q)) (some (.str (dY x w l (P.map Pq.qe)))) (some (.ref s)) d9 d10) h2=.ok (.bl false) (h3++ [.lst (U.map s3),.lst (U.reverse.map s3)]):=by
   rw[BY,f1,aC,sT];exact f3
  have f5:=sF (G:=G) (cl:=cl) (W:=W) (i:=8) (e:=.tup (n3 (.int 0) (.int 0) (.int 9))) (r:=cY hv d4 d5 (some (.ref q)) (some (.str (dY x w l (P.map Pq.qe)))) (some (.ref s)) d9 d10) rfl (fX (iY (aG ..) (aG ..) (aG ..)) (dC rfl)) s4 (by rw[Zc,List.length_reverse];have:=M.ul;omega);refine⟨h3++ [.lst (U.map s3),.lst (U.reverse.map s3)],k3.trans k4.kd,k4,⟨_,s4,λ_=>nofun⟩,?_⟩;rw[aF (by rw[bV f4,aP]),aF f5]
 have fr:∀h4:Hh,Kd h2 h4->Kd h (h4.set s (.lst (U.reverse.map s3++ [.tup [.int 0,.int 0,.int 9]]))):=λh4 k n o a b c e=>by
  have:n<h.length:=(Ze.mp e).1;rw[List.getElem?_set_ne (by omega)];exact k n o a b c (k2 _ _ e)
 have fc:∀h',ev G cl (.cmp .eq (.var 7) (.str "let")) (cY hv d4 d5 (some (.ref q)) (some (.str (dY x w l (P.map Pq.qe)))) (some (.ref s)) d9 d10) h'=.ok (.bl (decide (dY x w l (P.map Pq.qe)="let"))) h':=λh'=>bA (aY (i:=7) rfl) (dS ..) (ZK ..);cases pu with
 |no c m y h3 k3 c3=>
  obtain⟨em,nl⟩:=NU M ef y;obtain⟨h4,k4,k34,sz,e4⟩:=go h3 m c3 em k3.kd;have kp:Kp h (h4.set s (.lst (U.reverse.map s3++ [.tup [.int 0,.int 0,.int 9]]))):=(k2.trans (k3.trans k34)).set _ sh;refine⟨_,P,some (.str (dY x w l (P.map Pq.qe))),some (.ref s),?_,Kp.le (I.kp kp) (Nat.le_succ _)⟩;have z:=fc (h4.set s (.lst (U.reverse.map s3++ [.tup [.int 0,.int 0,.int 9]])));rw[decide_eq_false (by rw[em];exact nl)] at z;rw[e4,aF (by rw[bV z,aP]),aP]
 |let' a b c d p h3 k3 B3 P3 c3=>
  obtain⟨em,gd⟩:=GI M ef a b c d;obtain⟨h4,k4,k34,sz,e4⟩:=go h3 _ c3 em k3.kd;have z:=fc (h4.set s (.lst (U.reverse.map s3++ [.tup [.int 0,.int 0,.int 9]])));rw[decide_eq_true em] at z;have kd5:=fr h4 k4
  have ns:∀{n:Nat}{o:O},h3[n]? =some o->n≠s->(h4.set s (.lst (U.reverse.map s3++ [.tup [.int 0,.int 0,.int 9]])))[n]? =some o:=λe ne=>by
   rw[List.getElem?_set_ne ne.symm];exact k34 _ _ e
  obtain⟨pg',fu',pl',Z',B3⟩:=B3;have se:=k3 _ _ (by simp;omega) s2;have B5:BkAt (h4.set s (.lst (U.reverse.map s3++ [.tup [.int 0,.int 0,.int 9]]))) (P.map Pq.pe++ [(x,p)]) (i+1):=⟨pg',fu',pl',st,Z',ns B3.b (by omega),ns B3.z (by omega),B3.zl,⟨ns B3.p.p (eI B3.p.p se nofun),ns B3.p.d (eI B3.p.d se nofun),ns B3.p.s (by omega)⟩,B3.nn7,B3.nn5⟩
  have P5:PlateAt (h4.set s (.lst (U.reverse.map s3++ [.tup [.int 0,.int 0,.int 9]]))) p x w t l U.reverse:=by
   obtain⟨j,p1,p2⟩:=P3;exact⟨j,ns p1 (eI p1 se nofun),ns p2 (eI p2 se nofun)⟩
  have q5:=kd5 _ _ (by decide) (by decide) (.inl rfl) I.q;have eq5:=kd5 _ _ (by omega) (by omega) (.inr (by intro _ z;cases z)) eq;have A5:∀e∈P,e.At (h4.set s (.lst (U.reverse.map s3++ [.tup [.int 0,.int 0,.int 9]]))):=λe he=>(I.each e he).kd I.B kd5;have s5:=kd5.lst I.sc (by decide) (by decide);have v5:=kd5.lst I.hs (by omega) (by omega);have l5:8<=(h4.set s (.lst (U.reverse.map s3++ [.tup [.int 0,.int 0,.int 9]]))).length:=(Ze.mp q5).1;generalize h4.set s (.lst (U.reverse.map s3++ [.tup [.int 0,.int 0,.int 9]]))=h5 at*;have nx:x ∉ (P.map Pq.qe).map Prod.fst:=by rw[ef];exact c
  have e6:=JL (G:=G) (cl:=cl) (W:=W) (o:=2) (e:=.var 6) (i:=.ix (.var 6) (.int 0)) (r:=cY hv d4 d5 (some (.ref q)) (some (.str (dY x w l (P.map Pq.qe)))) (some (.ref s)) d9 d10) (h:=h5) (z:=.ref q) (x:=x) (aY rfl) rfl (cI (i:=6) rfl (aG _ _ _ _ 0) (LR eq5).1) q5 (by simp[dk];have:=I.len;omega);rw[uK q nx] at e6;have ll:P.length<12:=by rwa [Zc] at d
  refine⟨h5.set 7 (.dct (dk (P.map Pq.qe++ [(x,q)]))),P++ [⟨x,w,t,l,U,p,q⟩],some (.str (dY x w l (P.map Pq.qe))),some (.ref s),by rw[e4,aF (by rw[cT z,aF e6,aP]),aP],?_,?_,?_,?_,λe he=>?_,?_,?_,?_⟩
  ·rw[List.map_append];exact B5.set7 q5
  ·rw[List.map_append];exact dI q5
  ·rw[kQ] at c;rw[List.map_append,List.nodup_append];refine⟨I.nd,by simp,λa ha b hb z=>?_⟩;have:b=x:=by simpa using hb
   exact c (this ▸ z ▸ ha)
  ·rw[List.length_append];show _+1<=_;omega
  ·rcases List.mem_append.mp he with he|he
   ·exact(A5 e he).set7 q5
   ·have:e=⟨x,w,t,l,U,p,q⟩:=by simpa using he
    subst this;exact Pq.At.set7 ⟨P5,eq5,q8,gd,M.srt⟩ q5
  ·exact eW s5 (by decide)
  ·exact eW v5 (λz=>by subst z;exact I.ne7 I.hs rfl)
  ·rw[List.length_set];exact l5
end
section
variable {G:Gs}{cl:Cl}{W:Nat}
noncomputable abbrev lwI:S:=(.iff (.and (.cmp .eq (.bin .mod (.ix (.var 5) (.int 0)) (.int 9)) (.int 1)) (.cmp .inn (.ix (.var 6) (.int 0)) (.var 2))) lwD lwP)
noncomputable abbrev FK:Ss:=(.cons (.asg (.nm 5) (.call 6 (n3 (.var 0) (.var 4) (.int 12)))) (.cons (.asg (.nm 6) (.call 16 (n2 (.var 5) (.var 3)))) (.cons lwI lwN)))
structure Cs (cl:Cl)(ns:List Int):Prop where
 dr:D7 cl 6 ns
 sl:C7 cl 10
 sd:Smd cl 10
 hv:Hvn cl 11 ns
 pt:C9 cl 14
 du:D6 cl 15
 md:Mad cl 16
 dp:D8 cl 26
 nm:OY cl 27
 wi:Win cl 28
 so:Sof cl 29
theorem KY{ns:List Int}(C:Cs cl ns){hv:Nat}{S:List bU}(HS:Hev S)(hv8:8<=hv){i:Nat}(hi:i<=100){h:Hh}{P:List Pq}(I:Iv ns hv S i h P)(d5' d6' d7' d8' d9' d10:Option D):
 ∃h' P' d5 d6 d7 d8 d9,bR G cl W FK (cY hv (some (.int (i:Int))) d5' d6' d7' d8' d9' d10) h=.ok (.nx (cY hv (some (.int (i:Int))) d5 d6 d7 d8 d9 d10)) h'/\Iv ns hv S (i+1) h' P':=by
 obtain⟨row,hr,ir,c1⟩:=C.dr (i:Int) 12 h (by omega) (by omega) (by omega) I.sc;have k1:Kp h (h++ [.lst (row.map D.int)]):=Kp.app _ _;have Q:Row (h++ [.lst (row.map D.int)]) h.length row:=⟨aX ..,ir⟩;have l1:=k1.len;generalize h++ [O.lst (row.map D.int)]=h1 at c1 k1 Q l1;obtain⟨h2,q,x,w,t,l,U,c2,k2,hq,eq,M⟩:=C.md h1 h.length hv row S Q hr (k1.lst I.hs) HS;have I2:=I.kp (k1.trans k2);have e1:ev G cl (.call 6 (n3 (.var 0) (.var 4) (.int 12))) (cY hv (some (.int (i:Int))) d5' d6' d7' d8' d9' d10) h=.ok (.ref h.length) h1:=gU (iY (aY rfl) (aY rfl) (aG ..)) c1;have e2:ev G cl (.call 16 (n2 (.var 5) (.var 3))) (cY hv (some (.int (i:Int))) (some (.ref h.length)) d6' d7' d8' d9' d10) h1=.ok (.ref q) h2:=gU (gT (aY rfl) (aY rfl)) c2;have q8:8<=q:=by have:=I.h8;omega
 have e3:=fZ (G:=G) (cl:=cl) (r:=cY hv (some (.int (i:Int))) (some (.ref h.length)) (some (.ref q)) d7' d8' d9' d10) (h:=h2) (bA (op:=.eq) (aN (op:=.mod) (cI (i:=5) rfl (aG _ _ _ _ 0) (Q.ix k2 0 (by omega))) (aG _ _ _ _ 9) (md (by omega) ..)) (aG _ _ _ _ 1) (DN ..)) (bA (op:=.inn) (b:=.var 2) (cI (i:=6) rfl (aG _ _ _ _ 0) (LR eq).1) (aY rfl) (OP (x:=x) I2.q));rw[qC] at e3
 have fin:∀(h3:Hh)(P':List Pq)(d7 d8:Option D),xs G cl W lwI (cY hv (some (.int (i:Int))) (some (.ref h.length)) (some (.ref q)) d7' d8' d9' d10) h2=.ok (.nx (cY hv (some (.int (i:Int))) (some (.ref h.length)) (some (.ref q)) d7 d8 d9' d10)) h3->Iv ns hv S (i+1) h3 P'->∃h' P' d5 d6 d7 d8 d9,bR G cl W FK (cY hv (some (.int (i:Int))) d5' d6' d7' d8' d9' d10) h=.ok (.nx (cY hv (some (.int (i:Int))) d5 d6 d7 d8 d9 d10)) h'/\Iv ns hv S (i+1) h' P':=λh3 P' d7 d8 e I3=>by
  obtain⟨h4,d9,e4,k4⟩:=FJ (G:=G) (W:=W) C.sl C.nm I3 (some (.int (i:Int))) (some (.ref h.length)) (some (.ref q)) d7 d8 d9' d10;refine⟨h4,P',some (.ref h.length),some (.ref q),d7,d8,d9,?_,I3.kp k4⟩;rw[aF (r':=cY hv (some (.int (i:Int))) (some (.ref h.length)) d6' d7' d8' d9' d10) (h':=h1) (bF e1),aF (r':=cY hv (some (.int (i:Int))) (some (.ref h.length)) (some (.ref q)) d7' d8' d9' d10) (h':=h2) (bF e2),aF e];exact e4
 cases hb:(decide (Row.R row 0%9=1)&&decide (x∈P.map Pq.nm)) with
 |true=>
  rw[hb] at e3;rw[Bool.and_eq_true] at hb;obtain⟨h3,P',e,I3⟩:=yC (G:=G) (W:=W) C.dp I2 hi hv8 eq (of_decide_eq_true hb.2) (some (.int (i:Int))) (some (.ref h.length)) d7' d8' d9' d10;exact fin h3 P' _ _ (by rw[cT e3];exact e) I3
 |false=>
  rw[hb] at e3;obtain⟨h3,P',d7,d8,e,I3⟩:=AA (G:=G) (W:=W) C.pt C.du I2 hi hv8 q8 eq M (some (.int (i:Int))) (some (.ref h.length)) d7' d8' d9' d10;exact fin h3 P' _ _ (by rw[bV e3];exact e) I3
noncomputable abbrev PD:Ss:=(t4 (.asg (.nm 9) (.mth (.var 1) "Book" "stars_of" 29 (n1 (.var 10)))) (.iff (.or (.not (.call 10 (n2 (.var 9) (.blt .list (n1 (.ix (.var 6) (.int 4))))))) (.not (.call 10 (n2 (.mth (.var 1) "Book" "window" 28 (n1 (.var 10))) (.blt .tup (.cons (.slB (.var 6) (.int 1) (.int 4)) .nil)))))) (t1 (.ret (.bl false))) .nil) (.ex (.app (.var 9) (.tup (n3 (.int 0) (.int 0) (.int 1))))) (.iff (.not (.call 10 (n2 (.mth (.var 1) "Book" "stars_of" 29 (n1 (.var 10))) (.blt .list (n1 (.ix (.var 6) (.int 4))))))) (t1 (.ret (.bl false))) .nil))
theorem SY{ns:List Int}(C:Cs cl ns){hv:Nat}{h:Hh}{L:En}{n:Nat}{e:Pq}(B:BkAt h L n)(nd:(L.map Prod.fst).Nodup)(he:e.pe∈L)(A:e.At h)(d4 d5 d7 d8 d9':Option D):
 ∃h' d9,bR G cl W PD (cY hv d4 d5 (some (.ref e.qi)) d7 d8 d9' (some (.str e.nm))) h=.ok (.nx (cY hv d4 d5 (some (.ref e.qi)) d7 d8 d9 (some (.str e.nm)))) h'/\Kp h h':=by
 have lr:e.U.reverse.length<=8:=by rw[List.length_reverse];exact A.g.len
 have sr:gK (e.U.reverse.map s3)=some (e.U.map s3):=pJ ⟨by rw[Zc];omega,.inr ⟨3,by decide,λx hx=>by obtain⟨r,_,rfl⟩:=List.mem_map.mp hx;rfl⟩⟩ ((List.reverse_perm _).symm.map _) A.s;have l8:=A.g.len
 have st:∀{h1:Hh}(k:Kp h h1)(d9:Option D),∃g j,ev G cl (.mth (.var 1) "Book" "stars_of" 29 (n1 (.var 10))) (cY hv d4 d5 (some (.ref e.qi)) d7 d8 d9 (some (.str e.nm))) h1=.ok (.ref j) (h1++g)/\h1.length<=j/\(h1++g)[j]? =some (.lst (e.U.map s3)):=λ{h1} k d9=>by
  obtain⟨g,j,c,hj,q⟩:=C.so h1 L n e.pi e.nm e.w e.t e.l e.U.reverse e.U (B.kp k) nd he (A.p.kp k) lr sr;obtain⟨pg,fu,pl,st,Z,B1⟩:=B.kp k;exact⟨g,j,fY (i:=1) (f:=29) (m:="stars_of") rfl B1.b rfl (dB (aY (i:=10) rfl)) c,hj,q⟩
 have same:∀{h1 h2:Hh}{a:E}{j:Nat}(d9:Option D),ev G cl a (cY hv d4 d5 (some (.ref e.qi)) d7 d8 d9 (some (.str e.nm))) h1=.ok (.ref j) h2->Kp h h2->h2[j]? =some (.lst (e.U.map s3))->ev G cl (.not (.call 10 (.cons a (n1 (.blt .list (n1 (.ix (.var 6) (.int 4)))))))) (cY hv d4 d5 (some (.ref e.qi)) d7 d8 d9 (some (.str e.nm))) h1=.ok (.bl false) (h2++ [.lst (e.U.map s3)]):=λ{h1 h2 a j} d9 ea k q=>by
  have sm:=C.sl j h2.length (e.U.map s3) (h2++ [.lst (e.U.map s3)]) (eB _ _ (bD q)) (aX ..) (by rw[Zc];omega) (QT _);exact kS (gU (gT ea (JR (cI (i:=6) rfl (aG _ _ _ _ 4) (LR (k _ _ A.q)).2.2.2.2))) sm)
 obtain⟨g1,j,e1,hj,q1⟩:=st (Kp.refl h) d9';have k1:Kp h (h++g1):=Kp.app _ _;have e2:=same (a:=.var 9) (some (.ref j)) (aY rfl) k1 q1;have k2:Kp (h++g1) (h++g1++ [.lst (e.U.map s3)]):=Kp.app _ _;have q2:=k2 _ _ q1;generalize hh2:h++g1++ [O.lst (e.U.map s3)]=h2 at*;have k02:=k1.trans k2;obtain⟨g3,c3⟩:=C.wi h2 L n e.pi e.nm e.w e.t e.l e.U.reverse (B.kp k02) nd he (A.p.kp k02);have k3:Kp h2 (h2++g3):=Kp.app _ _;have k03:=k02.trans k3;obtain⟨pg,fu,pl,st',Z,B2⟩:=B.kp k02;have e3:=SJ (G:=G) (cl:=cl) (a:=.var 6) (r:=cY hv d4 d5 (some (.ref e.qi)) d7 d8 (some (.ref j)) (some (.str e.nm))) (aY rfl) (bD (k03 _ _ A.q)) (Nat.le_of_ble_eq_true rfl);have e4:=BX e3 (aX ..);have sm:=C.sd (.tup [.int e.w,.int e.t,.int e.l]) (h2++g3++ [.lst [.int e.w,.int e.t,.int e.l]]) rfl;have e5:ev G cl (.not (.call 10 (n2 (.mth (.var 1) "Book" "window" 28 (n1 (.var 10))) (.blt .tup (.cons (.slB (.var 6) (.int 1) (.int 4)) .nil))))) (cY hv d4 d5 (some (.ref e.qi)) d7 d8 (some (.ref j)) (some (.str e.nm))) h2=.ok (.bl false) (h2++g3++ [.lst [.int e.w,.int e.t,.int e.l]]):=kS (gU (gT (fY (i:=1) (f:=28) (m:="window") rfl B2.b rfl (dB (aY (i:=10) rfl)) c3) e4) sm);have k4:Kp h2 (h2++g3++ [.lst [.int e.w,.int e.t,.int e.l]]):=k3.trans (Kp.app _ _);generalize h2++g3++ [.lst [.int e.w,.int e.t,.int e.l]]=h4 at*
 have e6:ev G cl (.or (.not (.call 10 (n2 (.var 9) (.blt .list (n1 (.ix (.var 6) (.int 4))))))) (.not (.call 10 (n2 (.mth (.var 1) "Book" "window" 28 (n1 (.var 10))) (.blt .tup (.cons (.slB (.var 6) (.int 1) (.int 4)) .nil)))))) (cY hv d4 d5 (some (.ref e.qi)) d7 d8 (some (.ref j)) (some (.str e.nm))) (h++g1)=.ok (.bl false) h4:=by
  rw[BY,e2,aC,sT];exact e5
 have e7:=sF (G:=G) (cl:=cl) (W:=W) (i:=9) (e:=.tup (n3 (.int 0) (.int 0) (.int 1))) (r:=cY hv d4 d5 (some (.ref e.qi)) d7 d8 (some (.ref j)) (some (.str e.nm))) rfl (fX (iY (aG ..) (aG ..) (aG ..)) (dC rfl)) (k4 _ _ q2) (by rw[Zc];omega);have k5:=(k02.trans k4).set (.lst (e.U.map s3++ [.tup [.int 0,.int 0,.int 1]])) hj;generalize h4.set j (.lst (e.U.map s3++ [.tup [.int 0,.int 0,.int 1]]))=h5 at*;obtain⟨g6,j6,e8,_,q6⟩:=st k5 (some (.ref j));have e9:=same (some (.ref j)) e8 (k5.trans (Kp.app _ _)) q6;refine⟨_,some (.ref j),?_,(k5.trans (Kp.app _ g6)).trans (Kp.app _ [.lst (e.U.map s3)])⟩;rw[aF (r':=cY hv d4 d5 (some (.ref e.qi)) d7 d8 (some (.ref j)) (some (.str e.nm))) (h':=h++g1) (bF e1),aF (by rw[bV e6,aP]),aF e7,aF (by rw[bV e9,aP]),aP]
noncomputable abbrev l25:Ss:=(.cons (.asg (.nm 1) (.new "Book" 23 .nil)) (t5 (.asg (.nm 2) .dnw) (.asg (.nm 3) (.call 11 (n1 (.var 0)))) (.forr (.nm 4) (.r1 (.blt .min (n2 (.bin .add (.blt .len (n1 (.var 0))) (.int 6)) (.int 32)))) FK) (.forr (.tp [10,6]) (.its (.var 2)) PD) (.ret (.bl true))))
theorem law25_ok{ns:List Int}(C:Cs cl ns)(h23:∀o:O,cl 23 [.ref 1] [o,.ins "Book" []]=.ok .non (h7 o))(hn:ns.length<=63):
 ∃h',(bR G cl W l25 [some (.ref 0),none,none,none,none,none,none,none,none,none,none] [.ro (ns.map D.int)]).bind cK=.ok (.bl true) h':=by
 have e1:=qD (G:=G) (cl:=cl) (cn:="Book") (f:=23) (l:=.nil) (r:= [some (.ref 0),none,none,none,none,none,none,none,none,none,none]) (h:= [.ro (ns.map D.int)]) (bZ ..) (h23 (.ro (ns.map D.int)));obtain⟨h9,hv,S,c3,k3,es,HS,hv8⟩:=C.hv (h7 (.ro (ns.map D.int))++ [.dct []]) rfl;have hv8:8<=hv:=hv8;have I0:Iv ns hv S 0 h9 []:=⟨(SC _).kp ((Kp.app _ _).trans k3),k3 _ _ rfl,by simp,Nat.zero_le _,(λe he=>nomatch he),k3.lst rfl,es,k3.len⟩;have e3:ev G cl (.call 11 (n1 (.var 0))) [some (.ref 0),some (.ref 1),some (.ref 7),none,none,none,none,none,none,none,none] (h7 (.ro (ns.map D.int))++ [.dct []])=.ok (.ref hv) h9:=SV rfl c3
 obtain⟨m,hm,em⟩:∃m:Nat,m<=32/\ev G cl (.blt .min (n2 (.bin .add (.blt .len (n1 (.var 0))) (.int 6)) (.int 32))) (cY hv none none none none none none none) h9=.ok (.int (m:Int)) h9:=by
  have e:=gT (G:=G) (cl:=cl) (r:=cY hv none none none none none none none) (h:=h9) (aN (op:=.add) (CA (i:=0) rfl I0.sc) (aG _ _ _ _ 6) (jG ..)) (aG _ _ _ _ 32)
  have q:∀z:Int,0<=z->∃m:Nat,m<=32/\fG .min [.int z,.int 32] h9=.ok (.int (m:Int)) h9:=λz hz=>by
   have b:fG .min [.int z,.int 32] h9=.ok (.int (if 32<z then 32 else z)) h9:=rfl
   by_cases c:32<z
   ·exact⟨32,Zn _,by rw[b,if_pos c];rfl⟩
   ·exact⟨z.toNat,by omega,by rw[b,if_neg c,Int.toNat_of_nonneg hz]⟩
  obtain⟨m,hm,b⟩:=q (((ns.map D.int).length:Nat)+6) (by omega);exact⟨m,hm,dU e b⟩
 have lp:=nE (t:=.nm 4) (body:=bR G cl W FK) (λi r h=>∃P d4 d5 d6 d7 d8 d9,r=cY hv d4 d5 d6 d7 d8 d9 none/\Iv ns hv S i h P) (λ_ _=>False) (dP 0 m) 0 (λj d hd r h ⟨P,d4,d5,d6,d7,d8,d9,er,I⟩=>by
  subst er
  have hj:j<m:=by
   have:=(Ze.mp hd).1;rwa [rH] at this
  rw[rJ _ _ hj] at hd;cases hd;rw[Nat.zero_add] at I;obtain⟨h',P',d5',d6',d7',d8',d9',e,I'⟩:=KY (G:=G) (W:=W) C HS hv8 (by omega) I d5 d6 d7 d8 d9 none;refine⟨cY hv (some (.int (j:Int))) d5 d6 d7 d8 d9 none,rfl,.inl ⟨_,h',e,P',_,_,_,_,_,_,rfl,?_⟩⟩;rw[Nat.zero_add];exact I')
  (cY hv none none none none none none none) h9 ⟨[],_,_,_,_,_,_,rfl,I0⟩
 rcases lp with ⟨r4,h4,e4,P,d4,d5,d6,d7,d8,d9,rfl,I4⟩|⟨_,_,_,z⟩;rotate_left
 ·exact z.elim
 have B5:=I4.B.set7 (o:=.ded) I4.q;have A5:∀e∈P,e.At (h4.set 7 .ded):=λe he=>(I4.each e he).set7 I4.q;have nd5:((P.map Pq.pe).map Prod.fst).Nodup:=by rw[kQ];exact I4.nd
 have lp2:=nE (t:=.tp [10,6]) (body:=bR G cl W PD) (λi r h=>∃d6 d9 d10,r=cY hv d4 d5 d6 d7 d8 d9 d10/\Kp (h4.set 7 .ded) h) (λ_ _=>False) (P.map λe=>D.tup [.str e.nm,.ref e.qi]) 0 (λj d hd r h ⟨d6,d9,d10,er,k⟩=>by
  subst er;rw[Zi,Option.map_eq_some_iff] at hd;obtain⟨e,he,rfl⟩:=hd;have hm:e∈P:=List.mem_of_getElem? he;obtain⟨h',d9',q,k'⟩:=SY (G:=G) (W:=W) C (hv:=hv) (B5.kp k) nd5 (List.mem_map.mpr ⟨e,hm,rfl⟩) ((A5 e hm).kp k) d4 d5 d7 d8 d9;exact⟨cY hv d4 d5 (some (.ref e.qi)) d7 d8 d9 (some (.str e.nm)),rfl,.inl ⟨_,h',q,_,_,_,rfl,k.trans k'⟩⟩)
  (cY hv d4 d5 d6 d7 d8 d9 none) (h4.set 7 .ded) ⟨_,_,_,rfl,Kp.refl _⟩
 rcases lp2 with ⟨r5,h5,e5,d6',d9',d10',rfl,_⟩|⟨_,_,_,z⟩;rotate_left
 ·exact z.elim
 have e6:xs G cl W (.forr (.tp [10,6]) (.its (.var 2)) PD) (cY hv d4 d5 d6 d7 d8 d9 none) h4=.ok (.nx (cY hv d4 d5 d6' d7 d8 d9' d10')) h5:=by
  have e0:xs G cl W (.forr (.tp [10,6]) (.its (.var 2)) PD) (cY hv d4 d5 d6 d7 d8 d9 none) h4=(ev G cl (.var 2) (cY hv d4 d5 d6 d7 d8 d9 none) h4).nx.bind λx h=>match x with
   |.ref n=>match h[n]? with
    |some (.dct l)=>dA (.tp [10,6]) (bR G cl W PD) (l.map λp=>D.tup [qO p.1,p.2]) (cY hv d4 d5 d6 d7 d8 d9 none) (h.set n .ded)
    |_=>.bad
   |_=>.bad:=by rw[xs]<;>rfl
  have mm:((dk (P.map Pq.qe)).map λp=>D.tup [qO p.1,p.2])=P.map λe=>D.tup [.str e.nm,.ref e.qi]:=by
   simp[dk,qO,Pq.qe]
  rw[e0,aY (x:=.ref 7) rfl,cM,aC];simp only[I4.q,mm];exact e5
 refine⟨h5,?_⟩;rw[aF (r':= [some (.ref 0),some (.ref 1),none,none,none,none,none,none,none,none,none]) (h':=h7 (.ro (ns.map D.int))) (bF e1),aF (r':= [some (.ref 0),some (.ref 1),some (.ref 7),none,none,none,none,none,none,none,none]) (h':=h7 (.ro (ns.map D.int))++ [.dct []]) (bF JS),aF (r':=cY hv none none none none none none none) (h':=h9) (bF e3),aF (lU em (pX (by omega)) e4),aF e6,bY (cF (YH ..))];rfl
end
end Ng
end
section
namespace Pk25
open PySem L2
open Ng
open Ng renaming pN->ac,GO->dc
set_option maxHeartbeats 0
theorem vr{N:List Str}{sc:Scope}{G:Gs}{i:Nat}{x:Str}{pos:Pos}(h1:N[i]? =some x:=by rfl)(h:(yY sc x&&cS x)=true:=by decide+kernel):SE N sc G (.var i) (.Name x pos):=OC h1 h
theorem WX{us:List Value}(h:us.length=4):∃a b c d,us=[a,b,c,d]:=by
 obtain⟨a,us,rfl⟩:=List.exists_cons_of_length_eq_add_one h;obtain⟨b,c,d,rfl⟩:=RL (Nat.succ.inj h);exact⟨_,_,_,_,rfl⟩
local macro_rules
 | `(tactic|trivial)=> `(tactic|first |decide+kernel|exact⟨rfl,rfl,rfl,by decide+kernel,rfl,by decide+kernel,by decide+kernel⟩|(intro _ _ _ _ _ _ us hl;first |(obtain e:=List.length_eq_zero_iff.mp hl;subst e;rfl)|(obtain⟨_,e⟩:=WY hl;subst e;rfl)|(obtain⟨_,_,e⟩:=RM hl;subst e;rfl)|(obtain⟨_,_,_,e⟩:=RL hl;subst e;rfl)|(obtain⟨_,_,_,_,e⟩:=WX hl;subst e;rfl)|(obtain⟨_,_,_,_,_,e⟩:=len5 hl;subst e;rfl)|(obtain⟨_,_,_,_,_,_,e⟩:=WW hl;subst e;rfl)))
noncomputable def top(i:Nat):PySem.Stmt:=PySem.Challenge.pw_nightglass_k25_plates_in_the_book.main.body.getD i (.Pass ⟨0,0,0,0⟩)
noncomputable def mtop(i k:Nat):PySem.Stmt:=FU (top i) k
noncomputable def G:Gs:=⟨("is_name"::"is_window"::"blank_page"::"need_plates"::"with_plate"::"without_plate"::"_law_draws"::"_law_turned"::"_law_moved"::"_law_back"::"_law_same"::"_law_heaven"::"_law_pane"::"_law_home"::"_law_put"::"_law_due"::"_law_made"::"law":: []:List Str),[("BRIGHTEST",.int (9)),("LETTERS",.str "abcdefghijklmnopqrstuvwxyz"),("LONGEST_NAME",.int (8)),("LONGEST_SIDE",.int (8)),("MOST_STARS",.int (8)),("MOST_PLATES",.int (12))],["GlassError","BadName","BadPlate","NoPlate","Taken","Full"],[(0,0),(1,1),(1,0),(2,2),(2,0),(3,3),(4,4),(4,0),(5,5),(5,0)],[(1,2),(1,4),(1,5),(2,1),(2,4),(2,5),(4,1),(4,2),(4,5),(5,1),(5,2),(5,4)],[("Plate",18),("Page",22),("Book",23)],[("Plate","shows_its_stars",19),("Plate","stars",20),("Plate","holds",21),("Book","write",24),("Book","put",25),("Book","drop",26),("Book","names",27),("Book","window",28),("Book","stars_of",29)],[("Plate","name"),("Plate","width"),("Plate","height"),("Plate","limit"),("Plate","bright_at"),("Page","plates"),("Page","standing"),("Page","coming"),("Book","page"),("Book","past"),("Book","future")]⟩
theorem XY:G.csts[0]? =some (("BRIGHTEST",.int (9)):Str×D):=rfl
theorem gc1:G.csts[1]? =some (("LETTERS",.str "abcdefghijklmnopqrstuvwxyz"):Str×D):=rfl
theorem gc2:G.csts[2]? =some (("LONGEST_NAME",.int (8)):Str×D):=rfl
theorem XW:G.csts[3]? =some (("LONGEST_SIDE",.int (8)):Str×D):=rfl
theorem gc4:G.csts[4]? =some (("MOST_STARS",.int (8)):Str×D):=rfl
theorem gc5:G.csts[5]? =some (("MOST_PLATES",.int (12)):Str×D):=rfl
noncomputable def b0:Ss:=RW
noncomputable def b1:Ss:=iwC
noncomputable def b2:Ss:=bpB
noncomputable def b3:Ss:=npB
noncomputable def b4:Ss:=PN
noncomputable def b5:Ss:=woB
noncomputable def b6:Ss:=uJ
noncomputable def b7:Ss:=(.cons (.ret (.ix (.lst (.cons (.tup (.cons (.var 1) (.cons (.var 2) .nil))) (.cons (.tup (.cons (.neg (.var 2)) (.cons (.var 1) .nil))) (.cons (.tup (.cons (.neg (.var 1)) (.cons (.neg (.var 2)) .nil))) (.cons (.tup (.cons (.var 2) (.cons (.neg (.var 1)) .nil))) (.cons (.tup (.cons (.neg (.var 1)) (.cons (.var 2) .nil))) (.cons (.tup (.cons (.neg (.var 2)) (.cons (.neg (.var 1)) .nil))) (.cons (.tup (.cons (.var 1) (.cons (.neg (.var 2)) .nil))) (.cons (.tup (.cons (.var 2) (.cons (.var 1) .nil))) .nil))))))))) (.var 0))) .nil)
noncomputable def b8:Ss:=(.cons (.asg (.tp [2,3]) (.call 7 (.cons (.ix (.var 0) (.int 0)) (.cons (.ix (.var 1) (.int 0)) (.cons (.ix (.var 1) (.int 1)) .nil))))) (.cons (.ret (.tup (.cons (.bin .add (.var 2) (.ix (.var 0) (.int 1))) (.cons (.bin .add (.var 3) (.ix (.var 0) (.int 2))) .nil)))) .nil))
noncomputable def b9:Ss:=(.cons (.asg (.nm 1) (.ix (.lst (.cons (.int 0) (.cons (.int 3) (.cons (.int 2) (.cons (.int 1) (.cons (.int 4) (.cons (.int 5) (.cons (.int 6) (.cons (.int 7) .nil))))))))) (.ix (.var 0) (.int 0)))) (.cons (.asg (.tp [2,3]) (.call 7 (.cons (.var 1) (.cons (.ix (.var 0) (.int 1)) (.cons (.ix (.var 0) (.int 2)) .nil))))) (.cons (.ret (.tup (.cons (.var 1) (.cons (.neg (.var 2)) (.cons (.neg (.var 3)) .nil))))) .nil)))
noncomputable def yQ:Ss:=(.cons (.iff (.blt .isinst (.cons (.var 1) (.cons (.tup (.cons (.ty .tuple) (.cons (.ty .list) .nil))) .nil))) (.cons (.iff (.or (.cmp .ne (.blt .isinst (.cons (.var 1) (.cons (.ty .tuple) .nil))) (.blt .isinst (.cons (.var 0) (.cons (.ty .tuple) .nil)))) (.cmp .ne (.blt .isinst (.cons (.var 1) (.cons (.ty .list) .nil))) (.blt .isinst (.cons (.var 0) (.cons (.ty .list) .nil))))) (.cons (.ret (.bl false)) .nil) .nil) (.cons (.iff (.cmp .ne (.blt .len (.cons (.var 0) .nil)) (.blt .len (.cons (.var 1) .nil))) (.cons (.ret (.bl false)) .nil) .nil) (.cons (.forr (.nm 2) (.r1 (.blt .len (.cons (.var 1) .nil))) (.cons (.iff (.not (.call 10 (.cons (.ix (.var 0) (.var 2)) (.cons (.ix (.var 1) (.var 2)) .nil)))) (.cons (.ret (.bl false)) .nil) .nil) .nil)) (.cons (.ret (.bl true)) .nil)))) .nil) (.cons (.iff (.cmp .is (.var 1) .non) (.cons (.ret (.cmp .is (.var 0) .non)) .nil) .nil) (.cons (.iff (.or (.blt .isinst (.cons (.var 1) (.cons (.ty .bool) .nil))) (.blt .isinst (.cons (.var 0) (.cons (.ty .bool) .nil)))) (.cons (.ret (.and (.blt .isinst (.cons (.var 1) (.cons (.ty .bool) .nil))) (.and (.blt .isinst (.cons (.var 0) (.cons (.ty .bool) .nil))) (.cmp .eq (.var 0) (.var 1))))) .nil) .nil) (.cons (.iff (.blt .isinst (.cons (.var 1) (.cons (.ty .int) .nil))) (.cons (.ret (.and (.blt .isinst (.cons (.var 0) (.cons (.ty .int) .nil))) (.cmp .eq (.var 0) (.var 1)))) .nil) .nil) (.cons (.ret (.and (.blt .isinst (.cons (.var 0) (.cons (.ty .str) .nil))) (.cmp .eq (.var 0) (.var 1)))) .nil)))))
noncomputable def A8:Ss:=hvB
noncomputable def A7:Ss:=paB
noncomputable def A6:Ss:=hoQ
noncomputable def A4:Ss:=lpB
noncomputable def A3:Ss:=duB
noncomputable def A2:Ss:=mdB
noncomputable def A0:Ss:=l25
noncomputable def ZZ:Ss:=RE
noncomputable def ZY:Ss:=shC
noncomputable def ZX:Ss:=stB
noncomputable def ZW:Ss:=hoB
noncomputable def ZV:Ss:=piB
noncomputable def ZU:Ss:=biB
noncomputable def ZT:Ss:=wrB
noncomputable def ZS:Ss:=ptB
noncomputable def ZR:Ss:=drB
noncomputable def ZQ:Ss:=RC
noncomputable def ZP:Ss:=wiB
noncomputable def ZO:Ss:=soB
noncomputable def T:Nat->Option Fc
 |0=>some ⟨1,1,b0⟩
 |1=>some ⟨3,4,b1⟩
 |2=>some ⟨0,0,b2⟩
 |3=>some ⟨2,3,b3⟩
 |4=>some ⟨2,3,b4⟩
 |5=>some ⟨2,4,b5⟩
 |6=>some ⟨3,7,b6⟩
 |7=>some ⟨3,3,b7⟩
 |8=>some ⟨2,4,b8⟩
 |9=>some ⟨1,4,b9⟩
 |10=>some ⟨2,3,yQ⟩
 |11=>some ⟨1,7,A8⟩
 |12=>some ⟨4,14,A7⟩
 |13=>some ⟨1,1,A6⟩
 |14=>some ⟨3,5,A4⟩
 |15=>some ⟨2,2,A3⟩
 |16=>some ⟨2,7,A2⟩
 |17=>some ⟨1,11,A0⟩
 |18=>some ⟨6,6,ZZ⟩
 |19=>some ⟨1,1,ZY⟩
 |20=>some ⟨1,1,ZX⟩
 |21=>some ⟨2,4,ZW⟩
 |22=>some ⟨4,4,ZV⟩
 |23=>some ⟨1,1,ZU⟩
 |24=>some ⟨3,3,ZT⟩
 |25=>some ⟨6,8,ZS⟩
 |26=>some ⟨2,2,ZR⟩
 |27=>some ⟨1,1,ZQ⟩
 |28=>some ⟨2,3,ZP⟩
 |29=>some ⟨2,2,ZO⟩
 |_=>none
theorem ck0:eM ["text"] (aH (top 35)) G b0 (aM (top 35)):=(dc (aU (bL (jA (by with_unfolding_all rfl) aA (aO (by trivial) (ac rfl vr aB)) (lG gc2 (by trivial))) (aO (by trivial) (ac rfl (jW (gX (by trivial)) rfl (by trivial) (RU vr) iP (aJ rfl vr (lG gc1 (by trivial)))) aB)))) aD)
theorem ck1:eM ["width","height","limit","sides_fit"] (aH (top 36)) G b1 (aM (top 36)):=(dc (aQ rfl (by trivial) rfl (bL (jA (by with_unfolding_all rfl) aA vr (lG XW (by trivial))) (jA (by with_unfolding_all rfl) aA vr (lG XW (by trivial))))) (dc (aU (bL vr (jA (by with_unfolding_all rfl) aA vr (lG XY (by trivial))))) aD))
theorem ck2:eM [] (aH (top 52)) G b2 (aM (top 52)):=(dc (aU (uO (by trivial) (by trivial) (ac rfl CY (ac rfl (cL aB) (ac rfl aA aB))))) aD)
theorem ck3:eM ["page","names","name"] (aH (top 53)) G b3 (aM (top 53)):=(dc (wK (by trivial) (λ_ _=>rfl) vr (dc (aZ (aJ rfl vr (bB (by trivial) (λ_=>rfl) vr)) (dc (sL rfl (by trivial) rfl (CV (hJ cB (hJ (CW vr) (hJ cB zP))))) aD) aD) aD)) aD)
theorem ck4:eM ["page","plate","plates"] (aH (top 54)) G b4 (aM (top 54)):=(dc (aZ (aJ rfl (bB (by trivial) (λ_=>rfl) vr) (bB (by trivial) (λ_=>rfl) vr)) (dc (sL rfl (by trivial) rfl (CV (hJ cB (hJ (CW (bB (by trivial) (λ_=>rfl) vr)) (hJ cB zP))))) aD) aD) (dc (aZ (aJ rfl (aO (by trivial) (ac rfl (bB (by trivial) (λ_=>rfl) vr) aB)) (lG gc5 (by trivial))) (dc (iD rfl (by trivial)) aD) aD) (dc (aQ rfl (by trivial) rfl (OG (by trivial) rfl (bB (by trivial) (λ_=>rfl) vr))) (dc (qG rfl (λ_ _=>rfl) vr vr (bB (by trivial) (λ_=>rfl) vr)) (dc (aU (uO (by trivial) (by trivial) (ac rfl vr (ac rfl (bB (by trivial) (λ_=>rfl) vr) (ac rfl (bB (by trivial) (λ_=>rfl) vr) aB))))) aD)))))
theorem ck5:eM ["page","name","plates","standing"] (aH (top 55)) G b5 (aM (top 55)):=(dc (fA rfl (bH rfl (by trivial) (ac rfl vr (ac rfl (cL (ac rfl vr aB)) aB)))) (dc (GY rfl (by trivial) (by trivial) (by trivial) (gX (by trivial)) (λ_=>rfl) rfl (by trivial) (bB (by trivial) (λ_=>rfl) vr) (pM (aJ rfl vr vr) iP) vr vr) (dc (NZ rfl (by trivial) (by trivial) (by trivial) (gX (by trivial)) rfl (by trivial) (BF (bB (by trivial) (λ_=>rfl) vr)) (pM (aJ rfl vr (bJ (ac rfl (aL (λ_ _=>rfl) vr aA) (ac rfl (aL (λ_ _=>rfl) vr aA) aB)))) iP) vr) (dc (aU (uO (by trivial) (by trivial) (ac rfl vr (ac rfl vr (ac rfl (bB (by trivial) (λ_=>rfl) vr) aB))))) aD))))
theorem ck6:eM ["_law_script","_law_at","_law_many","_law_cell","_law_seed","_law_row","_law_mark"] (aH (top 63)) G b6 (aM (top 63)):=(dc (aQ rfl (by trivial) rfl (aE (aE aA vr) aA)) (dc (aZ (aJ rfl vr (aO (by trivial) (ac rfl vr aB))) (dc (aQ rfl (by trivial) rfl (aL (λ_ _=>rfl) vr vr)) aD) (dc (aZ (aJ rfl (aO (by trivial) (ac rfl vr aB)) aA) (dc (aQ rfl (by trivial) rfl (aE (aE (aE (aL (λ_ _=>rfl) vr (aE vr (aO (by trivial) (ac rfl vr aB)))) aA) (aE (aE vr vr) aA)) aA)) aD) aD) aD)) (dc (aQ rfl (by trivial) rfl (aE (aE (aE vr aA) (aE aA vr)) aA)) (dc (aQ rfl (by trivial) rfl (cL aB)) (dc (aZ (aJ rfl vr (aE aA aA)) (dc (CO (bL (aJ rfl vr aA) (aJ rfl (aO (by trivial) (ac rfl vr aB)) vr)) (dc (fA rfl (jB rfl rfl vr (aE vr aA))) (dc (aQ rfl (by trivial) rfl (aE vr aA)) aD))) aD) aD) (dc (CO (aJ rfl (aO (by trivial) (ac rfl vr aB)) vr) (dc (aQ rfl (by trivial) rfl (aE (aO (by trivial) (ac rfl vr aB)) aA)) (dc (aQ rfl (by trivial) rfl (aE (aE (aE (aE vr aA) (aE (aE vr vr) aA)) aA) aA)) (dc (fA rfl (jB rfl rfl vr (aE (aE (aE (aE vr aA) (aE (aE (aE vr aA) aA) aA)) aA) aA))) aD)))) (dc (aU vr) aD)))))))
theorem ck7:eM ["_law_turn","_law_x","_law_y"] (aH (top 64)) G b7 (aM (top 64)):=(dc (aU (aL (λ_ _=>rfl) (cL (ac rfl (bJ (ac rfl vr (ac rfl vr aB))) (ac rfl (bJ (ac rfl (dR vr) (ac rfl vr aB))) (ac rfl (bJ (ac rfl (dR vr) (ac rfl (dR vr) aB))) (ac rfl (bJ (ac rfl vr (ac rfl (dR vr) aB))) (ac rfl (bJ (ac rfl (dR vr) (ac rfl vr aB))) (ac rfl (bJ (ac rfl (dR vr) (ac rfl (dR vr) aB))) (ac rfl (bJ (ac rfl vr (ac rfl (dR vr) aB))) (ac rfl (bJ (ac rfl vr (ac rfl vr aB))) aB))))))))) vr)) aD)
theorem ck8:eM ["_law_motion","_law_place","_law_x","_law_y"] (aH (top 65)) G b8 (aM (top 65)):=(dc (lP (by trivial) rfl (λ_=>rfl) (bH rfl (by trivial) (ac rfl (aL (λ_ _=>rfl) vr aA) (ac rfl (aL (λ_ _=>rfl) vr aA) (ac rfl (aL (λ_ _=>rfl) vr aA) aB))))) (dc (aU (bJ (ac rfl (aE vr (aL (λ_ _=>rfl) vr aA)) (ac rfl (aE vr (aL (λ_ _=>rfl) vr aA)) aB)))) aD))
theorem ck9:eM ["_law_motion","_law_turn","_law_x","_law_y"] (aH (top 66)) G b9 (aM (top 66)):=(dc (aQ rfl (by trivial) rfl (aL (λ_ _=>rfl) (cL (ac rfl aA (ac rfl aA (ac rfl aA (ac rfl aA (ac rfl aA (ac rfl aA (ac rfl aA (ac rfl aA aB))))))))) (aL (λ_ _=>rfl) vr aA))) (dc (lP (by trivial) rfl (λ_=>rfl) (bH rfl (by trivial) (ac rfl vr (ac rfl (aL (λ_ _=>rfl) vr aA) (ac rfl (aL (λ_ _=>rfl) vr aA) aB))))) (dc (aU (bJ (ac rfl vr (ac rfl (dR vr) (ac rfl (dR vr) aB))))) aD)))
theorem ZE:eM ["_law_found","_law_due_here","_law_k"] (aH (top 67)) G yQ (aM (top 67)):=(dc (aZ (aO (by trivial) (ac rfl vr (ac rfl (bJ (ac rfl (eJ (by trivial)) (ac rfl (eJ (by trivial)) aB))) aB))) (dc (aZ (jV (aJ rfl (aO (by trivial) (ac rfl vr (ac rfl (eJ (by trivial)) aB))) (aO (by trivial) (ac rfl vr (ac rfl (eJ (by trivial)) aB)))) (aJ rfl (aO (by trivial) (ac rfl vr (ac rfl (eJ (by trivial)) aB))) (aO (by trivial) (ac rfl vr (ac rfl (eJ (by trivial)) aB))))) (dc (aU iL) aD) aD) (dc (aZ (aJ rfl (aO (by trivial) (ac rfl vr aB)) (aO (by trivial) (ac rfl vr aB))) (dc (aU iL) aD) aD) (dc (qH (by trivial) (by trivial) rfl (aO (by trivial) (ac rfl vr aB)) (dc (aZ (gW (bH rfl (by trivial) (ac rfl (aL (λ_ _=>rfl) vr vr) (ac rfl (aL (λ_ _=>rfl) vr vr) aB)))) (dc (aU iL) aD) aD) aD)) (dc (aU iL) aD)))) aD) (dc (aZ (aJ rfl vr uN) (dc (aU (aJ rfl vr uN)) aD) aD) (dc (aZ (jV (aO (by trivial) (ac rfl vr (ac rfl (eJ (by trivial)) aB))) (aO (by trivial) (ac rfl vr (ac rfl (eJ (by trivial)) aB)))) (dc (aU (by first |exact dZ (aO (by trivial) (ac rfl vr (ac rfl (eJ (by trivial)) aB))) (bL (aO (by trivial) (ac rfl vr (ac rfl (eJ (by trivial)) aB))) (aJ rfl vr vr))|exact bL (aO (by trivial) (ac rfl vr (ac rfl (eJ (by trivial)) aB))) (bL (aO (by trivial) (ac rfl vr (ac rfl (eJ (by trivial)) aB))) (aJ rfl vr vr)))) aD) aD) (dc (aZ (aO (by trivial) (ac rfl vr (ac rfl (eJ (by trivial)) aB))) (dc (aU (bL (aO (by trivial) (ac rfl vr (ac rfl (eJ (by trivial)) aB))) (aJ rfl vr vr))) aD) aD) (dc (aU (bL (aO (by trivial) (ac rfl vr (ac rfl (eJ (by trivial)) aB))) (aJ rfl vr vr))) aD)))))
theorem ZD:eM ["_law_script","_law_d","_law_found","_law_k","_law_x","_law_y","_law_bright"] (aH (top 68)) G A8 (aM (top 68)):=(dc (aQ rfl (by trivial) rfl (bH rfl (by trivial) (ac rfl vr (ac rfl aA (ac rfl aA aB))))) (dc (aQ rfl (by trivial) rfl (cL aB)) (dc (qH (by trivial) (by trivial) rfl (aE (aL (λ_ _=>rfl) vr aA) aA) (dc (aQ rfl (by trivial) rfl (aE (aE (aL (λ_ _=>rfl) vr (aE (aE aA vr) aA)) aA) aA)) (dc (aQ rfl (by trivial) rfl (aE (aE (aL (λ_ _=>rfl) vr (aE (aE aA vr) aA)) aA) aA)) (dc (aQ rfl (by trivial) rfl (aL (λ_ _=>rfl) (cL (ac rfl (aE aA (aE (aL (λ_ _=>rfl) vr (aE (aE aA vr) aA)) aA)) (ac rfl (aE aA (aE (aL (λ_ _=>rfl) vr (aE (aE aA vr) aA)) aA)) aB))) (aO (by trivial) (ac rfl (aJ rfl (aE (aE (aL (λ_ _=>rfl) vr aA) aA) aA) aA) aB)))) (dc (aZ (aJ rfl (bJ (ac rfl vr (ac rfl vr aB))) (jW (gX (by trivial)) rfl (by trivial) (BF vr) iP (bJ (ac rfl (aL (λ_ _=>rfl) vr aA) (ac rfl (aL (λ_ _=>rfl) vr aA) aB))))) (dc (fA rfl (jB rfl rfl vr (bJ (ac rfl vr (ac rfl vr (ac rfl vr aB)))))) aD) aD) aD))))) (dc (aU vr) aD))))
theorem ZC:eM ["_law_name","_law_home_here","_law_heaven_here","_law_d","_law_width","_law_height","_law_limit","_law_stars","_law_x","_law_y","_law_bright","_law_right","_law_up","_law_odd"] (aH (top 69)) G A7 (aM (top 69)):=(dc (aQ rfl (by trivial) rfl (aL (λ_ _=>rfl) (cL (ac rfl (aE aA (aE (aL (λ_ _=>rfl) vr aA) aA)) (ac rfl (aE aA (aE (aE (aL (λ_ _=>rfl) vr aA) aA) aA)) aB))) (aO (by trivial) (ac rfl (aJ rfl (aE (aE (aL (λ_ _=>rfl) vr aA) aA) aA) aA) aB)))) (dc (aQ rfl (by trivial) rfl (aL (λ_ _=>rfl) (cL (ac rfl (aE aA (aE (aL (λ_ _=>rfl) vr aA) aA)) (ac rfl (aE aA (aE (aE (aL (λ_ _=>rfl) vr aA) aA) aA)) aB))) (aO (by trivial) (ac rfl (aJ rfl (aE (aE (aL (λ_ _=>rfl) vr aA) aA) aA) aA) aB)))) (dc (aQ rfl (by trivial) rfl (aL (λ_ _=>rfl) (cL (ac rfl (aE aA (aE (aL (λ_ _=>rfl) vr aA) aA)) (ac rfl (aE aA (aE (aE (aL (λ_ _=>rfl) vr aA) aA) aA)) aB))) (aO (by trivial) (ac rfl (aJ rfl (aE (aE (aL (λ_ _=>rfl) vr aA) aA) aA) aA) aB)))) (dc (aQ rfl (by trivial) rfl (cL aB)) (dc (wK (by trivial) (λ_ _=>rfl) vr (dc (lP (by trivial) rfl (λ_=>rfl) (bH rfl (by trivial) (ac rfl (bH rfl (by trivial) (ac rfl vr aB)) (ac rfl (bJ (ac rfl vr (ac rfl vr aB))) aB)))) (dc (aZ (by first |exact dZ (aJ rfl aA vr) (by first |exact dZ (aJ rfl vr vr) (by first |exact dZ (aJ rfl aA vr) (bL (aJ rfl vr vr) (aJ rfl vr vr))|exact bL (aJ rfl aA vr) (bL (aJ rfl vr vr) (aJ rfl vr vr)))|exact bL (aJ rfl vr vr) (by first |exact dZ (aJ rfl aA vr) (bL (aJ rfl vr vr) (aJ rfl vr vr))|exact bL (aJ rfl aA vr) (bL (aJ rfl vr vr) (aJ rfl vr vr))))|exact bL (aJ rfl aA vr) (by first |exact dZ (aJ rfl vr vr) (by first |exact dZ (aJ rfl aA vr) (bL (aJ rfl vr vr) (aJ rfl vr vr))|exact bL (aJ rfl aA vr) (bL (aJ rfl vr vr) (aJ rfl vr vr)))|exact bL (aJ rfl vr vr) (by first |exact dZ (aJ rfl aA vr) (bL (aJ rfl vr vr) (aJ rfl vr vr))|exact bL (aJ rfl aA vr) (bL (aJ rfl vr vr) (aJ rfl vr vr))))) (dc (fA rfl (jB rfl rfl vr (bJ (ac rfl vr (ac rfl vr (ac rfl vr aB)))))) aD) aD) aD))) (dc (aZ (aJ rfl (aE (aL (λ_ _=>rfl) vr aA) aA) aA) (dc (aQ rfl (by trivial) rfl (bJ (ac rfl (aE (aL (λ_ _=>rfl) vr aA) vr) (ac rfl (aE (aL (λ_ _=>rfl) vr aA) vr) (ac rfl (aE vr (aE (aE (aL (λ_ _=>rfl) vr aA) aA) (aE aA vr))) aB))))) (dc (aQ rfl (by trivial) rfl (aE (jW (gX (by trivial)) rfl (by trivial) (BF vr) (pM (aJ rfl (CP vr aA) (CP vr aA)) iP) vr) (cL (ac rfl vr aB)))) aD)) aD) (dc (aU (bJ (ac rfl vr (ac rfl vr (ac rfl vr (ac rfl vr (ac rfl (aO (by trivial) (ac rfl (aO (by trivial) (ac rfl (OD vr (dR aA)) aB)) aB)) aB))))))) aD)))))))
theorem ZB:eM ["_law_d"] (aH (top 70)) G A6 (aM (top 70)):=(dc (aU (bJ (ac rfl (aE (aL (λ_ _=>rfl) vr aA) aA) (ac rfl (aE (aE (aL (λ_ _=>rfl) vr aA) aA) aA) (ac rfl (aE (aE (aL (λ_ _=>rfl) vr aA) aA) aA) aB))))) aD)
theorem ZA:eM ["_law_book","_law_pane_here","_law_handed","_law_told","e"] (aH (top 71)) G A4 (aM (top 71)):=(dc (aQ rfl (by trivial) rfl cB) (dc (GV rfl (by trivial) rfl (.cons (.one (.cs (by trivial))) (.cons (.ifc (.isv (by trivial)) (.cs (by trivial))) (.cons (.ifa (.isx (by trivial)) rfl (by trivial)) (.cons (.ifa (.isx (by trivial)) rfl (by trivial)) (.cons (.ifa (.isx (by trivial)) rfl (by trivial)) (.cons (.ifa (.isx (by trivial)) rfl (by trivial)) .nil)))))) (dc (NY (by trivial) (λ_=>⟨_,rfl⟩) vr (ac rfl (aL (λ_ _=>rfl) vr aA) (ac rfl (aL (λ_ _=>rfl) vr aA) (ac rfl (aL (λ_ _=>rfl) vr aA) (ac rfl (aL (λ_ _=>rfl) vr aA) (ac rfl vr aB)))))) aD)) (dc (aU vr) aD)))
theorem YZ:eM ["_law_panes","_law_pane_here"] (aH (top 72)) G A3 (aM (top 72)):=(dc (aZ (by first |exact CU (aJ rfl (aO (by trivial) (ac rfl (aL (λ_ _=>rfl) vr aA) aB)) aA) (jV (aJ rfl (aO (by trivial) (ac rfl (aL (λ_ _=>rfl) vr aA) aB)) aA) (aJ rfl cB (aL (λ_ _=>rfl) vr aA)))|exact jV (aJ rfl (aO (by trivial) (ac rfl (aL (λ_ _=>rfl) vr aA) aB)) aA) (jV (aJ rfl (aO (by trivial) (ac rfl (aL (λ_ _=>rfl) vr aA) aB)) aA) (aJ rfl cB (aL (λ_ _=>rfl) vr aA)))) (dc (aU cB) aD) aD) (dc (aZ (jV (aJ rfl (aL (λ_ _=>rfl) vr aA) aA) (aJ rfl (aL (λ_ _=>rfl) vr aA) aA)) (dc (aU cB) aD) aD) (dc (aZ (aJ rfl (aL (λ_ _=>rfl) vr aA) vr) (dc (aU cB) aD) aD) (dc (aZ (aJ rfl (aO (by trivial) (ac rfl vr aB)) aA) (dc (aU cB) aD) aD) (dc (aU cB) aD)))))
theorem YY:eM ["_law_d","_law_heaven_here","_law_letters","_law_size","_law_name","_law_pane_here","_law_way"] (aH (top 73)) G A2 (aM (top 73)):=(dc (aQ rfl (by trivial) rfl cB) (dc (aQ rfl (by trivial) rfl (aE aA (aE (aE (aL (λ_ _=>rfl) vr aA) aA) (aE (aE (aL (λ_ _=>rfl) vr aA) aA) aA)))) (dc (aQ rfl (by trivial) rfl (aE (aL (λ_ _=>rfl) vr (aE (aE (aL (λ_ _=>rfl) vr aA) aA) aA)) (aE cB (aE vr aA)))) (dc (aQ rfl (by trivial) rfl (aO (by trivial) (ac rfl (bH rfl (by trivial) (ac rfl vr (ac rfl (bH rfl (by trivial) (ac rfl vr aB)) (ac rfl vr (ac rfl vr aB))))) aB))) (dc (aQ rfl (by trivial) rfl (aE (aL (λ_ _=>rfl) vr aA) aA)) (dc (aZ (aJ rfl vr aA) (dc (qG rfl (λ_ _=>rfl) (aL (λ_ _=>rfl) (cL (ac rfl cB (ac rfl cB (ac rfl cB (ac rfl cB aB))))) (aE (aE (aL (λ_ _=>rfl) vr aA) aA) aA)) vr aA) aD) aD) (dc (aZ (jV (aJ rfl vr aA) (aJ rfl vr aA)) (dc (qG rfl (λ_ _=>rfl) (aL (λ_ _=>rfl) (cL (ac rfl aA (ac rfl aA aB))) (aE vr aA)) vr (aE (aE vr aA) (aE vr aA))) aD) aD) (dc (aU vr) aD))))))))
theorem TQ:eM ["_law_script","_law_book","_law_panes","_law_heaven_here","_law_k","_law_d","_law_pane_here","_law_due_here","_law_handed","_law_told","_law_name"] (aH (top 74)) G A0 (aM (top 74)):=(dc (aQ rfl (by trivial) rfl (GZ (by trivial) (by trivial))) (dc (aQ rfl (by trivial) rfl CY) (dc (aQ rfl (by trivial) rfl (bH rfl (by trivial) (ac rfl vr aB))) (dc (qH (by trivial) (by trivial) rfl (aO (by trivial) (ac rfl (aE (aO (by trivial) (ac rfl vr aB)) aA) (ac rfl aA aB))) (dc (aQ rfl (by trivial) rfl (bH rfl (by trivial) (ac rfl vr (ac rfl vr (ac rfl aA aB))))) (dc (aQ rfl (by trivial) rfl (bH rfl (by trivial) (ac rfl vr (ac rfl vr aB)))) (dc (aZ (bL (aJ rfl (aE (aL (λ_ _=>rfl) vr aA) aA) aA) (aJ rfl (aL (λ_ _=>rfl) vr aA) vr)) (dc (fA rfl (OF rfl rfl vr (aL (λ_ _=>rfl) vr aA))) (dc (aZ (aJ rfl (iZ (by trivial) (λ_=>⟨_,rfl⟩) vr (ac rfl (aL (λ_ _=>rfl) vr aA) aB)) uN) (dc (aU iL) aD) aD) aD)) (dc (aQ rfl (by trivial) rfl (bH rfl (by trivial) (ac rfl vr (ac rfl vr aB)))) (dc (aQ rfl (by trivial) rfl (CS (aO (by trivial) (ac rfl (aL (λ_ _=>rfl) vr aA) aB)))) (dc (aZ (jV (aJ rfl (bH rfl (by trivial) (ac rfl vr (ac rfl vr (ac rfl vr aB)))) vr) (aJ rfl vr (CS (aO (by trivial) (ac rfl (aL (λ_ _=>rfl) vr aA) aB))))) (dc (aU iL) aD) aD) (dc (fA rfl (jB rfl rfl vr (bJ (ac rfl aA (ac rfl aA (ac rfl aA aB)))))) (dc (aZ (aJ rfl vr cB) (dc (qG rfl (λ_ _=>rfl) vr vr (aL (λ_ _=>rfl) vr aA)) aD) aD) aD)))))) (dc (aQ rfl (by trivial) rfl (lQ (by trivial) (λ_=>⟨_,rfl⟩) vr)) (dc (aZ (gW (bH rfl (by trivial) (ac rfl vr (ac rfl (CQ (by trivial) rfl vr) aB)))) (dc (aU iL) aD) aD) (dc (fA rfl (jB rfl rfl vr cB)) aD))))))) (dc (GW (λxo hfn=>LW xo hfn (by trivial)) (λ_=>rfl) rfl vr (dc (aQ rfl (by trivial) rfl (iZ (by trivial) (λ_=>⟨_,rfl⟩) vr (ac rfl vr aB))) (dc (aZ (jV (gW (bH rfl (by trivial) (ac rfl vr (ac rfl (aO (by trivial) (ac rfl (aL (λ_ _=>rfl) vr aA) aB)) aB)))) (gW (bH rfl (by trivial) (ac rfl (iZ (by trivial) (λ_=>⟨_,rfl⟩) vr (ac rfl vr aB)) (ac rfl (aO (by trivial) (ac rfl (OE vr aA aA) aB)) aB))))) (dc (aU iL) aD) aD) (dc (fA rfl (jB rfl rfl vr (bJ (ac rfl aA (ac rfl aA (ac rfl aA aB)))))) (dc (aZ (gW (bH rfl (by trivial) (ac rfl (iZ (by trivial) (λ_=>⟨_,rfl⟩) vr (ac rfl vr aB)) (ac rfl (aO (by trivial) (ac rfl (aL (λ_ _=>rfl) vr aA) aB)) aB)))) (dc (aU iL) aD) aD) aD))))) (dc (aU iL) aD))))))
theorem YX:eM ["self","name","width","height","limit","stars"] (aH (mtop 37 0)) G ZZ (aM (mtop 37 0)):=(dc (aZ (gW (bH rfl (by trivial) (ac rfl vr aB))) (dc (iD rfl (by trivial)) aD) aD) (dc (aZ (gW (bH rfl (by trivial) (ac rfl vr (ac rfl vr (ac rfl vr aB))))) (dc (iD rfl (by trivial)) aD) aD) (dc (aZ (aJ rfl (aO (by trivial) (ac rfl vr aB)) (lG gc4 (by trivial))) (dc (iD rfl (by trivial)) aD) aD) (dc (dG (by trivial) (λ_=>rfl) vr vr) (dc (dG (by trivial) (λ_=>rfl) vr vr) (dc (dG (by trivial) (λ_=>rfl) vr vr) (dc (dG (by trivial) (λ_=>rfl) vr vr) (dc (dG (by trivial) (λ_=>rfl) (OH (gX (by trivial)) rfl (by trivial) vr (bJ (ac rfl vr (ac rfl vr aB))) vr) vr) (dc (aZ (aJ rfl (aO (by trivial) (ac rfl (bB (by trivial) (λ_=>rfl) vr) aB)) (aO (by trivial) (ac rfl vr aB))) (dc (iD rfl (by trivial)) aD) aD) (dc (aZ (gW (lQ (by trivial) (λ_=>⟨_,rfl⟩) vr)) (dc (iD rfl (by trivial)) aD) aD) aD))))))))))
theorem YW:eM ["self"] (aH (mtop 37 1)) G ZY (aM (mtop 37 1)):=(dc (aU (aO (by trivial) (ac rfl (jW (gX (by trivial)) rfl (by trivial) (BG (λ_=>rfl) rfl (bB (by trivial) (λ_=>rfl) vr)) iP (bL (iZ (by trivial) (λ_=>⟨_,rfl⟩) vr (ac rfl vr aB)) (jA (by with_unfolding_all rfl) (bB (by trivial) (λ_=>rfl) vr) vr (lG XY (by trivial))))) aB))) aD)
theorem YV:eM ["self"] (aH (mtop 37 2)) G ZX (aM (mtop 37 2)):=(dc (aU (aO (by trivial) (ac rfl (jW (gX (by trivial)) rfl (by trivial) (BG (λ_=>rfl) rfl (bB (by trivial) (λ_=>rfl) vr)) iP (bJ (ac rfl vr (ac rfl vr (ac rfl vr aB))))) aB))) aD)
theorem YU:eM ["self","place","x","y"] (aH (mtop 37 3)) G ZW (aM (mtop 37 3)):=(dc (lP (by trivial) rfl (λ_=>rfl) vr) (dc (aU (bL (jA (by with_unfolding_all rfl) aA vr (bB (by trivial) (λ_=>rfl) vr)) (jA (by with_unfolding_all rfl) aA vr (bB (by trivial) (λ_=>rfl) vr)))) aD))
theorem YT:eM ["self","plates","standing","coming"] (aH (mtop 51 0)) G ZV (aM (mtop 51 0)):=(dc (dG (by trivial) (λ_=>rfl) vr vr) (dc (dG (by trivial) (λ_=>rfl) vr vr) (dc (dG (by trivial) (λ_=>rfl) vr vr) aD)))
theorem YS:eM ["self"] (aH (mtop 61 0)) G ZU (aM (mtop 61 0)):=(dc (dG (by trivial) (λ_=>rfl) (CZ rfl (by trivial)) vr) (dc (dG (by trivial) (λ_=>rfl) (cL aB) vr) (dc (dG (by trivial) (λ_=>rfl) (cL aB) vr) aD)))
theorem YR:eM ["self","deed","page"] (aH (mtop 61 1)) G ZT (aM (mtop 61 1)):=(dc (fA rfl (HA (λ_=>rfl) rfl rfl (bB (by trivial) (λ_=>rfl) vr) (bJ (ac rfl vr (ac rfl (bB (by trivial) (λ_=>rfl) vr) aB))))) (dc (dG (by trivial) (λ_=>rfl) vr vr) (dc (dG (by trivial) (λ_=>rfl) (cL aB) vr) aD)))
theorem YQ:eM ["self","name","width","height","limit","stars","plate","page"] (aH (mtop 61 2)) G ZS (aM (mtop 61 2)):=(dc (OA (by trivial) (by trivial) (by trivial) (ac rfl vr (ac rfl vr (ac rfl vr (ac rfl vr (ac rfl vr aB)))))) (dc (GX (by trivial) (λ_=>rfl) (λ_=>rfl) rfl (by trivial) (ac rfl (bB (by trivial) (λ_=>rfl) vr) (ac rfl vr aB))) (dc (fA rfl (iZ (by trivial) (λ_=>⟨_,rfl⟩) vr (ac rfl (bJ (ac rfl cB (ac rfl vr (ac rfl vr (ac rfl vr (ac rfl vr (ac rfl (aO (by trivial) (ac rfl (lQ (by trivial) (λ_=>⟨_,rfl⟩) vr) aB)) aB))))))) (ac rfl vr aB)))) aD)))
theorem YO:eM ["self","name"] (aH (mtop 61 3)) G ZR (aM (mtop 61 3)):=(dc (fA rfl (iZ (by trivial) (λ_=>⟨_,rfl⟩) vr (ac rfl (bJ (ac rfl cB (ac rfl vr aB))) (ac rfl (bH rfl (by trivial) (ac rfl (bB (by trivial) (λ_=>rfl) vr) (ac rfl vr aB))) aB)))) aD)
theorem YN:eM ["self"] (aH (mtop 61 8)) G ZQ (aM (mtop 61 8)):=(dc (aU (CQ (by trivial) rfl (bB (by trivial) (λ_=>rfl) (bB (by trivial) (λ_=>rfl) vr)))) aD)
theorem YM:eM ["self","name","plate"] (aH (mtop 61 9)) G ZP (aM (mtop 61 9)):=(dc (fA rfl (bH rfl (by trivial) (ac rfl (bB (by trivial) (λ_=>rfl) vr) (ac rfl (cL (ac rfl vr aB)) aB)))) (dc (aQ rfl (by trivial) rfl (aL (λ_ _=>rfl) (bB (by trivial) (λ_=>rfl) (bB (by trivial) (λ_=>rfl) vr)) vr)) (dc (aU (bJ (ac rfl (bB (by trivial) (λ_=>rfl) vr) (ac rfl (bB (by trivial) (λ_=>rfl) vr) (ac rfl (bB (by trivial) (λ_=>rfl) vr) aB))))) aD)))
theorem YL:eM ["self","name"] (aH (mtop 61 10)) G ZO (aM (mtop 61 10)):=(dc (fA rfl (bH rfl (by trivial) (ac rfl (bB (by trivial) (λ_=>rfl) vr) (ac rfl (cL (ac rfl vr aB)) aB)))) (dc (aU (lQ (by trivial) (λ_=>⟨_,rfl⟩) (aL (λ_ _=>rfl) (bB (by trivial) (λ_=>rfl) (bB (by trivial) (λ_=>rfl) vr)) vr))) aD))
theorem all_mk{K:W.Frag}{h:Heap}{mg:Str->Option Value}{fa:Addr}(X:K.In h)(Gn:h.Ns mainGlobals mg)(hfa:mg "law"=some (.ref fa))
 {C0 C1 C2 c0 c1 c2 c3 c4 c5:Addr}{u0 u1 u2 u3 u4 u5:Tok}
 (gb0:GF K "is_name" (top 35))
 (gb1:GF K "is_window" (top 36))
 (gb2:GF K "blank_page" (top 52))
 (gb3:GF K "need_plates" (top 53))
 (gb4:GF K "with_plate" (top 54))
 (gb5:GF K "without_plate" (top 55))
 (gb6:GF K "_law_draws" (top 63))
 (gb7:GF K "_law_turned" (top 64))
 (gb8:GF K "_law_moved" (top 65))
 (gb9:GF K "_law_back" (top 66))
 (gb10:GF K "_law_same" (top 67))
 (gb11:GF K "_law_heaven" (top 68))
 (gb12:GF K "_law_pane" (top 69))
 (gb13:GF K "_law_home" (top 70))
 (gb14:GF K "_law_put" (top 71))
 (gb15:GF K "_law_due" (top 72))
 (gb16:GF K "_law_made" (top 73))
 (gb17:GF K "law" (top 74))
 (ka0:W.nsIn K mainGlobals "Plate"=some (some (.ref C0)))
 (ka1:W.nsIn K mainGlobals "Page"=some (some (.ref C1)))
 (ka2:W.nsIn K mainGlobals "Book"=some (some (.ref C2)))
 (gm18:GM K C0 "__init__" "Plate.__init__" (mtop 37 0))
 (gm19:GM K C0 "shows_its_stars" "Plate.shows_its_stars" (mtop 37 1))
 (gm20:GM K C0 "stars" "Plate.stars" (mtop 37 2))
 (gm21:GM K C0 "holds" "Plate.holds" (mtop 37 3))
 (gm22:GM K C1 "__init__" "Page.__init__" (mtop 51 0))
 (gm23:GM K C2 "__init__" "Book.__init__" (mtop 61 0))
 (gm24:GM K C2 "write" "Book.write" (mtop 61 1))
 (gm25:GM K C2 "put" "Book.put" (mtop 61 2))
 (gm26:GM K C2 "drop" "Book.drop" (mtop 61 3))
 (gm27:GM K C2 "names" "Book.names" (mtop 61 8))
 (gm28:GM K C2 "window" "Book.window" (mtop 61 9))
 (gm29:GM K C2 "stars_of" "Book.stars_of" (mtop 61 10))
 (L0:Cls K C0)
 (kf0:W.makesIn K C0=true/\W.keepIn K (.ref C0)=true)
 (L1:Cls K C1)
 (kf1:W.makesIn K C1=true/\W.keepIn K (.ref C1)=true)
 (L2:Cls K C2)
 (kf2:W.makesIn K C2=true/\W.keepIn K (.ref C2)=true)
 (kn0:W.findIn K (.ref C0) "name"=some none)
 (kn1:W.findIn K (.ref C0) "width"=some none)
 (kn2:W.findIn K (.ref C0) "height"=some none)
 (kn3:W.findIn K (.ref C0) "limit"=some none)
 (kn4:W.findIn K (.ref C0) "bright_at"=some none)
 (kn5:W.findIn K (.ref C1) "plates"=some none)
 (kn6:W.findIn K (.ref C1) "standing"=some none)
 (kn7:W.findIn K (.ref C1) "coming"=some none)
 (kn8:W.findIn K (.ref C2) "page"=some none)
 (kn9:W.findIn K (.ref C2) "past"=some none)
 (kn10:W.findIn K (.ref C2) "future"=some none)
 (ga0:W.nsIn K mainGlobals "BRIGHTEST"=some (some (.int (9) u0)))
 (ga1:W.nsIn K mainGlobals "LETTERS"=some (some (.str "abcdefghijklmnopqrstuvwxyz" u1)))
 (ga2:W.nsIn K mainGlobals "LONGEST_NAME"=some (some (.int (8) u2)))
 (ga3:W.nsIn K mainGlobals "LONGEST_SIDE"=some (some (.int (8) u3)))
 (ga4:W.nsIn K mainGlobals "MOST_STARS"=some (some (.int (8) u4)))
 (ga5:W.nsIn K mainGlobals "MOST_PLATES"=some (some (.int (12) u5)))
 (xa0:W.nsIn K mainGlobals "GlassError"=some (some (.ref c0)))
 (E0:ExcF K c0)
 (xa1:W.nsIn K mainGlobals "BadName"=some (some (.ref c1)))
 (E1:ExcF K c1)
 (xa2:W.nsIn K mainGlobals "BadPlate"=some (some (.ref c2)))
 (E2:ExcF K c2)
 (xa3:W.nsIn K mainGlobals "NoPlate"=some (some (.ref c3)))
 (E3:ExcF K c3)
 (xa4:W.nsIn K mainGlobals "Taken"=some (some (.ref c4)))
 (E4:ExcF K c4)
 (xa5:W.nsIn K mainGlobals "Full"=some (some (.ref c5)))
 (E5:ExcF K c5)
 (xe0:W.exmOne K (.ref c0) (.ref c0)=some true/\W.kitOne K (.ref c0) (.ref c0)=some true)
 (xe1:W.exmOne K (.ref c1) (.ref c1)=some true/\W.kitOne K (.ref c1) (.ref c1)=some true)
 (xe2:W.exmOne K (.ref c1) (.ref c0)=some true/\W.kitOne K (.ref c1) (.ref c0)=some true)
 (xe3:W.exmOne K (.ref c2) (.ref c2)=some true/\W.kitOne K (.ref c2) (.ref c2)=some true)
 (xe4:W.exmOne K (.ref c2) (.ref c0)=some true/\W.kitOne K (.ref c2) (.ref c0)=some true)
 (xe5:W.exmOne K (.ref c3) (.ref c3)=some true/\W.kitOne K (.ref c3) (.ref c3)=some true)
 (xe6:W.exmOne K (.ref c4) (.ref c4)=some true/\W.kitOne K (.ref c4) (.ref c4)=some true)
 (xe7:W.exmOne K (.ref c4) (.ref c0)=some true/\W.kitOne K (.ref c4) (.ref c0)=some true)
 (xe8:W.exmOne K (.ref c5) (.ref c5)=some true/\W.kitOne K (.ref c5) (.ref c5)=some true)
 (xe9:W.exmOne K (.ref c5) (.ref c0)=some true/\W.kitOne K (.ref c5) (.ref c0)=some true)
 (N1:ExcN K c1)
 (N2:ExcN K c2)
 (N4:ExcN K c4)
 (N5:ExcN K c5)
 (nh0:W.kitOne K (.ref c1) (.ref c2)=some false)
 (nh1:W.kitOne K (.ref c1) (.ref c4)=some false)
 (nh2:W.kitOne K (.ref c1) (.ref c5)=some false)
 (nh3:W.kitOne K (.ref c2) (.ref c1)=some false)
 (nh4:W.kitOne K (.ref c2) (.ref c4)=some false)
 (nh5:W.kitOne K (.ref c2) (.ref c5)=some false)
 (nh6:W.kitOne K (.ref c4) (.ref c1)=some false)
 (nh7:W.kitOne K (.ref c4) (.ref c2)=some false)
 (nh8:W.kitOne K (.ref c4) (.ref c5)=some false)
 (nh9:W.kitOne K (.ref c5) (.ref c1)=some false)
 (nh10:W.kitOne K (.ref c5) (.ref c2)=some false)
 (nh11:W.kitOne K (.ref c5) (.ref c4)=some false)
 (z_len:W.nsIn K mainGlobals "len"=some none)
 (z_isinstance:W.nsIn K mainGlobals "isinstance"=some none)
 (z_int:W.nsIn K mainGlobals "int"=some none)
 (z_list:W.nsIn K mainGlobals "list"=some none)
 (z_bool:W.nsIn K mainGlobals "bool"=some none)
 (z_str:W.nsIn K mainGlobals "str"=some none)
 (z_tuple:W.nsIn K mainGlobals "tuple"=some none)
 (z_range:W.nsIn K mainGlobals "range"=some none)
 (z_max:W.nsIn K mainGlobals "max"=some none)
 (z_min:W.nsIn K mainGlobals "min"=some none)
 (z_sorted:W.nsIn K mainGlobals "sorted"=some none)
 (z_all:W.nsIn K mainGlobals "all"=some none)
 (z_dict:W.nsIn K mainGlobals "dict"=some none)
 (z_ValueError:W.nsIn K mainGlobals "ValueError"=some none)
 :∃ca:Nat->Addr,PrOk K mg G ca T/\∃fd:FuncData,(∀(s:Shared)(u:Value),BindsTo s fd ⟨[u],[]⟩ [("_law_script",u)])/\∃c st N qual,T 17=some c/\Fun K "law" qual st fa fd/\FnScope N ["_law_script"] (aH st)/\1=c.np/\N.length=c.ns/\eM N (aH st) G c.body (aM st):=by
 have⟨_,_,fl,Fl⟩:=gb17;have e:=hfa.symm.trans (W.mg_of X Gn fl);cases e;have⟨_,_,_,_,_,_,_,_,_,e,_⟩:=Fl.ex;subst e;refine⟨λi=>([c0,c1,c2,c3,c4,c5]:List Addr).getD i 0,⟨λf x hf=>?_,λg x d hg=>?_,λb=>?_,λt=>?_,W.mg_none_of X Gn z_range,λc x hx=>?_,λq hq=>?_,λq hq=>?_,W.mg_none_of X Gn z_ValueError,λp hp=>?_,λp hp=>?_,λp hp=>?_⟩,?_⟩
 ·refine AllP.get0 (P:=λf x=>∃c,T f=some c/\OZ K mg G x c) (l:=G.fns) ?_ hf;refine⟨⟨_,rfl,gb0.ok X Gn ["text"] ck0⟩,?_⟩;refine⟨⟨_,rfl,gb1.ok X Gn ["width","height","limit"] ck1⟩,?_⟩;refine⟨⟨_,rfl,gb2.ok X Gn [] ck2⟩,?_⟩;refine⟨⟨_,rfl,gb3.ok X Gn ["page","names"] ck3⟩,?_⟩;refine⟨⟨_,rfl,gb4.ok X Gn ["page","plate"] ck4⟩,?_⟩;refine⟨⟨_,rfl,gb5.ok X Gn ["page","name"] ck5⟩,?_⟩;refine⟨⟨_,rfl,gb6.ok X Gn ["_law_script","_law_at","_law_many"] ck6⟩,?_⟩;refine⟨⟨_,rfl,gb7.ok X Gn ["_law_turn","_law_x","_law_y"] ck7⟩,?_⟩;refine⟨⟨_,rfl,gb8.ok X Gn ["_law_motion","_law_place"] ck8⟩,?_⟩;refine⟨⟨_,rfl,gb9.ok X Gn ["_law_motion"] ck9⟩,?_⟩;refine⟨⟨_,rfl,gb10.ok X Gn ["_law_found","_law_due_here"] ZE⟩,?_⟩;refine⟨⟨_,rfl,gb11.ok X Gn ["_law_script"] ZD⟩,?_⟩;refine⟨⟨_,rfl,gb12.ok X Gn ["_law_name","_law_home_here","_law_heaven_here","_law_d"] ZC⟩,?_⟩;refine⟨⟨_,rfl,gb13.ok X Gn ["_law_d"] ZB⟩,?_⟩;refine⟨⟨_,rfl,gb14.ok X Gn ["_law_book","_law_pane_here","_law_handed"] ZA⟩,?_⟩;refine⟨⟨_,rfl,gb15.ok X Gn ["_law_panes","_law_pane_here"] YZ⟩,?_⟩;refine⟨⟨_,rfl,gb16.ok X Gn ["_law_d","_law_heaven_here"] YY⟩,?_⟩;refine⟨⟨_,rfl,gb17.ok X Gn ["_law_script"] TQ⟩,?_⟩;exact trivial
 ·refine AllP.get0 (P:=λ_ p=>∃v u,mg p.1=some u/\RelV v u/\∀m H,RD K m H p.2 v) (l:=G.csts) ?_ hg;refine⟨⟨V.int (9),_,W.mg_of X Gn ga0,⟨_,rfl⟩,λm H=>RD.int _⟩,?_⟩;refine⟨⟨V.str "abcdefghijklmnopqrstuvwxyz",_,W.mg_of X Gn ga1,⟨_,rfl⟩,λm H=>RD.str _⟩,?_⟩;refine⟨⟨V.int (8),_,W.mg_of X Gn ga2,⟨_,rfl⟩,λm H=>RD.int _⟩,?_⟩;refine⟨⟨V.int (8),_,W.mg_of X Gn ga3,⟨_,rfl⟩,λm H=>RD.int _⟩,?_⟩;refine⟨⟨V.int (8),_,W.mg_of X Gn ga4,⟨_,rfl⟩,λm H=>RD.int _⟩,?_⟩;refine⟨⟨V.int (12),_,W.mg_of X Gn ga5,⟨_,rfl⟩,λm H=>RD.int _⟩,?_⟩;exact trivial
 ·cases b
  ·exact W.mg_none_of X Gn z_len
  ·exact W.mg_none_of X Gn z_isinstance
  ·exact W.mg_none_of X Gn z_int
  ·exact W.mg_none_of X Gn z_list
  ·exact W.mg_none_of X Gn z_max
  ·exact W.mg_none_of X Gn z_min
  ·exact W.mg_none_of X Gn z_sorted
  ·exact W.mg_none_of X Gn z_all
  ·exact W.mg_none_of X Gn z_tuple
 ·cases t
  ·exact W.mg_none_of X Gn z_int
  ·exact W.mg_none_of X Gn z_bool
  ·exact W.mg_none_of X Gn z_str
  ·exact W.mg_none_of X Gn z_tuple
  ·exact W.mg_none_of X Gn z_list
  ·exact W.mg_none_of X Gn z_dict
 ·refine AllP.get0 (P:=λc x=>mg x=some (.ref (([c0,c1,c2,c3,c4,c5]:List Addr).getD c 0))/\ExcF K (([c0,c1,c2,c3,c4,c5]:List Addr).getD c 0)) (l:=G.excs) ?_ hx;refine⟨⟨W.mg_of X Gn xa0,E0⟩,?_⟩;refine⟨⟨W.mg_of X Gn xa1,E1⟩,?_⟩;refine⟨⟨W.mg_of X Gn xa2,E2⟩,?_⟩;refine⟨⟨W.mg_of X Gn xa3,E3⟩,?_⟩;refine⟨⟨W.mg_of X Gn xa4,E4⟩,?_⟩;refine⟨⟨W.mg_of X Gn xa5,E5⟩,?_⟩;exact trivial
 ·simp only[G,List.mem_cons,List.not_mem_nil,or_false] at hq;rcases hq with rfl|rfl|rfl|rfl|rfl|rfl|rfl|rfl|rfl|rfl
  ·exact⟨xe0.1,xe0.2,E0⟩
  ·exact⟨xe1.1,xe1.2,E1⟩
  ·exact⟨xe2.1,xe2.2,E1⟩
  ·exact⟨xe3.1,xe3.2,E2⟩
  ·exact⟨xe4.1,xe4.2,E2⟩
  ·exact⟨xe5.1,xe5.2,E3⟩
  ·exact⟨xe6.1,xe6.2,E4⟩
  ·exact⟨xe7.1,xe7.2,E4⟩
  ·exact⟨xe8.1,xe8.2,E5⟩
  ·exact⟨xe9.1,xe9.2,E5⟩
 ·simp only[G,List.mem_cons,List.not_mem_nil,or_false] at hq;rcases hq with rfl|rfl|rfl|rfl|rfl|rfl|rfl|rfl|rfl|rfl|rfl|rfl
  ·exact⟨nh0,N1⟩
  ·exact⟨nh1,N1⟩
  ·exact⟨nh2,N1⟩
  ·exact⟨nh3,N2⟩
  ·exact⟨nh4,N2⟩
  ·exact⟨nh5,N2⟩
  ·exact⟨nh6,N4⟩
  ·exact⟨nh7,N4⟩
  ·exact⟨nh8,N4⟩
  ·exact⟨nh9,N5⟩
  ·exact⟨nh10,N5⟩
  ·exact⟨nh11,N5⟩
 ·refine AllP.mem (i:=0) (P:=λp=>∃C,W.nsIn K mainGlobals p.1=some (some (.ref C))/\Cls K C/\NoAttr K C p.2) (l:=G.atts) ?_ hp;refine⟨⟨_,ka0,L0,kn0⟩,?_⟩;refine⟨⟨_,ka0,L0,kn1⟩,?_⟩;refine⟨⟨_,ka0,L0,kn2⟩,?_⟩;refine⟨⟨_,ka0,L0,kn3⟩,?_⟩;refine⟨⟨_,ka0,L0,kn4⟩,?_⟩;refine⟨⟨_,ka1,L1,kn5⟩,?_⟩;refine⟨⟨_,ka1,L1,kn6⟩,?_⟩;refine⟨⟨_,ka1,L1,kn7⟩,?_⟩;refine⟨⟨_,ka2,L2,kn8⟩,?_⟩;refine⟨⟨_,ka2,L2,kn9⟩,?_⟩;refine⟨⟨_,ka2,L2,kn10⟩,?_⟩;exact trivial
 ·refine AllP.mem (i:=0) (P:=λp=>∃C c,W.nsIn K mainGlobals p.1=some (some (.ref C))/\Cls K C/\T p.2.2=some c/\FmOk K G (λfa=>Meth K C p.2.1 fa) p.2.1 c) (l:=G.meths) ?_ hp;refine⟨⟨_,_,ka0,L0,rfl,gm19.ok ["self"] YW⟩,?_⟩;refine⟨⟨_,_,ka0,L0,rfl,gm20.ok ["self"] YV⟩,?_⟩;refine⟨⟨_,_,ka0,L0,rfl,gm21.ok ["self","place"] YU⟩,?_⟩;refine⟨⟨_,_,ka2,L2,rfl,gm24.ok ["self","deed","page"] YR⟩,?_⟩;refine⟨⟨_,_,ka2,L2,rfl,gm25.ok ["self","name","width","height","limit","stars"] YQ⟩,?_⟩;refine⟨⟨_,_,ka2,L2,rfl,gm26.ok ["self","name"] YO⟩,?_⟩;refine⟨⟨_,_,ka2,L2,rfl,gm27.ok ["self"] YN⟩,?_⟩;refine⟨⟨_,_,ka2,L2,rfl,gm28.ok ["self","name"] YM⟩,?_⟩;refine⟨⟨_,_,ka2,L2,rfl,gm29.ok ["self","name"] YL⟩,?_⟩;exact trivial
 ·refine AllP.mem (i:=0) (P:=λp=>∃C c,W.nsIn K mainGlobals p.1=some (some (.ref C))/\mg p.1=some (.ref C)/\T p.2=some c/\FmOk K G (λfa=>Mk K C fa) "__init__" c) (l:=G.news) ?_ hp;refine⟨⟨_,_,ka0,W.mg_of X Gn ka0,rfl,gm18.ini kf0 ["self","name","width","height","limit","stars"] YX⟩,?_⟩;refine⟨⟨_,_,ka1,W.mg_of X Gn ka1,rfl,gm22.ini kf1 ["self","plates","standing","coming"] YT⟩,?_⟩;refine⟨⟨_,_,ka2,W.mg_of X Gn ka2,rfl,gm23.ini kf2 ["self"] YS⟩,?_⟩;exact trivial
 ·exact⟨_,λs v=>.of_eq rfl,_,_,_,_,rfl,Fl,by trivial,rfl,rfl,TQ⟩
end Pk25
namespace Pk25
open PySem L2 Ng
noncomputable def W:Nat:=2000
theorem TH(n:Nat)(ns:List Int)(at':Int)(M:Nat)(hM:M<=1000)(h:Hh)(h0:0<=at')(h1:at'<100000)(hs:aI h 0=some (ns.map D.int)):∃row:List Int,row.length=M/\InR row/\aR G T W (n+1) 6 [.ref 0,.int at',.int M] h=.ok (.ref h.length) (h++ [.lst (row.map D.int)]):=by
 obtain⟨row,r1,r2,e⟩:=CM G (aR G T W n) W h 0 ns at' M hM h0 h1 hs (by decide);refine⟨row,r1,r2,?_⟩;rw[aV (c:=⟨3,7,b6⟩) rfl rfl];have e':bR G (aR G T W n) W b6 _ h=_:=e
 show(bR G (aR G T W n) W b6 [some (.ref 0),some (.int at'),some (.int M),none,none,none,none] h).bind cK=_
 rw[e'];rfl
theorem SA(h:Hh)(l:List D)(i:Int):lJ (.ref h.length) (.int i) (h++ [.lst l])=(match lM l i with|some d=>.ok d (h++ [.lst l])|none=>.bad):=iW _ _ (aX _ _)
theorem mS(n:Nat)(t x y:Int)(h:Hh)(h0:0<=t)(h1:t<8):∃g,aR G T W (n+1) 7 [.int t,.int x,.int y] h=.ok (.tup [.int (tx t x y),.int (ty t x y)]) (h++g):=by
 rw[aV (c:=⟨3,3,b7⟩) rfl rfl];generalize aR G T W n=cl;refine⟨[.lst [.tup [.int x,.int y],.tup [.int (-y),.int x],.tup [.int (-x),.int (-y)],.tup [.int y,.int (-x)],.tup [.int (-x),.int y],.tup [.int (-y),.int (-x)],.tup [.int x,.int (-y)],.tup [.int y,.int x]]],?_⟩;have ea:=PP h0 h1 x y;generalize tx t x y=X,ty t x y=Y at ea⊢
 show(bR G cl W b7 [some (.int t),some (.int x),some (.int y)] h).bind cK=_
 rw[b7,bY (d:=.tup [.int X,.int Y]) (by
  rw[vB,uD,BZ];simp only[cE,bZ,sG,eF,JP,List.getElem?_cons_succ,yU,aC,List.length_cons,List.length_nil,Nat.reduceAdd,Nat.reduceLeDiff,if_true];rw[SA,ea];rfl)]
 rfl
theorem xT(n:Nat)(t p q x y:Int)(h:Hh)(h0:0<=t)(h1:t<8):∃g,aR G T W (n+2) 8 [.tup [.int t,.int p,.int q],.tup [.int x,.int y]] h=.ok (.tup [.int (tx t x y+p),.int (ty t x y+q)]) (h++g):=by
 obtain⟨g,e⟩:=mS n t x y h h0 h1;refine⟨g,?_⟩;rw[aV (c:=⟨2,4,b8⟩) rfl rfl];simp[b8,lM,yT,e]
theorem RP(n:Nat)(a:M3)(h:Hh)(ha:xN a):∃g,aR G T W (n+2) 9 [mo a] h=.ok (mo (bk a)) (h++g):=by
 obtain⟨t,p,q⟩:=a;obtain⟨b1,b2⟩:=zJ (t:=t) ha.1 ha.2;obtain⟨g,e⟩:=mS n (tb t) p q (h++ [.lst [.int 0,.int 3,.int 2,.int 1,.int 4,.int 5,.int 6,.int 7]]) b1 b2;refine⟨[.lst [.int 0,.int 3,.int 2,.int 1,.int 4,.int 5,.int 6,.int 7]]++g,?_⟩
 have ix:lJ (.ref h.length) (.int t) (h++ [.lst [.int 0,.int 3,.int 2,.int 1,.int 4,.int 5,.int 6,.int 7]])=.ok (.int (tb t)) (h++ [.lst [.int 0,.int 3,.int 2,.int 1,.int 4,.int 5,.int 6,.int 7]]):=by
  rw[iW _ _ (aX _ _)];rcases t8 ha.1 ha.2 with e|e|e|e|e|e|e|e<;>(simp only at e;subst e;rfl)
 rw[aV (c:=⟨1,4,b9⟩) rfl rfl, <- List.append_assoc];have i0:lJ (mo (t,p,q)) (.int 0) (h++ [.lst [.int 0,.int 3,.int 2,.int 1,.int 4,.int 5,.int 6,.int 7]])=.ok (.int t) (h++ [.lst [.int 0,.int 3,.int 2,.int 1,.int 4,.int 5,.int 6,.int 7]]):=rfl;have i1:lJ (mo (t,p,q)) (.int 1) (h++ [.lst [.int 0,.int 3,.int 2,.int 1,.int 4,.int 5,.int 6,.int 7]])=.ok (.int p) (h++ [.lst [.int 0,.int 3,.int 2,.int 1,.int 4,.int 5,.int 6,.int 7]]):=rfl;have i2:lJ (mo (t,p,q)) (.int 2) (h++ [.lst [.int 0,.int 3,.int 2,.int 1,.int 4,.int 5,.int 6,.int 7]])=.ok (.int q) (h++ [.lst [.int 0,.int 3,.int 2,.int 1,.int 4,.int 5,.int 6,.int 7]]):=rfl;simp[b9,bk,i0,i1,i2,ix,e];rfl
noncomputable abbrev zV:Ss:=(.cons (.iff (.not (.call 10 (.cons (.ix (.var 0) (.var 2)) (.cons (.ix (.var 1) (.var 2)) .nil)))) (.cons (.ret (.bl false)) .nil) .nil) .nil)
theorem rF{cl:Cl}(x y:D)(l:List D)(h:Hh)(hl:l.length<=1000)(ix:∀k:Nat,∀d,l[k]? =some d->lJ x (.int k) h=.ok d h/\lJ y (.int k) h=.ok d h)(hs:∀d∈l,cl 10 [d,d] h=.ok (.bl true) h)
 (ny:fG .len [y] h=.ok (.int l.length) h):
 ∃r',xs G cl W (.forr (.nm 2) (.r1 (.blt .len (.cons (.var 1) .nil))) zV) [some x,some y,none] h=.ok (.nx r') h:=by
 obtain⟨r',el,_⟩:=vX (t:=.nm 2) (body:=bR G cl W zV) (λr=>∃d2,r=[some x,some y,d2]) h (dP 0 l.length)
  (by
    rintro d hd r ⟨d2,rfl⟩;obtain⟨j,hj,rfl⟩:=zW hd;have ej:l[j]? =some l[j]:=Zd hj;obtain⟨i1,i2⟩:=ix j _ ej;have es:=hs l[j] (List.getElem_mem hj);exact⟨_,_,rfl,by simp[zV,i1,i2,es];rfl,_,rfl⟩)
  [some x,some y,none] ⟨none,rfl⟩
 exact⟨r',lU (j:=l.length) (h1:=h) (by simp[ny]) (pX (by omega)) el⟩
theorem oH(d:D)(hd:pd 0 d=true)(n:Nat)(h:Hh):aR G T W (n+1) 10 [d,d] h=.ok (.bl true) h:=by
 rw[aV (c:=⟨2,3,yQ⟩) rfl rfl];generalize aR G T W n=cl
 have e1:∀d:D,pd 0 d=true->ev G cl (.blt .isinst (.cons (.var 1) (.cons (.tup (.cons (.ty .tuple) (.cons (.ty .list) .nil))) .nil))) [some d,some d,none] h=.ok (.bl false) h:=λd hd=>by
  simp only[oU,cE,bZ,eF,sG,SH,List.getElem?_cons_succ,yU,aC,List.length_cons,List.length_nil,Nat.reduceAdd,Nat.reduceLeDiff,if_true,bIs];cases d<;>first |(cases hd;done)|rfl
 have eT:∀(d:D)(i:Nat)(t:Ty)(b:Bool),([some d,some d,none]:Ev)[i]? =some (some d)->cH d (.ty t.nm) h=.ok (.bl b) h->ev G cl (.blt .isinst (.cons (.var i) (.cons (.ty t) .nil))) [some d,some d,none] h=.ok (.bl b) h:=λd i t b hi e=>by
  simp only[oU,cE,bZ,aY hi,SH,aC,bIs,e]
 have eN:∀(d:D)(i:Nat),([some d,some d,none]:Ev)[i]? =some (some d)->ev G cl (.cmp .is (.var i) .non) [some d,some d,none] h=.ok (.bl (gR d)) h:=λd i hi=>bA (aY hi) (JO ..) (ZJ ..);have eE:∀(d:D),cG .eq d d h=.ok (.bl true) h->ev G cl (.cmp .eq (.var 0) (.var 1)) [some d,some d,none] h=.ok (.bl true) h:=λd e=>bA (aY rfl) (aY rfl) e
 have eA:∀(a b:E)(r:Ev),ev G cl a r h=.ok (.bl true) h->ev G cl b r h=.ok (.bl true) h->ev G cl (.and a b) r h=.ok (.bl true) h:=λa b r ea eb=>by
  rw[wE,ea,aC,sT];exact eb
 have eOf:∀(a b:E)(r:Ev),ev G cl a r h=.ok (.bl false) h->ev G cl b r h=.ok (.bl false) h->ev G cl (.or a b) r h=.ok (.bl false) h:=λa b r ea eb=>by
  rw[BY,ea,aC,sT];exact eb
 have rt:∀(a:E)(Z:Ss)(r:Ev),ev G cl a r h=.ok (.bl true) h->bR G cl W (.cons (.ret a) Z) r h=.ok (.rt (.bl true)) h:=λa Z r e=>bY (by rw[vB,e];rfl)
 show(bR G cl W yQ [some d,some d,none] h).bind cK=_
 have s1:∀(A Z:Ss)(c:E)(r:Ev),ev G cl c r h=.ok (.bl false) h->bR G cl W (.cons (.iff c A .nil) Z) r h=bR G cl W Z r h:=λA Z c r e=>aF (by rw[bV e,aP]);have s2:∀(A Z:Ss)(c:E)(r:Ev),ev G cl c r h=.ok (.bl true) h->bR G cl W A r h=.ok (.rt (.bl true)) h->bR G cl W (.cons (.iff c A .nil) Z) r h=.ok (.rt (.bl true)) h:=λA Z c r e ea=>bY (by rw[cT e,ea]);cases d with
 |non=>rw[yQ,s1 _ _ _ _ (e1 _ hd),s2 _ _ _ _ (eN _ 1 rfl) (rt _ _ _ (eN _ 0 rfl))];rfl
 |bl b=>rw[yQ,s1 _ _ _ _ (e1 _ hd),s1 _ _ _ _ (eN _ 1 rfl),s2 _ _ _ _ (by rw[BY,eT _ 1 .bool true rfl rfl,aC,sT]) (rt _ _ _ (eA _ _ _ (eT _ 1 .bool true rfl rfl) (eA _ _ _ (eT _ 0 .bool true rfl rfl) (eE _ (by simp)))))];rfl
 |int z=>rw[yQ,s1 _ _ _ _ (e1 _ hd),s1 _ _ _ _ (eN _ 1 rfl),s1 _ _ _ _ (eOf _ _ _ (eT _ 1 .bool false rfl rfl) (eT _ 0 .bool false rfl rfl)),s2 _ _ _ _ (eT _ 1 .int true rfl rfl) (rt _ _ _ (eA _ _ _ (eT _ 0 .int true rfl rfl) (eE _ (by simp))))];rfl
 |str z=>rw[yQ,s1 _ _ _ _ (e1 _ hd),s1 _ _ _ _ (eN _ 1 rfl),s1 _ _ _ _ (eOf _ _ _ (eT _ 1 .bool false rfl rfl) (eT _ 0 .bool false rfl rfl)),s1 _ _ _ _ (eT _ 1 .int false rfl rfl),rt _ _ _ (eA _ _ _ (eT _ 0 .str true rfl rfl) (eE _ (by simp)))];rfl
 |tup l=>cases hd
 |ref n=>cases hd
 |ty t=>cases hd
theorem oG:∀(k:Nat)(d:D),pd k d=true->∀(n:Nat)(h:Hh),aR G T W (k+n+1) 10 [d,d] h=.ok (.bl true) h:=by
 intro k
 induction k with
 |zero=>
  intro d hd n h;rw[Nat.zero_add];exact oH d hd n h
 |succ k ih=>
  intro d hd n h
  by_cases hf:pd 0 d=true
  ·exact oH d hf _ h
  cases d<;>first |exact absurd rfl hf|(cases hd;done)|skip
  rename_i l;simp only[pd,Bool.and_eq_true,decide_eq_true_eq] at hd;obtain⟨h1,h2⟩:=hd
  obtain⟨r',ef⟩:=rF (cl:=aR G T W (k+1+n)) (.tup l) (.tup l) l h h1 (λj d ej=>by
   have ea:lM l (j:Int)=some d:=iF ej
   exact⟨by rw[Ng.iTup,ea],by rw[Ng.iTup,ea]⟩) (λd hd=>by
    have:=ih d (by rw[List.all_eq_true] at h2;exact h2 _ hd) n h;rwa [show k+n+1=k+1+n by omega] at this) (by simp)
  show(bR G (aR G T W (k+1+n)) W yQ [some (.tup l),some (.tup l),none] h).bind cK=_
  rw[yQ,bY (d:=.bl true) (h':=h) (by
   rw[lT,show ev G (aR G T W (k+1+n)) (.blt .isinst (.cons (.var 1) (.cons (.tup (.cons (.ty .tuple) (.cons (.ty .list) .nil))) .nil))) [some (.tup l),some (.tup l),none] h=.ok (.bl true) h from by simp,cM,aC];show bR G _ W _ _ h=_;rw[aF (r':= [some (.tup l),some (.tup l),none]) (h':=h) (by simp),aF (r':= [some (.tup l),some (.tup l),none]) (h':=h) (by simp),aF ef]
   simp)]
  rfl
theorem zU(k:Nat)(a b:Nat)(l:List D)(n:Nat)(h:Hh)(ha:aI h a=some l)(hb:aI h b=some l)(h1:l.length<=1000)(h2:l.all (pd k)=true):aR G T W (k+1+n+1) 10 [.ref a,.ref b] h=.ok (.bl true) h:=by
 rw[aV (c:=⟨2,3,yQ⟩) rfl rfl]
 obtain⟨r',ef⟩:=rF (cl:=aR G T W (k+1+n)) (.ref a) (.ref b) l h h1 (λj d ej=>by
  have ea:lM l (j:Int)=some d:=iF ej
  exact⟨by rw[iW h _ ha,ea],by rw[iW h _ hb,ea]⟩) (λd hd=>by
   have:=oG k d (by rw[List.all_eq_true] at h2;exact h2 _ hd) n h;rwa [show k+n+1=k+1+n by omega] at this) (by rw[sS,jO,hb])
 have t1:=FR h hb;have t2:=BI h ha;have t3:=BI h hb;have t4:=BJ h ha;have t5:=BJ h hb
 show(bR G (aR G T W (k+1+n)) W yQ [some (.ref a),some (.ref b),none] h).bind cK=_
 rw[yQ,bY (d:=.bl true) (h':=h) (by
  rw[lT,show ev G (aR G T W (k+1+n)) (.blt .isinst (.cons (.var 1) (.cons (.tup (.cons (.ty .tuple) (.cons (.ty .list) .nil))) .nil))) [some (.ref a),some (.ref b),none] h=.ok (.bl true) h from by simp[t1],cM,aC];show bR G _ W _ _ h=_;rw[aF (r':= [some (.ref a),some (.ref b),none]) (h':=h) (by simp[t2,t3,t4,t5]),aF (r':= [some (.ref a),some (.ref b),none]) (h':=h) (by simp[ha,hb]),aF ef]
  simp)]
 rfl
theorem W1:100<=W:=by decide
theorem k0(cl:Cl)(r:Ev)(h:Hh):ev G cl (.gc 0) r h=.ok (.int 9) h:=by rw[yB,XY]
theorem k1(cl:Cl)(r:Ev)(h:Hh):ev G cl (.gc 1) r h=.ok (.str abc) h:=by rw[yB,gc1]
theorem k2(cl:Cl)(r:Ev)(h:Hh):ev G cl (.gc 2) r h=.ok (.int 8) h:=by rw[yB,gc2]
theorem k3(cl:Cl)(r:Ev)(h:Hh):ev G cl (.gc 3) r h=.ok (.int 8) h:=by rw[yB,XW]
theorem k4(cl:Cl)(r:Ev)(h:Hh):ev G cl (.gc 4) r h=.ok (.int 8) h:=by rw[yB,gc4]
theorem k5(cl:Cl)(r:Ev)(h:Hh):ev G cl (.gc 5) r h=.ok (.int 12) h:=by rw[yB,gc5]
theorem hol(n:Nat):Hol (aR G T W (n+1)) 21:=λh m nm w t l S x y P=>by
 rw[aV (c:=⟨2,4,ZW⟩) rfl rfl];exact NH x y P
theorem XC(n:Nat):UN (aR G T W (n+1)) 0:=λh nm N=>by
 rw[aV (c:=⟨1,1,b0⟩) rfl rfl];exact FP (k2 _) (k1 _) N
theorem isw(n:Nat):UM (aR G T W (n+1)) 1:=λh w t l=>by
 rw[aV (c:=⟨3,4,b1⟩) rfl rfl];exact FO (k3 _) (k0 _) w t l
theorem sho(n:Nat):UI (aR G T W (n+2)) 19:=λh m nm w t l S P hS=>by
 rw[aV (c:=⟨1,1,ZY⟩) rfl rfl];exact EL (hol n) (k0 _) P hS
theorem ini(n:Nat):UO (aR G T W (n+3)) 18:=λh nm w t l S s N hS e=>by
 rw[aV (c:=⟨6,6,ZZ⟩) rfl rfl];exact FS (XC (n+1)) (isw (n+1)) (sho n) (k4 _) N hS e
theorem sts(n:Nat):C6 (aR G T W (n+1)) 20:=λh m nm w t l S U P hl hU=>by
 rw[aV (c:=⟨1,1,ZX⟩) rfl rfl];exact LG P hl hU
theorem smd(n:Nat):Smd (aR G T W (n+2)) 10:=λd h hd=>by
 rw[show n+2=1+n+1 by omega];exact oG 1 d hd n h
theorem sml(n:Nat):C7 (aR G T W (n+3)) 10:=λa b l h ha hb hl hp=>by
 rw[show n+3=1+1+n+1 by omega];exact zU 1 a b l n h ha hb hl hp
theorem lmv(n:Nat):D3 (aR G T W (n+2)) 8:=λm x h hm=>xT n m.1 m.2.1 m.2.2 x.1 x.2 h hm.1 hm.2
theorem lbk(n:Nat):D4 (aR G T W (n+2)) 9:=λm h hm=>RP n m h hm
theorem dru(n:Nat)(ns:List Int):D7 (aR G T W (n+1)) 6 ns:=λat' M h hM h0 h1 hs=>TH n ns at' M hM h h0 h1 hs
theorem hvn(n:Nat)(ns:List Int):Hvn (aR G T W (n+2)) 11 ns:=λh h00=>by
 rw[aV (c:=⟨1,7,A8⟩) rfl rfl];exact NF (dru n ns) h00
theorem pan(n:Nat):Pan (aR G T W (n+3)) 12:=λh nm m hp dr S row hm hS HS Q hr=>by
 rw[aV (c:=⟨4,14,A7⟩) rfl rfl];exact ME W1 (lmv n) (lbk n) hm hS HS Q hr
theorem hom(n:Nat):Hom (aR G T W (n+1)) 13:=λh dr row Q hr=>by
 rw[aV (c:=⟨1,1,A6⟩) rfl rfl];exact NG Q hr
theorem WP(n:Nat):VL (aR G T W (n+1)) 22:=λh pl st=>by
 rw[aV (c:=⟨4,4,ZV⟩) rfl rfl];exact LS h pl st
theorem bpg(n:Nat):Bpg (aR G T W (n+2)) 2:=λh=>by
 rw[aV (c:=⟨0,0,b2⟩) rfl rfl];exact UB (WP n) h
theorem WR(n:Nat):UK (aR G T W (n+1)) 3:=λh pg pl st a L x P hx e=>by
 rw[aV (c:=⟨2,3,b3⟩) rfl rfl];exact MN W1 P hx e
theorem wpl(n:Nat):Wpl (aR G T W (n+2)) 4:=λh pg pl st p L x w t l S P Q hx hL=>by
 rw[aV (c:=⟨2,3,b4⟩) rfl rfl];exact KO (WP n) (k5 _) P Q hx hL
theorem wop(n:Nat):Wop (aR G T W (n+2)) 5:=λh pg pl st L x P hx nd hl=>by
 rw[aV (c:=⟨2,4,b5⟩) rfl rfl];exact KP (WR n) (WP n) P hx nd hl
theorem bin(n:Nat)(o:O):aR G T W (n+3) 23 [.ref 1] [o,.ins "Book" []]=.ok .non (h7 o):=by
 rw[aV (c:=⟨1,1,ZU⟩) rfl rfl];exact UC (bpg n) o
theorem wrt(n:Nat):B0 (aR G T W (n+1)) 24:=λh d pg pg' fu Z b z hz=>by
 rw[aV (c:=⟨3,3,ZT⟩) rfl rfl];exact KN d pg' b z hz
theorem put(n:Nat):Put (aR G T W (n+4)) 25:=λh L m st s x w t l S B h8 hn hL hx hS e=>by
 rw[aV (c:=⟨6,8,ZS⟩) rfl rfl];exact LO (wpl (n+1)) (ini n) (sts (n+2)) (wrt (n+2)) B h8 hn hL hx hS e
theorem drp(n:Nat):D8 (aR G T W (n+3)) 26:=λh L m x B h8 hn hx nd hl=>by
 rw[aV (c:=⟨2,2,ZR⟩) rfl rfl];exact NW (wop n) (wrt (n+1)) B h8 hn hx nd hl
theorem nms(n:Nat):OY (aR G T W (n+1)) 27:=λh L m l B q=>by
 rw[aV (c:=⟨1,1,ZQ⟩) rfl rfl];exact FI B q
theorem win(n:Nat):Win (aR G T W (n+2)) 28:=λh L m p x w t l S B nd hx P=>by
 rw[aV (c:=⟨2,3,ZP⟩) rfl rfl];exact KQ (WR n) B nd hx P
theorem sof(n:Nat):Sof (aR G T W (n+2)) 29:=λh L m p x w t l S U B nd hx P hS hU=>by
 rw[aV (c:=⟨2,2,ZO⟩) rfl rfl];exact LI (WR n) (sts n) B nd hx P hS hU
theorem hx:Hx G:=λa b c p hp=>by
 rcases List.mem_cons.mp hp with rfl|hp
 ·exact⟨by decide,rfl⟩
 rcases List.mem_cons.mp hp with rfl|hp
 ·exact⟨by decide,rfl⟩
 rcases List.mem_cons.mp hp with rfl|hp
 ·exact⟨by decide,rfl⟩
 rcases List.mem_cons.mp hp with rfl|hp
 ·exact⟨by decide,rfl⟩
 cases hp
theorem lpt(n:Nat):C9 (aR G T W (n+5)) 14:=λh L m st s q x w t l S U B h8 hn hL hxx hS e eq=>by
 rw[aV (c:=⟨3,5,A4⟩) rfl rfl];exact MQ hx (put n) B h8 hn hL hxx hS e eq
theorem due(n:Nat):D6 (aR G T W (n+1)) 15:=λh d q L x w t l U ed eq hx=>by
 rw[aV (c:=⟨2,2,A3⟩) rfl rfl];exact NT ed eq hx
theorem mad(n:Nat):Mad (aR G T W (n+4)) 16:=λh dr hv row S Q hr hS HS=>by
 rw[aV (c:=⟨2,7,A2⟩) rfl rfl];exact MP (pan n) (hom (n+2)) Q hr hS HS
theorem run(ns:List Int)(hn:ns.length<=63):∃h',aR G T W (49+1) 17 [.ref 0] [.ro (ns.map D.int)]=.ok (.bl true) h':=by
 rw[aV (c:=⟨1,11,A0⟩) rfl rfl];exact law25_ok ⟨dru 48 ns,sml 46,smd 47,hvn 47 ns,lpt 44,due 48,mad 45,drp 46,nms 48,win 47,sof 47⟩ (bin 46) hn
end Pk25
end
open PySem PySem.W PyProof.Rows
namespace Sh
set_option maxRecDepth 100000 in
set_option maxHeartbeats 0 in
theorem hd:PySem.Challenge.rw_nightglass_k25_plates_in_the_book.Holds:=by
 refine pk.imp ⟨?_⟩;dsimp only[pk]
 k_fill
 refine Ng.law_of (G:=Pk25.G) (T:=Pk25.T) (W:=Pk25.W) (l:=PySem.Challenge.rw_nightglass_k25_plates_in_the_book) (n:=63) (k:=49) (lw:=17) (x:="_law_script") Pk25.run rfl (by decide) rfl ⟨rfl,by decide,by decide⟩ (λw h Y=>PySem.W.km_in_of Y) ?F
 case F=>
  intro w mg fa h KX Gn hmg
  refine' Pk25.all_mk KX Gn hmg ?gb0 ?gb1 ?gb2 ?gb3 ?gb4 ?gb5 ?gb6 ?gb7 ?gb8 ?gb9 ?gb10 ?gb11 ?gb12 ?gb13 ?gb14 ?gb15 ?gb16 ?gb17 ?ka0 ?ka1 ?ka2 ?gm18 ?gm19 ?gm20 ?gm21 ?gm22 ?gm23 ?gm24 ?gm25 ?gm26 ?gm27 ?gm28 ?gm29 ?L0 ?kf0 ?L1 ?kf1 ?L2 ?kf2 ?kn0 ?kn1 ?kn2 ?kn3 ?kn4 ?kn5 ?kn6 ?kn7 ?kn8 ?kn9 ?kn10 ?ga0 ?ga1 ?ga2 ?ga3 ?ga4 ?ga5 ?xa0 ?E0 ?xa1 ?E1 ?xa2 ?E2 ?xa3 ?E3 ?xa4 ?E4 ?xa5 ?E5 ?xe0 ?xe1 ?xe2 ?xe3 ?xe4 ?xe5 ?xe6 ?xe7 ?xe8 ?xe9 ?N1 ?N2 ?N4 ?N5 ?nh0 ?nh1 ?nh2 ?nh3 ?nh4 ?nh5 ?nh6 ?nh7 ?nh8 ?nh9 ?nh10 ?nh11 ?z_len ?z_isinstance ?z_int ?z_list ?z_bool ?z_str ?z_tuple ?z_range ?z_max ?z_min ?z_sorted ?z_all ?z_dict ?z_ValueError
  (case gb0|gb1|gb2|gb3|gb4|gb5|gb6|gb7|gb8|gb9|gb10|gb11|gb12|gb13|gb14|gb15|gb16|gb17=>exact Ng.GF.mk (by k_is) (by k_is) (by k_is) (by k_is))
  (case ka0|ka1|ka2=>k_is)
  (case gm18|gm19|gm20|gm21|gm22|gm23|gm24|gm25|gm26|gm27|gm28|gm29=>exact Ng.GM.mk (by k_is) (by k_is) (by k_is) (by k_is) (by k_is))
  (case L0=>exact⟨by k_is,by k_is,by k_is,by k_is⟩)
  (case kf0=>exact⟨by k_is,by k_is⟩)
  (case L1=>exact⟨by k_is,by k_is,by k_is,by k_is⟩)
  (case kf1=>exact⟨by k_is,by k_is⟩)
  (case L2=>exact⟨by k_is,by k_is,by k_is,by k_is⟩)
  (case kf2=>exact⟨by k_is,by k_is⟩)
  (case kn0|kn1|kn2|kn3|kn4|kn5|kn6|kn7|kn8|kn9|kn10|ga0|ga1|ga2|ga3|ga4|ga5|xa0=>k_is)
  (case E0=>exact⟨by k_exc,by k_is,by kit_is⟩)
  (case xa1=>k_is)
  (case E1=>exact⟨by k_exc,by k_is,by kit_is⟩)
  (case xa2=>k_is)
  (case E2=>exact⟨by k_exc,by k_is,by kit_is⟩)
  (case xa3=>k_is)
  (case E3=>exact⟨by k_exc,by k_is,by kit_is⟩)
  (case xa4=>k_is)
  (case E4=>exact⟨by k_exc,by k_is,by kit_is⟩)
  (case xa5=>k_is)
  (case E5=>exact⟨by k_exc,by k_is,by kit_is⟩)
  (case xe0|xe1|xe2|xe3|xe4|xe5|xe6|xe7|xe8|xe9=>exact⟨by kts_exm,by kit_is⟩)
  (case N1|N2|N4|N5=>exact⟨by k_is,by k_is,by k_is,by k_is,by k_is,by k_is,by k_is,Ng.bmV,"ValueError.__new__",by k_exc⟩)
  (case nh0|nh1|nh2|nh3|nh4|nh5|nh6|nh7|nh8|nh9|nh10|nh11=>kit_is)
  (case z_len|z_isinstance|z_int|z_list|z_bool|z_str|z_tuple|z_range|z_max|z_min|z_sorted|z_all|z_dict|z_ValueError=>k_is)
end Sh
theorem PySem.Challenge.cw_nightglass_k25_plates_in_the_book_holds : PySem.Challenge.rw_nightglass_k25_plates_in_the_book.Holds :=
 Sh.hd
