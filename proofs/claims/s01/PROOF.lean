import PyProof.Rows.All
import Wide.All
import OpenK.AllK
import Wide.FinOn
import PyProof.EqAt
import PyProof.EqKinds
import PyProof.TupleCall
import KE.BitLaws
import Open.SpecLaws
import KE.OsHead
import KE.OsGo
import KE.KSortTupG
import KE.KDictOf
import Km382Spec
import PyKm382
import PyFlatLaws
import PySem.Challenge.RW_wholekitchen_s01_answers
set_option Elab.async false
set_option linter.all false
set_option maxRecDepth 100000
set_option maxHeartbeats 0
section
section
open PySem PySem.W PyProof.Rows
def KK.q1:Program:={PySem.Challenge.pw_wholekitchen_s01_answers with main:={PySem.Challenge.pw_wholekitchen_s01_answers.main with body:=[PySem.Challenge.pw_wholekitchen_s01_answers.main.body.getD 177 (.Pass ⟨0,0,0,0⟩)]}}
def KK.lo:List Str:=(PySem.Challenge.pw_wholekitchen_s01_answers.main.scope.names.map (·.1)).filter (λx=>!(x=="answers"))
def KK.g(r:OpenSpec):Bool:=r.wellSaid
lay_quick KK.g
theorem KK.ws:PySem.Challenge.rw_wholekitchen_s01_answers.wellSaid=true:=(congrFun PySem.W.Fast.te14217433326879529473 _).trans (by kernel_rfl)
theorem KK.ow:(chainsOk KK.q1&&opensWell PySem.Challenge.rw_wholekitchen_s01_answers.prog)=true:=by decide +kernel
def KK.kU(tb:String->Option Builtin)(p:Program)(w:World)(n:Nat)(ann:Option Value):Nat->SharedT->Thread->Option SharedT
 |0,_,_=>none
 |k+1,s,t=>match through t with
  |true=>some s
  |false=>match stepOk n ann t with
   |false=>none
   |true=>match stepT (denote tb) p w s t with
    |some (s',t')=>KK.kU tb p w n ann k s' t'
    |none=>none
theorem KK.fS{tb:String->Option Builtin}{p:Program}{w:World}{m:Nat}{ann:Option Value}:∀(n:Nat)(s s':SharedT)(t:Thread),KK.kU tb p w m ann n s t=some s'->topRun tb p w m ann n s.abs t=some s'.abs
 |0,_,_,_,h=>by cases h
 |n+1,s,s',t,h=>by
  unfold KK.kU at h;unfold topRun;cases ht:through t with
  |true=>rw[ht] at h;cases h;rfl
  |false=>
   rw[ht] at h;cases hk:stepOk m ann t with
   |false=>rw[hk] at h;cases h
   |true=>
    rw[hk] at h;cases hs:stepT (denote tb) p w s t with
    |none=>rw[hs] at h;cases h
    |some r=>
     obtain⟨s2,t2⟩:=r;rw[hs] at h;rw[stepT_spec hs];exact KK.fS n s2 s' t2 h
def KK.zY(l:List Obj):BT:=(l.foldl (λ(x:BT×Nat) o=>(x.1.ins x.2 o,x.2+1)) (BT.nil,0)).1
noncomputable def KK.r (p:Program) (H:Heap) (w:World) (os:OsState):=KK.kU treeTable p w 11 (some (.ref 6)) 10782 ⟨KK.zY H.objs.toList,11,H.life,Array.mk [],boot_drawn,boot_toks,os⟩ (topStub p)
noncomputable def KK.f (p q:Program) (lo:List Str) (H:Heap) (w:World) (os:OsState):=(KK.r p H w os).map λs=>((staticsOk (importedModules p.main.body) H s.abs.heap&&namesBound p s.abs.heap&&gensDone s.abs&&laidKept H s.abs.heap),openSeen q lo (importedModules p.main.body) (λs=>xlAt q [] s&&recOk [] s) true s.abs)
noncomputable def KK.f2 (p:Program) (as:List Addr) (H:Heap) (w:World) (os:OsState):=(KK.r p H w os).map λs=>as.map s.abs.heap.get?
lay_quick KK.f KK.f2
theorem KK.left{p q:Program}{lo:List Str}{K:Params->Frag}{as:List Addr}{e:∀P,as=(K P).map (·.1)}(e1:opening p=plainProg p.main.scope.names)(e2:∀s,fenceModules? p s=some s)(run:∀(w:World)(os:OsState),PySem.W.Fast.tw2625886669843326938 p q lo (boot_heap w.params) w os=some (true,openGood q lo))(kept:∀(w:World)(os:OsState),PySem.W.Fast.tw7218456266791978635 p as (boot_heap w.params) w os=some ((K w.params).map λp=>some p.2)):LeftO p q lo (λs=>xlAt q [] s&&recOk [] s) (kHook K as e).obs (kHook K as e).val 10782 true:=λw=>by
 obtain⟨⟨h,gs,d,k,os⟩,e,e'⟩:=Option.map_eq_some_iff.mp (boot_open e1 (N:=10782) rfl e2 w);obtain⟨rfl,rfl,rfl,rfl⟩:h=boot_heap w.params/\gs=Array.mk []/\d=boot_drawn/\k=boot_toks:=by simpa using e'
 have z1:(boot_heap w.params).isNs mainGlobals=true:=by kernel_rfl
 have z2:(boot_heap w.params).objs.size=11:=by kernel_rfl
 have z3:(boot_heap w.params).nsMap mainGlobals "__annotations__"=some (.ref 6):=by kernel_rfl
 have ht:absHeap (KK.zY (boot_heap w.params).objs.toList) 11 (boot_heap w.params).life=boot_heap w.params:=by kernel_rfl
 have run:=run w os;have kept:=kept w os;rw[<-PySem.W.Fast.te2625886669843326938] at run;rw[<-PySem.W.Fast.te7218456266791978635] at kept;obtain⟨sT,r,l⟩:=Option.map_eq_some_iff.mp run;obtain⟨sT',r',l3⟩:=Option.map_eq_some_iff.mp kept;obtain rfl:sT=sT':=Option.some.inj (r.symm.trans r');obtain⟨l1,l2⟩:_/\_:=by simpa only[Prod.mk.injEq] using l
 have r:=KK.fS _ _ _ _ r;have a0:SharedT.abs ⟨KK.zY (boot_heap w.params).objs.toList,11,(boot_heap w.params).life,Array.mk [],boot_drawn,boot_toks,os⟩=⟨boot_heap w.params,Array.mk [],boot_drawn,boot_toks,os⟩:=by
  show Shared.mk (absHeap (KK.zY (boot_heap w.params).objs.toList) 11 (boot_heap w.params).life) _ _ _ _=_;rw[ht]
 rw[a0] at r;have t:topFrom treeTable p w 10782 ⟨boot_heap w.params,Array.mk [],boot_drawn,boot_toks,os⟩=some sT.abs:=by
  unfold topFrom;dsimp only;rw[z1,z2,z3,r];show(match staticsOk _ (boot_heap w.params) sT.abs.heap&&namesBound _ sT.abs.heap&&gensDone sT.abs&&laidKept (boot_heap w.params) sT.abs.heap with|true=>_|false=>_)=_;rw[l1]
 unfold openEnds;rw[e];show(topFrom treeTable p w 10782 _).map _=_;rw[t];exact congrArg some (Prod.ext l2 l3)
theorem KK.e1:opening PySem.Challenge.pw_wholekitchen_s01_answers=plainProg PySem.Challenge.pw_wholekitchen_s01_answers.main.scope.names:=by kernel_rfl
theorem KK.e2(s:Shared):fenceModules? PySem.Challenge.pw_wholekitchen_s01_answers s=some s:=by kernel_rfl
theorem KK.run(w:World)(os:OsState):PySem.W.Fast.tw2625886669843326938 PySem.Challenge.pw_wholekitchen_s01_answers KK.q1 KK.lo (boot_heap w.params) w os=some (true,openGood KK.q1 KK.lo):=by kernel_rfl
local macro_rules
  | `(tactic| o_law) => `(tactic| skip)
  | `(tactic| k_head) => `(tactic| k_headS)
  | `(tactic| w_witness2) => `(tactic| exact ⟨[.list [.int 0, .int 1, .int 1, .int 1]], by decide +kernel, by decide +kernel⟩)
  | `(tactic| refine $h:ident (q := $_) (loose := $_) (Xt := $_) (XP := $_) (Yf := $yf) (Ya := $ya) (YP := $yp) (N := $n) ?$hl $ho $hk $_ $_ $_ $_ $_ $_ $sh $_ $_ $_ ?$hw ?$hc) => `(tactic| refine' $h (q := KK.q1) (loose := KK.lo) (Xt := fun s => xlAt KK.q1 [] s && recOk [] s) (XP := XL KK.q1 []) (Yf := $yf) (Ya := $ya) (YP := $yp) (N := $n) (KK.left KK.e1 KK.e2 KK.run fun w os => by kernel_rfl) $ho $hk (fun s e => xl_of s (Bool.and_eq_true_iff.mp e).1) XL.keeps (by rfl) (by rfl) (by rfl) (fun s e => recFacts_of (Bool.and_eq_true_iff.mp e).2) $sh KK.ws KK.ow ⟨rfl, rfl, rfl, rfl, rfl, by decide +kernel⟩ ?$hw ?$hc)
open_top KK.hd for PySem.Challenge.rw_wholekitchen_s01_answers
end
end
section
namespace KT
open Km382
def sgn(b:Nat):Nat:=if b=10 then 10 else if b=32 then 32 else if 48<=b/\b<58 then b else if 97<=b/\b<123 then b else 63
theorem tS{b:Nat}:sgn b=10↔b=10:=by
 unfold sgn;repeat' split
 all_goals lia
theorem uS{b:Nat}:sgn b=32↔b=32:=by
 unfold sgn;repeat' split
 all_goals lia
theorem rN{b c:Nat}(h:97<=c/\c<=122):sgn b=c↔b=c:=by
 unfold sgn;repeat' split
 all_goals lia
theorem oU{b c:Nat}(h:48<=c/\c<=57):sgn b=c↔b=c:=by
 unfold sgn;repeat' split
 all_goals lia
theorem oP(b:Nat):(97<=sgn b/\sgn b<=122)↔(97<=b/\b<=122):=by
 unfold sgn;repeat' split
 all_goals lia
theorem nP(b:Nat):(48<=sgn b/\sgn b<=57)↔(48<=b/\b<=57):=by
 unfold sgn;repeat' split
 all_goals lia
theorem zL{b:Nat}(h:97<=b/\b<=122):sgn b=b:=(rN h).mpr rfl
theorem yL{b:Nat}(h:48<=b/\b<=57):sgn b=b:=(oU h).mpr rfl
abbrev sg(t:Text):Text:=t.map sgn
theorem lu(t:Text):(sg t).length=t.length:=List.length_map ..
def SD(w:Text):Prop:=∀b∈w,97<=b/\b<=122
theorem wL:∀{w:Text},SD w->sg w=w
 |[],_=>rfl
 |b::l,h=>by
  show sgn b::sg l=b::l;rw[zL (h b (List.mem_cons_self ..)),wL λc hc=>h c (List.mem_cons_of_mem _ hc)]
theorem ff:∀{x w:Text},SD w->(sg x=w↔x=w)
 |[],[],_=>by simp
 |[],_::_,_=>by simp
 |_::_,[],_=>by simp
 |a::x,b::w,h=>by
  have h1:=h b (List.mem_cons_self ..);have ih:=ff (x:=x) (w:=w) λc hc=>h c (List.mem_cons_of_mem _ hc);show sgn a::sg x=b::w↔a::x=b::w;rw[List.cons.injEq,List.cons.injEq,rN h1,ih]
theorem Ik{w:Text}(h:isName w=true):SD w:=by
 unfold isName at h;simp only[Bool.and_eq_true,decide_eq_true_eq,List.all_eq_true] at h;exact h.2.2
theorem Fq{w:Text}(h:isName w=true):1<=w.length/\w.length<=8:=by
 unfold isName at h;simp only[Bool.and_eq_true,decide_eq_true_eq,List.all_eq_true] at h;exact⟨h.1,h.2.1⟩
theorem TC(w:Text):isName (sg w)=isName w:=by
 unfold isName;rw[lu,List.all_map];congr 2;apply congrArg (λf=>List.all w f);funext b;have:=oP b;by_cases h1:97<=b/\b<=122
 ·have h2:=this.mpr h1;simp[h1.1,h1.2,h2.1,h2.2]
 ·have h2:¬(97<=sgn b/\sgn b<=122):=λz=>h1 (this.mp z);simp only[Function.comp];rw[<-Bool.decide_and,<-Bool.decide_and,decide_eq_false h1,decide_eq_false h2]
def Vd(b:Nat):Bool:=decide (48<=b)&&decide (b<=57)
theorem nO(b:Nat):Vd (sgn b)=Vd b:=by
 unfold Vd;rw[<-Bool.decide_and,<-Bool.decide_and];exact decide_eq_decide.mpr (nP b)
theorem yJ(w:Text):(sg w).all Vd=w.all Vd:=by
 rw[List.all_map];exact congrArg (λf=>List.all w f) (funext nO)
theorem qN:∀{w:Text},w.all Vd=true->sg w=w
 |[],_=>rfl
 |b::l,h=>by
  rw[List.all_cons,Bool.and_eq_true] at h;show sgn b::sg l=b::l;rw[qN h.2,yL (by have:=h.1;unfold Vd at this;simpa using this)]
theorem Jo(w:Text):number (sg w)=number w:=by
 by_cases h:w.all Vd=true
 ·rw[qN h]
 ·have h1:w.all Vd=false:=by simpa using h
  have h2:(sg w).all Vd=false:=by rw[yJ];exact h1
  have e1:number w=0:=if_pos (.inr (.inr (.inr h1)));have e2:number (sg w)=0:=if_pos (.inr (.inr (.inr h2)));rw[e1,e2]
theorem dz:∀(t cur:Text),lines (sg t) (sg cur)=(lines t cur).map (List.map sg)
 |[],cur=>by
  show(if(sg cur).length=0 then some [] else none)=(if cur.length=0 then some [] else none).map _;rw[lu];split<;>rfl
 |b::l,cur=>by
  show(if sgn b=10 then(match lines (sg l) [] with|none=>none|some r=>some ((sg cur).reverse::r)) else lines (sg l) (sgn b::sg cur))=
   (if b=10 then(match lines l [] with|none=>none|some r=>some (cur.reverse::r)) else lines l (b::cur)).map _
  by_cases h:b=10
  ·rw[if_pos h,if_pos (tS.mpr h),show lines (sg l) []=_ from dz l []];cases lines l [] with
   |none=>rfl
   |some r=>simp
  ·rw[if_neg h,if_neg (λz=>h (tS.mp z))];exact dz l (b::cur)
theorem xA:∀(l cur:Text),words (sg l) (sg cur)=(words l cur).map sg
 |[],cur=>by
  show(if(sg cur).length=0 then[] else[(sg cur).reverse])=(if cur.length=0 then[] else[cur.reverse]).map sg;rw[lu];split<;>simp
 |b::l,cur=>by
  show(if sgn b=32 then(if(sg cur).length=0 then words (sg l) [] else(sg cur).reverse::words (sg l) []) else words (sg l) (sgn b::sg cur))=
   (if b=32 then(if cur.length=0 then words l [] else cur.reverse::words l []) else words l (b::cur)).map sg
  have e:words (sg l) []=(words l []).map sg:=xA l [];rw[lu,e];by_cases h:b=32
  ·rw[if_pos h,if_pos (uS.mpr h)];split<;>simp
  ·rw[if_neg h,if_neg (λz=>h (uS.mp z))];exact xA l (b::cur)
theorem pK:SD wServes:=by unfold SD;decide
theorem vR:SD wTake:=by unfold SD;decide
theorem gz:SD wStep:=by unfold SD;decide
theorem yO:SD wAfter:=by unfold SD;decide
theorem fz:∀w∈wPlaces,SD w:=by unfold SD;decide
theorem RC{L:List Text}(hL:∀w∈L,SD w)(x:Text):L.idxOf? (sg x)=L.idxOf? x:=by
 unfold List.idxOf?;induction L with
 |nil=>rfl
 |cons w L ih=>
  rw[List.findIdx?_cons,List.findIdx?_cons,ih λv hv=>hL v (List.mem_cons_of_mem _ hv)];have:=ff (x:=x) (hL w (List.mem_cons_self ..));have e:(w==sg x)=(w==x):=by
   by_cases h:x=w
   ·rw[beq_iff_eq.mpr h.symm,beq_iff_eq.mpr (this.mpr h).symm]
   ·rw[beq_eq_false_iff_ne.mpr (λz=>h z.symm),beq_eq_false_iff_ne.mpr (λz=>h (this.mp z.symm))]
  rw[e]
theorem kH{L:List Text}(hL:∀w∈L,SD w)(x:Text):L.idxOf (sg x)=L.idxOf x:=by
 induction L with
 |nil=>rfl
 |cons w L ih=>
  rw[List.idxOf_cons,List.idxOf_cons,ih λv hv=>hL v (List.mem_cons_of_mem _ hv)];have:=ff (x:=x) (hL w (List.mem_cons_self ..));have e:(w==sg x)=(w==x):=by
   by_cases h:x=w
   ·rw[beq_iff_eq.mpr h.symm,beq_iff_eq.mpr (this.mpr h).symm]
   ·rw[beq_eq_false_iff_ne.mpr (λz=>h z.symm),beq_eq_false_iff_ne.mpr (λz=>h (this.mp z.symm))]
  rw[e]
def Og(r:Recipe):Prop:=∀s∈r.steps,SD s.name
theorem zH{r:Recipe}(h:Og r)(x:Text):stepNamed r.steps (sg x)=stepNamed r.steps x:=by
 unfold stepNamed;refine RC (λw hw=>?_) x;obtain⟨s,hs,rfl⟩:=List.mem_map.mp hw;exact h s hs
theorem ID{r:Recipe}(h:Og r)(name:Text)(n p:Nat)(f:List Text):stepOf r (sg name) n p (f.map sg)=stepOf r name n p f:=by
 unfold stepOf;have e:(f.map sg).map (stepNamed r.steps)=f.map (stepNamed r.steps):=by
  rw[List.map_map];exact List.map_congr_left λx _=>zH h x
 rw[e,zH h,TC];cases allOf (f.map (stepNamed r.steps)) with
 |none=>rfl
 |some a=>
  show(if _ then _ else _)=(if _ then _ else _);split
  ·rfl
  ·rename_i hc;have hn:isName name=true:=by
    cases e:isName name with
    |true=>rfl
    |false=>exact absurd (.inl e) hc
   rw[wL (Ik hn)]
theorem vO{goods:List Text}(hg:∀g∈goods,SD g){r:Recipe}(h:Og r):∀ws:List Text,lineOn goods r (ws.map sg)=lineOn goods r ws
 |[]=>rfl
 |[_]=>rfl
 |[a,b]=>by
  show(if sg a=wServes/\r.serves=0/\1<=number (sg b)/\number (sg b)<=99 then some (⟨number (sg b),r.takes,r.steps⟩:Recipe) else none)=
   (if a=wServes/\r.serves=0/\1<=number b/\number b<=99 then some ⟨number b,r.takes,r.steps⟩ else none)
  simp only[Jo,ff pK]
 |[a,b,c]=>by
  simp only[List.map_cons,List.map_nil,lineOn,Jo,ff vR,RC hg]
 |[a,b,c,d]=>by
  simp only[List.map_cons,List.map_nil,lineOn,Jo,ff gz,kH fz];have e:=ID h b (number c) (wPlaces.idxOf d) [];simp only[List.map_nil] at e;rw[e]
 |[a,b,c,d,e]=>by
  simp only[List.map_cons,List.map_nil,lineOn,ff gz]
 |a::b::c::d::e::f::l=>by
  simp only[List.map_cons,lineOn,Jo,ff gz,kH fz,ff yO];have e:=ID h b (number c) (wPlaces.idxOf d) (f::l);simp only[List.map_cons] at e;rw[e]
theorem lA{r q:Recipe}{name:Text}{n p:Nat}{f:List Text}(h:Og r)(e:stepOf r name n p f=some q):Og q:=by
 unfold stepOf at e;split at e
 ·cases e
 ·split at e
  ·cases e
  ·rename_i hc;cases e;intro s hs;rcases List.mem_append.mp hs with hs|hs
   ·exact h s hs
   ·have hs:=List.mem_singleton.mp hs;subst hs;have hn:isName name=true:=by
     cases e:isName name with
     |true=>rfl
     |false=>exact absurd (.inl e) hc
    exact Ik hn
theorem mK{goods:List Text}{r q:Recipe}(h:Og r):∀{ws:List Text},lineOn goods r ws=some q->Og q
 |[],e=>by cases e;exact h
 |[_],e=>by cases e
 |[a,b],e=>by
  simp only[lineOn] at e;split at e
  ·cases e;exact h
  ·cases e
 |[a,b,c],e=>by
  simp only[lineOn] at e;split at e
  ·split at e
   ·cases e
   ·split at e
    ·cases e
    ·cases e;exact h
  ·cases e
 |[a,b,c,d],e=>by
  simp only[lineOn] at e;split at e
  ·exact lA h e
  ·cases e
 |[a,b,c,d,x],e=>by
  simp only[lineOn] at e;split at e<;>cases e
 |a::b::c::d::x::f::l,e=>by
  simp only[lineOn] at e;split at e
  ·split at e
   ·exact lA h e
   ·cases e
  ·cases e
theorem cz{goods:List Text}(hg:∀g∈goods,SD g):∀(L:List (List Text)){r:Recipe},Og r->linesOn goods r (L.map (List.map sg))=linesOn goods r L
 |[],_,_=>rfl
 |w::L,r,h=>by
  show(match lineOn goods r (w.map sg) with|none=>none|some q=>linesOn goods q (L.map (List.map sg)))=(match lineOn goods r w with|none=>none|some q=>linesOn goods q L);rw[vO hg h];cases e:lineOn goods r w with
  |none=>rfl
  |some q=>exact cz hg L (mK h e)
theorem jU{goods:List Text}(hg:∀g∈goods,SD g)(t:Text):readRecipe goods (sg t)=readRecipe goods t:=by
 unfold readRecipe;rw[show lines (sg t) []=_ from dz t []];cases lines t [] with
 |none=>rfl
 |some l=>
  show(match linesOn goods ⟨0,[],[]⟩ ((l.map sg).map λx=>words x []) with|none=>none|some r=>if r.serves=0\/r.steps.length=0 then none else some r)=
   (match linesOn goods ⟨0,[],[]⟩ (l.map λx=>words x []) with|none=>none|some r=>if r.serves=0\/r.steps.length=0 then none else some r)
  have e:(l.map sg).map (λx=>words x [])=(l.map λx=>words x []).map (List.map sg):=by
   rw[List.map_map,List.map_map];exact List.map_congr_left λx _=>xA x []
  rw[e,cz hg _ (λs hs=>by cases hs)]
def cut(s:Nat):Text->Text->List Text
 |acc,[]=>[acc]
 |acc,c::r=>if c=s then acc::cut s [] r else cut s (acc++[c]) r
theorem Lo:∀(l cur:Text),words l cur=(cut 32 cur.reverse l).filter λw=>decide (w≠[])
 |[],cur=>by
  show(if cur.length=0 then[] else[cur.reverse])=[cur.reverse].filter _;by_cases h:cur=[]
  ·subst h;rfl
  ·rw[if_neg (by simpa using h),List.filter_cons,if_pos (by simpa using h),List.filter_nil]
 |b::l,cur=>by
  show(if b=32 then(if cur.length=0 then words l [] else cur.reverse::words l []) else words l (b::cur))=(if b=32 then cur.reverse::cut 32 [] l else cut 32 (cur.reverse++[b]) l).filter _;have e:=Lo l [];by_cases hb:b=32
  ·rw[if_pos hb,if_pos hb,List.filter_cons,e];by_cases h:cur=[]
   ·subst h;rfl
   ·rw[if_neg (by simpa using h),if_pos (by simpa using h)];rfl
  ·rw[if_neg hb,if_neg hb];have e2:=Lo l (b::cur);rw[List.reverse_cons] at e2;exact e2
theorem cu:∀(t cur:Text),(lines t cur=none/\∃L x,cut 10 cur.reverse t=L++[x]/\x≠[])\/∃L,lines t cur=some L/\cut 10 cur.reverse t=L++[[]]
 |[],cur=>by
  by_cases h:cur=[]
  ·subst h;exact .inr ⟨[],rfl,rfl⟩
  ·refine .inl ⟨if_neg (by simpa using h),[],cur.reverse,rfl,by simpa using h⟩
 |b::l,cur=>by
  by_cases hb:b=10
  ·have e1:lines (b::l) cur=(match lines l [] with|none=>none|some r=>some (cur.reverse::r)):=if_pos hb;have e2:cut 10 cur.reverse (b::l)=cur.reverse::cut 10 [] l:=if_pos hb;rcases cu l [] with⟨h1,L,x,h2,h3⟩|⟨L,h1,h2⟩
   ·rw[e1,e2,h1];exact .inl ⟨rfl,cur.reverse::L,x,by rw[show cut 10 [] l=_ from h2];rfl,h3⟩
   ·rw[e1,e2,h1];exact .inr ⟨cur.reverse::L,rfl,by rw[show cut 10 [] l=_ from h2];rfl⟩
  ·have e1:lines (b::l) cur=lines l (b::cur):=if_neg hb;have e2:cut 10 cur.reverse (b::l)=cut 10 (b::cur).reverse l:=by
    rw[List.reverse_cons];exact if_neg hb
   rw[e1,e2];exact cu l (b::cur)
theorem Zr{goods:List Text}:∀(L:List (List Text))(r:Recipe),linesOn goods r (L++[[]])=linesOn goods r L
 |[],_=>rfl
 |w::L,r=>by
  show(match lineOn goods r w with|none=>none|some q=>linesOn goods q (L++[[]]))=(match lineOn goods r w with|none=>none|some q=>linesOn goods q L);cases lineOn goods r w with
  |none=>rfl
  |some q=>exact Zr L q
theorem xr:∀(t acc:Text),t≠[]->(t.getLast?=some 10↔∃L,cut 10 acc t=L++[[]])
 |[],_,h=>absurd rfl h
 |[b],acc,_=>by
  by_cases hb:b=10
  ·subst hb;exact⟨λ_=>⟨[acc],rfl⟩,λ_=>rfl⟩
  ·have e:cut 10 acc [b]=[acc++[b]]:=if_neg hb;rw[e];constructor
   ·intro h;exact absurd (Option.some.inj h) hb
   ·rintro⟨L,h⟩;cases L with
    |nil=>simp at h
    |cons a L=>simp at h
 |b::c::r,acc,_=>by
  rw[List.getLast?_cons_cons];by_cases hb:b=10
  ·have e:cut 10 acc (b::c::r)=acc::cut 10 [] (c::r):=if_pos hb;rw[e,xr (c::r) [] (by simp)];constructor
   ·rintro⟨L,h⟩;exact⟨acc::L,by rw[h];rfl⟩
   ·rintro⟨L,h⟩;cases L with
    |nil=>
     have h2:cut 10 [] (c::r)=[]:=(List.cons.inj h).2;exfalso;have:∀(t a:Text),cut 10 a t≠[]:=by
      intro t;induction t with
      |nil=>intro a;simp[cut]
      |cons x t ih=>
       intro a;unfold cut;split
       ·simp
       ·exact ih _
     exact this _ _ h2
    |cons a L=>exact⟨L,(List.cons.inj h).2⟩
  ·have e:cut 10 acc (b::c::r)=cut 10 (acc++[b]) (c::r):=if_neg hb;rw[e];exact xr (c::r) (acc++[b]) (by simp)
def Zk(goods:List Text)(t:Text):Option Recipe:=if t.getLast?=some 10 then(match linesOn goods ⟨0,[],[]⟩ ((cut 10 [] t).map λx=>words x []) with
 |none=>none
 |some r=>if r.serves=0\/r.steps.length=0 then none else some r) else none
theorem kI(goods:List Text)(t:Text):readRecipe goods t=Zk goods t:=by
 unfold readRecipe Zk;by_cases ht:t=[]
 ·subst ht;rfl
 ·rcases cu t [] with⟨h1,L,x,h2,h3⟩|⟨L,h1,h2⟩
  ·rw[h1];have:¬t.getLast?=some 10:=λz=>by
    obtain⟨M,hM⟩:=(xr t [] ht).mp z;have h2:cut 10 [] t=L++[x]:=h2;rw[h2] at hM;have:=congrArg List.getLast? hM;rw[List.getLast?_append,List.getLast?_append] at this;simp at this;exact h3 this
   rw[if_neg this]
  ·have h2:cut 10 [] t=L++[[]]:=h2;rw[h1,if_pos ((xr t [] ht).mpr ⟨L,h2⟩),h2,List.map_append];show(match linesOn goods ⟨0,[],[]⟩ (L.map λx=>words x []) with|none=>none|some r=>if r.serves=0\/r.steps.length=0 then none else some r)=(match linesOn goods ⟨0,[],[]⟩ ((L.map λx=>words x [])++[[]]) with|none=>none|some r=>if r.serves=0\/r.steps.length=0 then none else some r);rw[Zr]
end KT
end
section
namespace KT
open Km382
structure vx(n:Nat)(r:Recipe):Prop where
 serves:1<=r.serves/\r.serves<=99
 jG:r.takes.length<=8
 takes:∀t∈r.takes,t.good<n/\1<=t.units/\t.units<=9999
 QW:(r.takes.map Take.good).Nodup
 MF:1<=r.steps.length/\r.steps.length<=8
 steps:∀s∈r.steps,isName s.name=true/\1<=s.long/\s.long<=100/\s.place<3
 after:∀(i:Nat)(s:Step_),r.steps[i]?=some s->s.after.length<=8/\∀j∈s.after,j<i
structure Eu(n:Nat)(r:Recipe):Prop where
 serves:r.serves<=99
 jG:r.takes.length<=8
 takes:∀t∈r.takes,t.good<n/\1<=t.units/\t.units<=9999
 QW:(r.takes.map Take.good).Nodup
 MF:r.steps.length<=8
 steps:∀s∈r.steps,isName s.name=true/\1<=s.long/\s.long<=100/\s.place<3
 after:∀(i:Nat)(s:Step_),r.steps[i]?=some s->s.after.length<=8/\∀j∈s.after,j<i
theorem vx.mono{m n:Nat}{r:Recipe}(h:vx m r)(l:m<=n):vx n r:=
 ⟨h.serves,h.jG,λt ht=>⟨Nat.lt_of_lt_of_le (h.takes t ht).1 l,(h.takes t ht).2⟩,h.QW,h.MF,h.steps,h.after⟩
structure uJ(k:Kitchen)(m:Meal):Prop where
 day:m.day<=10000
 lt:m.recipe<8
 has:∃r,k.recipe m.recipe=some r
 people:1<=m.people/\m.people<=99
 slot:1<=m.slot/\m.slot<=288
structure qc(k:Kitchen):Prop where
 today:k.today<=10000
 places:∃h o c,k.places=[h,o,c]/\h<=6/\o<=4/\1<=c/\c<=6
 Tr:k.goods.length<=16
 goods:∀g∈k.goods,isName g.name=true/\g.price<=100000/\g.bought<=100000000
 As:k.lots.length<=32
 sorted:k.lots.Pairwise λa b=>a.last<=b.last
 lots:∀x∈k.lots,x.good<k.goods.length/\1<=x.units/\x.units<=1000000/\x.last<=10000
 Qs:k.recipes.length=8
 recipes:∀r,some r∈k.recipes->vx k.goods.length r
 Iq:k.meals.length=12
 meals:∀m,some m∈k.meals->uJ k m
structure DInv(d:Desk):Prop where
 now:qc d.now
 past:∀k∈d.past,qc k
 RX:d.past.length<=60
 future:∀k∈d.future,qc k
theorem iD(w:Text):number w<=9999:=by
 unfold number;split
 ·lia
 ·rename_i h;have h4:¬4<w.length:=λz=>h (.inr (.inl z));have hd:(w.all λb=>decide (48<=b)&&decide (b<=57))=true:=by
   cases e:(w.all λb=>decide (48<=b)&&decide (b<=57)) with
   |true=>rfl
   |false=>exact absurd (.inr (.inr (.inr e))) h
  have key:∀(l:Text)(a m:Nat),(l.all λb=>decide (48<=b)&&decide (b<=57))=true->a<=m->l.foldl (λn b=>10*n+(b-48)) a<=l.foldl (λn _=>10*n+9) m:=by
   intro l;induction l with
   |nil=>intro a m _ h;exact h
   |cons b l ih=>
    intro a m hl h;rw[List.all_cons,Bool.and_eq_true,Bool.and_eq_true,decide_eq_true_eq,decide_eq_true_eq] at hl;rw[List.foldl_cons,List.foldl_cons];exact ih _ _ hl.2 (by lia)
  refine Nat.le_trans (key w 0 0 hd (Nat.le_refl _)) ?_
  match w,h4 with
  |[],_=>decide
  |[_],_=>show 9<=9999;decide
  |[_,_],_=>show 99<=9999;decide
  |[_,_,_],_=>show 999<=9999;decide
  |[_,_,_,_],_=>show 9999<=9999;decide
  |_::_::_::_::_::_,h=>simp at h
theorem gR{L:List Text}{x:Text}{i:Nat}(h:L.idxOf? x=some i):i<L.length:=by
 unfold List.idxOf? at h;exact(List.findIdx?_eq_some_iff_getElem.mp h).1
theorem CB:∀{l:List (Option Nat)}{a:List Nat},allOf l=some a->a.length=l.length/\∀j∈a,some j∈l
 |[],a,h=>by cases h;exact⟨rfl,λj hj=>by cases hj⟩
 |none::_,_,h=>by cases h
 |some x::l,a,h=>by
  unfold allOf at h;cases e:allOf l with
  |none=>rw[e] at h;cases h
  |some r=>
   rw[e] at h;cases h;obtain⟨h1,h2⟩:=CB e;refine⟨by simp[h1],λj hj=>?_⟩;rcases List.mem_cons.mp hj with rfl|hj
   ·exact List.mem_cons_self ..
   ·exact List.mem_cons_of_mem _ (h2 j hj)
theorem Jq{a:List Nat}(h:a.eraseDups.length=a.length):a.Nodup:=by
 induction a with
 |nil=>exact List.nodup_nil
 |cons x l ih=>
  rw[List.eraseDups_cons] at h;have key:∀(n:Nat)(m:List Nat),m.length<=n->m.eraseDups.length<=m.length:=by
   intro n;induction n with
   |zero=>
    intro m hm;have:m=[]:=List.length_eq_zero_iff.mp (by lia);subst this;exact Nat.le_refl _
   |succ n ihn=>
    intro m hm;cases m with
    |nil=>exact Nat.le_refl _
    |cons y m=>
     rw[List.eraseDups_cons,List.length_cons,List.length_cons];have h1:=List.length_filter_le (λb=>!b==y) m;have h2:=ihn (m.filter λb=>!b==y) (by rw[List.length_cons] at hm;lia);lia
  rw[List.length_cons,List.length_cons] at h;have h1:=key _ (l.filter λb=>!b==x) (Nat.le_refl _);have h2:=List.length_filter_le (λb=>!b==x) l;have h3:(l.filter λb=>!b==x).length=l.length:=by lia
  have h4:∀b∈l,(!b==x)=true:=List.length_filter_eq_length_iff.mp h3;have h5:(l.filter λb=>!b==x)=l:=List.filter_eq_self.mpr h4;rw[h5] at h;refine List.nodup_cons.mpr ⟨λhx=>?_,ih (by lia)⟩;have:=h4 x hx;simp at this
theorem Pp:∀{a b:List Nat},a.Nodup->(∀x∈a,x∈b)->a.length<=b.length
 |[],_,_,_=>Nat.zero_le _
 |x::a,b,h,s=>by
  obtain⟨h1,h2⟩:=List.nodup_cons.mp h;have hx:=s x (List.mem_cons_self ..);have ih:=Pp (a:=a) (b:=b.erase x) h2 λy hy=>(List.mem_erase_of_ne (λ(e:y=x)=>h1 (by rw[<-e];exact hy))).mpr (s y (List.mem_cons_of_mem _ hy));rw[List.length_erase_of_mem hx] at ih;have:0<b.length:=List.length_pos_of_mem hx;rw[List.length_cons];lia
theorem YE:∀(n:Nat){a:List Nat},a.Nodup->(∀j∈a,j<n)->a.length<=n
 |n,a,h,hl=>by
  have h1:a.length<=(List.range n).length:=Pp h λx hx=>List.mem_range.mpr (hl x hx)
  rwa [List.length_range] at h1
theorem Yv{n:Nat}{r q:Recipe}{name:Text}{long p:Nat}{f:List Text}(h:Eu n r)(e:stepOf r name long p f=some q):Eu n q:=by
 unfold stepOf at e;split at e
 ·cases e
 ·rename_i a ha;split at e
  ·cases e
  ·rename_i hc;cases e;simp only[not_or] at hc;obtain⟨c1,c2,c3,c4,c5,c6,c7⟩:=hc;have hlt:∀j∈a,j<r.steps.length:=λj hj=>by
    have:=(CB ha).2 j hj;obtain⟨w,_,hw⟩:=List.mem_map.mp this;unfold stepNamed at hw;have:=gR hw
    rwa [List.length_map] at this
   have hnd:a.Nodup:=Jq (by lia);have hal:=YE r.steps.length hnd hlt;have c6':r.steps.length<8:=by unfold STEPS at c6;lia
   refine⟨h.serves,h.jG,h.takes,h.QW,?_,λs hs=>?_,λi s hi=>?_⟩
   ·show(r.steps++[_]).length<=8;rw[List.length_append,List.length_singleton];lia
   ·rcases List.mem_append.mp hs with hs|hs
    ·exact h.steps s hs
    ·have hs:=List.mem_singleton.mp hs;subst hs;exact⟨by simpa using c1,by show 1<=long;lia,by show long<=100;lia,by show p<3;lia⟩
   ·by_cases hlt':i<r.steps.length
    ·have hi:(r.steps++[_])[i]?=some s:=hi;rw[List.getElem?_append_left hlt'] at hi;exact h.after i s hi
    ·have hi:(r.steps++[_])[i]?=some s:=hi;rw[List.getElem?_append_right (by lia)] at hi;have:i-r.steps.length=0:=by
      cases hk:i-r.steps.length with
      |zero=>rfl
      |succ m=>rw[hk] at hi;simp at hi
     rw[this] at hi;have hs:=Option.some.inj hi;subst hs;refine⟨by show a.length<=8;lia,λj hj=>?_⟩;have:=hlt j hj;lia
theorem rH{goods:List Text}{r q:Recipe}(h:Eu goods.length r):∀{ws:List Text},lineOn goods r ws=some q->Eu goods.length q
 |[],e=>by cases e;exact h
 |[_],e=>by cases e
 |[a,b],e=>by
  simp only[lineOn] at e;split at e
  ·rename_i hc;cases e;exact⟨hc.2.2.2,h.jG,h.takes,h.QW,h.MF,h.steps,h.after⟩
  ·cases e
 |[a,b,c],e=>by
  simp only[lineOn] at e;split at e
  ·rename_i hc;split at e
   ·cases e
   ·rename_i g hg;split at e
    ·cases e
    ·rename_i hn;cases e;refine⟨h.serves,?_,λt ht=>?_,?_,h.MF,h.steps,h.after⟩
     ·have:=hc.2.2;show(r.takes++[_]).length<=8;rw[List.length_append,List.length_singleton];unfold TAKES at this;lia
     ·rcases List.mem_append.mp ht with ht|ht
      ·exact h.takes t ht
      ·have ht:=List.mem_singleton.mp ht;subst ht;exact⟨gR hg,hc.2.1,iD b⟩
     ·show((r.takes++[_]).map Take.good).Nodup;rw[List.map_append,List.nodup_append];refine⟨h.QW,by simp,λx hx y hy=>?_⟩;have hy:y=g:=by simpa using hy
      subst hy;intro e;subst e;obtain⟨t,ht,e⟩:=List.mem_map.mp hx;exact hn (List.any_eq_true.mpr ⟨t,ht,by simp[e]⟩)
  ·cases e
 |[a,b,c,d],e=>by
  simp only[lineOn] at e;split at e
  ·exact Yv h e
  ·cases e
 |[a,b,c,d,x],e=>by
  simp only[lineOn] at e;split at e<;>cases e
 |a::b::c::d::x::f::l,e=>by
  simp only[lineOn] at e;split at e
  ·split at e
   ·exact Yv h e
   ·cases e
  ·cases e
theorem Kk{goods:List Text}:∀{L:List (List Text)}{r q:Recipe},Eu goods.length r->linesOn goods r L=some q->Eu goods.length q
 |[],r,q,h,e=>by cases e;exact h
 |w::L,r,q,h,e=>by
  unfold linesOn at e;split at e
  ·cases e
  ·rename_i q' hq;exact Kk (rH h hq) e
theorem vD(n:Nat):Eu n ⟨0,[],[]⟩:=⟨Nat.zero_le _,Nat.zero_le _,λt ht=>(by cases ht),List.nodup_nil,Nat.zero_le _,λs hs=>(by cases hs),λi s hi=>(by simp at hi)⟩
theorem bS{goods:List Text}{t:Text}{r:Recipe}(e:readRecipe goods t=some r):vx goods.length r:=by
 unfold readRecipe at e;split at e
 ·cases e
 ·split at e
  ·cases e
  ·rename_i q hq;split at e
   ·cases e
   ·rename_i hc;cases e;have h:=Kk (vD _) hq;simp only[not_or] at hc;exact⟨⟨by lia,h.serves⟩,h.jG,h.takes,h.QW,⟨by lia,h.MF⟩,h.steps,h.after⟩
end KT
end
section
namespace KT
open Km382
theorem Oq{x y:Lot}:∀{l:List Lot},y∈putLot x l↔y=x\/y∈l
 |[]=>by simp[putLot]
 |z::l=>by
  unfold putLot;split
  ·simp
  ·simp only[List.mem_cons,Oq (l:=l)];constructor
   ·rintro(h|h|h)
    ·exact .inr (.inl h)
    ·exact .inl h
    ·exact .inr (.inr h)
   ·rintro(h|h|h)
    ·exact .inr (.inl h)
    ·exact .inl h
    ·exact .inr (.inr h)
theorem Nq{x:Lot}:∀{l:List Lot},(putLot x l).length=l.length+1
 |[]=>rfl
 |z::l=>by
  unfold putLot;split
  ·rfl
  ·simp[Nq (l:=l)]
theorem Yp{x:Lot}:∀{l:List Lot},l.Pairwise (λa b=>a.last<=b.last)->putLot x l=(l.filter λy=>decide (y.last<=x.last))++x::l.filter λy=>decide (x.last<y.last)
 |[],_=>rfl
 |y::l,h=>by
  obtain⟨h1,h2⟩:=List.pairwise_cons.mp h;unfold putLot;by_cases c:x.last<y.last
  ·rw[if_pos c,List.filter_cons,if_neg (by simpa using c),List.filter_cons,if_pos (by simpa using c)];have e1:(l.filter λy=>decide (y.last<=x.last))=[]:=List.filter_eq_nil_iff.mpr λz hz=>by
    have:=h1 z hz;simp;lia
   have e2:(l.filter λy=>decide (x.last<y.last))=l:=List.filter_eq_self.mpr λz hz=>by
    have:=h1 z hz;simp;lia
   rw[e1,e2];rfl
  ·rw[if_neg c,List.filter_cons,if_pos (by simpa using c),List.filter_cons,if_neg (by simpa using c),Yp h2];rfl
theorem Zp{x:Lot}:∀{l:List Lot},l.Pairwise (λa b=>a.last<=b.last)->(putLot x l).Pairwise (λa b=>a.last<=b.last)
 |[],_=>by simp[putLot]
 |y::l,h=>by
  obtain⟨h1,h2⟩:=List.pairwise_cons.mp h;unfold putLot;by_cases c:x.last<y.last
  ·rw[if_pos c];refine List.pairwise_cons.mpr ⟨λz hz=>?_,h⟩;rcases List.mem_cons.mp hz with rfl|hz
   ·lia
   ·have:=h1 z hz;lia
  ·rw[if_neg c];refine List.pairwise_cons.mpr ⟨λz hz=>?_,Zp h2⟩;rcases Oq.mp hz with rfl|hz
   ·lia
   ·exact h1 z hz
theorem ag{g day:Nat}:∀{l:List Lot}{n:Nat}{y:Lot},y∈(takeLots g day n l).1->(∀x∈l,1<=x.units)->∃x∈l,y.good=x.good/\y.last=x.last/\1<=y.units/\y.units<=x.units
 |[],n,y,h,_=>by cases h
 |x::l,n,y,h,hu=>by
  have hu':∀x∈l,1<=x.units:=λz hz=>hu z (List.mem_cons_of_mem _ hz);have hx:=hu x (List.mem_cons_self ..);unfold takeLots at h;split at h
  ·rcases List.mem_append.mp h with h|h
   ·split at h
    ·cases h
    ·rename_i hne;have h:=List.mem_singleton.mp h;subst h;refine⟨x,List.mem_cons_self ..,rfl,rfl,?_,?_⟩
     ·show 1<=x.units-min n x.units;lia
     ·show x.units-min n x.units<=x.units;lia
   ·obtain⟨z,hz,r⟩:=ag h hu';exact⟨z,List.mem_cons_of_mem _ hz,r⟩
  ·rcases List.mem_cons.mp h with rfl|h
   ·exact⟨y,List.mem_cons_self ..,rfl,rfl,hx,Nat.le_refl _⟩
   ·obtain⟨z,hz,r⟩:=ag h hu';exact⟨z,List.mem_cons_of_mem _ hz,r⟩
theorem jf{g day:Nat}:∀{l:List Lot}{n:Nat},(takeLots g day n l).1.length<=l.length
 |[],n=>Nat.le_refl _
 |x::l,n=>by
  unfold takeLots;split
  ·have:=jf (g:=g) (day:=day) (l:=l) (n:=n-min n x.units);show((if x.units=min n x.units then[] else _)++_).length<=_;rw[List.length_append,List.length_cons];split
   ·simp;lia
   ·simp;lia
  ·have:=jf (g:=g) (day:=day) (l:=l) (n:=n);simp;lia
theorem zh{g day:Nat}:∀{l:List Lot}{n:Nat},(∀x∈l,1<=x.units)->l.Pairwise (λa b=>a.last<=b.last)->(takeLots g day n l).1.Pairwise (λa b=>a.last<=b.last)
 |[],n,_,h=>h
 |x::l,n,hu,h=>by
  have hu':∀x∈l,1<=x.units:=λz hz=>hu z (List.mem_cons_of_mem _ hz);obtain⟨h1,h2⟩:=List.pairwise_cons.mp h;unfold takeLots;split
  ·have ih:=zh (g:=g) (day:=day) (n:=n-min n x.units) hu' h2;refine List.pairwise_append.mpr ⟨?_,ih,λa ha b hb=>?_⟩
   ·split<;>simp
   ·split at ha
    ·cases ha
    ·have ha:=List.mem_singleton.mp ha;subst ha;obtain⟨z,hz,_,e,_⟩:=ag hb hu';rw[e];exact h1 z hz
  ·have ih:=zh (g:=g) (day:=day) (n:=n) hu' h2;refine List.pairwise_cons.mpr ⟨λb hb=>?_,ih⟩;obtain⟨z,hz,_,e,_⟩:=ag hb hu';rw[e];exact h1 z hz
structure CA(n:Nat)(l:List Lot):Prop where
 len:l.length<=32
 sorted:l.Pairwise λa b=>a.last<=b.last
 lots:∀x∈l,x.good<n/\1<=x.units/\x.units<=1000000/\x.last<=10000
theorem CA.take{n:Nat}{l:List Lot}(h:CA n l)(g day m:Nat):CA n (takeLots g day m l).1:=by
 have hu:∀x∈l,1<=x.units:=λx hx=>(h.lots x hx).2.1;refine⟨Nat.le_trans jf h.len,zh hu h.sorted,λx hx=>?_⟩;obtain⟨z,hz,e1,e2,e3,e4⟩:=ag hx hu;have:=h.lots z hz;rw[e1,e2];exact⟨this.1,e3,by lia,this.2.2.2⟩
theorem CA.takeAll{n:Nat}{k:Kitchen}{m:Meal}:∀{gs:List Nat}{l q:List Lot},CA n l->takeAll k m gs l=some q->CA n q
 |[],l,q,h,e=>by cases e;exact h
 |g::gs,l,q,h,e=>by
  unfold Km382.takeAll at e;dsimp only at e;split at e
  ·exact CA.takeAll (h.take _ _ _) e
  ·cases e
theorem qc.MX{k:Kitchen}(h:qc k):CA k.goods.length k.lots:=⟨h.As,h.sorted,h.lots⟩
theorem Vv(k:Kitchen)(g:Nat)(f:Good->Good):(k.setGood g f).length=k.goods.length:=by
 unfold Kitchen.setGood;split
 ·rfl
 ·rw[List.length_set]
theorem Sj{α:Type}{l:List α}{i:Nat}{a b:α}(h:b∈l.set i a):b∈l\/b=a:=List.mem_or_eq_of_mem_set h
def aV(l:List Good):Prop:=∀g∈l,isName g.name=true/\g.price<=100000/\g.bought<=100000000
theorem cA{k:Kitchen}{g:Nat}{f:Good->Good}(h:aV k.goods)(hf:∀x,k.goods[g]?=some x->isName (f x).name=true/\(f x).price<=100000/\(f x).bought<=100000000):aV (k.setGood g f):=by
 unfold Kitchen.setGood;split
 ·exact h
 ·rename_i x hx;intro y hy;rcases Sj hy with hy|rfl
  ·exact h y hy
  ·exact hf x hx
theorem Ys:∀(ls:List Lot)(l:List Good),aV l->aV (ls.foldl (λl x=>match l[x.good]? with|none=>l|some g=>l.set x.good {g with thrown:=g.thrown+x.units}) l)/\(ls.foldl (λ(l:List Good) x=>match l[x.good]? with|none=>l|some g=>l.set x.good {g with thrown:=g.thrown+x.units}) l).length=l.length
 |[],l,h=>⟨h,rfl⟩
 |x::ls,l,h=>by
  rw[List.foldl_cons];cases e:l[x.good]? with
  |none=>exact Ys ls l h
  |some g=>
   have hm:=List.mem_of_getElem? e;have:=Ys ls (l.set x.good {g with thrown:=g.thrown+x.units}) (λy hy=>by
    rcases Sj hy with hy|rfl
    ·exact h y hy
    ·exact h g hm)
   rw[List.length_set] at this;exact this
theorem oG(n:Nat->Nat):∀(gs:List Nat)(l:List Good),aV l->aV (gs.foldl (λl g=>match l[g]? with|none=>l|some x=>l.set g {x with used:=x.used+n g}) l)/\(gs.foldl (λ(l:List Good) g=>match l[g]? with|none=>l|some x=>l.set g {x with used:=x.used+n g}) l).length=l.length
 |[],l,h=>⟨h,rfl⟩
 |x::ls,l,h=>by
  rw[List.foldl_cons];cases e:l[x]? with
  |none=>exact oG n ls l h
  |some g=>
   have hm:=List.mem_of_getElem? e;have:=oG n ls (l.set x {g with used:=g.used+n x}) (λy hy=>by
    rcases Sj hy with hy|rfl
    ·exact h y hy
    ·exact h g hm)
   rw[List.length_set] at this;exact this
theorem Cg{k:Kitchen}(h:qc k){i:Nat}{r:Recipe}(e:k.recipe i=some r):i<8/\some r∈k.recipes:=by
 unfold Kitchen.recipe at e;rw[List.getD_eq_getElem?_getD] at e;cases q:k.recipes[i]? with
 |none=>rw[q] at e;cases e
 |some v=>
  rw[q] at e;have e:v=some r:=e;subst e;have:=(List.getElem?_eq_some_iff.mp q).1;exact⟨by rw[h.Qs] at this;exact this,List.mem_of_getElem? q⟩
theorem Ye{k:Kitchen}(h:qc k){i:Nat}{m:Meal}(e:k.meal i=some m):i<12/\some m∈k.meals:=by
 unfold Kitchen.meal at e;rw[List.getD_eq_getElem?_getD] at e;cases q:k.meals[i]? with
 |none=>rw[q] at e;cases e
 |some v=>
  rw[q] at e;have e:v=some m:=e;subst e;have:=(List.getElem?_eq_some_iff.mp q).1;exact⟨by rw[h.Iq] at this;exact this,List.mem_of_getElem? q⟩
theorem uJ.congr{k q:Kitchen}{m:Meal}(h:uJ k m)(e:q.recipes=k.recipes):uJ q m:=by
 refine⟨h.day,h.lt,?_,h.people,h.slot⟩;obtain⟨r,hr⟩:=h.has;refine⟨r,?_⟩;unfold Kitchen.recipe at hr⊢;rw[e];exact hr
theorem qc.setMeal{k:Kitchen}(h:qc k){i:Nat}{m:Option Meal}(hm:∀x,m=some x->uJ k x):qc (k.setMeal i m):=by
 refine⟨h.today,h.places,h.Tr,h.goods,h.As,h.sorted,h.lots,h.Qs,h.recipes,?_,λx hx=>?_⟩
 ·show(k.meals.set i m).length=12;rw[List.length_set];exact h.Iq
 ·refine uJ.congr (k:=k) ?_ rfl;rcases Sj (show some x∈k.meals.set i m from hx) with hx|hx
  ·exact h.meals x hx
  ·exact hm x hx.symm
theorem qc.Hk{k q:Kitchen}(h:qc k)(e1:q.today=k.today)(e2:q.places=k.places)(e3:q.recipes=k.recipes)(e4:q.meals=k.meals)(hg:aV q.goods)(hl:q.goods.length=k.goods.length)(L:CA k.goods.length q.lots):qc q:=by
 refine⟨by rw[e1];exact h.today,by rw[e2];exact h.places,by rw[hl];exact h.Tr,hg,L.len,L.sorted,by rw[hl];exact L.lots,by rw[e3];exact h.Qs,by rw[e3,hl];exact h.recipes,by rw[e4];exact h.Iq,λm hm=>?_⟩;rw[e4] at hm;exact(h.meals m hm).congr e3
theorem Iz{h o c:Nat}(e:okPlaces h o c=true):qc (opened h o c):=by
 unfold okPlaces at e;simp only[Bool.and_eq_true,decide_eq_true_eq] at e;refine⟨Nat.zero_le _,⟨h,o,c,rfl,e⟩,Nat.zero_le _,λg hg=>(by cases hg),Nat.zero_le _,List.Pairwise.nil,λx hx=>(by cases hx),rfl,λr hr=>?_,rfl,λm hm=>?_⟩
 ·have:=List.eq_of_mem_replicate hr;cases this
 ·have:=List.eq_of_mem_replicate hm;cases this
theorem DInv.become{d:Desk}{k:Kitchen}(h:DInv d)(hk:qc k):DInv (d.become k):=by
 refine⟨hk,λq hq=>?_,?_,λq hq=>(by cases hq)⟩
 ·rcases List.mem_cons.mp (List.mem_of_mem_take hq) with rfl|hq
  ·exact h.now
  ·exact h.past q hq
 ·show((d.now::d.past).take 60).length<=60;rw[List.length_take];lia
theorem GI{k:Kitchen}(h:qc k){g:Nat}{f:Good->Good}(hf:∀x∈k.goods,isName (f x).name=true/\(f x).price<=100000/\(k.goods[g]?=some x->(f x).bought<=100000000)):qc {k with goods:=k.setGood g f}:=
 h.Hk rfl rfl rfl rfl (cA h.goods λx hx=>let y:=hf x (List.mem_of_getElem? hx);⟨y.1,y.2.1,y.2.2 hx⟩) (Vv ..) h.MX
theorem ZS{d:Desk}(h:DInv d)(c:Call):DInv (act d c).1:=by
 have hn:=h.now;cases c with
 |start a b c=>
  dsimp only[act];split
  ·exact h
  ·rename_i e;exact⟨Iz (by simpa using e),λk hk=>(by cases hk),Nat.zero_le _,λk hk=>(by cases hk)⟩
 |equip a b c=>
  dsimp only[act];split
  ·exact h
  ·rename_i e;refine h.become ⟨hn.today,?_,hn.Tr,hn.goods,hn.As,hn.sorted,hn.lots,hn.Qs,hn.recipes,hn.Iq,λm hm=>(hn.meals m hm).congr rfl⟩;have e:okPlaces a b c=true:=by simpa using e
   unfold okPlaces at e;simp only[Bool.and_eq_true,decide_eq_true_eq] at e;exact⟨a,b,c,rfl,e⟩
 |day=>
  dsimp only[act];split
  ·exact h
  ·rename_i e;unfold DAYS at e;exact h.become ⟨by show d.now.today+1<=10000;lia,hn.places,hn.Tr,hn.goods,hn.As,hn.sorted,hn.lots,hn.Qs,hn.recipes,hn.Iq,λm hm=>(hn.meals m hm).congr rfl⟩
 |good w n=>
  dsimp only[act];split
  ·exact h
  ·split
   ·exact h
   ·split
    ·exact h
    ·rename_i h1 h2 h3;have hl:∀x:Good,(d.now.goods++[x]).length=d.now.goods.length+1:=λx=>by rw[List.length_append,List.length_singleton]
     unfold GOODS at h3;refine h.become ⟨hn.today,hn.places,?_,λg hg=>?_,hn.As,hn.sorted,λx hx=>?_,hn.Qs,λr hr=>?_,hn.Iq,λm hm=>(hn.meals m hm).congr rfl⟩
     ·show(d.now.goods++[_]).length<=16;rw[hl];lia
     ·rcases List.mem_append.mp hg with hg|hg
      ·exact hn.goods g hg
      ·have hg:=List.mem_singleton.mp hg;subst hg;have:isName (w.take n)=true:=by
        cases e:isName (w.take n) with
        |true=>rfl
        |false=>exact absurd (.inl e) h1
       exact⟨this,Nat.zero_le _,Nat.zero_le _⟩
     ·have:=hn.lots x hx;show x.good<(d.now.goods++[_]).length/\_;rw[hl];exact⟨by lia,this.2⟩
     ·show vx (d.now.goods++[_]).length r;rw[hl];exact(hn.recipes r hr).mono (Nat.le_succ _)
 |price g c=>
  dsimp only[act];split
  ·exact h
  ·split
   ·exact h
   ·rename_i h1 h2;refine h.become (GI hn λx hx=>?_);have:=hn.goods x hx;exact⟨this.1,by show c<=100000;lia,λ_=>this.2.2⟩
 |buy g u last=>
  dsimp only[act];split
  ·exact h
  ·split
   ·exact h
   ·split
    ·exact h
    ·split
     ·exact h
     ·rename_i h1 h2 h3 h4;simp only[not_or] at h2;unfold DAYS at h2;unfold LOTS at h3;refine h.become (hn.Hk rfl rfl rfl rfl (cA hn.goods λx hx=>?_) (Vv ..) ⟨?_,Zp hn.sorted,λx hx=>?_⟩)
      ·have:=hn.goods x (List.mem_of_getElem? hx);refine⟨this.1,this.2.1,?_⟩;unfold Kitchen.boughtOf at h4;rw[hx] at h4;have h4:¬100000000<x.bought+u:=h4;show x.bought+u<=100000000;lia
      ·show(putLot _ d.now.lots).length<=32;rw[Nq];lia
      ·rcases Oq.mp hx with rfl|hx
       ·exact⟨by show g<_;lia,by show 1<=u;lia,by show u<=1000000;lia,by show last<=10000;lia⟩
       ·exact hn.lots x hx
 |throw_=>
  dsimp only[act];split
  ·exact h
  ·refine h.become (hn.Hk rfl rfl rfl rfl (Ys _ _ hn.goods).1 (Ys _ _ hn.goods).2 ⟨?_,hn.sorted.sublist List.filter_sublist,λx hx=>hn.lots x (List.mem_filter.mp hx).1⟩);exact Nat.le_trans (List.length_filter_le _ _) hn.As
 |has g=>exact h
 |lot k=>exact h
 |totals g=>exact h
 |read t n=>
  dsimp only[act];split
  ·exact h
  ·split
   ·exact h
   ·rename_i r hr;split
    ·exact h
    ·rename_i i hi;refine h.become ⟨hn.today,hn.places,hn.Tr,hn.goods,hn.As,hn.sorted,hn.lots,?_,λq hq=>?_,hn.Iq,λm hm=>?_⟩
     ·show(d.now.recipes.set i (some r)).length=8;rw[List.length_set];exact hn.Qs
     ·rcases Sj hq with hq|hq
      ·exact hn.recipes q hq
      ·cases hq;have:=bS hr;unfold Kitchen.names at this
       rwa [List.length_map] at this
     ·have hm':=hn.meals m hm;have hlt:=hm'.lt;obtain⟨q,hq⟩:=hm'.has;refine⟨hm'.day,hm'.lt,?_,hm'.people,hm'.slot⟩;show∃q,(d.now.recipes.set i (some r)).getD m.recipe none=some q;by_cases e:i=m.recipe
      ·subst e;refine⟨r,?_⟩;rw[List.getD_eq_getElem?_getD,List.getElem?_set_self (by rw[hn.Qs];exact hlt)];rfl
      ·refine⟨q,?_⟩;rw[List.getD_eq_getElem?_getD,List.getElem?_set_ne e,<-List.getD_eq_getElem?_getD];exact hq
 |write r=>exact h
 |drop r=>
  dsimp only[act];split
  ·exact h
  ·split
   ·exact h
   ·rename_i q hq hno;refine h.become ⟨hn.today,hn.places,hn.Tr,hn.goods,hn.As,hn.sorted,hn.lots,?_,λq hq=>?_,hn.Iq,λm hm=>?_⟩
    ·show(d.now.recipes.set r none).length=8;rw[List.length_set];exact hn.Qs
    ·rcases Sj hq with hq|hq
     ·exact hn.recipes q hq
     ·cases hq
    ·have hm':=hn.meals m hm;obtain⟨q,hq⟩:=hm'.has;refine⟨hm'.day,hm'.lt,⟨q,?_⟩,hm'.people,hm'.slot⟩;show(d.now.recipes.set r none).getD m.recipe none=some q;have e:r≠m.recipe:=λe=>hno (List.any_eq_true.mpr ⟨some m,hm,by simp[e]⟩);rw[List.getD_eq_getElem?_getD,List.getElem?_set_ne e,<-List.getD_eq_getElem?_getD];exact hq
 |takes r g p=>exact h
 |plan y r p s=>
  dsimp only[act];split
  ·exact h
  ·rename_i q hq;split
   ·exact h
   ·rename_i Kb;split
    ·exact h
    ·refine h.become (hn.setMeal λx hx=>?_);cases hx;have Kb:okMeal d.now y p s=true:=by simpa using Kb
     unfold okMeal DAYS SLOTS at Kb;simp only[Bool.and_eq_true,decide_eq_true_eq] at Kb;exact⟨Kb.2.1,(Cg hn hq).1,⟨q,hq⟩,⟨Kb.2.2.1,Kb.2.2.2.1⟩,Kb.2.2.2.2⟩
 |move m y s=>
  dsimp only[act];split
  ·exact h
  ·rename_i x hx;split
   ·exact h
   ·split
    ·exact h
    ·rename_i Kb;refine h.become (hn.setMeal λz hz=>?_);cases hz;have hm:=hn.meals x (Ye hn hx).2;have Kb:okMeal d.now y x.people s=true:=by simpa using Kb
     unfold okMeal DAYS SLOTS at Kb;simp only[Bool.and_eq_true,decide_eq_true_eq] at Kb;exact⟨Kb.2.1,hm.lt,hm.has,hm.people,Kb.2.2.2.2⟩
 |people m n=>
  dsimp only[act];split
  ·exact h
  ·rename_i x hx;split
   ·exact h
   ·split
    ·exact h
    ·rename_i Kb;refine h.become (hn.setMeal λz hz=>?_);cases hz;have hm:=hn.meals x (Ye hn hx).2;exact⟨hm.day,hm.lt,hm.has,⟨by show 1<=n;lia,by show n<=99;lia⟩,hm.slot⟩
 |unplan m=>
  dsimp only[act];split
  ·exact h
  ·exact h.become (hn.setMeal λz hz=>(by cases hz))
 |meal m=>exact h
 |lacks g y=>exact h
 |list y=>exact h
 |cost y=>exact h
 |cook m=>
  dsimp only[act];split
  ·exact h
  ·rename_i x hx;split
   ·exact h
   ·split
    ·exact h
    ·split
     ·exact h
     ·rename_i l hl;have hm:=hn.meals x (Ye hn hx).2;have hs:qc (d.now.setMeal m (some {x with done:=true})):=hn.setMeal λz hz=>by
       cases hz;exact⟨hm.day,hm.lt,hm.has,hm.people,hm.slot⟩
      exact h.become (hs.Hk rfl rfl rfl rfl (oG _ _ _ hn.goods).1 (oG _ _ _ hn.goods).2 (CA.takeAll hn.MX hl))
 |when_ m i=>exact h
 |busy y t=>exact h
 |back=>
  dsimp only[act];split
  ·exact h
  ·rename_i k r e;have hp:=h.past;have hl:=h.RX;rw[e] at hp hl;refine⟨hp k (List.mem_cons_self ..),λq hq=>hp q (List.mem_cons_of_mem _ hq),by show r.length<=60;simp at hl;lia,λq hq=>?_⟩;rcases List.mem_cons.mp hq with rfl|hq
   ·exact hn
   ·exact h.future q hq
 |again=>
  dsimp only[act];split
  ·exact h
  ·rename_i k r e;have hf:=h.future;rw[e] at hf;refine⟨hf k (List.mem_cons_self ..),λq hq=>?_,?_,λq hq=>hf q (List.mem_cons_of_mem _ hq)⟩
   ·rcases List.mem_cons.mp (List.mem_of_mem_take hq) with rfl|hq
    ·exact hn
    ·exact h.past q hq
   ·show((d.now::d.past).take 60).length<=60;rw[List.length_take];lia
 |state=>exact h
end KT
end
section
namespace KT
open Km382
def val(w:Text):Nat:=w.foldl (λn b=>n*10+(b-48)) 0
theorem oJ:∀(w:Text)(a:Nat),w.foldl (λn b=>n*10+(b-48)) a=w.foldl (λn b=>10*n+(b-48)) a
 |[],_=>rfl
 |b::w,a=>by rw[List.foldl_cons,List.foldl_cons,oJ w,Nat.mul_comm]
theorem IM:∀(w:Text)(a:Nat),a*10^w.length<=w.foldl (λn b=>n*10+(b-48)) a
 |[],a=>by simp
 |b::w,a=>by
  rw[List.foldl_cons,List.length_cons];refine Nat.le_trans ?_ (IM w _);rw[Nat.pow_succ,Nat.mul_comm (10^w.length),<-Nat.mul_assoc];exact Nat.mul_le_mul_right _ (by lia)
def numOf(w:Text)(most:Nat):Nat:=if w.headD 48=48\/w.all Vd=false then 0 else if val w<=most then val w else 0
theorem wz{w:Text}(hw:w≠[]){most:Nat}(hm:most<=9999):numOf w most=if number w<=most then number w else 0:=by
 unfold numOf;by_cases h:w.headD 48=48\/w.all Vd=false
 ·have e:number w=0:=if_pos (h.elim (λz=>.inr (.inr (.inl z))) λz=>.inr (.inr (.inr z)));rw[if_pos h,e,if_pos (Nat.zero_le _)]
 ·rw[if_neg h];simp only[not_or] at h;by_cases h4:4<w.length
  ·have e:number w=0:=if_pos (.inr (.inl h4));rw[e,if_pos (Nat.zero_le _)];refine if_neg ?_;cases w with
   |nil=>exact absurd rfl hw
   |cons b r=>
    have hb:¬b=48:=h.1;have hd:Vd b=true:=by
     have:=h.2;rw[List.all_cons] at this;cases e:Vd b with
     |true=>rfl
     |false=>rw[e] at this;simp at this
    unfold Vd at hd;simp only[Bool.and_eq_true,decide_eq_true_eq] at hd;have g:(0*10+(b-48))*10^r.length<=val (b::r):=IM r (0*10+(b-48));rw[List.length_cons] at h4;have p:10^4<=10^r.length:=Nat.pow_le_pow_right (by lia) (by lia);have q:1*10^r.length<=(0*10+(b-48))*10^r.length:=Nat.mul_le_mul_right _ (by lia);lia
  ·have e:number w=val w:=by
    unfold number val;rw[if_neg]
    ·rw[oJ]
    ·rintro(z|z|z|z)
     ·exact hw (List.length_eq_zero_iff.mp z)
     ·exact h4 z
     ·exact h.1 z
     ·exact h.2 z
   rw[e]
def Zm:List Text->Text
 |[]=>[]
 |[p]=>p
 |p::q::r=>p++(32::Zm (q::r))
theorem YC:∀ws:List Text,line ws=Zm ws++[10]
 |[]=>rfl
 |[_]=>rfl
 |p::q::r=>by
  show p++(32::line (q::r))=p++(32::Zm (q::r))++[10];rw[YC (q::r)];simp
theorem uQ{f:Nat->Text}(h0:∀n,n<10->f n=[48+n])(h1:∀n,10<=n->f n=f (n/10)++[48+n % 10]):∀(k n:Nat),n<10^k->0<k->dec k n=f n
 |0,_,_,h=>absurd h (Nat.lt_irrefl _)
 |k+1,n,hn,_=>by
  unfold dec;by_cases h:n<10
  ·rw[if_pos h,h0 n h]
  ·rw[if_neg h,h1 n (by lia)];have hk:0<k:=by
    cases k with
    |zero=>lia
    |succ k=>lia
   rw[uQ h0 h1 k (n/10) (by rw[Nat.pow_succ] at hn;lia) hk]
end KT
end
section
namespace KT
open Km382 Km382Neutral
inductive AC:Km382Neutral.Call->Km382.Call->Prop where
 |ZL (a:Nat) (b:Nat) (c:Nat) (ha:a<4294967296) (hb:b<4294967296) (hc:c<4294967296):AC [[0,(a:Int),(b:Int),(c:Int)]] (.start a b c)
 |HJ (a:Nat) (b:Nat) (c:Nat) (ha:a<4294967296) (hb:b<4294967296) (hc:c<4294967296):AC [[1,(a:Int),(b:Int),(c:Int)]] (.equip a b c)
 |xV:AC [[2]] (.day)
 |UQ (n:Nat) (hn:n<4294967296) (r:List Nat) (hl:r.length=8) (hr:∀x∈r,x<256):AC [[3,(n:Int)],nums r] (.good r n)
 |UK (a:Nat) (b:Nat) (ha:a<4294967296) (hb:b<4294967296):AC [[4,(a:Int),(b:Int)]] (.price a b)
 |qV (a:Nat) (b:Nat) (c:Nat) (ha:a<4294967296) (hb:b<4294967296) (hc:c<4294967296):AC [[5,(a:Int),(b:Int),(c:Int)]] (.buy a b c)
 |throw_:AC [[6]] (.throw_)
 |IV (a:Nat) (ha:a<4294967296):AC [[7,(a:Int)]] (.has a)
 |fW (a:Nat) (ha:a<4294967296):AC [[8,(a:Int)]] (.lot a)
 |kG (a:Nat) (ha:a<4294967296):AC [[9,(a:Int)]] (.totals a)
 |aS (n:Nat) (hn:n<4294967296) (r:List Nat) (hl:r.length=400) (hr:∀x∈r,x<256):AC [[10,(n:Int)],nums r] (.read r n)
 |qM (a:Nat) (ha:a<4294967296):AC [[11,(a:Int)]] (.write a)
 |wQ (a:Nat) (ha:a<4294967296):AC [[12,(a:Int)]] (.drop a)
 |iM (a:Nat) (b:Nat) (c:Nat) (ha:a<4294967296) (hb:b<4294967296) (hc:c<4294967296):AC [[13,(a:Int),(b:Int),(c:Int)]] (.takes a b c)
 |RR (a:Nat) (b:Nat) (c:Nat) (d:Nat) (ha:a<4294967296) (hb:b<4294967296) (hc:c<4294967296) (hd:d<4294967296):AC [[14,(a:Int),(b:Int),(c:Int),(d:Int)]] (.plan a b c d)
 |AR (a:Nat) (b:Nat) (c:Nat) (ha:a<4294967296) (hb:b<4294967296) (hc:c<4294967296):AC [[15,(a:Int),(b:Int),(c:Int)]] (.move a b c)
 |wF (a:Nat) (b:Nat) (ha:a<4294967296) (hb:b<4294967296):AC [[16,(a:Int),(b:Int)]] (.people a b)
 |nG (a:Nat) (ha:a<4294967296):AC [[17,(a:Int)]] (.unplan a)
 |zR (a:Nat) (ha:a<4294967296):AC [[18,(a:Int)]] (.meal a)
 |jK (a:Nat) (b:Nat) (ha:a<4294967296) (hb:b<4294967296):AC [[19,(a:Int),(b:Int)]] (.lacks a b)
 |tR (a:Nat) (ha:a<4294967296):AC [[20,(a:Int)]] (.list a)
 |pQ (a:Nat) (ha:a<4294967296):AC [[21,(a:Int)]] (.cost a)
 |oQ (a:Nat) (ha:a<4294967296):AC [[22,(a:Int)]] (.cook a)
 |when_ (a:Nat) (b:Nat) (ha:a<4294967296) (hb:b<4294967296):AC [[23,(a:Int),(b:Int)]] (.when_ a b)
 |mQ (a:Nat) (b:Nat) (ha:a<4294967296) (hb:b<4294967296):AC [[24,(a:Int),(b:Int)]] (.busy a b)
 |gQ:AC [[25]] (.back)
 |wJ:AC [[26]] (.again)
 |aM:AC [[27]] (.state)
theorem xh{z:Int}{k:Nat}(h:natural z k=true):∃n:Nat,z=(n:Int)/\n<2^k:=by
 unfold natural at h;simp only[Bool.and_eq_true,decide_eq_true_eq] at h;refine⟨z.toNat,by lia,?_⟩;have e:((2:Int)^k)=((2^k:Nat):Int):=by simp
 rw[e] at h;lia
theorem MT{r:List Int}(h:r.all (λz=>natural z 8)=true):∃l:List Nat,r=nums l/\∀x∈l,x<256:=by
 induction r with
 |nil=>exact⟨[],rfl,λx hx=>(by cases hx)⟩
 |cons z r ih=>
  rw[List.all_cons,Bool.and_eq_true] at h;obtain⟨n,e,hn⟩:=xh h.1;obtain⟨l,e2,hl⟩:=ih h.2;refine⟨n::l,by rw[e,e2];rfl,λx hx=>?_⟩;rcases List.mem_cons.mp hx with rfl|hx
  ·exact hn
  ·exact hl x hx
theorem CO(l:List Nat):nats (nums l)=l:=by
 unfold nats nums;rw[List.map_map];have:(Int.toNat∘λ(x:Nat)=>(x:Int))=id:=by funext x;simp
 rw[this,List.map_id]
theorem rR(l:List Nat):(nums l).length=l.length:=List.length_map ..
theorem WT{c:Km382Neutral.Call}(h:PyFlat.okCall PyKm382.shape c):∃(p:Int)(ns:List Int)(xs:List (List Int)),c=(p::ns)::xs/\∃n k,PyKm382.shape p=some (n,k)/\ns.length=n/\xs.length=k:=by
 obtain⟨p,a,xs,e,hs⟩:=h;exact⟨p,a,xs,e,_,_,hs,rfl,rfl⟩
def shl:List (Int×Nat×Nat)->Int->Option (Nat×Nat)
 |[],_=>none
 |q::r,p=>if p=q.1 then some q.2 else shl r p
theorem DW(p:Int):PyKm382.shape p=shl [(0,3,0),(1,3,0),(2,0,0),(3,1,1),(4,2,0),(5,3,0),(6,0,0),(7,1,0),(8,1,0),(9,1,0),(10,1,1),(11,1,0),(12,1,0),(13,3,0),(14,4,0),(15,3,0),(16,2,0),(17,1,0),(18,1,0),(19,2,0),(20,1,0),(21,1,0),(22,1,0),(23,2,0),(24,2,0),(25,0,0),(26,0,0),(27,0,0)] p:=rfl
theorem Xa{p:Int}{q:Int×Nat×Nat}{r:List (Int×Nat×Nat)}{n k:Nat}(h:shl (q::r) p=some (n,k)):(p=q.1/\q.2=(n,k))\/shl r p=some (n,k):=by
 unfold shl at h;split at h
 ·rename_i e;exact .inl ⟨e,Option.some.inj h⟩
 ·exact .inr h
def ZU(p:Int)(ns:List Int)(xs:List (List Int)):Prop:=asked1 (PyKm382.whole ((p::ns)::xs))=true->PyKm382.whole ((p::ns)::xs)=(p::ns)::xs/\∃x,AC ((p::ns)::xs) x/\callOf ((p::ns)::xs)=some x
theorem nil_of{α:Type}{l:List α}(h:l.length=0):l=[]:=List.eq_nil_of_length_eq_zero h
theorem yh{α:Type}{n:Nat}{l:List α}(h:l.length=n+1):∃a r,l=a::r/\r.length=n:=by
 cases l with
 |nil=>cases h
 |cons a r=>exact⟨a,r,rfl,Nat.succ.inj h⟩
theorem HQ{p:Int}{x:Km382.Call}(a:AC [[p]] x)(w:PyKm382.whole [[p]]=[[p]])(c:callOf [[p]]=some x){ns:List Int}{xs:List (List Int)}(hn:ns.length=0)(hk:xs.length=0):ZU p ns xs:=by
 rw[nil_of hn,nil_of hk];exactλ_=>⟨w,x,a,c⟩
theorem GA{p:Int}{F:Nat->Km382.Call}(a:∀n0:Nat,n0<4294967296->AC [[p,(n0:Int)]] (F n0))(w:∀b0,PyKm382.whole [[p,b0]]=[[p,b0]])(k:∀b0,asked1 (PyKm382.whole [[p,b0]])=(natural b0 32))(c:∀n0:Nat,callOf [[p,(n0:Int)]]=some (F n0)){ns:List Int}{xs:List (List Int)}(hn:ns.length=1)(hk:xs.length=0):ZU p ns xs:=by
 obtain⟨b0,r0,rfl,h0⟩:=yh hn;rw[nil_of h0,nil_of hk];intro ha;rw[k] at ha;obtain⟨n0,rfl,g0⟩:=xh ha;exact⟨w _,_,a n0 g0,c n0⟩
theorem IQ{p:Int}{F:Nat->Nat->Km382.Call}(a:∀n0 n1:Nat,n0<4294967296->n1<4294967296->AC [[p,(n0:Int),(n1:Int)]] (F n0 n1))(w:∀b0 b1,PyKm382.whole [[p,b0,b1]]=[[p,b0,b1]])(k:∀b0 b1,asked1 (PyKm382.whole [[p,b0,b1]])=(natural b0 32&&natural b1 32))(c:∀n0 n1:Nat,callOf [[p,(n0:Int),(n1:Int)]]=some (F n0 n1)){ns:List Int}{xs:List (List Int)}(hn:ns.length=2)(hk:xs.length=0):ZU p ns xs:=by
 obtain⟨b0,r0,rfl,h0⟩:=yh hn;obtain⟨b1,r1,rfl,h1⟩:=yh h0;rw[nil_of h1,nil_of hk];intro ha;rw[k] at ha;simp only[Bool.and_eq_true] at ha;obtain⟨n1,rfl,g1⟩:=xh ha.2;obtain⟨n0,rfl,g0⟩:=xh ha.1;exact⟨w _ _,_,a n0 n1 g0 g1,c n0 n1⟩
theorem JQ{p:Int}{F:Nat->Nat->Nat->Km382.Call}(a:∀n0 n1 n2:Nat,n0<4294967296->n1<4294967296->n2<4294967296->AC [[p,(n0:Int),(n1:Int),(n2:Int)]] (F n0 n1 n2))(w:∀b0 b1 b2,PyKm382.whole [[p,b0,b1,b2]]=[[p,b0,b1,b2]])(k:∀b0 b1 b2,asked1 (PyKm382.whole [[p,b0,b1,b2]])=(natural b0 32&&natural b1 32&&natural b2 32))(c:∀n0 n1 n2:Nat,callOf [[p,(n0:Int),(n1:Int),(n2:Int)]]=some (F n0 n1 n2)){ns:List Int}{xs:List (List Int)}(hn:ns.length=3)(hk:xs.length=0):ZU p ns xs:=by
 obtain⟨b0,r0,rfl,h0⟩:=yh hn;obtain⟨b1,r1,rfl,h1⟩:=yh h0;obtain⟨b2,r2,rfl,h2⟩:=yh h1;rw[nil_of h2,nil_of hk];intro ha;rw[k] at ha;simp only[Bool.and_eq_true] at ha;obtain⟨n2,rfl,g2⟩:=xh ha.2;obtain⟨n1,rfl,g1⟩:=xh ha.1.2;obtain⟨n0,rfl,g0⟩:=xh ha.1.1;exact⟨w _ _ _,_,a n0 n1 n2 g0 g1 g2,c n0 n1 n2⟩
theorem YY{p:Int}{F:Nat->Nat->Nat->Nat->Km382.Call}(a:∀n0 n1 n2 n3:Nat,n0<4294967296->n1<4294967296->n2<4294967296->n3<4294967296->AC [[p,(n0:Int),(n1:Int),(n2:Int),(n3:Int)]] (F n0 n1 n2 n3))(w:∀b0 b1 b2 b3,PyKm382.whole [[p,b0,b1,b2,b3]]=[[p,b0,b1,b2,b3]])(k:∀b0 b1 b2 b3,asked1 (PyKm382.whole [[p,b0,b1,b2,b3]])=(natural b0 32&&natural b1 32&&natural b2 32&&natural b3 32))(c:∀n0 n1 n2 n3:Nat,callOf [[p,(n0:Int),(n1:Int),(n2:Int),(n3:Int)]]=some (F n0 n1 n2 n3)){ns:List Int}{xs:List (List Int)}(hn:ns.length=4)(hk:xs.length=0):ZU p ns xs:=by
 obtain⟨b0,r0,rfl,h0⟩:=yh hn;obtain⟨b1,r1,rfl,h1⟩:=yh h0;obtain⟨b2,r2,rfl,h2⟩:=yh h1;obtain⟨b3,r3,rfl,h3⟩:=yh h2;rw[nil_of h3,nil_of hk];intro ha;rw[k] at ha;simp only[Bool.and_eq_true] at ha;obtain⟨n3,rfl,g3⟩:=xh ha.2;obtain⟨n2,rfl,g2⟩:=xh ha.1.2;obtain⟨n1,rfl,g1⟩:=xh ha.1.1.2;obtain⟨n0,rfl,g0⟩:=xh ha.1.1.1;exact⟨w _ _ _ _,_,a n0 n1 n2 n3 g0 g1 g2 g3,c n0 n1 n2 n3⟩
theorem DX{p:Int}{L:Nat}{F:List Nat->Nat->Km382.Call}(a:∀n:Nat,n<4294967296->∀r:List Nat,r.length=L->(∀x∈r,x<256)->AC [[p,(n:Int)],nums r] (F r n))(w:∀b r,PyKm382.whole [[p,b],r]=[[p,b],r])(k:∀(b:Int)(r:List Int),asked1 (PyKm382.whole [[p,b],r])=((decide (r.length=L)&&r.all (λ(z:Int)=>natural z 8))&&natural b 32))(c:∀(b:Int)(r:List Int),callOf [[p,b],r]=some (F (nats r) b.toNat)){ns:List Int}{xs:List (List Int)}(hn:ns.length=1)(hk:xs.length=1):ZU p ns xs:=by
 obtain⟨b0,r0,rfl,h0⟩:=yh hn;obtain⟨r,s,rfl,h1⟩:=yh hk;rw[nil_of h0,nil_of h1];intro ha;rw[k] at ha;simp only[Bool.and_eq_true,decide_eq_true_eq] at ha;obtain⟨n0,rfl,g0⟩:=xh ha.2;obtain⟨l,rfl,hl2⟩:=MT ha.1.2;exact⟨w _ _,_,a n0 g0 l ((rR l).symm.trans ha.1.1) hl2,by rw[c,CO,Int.toNat_natCast]⟩
theorem eQ{c:Km382Neutral.Call}(ok:PyFlat.okCall PyKm382.shape c)(ha:asked1 (PyKm382.whole c)=true):PyKm382.whole c=c/\∃x,AC c x/\callOf c=some x:=by
 obtain⟨p,ns,xs,rfl,n,k,hs,hn,hk⟩:=WT ok
 suffices h:ZU p ns xs from h ha
 clear ha ok;rw[DW] at hs;rcases Xa hs with⟨rfl,e⟩|hs
 ·cases e;exact JQ AC.ZL (λ_ _ _=>rfl) (λ_ _ _=>rfl) (λ_ _ _=>rfl) hn hk
 rcases Xa hs with⟨rfl,e⟩|hs
 ·cases e;exact JQ AC.HJ (λ_ _ _=>rfl) (λ_ _ _=>rfl) (λ_ _ _=>rfl) hn hk
 rcases Xa hs with⟨rfl,e⟩|hs
 ·cases e;exact HQ AC.xV rfl rfl hn hk
 rcases Xa hs with⟨rfl,e⟩|hs
 ·cases e;exact DX AC.UQ (λ_ _=>rfl) (λ_ _=>rfl) (λ_ _=>rfl) hn hk
 rcases Xa hs with⟨rfl,e⟩|hs
 ·cases e;exact IQ AC.UK (λ_ _=>rfl) (λ_ _=>rfl) (λ_ _=>rfl) hn hk
 rcases Xa hs with⟨rfl,e⟩|hs
 ·cases e;exact JQ AC.qV (λ_ _ _=>rfl) (λ_ _ _=>rfl) (λ_ _ _=>rfl) hn hk
 rcases Xa hs with⟨rfl,e⟩|hs
 ·cases e;exact HQ AC.throw_ rfl rfl hn hk
 rcases Xa hs with⟨rfl,e⟩|hs
 ·cases e;exact GA AC.IV (λ_=>rfl) (λ_=>rfl) (λ_=>rfl) hn hk
 rcases Xa hs with⟨rfl,e⟩|hs
 ·cases e;exact GA AC.fW (λ_=>rfl) (λ_=>rfl) (λ_=>rfl) hn hk
 rcases Xa hs with⟨rfl,e⟩|hs
 ·cases e;exact GA AC.kG (λ_=>rfl) (λ_=>rfl) (λ_=>rfl) hn hk
 rcases Xa hs with⟨rfl,e⟩|hs
 ·cases e;exact DX AC.aS (λ_ _=>rfl) (λ_ _=>rfl) (λ_ _=>rfl) hn hk
 rcases Xa hs with⟨rfl,e⟩|hs
 ·cases e;exact GA AC.qM (λ_=>rfl) (λ_=>rfl) (λ_=>rfl) hn hk
 rcases Xa hs with⟨rfl,e⟩|hs
 ·cases e;exact GA AC.wQ (λ_=>rfl) (λ_=>rfl) (λ_=>rfl) hn hk
 rcases Xa hs with⟨rfl,e⟩|hs
 ·cases e;exact JQ AC.iM (λ_ _ _=>rfl) (λ_ _ _=>rfl) (λ_ _ _=>rfl) hn hk
 rcases Xa hs with⟨rfl,e⟩|hs
 ·cases e;exact YY AC.RR (λ_ _ _ _=>rfl) (λ_ _ _ _=>rfl) (λ_ _ _ _=>rfl) hn hk
 rcases Xa hs with⟨rfl,e⟩|hs
 ·cases e;exact JQ AC.AR (λ_ _ _=>rfl) (λ_ _ _=>rfl) (λ_ _ _=>rfl) hn hk
 rcases Xa hs with⟨rfl,e⟩|hs
 ·cases e;exact IQ AC.wF (λ_ _=>rfl) (λ_ _=>rfl) (λ_ _=>rfl) hn hk
 rcases Xa hs with⟨rfl,e⟩|hs
 ·cases e;exact GA AC.nG (λ_=>rfl) (λ_=>rfl) (λ_=>rfl) hn hk
 rcases Xa hs with⟨rfl,e⟩|hs
 ·cases e;exact GA AC.zR (λ_=>rfl) (λ_=>rfl) (λ_=>rfl) hn hk
 rcases Xa hs with⟨rfl,e⟩|hs
 ·cases e;exact IQ AC.jK (λ_ _=>rfl) (λ_ _=>rfl) (λ_ _=>rfl) hn hk
 rcases Xa hs with⟨rfl,e⟩|hs
 ·cases e;exact GA AC.tR (λ_=>rfl) (λ_=>rfl) (λ_=>rfl) hn hk
 rcases Xa hs with⟨rfl,e⟩|hs
 ·cases e;exact GA AC.pQ (λ_=>rfl) (λ_=>rfl) (λ_=>rfl) hn hk
 rcases Xa hs with⟨rfl,e⟩|hs
 ·cases e;exact GA AC.oQ (λ_=>rfl) (λ_=>rfl) (λ_=>rfl) hn hk
 rcases Xa hs with⟨rfl,e⟩|hs
 ·cases e;exact IQ AC.when_ (λ_ _=>rfl) (λ_ _=>rfl) (λ_ _=>rfl) hn hk
 rcases Xa hs with⟨rfl,e⟩|hs
 ·cases e;exact IQ AC.mQ (λ_ _=>rfl) (λ_ _=>rfl) (λ_ _=>rfl) hn hk
 rcases Xa hs with⟨rfl,e⟩|hs
 ·cases e;exact HQ AC.gQ rfl rfl hn hk
 rcases Xa hs with⟨rfl,e⟩|hs
 ·cases e;exact HQ AC.wJ rfl rfl hn hk
 rcases Xa hs with⟨rfl,e⟩|hs
 ·cases e;exact HQ AC.aM rfl rfl hn hk
 cases hs
theorem zJ{l:List Int}(h:PyKm382.answers_asked l=true):∃cs:List Km382Neutral.Call,l=PyFlat.put cs/\(∀c∈cs,∃x,AC c x/\callOf c=some x)/\may start cs=true/\cs.length<=1000/\PyKm382.answers l=PyFlat.told (PyFlat.played step start cs):=by
 unfold PyKm382.answers_asked at h;unfold PyKm382.answers;unfold PyKm382.calls at h⊢;cases e:PyFlat.calls PyKm382.shape l.length l with
 |none=>rw[e] at h;cases h
 |some cs=>
  rw[e] at h;have h:(PyFlat.atMost 1000 (cs.map PyKm382.whole)&&asked (cs.map PyKm382.whole))=true:=h;obtain⟨hp,Kb⟩:=PyFlat.put_calls _ _ _ e;unfold asked PyFlat.atMost at h;simp only[Bool.and_eq_true,decide_eq_true_eq,List.all_eq_true] at h;obtain⟨h1,h2,h3,h4,h5⟩:=h;have hac:∀c∈cs,PyKm382.whole c=c/\∃x,AC c x/\callOf c=some x:=λc hc=>eQ (Kb c hc) (h4 _ (List.mem_map_of_mem hc));have hm:cs.map PyKm382.whole=cs:=by
   conv=>rhs;rw[<-List.map_id cs]
   exact List.map_congr_left λc hc=>(hac c hc).1
  rw[hm] at h1 h5;refine⟨cs,hp,λc hc=>(hac c hc).2,h5,h1,?_⟩;show PyFlat.told (PyFlat.played step start (cs.map PyKm382.whole))=_;rw[hm]
end KT
end
section
namespace KT
open Km382
def Ow(p:Lot->Bool)(l:List Lot):Nat:=((l.filter p).map Lot.units).sum
def oj(g day:Nat)(x:Lot):Bool:=decide (x.good=g/\day<=x.last)
theorem Py(g day:Nat):∀(l:List Lot)(n:Nat),l.foldl (λn x=>if x.good=g/\day<=x.last then n+x.units else n) n=n+Ow (oj g day) l
 |[],n=>by simp[Ow]
 |x::l,n=>by
  rw[List.foldl_cons];unfold Ow;rw[List.filter_cons];unfold oj;by_cases h:x.good=g/\day<=x.last
  ·rw[if_pos h,if_pos (decide_eq_true h),Py g day l,List.map_cons,List.sum_cons];unfold Ow oj;lia
  ·rw[if_neg h,if_neg (by rw[decide_eq_false h];exact Bool.false_ne_true),Py g day l];unfold Ow oj;rfl
theorem BE(k:Kitchen)(g day:Nat):k.has g day=Ow (oj g day) k.lots:=by
 unfold Kitchen.has;rw[Py];lia
theorem eJ(p:Lot->Bool)(x:Lot):∀l:List Lot,Ow p (putLot x l)=Ow p l+(if p x=true then x.units else 0)
 |[]=>by
  unfold putLot Ow;rw[List.filter_cons];split<;>simp
 |y::l=>by
  unfold putLot;split
  ·unfold Ow;rw[List.filter_cons];split
   ·simp;lia
   ·simp
  ·have ih:=eJ p x l;unfold Ow at ih⊢;rw[List.filter_cons,List.filter_cons];split
   ·simp only[List.map_cons,List.sum_cons];rw[ih];lia
   ·rw[ih]
theorem JJ{p:Nat->Bool}:∀(n:Nat){i:Nat},(List.range n).find? p=some i↔i<n/\p i=true/\∀j,j<i->p j=false:=by
 intro n i;rw[List.find?_eq_some_iff_getElem];constructor
 ·rintro⟨h1,j,hj,e,h2⟩;rw[List.length_range] at hj;rw[List.getElem_range] at e;subst e;refine⟨hj,h1,λm hm=>?_⟩;have:=h2 m hm;rw[List.getElem_range] at this;simpa using this
 ·rintro⟨h1,h2,h3⟩;refine⟨h2,i,by rw[List.length_range];exact h1,by rw[List.getElem_range],λm hm=>?_⟩;rw[List.getElem_range];simp[h3 m hm]
theorem jw{p:Nat->Bool}{n:Nat}:(List.range n).find? p=none↔∀j,j<n->p j=false:=by
 rw[List.find?_eq_none];constructor
 ·intro h j hj;have:=h j (List.mem_range.mpr hj);simpa using this
 ·intro h x hx;have:=h x (List.mem_range.mp hx);simp[this]
end KT
end
section
namespace KT
open Km382
theorem uL{goods:List Text}{r:Recipe}{ws:List Text}(h:ws.head?=some wServes)(hl:ws.length≠2):lineOn goods r ws=none:=by
 match ws,h,hl with
 |[],h,_=>cases h
 |[_],_,_=>rfl
 |[_,_],_,hl=>exact absurd rfl hl
 |[a,b,c],h,_=>
  have e:a=wServes:=Option.some.inj h;subst e;simp only[lineOn];exact if_neg λz=>absurd z.1 (by decide)
 |a::b::c::d::l,h,_=>
  have e:a=wServes:=Option.some.inj h;subst e;simp only[lineOn];exact if_neg (by decide)
theorem vL{goods:List Text}{r:Recipe}{ws:List Text}(h:ws.head?=some wServes)(hl:ws.length=2):∃b,ws=[wServes,b]/\lineOn goods r ws=if r.serves=0/\1<=number b/\number b<=99 then some ⟨number b,r.takes,r.steps⟩ else none:=by
 match ws,h,hl with
 |[a,b],h,_=>
  have e:a=wServes:=Option.some.inj h;subst e;refine⟨b,rfl,?_⟩;simp only[lineOn,true_and]
theorem take_len{goods:List Text}{r:Recipe}{ws:List Text}(h:ws.head?=some wTake)(hl:ws.length≠3):lineOn goods r ws=none:=by
 match ws,h,hl with
 |[],h,_=>cases h
 |[_],_,_=>rfl
 |[a,b],h,_=>
  have e:a=wTake:=Option.some.inj h;subst e;simp only[lineOn];exact if_neg λz=>absurd z.1 (by decide)
 |[_,_,_],_,hl=>exact absurd rfl hl
 |a::b::c::d::l,h,_=>
  have e:a=wTake:=Option.some.inj h;subst e;simp only[lineOn];exact if_neg (by decide)
theorem fM{goods:List Text}{r:Recipe}{ws:List Text}(h:ws.head?=some wTake)(hl:ws.length=3):∃b c,ws=[wTake,b,c]/\lineOn goods r ws=if 1<=number b/\r.takes.length<8 then(match goods.idxOf? c with|none=>none|some g=>if(r.takes.any λt=>t.good==g)=true then none else some ⟨r.serves,r.takes++[⟨g,number b⟩],r.steps⟩) else none:=by
 match ws,h,hl with
 |[a,b,c],h,_=>
  have e:a=wTake:=Option.some.inj h;subst e;refine⟨b,c,rfl,?_⟩;simp only[lineOn,true_and,TAKES];by_cases q:1<=number b/\r.takes.length<8
  ·rw[if_pos q,if_pos q];cases goods.idxOf? c<;>rfl
  ·rw[if_neg q,if_neg q]
theorem QK{goods:List Text}{r:Recipe}{ws:List Text}{a:Text}(h:ws.head?=some a)(h1:a≠wServes)(h2:a≠wTake)(h3:a≠wStep):lineOn goods r ws=none:=by
 match ws,h with
 |[_],_=>rfl
 |[b,c],h=>
  have e:b=a:=Option.some.inj h;subst e;simp only[lineOn];exact if_neg λz=>h1 z.1
 |[b,c,d],h=>
  have e:b=a:=Option.some.inj h;subst e;simp only[lineOn];exact if_neg λz=>h2 z.1
 |b::c::d::e'::l,h=>
  have e:b=a:=Option.some.inj h;subst e;simp only[lineOn];exact if_neg h3
theorem bM{goods:List Text}{r:Recipe}{ws:List Text}(h:ws.head?=some wStep)(hl:ws.length<4):lineOn goods r ws=none:=by
 match ws,h,hl with
 |[],h,_=>cases h
 |[_],_,_=>rfl
 |[a,b],h,_=>
  have e:a=wStep:=Option.some.inj h;subst e;simp only[lineOn];exact if_neg λz=>absurd z.1 (by decide)
 |[a,b,c],h,_=>
  have e:a=wStep:=Option.some.inj h;subst e;simp only[lineOn];exact if_neg λz=>absurd z.1 (by decide)
 |_::_::_::_::_,_,hl=>simp at hl;lia
theorem BP{goods:List Text}{r:Recipe}{ws:List Text}(h:ws.head?=some wStep)(hl:4<=ws.length):∃b c d l,ws=wStep::b::c::d::l/\lineOn goods r ws=(match l with|[]=>stepOf r b (number c) (wPlaces.idxOf d) []|[_]=>none|e::f=>if e=wAfter then stepOf r b (number c) (wPlaces.idxOf d) f else none):=by
 match ws,h,hl with
 |a::b::c::d::l,h,_=>
  have e:a=wStep:=Option.some.inj h;subst e;refine⟨b,c,d,l,rfl,?_⟩;simp only[lineOn,if_true]
  match l with
  |[]=>rfl
  |[_]=>rfl
  |_::_::_=>rfl
 |[],_,hl=>simp at hl
 |[_],_,hl=>simp at hl
 |[_,_],_,hl=>simp at hl
 |[_,_,_],_,hl=>simp at hl
end KT
end
section
namespace KT
open Km382
def Ib(r:Recipe):List Text:=r.steps.map Step_.name
def me(names f:List Text):Bool:=decide (f.eraseDups.length=f.length)&&f.all λw=>names.contains w
def Tn(names:List Text):List Text->Bool
 |[]=>true
 |e::f=>decide (e=wAfter)&&(decide (f≠[])&&me names f)
theorem Hj:∀(n:Nat){α:Type}[BEq α](m:List α),m.length<=n->m.eraseDups.length<=m.length
 |0,α,_,m,hm=>by
  have:m=[]:=List.length_eq_zero_iff.mp (by lia);subst this;exact Nat.le_refl _
 |n+1,α,_,[],hm=>Nat.le_refl _
 |n+1,α,_,y::m,hm=>by
  rw[List.eraseDups_cons,List.length_cons,List.length_cons];have h1:=List.length_filter_le (λb=>!b==y) m;have h2:=Hj n (m.filter λb=>!b==y) (by rw[List.length_cons] at hm;lia);lia
theorem zf{α:Type}[BEq α][LawfulBEq α]:∀(a:List α),a.eraseDups.length=a.length↔a.Nodup
 |[]=>by simp
 |x::l=>by
  rw[List.eraseDups_cons,List.length_cons,List.length_cons,List.nodup_cons];have h1:=Hj _ (l.filter λb=>!b==x) (Nat.le_refl _);have h2:=List.length_filter_le (λb=>!b==x) l;constructor
  ·intro h;have h3:(l.filter λb=>!b==x).length=l.length:=by lia
   have h4:∀b∈l,(!b==x)=true:=List.length_filter_eq_length_iff.mp h3;have h5:(l.filter λb=>!b==x)=l:=List.filter_eq_self.mpr h4;rw[h5] at h;refine⟨λhx=>?_,(zf l).mp (by lia)⟩;have:=h4 x hx;simp at this
  ·rintro⟨h3,h4⟩;have h5:(l.filter λb=>!b==x)=l:=List.filter_eq_self.mpr λb hb=>by
    have:b≠x:=λe=>h3 (by rw[<-e];exact hb);simp[this]
   rw[h5,(zf l).mpr h4]
def Gq(names:List Text)(w:Text):Nat:=(names.idxOf? w).getD 0
theorem Oj{names:List Text}{w:Text}(h:names.contains w=true):names.idxOf? w=some (Gq names w)/\names[Gq names w]?=some w:=by
 cases e:names.idxOf? w with
 |none=>
  unfold List.idxOf? at e;rw[List.findIdx?_eq_none_iff] at e;have:=e w (by simpa using h);simp at this
 |some j=>
  have e0:Gq names w=j:=by unfold Gq;rw[e];rfl
  unfold List.idxOf? at e;obtain⟨h1,h2,_⟩:=List.findIdx?_eq_some_iff_getElem.mp e;have e2:names[j]=w:=by simpa using h2
  rw[e0];exact⟨rfl,by rw[List.getElem?_eq_getElem h1,e2]⟩
theorem iR{names:List Text}{w:Text}(h:names.contains w=false):names.idxOf? w=none:=by
 cases e:names.idxOf? w with
 |none=>rfl
 |some j=>
  unfold List.idxOf? at e;obtain⟨h1,h2,h3⟩:=List.findIdx?_eq_some_iff_getElem.mp e;have e:names[j]=w:=by simpa using h2
  have:w∈names:=by rw[<-e];exact List.getElem_mem h1
  simp[this] at h
theorem Gu{names:List Text}:∀{f:List Text},(f.all λw=>names.contains w)=true->allOf (f.map λw=>names.idxOf? w)=some (f.map (Gq names))
 |[],_=>rfl
 |w::f,h=>by
  rw[List.all_cons,Bool.and_eq_true] at h;rw[List.map_cons,(Oj h.1).1];show(match allOf (f.map λw=>names.idxOf? w) with|none=>none|some r=>some (Gq names w::r))=_;rw[Gu h.2];rfl
theorem wx{names:List Text}:∀{f:List Text},(f.all λw=>names.contains w)=false->allOf (f.map λw=>names.idxOf? w)=none
 |[],h=>by cases h
 |w::f,h=>by
  rw[List.all_cons] at h;rw[List.map_cons];cases hc:names.contains w with
  |false=>rw[iR hc];rfl
  |true=>
   rw[hc,Bool.true_and] at h;rw[(Oj hc).1];show(match allOf (f.map λw=>names.idxOf? w) with|none=>none|some r=>some (Gq names w::r))=_;rw[wx h]
theorem mR{names f:List Text}(h:(f.all λw=>names.contains w)=true):(f.map (Gq names)).Nodup↔f.Nodup:=by
 induction f with
 |nil=>simp
 |cons w f ih=>
  rw[List.all_cons,Bool.and_eq_true] at h;rw[List.map_cons,List.nodup_cons,List.nodup_cons,ih h.2];refine and_congr_left λ_=>not_congr ⟨λhm=>?_,λhm=>List.mem_map_of_mem hm⟩;obtain⟨v,hv,e⟩:=List.mem_map.mp hm;have h1:=(Oj h.1).2;have h2:=(Oj (List.all_eq_true.mp h.2 v hv)).2;rw[<-e,h2] at h1;have:v=w:=Option.some.inj h1;rw[<-this];exact hv
theorem HD(r:Recipe)(b:Text)(long place:Nat)(f:List Text):stepOf r b long place f=if isName b=true/\(Ib r).contains b=false/\1<=long/\long<=100/\place<3/\r.steps.length<8/\me (Ib r) f=true then some ⟨r.serves,r.takes,r.steps++[⟨b,long,place,f.map (Gq (Ib r))⟩]⟩ else none:=by
 have hn:(λw=>stepNamed r.steps w)=λw=>(Ib r).idxOf? w:=rfl;unfold stepOf;cases ha:f.all λw=>(Ib r).contains w with
 |false=>
  rw[show f.map (stepNamed r.steps)=f.map λw=>(Ib r).idxOf? w from rfl,wx ha];refine(if_neg λz=>?_).symm;have:=z.2.2.2.2.2.2;unfold me at this;rw[ha,Bool.and_false] at this;cases this
 |true=>
  rw[show f.map (stepNamed r.steps)=f.map λw=>(Ib r).idxOf? w from rfl,Gu ha];have hd:((f.map (Gq (Ib r))).eraseDups.length=(f.map (Gq (Ib r))).length)↔me (Ib r) f=true:=by
   unfold me;rw[ha,Bool.and_true,decide_eq_true_eq,zf,zf,mR ha]
  have hs:(stepNamed r.steps b).isSome=true↔(Ib r).contains b=true:=by
   show((Ib r).idxOf? b).isSome=true↔_;cases hc:(Ib r).contains b with
   |true=>rw[(Oj hc).1];simp
   |false=>rw[iR hc];simp
  show(if _ then _ else _)=_;by_cases hc:isName b=true/\(Ib r).contains b=false/\1<=long/\long<=100/\place<3/\r.steps.length<8/\me (Ib r) f=true
  ·rw[if_pos hc];obtain⟨c1,c2,c3,c4,c5,c6,c7⟩:=hc;refine if_neg ?_;rintro(z|z|z|z|z|z|z)
   ·rw[c1] at z;cases z
   ·lia
   ·lia
   ·lia
   ·rw[hs,c2] at z;cases z
   ·unfold STEPS at z;lia
   ·exact z (hd.mpr c7)
  ·rw[if_neg hc];refine if_pos ?_;by_cases c1:isName b=true
   ·by_cases c2:(Ib r).contains b=false
    ·by_cases c3:1<=long
     ·by_cases c4:long<=100
      ·by_cases c5:place<3
       ·by_cases c6:r.steps.length<8
        ·by_cases c7:me (Ib r) f=true
         ·exact absurd ⟨c1,c2,c3,c4,c5,c6,c7⟩ hc
         ·exact .inr (.inr (.inr (.inr (.inr (.inr λz=>c7 (hd.mp z))))))
        ·exact .inr (.inr (.inr (.inr (.inr (.inl (by unfold STEPS;lia))))))
       ·exact .inr (.inr (.inr (.inl (by lia))))
      ·exact .inr (.inr (.inl (by lia)))
     ·exact .inr (.inl (by lia))
    ·exact .inr (.inr (.inr (.inr (.inl (hs.mpr (by simpa using c2))))))
   ·exact .inl (by simpa using c1)
theorem cM{goods:List Text}{r:Recipe}{ws:List Text}(h:ws.head?=some wStep)(hl:4<=ws.length):∃b c d l,ws=wStep::b::c::d::l/\lineOn goods r ws=if isName b=true/\(Ib r).contains b=false/\1<=number c/\number c<=100/\wPlaces.idxOf d<3/\r.steps.length<8/\Tn (Ib r) l=true then some ⟨r.serves,r.takes,r.steps++[⟨b,number c,wPlaces.idxOf d,(l.drop 1).map (Gq (Ib r))⟩]⟩ else none:=by
 obtain⟨b,c,d,l,e,h⟩:=BP (goods:=goods) (r:=r) h hl;refine⟨b,c,d,l,e,h.trans ?_⟩
 match l with
 |[]=>
  show stepOf r b (number c) (wPlaces.idxOf d) []=_;rw[HD];rfl
 |[e]=>
  refine(if_neg λz=>?_).symm;have:=z.2.2.2.2.2.2;unfold Tn at this;simp at this
 |e::f::l=>
  show(if e=wAfter then stepOf r b (number c) (wPlaces.idxOf d) (f::l) else none)=_;by_cases he:e=wAfter
  ·have ea:Tn (Ib r) (e::f::l)=me (Ib r) (f::l):=by
    show(decide (e=wAfter)&&(decide (f::l≠[])&&me (Ib r) (f::l)))=_;rw[decide_eq_true he,decide_eq_true (show f::l≠[] by simp),Bool.true_and,Bool.true_and]
   rw[if_pos he,HD,ea];rfl
  ·rw[if_neg he];refine(if_neg λz=>?_).symm;have:(decide (e=wAfter)&&(decide (f::l≠[])&&me (Ib r) (f::l)))=true:=z.2.2.2.2.2.2;rw[decide_eq_false he,Bool.false_and] at this;cases this
theorem place_lt{d:Text}:wPlaces.idxOf d<3↔wPlaces.contains d=true:=by
 have:wPlaces.idxOf d<wPlaces.length↔d∈wPlaces:=List.idxOf_lt_length_iff;rw[show wPlaces.length=3 from rfl] at this;rw[this];simp
theorem QR{d:Text}(h:wPlaces.idxOf d<3):wPlaces.getD (wPlaces.idxOf d) []=d:=by
 have h2:wPlaces.idxOf d<wPlaces.length:=h;rw[List.getD_eq_getElem?_getD,List.getElem?_eq_getElem h2,List.getElem_idxOf h2];rfl
end KT
end
section
namespace KT
open Km382
def Oy(k:Kitchen)(r:Nat):Bool:=k.meals.any λm=>match m with
 |none=>false
 |some x=>x.recipe==r
def fc(k:Kitchen):Call->Option Kitchen×Ans
 |.equip h o c=>if okPlaces h o c=false then(none,only (-22)) else(some {k with places:=[h,o,c]},only 0)
 |.day=>if DAYS<=k.today then(none,only (-28)) else(some {k with today:=k.today+1},only ((k.today+1:Nat):Int))
 |.good w n=>if isName (w.take n)=false\/NAME<n then(none,only (-22)) else if k.names.contains (w.take n)=true then(none,only (-17)) else if GOODS<=k.goods.length then(none,only (-28)) else
  (some {k with goods:=k.goods++[⟨w.take n,0,0,0,0⟩]},only ((k.goods.length:Nat):Int))
 |.price g c=>if k.goods.length<=g then(none,only (-2)) else if 100000<c then(none,only (-22)) else(some {k with goods:=k.setGood g λx=>{x with price:=c}},only 0)
 |.buy g u last=>if k.goods.length<=g then(none,only (-2)) else if u=0\/1000000<u\/last<k.today\/DAYS<last then(none,only (-22)) else if LOTS<=k.lots.length then(none,only (-28)) else if 100000000<k.boughtOf g+u then(none,only (-75)) else
  (some {k with goods:=k.setGood g (λx=>{x with bought:=x.bought+u}),lots:=putLot ⟨g,u,last⟩ k.lots},only ((k.has g k.today+u:Nat):Int))
 |.throw_=>if(k.lots.filter λx=>decide (x.last<k.today)).length=0 then(none,only 0) else(some {k with goods:=throwAll k,lots:=k.lots.filter λx=>decide (k.today<=x.last)},only (((k.lots.filter λx=>decide (x.last<k.today)).length:Nat):Int))
 |.read t n=>if TEXT<n then(none,only (-22)) else match readRecipe k.names (t.take n) with
  |none=>(none,only (-71))
  |some r=>match free_ k.recipes with
   |none=>(none,only (-28))
   |some i=>(some {k with recipes:=k.recipes.set i (some r)},only ((i:Nat):Int))
 |.drop r=>match k.recipe r with
  |none=>(none,only (-2))
  |some _=>if Oy k r=true then(none,only (-16)) else(some {k with recipes:=k.recipes.set r none},only 0)
 |.plan y r p s=>match k.recipe r with
  |none=>(none,only (-2))
  |some _=>if okMeal k y p s=false then(none,only (-22)) else match freeMeal k.meals with
   |none=>(none,only (-28))
   |some i=>(some (k.setMeal i (some ⟨y,r,p,s,false⟩)),only ((i:Nat):Int))
 |.move m y s=>match k.meal m with
  |none=>(none,only (-2))
  |some x=>if x.done=true then(none,only (-17)) else if okMeal k y x.people s=false then(none,only (-22)) else(some (k.setMeal m (some {x with day:=y,slot:=s})),only 0)
 |.people m n=>match k.meal m with
  |none=>(none,only (-2))
  |some x=>if x.done=true then(none,only (-17)) else if n=0\/99<n then(none,only (-22)) else(some (k.setMeal m (some {x with people:=n})),only 0)
 |.unplan m=>match k.meal m with
  |none=>(none,only (-2))
  |some _=>(some (k.setMeal m none),only 0)
 |.cook m=>match k.meal m with
  |none=>(none,only (-2))
  |some x=>if x.done=true then(none,only (-17)) else if x.day≠k.today then(none,only (-16)) else match takeAll k x (List.range k.goods.length) k.lots with
   |none=>(none,only (-61))
   |some l=>(some {(k.setMeal m (some {x with done:=true})) with lots:=l,goods:=useAll k x},only ((l.length:Nat):Int))
 |c=>(none,(act ⟨k,[],[]⟩ c).2)
def nF:Call->Bool
 |.start _ _ _=>true
 |.back=>true
 |.again=>true
 |.state=>true
 |_=>false
theorem xG{d:Desk}{c:Call}(h:nF c=false):act d c=(match(fc d.now c).1 with|none=>d|some k=>d.become k,(fc d.now c).2):=by
 cases c with
 |start a b c=>cases h
 |back=>cases h
 |again=>cases h
 |state=>cases h
 |equip a b c=>dsimp only[act,fc];split<;>rfl
 |day=>dsimp only[act,fc];split<;>rfl
 |good w n=>
  dsimp only[act,fc];repeat' split
  all_goals first|rfl|(rename_i e;cases e;rfl)|(rename_i e;cases e;done)
 |price g c=>
  dsimp only[act,fc];repeat' split
  all_goals first|rfl|(rename_i e;cases e;rfl)|(rename_i e;cases e;done)
 |buy g u l=>
  dsimp only[act,fc];repeat' split
  all_goals first|rfl|(rename_i e;cases e;rfl)|(rename_i e;cases e;done)
 |throw_=>
  dsimp only[act,fc];repeat' split
  all_goals first|rfl|(rename_i e;cases e;rfl)|(rename_i e;cases e;done)
 |has g=>rfl
 |lot k=>rfl
 |totals g=>rfl
 |read t n=>
  dsimp only[act,fc];split
  ·rfl
  ·cases readRecipe d.now.names (t.take n) with
   |none=>rfl
   |some r=>cases free_ d.now.recipes<;>rfl
 |write r=>rfl
 |drop r=>
  dsimp only[act,fc];cases d.now.recipe r with
  |none=>rfl
  |some x=>
   show(if Oy d.now r=true then(d,only (-16)) else _)=_;dsimp only;by_cases hc:Oy d.now r=true
   ·rw[if_pos hc,if_pos hc]
   ·rw[if_neg hc,if_neg hc]
 |takes r g p=>rfl
 |plan y r p s=>
  dsimp only[act,fc];cases d.now.recipe r with
  |none=>rfl
  |some x=>
   dsimp only;split
   ·rfl
   ·cases freeMeal d.now.meals<;>rfl
 |move m y s=>
  dsimp only[act,fc];cases d.now.meal m with
  |none=>rfl
  |some x=>
   dsimp only;repeat' split
   all_goals first|rfl|(rename_i e;cases e;rfl)|(rename_i e;cases e;done)
 |people m n=>
  dsimp only[act,fc];cases d.now.meal m with
  |none=>rfl
  |some x=>
   dsimp only;repeat' split
   all_goals first|rfl|(rename_i e;cases e;rfl)|(rename_i e;cases e;done)
 |unplan m=>
  dsimp only[act,fc];cases d.now.meal m<;>rfl
 |meal m=>rfl
 |lacks g y=>rfl
 |list y=>rfl
 |cost y=>rfl
 |cook m=>
  dsimp only[act,fc];cases d.now.meal m with
  |none=>rfl
  |some x=>
   dsimp only;split
   ·rfl
   ·split
    ·rfl
    ·cases takeAll d.now x (List.range d.now.goods.length) d.now.lots<;>rfl
 |when_ m i=>rfl
 |busy y t=>rfl
end KT
end
section
namespace KT
open Km382 Km382Neutral
theorem Pq:∀a b:List (List (List Int)),PyFlat.put (a++b)=PyFlat.put a++PyFlat.put b
 |[],_=>rfl
 |c::a,b=>by
  show PyFlat.put1 c++PyFlat.put (a++b)=PyFlat.put1 c++PyFlat.put a++PyFlat.put b;rw[Pq a b,List.append_assoc]
theorem lJ(a b:List (List Int)):PyFlat.told (a++b)=PyFlat.told a++PyFlat.told b:=by
 unfold PyFlat.told;rw[List.flatMap_append]
def run(s:S):List Km382Neutral.Call->S
 |[]=>s
 |c::l=>run (step s c).1 l
theorem sI:∀(l:List Km382Neutral.Call)(s:S)(c:Km382Neutral.Call),run s (l++[c])=(step (run s l) c).1
 |[],_,_=>rfl
 |d::l,s,c=>sI l (step s d).1 c
theorem Tv:∀(l:List Km382Neutral.Call)(s:S)(c:Km382Neutral.Call),PyFlat.played step s (l++[c])=PyFlat.played step s l++[(step (run s l) c).2]
 |[],_,_=>rfl
 |d::l,s,c=>by
  show(step s d).2::PyFlat.played step (step s d).1 (l++[c])=(step s d).2::PyFlat.played step (step s d).1 l++[(step (run s (d::l)) c).2];rw[Tv l];rfl
theorem XM:∀(l m:List Km382Neutral.Call)(s:S),may s (l++m)=true->may (run s l) m=true
 |[],_,_,h=>h
 |c::l,m,s,h=>by
  have h:(!((step s c).2.isEmpty)&&may (step s c).1 (l++m))=true:=h;rw[Bool.and_eq_true] at h;exact XM l m _ h.2
theorem Bs{s:S}{c:Km382Neutral.Call}{l:List Km382Neutral.Call}{x:Km382.Call}(h:may s (c::l)=true)(hx:callOf c=some x):(∃d,s=some d)\/(s=none/\∃a b e,x=.start a b e):=by
 have h:(!((step s c).2.isEmpty)&&may (step s c).1 l)=true:=h;rw[Bool.and_eq_true] at h;cases s with
 |some d=>exact .inl ⟨d,rfl⟩
 |none=>
  refine .inr ⟨rfl,?_⟩;have h:=h.1;unfold step at h;rw[hx] at h;cases x with
  |start a b e=>exact⟨a,b,e,rfl⟩
  |_=>cases h
theorem Kf{d:Desk}{c:Km382Neutral.Call}{x:Km382.Call}(hx:callOf c=some x):step (some d) c=(some (act d x).1,told (act d x).2):=by
 unfold step;rw[hx]
theorem il{c:Km382Neutral.Call}{a b e:Nat}(hx:callOf c=some (.start a b e)):step none c=if okPlaces a b e=false then(none,[-22]) else(some ⟨opened a b e,[],[]⟩,[0]):=by
 have ea:act (fresh 1 1 1) (.start a b e)=if okPlaces a b e=false then(fresh 1 1 1,only (-22)) else(⟨opened a b e,[],[]⟩,only 0):=rfl
 unfold step;rw[hx];simp only[Km382Neutral.isStart,if_true,ea];by_cases h:okPlaces a b e=false
 ·simp only[h,if_true];rfl
 ·simp only[h,if_false];rfl
theorem BF:∀(l:List Km382Neutral.Call)(s:S),(∀d,s=some d->DInv d)->(∀c∈l,∃x,AC c x/\callOf c=some x)->may s l=true->∀d,run s l=some d->DInv d
 |[],_,h,_,_=>h
 |c::l,s,h,hc,hm=>by
  obtain⟨x,_,hx⟩:=hc c (List.mem_cons_self ..);have hm':may (step s c).1 l=true:=by
   have h:(!((step s c).2.isEmpty)&&may (step s c).1 l)=true:=hm;rw[Bool.and_eq_true] at h;exact h.2
  refine BF l (step s c).1 (λd hd=>?_) (λc' hc'=>hc c' (List.mem_cons_of_mem _ hc')) hm';rcases Bs hm hx with⟨d0,rfl⟩|⟨rfl,a,b,e,rfl⟩
  ·rw[Kf hx] at hd;have:(act d0 x).1=d:=Option.some.inj hd;rw[<-this];exact ZS (h d0 rfl) x
  ·rw[il hx] at hd;split at hd
   ·cases hd
   ·rename_i ho;have:(⟨opened a b e,[],[]⟩:Desk)=d:=Option.some.inj hd;rw[<-this];exact⟨Iz (by simpa using ho),λk hk=>(by cases hk),Nat.zero_le _,λk hk=>(by cases hk)⟩
end KT
end
section
namespace KT
open Km382
theorem xj(g d:Nat)(x:Lot):∀(l:List Lot)(n:Nat),takeLots g d n (l++[x])=if x.good=g/\d<=x.last then((takeLots g d n l).1++(if x.units=min (takeLots g d n l).2 x.units then[] else[⟨x.good,x.units-min (takeLots g d n l).2 x.units,x.last⟩]),(takeLots g d n l).2-min (takeLots g d n l).2 x.units) else((takeLots g d n l).1++[x],(takeLots g d n l).2)
 |[],n=>by
  show takeLots g d n [x]=_;unfold takeLots;by_cases h:x.good=g/\d<=x.last
  ·rw[if_pos h,if_pos h];simp[takeLots]
  ·rw[if_neg h,if_neg h];simp[takeLots]
 |y::l,n=>by
  rw[List.cons_append];unfold takeLots;by_cases hy:y.good=g/\d<=y.last
  ·simp only[if_pos hy];rw[xj g d x l];by_cases h:x.good=g/\d<=x.last
   ·simp only[if_pos h,List.append_assoc]
   ·simp only[if_neg h,List.append_assoc]
  ·simp only[if_neg hy];rw[xj g d x l];by_cases h:x.good=g/\d<=x.last
   ·simp only[if_pos h,List.cons_append]
   ·simp only[if_neg h,List.cons_append]
theorem Df{P:Lot->Bool}{g d:Nat}(hP:∀x:Lot,x.good=g->d<=x.last->P x=true)(hu:∀(x:Lot)(u:Nat),P ⟨x.good,u,x.last⟩=P x):∀(l:List Lot)(n:Nat),takeLots g d n (l.filter P)=((takeLots g d n l).1.filter P,(takeLots g d n l).2)
 |[],n=>rfl
 |x::l,n=>by
  by_cases h:x.good=g/\d<=x.last
  ·rw[List.filter_cons_of_pos (hP x h.1 h.2)];unfold takeLots;simp only[if_pos h];rw[Df hP hu l,List.filter_append];congr 2;split
   ·rfl
   ·rw[List.filter_cons_of_pos (by rw[hu];exact hP x h.1 h.2)];rfl
  ·by_cases hp:P x=true
   ·rw[List.filter_cons_of_pos hp];unfold takeLots;simp only[if_neg h];rw[Df hP hu l,List.filter_cons_of_pos hp]
   ·rw[List.filter_cons_of_neg hp,Df hP hu l];have e:takeLots g d n (x::l)=(x::(takeLots g d n l).1,(takeLots g d n l).2):=by
     conv=>lhs;unfold takeLots
     simp only[if_neg h]
    rw[e,List.filter_cons_of_neg hp]
theorem ji{k:Kitchen}{P:Lot->Bool}{g:Nat}(hu:∀(x:Lot)(u:Nat),P ⟨x.good,u,x.last⟩=P x):∀(ms:List Meal)(l:List Lot),(∀m∈ms,∀x:Lot,x.good=g->m.day<=x.last->P x=true)->lacksOn k g ms (l.filter P)=lacksOn k g ms l
 |[],_,_=>rfl
 |m::ms,l,h=>by
  unfold lacksOn;simp only;rw[Df (h m (List.mem_cons_self ..)) hu];simp only;rw[ji hu ms _ λm' hm=>h m' (List.mem_cons_of_mem _ hm)]
def lk(k:Kitchen)(g:Nat):List Meal->List Lot×Nat->List Lot×Nat
 |[],s=>s
 |m::l,s=>lk k g l ((takeLots g m.day (k.need m g) s.1).1,s.2+(takeLots g m.day (k.need m g) s.1).2)
theorem tH(k:Kitchen)(g:Nat):∀(ms:List Meal)(l:List Lot)(n:Nat),(lk k g ms (l,n)).2=n+lacksOn k g ms l
 |[],l,n=>rfl
 |m::ms,l,n=>by
  unfold lk lacksOn;simp only;rw[tH k g ms];lia
theorem VM(k:Kitchen)(g:Nat)(m:Meal):∀(ms:List Meal)(s:List Lot×Nat),lk k g (ms++[m]) s=((takeLots g m.day (k.need m g) (lk k g ms s).1).1,(lk k g ms s).2+(takeLots g m.day (k.need m g) (lk k g ms s).1).2)
 |[],s=>rfl
 |y::ms,s=>by
  rw[List.cons_append];unfold lk;exact VM k g m ms _
theorem uR(k:Kitchen)(g:Nat):∀(ms:List Meal)(s:List Lot×Nat),(lk k g ms s).1.length<=s.1.length
 |[],s=>Nat.le_refl _
 |y::ms,s=>by
  unfold lk;exact Nat.le_trans (uR k g ms _) jf
theorem cD{k:Kitchen}{y:Nat}{m:Meal}(h:m∈k.ahead y):some m∈k.meals/\k.today<=m.day/\m.day<=y/\m.done=false:=by
 unfold Kitchen.ahead at h;obtain⟨i,hi,h⟩:=List.mem_flatMap.mp h;obtain⟨o,ho,e⟩:=List.mem_filterMap.mp h;have hi:=List.mem_range.mp hi;cases o with
 |none=>cases e
 |some x=>
  simp only at e;split at e
  ·rename_i hx;cases e;exact⟨ho,by lia,by lia,hx.1⟩
  ·cases e
theorem qR{k:Kitchen}{g y:Nat}:k.lacks g y=(lk k g (k.ahead y) (k.lots.filter (λx=>x.good==g),0)).2:=by
 rw[tH,Nat.zero_add];unfold Kitchen.lacks;rw[ji (λx u=>rfl),ji (λx u=>rfl)]
 ·intro m hm x hx _;simp[hx]
 ·intro m hm x hx hd;have:=cD hm;simp only[decide_eq_true_eq];lia
theorem Bi(k:Kitchen)(m:Meal):∀(a b:List Nat)(l:List Lot),takeAll k m (a++b) l=(takeAll k m a l).bind (takeAll k m b)
 |[],b,l=>rfl
 |g::a,b,l=>by
  rw[List.cons_append];unfold takeAll;simp only;split
  ·exact Bi k m a b _
  ·rfl
theorem jJ(k:Kitchen)(m:Meal)(g:Nat)(l:List Lot):takeAll k m [g] l=if(takeLots g m.day (k.need m g) l).2=0 then some (takeLots g m.day (k.need m g) l).1 else none:=rfl
theorem aw{k:Kitchen}{m:Meal}:∀{gs:List Nat}{l q:List Lot},takeAll k m gs l=some q->q.length<=l.length
 |[],l,q,h=>by cases h;exact Nat.le_refl _
 |g::gs,l,q,h=>by
  unfold takeAll at h;simp only at h;split at h
  ·exact Nat.le_trans (aw h) jf
  ·cases h
def bt(k:Kitchen)(m:Meal)(n:Nat):List Good:=(List.range n).foldl (λl g=>match l[g]? with
 |none=>l
 |some x=>l.set g {x with used:=x.used+k.need m g}) k.goods
theorem pA(k:Kitchen)(m:Meal)(n:Nat):bt k m (n+1)=match(bt k m n)[n]? with
  |none=>bt k m n
  |some x=>(bt k m n).set n {x with used:=x.used+k.need m n}:=by
 unfold bt;rw[List.range_succ,List.foldl_append];rfl
theorem wu(k:Kitchen)(m:Meal):∀n,(bt k m n).length=k.goods.length
 |0=>rfl
 |n+1=>by
  rw[pA];split
  ·exact wu k m n
  ·rw[List.length_set];exact wu k m n
theorem foldl_add(f:Nat->Nat):∀(l:List Nat)(a:Nat),l.foldl (λn g=>n+f g) a=a+(l.map f).sum
 |[],a=>by simp
 |x::l,a=>by
  rw[List.foldl_cons,foldl_add f l,List.map_cons,List.sum_cons];lia
theorem qQ(k:Kitchen)(y:Nat):k.cost y=((List.range k.goods.length).map λg=>(k.lacks g y*k.price g+999)/1000).sum:=by
 unfold Kitchen.cost;rw[foldl_add];lia
end KT
end
section
namespace KT
open Km382
abbrev NN:=Nat×Nat
def lexLe(a b:NN):Prop:=a.1<b.1\/(a.1=b.1/\a.2<=b.2)
theorem lK{a b:NN}(h:lexLe a b)(h':lexLe b a):a=b:=by
 obtain⟨a1,a2⟩:=a;obtain⟨b1,b2⟩:=b;unfold lexLe at h h';simp only at h h';have e1:a1=b1:=by lia
 have e2:a2=b2:=by lia
 rw[e1,e2]
theorem aq:∀{l m:List NN},l.Perm m->l.Pairwise lexLe->m.Pairwise lexLe->l=m
 |[],m,p,_,_=>by rw[List.Perm.nil_eq p]
 |a::l,[],p,_,_=>by have:=p.length_eq;simp at this
 |a::l,b::m,p,hl,hm=>by
  obtain⟨h1,h2⟩:=List.pairwise_cons.mp hl;obtain⟨h3,h4⟩:=List.pairwise_cons.mp hm;have e:a=b:=by
   have ha:a∈b::m:=p.mem_iff.mp (List.mem_cons_self ..);have hb:b∈a::l:=p.mem_iff.mpr (List.mem_cons_self ..);rcases List.mem_cons.mp ha with e|ha
   ·exact e
   ·rcases List.mem_cons.mp hb with e|hb
    ·exact e.symm
    ·exact lK (h1 b hb) (h3 a ha)
  subst e;rw[aq (List.Perm.cons_inv p) h2 h4]
def byPlace(n:Nat)(p:Nat->Bool)(f:Nat->Nat):List NN:=((List.range n).filter p).map λi=>(f i,i)
def Ax(lo m n:Nat)(p:Nat->Bool)(f:Nat->Nat):List NN:=(List.range m).flatMap λt=>((List.range n).filter λi=>p i&&f i==lo+t).map λi=>(lo+t,i)
theorem Iv{n:Nat}{p:Nat->Bool}{f:Nat->Nat}{x:NN}:x∈byPlace n p f↔x.2<n/\p x.2=true/\x.1=f x.2:=by
 unfold byPlace;constructor
 ·intro h;obtain⟨i,hi,rfl⟩:=List.mem_map.mp h;obtain⟨h1,h2⟩:=List.mem_filter.mp hi;exact⟨List.mem_range.mp h1,h2,rfl⟩
 ·rintro⟨h1,h2,h3⟩;refine List.mem_map.mpr ⟨x.2,List.mem_filter.mpr ⟨List.mem_range.mpr h1,h2⟩,?_⟩;rw[<-h3]
theorem zO{lo m n:Nat}{p:Nat->Bool}{f:Nat->Nat}(hf:∀i,i<n->p i=true->lo<=f i/\f i<lo+m){x:NN}:x∈Ax lo m n p f↔x.2<n/\p x.2=true/\x.1=f x.2:=by
 unfold Ax;constructor
 ·intro h;obtain⟨t,ht,h⟩:=List.mem_flatMap.mp h;obtain⟨i,hi,rfl⟩:=List.mem_map.mp h;obtain⟨h1,h2⟩:=List.mem_filter.mp hi;rw[Bool.and_eq_true,beq_iff_eq] at h2;exact⟨List.mem_range.mp h1,h2.1,h2.2.symm⟩
 ·rintro⟨h1,h2,h3⟩;have:=hf x.2 h1 h2;refine List.mem_flatMap.mpr ⟨f x.2-lo,List.mem_range.mpr (by lia),List.mem_map.mpr ⟨x.2,List.mem_filter.mpr ⟨List.mem_range.mpr h1,?_⟩,?_⟩⟩
  ·rw[Bool.and_eq_true,beq_iff_eq];exact⟨h2,by lia⟩
  ·have e:lo+(f x.2-lo)=x.1:=by lia
   rw[e]
theorem jk{lo n:Nat}{p:Nat->Bool}{f:Nat->Nat}:∀(m:Nat),(Ax lo m n p f).Pairwise λa b=>a.1<b.1\/(a.1=b.1/\a.2<b.2)
 |0=>List.Pairwise.nil
 |m+1=>by
  unfold Ax;rw[List.range_succ,List.flatMap_append,List.pairwise_append];refine⟨jk m,?_,λa ha b hb=>?_⟩
  ·rw[List.flatMap_cons,List.flatMap_nil,List.append_nil,List.pairwise_map];refine List.Pairwise.imp (R:=(·<·)) (λh=>.inr ⟨rfl,h⟩) ?_;exact List.Pairwise.filter _ List.pairwise_lt_range
  ·obtain⟨t,ht,h⟩:=List.mem_flatMap.mp ha;obtain⟨i,hi,rfl⟩:=List.mem_map.mp h;rw[List.flatMap_cons,List.flatMap_nil,List.append_nil] at hb;obtain⟨j,hj,rfl⟩:=List.mem_map.mp hb;have:=List.mem_range.mp ht;exact .inl (by simp only;lia)
theorem BH{l:List NN}(h:l.Pairwise λa b=>a.1<b.1\/(a.1=b.1/\a.2<b.2)):l.Nodup:=by
 refine List.Pairwise.imp (λ{a b} h=>?_) h;intro e;subst e;lia
theorem DA{n:Nat}{p:Nat->Bool}{f:Nat->Nat}:(byPlace n p f).Nodup:=by
 unfold byPlace;refine List.pairwise_map.mpr ?_;refine List.Pairwise.imp (R:=(·<·)) (λ{a b} h e=>?_) (List.Pairwise.filter _ List.pairwise_lt_range);have:a=b:=congrArg Prod.snd e;lia
theorem ZH:∀{l m:List NN},l.Nodup->m.Nodup->(∀x,x∈l↔x∈m)->l.Perm m:=λhl hm h=>(List.perm_ext_iff_of_nodup hl hm).mpr h
theorem FD{lo m n:Nat}{p:Nat->Bool}{f:Nat->Nat}(hf:∀i,i<n->p i=true->lo<=f i/\f i<lo+m){ys:List NN}(hp:ys.Perm (byPlace n p f))(hs:ys.Pairwise lexLe):ys=Ax lo m n p f:=by
 refine aq (hp.trans (ZH DA (BH (jk m)) λx=>?_)) hs ?_
 ·rw[Iv,zO hf]
 ·refine List.Pairwise.imp (λ{a b} h=>?_) (jk m);unfold lexLe;lia
theorem JB{lo m n:Nat}{p:Nat->Bool}{f:Nat->Nat}:(Ax lo m n p f).map Prod.snd=(List.range m).flatMap λt=>(List.range n).filter λi=>p i&&f i==lo+t:=by
 unfold Ax;rw[List.map_flatMap];congr 1;funext t;rw[List.map_map];exact List.map_id' _
def Er(k:Kitchen)(y i:Nat):Bool:=match k.meal i with
 |none=>false
 |some x=>!x.done&&(decide (k.today<=x.day)&&decide (x.day<=y))
def kC(k:Kitchen)(i:Nat):Nat:=match k.meal i with
 |none=>0
 |some x=>x.day
def slotAt(k:Kitchen)(i:Nat):Nat:=match k.meal i with
 |none=>0
 |some x=>x.slot
def Tj(k:Kitchen)(y i:Nat):Bool:=match k.meal i with
 |none=>false
 |some x=>x.day==y
theorem pE{α β:Type}(l:List (Option α))(f:Option α->Option β):l.filterMap f=(List.range l.length).filterMap λi=>f (l.getD i none):=by
 induction l with
 |nil=>rfl
 |cons x l ih=>
  rw[List.length_cons,List.range_succ_eq_map,List.filterMap_cons,List.filterMap_cons,List.filterMap_map];have e:(List.range l.length).filterMap ((λi=>f ((x::l).getD i none))∘Nat.succ)=l.filterMap f:=by rw[ih];rfl
  rw[e];rfl
theorem Mr{α β:Type}{p:α->Bool}{g:α->β}{f:α->Option β}:∀{l:List α},(∀x∈l,f x=if p x=true then some (g x) else none)->l.filterMap f=(l.filter p).map g
 |[],_=>rfl
 |x::l,h=>by
  rw[List.filterMap_cons,h x (List.mem_cons_self ..),Mr λy hy=>h y (List.mem_cons_of_mem _ hy)];by_cases hp:p x=true
  ·rw[if_pos hp,List.filter_cons_of_pos hp];rfl
  ·rw[if_neg hp,List.filter_cons_of_neg hp]
theorem kj{α β:Type}{f g:α->List β}:∀{l:List α},(∀x∈l,f x=g x)->l.flatMap f=l.flatMap g
 |[],_=>rfl
 |x::l,h=>by rw[List.flatMap_cons,List.flatMap_cons,h x (List.mem_cons_self ..),kj λy hy=>h y (List.mem_cons_of_mem _ hy)]
theorem ug{α:Type}{p q:α->Bool}:∀{l:List α},(∀x∈l,p x=q x)->l.filter p=l.filter q
 |[],_=>rfl
 |x::l,h=>by
  rw[List.filter_cons,List.filter_cons,h x (List.mem_cons_self ..),ug λy hy=>h y (List.mem_cons_of_mem _ hy)]
def aD(k:Kitchen)(i:Nat):Meal:=(k.meal i).getD ⟨0,0,0,0,true⟩
theorem cQ{k:Kitchen}(hl:k.meals.length=12){y:Nat}{ys:List NN}(hp:ys.Perm (byPlace 12 (Er k y) (kC k)))(hs:ys.Pairwise lexLe):k.ahead y=ys.map λp=>aD k p.2:=by
 have e:=FD (lo:=k.today) (m:=y+1-k.today) (λi _ h=>by
  unfold Er at h;unfold kC;cases hm:k.meal i with
  |none=>rw[hm] at h;cases h
  |some x=>
   rw[hm] at h;simp only[Bool.and_eq_true,decide_eq_true_eq] at h;simp only;lia) hp hs
 have e2:(ys.map λp=>aD k p.2)=(ys.map Prod.snd).map (aD k):=by rw[List.map_map];rfl
 rw[e2,e,JB,List.map_flatMap];unfold Kitchen.ahead;refine kj λt ht=>?_;have ht:=List.mem_range.mp ht;rw[pE,hl];refine Mr λi _=>?_;have em:k.meals.getD i none=k.meal i:=rfl;rw[em];unfold Er kC aD;cases hm:k.meal i with
 |none=>rfl
 |some x=>
  simp only[Option.getD_some];by_cases h:x.done=false/\x.day=k.today+t
  ·rw[if_pos h,if_pos (by simp only[h.1,h.2,Bool.not_false,Bool.true_and,Bool.and_eq_true,decide_eq_true_eq,beq_self_eq_true,and_true];lia)]
  ·rw[if_neg h,if_neg (by
    simp only[Bool.and_eq_true,beq_iff_eq,Bool.not_eq_true'];rintro⟨⟨h1,_⟩,h2⟩;exact h ⟨h1,h2⟩)]
theorem SH{k:Kitchen}(hs1:∀i x,k.meal i=some x->1<=x.slot/\x.slot<=288){y:Nat}{ys:List NN}(hp:ys.Perm (byPlace 12 (Tj k y) (slotAt k)))(hs:ys.Pairwise lexLe):k.order y=ys.map Prod.snd:=by
 have e:=FD (lo:=1) (m:=288) (λi _ h=>by
  unfold Tj at h;unfold slotAt;cases hm:k.meal i with
  |none=>rw[hm] at h;cases h
  |some x=>
   have:=hs1 i x hm;simp only;lia) hp hs
 rw[e,JB];unfold Kitchen.order;refine kj λt _=>ug λi _=>?_;unfold Tj slotAt;cases hm:k.meal i with
 |none=>rfl
 |some x=>
  simp only;rw[Nat.add_comm 1 t]
theorem OO{k:Kitchen}{y i:Nat}(h:i∈k.order y):i<12/\∃x,k.meal i=some x/\x.day=y:=by
 unfold Kitchen.order at h;obtain⟨t,_,h⟩:=List.mem_flatMap.mp h;obtain⟨h1,h2⟩:=List.mem_filter.mp h;refine⟨List.mem_range.mp h1,?_⟩;cases hm:k.meal i with
 |none=>rw[hm] at h2;cases h2
 |some x=>
  rw[hm] at h2;simp only[Bool.and_eq_true,beq_iff_eq] at h2;exact⟨x,rfl,h2.1⟩
theorem pP{n:Nat}{p:Nat->Bool}{f:Nat->Nat}{ys:List NN}(hp:ys.Perm (byPlace n p f)):(ys.map Prod.snd).Nodup:=by
 have:(ys.map Prod.snd).Perm ((byPlace n p f).map Prod.snd):=hp.map _;refine this.nodup_iff.mpr ?_;unfold byPlace;rw[List.map_map];show(((List.range n).filter p).map id).Nodup;rw[List.map_id];exact List.Pairwise.imp (R:=(·<·)) (λ{a b} h e=>by lia) (List.Pairwise.filter _ List.pairwise_lt_range)
end KT
end
section
namespace KT
open Km382
theorem UG{p:Nat->Bool}:∀(n:Nat){s:Nat},(List.range n).reverse.find? p=some s↔s<n/\p s=true/\∀t,s<t->t<n->p t=false
 |0,s=>by simp
 |n+1,s=>by
  rw[List.range_succ,List.reverse_append,List.reverse_singleton,List.singleton_append,List.find?_cons];cases hp:p n with
  |true=>
   simp only[Option.some.injEq];constructor
   ·rintro rfl;exact⟨by lia,hp,λt h1 h2=>by lia⟩
   ·rintro⟨h1,h2,h3⟩;by_cases e:s=n
    ·exact e.symm
    ·have:=h3 n (by lia) (by lia);rw[hp] at this;cases this
  |false=>
   simp only;rw[UG n];constructor
   ·rintro⟨h1,h2,h3⟩;refine⟨by lia,h2,λt h4 h5=>?_⟩;by_cases e:t=n
    ·rw[e];exact hp
    ·exact h3 t h4 (by lia)
   ·rintro⟨h1,h2,h3⟩;by_cases e:s=n
    ·rw[e,hp] at h2;cases h2
    ·exact⟨by lia,h2,λt h4 h5=>h3 t h4 (by lia)⟩
theorem FA{p:Nat->Bool}{n:Nat}:(List.range n).reverse.find? p=none↔∀t,t<n->p t=false:=by
 rw[List.find?_eq_none];constructor
 ·intro h t ht;have:=h t (List.mem_reverse.mpr (List.mem_range.mpr ht));simpa using this
 ·intro h t ht;have:=h t (List.mem_range.mp (List.mem_reverse.mp ht));simp[this]
def vg(us:List Nat)(room s long:Nat):Bool:=(List.range long).all λi=>decide (us.getD (s+i) 0<room)
def lb(us:List Nat)(room long by_:Nat):Option Nat:=if by_<long then none else(List.range (by_-long+1)).reverse.find? λs=>vg us room s long
theorem Cq{us:List Nat}{room s long:Nat}:vg us room s long=true↔∀i,i<long->us.getD (s+i) 0<room:=by
 unfold vg;rw[List.all_eq_true];constructor
 ·intro h i hi;exact of_decide_eq_true (h i (List.mem_range.mpr hi))
 ·intro h i hi;exact decide_eq_true (h i (List.mem_range.mp hi))
theorem FT{us:List Nat}{room long by_:Nat}:lb us room long by_=none↔∀s,s+long<=by_->vg us room s long=false:=by
 unfold lb;split
 ·constructor
  ·intro _ s hs;lia
  ·intro _;rfl
 ·rw[FA];constructor
  ·intro h s hs;exact h s (by lia)
  ·intro h s hs;exact h s (by lia)
theorem RM{us:List Nat}{room long by_ s:Nat}:lb us room long by_=some s↔s+long<=by_/\vg us room s long=true/\∀t,s<t->t+long<=by_->vg us room t long=false:=by
 unfold lb;split
 ·constructor
  ·intro h;cases h
  ·rintro⟨h,_⟩;lia
 ·rw[UG];constructor
  ·rintro⟨h1,h2,h3⟩;exact⟨by lia,h2,λt h4 h5=>h3 t h4 (by lia)⟩
  ·rintro⟨h1,h2,h3⟩;exact⟨by lia,h2,λt h4 h5=>h3 t h4 (by lia)⟩
theorem sO{us:List Nat}{l:List Item}{room place long by_:Nat}(h:∀t,t<by_->us.getD t 0=taken l place t):latest room l place long by_=lb us room long by_:=by
 have key:∀s,s+long<=by_->fits room l place s long=vg us room s long:=λs hs=>by
  unfold fits vg;rw[Bool.eq_iff_iff,List.all_eq_true,List.all_eq_true];constructor
  ·intro z i hi;have h2:=z i hi;have hi:=List.mem_range.mp hi;rw[h (s+i) (by lia)];exact h2
  ·intro z i hi;have h2:=z i hi;have hi:=List.mem_range.mp hi;rw[h (s+i) (by lia)] at h2;exact h2
 unfold latest lb;split
 ·rfl
 ·have hh:∀(n:Nat),(∀s,s<n->fits room l place s long=vg us room s long)->(List.range n).reverse.find? (λs=>fits room l place s long)=(List.range n).reverse.find? (λs=>vg us room s long):=by
   intro n;induction n with
   |zero=>intro _;rfl
   |succ n ih=>
    intro z;rw[List.range_succ,List.reverse_append,List.reverse_singleton,List.singleton_append,List.find?_cons,List.find?_cons,z n (by lia),ih λs hs=>z s (by lia)]
  exact hh _ λs hs=>key s (by lia)
structure Run(us:List Nat)(room long by_ t c:Nat):Prop where
 lt:c<long
 le:t+c<=by_
 free:∀i,i<c->us.getD (t+i) 0<room
 stop:t+c=by_\/¬us.getD (t+c) 0<room
 no:∀s,t<=s->s+long<=by_->vg us room s long=false
theorem Run.start{us:List Nat}{room long by_:Nat}(h:1<=long):Run us room long by_ by_ 0:=⟨by lia,by lia,λi hi=>by lia,.inl rfl,λs h1 h2=>by lia⟩
theorem Run.taken{us:List Nat}{room long by_ t c:Nat}(r:Run us room long by_ (t+1) c)(h:¬us.getD t 0<room):Run us room long by_ t 0:=by
 have:=r.lt;refine⟨by lia,by have:=r.le;lia,λi hi=>by lia,.inr h,λs h1 h2=>?_⟩;by_cases e:s=t
 ·subst e;cases hf:vg us room s long with
  |false=>rfl
  |true=>exact absurd (Cq.mp hf 0 (by lia)) h
 ·exact r.no s (by lia) h2
theorem Run.more{us:List Nat}{room long by_ t c:Nat}(r:Run us room long by_ (t+1) c)(h:us.getD t 0<room)(hl:c+1<long):Run us room long by_ t (c+1):=by
 have hle:=r.le;have e0:t+(c+1)=t+1+c:=by lia
 refine⟨hl,by lia,λi hi=>?_,by rw[e0];exact r.stop,λs h1 h2=>?_⟩
 ·cases i with
  |zero=>exact h
  |succ i=>have:=r.free i (by lia);rw[show t+(i+1)=t+1+i by lia];exact this
 ·by_cases e:s=t
  ·subst e;cases hf:vg us room s long with
   |false=>rfl
   |true=>
    have hf:=Cq.mp hf;rcases r.stop with z|z
    ·lia
    ·have:=hf (c+1) hl;rw[e0] at this;exact absurd this z
  ·exact r.no s (by lia) h2
theorem Run.found{us:List Nat}{room long by_ t c:Nat}(r:Run us room long by_ (t+1) c)(h:us.getD t 0<room)(hl:c+1=long):lb us room long by_=some t:=by
 have hle:=r.le;refine RM.mpr ⟨by lia,Cq.mpr λi hi=>?_,λs h1 h2=>r.no s (by lia) h2⟩;cases i with
 |zero=>exact h
 |succ i=>have:=r.free i (by lia);rw[show t+(i+1)=t+1+i by lia];exact this
theorem Run.none{us:List Nat}{room long by_ c:Nat}(r:Run us room long by_ 0 c):lb us room long by_=none:=FT.mpr λs hs=>r.no s (by lia) hs
def WD(steps:List Step_)(i j:Nat):Bool:=match steps[j]? with
 |none=>false
 |some s=>s.after.contains i
theorem Bk(steps:List Step_)(i:Nat):∀(starts:List NN)(b:Nat),doneBy steps starts b i∈b::(starts.filter λx=>WD steps i x.1).map Prod.snd/\∀y∈b::(starts.filter λx=>WD steps i x.1).map Prod.snd,doneBy steps starts b i<=y
 |[],b=>⟨by simp[doneBy],λy hy=>by
   have:y=b:=by simpa using hy
   subst this;exact Nat.le_refl _⟩
 |x::l,b=>by
  have e:doneBy steps (x::l) b i=doneBy steps l (if WD steps i x.1=true then min b x.2 else b) i:=by
   unfold doneBy WD;rw[List.foldl_cons];cases steps[x.1]? with
   |none=>rfl
   |some s=>rfl
  rw[e];by_cases h:WD steps i x.1=true
  ·rw[if_pos h,List.filter_cons_of_pos (p:=λx:NN=>WD steps i x.1) h,List.map_cons];obtain⟨h1,h2⟩:=Bk steps i l (min b x.2);have hm:=h2 _ (List.mem_cons_self ..);refine⟨?_,λy hy=>?_⟩
   ·rcases List.mem_cons.mp h1 with z|z
    ·rw[z];by_cases hb:b<=x.2
     ·rw[Nat.min_eq_left hb];exact List.mem_cons_self ..
     ·rw[Nat.min_eq_right (by lia)];exact List.mem_cons_of_mem _ (List.mem_cons_self ..)
    ·exact List.mem_cons_of_mem _ (List.mem_cons_of_mem _ z)
   ·rcases List.mem_cons.mp hy with rfl|hy
    ·lia
    ·rcases List.mem_cons.mp hy with rfl|hy
     ·lia
     ·exact h2 y (List.mem_cons_of_mem _ hy)
  ·rw[if_neg h,List.filter_cons_of_neg (p:=λx:NN=>WD steps i x.1) h];exact Bk steps i l b
theorem Xv{steps:List Step_}{i:Nat}{v:Nat->Nat}:∀{starts:List NN},(∀x∈starts,v x.1=x.2)->(starts.filter λx=>WD steps i x.1).map Prod.snd=((starts.map Prod.fst).filter (WD steps i)).map v
 |[],_=>rfl
 |x::l,h=>by
  have ih:=Xv (steps:=steps) (i:=i) (v:=v) (starts:=l) λy hy=>h y (List.mem_cons_of_mem _ hy);rw[List.map_cons];by_cases hx:WD steps i x.1=true
  ·rw[List.filter_cons_of_pos (p:=λx:NN=>WD steps i x.1) hx,List.filter_cons_of_pos (p:=WD steps i) hx,List.map_cons,List.map_cons,ih,h x (List.mem_cons_self ..)]
  ·rw[List.filter_cons_of_neg (p:=λx:NN=>WD steps i x.1) hx,List.filter_cons_of_neg (p:=WD steps i) hx,ih]
theorem lC(steps:List Step_)(i:Nat)(starts:List NN)(b:Nat):doneBy steps starts b i<=b:=(Bk steps i starts b).2 b (List.mem_cons_self ..)
abbrev Bg:=List (NN×Nat)
def Cj(b:Bg)(m i:Nat):Option Nat:=(b.find? λe=>e.1.1==m&&e.1.2==i).map Prod.snd
theorem iQ{b:Bg}{m i t:Nat}(h:Cj b m i=none)(m' i':Nat):Cj (b++[((m,i),t)]) m' i'=if m'=m/\i'=i then some t else Cj b m' i':=by
 unfold Cj at *
 rw[List.find?_append];by_cases e:m'=m/\i'=i
 ·obtain⟨rfl,rfl⟩:=e;have h0:(b.find? λe=>e.1.1==m'&&e.1.2==i')=none:=by
   cases z:(b.find? λe=>e.1.1==m'&&e.1.2==i') with
   |none=>rfl
   |some x=>rw[z] at h;cases h
  rw[h0,if_pos ⟨rfl,rfl⟩];simp
 ·rw[if_neg e];have h1:([((m,i),t)]:Bg).find? (λe=>e.1.1==m'&&e.1.2==i')=none:=by
   rw[List.find?_eq_none];intro x hx;have:x=((m,i),t):=by simpa using hx
   subst this;simp only[Bool.and_eq_true,beq_iff_eq,not_and];intro z w;exact e ⟨z.symm,w.symm⟩
  rw[h1,Option.or_none]
def zu(r:List (Nat×List NN))(m i:Nat):Option Nat:=match r.find? λx=>x.1==m with
 |none=>none
 |some x=>(x.2.find? λy=>y.1==i).map Prod.snd
theorem zU(k:Kitchen)(y m i:Nat):k.when_ y m i=zu (k.clock y).1 m i:=by
 unfold Kitchen.when_ zu;cases(k.clock y).1.find? λx=>x.1==m with
 |none=>rfl
 |some x=>
  simp only;cases x.2.find? λy=>y.1==i<;>rfl
structure Ck where
 b:Bg
 u:List (List Nat)
def Ck.us(c:Ck)(p t:Nat):Nat:=(c.u.getD p []).getD t 0
structure tJ(c:Ck):Prop where
 three:c.u.length=3
 full:∀p,p<3->(c.u.getD p []).length=288
structure WW(c:Ck)(r:List (Nat×List NN))(l:List Item):Prop where
 ok:tJ c
 us:∀p,p<3->∀t,t<288->c.us p t=taken l p t
 len:c.b.length=l.length
 get:∀m i,Cj c.b m i=zu r m i
structure eV(m:Nat)(c:Ck)(r:List (Nat×List NN))(starts:List NN)(l:List Item):Prop where
 ok:tJ c
 us:∀p,p<3->∀t,t<288->c.us p t=taken l p t
 len:c.b.length=l.length
 get:∀m' i,Cj c.b m' i=if m'=m then(starts.find? λy=>y.1==i).map Prod.snd else zu r m' i
theorem WW.mid{c:Ck}{r:List (Nat×List NN)}{l:List Item}(h:WW c r l){m:Nat}(hm:(r.find? λx=>x.1==m)=none):eV m c r [] l:=
 ⟨h.ok,h.us,h.len,λm' i=>by
  rw[h.get];by_cases e:m'=m
  ·subst e;unfold zu;rw[hm,if_pos rfl];rfl
  ·rw[if_neg e]⟩
theorem eV.done{m:Nat}{c:Ck}{r:List (Nat×List NN)}{starts:List NN}{l:List Item}(h:eV m c r starts l):WW c ((m,starts)::r) l:=
 ⟨h.ok,h.us,h.len,λm' i=>by
  rw[h.get];unfold zu;rw[List.find?_cons];by_cases e:m'=m
  ·subst e;simp
  ·have:(m==m')=false:=by simpa usingλz=>e z.symm
   rw[if_neg e];simp only[this]⟩
def bump(us:List Nat)(t n:Nat):List Nat:=us.mapIdx λj x=>if t<=j/\j<t+n then x+1 else x
def Ck.lay(c:Ck)(m i p t n:Nat):Ck:=⟨c.b++[((m,i),t)],c.u.set p (bump (c.u.getD p []) t n)⟩
theorem zx(us:List Nat)(t n:Nat):(bump us t n).length=us.length:=by unfold bump;simp
theorem eT{us:List Nat}{t n j:Nat}(h:j<us.length):(bump us t n).getD j 0=us.getD j 0+if t<=j/\j<t+n then 1 else 0:=by
 unfold bump;rw[List.getD_eq_getElem?_getD,List.getD_eq_getElem?_getD,List.getElem?_mapIdx,List.getElem?_eq_getElem h];simp only[Option.map_some,Option.getD_some];split<;>rfl
theorem PN(us:List Nat)(t:Nat):bump us t 0=us:=by
 unfold bump;apply List.ext_getElem
 ·simp
 ·intro j h1 h2;simp only[List.getElem_mapIdx];rw[if_neg (by lia)]
theorem ON{us:List Nat}{t n:Nat}(h:t+n<us.length):bump us t (n+1)=(bump us t n).set (t+n) (us.getD (t+n) 0+1):=by
 apply List.ext_getElem?;intro j;by_cases e:t+n=j
 ·subst e;rw[List.getElem?_set_self (by rw[zx];exact h)];unfold bump;rw[List.getElem?_mapIdx,List.getElem?_eq_getElem h,Option.map_some,if_pos (by lia),List.getD_eq_getElem?_getD,List.getElem?_eq_getElem h];rfl
 ·rw[List.getElem?_set_ne e];unfold bump;rw[List.getElem?_mapIdx,List.getElem?_mapIdx];cases us[j]? with
  |none=>rfl
  |some x=>
   simp only[Option.map_some];by_cases h3:t<=j/\j<t+n
   ·rw[if_pos h3,if_pos (by lia)]
   ·rw[if_neg h3,if_neg (by lia)]
theorem MN{us:List Nat}{t n:Nat}(h:t+n<us.length):(bump us t n)[t+n]?=some (us.getD (t+n) 0):=by
 unfold bump;rw[List.getElem?_mapIdx,List.getElem?_eq_getElem h,Option.map_some,if_neg (by lia),List.getD_eq_getElem?_getD,List.getElem?_eq_getElem h];rfl
theorem gM(x:Item)(l:List Item)(p t:Nat):taken (x::l) p t=taken l p t+if x.place=p/\x.start<=t/\t<x.start+x.long then 1 else 0:=by
 unfold taken Item.covers;rw[List.filter_cons];by_cases h:x.place=p/\x.start<=t/\t<x.start+x.long
 ·rw[if_pos (by simp[h.1,h.2.1,h.2.2]),if_pos h];rfl
 ·rw[if_neg (by simp only[Bool.and_eq_true,beq_iff_eq,decide_eq_true_eq];exact h),if_neg h];rfl
theorem Ck.bW{c:Ck}(ok:tJ c){m i p t n p' t':Nat}(hp:p<3)(ht:t'<288):(c.lay m i p t n).us p' t'=c.us p' t'+if p=p'/\t<=t'/\t'<t+n then 1 else 0:=by
 unfold Ck.us Ck.lay;simp only;have h3:=ok.three;by_cases e:p=p'
 ·subst e;have e1:(c.u.set p (bump (c.u.getD p []) t n)).getD p []=bump (c.u.getD p []) t n:=by
   rw[List.getD_eq_getElem?_getD,List.getElem?_set_self (by lia)];rfl
  rw[e1,eT (by rw[ok.full p hp];exact ht)];simp
 ·have e1:(c.u.set p (bump (c.u.getD p []) t n)).getD p' []=c.u.getD p' []:=by
   rw[List.getD_eq_getElem?_getD,List.getElem?_set_ne e,List.getD_eq_getElem?_getD]
  rw[e1,if_neg (by lia)];rfl
theorem tJ.lay{c:Ck}(ok:tJ c){m i p t n:Nat}(hp:p<3):tJ (c.lay m i p t n):=by
 have h3:=ok.three;refine⟨by unfold Ck.lay;simp only[List.length_set];exact h3,λq hq=>?_⟩;unfold Ck.lay;simp only;by_cases e:p=q
 ·subst e;have e1:(c.u.set p (bump (c.u.getD p []) t n)).getD p []=bump (c.u.getD p []) t n:=by
   rw[List.getD_eq_getElem?_getD,List.getElem?_set_self (by lia)];rfl
  rw[e1,zx];exact ok.full p hp
 ·have e1:(c.u.set p (bump (c.u.getD p []) t n)).getD q []=c.u.getD q []:=by
   rw[List.getD_eq_getElem?_getD,List.getElem?_set_ne e,List.getD_eq_getElem?_getD]
  rw[e1];exact ok.full q hq
theorem eV.lay{m:Nat}{c:Ck}{r:List (Nat×List NN)}{starts:List NN}{l:List Item}(h:eV m c r starts l){i p t n:Nat}(hp:p<3)(hi:(starts.find? λy=>y.1==i)=none):eV m (c.lay m i p t n) r ((i,t)::starts) (⟨p,t,n⟩::l):=
 ⟨h.ok.lay hp,λp' hp' t' ht'=>by rw[Ck.bW h.ok hp ht',gM,h.us p' hp' t' ht'],by
  show(c.b++[((m,i),t)]).length=_;simp[h.len],λm' i'=>by
  show Cj (c.b++[((m,i),t)]) m' i'=_;rw[iQ (by rw[h.get,if_pos rfl,hi];rfl),h.get,List.find?_cons];by_cases e:m'=m
  ·subst e;by_cases e2:i'=i
   ·subst e2;simp
   ·have:(i==i')=false:=by simpa usingλz=>e2 z.symm
    rw[if_neg (λz=>e2 z.2),if_pos rfl,if_pos rfl];simp only[this]
  ·rw[if_neg (λz=>e z.1),if_neg e,if_neg e]⟩
structure gg(k:Kitchen)(q:Recipe)(m slot:Nat)(r:List (Nat×List NN))(l0:List Item)(c:Nat)(ck:Ck)(starts:List NN)(l:List Item):Prop where
 mid:eV m ck r starts l
 keys:starts.map Prod.fst=List.range' c (q.steps.length-c)
 le:c<=q.steps.length
 eq:layOn k.places q.steps slot (List.range q.steps.length).reverse [] l0=layOn k.places q.steps slot (List.range c).reverse starts l
theorem gg.start{k:Kitchen}{q:Recipe}{m slot:Nat}{r:List (Nat×List NN)}{l:List Item}{ck:Ck}(h:WW ck r l)(hm:(r.find? λx=>x.1==m)=none):gg k q m slot r l q.steps.length ck [] l:=
 ⟨h.mid hm,by simp,Nat.le_refl _,rfl⟩
theorem gg.fresh{k:Kitchen}{q:Recipe}{m slot:Nat}{r:List (Nat×List NN)}{l0 l:List Item}{c:Nat}{ck:Ck}{starts:List NN}(h:gg k q m slot r l0 (c+1) ck starts l):(starts.find? λy=>y.1==c)=none:=by
 rw[List.find?_eq_none];intro x hx;have:x.1∈starts.map Prod.fst:=List.mem_map.mpr ⟨x,hx,rfl⟩;rw[h.keys] at this;have:=(List.mem_range'_1.mp this).1;simp only[beq_iff_eq];lia
theorem gg.step{k:Kitchen}{q:Recipe}{m slot:Nat}{r:List (Nat×List NN)}{l0 l:List Item}{c:Nat}{ck:Ck}{starts:List NN}(h:gg k q m slot r l0 (c+1) ck starts l){s:Step_}(hs:q.steps[c]?=some s)(h3:s.place<3)(h288:slot<=288):(lb (ck.u.getD s.place []) (k.places.getD s.place 0) s.long (doneBy q.steps starts slot c)=none->layOn k.places q.steps slot (List.range q.steps.length).reverse [] l0=none)/\∀t,lb (ck.u.getD s.place []) (k.places.getD s.place 0) s.long (doneBy q.steps starts slot c)=some t->gg k q m slot r l0 c (ck.lay m c s.place t s.long) ((c,t)::starts) (⟨s.place,t,s.long⟩::l):=by
 have hd:=lC q.steps c starts slot;have e:latest (k.places.getD s.place 0) l s.place s.long (doneBy q.steps starts slot c)=lb (ck.u.getD s.place []) (k.places.getD s.place 0) s.long (doneBy q.steps starts slot c):=
  sO λt ht=>h.mid.us s.place h3 t (by lia)
 have el:layOn k.places q.steps slot (List.range (c+1)).reverse starts l=match latest (k.places.getD s.place 0) l s.place s.long (doneBy q.steps starts slot c) with
   |none=>none
   |some t=>layOn k.places q.steps slot (List.range c).reverse ((c,t)::starts) (⟨s.place,t,s.long⟩::l):=by
  rw[List.range_succ,List.reverse_append,List.reverse_singleton,List.singleton_append]
  conv=>lhs;unfold layOn
  rw[hs];rfl
 have hle:=h.le;refine⟨λhn=>?_,λt ht=>⟨h.mid.lay h3 h.fresh,?_,by lia,?_⟩⟩
 ·rw[h.eq,el,e,hn]
 ·rw[List.map_cons,h.keys];have:q.steps.length-c=(q.steps.length-(c+1))+1:=by lia
  rw[this,List.range'_succ]
 ·rw[h.eq,el,e,ht]
theorem gg.at{k:Kitchen}{q:Recipe}{m slot:Nat}{r:List (Nat×List NN)}{l0 l:List Item}{c:Nat}{ck:Ck}{starts:List NN}(h:gg k q m slot r l0 c ck starts l):∀x∈starts,Cj ck.b m x.1=some x.2:=by
 intro x hx;rw[h.mid.get,if_pos rfl];have nd:(starts.map Prod.fst).Nodup:=by rw[h.keys];exact List.nodup_range'
 have key:∀(l:List NN),(l.map Prod.fst).Nodup->x∈l->(l.find? λy=>y.1==x.1)=some x:=by
  intro l;induction l with
  |nil=>intro _ h;cases h
  |cons y l ih=>
   intro hn hx;rw[List.map_cons] at hn;obtain⟨h1,h2⟩:=List.nodup_cons.mp hn;rw[List.find?_cons];rcases List.mem_cons.mp hx with rfl|hx
   ·simp
   ·have:(y.1==x.1)=false:=by
     simp only[beq_eq_false_iff_ne,ne_eq];intro z;exact h1 (z▸List.mem_map.mpr ⟨x,hx,rfl⟩)
    simp only[this];exact ih h2 hx
 rw[key starts nd hx];rfl
structure Day(k:Kitchen)(y:Nat)(ms:List Nat)(ck:Ck)(r:List (Nat×List NN))(l:List Item):Prop where
 ck:WW ck r l
 no:∀m∈ms,(r.find? λx=>x.1==m)=none
 nd:ms.Nodup
 eq:k.clock y=layAll k ms r l
def rY:Ck:=⟨[],[List.replicate 288 0,List.replicate 288 0,List.replicate 288 0]⟩
theorem UN{k:Kitchen}{y:Nat}(nd:(k.order y).Nodup):Day k y (k.order y) rY [] []:=by
 refine⟨⟨⟨rfl,λp hp=>?_⟩,λp hp t ht=>?_,rfl,λm i=>rfl⟩,λ_ _=>rfl,nd,rfl⟩
 ·match p,hp with
  |0,_=>exact List.length_replicate
  |1,_=>exact List.length_replicate
  |2,_=>exact List.length_replicate
 ·show(rY.u.getD p []).getD t 0=0;have:∀n,(List.replicate 288 0:List Nat).getD n 0=0:=λn=>by
   rw[List.getD_eq_getElem?_getD,List.getElem?_replicate];split<;>rfl
  match p,hp with
  |0,_=>exact this t
  |1,_=>exact this t
  |2,_=>exact this t
theorem Day.fail{k:Kitchen}{y m:Nat}{ms:List Nat}{ck:Ck}{r:List (Nat×List NN)}{l:List Item}(h:Day k y (m::ms) ck r l){x:Meal}{q:Recipe}(hx:k.meal m=some x)(hq:k.recipe x.recipe=some q)(hn:layOn k.places q.steps x.slot (List.range q.steps.length).reverse [] l=none):Day k y ms ck r l:=by
 refine⟨h.ck,λz hz=>h.no z (List.mem_cons_of_mem _ hz),(List.nodup_cons.mp h.nd).2,?_⟩;rw[h.eq]
 conv=>lhs;unfold layAll
 simp only[hx,hq,hn]
theorem Day.laid{k:Kitchen}{y m:Nat}{ms:List Nat}{ck ck':Ck}{r:List (Nat×List NN)}{l l':List Item}{starts:List NN}(h:Day k y (m::ms) ck r l){x:Meal}{q:Recipe}(hx:k.meal m=some x)(hq:k.recipe x.recipe=some q)(hl:gg k q m x.slot r l 0 ck' starts l'):Day k y ms ck' ((m,starts)::r) l':=by
 refine⟨hl.mid.done,λz hz=>?_,(List.nodup_cons.mp h.nd).2,?_⟩
 ·rw[List.find?_cons];have:(m==z)=false:=by
   simp only[beq_eq_false_iff_ne,ne_eq];intro e;exact(List.nodup_cons.mp h.nd).1 (e▸hz)
  simp only[this];exact h.no z (List.mem_cons_of_mem _ hz)
 ·rw[h.eq];have e:layOn k.places q.steps x.slot (List.range q.steps.length).reverse [] l=some (starts,l'):=by rw[hl.eq];rfl
  conv=>lhs;unfold layAll
  simp only[hx,hq,e]
theorem Day.end_{k:Kitchen}{y:Nat}{ck:Ck}{r:List (Nat×List NN)}{l:List Item}(h:Day k y [] ck r l):(∀m i,k.when_ y m i=Cj ck.b m i)/\(k.clock y).2.length=ck.b.length/\∀p,p<3->∀t,t<288->taken (k.clock y).2 p t=ck.us p t:=by
 have e:k.clock y=(r,l):=h.eq;refine⟨λm i=>?_,?_,λp hp t ht=>?_⟩
 ·rw[zU,e,h.ck.get]
 ·rw[e,h.ck.len]
 ·rw[e,h.ck.us p hp t ht]
end KT
end
section
namespace KT
open Km382
def SS(d:Desk):Prop:=d.past.length+d.future.length<=60
theorem SS.become{d:Desk}{k:Kitchen}:SS (d.become k):=by
 show((d.now::d.past).take 60).length+0<=60;rw[List.length_take];lia
theorem SS.act{d:Desk}(h:SS d)(c:Call):SS (act d c).1:=by
 have h0:d.past.length+d.future.length<=60:=h;by_cases hd:nF c=false
 ·rw[xG hd];cases(fc d.now c).1 with
  |none=>exact h
  |some k=>exact SS.become
 ·cases c with
  |start a b e=>
   dsimp only[Km382.act];split
   ·exact h
   ·show 0+0<=60;decide
  |back=>
   dsimp only[Km382.act];split
   ·exact h
   ·rename_i k r e;rw[e] at h0;show r.length+(d.now::d.future).length<=60;rw[List.length_cons] at h0⊢;lia
  |again=>
   dsimp only[Km382.act];split
   ·exact h
   ·rename_i k r e;rw[e] at h0;show((d.now::d.past).take 60).length+r.length<=60;rw[List.length_cons] at h0;rw[List.length_take,List.length_cons];lia
  |state=>exact h
  |_=>exact absurd rfl hd
theorem xJ{d:Desk}(h:SS d){k:Kitchen}{r:List Kitchen}(e:d.future=k::r):(d.now::d.past).take PAST=d.now::d.past:=by
 have h0:d.past.length+d.future.length<=60:=h;rw[e,List.length_cons] at h0;exact List.take_of_length_le (by show(d.now::d.past).length<=60;rw[List.length_cons];lia)
end KT
end
section
namespace KT
open Km382 Km382Neutral
def wh:List Int:=[3,3,0,1,2,3,0,1,1,1,1,1,1,3,4,3,2,1,1,2,1,1,1,2,2,0,0,0]
structure uX(l:List Int):Prop where
 is:∃(k w:Nat),l[0]?=some (k:Int)/\k<28/\wh[k]?=some (w:Int)/\((k=3\/k=10)->∃m:Nat,l[1+w]?=some (m:Int)/\l.length=1+w+(1+m))/\(¬(k=3\/k=10)->l.length=1+w)
theorem wG{c:Km382Neutral.Call}{x:Km382.Call}(h:AC c x):uX (PyFlat.put1 c):=by
 induction h with
 |UQ n hn r hl hr=>
  refine⟨3,1,rfl,by decide,rfl,λ_=>⟨8,?_,?_⟩,λz=>absurd (.inl rfl) z⟩
  ·simp[PyFlat.put1,PyFlat.putRows,PyFlat.putRow,nums,hl]
  ·simp[PyFlat.put1,PyFlat.putRows,PyFlat.putRow,nums,hl]
 |aS n hn r hl hr=>
  refine⟨10,1,rfl,by decide,rfl,λ_=>⟨400,?_,?_⟩,λz=>absurd (.inr rfl) z⟩
  ·simp[PyFlat.put1,PyFlat.putRows,PyFlat.putRow,nums,hl]
  ·simp[PyFlat.put1,PyFlat.putRows,PyFlat.putRow,nums,hl]
 |ZL=>exact⟨0,3,rfl,by decide,rfl,λz=>by lia,λ_=>rfl⟩
 |HJ=>exact⟨1,3,rfl,by decide,rfl,λz=>by lia,λ_=>rfl⟩
 |xV=>exact⟨2,0,rfl,by decide,rfl,λz=>by lia,λ_=>rfl⟩
 |UK=>exact⟨4,2,rfl,by decide,rfl,λz=>by lia,λ_=>rfl⟩
 |qV=>exact⟨5,3,rfl,by decide,rfl,λz=>by lia,λ_=>rfl⟩
 |throw_=>exact⟨6,0,rfl,by decide,rfl,λz=>by lia,λ_=>rfl⟩
 |IV=>exact⟨7,1,rfl,by decide,rfl,λz=>by lia,λ_=>rfl⟩
 |fW=>exact⟨8,1,rfl,by decide,rfl,λz=>by lia,λ_=>rfl⟩
 |kG=>exact⟨9,1,rfl,by decide,rfl,λz=>by lia,λ_=>rfl⟩
 |qM=>exact⟨11,1,rfl,by decide,rfl,λz=>by lia,λ_=>rfl⟩
 |wQ=>exact⟨12,1,rfl,by decide,rfl,λz=>by lia,λ_=>rfl⟩
 |iM=>exact⟨13,3,rfl,by decide,rfl,λz=>by lia,λ_=>rfl⟩
 |RR=>exact⟨14,4,rfl,by decide,rfl,λz=>by lia,λ_=>rfl⟩
 |AR=>exact⟨15,3,rfl,by decide,rfl,λz=>by lia,λ_=>rfl⟩
 |wF=>exact⟨16,2,rfl,by decide,rfl,λz=>by lia,λ_=>rfl⟩
 |nG=>exact⟨17,1,rfl,by decide,rfl,λz=>by lia,λ_=>rfl⟩
 |zR=>exact⟨18,1,rfl,by decide,rfl,λz=>by lia,λ_=>rfl⟩
 |jK=>exact⟨19,2,rfl,by decide,rfl,λz=>by lia,λ_=>rfl⟩
 |tR=>exact⟨20,1,rfl,by decide,rfl,λz=>by lia,λ_=>rfl⟩
 |pQ=>exact⟨21,1,rfl,by decide,rfl,λz=>by lia,λ_=>rfl⟩
 |oQ=>exact⟨22,1,rfl,by decide,rfl,λz=>by lia,λ_=>rfl⟩
 |when_=>exact⟨23,2,rfl,by decide,rfl,λz=>by lia,λ_=>rfl⟩
 |mQ=>exact⟨24,2,rfl,by decide,rfl,λz=>by lia,λ_=>rfl⟩
 |gQ=>exact⟨25,0,rfl,by decide,rfl,λz=>by lia,λ_=>rfl⟩
 |wJ=>exact⟨26,0,rfl,by decide,rfl,λz=>by lia,λ_=>rfl⟩
 |aM=>exact⟨27,0,rfl,by decide,rfl,λz=>by lia,λ_=>rfl⟩
theorem XR{c:Km382Neutral.Call}{x:Km382.Call}(h:AC c x):1<=(PyFlat.put1 c).length:=by
 obtain⟨k,w,_,_,_,h1,h2⟩:=(wG h).is;by_cases z:k=3\/k=10
 ·obtain⟨m,_,e⟩:=h1 z;lia
 ·have:=h2 z;lia
end KT
end
section
namespace KT
open Km382 Km382Neutral
theorem JS(a:Ans):(Km382Neutral.told a).length<=a.out.length+1:=by
 unfold Km382Neutral.told nums;simp
theorem mW{d:Desk}{m:Nat}(hm:400<=m)(hg:d.now.goods.length<=16)(hw:∀r x,d.now.recipe r=some x->(writeRecipe d.now.names x).length<=m)(x:Km382.Call):(act d x).2.out.length<=m:=by
 cases x with
 |write r=>
  dsimp only[act];cases hr:d.now.recipe r with
  |none=>exact Nat.zero_le _
  |some y=>
   show(fill 400 _).length<=m;unfold fill;rw[List.length_append,List.length_replicate];have:=hw r y hr;lia
 |list y=>
  dsimp only[act];split
  ·exact Nat.zero_le _
  ·show(fill 16 _).length<=m;unfold fill;rw[List.length_append,List.length_replicate,List.length_map,List.length_range];lia
 |_=>dsimp only[act];(repeat' split)<;>first|exact Nat.zero_le _|(refine Nat.le_trans ?_ hm;show _<=400;simp)
end KT
end
section
namespace L2
open PySem PySem.Spec PyProof.Rows
abbrev Key:=Sum Int Str
def Cv:Key->Value->Bool
 |.inl k,v=>Value.isInt k v
 |.inr x,v=>Value.isStrOf x v
def ZY(w:World):Key->Int
 |.inl k=>hashInt k
 |.inr x=>hashStr w x
theorem Vc:∀{k:Key}{v:Value},Cv k v=true->(∃i t,k=Sum.inl i/\v=Value.int i t)\/(∃x t,k=Sum.inr x/\v=Value.str x t)
 |.inl i,v,h=>by
  obtain⟨t,e⟩:=Value.isInt_shape (k:=i) (v:=v) h;exact .inl ⟨i,t,rfl,e⟩
 |.inr x,v,h=>by
  obtain⟨t,e⟩:=Value.isStrOf_shape (x:=x) (v:=v) h;exact .inr ⟨x,t,rfl,e⟩
theorem qO(i:Int)(t:Tok):Cv (.inl i) (.int i t)=true:=by simp[Cv,Value.isInt]
theorem rO(x:Str)(t:Tok):Cv (.inr x) (.str x t)=true:=by simp[Cv,Value.isStrOf]
theorem VV(a b:Int):decide ((Sum.inl a:Key)=Sum.inl b)=(a==b):=by
 by_cases e:a=b
 ·subst e;simp
 ·have h:¬(Sum.inl a:Key)=Sum.inl b:=λq=>e (Sum.inl.inj q);rw[decide_eq_false h];exact(beq_eq_false_iff_ne.mpr e).symm
theorem ZV(a b:Str):decide ((Sum.inr a:Key)=Sum.inr b)=decide (a=b):=by
 by_cases e:a=b
 ·subst e;simp
 ·have h:¬(Sum.inr a:Key)=Sum.inr b:=λq=>e (Sum.inr.inj q);rw[decide_eq_false h,decide_eq_false e]
theorem WV(a:Int)(b:Str):decide ((Sum.inl a:Key)=Sum.inr b)=false:=decide_eq_false (λq=>nomatch q)
theorem YV(a:Str)(b:Int):decide ((Sum.inr a:Key)=Sum.inl b)=false:=decide_eq_false (λq=>nomatch q)
def ud(prog:Program)(w:World):PySem.KeyKind prog w Key where
 is:=Cv
 hash:=ZY w
 inj:=λv a b ha hb=>by
  rcases Vc ha with⟨i,t,rfl,rfl⟩|⟨x,t,rfl,rfl⟩
  ·rcases Vc hb with⟨j,u,rfl,e⟩|⟨y,u,rfl,e⟩
   ·injection e with e1 _;rw[e1]
   ·exact nomatch e
  ·rcases Vc hb with⟨j,u,rfl,e⟩|⟨y,u,rfl,e⟩
   ·exact nomatch e
   ·injection e with e1 _;rw[e1]
 byValue:=λk v h=>by
  rcases Vc h with⟨i,t,rfl,rfl⟩|⟨x,t,rfl,rfl⟩<;>rfl
 pyHash:=λhv h=>by
  rcases Vc hv with⟨i,t,rfl,rfl⟩|⟨x,t,rfl,rfl⟩
  ·exact wpAny_pyHash_int h
  ·exact wpAny_pyHash_str h
 eqBool:=λhu hv h=>by
  rcases Vc hu with⟨i,t,rfl,rfl⟩|⟨x,t,rfl,rfl⟩
  ·rcases Vc hv with⟨j,u,rfl,rfl⟩|⟨y,u,rfl,rfl⟩
   ·rw[VV] at h;exact wpAny_eqBool_int h
   ·rw[WV] at h;exact SeqAt.EqAt.int_str i t y u _ _ _ _ h
  ·rcases Vc hv with⟨j,u,rfl,rfl⟩|⟨y,u,rfl,rfl⟩
   ·rw[YV] at h;exact SeqAt.EqAt.str_int x t j u _ _ _ _ h
   ·rw[ZV] at h;exact wpAny_eqBool_str h
 «strs»:=λk x t v h=>by
  rcases Vc h with⟨i,u,rfl,e⟩|⟨y,u,rfl,e⟩
  ·exact nomatch e
  ·injection e with e1 _;subst e1;cases v<;>rfl
theorem wH(prog:Program)(w:World)(i:Int)(t:Tok):(ud prog w).is (.inl i) (.int i t)=true:=qO i t
theorem xH(prog:Program)(w:World)(x:Str)(t:Tok):(ud prog w).is (.inr x) (.str x t)=true:=rO x t
end L2
namespace L2
open PySem PySem.Spec PyProof.Rows
inductive V where
 |Vb|bl (b:Bool)|int (i:Int)|str (x:Str)|bE (b:Array UInt8)|EX (b:UInt64)|ref (a:Addr)|ty (n:String)
 deriving DecidableEq
def RelV:V->Value->Prop
 |.Vb,u=>u=Value.none
 |.bl b,u=>u=Value.bool b
 |.int i,u=>∃t,u=Value.int i t
 |.str x,u=>∃t,u=Value.str x t
 |.bE b,u=>∃t,u=Value.bytes b t
 |.EX b,u=>∃t,u=Value.float b t
 |.ref a,u=>u=Value.ref a
 |.ty n,u=>u=Value.type n
abbrev Vals:List V->List Value->Prop:=Paired RelV
theorem Vals.length{xs:List V}{us:List Value}(r:Vals xs us):xs.length=us.length:=Paired.length r
theorem Vals.get:∀{xs:List V}{us:List Value}{i:Nat}{x:V},Vals xs us->xs[i]?=some x->∃u,us[i]?=some u/\RelV x u
 |_,_,_,_,.nil,e=>by simp at e
 |_,_,0,_,.cons r _,e=>by simp at e;subst e;exact⟨_,rfl,r⟩
 |_,_,i+1,x,.cons _ t,e=>by
  obtain⟨u,h1,h2⟩:=Vals.get (i:=i) (x:=x) t (by simpa using e);exact⟨u,by simpa using h1,h2⟩
theorem Vals.set{x:V}{u:Value}(r:RelV x u):∀{xs:List V}{us:List Value}(i:Nat),Vals xs us->Vals (xs.set i x) (us.set i u)
 |_,_,_,.nil=>.nil
 |_,_,0,.cons _ t=>.cons r t
 |_,_,i+1,.cons q t=>.cons q (Vals.set r i t)
theorem Vals.append:∀{xs ys:List V}{us ws:List Value},Vals xs us->Vals ys ws->Vals (xs++ys) (us++ws)
 |_,_,_,_,.nil,s=>s
 |_,_,_,_,.cons r t,s=>.cons r (Vals.append t s)
theorem Vals.take:∀{xs:List V}{us:List Value}(n:Nat),Vals xs us->Vals (xs.take n) (us.take n)
 |_,_,0,_=>.nil
 |_,_,_+1,.nil=>.nil
 |_,_,n+1,.cons r t=>.cons r (Vals.take n t)
theorem Vals.drop:∀{xs:List V}{us:List Value}(n:Nat),Vals xs us->Vals (xs.drop n) (us.drop n)
 |_,_,0,r=>r
 |_,_,_+1,.nil=>.nil
 |_,_,n+1,.cons _ t=>Vals.drop n t
def gq:Option V->Option Value->Prop
 |some v,some u=>RelV v u
 |none,none=>True
 |_,_=>False
def KV{κ:Type}:List (κ×V)->List (κ×Value)->Prop:=Paired λ(p:κ×V)(q:κ×Value)=>p.1=q.1/\RelV p.2 q.2
def kV:Key->V
 |.inl i=>.int i
 |.inr x=>.str x
inductive HO where
 |lst (xs:List V)
 |tup (xs:List V)
 |dK (kvs:List (Key×V))|dT (kvs:List (List Key×V))
 |set (S:Int->Bool) (n:Nat)
 |ins (C dx:Addr) (fs:List (Str×V))
 |own (x:Addr)
 |xd (fs:List (Str×V))
 |met (f x:Addr)
 |lZ (lo hi:Int)
 |Lj (o:Obj) (u:HO)
 |NW (ps:Array Value)
 |ext (φ:Heap->Prop)
abbrev Hp:=Addr->Option HO
def upd(H:Hp)(a:Addr)(o:HO):Hp:=λb=>if b=a then some o else H b
theorem ia{H:Hp}{a:Addr}{o:HO}:upd H a o a=some o:=by unfold upd;rw[if_pos rfl]
theorem ua{H:Hp}{a b:Addr}{o:HO}(h:b≠a):upd H a o b=H b:=by unfold upd;rw[if_neg h]
theorem GN{H:Hp}{a:Addr}{o u:HO}:upd (upd H a o) a u=upd H a u:=by
 funext b;unfold upd;split<;>rfl
theorem Fb{H:Hp}{a b:Addr}{o u:HO}(h:H a=some o)(h':H b=some u)(d:o≠u):a≠b:=by
 intro e;subst e;rw[h] at h';exact d (Option.some.inj h')
theorem ka{H:Hp}{a b:Addr}{o:HO}(h:H a=some o)(h':H b=none):a≠b:=by
 intro e;subst e;rw[h] at h';cases h'
section
variable(P:Program)(w:World)
def Cd(H:Hp)(h:Heap)(a:Addr):HO->Prop
 |.lst xs=>xs.length<=sizeLine/\∃(its:List Value)(n:Nat),Vals xs its/\h.get? a=some {cls:=.type "list",data:=.seq its.toArray n}
 |.tup xs=>xs.length<=sizeLine/\∃its:List Value,Vals xs its/\IsTup h a its.toArray
 |.dK kvs=>kvs.length<=sizeLine/\(a==sysModules)=false/\∃vs,KV kvs vs/\h.DictOf (ud P w) a vs
 |.dT kvs=>kvs.length<=sizeLine/\(a==sysModules)=false/\∃xs:List (List Key×Addr×Value),
  Paired (λ(p:List Key×V)(q:List Key×Addr×Value)=>p.1=q.1/\H q.2.1=some (.tup (p.1.map kV))/\RelV p.2 q.2.2) kvs xs/\
  ∃o es ep,h.get? a=some o/\o.ExactDict/\o.data=.dict es ep/\es.toList=xs.map (entryOfKey (tupleKind (ud P w)))/\(xs.map (·.1)).Nodup
 |.set S n=>h.SetOf (intKind P w) a S n
 |.ins C dx fs=>H dx=some (.own a)/\fs.length<=1000/\dx≠a/\h.get? a=some (PySem.W.instObj C dx)/\
  ∃mA,h.Ns1 dx mA/\(∀f,gq (fs.lookup f) (mA f))/\PySem.Within mA (fs.map (·.1))
 |.own _=>∃o,h.get? a=some o
 |.xd fs=>∃mA,h.Ns1 a mA/\∀f,gq (fs.lookup f) (mA f)
 |.lZ lo hi=>∃t u v,h.get? a=some {cls:=.type "range",data:=.fields #[.int lo t,.int hi u,.int 1 v]}
 |.Lj o u=>h.get? a=some o/\Cd H h a u
 |.NW ps=>h.get? a=some {cls:=.none,data:=.fields ps}
 |.met f x=>h.get? a=some (PySem.W.methodObj (.ref f) (.ref x))
 |.ext φ=>φ h/\(∃o,h.get? a=some o)/\∀h1 h2:Heap,φ h1->(∀o,h1.get? a=some o->h2.get? a=some o)->φ h2
def Zj(H:Hp)(h:Heap):Prop:=∀a o,H a=some o->Cd P w H h a o
end
section
variable{P:Program}{w:World}{H H':Hp}{h h':Heap}{a:Addr}{o:HO}
theorem Cd.lt(x:Cd P w H h a o):a<h.objs.size:=by
 cases o with
 |lst xs=>obtain⟨_,_,_,_,e⟩:=x;exact Heap.lt_size e
 |tup xs=>obtain⟨_,_,_,p⟩:=x;exact p.lt
 |dK kvs=>obtain⟨_,_,_,_,o,_,_,e,_⟩:=x;exact Heap.lt_size e
 |dT kvs=>obtain⟨_,_,_,_,o,_,_,e,_⟩:=x;exact Heap.lt_size e
 |set S n=>obtain⟨o,_,_,_,e,_⟩:=x;exact Heap.lt_size e
 |ins C dx fs=>obtain⟨_,_,_,e,_⟩:=x;exact Heap.lt_size e
 |own y=>obtain⟨_,e⟩:=x;exact Heap.lt_size e
 |xd fs=>obtain⟨_,⟨_,_,_,e,_⟩,_⟩:=x;exact Heap.lt_size e
 |lZ lo hi=>obtain⟨_,_,_,e⟩:=x;exact Heap.lt_size e
 |Lj ob u=>obtain⟨e,_⟩:=x;exact Heap.lt_size e
 |NW ps=>exact Heap.lt_size (show h.get? a=some _ from x)
 |met f y=>exact Heap.lt_size (show h.get? a=some _ from x)
 |ext φ=>obtain⟨_,⟨_,e⟩,_⟩:=x;exact Heap.lt_size e
theorem Paired.jW{α β:Type}{F G:α->β->Prop}:∀{l₁:List α}{l₂:List β},Paired F l₁ l₂->(∀a b,F a b->G a b)->Paired G l₁ l₂
 |_,_,.nil,_=>.nil
 |_,_,.cons r t,f=>.cons (f _ _ r) (Paired.jW t f)
theorem Cd.Pn(x:Cd P w H h a o)(k:∀b u,(b=a\/H b=some (.own a))->h.get? b=some u->h'.get? b=some u)(ho:∀b,H b=some (.own a)->H' b=some (.own a))(ht:∀b xs,H b=some (.tup xs)->H' b=some (.tup xs)):Cd P w H' h' a o:=by
 induction o with
 |lst xs=>obtain⟨z,its,n,r,e⟩:=x;exact⟨z,its,n,r,k _ _ (.inl rfl) e⟩
 |tup xs=>obtain⟨z,its,r,ob,e,c⟩:=x;exact⟨z,its,r,ob,k _ _ (.inl rfl) e,c⟩
 |dK kvs=>obtain⟨z,y,vs,r,ob,es,ep,e,c⟩:=x;exact⟨z,y,vs,r,ob,es,ep,k _ _ (.inl rfl) e,c⟩
 |dT kvs=>
  obtain⟨z,y,xs,r,ob,es,ep,e,c⟩:=x;exact⟨z,y,xs,Paired.jW r λp q z=>⟨z.1,ht _ _ z.2.1,z.2.2⟩,ob,es,ep,k _ _ (.inl rfl) e,c⟩
 |set S n=>obtain⟨ob,es,ep,t,e,c⟩:=x;exact⟨ob,es,ep,t,k _ _ (.inl rfl) e,c⟩
 |ins C dx fs=>
  obtain⟨d,z,ne,e,mA,⟨od,es,ep,e2,c⟩,r⟩:=x;exact⟨ho _ d,z,ne,k _ _ (.inl rfl) e,mA,⟨od,es,ep,k _ _ (.inr d) e2,c⟩,r⟩
 |own y=>obtain⟨ob,e⟩:=x;exact⟨ob,k _ _ (.inl rfl) e⟩
 |xd fs=>obtain⟨mA,⟨od,es,ep,e,c⟩,r⟩:=x;exact⟨mA,⟨od,es,ep,k _ _ (.inl rfl) e,c⟩,r⟩
 |lZ lo hi=>obtain⟨t,u,v,e⟩:=x;exact⟨t,u,v,k _ _ (.inl rfl) e⟩
 |Lj ob u ih=>obtain⟨e,q⟩:=x;exact⟨k _ _ (.inl rfl) e,ih q⟩
 |NW ps=>
  have e:h.get? a=some {cls:=.none,data:=.fields ps}:=x;show h'.get? a=some {cls:=.none,data:=.fields ps};exact k a _ (.inl rfl) e
 |met f y=>
  have e:h.get? a=some (PySem.W.methodObj (.ref f) (.ref y)):=x;show h'.get? a=some (PySem.W.methodObj (.ref f) (.ref y));exact k a _ (.inl rfl) e
 |ext φ=>obtain⟨p,⟨o,e⟩,st⟩:=x;exact⟨st _ _ p λo q=>k _ _ (.inl rfl) q,⟨o,k _ _ (.inl rfl) e⟩,st⟩
theorem Zj.lt(x:Zj P w H h)(e:H a=some o):a<h.objs.size:=(x a o e).lt
theorem Zj.fresh(x:Zj P w H h)(e:h.objs.size<=a):H a=none:=by
 cases q:H a with
 |none=>rfl
 |some u=>exact absurd (Nat.lt_of_lt_of_le (x.lt q) e) (Nat.lt_irrefl _)
theorem Zj.kept(x:Zj P w H h)(k:∀b u,h.get? b=some u->h'.get? b=some u):Zj P w H h':=λa o e=>
 (x a o e).Pn (λb u _ q=>k b u q) (λ_ q=>q) λ_ _ q=>q
theorem Zj.laid(x:Zj P w H h)(k:∀b u,h.get? b=some u->h'.get? b=some u)(hp:h.objs.size<=a)(new:Cd P w (upd H a o) h' a o):Zj P w (upd H a o) h':=λb u e=>by
 have hn:=x.fresh hp;by_cases hb:b=a
 ·subst hb;rw[ia] at e;cases e;exact new
 ·rw[ua hb] at e;exact(x b u e).Pn (λc v _ q=>k c v q) (λc q=>by rw[ua (ka q hn)];exact q) λc xs q=>by rw[ua (ka q hn)];exact q
end
def Rd(H:Hp)(a:Addr)(u:HO):Prop:=H a=some u\/∃o,H a=some (.Lj o u)
theorem Rd.ok{P:Program}{w:World}{H:Hp}{h:Heap}{a:Addr}{u:HO}(r:Rd H a u)(x:Zj P w H h):Cd P w H h a u:=by
 rcases r with r|⟨o,r⟩
 ·exact x a u r
 ·obtain⟨_,q⟩:=x a _ r;exact q
def AU:Option HO->Prop
 |some (.lst _)=>True
 |some (.dK _)=>True
 |some (.dT _)=>True
 |some (.set _ _)=>True
 |some (.ins _ _ _)=>True
 |some (.ext _)=>True
 |_=>False
section
variable{P:Program}{w:World}{H:Hp}{h h':Heap}{x e:Addr}{o':HO}
theorem Zj.write(ok:Zj P w H h)(mu:AU (H x))(he:e=x\/H e=some (.own x))(k:∀b u,b≠e->h.get? b=some u->h'.get? b=some u)(heo:∃u,h'.get? e=some u)(new:Cd P w (upd H x o') h' x o'):Zj P w (upd H x o') h':=λb u q=>by
 have nown:∀c y,H c=some (.own y)->c≠x:=λc y r z=>by subst z;rw[r] at mu;exact mu
 have ntup:∀c xs,H c=some (.tup xs)->c≠x:=λc xs r z=>by subst z;rw[r] at mu;exact mu
 by_cases hb:b=x
 ·subst hb;rw[ia] at q;cases q;exact new
 ·rw[ua hb] at q;by_cases hbe:b=e
  ·have q':H b=some (.own x):=by
    rcases he with z|z
    ·exact absurd (hbe.trans z) hb
    ·rw[hbe];exact z
   rw[q] at q';cases q';obtain⟨v,hv⟩:=heo;exact⟨v,by rw[hbe];exact hv⟩
  ·refine(ok b u q).Pn (λc v hc r=>k c v ?_ r) (λc r=>by rw[ua (nown c b r)];exact r) λc xs r=>by rw[ua (ntup c xs r)];exact r
   rcases hc with rfl|hc
   ·exact hbe
   ·rintro rfl;rcases he with z|z
    ·exact nown c b hc z
    ·rw[hc] at z;cases z;exact hb rfl
end
structure Un(fs ex:List Addr)(H H':Hp)(h h':Heap):Prop where
 keep:∀b o,h.get? b=some o->H b=none->b∉fs->b∉ex->h'.get? b=some o
 slot:∀b o,h.get? b=some o->H b=none->b∈fs->b∉ex->∃sl,h'.get? b=some {o with slots:=sl}
 free:∀b o,h.get? b=some o->H b=none->b∉ex->H' b=none
 there:∀b o,h.get? b=some o->b∉ex->∃o',h'.get? b=some o'
 Pw:∀b xs,H b=some (.tup xs)->H' b=some (.tup xs)
 mw:∀b o u,H b=some (.Lj o u)->H' b=some (.Lj o u)
 zB:∀b ps,H b=some (.NW ps)->∃more,H' b=some (.NW (ps++more))
section
variable{fs fs' ex ex':List Addr}{H H1 H2:Hp}{h h1 h2 h':Heap}{a x e:Addr}{o:HO}
theorem Un.any(u:Un fs ex H H1 h h1){b:Addr}{ob:Obj}(q:h.get? b=some ob)(n:H b=none)(hx:b∉ex):∃sl,h1.get? b=some {ob with slots:=sl}:=by
 by_cases hb:b∈fs
 ·exact u.slot b ob q n hb hx
 ·exact⟨ob.slots,u.keep b ob q n hb hx⟩
theorem Un.kept(k:∀b u,h.get? b=some u->h'.get? b=some u):Un fs ex H H h h':=
 ⟨λb ob q _ _ _=>k b ob q,λb ob q _ _ _=>⟨ob.slots,k b ob q⟩,λ_ _ _ n _=>n,λb ob q _=>⟨ob,k b ob q⟩,λ_ _ q=>q,λ_ _ _ q=>q,λ_ ps q=>⟨#[],by rw[q];simp⟩⟩
theorem Un.refl:Un fs ex H H h h:=Un.kept λ_ _ q=>q
theorem Un.laid(k:∀b u,h.get? b=some u->h'.get? b=some u)(hp:h.objs.size<=a)(hn:H a=none):Un fs ex H (upd H a o) h h' where
 keep:=λb u q _ _ _=>k b u q
 slot:=λb u q _ _ _=>⟨u.slots,k b u q⟩
 free:=λb u q n _=>by rw[ua (Nat.ne_of_lt (Nat.lt_of_lt_of_le (Heap.lt_size q) hp))];exact n
 there:=λb u q _=>⟨u,k b u q⟩
 Pw:=λb xs q=>by rw[ua (ka q hn)];exact q
 mw:=λb u xs q=>by rw[ua (ka q hn)];exact q
 zB:=λb ps q=>⟨#[],by rw[ua (ka q hn),q];simp⟩
theorem Un.write(mu:AU (H x))(he:e=x\/H e=some (.own x))(k:∀b u,b≠e->h.get? b=some u->h'.get? b=some u)(heo:∃u,h'.get? e=some u):Un fs ex H (upd H x o) h h':=by
 have hx:∀b,H b=none->b≠x:=λb n z=>by subst z;rw[n] at mu;exact mu
 have hb:∀b,H b=none->b≠e:=λb n z=>by
  subst z;rcases he with r|r
  ·exact hx b n r
  ·rw[n] at r;cases r
 have hm:∀b u,H b=some u->¬AU (some u)->b≠x:=λb u q nm z=>by subst z;rw[q] at mu;exact nm mu
 refine⟨λb u q n _ _=>k b u (hb b n) q,λb u q n _ _=>⟨u.slots,k b u (hb b n) q⟩,λb u q n _=>by rw[ua (hx b n)];exact n,λb u q _=>?_,
  λb xs q=>by rw[ua (hm b _ q λz=>z)];exact q,λb u xs q=>by rw[ua (hm b _ q λz=>z)];exact q,λb ps q=>⟨#[],by rw[ua (hm b _ q λz=>z),q];simp⟩⟩
 by_cases hbe:b=e
 ·subst hbe;exact heo
 ·exact⟨u,k b u hbe q⟩
end
def BY(h:Heap)(H:Hp):List Addr:=(List.range h.objs.size).filter λa=>(H a).isSome
def DE(h:Heap)(H:Hp):Heap:=PySem.W.hideAll h (BY h H)
theorem jO(h:Heap)(H:Hp):(DE h H).objs.size=h.objs.size:=PySem.W.hideAll_size _ _
theorem WQ{h:Heap}{H:Hp}{b:Addr}{o:Obj}(e:h.get? b=some o)(n:H b=none):(DE h H).get? b=some o:=
 PySem.W.hideAll_get _ e λhm=>by
  have q:(H b).isSome=true:=(List.mem_filter.mp hm).2;rw[n] at q;simp at q
theorem UT{h:Heap}{H:Hp}{b:Addr}{o:Obj}(e:(DE h H).get? b=some o):h.get? b=some o/\H b=none:=by
 have e':h.get? b=some o:=PySem.W.of_hideAll (BY h H) e;refine⟨e',?_⟩;cases q:H b with
 |none=>rfl
 |some x=>
  have hm:b∈BY h H:=List.mem_filter.mpr ⟨List.mem_range.mpr (Heap.lt_size e'),by simp[q]⟩;have z:(DE h H).get? b=none:=PySem.W.hideAll_none (BY h H) hm;rw[z] at e;cases e
end L2
namespace L2
open PySem PySem.Spec PyProof.Rows
structure Mod(K:PySem.W.Frag)(mg:Str->Option Value)(base:Heap):Prop where
 xY:K.In base
 glob:base.Ns mainGlobals mg
 blt:∃mb,base.Ns builtinsNs mb/\∀x:Str,x≠"__name__"->mb x=bootBuiltins x
 nolimit:base.NoLimit
structure Cx where
 prog:Program
 w:World
 K:PySem.W.Frag
 mg:Str->Option Value
 base:Heap
 A:Around
 N:List Str
 wD:Shared
 bV:Hp
 env:Env
 outer:List Env
 stack:List Env
 ex:List Addr
 fn:Str->Bool
 calm:Bool
 pn:List (Addr×Obj)
 xe:Value->Shared->Prop
def NQ(l:List Env):List Addr:=l.filterMap (·.frame)
abbrev Cx.fs(X:Cx):List Addr:=NQ X.outer
def aX(sc:Scope)(x:Str):Prop:=sc.names.lookup x=some .local\/sc.names.lookup x=some .cell\/sc.names.lookup x=some .free
def Loc(sc:Scope)(x:Str):Prop:=sc.names.lookup x=some .local\/sc.names.lookup x=some .cell
def Look(env:Env)(h:Heap)(m:Str->Option Value)(x:Str)(u:Value):Prop:=
 (env.kindOf x=some .local/\m x=some u)\/((env.kindOf x=some .cell\/env.kindOf x=some .free)/\∃c,env.cells.lookup x=some c/\h.IsCell c (some u))
structure Cx.Ok(X:Cx):Prop where
 mod:Mod X.K X.mg X.base
 kind:X.env.scope.kind=.function
 glob:X.env.globals=mainGlobals
 blt:X.env.builtins=builtinsNs
 above:X.wD.heap.objs.size<=X.env.locals
 inj:∀x y c,X.env.cells.lookup x=some c->X.env.cells.lookup y=some c->x=y
 has:∀x,(X.env.kindOf x=some .cell\/X.env.kindOf x=some .free)->∃c,X.env.cells.lookup x=some c
 vX:∀x c,X.fn x=true->X.env.cells.lookup x=some c->X.wD.heap.objs.size<=c
 hd:X.calm=true->X.A.handled=none
 frames:X.A.frames=some X.stack
 AY:X.stack=X.outer\/(X.stack=X.env::X.outer/\X.env.frame=some X.env.locals)
 vY:∀b∈X.ex,b≠X.env.locals/\∀x c,X.env.cells.lookup x=some c->c≠b
 bs:∀b o,X.base.get? b=some o->X.wD.heap.get? b=some o/\X.bV b=none
 jQ:X.base.objs.size<=X.wD.heap.objs.size
 FR:∀b o,X.base.get? b=some o->b∉X.ex
 CQ:∀b∈X.ex,b∉X.fs
 Tt:X.wD.heap.FunFrames X.base X.outer
 qT:∀b∈X.fs,X.bV b=none
structure Inv(X:Cx)(pins:List (Addr×Obj))(σ:List (Option V))(H:Hp)(s:Shared):Prop where
 ok:X.Ok
 os:s.os=X.wD.os
 bare:AllBare s.gens
 base:Un X.fs X.ex X.bV H X.wD.heap s.heap
 loc:∃m,s.heap.Ns X.env.locals m/\∀(i:Nat)(x:Str)(v:V),X.N[i]?=some x->σ[i]?=some (some v)->aX X.env.scope x->∃u,RelV v u/\Look X.env s.heap m x u
 cell:∀x c,X.env.cells.lookup x=some c->∃v,s.heap.IsCell c v
 free:H X.env.locals=none
 Kj:∀x c,X.env.cells.lookup x=some c->H c=none
 pin:∀p∈X.pn++pins,s.heap.get? p.1=some p.2/\H p.1=none/\p.1≠X.env.locals/\p.1∉X.fs/\∀v,p.2.data≠.cell v
 Kb:Zj X.prog X.w H s.heap
 len:σ.length=X.N.length
section
variable{X:Cx}{pins:List (Addr×Obj)}{σ:List (Option V)}{H H':Hp}{s:Shared}{h':Heap}
theorem Cx.Ok.bZ(ok:X.Ok){b:Addr}{o:Obj}(e:X.base.get? b=some o):b∉X.fs:=λhb=>by
 have:=(ok.Tt.mem hb).1;rw[e] at this;cases this
theorem Inv.bs(I:Inv X pins σ H s):∀b o,X.base.get? b=some o->s.heap.get? b=some o/\H b=none:=λb o e=>
 ⟨I.base.keep b o (I.ok.bs b o e).1 (I.ok.bs b o e).2 (I.ok.bZ e) (I.ok.FR b o e),I.base.free b o (I.ok.bs b o e).1 (I.ok.bs b o e).2 (I.ok.FR b o e)⟩
theorem Inv.bk(I:Inv X pins σ H s):∀b o,X.base.get? b=some o->s.heap.get? b=some o:=λb o e=>(I.bs b o e).1
theorem Inv.mod(I:Inv X pins σ H s):Mod X.K X.mg X.base:=I.ok.mod
theorem Inv.pO(I:Inv X pins σ H s):X.K.In s.heap:=I.ok.mod.xY.keeps I.bk
theorem Inv.fr(I:Inv X pins σ H s):∃m,Fr X.base X.env.locals s.heap m:=
 let ⟨m,hn,_⟩:=I.loc
 ⟨m,hn,I.bk,Nat.le_trans I.ok.jQ I.ok.above⟩
theorem Inv.lt(I:Inv X pins σ H s):X.env.locals<s.heap.objs.size:=let ⟨_,hn,_⟩:=I.loc;hn.lt
theorem Inv.sz(I:Inv X pins σ H s):X.wD.heap.objs.size<=s.heap.objs.size:=Nat.le_trans I.ok.above (Nat.le_of_lt I.lt)
theorem Inv.cZ(I:Inv X pins σ H s){a:Addr}(h:s.heap.objs.size<=a):a∉X.fs:=λhb=>by
 obtain⟨_,o,ho,_⟩:=I.ok.Tt.mem hb;exact absurd (Nat.lt_of_lt_of_le (Heap.lt_size ho) (Nat.le_trans I.sz h)) (Nat.lt_irrefl _)
theorem Inv.rV(I:Inv X pins σ H s):∀x c,X.env.cells.lookup x=some c->c≠X.env.locals:=λx c e z=>by
 obtain⟨v,o,ho,hd⟩:=I.cell x c e;obtain⟨m,⟨o',es,ep,ho',hd',_⟩,_⟩:=I.loc;rw[z,ho'] at ho;cases ho;rw[hd'] at hd;cases hd
theorem Inv.Tt(I:Inv X pins σ H s):s.heap.FunFrames X.base X.outer:=by
 have all:∀(l:List Env),(∀b∈NQ l,b∈X.fs)->X.wD.heap.FunFrames X.base l->s.heap.FunFrames X.base l:=by
  intro l;induction l with
  |nil=>intro _ _;trivial
  |cons env r ih=>
   intro hs hl;obtain⟨hk,⟨L,o,hf,hn,ho,hd⟩,hr⟩:=hl;have hL:L∈X.fs:=hs L (by unfold NQ;rw[List.filterMap_cons,hf];exact List.mem_cons_self);obtain⟨sl,e⟩:=I.base.slot L o ho (I.ok.qT L hL) hL λz=>I.ok.CQ L z hL;exact⟨hk,⟨L,_,hf,hn,e,hd⟩,ih (λb hb=>hs b (by unfold NQ;rw[List.filterMap_cons,hf];exact List.mem_cons_of_mem _ hb)) hr⟩
 exact all X.outer (λ_ hb=>hb) I.ok.Tt
theorem Inv.stack(I:Inv X pins σ H s):s.heap.FunFrames X.base X.stack:=by
 rcases I.ok.AY with e|⟨e,hf⟩
 ·rw[e];exact I.Tt
 ·rw[e];obtain⟨m,hn,_⟩:=I.loc;refine .cons (by rw[I.ok.kind];decide) hf hn ?_ I.Tt;exact Heap.get?_none_of_le (Nat.le_trans I.ok.jQ I.ok.above)
theorem Inv.dM(I:Inv X pins σ H s):∀b∈NQ X.stack,b∈X.env.locals::X.fs:=λb hb=>by
 rcases I.ok.AY with e|⟨e,hf⟩
 ·rw[e] at hb;exact List.mem_cons_of_mem _ hb
 ·rw[e] at hb;unfold NQ at hb;rw[List.filterMap_cons,hf] at hb;exact hb
theorem Inv.wN(I:Inv X pins σ H s):∀b∈NQ X.stack,H b=none:=λb hb=>by
 rcases List.mem_cons.mp (I.dM b hb) with e|hb
 ·rw[e];exact I.free
 ·obtain⟨_,o,ho,_⟩:=I.ok.Tt.mem hb;exact I.base.free b o ho (I.ok.qT b hb) λz=>I.ok.CQ b z hb
theorem Inv.step{g':Array GenState}{t':Nat}{d':Drawn}{ch:List Addr}(I:Inv X pins σ H s)(hch:∀b∈ch,(b∈X.ex\/X.wD.heap.objs.size<=b)/\b≠X.env.locals/\(∀x c,X.env.cells.lookup x=some c->c≠b)/\∀p∈X.pn++pins,p.1≠b)(keep:∀b o,b≠X.env.locals->b∉X.fs->b∉ch->s.heap.get? b=some o->H b=none->h'.get? b=some o)(slot:∀b o,b≠X.env.locals->b∈X.fs->b∉ch->s.heap.get? b=some o->H b=none->∃sl,h'.get? b=some {o with slots:=sl})(free:∀b o,b∉ch->s.heap.get? b=some o->H b=none->H' b=none)(there:∀b o,b∉ch->s.heap.get? b=some o->∃o',h'.get? b=some o')(Pw:∀b xs,H b=some (.tup xs)->H' b=some (.tup xs))(mw:∀b o u,H b=some (.Lj o u)->H' b=some (.Lj o u))(zB:∀b ps,H b=some (.NW ps)->∃more,H' b=some (.NW (ps++more)))(ns:∀m,s.heap.Ns X.env.locals m->h'.Ns X.env.locals m)(Kb:Zj X.prog X.w H' h')(hg:AllBare g'):Inv X pins σ H' {s with heap:=h',gens:=g',drawn:=d',toks:=t'}:=by
 have neL:∀b o,X.wD.heap.get? b=some o->b≠X.env.locals:=λb o e=>Nat.ne_of_lt (Nat.lt_of_lt_of_le (Heap.lt_size e) I.ok.above);have neC:∀b o,X.wD.heap.get? b=some o->b∉X.ex->b∉ch:=λb o e hx hb=>by
  rcases(hch b hb).1 with z|z
  ·exact hx z
  ·exact absurd (Nat.lt_of_lt_of_le (Heap.lt_size e) z) (Nat.lt_irrefl _)
 have cellK:∀x c,X.env.cells.lookup x=some c->∀v,s.heap.IsCell c v->h'.IsCell c v:=λx c e v⟨o,ho,hd⟩=>by
  have nch:c∉ch:=λz=>(hch c z).2.2.1 x c e rfl;by_cases hc:c∈X.fs
  ·obtain⟨sl,q⟩:=slot c o (I.rV x c e) hc nch ho (I.Kj x c e);exact⟨_,q,hd⟩
  ·exact⟨o,keep c o (I.rV x c e) hc nch ho (I.Kj x c e),hd⟩
 refine⟨I.ok,I.os,hg,⟨λb o e n hb hx=>?_,λb o e n hb hx=>?_,λb o e n hx=>?_,λb o e hx=>?_,λb xs e=>Pw b xs (I.base.Pw b xs e),λb o xs e=>mw b o xs (I.base.mw b o xs e),λb ps e=>?_⟩,?_,λx c e=>?_,?_,λx c e=>?_,λp hp=>?_,Kb,I.len⟩
 ·exact keep b o (neL b o e) hb (neC b o e hx) (I.base.keep b o e n hb hx) (I.base.free b o e n hx)
 ·obtain⟨sl,e1⟩:=I.base.slot b o e n hb hx;obtain⟨sl',e2⟩:=slot b _ (neL b o e) hb (neC b o e hx) e1 (I.base.free b o e n hx);exact⟨sl',e2⟩
 ·obtain⟨o',e1⟩:=I.base.there b o e hx;exact free b o' (neC b o e hx) e1 (I.base.free b o e n hx)
 ·obtain⟨o',e1⟩:=I.base.there b o e hx;exact there b o' (neC b o e hx) e1
 ·obtain⟨m1,e1⟩:=I.base.zB b ps e;obtain⟨m2,e2⟩:=zB b _ e1;exact⟨m1++m2,by rw[e2,Array.append_assoc]⟩
 ·obtain⟨m,hn,hl⟩:=I.loc;refine⟨m,ns m hn,λi x v e1 e2 e3=>?_⟩;obtain⟨u,r,l⟩:=hl i x v e1 e2 e3;refine⟨u,r,?_⟩;rcases l with l|⟨k,c,e,z⟩
  ·exact .inl l
  ·exact .inr ⟨k,c,e,cellK x c e _ z⟩
 ·obtain⟨v,z⟩:=I.cell x c e;exact⟨v,cellK x c e v z⟩
 ·obtain⟨m,⟨o,_,_,ho,_⟩,_⟩:=I.loc;exact free _ o (λz=>(hch _ z).2.1 rfl) ho I.free
 ·obtain⟨v,o,ho,hd⟩:=I.cell x c e;exact free c o (λz=>(hch c z).2.2.1 x c e rfl) ho (I.Kj x c e)
 ·obtain⟨e,n,ne,nf,d⟩:=I.pin p hp;have nch:p.1∉ch:=λz=>(hch p.1 z).2.2.2 p hp rfl;exact⟨keep p.1 p.2 ne nf nch e n,free p.1 p.2 nch e n,ne,nf,d⟩
theorem Inv.un{t':Nat}(I:Inv X pins σ H s)(u:Un X.fs [] H H' s.heap h')(Kb:Zj X.prog X.w H' h'):Inv X pins σ H' {s with heap:=h',toks:=t'}:=by
 obtain⟨m,⟨o,es,ep,ho,r⟩,_⟩:=id I.loc;obtain⟨sl,hL⟩:=u.any ho I.free (by simp);exact I.step (g':=s.gens) (d':=s.drawn) (ch:=[]) (λ_ z=>nomatch z) (λb o _ hb _ e n=>u.keep b o e n hb (by simp)) (λb o _ hb _ e n=>u.slot b o e n hb (by simp)) (λb o _ e n=>u.free b o e n (by simp)) (λb o _ e=>u.there b o e (by simp)) u.Pw u.mw u.zB (λm' hm=>by
  obtain⟨o',es',ep',ho',r'⟩:=hm;rw[ho] at ho';cases ho';exact⟨_,es',ep',hL,r'⟩) Kb I.bare
theorem Inv.call{g':Array GenState}{t':Nat}{d':Drawn}{ch:List Addr}(I:Inv X pins σ H s)(u:Un (NQ X.stack) ch H H' s.heap h')(Kb:Zj X.prog X.w H' h')(hg:AllBare g')(hch:∀b∈ch,(b∈X.ex\/X.wD.heap.objs.size<=b)/\b≠X.env.locals/\(∀x c,X.env.cells.lookup x=some c->c≠b)/\∀p∈X.pn++pins,p.1≠b):Inv X pins σ H' {s with heap:=h',gens:=g',drawn:=d',toks:=t'}:=by
 obtain⟨m,⟨o,es,ep,ho,r⟩,_⟩:=id I.loc;obtain⟨sl,hL⟩:=u.any ho I.free λz=>(hch _ z).2.1 rfl;exact I.step (ch:=ch) hch (λb o hL hb hc e n=>u.keep b o e n (λz=>(List.mem_cons.mp (I.dM b z)).elim hL hb) hc) (λb o _ _ hc e n=>u.any e n hc) (λb o hc e n=>u.free b o e n hc) (λb o hc e=>u.there b o e hc) u.Pw u.mw u.zB (λm' hm=>by
  obtain⟨o',es',ep',ho',r'⟩:=hm;rw[ho] at ho';cases ho';exact⟨_,es',ep',hL,r'⟩) Kb hg
theorem Inv.turned{t':Nat}{it:Addr}(I:Inv X pins σ H s)(k:∀b o,b≠it->s.heap.get? b=some o->h'.get? b=some o)(hn:H it=none)(hL:it≠X.env.locals)(h1:it∈X.ex\/X.wD.heap.objs.size<=it)(h2:∀x c,X.env.cells.lookup x=some c->c≠it)(h3:∀p∈X.pn++pins,p.1≠it):Inv X pins σ H {s with heap:=h',toks:=t'}:=by
 have nit:∀b u,H b=some u->b≠it:=λb u e z=>by rw[z,hn] at e;cases e
 refine I.step (g':=s.gens) (d':=s.drawn) (ch:=[it]) (λb hb=>?_) (λb o _ _ hc e _=>k b o (λz=>hc (by simp[z])) e) (λb o _ _ hc e _=>⟨o.slots,k b o (λz=>hc (by simp[z])) e⟩) (λ_ _ _ _ n=>n)
  (λb o hc e=>⟨o,k b o (λz=>hc (by simp[z])) e⟩) (λ_ _ e=>e) (λ_ _ _ e=>e) (λb ps e=>⟨#[],by rw[e];simp⟩) (λm hm=>?_) (λb u e=>?_) I.bare
 ·have e:b=it:=by simpa using hb
  subst e;exact⟨h1,hL,h2,h3⟩
 ·obtain⟨o,es,ep,ho,r⟩:=hm;exact⟨o,es,ep,k _ o (Ne.symm hL) ho,r⟩
 ·refine(I.Kb b u e).Pn (λc v hc q=>k c v ?_ q) (λ_ q=>q) λ_ _ q=>q;rcases hc with z|z
  ·rw[z];exact nit b u e
  ·exact nit c _ z
theorem Inv.tok(I:Inv X pins σ H s)(t:Nat):Inv X pins σ H {s with toks:=t}:=I.un (h':=s.heap) (t':=t) Un.refl I.Kb
theorem Inv.kept{t':Nat}(I:Inv X pins σ H s)(k:∀b u,s.heap.get? b=some u->h'.get? b=some u):Inv X pins σ H {s with heap:=h',toks:=t'}:=I.un (Un.kept k) (I.Kb.kept k)
theorem Inv.laid{a:Addr}{o:HO}{t':Nat}(I:Inv X pins σ H s)(k:∀b u,s.heap.get? b=some u->h'.get? b=some u)(hp:s.heap.objs.size<=a)(new:Cd X.prog X.w (upd H a o) h' a o):Inv X pins σ (upd H a o) {s with heap:=h',toks:=t'}:=I.un (Un.laid k hp (I.Kb.fresh hp)) (I.Kb.laid k hp new)
theorem Inv.write{x e:Addr}{o:HO}{t':Nat}(I:Inv X pins σ H s)(mu:AU (H x))(he:e=x\/H e=some (.own x))(k:∀b u,b≠e->s.heap.get? b=some u->h'.get? b=some u)(heo:∃u,h'.get? e=some u)(new:Cd X.prog X.w (upd H x o) h' x o):Inv X pins σ (upd H x o) {s with heap:=h',toks:=t'}:=I.un (Un.write mu he k heo) (I.Kb.write mu he k heo new)
theorem Inv.weak{σ':List (Option V)}(I:Inv X pins σ H s)(hl:σ'.length=σ.length)(w:∀(i:Nat) v,σ'[i]?=some (some v)->σ[i]?=some (some v)):Inv X pins σ' H s:=
 ⟨I.ok,I.os,I.bare,I.base,let ⟨m,hn,hl'⟩:=I.loc;⟨m,hn,λi x v e1 e2 e3=>hl' i x v e1 (w i v e2) e3⟩,I.cell,I.free,I.Kj,I.pin,I.Kb,hl.trans I.len⟩
theorem Inv.gN{pins':List (Addr×Obj)}(I:Inv X pins σ H s)(h:∀p∈pins',s.heap.get? p.1=some p.2/\H p.1=none/\p.1≠X.env.locals/\p.1∉X.fs/\∀v,p.2.data≠.cell v):Inv X pins' σ H s:=
 ⟨I.ok,I.os,I.bare,I.base,I.loc,I.cell,I.free,I.Kj,λp hp=>(List.mem_append.mp hp).elim (λz=>I.pin p (List.mem_append_left _ z)) (h p),I.Kb,I.len⟩
theorem uz{N:List Str}(hN:N.Nodup){i j:Nat}{x:Str}(a:N[i]?=some x)(b:N[j]?=some x):i=j:=by
 obtain⟨h1,e1⟩:=List.getElem?_eq_some_iff.mp a;obtain⟨h2,e2⟩:=List.getElem?_eq_some_iff.mp b;exact(List.getElem_inj hN).mp (e1.trans e2.symm)
theorem KD{M:Model}{A:Around}{E:Value->Shared->Prop}{i:Nat}{x:Str}{v:V}{u:Value}{Q:Unit->Shared->Prop}(I:Inv X pins σ H s)(hN:X.N.Nodup)(hi:X.N[i]?=some x)(hx:Loc X.env.scope x)(r:RelV v u)(h:∀s',Inv X pins (σ.set i (some v)) H s'->(∃a,Heap.SameBut a s.heap s'.heap/\(a=X.env.locals\/X.env.cells.lookup x=some a))->Q () s')(hf:X.fn x=true\/X.env.scope.names.lookup x=some .local:=by first|exact .inl rfl|exact .inr rfl|assumption):wpAny M A (storeName X.env x u) Q E s:=by
 obtain⟨m,hn,hl⟩:=id I.loc;have hcls:(X.env.scope.kind==.class||(X.env.scope.kind==.module&&X.env.locals != X.env.globals))=false:=by rw[I.ok.kind];rfl
 have hiσ:i<σ.length:=by rw[I.len];exact(List.getElem?_eq_some_iff.mp hi).1
 have rV:=I.rV;have tracked:∀{a:Addr}{h':Heap},(∃o,s.heap.get? a=some o/\H a=none)->Heap.SameBut a s.heap h'->Zj X.prog X.w H h':=λ{a h'} ha hs b ob e=>by
  obtain⟨_,_,hfree⟩:=ha;refine(I.Kb b ob e).Pn (λc w' hc q=>(hs.2 c ?_).trans q) (λ_ q=>q) λ_ _ q=>q;rintro rfl;rcases hc with rfl|hc
  ·rw[hfree] at e;cases e
  ·rw[hfree] at hc;cases hc
 rcases hx with hk|hk
 ·refine wpAny_storeName_local hk hn (λh' hn' hs=>?_) hcls;obtain⟨oL,_,_,hoL,_⟩:=id hn;refine h _ ⟨I.ok,I.os,I.bare,⟨λb o e n hb hx=>?_,λb o e n hb hx=>?_,I.base.free,λb o e hx=>?_,I.base.Pw,I.base.mw,I.base.zB⟩,⟨_,hn',λj y v' e1 e2 e3=>?_⟩,λy c e=>?_,I.free,I.Kj,λp hp=>?_,tracked ⟨oL,hoL,I.free⟩ hs,by simpa using I.len⟩ ⟨_,hs,.inl rfl⟩
  ·exact(hs.2 b (Nat.ne_of_lt (Nat.lt_of_lt_of_le (Heap.lt_size e) I.ok.above))).trans (I.base.keep b o e n hb hx)
  ·obtain⟨sl,e1⟩:=I.base.slot b o e n hb hx;exact⟨sl,(hs.2 b (Nat.ne_of_lt (Nat.lt_of_lt_of_le (Heap.lt_size e) I.ok.above))).trans e1⟩
  ·obtain⟨o',e1⟩:=I.base.there b o e hx;exact⟨o',(hs.2 b (Nat.ne_of_lt (Nat.lt_of_lt_of_le (Heap.lt_size e) I.ok.above))).trans e1⟩
  ·by_cases hj:j=i
   ·subst hj;rw[hi] at e1;cases e1;rw[List.getElem?_set_self hiσ] at e2;cases e2;exact⟨u,r,.inl ⟨hk,by simp⟩⟩
   ·rw[List.getElem?_set_ne (Ne.symm hj)] at e2;obtain⟨u',r',q⟩:=hl j y v' e1 e2 e3;refine⟨u',r',?_⟩;rcases q with⟨k,e⟩|⟨k,c,e,z⟩
    ·refine .inl ⟨k,?_⟩;have:y≠x:=λe=>hj (uz hN e1 (e▸hi));simp[this,e]
    ·exact .inr ⟨k,c,e,z.sameBut hs (rV y c e)⟩
  ·obtain⟨w',z⟩:=I.cell y c e;exact⟨w',z.sameBut hs (rV y c e)⟩
  ·obtain⟨e,n,ne,nf,d⟩:=I.pin p hp;exact⟨(hs.2 p.1 ne).trans e,n,ne,nf,d⟩
 ·have hfn:X.fn x=true:=by
   rcases hf with z|z
   ·exact z
   ·rw[z] at hk;cases hk
  obtain⟨c,hc⟩:=I.ok.has x (.inl hk);obtain⟨w',z⟩:=I.cell x c hc;refine wpAny_storeName_cell I.ok.kind hk hc z (λh' hc' hs=>?_);obtain⟨oc,hoc,hocd⟩:=id z;refine h {s with heap:=h'} ⟨I.ok,I.os,I.bare,⟨λb o e n hb hx=>?_,λb o e n hb hx=>?_,I.base.free,λb o e hx=>?_,I.base.Pw,I.base.mw,I.base.zB⟩,⟨m,hn.sameBut hs (Ne.symm (rV x c hc)),λj y v' e1 e2 e3=>?_⟩,λy c' e=>?_,I.free,I.Kj,λp hp=>?_,tracked ⟨oc,hoc,I.Kj x c hc⟩ hs,by simpa using I.len⟩ ⟨c,hs,.inr hc⟩
  ·exact(hs.2 b (Nat.ne_of_lt (Nat.lt_of_lt_of_le (Heap.lt_size e) (I.ok.vX x c hfn hc)))).trans (I.base.keep b o e n hb hx)
  ·obtain⟨sl,e1⟩:=I.base.slot b o e n hb hx;exact⟨sl,(hs.2 b (Nat.ne_of_lt (Nat.lt_of_lt_of_le (Heap.lt_size e) (I.ok.vX x c hfn hc)))).trans e1⟩
  ·obtain⟨o',e1⟩:=I.base.there b o e hx;exact⟨o',(hs.2 b (Nat.ne_of_lt (Nat.lt_of_lt_of_le (Heap.lt_size e) (I.ok.vX x c hfn hc)))).trans e1⟩
  ·by_cases hj:j=i
   ·subst hj;rw[hi] at e1;cases e1;rw[List.getElem?_set_self hiσ] at e2;cases e2;exact⟨u,r,.inr ⟨.inl hk,c,hc,hc'⟩⟩
   ·rw[List.getElem?_set_ne (Ne.symm hj)] at e2;obtain⟨u',r',q⟩:=hl j y v' e1 e2 e3;refine⟨u',r',?_⟩;rcases q with q|⟨k,c',e,z'⟩
    ·exact .inl q
    ·refine .inr ⟨k,c',e,z'.sameBut hs ?_⟩;rintro rfl;exact hj (uz hN e1 (I.ok.inj _ _ _ e hc▸hi))
  ·by_cases hcc:c'=c
   ·subst hcc;exact⟨_,hc'⟩
   ·obtain⟨w2,z2⟩:=I.cell y c' e;exact⟨w2,z2.sameBut hs hcc⟩
  ·obtain⟨e,n,ne,nf,d⟩:=I.pin p hp;refine⟨(hs.2 p.1 ?_).trans e,n,ne,nf,d⟩;intro q;rw[q,hoc] at e;have q':oc=p.2:=Option.some.inj e;exact d w' (by rw[<-q'];exact hocd)
theorem nA{M:Model}{A:Around}{E:Value->Shared->Prop}{i:Nat}{x:Str}{v:V}{u:Value}{Q:Unit->Shared->Prop}(I:Inv X pins σ H s)(hN:X.N.Nodup)(hi:X.N[i]?=some x)(hx:Loc X.env.scope x)(r:RelV v u)(h:∀s',Inv X pins (σ.set i (some v)) H s'->Q () s')(hf:X.fn x=true\/X.env.scope.names.lookup x=some .local:=by first|exact .inl rfl|exact .inr rfl|assumption):wpAny M A (storeName X.env x u) Q E s:=
 KD I hN hi hx r (λs' I' _=>h s' I') hf
theorem Inv.wX{s':Shared}{ch:List Addr}(I:Inv X pins σ H s)(ho:s'.os=s.os)(u:Un (NQ X.stack) ch H H' s.heap s'.heap)(Kb:Zj X.prog X.w H' s'.heap)(hg:AllBare s'.gens)(hch:∀b∈ch,(b∈X.ex\/X.wD.heap.objs.size<=b)/\b≠X.env.locals/\(∀x c,X.env.cells.lookup x=some c->c≠b)/\∀p∈X.pn++pins,p.1≠b):Inv X pins σ H' s':=by
 obtain⟨h',g',d',t',o'⟩:=s';have e:o'=s.os:=ho;subst e;exact I.call (g':=g') (t':=t') (d':=d') u Kb hg hch
end
abbrev XK:=Value->Option Addr->Hp->Prop
abbrev St:=List (Option V)
abbrev VK:=V->Hp->Prop
abbrev TE:=St->Hp->VK->Prop
abbrev TT:=St->Hp->(Bool->Hp->Prop)->Prop
abbrev TA:=St->Hp->(List V->Hp->Prop)->Prop
structure Ends where
 nx:St->Hp->Prop
 rt:VK
 bk:St->Hp->Prop:=λ_ _=>False
 ct:St->Hp->Prop:=λ_ _=>False
abbrev TS:=Ends->St->Hp->Prop
def EP(X:Cx)(pins:List (Addr×Obj))(σ:St)(Q:VK)(u:Value)(s':Shared):Prop:=∃v H',Inv X pins σ H' s'/\RelV v u/\Q v H'
def TP(X:Cx)(pins:List (Addr×Obj))(σ:St)(Q:Bool->Hp->Prop)(b:Bool)(s':Shared):Prop:=∃H',Inv X pins σ H' s'/\Q b H'
def AP(X:Cx)(pins:List (Addr×Obj))(σ:St)(Q:List V->Hp->Prop)(us:List Value)(s':Shared):Prop:=∃vs H',Inv X pins σ H' s'/\Vals vs us/\Q vs H'
def SP(X:Cx)(pins:List (Addr×Obj))(D:Ends)(f:Flow)(s':Shared):Prop:=
 match f with
 |.next=>∃σ' H',Inv X pins σ' H' s'/\D.nx σ' H'
 |.brk=>∃σ' H',Inv X pins σ' H' s'/\D.bk σ' H'
 |.cont=>∃σ' H',Inv X pins σ' H' s'/\D.ct σ' H'
 |.ret u=>∃v σ' H',Inv X pins σ' H' s'/\RelV v u/\D.rt v H'
def PE(X:Cx)(e:Expr)(t:TE):Prop:=
 ∀(pins:List (Addr×Obj))(s:Shared)(σ:St)(H:Hp)(Q:VK),Inv X pins σ H s->t σ H Q->wpAny (model X.prog X.w) X.A (eval e X.env) (EP X pins σ Q) X.xe s
def PT(X:Cx)(e:Expr)(t:TT):Prop:=
 ∀(pins:List (Addr×Obj))(s:Shared)(σ:St)(H:Hp)(Q:Bool->Hp->Prop),Inv X pins σ H s->t σ H Q->wpAny (model X.prog X.w) X.A (isTrue e X.env (eval e X.env)) (TP X pins σ Q) X.xe s
def PW(X:Cx)(e:Expr)(t:TT):Prop:=
 ∀(whole:Sem Value)(pins:List (Addr×Obj))(s:Shared)(σ:St)(H:Hp)(Q:Bool->Hp->Prop),Inv X pins σ H s->t σ H Q->wpAny (model X.prog X.w) X.A (isTrue e X.env whole) (TP X pins σ Q) X.xe s
theorem PW.pt{X:Cx}{e:Expr}{t:TT}(h:PW X e t):PT X e t:=h _
def PA(X:Cx)(es:List Expr)(t:TA):Prop:=
 ∀(pos:Pos)(pins:List (Addr×Obj))(s:Shared)(σ:St)(H:Hp)(Q:List V->Hp->Prop),Inv X pins σ H s->t σ H Q->wpAny (model X.prog X.w) X.A (spliced (backTo pos (starEach es X.env))) (AP X pins σ Q) X.xe s
def PS(X:Cx)(st:Stmt)(t:TS):Prop:=
 ∀(pins:List (Addr×Obj))(s:Shared)(σ:St)(H:Hp)(D:Ends),Inv X pins σ H s->t D σ H->wpAny (model X.prog X.w) X.A (exec st X.env) (SP X pins D) X.xe s
def vJ(X:Cx)(st:List Stmt)(t:TS):Prop:=
 ∀(pins:List (Addr×Obj))(s:Shared)(σ:St)(H:Hp)(D:Ends),Inv X pins σ H s->t D σ H->wpAny (model X.prog X.w) X.A (execs st X.env) (SP X pins D) X.xe s
theorem yc{α:Type}{t:Sem α}{Q Q':α->Shared->Prop}{M:Model}{A:Around}{E:Value->Shared->Prop}{s:Shared}(h:wpAny M A t Q E s)(hQ:∀a s,Q a s->Q' a s):wpAny M A t Q' E s:=wpAny_mono h hQ λ_ _ x=>x
end L2
namespace L2
open PySem PySem.Spec PyProof.Rows
section
variable{X:Cx}
theorem bin{a b:Expr}{ta tb:TE}(ha:PE X a ta)(hb:PE X b tb){pins:List (Addr×Obj)}{s:Shared}{σ:St}{H:Hp}{R:V->V->Hp->Prop}(I:Inv X pins σ H s)(h:ta σ H λx H1=>tb σ H1 λy H2=>R x y H2){α:Type}{Q:α->Shared->Prop}{f:Value->Value->Sem α}(hf:∀v u s2 x y H2,Inv X pins σ H2 s2->RelV x v->RelV y u->R x y H2->wpAny (model X.prog X.w) X.A (f v u) Q X.xe s2):wpAny (model X.prog X.w) X.A (eval a X.env) (λv s₁=>wpAny (model X.prog X.w) X.A (eval b X.env) (λu s₂=>wpAny (model X.prog X.w) X.A (f v u) Q X.xe s₂) X.xe s₁) X.xe s:=by
 refine yc (ha pins s σ H _ I h) λv s1⟨x,H1,I1,r1,q1⟩=>?_;refine yc (hb pins s1 σ H1 _ I1 q1) λu s2⟨y,H2,I2,r2,q2⟩=>?_;exact hf v u s2 x y H2 I2 r1 r2 q2
def Xc(i:Nat):TE:=λσ H Q=>∃v,σ[i]?=some (some v)/\Q v H
def tC(v:V):TE:=λ_ H Q=>Q v H
theorem qW{i:Nat}{x:Str}{pos:Pos}(hN:X.N[i]?=some x)(hv:aX X.env.scope x)(hd:(x==("__debug__":Str))=false:=by decide)(hcd:(x==("__classdict__":Str))=false:=by decide):PE X (.Name x pos) (Xc i):=by
 intro pins s σ H Q I h;obtain⟨v,e,h⟩:=h;obtain⟨m,hn,hl⟩:=I.loc;obtain⟨u,r,l⟩:=hl i x v hN e hv;have fin:EP X pins σ Q u s:=⟨v,H,I,r,h⟩;rcases l with⟨hk,hm⟩|⟨hk,c,hc,hcell⟩
 ·exact wpAny_Name (wpAny_loadName_local I.ok.kind hk hn hm fin) hd
 ·rcases hk with hk|hk
  ·exact wpAny_Name (wpAny_loadName_cell I.ok.kind hk hc hcell fin) hd
  ·exact wpAny_Name (wpAny_loadName_free I.ok.kind hk hc hcell fin hcd) hd
theorem va{i j pos}:PE X (.Constant (.int i) j pos) (tC (.int i)):=λ_ _ _ H _ I h=>wpAny_Constant_int ⟨.int i,H,I.tok _,⟨_,rfl⟩,h⟩
theorem Dh{b j pos}:PE X (.Constant (.bool b) j pos) (tC (.bl b)):=λ_ _ _ H _ I h=>Constant_bool ⟨.bl b,H,I,rfl,h⟩
theorem ic{j pos}:PE X (.Constant .none j pos) (tC .Vb):=λ_ _ _ H _ I h=>Constant_none ⟨.Vb,H,I,rfl,h⟩
theorem jd{x j pos}:PE X (.Constant (.str x) j pos) (tC (.str x)):=λ_ _ _ H _ I h=>Calls.Constant_str ⟨.str x,H,I.tok _,⟨_,rfl⟩,h⟩
def Gl(X:Cx)(x:Str):Prop:=X.env.kindOf x=some .globalImplicit
theorem ax{E:Value->Shared->Prop}{pins:List (Addr×Obj)}{s:Shared}{σ:St}{H:Hp}{x:Str}{u:Value}{pos:Pos}{Q:Value->Shared->Prop}(I:Inv X pins σ H s)(hg:Gl X x)(hm:X.mg x=some u)(h:Q u s)(hd:(x==("__debug__":Str))=false:=by decide):wpAny (model X.prog X.w) X.A (eval (.Name x pos) X.env) Q E s:=
 Calls.Name_function_global I.ok.kind hg (Calls.loadGlobal_global (by rw[I.ok.glob];exact I.mod.glob.keeps I.bk) hm h) hd
theorem Jk{E:Value->Shared->Prop}{pins:List (Addr×Obj)}{s:Shared}{σ:St}{H:Hp}{x:Str}{u:Value}{pos:Pos}{Q:Value->Shared->Prop}(I:Inv X pins σ H s)(hg:Gl X x)(hm:X.mg x=none)(hv:bootBuiltins x=some u)(h:Q u s)(hn:x≠"__name__":=by decide)(hd:(x==("__debug__":Str))=false:=by decide):wpAny (model X.prog X.w) X.A (eval (.Name x pos) X.env) Q E s:=by
 obtain⟨mb,h1,h2⟩:=I.mod.blt;exact Calls.Name_function_global I.ok.kind hg (Calls.loadGlobal_builtin (by rw[I.ok.glob];exact I.mod.glob.keeps I.bk) hm (by rw[I.ok.blt];exact h1.keeps I.bk) ((h2 x hn).trans hv) h) hd
theorem vF{x:Str}{v:V}{u:Value}{pos:Pos}(hg:Gl X x)(hm:X.mg x=some u)(r:RelV v u)(hd:(x==("__debug__":Str))=false:=by decide):PE X (.Name x pos) (tC v):=
 λ_ _ _ H _ I h=>ax I hg hm ⟨v,H,I,r,h⟩ hd
variable{a b:Expr}{ta tb:TE}{pos:Pos}
def PC(X:Cx)(op:CmpOp)(a b:Expr)(t:TE):Prop:=
 ∀(pins:List (Addr×Obj))(s:Shared)(σ:St)(H:Hp)(Q:VK),Inv X pins σ H s->t σ H Q->
  wpAny (model X.prog X.w) X.A (eval a X.env) (λv s₁=>wpAny (model X.prog X.w) X.A (eval b X.env) (λu s₂=>wpAny (model X.prog X.w) X.A (compareOp op v u) (EP X pins σ Q) X.xe s₂) X.xe s₁) X.xe s
theorem RelV.GR{x:V}{v:Value}(r:RelV x v):(v==Value.none)=decide (x=.Vb):=by
 cases x with
 |Vb=>cases r;rfl
 |bl _=>cases r;rfl
 |int _=>obtain⟨t,rfl⟩:=r;rfl
 |str _=>obtain⟨t,rfl⟩:=r;rfl
 |bE _=>obtain⟨t,rfl⟩:=r;rfl
 |EX _=>obtain⟨t,rfl⟩:=r;rfl
 |ref _=>cases r;rfl
 |ty _=>cases r;rfl
def tB(t:TE):TT:=λσ H Q=>t σ H λx H1=>∃c,x=.bl c/\Q c H1
theorem VR{op:CmpOp}{t:TE}(h:PC X op a b t)(h1:behindInMarks op b=false:=by first|exact nobehind _ (by decide) (by decide)|rfl):PT X (.Compare a [op] [b] pos) (tB t):=by
 intro pins s σ H Q I hw;refine wpAny_isTrue_Compare1 (yc (h pins s σ H _ I hw) λv s1 h1=>yc h1 λu s2 h2=>yc h2 λc s3⟨x,H1,I1,r1,q1⟩=>?_) h1;obtain⟨d,rfl,q⟩:=q1;cases r1;exact wpAny_truthy_bool ⟨H1,I1,q⟩
theorem Ob{e:Expr}{t:TE}(h:PE X e t)(he:∀whole,isTrue e X.env whole=(do let v<-whole;standAt e.pos;holding [v] (truthy v)):=by intro _;rfl):PT X e (tB t):=by
 intro pins s σ H Q I hw;refine isTrue_plain (yc (h pins s σ H _ I hw) λv s1⟨x,H1,I1,r1,q1⟩=>?_) (he _);obtain⟨d,rfl,q⟩:=q1;cases r1;exact wpAny_truthy_bool ⟨H1,I1,q⟩
variable{tA tB':TT}{rest:List Expr}
def WX(t u:TT):TT:=λσ H Q=>t σ H λc H1=>if c=true then u σ H1 Q else Q false H1
def yZ(t u:TT):TT:=λσ H Q=>t σ H λc H1=>if c=true then Q true H1 else u σ H1 Q
def dY(t:TT):TT:=λσ H Q=>t σ H λc H1=>Q (!c) H1
theorem jN(ha:PT X a tA):PW X (.BoolOp .And [a] pos) tA:=by
 intro wh pins s σ H Q I h;refine isTrue_and (yc (ha pins s σ H Q I h) λc s1 e=>?_);cases c with
 |true=>exact isTrue_and_nil e
 |false=>exact e
theorem Zf(ha:PT X a tA):PW X (.BoolOp .Or [a] pos) tA:=by
 intro wh pins s σ H Q I h;refine isTrue_or (yc (ha pins s σ H Q I h) λc s1 e=>?_);cases c with
 |false=>exact isTrue_or_nil e
 |true=>exact e
theorem ZR(ha:PT X a tA)(hb:PW X (.BoolOp .And (b::rest) pos) tB'):PW X (.BoolOp .And (a::b::rest) pos) (WX tA tB'):=by
 intro wh pins s σ H Q I h;refine isTrue_and (yc (ha pins s σ H _ I h) λc s1⟨H1,I1,q1⟩=>?_);cases c with
 |true=>exact hb wh pins s1 σ H1 Q I1 q1
 |false=>exact⟨H1,I1,q1⟩
theorem dg(ha:PT X a tA)(hb:PW X (.BoolOp .Or (b::rest) pos) tB'):PW X (.BoolOp .Or (a::b::rest) pos) (yZ tA tB'):=by
 intro wh pins s σ H Q I h;refine isTrue_or (yc (ha pins s σ H _ I h) λc s1⟨H1,I1,q1⟩=>?_);cases c with
 |true=>exact⟨H1,I1,q1⟩
 |false=>exact hb wh pins s1 σ H1 Q I1 q1
theorem Hb(ha:PT X a tA):PT X (.UnaryOp .Not a pos) (dY tA):=by
 intro pins s σ H Q I h;exact isTrue_not (ha pins s σ H (λc H1=>Q (!c) H1) I h)
def MU(ta tb:TE):TE:=λσ H Q=>ta σ H λx H1=>∃c,x=.bl c/\if c=true then tb σ H1 Q else Q (.bl false) H1
def pZ(ta tb:TE):TE:=λσ H Q=>ta σ H λx H1=>∃c,x=.bl c/\if c=true then Q (.bl true) H1 else tb σ H1 Q
def RU(ta:TE):TE:=λσ H Q=>ta σ H λx H1=>∃c,x=.bl c/\Q (.bl (!c)) H1
theorem Mq{op}{t:TE}(h:PE X a t):PE X (.BoolOp op [a] pos) t:=λpins s σ H Q I hw=>BoolOp_one (h pins s σ H Q I hw)
theorem Vk(ha:PE X a ta)(hb:PE X (.BoolOp .And (b::rest) pos) tb):PE X (.BoolOp .And (a::b::rest) pos) (MU ta tb):=by
 intro pins s σ H Q I h;refine BoolOp_and (yc (ha pins s σ H _ I h) λv s1⟨x,H1,I1,r1,q1⟩=>?_);obtain⟨c,rfl,q1⟩:=q1;cases r1;refine wpAny_truthy_bool ?_;cases c with
 |true=>exact hb pins s1 σ H1 Q I1 q1
 |false=>exact⟨.bl false,H1,I1,rfl,q1⟩
theorem pW(ha:PE X a ta):PE X (.UnaryOp .Not a pos) (RU ta):=by
 intro pins s σ H Q I h;refine UnaryOp_ (yc (ha pins s σ H _ I h) λv s1⟨x,H1,I1,r1,q1⟩=>?_);obtain⟨c,rfl,q1⟩:=q1;cases r1;exact not_of (wpAny_truthy_bool ⟨.bl (!c),H1,I1,rfl,q1⟩)
def xZ(t:TT)(ta tb:TE):TE:=λσ H Q=>t σ H λc H1=>if c=true then ta σ H1 Q else tb σ H1 Q
theorem Lz{c:Expr}(hc:PT X c tA)(ha:PE X a ta)(hb:PE X b tb):PE X (.IfExp c a b pos) (xZ tA ta tb):=by
 intro pins s σ H Q I h;refine wpAny_IfExp (yc (hc pins s σ H _ I h) λd s1⟨H1,I1,q1⟩=>?_);cases d with
 |true=>exact ha pins s1 σ H1 Q I1 q1
 |false=>exact hb pins s1 σ H1 Q I1 q1
end
end L2
namespace L2
open PySem PySem.Spec PyProof.Rows
def Ha(K:PySem.W.Frag)(H:Hp)(a:Addr)(xs:List V):Prop:=
 Rd H a (.lst xs)\/
  ∃(o:Obj)(its:Array Value)(n:Nat),K.lookup a=some o/\o.cls=.type "list"/\o.dict=none/\o.data=.seq its n/\its.size<=sizeLine/\Vals xs its.toList
def mh(K:PySem.W.Frag)(H:Hp)(a:Addr)(xs:List V):Prop:=
 Rd H a (.tup xs)\/
  ∃(o:Obj)(its:Array Value)(n:Nat),K.lookup a=some o/\o.cls=.type "tuple"/\o.data=.seq its n/\its.size<=sizeLine/\Vals xs its.toList
def PY:Value->Option V
 |.none=>some .Vb
 |.bool b=>some (.bl b)
 |.int i _=>some (.int i)
 |.str x _=>some (.str x)
 |.bytes b _=>some (.bE b)
 |.float b _=>some (.EX b)
 |.ref a=>some (.ref a)
 |.type n=>some (.ty n)
 |_=>none
theorem RelV.abs{x:V}{u:Value}(r:RelV x u):PY u=some x:=by
 cases x with
 |Vb=>cases r;rfl
 |bl _=>cases r;rfl
 |int _=>obtain⟨t,rfl⟩:=r;rfl
 |str _=>obtain⟨t,rfl⟩:=r;rfl
 |bE _=>obtain⟨t,rfl⟩:=r;rfl
 |EX _=>obtain⟨t,rfl⟩:=r;rfl
 |ref _=>cases r;rfl
 |ty _=>cases r;rfl
theorem RelV.inj{x y:V}{u:Value}(r:RelV x u)(q:RelV y u):x=y:=Option.some.inj (r.abs.symm.trans q.abs)
theorem Vals.inj:∀{xs ys:List V}{us:List Value},Vals xs us->Vals ys us->xs=ys
 |_,_,_,.nil,.nil=>rfl
 |_,_,_,.cons r t,.cons r' t'=>by rw[r.inj r',Vals.inj t t']
section
variable{X:Cx}{pins:List (Addr×Obj)}{σ:St}{H:Hp}{s:Shared}{a:Addr}{xs ys:List V}
theorem Ha.of{K:PySem.W.Frag}(h:H a=some (.lst xs)):Ha K H a xs:=.inl (.inl h)
theorem mh.of{K:PySem.W.Frag}(h:H a=some (.tup xs)):mh K H a xs:=.inl (.inl h)
theorem Inv.list(I:Inv X pins σ H s)(h:Ha X.K H a xs):∃its:List Value,Vals xs its/\PlainL s.heap a its.toArray/\xs.length<=sizeLine:=by
 rcases h with h|⟨o,its,n,hk,hc,hd,hs,hz,r⟩
 ·obtain⟨z,its,n,r,e⟩:=h.ok I.Kb;exact⟨its,r,⟨_,n,e,rfl,rfl,rfl⟩,z⟩
 ·refine⟨its.toList,r,⟨o,n,I.pO a o hk,hc,hd,by simpa using hs⟩,?_⟩;have e:=r.length;simp only[Array.length_toList] at e;lia
theorem Inv.tuple(I:Inv X pins σ H s)(h:mh X.K H a xs):∃its:List Value,Vals xs its/\IsTup s.heap a its.toArray/\xs.length<=sizeLine:=by
 rcases h with h|⟨o,its,n,hk,hc,hs,hz,r⟩
 ·obtain⟨z,its,r,p⟩:=h.ok I.Kb;exact⟨its,r,p,z⟩
 ·refine⟨its.toList,r,⟨o,I.pO a o hk,hc,n,by simpa using hs⟩,?_⟩;have e:=r.length;simp only[Array.length_toList] at e;lia
theorem Inv.js(I:Inv X pins σ H s)(h:Ha X.K H a xs)(h':Ha X.K H a ys):xs=ys:=by
 obtain⟨its,r,⟨o,n,e,_,_,d⟩,_⟩:=I.list h;obtain⟨its',r',⟨o',n',e',_,_,d'⟩,_⟩:=I.list h';rw[e] at e';cases e';rw[d] at d';injection d' with d1 _;have:its=its':=by simpa using congrArg Array.toList d1
 subst this;exact r.inj r'
theorem Inv.HP(I:Inv X pins σ H s)(h:mh X.K H a xs)(h':mh X.K H a ys):xs=ys:=by
 obtain⟨its,r,⟨o,e,_,n,d⟩,_⟩:=I.tuple h;obtain⟨its',r',⟨o',e',_,n',d'⟩,_⟩:=I.tuple h';rw[e] at e';cases e';rw[d] at d';injection d' with d1 _;have:its=its':=by simpa using congrArg Array.toList d1
 subst this;exact r.inj r'
end
abbrev Cx.BB(X:Cx)(E:Value->Shared->Prop):Cx:={X with xe:=E}
abbrev Cx.fX(X:Cx):Cx:=X.BB λ_ _=>False
theorem Cx.Ok.BB{X:Cx}(ok:X.Ok)(E:Value->Shared->Prop):(X.BB E).Ok:=
 ⟨ok.mod,ok.kind,ok.glob,ok.blt,ok.above,ok.inj,ok.has,ok.vX,ok.hd,ok.frames,ok.AY,ok.vY,ok.bs,ok.jQ,ok.FR,ok.CQ,ok.Tt,ok.qT⟩
theorem Cx.Ok.Qn{X:Cx}{E:Value->Shared->Prop}(ok:(X.BB E).Ok):X.Ok:=
 ⟨ok.mod,ok.kind,ok.glob,ok.blt,ok.above,ok.inj,ok.has,ok.vX,ok.hd,ok.frames,ok.AY,ok.vY,ok.bs,ok.jQ,ok.FR,ok.CQ,ok.Tt,ok.qT⟩
section
variable{X:Cx}{pins:List (Addr×Obj)}{σ:St}{H:Hp}{s:Shared}{E:Value->Shared->Prop}
theorem Inv.BB(I:Inv X pins σ H s)(E:Value->Shared->Prop):Inv (X.BB E) pins σ H s:=⟨I.ok.BB E,I.os,I.bare,I.base,I.loc,I.cell,I.free,I.Kj,I.pin,I.Kb,I.len⟩
theorem Inv.Qn(I:Inv (X.BB E) pins σ H s):Inv X pins σ H s:=⟨I.ok.Qn,I.os,I.bare,I.base,I.loc,I.cell,I.free,I.Kj,I.pin,I.Kb,I.len⟩
theorem SP.Qn{D:Ends}{f:Flow}{s':Shared}(h:SP (X.BB E) pins D f s'):SP X pins D f s':=by
 cases f with
 |next=>obtain⟨σ',H',I,q⟩:=h;exact⟨σ',H',I.Qn,q⟩
 |brk=>obtain⟨σ',H',I,q⟩:=h;exact⟨σ',H',I.Qn,q⟩
 |cont=>obtain⟨σ',H',I,q⟩:=h;exact⟨σ',H',I.Qn,q⟩
 |ret u=>obtain⟨v,σ',H',I,r,q⟩:=h;exact⟨v,σ',H',I.Qn,r,q⟩
theorem vJ.fX{st:List Stmt}{t:TS}(h:vJ X.fX st t):vJ X st t:=λpins s σ H D I hw=>
 wpAny_mono (h pins s σ H D (I.BB _) hw) (λ_ _ q=>q.Qn) λ_ _ z=>False.elim z
end
section
variable{X:Cx}{st:Stmt}{rest:List Stmt}{t u:TS}{e:Expr}{te:TE}{pos:Pos}
def gJ:TS:=λD σ H=>D.nx σ H
def eM(t u:TS):TS:=λD σ H=>t {D with nx:=u D} σ H
theorem za:vJ X [] gJ:=λ_ _ σ H _ I h=>wpAny_execs_nil ⟨σ,H,I,h⟩
theorem ba(h1:PS X st t)(h2:vJ X rest u):vJ X (st::rest) (eM t u):=by
 intro pins s σ H D I h;refine wpAny_execs_cons (yc (h1 pins s σ H {D with nx:=u D} I h) λf s1 q=>?_);cases f with
 |next=>
  obtain⟨σ',H',I',q⟩:=q;exact h2 pins s1 σ' H' D I' q
 |ret v=>exact q
 |brk=>exact q
 |cont=>exact q
theorem ja(h1:PS X st t):vJ X [st] t:=by
 intro pins s σ H D I h;refine wpAny_execs_cons (yc (h1 pins s σ H D I h) λf s1 q=>?_);cases f with
 |next=>exact wpAny_execs_nil q
 |ret v=>exact q
 |brk=>exact q
 |cont=>exact q
def OU:TS:=λD σ H=>D.ct σ H
theorem cI:PS X (.Continue pos) OU:=λ_ _ σ H _ I h=>wpAny_Continue ⟨σ,H,I,h⟩
theorem Inv.quiet{pins:List (Addr×Obj)}{σ:St}{H:Hp}{s:Shared}(I:Inv X pins σ H s):interactive X.env=false:=by simp[interactive,I.ok.kind]
def PU(te:TE):TS:=λD σ H=>te σ H λ_ H1=>D.nx σ H1
theorem df(he:PE X e te)(hs:swapsWith e none pos.line X.env=pure false:=by rfl):PS X (.Expr e pos) (PU te):=by
 intro pins s σ H D I h;exact wpAny_Expr_any (yc (he pins s σ H _ I h) λv s1⟨x,H1,I1,r1,q1⟩=>⟨σ,H1,I1,q1⟩) I.quiet hs
def JW(te:TE):TS:=λD σ H=>te σ H D.rt
theorem oa(he:PE X e te):PS X (.Return (some e) pos) (JW te):=by
 intro pins s σ H D I h;exact wpAny_Return_some (yc (he pins s σ H _ I h) λv s1⟨x,H1,I1,r1,q1⟩=>⟨x,σ,H1,I1,r1,q1⟩)
def eY:TS:=λD _ H=>D.rt .Vb H
def CS(c:TT)(t u:TS):TS:=λD σ H=>c σ H λb H1=>if b=true then t D σ H1 else u D σ H1
theorem Ma{c:Expr}{a b:List Stmt}{tc:TT}(hc:PT X c tc)(ha:vJ X a t)(hb:vJ X b u):PS X (.If c a b pos) (CS tc t u):=by
 intro pins s σ H D I h;refine wpAny_If (yc (hc pins s σ H _ I h) λd s1⟨H1,I1,q1⟩=>?_);cases d with
 |true=>exact ha pins s1 σ H1 D I1 q1
 |false=>exact hb pins s1 σ H1 D I1 q1
end
abbrev TG:=V->St->Hp->(St->Hp->Prop)->Prop
abbrev CU:=List V->St->Hp->(St->Hp->Prop)->Prop
def PG(X:Cx)(target:Expr)(t:TG):Prop:=
 ∀(pins:List (Addr×Obj))(s:Shared)(σ:St)(H:Hp)(v:V)(u:Value)(Q:St->Hp->Prop),Inv X pins σ H s->RelV v u->t v σ H Q->
  wpAny (model X.prog X.w) X.A (assign target X.env u) (λ_ s'=>∃σ' H',Inv X pins σ' H' s'/\Q σ' H') X.xe s
def qX(X:Cx)(ts:List Expr)(t:CU):Prop:=
 ∀(pins:List (Addr×Obj))(s:Shared)(σ:St)(H:Hp)(vs:List V)(us:List Value)(Q:St->Hp->Prop),Inv X pins σ H s->Vals vs us->t vs σ H Q->
  wpAny (model X.prog X.w) X.A (assignInOrder ((assignEach ts X.env).map (·.2)) us) (λ_ s'=>∃σ' H',Inv X pins σ' H' s'/\Q σ' H') X.xe s
abbrev bQ:=V->V->V->Hp->(Hp->Prop)->Prop
def fV(X:Cx)(t:bQ):Prop:=
 ∀(pins:List (Addr×Obj))(s:Shared)(σ:St)(H:Hp)(o i v:V)(ov iv u:Value)(Q:Hp->Prop),Inv X pins σ H s->RelV o ov->RelV i iv->RelV v u->t o i v H Q->
  wpAny (model X.prog X.w) X.A (setItem ov iv u) (λ_ s'=>∃H',Inv X pins σ H' s'/\Q H') X.xe s
abbrev ZW:=V->V->Hp->VK->Prop
def qY(X:Cx)(op:Operator)(t:ZW):Prop:=
 ∀(pins:List (Addr×Obj))(s:Shared)(σ:St)(H:Hp)(x y:V)(v u:Value)(Q:VK),Inv X pins σ H s->RelV x v->RelV y u->t x y H Q->
  wpAny (model X.prog X.w) X.A (inplaceOp op v u) (EP X pins σ Q) X.xe s
section
variable{X:Cx}{pos:Pos}
def Mb(i:Nat):TG:=λv σ H Q=>Q (σ.set i (some v)) H
theorem Va{i:Nat}{x:Str}(hN:X.N.Nodup)(hi:X.N[i]?=some x)(hx:Loc X.env.scope x)(hf:X.fn x=true\/X.env.scope.names.lookup x=some .local:=by first|exact .inl rfl|exact .inr rfl|assumption):PG X (.Name x pos) (Mb i):=by
 intro pins s σ H v u Q I r h;exact wpAny_assign_Name (nA I hN hi hx r (λs' I'=>⟨_,H,I',h⟩) hf)
def HV:CU:=λvs σ H Q=>vs=[]/\Q σ H
def WG(t:TG)(u:CU):CU:=λvs σ H Q=>∃v r,vs=v::r/\t v σ H λσ' H'=>u r σ' H' Q
theorem jx:qX X [] HV:=by
 intro pins s σ H vs us Q I r h;obtain⟨e,h⟩:=h;subst e;cases r;exact assignInOrder_nil ⟨σ,H,I,h⟩
theorem fh{e:Expr}{es:List Expr}{t:TG}{u:CU}(h1:PG X e t)(h2:qX X es u)(hs:(assignEach (e::es) X.env).map (·.2)=assign e X.env::(assignEach es X.env).map (·.2):=by rfl):qX X (e::es) (WG t u):=by
 intro pins s σ H vs us Q I r h;obtain⟨v,vr,e1,h⟩:=h;subst e1;cases r with
 |cons r rr=>
  rw[hs];refine assignInOrder_cons (yc (h1 pins s σ H _ _ _ I r h) λ_ s1⟨σ1,H1,I1,q1⟩=>?_);exact h2 pins s1 σ1 H1 _ _ Q I1 rr q1
def tT(K:PySem.W.Frag)(n:Nat)(t:CU):TG:=λv σ H Q=>∃a xs,v=.ref a/\mh K H a xs/\xs.length=n/\t xs σ H Q
theorem rW{es:List Expr}{k:Nat}{t:CU}{n:Nat}(hc:X.calm=true)(h:qX X es t)(hn:(assignEach es X.env).length=n:=by rfl)(hst:(assignEach es X.env).findIdx? (·.1)=none:=by rfl):PG X (.Tuple es k pos) (tT X.K n t):=by
 intro pins s σ H v u Q I r hw;obtain⟨a,xs,e1,hq,hl,hw⟩:=hw;subst e1;cases r;obtain⟨its,rv,ht,hz⟩:=I.tuple hq;refine assign_Tuple_tuple (I.ok.hd hc) ht (by simp[hn,<-hl,rv.length]) hst λh' hx=>?_;have I1:Inv X pins σ H {s with heap:=h'}:=I.kept (t':=s.toks) λb o e=>hx b o (Nat.ne_of_lt (Heap.lt_size e)) e;exact h pins _ σ H xs _ Q I1 (by simpa using rv) hw
def rT(to ti:TE)(t:bQ):TG:=λv σ H Q=>to σ H λo H1=>ti σ H1 λi H2=>t o i v H2 λH3=>Q σ H3
theorem SK{o i:Expr}{to ti:TE}{t:bQ}(ho:PE X o to)(hi:PE X i ti)(hs:fV X t)(ha:∀v,assign (.Subscript o i pos) X.env v=(do
  let ov<-holding [v] (eval o X.env);let iv<-holding [v,ov] (eval i X.env)
  standAt pos
  holding [v,ov,iv] (setItem ov iv v)
  release [v,ov,iv] []):=by intro _;rfl):PG X (.Subscript o i pos) (rT to ti t):=by
 intro pins s σ H v u Q I r h;rw[ha];refine wpAny_bind (wpAny_holding (yc (ho pins s σ H _ I h) λov s1⟨x,H1,I1,r1,q1⟩=>?_));refine wpAny_bind (wpAny_holding (yc (hi pins s1 σ H1 _ I1 q1) λiv s2⟨y,H2,I2,r2,q2⟩=>?_));refine wpAny_bind (wpAny_standAt (wpAny_bind (wpAny_holding (yc (hs pins s2 σ H2 x y v ov iv u _ I2 r1 r2 r q2) λ_ s3⟨H3,I3,q3⟩=>?_))));exact wpAny_release ⟨σ,H3,I3,q3⟩
def vU(te:TE)(g:TG):TS:=λD σ H=>te σ H λx H1=>g x σ H1 D.nx
theorem WK{tg e:Expr}{te:TE}{g:TG}(he:PE X e te)(hg:PG X tg g)(hs:swapsWithSole [tg] e pos.line X.env=pure false:=by rfl)(hw:swappedStores [tg] e X.env=pure none:=by rfl)(h1:(assignEach [tg] X.env).map (·.2)=[assign tg X.env]:=by rfl):PS X (.Assign [tg] e pos) (vU te g):=by
 intro pins s σ H D I h;refine wpAny_Assign_stores (yc (he pins s σ H _ I h) λv s1⟨x,H1,I1,r1,q1⟩=>?_) hs hw;rw[h1];exact yc (hg pins s1 σ H1 x v _ I1 r1 q1) λ_ s2 q=>q
theorem Pa{i:Nat}{x:Str}{e:Expr}{te:TE}{pos':Pos}(hN:X.N.Nodup)(hi:X.N[i]?=some x)(hx:Loc X.env.scope x)(he:PE X e te)(hs:swapsWith e (some (.Name x pos')) pos.line X.env=pure false:=by rfl)(hf:X.fn x=true\/X.env.scope.names.lookup x=some .local:=by first|exact .inl rfl|exact .inr rfl|assumption):PS X (.Assign [.Name x pos'] e pos) (vU te (Mb i)):=by
 intro pins s σ H D I h;refine wpAny_Assign_Name (yc (he pins s σ H _ I h) λv s1⟨y,H1,I1,r1,q1⟩=>?_) hs;exact nA I1 hN hi hx r1 (λs2 I2=>⟨_,H1,I2,q1⟩) hf
def yS(i:Nat)(te:TE)(ti:ZW):TS:=λD σ H=>∃x,σ[i]?=some (some x)/\te σ H λy H1=>ti x y H1 λz H2=>D.nx (σ.set i (some z)) H2
theorem yF{i:Nat}{x:Str}{e:Expr}{te:TE}{op:Operator}{ti:ZW}{pos':Pos}(hN:X.N.Nodup)(hi:X.N[i]?=some x)(hx:Loc X.env.scope x)(he:PE X e te)(ho:qY X op ti)(hf:X.fn x=true\/X.env.scope.names.lookup x=some .local:=by first|exact .inl rfl|exact .inr rfl|assumption):PS X (.AugAssign (.Name x pos') op e pos) (yS i te ti):=by
 intro pins s σ H D I h;obtain⟨v,e1,h⟩:=h;obtain⟨m,hn,hl⟩:=I.loc;have vis:aX X.env.scope x:=by rcases hx with k|k;exact .inl k;exact .inr (.inl k)
 obtain⟨u,r,l⟩:=hl i x v hi e1 vis;refine wpAny_AugAssign_Name ?_;have go:wpAny (model X.prog X.w) X.A (eval e X.env) (λw s₂=>wpAny (model X.prog X.w) X.A (inplaceOp op u w) (λr s₃=>wpAny (model X.prog X.w) X.A (storeName X.env x r) (λ_=>SP X pins D .next) X.xe s₃) X.xe s₂) X.xe s:=by
  refine yc (he pins s σ H _ I h) λw s1⟨y,H1,I1,r1,q1⟩=>?_;refine yc (ho pins s1 σ H1 v y u w _ I1 r r1 q1) λz s2⟨zv,H2,I2,r2,q2⟩=>?_;exact nA I2 hN hi hx r2 (λs3 I3=>⟨_,H2,I3,q2⟩) hf
 rcases l with⟨hk,hm⟩|⟨hk,c,hc,hcell⟩
 ·exact wpAny_loadName_local I.ok.kind hk hn hm go
 ·rcases hk with hk|hk
  ·exact wpAny_loadName_cell I.ok.kind hk hc hcell go
  ·rcases hx with k|k
   ·have:X.env.scope.names.lookup x=some .free:=hk;rw[k] at this;cases this
   ·have:X.env.scope.names.lookup x=some .free:=hk;rw[k] at this;cases this
def NU(to ti te:TE)(tget:V->V->Hp->VK->Prop)(tip:ZW)(tset:bQ):TS:=λD σ H=>to σ H λo H1=>ti σ H1 λi H2=>tget o i H2 λx H3=>te σ H3 λy H4=>tip x y H4 λz H5=>tset o i z H5 λH6=>D.nx σ H6
def pX(X:Cx)(t:V->V->Hp->VK->Prop):Prop:=
 ∀(pins:List (Addr×Obj))(s:Shared)(σ:St)(H:Hp)(o i:V)(ov iv:Value)(Q:VK),Inv X pins σ H s->RelV o ov->RelV i iv->t o i H Q->
  wpAny (model X.prog X.w) X.A (getItem ov iv) (EP X pins σ Q) X.xe s
theorem fU{o i e:Expr}{to ti te:TE}{tget:V->V->Hp->VK->Prop}{tip:ZW}{tset:bQ}{op:Operator}{tpos:Pos}(ho:PE X o to)(hi:PE X i ti)(hg:pX X tget)(he:PE X e te)(hp:qY X op tip)(hs:fV X tset)(ha:∀ov iv new,augStore i ov iv new=(do holding [new,ov,iv] (setItem ov iv new);release [new,ov,iv] [];pure .next):=by intros;rfl):PS X (.AugAssign (.Subscript o i tpos) op e pos) (NU to ti te tget tip tset):=by
 intro pins s σ H D I h;refine wpAny_AugAssign_SubscriptAny (yc (ho pins s σ H _ I h) λov s1⟨x1,H1,I1,r1,q1⟩=>?_) ha;refine yc (hi pins s1 σ H1 _ I1 q1) λiv s2⟨x2,H2,I2,r2,q2⟩=>?_;refine yc (hg pins s2 σ H2 x1 x2 ov iv _ I2 r1 r2 q2) λold s3⟨x3,H3,I3,r3,q3⟩=>?_;refine yc (he pins s3 σ H3 _ I3 q3) λv s4⟨x4,H4,I4,r4,q4⟩=>?_;refine yc (hp pins s4 σ H4 x3 x4 old v _ I4 r3 r4 q4) λnew s5⟨x5,H5,I5,r5,q5⟩=>?_;exact yc (hs pins s5 σ H5 x1 x2 x5 ov iv new _ I5 r1 r2 r5 q5) λ_ s6⟨H6,I6,q6⟩=>⟨σ,H6,I6,q6⟩
def QV(f:Int->Int->Int):ZW:=λx y H Q=>∃i j,x=.int i/\y=.int j/\Q (.int (f i j)) H
theorem HE:qY X .Add (QV λi j=>i+j):=by
 intro pins s σ H x y v u Q I r1 r2 h;obtain⟨i,j,e1,e2,q⟩:=h;subst e1;subst e2;obtain⟨t,rfl⟩:=r1;obtain⟨t',rfl⟩:=r2;exact iadd_int ⟨.int _,H,I.tok _,⟨_,rfl⟩,q⟩
theorem RV:qY X .Sub (QV λi j=>i-j):=by
 intro pins s σ H x y v u Q I r1 r2 h;obtain⟨i,j,e1,e2,q⟩:=h;subst e1;subst e2;obtain⟨t,rfl⟩:=r1;obtain⟨t',rfl⟩:=r2;exact isub_int ⟨.int _,H,I.tok _,⟨_,rfl⟩,q⟩
end
section
variable{X:Cx}{pos:Pos}
def KW(c:TT)(tb:TS):TS:=λD σ H=>∃W:Nat->St->Hp->Prop,(∃m,W m σ H)/\∀m σ H,W m σ H->
 c σ H λb H1=>if b=true then∃N:St->Hp->Prop,(∀σ' H',N σ' H'->∃m',m'<m/\W m' σ' H')/\tb {D with nx:=N,ct:=N,bk:=D.nx} σ H1 else D.nx σ H1
theorem UR{c:Expr}{body:List Stmt}{tc:TT}{tb:TS}(hp:PassesOwn (model X.prog X.w) X.A X.env X.xe)(hc:PT X c tc)(hb:vJ X body tb):PS X (.While c body [] pos) (KW tc tb):=by
 intro pins s σ H D I h;obtain⟨W,⟨m0,w0⟩,turn⟩:=h;refine wpAny_While (codeAny_whileLoop (λn s'=>∃σ' H',Inv X pins σ' H' s'/\W n σ' H') ?_ m0 ⟨σ,H,I,w0⟩);rintro n s1 ⟨σ1,H1,I1,w1⟩;refine wpAny_passesOwn hp (yc (hc pins s1 σ1 H1 _ I1 (turn n σ1 H1 w1)) λb s2⟨H2,I2,q2⟩=>?_);cases b with
 |true=>
  obtain⟨N,hN,q2⟩:=q2;rw[if_pos rfl];refine wpAny_passesOwn hp (yc (hb pins s2 σ1 H2 _ I2 q2) λf s3 q3=>?_);cases f with
  |next=>
   obtain⟨σ3,H3,I3,n3⟩:=q3;obtain⟨m',hm,w3⟩:=hN σ3 H3 n3;exact⟨m',hm,σ3,H3,I3,w3⟩
  |cont=>
   obtain⟨σ3,H3,I3,n3⟩:=q3;obtain⟨m',hm,w3⟩:=hN σ3 H3 n3;exact⟨m',hm,σ3,H3,I3,w3⟩
  |brk=>exact q3
  |ret v=>exact q3
 |false=>
  rw[if_neg Bool.false_ne_true];exact wpAny_execs_nil ⟨σ1,H2,I2,q2⟩
end
structure It where
 go:Nat->Hp->Prop
 rM:Nat->Hp->V->Hp->Prop
 stop:Nat->Hp->Prop
def gw(X:Cx)(pins:List (Addr×Obj))(H:Hp)(b:Addr):Prop:=
 H b=none/\b≠X.env.locals/\b∉X.fs/\(b∈X.ex\/X.wD.heap.objs.size<=b)/\(∀x c,X.env.cells.lookup x=some c->c≠b)/\∀p∈X.pn++pins,p.1≠b
theorem Inv.KJ{X:Cx}{pins:List (Addr×Obj)}{σ:St}{H H':Hp}{s:Shared}{b:Addr}(I:Inv X pins σ H s)(hb:s.heap.objs.size<=b)(hn:H' b=none):gw X pins H' b:=by
 refine⟨hn,Nat.ne_of_gt (Nat.lt_of_lt_of_le I.lt hb),I.cZ hb,.inr (Nat.le_trans I.sz hb),λx c e z=>?_,λp hp z=>?_⟩
 ·obtain⟨v,q⟩:=I.cell x c e;exact absurd (Nat.lt_of_lt_of_le q.lt (by rw[z];exact hb)) (Nat.lt_irrefl _)
 ·exact absurd (Nat.lt_of_lt_of_le (Heap.lt_size (I.pin p hp).1) (by rw[z];exact hb)) (Nat.lt_irrefl _)
structure Turn(P:Program)(w:World)(K:PySem.W.Frag)(tg:Expr)(J:It)(fp:List Addr)(it:Addr)(tn:Nat->Heap->Prop):Prop where
 mem:it∈fp
 obj:∀i h,tn i h->∀b∈fp,∃o,h.get? b=some o/\∀v,o.data≠.cell v
 keep:∀i h h',tn i h->(∀b∈fp,∀o,h.get? b=some o->h'.get? b=some o)->tn i h'
 item:∀(X:Cx),X.prog=P->X.w=w->X.K=K->X.calm=true->∀(i:Nat)(pins:List (Addr×Obj))(s:Shared)(σ:St)(H:Hp)(E:Value->Shared->Prop),Inv X pins σ H s->(∀b∈fp,gw X pins H b)->tn i s.heap->J.go i H->
  wpAny (model P w) X.A (pyNext (.ref it)) (λr s1=>∃u,r=some u/\
   wpAny (model P w) X.A (letOwnedTupleGo tg (.ref it) u) (λ_ s2=>∃x H',Inv X pins σ H' s2/\RelV x u/\J.rM i H x H'/\tn (i+1) s2.heap/\∀b∈fp,H' b=none) E s1) E s
 done:∀(X:Cx),X.prog=P->X.w=w->X.K=K->X.calm=true->∀(i:Nat)(pins:List (Addr×Obj))(s:Shared)(σ:St)(H:Hp)(E:Value->Shared->Prop),Inv X pins σ H s->(∀b∈fp,gw X pins H b)->tn i s.heap->J.stop i H->
  wpAny (model P w) X.A (pyNext (.ref it)) (λr s1=>r=none/\Inv X pins σ H s1) E s
 self:∀(A:Around)(i:Nat)(s:Shared)(Q:Value->Shared->Prop)(E:Value->Shared->Prop),tn i s.heap->Q (.ref it) s->wpAny (model P w) A (pyIter (.ref it)) Q E s
abbrev TI:=St->Hp->(It->Hp->Prop)->Prop
def LY(X:Cx)(pins:List (Addr×Obj))(σ:St)(tg:Expr)(R:It->Hp->Prop)(itv:Value)(s2:Shared):Prop:=
 ∃(it:Addr)(fp:List Addr)(tn:Nat->Heap->Prop)(J:It)(H':Hp),itv=.ref it/\Inv X pins σ H' s2/\Turn X.prog X.w X.K tg J fp it tn/\tn 0 s2.heap/\(∀b∈fp,gw X pins H' b)/\R J H'
def PI(X:Cx)(tg iter:Expr)(wi:TI):Prop:=
 ∀(pins:List (Addr×Obj))(s:Shared)(σ:St)(H:Hp)(R:It->Hp->Prop),Inv X pins σ H s->wi σ H R->
  wpAny (model X.prog X.w) X.A (eval iter X.env) (λv s1=>wpAny (model X.prog X.w) X.A (pyIter v) (LY X pins σ tg R) X.xe s1) X.xe s
theorem My{M:Model}{A:Around}{E:Value->Shared->Prop}{s:Shared}{tg:Expr}{it:Addr}{u:Value}{o:Obj}{n:String}{vs:Array Value}{Q:Unit->Shared->Prop}(ho:s.heap.get? it=some o)(hc:o.cls=.type n)(hd:o.data=.fields vs)(hn:["enumerate","zip","dict_itemiterator","dict_reverseitemiterator","odict_iterator","itertools.zip_longest","itertools.pairwise"].contains n=false)(hQ:Q () s):wpAny M A (letOwnedTupleGo tg (.ref it) u) Q E s:=by
 unfold letOwnedTupleGo;cases tg<;>first
  |exact wpAny_pure hQ
  |(cases u<;>first
   |exact wpAny_pure hQ
   |(refine wpAny_bind (wpAny_load ho ?_);rw[hc,hd];show wpAny M A (if(["enumerate","zip","dict_itemiterator","dict_reverseitemiterator","odict_iterator","itertools.zip_longest","itertools.pairwise"].contains n&&vs[0]?==some (rawInt _))=true then _ else _) Q E s;rw[if_neg (by intro h;rw[hn,Bool.false_and] at h;cases h)];exact wpAny_pure hQ))
def XS(K:PySem.W.Frag)(a:Addr):It:=
 ⟨λi H=>∃xs x,Ha K H a xs/\xs[i]?=some x,λi H x H'=>H'=H/\∀xs,Ha K H a xs->xs[i]?=some x,λi H=>∃xs,Ha K H a xs/\xs.length<=i⟩
def pY(K:PySem.W.Frag)(a:Addr):It:=
 ⟨λi H=>∃xs x,mh K H a xs/\xs[i]?=some x,λi H x H'=>H'=H/\∀xs,mh K H a xs->xs[i]?=some x,λi H=>∃xs,mh K H a xs/\xs.length<=i⟩
def lX(lo:Int)(n:Nat):It:=⟨λi _=>i<n,λi H x H'=>H'=H/\x=.int (lo+i),λi _=>n<=i⟩
theorem KP{P:Program}{w:World}{K:PySem.W.Frag}{tg:Expr}(a it:Addr):Turn P w K tg (XS K a) [it] it (λi h=>h.IsListIter it a i) where
 mem:=by simp
 obj:=λi h st b hb=>by
  have e:b=it:=by simpa using hb
  subst e;obtain⟨o,e,c,d⟩:=st;exact⟨o,e,λv z=>by rw[d] at z;cases z⟩
 keep:=λi h h' st k=>st.at λo e=>k it (by simp) o e
 item:=by
  intro X hP hw hK hc i pins s σ H E I hf st hg;subst hP hw hK;obtain⟨xs,x,hq,hx⟩:=hg;obtain⟨its,rv,p,hz⟩:=I.list hq;obtain⟨u,hu,ru⟩:=rv.get hx;obtain⟨f0,f1,f2,f3,f4,f5⟩:=hf it (by simp);refine wpAny_pyNext_list_item st p.isList (x:=u) (by simpa using hu) λh' st' sb=>?_;have I1:Inv X pins σ H {s with heap:=h'}:=I.turned (t':=s.toks) (λb o hb e=>(sb.2 b hb).trans e) f0 f1 f3 f4 f5;obtain⟨o,e,c,d⟩:=id st';exact⟨u,rfl,My (s:={s with heap:=h'}) e c d (by decide) ⟨x,H,I1,ru,⟨rfl,λys hy=>by rw[I.js hy hq];exact hx⟩,st',λb hb=>(hf b hb).1⟩⟩
 done:=by
  intro X hP hw hK hc i pins s σ H E I hf st hg;subst hP hw hK;obtain⟨xs,hq,hx⟩:=hg;obtain⟨its,rv,p,hz⟩:=I.list hq;obtain⟨f0,f1,f2,f3,f4,f5⟩:=hf it (by simp);have hl:=rv.length;exact wpAny_pyNext_list_end (I.ok.hd hc) st p.isList (by simp;lia) λh' eb=>⟨rfl,I.turned (t':=s.toks) (λb o hb e=>eb b o hb e) f0 f1 f3 f4 f5⟩
 self:=λ_ _ _ _ _ st h=>wpAny_pyIter_listiter st h
theorem mM{P:Program}{w:World}{K:PySem.W.Frag}{tg:Expr}(a it:Addr):Turn P w K tg (pY K a) [it] it (λi h=>h.IsTupleIter it a i) where
 mem:=by simp
 obj:=λi h st b hb=>by
  have e:b=it:=by simpa using hb
  subst e;obtain⟨o,e,c,d⟩:=st;exact⟨o,e,λv z=>by rw[d] at z;cases z⟩
 keep:=λi h h' st k=>st.at λo e=>k it (by simp) o e
 item:=by
  intro X hP hw hK hc i pins s σ H E I hf st hg;subst hP hw hK;obtain⟨xs,x,hq,hx⟩:=hg;obtain⟨its,rv,p,hz⟩:=I.tuple hq;obtain⟨u,hu,ru⟩:=rv.get hx;obtain⟨f0,f1,f2,f3,f4,f5⟩:=hf it (by simp);refine wpAny_pyNext_tuple_item st (show s.heap.IsTuple a its.toArray from p) (x:=u) (by simpa using hu) λh' st' sb=>?_;have I1:Inv X pins σ H {s with heap:=h'}:=I.turned (t':=s.toks) (λb o hb e=>(sb.2 b hb).trans e) f0 f1 f3 f4 f5;obtain⟨o,e,c,d⟩:=id st';exact⟨u,rfl,My (s:={s with heap:=h'}) e c d (by decide) ⟨x,H,I1,ru,⟨rfl,λys hy=>by rw[I.HP hy hq];exact hx⟩,st',λb hb=>(hf b hb).1⟩⟩
 done:=by
  intro X hP hw hK hc i pins s σ H E I hf st hg;subst hP hw hK;obtain⟨xs,hq,hx⟩:=hg;obtain⟨its,rv,p,hz⟩:=I.tuple hq;obtain⟨f0,f1,f2,f3,f4,f5⟩:=hf it (by simp);have hl:=rv.length;exact wpAny_pyNext_tuple_end (I.ok.hd hc) st (show s.heap.IsTuple a its.toArray from p) (by simp;lia) λh' eb=>⟨rfl,I.turned (t':=s.toks) (λb o hb e=>eb b o hb e) f0 f1 f3 f4 f5⟩
 self:=λ_ _ _ _ _ st h=>wpAny_pyIter_tupleiter st h
theorem lM{P:Program}{w:World}{K:PySem.W.Frag}{tg:Expr}(it:Addr)(lo:Int)(n:Nat):Turn P w K tg (lX lo n) [it] it (λi h=>IsRangeIter h it (lo+(i:Nat)*1) ((n:Int)-(i:Nat)) 1) where
 mem:=by simp
 obj:=λi h st b hb=>by
  have e:b=it:=by simpa using hb
  subst e;exact⟨_,st,λv z=>by
   have z':Data.fields _=Data.cell v:=z;cases z'⟩
 keep:=λi h h' st k=>k it (by simp) _ st
 item:=by
  intro X hP hw hK hc i pins s σ H E I hf st hg;subst hP hw hK;obtain⟨f0,f1,f2,f3,f4,f5⟩:=hf it (by simp);have W:=Walks.range (prog:=X.prog) (w:=X.w) (I.ok.hd hc) it lo 1 n;refine W.item i s _ _ hg st λv h' tk hv st' kk=>?_;obtain⟨t,rfl⟩:=hv;have I1:Inv X pins σ H {s with heap:=h',toks:=tk}:=I.turned (λb o hb e=>kk b o (by simpa using hb) e) f0 f1 f3 f4 f5;refine⟨_,rfl,My (s:={s with heap:=h',toks:=tk}) (n:="range_iterator") st' rfl rfl (by decide) ⟨.int (lo+i),H,I1,⟨t,?_⟩,⟨rfl,rfl⟩,st',λb hb=>(hf b hb).1⟩⟩;rw[Int.mul_one]
 done:=by
  intro X hP hw hK hc i pins s σ H E I hf st hg;subst hP hw hK;obtain⟨f0,f1,f2,f3,f4,f5⟩:=hf it (by simp);exact wpAny_pyNext_range_end (I.ok.hd hc) st (by have:n<=i:=hg;lia) λh' eb=>⟨rfl,I.turned (t':=s.toks) (λb o hb e=>eb b o hb e) f0 f1 f3 f4 f5⟩
 self:=λ_ _ _ _ _ st h=>wpAny_pyIter_rangeiter st h
end L2
namespace L2
open PySem PySem.Spec PyProof.Rows
section
variable{X:Cx}{tg:Expr}
def dR(K:PySem.W.Frag)(tl:TE):TI:=λσ H R=>tl σ H λx H1=>∃a,x=.ref a/\(∃xs,Ha K H1 a xs)/\R (XS K a) H1
def MV(K:PySem.W.Frag)(tl:TE):TI:=λσ H R=>tl σ H λx H1=>∃a,x=.ref a/\(∃xs,mh K H1 a xs)/\R (pY K a) H1
theorem dU{l:Expr}{tl:TE}(hl:PE X l tl):PI X tg l (dR X.K tl):=by
 intro pins s σ H R I h;refine yc (hl pins s σ H _ I h) λv s1⟨x,H1,I1,r1,q1⟩=>?_;obtain⟨a,e,⟨xs,hq⟩,q⟩:=q1;subst e;cases r1;obtain⟨its,rv,p,hz⟩:=I1.list hq;refine wpAny_pyIter_list p.isList ?_;refine⟨s1.heap.objs.size,[s1.heap.objs.size],_,_,H1,rfl,I1.kept (t':=s1.toks) λb o e=>Heap.get?_push_of_some _ e,KP a _,⟨_,Heap.get?_push_size _ rfl,rfl,rfl⟩,λb hb=>?_,q⟩;have e:b=s1.heap.objs.size:=by simpa using hb
 subst e;exact I1.KJ (Nat.le_refl _) (I1.Kb.fresh (Nat.le_refl _))
theorem sW{l:Expr}{tl:TE}(hl:PE X l tl):PI X tg l (MV X.K tl):=by
 intro pins s σ H R I h;refine yc (hl pins s σ H _ I h) λv s1⟨x,H1,I1,r1,q1⟩=>?_;obtain⟨a,e,⟨xs,hq⟩,q⟩:=q1;subst e;cases r1;obtain⟨its,rv,p,hz⟩:=I1.tuple hq;refine wpAny_pyIter_tuple (show s1.heap.IsTuple a its.toArray from p) ?_;refine⟨s1.heap.objs.size,[s1.heap.objs.size],_,_,H1,rfl,I1.kept (t':=s1.toks) λb o e=>Heap.get?_push_of_some _ e,mM a _,⟨_,Heap.get?_push_size _ rfl,rfl,rfl⟩,λb hb=>?_,q⟩;have e:b=s1.heap.objs.size:=by simpa using hb
 subst e;exact I1.KJ (Nat.le_refl _) (I1.Kb.fresh (Nat.le_refl _))
theorem iI{pins:List (Addr×Obj)}{σ:St}{H:Hp}{s:Shared}{R:It->Hp->Prop}{E:Value->Shared->Prop}{lo hi:Int}{t u v:Tok}{tk:Nat}(I:Inv X pins σ H s)(h1:-(2^62)<=lo)(h2:lo<2^62)(h3:-(2^62)<=hi)(h4:hi<2^62)(q:R (lX lo (hi-lo).toNat) H):wpAny (model X.prog X.w) X.A (pyIter (.ref s.heap.objs.size)) (LY X pins σ tg R) E {s with heap:=s.heap.push {cls:=.type "range",data:=.fields #[.int lo t,.int hi u,.int 1 v]},toks:=tk}:=by
 refine wpAny_pyIter_range (IsRange.new ..) (small_one h1 h2 h3 h4) ?_;have I1:Inv X pins σ H {s with heap:=s.heap.push {cls:=.type "range",data:=.fields #[.int lo t,.int hi u,.int 1 v]},toks:=tk}:=I.kept λb o e=>Heap.get?_push_of_some _ e;refine⟨(s.heap.push {cls:=.type "range",data:=.fields #[.int lo t,.int hi u,.int 1 v]}).objs.size,[(s.heap.push {cls:=.type "range",data:=.fields #[.int lo t,.int hi u,.int 1 v]}).objs.size],_,_,H,rfl,
  I1.kept (t':=tk) λb o e=>Heap.get?_push_of_some _ e,lM _ lo (hi-lo).toNat,?_,λb hb=>?_,q⟩
 ·have e1:lo+((0:Nat):Int)*1=lo:=by simp
  have e2:(((hi-lo).toNat:Nat):Int)-((0:Nat):Int)=Builtin.Range.rangeSize lo hi 1:=by rw[rangeSize_one];split<;>lia
  show IsRangeIter _ _ (lo+((0:Nat):Int)*1) ((((hi-lo).toNat:Nat):Int)-((0:Nat):Int)) 1;rw[e1,e2];exact Heap.get?_push_size _ rfl
 ·have e:b=(s.heap.push {cls:=.type "range",data:=.fields #[.int lo t,.int hi u,.int 1 v]}).objs.size:=by simpa using hb
  subst e;exact I1.KJ (Nat.le_refl _) (I1.Kb.fresh (Nat.le_refl _))
def eR(ta:TA):TI:=λσ H R=>ta σ H λvs H1=>∃j:Int,vs=[.int j]/\-(2^62)<=j/\j<2^62/\R (lX 0 j.toNat) H1
def fR(ta:TA):TI:=λσ H R=>ta σ H λvs H1=>∃i j:Int,vs=[.int i,.int j]/\(-(2^62)<=i/\i<2^62/\-(2^62)<=j/\j<2^62)/\R (lX i (j-i).toNat) H1
theorem pD{a:Expr}{ta:TA}{p pos:Pos}(hg:Gl X "range")(hm:X.mg "range"=none)(ha:PA X [a] ta)(hs:starEach [a] X.env=[(false,eval a X.env)]:=by rfl):PI X tg (.Call (.Name "range" p) [a] [] pos) (eR ta):=by
 intro pins s σ H R I h;refine Call_ (Jk I hg hm boot_range (PyProof.Rows.callWith_type1 (yc (ha pos pins s σ H _ I h) λus s1⟨vs,H1,I1,r1,q1⟩=>?_) hs rfl));obtain⟨j,e,q1,q2,q⟩:=q1;subst e;cases r1 with
 |cons r rr=>
  cases rr;obtain⟨t,rfl⟩:=r;exact call_range_1 (iI I1 (by lia) (by lia) q1 q2 (by simpa using q))
theorem qD{a b:Expr}{ta:TA}{p pos:Pos}(hg:Gl X "range")(hm:X.mg "range"=none)(ha:PA X [a,b] ta)(hs:starEach [a,b] X.env=[(false,eval a X.env),(false,eval b X.env)]:=by rfl)(hs2:starEach [b] X.env=[(false,eval b X.env)]:=by rfl):PI X tg (.Call (.Name "range" p) [a,b] [] pos) (fR ta):=by
 intro pins s σ H R I h;refine Call_ (Jk I hg hm boot_range (PyProof.Rows.callWith_type1 (yc (ha pos pins s σ H _ I h) λus s1⟨vs,H1,I1,r1,q1⟩=>?_) (by rw[hs,hs2]) (by rw[hs2];rfl)));obtain⟨i,j,e,⟨q1,q2,q3,q4⟩,q⟩:=q1;subst e;cases r1 with
 |cons r rr=>
  cases rr with
  |cons r' rr=>
   cases rr;obtain⟨t,rfl⟩:=r;obtain⟨t',rfl⟩:=r';exact call_range_2 (iI I1 q1 q2 q3 q4 q)
def ZX(wi:TI)(g:TG)(tb:TS):TS:=λD σ H=>wi σ H λJ H1=>∃W:Nat->Nat->St->Hp->Prop,(∃m,W 0 m σ H1)/\∀i m σ H,W i m σ H->
 (J.stop i H/\D.nx σ H)\/(J.go i H/\∃N:St->Hp->Prop,(∀σ' H',N σ' H'->∃m',m'<m/\W (i+1) m' σ' H')/\∀x H',J.rM i H x H'->g x σ H' λσ2 H2=>tb {D with nx:=N,ct:=N,bk:=D.nx} σ2 H2)
def Oz(fp:List Addr)(h:Heap):List (Addr×Obj):=fp.filterMap λb=>(h.get? b).map λo=>(b,o)
theorem Hq{fp:List Addr}{h:Heap}{b:Addr}{o:Obj}(hb:b∈fp)(e:h.get? b=some o):(b,o)∈Oz fp h:=List.mem_filterMap.mpr ⟨b,hb,by rw[e];rfl⟩
theorem EO{fp:List Addr}{h:Heap}{p:Addr×Obj}(hp:p∈Oz fp h):p.1∈fp/\h.get? p.1=some p.2:=by
 obtain⟨b,hb,e⟩:=List.mem_filterMap.mp hp;cases q:h.get? b with
 |none=>rw[q] at e;cases e
 |some o=>
  rw[q] at e;have e':(b,o)=p:=Option.some.inj e;subst e';exact⟨hb,q⟩
theorem Inv.pinned{pins:List (Addr×Obj)}{σ:St}{H:Hp}{s:Shared}{fp:List Addr}(I:Inv X pins σ H s)(hf:∀b∈fp,gw X pins H b)(ho:∀b∈fp,∃o,s.heap.get? b=some o/\∀v,o.data≠.cell v):Inv X (pins++Oz fp s.heap) σ H s:=
 I.gN λp hp=>(List.mem_append.mp hp).elim (λz=>I.pin p (List.mem_append_right _ z)) λz=>by
  obtain⟨hb,e⟩:=EO z;obtain⟨f0,f1,f2,_⟩:=hf p.1 hb;obtain⟨o,e',d⟩:=ho p.1 hb;rw[e] at e';cases e';exact⟨e,f0,f1,f2,d⟩
theorem Inv.Zs{pins pl:List (Addr×Obj)}{σ:St}{H:Hp}{s:Shared}(I:Inv X (pins++pl) σ H s):Inv X pins σ H s:=I.gN λp hp=>I.pin p (List.mem_append_right _ (List.mem_append_left _ hp))
theorem Ag{iter:Expr}{body:List Stmt}{wi:TI}{g:TG}{tb:TS}{pos:Pos}(hp:PassesOwn (model X.prog X.w) X.A X.env X.xe)(hc:X.calm=true)(hi:PI X tg iter wi)(hg:PG X tg g)(hb:vJ X body tb)(hs:∀x,foldedSetIterable iter X.env x=pure x:=by intro _;rfl):PS X (.For tg iter body [] pos) (ZX wi g tb):=by
 intro pins s σ H D I h;refine wpAny_For (yc (hi pins s σ H _ I h) λv s1 h1=>yc h1 λitv s2 h2=>?_) hs;obtain⟨it,fp,tn,J,H2,e,I2,T,st2,f2,W,⟨m0,w0⟩,turn⟩:=h2;subst e;have stat:∀{H':Hp},(∀b∈fp,H' b=none)->∀b∈fp,gw X pins H' b:=λhn b hb=>⟨hn b hb,(f2 b hb).2⟩;refine codeAny_forLoop_any (λn s'=>∃i σ' H',Inv X pins σ' H' s'/\tn i s'.heap/\(∀b∈fp,H' b=none)/\W i n σ' H') ?_ m0 ⟨0,σ,H2,I2,st2,λb hb=>(f2 b hb).1,w0⟩;rintro n s3 ⟨i,σ3,H3,I3,st3,fr3,w3⟩;rcases turn i n σ3 H3 w3 with⟨stop,qn⟩|⟨go,N,hN,step⟩
 ·refine wpAny_passesOwn hp (yc (T.done X rfl rfl rfl hc i pins s3 σ3 H3 X.xe I3 (stat fr3) st3 stop) λr s4⟨hr,I4⟩=>?_);subst hr;exact wpAny_execs_nil ⟨σ3,H3,I4,qn⟩
 ·refine wpAny_passesOwn hp (yc (T.item X rfl rfl rfl hc i pins s3 σ3 H3 X.xe I3 (stat fr3) st3 go) λr s4⟨u,hr,h4⟩=>?_);subst hr;refine wpAny_passesOwn hp (yc h4 λ_ s5⟨x,H5,I5,r5,y5,st5,fr5⟩=>?_);have I5':=I5.pinned (stat fr5) (T.obj _ _ st5);refine wpAny_passesOwn hp (yc (hg _ s5 σ3 H5 x u _ I5' r5 (step x H5 y5)) λ_ s6⟨σ6,H6,I6,q6⟩=>?_);refine wpAny_passesOwn hp (yc (hb _ s6 σ6 H6 _ I6 q6) λf s7 q7=>?_);have again:∀{σ7:St}{H7:Hp},Inv X (pins++Oz fp s5.heap) σ7 H7 s7->N σ7 H7->∃m,m<n/\∃i σ' H',Inv X pins σ' H' s7/\tn i s7.heap/\(∀b∈fp,H' b=none)/\W i m σ' H':=λ{σ7 H7} I7 n7=>by
   obtain⟨m',hm,w7⟩:=hN σ7 H7 n7;refine⟨m',hm,i+1,σ7,H7,I7.Zs,T.keep _ _ _ st5 λb hb o e=>(I7.pin (b,o) (List.mem_append_right _ (List.mem_append_right _ (Hq hb e)))).1,λb hb=>?_,w7⟩;obtain⟨o,e,d⟩:=T.obj _ _ st5 b hb;exact(I7.pin (b,o) (List.mem_append_right _ (List.mem_append_right _ (Hq hb e)))).2.1
  cases f with
  |next=>obtain⟨σ7,H7,I7,n7⟩:=q7;exact again I7 n7
  |cont=>obtain⟨σ7,H7,I7,n7⟩:=q7;exact again I7 n7
  |brk=>obtain⟨σ7,H7,I7,q7⟩:=q7;exact⟨σ7,H7,I7.Zs,q7⟩
  |ret v=>obtain⟨x7,σ7,H7,I7,r7,q7⟩:=q7;exact⟨x7,σ7,H7,I7.Zs,r7,q7⟩
end
theorem LQ{K:PySem.W.Frag}{a:Addr}{xs:List V}{g:TG}{tb:TS}{D:Ends}{σ:St}{H:Hp}(Pv:Nat->St->Hp->Prop)(h0:Pv 0 σ H)(hl:∀i σ H,i<=xs.length->Pv i σ H->Ha K H a xs)(hs:∀i x σ H,xs[i]?=some x->Pv i σ H->g x σ H λσ2 H2=>tb {D with nx:=Pv (i+1),ct:=Pv (i+1),bk:=D.nx} σ2 H2)(hd:∀σ H,Pv xs.length σ H->D.nx σ H):∃W:Nat->Nat->St->Hp->Prop,(∃m,W 0 m σ H)/\∀i m σ H,W i m σ H->((XS K a).stop i H/\D.nx σ H)\/((XS K a).go i H/\∃N:St->Hp->Prop,(∀σ' H',N σ' H'->∃m',m'<m/\W (i+1) m' σ' H')/\∀x H',(XS K a).rM i H x H'->g x σ H' λσ2 H2=>tb {D with nx:=N,ct:=N,bk:=D.nx} σ2 H2):=by
 refine⟨λi m σ H=>m=xs.length-i/\i<=xs.length/\Pv i σ H,⟨xs.length,by simp,Nat.zero_le _,h0⟩,?_⟩;rintro i m σ H ⟨rfl,hi,p⟩;have q:=hl i σ H hi p;by_cases hlt:i<xs.length
 ·refine .inr ⟨⟨xs,xs[i],q,by simp[hlt]⟩,Pv (i+1),λσ' H' p'=>⟨xs.length-(i+1),by lia,rfl,hlt,p'⟩,λx H' y=>?_⟩;obtain⟨e,y⟩:=y;subst e;exact hs i x σ _ (y xs q) p
 ·have e:i=xs.length:=by lia
  subst e;exact .inl ⟨⟨xs,q,Nat.le_refl _⟩,hd σ H p⟩
end L2
namespace L2
open PySem PySem.Spec PyProof.Rows
abbrev R2:=V->V->Hp->VK->Prop
def gp(X:Cx)(f:Value->Value->Sem Value)(r:R2):Prop:=
 ∀(pins:List (Addr×Obj))(s:Shared)(σ:St)(H:Hp)(x y:V)(v u:Value)(Q:VK),Inv X pins σ H s->RelV x v->RelV y u->r x y H Q->
  wpAny (model X.prog X.w) X.A (f v u) (EP X pins σ Q) X.xe s
def OY(X:Cx)(f:Value->Sem Value)(r:V->Hp->VK->Prop):Prop:=
 ∀(pins:List (Addr×Obj))(s:Shared)(σ:St)(H:Hp)(x:V)(v:Value)(Q:VK),Inv X pins σ H s->RelV x v->r x H Q->
  wpAny (model X.prog X.w) X.A (f v) (EP X pins σ Q) X.xe s
def ye(X:Cx)(f:Value)(r:List V->Hp->VK->Prop):Prop:=
 ∀(pins:List (Addr×Obj))(s:Shared)(σ:St)(H:Hp)(xs:List V)(us:List Value)(Q:VK),Inv X pins σ H s->Vals xs us->r xs H Q->
  wpAny (model X.prog X.w) X.A (call f us) (EP X pins σ Q) X.xe s
def NY(X:Cx)(r:V->Hp->(Bool->Hp->Prop)->Prop):Prop:=
 ∀(pins:List (Addr×Obj))(s:Shared)(σ:St)(H:Hp)(x:V)(v:Value)(Q:Bool->Hp->Prop),Inv X pins σ H s->RelV x v->r x H Q->
  wpAny (model X.prog X.w) X.A (truthy v) (TP X pins σ Q) X.xe s
def CP(r:R2)(ta tb:TE):TE:=λσ H Q=>ta σ H λx H1=>tb σ H1 λy H2=>r x y H2 Q
def AZ(r:V->Hp->VK->Prop)(ta:TE):TE:=λσ H Q=>ta σ H λx H1=>r x H1 Q
def rI(C:Int->Int->Prop)(g:Int->Int->V):R2:=λx y H Q=>∃i j,x=.int i/\y=.int j/\C i j/\Q (g i j) H
def Wi(g:Int->Int->V):R2:=λx y H Q=>∃i j,x=.int i/\y=.int j/\Q (g i j) H
def rU(g:Int->V):V->Hp->VK->Prop:=λx H Q=>∃i,x=.int i/\Q (g i) H
section
variable{X:Cx}{a b c:Expr}{ta tb tc:TE}{pos:Pos}
theorem lV(ha:PE X a ta)(hb:PE X b tb){pins:List (Addr×Obj)}{s:Shared}{σ:St}{H:Hp}{R:V->V->Hp->Prop}(I:Inv X pins σ H s)(h:ta σ H λx H1=>tb σ H1 λy H2=>R x y H2){Q:Value->Shared->Prop}{f:Value->Value->Sem Value}(hf:∀v u s2 x y H2,Inv X pins σ H2 s2->RelV x v->RelV y u->R x y H2->wpAny (model X.prog X.w) X.A (f v u) Q X.xe s2):wpAny (model X.prog X.w) X.A (eval a X.env) (λv s₁=>wpAny (model X.prog X.w) X.A (eval b X.env) (λu s₂=>wpAny (model X.prog X.w) X.A (f v u) Q X.xe s₂) X.xe s₁) X.xe s:=by
 refine yc (ha pins s σ H _ I h) λv s1⟨x,H1,I1,r1,q1⟩=>?_;refine yc (hb pins s1 σ H1 _ I1 q1) λu s2⟨y,H2,I2,r2,q2⟩=>?_;exact hf v u s2 x y H2 I2 r1 r2 q2
theorem Sb{op:Operator}{r:R2}(ho:gp X (binaryOp op) r)(ha:PE X a ta)(hb:PE X b tb):PE X (.BinOp a op b pos) (CP r ta tb):=by
 intro pins s σ H Q I h;exact wpAny_BinOp (lV ha hb I h λv u s2 x y H2 I2 rx ry q=>ho pins s2 σ H2 x y v u Q I2 rx ry q)
theorem eN{op:UnaryOp}{r:V->Hp->VK->Prop}(ho:OY X (unaryOp op) r)(ha:PE X a ta):PE X (.UnaryOp op a pos) (AZ r ta):=by
 intro pins s σ H Q I h;exact UnaryOp_ (yc (ha pins s σ H _ I h) λv s1⟨x,H1,I1,r1,q1⟩=>ho pins s1 σ H1 x v Q I1 r1 q1)
theorem wZ{f:Value->Value->Sem Value}{C:Int->Int->Prop}{g:Int->Int->Int}(rule:∀(i j:Int)(t u:Tok)(s:Shared)(Q:Value->Shared->Prop)(E:Value->Shared->Prop),C i j->Q (.int (g i j) s.toks) {s with toks:=s.toks+1}->wpAny (model X.prog X.w) X.A (f (.int i t) (.int j u)) Q E s):gp X f (rI C λi j=>.int (g i j)):=by
 intro pins s σ H x y v u Q I rx ry h;obtain⟨i,j,rfl,rfl,hc,q⟩:=h;obtain⟨t,rfl⟩:=rx;obtain⟨t',rfl⟩:=ry;exact rule i j t t' s _ _ hc ⟨.int (g i j),H,I.tok _,⟨_,rfl⟩,q⟩
theorem PX{f:Value->Value->Sem Value}{g:Int->Int->Int}(rule:∀(i j:Int)(t u:Tok)(s:Shared)(Q:Value->Shared->Prop)(E:Value->Shared->Prop),Q (.int (g i j) s.toks) {s with toks:=s.toks+1}->wpAny (model X.prog X.w) X.A (f (.int i t) (.int j u)) Q E s):gp X f (Wi λi j=>.int (g i j)):=by
 intro pins s σ H x y v u Q I rx ry h;obtain⟨i,j,rfl,rfl,q⟩:=h;obtain⟨t,rfl⟩:=rx;obtain⟨t',rfl⟩:=ry;exact rule i j t t' s _ _ ⟨.int (g i j),H,I.tok _,⟨_,rfl⟩,q⟩
theorem XT{f:Value->Value->Sem Value}{g:Int->Int->Bool}(rule:∀(i j:Int)(t u:Tok)(s:Shared)(Q:Value->Shared->Prop)(E:Value->Shared->Prop),Q (.bool (g i j)) s->wpAny (model X.prog X.w) X.A (f (.int i t) (.int j u)) Q E s):gp X f (Wi λi j=>.bl (g i j)):=by
 intro pins s σ H x y v u Q I rx ry h;obtain⟨i,j,rfl,rfl,q⟩:=h;obtain⟨t,rfl⟩:=rx;obtain⟨t',rfl⟩:=ry;exact rule i j t t' s _ _ ⟨.bl (g i j),H,I,rfl,q⟩
def CY(i j:Int):Prop:=0<j/\j<1073741824
def XU(i j:Int):Prop:=(-(2^64)<i/\i<2^64)\/(-(2^64)<j/\j<2^64)
theorem XU.ok{i j:Int}(h:XU i j):IntMulOk i j:=by
 rcases h with⟨h1,h2⟩|⟨h1,h2⟩
 ·exact .of_left (intBits_le_64 h1 h2)
 ·exact .of_right (intBits_le_64 h1 h2)
theorem yg:gp X (binaryOp .Add) (Wi λi j=>.int (i+j)):=PX λ_ _ _ _ _ _ _ q=>add_int q
theorem Sk:gp X (binaryOp .Sub) (Wi λi j=>.int (i-j)):=PX λ_ _ _ _ _ _ _ q=>sub_int q
theorem KR:gp X (binaryOp .Mult) (rI XU λi j=>.int (i*j)):=wZ λ_ _ _ _ _ _ _ hc q=>mul_int q hc.ok
theorem bN:gp X (binaryOp .FloorDiv) (rI CY λi j=>.int (i/j)):=wZ λi j _ _ _ _ _ hc q=>by
 have h1:(0:Int)<j:=hc.1;have h2:j<1073741824:=hc.2;exact floordiv_int (by lia) (by rw[Int.fdiv_eq_ediv_of_nonneg i (by lia)];exact q) (.inl (PyProof.noPylong_small (by lia)))
theorem MZ{f:Value->Sem Value}{g:Int->Int}(rule:∀(i:Int)(t:Tok)(s:Shared)(Q:Value->Shared->Prop)(E:Value->Shared->Prop),Q (.int (g i) s.toks) {s with toks:=s.toks+1}->wpAny (model X.prog X.w) X.A (f (.int i t)) Q E s):OY X f (rU λi=>.int (g i)):=by
 intro pins s σ H x v Q I rx h;obtain⟨i,rfl,q⟩:=h;obtain⟨t,rfl⟩:=rx;exact rule i t s _ _ ⟨.int (g i),H,I.tok _,⟨_,rfl⟩,q⟩
theorem mG:OY X (unaryOp .USub) (rU λi=>.int (-i)):=MZ λ_ _ _ _ _ q=>neg_int q
end
def qS:V->V->Bool
 |.Vb,.Vb=>true|.Vb,.int _=>true|.int _,.Vb=>true|.Vb,.bl _=>true|.bl _,.Vb=>true|.Vb,.str _=>true|.str _,.Vb=>true
 |.int _,.int _=>true|.bl _,.bl _=>true|.str _,.str _=>true|.bE _,.bE _=>true
 |.int _,.str _=>true|.str _,.int _=>true|.bl _,.str _=>true|.str _,.bl _=>true
 |_,_=>false
def Vj:R2:=λx y H Q=>qS x y=true/\Q (.bl (decide (x=y))) H
def Yk:R2:=λx y H Q=>qS x y=true/\Q (.bl (!decide (x=y))) H
theorem AM{i j:Int}:decide (V.int i=V.int j)=(i==j):=by
 rw[Bool.eq_iff_iff];simp
theorem tQ{i j:Bool}:decide (V.bl i=V.bl j)=(i==j):=by
 rw[Bool.eq_iff_iff];simp
theorem BM{i j:Str}:decide (V.str i=V.str j)=(i==j):=by
 rw[Bool.eq_iff_iff];simp
theorem zM{i j:Array UInt8}:decide (V.bE i=V.bE j)=(i.toList==j.toList):=by
 rw[Bool.eq_iff_iff];cases i;cases j;simp
section
variable{X:Cx}{a b c:Expr}{ta tb tc:TE}{pos:Pos}
theorem Tb{pins:List (Addr×Obj)}{σ:St}{H:Hp}{s:Shared}{Q:VK}{k k':Bool}(I:Inv X pins σ H s)(q:Q (.bl k) H)(e:k=k'):EP X pins σ Q (.bool k') s:=by
 subst e;exact⟨.bl k,H,I,rfl,q⟩
theorem Rb:gp X (compareOp .Eq) Vj:=by
 intro pins s σ H x y v u Q I rx ry h;obtain⟨hs,q⟩:=h;cases x with
 |Vb=>
  cases rx;cases y with
  |Vb=>cases ry;exact PySem.EqNone.eq_none_none (Tb I q (by simp))
  |bl j=>cases ry;exact PySem.EqNone.eq_none_bool (Tb I q (by simp))
  |int j=>obtain⟨t',rfl⟩:=ry;exact PySem.EqNone.eq_none_int (Tb I q (by simp))
  |str j=>obtain⟨t',rfl⟩:=ry;exact PySem.EqNone.eq_none_str (Tb I q (by simp))
  |_=>exact absurd (show false=true from hs) Bool.false_ne_true
 |bl i=>
  cases rx;cases y with
  |Vb=>cases ry;exact PySem.EqNone.eq_bool_none (Tb I q (by simp))
  |bl j=>cases ry;exact eq_bool (Tb I q tQ)
  |str j=>obtain⟨t',rfl⟩:=ry;exact PySem.EqMixed.eq_bool_str (Tb I q (by simp))
  |_=>exact absurd (show false=true from hs) Bool.false_ne_true
 |int i=>
  obtain⟨t,rfl⟩:=rx;cases y with
  |Vb=>cases ry;exact PySem.EqNone.eq_int_none (Tb I q (by simp))
  |int j=>obtain⟨t',rfl⟩:=ry;exact eq_int (Tb I q AM)
  |str j=>obtain⟨t',rfl⟩:=ry;exact PySem.EqMixed.eq_int_str (Tb I q (by simp))
  |_=>exact absurd (show false=true from hs) Bool.false_ne_true
 |str i=>
  obtain⟨t,rfl⟩:=rx;cases y with
  |Vb=>cases ry;exact PySem.EqNone.eq_str_none (Tb I q (by simp))
  |bl j=>cases ry;exact PySem.EqMixed.eq_str_bool (Tb I q (by simp))
  |int j=>obtain⟨t',rfl⟩:=ry;exact PySem.EqMixed.eq_str_int (Tb I q (by simp))
  |str j=>obtain⟨t',rfl⟩:=ry;exact eq_str (Tb I q BM)
  |_=>exact absurd (show false=true from hs) Bool.false_ne_true
 |bE i=>
  obtain⟨t,rfl⟩:=rx;cases y with
  |bE j=>obtain⟨t',rfl⟩:=ry;exact PySem.W.eq_bytes (Tb I q zM)
  |_=>exact absurd (show false=true from hs) Bool.false_ne_true
 |_=>cases y<;>exact absurd (show false=true from hs) Bool.false_ne_true
theorem Ks:gp X (compareOp .NotEq) Yk:=by
 intro pins s σ H x y v u Q I rx ry h;obtain⟨hs,q⟩:=h;cases x with
 |Vb=>
  cases rx;cases y with
  |Vb=>cases ry;exact PySem.EqNone.ne_none_none (Tb I q (by simp))
  |bl j=>cases ry;exact PySem.EqNone.ne_none_bool (Tb I q (by simp))
  |int j=>obtain⟨t',rfl⟩:=ry;exact PySem.EqNone.ne_none_int (Tb I q (by simp))
  |str j=>obtain⟨t',rfl⟩:=ry;exact PySem.EqNone.ne_none_str (Tb I q (by simp))
  |_=>exact absurd (show false=true from hs) Bool.false_ne_true
 |bl i=>
  cases rx;cases y with
  |Vb=>cases ry;exact PySem.EqNone.ne_bool_none (Tb I q (by simp))
  |bl j=>cases ry;exact ne_bool (Tb I q (congrArg not tQ))
  |str j=>obtain⟨t',rfl⟩:=ry;exact PySem.EqMixed.ne_bool_str (Tb I q (by simp))
  |_=>exact absurd (show false=true from hs) Bool.false_ne_true
 |int i=>
  obtain⟨t,rfl⟩:=rx;cases y with
  |Vb=>cases ry;exact PySem.EqNone.ne_int_none (Tb I q (by simp))
  |int j=>obtain⟨t',rfl⟩:=ry;exact ne_int (Tb I q (congrArg not AM))
  |str j=>obtain⟨t',rfl⟩:=ry;exact PySem.EqMixed.ne_int_str (Tb I q (by simp))
  |_=>exact absurd (show false=true from hs) Bool.false_ne_true
 |str i=>
  obtain⟨t,rfl⟩:=rx;cases y with
  |Vb=>cases ry;exact PySem.EqNone.ne_str_none (Tb I q (by simp))
  |bl j=>cases ry;exact PySem.EqMixed.ne_str_bool (Tb I q (by simp))
  |int j=>obtain⟨t',rfl⟩:=ry;exact PySem.EqMixed.ne_str_int (Tb I q (by simp))
  |str j=>obtain⟨t',rfl⟩:=ry;exact ne_str (Tb I q (congrArg not BM))
  |_=>exact absurd (show false=true from hs) Bool.false_ne_true
 |bE i=>
  obtain⟨t,rfl⟩:=rx;cases y with
  |bE j=>obtain⟨t',rfl⟩:=ry;exact PySem.W.ne_bytes (Tb I q (congrArg not zM))
  |_=>exact absurd (show false=true from hs) Bool.false_ne_true
 |_=>cases y<;>exact absurd (show false=true from hs) Bool.false_ne_true
theorem Kl:gp X (compareOp .Lt) (Wi λi j=>.bl (decide (i<j))):=XT λ_ _ _ _ _ _ _ q=>lt_int q
theorem oe:gp X (compareOp .LtE) (Wi λi j=>.bl (decide (i<=j))):=XT λ_ _ _ _ _ _ _ q=>le_int q
theorem An:gp X (compareOp .Gt) (Wi λi j=>.bl (decide (j<i))):=XT λ_ _ _ _ _ _ _ q=>gt_int q
theorem cN:gp X (compareOp .GtE) (Wi λi j=>.bl (decide (j<=i))):=XT λ_ _ _ _ _ _ _ q=>ge_int q
theorem JR:gp X (compareOp .Is) (λx y H Q=>y=.Vb/\Q (.bl (decide (x=.Vb))) H):=by
 intro pins s σ H x y v u Q I rx ry h;obtain⟨rfl,q⟩:=h;cases ry;refine is_none_gen (Tb I q ?_);cases x<;>first
  |(cases rx;rfl)
  |(obtain⟨t,rfl⟩:=rx;rfl)
theorem Vf:gp X (compareOp .IsNot) (λx y H Q=>y=.Vb/\Q (.bl (!decide (x=.Vb))) H):=by
 intro pins s σ H x y v u Q I rx ry h;obtain⟨rfl,q⟩:=h;cases ry;refine isnot_none_gen (Tb I q ?_);cases x<;>first
  |(cases rx;rfl)
  |(obtain⟨t,rfl⟩:=rx;rfl)
theorem Ea(b:Expr){op:CmpOp}(h:op≠.In:=by decide)(h2:op≠.NotIn:=by decide):behindInMarks op b=false:=by
 have e1:(op==CmpOp.In)=false:=by cases op<;>first|rfl|exact absurd rfl h
 have e2:(op==CmpOp.NotIn)=false:=by cases op<;>first|rfl|exact absurd rfl h2
 cases b<;>simp[behindInMarks,e1,e2]
theorem qe{op:CmpOp}{r:R2}(ho:gp X (compareOp op) r)(ha:PE X a ta)(hb:PE X b tb)(hm:behindInMarks op b=false):PE X (.Compare a [op] [b] pos) (CP r ta tb):=by
 intro pins s σ H Q I h;exact wpAny_Compare1 (lV ha hb I h λv u s2 x y H2 I2 rx ry q=>ho pins s2 σ H2 x y v u Q I2 rx ry q) hm
def LD(t:TE):TT:=λσ H Q=>t σ H λx H'=>∃k,x=.bl k/\Q k H'
theorem Ca{op:CmpOp}{r:R2}(ho:gp X (compareOp op) r)(ha:PE X a ta)(hb:PE X b tb)(hm:behindInMarks op b=false):PT X (.Compare a [op] [b] pos) (LD (CP r ta tb)):=by
 intro pins s σ H Q I h;refine wpAny_isTrue_Compare1 (yc (ha pins s σ H _ I h) λv s1⟨x,H1,I1,r1,q1⟩=>yc (hb pins s1 σ H1 _ I1 q1) λu s2⟨y,H2,I2,r2,q2⟩=>
  yc (ho pins s2 σ H2 x y v u _ I2 r1 r2 q2) λc s3⟨z,H3,I3,r3,k,e,q3⟩=>?_) hm
 subst e;cases r3;exact wpAny_truthy_bool ⟨H3,I3,q3⟩
def Jb(r r':R2)(ta tb tc:TE):TE:=λσ H Q=>ta σ H λx H1=>tb σ H1 λy H2=>r x y H2 λz H3=>∃k,z=.bl k/\
 (if k=true then tc σ H3 λw' H4=>r' y w' H4 Q else Q (.bl false) H3)
theorem Uj{op op':CmpOp}{r r':R2}(ho:gp X (compareOp op) r)(ho':gp X (compareOp op') r')(ha:PE X a ta)(hb:PE X b tb)(hc:PE X c tc)(hm:lastMarks [op,op'] [b,c]=false:=by with_unfolding_all rfl):PE X (.Compare a [op,op'] [b,c] pos) (Jb r r' ta tb tc):=by
 intro pins s σ H Q I h;refine Compare_chain (yc (ha pins s σ H _ I h) λv s1⟨x,H1,I1,r1,q1⟩=>chain_link (yc (hb pins s1 σ H1 _ I1 q1) λu s2⟨y,H2,I2,r2,q2⟩=>
  yc (ho pins s2 σ H2 x y v u _ I2 r1 r2 q2) λd s3⟨z,H3,I3,r3,k,e,q3⟩=>?_)) hm
 subst e;cases r3;refine wpAny_truthy_bool ?_;cases k with
 |false=>exact ite_ff ⟨.bl false,H3,I3,rfl,q3⟩
 |true=>exact ite_tt (chain_last (yc (hc pins s3 σ H3 _ I3 q3) λw' s4⟨z',H4,I4,r4,q4⟩=>ho' pins s4 σ H4 y z' u w' Q I4 r2 r4 q4))
theorem eI{op op':CmpOp}{r r':R2}(ho:gp X (compareOp op) r)(ho':gp X (compareOp op') r')(ha:PE X a ta)(hb:PE X b tb)(hc:PE X c tc)(hm:lastMarks [op,op'] [b,c]=false:=by with_unfolding_all rfl):PT X (.Compare a [op,op'] [b,c] pos) (LD (Jb r r' ta tb tc)):=by
 intro pins s σ H Q I h;refine isTrue_chain (yc (ha pins s σ H _ I h) λv s1⟨x,H1,I1,r1,q1⟩=>test_link (yc (hb pins s1 σ H1 _ I1 q1) λu s2⟨y,H2,I2,r2,q2⟩=>
  yc (ho pins s2 σ H2 x y v u _ I2 r1 r2 q2) λd s3⟨z,H3,I3,r3,k,e,q3⟩=>?_)) hm
 subst e;cases r3;refine wpAny_truthy_bool ?_;cases k with
 |false=>
  obtain⟨k',e',q'⟩:=q3;cases e';exact ite_ff ⟨H3,I3,q'⟩
 |true=>
  refine ite_tt (test_last (yc (hc pins s3 σ H3 _ I3 q3) λw' s4⟨z',H4,I4,r4,q4⟩=>yc (ho' pins s4 σ H4 y z' u w' _ I4 r2 r4 q4) λd' s5⟨z2,H5,I5,r5,k2,e2,q5⟩=>?_));subst e2;cases r5;exact wpAny_truthy_bool ⟨H5,I5,q5⟩
def YS(K:PySem.W.Frag)(x:V)(H:Hp)(k:Bool):Prop:=
 match x with
 |.Vb=>k=false
 |.bl b=>k=b
 |.int i=>k=(i != 0)
 |.str y=>y.length<=sizeLine/\k=((y.length:Int) != 0)
 |.bE y=>y.size<=sizeLine/\k=((y.size:Int) != 0)
 |.ref p=>(∃xs,Ha K H p xs/\k=!xs.isEmpty)\/(∃xs,mh K H p xs/\k=!xs.isEmpty)\/∃kvs,H p=some (.dK kvs)/\k=!kvs.isEmpty
 |_=>False
theorem aK{κ:Type}{kvs:List (κ×V)}{vs:List (κ×Value)}(r:KV kvs vs):(!vs.isEmpty)=!kvs.isEmpty:=by
 cases r<;>rfl
theorem Sy{xs:List V}{its:List Value}(r:Vals xs its):(!its.toArray.isEmpty)=!xs.isEmpty:=by
 cases r<;>simp
theorem cn:(sizeLine:Nat)<2^63:=by rw[sizeLine_eq];decide
theorem RW:NY X (λx H Q=>∃k,YS X.K x H k/\Q k H):=by
 intro pins s σ H x v Q I rx h;obtain⟨k,e,q⟩:=h;have hl:=cn;have hs:sizeLine=16777216:=sizeLine_eq;cases x with
 |Vb=>
  cases rx;have e':k=false:=e;subst e';exact truthy_none ⟨H,I,q⟩
 |bl b=>
  cases rx;have e':k=b:=e;subst e';exact wpAny_truthy_bool ⟨H,I,q⟩
 |int i=>
  obtain⟨t,rfl⟩:=rx;have e':k=(i != 0):=e;subst e';exact PySem.P.truthy_int ⟨H,I,q⟩
 |str y=>
  obtain⟨t,rfl⟩:=rx;obtain⟨hy,e'⟩:y.length<=sizeLine/\k=((y.length:Int) != 0):=e;subst e';exact PySem.P.truthy_str (by lia) ⟨H,I.tok _,q⟩
 |bE y=>
  obtain⟨t,rfl⟩:=rx;obtain⟨hy,e'⟩:y.size<=sizeLine/\k=((y.size:Int) != 0):=e;subst e';exact PySem.W.truthy_bytes (by lia) ⟨H,I.tok _,q⟩
 |ref p=>
  cases rx;have e':(∃xs,Ha X.K H p xs/\k=!xs.isEmpty)\/(∃xs,mh X.K H p xs/\k=!xs.isEmpty)\/∃kvs,H p=some (.dK kvs)/\k=!kvs.isEmpty:=e;rcases e' with⟨xs,hx,e'⟩|⟨xs,hx,e'⟩|⟨kvs,hx,e'⟩
  ·subst e';obtain⟨its,r,pl,hz⟩:=I.list hx;have hlen:=r.length;exact wpAny_truthy_list pl.isList (by simp only[List.size_toArray];lia) ⟨H,I.tok _,by rw[Sy r];exact q⟩
  ·subst e';obtain⟨its,r,pl,hz⟩:=I.tuple hx;have hlen:=r.length;exact truthy_tuple pl (by simp only[List.size_toArray];lia) ⟨H,I.tok _,by rw[Sy r];exact q⟩
  ·subst e';obtain⟨hz,hS,vs,r,m⟩:kvs.length<=sizeLine/\(p==sysModules)=false/\∃vs,KV kvs vs/\s.heap.DictOf (ud X.prog X.w) p vs:=I.Kb p _ hx;have hlen:kvs.length=vs.length:=Paired.length r;exact wpAny_truthy_dict hS m (by lia) ⟨H,I.tok _,by rw[aK r];exact q⟩
 |_=>exact(show False from e).elim
theorem WR(ha:PE X a ta)(he:∀whole,isTrue a X.env whole=(do let v<-whole;standAt a.pos;holding [v] (truthy v))):PT X a (λσ H Q=>ta σ H λx H'=>∃k,YS X.K x H' k/\Q k H'):=by
 intro pins s σ H Q I h;exact isTrue_plain (yc (ha pins s σ H _ I h) λv s1⟨x,H1,I1,r1,q1⟩=>RW pins s1 σ H1 x v Q I1 r1 q1) (he _)
theorem PK:gp X (binaryOp .Add) (λx y H Q=>∃i j,x=.str i/\y=.str j/\i.length+j.length<=sizeLine/\Q (.str (i++j)) H):=by
 intro pins s σ H x y v u Q I rx ry h;obtain⟨i,j,rfl,rfl,hz,q⟩:=h;obtain⟨t,rfl⟩:=rx;obtain⟨t',rfl⟩:=ry;exact add_str (λt' tk=>⟨.str (i++j),H,I.tok _,⟨_,rfl⟩,q⟩) hz
theorem vals1{x:V}{us:List Value}(r:Vals [x] us):∃u,us=[u]/\RelV x u:=by
 cases r with
 |cons r1 r2=>cases r2;exact⟨_,rfl,r1⟩
theorem vals2{x y:V}{us:List Value}(r:Vals [x,y] us):∃u w',us=[u,w']/\RelV x u/\RelV y w':=by
 cases r with
 |cons r1 r2=>
  cases r2 with
  |cons r3 r4=>cases r4;exact⟨_,_,rfl,r1,r3⟩
theorem RN(hc:X.calm=true):ye X (.builtin "min") (λxs H Q=>∃i j,xs=[.int i,.int j]/\Q (.int (if j<i then j else i)) H):=by
 intro pins s σ H xs us Q I r h;obtain⟨i,j,rfl,q⟩:=h;obtain⟨u,w',rfl,⟨t,rfl⟩,⟨t',rfl⟩⟩:=vals2 r;refine min_two_ints (I.ok.hd hc) λh' tk k=>⟨_,H,I.kept k,?_,q⟩;by_cases hj:j<i
 ·rw[if_pos hj,if_pos hj];exact⟨_,rfl⟩
 ·rw[if_neg hj,if_neg hj];exact⟨_,rfl⟩
theorem xk:ye X (.type "str") (λxs H Q=>∃i,xs=[.int i]/\i.natAbs.log2<1920/\Q (.str (toString i)) H):=by
 intro pins s σ H xs us Q I r h;obtain⟨i,rfl,hz,q⟩:=h;obtain⟨u,rfl,t,rfl⟩:=vals1 r;exact PySem.P.str_of_int hz ⟨.str _,H,I.tok _,⟨_,rfl⟩,q⟩
theorem nQ:ye X (.builtin "ord") (λxs H Q=>∃x,xs=[.str x]/\x.length=1/\Q (.int (x.cps.getD 0 0:Nat)) H):=by
 intro pins s σ H xs us Q I r h;obtain⟨x,rfl,hz,q⟩:=h;obtain⟨u,rfl,t,rfl⟩:=vals1 r;exact ord_of_one hz ⟨.int _,H,I.tok _,⟨_,rfl⟩,q⟩
end
end L2
namespace L2
open PySem PySem.Spec PyProof.Rows
structure HN(h:Heap)(x dx C:Addr)(mA:Str->Option Value):Prop where
 obj:h.get? x=some (PySem.W.instObj C dx)
 ns:h.Ns1 dx mA
 ne:dx≠x
theorem xO{h:Heap}{dx:Addr}{mA:Str->Option Value}(n:h.Ns1 dx mA):∃od,h.get? dx=some od/\∀name,PySem.W.lookIn name od=some (mA name):=by
 obtain⟨o,es,ep,ho,hd,hk,_,hm⟩:=n;refine⟨o,ho,λname=>?_⟩;have e:=hm name;unfold nsFind findBy at e;rw[<-Array.find?_toList] at e;unfold PySem.W.lookIn;rw[hd];dsimp only;split
 ·rename_i y q;rw[q] at e;exact congrArg some e
 ·rename_i q;rw[q] at e;have a:es.toList.any (·.refKey)=false:=by
   rw[List.any_eq_false];intro y hy;obtain⟨z,t,hkey⟩:=hk y (Array.mem_toList_iff.mp hy);simp[DictEntry.refKey,hkey]
  have a':¬es.toList.any (·.refKey)=true:=by rw[a];exact Bool.false_ne_true
  rw[if_neg a'];exact congrArg some e
theorem HN.look{h:Heap}{x dx C:Addr}{mA:Str->Option Value}(I:HN h x dx C mA):∃od,PySem.W.InstAt h x (PySem.W.instObj C dx) C (some od)/\∀name,PySem.W.lookIn name od=some (mA name):=
 let ⟨od,ho,hl⟩:=xO I.ns
 ⟨od,⟨I.obj,rfl,rfl,ho⟩,hl⟩
section
variable{prog:Program}{w:World}{A:Around}{E:Value->Shared->Prop}{s:Shared}{K:PySem.W.Frag}{x dx C f:Addr}{mA:Str->Option Value}{name:Str}{v:Value}
theorem get_map{expr:Bool}{Q:Value->Shared->Prop}(X:K.In s.heap)(I:HN s.heap x dx C mA)(hg:PySem.W.plainGet K C name=true)(hh:PySem.W.hasDictIn K C=true)(ha:PySem.W.findIn K (.ref C) name=some none)(hv:mA name=some v)(hv':PySem.W.handedIn v=true)(h:Q v {s with toks:=s.toks+1}):wpAny (model prog w) A (getAttr (.ref x) name expr) Q E s:=by
 obtain⟨od,J,hl⟩:=I.look;exact PySem.W.get_value X J (PySem.W.plainGet_of hg).1 (PySem.W.findObj_own hh ha rfl (by rw[hl,hv])) hv' h
theorem nU{ns:List Str}{Q:Unit->Shared->Prop}(X:K.In s.heap)(I:HN s.heap x dx C mA)(hs:PySem.W.findIn K (.ref C) "__setattr__"=some (some (.builtin "object.__setattr__")))(hp:PySem.W.plainOver K C=true)(ht:PySem.W.takerIn K C name=some none)(hh:PySem.W.hasDictIn K C=true)(hw:PySem.Within mA ns)(hsz:ns.length<=sizeLine)(h:∀h',HN h' x dx C (λy=>if y=name then some v else mA y)->Heap.SameBut dx s.heap h'->Q () {s with heap:=h',toks:=s.toks+2}):wpAny (model prog w) A (setAttr (.ref x) name v) Q E s:=by
 obtain⟨od,J,hl⟩:=I.look;refine PySem.W.set_plain X J hs (PySem.W.osa_open (s:={s with toks:=s.toks+1}) (r:=none) X J hp ht λb=>?_);obtain⟨cd,hc,hd'⟩:=PySem.W.any_some hh;have hx:s.heap.get? x=some ⟨.ref C,some dx,.plain,#[]⟩:=I.obj;refine wpAny_bind (wpAny_pure (wpAny_bind (wpAny_bind (wpAny_loadPart hx (wpAny_bind (PySem.W.Looks.here (s:={s with toks:=s.toks+1}) (PySem.W.looks_clsIn X hc) ?_))))));rw[hd'];refine wpAny_pure (a:=some dx) (wpAny_bind (wpAny_pure (wpAny_bind ?_)));refine wpAny_nsSet1 (s:={s with toks:=s.toks+1}) I.ns λh' hn2 hs2=>?_;obtain⟨oD,esD,epD,hoD,hdD,hcD⟩:=hn2.count (PySem.Within.cons name v hw);refine wpAny_bind (wpAny_lookBehind hoD (by rw[hdD];exact pastItsLine_dict (Nat.le_trans hcD (by rw[List.length_cons];lia))) ?_);exact wpAny_pure (h _ ⟨(hs2.2 _ (Ne.symm I.ne)).trans I.obj,hn2,I.ne⟩ hs2)
theorem yR{R:Result->Shared->Prop}{vs:List Value}{kw:List (Str×Value)}(X:K.In s.heap)(hm:PySem.W.makesIn K C=true)(hi:PySem.W.findIn K (.ref C) "__init__"=some (some (.ref f)))(hf:PySem.W.typeIn K (.ref f)=some (.type "function"))(h:codeAny (model prog w) (A.under (.builtin "type.__call__" ⟨.ref C::vs,kw⟩)) (.call (.ref f) ⟨.ref (s.heap.objs.size+1)::vs,kw⟩) (PySem.W.InitBack (s.heap.objs.size+1) R) {s with heap:=(s.heap.push PySem.W.emptyDict).push (PySem.W.instObj C s.heap.objs.size)}):codeAny (model prog w) A (.call (.ref C) ⟨vs,kw⟩) R s:=by
 obtain⟨hh,g,d,t,os⟩:=s;exact PySem.W.make_core (PySem.W.makes_of X hm) (PySem.W.looks_findIn X hi) (λself=>PySem.W.bind_fn X self hf) (.inl rfl) h
end
def Dd(f:Str)(v:V):List (Str×V)->List (Str×V)
 |[]=>[(f,v)]
 |(g,x)::r=>if g=f then(g,v)::r else(g,x)::Dd f v r
theorem Hv(f g:Str)(v:V):∀fs:List (Str×V),(Dd f v fs).lookup g=if g=f then some v else fs.lookup g
 |[]=>by
  show List.lookup g [(f,v)]=_;by_cases h:g=f
  ·have hb:(g==f)=true:=beq_iff_eq.mpr h;simp only[List.lookup,hb,if_pos h]
  ·have hb:(g==f)=false:=beq_eq_false_iff_ne.mpr h;simp only[List.lookup,hb,if_neg h]
 |(k,x)::r=>by
  have ih:=Hv f g v r;rw[show Dd f v ((k,x)::r)=(if k=f then(k,v)::r else(k,x)::Dd f v r) from rfl];by_cases hk:k=f
  ·rw[if_pos hk];by_cases h:g=k
   ·have hb:(g==k)=true:=beq_iff_eq.mpr h;simp only[List.lookup,hb,if_pos (h.trans hk)]
   ·have hb:(g==k)=false:=beq_eq_false_iff_ne.mpr h;simp only[List.lookup,hb,if_neg (λe:g=f=>h (e.trans hk.symm))]
  ·rw[if_neg hk];by_cases h:g=k
   ·have hb:(g==k)=true:=beq_iff_eq.mpr h;simp only[List.lookup,hb,if_neg (λe:g=f=>hk (h.symm.trans e))]
   ·have hb:(g==k)=false:=beq_eq_false_iff_ne.mpr h;simp only[List.lookup,hb];exact ih
theorem Zt(f:Str)(v:V):∀fs:List (Str×V),f∈(Dd f v fs).map (·.1)/\∀g,g∈fs.map (·.1)->g∈(Dd f v fs).map (·.1)
 |[]=>⟨by simp[Dd],λg h=>by simp at h⟩
 |(k,x)::r=>by
  obtain⟨i1,i2⟩:=Zt f v r;rw[show Dd f v ((k,x)::r)=(if k=f then(k,v)::r else(k,x)::Dd f v r) from rfl];by_cases hk:k=f
  ·rw[if_pos hk];subst hk;exact⟨by simp,λg h=>by simpa using h⟩
  ·rw[if_neg hk];refine⟨?_,λg h=>?_⟩
   ·rw[List.map_cons];exact List.mem_cons_of_mem _ i1
   ·rw[List.map_cons] at h⊢;rcases List.mem_cons.mp h with e|e
    ·exact List.mem_cons.mpr (.inl e)
    ·exact List.mem_cons_of_mem _ (i2 g e)
theorem Fv(f:Str)(v:V):∀fs:List (Str×V),(Dd f v fs).length<=fs.length+1
 |[]=>by simp[Dd]
 |(k,x)::r=>by
  have ih:=Fv f v r;rw[show Dd f v ((k,x)::r)=(if k=f then(k,v)::r else(k,x)::Dd f v r) from rfl];by_cases hk:k=f
  ·rw[if_pos hk,List.length_cons,List.length_cons];lia
  ·rw[if_neg hk,List.length_cons,List.length_cons];lia
theorem gq.some_of{v:V}{o:Option Value}(r:gq (some v) o):∃u,o=some u/\RelV v u:=by
 cases o with
 |none=>exact(show False from r).elim
 |some u=>exact⟨u,rfl,r⟩
theorem iO{v:V}{u:Value}(r:RelV v u):PySem.W.handedIn u=true:=by
 cases v with
 |Vb=>cases(show u=Value.none from r);rfl
 |bl b=>cases(show u=Value.bool b from r);rfl
 |int i=>obtain⟨t,e⟩:=(show∃t,u=Value.int i t from r);cases e;rfl
 |str x=>obtain⟨t,e⟩:=(show∃t,u=Value.str x t from r);cases e;rfl
 |bE b=>obtain⟨t,e⟩:=(show∃t,u=Value.bytes b t from r);cases e;rfl
 |EX b=>obtain⟨t,e⟩:=(show∃t,u=Value.float b t from r);cases e;rfl
 |ref a=>cases(show u=Value.ref a from r);rfl
 |ty n=>cases(show u=Value.type n from r);rfl
section
variable{P:Program}{w:World}{H H':Hp}{h h':Heap}{a C dx:Addr}{fs fs':List (Str×V)}
theorem FE(Kb:Zj P w H h)(e:H a=some (.ins C dx fs)):∃mA,HN h a dx C mA/\(∀f,gq (fs.lookup f) (mA f))/\PySem.Within mA (fs.map (·.1))/\fs.length<=1000/\H dx=some (.own a):=by
 obtain⟨d,z,ne,ob,mA,n,r,q⟩:=(show Cd P w H h a (.ins C dx fs) from Kb a _ e);exact⟨mA,⟨ob,n,ne⟩,r,q,z,d⟩
end
structure AA(K:PySem.W.Frag)(C:Addr):Prop where
 pg:PySem.W.plainGet K C Str.empty=true
 hd:PySem.W.hasDictIn K C=true
 po:PySem.W.plainOver K C=true
 sa:PySem.W.findIn K (.ref C) "__setattr__"=some (some (.builtin "object.__setattr__"))
theorem AA.get{K:PySem.W.Frag}{C:Addr}(c:AA K C)(f:Str):PySem.W.plainGet K C f=true:=c.pg
def jb(K:PySem.W.Frag)(C:Addr)(f:Str):Prop:=PySem.W.findIn K (.ref C) f=some none
theorem jb.gY{K:PySem.W.Frag}{C:Addr}{f:Str}(n:jb K C f):PySem.W.takerIn K C f=some none:=by
 unfold PySem.W.takerIn;rw[show PySem.W.findIn K (.ref C) f=some none from n];rfl
section
variable{X:Cx}{pins:List (Addr×Obj)}{σ:St}{H:Hp}{s:Shared}{a C dx:Addr}{fs:List (Str×V)}{f:Str}{v:V}{A:Around}{E:Value->Shared->Prop}
theorem Ly{b:Bool}{Q:Value->Shared->Prop}(I:Inv X pins σ H s)(e:H a=some (.ins C dx fs))(c:AA X.K C)(n:jb X.K C f)(l:fs.lookup f=some v)(h:∀u s',Inv X pins σ H s'->RelV v u->Q u s'):wpAny (model X.prog X.w) A (getAttr (.ref a) f b) Q E s:=by
 obtain⟨mA,O,r,_,_,_⟩:=FE I.Kb e;obtain⟨u,hu,ru⟩:=gq.some_of (v:=v) (o:=mA f) (by rw[<-l];exact r f);exact get_map I.pO O (c.get f) c.hd n hu (iO ru) (h u _ (I.tok _) ru)
theorem Vq{y:V}{u:Value}{Q:Unit->Shared->Prop}(I:Inv X pins σ H s)(e:H a=some (.ins C dx fs))(c:AA X.K C)(n:jb X.K C f)(hl:fs.length<1000)(ry:RelV y u)(h:∀s',Inv X pins σ (upd H a (.ins C dx (Dd f y fs))) s'->Q () s'):wpAny (model X.prog X.w) A (setAttr (.ref a) f u) Q E s:=by
 obtain⟨mA,O,r,wi,_,ho⟩:=FE I.Kb e;have hz:(fs.map (·.1)).length<=sizeLine:=by rw[List.length_map,sizeLine_eq];lia
 refine nU I.pO O c.sa c.po n.gY c.hd wi hz λh' O' sb=>h _ ?_;have hd:∃o,h'.get? dx=some o:=let ⟨o,_,_,e',_⟩:=O'.ns;⟨o,e'⟩;refine I.write (x:=a) (e:=dx) (by rw[e];exact True.intro) (.inr ho) (λb q hb z=>(sb.2 b hb).trans z) hd ?_;refine⟨by rw[ua O.ne];exact ho,?_,O.ne,O'.obj,_,O'.ns,λg=>?_,λg hg=>?_⟩
 ·have:=Fv f y fs;lia
 ·show gq ((Dd f y fs).lookup g) (if g=f then some u else mA g);rw[Hv];by_cases q:g=f
  ·rw[if_pos q,if_pos q];exact ry
  ·rw[if_neg q,if_neg q];exact r g
 ·by_cases q:g=f
  ·rw[q];exact(Zt f y fs).1
  ·refine(Zt f y fs).2 g (wi g λz=>hg ?_);show(if g=f then some u else mA g)=none;rw[if_neg q];exact z
theorem Inv.made(I:Inv X pins σ H s):Inv X pins σ (upd (upd H s.heap.objs.size (.own (s.heap.objs.size+1))) (s.heap.objs.size+1) (.ins C s.heap.objs.size [])) {s with heap:=(s.heap.push PySem.W.emptyDict).push (PySem.W.instObj C s.heap.objs.size)}:=by
 have e1:(s.heap.push PySem.W.emptyDict).get? s.heap.objs.size=some PySem.W.emptyDict:=Heap.get?_push_size s.heap rfl;have e2:((s.heap.push PySem.W.emptyDict).push (PySem.W.instObj C s.heap.objs.size)).get? (s.heap.objs.size+1)=some (PySem.W.instObj C s.heap.objs.size):=by
  have:=Heap.get?_push_size (s.heap.push PySem.W.emptyDict) (o:=PySem.W.instObj C s.heap.objs.size) rfl
  rwa [Heap.size_push] at this
 have e3:(s.heap.push PySem.W.emptyDict).Ns s.heap.objs.size (λ_=>none):=⟨PySem.W.emptyDict,#[],_,e1,rfl,(λe he=>absurd he (by simp)),λ_=>rfl⟩;have I1:=I.laid (a:=s.heap.objs.size) (o:=.own (s.heap.objs.size+1)) (h':=s.heap.push PySem.W.emptyDict) (t':=s.toks) (λb u q=>Heap.get?_push_of_some _ q) (Nat.le_refl _) ⟨_,e1⟩;refine I1.laid (a:=s.heap.objs.size+1) (o:=.ins C s.heap.objs.size []) (t':=s.toks) (λb u q=>Heap.get?_push_of_some _ q) (Nat.le_of_eq (Heap.size_push _ _)) ?_;have ne:s.heap.objs.size≠s.heap.objs.size+1:=Nat.ne_of_lt (Nat.lt_succ_self _);refine⟨by rw[ua ne,ia],Nat.zero_le _,ne,e2,λ_=>none,(Heap.Ns1.of_empty e3).at λo q=>Heap.get?_push_of_some _ q,λ_=>True.intro,λy hy=>absurd rfl hy⟩
theorem bT{prog:Program}{w:World}{env:Env}{e:Expr}{f:Str}{pos:Pos}{s:Shared}{Q:Value->Shared->Prop}(hb:attributeBase e f env (eval e env)=eval e env)(h:wpAny (model prog w) A (eval e env) (λo s₁=>wpAny (model prog w) A (getAttr o f true) Q E s₁) E s):wpAny (model prog w) A (eval (.Attribute e f pos) env) Q E s:=
 Attribute_any_ h (by rw[arm_eval_Attribute,hb])
end
def WO(K:PySem.W.Frag)(ta tv:TE)(f:Str):TS:=λD σ H=>tv σ H λy H1=>ta σ H1 λx H2=>∃a C dx fs,x=.ref a/\H2 a=some (.ins C dx fs)/\AA K C/\jb K C f/\fs.length<1000/\
 D.nx σ (upd H2 a (.ins C dx (Dd f y fs)))
def DY(X:Cx)(op:Operator)(rd:V->V->Hp->VK->Prop):Prop:=
 ∀(pins:List (Addr×Obj))(s:Shared)(σ:St)(H:Hp)(x y:V)(u v:Value)(Q:VK),Inv X pins σ H s->RelV x u->RelV y v->rd x y H Q->wpAny (model X.prog X.w) X.A (inplaceOp op u v) (EP X pins σ Q) X.xe s
section
variable{X:Cx}{o e value:Expr}{f:Str}{pos pos' tpos:Pos}{ta tv:TE}
theorem uW(ha:PE X o ta)(hv:PE X value tv)(hs:swapsWith value (some (.Attribute o f pos')) pos.line X.env=pure false):PS X (.Assign [.Attribute o f pos'] value pos) (WO X.K ta tv f):=by
 intro pins s σ H D I h;refine plainObj_wpAny_Assign_Attribute (yc (hv pins s σ H _ I h) λu s1⟨y,H1,I1,ry,q⟩=>yc (ha pins s1 σ H1 _ I1 q) λov s2⟨x,H2,I2,rx,a,C,dx,fs,ex,ea,c,n,l,q2⟩=>?_) hs;subst ex;obtain rfl:ov=Value.ref a:=rx;exact Vq I2 ea c n l ry λs3 I3=>⟨σ,_,I3,q2⟩
def jZ:V->V->Hp->VK->Prop:=λx y H Q=>∃i j,x=.int i/\y=.int j/\Q (.int (i+j)) H
theorem OV:DY X .Add jZ:=by
 rintro pins s σ H x y u v Q I rx ry ⟨i,j,rfl,rfl,q⟩;obtain⟨t,rfl⟩:=(show∃t,u=Value.int i t from rx);obtain⟨t',rfl⟩:=(show∃t',v=Value.int j t' from ry);exact PyProof.Rows.iadd_int ⟨.int (i+j),H,I.tok _,⟨_,rfl⟩,q⟩
end
section
variable{X:Cx}{pins:List (Addr×Obj)}{σ:St}{H:Hp}{s:Shared}{A:Around}{E:Value->Shared->Prop}{Q:Value->Shared->Prop}{c:Value}{b:Bool}
end
end L2
namespace L2
open PySem PySem.Spec PyProof.Rows
structure Ef(k:Nat)(A:Around):Prop where
 hd:A.handled=none
 dp:A.depth+3*k+5<recursionLimit
 un:A.units+16*k+200<cLine
theorem Ef.mono{j k:Nat}{A:Around}(r:Ef k A)(h:j<=k):Ef j A:=⟨r.hd,by have:=r.dp;lia,by have:=r.un;lia⟩
theorem Ef.deeper{k:Nat}{A:Around}(r:Ef (k+1) A)(env:Env):Ef k (A.deeper env):=
 ⟨r.hd,by have:=r.dp;show A.depth+1+3*k+5<_;lia,by have:=r.un;show A.units+3+16*k+200<_;lia⟩
theorem tK{A:Around}{C:Addr}{us:List Value}{kw:List (Str×Value)}:(A.under (.builtin "type.__call__" ⟨.ref C::us,kw⟩)).depth=A.depth+1:=by
 first|rfl|simp[Around.under,Code.weight,Code.isCreation,Code.isGuard,Code.isCaller,Code.frames,Code.isFrame,guardIds]
theorem uK{A:Around}{C:Addr}{us:List Value}{kw:List (Str×Value)}:(A.under (.builtin "type.__call__" ⟨.ref C::us,kw⟩)).units=A.units+1:=by
 first|rfl|simp[Around.under,Code.cUnits,Code.frames,Code.isFrame]
theorem Ef.make{k:Nat}{A:Around}(r:Ef (k+1) A)(C:Addr)(us:List Value)(kw:List (Str×Value)):Ef k (A.under (.builtin "type.__call__" ⟨.ref C::us,kw⟩)):=
 ⟨r.hd,by have:=r.dp;rw[tK];lia,by have:=r.un;rw[uK];lia⟩
theorem Ef.depth{k:Nat}{A:Around}(r:Ef k A):A.depth<recursionLimit:=by have:=r.dp;lia
theorem Ef.units{k:Nat}{A:Around}(r:Ef k A):A.units+64<cLine:=by have:=r.un;lia
def ES:TA:=λ_ H Q=>Q [] H
def xN(ta:TE)(tr:TA):TA:=λσ H Q=>ta σ H λx H1=>tr σ H1 λxs H2=>Q (x::xs) H2
section
variable{X:Cx}{e:Expr}{es:List Expr}{te:TE}{t:TA}{pos:Pos}
theorem da:PA X [] ES:=λ_ _ _ _ H Q I h=>Calls.spliced_nil ⟨[],H,I,.nil,h⟩
theorem aa(ha:PE X e te)(hr:PA X es t)(hs:starEach (e::es) X.env=(false,eval e X.env)::starEach es X.env:=by rfl):PA X (e::es) (xN te t):=by
 intro pos pins s σ H Q I h;rw[hs];show wpAny _ _ (spliced ((false,eval e X.env)::backTo pos (starEach es X.env))) _ _ s;refine Calls.spliced_cons (yc (ha pins s σ H _ I h) λu s1⟨x,H1,I1,r1,q1⟩=>?_);exact yc (hr pos pins s1 σ H1 _ I1 q1) λus s2⟨xs,H2,I2,r2,q2⟩=>⟨x::xs,H2,I2,.cons r1 r2,q2⟩
def fY(t:TA):TE:=λσ H Q=>t σ H λxs H1=>xs.length<=sizeLine/\∀p,H1 p=none->Q (.ref p) (upd H1 p (.tup xs))
def aY(t:TA):TE:=λσ H Q=>t σ H λxs H1=>xs.length<=sizeLine/\∀p,H1 p=none->Q (.ref p) (upd H1 p (.lst xs))
theorem xi{x1}(h:PA X es t):PE X (.Tuple es x1 pos) (fY t):=by
 intro pins s σ H Q I hq;refine wpAny_Tuple_spliced (yc (h pos pins s σ H _ I hq) λus s1⟨xs,H1,I1,r,z,q⟩=>⟨by rw[<-r.length];exact z,?_⟩);have hf:H1 s1.heap.objs.size=none:=I1.Kb.fresh (Nat.le_refl _);refine⟨.ref s1.heap.objs.size,upd H1 s1.heap.objs.size (.tup xs),I1.laid (t':=s1.toks) (λb u e=>Heap.get?_push_of_some _ e) (Nat.le_refl _) ?_,rfl,q _ hf⟩;exact⟨z,us,r,⟨_,Heap.get?_push_size _ rfl,rfl,_,rfl⟩⟩
theorem Wa(h:PA X es t):PE X (.List es pos) (aY t):=by
 intro pins s σ H Q I hq;refine wpAny_List_spliced (yc (h pos pins s σ H _ I hq) λus s1⟨xs,H1,I1,r,z,q⟩=>⟨by rw[<-r.length];exact z,?_⟩);have hf:H1 s1.heap.objs.size=none:=I1.Kb.fresh (Nat.le_refl _);refine⟨.ref s1.heap.objs.size,upd H1 s1.heap.objs.size (.lst xs),I1.laid (t':=s1.toks) (λb u e=>Heap.get?_push_of_some _ e) (Nat.le_refl _) ?_,rfl,q _ hf⟩;exact⟨z,us,0,r,Heap.get?_push_size _ rfl⟩
end
abbrev Sp:=List V->Hp->VK->XK->Prop
abbrev tM:=List Env->Hp->Shared->XK->Value->Shared->Prop
structure tG(P:Program)(w:World)(K:PySem.W.Frag)(mg:Str->Option Value)(base:Heap)(A:Around)(outer:List Env)(s:Shared)(H:Hp):Prop where
 frames:A.frames=some outer
 mod:Mod K mg base
 bs:∀b o,base.get? b=some o->s.heap.get? b=some o/\H b=none
 jQ:base.objs.size<=s.heap.objs.size
 Tt:s.heap.FunFrames base outer
 qT:∀b∈NQ outer,H b=none
 Kb:Zj P w H s.heap
 bare:AllBare s.gens
def CE(outer:List Env)(P:Program)(w:World)(H:Hp)(s:Shared)(Q:VK)(u:Value)(s':Shared):Prop:=
 ∃v H',s'.os=s.os/\AllBare s'.gens/\Un (NQ outer) [] H H' s.heap s'.heap/\Zj P w H' s'.heap/\RelV v u/\Q v H'
def CR(CX:tM)(outer:List Env)(P:Program)(w:World)(H:Hp)(s:Shared)(Q:VK)(E:XK)(r:Result)(s':Shared):Prop:=
 match r with
 |.ok (.ret u)=>CE outer P w H s Q u s'
 |.ok _=>False
 |.error e=>CX outer H s E e s'
structure Ua(P:Program)(w:World)(K:PySem.W.Frag)(mg:Str->Option Value)(base:Heap)(CX:tM)(k:Nat)(f:Addr)(fd:FuncData)(ps:List Str)(sp:Sp):Prop where
 len:∀vs H Q E,sp vs H Q E->vs.length=ps.length
 run:∀(A:Around)(outer:List Env)(s:Shared)(H:Hp)(args:Args)(us:List Value)(vs:List V)(Q:VK)(E:XK),Ef k A->tG P w K mg base A outer s H->BindsTo s fd args (ps.zip us)->Vals vs us->sp vs H Q E->
  codeAny (model P w) A (.call (.ref f) args) (CR CX outer P w H s Q E) s
theorem Ua.mono{P:Program}{w:World}{K:PySem.W.Frag}{mg:Str->Option Value}{base:Heap}{CX:tM}{j k:Nat}{f:Addr}{fd:FuncData}{ps:List Str}{sp:Sp}(F:Ua P w K mg base CX j f fd ps sp)(h:j<=k):Ua P w K mg base CX k f fd ps sp:=⟨F.len,λA outer s H args us vs Q E hr=>F.run A outer s H args us vs Q E (hr.mono h)⟩
theorem tG.make{P:Program}{w:World}{K:PySem.W.Frag}{mg:Str->Option Value}{base:Heap}{A:Around}{outer:List Env}{s:Shared}{H:Hp}(e:tG P w K mg base A outer s H)(C:Addr)(us:List Value)(kw:List (Str×Value)):tG P w K mg base (A.under (.builtin "type.__call__" ⟨.ref C::us,kw⟩)) outer s H:=⟨by first|exact e.frames|(simpa[Around.under,Code.envs,Code.isFrame,pushEnvs] using e.frames),e.mod,e.bs,e.jQ,e.Tt,e.qT,e.Kb,e.bare⟩
section
variable{X:Cx}{pins:List (Addr×Obj)}{σ:St}{H:Hp}{s s':Shared}
theorem Inv.BX(I:Inv X pins σ H s):tG X.prog X.w X.K X.mg X.base X.A X.stack s H:=
 ⟨I.ok.frames,I.ok.mod,I.bs,Nat.le_trans I.ok.jQ I.sz,I.stack,I.wN,I.Kb,I.bare⟩
theorem Inv.after{Q:VK}{u:Value}(I:Inv X pins σ H s)(h:CE X.stack X.prog X.w H s Q u s'):EP X pins σ Q u s':=by
 obtain⟨v,H',os,bare,un,Kb,r,q⟩:=h;obtain⟨hh,g,d,t,os'⟩:=s';obtain rfl:os'=s.os:=os;exact⟨v,H',I.call (h':=hh) (g':=g) (d':=d) (t':=t) (ch:=[]) un Kb bare (λb z=>absurd z (by simp)),r,q⟩
end
def zS(sp:Sp)(dvs:List V)(E:XK)(t:TA):TE:=λσ H Q=>t σ H λvs H1=>sp (vs++dvs) H1 Q E
def AN(C:Addr)(sp:Sp)(dvs:List V)(E:XK)(t:TA):TE:=λσ H Q=>t σ H λvs H1=>∀x dx,H1 x=none->H1 dx=none->dx≠x->
 sp (.ref x::(vs++dvs)) (upd (upd H1 dx (.own x)) x (.ins C dx [])) (λv H2=>v=.Vb/\Q (.ref x) H2) E
def Binds(K:PySem.W.Frag)(fd:FuncData)(ps:List Str)(ds:List Value):Prop:=
 ∀(s:Shared)(us:List Value),K.In s.heap->(us++ds).length=ps.length->BindsTo s fd ⟨us,[]⟩ (ps.zip (us++ds))
theorem Binds.all{K:PySem.W.Frag}{fd:FuncData}{ps:List Str}(h:∀us:List Value,us.length=ps.length->bindArgs fd ⟨us,[]⟩=pure (ps.zip us)):Binds K fd ps []:=λs us _ hl=>by
 rw[List.append_nil] at hl⊢;exact .of_eq (h us hl)
def Passes(CX:tM)(X:Cx)(E:XK):Prop:=∀(pins:List (Addr×Obj))(σ:St)(H:Hp)(s:Shared)(e:Value)(s':Shared),Inv X pins σ H s->CX X.stack H s E e s'->X.xe e s'
section
variable{X:Cx}{CX:tM}{k:Nat}{f C:Addr}{fd:FuncData}{ps:List Str}{sp:Sp}{dvs:List V}{ds:List Value}{E:XK}{x m:Str}{p pos apos:Pos}{e o:Expr}{es:List Expr}{ta:TE}{t:TA}
theorem AW{pins:List (Addr×Obj)}{σ:St}{H:Hp}{s:Shared}{Q:VK}{us:List Value}{vs:List V}(F:Ua X.prog X.w X.K X.mg X.base CX k f fd ps sp)(hr:Ef k X.A)(hb:Binds X.K fd ps ds)(hd:Vals dvs ds)(hx:Passes CX X E)(I:Inv X pins σ H s)(r:Vals vs us)(h:sp (vs++dvs) H Q E):wpAny (model X.prog X.w) X.A (call (.ref f) us) (EP X pins σ Q) X.xe s:=by
 have r2:Vals (vs++dvs) (us++ds):=r.append hd;have hl:(us++ds).length=ps.length:=by rw[<-r2.length];exact F.len _ _ _ _ h
 refine wpAny_call (codeAny_mono (F.run X.A X.stack s H ⟨us,[]⟩ (us++ds) (vs++dvs) Q E hr I.BX (hb s us I.pO hl) r2 h) λr s' hq=>?_);cases r with
 |error e=>exact hx pins σ H s e s' I hq
 |ok fl=>
  cases fl with
  |ret u=>exact I.after hq
  |next=>exact False.elim hq
  |brk=>exact False.elim hq
  |cont=>exact False.elim hq
theorem ZT(F:Ua X.prog X.w X.K X.mg X.base CX k f fd ps sp)(hr:Ef k X.A)(hg:Gl X x)(hm:X.mg x=some (.ref f))(hk:PySem.W.keepIn X.K (.ref f)=true)(hb:Binds X.K fd ps ds)(hd:Vals dvs ds)(hx:Passes CX X E)(ha:PA X (e::es) t)(hdb:(x==("__debug__":Str))=false:=by decide)(he:starEach (e::es) X.env=(false,eval e X.env)::starEach es X.env:=by rfl)(hpl:(backTo pos (starEach es X.env)).any (·.1)=false:=by rfl):PE X (.Call (.Name x p) (e::es) [] pos) (zS sp dvs E t):=by
 intro pins s σ H Q I h;refine wpAny_Call_Name_kw (ax I hg hm ?_ hdb);refine PySem.W.callWith_K (h₀:=X.base) I.ok.mod.xY hk (yc (ha pos pins s σ H _ I h) λus s1⟨vs,H1,I1,r,q⟩=>⟨I1.pO,?_⟩) he hpl;exact AW F hr hb hd hx I1 r q
structure Mk(K:PySem.W.Frag)(C f:Addr):Prop where
 makes:PySem.W.makesIn K C=true
 init:PySem.W.findIn K (.ref C) "__init__"=some (some (.ref f))
 fn:PySem.W.isFn K (.ref f)=true
 kp:PySem.W.keepIn K (.ref C)=true
theorem qI{pins:List (Addr×Obj)}{σ:St}{H:Hp}{s:Shared}{Q:VK}{us:List Value}{vs:List V}(M:Mk X.K C f)(F:Ua X.prog X.w X.K X.mg X.base CX k f fd ps sp)(hr:Ef (k+1) X.A)(hb:Binds X.K fd ps ds)(hd:Vals dvs ds)(hx:Passes CX X E)(I:Inv X pins σ H s)(r:Vals vs us)(h:∀x dx,H x=none->H dx=none->dx≠x->sp (.ref x::(vs++dvs)) (upd (upd H dx (.own x)) x (.ins C dx [])) (λv H2=>v=.Vb/\Q (.ref x) H2) E):wpAny (model X.prog X.w) X.A (call (.ref C) us) (EP X pins σ Q) X.xe s:=by
 have hq:=h (s.heap.objs.size+1) s.heap.objs.size (I.Kb.fresh (Nat.le_succ _)) (I.Kb.fresh (Nat.le_refl _)) (Nat.ne_of_lt (Nat.lt_succ_self _));have I2:=Inv.made (C:=C) I;have r2:Vals (V.ref (s.heap.objs.size+1)::(vs++dvs)) (Value.ref (s.heap.objs.size+1)::(us++ds)):=.cons rfl (r.append hd);have hl:(Value.ref (s.heap.objs.size+1)::us++ds).length=ps.length:=by
  have e:=r2.length;rw[F.len _ _ _ _ hq] at e;exact e.symm
 refine wpAny_call (yR (f:=f) I.pO M.makes M.init (beq_iff_eq.mp M.fn) (codeAny_mono (F.run _ X.stack _ _ ⟨Value.ref (s.heap.objs.size+1)::us,[]⟩ (Value.ref (s.heap.objs.size+1)::(us++ds)) _ _ E (hr.make C us [])
  (I2.BX.make C us []) (hb _ (Value.ref (s.heap.objs.size+1)::us) I2.pO hl) r2 hq) λr s' hq'=>?_))
 cases r with
 |error e=>exact hx pins σ _ _ e s' I2 hq'
 |ok fl=>
  cases fl with
  |ret u=>
   obtain⟨v,H',I3,rv,ev,q3⟩:=I2.after hq';subst ev;exact⟨rv,⟨V.ref (s.heap.objs.size+1),H',I3,rfl,q3⟩⟩
  |next=>exact False.elim hq'
  |brk=>exact False.elim hq'
  |cont=>exact False.elim hq'
theorem bU(M:Mk X.K C f)(F:Ua X.prog X.w X.K X.mg X.base CX k f fd ps sp)(hr:Ef (k+1) X.A)(hg:Gl X x)(hm:X.mg x=some (.ref C))(hb:Binds X.K fd ps ds)(hd:Vals dvs ds)(hx:Passes CX X E)(ha:PA X (e::es) t)(hdb:(x==("__debug__":Str))=false:=by decide)(he:starEach (e::es) X.env=(false,eval e X.env)::starEach es X.env:=by rfl)(hpl:(backTo pos (starEach es X.env)).any (·.1)=false:=by rfl):PE X (.Call (.Name x p) (e::es) [] pos) (AN C sp dvs E t):=by
 intro pins s σ H Q I h;refine wpAny_Call_Name_kw (ax I hg hm ?_ hdb);refine PySem.W.callWith_K (h₀:=X.base) I.ok.mod.xY M.kp (yc (ha pos pins s σ H _ I h) λus s1⟨vs,H1,I1,r,q⟩=>⟨I1.pO,?_⟩) he hpl;exact qI M F hr hb hd hx I1 r q
theorem PR(M:Mk X.K C f)(F:Ua X.prog X.w X.K X.mg X.base CX k f fd ps sp)(hr:Ef (k+1) X.A)(hg:Gl X x)(hm:X.mg x=some (.ref C))(hb:Binds X.K fd ps ds)(hd:Vals dvs ds)(hx:Passes CX X E)(hdb:(x==("__debug__":Str))=false:=by decide):PE X (.Call (.Name x p) [] [] pos) (AN C sp dvs E ES):=by
 intro pins s σ H Q I h;refine wpAny_Call_Name_kw (ax I hg hm ?_ hdb);exact PySem.W.callWith_K0 I.pO M.kp (qI (us:=[]) M F hr hb hd hx I .nil h)
end
section
variable{X:Cx}{CX:tM}{k:Nat}{f C:Addr}{fd:FuncData}{ps ks:List Str}{sp:Sp}{E:XK}{x m:Str}{p pos apos kpos:Pos}{e o:Expr}{es:List Expr}{kws:List Keyword}{te ta:TE}{t tk:TA}{nm:Option Str}
variable{g:List Value->List Value->List Value}{gV:List V->List V->List V}
end
structure Qw(N P:List Str)(sc:Scope):Prop where
 kind:sc.kind=.function
 co:sc.isCoroutine=false
 gen:sc.isGenerator=false
 nd:N.Nodup
 pre:N.take P.length=P
 par:∀x∈P,sc.names.lookup x=some .local\/sc.names.lookup x=some .cell
 kW:∀y∈sc.names,y.2≠.free
theorem HB{kindOf:Str->Option NameKind}{x:Str}:∀{binds:List (Str×Value)}{m:Str->Option Value},(∀v,(x,v)∉binds)->bindL kindOf binds m x=m x
 |[],_,_=>rfl
 |(n,v)::r,m,h=>by
  unfold bindL;rw[HB λw hw=>h w (List.mem_cons_of_mem _ hw)];split
  ·have:x≠n:=by rintro rfl;exact h v List.mem_cons_self
   simp[this]
  ·rfl
theorem EB{kindOf:Str->Option NameKind}{x:Str}:∀{binds:List (Str×Value)}{m:Str->Option Value},(∀v,(x,v)∉binds)->bindC kindOf binds m x=m x
 |[],_,_=>rfl
 |(n,v)::r,m,h=>by
  unfold bindC;rw[EB λw hw=>h w (List.mem_cons_of_mem _ hw)];split
  ·rfl
  ·have:x≠n:=by rintro rfl;exact h v List.mem_cons_self
   simp[this]
theorem GB{kindOf:Str->Option NameKind}{x:Str}{v:Value}:∀{P:List Str}{vs:List Value}{i:Nat}{m:Str->Option Value},P.Nodup->P[i]?=some x->vs[i]?=some v->kindOf x=some .local->bindL kindOf (P.zip vs) m x=some v
 |[],_,_,_,_,h,_,_=>by simp at h
 |_::_,[],_,_,_,_,h,_=>by simp at h
 |p::P,w::vs,0,m,nd,h1,h2,hk=>by
  simp at h1 h2;subst h1;subst h2;show bindL kindOf ((p,w)::P.zip vs) m p=_;unfold bindL;rw[HB λv hv=>(List.nodup_cons.mp nd).1 (List.of_mem_zip hv).1,if_pos hk];simp
 |p::P,w::vs,i+1,m,nd,h1,h2,hk=>by
  show bindL kindOf ((p,w)::P.zip vs) m x=_;unfold bindL;exact GB (i:=i) (List.nodup_cons.mp nd).2 (by simpa using h1) (by simpa using h2) hk
theorem DB{kindOf:Str->Option NameKind}{x:Str}{v:Value}:∀{P:List Str}{vs:List Value}{i:Nat}{m:Str->Option Value},P.Nodup->P[i]?=some x->vs[i]?=some v->kindOf x≠some .local->bindC kindOf (P.zip vs) m x=some v
 |[],_,_,_,_,h,_,_=>by simp at h
 |_::_,[],_,_,_,_,h,_=>by simp at h
 |p::P,w::vs,0,m,nd,h1,h2,hk=>by
  simp at h1 h2;subst h1;subst h2;show bindC kindOf ((p,w)::P.zip vs) m p=_;unfold bindC;rw[EB λv hv=>(List.nodup_cons.mp nd).1 (List.of_mem_zip hv).1,if_neg hk];simp
 |p::P,w::vs,i+1,m,nd,h1,h2,hk=>by
  show bindC kindOf ((p,w)::P.zip vs) m x=_;unfold bindC;exact DB (i:=i) (List.nodup_cons.mp nd).2 (by simpa using h1) (by simpa using h2) hk
def start(N:List Str)(vs:List V):St:=vs.map some++List.replicate (N.length-vs.length) none
def jE(CX:tM)(P:Program)(w:World)(K:PySem.W.Frag)(mg:Str->Option Value)(base:Heap)(N:List Str)(qual:Str)(scope:Scope)(f:Addr)(cd:Value)(A:Around)(outer:List Env)(s:Shared)(H:Hp)(E:XK):Cx where
 prog:=P
 w:=w
 K:=K
 mg:=mg
 base:=base
 A:=A.deeper (envOfC qual scope s.heap.objs.size f cd)
 N:=N
 wD:=s
 bV:=H
 env:=envOfC qual scope s.heap.objs.size f cd
 outer:=outer
 stack:=envOfC qual scope s.heap.objs.size f cd::outer
 ex:=[]
 calm:=true
 fn:=λ_=>true
 pn:=[]
 xe:=λe s'=>wpAny (model P w) (A.deeper (envOfC qual scope s.heap.objs.size f cd)) (leaving (envOfC qual scope s.heap.objs.size f cd) e) (λ_ s''=>CX outer H s E e s'') (λe' s''=>CX outer H s E e' s'') s'
theorem zG{sc:Scope}{n:Nat}{x:Str}(h:sc.names.lookup x=some .cell):∃c,(cellsFrom n sc.names []).lookup x=some c:=by
 have q:=PySem.W.cellsFrom_some sc.names n [] (.inl h);exact Option.isSome_iff_exists.mp q
theorem mO{CX:tM}{P:Program}{w:World}{K:PySem.W.Frag}{mg:Str->Option Value}{base:Heap}{N ps:List Str}{qual:Str}{scope:Scope}{f:Addr}{cd:Value}{A:Around}{outer:List Env}{s s1:Shared}{H:Hp}{E:XK}{us:List Value}{vs:List V}(S:Qw N ps scope)(hd:A.handled=none)(e0:tG P w K mg base A outer s H)(hl:vs.length=ps.length)(r:Vals vs us)(x:InCallC s s.heap.objs.size (bindL (envOfC qual scope s.heap.objs.size f cd).kindOf (ps.zip us) λ_=>none) (cellsFrom (s.heap.objs.size+1) scope.names []) (bindC (envOfC qual scope s.heap.objs.size f cd).kindOf (ps.zip us) λ_=>none) s1):Inv (jE CX P w K mg base N qual scope f cd A outer s H E) [] (start N vs) H s1:=by
 have hpl:ps.length<=N.length:=by have:=congrArg List.length S.pre;rw[List.length_take] at this;lia
 obtain⟨h1,tk,rfl,hk⟩:=x.done;have noA:∀b:Addr,b∉(jE CX P w K mg base N qual scope f cd A outer s H E).ex:=λb z=>absurd (show b∈([]:List Addr) from z) (by simp);refine⟨⟨e0.mod,S.kind,rfl,rfl,Nat.le_refl _,λy z c h1 h2=>?_,λy hy=>?_,λy c _ h=>?_,λ_=>hd,Around.frames_deeper e0.frames,.inr ⟨rfl,rfl⟩,λb z=>absurd z (noA b),e0.bs,e0.jQ,λb _ _=>noA b,λb z=>absurd z (noA b),e0.Tt,e0.qT⟩,
  rfl,e0.bare,Un.kept hk,⟨_,x.toInCall.ns,λi y v h1 h2 h3=>?_⟩,λy c h=>⟨_,x.cell y c h⟩,e0.Kb.fresh (Nat.le_refl _),λy c h=>?_,λp hp=>absurd (show p∈([]:List (Addr×Obj)) from hp) (by simp),e0.Kb.kept hk,?_⟩
 ·exact name_of_addr x.apart (PySem.mem_of_lookup h1) (PySem.mem_of_lookup h2)
 ·have hy:scope.names.lookup y=some .cell\/scope.names.lookup y=some .free:=hy;rcases hy with hy|hy
  ·exact zG hy
  ·exact absurd rfl (S.kW _ (PySem.mem_of_lookup hy))
 ·exact Nat.le_of_lt (x.above y c (PySem.mem_of_lookup h))
 ·have hi:i<vs.length:=by
   unfold start at h2;by_cases hi:i<vs.length
   ·exact hi
   ·rw[List.getElem?_append_right (by simpa using hi)] at h2;rw[List.getElem?_replicate] at h2;split at h2<;>cases h2
  have ha:vs[i]?=some v:=by
   unfold start at h2;rw[List.getElem?_append_left (by simpa using hi),List.getElem?_map] at h2;cases e:vs[i]? with
   |none=>rw[e] at h2;cases h2
   |some a=>rw[e] at h2;cases h2;rfl
  obtain⟨u,hu,rv⟩:=r.get ha;have hp:ps[i]?=some y:=by
   rw[<-S.pre,List.getElem?_take_of_lt (by lia)];exact h1
  have ndP:ps.Nodup:=by rw[<-S.pre];exact S.nd.sublist (List.take_sublist _ _)
  refine⟨u,rv,?_⟩;rcases S.par y (List.mem_of_getElem? hp) with k|k
  ·exact .inl ⟨k,GB ndP hp hu k⟩
  ·obtain⟨c,e⟩:=zG (n:=s.heap.objs.size+1) k;refine .inr ⟨.inl k,c,e,?_⟩;have q:=x.cell y c e;rw[DB ndP hp hu (by show scope.names.lookup y≠_;rw[k];decide)] at q;exact q
 ·exact e0.Kb.fresh (Nat.le_of_lt (x.above y c (PySem.mem_of_lookup h)))
 ·unfold start;show _=N.length;rw[List.length_append,List.length_map,List.length_replicate];lia
theorem FX{CX:tM}{P:Program}{w:World}{K:PySem.W.Frag}{mg:Str->Option Value}{base:Heap}{k:Nat}{f:Addr}{name qual:Str}{params:Arguments}{body:List Stmt}{scope:Scope}{dV kV doc pm cdv ct oc:Value}{an od:Option Addr}{osl:Array (Option Value)}{N ps:List Str}{sp:Sp}(lk:K.lookup f=some ⟨oc,od,.func (PySem.W.fnOf name qual params body scope dV kV doc pm an cdv ct),osl⟩)(hcd:PySem.W.codeIn K cdv qual=true)(S:Qw N ps scope)(len:∀vs H Q E,sp vs H Q E->vs.length=ps.length)(hbody:∀(A:Around)(outer:List Env)(s:Shared)(H:Hp)(vs:List V)(Q:VK)(E:XK),Ef k (A.deeper (envOfC qual scope s.heap.objs.size f cdv))->sp vs H Q E->∃t,vJ (jE CX P w K mg base N qual scope f cdv A outer s H E) body t/\t {nx:=λ_ H'=>Q .Vb H',rt:=Q} (start N vs) H):Ua P w K mg base CX (k+1) f (PySem.W.fnOf name qual params body scope dV kV doc pm an cdv ct) ps sp:=by
 refine⟨len,λA outer s H args us vs Q E hr e0 hb r hsp=>?_⟩;have hl:=len _ _ _ _ hsp;have KX:K.In s.heap:=e0.mod.xY.keeps λb o e=>(e0.bs b o e).1;have lim:s.heap.NoLimit:=e0.mod.nolimit.keeps λb o e=>(e0.bs b o e).1;have hkind:∀y∈ps.zip us,scope.names.lookup y.1=some .local\/(scope.names.lookup y.1=some .cell/\((cellsFrom (s.heap.objs.size+1) scope.names []).lookup y.1).isSome=true):=λ⟨n,v⟩ hy=>by
  rcases S.par n (List.of_mem_zip hy).1 with q|q
  ·exact .inl q
  ·exact .inr ⟨q,PySem.W.cellsFrom_some _ _ _ (.inl q)⟩
 refine codeAny_call_function hr.depth (KX _ _ lk) rfl S.co S.gen rfl (PySem.W.codeRec_of KX hcd) (hb _ _ _ _ ?_);refine wpAny_newFunctionEnv_cells S.kind hkind λenv he s1 x=>?_;subst he;refine⟨lim.keeps x.toInCall.keep,codeAny_func ?_⟩;obtain⟨t,ht,hq⟩:=hbody A outer s H vs Q E (hr.deeper _) hsp;have I:Inv (jE CX P w K mg base N qual scope f cdv A outer s H E) [] (start N vs) H s1:=mO S hr.hd e0 hl r x;refine wpAny_mono (ht [] s1 (start N vs) H _ I hq) (λfl s' hs=>?_) λe s' hs=>hs;have fin:∀{σ':St}{H':Hp}{v:V}{u:Value},Inv (jE CX P w K mg base N qual scope f cdv A outer s H E) [] σ' H' s'->RelV v u->Q v H'->CE outer P w H s Q u s':=
  λ{σ' H' v u} J rv q=>⟨v,H',J.os,J.bare,J.base,J.Kb,rv,q⟩
 cases fl with
 |ret u=>
  obtain⟨v,σ',H',J,rv,q⟩:=hs;exact fin J rv q
 |next=>
  obtain⟨σ',H',J,q⟩:=hs;exact fin (v:=V.Vb) (u:=Value.none) J rfl q
 |brk=>
  obtain⟨_,_,_,q⟩:=hs;exact False.elim q
 |cont=>
  obtain⟨_,_,_,q⟩:=hs;exact False.elim q
end L2
namespace L2
open PySem PySem.Spec PyProof.Rows
section
variable{X:Cx}{x:Str}{p pos:Pos}{e:Expr}{es:List Expr}{t:TA}{id T:String}{r:List V->Hp->VK->Prop}
def oZ(r:List V->Hp->VK->Prop)(t:TA):TE:=λσ H Q=>t σ H λvs H1=>r vs H1 Q
theorem Oa(hc:ye X (.builtin id) r)(hg:Gl X x)(hm:X.mg x=none)(hv:bootBuiltins x=some (.builtin id))(ha:PA X (e::es) t)(hn:x≠"__name__":=by decide)(hdb:(x==("__debug__":Str))=false:=by decide)(he:starEach (e::es) X.env=(false,eval e X.env)::starEach es X.env:=by rfl)(hpl:(backTo pos (starEach es X.env)).any (·.1)=false:=by rfl):PE X (.Call (.Name x p) (e::es) [] pos) (oZ r t):=by
 intro pins s σ H Q I h;refine wpAny_Call_Name_kw (Jk I hg hm hv ?_ hn hdb);exact PyProof.Rows.callWith_builtin1 (yc (ha pos pins s σ H _ I h) λus s1⟨vs,H1,I1,r1,q1⟩=>hc pins s1 σ H1 vs us Q I1 r1 q1) he hpl
theorem cf(hc:ye X (.type T) r)(hg:Gl X x)(hm:X.mg x=none)(hv:bootBuiltins x=some (.type T))(ha:PA X (e::es) t)(hn:x≠"__name__":=by decide)(hdb:(x==("__debug__":Str))=false:=by decide)(he:starEach (e::es) X.env=(false,eval e X.env)::starEach es X.env:=by rfl)(hpl:(backTo pos (starEach es X.env)).any (·.1)=false:=by rfl):PE X (.Call (.Name x p) (e::es) [] pos) (oZ r t):=by
 intro pins s σ H Q I h;refine wpAny_Call_Name_kw (Jk I hg hm hv ?_ hn hdb);exact PyProof.Rows.callWith_type1 (yc (ha pos pins s σ H _ I h) λus s1⟨vs,H1,I1,r1,q1⟩=>hc pins s1 σ H1 vs us Q I1 r1 q1) he hpl
end
end L2
namespace HT
open PySem PyProof.Rows
section
open PySem.SeqAt
open PySem.AutoSeq1 (wpAny_loadPart')
open PySem.MeetsSeq PySem.MeetsSeq2 PySem.MeetsSeq3
end
section
variable{prog:Program}{w:World}{A:Around}{E:Value->Shared->Prop}{s:Shared}
def rG(n d:Nat):Option Int->Nat
 |none=>d
 |some v=>if v<0 then(v+(n:Int)).toNat else min v.toNat n
end
end HT
namespace L2
open PySem PySem.Spec PyProof.Rows
abbrev TO:=St->Hp->(Option Int->Hp->Prop)->Prop
def PO(X:Cx)(e:Option Expr)(t:TO):Prop:=
 ∀(pins:List (Addr×Obj))(s:Shared)(σ:St)(H:Hp)(Q:Option Int->Hp->Prop),Inv X pins σ H s->t σ H Q->
  wpAny (model X.prog X.w) X.A (evalPart e X.env) (λu s'=>∃o H',Inv X pins σ H' s'/\IsPart u o/\Q o H') X.xe s
def BN:TO:=λ_ H Q=>Q none H
def SU(t:TE):TO:=λσ H Q=>t σ H λx H1=>∃i,x=.int i/\Q (some i) H1
section
variable{X:Cx}{e:Expr}{te:TE}{lo hi:Option Expr}{tl th:TO}{pos p2:Pos}
theorem Vi:PO X none BN:=by
 intro pins s σ H Q I h;rw[evalPart_none];exact wpAny_pure ⟨none,H,I,.none,h⟩
theorem Kg(h:PE X e te):PO X (some e) (SU te):=by
 intro pins s σ H Q I hw;rw[evalPart_some];refine yc (h pins s σ H _ I hw) λu s1⟨x,H1,I1,r1,q1⟩=>?_;obtain⟨i,rfl,q⟩:=q1;obtain⟨t,rfl⟩:=r1;exact⟨some i,H1,I1,.int i t,q⟩
def MY(X:Cx)(r:V->Option Int->Option Int->Hp->VK->Prop):Prop:=
 ∀(pins:List (Addr×Obj))(s:Shared)(σ:St)(H:Hp)(x:V)(v vl vu:Value)(lo hi:Option Int)(sl:Addr)(Q:VK),Inv X pins σ H s->RelV x v->s.heap.IsSliceOf sl vl vu .none->IsPart vl lo->IsPart vu hi->r x lo hi H Q->
  ∃T id,typeLookup (.type T) "__getitem__"=pure (some (.builtin id))/\s.TypeIs v T/\wpAny (model X.prog X.w) X.A (getItem v (.ref sl)) (EP X pins σ Q) X.xe s
def zZ(r:V->Option Int->Option Int->Hp->VK->Prop)(te:TE)(tl th:TO):TE:=λσ H Q=>te σ H λx H1=>tl σ H1 λl H2=>th σ H2 λu H3=>r x l u H3 Q
theorem Xf{r:V->Option Int->Option Int->Hp->VK->Prop}(hr:MY X r)(he:PE X e te)(hl:PO X lo tl)(hu:PO X hi th):PE X (.Subscript e (.Slice lo hi none p2) pos) (zZ r te tl th):=by
 intro pins s σ H Q I h;refine Subscript_ (yc (he pins s σ H _ I h) λv s1⟨x,H1,I1,r1,q1⟩=>?_);refine wpAny_Slice (yc (hl pins s1 σ H1 _ I1 q1) λvl s2⟨l,H2,I2,pl,q2⟩=>yc (hu pins s2 σ H2 _ I2 q2) λvu s3⟨u,H3,I3,pu,q3⟩=>?_);rw[evalPart_none];refine wpAny_pure ?_;have I4:Inv X pins σ H3 {s3 with heap:=s3.heap.push {cls:=.type "slice",data:=.fields #[vl,vu,.none]}}:=I3.kept (t':=s3.toks) λb ob q=>Heap.get?_push_of_some _ q;obtain⟨T,id,hT,ht,hg⟩:=hr pins {s3 with heap:=s3.heap.push {cls:=.type "slice",data:=.fields #[vl,vu,.none]}} σ H3 x v vl vu l u s3.heap.objs.size Q I4 r1 (Heap.IsSliceOf.new ..) pl pu q3;show wpAny (model X.prog X.w) X.A (subscriptTail e (.Slice lo hi none p2) v (.ref s3.heap.objs.size)) (EP X pins σ Q) X.xe {s3 with heap:=s3.heap.push {cls:=.type "slice",data:=.fields #[vl,vu,.none]}};exact tail_any (ops:=[.ref s3.heap.objs.size,v]) ht hT hg (by with_unfolding_all rfl)
def iw(xs:List V)(lo hi:Option Int):List V:=(xs.drop (HT.rG xs.length 0 lo)).take (HT.rG xs.length xs.length hi-HT.rG xs.length 0 lo)
theorem AG(xs:List V)(lo hi:Option Int):(iw xs lo hi).length<=xs.length:=by
 unfold iw;rw[List.length_take,List.length_drop];lia
end
end L2
namespace L2
open PySem PySem.Spec PyProof.Rows
def yT(n:Nat)(i:Int):Option Nat:=if 0<=i then(if i<n then some i.toNat else none) else if -(n:Int)<=i then some (i+n).toNat else none
def uM{α:Type}(xs:List α)(i:Int):Option α:=(yT xs.length i).bind λj=>xs[j]?
theorem PM{n:Nat}{i:Int}{j:Nat}(h:yT n i=some j):seqIndex? i n=some j/\j<n/\-(n:Int)<=i/\i<n:=by
 unfold yT at h;by_cases h0:0<=i
 ·rw[if_pos h0] at h;by_cases h1:i<n
  ·rw[if_pos h1] at h;have e:i.toNat=j:=Option.some.inj h;exact⟨by rw[seqIndex_of h0 h1,e],by lia,by lia,h1⟩
  ·rw[if_neg h1] at h;cases h
 ·rw[if_neg h0] at h;by_cases h1:-(n:Int)<=i
  ·rw[if_pos h1] at h;have e:(i+n).toNat=j:=Option.some.inj h;exact⟨by rw[seqIndex_neg (by lia) h1,e],by lia,h1,by lia⟩
  ·rw[if_neg h1] at h;cases h
theorem YD{α:Type}{xs:List α}{i:Int}{v:α}(h:uM xs i=some v):∃j,seqIndex? i xs.length=some j/\xs[j]?=some v/\j<xs.length/\-(xs.length:Int)<=i/\i<xs.length:=by
 unfold uM at h;cases e:yT xs.length i with
 |none=>rw[e] at h;cases h
 |some j=>
  rw[e] at h;obtain⟨h1,h2,h3,h4⟩:=PM e;exact⟨j,h1,h,h2,h3,h4⟩
theorem wa{α:Type}{xs:List α}{j:Nat}{v:α}(h:xs[j]?=some v):uM xs (j:Int)=some v:=by
 have hj:j<xs.length:=(List.getElem?_eq_some_iff.mp h).1;have e:yT xs.length (j:Int)=some j:=by
  unfold yT;rw[if_pos (by lia),if_pos (by lia)];simp
 unfold uM;rw[e];exact h
def UD(b:Expr):Prop:=∀o i,subscripted b false o i=operate [o,i] (getItem o i)
def XW(X:Cx)(r:R2):Prop:=
 ∀(value slice:Expr)(pins:List (Addr×Obj))(s:Shared)(σ:St)(H:Hp)(x y:V)(v u:Value)(Q:VK),Inv X pins σ H s->RelV x v->RelV y u->r x y H Q->
  subscripted slice false v u=operate [v,u] (getItem v u)->wpAny (model X.prog X.w) X.A (subscriptTail value slice v u) (EP X pins σ Q) X.xe s
def OP(X:Cx)(id:String)(r:V->List V->Hp->VK->Prop):Prop:=
 ∀(pins:List (Addr×Obj))(s:Shared)(σ:St)(H:Hp)(x:V)(xs:List V)(v:Value)(us:List Value)(Q:VK),Inv X pins σ H s->RelV x v->Vals xs us->r x xs H Q->
  wpAny (model X.prog X.w) X.A (call (.builtin id) (v::us)) (EP X pins σ Q) X.xe s
section
variable{X:Cx}{a b:Expr}{ta tb:TE}{pos:Pos}
theorem XH{r:R2}(hr:XW X r)(ha:PE X a ta)(hb:PE X b tb)(hs:UD b):PE X (.Subscript a b pos) (CP r ta tb):=by
 intro pins s σ H Q I h;exact Subscript_ (lV ha hb I h λv u s2 x y H2 I2 rx ry q=>hr a b pins s2 σ H2 x y v u Q I2 rx ry q (hs _ _))
def Ld(K:PySem.W.Frag):R2:=λx y H Q=>∃p xs i v,x=.ref p/\y=.int i/\Ha K H p xs/\uM xs i=some v/\Q v H
def Xd(K:PySem.W.Frag):R2:=λx y H Q=>∃p xs i v,x=.ref p/\y=.int i/\mh K H p xs/\uM xs i=some v/\Q v H
def Ge:R2:=λx y H Q=>∃z i c,x=.str z/\y=.int i/\z.length<=sizeLine/\uM z.cps.toList i=some c/\Q (.str ⟨#[c]⟩) H
theorem zT:XW X (Ld X.K):=by
 intro value slice pins s σ H x y v u Q I rx ry h hs;obtain⟨p,xs,i,z,rfl,rfl,hq,he,q⟩:=h;cases rx;obtain⟨t,rfl⟩:=ry;obtain⟨its,r,pl,hz⟩:=I.list hq;obtain⟨j,h1,h2,h3,h4,h5⟩:=YD he;obtain⟨w,ew,rw'⟩:=r.get h2;have hl:=r.length;have hn:=cn;have fin:EP X pins σ Q w s:=⟨z,H,I,rw',q⟩;by_cases h0:0<=i
 ·have hj:i.toNat=j:=by
   rw[seqIndex_of h0 h5] at h1;exact Option.some.inj h1
  exact item_listR pl.isList h0 (by lia) (by rw[hj];simpa using ew) fin hs
 ·have hj:(i+(its.toArray.size:Int)).toNat=j:=by
   rw[seqIndex_neg (by lia) h4] at h1;rw[List.size_toArray,<-hl];exact Option.some.inj h1
  exact subscriptTail_builtinR (x:=w) pl.isList.typeIs slot_list_getitem.lookup
   (wpAny_getItem_list_neg (Q:=λr s'=>r=w/\EP X pins σ Q r s') pl.isList (by lia) (by rw[List.size_toArray]<;>lia) (by lia) (by rw[hj];simpa using ew) ⟨rfl,fin⟩) hs
theorem TV:XW X (Xd X.K):=by
 intro value slice pins s σ H x y v u Q I rx ry h hs;obtain⟨p,xs,i,z,rfl,rfl,hq,he,q⟩:=h;cases rx;obtain⟨t,rfl⟩:=ry;obtain⟨its,r,pl,hz⟩:=I.tuple hq;obtain⟨j,h1,h2,h3,h4,h5⟩:=YD he;obtain⟨w,ew,rw'⟩:=r.get h2;have hl:=r.length;have hn:=cn;have fin:EP X pins σ Q w s:=⟨z,H,I,rw',q⟩;exact subscriptTail_builtinR (x:=w) pl.typeIs slot_tuple_getitem.lookup
  (getItem_tuple (j:=j) (Q:=λr s'=>r=w/\EP X pins σ Q r s') pl (by lia) (by lia) (by rw[List.size_toArray,<-hl];exact h1) (by simpa using ew) ⟨rfl,fin⟩) hs
theorem bK:XW X Ge:=by
 intro value slice pins s σ H x y v u Q I rx ry h hs;obtain⟨z,i,c,rfl,rfl,hz,he,q⟩:=h;obtain⟨t,rfl⟩:=rx;obtain⟨t',rfl⟩:=ry;obtain⟨j,h1,h2,h3,h4,h5⟩:=YD he;have hl:z.cps.toList.length=z.length:=by simp[Str.length]
 rw[hl] at h1 h4 h5;have hn:=cn;exact tail_any (typeIs_str s z t) slot_str_getitem.lookup (getItem_str (c:=c) (by
  have e1:decide (i< -(2^63:Int))=false:=decide_eq_false (by lia);have e2:decide (i>=2^63)=false:=decide_eq_false (by lia);rw[e1,e2,Bool.or_false]) (by rw[h1];simpa using h2) ⟨.str ⟨#[c]⟩,H,I.tok _,⟨_,rfl⟩,q⟩) hs
theorem vK(its:List Value)(n j:Nat)(u:Value):Obj.mapSeq (·.setIfInBounds j u) {cls:=.type "list",data:=.seq its.toArray n}={cls:=.type "list",data:=.seq (its.set j u).toArray n}:=by
 simp[Obj.mapSeq]
theorem Inv.lst{pins:List (Addr×Obj)}{σ:St}{H:Hp}{s:Shared}{p:Addr}{xs:List V}(I:Inv X pins σ H s)(h:H p=some (.lst xs)):∃(its:List Value)(n:Nat),Vals xs its/\s.heap.get? p=some {cls:=.type "list",data:=.seq its.toArray n}/\xs.length<=sizeLine:=by
 obtain⟨z,its,n,r,e⟩:=I.Kb p _ h;exact⟨its,n,r,e,z⟩
theorem Inv.iW{pins:List (Addr×Obj)}{σ:St}{H:Hp}{s:Shared}{p:Addr}{xs ys:List V}{its its':List Value}{n n':Nat}{f:Obj->Obj}(I:Inv X pins σ H s)(h:H p=some (.lst xs))(ho:s.heap.get? p=some {cls:=.type "list",data:=.seq its.toArray n})(hf:f {cls:=.type "list",data:=.seq its.toArray n}={cls:=.type "list",data:=.seq its'.toArray n'})(r:Vals ys its')(hz:ys.length<=sizeLine)(t:Nat):Inv X pins σ (upd H p (.lst ys)) {s with heap:=s.heap.update p f,toks:=t}:=by
 have e:(s.heap.update p f).get? p=some {cls:=.type "list",data:=.seq its'.toArray n'}:=by
  rw[Heap.get?_update_self f ho (by rw[hf]<;>rfl),hf]
 refine I.write (x:=p) (e:=p) (by rw[h];trivial) (.inl rfl) (λb u hb q=>(Heap.get?_update_other _ _ (Ne.symm hb)).trans q) ⟨_,e⟩ ?_;exact⟨hz,its',n',r,e⟩
def fI:V->V->V->Hp->(Hp->Prop)->Prop:=λo i v H Q=>∃p xs k j,o=.ref p/\i=.int k/\H p=some (.lst xs)/\yT xs.length k=some j/\Q (upd H p (.lst (xs.set j v)))
theorem set_list:fV X fI:=by
 intro pins s σ H o i v ov iv u Q I ro ri rv h;obtain⟨p,xs,k,j,rfl,rfl,hp,hj,q⟩:=h;cases ro;obtain⟨t,rfl⟩:=ri;obtain⟨its,n,r,ho,hz⟩:=I.lst hp;obtain⟨h1,h2,h3,h4⟩:=PM hj;have hl:=r.length;have hn:=cn;have I':Inv X pins σ (upd H p (.lst (xs.set j v))) {s with heap:=s.heap.update p (Obj.mapSeq (·.setIfInBounds j u))}:=
  I.iW hp ho (vK its n j u) (r.set rv j) (by rw[List.length_set];exact hz) s.toks
 by_cases h0:0<=k
 ·have hk:k.toNat=j:=by
   rw[seqIndex_of h0 h4] at h1;exact Option.some.inj h1
  exact PySem.W.ki_setAt ho h0 (by lia) (by rw[List.size_toArray,<-hl];exact h4) (by rw[hk];exact⟨_,I',q⟩)
 ·have hk:(k+(its.toArray.size:Int)).toNat=j:=by
   rw[seqIndex_neg (by lia) h3] at h1;rw[List.size_toArray,<-hl];exact Option.some.inj h1
  exact PySem.W.ki_setBack ho (by lia) (by rw[List.size_toArray,<-hl];exact h3) (by lia) (by rw[hk];exact⟨_,I',q⟩)
theorem NF(lo hi:Option Int)(n:Nat):(sliceBounds lo hi none n).1=((HT.rG n 0 lo:Nat):Int)/\(sliceBounds lo hi none n).2.1=((HT.rG n n hi:Nat):Int)/\(sliceBounds lo hi none n).2.2=1:=by
 refine⟨?_,?_,rfl⟩
 ·cases lo with
  |none=>simp[sliceBounds,HT.rG]
  |some i=>
   simp only[sliceBounds,HT.rG,Option.getD_none,show(1:Int)>0 by decide,if_true];by_cases h:i<0
   ·simp only[h,if_true]<;>lia
   ·simp only[h,if_false]<;>lia
 ·cases hi with
  |none=>simp[sliceBounds,HT.rG]
  |some i=>
   simp only[sliceBounds,HT.rG,Option.getD_none,show(1:Int)>0 by decide,if_true];by_cases h:i<0
   ·simp only[h,if_true]<;>lia
   ·simp only[h,if_false]<;>lia
theorem oB(its:List Value)(lo hi:Option Int):slicePick its.toArray lo hi none=((its.drop (HT.rG its.length 0 lo)).take (HT.rG its.length its.length hi-HT.rG its.length 0 lo)).toArray:=by
 obtain⟨h1,h2,h3⟩:=NF lo hi its.toArray.size;unfold slicePick;rw[h1,h2,h3];simp only[sliceRange_one,pick_run,List.size_toArray]<;>rfl
def Jf(K:PySem.W.Frag):V->Option Int->Option Int->Hp->VK->Prop:=λx lo hi H Q=>∃a xs,x=.ref a/\Ha K H a xs/\∀p,H p=none->Q (.ref p) (upd H p (.lst (iw xs lo hi)))
theorem qU:MY X (Jf X.K):=by
 intro pins s σ H x v vl vu lo hi sl Q I rx hs pl pu h;obtain⟨a,xs,rfl,hx,q⟩:=h;cases rx;obtain⟨its,r,ht,hz⟩:=I.list hx;have hlen:=r.length;refine⟨"list",_,slot_list_getitem.lookup,ht.isList.typeIs,?_⟩;refine wpAny_getItem_list_slice ht.isList hs pl pu .none (by simp) ?_ (by rw[List.size_toArray]<;>lia);rw[oB,<-hlen];refine⟨.ref s.heap.objs.size,_,I.laid (t':=s.toks) (o:=.lst (iw xs lo hi)) (λb ob q=>Heap.get?_push_of_some _ q) (Nat.le_refl _) ?_,rfl,q _ (I.Kb.fresh (Nat.le_refl _))⟩;exact⟨Nat.le_trans (AG xs lo hi) hz,_,0,(r.drop (HT.rG xs.length 0 lo)).take (HT.rG xs.length xs.length hi-HT.rG xs.length 0 lo),Heap.get?_push_size _ rfl⟩
def Ri:V->Bool
 |.Vb=>true
 |.bl _=>true
 |.int _=>true
 |.str _=>true
 |_=>false
def QP:V->V->Bool
 |.Vb,.Vb=>true
 |.bl a,.bl b=>a==b
 |.bl a,.int b=>(if a then 1 else 0)==b
 |.int a,.bl b=>a==(if b then 1 else 0)
 |.int a,.int b=>a==b
 |.str a,.str b=>a==b
 |_,_=>false
theorem DV{A:Around}{s:Shared}{y x:V}{u v:Value}(ry:RelV y u)(rx:RelV x v)(fy:Ri y=true)(fx:Ri x=true):SeqAt.EqAt A s u v (QP y x):=by
 cases y with
 |Vb=>
  cases ry;cases x with
  |Vb=>cases rx;exact SeqAt.EqAt.same _
  |bl b=>cases rx;exact SeqAt.EqAt.none_bool b
  |int b=>obtain⟨t,rfl⟩:=rx;exact SeqAt.EqAt.none_int b t
  |str b=>obtain⟨t,rfl⟩:=rx;exact SeqAt.EqAt.none_str b t
  |_=>exact absurd (show false=true from fx) Bool.false_ne_true
 |bl a=>
  cases ry;cases x with
  |Vb=>cases rx;exact SeqAt.EqAt.bool_none a
  |bl b=>cases rx;exact SeqAt.EqAt.bool_bool a b
  |int b=>obtain⟨t,rfl⟩:=rx;exact SeqAt.EqAt.bool_int a b t
  |str b=>obtain⟨t,rfl⟩:=rx;exact SeqAt.EqAt.bool_str a b t
  |_=>exact absurd (show false=true from fx) Bool.false_ne_true
 |int a=>
  obtain⟨t',rfl⟩:=ry;cases x with
  |Vb=>cases rx;exact SeqAt.EqAt.int_none a t'
  |bl b=>cases rx;exact SeqAt.EqAt.int_bool a t' b
  |int b=>obtain⟨t,rfl⟩:=rx;exact SeqAt.EqAt.int_int a t' b t
  |str b=>obtain⟨t,rfl⟩:=rx;exact SeqAt.EqAt.int_str a t' b t
  |_=>exact absurd (show false=true from fx) Bool.false_ne_true
 |str a=>
  obtain⟨t',rfl⟩:=ry;cases x with
  |Vb=>cases rx;exact SeqAt.EqAt.str_none a t'
  |bl b=>cases rx;exact SeqAt.EqAt.str_bool a t' b
  |int b=>obtain⟨t,rfl⟩:=rx;exact SeqAt.EqAt.str_int a t' b t
  |str b=>obtain⟨t,rfl⟩:=rx;exact SeqAt.EqAt.str_str a t' b t
  |_=>exact absurd (show false=true from fx) Bool.false_ne_true
 |_=>exact absurd (show false=true from fy) Bool.false_ne_true
def sJ(x:V)(u:Value):Bool:=match u with
 |.none=>QP .Vb x
 |.bool b=>QP (.bl b) x
 |.int i _=>QP (.int i) x
 |.str z _=>QP (.str z) x
 |_=>false
theorem nE{x y:V}{u:Value}(r:RelV y u)(f:Ri y=true):sJ x u=QP y x:=by
 cases y with
 |Vb=>cases r;rfl
 |bl b=>cases r;rfl
 |int i=>obtain⟨t,rfl⟩:=r;rfl
 |str z=>obtain⟨t,rfl⟩:=r;rfl
 |_=>exact absurd (show false=true from f) Bool.false_ne_true
theorem jr{x:V}:∀{xs:List V}{us:List Value},Vals xs us->xs.all Ri=true->us.any (sJ x)=xs.any λy=>QP y x
 |_,_,.nil,_=>rfl
 |y::xs,u::us,.cons r t,f=>by
  rw[List.all_cons,Bool.and_eq_true] at f;rw[List.any_cons,List.any_cons,nE r f.1,jr t f.2]
theorem Rj{A:Around}{s:Shared}{x:V}{v:Value}(rx:RelV x v)(fx:Ri x=true):∀{xs:List V}{us:List Value},Vals xs us->xs.all Ri=true->∀u∈us,SeqAt.EqAt A s u v (sJ x u)
 |_,_,.nil,_=>λu hu=>by cases hu
 |y::xs,u::us,.cons r t,f=>λu' hu=>by
  rw[List.all_cons,Bool.and_eq_true] at f;rcases List.mem_cons.mp hu with rfl|hu
  ·rw[nE r f.1];exact DV r rx f.1 fx
  ·exact Rj rx fx t f.2 u' hu
def dX(x:V)(xs:List V):Bool:=xs.any λy=>QP y x
def UX(K:PySem.W.Frag)(neg:Bool):R2:=λx y H Q=>∃p xs,y=.ref p/\(Ha K H p xs\/mh K H p xs)/\Ri x=true/\xs.all Ri=true/\Q (.bl (if neg then !dX x xs else dX x xs)) H
theorem NO:gp X (compareOp .In) (UX X.K false):=by
 intro pins s σ H x y v u Q I rx ry h;obtain⟨p,xs,rfl,hq,fx,fs,q⟩:=h;cases ry;rcases hq with hq|hq
 ·obtain⟨its,r,pl,hz⟩:=I.list hq;refine SeqAt.in_listAt (sJ x) pl.isList (λw hw=>Rj rx fx r fs w (by simpa using hw)) ⟨.bl _,H,I,rfl,?_⟩;rw[show its.toArray.any (sJ x)=its.any (sJ x) by simp,jr r fs];exact q
 ·obtain⟨its,r,pl,hz⟩:=I.tuple hq;refine SeqAt.in_tupleAt (sJ x) pl (λw hw=>Rj rx fx r fs w (by simpa using hw)) ⟨.bl _,H,I,rfl,?_⟩;rw[show its.toArray.any (sJ x)=its.any (sJ x) by simp,jr r fs];exact q
theorem oF:gp X (compareOp .NotIn) (UX X.K true):=by
 intro pins s σ H x y v u Q I rx ry h;obtain⟨p,xs,rfl,hq,fx,fs,q⟩:=h;cases ry;rcases hq with hq|hq
 ·obtain⟨its,r,pl,hz⟩:=I.list hq;refine SeqAt.notIn_listAt (sJ x) pl.isList (λw hw=>Rj rx fx r fs w (by simpa using hw)) ⟨.bl _,H,I,rfl,?_⟩;rw[show its.toArray.any (sJ x)=its.any (sJ x) by simp,jr r fs];exact q
 ·obtain⟨its,r,pl,hz⟩:=I.tuple hq;refine SeqAt.notIn_tupleAt (sJ x) pl (λw hw=>Rj rx fx r fs w (by simpa using hw)) ⟨.bl _,H,I,rfl,?_⟩;rw[show its.toArray.any (sJ x)=its.any (sJ x) by simp,jr r fs];exact q
theorem dE:ye X (.builtin "len") (λxs H Q=>∃p ys,xs=[.ref p]/\(Ha X.K H p ys\/mh X.K H p ys)/\Q (.int ys.length) H):=by
 intro pins s σ H xs us Q I r h;obtain⟨p,ys,rfl,hq,q⟩:=h;obtain⟨u,rfl,rx⟩:=vals1 r;cases rx;have hn:=cn;rcases hq with hq|hq
 ·obtain⟨its,r',pl,hz⟩:=I.list hq;have hlen:=r'.length;exact Calls.call_len_list pl.isList (by simp only[List.size_toArray]<;>lia) ⟨.int ys.length,H,I.tok _,⟨s.toks+1,by rw[List.size_toArray,hlen]⟩,q⟩
 ·obtain⟨its,r',pl,hz⟩:=I.tuple hq;have hlen:=r'.length;exact len_tuple pl (by simp only[List.size_toArray]<;>lia) ⟨.int ys.length,H,I.tok _,⟨s.toks+1,by rw[List.size_toArray,hlen]⟩,q⟩
theorem wk:ye X (.builtin "len") (λxs H Q=>∃z,xs=[.str z]/\z.length<=sizeLine/\Q (.int z.length) H):=by
 intro pins s σ H xs us Q I r h;obtain⟨z,rfl,hz,q⟩:=h;obtain⟨u,rfl,t,rfl⟩:=vals1 r;have hn:=cn;exact len_str (by lia) ⟨.int z.length,H,I.tok _,⟨_,rfl⟩,q⟩
theorem eE:ye X (.type "list") (λxs H Q=>∃p ys,xs=[.ref p]/\(Ha X.K H p ys\/mh X.K H p ys)/\∀l,H l=none->Q (.ref l) (upd H l (.lst ys))):=by
 intro pins s σ H xs us Q I r h;obtain⟨p,ys,rfl,hq,q⟩:=h;obtain⟨u,rfl,rx⟩:=vals1 r;cases rx;have fin:∀(its:List Value),Vals ys its->ys.length<=sizeLine->∀(h':Heap)(c':Nat),(∀b o',s.heap.get? b=some o'->h'.get? b=some o')->
   h'.get? s.heap.objs.size=some {cls:=.type "list",dict:=none,data:=.seq its.toArray c',slots:=#[]}->EP X pins σ Q (.ref s.heap.objs.size) {s with heap:=h'}:=λits r' hz h' c' kp e=>
  ⟨.ref s.heap.objs.size,_,I.laid (t':=s.toks) kp (Nat.le_refl _) (show Cd X.prog X.w _ h' _ (.lst ys) from⟨hz,its,c',r',e⟩),rfl,q _ (I.Kb.fresh (Nat.le_refl _))⟩
 rcases hq with hq|hq
 ·obtain⟨its,r',pl,hz⟩:=I.list hq;have hlen:=r'.length;obtain⟨o,ho,hc,n,hd⟩:=pl.isList;exact call_list_seq p (.inl rfl) ho hc hd (λh' c' kp e=>fin its r' hz h' c' kp e) (by simp only[List.size_toArray]<;>lia)
 ·obtain⟨its,r',pl,hz⟩:=I.tuple hq;have hlen:=r'.length;obtain⟨o,ho,hc,n,hd⟩:=pl;exact call_list_seq p (.inr rfl) ho hc hd (λh' c' kp e=>fin its r' hz h' c' kp e) (by simp only[List.size_toArray]<;>lia)
def iY(K:PySem.W.Frag)(T:String)(x:V)(H:Hp):Prop:=match x with
 |.str _=>T="str"
 |.int _=>T="int"
 |.ref p=>(T="list"/\∃xs,Ha K H p xs)\/(T="tuple"/\∃o,K.lookup p=some o/\o.cls=.type "tuple"/\o.dict=none)\/
  (T="dict"/\((∃kvs,H p=some (.dK kvs))\/∃kvs,H p=some (.dT kvs)))\/(T="set"/\∃S n,H p=some (.set S n))
 |_=>False
theorem MS{pins:List (Addr×Obj)}{σ:St}{H:Hp}{s:Shared}{T:String}{x:V}{v:Value}(I:Inv X pins σ H s)(r:RelV x v)(ty:iY X.K T x H):s.TypeIs v T/\∀a,v=.ref a->∃ob,s.heap.get? a=some ob/\ob.dict=none:=by
 cases x with
 |str z=>
  obtain⟨t,rfl⟩:=r;cases(show T="str" from ty);exact⟨typeIs_str s z t,λ_ e=>nomatch e⟩
 |int i=>
  obtain⟨t,rfl⟩:=r;cases(show T="int" from ty);exact⟨typeIs_int s i t,λ_ e=>nomatch e⟩
 |ref p=>
  cases r;rcases ty with⟨rfl,xs,hq⟩|⟨rfl,o,hk,hc,hd⟩|⟨rfl,hk⟩|⟨rfl,S,n,hk⟩
  ·obtain⟨its,_,pl,_⟩:=I.list hq;refine⟨pl.isList.typeIs,λa e=>?_⟩;cases e;obtain⟨o,n,e,c,hd,_⟩:=pl;exact⟨o,e,hd⟩
  ·refine⟨⟨o,I.pO p o hk,hc⟩,λa e=>?_⟩;cases e;exact⟨o,I.pO _ o hk,hd⟩
  ·have z:∃o,s.heap.get? p=some o/\o.ExactDict:=by
    rcases hk with⟨kvs,hk⟩|⟨kvs,hk⟩
    ·obtain⟨_,_,_,_,o,_,_,e,ex,_⟩:=I.Kb p _ hk;exact⟨o,e,ex⟩
    ·obtain⟨_,_,_,_,o,_,_,e,ex,_⟩:=I.Kb p _ hk;exact⟨o,e,ex⟩
   obtain⟨o,e,ex⟩:=z;refine⟨⟨o,e,ex.1⟩,λa e2=>?_⟩;cases e2;exact⟨o,e,ex.2.1⟩
  ·obtain⟨o,_,_,_,e,ex,_⟩:=I.Kb p _ hk;refine⟨⟨o,e,ex.1⟩,λa e2=>?_⟩;cases e2;exact⟨o,e,ex.2.1⟩
 |_=>exact False.elim ty
def wU(K:PySem.W.Frag)(T:String)(r:V->List V->Hp->VK->Prop)(to:TE):TE:=λσ H Q=>to σ H λx H1=>iY K T x H1/\r x [] H1 Q
def nZ(K:PySem.W.Frag)(T:String)(r:V->List V->Hp->VK->Prop)(to:TE)(t:TA):TE:=λσ H Q=>to σ H λx H1=>iY K T x H1/\t σ H1 λxs H2=>r x xs H2 Q
variable{o e:Expr}{es:List Expr}{to:TE}{t:TA}{name:Str}{apos cpos:Pos}{T id:String}{r:V->List V->Hp->VK->Prop}
theorem oW(pa:PlainAttrs T)(slot:Slot T name id)(hty:typeOf (.builtin id)=pure (.type "method_descriptor"))(hm:OP X id r)(ho:PE X o to)(hbase:attributeBase o name X.env (eval o X.env)=eval o X.env:=by rfl)(hline:(apos.endLine==cpos.line)=true:=by rfl):PE X (.Call (.Attribute o name apos) [] [] cpos) (wU X.K T r to):=by
 intro pins s σ H Q I h;refine wpAny_Call_method0_late hbase hline (yc (ho pins s σ H _ I h) λv s1⟨x,H1,I1,r1,ty,q1⟩=>?_);obtain⟨h1,h2⟩:=MS I1 r1 ty;exact⟨T,id,pa,slot,hty,h1,h2,Calls.callWith_builtin rfl (PySem.evalArgs_none (hm pins s1 σ H1 x [] v [] Q I1 r1 .nil q1))⟩
theorem QX(pa:PlainAttrs T)(slot:Slot T name id)(hty:typeOf (.builtin id)=pure (.type "method_descriptor"))(hm:OP X id r)(ho:PE X o to)(ha:PA X (e::es) t)(hbase:attributeBase o name X.env (eval o X.env)=eval o X.env:=by rfl)(hfew:((backTo cpos (starEach (e::es) X.env)).all (λx=>!x.1)&&(backToKw cpos (keywordEach [] X.env)).all (λx=>x.1.isSome)&&decide ((e::es).length+([]:List Keyword).length+(if([]:List Keyword).isEmpty then 0 else 1)<30))=true:=by rfl)(hline:(apos.endLine==cpos.line)=true:=by rfl)(hs:starEach (e::es) X.env=(false,eval e X.env)::starEach es X.env:=by rfl)(hplain:(backTo cpos (starEach es X.env)).any (·.1)=false:=by rfl):PE X (.Call (.Attribute o name apos) (e::es) [] cpos) (nZ X.K T r to t):=by
 intro pins s σ H Q I h;refine wpAny_Call_method_late hbase hfew hline rfl (yc (ho pins s σ H _ I h) λv s1⟨x,H1,I1,r1,ty,q1⟩=>?_);obtain⟨h1,h2⟩:=MS I1 r1 ty;refine⟨T,id,pa,slot,hty,h1,h2,?_⟩;have hA:=ha cpos pins s1 σ H1 _ I1 q1;rw[hs] at hA⊢;refine Calls.callWith_builtin (by show(false||(backTo cpos (starEach es X.env)).any (·.1))=false;rw[hplain]<;>rfl) (Calls.evalArgs_plain ?_);exact yc hA λus s2⟨vs,H2,I2,r2,q2⟩=>hm pins s2 σ H2 x vs v us Q I2 r1 r2 q2
end
end L2
namespace L2
open PySem PySem.Spec PyProof.Rows
def KY(X:Cx)(id:String)(r:V->List V->Hp->VK->Prop):Prop:=
 ∀(pins:List (Addr×Obj))(s:Shared)(σ:St)(H:Hp)(x:V)(xs:List V)(v:Value)(us:List Value)(Q:VK),Inv X pins σ H s->RelV x v->Vals xs us->r x xs H Q->
  wpAny (model X.prog X.w) X.A (call (.builtin id) (v::us)) (EP X pins σ Q) X.xe s
theorem Vals.one:∀{x:V}{us:List Value},Vals [x] us->∃u,us=[u]/\RelV x u
 |_,_,.cons r .nil=>⟨_,rfl,r⟩
theorem Vals.zero:∀{us:List Value},Vals [] us->us=[]
 |_,.nil=>rfl
theorem Vals.dropLast{xs:List V}{us:List Value}(h:Vals xs us):Vals xs.dropLast us.dropLast:=by
 induction h with
 |nil=>exact .nil
 |cons r t ih=>
  cases t with
  |nil=>exact .nil
  |cons q t'=>exact .cons r ih
theorem Vals.rep{xs:List V}{us:List Value}(h:Vals xs us):∀k:Nat,Vals (List.replicate k xs).flatten (List.replicate k us).flatten
 |0=>.nil
 |k+1=>by
  rw[List.replicate_succ,List.replicate_succ,List.flatten_cons,List.flatten_cons];exact Vals.append h (Vals.rep h k)
theorem IJ{α:Type}(l:List α):l.eraseIdx (l.length-1)=l.dropLast:=by
 induction l with
 |nil=>rfl
 |cons a r ih=>
  cases r with
  |nil=>rfl
  |cons b r=>
   have e:(a::b::r).length-1=((b::r).length-1)+1:=by
    have h1:(a::b::r).length=r.length+2:=rfl;have h2:(b::r).length=r.length+1:=rfl;lia
   rw[e,List.eraseIdx_cons_succ,ih];all_goals rfl
theorem foldl_rep(its:List Value):∀(k:Nat)(acc:List Value),List.foldl (λx1 x2=>x1++x2) acc.toArray (List.replicate k its.toArray)=(acc++(List.replicate k its).flatten).toArray
 |0,acc=>by simp
 |k+1,acc=>by
  have e:acc.toArray++its.toArray=(acc++its).toArray:=by simp
  have e2:(acc++its)++(List.replicate k its).flatten=acc++(List.replicate (k+1) its).flatten:=by
   rw[List.replicate_succ,List.flatten_cons,List.append_assoc]
  rw[<-e2,<-foldl_rep its k (acc++its),<-e,List.replicate_succ,List.foldl_cons]
section
variable{X:Cx}{pins:List (Addr×Obj)}{σ:St}{H:Hp}{s:Shared}{l b:Addr}{xs ys zs:List V}
theorem Inv.gW{its its':List Value}{n:Nat}{f:Array Value->Array Value}{t':Nat}(I:Inv X pins σ H s)(hH:H l=some (.lst xs))(e:s.heap.get? l=some {cls:=.type "list",data:=.seq its.toArray n})(hf:f its.toArray=its'.toArray)(hv:Vals ys its')(hz:ys.length<=sizeLine):Inv X pins σ (upd H l (.lst ys)) {s with heap:=s.heap.update l (Obj.mapSeq f),toks:=t'}:=by
 have q:=PySem.IsL.update e f;rw[hf] at q;refine I.write (x:=l) (e:=l) (by rw[hH];exact trivial) (.inl rfl) (λb' u hb hu=>(Heap.get?_update_other s.heap (Obj.mapSeq f) (Ne.symm hb)).trans hu) ⟨_,q⟩ ?_;exact⟨hz,its',_,hv,q⟩
theorem Inv.NX{its:List Value}{t':Nat}(I:Inv X pins σ H s)(hv:Vals ys its)(hz:ys.length<=sizeLine):Inv X pins σ (upd H s.heap.objs.size (.lst ys)) {s with heap:=s.heap.push {cls:=.type "list",data:=.seq its.toArray},toks:=t'}:=
 I.laid (λ_ _ q=>Heap.get?_push_of_some _ q) (Nat.le_refl _) ⟨hz,its,0,hv,Heap.get?_push_size _ rfl⟩
theorem Inv.fresh(I:Inv X pins σ H s):H s.heap.objs.size=none:=I.Kb.fresh (Nat.le_refl _)
theorem Inv.qK(I:Inv X pins σ H s)(hH:H l=some (.lst xs)):xs.length<=sizeLine/\∃(its:List Value)(n:Nat),Vals xs its/\xs.length=its.length/\s.heap.get? l=some {cls:=.type "list",data:=.seq its.toArray n}:=by
 obtain⟨z,its,n,r,e⟩:=I.Kb l _ hH;exact⟨z,its,n,r,r.length,e⟩
theorem CH{n:Nat}(h:n<=sizeLine):Builtin.List.listTooLong n=false:=by
 unfold Builtin.List.listTooLong;exact decide_eq_false (by lia)
end
section
variable{X:Cx}
def Ms:V->List V->Hp->VK->Prop:=λx vs H Q=>∃l xs y,x=.ref l/\vs=[y]/\H l=some (.lst xs)/\xs.length<sizeLine/\Q .Vb (upd H l (.lst (xs++[y])))
theorem Ze:KY X "list.append" Ms:=by
 intro pins s σ H x vs v us Q I rx rv h;obtain⟨l,xs,y,rfl,rfl,hH,hz,q⟩:=h;cases rx;obtain⟨u,rfl,ru⟩:=rv.one;obtain⟨z,its,n,r,hl,e⟩:=I.qK hH;refine call_meets F.slot_list_append ⟨_,e,rfl⟩ F.entry_list_append (F.args_list_append_2 _ _) (PySem.list_append l its.toArray n u (by rw[List.size_toArray];lia)) ⟨e,?_⟩;refine⟨.Vb,_,I.gW (its':=its++[u]) hH e (by simp) (r.append (.cons ru .nil)) ?_,rfl,q⟩;rw[List.length_append,List.length_singleton];lia
def iU:V->List V->Hp->VK->Prop:=λx vs H Q=>∃l b xs zs,x=.ref l/\vs=[.ref b]/\H l=some (.lst xs)/\H b=some (.lst zs)/\xs.length+zs.length<=sizeLine/\Q .Vb (upd H l (.lst (xs++zs)))
theorem AO:KY X "list.extend" iU:=by
 intro pins s σ H x vs v us Q I rx rv h;obtain⟨l,b,xs,zs,rfl,rfl,hH,hB,hz,q⟩:=h;cases rx;obtain⟨u,rfl,ru⟩:=rv.one;cases ru;obtain⟨z,its,n,r,hl,e⟩:=I.qK hH;obtain⟨z2,its2,n2,r2,hl2,e2⟩:=I.qK hB;have hsz:its.toArray.size+its2.toArray.size<=sizeLine:=by rw[List.size_toArray,List.size_toArray];lia
 have hlong:¬(!its.toArray.isEmpty&&Builtin.List.listTooLong (its.toArray.size+its2.toArray.size))=true:=by
  rw[CH hsz,Bool.and_false];exact Bool.false_ne_true
 refine call_meets F.slot_list_extend ⟨_,e,rfl⟩ F.entry_list_extend (F.args_list_extend_2 _ _)
  (AutoSeq1.list_extend_list_list_0 l its.toArray n b its2.toArray n2 hlong (by rw[List.size_toArray];lia) (by lia)) ⟨e,e2,?_⟩
 refine⟨.Vb,_,I.gW (its':=its++its2) hH e (by simp) (r.append r2) ?_,rfl,q⟩;rw[List.length_append];lia
def xW:V->List V->Hp->VK->Prop:=λx vs H Q=>∃l xs y,x=.ref l/\vs=[]/\H l=some (.lst xs)/\xs[xs.length-1]?=some y/\Q y (upd H l (.lst xs.dropLast))
theorem DR:KY X "list.pop" xW:=by
 intro pins s σ H x vs v us Q I rx rv h;obtain⟨l,xs,y,rfl,rfl,hH,hy,q⟩:=h;cases rx;have hus:=rv.zero;subst hus;obtain⟨z,its,n,r,hl,e⟩:=I.qK hH;obtain⟨u,hu,ru⟩:=r.get hy;have hy':its.toArray[its.toArray.size-1]?=some u:=by
  show its.toArray[its.length-1]?=some u;rw[<-Array.getElem?_toList,<-hl];exact hu
 refine call_meets F.slot_list_pop ⟨_,e,rfl⟩ F.entry_list_pop (F.args_list_pop_1 _) (MeetsSeq.list_pop_last l its.toArray n u hy' (by rw[List.size_toArray];lia)) ⟨e,?_⟩;refine⟨y,_,I.gW (its':=its.dropLast) hH e ?_ r.dropLast ?_,ru,q⟩
 ·show its.toArray.eraseIdxIfInBounds (its.toArray.size-1)=its.dropLast.toArray;rw[List.size_toArray,List.eraseIdxIfInBounds_toArray,IJ]
 ·rw[List.length_dropLast];lia
def TX:R2:=λx y H Q=>∃l b xs zs,x=.ref l/\y=.ref b/\H l=some (.lst xs)/\H b=some (.lst zs)/\xs.length+zs.length<=sizeLine/\∀p,H p=none->Q (.ref p) (upd H p (.lst (xs++zs)))
theorem zg:gp X (binaryOp .Add) TX:=by
 intro pins s σ H x y v u Q I rx ry h;obtain⟨l,b,xs,zs,rfl,rfl,hH,hB,hz,q⟩:=h;cases rx;cases ry;obtain⟨z,its,n,r,hl,e⟩:=I.qK hH;obtain⟨z2,its2,n2,r2,hl2,e2⟩:=I.qK hB;refine PySem.P.add_list e e2 ?_ (by rw[List.size_toArray,List.size_toArray];lia);have ea:its.toArray++its2.toArray=(its++its2).toArray:=by simp
 rw[ea];exact⟨.ref _,_,I.NX (t':=s.toks) (r.append r2) (by rw[List.length_append];lia),rfl,q _ I.fresh⟩
def yW:R2:=λx y H Q=>∃l k xs,x=.ref l/\y=.int k/\H l=some (.lst xs)/\-(2^63)<=k/\k<2^63/\xs.length*k.toNat<=sizeLine/\
 ∀p,H p=none->Q (.ref p) (upd H p (.lst (List.replicate k.toNat xs).flatten))
theorem len_rep{α:Type}(xs:List α)(k:Nat):(List.replicate k xs).flatten.length=k*xs.length:=by
 induction k with
 |zero=>simp
 |succ k ih=>rw[List.replicate_succ,List.flatten_cons,List.length_append,ih,Nat.succ_mul,Nat.add_comm]
theorem Hz:gp X (binaryOp .Mult) yW:=by
 intro pins s σ H x y v u Q I rx ry h;obtain⟨l,k,xs,rfl,rfl,hH,h1,h2,hz,q⟩:=h;cases rx;obtain⟨t,rfl⟩:=ry;obtain⟨z,its,n,r,hl,e⟩:=I.qK hH;have hlen:its.toArray.size*k.toNat<=sizeLine:=by rw[List.size_toArray,<-hl];exact hz
 have hcap:¬its.toArray.size*k.toNat>(2^63-1)/8:=by
  have:(sizeLine:Nat)<=(2^63-1)/8:=by decide
  lia
 have hfit:¬(!Builtin.List.listFitsIndex k)=true:=by
  rw[fitsIndex_both h1 h2];exact Bool.false_ne_true
 have hlong:¬Builtin.List.listTooLong (its.toArray.size*k.toNat)=true:=by
  rw[CH hlen];exact Bool.false_ne_true
 have hnew:List.foldl (λx1 x2=>x1++x2) #[] (List.replicate (if its.toArray.isEmpty=true then 0 else k.toNat) its.toArray)=(List.replicate k.toNat its).flatten.toArray:=by
  have f0:∀m:Nat,List.foldl (λx1 x2=>x1++x2) #[] (List.replicate m its.toArray)=(List.replicate m its).flatten.toArray:=λm=>by
   have:=foldl_rep its m [];rw[List.nil_append] at this;exact this
  rw[f0];cases its with
  |nil=>simp
  |cons a r'=>rw[if_neg (by simp)]
 refine wpAny_binaryOp_repeat_ref (T:="list") (U:="int") (by decide) ⟨_,e,rfl⟩ (λs'=>typeIs_int s' k t) noFill_list_mul F.fills_int_mul F.slot_int_rmul repeat_list F.slot_int_index.lookup
  (call_meets F.slot_int_rmul (typeIs_int s k t) F.entry_int_rmul (F.args_int_rmul_2 _ _) (int___rmul___int_list k t l its.toArray n)
   ⟨e,rfl,⟨_,e,rfl⟩,call_meets F.slot_list_mul ⟨_,e,rfl⟩ F.entry_list_mul (F.args_list_mul_2 _ _) (AutoListH.list___mul___list_int_3 l its.toArray n k t hfit hcap hlong) ⟨e,?_⟩⟩)
 rw[hnew];exact⟨.ref _,_,I.NX (t':=s.toks) (r.rep k.toNat) (by rw[len_rep,Nat.mul_comm];exact hz),rfl,q _ I.fresh⟩
end
section
variable{prog:Program}{w:World}{A:Around}{E:Value->Shared->Prop}{s:Shared}
set_option maxRecDepth 100000 in
end
section
variable{X:Cx}
end
end L2
namespace L2
open PySem PySem.Spec PyProof.Rows
theorem Vals.ints:∀{ns:List Int}{us:List Value},Vals (ns.map V.int) us->IntsAre us ns
 |[],us,h=>by
  rw[List.map_nil] at h;cases h;exact IntsAre.nil
 |n::ns,us,h=>by
  rw[List.map_cons] at h;cases h with
  |cons r t=>
   obtain⟨k,rfl⟩:=r;exact IntsAre.cons n k (Vals.ints t)
theorem Vals.SY:∀{bs:List Bool}{us:List Value},Vals (bs.map V.bl) us->us=bs.map Value.bool
 |[],us,h=>by
  rw[List.map_nil] at h;cases h;rfl
 |b::bs,us,h=>by
  rw[List.map_cons] at h;cases h with
  |cons r t=>
   cases r;rw[Vals.SY t,List.map_cons]
theorem Vals.cS{a:Addr}{us:List Value}(r:Vals [V.ref a] us):us=[Value.ref a]:=by
 cases r with
 |cons r t=>
  cases t;cases r;rfl
section
variable{prog:Program}{w:World}{A:Around}{E:Value->Shared->Prop}{s:Shared}{l:Addr}{its:List Value}{ns:List Int}{Q:Value->Shared->Prop}
theorem uU(hh:A.handled=none)(hl:s.heap.IsList l its.toArray)(hi:IntsAre its ns)(h:∀h' tk t',(∀b o,s.heap.get? b=some o->h'.get? b=some o)->Q (.int ns.sum t') {s with heap:=h',toks:=tk}):wpAny (model prog w) A (call (.builtin "sum") [.ref l]) Q E s:=by
 obtain⟨xs,e⟩:=hi.allInts.items;have hn:numsOf (intItems xs).toList=ns:=by rw[<-e];exact hi.numsOf
 rw[nums_intItems] at hn;rw[e] at hl;refine PySem.sum_intListG hh hl λh' tk t' hk=>?_;have:=h h' tk t' hk;rw[preSum_eq,List.take_of_length_le (by simp),hn];exact this
theorem yY(hh:A.handled=none)(hl:s.heap.IsList l its.toArray)(hi:IntsAre its ns)(hne:0<ns.length)(h:∀h' tk M t',(∀b o,s.heap.get? b=some o->h'.get? b=some o)->M∈ns->(∀a,a∈ns->a<=M)->Q (.int M t') {s with heap:=h',toks:=tk}):wpAny (model prog w) A (call (.builtin "max") [.ref l]) Q E s:=by
 obtain⟨xs,e⟩:=hi.allInts.items;have hn:numsOf (intItems xs).toList=ns:=by rw[<-e];exact hi.numsOf
 rw[nums_intItems] at hn;subst hn;rw[e] at hl;have hsz:0<xs.size:=by simpa using hne
 refine PySem.max_intList hh hl hsz λv h' tk hv hk=>?_;obtain⟨t,rfl⟩:=intItems_at hv;obtain⟨h1,h2⟩:=argBest_gt (numAt xs) (xs.size-1);refine h h' tk _ t hk ?_ λa ha=>?_
 ·rw[numAt_eq];exact PySem.getD_mem (by rw[List.length_map,Array.length_toList];lia)
 ·obtain⟨j,hj,rfl⟩:=mem_getD ha;rw[List.length_map,Array.length_toList] at hj;rw[<-numAt_eq];exact h2 j (by lia)
theorem IT(hh:A.handled=none)(hl:s.heap.IsList l its.toArray)(hi:IntsAre its ns)(hne:0<ns.length)(h:∀h' tk M t',(∀b o,s.heap.get? b=some o->h'.get? b=some o)->M∈ns->(∀a,a∈ns->M<=a)->Q (.int M t') {s with heap:=h',toks:=tk}):wpAny (model prog w) A (call (.builtin "min") [.ref l]) Q E s:=by
 obtain⟨xs,e⟩:=hi.allInts.items;have hn:numsOf (intItems xs).toList=ns:=by rw[<-e];exact hi.numsOf
 rw[nums_intItems] at hn;subst hn;rw[e] at hl;have hsz:0<xs.size:=by simpa using hne
 refine PySem.min_intList hh hl hsz λv h' tk hv hk=>?_;obtain⟨t,rfl⟩:=intItems_at hv;obtain⟨h1,h2⟩:=argBest_lt (numAt xs) (xs.size-1);refine h h' tk _ t hk ?_ λa ha=>?_
 ·rw[numAt_eq];exact PySem.getD_mem (by rw[List.length_map,Array.length_toList];lia)
 ·obtain⟨j,hj,rfl⟩:=mem_getD ha;rw[List.length_map,Array.length_toList] at hj;rw[<-numAt_eq];exact h2 j (by lia)
end
section
variable{X:Cx}
def we(K:PySem.W.Frag):List V->Hp->VK->Prop:=λvs H Q=>∃(a:Addr)(ns:List Int),vs=[V.ref a]/\Ha K H a (ns.map V.int)/\Q (.int ns.sum) H
def VX(K:PySem.W.Frag):List V->Hp->VK->Prop:=λvs H Q=>∃(a:Addr)(ns:List Int),vs=[V.ref a]/\Ha K H a (ns.map V.int)/\0<ns.length/\∀m,m∈ns->(∀y,y∈ns->m<=y)->Q (.int m) H
theorem vV(hc:X.calm=true):ye X (.builtin "sum") (we X.K):=by
 intro pins s σ H vs us Q I r h;obtain⟨a,ns,rfl,hs,q⟩:=h;obtain⟨its,rv,hl,_⟩:=I.list hs;rw[Vals.cS r];exact uU (I.ok.hd hc) hl.isList rv.ints λh' tk t' hk=>⟨.int _,H,I.kept hk,⟨_,rfl⟩,q⟩
theorem uV(hc:X.calm=true):ye X (.builtin "min") (VX X.K):=by
 intro pins s σ H vs us Q I r h;obtain⟨a,ns,rfl,hs,hne,q⟩:=h;obtain⟨its,rv,hl,_⟩:=I.list hs;rw[Vals.cS r];exact IT (I.ok.hd hc) hl.isList rv.ints hne λh' tk m t' hk h1 h2=>⟨.int _,H,I.kept hk,⟨_,rfl⟩,q m h1 h2⟩
end
section
variable{X:Cx}
def YK(K:PySem.W.Frag):V->List V->Hp->VK->Prop:=λx xs H Q=>∃(a:Addr)(ys:List V)(y:V)(j:Nat)(z:V),x=V.ref a/\xs=[y]/\Ha K H a ys/\Ri y=true/\ys.all Ri=true/\ys[j]?=some z/\QP z y=true/\
 (∀(m:Nat)(z':V),m<j->ys[m]?=some z'->QP z' y=false)/\Q (.int (j:Nat)) H
theorem HM{ys:List V}(f:ys.all Ri=true){j:Nat}{z:V}(h:ys[j]?=some z):Ri z=true:=List.all_eq_true.mp f z (List.mem_of_getElem? h)
theorem BR:OP X "list.index" (YK X.K):=by
 intro pins s σ H x xs v us Q I rx rxs h;obtain⟨a,ys,y,j,z,rfl,rfl,hs,fy,fys,hz,hzj,hno,q⟩:=h;cases rx;cases rxs with
 |cons ry rt=>
  rename_i uy ut;cases rt;obtain⟨its,rv,⟨⟨cls,dd,data,sl⟩,n,ho,hc,hdn,hd⟩,hlen⟩:=I.list hs;simp only at hc hd;subst hc hd;obtain⟨u,hu,ru⟩:=rv.get hz;obtain⟨hjl,hje⟩:=List.getElem?_eq_some_iff.mp hu;have hvl:=rv.length;have hj:j<its.toArray.size:=by simpa using hjl
  have hsl:=sizeLine_eq;refine call_meets PySem.F.slot_list_index ⟨_,ho,rfl⟩ PySem.F.entry_list_index (PySem.F.args_list_index_2 _ _)
   (SeqAt.list_indexAt a its.toArray n dd sl uy (sJ y) j hj (by lia) ?_ ?_) ⟨ho,λu' hu'=>Rj ry fy rv fys u' (by simpa using hu'),?_⟩
  ·have e1:its.toArray[j]=u:=by simpa using hje
   rw[e1,nE ru (HM fys hz)];exact hzj
  ·intro m hm hmj;have hml:m<its.length:=by simpa using hm
   have hmy:m<ys.length:=by lia
   have hy':ys[m]?=some ys[m]:=List.getElem?_eq_getElem hmy;obtain⟨u2,hu2,ru2⟩:=rv.get hy';obtain⟨_,hme⟩:=List.getElem?_eq_some_iff.mp hu2;have e1:its.toArray[m]=u2:=by simpa using hme
   rw[e1,nE ru2 (HM fys hy')];exact hno m _ hmj hy'
  ·exact⟨.int (j:Nat),H,I.tok _,⟨_,rfl⟩,q⟩
end
section
variable{X:Cx}
end
theorem mH{prog:Program}{w:World}{A:Around}{E:Value->Shared->Prop}{s:Shared}{l:Addr}{items:Array Value}{Q:Value->Shared->Prop}(hl:s.heap.IsList l items)(h:∀s₂:Shared,s₂={s with heap:=s.heap.push {cls:=.type "list_iterator",data:=.fields #[.ref l,.int 0 0]}}->(s₂.heap.IsListIter s.heap.objs.size l 0/\s₂.heap.IsList l items)->l≠s.heap.objs.size->Q (.ref s.heap.objs.size) s₂):wpAny (model prog w) A (pyIter (.ref l)) Q E s:=by
 have hlt:l<s.heap.objs.size:=by obtain⟨_,e,_⟩:=hl;exact Heap.lt_size e
 exact wpAny_pyIter_list hl (h _ rfl ⟨⟨_,Heap.get?_push_size _ rfl,rfl,rfl⟩,hl.push _⟩ (Nat.ne_of_lt hlt))
theorem bw{prog:Program}{w:World}{A:Around}{bs:List Bool}{its:List Value}(e:its=bs.map Value.bool):TruthOf prog w A (λi v=>its.toArray[i]?=some v) (λi=>bs.getD i false):=λi v s Q E hv hq=>by
 have hv':its[i]?=some v:=by simpa using hv
 rw[e,List.getElem?_map] at hv';obtain⟨b,hb,rfl⟩:=Option.map_eq_some_iff.mp hv';have hg:bs.getD i false=b:=by rw[List.getD_eq_getElem?_getD,hb]<;>rfl
 have hq':Q (bs.getD i false) s:=hq;rw[hg] at hq';exact wpAny_truthy_bool hq'
theorem any_range:∀bs:List Bool,(List.range bs.length).any (λi=>bs.getD i false)=bs.any id
 |[]=>rfl
 |b::bs=>by
  rw[List.length_cons,List.range_succ_eq_map,List.any_cons,List.any_map,List.any_cons,<-any_range bs];all_goals rfl
theorem all_range:∀bs:List Bool,(List.range bs.length).all (λi=>bs.getD i false)=bs.all id
 |[]=>rfl
 |b::bs=>by
  rw[List.length_cons,List.range_succ_eq_map,List.all_cons,List.all_map,List.all_cons,<-all_range bs];all_goals rfl
section
variable{X:Cx}
def ve(K:PySem.W.Frag):List V->Hp->VK->Prop:=λvs H Q=>∃(a:Addr)(bs:List Bool),vs=[V.ref a]/\Ha K H a (bs.map V.bl)/\Q (.bl (bs.any id)) H
def ue(K:PySem.W.Frag):List V->Hp->VK->Prop:=λvs H Q=>∃(a:Addr)(bs:List Bool),vs=[V.ref a]/\Ha K H a (bs.map V.bl)/\Q (.bl (bs.all id)) H
theorem tV(hc:X.calm=true):ye X (.builtin "any") (ve X.K):=by
 intro pins s σ H vs us Q I r h;obtain⟨a,bs,rfl,hs,q⟩:=h;obtain⟨its,rv,hl,_⟩:=I.list hs;rw[Vals.cS r];have hb:=rv.SY;refine call_any_walk (mH hl.isList λs₂ e2 st hne=>?_);subst e2;refine⟨_,_,_,_,_,_,_,rfl,Walks.list (A:=X.A.in1) (I.ok.hd hc) _ a hne its.toArray,st,bw hb,λh' tk hk=>?_⟩;refine⟨.bl _,H,I.kept λb o eo=>hk b o (λhmem=>?_) (Heap.get?_push_of_some _ eo),?_,q⟩
 ·rcases List.mem_cons.mp hmem with e1|hmem
  ·exact absurd (e1▸Heap.lt_size eo) (Nat.lt_irrefl _)
  ·cases hmem
 ·show Value.bool _=Value.bool _;rw[<-any_range,hb,List.size_toArray,List.length_map]
theorem sV(hc:X.calm=true):ye X (.builtin "all") (ue X.K):=by
 intro pins s σ H vs us Q I r h;obtain⟨a,bs,rfl,hs,q⟩:=h;obtain⟨its,rv,hl,_⟩:=I.list hs;rw[Vals.cS r];have hb:=rv.SY;refine call_all_walk (mH hl.isList λs₂ e2 st hne=>?_);subst e2;refine⟨_,_,_,_,_,_,_,rfl,Walks.list (A:=X.A.in1) (I.ok.hd hc) _ a hne its.toArray,st,bw hb,λh' tk hk=>?_⟩;refine⟨.bl _,H,I.kept λb o eo=>hk b o (λhmem=>?_) (Heap.get?_push_of_some _ eo),?_,q⟩
 ·rcases List.mem_cons.mp hmem with e1|hmem
  ·exact absurd (e1▸Heap.lt_size eo) (Nat.lt_irrefl _)
  ·cases hmem
 ·show Value.bool _=Value.bool _;rw[<-all_range,hb,List.size_toArray,List.length_map]
end
section
variable{X:Cx}{pins:List (Addr×Obj)}{σ:St}{H:Hp}{s:Shared}
end
section
variable{X:Cx}
end
end L2
namespace L2
open PySem PySem.Spec PyProof.Rows
abbrev UP(h:Heap)(c:Addr)(v:Option Value):Prop:=h.IsCell c v
def kZ(scope sc:Scope):Scope:=
 {scope with names:=scope.names.map λ(n,k)=>if(k==.free&&sc.kind==.function&&sc.names.lookup n==some .cell) then(n,.cell) else(n,k)}
def xc(cells:List (Str×Addr)):List (Str×NameKind)->List (Str×Addr)->List (Str×Addr)
 |[],acc=>acc
 |(n,k)::r,acc=>if k==.free then xc cells r ((n,(cells.lookup n).getD 0)::acc) else xc cells r acc
theorem sr(env:Env)(f:Str×NameKind->List (Str×Addr)->Sem (ForInStep (List (Str×Addr))))(hf:∀n k c,f (n,k) c=if k==.free then(do let a<-cellOf env n;pure (.yield ((n,a)::c))) else pure (.yield c)):∀(names:List (Str×NameKind))(acc:List (Str×Addr)),(∀y∈names,y.2=.free->∃c,env.cells.lookup y.1=some c)->forIn names acc f=pure (xc env.cells names acc)
 |[],acc,_=>by rw[List.forIn_nil];rfl
 |(n,k)::r,acc,h=>by
  rw[List.forIn_cons,hf];have ih:=λacc=>sr env f hf r acc λy hy=>h y (List.mem_cons_of_mem _ hy);unfold xc;by_cases hk:(k==NameKind.free)=true
  ·rw[if_pos hk,if_pos hk];obtain⟨c,hc⟩:=h (n,k) List.mem_cons_self (by simpa using hk);have e:cellOf env n=pure c:=by unfold cellOf;rw[hc]
   rw[e];have e2:(env.cells.lookup n).getD 0=c:=by rw[hc];rfl
   rw[e2];exact ih _
  ·rw[if_neg hk,if_neg hk];exact ih _
theorem FJ{scope:Scope}{env:Env}(h:∀y∈scope.names,y.2=.free->∃c,env.cells.lookup y.1=some c):closureFor scope env=pure (xc env.cells scope.names []):=by
 simp only[closureFor];rw[sr env _ (λn k c=>rfl) scope.names [] h];rfl
theorem mem_lookup{α:Type}:∀{l:List (Str×α)}{n:Str}{c:α},(n,c)∈l->∃c',l.lookup n=some c'
 |(k,v)::r,n,c,h=>by
  rw[List.lookup_cons];cases hb:n==k with
  |true=>exact⟨_,rfl⟩
  |false=>
   rcases List.mem_cons.mp h with e|h
   ·cases e;simp at hb
   ·exact mem_lookup h
theorem Ii{cells:List (Str×Addr)}:∀{names:List (Str×NameKind)}{acc:List (Str×Addr)}{n:Str}{c:Addr},(n,c)∈xc cells names acc->(n,c)∈acc\/((n,.free)∈names/\c=(cells.lookup n).getD 0)
 |[],_,_,_,h=>.inl h
 |(m,k)::r,acc,n,c,h=>by
  unfold xc at h;split at h
  ·rename_i hk;have hk:k=.free:=by simpa using hk
   rcases Ii h with h|⟨h1,h2⟩
   ·rcases List.mem_cons.mp h with e|h
    ·cases e;exact .inr ⟨hk▸List.mem_cons_self,rfl⟩
    ·exact .inl h
   ·exact .inr ⟨List.mem_cons_of_mem _ h1,h2⟩
  ·rcases Ii h with h|⟨h1,h2⟩
   ·exact .inl h
   ·exact .inr ⟨List.mem_cons_of_mem _ h1,h2⟩
theorem Bm{cells:List (Str×Addr)}:∀{names:List (Str×NameKind)}{acc:List (Str×Addr)}{p:Str×Addr},p∈acc->p∈xc cells names acc
 |[],_,_,h=>h
 |(m,k)::r,acc,p,h=>by
  unfold xc;split
  ·exact Bm (List.mem_cons_of_mem _ h)
  ·exact Bm h
theorem Cm{cells:List (Str×Addr)}:∀{names:List (Str×NameKind)}{acc:List (Str×Addr)}{n:Str},(n,.free)∈names->(n,(cells.lookup n).getD 0)∈xc cells names acc
 |(m,k)::r,acc,n,h=>by
  unfold xc;rcases List.mem_cons.mp h with e|h
  ·cases e;exact Bm List.mem_cons_self
  ·split
   ·exact Cm h
   ·exact Cm h
theorem Dj:∀{names:List (Str×NameKind)}{h:Heap}{acc:List (Str×Addr)}{x:Str}{c:Addr},(x,c)∈cellsFrom h.objs.size names acc->(x,c)∈acc\/((x,.cell)∈names/\h.objs.size<=c/\UP (pushCells h names) c none)
 |[],_,_,_,_,h=>.inl h
 |(n,k)::r,h,acc,x,c,hm=>by
  unfold cellsFrom at hm;unfold pushCells;split at hm
  ·rename_i hk;rw[if_pos hk];have hk:k=.cell:=by simpa using hk
   rw[<-Heap.size_push h {cls:=.type "cell",data:=.cell none}] at hm;rcases Dj hm with hm|⟨h1,h2,h3⟩
   ·rcases List.mem_cons.mp hm with e|hm
    ·cases e;exact .inr ⟨hk▸List.mem_cons_self,Nat.le_refl _,_,pushCells_keeps r _ _ _ (Heap.get?_push_size _ rfl),rfl⟩
    ·exact .inl hm
   ·rw[Heap.size_push] at h2;exact .inr ⟨List.mem_cons_of_mem _ h1,Nat.le_of_succ_le h2,h3⟩
  ·rename_i hk;rw[if_neg hk];rcases Dj hm with hm|⟨h1,h2,h3⟩
   ·exact .inl hm
   ·exact .inr ⟨List.mem_cons_of_mem _ h1,h2,h3⟩
theorem ao:∀{names:List (Str×NameKind)}{n:Nat}{acc:List (Str×Addr)}{p:Str×Addr},p∈acc->p∈cellsFrom n names acc
 |[],_,_,_,h=>h
 |(m,k)::r,n,acc,p,h=>by
  unfold cellsFrom;split
  ·exact ao (List.mem_cons_of_mem _ h)
  ·exact ao h
theorem Mt:∀{names:List (Str×NameKind)}{n:Nat}{acc:List (Str×Addr)}{x:Str},(x,.cell)∈names->∃c,(x,c)∈cellsFrom n names acc
 |(m,k)::r,n,acc,x,h=>by
  unfold cellsFrom;rcases List.mem_cons.mp h with e|h
  ·cases e;exact⟨n,ao List.mem_cons_self⟩
  ·split
   ·exact Mt h
   ·exact Mt h
theorem Nt:∀{names:List (Str×NameKind)}{h:Heap}{acc:List (Str×Addr)}{x y:Str}{c:Addr},(∀p∈acc,p.2<h.objs.size)->(∀x y c,(x,c)∈acc->(y,c)∈acc->x=y)->(x,c)∈cellsFrom h.objs.size names acc->(y,c)∈cellsFrom h.objs.size names acc->x=y
 |[],_,_,_,_,_,_,hi,h1,h2=>hi _ _ _ h1 h2
 |(n,k)::r,h,acc,x,y,c,hl,hi,h1,h2=>by
  unfold cellsFrom at h1 h2;split at h1
  ·rename_i hk;rw[if_pos hk] at h2;rw[<-Heap.size_push h {cls:=.type "cell",data:=.cell none}] at h1 h2;refine Nt (h:=h.push _) (λp hp=>?_) (λx y c a b=>?_) h1 h2
   ·rw[Heap.size_push];rcases List.mem_cons.mp hp with rfl|hp
    ·exact Nat.lt_succ_self _
    ·exact Nat.lt_succ_of_lt (hl p hp)
   ·rcases List.mem_cons.mp a with e|a<;>rcases List.mem_cons.mp b with e'|b
    ·cases e;cases e';rfl
    ·cases e;exact absurd (hl _ b) (Nat.lt_irrefl _)
    ·cases e';exact absurd (hl _ a) (Nat.lt_irrefl _)
    ·exact hi _ _ _ a b
  ·rename_i hk;rw[if_neg hk] at h2;exact Nt hl hi h1 h2
theorem AH{M:Model}{A:Around}{E:Value->Shared->Prop}{s:Shared}{scope:Scope}{globals:Addr}{closure:List (Str×Addr)}{qual:Str}{func:Option Addr}{code:Value}{around:Env}{builtins:Addr}{Q:Env->Shared->Prop}(h:Q (newEnv scope s.heap.objs.size globals (cellsFrom (s.heap.objs.size+1) scope.names closure) qual func code (some around) builtins) {s with heap:=pushCells (s.heap.push {cls:=.type "dict",data:=.dict #[]}) scope.names}):wpAny M A (newFunctionEnv scope globals closure [] qual func code (some around) builtins) Q E s:=by
 simp only[newFunctionEnv,Option.isSome_some,if_true];refine wpAny_bind (wpAny_alloc ?_);refine wpAny_bind (wpAny_layCells _ (λn k c=>rfl) scope.names closure _ _ ?_);rw[show({s with heap:=s.heap.push {cls:=.type "dict",data:=.dict #[]}}:Shared).heap.objs.size=s.heap.objs.size+1 from Heap.size_push ..];rw[List.forIn_nil];exact wpAny_bind (wpAny_pure (wpAny_pure h))
theorem dn{sc:Scope}:∀{names:List (Str×NameKind)}{x:Str}{k:NameKind},(names.map λ(n,k)=>if(k==NameKind.free&&sc.kind==.function&&sc.names.lookup n==some .cell) then(n,NameKind.cell) else(n,k)).lookup x=some k->∃k',names.lookup x=some k'/\(k=k'\/(k'=.free/\k=.cell))
 |[],_,_,h=>by simp at h
 |(n,k₀)::r,x,k,h=>by
  have ih:=@dn sc r x k;have h':List.lookup x ((if(k₀==NameKind.free&&sc.kind==.function&&sc.names.lookup n==some .cell)=true then(n,NameKind.cell) else(n,k₀))::(r.map _))=some k:=h;cases hx:x==n with
  |true=>
   simp only[List.lookup_cons,hx];by_cases hc:(k₀==NameKind.free&&sc.kind==.function&&sc.names.lookup n==some .cell)=true
   ·rw[if_pos hc] at h';simp only[List.lookup_cons,hx] at h';cases h';simp only[Bool.and_eq_true,beq_iff_eq] at hc;exact⟨k₀,rfl,.inr ⟨hc.1.1,rfl⟩⟩
   ·rw[if_neg hc] at h';simp only[List.lookup_cons,hx] at h';cases h';exact⟨_,rfl,.inl rfl⟩
  |false=>
   simp only[List.lookup_cons,hx];by_cases hc:(k₀==NameKind.free&&sc.kind==.function&&sc.names.lookup n==some .cell)=true
   ·rw[if_pos hc] at h';simp only[List.lookup_cons,hx] at h';exact ih h'
   ·rw[if_neg hc] at h';simp only[List.lookup_cons,hx] at h';exact ih h'
structure sG(N:List Str)(sc scope:Scope)(own:List (Str×Nat)):Prop where
 kind:scope.kind=.function
 uniq:∀y∈scope.names,scope.names.lookup y.1=some y.2
 ix:∀p∈own,N[p.2]?=some p.1
 free:∀y∈scope.names,y.2=.free->sc.names.lookup y.1=some .cell\/sc.names.lookup y.1=some .free
 own:∀y∈scope.names,y.2=.local\/y.2=.cell->y.1∈own.map (·.1)\/y.1∉N
def wipe(σ:St):List Nat->St
 |[]=>σ
 |v::vs=>(wipe σ vs).set v none
theorem Sn(σ:St):∀vs:List Nat,(wipe σ vs).length=σ.length
 |[]=>rfl
 |v::vs=>by unfold wipe;rw[List.length_set,Sn σ vs]
theorem Au{σ:St}{i:Nat}{x:V}:∀{vs:List Nat},(wipe σ vs)[i]?=some (some x)->σ[i]?=some (some x)/\i∉vs
 |[],h=>⟨h,by simp⟩
 |v::vs,h=>by
  unfold wipe at h;by_cases hi:v=i
  ·subst hi;by_cases hv:v<(wipe σ vs).length
   ·rw[List.getElem?_set_self hv] at h;cases h
   ·rw[List.getElem?_eq_none (by simpa using hv)] at h;cases h
  ·rw[List.getElem?_set_ne hi] at h;obtain⟨h1,h2⟩:=Au h;exact⟨h1,by simp only[List.mem_cons,not_or];exact⟨λe=>hi e.symm,h2⟩⟩
abbrev Cx.aE(X:Cx)(s:Shared)(H:Hp)(scope:Scope)(cenv:Env)(fp:List Addr):Cx:={X with wD:=s,bV:=H,env:=cenv,outer:=X.stack,ex:=fp,fn:=λx=>scope.names.lookup x==some .cell,pn:=[],xe:=λ_ _=>False}
section
variable{X:Cx}{pins:List (Addr×Obj)}{σ:St}{H:Hp}{s:Shared}
theorem yG{scope:Scope}{own:List (Str×Nat)}{fp:List Addr}(I:Inv X pins σ H s)(ok:sG X.N X.env.scope scope own)(hN:X.N.Nodup)(hfp:∀b∈fp,gw X pins H b/\b<s.heap.objs.size):Inv (X.aE s H scope (compEnvC scope (cellsFrom (s.heap.objs.size+1) scope.names (xc X.env.cells scope.names [])) s.heap.objs.size X.env) fp) [] (wipe σ (own.map (·.2))) H {s with heap:=pushCells (s.heap.push {cls:=.type "dict",data:=.dict #[]}) scope.names}:=by
 have hfree:∀y∈scope.names,y.2=.free->∃c,X.env.cells.lookup y.1=some c:=λy hy e=>by
  rcases ok.free y hy e with k|k
  ·exact I.ok.has _ (.inl k)
  ·exact I.ok.has _ (.inr k)
 generalize hcenv:compEnvC scope (cellsFrom (s.heap.objs.size+1) scope.names (xc X.env.cells scope.names [])) s.heap.objs.size X.env=cenv;have kp:∀b o,s.heap.get? b=some o->(pushCells (s.heap.push {cls:=.type "dict",data:=.dict #[]}) scope.names).get? b=some o:=λb o e=>pushCells_keeps _ _ _ _ (Heap.get?_push_of_some _ e);have hL:cenv.locals=s.heap.objs.size:=by rw[<-hcenv];rfl
 have hcl:cenv.cells=cellsFrom (s.heap.objs.size+1) scope.names (xc X.env.cells scope.names []):=by rw[<-hcenv];rfl
 have hsc:cenv.scope=kZ scope X.env.scope:=by rw[<-hcenv];rfl
 rw[<-Heap.size_push s.heap {cls:=.type "dict",data:=.dict #[]}] at hcl;have cm:∀{y c},(y,c)∈xc X.env.cells scope.names []->X.env.cells.lookup y=some c/\c<s.heap.objs.size:=λ{y c} hm=>by
  rcases Ii hm with hm|⟨h1,rfl⟩
  ·cases hm
  ·obtain⟨c,hc⟩:=hfree _ h1 rfl;rw[hc];obtain⟨w,z⟩:=I.cell _ _ hc;exact⟨rfl,z.lt⟩
 have mem:∀{y c},cenv.cells.lookup y=some c->(X.env.cells.lookup y=some c/\c<s.heap.objs.size)\/(s.heap.objs.size+1<=c/\UP (pushCells (s.heap.push {cls:=.type "dict",data:=.dict #[]}) scope.names) c none):=λ{y c} e=>by
  rw[hcl] at e;rcases Dj (PySem.mem_of_lookup e) with hm|⟨_,h2,h3⟩
  ·exact .inl (cm hm)
  ·rw[Heap.size_push] at h2;exact .inr ⟨h2,h3⟩
 have look:∀{y},scope.names.lookup y=some .free->∃c,cenv.cells.lookup y=some c/\X.env.cells.lookup y=some c:=λ{y} hl=>by
  have hy:(y,NameKind.free)∈scope.names:=PySem.mem_of_lookup hl;obtain⟨c',e'⟩:=mem_lookup (ao (names:=scope.names) (n:=(s.heap.push {cls:=.type "dict",data:=.dict #[]}).objs.size) (Cm (cells:=X.env.cells) (acc:=[]) hy));rw[<-hcl] at e';refine⟨c',e',?_⟩;rw[hcl] at e';rcases Dj (PySem.mem_of_lookup e') with hm|⟨h1,_,_⟩
  ·exact(cm hm).1
  ·have:=ok.uniq _ h1;rw[hl] at this;cases this
 have okB:(X.aE s H scope cenv fp).Ok:=by
  refine⟨I.ok.mod,by show cenv.scope.kind=_;rw[hsc];exact ok.kind,by show cenv.globals=_;rw[<-hcenv];exact I.ok.glob,by show cenv.builtins=_;rw[<-hcenv];exact I.ok.blt,by show s.heap.objs.size<=cenv.locals;rw[hL];exact Nat.le_refl _,
   λy z c e1 e2=>?_,λy hy=>?_,λy c z e=>?_,I.ok.hd,I.ok.frames,.inl rfl,λb hb=>⟨?_,λy c e z=>?_⟩,I.bs,Nat.le_trans I.ok.jQ I.sz,λb o e hb=>?_,λb hb z=>?_,I.stack,I.wN⟩
  ·have e1:cenv.cells.lookup y=some c:=e1;have e2:cenv.cells.lookup z=some c:=e2;rw[hcl] at e1 e2;refine Nt (λp hp=>?_) (λy z c a b=>I.ok.inj y z c (cm a).1 (cm b).1) (PySem.mem_of_lookup e1) (PySem.mem_of_lookup e2);rw[Heap.size_push];exact Nat.lt_succ_of_lt (cm (y:=p.1) (c:=p.2) hp).2
  ·show∃c,cenv.cells.lookup y=some c;have key:∀k,cenv.kindOf y=some k->(k=.cell\/k=.free)->∃c,cenv.cells.lookup y=some c:=λk hk hk'=>by
    unfold Env.kindOf at hk;rw[hsc] at hk;obtain⟨k',e,r⟩:=dn hk;have:k'=.cell\/k'=.free:=by
     rcases r with rfl|⟨rfl,_⟩
     ·exact hk'
     ·exact .inr rfl
    rcases this with rfl|rfl
    ·obtain⟨c,hm⟩:=Mt (n:=(s.heap.push {cls:=.type "dict",data:=.dict #[]}).objs.size) (acc:=xc X.env.cells scope.names []) (PySem.mem_of_lookup e);obtain⟨c',e'⟩:=mem_lookup hm;exact⟨c',by rw[hcl];exact e'⟩
    ·obtain⟨c,h1,_⟩:=look e;exact⟨c,h1⟩
   rcases hy with hy|hy
   ·exact key _ hy (.inl rfl)
   ·exact key _ hy (.inr rfl)
  ·have z:(scope.names.lookup y==some NameKind.cell)=true:=z;have z:scope.names.lookup y=some .cell:=by simpa using z
   have e:cenv.cells.lookup y=some c:=e;rw[hcl] at e;rcases Dj (PySem.mem_of_lookup e) with hm|⟨_,h2,_⟩
   ·rcases Ii hm with hm|⟨h1,_⟩
    ·cases hm
    ·have q:=ok.uniq _ h1;rw[z] at q;cases q
   ·rw[Heap.size_push] at h2;exact Nat.le_of_succ_le h2
  ·show b≠cenv.locals;rw[hL];exact Nat.ne_of_lt (hfp b hb).2
  ·have e:cenv.cells.lookup y=some c:=e;rcases mem e with⟨h1,_⟩|⟨h1,_⟩
   ·exact(hfp b hb).1.2.2.2.2.1 y c h1 z
   ·have h2:s.heap.objs.size+1<=b:=by rw[<-z];exact h1
    exact absurd (Nat.lt_of_lt_of_le (hfp b hb).2 (Nat.le_of_succ_le h2)) (Nat.lt_irrefl _)
  ·rcases(hfp b hb).1.2.2.2.1 with z|z
   ·exact I.ok.FR b o e z
   ·exact absurd (Nat.lt_of_lt_of_le (Heap.lt_size e) (Nat.le_trans I.ok.jQ z)) (Nat.lt_irrefl _)
  ·rcases List.mem_cons.mp (I.dM b z) with z|z
   ·exact(hfp b hb).1.2.1 z
   ·exact(hfp b hb).1.2.2.1 z
 refine⟨okB,rfl,I.bare,Un.kept kp,⟨λ_=>none,?_,λi y av e1 e2 e3=>?_⟩,λy c e=>?_,?_,λy c e=>?_,λp hp=>?_,I.Kb.kept kp,by rw[Sn];exact I.len⟩
 ·show Heap.Ns _ cenv.locals _;rw[hL];exact Heap.Ns.keeps (Heap.Ns.new ..) λb o e=>pushCells_keeps _ _ _ _ e
 ·obtain⟨e2,hne⟩:=Au e2;have hfr:scope.names.lookup y=some .free/\(cenv.kindOf y=some .cell\/cenv.kindOf y=some .free):=by
   have key:∀k,cenv.scope.names.lookup y=some k->k=.local\/k=.cell\/k=.free->scope.names.lookup y=some .free/\(cenv.kindOf y=some .cell\/cenv.kindOf y=some .free):=λk hk hk'=>by
    have hk0:=hk;rw[hsc] at hk;obtain⟨k',e,r⟩:=dn hk;have no:¬(k'=.local\/k'=.cell):=λhh=>by
     rcases ok.own _ (PySem.mem_of_lookup e) hh with e'|e'
     ·obtain⟨p,hp,hpy⟩:=List.mem_map.mp e';have e3:=ok.ix p hp;have:p.1=y:=hpy;rw[this] at e3;exact hne (List.mem_map.mpr ⟨p,hp,uz hN e3 e1⟩)
     ·exact e' (List.mem_of_getElem? e1)
    rcases r with rfl|⟨rfl,rfl⟩
    ·rcases hk' with rfl|rfl|rfl
     ·exact absurd (.inl rfl) no
     ·exact absurd (.inr rfl) no
     ·exact⟨e,.inr hk0⟩
    ·exact⟨e,.inl hk0⟩
   have e3:aX cenv.scope y:=e3;rcases e3 with e3|e3|e3
   ·exact key _ e3 (.inl rfl)
   ·exact key _ e3 (.inr (.inl rfl))
   ·exact key _ e3 (.inr (.inr rfl))
  obtain⟨m,hn,hl⟩:=I.loc;have hvis:aX X.env.scope y:=(ok.free _ (PySem.mem_of_lookup hfr.1) rfl).elim (λk=>.inr (.inl k)) (λk=>.inr (.inr k));obtain⟨w,r,q⟩:=hl i y av e1 e2 hvis;refine⟨w,r,.inr ⟨hfr.2,?_⟩⟩;obtain⟨c,h1,h2⟩:=look hfr.1;rcases q with⟨k,_⟩|⟨_,c',e',z⟩
  ·have k:X.env.scope.names.lookup y=some .local:=k;rcases ok.free _ (PySem.mem_of_lookup hfr.1) rfl with k'|k'<;>rw[show X.env.scope.names.lookup y=_ from k'] at k<;>cases k
  ·rw[h2] at e';cases e';exact⟨c,h1,z.keeps kp⟩
 ·have e:cenv.cells.lookup y=some c:=e;rcases mem e with⟨h1,_⟩|⟨_,z⟩
  ·obtain⟨w,z⟩:=I.cell y c h1;exact⟨w,z.keeps kp⟩
  ·exact⟨_,z⟩
 ·show H cenv.locals=none;rw[hL];exact I.Kb.fresh (Nat.le_refl _)
 ·have e:cenv.cells.lookup y=some c:=e;rcases mem e with⟨h1,_⟩|⟨h1,_⟩
  ·exact I.Kj y c h1
  ·exact I.Kb.fresh (Nat.le_of_succ_le h1)
 ·exact absurd (show p∈([]:List (Addr×Obj))++[] from hp) (by simp)
theorem jV{E:Value->Shared->Prop}{D:Addr}{xs:List V}{y:V}{v:Value}{Q:Value->Shared->Prop}(I:Inv X pins σ H s)(hD:H D=some (.lst xs))(hz:xs.length<sizeLine)(r:RelV y v)(h:∀s',Inv X pins σ (upd H D (.lst (xs++[y]))) s'->Q .none s'):wpAny (model X.prog X.w) X.A (call (.builtin "list.append") [.ref D,v]) Q E s:=by
 obtain⟨hz',its,n,ri,e⟩:=I.Kb D _ hD;have hl:=ri.length;refine append_at (hsz:=by rw[List.size_toArray];lia) e λh' sb ho'=>?_;refine h {s with heap:=h'} (I.write (t':=s.toks) (by rw[hD];trivial) (.inl rfl) (λb u hb q=>(sb.2 b hb).trans q) ⟨_,ho'⟩ ⟨by rw[List.length_append];exact hz,its++[v],n+1,ri.append (.cons r .nil),?_⟩);rw[ho'];simp
def rX(X:Cx)(ifs:List Expr)(t:TT):Prop:=
 ∀(pins:List (Addr×Obj))(s:Shared)(σ:St)(H:Hp)(Q:Bool->Hp->Prop),Inv X pins σ H s->t σ H Q->
  wpAny (model X.prog X.w) X.A (forIn ifs true λc r=>if r=true then do let ok<-isTrue c X.env (eval c X.env);pure (ForInStep.yield ok) else pure (ForInStep.yield r)) (TP X pins σ Q) X.xe s
def He:TT:=λ_ H Q=>Q true H
theorem Ed:rX X [] He:=λ_ _ _ H _ I h=>wpAny_tests_nil ⟨H,I,h⟩
theorem se{c:Expr}{t:TT}(h:PT X c t):rX X [c] t:=λpins s σ H Q I hw=>wpAny_tests_one (h pins s σ H Q I hw)
end
theorem DP{α:Type}{t:Sem α}{Q Q':α->Shared->Prop}{M:Model}{A:Around}{E:Value->Shared->Prop}{s:Shared}(h:wpAny M A t Q (λ_ _=>False) s)(hQ:∀a s,Q a s->Q' a s):wpAny M A t Q' E s:=wpAny_mono h hQ λ_ _ z=>False.elim z
theorem fE{prog:Program}{w:World}{A:Around}{R:Result->Shared->Prop}{s:Shared}{elt target iter:Expr}{ifs:List Expr}{scope:Scope}{pos:Pos}{it acc:Value}{env:Env}(I:Nat->Shared->Prop)(turn:∀n s,I n s->wpAny (model prog w) A (pyNext it) (λr s₁=>match r with|none=>R (.ok .next) s₁|some v=>wpAny (model prog w) A (letOwnedTupleGo target it v) (λ_ s₁'=>wpAny (model prog w) A (assign target env v) (λ_ s₂=>wpAny (model prog w) A (forIn ifs true λc r=>if r=true then do let ok<-isTrue c env (eval c env);pure (ForInStep.yield ok) else pure (ForInStep.yield r)) (λok s₃=>if ok=true then wpAny (model prog w) A (eval elt env) (λx s₄=>wpAny (model prog w) A (call (.builtin "list.append") [acc,x]) (λ_ s₅=>∃m,m<n/\I m s₅) (notedBy (model prog w) A env λe s'=>R (.error e) s') s₄) (notedBy (model prog w) A env λe s'=>R (.error e) s') s₃ else∃m,m<n/\I m s₃) (notedBy (model prog w) A env λe s'=>R (.error e) s') s₂) (notedBy (model prog w) A env λe s'=>R (.error e) s') s₁') (notedBy (model prog w) A env λe s'=>R (.error e) s') s₁) (notedBy (model prog w) A env λe s'=>R (.error e) s') s)(n:Nat)(h:I n s):codeAny (model prog w) A (.compLoop (.ListComp elt [⟨target,iter,ifs,0⟩] scope pos) 0 it acc env) R s:=by
 refine codeAny_loop rfl I (λn s hI=>?_) n h;show wpAny _ A ((compTurn (.ListComp elt [⟨target,iter,ifs,0⟩] scope pos) 0 it acc env).onRaise (λx=>do noteFrame x env;theTreesLotGoes x)) _ _ s;refine wpAny_noted ?_;rw[compTurn_list];refine wpAny_bind (wpAny_standAt (wpAny_bind (wpAny_mono (turn n s hI) (λr s₁ h₁=>?_) λ_ _ h'=>h')));cases r with
 |none=>exact wpAny_pure h₁
 |some v=>
  refine wpAny_bind (wpAny_mono h₁ (λ_ s₁' h₁'=>?_) λ_ _ h'=>h');refine wpAny_bind (wpAny_mono h₁' (λ_ s₂ h₂=>wpAny_bind (wpAny_mono h₂ (λok s₃ h₃=>?_) λ_ _ h'=>h')) λ_ _ h'=>h');cases ok with
  |false=>exact wpAny_pure ⟨rfl,h₃⟩
  |true=>
   exact wpAny_bind (wpAny_bind (wpAny_mono h₃ (λx s₄ h₄=>wpAny_bind (wpAny_mono h₄ (λ_ s₅ h₅=>wpAny_pure (wpAny_pure ⟨rfl,h₅⟩)) λ_ _ h'=>h')) λ_ _ h'=>h'))
section
variable{X:Cx}
def iX(wi:TI)(g:TG)(tt:TT)(te:TE)(vs:List Nat):TE:=λσ H Q=>wi σ H λJ H1=>∀D,H1 D=none->∃W:Nat->Nat->Hp->Prop,(∃m,W 0 m (upd H1 D (.lst [])))/\∀i m H,W i m H->
 (J.stop i H/\Q (.ref D) H)\/(J.go i H/\∃Nx:Hp->Prop,(∀H',Nx H'->∃m',m'<m/\W (i+1) m' H')/\∀x H',J.rM i H x H'->g x (wipe σ vs) H' λσ2 H2=>wipe σ2 vs=wipe σ vs/\tt σ2 H2 λb H3=>
  if b=true then te σ2 H3 λy H4=>∃acc,H4 D=some (.lst acc)/\acc.length<sizeLine/\Nx (upd H4 D (.lst (acc++[y]))) else Nx H3)
theorem SM{pins:List (Addr×Obj)}{s:Shared}{σ:St}{H:Hp}{Q:VK}{elt tg iter:Expr}{ifs:List Expr}{scope:Scope}{own:List (Str×Nat)}{pos pos':Pos}{wi:TI}{g:TG}{tt:TT}{te:TE}{use:Option (Value->Sem Unit)}{Qf:Value->Shared->Prop}(hc:X.calm=true)(hN:X.N.Nodup)(I:Inv X pins σ H s)(hi:PI X tg iter wi)(ok:sG X.N X.env.scope scope own)(hg:∀(s:Shared)(H:Hp)(C:Addr)(cl:List (Str×Addr))(fp:List Addr),PG (X.aE s H scope (compEnvC scope cl C X.env) fp) tg g)(ht:∀(s:Shared)(H:Hp)(C:Addr)(cl:List (Str×Addr))(fp:List Addr),rX (X.aE s H scope (compEnvC scope cl C X.env) fp) ifs tt)(he:∀(s:Shared)(H:Hp)(C:Addr)(cl:List (Str×Addr))(fp:List Addr),PE (X.aE s H scope (compEnvC scope cl C X.env) fp) elt te)(hs:∀x,foldedSetIterable iter X.env x=pure x)(h:iX wi g tt te (own.map (·.2)) σ H Q)(hRR:∀D C s' m H',Inv X pins σ H' s'->Q (.ref D) H'->s'.heap.Ns C m->gw X pins H' C->compPost (model X.prog X.w) X.A X.xe use Qf (.ref D) C (.ok .next) s'):wpAny (model X.prog X.w) X.A (comprehension (.ListComp elt [⟨tg,iter,ifs,0⟩] scope pos) scope X.env pos' (newList []) false (eval iter X.env) use) Qf X.xe s:=by
 have hfree:∀y∈scope.names,y.2=.free->∃c,X.env.cells.lookup y.1=some c:=λy hy e=>by
  rcases ok.free y hy e with k|k
  ·exact I.ok.has _ (.inl k)
  ·exact I.ok.has _ (.inr k)
 refine wpAny_comprehension_free (use:=use) rfl hs (FJ hfree) ok.kind (λy hy e=>by rw[ok.uniq y hy,e])
  (yc (hi pins s σ H _ I h) λxv s1 hx=>yc hx λitv s2 h2=>?_)
 obtain⟨it,fp,tn,J,H2,e,I2,T,st2,f2,q⟩:=h2;subst e;refine wpAny_newObj_type (AH ?_) (by show 0<=sizeLine;decide);generalize hD:s2.heap.objs.size=D;have hDn:H2 D=none:=I2.Kb.fresh (Nat.le_of_eq hD);obtain⟨W,⟨m0,w0⟩,turn⟩:=q D hDn;generalize hs3:({s2 with heap:=s2.heap.push {cls:=.type "list",data:=.seq ([]:List Value).toArray}}:Shared)=s3;have I3:Inv X pins σ (upd H2 D (.lst [])) s3:=by
  rw[<-hs3];refine I2.laid (t':=s2.toks) (λb o e=>Heap.get?_push_of_some _ e) (Nat.le_of_eq hD) ⟨Nat.zero_le _,[],0,.nil,?_⟩;rw[<-hD];exact Heap.get?_push_size _ rfl
 have h3:s3.heap=s2.heap.push {cls:=.type "list",data:=.seq ([]:List Value).toArray}:=by rw[<-hs3]
 have sz:∀b∈fp,b<s2.heap.objs.size:=λb hb=>by
  obtain⟨o,e,_⟩:=T.obj _ _ st2 b hb;exact Heap.lt_size e
 have f3:∀b∈fp,gw X pins (upd H2 D (.lst [])) b/\b<s3.heap.objs.size:=λb hb=>by
  have hlt:=sz b hb;refine⟨⟨?_,(f2 b hb).2⟩,by rw[h3,Heap.size_push];exact Nat.lt_succ_of_lt hlt⟩;rw[ua (by rw[<-hD];exact Nat.ne_of_lt hlt)];exact(f2 b hb).1
 have st3:tn 0 s3.heap:=T.keep _ _ _ st2 λb _ o e=>by rw[h3];exact Heap.get?_push_of_some _ e
 have I4:=yG I3 ok hN f3;have pg:=hg s3 (upd H2 D (.lst [])) s3.heap.objs.size (cellsFrom (s3.heap.objs.size+1) scope.names (xc X.env.cells scope.names [])) fp;have pt:=ht s3 (upd H2 D (.lst [])) s3.heap.objs.size (cellsFrom (s3.heap.objs.size+1) scope.names (xc X.env.cells scope.names [])) fp;have pe:=he s3 (upd H2 D (.lst [])) s3.heap.objs.size (cellsFrom (s3.heap.objs.size+1) scope.names (xc X.env.cells scope.names [])) fp;show codeAny _ _ (.compStart (.ListComp elt [⟨tg,iter,ifs,0⟩] scope pos) 0 (.ref it) (.ref D) (compEnvC scope (cellsFrom (s3.heap.objs.size+1) scope.names (xc X.env.cells scope.names [])) s3.heap.objs.size X.env)) (compPost (model X.prog X.w) X.A X.xe use Qf (.ref D) s3.heap.objs.size) {s3 with heap:=pushCells (s3.heap.push {cls:=.type "dict",data:=.dict #[]}) scope.names};have nfp:∀b∈fp,(upd H2 D (.lst [])) b=none:=λb hb=>(f3 b hb).1.1;generalize hce:compEnvC scope (cellsFrom (s3.heap.objs.size+1) scope.names (xc X.env.cells scope.names [])) s3.heap.objs.size X.env=ce at I4 pg pt pe⊢;have cL:ce.locals=s3.heap.objs.size:=by subst hce;rfl
 generalize hH3:upd H2 D (.lst [])=H3 at I3 I4 pg pt pe w0 nfp f3;generalize hs4:({s3 with heap:=pushCells (s3.heap.push {cls:=.type "dict",data:=.dict #[]}) scope.names}:Shared)=s4 at I4⊢;have st4:tn 0 s4.heap:=T.keep _ _ _ st3 λb _ o e=>by rw[<-hs4];exact pushCells_keeps _ _ _ _ (Heap.get?_push_of_some _ e)
 have stat:∀{σ':St}{H':Hp}{s':Shared},Inv (X.aE s3 H3 scope ce fp) [] σ' H' s'->(∀b∈fp,H' b=none)->∀b∈fp,gw (X.aE s3 H3 scope ce fp) [] H' b:=λ{σ' H' s'} I' hn b hb=>
  ⟨hn b hb,(I'.ok.vY b hb).1,I'.ok.CQ b hb,.inl hb,λx c e=>(I'.ok.vY b hb).2 x c e,λp hp=>absurd (show p∈([]:List (Addr×Obj))++[] from hp) (by simp)⟩
 have loop:codeAny (model X.prog X.w) X.A (.compLoop (.ListComp elt [⟨tg,iter,ifs,0⟩] scope pos) 0 (.ref it) (.ref D) ce) (compPost (model X.prog X.w) X.A X.xe use Qf (.ref D) s3.heap.objs.size) s4:=by
  refine fE (λn s'=>∃i H',Inv (X.aE s3 H3 scope ce fp) [] (wipe σ (own.map (·.2))) H' s'/\tn i s'.heap/\(∀b∈fp,H' b=none)/\W i n H') ?_ m0 ⟨0,H3,I4,st4,nfp,w0⟩;rintro n s5 ⟨i,H5,I5,st5,n5,w5⟩;rcases turn i n H5 w5 with⟨stop,qq⟩|⟨go,Nx,hNx,step⟩
  ·have td:=T.done (X.aE s3 H3 scope ce fp) rfl rfl rfl hc i [] s5 _ H5 (λ_ _=>False) I5 (stat I5 n5) st5 stop;refine DP td λr s6⟨hr,I6⟩=>?_;subst hr;have I7:Inv X pins σ H5 s6:=I3.wX (ch:=fp) I6.os I6.base I6.Kb I6.bare λb hb=>⟨(f3 b hb).1.2.2.2.1,(f3 b hb).1.2.1,(f3 b hb).1.2.2.2.2.1,(f3 b hb).1.2.2.2.2.2⟩;have nC:H5 s3.heap.objs.size=none:=by
    have z:H5 ce.locals=none:=I6.free;rw[cL] at z;exact z
   obtain⟨m,hn,_⟩:=I6.loc;have hn:s6.heap.Ns ce.locals m:=hn;rw[cL] at hn;exact hRR D s3.heap.objs.size s6 m H5 I7 qq hn (I3.KJ (Nat.le_refl _) nC)
  ·have ti:=T.item (X.aE s3 H3 scope ce fp) rfl rfl rfl hc i [] s5 _ H5 (λ_ _=>False) I5 (stat I5 n5) st5 go;refine DP ti λr s6⟨u,hr,h6⟩=>?_;subst hr;refine DP h6 λ_ s7⟨x,H7,I7,r7,y7,st7,n7⟩=>?_;have I7':=I7.pinned (stat I7 n7) (T.obj _ _ st7);refine DP (pg _ s7 _ H7 x u _ I7' r7 (step x H7 y7)) λ_ s8⟨σ8,H8,I8,hw8,q8⟩=>?_;refine DP (pt _ s8 σ8 H8 _ I8 q8) λb s9⟨H9,I9,q9⟩=>?_;have fin:∀{s':Shared}{H':Hp},Inv (X.aE s3 H3 scope ce fp) ([]++Oz fp s7.heap) σ8 H' s'->Nx H'->∃m,m<n/\∃i H',Inv (X.aE s3 H3 scope ce fp) [] (wipe σ (own.map (·.2))) H' s'/\tn i s'.heap/\(∀b∈fp,H' b=none)/\W i m H':=λ{s' H'} I' nx=>by
    obtain⟨m',hm,w'⟩:=hNx H' nx;have pin':∀b∈fp,∀o,s7.heap.get? b=some o->s'.heap.get? b=some o/\H' b=none:=λb hb o e=>
     let z:=I'.pin (b,o) (List.mem_append_right _ (List.mem_append_right _ (Hq hb e)))
     ⟨z.1,z.2.1⟩
    have hl:(wipe σ (own.map (·.2))).length=σ8.length:=by rw[<-hw8,Sn]
    refine⟨m',hm,i+1,H',(I'.Zs (pins:=[])).weak hl (λj v e=>?_),T.keep _ _ _ st7 λb hb o e=>(pin' b hb o e).1,λb hb=>?_,w'⟩
    ·rw[<-hw8] at e;exact(Au e).1
    ·obtain⟨o,e,_⟩:=T.obj _ _ st7 b hb;exact(pin' b hb o e).2
   cases b with
   |false=>
    simp only[Bool.false_eq_true,if_false] at q9⊢;exact fin I9 q9
   |true=>
    simp only[if_true] at q9⊢;refine DP (pe _ s9 σ8 H9 _ I9 q9) λz s10⟨yv,H10,I10,r10,acc,hD10,hz10,nx⟩=>?_;exact jV (X:=X.aE s3 H3 scope ce fp) I10 hD10 hz10 r10 λs11 I11=>fin I11 nx
 exact codeAny_compStart_list loop (T.self X.A 0 _ _ _ st4 loop)
theorem Fe{elt tg iter:Expr}{ifs:List Expr}{scope:Scope}{own:List (Str×Nat)}{pos:Pos}{wi:TI}{g:TG}{tt:TT}{te:TE}(hc:X.calm=true)(hN:X.N.Nodup)(hi:PI X tg iter wi)(ok:sG X.N X.env.scope scope own)(hg:∀(s:Shared)(H:Hp)(C:Addr)(cl:List (Str×Addr))(fp:List Addr),PG (X.aE s H scope (compEnvC scope cl C X.env) fp) tg g)(ht:∀(s:Shared)(H:Hp)(C:Addr)(cl:List (Str×Addr))(fp:List Addr),rX (X.aE s H scope (compEnvC scope cl C X.env) fp) ifs tt)(he:∀(s:Shared)(H:Hp)(C:Addr)(cl:List (Str×Addr))(fp:List Addr),PE (X.aE s H scope (compEnvC scope cl C X.env) fp) elt te)(hs:∀x,foldedSetIterable iter X.env x=pure x:=by intro _;rfl):PE X (.ListComp elt [⟨tg,iter,ifs,0⟩] scope pos) (iX wi g tt te (own.map (·.2))):=by
 intro pins s σ H Q I h;rw[eval_ListComp];refine SM hc hN I hi ok hg ht he hs h λD C s' m H' I' q hn f=>⟨m,hn,λh'' sb=>?_⟩;obtain⟨f0,f1,f2,f3,f4,f5⟩:=f;exact⟨.ref D,H',I'.turned (t':=s'.toks) (λb o hb e=>(sb.2 b hb).trans e) f0 f1 f3 f4 f5,rfl,q⟩
theorem yi{i:Nat}{y:Str}{py:Pos}{elt tg iter:Expr}{ifs:List Expr}{scope:Scope}{own:List (Str×Nat)}{pos spos:Pos}{wi:TI}{g:TG}{tt:TT}{te:TE}(hc:X.calm=true)(hN:X.N.Nodup)(hy:X.N[i]?=some y)(hyl:X.env.scope.names.lookup y=some .local)(hsw:swapsWith (.ListComp elt [⟨tg,iter,ifs,0⟩] scope pos) (some (.Name y py)) spos.line X.env=pure true)(hi:PI X tg iter wi)(ok:sG X.N X.env.scope scope own)(hg:∀(s:Shared)(H:Hp)(C:Addr)(cl:List (Str×Addr))(fp:List Addr),PG (X.aE s H scope (compEnvC scope cl C X.env) fp) tg g)(ht:∀(s:Shared)(H:Hp)(C:Addr)(cl:List (Str×Addr))(fp:List Addr),rX (X.aE s H scope (compEnvC scope cl C X.env) fp) ifs tt)(he:∀(s:Shared)(H:Hp)(C:Addr)(cl:List (Str×Addr))(fp:List Addr),PE (X.aE s H scope (compEnvC scope cl C X.env) fp) elt te)(hs:∀x,foldedSetIterable iter X.env x=pure x:=by intro _;rfl):PS X (.Assign [.Name y py] (.ListComp elt [⟨tg,iter,ifs,0⟩] scope pos) spos) (vU (iX wi g tt te (own.map (·.2))) (Mb i)):=by
 intro pins s σ H D I h;rw[exec_Assign_Name_used _ _ _ _ hsw];refine wpAny_bind (wpAny_standAt (wpAny_bind ?_));show wpAny _ X.A (do let _<-comprehension (.ListComp elt [⟨tg,iter,ifs,0⟩] scope pos) scope X.env (firstIterPos [⟨tg,iter,ifs,0⟩] pos) (newList []) false (eval iter X.env) (some (assign (.Name y py) X.env))) _ _ s;have h:iX wi g tt te (own.map (·.2)) σ H (λx H1=>Mb i x σ H1 D.nx):=h;refine wpAny_bind (yc (SM (Qf:=λ_ s'=>SP X pins D .next s') hc hN I hi ok hg ht he hs h λL C s' m H' I' q hn f=>?_) λ_ s' hq=>wpAny_pure (wpAny_pure hq));show wpAny _ _ (assign (.Name y py) X.env (.ref L)) _ _ _;refine wpAny_assign_Name (KD (v:=V.ref L) I' hN hy (.inl hyl) rfl (λs2 I2⟨a,sb,ha⟩=>?_) (.inr hyl));obtain⟨f0,f1,f2,f3,f4,f5⟩:=f;have haC:C≠a:=by
  rcases ha with z|z
  ·rw[z];exact f1
  ·exactλe=>f4 y a z e.symm
 refine⟨m,hn.sameBut sb haC,λh3 sb3=>?_⟩;exact⟨_,H',I2.turned (t':=s2.toks) (λb o hb e=>(sb3.2 b hb).trans e) f0 f1 f3 f4 f5,q⟩
end
end L2
namespace L2
open PySem PySem.Spec PyProof.Rows
section
variable{prog:Program}{w:World}{A:Around}{R:Result->Shared->Prop}{s:Shared}{elt t0 i0 t1 i1:Expr}{ifs0 ifs1:List Expr}{scope:Scope}{pos:Pos}{it acc:Value}{env:Env}
end
section
variable{X:Cx}
end
end L2
namespace L2
open PySem PySem.Spec PyProof.Rows
section
variable{κ:Type}[DecidableEq κ]
def Zl(kvs:List (κ×V))(k:κ):Option V:=(kvs.find? λkv=>decide (kv.1=k)).map (·.2)
def putK(kvs:List (κ×V))(k:κ)(v:V):List (κ×V):=
 if(kvs.any λkv=>decide (kv.1=k))=true then kvs.map (λkv=>if kv.1=k then(kv.1,v) else kv) else kvs++[(k,v)]
theorem Ei{p:κ×V}{r:List (κ×V)}{k:κ}(e:p.1=k):Zl (p::r) k=some p.2:=by simp[Zl,List.find?_cons,e]
theorem xf{p:κ×V}{r:List (κ×V)}{k:κ}(e:¬p.1=k):Zl (p::r) k=Zl r k:=by simp[Zl,List.find?_cons,e]
theorem Di(k:κ):∀kvs:List (κ×V),(kvs.any λkv=>decide (kv.1=k))=(Zl kvs k).isSome
 |[]=>rfl
 |p::r=>by
  rw[List.any_cons];by_cases e:p.1=k
  ·simp only[Ei e,decide_eq_true e,Bool.true_or,Option.isSome_some]
  ·rw[xf e,decide_eq_false e,Bool.false_or];exact Di k r
theorem Gv(kvs:List (κ×V))(k:κ)(v:V):(putK kvs k v).length<=kvs.length+1:=by
 unfold putK;split
 ·rw[List.length_map];lia
 ·rw[List.length_append,List.length_cons,List.length_nil];lia
theorem YR{kvs:List (κ×V)}{k:κ}(v:V)(h:Zl kvs k=none):putK kvs k v=kvs++[(k,v)]:=by
 unfold putK;rw[Di,h];exact if_neg (by decide)
theorem gq.Qj{o:Option V}{u:Option Value}(r:gq o u):o.isSome=u.isSome:=by
 cases o with
 |none=>cases u with
  |none=>rfl
  |some _=>exact(show False from r).elim
 |some _=>cases u with
  |none=>exact(show False from r).elim
  |some _=>rfl
theorem gq.getD{o:Option V}{u:Option Value}{d:V}{d':Value}(r:gq o u)(rd:RelV d d'):RelV (o.getD d) (u.getD d'):=by
 cases o with
 |none=>cases u with
  |none=>exact rd
  |some _=>exact(show False from r).elim
 |some _=>cases u with
  |none=>exact(show False from r).elim
  |some _=>exact r
theorem KV.val{kvs:List (κ×V)}{vs:List (κ×Value)}(r:KV kvs vs)(k:κ):gq (Zl kvs k) (valueAt vs k):=by
 unfold KV at r;induction r with
 |nil=>exact True.intro
 |@cons p q ps qs h t ih=>
  obtain⟨h1,h2⟩:=h;by_cases e:p.1=k
  ·have e':q.1=k:=h1.symm.trans e;have b:valueAt (q::qs) k=some q.2:=by simp[valueAt,List.find?_cons,e']
   rw[Ei e,b];exact h2
  ·have e':¬q.1=k:=λz=>e (h1.trans z);have b:valueAt (q::qs) k=valueAt qs k:=by simp[valueAt,List.find?_cons,e']
   rw[xf e,b];exact ih
theorem KV.any{kvs:List (κ×V)}{vs:List (κ×Value)}(r:KV kvs vs)(k:κ):(kvs.any λkv=>decide (kv.1=k))=vs.any λkv=>decide (kv.1=k):=by
 unfold KV at r;induction r with
 |nil=>rfl
 |cons h t ih=>rw[List.any_cons,List.any_cons,ih,h.1]
theorem KV.zW{kvs:List (κ×V)}{vs:List (κ×Value)}(r:KV kvs vs)(k:κ){y:V}{u:Value}(ry:RelV y u):KV (kvs.map λkv=>if kv.1=k then(kv.1,y) else kv) (vs.map λkv=>if kv.1=k then(kv.1,u) else kv):=by
 unfold KV at r⊢;induction r with
 |nil=>exact .nil
 |@cons p q ps qs h t ih=>
  rw[List.map_cons,List.map_cons];refine .cons ?_ ih;obtain⟨h1,h2⟩:=h;by_cases e:p.1=k
  ·rw[if_pos e,if_pos (h1.symm.trans e)];exact⟨h1,ry⟩
  ·rw[if_neg e,if_neg (λz=>e (h1.trans z))];exact⟨h1,h2⟩
theorem KV.put{kvs:List (κ×V)}{vs:List (κ×Value)}(r:KV kvs vs)(k:κ){y:V}{u:Value}(ry:RelV y u):KV (putK kvs k y) (stored vs k u):=by
 unfold putK stored;rw[r.any k];by_cases e:(vs.any λkv=>decide (kv.1=k))=true
 ·rw[if_pos e,if_pos e];exact r.zW k ry
 ·rw[if_neg e,if_neg e];exact Paired.snoc r ⟨rfl,ry⟩
theorem KV.length{kvs:List (κ×V)}{vs:List (κ×Value)}(r:KV kvs vs):kvs.length=vs.length:=Paired.length r
end
theorem WC{P:Program}{w:World}{k:Key}{u:Value}(r:RelV (kV k) u):(ud P w).is k u=true:=by
 cases k with
 |inl i=>obtain⟨t,e⟩:=(show∃t,u=Value.int i t from r);subst e;exact wH P w i t
 |inr x=>obtain⟨t,e⟩:=(show∃t,u=Value.str x t from r);subst e;exact xH P w x t
theorem UC{P:Program}{w:World}:∀{ks:List Key}{us:List Value},Vals (ks.map kV) us->ItemsAre (ud P w) ks us
 |[],_,r=>by rw[List.map_nil] at r;cases r;exact .nil
 |k::ks,_,r=>by
  rw[List.map_cons] at r;cases r with
  |cons h t=>exact .cons (WC h) (UC t)
abbrev KT(H:Hp):List (List Key×V)->List (List Key×Addr×Value)->Prop:=Paired λp q=>p.1=q.1/\H q.2.1=some (.tup (p.1.map kV))/\RelV p.2 q.2.2
theorem KT.val{H:Hp}{kvs:List (List Key×V)}{xs:List (List Key×Addr×Value)}(r:KT H kvs xs)(k:List Key):gq (Zl kvs k) ((atKey xs k).map (·.2)):=by
 induction r with
 |nil=>exact True.intro
 |@cons p q ps qs h t ih=>
  obtain⟨h1,_,h2⟩:=h;by_cases e:p.1=k
  ·have e':q.1=k:=h1.symm.trans e;have b:atKey (q::qs) k=some q.2:=by simp[atKey,List.find?_cons,e']
   rw[Ei e,b];exact h2
  ·have e':¬q.1=k:=λz=>e (h1.trans z);have b:atKey (q::qs) k=atKey qs k:=by simp[atKey,List.find?_cons,e']
   rw[xf e,b];exact ih
theorem KT.zW{H:Hp}{kvs:List (List Key×V)}{xs:List (List Key×Addr×Value)}(r:KT H kvs xs)(k:List Key){y:V}{u:Value}(ry:RelV y u):KT H (kvs.map λkv=>if kv.1=k then(kv.1,y) else kv) (xs.map (putAt k u)):=by
 induction r with
 |nil=>exact .nil
 |@cons p q ps qs h t ih=>
  rw[List.map_cons,List.map_cons];refine .cons ?_ ih;obtain⟨h1,h2,h3⟩:=h;unfold putAt;by_cases e:p.1=k
  ·rw[if_pos e,if_pos (h1.symm.trans e)];exact⟨h1,h2,ry⟩
  ·rw[if_neg e,if_neg (λz=>e (h1.trans z))];exact⟨h1,h2,h3⟩
theorem KT.put{H:Hp}{kvs:List (List Key×V)}{xs:List (List Key×Addr×Value)}(r:KT H kvs xs)(k:List Key){b:Addr}{y:V}{u:Value}(hb:H b=some (.tup (k.map kV)))(ry:RelV y u):KT H (putK kvs k y) (storedH xs k b u):=by
 have e:(kvs.any λkv=>decide (kv.1=k))=(atKey xs k).isSome:=by
  rw[Di,(r.val k).Qj,Option.isSome_map]
 unfold putK storedH;rw[e];by_cases q:(atKey xs k).isSome=true
 ·rw[if_pos q,if_pos q];exact r.zW k ry
 ·rw[if_neg q,if_neg q];exact Paired.snoc r ⟨rfl,hb,ry⟩
theorem KT.keeps{H H':Hp}{kvs:List (List Key×V)}{xs:List (List Key×Addr×Value)}(r:KT H kvs xs)(ht:∀b ys,H b=some (.tup ys)->H' b=some (.tup ys)):KT H' kvs xs:=
 Paired.jW r λ_ _ z=>⟨z.1,ht _ _ z.2.1,z.2.2⟩
section
variable{P:Program}{w:World}{H:Hp}{h:Heap}{a:Addr}
theorem JU{u:HO}(ok:Zj P w H h)(e:Rd H a u):Cd P w H h a u:=e.ok ok
theorem Uu{kvs:List (Key×V)}(ok:Zj P w H h)(e:Rd H a (.dK kvs)):kvs.length<=sizeLine/\(a==sysModules)=false/\∃vs,KV kvs vs/\h.DictOf (ud P w) a vs:=
 show Cd P w H h a (.dK kvs) from JU ok e
theorem zX{kvs:List (Key×V)}(ok:Zj P w H h)(e:H a=some (.dK kvs)):kvs.length<=sizeLine/\(a==sysModules)=false/\∃vs,KV kvs vs/\h.DictOf (ud P w) a vs:=Uu ok (.inl e)
theorem Yt{ks:List Key}(ok:Zj P w H h)(e:H a=some (.tup (ks.map kV))):(tupleKind (ud P w)).is h ks a:=by
 obtain⟨_,its,r,o,h1,h2,n,h3⟩:=(show Cd P w H h a (.tup (ks.map kV)) from ok a _ e);exact⟨o,its.toArray,n,h1,h2,h3,by simpa using UC r⟩
theorem ky{kvs:List (List Key×V)}(ok:Zj P w H h)(e:Rd H a (.dT kvs)):kvs.length<=sizeLine/\(a==sysModules)=false/\∃xs,KT H kvs xs/\h.DictOfH (tupleKind (ud P w)) a xs:=by
 obtain⟨z,y,xs,r,o,es,ep,h1,h2,h3,h4,h5⟩:=(show Cd P w H h a (.dT kvs) from JU ok e);refine⟨z,y,xs,r,o,es,ep,h1,h2,h3,h4,λx hx=>?_,h5⟩;have all:∀{l:List (List Key×V)}{m:List (List Key×Addr×Value)},KT H l m->∀x∈m,(tupleKind (ud P w)).is h x.1 x.2.1:=by
  intro l m q;induction q with
  |nil=>intro x hx;exact nomatch hx
  |@cons p q ps qs hq t ih=>
   intro x hx;rcases List.mem_cons.mp hx with e|hx
   ·subst e;exact Yt ok (by rw[<-hq.1];exact hq.2.1)
   ·exact ih x hx
 exact all r x hx
theorem zQ{kvs:List (List Key×V)}(ok:Zj P w H h)(e:H a=some (.dT kvs)):kvs.length<=sizeLine/\(a==sysModules)=false/\∃xs,KT H kvs xs/\h.DictOfH (tupleKind (ud P w)) a xs:=ky ok (.inl e)
end
def Mg(H:Hp)(a:Addr)(y:V)(r:Option V):Prop:=
 (∃kvs k,Rd H a (.dK kvs)/\y=kV k/\r=Zl kvs k)\/∃kvs k b,Rd H a (.dT kvs)/\y=.ref b/\H b=some (.tup (k.map kV))/\r=Zl kvs k
def BA(H:Hp)(a:Addr)(y v:V)(H':Hp):Prop:=
 (∃kvs k,H a=some (.dK kvs)/\y=kV k/\kvs.length<sizeLine/\H'=upd H a (.dK (putK kvs k v)))\/
 ∃kvs k b,H a=some (.dT kvs)/\y=.ref b/\H b=some (.tup (k.map kV))/\kvs.length<sizeLine/\H'=upd H a (.dT (putK kvs k v))
theorem Mg.k{H:Hp}{a:Addr}{kvs:List (Key×V)}{k:Key}(e:H a=some (.dK kvs)):Mg H a (kV k) (Zl kvs k):=.inl ⟨kvs,k,.inl e,rfl,rfl⟩
theorem Mg.t{H:Hp}{a b:Addr}{kvs:List (List Key×V)}{k:List Key}(e:H a=some (.dT kvs))(eb:H b=some (.tup (k.map kV))):Mg H a (.ref b) (Zl kvs k):=.inr ⟨kvs,k,b,.inl e,rfl,eb,rfl⟩
theorem BA.k{H:Hp}{a:Addr}{kvs:List (Key×V)}{k:Key}{v:V}(e:H a=some (.dK kvs))(hl:kvs.length<sizeLine):BA H a (kV k) v (upd H a (.dK (putK kvs k v))):=.inl ⟨kvs,k,e,rfl,hl,rfl⟩
theorem BA.t{H:Hp}{a b:Addr}{kvs:List (List Key×V)}{k:List Key}{v:V}(e:H a=some (.dT kvs))(eb:H b=some (.tup (k.map kV)))(hl:kvs.length<sizeLine):BA H a (.ref b) v (upd H a (.dT (putK kvs k v))):=.inr ⟨kvs,k,b,e,rfl,eb,hl,rfl⟩
section
variable{X:Cx}{pins:List (Addr×Obj)}{σ:St}{H:Hp}{s:Shared}{a:Addr}{y v:V}{u r:Value}{o:Option V}{A:Around}{E:Value->Shared->Prop}
theorem Inv.big(I:Inv X pins σ H s):sysModules<s.heap.objs.size:=by
 have h:mainGlobals<s.heap.objs.size:=(I.mod.glob.keeps I.bk).lt;exact Nat.lt_trans (by decide) h
theorem SN{Q:Value->Shared->Prop}(hu:A.units+1<cLine)(I:Inv X pins σ H s)(g:Mg H a y (some v))(ry:RelV y u)(h:∀w' s',Inv X pins σ H s'->RelV v w'->Q w' s'):wpAny (model X.prog X.w) A (getItem (.ref a) u) Q E s:=by
 rcases g with⟨kvs,k,e,ey,l⟩|⟨kvs,k,b,e,ey,eb,l⟩
 ·subst ey;obtain⟨z,hd,vs,rel,dd⟩:=Uu I.Kb e;obtain⟨w',hw,rw'⟩:=gq.some_of (v:=v) (o:=valueAt vs k) (by rw[l];exact rel.val k);exact wpAny_getItem_of (WC ry) dd.mapOf hw (h w' _ (I.tok _) rw')
 ·subst ey;cases(show u=Value.ref b from ry);obtain⟨z,hd,xs,rel,dd⟩:=ky I.Kb e;obtain⟨w',hw,rw'⟩:=gq.some_of (v:=v) (o:=(atKey xs k).map (·.2)) (by rw[l];exact rel.val k);obtain⟨p,hp,hp2⟩:=Option.map_eq_some_iff.mp hw;refine wpAny_getItem_heap (tupleKind_room_in1 hu) (Yt I.Kb eb) dd hp ?_;rw[hp2];exact h w' _ (I.tok _) rw'
theorem TY{Q:Value->Shared->Prop}(hu:A.units+1<cLine)(I:Inv X pins σ H s)(g:Mg H a y o)(ry:RelV y u)(h:∀s',Inv X pins σ H s'->Q (.bool o.isSome) s'):wpAny (model X.prog X.w) A (compareOp .In u (.ref a)) Q E s:=by
 rcases g with⟨kvs,k,e,ey,l⟩|⟨kvs,k,b,e,ey,eb,l⟩
 ·subst ey;obtain⟨z,hd,vs,rel,dd⟩:=Uu I.Kb e;refine wpAny_in_of (WC ry) hd dd.mapOf ?_;rw[<-(rel.val k).Qj,<-l];exact h _ (I.tok _)
 ·subst ey;cases(show u=Value.ref b from ry);obtain⟨z,hd,xs,rel,dd⟩:=ky I.Kb e;refine wpAny_in_heap (tupleKind_room_in1 hu) (Yt I.Kb eb) hd dd ?_;have q:=(rel.val k).Qj;rw[Option.isSome_map] at q;rw[<-q,<-l];exact h _ (I.tok _)
theorem lT{Q:Value->Shared->Prop}(hu:A.units+1<cLine)(I:Inv X pins σ H s)(g:Mg H a y o)(ry:RelV y u)(h:∀s',Inv X pins σ H s'->Q (.bool (!o.isSome)) s'):wpAny (model X.prog X.w) A (compareOp .NotIn u (.ref a)) Q E s:=by
 rcases g with⟨kvs,k,e,ey,l⟩|⟨kvs,k,b,e,ey,eb,l⟩
 ·subst ey;obtain⟨z,hd,vs,rel,dd⟩:=Uu I.Kb e;refine wpAny_notIn_of (WC ry) hd dd.mapOf ?_;rw[<-(rel.val k).Qj,<-l];exact h _ (I.tok _)
 ·subst ey;cases(show u=Value.ref b from ry);obtain⟨z,hd,xs,rel,dd⟩:=ky I.Kb e;refine wpAny_notIn_heap (tupleKind_room_in1 hu) (Yt I.Kb eb) hd dd ?_;have q:=(rel.val k).Qj;rw[Option.isSome_map] at q;rw[<-q,<-l];exact h _ (I.tok _)
theorem yM{h':Heap}{t':Nat}{ob:HO}(I:Inv X pins σ H s)(mu:AU (H a))(hs:Heap.SameBut a s.heap h')(he:∃q,h'.get? a=some q)(new:Cd X.prog X.w (upd H a ob) h' a ob):Inv X pins σ (upd H a ob) {s with heap:=h',toks:=t'}:=
 I.write (x:=a) (e:=a) mu (.inl rfl) (λb q hb z=>(hs.2 b hb).trans z) he new
theorem AV{P:Program}{w:World}{H':Hp}{h':Heap}{kvs:List (Key×V)}{vs:List (Key×Value)}(z:kvs.length<=sizeLine)(hd:(a==sysModules)=false)(rel:KV kvs vs)(dd:h'.DictOf (ud P w) a vs):Cd P w H' h' a (.dK kvs):=⟨z,hd,vs,rel,dd⟩
theorem TN{H':Hp}{Q:Unit->Shared->Prop}(hu:A.units+1<cLine)(I:Inv X pins σ H s)(g:BA H a y v H')(ry:RelV y u)(rv:RelV v r)(h:∀s',Inv X pins σ H' s'->Q () s'):wpAny (model X.prog X.w) A (setItem (.ref a) u r) Q E s:=by
 rcases g with⟨kvs,k,e,ey,l,eH⟩|⟨kvs,k,b,e,ey,eb,l,eH⟩
 ·subst ey eH;obtain⟨z,hd,vs,rel,dd⟩:=zX I.Kb e;have hz:vs.length<=sizeLine:=by rw[<-rel.length];exact z
  have hl:(putK kvs k v).length<=sizeLine:=by have:=Gv kvs k v;lia
  refine wpAny_setItem_pairs (hsz:=hz) (WC ry) dd λh' dd' hs=>h _ ?_;have he:∃q,h'.get? a=some q:=let ⟨q,_,_,hq,_⟩:=dd';⟨q,hq⟩;exact yM I (by rw[e];exact True.intro) hs he (AV hl hd (rel.put k rv) dd')
 ·subst ey eH;cases(show u=Value.ref b from ry);obtain⟨z,hd,xs,rel,dd⟩:=zQ I.Kb e;have hz:xs.length<=sizeLine:=by rw[<-Paired.length rel];exact z
  have hl:(putK kvs k v).length<=sizeLine:=by have:=Gv kvs k v;lia
  refine wpAny_setItem_heap (hsz:=hz) (tupleKind_room_in1 hu) (Yt I.Kb eb) dd λh' dd' hs=>h _ ?_;obtain⟨q,es,ep,hq,h2,h3,h4,_,h5⟩:=dd';refine yM I (by rw[e];exact True.intro) hs ⟨q,hq⟩ ⟨hl,hd,_,(rel.put k eb rv).keeps λc ys ec=>?_,q,es,ep,hq,h2,h3,h4,h5⟩;rw[ua (Fb ec e (λz=>nomatch z))];exact ec
end
section
variable{X:Cx}{pins:List (Addr×Obj)}{σ:St}{H:Hp}{s:Shared}{a:Addr}{kvs:List (Key×V)}{k:Key}{u:Value}{A:Around}{E:Value->Shared->Prop}
theorem yX{Q:Value->Shared->Prop}(I:Inv X pins σ H s)(e:Rd H a (.dK kvs))(h:∀t s',Inv X pins σ H s'->Q (.int kvs.length t) s'):wpAny (model X.prog X.w) A (call (.builtin "len") [.ref a]) Q E s:=by
 obtain⟨z,hd,vs,rel,dd⟩:=Uu I.Kb e;refine call_len_dict hd dd (by rw[<-rel.length];rw[sizeLine_eq] at z;lia) ?_;rw[<-rel.length];exact h _ _ (I.tok _)
end
def oX(i:Expr):Prop:=∀ov iv,subscripted i false ov iv=operate [ov,iv] (getItem ov iv)
theorem tU{prog:Program}{w:World}{A:Around}{E:Value->Shared->Prop}{s:Shared}{env:Env}{value slice:Expr}{pos:Pos}{T id:String}{Q:Value->Shared->Prop}(hl:typeLookup (.type T) "__getitem__"=pure (some (.builtin id)))(hs:oX slice)(h:wpAny (model prog w) A (eval value env) (λo s₁=>wpAny (model prog w) A (eval slice env) (λi s₂=>s₂.TypeIs o T/\wpAny (model prog w) A (getItem o i) Q E s₂) E s₁) E s):wpAny (model prog w) A (eval (.Subscript value slice pos) env) Q E s:=by
 refine Subscript_ (wpAny_mono h (λo s₁ h₁=>wpAny_mono h₁ (λi s₂ h₂=>?_) λ_ _ x=>x) λ_ _ x=>x);obtain⟨hT,h₂⟩:=h₂;unfold subscriptTail;refine wpAny_bind ?_;rw[getitemInPython_of_ne hT.not_modules];refine wpAny_bind (wpAny_specialOf hT hl ?_);have fin:wpAny (model prog w) A (subscripted slice false o i) (λr s₃=>wpAny (model prog w) A (letTemporaryGo value o r>>=λ_=>pure r) Q E s₃) E s₂:=by
  rw[hs o i];exact wpAny_operating (wpAny_mono h₂ (λr s₃ h₃=>wpAny_bind (wpAny_letTemporaryGo (wpAny_pure h₃))) λ_ _ x=>x)
 first
  |exact wpAny_pure (wpAny_bind fin)
  |exact wpAny_bind (wpAny_pure (wpAny_bind fin))
  |exact wpAny_bind fin
theorem JG{X:Cx}{pins:List (Addr×Obj)}{σ:St}{H:Hp}{s:Shared}{a:Addr}{y:V}{o:Option V}(I:Inv X pins σ H s)(g:Mg H a y o):s.TypeIs (.ref a) "dict":=by
 rcases g with⟨kvs,k,e,_,_⟩|⟨kvs,k,b,e,_,_,_⟩
 ·obtain⟨_,_,vs,_,dd⟩:=Uu I.Kb e;exact dd.typeIs
 ·obtain⟨_,_,xs,_,dd⟩:=ky I.Kb e;exact dd.typeIs
def Zv(td ty:TE):TE:=λσ H Q=>td σ H λx H1=>ty σ H1 λy H2=>∃a v,x=.ref a/\Mg H2 a y (some v)/\Q v H2
def YX(ty td:TE):TE:=λσ H Q=>ty σ H λy H1=>td σ H1 λx H2=>∃a o,x=.ref a/\Mg H2 a y o/\Q (.bl o.isSome) H2
def yN(ty td:TE):TE:=λσ H Q=>ty σ H λy H1=>td σ H1 λx H2=>∃a o,x=.ref a/\Mg H2 a y o/\Q (.bl (!o.isSome)) H2
def tI(td ty tv:TE):TS:=λD σ H=>tv σ H λv H1=>td σ H1 λx H2=>ty σ H2 λy H3=>∃a H4,x=.ref a/\BA H3 a y v H4/\D.nx σ H4
section
variable{X:Cx}{o i e value:Expr}{pos pos' tpos:Pos}{td ty tv:TE}
theorem Xk(hu:X.A.units+1<cLine)(ho:PE X o td)(hi:PE X i ty)(hs:oX i):PE X (.Subscript o i pos) (Zv td ty):=by
 intro pins s σ H Q I h;refine tU PySem.F.slot_dict_getitem.lookup hs (yc (ho pins s σ H _ I h) λu s1⟨x,H1,I1,rx,q1⟩=>yc (hi pins s1 σ H1 _ I1 q1) λiv s2⟨y,H2,I2,ry,a,v,ex,g,q2⟩=>?_);subst ex;obtain rfl:u=Value.ref a:=rx;exact⟨JG I2 g,SN hu I2 g ry λw' s3 I3 rw'=>⟨v,H2,I3,rw',q2⟩⟩
theorem nW(hu:X.A.units+1<cLine)(hi:PE X i ty)(ho:PE X o td):PC X .In i o (YX ty td):=by
 intro pins s σ H Q I h;refine yc (hi pins s σ H _ I h) λiv s1⟨y,H1,I1,ry,q1⟩=>yc (ho pins s1 σ H1 _ I1 q1) λu s2⟨x,H2,I2,rx,a,ov,ex,g,q2⟩=>?_;subst ex;obtain rfl:u=Value.ref a:=rx;exact TY hu I2 g ry λs3 I3=>⟨.bl ov.isSome,H2,I3,rfl,q2⟩
theorem RO(hu:X.A.units+1<cLine)(hi:PE X i ty)(ho:PE X o td):PC X .NotIn i o (yN ty td):=by
 intro pins s σ H Q I h;refine yc (hi pins s σ H _ I h) λiv s1⟨y,H1,I1,ry,q1⟩=>yc (ho pins s1 σ H1 _ I1 q1) λu s2⟨x,H2,I2,rx,a,ov,ex,g,q2⟩=>?_;subst ex;obtain rfl:u=Value.ref a:=rx;exact lT hu I2 g ry λs3 I3=>⟨.bl (!ov.isSome),H2,I3,rfl,q2⟩
theorem kx(hu:X.A.units+1<cLine)(ho:PE X o td)(hi:PE X i ty)(hv:PE X value tv)(hs:swapsWith value (some (.Subscript o i pos')) pos.line X.env=pure false):PS X (.Assign [.Subscript o i pos'] value pos) (tI td ty tv):=by
 intro pins s σ H D I h;refine wpAny_Assign_Subscript (yc (hv pins s σ H _ I h) λr s1⟨v,H1,I1,rv,q1⟩=>yc (ho pins s1 σ H1 _ I1 q1) λu s2⟨x,H2,I2,rx,q2⟩=>yc (hi pins s2 σ H2 _ I2 q2) λiv s3⟨y,H3,I3,ry,a,H4,ex,g,q3⟩=>?_) hs;subst ex;obtain rfl:u=Value.ref a:=rx;exact TN hu I3 g ry rv λs4 I4=>⟨σ,H4,I4,q3⟩
end
theorem vQ{P:Program}{w:World}{H:Hp}(h:Heap)(hb:sysModules<h.objs.size):Cd P w H (h.push {cls:=.type "dict",data:=.dict #[]}) h.objs.size (.dK []):=
 ⟨Nat.zero_le _,beq_eq_false_iff_ne.mpr (Ne.symm (Nat.ne_of_lt hb)),[],.nil,Heap.DictOf.new h⟩
theorem yQ{P:Program}{w:World}{H:Hp}(h:Heap)(hb:sysModules<h.objs.size):Cd P w H (h.push {cls:=.type "dict",data:=.dict #[]}) h.objs.size (.dT []):=
 ⟨Nat.zero_le _,beq_eq_false_iff_ne.mpr (Ne.symm (Nat.ne_of_lt hb)),[],.nil,_,#[],0,Heap.get?_push_size _ rfl,⟨rfl,rfl,rfl⟩,rfl,rfl,List.nodup_nil⟩
def BS:TE:=λ_ H Q=>∀p,H p=none->Q (.ref p) (upd H p (.dK []))
def IW:TE:=λ_ H Q=>∀p,H p=none->Q (.ref p) (upd H p (.dT []))
section
variable{X:Cx}{pos:Pos}
theorem VH:PE X (.Dict [] [] pos) BS:=λpins s σ H Q I h=>
 wpAny_Dict_empty ⟨.ref s.heap.objs.size,_,I.laid (a:=s.heap.objs.size) (o:=.dK []) (t':=s.toks) (λ_ _ q=>Heap.get?_push_of_some _ q) (Nat.le_refl _) (vQ s.heap I.big),rfl,h _ (I.Kb.fresh (Nat.le_refl _))⟩
theorem NR:PE X (.Dict [] [] pos) IW:=λpins s σ H Q I h=>
 wpAny_Dict_empty ⟨.ref s.heap.objs.size,_,I.laid (a:=s.heap.objs.size) (o:=.dT []) (t':=s.toks) (λ_ _ q=>Heap.get?_push_of_some _ q) (Nat.le_refl _) (yQ s.heap I.big),rfl,h _ (I.Kb.fresh (Nat.le_refl _))⟩
end
structure M2(X:Cx)(o:Expr)(m:Str)(apos:Pos)(e f:Expr)(cpos:Pos):Prop where
 base:attributeBase o m X.env (eval o X.env)=eval o X.env
 XY:((backTo cpos (starEach [e,f] X.env)).all (λx=>!x.1)&&(backToKw cpos (keywordEach [] X.env)).all (λx=>x.1.isSome)
  &&decide (([e,f]:List Expr).length+([]:List Keyword).length+(if([]:List Keyword).isEmpty then 0 else 1)<30))=true
 line:(apos.endLine==cpos.line)=true
 trees:backTo cpos (starEach [e,f] X.env)=[(false,eval e X.env),(false,eval f X.env)]
def sZ(H:Hp)(a:Addr):Prop:=(∃kvs,Rd H a (.dK kvs))\/∃kvs,Rd H a (.dT kvs)
theorem SV{X:Cx}{pins:List (Addr×Obj)}{σ:St}{H:Hp}{s:Shared}{a:Addr}(I:Inv X pins σ H s)(d:sZ H a):s.TypeIs (.ref a) "dict"/\(∀b,Value.ref a=.ref b->∃ob,s.heap.get? b=some ob/\ob.dict=none)/\(a==sysModules)=false:=by
 rcases d with⟨kvs,e⟩|⟨kvs,e⟩
 ·obtain⟨_,hd,vs,_,dd⟩:=Uu I.Kb e;refine⟨dd.typeIs,λb q=>?_,hd⟩;cases q;obtain⟨ob,_,_,h1,h2,_⟩:=dd;exact⟨ob,h1,h2.2.1⟩
 ·obtain⟨_,hd,xs,_,dd⟩:=ky I.Kb e;refine⟨dd.typeIs,λb q=>?_,hd⟩;cases q;obtain⟨ob,_,_,h1,h2,_⟩:=dd;exact⟨ob,h1,h2.2.1⟩
section
variable{X:Cx}{pins:List (Addr×Obj)}{σ:St}{H:Hp}{s:Shared}{a:Addr}{y d:V}{u r:Value}{o:Option V}{A:Around}{E:Value->Shared->Prop}
theorem wV{Q:Value->Shared->Prop}(hu:A.units+1<cLine)(I:Inv X pins σ H s)(g:Mg H a y o)(ry:RelV y u)(rd:RelV d r)(h:∀w' s',Inv X pins σ H s'->RelV (o.getD d) w'->Q w' s'):wpAny (model X.prog X.w) A (call (.builtin "dict.get") [.ref a,u,r]) Q E s:=by
 rcases g with⟨kvs,k,e,ey,l⟩|⟨kvs,k,b,e,ey,eb,l⟩
 ·subst ey;obtain⟨z,hd,vs,rel,dd⟩:=Uu I.Kb e;refine call_meetsIn PySem.F.slot_dict_get dd.typeIs PySem.F.entry_dict_get (PySem.F.args_dict_get_3 _ _ _) (meets_dict_get_default (ud X.prog X.w) a (WC ry) hd r) ⟨_,dd.mapOf,h _ _ (I.tok _) ?_⟩;rw[l];exact(rel.val k).getD rd
 ·subst ey;cases(show u=Value.ref b from ry);obtain⟨z,hd,xs,rel,dd⟩:=ky I.Kb e;refine call_meetsIn PySem.F.slot_dict_get dd.typeIs PySem.F.entry_dict_get (PySem.F.args_dict_get_3 _ _ _) (meetsH_dict_get_default (tupleKind (ud X.prog X.w)) a b hd r) ⟨tupleKind_room_in1 hu,k,xs,Yt I.Kb eb,dd,h _ _ (I.tok _) ?_⟩;rw[l];exact(rel.val k).getD rd
end
def AS(td ty tx:TE):TE:=λσ H Q=>td σ H λx H1=>∃a,x=.ref a/\sZ H1 a/\ty σ H1 λy H2=>tx σ H2 λz H3=>∃o,Mg H3 a y o/\Q (o.getD z) H3
section
variable{X:Cx}{o e f:Expr}{apos cpos:Pos}{td ty tx:TE}
theorem MR(hu:X.A.units+1<cLine)(ho:PE X o td)(he:PE X e ty)(hf:PE X f tx)(m:M2 X o "get" apos e f cpos):PE X (.Call (.Attribute o "get" apos) [e,f] [] cpos) (AS td ty tx):=by
 intro pins s σ H Q I h;refine wpAny_Call_method m.base m.XY m.line PySem.F.plainAttrs_dict PySem.F.slot_dict_get PySem.F.type_dict_get (yc (ho pins s σ H _ I h) λu s1⟨x,H1,I1,rx,a,ex,d,q1⟩=>?_);subst ex;obtain rfl:u=Value.ref a:=rx;obtain⟨t1,t2,_⟩:=SV I1 d;refine⟨t1,t2,?_⟩;rw[m.trees];refine Calls.callWith_builtin rfl (Calls.evalArgs_plain (Calls.spliced_cons (yc (he pins s1 σ H1 _ I1 q1) λiv s2⟨y,H2,I2,ry,q2⟩=>
  Calls.spliced_cons (yc (hf pins s2 σ H2 _ I2 q2) λfv s3⟨z,H3,I3,rz,ov,g,q3⟩=>Calls.spliced_nil ?_))))
 exact wV hu I3 g ry rz λw' s4 I4 rw'=>⟨_,H3,I4,rw',q3⟩
end
section
variable{X:Cx}{pins:List (Addr×Obj)}{σ:St}{H:Hp}{s:Shared}{a:Addr}{kvs:List (Key×V)}{A:Around}{E:Value->Shared->Prop}
end
section
variable{X:Cx}{pins:List (Addr×Obj)}{σ:St}{H:Hp}{s:Shared}{a:Addr}{y:V}{u:Value}{A:Around}{E:Value->Shared->Prop}
end
end L2
namespace L2
open PySem PySem.Spec PyProof.Rows
section
variable{prog:Program}{w:World}{A:Around}{E:Value->Shared->Prop}
end
section
variable{X:Cx}
end
end L2
namespace L2
open PySem PySem.Spec PyProof.Rows
section
variable{X:Cx}{pins:List (Addr×Obj)}{σ:St}{H:Hp}{s:Shared}{h':Heap}
theorem Inv.yU{t':Nat}{ch:List Addr}(I:Inv X pins σ H s)(k:∀b o,b∉ch->s.heap.get? b=some o->h'.get? b=some o)(hf:∀b∈ch,gw X pins H b):Inv X pins σ H {s with heap:=h',toks:=t'}:=by
 have nit:∀b u,H b=some u->b∉ch:=λb u e z=>by
  have q:=(hf b z).1;rw[q] at e;cases e
 refine I.step (g':=s.gens) (d':=s.drawn) (ch:=ch) (λb hb=>⟨(hf b hb).2.2.2.1,(hf b hb).2.1,(hf b hb).2.2.2.2.1,(hf b hb).2.2.2.2.2⟩) (λb o _ _ hc e _=>k b o hc e) (λb o _ _ hc e _=>⟨o.slots,k b o hc e⟩)
  (λ_ _ _ _ n=>n) (λb o hc e=>⟨o,k b o hc e⟩) (λ_ _ e=>e) (λ_ _ _ e=>e) (λb ps e=>⟨#[],by rw[e];simp⟩) (λm hm=>?_) (λb u e=>?_) I.bare
 ·obtain⟨o,es,ep,ho,r⟩:=hm;exact⟨o,es,ep,k _ o (λz=>(hf _ z).2.1 rfl) ho,r⟩
 ·refine(I.Kb b u e).Pn (λc v hc q=>k c v ?_ q) (λ_ q=>q) λ_ _ q=>q;rcases hc with z|z
  ·rw[z];exact nit b u e
  ·exact nit c _ z
theorem Inv.ND{t':Nat}{ch:List Addr}{T:Addr}{ob:HO}(I:Inv X pins σ H s)(k:∀b o,b∉ch->s.heap.get? b=some o->h'.get? b=some o)(hf:∀b∈ch,gw X pins H b)(hT:s.heap.objs.size<=T)(new:Cd X.prog X.w (upd H T ob) h' T ob):Inv X pins σ (upd H T ob) {s with heap:=h',toks:=t'}:=by
 have hn:H T=none:=I.Kb.fresh hT;have nit:∀b u,H b=some u->b∉ch:=λb u e z=>by
  have q:=(hf b z).1;rw[q] at e;cases e
 refine I.step (g':=s.gens) (d':=s.drawn) (ch:=ch) (λb hb=>⟨(hf b hb).2.2.2.1,(hf b hb).2.1,(hf b hb).2.2.2.2.1,(hf b hb).2.2.2.2.2⟩) (λb o _ _ hc e _=>k b o hc e) (λb o _ _ hc e _=>⟨o.slots,k b o hc e⟩)
  (λb o _ e n=>?_) (λb o hc e=>⟨o,k b o hc e⟩) (λb xs e=>?_) (λb o u e=>?_) (λb ps e=>⟨#[],?_⟩) (λm hm=>?_) (λb u e=>?_) I.bare
 ·rw[ua (Nat.ne_of_lt (Nat.lt_of_lt_of_le (Heap.lt_size e) hT))];exact n
 ·rw[ua (ka e hn)];exact e
 ·rw[ua (ka e hn)];exact e
 ·rw[ua (ka e hn),e];simp
 ·obtain⟨o,es,ep,ho,r⟩:=hm;exact⟨o,es,ep,k _ o (λz=>(hf _ z).2.1 rfl) ho,r⟩
 ·by_cases hb:b=T
  ·subst hb;rw[ia] at e;cases e;exact new
  ·rw[ua hb] at e;refine(I.Kb b u e).Pn (λc v hc q=>k c v ?_ q) (λc q=>by rw[ua (ka q hn)];exact q) λc xs q=>by rw[ua (ka q hn)];exact q
   rcases hc with z|z
   ·rw[z];exact nit b u e
   ·exact nit c _ z
theorem Inv.lock{d:Addr}{u:HO}(I:Inv X pins σ H s)(h:H d=some u)(mu:AU (some u)):∃od,Inv X pins σ (upd H d (.Lj od u)) s:=by
 have x:=I.Kb d u h;have ex:∃od,s.heap.get? d=some od:=by
  cases u with
  |lst xs=>obtain⟨_,_,_,_,e⟩:=x;exact⟨_,e⟩
  |dK kvs=>obtain⟨_,_,_,_,o,_,_,e,_⟩:=x;exact⟨o,e⟩
  |dT kvs=>obtain⟨_,_,_,_,o,_,_,e,_⟩:=x;exact⟨o,e⟩
  |set S n=>obtain⟨o,_,_,_,e,_⟩:=x;exact⟨o,e⟩
  |ins C dx fs=>obtain⟨_,_,_,e,_⟩:=x;exact⟨_,e⟩
  |ext φ=>obtain⟨_,⟨_,e⟩,_⟩:=x;exact⟨_,e⟩
  |_=>exact False.elim mu
 obtain⟨od,e⟩:=ex;have new:Cd X.prog X.w (upd H d (.Lj od u)) s.heap d (.Lj od u):=by
  refine⟨e,x.Pn (λb v _ q=>q) (λb q=>?_) λb xs q=>?_⟩
  ·rw[ua (λz=>by rw[z,h] at q;cases q;exact mu)];exact q
  ·rw[ua (λz=>by rw[z,h] at q;cases q;exact mu)];exact q
 exact⟨od,I.write (x:=d) (e:=d) (t':=s.toks) (h':=s.heap) (by rw[h];exact mu) (.inl rfl) (λb v _ q=>q) ⟨od,e⟩ new⟩
theorem Inv.ZM{d:Addr}{u:HO}(I:Inv X pins σ H s)(h:H d=some u)(mu:AU (some u)):∀o' u',X.bV d≠some (.Lj o' u'):=λo' u' e=>by
 have q:=I.base.mw d o' u' e;rw[h] at q;cases q;exact mu
theorem Inv.unlock{d:Addr}{od:Obj}{u:HO}(I:Inv X pins σ H s)(h:H d=some (.Lj od u))(hn:∀o' u',X.bV d≠some (.Lj o' u')):Inv X pins σ (upd H d u) s:=by
 have neH:∀b o,H b=some o->(∀o' u',o≠.Lj o' u')->b≠d:=λb o e hne z=>by
  rw[z,h] at e;cases e;exact hne _ _ rfl
 have neN:∀b,H b=none->b≠d:=λb e z=>by rw[z,h] at e;cases e
 refine⟨I.ok,I.os,I.bare,⟨I.base.keep,I.base.slot,λb o e n hx=>?_,I.base.there,λb xs e=>?_,λb o x e=>?_,λb ps e=>?_⟩,I.loc,I.cell,?_,λx c e=>?_,λp hp=>?_,λb o e=>?_,I.len⟩
 ·rw[ua (neN b (I.base.free b o e n hx))];exact I.base.free b o e n hx
 ·have q:=I.base.Pw b xs e;rw[ua (neH b _ q (λ_ _ z=>nomatch z))];exact q
 ·have q:=I.base.mw b o x e;rw[ua (λz=>by rw[z] at e;exact hn _ _ e)];exact q
 ·obtain⟨m,q⟩:=I.base.zB b ps e;exact⟨m,by rw[ua (neH b _ q (λ_ _ z=>nomatch z))];exact q⟩
 ·rw[ua (neN _ I.free)];exact I.free
 ·rw[ua (neN c (I.Kj x c e))];exact I.Kj x c e
 ·obtain⟨e,n,r⟩:=I.pin p hp;exact⟨e,by rw[ua (neN _ n)];exact n,r⟩
 ·by_cases hb:b=d
  ·rw[hb,ia] at e;cases e;rw[hb];obtain⟨_,x⟩:=I.Kb d _ h;exact x.Pn (λc v _ q=>q) (λc q=>by rw[ua (neH c _ q (λ_ _ z=>nomatch z))];exact q) λc xs q=>by rw[ua (neH c _ q (λ_ _ z=>nomatch z))];exact q
  ·rw[ua hb] at e;exact(I.Kb b o e).Pn (λc v _ q=>q) (λc q=>by rw[ua (neH c _ q (λ_ _ z=>nomatch z))];exact q) λc xs q=>by rw[ua (neH c _ q (λ_ _ z=>nomatch z))];exact q
end
def QU(t:TS):TS:=λD σ H=>∃d u,H d=some u/\AU (some u)/\∀od,t ⟨λσ' H'=>H' d=some (.Lj od u)/\D.nx σ' (upd H' d u),λv H'=>H' d=some (.Lj od u)/\D.rt v (upd H' d u),λσ' H'=>H' d=some (.Lj od u)/\D.bk σ' (upd H' d u),λσ' H'=>H' d=some (.Lj od u)/\D.ct σ' (upd H' d u)⟩ σ (upd H d (.Lj od u))
section
variable{X:Cx}
theorem gU{st:Stmt}{t:TS}(h:PS X st t):PS X st (QU t):=by
 intro pins s σ H D I hw;obtain⟨d,u,hd,mu,hw⟩:=hw;obtain⟨od,I1⟩:=I.lock hd mu;refine yc (h pins s σ _ _ I1 (hw od)) λf s1 q=>?_;cases f with
 |next=>obtain⟨σ',H',I2,e,q⟩:=q;exact⟨σ',_,I2.unlock e (I.ZM hd mu),q⟩
 |brk=>obtain⟨σ',H',I2,e,q⟩:=q;exact⟨σ',_,I2.unlock e (I.ZM hd mu),q⟩
 |cont=>obtain⟨σ',H',I2,e,q⟩:=q;exact⟨σ',_,I2.unlock e (I.ZM hd mu),q⟩
 |ret v=>obtain⟨x,σ',H',I2,r,e,q⟩:=q;exact⟨x,σ',_,I2.unlock e (I.ZM hd mu),r,q⟩
theorem Nz{tg:Expr}{pins:List (Addr×Obj)}{σ:St}{H:Hp}{s:Shared}{R:It->Hp->Prop}{J:It}{tn:Nat->Heap->Prop}{tk:Nat}(I:Inv X pins σ H s)(o:Obj)(T:Turn X.prog X.w X.K tg J [s.heap.objs.size] s.heap.objs.size tn)(st:tn 0 (s.heap.push o))(q:R J H):LY X pins σ tg R (.ref s.heap.objs.size) {s with heap:=s.heap.push o,toks:=tk}:=by
 refine⟨s.heap.objs.size,[s.heap.objs.size],tn,J,H,rfl,I.kept λb ob e=>Heap.get?_push_of_some _ e,T,st,λb hb=>?_,q⟩;have e:b=s.heap.objs.size:=by simpa using hb
 subst e;exact I.KJ (Nat.le_refl _) (I.Kb.fresh (Nat.le_refl _))
end
def EY(lo c:Int)(n:Nat):It:=⟨λi _=>i<n,λi H x H'=>H'=H/\x=.int (lo+(i:Nat)*c),λi _=>n<=i⟩
theorem mJ{P:Program}{w:World}{K:PySem.W.Frag}{tg:Expr}(it:Addr)(lo c:Int)(n:Nat):Turn P w K tg (EY lo c n) [it] it (λi h=>IsRangeIter h it (lo+(i:Nat)*c) ((n:Int)-(i:Nat)) c) where
 mem:=by simp
 obj:=λi h st b hb=>by
  have e:b=it:=by simpa using hb
  subst e;exact⟨_,st,λv z=>nomatch z⟩
 keep:=λi h h' st k=>k it (by simp) _ st
 item:=by
  intro X hP hw hK hc i pins s σ H E I hf st hg;subst hP hw hK;obtain⟨f0,f1,f2,f3,f4,f5⟩:=hf it (by simp);have W:=Walks.range (prog:=X.prog) (w:=X.w) (I.ok.hd hc) it lo c n;refine W.item i s _ _ hg st λv h' tk hv st' kk=>?_;obtain⟨t,rfl⟩:=hv;have I1:Inv X pins σ H {s with heap:=h',toks:=tk}:=I.turned (λb o hb e=>kk b o (by simpa using hb) e) f0 f1 f3 f4 f5;exact⟨_,rfl,My (s:={s with heap:=h',toks:=tk}) (n:="range_iterator") st' rfl rfl (by decide) ⟨.int (lo+(i:Nat)*c),H,I1,⟨t,rfl⟩,⟨rfl,rfl⟩,st',λb hb=>(hf b hb).1⟩⟩
 done:=by
  intro X hP hw hK hc i pins s σ H E I hf st hg;subst hP hw hK;obtain⟨f0,f1,f2,f3,f4,f5⟩:=hf it (by simp);exact wpAny_pyNext_range_end (I.ok.hd hc) st (by have:n<=i:=hg;lia) λh' eb=>⟨rfl,I.turned (t':=s.toks) (λb o hb e=>eb b o hb e) f0 f1 f3 f4 f5⟩
 self:=λA i s Q E st h=>wpAny_pyIter_rangeiter st h
def sX(i j c:Int)(n:Nat):Prop:=c≠0/\c.natAbs<1073741824/\Builtin.Range.small i j c=true/\Builtin.Range.rangeSize i j c=n
theorem sX.neg{i j:Int}(ha:-(2^62)<=i)(ha':i<2^62)(hb:-(2^62)<=j)(hb':j<2^62):sX i j (-1) (i-j).toNat:=
 ⟨by decide,by decide,PySem.W.small_down ha ha' hb hb',PySem.W.rangeSize_downNat i j⟩
def NM(ta:TA):TI:=λσ H R=>ta σ H λvs H1=>∃(i j c:Int)(n:Nat),vs=[.int i,.int j,.int c]/\sX i j c n/\R (EY i c n) H1
section
variable{X:Cx}{tg:Expr}
theorem rD{a b c:Expr}{ta:TA}{p pos:Pos}(hg:Gl X "range")(hm:X.mg "range"=none)(ha:PA X [a,b,c] ta)(hs:starEach [a,b,c] X.env=(false,eval a X.env)::starEach [b,c] X.env:=by rfl)(hpl:(backTo pos (starEach [b,c] X.env)).any (·.1)=false:=by rfl):PI X tg (.Call (.Name "range" p) [a,b,c] [] pos) (NM ta):=by
 intro pins s σ H R I h;refine Call_ (Jk I hg hm boot_range (PyProof.Rows.callWith_type1 (yc (ha pos pins s σ H _ I h) λus s1⟨vs,H1,I1,r1,q1⟩=>?_) hs hpl));obtain⟨i,j,k,n,e,⟨c0,c1,c2,c3⟩,q⟩:=q1;subst e;cases r1 with
 |cons r rr=>
  cases rr with
  |cons r' rr=>
   cases rr with
   |cons r'' rr=>
    cases rr;obtain⟨t,rfl⟩:=r;obtain⟨t',rfl⟩:=r';obtain⟨t'',rfl⟩:=r'';refine call_range_3 c0 ?_ (.inl (PyProof.noPylong_small c1));refine wpAny_pyIter_range (IsRange.new ..) c2 ?_;have I2:Inv X pins σ H1 {s1 with heap:=s1.heap.push {cls:=.type "range",data:=.fields #[.int i t,.int j t',.int k t'']}}:=I1.kept (t':=s1.toks) λb o e=>Heap.get?_push_of_some _ e;refine Nz (tk:=s1.toks) I2 _ (mJ _ i k n) ?_ q;have e1:i+((0:Nat):Int)*k=i:=by simp
    have e2:(n:Int)-((0:Nat):Int)=Builtin.Range.rangeSize i j k:=by rw[c3];simp
    show IsRangeIter _ _ (i+((0:Nat):Int)*k) ((n:Int)-((0:Nat):Int)) k;rw[e1,e2];exact Heap.get?_push_size _ rfl
end
section
variable{X:Cx}{tg:Expr}
end
def oY(x:Str):It:=⟨λi _=>i<x.cps.size,λi H v H'=>H'=H/\∃c,x.cps[i]?=some c/\v=.str ⟨#[c]⟩,λi _=>x.cps.size<=i⟩
theorem nJ{P:Program}{w:World}{K:PySem.W.Frag}{tg:Expr}(it:Addr)(x:Str)(t:Tok)(ty:String)(hty:ty="str_ascii_iterator"\/ty="str_iterator"):Turn P w K tg (oY x) [it] it (λi h=>h.IsStrIter it ty x t i) where
 mem:=by simp
 obj:=λi h st b hb=>by
  have e:b=it:=by simpa using hb
  subst e;obtain⟨o,e,c,d⟩:=st;exact⟨o,e,λv z=>by rw[d] at z;cases z⟩
 keep:=λi h h' st k=>let ⟨o,ho,r⟩:=st;⟨o,k it (by simp) o ho,r⟩
 item:=by
  intro X hP hw hK hc i pins s σ H E I hf st hg;subst hP hw hK;obtain⟨f0,f1,f2,f3,f4,f5⟩:=hf it (by simp);have W:Walks X.prog X.w X.A it [it] [it] x.cps.size (SignAt x) (λi h=>h.IsStrIter it ty x t i):=by
   rcases hty with e|e
   ·rw[e];exact Walks.strAscii (I.ok.hd hc) it x t
   ·rw[e];exact Walks.strWide (I.ok.hd hc) it x t
  have hno:["enumerate","zip","dict_itemiterator","dict_reverseitemiterator","odict_iterator","itertools.zip_longest","itertools.pairwise"].contains ty=false:=by
   rcases hty with e|e
   ·rw[e];decide
   ·rw[e];decide
  refine W.item i s _ _ hg st λv h' tk hv st' kk=>?_;obtain⟨c,u,hcx,rfl⟩:=hv;have I1:Inv X pins σ H {s with heap:=h',toks:=tk}:=I.turned (λb o hb e=>kk b o (by simpa using hb) e) f0 f1 f3 f4 f5;obtain⟨oi,e,cc,dd⟩:=id st';exact⟨_,rfl,My (s:={s with heap:=h',toks:=tk}) e cc dd hno ⟨.str ⟨#[c]⟩,H,I1,⟨u,rfl⟩,⟨rfl,c,hcx,rfl⟩,st',λb hb=>(hf b hb).1⟩⟩
 done:=by
  intro X hP hw hK hc i pins s σ H E I hf st hg;subst hP hw hK;obtain⟨f0,f1,f2,f3,f4,f5⟩:=hf it (by simp);have hx:x.cps[i]?=none:=Array.getElem?_eq_none hg;rcases hty with e|e
  ·rw[e] at st;exact wpAny_pyNext_ascii_end (I.ok.hd hc) st hx λh' eb=>⟨rfl,I.turned (t':=s.toks) (λb o hb e=>eb b o hb e) f0 f1 f3 f4 f5⟩
  ·rw[e] at st;exact wpAny_pyNext_wide_end (I.ok.hd hc) st hx λh' eb=>⟨rfl,I.turned (t':=s.toks) (λb o hb e=>eb b o hb e) f0 f1 f3 f4 f5⟩
 self:=λA i s Q E st h=>by
  rcases hty with e|e
  ·rw[e] at st;exact wpAny_pyIter_striter_ascii st h
  ·rw[e] at st;exact wpAny_pyIter_striter_wide st h
def HX(te:TE):TI:=λσ H R=>te σ H λv H1=>∃x,v=.str x/\R (oY x) H1
theorem TK{X:Cx}{tg e:Expr}{te:TE}(he:PE X e te):PI X tg e (HX te):=by
 intro pins s σ H R I h;refine yc (he pins s σ H _ I h) λv s1⟨y,H1,I1,r1,x,ex,q⟩=>?_;subst ex;obtain⟨t,rfl⟩:=r1;cases ha:x.cps.all (·<128)
 ·exact wpAny_pyIter_wide ha (Nz (tk:=s1.toks) I1 _ (nJ _ x t "str_iterator" (.inr rfl)) ⟨_,Heap.get?_push_size _ rfl,rfl,rfl⟩ q)
 ·exact wpAny_pyIter_ascii ha (Nz (tk:=s1.toks) I1 _ (nJ _ x t "str_ascii_iterator" (.inl rfl)) ⟨_,Heap.get?_push_size _ rfl,rfl,rfl⟩ q)
section
variable{prog:Program}{w:World}{A:Around}{E:Value->Shared->Prop}{s:Shared}
theorem VC{d:Addr}{o:Obj}{es:Array DictEntry}{ep:Nat}{Q:Value->Shared->Prop}(hd:(d==sysModules)=false)(ho:s.heap.get? d=some o)(hc:o.ExactDict)(hdat:o.data=.dict es ep)(hQ:Q (.ref s.heap.objs.size) {s with heap:=s.heap.push {cls:=.type "dict_keyiterator",data:=.fields #[.ref d,.int 0 0,.int es.size 0,.int ep 0]}}):wpAny (model prog w) A (pyIter (.ref d)) Q E s:=by
 have hT:s.TypeIs (.ref d) "dict":=⟨o,ho,hc.1⟩;refine wpAny_pyIter_slot hT F.slot_dict_iter (wpAny_call_entry F.slot_dict_iter hT F.entry_dict_iter ?_ (F.args_dict_iter_1 _));unfold Builtin.«dict.__iter__»
 refine wpAny_bind ?_;unfold Builtin.Dict.dictSlotNone;refine wpAny_bind (wpAny_notOrdered_dict hT ?_);show wpAny _ _ (pure (Value.ref d)) _ _ s;refine wpAny_pure ?_;show wpAny _ _ (Builtin.Dict.showsAll d>>=_) _ _ s;unfold Builtin.Dict.showsAll;rw[if_neg (by rw[hd];exact Bool.false_ne_true)];refine wpAny_bind (wpAny_pure ?_);refine wpAny_bind (wpAny_dictEntries ho hdat ?_);refine wpAny_bind (wpAny_dictEpoch ho hdat ?_);refine wpAny_bind (wpAny_newObj_type (wpAny_pure ⟨_,rfl,"dict_keyiterator",_,⟨_,Heap.get?_push_size _ rfl,rfl⟩,F.slot_dict_keyiterator_next.lookup,?_⟩));simpa[rawInt] using hQ
theorem VA{it d:Addr}{i n ep:Nat}{od:Obj}{es:Array DictEntry}{en:DictEntry}{Q:Option Value->Shared->Prop}(hit:s.heap.IsKeyIter it d i n ep)(hod:s.heap.get? d=some od)(hdd:od.data=.dict es ep)(hsz:es.size=n)(hx:es[i]?=some en)(hQ:∀h',h'.IsKeyIter it d (i+1) n ep->Heap.SameBut it s.heap h'->Q (some en.key) {s with heap:=h'}):wpAny (model prog w) A (pyNext (.ref it)) Q E s:=by
 obtain⟨o,ho,hc,hd⟩:=id hit;unfold pyNext;refine wpAny_bind (wpAny_attempt (wpAny_callSpecial?_slot (name:=Str.ofString "__next__") hit.typeIs F.slot_dict_keyiterator_next
  (wpAny_call_entry F.slot_dict_keyiterator_next hit.typeIs F.entry_dict_keyiterator_next ?_ (F.args_dict_keyiterator_next_1 _))))
 refine wpAny_bind (wpAny_pure ?_);refine wpAny_bind ?_;refine wpAny_bind ?_;first|refine wpAny_bind (wpAny_typeNameOfWhole_keyiter hit.typeIs (wpAny_pure ?_))|refine wpAny_bind (wpAny_typeNameOf_keyiter hit.typeIs (wpAny_pure ?_))
 refine wpAny_bind (wpAny_fieldsOf ho hd ?_);have hown:Builtin.Dict_items.ownsTuple "dict_keyiterator"=false:=by decide
 simp only[hown,Bool.false_eq_true,if_false];show wpAny _ _ (if(Value.ref d==Value.none)=true then _ else _) _ _ s;rw[if_neg (show¬((Value.ref d==Value.none)=true) from Bool.false_ne_true)];refine wpAny_bind (wpAny_pure ?_);refine wpAny_bind (wpAny_dictEntries hod hdd ?_);rw[if_neg (by rw[hsz];simp)];refine wpAny_bind (wpAny_pure ?_);refine wpAny_bind (wpAny_dictEpoch hod hdd ?_);rw[if_neg (by simp)];refine wpAny_pure ?_;obtain⟨hlt',hen⟩:=Array.getElem?_eq_some_iff.mp hx;simp only[show¬((i:Int)<0) from by lia,if_false,Int.toNat_natCast,Array.getElem?_eq_getElem hlt'];refine wpAny_bind ?_;first|refine wpAny_bind (wpAny_typeNameOfWhole_keyiter hit.typeIs (wpAny_pure ?_))|refine wpAny_bind (wpAny_typeNameOf_keyiter hit.typeIs (wpAny_pure ?_))
 refine wpAny_bind (wpAny_isOneOf_keyiter hit.typeIs ?_);show wpAny _ _ (setField (.ref it) 1 (rawInt ((i:Int)+1))>>=_) _ _ s;refine wpAny_bind (wpAny_setField ho hd (by simp) ?_);have hit':(s.heap.update it (Obj.mapFields (·.setIfInBounds 1 (rawInt ((i:Int)+1))))).IsKeyIter it d (i+1) n ep:=
  ⟨_,Heap.get?_update_self _ ho (Obj.isFreed_of_fields (Obj.data_mapFields hd _)),(Obj.cls_mapFields ..).trans hc,by rw[Obj.data_mapFields hd];simp[rawInt]⟩
 refine wpAny_bind (wpAny_holding ?_);refine wpAny_bind (wpAny_isOneOf_keyiter (s:={s with heap:=s.heap.update it (Obj.mapFields (·.setIfInBounds 1 (rawInt ((i:Int)+1))))}) hit'.typeIs ?_);show wpAny _ _ (pure es[i].key) _ _ _;rw[hen];exact wpAny_pure (wpAny_pure ⟨_,rfl,wpAny_pure (hQ _ hit' (Heap.SameBut.update ..))⟩)
theorem Gs{it d:Addr}{i n ep:Nat}{od:Obj}{es:Array DictEntry}{Q:Option Value->Shared->Prop}(hh:A.handled=none)(hit:s.heap.IsKeyIter it d i n ep)(hod:s.heap.get? d=some od)(hdd:od.data=.dict es ep)(hsz:es.size=n)(hge:n<=i)(hQ:∀h',Heap.ExtBut it s.heap h'->Q none {s with heap:=h'}):wpAny (model prog w) A (pyNext (.ref it)) Q E s:=by
 obtain⟨o,ho,hc,hd⟩:=id hit;unfold pyNext;refine wpAny_bind (wpAny_attempt (wpAny_callSpecial?_slot (name:=Str.ofString "__next__") hit.typeIs F.slot_dict_keyiterator_next
  (wpAny_call_entry F.slot_dict_keyiterator_next hit.typeIs F.entry_dict_keyiterator_next ?_ (F.args_dict_keyiterator_next_1 _))))
 refine wpAny_bind (wpAny_pure ?_);refine wpAny_bind ?_;refine wpAny_bind ?_;first|refine wpAny_bind (wpAny_typeNameOfWhole_keyiter hit.typeIs (wpAny_pure ?_))|refine wpAny_bind (wpAny_typeNameOf_keyiter hit.typeIs (wpAny_pure ?_))
 refine wpAny_bind (wpAny_fieldsOf ho hd ?_);have hown:Builtin.Dict_items.ownsTuple "dict_keyiterator"=false:=by decide
 simp only[hown,Bool.false_eq_true,if_false];show wpAny _ _ (if(Value.ref d==Value.none)=true then _ else _) _ _ s;rw[if_neg (show¬((Value.ref d==Value.none)=true) from Bool.false_ne_true)];refine wpAny_bind (wpAny_pure ?_);refine wpAny_bind (wpAny_dictEntries hod hdd ?_);rw[if_neg (by rw[hsz];simp)];refine wpAny_bind (wpAny_pure ?_);refine wpAny_bind (wpAny_dictEpoch hod hdd ?_);rw[if_neg (by simp)];refine wpAny_pure ?_;have hge':es.size<=i:=by rw[hsz];exact hge
 simp only[show¬((i:Int)<0) from by lia,if_false,Int.toNat_natCast,Array.getElem?_eq_none hge'];refine wpAny_bind ?_;first|refine wpAny_bind (wpAny_typeNameOfWhole_keyiter hit.typeIs (wpAny_pure ?_))|refine wpAny_bind (wpAny_typeNameOf_keyiter hit.typeIs (wpAny_pure ?_))
 show wpAny _ _ (setField (.ref it) 0 .none>>=_) _ _ s;refine wpAny_bind (wpAny_setField ho hd (by simp) ?_);show wpAny _ _ (newExc (.type "StopIteration") []>>=_) _ _ _;refine wpAny_bind ?_;simp only[newExc,newTuple];refine wpAny_bind (wpAny_newObj_type ?_ (by size_fits));refine wpAny_bind (m:=firstArgMember _ _) (wpAny_of_eq (a:=Value.none) (by first|rfl|(simp only[firstArgMember];rfl)) ?_);refine wpAny_newObj_type ?_ (by size_fits);simp only[raiseNew];refine wpAny_bind (wpAny_handled ?_);rw[show A.in1.handled=none from hh];refine wpAny_bind (wpAny_pure (wpAny_throw ?_));refine wpAny_bind (wpAny_isInstance (T:="StopIteration") (b:=true) ⟨_,Heap.get?_push_size _ rfl,rfl⟩ isSubtype_stop ?_);exact wpAny_pure (hQ _ (((Heap.SameBut.update ..).extBut.push _).push _))
end
theorem aW{κ:Type}{kvs:List (κ×V)}{vs:List (κ×Value)}(h:KV kvs vs):∀{i:Nat}{k:κ}{v:V},kvs[i]?=some (k,v)->∃u,vs[i]?=some (k,u)/\RelV v u:=by
 unfold KV at h;induction h with
 |nil=>intro i k v e;simp at e
 |@cons a b l₁ l₂ r t ih=>
  intro i k v e;cases i with
  |zero=>
   simp only[List.getElem?_cons_zero,Option.some.injEq] at e;subst e;refine⟨b.2,?_,r.2⟩;simp only[List.getElem?_cons_zero];exact congrArg some (Prod.ext r.1.symm rfl)
  |succ j=>
   simp only[List.getElem?_cons_succ] at e⊢;exact ih e
theorem RK{α β:Type}{G:α->β->Prop}{l₁:List α}{l₂:List β}(h:Paired G l₁ l₂):∀{i:Nat}{a:α},l₁[i]?=some a->∃b,l₂[i]?=some b/\G a b:=by
 induction h with
 |nil=>intro i a e;simp at e
 |@cons a b l₁ l₂ r t ih=>
  intro i a' e;cases i with
  |zero=>
   simp only[List.getElem?_cons_zero,Option.some.injEq] at e;subst e;exact⟨b,rfl,r⟩
  |succ j=>
   simp only[List.getElem?_cons_succ] at e⊢;exact ih e
theorem dS{k:Key}{u:Value}(h:Cv k u=true):RelV (kV k) u:=by
 rcases Vc h with⟨i,t,rfl,rfl⟩|⟨x,t,rfl,rfl⟩
 ·exact⟨t,rfl⟩
 ·exact⟨t,rfl⟩
section
variable{X:Cx}{pins:List (Addr×Obj)}{σ:St}{H:Hp}{s:Shared}{d:Addr}{o:Obj}
theorem Inv.FV{kvs:List (Key×V)}(I:Inv X pins σ H s)(h:H d=some (.Lj o (.dK kvs))):(d==sysModules)=false/\s.heap.get? d=some o/\o.ExactDict/\∃(es:Array DictEntry)(ep:Nat)(vs:List (Key×Value)),o.data=.dict es ep/\es.size=kvs.length/\KV kvs vs/\s.heap.DictAt (ud X.prog X.w) d vs ep:=by
 obtain⟨hd,z,hs,vs,kv,o',es,ep,ho,hx,hdt,r⟩:=I.Kb d _ h;rw[hd] at ho;cases ho;refine⟨hs,hd,hx,es,ep,vs,hdt,?_,kv,o,es,hd,hx,hdt,r⟩;have l1:=r.2.1.length;have l2:kvs.length=vs.length:=Paired.length kv;rw[Array.length_toList] at l1;lia
theorem Inv.GV{kvs:List (List Key×V)}(I:Inv X pins σ H s)(h:H d=some (.Lj o (.dT kvs))):(d==sysModules)=false/\s.heap.get? d=some o/\o.ExactDict/\∃(es:Array DictEntry)(ep:Nat),o.data=.dict es ep/\es.size=kvs.length/\∀(i:Nat)(k:List Key)(v:V),kvs[i]?=some (k,v)->∃(en:DictEntry)(q:Addr),es[i]?=some en/\en.key=.ref q/\H q=some (.tup (k.map kV)):=by
 obtain⟨hd,z,hs,xs,pr,o',es,ep,ho,hx,hdt,he,_⟩:=I.Kb d _ h;rw[hd] at ho;cases ho;refine⟨hs,hd,hx,es,ep,hdt,?_,λi k v e=>?_⟩
 ·have l1:es.size=xs.length:=size_of_entries he;have l2:kvs.length=xs.length:=Paired.length pr;lia
 ·obtain⟨b,hb,e1,e2,_⟩:=RK pr e;have q:=entry_at he i;rw[hb] at q;exact⟨_,b.2.1,q,rfl,e2⟩
end
def GY(d:Addr)(o:Obj)(kvs:List (Key×V)):It:=
 ⟨λi H=>H d=some (.Lj o (.dK kvs))/\i<kvs.length,λi H x H'=>H'=H/\∃k v,kvs[i]?=some (k,v)/\x=kV k,λi H=>H d=some (.Lj o (.dK kvs))/\kvs.length<=i⟩
def kX(d:Addr)(o:Obj)(kvs:List (List Key×V)):It:=
 ⟨λi H=>H d=some (.Lj o (.dT kvs))/\i<kvs.length,λi H x H'=>H'=H/\∃(k:List Key)(v:V)(q:Addr),kvs[i]?=some (k,v)/\x=.ref q/\H q=some (.tup (k.map kV)),λi H=>H d=some (.Lj o (.dT kvs))/\kvs.length<=i⟩
theorem Yw{o:Obj}{es es':Array DictEntry}{ep ep':Nat}(h:o.data=.dict es ep)(h':o.data=.dict es' ep'):es'=es/\ep'=ep:=by
 rw[h] at h';cases h';exact⟨rfl,rfl⟩
section
variable{P:Program}{w:World}{K:PySem.W.Frag}{tg:Expr}{d:Addr}{o:Obj}{es:Array DictEntry}{ep:Nat}
theorem JP{kvs:List (Key×V)}(it:Addr)(hod:o.data=.dict es ep):Turn P w K tg (GY d o kvs) [it] it (λi h=>h.IsKeyIter it d i kvs.length ep) where
 mem:=by simp
 obj:=λi h st b hb=>by
  have e:b=it:=by simpa using hb
  subst e;obtain⟨oi,e,c,dd⟩:=st;exact⟨oi,e,λv z=>by rw[dd] at z;cases z⟩
 keep:=λi h h' st k=>st.at λoi e=>k it (by simp) oi e
 item:=by
  intro X hP hw hK hc i pins s σ H E I hf st hg;subst hP hw hK;obtain⟨hd,hi⟩:=hg;obtain⟨f0,f1,f2,f3,f4,f5⟩:=hf it (by simp);obtain⟨hs,hgd,hx,es',ep',vs,hdt,hsz,kv,hm⟩:=I.FV hd;obtain⟨rfl,rfl⟩:=Yw hod hdt;obtain⟨⟨k,v⟩,hkv⟩:∃p,kvs[i]?=some p:=⟨kvs[i],List.getElem?_eq_getElem hi⟩;obtain⟨u,hu,ru⟩:=aW kv hkv;have hl:kvs.length=vs.length:=Paired.length kv;rw[hl] at st;refine wpAny_pyNext_dict_item st hm hu λkey h' hkey st' sb=>?_;have I1:Inv X pins σ H {s with heap:=h'}:=I.turned (t':=s.toks) (λb ob hb e=>(sb.2 b hb).trans e) f0 f1 f3 f4 f5;obtain⟨oi,e,c,dd⟩:=id st';refine⟨key,rfl,My (s:={s with heap:=h'}) e c dd (by decide) ⟨kV k,H,I1,dS (show Cv k key=true from hkey),⟨rfl,k,v,hkv,rfl⟩,?_,λb hb=>(hf b hb).1⟩⟩;show h'.IsKeyIter it d (i+1) kvs.length _;rw[hl];exact st'
 done:=by
  intro X hP hw hK hc i pins s σ H E I hf st hg;subst hP hw hK;obtain⟨hd,hi⟩:=hg;obtain⟨f0,f1,f2,f3,f4,f5⟩:=hf it (by simp);obtain⟨hs,hgd,hx,es',ep',vs,hdt,hsz,kv,hm⟩:=I.FV hd;obtain⟨rfl,rfl⟩:=Yw hod hdt;exact Gs (I.ok.hd hc) st hgd hdt hsz hi λh' eb=>⟨rfl,I.turned (t':=s.toks) (λb ob hb e=>eb b ob hb e) f0 f1 f3 f4 f5⟩
 self:=λA i s Q E st h=>wpAny_pyIter_keyiter st h
theorem kM{kvs:List (List Key×V)}(it:Addr)(hod:o.data=.dict es ep):Turn P w K tg (kX d o kvs) [it] it (λi h=>h.IsKeyIter it d i kvs.length ep) where
 mem:=by simp
 obj:=λi h st b hb=>by
  have e:b=it:=by simpa using hb
  subst e;obtain⟨oi,e,c,dd⟩:=st;exact⟨oi,e,λv z=>by rw[dd] at z;cases z⟩
 keep:=λi h h' st k=>st.at λoi e=>k it (by simp) oi e
 item:=by
  intro X hP hw hK hc i pins s σ H E I hf st hg;subst hP hw hK;obtain⟨hd,hi⟩:=hg;obtain⟨f0,f1,f2,f3,f4,f5⟩:=hf it (by simp);obtain⟨hs,hgd,hx,es',ep',hdt,hsz,ent⟩:=I.GV hd;obtain⟨rfl,rfl⟩:=Yw hod hdt;obtain⟨⟨k,v⟩,hkv⟩:∃p,kvs[i]?=some p:=⟨kvs[i],List.getElem?_eq_getElem hi⟩;obtain⟨en,q,hen,hkey,hq⟩:=ent i k v hkv;refine VA st hgd hdt hsz hen λh' st' sb=>?_;have I1:Inv X pins σ H {s with heap:=h'}:=I.turned (t':=s.toks) (λb ob hb e=>(sb.2 b hb).trans e) f0 f1 f3 f4 f5;obtain⟨oi,e,c,dd⟩:=id st';exact⟨en.key,rfl,My (s:={s with heap:=h'}) e c dd (by decide) ⟨.ref q,H,I1,hkey,⟨rfl,k,v,q,hkv,rfl,hq⟩,st',λb hb=>(hf b hb).1⟩⟩
 done:=by
  intro X hP hw hK hc i pins s σ H E I hf st hg;subst hP hw hK;obtain⟨hd,hi⟩:=hg;obtain⟨f0,f1,f2,f3,f4,f5⟩:=hf it (by simp);obtain⟨hs,hgd,hx,es',ep',hdt,hsz,ent⟩:=I.GV hd;obtain⟨rfl,rfl⟩:=Yw hod hdt;exact Gs (I.ok.hd hc) st hgd hdt hsz hi λh' eb=>⟨rfl,I.turned (t':=s.toks) (λb ob hb e=>eb b ob hb e) f0 f1 f3 f4 f5⟩
 self:=λA i s Q E st h=>by
  refine wpAny_pyIter_slot st.typeIs F.slot_dict_keyiterator_iter (wpAny_call_entry F.slot_dict_keyiterator_iter st.typeIs F.entry_dict_keyiterator_iter ?_ (F.args_dict_keyiterator_iter_1 _));show wpAny _ _ (ret (.ref it)) _ _ s;exact wpAny_pure ⟨_,rfl,"dict_keyiterator",_,st.typeIs,F.slot_dict_keyiterator_next.lookup,h⟩
end
def DU(td:TE):TI:=λσ H R=>td σ H λx H1=>∃d o,x=.ref d/\((∃kvs,H1 d=some (.Lj o (.dK kvs))/\R (GY d o kvs) H1)\/∃kvs,H1 d=some (.Lj o (.dT kvs))/\R (kX d o kvs) H1)
section
variable{X:Cx}{tg e:Expr}{td:TE}{apos cpos:Pos}
theorem cU(he:PE X e td):PI X tg e (DU td):=by
 intro pins s σ H R I h;refine yc (he pins s σ H _ I h) λu s1⟨x,H1,I1,rx,d,o,ex,q⟩=>?_;subst ex;obtain rfl:u=Value.ref d:=rx;rcases q with⟨kvs,hd,q⟩|⟨kvs,hd,q⟩
 ·obtain⟨hs,hgd,hx,es,ep,vs,hdt,hsz,kv,hm⟩:=I1.FV hd;refine VC hs hgd hx hdt (Nz (tk:=s1.toks) I1 _ (JP _ hdt) ⟨_,Heap.get?_push_size _ rfl,rfl,?_⟩ q);rw[hsz]<;>rfl
 ·obtain⟨hs,hgd,hx,es,ep,hdt,hsz,ent⟩:=I1.GV hd;refine VC hs hgd hx hdt (Nz (tk:=s1.toks) I1 _ (kM _ hdt) ⟨_,Heap.get?_push_size _ rfl,rfl,?_⟩ q);rw[hsz]<;>rfl
end
def FY(K:PySem.W.Frag)(a:Addr):It:=
 ⟨λi H=>∃(xs:List V)(x:V),Ha K H a xs/\xs[i]?=some x,λi H v H'=>∃T x,v=.ref T/\H T=none/\H'=upd H T (.tup [.int (i:Nat),x])/\∀xs,Ha K H a xs->xs[i]?=some x,λi H=>∃xs:List V,Ha K H a xs/\xs.length<=i⟩
theorem IP{P:Program}{w:World}{K:PySem.W.Frag}{elts:List Expr}{kk:Nat}{tpos:Pos}(a e it:Addr):Turn P w K (.Tuple elts kk tpos) (FY K a) [e,it] e (λi h=>(∃old,IsEnum h e it ((i:Nat):Int) old)/\h.IsListIter it a i/\e≠it) where
 mem:=by simp
 obj:=λi h st b hb=>by
  obtain⟨⟨old,he⟩,⟨o,ho,hc,hd⟩,_⟩:=st;have e':b=e\/b=it:=by simpa using hb
  rcases e' with z|z
  ·rw[z];exact⟨_,he,λv q=>nomatch q⟩
  ·rw[z];exact⟨o,ho,λv q=>by rw[hd] at q;cases q⟩
 keep:=λi h h' st k=>let ⟨⟨old,he⟩,hi,hne⟩:=st;⟨⟨old,k e (by simp) _ he⟩,hi.at λo q=>k it (by simp) o q,hne⟩
 item:=by
  intro X hP hw hK hc i pins s σ H E I hf st hg;subst hP hw hK;obtain⟨⟨old,he⟩,hit,hne⟩:=st;obtain⟨xs,x,hq,hx⟩:=hg;obtain⟨its,rv,p,hz⟩:=I.list hq;obtain⟨u,hu,ru⟩:=rv.get hx;have hel:e<s.heap.objs.size:=Heap.lt_size he;have hil:it<s.heap.objs.size:=by obtain⟨_,q,_⟩:=hit;exact Heap.lt_size q
  refine wpAny_pyNext_enum_item he hit p.isList (x:=u) (by simpa using hu) hne λh' ho hit' hT hsz hk=>?_;refine⟨_,rfl,wpAny_letOwnedTupleGo_enum (s:={s with heap:=h',toks:=s.toks+1}) ho λh'' he' sb=>?_⟩;have hT2:h''.get? s.heap.objs.size=some {cls:=.type "tuple",data:=.seq #[.int i s.toks,u]}:=(sb.2 _ (Nat.ne_of_gt hel)).trans hT;have new:Cd X.prog X.w (upd H s.heap.objs.size (.tup [.int (i:Nat),x])) h'' s.heap.objs.size (.tup [.int (i:Nat),x]):=
   ⟨by show 2<=sizeLine;decide,[.int i s.toks,u],.cons ⟨_,rfl⟩ (.cons ru .nil),⟨_,hT2,rfl,_,rfl⟩⟩
  have I1:Inv X pins σ (upd H s.heap.objs.size (.tup [.int (i:Nat),x])) {s with heap:=h'',toks:=s.toks+1}:=
   I.ND (ch:=[e,it]) (λb ob hb q=>(sb.2 b (λz=>hb (by simp[z]))).trans (hk b ob (λz=>hb (by simp[z])) (λz=>hb (by simp[z])) q)) hf (Nat.le_refl _) new
  refine⟨.ref s.heap.objs.size,_,I1,rfl,⟨_,x,rfl,I.Kb.fresh (Nat.le_refl _),rfl,λys hy=>by rw[I.js hy hq];exact hx⟩,⟨⟨u,?_⟩,hit'.at λo q=>(sb.2 it (Ne.symm hne)).trans q,hne⟩,λb hb=>?_⟩
  ·have e1:((i+1:Nat):Int)=(i:Int)+1:=by lia
   rw[e1];exact he'
  ·have hb':b<s.heap.objs.size:=by
    have e':b=e\/b=it:=by simpa using hb
    rcases e' with z|z
    ·rw[z];exact hel
    ·rw[z];exact hil
   rw[ua (Nat.ne_of_lt hb')];exact(hf b hb).1
 done:=by
  intro X hP hw hK hc i pins s σ H E I hf st hg;subst hP hw hK;obtain⟨⟨old,he⟩,hit,hne⟩:=st;obtain⟨xs,hq,hx⟩:=hg;obtain⟨its,rv,p,hz⟩:=I.list hq;obtain⟨f0,f1,f2,f3,f4,f5⟩:=hf it (by simp);have hl:=rv.length;exact wpAny_pyNext_enum_end (I.ok.hd hc) he hit p.isList (by simp;lia) λh' eb=>⟨rfl,I.turned (t':=s.toks) (λb o hb q=>eb b o hb q) f0 f1 f3 f4 f5⟩
 self:=λA i s Q E st h=>let ⟨⟨_,he⟩,_⟩:=st;wpAny_pyIter_enum he h
def cR(K:PySem.W.Frag)(ta:TA):TI:=λσ H R=>ta σ H λvs H1=>∃a xs,vs=[.ref a]/\Ha K H1 a xs/\R (FY K a) H1
theorem fN{X:Cx}{e:Expr}{ta:TA}{p pos tpos:Pos}{elts:List Expr}{kk:Nat}(hg:Gl X "enumerate")(hm:X.mg "enumerate"=none)(ha:PA X [e] ta)(hs:starEach [e] X.env=[(false,eval e X.env)]:=by rfl):PI X (.Tuple elts kk tpos) (.Call (.Name "enumerate" p) [e] [] pos) (cR X.K ta):=by
 intro pins s σ H R I h;refine Call_ (Jk I hg hm boot_enumerate (PyProof.Rows.callWith_type1 (yc (ha pos pins s σ H _ I h) λus s1⟨vs,H1,I1,r1,q1⟩=>?_) hs rfl));obtain⟨a,xs,ex,hq,q⟩:=q1;subst ex;cases r1 with
 |cons r rr=>
  cases rr;cases r;obtain⟨its,rv,p',hz⟩:=I1.list hq;refine call_enumerate_list p'.isList λh' he hit hsz hk=>wpAny_pyIter_enum he ?_;have I2:Inv X pins σ H1 {s1 with heap:=h'}:=I1.kept (t':=s1.toks) hk;refine⟨s1.heap.objs.size+1,[s1.heap.objs.size+1,s1.heap.objs.size],_,_,H1,rfl,I2,IP a (s1.heap.objs.size+1) s1.heap.objs.size,⟨⟨.none,he⟩,hit,Nat.succ_ne_self _⟩,λb hb=>?_,q⟩;have e':b=s1.heap.objs.size+1\/b=s1.heap.objs.size:=by simpa using hb
  have hle:s1.heap.objs.size<=b:=by
   rcases e' with z|z
   ·rw[z];exact Nat.le_add_right _ _
   ·rw[z];exact Nat.le_refl _
  exact I1.KJ hle (I1.Kb.fresh hle)
theorem LN:bootBuiltins "zip"=some (.type "zip"):=by decide +kernel
def HY(K:PySem.W.Frag)(a b:Addr):It:=
 ⟨λi H=>∃(xs ys:List V)(x y:V),Ha K H a xs/\Ha K H b ys/\xs[i]?=some x/\ys[i]?=some y,
  λi H v H'=>∃T x y,v=.ref T/\H T=none/\H'=upd H T (.tup [x,y])/\(∀xs,Ha K H a xs->xs[i]?=some x)/\∀ys,Ha K H b ys->ys[i]?=some y,
  λi H=>∃xs ys:List V,Ha K H a xs/\Ha K H b ys/\(xs.length<=i\/ys.length<=i)⟩
theorem LS{P:Program}{w:World}{K:PySem.W.Frag}{elts:List Expr}{kk:Nat}{tpos:Pos}{a b z TI TO i1 i2:Addr}(D:ZipApart z TI TO i1 i2 a b):Turn P w K (.Tuple elts kk tpos) (HY K a b) [z,TI,TO,i1,i2] z (λi h=>IsZip h z TI TO .none/\IsPair h TI (.ref i1) (.ref i2)/\(∃x y,IsPair h TO x y)/\h.IsListIter i1 a i/\h.IsListIter i2 b i) where
 mem:=by simp
 obj:=λi h st c hc=>by
  obtain⟨hz,hTI,⟨x,y,hTO⟩,⟨o1,e1,_,d1⟩,⟨o2,e2,_,d2⟩⟩:=st;have e':c=z\/c=TI\/c=TO\/c=i1\/c=i2:=by simpa using hc
  rcases e' with q|q|q|q|q
  ·rw[q];exact⟨_,hz,λv q=>nomatch q⟩
  ·rw[q];exact⟨_,hTI,λv q=>nomatch q⟩
  ·rw[q];exact⟨_,hTO,λv q=>nomatch q⟩
  ·rw[q];exact⟨o1,e1,λv q=>by rw[d1] at q;cases q⟩
  ·rw[q];exact⟨o2,e2,λv q=>by rw[d2] at q;cases q⟩
 keep:=λi h h' st k=>by
  obtain⟨hz,hTI,⟨x,y,hTO⟩,h1,h2⟩:=st;exact⟨k z (by simp) _ hz,k TI (by simp) _ hTI,⟨x,y,k TO (by simp) _ hTO⟩,h1.at λo q=>k i1 (by simp) o q,h2.at λo q=>k i2 (by simp) o q⟩
 item:=by
  intro X hP hw hK hc i pins s σ H E I hf st hg;subst hP hw hK;obtain⟨hz,hTI,⟨x0,y0,hTO⟩,h1,h2⟩:=st;obtain⟨xs,ys,x,y,hqx,hqy,hx,hy⟩:=hg;obtain⟨its,rv,p,_⟩:=I.list hqx;obtain⟨its2,rv2,p2,_⟩:=I.list hqy;obtain⟨u,hu,ru⟩:=rv.get hx;obtain⟨u2,hu2,ru2⟩:=rv2.get hy;have hzl:z<s.heap.objs.size:=Heap.lt_size hz;refine wpAny_pyNext_zip_item D hz hTI hTO h1 h2 p.isList p2.isList (x:=u) (y:=u2) (by simpa using hu) (by simpa using hu2) λh' z' TO' h1' h2' hT hsz hk=>?_;refine⟨_,rfl,wpAny_letOwnedTupleGo_zip (s:={s with heap:=h'}) z' λh'' z'' sb=>?_⟩;have hT2:h''.get? s.heap.objs.size=some {cls:=.type "tuple",data:=.seq #[u,u2]}:=(sb.2 _ (Nat.ne_of_gt hzl)).trans hT;have new:Cd X.prog X.w (upd H s.heap.objs.size (.tup [x,y])) h'' s.heap.objs.size (.tup [x,y]):=
   ⟨by show 2<=sizeLine;decide,[u,u2],.cons ru (.cons ru2 .nil),⟨_,hT2,rfl,_,rfl⟩⟩
  have I1:Inv X pins σ (upd H s.heap.objs.size (.tup [x,y])) {s with heap:=h''}:=
   I.ND (t':=s.toks) (ch:=[z,TI,TO,i1,i2]) (λc o hb q=>(sb.2 c (λq'=>hb (by simp[q']))).trans (hk c o (λq'=>hb (by simp[q'])) (λq'=>hb (by simp[q'])) (λq'=>hb (by simp[q'])) (λq'=>hb (by simp[q'])) q)) hf (Nat.le_refl _) new
  refine⟨.ref s.heap.objs.size,_,I1,rfl,⟨_,x,y,rfl,I.Kb.fresh (Nat.le_refl _),rfl,λl hl=>by rw[I.js hl hqx];exact hx,λl hl=>by rw[I.js hl hqy];exact hy⟩,⟨z'',?_,⟨u,u2,?_⟩,?_,?_⟩,λc hcm=>?_⟩
  ·exact(sb.2 _ D.TIz).trans (hk _ _ D.TIz D.TITO D.TIi1 D.TIi2 hTI)
  ·exact(sb.2 _ D.TOz).trans TO'
  ·exact h1'.at λo q=>(sb.2 _ D.i1z).trans q
  ·exact h2'.at λo q=>(sb.2 _ D.i2z).trans q
  ·have hlt:c<s.heap.objs.size:=by
    have e':c=z\/c=TI\/c=TO\/c=i1\/c=i2:=by simpa using hcm
    rcases e' with q|q|q|q|q
    ·rw[q];exact hzl
    ·rw[q];exact Heap.lt_size hTI
    ·rw[q];exact Heap.lt_size hTO
    ·rw[q];obtain⟨_,e1,_⟩:=h1;exact Heap.lt_size e1
    ·rw[q];obtain⟨_,e2,_⟩:=h2;exact Heap.lt_size e2
   rw[ua (Nat.ne_of_lt hlt)];exact(hf c hcm).1
 done:=by
  intro X hP hw hK hc i pins s σ H E I hf st hg;subst hP hw hK;obtain⟨hz,hTI,⟨x0,y0,hTO⟩,h1,h2⟩:=st;obtain⟨xs,ys,hqx,hqy,hend⟩:=hg;obtain⟨its,rv,p,_⟩:=I.list hqx;obtain⟨its2,rv2,p2,_⟩:=I.list hqy;have l1:=rv.length;have l2:=rv2.length;have he:its.toArray[i]?=none\/its2.toArray[i]?=none:=by
   rcases hend with q|q
   ·exact .inl (by simp;lia)
   ·exact .inr (by simp;lia)
  exact wpAny_pyNext_zip_end (I.ok.hd hc) D hz hTI hTO h1 h2 p.isList p2.isList he λh' hk=>⟨rfl,I.yU (t':=s.toks) (ch:=[z,TI,TO,i1,i2]) (λc o hb q=>
   hk c o (λq'=>hb (by simp[q'])) (λq'=>hb (by simp[q'])) (λq'=>hb (by simp[q'])) (λq'=>hb (by simp[q'])) q) hf⟩
 self:=λA i s Q E st h=>wpAny_pyIter_zip st.1 h
def IX(K:PySem.W.Frag)(ta:TA):TI:=λσ H R=>ta σ H λvs H1=>∃a b xs ys,vs=[.ref a,.ref b]/\Ha K H1 a xs/\Ha K H1 b ys/\R (HY K a b) H1
theorem tW{X:Cx}{e e2:Expr}{ta:TA}{p pos tpos:Pos}{elts:List Expr}{kk:Nat}(hg:Gl X "zip")(hm:X.mg "zip"=none)(ha:PA X [e,e2] ta)(hs:starEach [e,e2] X.env=(false,eval e X.env)::starEach [e2] X.env:=by rfl)(hpl:(backTo pos (starEach [e2] X.env)).any (·.1)=false:=by rfl):PI X (.Tuple elts kk tpos) (.Call (.Name "zip" p) [e,e2] [] pos) (IX X.K ta):=by
 intro pins s σ H R I h;refine Call_ (Jk I hg hm LN (PyProof.Rows.callWith_type1 (yc (ha pos pins s σ H _ I h) λus s1⟨vs,H1,I1,r1,q1⟩=>?_) hs hpl));obtain⟨a,b,xs,ys,ex,hqx,hqy,q⟩:=q1;subst ex;cases r1 with
 |cons r rr=>
  cases rr with
  |cons r' rr=>
   cases rr;cases r;cases r';obtain⟨its,rv,p1,_⟩:=I1.list hqx;obtain⟨its2,rv2,p2,_⟩:=I1.list hqy;have la:a<s1.heap.objs.size:=p1.lt;have lb:b<s1.heap.objs.size:=p2.lt;refine call_zip_2 p1.isList p2.isList λh' hz hTI hTO h1 h2 hsz hk=>wpAny_pyIter_zip hz ?_;have I2:Inv X pins σ H1 {s1 with heap:=h'}:=I1.kept (t':=s1.toks) hk;refine⟨s1.heap.objs.size+4,[s1.heap.objs.size+4,s1.heap.objs.size+2,s1.heap.objs.size+3,s1.heap.objs.size,s1.heap.objs.size+1],_,_,H1,rfl,I2,LS (PySem.W.ktu_apart s1.heap.objs.size a b la lb),⟨hz,hTI,⟨_,_,hTO⟩,h1,h2⟩,λc hcm=>?_,q⟩;have e':c=s1.heap.objs.size+4\/c=s1.heap.objs.size+2\/c=s1.heap.objs.size+3\/c=s1.heap.objs.size\/c=s1.heap.objs.size+1:=by simpa using hcm
   have hle:s1.heap.objs.size<=c:=by
    rcases e' with z|z|z|z|z
    ·rw[z];exact Nat.le_add_right _ _
    ·rw[z];exact Nat.le_add_right _ _
    ·rw[z];exact Nat.le_add_right _ _
    ·rw[z];exact Nat.le_refl _
    ·rw[z];exact Nat.le_add_right _ _
   exact I1.KJ hle (I1.Kb.fresh hle)
end L2
section
end
section
namespace TL
open PySem PySem.Builtin PySem.Builtin.Str PySem.StrLaws
abbrev tl(x:Str):List Nat:=x.cps.toList
theorem bu(x:Str):x.length=(tl x).length:=by simp[tl,Str.length]
theorem DQ{x y:Str}(h:tl x=tl y):x=y:=Str.ext' (Array.toList_inj.mp h)
theorem uu(x y:Str):tl (x++y)=tl x++tl y:=by
 show(x++y).cps.toList=_;rw[Str.cps_append,Array.toList_append]
theorem jz:∀{l m:List Str},l.map tl=m.map tl->l=m
 |[],[],_=>rfl
 |[],_::_,h=>by simp at h
 |_::_,[],h=>by simp at h
 |x::l,y::m,h=>by
  rw[List.map_cons,List.map_cons] at h;injection h with h1 h2;rw[DQ h1,jz h2]
def pre(S l:List Nat):Bool:=l.take S.length==S
def Wv(S:List Nat):Nat->List Nat->List Nat->List (List Nat)
 |_,acc,[]=>[acc]
 |0,acc,c::r=>if pre S (c::r)=true then acc::Wv S (S.length-1) [] r else Wv S 0 (acc++[c]) r
 |k+1,acc,_::r=>Wv S k acc r
theorem mx(S:List Nat)(k:Nat)(acc:List Nat):Wv S k acc []=[acc]:=by cases k<;>rfl
theorem vN{S acc r:List Nat}{c:Nat}(h:pre S (c::r)=true):Wv S 0 acc (c::r)=acc::Wv S (S.length-1) [] r:=by
 show(if pre S (c::r)=true then acc::Wv S (S.length-1) [] r else Wv S 0 (acc++[c]) r)=_;rw[if_pos h]
theorem cJ{S acc r:List Nat}{c:Nat}(h:pre S (c::r)=false):Wv S 0 acc (c::r)=Wv S 0 (acc++[c]) r:=by
 show(if pre S (c::r)=true then acc::Wv S (S.length-1) [] r else Wv S 0 (acc++[c]) r)=_;rw[if_neg (by rw[h];exact Bool.false_ne_true)]
theorem dJ(S:List Nat):∀(k:Nat)(acc l:List Nat),Wv S k acc l=Wv S 0 acc (l.drop k)
 |0,_,_=>by rw[List.drop_zero]
 |k+1,acc,[]=>by rw[List.drop_nil,mx,mx]
 |k+1,acc,c::r=>by
  show Wv S k acc r=Wv S 0 acc (r.drop k);exact dJ S k acc r
theorem eU{S:List Nat}(hS:S≠[]):pre S []=false:=by
 cases S with
 |nil=>exact absurd rfl hS
 |cons s S=>rfl
theorem bI{s c:Nat}(S r:List Nat)(h:c≠s):pre (s::S) (c::r)=false:=by
 cases hp:pre (s::S) (c::r) with
 |false=>rfl
 |true=>
  have e:(c::r).take (s::S).length=s::S:=eq_of_beq hp;rw[List.length_cons,List.take_succ_cons] at e;injection e with e1 e2;exact absurd e1 h
theorem SR(S r:List Nat):pre S (S++r)=true:=by
 show((S++r).take S.length==S)=true;have e:(S++r).take S.length=S:=List.take_left;rw[e]<;>exact beq_self_eq_true S
theorem Sr{L:List Nat}{a:Nat}(h:a<L.length):∃c,L.drop a=c::L.drop (a+1):=⟨L[a],List.drop_eq_getElem_cons h⟩
theorem eG(S L:List Nat):∀(m a:Nat)(acc:List Nat),a+m<=L.length->(∀k,a<=k->k<a+m->pre S (L.drop k)=false)->Wv S 0 acc (L.drop a)=Wv S 0 (acc++(L.drop a).take m) (L.drop (a+m))
 |0,a,acc,_,_=>by rw[List.take_zero,List.append_nil,Nat.add_zero]
 |m+1,a,acc,h,hn=>by
  have hlt:a<L.length:=by lia
  obtain⟨c,e⟩:=Sr hlt;have h0:=hn a (Nat.le_refl _) (by lia);have ih:=eG S L m (a+1) (acc++[c]) (by lia) (λk h1 h2=>hn k (by lia) (by lia));have e2:a+1+m=a+(m+1):=by lia
  rw[e2] at ih;rw[e] at h0;rw[e,cJ h0,ih,List.take_succ_cons,List.append_assoc]<;>rfl
theorem xQ(L:List Nat)(a b:Nat):(L.drop a).drop b=L.drop (a+b):=by
 first
  |rw[List.drop_drop]
  |rw[List.drop_drop,Nat.add_comm]
theorem EW{S L:List Nat}(hS:S≠[]){c:Nat}{acc:List Nat}(h:pre S (L.drop c)=true):Wv S 0 acc (L.drop c)=acc::Wv S 0 [] (L.drop (c+S.length)):=by
 rw[<-xQ];cases e:L.drop c with
 |nil=>rw[e,eU hS] at h;cases h
 |cons d r=>
  rw[e] at h;rw[vN h,dJ];cases S with
  |nil=>exact absurd rfl hS
  |cons s S=>rfl
theorem fQ{x y:Str}(hy:tl y≠[])(i:Nat):At x y x.length i↔pre (tl y) ((tl x).drop i)=true:=by
 have hx:=bu x;have hl:=bu y;constructor
 ·intro h;have h2:=h.2;rw[subAt_eq,hl] at h2;exact h2
 ·intro h;have e:((tl x).drop i).take (tl y).length=tl y:=eq_of_beq h;have e1:=congrArg List.length e;rw[List.length_take,List.length_drop] at e1;have e2:0<(tl y).length:=List.length_pos_iff.mpr hy;refine⟨by lia,?_⟩;rw[subAt_eq,hl];exact h
theorem GU{x y:Str}(hy:tl y≠[]){i:Nat}(h:¬At x y x.length i):pre (tl y) ((tl x).drop i)=false:=by
 cases hp:pre (tl y) ((tl x).drop i) with
 |false=>rfl
 |true=>exact absurd ((fQ hy i).mpr hp) h
theorem aZ{y:Str}(hy:tl y≠[]):1<=y.length:=by
 have e2:0<(tl y).length:=List.length_pos_iff.mpr hy;rw[bu y];exact e2
theorem MD(x:Str)(i j:Nat):tl (strSub x i j)=((tl x).drop i).take (j-i):=strSub_toList x i j
theorem AB(x:Str)(i:Nat):tl (strSub x i x.length)=(tl x).drop i:=by
 rw[MD,bu x];exact List.take_of_length_le (by rw[List.length_drop]<;>lia)
theorem lD{x y:Str}(hy:tl y≠[]):∀(cuts:List Nat)(a f:Nat),a<=(tl x).length->ChainG x y x.length a cuts f->(∀k,f<=k->¬At x y x.length k)->(partsFrom x y.length a cuts).map tl=Wv (tl y) 0 [] ((tl x).drop a)
 |[],a,f,ha,h,hn=>by
  have e:f=a:=h;subst e;show[tl (strSub x f x.length)]=_;have run:=eG (tl y) (tl x) ((tl x).length-f) f [] (by lia) (λk h1 _=>GU hy (hn k h1));have e2:f+((tl x).length-f)=(tl x).length:=by lia
  rw[e2,List.drop_length,mx,List.nil_append,List.take_of_length_le (by rw[List.length_drop]<;>lia)] at run;rw[run,AB]
 |c::r,a,f,ha,h,hn=>by
  obtain⟨h1,h2,h3,h4⟩:=h;have hc:c+y.length<=x.length:=h2.1;have hx:=bu x;have hl:=bu y;have ih:=lD hy r (c+y.length) f (by lia) h4 hn;show tl (strSub x a c)::(partsFrom x y.length (c+y.length) r).map tl=_;have run:=eG (tl y) (tl x) (c-a) a [] (by lia) (λk k1 k2=>GU hy (h3 k k1 (by lia)));have e2:a+(c-a)=c:=by lia
  rw[e2,List.nil_append,EW hy ((fQ hy c).mp h2)] at run;rw[run,ih,MD,hl]
theorem zP(x y:Str)(hy:tl y≠[])(hk:¬Builtin.Str.strKind x<Builtin.Str.strKind y):(Txt.split x y).map tl=Wv (tl y) 0 [] (tl x):=by
 obtain⟨f,g,hn⟩:=occ_tight x y (aZ hy);have key:=lD hy _ 0 f (Nat.zero_le _) g hn;rw[List.drop_zero] at key;have none_case:occurrences x y 0 x.length (x.length+1)=[]->[x].map tl=Wv (tl y) 0 [] (tl x):=λho=>by
  rw[ho] at key;rw[<-key];show[tl x]=[tl (strSub x 0 x.length)];rw[sub_whole]
 unfold Txt.split;by_cases h1:(decide (x.length<y.length)||decide (Builtin.Str.strKind x<Builtin.Str.strKind y))=true
 ·rw[if_pos h1];have hlt:x.length<y.length:=by
   simp only[Bool.or_eq_true,decide_eq_true_eq] at h1;rcases h1 with h|h
   ·exact h
   ·exact absurd h hk
  refine none_case ?_;cases ho:occurrences x y 0 x.length (x.length+1) with
  |nil=>rfl
  |cons c r=>
   rw[ho] at g;have hc:c+y.length<=x.length:=g.2.1.1;lia
 ·rw[if_neg h1];by_cases h2:(occurrences x y 0 x.length (x.length+1)).isEmpty=true
  ·rw[if_pos h2];exact none_case (List.isEmpty_iff.mp h2)
  ·rw[if_neg h2,partsBetween_eq];exact key
theorem ET{x y:Str}(h:y.cps.all (·<256)=true):¬Builtin.Str.strKind x<Builtin.Str.strKind y:=by
 have e:Builtin.Str.strKind y=1:=by unfold PySem.Builtin.Str.strKind;rw[if_pos h]
 rw[e];unfold PySem.Builtin.Str.strKind;split
 ·lia
 ·split<;>lia
def Vr(S:List Nat):List (List Nat)->List Nat
 |[]=>[]
 |[p]=>p
 |p::q::r=>p++(S++Vr S (q::r))
theorem DN(y:Str):∀parts:List Str,tl (Str.join y parts)=Vr (tl y) (parts.map tl)
 |[]=>rfl
 |[_]=>rfl
 |x::z::r=>by
  show tl (x++y++Str.join y (z::r))=tl x++(tl y++Vr (tl y) ((z::r).map tl));rw[uu,uu,DN y (z::r),List.append_assoc]
theorem join_eq(y:Str)(parts:List Str):Txt.join y parts=Str.join y parts:=glued_eq_join y parts
def xK(n:Nat):List Nat:=(Nat.toDigits 10 n).map Char.toNat
theorem OW(n:Nat):tl (Str.ofString (toString ((n:Nat):Int)))=xK n:=PySem.W.KIN.signs_num n
theorem xp:∀d:Nat,d<10->(Nat.digitChar d).toNat=48+d:=by decide
theorem QT{n:Nat}(h:n<10):xK n=[48+n]:=by
 unfold xK;rw[Nat.toDigits_of_lt_base h];show[(Nat.digitChar n).toNat]=_;rw[xp n h]
theorem DO{n:Nat}(h:10<=n):xK n=xK (n/10)++[48+n % 10]:=by
 have hm:n % 10<10:=Nat.mod_lt n (by decide);have t:Nat.toDigits 10 (n/10)++Nat.toDigits 10 (n % 10)=Nat.toDigits 10 (10*(n/10)+n % 10):=Nat.toDigits_append_toDigits (by decide) (by lia) hm;rw[Nat.div_add_mod] at t;show(Nat.toDigits 10 n).map Char.toNat=_;rw[<-t,List.map_append,Nat.toDigits_of_lt_base hm];show(Nat.toDigits 10 (n/10)).map Char.toNat++[(Nat.digitChar (n % 10)).toNat]=_;rw[xp _ hm]<;>rfl
end TL
end
namespace L2
open PySem PySem.Spec PyProof.Rows
theorem OD:∀l:List (Str×Tok),Vals ((l.map (·.1)).map V.str) (strValues l)
 |[]=>.nil
 |p::r=>.cons ⟨p.2,rfl⟩ (OD r)
theorem Jh:∀{ys:List Str}{us:List Value},Vals (ys.map V.str) us->StrsAre us ys
 |[],_,.nil=>.nil
 |y::ys,_,.cons r t=>by
  obtain⟨k,rfl⟩:=r;exact .cons y k (Jh t)
def Qz(ys:List Str):Hp->VK->Prop:=λH Q=>∀p,H p=none->Q (.ref p) (upd H p (.lst (ys.map V.str)))
section
variable{X:Cx}{pins:List (Addr×Obj)}{σ:St}{H:Hp}{s:Shared}{Q:VK}
theorem au{l:List (Str×Tok)}{ys:List Str}{k:Nat}(I:Inv X pins σ H s)(e:l.map (·.1)=ys)(hz:ys.length<=sizeLine)(h:Qz ys H Q):EP X pins σ Q (.ref s.heap.objs.size) {s with toks:=k,heap:=s.heap.push {cls:=.type "list",data:=.seq (strValues l).toArray}}:=by
 have hp:=I.Kb.fresh (Nat.le_refl _);refine⟨.ref s.heap.objs.size,upd H s.heap.objs.size (.lst (ys.map V.str)),I.laid (λb u q=>Heap.get?_push_of_some _ q) (Nat.le_refl _) ⟨by rw[List.length_map];exact hz,strValues l,_,?_,Heap.get?_push_size _ rfl⟩,rfl,h _ hp⟩;rw[<-e];exact OD l
end
section
variable{X:Cx}
theorem ER:OP X "str.split" (λx xs H Q=>∃a b,x=.str a/\xs=[.str b]/\(b.length==0)=false/\a.length+2<=sizeLine/\Qz (Txt.split a b) H Q):=by
 intro pins s σ H x xs v us Q I rx rs h;obtain⟨a,b,rfl,rfl,hb,hz,h⟩:=h;obtain⟨t,rfl⟩:=rx;cases rs with
 |cons r1 rs=>
  cases rs;obtain⟨u,rfl⟩:=r1;have hl:(Txt.split a b).length<=sizeLine:=Nat.le_trans (PyProof.Rows.split_le a b) hz;have hn:(Builtin.Str.partsBetween a (Builtin.Str.occurrences a b 0 a.length (a.length+1)) b.length).length<=sizeLine:=by
   have e1:=StrLaws.occ_length_le a b 0 a.length (a.length+1);rw[length_partsBetween];lia
  cases h1:(decide (a.length<b.length)||decide (Builtin.Str.strKind a<Builtin.Str.strKind b))
  ·cases hf:(Builtin.Str.occurrences a b 0 a.length (a.length+1)).isEmpty
   ·refine call_meets F.slot_str_split (typeIs_str _ _ _) F.entry_str_split (F.args_str_split_2 _ _) (meets_str_split_sep a b t u h1 hb hf (by lia) hn) ?_;show EP X pins σ Q (.ref s.heap.objs.size) {s with toks:=_,heap:=s.heap.push {cls:=.type "list",data:=.seq (strsFrom s.toks (Builtin.Str.partsBetween a (Builtin.Str.occurrences a b 0 a.length (a.length+1)) b.length)).toArray}};rw[strsFrom_eq];exact au (ys:=Txt.split a b) I ((numbered_texts _ _).trans ((if_neg (ne_true_of_eq_false h1)).trans (if_neg (ne_true_of_eq_false hf))).symm) hl h
   ·refine call_meets F.slot_str_split (typeIs_str _ _ _) F.entry_str_split (F.args_str_split_2 _ _) (meets_str_split_not_found a b t u h1 hb hf) ?_;exact au (l:=[(a,t)]) (ys:=Txt.split a b) (k:=s.toks) I ((if_neg (ne_true_of_eq_false h1)).trans (if_pos hf)).symm hl h
  ·refine call_meets F.slot_str_split (typeIs_str _ _ _) F.entry_str_split (F.args_str_split_2 _ _) (meets_str_split_cannot_occur a b t u h1) ?_;exact au (l:=[(a,t)]) (ys:=Txt.split a b) (k:=s.toks) I (if_pos h1).symm hl h
theorem JT:OP X "str.join" (λx xs H Q=>∃a p,∃ys:List Str,x=.str a/\xs=[.ref p]/\(Ha X.K H p (ys.map V.str)\/mh X.K H p (ys.map V.str))/\(ys.map (·.length)).sum+ys.length*a.length<=16777216/\Q (.str (Txt.join a ys)) H):=by
 intro pins s σ H x xs v us Q I rx rs h;obtain⟨a,p,ys,rfl,rfl,hp,hz,h⟩:=h;obtain⟨t,rfl⟩:=rx;cases rs with
 |cons r1 rs=>
  cases rs;cases r1;rcases hp with hp|hp
  ·obtain⟨its,r,⟨o,n,ho,hc,_,hd⟩,_⟩:=I.list hp;exact PyProof.Rows.join_list (items:=its.toArray) ⟨o,ho,hc,n,hd⟩ (by rw[List.toList_toArray];exact Jh r) hz λt' k=>⟨.str _,H,I.tok k,⟨t',rfl⟩,h⟩
  ·obtain⟨its,r,ht,_⟩:=I.tuple hp;exact PyProof.Rows.join_tuple (items:=its.toArray) ht (by rw[List.toList_toArray];exact Jh r) hz λt' k=>⟨.str _,H,I.tok k,⟨t',rfl⟩,h⟩
theorem GZ{id:String}{g:Str->Str->V}(rule:∀(a b:Str)(t u:Tok)(s:Shared)(Q:Value->Shared->Prop),(∀(v:Value)(k:Nat),RelV (g a b) v->Q v {s with toks:=k})->wpAny (model X.prog X.w) X.A (call (.builtin id) [.str a t,.str b u]) Q X.xe s):OP X id (λx xs H Q=>∃a b,x=.str a/\xs=[.str b]/\Q (g a b) H):=by
 intro pins s σ H x xs v us Q I rx rs h;obtain⟨a,b,rfl,rfl,h⟩:=h;obtain⟨t,rfl⟩:=rx;cases rs with
 |cons r1 rs=>
  cases rs;obtain⟨u,rfl⟩:=r1;exact rule a b t u s _ λv k r=>⟨g a b,H,I.tok k,r,h⟩
theorem yH:OP X "str.endswith" (λx xs H Q=>∃a b,x=.str a/\xs=[.str b]/\Q (.bl (Txt.endswith a b)) H):=
 GZ (g:=λa b=>.bl (Txt.endswith a b)) λ_ _ _ _ s _ h=>PySem.SC.endswith (h _ s.toks rfl)
theorem cE:ye X (.type "int") (λxs H Q=>∃a n,xs=[.str a]/\PySem.intText? a=some n/\a.length<=640/\Q (.int n) H):=by
 intro pins s σ H xs us Q I rs h;obtain⟨a,n,rfl,hn,hl,h⟩:=h;cases rs with
 |cons r1 rs=>
  cases rs;obtain⟨t,rfl⟩:=r1;exact PySem.W.KIN.call_text hn hl ⟨.int n,H,I.tok _,⟨_,rfl⟩,h⟩
end
section
variable{X:Cx}{o e:Expr}{to te:TE}
def JZ(r:V->List V->Hp->VK->Prop)(to:TE):TE:=λσ H Q=>to σ H λx H1=>(∃a,x=.str a)/\r x [] H1 Q
def bY(r:V->List V->Hp->VK->Prop)(to te:TE):TE:=λσ H Q=>to σ H λx H1=>(∃a,x=.str a)/\te σ H1 λy H2=>r x [y] H2 Q
theorem OR{id:String}{name:Str}{apos pos:Pos}{r:V->List V->Hp->VK->Prop}(slot:Slot "str" name id)(ty:typeOf (.builtin id)=pure (.type "method_descriptor"))(rule:OP X id r)(ho:PE X o to)(he:PE X e te)(hs:starEach [e] X.env=[(false,eval e X.env)]:=by rfl)(hbase:attributeBase o name X.env (eval o X.env)=eval o X.env:=by rfl)(hline:(apos.endLine==pos.line)=true:=by rfl):PE X (.Call (.Attribute o name apos) [e] [] pos) (bY r to te):=by
 intro pins s σ H Q I h;refine PySem.Call_method1 hbase hs hline (yc (ho pins s σ H _ I h) λv s1⟨x,H1,I1,r1,q1⟩=>?_);obtain⟨⟨a,rfl⟩,q1⟩:=q1;obtain⟨t,rfl⟩:=_root_.id r1;refine⟨"str",_,F.plainAttrs_str,slot,ty,typeIs_str _ _ _,(λ_ e=>nomatch e),Calls.callWith_builtin rfl (Calls.evalArgs_plain (Calls.spliced_cons ?_))⟩;exact yc (he pins s1 σ H1 _ I1 q1) λu s2⟨y,H2,I2,r2,q2⟩=>Calls.spliced_nil (rule pins s2 σ H2 _ [y] _ [u] Q I2 r1 (.cons r2 .nil) q2)
theorem YH{apos pos:Pos}(ho:PE X o to)(he:PE X e te)(hs:starEach [e] X.env=[(false,eval e X.env)]:=by rfl)(hbase:attributeBase o "split" X.env (eval o X.env)=eval o X.env:=by rfl)(hline:(apos.endLine==pos.line)=true:=by rfl):PE X (.Call (.Attribute o "split" apos) [e] [] pos) (bY (λx xs H Q=>∃a b,x=.str a/\xs=[.str b]/\(b.length==0)=false/\a.length+2<=sizeLine/\Qz (Txt.split a b) H Q) to te):=
 OR F.slot_str_split F.type_str_split ER ho he hs hbase hline
theorem aU{apos pos:Pos}(ho:PE X o to)(he:PE X e te)(hs:starEach [e] X.env=[(false,eval e X.env)]:=by rfl)(hbase:attributeBase o "join" X.env (eval o X.env)=eval o X.env:=by rfl)(hline:(apos.endLine==pos.line)=true:=by rfl):PE X (.Call (.Attribute o "join" apos) [e] [] pos) (bY (λx xs H Q=>∃a p,∃ys:List Str,x=.str a/\xs=[.ref p]/\(Ha X.K H p (ys.map V.str)\/mh X.K H p (ys.map V.str))/\(ys.map (·.length)).sum+ys.length*a.length<=16777216/\Q (.str (Txt.join a ys)) H) to te):=
 OR F.slot_str_join F.type_str_join JT ho he hs hbase hline
end
end L2
namespace L2
open PySem PySem.Spec PyProof.Rows
section
variable{X:Cx}
theorem Gz:gp X (compareOp .In) (λx y H Q=>∃(c:Nat)(z:Str),x=.str ⟨#[c]⟩/\y=.str z/\Q (.bl (decide (c∈z.cps.toList))) H):=by
 intro pins s σ H x y v u Q I rx ry h;obtain⟨c,z,rfl,rfl,q⟩:=h;obtain⟨t,rfl⟩:=rx;obtain⟨t',rfl⟩:=ry;exact PyProof.Rows.in_str (Tb I q (PySem.StrLaws.found_one z c).symm)
end
end L2
namespace Att
open PySem PySem.W PySem.Calls PyProof.Rows
section
variable{prog:Program}{w:World}{A:Around}{E:Value->Shared->Prop}{s:Shared}{K:Frag}
end
end Att
namespace L2
open PySem PySem.Spec PyProof.Rows
abbrev tZ{K:PySem.W.Frag}{h:Heap}(_:K.In h):PySem.W.Frag:=K
end L2
namespace L2
open PySem PySem.Spec PyProof.Rows
def inClass(s:Stmt)(j:Nat):Stmt:=match s with
 |.ClassDef _ _ _ body _ _ _ _ _ _ _=>body.getD j (.Pass ⟨0,0,0,0⟩)
 |_=>.Pass ⟨0,0,0,0⟩
def Ak(s:Stmt):Arguments:=match s with
 |.FunctionDef _ a _ _ _ _ _ _ _ _=>a
 |_=>{posonlyargs:=[],args:=[],vararg:=none,kwonlyargs:=[],kw_defaults:=[],kwarg:=none,defaults:=[]}
def Gg(s:Stmt):List Stmt:=match s with
 |.FunctionDef _ _ b _ _ _ _ _ _ _=>b
 |_=>[]
def Ra(s:Stmt):Scope:=match s with
 |.FunctionDef _ _ _ _ _ _ sc _ _ _=>sc
 |_=>{kind:=.function,names:=[],isGenerator:=false,isCoroutine:=false}
abbrev nc:tM:=λ_ _ _ _ _ _=>False
abbrev E0:XK:=λ_ _ _=>False
theorem LR{X:Cx}:Passes nc X E0:=λ_ _ _ _ _ _ _ h=>h.elim
structure qG(K:PySem.W.Frag)(x qual:Str)(st:Stmt)(f:Addr)(fd:FuncData):Prop where
 ex:∃(oc:Value)(od:Option Addr)(kV doc pm:Value)(an:Option Addr)(cdv ct:Value)(osl:Array (Option Value)),
  fd=PySem.W.fnOf x qual (Ak st) (Gg st) (Ra st) .none kV doc pm an cdv ct/\K.lookup f=some ⟨oc,od,.func fd,osl⟩/\PySem.W.codeIn K cdv qual=true
 kp:PySem.W.keepIn K (.ref f)=true
section
variable{P:Program}{w:World}{K:PySem.W.Frag}{mg:Str->Option Value}{base:Heap}
theorem qG.ok{x qual:Str}{st:Stmt}{f:Addr}{fd:FuncData}{N ps:List Str}{k:Nat}{sp:Sp}(F:qG K x qual st f fd)(S:Qw N ps (Ra st))(len:∀vs H Q E,sp vs H Q E->vs.length=ps.length)(hbody:∀(cdv:Value)(A:Around)(outer:List Env)(s:Shared)(H:Hp)(vs:List V)(Q:VK)(E:XK),Ef k (A.deeper (envOfC qual (Ra st) s.heap.objs.size f cdv))->sp vs H Q E->∃t,vJ (jE nc P w K mg base N qual (Ra st) f cdv A outer s H E).fX (Gg st) t/\t {nx:=λ_ H'=>Q .Vb H',rt:=Q} (start N vs) H):Ua P w K mg base nc (k+1) f fd ps sp:=by
 obtain⟨oc,od,kV,doc,pm,an,cdv,ct,osl,rfl,lk,hcd⟩:=F.ex;refine FX lk hcd S len λA outer s H vs Q E hr hsp=>?_;obtain⟨t,h,q⟩:=hbody cdv A outer s H vs Q E hr hsp;exact⟨t,h.fX,q⟩
theorem qG.binds{x qual:Str}{st:Stmt}{f:Addr}{fd:FuncData}{ps:List Str}(F:qG K x qual st f fd)(h:∀(kV doc pm:Value)(an:Option Addr)(cdv ct:Value)(us:List Value),us.length=ps.length->bindArgs (PySem.W.fnOf x qual (Ak st) (Gg st) (Ra st) .none kV doc pm an cdv ct) ⟨us,[]⟩=pure (ps.zip us)):Binds K fd ps []:=by
 obtain⟨oc,od,kV,doc,pm,an,cdv,ct,osl,rfl,lk,hcd⟩:=F.ex;exact .all (h kV doc pm an cdv ct)
theorem mj{x qual:Str}{st:Stmt}{f:Addr}{oc:Value}{od an:Option Addr}{osl:Array (Option Value)}{kV doc pm cdv ct:Value}(l:K.lookup f=some ⟨oc,od,.func (PySem.W.fnOf x qual (Ak st) (Gg st) (Ra st) .none kV doc pm an cdv ct),osl⟩)(c:PySem.W.codeIn K cdv qual=true)(k:PySem.W.keepIn K (.ref f)=true):qG K x qual st f (PySem.W.fnOf x qual (Ak st) (Gg st) (Ra st) .none kV doc pm an cdv ct):=⟨⟨oc,od,kV,doc,pm,an,cdv,ct,osl,rfl,l,c⟩,k⟩
end
theorem Ep{A:Around}{k:Nat}(hr:Ef k A):A.units+1<cLine:=Nat.lt_of_le_of_lt (Nat.add_le_add_left (by decide:1<=64) _) hr.units
section
variable{X:Cx}
theorem pv(i:Nat){x:Str}{pos:Pos}(hN:X.N[i]?=some x:=by rfl)(hv:aX X.env.scope x:=by first|exact Or.inl rfl|exact Or.inr (Or.inl rfl)|exact Or.inr (Or.inr rfl))(hd:(x==("__debug__":Str))=false:=by decide)(hcd:(x==("__classdict__":Str))=false:=by decide):PE X (.Name x pos) (Xc i):=qW hN hv hd hcd
theorem QN:ye X (.builtin "len") (λxs H Q=>∃a kvs,xs=[V.ref a]/\H a=some (.dK kvs)/\Q (.int kvs.length) H):=by
 intro pins s σ H xs us Q I r h;obtain⟨a,kvs,rfl,ha,q⟩:=h;obtain⟨u,rfl,ru⟩:=vals1 r;cases ru;exact yX I (.inl ha) λt s' I'=>⟨.int kvs.length,H,I',⟨t,rfl⟩,q⟩
end
theorem Lb{c A B:Prop}[Decidable c](h1:c->A)(h2:¬c->B):if c then A else B:=by
 by_cases h:c
 ·rw[if_pos h];exact h1 h
 ·rw[if_neg h];exact h2 h
def Aa(H H':Hp):Prop:=∀b o,H b=some o->H' b=some o
theorem Aa.refl(H:Hp):Aa H H:=λ_ _ h=>h
theorem Aa.trans{H H1 H2:Hp}(a:Aa H H1)(b:Aa H1 H2):Aa H H2:=λc o h=>b c o (a c o h)
theorem Aa.free{H H':Hp}(e:Aa H H'){l:Addr}(h:H' l=Option.none):H l=Option.none:=by
 cases q:H l with
 |none=>rfl
 |some o=>
  rw[e l o q] at h;cases h
theorem Aa.seq{K:PySem.W.Frag}{H H':Hp}{a:Addr}{xs:List V}(e:Aa H H')(h:Ha K H a xs):Ha K H' a xs:=by
 rcases h with(h|⟨o,h⟩)|h
 ·exact .inl (.inl (e _ _ h))
 ·exact .inl (.inr ⟨o,e _ _ h⟩)
 ·exact .inr h
section
variable{κ:Type}[DecidableEq κ]
end
theorem FU{α:Type}{l:List α}(hN:l.Nodup){i j:Nat}{x:α}(a:l[i]?=some x)(b:l[j]?=some x):i=j:=by
 obtain⟨h1,e1⟩:=List.getElem?_eq_some_iff.mp a;obtain⟨h2,e2⟩:=List.getElem?_eq_some_iff.mp b;exact(List.getElem_inj hN).mp (e1.trans e2.symm)
theorem Aa.made{H H1:Hp}{x dx C:Addr}(nx:H x=Option.none)(nd:H dx=Option.none)(k:∀b o,(upd (upd H dx (.own x)) x (.ins C dx [])) b=some o->b≠x->H1 b=some o):Aa H H1:=λb o e=>
 k b o (by rw[ua (ka e nx),ua (ka e nd)];exact e) (ka e nx)
end L2
end
section
section
namespace L2
open PySem PySem.Spec PyProof.Rows
open PySem.W (WData Codec OpenSpec Well WellAll ReadsW ReadsAllW)
mutual
inductive Dw(K:PySem.W.Frag)(H:Hp):V->WData->Prop
 |Vb:Dw K H .Vb .none
 |bl (b:Bool):Dw K H (.bl b) (.bool b)
 |int (i:Int):Dw K H (.int i) (.int i)
 |str (x:Str):Dw K H (.str x) (.str x)
 |bE (b:Array UInt8):Dw K H (.bE b) (.bytes b.toList)
 |lst {a:Addr} {xs:List V} {ds:List WData}:Ha K H a xs->yl K H xs ds->Dw K H (.ref a) (.list ds)
 |tup {a:Addr} {xs:List V} {ds:List WData}:mh K H a xs->yl K H xs ds->Dw K H (.ref a) (.tuple ds)
inductive yl(K:PySem.W.Frag)(H:Hp):List V->List WData->Prop
 |nil:yl K H [] []
 |cons {v:V} {vs:List V} {d:WData} {ds:List WData}:Dw K H v d->yl K H vs ds->yl K H (v::vs) (d::ds)
end
theorem DM{K:PySem.W.Frag}{H:Hp}:∀ns:List Int,yl K H (ns.map V.int) (ns.map WData.int)
 |[]=>.nil
 |n::r=>.cons (.int n) (DM r)
theorem OM{K:PySem.W.Frag}{H:Hp}:∀(ns:List Int)(xs:List V),yl K H xs (ns.map WData.int)->xs=ns.map V.int
 |[],xs,h=>by
  cases h;rfl
 |n::r,xs,h=>by
  cases h with
  |cons h1 h2=>
   cases h1;rw[OM r _ h2]<;>rfl
section
variable{P:Program}{w:World}{K:PySem.W.Frag}{H:Hp}{h:Heap}{R:PySem.W.WRecords}{cl:Str->Option Addr}
theorem FW{a:Addr}{xs:List V}(Kb:Zj P w H h)(KX:K.In h)(q:Ha K H a xs):∃(its:List Value)(o:Obj)(n:Nat),Vals xs its/\h.get? a=some o/\o.cls=.type "list"/\o.data=.seq its.toArray n:=by
 rcases q with q|⟨o,its,n,e,hc,_,hd,_,hv⟩
 ·obtain⟨_,its,n,hv,e⟩:=(show Cd P w H h a (.lst xs) from q.ok Kb);exact⟨its,_,n,hv,e,rfl,rfl⟩
 ·exact⟨its.toList,o,n,hv,KX _ _ e,hc,by simp[hd]⟩
theorem GW{a:Addr}{xs:List V}(Kb:Zj P w H h)(KX:K.In h)(q:mh K H a xs):∃(its:List Value)(o:Obj)(n:Nat),Vals xs its/\h.get? a=some o/\o.cls=.type "tuple"/\o.data=.seq its.toArray n:=by
 rcases q with q|⟨o,its,n,e,hc,hd,_,hv⟩
 ·obtain⟨_,its,hv,o,e,hc,n,hd⟩:=(show Cd P w H h a (.tup xs) from q.ok Kb);exact⟨its,o,n,hv,e,hc,hd⟩
 ·exact⟨its.toList,o,n,hv,KX _ _ e,hc,by simp[hd]⟩
mutual
theorem Dw.reads(Kb:Zj P w H h)(KX:K.In h):∀(d:WData)(v:V)(u:Value),Dw K H v d->RelV v u->∃as,ReadsW R cl h u d as
 |.none,_,_,x,r=>by
  cases x;cases r;exact⟨_,ReadsW.none⟩
 |.bool b,_,_,x,r=>by
  cases x;cases r;exact⟨_,ReadsW.bool b⟩
 |.int i,_,_,x,r=>by
  cases x;obtain⟨t,rfl⟩:=r;exact⟨_,ReadsW.int i t⟩
 |.str s,_,_,x,r=>by
  cases x;obtain⟨t,rfl⟩:=r;exact⟨_,ReadsW.str s t⟩
 |.bytes b,_,_,x,r=>by
  cases x;obtain⟨t,rfl⟩:=r;exact⟨_,ReadsW.bytes _ t⟩
 |.list ds,_,_,x,r=>by
  cases x with
  |lst hs ha=>
   cases r;obtain⟨its,o,n,rv,ho,hc,hd⟩:=FW Kb KX hs;obtain⟨as,hr⟩:=Dw.readsAll Kb KX ds _ its ha rv;exact⟨_,ReadsW.list ho hc hd hr⟩
 |.tuple ds,_,_,x,r=>by
  cases x with
  |tup hs ha=>
   cases r;obtain⟨its,o,n,rv,ho,hc,hd⟩:=GW Kb KX hs;obtain⟨as,hr⟩:=Dw.readsAll Kb KX ds _ its ha rv;exact⟨_,ReadsW.tuple ho hc hd hr⟩
 |.float _,_,_,x,_=>by cases x
 |.dict _,_,_,x,_=>by cases x
 |.bytearray _,_,_,x,_=>by cases x
 |.set _,_,_,x,_=>by cases x
 |.frozenset _,_,_,x,_=>by cases x
 |.obj _ _,_,_,x,_=>by cases x
theorem Dw.readsAll(Kb:Zj P w H h)(KX:K.In h):∀(ds:List WData)(vs:List V)(us:List Value),yl K H vs ds->Vals vs us->∃as,ReadsAllW R cl h us ds as
 |[],_,_,x,r=>by
  cases x;cases r;exact⟨_,ReadsAllW.nil⟩
 |d::ds,_,_,x,r=>by
  cases x with
  |cons h1 h2=>
   cases r with
   |cons r1 r2=>
    obtain⟨as,q1⟩:=Dw.reads Kb KX d _ _ h1 r1;obtain⟨bs,q2⟩:=Dw.readsAll Kb KX ds _ _ h2 r2;exact⟨_,ReadsAllW.cons q1 q2⟩
end
end
mutual
def iN:WData->Bool
 |.none=>true
 |.bool _=>true
 |.int _=>true
 |.str _=>true
 |.bytes _=>true
 |.list xs=>Ew xs
 |.tuple xs=>Ew xs
 |_=>false
def Ew:List WData->Bool
 |[]=>true
 |x::r=>iN x&&Ew r
end
theorem aI{α:Type}{f:α->WData}(h:∀a,iN (f a)=true):∀l:List α,Ew (l.map f)=true
 |[]=>rfl
 |x::r=>by
  show(iN (f x)&&Ew (r.map f))=true;rw[h x,aI h r]<;>rfl
theorem Cn:∀(c:Codec)(a:c.denote),iN (c.enc a)=true
 |.unit,_=>rfl
 |.bool,_=>rfl
 |.int _ _,_=>rfl
 |.nat _ _,_=>rfl
 |.u8,_=>rfl
 |.bytes _ _,_=>rfl
 |.text _ _ _ _,_=>rfl
 |.list _ _ c,a=>aI (λx=>Cn c x) a
 |.pair c d,a=>by
  show(iN (c.enc a.1)&&(iN (d.enc a.2)&&true))=true;rw[Cn c a.1,Cn d a.2]<;>rfl
 |.triple c d e,a=>by
  show(iN (c.enc a.1)&&(iN (d.enc a.2.1)&&(iN (e.enc a.2.2)&&true)))=true;rw[Cn c a.1,Cn d a.2.1,Cn e a.2.2]<;>rfl
 |.option c,none=>rfl
 |.option c,some x=>Cn c x
theorem sD:∀(cs:List Codec)(a:Codec.denoteAll cs),Ew (Codec.encAll cs a)=true
 |[],_=>rfl
 |c::cs,a=>by
  show(iN (c.enc a.1)&&Ew (Codec.encAll cs a.2))=true;rw[Cn c a.1,sD cs a.2]<;>rfl
theorem Zq:∀{xs:List WData}{d:WData},d∈xs->d.weight<=WData.weightAll xs
 |[],d,h=>absurd h (by simp)
 |x::r,d,h=>by
  show d.weight<=x.weight+1+WData.weightAll r;rcases List.mem_cons.mp h with e|m
  ·rw[e];lia
  ·have z:=Zq m;lia
def toV:Value->V
 |.none=>.Vb
 |.bool b=>.bl b
 |.int i _=>.int i
 |.str x _=>.str x
 |.bytes b _=>.bE b
 |.ref a=>.ref a
 |_=>.Vb
def JN(A:List Addr):Value->Prop
 |.none=>True
 |.bool _=>True
 |.int _ _=>True
 |.str _ _=>True
 |.bytes _ _=>True
 |.ref a=>a∈A
 |_=>False
theorem JN.mono{A B:List Addr}(h:∀a∈A,a∈B):∀{u:Value},JN A u->JN B u:=λ{u} x=>by
 cases u with
 |ref a=>exact h a x
 |none=>trivial
 |bool b=>trivial
 |int i t=>trivial
 |str s t=>trivial
 |bytes b t=>trivial
 |_=>exact False.elim x
theorem eS{A:List Addr}{u:Value}(x:JN A u):RelV (toV u) u:=by
 cases u with
 |ref a=>rfl
 |none=>rfl
 |bool b=>rfl
 |int i t=>exact⟨t,rfl⟩
 |str s t=>exact⟨t,rfl⟩
 |bytes b t=>exact⟨t,rfl⟩
 |_=>exact False.elim x
theorem Xj{A:List Addr}:∀{vs:List Value},(∀u∈vs,JN A u)->Vals (vs.map toV) vs
 |[],_=>.nil
 |u::r,h=>.cons (eS (h u (List.mem_cons_self ..))) (Xj λx hx=>h x (List.mem_cons_of_mem _ hx))
def xl(h:Heap)(A:List Addr)(a:Addr):Prop:=∃vs:List Value,vs.length<=sizeLine/\(∀u∈vs,JN A u)/\
 (h.get? a=some {cls:=.type "list",data:=.seq vs.toArray}\/h.get? a=some {cls:=.type "tuple",data:=.seq vs.toArray})
theorem xl.mono{h:Heap}{A B:List Addr}{a:Addr}(k:∀a∈A,a∈B)(x:xl h A a):xl h B a:=by
 obtain⟨vs,h1,h2,h3⟩:=x;exact⟨vs,h1,λu hu=>(h2 u hu).mono k,h3⟩
theorem Zi{P:Params}{h:Heap}:∀{vs:List Value}{ds:List WData},WellAll P h vs ds->vs.length=ds.length
 |_,_,.nil=>rfl
 |_,_,.cons _ b=>by
  show _+1=_+1;rw[Zi b]
theorem QD{P:Params}{h:Heap}{v:Value}{ds:List WData}(x:Well P h v (.list ds)):∃(a:Addr)(vs:List Value),v=.ref a/\h.get? a=some {cls:=.type "list",data:=.seq vs.toArray}/\WellAll P h vs ds:=by
 cases x with
 |list ho hall=>exact⟨_,_,rfl,ho,hall⟩
theorem wA{P:Params}{h:Heap}{v:Value}{ds:List WData}(x:Well P h v (.tuple ds)):∃(a:Addr)(vs:List Value),v=.ref a/\h.get? a=some {cls:=.type "tuple",data:=.seq vs.toArray}/\WellAll P h vs ds:=by
 cases x with
 |tuple ho hall=>exact⟨_,_,rfl,ho,hall⟩
theorem PD{P:Params}{h:Heap}{us:List Value}{d:WData}{ds:List WData}(x:WellAll P h us (d::ds)):∃(v:Value)(vs:List Value),us=v::vs/\Well P h v d/\WellAll P h vs ds:=by
 cases x with
 |cons a b=>exact⟨_,_,rfl,a,b⟩
theorem UM{n:Nat}(h:n<=1048576):n<=sizeLine:=Nat.le_trans h (by decide)
section
variable{P:Params}{h:Heap}
mutual
theorem dQ:∀(d:WData)(v:Value),Well P h v d->iN d=true->d.weight<=1048576->∃A:List Addr,JN A v/\∀a∈A,xl h A a
 |.none,_,x,_,_=>by
  cases x;exact⟨[],trivial,λa m=>absurd m (by simp)⟩
 |.bool b,_,x,_,_=>by
  cases x;exact⟨[],trivial,λa m=>absurd m (by simp)⟩
 |.int i,_,x,_,_=>by
  cases x;exact⟨[],trivial,λa m=>absurd m (by simp)⟩
 |.str s,_,x,_,_=>by
  cases x;exact⟨[],trivial,λa m=>absurd m (by simp)⟩
 |.bytes b,_,x,_,_=>by
  cases x;exact⟨[],trivial,λa m=>absurd m (by simp)⟩
 |.list ds,_,x,p,z=>by
  obtain⟨a,vs,rfl,ho,hall⟩:=QD x;have z2:WData.weightAll ds<=1048576:=z;obtain⟨A,h1,h2⟩:=kr ds _ hall p λd hd=>Nat.le_trans (Zq hd) z2;have k:∀b∈A,b∈a::A:=λb hb=>List.mem_cons_of_mem _ hb;refine⟨a::A,List.mem_cons_self ..,λb hb=>?_⟩;rcases List.mem_cons.mp hb with e|m
  ·rw[e];exact⟨vs,UM (by rw[Zi hall];exact Nat.le_trans (PySem.W.length_le_weightAllW ds) z2),λu hu=>(h1 u hu).mono k,.inl ho⟩
  ·exact(h2 b m).mono k
 |.tuple ds,_,x,p,z=>by
  obtain⟨a,vs,rfl,ho,hall⟩:=wA x;have z2:WData.weightAll ds<=1048576:=z;obtain⟨A,h1,h2⟩:=kr ds _ hall p λd hd=>Nat.le_trans (Zq hd) z2;have k:∀b∈A,b∈a::A:=λb hb=>List.mem_cons_of_mem _ hb;refine⟨a::A,List.mem_cons_self ..,λb hb=>?_⟩;rcases List.mem_cons.mp hb with e|m
  ·rw[e];exact⟨vs,UM (by rw[Zi hall];exact Nat.le_trans (PySem.W.length_le_weightAllW ds) z2),λu hu=>(h1 u hu).mono k,.inr ho⟩
  ·exact(h2 b m).mono k
 |.float _,_,_,p,_=>Bool.noConfusion (show false=true from p)
 |.dict _,_,_,p,_=>Bool.noConfusion (show false=true from p)
 |.bytearray _,_,_,p,_=>Bool.noConfusion (show false=true from p)
 |.set _,_,_,p,_=>Bool.noConfusion (show false=true from p)
 |.frozenset _,_,_,p,_=>Bool.noConfusion (show false=true from p)
 |.obj _ _,_,_,p,_=>Bool.noConfusion (show false=true from p)
theorem kr:∀(ds:List WData)(vs:List Value),WellAll P h vs ds->Ew ds=true->(∀d∈ds,d.weight<=1048576)->∃A:List Addr,(∀u∈vs,JN A u)/\∀a∈A,xl h A a
 |[],_,x,_,_=>by
  cases x;exact⟨[],λu m=>absurd m (by simp),λa m=>absurd m (by simp)⟩
 |d::ds,_,x,p,z=>by
  obtain⟨v,vs,rfl,x1,x2⟩:=PD x;have q:iN d=true/\Ew ds=true:=Bool.and_eq_true_iff.mp p;obtain⟨A,a1,a2⟩:=dQ d v x1 q.1 (z d (List.mem_cons_self ..));obtain⟨B,b1,b2⟩:=kr ds vs x2 q.2 λe he=>z e (List.mem_cons_of_mem _ he);have kA:∀b∈A,b∈A++B:=λb hb=>List.mem_append.mpr (.inl hb);have kB:∀b∈B,b∈A++B:=λb hb=>List.mem_append.mpr (.inr hb);refine⟨A++B,λu hu=>?_,λb hb=>?_⟩
  ·rcases List.mem_cons.mp hu with e|m
   ·rw[e];exact a1.mono kA
   ·exact(b1 u m).mono kB
  ·rcases List.mem_append.mp hb with m|m
   ·exact(a2 b m).mono kA
   ·exact(b2 b m).mono kB
end
end
def vT(o:Obj):Option HO:=match o.data with
 |.seq vs _=>if(o.cls==Value.type "list")=true then some (.Lj o (.lst (vs.toList.map toV))) else some (.Lj o (.tup (vs.toList.map toV)))
 |_=>none
def fk(K:PySem.W.Frag)(h:Heap)(A:List Addr):Hp:=λb=>if b∈A then(if(K.lookup b).isNone=true then(h.get? b).bind vT else none) else none
def vG(H:Hp):Prop:=∀b,H b=none\/∃o u,H b=some (.Lj o u)
theorem iH(vs:List Value):vT {cls:=.type "list",data:=.seq vs.toArray}=some (.Lj {cls:=.type "list",data:=.seq vs.toArray} (.lst (vs.map toV))):=by
 show(if(Value.type "list"==Value.type "list")=true then some (HO.Lj {cls:=.type "list",data:=.seq vs.toArray} (.lst (vs.toArray.toList.map toV))) else some (HO.Lj {cls:=.type "list",data:=.seq vs.toArray} (.tup (vs.toArray.toList.map toV))))=_;rw[if_pos (beq_self_eq_true _)]
theorem jH(vs:List Value):vT {cls:=.type "tuple",data:=.seq vs.toArray}=some (.Lj {cls:=.type "tuple",data:=.seq vs.toArray} (.tup (vs.map toV))):=by
 show(if(Value.type "tuple"==Value.type "list")=true then some (HO.Lj {cls:=.type "tuple",data:=.seq vs.toArray} (.lst (vs.toArray.toList.map toV))) else some (HO.Lj {cls:=.type "tuple",data:=.seq vs.toArray} (.tup (vs.toArray.toList.map toV))))=_;rw[if_neg (by decide)]
section
variable{P:Program}{w:World}{K:PySem.W.Frag}{h:Heap}{A:List Addr}
theorem Sw{b:Addr}{o:Obj}(hb:b∈A)(hk:K.lookup b=none)(e:h.get? b=some o):fk K h A b=vT o:=by
 unfold fk;rw[if_pos hb,hk,if_pos (show(none:Option Obj).isNone=true from rfl),e]<;>rfl
theorem RT{b:Addr}{u:HO}(q:fk K h A b=some u):b∈A/\K.lookup b=none:=by
 unfold fk at q;by_cases hb:b∈A
 ·rw[if_pos hb] at q;cases hk:K.lookup b with
  |none=>exact⟨hb,rfl⟩
  |some o=>
   rw[hk,if_neg (by simp)] at q;cases q
 ·rw[if_neg hb] at q;cases q
theorem Tw(ar:∀a∈A,xl h A a){b:Addr}{u:HO}(q:fk K h A b=some u):K.lookup b=none/\∃vs:List Value,vs.length<=sizeLine/\(∀u∈vs,JN A u)/\((h.get? b=some {cls:=.type "list",data:=.seq vs.toArray}/\u=.Lj {cls:=.type "list",data:=.seq vs.toArray} (.lst (vs.map toV)))\/(h.get? b=some {cls:=.type "tuple",data:=.seq vs.toArray}/\u=.Lj {cls:=.type "tuple",data:=.seq vs.toArray} (.tup (vs.map toV)))):=by
 obtain⟨hb,hk⟩:=RT q;obtain⟨vs,h1,h2,h3⟩:=ar b hb;refine⟨hk,vs,h1,h2,?_⟩;rcases h3 with e|e
 ·rw[Sw hb hk e,iH] at q;exact .inl ⟨e,(Option.some.inj q).symm⟩
 ·rw[Sw hb hk e,jH] at q;exact .inr ⟨e,(Option.some.inj q).symm⟩
theorem KN(ar:∀a∈A,xl h A a):vG (fk K h A):=λb=>by
 cases q:fk K h A b with
 |none=>exact .inl rfl
 |some u=>
  obtain⟨_,vs,_,_,⟨_,e⟩|⟨_,e⟩⟩:=Tw ar q
  ·exact .inr ⟨_,_,by rw[e]⟩
  ·exact .inr ⟨_,_,by rw[e]⟩
theorem aT(ar:∀a∈A,xl h A a):Zj P w (fk K h A) h:=λb u q=>by
 obtain⟨_,vs,h1,h2,⟨e,rfl⟩|⟨e,rfl⟩⟩:=Tw ar q
 ·exact⟨e,by rw[List.length_map];exact h1,vs,_,Xj h2,e⟩
 ·exact⟨e,by rw[List.length_map];exact h1,vs,Xj h2,_,e,rfl,_,rfl⟩
theorem lx{c c':Value}{vs us:List Value}(e:(some {cls:=c,data:=.seq vs.toArray}:Option Obj)=some {cls:=c',data:=.seq us.toArray}):c=c'/\vs=us:=by
 have e1:=Option.some.inj e;have e2:c=c':=congrArg Obj.cls e1;have e3:Data.seq vs.toArray=Data.seq us.toArray:=congrArg Obj.data e1;injection e3 with e4;refine⟨e2,?_⟩;have e5:=congrArg Array.toList e4;simpa using e5
theorem QY(KX:K.In h)(ar:∀a∈A,xl h A a){a:Addr}{vs:List Value}(ha:a∈A)(e:h.get? a=some {cls:=.type "list",data:=.seq vs.toArray}):(∀u∈vs,JN A u)/\Ha K (fk K h A) a (vs.map toV):=by
 obtain⟨us,h1,h2,h3⟩:=ar a ha;have hu:us=vs:=by
  rcases h3 with q|q
  ·rw[e] at q;exact(lx q).2.symm
  ·rw[e] at q;exact absurd (Value.type.inj (lx q).1) (by decide)
 subst hu;refine⟨h2,?_⟩;cases hk:K.lookup a with
 |none=>exact .inl (.inr ⟨_,by rw[Sw ha hk e,iH]⟩)
 |some o=>
  have e2:=KX a o hk;rw[e] at e2;obtain rfl:=Option.some.inj e2;exact .inr ⟨_,us.toArray,_,hk,rfl,rfl,rfl,by rw[List.size_toArray];exact h1,by simpa using Xj h2⟩
theorem RY(KX:K.In h)(ar:∀a∈A,xl h A a){a:Addr}{vs:List Value}(ha:a∈A)(e:h.get? a=some {cls:=.type "tuple",data:=.seq vs.toArray}):(∀u∈vs,JN A u)/\mh K (fk K h A) a (vs.map toV):=by
 obtain⟨us,h1,h2,h3⟩:=ar a ha;have hu:us=vs:=by
  rcases h3 with q|q
  ·rw[e] at q;exact absurd (Value.type.inj (lx q).1) (by decide)
  ·rw[e] at q;exact(lx q).2.symm
 subst hu;refine⟨h2,?_⟩;cases hk:K.lookup a with
 |none=>exact .inl (.inr ⟨_,by rw[Sw ha hk e,jH]⟩)
 |some o=>
  have e2:=KX a o hk;rw[e] at e2;obtain rfl:=Option.some.inj e2;exact .inr ⟨_,us.toArray,_,hk,rfl,rfl,by rw[List.size_toArray];exact h1,by simpa using Xj h2⟩
mutual
theorem BV{Pm:Params}(KX:K.In h)(ar:∀a∈A,xl h A a):∀(d:WData)(v:Value),Well Pm h v d->iN d=true->JN A v->Dw K (fk K h A) (toV v) d
 |.none,_,x,_,_=>by
  cases x;exact .Vb
 |.bool b,_,x,_,_=>by
  cases x;exact .bl b
 |.int i,_,x,_,_=>by
  cases x;exact .int i
 |.str s,_,x,_,_=>by
  cases x;exact .str s
 |.bytes b,_,x,_,_=>by
  cases x;have z:=Dw.bE (K:=K) (H:=fk K h A) b.toArray;exact z
 |.list ds,_,x,p,hu=>by
  obtain⟨a,vs,rfl,ho,hall⟩:=QD x;obtain⟨h2,hs⟩:=QY KX ar hu ho;exact .lst hs (lE KX ar ds _ hall p h2)
 |.tuple ds,_,x,p,hu=>by
  obtain⟨a,vs,rfl,ho,hall⟩:=wA x;obtain⟨h2,hs⟩:=RY KX ar hu ho;exact .tup hs (lE KX ar ds _ hall p h2)
 |.float _,_,_,p,_=>Bool.noConfusion (show false=true from p)
 |.dict _,_,_,p,_=>Bool.noConfusion (show false=true from p)
 |.bytearray _,_,_,p,_=>Bool.noConfusion (show false=true from p)
 |.set _,_,_,p,_=>Bool.noConfusion (show false=true from p)
 |.frozenset _,_,_,p,_=>Bool.noConfusion (show false=true from p)
 |.obj _ _,_,_,p,_=>Bool.noConfusion (show false=true from p)
theorem lE{Pm:Params}(KX:K.In h)(ar:∀a∈A,xl h A a):∀(ds:List WData)(vs:List Value),WellAll Pm h vs ds->Ew ds=true->(∀u∈vs,JN A u)->yl K (fk K h A) (vs.map toV) ds
 |[],_,x,_,_=>by
  cases x;exact .nil
 |d::ds,_,x,p,hu=>by
  obtain⟨v,vs,rfl,x1,x2⟩:=PD x;have q:iN d=true/\Ew ds=true:=Bool.and_eq_true_iff.mp p;exact .cons (BV KX ar d v x1 q.1 (hu _ (List.mem_cons_self ..))) (lE KX ar ds vs x2 q.2 λu m=>hu u (List.mem_cons_of_mem _ m))
end
end
theorem yP{P:Program}{w:World}{K:PySem.W.Frag}{mg mb:Str->Option Value}{CX:tM}{k:Nat}{fa:Addr}{fd:FuncData}{ps:List Str}{sp:Sp}{s₁:Shared}{vals:List Value}{ds:List WData}{R:PySem.W.WRecords}{cl:Str->Option Addr}{d0:WData}(KX:K.In s₁.heap)(hns:s₁.heap.Ns mainGlobals mg)(hb:s₁.heap.Ns builtinsNs mb)(hbb:∀x:Str,x≠"__name__"->mb x=bootBuiltins x)(hlim:s₁.heap.NoLimit)(hg:s₁.gens=#[])(hwl:WellAll w.params s₁.heap vals ds)(hpl:Ew ds=true)(hwt:∀d∈ds,d.weight<=1048576)(hr:Ef k callerA)(F:∀base:Heap,K.In base->base.Ns mainGlobals mg->Ua P w K mg base CX k fa fd ps sp)(hbind:∀(s:Shared)(us:List Value),us.length=ps.length->BindsTo s fd ⟨us,[]⟩ (ps.zip us))(hlen:ds.length=ps.length)(hsp:∀(H:Hp)(xs:List V),vG H->yl K H xs ds->sp xs H (λv H'=>Dw K H' v d0) λ_ _ _=>False)(hCX:∀H e s',CX [] H s₁ (λ_ _ _=>False) e s'->False):codeAny (model P w) callerA (.call (.ref fa) ⟨vals,[]⟩) (λr s'=>∃u as,r=.ok (.ret u)/\ReadsW R cl s'.heap u d0 as/\OldK s₁.heap s'.heap/\s'.os=s₁.os/\AllBare s'.gens) s₁:=by
 obtain⟨A,ho,ar⟩:=kr ds vals hwl hpl hwt;have hO:vG (fk K s₁.heap A):=KN ar;have Kb:Zj P w (fk K s₁.heap A) s₁.heap:=aT ar;have hS:=lE KX ar ds vals hwl hpl ho;have hV:=Xj ho;have hK:∀b u,fk K s₁.heap A b=some u->K.lookup b=none:=λb u q=>(Tw ar q).1;have noA:∀{b:Addr}{o:Obj}{es:Array DictEntry}{ep:Nat},s₁.heap.get? b=some o->o.data=.dict es ep->fk K s₁.heap A b=none:=λ{b o es ep} e d=>by
  cases q:fk K s₁.heap A b with
  |none=>rfl
  |some u=>
   obtain⟨_,vs,_,_,⟨e2,_⟩|⟨e2,_⟩⟩:=Tw ar q
   ·rw[e2] at e;cases e;have d':Data.seq vs.toArray _=Data.dict es ep:=d;cases d'
   ·rw[e2] at e;cases e;have d':Data.seq vs.toArray _=Data.dict es ep:=d;cases d'
 generalize fk K s₁.heap A=H at hO Kb hS hK noA;have base_of:∀{b:Addr}{o:Obj},s₁.heap.get? b=some o->H b=none->(DE s₁.heap H).get? b=some o:=λe n=>WQ e n;have nsK:∀{b:Addr}{m:Str->Option Value},s₁.heap.Ns b m->(DE s₁.heap H).Ns b m:=λ{b m}⟨o,es,ep,e,d,r⟩=>⟨o,es,ep,base_of e (noA e d),d,r⟩;have nK:∀b o,K.lookup b=some o->H b=none:=λb o e=>by
  cases q:H b with
  |none=>rfl
  |some u=>
   rw[hK b u q] at e;cases e
 have hKb:K.In (DE s₁.heap H):=λb o e=>base_of (KX b o e) (nK b o e);have hM:Mod K mg (DE s₁.heap H):=⟨hKb,nsK hns,⟨mb,nsK hb,hbb⟩,let ⟨mc,h1,h2⟩:=hlim;⟨mc,nsK h1,h2⟩⟩;have e0:tG P w K mg (DE s₁.heap H) callerA [] s₁ H:=⟨rfl,hM,λb o e=>UT e,Nat.le_of_eq (jO _ _),trivial,λb hb=>absurd (show b∈([]:List Addr) from hb) (by simp),Kb,.of_eq hg⟩;have hl:vals.length=ps.length:=by rw[Zi hwl];exact hlen
 refine codeAny_mono ((F _ hKb (nsK hns)).run callerA [] s₁ H ⟨vals,[]⟩ vals (vals.map toV) _ _ hr e0 (hbind s₁ vals hl) hV (hsp H _ hO hS)) λr s' x=>?_;cases r with
 |error e=>exact(hCX H e s' x).elim
 |ok fl=>
  cases fl with
  |next=>exact False.elim x
  |brk=>exact False.elim x
  |cont=>exact False.elim x
  |ret u=>
   obtain⟨v,H',os,bare,un,hok',r',q⟩:=x;have kept:∀b o,s₁.heap.get? b=some o->s'.heap.get? b=some o:=λb o e=>by
    cases q2:H b with
    |none=>exact un.keep b o e q2 (by intro z;exact absurd (show b∈([]:List Addr) from z) (by simp)) (by simp)
    |some u2=>
     rcases hO b with z|⟨ob,u3,z⟩
     ·rw[q2] at z;cases z
     ·have z2:=un.mw b ob _ z;obtain⟨e1,_⟩:=Kb b _ z;obtain⟨e2,_⟩:=hok' b _ z2;rw[e] at e1;cases e1;exact e2
   have KX':K.In s'.heap:=λb o e=>kept b o (KX b o e);obtain⟨as,hrd⟩:=Dw.reads (R:=R) (cl:=cl) hok' KX' d0 v u q r';exact⟨u,as,rfl,hrd,OldK.of_keep kept,os,bare⟩
theorem bz{ds:List WData}(h:WData.layableAll ds=true):∀d∈ds,d.weight<=1048576:=λd hd=>
 (PySem.W.layableW_iff.mp (List.all_eq_true.mp h d hd)).2.2
theorem ly:∀(cs:List Codec)(a:Codec.denoteAll cs),(Codec.encAll cs a).length=cs.length
 |[],_=>rfl
 |c::cs,a=>by
  show(Codec.encAll cs a.2).length+1=cs.length+1;rw[ly cs a.2]
theorem LP{r:OpenSpec}{k:Nat}{q:Program}{loose:List Str}{XP:(Str->Option Value)->Heap->Prop}{YP:World->Heap->Prop}{d:DefRec}{K:Params->PySem.W.Frag}{CX:World->tM}{ps:List Str}{sp:World->Sp}(hwell:r.wellSaid=true)(hdf:d.params.defaults=[])(hlen:r.args.length=ps.length)(hr:Ef k callerA)(hY:∀(w:World)(h:Heap),YP w h->(K w.params).In h)(F:∀(w:World)(mg:Str->Option Value)(fa:Addr)(h:Heap),YP w h->(K w.params).In h->h.Ns mainGlobals mg->mg d.name=some (.ref fa)->∃fd:FuncData,(∀(s:Shared)(us:List Value),us.length=ps.length->BindsTo s fd ⟨us,[]⟩ (ps.zip us))/\∀base:Heap,(K w.params).In base->base.Ns mainGlobals mg->Ua r.prog w (K w.params) mg base (CX w) k fa fd ps (sp w))(hsp:∀(w:World)(H:Hp)(xs:List V)(a:Codec.denoteAll r.args),vG H->Codec.withinAll r.args a=true->Codec.app r.args r.asked a=true->yl (K w.params) H xs (Codec.encAll r.args a)->sp w xs H (λv H'=>Dw (K w.params) H' v (r.ret.enc (Codec.app r.args r.f a))) λ_ _ _=>False)(hCX:∀(w:World)(H:Hp)(s:Shared)(e:Value)(s':Shared),CX w [] H s (λ_ _ _=>False) e s'->False):PySem.W.WalkOS q loose XP YP r d [] (λf vs=>PySem.call f vs):=by
 intro w wD s₁ mg mb G Y fa o pm cd doc dV kV ho hd hcd hD hmg hg args vals as hpre hlay hrd hwl hlo;obtain⟨a,e1,e2⟩:=PySem.W.os_pre_some hpre;obtain⟨e3,hwi⟩:=Codec.encAll_of_decAll r.args args a e1;subst e3;have KX:=hY w _ Y;obtain⟨fd,hb,hF⟩:=F w mg fa _ Y KX G.T.g hmg;refine PySem.W.enter_call (codeAny_mono (yP (R:=[]) (cl:=classAt wD.heap) (d0:=r.ret.enc (Codec.app r.args r.f a)) KX G.T.g G.T.b G.T.builtins G.T.nolimit hg hwl (sD _ _) (bz hlay) hr hF hb (by rw[ly];exact hlen)
  (λH xs hO hS=>hsp w H xs a hO hwi e2 hS) λH e s'=>hCX w H s₁ e s') λr' s' hq=>?_)
 obtain⟨u,as',rfl,h1,h2,h3,h4⟩:=hq;exact⟨.inl ⟨u,_,as',rfl,λ_=>rfl,h1,(OpenSpec.post_iff hwell hwi _ _).mpr rfl,λz=>Bool.noConfusion (show false=true from z)⟩,h2,h3,h4⟩
theorem nM{r:OpenSpec}{k:Nat}{q:Program}{loose:List Str}{XP:(Str->Option Value)->Heap->Prop}{YP:World->Heap->Prop}{d:DefRec}{K:Params->PySem.W.Frag}{CX:tM}{ps:List Str}{sp:PySem.W.Frag->Sp}(hwell:r.wellSaid=true)(hdf:d.params.defaults=[])(hlen:r.args.length=ps.length)(hr:Ef k callerA)(hY:∀(w:World)(h:Heap),YP w h->(K w.params).In h)(F:∀(w:World)(mg:Str->Option Value)(fa:Addr)(h:Heap),YP w h->(K w.params).In h->h.Ns mainGlobals mg->mg d.name=some (.ref fa)->∃fd:FuncData,(∀(s:Shared)(us:List Value),us.length=ps.length->BindsTo s fd ⟨us,[]⟩ (ps.zip us))/\∀base:Heap,(K w.params).In base->base.Ns mainGlobals mg->Ua r.prog w (K w.params) mg base CX k fa fd ps (sp (K w.params)))(hsp:∀(K:PySem.W.Frag)(H:Hp)(xs:List V)(a:Codec.denoteAll r.args),vG H->Codec.withinAll r.args a=true->Codec.app r.args r.asked a=true->yl K H xs (Codec.encAll r.args a)->sp K xs H (λv H'=>Dw K H' v (r.ret.enc (Codec.app r.args r.f a))) λ_ _ _=>False)(hCX:∀(H:Hp)(s:Shared)(e:Value)(s':Shared),CX [] H s (λ_ _ _=>False) e s'->False):PySem.W.WalkOS q loose XP YP r d [] (λf vs=>PySem.call f vs):=
 LP (K:=K) (CX:=λ_=>CX) (sp:=λw=>sp (K w.params)) hwell hdf hlen hr hY F (λw H xs a h1 h2 h3 h4=>hsp (K w.params) H xs a h1 h2 h3 h4) λ_ H s e s'=>hCX H s e s'
end L2
end
end
set_option tactic.hygienic false
section
namespace L2
open PySem PySem.Spec PyProof.Rows
section
variable{X:Cx}
theorem Ka{x:Str}{n:Int}{pos:Pos}(hg:Gl X x)(h:∃t,X.mg x=some (.int n t))(hd:(x==("__debug__":Str))=false:=by decide):PE X (.Name x pos) (tC (.int n)):=by
 obtain⟨t,h⟩:=h;exact vF hg h ⟨t,rfl⟩ hd
theorem mD{x z:Str}{pos:Pos}(hg:Gl X x)(h:∃t,X.mg x=some (.str z t))(hd:(x==("__debug__":Str))=false:=by decide):PE X (.Name x pos) (tC (.str z)):=by
 obtain⟨t,h⟩:=h;exact vF hg h ⟨t,rfl⟩ hd
theorem WH{x:Str}{a:Addr}{pos:Pos}(hg:Gl X x)(h:X.mg x=some (.ref a))(hd:(x==("__debug__":Str))=false:=by decide):PE X (.Name x pos) (tC (.ref a)):=vF hg h rfl hd
section
variable{o e value:Expr}{f:Str}{pos pos' tpos:Pos}{ta tv:TE}{C:Addr}{O:Type}{fs:O->List (Str×V)}{get:O->V}{put:V->O->O}
def tF{O:Type}(C:Addr)(fs:O->List (Str×V))(get:O->V)(ta:TE):TE:=λσ H Q=>ta σ H λx H1=>∃a dx o,x=.ref a/\H1 a=some (.ins C dx (fs o))/\Q (get o) H1
theorem fZ(c:AA X.K C)(n:jb X.K C f)(l:∀o,(fs o).lookup f=some (get o))(he:PE X e ta)(hb:attributeBase e f X.env (eval e X.env)=eval e X.env):PE X (.Attribute e f pos) (tF C fs get ta):=by
 intro pins s σ H Q I h;refine bT hb (yc (he pins s σ H _ I h) λu s1⟨x,H1,I1,rx,a,dx,o,ex,ea,q⟩=>?_);subst ex;obtain rfl:u=Value.ref a:=rx;exact Ly I1 ea c n (l o) λu' s2 I2 ru=>⟨get o,H1,I2,ru,q⟩
def sF{O:Type}(C:Addr)(fs:O->List (Str×V))(put:V->O->O)(ta tv:TE):TS:=λD σ H=>tv σ H λy H1=>ta σ H1 λx H2=>∃a dx o,x=.ref a/\H2 a=some (.ins C dx (fs o))/\D.nx σ (upd H2 a (.ins C dx (fs (put y o))))
theorem Ih(c:AA X.K C)(n:jb X.K C f)(w:∀o,(fs o).length<1000)(p:∀v o,Dd f v (fs o)=fs (put v o))(ha:PE X o ta)(hv:PE X value tv)(hs:swapsWith value (some (.Attribute o f pos')) pos.line X.env=pure false):PS X (.Assign [.Attribute o f pos'] value pos) (sF C fs put ta tv):=by
 intro pins s σ H D I h;refine plainObj_wpAny_Assign_Attribute (yc (hv pins s σ H _ I h) λu s1⟨y,H1,I1,ry,q⟩=>yc (ha pins s1 σ H1 _ I1 q) λov s2⟨x,H2,I2,rx,a,dx,o,ex,ea,q2⟩=>?_) hs;subst ex;obtain rfl:ov=Value.ref a:=rx;rw[<-p] at q2;exact Vq I2 ea c n (w o) ry λs3 I3=>⟨σ,_,I3,q2⟩
def Dn{O:Type}(C:Addr)(fs:O->List (Str×V))(get:O->V)(put:V->O->O)(ta tv:TE):TS:=λD σ H=>ta σ H λx H1=>∃a dx o,x=.ref a/\H1 a=some (.ins C dx (fs o))/\
 tv σ H1 λy H2=>∃i j,get o=.int i/\y=.int j/\H2 a=some (.ins C dx (fs o))/\D.nx σ (upd H2 a (.ins C dx (fs (put (.int (i+j)) o))))
theorem TR(c:AA X.K C)(n:jb X.K C f)(l:∀o,(fs o).lookup f=some (get o))(w:∀o,(fs o).length<1000)(p:∀v o,Dd f v (fs o)=fs (put v o))(ha:PE X o ta)(hv:PE X value tv):PS X (.AugAssign (.Attribute o f tpos) .Add value pos) (Dn C fs get put ta tv):=by
 intro pins s σ H D I h;refine wpAny_AugAssign_AttributeAny (yc (ha pins s σ H _ I h) λov s1⟨x,H1,I1,rx,a,dx,o,ex,ea,q⟩=>?_);subst ex;obtain rfl:ov=Value.ref a:=rx;refine Ly I1 ea c n (l o) λu s2 I2 ru=>yc (hv pins s2 σ H1 _ I2 q) λw3 s3⟨y,H2,I3,ry,i,j,ei,ej,ea2,q3⟩=>?_;subst ej;rw[ei] at ru;rw[<-p] at q3;exact yc (OV (X:=X) pins s3 σ H2 (.int i) (.int j) u w3 (λv H'=>v=.int (i+j)/\H'=H2) I3 ru ry ⟨i,j,rfl,rfl,rfl,rfl⟩) λw4 s4⟨z,H3,I4,rz,ez,eH⟩=>by
  subst ez eH;exact Vq I4 ea2 c n (w o) rz λs5 I5=>⟨σ,_,I5,q3⟩
end
def Cb(N:List Str)(sc scope:Scope)(own:List (Str×Nat)):Bool:=
 (scope.kind==.function)&&(scope.names.all λy=>scope.names.lookup y.1==some y.2)&&(own.all λp=>N[p.2]?==some p.1)&&
 (scope.names.all λy=>!(y.2==.free)||(sc.names.lookup y.1==some .cell||sc.names.lookup y.1==some .free))&&
 (scope.names.all λy=>!(y.2==.local||y.2==.cell)||((own.map (·.1)).contains y.1||!(N.contains y.1)))
theorem bc{N:List Str}{sc scope:Scope}{own:List (Str×Nat)}(h:Cb N sc scope own=true):sG N sc scope own:=by
 unfold Cb at h;simp only[Bool.and_eq_true,List.all_eq_true,Bool.or_eq_true,Bool.not_eq_true',beq_iff_eq,List.contains_iff_mem] at h;obtain⟨⟨⟨⟨h1,h2⟩,h3⟩,h4⟩,h5⟩:=h;refine⟨h1,h2,h3,λy hy e=>?_,λy hy e=>?_⟩
 ·rcases h4 y hy with z|z
  ·rw[e] at z;exact absurd z (by decide)
  ·exact z
 ·rcases h5 y hy with z|z|z
  ·rcases e with e|e<;>(rw[e] at z;exact absurd z (by decide))
  ·exact .inl z
  ·refine .inr λm=>?_;have:=List.contains_iff_mem.mpr m;rw[this] at z;cases z
end
theorem Le{CX:tM}{P:Program}{w:World}{K:PySem.W.Frag}{mg:Str->Option Value}{base:Heap}{N:List Str}{qual:Str}{scope:Scope}{f:Addr}{cd:Value}{A:Around}{outer:List Env}{s:Shared}{H:Hp}{E:XK}:(jE CX P w K mg base N qual scope f cd A outer s H E).K=K:=rfl
theorem xb{i j:Int}:qS (.int i) (.int j)=true:=rfl
theorem yb{i j:Str}:qS (.str i) (.str j)=true:=rfl
theorem wb{i j:Bool}:qS (.bl i) (.bl j)=true:=rfl
def ab(d:Addr)(H H':Hp):Prop:=∀b o,b≠d->H b=some o->H' b=some o
theorem ab.trans{d:Addr}{H H1 H2:Hp}(a:ab d H H1)(b:ab d H1 H2):ab d H H2:=λc o n h=>b c o n (a c o n h)
theorem Aa.x{H H':Hp}(a:Aa H H')(d:Addr):ab d H H':=λc o _ h=>a c o h
theorem bb{H:Hp}{d:Addr}{o:HO}:ab d H (upd H d o):=λc u n h=>by rw[ua n];exact h
theorem qa{H:Hp}{d:Addr}{o:HO}(h:H d=none):Aa H (upd H d o):=λc u e=>by rw[ua (ka e h)];exact e
theorem ab.same{d:Addr}{H H':Hp}(a:ab d H H')(h:H d=none):Aa H H':=λc o e=>a c o (ka e h) e
def jg(J:It)(H:Hp)(xs:List V):Prop:=∀(i:Nat)(H1:Hp),Aa H H1->(i<xs.length->J.go i H1/\∀x H2,J.rM i H1 x H2->H2=H1/\xs[i]?=some x)/\(xs.length<=i->J.stop i H1)
theorem qb{K:PySem.W.Frag}{H:Hp}{a:Addr}{xs:List V}(h:Ha K H a xs):jg (XS K a) H xs:=λi H1 e=>
 ⟨λhi=>⟨⟨xs,xs[i],e.seq h,List.getElem?_eq_getElem hi⟩,λ_ _ y=>⟨y.1,y.2 xs (e.seq h)⟩⟩,λhi=>⟨xs,e.seq h,hi⟩⟩
theorem xu{H:Hp}(z:Str):jg (oY z) H (z.cps.toList.map λc=>V.str ⟨#[c]⟩):=λi H1 _=>
 ⟨λhi=>⟨(show i<z.cps.size by simpa using hi),λx H2 y=>by
  obtain⟨e,c,hc,rfl⟩:=y;refine⟨e,?_⟩;rw[List.getElem?_map,Array.getElem?_toList,hc];rfl⟩,λhi=>(show z.cps.size<=i by simpa using hi)⟩
theorem oM{H:Hp}{d:Addr}{o:Obj}{kvs:List (Key×V)}(h:H d=some (.Lj o (.dK kvs))):jg (GY d o kvs) H (kvs.map λp=>kV p.1):=λi H1 e=>
 ⟨λhi=>⟨⟨e _ _ h,by simpa using hi⟩,λx H2 y=>by
  obtain⟨e,k,v,hk,rfl⟩:=y;exact⟨e,by rw[List.getElem?_map,hk];rfl⟩⟩,λhi=>⟨e _ _ h,by simpa using hi⟩⟩
theorem Yi{lo:Int}{n:Nat}{H:Hp}:jg (lX lo n) H ((List.range n).map λ(k:Nat)=>V.int (lo+(k:Int))):=λi H1 _=>
 ⟨λhi=>⟨(show i<n by simpa using hi),λx H2 y=>by
  obtain⟨e1,e2⟩:=y;have hi:i<n:=by simpa using hi
  refine⟨e1,?_⟩;rw[List.getElem?_map,List.getElem?_range hi,e2];rfl⟩,λhi=>(show n<=i by simpa using hi)⟩
def YW(J:It)(i:Nat)(tt:TT)(te:TE)(σ:St)(H:Hp)(Q:VK):Prop:=∀D,H D=none->∃W:Nat->Nat->Hp->Prop,(∃m,W 0 m (upd H D (.lst [])))/\∀k m H1,W k m H1->
 (J.stop k H1/\Q (.ref D) H1)\/(J.go k H1/\∃Nx:Hp->Prop,(∀H',Nx H'->∃m',m'<m/\W (k+1) m' H')/\∀x H',J.rM k H1 x H'->Mb i x (wipe σ [i]) H' λσ2 H2=>wipe σ2 [i]=wipe σ [i]/\tt σ2 H2 λb H3=>
  if b=true then te σ2 H3 λy H4=>∃acc,H4 D=some (.lst acc)/\acc.length<sizeLine/\Nx (upd H4 D (.lst (acc++[y]))) else Nx H3)
theorem Pb{wi:TI}{i:Nat}{tt:TT}{te:TE}{σ:St}{H:Hp}{Q:VK}:iX wi (Mb i) tt te [i] σ H Q=wi σ H (λJ H1=>YW J i tt te σ H1 Q):=rfl
theorem TM{J:It}{xs:List V}{i:Nat}{tt:TT}{te:TE}{σ:St}{H:Hp}{Q:VK}(g:Nat->V->Option V->Hp->Prop)(hJ:jg J H xs)(hz:xs.length<=sizeLine)(mono:∀j x y D acc H1 H2,g j x y H1->H1 D=some (.lst acc)->H D=none->ab D H1 H2->g j x y H2)(step:∀(j:Nat)(x:V)(H1:Hp)(R:Option V->Hp->Prop),xs[j]?=some x->Aa H H1->(∀y H2,g j x y H2->Aa H1 H2->R y H2)->tt ((wipe σ [i]).set i (some x)) H1 λb H3=>if b=true then te ((wipe σ [i]).set i (some x)) H3 λy H4=>R (some y) H4 else R none H3)(fin:∀(D:Addr)(ys:List (Option V))(H1:Hp),H D=none->H1 D=some (.lst (ys.filterMap id))->Aa H H1->ys.length=xs.length->(∀j x,xs[j]?=some x->∃y,ys[j]?=some y/\g j x y H1)->Q (.ref D) H1):YW J i tt te σ H Q:=by
 intro D hD;let Wd:Nat->Hp->Prop:=λk H1=>∃ys:List (Option V),H1 D=some (.lst (ys.filterMap id))/\ab D H H1/\ys.length=k/\∀j x,j<k->xs[j]?=some x->∃y,ys[j]?=some y/\g j x y H1;refine⟨λk m H1=>m=xs.length-k/\k<=xs.length/\Wd k H1,⟨xs.length,rfl,Nat.zero_le _,[],ia,bb,rfl,λj x hj=>absurd hj (Nat.not_lt_zero _)⟩,?_⟩;rintro k m H1 ⟨rfl,hk,ys,hd,hs,hl,hy⟩;have hS:Aa H H1:=hs.same hD;by_cases hlt:k<xs.length
 ·obtain⟨go,rM⟩:=(hJ k H1 hS).1 hlt;refine .inr ⟨go,Wd (k+1),λH' w=>⟨xs.length-(k+1),by lia,rfl,hlt,w⟩,λx H' y=>?_⟩;obtain⟨e,hx⟩:=rM x H' y;subst e;refine⟨?_,?_⟩
  ·show(((σ.set i none).set i (some x)).set i none)=σ.set i none;rw[List.set_set,List.set_set]
  ·refine step k x H' (λy H4=>match y with
    |some y=>∃acc,H4 D=some (.lst acc)/\acc.length<sizeLine/\Wd (k+1) (upd H4 D (.lst (acc++[y])))
    |none=>Wd (k+1) H4) hx hS λy H2 hg h2=>?_
   have hd2:=h2 _ _ hd;cases y with
   |none=>
    refine⟨ys++[none],by rw[List.filterMap_append];simpa using hd2,hs.trans (h2.x D),by simp[hl],λj z hj hz'=>?_⟩;by_cases hjk:j<k
    ·obtain⟨y,h1,h2'⟩:=hy j z hjk hz';exact⟨y,by rw[List.getElem?_append_left (by lia)];exact h1,mono j z y D _ H' H2 h2' hd hD (h2.x D)⟩
    ·have e:j=k:=by lia
     subst e;rw[hx] at hz';cases hz';exact⟨none,by rw[List.getElem?_append_right (by lia),hl,Nat.sub_self];rfl,hg⟩
   |some v=>
    have hlen:(ys.filterMap id).length<=ys.length:=List.length_filterMap_le ..
    refine⟨_,hd2,by lia,ys++[some v],by rw[ia,List.filterMap_append];simp,(hs.trans (h2.x D)).trans bb,by simp[hl],λj z hj hz'=>?_⟩;by_cases hjk:j<k
    ·obtain⟨y,h1,h2'⟩:=hy j z hjk hz';exact⟨y,by rw[List.getElem?_append_left (by lia)];exact h1,mono j z y D _ H' _ h2' hd hD ((h2.x D).trans bb)⟩
    ·have e:j=k:=by lia
     subst e;rw[hx] at hz';cases hz';exact⟨some v,by rw[List.getElem?_append_right (by lia),hl,Nat.sub_self];rfl,mono j x _ D _ H2 _ hg hd2 hD bb⟩
 ·have e:k=xs.length:=by lia
  subst e;exact .inl ⟨(hJ _ H1 hS).2 (Nat.le_refl _),fin D ys H1 hD hd hS hl λj x hx=>hy j x (List.getElem?_eq_some_iff.mp hx).1 hx⟩
theorem Nr{F:V->Option V}:∀{xs:List V}{ys:List (Option V)},ys.length=xs.length->(∀(j:Nat)(x:V),xs[j]?=some x->∃y,ys[j]?=some y/\y=F x)->ys.filterMap id=xs.filterMap F
 |[],[],_,_=>rfl
 |[],_::_,h,_=>by simp at h
 |_::_,[],h,_=>by simp at h
 |x::xs,y::ys,h,hy=>by
  obtain⟨z,hz,e⟩:=hy 0 x rfl;have hz:y=z:=Option.some.inj hz;subst hz;have ih:=Nr (F:=F) (xs:=xs) (ys:=ys) (by simpa using h) λj x' hx=>hy (j+1) x' hx;rw[List.filterMap_cons,List.filterMap_cons,ih,e];rfl
theorem Fh{J:It}{xs:List V}{i:Nat}{tt:TT}{te:TE}{σ:St}{H:Hp}{Q:VK}(F:V->Option V)(hJ:jg J H xs)(hz:xs.length<=sizeLine)(step:∀(j:Nat)(x:V)(H1:Hp)(R:Option V->Hp->Prop),xs[j]?=some x->Aa H H1->(∀H2,Aa H1 H2->R (F x) H2)->tt ((wipe σ [i]).set i (some x)) H1 λb H3=>if b=true then te ((wipe σ [i]).set i (some x)) H3 λy H4=>R (some y) H4 else R none H3)(fin:∀D H1,H D=none->H1 D=some (.lst (xs.filterMap F))->Aa H H1->Q (.ref D) H1):YW J i tt te σ H Q:=
 TM (λ_ x y _=>y=F x) hJ hz (λ_ _ _ _ _ _ _ h _ _ _=>h) (λj x H1 R hx hs k=>step j x H1 R hx hs λH2 h2=>k _ H2 rfl h2)
  λD ys H1 h1 h2 h3 h4 h5=>fin D H1 h1 (by rw[h2,Nr h4 h5]) h3
end L2
end
section
namespace KkSet
open PySem PySem.Spec PyProof.Rows
theorem VN(l:List Str)(x:Str):(l++[x]).eraseDups.length=if l.contains x=true then l.eraseDups.length else l.eraseDups.length+1:=by
 rw[List.eraseDups_append,List.length_append];by_cases h:l.contains x=true
 ·rw[if_pos h];have e:[x].removeAll l=[]:=by simpa[List.removeAll] using h
  rw[e];rfl
 ·rw[if_neg h];have e:[x].removeAll l=[x]:=by simpa[List.removeAll] using h
  rw[e];rfl
theorem CM(l:List Str):l.eraseDups.length<=l.length:=by
 have key:∀(n:Nat)(m:List Str),m.length<=n->m.eraseDups.length<=m.length:=by
  intro n;induction n with
  |zero=>
   intro m hm;have:m=[]:=List.length_eq_zero_iff.mp (by lia);subst this;exact Nat.le_refl _
  |succ n ih=>
   intro m hm;cases m with
   |nil=>exact Nat.le_refl _
   |cons y m=>
    rw[List.eraseDups_cons,List.length_cons,List.length_cons];have h1:=List.length_filter_le (λb=>!b==y) m;have h2:=ih (m.filter λb=>!b==y) (by rw[List.length_cons] at hm;lia);lia
 exact key _ l (Nat.le_refl _)
abbrev Holds(p:Program)(w:World)(h:Heap)(z:Addr)(l:List Str):Prop:=h.SetOf (strKind p w) z (λy=>l.contains y) l.eraseDups.length
theorem str_is{p:Program}{w:World}(x:Str)(t:Tok):(strKind p w).is x (.str x t)=true:=by
 show Value.isStrOf x (.str x t)=true;first|exact beq_self_eq_true x|simp[Value.isStrOf]
theorem AL{p:Program}{w:World}{h:Heap}{z:Addr}{l:List Str}{x:Str}(H:h.SetOf (strKind p w) z (λy=>l.contains y||decide (y=x)) (if l.contains x=true then l.eraseDups.length else l.eraseDups.length+1)):Holds p w h z (l++[x]):=by
 refine SetOf_congr H (λy=>?_) (VN l x).symm;rw[Bool.eq_iff_iff];simp[List.contains_iff_mem]
theorem Vy{p:Program}{w:World}{h h2:Heap}{z:Addr}{l:List Str}(H:Holds p w h z l)(k:∀o,h.get? z=some o->h2.get? z=some o):Holds p w h2 z l:=by
 obtain⟨o,rest⟩:=H;obtain⟨es,ep,tb,ho,more⟩:=rest;exact⟨o,es,ep,tb,k _ ho,more⟩
section
variable{p:Program}{w:World}{A:Around}{I:Addr}{fp wr:List Addr}{G:Array GenState->Array GenState->Prop}{n:Nat}{P:Nat->Value->Prop}{St:Nat->Shared->Prop}
theorem oK{R:Result->Shared->Prop}(Wk:WalksS p w A.in1 I fp wr G n P St)(z:Addr)(nz:z∉fp)(ts:List Str)(hts:ts.length=n)(hv:∀i v x,P i v->ts[i]?=some x->∃t,v=.str x t)(small:n+1<scanBound):∀(k i:Nat)(s:Shared),n-i=k->i<=n->St i s->Holds p w s.heap z (ts.take i)->(∀s2,Moved (z::wr) G s s2->Holds p w s2.heap z ts->R (.ok (.ret .none)) s2)->codeAny (model p w) A (.builtin "set.update.loop" ⟨[.ref z,.ref I],[]⟩) R s:=by
 have nw:z∉wr:=λh=>nz (Wk.sub _ h);have up:∀b∈wr,b∈z::wr:=λb hb=>List.mem_cons_of_mem _ hb;intro k;induction k with
 |zero=>
  intro i s hk hi st H fin;obtain rfl:i=n:=by lia
  refine codeAny_builtin PyProof.Rows.F.entry_set_update_loop ?_;rw[Around.under_plainId PyProof.Rows.F.plain_set_update_loop _];refine wpAny_bind (Wk.done s _ _ st λs2 mv=>?_);rw[<-hts,List.take_length] at H;exact wpAny_pure (fin s2 (mv.mono up) (Vy H λo ho=>mv.heap z _ nw ho))
 |succ k ih=>
  intro i s hk hi st H fin;have lt:i<n:=by lia
  obtain⟨x,hx⟩:∃x,ts[i]?=some x:=⟨_,List.getElem?_eq_getElem (by lia)⟩;refine codeAny_builtin PyProof.Rows.F.entry_set_update_loop ?_;rw[Around.under_plainId PyProof.Rows.F.plain_set_update_loop _];refine wpAny_bind (Wk.item i s _ _ lt st λv s2 hP st2 mv=>?_);obtain⟨t,rfl⟩:=hv i v x hP hx;have H2:Holds p w s2.heap z (ts.take i):=Vy H λo ho=>mv.heap z _ nw ho;refine wpAny_bind (wpAny_holding ?_);unfold setAdd;refine wpAny_holding (wpAny_bind ((strKind p w).pyHash (k:=x) (str_is x t) ?_));have XY:=CM (ts.take i);rw[List.length_take] at XY;refine wpAny_setAddHashed_of (knd:=strKind p w) (s:={s2 with toks:=s2.toks+1}) (str_is x t) rfl H2 (by lia) λh3 sb H3=>?_;have e:ts.take (i+1)=ts.take i++[x]:=by
   rw[List.take_add_one,hx];rfl
  have H4:Holds p w h3 z (ts.take (i+1)):=by rw[e];exact AL H3
  refine wpAny_pure ⟨plainId_quiet PyProof.Rows.F.plain_set_update_loop _,ih (i+1) _ (by lia) lt (Wk.frame _ s2 _ _ st2 (Nat.le_succ _) λb hb o eo=>?_) H4 λs5 mv5 H5=>?_⟩
  ·exact(sb.2 b (λq:b=z=>nz (by rw[<-q];exact hb))).trans eo
  ·refine fin s5 (Moved.trans Wk.gtrans ((mv.mono up).then_heap (Nat.le_succ _) λb o hb eo=>?_) mv5) H5;exact(sb.2 b (λq:b=z=>hb (by rw[q];exact List.mem_cons_self))).trans eo
end
section
variable{p:Program}{w:World}{A:Around}{E:Value->Shared->Prop}{s:Shared}
abbrev bare(led:Bool):Obj:={cls:=.type "set",dict:=none,data:=.set #[] 0 (.fresh 0 0 led)}
theorem kJ:∀{vs:List Value}{ys:List Str},StrsAre vs ys->∀(i:Nat)(v:Value)(x:Str),vs[i]?=some v->ys[i]?=some x->∃t,v=.str x t
 |_,_,.nil,i,v,x,h,_=>by simp at h
 |_,_,.cons y t r,0,v,x,h,g=>by
  have h:Value.str y t=v:=Option.some.inj h;have g:y=x:=Option.some.inj g;subst h g;exact⟨t,rfl⟩
 |_,_,.cons y t r,i+1,v,x,h,g=>kJ r i v x h g
theorem tu:∀{vs:List Value}{ys:List Str},StrsAre vs ys->ys.length=vs.length
 |_,_,.nil=>rfl
 |_,_,.cons _ _ r=>by rw[List.length_cons,List.length_cons,tu r]
set_option maxHeartbeats 4000000 in
theorem UA{l:Addr}{its:Array Value}{ts:List Str}{Q:Value->Shared->Prop}(calm:A.handled=none)(hl:s.heap.IsList l its)(hi:StrsAre its.toList ts)(small:its.size+1<scanBound)(fin:∀(h2:Heap)(tk:Nat),Holds p w h2 s.heap.objs.size ts->(∀b o,b<s.heap.objs.size->s.heap.get? b=some o->h2.get? b=some o)->Q (.ref s.heap.objs.size) {s with heap:=h2,toks:=tk}):wpAny (model p w) A (call (.type "set") [.ref l]) Q E s:=by
 obtain⟨mc,mt,mro⟩:=PySem.F.called_set.mro;have a1:=PySem.F.called_set.made;have a2:=PySem.F.called_set.sub;have a3:=PySem.F.called_set.notType;have a4:=PySem.F.called_set.canCreate;have a5:=PySem.F.typeCall_set_1 (.ref l);refine wpAny_call (codeAny_of_tree ?_);show wpAny _ _ (callAny (.type "set") _) _ _ _;refine wpAny_pure ⟨Code.quiet_builtin _ (by decide +kernel),codeAny_builtin PySem.F.entry_type_call ?_⟩;rw[Around.under_plain (weight_type_call_type "set" [.ref l] []) rfl];repeat (any_goals (first|assumption|wp_step))
 refine codeAny_mono (code_set_new_1 (.ref l) (E:=E) (Q₁:=λv s2=>∃led:Bool,v=.ref s.heap.objs.size/\s2={s with heap:=s.heap.push (bare led)}) λled=>⟨led,rfl,rfl⟩) λr s2 hr=>?_;cases r with
 |error x=>exact hr
 |ok fl=>
  cases fl with
  |ret v=>
   obtain⟨led,rfl,rfl⟩:=hr;have there:(s.heap.push (bare led)).get? s.heap.objs.size=some (bare led):=Heap.get?_push_size _ rfl;have ty:Shared.TypeIs {s with heap:=s.heap.push (bare led)} (.ref s.heap.objs.size) "set":=⟨_,there,rfl⟩;have b1:=PySem.F.called_set.init.lookup;have b2:=PySem.F.called_set.init.bind (.ref s.heap.objs.size);repeat (any_goals (first|assumption|wp_step))
   refine codeAny_mono (codeAny_call_builtin (R:=wants (λv s3=>v=.none/\∃h2 tk,s3={s with heap:=h2,toks:=tk}/\Holds p w h2 s.heap.objs.size ts/\
     (∀b o,b<s.heap.objs.size->s.heap.get? b=some o->h2.get? b=some o)) E) PySem.F.called_set.init.plain PySem.F.entry_set_init (check_set_init_1 ty ?_)) λr3 s3 hr3=>?_
   ·obtain⟨ol,hol,hcl,nl,hdl⟩:=hl;obtain⟨oc,od,oda,osl⟩:=ol;simp only at hcl hdl;subst hcl;subst hdl;have ol2:(s.heap.push (bare led)).get? l=some {cls:=.type "list",dict:=od,data:=.seq its nl,slots:=osl}:=Heap.get?_push_of_some _ hol;have c1:=PySem.F.sub_list_set;have c2:=PySem.F.sub_list_frozenset;have c3:(Value.type "list"==Value.type "dict")=false:=by decide
    have isl:(s.heap.push (bare led)).IsList l its:=⟨_,ol2,rfl,nl,rfl⟩;unfold Builtin.«set.__init__» noKeywords Builtin.Frozenset.updateFrom;generalize keepIter:pyIter=PI
    wp_walk
    subst keepIter;refine wpAny_pyIter_list isl (wpAny_bind (wpAny_runValue ?_));have ls:l<s.heap.objs.size:=Heap.lt_size hol;have calm3:A.in1.in1.in1.handled=none:=by simp[calm]
    have nI:l≠(s.heap.push (bare led)).objs.size:=by
     rw[Heap.size_push];exact Nat.ne_of_lt (Nat.lt_succ_of_lt ls)
    have nz:s.heap.objs.size∉[(s.heap.push (bare led)).objs.size,l]:=by
     rw[Heap.size_push];simp only[List.mem_cons,List.mem_singleton,List.not_mem_nil,or_false,not_or];exact And.intro (Nat.ne_of_lt (Nat.lt_succ_self _)) (Nat.ne_of_gt ls)
    have hlen:ts.length=its.size:=by rw[tu hi];simp
    refine oK ((Walks.list calm3 _ l nI its).toS) s.heap.objs.size nz ts hlen (λi v x hv hx=>kJ hi i v x (by rw[Array.getElem?_toList];exact hv) hx) small (its.size-0) 0 _ (by lia) (Nat.zero_le _)
     ⟨⟨_,Heap.get?_push_size _ rfl,rfl,rfl⟩,(isl.push _)⟩ ?one ?two
    case one=>
     have g:((s.heap.push (bare led)).push {cls:=.type "list_iterator",data:=.fields #[.ref l,.int 0 0]}).get? s.heap.objs.size=some (bare led):=Heap.get?_push_of_some _ there;exact SetOf_congr ((setObjOf_fresh (knd:=strKind p w) led).setOf g (by unfold scanBound;lia)) (λ_=>rfl) rfl
    case two=>
     intro s4 mv H4;obtain⟨h4,g4,d4,t4,o4⟩:=s4;have e1:g4=s.gens:=mv.gens;have e2:d4=s.drawn:=mv.drawn;have e3:o4=s.os:=mv.os;subst e1;subst e2;subst e3;refine wpAny_pure ?_;show wpAny _ _ (ret Value.none) _ _ _;refine wpAny_pure ⟨rfl,h4,t4,rfl,H4,λb o hb e=>?_⟩;refine mv.heap b o ?_ (Heap.get?_push_of_some _ (Heap.get?_push_of_some _ e));rw[Heap.size_push];simp only[List.mem_cons,List.mem_singleton,List.not_mem_nil,or_false,not_or];exact And.intro (Nat.ne_of_lt hb) (Nat.ne_of_lt (Nat.lt_succ_of_lt hb))
   ·cases r3 with
    |error x=>exact hr3
    |ok fl3=>
     cases fl3 with
     |ret v=>
      obtain⟨rfl,h2,tk,rfl,H2,k2⟩:=hr3;repeat (any_goals (first|assumption|wp_step))
      exact fin _ _ H2 k2
     |next=>exact hr3.elim
     |brk=>exact hr3.elim
     |cont=>exact hr3.elim
  |next=>exact hr.elim
  |brk=>exact hr.elim
  |cont=>exact hr.elim
end
end KkSet
end
section
namespace KkNone
open PySem PySem.Spec PyProof.Rows PySem.W
structure NP(K:Frag)(C:Addr):Prop where
 eq:findIn K (.ref C) "__eq__"=some (some (.builtin "object.__eq__"))
 ob:subIn K (.ref C) (.type "object")=some true
theorem HR(C:Addr):isSubtype (.type "NoneType") (.ref C)=pure false:=by
 rw[isSubtype_type];rfl
section
variable{A:Around}{s:Shared}{K:Frag}{x C dx:Addr}
theorem NS{M:Model}(hx:s.heap.get? x=some (instObj C dx)):Looks M s.heap (typeOf (.ref x)) (.ref C):=(Looks.ld hx).andThen .now
theorem fT{prog:Program}{w:World}{E:Value->Shared->Prop}{Q:Value->Shared->Prop}(X:K.In s.heap)(hx:s.heap.get? x=some (instObj C dx))(c:NP K C)(q:Q .notImplemented s):wpAny (model prog w) A (call (.builtin "object.__eq__") [.ref x,.none]) Q E s:=by
 refine wpAny_call (codeAny_call_builtin PySem.F.slot_object_eq.plain PySem.F.cmpEntry_eq ?_);simp only[checkBuiltinCall,PySem.F.cmpKind_eq,PySem.F.cmpSplit_eq];refine wpAny_bind ?_;unfold isInstance;refine wpAny_bind ((NS hx).here ((looks_subIn X c.ob).here ?_));rw[if_neg (by simp)];have chk:(match Manifest.signature? "object.__eq__" with
   |some sig=>Bind.checkArgs "object.__eq__" sig {pos:=[Value.ref x,Value.none]}
   |_=>pure ())=(pure ():Sem Unit):=by
  have h:=PySem.F.cmpArgs_eq (.ref x) .none;unfold argsOk at h;cases e:Manifest.signature? "object.__eq__" with
  |none=>rfl
  |some sig=>
   rw[e] at h;exact h
 refine(wpAny_of_eq chk) ?_;unfold Builtin.«object.__eq__»
 have sm:(isSame (.ref x) .none:Sem Bool)=pure false:=rfl;repeat (first|with_reducible refine wpAny_of_eq sm ?_|wp_step)
 exact q
theorem SW{prog:Program}{w:World}{E:Value->Shared->Prop}{Q:Option Value->Shared->Prop}(X:K.In s.heap)(hx:s.heap.get? x=some (instObj C dx))(c:NP K C)(q:Q none s):wpAny (model prog w) A (tryCompare (.ref x) "__eq__" .none) Q E s:=by
 unfold tryCompare;simp only[callSpecialIfBound?,bindSpecialIfBound?];refine wpAny_bind (wpAny_holding (wpAny_bind (wpAny_bind (wpAny_bind ((NS hx).here ((looks_findIn X c.eq).here ?_))))));simp only[PySem.F.slot_object_eq.bind];have run:wpAny (model prog w) A (call (.builtin "object.__eq__") ([.ref x]++[.none])>>=λv=>pure (some v)) (λr s2=>r=some .notImplemented/\s2=s) E s:=
  wpAny_bind (fT X hx c (wpAny_pure ⟨rfl,rfl⟩))
 have fin:wpAny (model prog w) A (call (.builtin "object.__eq__") ([.ref x]++[.none])>>=λv=>pure (some v)) (λa s2=>wpAny (model prog w) A (match a with
   |some Value.notImplemented=>pure none
   |none=>pure none
   |some v=>pure (some v)) Q E s2) E s:=wpAny_mono run (λa s2⟨e1,e2⟩=>by subst e1 e2;exact wpAny_pure q) λ_ _ z=>z
 refine wpAny_bind (wpAny_askSetting (wpAny_ite ?_));split
 ·exact wpAny_bind (wpAny_pure (wpAny_pure fin))
 ·exact wpAny_tryCatch (wpAny_bind (wpAny_pure (wpAny_pure fin)))
theorem WN(X:K.In s.heap)(hx:s.heap.get? x=some (instObj C dx))(c:NP K C)(hu:A.units<cLine):SeqAt.EqAt A s (.ref x) .none false:=λprog w E Q q=>by
 have main:wpAny (model prog w) A (richCompare .Eq (.ref x) .none) (λv s2=>v=.bool false/\s2=s) E s:=by
  simp only[richCompare,cmpInfo_Eq,oneThing_ref];refine wpAny_holding (wpAny_bind (wpAny_cRoomFor hu ?_));refine wpAny_bind ((NS hx).here (wpAny_bind (wpAny_typeOf (v:=.none) (T:="NoneType") rfl ?_)));have hne:(Value.ref C != Value.type "NoneType")=true:=by simp
  rw[if_pos hne];refine wpAny_bind (wpAny_of_eq (HR C) ?_);simp only[Bool.false_eq_true,if_false,Bool.not_false,if_true];refine wpAny_bind (m:=tryCompare (.ref x) _ .none) (SW X hx c ?_);refine wpAny_bind (m:=tryCompare .none _ (.ref x)) (wpAny_tryCompare_declines (T:="NoneType") rfl PySem.F.slot_NoneType_eq_refl (call_gives PySem.F.slot_NoneType_eq_refl rfl PySem.F.entry_NoneType_eq (PySem.F.args_NoneType_eq_2 _ _) (SeqAt.NoneType___eq___none_ref_0 x) ⟨rfl,?_⟩));exact wpAny_bind (wpAny_rule (wpAny_bind (wpAny_of_eq (rfl:isSame (.ref x) .none=pure false) (wpAny_pure ⟨rfl,rfl⟩))))
 unfold eqBool;refine wpAny_holding (wpAny_ite_split (λe=>absurd (eq_of_beq e) nofun) λ_=>wpAny_bind (wpAny_mono main (λv s2⟨e1,e2⟩=>?_) λ_ _ z=>z));subst e1 e2;exact wpAny_truthy_bool q
end
end KkNone
namespace L2
open PySem PySem.Spec PyProof.Rows
def qx(K:PySem.W.Frag)(H:Hp)(v:V):Prop:=v=.Vb\/∃a C dx fs,v=.ref a/\H a=some (.ins C dx fs)/\KkNone.NP K C
def fi(v:V):Bool:=decide (v=.Vb)
def gi(u:Value):Bool:=u==.none
theorem aN{v:V}{u:Value}(r:RelV v u):gi u=fi v:=r.GR
theorem xx:∀{xs:List V}{us:List Value},Vals xs us->us.any gi=xs.any fi
 |_,_,.nil=>rfl
 |y::xs,u::us,.cons r t=>by rw[List.any_cons,List.any_cons,aN r,xx t]
section
variable{X:Cx}{K:PySem.W.Frag}
theorem oE{pins:List (Addr×Obj)}{σ:St}{H:Hp}{s:Shared}{A:Around}(I:Inv X pins σ H s)(hu:A.units<cLine):∀{xs:List V}{us:List Value},Vals xs us->(∀v∈xs,qx X.K H v)->∀u∈us,SeqAt.EqAt A s u .none (gi u)
 |_,_,.nil,_=>λu hu=>by cases hu
 |y::xs,u::us,.cons r t,f=>λu' hu'=>by
  rcases List.mem_cons.mp hu' with rfl|hu'
  ·rcases f y (List.mem_cons_self ..) with rfl|⟨a,C,dx,fs,rfl,ha,c⟩
   ·cases r;exact SeqAt.EqAt.same _
   ·cases r;obtain⟨mA,ob,_⟩:=FE I.Kb ha;exact KkNone.WN I.pO ob.1 c hu
  ·exact oE I hu t (λv hv=>f v (List.mem_cons_of_mem _ hv)) u' hu'
def zF(K:PySem.W.Frag)(neg:Bool):R2:=λx y H Q=>x=.Vb/\∃p xs,y=.ref p/\Ha K H p xs/\(∀v∈xs,qx K H v)/\Q (.bl (if neg then !xs.any fi else xs.any fi)) H
theorem lW(h:X.K=K)(hu:X.A.units+8<cLine):gp X (compareOp .In) (zF K false):=by
 subst h;intro pins s σ H x y v u Q I rx ry h;obtain⟨rfl,p,xs,rfl,hq,f,q⟩:=h;cases rx;cases ry;obtain⟨its,r,pl,hz⟩:=I.list hq;refine SeqAt.in_listAt gi pl.isList (λw hw=>oE I (by simp[Around.in1];lia) r f w (by simpa using hw)) ⟨.bl _,H,I,rfl,?_⟩;rw[show its.toArray.any gi=its.any gi by simp,xx r];exact q
theorem Tp(h:X.K=K)(hu:X.A.units+8<cLine):gp X (compareOp .NotIn) (zF K true):=by
 subst h;intro pins s σ H x y v u Q I rx ry h;obtain⟨rfl,p,xs,rfl,hq,f,q⟩:=h;cases rx;cases ry;obtain⟨its,r,pl,hz⟩:=I.list hq;refine SeqAt.notIn_listAt gi pl.isList (λw hw=>oE I (by simp[Around.in1];lia) r f w (by simpa using hw)) ⟨.bl _,H,I,rfl,?_⟩;rw[show its.toArray.any gi=its.any gi by simp,xx r];exact q
def UO(K:PySem.W.Frag):V->List V->Hp->VK->Prop:=λx xs H Q=>∃(a:Addr)(ys:List V)(j:Nat),x=V.ref a/\xs=[.Vb]/\Ha K H a ys/\(∀v∈ys,qx K H v)/\ys[j]?=some .Vb/\(∀(m:Nat)(z:V),m<j->ys[m]?=some z->z≠.Vb)/\Q (.int (j:Nat)) H
theorem Jp(h:X.K=K)(hu:X.A.units+8<cLine):OP X "list.index" (UO K):=by
 subst h;intro pins s σ H x xs v us Q I rx rxs h;obtain⟨a,ys,j,rfl,rfl,hs,f,hz,hno,q⟩:=h;cases rx;obtain⟨uy,rfl,ry⟩:=vals1 rxs;cases ry;obtain⟨its,rv,⟨⟨cls,dd,data,sl⟩,n,ho,hc,hdn,hd⟩,hlen⟩:=I.list hs;simp only at hc hd;subst hc hd;have hvl:=rv.length;have hsl:=sizeLine_eq;have at_:∀{m:Nat}{z:V},ys[m]?=some z->∃(lt:m<its.toArray.size),gi its.toArray[m]=fi z:=λ{m z} e=>by
  obtain⟨u,h1,h2⟩:=rv.get e;obtain⟨h3,h4⟩:=List.getElem?_eq_some_iff.mp h1;refine⟨by simpa using h3,?_⟩;rw[<-aN h2,<-h4];simp
 obtain⟨hj,ej⟩:=at_ hz;refine call_meets PySem.F.slot_list_index ⟨_,ho,rfl⟩ PySem.F.entry_list_index (PySem.F.args_list_index_2 _ _)
  (SeqAt.list_indexAt a its.toArray n dd sl .none gi j hj (by simp at hj;lia) (ej.trans rfl) ?_) ⟨ho,λu hu'=>oE I (by simp[Around.in1];lia) rv f u (by simpa using hu'),?_⟩
 ·intro m hm hmj;have hml:m<ys.length:=by simp at hm;lia
  have hy:ys[m]?=some ys[m]:=List.getElem?_eq_getElem hml;obtain⟨_,e⟩:=at_ hy;rw[e];exact decide_eq_false (hno m _ hmj hy)
 ·exact⟨.int (j:Nat),H,I.tok _,⟨_,rfl⟩,q⟩
end
end L2
end
section
namespace L2
open PySem PySem.Spec PyProof.Rows
def zN(K:PySem.W.Frag)(te:TE):TE:=λσ H Q=>te σ H λx H1=>∃(a:Addr)(ts:List Str),x=.ref a/\Ha K H1 a (ts.map V.str)/\ts.length<=1000/\Q (.int ((ts.eraseDups.length:Nat):Int)) H1
theorem SO{X:Cx}{e:Expr}{te:TE}{p1 p2 p3 p4:Pos}(hg:Gl X "len")(hg2:Gl X "set")(hm:X.mg "len"=none)(hm2:X.mg "set"=none)(he:PE X e te)(hc:X.calm=true)(he1:starEach [e] X.env=[(false,eval e X.env)]:=by rfl):PE X (.Call (.Name "len" p1) [.Call (.Name "set" p2) [e] [] p3] [] p4) (zN X.K te):=by
 intro pins s σ H Q I h;have b1:bootBuiltins "len"=some (.builtin "len"):=by decide +kernel
 have b2:bootBuiltins "set"=some (.type "set"):=by decide +kernel
 refine wpAny_Call_Name_kw (Jk I hg hm b1 ?_);show wpAny _ _ (callWith p4 (.builtin "len") [] [(false,eval (.Call (.Name "set" p2) [e] [] p3) X.env)] []) _ _ s;refine PySem.callWith_builtin1 ?_;refine wpAny_Call_Name_kw (Jk I hg2 hm2 b2 ?_);rw[he1];show wpAny _ _ (callWith p3 (.type "set") [] [(false,eval e X.env)] []) _ _ s;refine PySem.callWith_type1 ?_;refine yc (he pins s σ H _ I h) λv s1⟨x,H1,I1,r1,a,ts,ex,hs,hz,q⟩=>?_;subst ex;cases r1;obtain⟨its,rv,hl,_⟩:=I1.list hs;have hts:=Jh rv;have hlen:its.length=ts.length:=(KkSet.tu hts).symm;refine KkSet.UA (p:=X.prog) (w:=X.w) (I1.ok.hd hc) hl.isList (by simpa using hts) (by unfold scanBound;simp;lia) λh2 tk hold kp=>?_;have I2:Inv X pins σ H1 {s1 with heap:=h2,toks:=tk}:=I1.kept λb u eu=>kp b u (Heap.lt_size eu) eu;obtain⟨o,es,ep,tb,ho,hex,hd,hel,hmem,hb,hf,hn⟩:=hold;refine call_len_set ho hex hd hf (by have:=KkSet.CM ts;lia) ?_;rw[hn];exact⟨.int ((ts.eraseDups.length:Nat):Int),H1,I2.tok _,⟨_,rfl⟩,q⟩
end L2
namespace L2
open PySem PySem.Spec PyProof.Rows
section
variable{X:Cx}{K:PySem.W.Frag}
theorem Qk(h:X.K=K):gp X (compareOp .In) (UX K false):=h▸NO
theorem Up(h:X.K=K):gp X (compareOp .NotIn) (UX K true):=h▸oF
theorem lR(h:X.K=K):XW X (Ld K):=h▸zT
theorem CT(h:X.K=K):XW X (Xd K):=h▸TV
theorem Ga(h:X.K=K):ye X (.builtin "len") (λxs H Q=>∃p ys,xs=[.ref p]/\(Ha K H p ys\/mh K H p ys)/\Q (.int ys.length) H):=h▸dE
theorem eD(h:X.K=K):OP X "list.index" (YK K):=h▸BR
theorem Wf(h:X.K=K){o e:Expr}{es:List Expr}{to:TE}{t:TA}{name:Str}{apos cpos:Pos}{T id:String}{r:V->List V->Hp->VK->Prop}(pa:PlainAttrs T)(slot:Slot T name id)(hty:typeOf (.builtin id)=pure (.type "method_descriptor"))(hm:OP X id r)(ho:PE X o to)(ha:PA X (e::es) t)(hbase:attributeBase o name X.env (eval o X.env)=eval o X.env:=by rfl)(hfew:((backTo cpos (starEach (e::es) X.env)).all (λx=>!x.1)&&(backToKw cpos (keywordEach [] X.env)).all (λx=>x.1.isSome)&&decide ((e::es).length+([]:List Keyword).length+(if([]:List Keyword).isEmpty then 0 else 1)<30))=true:=by rfl)(hline:(apos.endLine==cpos.line)=true:=by rfl)(hs:starEach (e::es) X.env=(false,eval e X.env)::starEach es X.env:=by rfl)(hplain:(backTo cpos (starEach es X.env)).any (·.1)=false:=by rfl):PE X (.Call (.Attribute o name apos) (e::es) [] cpos) (nZ K T r to t):=by
 subst h;exact QX pa slot hty hm ho ha hbase hfew hline hs hplain
theorem Mz(h:X.K=K){o e:Expr}{to te:TE}{apos pos:Pos}(ho:PE X o to)(he:PE X e te)(hs:starEach [e] X.env=[(false,eval e X.env)]:=by rfl)(hbase:attributeBase o "join" X.env (eval o X.env)=eval o X.env:=by rfl)(hline:(apos.endLine==pos.line)=true:=by rfl):PE X (.Call (.Attribute o "join" apos) [e] [] pos) (bY (λx xs H Q=>∃a p,∃ys:List Str,x=.str a/\xs=[.ref p]/\(Ha K H p (ys.map V.str)\/mh K H p (ys.map V.str))/\(ys.map (·.length)).sum+ys.length*a.length<=16777216/\Q (.str (Txt.join a ys)) H) to te):=by
 subst h;exact aU ho he hs hbase hline
end
end L2
namespace L2
open PySem PySem.Spec PyProof.Rows
theorem Pc{α β:Type}{F:α->β->Prop}:∀{l:List α}{m:List β}{j:Nat}{x:α},Paired F l m->l[j]?=some x->∃y,m[j]?=some y/\F x y
 |[],_,j,x,.nil,h=>by simp at h
 |a::l,b::m,0,x,.cons p _,h=>⟨b,rfl,by have e:a=x:=Option.some.inj h;rw[<-e];exact p⟩
 |a::l,b::m,j+1,x,.cons _ q,h=>Pc (l:=l) (m:=m) (j:=j) (x:=x) q h
theorem Bb{α β:Type}{F:α->β->Prop}:∀{l:List α}{m:List β}{j:Nat}{y:β},Paired F l m->m[j]?=some y->∃x,l[j]?=some x/\F x y
 |_,[],j,x,.nil,h=>by simp at h
 |a::l,b::m,0,x,.cons p _,h=>⟨a,rfl,by have e:b=x:=Option.some.inj h;rw[<-e];exact p⟩
 |a::l,b::m,j+1,x,.cons _ q,h=>Bb (l:=l) (m:=m) (j:=j) (y:=x) q h
theorem Gk{α:Type}{F:α->Option V}:∀{ms:List α}{ys:List (Option V)},ys.length=ms.length->(∀(j:Nat)(m:α),ms[j]?=some m->∃y,ys[j]?=some y/\y=F m)->ys.filterMap id=ms.filterMap F
 |[],[],_,_=>rfl
 |[],_::_,h,_=>by simp at h
 |_::_,[],h,_=>by simp at h
 |x::xs,y::ys,h,hy=>by
  obtain⟨z,hz,e⟩:=hy 0 x rfl;have hz:y=z:=Option.some.inj hz;subst hz;have ih:=Gk (F:=F) (ms:=xs) (ys:=ys) (by simpa using h) λj x' hx=>hy (j+1) x' hx;rw[List.filterMap_cons,List.filterMap_cons,ih,e];rfl
theorem rh{α:Type}{J:It}{xs:List V}{ms:List α}{i:Nat}{tt:TT}{te:TE}{σ:St}{H:Hp}{Q:VK}{Rl:V->α->Prop}(hP:Paired Rl xs ms)(F:α->Option V)(hJ:jg J H xs)(hz:xs.length<=sizeLine)(step:∀(j:Nat)(x:V)(m:α)(H1:Hp)(R:Option V->Hp->Prop),ms[j]?=some m->Rl x m->Aa H H1->(∀H2,Aa H1 H2->R (F m) H2)->tt ((wipe σ [i]).set i (some x)) H1 λb H3=>if b=true then te ((wipe σ [i]).set i (some x)) H3 λy H4=>R (some y) H4 else R none H3)(fin:∀D H1,H D=none->H1 D=some (.lst (ms.filterMap F))->Aa H H1->Q (.ref D) H1):YW J i tt te σ H Q:=
 TM (λj _ y _=>∃m,ms[j]?=some m/\y=F m) hJ hz (λ_ _ _ _ _ _ _ h _ _ _=>h)
  (λj x H1 R hx hs k=>by
   obtain⟨m,hm,hr⟩:=Pc hP hx;exact step j x m H1 R hm hr hs λH2 h2=>k _ H2 ⟨m,hm,rfl⟩ h2)
  λD ys H1 h1 h2 h3 h4 h5=>fin D H1 h1 (by
   rw[h2,Gk (ms:=ms) (F:=F) (h4.trans hP.length) λj m hm=>by
    obtain⟨x,hx,_⟩:=Bb hP hm;obtain⟨y,hy,m',hm',e⟩:=h5 j x hx;rw[hm] at hm';have e2:m=m':=Option.some.inj hm';subst e2;exact⟨y,hy,e⟩]) h3
end L2
namespace L2
open PySem PySem.Spec PyProof.Rows
def WS(J:It)(g:TG)(tb:TS)(D:Ends)(σ:St)(H1:Hp):Prop:=∃W:Nat->Nat->St->Hp->Prop,(∃m,W 0 m σ H1)/\∀i m σ H,W i m σ H->
 (J.stop i H/\D.nx σ H)\/(J.go i H/\∃N:St->Hp->Prop,(∀σ' H',N σ' H'->∃m',m'<m/\W (i+1) m' σ' H')/\∀x H',J.rM i H x H'->g x σ H' λσ2 H2=>tb {D with nx:=N,ct:=N,bk:=D.nx} σ2 H2)
theorem zb{wi:TI}{g:TG}{tb:TS}{D:Ends}{σ:St}{H:Hp}:ZX wi g tb D σ H=wi σ H (λJ H1=>WS J g tb D σ H1):=rfl
theorem Fo{K:PySem.W.Frag}{a:Addr}{xs:List V}{g:TG}{tb:TS}{D:Ends}{σ:St}{H:Hp}(Pv:Nat->St->Hp->Prop)(h0:Pv 0 σ H)(hl:∀i σ H,i<=xs.length->Pv i σ H->Ha K H a xs)(hs:∀(i:Nat)(x:V)(σ:St)(H:Hp),xs[i]?=some x->Pv i σ H->g x σ H λσ2 H2=>tb {D with nx:=Pv (i+1),ct:=Pv (i+1),bk:=D.nx} σ2 H2)(hd:∀σ H,Pv xs.length σ H->D.nx σ H):WS (XS K a) g tb D σ H:=
 LQ Pv h0 hl hs hd
theorem GX{J:It}{xs:List V}{g:TG}{tb:TS}{D:Ends}{σ:St}{H:Hp}(Pv:Nat->St->Hp->Prop)(h0:Pv 0 σ H)(hW:jg J H xs)(hl:∀i σ H',i<=xs.length->Pv i σ H'->Aa H H')(hs:∀(i:Nat)(x:V)(σ:St)(H:Hp),xs[i]?=some x->Pv i σ H->g x σ H λσ2 H2=>tb {D with nx:=Pv (i+1),ct:=Pv (i+1),bk:=D.nx} σ2 H2)(hd:∀σ H,Pv xs.length σ H->D.nx σ H):WS J g tb D σ H:=by
 refine⟨λi m σ H=>m=xs.length-i/\i<=xs.length/\Pv i σ H,⟨xs.length,by simp,Nat.zero_le _,h0⟩,?_⟩;rintro i m σ H' ⟨rfl,hi,p⟩;have q:=hW i H' (hl i σ H' hi p);by_cases hlt:i<xs.length
 ·refine .inr ⟨(q.1 hlt).1,Pv (i+1),λσ' H' p'=>⟨xs.length-(i+1),by lia,rfl,hlt,p'⟩,λx H2 y=>?_⟩;obtain⟨e,hx⟩:=(q.1 hlt).2 x H2 y;subst e;exact hs i x σ _ hx p
 ·have e:i=xs.length:=by lia
  subst e;exact .inl ⟨q.2 (Nat.le_refl _),hd σ H' p⟩
end L2
namespace L2
open PySem PySem.Spec PyProof.Rows
theorem Eh{J:It}{xs:List V}{g:TG}{tb:TS}{D:Ends}{σ:St}{H:Hp}(Pv:Nat->St->Hp->Prop)(h0:Pv 0 σ H)(hl:∀i σ H',i<=xs.length->Pv i σ H'->jg J H' xs)(hs:∀(i:Nat)(x:V)(σ:St)(H:Hp),xs[i]?=some x->Pv i σ H->g x σ H λσ2 H2=>tb {D with nx:=Pv (i+1),ct:=Pv (i+1),bk:=D.nx} σ2 H2)(hd:∀σ H,Pv xs.length σ H->D.nx σ H):WS J g tb D σ H:=by
 refine⟨λi m σ H=>m=xs.length-i/\i<=xs.length/\Pv i σ H,⟨xs.length,by simp,Nat.zero_le _,h0⟩,?_⟩;rintro i m σ H' ⟨rfl,hi,p⟩;have q:=hl i σ H' hi p i H' (Aa.refl _);by_cases hlt:i<xs.length
 ·refine .inr ⟨(q.1 hlt).1,Pv (i+1),λσ' H' p'=>⟨xs.length-(i+1),by lia,rfl,hlt,p'⟩,λx H2 y=>?_⟩;obtain⟨e,hx⟩:=(q.1 hlt).2 x H2 y;subst e;exact hs i x σ _ hx p
 ·have e:i=xs.length:=by lia
  subst e;exact .inl ⟨q.2 (Nat.le_refl _),hd σ H' p⟩
end L2
namespace L2
open PySem PySem.Spec PyProof.Rows
theorem bR{A:Around}{k:Nat}(hr:Ef k A):A.units+8<cLine:=by have:=hr.un;lia
end L2
end
section
namespace L2
open PySem PySem.Spec PyProof.Rows
structure CF(K:PySem.W.Frag)(mg:Str->Option Value)(x:Str)(st:Stmt)(f:Addr)(d:FuncData)(ps:List Str):Prop where
 F:qG K x x st f d
 b:Binds K d ps []
 m:mg x=some (.ref f)
structure FI(K:PySem.W.Frag)(C:Addr)(f:Str){O:Type}(fs:O->List (Str×V))(get:O->V):Prop where
 cl:AA K C
 n:jb K C f
 l:∀o,(fs o).lookup f=some (get o)
section
variable{X:Cx}{k k':Nat}{x:Str}{st:Stmt}{f C:Addr}{d:FuncData}{ps:List Str}{sp:Sp}{e a b:Expr}{es:List Expr}{t:TA}{ta tb:TE}{p pos:Pos}{O:Type}{fs:O->List (Str×V)}{get:O->V}
def XX(sp:Sp)(t:TA):TE:=λσ H Q=>t σ H λvs H1=>sp vs H1 Q E0
theorem HW:zS sp [] E0 t=XX sp t:=by
 unfold zS XX;simp only[List.append_nil]
def cY(C:Addr)(sp:Sp)(t:TA):TE:=λσ H Q=>t σ H λvs H1=>∀x dx,H1 x=none->H1 dx=none->dx≠x->sp (.ref x::vs) (upd (upd H1 dx (.own x)) x (.ins C dx [])) (λv H2=>v=.Vb/\Q (.ref x) H2) E0
theorem DS:AN C sp [] E0 t=cY C sp t:=by
 unfold AN cY;simp only[List.append_nil]
theorem pC(F:Ua X.prog X.w X.K X.mg X.base nc k f d ps sp)(hr:Ef k' X.A)(c:CF X.K X.mg x st f d ps)(ha:PA X (e::es) t)(hk:k<=k':=by decide)(hg:Gl X x:=by rfl)(hdb:(x==("__debug__":Str))=false:=by decide)(he:starEach (e::es) X.env=(false,eval e X.env)::starEach es X.env:=by rfl)(hpl:(backTo pos (starEach es X.env)).any (·.1)=false:=by rfl):PE X (.Call (.Name x p) (e::es) [] pos) (XX sp t):=HW▸ZT F (hr.mono hk) hg c.m c.F.kp c.b .nil LR ha hdb he hpl
theorem pM(F:Ua X.prog X.w X.K X.mg X.base nc k f d ps sp)(hr:Ef k' X.A)(M:Mk X.K C f)(hm:X.mg x=some (.ref C))(hb:Binds X.K d ps [])(ha:PA X (e::es) t)(hk:k+1<=k':=by decide)(hg:Gl X x:=by rfl)(hdb:(x==("__debug__":Str))=false:=by decide)(he:starEach (e::es) X.env=(false,eval e X.env)::starEach es X.env:=by rfl)(hpl:(backTo pos (starEach es X.env)).any (·.1)=false:=by rfl):PE X (.Call (.Name x p) (e::es) [] pos) (cY C sp t):=DS▸bU M F (hr.mono hk) hg hm hb .nil LR ha hdb he hpl
theorem eZ(F:Ua X.prog X.w X.K X.mg X.base nc k f d ps sp)(hr:Ef k' X.A)(M:Mk X.K C f)(hm:X.mg x=some (.ref C))(hb:Binds X.K d ps [])(hk:k+1<=k':=by decide)(hg:Gl X x:=by rfl)(hdb:(x==("__debug__":Str))=false:=by decide):PE X (.Call (.Name x p) [] [] pos) (cY C sp ES):=DS▸PR M F (hr.mono hk) hg hm hb .nil LR hdb
theorem pF{fx:Str}(v:FI X.K C fx fs get)(he:PE X e ta)(hb:attributeBase e fx X.env (eval e X.env)=eval e X.env:=by rfl):PE X (.Attribute e fx pos) (tF C fs get ta):=fZ v.cl v.n v.l he hb
theorem Xo(K:PySem.W.Frag){o value:Expr}{f:Str}{pos':Pos}{tv:TE}(ha:PE X o ta)(hv:PE X value tv)(hs:swapsWith value (some (.Attribute o f pos')) pos.line X.env=pure false:=by rfl)(h:X.K=K:=by rfl):PS X (.Assign [.Attribute o f pos'] value pos) (WO K ta tv f):=h▸uW ha hv hs
theorem iu(K:PySem.W.Frag){tg l:Expr}(hl:PE X l ta)(h:X.K=K:=by rfl):PI X tg l (dR K ta):=h▸dU hl
theorem iZ(K:PySem.W.Frag){tg l:Expr}(hl:PE X l ta)(h:X.K=K:=by rfl):PI X tg l (MV K ta):=h▸sW hl
theorem pU(K:PySem.W.Frag)(h:X.K=K:=by rfl):MY X (Jf K):=h▸qU
theorem HU(K:PySem.W.Frag)(ha:PE X a ta)(he:∀whole,isTrue a X.env whole=(do let v<-whole;standAt a.pos;holding [v] (truthy v)))(h:X.K=K:=by rfl):PT X a (λσ H Q=>ta σ H λx H'=>∃k,YS K x H' k/\Q k H'):=h▸WR ha he
theorem Eg(K:PySem.W.Frag)(h:X.K=K:=by rfl):ye X (.type "list") (λxs H Q=>∃p ys,xs=[.ref p]/\(Ha K H p ys\/mh K H p ys)/\∀l,H l=none->Q (.ref l) (upd H l (.lst ys))):=h▸eE
theorem gE(K:PySem.W.Frag)(hc:X.calm=true)(h:X.K=K:=by rfl):ye X (.builtin "all") (ue K):=h▸sV hc
theorem gT(K:PySem.W.Frag)(hc:X.calm=true)(h:X.K=K:=by rfl):ye X (.builtin "any") (ve K):=h▸tV hc
theorem wM(K:PySem.W.Frag)(hc:X.calm=true)(h:X.K=K:=by rfl):ye X (.builtin "sum") (we K):=h▸vV hc
theorem iT(K:PySem.W.Frag)(hc:X.calm=true)(h:X.K=K:=by rfl):ye X (.builtin "min") (VX K):=h▸uV hc
theorem vc(K:PySem.W.Frag)(ha:PE X a ta)(hb:PE X b tb)(h:X.K=K:=by rfl)(hs:UD b:=by exactλ_ _=>rfl):PE X (.Subscript a b pos) (CP (Ld K) ta tb):=XH (lR h) ha hb hs
theorem oO(K:PySem.W.Frag)(ha:PE X a ta)(hb:PE X b tb)(h:X.K=K:=by rfl)(hs:UD b:=by exactλ_ _=>rfl):PE X (.Subscript a b pos) (CP (Xd K) ta tb):=XH (CT h) ha hb hs
end
def mU(N P:List Str)(sc:Scope):Bool:=(sc.kind==.function)&&(!sc.isCoroutine&&(!sc.isGenerator&&(decide N.Nodup&&((N.take P.length==P)&&((P.all λx=>sc.names.lookup x==some .local||sc.names.lookup x==some .cell)&&(sc.names.all λy=>!(y.2==.free)))))))
theorem pN{N P:List Str}{sc:Scope}(h:mU N P sc=true):Qw N P sc:=by
 unfold mU at h;simp only[Bool.and_eq_true,beq_iff_eq,Bool.not_eq_true',decide_eq_true_eq,List.all_eq_true,Bool.or_eq_true] at h;obtain⟨h1,h2,h3,h4,h5,h6,h7⟩:=h;refine⟨h1,h2,h3,h4,h5,h6,λy hy e=>?_⟩;have:=h7 y hy;rw[e] at this;exact absurd this (by decide)
theorem qG.IZ{P:Program}{w:World}{K:PySem.W.Frag}{mg:Str->Option Value}{base:Heap}{x qual:Str}{st:Stmt}{f:Addr}{fd:FuncData}{ps:List Str}{k:Nat}{sp:Sp}(F:qG K x qual st f fd)(N:List Str)(S:mU N ps (Ra st)=true)(hb:∀(vs:List V)(H:Hp)(Q:VK)(E:XK),sp vs H Q E->N.Nodup->vs.length=ps.length/\∀(cdv:Value)(A:Around)(outer:List Env)(s:Shared),Ef k (A.deeper (envOfC qual (Ra st) s.heap.objs.size f cdv))->∃t,vJ (jE nc P w K mg base N qual (Ra st) f cdv A outer s H E).fX (Gg st) t/\t {nx:=λ_ H'=>Q .Vb H',rt:=Q} (start N vs) H):Ua P w K mg base nc (k+1) f fd ps sp:=
 F.ok (pN S) (λvs H Q E h=>(hb vs H Q E h (pN S).nd).1) λcdv A outer s H vs Q E hr h=>(hb vs H Q E h (pN S).nd).2 cdv A outer s hr
def Cc:List Str->List V->St
 |[],_=>[]
 |_::N,[]=>none::Cc N []
 |_::N,v::vs=>some v::Cc N vs
theorem YL:∀(N:List Str)(vs:List V),vs.length<=N.length->Cc N vs=start N vs
 |[],[],_=>rfl
 |[],_::_,h=>by simp at h
 |_::N,[],_=>by
  have:=YL N [] (Nat.zero_le _);unfold Cc;rw[this];rfl
 |_::N,v::vs,h=>by
  have:=YL N vs (Nat.le_of_succ_le_succ h);unfold Cc;rw[this];simp[start]
def Body(P:Program)(w:World)(K:PySem.W.Frag)(mg:Str->Option Value)(base:Heap)(N:List Str)(qual:Str)(st:Stmt)(f:Addr)(ps:List Str)(k:Nat)(vs:List V)(H:Hp)(Q:VK)(E:XK):Prop:=
 vs.length=ps.length/\∀(cdv:Value)(A:Around)(outer:List Env)(s:Shared),Ef k (A.deeper (envOfC qual (Ra st) s.heap.objs.size f cdv))->
  ∃t,vJ (jE nc P w K mg base N qual (Ra st) f cdv A outer s H E).fX (Gg st) t/\t {nx:=λ_ H'=>Q .Vb H',rt:=Q} (Cc N vs) H
theorem qG.Uc{P:Program}{w:World}{K:PySem.W.Frag}{mg:Str->Option Value}{base:Heap}{x qual:Str}{st:Stmt}{f:Addr}{fd:FuncData}{ps:List Str}{k:Nat}{sp:Sp}(F:qG K x qual st f fd)(N:List Str)(S:mU N ps (Ra st)=true)(hb:∀(vs:List V)(H:Hp)(Q:VK)(E:XK),sp vs H Q E->N.Nodup->Body P w K mg base N qual st f ps k vs H Q E):Ua P w K mg base nc (k+1) f fd ps sp:=
 F.IZ N S λvs H Q E h nd=>by
  obtain⟨hl,h⟩:=hb vs H Q E h nd;have hN:vs.length<=N.length:=by
   have:=(pN S).pre;rw[hl,<-this,List.length_take];lia
  refine⟨hl,λcdv A outer s hr=>?_⟩;rw[<-YL N vs hN];exact h cdv A outer s hr
end L2
end
section
namespace L2
open PySem PySem.Spec PyProof.Rows
section
variable{D:Ends}{σ r:St}{H:Hp}{Q:VK}{QB:Bool->Hp->Prop}{QA:List V->Hp->Prop}{i:Nat}{v:V}{a:Option V}{t u:TS}{ta tb tc:TE}{c d:TT}{tr:TA}
theorem Nc:Xc 0 (some v::r) H Q=Q v H:=propext ⟨λ⟨_,e,q⟩=>by cases e;exact q,λq=>⟨_,rfl,q⟩⟩
theorem Mc:Xc (i+1) (a::r) H Q=Xc i r H Q:=rfl
theorem We:eM t u D σ H=t {D with nx:=u D} σ H:=rfl
theorem Pe:CS c t u D σ H=c σ H (λb H1=>if b=true then t D σ H1 else u D σ H1):=rfl
theorem dC:tC v σ H Q=Q v H:=rfl
theorem Ve:JW ta D σ H=ta σ H D.rt:=rfl
theorem Kc:eY D σ H=D.rt .Vb H:=rfl
theorem Hc:gJ D σ H=D.nx σ H:=rfl
theorem Fc:PU ta D σ H=ta σ H (λ_ H1=>D.nx σ H1):=rfl
theorem Lc:LD ta σ H QB=ta σ H (λx H'=>∃k,x=.bl k/\QB k H'):=rfl
theorem dB:tB ta σ H QB=ta σ H (λx H'=>∃k,x=.bl k/\QB k H'):=rfl
theorem zo{R:R2}:CP R ta tb σ H Q=ta σ H (λx H1=>tb σ H1 (λy H2=>R x y H2 Q)):=rfl
theorem Co{R:V->Hp->VK->Prop}:AZ R ta σ H Q=ta σ H (λx H1=>R x H1 Q):=rfl
theorem Me:WX c d σ H QB=c σ H (λb H1=>if b=true then d σ H1 QB else QB false H1):=rfl
theorem Ao:yZ c d σ H QB=c σ H (λb H1=>if b=true then QB true H1 else d σ H1 QB):=rfl
theorem Te:dY c σ H QB=c σ H (λb H1=>QB (!b) H1):=rfl
theorem Dc:MU ta tb σ H Q=ta σ H (λx H1=>∃c,x=.bl c/\if c=true then tb σ H1 Q else Q (.bl false) H1):=rfl
theorem Ue:pZ ta tb σ H Q=ta σ H (λx H1=>∃c,x=.bl c/\if c=true then Q (.bl true) H1 else tb σ H1 Q):=rfl
theorem Ic:RU ta σ H Q=ta σ H (λx H1=>∃c,x=.bl c/\Q (.bl (!c)) H1):=rfl
theorem vo:xZ c ta tb σ H Q=c σ H (λb H1=>if b=true then ta σ H1 Q else tb σ H1 Q):=rfl
theorem Se:ES σ H QA=QA [] H:=rfl
theorem Ec:xN ta tr σ H QA=ta σ H (λx H1=>tr σ H1 (λxs H2=>QA (x::xs) H2)):=rfl
theorem Xe:fY tr σ H Q=tr σ H (λxs H1=>xs.length<=sizeLine/\∀p,H1 p=none->Q (.ref p) (upd H1 p (.tup xs))):=rfl
theorem Qe:aY tr σ H Q=tr σ H (λxs H1=>xs.length<=sizeLine/\∀p,H1 p=none->Q (.ref p) (upd H1 p (.lst xs))):=rfl
theorem jo{sp:Sp}:XX sp tr σ H Q=tr σ H (λvs H1=>sp vs H1 Q E0):=rfl
theorem yo{C:Addr}{sp:Sp}:cY C sp tr σ H Q=tr σ H (λvs H1=>∀x dx,H1 x=none->H1 dx=none->dx≠x->sp (.ref x::vs) (upd (upd H1 dx (.own x)) x (.ins C dx [])) (λv H2=>v=.Vb/\Q (.ref x) H2) E0):=rfl
theorem fo{R:List V->Hp->VK->Prop}:oZ R tr σ H Q=tr σ H (λvs H1=>R vs H1 Q):=rfl
theorem Oe{g:TG}:vU ta g D σ H=ta σ H (λx H1=>g x σ H1 D.nx):=rfl
theorem gZ{K:St->Hp->Prop}:Mb 0 v (a::r) H K=K (some v::r) H:=rfl
theorem gS{K:St->Hp->Prop}:Mb (i+1) v (a::r) H K=Mb i v r H (λs H'=>K (a::s) H'):=rfl
theorem dF{O:Type}{C:Addr}{fs:O->List (Str×V)}{get:O->V}:tF C fs get ta σ H Q=ta σ H (λx H1=>∃a dx o,x=.ref a/\H1 a=some (.ins C dx (fs o))/\Q (get o) H1):=rfl
theorem Eo{O:Type}{C:Addr}{fs:O->List (Str×V)}{put:V->O->O}:sF C fs put ta tb D σ H=tb σ H (λy H1=>ta σ H1 (λx H2=>∃a dx o,x=.ref a/\H2 a=some (.ins C dx (fs o))/\D.nx σ (upd H2 a (.ins C dx (fs (put y o)))))):=rfl
theorem bo{K:PySem.W.Frag}{T:String}{R:V->List V->Hp->VK->Prop}:nZ K T R ta tr σ H Q=ta σ H (λx H1=>iY K T x H1/\tr σ H1 (λxs H2=>R x xs H2 Q)):=rfl
theorem wo{R:V->List V->Hp->VK->Prop}:JZ R ta σ H Q=ta σ H (λx H1=>(∃a,x=.str a)/\R x [] H1 Q):=rfl
theorem xo{R:V->List V->Hp->VK->Prop}:bY R ta tb σ H Q=ta σ H (λx H1=>(∃a,x=.str a)/\tb σ H1 (λy H2=>R x [y] H2 Q)):=rfl
theorem Bo{R:V->Option Int->Option Int->Hp->VK->Prop}{l h:TO}:zZ R ta l h σ H Q=ta σ H (λx H1=>l σ H1 (λi H2=>h σ H2 (λj H3=>R x i j H3 Q))):=rfl
theorem Jc{QO:Option Int->Hp->Prop}:SU ta σ H QO=ta σ H (λx H1=>∃i,x=.int i/\QO (some i) H1):=rfl
theorem vb{QO:Option Int->Hp->Prop}:BN σ H QO=QO none H:=rfl
theorem ko{K:PySem.W.Frag}{R:It->Hp->Prop}:dR K ta σ H R=ta σ H (λx H1=>∃a,x=.ref a/\(∃xs,Ha K H1 a xs)/\R (XS K a) H1):=rfl
theorem uo{K:PySem.W.Frag}{R:It->Hp->Prop}:MV K ta σ H R=ta σ H (λx H1=>∃a,x=.ref a/\(∃xs,mh K H1 a xs)/\R (pY K a) H1):=rfl
theorem qo{R:It->Hp->Prop}:HX ta σ H R=ta σ H (λv H1=>∃x,v=.str x/\R (oY x) H1):=rfl
theorem Qo{b:Addr}{p:Addr->Prop}:(∃a,V.ref b=.ref a/\p a)=p b:=propext ⟨λ⟨_,e,q⟩=>by cases e;exact q,λq=>⟨_,rfl,q⟩⟩
theorem Ro{α β:Type}{b:Addr}{p:Addr->α->β->Prop}:(∃a x y,V.ref b=.ref a/\p a x y)=∃x y,p b x y:=propext ⟨λ⟨_,x,y,e,q⟩=>by cases e;exact⟨x,y,q⟩,λ⟨x,y,q⟩=>⟨_,x,y,rfl,q⟩⟩
theorem Po{n:Int}{p:Int->Prop}:(∃i,V.int n=.int i/\p i)=p n:=propext ⟨λ⟨_,e,q⟩=>by cases e;exact q,λq=>⟨_,rfl,q⟩⟩
theorem So{n:Str}{p:Str->Prop}:(∃i,V.str n=.str i/\p i)=p n:=propext ⟨λ⟨_,e,q⟩=>by cases e;exact q,λq=>⟨_,rfl,q⟩⟩
theorem pf{K:PySem.W.Frag}{b:Addr}{n:Int}:Ld K (.ref b) (.int n) H Q=∃xs,Ha K H b xs/\∃v,uM xs n=some v/\Q v H:=propext ⟨λ⟨_,xs,_,v,e,f,h,g,q⟩=>by cases e;cases f;exact⟨xs,h,v,g,q⟩,λ⟨xs,h,v,g,q⟩=>⟨_,xs,_,v,rfl,rfl,h,g,q⟩⟩
theorem qf{K:PySem.W.Frag}{b:Addr}{n:Int}:Xd K (.ref b) (.int n) H Q=∃xs,mh K H b xs/\∃v,uM xs n=some v/\Q v H:=propext ⟨λ⟨_,xs,_,v,e,f,h,g,q⟩=>by cases e;cases f;exact⟨xs,h,v,g,q⟩,λ⟨xs,h,v,g,q⟩=>⟨_,xs,_,v,rfl,rfl,h,g,q⟩⟩
theorem Mo{b:Bool}{p:Bool->Prop}:(∃k,V.bl b=.bl k/\p k)=p b:=propext ⟨λ⟨_,e,q⟩=>by cases e;exact q,λq=>⟨_,rfl,q⟩⟩
theorem Oo{g:Int->Int->V}{i j:Int}:Wi g (.int i) (.int j) H Q=Q (g i j) H:=propext ⟨λ⟨_,_,e,f,q⟩=>by cases e;cases f;exact q,λq=>⟨_,_,rfl,rfl,q⟩⟩
theorem xI{C:Int->Int->Prop}{g:Int->Int->V}{i j:Int}:rI C g (.int i) (.int j) H Q=(C i j/\Q (g i j) H):=propext ⟨λ⟨_,_,e,f,q⟩=>by cases e;cases f;exact q,λq=>⟨_,_,rfl,rfl,q⟩⟩
theorem kf{i j:Int}:Vj (.int i) (.int j) H Q=Q (.bl (decide (i=j))) H:=by
 unfold Vj;rw[decide_eq_decide.mpr (Iff.of_eq (V.int.injEq i j))];exact propext ⟨λh=>h.2,λh=>⟨rfl,h⟩⟩
theorem mf{i j:Str}:Vj (.str i) (.str j) H Q=Q (.bl (decide (i=j))) H:=by
 unfold Vj;rw[decide_eq_decide.mpr (Iff.of_eq (V.str.injEq i j))];exact propext ⟨λh=>h.2,λh=>⟨rfl,h⟩⟩
theorem rf{i j:Int}:Yk (.int i) (.int j) H Q=Q (.bl (!decide (i=j))) H:=by
 unfold Yk;rw[decide_eq_decide.mpr (Iff.of_eq (V.int.injEq i j))];exact propext ⟨λh=>h.2,λh=>⟨rfl,h⟩⟩
theorem sf{i j:Str}:Yk (.str i) (.str j) H Q=Q (.bl (!decide (i=j))) H:=by
 unfold Yk;rw[decide_eq_decide.mpr (Iff.of_eq (V.str.injEq i j))];exact propext ⟨λh=>h.2,λh=>⟨rfl,h⟩⟩
end
theorem cX{P:List Value->Prop}(h:P [])(us:List Value)(e:us.length=0):P us:=List.eq_nil_of_length_eq_zero e▸h
theorem EA{P:List Value->Prop}{n:Nat}(h:∀a us,us.length=n->P (a::us))(us:List Value)(e:us.length=n+1):P us:=by
 cases us with
 |nil=>cases e
 |cons a r=>exact h a r (Nat.succ.inj e)
theorem zA{P:List Value->Prop}(h:∀a,P [a]):∀us,us.length=1->P us:=EA λa=>cX (h a)
theorem ij{P:List Value->Prop}(h:∀a b,P [a,b]):∀us,us.length=2->P us:=EA λa=>EA λb=>cX (h a b)
theorem mE{P:List Value->Prop}(h:∀a b c,P [a,b,c]):∀us,us.length=3->P us:=EA λa=>EA λb=>EA λc=>cX (h a b c)
theorem oT{P:List Value->Prop}(h:∀a b c d,P [a,b,c,d]):∀us,us.length=4->P us:=EA λa=>EA λb=>EA λc=>EA λd=>cX (h a b c d)
theorem uY{P:List Value->Prop}(h:∀a b c d e,P [a,b,c,d,e]):∀us,us.length=5->P us:=EA λa=>EA λb=>EA λc=>EA λd=>EA λe=>cX (h a b c d e)
theorem vZ{P:List Value->Prop}(h:∀a b c d e f,P [a,b,c,d,e,f]):∀us,us.length=6->P us:=EA λa=>EA λb=>EA λc=>EA λd=>EA λe=>EA λf=>cX (h a b c d e f)
theorem QC{p:Prop}(h:∀G:Prop,(p->G)->G):p:=h p id
end L2
end
section
namespace L2
open PySem PySem.Spec PyProof.Rows
section
variable{X:Cx}{K:PySem.W.Frag}
theorem cx(h:X.K=K){es:List Expr}{k:Nat}{t:CU}{n:Nat}{pos:Pos}(hc:X.calm=true)(hg:qX X es t)(hn:(assignEach es X.env).length=n:=by rfl)(hst:(assignEach es X.env).findIdx? (·.1)=none:=by rfl):PG X (.Tuple es k pos) (tT K n t):=h▸rW hc hg hn hst
theorem dN(h:X.K=K){o:Expr}{to:TE}{name:Str}{apos cpos:Pos}{T id:String}{r:V->List V->Hp->VK->Prop}(pa:PlainAttrs T)(slot:Slot T name id)(hty:typeOf (.builtin id)=pure (.type "method_descriptor"))(hm:OP X id r)(ho:PE X o to)(hbase:attributeBase o name X.env (eval o X.env)=eval o X.env:=by rfl)(hline:(apos.endLine==cpos.line)=true:=by rfl):PE X (.Call (.Attribute o name apos) [] [] cpos) (wU K T r to):=h▸oW pa slot hty hm ho hbase hline
def IU:V->V->Hp->VK->Prop:=λo i H Q=>∃p xs n v,o=.ref p/\i=.int ((n:Nat):Int)/\H p=some (.lst xs)/\xs[n]?=some v/\Q v H
theorem TQ:pX X IU:=by
 intro pins s σ H o i ov iv Q I ro ri h;obtain⟨p,xs,n,v,rfl,rfl,hp,hv,q⟩:=h;cases ro;obtain⟨t,rfl⟩:=ri;obtain⟨hz,its,m,r,hob⟩:=I.Kb p _ hp;obtain⟨u,hu,ru⟩:=r.get hv;have hl:=r.length;have hlt:n<its.length:=(List.getElem?_eq_some_iff.mp hu).1;have hn:=cn;have hL:s.heap.IsList p its.toArray:=⟨_,hob,rfl,⟨_,rfl⟩⟩;exact wpAny_getItem_list (x:=u) hL (by lia) (by lia) (by rw[Int.toNat_natCast];simpa using hu) ⟨v,H,I,ru,q⟩
end
theorem iB{α β:Type}{f:α->β}{l m:List β}(h:l.Perm m):∀{ps:List α},m=ps.map f->∃qs:List α,qs.Perm ps/\l=qs.map f:=by
 induction h with
 |nil=>
  intro ps e;have:ps=[]:=List.map_eq_nil_iff.mp e.symm;subst this;exact⟨[],.refl _,rfl⟩
 |cons x _ ih=>
  intro ps e;cases ps with
  |nil=>simp at e
  |cons y ps=>
   rw[List.map_cons] at e;injection e with e1 e2;obtain⟨qs,h1,h2⟩:=ih e2;exact⟨y::qs,h1.cons y,by rw[List.map_cons,<-e1,<-h2]⟩
 |swap x y l=>
  intro ps e
  match ps,e with
  |a::b::ps,e=>
   simp only[List.map_cons,List.cons.injEq] at e;obtain⟨e1,e2,e3⟩:=e;exact⟨b::a::ps,.swap a b ps,by simp only[List.map_cons];rw[<-e1,<-e2,<-e3]⟩
 |trans _ _ ih1 ih2=>
  intro ps e;obtain⟨qs,h1,h2⟩:=ih2 e;obtain⟨rs,h3,h4⟩:=ih1 h2;exact⟨rs,h3.trans h1,h4⟩
theorem xF{α β:Type}{f:α->β}{l:List β}{ps:List α}(h:l.Perm (ps.map f)):∃qs:List α,qs.Perm ps/\l=qs.map f:=iB h rfl
section
variable{X:Cx}{K:PySem.W.Frag}
def pV(p:Nat×Nat):List V:=[.int (p.1:Int),.int (p.2:Int)]
def gI(K:PySem.W.Frag):List V->Hp->VK->Prop:=λvs H Q=>∃(a:Addr)(ps:List (Addr×(Nat×Nat))),vs=[V.ref a]/\Ha K H a (ps.map λp=>V.ref p.1)/\(∀p∈ps,H p.1=some (.tup (pV p.2)))/\ps.length<=1000/\
 ∀(qs:List (Addr×(Nat×Nat)))(b:Addr),qs.Perm ps->(qs.map Prod.snd).Pairwise KT.lexLe->H b=none->Q (.ref b) (upd H b (.lst (qs.map λp=>V.ref p.1)))
theorem mN:∀{ps:List (Addr×(Nat×Nat))}{us:List Value},Vals (ps.map λp=>V.ref p.1) us->us=ps.map λp=>Value.ref p.1
 |[],_,r=>by cases r;rfl
 |p::ps,_,r=>by
  rw[List.map_cons] at r;cases r with
  |cons h t=>rw[mN t];cases h;rfl
theorem uD:∀(ps:List (Addr×(Nat×Nat))),Vals (ps.map λp=>V.ref p.1) (ps.map λp=>Value.ref p.1)
 |[]=>.nil
 |p::ps=>.cons rfl (uD ps)
theorem rJ:∀ps:List (Addr×(Nat×Nat)),((ps.map λp=>Value.ref p.1).zip (ps.map λp=>Value.ref p.1))=ps.map λp=>((Value.ref p.1,Value.ref p.1):Keyed)
 |[]=>rfl
 |p::ps=>by rw[List.map_cons,List.map_cons,List.zip_cons_cons,rJ ps]
def gX:Nat->Bool:=λ_=>false
theorem lG{pins:List (Addr×Obj)}{σ:St}{H:Hp}{s:Shared}(I:Inv X pins σ H s){a:Addr}{p:Nat×Nat}(h:H a=some (.tup (pV p))):PyProof.Rows.G.tupKeyC s.heap gX (.ref a)=some [Sum.inl (p.1:Int),Sum.inl (p.2:Int)]/\∃f,TupOf s.heap gX (.ref a) f:=by
 obtain⟨_,its,r,o,ho,hc,n,hd⟩:=I.Kb a _ h;cases r with
 |cons r1 t=>
  cases t with
  |cons r2 t=>
   cases t;obtain⟨t1,rfl⟩:=r1;obtain⟨t2,rfl⟩:=r2;refine⟨?_,.int (p.1:Int) t1,a,o,_,n,rfl,ho,hc,hd,rfl,λ_=>⟨_,_,rfl⟩,λz=>absurd z (by decide)⟩;unfold PyProof.Rows.G.tupKeyC;have e1:PyProof.Rows.G.isTupObj s.heap (.ref a)=true:=by simp[PyProof.Rows.G.isTupObj,ho,hc]
   rw[if_pos e1];simp only[tupKey,ho,hd];rfl
theorem EN{h:Heap}:∀{ps:List (Addr×(Nat×Nat))},(∀p∈ps,∃f,TupOf h gX (.ref p.1) f)->∃fs,TupsOf h gX (ps.map λp=>Value.ref p.1) fs
 |[],_=>⟨[],.nil⟩
 |p::ps,k=>by
  obtain⟨f,hf⟩:=k p (List.mem_cons_self ..);obtain⟨fs,hfs⟩:=EN λq hq=>k q (List.mem_cons_of_mem _ hq);exact⟨f::fs,.cons hf hfs⟩
theorem tO{x y:Nat×Nat}(h:(listOrd itemOrd).kle [Sum.inl (x.1:Int),Sum.inl (x.2:Int)] [Sum.inl (y.1:Int),Sum.inl (y.2:Int)]):KT.lexLe x y:=by
 have h:lexLt itemOrd [Sum.inl (y.1:Int),Sum.inl (y.2:Int)] [Sum.inl (x.1:Int),Sum.inl (x.2:Int)]=false:=h;rw[lex_false] at h;have e1:∀a b:Int,itemOrd.blt (Sum.inl a) (Sum.inl b)=decide (a<b):=λ_ _=>rfl;rw[e1,e1] at h;unfold KT.lexLe;obtain⟨h1,h2⟩:=h;have h1:=of_decide_eq_false h1;rcases h2 with h2|h2
 ·have h2:=of_decide_eq_true h2;left;lia
 ·rw[lex_false,e1,e1] at h2;have h3:=of_decide_eq_false h2.1;by_cases z:x.1<y.1
  ·left;exact z
  ·right;lia
theorem Mx(e:X.K=K):ye X (.builtin "sorted") (gI K):=by
 subst e;intro pins s σ H vs us Q I r h;obtain⟨a,ps,rfl,hs,ht,hn,q⟩:=h;obtain⟨its,rv,hl,_⟩:=I.list hs;rw[Vals.cS r];have ei:=mN rv;subst ei;obtain⟨fs,hfs⟩:=EN (h:=s.heap) λp hp=>(lG I (ht p hp)).2;have hsz:=sizeLine_eq;refine PyProof.Rows.G.sorted_tups hl.isList hfs (λv hv=>?_) (by rw[List.length_map];lia) λst' hp hs' _=>?_
 ·obtain⟨p,hp,rfl⟩:=List.mem_map.mp hv;exact⟨_,(lG I (ht p hp)).1⟩
 ·generalize arrOf st'=arr at hp hs';have hlp:arr.toList.Perm ((ps.map λp=>Value.ref p.1).zip (ps.map λp=>Value.ref p.1)):=by
   have e:=Array.perm_iff_toList_perm.mp hp
   rwa [pairsOf_toList] at e
  have hz:=rJ ps;rw[hz] at hlp;obtain⟨qs,hq1,hq2⟩:∃qs:List (Addr×(Nat×Nat)),qs.Perm ps/\arr.toList=qs.map λp=>((Value.ref p.1,Value.ref p.1):Keyed):=by
   exact xF hlp
  obtain⟨ep,he'⟩:=PyProof.Rows.sortedAll_at s.heap (ps.map λp=>Value.ref p.1) (arr.map (·.2));have ho:(arr.map (·.2)).toList=qs.map λp=>Value.ref p.1:=by
   rw[Array.toList_map,hq2,List.map_map];rfl
  have hlen:(qs.map λp=>V.ref p.1).length<=sizeLine:=by rw[List.length_map,hq1.length_eq];lia
  refine⟨.ref _,upd H (s.heap.objs.size+1) (.lst (qs.map λp=>V.ref p.1)),I.laid (t':=s.toks) (λ_ _=>PyProof.Rows.sortedAll_old) (Nat.le_succ _) ⟨hlen,_,ep,uD qs,?_⟩,rfl,q qs _ hq1 ?_ (I.Kb.fresh (Nat.le_succ _))⟩
  ·rw[he'];have:(arr.map (·.2))=(qs.map λp=>Value.ref p.1).toArray:=Array.ext' (by rw[ho]);rw[this]
  ·rw[List.pairwise_map,List.pairwise_iff_getElem];intro i j hi hj hij;have hsize:(pairsOf (ps.map λp=>Value.ref p.1)).size=qs.length:=by rw[pairsOf_size,List.length_map,hq1.length_eq]
   have hk:=hs' i j (Nat.le_of_lt hij) (by rw[hsize];exact hj);have kk:∀(i:Nat)(hi:i<qs.length),KK (PyProof.Rows.G.tupKindC s.heap gX) arr i=[Sum.inl (qs[i].2.1:Int),Sum.inl (qs[i].2.2:Int)]:=by
    intro i hi;have e:arr[i]?=some ((Value.ref qs[i].1,Value.ref qs[i].1):Keyed):=by
     rw[<-Array.getElem?_toList,hq2,List.getElem?_map,List.getElem?_eq_getElem hi];rfl
    unfold KK;rw[e];have:=(lG I (ht _ (hq1.mem_iff.mp (List.getElem_mem hi)))).1;show((PyProof.Rows.G.tupKeyC s.heap gX (Value.ref qs[i].1)).getD [])=_;rw[this];rfl
   rw[kk i hi,kk j hj] at hk;exact tO hk
end
end L2
end
section
namespace L2
open PySem PySem.Spec PyProof.Rows
def hide(N:List Addr)(H:Hp):Hp:=λb=>if b∈N then none else H b
def back(N:List Addr)(H H':Hp):Hp:=λb=>if b∈N then H b else H' b
def uG(N:List Addr)(H:Hp):Prop:=∀x∈N,(∃xs,H x=some (.lst xs))\/(∃C dx fs,H x=some (.ins C dx fs)/\dx∈N)\/∃b∈N,H x=some (.own b)
theorem Rf{N:List Addr}{H:Hp}{b:Addr}(h:b∈N):hide N H b=none:=if_pos h
theorem Wb{N:List Addr}{H:Hp}{b:Addr}(h:b∉N):hide N H b=H b:=if_neg h
theorem Dg{N:List Addr}{H H':Hp}{b:Addr}(h:b∈N):back N H H' b=H b:=if_pos h
theorem Aj{N:List Addr}{H H':Hp}{b:Addr}(h:b∉N):back N H H' b=H' b:=if_neg h
theorem Io{N:List Addr}{H:Hp}{b:Addr}{o:HO}(h:hide N H b=some o):b∉N/\H b=some o:=by
 by_cases hb:b∈N
 ·rw[Rf hb] at h;cases h
 ·rw[Wb hb] at h;exact⟨hb,h⟩
section
variable{P:Program}{w:World}{H H':Hp}{h h':Heap}{a:Addr}{o:HO}{N:List Addr}
theorem aR(x:Zj P w H h)(k:uG N H):Zj P w (hide N H) h:=λa o e=>by
 obtain⟨ha,e⟩:=Io e;have q:=x a o e;have Pw:∀b xs,H b=some (.tup xs)->hide N H b=some (.tup xs):=λb xs eb=>by
  rw[Wb]
  ·exact eb
  ·intro hb;rcases k b hb with⟨ys,z⟩|⟨C,dx,fs,z,_⟩|⟨c,_,z⟩<;>(rw[eb] at z;cases z)
 refine q.Pn (λb u _ r=>r) (λb eb=>?_) Pw;rw[Wb]
 ·exact eb
 ·intro hb;rcases k b hb with⟨ys,z⟩|⟨C,dx,fs,z,_⟩|⟨c,hc,z⟩
  ·rw[eb] at z;cases z
  ·rw[eb] at z;cases z
  ·rw[eb] at z;have z:=Option.some.inj z;injection z with z;subst z;exact ha hc
theorem ZQ{fs:List Addr}(x:Zj P w H h)(k:uG N H)(x':Zj P w H' h')(u:Un fs [] (hide N H) H' h h')(hf:∀b∈fs,H b=none):Zj P w (back N H H') h'/\Un fs [] H (back N H H') h h'/\∀b∈N,H' b=none:=by
 have some_of:∀b∈N,∃o,H b=some o:=λb hb=>by
  rcases k b hb with⟨ys,z⟩|⟨C,dx,fs,z,_⟩|⟨c,hc,z⟩
  ·exact⟨_,z⟩
  ·exact⟨_,z⟩
  ·exact⟨_,z⟩
 have keep:∀b∈N,∀ob,h.get? b=some ob->h'.get? b=some ob:=λb hb ob e=>u.keep b ob e (Rf hb) (λz=>by
  obtain⟨o,ho⟩:=some_of b hb;rw[hf b z] at ho;cases ho) (by simp)
 have free:∀b∈N,H' b=none:=λb hb=>by
  obtain⟨o,ho⟩:=some_of b hb;obtain⟨ob,hob⟩:∃ob,h.get? b=some ob:=by
   have hlt:=(x b o ho).lt;rcases k b hb with⟨ys,z⟩|⟨C,dx,fs,z,_⟩|⟨c,hc,z⟩
   ·obtain⟨_,_,_,_,e⟩:=x b _ z;exact⟨_,e⟩
   ·obtain⟨_,_,_,e,_⟩:=x b _ z;exact⟨_,e⟩
   ·obtain⟨ob,e⟩:=x b _ z;exact⟨_,e⟩
  exact u.free b ob hob (Rf hb) (by simp)
 have ext:∀b o,H' b=some o->back N H H' b=some o:=λb o e=>by
  rw[Aj]
  ·exact e
  ·intro hb;rw[free b hb] at e;cases e
 have notup:∀b xs,H b=some (.tup xs)->b∉N:=λb xs eb hb=>by
  rcases k b hb with⟨ys,z⟩|⟨C,dx,fs,z,_⟩|⟨c,_,z⟩<;>(rw[eb] at z;cases z)
 refine⟨λa o e=>?_,⟨λb ob q n hb hx=>?_,λb ob q n hb hx=>?_,λb ob q n hx=>?_,u.there,λb xs q=>?_,λb ob v q=>?_,λb ps q=>?_⟩,free⟩
 ·by_cases ha:a∈N
  ·rw[Dg ha] at e;rcases k a ha with⟨ys,z⟩|⟨C,dx,gs,z,hd⟩|⟨c,hc,z⟩
   ·rw[z] at e;cases e;obtain⟨h1,its,n,h2,h3⟩:=x a _ z;exact⟨h1,its,n,h2,keep a ha _ h3⟩
   ·rw[z] at e;cases e;obtain⟨h1,h2,h3,h4,mA,⟨od,es,ep,h5,h6⟩,h7⟩:=x a _ z;exact⟨by rw[Dg hd];exact h1,h2,h3,keep a ha _ h4,mA,⟨od,es,ep,keep dx hd _ h5,h6⟩,h7⟩
   ·rw[z] at e;cases e;obtain⟨ob,h1⟩:=x a _ z;exact⟨ob,keep a ha _ h1⟩
  ·rw[Aj ha] at e;exact(x' a o e).Pn (λb v _ r=>r) (λb eb=>ext b _ eb) λb xs eb=>ext b _ eb
 ·exact u.keep b ob q (by by_cases z:b∈N;exact Rf z;rw[Wb z];exact n) hb hx
 ·exact u.slot b ob q (by by_cases z:b∈N;exact Rf z;rw[Wb z];exact n) hb hx
 ·have nb:b∉N:=λz=>by obtain⟨o,ho⟩:=some_of b z;rw[n] at ho;cases ho
  rw[Aj nb];exact u.free b ob q (by rw[Wb nb];exact n) hx
 ·exact ext b _ (u.Pw b xs (by rw[Wb (notup b xs q)];exact q))
 ·by_cases hb:b∈N
  ·rw[Dg hb];exact q
  ·exact ext b _ (u.mw b ob v (by rw[Wb hb];exact q))
 ·by_cases hb:b∈N
  ·rw[Dg hb];exact⟨#[],by rw[q];simp⟩
  ·obtain⟨more,e⟩:=u.zB b ps (by rw[Wb hb];exact q);exact⟨more,ext b _ e⟩
end
def EV(sp:Sp):Sp:=λvs H Q E=>∃N,uG N H/\sp vs (hide N H) (λv H'=>(∀x∈N,H' x=none)->Q v (back N H H')) E
theorem Ua.frame{P:Program}{w:World}{K:PySem.W.Frag}{mg:Str->Option Value}{base:Heap}{k:Nat}{f:Addr}{fd:FuncData}{ps:List Str}{sp:Sp}(F:Ua P w K mg base nc k f fd ps sp):Ua P w K mg base nc k f fd ps (EV sp) where
 len:=λvs H Q E⟨N,_,h⟩=>F.len vs _ _ E h
 run:=λA outer s H args us vs Q E hr he hb hv⟨N,hN,h⟩=>by
  have he':tG P w K mg base A outer s (hide N H):=by
   refine⟨he.frames,he.mod,λb o e=>⟨(he.bs b o e).1,?_⟩,he.jQ,he.Tt,λb hb=>?_,aR he.Kb hN,he.bare⟩
   ·by_cases z:b∈N
    ·exact Rf z
    ·rw[Wb z];exact(he.bs b o e).2
   ·by_cases z:b∈N
    ·exact Rf z
    ·rw[Wb z];exact he.qT b hb
  refine codeAny_mono (F.run A outer s (hide N H) args us vs _ E hr he' hb hv h) λr s' hq=>?_;cases r with
  |error e=>exact hq
  |ok fl=>
   cases fl with
   |ret u=>
    obtain⟨v,H',os,bare,un,Kb,rv,q⟩:=hq;obtain⟨h1,h2,h3⟩:=ZQ he.Kb hN Kb un he.qT;exact⟨v,back N H H',os,bare,h2,h1,rv,q h3⟩
   |next=>exact hq
   |brk=>exact hq
   |cont=>exact hq
end L2
end
section
namespace L2
open PySem PySem.Spec PyProof.Rows
def VD(K:PySem.W.Frag)(J:It)(H:Hp)(ps:List (V×V)):Prop:=∀(i:Nat)(H1:Hp),Aa H H1->(i<ps.length->J.go i H1/\∀x H2,J.rM i H1 x H2->Aa H1 H2/\∃T p,ps[i]?=some p/\x=.ref T/\mh K H2 T [p.1,p.2])/\(ps.length<=i->J.stop i H1)
def KG(xs:List V):List (V×V):=(List.range xs.length).map λ(i:Nat)=>(V.int ((i:Nat):Int),xs.getD i .Vb)
theorem Gj{xs:List V}{i:Nat}{x:V}(h:xs[i]?=some x):(KG xs)[i]?=some (V.int (i:Int),x):=by
 unfold KG;rw[List.getElem?_map,List.getElem?_range (List.getElem?_eq_some_iff.mp h).1,Option.map_some,List.getD_eq_getElem?_getD,h];rfl
theorem rg(xs:List V):(KG xs).length=xs.length:=by unfold KG;simp
theorem vA{K:PySem.W.Frag}{H:Hp}{a:Addr}{xs:List V}(h:Ha K H a xs):VD K (FY K a) H (KG xs):=λi H1 e=>by
 rw[rg];refine⟨λhi=>⟨⟨xs,xs[i],e.seq h,List.getElem?_eq_getElem hi⟩,λx H2 y=>?_⟩,λhi=>⟨xs,e.seq h,hi⟩⟩;obtain⟨T,z,rfl,hT,rfl,hz⟩:=y;exact⟨qa hT,T,_,Gj (hz xs (e.seq h)),rfl,mh.of ia⟩
theorem MP{K:PySem.W.Frag}{H:Hp}{a b:Addr}{xs ys:List V}(h:Ha K H a xs)(h':Ha K H b ys)(hl:xs.length=ys.length):VD K (HY K a b) H (xs.zip ys):=λi H1 e=>by
 have hz:(xs.zip ys).length=xs.length:=by rw[List.length_zip];lia
 rw[hz];refine⟨λhi=>⟨⟨xs,ys,xs[i],ys[i]'(by lia),e.seq h,e.seq h',List.getElem?_eq_getElem hi,List.getElem?_eq_getElem _⟩,λx H2 y=>?_⟩,λhi=>⟨xs,ys,e.seq h,e.seq h',.inl hi⟩⟩;obtain⟨T,u,v,rfl,hT,rfl,hu,hv⟩:=y;exact⟨qa hT,T,(u,v),List.getElem?_zip_eq_some.mpr ⟨hu xs (e.seq h),hv ys (e.seq h')⟩,rfl,mh.of ia⟩
theorem pJ{K:PySem.W.Frag}{H:Hp}{a:Addr}{xs:List V}{ps:List (V×V)}(h:Ha K H a xs)(hp:Paired (λx p=>∃T,x=.ref T/\H T=some (.tup [p.1,p.2])) xs ps):VD K (XS K a) H ps:=λi H1 e=>by
 have hl:=hp.length;refine⟨λhi=>⟨⟨xs,xs[i],e.seq h,List.getElem?_eq_getElem (by lia)⟩,λx H2 y=>?_⟩,λhi=>⟨xs,e.seq h,by lia⟩⟩;obtain⟨rfl,hy⟩:=y;obtain⟨p,hpi,T,rfl,hT⟩:=Pc hp (hy xs (e.seq h));exact⟨Aa.refl _,T,p,hpi,rfl,mh.of (e _ _ hT)⟩
def nX(K:PySem.W.Frag)(J:It)(i j:Nat)(tt:TT)(te:TE)(σ:St)(H:Hp)(Q:VK):Prop:=∀D,H D=none->∃W:Nat->Nat->Hp->Prop,(∃m,W 0 m (upd H D (.lst [])))/\∀k m H1,W k m H1->
 (J.stop k H1/\Q (.ref D) H1)\/(J.go k H1/\∃Nx:Hp->Prop,(∀H',Nx H'->∃m',m'<m/\W (k+1) m' H')/\∀x H',J.rM k H1 x H'->tT K 2 (WG (Mb i) (WG (Mb j) HV)) x (wipe σ [i,j]) H' λσ2 H2=>wipe σ2 [i,j]=wipe σ [i,j]/\tt σ2 H2 λb H3=>
  if b=true then te σ2 H3 λy H4=>∃acc,H4 D=some (.lst acc)/\acc.length<sizeLine/\Nx (upd H4 D (.lst (acc++[y]))) else Nx H3)
theorem iG{K:PySem.W.Frag}{wi:TI}{i j:Nat}{tt:TT}{te:TE}{σ:St}{H:Hp}{Q:VK}:iX wi (tT K 2 (WG (Mb i) (WG (Mb j) HV))) tt te [i,j] σ H Q=wi σ H (λJ H1=>nX K J i j tt te σ H1 Q):=rfl
theorem Wr{K:PySem.W.Frag}{J:It}{ps:List (V×V)}{i j:Nat}{tt:TT}{te:TE}{σ:St}{H:Hp}{Q:VK}(hij:i≠j)(g:Nat->V×V->Option V->Hp->Prop)(hJ:VD K J H ps)(hz:ps.length<=sizeLine)(mono:∀n p y D acc H1 H2,g n p y H1->H1 D=some (.lst acc)->H D=none->ab D H1 H2->g n p y H2)(step:∀(n:Nat)(p:V×V)(H1:Hp)(R:Option V->Hp->Prop),ps[n]?=some p->Aa H H1->(∀y H2,g n p y H2->Aa H1 H2->R y H2)->tt (((wipe σ [i,j]).set i (some p.1)).set j (some p.2)) H1 λb H3=>if b=true then te (((wipe σ [i,j]).set i (some p.1)).set j (some p.2)) H3 λy H4=>R (some y) H4 else R none H3)(fin:∀(D:Addr)(ys:List (Option V))(H1:Hp),H D=none->H1 D=some (.lst (ys.filterMap id))->Aa H H1->ys.length=ps.length->(∀n p,ps[n]?=some p->∃y,ys[n]?=some y/\g n p y H1)->Q (.ref D) H1):nX K J i j tt te σ H Q:=by
 intro D hD;let Wd:Nat->Hp->Prop:=λk H1=>∃ys:List (Option V),H1 D=some (.lst (ys.filterMap id))/\ab D H H1/\ys.length=k/\∀n p,n<k->ps[n]?=some p->∃y,ys[n]?=some y/\g n p y H1;refine⟨λk m H1=>m=ps.length-k/\k<=ps.length/\Wd k H1,⟨ps.length,rfl,Nat.zero_le _,[],ia,bb,rfl,λj x hj=>absurd hj (Nat.not_lt_zero _)⟩,?_⟩;rintro k m H1 ⟨rfl,hk,ys,hd,hs,hl,hy⟩;have hS:Aa H H1:=hs.same hD;by_cases hlt:k<ps.length
 ·obtain⟨go,rM⟩:=(hJ k H1 hS).1 hlt;refine .inr ⟨go,Wd (k+1),λH' w=>⟨ps.length-(k+1),by lia,rfl,hlt,w⟩,λx H' y=>?_⟩;obtain⟨s1,T,p,hp,rfl,hT⟩:=rM x H' y;have hd':=s1 _ _ hd;refine⟨T,_,rfl,hT,rfl,_,_,rfl,_,_,rfl,rfl,?_,?_⟩
  ·show((((((σ.set j none).set i none).set i (some p.1)).set j (some p.2)).set j none).set i none)=(σ.set j none).set i none;rw[List.set_set,List.set_set,List.set_comm _ _ hij,List.set_set,List.set_set]
  ·refine step k p H' (λy H4=>match y with
    |some y=>∃acc,H4 D=some (.lst acc)/\acc.length<sizeLine/\Wd (k+1) (upd H4 D (.lst (acc++[y])))
    |none=>Wd (k+1) H4) hp (hS.trans s1) λy H2 hg h2=>?_
   have hd2:=h2 _ _ hd';have h12:=s1.trans h2;cases y with
   |none=>
    refine⟨ys++[none],by rw[List.filterMap_append];simpa using hd2,hs.trans (h12.x D),by simp[hl],λn z hn hz'=>?_⟩;by_cases hjk:n<k
    ·obtain⟨y,h1,h2'⟩:=hy n z hjk hz';exact⟨y,by rw[List.getElem?_append_left (by lia)];exact h1,mono n z y D _ H1 H2 h2' hd hD (h12.x D)⟩
    ·have e:n=k:=by lia
     subst e;rw[hp] at hz';cases hz';exact⟨none,by rw[List.getElem?_append_right (by lia),hl,Nat.sub_self];rfl,hg⟩
   |some v=>
    have hlen:(ys.filterMap id).length<=ys.length:=List.length_filterMap_le ..
    refine⟨_,hd2,by lia,ys++[some v],by rw[ia,List.filterMap_append];simp,(hs.trans (h12.x D)).trans bb,by simp[hl],λn z hn hz'=>?_⟩;by_cases hjk:n<k
    ·obtain⟨y,h1,h2'⟩:=hy n z hjk hz';exact⟨y,by rw[List.getElem?_append_left (by lia)];exact h1,mono n z y D _ H1 _ h2' hd hD ((h12.x D).trans bb)⟩
    ·have e:n=k:=by lia
     subst e;rw[hp] at hz';cases hz';exact⟨some v,by rw[List.getElem?_append_right (by lia),hl,Nat.sub_self];rfl,mono n p _ D _ H2 _ hg hd2 hD bb⟩
 ·have e:k=ps.length:=by lia
  subst e;exact .inl ⟨(hJ _ H1 hS).2 (Nat.le_refl _),fin D ys H1 hD hd hS hl λn p hp=>hy n p (List.getElem?_eq_some_iff.mp hp).1 hp⟩
end L2
end
section
namespace PySem
open PyProof.Rows
section
variable{prog:Program}{w:World}{K:Type}[DecidableEq K]{knd:HeapKind prog w K}{A:Around}{E:Value->Shared->Prop}{s:Shared}
theorem kd_len{d:Addr}{xs:List (K×Addr×Value)}{Q:Value->Shared->Prop}(hd:(d==sysModules)=false)(hm:s.heap.DictOfH knd d xs)(hfit:(xs.length:Int)<2^63)(h:Q (.int xs.length (s.toks+1)) {s with toks:=s.toks+1+1}):wpAny (model prog w) A (call (.builtin "len") [.ref d]) Q E s:=by
 refine Calls.call_function_entry kind_len plain_len entry_len (args_len1 _) ?_;have ml:MeetsIn prog w (Builtin.«dict.__len__» ⟨[.ref d],[]⟩) (λ_ R s=>s.heap.DictOfH knd d xs/\R (.ok (.ret (.int xs.length s.toks))) {s with toks:=s.toks+1}):=
  .of_wp λA R s⟨hm,h⟩=>by
   obtain⟨o,es,ep,ho,hc,hdat,hk,_,hn⟩:=hm;show wpAny _ _ (dictSize d>>=_) _ _ s;unfold dictSize;refine wpAny_bind (wpAny_bind (wpAny_dictEntries ho hdat (wpAny_pure ?_)));show wpAny _ _ (Builtin.Dict.pendingCount d>>=_) _ _ s;refine wpAny_bind (wpAny_pendingCount_other hd ?_);refine wpAny_ret_mkInt ?_;rw[Nat.add_zero,size_of_entries hk];exact h
 unfold Builtin.«len»
 refine wpAny_bind (m:=oneArg "len" _) (wpAny_pure ?_);refine wpAny_bind (m:=callSpecial? (.ref d) (Str.ofString "__len__")) (wpAny_callSpecial?_slot (name:=Str.ofString "__len__") hm.typeIs F.slot_dict_len
  (call_meetsIn F.slot_dict_len hm.typeIs F.entry_dict_len (F.args_dict_len_1 _) ml ⟨hm,?_⟩))
 show wpAny _ _ _ _ _ {s with toks:=s.toks+1};refine wpAny_bind (wpAny_holding (wpAny_pure ?_));refine wpAny_bind (wpAny_letGo ?_);show wpAny _ _ (if((xs.length:Nat):Int)<0 then _ else _) _ _ _;rw[if_neg (by lia)];show wpAny _ _ (if((xs.length:Nat):Int)>=2^63 then _ else _) _ _ _;rw[if_neg (by lia)];exact wpAny_bind (wpAny_mkInt (wpAny_pure ⟨_,rfl,h⟩))
theorem pR{a:Addr}{Q:Bool->Shared->Prop}(ht:s.TypeIs (.ref a) "tuple")(h:∀b,Q b s):wpAny (model prog w) A (Builtin.Dict.quietEq (.ref a)) Q E s:=by
 unfold Builtin.Dict.quietEq;exact wpAny_bind (wpAny_specialOf ht F.slot_tuple_eq.lookup (wpAny_pure (h _)))
theorem eK{id:String}{d:Addr}{o:Obj}{es ep}{Q:Array DictEntry->Shared->Prop}(ho:s.heap.get? d=some o)(hd:o.data=.dict es ep)(hq:∀e∈es.toList,∃a,e.key=.ref a/\s.TypeIs (.ref a) "tuple")(hh:∀e∈es.toList,(es.filter (·.hash==e.hash)).size<=1)(h:Q es s):wpAny (model prog w) A (Builtin.Dict.entriesForEmpty id d) Q E s:=by
 unfold Builtin.Dict.entriesForEmpty;refine wpAny_bind (wpAny_dictEntries ho hd ?_);refine wpAny_bind ?_;rw[<-Array.forIn_toList];refine wpAny_forIn_list _ (λrest _ s'=>s'=s/\∀e∈rest,e∈es.toList) _ ?_ ?_ _ _ ⟨rfl,λe he=>he⟩
 ·rintro e rest b s' ⟨rfl,hm⟩;have he:=hm e (List.mem_cons_self ..);obtain⟨a,ek,ht⟩:=hq e he;rw[ek];refine wpAny_bind (pR ht λq=>?_);have hn:¬(es.filter (·.hash==e.hash)).size>1:=by have:=hh e he;lia
  have fin:(s'=s'/\∀x∈rest,x∈es.toList):=⟨rfl,λx hx=>hm x (List.mem_cons_of_mem _ hx)⟩;cases q with
  |true=>exact wpAny_pure fin
  |false=>
   show wpAny _ _ (if(es.filter (·.hash==e.hash)).size>1 then _ else _) _ _ _;rw[if_neg hn];exact wpAny_pure fin
 ·rintro b s' ⟨rfl,_⟩;exact wpAny_pure h
theorem oR:∀{xs:List (K×Addr×Value)},(xs.map (·.1)).Nodup->(∀x∈xs,∀y∈xs,knd.hash x.1=knd.hash y.1->x.1=y.1)->∀z∈xs,((xs.map (entryOfKey knd)).filter λe=>e.hash==(entryOfKey knd z).hash).length<=1
 |[],_,_,z,hz=>by cases hz
 |x::xs,hn,hi,z,hz=>by
  rw[List.map_cons] at hn;obtain⟨h1,h2⟩:=List.nodup_cons.mp hn;rw[List.map_cons,List.filter_cons];have none_of:knd.hash x.1=knd.hash z.1->((xs.map (entryOfKey knd)).filter λe=>e.hash==(entryOfKey knd z).hash)=[]:=λe=>by
   rw[List.filter_eq_nil_iff];intro q hq;obtain⟨y,hy,rfl⟩:=List.mem_map.mp hq;simp only[beq_iff_eq];intro w;have e3:knd.hash y.1=knd.hash z.1:=w;have:=hi x (List.mem_cons_self ..) y (List.mem_cons_of_mem _ hy) (e.trans e3.symm);exact h1 (this▸List.mem_map.mpr ⟨y,hy,rfl⟩)
  by_cases e:knd.hash x.1=knd.hash z.1
  ·rw[none_of e];split<;>simp
  ·rw[if_neg (by simp only[beq_iff_eq];exact e)];rcases List.mem_cons.mp hz with rfl|hz
   ·exact absurd rfl e
   ·exact oR h2 (λa ha b hb=>hi a (List.mem_cons_of_mem _ ha) b (List.mem_cons_of_mem _ hb)) z hz
theorem DT{o:Addr}{xs:List (K×Addr×Value)}{Q:Value->Shared->Prop}(hoS:(o==sysModules)=false)(ho:s.heap.DictOfH knd o xs)(hsz:xs.length<=sizeLine)(ht:∀x∈xs,s.TypeIs (.ref x.2.1) "tuple")(hi:∀x∈xs,∀y∈xs,knd.hash x.1=knd.hash y.1->x.1=y.1)(h:∀h',(∃q es ep,h'.get? s.heap.objs.size=some q/\q.ExactDict/\q.data=.dict es ep/\es.toList=xs.map (entryOfKey knd))->Heap.SameBut s.heap.objs.size (s.heap.push {cls:=.type "dict",data:=.dict #[]}) h'->Q (.ref s.heap.objs.size) {s with heap:=h'}):wpAny (model prog w) A (call (.type "dict") [.ref o]) Q E s:=by
 refine callType_codes (Q₁:=λobj s₁=>obj=.ref s.heap.objs.size/\s₁={s with heap:=s.heap.push {cls:=.type "dict",data:=.dict #[]}}) F.kt_called_dict (F.kt_typeCall_dict_1 _) F.entry_dict_init (kt_code_dict_new _ ⟨rfl,rfl⟩) ?_;rintro obj s₁ ⟨rfl,rfl⟩;obtain⟨oo,eso,epo,hoo,hco,hdo',heo,hio,hno⟩:=id ho;have hnT:({s with heap:=s.heap.push {cls:=.type "dict",data:=.dict #[]}}:Shared).TypeIs (.ref s.heap.objs.size) "dict":=⟨_,Heap.get?_push_size _ rfl,rfl⟩;have hoo':(s.heap.push {cls:=.type "dict",data:=.dict #[]}).get? o=some oo:=Heap.get?_push_of_some _ hoo;have hoT:({s with heap:=s.heap.push {cls:=.type "dict",data:=.dict #[]}}:Shared).TypeIs (.ref o) "dict":=⟨_,hoo',hco.1⟩;have hdo:s.heap.objs.size≠o:=λe=>absurd (Heap.lt_size hoo) (by rw[e];exact Nat.lt_irrefl _);refine⟨hnT,F.args_dict_init_2 _ _,?_⟩;unfold Builtin.«dict.__init__»
 refine wpAny_bind ?_;unfold Builtin.Dict.selfAndRest;refine wpAny_bind (wpAny_notOrdered_dict hnT ?_);show wpAny _ _ (pure (s.heap.objs.size,[Value.ref o])) _ _ _;refine wpAny_pure ?_;show wpAny _ _ (Builtin.Dict.updateFrom "dict.__init__" s.heap.objs.size (.ref o) [] .none) _ _ _;unfold Builtin.Dict.updateFrom;refine wpAny_bind (wpAny_typeOf hoT ?_);rw[if_neg (by decide)];refine wpAny_bind ?_;unfold Builtin.Dict.merge;refine wpAny_bind ?_;unfold Builtin.Dict.readDirectly;refine wpAny_bind (wpAny_isInstance hoT isSubtype_dict_dict ?_);simp only[Bool.not_true,Bool.false_eq_true,if_false];refine wpAny_bind (wpAny_specialOf hoT F.slot_dict_iter.lookup (wpAny_pure ?_));simp only[beq_self_eq_true,if_true];refine wpAny_bind (wpAny_pure ?_);have fin:∀h',(∃q es ep,h'.get? s.heap.objs.size=some q/\q.ExactDict/\q.data=.dict es ep/\es.toList=xs.map (entryOfKey knd))->Heap.SameBut s.heap.objs.size (s.heap.push {cls:=.type "dict",data:=.dict #[]}) h'->
   wpAny (model prog w) A.in1.in1 (Builtin.Dict.addKeywords s.heap.objs.size []) (λ_ s'=>Q (.ref s.heap.objs.size) s') E {s with heap:=h'}:=λh' a b=>wpAny_pure (h h' a b)
 unfold Builtin.Dict.mergeDict;rw[if_neg (by simpa using hdo)];unfold Builtin.Dict.showsAll;rw[if_neg (by rw[hoS];exact Bool.false_ne_true)];refine wpAny_bind (wpAny_bind (wpAny_pure ?_));refine wpAny_pure ?_;refine wpAny_bind (wpAny_dictEntries hoo' hdo' ?_);have hnew:(s.heap.push {cls:=.type "dict",data:=.dict #[]}).get? s.heap.objs.size=some {cls:=.type "dict",data:=.dict #[]}:=Heap.get?_push_size _ rfl;have hks:∀e∈eso.toList,∃a,e.key=.ref a/\({s with heap:=s.heap.push {cls:=.type "dict",data:=.dict #[]}}:Shared).TypeIs (.ref a) "tuple":=λe he=>by
  rw[heo] at he;obtain⟨x,hx,rfl⟩:=List.mem_map.mp he;obtain⟨ob,h1,h2⟩:=ht x hx;exact⟨_,rfl,ob,Heap.get?_push_of_some _ h1,h2⟩
 have hhs:∀e∈eso.toList,(eso.filter (·.hash==e.hash)).size<=1:=λe he=>by
  rw[<-Array.length_toList,Array.toList_filter];rw[heo] at he⊢;obtain⟨x,hx,rfl⟩:=List.mem_map.mp he;exact oR hno hi x hx
 by_cases hxs:xs=[]
 ·subst hxs;have e0:eso=#[]:=Array.toList_eq_nil_iff.mp heo;subst e0;dsimp only;rw[if_neg (by simp)];refine wpAny_bind (wpAny_dictEpoch hoo' hdo' ?_);refine wpAny_bind (wpAny_dictEntries hoo' hdo' ?_);refine wpAny_bind ?_;rw[Std.Legacy.Range.forIn_eq_forIn_range'];refine wpAny_pure (wpAny_pure (wpAny_bind (wpAny_pure (wpAny_pure ⟨rfl,h _ ⟨_,_,_,hnew,⟨rfl,rfl,rfl⟩,rfl,rfl⟩ (Heap.SameBut.refl _ _)⟩))))
 ·have hf:(eso.all λe=>(keyPart e.key).isSome)=false:=by
   cases hc:(eso.all λe=>(keyPart e.key).isSome) with
   |false=>rfl
   |true=>
    exfalso;obtain⟨x,hx⟩:=List.exists_mem_of_ne_nil _ hxs;have hm:entryOfKey knd x∈eso:=by rw[<-Array.mem_toList_iff,heo];exact List.mem_map.mpr ⟨x,hx,rfl⟩
    have:=Array.all_eq_true_iff_forall_mem.mp hc _ hm;cases this
  simp only[hf,Bool.and_false,Bool.not_false,if_true];refine wpAny_bind (wpAny_dictEntries hnew rfl ?_);simp only[Array.isEmpty_empty,if_true];refine wpAny_bind (eK hoo' hdo' hks hhs ?_);have hne:eso.isEmpty=false:=by
   cases hc:eso.isEmpty with
   |false=>rfl
   |true=>
    exfalso;have:=Array.isEmpty_iff.mp hc;subst this;exact hxs (List.map_eq_nil_iff.mp heo.symm)
  simp only[hne,Bool.not_false,if_true];have hto:eso.size<=sizeLine+1:=by
   have:=size_of_entries heo;lia
  exact wpAny_bind (wpAny_updateDictKeysTo hnew rfl (wpAny_pure (wpAny_bind (wpAny_pure (wpAny_pure ⟨rfl,h _ ⟨_,_,0+1,Heap.get?_update_self _ hnew (Obj.isFreed_of_dict (Obj.data_mapDictKeys rfl _)),Obj.ExactDict.mapDictKeys ⟨rfl,rfl,rfl⟩ _,Obj.data_mapDictKeys rfl _,heo⟩ (Heap.SameBut.update ..)⟩)))) hto)
end
def hv(m i:Nat):Int:=reduceHash (Builtin.Tuple.tupleHashOf [hashInt (m:Int),hashInt (i:Int)])
set_option maxHeartbeats 0 in
theorem JV:((List.range 96).map λa=>hv (a/8) (a % 8)).Nodup:=by decide +kernel
theorem LV{m i m' i':Nat}(h1:m<12)(h2:i<8)(h3:m'<12)(h4:i'<8)(h:hv m i=hv m' i'):m=m'/\i=i':=by
 have e:∀{m i:Nat},m<12->i<8->((List.range 96).map λa=>hv (a/8) (a % 8))[m*8+i]?=some (hv m i):=λ{m i} hm hi=>by
  rw[List.getElem?_map,List.getElem?_range (by lia),Option.map_some,show(m*8+i)/8=m by lia,show(m*8+i) % 8=i by lia]
 have:=(List.getElem?_inj (by simp;lia) JV).mp ((e h1 h2).trans ((congrArg some h).trans (e h3 h4).symm));lia
end PySem
namespace L2
open PySem PySem.Spec PyProof.Rows
section
variable{X:Cx}
theorem EJ:ye X (.builtin "len") (λxs H Q=>∃a kvs,xs=[V.ref a]/\H a=some (.dT kvs)/\Q (.int kvs.length) H):=by
 intro pins s σ H xs us Q I r h;obtain⟨a,kvs,rfl,ha,q⟩:=h;obtain⟨u,rfl,ru⟩:=vals1 r;cases ru;obtain⟨z,hd,ys,rel,dd⟩:=zQ I.Kb ha;refine kd_len hd dd (by rw[<-Paired.length rel];rw[sizeLine_eq] at z;lia) ?_;rw[<-Paired.length rel];exact⟨.int kvs.length,H,I.tok _,⟨_,rfl⟩,q⟩
def ZP(k:List Key):Prop:=∃m i:Nat,m<12/\i<8/\k=[.inl (m:Int),.inl (i:Int)]
theorem Rv{α β:Type}{F:α->β->Prop}:∀{l:List α}{m:List β},Paired F l m->∀y∈m,∃x∈l,F x y
 |_,_,.nil,x,h=>by cases h
 |a::l,b::m,.cons p q,x,h=>by
  rcases List.mem_cons.mp h with rfl|h
  ·exact⟨a,List.mem_cons_self ..,p⟩
  ·obtain⟨y,hy,e⟩:=Rv q x h;exact⟨y,List.mem_cons_of_mem _ hy,e⟩
theorem DJ:ye X (.type "dict") (λxs H Q=>∃a kvs,xs=[V.ref a]/\H a=some (.dT kvs)/\(∀e∈kvs,ZP e.1)/\∀p,H p=none->Q (.ref p) (upd H p (.dT kvs))):=by
 intro pins s σ H xs us Q I r h;obtain⟨a,kvs,rfl,ha,hk,q⟩:=h;obtain⟨u,rfl,ru⟩:=vals1 r;cases ru;obtain⟨z,hd,ys,rel,dd⟩:=zQ I.Kb ha;have hl:=Paired.length rel;have hn:(ys.map (·.1)).Nodup:=by obtain⟨_,_,_,_,_,_,_,_,hn⟩:=dd;exact hn
 have pk:∀y∈ys,ZP y.1/\s.TypeIs (.ref y.2.1) "tuple":=by
  intro y hy;obtain⟨p,hp,h1,h2,h3⟩:=Rv rel y hy;obtain⟨_,its,_,o,e1,e2,_⟩:=I.Kb _ _ h2;exact⟨h1▸hk p hp,o,e1,e2⟩
 refine DT hd dd (by lia) (λy hy=>(pk y hy).2) (λx hx y hy e=>?_) λh'⟨o,es,ep,h1,h2,h3,h4⟩ sb=>?_
 ·obtain⟨m,i,hm,hi,ex⟩:=(pk x hx).1;obtain⟨m',i',hm',hi',ey⟩:=(pk y hy).1;rw[ex,ey] at e⊢;have e:hv m i=hv m' i':=e;obtain⟨rfl,rfl⟩:=LV hm hi hm' hi' e;rfl
 ·have fr:=I.Kb.fresh (Nat.le_refl _);exact⟨.ref _,upd H s.heap.objs.size (.dT kvs),I.laid (t':=s.toks) (λb ob hb=>(sb.2 b (Nat.ne_of_lt (Heap.lt_size hb))).trans (Heap.get?_push_of_some _ hb)) (Nat.le_refl _) ⟨z,beq_eq_false_iff_ne.mpr (Ne.symm (Nat.ne_of_lt I.big)),ys,rel.keeps (λc ts ec=>by rw[ua (ka ec fr)];exact ec),o,es,ep,h1,h2,h3,h4,hn⟩,rfl,q _ fr⟩
end
end L2
end
namespace KK
open PySem PySem.Spec PyProof.Rows L2
open Km382 (Text)
local macro_rules
  | `(tactic| dsimp! [$ls,*]) => `(tactic| simp only [↓reduceIte, ↓Nc, ↓Mc, ↓We, ↓Pe, ↓dC, ↓Ve, ↓Kc, ↓Hc, ↓Fc, ↓Lc, ↓dB, ↓zo, ↓Co, ↓Me, ↓Ao, ↓Te, ↓Dc, ↓Ue, ↓Ic, ↓vo, ↓Se, ↓Ec, ↓Xe, ↓Qe, ↓jo, ↓yo, ↓fo, ↓Oe, ↓gZ, ↓gS, ↓dF, ↓Eo, ↓bo, ↓wo, ↓xo, ↓Bo, ↓Jc, ↓vb, ↓ko, ↓uo, ↓qo, ↓Pb, ↓zb, ↓Qo, ↓Ro, ↓Po, ↓So, ↓pf, ↓qf, ↓Mo, ↓Oo, ↓xI, ↓kf, ↓mf, ↓rf, ↓sf, List.map_cons, List.map_nil, List.length_cons, List.length_nil, List.cons_append, List.nil_append, List.append_nil, Nat.reduceSub, Nat.reduceAdd, List.set_cons_zero, List.set_cons_succ, Xc, Jb, Wi, rI, Vj, Yk, xb, yb, wb, Mb, Dn, He, Le, and_assoc, Option.isSome_some, we, ue, ve, exists_const, List.getElem?_cons_zero, List.getElem?_cons_succ, Option.some.injEq, exists_eq_left', exists_eq_left, exists_and_left, Ge, Ld, Xd, true_and, and_true, V.int.injEq, V.bl.injEq, V.str.injEq, V.ref.injEq, decide_eq_true_eq, Bool.not_eq_true', decide_eq_false_iff_not, Bool.not_true, Bool.not_false, reduceCtorEq, if_true, if_false, List.cons.injEq, $ls,*])
  | `(tactic| dsimp!) => `(tactic| dsimp! [true_and])
theorem Rc{k:Str}{v:V}{r:List (Str×V)}:((k,v)::r).lookup k=some v:=by simp[List.lookup]
theorem ib{k f:Str}{v:V}{r:List (Str×V)}(h:k≠f):((f,v)::r).lookup k=r.lookup k:=by
 rw[List.lookup_cons,beq_eq_false_iff_ne.mpr h]
theorem eh{k:Str}{v u:V}{r:List (Str×V)}:Dd k v ((k,u)::r)=(k,v)::r:=by
 show(if k=k then _ else _)=_;rw[if_pos rfl]
theorem Xb{k f:Str}{v u:V}{r:List (Str×V)}(h:f≠k):Dd k v ((f,u)::r)=(f,u)::Dd k v r:=by
 show(if f=k then _ else _)=_;rw[if_neg h]
def top(i:Nat):Stmt:=PySem.Challenge.pw_wholekitchen_s01_answers.main.body.getD i (.Pass ⟨0,0,0,0⟩)
abbrev jP:Stmt:=top 1
abbrev CW:Stmt:=top 2
abbrev YO:Stmt:=top 3
abbrev lP:Stmt:=top 12
abbrev DD:Stmt:=top 13
abbrev Tz:Stmt:=top 14
abbrev yD:Stmt:=top 15
abbrev Uv:Stmt:=top 16
abbrev uI:Stmt:=inClass (top 24) 0
abbrev aL:Stmt:=inClass (top 25) 0
abbrev wI:Stmt:=inClass (top 26) 0
abbrev jB:Stmt:=inClass (top 27) 0
abbrev vI:Stmt:=inClass (top 28) 0
abbrev FF:Stmt:=inClass (top 29) 0
abbrev Uz:Stmt:=top 30
abbrev xD:Stmt:=top 31
abbrev Wj:Stmt:=top 32
abbrev JF:Stmt:=top 33
abbrev Hw:Stmt:=top 34
abbrev aA:Stmt:=top 40
abbrev nB:Stmt:=top 41
abbrev DI:Stmt:=top 42
abbrev Wz:Stmt:=top 43
abbrev Mn:Stmt:=top 44
abbrev CI:Stmt:=top 45
abbrev mB:Stmt:=top 46
abbrev Nl:Stmt:=top 47
abbrev ED:Stmt:=top 48
abbrev IF:Stmt:=top 61
abbrev Us:Stmt:=top 62
abbrev lU:Stmt:=top 63
abbrev gP:Stmt:=top 64
abbrev rL:Stmt:=top 65
abbrev bP:Stmt:=top 66
abbrev qL:Stmt:=top 67
abbrev fL:Stmt:=top 69
abbrev pS:Stmt:=top 70
abbrev ku:Stmt:=top 71
abbrev EI:Stmt:=top 72
abbrev Uq:Stmt:=top 73
abbrev fP:Stmt:=top 74
abbrev eP:Stmt:=top 75
abbrev zI:Stmt:=top 76
abbrev BI:Stmt:=top 77
abbrev dP:Stmt:=top 78
abbrev EF:Stmt:=inClass (top 80) 0
abbrev Gw:Stmt:=top 81
abbrev kP:Stmt:=top 82
abbrev Xz:Stmt:=top 83
abbrev wj:Stmt:=top 84
abbrev tL:Stmt:=top 85
abbrev HF:Stmt:=top 86
abbrev Qq:Stmt:=top 87
abbrev gL:Stmt:=top 88
abbrev iP:Stmt:=top 89
abbrev zD:Stmt:=top 90
abbrev bL:Stmt:=top 97
abbrev Nn:Stmt:=top 98
abbrev Fn:Stmt:=top 99
abbrev Yz:Stmt:=top 100
abbrev cP:Stmt:=top 101
abbrev mL:Stmt:=top 102
abbrev lS:Stmt:=top 103
abbrev Rq:Stmt:=top 104
abbrev nS:Stmt:=top 105
abbrev oS:Stmt:=top 106
abbrev AI:Stmt:=top 107
abbrev jS:Stmt:=top 109
abbrev aP:Stmt:=top 110
abbrev Sz:Stmt:=inClass (top 113) 0
abbrev GF:Stmt:=top 114
abbrev lB:Stmt:=top 115
abbrev ZO:Stmt:=top 116
abbrev jL:Stmt:=top 117
abbrev Vz:Stmt:=top 118
abbrev pL:Stmt:=top 119
abbrev kS:Stmt:=top 122
abbrev Gn:Stmt:=top 123
abbrev CD:Stmt:=top 124
abbrev Xi:Stmt:=top 125
abbrev BW:Stmt:=top 126
abbrev lL:Stmt:=top 127
abbrev BD:Stmt:=top 128
abbrev AD:Stmt:=top 129
abbrev Ts:Stmt:=top 134
abbrev nL:Stmt:=top 135
abbrev kL:Stmt:=top 136
abbrev mS:Stmt:=top 137
abbrev Zz:Stmt:=top 167
abbrev Ln:Stmt:=top 168
abbrev Sq:Stmt:=top 169
abbrev Kn:Stmt:=top 170
abbrev Tq:Stmt:=top 171
abbrev Jn:Stmt:=top 172
abbrev Hn:Stmt:=top 173
abbrev LF:Stmt:=top 174
abbrev Ss:Stmt:=top 175
abbrev yI:Stmt:=top 176
abbrev XO:Stmt:=top 177
structure wd where
 name:V
 price:V
 bought:V
 used:V
 thrown:V
def ub(o:wd):List (Str×V):=[("name",o.name),("price",o.price),("bought",o.bought),("used",o.used),("thrown",o.thrown)]
theorem Yr(o:wd):(ub o).length<1000:=by show 5<1000;decide
theorem nH(o:wd):(ub o).lookup ("name":Str)=some o.name:=by
 unfold ub;rw[Rc]
theorem JE(o:wd):(ub o).lookup ("price":Str)=some o.price:=by
 unfold ub;rw[ib (by decide +kernel),Rc]
theorem qF(v:V)(o:wd):Dd "price" v (ub o)=ub {o with price:=v}:=by
 unfold ub;rw[Xb (by decide +kernel),eh]
theorem Fp(o:wd):(ub o).lookup ("bought":Str)=some o.bought:=by
 unfold ub;rw[ib (by decide +kernel),ib (by decide +kernel),Rc]
theorem aB(v:V)(o:wd):Dd "bought" v (ub o)=ub {o with bought:=v}:=by
 unfold ub;rw[Xb (by decide +kernel),Xb (by decide +kernel),eh]
theorem Dv(o:wd):(ub o).lookup ("used":Str)=some o.used:=by
 unfold ub;rw[ib (by decide +kernel),ib (by decide +kernel),ib (by decide +kernel),Rc]
theorem UH(v:V)(o:wd):Dd "used" v (ub o)=ub {o with used:=v}:=by
 unfold ub;rw[Xb (by decide +kernel),Xb (by decide +kernel),Xb (by decide +kernel),eh]
theorem Gp(o:wd):(ub o).lookup ("thrown":Str)=some o.thrown:=by
 unfold ub;rw[ib (by decide +kernel),ib (by decide +kernel),ib (by decide +kernel),ib (by decide +kernel),Rc]
theorem bB(v:V)(o:wd):Dd "thrown" v (ub o)=ub {o with thrown:=v}:=by
 unfold ub;rw[Xb (by decide +kernel),Xb (by decide +kernel),Xb (by decide +kernel),Xb (by decide +kernel),eh]
structure px where
 good:V
 units:V
 last:V
def Yj(o:px):List (Str×V):=[("good",o.good),("units",o.units),("last",o.last)]
theorem fK(o:px):(Yj o).lookup ("good":Str)=some o.good:=by
 unfold Yj;rw[Rc]
theorem oH(o:px):(Yj o).lookup ("units":Str)=some o.units:=by
 unfold Yj;rw[ib (by decide +kernel),Rc]
theorem gK(o:px):(Yj o).lookup ("last":Str)=some o.last:=by
 unfold Yj;rw[ib (by decide +kernel),ib (by decide +kernel),Rc]
structure aj where
 name:V
 slots:V
 place:V
 after:V
def ee(o:aj):List (Str×V):=[("name",o.name),("slots",o.slots),("place",o.place),("after",o.after)]
theorem qH(o:aj):(ee o).lookup ("name":Str)=some o.name:=by
 unfold ee;rw[Rc]
theorem SE(o:aj):(ee o).lookup ("slots":Str)=some o.slots:=by
 unfold ee;rw[ib (by decide +kernel),Rc]
theorem RE(o:aj):(ee o).lookup ("place":Str)=some o.place:=by
 unfold ee;rw[ib (by decide +kernel),ib (by decide +kernel),Rc]
theorem QE(o:aj):(ee o).lookup ("after":Str)=some o.after:=by
 unfold ee;rw[ib (by decide +kernel),ib (by decide +kernel),ib (by decide +kernel),Rc]
structure uf where
 serves:V
 takes:V
 steps:V
def wc(o:uf):List (Str×V):=[("serves",o.serves),("takes",o.takes),("steps",o.steps)]
theorem kK(o:uf):(wc o).length<1000:=by show 3<1000;decide
theorem uw(o:uf):(wc o).lookup ("serves":Str)=some o.serves:=by
 unfold wc;rw[Rc]
theorem Bw(v:V)(o:uf):Dd "serves" v (wc o)=wc {o with serves:=v}:=by
 unfold wc;rw[eh]
theorem az(o:uf):(wc o).lookup ("takes":Str)=some o.takes:=by
 unfold wc;rw[ib (by decide +kernel),Rc]
theorem Zy(o:uf):(wc o).lookup ("steps":Str)=some o.steps:=by
 unfold wc;rw[ib (by decide +kernel),ib (by decide +kernel),Rc]
structure lh where
 day:V
 recipe:V
 people:V
 slot:V
 GJ:V
def de(o:lh):List (Str×V):=[("day",o.day),("recipe",o.recipe),("people",o.people),("slot",o.slot),("cooked",o.GJ)]
theorem iK(o:lh):(de o).lookup ("day":Str)=some o.day:=by
 unfold de;rw[Rc]
theorem LA(o:lh):(de o).lookup ("recipe":Str)=some o.recipe:=by
 unfold de;rw[ib (by decide +kernel),Rc]
theorem KA(o:lh):(de o).lookup ("people":Str)=some o.people:=by
 unfold de;rw[ib (by decide +kernel),ib (by decide +kernel),Rc]
theorem pH(o:lh):(de o).lookup ("slot":Str)=some o.slot:=by
 unfold de;rw[ib (by decide +kernel),ib (by decide +kernel),ib (by decide +kernel),Rc]
theorem JA(o:lh):(de o).lookup ("cooked":Str)=some o.GJ:=by
 unfold de;rw[ib (by decide +kernel),ib (by decide +kernel),ib (by decide +kernel),ib (by decide +kernel),Rc]
structure Qa where
 YQ:V
 TH:V
 gH:V
 today:V
 goods:V
 lots:V
 recipes:V
 meals:V
def Ba(o:Qa):List (Str×V):=[("hobs",o.YQ),("ovens",o.TH),("hands",o.gH),("today",o.today),("goods",o.goods),("lots",o.lots),("recipes",o.recipes),("meals",o.meals)]
theorem kd(o:Qa):(Ba o).length<1000:=by show 8<1000;decide
theorem ME(o:Qa):(Ba o).lookup ("hobs":Str)=some o.YQ:=by
 unfold Ba;rw[Rc]
theorem rF(v:V)(o:Qa):Dd "hobs" v (Ba o)=Ba {o with YQ:=v}:=by
 unfold Ba;rw[eh]
theorem RA(o:Qa):(Ba o).lookup ("ovens":Str)=some o.TH:=by
 unfold Ba;rw[ib (by decide +kernel),Rc]
theorem gB(v:V)(o:Qa):Dd "ovens" v (Ba o)=Ba {o with TH:=v}:=by
 unfold Ba;rw[Xb (by decide +kernel),eh]
theorem NA(o:Qa):(Ba o).lookup ("hands":Str)=some o.gH:=by
 unfold Ba;rw[ib (by decide +kernel),ib (by decide +kernel),Rc]
theorem eB(v:V)(o:Qa):Dd "hands" v (Ba o)=Ba {o with gH:=v}:=by
 unfold Ba;rw[Xb (by decide +kernel),Xb (by decide +kernel),eh]
theorem SA(o:Qa):(Ba o).lookup ("today":Str)=some o.today:=by
 unfold Ba;rw[ib (by decide +kernel),ib (by decide +kernel),ib (by decide +kernel),Rc]
theorem Vp(v:V)(o:Qa):Dd "today" v (Ba o)=Ba {o with today:=v}:=by
 unfold Ba;rw[Xb (by decide +kernel),Xb (by decide +kernel),Xb (by decide +kernel),eh]
theorem MA(o:Qa):(Ba o).lookup ("goods":Str)=some o.goods:=by
 unfold Ba;rw[ib (by decide +kernel),ib (by decide +kernel),ib (by decide +kernel),ib (by decide +kernel),Rc]
theorem cB(v:V)(o:Qa):Dd "goods" v (Ba o)=Ba {o with goods:=v}:=by
 unfold Ba;rw[Xb (by decide +kernel),Xb (by decide +kernel),Xb (by decide +kernel),Xb (by decide +kernel),eh]
theorem OE(o:Qa):(Ba o).lookup ("lots":Str)=some o.lots:=by
 unfold Ba;rw[ib (by decide +kernel),ib (by decide +kernel),ib (by decide +kernel),ib (by decide +kernel),ib (by decide +kernel),Rc]
theorem Hh(v:V)(o:Qa):Dd "lots" v (Ba o)=Ba {o with lots:=v}:=by
 unfold Ba;rw[Xb (by decide +kernel),Xb (by decide +kernel),Xb (by decide +kernel),Xb (by decide +kernel),Xb (by decide +kernel),eh]
theorem vw(o:Qa):(Ba o).lookup ("recipes":Str)=some o.recipes:=by
 unfold Ba;rw[ib (by decide +kernel),ib (by decide +kernel),ib (by decide +kernel),ib (by decide +kernel),ib (by decide +kernel),ib (by decide +kernel),Rc]
theorem Cw(v:V)(o:Qa):Dd "recipes" v (Ba o)=Ba {o with recipes:=v}:=by
 unfold Ba;rw[Xb (by decide +kernel),Xb (by decide +kernel),Xb (by decide +kernel),Xb (by decide +kernel),Xb (by decide +kernel),Xb (by decide +kernel),eh]
theorem OA(o:Qa):(Ba o).lookup ("meals":Str)=some o.meals:=by
 unfold Ba;rw[ib (by decide +kernel),ib (by decide +kernel),ib (by decide +kernel),ib (by decide +kernel),ib (by decide +kernel),ib (by decide +kernel),ib (by decide +kernel),Rc]
theorem fB(v:V)(o:Qa):Dd "meals" v (Ba o)=Ba {o with meals:=v}:=by
 unfold Ba;rw[Xb (by decide +kernel),Xb (by decide +kernel),Xb (by decide +kernel),Xb (by decide +kernel),Xb (by decide +kernel),Xb (by decide +kernel),Xb (by decide +kernel),eh]
structure dk where
 yx:V
 ZJ:V
def Qc(o:dk):List (Str×V):=[("begins",o.yx),("in_use",o.ZJ)]
theorem uO(o:dk):(Qc o).length<1000:=by show 2<1000;decide
theorem Wy(o:dk):(Qc o).lookup ("begins":Str)=some o.yx:=by
 unfold Qc;rw[Rc]
theorem Jz(v:V)(o:dk):Dd "begins" v (Qc o)=Qc {o with yx:=v}:=by
 unfold Qc;rw[eh]
theorem Xy(o:dk):(Qc o).lookup ("in_use":Str)=some o.ZJ:=by
 unfold Qc;rw[ib (by decide +kernel),Rc]
structure Fd where
 state:V
 past:V
 ahead:V
def Ia(o:Fd):List (Str×V):=[("state",o.state),("past",o.past),("ahead",o.ahead)]
theorem sd(o:Fd):(Ia o).length<1000:=by show 3<1000;decide
theorem tw(o:Fd):(Ia o).lookup ("state":Str)=some o.state:=by
 unfold Ia;rw[Rc]
theorem Cf(v:V)(o:Fd):Dd "state" v (Ia o)=Ia {o with state:=v}:=by
 unfold Ia;rw[eh]
theorem Yy(o:Fd):(Ia o).lookup ("past":Str)=some o.past:=by
 unfold Ia;rw[ib (by decide +kernel),Rc]
theorem ui(v:V)(o:Fd):Dd "past" v (Ia o)=Ia {o with past:=v}:=by
 unfold Ia;rw[Xb (by decide +kernel),eh]
theorem qw(o:Fd):(Ia o).lookup ("ahead":Str)=some o.ahead:=by
 unfold Ia;rw[ib (by decide +kernel),ib (by decide +kernel),Rc]
theorem Ll(v:V)(o:Fd):Dd "ahead" v (Ia o)=Ia {o with ahead:=v}:=by
 unfold Ia;rw[Xb (by decide +kernel),Xb (by decide +kernel),eh]
theorem Eb:bootBuiltins "len"=some (.builtin "len"):=by decide +kernel
theorem lQ:bootBuiltins "sum"=some (.builtin "sum"):=by decide +kernel
theorem AJ:bootBuiltins "all"=some (.builtin "all"):=by decide +kernel
theorem mV:bootBuiltins "any"=some (.builtin "any"):=by decide +kernel
theorem oV:bootBuiltins "ord"=some (.builtin "ord"):=by decide +kernel
theorem BJ:bootBuiltins "str"=some (.type "str"):=by decide +kernel
theorem nV:bootBuiltins "int"=some (.type "int"):=by decide +kernel
theorem Uw:bootBuiltins "list"=some (.type "list"):=by decide +kernel
theorem kQ:bootBuiltins "min"=some (.builtin "min"):=by decide +kernel
theorem IB:bootBuiltins "sorted"=some (.builtin "sorted"):=by decide +kernel
theorem cT:bootBuiltins "dict"=some (.type "dict"):=by decide +kernel
set_option genInjectivity false
set_option genSizeOf false
structure Ad where
 GC:Addr
 fC:FuncData
 GQ:Addr
 sQ:FuncData
 mC:Addr
 LB:FuncData
 IC:Addr
 hC:FuncData
 JC:Addr
 iC:FuncData
 my:Addr
 Ox:FuncData
 qC:Addr
 NB:FuncData
 jv:Addr
 Pu:FuncData
 Mm:Addr
 Em:FuncData
 Bq:Addr
 Aq:FuncData
 Om:Addr
 Gm:FuncData
 jj:Addr
 gj:FuncData
 Nm:Addr
 Fm:FuncData
 Ek:Addr
 zk:FuncData
 Qm:Addr
 Hm:FuncData
 oC:Addr
 MB:FuncData
 Jj:Addr
 Fj:FuncData
 Kr:Addr
 Cr:FuncData
 El:Addr
 Al:FuncData
 Hy:Addr
 jy:FuncData
 Cp:Addr
 vp:FuncData
 vv:Addr
 Su:FuncData
 wy:Addr
 Ux:FuncData
 uv:Addr
 Ru:FuncData
 qv:Addr
 Qu:FuncData
 Bp:Addr
 tp:FuncData
 Fl:Addr
 Bl:FuncData
 KC:Addr
 jC:FuncData
 Ir:Addr
 Ar:FuncData
 Jr:Addr
 Br:FuncData
 EM:Addr
 xM:FuncData
 DC:Addr
 bC:FuncData
 Fy:Addr
 gy:FuncData
 wC:Addr
 UB:FuncData
 Dy:Addr
 cy:FuncData
 qy:Addr
 Rx:FuncData
 SG:Addr
 IG:FuncData
 Ij:Addr
 Ej:FuncData
 Av:Addr
 Tu:FuncData
 Zh:Addr
 Vh:FuncData
 CC:Addr
 aC:FuncData
 BC:Addr
 YB:FuncData
 Wu:Addr
 Ku:FuncData
 Yu:Addr
 Mu:FuncData
 zC:Addr
 XB:FuncData
 Dk:Addr
 yk:FuncData
 Dl:Addr
 zl:FuncData
 HC:Addr
 gC:FuncData
 Rm:Addr
 Im:FuncData
 zp:Addr
 qp:FuncData
 Gy:Addr
 iy:FuncData
 Hr:Addr
 zr:FuncData
 ny:Addr
 Px:FuncData
 sy:Addr
 Sx:FuncData
 EC:Addr
 cC:FuncData
 sC:Addr
 PB:FuncData
 oy:Addr
 Qx:FuncData
 Vm:Addr
 Lm:FuncData
 Zu:Addr
 Nu:FuncData
 Sm:Addr
 Jm:FuncData
 xC:Addr
 VB:FuncData
 Ay:Addr
 Yx:FuncData
 NG:Addr
 EG:FuncData
 Ey:Addr
 dy:FuncData
 QG:Addr
 GG:FuncData
 RG:Addr
 HG:FuncData
 Xu:Addr
 Lu:FuncData
 LG:Addr
 CG:FuncData
 uC:Addr
 RB:FuncData
 Wh:Addr
 Sh:FuncData
 Gr:Addr
 yr:FuncData
 Ap:Addr
 rp:FuncData
 rC:Addr
 OB:FuncData
 xy:Addr
 Vx:FuncData
 vy:Addr
 Tx:FuncData
 Cy:Addr
 ay:FuncData
 MG:Addr
 DG:FuncData
 dv:Addr
 Ou:FuncData
 FC:Addr
 eC:FuncData
 Qi:Addr
 Mi:FuncData
 FQ:Addr
 rQ:FuncData
 zy:Addr
 Xx:FuncData
 yC:Addr
 WB:FuncData
 vC:Addr
 TB:FuncData
 Oi:Addr
 Li:FuncData
 By:Addr
 Zx:FuncData
 yy:Addr
 Wx:FuncData
 OG:Addr
 FG:FuncData
 Um:Addr
 Km:FuncData
 Yg:Addr
 Ug:FuncData
 Xh:Addr
 Th:FuncData
 Xg:Addr
 Tg:FuncData
 Yh:Addr
 Uh:FuncData
 Wg:Addr
 Sg:FuncData
 Vg:Addr
 Rg:FuncData
 Lr:Addr
 Dr:FuncData
 Ni:Addr
 Ki:FuncData
 Vu:Addr
 Ju:FuncData
 Qt:Addr
 Pt:FuncData
 zc:Addr
 Oh:Addr
 Od:Addr
 Yc:Addr
 ae:Addr
 Na:Addr
 Tc:Addr
 Ta:Addr
 ng:Addr
 nh:Addr
set_option genInjectivity true
set_option genSizeOf true
structure Txt(K:PySem.W.Frag)(mg:Str->Option Value)(A:Ad):Prop where
 La:CF K mg "refused" jP A.GC A.fC ["refusal"]
 Of:CF K mg "told" CW A.GQ A.sQ ["numbers"]
 jc:CF K mg "changed" YO A.mC A.LB ["state","numbers"]
 Jt:CF K mg "sign_of" lP A.IC A.hC ["byte"]
 Zn:CF K mg "text_of" DD A.JC A.iC ["row"]
 jq:CF K mg "bytes_of" Tz A.my A.Ox ["text"]
 Xn:CF K mg "is_name" yD A.qC A.NB ["word"]
 Qg:CF K mg "number_of" Uv A.jv A.Pu ["word","most"]
 Bu:qG K "__init__" "Good.__init__" uI A.Mm A.Em
 km:Binds K A.Em ["self","name","price","bought","used","thrown"] []
 ox:qG K "__init__" "Lot.__init__" aL A.Bq A.Aq
 iq:Binds K A.Aq ["self","good","units","last"] []
 Du:qG K "__init__" "Step.__init__" wI A.Om A.Gm
 Iu:Binds K A.Gm ["self","name","slots","place","after"] []
 cp:qG K "__init__" "Recipe.__init__" jB A.jj A.gj
 ip:Binds K A.gj ["self","serves","takes","steps"] []
 Cu:qG K "__init__" "Meal.__init__" vI A.Nm A.Fm
 Pg:Binds K A.Fm ["self","day","recipe","people","slot","cooked"] []
 gr:qG K "__init__" "State.__init__" FF A.Ek A.zk
 ik:Binds K A.zk ["self","hobs","ovens","hands"] []
 Ph:CF K mg "copy_of_good" Uz A.Qm A.Hm ["good"]
 Gd:CF K mg "copy_of" xD A.oC A.MB ["state"]
 Hd:CF K mg "names_of_goods" Wj A.Jj A.Fj ["state"]
 Pd:CF K mg "is_to_come" JF A.Kr A.Cr ["state","day"]
 Ud:CF K mg "is_for_people" Hw A.El A.Al ["people"]
 zq:CF K mg "words_of" aA A.Hy A.jy ["line"]
 fj:CF K mg "read_serves" nB A.Cp A.vp ["recipe","words"]
 zm:CF K mg "read_take" DI A.vv A.Su ["recipe","words","names"]
 lq:CF K mg "is_after" Wz A.wy A.Ux ["words","steps"]
 ym:CF K mg "read_step" Mn A.uv A.Ru ["recipe","words"]
 wm:CF K mg "read_line" CI A.qv A.Qu ["recipe","words","names"]
 dj:CF K mg "read_recipe" mB A.Bp A.tp ["text","names"]
 qh:CF K mg "words_of_step" Nl A.Fl A.Bl ["step","steps"]
 Kt:CF K mg "written" ED A.KC A.jC ["recipe","names"]
 Ke:CF K mg "has_recipe" IF A.Ir A.Ar ["state","recipe"]
 uk:CF K mg "is_planned" Us A.Jr A.Br ["state","recipe"]
 Vw:CF K mg "taken" lU A.EM A.xM ["recipe","good","people"]
 Et:CF K mg "kt_read" gP A.DC A.bC ["state","n","text"]
 xq:CF K mg "kt_write" rL A.Fy A.gy ["state","recipe"]
 xt:CF K mg "kt_drop" bP A.wC A.UB ["state","recipe"]
 vq:CF K mg "kt_takes" qL A.Dy A.cy ["state","recipe","good","people"]
 og:CF K mg "has_meal" fL A.qy A.Rx ["state","meal"]
 qr:CF K mg "needed" pS A.SG A.IG ["state","meal","good"]
 Je:CF K mg "can_be_planned" ku A.Ij A.Ej ["state","day","slot"]
 De:CF K mg "with_meal" EI A.Av A.Tu ["state","place","meal"]
 Zc:CF K mg "refusal_to_alter" Uq A.Zh A.Vh ["state","meal"]
 Dt:CF K mg "kt_plan" fP A.CC A.aC ["state","day","recipe","people","slot"]
 Ct:CF K mg "kt_move" eP A.BC A.YB ["state","meal","day","slot"]
 qm:CF K mg "kt_people" zI A.Wu A.Ku ["state","meal","n"]
 tm:CF K mg "kt_unplan" BI A.Yu A.Mu ["state","meal"]
 Bt:CF K mg "kt_meal" dP A.zC A.XB ["state","meal"]
 dr:qG K "__init__" "Clock.__init__" EF A.Dk A.yk
 gk:Binds K A.yk ["self"] []
 oh:CF K mg "copy_of_clock" Gw A.Dl A.zl ["clock"]
 Ht:CF K mg "room_at" kP A.HC A.gC ["state","where"]
 Qh:CF K mg "latest_begin" Xz A.Rm A.Im ["in_use","room","slots","end"]
 bj:CF K mg "end_of_step" wj A.zp A.qp ["clock","place","steps","number","slot"]
 yq:CF K mg "lay_step" tL A.Gy A.iy ["clock","place","number","step","begin"]
 rk:CF K mg "clock_with" HF A.Hr A.zr ["clock","state","place"]
 qk:CF K mg "clock_of" Qq A.ny A.Px ["state","day"]
 kq:CF K mg "has_step" gL A.sy A.Sx ["state","meal","step"]
 Ft:CF K mg "kt_when" iP A.EC A.cC ["state","meal","step"]
 qt:CF K mg "kt_busy" zD A.sC A.PB ["state","day","slot"]
 Ff:CF K mg "has_good" bL A.oy A.Qx ["state","good"]
 Pf:CF K mg "usable_today" Nn A.Vm A.Lm ["state","good"]
 um:CF K mg "lots_with" Fn A.Zu A.Nu ["lots","lot"]
 Nf:CF K mg "lots_without" Yz A.Sm A.Jm ["lots","good","units","day"]
 yt:CF K mg "kt_good" cP A.xC A.VB ["state","n","name"]
 rq:CF K mg "kt_price" mL A.Ay A.Yx ["state","good","cents"]
 Fx:CF K mg "kt_buy" lS A.NG A.EG ["state","good","units","last"]
 wq:CF K mg "kt_throw" Rq A.Ey A.dy ["state"]
 Jx:CF K mg "kt_has" nS A.QG A.GG ["state","good"]
 Kx:CF K mg "kt_lot" oS A.RG A.HG ["state","k"]
 rm:CF K mg "kt_totals" AI A.Xu A.Lu ["state","good"]
 Dx:CF K mg "cooked" jS A.LG A.CG ["meal"]
 vt:CF K mg "kt_cook" aP A.uC A.RB ["state","meal"]
 gm:qG K "__init__" "History.__init__" Sz A.Wh A.Sh
 mm:Binds K A.Sh ["self"] []
 nk:CF K mg "begin_anew" GF A.Gr A.yr ["history","state"]
 cj:CF K mg "make_change" lB A.Ap A.rp ["history","state"]
 ot:CF K mg "kt_back" ZO A.rC A.OB ["history"]
 mq:CF K mg "kt_again" jL A.xy A.Vx ["history"]
 sk:CF K mg "how_many" Vz A.vy A.Tx ["places"]
 uq:CF K mg "kt_state" pL A.Cy A.ay ["history"]
 Ex:CF K mg "is_due" kS A.MG A.DG ["state","meal","day"]
 vm:CF K mg "meals_due" Gn A.dv A.Ou ["state","day"]
 Yn:CF K mg "lacking" CD A.FC A.eC ["state","good","day"]
 ie:CF K mg "lacking_of_each" Xi A.Qi A.Mi ["state","day"]
 CJ:CF K mg "cost" BW A.FQ A.rQ ["units","price"]
 pq:CF K mg "kt_lacks" lL A.zy A.Xx ["state","good","day"]
 zt:CF K mg "kt_list" BD A.yC A.WB ["state","day"]
 wt:CF K mg "kt_cost" AD A.vC A.TB ["state","day"]
 fe:CF K mg "can_be_equipped" Ts A.Oi A.Li ["hobs","ovens","hands"]
 tq:CF K mg "kt_start" nL A.By A.Zx ["hobs","ovens","hands"]
 oq:CF K mg "kt_equip" kL A.yy A.Wx ["state","hobs","ovens","hands"]
 Gx:CF K mg "kt_day" mS A.OG A.FG ["state"]
 Rh:CF K mg "size_of_call" Zz A.Um A.Km ["calls","at"]
 Ce:CF K mg "outcome_of_setting" Ln A.Yg A.Ug ["state","call"]
 Gf:CF K mg "outcome_of_goods" Sq A.Xh A.Th ["state","call"]
 Be:CF K mg "outcome_of_recipes" Kn A.Xg A.Tg ["state","call"]
 Hf:CF K mg "outcome_of_meals" Tq A.Yh A.Uh ["state","call"]
 Ae:CF K mg "outcome_of_lacking" Jn A.Wg A.Sg ["state","call"]
 ze:CF K mg "outcome_of_cooking" Hn A.Vg A.Rg ["state","call"]
 vk:CF K mg "outcome_of" LF A.Lr A.Dr ["state","call"]
 Mf:CF K mg "answer_to_start" Ss A.Ni A.Ki ["history","call"]
 om:CF K mg "answer_to" yI A.Vu A.Ju ["history","call"]
 Wn:CF K mg "answers" XO A.Qt A.Pt ["calls"]
 rK:mg "Good"=some (.ref A.zc)
 je:AA K A.zc
 XE:Mk K A.zc A.Mm
 UY:KkNone.NP K A.zc
 Jv:jb K A.zc "name"
 Lk:jb K A.zc "price"
 pj:jb K A.zc "bought"
 rn:jb K A.zc "used"
 qj:jb K A.zc "thrown"
 wR:mg "Lot"=some (.ref A.Oh)
 Ot:AA K A.Oh
 wK:Mk K A.Oh A.Bq
 uZ:KkNone.NP K A.Oh
 oz:jb K A.Oh "good"
 Kv:jb K A.Oh "units"
 pz:jb K A.Oh "last"
 xR:mg "Step"=some (.ref A.Od)
 Hi:AA K A.Od
 YM:Mk K A.Od A.Om
 VY:KkNone.NP K A.Od
 Mv:jb K A.Od "name"
 Fs:jb K A.Od "slots"
 Es:jb K A.Od "place"
 Ds:jb K A.Od "after"
 uH:mg "Recipe"=some (.ref A.Yc)
 qg:AA K A.Yc
 dD:Mk K A.Yc A.jj
 BQ:KkNone.NP K A.Yc
 uh:jb K A.Yc "serves"
 xn:jb K A.Yc "takes"
 vn:jb K A.Yc "steps"
 iz:mg "Meal"=some (.ref A.ae)
 Fg:AA K A.ae
 Cs:Mk K A.ae A.Nm
 CV:KkNone.NP K A.ae
 qz:jb K A.ae "day"
 Np:jb K A.ae "recipe"
 Mp:jb K A.ae "people"
 Lv:jb K A.ae "slot"
 Lp:jb K A.ae "cooked"
 VE:mg "State"=some (.ref A.Na)
 Ab:AA K A.Na
 mz:Mk K A.Na A.Ek
 tY:KkNone.NP K A.Na
 Nk:jb K A.Na "hobs"
 uj:jb K A.Na "ovens"
 sj:jb K A.Na "hands"
 Hg:jb K A.Na "today"
 rj:jb K A.Na "goods"
 bf:jb K A.Na "lots"
 vh:jb K A.Na "recipes"
 tj:jb K A.Na "meals"
 UE:mg "Clock"=some (.ref A.Tc)
 Am:AA K A.Tc
 kz:Mk K A.Tc A.Dk
 sY:KkNone.NP K A.Tc
 mi:jb K A.Tc "begins"
 mn:jb K A.Tc "in_use"
 ZC:mg "History"=some (.ref A.Ta)
 Ub:AA K A.Ta
 lz:Mk K A.Ta A.Wh
 bX:KkNone.NP K A.Ta
 md:jb K A.Ta "state"
 Ee:jb K A.Ta "past"
 Af:jb K A.Ta "ahead"
 Ut:∃t,mg "LETTERS"=some (.str "abcdefghijklmnopqrstuvwxyz" t)
 Ky:∃t,mg "DIGITS"=some (.str "0123456789" t)
 UJ:∃t,mg "LINE_END"=some (.int (10) t)
 uT:∃t,mg "BLANK"=some (.int (32) t)
 nj:∃t,mg "FIRST_DIGIT"=some (.int (48) t)
 ai:∃t,mg "FIRST_LETTER"=some (.int (97) t)
 Xm:∃t,mg "LONGEST_NAME"=some (.int (8) t)
 Dq:∃t,mg "LAST_DAY"=some (.int (10000) t)
 wg:∃t,mg "SLOTS_OF_A_DAY"=some (.int (288) t)
 Dp:∃t,mg "MOST_PEOPLE"=some (.int (99) t)
 pw:∃t,mg "RECIPE_PLACES"=some (.int (8) t)
 HA:∃t,mg "MEAL_PLACES"=some (.int (12) t)
 Kd:mg "COOKING_PLACES"=some (.ref A.ng)
 Yb:∀H,mh K H A.ng [.str "hob",.str "oven",.str "hand"]
 yE:∃t,mg "MOST_TAKES"=some (.int (8) t)
 vE:∃t,mg "MOST_STEPS"=some (.int (8) t)
 xE:∃t,mg "MOST_TAKEN"=some (.int (9999) t)
 uE:∃t,mg "MOST_SLOTS"=some (.int (100) t)
 Gb:∃t,mg "NOT_THERE"=some (.int (-2) t)
 OQ:∃t,mg "IN_USE"=some (.int (-16) t)
 dH:∃t,mg "NOT_TODAY"=some (.int (-16) t)
 Pr:∃t,mg "ALREADY_SO"=some (.int (-17) t)
 pb:∃t,mg "OUT_OF_RANGE"=some (.int (-22) t)
 Mj:∃t,mg "NO_ROOM"=some (.int (-28) t)
 VJ:∃t,mg "NOT_LAID"=some (.int (-33) t)
 AE:∃t,mg "NOT_ENOUGH"=some (.int (-61) t)
 fH:∃t,mg "NO_RECIPE"=some (.int (-71) t)
 WJ:∃t,mg "TOO_MUCH"=some (.int (-75) t)
 Ym:∃t,mg "LONGEST_TEXT"=some (.int (400) t)
 Qr:∃t,mg "MOST_GOODS"=some (.int (16) t)
 rE:∃t,mg "MOST_CENTS"=some (.int (100000) t)
 cH:∃t,mg "MOST_LOTS"=some (.int (32) t)
 zE:∃t,mg "MOST_UNITS"=some (.int (1000000) t)
 IA:∃t,mg "MOST_BOUGHT"=some (.int (100000000) t)
 aH:∃t,mg "MOST_BACK"=some (.int (60) t)
 di:∃t,mg "UNITS_OF_A_PRICE"=some (.int (1000) t)
 bH:∃t,mg "MOST_HOBS"=some (.int (6) t)
 tE:∃t,mg "MOST_OVENS"=some (.int (4) t)
 sE:∃t,mg "MOST_HANDS"=some (.int (6) t)
 PJ:∃t,mg "KT_START"=some (.int (0) t)
 MJ:∃t,mg "KT_EQUIP"=some (.int (1) t)
 QQ:∃t,mg "KT_DAY"=some (.int (2) t)
 NC:∃t,mg "KT_GOOD"=some (.int (3) t)
 OJ:∃t,mg "KT_PRICE"=some (.int (4) t)
 PQ:∃t,mg "KT_BUY"=some (.int (5) t)
 SJ:∃t,mg "KT_THROW"=some (.int (6) t)
 RQ:∃t,mg "KT_HAS"=some (.int (7) t)
 SQ:∃t,mg "KT_LOT"=some (.int (8) t)
 YG:∃t,mg "KT_TOTALS"=some (.int (9) t)
 OC:∃t,mg "KT_READ"=some (.int (10) t)
 TJ:∃t,mg "KT_WRITE"=some (.int (11) t)
 bO:∃t,mg "KT_DROP"=some (.int (12) t)
 RJ:∃t,mg "KT_TAKES"=some (.int (13) t)
 fO:∃t,mg "KT_PLAN"=some (.int (14) t)
 eO:∃t,mg "KT_MOVE"=some (.int (15) t)
 XG:∃t,mg "KT_PEOPLE"=some (.int (16) t)
 ZG:∃t,mg "KT_UNPLAN"=some (.int (17) t)
 dO:∃t,mg "KT_MEAL"=some (.int (18) t)
 NJ:∃t,mg "KT_LACKS"=some (.int (19) t)
 cO:∃t,mg "KT_LIST"=some (.int (20) t)
 aO:∃t,mg "KT_COST"=some (.int (21) t)
 ZN:∃t,mg "KT_COOK"=some (.int (22) t)
 gO:∃t,mg "KT_WHEN"=some (.int (23) t)
 YN:∃t,mg "KT_BACK"=some (.int (25) t)
 LJ:∃t,mg "KT_AGAIN"=some (.int (26) t)
 QJ:∃t,mg "KT_STATE"=some (.int (27) t)
 Hl:mg "WHOLE_NUMBERS"=some (.ref A.nh)
 Ml:∀H,mh K H A.nh [.int (3),.int (3),.int (0),.int (1),.int (2),.int (3),.int (0),.int (1),.int (1),.int (1),.int (1),.int (1),.int (1),.int (3),.int (4),.int (3),.int (2),.int (1),.int (1),.int (2),.int (1),.int (1),.int (1),.int (2),.int (2),.int (0),.int (0),.int (0)]
 Zb:mg "len"=none
 WU:mg "sum"=none
 QS:mg "all"=none
 jY:mg "any"=none
 lY:mg "ord"=none
 RS:mg "str"=none
 kY:mg "int"=none
 pG:mg "list"=none
 mY:mg "set"=none
 VU:mg "min"=none
 qJ:mg "sorted"=none
 To:mg "range"=none
 fw:mg "enumerate"=none
 nY:mg "zip"=none
 VW:mg "dict"=none
section
variable{K:PySem.W.Frag}{mg:Str->Option Value}{A:Ad}(T:Txt K mg A)
include T
theorem cw:FI K A.zc "name" ub wd.name:=⟨T.je,T.Jv,nH⟩
theorem jl:FI K A.zc "price" ub wd.price:=⟨T.je,T.Lk,JE⟩
theorem yj:FI K A.zc "bought" ub wd.bought:=⟨T.je,T.pj,Fp⟩
theorem dw:FI K A.zc "used" ub wd.used:=⟨T.je,T.rn,Dv⟩
theorem bq:FI K A.zc "thrown" ub wd.thrown:=⟨T.je,T.qj,Gp⟩
theorem Ci:FI K A.Oh "good" Yj px.good:=⟨T.Ot,T.oz,fK⟩
theorem Lf:FI K A.Oh "units" Yj px.units:=⟨T.Ot,T.Kv,oH⟩
theorem Bd:FI K A.Oh "last" Yj px.last:=⟨T.Ot,T.pz,gK⟩
theorem Rn:FI K A.Od "name" ee aj.name:=⟨T.Hi,T.Mv,qH⟩
theorem rl:FI K A.Od "slots" ee aj.slots:=⟨T.Hi,T.Fs,SE⟩
theorem Lh:FI K A.Od "place" ee aj.place:=⟨T.Hi,T.Es,RE⟩
theorem ql:FI K A.Od "after" ee aj.after:=⟨T.Hi,T.Ds,QE⟩
theorem qd:FI K A.Yc "serves" wc uf.serves:=⟨T.qg,T.uh,uw⟩
theorem Nd:FI K A.Yc "takes" wc uf.takes:=⟨T.qg,T.xn,az⟩
theorem Bc:FI K A.Yc "steps" wc uf.steps:=⟨T.qg,T.vn,Zy⟩
theorem Sd:FI K A.ae "day" de lh.day:=⟨T.Fg,T.qz,iK⟩
theorem Wc:FI K A.ae "recipe" de lh.recipe:=⟨T.Fg,T.Np,LA⟩
theorem Lg:FI K A.ae "people" de lh.people:=⟨T.Fg,T.Mp,KA⟩
theorem kh:FI K A.ae "slot" de lh.slot:=⟨T.Fg,T.Lv,pH⟩
theorem zj:FI K A.ae "cooked" de lh.GJ:=⟨T.Fg,T.Lp,JA⟩
theorem dt:FI K A.Na "hobs" Ba Qa.YQ:=⟨T.Ab,T.Nk,ME⟩
theorem dq:FI K A.Na "ovens" Ba Qa.TH:=⟨T.Ab,T.uj,RA⟩
theorem cq:FI K A.Na "hands" Ba Qa.gH:=⟨T.Ab,T.sj,NA⟩
theorem Nb:FI K A.Na "today" Ba Qa.today:=⟨T.Ab,T.Hg,SA⟩
theorem cb:FI K A.Na "goods" Ba Qa.goods:=⟨T.Ab,T.rj,MA⟩
theorem Qb:FI K A.Na "lots" Ba Qa.lots:=⟨T.Ab,T.bf,OE⟩
theorem rb:FI K A.Na "recipes" Ba Qa.recipes:=⟨T.Ab,T.vh,vw⟩
theorem Za:FI K A.Na "meals" Ba Qa.meals:=⟨T.Ab,T.tj,OA⟩
theorem Ie:FI K A.Tc "begins" Qc dk.yx:=⟨T.Am,T.mi,Wy⟩
theorem Md:FI K A.Tc "in_use" Qc dk.ZJ:=⟨T.Am,T.mn,Xy⟩
theorem Zd:FI K A.Ta "state" Ia Fd.state:=⟨T.Ub,T.md,tw⟩
theorem Ac:FI K A.Ta "past" Ia Fd.past:=⟨T.Ub,T.Ee,Yy⟩
theorem Yd:FI K A.Ta "ahead" Ia Fd.ahead:=⟨T.Ub,T.Af,qw⟩
end
def S(t:Text):Str:=⟨t.toArray⟩
def iL(l:List Nat):List V:=l.map λ(n:Nat)=>V.int (n:Int)
def sL(l:List Text):List V:=l.map λt=>V.str (S t)
theorem Uo(t:Text):(S t).cps.toList=t:=rfl
theorem Bh(t:Text):(S t).length=t.length:=by show t.toArray.size=_;simp
theorem Fu{a b:Text}(h:S a=S b):a=b:=by
 have:=congrArg (λz:Str=>z.cps.toList) h;exact this
theorem BU(a b:Text):decide (S a=S b)=decide (a=b):=decide_eq_decide.mpr ⟨Fu,λh=>by rw[h]⟩
theorem MW:Str.ofString "\n"=S [10]:=by decide +kernel
theorem LW:Str.ofString " "=S [32]:=by decide +kernel
theorem LZ:Str.ofString "?"=S [63]:=by decide +kernel
theorem qZ:Str.ofString ""=S []:=by decide +kernel
theorem KZ:Str.ofString "0"=S [48]:=by decide +kernel
theorem TU:Str.ofString "0123456789"=S [48,49,50,51,52,53,54,55,56,57]:=by decide +kernel
theorem UU:Str.ofString "abcdefghijklmnopqrstuvwxyz"=S [97,98,99,100,101,102,103,104,105,106,107,108,109,110,111,112,113,114,115,116,117,118,119,120,121,122]:=by decide +kernel
theorem yV:∀n:Nat,n<10->uM [48,49,50,51,52,53,54,55,56,57] (n:Int)=some (48+n):=by decide
theorem dW:∀n:Nat,n<26->uM [97,98,99,100,101,102,103,104,105,106,107,108,109,110,111,112,113,114,115,116,117,118,119,120,121,122] (n:Int)=some (97+n):=by decide
theorem zV(c:Nat):decide (c∈[48,49,50,51,52,53,54,55,56,57])=KT.Vd c:=by
 unfold KT.Vd;rw[<-Bool.decide_and];show decide (c∈List.range' 48 10)=_;exact decide_eq_decide.mpr (List.mem_range'_1.trans ⟨λh=>⟨h.1,Nat.le_of_lt_succ h.2⟩,λh=>⟨h.1,Nat.lt_succ_of_le h.2⟩⟩)
theorem eW(c:Nat):decide (c∈[97,98,99,100,101,102,103,104,105,106,107,108,109,110,111,112,113,114,115,116,117,118,119,120,121,122])=(decide (97<=c)&&decide (c<=122)):=by
 rw[<-Bool.decide_and];show decide (c∈List.range' 97 26)=_;exact decide_eq_decide.mpr (List.mem_range'_1.trans ⟨λh=>⟨h.1,Nat.le_of_lt_succ h.2⟩,λh=>⟨h.1,Nat.lt_succ_of_le h.2⟩⟩)
theorem EU{l:List Nat}{j:Nat}{x:V}(h:(iL l)[j]?=some x):∃b,l[j]?=some b/\x=.int (b:Int):=by
 unfold iL at h;rw[List.getElem?_map] at h;cases e:l[j]? with
 |none=>rw[e] at h;cases h
 |some b=>rw[e] at h;exact⟨b,rfl,(Option.some.inj h).symm⟩
theorem LU{t:Text}{j:Nat}{x:V}(h:((S t).cps.toList.map λc=>V.str ⟨#[c]⟩)[j]?=some x):∃c,t[j]?=some c/\x=V.str ⟨#[c]⟩:=by
 rw[Uo,List.getElem?_map] at h;cases e:t[j]? with
 |none=>rw[e] at h;cases h
 |some c=>rw[e] at h;exact⟨c,rfl,(Option.some.inj h).symm⟩
theorem Wm{α:Type}{f:α->V}{F:V->Option V}{G:α->V}(h:∀x,F (f x)=some (G x)):∀l:List α,(l.map f).filterMap F=l.map G
 |[]=>rfl
 |x::l=>by rw[List.map_cons,List.filterMap_cons,h x,Wm h l];rfl
theorem Rt{α:Type}{f:α->V}{F:V->Option V}{p:α->Bool}{G:α->V}(h:∀x,F (f x)=if p x=true then some (G x) else none):∀l:List α,(l.map f).filterMap F=(l.filter p).map G
 |[]=>rfl
 |x::l=>by
  rw[List.map_cons,List.filterMap_cons,h x,List.filter_cons];by_cases c:p x=true
  ·rw[if_pos c,if_pos c,List.map_cons,Rt h l]
  ·rw[if_neg c,if_neg c,Rt h l]
theorem Vt:∀L:List (List Nat),TL.Vr [] L=L.flatten
 |[]=>rfl
 |[p]=>by simp[TL.Vr]
 |p::q::r=>by
  show p++([]++TL.Vr [] (q::r))=_;rw[Vt (q::r)];simp
theorem IE(y:Str)(parts:List Str):(Txt.join y parts).cps.toList=TL.Vr y.cps.toList (parts.map λz=>z.cps.toList):=by
 rw[TL.join_eq];exact TL.DN y parts
theorem aQ{z:Str}{t:Text}(h:z.cps.toList=t):z=S t:=TL.DQ h
theorem cK(f:Nat->Nat)(l:List Nat):Txt.join (S []) (l.map λb=>S [f b])=S (l.map f):=by
 refine aQ ?_;rw[IE,Uo,Vt,List.map_map];induction l with
 |nil=>rfl
 |cons b l ih=>rw[List.map_cons,List.flatten_cons,ih];rfl
theorem oA{α:Type}{f:α->Nat}{m:Nat}:∀l:List α,(∀x∈l,f x<=m)->(l.map f).sum<=l.length*m
 |[],_=>by simp
 |x::l,h=>by
  have h1:=h x (List.mem_cons_self ..);have h2:=oA l λy hy=>h y (List.mem_cons_of_mem _ hy);rw[List.map_cons,List.sum_cons,List.length_cons,Nat.add_mul];lia
theorem ak:sizeLine=16777216:=by decide
def UL(K:PySem.W.Frag)(A:Ad):Sp:=λvs H Q _=>∃b:Nat,vs=[.int b]/\Q (.str ⟨#[KT.sgn b]⟩) H
variable{P:Program}{w:World}{K:PySem.W.Frag}{mg:Str->Option Value}{base:Heap}{A:Ad}
theorem NK(T:Txt K mg A):Ua P w K mg base nc 1 A.IC A.hC ["byte"] (UL K A):=by
 refine T.Jt.F.Uc ["byte"] (by decide +kernel) λvs H Q E h nd=>?_;obtain⟨b,rfl,k⟩:=h;refine⟨rfl,λ_ _ _ _ hr=>?_⟩;refine⟨_,(ba (Ma (Ca Rb (pv 0) (Ka rfl T.UJ) (Ea _)) (ja (oa jd)) za)
    (ba (Ma (Ca Rb (pv 0) (Ka rfl T.uT) (Ea _)) (ja (oa jd)) za)
    (ba (Ma (eI oe Kl (Ka rfl T.nj) (pv 0) (Sb yg (Ka rfl T.nj) (Oa wk rfl T.Zb Eb (aa (mD rfl T.Ky) da)))) (ja (oa (XH bK (mD rfl T.Ky) (Sb Sk (pv 0) (Ka rfl T.nj)) (λ_ _=>rfl)))) za)
    (ba (Ma (eI oe Kl (Ka rfl T.ai) (pv 0) (Sb yg (Ka rfl T.ai) (Oa wk rfl T.Zb Eb (aa (mD rfl T.Ut) da)))) (ja (oa (XH bK (mD rfl T.Ut) (Sb Sk (pv 0) (Ka rfl T.ai)) (λ_ _=>rfl)))) za)
    (ja (oa jd)))))),?_⟩
 dsimp only[Cc];dsimp![MW,LW,LZ,TU,UU,Bh,Uo];have h10:10<=sizeLine:=by decide
 have h26:26<=sizeLine:=by decide
 have hq:∀{c},KT.sgn b=c->Q (.str ⟨#[c]⟩) H:=λe=>by rw[<-e];exact k
 unfold KT.sgn at hq;have L:¬(b:Int)=10->¬(b:Int)=32->¬(48<=(b:Int)/\(b:Int)<58)->(if 97<=(b:Int) then 26<=sizeLine/\if(b:Int)<97+((26:Nat):Int) then 26<=sizeLine/\∃x,uM [97,98,99,100,101,102,103,104,105,106,107,108,109,110,111,112,113,114,115,116,117,118,119,120,121,122] ((b:Int)-97)=some x/\Q (V.str {cps:=#[x]}) H
   else Q (V.str (S [63])) H else Q (V.str (S [63])) H):=by
  intro h1 h2 h3;split
  ·refine⟨h26,?_⟩;split
   ·refine⟨h26,b,?_,?_⟩
    ·have e:=dW (b-97) (by lia);rw[show((b-97:Nat):Int)=(b:Int)-97 by lia] at e;rw[e];congr 1;lia
    ·exact hq (by rw[if_neg (by lia),if_neg (by lia),if_neg (by lia),if_pos (by lia)])
   ·exact hq (by rw[if_neg (by lia),if_neg (by lia),if_neg (by lia),if_neg (by lia)])
  ·exact hq (by rw[if_neg (by lia),if_neg (by lia),if_neg (by lia),if_neg (by lia)])
 split
 ·exact hq (if_pos (by lia))
 split
 ·exact hq (by rw[if_neg (by lia),if_pos (by lia)])
 split
 ·refine⟨h10,?_⟩;split
  ·refine⟨h10,b,?_,?_⟩
   ·have e:=yV (b-48) (by lia);rw[show((b-48:Nat):Int)=(b:Int)-48 by lia] at e;rw[e];congr 1;lia
   ·exact hq (by rw[if_neg (by lia),if_neg (by lia),if_pos (by lia)])
  ·exact L (by lia) (by lia) (by lia)
 ·exact L (by lia) (by lia) (by lia)
def VL(K:PySem.W.Frag)(A:Ad):Sp:=λvs H Q _=>∃(a:Addr)(l:List Nat),vs=[.ref a]/\Ha K H a (iL l)/\l.length<=1000/\∀H',Aa H H'->Q (.str (S (KT.sg l))) H'
theorem Fz(T:Txt K mg A):Ua P w K mg base nc 2 A.JC A.iC ["row"] (VL K A):=by
 refine T.Zn.F.Uc ["row","byte"] (by decide +kernel) λvs H Q E h nd=>?_;obtain⟨a,l,rfl,hl,hz,k⟩:=h;refine⟨rfl,λ_ _ _ _ hr=>?_⟩;refine⟨_,(ja (oa (Mz (K:=K) rfl jd (Fe rfl nd (iu K (pv 0)) (own:=[("byte",1)]) (bc (show Cb ["row","byte"] (Ra DD) _ [("byte",1)]=true from by decide +kernel)) (λ_ _ _ _ _=>Va (i:=1) nd rfl (Or.inl rfl)) (λ_ _ _ _ _=>Ed) (λ_ _ _ _ _=>(pC (NK T:) hr T.Jt (aa (pv 1) da))))))),?_⟩;dsimp only[Cc];dsimp![qZ,Bh];have hzl:=ak;refine⟨⟨_,rfl⟩,⟨_,hl⟩,Fh (λv=>match v with|.int i=>some (V.str ⟨#[KT.sgn i.toNat]⟩)|_=>none) (qb hl) (by unfold iL;rw[List.length_map];lia) (λj x H1 R hx hs r=>?_) λD H1 hD h1 h2=>?_⟩
 ·obtain⟨b,hb,rfl⟩:=EU hx;dsimp![wipe];exact⟨b,rfl,r H1 (Aa.refl _)⟩
 ·refine⟨D,rfl,l.map λb=>S [KT.sgn b],?_,?_,?_⟩
  ·exact .inl (Ha.of (h1.trans (by rw[List.map_map];exact congrArg (λz=>some (HO.lst z)) (Wm (f:=λ(n:Nat)=>V.int (n:Int)) (F:=λv=>match v with|.int i=>some (V.str ⟨#[KT.sgn i.toNat]⟩)|_=>none) (λb=>rfl) l))))
  ·have h:=oA (f:=λz:Str=>z.length) (m:=1) (l.map λb=>S [KT.sgn b]) (λz hz=>by
    obtain⟨b,_,rfl⟩:=List.mem_map.mp hz;exact Nat.le_refl _)
   rw[List.length_map] at h⊢;lia
  ·rw[cK];exact k H1 h2
def II(K:PySem.W.Frag)(A:Ad):Sp:=λvs H Q _=>∃t:Text,vs=[.str (S t)]/\t.length<=100000/\∀D H',H D=none->H' D=some (.lst (iL t))->Aa H H'->Q (.ref D) H'
theorem DH(T:Txt K mg A):Ua P w K mg base nc 1 A.my A.Ox ["text"] (II K A):=by
 refine T.jq.F.Uc ["text","sign"] (by decide +kernel) λvs H Q E h nd=>?_;obtain⟨t,rfl,hz,k⟩:=h;have hzl:=ak;refine⟨rfl,λ_ _ _ _ hr=>?_⟩;refine⟨_,(ja (oa (Fe rfl nd (TK (pv 0)) (own:=[("sign",1)]) (bc (show Cb ["text","sign"] (Ra Tz) _ [("sign",1)]=true from by decide +kernel)) (λ_ _ _ _ _=>Va (i:=1) nd rfl (Or.inl rfl)) (λ_ _ _ _ _=>Ed) (λ_ _ _ _ _=>(Oa nQ rfl T.lY oV (aa (pv 1) da)))))),?_⟩;dsimp only[Cc];dsimp!;refine Fh (λv=>match v with|.str z=>some (.int ((z.cps.getD 0 0:Nat):Int))|_=>none) (xu (S t)) (by rw[List.length_map,Uo];lia) (λj x H1 R hx hs r=>?_) λD H1 hD h1 h2=>k D H1 hD (h1.trans ?_) h2
 ·rw[Uo,List.getElem?_map] at hx;cases e:t[j]? with
  |none=>rw[e] at hx;cases hx
  |some c=>
   rw[e] at hx;have hx:V.str ⟨#[c]⟩=x:=Option.some.inj hx;subst hx;dsimp![wipe];exact⟨rfl,r H1 (Aa.refl _)⟩
 ·rw[Uo];exact congrArg (λz=>some (HO.lst z)) (Wm (f:=λc=>V.str ⟨#[c]⟩) (F:=λv=>match v with|.str z=>some (.int ((z.cps.getD 0 0:Nat):Int))|_=>none) (λc=>rfl) t)
def DL(K:PySem.W.Frag)(A:Ad):Sp:=λvs H Q _=>∃t:Text,vs=[.str (S t)]/\t.length<=1000/\∀H',Aa H H'->Q (.bl (Km382.isName t)) H'
theorem Az(T:Txt K mg A):Ua P w K mg base nc 1 A.qC A.NB ["word"] (DL K A):=by
 refine T.Xn.F.Uc ["word","sign"] (by decide +kernel) λvs H Q E h nd=>?_;obtain⟨t,rfl,hz,k⟩:=h;have hzl:=ak;refine⟨rfl,λ_ _ _ _ hr=>?_⟩;refine⟨_,(ja (oa (Vk (Uj oe oe va (Oa wk rfl T.Zb Eb (aa (pv 0) da)) (Ka rfl T.Xm)) (Mq (Oa (gE K rfl) rfl T.QS AJ (aa (Fe rfl nd (TK (pv 0)) (own:=[("sign",1)]) (bc (show Cb ["word","sign"] (Ra yD) _ [("sign",1)]=true from by decide +kernel)) (λ_ _ _ _ _=>Va (i:=1) nd rfl (Or.inl rfl)) (λ_ _ _ _ _=>Ed) (λ_ _ _ _ _=>(qe Gz (pv 1) (mD rfl T.Ut) (by rfl)))) da)))))),?_⟩;dsimp only[Cc];dsimp![Bh,UU];refine⟨by lia,?_⟩;have hn:Km382.isName t=(decide (1<=t.length)&&(decide (t.length<=8)&&t.all λb=>decide (97<=b)&&decide (b<=122))):=rfl;split
 ·rename_i h1;split
  ·rename_i h2;refine Fh (λv=>match v with|.str z=>some (.bl (decide (97<=z.cps.getD 0 0)&&decide (z.cps.getD 0 0<=122)))|_=>none) (xu (S t)) (by rw[List.length_map,Uo];lia) (λj x H1 R hx hs r=>?_) λD H1 hD h1' h2'=>?_
   ·obtain⟨c,hc,rfl⟩:=LU hx;dsimp![wipe];refine⟨c,rfl,?_⟩;rw[Uo,eW];exact r H1 (Aa.refl _)
   ·refine⟨D,rfl,t.map λb=>decide (97<=b)&&decide (b<=122),Ha.of (h1'.trans ?_),?_⟩
    ·rw[Uo,List.map_map];exact congrArg (λz=>some (HO.lst z)) (Wm (f:=λc=>V.str ⟨#[c]⟩) (F:=λv=>match v with|.str z=>some (.bl (decide (97<=z.cps.getD 0 0)&&decide (z.cps.getD 0 0<=122)))|_=>none) (λc=>rfl) t)
    ·have e:(t.map λb=>decide (97<=b)&&decide (b<=122)).all id=Km382.isName t:=by
      rw[hn,List.all_map,decide_eq_true (by lia),decide_eq_true (by lia)];rfl
     rw[e];exact k H1 h2'
  ·rename_i h2;have e:Km382.isName t=false:=by rw[hn,decide_eq_false (p:=t.length<=8) (by lia)];simp
   rw[<-e];exact k H (Aa.refl _)
 ·rename_i h1;have e:Km382.isName t=false:=by rw[hn,decide_eq_false (p:=1<=t.length) (by lia)];simp
  rw[<-e];exact k H (Aa.refl _)
def ZF(K:PySem.W.Frag)(A:Ad):Sp:=λvs H Q _=>∃(t:Text)(m:Nat),vs=[.str (S t),.int (m:Int)]/\t≠[]/\t.length<=600/\∀H',Aa H H'->Q (.int ((KT.numOf t m:Nat):Int)) H'
theorem Pk(T:Txt K mg A):Ua P w K mg base nc 1 A.jv A.Pu ["word","most"] (ZF K A):=by
 refine T.Qg.F.Uc ["word","most","sign","number"] (by decide +kernel) λvs H Q E h nd=>?_;obtain⟨t,m,rfl,hne,hz,k⟩:=h;have hzl:=ak;refine⟨rfl,λ_ _ _ _ hr=>?_⟩;refine⟨_,(ba (Ma (PW.pt (dg (Ca Rb (XH bK (pv 0) va (λ_ _=>rfl)) jd (Ea _)) (Zf (Hb (Ob (Oa (gE K rfl) rfl T.QS AJ (aa (Fe rfl nd (TK (pv 0)) (own:=[("sign",2)]) (bc (show Cb ["word","most","sign","number"] (Ra Uv) _ [("sign",2)]=true from by decide +kernel)) (λ_ _ _ _ _=>Va (i:=2) nd rfl (Or.inl rfl)) (λ_ _ _ _ _=>Ed) (λ_ _ _ _ _=>(qe Gz (pv 2) (mD rfl T.Ky) (by rfl)))) da))))))) (ja (oa va)) za)
    (ba (Pa (i:=3) nd rfl (Or.inl rfl) (cf cE rfl T.kY nV (aa (pv 0) da)))
    (ja (oa (Lz (Ca oe (pv 3) (pv 1) (Ea _)) (pv 3) va))))),?_⟩
 dsimp only[Cc];dsimp![Bh,TU,KZ];obtain⟨b,r,rfl⟩:∃b r,t=b::r:=by
  cases t with
  |nil=>exact absurd rfl hne
  |cons b r=>exact⟨b,r,rfl⟩
 refine⟨by lia,b,?_,?_⟩
 ·rw[Uo];exact wa (j:=0) rfl
 have h0:KT.numOf (b::r) m=if b=48\/(b::r).all KT.Vd=false then 0 else if KT.val (b::r)<=m then KT.val (b::r) else 0:=rfl
 split
 ·rename_i hb;have hb:b=48:=by simpa using Fu (a:=[b]) (b:=[48]) hb
  rw[h0,if_pos (.inl hb)] at k;exact k H (Aa.refl _)
 ·rename_i hb;have hb:¬b=48:=λe=>hb (by rw[e];rfl);refine Fh (λv=>match v with|.str z=>some (.bl (KT.Vd (z.cps.getD 0 0)))|_=>none) (xu (S (b::r))) (by rw[List.length_map,Uo];lia) (λj x H1 R hx hs q=>?_) λD H1 hD h1' h2'=>?_
  ·obtain⟨c,hc,rfl⟩:=LU hx;dsimp![wipe];refine⟨c,rfl,?_⟩;rw[Uo,zV];exact q H1 (Aa.refl _)
  ·refine⟨D,rfl,(b::r).map KT.Vd,Ha.of (h1'.trans ?_),?_⟩
   ·rw[Uo,List.map_map];exact congrArg (λz=>some (HO.lst z)) (Wm (f:=λc=>V.str ⟨#[c]⟩) (F:=λv=>match v with|.str z=>some (.bl (KT.Vd (z.cps.getD 0 0)))|_=>none) (λc=>rfl) (b::r))
   ·have e:((b::r).map KT.Vd).all id=(b::r).all KT.Vd:=by rw[List.all_map];rfl
    rw[e];split
    ·rename_i hd;rw[h0,if_pos (.inr hd)] at k;exact k H1 h2'
    ·rename_i hd;rw[h0,if_neg (by rintro(z|z);exact hb z;exact hd z)] at k;have hd:(b::r).all KT.Vd=true:=by simpa using hd
     refine⟨((KT.val (b::r):Nat):Int),?_,by lia,?_⟩
     ·refine intText_digits (x:=S (b::r)) (λc hc=>?_) (by rw[Uo];simp) (by rw[Bh];lia);have:=List.all_eq_true.mp hd c hc;unfold KT.Vd at this;simpa using this
     ·split
      ·rename_i hm;rw[if_pos (by lia)] at k;exact k H1 h2'
      ·rename_i hm;rw[if_neg (by lia)] at k;exact k H1 h2'
def ux(H:Hp)(v st:V)(ns:List Int):Prop:=∃t l,v=.ref t/\H t=some (.tup [st,.ref l])/\H l=some (.lst (ns.map V.int))
def Ai(K:PySem.W.Frag)(A:Ad):Sp:=λvs H Q _=>∃z:Int,vs=[.int z]/\∀v H',Aa H H'->ux H' v .Vb [z]->Q v H'
theorem Ja(T:Txt K mg A):Ua P w K mg base nc 1 A.GC A.fC ["refusal"] (Ai K A):=by
 refine T.La.F.Uc ["refusal"] (by decide +kernel) λvs H Q E h nd=>?_;obtain⟨z,rfl,k⟩:=h;refine⟨rfl,λ_ _ _ _ hr=>?_⟩;refine⟨_,(ja (oa (xi (aa ic (aa (Wa (aa (pv 0) da)) da))))),?_⟩;dsimp only[Cc];dsimp!;refine⟨by decide,λp hp=>⟨by decide,λt ht=>?_⟩⟩;have np:p≠t:=ka ia ht;refine k _ _ ((qa hp).trans (qa ht)) ⟨t,p,rfl,ia,?_⟩;rw[ua np,ia];rfl
def uN(K:PySem.W.Frag)(A:Ad):Sp:=λvs H Q _=>∃(l:Addr)(ns:List Int),vs=[.ref l]/\H l=some (.lst (ns.map V.int))/\∀v H',Aa H H'->ux H' v .Vb ns->Q v H'
theorem Bf(T:Txt K mg A):Ua P w K mg base nc 1 A.GQ A.sQ ["numbers"] (uN K A):=by
 refine T.Of.F.Uc ["numbers"] (by decide +kernel) λvs H Q E h nd=>?_;obtain⟨l,ns,rfl,hl,k⟩:=h;refine⟨rfl,λ_ _ _ _ hr=>?_⟩;refine⟨_,(ja (oa (xi (aa ic (aa (pv 0) da))))),?_⟩;dsimp only[Cc];dsimp!;refine⟨by decide,λt ht=>?_⟩;exact k _ _ (qa ht) ⟨t,l,rfl,ia,by rw[ua (ka hl ht)];exact hl⟩
def eA(K:PySem.W.Frag)(A:Ad):Sp:=λvs H Q _=>∃(st:V)(l:Addr)(ns:List Int),vs=[st,.ref l]/\H l=some (.lst (ns.map V.int))/\∀v H',Aa H H'->ux H' v st ns->Q v H'
theorem gc(T:Txt K mg A):Ua P w K mg base nc 1 A.mC A.LB ["state","numbers"] (eA K A):=by
 refine T.jc.F.Uc ["state","numbers"] (by decide +kernel) λvs H Q E h nd=>?_;obtain⟨st,l,ns,rfl,hl,k⟩:=h;refine⟨rfl,λ_ _ _ _ hr=>?_⟩;refine⟨_,(ja (oa (xi (aa (pv 0) (aa (pv 1) da))))),?_⟩;dsimp only[Cc];dsimp!;refine⟨by decide,λt ht=>?_⟩;exact k _ _ (qa ht) ⟨t,l,rfl,ia,by rw[ua (ka hl ht)];exact hl⟩
theorem eX{K:PySem.W.Frag}{f:Str}{tv:TE}{σ:L2.St}{H H0:Hp}{D:Ends}{p C dx:Addr}{fs:List (Str×V)}{v:V}(h0:σ[0]?=some (some (V.ref p)))(hv:∀Q:VK,Q v H->tv σ H Q)(hH:H p=some (.ins C dx fs))(s:ab p H0 H)(c:AA K C)(n:jb K C f)(l:fs.length<1000)(hp:Dd f v fs=fs++[(f,v)])(h:∀H',H' p=some (.ins C dx (fs++[(f,v)]))->ab p H0 H'->D.nx σ H'):WO K (Xc 0) tv f D σ H:=
 hv _ ⟨_,h0,p,C,dx,fs,rfl,hH,c,n,l,by rw[hp];exact h _ ia λb o hb e=>(ua hb).trans (s b o hb e)⟩
theorem Pj{K:PySem.W.Frag}{f:Str}{tv:TE}{u:TS}{σ:L2.St}{H H0:Hp}{D:Ends}{p C dx:Addr}{fs:List (Str×V)}{v:V}(h0:σ[0]?=some (some (V.ref p)))(hv:∀Q:VK,Q v H->tv σ H Q)(hH:H p=some (.ins C dx fs))(s:ab p H0 H)(c:AA K C)(n:jb K C f)(l:fs.length<1000)(hp:Dd f v fs=fs++[(f,v)])(h:∀H',H' p=some (.ins C dx (fs++[(f,v)]))->ab p H0 H'->u D σ H'):eM (WO K (Xc 0) tv f) u D σ H:=eX (D:={D with nx:=u D}) h0 hv hH s c n l hp h
theorem PV{K:PySem.W.Frag}{f:Str}{tv:TE}{σ:L2.St}{H H0:Hp}{D:Ends}{p C dx:Addr}{fs:List (Str×V)}{u:HO}(h0:σ[0]?=some (some (V.ref p)))(hv:∀Q:VK,(∀q H1,H q=none->H1 q=some u->Aa H H1->Q (.ref q) H1)->tv σ H Q)(hH:H p=some (.ins C dx fs))(s:ab p H0 H)(c:AA K C)(n:jb K C f)(l:fs.length<1000)(hp:∀q,Dd f (.ref q) fs=fs++[(f,.ref q)])(h:∀H' q,H' p=some (.ins C dx (fs++[(f,.ref q)]))->H' q=some u->q≠p->H0 q=none->H q=none->ab p H H'->ab p H0 H'->D.nx σ H'):WO K (Xc 0) tv f D σ H:=
 hv _ λq H1 hq hu s1=>by
  have nq:q≠p:=λe=>by rw[e,hH] at hq;cases hq
  have f0:H0 q=none:=by
   cases e:H0 q with
   |none=>rfl
   |some o=>rw[s q o nq e] at hq;cases hq
  refine⟨_,h0,p,C,dx,fs,rfl,s1 _ _ hH,c,n,l,?_⟩;rw[hp];have x:ab p H (upd H1 p (.ins C dx (fs++[(f,.ref q)]))):=λb o hb e=>(ua hb).trans (s1 _ _ e);exact h _ q ia ((ua nq).trans hu) nq f0 hq x λb o hb e=>x b o hb (s b o hb e)
theorem lO{K:PySem.W.Frag}{f:Str}{tv:TE}{t:TS}{σ:L2.St}{H H0:Hp}{D:Ends}{p C dx:Addr}{fs:List (Str×V)}{u:HO}(h0:σ[0]?=some (some (V.ref p)))(hv:∀Q:VK,(∀q H1,H q=none->H1 q=some u->Aa H H1->Q (.ref q) H1)->tv σ H Q)(hH:H p=some (.ins C dx fs))(s:ab p H0 H)(c:AA K C)(n:jb K C f)(l:fs.length<1000)(hp:∀q,Dd f (.ref q) fs=fs++[(f,.ref q)])(h:∀H' q,H' p=some (.ins C dx (fs++[(f,.ref q)]))->H' q=some u->q≠p->H0 q=none->H q=none->ab p H H'->ab p H0 H'->t D σ H'):eM (WO K (Xc 0) tv f) t D σ H:=PV (D:={D with nx:=t D}) h0 hv hH s c n l hp h
def OF(K:PySem.W.Frag)(A:Ad):Sp:=λvs H Q _=>∃(p dx:Addr)(v0 v1 v2 v3 v4:V),vs=[.ref p,v0,v1,v2,v3,v4]/\H p=some (.ins A.zc dx [])/\∀H',H' p=some (.ins A.zc dx (ub ⟨v0,v1,v2,v3,v4⟩))->ab p H H'->Q .Vb H'
theorem Js(T:Txt K mg A):Ua P w K mg base nc 1 A.Mm A.Em ["self","name","price","bought","used","thrown"] (OF K A):=by
 refine T.Bu.Uc ["self","name","price","bought","used","thrown"] (by decide +kernel) λvs H Q E h nd=>?_;obtain⟨p,dx,v0,v1,v2,v3,v4,rfl,hp,k⟩:=h;refine⟨rfl,λ_ _ _ _ hr=>?_⟩;refine⟨_,(ba (Xo K (pv 0) (pv 1))
  (ba (Xo K (pv 0) (pv 2))
  (ba (Xo K (pv 0) (pv 3))
  (ba (Xo K (pv 0) (pv 4))
  (ja (Xo K (pv 0) (pv 5))))))),?_⟩
 dsimp only[Cc];refine Pj rfl (λ_ q=>⟨_,rfl,q⟩) hp (λ_ _ _ e=>e) T.je T.Jv (Nat.le_of_ble_eq_true rfl) (by kernel_rfl) λG h0 s0=>?_;refine Pj rfl (λ_ q=>⟨_,rfl,q⟩) h0 s0 T.je T.Lk (Nat.le_of_ble_eq_true rfl) (by kernel_rfl) λG h1 s1=>?_;refine Pj rfl (λ_ q=>⟨_,rfl,q⟩) h1 s1 T.je T.pj (Nat.le_of_ble_eq_true rfl) (by kernel_rfl) λG h2 s2=>?_;refine Pj rfl (λ_ q=>⟨_,rfl,q⟩) h2 s2 T.je T.rn (Nat.le_of_ble_eq_true rfl) (by kernel_rfl) λG h3 s3=>?_;refine eX rfl (λ_ q=>⟨_,rfl,q⟩) h3 s3 T.je T.qj (Nat.le_of_ble_eq_true rfl) (by kernel_rfl) λG h4 s4=>?_;exact k _ h4 s4
def HI(K:PySem.W.Frag)(A:Ad):Sp:=λvs H Q _=>∃(p dx:Addr)(v0 v1 v2:V),vs=[.ref p,v0,v1,v2]/\H p=some (.ins A.Oh dx [])/\∀H',H' p=some (.ins A.Oh dx (Yj ⟨v0,v1,v2⟩))->ab p H H'->Q .Vb H'
theorem Nv(T:Txt K mg A):Ua P w K mg base nc 1 A.Bq A.Aq ["self","good","units","last"] (HI K A):=by
 refine T.ox.Uc ["self","good","units","last"] (by decide +kernel) λvs H Q E h nd=>?_;obtain⟨p,dx,v0,v1,v2,rfl,hp,k⟩:=h;refine⟨rfl,λ_ _ _ _ hr=>?_⟩;refine⟨_,(ba (Xo K (pv 0) (pv 1))
  (ba (Xo K (pv 0) (pv 2))
  (ja (Xo K (pv 0) (pv 3))))),?_⟩
 dsimp only[Cc];refine Pj rfl (λ_ q=>⟨_,rfl,q⟩) hp (λ_ _ _ e=>e) T.Ot T.oz (Nat.le_of_ble_eq_true rfl) (by kernel_rfl) λG h0 s0=>?_;refine Pj rfl (λ_ q=>⟨_,rfl,q⟩) h0 s0 T.Ot T.Kv (Nat.le_of_ble_eq_true rfl) (by kernel_rfl) λG h1 s1=>?_;refine eX rfl (λ_ q=>⟨_,rfl,q⟩) h1 s1 T.Ot T.pz (Nat.le_of_ble_eq_true rfl) (by kernel_rfl) λG h2 s2=>?_;exact k _ h2 s2
def QF(K:PySem.W.Frag)(A:Ad):Sp:=λvs H Q _=>∃(p dx:Addr)(v0 v1 v2 v3:V),vs=[.ref p,v0,v1,v2,v3]/\H p=some (.ins A.Od dx [])/\∀H',H' p=some (.ins A.Od dx (ee ⟨v0,v1,v2,v3⟩))->ab p H H'->Q .Vb H'
theorem aF(T:Txt K mg A):Ua P w K mg base nc 1 A.Om A.Gm ["self","name","slots","place","after"] (QF K A):=by
 refine T.Du.Uc ["self","name","slots","place","after"] (by decide +kernel) λvs H Q E h nd=>?_;obtain⟨p,dx,v0,v1,v2,v3,rfl,hp,k⟩:=h;refine⟨rfl,λ_ _ _ _ hr=>?_⟩;refine⟨_,(ba (Xo K (pv 0) (pv 1))
  (ba (Xo K (pv 0) (pv 2))
  (ba (Xo K (pv 0) (pv 3))
  (ja (Xo K (pv 0) (pv 4)))))),?_⟩
 dsimp only[Cc];refine Pj rfl (λ_ q=>⟨_,rfl,q⟩) hp (λ_ _ _ e=>e) T.Hi T.Mv (Nat.le_of_ble_eq_true rfl) (by kernel_rfl) λG h0 s0=>?_;refine Pj rfl (λ_ q=>⟨_,rfl,q⟩) h0 s0 T.Hi T.Fs (Nat.le_of_ble_eq_true rfl) (by kernel_rfl) λG h1 s1=>?_;refine Pj rfl (λ_ q=>⟨_,rfl,q⟩) h1 s1 T.Hi T.Es (Nat.le_of_ble_eq_true rfl) (by kernel_rfl) λG h2 s2=>?_;refine eX rfl (λ_ q=>⟨_,rfl,q⟩) h2 s2 T.Hi T.Ds (Nat.le_of_ble_eq_true rfl) (by kernel_rfl) λG h3 s3=>?_;exact k _ h3 s3
def dA(K:PySem.W.Frag)(A:Ad):Sp:=λvs H Q _=>∃(p dx:Addr)(v0 v1 v2:V),vs=[.ref p,v0,v1,v2]/\H p=some (.ins A.Yc dx [])/\∀H',H' p=some (.ins A.Yc dx (wc ⟨v0,v1,v2⟩))->ab p H H'->Q .Vb H'
theorem yz(T:Txt K mg A):Ua P w K mg base nc 1 A.jj A.gj ["self","serves","takes","steps"] (dA K A):=by
 refine T.cp.Uc ["self","serves","takes","steps"] (by decide +kernel) λvs H Q E h nd=>?_;obtain⟨p,dx,v0,v1,v2,rfl,hp,k⟩:=h;refine⟨rfl,λ_ _ _ _ hr=>?_⟩;refine⟨_,(ba (Xo K (pv 0) (pv 1))
  (ba (Xo K (pv 0) (pv 2))
  (ja (Xo K (pv 0) (pv 3))))),?_⟩
 dsimp only[Cc];refine Pj rfl (λ_ q=>⟨_,rfl,q⟩) hp (λ_ _ _ e=>e) T.qg T.uh (Nat.le_of_ble_eq_true rfl) (by kernel_rfl) λG h0 s0=>?_;refine Pj rfl (λ_ q=>⟨_,rfl,q⟩) h0 s0 T.qg T.xn (Nat.le_of_ble_eq_true rfl) (by kernel_rfl) λG h1 s1=>?_;refine eX rfl (λ_ q=>⟨_,rfl,q⟩) h1 s1 T.qg T.vn (Nat.le_of_ble_eq_true rfl) (by kernel_rfl) λG h2 s2=>?_;exact k _ h2 s2
theorem KU{l:List Text}{j:Nat}{t:Text}(h:l[j]?=some t):(sL l)[j]?=some (.str (S t)):=by
 unfold sL;rw[List.getElem?_map,h];rfl
theorem iS{l:List Text}{j:Nat}{x:V}(h:(sL l)[j]?=some x):∃t,l[j]?=some t/\x=.str (S t):=by
 unfold sL at h;rw[List.getElem?_map] at h;cases e:l[j]? with
 |none=>rw[e] at h;cases h
 |some b=>rw[e] at h;exact⟨b,rfl,(Option.some.inj h).symm⟩
theorem En(l:List Text):(sL l).length=l.length:=List.length_map ..
theorem Ko(l:List Text):(sL l).all Ri=true:=by
 unfold sL;rw[List.all_map];exact List.all_eq_true.mpr λ_ _=>rfl
theorem WY(a b:Text):QP (.str (S a)) (.str (S b))=decide (a=b):=by
 show(S a==S b)=_;rw[Bool.beq_eq_decide_eq,BU]
theorem Ry(w:Text)(l:List Text):dX (.str (S w)) (sL l)=l.contains w:=by
 unfold dX sL;rw[List.any_map,List.contains_eq_any_beq];refine congrArg (λf=>l.any f) (funext λt=>?_);show QP (.str (S t)) (.str (S w))=(w==t);rw[WY,Bool.beq_eq_decide_eq];exact decide_eq_decide.mpr eq_comm
theorem lH{K:PySem.W.Frag}{H:Hp}{a:Addr}{l:List Text}{w:Text}{j:Nat}{Q:VK}(hs:Ha K H a (sL l))(h:l.idxOf? w=some j)(q:Q (.int (j:Nat)) H):YK K (.ref a) [.str (S w)] H Q:=by
 unfold List.idxOf? at h;obtain⟨h1,h2,h3⟩:=List.findIdx?_eq_some_iff_getElem.mp h;have e:l[j]=w:=by simpa using h2
 refine⟨a,sL l,.str (S w),j,.str (S w),rfl,rfl,hs,rfl,Ko l,KU (by rw[List.getElem?_eq_getElem h1,e]),by rw[WY];simp,λm z hm hz=>?_,q⟩;obtain⟨t,ht,rfl⟩:=iS hz;rw[WY];have:=h3 m hm;have h4:m<l.length:=Nat.lt_trans hm h1;rw[List.getElem?_eq_getElem h4] at ht;have ht:=Option.some.inj ht;rw[ht] at this;simpa using this
theorem YJ{l:List Text}{w:Text}(h:l.contains w=true):∃j,l.idxOf? w=some j:=by
 cases e:l.idxOf? w with
 |some j=>exact⟨j,rfl⟩
 |none=>
  unfold List.idxOf? at e;rw[List.findIdx?_eq_none_iff] at e;have:=e w (by simpa using h);simp at this
theorem jR{l:List Text}{w:Text}(h:l.contains w=false):l.idxOf? w=none:=by
 cases e:l.idxOf? w with
 |none=>rfl
 |some j=>
  unfold List.idxOf? at e;obtain⟨h1,h2,h3⟩:=List.findIdx?_eq_some_iff_getElem.mp e;have e:l[j]=w:=by simpa using h2
  have:w∈l:=by rw[<-e];exact List.getElem_mem h1
  simp[this] at h
theorem iE(s:Nat):∀(l acc:List Nat),TL.Wv [s] 0 acc l=KT.cut s acc l
 |[],acc=>TL.mx _ _ _
 |c::r,acc=>by
  by_cases h:c=s
  ·subst h;rw[TL.vN (show TL.pre [c] (c::r)=true from TL.SR [c] r)];show acc::TL.Wv [c] 0 [] r=_;rw[iE c r []];exact(if_pos rfl).symm
  ·rw[TL.cJ (TL.bI [] r h),iE s r];exact(if_neg h).symm
theorem GD(s:Nat)(hs:s<256)(t:Text):Txt.split (S t) (S [s])=(KT.cut s [] t).map S:=by
 refine TL.jz ?_;rw[TL.zP _ _ (by show[s]≠[];simp) (TL.ET (by simp[S,hs]))];show TL.Wv [s] 0 [] t=_;rw[iE,List.map_map]
 conv=>lhs;rw[<-List.map_id (KT.cut s [] t)]
 rfl
theorem Ww(s:Nat):∀(t acc:Text),(KT.cut s acc t).length<=t.length+1
 |[],acc=>by simp[KT.cut]
 |c::r,acc=>by
  unfold KT.cut;split
  ·have:=Ww s r [];simp;lia
  ·have:=Ww s r (acc++[c]);simp;lia
def bJ(K:PySem.W.Frag)(A:Ad):Sp:=λvs H Q _=>∃t:Text,vs=[.str (S t)]/\t.length<=1000/\∀D H',H D=none->H' D=some (.lst (sL (Km382.words t [])))->Aa H H'->Q (.ref D) H'
theorem RH(T:Txt K mg A):Ua P w K mg base nc 1 A.Hy A.jy ["line"] (bJ K A):=by
 refine T.zq.F.Uc ["line","word"] (by decide +kernel) λvs H Q E h nd=>?_;obtain⟨t,rfl,hz,k⟩:=h;have hzl:=ak;refine⟨rfl,λ_ _ _ _ hr=>?_⟩;refine⟨_,(ja (oa (Fe rfl nd (iu K (YH (pv 0) jd)) (own:=[("word",1)]) (bc (show Cb ["line","word"] (Ra aA) _ [("word",1)]=true from by decide +kernel)) (λ_ _ _ _ _=>Va (i:=1) nd rfl (Or.inl rfl)) (λ_ _ _ _ _=>se (Ca Ks (pv 1) jd (Ea _))) (λ_ _ _ _ _=>(pv 1))))),?_⟩;dsimp only[Cc];dsimp![LW,qZ,Bh];rw[GD 32 (by decide)];refine⟨⟨_,rfl⟩,by decide,by lia,λp hp=>⟨p,rfl,⟨_,Ha.of ia⟩,?_⟩⟩;have hl:(((KT.cut 32 [] t).map S).map V.str).length<=sizeLine:=by
  have:=Ww 32 t [];rw[List.length_map,List.length_map];lia
 refine Fh (λv=>if v=V.str (S []) then none else some v) (qb (Ha.of ia)) hl (λj x H1 R hx hs r=>?_) λD H1 hD h1 h2=>?_
 ·rw[List.map_map,List.getElem?_map] at hx;cases e:(KT.cut 32 [] t)[j]? with
  |none=>rw[e] at hx;cases hx
  |some u=>
   rw[e] at hx;have hx:V.str (S u)=x:=Option.some.inj hx;subst hx;dsimp![wipe];have r:=r H1 (Aa.refl _);simp only[V.str.injEq] at r;split
   ·rename_i h;rw[if_neg h] at r;exact r
   ·rename_i h;rw[if_pos (by simpa using h)] at r;exact r
 ·refine k D H1 ((qa hp).free hD) (h1.trans ?_) ((qa hp).trans h2);rw[KT.Lo,List.map_map];refine congrArg (λz=>some (HO.lst z)) ?_;exact Rt (f:=V.str∘S) (p:=λw=>decide (w≠[])) (G:=λt=>V.str (S t)) (λu=>by
   by_cases h:u=[]
   ·subst h;rfl
   ·show(if V.str (S u)=V.str (S []) then none else some (V.str (S u)))=_;rw[if_neg (λe=>h (Fu (V.str.inj e))),if_pos (by simpa using h)]) _
def Jg(n:Nat):Text:=Km382.wPlaces.getD n []
def ig(A:Ad)(H:Hp)(x:Addr)(v:V)(s:Km382.Step_):Prop:=∃a dx l,v=.ref a/\H a=some (.ins A.Od dx (ee ⟨.str (S s.name),.int (s.long:Int),.str (S (Jg s.place)),.ref l⟩))/\H l=some (.lst (iL s.after))/\l≠x
def GP(l:List Km382.Take):List (Key×V):=l.map λt=>(.inl (t.good:Int),.int (t.units:Int))
structure Rec(A:Ad)(H:Hp)(a dx d l:Addr)(r:Km382.Recipe):Prop where
 ob:H a=some (.ins A.Yc dx (wc ⟨.int (r.serves:Int),.ref d,.ref l⟩))
 tk:H d=some (.dK (GP r.takes))
 st:∃vs,H l=some (.lst vs)/\Paired (ig A H l) vs r.steps
def Nh(a d l:Addr)(H H':Hp):Prop:=∀b o,b≠a->b≠d->b≠l->H b=some o->H' b=some o
theorem Nh.trans{a d l:Addr}{H H1 H2:Hp}(x:Nh a d l H H1)(y:Nh a d l H1 H2):Nh a d l H H2:=λb o h1 h2 h3 e=>y b o h1 h2 h3 (x b o h1 h2 h3 e)
theorem Aa.r{H H':Hp}(x:Aa H H')(a d l:Addr):Nh a d l H H':=λb o _ _ _ e=>x b o e
theorem ig.mono{A:Ad}{H H':Hp}{x:Addr}{v:V}{s:Km382.Step_}(h:ig A H x v s)(k:∀b o,b≠x->(∃dx q,o=.ins A.Od dx (ee q))\/(∃ys,o=.lst ys)->H b=some o->H' b=some o)(hx:∃vs,H x=some (.lst vs)):ig A H' x v s:=by
 obtain⟨a,dx,l,e,h1,h2,h3⟩:=h;obtain⟨vs,hx⟩:=hx;exact⟨a,dx,l,e,k _ _ (Fb h1 hx (by intro z;cases z)) (.inl ⟨_,_,rfl⟩) h1,k _ _ h3 (.inr ⟨_,rfl⟩) h2,h3⟩
theorem Rec.mono{A:Ad}{H H':Hp}{a dx d l:Addr}{r:Km382.Recipe}(h:Rec A H a dx d l r)(k:Aa H H'):Rec A H' a dx d l r:=by
 obtain⟨vs,h1,h2⟩:=h.st;exact⟨k _ _ h.ob,k _ _ h.tk,vs,k _ _ h1,h2.mono λv s z=>z.mono (λb o _ _ e=>k b o e) ⟨_,h1⟩⟩
theorem NT{A:Ad}{H:Hp}{a c dx dx':Addr}{o:uf}{q:aj}(h:H a=some (.ins A.Yc dx (wc o)))(e:H c=some (.ins A.Od dx' (ee q))):c≠a:=Fb e h (by
 intro z;injection z with _ _ z;have:=congrArg List.length z;exact absurd this (by show¬(4=3);decide))
def ir(ws:List Text):Prop:=ws.length<=500/\∀w∈ws,w≠[]/\w.length<=500
def Rw(A:Ad)(goods:List Text)(a dx d l:Addr)(r:Km382.Recipe)(ws:List Text)(H:Hp)(Q:VK):Prop:=
 (∀H',Nh a d l H H'->Km382.lineOn goods r ws=none->Q (.bl false) H')/\∀H' q,Nh a d l H H'->Km382.lineOn goods r ws=some q->Rec A H' a dx d l q->Q (.bl true) H'
theorem iJ:Str.ofString "serves"=S Km382.wServes:=by decide +kernel
theorem HS:Str.ofString "take"=S Km382.wTake:=by decide +kernel
theorem GS:Str.ofString "step"=S Km382.wStep:=by decide +kernel
theorem CN:Str.ofString "after"=S Km382.wAfter:=by decide +kernel
def jA(K:PySem.W.Frag)(A:Ad):Sp:=λvs H Q _=>∃(a dx d l p:Addr)(r:Km382.Recipe)(ws goods:List Text),vs=[.ref a,.ref p]/\Rec A H a dx d l r/\Ha K H p (sL ws)/\ir ws/\ws.head?=some Km382.wServes/\Rw A goods a dx d l r ws H Q
theorem Ez(T:Txt K mg A):Ua P w K mg base nc 2 A.Cp A.vp ["recipe","words"] (jA K A):=by
 refine T.fj.F.Uc ["recipe","words"] (by decide +kernel) λvs H Q E h nd=>?_;obtain⟨a,dx,d,l,p,r,ws,goods,rfl,R,hp,hw,hh,kF,kT⟩:=h;have hzl:=ak;refine⟨rfl,λ_ _ _ _ hr=>?_⟩;refine⟨_,(ba (Ma (PW.pt (dg (Ca Ks (Oa (Ga (K:=K) rfl) rfl T.Zb Eb (aa (pv 1) da)) va (Ea _)) (Zf (Ca Ks (pF (qd T) (pv 0)) va (Ea _))))) (ja (oa Dh)) za)
    (ba (Ih (fs:=wc) (put:=λv o=>{o with serves:=v}) T.qg T.uh kK Bw (pv 0) (pC (Pk T:) hr T.Qg (aa (vc K (pv 1) va) (aa (Ka rfl T.Dp) da))) rfl)
    (ja (oa (qe Ks (pF (qd T) (pv 0)) va (Ea _)))))),?_⟩
 dsimp only[Cc];dsimp!;refine⟨sL ws,.inl hp,?_⟩;rw[En];split
 ·rename_i h;exact kF H (λb o _ _ _ e=>e) (KT.uL hh (by lia))
 rename_i h;obtain⟨b,rfl,e⟩:=KT.vL (goods:=goods) (r:=r) hh (by lia);refine⟨dx,_,R.ob,rfl,?_⟩;have hb:=hw.2 b (by simp);dsimp!;split
 ·rename_i h;exact kF H (λb o _ _ _ e=>e) (by rw[e,if_neg (by lia)])
 rename_i h;refine⟨_,hp,_,wa (j:=1) (v:=V.str (S b)) rfl,b,99,rfl,hb.1,by lia,λH1 h1=>?_⟩;refine⟨dx,_,h1 _ _ R.ob,dx,_,ia,rfl,?_⟩;have hne:H1 a≠H1 d:=by rw[h1 _ _ R.ob,h1 _ _ R.tk];intro z;cases z
 have had:d≠a:=λz=>hne (by rw[z]);obtain⟨us,hl1,hl2⟩:=R.st;have hal:l≠a:=Fb hl1 R.ob (by intro z;cases z);have hS:Nh a d l H (upd H1 a (.ins A.Yc dx (wc ⟨.int ((KT.numOf b 99:Nat):Int),.ref d,.ref l⟩))):=λc o hc _ _ e=>by rw[ua hc];exact h1 c o e
 rw[KT.wz hb.1 (by decide)] at hS⊢;by_cases hn:1<=Km382.number b/\Km382.number b<=99
 ·rw[if_pos hn.2] at hS⊢;have hc:decide (V.int ((Km382.number b:Nat):Int)=V.int 0)=false:=decide_eq_false λz=>by
   have:=V.int.inj z;lia
  show Q (V.bl (!decide (V.int ((Km382.number b:Nat):Int)=V.int 0))) _;rw[hc];refine kT _ ⟨Km382.number b,r.takes,r.steps⟩ hS (by rw[e,if_pos ⟨by lia,hn⟩]) ⟨ia,?_,us,?_,?_⟩
  ·rw[ua had];exact h1 _ _ R.tk
  ·rw[ua hal];exact h1 _ _ hl1
  ·refine hl2.mono λv s z=>z.mono (λc o _ ho e=>?_) ⟨_,hl1⟩;have hca:c≠a:=by
    rcases ho with⟨dx',q,rfl⟩|⟨ys,rfl⟩
    ·exact NT R.ob e
    ·exact Fb e R.ob (by intro z;cases z)
   rw[ua hca];exact h1 _ _ e
 ·have hc:(if Km382.number b<=99 then Km382.number b else 0)=0:=by
   split
   ·lia
   ·rfl
  rw[hc] at hS⊢;exact kF _ hS (by rw[e,if_neg λz=>hn z.2])
def cG(K:PySem.W.Frag)(A:Ad):Sp:=λvs H Q _=>∃(a dx d l p n:Addr)(r:Km382.Recipe)(ws goods:List Text),vs=[.ref a,.ref p,.ref n]/\Rec A H a dx d l r/\Ha K H p (sL ws)/\Ha K H n (sL goods)/\ir ws/\ws.head?=some Km382.wTake/\r.takes.length<=8/\Rw A goods a dx d l r ws H Q
theorem cV{goods:List Text}{c:Text}(h:goods.contains c=false):goods.idxOf? c=none:=jR h
theorem uA(g:Nat):∀l:List Km382.Take,Zl (GP l) (.inl (g:Int))=(l.find? λt=>t.good==g).map λt=>.int (t.units:Int)
 |[]=>rfl
 |t::l=>by
  have ih:=uA g l;unfold Zl GP at ih⊢;rw[List.map_cons,List.find?_cons,List.find?_cons];by_cases h:t.good=g
  ·rw[decide_eq_true (show(Sum.inl (t.good:Int):Key)=Sum.inl (g:Int) by rw[h])];have e1:(t.good==g)=true:=by simp[h]
   rw[e1];rfl
  ·have e1:(t.good==g)=false:=by simp[h]
   rw[e1,decide_eq_false (show¬(Sum.inl (t.good:Int):Key)=Sum.inl (g:Int) fromλz=>h (by have:=Sum.inl.inj z;lia))];exact ih
theorem jM(l:List Km382.Take):(GP l).length=l.length:=List.length_map ..
theorem mF(T:Txt K mg A):Ua P w K mg base nc 2 A.vv A.Su ["recipe","words","names"] (cG K A):=by
 refine T.zm.F.Uc ["recipe","words","names","units","good"] (by decide +kernel) λvs H Q E h nd=>?_;obtain⟨a,dx,d,l,p,n,r,ws,goods,rfl,R,hp,hgn,hw,hh,h8,kF,kT⟩:=h;have hzl:=ak;refine⟨rfl,λ_ _ _ _ hr=>?_⟩;have hu:=Ep hr;refine⟨_,(ba (Ma (PW.pt (dg (Ca Ks (Oa (Ga (K:=K) rfl) rfl T.Zb Eb (aa (pv 1) da)) va (Ea _)) (Zf (Ca Rb (Oa QN rfl T.Zb Eb (aa (pF (Nd T) (pv 0)) da)) (Ka rfl T.yE) (Ea _))))) (ja (oa Dh)) za)
    (ba (Pa (i:=3) nd rfl (Or.inl rfl) (pC (Pk T:) hr T.Qg (aa (vc K (pv 1) va) (aa (Ka rfl T.xE) da))))
    (ba (Ma (PW.pt (dg (Ca Rb (pv 3) va (Ea _)) (Zf (Ca (Up (K:=K) rfl) (vc K (pv 1) va) (pv 2) (by rfl))))) (ja (oa Dh)) za)
    (ba (Pa (i:=4) nd rfl (Or.inl rfl) (Wf (K:=K) rfl PySem.F.plainAttrs_list PySem.F.slot_list_index PySem.F.type_list_index (eD (K:=K) rfl) (pv 2) (aa (vc K (pv 1) va) da)))
    (ba (Ma (VR (nW hu (pv 4) (pF (Nd T) (pv 0)))) (ja (oa Dh)) za)
    (ba (kx hu (pF (Nd T) (pv 0)) (pv 4) (pv 3) rfl)
    (ja (oa Dh)))))))),?_⟩
 dsimp only[Cc];dsimp![YX,tI];have hS0:Nh a d l H H:=λb o _ _ _ e=>e;refine⟨sL ws,.inl hp,?_⟩;rw[En];split
 ·rename_i h;exact kF H hS0 (KT.take_len hh (by lia))
 rename_i h;obtain⟨b,c,rfl,e⟩:=KT.fM (goods:=goods) (r:=r) hh (by lia);refine⟨dx,_,R.ob,d,rfl,_,R.tk,?_⟩;rw[jM];have hb:=hw.2 b (by simp);have hc:=hw.2 c (by simp);split
 ·rename_i h;exact kF H hS0 (by rw[e,if_neg (by lia)])
 rename_i h;refine⟨_,hp,_,wa (j:=1) (v:=V.str (S b)) rfl,b,9999,rfl,hb.1,by lia,λH1 h1=>⟨rfl,?_⟩⟩;rw[KT.wz hb.1 (by decide),if_pos (KT.iD b)];have hS1:Nh a d l H H1:=Aa.r h1 a d l;split
 ·rename_i h;have h:Km382.number b=0:=by have:=V.int.inj h;lia
  exact kF H1 hS1 (by rw[e,if_neg (by lia)])
 rename_i h';have h':1<=Km382.number b:=by
  cases z:Km382.number b with
  |zero=>exact absurd (by rw[z];rfl) h'
  |succ m=>lia
 have hp1:=h1.seq hp;have hn1:=h1.seq hgn;refine⟨_,hp1,_,wa (j:=2) (v:=V.str (S c)) rfl,n,_,rfl,.inl hn1,rfl,Ko _,_,rfl,?_⟩;rw[Ry];cases hcon:goods.contains c with
 |false=>
  refine(if_pos rfl).mpr (kF H1 hS1 (by rw[e,if_pos ⟨h',by lia⟩,cV hcon]))
 |true=>
  refine(if_neg (by simp)).mpr ⟨.inl ⟨rfl,_,hn1⟩,_,hp1,_,wa (j:=2) (v:=V.str (S c)) rfl,?_⟩;obtain⟨g,hg⟩:=YJ hcon;refine lH hn1 hg ?_;have hob1:=h1 _ _ R.ob;have htk1:=h1 _ _ R.tk;refine⟨dx,_,hob1,d,rfl,_,Mg.k (k:=Sum.inl (g:Int)) htk1,?_⟩;rw[uA];rw[if_pos ⟨h',by lia⟩,hg] at e;have hany:(r.takes.any λt=>t.good==g)=(r.takes.find? λt=>t.good==g).isSome:=by
   rw[Bool.eq_iff_iff,List.find?_isSome,List.any_eq_true]
  cases hf:(r.takes.find? λt=>t.good==g) with
  |some t=>
   rw[hf] at hany;refine(if_pos rfl).mpr (kF H1 hS1 (by rw[e];exact if_pos hany))
  |none=>
   rw[hf] at hany;have hnone:Zl (GP r.takes) (Sum.inl (g:Int))=none:=by rw[uA,hf];rfl
   refine(if_neg (by simp)).mpr ⟨dx,_,hob1,d,rfl,_,BA.k (k:=Sum.inl (g:Int)) htk1 (by rw[jM];lia),?_⟩;rw[YR _ hnone];have had:a≠d:=Fb R.ob R.tk (by intro z;cases z);obtain⟨us,hl1,hl2⟩:=R.st;have hld:l≠d:=Fb hl1 R.tk (by intro z;cases z);refine kT _ ⟨r.serves,r.takes++[⟨g,Km382.number b⟩],r.steps⟩ (λx o _ hx _ e=>by rw[ua hx];exact h1 _ _ e) (by rw[e];exact if_neg (by rw[hany];simp)) ⟨by rw[ua had];exact hob1,?_,us,by rw[ua hld];exact h1 _ _ hl1,?_⟩
   ·rw[ia];unfold GP;rw[List.map_append];rfl
   ·refine hl2.mono λv s z=>z.mono (λx o _ ho e=>?_) ⟨_,hl1⟩;have hxd:x≠d:=by
     rcases ho with⟨dx',q,rfl⟩|⟨ys,rfl⟩
     ·exact Fb e R.tk (by intro z;cases z)
     ·exact Fb e R.tk (by intro z;cases z)
    rw[ua hxd];exact h1 _ _ e
theorem AQ:∀(n:Nat)(l:List Text),l.length<=n->(l.map S).eraseDups.length=l.eraseDups.length
 |0,l,h=>by
  have:l=[]:=List.length_eq_zero_iff.mp (by lia);subst this;rfl
 |n+1,[],_=>rfl
 |n+1,x::l,h=>by
  rw[List.map_cons,List.eraseDups_cons,List.eraseDups_cons,List.length_cons,List.length_cons,List.filter_map];have e:((λb=>!b==S x)∘S)=λb=>!b==x:=by
   funext b;show(!(S b==S x))=!(b==x);rw[Bool.beq_eq_decide_eq,BU,Bool.beq_eq_decide_eq]
  have h1:=List.length_filter_le (λb=>!b==x) l;rw[e,AQ n _ (by rw[List.length_cons] at h;lia)]
theorem Dm(xs:List V)(n:Nat):iw xs (some (n:Int)) none=xs.drop n:=by
 unfold iw HT.rG;simp only[show¬((n:Int)<0) by lia,if_false,Int.toNat_natCast];by_cases h:n<=xs.length
 ·rw[Nat.min_eq_left h];exact List.take_of_length_le (by rw[List.length_drop];lia)
 ·rw[Nat.min_eq_right (by lia),List.drop_eq_nil_of_le (Nat.le_refl _),List.drop_eq_nil_of_le (by lia)];simp
theorem DF(l:List Text)(n:Nat):(sL l).drop n=sL (l.drop n):=by unfold sL;rw[List.map_drop]
theorem jh{K:PySem.W.Frag}{H:Hp}{p:Addr}{xs:List V}(h:Ha K H p xs):YS K (.ref p) H (!xs.isEmpty):=.inl ⟨xs,h,rfl⟩
def OI(K:PySem.W.Frag)(A:Ad):Sp:=λvs H Q _=>∃(p q:Addr)(ws names:List Text),vs=[.ref p,.ref q]/\Ha K H p (sL ws)/\Ha K H q (sL names)/\ws.length<=500/\∀H',Aa H H'->Q (.bl (KT.Tn names ws)) H'
theorem FH(T:Txt K mg A):Ua P w K mg base nc 1 A.wy A.Ux ["words","steps"] (OI K A):=by
 refine T.lq.F.Uc ["words","steps","named","name"] (by decide +kernel) λvs H Q E h nd=>?_;obtain⟨p,q,ws,names,rfl,hp,hq,hw,k⟩:=h;have hzl:=ak;refine⟨rfl,λ_ _ _ _ hr=>?_⟩;refine⟨_,(ba (Ma (Hb (HU K (pv 0) (λ_=>rfl))) (ja (oa Dh)) za)
    (ba (Pa (i:=2) nd rfl (Or.inl rfl) (Xf (pU K) (pv 0) (Kg va) Vi))
    (ba (Ma (PW.pt (dg (Ca Ks (vc K (pv 0) va) jd (Ea _)) (dg (Hb (HU K (pv 2) (λ_=>rfl))) (Zf (Ca Ks (SO rfl rfl T.Zb T.mY (pv 2) rfl) (Oa (Ga (K:=K) rfl) rfl T.Zb Eb (aa (pv 2) da)) (Ea _)))))) (ja (oa Dh)) za)
    (ja (oa (Oa (gE K rfl) rfl T.QS AJ (aa (Fe rfl nd (iu K (pv 2)) (own:=[("name",3)]) (bc (show Cb ["words","steps","named","name"] (Ra Wz) _ [("name",3)]=true from by decide +kernel)) (λ_ _ _ _ _=>Va (i:=3) nd rfl (Or.inl rfl)) (λ_ _ _ _ _=>Ed) (λ_ _ _ _ _=>(qe (Qk (K:=K) rfl) (pv 3) (pv 1) (by rfl)))) da))))))),?_⟩
 dsimp only[Cc];dsimp![CN,zN,Jf];refine⟨_,jh hp,?_⟩;cases ws with
 |nil=>exact(if_pos rfl).mpr (k H (Aa.refl _))
 |cons e f=>
  refine(if_neg (by simp[sL])).mpr ⟨_,hp,λn hn=>?_⟩;rw[show(1:Int)=((1:Nat):Int) from rfl,Dm,DF];have s1:Aa H (upd H n (.lst (sL f))):=qa hn;have hn1:Ha K (upd H n (.lst (sL f))) n (sL f):=Ha.of ia;have hd:KT.Tn names (e::f)=(decide (e=Km382.wAfter)&&(decide (f≠[])&&KT.me names f)):=rfl;rw[hd] at k;refine⟨_,s1.seq hp,_,wa (j:=0) (v:=V.str (S e)) rfl,rfl,?_⟩;split
  ·rename_i h;rw[decide_eq_false (p:=e=Km382.wAfter) (λz=>h (by rw[z]))] at k;exact k _ s1
  rename_i h;have he:e=Km382.wAfter:=Fu (V.str.inj (Classical.not_not.mp h));rw[decide_eq_true he,Bool.true_and] at k;refine⟨_,jh hn1,?_⟩;cases f with
  |nil=>exact(if_pos rfl).mpr (k _ s1)
  |cons f0 f1=>
   rw[decide_eq_true (p:=f0::f1≠[]) (by simp),Bool.true_and] at k;generalize hf:f0::f1=f at *
   refine(if_neg (by rw[<-hf];simp[sL])).mpr ⟨f.map S,by rw[List.map_map];exact hn1,by rw[List.length_map];rw[<-hf] at hw⊢;simp at hw⊢;lia,_,.inl hn1,?_⟩;rw[AQ _ _ (Nat.le_refl _),En];unfold KT.me at k;split
   ·rename_i h;rw[decide_eq_false (p:=f.eraseDups.length=f.length) (by lia)] at k;exact k _ s1
   rename_i h;rw[decide_eq_true (p:=f.eraseDups.length=f.length) (by lia),Bool.true_and] at k;refine⟨⟨_,hn1⟩,Fh (λv=>match v with|.str z=>some (.bl (names.contains z.cps.toList))|_=>none) (qb hn1) (by rw[En];rw[<-hf] at hw⊢;simp at hw⊢;lia) (λj x H1 R hx hs r=>?_) λD H1 hD h1 h2=>?_⟩
   ·obtain⟨w,hw',rfl⟩:=iS hx;dsimp![wipe];refine⟨q,_,rfl,.inl (hs.seq (s1.seq hq)),rfl,Ko _,?_⟩;rw[Ry];exact r H1 (Aa.refl _)
   ·refine⟨D,rfl,f.map λw=>names.contains w,Ha.of (h1.trans ?_),?_⟩
    ·rw[List.map_map];exact congrArg (λz=>some (HO.lst z)) (Wm (f:=λt=>V.str (S t)) (F:=λv=>match v with|.str z=>some (.bl (names.contains z.cps.toList))|_=>none) (λc=>rfl) f)
    ·rw[List.all_map];exact k H1 (s1.trans h2)
theorem Xs:([.str "hob",.str "oven",.str "hand"]:List V)=sL Km382.wPlaces:=by
 show([.str (Str.ofString "hob"),.str (Str.ofString "oven"),.str (Str.ofString "hand")]:List V)=[.str (S [104,111,98]),.str (S [111,118,101,110]),.str (S [104,97,110,100])];rw[show Str.ofString "hob"=S [104,111,98] by decide +kernel,show Str.ofString "oven"=S [111,118,101,110] by decide +kernel,show Str.ofString "hand"=S [104,97,110,100] by decide +kernel]
def bG(K:PySem.W.Frag)(A:Ad):Sp:=λvs H Q _=>∃(a dx d l p:Addr)(r:Km382.Recipe)(ws goods:List Text),vs=[.ref a,.ref p]/\Rec A H a dx d l r/\Ha K H p (sL ws)/\ir ws/\ws.head?=some Km382.wStep/\r.steps.length<=8/\Rw A goods a dx d l r ws H Q
theorem Si{α:Type}{G:α->V}:∀l:List α,l.filterMap (λx=>some (G x))=l.map G
 |[]=>rfl
 |x::l=>by rw[List.filterMap_cons,Si l];rfl
theorem lF(T:Txt K mg A):Ua P w K mg base nc 3 A.uv A.Ru ["recipe","words"] (bG K A):=by
 refine T.ym.F.Uc ["recipe","words","steps","step","slots","after","name"] (by decide +kernel) λvs H Q E h nd=>?_;obtain⟨a,dx,d,l,p,r,ws,goods,rfl,R,hp,hw,hh,h8,kF,kT⟩:=h;have hzl:=ak;refine⟨rfl,λ_ _ _ _ hr=>?_⟩;refine⟨_,(ba (Ma (PW.pt (dg (Ca Kl (Oa (Ga (K:=K) rfl) rfl T.Zb Eb (aa (pv 1) da)) va (Ea _)) (Zf (Ca Rb (Oa (Ga (K:=K) rfl) rfl T.Zb Eb (aa (pF (Bc T) (pv 0)) da)) (Ka rfl T.vE) (Ea _))))) (ja (oa Dh)) za)
    (ba (Pa (i:=2) nd rfl (Or.inr rfl) (Fe rfl nd (iu K (pF (Bc T) (pv 0))) (own:=[("step",3)]) (bc (show Cb ["recipe","words","steps","step","slots","after","name"] (Ra Mn) _ [("step",3)]=true from by decide +kernel)) (λ_ _ _ _ _=>Va (i:=3) nd rfl (Or.inl rfl)) (λ_ _ _ _ _=>Ed) (λ_ _ _ _ _=>(pF (Rn T) (pv 3)))))
    (ba (Pa (i:=4) nd rfl (Or.inl rfl) (pC (Pk T:) hr T.Qg (aa (vc K (pv 1) va) (aa (Ka rfl T.uE) da))))
    (ba (Ma (PW.pt (dg (Hb (Ob (pC (Az T:) hr T.Xn (aa (vc K (pv 1) va) da)))) (dg (Ca (Qk (K:=K) rfl) (vc K (pv 1) va) (pv 2) (by rfl)) (dg (Ca Rb (pv 4) va (Ea _)) (Zf (Ca (Up (K:=K) rfl) (vc K (pv 1) va) (WH rfl T.Kd) (by rfl))))))) (ja (oa Dh)) za)
    (ba (Ma (Hb (Ob (pC (FH T:) hr T.lq (aa (Xf (pU K) (pv 1) (Kg va) Vi) (aa (pv 2) da))))) (ja (oa Dh)) za)
    (ba (yi (i:=5) rfl nd rfl rfl rfl (iu K (Xf (pU K) (pv 1) (Kg va) Vi)) (own:=[("name",6)]) (bc (show Cb ["recipe","words","steps","step","slots","after","name"] (Ra Mn) _ [("name",6)]=true from by decide +kernel)) (λ_ _ _ _ _=>Va (i:=6) nd rfl (Or.inl rfl)) (λ_ _ _ _ _=>Ed) (λ_ _ _ _ _=>(Wf (K:=K) rfl PySem.F.plainAttrs_list PySem.F.slot_list_index PySem.F.type_list_index (eD (K:=K) rfl) (pv 2) (aa (pv 6) da))))
    (ba (df (Wf (K:=K) rfl PySem.F.plainAttrs_list PySem.F.slot_list_append PySem.F.type_list_append Ze (pF (Bc T) (pv 0)) (aa (pM (aF T:) hr T.YM T.xR T.Iu (aa (vc K (pv 1) va) (aa (pv 4) (aa (vc K (pv 1) va) (aa (pv 5) da))))) da)))
    (ja (oa Dh))))))))),?_⟩
 dsimp only[Cc];dsimp![Jf];have hS0:Nh a d l H H:=λb o _ _ _ e=>e;refine⟨sL ws,.inl hp,?_⟩;rw[En];split
 ·rename_i h;exact kF H hS0 (KT.bM hh (by lia))
 rename_i h;obtain⟨b,c,pl,f,rfl,e⟩:=KT.cM (goods:=goods) (r:=r) hh (by lia);obtain⟨us,hl1,hl2⟩:=R.st;have hus:=hl2.length;refine⟨dx,_,R.ob,l,rfl,us,.inl (Ha.of hl1),?_⟩;rw[hus];split
 ·rename_i h;exact kF H hS0 (by rw[e,if_neg (λz=>by lia)])
 rename_i h88;have hb:=hw.2 b (by simp);have hc:=hw.2 c (by simp);have hpl:=hw.2 pl (by simp);refine⟨dx,_,R.ob,l,rfl,⟨_,Ha.of hl1⟩,rh hl2 (λs=>some (.str (S s.name))) (qb (Ha.of hl1)) (by lia) (λj x m H1 Rk hm hx hs k=>?_) λn H1 hn0 hn h1=>?_⟩
 ·obtain⟨sa,sdx,sl,rfl,hsa,_⟩:=hx;dsimp![wipe];exact⟨sdx,_,hs _ _ hsa,k H1 (Aa.refl _)⟩
 rw[Si] at hn;have hn:H1 n=some (.lst (sL (KT.Ib r))):=hn.trans (by unfold sL KT.Ib;rw[List.map_map];rfl);refine⟨_,h1.seq hp,_,wa (j:=2) (v:=V.str (S c)) rfl,c,100,rfl,hc.1,by lia,λH2 h2=>?_⟩;have h12:=h1.trans h2;have hn2:=h2 _ _ hn;rw[KT.wz hc.1 (by decide)];refine⟨_,h12.seq hp,_,wa (j:=1) (v:=V.str (S b)) rfl,b,rfl,by lia,λH3 h3=>⟨_,rfl,?_⟩⟩;have h13:=h12.trans h3;have hn3:=h3 _ _ hn2;have hS3:Nh a d l H H3:=Aa.r h13 a d l;split
 ·rename_i h;exact kF _ hS3 (by rw[e,if_neg (λz=>by rw[h] at z;cases z.1)])
 rename_i hnm;have hnm:Km382.isName b=true:=by simpa using hnm
 refine⟨_,h13.seq hp,_,wa (j:=1) (v:=V.str (S b)) rfl,n,_,rfl,.inl (Ha.of hn3),rfl,Ko _,_,rfl,?_⟩;rw[Ry];refine Lb (λh=>?_) λh=>?_
 ·have h:(KT.Ib r).contains b=true:=h;exact kF _ hS3 (by rw[e,if_neg (λz=>by rw[h] at z;cases z.2.1)])
 have hnew:(KT.Ib r).contains b=false:=by
  cases z:(KT.Ib r).contains b with
  |false=>rfl
  |true=>exact absurd z h
 refine⟨rfl,?_⟩;by_cases hlong:1<=Km382.number c/\Km382.number c<=100
 rotate_left
 ·have z:(if Km382.number c<=100 then Km382.number c else 0)=0:=by split<;>lia
  rw[z];exact(if_pos rfl).mpr (kF _ hS3 (by rw[e,if_neg (λz=>hlong ⟨z.2.2.1,z.2.2.2.1⟩)]))
 rw[if_pos hlong.2];refine(if_neg (λz=>by have:=V.int.inj z;lia)).mpr ⟨_,h13.seq hp,_,wa (j:=3) (v:=V.str (S pl)) rfl,A.ng,sL Km382.wPlaces,rfl,.inr (by rw[<-Xs];exact T.Yb H3),rfl,Ko _,_,rfl,?_⟩;rw[Ry];refine Lb (λh=>?_) λh=>?_
 ·have h:(!Km382.wPlaces.contains pl)=true:=h;exact kF _ hS3 (by rw[e,if_neg (λz=>by rw[KT.place_lt.mp z.2.2.2.2.1] at h;cases h)])
 have hpl3:Km382.wPlaces.idxOf pl<3:=KT.place_lt.mpr (by
  cases z:Km382.wPlaces.contains pl with
  |true=>rfl
  |false=>exact absurd (show(!Km382.wPlaces.contains pl)=true by rw[z];rfl) h)
 have hp3:=h13.seq hp;refine⟨_,hp3,λq hq=>?_⟩;rw[show(4:Int)=((4:Nat):Int) from rfl,Dm,DF,show(5:Int)=((5:Nat):Int) from rfl];have h3q:Aa H3 (upd H3 q (.lst (sL f))):=qa hq;refine⟨q,n,f,KT.Ib r,rfl,Ha.of ia,Ha.of (h3q _ _ hn3),by have:=hw.1;simp at this;lia,λH4 h4=>⟨_,rfl,?_⟩⟩;have h14:=(h13.trans h3q).trans h4;have hn4:=h4 _ _ (h3q _ _ hn3);split
 ·rename_i h;exact kF _ (Aa.r h14 a d l) (by rw[e,if_neg (λz=>by rw[h] at z;cases z.2.2.2.2.2.2)])
 rename_i haf;have haf:KT.Tn (KT.Ib r) f=true:=by simpa using haf
 have hp4:=h14.seq hp;refine⟨_,hp4,λq5 hq5=>?_⟩;rw[Dm,DF];have h5:Aa H4 (upd H4 q5 (.lst (sL (f.drop 1)))):=qa hq5;have h15:=h14.trans h5;have hn5:=h5 _ _ hn4;have hq5':Ha K (upd H4 q5 (.lst (sL (f.drop 1)))) q5 (sL (f.drop 1)):=Ha.of ia;have hall:∀w∈f.drop 1,(KT.Ib r).contains w=true:=by
  intro w hw';cases f with
  |nil=>cases hw'
  |cons f0 f1=>
   have z:(decide (f0=Km382.wAfter)&&(decide (f1≠[])&&KT.me (KT.Ib r) f1))=true:=haf;unfold KT.me at z;simp only[Bool.and_eq_true] at z;exact List.all_eq_true.mp z.2.2.2 w hw'
 have hfl:f.length<=500:=by have:=hw.1;simp at this;lia
 refine⟨⟨_,hq5'⟩,Fh (λv=>match v with|.str z=>some (.int ((KT.Gq (KT.Ib r) z.cps.toList:Nat):Int))|_=>none) (qb hq5') (by rw[En,List.length_drop];lia) (λj x H6 Rk hx hs k=>?_) λm H6 hm0 hm h6=>?_⟩
 ·obtain⟨w,hw',rfl⟩:=iS hx;dsimp![wipe];have hn6:=hs _ _ hn5;exact⟨.inl ⟨rfl,_,Ha.of hn6⟩,lH (Ha.of hn6) (KT.Oj (hall w (List.mem_of_getElem? hw'))).1 (k H6 (Aa.refl _))⟩
 have h16:=h15.trans h6;have hm:H6 m=some (.lst (iL ((f.drop 1).map (KT.Gq (KT.Ib r))))):=hm.trans (by
  unfold iL;rw[List.map_map];exact congrArg (λz=>some (HO.lst z)) (Wm (f:=λt=>V.str (S t)) (F:=λv=>match v with|.str z=>some (.int ((KT.Gq (KT.Ib r) z.cps.toList:Nat):Int))|_=>none) (λc=>rfl) (f.drop 1)))
 have hl6:=h16 _ _ hl1;refine⟨dx,_,h16 _ _ R.ob,.inl ⟨rfl,_,Ha.of hl6⟩,_,h16.seq hp,_,wa (j:=1) (v:=V.str (S b)) rfl,_,h16.seq hp,_,wa (j:=3) (v:=V.str (S pl)) rfl,?_⟩;intro x xd hx hxd hne;refine⟨x,xd,_,_,_,_,rfl,ia,λH7 hx7 h7=>⟨rfl,?_⟩⟩;have h67:Aa H6 H7:=Aa.made hx hxd λb' o e' hb'=>h7 b' o hb' e';have h17:=h16.trans h67;have hl7:=h67 _ _ hl6;refine⟨l,us,_,rfl,rfl,hl7,by lia,?_⟩;have hml:m≠l:=λz=>by
  rw[z] at hm0;have z:=(h15 _ _ hl1).symm.trans hm0;cases z
 have hal:a≠l:=Fb R.ob hl1 (by intro z;cases z);have hdl:d≠l:=Fb R.tk hl1 (by intro z;cases z);have hxl:x≠l:=λz=>by rw[z,hl6] at hx;cases hx
 refine kT _ _ (λy o _ _ hy e'=>by rw[ua hy];exact h17 _ _ e') (by rw[e,if_pos ⟨hnm,hnew,hlong.1,hlong.2,hpl3,by lia,haf⟩]) ⟨by rw[ua hal];exact h17 _ _ R.ob,by rw[ua hdl];exact h17 _ _ R.tk,us++[.ref x],by rw[ia],?_⟩;refine Paired.snoc (hl2.mono λv st z=>z.mono (λy o hy _ e'=>by rw[ua hy];exact h17 _ _ e') ⟨_,hl1⟩) ⟨x,xd,m,rfl,?_,by rw[ua hml];exact h67 _ _ hm,hml⟩;rw[ua hxl,hx7];show some (HO.ins A.Od xd (ee ⟨.str (S b),.int ((Km382.number c:Nat):Int),.str (S pl),.ref m⟩))=some (HO.ins A.Od xd (ee ⟨.str (S b),.int ((Km382.number c:Nat):Int),.str (S (Jg (Km382.wPlaces.idxOf pl))),.ref m⟩));rw[show Jg (Km382.wPlaces.idxOf pl)=pl from KT.QR hpl3]
def aG(K:PySem.W.Frag)(A:Ad):Sp:=λvs H Q _=>∃(a dx d l p n:Addr)(r:Km382.Recipe)(ws goods:List Text),vs=[.ref a,.ref p,.ref n]/\Rec A H a dx d l r/\Ha K H p (sL ws)/\Ha K H n (sL goods)/\ir ws/\ws≠[]/\r.takes.length<=8/\r.steps.length<=8/\Rw A goods a dx d l r ws H Q
theorem jF(T:Txt K mg A):Ua P w K mg base nc 4 A.qv A.Qu ["recipe","words","names"] (aG K A):=by
 refine T.wm.F.Uc ["recipe","words","names"] (by decide +kernel) λvs H Q E h nd=>?_;obtain⟨a,dx,d,l,p,n,r,ws,goods,rfl,R,hp,hgn,hw,hne,h8,h9,k⟩:=h;refine⟨rfl,λ_ _ _ _ hr=>?_⟩;refine⟨_,(ba (Ma (Ca Rb (vc K (pv 1) va) jd (Ea _)) (ja (oa (pC (Ez T:) hr T.fj (aa (pv 0) (aa (pv 1) da))))) za)
   (ba (Ma (Ca Rb (vc K (pv 1) va) jd (Ea _)) (ja (oa (pC (mF T:) hr T.zm (aa (pv 0) (aa (pv 1) (aa (pv 2) da)))))) za)
   (ba (Ma (Ca Rb (vc K (pv 1) va) jd (Ea _)) (ja (oa (pC (lF T:) hr T.ym (aa (pv 0) (aa (pv 1) da))))) za)
   (ja (oa Dh))))),?_⟩
 dsimp only[Cc];dsimp![iJ,HS,GS];obtain⟨w,f,rfl⟩:∃w f,ws=w::f:=by
  cases ws with
  |nil=>exact absurd rfl hne
  |cons w f=>exact⟨w,f,rfl⟩
 refine⟨_,hp,_,wa (j:=0) (v:=V.str (S w)) rfl,rfl,Lb (λh=>?_) λh=>?_⟩
 ·have h:w=Km382.wServes:=Fu (V.str.inj h);exact⟨a,dx,d,l,p,r,_,goods,rfl,R,hp,hw,by rw[h];rfl,k⟩
 have n1:w≠Km382.wServes:=λz=>h (by rw[z]);refine⟨_,hp,_,wa (j:=0) (v:=V.str (S w)) rfl,rfl,Lb (λh=>?_) λh=>?_⟩
 ·have h:w=Km382.wTake:=Fu (V.str.inj h);exact⟨a,dx,d,l,p,n,r,_,goods,rfl,R,hp,hgn,hw,by rw[h];rfl,h8,k⟩
 have n2:w≠Km382.wTake:=λz=>h (by rw[z]);refine⟨_,hp,_,wa (j:=0) (v:=V.str (S w)) rfl,rfl,Lb (λh=>?_) λh=>?_⟩
 ·have h:w=Km382.wStep:=Fu (V.str.inj h);exact⟨a,dx,d,l,p,r,_,goods,rfl,R,hp,hw,by rw[h];rfl,h9,k⟩
 have n3:w≠Km382.wStep:=λz=>h (by rw[z]);exact k.1 H (λ_ _ _ _ _ e=>e) (KT.QK rfl n1 n2 n3)
theorem pT(t:Text):Txt.endswith (S t) (S [10])=decide (t.getLast?=some 10):=by
 unfold Txt.endswith;rw[Bh,Bh];show(decide (0+1<=t.length)&&Builtin.Str.subAt (S t) (S [10]) (t.length-1))=_;have hsub:Builtin.Str.subAt (S t) (S [10]) (t.length-1)=decide (t.drop (t.length-1)=[10]):=by
  unfold Builtin.Str.subAt;rw[Bh];show(t.toArray.extract (t.length-1) (t.length-1+1)==[10].toArray)=_;rw[Bool.beq_eq_decide_eq];refine decide_eq_decide.mpr ?_;rw[<-Array.toList_inj,Array.toList_extract];simp only[List.extract_eq_take_drop];have e:(t.drop (t.length-1)).take (t.length-1+1-(t.length-1))=t.drop (t.length-1):=List.take_of_length_le (by rw[List.length_drop];lia);rw[e]
 rw[hsub,<-Bool.decide_and];refine decide_eq_decide.mpr ?_;by_cases ht:t=[]
 ·subst ht;simp
 ·obtain⟨l,x,rfl⟩:∃l x,t=l++[x]:=⟨t.dropLast,t.getLast ht,(List.dropLast_concat_getLast ht).symm⟩;rw[List.length_append,List.length_singleton,Nat.add_sub_cancel,List.drop_left,List.getLast?_append];simp
theorem ur(s:Nat):∀(t acc u:Text),u∈KT.cut s acc t->u.length<=acc.length+t.length
 |[],acc,u,h=>by
  have:u=acc:=by simpa[KT.cut] using h
  subst this;simp
 |c::r,acc,u,h=>by
  unfold KT.cut at h;split at h
  ·rcases List.mem_cons.mp h with rfl|h
   ·simp
   ·have:=ur s r [] u h;simp at this⊢;lia
  ·have:=ur s r (acc++[c]) u h;simp at this⊢;lia
theorem OS{u:Text}(h:u.length<=400):ir (Km382.words u []):=by
 rw[show Km382.words u []=_ from KT.Lo u []];refine⟨Nat.le_trans (List.length_filter_le _ _) (Nat.le_trans (Ww 32 u []) (by lia)),λw hw=>?_⟩;obtain⟨h1,h2⟩:=List.mem_filter.mp hw;have h3:=ur 32 u [] w h1;exact⟨by simpa using h2,by simp at h3;lia⟩
theorem ki{goods:List Text}:∀(L M:List (List Text))(r:Km382.Recipe),Km382.linesOn goods r (L++M)=(match Km382.linesOn goods r L with|none=>none|some q=>Km382.linesOn goods q M)
 |[],_,_=>rfl
 |w::L,M,r=>by
  show(match Km382.lineOn goods r w with|none=>none|some q=>Km382.linesOn goods q (L++M))=(match(match Km382.lineOn goods r w with|none=>none|some q=>Km382.linesOn goods q L) with|none=>none|some q=>Km382.linesOn goods q M);cases Km382.lineOn goods r w with
  |none=>rfl
  |some q=>exact ki L M q
theorem take_snoc{α:Type}:∀{l:List α}{i:Nat}{x:α},l[i]?=some x->l.take (i+1)=l.take i++[x]
 |[],i,x,h=>by simp at h
 |a::l,0,x,h=>by
  have e:a=x:=Option.some.inj h;subst e;rfl
 |a::l,i+1,x,h=>by
  have ih:=take_snoc (l:=l) (i:=i) (x:=x) h;show a::l.take (i+1)=a::l.take i++[x];rw[ih];rfl
def iA(K:PySem.W.Frag)(A:Ad):Sp:=λvs H Q _=>∃(t:Text)(n:Addr)(goods:List Text),vs=[.str (S t),.ref n]/\Ha K H n (sL goods)/\t.length<=400/\
 (∀H',Aa H H'->KT.Zk goods t=none->Q .Vb H')/\∀H' a dx d l r,Aa H H'->KT.Zk goods t=some r->Rec A H' a dx d l r->H a=none->H d=none->H l=none->Q (.ref a) H'
theorem Dz(T:Txt K mg A):Ua P w K mg base nc 5 A.Bp A.tp ["text","names"] (iA K A):=by
 refine T.dj.F.Uc ["text","names","recipe","line","words"] (by decide +kernel) λvs H Q E h nd=>?_;obtain⟨t,n,goods,rfl,hgn,ht,kN,kR⟩:=h;have hzl:=ak;refine⟨rfl,λ_ _ _ _ hr=>?_⟩;refine⟨_,(ba (Ma (Hb (Ob (OR PySem.F.slot_str_endswith PySem.F.type_str_endswith yH (pv 0) jd))) (ja (oa ic)) za)
    (ba (Pa (i:=2) nd rfl (Or.inl rfl) (pM (yz T:) hr T.dD T.uH T.ip (aa va (aa VH (aa (Wa da) da)))))
    (ba (Ag PassesOwn.never rfl (iu K (YH (pv 0) jd)) (Va (i:=3) nd rfl (Or.inl rfl)) (ba (Pa (i:=4) nd rfl (Or.inl rfl) (pC (RH T:) hr T.zq (aa (pv 3) da)))
    (ja (Ma (PW.pt (ZR (HU K (pv 4) (λ_=>rfl)) (jN (Hb (Ob (pC (jF T:) hr T.wm (aa (pv 2) (aa (pv 4) (aa (pv 1) da))))))))) (ja (oa ic)) za))))
    (ba (Ma (PW.pt (dg (Ca Rb (pF (qd T) (pv 2)) va (Ea _)) (Zf (Hb (HU K (pF (Bc T) (pv 2)) (λ_=>rfl)))))) (ja (oa ic)) za)
    (ja (oa (pv 2))))))),?_⟩
 dsimp only[Cc];dsimp![MW,BS];rw[pT];refine⟨⟨_,rfl⟩,Lb (λh=>?_) λh=>?_⟩
 ·refine kN H (Aa.refl _) ?_;unfold KT.Zk;exact if_neg (of_decide_eq_false h)
 have hend:t.getLast?=some 10:=by simpa using h
 have hread:KT.Zk goods t=(match Km382.linesOn goods ⟨0,[],[]⟩ ((KT.cut 10 [] t).map λx=>Km382.words x []) with
  |none=>none
  |some r=>if r.serves=0\/r.steps.length=0 then none else some r):=if_pos hend
 intro d hd;refine⟨by lia,λl hl a dx ha hdx hne=>?_⟩;have s1:Aa H (upd H d (.dK [])):=qa hd;have s2:=s1.trans (qa (o:=.lst []) hl);refine⟨a,dx,_,_,_,rfl,ia,λH3 hob h3=>⟨rfl,?_⟩⟩;have s23:Aa (upd (upd H d (.dK [])) l (.lst [])) H3:=Aa.made ha hdx λb' o e' hb'=>h3 b' o hb' e';have s3:=s2.trans s23;have hld:d≠l:=ka (H:=upd H d (.dK [])) ia hl;have hd3:H3 d=some (.dK []):=s23 _ _ (by rw[ua hld,ia]);have hl3:H3 l=some (.lst []):=s23 _ _ ia;have hH_a:H a=none:=s2.free ha;have hH_l:H l=none:=s1.free hl;have R0:Rec A H3 a dx d l ⟨0,[],[]⟩:=⟨hob,hd3,[],hl3,.nil⟩;rw[GD 10 (by decide)];refine⟨⟨_,rfl⟩,by decide,by rw[Bh];lia,λp hp=>⟨p,rfl,⟨_,Ha.of ia⟩,?_⟩⟩;have hlines:∀{H':Hp},Nh a d l (upd H3 p (.lst (((KT.cut 10 [] t).map S).map V.str))) H'->H' p=some (.lst (((KT.cut 10 [] t).map S).map V.str)):=λz=>
  z p _ (λe=>by rw[e,hob] at hp;cases hp) (λe=>by rw[e,hd3] at hp;cases hp) (λe=>by rw[e,hl3] at hp;cases hp) ia
 have s3p:Aa H3 (upd H3 p (.lst (((KT.cut 10 [] t).map S).map V.str))):=qa hp;refine Fo (xs:=((KT.cut 10 [] t).map S).map V.str) (λi σ H'=>∃(v3 v4:Option V)(q:Km382.Recipe),σ=[some (.str (S t)),some (.ref n),some (.ref a),v3,v4]/\Aa H H'/\Nh a d l (upd H3 p (.lst (((KT.cut 10 [] t).map S).map V.str))) H'/\Rec A H' a dx d l q/\
   Km382.linesOn goods ⟨0,[],[]⟩ (((KT.cut 10 [] t).map λx=>Km382.words x []).take i)=some q)
  ⟨none,none,_,rfl,s3.trans s3p,λb o _ _ _ e=>e,R0.mono s3p,rfl⟩ (λi σ H' _⟨_,_,_,_,_,z,_⟩=>Ha.of (hlines z)) ?_ ?_
 ·rintro i v σ H' hi ⟨v3,v4,q,rfl,sH,sR,R,hq⟩;rw[List.map_map,List.getElem?_map] at hi;cases hu':(KT.cut 10 [] t)[i]? with
  |none=>rw[hu'] at hi;cases hi
  |some u=>
   rw[hu'] at hi;have hi:V.str (S u)=v:=Option.some.inj hi;subst hi;have hul:=ur 10 t [] u (List.mem_of_getElem? hu');have hul:u.length<=400:=by simp at hul;lia
   dsimp!;refine⟨u,rfl,by lia,λD H4 hD hD4 h4=>?_⟩;dsimp!;refine⟨_,jh (Ha.of hD4),?_⟩;have hnext:((KT.cut 10 [] t).map λx=>Km382.words x []).take (i+1)=((KT.cut 10 [] t).map λx=>Km382.words x []).take i++[Km382.words u []]:=take_snoc (by rw[List.getElem?_map,hu'];rfl);have hstep:Km382.linesOn goods ⟨0,[],[]⟩ (((KT.cut 10 [] t).map λx=>Km382.words x []).take (i+1))=Km382.lineOn goods q (Km382.words u []):=by
    rw[hnext,ki,hq];show(match Km382.lineOn goods q (Km382.words u []) with|none=>none|some r=>some r)=_;cases Km382.lineOn goods q (Km382.words u [])<;>rfl
   have part:KT.Eu goods.length q:=KT.Kk (KT.vD _) hq;have hfull:Km382.lineOn goods q (Km382.words u [])=none->KT.Zk goods t=none:=λz=>by
    rw[hread];have e:=ki (goods:=goods) (((KT.cut 10 [] t).map λx=>Km382.words x []).take (i+1)) (((KT.cut 10 [] t).map λx=>Km382.words x []).drop (i+1)) ⟨0,[],[]⟩;rw[List.take_append_drop,hstep,z] at e;rw[e]
   have toH:∀{H5:Hp},Nh a d l H4 H5->Aa H H5:=λz b o e=>z b o (ka e hH_a) (ka e hd) (ka e hH_l) (h4 _ _ (sH _ _ e));cases hwu:Km382.words u [] with
   |nil=>
    refine(if_neg (by simp[sL])).mpr ⟨sH.trans h4,sR.trans (Aa.r h4 a d l),q,R.mono h4,?_⟩;rw[hstep,hwu];rfl
   |cons w f=>
    rw[<-hwu];refine(if_pos (by rw[hwu];simp[sL])).mpr ⟨a,dx,d,l,D,n,q,_,goods,rfl,R.mono h4,Ha.of hD4,(sH.trans h4).seq hgn,OS hul,by rw[hwu];simp,part.jG,part.MF,λH5 h5 hN=>⟨false,rfl,(if_pos rfl).mpr (kN H5 (toH h5) (hfull hN))⟩,λH5 q' h5 hS R'=>⟨true,rfl,(if_neg (by simp)).mpr ⟨toH h5,sR.trans ((Aa.r h4 a d l).trans h5),q',R',by rw[hstep];exact hS⟩⟩⟩
 ·rintro σ H' ⟨v3,v4,q,rfl,sH,sR,R,hq⟩;rw[show(((KT.cut 10 [] t).map S).map V.str).length=((KT.cut 10 [] t).map λx=>Km382.words x []).length by simp,List.take_length] at hq;rw[hq] at hread;have hread:KT.Zk goods t=if q.serves=0\/q.steps.length=0 then none else some q:=hread
  obtain⟨us,hl1,hl2⟩:=R.st;dsimp!;refine⟨dx,_,R.ob,rfl,Lb (λh=>?_) λh=>?_⟩
  ·have h:q.serves=0:=by have:=V.int.inj h;lia
   exact kN H' sH (by rw[hread,if_pos (.inl h)])
  have hs0:¬q.serves=0:=λz=>h (by rw[z];rfl);refine⟨dx,_,R.ob,_,jh (Ha.of hl1),Lb (λh=>?_) λh=>?_⟩
  ·refine kN H' sH (by rw[hread,if_pos (.inr ?_)]);have:=hl2.length;rw[<-this];cases us with
   |nil=>rfl
   |cons a us=>simp at h
  ·have hno:¬(q.serves=0\/q.steps.length=0):=by
    rintro(z|z)
    ·exact hs0 z
    ·have:=hl2.length;rw[z] at this;have e:us=[]:=List.length_eq_zero_iff.mp this;rw[e] at h;simp at h
   exact kR H' a dx d l q sH (by rw[hread,if_neg hno]) R hH_a hd hH_l
def JD(names:List Text)(s:Km382.Step_):List Text:=[Km382.wStep,s.name,Km382.dec 5 s.long,Jg s.place]++(if s.after.length=0 then[] else Km382.wAfter::s.after.map λk=>names.getD k [])
theorem mT{n:Nat}(h:n<100000):Km382.dec 5 n=TL.xK n:=KT.uQ (f:=TL.xK) (λn h=>TL.QT h) (λn h=>TL.DO h) 5 n h (by decide)
theorem gG{n:Nat}(h:n<100000):(toString ((n:Nat):Int):Str)=S (Km382.dec 5 n):=by
 rw[mT h];exact aQ (TL.OW n)
def su(K:PySem.W.Frag)(A:Ad):Sp:=λvs H Q _=>∃(x l:Addr)(us:List V)(st:Km382.Step_)(all:List Km382.Step_)(sv:V),vs=[sv,.ref l]/\ig A H x sv st/\H l=some (.lst us)/\Paired (ig A H x) us all/\st.long<=100/\st.after.length<=8/\(∀j∈st.after,j<all.length)/\
 ∀D H',H D=none->H' D=some (.lst (sL (JD (all.map Km382.Step_.name) st)))->Aa H H'->Q (.ref D) H'
theorem gu(T:Txt K mg A):Ua P w K mg base nc 1 A.Fl A.Bl ["step","steps"] (su K A):=by
 refine T.qh.F.Uc ["step","steps","words","number"] (by decide +kernel) λvs H Q E h nd=>?_;obtain⟨x,l,us,st,all,sv,rfl,hsv,hl,hP,h100,h8,haf,k⟩:=h;have hzl:=ak;refine⟨rfl,λ_ _ _ _ hr=>?_⟩;refine⟨_,(ba (Pa (i:=2) nd rfl (Or.inl rfl) (Wa (aa jd (aa (pF (Rn T) (pv 0)) (aa (cf xk rfl T.RS BJ (aa (pF (rl T) (pv 0)) da)) (aa (pF (Lh T) (pv 0)) da))))))
    (ba (Ma (Hb (HU K (pF (ql T) (pv 0)) (λ_=>rfl))) (ja (oa (pv 2))) za)
    (ja (oa (Sb zg (Sb zg (pv 2) (Wa (aa jd da))) (Fe rfl nd (iu K (pF (ql T) (pv 0))) (own:=[("number",3)]) (bc (show Cb ["step","steps","words","number"] (Ra Nl) _ [("number",3)]=true from by decide +kernel)) (λ_ _ _ _ _=>Va (i:=3) nd rfl (Or.inl rfl)) (λ_ _ _ _ _=>Ed) (λ_ _ _ _ _=>(pF (Rn T) (vc K (pv 1) (pv 3)))))))))),?_⟩
 dsimp only[Cc];dsimp![GS,CN];obtain⟨sa,sdx,al,rfl,hsa,hal,hne⟩:=hsv;have hlog:((st.long:Nat):Int).natAbs.log2<1920:=by
  have:=Nat.log2_le_self ((st.long:Nat):Int).natAbs;lia
 refine⟨sa,rfl,sdx,_,hsa,sa,rfl,sdx,_,hsa,_,rfl,hlog,sa,rfl,sdx,_,hsa,by lia,λp hp=>?_⟩;have e4:([V.str (S Km382.wStep),V.str (S st.name),V.str (Str.ofString (toString ((st.long:Nat):Int))),V.str (S (Jg st.place))]:List V)=sL [Km382.wStep,st.name,Km382.dec 5 st.long,Jg st.place]:=by
  rw[show Str.ofString (toString ((st.long:Nat):Int))=S (Km382.dec 5 st.long) from gG (by lia)];rfl
 rw[e4];have s1:Aa H (upd H p (.lst (sL [Km382.wStep,st.name,Km382.dec 5 st.long,Jg st.place]))):=qa hp;refine⟨sa,rfl,sdx,_,s1 _ _ hsa,_,jh (Ha.of (s1 _ _ hal)),Lb (λh=>?_) λh=>?_⟩
 ·have e:st.after=[]:=by
   cases z:st.after with
   |nil=>rfl
   |cons a b=>rw[z] at h;simp[iL] at h
  refine k p _ hp (ia.trans ?_) s1;unfold JD;rw[e];rfl
 have hne0:¬st.after.length=0:=λz=>by
  have e:st.after=[]:=List.length_eq_zero_iff.mp z;rw[e] at h;simp[iL] at h
 refine⟨by lia,λp1 hp1=>?_⟩;have s2:=s1.trans (qa (o:=.lst [V.str (S Km382.wAfter)]) hp1);have hpp:p≠p1:=ka (H:=upd H p _) ia hp1;refine⟨p,p1,_,_,rfl,rfl,by rw[ua hpp,ia],ia,by simp[sL];lia,λp2 hp2=>?_⟩;have s3:=s2.trans (qa (o:=.lst (sL [Km382.wStep,st.name,Km382.dec 5 st.long,Jg st.place]++[V.str (S Km382.wAfter)])) hp2);dsimp!;refine⟨sdx,_,s3 _ _ hsa,al,rfl,⟨_,Ha.of (s3 _ _ hal)⟩,Fh (λv=>match v with|.int j=>some (.str (S ((all.map Km382.Step_.name).getD j.toNat [])))|_=>none) (qb (Ha.of (s3 _ _ hal))) (by unfold iL;rw[List.length_map];lia) (λj v H1 R hv hs r=>?_) λD H1 hD hD1 h1=>?_⟩
 ·obtain⟨n,hn,rfl⟩:=EU hv;have hlt:=haf n (List.mem_of_getElem? hn);obtain⟨stn,hstn⟩:∃stn,all[n]?=some stn:=⟨_,List.getElem?_eq_getElem hlt⟩;obtain⟨v,hv',na,ndx,nl,rfl,hna,_⟩:=Bb hP hstn;dsimp![wipe];refine⟨us,Ha.of (hs _ _ (s3 _ _ hl)),_,wa hv',na,rfl,ndx,_,hs _ _ (s3 _ _ hna),?_⟩;have:=r H1 (Aa.refl _);dsimp only at this;rw[show(all.map Km382.Step_.name).getD ((n:Nat):Int).toNat []=stn.name by rw[Int.toNat_natCast,List.getD_eq_getElem?_getD,List.getElem?_map,hstn];rfl] at this;exact this
 ·have s4:=s3.trans h1;have hD1:H1 D=some (.lst (sL (st.after.map λn=>(all.map Km382.Step_.name).getD n []))):=hD1.trans (by
   unfold sL;rw[List.map_map];exact congrArg (λz=>some (HO.lst z)) (Wm (f:=λ(n:Nat)=>V.int (n:Int)) (F:=λv=>match v with|.int j=>some (.str (S ((all.map Km382.Step_.name).getD j.toNat [])))|_=>none) (λc=>rfl) st.after))
  refine⟨p2,D,_,_,rfl,rfl,h1 _ _ ia,hD1,by rw[En,List.length_append,En,List.length_map];simp;lia,λp3 hp3=>?_⟩;refine k p3 _ (s4.free hp3) (ia.trans ?_) (s4.trans (qa hp3));unfold JD;rw[if_neg hne0];unfold sL;simp
def Ip(ws:List Text):Text:=KT.Zm ws++[10]
def Fw(goods:List Text)(r:Km382.Recipe):List (List Text):=[Km382.wServes,Km382.dec 5 r.serves]::((r.takes.map λt=>[Km382.wTake,Km382.dec 5 t.units,goods.getD t.good []])++r.steps.map (JD (r.steps.map Km382.Step_.name)))
theorem yA(goods:List Text)(r:Km382.Recipe):Km382.writeRecipe goods r=((Fw goods r).map Ip).flatten:=by
 have e:∀ws,Km382.line ws=Ip ws:=λws=>KT.YC ws;unfold Km382.writeRecipe Fw;rw[List.map_cons,List.flatten_cons,List.map_append,List.flatten_append,List.map_map,List.map_map,e];congr 1;congr 1
 ·rw[List.flatMap_def];exact congrArg List.flatten (List.map_congr_left λt _=>e _)
 ·rw[List.flatMap_def];exact congrArg List.flatten (List.map_congr_left λt _=>e _)
theorem wO{m:Nat}(h:m<2^20):m.log2<1920:=by
 by_cases h0:m=0
 ·subst h0;decide
 ·have:=(Nat.log2_lt h0).mpr h;lia
def Gi(H:Hp)(p:Addr)(W:List (List Text)):Prop:=∃vs,H p=some (.lst vs)/\Paired (λv ws=>∃q,v=.ref q/\H q=some (.lst (sL ws))/\q≠p) vs W
theorem Gi.push{H H':Hp}{p q:Addr}{W:List (List Text)}{vs:List V}{ws:List Text}(h:H p=some (.lst vs))(hP:Paired (λv ws=>∃q,v=.ref q/\H q=some (.lst (sL ws))/\q≠p) vs W)(s:ab p H H')(hq:H' q=some (.lst (sL ws)))(hn:q≠p):Gi (upd H' p (.lst (vs++[.ref q]))) p (W++[ws]):=
 ⟨_,ia,Paired.snoc (hP.mono λv w⟨q',e,h1,h2⟩=>⟨q',e,by rw[ua h2];exact s _ _ h2 h1,h2⟩) ⟨q,rfl,by rw[ua hn];exact hq,hn⟩⟩
theorem Xw:∀(f n:Nat),(Km382.dec f n).length<=f
 |0,_=>Nat.le_refl _
 |f+1,n=>by
  unfold Km382.dec;split
  ·simp
  ·have:=Xw f (n/10);simp;lia
def Short(ws:List Text):Prop:=ws.length<=20/\∀w∈ws,w.length<=8
theorem getD_mem{l:List Text}{n:Nat}(h:∀w∈l,w.length<=8):(l.getD n []).length<=8:=by
 rw[List.getD_eq_getElem?_getD];cases e:l[n]? with
 |none=>simp
 |some w=>exact h w (List.mem_of_getElem? e)
theorem Rz{goods:List Text}{r:Km382.Recipe}(hI:KT.vx goods.length r)(hg:∀g∈goods,g.length<=8):∀ws∈Fw goods r,Short ws:=by
 intro ws hws;unfold Fw at hws;rcases List.mem_cons.mp hws with rfl|hws
 ·exact⟨by show 2<=20;decide,λw hw=>by
   rcases List.mem_cons.mp hw with rfl|hw
   ·decide
   ·have:=List.mem_singleton.mp hw;subst this;exact Nat.le_trans (Xw _ _) (by decide)⟩
 rcases List.mem_append.mp hws with hws|hws
 ·obtain⟨t,ht,rfl⟩:=List.mem_map.mp hws;refine⟨by show 3<=20;decide,λw hw=>?_⟩;rcases List.mem_cons.mp hw with rfl|hw
  ·decide
  rcases List.mem_cons.mp hw with rfl|hw
  ·exact Nat.le_trans (Xw _ _) (by decide)
  ·have:=List.mem_singleton.mp hw;subst this;exact getD_mem hg
 ·obtain⟨s,hs,rfl⟩:=List.mem_map.mp hws;have h1:=hI.steps s hs;have hnm:∀w∈r.steps.map Km382.Step_.name,w.length<=8:=λw hw=>by
   obtain⟨s',hs',rfl⟩:=List.mem_map.mp hw;exact(KT.Fq (hI.steps s' hs').1).2
  obtain⟨i,hi⟩:=List.getElem?_of_mem hs;have h2:=hI.after i s hi;have hpl:(Jg s.place).length<=8:=getD_mem (l:=Km382.wPlaces) (by decide);unfold JD;refine⟨?_,λw hw=>?_⟩
  ·rw[List.length_append];split
   ·simp
   ·simp;lia
  ·rcases List.mem_append.mp hw with hw|hw
   ·simp only[List.mem_cons,List.not_mem_nil,or_false] at hw;rcases hw with rfl|rfl|rfl|rfl
    ·decide
    ·exact(KT.Fq h1.1).2
    ·exact Nat.le_trans (Xw _ _) (by decide)
    ·exact hpl
   ·split at hw
    ·cases hw
    ·rcases List.mem_cons.mp hw with rfl|hw
     ·decide
     ·obtain⟨j,_,rfl⟩:=List.mem_map.mp hw;exact getD_mem hnm
theorem lI{goods:List Text}{r:Km382.Recipe}(hI:KT.vx goods.length r):(Fw goods r).length<=17:=by
 unfold Fw;have:=hI.jG;have:=hI.MF;simp;lia
theorem Bv:∀ws:List Text,TL.Vr [32] ws=KT.Zm ws
 |[]=>rfl
 |[_]=>rfl
 |p::q::r=>by
  show p++([32]++TL.Vr [32] (q::r))=p++(32::KT.Zm (q::r));rw[Bv (q::r)];rfl
theorem vH(ws:List Text):(ws.map S).map (λz:Str=>z.cps.toList)=ws:=by
 rw[List.map_map]
 conv=>rhs;rw[<-List.map_id ws]
 rfl
theorem Uy(ws:List Text):Txt.join (S [32]) (ws.map S)=S (KT.Zm ws):=by
 refine aQ ?_;rw[IE,Uo,vH,Bv]
theorem nR(L:List Text):Txt.join (S []) (L.map S)=S L.flatten:=by
 refine aQ ?_;rw[IE,Uo,vH,Vt]
theorem tX(a b:Text):S a++S b=S (a++b):=aQ (TL.uu _ _)
theorem Wt:∀{ws:List Text},(∀w∈ws,w.length<=8)->(KT.Zm ws).length<=ws.length*9
 |[],_=>by simp[KT.Zm]
 |[p],h=>by
  have:=h p (by simp);simp[KT.Zm];lia
 |p::q::r,h=>by
  have h1:=h p (by simp);have h2:=Wt (ws:=q::r) λw hw=>h w (List.mem_cons_of_mem _ hw);show(p++(32::KT.Zm (q::r))).length<=_;rw[List.length_append,List.length_cons,List.length_cons (as:=q::r)];lia
theorem XC{ws:List Text}(h:Short ws):(Ip ws).length<=200:=by
 have:=Wt h.2;have:=h.1;unfold Ip;rw[List.length_append];simp;lia
def WL(K:PySem.W.Frag)(A:Ad):Sp:=λvs H Q _=>∃(a dx d l n:Addr)(r:Km382.Recipe)(goods:List Text),vs=[.ref a,.ref n]/\Rec A H a dx d l r/\Ha K H n (sL goods)/\KT.vx goods.length r/\(∀g∈goods,g.length<=8)/\
 ∀H',Aa H H'->Q (.str (S (Km382.writeRecipe goods r))) H'
theorem OK(T:Txt K mg A):Ua P w K mg base nc 2 A.KC A.jC ["recipe","names"] (WL K A):=by
 refine T.Kt.F.Uc ["recipe","names","lines","good","step","words"] (by decide +kernel) λvs H Q E h nd=>?_;obtain⟨a,dx,d,l,n,r,goods,rfl,R,hgn,hI,hg8,k⟩:=h;have hzl:=ak;refine⟨rfl,λ_ _ _ _ hr=>?_⟩;have hu:=Ep hr;refine⟨_,(ba (Pa (i:=2) nd rfl (Or.inl rfl) (Wa (aa (Wa (aa jd (aa (cf xk rfl T.RS BJ (aa (pF (qd T) (pv 0)) da)) da))) da)))
    (ba (gU (Ag PassesOwn.never rfl (cU (pF (Nd T) (pv 0))) (Va (i:=3) nd rfl (Or.inl rfl)) (ja (df (Wf (K:=K) rfl PySem.F.plainAttrs_list PySem.F.slot_list_append PySem.F.type_list_append Ze (pv 2) (aa (Wa (aa jd (aa (cf xk rfl T.RS BJ (aa (Xk hu (pF (Nd T) (pv 0)) (pv 3) (λ_ _=>rfl)) da)) (aa (vc K (pv 1) (pv 3)) da)))) da))))))
    (ba (Ag PassesOwn.never rfl (iu K (pF (Bc T) (pv 0))) (Va (i:=4) nd rfl (Or.inl rfl)) (ja (df (Wf (K:=K) rfl PySem.F.plainAttrs_list PySem.F.slot_list_append PySem.F.type_list_append Ze (pv 2) (aa (pC (gu T:) hr T.qh (aa (pv 4) (aa (pF (Bc T) (pv 0)) da))) da)))))
    (ja (oa (Mz (K:=K) rfl jd (Fe rfl nd (iu K (pv 2)) (own:=[("words",5)]) (bc (show Cb ["recipe","names","lines","good","step","words"] (Ra ED) _ [("words",5)]=true from by decide +kernel)) (λ_ _ _ _ _=>Va (i:=5) nd rfl (Or.inl rfl)) (λ_ _ _ _ _=>Ed) (λ_ _ _ _ _=>(Sb PK (Mz (K:=K) rfl jd (pv 5)) jd))))))))),?_⟩
 dsimp only[Cc];dsimp![iJ,HS,qZ,LW,MW,QU,DU];obtain⟨us,hl1,hl2⟩:=R.st;have hsv:=hI.serves;have hlog:∀{m:Nat},m<=10000->((m:Nat):Int).natAbs.log2<1920:=λ{m} hm=>wO (by lia);refine⟨dx,_,R.ob,_,rfl,hlog (by lia),by lia,λp hp=>⟨by lia,λp1 hp1=>?_⟩⟩;have e1:([V.str (S Km382.wServes),V.str (Str.ofString (toString ((r.serves:Nat):Int)))]:List V)=sL [Km382.wServes,Km382.dec 5 r.serves]:=by
  rw[show Str.ofString (toString ((r.serves:Nat):Int))=S (Km382.dec 5 r.serves) from gG (by lia)];rfl
 rw[e1] at hp1⊢;have s1:Aa H (upd H p (.lst (sL [Km382.wServes,Km382.dec 5 r.serves]))):=qa hp;have s2:Aa (upd H p (.lst (sL [Km382.wServes,Km382.dec 5 r.serves]))) (upd (upd H p (.lst (sL [Km382.wServes,Km382.dec 5 r.serves]))) p1 (.lst [V.ref p])):=qa hp1;have s12:=s1.trans s2;have hpp:p≠p1:=ka (H:=upd H p _) ia hp1;have hHp1:H p1=none:=s1.free hp1;generalize hH2:upd (upd H p (.lst (sL [Km382.wServes,Km382.dec 5 r.serves]))) p1 (.lst [V.ref p])=H2 at *
 have hL0:Gi H2 p1 [[Km382.wServes,Km382.dec 5 r.serves]]:=⟨[.ref p],by rw[<-hH2,ia],.cons ⟨p,rfl,by rw[<-hH2,ua hpp,ia],hpp⟩ .nil⟩;have hd2:=s12 _ _ R.tk;have hdp1:d≠p1:=ka R.tk hHp1;refine⟨d,_,hd2,by trivial,λod=>?_⟩;have hap1:a≠p1:=ka R.ob hHp1;have had:a≠d:=Fb R.ob R.tk (by intro z;cases z);have hlp1:l≠p1:=ka hl1 hHp1;have hld:l≠d:=Fb hl1 R.tk (by intro z;cases z);have hgd:∀{H':Hp},(∀b o,b≠d->b≠p1->H2 b=some o->H' b=some o)->Ha K H' n (sL goods):=λz=>by
  rcases hgn with(h|⟨o,h⟩)|h
  ·exact .inl (.inl (z _ _ (Fb h R.tk (by intro z;cases z)) (ka h hHp1) (s12 _ _ h)))
  ·exact .inl (.inr ⟨o,z _ _ (Fb h R.tk (by intro z;cases z)) (ka h hHp1) (s12 _ _ h)⟩)
  ·exact .inr h
 have htot:=lI (goods:=goods) hI;refine⟨dx,_,by rw[ua had];exact s12 _ _ R.ob,d,rfl,od,.inl ⟨_,ia,?_⟩⟩;refine Eh (xs:=(GP r.takes).map λp=>kV p.1) (λi σ H'=>∃v3:Option V,σ=[some (.ref a),some (.ref n),some (.ref p1),v3,none,none]/\(∀b o,b≠d->b≠p1->H2 b=some o->H' b=some o)/\H' d=some (.Lj od (.dK (GP r.takes)))/\
   Gi H' p1 ([Km382.wServes,Km382.dec 5 r.serves]::(r.takes.take i).map λt=>[Km382.wTake,Km382.dec 5 t.units,goods.getD t.good []]))
  ⟨none,rfl,λb o h1 _ e=>by rw[ua h1];exact e,ia,?_⟩ (λi σ H' _⟨_,_,_,z,_⟩=>oM z) ?_ ?_
 ·obtain⟨vs,h1,h2⟩:=hL0;refine⟨vs,by rw[ua (Ne.symm hdp1)];exact h1,h2.mono λv ws⟨q,e,h3,h4⟩=>⟨q,e,?_,h4⟩⟩;rw[ua (Fb h3 hd2 (by intro z;cases z))];exact h3
 ·rintro i v σ H' hi ⟨v3,rfl,hS,hd',vs,hv1,hv2⟩;unfold GP at hi;rw[List.map_map,List.getElem?_map] at hi;cases ht:r.takes[i]? with
  |none=>rw[ht] at hi;cases hi
  |some t=>
   rw[ht] at hi;have hi:V.int (t.good:Int)=v:=Option.some.inj hi;subst hi;have hIt:=hI.takes t (List.mem_of_getElem? ht);have hvl:=hv2.length;have hil:i<r.takes.length:=(List.getElem?_eq_some_iff.mp ht).1;have h8:=hI.jG;dsimp![Zv];have hfind:(r.takes.find? λx=>x.good==t.good)=some t:=by
    have hnd:=hI.QW;cases hf:(r.takes.find? λx=>x.good==t.good) with
    |none=>
     have:=List.find?_eq_none.mp hf t (List.mem_of_getElem? ht);simp at this
    |some t'=>
     have h1:t'.good=t.good:=by simpa using List.find?_some hf
     obtain⟨i',hi'⟩:=List.getElem?_of_mem (List.mem_of_find?_eq_some hf);have e1:(r.takes.map Km382.Take.good)[i']?=some t.good:=by rw[List.getElem?_map,hi',<-h1];rfl
     have e2:(r.takes.map Km382.Take.good)[i]?=some t.good:=by rw[List.getElem?_map,ht];rfl
     have:=FU hnd e1 e2;subst this;rw[ht] at hi';exact hi'.symm
   refine⟨.inl ⟨rfl,_,Ha.of hv1⟩,dx,_,hS _ _ had hap1 (s12 _ _ R.ob),d,rfl,.int (t.units:Int),.inl ⟨_,Sum.inl (t.good:Int),.inr ⟨od,hd'⟩,rfl,by rw[uA,hfind];rfl⟩,_,rfl,hlog (by lia),sL goods,hgd hS,_,wa (v:=V.str (S (goods.getD t.good []))) ?_,by lia,λq hq=>?_⟩
   ·rw[List.getD_eq_getElem?_getD];obtain⟨g,hg⟩:∃g,goods[t.good]?=some g:=⟨_,List.getElem?_eq_getElem hIt.1⟩;rw[hg];exact KU hg
   have e3:([V.str (S Km382.wTake),V.str (Str.ofString (toString ((t.units:Nat):Int))),V.str (S (goods.getD t.good []))]:List V)=sL [Km382.wTake,Km382.dec 5 t.units,goods.getD t.good []]:=by
    rw[show Str.ofString (toString ((t.units:Nat):Int))=S (Km382.dec 5 t.units) from gG (by lia)];rfl
   rw[e3];have sq:Aa H' (upd H' q (.lst (sL [Km382.wTake,Km382.dec 5 t.units,goods.getD t.good []]))):=qa hq;have hqp:q≠p1:=λz=>by rw[z,hv1] at hq;cases hq
   refine⟨p1,vs,_,rfl,rfl,sq _ _ hv1,by rw[hvl];simp;lia,λb o h1 h2 e=>by rw[ua h2];exact sq _ _ (hS b o h1 h2 e),by rw[ua hdp1];exact sq _ _ hd',?_⟩;rw[take_snoc ht,List.map_append];exact Gi.push hv1 hv2 (sq.x p1) ia hqp
 ·rintro σ H' ⟨v3,rfl,hS,hd',vs,hv1,hv2⟩;rw[show((GP r.takes).map λp=>kV p.1).length=r.takes.length by rw[List.length_map,jM],List.take_length] at hv2;dsimp!;have hX:ab p1 H2 (upd H' d (.dK (GP r.takes))):=λb o h1 e=>by
   by_cases hb:b=d
   ·subst hb;rw[ia];rw[hd2] at e;exact e
   ·rw[ua hb];exact hS b o hb h1 e
  have hLu:Gi (upd H' d (.dK (GP r.takes))) p1 ([Km382.wServes,Km382.dec 5 r.serves]::r.takes.map λt=>[Km382.wTake,Km382.dec 5 t.units,goods.getD t.good []]):=
   ⟨vs,by rw[ua (Ne.symm hdp1)];exact hv1,hv2.mono λv ws⟨q,e,h3,h4⟩=>⟨q,e,by rw[ua (Fb h3 hd' (by intro z;cases z))];exact h3,h4⟩⟩
  generalize hHu:upd H' d (.dK (GP r.takes))=Hu at *
  refine⟨hd',dx,_,hX _ _ hap1 (s12 _ _ R.ob),l,rfl,⟨_,Ha.of (hX _ _ hlp1 (s12 _ _ hl1))⟩,?_⟩;refine Fo (xs:=us) (λi σ H5=>∃v4:Option V,σ=[some (.ref a),some (.ref n),some (.ref p1),v3,v4,none]/\ab p1 H2 H5/\
    Gi H5 p1 ([Km382.wServes,Km382.dec 5 r.serves]::(r.takes.map λt=>[Km382.wTake,Km382.dec 5 t.units,goods.getD t.good []])++(r.steps.take i).map (JD (r.steps.map Km382.Step_.name))))
   ⟨none,rfl,hX,by rw[List.take_zero,List.map_nil,List.append_nil];exact hLu⟩ (λi σ H5 _⟨_,_,z,_⟩=>Ha.of (z _ _ hlp1 (s12 _ _ hl1))) ?_ ?_
  ·rintro i v σ H5 hi ⟨v4,rfl,hX5,vs5,hv5,hP5⟩;obtain⟨st,hst,hsi⟩:=Pc hl2 hi;have hIs:=hI.steps st (List.mem_of_getElem? hst);have hIa:=hI.after i st hst;have hil:i<r.steps.length:=(List.getElem?_eq_some_iff.mp hst).1;have h8:=hI.MF;have h8':=hI.jG;have hP5l:=hP5.length;have mono5:∀{v:V}{s:Km382.Step_},ig A H l v s->ig A H5 l v s:=λ{v s} z=>z.mono (λb o _ _ e=>hX5 _ _ (ka e hHp1) (s12 _ _ e)) ⟨_,hl1⟩;dsimp!;refine⟨.inl ⟨rfl,_,Ha.of hv5⟩,dx,_,hX5 _ _ hap1 (s12 _ _ R.ob),l,l,us,st,r.steps,v,rfl,mono5 hsi,hX5 _ _ hlp1 (s12 _ _ hl1),hl2.mono (λ_ _ z=>mono5 z),hIs.2.2.1,hIa.1,λj hj=>Nat.lt_trans (hIa.2 j hj) hil,λD H6 hD hD6 h6=>?_⟩;have hDp:D≠p1:=λz=>by rw[z,hv5] at hD;cases hD
   refine⟨p1,vs5,_,rfl,rfl,h6 _ _ hv5,by rw[hP5l];simp;lia,λb o h1 e=>by rw[ua h1];exact h6 _ _ (hX5 b o h1 e),?_⟩;rw[take_snoc hst,List.map_append,<-List.append_assoc];exact Gi.push hv5 hP5 (h6.x p1) hD6 hDp
  ·rintro σ H5 ⟨v4,rfl,hX5,vs5,hv5,hP5⟩;rw[show us.length=r.steps.length from hl2.length,List.take_length] at hP5;have hP5:Paired (λv ws=>∃q,v=.ref q/\H5 q=some (.lst (sL ws))/\q≠p1) vs5 (Fw goods r):=hP5;have hshort:=Rz hI hg8;have hlen5:=hP5.length;dsimp!;refine⟨⟨_,rfl⟩,⟨_,Ha.of hv5⟩,rh hP5 (λws=>some (.str (S (Ip ws)))) (qb (Ha.of hv5)) (by lia) (λj v ws H6 Rk hm hv hs r'=>?_) λD H6 hD hD6 h6=>?_⟩
   ·obtain⟨q,rfl,hq,_⟩:=hv;have hsh:=hshort ws (List.mem_of_getElem? hm);have hj:=Wt hsh.2;dsimp![wipe];refine⟨⟨_,rfl⟩,ws.map S,.inl (Ha.of ((hs _ _ hq).trans (by rw[List.map_map];rfl))),?_,?_,?_⟩
    ·have h:=oA (f:=λz:Str=>z.length) (m:=8) (ws.map S) (λz hz=>by
      obtain⟨w,hw,rfl⟩:=List.mem_map.mp hz;rw[Bh];exact hsh.2 w hw)
     have:=hsh.1;rw[List.length_map] at h⊢;rw[Bh];simp only[List.length_singleton];lia
    ·rw[Uy,Bh,Bh];have:=hsh.1;simp only[List.length_singleton];lia
    ·rw[Uy,tX];exact r' H6 (Aa.refl _)
   ·rw[Si] at hD6;refine⟨D,rfl,(Fw goods r).map λws=>S (Ip ws),.inl (Ha.of (hD6.trans (by rw[List.map_map];rfl))),?_,?_⟩
    ·have h:=oA (f:=λz:Str=>z.length) (m:=200) ((Fw goods r).map λws=>S (Ip ws)) (λz hz=>by
      obtain⟨w,hw,rfl⟩:=List.mem_map.mp hz;rw[Bh];exact XC (hshort w hw))
     rw[List.length_map] at h⊢;rw[Bh];simp only[List.length_nil];lia
    ·rw[show((Fw goods r).map λws=>S (Ip ws))=((Fw goods r).map Ip).map S by rw[List.map_map];rfl,nR,<-yA];exact k H6 λb o e=>h6 _ _ (hX5 _ _ (ka e hHp1) (s12 _ _ e))
def jm(A:Ad)(H:Hp)(v:V)(g:Km382.Good):Prop:=∃a dx,v=.ref a/\H a=some (.ins A.zc dx (ub ⟨.str (S g.name),.int (g.price:Int),.int (g.bought:Int),.int (g.used:Int),.int (g.thrown:Int)⟩))
def Ng(A:Ad)(H:Hp)(v:V)(x:Km382.Lot):Prop:=∃a dx,v=.ref a/\H a=some (.ins A.Oh dx (Yj ⟨.int (x.good:Int),.int (x.units:Int),.int (x.last:Int)⟩))
def RecAt(A:Ad)(H:Hp)(v:V)(r:Km382.Recipe):Prop:=∃a dx d l,v=.ref a/\Rec A H a dx d l r
def Ah{α:Type}(P:V->α->Prop)(v:V):Option α->Prop
 |none=>v=.Vb
 |some x=>P v x
def cg(m:Km382.Meal):lh:=⟨.int (m.day:Int),.int (m.recipe:Int),.int (m.people:Int),.int (m.slot:Int),.bl m.done⟩
def vd(A:Ad)(H:Hp)(v:V)(m:Km382.Meal):Prop:=∃a dx,v=.ref a/\H a=some (.ins A.ae dx (de (cg m)))
theorem vd.mono{A:Ad}{H H':Hp}{v:V}{g:Km382.Meal}(h:vd A H v g)(s:Aa H H'):vd A H' v g:=by
 obtain⟨a,dx,e,h⟩:=h;exact⟨a,dx,e,s _ _ h⟩
theorem jm.mono{A:Ad}{H H':Hp}{v:V}{g:Km382.Good}(h:jm A H v g)(s:Aa H H'):jm A H' v g:=by
 obtain⟨a,dx,e,h⟩:=h;exact⟨a,dx,e,s _ _ h⟩
theorem Ng.mono{A:Ad}{H H':Hp}{v:V}{g:Km382.Lot}(h:Ng A H v g)(s:Aa H H'):Ng A H' v g:=by
 obtain⟨a,dx,e,h⟩:=h;exact⟨a,dx,e,s _ _ h⟩
theorem RecAt.mono{A:Ad}{H H':Hp}{v:V}{g:Km382.Recipe}(h:RecAt A H v g)(s:Aa H H'):RecAt A H' v g:=by
 obtain⟨a,dx,d,l,e,h⟩:=h;exact⟨a,dx,d,l,e,h.mono s⟩
theorem Ah.imp{α:Type}{P P':V->α->Prop}{v:V}{o:Option α}(h:Ah P v o)(k:∀x,P v x->P' v x):Ah P' v o:=by
 cases o with
 |none=>exact h
 |some x=>exact k x h
structure St(A:Ad)(H:Hp)(a dx lg ll lr lm:Addr)(gs ls rs ms:List V)(k:Km382.Kitchen):Prop where
 ob:∃h o c,k.places=[h,o,c]/\H a=some (.ins A.Na dx (Ba ⟨.int (h:Int),.int (o:Int),.int (c:Int),.int (k.today:Int),.ref lg,.ref ll,.ref lr,.ref lm⟩))
 hg:H lg=some (.lst gs)
 pg:Paired (jm A H) gs k.goods
 hl:H ll=some (.lst ls)
 pl:Paired (Ng A H) ls k.lots
 hr:H lr=some (.lst rs)
 pr:Paired (Ah (RecAt A H)) rs k.recipes
 hm:H lm=some (.lst ms)
 pm:Paired (Ah (vd A H)) ms k.meals
def kc(A:Ad)(H:Hp)(v:V)(k:Km382.Kitchen):Prop:=∃a dx lg ll lr lm gs ls rs ms,v=.ref a/\St A H a dx lg ll lr lm gs ls rs ms k
theorem St.mono{A:Ad}{H H':Hp}{a dx lg ll lr lm:Addr}{gs ls rs ms:List V}{k:Km382.Kitchen}(h:St A H a dx lg ll lr lm gs ls rs ms k)(s:Aa H H'):St A H' a dx lg ll lr lm gs ls rs ms k:=by
 obtain⟨x,y,z,e,ob⟩:=h.ob;exact⟨⟨x,y,z,e,s _ _ ob⟩,s _ _ h.hg,h.pg.mono λ_ _ q=>q.mono s,s _ _ h.hl,h.pl.mono λ_ _ q=>q.mono s,s _ _ h.hr,h.pr.mono λ_ _ q=>q.imp λ_ q=>q.mono s,s _ _ h.hm,h.pm.mono λ_ _ q=>q.imp λ_ q=>q.mono s⟩
theorem kc.mono{A:Ad}{H H':Hp}{v:V}{k:Km382.Kitchen}(h:kc A H v k)(s:Aa H H'):kc A H' v k:=by
 obtain⟨a,dx,lg,ll,lr,lm,gs,ls,rs,ms,e,h⟩:=h;exact⟨a,dx,lg,ll,lr,lm,gs,ls,rs,ms,e,h.mono s⟩
def qB(K:PySem.W.Frag)(A:Ad):Sp:=λvs H Q _=>∃(p dx:Addr)(v0 v1 v2:V),vs=[.ref p,v0,v1,v2]/\H p=some (.ins A.Na dx [])/\∀H' lg ll lr lm,H' p=some (.ins A.Na dx (Ba ⟨v0,v1,v2,.int 0,.ref lg,.ref ll,.ref lr,.ref lm⟩))->
 H' lg=some (.lst [])->H' ll=some (.lst [])->H' lr=some (.lst (List.replicate 8 .Vb))->H' lm=some (.lst (List.replicate 12 .Vb))->H lg=none->H ll=none->H lr=none->H lm=none->[lg,ll,lr,lm].Nodup->ab p H H'->Q .Vb H'
theorem Rp(T:Txt K mg A):Ua P w K mg base nc 1 A.Ek A.zk ["self","hobs","ovens","hands"] (qB K A):=by
 refine T.gr.Uc ["self","hobs","ovens","hands"] (by decide +kernel) λvs H Q E h nd=>?_;obtain⟨p,dx,v0,v1,v2,rfl,hp,k⟩:=h;refine⟨rfl,λ_ _ _ _ hr=>?_⟩;refine⟨_,(ba (Xo K (pv 0) (pv 1))
  (ba (Xo K (pv 0) (pv 2))
  (ba (Xo K (pv 0) (pv 3))
  (ba (Xo K (pv 0) va)
  (ba (Xo K (pv 0) (Wa da))
  (ba (Xo K (pv 0) (Wa da))
  (ba (Xo K (pv 0) (Sb Hz (Wa (aa ic da)) (Ka rfl T.pw)))
  (ja (Xo K (pv 0) (Sb Hz (Wa (aa ic da)) (Ka rfl T.HA))))))))))),?_⟩
 dsimp only[Cc];refine Pj rfl (λ_ q=>⟨_,rfl,q⟩) hp (λ_ _ _ e=>e) T.Ab T.Nk (Nat.le_of_ble_eq_true rfl) (by kernel_rfl) λG1 h1 s1=>?_;refine Pj rfl (λ_ q=>⟨_,rfl,q⟩) h1 s1 T.Ab T.uj (Nat.le_of_ble_eq_true rfl) (by kernel_rfl) λG2 h2 s2=>?_;refine Pj rfl (λ_ q=>⟨_,rfl,q⟩) h2 s2 T.Ab T.sj (Nat.le_of_ble_eq_true rfl) (by kernel_rfl) λG3 h3 s3=>?_;refine Pj rfl (λ_ q=>q) h3 s3 T.Ab T.Hg (Nat.le_of_ble_eq_true rfl) (by kernel_rfl) λG4 h4 s4=>?_;refine lO rfl (λ_ z=>⟨Nat.zero_le _,λq hq=>z q _ hq ia (qa hq)⟩) h4 s4 T.Ab T.rj (Nat.le_of_ble_eq_true rfl) (λ_=>by kernel_rfl) λG5 lg h5 g5 n1 f1 _ x5 s5=>?_;refine lO rfl (λ_ z=>⟨Nat.zero_le _,λq hq=>z q _ hq ia (qa hq)⟩) h5 s5 T.Ab T.bf (Nat.le_of_ble_eq_true rfl) (λ_=>by kernel_rfl) λG6 ll h6 l6 n2 f2 e6 x6 s6=>?_;refine lO (u:=.lst (List.replicate 8 .Vb)) rfl (λ_ z=>⟨by decide,λq hq=>⟨q,_,_,rfl,rfl,ia,by decide,by decide,by decide,λr hr=>z r _ ((qa hq).free hr) ia ((qa hq).trans (qa hr))⟩⟩) h6 s6 T.Ab T.vh (Nat.le_of_ble_eq_true rfl) (λ_=>by kernel_rfl) λG7 lr h7 r7 n3 f3 e7 x7 s7=>?_;refine PV (u:=.lst (List.replicate 12 .Vb)) rfl (λ_ z=>⟨by decide,λq hq=>⟨q,_,_,rfl,rfl,ia,by decide,by decide,by decide,λr hr=>z r _ ((qa hq).free hr) ia ((qa hq).trans (qa hr))⟩⟩) h7 s7 T.Ab T.tj (Nat.le_of_ble_eq_true rfl) (λ_=>by kernel_rfl) λG8 lm h8 m8 n4 f4 e8 x8 s8=>?_;have g6:=x6 _ _ n1 g5;have g7:=x7 _ _ n1 g6;have l7:=x7 _ _ n2 l6;refine k _ lg ll lr lm h8 (x8 _ _ n1 g7) (x8 _ _ n2 l7) (x8 _ _ n3 r7) m8 f1 f2 f3 f4 ?_ s8;simp[ka g5 e6,ka g6 e7,ka g7 e8,ka l6 e7,ka l7 e8,ka r7 e8]
theorem Uk{α β:Type}{F:α->β->Prop}:∀{l:List α}{m:List β},Paired F l m->∀x∈l,∃y∈m,F x y
 |_,_,.nil,x,h=>by cases h
 |a::l,b::m,.cons p q,x,h=>by
  rcases List.mem_cons.mp h with rfl|h
  ·exact⟨b,List.mem_cons_self ..,p⟩
  ·obtain⟨y,hy,e⟩:=Uk q x h;exact⟨y,List.mem_cons_of_mem _ hy,e⟩
theorem cW{α:Type}{J:It}{xs:List V}{ms:List α}{i:Nat}{tt:TT}{te:TE}{σ:L2.St}{H:Hp}{Q:VK}{Rl:V->α->Prop}(hP:Paired Rl xs ms)(G:Addr->α->Hp->Prop)(hJ:jg J H xs)(hz:xs.length<=sizeLine)(mono:∀p m D acc H1 H2,G p m H1->H1 D=some (.lst acc)->ab D H1 H2->G p m H2)(dom:∀p m H1,G p m H1->∃o,H1 p=some o)(step:∀(j:Nat)(x:V)(m:α)(H1:Hp)(R:Option V->Hp->Prop),ms[j]?=some m->Rl x m->Aa H H1->(∀p H2,H1 p=none->G p m H2->Aa H1 H2->R (some (.ref p)) H2)->tt ((wipe σ [i]).set i (some x)) H1 λb H3=>if b=true then te ((wipe σ [i]).set i (some x)) H3 λy H4=>R (some y) H4 else R none H3)(fin:∀(D:Addr)(ps:List Addr)(H1:Hp),H D=none->H1 D=some (.lst (ps.map V.ref))->Aa H H1->Paired (λp m=>G p m H1) ps ms->ps.Nodup->(∀p∈ps,H p=none)->Q (.ref D) H1):YW J i tt te σ H Q:=by
 intro D hD;let Wd:Nat->Hp->Prop:=λk H1=>∃ps:List Addr,H1 D=some (.lst (ps.map V.ref))/\ab D H H1/\Paired (λp m=>G p m H1) ps (ms.take k)/\ps.Nodup/\∀p∈ps,H p=none;have hxm:=hP.length;refine⟨λk m H1=>m=xs.length-k/\k<=xs.length/\Wd k H1,⟨xs.length,rfl,Nat.zero_le _,[],ia,bb,by rw[List.take_zero];exact .nil,List.nodup_nil,λp hp=>by cases hp⟩,?_⟩;rintro k m H1 ⟨rfl,hk,ps,hd,hs,hp,hn,hf⟩;have hS:Aa H H1:=hs.same hD;by_cases hlt:k<xs.length
 ·obtain⟨go,rM⟩:=(hJ k H1 hS).1 hlt;refine .inr ⟨go,Wd (k+1),λH' w=>⟨xs.length-(k+1),by lia,rfl,hlt,w⟩,λx H' y=>?_⟩;obtain⟨e,hx⟩:=rM x H' y;subst e;refine⟨?_,?_⟩
  ·show(((σ.set i none).set i (some x)).set i none)=σ.set i none;rw[List.set_set,List.set_set]
  ·obtain⟨m,hm,hr⟩:=Pc hP hx;refine step k x m H' (λy H4=>match y with
    |some y=>∃acc,H4 D=some (.lst acc)/\acc.length<sizeLine/\Wd (k+1) (upd H4 D (.lst (acc++[y])))
    |none=>Wd (k+1) H4) hm hr hS λp H2 hp0 hG h2=>?_
   have hd2:=h2 _ _ hd;have hpl:=hp.length;rw[List.length_take] at hpl;refine⟨_,hd2,by rw[List.length_map];lia,ps++[p],by rw[ia,List.map_append];rfl,(hs.trans (h2.x D)).trans bb,?_,?_,?_⟩
   ·rw[take_snoc hm];exact Paired.snoc (hp.mono λp' m' z=>mono _ _ D _ _ _ z hd ((h2.x D).trans bb)) (mono _ _ D _ _ _ hG hd2 bb)
   ·refine List.nodup_append.mpr ⟨hn,by simp,λa ha b hb=>?_⟩;have hb:b=p:=by simpa using hb
    subst hb;intro e;subst e;obtain⟨m',_,hg⟩:=Uk hp a ha;obtain⟨o,ho⟩:=dom _ _ _ hg;rw[ho] at hp0;cases hp0
   ·intro q hq;rcases List.mem_append.mp hq with hq|hq
    ·exact hf q hq
    ·have:q=p:=by simpa using hq
     rw[this];exact hS.free hp0
 ·have e:k=xs.length:=by lia
  subst e;rw[hxm,List.take_length] at hp;exact .inl ⟨(hJ _ H1 hS).2 (Nat.le_refl _),fin D ps H1 hD hd hS hp hn hf⟩
theorem Kz{α β:Type}{F G:α->β->Prop}:∀{l:List α}{m:List β},Paired F l m->(∀x y,x∈l->F x y->G x y)->Paired G l m
 |_,_,.nil,_=>.nil
 |a::l,b::m,.cons p q,k=>.cons (k a b (List.mem_cons_self ..) p) (Kz q λx y hx=>k x y (List.mem_cons_of_mem _ hx))
theorem Sv{β:Type}{F:V->β->Prop}:∀{l:List Addr}{m:List β},Paired (λp y=>F (.ref p) y) l m->Paired F (l.map V.ref) m
 |_,_,.nil=>.nil
 |a::l,b::m,.cons p q=>.cons p (Sv q)
theorem vz:∀{l:List Addr},l.Nodup->(l.map V.ref).Nodup
 |[],_=>List.nodup_nil
 |a::l,h=>by
  obtain⟨h1,h2⟩:=List.nodup_cons.mp h;rw[List.map_cons];refine List.nodup_cons.mpr ⟨λz=>?_,vz h2⟩;obtain⟨b,hb,e⟩:=List.mem_map.mp z;cases e;exact h1 hb
def Jw(K:PySem.W.Frag)(A:Ad):Sp:=λvs H Q _=>∃(v:V)(g:Km382.Good),vs=[v]/\jm A H v g/\∀H' a,Aa H H'->H a=none->jm A H' (.ref a) g->Q (.ref a) H'
theorem yw(T:Txt K mg A):Ua P w K mg base nc 3 A.Qm A.Hm ["good"] (Jw K A):=by
 refine T.Ph.F.Uc ["good"] (by decide +kernel) λvs H Q E h nd=>?_;obtain⟨v,g,rfl,hv,k⟩:=h;obtain⟨a,dx,rfl,ha⟩:=hv;refine⟨rfl,λ_ _ _ _ hr=>?_⟩;refine⟨_,(ja (oa (pM (Js T:) hr T.XE T.rK T.km (aa (pF (cw T) (pv 0)) (aa (pF (jl T) (pv 0)) (aa (pF (yj T) (pv 0)) (aa (pF (dw T) (pv 0)) (aa (pF (bq T) (pv 0)) da)))))))),?_⟩;dsimp only[Cc];dsimp!;refine⟨dx,_,ha,dx,_,ha,dx,_,ha,dx,_,ha,dx,_,ha,λx xd hx hxd hne=>?_⟩;refine⟨x,xd,_,_,_,_,_,rfl,ia,λH1 h1 h2=>⟨rfl,?_⟩⟩;exact k H1 x (Aa.made hx hxd λb o e hb=>h2 b o hb e) hx ⟨x,xd,rfl,h1⟩
def Ws(K:PySem.W.Frag)(A:Ad):Sp:=λvs H Q _=>∃(v:V)(k:Km382.Kitchen),vs=[v]/\kc A H v k/\KT.qc k/\∀D H',H D=none->H' D=some (.lst (sL k.names))->Aa H H'->Q (.ref D) H'
theorem Sf(T:Txt K mg A):Ua P w K mg base nc 1 A.Jj A.Fj ["state"] (Ws K A):=by
 refine T.Hd.F.Uc ["state","good"] (by decide +kernel) λvs H Q E h nd=>?_;obtain⟨v,kt,rfl,hv,hI,k⟩:=h;have hzl:=ak;obtain⟨a,dx,lg,ll,lr,lm,gs,ls,rs,ms,rfl,s⟩:=hv;obtain⟨h0,o0,c0,_,ob⟩:=s.ob;have hgl:=s.pg.length;have:=hI.Tr;refine⟨rfl,λ_ _ _ _ hr=>?_⟩;refine⟨_,(ja (oa (Fe rfl nd (iu K (pF (cb T) (pv 0))) (own:=[("good",1)]) (bc (show Cb ["state","good"] (Ra Wj) _ [("good",1)]=true from by decide +kernel)) (λ_ _ _ _ _=>Va (i:=1) nd rfl (Or.inl rfl)) (λ_ _ _ _ _=>Ed) (λ_ _ _ _ _=>(pF (cw T) (pv 1)))))),?_⟩;dsimp only[Cc];dsimp!;refine⟨dx,_,ob,lg,rfl,⟨_,Ha.of s.hg⟩,rh s.pg (λg=>some (.str (S g.name))) (qb (Ha.of s.hg)) (by lia) (λj x m H1 R hm hx hs r=>?_) λD H1 hD h1 h2=>k D H1 hD (h1.trans ?_) h2⟩
 ·obtain⟨ga,gdx,rfl,hga⟩:=hx;dsimp![wipe];exact⟨gdx,_,hs _ _ hga,r H1 (Aa.refl _)⟩
 ·rw[Si];unfold Km382.Kitchen.names sL;rw[List.map_map];rfl
structure Td(A:Ad)(H H':Hp)(b dx lg ll lr lm:Addr)(gs ls rs ms:List V)(k:Km382.Kitchen):Prop where
 st:St A H' b dx lg ll lr lm gs ls rs ms k
 fb:H b=none
 fg:H lg=none
 fl:H ll=none
 fr:H lr=none
 fm:H lm=none
 nd:[lg,ll,lr,lm].Nodup
 gn:gs.Nodup
 gf:∀v∈gs,∃a,v=.ref a/\H a=none
 VS:Paired (Ah (RecAt A H)) rs k.recipes
def CL(K:PySem.W.Frag)(A:Ad):Sp:=λvs H Q _=>∃(v:V)(k:Km382.Kitchen),vs=[v]/\kc A H v k/\KT.qc k/\∀H' b dx lg ll lr lm gs ls rs ms,Aa H H'->Td A H H' b dx lg ll lr lm gs ls rs ms k->Q (.ref b) H'
theorem Qd(T:Txt K mg A):Ua P w K mg base nc 4 A.oC A.MB ["state"] (CL K A):=by
 refine T.Gd.F.Uc ["state","new","good"] (by decide +kernel) λvs H Q E h nd=>?_;obtain⟨v,kt,rfl,hv,hI,k⟩:=h;have hzl:=ak;obtain⟨a,dx,lg,ll,lr,lm,gs,ls,rs,ms,rfl,s⟩:=hv;obtain⟨h0,o0,c0,hpl,ob⟩:=s.ob;refine⟨rfl,λ_ _ _ _ hr=>?_⟩;refine⟨_,(ba (Pa (i:=1) nd rfl (Or.inl rfl) (pM (Rp T:) hr T.mz T.VE T.ik (aa (pF (dt T) (pv 0)) (aa (pF (dq T) (pv 0)) (aa (pF (cq T) (pv 0)) da)))))
    (ba (Ih (fs:=Ba) (put:=λv o=>{o with today:=v}) T.Ab T.Hg kd Vp (pv 1) (pF (Nb T) (pv 0)) rfl)
    (ba (Ih (fs:=Ba) (put:=λv o=>{o with goods:=v}) T.Ab T.rj kd cB (pv 1) (Fe rfl nd (iu K (pF (cb T) (pv 0))) (own:=[("good",2)]) (bc (show Cb ["state","new","good"] (Ra xD) _ [("good",2)]=true from by decide +kernel)) (λ_ _ _ _ _=>Va (i:=2) nd rfl (Or.inl rfl)) (λ_ _ _ _ _=>Ed) (λ_ _ _ _ _=>(pC (yw T:) hr T.Ph (aa (pv 2) da)))) rfl)
    (ba (Ih (fs:=Ba) (put:=λv o=>{o with lots:=v}) T.Ab T.bf kd Hh (pv 1) (cf (Eg K) rfl T.pG Uw (aa (pF (Qb T) (pv 0)) da)) rfl)
    (ba (Ih (fs:=Ba) (put:=λv o=>{o with recipes:=v}) T.Ab T.vh kd Cw (pv 1) (cf (Eg K) rfl T.pG Uw (aa (pF (rb T) (pv 0)) da)) rfl)
    (ba (Ih (fs:=Ba) (put:=λv o=>{o with meals:=v}) T.Ab T.tj kd fB (pv 1) (cf (Eg K) rfl T.pG Uw (aa (pF (Za T) (pv 0)) da)) rfl)
    (ja (oa (pv 1))))))))),?_⟩
 dsimp only[Cc];dsimp!;refine⟨dx,_,ob,dx,_,ob,dx,_,ob,λb bx hb hbx hne=>?_⟩;refine⟨b,bx,_,_,_,rfl,ia,λH1 g1 l1 r1 m1 hob1 hg1 hl1 hr1 hm1 fg1 fl1 fr1 fm1 nd1 s1=>⟨rfl,?_⟩⟩;have hab:a≠b:=ka ob hb;have sH1:Aa H H1:=Aa.made hb hbx λx o e hx=>s1 x o hx e;have toH:∀{x:Addr},upd (upd H bx (.own b)) b (.ins A.Na bx []) x=none->H x=none:=λ{x} h=>by
  cases e:H x with
  |none=>rfl
  |some o=>
   rw[ua (ka e hb),ua (ka e hbx),e] at h;cases h
 have fg:=toH fg1;have fl:=toH fl1;have fr:=toH fr1;have fm:=toH fm1;have nbg:g1≠b:=λz=>by rw[z,ia] at fg1;cases fg1
 refine⟨dx,_,sH1 _ _ ob,bx,_,hob1,?_⟩;have s2:Aa H (upd H1 b (.ins A.Na bx (Ba ⟨.int (h0:Int),.int (o0:Int),.int (c0:Int),.int (kt.today:Int),.ref g1,.ref l1,.ref r1,.ref m1⟩))):=λx o e=>by rw[ua (ka e hb)];exact sH1 _ _ e
 have hb2:(upd H1 b (.ins A.Na bx (Ba ⟨.int (h0:Int),.int (o0:Int),.int (c0:Int),.int (kt.today:Int),.ref g1,.ref l1,.ref r1,.ref m1⟩))) b=_:=ia;have fr2:∀{x:Addr},(upd H1 b (.ins A.Na bx (Ba ⟨.int (h0:Int),.int (o0:Int),.int (c0:Int),.int (kt.today:Int),.ref g1,.ref l1,.ref r1,.ref m1⟩))) x=none->H x=none:=λh=>s2.free h;generalize (upd H1 b (.ins A.Na bx (Ba ⟨.int (h0:Int),.int (o0:Int),.int (c0:Int),.int (kt.today:Int),.ref g1,.ref l1,.ref r1,.ref m1⟩)))=H2 at s2 hb2 fr2⊢;have:=hI.Tr;have hgl:=s.pg.length;have hI1:=hI.As;have hI2:=hI.Qs;have hI3:=hI.Iq;have hll:=s.pl.length;have hrl:=s.pr.length;have hml:=s.pm.length;refine⟨dx,_,s2 _ _ ob,lg,rfl,⟨_,Ha.of (s2 _ _ s.hg)⟩,?_⟩;refine cW (s.pg.mono λ_ _ z=>z.mono s2) (λp g H'=>jm A H' (.ref p) g) (qb (Ha.of (s2 _ _ s.hg))) (by lia) (λp m D acc H3 H4 hG hD hs=>?_) (λp m H3 hG=>?_) (λj x m H3 R hm hx hs r=>?_) λG ps H3 hG0 hG hs hps hnd hfr=>?_
 ·obtain⟨ga,gdx,e,h⟩:=hG;exact⟨ga,gdx,e,hs _ _ (Fb h hD (by intro z;cases z)) h⟩
 ·obtain⟨ga,gdx,e,h⟩:=hG;cases e;exact⟨_,h⟩
 ·dsimp![wipe];exact⟨x,m,rfl,hx.mono hs,λH4 p h4 hp hG=>r p H4 hp hG h4⟩
 have s3:=s2.trans hs;have hG3:H G=none:=s2.free hG0;have nGb:G≠b:=λz=>by rw[z,hb2] at hG0;cases hG0
 have hb3:=hs _ _ hb2;refine⟨bx,_,hb3,dx,_,(ua hab).trans (s3 _ _ ob),ll,rfl,_,.inl (Ha.of ((ua (ka s.hl hb)).trans (s3 _ _ s.hl))),?_⟩;have hb4:(upd H3 b (.ins A.Na bx (Ba (⟨.int (h0:Int),.int (o0:Int),.int (c0:Int),.int (kt.today:Int),.ref G,.ref l1,.ref r1,.ref m1⟩:Qa)))) b=some (.ins A.Na bx (Ba (⟨.int (h0:Int),.int (o0:Int),.int (c0:Int),.int (kt.today:Int),.ref G,.ref l1,.ref r1,.ref m1⟩:Qa))):=ia;have s4:Aa H (upd H3 b (.ins A.Na bx (Ba (⟨.int (h0:Int),.int (o0:Int),.int (c0:Int),.int (kt.today:Int),.ref G,.ref l1,.ref r1,.ref m1⟩:Qa)))):=λx o e=>by rw[ua (ka e hb)];exact s3 _ _ e
 have G4:(upd H3 b (.ins A.Na bx (Ba (⟨.int (h0:Int),.int (o0:Int),.int (c0:Int),.int (kt.today:Int),.ref G,.ref l1,.ref r1,.ref m1⟩:Qa)))) G=some (.lst (ps.map V.ref)):=by rw[ua nGb];exact hG
 have x4:ab b H3 (upd H3 b (.ins A.Na bx (Ba (⟨.int (h0:Int),.int (o0:Int),.int (c0:Int),.int (kt.today:Int),.ref G,.ref l1,.ref r1,.ref m1⟩:Qa)))):=bb;dsimp only;generalize (upd H3 b (.ins A.Na bx (Ba (⟨.int (h0:Int),.int (o0:Int),.int (c0:Int),.int (kt.today:Int),.ref G,.ref l1,.ref r1,.ref m1⟩:Qa))))=H4 at hb4 s4 x4 G4⊢;have npb:∀p∈ps,p≠b:=λp hp z=>by have:=hfr p hp;rw[z,hb2] at this;cases this
 have hps4:∀{Hx:Hp},ab b H3 Hx->Paired (λp g=>jm A Hx (.ref p) g) ps kt.goods:=λ{Hx} z=>by
  refine Kz hps λp g hp hg=>?_;obtain⟨ga,gdx,e,h⟩:=hg;cases e;exact⟨_,gdx,rfl,z _ _ (npb _ hp) h⟩
 intro L hL;have nLb:L≠b:=λz=>by rw[z,hb4] at hL;cases hL
 have hL0:H L=none:=s4.free hL;have sL4:Aa H4 (upd H4 L (.lst ls)):=qa hL;refine⟨bx,_,sL4 _ _ hb4,dx,_,(ua hab).trans (sL4 _ _ (s4 _ _ ob)),lr,rfl,_,.inl (Ha.of ((ua (ka s.hr hb)).trans (sL4 _ _ (s4 _ _ s.hr)))),?_⟩;have hb5:(upd (upd H4 L (.lst ls)) b (.ins A.Na bx (Ba (⟨.int (h0:Int),.int (o0:Int),.int (c0:Int),.int (kt.today:Int),.ref G,.ref L,.ref r1,.ref m1⟩:Qa)))) b=some (.ins A.Na bx (Ba (⟨.int (h0:Int),.int (o0:Int),.int (c0:Int),.int (kt.today:Int),.ref G,.ref L,.ref r1,.ref m1⟩:Qa))):=ia;have s5:Aa H (upd (upd H4 L (.lst ls)) b (.ins A.Na bx (Ba (⟨.int (h0:Int),.int (o0:Int),.int (c0:Int),.int (kt.today:Int),.ref G,.ref L,.ref r1,.ref m1⟩:Qa)))):=λx o e=>by rw[ua (ka e hb)];exact(s4.trans sL4) _ _ e
 have G5:(upd (upd H4 L (.lst ls)) b (.ins A.Na bx (Ba (⟨.int (h0:Int),.int (o0:Int),.int (c0:Int),.int (kt.today:Int),.ref G,.ref L,.ref r1,.ref m1⟩:Qa)))) G=some (.lst (ps.map V.ref)):=by rw[ua nGb];exact sL4 _ _ G4
 have L5:(upd (upd H4 L (.lst ls)) b (.ins A.Na bx (Ba (⟨.int (h0:Int),.int (o0:Int),.int (c0:Int),.int (kt.today:Int),.ref G,.ref L,.ref r1,.ref m1⟩:Qa)))) L=some (.lst ls):=by rw[ua nLb];exact ia
 have x5:ab b (upd H4 L (.lst ls)) (upd (upd H4 L (.lst ls)) b (.ins A.Na bx (Ba (⟨.int (h0:Int),.int (o0:Int),.int (c0:Int),.int (kt.today:Int),.ref G,.ref L,.ref r1,.ref m1⟩:Qa)))):=bb;dsimp only;generalize (upd (upd H4 L (.lst ls)) b (.ins A.Na bx (Ba (⟨.int (h0:Int),.int (o0:Int),.int (c0:Int),.int (kt.today:Int),.ref G,.ref L,.ref r1,.ref m1⟩:Qa))))=H5 at hb5 s5 x5 G5 L5⊢;intro Rr hR;have nRb:Rr≠b:=λz=>by rw[z,hb5] at hR;cases hR
 have hR0:H Rr=none:=s5.free hR;have sR5:Aa H5 (upd H5 Rr (.lst rs)):=qa hR;refine⟨bx,_,sR5 _ _ hb5,dx,_,(ua hab).trans (sR5 _ _ (s5 _ _ ob)),lm,rfl,_,.inl (Ha.of ((ua (ka s.hm hb)).trans (sR5 _ _ (s5 _ _ s.hm)))),?_⟩;have hb6:(upd (upd H5 Rr (.lst rs)) b (.ins A.Na bx (Ba (⟨.int (h0:Int),.int (o0:Int),.int (c0:Int),.int (kt.today:Int),.ref G,.ref L,.ref Rr,.ref m1⟩:Qa)))) b=some (.ins A.Na bx (Ba (⟨.int (h0:Int),.int (o0:Int),.int (c0:Int),.int (kt.today:Int),.ref G,.ref L,.ref Rr,.ref m1⟩:Qa))):=ia;have s6:Aa H (upd (upd H5 Rr (.lst rs)) b (.ins A.Na bx (Ba (⟨.int (h0:Int),.int (o0:Int),.int (c0:Int),.int (kt.today:Int),.ref G,.ref L,.ref Rr,.ref m1⟩:Qa)))):=λx o e=>by rw[ua (ka e hb)];exact(s5.trans sR5) _ _ e
 have G6:(upd (upd H5 Rr (.lst rs)) b (.ins A.Na bx (Ba (⟨.int (h0:Int),.int (o0:Int),.int (c0:Int),.int (kt.today:Int),.ref G,.ref L,.ref Rr,.ref m1⟩:Qa)))) G=some (.lst (ps.map V.ref)):=by rw[ua nGb];exact sR5 _ _ G5
 have L6:(upd (upd H5 Rr (.lst rs)) b (.ins A.Na bx (Ba (⟨.int (h0:Int),.int (o0:Int),.int (c0:Int),.int (kt.today:Int),.ref G,.ref L,.ref Rr,.ref m1⟩:Qa)))) L=some (.lst ls):=by rw[ua nLb];exact sR5 _ _ L5
 have R6:(upd (upd H5 Rr (.lst rs)) b (.ins A.Na bx (Ba (⟨.int (h0:Int),.int (o0:Int),.int (c0:Int),.int (kt.today:Int),.ref G,.ref L,.ref Rr,.ref m1⟩:Qa)))) Rr=some (.lst rs):=by rw[ua nRb];exact ia
 have x6:ab b (upd H5 Rr (.lst rs)) (upd (upd H5 Rr (.lst rs)) b (.ins A.Na bx (Ba (⟨.int (h0:Int),.int (o0:Int),.int (c0:Int),.int (kt.today:Int),.ref G,.ref L,.ref Rr,.ref m1⟩:Qa)))):=bb;dsimp only;generalize (upd (upd H5 Rr (.lst rs)) b (.ins A.Na bx (Ba (⟨.int (h0:Int),.int (o0:Int),.int (c0:Int),.int (kt.today:Int),.ref G,.ref L,.ref Rr,.ref m1⟩:Qa))))=H6 at hb6 s6 x6 G6 L6 R6⊢;intro M hM;have nMb:M≠b:=λz=>by rw[z,hb6] at hM;cases hM
 have hM0:H M=none:=s6.free hM;have sM6:Aa H6 (upd H6 M (.lst ms)):=qa hM;refine⟨bx,_,sM6 _ _ hb6,?_⟩;have hb7:(upd (upd H6 M (.lst ms)) b (.ins A.Na bx (Ba (⟨.int (h0:Int),.int (o0:Int),.int (c0:Int),.int (kt.today:Int),.ref G,.ref L,.ref Rr,.ref M⟩:Qa)))) b=some (.ins A.Na bx (Ba (⟨.int (h0:Int),.int (o0:Int),.int (c0:Int),.int (kt.today:Int),.ref G,.ref L,.ref Rr,.ref M⟩:Qa))):=ia;have s7:Aa H (upd (upd H6 M (.lst ms)) b (.ins A.Na bx (Ba (⟨.int (h0:Int),.int (o0:Int),.int (c0:Int),.int (kt.today:Int),.ref G,.ref L,.ref Rr,.ref M⟩:Qa)))):=λx o e=>by rw[ua (ka e hb)];exact(s6.trans sM6) _ _ e
 have G7:(upd (upd H6 M (.lst ms)) b (.ins A.Na bx (Ba (⟨.int (h0:Int),.int (o0:Int),.int (c0:Int),.int (kt.today:Int),.ref G,.ref L,.ref Rr,.ref M⟩:Qa)))) G=some (.lst (ps.map V.ref)):=by rw[ua nGb];exact sM6 _ _ G6
 have L7:(upd (upd H6 M (.lst ms)) b (.ins A.Na bx (Ba (⟨.int (h0:Int),.int (o0:Int),.int (c0:Int),.int (kt.today:Int),.ref G,.ref L,.ref Rr,.ref M⟩:Qa)))) L=some (.lst ls):=by rw[ua nLb];exact sM6 _ _ L6
 have R7:(upd (upd H6 M (.lst ms)) b (.ins A.Na bx (Ba (⟨.int (h0:Int),.int (o0:Int),.int (c0:Int),.int (kt.today:Int),.ref G,.ref L,.ref Rr,.ref M⟩:Qa)))) Rr=some (.lst rs):=by rw[ua nRb];exact sM6 _ _ R6
 have M7:(upd (upd H6 M (.lst ms)) b (.ins A.Na bx (Ba (⟨.int (h0:Int),.int (o0:Int),.int (c0:Int),.int (kt.today:Int),.ref G,.ref L,.ref Rr,.ref M⟩:Qa)))) M=some (.lst ms):=by rw[ua nMb];exact ia
 have x7:ab b (upd H6 M (.lst ms)) (upd (upd H6 M (.lst ms)) b (.ins A.Na bx (Ba (⟨.int (h0:Int),.int (o0:Int),.int (c0:Int),.int (kt.today:Int),.ref G,.ref L,.ref Rr,.ref M⟩:Qa)))):=bb;dsimp only;generalize (upd (upd H6 M (.lst ms)) b (.ins A.Na bx (Ba (⟨.int (h0:Int),.int (o0:Int),.int (c0:Int),.int (kt.today:Int),.ref G,.ref L,.ref Rr,.ref M⟩:Qa))))=H7 at hb7 s7 x7 G7 L7 R7 M7⊢;have x34567:ab b H3 H7:=(((x4.trans (sL4.x b)).trans x5).trans (sR5.x b)).trans (x6.trans ((sM6.x b).trans x7));have stm:=s.mono s7;have dGL:G≠L:=ka G4 hL;have dGR:G≠Rr:=ka G5 hR;have dLR:L≠Rr:=ka L5 hR;have dGM:G≠M:=ka G6 hM;have dLM:L≠M:=ka L6 hM;have dRM:Rr≠M:=ka R6 hM;refine k H7 b bx G L Rr M (ps.map V.ref) ls rs ms s7 ⟨⟨⟨h0,o0,c0,hpl,hb7⟩,G7,?_,L7,stm.pl,R7,stm.pr,M7,stm.pm⟩,hb,hG3,hL0,hR0,hM0,by simp[dGL,dGR,dGM,dLR,dLM,dRM],vz hnd,λv hv=>?_,s.pr⟩
 ·exact Sv (hps4 x34567)
 ·obtain⟨p,hp,rfl⟩:=List.mem_map.mp hv;exact⟨p,rfl,s2.free (hfr p hp)⟩
def uc(A:Ad)(H:Hp)(r:Option Km382.Kitchen×Km382.Ans)(Q:VK):Prop:=match r.1 with
 |none=>∀v H',Aa H H'->ux H' v .Vb (Km382Neutral.told r.2)->Q v H'
 |some k=>∀v sv H',Aa H H'->ux H' v sv (Km382Neutral.told r.2)->kc A H' sv k->Q v H'
theorem uc.no{A:Ad}{H:Hp}{r:Option Km382.Kitchen×Km382.Ans}{Q:VK}{a:Km382.Ans}(k:uc A H r Q)(e:r=(none,a)):∀v H',Aa H H'->ux H' v .Vb (Km382Neutral.told a)->Q v H':=by
 subst e;exact k
theorem uc.yes{A:Ad}{H:Hp}{r:Option Km382.Kitchen×Km382.Ans}{Q:VK}{a:Km382.Ans}{q:Km382.Kitchen}(k:uc A H r Q)(e:r=(some q,a)):∀v sv H',Aa H H'->ux H' v sv (Km382Neutral.told a)->kc A H' sv q->Q v H':=by
 subst e;exact k
def KI(K:PySem.W.Frag)(A:Ad):Sp:=λvs H Q _=>∃(v:V)(k:Km382.Kitchen)(g:Nat),vs=[v,.int (g:Int)]/\kc A H v k/\Q (.bl (decide (g<k.goods.length))) H
theorem Zg(T:Txt K mg A):Ua P w K mg base nc 1 A.oy A.Qx ["state","good"] (KI K A):=by
 refine T.Ff.F.Uc ["state","good"] (by decide +kernel) λvs H Q E h nd=>?_;obtain⟨v,kt,g,rfl,hv,k⟩:=h;obtain⟨a,dx,lg,ll,lr,lm,gs,ls,rs,ms,rfl,s⟩:=hv;obtain⟨h0,o0,c0,_,ob⟩:=s.ob;refine⟨rfl,λ_ _ _ _ hr=>?_⟩;refine⟨_,(ja (oa (qe Kl (pv 1) (Oa (Ga (K:=K) rfl) rfl T.Zb Eb (aa (pF (cb T) (pv 0)) da)) (Ea _)))),?_⟩;dsimp only[Cc];dsimp!;refine⟨dx,_,ob,lg,rfl,gs,.inl (Ha.of s.hg),?_⟩;rw[s.pg.length];have e:decide ((g:Int)<(kt.goods.length:Nat))=decide (g<kt.goods.length):=decide_eq_decide.mpr (by lia);rw[e];exact k
theorem vj{α β:Type}{F:α->β->Prop}:∀{l l':List α}{m m':List β},Paired F l m->Paired F l' m'->Paired F (l++l') (m++m')
 |_,_,_,_,.nil,h=>h
 |_::_,_,_::_,_,.cons p q,h=>.cons p (vj q h)
def Nw(K:PySem.W.Frag)(A:Ad):Sp:=λvs H Q _=>∃(v:V)(k:Km382.Kitchen)(g:Nat),vs=[v,.int (g:Int)]/\kc A H v k/\k.lots.length<=32/\∀H',Aa H H'->Q (.int ((k.has g k.today:Nat):Int)) H'
theorem fJ(l:List Nat):(l.map λ(n:Nat)=>(n:Int)).sum=((l.sum:Nat):Int):=by
 induction l with
 |nil=>rfl
 |cons a l ih=>rw[List.map_cons,List.sum_cons,List.sum_cons,ih];lia
theorem LC{α:Type}{p:α->Bool}{G:α->V}:∀l:List α,l.filterMap (λx=>if p x=true then some (G x) else none)=(l.filter p).map G
 |[]=>rfl
 |x::l=>by
  rw[List.filterMap_cons,List.filter_cons];by_cases c:p x=true
  ·rw[if_pos c,if_pos c,List.map_cons,LC l]
  ·rw[if_neg c,if_neg c,LC l]
theorem Jl(T:Txt K mg A):Ua P w K mg base nc 1 A.Vm A.Lm ["state","good"] (Nw K A):=by
 refine T.Pf.F.Uc ["state","good","lot"] (by decide +kernel) λvs H Q E h nd=>?_;obtain⟨v,kt,g,rfl,hv,h32,k⟩:=h;have hzl:=ak;obtain⟨a,dx,lg,ll,lr,lm,gs,ls,rs,ms,rfl,s⟩:=hv;obtain⟨h0,o0,c0,_,ob⟩:=s.ob;have hll:=s.pl.length;refine⟨rfl,λ_ _ _ _ hr=>?_⟩;refine⟨_,(ja (oa (Oa (wM K rfl) rfl T.WU lQ (aa (Fe rfl nd (iu K (pF (Qb T) (pv 0))) (own:=[("lot",2)]) (bc (show Cb ["state","good","lot"] (Ra Nn) _ [("lot",2)]=true from by decide +kernel)) (λ_ _ _ _ _=>Va (i:=2) nd rfl (Or.inl rfl)) (λ_ _ _ _ _=>se (PW.pt (ZR (Ca Rb (pF (Ci T) (pv 2)) (pv 1) (Ea _)) (jN (Ca oe (pF (Nb T) (pv 0)) (pF (Bd T) (pv 2)) (Ea _)))))) (λ_ _ _ _ _=>(pF (Lf T) (pv 2)))) da)))),?_⟩;dsimp only[Cc];dsimp!;refine⟨dx,_,ob,ll,rfl,⟨_,Ha.of s.hl⟩,rh s.pl (λx=>if KT.oj g kt.today x=true then some (.int (x.units:Int)) else none) (qb (Ha.of s.hl)) (by lia) (λj x m H1 R hm hx hs r=>?_) λD H1 hD h1 h2=>?_⟩
 ·obtain⟨xa,xdx,rfl,hxa⟩:=hx;have hxa:=hs _ _ hxa;have ob1:=hs _ _ ob;have r:=r H1 (Aa.refl _);dsimp![wipe];refine⟨xdx,_,hxa,rfl,?_⟩;unfold KT.oj at r;refine Lb (λh=>⟨dx,_,ob1,xdx,_,hxa,_,rfl,_,rfl,Lb (λh'=>⟨xdx,_,hxa,?_⟩) λh'=>?_⟩) λh=>?_
  ·have h:m.good=g:=by have:=V.int.inj h;lia
   rw[if_pos (decide_eq_true ⟨h,by lia⟩)] at r;exact r
  ·rw[if_neg (by rw[decide_eq_true_eq];lia)] at r;exact r
  ·have h:¬m.good=g:=λz=>h (by rw[z]);rw[if_neg (by rw[decide_eq_true_eq];exactλz=>h z.1)] at r;exact r
 ·rw[LC] at h1;refine⟨D,rfl,((kt.lots.filter (KT.oj g kt.today)).map Km382.Lot.units).map λ(n:Nat)=>(n:Int),Ha.of (h1.trans (by rw[List.map_map,List.map_map];rfl)),?_⟩;rw[fJ];have:=k H1 h2;rw[KT.BE] at this;exact this
def XF(K:PySem.W.Frag)(A:Ad):Sp:=λvs H Q _=>∃(l:Addr)(ls:List V)(lots:List Km382.Lot)(v:V)(x:Km382.Lot),vs=[.ref l,v]/\H l=some (.lst ls)/\Paired (Ng A H) ls lots/\Ng A H v x/\lots.length<=32/\
 ∀D H' us,H D=none->H' D=some (.lst us)->Paired (Ng A H') us ((lots.filter λy=>decide (y.last<=x.last))++[x]++lots.filter λy=>decide (x.last<y.last))->Aa H H'->Q (.ref D) H'
theorem Xp{α:Type}{F:V->α->Prop}{p:α->Bool}:∀{l:List V}{m:List α},Paired F l m->∃l',Paired F l' (m.filter p)/\l'=((l.zip m).filter λq=>p q.2).map (·.1)
 |_,_,.nil=>⟨[],.nil,rfl⟩
 |a::l,b::m,.cons h q=>by
  obtain⟨l',h',e⟩:=Xp (p:=p) q;rw[List.filter_cons,List.zip_cons_cons,List.filter_cons];by_cases c:p b=true
  ·rw[if_pos c,if_pos c];exact⟨a::l',.cons h h',by rw[e];rfl⟩
  ·rw[if_neg c,if_neg c];exact⟨l',h',e⟩
theorem Xr{α:Type}{J:It}{xs:List V}{ms:List α}{i:Nat}{tt:TT}{te:TE}{σ:L2.St}{H:Hp}{Q:VK}{Rl:V->α->Prop}(hP:Paired Rl xs ms)(p:α->Bool)(hJ:jg J H xs)(hz:xs.length<=sizeLine)(step:∀(j:Nat)(x:V)(m:α)(H1:Hp)(R:Option V->Hp->Prop),ms[j]?=some m->Rl x m->Aa H H1->(∀H2,Aa H1 H2->R (if p m=true then some x else none) H2)->tt ((wipe σ [i]).set i (some x)) H1 λb H3=>if b=true then te ((wipe σ [i]).set i (some x)) H3 λy H4=>R (some y) H4 else R none H3)(fin:∀D us H1,H D=none->H1 D=some (.lst us)->Paired Rl us (ms.filter p)->Aa H H1->Q (.ref D) H1):YW J i tt te σ H Q:=by
 have hZ:Paired (λ(x:V)(q:V×α)=>x=q.1/\Rl x q.2) xs (xs.zip ms):=by
  clear step fin hz hJ;induction hP with
  |nil=>exact .nil
  |cons h q ih=>exact .cons ⟨rfl,h⟩ ih
 refine rh hZ (λq=>if p q.2=true then some q.1 else none) hJ hz (λj x q H1 R hq hx hs k=>?_) λD H1 hD h1 h2=>?_
 ·obtain⟨e,hr⟩:=hx;have hm:ms[j]?=some q.2:=by
   have:=List.getElem?_zip_eq_some.mp hq;exact this.2
  refine step j x q.2 H1 R hm hr hs λH2 h2=>?_;have:=k H2 h2;rw[<-e] at this;exact this
 ·rw[LC (p:=λq:V×α=>p q.2) (G:=λq=>q.1)] at h1;obtain⟨l',h',e⟩:=Xp (p:=p) hP;exact fin D _ H1 hD (h1.trans (by rw[e])) h' h2
theorem gF(T:Txt K mg A):Ua P w K mg base nc 1 A.Zu A.Nu ["lots","lot"] (XF K A):=by
 refine T.um.F.Uc ["lots","lot","ahead","other","behind"] (by decide +kernel) λvs H Q E h nd=>?_;obtain⟨l,ls,lots,v,x,rfl,hl,hP,hx,h32,k⟩:=h;have hzl:=ak;have hll:=hP.length;obtain⟨xa,xdx,rfl,hxa⟩:=hx;refine⟨rfl,λ_ _ _ _ hr=>?_⟩;refine⟨_,(ba (yi (i:=2) rfl nd rfl rfl rfl (iu K (pv 0)) (own:=[("other",3)]) (bc (show Cb ["lots","lot","ahead","other","behind"] (Ra Fn) _ [("other",3)]=true from by decide +kernel)) (λ_ _ _ _ _=>Va (i:=3) nd rfl (Or.inl rfl)) (λ_ _ _ _ _=>se (Ca oe (pF (Bd T) (pv 3)) (pF (Bd T) (pv 1)) (Ea _))) (λ_ _ _ _ _=>(pv 3)))
   (ba (yi (i:=4) rfl nd rfl rfl rfl (iu K (pv 0)) (own:=[("other",3)]) (bc (show Cb ["lots","lot","ahead","other","behind"] (Ra Fn) _ [("other",3)]=true from by decide +kernel)) (λ_ _ _ _ _=>Va (i:=3) nd rfl (Or.inl rfl)) (λ_ _ _ _ _=>se (Ca An (pF (Bd T) (pv 3)) (pF (Bd T) (pv 1)) (Ea _))) (λ_ _ _ _ _=>(pv 3)))
   (ja (oa (Sb zg (Sb zg (pv 2) (Wa (aa (pv 1) da))) (pv 4)))))),?_⟩
 dsimp only[Cc];dsimp!;refine⟨⟨_,Ha.of hl⟩,Xr hP (λy=>decide (y.last<=x.last)) (qb (Ha.of hl)) (by lia) (λj v m H1 R hm hv hs r=>?_) λD1 u1 H1 hD1 h1 hP1 s1=>?_⟩
 ·obtain⟨ya,ydx,rfl,hya⟩:=hv;dsimp![wipe];refine⟨ydx,_,hs _ _ hya,xdx,_,hs _ _ hxa,_,rfl,_,rfl,?_⟩;have r:=r H1 (Aa.refl _);refine Lb (λh=>?_) λh=>?_
  ·rw[if_pos (decide_eq_true (by lia))] at r;exact r
  ·rw[if_neg (by rw[decide_eq_true_eq];lia)] at r;exact r
 refine⟨⟨_,Ha.of (s1 _ _ hl)⟩,Xr (hP.mono λ_ _ z=>z.mono s1) (λy=>decide (x.last<y.last)) (qb (Ha.of (s1 _ _ hl))) (by lia) (λj v m H2 R hm hv hs r=>?_) λD2 u2 H2 hD2 h2 hP2 s2=>?_⟩
 ·obtain⟨ya,ydx,rfl,hya⟩:=hv;dsimp![wipe];refine⟨ydx,_,hs _ _ hya,xdx,_,hs _ _ (s1 _ _ hxa),_,rfl,_,rfl,?_⟩;have r:=r H2 (Aa.refl _);refine Lb (λh=>?_) λh=>?_
  ·rw[if_pos (decide_eq_true (by lia))] at r;exact r
  ·rw[if_neg (by rw[decide_eq_true_eq];lia)] at r;exact r
 have l1:=hP1.length;have l2:=hP2.length;have f1:=List.length_filter_le (λy=>decide (y.last<=x.last)) lots;have f2:=List.length_filter_le (λy=>decide (x.last<y.last)) lots;dsimp![TX];refine⟨by lia,λp hp=>?_⟩;have s3:Aa H2 (upd H2 p (.lst [V.ref xa])):=qa hp;refine⟨u1,s3 _ _ (s2 _ _ h1),_,ia,by simp;lia,λq hq=>?_⟩;have s4:=qa (o:=.lst (u1++[V.ref xa])) hq;refine⟨_,ia,u2,s4 _ _ (s3 _ _ h2),by simp;lia,λD hD=>?_⟩;have s5:=qa (o:=.lst (u1++[V.ref xa]++u2)) hD;have sA:=((s2.trans s3).trans s4).trans s5;refine k D _ _ (((s1.trans s2).trans (s3.trans s4)).free hD) ia ?_ (s1.trans sA);exact vj (vj (hP1.mono λ_ _ z=>z.mono (s1.trans sA)) (.cons ⟨xa,xdx,rfl,(s1.trans sA) _ _ hxa⟩ .nil)) (hP2.mono λ_ _ z=>z.mono sA)
theorem gb{K:PySem.W.Frag}{A:Ad}{H:Hp}{r:Option Km382.Kitchen×Km382.Ans}{Q:VK}{z:Int}{E:XK}(k:uc A H r Q)(e:r=(none,Km382.only z)){H1:Hp}(s:Aa H H1):Ai K A [.int z] H1 Q E:=
 ⟨z,rfl,λv H' s' o=>k.no e v H' (s.trans s') o⟩
theorem Jd{K:PySem.W.Frag}{A:Ad}{H:Hp}{r:Option Km382.Kitchen×Km382.Ans}{Q:VK}{a:Km382.Ans}{E:XK}(k:uc A H r Q)(e:r=(none,a)){H1:Hp}(s:Aa H H1){l:Addr}{vs:List V}(hl:H1 l=some (.lst vs))(ev:vs=(Km382Neutral.told a).map V.int):uN K A [.ref l] H1 Q E:=
 ⟨l,Km382Neutral.told a,rfl,by rw[hl,ev],λv H' s' o=>k.no e v H' (s.trans s') o⟩
theorem ke{K:PySem.W.Frag}{A:Ad}{H:Hp}{r:Option Km382.Kitchen×Km382.Ans}{Q:VK}{a:Km382.Ans}{q:Km382.Kitchen}{E:XK}(k:uc A H r Q)(e:r=(some q,a)){H1:Hp}(s:Aa H H1){l:Addr}{vs:List V}{sv:V}(hs:kc A H1 sv q)(hl:H1 l=some (.lst vs))(ev:vs=(Km382Neutral.told a).map V.int):eA K A [sv,.ref l] H1 Q E:=
 ⟨sv,l,Km382Neutral.told a,rfl,by rw[hl,ev],λv H' s' o=>k.yes e v sv H' (s.trans s') o (hs.mono s')⟩
def uP(K:PySem.W.Frag)(A:Ad):Sp:=λvs H Q _=>∃(v:V)(k:Km382.Kitchen)(g:Nat),vs=[v,.int (g:Int)]/\kc A H v k/\KT.qc k/\uc A H (KT.fc k (.has g)) Q
theorem LO(T:Txt K mg A):Ua P w K mg base nc 2 A.QG A.GG ["state","good"] (uP K A):=by
 refine T.Jx.F.Uc ["state","good"] (by decide +kernel) λvs H Q E h nd=>?_;obtain⟨v,kt,g,rfl,hv,hI,k⟩:=h;have e0:KT.fc kt (.has g)=(none,if kt.goods.length<=g then Km382.only (-2) else Km382.only ((kt.has g kt.today:Nat):Int)):=rfl;refine⟨rfl,λ_ _ _ _ hr=>?_⟩;refine⟨_,(ba (Ma (Hb (Ob (pC (Zg T:) hr T.Ff (aa (pv 0) (aa (pv 1) da))))) (ja (oa (pC (Ja T:) hr T.La (aa (Ka rfl T.Gb) da)))) za)
   (ja (oa (pC (Bf T:) hr T.Of (aa (Wa (aa (pC (Jl T:) hr T.Pf (aa (pv 0) (aa (pv 1) da))) da)) da))))),?_⟩
 dsimp only[Cc];dsimp!;refine⟨v,kt,g,rfl,hv,_,rfl,Lb (λh=>?_) λh=>?_⟩
 ·have h:=of_decide_eq_false h;exact gb k (by rw[e0,if_pos (by lia)]) (Aa.refl _)
 ·have h:g<kt.goods.length:=by simpa using h
  refine⟨v,kt,g,rfl,hv,hI.As,λH1 s1=>⟨by decide,λp hp=>?_⟩⟩;exact Jd k (a:=Km382.only ((kt.has g kt.today:Nat):Int)) (by rw[e0,if_neg (by lia)]) (s1.trans (qa hp)) ia rfl
def vP(K:PySem.W.Frag)(A:Ad):Sp:=λvs H Q _=>∃(v:V)(k:Km382.Kitchen)(n:Nat),vs=[v,.int (n:Int)]/\kc A H v k/\KT.qc k/\uc A H (KT.fc k (.lot n)) Q
theorem MO(T:Txt K mg A):Ua P w K mg base nc 2 A.RG A.HG ["state","k"] (vP K A):=by
 refine T.Kx.F.Uc ["state","k","lot"] (by decide +kernel) λvs H Q E h nd=>?_;obtain⟨v,kt,n,rfl,hv,hI,k⟩:=h;obtain⟨a,dx,lg,ll,lr,lm,gs,ls,rs,ms,rfl,s⟩:=hv;obtain⟨h0,o0,c0,_,ob⟩:=s.ob;have hll:=s.pl.length;refine⟨rfl,λ_ _ _ _ hr=>?_⟩;refine⟨_,(ba (Ma (Ca cN (pv 1) (Oa (Ga (K:=K) rfl) rfl T.Zb Eb (aa (pF (Qb T) (pv 0)) da)) (Ea _)) (ja (oa (pC (Ja T:) hr T.La (aa (Ka rfl T.Gb) da)))) za)
    (ba (Pa (i:=2) nd rfl (Or.inl rfl) (vc K (pF (Qb T) (pv 0)) (pv 1)))
    (ja (oa (pC (Bf T:) hr T.Of (aa (Wa (aa (Oa (Ga (K:=K) rfl) rfl T.Zb Eb (aa (pF (Qb T) (pv 0)) da)) (aa (pF (Ci T) (pv 2)) (aa (pF (Lf T) (pv 2)) (aa (pF (Bd T) (pv 2)) da))))) da)))))),?_⟩
 dsimp only[Cc];dsimp!;refine⟨dx,_,ob,ll,rfl,ls,.inl (Ha.of s.hl),?_⟩;rw[hll];refine Lb (λh=>?_) λh=>?_
 ·refine gb k ?_ (Aa.refl _);have e:kt.lots[n]?=none:=List.getElem?_eq_none (by lia);show(none,match kt.lots[n]? with
   |none=>Km382.only (-2)
   |some x=>⟨((kt.lots.length:Nat):Int),[x.good,x.units,x.last]⟩)=_
  rw[e]
 ·obtain⟨x,hx⟩:∃x,kt.lots[n]?=some x:=⟨_,List.getElem?_eq_getElem (by lia)⟩;obtain⟨xv,hxv,xa,xdx,rfl,hxa⟩:=Bb s.pl hx;refine⟨dx,_,ob,ll,rfl,ls,Ha.of s.hl,_,wa hxv,dx,_,ob,ll,rfl,ls,.inl (Ha.of s.hl),xa,rfl,xdx,_,hxa,xa,rfl,xdx,_,hxa,xa,rfl,xdx,_,hxa,by decide,λp hp=>?_⟩;refine Jd k (a:=⟨((kt.lots.length:Nat):Int),[x.good,x.units,x.last]⟩) ?_ (qa hp) ia ?_
  ·show(none,match kt.lots[n]? with
    |none=>Km382.only (-2)
    |some x=>⟨((kt.lots.length:Nat):Int),[x.good,x.units,x.last]⟩)=_
   rw[hx]
  ·rw[hll];rfl
def TF(K:PySem.W.Frag)(A:Ad):Sp:=λvs H Q _=>∃(v:V)(k:Km382.Kitchen)(g:Nat),vs=[v,.int (g:Int)]/\kc A H v k/\KT.qc k/\uc A H (KT.fc k (.totals g)) Q
theorem eF(T:Txt K mg A):Ua P w K mg base nc 2 A.Xu A.Lu ["state","good"] (TF K A):=by
 refine T.rm.F.Uc ["state","good","which"] (by decide +kernel) λvs H Q E h nd=>?_;obtain⟨v,kt,g,rfl,hv,hI,k⟩:=h;refine⟨rfl,λ_ _ _ _ hr=>?_⟩;refine⟨_,(ba (Ma (Hb (Ob (pC (Zg T:) hr T.Ff (aa (pv 0) (aa (pv 1) da))))) (ja (oa (pC (Ja T:) hr T.La (aa (Ka rfl T.Gb) da)))) za)
    (ba (Pa (i:=2) nd rfl (Or.inl rfl) (vc K (pF (cb T) (pv 0)) (pv 1)))
    (ja (oa (pC (Bf T:) hr T.Of (aa (Wa (aa va (aa (pF (yj T) (pv 2)) (aa (pF (dw T) (pv 2)) (aa (pF (bq T) (pv 2)) (aa (pF (jl T) (pv 2)) da)))))) da)))))),?_⟩
 dsimp only[Cc];dsimp!;refine⟨v,kt,g,rfl,hv,_,rfl,Lb (λh=>?_) λh=>?_⟩
 ·have h:=of_decide_eq_false h;refine gb k ?_ (Aa.refl _);have e:kt.goods[g]?=none:=List.getElem?_eq_none (by lia);show(none,match kt.goods[g]? with
   |none=>Km382.only (-2)
   |some x=>⟨0,[x.bought,x.used,x.thrown,x.price]⟩)=_
  rw[e]
 ·have h:g<kt.goods.length:=by simpa using h
  obtain⟨a,dx,lg,ll,lr,lm,gs,ls,rs,ms,rfl,s⟩:=hv;obtain⟨h0,o0,c0,_,ob⟩:=s.ob;obtain⟨x,hx⟩:∃x,kt.goods[g]?=some x:=⟨_,List.getElem?_eq_getElem h⟩;obtain⟨xv,hxv,xa,xdx,rfl,hxa⟩:=Bb s.pg hx;refine⟨a,rfl,dx,_,ob,lg,rfl,gs,Ha.of s.hg,_,wa hxv,xa,rfl,xdx,_,hxa,xa,rfl,xdx,_,hxa,xa,rfl,xdx,_,hxa,xa,rfl,xdx,_,hxa,by decide,λp hp=>?_⟩;refine Jd k (a:=⟨0,[x.bought,x.used,x.thrown,x.price]⟩) ?_ (qa hp) ia rfl;show(none,match kt.goods[g]? with
   |none=>Km382.only (-2)
   |some x=>⟨0,[x.bought,x.used,x.thrown,x.price]⟩)=_
  rw[hx]
theorem Mh{α β:Type}{F:α->β->Prop}:∀{l:List α}{m:List β},l.length=m.length->(∀(j:Nat)(x:α)(y:β),l[j]?=some x->m[j]?=some y->F x y)->Paired F l m
 |[],[],_,_=>.nil
 |[],_::_,h,_=>by simp at h
 |_::_,[],h,_=>by simp at h
 |x::l,y::m,h,k=>.cons (k 0 x y rfl rfl) (Mh (by simpa using h) λj a b ha hb=>k (j+1) a b ha hb)
def Ny(g:Km382.Good):wd:=⟨.str (S g.name),.int (g.price:Int),.int (g.bought:Int),.int (g.used:Int),.int (g.thrown:Int)⟩
def Apart(H:Hp)(x:Addr):Prop:=∃C dx fs,H x=some (.ins C dx fs)/\fs.length≠3/\fs.length≠4/\(fs.map Prod.fst).head?≠some "day"
theorem Apart.ne{H:Hp}{x y C dx:Addr}{fs:List (Str×V)}(h:Apart H x)(e:H y=some (.ins C dx fs))(l:fs.length=3\/fs.length=4):y≠x:=by
 obtain⟨C',dx',fs',h1,h2,h3,_⟩:=h;refine Fb e h1 λz=>?_;injection z with _ _ z;rw[z] at l;lia
theorem Apart.US{H:Hp}{x y:Addr}{xs:List V}(h:Apart H x)(e:H y=some (.lst xs)):y≠x:=by
 obtain⟨C',dx',fs',h1,_⟩:=h;exact Fb e h1 (by intro z;cases z)
theorem Apart.HZ{H:Hp}{x y:Addr}{xs:List (Key×V)}(h:Apart H x)(e:H y=some (.dK xs)):y≠x:=by
 obtain⟨C',dx',fs',h1,_⟩:=h;exact Fb e h1 (by intro z;cases z)
theorem vd.x{A:Ad}{H H':Hp}{x:Addr}{v:V}{l:Km382.Meal}(h:vd A H v l)(a:Apart H x)(s:ab x H H'):vd A H' v l:=by
 obtain⟨la,ldx,e,hl⟩:=h;obtain⟨C',dx',fs',h1,_,_,h2⟩:=a;refine⟨la,ldx,e,s _ _ (Fb hl h1 λz=>?_) hl⟩;injection z with _ _ z;exact h2 (by rw[<-z];rfl)
theorem Ng.x{A:Ad}{H H':Hp}{x:Addr}{v:V}{l:Km382.Lot}(h:Ng A H v l)(a:Apart H x)(s:ab x H H'):Ng A H' v l:=by
 obtain⟨la,ldx,e,hl⟩:=h;exact⟨la,ldx,e,s _ _ (a.ne hl (.inl rfl)) hl⟩
theorem ig.x{A:Ad}{H H':Hp}{x y:Addr}{v:V}{l:Km382.Step_}(h:ig A H y v l)(a:Apart H x)(s:ab x H H'):ig A H' y v l:=by
 obtain⟨la,ldx,af,e,hl,h2,h3⟩:=h;exact⟨la,ldx,af,e,s _ _ (a.ne hl (.inr rfl)) hl,s _ _ (a.US h2) h2,h3⟩
theorem RecAt.x{A:Ad}{H H':Hp}{x:Addr}{v:V}{r:Km382.Recipe}(h:RecAt A H v r)(a:Apart H x)(s:ab x H H'):RecAt A H' v r:=by
 obtain⟨ra,rdx,d,l,e,R⟩:=h;obtain⟨vs,h1,h2⟩:=R.st;exact⟨ra,rdx,d,l,e,s _ _ (a.ne R.ob (.inl rfl)) R.ob,s _ _ (a.HZ R.tk) R.tk,vs,s _ _ (a.US h1) h1,h2.mono λ_ _ z=>z.x a s⟩
theorem JM{A:Ad}{H:Hp}{a b dx bx:Addr}{o:wd}{q:Qa}(h:H a=some (.ins A.zc dx (ub o)))(e:H b=some (.ins A.Na bx (Ba q))):a≠b:=Fb h e (by
 intro z;injection z with _ _ z;have:=congrArg List.length z;exact absurd this (by show¬(5=8);decide))
section
variable{A:Ad}{H H1:Hp}{b dx lg ll lr lm:Addr}{gs ls rs ms:List V}{k:Km382.Kitchen}
theorem Td.apart(F:Td A H H1 b dx lg ll lr lm gs ls rs ms k):Apart H1 b:=by
 obtain⟨x,y,z,e,ob⟩:=F.st.ob;exact⟨_,_,_,ob,by show¬(8=3);decide,by show¬(8=4);decide,by show some ("hobs":Str)≠some "day";decide +kernel⟩
theorem Td.good(F:Td A H H1 b dx lg ll lr lm gs ls rs ms k)(sH:Aa H H1){g:Nat}{x:Km382.Good}{ga gdx:Addr}(hx:k.goods[g]?=some x)(hv:gs[g]?=some (.ref ga))(hga:H1 ga=some (.ins A.zc gdx (ub (Ny x))))(x':Km382.Good):Aa H (upd H1 ga (.ins A.zc gdx (ub (Ny x'))))/\Td A H (upd H1 ga (.ins A.zc gdx (ub (Ny x')))) b dx lg ll lr lm gs ls rs ms {k with goods:=k.goods.set g x'}:=by
 obtain⟨a0,e0,hf⟩:=F.gf _ (List.mem_of_getElem? hv);cases e0;have ap:Apart H1 ga:=⟨_,_,_,hga,by show¬(5=3);decide,by show¬(5=4);decide,by show some ("name":Str)≠some "day";decide +kernel⟩;have sx:ab ga H1 (upd H1 ga (.ins A.zc gdx (ub (Ny x')))):=bb;obtain⟨h0,o0,c0,e,ob⟩:=F.st.ob;have nb:b≠ga:=(JM hga ob).symm;refine⟨λc o hc=>sx _ _ (ka hc hf) (sH _ _ hc),⟨⟨⟨h0,o0,c0,e,sx _ _ nb ob⟩,sx _ _ (ap.US F.st.hg) F.st.hg,?_,sx _ _ (ap.US F.st.hl) F.st.hl,F.st.pl.mono λ_ _ z=>z.x ap sx,sx _ _ (ap.US F.st.hr) F.st.hr,F.st.pr.mono λ_ _ z=>z.imp λ_ z=>z.x ap sx,sx _ _ (ap.US F.st.hm) F.st.hm,F.st.pm.mono λ_ _ z=>z.imp λ_ z=>z.x ap sx⟩,F.fb,F.fg,F.fl,F.fr,F.fm,F.nd,F.gn,F.gf,F.VS⟩⟩;refine Mh (by rw[List.length_set];exact F.st.pg.length) λj v y hj hy=>?_;by_cases hjg:j=g
 ·subst hjg;have e1:v=.ref ga:=Option.some.inj (hj.symm.trans hv);have hlt:j<k.goods.length:=(List.getElem?_eq_some_iff.mp hx).1;have hy:(k.goods.set j x')[j]?=some y:=hy;rw[List.getElem?_set_self hlt] at hy;have e2:x'=y:=Option.some.inj hy;subst e1 e2;exact⟨ga,gdx,rfl,ia⟩
 ·have hy:(k.goods.set g x')[j]?=some y:=hy;rw[List.getElem?_set_ne (Ne.symm hjg)] at hy;obtain⟨v',hv',xa,xdx,e1,hxa⟩:=Bb F.st.pg hy;rw[hj] at hv';have e2:v=v':=Option.some.inj hv';subst e2 e1;refine⟨xa,xdx,rfl,sx _ _ (λz=>?_) hxa⟩;rw[z] at hj;exact hjg (FU F.gn hj hv)
theorem Td.store(F:Td A H H1 b dx lg ll lr lm gs ls rs ms k)(sH:Aa H H1){h o c:Nat}{l2:Addr}{ls2:List V}{k2:Km382.Kitchen}(ep:k2.places=[h,o,c])(eg:k2.goods=k.goods)(er:k2.recipes=k.recipes)(em:k2.meals=k.meals)(hl2:H1 l2=some (.lst ls2))(pl2:Paired (Ng A H1) ls2 k2.lots)(fl2:H l2=none)(nd2:[lg,l2,lr,lm].Nodup):Aa H (upd H1 b (.ins A.Na dx (Ba ⟨.int (h:Int),.int (o:Int),.int (c:Int),.int (k2.today:Int),.ref lg,.ref l2,.ref lr,.ref lm⟩)))/\Td A H (upd H1 b (.ins A.Na dx (Ba ⟨.int (h:Int),.int (o:Int),.int (c:Int),.int (k2.today:Int),.ref lg,.ref l2,.ref lr,.ref lm⟩))) b dx lg l2 lr lm gs ls2 rs ms k2:=by
 have ap:=F.apart;obtain⟨h0,o0,c0,e,ob⟩:=F.st.ob;have sx:ab b H1 (upd H1 b (.ins A.Na dx (Ba ⟨.int (h:Int),.int (o:Int),.int (c:Int),.int (k2.today:Int),.ref lg,.ref l2,.ref lr,.ref lm⟩))):=bb;refine⟨λc o hc=>sx _ _ (ka hc F.fb) (sH _ _ hc),⟨⟨⟨h,o,c,ep,ia⟩,sx _ _ (ap.US F.st.hg) F.st.hg,?_,sx _ _ (ap.US hl2) hl2,pl2.mono λ_ _ z=>z.x ap sx,sx _ _ (ap.US F.st.hr) F.st.hr,?_,sx _ _ (ap.US F.st.hm) F.st.hm,?_⟩,F.fb,F.fg,fl2,F.fr,F.fm,nd2,F.gn,F.gf,by rw[er];exact F.VS⟩⟩
 ·rw[eg];refine F.st.pg.mono λ_ _⟨ga,gdx,e,z⟩=>⟨ga,gdx,e,sx _ _ (JM z ob) z⟩
 ·rw[er];exact F.st.pr.mono λ_ _ z=>z.imp λ_ z=>z.x ap sx
 ·rw[em];exact F.st.pm.mono λ_ _ z=>z.imp λ_ z=>z.x ap sx
theorem Td.at(F:Td A H H1 b dx lg ll lr lm gs ls rs ms k):kc A H1 (.ref b) k:=⟨b,dx,lg,ll,lr,lm,gs,ls,rs,ms,rfl,F.st⟩
end
def Xq(K:PySem.W.Frag)(A:Ad):Sp:=λvs H Q _=>∃(h o c:Nat),vs=[.int (h:Int),.int (o:Int),.int (c:Int)]/\Q (.bl (Km382.okPlaces h o c)) H
theorem qi(T:Txt K mg A):Ua P w K mg base nc 1 A.Oi A.Li ["hobs","ovens","hands"] (Xq K A):=by
 refine T.fe.F.Uc ["hobs","ovens","hands"] (by decide +kernel) λvs H Q E h nd=>?_;obtain⟨h,o,c,rfl,k⟩:=h;have e:Km382.okPlaces h o c=(decide (h<=6)&&(decide (o<=4)&&(decide (1<=c)&&decide (c<=6)))):=rfl;refine⟨rfl,λ_ _ _ _ hr=>?_⟩;refine⟨_,(ja (oa (Vk (qe oe (pv 0) (Ka rfl T.bH) (Ea _)) (Vk (qe oe (pv 1) (Ka rfl T.tE) (Ea _)) (Mq (Uj oe oe va (pv 2) (Ka rfl T.sE))))))),?_⟩;dsimp only[Cc];dsimp!;refine Lb (λh1=>Lb (λh2=>Lb (λh3=>?_) λh3=>?_) λh2=>?_) λh1=>?_
 ·rw[e,decide_eq_true (p:=h<=6) (by lia),decide_eq_true (p:=o<=4) (by lia),decide_eq_true (p:=1<=c) (by lia)] at k;have e2:decide ((c:Int)<=6)=decide (c<=6):=decide_eq_decide.mpr (by lia);rw[e2];exact k
 ·rw[e,decide_eq_true (p:=h<=6) (by lia),decide_eq_true (p:=o<=4) (by lia),decide_eq_false (p:=1<=c) (by lia)] at k;exact k
 ·rw[e,decide_eq_true (p:=h<=6) (by lia),decide_eq_false (p:=o<=4) (by lia)] at k;exact k
 ·rw[e,decide_eq_false (p:=h<=6) (by lia)] at k;exact k
def VI(K:PySem.W.Frag)(A:Ad):Sp:=λvs H Q _=>∃(h o c:Nat),vs=[.int (h:Int),.int (o:Int),.int (c:Int)]/\uc A H (if Km382.okPlaces h o c=false then(none,Km382.only (-22)) else(some (Km382.opened h o c),Km382.only 0)) Q
theorem KH(T:Txt K mg A):Ua P w K mg base nc 3 A.By A.Zx ["hobs","ovens","hands"] (VI K A):=by
 refine T.tq.F.Uc ["hobs","ovens","hands"] (by decide +kernel) λvs H Q E h nd=>?_;obtain⟨h,o,c,rfl,k⟩:=h;refine⟨rfl,λ_ _ _ _ hr=>?_⟩;refine⟨_,(ba (Ma (Hb (Ob (pC (qi T:) hr T.fe (aa (pv 0) (aa (pv 1) (aa (pv 2) da)))))) (ja (oa (pC (Ja T:) hr T.La (aa (Ka rfl T.pb) da)))) za)
    (ja (oa (pC (gc T:) hr T.jc (aa (pM (Rp T:) hr T.mz T.VE T.ik (aa (pv 0) (aa (pv 1) (aa (pv 2) da)))) (aa (Wa (aa va da)) da)))))),?_⟩
 dsimp only[Cc];dsimp!;refine⟨h,o,c,rfl,_,rfl,Lb (λh1=>?_) λh1=>?_⟩
 ·exact gb k (if_pos h1) (Aa.refl _)
 ·intro b bx hb hbx hne;refine⟨b,bx,_,_,_,rfl,ia,λH1 g1 l1 r1 m1 hob1 hg1 hl1 hr1 hm1 fg1 fl1 fr1 fm1 nd1 s1=>⟨rfl,by decide,λp hp=>?_⟩⟩;have sH1:Aa H H1:=Aa.made hb hbx λx o e hx=>s1 x o hx e;have s2:Aa H1 (upd H1 p (.lst [V.int 0])):=qa hp;have st:St A H1 b bx g1 l1 r1 m1 [] [] (List.replicate 8 .Vb) (List.replicate 12 .Vb) (Km382.opened h o c):=
   ⟨⟨h,o,c,rfl,hob1⟩,hg1,.nil,hl1,.nil,hr1,Mh rfl (λj x y hx hy=>?_),hm1,Mh rfl (λj x y hx hy=>?_)⟩
  ·exact ke k (if_neg h1) (sH1.trans s2) ⟨b,bx,g1,l1,r1,m1,_,_,_,_,rfl,st.mono s2⟩ ia rfl
  ·have e1:=List.eq_of_mem_replicate (List.mem_of_getElem? hx);have e2:=List.eq_of_mem_replicate (List.mem_of_getElem? hy);subst e1 e2;rfl
  ·have e1:=List.eq_of_mem_replicate (List.mem_of_getElem? hx);have e2:=List.eq_of_mem_replicate (List.mem_of_getElem? hy);subst e1 e2;rfl
def RI(K:PySem.W.Frag)(A:Ad):Sp:=λvs H Q _=>∃(v:V)(k:Km382.Kitchen)(h o c:Nat),vs=[v,.int (h:Int),.int (o:Int),.int (c:Int)]/\kc A H v k/\KT.qc k/\uc A H (KT.fc k (.equip h o c)) Q
theorem HH(T:Txt K mg A):Ua P w K mg base nc 5 A.yy A.Wx ["state","hobs","ovens","hands"] (RI K A):=by
 refine T.oq.F.Uc ["state","hobs","ovens","hands","new"] (by decide +kernel) λvs H Q E h nd=>?_;obtain⟨v,kt,h,o,c,rfl,hv,hI,k⟩:=h;refine⟨rfl,λ_ _ _ _ hr=>?_⟩;refine⟨_,(ba (Ma (Hb (Ob (pC (qi T:) hr T.fe (aa (pv 1) (aa (pv 2) (aa (pv 3) da)))))) (ja (oa (pC (Ja T:) hr T.La (aa (Ka rfl T.pb) da)))) za)
  (ba (Pa (i:=4) nd rfl (Or.inl rfl) (pC (Qd T:) hr T.Gd (aa (pv 0) da)))
  (ba (Ih (fs:=Ba) (put:=λv o=>{o with YQ:=v}) T.Ab T.Nk kd rF (pv 4) (pv 1) rfl)
  (ba (Ih (fs:=Ba) (put:=λv o=>{o with TH:=v}) T.Ab T.uj kd gB (pv 4) (pv 2) rfl)
  (ba (Ih (fs:=Ba) (put:=λv o=>{o with gH:=v}) T.Ab T.sj kd eB (pv 4) (pv 3) rfl)
  (ja (oa (pC (gc T:) hr T.jc (aa (pv 4) (aa (Wa (aa va da)) da)))))))))),?_⟩
 dsimp only[Cc];dsimp!;refine⟨h,o,c,rfl,_,rfl,Lb (λh1=>?_) λh1=>?_⟩
 ·exact gb k (if_pos h1) (Aa.refl _)
 refine⟨v,kt,rfl,hv,hI,λH1 b dx lg ll lr lm gs ls rs ms s1 F=>?_⟩;obtain⟨h0,o0,c0,e,ob⟩:=F.st.ob;dsimp!;refine⟨dx,_,ob,dx,_,ia,dx,_,ia,by decide,λp hp=>?_⟩;rw[GN,GN] at hp⊢;obtain⟨s2,F2⟩:=F.store s1 (h:=h) (o:=o) (c:=c) (k2:={kt with places:=[h,o,c]}) rfl rfl rfl rfl F.st.hl F.st.pl F.fl F.nd;have s3:=qa (o:=.lst [V.int 0]) hp;exact ke k (if_neg h1) (s2.trans s3) (F2.at.mono s3) ia rfl
def tP(K:PySem.W.Frag)(A:Ad):Sp:=λvs H Q _=>∃(v:V)(k:Km382.Kitchen),vs=[v]/\kc A H v k/\KT.qc k/\uc A H (KT.fc k .day) Q
theorem KO(T:Txt K mg A):Ua P w K mg base nc 5 A.OG A.FG ["state"] (tP K A):=by
 refine T.Gx.F.Uc ["state","new"] (by decide +kernel) λvs H Q E h nd=>?_;obtain⟨v,kt,rfl,hv,hI,k⟩:=h;have hv0:=hv;obtain⟨a,adx,lg0,ll0,lr0,lm0,gs0,ls0,rs0,ms0,rfl,s⟩:=hv;obtain⟨h0,o0,c0,e,ob0⟩:=s.ob;have ht:=hI.today;refine⟨rfl,λ_ _ _ _ hr=>?_⟩;refine⟨_,(ba (Ma (Ca Rb (pF (Nb T) (pv 0)) (Ka rfl T.Dq) (Ea _)) (ja (oa (pC (Ja T:) hr T.La (aa (Ka rfl T.Mj) da)))) za)
   (ba (Pa (i:=1) nd rfl (Or.inl rfl) (pC (Qd T:) hr T.Gd (aa (pv 0) da)))
   (ba (Ih (fs:=Ba) (put:=λv o=>{o with today:=v}) T.Ab T.Hg kd Vp (pv 1) (Sb yg (pF (Nb T) (pv 0)) va) rfl)
   (ja (oa (pC (gc T:) hr T.jc (aa (pv 1) (aa (Wa (aa (pF (Nb T) (pv 1)) da)) da)))))))),?_⟩
 dsimp only[Cc];dsimp!;refine⟨adx,_,ob0,rfl,Lb (λh1=>?_) λh1=>?_⟩
 ·have h1:kt.today=10000:=by have:=V.int.inj h1;lia
  exact gb k (if_pos (by unfold Km382.DAYS;lia)) (Aa.refl _)
 have h1:¬kt.today=10000:=λz=>h1 (by rw[z];rfl);refine⟨_,kt,rfl,hv0,hI,λH1 b dx lg ll lr lm gs ls rs ms s1 F=>?_⟩;obtain⟨h2,o2,c2,e2,ob⟩:=F.st.ob;dsimp!;refine⟨adx,_,s1 _ _ ob0,_,rfl,dx,_,ob,dx,_,ia,by decide,λp hp=>?_⟩;obtain⟨s2,F2⟩:=F.store s1 (h:=h2) (o:=o2) (c:=c2) (k2:={kt with today:=kt.today+1}) e2 rfl rfl rfl F.st.hl F.st.pl F.fl F.nd;have s3:=qa (o:=.lst [V.int ((kt.today:Int)+1)]) hp;exact ke k (if_neg (by unfold Km382.DAYS;lia)) (s2.trans s3) (F2.at.mono s3) ia rfl
def xB(K:PySem.W.Frag)(A:Ad):Sp:=λvs H Q _=>∃(v:V)(k:Km382.Kitchen)(y:Nat),vs=[v,.int (y:Int)]/\kc A H v k/\Q (.bl (decide (k.today<=y/\y<=10000))) H
theorem vf(T:Txt K mg A):Ua P w K mg base nc 1 A.Kr A.Cr ["state","day"] (xB K A):=by
 refine T.Pd.F.Uc ["state","day"] (by decide +kernel) λvs H Q E h nd=>?_;obtain⟨v,kt,y,rfl,hv,k⟩:=h;obtain⟨a,dx,lg,ll,lr,lm,gs,ls,rs,ms,rfl,s⟩:=hv;obtain⟨h0,o0,c0,_,ob⟩:=s.ob;refine⟨rfl,λ_ _ _ _ hr=>?_⟩;refine⟨_,(ja (oa (Uj oe oe (pF (Nb T) (pv 0)) (pv 1) (Ka rfl T.Dq)))),?_⟩;dsimp only[Cc];dsimp!;refine⟨dx,_,ob,_,rfl,Lb (λh=>?_) λh=>?_⟩
 ·have e:decide (kt.today<=y/\y<=10000)=decide ((y:Int)<=10000):=decide_eq_decide.mpr (by lia);rw[<-e];exact k
 ·rw[decide_eq_false (by lia)] at k;exact k
def qu(K:PySem.W.Frag)(A:Ad):Sp:=λvs H Q _=>∃(p:Nat),vs=[.int (p:Int)]/\Q (.bl (decide (1<=p/\p<=99))) H
theorem xg(T:Txt K mg A):Ua P w K mg base nc 1 A.El A.Al ["people"] (qu K A):=by
 refine T.Ud.F.Uc ["people"] (by decide +kernel) λvs H Q E h nd=>?_;obtain⟨p,rfl,k⟩:=h;refine⟨rfl,λ_ _ _ _ hr=>?_⟩;refine⟨_,(ja (oa (Uj oe oe va (pv 0) (Ka rfl T.Dp)))),?_⟩;dsimp only[Cc];dsimp!;refine Lb (λh=>?_) λh=>?_
 ·have e:decide (1<=p/\p<=99)=decide ((p:Int)<=99):=decide_eq_decide.mpr (by lia);rw[<-e];exact k
 ·rw[decide_eq_false (by lia)] at k;exact k
theorem Td.mono{A:Ad}{H H1 H2:Hp}{b dx lg ll lr lm:Addr}{gs ls rs ms:List V}{k:Km382.Kitchen}(F:Td A H H1 b dx lg ll lr lm gs ls rs ms k)(s:Aa H1 H2):Td A H H2 b dx lg ll lr lm gs ls rs ms k:=
 ⟨F.st.mono s,F.fb,F.fg,F.fl,F.fr,F.fm,F.nd,F.gn,F.gf,F.VS⟩
def UI(K:PySem.W.Frag)(A:Ad):Sp:=λvs H Q _=>∃(v:V)(k:Km382.Kitchen)(g c:Nat),vs=[v,.int (g:Int),.int (c:Int)]/\kc A H v k/\KT.qc k/\uc A H (KT.fc k (.price g c)) Q
theorem JH(T:Txt K mg A):Ua P w K mg base nc 5 A.Ay A.Yx ["state","good","cents"] (UI K A):=by
 refine T.rq.F.Uc ["state","good","cents","new"] (by decide +kernel) λvs H Q E h nd=>?_;obtain⟨v,kt,g,c,rfl,hv,hI,k⟩:=h;refine⟨rfl,λ_ _ _ _ hr=>?_⟩;refine⟨_,(ba (Ma (Hb (Ob (pC (Zg T:) hr T.Ff (aa (pv 0) (aa (pv 1) da))))) (ja (oa (pC (Ja T:) hr T.La (aa (Ka rfl T.Gb) da)))) za)
   (ba (Ma (Ca An (pv 2) (Ka rfl T.rE) (Ea _)) (ja (oa (pC (Ja T:) hr T.La (aa (Ka rfl T.pb) da)))) za)
   (ba (Pa (i:=3) nd rfl (Or.inl rfl) (pC (Qd T:) hr T.Gd (aa (pv 0) da)))
   (ba (Ih (fs:=ub) (put:=λv o=>{o with price:=v}) T.je T.Lk Yr qF (vc K (pF (cb T) (pv 3)) (pv 1)) (pv 2) rfl)
   (ja (oa (pC (gc T:) hr T.jc (aa (pv 3) (aa (Wa (aa va da)) da))))))))),?_⟩
 dsimp only[Cc];dsimp!;refine⟨v,kt,g,rfl,hv,_,rfl,Lb (λh=>?_) λh=>?_⟩
 ·have h:=of_decide_eq_false h;exact gb k (if_pos (by lia)) (Aa.refl _)
 have h:g<kt.goods.length:=by simpa using h
 refine Lb (λh2=>?_) λh2=>?_
 ·exact gb k ((if_neg (by lia)).trans (if_pos (by lia))) (Aa.refl _)
 refine⟨v,kt,rfl,hv,hI,λH1 b dx lg ll lr lm gs ls rs ms s1 F=>?_⟩;obtain⟨h0,o0,c0,e,ob⟩:=F.st.ob;obtain⟨x,hx⟩:∃x,kt.goods[g]?=some x:=⟨_,List.getElem?_eq_getElem h⟩;obtain⟨xv,hxv,xa,xdx,rfl,hxa⟩:=Bb F.st.pg hx;dsimp!;refine⟨dx,_,ob,lg,rfl,gs,Ha.of F.st.hg,_,wa hxv,xa,rfl,xdx,_,hxa,by decide,λp hp=>?_⟩;obtain⟨s2,F2⟩:=F.good s1 hx hxv hxa {x with price:=c};have s3:=qa (o:=.lst [V.int 0]) hp;refine ke k ((if_neg (by lia)).trans (if_neg (by lia))) (s2.trans s3) ?_ ia rfl;have e:kt.setGood g (λx=>{x with price:=c})=kt.goods.set g {x with price:=c}:=by
  unfold Km382.Kitchen.setGood;rw[hx]
 rw[e];exact F2.at.mono s3
def sP(K:PySem.W.Frag)(A:Ad):Sp:=λvs H Q _=>∃(v:V)(k:Km382.Kitchen)(g u l:Nat),vs=[v,.int (g:Int),.int (u:Int),.int (l:Int)]/\kc A H v k/\KT.qc k/\uc A H (KT.fc k (.buy g u l)) Q
theorem JO(T:Txt K mg A):Ua P w K mg base nc 5 A.NG A.EG ["state","good","units","last"] (sP K A):=by
 refine T.Fx.F.Uc ["state","good","units","last","new"] (by decide +kernel) λvs H Q E h nd=>?_;obtain⟨v,kt,g,u,l,rfl,hv,hI,k⟩:=h;have hv0:=hv;obtain⟨a,adx,lg0,ll0,lr0,lm0,gs0,ls0,rs0,ms0,rfl,s⟩:=hv;obtain⟨h0,o0,c0,e,ob0⟩:=s.ob;have hll:=s.pl.length;refine⟨rfl,λ_ _ _ _ hr=>?_⟩;refine⟨_,(ba (Ma (Hb (Ob (pC (Zg T:) hr T.Ff (aa (pv 0) (aa (pv 1) da))))) (ja (oa (pC (Ja T:) hr T.La (aa (Ka rfl T.Gb) da)))) za)
    (ba (Ma (PW.pt (dg (Ca Kl (pv 2) va (Ea _)) (dg (Ca An (pv 2) (Ka rfl T.zE) (Ea _)) (Zf (Hb (Ob (pC (vf T:) hr T.Pd (aa (pv 0) (aa (pv 3) da))))))))) (ja (oa (pC (Ja T:) hr T.La (aa (Ka rfl T.pb) da)))) za)
    (ba (Ma (Ca Rb (Oa (Ga (K:=K) rfl) rfl T.Zb Eb (aa (pF (Qb T) (pv 0)) da)) (Ka rfl T.cH) (Ea _)) (ja (oa (pC (Ja T:) hr T.La (aa (Ka rfl T.Mj) da)))) za)
    (ba (Ma (Ca An (Sb yg (pF (yj T) (vc K (pF (cb T) (pv 0)) (pv 1))) (pv 2)) (Ka rfl T.IA) (Ea _)) (ja (oa (pC (Ja T:) hr T.La (aa (Ka rfl T.WJ) da)))) za)
    (ba (Pa (i:=4) nd rfl (Or.inl rfl) (pC (Qd T:) hr T.Gd (aa (pv 0) da)))
    (ba (TR (fs:=ub) (get:=wd.bought) (put:=λv o=>{o with bought:=v}) T.je T.pj Fp Yr aB (vc K (pF (cb T) (pv 4)) (pv 1)) (pv 2))
    (ba (Ih (fs:=Ba) (put:=λv o=>{o with lots:=v}) T.Ab T.bf kd Hh (pv 4) (pC (gF T:) hr T.um (aa (pF (Qb T) (pv 0)) (aa (pM (Nv T:) hr T.wK T.wR T.iq (aa (pv 1) (aa (pv 2) (aa (pv 3) da)))) da))) rfl)
    (ja (oa (pC (gc T:) hr T.jc (aa (pv 4) (aa (Wa (aa (pC (Jl T:) hr T.Pf (aa (pv 4) (aa (pv 1) da))) da)) da)))))))))))),?_⟩
 dsimp only[Cc];dsimp!;refine⟨_,kt,g,rfl,hv0,_,rfl,Lb (λh=>?_) λh=>?_⟩
 ·have h:=of_decide_eq_false h;exact gb k (if_pos (by lia)) (Aa.refl _)
 have h:g<kt.goods.length:=by simpa using h
 have kg:∀{x y:Option Km382.Kitchen×Km382.Ans},(if kt.goods.length<=g then x else y)=y:=if_neg (by lia);have n22:(u=0\/1000000<u\/l<kt.today\/10000<l)->Ai K A [V.int (-22)] H Q E0:=λz=>gb k (kg.trans (if_pos z)) (Aa.refl _);refine Lb (λh1=>n22 (by lia)) λh1=>Lb (λh2=>n22 (by lia)) λh2=>⟨_,kt,l,rfl,hv0,_,rfl,Lb (λh3=>n22 (by have:=of_decide_eq_false h3;lia)) λh3=>?_⟩;have h3:kt.today<=l/\l<=10000:=by simpa using h3
 have kn:∀{x y:Option Km382.Kitchen×Km382.Ans},(if u=0\/1000000<u\/l<kt.today\/Km382.DAYS<l then x else y)=y:=if_neg (by unfold Km382.DAYS;lia);have h32:=hI.As;refine⟨adx,_,ob0,ll0,rfl,ls0,.inl (Ha.of s.hl),?_⟩;rw[hll];refine Lb (λh5=>gb k (kg.trans (kn.trans (if_pos (by unfold Km382.LOTS;lia)))) (Aa.refl _)) λh5=>?_;have kl:∀{x y:Option Km382.Kitchen×Km382.Ans},(if Km382.LOTS<=kt.lots.length then x else y)=y:=if_neg (by unfold Km382.LOTS;lia);obtain⟨x,hx⟩:∃x,kt.goods[g]?=some x:=⟨_,List.getElem?_eq_getElem h⟩;obtain⟨yv,hyv,ya,ydx,rfl,hya⟩:=Bb s.pg hx;have hbo:kt.boughtOf g=x.bought:=by unfold Km382.Kitchen.boughtOf;rw[hx]
 refine⟨adx,_,ob0,lg0,rfl,gs0,Ha.of s.hg,_,wa hyv,ya,rfl,ydx,_,hya,_,rfl,Lb (λh6=>?_) λh6=>?_⟩
 ·exact gb k (kg.trans (kn.trans (kl.trans (if_pos (by rw[hbo];lia))))) (Aa.refl _)
 have kb:∀{x y:Option Km382.Kitchen×Km382.Ans},(if 100000000<kt.boughtOf g+u then x else y)=y:=if_neg (by rw[hbo];lia);refine⟨_,kt,rfl,hv0,hI,λH1 b dx lg ll lr lm gs ls rs ms s1 F=>?_⟩;obtain⟨h2',o2,c2,e2,ob⟩:=F.st.ob;obtain⟨xv,hxv,xa,xdx,rfl,hxa⟩:=Bb F.st.pg hx;dsimp!;refine⟨dx,_,ob,lg,rfl,gs,Ha.of F.st.hg,_,wa hxv,xa,rfl,xdx,_,hxa,_,rfl,hxa,?_⟩;obtain⟨s2,F2⟩:=F.good s1 hx hxv hxa {x with bought:=x.bought+u};have hH2:upd H1 xa (.ins A.zc xdx (ub ⟨.str (S x.name),.int (x.price:Int),.int ((x.bought:Int)+(u:Int)),.int (x.used:Int),.int (x.thrown:Int)⟩))=upd H1 xa (.ins A.zc xdx (ub (Ny {x with bought:=x.bought+u}))):=rfl;rw[hH2];generalize upd H1 xa (.ins A.zc xdx (ub (Ny {x with bought:=x.bought+u})))=H2 at s2 F2⊢;refine⟨adx,_,s2 _ _ ob0,λn nx hn hnx hne=>?_⟩;refine⟨n,nx,_,_,_,rfl,ia,λH3 hob3 h3x=>⟨rfl,?_⟩⟩;have s23:Aa H2 H3:=Aa.made hn hnx λy o e hy=>h3x y o hy e;have s3:=s2.trans s23;refine⟨ll0,ls0,kt.lots,_,⟨g,u,l⟩,rfl,s3 _ _ s.hl,s.pl.mono λ_ _ z=>z.mono s3,⟨n,nx,rfl,hob3⟩,h32,λD H4 us hD hD4 hP4 s34=>?_⟩;have s4:=s3.trans s34;have F3:=F2.mono s23;have F4:=F3.mono s34;obtain⟨h5',o5,c5,e5,ob5⟩:=F4.st.ob;have e5':kt.places=[h5',o5,c5]:=e5;refine⟨dx,_,ob5,?_⟩;have nd4:[lg,D,lr,lm].Nodup:=by
  have:=F4.nd;have d1:lg≠D:=ka F3.st.hg hD;have d2:lr≠D:=ka F3.st.hr hD;have d3:lm≠D:=ka F3.st.hm hD;simp only[List.nodup_cons,List.mem_cons,List.not_mem_nil,or_false,not_or] at this⊢;exact⟨⟨d1,this.1.2.1,this.1.2.2⟩,⟨Ne.symm d2,Ne.symm d3⟩,this.2.2.1,this.2.2.2⟩
 obtain⟨s5,F5⟩:=F4.store s4 (k2:={kt with goods:=kt.goods.set g {x with bought:=x.bought+u},lots:=Km382.putLot ⟨g,u,l⟩ kt.lots}) e5' rfl rfl rfl hD4 (by
  show Paired (Ng A H4) us (Km382.putLot ⟨g,u,l⟩ kt.lots);rw[KT.Yp hI.sorted];have:=hP4;rw[List.append_assoc] at this;exact this) (s3.free hD) nd4
 have hl33:(Km382.putLot ⟨g,u,l⟩ kt.lots).length<=32:=by rw[KT.Nq];lia
 refine⟨_,_,g,rfl,F5.at,hl33,λH6 s6=>⟨by decide,λp hp=>?_⟩⟩;have s7:=qa (o:=.lst [V.int (((({kt with goods:=kt.goods.set g {x with bought:=x.bought+u},lots:=Km382.putLot ⟨g,u,l⟩ kt.lots}:Km382.Kitchen).has g kt.today:Nat)):Int)]) hp;refine ke k (kg.trans (kn.trans (kl.trans kb))) ((s5.trans s6).trans s7) ?_ ia ?_
 ·have e:kt.setGood g (λx=>{x with bought:=x.bought+u})=kt.goods.set g {x with bought:=x.bought+u}:=by
   unfold Km382.Kitchen.setGood;rw[hx]
  rw[e];exact(F5.at.mono s6).mono s7
 ·have e:({kt with goods:=kt.goods.set g {x with bought:=x.bought+u},lots:=Km382.putLot ⟨g,u,l⟩ kt.lots}:Km382.Kitchen).has g kt.today=kt.has g kt.today+u:=by
   rw[KT.BE,KT.BE];show KT.Ow (KT.oj g kt.today) (Km382.putLot ⟨g,u,l⟩ kt.lots)=_;rw[KT.eJ,if_pos (by unfold KT.oj;rw[decide_eq_true_eq];exact⟨rfl,by show kt.today<=l;lia⟩)]
  rw[e];rfl
theorem BG(xs:List V)(n:Nat):iw xs none (some (n:Int))=xs.take n:=by
 unfold iw HT.rG;simp only[show¬((n:Int)<0) by lia,if_false,Int.toNat_natCast,List.drop_zero,Nat.sub_zero];by_cases h:n<=xs.length
 ·rw[Nat.min_eq_left h]
 ·rw[Nat.min_eq_right (by lia),List.take_of_length_le (Nat.le_refl _),List.take_of_length_le (by lia)]
theorem MM(l:List Nat)(n:Nat):(iL l).take n=iL (l.take n):=by unfold iL;rw[List.map_take]
theorem Td.push{A:Ad}{H H1:Hp}{b dx lg ll lr lm:Addr}{gs ls rs ms:List V}{k:Km382.Kitchen}(F:Td A H H1 b dx lg ll lr lm gs ls rs ms k)(sH:Aa H H1){x xd:Addr}{g:Km382.Good}(hx:H1 x=some (.ins A.zc xd (ub (Ny g)))):Aa H (upd H1 lg (.lst (gs++[.ref x])))/\kc A (upd H1 lg (.lst (gs++[.ref x]))) (.ref b) {k with goods:=k.goods++[g]}:=by
 have sx:ab lg H1 (upd H1 lg (.lst (gs++[.ref x]))):=bb;have sA:Aa H (upd H1 lg (.lst (gs++[.ref x]))):=λc o hc=>sx _ _ (ka hc F.fg) (sH _ _ hc);obtain⟨h0,o0,c0,e,ob⟩:=F.st.ob;have nd:=F.nd;simp only[List.nodup_cons,List.mem_cons,List.not_mem_nil,or_false,not_or] at nd;have ni:∀{y C yd:Addr}{fs:List (Str×V)},H1 y=some (.ins C yd fs)->y≠lg:=λz=>Fb z F.st.hg (by intro q;cases q);refine⟨sA,b,dx,lg,ll,lr,lm,gs++[.ref x],ls,rs,ms,rfl,⟨⟨h0,o0,c0,e,sx _ _ (ni ob) ob⟩,ia,?_,sx _ _ (Ne.symm nd.1.1) F.st.hl,?_,sx _ _ (Ne.symm nd.1.2.1) F.st.hr,?_,sx _ _ (Ne.symm nd.1.2.2) F.st.hm,F.st.pm.mono λ_ _ z=>z.imp λ_⟨ga,gdx,e,z⟩=>⟨ga,gdx,e,sx _ _ (ni z) z⟩⟩⟩
 ·exact Paired.snoc (F.st.pg.mono λ_ _⟨ga,gdx,e,z⟩=>⟨ga,gdx,e,sx _ _ (ni z) z⟩) ⟨x,xd,rfl,sx _ _ (ni hx) hx⟩
 ·exact F.st.pl.mono λ_ _⟨ga,gdx,e,z⟩=>⟨ga,gdx,e,sx _ _ (ni z) z⟩
 ·exact F.VS.mono λ_ _ z=>z.imp λ_ z=>z.mono sA
def JL(K:PySem.W.Frag)(A:Ad):Sp:=λvs H Q _=>∃(v:V)(k:Km382.Kitchen)(n:Nat)(p:Addr)(w:List Nat),vs=[v,.int (n:Int),.ref p]/\kc A H v k/\KT.qc k/\Ha K H p (iL w)/\w.length<=1000/\uc A H (KT.fc k (.good w n)) Q
theorem EK(T:Txt K mg A):Ua P w K mg base nc 5 A.xC A.VB ["state","n","name"] (JL K A):=by
 refine T.yt.F.Uc ["state","n","name","word","new"] (by decide +kernel) λvs H Q E h nd=>?_;obtain⟨v,kt,n,p,w',rfl,hv,hI,hp,hw,k⟩:=h;have hv0:=hv;obtain⟨a,adx,lg0,ll0,lr0,lm0,gs0,ls0,rs0,ms0,rfl,s⟩:=hv;obtain⟨h0,o0,c0,e,ob0⟩:=s.ob;have hgl:=s.pg.length;have h16:=hI.Tr;refine⟨rfl,λ_ _ _ _ hr=>?_⟩;refine⟨_,(ba (Ma (Ca An (pv 1) (Ka rfl T.Xm) (Ea _)) (ja (oa (pC (Ja T:) hr T.La (aa (Ka rfl T.pb) da)))) za)
   (ba (Pa (i:=3) nd rfl (Or.inl rfl) (pC (Fz T:) hr T.Zn (aa (Xf (pU K) (pv 2) Vi (Kg (pv 1))) da)))
   (ba (Ma (Hb (Ob (pC (Az T:) hr T.Xn (aa (pv 3) da)))) (ja (oa (pC (Ja T:) hr T.La (aa (Ka rfl T.pb) da)))) za)
   (ba (Ma (Ca (Qk (K:=K) rfl) (pv 3) (pC (Sf T:) hr T.Hd (aa (pv 0) da)) (by rfl)) (ja (oa (pC (Ja T:) hr T.La (aa (Ka rfl T.Pr) da)))) za)
   (ba (Ma (Ca Rb (Oa (Ga (K:=K) rfl) rfl T.Zb Eb (aa (pF (cb T) (pv 0)) da)) (Ka rfl T.Qr) (Ea _)) (ja (oa (pC (Ja T:) hr T.La (aa (Ka rfl T.Mj) da)))) za)
   (ba (Pa (i:=4) nd rfl (Or.inl rfl) (pC (Qd T:) hr T.Gd (aa (pv 0) da)))
   (ba (df (Wf (K:=K) rfl PySem.F.plainAttrs_list PySem.F.slot_list_append PySem.F.type_list_append Ze (pF (cb T) (pv 4)) (aa (pM (Js T:) hr T.XE T.rK T.km (aa (pv 3) (aa va (aa va (aa va (aa va da)))))) da)))
   (ja (oa (pC (gc T:) hr T.jc (aa (pv 4) (aa (Wa (aa (Oa (Ga (K:=K) rfl) rfl T.Zb Eb (aa (pF (cb T) (pv 0)) da)) da)) da)))))))))))),?_⟩
 dsimp only[Cc];dsimp![Jf];refine Lb (λh1=>gb k (if_pos (.inr (by unfold Km382.NAME;lia))) (Aa.refl _)) λh1=>?_;refine⟨_,hp,λq hq=>?_⟩;rw[BG,MM];have s1:Aa H (upd H q (.lst (iL (w'.take n)))):=qa hq;generalize hH1:upd H q (.lst (iL (w'.take n)))=H1 at s1⊢;have hq1:H1 q=some (.lst (iL (w'.take n))):=by rw[<-hH1,ia]
 have htl:(w'.take n).length<=1000:=by rw[List.length_take];lia
 refine⟨q,w'.take n,rfl,Ha.of hq1,htl,λH2 s2=>?_⟩;refine⟨KT.sg (w'.take n),rfl,by rw[KT.lu];exact htl,λH3 s3=>⟨_,rfl,?_⟩⟩;rw[KT.TC];have s13:=(s1.trans s2).trans s3;refine Lb (λh2=>gb k (if_pos (.inl h2)) s13) λh2=>?_;have hname:Km382.isName (w'.take n)=true:=by simpa using h2
 have esg:KT.sg (w'.take n)=w'.take n:=KT.wL (KT.Ik hname);rw[esg];have k1:∀{x y:Option Km382.Kitchen×Km382.Ans},(if Km382.isName (w'.take n)=false\/Km382.NAME<n then x else y)=y:=if_neg (by
  rintro(z|z)
  ·rw[hname] at z;cases z
  ·unfold Km382.NAME at z;lia)
 refine⟨_,kt,rfl,hv0.mono s13,hI,λD H4 hD hD4 s4=>?_⟩;have s14:=s13.trans s4;refine⟨D,_,rfl,.inl (Ha.of hD4),rfl,Ko _,_,rfl,?_⟩;rw[Ry];refine Lb (λh3=>gb k (k1.trans (if_pos h3)) s14) λh3=>?_;have k2:∀{x y:Option Km382.Kitchen×Km382.Ans},(if kt.names.contains (w'.take n)=true then x else y)=y:=if_neg h3;refine⟨adx,_,s14 _ _ ob0,lg0,rfl,gs0,.inl (Ha.of (s14 _ _ s.hg)),?_⟩;rw[hgl];refine Lb (λh4=>gb k (k1.trans (k2.trans (if_pos (by unfold Km382.GOODS;lia)))) s14) λh4=>?_;have k3:∀{x y:Option Km382.Kitchen×Km382.Ans},(if Km382.GOODS<=kt.goods.length then x else y)=y:=if_neg (by unfold Km382.GOODS;lia);refine⟨_,kt,rfl,hv0.mono s14,hI,λH5 b dx lg ll lr lm gs ls rs ms s5 F=>?_⟩;obtain⟨h5,o5,c5,e5,ob5⟩:=F.st.ob;have hgl5:=F.st.pg.length;have hzl:=ak;refine⟨b,rfl,dx,_,ob5,.inl ⟨rfl,_,Ha.of F.st.hg⟩,λx xd hx hxd hne=>⟨x,xd,_,_,_,_,_,rfl,ia,λH6 hob6 h6x=>⟨rfl,?_⟩⟩⟩;have s56:Aa H5 H6:=Aa.made hx hxd λy o e hy=>h6x y o hy e;have F6:=F.mono s56;obtain⟨s7,st7⟩:=F6.push (s5.trans s56) (x:=x) (xd:=xd) (g:=⟨w'.take n,0,0,0,0⟩) hob6;refine⟨lg,gs,_,rfl,rfl,F6.st.hg,by lia,?_⟩;refine⟨adx,_,s7 _ _ (s14 _ _ ob0),lg0,rfl,gs0,.inl (Ha.of (s7 _ _ (s14 _ _ s.hg))),by decide,λp hp=>?_⟩;have s8:=qa (o:=.lst [V.int (gs0.length:Int)]) hp;exact ke k (k1.trans (k2.trans k3)) (s14.trans (s7.trans s8)) (st7.mono s8) ia (by rw[hgl];rfl)
def FP(l:List Km382.Good)(x:Km382.Lot):List Km382.Good:=match l[x.good]? with
 |none=>l
 |some g=>l.set x.good {g with thrown:=g.thrown+x.units}
theorem IS{l:List Km382.Good}{x:Km382.Lot}{g:Km382.Good}(h:l[x.good]?=some g):FP l x=l.set x.good {g with thrown:=g.thrown+x.units}:=by
 unfold FP;rw[h]
theorem xU(l:List Km382.Good)(x:Km382.Lot):(FP l x).length=l.length:=by
 unfold FP;split
 ·rfl
 ·rw[List.length_set]
theorem VG:∀(xs:List Km382.Lot)(l:List Km382.Good),(xs.foldl FP l).length=l.length
 |[],_=>rfl
 |x::xs,l=>by rw[List.foldl_cons,VG xs,xU]
def YI(K:PySem.W.Frag)(A:Ad):Sp:=λvs H Q _=>∃(v:V)(k:Km382.Kitchen),vs=[v]/\kc A H v k/\KT.qc k/\uc A H (KT.fc k .throw_) Q
theorem NH(T:Txt K mg A):Ua P w K mg base nc 5 A.Ey A.dy ["state"] (YI K A):=by
 refine T.wq.F.Uc ["state","old","lot","new"] (by decide +kernel) λvs H Q E h nd=>?_;obtain⟨v,kt,rfl,hv,hI,k⟩:=h;have hzl:=ak;have hv0:=hv;obtain⟨a,adx,lg0,ll0,lr0,lm0,gs0,ls0,rs0,ms0,rfl,s⟩:=hv;obtain⟨h0,o0,c0,e,ob0⟩:=s.ob;have hll:=s.pl.length;have h32:=hI.As;refine⟨rfl,λ_ _ _ _ hr=>?_⟩;refine⟨_,(ba (yi (i:=1) rfl nd rfl rfl rfl (iu K (pF (Qb T) (pv 0))) (own:=[("lot",2)]) (bc (show Cb ["state","old","lot","new"] (Ra Rq) _ [("lot",2)]=true from by decide +kernel)) (λ_ _ _ _ _=>Va (i:=2) nd rfl (Or.inl rfl)) (λ_ _ _ _ _=>se (Ca Kl (pF (Bd T) (pv 2)) (pF (Nb T) (pv 0)) (Ea _))) (λ_ _ _ _ _=>(pv 2)))
    (ba (Ma (Hb (HU K (pv 1) (λ_=>rfl))) (ja (oa (pC (Bf T:) hr T.Of (aa (Wa (aa va da)) da)))) za)
    (ba (Pa (i:=3) nd rfl (Or.inl rfl) (pC (Qd T:) hr T.Gd (aa (pv 0) da)))
    (ba (Ih (fs:=Ba) (put:=λv o=>{o with lots:=v}) T.Ab T.bf kd Hh (pv 3) (Fe rfl nd (iu K (pF (Qb T) (pv 0))) (own:=[("lot",2)]) (bc (show Cb ["state","old","lot","new"] (Ra Rq) _ [("lot",2)]=true from by decide +kernel)) (λ_ _ _ _ _=>Va (i:=2) nd rfl (Or.inl rfl)) (λ_ _ _ _ _=>se (Ca cN (pF (Bd T) (pv 2)) (pF (Nb T) (pv 0)) (Ea _))) (λ_ _ _ _ _=>(pv 2))) rfl)
    (ba (Ag PassesOwn.never rfl (iu K (pv 1)) (Va (i:=2) nd rfl (Or.inl rfl)) (ja (TR (fs:=ub) (get:=wd.thrown) (put:=λv o=>{o with thrown:=v}) T.je T.qj Gp Yr bB (vc K (pF (cb T) (pv 3)) (pF (Ci T) (pv 2))) (pF (Lf T) (pv 2)))))
    (ja (oa (pC (gc T:) hr T.jc (aa (pv 3) (aa (Wa (aa (Oa (Ga (K:=K) rfl) rfl T.Zb Eb (aa (pv 1) da)) da)) da)))))))))),?_⟩
 dsimp only[Cc];dsimp!;refine⟨adx,_,ob0,ll0,rfl,⟨_,Ha.of s.hl⟩,Xr s.pl (λy=>decide (y.last<kt.today)) (qb (Ha.of s.hl)) (by lia) (λj v m H1 R hm hv hs r=>?_) λD1 u1 H1 hD1 hu1 hP1 s1=>?_⟩
 ·obtain⟨ya,ydx,rfl,hya⟩:=hv;dsimp![wipe];refine⟨ydx,_,hs _ _ hya,adx,_,hs _ _ ob0,_,rfl,_,rfl,?_⟩;have r:=r H1 (Aa.refl _);refine Lb (λh=>?_) λh=>?_
  ·rw[if_pos (decide_eq_true (by lia))] at r;exact r
  ·rw[if_neg (by rw[decide_eq_true_eq];lia)] at r;exact r
 have hu:=hP1.length;have kt0:KT.fc kt .throw_=if(kt.lots.filter λx=>decide (x.last<kt.today)).length=0 then(none,Km382.only 0) else(some {kt with goods:=(kt.lots.filter λx=>decide (x.last<kt.today)).foldl FP kt.goods,lots:=kt.lots.filter λx=>decide (kt.today<=x.last)},Km382.only (((kt.lots.filter λx=>decide (x.last<kt.today)).length:Nat):Int)):=rfl
 refine⟨_,jh (Ha.of hu1),Lb (λh=>⟨by decide,λp hp=>?_⟩) λh=>?_⟩
 ·have e0:u1=[]:=by
   cases u1 with
   |nil=>rfl
   |cons a b=>simp at h
  rw[e0] at hu;exact Jd k (a:=Km382.only 0) (by rw[kt0];exact if_pos hu.symm) (s1.trans (qa hp)) ia rfl
 have hne:¬(kt.lots.filter λx=>decide (x.last<kt.today)).length=0:=λz=>by
  rw[z] at hu;have e0:u1=[]:=List.length_eq_zero_iff.mp hu;rw[e0] at h;simp at h
 refine⟨_,kt,rfl,hv0.mono s1,hI,λH2 b dx lg ll lr lm gs ls rs ms s2 F=>?_⟩;have s12:=s1.trans s2;dsimp!;refine⟨adx,_,s12 _ _ ob0,ll0,rfl,⟨_,Ha.of (s12 _ _ s.hl)⟩,Xr (s.pl.mono λ_ _ z=>z.mono s12) (λy=>decide (kt.today<=y.last)) (qb (Ha.of (s12 _ _ s.hl))) (by lia) (λj v m H3 R hm hv hs r=>?_) λD3 u3 H3 hD3 hu3 hP3 s3=>?_⟩
 ·obtain⟨ya,ydx,rfl,hya⟩:=hv;dsimp![wipe];refine⟨ydx,_,hs _ _ hya,adx,_,hs _ _ (s12 _ _ ob0),_,rfl,_,rfl,?_⟩;have r:=r H3 (Aa.refl _);refine Lb (λh=>?_) λh=>?_
  ·rw[if_pos (decide_eq_true (by lia))] at r;exact r
  ·rw[if_neg (by rw[decide_eq_true_eq];lia)] at r;exact r
 have F3:=F.mono s3;have s23:=s2.trans s3;obtain⟨h3,o3,c3,e3,ob3⟩:=F3.st.ob;refine⟨dx,_,ob3,?_⟩;have nd3:[lg,D3,lr,lm].Nodup:=by
  have:=F3.nd;have d1:lg≠D3:=ka F.st.hg hD3;have d2:lr≠D3:=ka F.st.hr hD3;have d3:lm≠D3:=ka F.st.hm hD3;simp only[List.nodup_cons,List.mem_cons,List.not_mem_nil,or_false,not_or] at this⊢;exact⟨⟨d1,this.1.2.1,this.1.2.2⟩,⟨Ne.symm d2,Ne.symm d3⟩,this.2.2.1,this.2.2.2⟩
 obtain⟨s4,F4⟩:=F3.store s23 (k2:={kt with lots:=kt.lots.filter λx=>decide (kt.today<=x.last)}) e3 rfl rfl rfl hu3 (hP3.mono λ_ _ z=>z.mono s3) (s2.free hD3) nd3;dsimp only at s4 F4⊢;generalize (upd H3 b (.ins A.Na dx (Ba ⟨.int (h3:Int),.int (o3:Int),.int (c3:Int),.int (kt.today:Int),.ref lg,.ref D3,.ref lr,.ref lm⟩)))=H4 at s4 F4⊢;refine⟨⟨_,Ha.of (s4 _ _ hu1)⟩,?_⟩;refine Fo (xs:=u1) (λi σ H'=>∃v2:Option V,σ=[some (.ref a),some (.ref D1),v2,some (.ref b)]/\Aa H1 H'/\Td A H1 H' b dx lg D3 lr lm gs u3 rs ms {kt with lots:=kt.lots.filter λx=>decide (kt.today<=x.last),goods:=((kt.lots.filter λx=>decide (x.last<kt.today)).take i).foldl FP kt.goods})
  ⟨none,rfl,s4,F4⟩ (λi σ H' _⟨_,_,z,_⟩=>Ha.of (z _ _ hu1)) ?_ ?_
 ·rintro i v σ H' hi ⟨v2,rfl,sH,Fi⟩;obtain⟨x,hx,hxv⟩:=Pc hP1 hi;obtain⟨xa,xdx,rfl,hxa⟩:=hxv;have hxa:=sH _ _ (s1 _ _ hxa);have hxm:=(List.mem_filter.mp (List.mem_of_getElem? hx)).1;have hlt:x.good<(((kt.lots.filter λx=>decide (x.last<kt.today)).take i).foldl FP kt.goods).length:=by rw[VG];exact(hI.lots x hxm).1
  obtain⟨gd,hgd⟩:∃gd,(((kt.lots.filter λx=>decide (x.last<kt.today)).take i).foldl FP kt.goods)[x.good]?=some gd:=⟨_,List.getElem?_eq_getElem hlt⟩;obtain⟨gv,hgv,ga,gdx,rfl,hga⟩:=Bb Fi.st.pg hgd;obtain⟨hi0,oi,ci,ei,obi⟩:=Fi.st.ob;dsimp!;refine⟨dx,_,obi,xdx,_,hxa,lg,rfl,gs,_,rfl,Ha.of Fi.st.hg,_,wa hgv,ga,rfl,gdx,_,hga,xdx,_,hxa,_,rfl,_,rfl,hga,?_⟩;obtain⟨sN,FN⟩:=Fi.good sH hgd hgv hga {gd with thrown:=gd.thrown+x.units};refine⟨sN,?_⟩;rw[take_snoc hx,List.foldl_append];have e:FP (((kt.lots.filter λx=>decide (x.last<kt.today)).take i).foldl FP kt.goods) x=(((kt.lots.filter λx=>decide (x.last<kt.today)).take i).foldl FP kt.goods).set x.good {gd with thrown:=gd.thrown+x.units}:=by
   exact IS hgd
  show Td A H1 _ b dx lg D3 lr lm gs u3 rs ms {kt with lots:=_,goods:=FP _ x};rw[e];exact FN
 ·rintro σ H' ⟨v2,rfl,sH,Fi⟩;rw[hu,List.take_length] at Fi;dsimp!;refine⟨u1,.inl (Ha.of (sH _ _ hu1)),by decide,λp hp=>?_⟩;have s8:=qa (o:=.lst [V.int (u1.length:Int)]) hp;exact ke k (by rw[kt0,if_neg hne]) (s1.trans (sH.trans s8)) (Fi.at.mono s8) ia (by rw[hu];rfl)
theorem zi{k:Km382.Kitchen}{n:Nat}:k.recipe n=(k.recipes[n]?).getD none:=by
 unfold Km382.Kitchen.recipe;rw[List.getD_eq_getElem?_getD]
def vB(K:PySem.W.Frag)(A:Ad):Sp:=λvs H Q _=>∃(v:V)(k:Km382.Kitchen)(n:Nat),vs=[v,.int (n:Int)]/\kc A H v k/\Q (.bl (k.recipe n).isSome) H
theorem Ig(T:Txt K mg A):Ua P w K mg base nc 1 A.Ir A.Ar ["state","recipe"] (vB K A):=by
 refine T.Ke.F.Uc ["state","recipe"] (by decide +kernel) λvs H Q E h nd=>?_;obtain⟨v,kt,n,rfl,hv,k⟩:=h;obtain⟨a,dx,lg,ll,lr,lm,gs,ls,rs,ms,rfl,s⟩:=hv;obtain⟨h0,o0,c0,_,ob⟩:=s.ob;have hrl:=s.pr.length;refine⟨rfl,λ_ _ _ _ hr=>?_⟩;refine⟨_,(ja (oa (Vk (qe Kl (pv 1) (Oa (Ga (K:=K) rfl) rfl T.Zb Eb (aa (pF (rb T) (pv 0)) da)) (Ea _)) (Mq (qe Vf (vc K (pF (rb T) (pv 0)) (pv 1)) ic (Ea _)))))),?_⟩;dsimp only[Cc];dsimp!;refine⟨dx,_,ob,lr,rfl,rs,.inl (Ha.of s.hr),?_⟩;rw[hrl];refine Lb (λh=>?_) λh=>?_
 ·obtain⟨o,ho⟩:∃o,kt.recipes[n]?=some o:=⟨_,List.getElem?_eq_getElem (by lia)⟩;obtain⟨x,hx,hxo⟩:=Bb s.pr ho;have e:kt.recipe n=o:=by rw[zi,ho];rfl
  rw[e] at k;refine⟨dx,_,ob,lr,rfl,rs,Ha.of s.hr,_,wa hx,?_⟩;cases o with
  |none=>
   have hxo:x=.Vb:=hxo;subst hxo;exact k
  |some r=>
   obtain⟨ra,rdx,d,l,rfl,_⟩:=hxo;exact k
 ·have e:kt.recipe n=none:=by rw[zi,List.getElem?_eq_none (by lia)];rfl
  rw[e] at k;exact k
def Kh(r:Km382.Recipe)(g p:Nat):Nat:=match r.takes.find? λt=>t.good==g with
 |none=>0
 |some t=>Km382.amount t.units p r.serves
def vS(K:PySem.W.Frag)(A:Ad):Sp:=λvs H Q _=>∃(v:V)(r:Km382.Recipe)(g p:Nat),vs=[v,.int (g:Int),.int (p:Int)]/\RecAt A H v r/\1<=r.serves/\r.serves<=99/\p<=99/\Q (.int ((Kh r g p:Nat):Int)) H
theorem QH(T:Txt K mg A):Ua P w K mg base nc 1 A.EM A.xM ["recipe","good","people"] (vS K A):=by
 refine T.Vw.F.Uc ["recipe","good","people","units"] (by decide +kernel) λvs H Q E h nd=>?_;obtain⟨v,r,g,p,rfl,hv,h1,h99,hp,k⟩:=h;obtain⟨a,dx,d,l,rfl,R⟩:=hv;refine⟨rfl,λ_ _ _ _ hr=>?_⟩;have hu:=Ep hr;refine⟨_,(ba (Pa (i:=3) nd rfl (Or.inl rfl) (Sb KR (MR hu (pF (Nd T) (pv 0)) (pv 1) va ⟨rfl,rfl,rfl,rfl⟩) (pv 2)))
    (ja (oa (Sb bN (Sb Sk (Sb yg (pv 3) (pF (qd T) (pv 0))) va) (pF (qd T) (pv 0)))))),?_⟩
 dsimp only[Cc];dsimp![AS];refine⟨dx,_,R.ob,d,rfl,.inl ⟨_,.inl R.tk⟩,_,Mg.k (k:=Sum.inl (g:Int)) R.tk,?_⟩;rw[uA];cases hf:(r.takes.find? λt=>t.good==g) with
 |none=>
  refine⟨0,rfl,.inl ⟨by lia,by lia⟩,dx,_,R.ob,_,rfl,dx,_,R.ob,_,rfl,⟨by lia,by lia⟩,?_⟩;have e:Kh r g p=0:=by unfold Kh;rw[hf]
  rw[e] at k;have e2:((0:Int)*(p:Int)+(r.serves:Int)-1)/(r.serves:Int)=0:=by
   rw[Int.zero_mul,Int.zero_add];exact Int.ediv_eq_zero_of_lt (by lia) (by lia)
  rw[e2];exact k
 |some t=>
  refine⟨(t.units:Int),rfl,.inr ⟨by lia,by lia⟩,dx,_,R.ob,_,rfl,dx,_,R.ob,_,rfl,⟨by lia,by lia⟩,?_⟩;have e:Kh r g p=Km382.amount t.units p r.serves:=by unfold Kh;rw[hf]
  rw[e] at k;have e2:((t.units:Int)*(p:Int)+(r.serves:Int)-1)/(r.serves:Int)=((Km382.amount t.units p r.serves:Nat):Int):=by
   unfold Km382.amount;rw[Int.natCast_ediv];congr 1;have:((t.units*p:Nat):Int)=(t.units:Int)*(p:Int):=Int.natCast_mul ..
   lia
  rw[e2];exact k
def XI(K:PySem.W.Frag)(A:Ad):Sp:=λvs H Q _=>∃(v:V)(k:Km382.Kitchen)(n g p:Nat),vs=[v,.int (n:Int),.int (g:Int),.int (p:Int)]/\kc A H v k/\KT.qc k/\uc A H (KT.fc k (.takes n g p)) Q
theorem MH(T:Txt K mg A):Ua P w K mg base nc 2 A.Dy A.cy ["state","recipe","good","people"] (XI K A):=by
 refine T.vq.F.Uc ["state","recipe","good","people"] (by decide +kernel) λvs H Q E h nd=>?_;obtain⟨v,kt,n,g,p,rfl,hv,hI,k⟩:=h;have e0:KT.fc kt (.takes n g p)=(none,match kt.recipe n with
   |none=>Km382.only (-2)
   |some x=>if kt.goods.length<=g then Km382.only (-2) else if p=0\/99<p then Km382.only (-22) else match x.takes.find? λt=>t.good==g with
    |none=>Km382.only 0
    |some t=>Km382.only ((Km382.amount t.units p x.serves:Nat):Int)):=rfl
 have hv0:=hv;obtain⟨a,dx,lg,ll,lr,lm,gs,ls,rs,ms,rfl,s⟩:=hv;obtain⟨h0,o0,c0,_,ob⟩:=s.ob;have hgl:=s.pg.length;refine⟨rfl,λ_ _ _ _ hr=>?_⟩;refine⟨_,(ba (Ma (PW.pt (dg (Hb (Ob (pC (Ig T:) hr T.Ke (aa (pv 0) (aa (pv 1) da))))) (Zf (Ca cN (pv 2) (Oa (Ga (K:=K) rfl) rfl T.Zb Eb (aa (pF (cb T) (pv 0)) da)) (Ea _))))) (ja (oa (pC (Ja T:) hr T.La (aa (Ka rfl T.Gb) da)))) za)
    (ba (Ma (Hb (Ob (pC (xg T:) hr T.Ud (aa (pv 3) da)))) (ja (oa (pC (Ja T:) hr T.La (aa (Ka rfl T.pb) da)))) za)
    (ja (oa (pC (Bf T:) hr T.Of (aa (Wa (aa (pC (QH T:) hr T.Vw (aa (vc K (pF (rb T) (pv 0)) (pv 1)) (aa (pv 2) (aa (pv 3) da)))) da)) da)))))),?_⟩
 dsimp only[Cc];dsimp!;refine⟨_,kt,n,rfl,hv0,_,rfl,?_⟩;cases hr':kt.recipe n with
 |none=>
  rw[hr'] at e0;exact(if_pos rfl).mpr (gb k e0 (Aa.refl _))
 |some r=>
  rw[hr'] at e0;refine(if_neg (by simp)).mpr ⟨dx,_,ob,lg,rfl,gs,.inl (Ha.of s.hg),?_⟩;rw[hgl];refine Lb (λh=>gb k (e0.trans (by simp only;rw[if_pos (by lia)])) (Aa.refl _)) λh=>?_;simp only at e0;rw[if_neg (by lia)] at e0;refine⟨p,rfl,_,rfl,Lb (λh1=>gb k (e0.trans (by have:=of_decide_eq_false h1;rw[if_pos (by lia)])) (Aa.refl _)) λh1=>?_⟩;have h1:1<=p/\p<=99:=by simpa using h1
  rw[if_neg (by lia)] at e0;have hrec:=KT.Cg hI hr';have hRI:=hI.recipes r hrec.2;obtain⟨o,ho⟩:∃o,kt.recipes[n]?=some o:=⟨_,List.getElem?_eq_getElem (by rw[hI.Qs];exact hrec.1)⟩;obtain⟨x,hx,hxo⟩:=Bb s.pr ho;have e1:o=some r:=by
   have:=zi (k:=kt) (n:=n);rw[hr',ho] at this;exact this.symm
  subst e1;refine⟨dx,_,ob,lr,rfl,rs,Ha.of s.hr,_,wa hx,x,r,g,p,rfl,hxo,hRI.serves.1,hRI.serves.2,by lia,by decide,λq hq=>?_⟩;refine Jd k (a:=Km382.only ((Kh r g p:Nat):Int)) ?_ (qa hq) ia rfl;rw[e0];unfold Kh;cases(r.takes.find? λt=>t.good==g)<;>rfl
theorem RD{goods:List Text}{r:Km382.Recipe}(hI:KT.vx goods.length r)(hg:∀g∈goods,g.length<=8):(Km382.writeRecipe goods r).length<=3400:=by
 rw[yA,List.length_flatten,List.map_map];have h1:=lI (goods:=goods) hI;have h2:=oA (f:=List.length∘Ip) (m:=200) (Fw goods r) λws hws=>XC (Rz hI hg ws hws);lia
theorem yn{k:Km382.Kitchen}(hI:KT.qc k):∀g∈k.names,g.length<=8:=λg hg=>by
 unfold Km382.Kitchen.names at hg;obtain⟨x,hx,rfl⟩:=List.mem_map.mp hg;exact(KT.Fq (hI.goods x hx).1).2
theorem fD(k:Km382.Kitchen):k.names.length=k.goods.length:=by unfold Km382.Kitchen.names;rw[List.length_map]
theorem LM(l:List Nat):iL l=(Km382Neutral.nums l).map V.int:=by
 unfold iL Km382Neutral.nums;rw[List.map_map];rfl
def ZI(K:PySem.W.Frag)(A:Ad):Sp:=λvs H Q _=>∃(v:V)(k:Km382.Kitchen)(n:Nat),vs=[v,.int (n:Int)]/\kc A H v k/\KT.qc k/\uc A H (KT.fc k (.write n)) Q
theorem OH(T:Txt K mg A):Ua P w K mg base nc 3 A.Fy A.gy ["state","recipe"] (ZI K A):=by
 refine T.xq.F.Uc ["state","recipe","row"] (by decide +kernel) λvs H Q E h nd=>?_;obtain⟨v,kt,n,rfl,hv,hI,k⟩:=h;have hzl:=ak;have e0:KT.fc kt (.write n)=(none,match kt.recipe n with
   |none=>Km382.only (-2)
   |some x=>⟨(((Km382.writeRecipe kt.names x).length:Nat):Int),Km382.fill Km382.TEXT (Km382.writeRecipe kt.names x)⟩):=rfl
 have hv0:=hv;obtain⟨a,dx,lg,ll,lr,lm,gs,ls,rs,ms,rfl,s⟩:=hv;obtain⟨h0,o0,c0,_,ob⟩:=s.ob;refine⟨rfl,λ_ _ _ _ hr=>?_⟩;refine⟨_,(ba (Ma (Hb (Ob (pC (Ig T:) hr T.Ke (aa (pv 0) (aa (pv 1) da))))) (ja (oa (pC (Ja T:) hr T.La (aa (Ka rfl T.Gb) da)))) za)
    (ba (Pa (i:=2) nd rfl (Or.inl rfl) (pC (DH T:) hr T.jq (aa (pC (OK T:) hr T.Kt (aa (vc K (pF (rb T) (pv 0)) (pv 1)) (aa (pC (Sf T:) hr T.Hd (aa (pv 0) da)) da))) da)))
    (ja (oa (pC (Bf T:) hr T.Of (aa (Sb zg (Sb zg (Wa (aa (Oa (Ga (K:=K) rfl) rfl T.Zb Eb (aa (pv 2) da)) da)) (pv 2)) (Sb Hz (Wa (aa va da)) (Sb Sk (Ka rfl T.Ym) (Oa (Ga (K:=K) rfl) rfl T.Zb Eb (aa (pv 2) da))))) da)))))),?_⟩
 dsimp only[Cc];dsimp!;refine⟨_,kt,n,rfl,hv0,_,rfl,?_⟩;cases hr':kt.recipe n with
 |none=>
  rw[hr'] at e0;exact(if_pos rfl).mpr (gb k e0 (Aa.refl _))
 |some r=>
  rw[hr'] at e0;simp only at e0;have hrec:=KT.Cg hI hr';have hRI:=hI.recipes r hrec.2;obtain⟨o,ho⟩:∃o,kt.recipes[n]?=some o:=⟨_,List.getElem?_eq_getElem (by rw[hI.Qs];exact hrec.1)⟩;obtain⟨x,hx,hxo⟩:=Bb s.pr ho;have e1:o=some r:=by
   have:=zi (k:=kt) (n:=n);rw[hr',ho] at this;exact this.symm
  subst e1;obtain⟨ra,rdx,d,l,rfl,R⟩:=hxo;have hRI':KT.vx kt.names.length r:=by rw[fD];exact hRI
  have hwl:=RD hRI' (yn hI);refine(if_neg (by simp)).mpr ⟨dx,_,ob,lr,rfl,rs,Ha.of s.hr,_,wa hx,?_⟩;refine⟨_,kt,rfl,hv0,hI,λD H1 hD hD1 s1=>?_⟩;refine⟨ra,rdx,d,l,D,r,kt.names,rfl,R.mono s1,Ha.of hD1,hRI',yn hI,λH2 s2=>?_⟩;refine⟨_,rfl,by lia,λE0' H3 hE hE3 s3=>?_⟩;generalize hW:Km382.writeRecipe kt.names r=W at *
  have hil:(iL W).length=W.length:=by unfold iL;rw[List.length_map]
  refine⟨E0',rfl,_,.inl (Ha.of hE3),by decide,λp hp=>?_⟩;have s4:=qa (o:=.lst [V.int ((iL W).length:Int)]) hp;refine⟨p,E0',_,_,rfl,rfl,ia,s4 _ _ hE3,by rw[hil];simp;lia,λp2 hp2=>⟨by decide,λp3 hp3=>?_⟩⟩;have s5:=qa (o:=.lst ([V.int ((iL W).length:Int)]++iL W)) hp2;have s6:=qa (o:=.lst [V.int 0]) hp3;refine⟨E0',rfl,_,.inl (Ha.of (s6 _ _ (s5 _ _ (s4 _ _ hE3)))),p3,_,_,rfl,rfl,ia,by rw[hil];lia,by rw[hil];lia,by rw[hil];simp;lia,λp4 hp4=>?_⟩;have s7:=qa (o:=.lst (List.replicate (400-((iL W).length:Int)).toNat [V.int 0]).flatten) hp4;refine⟨p2,p4,_,_,rfl,rfl,s7 _ _ (s6 _ _ ia),ia,by rw[len_rep,List.length_append,hil];simp;lia,λp5 hp5=>?_⟩;have s8:=qa (o:=.lst ([V.int ((iL W).length:Int)]++iL W++(List.replicate (400-((iL W).length:Int)).toNat [V.int 0]).flatten)) hp5;refine Jd k (a:=⟨((W.length:Nat):Int),Km382.fill Km382.TEXT W⟩) e0 (((s1.trans s2).trans (s3.trans s4)).trans ((s5.trans s6).trans (s7.trans s8))) ia ?_;unfold Km382Neutral.told Km382.fill Km382.TEXT;rw[hil,List.map_cons,show Km382Neutral.nums (W++List.replicate (400-W.length) 0)=Km382Neutral.nums W++List.replicate (400-W.length) 0 by unfold Km382Neutral.nums;rw[List.map_append,List.map_replicate];rfl,List.map_append,<-LM,List.map_replicate];rw[show(400-(W.length:Int)).toNat=400-W.length by lia];rw[show(List.replicate (400-W.length) [V.int 0]).flatten=List.replicate (400-W.length) (V.int 0) by
   generalize 400-W.length=m;induction m with
   |zero=>rfl
   |succ m ih=>rw[List.replicate_succ,List.flatten_cons,ih];rfl]
  rfl
theorem Zw{n i:Nat}(h:i<n):yT n (i:Int)=some i:=by
 unfold yT;rw[if_pos (by lia),if_pos (by lia),Int.toNat_natCast]
theorem Td.rS{A:Ad}{H H1:Hp}{b dx lg ll lr lm:Addr}{gs ls rs ms:List V}{k:Km382.Kitchen}(F:Td A H H1 b dx lg ll lr lm gs ls rs ms k)(sH:Aa H H1){i:Nat}{v:V}{o:Option Km382.Recipe}(hv:Ah (RecAt A H) v o):Aa H (upd H1 lr (.lst (rs.set i v)))/\kc A (upd H1 lr (.lst (rs.set i v))) (.ref b) {k with recipes:=k.recipes.set i o}:=by
 have sx:ab lr H1 (upd H1 lr (.lst (rs.set i v))):=bb;have sA:Aa H (upd H1 lr (.lst (rs.set i v))):=λc o hc=>sx _ _ (ka hc F.fr) (sH _ _ hc);obtain⟨h0,o0,c0,e,ob⟩:=F.st.ob;have nd:=F.nd;simp only[List.nodup_cons,List.mem_cons,List.not_mem_nil,or_false,not_or] at nd;have ni:∀{y C yd:Addr}{fs:List (Str×V)},H1 y=some (.ins C yd fs)->y≠lr:=λz=>Fb z F.st.hr (by intro q;cases q);refine⟨sA,b,dx,lg,ll,lr,lm,gs,ls,rs.set i v,ms,rfl,⟨⟨h0,o0,c0,e,sx _ _ (ni ob) ob⟩,sx _ _ nd.1.2.1 F.st.hg,?_,sx _ _ nd.2.1.1 F.st.hl,?_,ia,?_,sx _ _ (Ne.symm nd.2.2.1) F.st.hm,F.st.pm.mono λ_ _ z=>z.imp λ_⟨ga,gdx,e,z⟩=>⟨ga,gdx,e,sx _ _ (ni z) z⟩⟩⟩
 ·exact F.st.pg.mono λ_ _⟨ga,gdx,e,z⟩=>⟨ga,gdx,e,sx _ _ (ni z) z⟩
 ·exact F.st.pl.mono λ_ _⟨ga,gdx,e,z⟩=>⟨ga,gdx,e,sx _ _ (ni z) z⟩
 ·refine Mh (by rw[List.length_set,List.length_set];exact F.VS.length) λj x y hx hy=>?_;have hy:(k.recipes.set i o)[j]?=some y:=hy;by_cases hj:j=i
  ·subst hj;have hl1:j<rs.length:=by have:=(List.getElem?_eq_some_iff.mp hx).1;rwa [List.length_set] at this
   have hl2:j<k.recipes.length:=by have:=(List.getElem?_eq_some_iff.mp hy).1;rwa [List.length_set] at this
   rw[List.getElem?_set_self hl1] at hx;rw[List.getElem?_set_self hl2] at hy;have e1:=Option.some.inj hx;have e2:=Option.some.inj hy;subst e1 e2;exact hv.imp λ_ z=>z.mono sA
  ·rw[List.getElem?_set_ne (Ne.symm hj)] at hx hy;obtain⟨y',hy',hz⟩:=Pc F.VS hx;rw[hy] at hy';have e2:=Option.some.inj hy';subst e2;exact hz.imp λ_ z=>z.mono sA
theorem mI{K:PySem.W.Frag}{mg:Str->Option Value}{A:Ad}{H:Hp}(T:Txt K mg A){rs:List V}{l:List (Option Km382.Recipe)}(h:Paired (Ah (RecAt A H)) rs l):∀v∈rs,qx K H v:=λv hv=>by
 obtain⟨o,_,ho⟩:=Uk h v hv;cases o with
 |none=>exact .inl ho
 |some r=>
  obtain⟨ra,rdx,d,l,rfl,R⟩:=ho;exact .inr ⟨ra,_,rdx,_,rfl,R.ob,T.BQ⟩
def qE{α:Type}(l:List (Option α)):Option Nat:=(List.range l.length).find? λi=>(l.getD i none).isNone
theorem ZE{α:Type}{P:V->α->Prop}(hP:∀x,¬P .Vb x){v:V}{o:Option α}(h:Ah P v o):v=.Vb↔o=none:=by
 cases o with
 |none=>exact⟨λ_=>rfl,λ_=>h⟩
 |some r=>exact⟨λz=>by subst z;exact absurd h (hP r),λz=>(by cases z)⟩
theorem Jy{α:Type}{P:V->α->Prop}(hP:∀x,¬P .Vb x){rs:List V}{l:List (Option α)}(h:Paired (Ah P) rs l){i:Nat}:qE l=some i↔rs[i]?=some .Vb/\∀(m:Nat)(z:V),m<i->rs[m]?=some z->z≠.Vb:=by
 have hl:=h.length;have key:∀{j:Nat},j<l.length->((l.getD j none).isNone=true↔rs[j]?=some .Vb):=λ{j} hj=>by
  obtain⟨o,ho⟩:∃o,l[j]?=some o:=⟨_,List.getElem?_eq_getElem hj⟩;obtain⟨v,hv,hvo⟩:=Bb h ho;rw[List.getD_eq_getElem?_getD,ho,hv];have:=ZE hP hvo;constructor
  ·intro z;rw[this.mpr (by simpa using z)]
  ·intro z;have:=this.mp (Option.some.inj z);subst this;rfl
 unfold qE;rw[KT.JJ];constructor
 ·rintro⟨h1,h2,h3⟩;refine⟨(key h1).mp h2,λm z hm hz e=>?_⟩;subst e;have:=(key (by lia)).mpr hz;rw[h3 m hm] at this;cases this
 ·rintro⟨h1,h2⟩;have hi:i<l.length:=by have:=(List.getElem?_eq_some_iff.mp h1).1;lia
  refine⟨hi,(key hi).mpr h1,λj hj=>?_⟩;cases e:(l.getD j none).isNone with
  |false=>rfl
  |true=>exact absurd rfl (h2 j .Vb hj ((key (by lia)).mp e))
theorem MC{α:Type}{P:V->α->Prop}(hP:∀x,¬P .Vb x){rs:List V}{l:List (Option α)}(h:Paired (Ah P) rs l):rs.any fi=(qE l).isSome:=by
 rw[Bool.eq_iff_iff,List.any_eq_true];constructor
 ·rintro⟨v,hv,e⟩;cases ef:qE l with
  |some i=>rfl
  |none=>
   unfold qE at ef;rw[KT.jw] at ef;obtain⟨j,hj⟩:=List.getElem?_of_mem hv;obtain⟨o,ho,hvo⟩:=Pc h hj;have e:v=.Vb:=of_decide_eq_true e;have:=(ZE hP hvo).mp e;subst this;have:=ef j (List.getElem?_eq_some_iff.mp ho).1;rw[List.getD_eq_getElem?_getD,ho] at this;cases this
 ·intro e;obtain⟨i,hi⟩:=Option.isSome_iff_exists.mp e;have:=(Jy hP h).mp hi;exact⟨.Vb,List.mem_of_getElem? this.1,by decide⟩
theorem ZK{A:Ad}{H:Hp}(x:Km382.Recipe):¬RecAt A H .Vb x:=λ⟨_,_,_,_,z,_⟩=>by cases z
theorem WE{A:Ad}{H:Hp}(x:Km382.Meal):¬vd A H .Vb x:=λ⟨_,_,z,_⟩=>by cases z
theorem MQ(l:List (Option Km382.Recipe)):Km382.free_ l=qE l:=rfl
theorem XN(l:List (Option Km382.Meal)):Km382.freeMeal l=qE l:=rfl
def OL(K:PySem.W.Frag)(A:Ad):Sp:=λvs H Q _=>∃(v:V)(k:Km382.Kitchen)(n:Nat)(p:Addr)(t:List Nat),vs=[v,.int (n:Int),.ref p]/\kc A H v k/\KT.qc k/\Ha K H p (iL t)/\t.length<=1000/\uc A H (KT.fc k (.read t n)) Q
theorem JK(T:Txt K mg A):Ua P w K mg base nc 6 A.DC A.bC ["state","n","text"] (OL K A):=by
 refine T.Et.F.Uc ["state","n","text","recipe","place","new"] (by decide +kernel) λvs H Q E h nd=>?_;obtain⟨v,kt,n,p,t,rfl,hv,hI,hp,ht,k⟩:=h;have hv0:=hv;obtain⟨a,adx,lg0,ll0,lr0,lm0,gs0,ls0,rs0,ms0,rfl,s⟩:=hv;obtain⟨h0,o0,c0,e,ob0⟩:=s.ob;refine⟨rfl,λ_ _ _ _ hr=>?_⟩;have hu8:=bR hr;refine⟨_,(ba (Ma (Ca An (pv 1) (Ka rfl T.Ym) (Ea _)) (ja (oa (pC (Ja T:) hr T.La (aa (Ka rfl T.pb) da)))) za)
    (ba (Pa (i:=3) nd rfl (Or.inl rfl) (pC (Dz T:) hr T.dj (aa (pC (Fz T:) hr T.Zn (aa (Xf (pU K) (pv 2) Vi (Kg (pv 1))) da)) (aa (pC (Sf T:) hr T.Hd (aa (pv 0) da)) da))))
    (ba (Ma (Ca JR (pv 3) ic (Ea _)) (ja (oa (pC (Ja T:) hr T.La (aa (Ka rfl T.fH) da)))) za)
    (ba (Ma (Ca (Tp (K:=K) rfl hu8) ic (pF (rb T) (pv 0)) (by rfl)) (ja (oa (pC (Ja T:) hr T.La (aa (Ka rfl T.Mj) da)))) za)
    (ba (Pa (i:=4) nd rfl (Or.inl rfl) (Wf (K:=K) rfl PySem.F.plainAttrs_list PySem.F.slot_list_index PySem.F.type_list_index (Jp (K:=K) rfl hu8) (pF (rb T) (pv 0)) (aa ic da)))
    (ba (Pa (i:=5) nd rfl (Or.inl rfl) (pC (Qd T:) hr T.Gd (aa (pv 0) da)))
    (ba (WK (pv 3) (SK (pF (rb T) (pv 5)) (pv 4) set_list))
    (ja (oa (pC (gc T:) hr T.jc (aa (pv 5) (aa (Wa (aa (pv 4) da)) da)))))))))))),?_⟩
 dsimp only[Cc];dsimp![Jf];refine Lb (λh1=>gb k (if_pos (by unfold Km382.TEXT;lia)) (Aa.refl _)) λh1=>?_;have k1:KT.fc kt (.read t n)=(match Km382.readRecipe kt.names (t.take n) with
   |none=>(none,Km382.only (-71))
   |some r=>match Km382.free_ kt.recipes with
    |none=>(none,Km382.only (-28))
    |some i=>(some {kt with recipes:=kt.recipes.set i (some r)},Km382.only ((i:Nat):Int))):=if_neg (by unfold Km382.TEXT;lia)
 refine⟨_,hp,λq hq=>?_⟩;rw[BG,MM];have s1:Aa H (upd H q (.lst (iL (t.take n)))):=qa hq;generalize hH1:upd H q (.lst (iL (t.take n)))=H1 at s1⊢;have hq1:H1 q=some (.lst (iL (t.take n))):=by rw[<-hH1,ia]
 have htl:(t.take n).length<=400:=by rw[List.length_take];lia
 refine⟨q,t.take n,rfl,Ha.of hq1,by lia,λH2 s2=>?_⟩;have s12:=s1.trans s2;refine⟨_,kt,rfl,hv0.mono s12,hI,λD H3 hD hD3 s3=>?_⟩;have s13:=s12.trans s3;have hread:KT.Zk kt.names (KT.sg (t.take n))=Km382.readRecipe kt.names (t.take n):=by
  rw[<-KT.kI,KT.jU];intro g hg;unfold Km382.Kitchen.names at hg;obtain⟨x,hx,rfl⟩:=List.mem_map.mp hg;exact KT.Ik (hI.goods x hx).1
 refine⟨KT.sg (t.take n),D,kt.names,rfl,Ha.of hD3,by rw[KT.lu];exact htl,?_,?_⟩;all_goals rw[hread]
 ·intro H4 s4 hN;dsimp!;exact gb k (by rw[k1,hN]) (s13.trans s4)
 ·intro H4 ra rdx d l r s4 hS R fra frd frl;rw[hS] at k1;simp only at k1;have s14:=s13.trans s4;dsimp![zF];have pr4:=s.pr.mono λ_ _ z=>z.imp λ_ z=>RecAt.mono z s14;refine⟨adx,_,s14 _ _ ob0,lr0,rfl,rs0,Ha.of (s14 _ _ s.hr),mI T pr4,?_⟩;rw[MC ZK pr4];rw[MQ] at k1;cases hf:qE kt.recipes with
  |none=>
   rw[hf] at k1;exact(if_pos rfl).mpr (gb k k1 s14)
  |some i=>
   rw[hf] at k1;simp only at k1;obtain⟨hi1,hi2⟩:=(Jy ZK pr4).mp hf;refine(if_neg (by simp)).mpr ⟨adx,_,s14 _ _ ob0,.inl ⟨rfl,_,Ha.of (s14 _ _ s.hr)⟩,lr0,rs0,i,rfl,rfl,Ha.of (s14 _ _ s.hr),mI T pr4,hi1,hi2,?_⟩;refine⟨_,kt,rfl,hv0.mono s14,hI,λH5 b dx lg ll lr lm gs ls rs ms s5 F=>?_⟩;obtain⟨h5,o5,c5,e5,ob5⟩:=F.st.ob;dsimp![rT,fI];obtain⟨s6,st6⟩:=F.rS s5 (i:=i) (v:=.ref ra) (o:=some r) ⟨ra,rdx,d,l,rfl,R⟩;have hil:i<rs.length:=by
    have h1:=(List.getElem?_eq_some_iff.mp hi1).1;have h2:=s.pr.length;have h3:=F.VS.length;lia
   refine⟨dx,_,ob5,lr,rfl,rs,F.st.hr,i,Zw hil,by decide,λp' hp'=>?_⟩;have s7:=qa (o:=.lst [V.int (i:Int)]) hp';exact ke k k1 (s14.trans (s6.trans s7)) (st6.mono s7) ia rfl
theorem jn{k:Km382.Kitchen}{n:Nat}:k.meal n=(k.meals[n]?).getD none:=by
 unfold Km382.Kitchen.meal;rw[List.getD_eq_getElem?_getD]
theorem St.meal{A:Ad}{H:Hp}{a dx lg ll lr lm:Addr}{gs ls rs ms:List V}{k:Km382.Kitchen}(s:St A H a dx lg ll lr lm gs ls rs ms k){n:Nat}{m:Km382.Meal}(e:k.meal n=some m):∃mv,ms[n]?=some mv/\vd A H mv m/\n<k.meals.length:=by
 rw[jn] at e;cases ho:k.meals[n]? with
 |none=>rw[ho] at e;cases e
 |some o=>
  rw[ho] at e;have e:o=some m:=e;subst e;obtain⟨x,hx,hxo⟩:=Bb s.pm ho;exact⟨x,hx,hxo,(List.getElem?_eq_some_iff.mp ho).1⟩
theorem St.recipe{A:Ad}{H:Hp}{a dx lg ll lr lm:Addr}{gs ls rs ms:List V}{k:Km382.Kitchen}(s:St A H a dx lg ll lr lm gs ls rs ms k){n:Nat}{r:Km382.Recipe}(e:k.recipe n=some r):∃v,rs[n]?=some v/\RecAt A H v r/\n<k.recipes.length:=by
 rw[zi] at e;cases ho:k.recipes[n]? with
 |none=>rw[ho] at e;cases e
 |some o=>
  rw[ho] at e;have e:o=some r:=e;subst e;obtain⟨x,hx,hxo⟩:=Bb s.pr ho;exact⟨x,hx,hxo,(List.getElem?_eq_some_iff.mp ho).1⟩
def LI(K:PySem.W.Frag)(A:Ad):Sp:=λvs H Q _=>∃(v:V)(k:Km382.Kitchen)(n:Nat),vs=[v,.int (n:Int)]/\kc A H v k/\Q (.bl (k.meal n).isSome) H
theorem Ui(T:Txt K mg A):Ua P w K mg base nc 1 A.qy A.Rx ["state","meal"] (LI K A):=by
 refine T.og.F.Uc ["state","meal"] (by decide +kernel) λvs H Q E h nd=>?_;obtain⟨v,kt,n,rfl,hv,k⟩:=h;obtain⟨a,dx,lg,ll,lr,lm,gs,ls,rs,ms,rfl,s⟩:=hv;obtain⟨h0,o0,c0,_,ob⟩:=s.ob;have hrl:=s.pm.length;refine⟨rfl,λ_ _ _ _ hr=>?_⟩;refine⟨_,(ja (oa (Vk (qe Kl (pv 1) (Oa (Ga (K:=K) rfl) rfl T.Zb Eb (aa (pF (Za T) (pv 0)) da)) (Ea _)) (Mq (qe Vf (vc K (pF (Za T) (pv 0)) (pv 1)) ic (Ea _)))))),?_⟩;dsimp only[Cc];dsimp!;refine⟨dx,_,ob,lm,rfl,ms,.inl (Ha.of s.hm),?_⟩;rw[hrl];refine Lb (λh=>?_) λh=>?_
 ·obtain⟨o,ho⟩:∃o,kt.meals[n]?=some o:=⟨_,List.getElem?_eq_getElem (by lia)⟩;obtain⟨x,hx,hxo⟩:=Bb s.pm ho;have e:kt.meal n=o:=by rw[jn,ho];rfl
  rw[e] at k;refine⟨dx,_,ob,lm,rfl,ms,Ha.of s.hm,_,wa hx,?_⟩;cases o with
  |none=>
   have hxo:x=.Vb:=hxo;subst hxo;exact k
  |some r=>
   obtain⟨ra,rdx,rfl,_⟩:=hxo;exact k
 ·have e:kt.meal n=none:=by rw[jn,List.getElem?_eq_none (by lia)];rfl
  rw[e] at k;exact k
theorem OT{k:Km382.Kitchen}{m:Km382.Meal}{r:Km382.Recipe}(e:k.recipe m.recipe=some r)(g:Nat):k.need m g=Kh r g m.people:=by
 unfold Km382.Kitchen.need Kh;rw[e];rfl
def xP(K:PySem.W.Frag)(A:Ad):Sp:=λvs H Q _=>∃(v mv:V)(k:Km382.Kitchen)(m:Km382.Meal)(g:Nat),vs=[v,mv,.int (g:Int)]/\kc A H v k/\KT.qc k/\vd A H mv m/\KT.uJ k m/\Q (.int ((k.need m g:Nat):Int)) H
theorem kD(T:Txt K mg A):Ua P w K mg base nc 2 A.SG A.IG ["state","meal","good"] (xP K A):=by
 refine T.qr.F.Uc ["state","meal","good"] (by decide +kernel) λvs H Q E h nd=>?_;obtain⟨v,mv,kt,m,g,rfl,hv,hI,hm,hM,k⟩:=h;obtain⟨a,dx,lg,ll,lr,lm,gs,ls,rs,ms,rfl,s⟩:=hv;obtain⟨h0,o0,c0,_,ob⟩:=s.ob;obtain⟨ma,mdx,rfl,hma⟩:=hm;obtain⟨r,hr'⟩:=hM.has;obtain⟨x,hx,hxr,_⟩:=s.recipe hr';have hRI:=hI.recipes r (KT.Cg hI hr').2;rw[OT hr'] at k;unfold cg at hma;refine⟨rfl,λ_ _ _ _ hr=>?_⟩;refine⟨_,(ja (oa (pC (QH T:) hr T.Vw (aa (vc K (pF (rb T) (pv 0)) (pF (Wc T) (pv 1))) (aa (pv 2) (aa (pF (Lg T) (pv 1)) da)))))),?_⟩;dsimp only[Cc];dsimp!;exact⟨dx,_,ob,mdx,_,hma,lr,rfl,rs,_,rfl,Ha.of s.hr,_,wa hx,mdx,_,hma,x,r,g,m.people,rfl,hxr,hRI.serves.1,hRI.serves.2,hM.people.2,k⟩
def Vs(K:PySem.W.Frag)(A:Ad):Sp:=λvs H Q _=>∃(v:V)(k:Km382.Kitchen)(y t:Nat),vs=[v,.int (y:Int),.int (t:Int)]/\kc A H v k/\Q (.bl (decide ((k.today<=y/\y<=10000)/\1<=t/\t<=288))) H
theorem Ti(T:Txt K mg A):Ua P w K mg base nc 2 A.Ij A.Ej ["state","day","slot"] (Vs K A):=by
 refine T.Je.F.Uc ["state","day","slot"] (by decide +kernel) λvs H Q E h nd=>?_;obtain⟨v,kt,y,t,rfl,hv,k⟩:=h;refine⟨rfl,λ_ _ _ _ hr=>?_⟩;refine⟨_,(ja (oa (Vk (pC (vf T:) hr T.Pd (aa (pv 0) (aa (pv 1) da))) (Mq (Uj oe oe va (pv 2) (Ka rfl T.wg)))))),?_⟩;dsimp only[Cc];dsimp!;refine⟨v,kt,y,rfl,hv,_,rfl,Lb (λh=>?_) λh=>?_⟩
 ·have h:kt.today<=y/\y<=10000:=by simpa using h
  refine Lb (λh2=>?_) λh2=>?_
  ·have e:decide ((kt.today<=y/\y<=10000)/\1<=t/\t<=288)=decide ((t:Int)<=288):=decide_eq_decide.mpr (by lia);rw[<-e];exact k
  ·rw[decide_eq_false (by lia)] at k;exact k
 ·have h:¬(kt.today<=y/\y<=10000):=by simpa using h
  rw[decide_eq_false (λz=>h z.1)] at k;exact k
theorem Td.setMeal{A:Ad}{H H1:Hp}{b dx lg ll lr lm:Addr}{gs ls rs ms:List V}{k:Km382.Kitchen}(F:Td A H H1 b dx lg ll lr lm gs ls rs ms k)(sH:Aa H H1){i:Nat}{v:V}{o:Option Km382.Meal}(hv:Ah (vd A H) v o):Aa H (upd H1 lm (.lst (ms.set i v)))/\Td A H (upd H1 lm (.lst (ms.set i v))) b dx lg ll lr lm gs ls rs (ms.set i v) (k.setMeal i o):=by
 have sx:ab lm H1 (upd H1 lm (.lst (ms.set i v))):=bb;have sA:Aa H (upd H1 lm (.lst (ms.set i v))):=λc o hc=>sx _ _ (ka hc F.fm) (sH _ _ hc);obtain⟨h0,o0,c0,e,ob⟩:=F.st.ob;have nd:=F.nd;simp only[List.nodup_cons,List.mem_cons,List.not_mem_nil,or_false,not_or] at nd;have ni:∀{y C yd:Addr}{fs:List (Str×V)},H1 y=some (.ins C yd fs)->y≠lm:=λz=>Fb z F.st.hm (by intro q;cases q);refine⟨sA,⟨⟨h0,o0,c0,e,sx _ _ (ni ob) ob⟩,sx _ _ nd.1.2.2 F.st.hg,?_,sx _ _ nd.2.1.2 F.st.hl,?_,sx _ _ nd.2.2.1 F.st.hr,F.VS.mono λ_ _ z=>z.imp λ_ z=>z.mono sA,ia,?_⟩,F.fb,F.fg,F.fl,F.fr,F.fm,F.nd,F.gn,F.gf,F.VS⟩
 ·exact F.st.pg.mono λ_ _⟨ga,gdx,e,z⟩=>⟨ga,gdx,e,sx _ _ (ni z) z⟩
 ·exact F.st.pl.mono λ_ _⟨ga,gdx,e,z⟩=>⟨ga,gdx,e,sx _ _ (ni z) z⟩
 ·refine Mh (by show(ms.set i v).length=(k.meals.set i o).length;rw[List.length_set,List.length_set];exact F.st.pm.length) λj x y hx hy=>?_;have hy:(k.meals.set i o)[j]?=some y:=hy;by_cases hj:j=i
  ·subst hj;have hl1:j<ms.length:=by have:=(List.getElem?_eq_some_iff.mp hx).1;rwa [List.length_set] at this
   have hl2:j<k.meals.length:=by have:=(List.getElem?_eq_some_iff.mp hy).1;rwa [List.length_set] at this
   rw[List.getElem?_set_self hl1] at hx;rw[List.getElem?_set_self hl2] at hy;have e1:=Option.some.inj hx;have e2:=Option.some.inj hy;subst e1 e2;exact hv.imp λ_ z=>z.mono sA
  ·rw[List.getElem?_set_ne (Ne.symm hj)] at hx hy;obtain⟨y',hy',hz⟩:=Pc F.st.pm hx;rw[hy] at hy';have e2:=Option.some.inj hy';subst e2;exact hz.imp λ_⟨ga,gdx,e,z⟩=>⟨ga,gdx,e,sx _ _ (ni z) z⟩
def dG(K:PySem.W.Frag)(A:Ad):Sp:=λvs H Q _=>∃(v mv:V)(k:Km382.Kitchen)(i:Nat)(o:Option Km382.Meal),vs=[v,.int (i:Int),mv]/\kc A H v k/\KT.qc k/\Ah (vd A H) mv o/\i<12/\
 ∀H' b dx lg ll lr lm gs ls rs ms,Aa H H'->Td A H H' b dx lg ll lr lm gs ls rs ms (k.setMeal i o)->Q (.ref b) H'
theorem Tf(T:Txt K mg A):Ua P w K mg base nc 5 A.Av A.Tu ["state","place","meal"] (dG K A):=by
 refine T.De.F.Uc ["state","place","meal","new"] (by decide +kernel) λvs H Q E h nd=>?_;obtain⟨v,mv,kt,i,o,rfl,hv,hI,hm,hi,k⟩:=h;refine⟨rfl,λ_ _ _ _ hr=>?_⟩;refine⟨_,(ba (Pa (i:=3) nd rfl (Or.inl rfl) (pC (Qd T:) hr T.Gd (aa (pv 0) da)))
  (ba (WK (pv 2) (SK (pF (Za T) (pv 3)) (pv 1) set_list))
  (ja (oa (pv 3))))),?_⟩
 dsimp only[Cc];dsimp![rT,fI];refine⟨v,kt,rfl,hv,hI,λH1 b dx lg ll lr lm gs ls rs ms s1 F=>?_⟩;obtain⟨h0,o0,c0,e,ob⟩:=F.st.ob;have hml:=F.st.pm.length;have:=hI.Iq;obtain⟨s2,F2⟩:=F.setMeal s1 (i:=i) hm;dsimp!;exact⟨dx,_,ob,lm,rfl,ms,F.st.hm,i,Zw (by lia),k _ b dx lg ll lr lm gs ls rs _ s2 F2⟩
def VO(k:Km382.Kitchen)(n:Nat):V:=match k.meal n with
 |none=>.int (-2)
 |some x=>if x.done=true then .int (-17) else .Vb
def bp(K:PySem.W.Frag)(A:Ad):Sp:=λvs H Q _=>∃(v:V)(k:Km382.Kitchen)(n:Nat),vs=[v,.int (n:Int)]/\kc A H v k/\Q (VO k n) H
theorem tf(T:Txt K mg A):Ua P w K mg base nc 2 A.Zh A.Vh ["state","meal"] (bp K A):=by
 refine T.Zc.F.Uc ["state","meal"] (by decide +kernel) λvs H Q E h nd=>?_;obtain⟨v,kt,n,rfl,hv,k⟩:=h;have hv0:=hv;obtain⟨a,dx,lg,ll,lr,lm,gs,ls,rs,ms,rfl,s⟩:=hv;obtain⟨h0,o0,c0,_,ob⟩:=s.ob;unfold VO at k;refine⟨rfl,λ_ _ _ _ hr=>?_⟩;refine⟨_,(ba (Ma (Hb (Ob (pC (Ui T:) hr T.og (aa (pv 0) (aa (pv 1) da))))) (ja (oa (Ka rfl T.Gb))) za)
    (ba (Ma (Ob (pF (zj T) (vc K (pF (Za T) (pv 0)) (pv 1)))) (ja (oa (Ka rfl T.Pr))) za)
    (ja (oa ic)))),?_⟩
 dsimp only[Cc];dsimp!;refine⟨_,kt,n,rfl,hv0,_,rfl,?_⟩;cases hm:kt.meal n with
 |none=>
  rw[hm] at k;exact(if_pos rfl).mpr k
 |some x=>
  rw[hm] at k;obtain⟨mv,hmv,⟨ma,mdx,rfl,hma⟩,_⟩:=s.meal hm;unfold cg at hma;refine(if_neg (by simp)).mpr ⟨dx,_,ob,lm,rfl,ms,Ha.of s.hm,_,wa hmv,ma,rfl,mdx,_,hma,_,rfl,?_⟩;simp only at k;cases hd:x.done with
  |true=>
   rw[hd] at k;exact k
  |false=>
   rw[hd] at k;exact k
theorem bD{K:PySem.W.Frag}{mg:Str->Option Value}{A:Ad}{H:Hp}(T:Txt K mg A){rs:List V}{l:List (Option Km382.Meal)}(h:Paired (Ah (vd A H)) rs l):∀v∈rs,qx K H v:=λv hv=>by
 obtain⟨o,_,ho⟩:=Uk h v hv;cases o with
 |none=>exact .inl ho
 |some r=>
  obtain⟨ra,rdx,rfl,R⟩:=ho;exact .inr ⟨ra,_,rdx,_,rfl,R,T.CV⟩
def PF(K:PySem.W.Frag)(A:Ad):Sp:=λvs H Q _=>∃(p dx:Addr)(v0 v1 v2 v3 v4:V),vs=[.ref p,v0,v1,v2,v3,v4]/\H p=some (.ins A.ae dx [])/\∀H',H' p=some (.ins A.ae dx (de ⟨v0,v1,v2,v3,v4⟩))->ab p H H'->Q .Vb H'
theorem Gh(T:Txt K mg A):Ua P w K mg base nc 1 A.Nm A.Fm ["self","day","recipe","people","slot","cooked"] (PF K A):=by
 refine T.Cu.Uc ["self","day","recipe","people","slot","cooked"] (by decide +kernel) λvs H Q E h nd=>?_;obtain⟨p,dx,v0,v1,v2,v3,v4,rfl,hp,k⟩:=h;refine⟨rfl,λ_ _ _ _ hr=>?_⟩;refine⟨_,(ba (Xo K (pv 0) (pv 1))
  (ba (Xo K (pv 0) (pv 2))
  (ba (Xo K (pv 0) (pv 3))
  (ba (Xo K (pv 0) (pv 4))
  (ja (Xo K (pv 0) (pv 5))))))),?_⟩
 dsimp only[Cc];refine Pj rfl (λ_ q=>⟨_,rfl,q⟩) hp (λ_ _ _ e=>e) T.Fg T.qz (Nat.le_of_ble_eq_true rfl) (by kernel_rfl) λG h0 s0=>?_;refine Pj rfl (λ_ q=>⟨_,rfl,q⟩) h0 s0 T.Fg T.Np (Nat.le_of_ble_eq_true rfl) (by kernel_rfl) λG h1 s1=>?_;refine Pj rfl (λ_ q=>⟨_,rfl,q⟩) h1 s1 T.Fg T.Mp (Nat.le_of_ble_eq_true rfl) (by kernel_rfl) λG h2 s2=>?_;refine Pj rfl (λ_ q=>⟨_,rfl,q⟩) h2 s2 T.Fg T.Lv (Nat.le_of_ble_eq_true rfl) (by kernel_rfl) λG h3 s3=>?_;refine eX rfl (λ_ q=>⟨_,rfl,q⟩) h3 s3 T.Fg T.Lp (Nat.le_of_ble_eq_true rfl) (by kernel_rfl) λG h4 s4=>?_;exact k _ h4 s4
theorem jD(k:Km382.Kitchen)(y p t:Nat):Km382.okMeal k y p t=decide (((k.today<=y/\y<=10000)/\1<=t/\t<=288)/\1<=p/\p<=99):=by
 unfold Km382.okMeal Km382.DAYS Km382.SLOTS;rw[Bool.eq_iff_iff];simp only[Bool.and_eq_true,decide_eq_true_eq];lia
def NL(K:PySem.W.Frag)(A:Ad):Sp:=λvs H Q _=>∃(v:V)(k:Km382.Kitchen)(y r p t:Nat),vs=[v,.int (y:Int),.int (r:Int),.int (p:Int),.int (t:Int)]/\kc A H v k/\KT.qc k/\uc A H (KT.fc k (.plan y r p t)) Q
theorem IK(T:Txt K mg A):Ua P w K mg base nc 6 A.CC A.aC ["state","day","recipe","people","slot"] (NL K A):=by
 refine T.Dt.F.Uc ["state","day","recipe","people","slot","place"] (by decide +kernel) λvs H Q E h nd=>?_;obtain⟨v,kt,y,r,p,t,rfl,hv,hI,k⟩:=h;have e0:KT.fc kt (.plan y r p t)=(match kt.recipe r with
   |none=>(none,Km382.only (-2))
   |some _=>if Km382.okMeal kt y p t=false then(none,Km382.only (-22)) else match Km382.freeMeal kt.meals with
    |none=>(none,Km382.only (-28))
    |some i=>(some (kt.setMeal i (some ⟨y,r,p,t,false⟩)),Km382.only ((i:Nat):Int))):=rfl
 rw[jD,XN] at e0;have hv0:=hv;obtain⟨a,dx,lg,ll,lr,lm,gs,ls,rs,ms,rfl,s⟩:=hv;obtain⟨h0,o0,c0,_,ob⟩:=s.ob;refine⟨rfl,λ_ _ _ _ hr=>?_⟩;have hu8:=bR hr;refine⟨_,(ba (Ma (Hb (Ob (pC (Ig T:) hr T.Ke (aa (pv 0) (aa (pv 2) da))))) (ja (oa (pC (Ja T:) hr T.La (aa (Ka rfl T.Gb) da)))) za)
    (ba (Ma (PW.pt (dg (Hb (Ob (pC (Ti T:) hr T.Je (aa (pv 0) (aa (pv 1) (aa (pv 4) da)))))) (Zf (Hb (Ob (pC (xg T:) hr T.Ud (aa (pv 3) da))))))) (ja (oa (pC (Ja T:) hr T.La (aa (Ka rfl T.pb) da)))) za)
    (ba (Ma (Ca (Tp (K:=K) rfl hu8) ic (pF (Za T) (pv 0)) (by rfl)) (ja (oa (pC (Ja T:) hr T.La (aa (Ka rfl T.Mj) da)))) za)
    (ba (Pa (i:=5) nd rfl (Or.inl rfl) (Wf (K:=K) rfl PySem.F.plainAttrs_list PySem.F.slot_list_index PySem.F.type_list_index (Jp (K:=K) rfl hu8) (pF (Za T) (pv 0)) (aa ic da)))
    (ja (oa (pC (gc T:) hr T.jc (aa (pC (Tf T:) hr T.De (aa (pv 0) (aa (pv 5) (aa (pM (Gh T:) hr T.Cs T.iz T.Pg (aa (pv 1) (aa (pv 2) (aa (pv 3) (aa (pv 4) (aa Dh da)))))) da)))) (aa (Wa (aa (pv 5) da)) da))))))))),?_⟩
 dsimp only[Cc];dsimp![zF];refine⟨_,kt,r,rfl,hv0,_,rfl,?_⟩;cases hr':kt.recipe r with
 |none=>
  rw[hr'] at e0;exact(if_pos rfl).mpr (gb k e0 (Aa.refl _))
 |some rr=>
  rw[hr'] at e0;simp only at e0;have n22:¬(((kt.today<=y/\y<=10000)/\1<=t/\t<=288)/\1<=p/\p<=99)->Ai K A [V.int (-22)] H Q E0:=λz=>gb k (e0.trans (if_pos (decide_eq_false z))) (Aa.refl _);refine(if_neg (by simp)).mpr ⟨_,kt,y,t,rfl,hv0,_,rfl,Lb (λh1=>n22 (by have:=of_decide_eq_false h1;lia)) λh1=>⟨p,rfl,_,rfl,Lb (λh2=>n22 (by have:=of_decide_eq_false h2;lia)) λh2=>?_⟩⟩;have h1:(kt.today<=y/\y<=10000)/\1<=t/\t<=288:=Decidable.byContradiction λz=>h1 (decide_eq_false z);have h2:1<=p/\p<=99:=by simpa using h2
  rw[decide_eq_true ⟨h1,h2⟩,if_neg (by simp)] at e0;refine⟨dx,_,ob,lm,rfl,ms,Ha.of s.hm,bD T s.pm,?_⟩;rw[MC WE s.pm];cases hf:qE kt.meals with
  |none=>
   rw[hf] at e0;exact(if_pos rfl).mpr (gb k e0 (Aa.refl _))
  |some i=>
   rw[hf] at e0;simp only at e0;obtain⟨hi1,hi2⟩:=(Jy WE s.pm).mp hf;have hil:i<12:=by
    have h1:=(List.getElem?_eq_some_iff.mp hi1).1;have h2:=s.pm.length;have h3:=hI.Iq;lia
   refine(if_neg (by simp)).mpr ⟨dx,_,ob,.inl ⟨rfl,_,Ha.of s.hm⟩,lm,ms,i,rfl,rfl,Ha.of s.hm,bD T s.pm,hi1,hi2,λx xd hx hxd hne=>?_⟩;refine⟨x,xd,_,_,_,_,_,rfl,ia,λH1 h1 h2=>⟨rfl,?_⟩⟩;have s1:Aa H H1:=Aa.made hx hxd λy o e hy=>h2 y o hy e;refine⟨_,_,kt,i,some ⟨y,r,p,t,false⟩,rfl,hv0.mono s1,hI,⟨x,xd,rfl,h1⟩,hil,λH2 b dx lg ll lr lm gs ls rs ms s2 F=>?_⟩;dsimp!;refine⟨by decide,λq hq=>?_⟩;have s3:=qa (o:=.lst [V.int (i:Int)]) hq;exact ke k e0 ((s1.trans s2).trans s3) (F.at.mono s3) ia rfl
theorem ju(k:Km382.Kitchen)(n:Nat):(k.meal n=none/\VO k n=.int (-2))\/(∃x,k.meal n=some x/\x.done=true/\VO k n=.int (-17))\/∃x,k.meal n=some x/\x.done=false/\VO k n=.Vb:=by
 unfold VO;cases h:k.meal n with
 |none=>exact .inl ⟨rfl,rfl⟩
 |some x=>
  cases hd:x.done with
  |true=>exact .inr (.inl ⟨x,rfl,hd,by simp only[hd,if_true]⟩)
  |false=>exact .inr (.inr ⟨x,rfl,hd,by simp[hd]⟩)
def ML(K:PySem.W.Frag)(A:Ad):Sp:=λvs H Q _=>∃(v:V)(k:Km382.Kitchen)(n y t:Nat),vs=[v,.int (n:Int),.int (y:Int),.int (t:Int)]/\kc A H v k/\KT.qc k/\uc A H (KT.fc k (.move n y t)) Q
theorem HK(T:Txt K mg A):Ua P w K mg base nc 6 A.BC A.YB ["state","meal","day","slot"] (ML K A):=by
 refine T.Ct.F.Uc ["state","meal","day","slot","refusal","old"] (by decide +kernel) λvs H Q E h nd=>?_;obtain⟨v,kt,n,y,t,rfl,hv,hI,k⟩:=h;have e0:KT.fc kt (.move n y t)=(match kt.meal n with
   |none=>(none,Km382.only (-2))
   |some x=>if x.done=true then(none,Km382.only (-17)) else if Km382.okMeal kt y x.people t=false then(none,Km382.only (-22)) else(some (kt.setMeal n (some {x with day:=y,slot:=t})),Km382.only 0)):=rfl
 have hv0:=hv;obtain⟨a,dx,lg,ll,lr,lm,gs,ls,rs,ms,rfl,s⟩:=hv;obtain⟨h0,o0,c0,_,ob⟩:=s.ob;refine⟨rfl,λ_ _ _ _ hr=>?_⟩;refine⟨_,(ba (Pa (i:=4) nd rfl (Or.inl rfl) (pC (tf T:) hr T.Zc (aa (pv 0) (aa (pv 1) da))))
    (ba (Ma (Ca Vf (pv 4) ic (Ea _)) (ja (oa (pC (Ja T:) hr T.La (aa (pv 4) da)))) za)
    (ba (Ma (Hb (Ob (pC (Ti T:) hr T.Je (aa (pv 0) (aa (pv 2) (aa (pv 3) da)))))) (ja (oa (pC (Ja T:) hr T.La (aa (Ka rfl T.pb) da)))) za)
    (ba (Pa (i:=5) nd rfl (Or.inl rfl) (vc K (pF (Za T) (pv 0)) (pv 1)))
    (ja (oa (pC (gc T:) hr T.jc (aa (pC (Tf T:) hr T.De (aa (pv 0) (aa (pv 1) (aa (pM (Gh T:) hr T.Cs T.iz T.Pg (aa (pv 2) (aa (pF (Wc T) (pv 5)) (aa (pF (Lg T) (pv 5)) (aa (pv 3) (aa Dh da)))))) da)))) (aa (Wa (aa va da)) da))))))))),?_⟩
 dsimp only[Cc];dsimp!;refine⟨_,kt,n,rfl,hv0,?_⟩;rcases ju kt n with⟨hm,er⟩|⟨x,hm,hd,er⟩|⟨x,hm,hd,er⟩
 ·rw[er];rw[hm] at e0;dsimp![not_false_eq_true];exact gb k e0 (Aa.refl _)
 ·rw[er];rw[hm] at e0;simp only[hd,if_true] at e0;dsimp![not_false_eq_true];exact gb k e0 (Aa.refl _)
 ·rw[er];rw[hm] at e0;simp only at e0;rw[if_neg (by rw[hd];decide)] at e0;have hx12:=KT.Ye hI hm;have hM:=hI.meals x hx12.2;rw[jD] at e0;dsimp!;refine⟨_,kt,y,t,rfl,hv0,_,rfl,Lb (λh1=>gb k (e0.trans (if_pos (decide_eq_false λz=>of_decide_eq_false h1 z.1))) (Aa.refl _)) λh1=>?_⟩;have h1:(kt.today<=y/\y<=10000)/\1<=t/\t<=288:=Decidable.byContradiction λz=>h1 (decide_eq_false z);rw[decide_eq_true ⟨h1,hM.people⟩,if_neg (by simp)] at e0;obtain⟨mv,hmv,⟨ma,mdx,rfl,hma⟩,_⟩:=s.meal hm;unfold cg at hma;refine⟨dx,_,ob,lm,rfl,ms,Ha.of s.hm,_,wa hmv,ma,rfl,mdx,_,hma,ma,rfl,mdx,_,hma,λz zd hz hzd hne=>?_⟩;refine⟨z,zd,_,_,_,_,_,rfl,ia,λH1 h1 h2=>⟨rfl,?_⟩⟩;have s1:Aa H H1:=Aa.made hz hzd λy o e hy=>h2 y o hy e;refine⟨_,_,kt,n,some {x with day:=y,slot:=t},rfl,hv0.mono s1,hI,⟨z,zd,rfl,by unfold cg;rw[hd];exact h1⟩,hx12.1,λH2 b dx lg ll lr lm gs ls rs ms s2 F=>?_⟩;dsimp!;refine⟨by decide,λq hq=>?_⟩;have s3:=qa (o:=.lst [V.int 0]) hq;exact ke k e0 ((s1.trans s2).trans s3) (F.at.mono s3) ia rfl
def SF(K:PySem.W.Frag)(A:Ad):Sp:=λvs H Q _=>∃(v:V)(k:Km382.Kitchen)(n p:Nat),vs=[v,.int (n:Int),.int (p:Int)]/\kc A H v k/\KT.qc k/\uc A H (KT.fc k (.people n p)) Q
theorem cF(T:Txt K mg A):Ua P w K mg base nc 6 A.Wu A.Ku ["state","meal","n"] (SF K A):=by
 refine T.qm.F.Uc ["state","meal","n","refusal","old"] (by decide +kernel) λvs H Q E h nd=>?_;obtain⟨v,kt,n,p,rfl,hv,hI,k⟩:=h;have e0:KT.fc kt (.people n p)=(match kt.meal n with
   |none=>(none,Km382.only (-2))
   |some x=>if x.done=true then(none,Km382.only (-17)) else if p=0\/99<p then(none,Km382.only (-22)) else(some (kt.setMeal n (some {x with people:=p})),Km382.only 0)):=rfl
 have hv0:=hv;obtain⟨a,dx,lg,ll,lr,lm,gs,ls,rs,ms,rfl,s⟩:=hv;obtain⟨h0,o0,c0,_,ob⟩:=s.ob;refine⟨rfl,λ_ _ _ _ hr=>?_⟩;refine⟨_,(ba (Pa (i:=3) nd rfl (Or.inl rfl) (pC (tf T:) hr T.Zc (aa (pv 0) (aa (pv 1) da))))
    (ba (Ma (Ca Vf (pv 3) ic (Ea _)) (ja (oa (pC (Ja T:) hr T.La (aa (pv 3) da)))) za)
    (ba (Ma (Hb (Ob (pC (xg T:) hr T.Ud (aa (pv 2) da)))) (ja (oa (pC (Ja T:) hr T.La (aa (Ka rfl T.pb) da)))) za)
    (ba (Pa (i:=4) nd rfl (Or.inl rfl) (vc K (pF (Za T) (pv 0)) (pv 1)))
    (ja (oa (pC (gc T:) hr T.jc (aa (pC (Tf T:) hr T.De (aa (pv 0) (aa (pv 1) (aa (pM (Gh T:) hr T.Cs T.iz T.Pg (aa (pF (Sd T) (pv 4)) (aa (pF (Wc T) (pv 4)) (aa (pv 2) (aa (pF (kh T) (pv 4)) (aa Dh da)))))) da)))) (aa (Wa (aa va da)) da))))))))),?_⟩
 dsimp only[Cc];dsimp!;refine⟨_,kt,n,rfl,hv0,?_⟩;rcases ju kt n with⟨hm,er⟩|⟨x,hm,hd,er⟩|⟨x,hm,hd,er⟩
 ·rw[er];rw[hm] at e0;dsimp![not_false_eq_true];exact gb k e0 (Aa.refl _)
 ·rw[er];rw[hm] at e0;simp only[hd,if_true] at e0;dsimp![not_false_eq_true];exact gb k e0 (Aa.refl _)
 ·rw[er];rw[hm] at e0;simp only at e0;rw[if_neg (by rw[hd];decide)] at e0;have hx12:=KT.Ye hI hm;dsimp!;refine⟨p,rfl,_,rfl,Lb (λh1=>gb k (e0.trans (if_pos (by have:=of_decide_eq_false h1;lia))) (Aa.refl _)) λh1=>?_⟩;have h1:1<=p/\p<=99:=by simpa using h1
  rw[if_neg (by lia)] at e0;obtain⟨mv,hmv,⟨ma,mdx,rfl,hma⟩,_⟩:=s.meal hm;unfold cg at hma;refine⟨dx,_,ob,lm,rfl,ms,Ha.of s.hm,_,wa hmv,ma,rfl,mdx,_,hma,ma,rfl,mdx,_,hma,ma,rfl,mdx,_,hma,λz zd hz hzd hne=>?_⟩;refine⟨z,zd,_,_,_,_,_,rfl,ia,λH1 h1 h2=>⟨rfl,?_⟩⟩;have s1:Aa H H1:=Aa.made hz hzd λy o e hy=>h2 y o hy e;refine⟨_,_,kt,n,some {x with people:=p},rfl,hv0.mono s1,hI,⟨z,zd,rfl,by unfold cg;rw[hd];exact h1⟩,hx12.1,λH2 b dx lg ll lr lm gs ls rs ms s2 F=>?_⟩;dsimp!;refine⟨by decide,λq hq=>?_⟩;have s3:=qa (o:=.lst [V.int 0]) hq;exact ke k e0 ((s1.trans s2).trans s3) (F.at.mono s3) ia rfl
def VF(K:PySem.W.Frag)(A:Ad):Sp:=λvs H Q _=>∃(v:V)(k:Km382.Kitchen)(n:Nat),vs=[v,.int (n:Int)]/\kc A H v k/\KT.qc k/\uc A H (KT.fc k (.unplan n)) Q
theorem fF(T:Txt K mg A):Ua P w K mg base nc 6 A.Yu A.Mu ["state","meal"] (VF K A):=by
 refine T.tm.F.Uc ["state","meal"] (by decide +kernel) λvs H Q E h nd=>?_;obtain⟨v,kt,n,rfl,hv,hI,k⟩:=h;have e0:KT.fc kt (.unplan n)=(match kt.meal n with
   |none=>(none,Km382.only (-2))
   |some _=>(some (kt.setMeal n none),Km382.only 0)):=rfl
 refine⟨rfl,λ_ _ _ _ hr=>?_⟩;refine⟨_,(ba (Ma (Hb (Ob (pC (Ui T:) hr T.og (aa (pv 0) (aa (pv 1) da))))) (ja (oa (pC (Ja T:) hr T.La (aa (Ka rfl T.Gb) da)))) za)
    (ja (oa (pC (gc T:) hr T.jc (aa (pC (Tf T:) hr T.De (aa (pv 0) (aa (pv 1) (aa ic da)))) (aa (Wa (aa va da)) da)))))),?_⟩
 dsimp only[Cc];dsimp!;refine⟨v,kt,n,rfl,hv,_,rfl,?_⟩;cases hm:kt.meal n with
 |none=>
  rw[hm] at e0;exact(if_pos rfl).mpr (gb k e0 (Aa.refl _))
 |some x=>
  rw[hm] at e0;refine(if_neg (by simp)).mpr ⟨v,_,kt,n,none,rfl,hv,hI,rfl,(KT.Ye hI hm).1,λH2 b dx lg ll lr lm gs ls rs ms s2 F=>?_⟩;dsimp!;refine⟨by decide,λq hq=>?_⟩;have s3:=qa (o:=.lst [V.int 0]) hq;exact ke k e0 (s2.trans s3) (F.at.mono s3) ia rfl
def LL(K:PySem.W.Frag)(A:Ad):Sp:=λvs H Q _=>∃(v:V)(k:Km382.Kitchen)(n:Nat),vs=[v,.int (n:Int)]/\kc A H v k/\KT.qc k/\uc A H (KT.fc k (.meal n)) Q
theorem GK(T:Txt K mg A):Ua P w K mg base nc 2 A.zC A.XB ["state","meal"] (LL K A):=by
 refine T.Bt.F.Uc ["state","meal","which","cooked"] (by decide +kernel) λvs H Q E h nd=>?_;obtain⟨v,kt,n,rfl,hv,hI,k⟩:=h;have e0:KT.fc kt (.meal n)=(none,match kt.meal n with
   |none=>Km382.only (-2)
   |some x=>⟨((Km382.bit x.done:Nat):Int),[x.day,x.recipe,x.people,x.slot]⟩):=rfl
 have hv0:=hv;obtain⟨a,dx,lg,ll,lr,lm,gs,ls,rs,ms,rfl,s⟩:=hv;obtain⟨h0,o0,c0,_,ob⟩:=s.ob;refine⟨rfl,λ_ _ _ _ hr=>?_⟩;refine⟨_,(ba (Ma (Hb (Ob (pC (Ui T:) hr T.og (aa (pv 0) (aa (pv 1) da))))) (ja (oa (pC (Ja T:) hr T.La (aa (Ka rfl T.Gb) da)))) za)
    (ba (Pa (i:=2) nd rfl (Or.inl rfl) (vc K (pF (Za T) (pv 0)) (pv 1)))
    (ba (Pa (i:=3) nd rfl (Or.inl rfl) (Lz (Ob (pF (zj T) (pv 2))) va va))
    (ja (oa (pC (Bf T:) hr T.Of (aa (Wa (aa (pv 3) (aa (pF (Sd T) (pv 2)) (aa (pF (Wc T) (pv 2)) (aa (pF (Lg T) (pv 2)) (aa (pF (kh T) (pv 2)) da)))))) da))))))),?_⟩
 dsimp only[Cc];dsimp!;refine⟨_,kt,n,rfl,hv0,_,rfl,?_⟩;cases hm:kt.meal n with
 |none=>
  rw[hm] at e0;exact(if_pos rfl).mpr (gb k e0 (Aa.refl _))
 |some x=>
  rw[hm] at e0;simp only at e0;obtain⟨mv,hmv,⟨ma,mdx,rfl,hma⟩,_⟩:=s.meal hm;unfold cg at hma;refine(if_neg (by simp)).mpr ⟨dx,_,ob,lm,rfl,ms,Ha.of s.hm,_,wa hmv,ma,rfl,mdx,_,hma,_,rfl,?_⟩;cases hd:x.done with
  |true=>
   refine(if_pos rfl).mpr ⟨ma,rfl,mdx,_,hma,ma,rfl,mdx,_,hma,ma,rfl,mdx,_,hma,ma,rfl,mdx,_,hma,by decide,λp hp=>?_⟩;exact Jd k e0 (qa hp) ia (by rw[hd];rfl)
  |false=>
   refine(if_neg (by simp)).mpr ⟨ma,rfl,mdx,_,hma,ma,rfl,mdx,_,hma,ma,rfl,mdx,_,hma,ma,rfl,mdx,_,hma,by decide,λp hp=>?_⟩;exact Jd k e0 (qa hp) ia (by rw[hd];rfl)
theorem XD(n:Nat):∀l:List (Option Km382.Meal),(l.filterMap λo=>o.map λm=>V.bl (decide (m.recipe=n)))=(l.filterMap λo=>o.map λm=>decide (m.recipe=n)).map V.bl/\(l.filterMap λo=>o.map λm=>decide (m.recipe=n)).any id=l.any λm=>match m with
  |none=>false
  |some x=>x.recipe==n
 |[]=>⟨rfl,rfl⟩
 |none::l=>XD n l
 |some m::l=>by
  obtain⟨h1,h2⟩:=XD n l;refine⟨?_,?_⟩
  ·rw[List.filterMap_cons,List.filterMap_cons,Option.map_some,Option.map_some,List.map_cons,h1]
  ·rw[List.filterMap_cons,Option.map_some,List.any_cons,List.any_cons,h2];rfl
def wB(K:PySem.W.Frag)(A:Ad):Sp:=λvs H Q _=>∃(v:V)(k:Km382.Kitchen)(n:Nat),vs=[v,.int (n:Int)]/\kc A H v k/\KT.qc k/\∀H',Aa H H'->Q (.bl (KT.Oy k n)) H'
theorem YA(T:Txt K mg A):Ua P w K mg base nc 1 A.Jr A.Br ["state","recipe"] (wB K A):=by
 refine T.uk.F.Uc ["state","recipe","meal"] (by decide +kernel) λvs H Q E h nd=>?_;obtain⟨v,kt,n,rfl,hv,hI,k⟩:=h;have hzl:=ak;obtain⟨a,dx,lg,ll,lr,lm,gs,ls,rs,ms,rfl,s⟩:=hv;obtain⟨h0,o0,c0,_,ob⟩:=s.ob;have hml:=s.pm.length;have:=hI.Iq;refine⟨rfl,λ_ _ _ _ hr=>?_⟩;refine⟨_,(ja (oa (Oa (gT K rfl) rfl T.jY mV (aa (Fe rfl nd (iu K (pF (Za T) (pv 0))) (own:=[("meal",2)]) (bc (show Cb ["state","recipe","meal"] (Ra Us) _ [("meal",2)]=true from by decide +kernel)) (λ_ _ _ _ _=>Va (i:=2) nd rfl (Or.inl rfl)) (λ_ _ _ _ _=>se (Ca Vf (pv 2) ic (Ea _))) (λ_ _ _ _ _=>(qe Rb (pF (Wc T) (pv 2)) (pv 1) (Ea _)))) da)))),?_⟩;dsimp only[Cc];dsimp!;refine⟨dx,_,ob,lm,rfl,⟨_,Ha.of s.hm⟩,rh s.pm (λo=>o.map λm=>V.bl (decide (m.recipe=n))) (qb (Ha.of s.hm)) (by lia) (λj x m H1 R hm hx hs r=>?_) λD H1 hD h1 h2=>?_⟩
 ·dsimp![wipe];cases m with
  |none=>
   have hx:x=.Vb:=hx;subst hx;exact r H1 (Aa.refl _)
  |some m=>
   obtain⟨ma,mdx,rfl,hma⟩:=hx;unfold cg at hma;refine(if_pos (λz=>by cases z)).mpr ⟨ma,rfl,mdx,_,hs _ _ hma,rfl,?_⟩;have e:decide (V.int (m.recipe:Int)=V.int (n:Int))=decide (m.recipe=n):=decide_eq_decide.mpr ⟨λz=>by have:=V.int.inj z;lia,λz=>by rw[z]⟩;rw[e];exact r H1 (Aa.refl _)
 ·obtain⟨e1,e2⟩:=XD n kt.meals;refine⟨D,rfl,_,Ha.of (by rw[h1,e1]),?_⟩;rw[e2];exact k H1 h2
def IL(K:PySem.W.Frag)(A:Ad):Sp:=λvs H Q _=>∃(v:V)(k:Km382.Kitchen)(n:Nat),vs=[v,.int (n:Int)]/\kc A H v k/\KT.qc k/\uc A H (KT.fc k (.drop n)) Q
theorem DK(T:Txt K mg A):Ua P w K mg base nc 5 A.wC A.UB ["state","recipe"] (IL K A):=by
 refine T.xt.F.Uc ["state","recipe","new"] (by decide +kernel) λvs H Q E h nd=>?_;obtain⟨v,kt,n,rfl,hv,hI,k⟩:=h;have e0:KT.fc kt (.drop n)=(match kt.recipe n with
   |none=>(none,Km382.only (-2))
   |some _=>if KT.Oy kt n=true then(none,Km382.only (-16)) else(some {kt with recipes:=kt.recipes.set n none},Km382.only 0)):=rfl
 refine⟨rfl,λ_ _ _ _ hr=>?_⟩;refine⟨_,(ba (Ma (Hb (Ob (pC (Ig T:) hr T.Ke (aa (pv 0) (aa (pv 1) da))))) (ja (oa (pC (Ja T:) hr T.La (aa (Ka rfl T.Gb) da)))) za)
    (ba (Ma (Ob (pC (YA T:) hr T.uk (aa (pv 0) (aa (pv 1) da)))) (ja (oa (pC (Ja T:) hr T.La (aa (Ka rfl T.OQ) da)))) za)
    (ba (Pa (i:=2) nd rfl (Or.inl rfl) (pC (Qd T:) hr T.Gd (aa (pv 0) da)))
    (ba (WK ic (SK (pF (rb T) (pv 2)) (pv 1) set_list))
    (ja (oa (pC (gc T:) hr T.jc (aa (pv 2) (aa (Wa (aa va da)) da))))))))),?_⟩
 dsimp only[Cc];dsimp!;refine⟨v,kt,n,rfl,hv,_,rfl,?_⟩;cases hr':kt.recipe n with
 |none=>
  rw[hr'] at e0;exact(if_pos rfl).mpr (gb k e0 (Aa.refl _))
 |some rr=>
  rw[hr'] at e0;simp only at e0;refine(if_neg (by simp)).mpr ⟨v,kt,n,rfl,hv,hI,λH1 s1=>⟨_,rfl,Lb (λh=>gb k (e0.trans (if_pos h)) s1) λh=>?_⟩⟩;rw[if_neg h] at e0;refine⟨v,kt,rfl,hv.mono s1,hI,λH2 b dx lg ll lr lm gs ls rs ms s2 F=>?_⟩;obtain⟨h5,o5,c5,e5,ob5⟩:=F.st.ob;dsimp![rT,fI];obtain⟨s6,st6⟩:=F.rS s2 (i:=n) (v:=.Vb) (o:=none) rfl;have hil:n<rs.length:=by
   have h1:=(KT.Cg hI hr').1;have h2:=hI.Qs;have h3:=F.VS.length;lia
  refine⟨dx,_,ob5,lr,rfl,rs,F.st.hr,n,Zw hil,by decide,λp' hp'=>?_⟩;have s7:=qa (o:=.lst [V.int 0]) hp';exact ke k e0 (s1.trans (s6.trans s7)) (st6.mono s7) ia rfl
def JY(A:Ad)(H:Hp)(ll D:Addr)(g n d:Nat)(xs:List Km382.Lot)(i:Nat)(σ:L2.St)(H':Hp):Prop:=∃(v5 v6:Option V)(us:List V),σ=[some (.ref ll),some (.int (g:Int)),some (.int (((Km382.takeLots g d n (xs.take i)).2:Nat):Int)),some (.int (d:Int)),some (.ref D),v5,v6]/\ab D H H'/\H' D=some (.lst us)/\Paired (Ng A H') us (Km382.takeLots g d n (xs.take i)).1
def Lw(K:PySem.W.Frag)(A:Ad):Sp:=λvs H Q _=>∃(ll:Addr)(ls:List V)(xs:List Km382.Lot)(g n d:Nat),vs=[.ref ll,.int (g:Int),.int (n:Int),.int (d:Int)]/\H ll=some (.lst ls)/\Paired (Ng A H) ls xs/\xs.length<=32/\
 ∀H' p D us,Aa H H'->H' p=some (.tup [.ref D,.int (((Km382.takeLots g d n xs).2:Nat):Int)])->H D=none->H' D=some (.lst us)->Paired (Ng A H') us (Km382.takeLots g d n xs).1->Q (.ref p) H'
theorem Il(T:Txt K mg A):Ua P w K mg base nc 3 A.Sm A.Jm ["lots","good","units","day"] (Lw K A):=by
 refine T.Nf.F.Uc ["lots","good","units","day","left","lot","share"] (by decide +kernel) λvs H Q E h nd=>?_;obtain⟨ll,ls,xs,g,n,d,rfl,hll,hP,h32,k⟩:=h;have hzl:=ak;have hlen:=hP.length;refine⟨rfl,λ_ _ _ _ hr=>?_⟩;refine⟨_,(ba (Pa (i:=4) nd rfl (Or.inl rfl) (Wa da))
    (ba (Ag PassesOwn.never rfl (iu K (pv 0)) (Va (i:=5) nd rfl (Or.inl rfl)) (ba (Ma (PW.pt (dg (Ca Ks (pF (Ci T) (pv 5)) (pv 1) (Ea _)) (Zf (Ca An (pv 3) (pF (Bd T) (pv 5)) (Ea _))))) (ba (df (Wf (K:=K) rfl PySem.F.plainAttrs_list PySem.F.slot_list_append PySem.F.type_list_append Ze (pv 4) (aa (pv 5) da)))
    (ja cI)) za)
    (ba (Pa (i:=6) nd rfl (Or.inl rfl) (Oa (RN rfl) rfl T.VU kQ (aa (pv 2) (aa (pF (Lf T) (pv 5)) da))))
    (ba (yF (i:=2) nd rfl (Or.inl rfl) (pv 6) RV)
    (ja (Ma (Ca Kl (pv 6) (pF (Lf T) (pv 5)) (Ea _)) (ja (df (Wf (K:=K) rfl PySem.F.plainAttrs_list PySem.F.slot_list_append PySem.F.type_list_append Ze (pv 4) (aa (pM (Nv T:) hr T.wK T.wR T.iq (aa (pv 1) (aa (Sb Sk (pF (Lf T) (pv 5)) (pv 6)) (aa (pF (Bd T) (pv 5)) da)))) da)))) za))))))
    (ja (oa (xi (aa (pv 4) (aa (pv 2) da))))))),?_⟩
 dsimp only[Cc];dsimp!;refine⟨by decide,λD hD=>⟨⟨_,Ha.of ((ua (ka hll hD)).trans hll)⟩,?_⟩⟩;have nD:ll≠D:=ka hll hD;refine Fo (xs:=ls) (JY A H ll D g n d xs) ⟨none,none,[],rfl,bb,ia,.nil⟩ (λi σ H' _⟨_,_,_,_,z,_⟩=>Ha.of (z _ _ nD hll)) ?_ ?_
 ·rintro i v σ H' hi ⟨v5,v6,us,rfl,sx,hD',hus⟩;obtain⟨x,hx,hxv⟩:=Pc hP hi;obtain⟨xa,xdx,rfl,hxa⟩:=hxv;have sH:=sx.same hD;have hxa':=sH _ _ hxa;have e1:=take_snoc hx;have e2:=KT.xj g d x (xs.take i) n;rw[<-e1] at e2;have hul:=hus.length;have htl:=KT.jf (g:=g) (day:=d) (l:=xs.take i) (n:=n);rw[List.length_take] at htl;have hz:us.length<sizeLine:=by lia
  have nxD:∀{y C yd:Addr}{fs:List (Str×V)},H' y=some (.ins C yd fs)->y≠D:=λz=>Fb z hD' (by intro q;cases q);have tD:iY K "list" (V.ref D) H':=.inl ⟨rfl,_,Ha.of hD'⟩;have keep:¬(x.good=g/\d<=x.last)->JY A H ll D g n d xs (i+1) [some (.ref ll),some (.int (g:Int)),some (.int (((Km382.takeLots g d n (xs.take i)).2:Nat):Int)),some (.int (d:Int)),some (.ref D),some (.ref xa),v6] (upd H' D (.lst (us++[.ref xa]))):=λhn=>by
   rw[if_neg hn] at e2;refine⟨some (.ref xa),v6,_,?_,sx.trans bb,ia,?_⟩
   ·rw[e2]
   ·rw[e2];exact Paired.snoc (hus.mono λ_ _⟨ya,yd,e,z⟩=>⟨ya,yd,e,(ua (nxD z)).trans z⟩) ⟨xa,xdx,rfl,(ua (nxD hxa')).trans hxa'⟩
  dsimp![Ms,OU];refine⟨xdx,_,hxa',rfl,Lb (λh=>?_) λh=>?_⟩
  ·refine⟨tD,us,hD',hz,keep λz=>h (by rw[z.1])⟩
  have hg:x.good=g:=by have:=V.int.inj (Decidable.not_not.mp h);lia
  refine⟨xdx,_,hxa',_,rfl,Lb (λh2=>?_) λh2=>?_⟩
  ·exact⟨tD,us,hD',hz,keep λz=>by lia⟩
  have hd:d<=x.last:=by lia
  rw[if_pos ⟨hg,hd⟩] at e2;dsimp![yS,QV,Ms];refine⟨xdx,_,hxa',_,rfl,xdx,_,hxa',_,rfl,?_⟩;have fin:∀(H3:Hp)(us':List V)(r1:List Km382.Lot)(r2:Nat),Km382.takeLots g d n (xs.take (i+1))=(r1,r2)->ab D H H3->H3 D=some (.lst us')->Paired (Ng A H3) us' r1->∀(v6:Option V)(z:Int),z=(r2:Int)->JY A H ll D g n d xs (i+1) [some (.ref ll),some (.int (g:Int)),some (.int z),some (.int (d:Int)),some (.ref D),some (.ref xa),v6] H3:=λH3 us' r1 r2 e hs h3 hp v6 z hz=>by
   subst hz;exact⟨some (.ref xa),v6,us',by rw[e],hs,h3,by rw[e];exact hp⟩
  generalize (Km382.takeLots g d n (xs.take i)).2=r2 at e2⊢;generalize (Km382.takeLots g d n (xs.take i)).1=r1 at e2 hus;have em:(if((x.units:Nat):Int)<(r2:Int) then((x.units:Nat):Int) else(r2:Int))=((min r2 x.units:Nat):Int):=by split<;>lia
  rw[em];refine Lb (λh3=>?_) λh3=>?_
  ·rw[if_neg (by lia)] at e2;refine⟨tD,xdx,_,hxa',_,rfl,xdx,_,hxa',λy yd hy hyd hne=>?_⟩;refine⟨y,yd,_,_,_,rfl,ia,λH3 h3' h3x=>⟨rfl,us,?_⟩⟩;have s3:Aa H' H3:=Aa.made hy hyd λb o e hb=>h3x b o hb e;have hD3:=s3 _ _ hD';have n3:∀{y C yd:Addr}{fs:List (Str×V)},H3 y=some (.ins C yd fs)->y≠D:=λz=>Fb z hD3 (by intro q;cases q);refine⟨hD3,hz,fin _ _ _ _ e2 ((sx.trans (s3.x D)).trans bb) ia (Paired.snoc (hus.mono λ_ _⟨ya,yd',e,z⟩=>⟨ya,yd',e,(ua (n3 (s3 _ _ z))).trans (s3 _ _ z)⟩) ⟨y,yd,rfl,(ua (n3 h3')).trans ?_⟩) _ _ (by lia)⟩;rw[h3'];have c1:((x.units-min r2 x.units:Nat):Int)=(x.units:Int)-((min r2 x.units:Nat):Int):=by lia
   show some (HO.ins A.Oh yd (Yj ⟨.int (g:Int),.int ((x.units:Int)-((min r2 x.units:Nat):Int)),.int (x.last:Int)⟩))=some (HO.ins A.Oh yd (Yj ⟨.int (x.good:Int),.int ((x.units-min r2 x.units:Nat):Int),.int (x.last:Int)⟩));rw[c1,hg]
  ·rw[if_pos (by lia),List.append_nil] at e2;exact fin _ _ _ _ e2 sx hD' hus _ _ (by lia)
 ·rintro σ H' ⟨v5,v6,us,rfl,sx,hD',hus⟩;rw[hlen,List.take_length] at hus;rw[hlen,List.take_length];dsimp!;refine⟨by decide,λp hp=>?_⟩;have s2:=qa (o:=.tup [V.ref D,V.int (((Km382.takeLots g d n xs).2:Nat):Int)]) hp;exact k _ p D us ((sx.same hD).trans s2) ia hD (s2 _ _ hD') (hus.mono λ_ _ z=>z.mono s2)
def qP(K:PySem.W.Frag)(A:Ad):Sp:=λvs H Q _=>∃(v:V)(m:Km382.Meal),vs=[v]/\vd A H v m/\∀H' a,Aa H H'->vd A H' (.ref a) {m with done:=true}->Q (.ref a) H'
theorem FO(T:Txt K mg A):Ua P w K mg base nc 3 A.LG A.CG ["meal"] (qP K A):=by
 refine T.Dx.F.Uc ["meal"] (by decide +kernel) λvs H Q E h nd=>?_;obtain⟨v,m,rfl,hv,k⟩:=h;obtain⟨a,dx,rfl,ha⟩:=hv;unfold cg at ha;refine⟨rfl,λ_ _ _ _ hr=>?_⟩;refine⟨_,(ja (oa (pM (Gh T:) hr T.Cs T.iz T.Pg (aa (pF (Sd T) (pv 0)) (aa (pF (Wc T) (pv 0)) (aa (pF (Lg T) (pv 0)) (aa (pF (kh T) (pv 0)) (aa Dh da)))))))),?_⟩;dsimp only[Cc];dsimp!;refine⟨dx,_,ha,dx,_,ha,dx,_,ha,dx,_,ha,λx xd hx hxd hne=>?_⟩;refine⟨x,xd,_,_,_,_,_,rfl,ia,λH1 h1 h2=>⟨rfl,?_⟩⟩;exact k H1 x (Aa.made hx hxd λb o e hb=>h2 b o hb e) ⟨x,xd,rfl,h1⟩
def jX(A:Ad)(H1:Hp)(a ma b dx lg lr lm:Addr)(gs rs ms:List V)(kt:Km382.Kitchen)(x:Km382.Meal)(n i:Nat)(σ:L2.St)(H':Hp):Prop:=∃(v5 v6 v7:Option V)(l2:Addr)(ls2:List V)(lts:List Km382.Lot),σ=[some (.ref a),some (.int (n:Int)),some .Vb,some (.ref ma),some (.ref b),v5,v6,v7]/\Aa H1 H'/\
 Km382.takeAll kt x (List.range i) kt.lots=some lts/\Td A H1 H' b dx lg l2 lr lm gs ls2 rs ms {(kt.setMeal n (some {x with done:=true})) with lots:=lts,goods:=KT.bt kt x i}
theorem jI{i n:Nat}(h:i<n):∃l,List.range n=List.range (i+1)++l:=by
 refine⟨List.range' (i+1) (n-(i+1)),?_⟩;rw[List.range_eq_range',List.range_eq_range',show n=(i+1)+(n-(i+1)) by lia,<-List.range'_append_1,Nat.zero_add,show(i+1)+(n-(i+1))-(i+1)=n-(i+1) by lia]
def GL(K:PySem.W.Frag)(A:Ad):Sp:=λvs H Q _=>∃(v:V)(k:Km382.Kitchen)(n:Nat),vs=[v,.int (n:Int)]/\kc A H v k/\KT.qc k/\uc A H (KT.fc k (.cook n)) Q
theorem BK(T:Txt K mg A):Ua P w K mg base nc 6 A.uC A.RB ["state","meal"] (GL K A):=by
 refine T.vt.F.Uc ["state","meal","refusal","which","new","good","units","found"] (by decide +kernel) λvs H Q E h nd=>?_;obtain⟨v,kt,n,rfl,hv,hI,k⟩:=h;have hzl:=ak;have e0:KT.fc kt (.cook n)=(match kt.meal n with
   |none=>(none,Km382.only (-2))
   |some x=>if x.done=true then(none,Km382.only (-17)) else if x.day≠kt.today then(none,Km382.only (-16)) else match Km382.takeAll kt x (List.range kt.goods.length) kt.lots with
    |none=>(none,Km382.only (-61))
    |some l=>(some {(kt.setMeal n (some {x with done:=true})) with lots:=l,goods:=Km382.useAll kt x},Km382.only ((l.length:Nat):Int))):=rfl
 have hv0:=hv;obtain⟨a,dx0,lg0,ll0,lr0,lm0,gs0,ls0,rs0,ms0,rfl,s⟩:=hv;obtain⟨h0,o0,c0,_,ob⟩:=s.ob;refine⟨rfl,λ_ _ _ _ hr=>?_⟩;refine⟨_,(ba (Pa (i:=2) nd rfl (Or.inl rfl) (pC (tf T:) hr T.Zc (aa (pv 0) (aa (pv 1) da))))
    (ba (Ma (Ca Vf (pv 2) ic (Ea _)) (ja (oa (pC (Ja T:) hr T.La (aa (pv 2) da)))) za)
    (ba (Pa (i:=3) nd rfl (Or.inl rfl) (vc K (pF (Za T) (pv 0)) (pv 1)))
    (ba (Ma (Ca Ks (pF (Sd T) (pv 3)) (pF (Nb T) (pv 0)) (Ea _)) (ja (oa (pC (Ja T:) hr T.La (aa (Ka rfl T.dH) da)))) za)
    (ba (Pa (i:=4) nd rfl (Or.inl rfl) (pC (Tf T:) hr T.De (aa (pv 0) (aa (pv 1) (aa (pC (FO T:) hr T.Dx (aa (pv 3) da)) da)))))
    (ba (Ag PassesOwn.never rfl (pD rfl T.To (aa (Oa (Ga (K:=K) rfl) rfl T.Zb Eb (aa (pF (cb T) (pv 0)) da)) da)) (Va (i:=5) nd rfl (Or.inl rfl)) (ba (Pa (i:=6) nd rfl (Or.inl rfl) (pC (kD T:) hr T.qr (aa (pv 0) (aa (pv 3) (aa (pv 5) da)))))
    (ba (Pa (i:=7) nd rfl (Or.inl rfl) (pC (Il T:) hr T.Nf (aa (pF (Qb T) (pv 4)) (aa (pv 5) (aa (pv 6) (aa (pF (Nb T) (pv 0)) da))))))
    (ba (Ma (Ca An (oO K (pv 7) va) va (Ea _)) (ja (oa (pC (Ja T:) hr T.La (aa (Ka rfl T.AE) da)))) za)
    (ba (Ih (fs:=Ba) (put:=λv o=>{o with lots:=v}) T.Ab T.bf kd Hh (pv 4) (oO K (pv 7) va) rfl)
    (ja (TR (fs:=ub) (get:=wd.used) (put:=λv o=>{o with used:=v}) T.je T.rn Dv Yr UH (vc K (pF (cb T) (pv 4)) (pv 5)) (pv 6))))))))
    (ja (oa (pC (gc T:) hr T.jc (aa (pv 4) (aa (Wa (aa (Oa (Ga (K:=K) rfl) rfl T.Zb Eb (aa (pF (Qb T) (pv 4)) da)) da)) da))))))))))),?_⟩
 dsimp only[Cc];dsimp!;refine⟨_,kt,n,rfl,hv0,?_⟩;rcases ju kt n with⟨hm,er⟩|⟨x,hm,hd,er⟩|⟨x,hm,hd,er⟩
 ·rw[er];rw[hm] at e0;dsimp![not_false_eq_true];exact gb k e0 (Aa.refl _)
 ·rw[er];rw[hm] at e0;simp only[hd,if_true] at e0;dsimp![not_false_eq_true];exact gb k e0 (Aa.refl _)
 rw[er];rw[hm] at e0;simp only at e0;rw[if_neg (by rw[hd];decide)] at e0;have hx12:=KT.Ye hI hm;have hM:=hI.meals x hx12.2;obtain⟨mv,hmv,hma',_⟩:=s.meal hm;have hma0:=hma';obtain⟨ma,mdx,rfl,hma⟩:=hma';unfold cg at hma;have h32:=hI.As;have hgl0:=s.pg.length;have h16:=hI.Tr;dsimp!;refine⟨dx0,_,ob,lm0,rfl,ms0,Ha.of s.hm,_,wa hmv,ma,rfl,mdx,_,hma,dx0,_,ob,rfl,?_⟩;rcases Decidable.em (¬x.day=kt.today) with hday|hday
 ·rw[if_pos hday] at e0;refine(if_pos (λz=>hday (by have:=V.int.inj z;lia))).mpr ?_;exact gb k e0 (Aa.refl _)
 have hday:x.day=kt.today:=Decidable.not_not.mp hday;rw[if_neg (λz=>z hday)] at e0;refine(if_neg (λz=>z (by rw[hday]))).mpr ?_;refine⟨_,x,rfl,hma0,λH1 ca s1 hca=>?_⟩;refine⟨_,_,kt,n,some {x with done:=true},rfl,hv0.mono s1,hI,hca,hx12.1,λH2 b dx lg ll lr lm gs ls rs ms s2 F=>?_⟩;have s12:=s1.trans s2;dsimp![eR];refine⟨dx0,_,s12 _ _ ob,lg0,rfl,gs0,.inl (Ha.of (s12 _ _ s.hg)),by lia,by lia,?_⟩;rw[Int.toNat_natCast];refine Eh (xs:=(List.range gs0.length).map λ(k:Nat)=>V.int (0+(k:Int))) (jX A H1 a ma b dx lg lr lm gs rs ms kt x n) ⟨none,none,none,ll,ls,kt.lots,rfl,s2,rfl,F⟩ (λi σ H' _ _=>Yi) ?_ ?_
 ·rintro i v σ H' hi ⟨v5,v6,v7,l2,ls2,lts,rfl,sH,hta,Fi⟩;have hil:i<gs0.length:=by have:=(List.getElem?_eq_some_iff.mp hi).1;simpa using this
  rw[List.getElem?_map,List.getElem?_range hil] at hi;have ev:v=.int (i:Int):=by rw[<-Option.some.inj hi];show V.int (0+(i:Int))=_;rw[Int.zero_add]
  subst ev;have sA:=s1.trans sH;have hlen:lts.length<=32:=Nat.le_trans (KT.aw hta) h32;obtain⟨hi0,oi,ci,ei,obi⟩:=Fi.st.ob;dsimp!;refine⟨_,_,kt,x,i,rfl,hv0.mono sA,hI,hma0.mono sA,hM,?_⟩;dsimp!;refine⟨dx,_,obi,dx0,_,sA _ _ ob,l2,ls2,lts,i,kt.need x i,kt.today,rfl,Fi.st.hl,Fi.st.pl,hlen,λH3 p D us s3 hp hD hDus hus=>?_⟩;have one:Km382.takeAll kt x (List.range (i+1)) kt.lots=if(Km382.takeLots i kt.today (kt.need x i) lts).2=0 then some (Km382.takeLots i kt.today (kt.need x i) lts).1 else none:=by
   rw[List.range_succ,KT.Bi,hta,<-hday];exact KT.jJ ..
  refine⟨p,rfl,_,mh.of hp,_,wa (j:=1) rfl,_,rfl,Lb (λh1=>?_) λh1=>?_⟩
  ·obtain⟨l,hl⟩:=jI (i:=i) (n:=kt.goods.length) (by lia);rw[hl,KT.Bi,one,if_neg (by lia)] at e0;exact gb k e0 (sA.trans s3)
  rw[if_pos (by lia)] at one;refine⟨p,rfl,_,mh.of hp,_,wa (j:=0) rfl,dx,_,s3 _ _ obi,?_⟩;have F3:=Fi.mono s3;have nd3:[lg,D,lr,lm].Nodup:=by
   have:=F3.nd;have d1:lg≠D:=ka Fi.st.hg hD;have d2:lr≠D:=ka Fi.st.hr hD;have d3:lm≠D:=ka Fi.st.hm hD;simp only[List.nodup_cons,List.mem_cons,List.not_mem_nil,or_false,not_or] at this⊢;exact⟨⟨d1,this.1.2.1,this.1.2.2⟩,⟨Ne.symm d2,Ne.symm d3⟩,this.2.2.1,this.2.2.2⟩
  obtain⟨s4,F4⟩:=F3.store (sH.trans s3) (k2:={(kt.setMeal n (some {x with done:=true})) with lots:=(Km382.takeLots i kt.today (kt.need x i) lts).1,goods:=KT.bt kt x i}) ei rfl rfl rfl hDus hus (sH.free hD) nd3;dsimp only at s4 F4⊢;generalize (upd H3 b _)=H4 at s4 F4⊢;obtain⟨gd,hgd⟩:∃gd,(KT.bt kt x i)[i]?=some gd:=⟨_,List.getElem?_eq_getElem (by rw[KT.wu];lia)⟩;obtain⟨gv,hgv,ga,gdx,rfl,hga⟩:=Bb F4.st.pg hgd;obtain⟨h4,o4,c4,e4,ob4⟩:=F4.st.ob;obtain⟨s5,F5⟩:=F4.good s4 hgd hgv hga {gd with used:=gd.used+kt.need x i};refine⟨dx,_,ob4,lg,rfl,gs,Ha.of F4.st.hg,_,wa hgv,ga,rfl,gdx,_,hga,_,rfl,hga,?_⟩;refine⟨some (.int (i:Int)),some (.int ((kt.need x i:Nat):Int)),some (.ref p),D,us,_,rfl,s5,one,?_⟩;rw[KT.pA,hgd];exact F5
 ·rintro σ H' ⟨v5,v6,v7,l2,ls2,lts,rfl,sH,hta,Fi⟩;rw[List.length_map,List.length_range] at hta Fi;rw[hgl0] at hta Fi;rw[hta] at e0;obtain⟨hi0,oi,ci,ei,obi⟩:=Fi.st.ob;have hll2:=Fi.st.pl.length;dsimp!;refine⟨dx,_,obi,l2,rfl,ls2,.inl (Ha.of Fi.st.hl),by decide,λp hp=>?_⟩;have s8:=qa (o:=.lst [V.int (ls2.length:Int)]) hp;exact ke k e0 (s1.trans (sH.trans s8)) (Fi.at.mono s8) ia (by rw[hll2];rfl)
theorem EE{l:List Nat}{n x:Nat}(h:l[n]?=some x):(iL l)[n]?=some (.int (x:Int)):=by
 unfold iL;rw[List.getElem?_map,h];rfl
def nT(k:Km382.Kitchen)(y:Nat):Option Km382.Meal->Bool
 |none=>false
 |some x=>!x.done&&(decide (k.today<=x.day)&&decide (x.day<=y))
theorem kE(k:Km382.Kitchen)(y i:Nat):KT.Er k y i=nT k y (k.meal i):=by
 unfold KT.Er nT;cases k.meal i<;>rfl
def rP(K:PySem.W.Frag)(A:Ad):Sp:=λvs H Q _=>∃(v mv:V)(k:Km382.Kitchen)(o:Option Km382.Meal)(y:Nat),vs=[v,mv,.int (y:Int)]/\kc A H v k/\Ah (vd A H) mv o/\Q (.bl (nT k y o)) H
theorem GO(T:Txt K mg A):Ua P w K mg base nc 1 A.MG A.DG ["state","meal","day"] (rP K A):=by
 refine T.Ex.F.Uc ["state","meal","day"] (by decide +kernel) λvs H Q E h nd=>?_;obtain⟨v,mv,kt,o,y,rfl,hv,hm,k⟩:=h;obtain⟨a,dx,lg,ll,lr,lm,gs,ls,rs,ms,rfl,s⟩:=hv;obtain⟨h0,o0,c0,_,ob⟩:=s.ob;refine⟨rfl,λ_ _ _ _ hr=>?_⟩;refine⟨_,(ja (oa (Vk (qe Vf (pv 1) ic (Ea _)) (Vk (pW (pF (zj T) (pv 1))) (Mq (Uj oe oe (pF (Nb T) (pv 0)) (pF (Sd T) (pv 1)) (pv 2))))))),?_⟩;dsimp only[Cc];cases o with
 |none=>
  have hm:mv=.Vb:=hm;subst hm;dsimp!;exact k
 |some x=>
  obtain⟨ma,mdx,rfl,hma⟩:=hm;unfold cg at hma;unfold nT at k;simp only at k;dsimp!;refine(if_pos not_false).mpr ⟨mdx,_,hma,_,rfl,?_⟩;cases hd:x.done with
  |true=>
   rw[hd] at k;exact(if_neg (by simp)).mpr k
  |false=>
   rw[hd] at k;refine(if_pos rfl).mpr ⟨dx,_,ob,mdx,_,hma,_,rfl,_,rfl,Lb (λh=>⟨_,rfl,?_⟩) λh=>?_⟩
   ·rw[decide_eq_true (p:=kt.today<=x.day) (by lia)] at k;have e:decide ((x.day:Int)<=(y:Int))=decide (x.day<=y):=decide_eq_decide.mpr (by lia);rw[e];exact k
   ·rw[decide_eq_false (p:=kt.today<=x.day) (by lia)] at k;exact k
theorem collect{f:Nat->Nat}{p:Nat->Bool}{H1:Hp}:∀{n:Nat}{ys:List (Option V)},ys.length=n->(∀i,i<n->∃y,ys[i]?=some y/\if p i=true then∃T,y=some (.ref T)/\H1 T=some (.tup (pV (f i,i))) else y=none)->∃ps:List (Addr×(Nat×Nat)),ys.filterMap id=ps.map (λq=>V.ref q.1)/\(∀q∈ps,H1 q.1=some (.tup (pV q.2)))/\ps.map Prod.snd=KT.byPlace n p f
 |0,ys,hl,_=>by
  have:ys=[]:=List.length_eq_zero_iff.mp hl;subst this;exact⟨[],rfl,λq hq=>(by cases hq),rfl⟩
 |n+1,ys,hl,h=>by
  obtain⟨zs,y,rfl⟩:∃zs y,ys=zs++[y]:=⟨ys.dropLast,ys.getLast (by intro z;rw[z] at hl;simp at hl),(List.dropLast_concat_getLast _).symm⟩;have hzl:zs.length=n:=by simpa using hl
  obtain⟨ps,h1,h2,h3⟩:=collect (n:=n) (ys:=zs) hzl λi hi=>by
   obtain⟨y',hy',hp⟩:=h i (by lia);rw[List.getElem?_append_left (by lia)] at hy';exact⟨y',hy',hp⟩
  obtain⟨y',hy',hp⟩:=h n (by lia);rw[List.getElem?_append_right (by lia),hzl,Nat.sub_self] at hy';have e:y=y':=Option.some.inj hy';subst e;have hb:KT.byPlace (n+1) p f=KT.byPlace n p f++if p n=true then[(f n,n)] else[]:=by
   unfold KT.byPlace;rw[List.range_succ,List.filter_append,List.map_append];congr 1;by_cases c:p n=true
   ·rw[if_pos c,List.filter_cons_of_pos c];rfl
   ·rw[if_neg c,List.filter_cons_of_neg c];rfl
  rw[hb,List.filterMap_append,h1];by_cases c:p n=true
  ·rw[if_pos c] at hp⊢;obtain⟨T,rfl,hT⟩:=hp;refine⟨ps++[(T,(f n,n))],by rw[List.map_append];rfl,λq hq=>?_,by rw[List.map_append,h3];rfl⟩;rcases List.mem_append.mp hq with hq|hq
   ·exact h2 q hq
   ·have:q=(T,(f n,n)):=by simpa using hq
    subst this;exact hT
  ·rw[if_neg c] at hp⊢;subst hp;exact⟨ps,by simp,h2,by rw[h3,List.append_nil]⟩
theorem bA{H1 H2:Hp}{D T:Addr}{acc xs:List V}(h:H1 T=some (.tup xs))(hD:H1 D=some (.lst acc))(s:ab D H1 H2):H2 T=some (.tup xs):=s _ _ (Fb h hD (by intro z;cases z)) h
theorem Bx{n:Nat}{p:Nat->Bool}{f:Nat->Nat}:(KT.byPlace n p f).length<=n:=by
 unfold KT.byPlace;rw[List.length_map];have:=List.length_filter_le p (List.range n)
 rwa [List.length_range] at this
theorem bh{α:Type}{g:α->V}{R:V->α->Prop}:∀{l:List α},(∀q∈l,R (g q) q)->Paired R (l.map g) l
 |[],_=>.nil
 |q::l,h=>.cons (h q (List.mem_cons_self ..)) (bh λq' hq=>h q' (List.mem_cons_of_mem _ hq))
theorem Ls{α β:Type}{F:α->Option V}{G:α->β}{R:V->β->Prop}:∀{l:List α},(∀q∈l,∃v,F q=some v/\R v (G q))->Paired R (l.filterMap F) (l.map G)
 |[],_=>.nil
 |q::l,h=>by
  obtain⟨v,e,r⟩:=h q (List.mem_cons_self ..);rw[List.filterMap_cons,e,List.map_cons];exact .cons r (Ls λq' hq=>h q' (List.mem_cons_of_mem _ hq))
def YF(K:PySem.W.Frag)(A:Ad):Sp:=λvs H Q _=>∃(v:V)(k:Km382.Kitchen)(y:Nat),vs=[v,.int (y:Int)]/\kc A H v k/\KT.qc k/\∀D H' us,Aa H H'->H' D=some (.lst us)->Paired (vd A H') us (k.ahead y)->Q (.ref D) H'
theorem iF(T:Txt K mg A):Ua P w K mg base nc 2 A.dv A.Ou ["state","day"] (YF K A):=by
 refine T.vm.F.Uc ["state","day","order","place","meal","pair"] (by decide +kernel) λvs H Q E h nd=>?_;obtain⟨v,kt,y,rfl,hv,hI,k⟩:=h;have hzl:=ak;have hv0:=hv;obtain⟨a,dx,lg,ll,lr,lm,gs,ls,rs,ms,rfl,s⟩:=hv;obtain⟨h0,o0,c0,_,ob⟩:=s.ob;have hml:=s.pm.length;have h12:=hI.Iq;refine⟨rfl,λ_ _ _ _ hr=>?_⟩;refine⟨_,(ba (Pa (i:=2) nd rfl (Or.inl rfl) (Oa (Mx (K:=K) rfl) rfl T.qJ IB (aa (Fe rfl nd (fN rfl T.fw (aa (pF (Za T) (pv 0)) da)) (own:=[("place",3),("meal",4)]) (bc (show Cb ["state","day","order","place","meal","pair"] (Ra Gn) _ [("place",3),("meal",4)]=true from by decide +kernel)) (λ_ _ _ _ _=>cx (K:=K) (n:=2) rfl rfl (fh (Va (i:=3) nd rfl (Or.inl rfl)) (fh (Va (i:=4) nd rfl (Or.inl rfl)) jx))) (λ_ _ _ _ _=>se (Ob (pC (GO T:) hr T.Ex (aa (pv 0) (aa (pv 4) (aa (pv 1) da)))))) (λ_ _ _ _ _=>(xi (aa (pF (Sd T) (pv 4)) (aa (pv 3) da))))) da)))
    (ja (oa (Fe rfl nd (iu K (pv 2)) (own:=[("pair",5)]) (bc (show Cb ["state","day","order","place","meal","pair"] (Ra Gn) _ [("pair",5)]=true from by decide +kernel)) (λ_ _ _ _ _=>Va (i:=5) nd rfl (Or.inl rfl)) (λ_ _ _ _ _=>Ed) (λ_ _ _ _ _=>(vc K (pF (Za T) (pv 0)) (oO K (pv 5) va))))))),?_⟩
 dsimp only[Cc];dsimp![iG,cR,gI];refine⟨dx,_,ob,lm,rfl,ms,Ha.of s.hm,?_⟩;refine Wr (by decide) (λn p y' H1=>if KT.Er kt y n=true then∃T,y'=some (.ref T)/\H1 T=some (.tup (pV (KT.kC kt n,n))) else y'=none) (vA (Ha.of s.hm)) (by rw[rg];lia) (λn p y' D acc H1 H2 hg hD _ sx=>?_) (λn p H1 R hp hs r=>?_) λD ys H1 hD hys s1 hyl hgs=>?_
 ·by_cases c:KT.Er kt y n=true
  ·rw[if_pos c] at hg⊢;obtain⟨T,e,hT⟩:=hg;exact⟨T,e,bA hT hD sx⟩
  ·rw[if_neg c] at hg⊢;exact hg
 ·have hn:n<ms.length:=by have:=(List.getElem?_eq_some_iff.mp hp).1;rwa [rg] at this
  obtain⟨mv,hmv⟩:∃mv,ms[n]?=some mv:=⟨_,List.getElem?_eq_getElem hn⟩;rw[Gj hmv] at hp;have ep:=Option.some.inj hp;subst ep;obtain⟨o,ho,hxo⟩:=Pc s.pm hmv;have em:kt.meal n=o:=by rw[jn,ho];rfl
  have hxo1:=hxo.imp λ_ z=>vd.mono z hs;dsimp![wipe];refine⟨_,_,kt,o,y,rfl,hv0.mono hs,hxo1,_,rfl,?_⟩;rw[<-em,<-kE];by_cases c:KT.Er kt y n=true
  ·refine(if_pos c).mpr ?_;cases o with
   |none=>rw[kE,em] at c;cases c
   |some x=>
    obtain⟨ma,mdx,rfl,hma⟩:=hxo1;refine⟨ma,rfl,mdx,_,hma,by lia,λT hT=>r _ _ ((if_pos c).mpr ⟨T,rfl,?_⟩) (qa hT)⟩;rw[ia];unfold KT.kC;rw[em];rfl
  ·exact(if_neg c).mpr (r none H1 ((if_neg c).mpr rfl) (Aa.refl _))
 ·obtain⟨ps,hp1,hp2,hp3⟩:=collect (n:=12) (p:=KT.Er kt y) (f:=KT.kC kt) (ys:=ys) (H1:=H1) (by rw[hyl,rg];lia) λi hi=>by
   obtain⟨mv,hmv⟩:∃mv,ms[i]?=some mv:=⟨_,List.getElem?_eq_getElem (by lia)⟩;exact hgs i _ (Gj hmv)
  have hpl:ps.length<=12:=by
   have:=congrArg List.length hp3;rw[List.length_map] at this;rw[this];exact Bx
  refine⟨D,rfl,ps,Ha.of (by rw[hys,hp1]),hp2,by lia,λqs b hq hsrt hb=>⟨⟨_,Ha.of ia⟩,?_⟩⟩;have s2:Aa H1 (upd H1 b (.lst (qs.map λp=>V.ref p.1))):=qa hb;have hb2:(upd H1 b (.lst (qs.map λp=>V.ref p.1))) b=some (.lst (qs.map λp=>V.ref p.1)):=ia;generalize (upd H1 b (.lst (qs.map λp=>V.ref p.1)))=H2 at s2 hb2⊢;have s12:=s1.trans s2;have hqm:∀q∈qs,∃x mv,kt.meal q.2.2=some x/\ms[q.2.2]?=some mv/\vd A H mv x:=λq hqm=>by
   have h1:q.2∈ps.map Prod.snd:=List.mem_map.mpr ⟨q,hq.mem_iff.mp hqm,rfl⟩;rw[hp3] at h1;have h2:=(KT.Iv.mp h1).2.1;rw[kE] at h2;cases hm:kt.meal q.2.2 with
   |none=>rw[hm] at h2;cases h2
   |some x=>
    obtain⟨mv,hmv,hma,_⟩:=s.meal hm;exact⟨x,mv,rfl,hmv,hma⟩
  have hql:qs.length=ps.length:=hq.length_eq;refine rh (Rl:=λx(q:Addr×(Nat×Nat))=>x=.ref q.1/\H2 q.1=some (.tup (pV q.2))/\q∈qs) (bh λq hqm=>⟨rfl,s2 _ _ (hp2 q (hq.mem_iff.mp hqm)),hqm⟩) (λq=>ms[q.2.2]?) (qb (Ha.of hb2)) (by rw[List.length_map];lia) (λj x q H3 R hj hx hs r=>?_) λD2 H3 hD2 h3 s3=>k D2 H3 _ (s12.trans s3) h3 ?_
  ·obtain⟨rfl,hq1,hqm'⟩:=hx;obtain⟨x,mv,hx,hmv,_⟩:=hqm q hqm';have r:=r H3 (Aa.refl _);rw[hmv] at r;unfold pV at hq1;dsimp![wipe];exact⟨dx,_,hs _ _ (s12 _ _ ob),_,mh.of (hs _ _ hq1),_,wa (j:=1) rfl,lm,rfl,ms,_,rfl,Ha.of (hs _ _ (s12 _ _ s.hm)),_,wa hmv,r⟩
  ·rw[KT.cQ h12 (ys:=qs.map Prod.snd) ((hq.map Prod.snd).trans (by rw[hp3])) hsrt,List.map_map];exact Ls λq hqm'=>by
    obtain⟨x,mv,hx,hmv,hma⟩:=hqm q hqm';refine⟨mv,hmv,?_⟩;show vd A H3 mv (KT.aD kt q.2.2);unfold KT.aD;rw[hx];exact hma.mono (s12.trans s3)
def mX(A:Ad)(H:Hp)(a mr:Addr)(g y:Nat)(kt:Km382.Kitchen)(ml:List Km382.Meal)(us0:List V)(i:Nat)(σ:L2.St)(H':Hp):Prop:=∃(v4 v6 v7:Option V)(D:Addr)(us:List V)(z:Nat),σ=[some (.ref a),some (.int (g:Int)),some (.int (y:Int)),some (.ref D),v4,some (.int (z:Int)),v6,v7]/\Aa H H'/\
 H' mr=some (.lst us0)/\Paired (vd A H') us0 ml/\H' D=some (.lst us)/\Paired (Ng A H') us (KT.lk kt g (ml.take i) (kt.lots.filter (λx=>x.good==g),0)).1/\z=(KT.lk kt g (ml.take i) (kt.lots.filter (λx=>x.good==g),0)).2
def QL(K:PySem.W.Frag)(A:Ad):Sp:=λvs H Q _=>∃(v:V)(k:Km382.Kitchen)(g y:Nat),vs=[v,.int (g:Int),.int (y:Int)]/\kc A H v k/\KT.qc k/\∀H',Aa H H'->Q (.int ((k.lacks g y:Nat):Int)) H'
theorem Bz(T:Txt K mg A):Ua P w K mg base nc 4 A.FC A.eC ["state","good","day"] (QL K A):=by
 refine T.Yn.F.Uc ["state","good","day","lots","lot","lacks","meal","found"] (by decide +kernel) λvs H Q E h nd=>?_;obtain⟨v,kt,g,y,rfl,hv,hI,k⟩:=h;have hzl:=ak;have hv0:=hv;obtain⟨a,dx,lg,ll,lr,lm,gs,ls,rs,ms,rfl,s⟩:=hv;obtain⟨h0,o0,c0,_,ob⟩:=s.ob;have hll:=s.pl.length;have h32:=hI.As;refine⟨rfl,λ_ _ _ _ hr=>?_⟩;refine⟨_,(ba (yi (i:=3) rfl nd rfl rfl rfl (iu K (pF (Qb T) (pv 0))) (own:=[("lot",4)]) (bc (show Cb ["state","good","day","lots","lot","lacks","meal","found"] (Ra CD) _ [("lot",4)]=true from by decide +kernel)) (λ_ _ _ _ _=>Va (i:=4) nd rfl (Or.inl rfl)) (λ_ _ _ _ _=>se (Ca Rb (pF (Ci T) (pv 4)) (pv 1) (Ea _))) (λ_ _ _ _ _=>(pv 4)))
   (ba (Pa (i:=5) nd rfl (Or.inl rfl) va)
   (ba (Ag PassesOwn.never rfl (iu K (pC (iF T:) hr T.vm (aa (pv 0) (aa (pv 2) da)))) (Va (i:=6) nd rfl (Or.inl rfl)) (ba (Pa (i:=7) nd rfl (Or.inl rfl) (pC (Il T:) hr T.Nf (aa (pv 3) (aa (pv 1) (aa (pC (kD T:) hr T.qr (aa (pv 0) (aa (pv 6) (aa (pv 1) da)))) (aa (pF (Sd T) (pv 6)) da))))))
   (ba (Pa (i:=3) nd rfl (Or.inl rfl) (oO K (pv 7) va))
   (ja (yF (i:=5) nd rfl (Or.inl rfl) (oO K (pv 7) va) HE)))))
   (ja (oa (pv 5)))))),?_⟩
 dsimp only[Cc];dsimp!;refine⟨dx,_,ob,ll,rfl,⟨_,Ha.of s.hl⟩,Xr s.pl (λx=>x.good==g) (qb (Ha.of s.hl)) (by lia) (λj v m H1 R hm hv hs r=>?_) λD us H1 hD hus hP s1=>?_⟩
 ·obtain⟨ya,ydx,rfl,hya⟩:=hv;dsimp![wipe];refine⟨ydx,_,hs _ _ hya,rfl,?_⟩;have r:=r H1 (Aa.refl _);refine Lb (λh=>?_) λh=>?_
  ·rw[if_pos (by simp only[beq_iff_eq];have:=V.int.inj h;lia)] at r;exact r
  ·rw[if_neg (by simp only[beq_iff_eq];intro z;exact h (by rw[z]))] at r;exact r
 refine⟨_,kt,y,rfl,hv0.mono s1,hI,λmr H2 us0 s2 hmr hP2=>?_⟩;dsimp!;have hml:=hP2.length;refine⟨⟨_,Ha.of hmr⟩,Eh (xs:=us0) (mX A H a mr g y kt (kt.ahead y) us0) ⟨none,none,none,D,us,0,rfl,s1.trans s2,hmr,hP2,s2 _ _ hus,?_,?_⟩ (λi σ H' _⟨_,_,_,_,_,_,_,_,z,_⟩=>qb (Ha.of z)) ?_ ?_⟩
 ·exact hP.mono λ_ _ z=>z.mono (s1.trans s2)
 ·rfl
 ·rintro i v σ H' hi ⟨v4,v6,v7,D',us',z,rfl,sH,hmr',hP',hD',hus',hz⟩;obtain⟨m,hm,hmv⟩:=Pc hP' hi;have hmem:=List.mem_of_getElem? hm;obtain⟨hin,hd1,hd2,_⟩:=KT.cD hmem;have hM:=hI.meals m hin;have hmv0:=hmv;obtain⟨ma,mdx,rfl,hma⟩:=hmv;unfold cg at hma;have hl0:=KT.uR kt g ((kt.ahead y).take i) (kt.lots.filter (λx=>x.good==g),0);have hl1:=List.length_filter_le (λx:Km382.Lot=>x.good==g) kt.lots;dsimp![yS,QV];refine⟨_,_,kt,m,g,rfl,hv0.mono sH,hI,hmv0,hM,mdx,_,hma,D',us',_,g,kt.need m g,m.day,rfl,hD',hus',Nat.le_trans hl0 (Nat.le_trans hl1 h32),λH3 p D3 us3 s3 hp hD3 hD3us hus3=>?_⟩;have e1:=KT.VM kt g m ((kt.ahead y).take i) (kt.lots.filter (λx=>x.good==g),0);rw[<-take_snoc hm] at e1;refine⟨p,rfl,_,mh.of hp,_,wa (j:=0) rfl,p,rfl,_,mh.of hp,_,wa (j:=1) rfl,_,rfl,?_⟩;exact⟨v4,some (.ref ma),some (.ref p),D3,us3,_,by rw[<-Int.natCast_add],sH.trans s3,s3 _ _ hmr',hP'.mono λ_ _ w=>w.mono s3,hD3us,by rw[e1];exact hus3,by rw[e1,hz]⟩
 ·rintro σ H' ⟨v4,v6,v7,D',us',z,rfl,sH,hmr',hP',hD',hus',hz⟩;rw[hml,List.take_length] at hz;dsimp!;rw[hz,<-KT.qR];exact k H' sH
def Yq(K:PySem.W.Frag)(A:Ad):Sp:=λvs H Q _=>∃(v:V)(k:Km382.Kitchen)(y:Nat),vs=[v,.int (y:Int)]/\kc A H v k/\KT.qc k/\∀D H',Aa H H'->H D=none->H' D=some (.lst (iL ((List.range k.goods.length).map λg=>k.lacks g y)))->Q (.ref D) H'
theorem si(T:Txt K mg A):Ua P w K mg base nc 5 A.Qi A.Mi ["state","day"] (Yq K A):=by
 refine T.ie.F.Uc ["state","day","good"] (by decide +kernel) λvs H Q E h nd=>?_;obtain⟨v,kt,y,rfl,hv,hI,k⟩:=h;have hzl:=ak;have hv0:=hv;obtain⟨a,dx,lg,ll,lr,lm,gs,ls,rs,ms,rfl,s⟩:=hv;obtain⟨h0,o0,c0,_,ob⟩:=s.ob;have hgl:=s.pg.length;have h16:=hI.Tr;refine⟨rfl,λ_ _ _ _ hr=>?_⟩;refine⟨_,(ja (oa (Fe rfl nd (pD rfl T.To (aa (Oa (Ga (K:=K) rfl) rfl T.Zb Eb (aa (pF (cb T) (pv 0)) da)) da)) (own:=[("good",2)]) (bc (show Cb ["state","day","good"] (Ra Xi) _ [("good",2)]=true from by decide +kernel)) (λ_ _ _ _ _=>Va (i:=2) nd rfl (Or.inl rfl)) (λ_ _ _ _ _=>Ed) (λ_ _ _ _ _=>(pC (Bz T:) hr T.Yn (aa (pv 0) (aa (pv 2) (aa (pv 1) da)))))))),?_⟩;dsimp only[Cc];dsimp![eR];refine⟨dx,_,ob,lg,rfl,gs,.inl (Ha.of s.hg),by lia,by lia,?_⟩;rw[Int.toNat_natCast];refine rh (Rl:=λx(g:Nat)=>x=.int (g:Int)) (ms:=List.range gs.length) (bh λq _=>by show V.int (0+(q:Int))=_;rw[Int.zero_add]) (λg=>some (.int ((kt.lacks g y:Nat):Int))) Yi (by rw[List.length_map,List.length_range];lia) (λj x g H1 R hj hx hs r=>?_) λD H1 hD h1 h2=>k D H1 h2 hD (by rw[h1,Si,hgl];unfold iL;rw[List.map_map];rfl);subst hx;dsimp![wipe];exact⟨_,kt,g,y,rfl,hv0.mono hs,hI,λH2 h2=>r H2 h2⟩
def sU(K:PySem.W.Frag)(A:Ad):Sp:=λvs H Q _=>∃(u p:Nat),vs=[.int (u:Int),.int (p:Int)]/\p<=100000/\Q (.int (((u*p+999)/1000:Nat):Int)) H
theorem VT(T:Txt K mg A):Ua P w K mg base nc 1 A.FQ A.rQ ["units","price"] (sU K A):=by
 refine T.CJ.F.Uc ["units","price"] (by decide +kernel) λvs H Q E h nd=>?_;obtain⟨u,p,rfl,hp,k⟩:=h;refine⟨rfl,λ_ _ _ _ hr=>?_⟩;refine⟨_,(ja (oa (Sb bN (Sb Sk (Sb yg (Sb KR (pv 0) (pv 1)) (Ka rfl T.di)) va) (Ka rfl T.di)))),?_⟩;dsimp only[Cc];dsimp!;refine⟨.inr ⟨by lia,by lia⟩,⟨by decide,by decide⟩,?_⟩;have e:((u:Int)*(p:Int)+1000-1)/1000=(((u*p+999)/1000:Nat):Int):=by
  have:((u*p:Nat):Int)=(u:Int)*(p:Int):=Int.natCast_mul ..
  lia
 rw[e];exact k
theorem kO(L:List Nat):Paired (λx(n:Nat)=>x=V.int (n:Int)) (iL L) L:=bh (g:=λ(n:Nat)=>V.int (n:Int)) λ_ _=>rfl
theorem XJ(L:List Nat):(iL L).length=L.length:=by unfold iL;rw[List.length_map]
theorem oI(m:Nat)(v:V):(List.replicate m [v]).flatten=List.replicate m v:=by
 induction m with
 |zero=>rfl
 |succ m ih=>rw[List.replicate_succ,List.flatten_cons,ih];rfl
def SI(K:PySem.W.Frag)(A:Ad):Sp:=λvs H Q _=>∃(v:V)(k:Km382.Kitchen)(g y:Nat),vs=[v,.int (g:Int),.int (y:Int)]/\kc A H v k/\KT.qc k/\uc A H (KT.fc k (.lacks g y)) Q
theorem IH(T:Txt K mg A):Ua P w K mg base nc 5 A.zy A.Xx ["state","good","day"] (SI K A):=by
 refine T.pq.F.Uc ["state","good","day"] (by decide +kernel) λvs H Q E h nd=>?_;obtain⟨v,kt,g,y,rfl,hv,hI,k⟩:=h;have e0:KT.fc kt (.lacks g y)=(none,if kt.goods.length<=g then Km382.only (-2) else if y<kt.today\/10000<y then Km382.only (-22) else Km382.only ((kt.lacks g y:Nat):Int)):=rfl;refine⟨rfl,λ_ _ _ _ hr=>?_⟩;refine⟨_,(ba (Ma (Hb (Ob (pC (Zg T:) hr T.Ff (aa (pv 0) (aa (pv 1) da))))) (ja (oa (pC (Ja T:) hr T.La (aa (Ka rfl T.Gb) da)))) za)
   (ba (Ma (Hb (Ob (pC (vf T:) hr T.Pd (aa (pv 0) (aa (pv 2) da))))) (ja (oa (pC (Ja T:) hr T.La (aa (Ka rfl T.pb) da)))) za)
   (ja (oa (pC (Bf T:) hr T.Of (aa (Wa (aa (pC (Bz T:) hr T.Yn (aa (pv 0) (aa (pv 1) (aa (pv 2) da)))) da)) da)))))),?_⟩
 dsimp only[Cc];dsimp!;refine⟨v,kt,g,rfl,hv,_,rfl,Lb (λh=>?_) λh=>?_⟩
 ·have h:=of_decide_eq_false h;exact gb k (by rw[e0,if_pos (by lia)]) (Aa.refl _)
 have h:g<kt.goods.length:=by simpa using h
 rw[if_neg (by lia)] at e0;refine⟨v,kt,y,rfl,hv,_,rfl,Lb (λh1=>gb k (by rw[e0,if_pos (by have:=of_decide_eq_false h1;lia)]) (Aa.refl _)) λh1=>?_⟩;have h1:kt.today<=y/\y<=10000:=by simpa using h1
 rw[if_neg (by lia)] at e0;refine⟨v,kt,g,y,rfl,hv,hI,λH1 s1=>⟨by decide,λp hp=>?_⟩⟩;exact Jd k e0 (s1.trans (qa hp)) ia rfl
def KL(K:PySem.W.Frag)(A:Ad):Sp:=λvs H Q _=>∃(v:V)(k:Km382.Kitchen)(y:Nat),vs=[v,.int (y:Int)]/\kc A H v k/\KT.qc k/\uc A H (KT.fc k (.list y)) Q
theorem FK(T:Txt K mg A):Ua P w K mg base nc 6 A.yC A.WB ["state","day"] (KL K A):=by
 refine T.zt.F.Uc ["state","day","lacks","count","units"] (by decide +kernel) λvs H Q E h nd=>?_;obtain⟨v,kt,y,rfl,hv,hI,k⟩:=h;have hzl:=ak;have h16:=hI.Tr;have e0:KT.fc kt (.list y)=(none,if y<kt.today\/10000<y then Km382.only (-22) else⟨((((((List.range kt.goods.length).map λg=>kt.lacks g y).filter λx=>decide (0<x)).length:Nat)):Int),Km382.fill 16 ((List.range kt.goods.length).map λg=>kt.lacks g y)⟩):=rfl;refine⟨rfl,λ_ _ _ _ hr=>?_⟩;refine⟨_,(ba (Ma (Hb (Ob (pC (vf T:) hr T.Pd (aa (pv 0) (aa (pv 1) da))))) (ja (oa (pC (Ja T:) hr T.La (aa (Ka rfl T.pb) da)))) za)
   (ba (Pa (i:=2) nd rfl (Or.inl rfl) (pC (si T:) hr T.ie (aa (pv 0) (aa (pv 1) da))))
   (ba (Pa (i:=3) nd rfl (Or.inl rfl) (Oa (Ga (K:=K) rfl) rfl T.Zb Eb (aa (Fe rfl nd (iu K (pv 2)) (own:=[("units",4)]) (bc (show Cb ["state","day","lacks","count","units"] (Ra BD) _ [("units",4)]=true from by decide +kernel)) (λ_ _ _ _ _=>Va (i:=4) nd rfl (Or.inl rfl)) (λ_ _ _ _ _=>se (Ca An (pv 4) va (Ea _))) (λ_ _ _ _ _=>(pv 4))) da)))
   (ja (oa (pC (Bf T:) hr T.Of (aa (Sb zg (Sb zg (Wa (aa (pv 3) da)) (pv 2)) (Sb Hz (Wa (aa va da)) (Sb Sk (Ka rfl T.Qr) (Oa (Ga (K:=K) rfl) rfl T.Zb Eb (aa (pv 2) da))))) da))))))),?_⟩
 dsimp only[Cc];dsimp!;refine⟨v,kt,y,rfl,hv,_,rfl,Lb (λh1=>gb k (by rw[e0,if_pos (by have:=of_decide_eq_false h1;lia)]) (Aa.refl _)) λh1=>?_⟩;have h1:kt.today<=y/\y<=10000:=by simpa using h1
 rw[if_neg (by lia)] at e0;refine⟨v,kt,y,rfl,hv,hI,λD H1 s1 hD hD1=>?_⟩;generalize hL:(List.range kt.goods.length).map (λg=>kt.lacks g y)=L at e0 hD1;have hLl:L.length<=16:=by rw[<-hL,List.length_map,List.length_range];exact h16
 dsimp![yW];have hil:=XJ L;refine⟨⟨_,Ha.of hD1⟩,rh (kO L) (λn=>if decide (0<n)=true then some (.int (n:Int)) else none) (qb (Ha.of hD1)) (by lia) (λj x m H2 R hm hx hs r=>?_) λD2 H2 hD2 h2 s2=>?_⟩
 ·subst hx;have r:=r H2 (Aa.refl _);dsimp![wipe];refine Lb (λh=>?_) λh=>?_
  ·rw[if_pos (decide_eq_true (by lia))] at r;exact r
  ·rw[if_neg (by rw[decide_eq_true_eq];lia)] at r;exact r
 rw[LC] at h2;have hcl:((L.filter λx=>decide (0<x)).map λ(n:Nat)=>V.int (n:Int)).length=(L.filter λx=>decide (0<x)).length:=List.length_map ..
 have hD2':=s2 _ _ hD1;refine⟨D2,rfl,_,.inl (Ha.of h2),by decide,λp hp=>?_⟩;rw[hcl];have s4:=qa (o:=.lst [V.int (((L.filter λx=>decide (0<x)).length:Nat):Int)]) hp;refine⟨p,D,_,_,rfl,rfl,ia,s4 _ _ hD2',by rw[hil];simp;lia,λp2 hp2=>⟨by decide,λp3 hp3=>?_⟩⟩;have s5:=qa (o:=.lst ([V.int (((L.filter λx=>decide (0<x)).length:Nat):Int)]++iL L)) hp2;have s6:=qa (o:=.lst [V.int 0]) hp3;refine⟨_,.inl (Ha.of (s6 _ _ (s5 _ _ (s4 _ _ hD2')))),_,ia,by rw[hil];lia,by rw[hil];lia,by rw[hil];simp;lia,λp4 hp4=>?_⟩;have s7:=qa (o:=.lst (List.replicate (16-((iL L).length:Int)).toNat [V.int 0]).flatten) hp4;refine⟨p2,p4,_,_,rfl,rfl,s7 _ _ (s6 _ _ ia),ia,by rw[len_rep,List.length_append,hil];simp;lia,λp5 hp5=>?_⟩;have s8:=qa (o:=.lst ([V.int (((L.filter λx=>decide (0<x)).length:Nat):Int)]++iL L++(List.replicate (16-((iL L).length:Int)).toNat [V.int 0]).flatten)) hp5;refine Jd k e0 (((s1.trans s2).trans s4).trans ((s5.trans s6).trans (s7.trans s8))) ia ?_;unfold Km382Neutral.told Km382.fill;rw[hil,List.map_cons,show Km382Neutral.nums (L++List.replicate (16-L.length) 0)=Km382Neutral.nums L++List.replicate (16-L.length) 0 by unfold Km382Neutral.nums;rw[List.map_append,List.map_replicate];rfl,List.map_append,<-LM,List.map_replicate,show(16-(L.length:Int)).toNat=16-L.length by lia,oI];rfl
def HL(K:PySem.W.Frag)(A:Ad):Sp:=λvs H Q _=>∃(v:V)(k:Km382.Kitchen)(y:Nat),vs=[v,.int (y:Int)]/\kc A H v k/\KT.qc k/\uc A H (KT.fc k (.cost y)) Q
theorem CK(T:Txt K mg A):Ua P w K mg base nc 6 A.vC A.TB ["state","day"] (HL K A):=by
 refine T.wt.F.Uc ["state","day","lacks","units","good"] (by decide +kernel) λvs H Q E h nd=>?_;obtain⟨v,kt,y,rfl,hv,hI,k⟩:=h;have hzl:=ak;have h16:=hI.Tr;have e0:KT.fc kt (.cost y)=(none,if y<kt.today\/10000<y then Km382.only (-22) else⟨0,[kt.cost y]⟩):=rfl;have hv0:=hv;obtain⟨a,dx,lg,ll,lr,lm,gs,ls,rs,ms,rfl,s⟩:=hv;obtain⟨h0,o0,c0,_,ob⟩:=s.ob;have hgl:=s.pg.length;refine⟨rfl,λ_ _ _ _ hr=>?_⟩;refine⟨_,(ba (Ma (Hb (Ob (pC (vf T:) hr T.Pd (aa (pv 0) (aa (pv 1) da))))) (ja (oa (pC (Ja T:) hr T.La (aa (Ka rfl T.pb) da)))) za)
    (ba (Pa (i:=2) nd rfl (Or.inl rfl) (pC (si T:) hr T.ie (aa (pv 0) (aa (pv 1) da))))
    (ja (oa (pC (Bf T:) hr T.Of (aa (Wa (aa va (aa (Oa (wM K rfl) rfl T.WU lQ (aa (Fe rfl nd (tW rfl T.nY (aa (pv 2) (aa (pF (cb T) (pv 0)) da))) (own:=[("units",3),("good",4)]) (bc (show Cb ["state","day","lacks","units","good"] (Ra AD) _ [("units",3),("good",4)]=true from by decide +kernel)) (λ_ _ _ _ _=>cx (K:=K) (n:=2) rfl rfl (fh (Va (i:=3) nd rfl (Or.inl rfl)) (fh (Va (i:=4) nd rfl (Or.inl rfl)) jx))) (λ_ _ _ _ _=>Ed) (λ_ _ _ _ _=>(pC (VT T:) hr T.CJ (aa (pv 3) (aa (pF (jl T) (pv 4)) da))))) da)) da))) da)))))),?_⟩
 dsimp only[Cc];dsimp!;refine⟨_,kt,y,rfl,hv0,_,rfl,Lb (λh1=>gb k (by rw[e0,if_pos (by have:=of_decide_eq_false h1;lia)]) (Aa.refl _)) λh1=>?_⟩;have h1:kt.today<=y/\y<=10000:=by simpa using h1
 rw[if_neg (by lia)] at e0;refine⟨_,kt,y,rfl,hv0,hI,λD H1 s1 hD hD1=>?_⟩;dsimp![iG,IX];have hLl:(iL ((List.range kt.goods.length).map λg=>kt.lacks g y)).length=kt.goods.length:=by rw[XJ,List.length_map,List.length_range]
 refine⟨dx,_,s1 _ _ ob,lg,rfl,_,Ha.of hD1,gs,Ha.of (s1 _ _ s.hg),?_⟩;refine Wr (by decide) (λn p y' _=>y'=some (.int (((kt.lacks n y*kt.price n+999)/1000:Nat):Int))) (MP (Ha.of hD1) (Ha.of (s1 _ _ s.hg)) (by lia)) (by rw[List.length_zip];lia) (λ_ _ _ _ _ _ _ h _ _ _=>h) (λn p H2 R hp hs r=>?_) λD2 ys H2 hD2 hys s2 hyl hgs=>?_
 ·obtain⟨p1,p2⟩:=p;obtain⟨h2,h3⟩:=List.getElem?_zip_eq_some.mp hp;obtain⟨x,hx,gad,gdx,rfl,hga⟩:=Pc s.pg h3;have hn:n<kt.goods.length:=(List.getElem?_eq_some_iff.mp hx).1;have e1:p1=.int ((kt.lacks n y:Nat):Int):=by
   have:(iL ((List.range kt.goods.length).map λg=>kt.lacks g y))[n]?=some (.int ((kt.lacks n y:Nat):Int)):=EE (by rw[List.getElem?_map,List.getElem?_range hn];rfl);rw[this] at h2;exact(Option.some.inj h2).symm
  subst e1;have hpr:kt.price n=x.price:=by unfold Km382.Kitchen.price;rw[hx]
  have r:=r _ H2 rfl (Aa.refl _);rw[hpr] at r;dsimp![wipe];exact⟨gdx,_,hs _ _ (s1 _ _ hga),_,x.price,rfl,(hI.goods x (List.mem_of_getElem? hx)).2.1,r⟩
 ·have e:ys.filterMap id=((List.range kt.goods.length).map λg=>(((kt.lacks g y*kt.price g+999)/1000:Nat):Int)).map V.int:=by
   rw[Gk (ms:=List.range kt.goods.length) (F:=λg=>some (.int (((kt.lacks g y*kt.price g+999)/1000:Nat):Int))) (by rw[hyl,List.length_zip,List.length_range];lia) λj m hm=>?_,Si,List.map_map]
   ·rfl
   ·have hj:j<kt.goods.length:=by have:=(List.getElem?_eq_some_iff.mp hm).1;simpa using this
    rw[List.getElem?_range hj] at hm;have hm:=Option.some.inj hm;subst hm;obtain⟨u,hu⟩:∃u,(iL ((List.range kt.goods.length).map λg=>kt.lacks g y))[j]?=some u:=⟨_,List.getElem?_eq_getElem (by lia)⟩;obtain⟨w',hw⟩:∃w',gs[j]?=some w':=⟨_,List.getElem?_eq_getElem (by lia)⟩;exact hgs j (u,w') (List.getElem?_zip_eq_some.mpr ⟨hu,hw⟩)
  rw[e] at hys;refine⟨D2,rfl,_,Ha.of hys,by decide,λp hp=>?_⟩;refine Jd k e0 ((s1.trans s2).trans (qa hp)) ia ?_;rw[KT.qQ,show((List.range kt.goods.length).map λg=>(((kt.lacks g y*kt.price g+999)/1000:Nat):Int))=((List.range kt.goods.length).map λg=>(kt.lacks g y*kt.price g+999)/1000).map (λ(n:Nat)=>(n:Int)) by rw[List.map_map];rfl,fJ];rfl
theorem ft{lo c:Int}{n:Nat}{H:Hp}:jg (EY lo c n) H ((List.range n).map λ(k:Nat)=>V.int (lo+(k:Int)*c)):=λi H1 _=>
 ⟨λhi=>⟨(show i<n by simpa using hi),λx H2 y=>by
  obtain⟨e1,e2⟩:=y;have hi:i<n:=by simpa using hi
  refine⟨e1,?_⟩;rw[List.getElem?_map,List.getElem?_range hi,e2];rfl⟩,λhi=>(show n<=i by simpa using hi)⟩
theorem yu{K:PySem.W.Frag}{H:Hp}{a:Addr}{xs:List V}(h:∀H1:Hp,mh K H1 a xs):jg (pY K a) H xs:=λi H1 e=>
 ⟨λhi=>⟨⟨xs,xs[i],h H1,List.getElem?_eq_getElem hi⟩,λ_ _ y=>⟨y.1,y.2 xs (h H1)⟩⟩,λhi=>⟨xs,h H1,hi⟩⟩
def dZ:Option Nat->V
 |none=>.Vb
 |some t=>.int (t:Int)
def FZ(H:Hp)(l:Addr)(us:List Nat)(room long e i:Nat)(σ:L2.St)(H':Hp):Prop:=H'=H/\∃(c:Nat)(v5:Option V),σ=[some (.ref l),some (.int (room:Int)),some (.int (long:Int)),some (.int (e:Int)),some (.int (c:Int)),v5]/\i<=e/\KT.Run us room long e (e-i) c
def Kw(K:PySem.W.Frag)(A:Ad):Sp:=λvs H Q _=>∃(l:Addr)(us:List Nat)(room long e:Nat),vs=[.ref l,.int (room:Int),.int (long:Int),.int (e:Int)]/\H l=some (.lst (iL us))/\us.length=288/\e<=288/\1<=long/\Q (dZ (KT.lb us room long e)) H
theorem zw(T:Txt K mg A):Ua P w K mg base nc 1 A.Rm A.Im ["in_use","room","slots","end"] (Kw K A):=by
 refine T.Qh.F.Uc ["in_use","room","slots","end","free","slot"] (by decide +kernel) λvs H Q E h nd=>?_;obtain⟨l,us,room,long,e,rfl,hl,h288,he,h1,k⟩:=h;refine⟨rfl,λ_ _ _ _ hr=>?_⟩;refine⟨_,(ba (Pa (i:=4) nd rfl (Or.inl rfl) va)
    (ba (Ag PassesOwn.never rfl (rD rfl T.To (aa (Sb Sk (pv 3) va) (aa (eN mG va) (aa (eN mG va) da)))) (Va (i:=5) nd rfl (Or.inl rfl)) (ba (Pa (i:=4) nd rfl (Or.inl rfl) (Lz (Ca Kl (vc K (pv 0) (pv 5)) (pv 1) (Ea _)) (Sb yg (pv 4) va) va))
    (ja (Ma (Ca Rb (pv 4) (pv 2) (Ea _)) (ja (oa (pv 5))) za))))
    (ja (oa ic)))),?_⟩
 dsimp only[Cc];dsimp![NM,rU];refine⟨e,?_,?_⟩
 ·have:=sX.neg (i:=(e:Int)-1) (j:=-1) (by lia) (by lia) (by decide) (by decide)
  rwa [show((e:Int)-1- -1).toNat=e by lia] at this
 refine Eh (xs:=(List.range e).map λ(k:Nat)=>V.int ((e:Int)-1+(k:Int)*-1)) (FZ H l us room long e)
  ⟨rfl,0,none,rfl,Nat.zero_le _,KT.Run.start h1⟩ (λ_ _ _ _ _=>ft) ?_ ?_
 ·rintro i v σ H' hi ⟨rfl,c,v5,rfl,hie,r⟩;have hlt:i<e:=by have:=(List.getElem?_eq_some_iff.mp hi).1;simpa using this
  rw[List.getElem?_map,List.getElem?_range hlt] at hi;have hi:=Option.some.inj hi;obtain⟨t,ht⟩:∃t,e-i=t+1:=⟨e-i-1,by lia⟩;rw[ht] at r;have ev:v=.int (t:Int):=by rw[<-hi];show V.int ((e:Int)-1+(i:Int)*-1)=_;congr 1;lia
  subst ev;obtain⟨u,hu⟩:∃u,us[t]?=some u:=⟨_,List.getElem?_eq_getElem (by lia)⟩;have hg:us.getD t 0=u:=by rw[List.getD_eq_getElem?_getD,hu];rfl
  dsimp!;have et:e-(i+1)=t:=by lia
  refine⟨_,Ha.of hl,_,wa (EE hu),_,rfl,Lb (λh=>?_) λh=>?_⟩
  ·have hf:us.getD t 0<room:=by lia
   refine Lb (λh2=>?_) λh2=>?_
   ·rw[r.found hf (by lia)] at k;exact k
   ·exact⟨rfl,c+1,_,rfl,by lia,by rw[et];exact r.more hf (by have:=r.lt;lia)⟩
  ·exact(if_neg (by lia)).mpr ⟨rfl,0,_,rfl,by lia,by rw[et];exact r.taken (by lia)⟩
 ·rintro σ H' ⟨rfl,c,v5,rfl,_,r⟩;dsimp!;rw[List.length_map,List.length_range,Nat.sub_self] at r;rw[r.none] at k;exact k
def RL(K:PySem.W.Frag)(A:Ad):Sp:=λvs H Q _=>∃(v:V)(k:Km382.Kitchen)(p:Nat),vs=[v,.str (S (Jg p))]/\kc A H v k/\p<3/\Q (.int ((k.places.getD p 0:Nat):Int)) H
theorem MK(T:Txt K mg A):Ua P w K mg base nc 1 A.HC A.gC ["state","where"] (RL K A):=by
 refine T.Ht.F.Uc ["state","where"] (by decide +kernel) λvs H Q E h nd=>?_;obtain⟨v,kt,p,rfl,hv,hp,k⟩:=h;obtain⟨a,dx,lg,ll,lr,lm,gs,ls,rs,ms,rfl,s⟩:=hv;obtain⟨h0,o0,c0,epl,ob⟩:=s.ob;rw[epl] at k;have e0:S (Jg 0)=Str.ofString "hob":=by decide +kernel
 have e1:S (Jg 1)=Str.ofString "oven":=by decide +kernel
 have n1:¬S (Jg 1)=Str.ofString "hob":=by decide +kernel
 have n2:¬S (Jg 2)=Str.ofString "hob":=by decide +kernel
 have n3:¬S (Jg 2)=Str.ofString "oven":=by decide +kernel
 refine⟨rfl,λ_ _ _ _ hr=>?_⟩;refine⟨_,(ba (Ma (Ca Rb (pv 1) jd (Ea _)) (ja (oa (pF (dt T) (pv 0)))) za)
  (ba (Ma (Ca Rb (pv 1) jd (Ea _)) (ja (oa (pF (dq T) (pv 0)))) za)
  (ja (oa (pF (cq T) (pv 0)))))),?_⟩
 dsimp only[Cc];dsimp!
 match p,hp with
 |0,_=>exact(if_pos e0).mpr ⟨dx,_,ob,k⟩
 |1,_=>exact(if_neg n1).mpr ((if_pos e1).mpr ⟨dx,_,ob,k⟩)
 |2,_=>exact(if_neg n2).mpr ((if_neg n3).mpr ⟨dx,_,ob,k⟩)
def ZD(b:KT.Bg):List (List Key×V):=b.map λe=>([.inl (e.1.1:Int),.inl (e.1.2:Int)],V.int (e.2:Int))
theorem JX{m i m' i':Nat}:(([Sum.inl (m:Int),Sum.inl (i:Int)]:List Key)=[Sum.inl (m':Int),Sum.inl (i':Int)])↔m=m'/\i=i':=by
 constructor
 ·intro h;injection h with h1 h2;injection h2 with h2 _;injection h1 with h1;injection h2 with h2;lia
 ·rintro⟨rfl,rfl⟩;rfl
theorem qA(m i:Nat):∀b:KT.Bg,Zl (ZD b) [.inl (m:Int),.inl (i:Int)]=(KT.Cj b m i).map λt=>V.int (t:Int)
 |[]=>rfl
 |e::b=>by
  have ih:=qA m i b;unfold ZD KT.Cj at *
  rw[List.map_cons,List.find?_cons];by_cases h:e.1.1=m/\e.1.2=i
  ·rw[Ei (JX.mpr h),show(e.1.1==m&&e.1.2==i)=true by simp[h.1,h.2]];rfl
  ·rw[xf (λz=>h (JX.mp z)),show(e.1.1==m&&e.1.2==i)=false by
    cases hc:(e.1.1==m&&e.1.2==i) with
    |false=>rfl
    |true=>rw[Bool.and_eq_true,beq_iff_eq,beq_iff_eq] at hc;exact absurd hc h]
   exact ih
theorem vW{m i t:Nat}{b:KT.Bg}(h:KT.Cj b m i=none):putK (ZD b) [.inl (m:Int),.inl (i:Int)] (V.int (t:Int))=ZD (b++[((m,i),t)]):=by
 unfold putK;rw[Di,qA,h];show(if false=true then _ else _)=_;rw[if_neg (by decide)];unfold ZD;rw[List.map_append];rfl
theorem vM(b:KT.Bg):(ZD b).length=b.length:=by unfold ZD;simp
def RP(ls:List Addr):List (Key×V):=(ls.zip Km382.wPlaces).map λp=>(.inr (S p.2),V.ref p.1)
theorem Pz{p q:Nat}(hp:p<3)(hq:q<3)(h:S (Jg p)=S (Jg q)):p=q:=by
 have h:=Fu h
 match p,q,hp,hq with
 |0,0,_,_=>rfl
 |1,1,_,_=>rfl
 |2,2,_,_=>rfl
 |0,1,_,_=>exact absurd h (by decide)
 |0,2,_,_=>exact absurd h (by decide)
 |1,0,_,_=>exact absurd h (by decide)
 |1,2,_,_=>exact absurd h (by decide)
 |2,0,_,_=>exact absurd h (by decide)
 |2,1,_,_=>exact absurd h (by decide)
theorem rA{a b c:Addr}{p:Nat}(hp:p<3):Zl (RP [a,b,c]) (.inr (S (Jg p)))=some (.ref ([a,b,c].getD p 0)):=by
 have e:RP [a,b,c]=[(.inr (S (Jg 0)),V.ref a),(.inr (S (Jg 1)),V.ref b),(.inr (S (Jg 2)),V.ref c)]:=rfl;have ne:∀{q:Nat},q<3->q≠p->¬((Sum.inr (S (Jg q)):Key)=Sum.inr (S (Jg p))):=λhq n z=>n (Pz hq hp (by injection z));rw[e]
 match p,hp with
 |0,_=>rw[Ei rfl];rfl
 |1,_=>rw[xf (ne (by decide) (by decide)),Ei rfl];rfl
 |2,_=>rw[xf (ne (by decide) (by decide)),xf (ne (by decide) (by decide)),Ei rfl];rfl
structure VP(A:Ad)(H:Hp)(a dx db du l0 l1 l2:Addr)(c:KT.Ck):Prop where
 ob:H a=some (.ins A.Tc dx (Qc ⟨.ref db,.ref du⟩))
 bg:H db=some (.dT (ZD c.b))
 us:H du=some (.dK (RP [l0,l1,l2]))
 nd:[l0,l1,l2].Nodup
 sl:∀p,p<3->H ([l0,l1,l2].getD p 0)=some (.lst (iL (c.u.getD p [])))
 ok:KT.tJ c
 ks:∀e∈c.b,e.1.1<12/\e.1.2<8
theorem VP.mono{A:Ad}{H H':Hp}{a dx db du l0 l1 l2:Addr}{c:KT.Ck}(x:VP A H a dx db du l0 l1 l2 c)(s:Aa H H'):VP A H' a dx db du l0 l1 l2 c:=
 ⟨s _ _ x.ob,s _ _ x.bg,s _ _ x.us,x.nd,λp hp=>s _ _ (x.sl p hp),x.ok,x.ks⟩
theorem VP.pk{A:Ad}{H:Hp}{a dx db du l0 l1 l2:Addr}{c:KT.Ck}(x:VP A H a dx db du l0 l1 l2 c):∀e∈ZD c.b,ZP e.1:=λe he=>by
 obtain⟨q,hq,rfl⟩:=List.mem_map.mp he;exact⟨q.1.1,q.1.2,(x.ks q hq).1,(x.ks q hq).2,rfl⟩
def br(A:Ad)(H:Hp)(v:V)(c:KT.Ck):Prop:=∃a dx db du l0 l1 l2,v=.ref a/\VP A H a dx db du l0 l1 l2 c
theorem br.mono{A:Ad}{H H':Hp}{v:V}{c:KT.Ck}(x:br A H v c)(s:Aa H H'):br A H' v c:=by
 obtain⟨a,dx,db,du,l0,l1,l2,e,x⟩:=x;exact⟨a,dx,db,du,l0,l1,l2,e,x.mono s⟩
def YU(H:Hp)(a db du l0 l1 l2:Addr):Prop:=H a=none/\H db=none/\H du=none/\H l0=none/\H l1=none/\H l2=none
def sM:List V:=iL (List.replicate 288 0)
def CZ(A:Ad)(H:Hp)(p dx db du:Addr)(i:Nat)(σ:L2.St)(H':Hp):Prop:=∃(v1:Option V)(ls:List Addr),σ=[some (.ref p),v1]/\ls.length=i/\H' p=some (.ins A.Tc dx (Qc ⟨.ref db,.ref du⟩))/\H' db=some (.dT [])/\H' du=some (.dK (RP ls))/\ls.Nodup/\(∀q∈ls,H' q=some (.lst sM)/\H q=none)/\ab p H H'
theorem wW{q:Addr}:∀{ls:List Addr},ls.length<3->putK (RP ls) (.inr (S (Jg ls.length))) (V.ref q)=RP (ls++[q])
 |[],_=>rfl
 |[x],_=>by
  have n:¬((Sum.inr (S (Jg 0)):Key)=Sum.inr (S (Jg 1))):=λz=>absurd (Pz (p:=0) (q:=1) (by decide) (by decide) (Sum.inr.inj z)) (by decide);show putK ([(Sum.inr (S (Jg 0)),V.ref x)]:List (Key×V)) (Sum.inr (S (Jg 1))) (V.ref q)=_;unfold putK;rw[Di,xf n];rfl
 |[x,y],_=>by
  have n:¬((Sum.inr (S (Jg 0)):Key)=Sum.inr (S (Jg 2))):=λz=>absurd (Pz (p:=0) (q:=2) (by decide) (by decide) (Sum.inr.inj z)) (by decide);have n':¬((Sum.inr (S (Jg 1)):Key)=Sum.inr (S (Jg 2))):=λz=>absurd (Pz (p:=1) (q:=2) (by decide) (by decide) (Sum.inr.inj z)) (by decide);show putK ([(Sum.inr (S (Jg 0)),V.ref x),(Sum.inr (S (Jg 1)),V.ref y)]:List (Key×V)) (Sum.inr (S (Jg 2))) (V.ref q)=_;unfold putK;rw[Di,xf n,xf n'];rfl
 |_::_::_::_,h=>by simp at h;lia
def pB(K:PySem.W.Frag)(A:Ad):Sp:=λvs H Q _=>∃(p dx:Addr),vs=[.ref p]/\H p=some (.ins A.Tc dx [])/\∀H' db du l0 l1 l2,VP A H' p dx db du l0 l1 l2 KT.rY->H db=none->H du=none->H l0=none->H l1=none->H l2=none->ab p H H'->Q .Vb H'
theorem Qp(T:Txt K mg A):Ua P w K mg base nc 1 A.Dk A.yk ["self"] (pB K A):=by
 refine T.dr.Uc ["self","where"] (by decide +kernel) λvs H Q E h nd=>?_;obtain⟨p,dx,rfl,hp,k⟩:=h;have hzl:=ak;refine⟨rfl,λ_ _ _ _ hr=>?_⟩;have hu:=Ep hr;refine⟨_,(ba (Xo K (pv 0) NR)
    (ba (Xo K (pv 0) VH)
    (ja (Ag PassesOwn.never rfl (iZ K (WH rfl T.Kd)) (Va (i:=1) nd rfl (Or.inl rfl)) (ja (kx hu (pF (Md T) (pv 0)) (pv 1) (Sb Hz (Wa (aa va da)) (Ka rfl T.wg)) rfl)))))),?_⟩
 dsimp only[Cc];refine lO rfl (λ_ z q hq=>z q _ hq ia (qa hq)) hp (λ_ _ _ e=>e) T.Am T.mi (Nat.le_of_ble_eq_true rfl) (λ_=>by kernel_rfl) λH2 db hp2 hdb2 nb' hdb _ x2 s2=>?_;refine lO rfl (λ_ z q hq=>z q _ hq ia (qa hq)) hp2 s2 T.Am T.mn (Nat.le_of_ble_eq_true rfl) (λ_=>by kernel_rfl) λH3 du hp3 hdu3 nu' fdu _ x3 s3=>?_;have nb:=Ne.symm nb';have nu:=Ne.symm nu';have hdb3:=x3 _ _ nb' hdb2;have hp3:H3 p=some (.ins A.Tc dx (Qc ⟨.ref db,.ref du⟩)):=hp3;dsimp!;refine⟨⟨_,T.Yb _⟩,Eh (xs:=sL Km382.wPlaces) (CZ A H p dx db du) ⟨none,[],rfl,rfl,hp3,hdb3,hdu3,List.nodup_nil,λq hq=>(by cases hq),s3⟩ (λ_ _ _ _ _=>by rw[<-Xs];exact yu λH1=>T.Yb H1) ?_ ?_⟩
 ·rintro i v σ H' hi ⟨v1,ls,rfl,hll,hp',hdb',hdu',hnd,hls,sx⟩;have hi3:i<3:=(List.getElem?_eq_some_iff.mp hi).1;have ev:v=.str (S (Jg i)):=by
   unfold sL at hi;rw[List.getElem?_map] at hi
   match i,hi3 with
   |0,_=>exact(Option.some.inj hi).symm
   |1,_=>exact(Option.some.inj hi).symm
   |2,_=>exact(Option.some.inj hi).symm
  subst ev;dsimp![tI,yW];subst hll;have ez:(List.replicate (Int.toNat 288) [V.int 0]).flatten=sM:=by rw[oI];unfold sM iL;rw[List.map_replicate];rfl
  refine⟨by decide,λq1 hq1=>⟨_,ia,by decide,by decide,by rw[hzl];show 1*288<=_;decide,λq hq=>?_⟩⟩;rw[ez];have hqf:H' q=none:=(qa hq1).free hq;have s4:Aa H' (upd (upd H' q1 (.lst [V.int 0])) q (.lst sM)):=(qa hq1).trans (qa hq);have hq4:(upd (upd H' q1 (.lst [V.int 0])) q (.lst sM)) q=some (.lst sM):=ia;generalize (upd (upd H' q1 (.lst [V.int 0])) q (.lst sM))=H4 at s4 hq4⊢;have hdu4:=s4 _ _ hdu';have nqp:q≠p:=λz=>by rw[z,hp'] at hqf;cases hqf
  have fq:H q=none:=by
   cases e:H q with
   |none=>rfl
   |some o=>rw[sx _ _ nqp e] at hqf;cases hqf
  refine⟨dx,_,s4 _ _ hp',du,rfl,_,BA.k (k:=Sum.inr (S (Jg ls.length))) hdu4 (by unfold RP;rw[List.length_map,List.length_zip];lia),?_⟩;rw[wW hi3];refine⟨_,ls++[q],rfl,by simp,(ua nu).trans (s4 _ _ hp'),(ua (Fb hdb' hdu' (by intro z;cases z))).trans (s4 _ _ hdb'),ia,?_,λr hr=>?_,λx o n e=>(ua (ka e fdu)).trans (s4 _ _ (sx _ _ n e))⟩
  ·refine List.nodup_append.mpr ⟨hnd,by simp,λa ha b hb z=>?_⟩;have hb:b=q:=by simpa using hb
   rw[z,hb] at ha;rw[(hls q ha).1] at hqf;cases hqf
  ·rcases List.mem_append.mp hr with hr|hr
   ·exact⟨(ua (Fb (hls r hr).1 hdu' (by intro z;cases z))).trans (s4 _ _ (hls r hr).1),(hls r hr).2⟩
   ·have:r=q:=by simpa using hr
    subst this;exact⟨(ua (Fb hq4 hdu4 (by intro z;cases z))).trans hq4,fq⟩
 ·rintro σ H' ⟨v1,ls,rfl,hll,hp',hdb',hdu',hnd,hls,sx⟩
  match ls,hll with
  |[l0,l1,l2],_=>
   dsimp!;refine k H' db du l0 l1 l2 ⟨hp',hdb',hdu',hnd,λq hq=>?_,⟨rfl,λq hq=>?_⟩,λe he=>(by cases he)⟩ hdb fdu (hls l0 (by simp)).2 (hls l1 (by simp)).2 (hls l2 (by simp)).2 sx
   ·match q,hq with
    |0,_=>exact(hls l0 (by simp)).1
    |1,_=>exact(hls l1 (by simp)).1
    |2,_=>exact(hls l2 (by simp)).1
   ·match q,hq with
    |0,_=>exact List.length_replicate
    |1,_=>exact List.length_replicate
    |2,_=>exact List.length_replicate
def BZ(A:Ad)(H:Hp)(a0 x xd nb du:Addr)(c:KT.Ck)(i:Nat)(σ:L2.St)(H':Hp):Prop:=∃(v2:Option V)(ls:List Addr),σ=[some (.ref a0),some (.ref x),v2]/\ls.length=3/\H' x=some (.ins A.Tc xd (Qc ⟨.ref nb,.ref du⟩))/\H' nb=some (.dT (ZD c.b))/\H' du=some (.dK (RP ls))/\ls.Nodup/\(∀q∈ls,H q=none)/\
 (∀p,p<3->∃us,H' (ls.getD p 0)=some (.lst us)/\(p<i->us=iL (c.u.getD p [])))/\Aa H H'
theorem hU{q:Addr}{p:Nat}:∀{ls:List Addr},ls.length=3->p<3->putK (RP ls) (.inr (S (Jg p))) (V.ref q)=RP (ls.set p q)
 |[x,y,z],_,hp=>by
  have e:RP [x,y,z]=[(Sum.inr (S (Jg 0)),V.ref x),(Sum.inr (S (Jg 1)),V.ref y),(Sum.inr (S (Jg 2)),V.ref z)]:=rfl;have ne:∀{a b:Nat},a<3->b<3->a≠b->¬((Sum.inr (S (Jg a)):Key)=Sum.inr (S (Jg b))):=λha hb n h=>n (Pz ha hb (Sum.inr.inj h));unfold putK;rw[Di,rA hp,e];show List.map _ _=_
  match p,hp with
  |0,_=>simp only[List.map_cons,List.map_nil,if_pos,if_neg (ne (a:=1) (b:=0) (by decide) (by decide) (by decide)),if_neg (ne (a:=2) (b:=0) (by decide) (by decide) (by decide))];rfl
  |1,_=>simp only[List.map_cons,List.map_nil,if_pos,if_neg (ne (a:=0) (b:=1) (by decide) (by decide) (by decide)),if_neg (ne (a:=2) (b:=1) (by decide) (by decide) (by decide))];rfl
  |2,_=>simp only[List.map_cons,List.map_nil,if_pos,if_neg (ne (a:=0) (b:=2) (by decide) (by decide) (by decide)),if_neg (ne (a:=1) (b:=2) (by decide) (by decide) (by decide))];rfl
theorem gD{q:Addr}:∀{ls:List Addr}{i:Nat},ls.Nodup->q∉ls->(ls.set i q).Nodup
 |[],_,_,_=>List.nodup_nil
 |x::ls,0,h,hq=>by
  rw[List.set_cons_zero];exact List.nodup_cons.mpr ⟨λz=>hq (List.mem_cons_of_mem _ z),(List.nodup_cons.mp h).2⟩
 |x::ls,i+1,h,hq=>by
  rw[List.set_cons_succ];refine List.nodup_cons.mpr ⟨λz=>?_,gD (List.nodup_cons.mp h).2 λz=>hq (List.mem_cons_of_mem _ z)⟩;rcases List.mem_or_eq_of_mem_set z with z|z
  ·exact(List.nodup_cons.mp h).1 z
  ·exact hq (by rw[<-z];exact List.mem_cons_self ..)
def ou(K:PySem.W.Frag)(A:Ad):Sp:=λvs H Q _=>∃(v:V)(c:KT.Ck),vs=[v]/\br A H v c/\∀H' a dx db du l0 l1 l2,Aa H H'->VP A H' a dx db du l0 l1 l2 c->YU H a db du l0 l1 l2->Q (.ref a) H'
theorem fu(T:Txt K mg A):Ua P w K mg base nc 3 A.Dl A.zl ["clock"] (ou K A):=by
 refine T.oh.F.Uc ["clock","new","where"] (by decide +kernel) λvs H Q E h nd=>?_;obtain⟨v,c,rfl,hv,k⟩:=h;have hzl:=ak;obtain⟨a0,dx0,db0,du0,m0,m1,m2,rfl,C⟩:=hv;refine⟨rfl,λ_ _ _ _ hr=>?_⟩;have hu:=Ep hr;refine⟨_,(ba (Pa (i:=1) nd rfl (Or.inl rfl) (eZ (Qp T:) hr T.kz T.UE T.gk))
    (ba (Ih (fs:=Qc) (put:=λv o=>{o with yx:=v}) T.Am T.mi uO Jz (pv 1) (cf DJ rfl T.VW cT (aa (pF (Ie T) (pv 0)) da)) rfl)
    (ba (Ag PassesOwn.never rfl (iZ K (WH rfl T.Kd)) (Va (i:=2) nd rfl (Or.inl rfl)) (ja (kx hu (pF (Md T) (pv 1)) (pv 2) (cf (Eg K) rfl T.pG Uw (aa (Xk hu (pF (Md T) (pv 0)) (pv 2) (λ_ _=>rfl)) da)) rfl)))
    (ja (oa (pv 1)))))),?_⟩
 dsimp only[Cc];dsimp!;intro x xd hx hxd hne;refine⟨x,xd,rfl,ia,λH1 db du l0 l1 l2 C1 fdb fdu fl0 fl1 fl2 s1=>⟨rfl,?_⟩⟩;have sH1:Aa H H1:=Aa.made hx hxd λb o e hb=>s1 b o hb e;have toH:∀{y:Addr},upd (upd H xd (.own x)) x (.ins A.Tc xd []) y=none->H y=none:=λ{y} h=>by
  cases e:H y with
  |none=>rfl
  |some o=>rw[ua (ka e hx),ua (ka e hxd),e] at h;cases h
 have C0:=C.mono sH1;refine⟨dx0,_,C0.ob,db0,rfl,_,C0.bg,C.pk,λnb hnb=>⟨xd,_,(qa hnb) _ _ C1.ob,⟨_,T.Yb _⟩,?_⟩⟩;have nxb:x≠nb:=ka C1.ob hnb;have fnb:H nb=none:=sH1.free hnb;have hx2:(upd (upd H1 nb (.dT (ZD c.b))) x (.ins A.Tc xd (Qc ⟨.ref nb,.ref du⟩))) x=some (.ins A.Tc xd (Qc ⟨.ref nb,.ref du⟩)):=ia;have hnb2:(upd (upd H1 nb (.dT (ZD c.b))) x (.ins A.Tc xd (Qc ⟨.ref nb,.ref du⟩))) nb=some (.dT (ZD c.b)):=by rw[ua (Ne.symm nxb),ia]
 have s2:ab x H1 (upd (upd H1 nb (.dT (ZD c.b))) x (.ins A.Tc xd (Qc ⟨.ref nb,.ref du⟩))):=λy o n e=>by rw[ua n];exact(qa hnb) _ _ e
 dsimp only;generalize (upd (upd H1 nb (.dT (ZD c.b))) x (.ins A.Tc xd (Qc ⟨.ref nb,.ref du⟩)))=H2 at hx2 hnb2 s2⊢;have nlx:∀{y:Addr}{xs:List V},H1 y=some (.lst xs)->y≠x:=λe=>Fb e C1.ob (by intro z;cases z);refine Eh (xs:=sL Km382.wPlaces) (BZ A H a0 x xd nb du c) ⟨none,[l0,l1,l2],rfl,rfl,hx2,hnb2,s2 _ _ (Fb C1.us C1.ob (by intro z;cases z)) C1.us,C1.nd,λq hq=>?_,λp hp=>⟨_,s2 _ _ (nlx (C1.sl p hp)) (C1.sl p hp),λz=>absurd z (Nat.not_lt_zero _)⟩,λy o e=>s2 _ _ (ka e hx) (sH1 _ _ e)⟩ (λ_ _ _ _ _=>by rw[<-Xs];exact yu λH1=>T.Yb H1) ?_ ?_
 ·simp only[List.mem_cons,List.not_mem_nil,or_false] at hq;rcases hq with rfl|rfl|rfl
  ·exact toH fl0
  ·exact toH fl1
  ·exact toH fl2
 ·rintro i v σ H' hi ⟨v2,ls,rfl,hl3,hx',hnb',hdu',hnd,hfr,hsl,sH⟩;have hi3:i<3:=(List.getElem?_eq_some_iff.mp hi).1;have ev:v=.str (S (Jg i)):=by
   unfold sL at hi;rw[List.getElem?_map] at hi
   match i,hi3 with
   |0,_=>exact(Option.some.inj hi).symm
   |1,_=>exact(Option.some.inj hi).symm
   |2,_=>exact(Option.some.inj hi).symm
  subst ev;have C':=C.mono sH;have hdg:Mg H' du0 (.str (S (Jg i))) (some (.ref ([m0,m1,m2].getD i 0))):=by
   have:=Mg.k (k:=Sum.inr (S (Jg i))) C'.us;rw[rA hi3] at this;exact this
  dsimp![tI,Zv];refine⟨dx0,_,C'.ob,du0,rfl,_,hdg,_,rfl,_,.inl (Ha.of (C'.sl i hi3)),λq hq=>?_⟩;have s4:Aa H' (upd H' q (.lst (iL (c.u.getD i [])))):=qa hq;have hq4:(upd H' q (.lst (iL (c.u.getD i [])))) q=some (.lst (iL (c.u.getD i []))):=ia;generalize (upd H' q (.lst (iL (c.u.getD i []))))=H4 at s4 hq4⊢;have hdu4:=s4 _ _ hdu';refine⟨xd,_,s4 _ _ hx',du,rfl,_,BA.k (k:=Sum.inr (S (Jg i))) hdu4 (by unfold RP;rw[List.length_map,List.length_zip];lia),?_⟩;rw[hU hl3 hi3];have fdu':H du=none:=toH fdu;have nlist:∀{y:Addr}{xs:List V},H4 y=some (.lst xs)->y≠du:=λe=>Fb e hdu4 (by intro z;cases z);have qn:q∉ls:=λhm=>by
   obtain⟨n,hn,e⟩:=List.getElem_of_mem hm;obtain⟨us,hus,_⟩:=hsl n (by lia);rw[List.getD_eq_getElem?_getD,List.getElem?_eq_getElem hn,Option.getD_some,e,hq] at hus;cases hus
  refine⟨_,ls.set i q,rfl,by rw[List.length_set];exact hl3,(ua (Fb hx' hdu' (by intro z;cases z))).trans (s4 _ _ hx'),(ua (Fb hnb' hdu' (by intro z;cases z))).trans (s4 _ _ hnb'),ia,gD hnd qn,λr hr=>?_,λp hp=>?_,λy o e=>(ua (ka e fdu')).trans (s4 _ _ (sH _ _ e))⟩
  ·rcases List.mem_or_eq_of_mem_set hr with hr|hr
   ·exact hfr r hr
   ·rw[hr];exact sH.free hq
  ·by_cases e:p=i
   ·subst e;have e1:(ls.set p q).getD p 0=q:=by rw[List.getD_eq_getElem?_getD,List.getElem?_set_self (by lia)];rfl
    rw[e1];exact⟨_,(ua (nlist hq4)).trans hq4,λ_=>rfl⟩
   ·have e1:(ls.set i q).getD p 0=ls.getD p 0:=by rw[List.getD_eq_getElem?_getD,List.getElem?_set_ne (Ne.symm e),List.getD_eq_getElem?_getD]
    rw[e1];obtain⟨us,hus,hu2⟩:=hsl p hp;exact⟨us,(ua (nlist (s4 _ _ hus))).trans (s4 _ _ hus),λz=>hu2 (by lia)⟩
 ·rintro σ H' ⟨v2,ls,rfl,hl3,hx',hnb',hdu',hnd,hfr,hsl,sH⟩
  match ls,hl3 with
  |[k0,k1,k2],_=>
   dsimp!;refine k H' x xd nb du k0 k1 k2 sH ⟨hx',hnb',hdu',hnd,λp hp=>?_,C.ok,C.ks⟩ ⟨hx,fnb,toH fdu,hfr k0 (by simp),hfr k1 (by simp),hfr k2 (by simp)⟩;obtain⟨us,hus,hu2⟩:=hsl p hp;rw[hus,hu2 hp]
theorem NV(n:Nat)(l:List Nat):dX (.int (n:Int)) (iL l)=l.contains n:=by
 unfold dX iL;rw[List.any_map];induction l with
 |nil=>rfl
 |cons x l ih=>
  rw[List.any_cons,List.contains_cons,ih];congr 1;show((x:Int)==(n:Int))=(n==x);rw[Bool.eq_iff_iff,beq_iff_eq,beq_iff_eq];lia
theorem xT(l:List Nat):(iL l).all Ri=true:=by
 unfold iL;rw[List.all_map,List.all_eq_true];intro x _;rfl
theorem Bn{α β:Type}{f:α->V}{g:α->β}{R:V->β->Prop}:∀{l:List α},(∀q∈l,R (f q) (g q))->Paired R (l.map f) (l.map g)
 |[],_=>.nil
 |q::l,h=>.cons (h q (List.mem_cons_self ..)) (Bn λq' hq=>h q' (List.mem_cons_of_mem _ hq))
def fA(K:PySem.W.Frag)(A:Ad):Sp:=λvs H Q _=>∃(v:V)(c:KT.Ck)(m n slot:Nat)(sl:Addr)(svs:List V)(steps:List Km382.Step_)(starts:List (Nat×Nat)),vs=[v,.int (m:Int),.ref sl,.int (n:Int),.int (slot:Int)]/\br A H v c/\H sl=some (.lst svs)/\Paired (ig A H sl) svs steps/\steps.length<=8/\n<steps.length/\
 starts.map Prod.fst=List.range' (n+1) (steps.length-(n+1))/\(∀x∈starts,KT.Cj c.b m x.1=some x.2)/\∀H',Aa H H'->Q (.int ((Km382.doneBy steps starts slot n:Nat):Int)) H'
theorem zz(T:Txt K mg A):Ua P w K mg base nc 1 A.zp A.qp ["clock","place","steps","number","slot"] (fA K A):=by
 refine T.bj.F.Uc ["clock","place","steps","number","slot","behind","later"] (by decide +kernel) λvs H Q E h nd=>?_;obtain⟨v,c,m,n,slot,sl,svs,steps,starts,rfl,hv,hsl,hP,h8,hnl,hst,hbg,k⟩:=h;have hzl:=ak;obtain⟨a,dx,db,du,l0,l1,l2,rfl,C⟩:=hv;have hlen:=hP.length;refine⟨rfl,λ_ _ _ _ hr=>?_⟩;have hu:=Ep hr;refine⟨_,(ba (yi (i:=5) rfl nd rfl rfl rfl (qD rfl T.To (aa (Sb yg (pv 3) va) (aa (Oa (Ga (K:=K) rfl) rfl T.Zb Eb (aa (pv 2) da)) da))) (own:=[("later",6)]) (bc (show Cb ["clock","place","steps","number","slot","behind","later"] (Ra wj) _ [("later",6)]=true from by decide +kernel)) (λ_ _ _ _ _=>Va (i:=6) nd rfl (Or.inl rfl)) (λ_ _ _ _ _=>se (Ca (Qk (K:=K) rfl) (pv 3) (pF (ql T) (vc K (pv 2) (pv 6))) (by rfl))) (λ_ _ _ _ _=>(pv 6)))
   (ja (oa (Oa (iT K rfl) rfl T.VU kQ (aa (Sb zg (Wa (aa (pv 4) da)) (Fe rfl nd (iu K (pv 5)) (own:=[("later",6)]) (bc (show Cb ["clock","place","steps","number","slot","behind","later"] (Ra wj) _ [("later",6)]=true from by decide +kernel)) (λ_ _ _ _ _=>Va (i:=6) nd rfl (Or.inl rfl)) (λ_ _ _ _ _=>Ed) (λ_ _ _ _ _=>(Xk hu (pF (Ie T) (pv 0)) (xi (aa (pv 1) (aa (pv 6) da))) (λ_ _=>rfl))))) da))))),?_⟩
 dsimp only[Cc];dsimp![fR];refine⟨_,.inl (Ha.of hsl),by lia,by lia,by lia,by lia,?_⟩;rw[hlen,show((steps.length:Int)-((n:Int)+1)).toNat=steps.length-(n+1) by lia];refine rh (Rl:=λx(j:Nat)=>x=.int (j:Int)/\j<steps.length) (ms:=List.range' (n+1) (steps.length-(n+1))) (by
  rw[List.range'_eq_map_range];exact Bn λq hq=>⟨by rw[<-Int.natCast_one,<-Int.natCast_add,<-Int.natCast_add],by have:=List.mem_range.mp hq;lia⟩) (λj=>if KT.WD steps n j=true then some (.int (j:Int)) else none) Yi (by rw[List.length_map,List.length_range];lia) (λi x j H1 R hj hx hs r=>?_) λD H1 hD h1 s1=>?_
 ·obtain⟨rfl,hjl⟩:=hx;obtain⟨st,hst'⟩:∃st,steps[j]?=some st:=⟨_,List.getElem?_eq_getElem hjl⟩;obtain⟨sv,hsv,sa,sdx,af,rfl,hsa,haf,_⟩:=Bb hP hst';have r:=r H1 (Aa.refl _);have ea:KT.WD steps n j=st.after.contains n:=by unfold KT.WD;rw[hst']
  rw[ea] at r;dsimp![wipe,UX];refine⟨_,Ha.of (hs _ _ hsl),_,wa hsv,sa,rfl,sdx,_,hs _ _ hsa,af,rfl,_,.inl (Ha.of (hs _ _ haf)),rfl,xT _,?_⟩;rw[NV];cases hc:st.after.contains n with
  |true=>rw[hc] at r;exact r
  |false=>rw[hc] at r;exact r
 rw[LC] at h1;generalize hJ:(List.range' (n+1) (steps.length-(n+1))).filter (KT.WD steps n)=J at h1;have hJl:J.length<=8:=by
  have:=List.length_filter_le (KT.WD steps n) (List.range' (n+1) (steps.length-(n+1)));rw[hJ,List.length_range'] at this;lia
 have hJm:∀j∈J,∃t,KT.Cj c.b m j=some t:=λj hj=>by
  rw[<-hJ] at hj;have:=(List.mem_filter.mp hj).1;rw[<-hst] at this;obtain⟨x,hx,rfl⟩:=List.mem_map.mp this;exact⟨_,hbg x hx⟩
 refine⟨by decide,λp hp=>⟨D,rfl,?_⟩⟩;have s2:Aa H1 (upd H1 p (.lst [V.int (slot:Int)])):=qa hp;have hp2:(upd H1 p (.lst [V.int (slot:Int)])) p=some (.lst [V.int (slot:Int)]):=ia;generalize (upd H1 p (.lst [V.int (slot:Int)]))=H2 at s2 hp2⊢;have s12:=s1.trans s2;have hD2:=s2 _ _ h1;refine⟨⟨_,Ha.of hD2⟩,rh (Rl:=λx(j:Nat)=>x=.int (j:Int)/\j∈J) (ms:=J) (bh (g:=λ(j:Nat)=>V.int (j:Int)) λq hq=>⟨rfl,hq⟩) (λj=>some (.int (((KT.Cj c.b m j).getD 0:Nat):Int))) (qb (Ha.of hD2)) (by rw[List.length_map];lia) (λi x j H3 R hj hx hs r=>?_) λD3 H3 hD3 h3 s3=>?_⟩
 ·obtain⟨rfl,hjm⟩:=hx;obtain⟨t,ht⟩:=hJm j hjm;rw[ht] at r;have s13:=s12.trans hs;dsimp![wipe,Zv];refine⟨dx,_,s13 _ _ C.ob,by decide,λq hq=>⟨db,rfl,_,?_,r _ (qa hq)⟩⟩;have:=Mg.t (k:=[Sum.inl (m:Int),Sum.inl (j:Int)]) ((qa (o:=.tup [V.int (m:Int),V.int (j:Int)]) hq) _ _ (s13 _ _ C.bg)) ia;rw[qA,ht] at this;exact this
 rw[Si] at h3;refine⟨p,D3,_,_,rfl,rfl,s3 _ _ hp2,h3,by rw[List.length_map];simp;lia,λp2 hp2'=>?_⟩;generalize hB:(J.map λj=>(KT.Cj c.b m j).getD 0)=B;have eL:([V.int (slot:Int)]++J.map λj=>V.int (((KT.Cj c.b m j).getD 0:Nat):Int))=((slot::B).map λ(n:Nat)=>(n:Int)).map V.int:=by
  rw[<-hB];simp
 rw[eL];refine⟨p2,_,rfl,Ha.of ia,by simp,λz hz1 hz2=>?_⟩;obtain⟨h4,h5⟩:=KT.Bk steps n starts slot;rw[KT.Xv (v:=λj=>(KT.Cj c.b m j).getD 0) (λx hx=>by rw[hbg x hx];rfl),hst,hJ,hB] at h4 h5;have e1:z=((Km382.doneBy steps starts slot n:Nat):Int):=by
  obtain⟨q,hq,rfl⟩:=List.mem_map.mp hz1;have a1:=h5 q hq;have a2:=hz2 _ (List.mem_map.mpr ⟨_,h4,rfl⟩);lia
 rw[e1];exact k _ ((s12.trans s3).trans (qa hp2'))
def IY(H1:Hp)(a sa q:Addr)(m i t:Nat)(u:List Nat)(j:Nat)(σ:L2.St)(H':Hp):Prop:=∃v5:Option V,σ=[some (.ref a),some (.int (m:Int)),some (.int (i:Int)),some (.ref sa),some (.int (t:Int)),v5]/\H' q=some (.lst (iL (KT.bump u t j)))/\ab q H1 H'
def aJ(K:PySem.W.Frag)(A:Ad):Sp:=λvs H Q _=>∃(a dx db du l0 l1 l2 y:Addr)(c:KT.Ck)(m i t:Nat)(sv:V)(s:Km382.Step_),vs=[.ref a,.int (m:Int),.int (i:Int),sv,.int (t:Int)]/\VP A H a dx db du l0 l1 l2 c/\ig A H y sv s/\s.place<3/\t+s.long<=288/\KT.Cj c.b m i=none/\m<12/\i<8/\c.b.length<=1000/\
 ∀H',VP A H' a dx db du l0 l1 l2 (c.lay m i s.place t s.long)->(∀x o,x≠db->x≠[l0,l1,l2].getD s.place 0->H x=some o->H' x=some o)->Q .Vb H'
theorem PH(T:Txt K mg A):Ua P w K mg base nc 1 A.Gy A.iy ["clock","place","number","step","begin"] (aJ K A):=by
 refine T.yq.F.Uc ["clock","place","number","step","begin","slot"] (by decide +kernel) λvs H Q E h nd=>?_;obtain⟨a,dx,db,du,l0,l1,l2,y,c,m,i,t,sv,s,rfl,C,hs,h3,h288,hnone,hm,hi,hbl,k⟩:=h;have hzl:=ak;obtain⟨sa,sdx,sl,rfl,hsa,hsl,_⟩:=hs;have q0:=C.sl s.place h3;have hu288:=C.ok.full s.place h3;generalize hq:[l0,l1,l2].getD s.place 0=q at q0 k;refine⟨rfl,λ_ _ _ _ hr=>?_⟩;have hu:=Ep hr;refine⟨_,(ba (kx hu (pF (Ie T) (pv 0)) (xi (aa (pv 1) (aa (pv 2) da))) (pv 4) rfl)
    (ja (Ag PassesOwn.never rfl (qD rfl T.To (aa (pv 4) (aa (Sb yg (pv 4) (pF (rl T) (pv 3))) da))) (Va (i:=5) nd rfl (Or.inl rfl)) (ja (fU (Xk hu (pF (Md T) (pv 0)) (pF (Lh T) (pv 3)) (λ_ _=>rfl)) (pv 5) TQ va HE set_list))))),?_⟩
 dsimp only[Cc];dsimp![fR,tI];have nq:∀{x:Addr}{o:HO},H x=some o->(∀xs,o≠.lst xs)->x≠q:=λe n=>Fb e q0 (n _);refine⟨dx,_,C.ob,by decide,λp hp=>⟨db,rfl,_,BA.t (k:=[.inl (m:Int),.inl (i:Int)]) ((qa hp) _ _ C.bg) ia (by rw[vM];lia),?_⟩⟩;rw[vW hnone];have s1:ab db H (upd (upd H p (.tup [V.int (m:Int),V.int (i:Int)])) db (.dT (ZD (c.b++[((m,i),t)])))):=λx o n e=>by rw[ua n];exact(qa hp) _ _ e
 have hdb1:(upd (upd H p (.tup [V.int (m:Int),V.int (i:Int)])) db (.dT (ZD (c.b++[((m,i),t)])))) db=some (.dT (ZD (c.b++[((m,i),t)]))):=ia;generalize (upd (upd H p (.tup [V.int (m:Int),V.int (i:Int)])) db (.dT (ZD (c.b++[((m,i),t)]))))=H1 at s1 hdb1⊢;have nd1:∀{x:Addr}{o:HO},H x=some o->(∀xs,o≠.dT xs)->x≠db:=λe n=>Fb e C.bg (n _);have hsa1:=s1 _ _ (nd1 hsa (by intro _ z;cases z)) hsa;have hob1:=s1 _ _ (nd1 C.ob (by intro _ z;cases z)) C.ob;have hus1:=s1 _ _ (nd1 C.us (by intro _ z;cases z)) C.us;have hq1:=s1 _ _ (nd1 q0 (by intro _ z;cases z)) q0;refine⟨sdx,_,hsa1,_,rfl,by lia,by lia,by lia,by lia,?_⟩;rw[show((t:Int)+(s.long:Int)-(t:Int)).toNat=s.long by lia];refine Eh (xs:=(List.range s.long).map λ(k:Nat)=>V.int ((t:Int)+(k:Int))) (IY H1 a sa q m i t (c.u.getD s.place [])) ⟨none,rfl,by rw[KT.PN];exact hq1,λ_ _ _ e=>e⟩ (λ_ _ _ _ _=>Yi) ?_ ?_
 ·rintro j v σ H' hj ⟨v5,rfl,hq',sx⟩;have hjl:j<s.long:=by have:=(List.getElem?_eq_some_iff.mp hj).1;simpa using this
  rw[List.getElem?_map,List.getElem?_range hjl] at hj;have ev:v=.int ((t+j:Nat):Int):=by rw[<-Option.some.inj hj];show V.int ((t:Int)+(j:Int))=_;rw[<-Int.natCast_add]
  subst ev;dsimp![NU,Zv,IU,QV,fI];have hob':=sx _ _ (nq C.ob (by intro _ z;cases z)) hob1;have hsa':=sx _ _ (nq hsa (by intro _ z;cases z)) hsa1;have hus':=sx _ _ (nq C.us (by intro _ z;cases z)) hus1;have hdg:Mg H' du (.str (S (Jg s.place))) (some (.ref q)):=by
   have:=Mg.k (k:=Sum.inr (S (Jg s.place))) hus';rw[rA h3,hq] at this;exact this
  refine⟨dx,_,hob',sdx,_,hsa',du,rfl,_,hdg,q,rfl,_,t+j,rfl,hq',_,EE (KT.MN (by lia)),_,rfl,q,rfl,_,hq',t+j,Zw (by rw[XJ,KT.zx];lia),?_⟩;refine⟨_,rfl,?_,sx.trans bb⟩;rw[ia,KT.ON (by lia)];unfold iL;rw[List.map_set,Int.natCast_add];rfl
 ·rintro σ H' ⟨v5,rfl,hq',sx⟩;rw[List.length_map,List.length_range] at hq';dsimp!;have keep:∀{x:Addr}{o:HO},H x=some o->x≠q->x≠db->H' x=some o:=λe n1 n2=>sx _ _ n1 (s1 _ _ n2 e);refine k H' ⟨keep C.ob (nq C.ob (by intro _ z;cases z)) (nd1 C.ob (by intro _ z;cases z)),sx _ _ (nq C.bg (by intro _ z;cases z)) hdb1,keep C.us (nq C.us (by intro _ z;cases z)) (nd1 C.us (by intro _ z;cases z)),C.nd,λp' hp'=>?_,C.ok.lay h3,λe he=>?_⟩ λx o n1 n2 e=>keep e n2 n1
  ·have h3l:=C.ok.three;by_cases e:p'=s.place
   ·subst e;rw[hq,hq'];show _=some (HO.lst (iL ((c.u.set s.place (KT.bump (c.u.getD s.place []) t s.long)).getD s.place [])));rw[List.getD_eq_getElem?_getD (l:=c.u.set _ _),List.getElem?_set_self (by lia)];rfl
   ·have e1:(c.lay m i s.place t s.long).u.getD p' []=c.u.getD p' []:=by
     show(c.u.set s.place (KT.bump (c.u.getD s.place []) t s.long)).getD p' []=_;rw[List.getD_eq_getElem?_getD,List.getElem?_set_ne (Ne.symm e),List.getD_eq_getElem?_getD]
    rw[e1];have hl:=C.sl p' hp';refine keep hl (λz=>e ?_) (nd1 hl (by intro _ z;cases z));rw[<-hq] at z;have g:∀{n:Nat},n<3->[l0,l1,l2][n]?=some ([l0,l1,l2].getD n 0):=λ{n} hn=>by rw[List.getD_eq_getElem?_getD,List.getElem?_eq_getElem (by simpa using hn)];rfl
    exact(List.getElem?_inj (by simpa using hp') C.nd).mp ((g hp').trans ((congrArg some z).trans (g h3).symm))
  ·rcases List.mem_append.mp he with he|he
   ·exact C.ks e he
   ·have:e=((m,i),t):=by simpa using he
    subst this;exact⟨hm,hi⟩
def EZ(A:Ad)(H:Hp)(v sv:V)(ma sl a dx db du l0 l1 l2:Addr)(kt:Km382.Kitchen)(q:Km382.Recipe)(m slot n0:Nat)(r:List (Nat×List (Nat×Nat)))(l:List Km382.Item)(i:Nat)(σ:L2.St)(H':Hp):Prop:=∃(v6 v7 v8 v9:Option V)(ck:KT.Ck)(starts:List (Nat×Nat))(l':List Km382.Item),σ=[some v,some sv,some (.int (m:Int)),some (.ref ma),some (.ref sl),some (.ref a),v6,v7,v8,v9]/\Aa H H'/\VP A H' a dx db du l0 l1 l2 ck/\i<=q.steps.length/\KT.gg kt q m slot r l (q.steps.length-i) ck starts l'/\ck.b.length=n0+i
def uB(K:PySem.W.Frag)(A:Ad):Sp:=λvs H Q _=>∃(v sv:V)(c:KT.Ck)(k:Km382.Kitchen)(m:Nat)(x:Km382.Meal)(q:Km382.Recipe)(r:List (Nat×List (Nat×Nat)))(l:List Km382.Item),vs=[v,sv,.int (m:Int)]/\br A H v c/\kc A H sv k/\KT.qc k/\k.meal m=some x/\k.recipe x.recipe=some q/\KT.WW c r l/\(r.find? λy=>y.1==m)=none/\c.b.length<=900/\
 ∀H' v' c',Aa H H'->br A H' v' c'->((c'=c/\Km382.layOn k.places q.steps x.slot (List.range q.steps.length).reverse [] l=none)\/∃starts l',KT.gg k q m x.slot r l 0 c' starts l')->c'.b.length<=c.b.length+8->Q v' H'
theorem XA(T:Txt K mg A):Ua P w K mg base nc 4 A.Hr A.zr ["clock","state","place"] (uB K A):=by
 refine T.rk.F.Uc ["clock","state","place","meal","steps","new","number","step","end","begin"] (by decide +kernel) λvs H Q E h nd=>?_;obtain⟨v,sv,c,kt,m,x,q,r,l,rfl,hv,hst,hI,hx,hq,hR,hno,hbl,k⟩:=h;have hzl:=ak;have hst0:=hst;obtain⟨a0,dx0,lg,ll,lr,lm,gs,ls,rs,ms,rfl,s⟩:=hst;obtain⟨h0,o0,c0,epl,ob⟩:=s.ob;have hx12:=KT.Ye hI hx;have hM:=hI.meals x hx12.2;have hRI:=hI.recipes q (KT.Cg hI hq).2;obtain⟨mv,hmv,⟨ma,mdx,rfl,hma⟩,_⟩:=s.meal hx;obtain⟨rv,hrv,⟨ra,rdx,d,sl,rfl,R⟩,_⟩:=s.recipe hq;obtain⟨svs,hsl,hPs⟩:=R.st;have hpl:=hPs.length;have h8:=hRI.MF.2;unfold cg at hma;refine⟨rfl,λ_ _ _ _ hr=>?_⟩;have hu:=Ep hr;refine⟨_,(ba (Pa (i:=3) nd rfl (Or.inl rfl) (vc K (pF (Za T) (pv 1)) (pv 2)))
    (ba (Pa (i:=4) nd rfl (Or.inl rfl) (pF (Bc T) (vc K (pF (rb T) (pv 1)) (pF (Wc T) (pv 3)))))
    (ba (Pa (i:=5) nd rfl (Or.inl rfl) (pC (fu T:) hr T.oh (aa (pv 0) da)))
    (ba (Ag PassesOwn.never rfl (rD rfl T.To (aa (Sb Sk (Oa (Ga (K:=K) rfl) rfl T.Zb Eb (aa (pv 4) da)) va) (aa (eN mG va) (aa (eN mG va) da)))) (Va (i:=6) nd rfl (Or.inl rfl)) (ba (Pa (i:=7) nd rfl (Or.inl rfl) (vc K (pv 4) (pv 6)))
    (ba (Pa (i:=8) nd rfl (Or.inl rfl) (pC (zz T:) hr T.bj (aa (pv 5) (aa (pv 2) (aa (pv 4) (aa (pv 6) (aa (pF (kh T) (pv 3)) da)))))))
    (ba (Pa (i:=9) nd rfl (Or.inl rfl) (pC (zw T:) hr T.Qh (aa (Xk hu (pF (Md T) (pv 5)) (pF (Lh T) (pv 7)) (λ_ _=>rfl)) (aa (pC (MK T:) hr T.Ht (aa (pv 1) (aa (pF (Lh T) (pv 7)) da))) (aa (pF (rl T) (pv 7)) (aa (pv 8) da))))))
    (ba (Ma (Ca JR (pv 9) ic (Ea _)) (ja (oa (pv 0))) za)
    (ja (df (pC (PH T:) hr T.yq (aa (pv 5) (aa (pv 2) (aa (pv 6) (aa (pv 7) (aa (pv 9) da)))))))))))))
    (ja (oa (pv 5))))))),?_⟩
 dsimp only[Cc];dsimp![NM,rU];refine⟨dx0,_,ob,lm,rfl,ms,Ha.of s.hm,_,wa hmv,dx0,_,ob,ma,rfl,mdx,_,hma,lr,rfl,rs,_,rfl,Ha.of s.hr,_,wa hrv,ra,rfl,rdx,_,R.ob,?_⟩;refine⟨v,c,rfl,hv,λH1 a dx db du l0 l1 l2 s1 C1 N1=>?_⟩;dsimp![NM,rU];refine⟨_,.inl (Ha.of (s1 _ _ hsl)),q.steps.length,?_,?_⟩
 ·have:=sX.neg (i:=(svs.length:Int)-1) (j:=-1) (by lia) (by lia) (by decide) (by decide)
  rwa [show((svs.length:Int)-1- -1).toNat=q.steps.length by lia] at this
 rw[hpl];refine Eh (xs:=(List.range q.steps.length).map λ(k:Nat)=>V.int ((q.steps.length:Int)-1+(k:Int)*-1)) (EZ A H v (.ref a0) ma sl a dx db du l0 l1 l2 kt q m x.slot c.b.length r l) ⟨none,none,none,none,c,[],l,rfl,s1,C1,Nat.zero_le _,KT.gg.start hR hno,rfl⟩ (λ_ _ _ _ _=>ft) ?_ ?_
 ·rintro i vi σ H' hi ⟨v6,v7,v8,v9,ck,starts,l',rfl,sH,C',_,hL,hbl'⟩;have hlt:i<q.steps.length:=by have:=(List.getElem?_eq_some_iff.mp hi).1;simpa using this
  rw[List.getElem?_map,List.getElem?_range hlt] at hi;have hi:=Option.some.inj hi;obtain⟨n,hn⟩:∃n,q.steps.length-i=n+1:=⟨q.steps.length-i-1,by lia⟩;rw[hn] at hL;have ev:vi=.int (n:Int):=by rw[<-hi];show V.int ((q.steps.length:Int)-1+(i:Int)*-1)=_;congr 1;lia
  subst ev;have hnl:n<q.steps.length:=by lia
  obtain⟨st,hst'⟩:∃st,q.steps[n]?=some st:=⟨_,List.getElem?_eq_getElem hnl⟩;obtain⟨svv,hsvv,hstep⟩:=Bb hPs hst';have hstep0:=hstep;obtain⟨sa,sdx,af,rfl,hsa,haf,naf⟩:=hstep;have hsI:=hRI.steps st (List.mem_of_getElem? hst');have h3:=hsI.2.2.2;obtain⟨hstepN,hstepS⟩:=hL.step hst' h3 hM.slot.2;have hdle:=KT.lC q.steps n starts x.slot;have hs288:=hM.slot.2;have hkeys:=hL.keys;dsimp!;refine⟨_,Ha.of (sH _ _ hsl),_,wa hsvv,mdx,_,sH _ _ hma,?_⟩;refine⟨_,ck,m,n,x.slot,sl,svs,q.steps,starts,rfl,⟨a,dx,db,du,l0,l1,l2,rfl,C'⟩,sH _ _ hsl,hPs.mono λ_ _ z=>z.mono (λb o _ _ e=>sH b o e) ⟨_,hsl⟩,h8,hnl,hkeys,hL.at,λH2 s2=>?_⟩;have sA:=sH.trans s2;have C2:=C'.mono s2;have hdg:Mg H2 du (.str (S (Jg st.place))) (some (.ref ([l0,l1,l2].getD st.place 0))):=by
   have:=Mg.k (k:=Sum.inr (S (Jg st.place))) C2.us;rw[rA h3] at this;exact this
  dsimp![Zv];refine⟨dx,_,C2.ob,sdx,_,sA _ _ hsa,du,rfl,_,hdg,sdx,_,sA _ _ hsa,?_⟩;refine⟨_,kt,st.place,rfl,hst0.mono sA,h3,sdx,_,sA _ _ hsa,_,_,_,st.long,_,rfl,C2.sl st.place h3,C2.ok.full _ h3,by lia,hsI.2.1,?_⟩;cases hlb:KT.lb (ck.u.getD st.place []) (kt.places.getD st.place 0) st.long (Km382.doneBy q.steps starts x.slot n) with
  |none=>exact(if_pos rfl).mpr (k H2 v c sA (hv.mono sA) (.inl ⟨rfl,hstepN hlb⟩) (by lia))
  |some t=>
   have hLn:=hstepS t hlb;have hb:=(KT.RM.mp hlb).1;have hln:H ([l0,l1,l2].getD st.place 0)=none:=by
    generalize st.place=pp at h3
    match pp,h3 with
    |0,_=>exact N1.2.2.2.1
    |1,_=>exact N1.2.2.2.2.1
    |2,_=>exact N1.2.2.2.2.2
   refine(if_neg (by intro z;cases z)).mpr ⟨a,dx,db,du,l0,l1,l2,sl,ck,m,n,t,_,st,rfl,C2,hstep0.mono (λb o _ _ e=>sA b o e) ⟨_,hsl⟩,h3,by lia,by rw[hL.mid.get,if_pos rfl,hL.fresh];rfl,hx12.1,by lia,by lia,λH3 C3 keep=>?_⟩;exact⟨_,_,_,_,ck.lay m n st.place t st.long,_,_,rfl,λy o e=>keep y o (ka e N1.2.1) (ka e hln) (sA _ _ e),C3,by lia,by rw[show q.steps.length-(i+1)=n by lia];exact hLn,by show(ck.b++[((m,n),t)]).length=_;simp;lia⟩
 ·rintro σ H' ⟨v6,v7,v8,v9,ck,starts,l',rfl,sH,C',_,hL,hbl'⟩;rw[List.length_map,List.length_range] at hL hbl';rw[Nat.sub_self] at hL;dsimp!;exact k H' _ ck sH ⟨a,dx,db,du,l0,l1,l2,rfl,C'⟩ (.inr ⟨starts,l',hL⟩) (by lia)
theorem Lx{α:Type}{p:α->Bool}{G:α->Addr->Prop}:∀{l:List α}{ys:List (Option V)},ys.length=l.length->(∀(j:Nat)(x:α),l[j]?=some x->∃y,ys[j]?=some y/\if p x=true then∃T,y=some (.ref T)/\G x T else y=none)->∃ps:List (Addr×α),ys.filterMap id=ps.map (λq=>V.ref q.1)/\(∀q∈ps,G q.2 q.1)/\ps.map Prod.snd=l.filter p
 |[],[],_,_=>⟨[],rfl,λq hq=>(by cases hq),rfl⟩
 |[],_::_,h,_=>by simp at h
 |_::_,[],h,_=>by simp at h
 |x::l,y::ys,h,k=>by
  obtain⟨ps,h1,h2,h3⟩:=Lx (p:=p) (G:=G) (l:=l) (ys:=ys) (by simpa using h) λj z hz=>k (j+1) z hz;obtain⟨y',hy',hp⟩:=k 0 x rfl;have e:y=y':=Option.some.inj hy';subst e;by_cases c:p x=true
  ·rw[if_pos c] at hp;obtain⟨T,rfl,hT⟩:=hp;refine⟨(T,x)::ps,by rw[List.filterMap_cons,h1];rfl,λq hq=>?_,by rw[List.map_cons,h3,List.filter_cons_of_pos c]⟩;rcases List.mem_cons.mp hq with rfl|hq
   ·exact hT
   ·exact h2 q hq
  ·rw[if_neg c] at hp;subst hp;exact⟨ps,by rw[List.filterMap_cons,h1];rfl,h2,by rw[h3,List.filter_cons_of_neg c]⟩
def DZ(A:Ad)(H:Hp)(a:Addr)(y:Nat)(v2:V)(kt:Km382.Kitchen)(so:Addr)(qs:List (Addr×(Nat×Nat)))(i:Nat)(σ:L2.St)(H':Hp):Prop:=∃(v3 v4 v6:Option V)(cv:V)(ck:KT.Ck)(r:List (Nat×List (Nat×Nat)))(l:List Km382.Item),σ=[some (.ref a),some (.int (y:Int)),some v2,v3,v4,some cv,v6]/\Aa H H'/\H' so=some (.lst (qs.map λp=>V.ref p.1))/\(∀q∈qs,H' q.1=some (.tup (pV q.2)))/\br A H' cv ck/\KT.Day kt y ((qs.map λq=>q.2.2).drop i) ck r l/\ck.b.length<=8*i
def JI(K:PySem.W.Frag)(A:Ad):Sp:=λvs H Q _=>∃(v:V)(k:Km382.Kitchen)(y:Nat),vs=[v,.int (y:Int)]/\kc A H v k/\KT.qc k/\∀H' cv c r l,Aa H H'->br A H' cv c->KT.Day k y [] c r l->Q cv H'
theorem Ov(T:Txt K mg A):Ua P w K mg base nc 5 A.ny A.Px ["state","day"] (JI K A):=by
 refine T.qk.F.Uc ["state","day","meals","place","meal","clock","pair"] (by decide +kernel) λvs H Q E h nd=>?_;obtain⟨v,kt,y,rfl,hv,hI,k⟩:=h;have hzl:=ak;have hv0:=hv;obtain⟨a,dx,lg,ll,lr,lm,gs,ls,rs,ms,rfl,s⟩:=hv;obtain⟨h0,o0,c0,epl,ob⟩:=s.ob;have hml:=s.pm.length;have h12:=hI.Iq;refine⟨rfl,λ_ _ _ _ hr=>?_⟩;refine⟨_,(ba (yi (i:=2) rfl nd rfl rfl rfl (fN rfl T.fw (aa (pF (Za T) (pv 0)) da)) (own:=[("place",3),("meal",4)]) (bc (show Cb ["state","day","meals","place","meal","clock","pair"] (Ra Qq) _ [("place",3),("meal",4)]=true from by decide +kernel)) (λ_ _ _ _ _=>cx (K:=K) (n:=2) rfl rfl (fh (Va (i:=3) nd rfl (Or.inl rfl)) (fh (Va (i:=4) nd rfl (Or.inl rfl)) jx))) (λ_ _ _ _ _=>se (Ca Vf (pv 4) ic (Ea _))) (λ_ _ _ _ _=>(xi (aa (pv 3) (aa (pv 4) da)))))
    (ba (Pa (i:=5) nd rfl (Or.inl rfl) (eZ (Qp T:) hr T.kz T.UE T.gk))
    (ba (Ag PassesOwn.never rfl (iu K (Oa (Mx (K:=K) rfl) rfl T.qJ IB (aa (Fe rfl nd (iu K (pv 2)) (own:=[("place",3),("meal",4)]) (bc (show Cb ["state","day","meals","place","meal","clock","pair"] (Ra Qq) _ [("place",3),("meal",4)]=true from by decide +kernel)) (λ_ _ _ _ _=>cx (K:=K) (n:=2) rfl rfl (fh (Va (i:=3) nd rfl (Or.inl rfl)) (fh (Va (i:=4) nd rfl (Or.inl rfl)) jx))) (λ_ _ _ _ _=>se (Ca Rb (pF (Sd T) (pv 4)) (pv 1) (Ea _))) (λ_ _ _ _ _=>(xi (aa (pF (kh T) (pv 4)) (aa (pv 3) da))))) da))) (Va (i:=6) nd rfl (Or.inl rfl)) (ja (Pa (i:=5) nd rfl (Or.inl rfl) (pC (XA T:) hr T.rk (aa (pv 5) (aa (pv 0) (aa (oO K (pv 6) va) da)))))))
    (ja (oa (pv 5)))))),?_⟩
 dsimp only[Cc];dsimp![iG,cR];refine⟨dx,_,ob,lm,rfl,ms,Ha.of s.hm,?_⟩;refine Wr (by decide) (λn p y' H1=>if(kt.meal n).isSome=true then∃T,y'=some (.ref T)/\H1 T=some (.tup [.int (n:Int),ms.getD n .Vb]) else y'=none) (vA (Ha.of s.hm)) (by rw[rg];lia) (λn p y' D acc H1 H2 hg hD _ sx=>?_) (λn p H1 R hp hs r=>?_) λD ys H1 hD hys s1 hyl hgs=>?_
 ·by_cases c:(kt.meal n).isSome=true
  ·rw[if_pos c] at hg⊢;obtain⟨T,e,hT⟩:=hg;exact⟨T,e,bA hT hD sx⟩
  ·rw[if_neg c] at hg⊢;exact hg
 ·have hn:n<ms.length:=by have:=(List.getElem?_eq_some_iff.mp hp).1;rwa [rg] at this
  obtain⟨mv,hmv⟩:∃mv,ms[n]?=some mv:=⟨_,List.getElem?_eq_getElem hn⟩;rw[Gj hmv] at hp;have ep:=Option.some.inj hp;subst ep;obtain⟨o,ho,hxo⟩:=Pc s.pm hmv;have em:kt.meal n=o:=by rw[jn,ho];rfl
  have eg:ms.getD n .Vb=mv:=by rw[List.getD_eq_getElem?_getD,hmv];rfl
  rw[em,eg] at r;dsimp![wipe];cases o with
  |none=>
   have hxo:mv=.Vb:=hxo;exact(if_neg (λz=>z hxo)).mpr (r none H1 ((if_neg (by simp)).mpr rfl) (Aa.refl _))
  |some xm=>
   obtain⟨ma,mdx,rfl,hma⟩:=hxo;exact(if_pos (by intro z;cases z)).mpr ⟨by decide,λT hT=>r _ _ ((if_pos rfl).mpr ⟨T,rfl,ia⟩) (qa hT)⟩
 obtain⟨ts,ht1,ht2,ht3⟩:=Lx (p:=λn=>(kt.meal n).isSome) (G:=λn T=>H1 T=some (.tup [.int ((n:Nat):Int),ms.getD n .Vb])) (l:=List.range 12) (ys:=ys) (by rw[hyl,rg,List.length_range];lia) λj n hj=>by
  have hj12:j<12:=by have:=(List.getElem?_eq_some_iff.mp hj).1;simpa using this
  rw[List.getElem?_range hj12] at hj;have e:=Option.some.inj hj;subst e;obtain⟨mv,hmv⟩:∃mv,ms[j]?=some mv:=⟨_,List.getElem?_eq_getElem (by lia)⟩;exact hgs j _ (Gj hmv)
 rw[ht1] at hys;have htl:ts.length<=12:=by
  have:=congrArg List.length ht3;rw[List.length_map] at this;rw[this];have:=List.length_filter_le (λn=>(kt.meal n).isSome) (List.range 12)
  rwa [List.length_range] at this
 have htm:∀q∈ts,∃xm ma mdx,kt.meal q.2=some xm/\ms.getD q.2 .Vb=.ref ma/\H ma=some (.ins A.ae mdx (de (cg xm))):=λq hq=>by
  have h1:q.2∈ts.map Prod.snd:=List.mem_map.mpr ⟨q,hq,rfl⟩;rw[ht3] at h1;have h2:=(List.mem_filter.mp h1).2;obtain⟨xm,hxm⟩:=Option.isSome_iff_exists.mp h2;obtain⟨mv,hmv,⟨ma,mdx,rfl,hma⟩,_⟩:=s.meal hxm;exact⟨xm,ma,mdx,hxm,by rw[List.getD_eq_getElem?_getD,hmv];rfl,hma⟩
 intro x xd hx hxd hne;refine⟨x,xd,rfl,ia,λH2 db du l0 l1 l2 C2 _ _ _ _ _ sx2=>⟨rfl,D,rfl,?_⟩⟩;have s2:Aa H1 H2:=Aa.made hx hxd λb o e hb=>sx2 b o hb e;have s12:=s1.trans s2;refine⟨⟨_,Ha.of (s2 _ _ hys)⟩,?_⟩;refine Wr (by decide) (λn p y' H3=>∃q,ts[n]?=some q/\if KT.Tj kt y q.2=true then∃T,y'=some (.ref T)/\H3 T=some (.tup (pV (KT.slotAt kt q.2,q.2))) else y'=none) (pJ (ps:=ts.map λq=>(V.int (q.2:Int),ms.getD q.2 .Vb)) (Ha.of (s2 _ _ hys)) (Bn λq hq=>⟨q.1,rfl,s2 _ _ (ht2 q hq)⟩)) (by rw[List.length_map];lia) (λn p y' D acc H3 H4 hg hD _ sx=>?_) (λn p H3 R hp hs r=>?_) λD2 ys2 H3 hD2 hys2 s3 hyl2 hgs2=>?_
 ·obtain⟨q,hq,hg⟩:=hg;refine⟨q,hq,?_⟩;by_cases c:KT.Tj kt y q.2=true
  ·rw[if_pos c] at hg⊢;obtain⟨T,e,hT⟩:=hg;exact⟨T,e,bA hT hD sx⟩
  ·rw[if_neg c] at hg⊢;exact hg
 ·rw[List.getElem?_map] at hp;cases hq:ts[n]? with
  |none=>rw[hq] at hp;cases hp
  |some q=>
   rw[hq] at hp;have ep:=Option.some.inj hp;subst ep;obtain⟨xm,ma,mdx,hxm,egm,hma⟩:=htm q (List.mem_of_getElem? hq);have hma3:=hs _ _ (s12 _ _ hma);dsimp only;rw[egm];unfold cg at hma3;have r:=λy' H2 z w=>r y' H2 ⟨q,hq,z⟩ w;have ed:KT.Tj kt y q.2=(xm.day==y):=by unfold KT.Tj;rw[hxm]
   have es:KT.slotAt kt q.2=xm.slot:=by unfold KT.slotAt;rw[hxm]
   rw[ed,es] at r;dsimp![wipe];refine⟨mdx,_,hma3,rfl,Lb (λh=>⟨mdx,_,hma3,by decide,λT hT=>r _ _ ((if_pos ?_).mpr ⟨T,rfl,ia⟩) (qa hT)⟩) λh=>r none H3 ((if_neg ?_).mpr rfl) (Aa.refl _)⟩
   ·rw[beq_iff_eq];have:=V.int.inj h;lia
   ·rw[beq_iff_eq];intro z;exact h (by rw[z])
 obtain⟨us,hu1,hu2,hu3⟩:=Lx (p:=λq:Addr×Nat=>KT.Tj kt y q.2) (G:=λq T=>H3 T=some (.tup (pV (KT.slotAt kt q.2,q.2)))) (l:=ts) (ys:=ys2) (by rw[hyl2,List.length_map]) λj q hj=>by
  obtain⟨y',hy',q',hq',hg⟩:=hgs2 j _ (by rw[List.getElem?_map,hj];rfl);rw[hj] at hq';have e:=Option.some.inj hq';subst e;exact⟨y',hy',hg⟩
 have hpm:(us.map λu=>(KT.slotAt kt u.2.2,u.2.2))=KT.byPlace 12 (KT.Tj kt y) (KT.slotAt kt):=by
  have e1:(us.map λu=>(KT.slotAt kt u.2.2,u.2.2))=((us.map Prod.snd).map Prod.snd).map λi=>(KT.slotAt kt i,i):=by rw[List.map_map,List.map_map];rfl
  have e2:(ts.filter λq=>KT.Tj kt y q.2).map Prod.snd=(ts.map Prod.snd).filter (KT.Tj kt y):=by rw[List.filter_map];rfl
  rw[e1,hu3,e2,ht3,List.filter_filter];unfold KT.byPlace;congr 1;refine KT.ug λi _=>?_;unfold KT.Tj;cases kt.meal i<;>simp
 have hul:us.length<=12:=by
  have:=congrArg List.length hpm;rw[List.length_map] at this;rw[this];exact Bx
 refine⟨D2,us.map λu=>(u.1,(KT.slotAt kt u.2.2,u.2.2)),rfl,Ha.of (by rw[hys2,hu1,List.map_map];rfl),λq hq=>?_,by rw[List.length_map];lia,λqs b hq hsrt hb=>⟨b,rfl,⟨_,Ha.of ia⟩,?_⟩⟩
 ·obtain⟨u,hu,rfl⟩:=List.mem_map.mp hq;exact hu2 u hu
 have hperm:(qs.map Prod.snd).Perm (KT.byPlace 12 (KT.Tj kt y) (KT.slotAt kt)):=by
  have:=hq.map Prod.snd;rw[List.map_map] at this;rw[<-hpm];exact this
 have hord:kt.order y=qs.map λq=>q.2.2:=by
  rw[KT.SH (λi xm hm=>(hI.meals xm (KT.Ye hI hm).2).slot) hperm hsrt,List.map_map];rfl
 have hnd:(kt.order y).Nodup:=by
  rw[KT.SH (λi xm hm=>(hI.meals xm (KT.Ye hI hm).2).slot) hperm hsrt];exact KT.pP hperm
 have s4:Aa H3 (upd H3 b (.lst (qs.map λp=>V.ref p.1))):=qa hb;have hb4:(upd H3 b (.lst (qs.map λp=>V.ref p.1))) b=some (.lst (qs.map λp=>V.ref p.1)):=ia;generalize (upd H3 b (.lst (qs.map λp=>V.ref p.1)))=H4 at s4 hb4⊢;have hqt:∀q∈qs,H4 q.1=some (.tup (pV q.2)):=λq hqm=>by
  obtain⟨u,hu,e⟩:=List.mem_map.mp (hq.mem_iff.mp hqm);subst e;exact s4 _ _ (hu2 u hu)
 have hql:qs.length<=12:=by rw[hq.length_eq,List.length_map];exact hul
 have s14:=(s12.trans s3).trans s4;refine Eh (xs:=qs.map λp=>V.ref p.1) (DZ A H a y (.ref D) kt b qs) ⟨none,none,none,.ref x,KT.rY,[],[],rfl,s14,hb4,hqt,⟨x,xd,db,du,l0,l1,l2,rfl,(C2.mono s3).mono s4⟩,by rw[List.drop_zero,<-hord];exact KT.UN hnd,Nat.zero_le _⟩ (λi σ H' _⟨_,_,_,_,_,_,_,_,_,z,_⟩=>qb (Ha.of z)) ?_ ?_
 ·rintro i v σ H' hi ⟨v3,v4,v6,cv,ck,r,l,rfl,sH,hb',hqt',hck,hday,hlen⟩;have hil:i<qs.length:=by have:=(List.getElem?_eq_some_iff.mp hi).1;simpa using this
  rw[List.getElem?_map,List.getElem?_eq_getElem hil] at hi;have ev:=Option.some.inj hi;subst ev;have hqi:=hqt' _ (List.getElem_mem hil);have hdrop:(qs.map λq=>q.2.2).drop i=qs[i].2.2::(qs.map λq=>q.2.2).drop (i+1):=by
   rw[List.drop_eq_getElem_cons (by rw[List.length_map];exact hil),List.getElem_map]
  rw[hdrop] at hday;obtain⟨_,xm,hxm,_⟩:=KT.OO (k:=kt) (y:=y) (i:=qs[i].2.2) (by rw[hord];exact List.mem_map.mpr ⟨qs[i],List.getElem_mem hil,rfl⟩);obtain⟨rc,hrc⟩:=(hI.meals xm (KT.Ye hI hxm).2).has;unfold pV at hqi;dsimp!;refine⟨_,mh.of hqi,_,wa (j:=1) rfl,cv,_,ck,kt,qs[i].2.2,xm,rc,r,l,rfl,hck,hv0.mono sH,hI,hxm,hrc,hday.ck,hday.no _ (List.mem_cons_self ..),by lia,λH5 v' c' s5 hc' hor hl'=>?_⟩;refine(show∃r l,KT.Day kt y ((qs.map λq=>q.2.2).drop (i+1)) c' r l from ?_).elim λr' h=>h.elim λl' h=>⟨v3,v4,_,v',c',r',l',rfl,sH.trans s5,s5 _ _ hb',λq hqm=>s5 _ _ (hqt' q hqm),hc',h,by lia⟩;rcases hor with⟨rfl,hn⟩|⟨starts,l',hL⟩
  ·exact⟨r,l,hday.fail hxm hrc hn⟩
  ·exact⟨_,l',hday.laid hxm hrc hL⟩
 ·rintro σ H' ⟨v3,v4,v6,cv,ck,r,l,rfl,sH,hb',hqt',hck,hday,hlen⟩;rw[List.length_map,List.drop_of_length_le (by rw[List.length_map];exact Nat.le_refl _)] at hday;dsimp!;exact k H' cv ck r l sH hck hday
def VQ(k:Km382.Kitchen)(m i:Nat):Bool:=match k.meal m with
 |none=>false
 |some x=>match k.recipe x.recipe with
  |none=>false
  |some r=>decide (i<r.steps.length)
def MI(K:PySem.W.Frag)(A:Ad):Sp:=λvs H Q _=>∃(v:V)(k:Km382.Kitchen)(m i:Nat),vs=[v,.int (m:Int),.int (i:Int)]/\kc A H v k/\KT.qc k/\Q (.bl (VQ k m i)) H
theorem EH(T:Txt K mg A):Ua P w K mg base nc 2 A.sy A.Sx ["state","meal","step"] (MI K A):=by
 refine T.kq.F.Uc ["state","meal","step"] (by decide +kernel) λvs H Q E h nd=>?_;obtain⟨v,kt,m,i,rfl,hv,hI,k⟩:=h;have hv0:=hv;obtain⟨a,dx,lg,ll,lr,lm,gs,ls,rs,ms,rfl,s⟩:=hv;obtain⟨h0,o0,c0,epl,ob⟩:=s.ob;unfold VQ at k;refine⟨rfl,λ_ _ _ _ hr=>?_⟩;refine⟨_,(ja (oa (Vk (pC (Ui T:) hr T.og (aa (pv 0) (aa (pv 1) da))) (Mq (qe Kl (pv 2) (Oa (Ga (K:=K) rfl) rfl T.Zb Eb (aa (pF (Bc T) (vc K (pF (rb T) (pv 0)) (pF (Wc T) (vc K (pF (Za T) (pv 0)) (pv 1))))) da)) (Ea _)))))),?_⟩;dsimp only[Cc];dsimp!;refine⟨_,kt,m,rfl,hv0,_,rfl,?_⟩;cases hm:kt.meal m with
 |none=>
  rw[hm] at k;exact(if_neg (by simp)).mpr k
 |some x=>
  rw[hm] at k;obtain⟨r,hr'⟩:=(hI.meals x (KT.Ye hI hm).2).has;simp only[hr'] at k;obtain⟨mv,hmv,⟨ma,mdx,rfl,hma⟩,_⟩:=s.meal hm;obtain⟨rv,hrv,⟨ra,rdx,d,sl,rfl,R⟩,_⟩:=s.recipe hr';obtain⟨svs,hsl,hPs⟩:=R.st;have hpl:=hPs.length;unfold cg at hma;refine(if_pos rfl).mpr ⟨dx,_,ob,dx,_,ob,lm,rfl,ms,Ha.of s.hm,_,wa hmv,ma,rfl,mdx,_,hma,lr,rfl,rs,_,rfl,Ha.of s.hr,_,wa hrv,ra,rfl,rdx,_,R.ob,sl,rfl,_,.inl (Ha.of hsl),?_⟩;have e:decide ((i:Int)<(svs.length:Nat))=decide (i<r.steps.length):=decide_eq_decide.mpr (by lia);rw[e];exact k
def PL(K:PySem.W.Frag)(A:Ad):Sp:=λvs H Q _=>∃(v:V)(k:Km382.Kitchen)(m i:Nat),vs=[v,.int (m:Int),.int (i:Int)]/\kc A H v k/\KT.qc k/\uc A H (KT.fc k (.when_ m i)) Q
theorem LK(T:Txt K mg A):Ua P w K mg base nc 6 A.EC A.cC ["state","meal","step"] (PL K A):=by
 refine T.Ft.F.Uc ["state","meal","step","begins"] (by decide +kernel) λvs H Q E h nd=>?_;obtain⟨v,kt,m,i,rfl,hv,hI,k⟩:=h;have e0:KT.fc kt (.when_ m i)=(none,match kt.meal m with
   |none=>Km382.only (-2)
   |some x=>match kt.recipe x.recipe with
    |none=>Km382.only (-2)
    |some r=>if r.steps.length<=i then Km382.only (-2) else match kt.when_ x.day m i with
     |none=>Km382.only (-33)
     |some t=>Km382.only ((t:Nat):Int)):=rfl
 have hv0:=hv;obtain⟨a,dx,lg,ll,lr,lm,gs,ls,rs,ms,rfl,s⟩:=hv;obtain⟨h0,o0,c0,epl,ob⟩:=s.ob;refine⟨rfl,λ_ _ _ _ hr=>?_⟩;have hu:=Ep hr;refine⟨_,(ba (Ma (Hb (Ob (pC (EH T:) hr T.kq (aa (pv 0) (aa (pv 1) (aa (pv 2) da)))))) (ja (oa (pC (Ja T:) hr T.La (aa (Ka rfl T.Gb) da)))) za)
    (ba (Pa (i:=3) nd rfl (Or.inl rfl) (pF (Ie T) (pC (Ov T:) hr T.qk (aa (pv 0) (aa (pF (Sd T) (vc K (pF (Za T) (pv 0)) (pv 1))) da)))))
    (ba (Ma (VR (RO hu (xi (aa (pv 1) (aa (pv 2) da))) (pv 3))) (ja (oa (pC (Ja T:) hr T.La (aa (Ka rfl T.VJ) da)))) za)
    (ja (oa (pC (Bf T:) hr T.Of (aa (Wa (aa (Xk hu (pv 3) (xi (aa (pv 1) (aa (pv 2) da))) (λ_ _=>rfl)) da)) da))))))),?_⟩
 dsimp only[Cc];dsimp![yN,Zv];refine⟨_,kt,m,i,rfl,hv0,hI,_,rfl,?_⟩;unfold VQ;cases hm:kt.meal m with
 |none=>
  rw[hm] at e0;exact(if_pos rfl).mpr (gb k e0 (Aa.refl _))
 |some x=>
  rw[hm] at e0;obtain⟨r,hr'⟩:=(hI.meals x (KT.Ye hI hm).2).has;simp only[hr'] at e0⊢;refine Lb (λh=>gb k (e0.trans (by rw[if_pos (by have:=of_decide_eq_false h;lia)])) (Aa.refl _)) λh=>?_;have h:i<r.steps.length:=by simpa using h
  rw[if_neg (by lia)] at e0;obtain⟨mv,hmv,⟨ma,mdx,rfl,hma⟩,_⟩:=s.meal hm;unfold cg at hma;refine⟨dx,_,ob,lm,rfl,ms,Ha.of s.hm,_,wa hmv,ma,rfl,mdx,_,hma,_,kt,x.day,rfl,hv0,hI,λH1 cv c rr l s1 hc hd=>?_⟩;obtain⟨hw,_⟩:=hd.end_;rw[hw] at e0;obtain⟨ca,cdx,db,du,l0,l1,l2,rfl,C⟩:=hc;refine⟨ca,rfl,cdx,_,C.ob,by decide,λp hp=>⟨db,rfl,_,Mg.t (k:=[Sum.inl (m:Int),Sum.inl (i:Int)]) ((qa hp) _ _ C.bg) ia,?_⟩⟩;have s2:=qa (o:=.tup [V.int (m:Int),V.int (i:Int)]) hp;rw[qA];cases hb:KT.Cj c.b m i with
  |none=>
   rw[hb] at e0;exact(if_pos rfl).mpr (gb k e0 (s1.trans s2))
  |some t=>
   rw[hb] at e0;refine(if_neg (by simp)).mpr ⟨by decide,λp2 hp2=>⟨db,rfl,.int (t:Int),?_,by decide,λp3 hp3=>?_⟩⟩
   ·have:=Mg.t (k:=[Sum.inl (m:Int),Sum.inl (i:Int)]) ((qa (o:=.tup [V.int (m:Int),V.int (i:Int)]) hp2) _ _ (s2 _ _ C.bg)) ia;rw[qA,hb] at this;exact this
   ·exact Jd k e0 (((s1.trans s2).trans (qa hp2)).trans (qa hp3)) ia rfl
def FL(K:PySem.W.Frag)(A:Ad):Sp:=λvs H Q _=>∃(v:V)(k:Km382.Kitchen)(y t:Nat),vs=[v,.int (y:Int),.int (t:Int)]/\kc A H v k/\KT.qc k/\uc A H (KT.fc k (.busy y t)) Q
theorem AK(T:Txt K mg A):Ua P w K mg base nc 6 A.sC A.PB ["state","day","slot"] (FL K A):=by
 refine T.qt.F.Uc ["state","day","slot","clock","where"] (by decide +kernel) λvs H Q E h nd=>?_;obtain⟨v,kt,y,t,rfl,hv,hI,k⟩:=h;have hzl:=ak;have e0:KT.fc kt (.busy y t)=(none,if 10000<y\/288<=t then Km382.only (-22) else⟨(((kt.clock y).2.length:Nat):Int),[Km382.taken (kt.clock y).2 0 t,Km382.taken (kt.clock y).2 1 t,Km382.taken (kt.clock y).2 2 t]⟩):=rfl;refine⟨rfl,λ_ _ _ _ hr=>?_⟩;have hu:=Ep hr;refine⟨_,(ba (Ma (PW.pt (dg (Ca An (pv 1) (Ka rfl T.Dq) (Ea _)) (Zf (Ca cN (pv 2) (Ka rfl T.wg) (Ea _))))) (ja (oa (pC (Ja T:) hr T.La (aa (Ka rfl T.pb) da)))) za)
    (ba (Pa (i:=3) nd rfl (Or.inr rfl) (pC (Ov T:) hr T.qk (aa (pv 0) (aa (pv 1) da))))
    (ja (oa (pC (Bf T:) hr T.Of (aa (Sb zg (Wa (aa (Oa EJ rfl T.Zb Eb (aa (pF (Ie T) (pv 3)) da)) da)) (Fe rfl nd (iZ K (WH rfl T.Kd)) (own:=[("where",4)]) (bc (show Cb ["state","day","slot","clock","where"] (Ra zD) _ [("where",4)]=true from by decide +kernel)) (λ_ _ _ _ _=>Va (i:=4) nd rfl (Or.inl rfl)) (λ_ _ _ _ _=>Ed) (λ_ _ _ _ _=>(vc K (Xk hu (pF (Md T) (pv 3)) (pv 4) (λ_ _=>rfl)) (pv 2))))) da)))))),?_⟩
 dsimp only[Cc];dsimp!;have n22:(10000<y\/288<=t)->Ai K A [V.int (-22)] H Q E0:=λz=>gb k (e0.trans (by rw[if_pos z])) (Aa.refl _);refine Lb (λh1=>n22 (by lia)) λh1=>Lb (λh2=>n22 (by lia)) λh2=>?_;rw[if_neg (by lia)] at e0;refine⟨v,kt,y,rfl,hv,hI,λH1 cv c r l s1 hc hd=>?_⟩;obtain⟨a,dx,db,du,l0,l1,l2,rfl,C⟩:=hc;obtain⟨_,hw2,hw3⟩:=hd.end_;dsimp!;refine⟨dx,_,C.ob,db,rfl,_,C.bg,by decide,λp hp=>⟨⟨_,T.Yb _⟩,?_⟩⟩;rw[vM];have s2:=qa (o:=.lst [V.int ((c.b.length:Nat):Int)]) hp;have hp2:(upd H1 p (.lst [V.int ((c.b.length:Nat):Int)])) p=some (.lst [V.int ((c.b.length:Nat):Int)]):=ia;generalize (upd H1 p (.lst [V.int ((c.b.length:Nat):Int)]))=H2 at s2 hp2⊢;have C2:=C.mono s2;refine rh (Rl:=λx(j:Nat)=>x=.str (S (Jg j))/\j<3) (xs:=sL Km382.wPlaces) (ms:=[0,1,2]) (.cons ⟨rfl,by decide⟩ (.cons ⟨rfl,by decide⟩ (.cons ⟨rfl,by decide⟩ .nil))) (λj=>some (.int ((c.us j t:Nat):Int))) (by rw[<-Xs];exact yu λH1=>T.Yb H1) (by show 3<=_;lia) (λi x j H3 R hj hx hs r=>?_) λD H3 hD h3 s3=>?_
 ·obtain⟨rfl,hj3⟩:=hx;have C3:=C2.mono hs;have hdg:Mg H3 du (.str (S (Jg j))) (some (.ref ([l0,l1,l2].getD j 0))):=by
   have:=Mg.k (k:=Sum.inr (S (Jg j))) C3.us;rw[rA hj3] at this;exact this
  have hfl:=C.ok.full j hj3;have ht:(c.u.getD j [])[t]?=some (c.us j t):=by
   unfold KT.Ck.us;rw[List.getD_eq_getElem?_getD (l:=c.u.getD j []),List.getElem?_eq_getElem (by lia)];rfl
  dsimp![wipe,Zv];exact⟨dx,_,C3.ob,du,rfl,_,hdg,_,rfl,_,Ha.of (C3.sl j hj3),_,wa (EE ht),r H3 (Aa.refl _)⟩
 rw[Si] at h3;refine⟨p,D,_,_,rfl,rfl,s3 _ _ hp2,h3,by show 1+3<=_;lia,λp2 hp2'=>?_⟩;refine Jd k e0 (((s1.trans s2).trans s3).trans (qa hp2')) ia ?_;rw[hw2,hw3 0 (by decide) t (by lia),hw3 1 (by decide) t (by lia),hw3 2 (by decide) t (by lia)];rfl
structure Hs(A:Ad)(H:Hp)(h hd lp la:Addr)(sv:V)(ps fs:List V):Prop where
 ob:H h=some (.ins A.Ta hd (Ia ⟨sv,.ref lp,.ref la⟩))
 own:H hd=some (.own h)
 hp:H lp=some (.lst ps)
 ha:H la=some (.lst fs)
 ne:lp≠la
theorem Hs.dh{A:Ad}{H:Hp}{h hd lp la:Addr}{sv:V}{ps fs:List V}(x:Hs A H h hd lp la sv ps fs):hd≠h:=Fb x.own x.ob (by intro z;cases z)
theorem Hs.ph{A:Ad}{H:Hp}{h hd lp la:Addr}{sv:V}{ps fs:List V}(x:Hs A H h hd lp la sv ps fs):lp≠h:=Fb x.hp x.ob (by intro z;cases z)
theorem Hs.ah{A:Ad}{H:Hp}{h hd lp la:Addr}{sv:V}{ps fs:List V}(x:Hs A H h hd lp la sv ps fs):la≠h:=Fb x.ha x.ob (by intro z;cases z)
theorem Hs.pd{A:Ad}{H:Hp}{h hd lp la:Addr}{sv:V}{ps fs:List V}(x:Hs A H h hd lp la sv ps fs):lp≠hd:=Fb x.hp x.own (by intro z;cases z)
theorem Hs.ad{A:Ad}{H:Hp}{h hd lp la:Addr}{sv:V}{ps fs:List V}(x:Hs A H h hd lp la sv ps fs):la≠hd:=Fb x.ha x.own (by intro z;cases z)
theorem Hs.wY{A:Ad}{H:Hp}{h hd lp la:Addr}{sv:V}{ps fs:List V}(x:Hs A H h hd lp la sv ps fs):uG [h,hd,lp,la] H:=λy hy=>by
 simp only[List.mem_cons,List.not_mem_nil,or_false] at hy;rcases hy with rfl|rfl|rfl|rfl
 ·exact .inr (.inl ⟨_,_,_,x.ob,by simp⟩)
 ·exact .inr (.inr ⟨h,by simp,x.own⟩)
 ·exact .inl ⟨_,x.hp⟩
 ·exact .inl ⟨_,x.ha⟩
theorem lj{H G:Hp}{h:Addr}{o:HO}(sx:ab h H G)(hh:G h=some o){x:Addr}(hx:G x=none):H x=none/\x≠h:=by
 have n:x≠h:=λz=>by rw[z,hh] at hx;cases hx
 refine⟨?_,n⟩;cases e:H x with
 |none=>rfl
 |some u=>rw[sx _ _ n e] at hx;cases hx
theorem fG{H G:Hp}{h l:Addr}{o u w:HO}(sx:ab h H G)(hh:G h=some o)(hl:G l=none):ab h H (upd (upd G l u) h w)/\(upd (upd G l u) h w) h=some w/\(upd (upd G l u) h w) l=some u/\ab h G (upd (upd G l u) h w):=by
 have f:=lj sx hh hl;refine⟨λx v n e=>?_,ia,by rw[ua f.2,ia],λx v n e=>?_⟩
 ·rw[ua n,ua (ka e f.1)];exact sx _ _ n e
 ·rw[ua n,ua (ka e hl)];exact e
def Iw(K:PySem.W.Frag)(A:Ad):Sp:=λvs H Q _=>∃(p dx:Addr),vs=[.ref p]/\H p=some (.ins A.Ta dx [])/\∀H' lp la,H' p=some (.ins A.Ta dx (Ia ⟨.Vb,.ref lp,.ref la⟩))->H' lp=some (.lst [])->H' la=some (.lst [])->lp≠la->H lp=none->H la=none->ab p H H'->Q .Vb H'
theorem xw(T:Txt K mg A):Ua P w K mg base nc 1 A.Wh A.Sh ["self"] (Iw K A):=by
 refine T.gm.Uc ["self"] (by decide +kernel) λvs H Q E h nd=>?_;obtain⟨p,dx,rfl,hp,k⟩:=h;refine⟨rfl,λ_ _ _ _ hr=>?_⟩;refine⟨_,(ba (Xo K (pv 0) ic)
  (ba (Xo K (pv 0) (Wa da))
  (ja (Xo K (pv 0) (Wa da))))),?_⟩
 dsimp only[Cc];refine Pj rfl (λ_ q=>q) hp (λ_ _ _ e=>e) T.Ub T.md (Nat.le_of_ble_eq_true rfl) (by kernel_rfl) λG1 h1 s1=>?_;refine lO rfl (λ_ z=>⟨Nat.zero_le _,λq hq=>z q _ hq ia (qa hq)⟩) h1 s1 T.Ub T.Ee (Nat.le_of_ble_eq_true rfl) (λ_=>by kernel_rfl) λG2 lp h2 l2 n1 f1 _ x2 s2=>?_;refine PV rfl (λ_ z=>⟨Nat.zero_le _,λq hq=>z q _ hq ia (qa hq)⟩) h2 s2 T.Ub T.Af (Nat.le_of_ble_eq_true rfl) (λ_=>by kernel_rfl) λG3 la h3 l3 n2 f2 e3 x3 s3=>?_;exact k _ lp la h3 (x3 _ _ n1 l2) l3 (ka l2 e3) f1 f2 s3
def rB(K:PySem.W.Frag)(A:Ad):Sp:=λvs H Q _=>∃(h hd lp la:Addr)(sv nv:V)(ps fs:List V),vs=[.ref h,nv]/\Hs A H h hd lp la sv ps fs/\∀H' lp' la',Hs A H' h hd lp' la' nv [] []->H lp'=none->H la'=none->ab h H H'->Q .Vb H'
theorem WA(T:Txt K mg A):Ua P w K mg base nc 1 A.Gr A.yr ["history","state"] (rB K A):=by
 refine T.nk.F.Uc ["history","state"] (by decide +kernel) λvs H Q E h nd=>?_;obtain⟨h,hd,lp,la,sv,nv,ps,fs,rfl,hs,k⟩:=h;refine⟨rfl,λ_ _ _ _ hr=>?_⟩;refine⟨_,(ba (Ih (fs:=Ia) (put:=λv o=>{o with state:=v}) T.Ub T.md sd Cf (pv 0) (pv 1) rfl)
  (ba (Ih (fs:=Ia) (put:=λv o=>{o with past:=v}) T.Ub T.Ee sd ui (pv 0) (Wa da) rfl)
  (ja (Ih (fs:=Ia) (put:=λv o=>{o with ahead:=v}) T.Ub T.Af sd Ll (pv 0) (Wa da) rfl)))),?_⟩
 dsimp only[Cc];dsimp!;refine⟨hd,_,hs.ob,Nat.zero_le _,?_⟩;dsimp only;have h1:(upd H h (.ins A.Ta hd (Ia ⟨nv,.ref lp,.ref la⟩))) h=some (.ins A.Ta hd (Ia ⟨nv,.ref lp,.ref la⟩)):=ia;have x1:ab h H (upd H h (.ins A.Ta hd (Ia ⟨nv,.ref lp,.ref la⟩))):=bb;generalize (upd H h (.ins A.Ta hd (Ia ⟨nv,.ref lp,.ref la⟩)))=H1 at h1 x1⊢;intro lp' hlp;refine⟨hd,_,(ua (Ne.symm (lj x1 h1 hlp).2)).trans h1,Nat.zero_le _,?_⟩;dsimp only;obtain⟨x2,h2,l2,_⟩:=fG (u:=.lst []) (w:=.ins A.Ta hd (Ia ⟨nv,.ref lp',.ref la⟩)) x1 h1 hlp;generalize (upd (upd H1 lp' (.lst [])) h (.ins A.Ta hd (Ia ⟨nv,.ref lp',.ref la⟩)))=H2 at x2 h2 l2⊢;intro la' hla;refine⟨hd,_,(ua (Ne.symm (lj x2 h2 hla).2)).trans h2,?_⟩;dsimp only;obtain⟨x3,h3,l3,y3⟩:=fG (u:=.lst []) (w:=.ins A.Ta hd (Ia ⟨nv,.ref lp',.ref la'⟩)) x2 h2 hla;exact k _ lp' la' ⟨h3,x3 _ _ hs.dh hs.own,y3 _ _ (Fb l2 h2 (by intro z;cases z)) l2,l3,ka l2 hla⟩ (lj x1 h1 hlp).1 (lj x2 h2 hla).1 x3
def gA(K:PySem.W.Frag)(A:Ad):Sp:=λvs H Q _=>∃(h hd lp la:Addr)(sv nv:V)(ps fs:List V),vs=[.ref h,nv]/\Hs A H h hd lp la sv ps fs/\ps.length<=60/\∀H' lp' la',Hs A H' h hd lp' la' nv (if 60<ps.length+1 then(ps++[sv]).drop 1 else ps++[sv]) []->H lp'=none->H la'=none->ab h H H'->Q .Vb H'
theorem Cz(T:Txt K mg A):Ua P w K mg base nc 1 A.Ap A.rp ["history","state"] (gA K A):=by
 refine T.cj.F.Uc ["history","state"] (by decide +kernel) λvs H Q E h nd=>?_;obtain⟨h,hd,lp,la,sv,nv,ps,fs,rfl,hs,h60,k⟩:=h;have hzl:=ak;refine⟨rfl,λ_ _ _ _ hr=>?_⟩;refine⟨_,(ba (Ih (fs:=Ia) (put:=λv o=>{o with past:=v}) T.Ub T.Ee sd ui (pv 0) (Sb zg (pF (Ac T) (pv 0)) (Wa (aa (pF (Zd T) (pv 0)) da))) rfl)
   (ba (Ma (Ca An (Oa (Ga (K:=K) rfl) rfl T.Zb Eb (aa (pF (Ac T) (pv 0)) da)) (Ka rfl T.aH) (Ea _)) (ja (Ih (fs:=Ia) (put:=λv o=>{o with past:=v}) T.Ub T.Ee sd ui (pv 0) (Xf (pU K) (pF (Ac T) (pv 0)) (Kg va) Vi) rfl)) za)
   (ba (Ih (fs:=Ia) (put:=λv o=>{o with ahead:=v}) T.Ub T.Af sd Ll (pv 0) (Wa da) rfl)
   (ja (Ih (fs:=Ia) (put:=λv o=>{o with state:=v}) T.Ub T.md sd Cf (pv 0) (pv 1) rfl))))),?_⟩
 dsimp only[Cc];dsimp![Jf];refine⟨hd,_,hs.ob,hd,_,hs.ob,by decide,λp hp=>?_⟩;have s1:=qa (o:=.lst [sv]) hp;refine⟨lp,p,_,_,rfl,rfl,s1 _ _ hs.hp,ia,by simp;lia,λp2 hp2=>?_⟩;have x1:ab h H (upd (upd H p (.lst [sv])) p2 (.lst (ps++[sv]))):=(s1.trans (qa hp2)).x h;have h1:(upd (upd H p (.lst [sv])) p2 (.lst (ps++[sv]))) h=some (.ins A.Ta hd (Ia ⟨sv,.ref lp,.ref la⟩)):=(qa hp2) _ _ (s1 _ _ hs.ob);have l1:(upd (upd H p (.lst [sv])) p2 (.lst (ps++[sv]))) p2=some (.lst (ps++[sv])):=ia;have f1:H p2=none:=s1.free hp2;generalize (upd (upd H p (.lst [sv])) p2 (.lst (ps++[sv])))=H1 at x1 h1 l1⊢;refine⟨hd,_,h1,hd,_,ia,p2,rfl,_,.inl (Ha.of ((ua (Fb l1 h1 (by intro z;cases z))).trans l1)),?_⟩;dsimp only;have x2:ab h H (upd H1 h (.ins A.Ta hd (Ia ⟨sv,.ref p2,.ref la⟩))):=x1.trans bb;have h2:(upd H1 h (.ins A.Ta hd (Ia ⟨sv,.ref p2,.ref la⟩))) h=some (.ins A.Ta hd (Ia ⟨sv,.ref p2,.ref la⟩)):=ia;have l2:(upd H1 h (.ins A.Ta hd (Ia ⟨sv,.ref p2,.ref la⟩))) p2=some (.lst (ps++[sv])):=(ua (Fb l1 h1 (by intro z;cases z))).trans l1;generalize (upd H1 h (.ins A.Ta hd (Ia ⟨sv,.ref p2,.ref la⟩)))=H2 at x2 h2 l2⊢;have fin:∀(G:Hp)(pl:Addr)(qs:List V),ab h H G->G h=some (.ins A.Ta hd (Ia ⟨sv,.ref pl,.ref la⟩))->G pl=some (.lst qs)->H pl=none->qs=(if 60<ps.length+1 then(ps++[sv]).drop 1 else ps++[sv])->∀la',G la'=none->Q V.Vb (upd (upd (upd G la' (.lst [])) h (.ins A.Ta hd (Ia ⟨sv,.ref pl,.ref la'⟩))) h (.ins A.Ta hd (Ia ⟨nv,.ref pl,.ref la'⟩))):=λG pl qs gx gh gl fl eq la' hla=>by
  obtain⟨x3,h3,l3,y3⟩:=fG (u:=.lst []) (w:=.ins A.Ta hd (Ia ⟨sv,.ref pl,.ref la'⟩)) gx gh hla;have nlh:∀{y:Addr}{xs:List V},(upd (upd G la' (.lst [])) h (.ins A.Ta hd (Ia ⟨sv,.ref pl,.ref la'⟩))) y=some (.lst xs)->y≠h:=λe=>Fb e h3 (by intro z;cases z);have gl3:=y3 _ _ (Fb gl gh (by intro z;cases z)) gl;exact k _ pl la' ⟨ia,(ua hs.dh).trans (x3 _ _ hs.dh hs.own),(ua (nlh gl3)).trans (by rw[gl3,eq]),(ua (nlh l3)).trans l3,ka gl hla⟩ fl (lj gx gh hla).1 (x3.trans bb)
 have hlen:(ps++[sv]).length=ps.length+1:=by simp
 rw[hlen];refine Lb (λhc=>?_) λhc=>?_
 ·refine⟨hd,_,h2,p2,rfl,_,Ha.of l2,λp3 hp3=>?_⟩;obtain⟨x3,h3,l3,y3⟩:=fG (u:=.lst (iw (ps++[sv]) (some 1) none)) (w:=.ins A.Ta hd (Ia ⟨sv,.ref p3,.ref la⟩)) x2 h2 hp3;refine⟨hd,_,(ua (Ne.symm (lj x2 h2 hp3).2)).trans h2,Nat.zero_le _,λla' hla=>?_⟩;dsimp only at hla⊢;refine⟨hd,_,(ua (Ne.symm (lj x3 h3 hla).2)).trans h3,hd,_,ia,?_⟩;exact fin _ p3 _ x3 h3 l3 (lj x2 h2 hp3).1 (by rw[if_pos (by lia)];exact Dm _ 1) la' hla
 ·refine⟨Nat.zero_le _,λla' hla=>⟨hd,_,(ua (Ne.symm (lj x2 h2 hla).2)).trans h2,hd,_,ia,?_⟩⟩;exact fin _ p2 _ x2 h2 l2 f1 (by rw[if_neg (by lia)]) la' hla
theorem tN(l:List V):l=[]\/∃q v,l=q++[v]:=by
 cases l with
 |nil=>exact .inl rfl
 |cons x l=>exact .inr ⟨_,_,(List.dropLast_concat_getLast (by simp)).symm⟩
theorem QM(q:List V)(v:V):(q++[v])[(q++[v]).length-1]?=some v:=by simp
def EL(K:PySem.W.Frag)(A:Ad):Sp:=λvs H Q _=>∃(h hd lp la:Addr)(sv:V)(ps fs:List V),vs=[.ref h]/\Hs A H h hd lp la sv ps fs/\fs.length<=60/\ps.length<=60/\(ps=[]->∀H' l,Aa H H'->H l=none->H' l=some (.lst [.int (-2)])->Q (.ref l) H')/\
 ∀qs pv,ps=qs++[pv]->∀H' l,Hs A H' h hd lp la pv qs (fs++[sv])->H l=none->H' l=some (.lst [.int ((qs.length:Nat):Int)])->(∀x o,x≠h->x≠lp->x≠la->H x=some o->H' x=some o)->Q (.ref l) H'
theorem zK(T:Txt K mg A):Ua P w K mg base nc 1 A.rC A.OB ["history"] (EL K A):=by
 refine T.ot.F.Uc ["history"] (by decide +kernel) λvs H Q E h nd=>?_;obtain⟨h,hd,lp,la,sv,ps,fs,rfl,hs,h60,h60',k1,k2⟩:=h;have hzl:=ak;refine⟨rfl,λ_ _ _ _ hr=>?_⟩;refine⟨_,(ba (Ma (Hb (HU K (pF (Ac T) (pv 0)) (λ_=>rfl))) (ja (oa (Wa (aa (Ka rfl T.Gb) da)))) za)
   (ba (df (Wf (K:=K) rfl PySem.F.plainAttrs_list PySem.F.slot_list_append PySem.F.type_list_append Ze (pF (Yd T) (pv 0)) (aa (pF (Zd T) (pv 0)) da)))
   (ba (Ih (fs:=Ia) (put:=λv o=>{o with state:=v}) T.Ub T.md sd Cf (pv 0) (dN (K:=K) rfl PySem.F.plainAttrs_list PySem.F.slot_list_pop PySem.F.type_list_pop DR (pF (Ac T) (pv 0))) rfl)
   (ja (oa (Wa (aa (Oa (Ga (K:=K) rfl) rfl T.Zb Eb (aa (pF (Ac T) (pv 0)) da)) da))))))),?_⟩
 dsimp only[Cc];dsimp![wU,xW,Ms];refine⟨hd,_,hs.ob,_,jh (Ha.of hs.hp),?_⟩;rcases tN ps with rfl|⟨qs,pv,rfl⟩
 ·exact(if_pos rfl).mpr ⟨by decide,λp hp=>k1 rfl _ p (qa hp) hp ia⟩
 refine(if_neg (by simp)).mpr ⟨hd,_,hs.ob,.inl ⟨rfl,_,Ha.of hs.ha⟩,hd,_,hs.ob,la,rfl,fs,hs.ha,by lia,hd,_,(ua (Ne.symm hs.ah)).trans hs.ob,.inl ⟨rfl,_,Ha.of ((ua hs.ne).trans hs.hp)⟩,lp,rfl,_,(ua hs.ne).trans hs.hp,pv,QM qs pv,?_⟩;rw[List.dropLast_concat];dsimp only;have h2:(upd (upd H la (.lst (fs++[sv]))) lp (.lst qs)) h=some (.ins A.Ta hd (Ia ⟨sv,.ref lp,.ref la⟩)):=(ua (Ne.symm hs.ph)).trans ((ua (Ne.symm hs.ah)).trans hs.ob);have p2:(upd (upd H la (.lst (fs++[sv]))) lp (.lst qs)) lp=some (.lst qs):=ia;have a2:(upd (upd H la (.lst (fs++[sv]))) lp (.lst qs)) la=some (.lst (fs++[sv])):=(ua (Ne.symm hs.ne)).trans ia;have x2:∀x o,x≠lp->x≠la->H x=some o->(upd (upd H la (.lst (fs++[sv]))) lp (.lst qs)) x=some o:=λx o n1 n2 e=>(ua n1).trans ((ua n2).trans e);generalize (upd (upd H la (.lst (fs++[sv]))) lp (.lst qs))=H2 at h2 p2 a2 x2⊢;refine⟨hd,_,h2,hd,_,ia,lp,rfl,_,.inl (Ha.of ((ua hs.ph).trans p2)),by decide,λl hl=>?_⟩;dsimp only at hl⊢;have s3:=qa (o:=.lst [V.int (qs.length:Int)]) hl;have k3:∀x o,x≠h->H2 x=some o->(upd (upd H2 h (.ins A.Ta hd (Ia ⟨pv,.ref lp,.ref la⟩))) l (.lst [V.int (qs.length:Int)])) x=some o:=λx o n e=>s3 _ _ ((ua n).trans e);refine k2 qs pv rfl _ l ⟨s3 _ _ ia,k3 _ _ hs.dh (x2 _ _ (Ne.symm hs.pd) (Ne.symm hs.ad) hs.own),k3 _ _ hs.ph p2,k3 _ _ hs.ah a2,hs.ne⟩ ?_ ia λx o n1 n2 n3 e=>k3 _ _ n1 (x2 _ _ n2 n3 e);cases e:H l with
 |none=>rfl
 |some o=>
  exfalso;by_cases c1:l=h
  ·rw[c1,ia] at hl;cases hl
  rw[ua c1] at hl;by_cases c2:l=lp
  ·rw[c2,p2] at hl;cases hl
  by_cases c3:l=la
  ·rw[c3,a2] at hl;cases hl
  rw[x2 _ _ c2 c3 e] at hl;cases hl
theorem KQ:∀xs:List V,(xs.filterMap λv=>if fi v=true then none else some v)=xs.filter λv=>!fi v
 |[]=>rfl
 |v::xs=>by
  rw[List.filterMap_cons,List.filter_cons,KQ xs];cases fi v<;>rfl
def NI(K:PySem.W.Frag)(A:Ad):Sp:=λvs H Q _=>∃(l:Addr)(xs:List V),vs=[.ref l]/\H l=some (.lst xs)/\xs.length<=1000/\∀H',Aa H H'->Q (.int (((xs.filter λv=>!fi v).length:Nat):Int)) H'
theorem Qv(T:Txt K mg A):Ua P w K mg base nc 1 A.vy A.Tx ["places"] (NI K A):=by
 refine T.sk.F.Uc ["places","kept"] (by decide +kernel) λvs H Q E h nd=>?_;obtain⟨l,xs,rfl,hl,hx,k⟩:=h;have hzl:=ak;refine⟨rfl,λ_ _ _ _ hr=>?_⟩;refine⟨_,(ja (oa (Oa (Ga (K:=K) rfl) rfl T.Zb Eb (aa (Fe rfl nd (iu K (pv 0)) (own:=[("kept",1)]) (bc (show Cb ["places","kept"] (Ra Vz) _ [("kept",1)]=true from by decide +kernel)) (λ_ _ _ _ _=>Va (i:=1) nd rfl (Or.inl rfl)) (λ_ _ _ _ _=>se (Ca Vf (pv 1) ic (Ea _))) (λ_ _ _ _ _=>(pv 1))) da)))),?_⟩;dsimp only[Cc];dsimp!;refine⟨⟨_,Ha.of hl⟩,Fh (λv=>if fi v=true then none else some v) (qb (Ha.of hl)) (by lia) (λj x H1 R hx hs r=>?_) λD H1 hD h1 s1=>⟨D,rfl,_,.inl (Ha.of h1),?_⟩⟩
 ·have r:=r H1 (Aa.refl _);dsimp![wipe];by_cases c:x=.Vb
  ·refine(if_neg (λz=>z c)).mpr ?_;subst c;exact r
  ·refine(if_pos c).mpr ?_;rw[if_neg (by unfold fi;rw[decide_eq_true_eq];exact c)] at r;exact r
 ·rw[KQ];exact k H1 s1
def QI(K:PySem.W.Frag)(A:Ad):Sp:=λvs H Q _=>∃(h hd lp la:Addr)(sv:V)(ps fs:List V),vs=[.ref h]/\Hs A H h hd lp la sv ps fs/\fs.length<=60/\ps.length<=60/\(fs=[]->∀H' l,Aa H H'->H l=none->H' l=some (.lst [.int (-2)])->Q (.ref l) H')/\
 ∀qs pv,fs=qs++[pv]->∀H' l,Hs A H' h hd lp la pv (ps++[sv]) qs->H l=none->H' l=some (.lst [.int ((qs.length:Nat):Int)])->(∀x o,x≠h->x≠lp->x≠la->H x=some o->H' x=some o)->Q (.ref l) H'
theorem GH(T:Txt K mg A):Ua P w K mg base nc 1 A.xy A.Vx ["history"] (QI K A):=by
 refine T.mq.F.Uc ["history"] (by decide +kernel) λvs H Q E h nd=>?_;obtain⟨h,hd,lp,la,sv,ps,fs,rfl,hs,h60,h60',k1,k2⟩:=h;have hzl:=ak;refine⟨rfl,λ_ _ _ _ hr=>?_⟩;refine⟨_,(ba (Ma (Hb (HU K (pF (Yd T) (pv 0)) (λ_=>rfl))) (ja (oa (Wa (aa (Ka rfl T.Gb) da)))) za)
   (ba (df (Wf (K:=K) rfl PySem.F.plainAttrs_list PySem.F.slot_list_append PySem.F.type_list_append Ze (pF (Ac T) (pv 0)) (aa (pF (Zd T) (pv 0)) da)))
   (ba (Ih (fs:=Ia) (put:=λv o=>{o with state:=v}) T.Ub T.md sd Cf (pv 0) (dN (K:=K) rfl PySem.F.plainAttrs_list PySem.F.slot_list_pop PySem.F.type_list_pop DR (pF (Yd T) (pv 0))) rfl)
   (ja (oa (Wa (aa (Oa (Ga (K:=K) rfl) rfl T.Zb Eb (aa (pF (Yd T) (pv 0)) da)) da))))))),?_⟩
 dsimp only[Cc];dsimp![wU,xW,Ms];refine⟨hd,_,hs.ob,_,jh (Ha.of hs.ha),?_⟩;rcases tN fs with rfl|⟨qs,pv,rfl⟩
 ·exact(if_pos rfl).mpr ⟨by decide,λp hp=>k1 rfl _ p (qa hp) hp ia⟩
 refine(if_neg (by simp)).mpr ⟨hd,_,hs.ob,.inl ⟨rfl,_,Ha.of hs.hp⟩,hd,_,hs.ob,lp,rfl,ps,hs.hp,by lia,hd,_,(ua (Ne.symm hs.ph)).trans hs.ob,.inl ⟨rfl,_,Ha.of ((ua (Ne.symm hs.ne)).trans hs.ha)⟩,la,rfl,_,(ua (Ne.symm hs.ne)).trans hs.ha,pv,QM qs pv,?_⟩;rw[List.dropLast_concat];dsimp only;have h2:(upd (upd H lp (.lst (ps++[sv]))) la (.lst qs)) h=some (.ins A.Ta hd (Ia ⟨sv,.ref lp,.ref la⟩)):=(ua (Ne.symm hs.ah)).trans ((ua (Ne.symm hs.ph)).trans hs.ob);have p2:(upd (upd H lp (.lst (ps++[sv]))) la (.lst qs)) la=some (.lst qs):=ia;have a2:(upd (upd H lp (.lst (ps++[sv]))) la (.lst qs)) lp=some (.lst (ps++[sv])):=(ua hs.ne).trans ia;have x2:∀x o,x≠la->x≠lp->H x=some o->(upd (upd H lp (.lst (ps++[sv]))) la (.lst qs)) x=some o:=λx o n1 n2 e=>(ua n1).trans ((ua n2).trans e);generalize (upd (upd H lp (.lst (ps++[sv]))) la (.lst qs))=H2 at h2 p2 a2 x2⊢;refine⟨hd,_,h2,hd,_,ia,la,rfl,_,.inl (Ha.of ((ua hs.ah).trans p2)),by decide,λl hl=>?_⟩;dsimp only at hl⊢;have s3:=qa (o:=.lst [V.int (qs.length:Int)]) hl;have k3:∀x o,x≠h->H2 x=some o->(upd (upd H2 h (.ins A.Ta hd (Ia ⟨pv,.ref lp,.ref la⟩))) l (.lst [V.int (qs.length:Int)])) x=some o:=λx o n e=>s3 _ _ ((ua n).trans e);refine k2 qs pv rfl _ l ⟨s3 _ _ ia,k3 _ _ hs.dh (x2 _ _ (Ne.symm hs.ad) (Ne.symm hs.pd) hs.own),k3 _ _ hs.ph a2,k3 _ _ hs.ah p2,hs.ne⟩ ?_ ia λx o n1 n2 n3 e=>k3 _ _ n1 (x2 _ _ n3 n2 e);cases e:H l with
 |none=>rfl
 |some o=>
  exfalso;by_cases c1:l=h
  ·rw[c1,ia] at hl;cases hl
  rw[ua c1] at hl;by_cases c2:l=la
  ·rw[c2,p2] at hl;cases hl
  by_cases c3:l=lp
  ·rw[c3,a2] at hl;cases hl
  rw[x2 _ _ c2 c3 e] at hl;cases hl
theorem Iy{α:Type}{P:V->α->Prop}(hP:∀x,¬P .Vb x):∀{vs:List V}{l:List (Option α)},Paired (Ah P) vs l->(vs.filter λv=>!fi v).length=(l.filter Option.isSome).length
 |_,_,.nil=>rfl
 |v::vs,o::l,.cons h t=>by
  have ih:=Iy hP t;have hn:=ZE hP h;cases o with
  |none=>
   have e:v=.Vb:=hn.mpr rfl;subst e;exact ih
  |some x=>
   have e:fi v=false:=by
    unfold fi;rw[decide_eq_false_iff_not];intro z;have:=hn.mp z;cases this
   rw[List.filter_cons_of_pos (by rw[e];rfl),List.filter_cons_of_pos rfl,List.length_cons,List.length_cons,ih]
def WI(K:PySem.W.Frag)(A:Ad):Sp:=λvs H Q _=>∃(h hd lp la:Addr)(sv:V)(ps fs:List V)(k:Km382.Kitchen),vs=[.ref h]/\Hs A H h hd lp la sv ps fs/\kc A H sv k/\KT.qc k/\ps.length<=60/\fs.length<=60/\
 ∀H' l,Aa H H'->H' l=some (.lst (([((k.today:Nat):Int),(k.goods.length:Int),((k.recipes.filter Option.isSome).length:Int),((k.meals.filter Option.isSome).length:Int),(k.lots.length:Int),(ps.length:Int),(fs.length:Int)]:List Int).map V.int))->Q (.ref l) H'
theorem LH(T:Txt K mg A):Ua P w K mg base nc 2 A.Cy A.ay ["history"] (WI K A):=by
 refine T.uq.F.Uc ["history","state","kept"] (by decide +kernel) λvs H Q E h nd=>?_;obtain⟨h,hd,lp,la,sv,ps,fs,kt,rfl,hs,hv,hI,h60,h60',k⟩:=h;have hzl:=ak;obtain⟨a,dx,lg,ll,lr,lm,gs,ls,rs,ms,rfl,s⟩:=hv;obtain⟨h0,o0,c0,epl,ob⟩:=s.ob;refine⟨rfl,λ_ _ _ _ hr=>?_⟩;refine⟨_,(ba (Pa (i:=1) nd rfl (Or.inl rfl) (pF (Zd T) (pv 0)))
  (ba (Pa (i:=2) nd rfl (Or.inl rfl) (Wa (aa (Oa (Ga (K:=K) rfl) rfl T.Zb Eb (aa (pF (cb T) (pv 1)) da)) (aa (pC (Qv T:) hr T.sk (aa (pF (rb T) (pv 1)) da)) (aa (pC (Qv T:) hr T.sk (aa (pF (Za T) (pv 1)) da)) (aa (Oa (Ga (K:=K) rfl) rfl T.Zb Eb (aa (pF (Qb T) (pv 1)) da)) da))))))
  (ja (oa (Sb zg (Sb zg (Wa (aa (pF (Nb T) (pv 1)) da)) (pv 2)) (Wa (aa (Oa (Ga (K:=K) rfl) rfl T.Zb Eb (aa (pF (Ac T) (pv 0)) da)) (aa (Oa (Ga (K:=K) rfl) rfl T.Zb Eb (aa (pF (Yd T) (pv 0)) da)) da)))))))),?_⟩
 dsimp only[Cc];dsimp!;have hrl:=s.pr.length;have hml:=s.pm.length;have h8:=hI.Qs;have h12:=hI.Iq;refine⟨hd,_,hs.ob,a,rfl,dx,_,ob,lg,rfl,gs,.inl (Ha.of s.hg),a,rfl,dx,_,ob,lr,rs,rfl,s.hr,by lia,λH1 s1=>⟨a,rfl,dx,_,s1 _ _ ob,lm,ms,rfl,s1 _ _ s.hm,by lia,λH2 s2=>?_⟩⟩;have s12:=s1.trans s2;refine⟨a,rfl,dx,_,s12 _ _ ob,ll,rfl,ls,.inl (Ha.of (s12 _ _ s.hl)),by decide,λp hp=>?_⟩;rw[Iy ZK s.pr,Iy WE s.pm,s.pg.length,s.pl.length] at *
 generalize hK:([V.int ((kt.goods.length:Nat):Int),V.int (((kt.recipes.filter Option.isSome).length:Nat):Int),V.int (((kt.meals.filter Option.isSome).length:Nat):Int),V.int ((kt.lots.length:Nat):Int)]:List V)=kl;have hkl:kl.length=4:=by rw[<-hK];rfl
 have s3:=qa (o:=.lst kl) hp;refine⟨a,rfl,dx,_,s3 _ _ (s12 _ _ ob),by decide,λp2 hp2=>?_⟩;have s4:=qa (o:=.lst [V.int ((kt.today:Nat):Int)]) hp2;refine⟨p2,p,_,_,rfl,rfl,ia,s4 _ _ ia,by rw[hkl];show 1+4<=_;lia,λp3 hp3=>?_⟩;have s5:=qa (o:=.lst ([V.int ((kt.today:Nat):Int)]++kl)) hp3;have sA:=((s12.trans s3).trans s4).trans s5;have l5:(upd (upd (upd H2 p (.lst kl)) p2 (.lst [V.int ((kt.today:Nat):Int)])) p3 (.lst ([V.int ((kt.today:Nat):Int)]++kl))) p3=some (.lst ([V.int ((kt.today:Nat):Int)]++kl)):=ia;dsimp only;generalize (upd (upd (upd H2 p (.lst kl)) p2 (.lst [V.int ((kt.today:Nat):Int)])) p3 (.lst ([V.int ((kt.today:Nat):Int)]++kl)))=H5 at sA l5⊢;refine⟨hd,_,sA _ _ hs.ob,lp,rfl,ps,.inl (Ha.of (sA _ _ hs.hp)),hd,_,sA _ _ hs.ob,la,rfl,fs,.inl (Ha.of (sA _ _ hs.ha)),by decide,λp4 hp4=>?_⟩;have s6:=qa (o:=.lst [V.int ((ps.length:Nat):Int),V.int ((fs.length:Nat):Int)]) hp4;refine⟨p3,p4,_,_,rfl,rfl,s6 _ _ l5,ia,by rw[List.length_append,hkl];show 1+4+2<=_;lia,λp5 hp5=>k _ p5 ((sA.trans s6).trans (qa hp5)) ?_⟩;rw[ia,<-hK];rfl
def Oc(A:Ad)(lo hi:Int):Sp:=λvs H Q _=>∃(v:V)(k:Km382.Kitchen)(a:Addr)(c:Km382Neutral.Call)(x:Km382.Call),vs=[v,.ref a]/\kc A H v k/\KT.qc k/\H a=some (.lst ((PyFlat.put1 c).map V.int))/\KT.AC c x/\
 (∃n,(PyFlat.put1 c)[0]?=some n/\lo<=n/\n<=hi)/\uc A H (KT.fc k x) Q
theorem uc.mono{A:Ad}{H H1:Hp}{r:Option Km382.Kitchen×Km382.Ans}{Q:VK}(k:uc A H r Q)(s:Aa H H1):uc A H1 r Q:=by
 unfold uc at *
 cases h:r.1 with
 |none=>rw[h] at k;exactλv H' s' o=>k v H' (s.trans s') o
 |some q=>rw[h] at k;exactλv sv H' s' o z=>k v sv H' (s.trans s') o z
theorem Ji{K:PySem.W.Frag}{a:Addr}{xs:List V}{n m:Int}{v:Option V}{t u:TS}{D:Ends}{H:Hp}(ha:Ha K H a xs)(h0:xs[0]?=some (.int n))(hn:n≠m)(h:u D [v,some (.ref a)] H):eM (CS (LD (CP Vj (CP (Ld K) (Xc 1) (tC (.int 0))) (tC (.int m)))) t gJ) u D [v,some (.ref a)] H:=by
 dsimp!;exact⟨_,ha,_,wa (j:=0) h0,rfl,(if_neg λz=>hn (V.int.inj z)).mpr h⟩
theorem Ol{K:PySem.W.Frag}{a:Addr}{xs:List V}{n:Int}{v:Option V}{t u:TS}{D:Ends}{H:Hp}(ha:Ha K H a xs)(h0:xs[0]?=some (.int n))(h:t {D with nx:=u D} [v,some (.ref a)] H):eM (CS (LD (CP Vj (CP (Ld K) (Xc 1) (tC (.int 0))) (tC (.int n)))) t gJ) u D [v,some (.ref a)] H:=by
 dsimp!;exact⟨_,ha,_,wa (j:=0) h0,rfl,(if_pos rfl).mpr h⟩
theorem xX{K:PySem.W.Frag}{a:Addr}{xs:List V}{n m:Int}{v:Option V}{t u:TS}{D:Ends}{H:Hp}(ha:Ha K H a xs)(h0:xs[0]?=some (.int n))(h:n<=m->t {D with nx:=u D} [v,some (.ref a)] H)(h':¬n<=m->u D [v,some (.ref a)] H):eM (CS (LD (CP (Wi λi j=>.bl (decide (i<=j))) (CP (Ld K) (Xc 1) (tC (.int 0))) (tC (.int m)))) t gJ) u D [v,some (.ref a)] H:=by
 dsimp!;exact⟨_,ha,_,wa (j:=0) h0,_,rfl,Lb h h'⟩
theorem mP{sp:Sp}{v x:V}{r:L2.St}{D:Ends}{H:Hp}(h:sp [v,x] H D.rt E0):JW (XX sp (xN (Xc 0) (xN (Xc 1) ES))) D (some v::some x::r) H:=⟨_,rfl,_,rfl,h⟩
theorem BO{l:List Int}{m lo hi:Int}(h:l[0]?=some m)(d:(decide (lo<=m)&&decide (m<=hi))=false):¬∃n,l[0]?=some n/\lo<=n/\n<=hi:=by
 rintro⟨n,e,h1,h2⟩;rw[h] at e;cases e;rw[decide_eq_true h1,decide_eq_true h2] at d;cases d
theorem nN(c n:Int)(r:List Nat):iw ((PyFlat.put1 [[c,n],Km382Neutral.nums r]).map V.int) (some 3) none=iL r:=by
 refine(Dm _ 3).trans ?_;simp[PyFlat.put1,PyFlat.putRows,PyFlat.putRow,Km382Neutral.nums,iL]
def Yl(K:PySem.W.Frag)(A:Ad):Sp:=Oc A 1 2
theorem Ul(T:Txt K mg A):Ua P w K mg base nc 6 A.Yg A.Ug ["state","call"] (Yl K A):=by
 refine T.Ce.F.Uc ["state","call"] (by decide +kernel) λvs H Q E h nd=>?_;obtain⟨v,kt,a,c,x,rfl,hv,hI,ha,hc,hn,k⟩:=h;refine⟨rfl,λ_ _ _ _ hr=>?_⟩;refine⟨_,(ba (Ma (Ca Rb (vc K (pv 1) va) (Ka rfl T.MJ) (Ea _)) (ja (oa (pC (HH T:) hr T.oq (aa (pv 0) (aa (vc K (pv 1) va) (aa (vc K (pv 1) va) (aa (vc K (pv 1) va) da))))))) za)
   (ja (oa (pC (KO T:) hr T.Gx (aa (pv 0) da))))),?_⟩
 dsimp only[Cc];refine QC λG g=>?_;induction hc with
 |HJ x0 x1 x2 _ _ _=>
  refine g ?_;refine Ol (Ha.of ha) rfl ?_;dsimp![Jf];exact⟨_,Ha.of ha,_,wa (j:=1) rfl,_,Ha.of ha,_,wa (j:=2) rfl,_,Ha.of ha,_,wa (j:=3) rfl,v,kt,x0,x1,x2,rfl,hv,hI,k⟩
 |xV=>
  refine g ?_;refine Ji (Ha.of ha) rfl (by decide) ?_;dsimp![Jf];exact⟨v,kt,rfl,hv,hI,k⟩
 |_=>exact absurd hn (BO rfl (by decide))
def Yo(K:PySem.W.Frag)(A:Ad):Sp:=Oc A 3 9
theorem Vo(T:Txt K mg A):Ua P w K mg base nc 6 A.Xh A.Th ["state","call"] (Yo K A):=by
 refine T.Gf.F.Uc ["state","call"] (by decide +kernel) λvs H Q E h nd=>?_;obtain⟨v,kt,a,c,x,rfl,hv,hI,ha,hc,hn,k⟩:=h;refine⟨rfl,λ_ _ _ _ hr=>?_⟩;refine⟨_,(ba (Ma (Ca Rb (vc K (pv 1) va) (Ka rfl T.NC) (Ea _)) (ja (oa (pC (EK T:) hr T.yt (aa (pv 0) (aa (vc K (pv 1) va) (aa (Xf (pU K) (pv 1) (Kg va) Vi) da)))))) za)
   (ba (Ma (Ca Rb (vc K (pv 1) va) (Ka rfl T.OJ) (Ea _)) (ja (oa (pC (JH T:) hr T.rq (aa (pv 0) (aa (vc K (pv 1) va) (aa (vc K (pv 1) va) da)))))) za)
   (ba (Ma (Ca Rb (vc K (pv 1) va) (Ka rfl T.PQ) (Ea _)) (ja (oa (pC (JO T:) hr T.Fx (aa (pv 0) (aa (vc K (pv 1) va) (aa (vc K (pv 1) va) (aa (vc K (pv 1) va) da))))))) za)
   (ba (Ma (Ca Rb (vc K (pv 1) va) (Ka rfl T.SJ) (Ea _)) (ja (oa (pC (NH T:) hr T.wq (aa (pv 0) da)))) za)
   (ba (Ma (Ca Rb (vc K (pv 1) va) (Ka rfl T.RQ) (Ea _)) (ja (oa (pC (LO T:) hr T.Jx (aa (pv 0) (aa (vc K (pv 1) va) da))))) za)
   (ba (Ma (Ca Rb (vc K (pv 1) va) (Ka rfl T.SQ) (Ea _)) (ja (oa (pC (MO T:) hr T.Kx (aa (pv 0) (aa (vc K (pv 1) va) da))))) za)
   (ja (oa (pC (eF T:) hr T.rm (aa (pv 0) (aa (vc K (pv 1) va) da))))))))))),?_⟩
 dsimp only[Cc];refine QC λG g=>?_;induction hc with
 |UQ n hn' r hl hr'=>
  refine g ?_;refine Ol (Ha.of ha) rfl ?_;dsimp![Jf];refine⟨_,Ha.of ha,_,wa (j:=1) rfl,_,Ha.of ha,λp hp=>?_⟩;rw[nN];exact⟨v,kt,n,p,r,rfl,hv.mono (qa hp),hI,Ha.of ia,by lia,k.mono (qa hp)⟩
 |UK x0 x1 _ _=>
  refine g ?_;refine Ji (Ha.of ha) rfl (by decide) ?_;refine Ol (Ha.of ha) rfl ?_;dsimp![Jf];exact⟨_,Ha.of ha,_,wa (j:=1) rfl,_,Ha.of ha,_,wa (j:=2) rfl,v,kt,x0,x1,rfl,hv,hI,k⟩
 |qV x0 x1 x2 _ _ _=>
  refine g ?_;refine Ji (Ha.of ha) rfl (by decide) ?_;refine Ji (Ha.of ha) rfl (by decide) ?_;refine Ol (Ha.of ha) rfl ?_;dsimp![Jf];exact⟨_,Ha.of ha,_,wa (j:=1) rfl,_,Ha.of ha,_,wa (j:=2) rfl,_,Ha.of ha,_,wa (j:=3) rfl,v,kt,x0,x1,x2,rfl,hv,hI,k⟩
 |throw_=>
  refine g ?_;refine Ji (Ha.of ha) rfl (by decide) ?_;refine Ji (Ha.of ha) rfl (by decide) ?_;refine Ji (Ha.of ha) rfl (by decide) ?_;refine Ol (Ha.of ha) rfl ?_;dsimp![Jf];exact⟨v,kt,rfl,hv,hI,k⟩
 |IV x0 _=>
  refine g ?_;refine Ji (Ha.of ha) rfl (by decide) ?_;refine Ji (Ha.of ha) rfl (by decide) ?_;refine Ji (Ha.of ha) rfl (by decide) ?_;refine Ji (Ha.of ha) rfl (by decide) ?_;refine Ol (Ha.of ha) rfl ?_;dsimp![Jf];exact⟨_,Ha.of ha,_,wa (j:=1) rfl,v,kt,x0,rfl,hv,hI,k⟩
 |fW x0 _=>
  refine g ?_;refine Ji (Ha.of ha) rfl (by decide) ?_;refine Ji (Ha.of ha) rfl (by decide) ?_;refine Ji (Ha.of ha) rfl (by decide) ?_;refine Ji (Ha.of ha) rfl (by decide) ?_;refine Ji (Ha.of ha) rfl (by decide) ?_;refine Ol (Ha.of ha) rfl ?_;dsimp![Jf];exact⟨_,Ha.of ha,_,wa (j:=1) rfl,v,kt,x0,rfl,hv,hI,k⟩
 |kG x0 _=>
  refine g ?_;refine Ji (Ha.of ha) rfl (by decide) ?_;refine Ji (Ha.of ha) rfl (by decide) ?_;refine Ji (Ha.of ha) rfl (by decide) ?_;refine Ji (Ha.of ha) rfl (by decide) ?_;refine Ji (Ha.of ha) rfl (by decide) ?_;refine Ji (Ha.of ha) rfl (by decide) ?_;dsimp![Jf];exact⟨_,Ha.of ha,_,wa (j:=1) rfl,v,kt,x0,rfl,hv,hI,k⟩
 |_=>exact absurd hn (BO rfl (by decide))
def Xl(K:PySem.W.Frag)(A:Ad):Sp:=Oc A 10 13
theorem Sl(T:Txt K mg A):Ua P w K mg base nc 7 A.Xg A.Tg ["state","call"] (Xl K A):=by
 refine T.Be.F.Uc ["state","call"] (by decide +kernel) λvs H Q E h nd=>?_;obtain⟨v,kt,a,c,x,rfl,hv,hI,ha,hc,hn,k⟩:=h;refine⟨rfl,λ_ _ _ _ hr=>?_⟩;refine⟨_,(ba (Ma (Ca Rb (vc K (pv 1) va) (Ka rfl T.OC) (Ea _)) (ja (oa (pC (JK T:) hr T.Et (aa (pv 0) (aa (vc K (pv 1) va) (aa (Xf (pU K) (pv 1) (Kg va) Vi) da)))))) za)
   (ba (Ma (Ca Rb (vc K (pv 1) va) (Ka rfl T.TJ) (Ea _)) (ja (oa (pC (OH T:) hr T.xq (aa (pv 0) (aa (vc K (pv 1) va) da))))) za)
   (ba (Ma (Ca Rb (vc K (pv 1) va) (Ka rfl T.bO) (Ea _)) (ja (oa (pC (DK T:) hr T.xt (aa (pv 0) (aa (vc K (pv 1) va) da))))) za)
   (ja (oa (pC (MH T:) hr T.vq (aa (pv 0) (aa (vc K (pv 1) va) (aa (vc K (pv 1) va) (aa (vc K (pv 1) va) da)))))))))),?_⟩
 dsimp only[Cc];refine QC λG g=>?_;induction hc with
 |aS n hn' r hl hr'=>
  refine g ?_;refine Ol (Ha.of ha) rfl ?_;dsimp![Jf];refine⟨_,Ha.of ha,_,wa (j:=1) rfl,_,Ha.of ha,λp hp=>?_⟩;rw[nN];exact⟨v,kt,n,p,r,rfl,hv.mono (qa hp),hI,Ha.of ia,by lia,k.mono (qa hp)⟩
 |qM x0 _=>
  refine g ?_;refine Ji (Ha.of ha) rfl (by decide) ?_;refine Ol (Ha.of ha) rfl ?_;dsimp![Jf];exact⟨_,Ha.of ha,_,wa (j:=1) rfl,v,kt,x0,rfl,hv,hI,k⟩
 |wQ x0 _=>
  refine g ?_;refine Ji (Ha.of ha) rfl (by decide) ?_;refine Ji (Ha.of ha) rfl (by decide) ?_;refine Ol (Ha.of ha) rfl ?_;dsimp![Jf];exact⟨_,Ha.of ha,_,wa (j:=1) rfl,v,kt,x0,rfl,hv,hI,k⟩
 |iM x0 x1 x2 _ _ _=>
  refine g ?_;refine Ji (Ha.of ha) rfl (by decide) ?_;refine Ji (Ha.of ha) rfl (by decide) ?_;refine Ji (Ha.of ha) rfl (by decide) ?_;dsimp![Jf];exact⟨_,Ha.of ha,_,wa (j:=1) rfl,_,Ha.of ha,_,wa (j:=2) rfl,_,Ha.of ha,_,wa (j:=3) rfl,v,kt,x0,x1,x2,rfl,hv,hI,k⟩
 |_=>exact absurd hn (BO rfl (by decide))
def Zo(K:PySem.W.Frag)(A:Ad):Sp:=Oc A 14 18
theorem Wo(T:Txt K mg A):Ua P w K mg base nc 7 A.Yh A.Uh ["state","call"] (Zo K A):=by
 refine T.Hf.F.Uc ["state","call"] (by decide +kernel) λvs H Q E h nd=>?_;obtain⟨v,kt,a,c,x,rfl,hv,hI,ha,hc,hn,k⟩:=h;refine⟨rfl,λ_ _ _ _ hr=>?_⟩;refine⟨_,(ba (Ma (Ca Rb (vc K (pv 1) va) (Ka rfl T.fO) (Ea _)) (ja (oa (pC (IK T:) hr T.Dt (aa (pv 0) (aa (vc K (pv 1) va) (aa (vc K (pv 1) va) (aa (vc K (pv 1) va) (aa (vc K (pv 1) va) da)))))))) za)
   (ba (Ma (Ca Rb (vc K (pv 1) va) (Ka rfl T.eO) (Ea _)) (ja (oa (pC (HK T:) hr T.Ct (aa (pv 0) (aa (vc K (pv 1) va) (aa (vc K (pv 1) va) (aa (vc K (pv 1) va) da))))))) za)
   (ba (Ma (Ca Rb (vc K (pv 1) va) (Ka rfl T.XG) (Ea _)) (ja (oa (pC (cF T:) hr T.qm (aa (pv 0) (aa (vc K (pv 1) va) (aa (vc K (pv 1) va) da)))))) za)
   (ba (Ma (Ca Rb (vc K (pv 1) va) (Ka rfl T.ZG) (Ea _)) (ja (oa (pC (fF T:) hr T.tm (aa (pv 0) (aa (vc K (pv 1) va) da))))) za)
   (ja (oa (pC (GK T:) hr T.Bt (aa (pv 0) (aa (vc K (pv 1) va) da))))))))),?_⟩
 dsimp only[Cc];refine QC λG g=>?_;induction hc with
 |RR x0 x1 x2 x3 _ _ _ _=>
  refine g ?_;refine Ol (Ha.of ha) rfl ?_;dsimp![Jf];exact⟨_,Ha.of ha,_,wa (j:=1) rfl,_,Ha.of ha,_,wa (j:=2) rfl,_,Ha.of ha,_,wa (j:=3) rfl,_,Ha.of ha,_,wa (j:=4) rfl,v,kt,x0,x1,x2,x3,rfl,hv,hI,k⟩
 |AR x0 x1 x2 _ _ _=>
  refine g ?_;refine Ji (Ha.of ha) rfl (by decide) ?_;refine Ol (Ha.of ha) rfl ?_;dsimp![Jf];exact⟨_,Ha.of ha,_,wa (j:=1) rfl,_,Ha.of ha,_,wa (j:=2) rfl,_,Ha.of ha,_,wa (j:=3) rfl,v,kt,x0,x1,x2,rfl,hv,hI,k⟩
 |wF x0 x1 _ _=>
  refine g ?_;refine Ji (Ha.of ha) rfl (by decide) ?_;refine Ji (Ha.of ha) rfl (by decide) ?_;refine Ol (Ha.of ha) rfl ?_;dsimp![Jf];exact⟨_,Ha.of ha,_,wa (j:=1) rfl,_,Ha.of ha,_,wa (j:=2) rfl,v,kt,x0,x1,rfl,hv,hI,k⟩
 |nG x0 _=>
  refine g ?_;refine Ji (Ha.of ha) rfl (by decide) ?_;refine Ji (Ha.of ha) rfl (by decide) ?_;refine Ji (Ha.of ha) rfl (by decide) ?_;refine Ol (Ha.of ha) rfl ?_;dsimp![Jf];exact⟨_,Ha.of ha,_,wa (j:=1) rfl,v,kt,x0,rfl,hv,hI,k⟩
 |zR x0 _=>
  refine g ?_;refine Ji (Ha.of ha) rfl (by decide) ?_;refine Ji (Ha.of ha) rfl (by decide) ?_;refine Ji (Ha.of ha) rfl (by decide) ?_;refine Ji (Ha.of ha) rfl (by decide) ?_;dsimp![Jf];exact⟨_,Ha.of ha,_,wa (j:=1) rfl,v,kt,x0,rfl,hv,hI,k⟩
 |_=>exact absurd hn (BO rfl (by decide))
def Wl(K:PySem.W.Frag)(A:Ad):Sp:=Oc A 19 21
theorem Ql(T:Txt K mg A):Ua P w K mg base nc 7 A.Wg A.Sg ["state","call"] (Wl K A):=by
 refine T.Ae.F.Uc ["state","call"] (by decide +kernel) λvs H Q E h nd=>?_;obtain⟨v,kt,a,c,x,rfl,hv,hI,ha,hc,hn,k⟩:=h;refine⟨rfl,λ_ _ _ _ hr=>?_⟩;refine⟨_,(ba (Ma (Ca Rb (vc K (pv 1) va) (Ka rfl T.NJ) (Ea _)) (ja (oa (pC (IH T:) hr T.pq (aa (pv 0) (aa (vc K (pv 1) va) (aa (vc K (pv 1) va) da)))))) za)
   (ba (Ma (Ca Rb (vc K (pv 1) va) (Ka rfl T.cO) (Ea _)) (ja (oa (pC (FK T:) hr T.zt (aa (pv 0) (aa (vc K (pv 1) va) da))))) za)
   (ja (oa (pC (CK T:) hr T.wt (aa (pv 0) (aa (vc K (pv 1) va) da))))))),?_⟩
 dsimp only[Cc];refine QC λG g=>?_;induction hc with
 |jK x0 x1 _ _=>
  refine g ?_;refine Ol (Ha.of ha) rfl ?_;dsimp![Jf];exact⟨_,Ha.of ha,_,wa (j:=1) rfl,_,Ha.of ha,_,wa (j:=2) rfl,v,kt,x0,x1,rfl,hv,hI,k⟩
 |tR x0 _=>
  refine g ?_;refine Ji (Ha.of ha) rfl (by decide) ?_;refine Ol (Ha.of ha) rfl ?_;dsimp![Jf];exact⟨_,Ha.of ha,_,wa (j:=1) rfl,v,kt,x0,rfl,hv,hI,k⟩
 |pQ x0 _=>
  refine g ?_;refine Ji (Ha.of ha) rfl (by decide) ?_;refine Ji (Ha.of ha) rfl (by decide) ?_;dsimp![Jf];exact⟨_,Ha.of ha,_,wa (j:=1) rfl,v,kt,x0,rfl,hv,hI,k⟩
 |_=>exact absurd hn (BO rfl (by decide))
def Vl(K:PySem.W.Frag)(A:Ad):Sp:=Oc A 22 24
theorem Pl(T:Txt K mg A):Ua P w K mg base nc 7 A.Vg A.Rg ["state","call"] (Vl K A):=by
 refine T.ze.F.Uc ["state","call"] (by decide +kernel) λvs H Q E h nd=>?_;obtain⟨v,kt,a,c,x,rfl,hv,hI,ha,hc,hn,k⟩:=h;refine⟨rfl,λ_ _ _ _ hr=>?_⟩;refine⟨_,(ba (Ma (Ca Rb (vc K (pv 1) va) (Ka rfl T.ZN) (Ea _)) (ja (oa (pC (BK T:) hr T.vt (aa (pv 0) (aa (vc K (pv 1) va) da))))) za)
   (ba (Ma (Ca Rb (vc K (pv 1) va) (Ka rfl T.gO) (Ea _)) (ja (oa (pC (LK T:) hr T.Ft (aa (pv 0) (aa (vc K (pv 1) va) (aa (vc K (pv 1) va) da)))))) za)
   (ja (oa (pC (AK T:) hr T.qt (aa (pv 0) (aa (vc K (pv 1) va) (aa (vc K (pv 1) va) da)))))))),?_⟩
 dsimp only[Cc];refine QC λG g=>?_;induction hc with
 |oQ x0 _=>
  refine g ?_;refine Ol (Ha.of ha) rfl ?_;dsimp![Jf];exact⟨_,Ha.of ha,_,wa (j:=1) rfl,v,kt,x0,rfl,hv,hI,k⟩
 |when_ x0 x1 _ _=>
  refine g ?_;refine Ji (Ha.of ha) rfl (by decide) ?_;refine Ol (Ha.of ha) rfl ?_;dsimp![Jf];exact⟨_,Ha.of ha,_,wa (j:=1) rfl,_,Ha.of ha,_,wa (j:=2) rfl,v,kt,x0,x1,rfl,hv,hI,k⟩
 |mQ x0 x1 _ _=>
  refine g ?_;refine Ji (Ha.of ha) rfl (by decide) ?_;refine Ji (Ha.of ha) rfl (by decide) ?_;dsimp![Jf];exact⟨_,Ha.of ha,_,wa (j:=1) rfl,_,Ha.of ha,_,wa (j:=2) rfl,v,kt,x0,x1,rfl,hv,hI,k⟩
 |_=>exact absurd hn (BO rfl (by decide))
def yB(K:PySem.W.Frag)(A:Ad):Sp:=Oc A 1 24
theorem ZA(T:Txt K mg A):Ua P w K mg base nc 8 A.Lr A.Dr ["state","call"] (yB K A):=by
 refine T.vk.F.Uc ["state","call"] (by decide +kernel) λvs H Q E h nd=>?_;obtain⟨v,kt,a,c,x,rfl,hv,hI,ha,hc,hn,k⟩:=h;obtain⟨n,e,h1,h2⟩:=hn;have e':((PyFlat.put1 c).map V.int)[0]?=some (.int n):=by rw[List.getElem?_map,e];rfl
 have go:∀{lo hi:Int},lo<=n->n<=hi->Oc A lo hi [v,.ref a] H Q E0:=λl h=>⟨v,kt,a,c,x,rfl,hv,hI,ha,hc,⟨n,e,l,h⟩,k⟩;refine⟨rfl,λ_ _ _ _ hr=>?_⟩;refine⟨_,(ba (Ma (Ca oe (vc K (pv 1) va) (Ka rfl T.QQ) (Ea _)) (ja (oa (pC (Ul T:) hr T.Ce (aa (pv 0) (aa (pv 1) da))))) za)
  (ba (Ma (Ca oe (vc K (pv 1) va) (Ka rfl T.YG) (Ea _)) (ja (oa (pC (Vo T:) hr T.Gf (aa (pv 0) (aa (pv 1) da))))) za)
  (ba (Ma (Ca oe (vc K (pv 1) va) (Ka rfl T.RJ) (Ea _)) (ja (oa (pC (Sl T:) hr T.Be (aa (pv 0) (aa (pv 1) da))))) za)
  (ba (Ma (Ca oe (vc K (pv 1) va) (Ka rfl T.dO) (Ea _)) (ja (oa (pC (Wo T:) hr T.Hf (aa (pv 0) (aa (pv 1) da))))) za)
  (ba (Ma (Ca oe (vc K (pv 1) va) (Ka rfl T.aO) (Ea _)) (ja (oa (pC (Ql T:) hr T.Ae (aa (pv 0) (aa (pv 1) da))))) za)
  (ja (oa (pC (Pl T:) hr T.ze (aa (pv 0) (aa (pv 1) da)))))))))),?_⟩
 dsimp only[Cc];refine xX (Ha.of ha) e' (λc1=>mP (go (by lia) c1)) λc1=>?_;refine xX (Ha.of ha) e' (λc2=>mP (go (by lia) c2)) λc2=>?_;refine xX (Ha.of ha) e' (λc3=>mP (go (by lia) c3)) λc3=>?_;refine xX (Ha.of ha) e' (λc4=>mP (go (by lia) c4)) λc4=>?_;exact xX (Ha.of ha) e' (λc5=>mP (go (by lia) c5)) λc5=>mP (go (by lia) h2)
def Mw(K:PySem.W.Frag)(A:Ad):Sp:=λvs H Q _=>∃(a:Addr)(ns:List Int)(at_:Nat)(c:Km382Neutral.Call)(x:Km382.Call)(rest:List Int),vs=[.ref a,.int (at_:Int)]/\Ha K H a (ns.map V.int)/\KT.AC c x/\ns.drop at_=PyFlat.put1 c++rest/\Q (.int (((PyFlat.put1 c).length:Nat):Int)) H
theorem Aw(T:Txt K mg A):Ua P w K mg base nc 1 A.Um A.Km ["calls","at"] (Mw K A):=by
 refine T.Rh.F.Uc ["calls","at","number","size"] (by decide +kernel) λvs H Q E h nd=>?_;obtain⟨a,ns,t,c,x,rest,rfl,ha,hc,hd,k⟩:=h;obtain⟨n,w,h0,hn,hw,h1,h2⟩:=(KT.wG hc).is;have at':∀{j:Nat}{z:Int},(PyFlat.put1 c)[j]?=some z->(ns.map V.int)[t+j]?=some (.int z):=λ{j z} e=>by
  rw[List.getElem?_map,<-List.getElem?_drop,hd,List.getElem?_append_left (List.getElem?_eq_some_iff.mp e).1,e];rfl
 have e0:=at' h0;rw[Nat.add_zero] at e0;have ew:(KT.wh.map V.int)[n]?=some (.int (w:Int)):=by rw[List.getElem?_map,hw];rfl
 have hq:mh K H A.nh (KT.wh.map V.int):=T.Ml H;refine⟨rfl,λ_ _ _ _ hr=>?_⟩;refine⟨_,(ba (Pa (i:=2) nd rfl (Or.inl rfl) (vc K (pv 0) (pv 1)))
   (ba (Pa (i:=3) nd rfl (Or.inl rfl) (Sb yg va (oO K (WH rfl T.Hl) (pv 2))))
   (ba (Ma (PW.pt (dg (Ca Rb (pv 2) (Ka rfl T.NC) (Ea _)) (Zf (Ca Rb (pv 2) (Ka rfl T.OC) (Ea _))))) (ja (yF (i:=3) nd rfl (Or.inl rfl) (Sb yg va (vc K (pv 0) (Sb yg (pv 1) (pv 3)))) HE)) za)
   (ja (oa (pv 3)))))),?_⟩
 dsimp only[Cc];dsimp![yS,QV];have big:(n=3\/n=10)->∃x_4,Ha K H a x_4/\∃x_5,uM x_4 ((t:Int)+(1+(w:Int)))=some x_5/\∃x_6,x_5=V.int x_6/\Q (V.int (1+(w:Int)+(1+x_6))) H:=λz=>by
  obtain⟨m,hm,hl⟩:=h1 z;refine⟨_,ha,_,(show uM (ns.map V.int) ((t:Int)+(1+(w:Int)))=some (.int (m:Int)) by rw[show(t:Int)+(1+(w:Int))=((t+(1+w):Nat):Int) by lia];exact wa (at' hm)),_,rfl,?_⟩;rw[hl] at k;rw[show(1+(w:Int)+(1+(m:Int)))=((1+w+(1+m):Nat):Int) by lia];exact k
 refine⟨_,ha,_,wa e0,_,_,rfl,hq,_,wa ew,_,rfl,rfl,Lb (λc1=>big (.inl (by have:=V.int.inj c1;lia))) λc1=>⟨rfl,Lb (λc2=>big (.inr (by have:=V.int.inj c2;lia))) λc2=>?_⟩⟩;rw[h2 (λz=>by
  rcases z with z|z
  ·exact c1 (by rw[z];rfl)
  ·exact c2 (by rw[z];rfl))] at k
 rw[show(1+(w:Int))=((1+w:Nat):Int) by lia];exact k
def jt(A:Ad)(H:Hp)(h hd lp la:Addr)(sv:V)(ps fs:List V):Option Km382.Desk->Prop
 |none=>Hs A H h hd lp la sv ps fs/\sv=.Vb/\ps=[]/\fs=[]
 |some d=>Hs A H h hd lp la sv ps fs/\kc A (hide [h,hd,lp,la] H) sv d.now/\Paired (kc A (hide [h,hd,lp,la] H)) ps d.past.reverse/\Paired (kc A (hide [h,hd,lp,la] H)) fs d.future.reverse
theorem jt.hs{A:Ad}{H:Hp}{h hd lp la:Addr}{sv:V}{ps fs:List V}{o:Option Km382.Desk}(x:jt A H h hd lp la sv ps fs o):Hs A H h hd lp la sv ps fs:=by
 cases o with
 |none=>exact x.1
 |some d=>exact x.1
def Kp(N:List Addr)(H H':Hp):Prop:=∀x o,x∉N->H x=some o->H' x=some o
theorem Nj{h hd lp la lp' la':Addr}{H H':Hp}(k:Kp [h,hd,lp,la] H H')(h1:lp'=lp\/H lp'=none)(h2:la'=la\/H la'=none):Aa (hide [h,hd,lp,la] H) (hide [h,hd,lp',la'] H'):=λx o e=>by
 obtain⟨hx,e⟩:=Io e;rw[Wb]
 ·exact k x o hx e
 ·simp only[List.mem_cons,List.not_mem_nil,or_false,not_or] at hx⊢;refine⟨hx.1,hx.2.1,?_,?_⟩
  ·rcases h1 with z|z
   ·rw[z];exact hx.2.2.1
   ·exact ka e z
  ·rcases h2 with z|z
   ·rw[z];exact hx.2.2.2
   ·exact ka e z
theorem Hs.same{A:Ad}{H H':Hp}{h hd lp la:Addr}{sv:V}{ps fs:List V}(x:Hs A H h hd lp la sv ps fs)(s:Aa H H'):Hs A H' h hd lp la sv ps fs:=⟨s _ _ x.ob,s _ _ x.own,s _ _ x.hp,s _ _ x.ha,x.ne⟩
theorem jt.same{A:Ad}{H H':Hp}{h hd lp la:Addr}{sv:V}{ps fs:List V}{o:Option Km382.Desk}(x:jt A H h hd lp la sv ps fs o)(s:Aa H H'):jt A H' h hd lp la sv ps fs o:=by
 have hS:Aa (hide [h,hd,lp,la] H) (hide [h,hd,lp,la] H'):=Nj (λy z _ e=>s y z e) (.inl rfl) (.inl rfl);cases o with
 |none=>exact⟨x.1.same s,x.2⟩
 |some d=>exact⟨x.1.same s,x.2.1.mono hS,x.2.2.1.mono λ_ _ z=>z.mono hS,x.2.2.2.mono λ_ _ z=>z.mono hS⟩
theorem Bj{N:List Addr}{H B:Hp}(h:∀x∈N,B x=none):Aa B (back N H B):=λx o e=>by
 rw[Aj]
 ·exact e
 ·intro hx;rw[h x hx] at e;cases e
theorem Ho{N:List Addr}{H B:Hp}(h:∀x∈N,B x=none):hide N (back N H B)=B:=by
 funext x;by_cases hx:x∈N
 ·rw[Rf hx,h x hx]
 ·rw[Wb hx,Aj hx]
theorem Hs.back{A:Ad}{H B:Hp}{h hd lp la:Addr}{sv:V}{ps fs:List V}(x:Hs A H h hd lp la sv ps fs):Hs A (back [h,hd,lp,la] H B) h hd lp la sv ps fs:=
 ⟨by rw[Dg (by simp)];exact x.ob,by rw[Dg (by simp)];exact x.own,by rw[Dg (by simp)];exact x.hp,by rw[Dg (by simp)];exact x.ha,x.ne⟩
theorem nr{N:List Addr}{H B:Hp}(s:Aa (hide N H) B):Kp N H (back N H B):=λx o hx e=>by
 rw[Aj hx];exact s _ _ (by rw[Wb hx];exact e)
theorem uF{α β:Type}{F:α->β->Prop}:∀{l:List α}{m:List β},Paired F l m->Paired F (l.drop 1) (m.drop 1)
 |_,_,.nil=>.nil
 |_::_,_::_,.cons _ q=>q
theorem YT{R:V->Km382.Kitchen->Prop}{ps:List V}{sv:V}{now:Km382.Kitchen}{past:List Km382.Kitchen}(h:Paired R ps past.reverse)(hs:R sv now)(h60:past.length<=60):Paired R (if 60<ps.length+1 then(ps++[sv]).drop 1 else ps++[sv]) ((now::past).take Km382.PAST).reverse:=by
 have hl:=h.length;rw[List.length_reverse] at hl;have q:Paired R (ps++[sv]) (now::past).reverse:=by
  rw[List.reverse_cons];exact Paired.snoc h hs
 by_cases c:60<ps.length+1
 ·rw[if_pos c];have:=uF q;rw[List.drop_reverse,List.length_cons] at this;have e:past.length+1-1=Km382.PAST:=by show past.length+1-1=60;lia
  rw[e] at this;exact this
 ·rw[if_neg c,List.take_of_length_le (by show(now::past).length<=60;rw[List.length_cons];lia)];exact q
theorem iV{c:Km382Neutral.Call}{x:Km382.Call}(h:KT.AC c x)(hd:KT.nF x=false):∃n,(PyFlat.put1 c)[0]?=some n/\1<=n/\n<=24:=by
 cases h<;>first|exact⟨_,rfl,by decide,by decide⟩|cases hd
theorem jt.back{A:Ad}{H B:Hp}{h hd lp la:Addr}{sv:V}{ps fs:List V}{o:Option Km382.Desk}(x:jt A H h hd lp la sv ps fs o)(s:Aa (hide [h,hd,lp,la] H) B)(hN:∀y∈[h,hd,lp,la],B y=none):jt A (back [h,hd,lp,la] H B) h hd lp la sv ps fs o:=by
 cases o with
 |none=>exact⟨x.1.back,x.2⟩
 |some d=>
  refine⟨x.1.back,?_⟩;rw[Ho hN];exact⟨x.2.1.mono s,x.2.2.1.mono λ_ _ z=>z.mono s,x.2.2.2.mono λ_ _ z=>z.mono s⟩
theorem Vn{N:List Addr}{H B:Hp}(s:Aa (hide N H) B){x:Addr}(h:back N H B x=none):H x=none:=by
 by_cases hx:x∈N
 ·rwa [Dg hx] at h
 ·cases e:H x with
  |none=>rfl
  |some o=>rw[nr s x o hx e] at h;cases h
theorem LX{h hd lp la:Addr}{H H':Hp}(s:ab h H H'):Kp [h,hd,lp,la] H H':=λx o hx e=>s x o (λz=>hx (by simp[z])) e
theorem Kp.trans{N:List Addr}{H H1 H2:Hp}(a:Kp N H H1)(b:Kp N H1 H2):Kp N H H2:=λx o hx e=>b x o hx (a x o hx e)
def dm(A:Ad)(H:Hp)(h hd lp la:Addr)(o':Option Km382.Desk)(ans:List Int)(Q:VK):Prop:=∀H' lp' la' sv' ps' fs' l,jt A H' h hd lp' la' sv' ps' fs' o'->H' l=some (.lst (ans.map V.int))->Kp [h,hd,lp,la] H H'->(lp'=lp\/H lp'=none)->(la'=la\/H la'=none)->Q (.ref l) H'
def Wq(K:PySem.W.Frag)(A:Ad):Sp:=λvs H Q _=>∃(h hd lp la a:Addr)(sv:V)(ps fs:List V)(o:Option Km382.Desk)(x y z:Nat),vs=[.ref h,.ref a]/\jt A H h hd lp la sv ps fs o/\H a=some (.lst [.int 0,.int (x:Int),.int (y:Int),.int (z:Int)])/\
 dm A H h hd lp la (if Km382.okPlaces x y z=false then o else some ⟨Km382.opened x y z,[],[]⟩) (if Km382.okPlaces x y z=false then[-22] else[0]) Q
theorem Kq(T:Txt K mg A):Ua P w K mg base nc 4 A.Ni A.Ki ["history","call"] (Wq K A):=by
 refine T.Mf.F.Uc ["history","call","outcome"] (by decide +kernel) λvs H Q E h nd=>?_;obtain⟨h,hd,lp,la,a,sv,ps,fs,o,x,y,z,rfl,hh,ha,k⟩:=h;have hs:=hh.hs;refine⟨rfl,λ_ _ _ _ hr=>?_⟩;refine⟨_,(ba (Pa (i:=2) nd rfl (Or.inl rfl) (pC (KH T:).frame hr T.tq (aa (vc K (pv 1) va) (aa (vc K (pv 1) va) (aa (vc K (pv 1) va) da)))))
   (ba (Ma (Ca Vf (oO K (pv 2) va) ic (Ea _)) (ja (df (pC (WA T:) hr T.nk (aa (pv 0) (aa (oO K (pv 2) va) da))))) za)
   (ja (oa (oO K (pv 2) va))))),?_⟩
 dsimp only[Cc];dsimp!;refine⟨_,Ha.of ha,_,wa (j:=1) rfl,_,Ha.of ha,_,wa (j:=2) rfl,_,Ha.of ha,_,wa (j:=3) rfl,[h,hd,lp,la],hs.wY,x,y,z,rfl,?_⟩;by_cases Kb:Km382.okPlaces x y z=false
 ·rw[if_pos Kb];unfold dm at k;rw[if_pos Kb,if_pos Kb] at k;intro v B sB hO hN;obtain⟨t,l,rfl,ht,hl⟩:=hO;have sb:=Bj (H:=H) hN;exact⟨t,rfl,_,mh.of (sb _ _ ht),_,wa (j:=0) rfl,(if_neg (λz=>z rfl)).mpr ⟨t,rfl,_,mh.of (sb _ _ ht),_,wa (j:=1) rfl,k _ lp la sv ps fs l (hh.back sB hN) (sb _ _ hl) (nr sB) (.inl rfl) (.inl rfl)⟩⟩
 ·rw[if_neg Kb];unfold dm at k;rw[if_neg Kb,if_neg Kb] at k;intro v sv' B sB hO hS hN;obtain⟨t,l,rfl,ht,hl⟩:=hO;have sb:=Bj (H:=H) hN;have hS0:=hS;obtain⟨sa,_,_,_,_,_,_,_,_,_,rfl,_⟩:=hS0;have ht':=sb _ _ ht;have hl':=sb _ _ hl;refine⟨t,rfl,_,mh.of ht',_,wa (j:=0) rfl,(if_pos (by intro z;cases z)).mpr ⟨t,rfl,_,mh.of ht',_,wa (j:=0) rfl,h,hd,lp,la,sv,_,ps,fs,rfl,hs.back,λH2 lp' la' hs2 f1 f2 sx=>?_⟩⟩;have hob:=(hs.back (B:=B)).ob;have nt:∀{q:Addr}{u:HO},back [h,hd,lp,la] H B q=some u->(∀C d f,u≠.ins C d f)->q≠h:=λe n=>Fb e hob (n _ _ _);have kk:=LX (h:=h) (hd:=hd) (lp:=lp) (la:=la) sx;refine⟨t,rfl,_,mh.of (sx _ _ (nt ht' (by intro _ _ _ z;cases z)) ht'),_,wa (j:=1) rfl,?_⟩;have sh:=Nj kk (.inr f1) (.inr f2);rw[Ho hN] at sh;exact k H2 lp' la' _ _ _ l ⟨hs2,hS.mono sh,.nil,.nil⟩ (sx _ _ (nt hl' (by intro _ _ _ z;cases z)) hl') ((nr sB).trans kk) (.inr (Vn sB f1)) (.inr (Vn sB f2))
theorem Lq{R:V->Km382.Kitchen->Prop}{v:V}:∀{qs:List V}{m:List Km382.Kitchen},Paired R (qs++[v]) m->∃m' y,m=m'++[y]/\Paired R qs m'/\R v y
 |[],[y],.cons h .nil=>⟨[],y,rfl,.nil,h⟩
 |q::qs,x::m,.cons h t=>by
  obtain⟨m',y,rfl,h1,h2⟩:=Lq (qs:=qs) t;exact⟨x::m',y,rfl,.cons h h1,h2⟩
theorem pI{l m:List Km382.Kitchen}{y:Km382.Kitchen}(h:l.reverse=m++[y]):l=y::m.reverse:=by
 have:=congrArg List.reverse h
 rwa [List.reverse_reverse,List.reverse_append] at this
theorem Qy{N:List Addr}{H:Hp}:Aa (hide N H) H:=λx o e=>(Io e).2
def RF(K:PySem.W.Frag)(A:Ad):Sp:=λvs H Q _=>∃(h hd lp la a:Addr)(sv:V)(ps fs:List V)(o:Option Km382.Desk)(c:Km382Neutral.Call)(x:Km382.Call),vs=[.ref h,.ref a]/\jt A H h hd lp la sv ps fs o/\H a=some (.lst ((PyFlat.put1 c).map V.int))/\a∉[h,hd,lp,la]/\KT.AC c x/\Km382Neutral.callOf c=some x/\(∀d,o=some d->KT.DInv d/\KT.SS d)/\(o=none->∃p q r,x=.start p q r)/\
 dm A H h hd lp la (Km382Neutral.step o c).1 (Km382Neutral.step o c).2 Q
theorem bF(T:Txt K mg A):Ua P w K mg base nc 9 A.Vu A.Ju ["history","call"] (RF K A):=by
 refine T.om.F.Uc ["history","call","outcome"] (by decide +kernel) λvs H Q E h nd=>?_;obtain⟨h,hd,lp,la,a,sv,ps,fs,o,c,x,rfl,hh,ha,hna,hc,hx,hD,hno,k⟩:=h;have hs:=hh.hs;refine⟨rfl,λ_ _ _ _ hr=>?_⟩;refine⟨_,(ba (Ma (Ca Rb (vc K (pv 1) va) (Ka rfl T.PJ) (Ea _)) (ja (oa (pC (Kq T:) hr T.Mf (aa (pv 0) (aa (pv 1) da))))) za)
    (ba (Ma (Ca Rb (vc K (pv 1) va) (Ka rfl T.YN) (Ea _)) (ja (oa (pC (zK T:) hr T.ot (aa (pv 0) da)))) za)
    (ba (Ma (Ca Rb (vc K (pv 1) va) (Ka rfl T.LJ) (Ea _)) (ja (oa (pC (GH T:) hr T.mq (aa (pv 0) da)))) za)
    (ba (Ma (Ca Rb (vc K (pv 1) va) (Ka rfl T.QJ) (Ea _)) (ja (oa (pC (LH T:) hr T.uq (aa (pv 0) da)))) za)
    (ba (Pa (i:=2) nd rfl (Or.inl rfl) (pC (ZA T:).frame hr T.vk (aa (pF (Zd T) (pv 0)) (aa (pv 1) da))))
    (ba (Ma (Ca Vf (oO K (pv 2) va) ic (Ea _)) (ja (df (pC (Cz T:) hr T.cj (aa (pv 0) (aa (oO K (pv 2) va) da))))) za)
    (ja (oa (oO K (pv 2) va))))))))),?_⟩
 dsimp only[Cc];dsimp!;by_cases hdk:KT.nF x=false
 ·obtain⟨n,e,h1,h2⟩:=iV hc hdk;have e':((PyFlat.put1 c).map V.int)[0]?=some (.int n):=by rw[List.getElem?_map,e];rfl
  refine⟨_,Ha.of ha,_,wa (j:=0) e',rfl,(if_neg (λz=>by have:=V.int.inj z;lia)).mpr ⟨_,Ha.of ha,_,wa (j:=0) e',rfl,(if_neg (λz=>by have:=V.int.inj z;lia)).mpr ⟨_,Ha.of ha,_,wa (j:=0) e',rfl,(if_neg (λz=>by have:=V.int.inj z;lia)).mpr ⟨_,Ha.of ha,_,wa (j:=0) e',rfl,(if_neg (λz=>by have:=V.int.inj z;lia)).mpr ?_⟩⟩⟩⟩;cases o with
  |none=>
   obtain⟨p,q,r,rfl⟩:=hno rfl;cases hdk
  |some d=>
   obtain⟨dI,dC⟩:=hD d rfl;obtain⟨_,hnow,hpast,hfut⟩:=hh;have hpl:=hpast.length;rw[List.length_reverse] at hpl;have h60:=dI.RX;refine⟨hd,_,hs.ob,[h,hd,lp,la],hs.wY,sv,d.now,a,c,x,rfl,hnow,dI.now,by rw[Wb hna];exact ha,hc,⟨n,e,h1,h2⟩,?_⟩;unfold dm at k;rw[KT.Kf hx,KT.xG hdk] at k;have hh':jt A H h hd lp la sv ps fs (some d):=⟨hs,hnow,hpast,hfut⟩;cases hka:KT.fc d.now x with
   |mk r1 ans=>
    rw[hka] at k;cases r1 with
    |none=>
     intro v B sB hO hN;obtain⟨t,l,rfl,ht,hl⟩:=hO;have sb:=Bj (H:=H) hN;exact⟨t,rfl,_,mh.of (sb _ _ ht),_,wa (j:=0) rfl,(if_neg (λz=>z rfl)).mpr ⟨t,rfl,_,mh.of (sb _ _ ht),_,wa (j:=1) rfl,k _ lp la sv ps fs l (hh'.back sB hN) (sb _ _ hl) (nr sB) (.inl rfl) (.inl rfl)⟩⟩
    |some q=>
     intro v sv' B sB hO hS hN;obtain⟨t,l,rfl,ht,hl⟩:=hO;have sb:=Bj (H:=H) hN;have hS0:=hS;obtain⟨sa,_,_,_,_,_,_,_,_,_,rfl,_⟩:=hS0;have ht':=sb _ _ ht;have hl':=sb _ _ hl;refine⟨t,rfl,_,mh.of ht',_,wa (j:=0) rfl,(if_pos (by intro z;cases z)).mpr ⟨t,rfl,_,mh.of ht',_,wa (j:=0) rfl,h,hd,lp,la,sv,_,ps,fs,rfl,hs.back,by lia,λH2 lp' la' hs2 f1 f2 sx=>?_⟩⟩;have hob:=(hs.back (B:=B)).ob;have nt:∀{q:Addr}{u:HO},back [h,hd,lp,la] H B q=some u->(∀C d f,u≠.ins C d f)->q≠h:=λe n=>Fb e hob (n _ _ _);have kk:=LX (h:=h) (hd:=hd) (lp:=lp) (la:=la) sx;refine⟨t,rfl,_,mh.of (sx _ _ (nt ht' (by intro _ _ _ z;cases z)) ht'),_,wa (j:=1) rfl,?_⟩;have sh:=Nj kk (.inr f1) (.inr f2);rw[Ho hN] at sh;have sS:=sB.trans sh;exact k H2 lp' la' _ _ _ l ⟨hs2,hS.mono sh,YT (hpast.mono λ_ _ z=>z.mono sS) (hnow.mono sS) h60,.nil⟩ (sx _ _ (nt hl' (by intro _ _ _ z;cases z)) hl') ((nr sB).trans kk) (.inr (Vn sB f1)) (.inr (Vn sB f2))
 have Pn:∀{H':Hp},(∀x o,x≠h->x≠lp->x≠la->H x=some o->H' x=some o)->Kp [h,hd,lp,la] H H':=λf x o hx e=>by
  simp only[List.mem_cons,List.not_mem_nil,or_false,not_or] at hx;exact f x o hx.1 hx.2.2.1 hx.2.2.2 e
 induction hc with
 |ZL x y z _ _ _=>
  refine⟨_,Ha.of ha,_,wa (j:=0) rfl,rfl,(if_pos rfl).mpr ⟨h,hd,lp,la,a,sv,ps,fs,o,x,y,z,rfl,hh,ha,?_⟩⟩;have e:Km382Neutral.step o [[0,(x:Int),(y:Int),(z:Int)]]=(if Km382.okPlaces x y z=false then o else some ⟨Km382.opened x y z,[],[]⟩,if Km382.okPlaces x y z=false then[-22] else[0]):=by
   cases o with
   |none=>rw[KT.il hx];split<;>rfl
   |some d=>rw[KT.Kf hx];dsimp only[Km382.act];split<;>rfl
  rw[e] at k;exact k
 |gQ=>
  cases o with
  |none=>obtain⟨_,_,_,z⟩:=hno rfl;cases z
  |some d=>
   obtain⟨dI,dC⟩:=hD d rfl;have hh':=hh;obtain⟨_,hnow,hpast,hfut⟩:=hh;have hpl:=hpast.length;have hfl:=hfut.length;rw[List.length_reverse] at hpl hfl;have dC':d.past.length+d.future.length<=60:=dC;unfold dm at k;rw[KT.Kf hx] at k;refine⟨_,Ha.of ha,_,wa (j:=0) rfl,rfl,(if_neg (by decide)).mpr ⟨_,Ha.of ha,_,wa (j:=0) rfl,rfl,(if_pos rfl).mpr ⟨h,hd,lp,la,sv,ps,fs,rfl,hs,by lia,by lia,λep H' l s _ hl=>?_,λqs pv ep H' l hs' _ hl fr=>?_⟩⟩⟩
   ·rw[ep] at hpl;have e0:d.past=[]:=List.length_eq_zero_iff.mp hpl.symm;have ea:Km382.act d .back=(d,Km382.only (-2)):=by dsimp only[Km382.act];rw[e0]
    rw[ea] at k;exact k H' lp la sv ps fs l (hh'.same s) (by rw[hl];rfl) (λy w _ e=>s y w e) (.inl rfl) (.inl rfl)
   ·rw[ep] at hpast;obtain⟨m',y,em,h1,h2⟩:=Lq hpast;have e0:=pI em;have ea:Km382.act d .back=(⟨y,m'.reverse,d.now::d.future⟩,Km382.only ((m'.reverse.length:Nat):Int)):=by dsimp only[Km382.act];rw[e0]
    rw[ea] at k;have sh:=Nj (lp':=lp) (la':=la) (Pn fr) (.inl rfl) (.inl rfl);refine k H' lp la pv qs (fs++[sv]) l ⟨hs',h2.mono sh,?_,?_⟩ (by rw[hl,List.length_reverse,h1.length];rfl) (Pn fr) (.inl rfl) (.inl rfl)
    ·show Paired _ qs (m'.reverse).reverse;rw[List.reverse_reverse];exact h1.mono λ_ _ z=>z.mono sh
    ·show Paired _ (fs++[sv]) (d.now::d.future).reverse;rw[List.reverse_cons];exact Paired.snoc (hfut.mono λ_ _ z=>z.mono sh) (hnow.mono sh)
 |wJ=>
  cases o with
  |none=>obtain⟨_,_,_,z⟩:=hno rfl;cases z
  |some d=>
   obtain⟨dI,dC⟩:=hD d rfl;have hh':=hh;obtain⟨_,hnow,hpast,hfut⟩:=hh;have hpl:=hpast.length;have hfl:=hfut.length;rw[List.length_reverse] at hpl hfl;have dC':d.past.length+d.future.length<=60:=dC;unfold dm at k;rw[KT.Kf hx] at k;refine⟨_,Ha.of ha,_,wa (j:=0) rfl,rfl,(if_neg (by decide)).mpr ⟨_,Ha.of ha,_,wa (j:=0) rfl,rfl,(if_neg (by decide)).mpr ⟨_,Ha.of ha,_,wa (j:=0) rfl,rfl,(if_pos rfl).mpr ⟨h,hd,lp,la,sv,ps,fs,rfl,hs,by lia,by lia,λep H' l s _ hl=>?_,λqs pv ep H' l hs' _ hl fr=>?_⟩⟩⟩⟩
   ·rw[ep] at hfl;have e0:d.future=[]:=List.length_eq_zero_iff.mp hfl.symm;have ea:Km382.act d .again=(d,Km382.only (-2)):=by dsimp only[Km382.act];rw[e0]
    rw[ea] at k;exact k H' lp la sv ps fs l (hh'.same s) (by rw[hl];rfl) (λy w _ e=>s y w e) (.inl rfl) (.inl rfl)
   ·rw[ep] at hfut;obtain⟨m',y,em,h1,h2⟩:=Lq hfut;have e0:=pI em;have ea:Km382.act d .again=(⟨y,d.now::d.past,m'.reverse⟩,Km382.only ((m'.reverse.length:Nat):Int)):=by
     have et:=KT.xJ dC e0;dsimp only[Km382.act];rw[e0];simp only[et]
    rw[ea] at k;have sh:=Nj (lp':=lp) (la':=la) (Pn fr) (.inl rfl) (.inl rfl);refine k H' lp la pv (ps++[sv]) qs l ⟨hs',h2.mono sh,?_,?_⟩ (by rw[hl,List.length_reverse,h1.length];rfl) (Pn fr) (.inl rfl) (.inl rfl)
    ·show Paired _ (ps++[sv]) (d.now::d.past).reverse;rw[List.reverse_cons];exact Paired.snoc (hpast.mono λ_ _ z=>z.mono sh) (hnow.mono sh)
    ·show Paired _ qs (m'.reverse).reverse;rw[List.reverse_reverse];exact h1.mono λ_ _ z=>z.mono sh
 |aM=>
  cases o with
  |none=>obtain⟨_,_,_,z⟩:=hno rfl;cases z
  |some d=>
   obtain⟨dI,dC⟩:=hD d rfl;have hh':=hh;obtain⟨_,hnow,hpast,hfut⟩:=hh;have hpl:=hpast.length;have hfl:=hfut.length;rw[List.length_reverse] at hpl hfl;have dC':d.past.length+d.future.length<=60:=dC;unfold dm at k;rw[KT.Kf hx] at k;refine⟨_,Ha.of ha,_,wa (j:=0) rfl,rfl,(if_neg (by decide)).mpr ⟨_,Ha.of ha,_,wa (j:=0) rfl,rfl,(if_neg (by decide)).mpr ⟨_,Ha.of ha,_,wa (j:=0) rfl,rfl,(if_neg (by decide)).mpr ⟨_,Ha.of ha,_,wa (j:=0) rfl,rfl,(if_pos rfl).mpr ⟨h,hd,lp,la,sv,ps,fs,d.now,rfl,hs,hnow.mono Qy,dI.now,by lia,by lia,λH' l s hl=>?_⟩⟩⟩⟩⟩;exact k H' lp la sv ps fs l (hh'.same s) (by rw[hl,hpl,hfl];rfl) (λy w _ e=>s y w e) (.inl rfl) (.inl rfl)
 |_=>exact absurd rfl hdk
def mZ(K:PySem.W.Frag):Sp:=λvs H Q _=>∃(a:Addr)(ns:List Int),vs=[.ref a]/\Ha K H a (ns.map V.int)/\ns.length<=30000/\(∀x∈ns,0<=x/\x<=4294967295)/\PyKm382.answers_asked ns=true/\∀(H':Hp)(p:Addr),H' p=some (.lst ((PyKm382.answers ns).map V.int))->Q (.ref p) H'
def BL(K:PySem.W.Frag)(A:Ad):Sp:=mZ K
theorem jT(xs:List V)(n m:Nat):iw xs (some (n:Int)) (some ((n:Int)+(m:Int)))=(xs.drop n).take m:=by
 unfold iw HT.rG;simp only[show¬((n:Int)<0) by lia,show¬((n:Int)+(m:Int)<0) by lia,if_false,Int.toNat_natCast,show((n:Int)+(m:Int)).toNat=n+m by lia];by_cases h:n<=xs.length
 ·rw[Nat.min_eq_left h];by_cases h2:n+m<=xs.length
  ·rw[Nat.min_eq_left h2,Nat.add_sub_cancel_left]
  ·rw[Nat.min_eq_right (by lia),List.take_of_length_le (by rw[List.length_drop];exact Nat.le_refl _),List.take_of_length_le (by rw[List.length_drop];lia)]
 ·rw[Nat.min_eq_right (by lia),Nat.min_eq_right (by lia),List.drop_of_length_le (Nat.le_refl _),List.drop_of_length_le (by lia)];simp
theorem Ur{g:Addr}{G:Hp}{o:HO}:hide [g] (upd G g o)=hide [g] G:=by
 funext x;by_cases hx:x∈[g]
 ·rw[Rf hx,Rf hx]
 ·rw[Wb hx,Wb hx,ua (by simpa using hx)]
theorem XQ{g q:Addr}{G:Hp}{o:HO}(hq:G q=none):Aa (hide [g] G) (hide [g] (upd G q o)):=λx u e=>by
 obtain⟨hx,e⟩:=Io e;rw[Wb hx,ua (ka e hq)];exact e
theorem WM:∀(l m:List Km382Neutral.Call)(s:Km382Neutral.S),Km382Neutral.may s (l++m)=true->Km382Neutral.may s l=true
 |[],_,_,_=>rfl
 |c::l,m,s,h=>by
  have h:(!((Km382Neutral.step s c).2.isEmpty)&&Km382Neutral.may (Km382Neutral.step s c).1 (l++m))=true:=h;rw[Bool.and_eq_true] at h;show(!((Km382Neutral.step s c).2.isEmpty)&&Km382Neutral.may (Km382Neutral.step s c).1 l)=true;rw[Bool.and_eq_true];exact⟨h.1,WM l m _ h.2⟩
theorem oN:∀(l:List Km382Neutral.Call)(s:Km382Neutral.S),(∀d,s=some d->KT.SS d)->(∀c∈l,∃x,KT.AC c x/\Km382Neutral.callOf c=some x)->Km382Neutral.may s l=true->∀d,KT.run s l=some d->KT.SS d
 |[],_,h,_,_=>h
 |c::l,s,h,hc,hm=>by
  obtain⟨x,_,hx⟩:=hc c (List.mem_cons_self ..);have hm':(!((Km382Neutral.step s c).2.isEmpty)&&Km382Neutral.may (Km382Neutral.step s c).1 l)=true:=hm;rw[Bool.and_eq_true] at hm';refine oN l (Km382Neutral.step s c).1 (λd hd=>?_) (λc' hc'=>hc c' (List.mem_cons_of_mem _ hc')) hm'.2;rcases KT.Bs hm hx with⟨d0,rfl⟩|⟨rfl,a,b,e,rfl⟩
  ·rw[KT.Kf hx] at hd;have:=Option.some.inj hd;rw[<-this];exact(h d0 rfl).act x
  ·rw[KT.il hx] at hd;split at hd
   ·cases hd
   ·have:=Option.some.inj hd;rw[<-this];show 0+0<=60;decide
theorem xS{o:Option Km382.Desk}{c:Km382Neutral.Call}{x:Km382.Call}(hx:Km382Neutral.callOf c=some x)(hD:∀d,o=some d->KT.DInv d)(hn:o=none->∃p q r,x=.start p q r):(Km382Neutral.step o c).2.length<=3401:=by
 cases o with
 |none=>
  obtain⟨p,q,r,rfl⟩:=hn rfl;rw[KT.il hx];split<;>(show 1<=3401;decide)
 |some d=>
  rw[KT.Kf hx];have hI:=hD d rfl;have h1:=KT.JS (Km382.act d x).2;have h2:=KT.mW (m:=3400) (by decide) hI.now.Tr (λr y hy=>RD (by rw[fD];exact hI.now.recipes y (KT.Cg hI.now hy).2) (yn hI.now)) x;show(Km382Neutral.told (Km382.act d x).2).length<=3401;lia
theorem KS(l:List (List Int))(b:List Int):PyFlat.told (l++[b])=PyFlat.told l++((b.length:Int)::b):=by
 rw[KT.lJ];show _++(((b.length:Int)::b)++[])=_;rw[List.append_nil]
def InK(K:PySem.W.Frag)(a:Addr)(xs:List V):Prop:=∃(o:Obj)(its:Array Value)(n:Nat),K.lookup a=some o/\o.cls=.type "list"/\o.dict=none/\o.data=.seq its n/\its.size<=sizeLine/\Vals xs its.toList
theorem AF{H H':Hp}{a:Addr}{u:HO}(h:Rd H a u)(e:∀o,H a=some o->H' a=some o):Rd H' a u:=by
 rcases h with h|⟨o,h⟩
 ·exact .inl (e _ h)
 ·exact .inr ⟨o,e _ h⟩
theorem lN{H:Hp}{a:Addr}{u:HO}(h:Rd H a u):∃o,H a=some o:=by
 rcases h with h|⟨o,h⟩
 ·exact⟨_,h⟩
 ·exact⟨_,h⟩
def rZ(K:PySem.W.Frag)(A:Ad)(a h hd g:Addr)(ns:List Int)(cs:List Km382Neutral.Call)(m:Nat)(σ:L2.St)(H':Hp):Prop:=∃(done rest:List Km382Neutral.Call)(lp la:Addr)(sv:V)(ps fs:List V)(v4 v5:Option V),cs=done++rest/\m=rest.length/\σ=[some (.ref a),some (.ref h),some (.ref g),some (.int (((PyFlat.put done).length:Nat):Int)),v4,v5]/\jt A (hide [g] H') h hd lp la sv ps fs (KT.run Km382Neutral.start done)/\((Rd (hide [g] H') a (.lst (ns.map V.int))/\a∉[h,hd,lp,la])\/InK K a (ns.map V.int))/\
 H' g=some (.lst ((PyFlat.told (PyFlat.played Km382Neutral.step Km382Neutral.start done)).map V.int))/\(PyFlat.told (PyFlat.played Km382Neutral.step Km382Neutral.start done)).length<=4000*done.length
theorem yK(T:Txt K mg A):Ua P w K mg base nc 10 A.Qt A.Pt ["calls"] (BL K A):=by
 refine T.Wn.F.Uc ["calls","history","given","at","size","answer"] (by decide +kernel) λvs H Q E h nd=>?_;obtain⟨a,ns,rfl,ha,h30,hb,hask,k⟩:=h;have hzl:=ak;obtain⟨cs,hcs,hac,hmay,h1000,hans⟩:=KT.zJ hask;refine⟨rfl,λ_ _ _ _ hr=>?_⟩;refine⟨_,(ba (Pa (i:=1) nd rfl (Or.inl rfl) (eZ (xw T:) hr T.lz T.ZC T.mm))
    (ba (Pa (i:=2) nd rfl (Or.inl rfl) (Wa da))
    (ba (Pa (i:=3) nd rfl (Or.inl rfl) va)
    (ba (UR PassesOwn.never (Ca Kl (pv 3) (Oa (Ga (K:=K) rfl) rfl T.Zb Eb (aa (pv 0) da)) (Ea _)) (ba (Pa (i:=4) nd rfl (Or.inl rfl) (pC (Aw T:) hr T.Rh (aa (pv 0) (aa (pv 3) da))))
    (ba (Pa (i:=5) nd rfl (Or.inl rfl) (pC (bF T:).frame hr T.om (aa (pv 1) (aa (Xf (pU K) (pv 0) (Kg (pv 3)) (Kg (Sb yg (pv 3) (pv 4)))) da))))
    (ba (df (Wf (K:=K) rfl PySem.F.plainAttrs_list PySem.F.slot_list_append PySem.F.type_list_append Ze (pv 2) (aa (Oa (Ga (K:=K) rfl) rfl T.Zb Eb (aa (pv 5) da)) da)))
    (ba (df (Wf (K:=K) rfl PySem.F.plainAttrs_list PySem.F.slot_list_extend PySem.F.type_list_extend AO (pv 2) (aa (pv 5) da)))
    (ja (yF (i:=3) nd rfl (Or.inl rfl) (pv 4) HE)))))))
    (ja (oa (pv 2))))))),?_⟩
 dsimp only[Cc];dsimp!;intro h hd hh hhd hne;refine⟨h,hd,rfl,ia,λH1 lp la hob hlp hla hnpl flp fla sx=>⟨rfl,Nat.zero_le _,λg hg=>?_⟩⟩;have toH:∀{y:Addr},upd (upd H hd (.own h)) h (.ins A.Ta hd []) y=none->H y=none:=λ{y} z=>by
  cases e:H y with
  |none=>rfl
  |some o=>rw[ua (ka e hh),ua (ka e hhd),e] at z;cases z
 have sH1:Aa H H1:=Aa.made hh hhd λb o e hb=>sx b o hb e;have own1:H1 hd=some (.own h):=sx _ _ hne (by rw[ua hne,ia]);have hs1:Hs A H1 h hd lp la .Vb [] []:=⟨hob,own1,hlp,hla,hnpl⟩;have hg2:hide [g] (upd H1 g (.lst []))=H1:=by
  rw[Ur];funext x;by_cases hx:x∈[g]
  ·rw[Rf hx,show x=g by simpa using hx,hg]
  ·rw[Wb hx]
 refine⟨rZ K A a h hd g ns cs,⟨cs.length,[],cs,lp,la,.Vb,[],[],none,none,rfl,rfl,rfl,?_,?_,ia,Nat.zero_le _⟩,λm σ H' w=>?_⟩
 ·rw[hg2];exact⟨hs1,rfl,rfl,rfl⟩
 ·rw[hg2];rcases ha with ha|ha
  ·obtain⟨o,ho⟩:=lN ha;refine .inl ⟨AF ha λo e=>sH1 _ _ e,?_⟩;simp only[List.mem_cons,List.not_mem_nil,or_false,not_or];exact⟨ka ho hh,ka ho hhd,ka ho (toH flp),ka ho (toH fla)⟩
  ·exact .inr ha
 obtain⟨done,rest,lp,la,sv,ps,fs,v4,v5,ecs,em,rfl,hist,hsq,hgv,hlen⟩:=w;have hsq':Ha K H' a (ns.map V.int):=by
  rcases hsq with⟨hr,_⟩|hr
  ·exact .inl (AF hr λo e=>Qy _ _ e)
  ·exact .inr hr
 dsimp!;refine⟨_,.inl hsq',?_⟩;rw[List.length_map];cases rest with
 |nil=>
  rw[List.append_nil] at ecs;subst ecs;rw[<-hcs];refine(if_neg (by lia)).mpr (k H' g ?_);rw[hgv,hans]
 |cons c rest=>
  obtain⟨x,hAC,hx⟩:=hac c (by rw[ecs];simp);have hpos:=KT.XR hAC;have hput:ns=PyFlat.put done++(PyFlat.put1 c++PyFlat.put rest):=by rw[hcs,ecs,KT.Pq];rfl
  have hdrop:ns.drop (PyFlat.put done).length=PyFlat.put1 c++PyFlat.put rest:=by rw[hput,List.drop_left]
  have hnl:ns.length=(PyFlat.put done).length+((PyFlat.put1 c).length+(PyFlat.put rest).length):=by rw[hput,List.length_append,List.length_append]
  have hdl:done.length+1<=1000:=by have:=congrArg List.length ecs;rw[List.length_append,List.length_cons] at this;lia
  refine(if_pos (by lia)).mpr ⟨rZ K A a h hd g ns cs rest.length,λσ' H'' z=>⟨rest.length,by rw[em,List.length_cons];lia,z⟩,?_⟩;refine⟨a,ns,(PyFlat.put done).length,c,x,PyFlat.put rest,rfl,hsq',hAC,hdrop,_,rfl,?_⟩;refine⟨a,_,rfl,hsq',λq hq=>?_⟩;rw[jT,<-List.map_drop,hdrop,<-List.map_take,List.take_left];have s1:=XQ (g:=g) (o:=.lst ((PyFlat.put1 c).map V.int)) hq;have nqg:q≠g:=λz=>by rw[z,hgv] at hq;cases hq
  have hs:=hist.hs;have up:∀{y:Addr}{o:HO},hide [g] H' y=some o->y≠q:=λe=>ka (Qy _ _ e) hq;have hmr:=KT.XM done (c::rest) Km382Neutral.start (by rw[<-ecs];exact hmay);have hq1:hide [g] (upd H' q (.lst ((PyFlat.put1 c).map V.int))) q=some (.lst ((PyFlat.put1 c).map V.int)):=by rw[Wb (by simpa using nqg),ia]
  have hg1:(upd H' q (.lst ((PyFlat.put1 c).map V.int))) g=some (.lst ((PyFlat.told (PyFlat.played Km382Neutral.step Km382Neutral.start done)).map V.int)):=(ua (Ne.symm nqg)).trans hgv;have hdn:∀c'∈done,∃x,KT.AC c' x/\Km382Neutral.callOf c'=some x:=λc' hc'=>hac c' (by rw[ecs];exact List.mem_append_left _ hc');have hmd:Km382Neutral.may Km382Neutral.start done=true:=WM done (c::rest) Km382Neutral.start (by rw[<-ecs];exact hmay);generalize (upd H' q (.lst ((PyFlat.put1 c).map V.int)))=H2 at s1 hq1 hg1⊢;have wY:uG [g] H2:=λy hy=>by
   have e:y=g:=by simpa using hy
   subst e;exact .inl ⟨_,hg1⟩
  refine⟨[g],wY,h,hd,lp,la,q,sv,ps,fs,KT.run Km382Neutral.start done,c,x,rfl,hist.same s1,hq1,?_,hAC,hx,λd hd'=>?_,λhn=>?_,?_⟩
  ·simp only[List.mem_cons,List.not_mem_nil,or_false,not_or];exact⟨Ne.symm (up hs.ob),Ne.symm (up hs.own),Ne.symm (up hs.hp),Ne.symm (up hs.ha)⟩
  ·exact⟨KT.BF done Km382Neutral.start (λd z=>by cases z) hdn hmd d hd',oN done Km382Neutral.start (λd z=>by cases z) hdn hmd d hd'⟩
  ·rcases KT.Bs hmr hx with⟨d,z⟩|⟨_,z⟩
   ·rw[hn] at z;cases z
   ·exact z
  ·intro B lp' la' sv' ps' fs' l hist2 hl kp f1 f2 hN;have hgB:B g=none:=hN g (by simp);have sb:=Bj (H:=H2) hN;have hgJ:back [g] H2 B g=some (.lst ((PyFlat.told (PyFlat.played Km382Neutral.step Km382Neutral.start done)).map V.int)):=by rw[Dg (by simp)];exact hg1
   have hlJ:=sb _ _ hl;have nlg:l≠g:=λz=>by rw[z,hgB] at hl;cases hl
   have hJ:hide [g] (back [g] H2 B)=B:=Ho hN;generalize back [g] H2 B=J at hgJ hlJ hJ⊢;have hDI:=λd hd'=>KT.BF done Km382Neutral.start (λd z=>by cases z) hdn hmd d hd';have hst:=λ(hn:KT.run Km382Neutral.start done=none)=>(show∃p q r,x=.start p q r by
    rcases KT.Bs hmr hx with⟨d,z⟩|⟨_,z⟩
    ·rw[hn] at z;cases z
    ·exact z)
   have hal:=xS hx hDI hst;have epl:=KT.Tv done Km382Neutral.start c;have etl:PyFlat.told (PyFlat.played Km382Neutral.step Km382Neutral.start (done++[c]))=PyFlat.told (PyFlat.played Km382Neutral.step Km382Neutral.start done)++((((Km382Neutral.step (KT.run Km382Neutral.start done) c).2.length:Nat):Int)::(Km382Neutral.step (KT.run Km382Neutral.start done) c).2):=by rw[epl,KS]
   have run':=KT.sI done Km382Neutral.start c;generalize (Km382Neutral.step (KT.run Km382Neutral.start done) c).2=an at hal etl hlJ;generalize hT:PyFlat.told (PyFlat.played Km382Neutral.step Km382Neutral.start done)=tl at hgJ hlen etl;have hal':(an.map V.int).length=an.length:=List.length_map ..
   have htl':(tl.map V.int).length=tl.length:=List.length_map ..
   refine⟨.inl ⟨rfl,_,Ha.of hgJ⟩,l,rfl,_,.inl (Ha.of hlJ),g,_,_,rfl,rfl,hgJ,by lia,.inl ⟨rfl,_,Ha.of ia⟩,g,l,_,_,rfl,rfl,ia,(ua nlg).trans hlJ,by rw[List.length_append];show _+1+_<=_;lia,?_⟩;dsimp![yS,QV];refine⟨done++[c],rest,lp',la',sv',ps',fs',some (.int (((PyFlat.put1 c).length:Nat):Int)),some (.ref l),by rw[ecs,List.append_assoc];rfl,rfl,?_,?_,?_,?_,?_⟩
   ·rw[KT.Pq,List.length_append,show PyFlat.put [c]=PyFlat.put1 c++[] from rfl,List.append_nil,Int.natCast_add]
   ·rw[Ur,Ur,hJ,run'];exact hist2
   ·rw[Ur,Ur,hJ];rcases hsq with⟨hr,hn⟩|hr
    ·refine .inl ⟨AF hr λo e=>kp a o hn (s1 _ _ e),?_⟩;obtain⟨o,ho⟩:=lN hr;have ho:=s1 _ _ ho;simp only[List.mem_cons,List.not_mem_nil,or_false,not_or] at hn⊢;refine⟨hn.1,hn.2.1,?_,?_⟩
     ·rcases f1 with z|z
      ·rw[z];exact hn.2.2.1
      ·exact ka ho z
     ·rcases f2 with z|z
      ·rw[z];exact hn.2.2.2
      ·exact ka ho z
    ·exact .inr hr
   ·rw[ia,etl,List.map_append,List.map_cons,hal',List.append_assoc];rfl
   ·rw[etl,List.length_append,List.length_cons,List.length_append];show _<=4000*(done.length+1);lia
set_option tactic.hygienic true
theorem AX{P:Program}{w:World}{K:PySem.W.Frag}{mg:Str->Option Value}{fa:Addr}(T:∃A:Ad,Txt K mg A)(hmg:mg "answers"=some (.ref fa)):∃fd:FuncData,(∀(s:Shared)(us:List Value),us.length=(["calls"]:List Str).length->BindsTo s fd ⟨us,[]⟩ ((["calls"]:List Str).zip us))/\∀base:Heap,K.In base->base.Ns mainGlobals mg->Ua P w K mg base nc 20 fa fd ["calls"] (mZ K):=by
 obtain⟨A,T⟩:=T;have e:=hmg.symm.trans T.Wn.m;have e:fa=A.Qt:=by injection e with e;injection e
 subst e;obtain⟨oc,od,kV,doc,pm,an,cdv,ct,osl,ed,_,_⟩:=T.Wn.F.ex;refine⟨A.Pt,λs us hu=>?_,λbase _ _=>(yK T).mono (by decide)⟩
 match us,hu with
 |[_],_=>rw[ed];exact .of_eq rfl
theorem Sa{K:PySem.W.Frag}{h:Heap}{mg:Str->Option Value}(X:K.In h)(G:h.Ns mainGlobals mg){x:Str}{st:Stmt}{ps:List Str}{f:Addr}{od an:Option Addr}{sl:Array (Option Value)}{oc kV dc pm cd ct:Value}(a:PySem.W.nsIn K mainGlobals x=some (some (.ref f)))(l:K.lookup f=some ⟨oc,od,.func (PySem.W.fnOf x x (Ak st) (Gg st) (Ra st) .none kV dc pm an cd ct),sl⟩)(c:PySem.W.codeIn K cd x=true)(k:PySem.W.keepIn K (.ref f)=true)(hb:∀(kV doc pm:Value)(an:Option Addr)(cdv ct:Value)(us:List Value),us.length=ps.length->bindArgs (PySem.W.fnOf x x (Ak st) (Gg st) (Ra st) .none kV doc pm an cdv ct) ⟨us,[]⟩=pure (ps.zip us)):CF K mg x st f (PySem.W.fnOf x x (Ak st) (Gg st) (Ra st) .none kV dc pm an cd ct) ps:=
 ⟨mj l c k,(mj l c k).binds hb,PySem.W.mg_of X G a⟩
theorem SX{K:PySem.W.Frag}{a:Addr}{od:Option Addr}{sl:Array (Option Value)}{n:Nat}{xs:Array Value}{vs:List V}(l:K.lookup a=some ⟨.type "tuple",od,.seq xs n,sl⟩)(hz:xs.size<=sizeLine)(hv:Vals vs xs.toList):∀H,mh K H a vs:=λ_=>.inr ⟨_,_,_,l,rfl,rfl,hz,hv⟩
theorem UW{K:PySem.W.Frag}{mg:Str->Option Value}{a0 a1 a2 a3 a4 a5 a6 a7 a8 a9 a10 a11 a12 a13 a14 a15 a16 a17 a18 a19 a20 a21 a22 a23 a24 a25 a26 a27 a28 a29 a30 a31 a32 a33 a34 a35 a36 a37 a38 a39 a40 a41 a42 a43 a44 a45 a46 a47 a48 a49 a50 a51 a52 a53 a54 a55 a56 a57 a58 a59 a60 a61 a62 a63 a64 a65 a66 a67 a68 a69 a70 a71 a72 a73 a74 a75 a76 a77 a78 a79 a80 a81 a82 a83 a84 a85 a86 a87 a88 a89 a90 a91 a92 a93 a94 a95 a96 a97 a98 b0 b1 b2 b3 b4 b5 b6 b7 e12 e65:Addr}{d0 d1 d2 d3 d4 d5 d6 d7 d8 d9 d10 d11 d12 d13 d14 d15 d16 d17 d18 d19 d20 d21 d22 d23 d24 d25 d26 d27 d28 d29 d30 d31 d32 d33 d34 d35 d36 d37 d38 d39 d40 d41 d42 d43 d44 d45 d46 d47 d48 d49 d50 d51 d52 d53 d54 d55 d56 d57 d58 d59 d60 d61 d62 d63 d64 d65 d66 d67 d68 d69 d70 d71 d72 d73 d74 d75 d76 d77 d78 d79 d80 d81 d82 d83 d84 d85 d86 d87 d88 d89 d90 d91 d92 d93 d94 d95 d96 d97 d98:FuncData}(t:Txt K mg ⟨a0,d0,a1,d1,a2,d2,a3,d3,a4,d4,a5,d5,a6,d6,a7,d7,a8,d8,a9,d9,a10,d10,a11,d11,a12,d12,a13,d13,a14,d14,a15,d15,a16,d16,a17,d17,a18,d18,a19,d19,a20,d20,a21,d21,a22,d22,a23,d23,a24,d24,a25,d25,a26,d26,a27,d27,a28,d28,a29,d29,a30,d30,a31,d31,a32,d32,a33,d33,a34,d34,a35,d35,a36,d36,a37,d37,a38,d38,a39,d39,a40,d40,a41,d41,a42,d42,a43,d43,a44,d44,a45,d45,a46,d46,a47,d47,a48,d48,a49,d49,a50,d50,a51,d51,a52,d52,a53,d53,a54,d54,a55,d55,a56,d56,a57,d57,a58,d58,a59,d59,a60,d60,a61,d61,a62,d62,a63,d63,a64,d64,a65,d65,a66,d66,a67,d67,a68,d68,a69,d69,a70,d70,a71,d71,a72,d72,a73,d73,a74,d74,a75,d75,a76,d76,a77,d77,a78,d78,a79,d79,a80,d80,a81,d81,a82,d82,a83,d83,a84,d84,a85,d85,a86,d86,a87,d87,a88,d88,a89,d89,a90,d90,a91,d91,a92,d92,a93,d93,a94,d94,a95,d95,a96,d96,a97,d97,a98,d98,b0,b1,b2,b3,b4,b5,b6,b7,e12,e65⟩):∃A:Ad,Txt K mg A:=⟨_,t⟩
theorem OX{K:PySem.W.Frag}{C:Addr}{f:Str}(n:PySem.W.findIn K (.ref C) f=some none):jb K C f:=n
end KK
open PySem PySem.W PyProof.Rows
set_option maxRecDepth 100000 in
set_option maxHeartbeats 0 in
theorem PySem.Challenge.cw_wholekitchen_s01_answers_holds : PySem.Challenge.rw_wholekitchen_s01_answers.Holds := by
 refine KK.hd ?_
 k_fillS
 refine L2.nM (r:=PySem.Challenge.rw_wholekitchen_s01_answers) (k:=20) (CX:=L2.nc) (ps:=["calls"]) (sp:=KK.mZ) KK.ws rfl rfl ⟨rfl,by decide,by decide⟩ (λw h Y=>PySem.W.kIn_of Y) ?F ?S (λ_ _ _ _ z=>z);case F=>
  intro w mg fa h Y KX G hmg;have T:∃A:KK.Ad,KK.Txt (L2.tZ KX) mg A:=by
   dsimp only[L2.tZ];refine' KK.UW ?T;case T=>
    constructor;all_goals try dsimp only
    case rK=>exact PySem.W.mg_of KX G (by k_is)
    case XE=>exact⟨by k_is,by k_is,by k_is,by k_is⟩
    case wR=>exact PySem.W.mg_of KX G (by k_is)
    case wK=>exact⟨by k_is,by k_is,by k_is,by k_is⟩
    case xR=>exact PySem.W.mg_of KX G (by k_is)
    case YM=>exact⟨by k_is,by k_is,by k_is,by k_is⟩
    case uH=>exact PySem.W.mg_of KX G (by k_is)
    case dD=>exact⟨by k_is,by k_is,by k_is,by k_is⟩
    case iz=>exact PySem.W.mg_of KX G (by k_is)
    case Cs=>exact⟨by k_is,by k_is,by k_is,by k_is⟩
    case VE=>exact PySem.W.mg_of KX G (by k_is)
    case mz=>exact⟨by k_is,by k_is,by k_is,by k_is⟩
    case UE=>exact PySem.W.mg_of KX G (by k_is)
    case kz=>exact⟨by k_is,by k_is,by k_is,by k_is⟩
    case ZC=>exact PySem.W.mg_of KX G (by k_is)
    case lz=>exact⟨by k_is,by k_is,by k_is,by k_is⟩
    case La=>exact KK.Sa KX G (by k_is) (by k_is) (by k_is) (by k_is) (λ_ _ _ _ _ _=>L2.zA λ_=>rfl)
    case Of=>exact KK.Sa KX G (by k_is) (by k_is) (by k_is) (by k_is) (λ_ _ _ _ _ _=>L2.zA λ_=>rfl)
    case jc=>exact KK.Sa KX G (by k_is) (by k_is) (by k_is) (by k_is) (λ_ _ _ _ _ _=>L2.ij λ_ _=>rfl)
    case Jt=>exact KK.Sa KX G (by k_is) (by k_is) (by k_is) (by k_is) (λ_ _ _ _ _ _=>L2.zA λ_=>rfl)
    case Zn=>exact KK.Sa KX G (by k_is) (by k_is) (by k_is) (by k_is) (λ_ _ _ _ _ _=>L2.zA λ_=>rfl)
    case jq=>exact KK.Sa KX G (by k_is) (by k_is) (by k_is) (by k_is) (λ_ _ _ _ _ _=>L2.zA λ_=>rfl)
    case Xn=>exact KK.Sa KX G (by k_is) (by k_is) (by k_is) (by k_is) (λ_ _ _ _ _ _=>L2.zA λ_=>rfl)
    case Qg=>exact KK.Sa KX G (by k_is) (by k_is) (by k_is) (by k_is) (λ_ _ _ _ _ _=>L2.ij λ_ _=>rfl)
    case Bu=>exact L2.mj (by k_is) (by k_is) (by k_is)
    case km=>exact L2.Binds.all (L2.vZ λ_ _ _ _ _ _=>rfl)
    case ox=>exact L2.mj (by k_is) (by k_is) (by k_is)
    case iq=>exact L2.Binds.all (L2.oT λ_ _ _ _=>rfl)
    case Du=>exact L2.mj (by k_is) (by k_is) (by k_is)
    case Iu=>exact L2.Binds.all (L2.uY λ_ _ _ _ _=>rfl)
    case cp=>exact L2.mj (by k_is) (by k_is) (by k_is)
    case ip=>exact L2.Binds.all (L2.oT λ_ _ _ _=>rfl)
    case Cu=>exact L2.mj (by k_is) (by k_is) (by k_is)
    case Pg=>exact L2.Binds.all (L2.vZ λ_ _ _ _ _ _=>rfl)
    case gr=>exact L2.mj (by k_is) (by k_is) (by k_is)
    case ik=>exact L2.Binds.all (L2.oT λ_ _ _ _=>rfl)
    case Ph=>exact KK.Sa KX G (by k_is) (by k_is) (by k_is) (by k_is) (λ_ _ _ _ _ _=>L2.zA λ_=>rfl)
    case Gd=>exact KK.Sa KX G (by k_is) (by k_is) (by k_is) (by k_is) (λ_ _ _ _ _ _=>L2.zA λ_=>rfl)
    case Hd=>exact KK.Sa KX G (by k_is) (by k_is) (by k_is) (by k_is) (λ_ _ _ _ _ _=>L2.zA λ_=>rfl)
    case Pd=>exact KK.Sa KX G (by k_is) (by k_is) (by k_is) (by k_is) (λ_ _ _ _ _ _=>L2.ij λ_ _=>rfl)
    case Ud=>exact KK.Sa KX G (by k_is) (by k_is) (by k_is) (by k_is) (λ_ _ _ _ _ _=>L2.zA λ_=>rfl)
    case zq=>exact KK.Sa KX G (by k_is) (by k_is) (by k_is) (by k_is) (λ_ _ _ _ _ _=>L2.zA λ_=>rfl)
    case fj=>exact KK.Sa KX G (by k_is) (by k_is) (by k_is) (by k_is) (λ_ _ _ _ _ _=>L2.ij λ_ _=>rfl)
    case zm=>exact KK.Sa KX G (by k_is) (by k_is) (by k_is) (by k_is) (λ_ _ _ _ _ _=>L2.mE λ_ _ _=>rfl)
    case lq=>exact KK.Sa KX G (by k_is) (by k_is) (by k_is) (by k_is) (λ_ _ _ _ _ _=>L2.ij λ_ _=>rfl)
    case ym=>exact KK.Sa KX G (by k_is) (by k_is) (by k_is) (by k_is) (λ_ _ _ _ _ _=>L2.ij λ_ _=>rfl)
    case wm=>exact KK.Sa KX G (by k_is) (by k_is) (by k_is) (by k_is) (λ_ _ _ _ _ _=>L2.mE λ_ _ _=>rfl)
    case dj=>exact KK.Sa KX G (by k_is) (by k_is) (by k_is) (by k_is) (λ_ _ _ _ _ _=>L2.ij λ_ _=>rfl)
    case qh=>exact KK.Sa KX G (by k_is) (by k_is) (by k_is) (by k_is) (λ_ _ _ _ _ _=>L2.ij λ_ _=>rfl)
    case Kt=>exact KK.Sa KX G (by k_is) (by k_is) (by k_is) (by k_is) (λ_ _ _ _ _ _=>L2.ij λ_ _=>rfl)
    case Ke=>exact KK.Sa KX G (by k_is) (by k_is) (by k_is) (by k_is) (λ_ _ _ _ _ _=>L2.ij λ_ _=>rfl)
    case uk=>exact KK.Sa KX G (by k_is) (by k_is) (by k_is) (by k_is) (λ_ _ _ _ _ _=>L2.ij λ_ _=>rfl)
    case Vw=>exact KK.Sa KX G (by k_is) (by k_is) (by k_is) (by k_is) (λ_ _ _ _ _ _=>L2.mE λ_ _ _=>rfl)
    case Et=>exact KK.Sa KX G (by k_is) (by k_is) (by k_is) (by k_is) (λ_ _ _ _ _ _=>L2.mE λ_ _ _=>rfl)
    case xq=>exact KK.Sa KX G (by k_is) (by k_is) (by k_is) (by k_is) (λ_ _ _ _ _ _=>L2.ij λ_ _=>rfl)
    case xt=>exact KK.Sa KX G (by k_is) (by k_is) (by k_is) (by k_is) (λ_ _ _ _ _ _=>L2.ij λ_ _=>rfl)
    case vq=>exact KK.Sa KX G (by k_is) (by k_is) (by k_is) (by k_is) (λ_ _ _ _ _ _=>L2.oT λ_ _ _ _=>rfl)
    case og=>exact KK.Sa KX G (by k_is) (by k_is) (by k_is) (by k_is) (λ_ _ _ _ _ _=>L2.ij λ_ _=>rfl)
    case qr=>exact KK.Sa KX G (by k_is) (by k_is) (by k_is) (by k_is) (λ_ _ _ _ _ _=>L2.mE λ_ _ _=>rfl)
    case Je=>exact KK.Sa KX G (by k_is) (by k_is) (by k_is) (by k_is) (λ_ _ _ _ _ _=>L2.mE λ_ _ _=>rfl)
    case De=>exact KK.Sa KX G (by k_is) (by k_is) (by k_is) (by k_is) (λ_ _ _ _ _ _=>L2.mE λ_ _ _=>rfl)
    case Zc=>exact KK.Sa KX G (by k_is) (by k_is) (by k_is) (by k_is) (λ_ _ _ _ _ _=>L2.ij λ_ _=>rfl)
    case Dt=>exact KK.Sa KX G (by k_is) (by k_is) (by k_is) (by k_is) (λ_ _ _ _ _ _=>L2.uY λ_ _ _ _ _=>rfl)
    case Ct=>exact KK.Sa KX G (by k_is) (by k_is) (by k_is) (by k_is) (λ_ _ _ _ _ _=>L2.oT λ_ _ _ _=>rfl)
    case qm=>exact KK.Sa KX G (by k_is) (by k_is) (by k_is) (by k_is) (λ_ _ _ _ _ _=>L2.mE λ_ _ _=>rfl)
    case tm=>exact KK.Sa KX G (by k_is) (by k_is) (by k_is) (by k_is) (λ_ _ _ _ _ _=>L2.ij λ_ _=>rfl)
    case Bt=>exact KK.Sa KX G (by k_is) (by k_is) (by k_is) (by k_is) (λ_ _ _ _ _ _=>L2.ij λ_ _=>rfl)
    case dr=>exact L2.mj (by k_is) (by k_is) (by k_is)
    case gk=>exact L2.Binds.all (L2.zA λ_=>rfl)
    case oh=>exact KK.Sa KX G (by k_is) (by k_is) (by k_is) (by k_is) (λ_ _ _ _ _ _=>L2.zA λ_=>rfl)
    case Ht=>exact KK.Sa KX G (by k_is) (by k_is) (by k_is) (by k_is) (λ_ _ _ _ _ _=>L2.ij λ_ _=>rfl)
    case Qh=>exact KK.Sa KX G (by k_is) (by k_is) (by k_is) (by k_is) (λ_ _ _ _ _ _=>L2.oT λ_ _ _ _=>rfl)
    case bj=>exact KK.Sa KX G (by k_is) (by k_is) (by k_is) (by k_is) (λ_ _ _ _ _ _=>L2.uY λ_ _ _ _ _=>rfl)
    case yq=>exact KK.Sa KX G (by k_is) (by k_is) (by k_is) (by k_is) (λ_ _ _ _ _ _=>L2.uY λ_ _ _ _ _=>rfl)
    case rk=>exact KK.Sa KX G (by k_is) (by k_is) (by k_is) (by k_is) (λ_ _ _ _ _ _=>L2.mE λ_ _ _=>rfl)
    case qk=>exact KK.Sa KX G (by k_is) (by k_is) (by k_is) (by k_is) (λ_ _ _ _ _ _=>L2.ij λ_ _=>rfl)
    case kq=>exact KK.Sa KX G (by k_is) (by k_is) (by k_is) (by k_is) (λ_ _ _ _ _ _=>L2.mE λ_ _ _=>rfl)
    case Ft=>exact KK.Sa KX G (by k_is) (by k_is) (by k_is) (by k_is) (λ_ _ _ _ _ _=>L2.mE λ_ _ _=>rfl)
    case qt=>exact KK.Sa KX G (by k_is) (by k_is) (by k_is) (by k_is) (λ_ _ _ _ _ _=>L2.mE λ_ _ _=>rfl)
    case Ff=>exact KK.Sa KX G (by k_is) (by k_is) (by k_is) (by k_is) (λ_ _ _ _ _ _=>L2.ij λ_ _=>rfl)
    case Pf=>exact KK.Sa KX G (by k_is) (by k_is) (by k_is) (by k_is) (λ_ _ _ _ _ _=>L2.ij λ_ _=>rfl)
    case um=>exact KK.Sa KX G (by k_is) (by k_is) (by k_is) (by k_is) (λ_ _ _ _ _ _=>L2.ij λ_ _=>rfl)
    case Nf=>exact KK.Sa KX G (by k_is) (by k_is) (by k_is) (by k_is) (λ_ _ _ _ _ _=>L2.oT λ_ _ _ _=>rfl)
    case yt=>exact KK.Sa KX G (by k_is) (by k_is) (by k_is) (by k_is) (λ_ _ _ _ _ _=>L2.mE λ_ _ _=>rfl)
    case rq=>exact KK.Sa KX G (by k_is) (by k_is) (by k_is) (by k_is) (λ_ _ _ _ _ _=>L2.mE λ_ _ _=>rfl)
    case Fx=>exact KK.Sa KX G (by k_is) (by k_is) (by k_is) (by k_is) (λ_ _ _ _ _ _=>L2.oT λ_ _ _ _=>rfl)
    case wq=>exact KK.Sa KX G (by k_is) (by k_is) (by k_is) (by k_is) (λ_ _ _ _ _ _=>L2.zA λ_=>rfl)
    case Jx=>exact KK.Sa KX G (by k_is) (by k_is) (by k_is) (by k_is) (λ_ _ _ _ _ _=>L2.ij λ_ _=>rfl)
    case Kx=>exact KK.Sa KX G (by k_is) (by k_is) (by k_is) (by k_is) (λ_ _ _ _ _ _=>L2.ij λ_ _=>rfl)
    case rm=>exact KK.Sa KX G (by k_is) (by k_is) (by k_is) (by k_is) (λ_ _ _ _ _ _=>L2.ij λ_ _=>rfl)
    case Dx=>exact KK.Sa KX G (by k_is) (by k_is) (by k_is) (by k_is) (λ_ _ _ _ _ _=>L2.zA λ_=>rfl)
    case vt=>exact KK.Sa KX G (by k_is) (by k_is) (by k_is) (by k_is) (λ_ _ _ _ _ _=>L2.ij λ_ _=>rfl)
    case gm=>exact L2.mj (by k_is) (by k_is) (by k_is)
    case mm=>exact L2.Binds.all (L2.zA λ_=>rfl)
    case nk=>exact KK.Sa KX G (by k_is) (by k_is) (by k_is) (by k_is) (λ_ _ _ _ _ _=>L2.ij λ_ _=>rfl)
    case cj=>exact KK.Sa KX G (by k_is) (by k_is) (by k_is) (by k_is) (λ_ _ _ _ _ _=>L2.ij λ_ _=>rfl)
    case ot=>exact KK.Sa KX G (by k_is) (by k_is) (by k_is) (by k_is) (λ_ _ _ _ _ _=>L2.zA λ_=>rfl)
    case mq=>exact KK.Sa KX G (by k_is) (by k_is) (by k_is) (by k_is) (λ_ _ _ _ _ _=>L2.zA λ_=>rfl)
    case sk=>exact KK.Sa KX G (by k_is) (by k_is) (by k_is) (by k_is) (λ_ _ _ _ _ _=>L2.zA λ_=>rfl)
    case uq=>exact KK.Sa KX G (by k_is) (by k_is) (by k_is) (by k_is) (λ_ _ _ _ _ _=>L2.zA λ_=>rfl)
    case Ex=>exact KK.Sa KX G (by k_is) (by k_is) (by k_is) (by k_is) (λ_ _ _ _ _ _=>L2.mE λ_ _ _=>rfl)
    case vm=>exact KK.Sa KX G (by k_is) (by k_is) (by k_is) (by k_is) (λ_ _ _ _ _ _=>L2.ij λ_ _=>rfl)
    case Yn=>exact KK.Sa KX G (by k_is) (by k_is) (by k_is) (by k_is) (λ_ _ _ _ _ _=>L2.mE λ_ _ _=>rfl)
    case ie=>exact KK.Sa KX G (by k_is) (by k_is) (by k_is) (by k_is) (λ_ _ _ _ _ _=>L2.ij λ_ _=>rfl)
    case CJ=>exact KK.Sa KX G (by k_is) (by k_is) (by k_is) (by k_is) (λ_ _ _ _ _ _=>L2.ij λ_ _=>rfl)
    case pq=>exact KK.Sa KX G (by k_is) (by k_is) (by k_is) (by k_is) (λ_ _ _ _ _ _=>L2.mE λ_ _ _=>rfl)
    case zt=>exact KK.Sa KX G (by k_is) (by k_is) (by k_is) (by k_is) (λ_ _ _ _ _ _=>L2.ij λ_ _=>rfl)
    case wt=>exact KK.Sa KX G (by k_is) (by k_is) (by k_is) (by k_is) (λ_ _ _ _ _ _=>L2.ij λ_ _=>rfl)
    case fe=>exact KK.Sa KX G (by k_is) (by k_is) (by k_is) (by k_is) (λ_ _ _ _ _ _=>L2.mE λ_ _ _=>rfl)
    case tq=>exact KK.Sa KX G (by k_is) (by k_is) (by k_is) (by k_is) (λ_ _ _ _ _ _=>L2.mE λ_ _ _=>rfl)
    case oq=>exact KK.Sa KX G (by k_is) (by k_is) (by k_is) (by k_is) (λ_ _ _ _ _ _=>L2.oT λ_ _ _ _=>rfl)
    case Gx=>exact KK.Sa KX G (by k_is) (by k_is) (by k_is) (by k_is) (λ_ _ _ _ _ _=>L2.zA λ_=>rfl)
    case Rh=>exact KK.Sa KX G (by k_is) (by k_is) (by k_is) (by k_is) (λ_ _ _ _ _ _=>L2.ij λ_ _=>rfl)
    case Ce=>exact KK.Sa KX G (by k_is) (by k_is) (by k_is) (by k_is) (λ_ _ _ _ _ _=>L2.ij λ_ _=>rfl)
    case Gf=>exact KK.Sa KX G (by k_is) (by k_is) (by k_is) (by k_is) (λ_ _ _ _ _ _=>L2.ij λ_ _=>rfl)
    case Be=>exact KK.Sa KX G (by k_is) (by k_is) (by k_is) (by k_is) (λ_ _ _ _ _ _=>L2.ij λ_ _=>rfl)
    case Hf=>exact KK.Sa KX G (by k_is) (by k_is) (by k_is) (by k_is) (λ_ _ _ _ _ _=>L2.ij λ_ _=>rfl)
    case Ae=>exact KK.Sa KX G (by k_is) (by k_is) (by k_is) (by k_is) (λ_ _ _ _ _ _=>L2.ij λ_ _=>rfl)
    case ze=>exact KK.Sa KX G (by k_is) (by k_is) (by k_is) (by k_is) (λ_ _ _ _ _ _=>L2.ij λ_ _=>rfl)
    case vk=>exact KK.Sa KX G (by k_is) (by k_is) (by k_is) (by k_is) (λ_ _ _ _ _ _=>L2.ij λ_ _=>rfl)
    case Mf=>exact KK.Sa KX G (by k_is) (by k_is) (by k_is) (by k_is) (λ_ _ _ _ _ _=>L2.ij λ_ _=>rfl)
    case om=>exact KK.Sa KX G (by k_is) (by k_is) (by k_is) (by k_is) (λ_ _ _ _ _ _=>L2.ij λ_ _=>rfl)
    case Wn=>exact KK.Sa KX G (by k_is) (by k_is) (by k_is) (by k_is) (λ_ _ _ _ _ _=>L2.zA λ_=>rfl)
    case Kd=>exact PySem.W.mg_of KX G (by k_is)
    case Yb=>exact KK.SX (by k_is) (by decide) (.cons ⟨_,rfl⟩ (.cons ⟨_,rfl⟩ (.cons ⟨_,rfl⟩ .nil)))
    case Hl=>exact PySem.W.mg_of KX G (by k_is)
    case Ml=>exact KK.SX (by k_is) (by decide) (.cons ⟨_,rfl⟩ (.cons ⟨_,rfl⟩ (.cons ⟨_,rfl⟩ (.cons ⟨_,rfl⟩ (.cons ⟨_,rfl⟩ (.cons ⟨_,rfl⟩ (.cons ⟨_,rfl⟩ (.cons ⟨_,rfl⟩ (.cons ⟨_,rfl⟩ (.cons ⟨_,rfl⟩ (.cons ⟨_,rfl⟩ (.cons ⟨_,rfl⟩ (.cons ⟨_,rfl⟩ (.cons ⟨_,rfl⟩ (.cons ⟨_,rfl⟩ (.cons ⟨_,rfl⟩ (.cons ⟨_,rfl⟩ (.cons ⟨_,rfl⟩ (.cons ⟨_,rfl⟩ (.cons ⟨_,rfl⟩ (.cons ⟨_,rfl⟩ (.cons ⟨_,rfl⟩ (.cons ⟨_,rfl⟩ (.cons ⟨_,rfl⟩ (.cons ⟨_,rfl⟩ (.cons ⟨_,rfl⟩ (.cons ⟨_,rfl⟩ (.cons ⟨_,rfl⟩ .nil))))))))))))))))))))))))))))
    all_goals first|exact PySem.W.mg_none_of KX G (by k_is)|exact⟨_,PySem.W.mg_of KX G (by k_is)⟩|exact KK.OX (by k_is)|exact⟨by k_is,by k_is,by k_is,by k_is⟩|exact⟨by k_is,by k_is⟩
  exact KK.AX T hmg
 case S=>
  intro K H xs a hO hwi hask hx;cases hx with
  |cons h1 h2=>
   cases h2;cases h1 with
   |lst hs ha=>
    have e:=L2.OM a.1 _ ha;subst e;have q:((Codec.inLen 0 30000 a.1&&a.1.all (Codec.inInt 0 4294967295))&&true)=true:=hwi;rw[Bool.and_eq_true,Bool.and_eq_true] at q;refine⟨_,a.1,rfl,hs,(Codec.inNat_iff.mp q.1.1).2,λx hx=>?_,hask,λH' p hp=>.lst (L2.Ha.of hp) (L2.DM _)⟩;have:=List.all_eq_true.mp q.1.2 x hx;exact Codec.inInt_iff.mp this
