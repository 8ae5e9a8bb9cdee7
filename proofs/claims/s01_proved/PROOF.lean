import PyProof.Rows.All
import Wide.All
import OpenK.AllK
import Wide.FinOn
import PyProof.EqAt
import PyProof.EqKinds
import PyProof.TupleCall
import KE.BitLaws
import Open.SpecLaws
import KE.OsHead
import KE.OsGo
import KE.SpHead
import KE.OsShapes
import PySem.Challenge.RW_lamppanel_s01_answers
set_option Elab.async false
set_option linter.all false
set_option maxRecDepth 100000
set_option maxHeartbeats 0
namespace Lr
open PySem PySem.W PyProof.Rows
abbrev pw:Program:=PySem.Challenge.pw_lamppanel_s01_answers
def Q:Program:={ pw with main:={ pw.main with body:=pw.main.body.filter fun s=>match s with
 |.Assign [.Name x _] _ _=>!(x=="__name__")
 |_=>true } }
noncomputable def bT(P:Params):BT:=.node (boot_o_0 P) (.node (boot_o_1 P) (.node (boot_o_3 P) (.node (boot_o_7 P) .nil .nil) .nil) (.node (boot_o_5 P) (.node (boot_o_9 P) .nil .nil) .nil)) (.node (boot_o_2 P) (.node (boot_o_4 P) (.node (boot_o_8 P) .nil .nil) .nil) (.node (boot_o_6 P) (.node (boot_o_10 P) .nil .nil) .nil))
noncomputable def bS(P:Params)(os:OsState):SharedT:=⟨bT P,11,(boot_heap P).life,⟨[]⟩,boot_drawn,boot_toks,os⟩
theorem bS_abs(P:Params)(os:OsState):(bS P os).abs=⟨boot_heap P,⟨[]⟩,boot_drawn,boot_toks,os⟩:=by kernel_rfl
noncomputable def Rn(w:World)(os:OsState):Option (Flow×SharedT×Code×Pos):=segRunT treeTable pw w 11 (some (.ref 6)) 0 9850 (bS w.params os) (topStub pw)
def Xt(s:Shared):Bool:=xlAt Q [] s&&recOk [] s
abbrev Sn(s:Shared):=openSeen Q [] (importedModules pw.main.body) Xt true s
theorem run1(w:World)(os:OsState):(Rn w os).map (fun r=>((staticsOk (importedModules pw.main.body) (boot_heap w.params) r.2.1.abs.heap&&namesBound pw r.2.1.abs.heap&&gensDone r.2.1.abs&&laidKept (boot_heap w.params) r.2.1.abs.heap),(Sn r.2.1.abs).1,(Sn r.2.1.abs).2.1,(Sn r.2.1.abs).2.2.2.2.1,(Sn r.2.1.abs).2.2.2.2.2.2.1,(Sn r.2.1.abs).2.2.2.2.2.2.2.2))=some (true,expectedOf Q,bltViewBooted,pinGoodD (drecsOf Q),plainGoodD Q [],clsGoodW Q []):=by
 unfold Rn Sn
 rw[Fast.te10110043849684766642,Fast.te14364793385576792824,Fast.te4187177175401517315,Fast.te5923862056798008813]
 kernel_rfl
theorem run2(w:World)(os:OsState):(Rn w os).map (fun r=>(Sn r.2.1.abs).2.2.1)=some true:=by
 unfold Rn Sn
 rw[Fast.te10110043849684766642,Fast.te14364793385576792824,Fast.te4187177175401517315,Fast.te5923862056798008813]
 kernel_rfl
theorem run3(w:World)(os:OsState):(Rn w os).map (fun r=>(Sn r.2.1.abs).2.2.2.2.2.1)=some (plainGoodE Q (looseW Q [])):=by
 unfold Rn Sn
 rw[Fast.te10110043849684766642,Fast.te14364793385576792824,Fast.te4187177175401517315,Fast.te5923862056798008813]
 kernel_rfl
theorem run4(w:World)(os:OsState):(Rn w os).map (fun r=>((Sn r.2.1.abs).2.2.2.1,(Sn r.2.1.abs).2.2.2.2.2.2.2.1))=some (true,wideGood Q):=by
 unfold Rn Sn
 rw[Fast.te10110043849684766642,Fast.te14364793385576792824,Fast.te4187177175401517315,Fast.te5923862056798008813]
 kernel_rfl
theorem boot_size(P:Params):((boot_heap P).isNs mainGlobals&&(⟨[]⟩:Array GenState).size==0,(boot_heap P).objs.size,(boot_heap P).nsMap mainGlobals "__annotations__")=(true,11,some (.ref 6)):=by kernel_rfl
theorem end_some{t:Thread}{f:Flow}(h:endAt 0 t=some f):through t=true:=by
 unfold endAt at h
 unfold through
 split at h
 ·rename_i a b
  rw[b,Bool.and_eq_true]
  exact⟨by rw[List.isEmpty_iff];exact List.length_eq_zero_iff.mp (eq_of_beq a),rfl⟩
 ·cases h
theorem end_none{t:Thread}(h:endAt 0 t=none):through t=false:=by
 unfold endAt at h
 unfold through
 cases ht:t.stack.isEmpty with
 |false=>rfl
 |true =>
  have e:(t.stack.length==0)=true:=by rw[List.isEmpty_iff.mp ht];rfl
  rw[e] at h
  split
  ·rename_i q;rw[q] at h;cases h
  ·rfl
theorem top_of{tb:String->Option Builtin}{p:Program}{w:World}{n₀:Nat}{ann:Option Value}:∀{n:Nat}{s s':Shared}{t:Thread}{f:Flow}{c:Code}{q:Pos},segRun tb p w n₀ ann 0 n s t=some (f,s',c,q)->topRun tb p w n₀ ann n s t=some s'
 |0,_,_,_,_,_,_,h=>by cases h
 |n+1,s,s',t,f,c,q,h=>by
  unfold segRun at h
  unfold topRun
  cases he:endAt 0 t with
  |some x=>rw[he] at h;rw[end_some he];cases h;rfl
  |none =>
   rw[he] at h
   rw[end_none he]
   dsimp only at h ⊢
   split at h
   ·cases h
   ·rename_i ho
    rw[ho]
    dsimp only
    split at h
    ·rename_i s2 t2 hs
     rw[hs]
     exact top_of h
    ·cases h
theorem left_run{p q:Program}{loose:List Str}{Xt:Shared->Bool}{α:Type}{Yf:Shared->α}{Ya:World->α}{N:Nat}(e:opening p=plainProg p.main.scope.names)(le:Nat.ble 600 N=true)(f:∀ s:Shared,fenceModules? p s=some s)(run:∀(w:World)(os:OsState),∃ s,topRun treeTable p w 11 (some (.ref 6)) N ⟨boot_heap w.params,⟨[]⟩,boot_drawn,boot_toks,os⟩ (topStub p)=some s/\(staticsOk (importedModules p.main.body) (boot_heap w.params) s.heap&&namesBound p s.heap&&gensDone s&&laidKept (boot_heap w.params) s.heap)=true/\openSeen q loose (importedModules p.main.body) Xt true s=openGood q loose/\Yf s=Ya w):LeftO p q loose Xt Yf Ya N:=fun w=>by
 obtain⟨⟨hh,gs,d,k,os⟩,e1,e2⟩:=Option.map_eq_some_iff.mp (boot_open e le f w)
 simp only[Prod.mk.injEq] at e2
 obtain⟨rfl,rfl,rfl,rfl⟩:=e2
 obtain⟨s,r,l1,l2,l3⟩:=run w os
 have z:=boot_size w.params
 simp only[Prod.mk.injEq] at z
 obtain⟨z1,z2,z3⟩:=z
 have t:topFrom treeTable p w N ⟨boot_heap w.params,⟨[]⟩,boot_drawn,boot_toks,os⟩=some s:=by
  unfold topFrom
  dsimp only
  rw[z1,z2,z3,r]
  show(match staticsOk (importedModules p.main.body) (boot_heap w.params) s.heap&&namesBound p s.heap&&gensDone s&&laidKept (boot_heap w.params) s.heap with|true=>_|false=>_)=_
  rw[l1]
 unfold openEnds
 rw[e1]
 show(topFrom treeTable p w N _).map _=_
 rw[t]
 exact congrArg some (Prod.ext l2 l3)
theorem left_pw{α:Type}{Yf:Shared->α}{Ya:World->α}(h:∀(w:World)(os:OsState),(Rn w os).map (fun r=>Yf r.2.1.abs)=some (Ya w)):LeftO pw Q [] Xt Yf Ya 9850:=by
 refine left_run (by kernel_rfl) (by decide) (fun _=>by kernel_rfl) fun w os=>?_
 obtain⟨⟨fl,s,c,q⟩,hr,g⟩:=Option.map_eq_some_iff.mp (h w os)
 have r1:=run1 w os
 have r2:=run2 w os
 have r3:=run3 w os
 have r4:=run4 w os
 rw[hr] at r1 r2 r3 r4
 have r1:=Option.some.inj r1
 have r2:=Option.some.inj r2
 have r3:=Option.some.inj r3
 have r4:=Option.some.inj r4
 simp only[Prod.mk.injEq] at r1 r4
 obtain⟨a0,a1,a2,a5,a7,a9⟩:=r1
 refine⟨s.abs,?_,a0,?_,g⟩
 ·rw[<-bS_abs]
  exact top_of (segRun_of hr)
 ·exact Prod.ext a1 (Prod.ext a2 (Prod.ext r2 (Prod.ext r4.1 (Prod.ext a5 (Prod.ext r3 (Prod.ext a7 (Prod.ext r4.2 a9)))))))
end Lr
namespace Lm
open Rung
theorem on_eq(x v:Nat):Rung.State.on x v=x.testBit v:=by
 unfold Rung.State.on
 rw[Nat.testBit_eq_decide_div_mod_eq]
 rw[Bool.eq_iff_iff];simp
theorem ir(a i:Nat):(2 ^ a).testBit i=decide (a=i):=Nat.testBit_two_pow
theorem add_or{x k:Nat}(h:x<2 ^ k):x+2 ^ k=x ||| 2 ^ k:=by
 rw[Nat.or_comm,Nat.add_comm]
 have:=Nat.two_pow_add_eq_or_of_lt (i:=k) h 1
 simpa using this
theorem turn_bit(x k:Nat):(if x.testBit k=true then x-2 ^ k else x+2 ^ k)=x ^^^ 2 ^ k:=by
 have hdm:=Nat.div_add_mod x (2 ^ k)
 have hlt:x % 2 ^ k<2 ^ k:=Nat.mod_lt _ (Nat.two_pow_pos k)
 have key:∀ q r:Nat,r<2 ^ k->2 ^ k * q+r=2 ^ k * q ||| r:=fun q r h=>Nat.two_pow_add_eq_or_of_lt h q
 have hx:∀ q r:Nat,r<2 ^ k->(2 ^ k * q+r) ^^^ 2 ^ k=2 ^ k * (q ^^^ 1)+r:=by
  intro q r hr
  apply Nat.eq_of_testBit_eq
  intro i
  rw[Nat.testBit_xor,key q r hr,key (q ^^^ 1) r hr,Nat.testBit_or,Nat.testBit_or,ir,Nat.testBit_two_pow_mul,Nat.testBit_two_pow_mul]
  by_cases hi:i<k
  ·simp[Nat.not_le.mpr hi,show ¬ k=i by omega]
  ·have hr':r.testBit i=false:=Nat.testBit_lt_two_pow (Nat.lt_of_lt_of_le hr (Nat.pow_le_pow_right (by decide) (by omega)))
   have:k<=i:=by omega
   simp only[this,decide_true,Bool.true_and,hr',Bool.or_false,Nat.testBit_xor]
   congr 1
   by_cases hki:k=i
   ·subst hki;simp
   ·have:¬ i-k=0:=by omega
    obtain⟨j,hj⟩:∃ j,i-k=j+1:=⟨i-k-1,by omega⟩
    rw[hj]
    simp[hki,Nat.testBit_succ]
 have ex:x=2 ^ k * (x / 2 ^ k)+x % 2 ^ k:=hdm.symm
 have htb:x.testBit k=decide (x / 2 ^ k % 2=1):=Nat.testBit_eq_decide_div_mod_eq
 have hr:=hx (x / 2 ^ k) (x % 2 ^ k) hlt
 rw[<-ex] at hr
 rw[hr]
 generalize hq:x / 2 ^ k=q at *
 generalize hm:x % 2 ^ k=r at *
 by_cases hb:q % 2=1
 ·have e1:q ^^^ 1=q-1:=by
   obtain⟨m,hm⟩:∃ m,q=2 * m+1:=⟨q / 2,by omega⟩
   subst hm
   apply Nat.eq_of_testBit_eq;intro i
   cases i with
   |zero=>simp[Nat.testBit_xor]
   |succ i=>rw[Nat.testBit_xor,Nat.testBit_succ,Nat.testBit_succ,Nat.testBit_succ,show(2 * m+1) / 2=m by omega,show(2 * m+1-1) / 2=m by omega,show 1 / 2=0 by decide,Nat.zero_testBit,Bool.xor_false]
  rw[if_pos (by rw[htb];simpa using hb),e1,Nat.mul_sub,Nat.mul_one]
  have:2 ^ k * 1<=2 ^ k * q:=Nat.mul_le_mul_left _ (by omega)
  omega
 ·have e1:q ^^^ 1=q+1:=by
   obtain⟨m,hm⟩:∃ m,q=2 * m:=⟨q / 2,by omega⟩
   subst hm
   apply Nat.eq_of_testBit_eq;intro i
   cases i with
   |zero=>simp[Nat.testBit_xor]
   |succ i=>rw[Nat.testBit_xor,Nat.testBit_succ,Nat.testBit_succ,Nat.testBit_succ,show(2 * m) / 2=m by omega,show(2 * m+1) / 2=m by omega,show 1 / 2=0 by decide,Nat.zero_testBit,Bool.xor_false]
  rw[if_neg (by rw[htb];simpa using hb),e1,Nat.mul_add,Nat.mul_one]
  omega
def jv(s:Scheme):Prop:=∀ c∈s.contacts,c.a<64/\c.b<64
inductive Reach(s:Scheme)(x:Nat):Nat->Prop
 |rail:Reach s x 0
 |up {c:Contact}:c∈s.contacts->c.closed x=true->Reach s x c.a->Reach s x c.b
 |down {c:Contact}:c∈s.contacts->c.closed x=true->Reach s x c.b->Reach s x c.a
def sp1(x:Nat)(m:Nat)(c:Contact):Nat:=if c.closed x=true/\(m.testBit c.a=true\/m.testBit c.b=true) then m ||| 2 ^ c.a ||| 2 ^ c.b else m
def Sub(m n:Nat):Prop:=∀ i,m.testBit i=true->n.testBit i=true
theorem sub_sp1(x m:Nat)(c:Contact):Sub m (sp1 x m c):=by
 intro i h;unfold sp1
 split
 ·simp[Nat.testBit_or,h]
 ·exact h
theorem sub_fold(x:Nat):∀(l:List Contact)(m:Nat),Sub m (l.foldl (sp1 x) m)
 | [],m=>fun _ h=>h
 |c::l,m=>fun i h=>sub_fold x l _ i (sub_sp1 x m c i h)
theorem sub_spread(s:Scheme)(x m:Nat):Sub m (spread s x m):=sub_fold x _ m
theorem sub_antisymm{m n:Nat}(a:Sub m n)(b:Sub n m):m=n:=by
 apply Nat.eq_of_testBit_eq;intro i
 rw[Bool.eq_iff_iff];exact⟨a i,b i⟩
theorem reach_sp1{s:Scheme}{x m:Nat}{c:Contact}(hc:c∈s.contacts)(h:∀ i,m.testBit i=true->Reach s x i):∀ i,(sp1 x m c).testBit i=true->Reach s x i:=by
 intro i hi;unfold sp1 at hi
 split at hi
 ·rename_i hh
  obtain⟨hcl,ho⟩:=hh
  have both:Reach s x c.a/\Reach s x c.b:=by
   rcases ho with ho|ho
   ·exact⟨h _ ho,.up hc hcl (h _ ho)⟩
   ·exact⟨.down hc hcl (h _ ho),h _ ho⟩
  rw[Nat.testBit_or,Nat.testBit_or,ir,ir] at hi
  simp at hi
  rcases hi with(hi|hi)|hi
  ·exact h _ hi
  ·exact hi▸both.1
  ·exact hi▸both.2
 ·exact h i hi
theorem reach_fold{s:Scheme}{x:Nat}:∀(l:List Contact)(m:Nat),(∀ c∈l,c∈s.contacts)->(∀ i,m.testBit i=true->Reach s x i)->∀ i,(l.foldl (sp1 x) m).testBit i=true->Reach s x i
 | [],_,_,h=>h
 |c::l,m,hs,h=>reach_fold l _ (fun d hd=>hs d (List.mem_cons_of_mem _ hd)) (reach_sp1 (hs c List.mem_cons_self) h)
theorem reach_rounds{s:Scheme}{x:Nat}:∀(k m:Nat),(∀ i,m.testBit i=true->Reach s x i)->∀ i,(rounds s x k m).testBit i=true->Reach s x i
 |0,_,h=>h
 |k+1,m,h=>reach_rounds k _ (reach_fold _ m (fun _ hc=>hc) h)
theorem sub_rounds{s:Scheme}{x:Nat}:∀(k m:Nat),Sub m (rounds s x k m)
 |0,_=>fun _ h=>h
 |k+1,m=>fun i h=>sub_rounds k _ i (sub_spread s x m i h)
def cnt(m:Nat):Nat:=((List.range 64).filter fun i=>m.testBit i).length
theorem cnt_le(m:Nat):cnt m<=64:=by
 have:=List.length_filter_le (fun i=>m.testBit i) (List.range 64)
 simpa[cnt] using this
theorem filter_len_le{α:Type}(p q:α->Bool):∀(l:List α),(∀ i∈l,p i=true->q i=true)->(l.filter p).length<=(l.filter q).length
 | [],_=>Nat.le_refl _
 |a::l,h=>by
  have ih:=filter_len_le p q l fun i hi=>h i (List.mem_cons_of_mem _ hi)
  rw[List.filter_cons,List.filter_cons]
  by_cases hp:p a=true
  ·rw[if_pos hp,if_pos (h a List.mem_cons_self hp)];simpa using ih
  ·rw[if_neg hp]
   split
   ·simp;omega
   ·exact ih
theorem filter_len_lt{α:Type}(p q:α->Bool):∀(l:List α),(∀ i∈l,p i=true->q i=true)->(∃ i∈l,q i=true/\p i=false)->(l.filter p).length<(l.filter q).length
 | [],_,⟨_,h,_⟩=>nomatch h
 |a::l,h,⟨i,hi,hq,hp⟩=>by
  rw[List.filter_cons,List.filter_cons]
  rcases List.mem_cons.mp hi with rfl|hi
  ·rw[if_neg (by simp[hp]),if_pos hq]
   have:=filter_len_le p q l fun i hi=>h i (List.mem_cons_of_mem _ hi)
   simp;omega
  ·have ih:=filter_len_lt p q l (fun i hi=>h i (List.mem_cons_of_mem _ hi)) ⟨i,hi,hq,hp⟩
   by_cases hpa:p a=true
   ·rw[if_pos hpa,if_pos (h a List.mem_cons_self hpa)];simpa using ih
   ·rw[if_neg hpa]
    split
    ·simp;omega
    ·exact ih
def Low(m:Nat):Prop:=∀ i,m.testBit i=true->i<64
theorem low_sp1{x m:Nat}{c:Contact}(h:Low m)(hc:c.a<64/\c.b<64):Low (sp1 x m c):=by
 intro i hi;unfold sp1 at hi
 split at hi
 ·rw[Nat.testBit_or,Nat.testBit_or,ir,ir] at hi
  simp at hi
  rcases hi with(hi|hi)|hi
  ·exact h _ hi
  ·omega
  ·omega
 ·exact h i hi
theorem low_fold{x:Nat}:∀(l:List Contact)(m:Nat),(∀ c∈l,c.a<64/\c.b<64)->Low m->Low (l.foldl (sp1 x) m)
 | [],_,_,h=>h
 |c::l,m,hs,h=>low_fold l _ (fun d hd=>hs d (List.mem_cons_of_mem _ hd)) (low_sp1 h (hs c List.mem_cons_self))
theorem cnt_lt{m n:Nat}(hs:Sub m n)(hn:Low n)(hne:n≠m):cnt m<cnt n:=by
 refine filter_len_lt _ _ _ (fun i _ h=>hs i h) ?_
 have:¬ Sub n m:=fun h=>hne (sub_antisymm h hs)
 unfold Sub at this
 obtain⟨i,hi⟩:=Classical.not_forall.mp this
 obtain⟨h1,h2⟩:=Classical.not_imp.mp hi
 exact⟨i,List.mem_range.mpr (hn i h1),h1,by simpa using h2⟩
theorem rounds_fix{s:Scheme}{x m:Nat}(h:spread s x m=m):∀ k,rounds s x k m=m
 |0=>rfl
 |k+1=>by show rounds s x k (spread s x m)=m;rw[h];exact rounds_fix h k
theorem rounds_grow{s:Scheme}{x:Nat}(ok:jv s):∀(k m:Nat),Low m->spread s x (rounds s x k m)=rounds s x k m\/cnt m+k<=cnt (rounds s x k m)
 |0,m,_=>.inr (Nat.le_refl _)
 |k+1,m,hl=>by
  by_cases h:spread s x m=m
  ·left
   show spread s x (rounds s x k (spread s x m))=rounds s x k (spread s x m)
   rw[h,rounds_fix h k,h]
  ·have hl':Low (spread s x m):=low_fold _ m ok hl
   have hc:=cnt_lt (sub_spread s x m) hl' h
   rcases rounds_grow ok k (spread s x m) hl' with r|r
   ·exact .inl r
   ·right
    show cnt m+(k+1)<=cnt (rounds s x k (spread s x m))
    omega
theorem low_one:Low 1:=by
 intro i h
 have:i=0:=by
  cases i with
  |zero=>rfl
  |succ i=>simp[Nat.testBit_succ] at h
 omega
theorem live_fix{s:Scheme}(x:Nat)(ok:jv s):spread s x (liveNodes s x)=liveNodes s x:=by
 rcases rounds_grow (x:=x) ok 64 1 low_one with r|r
 ·exact r
 ·have h1:cnt 1=1:=by decide
  have:=cnt_le (rounds s x 64 1)
  omega
theorem fold_fix{x:Nat}:∀(l:List Contact)(m:Nat),l.foldl (sp1 x) m=m->∀ c∈l,sp1 x m c=m
 | [],_,_,_,h=>nomatch h
 |d::l,m,h,c,hc=>by
  have h':l.foldl (sp1 x) (sp1 x m d)=m:=h
  have e1:sp1 x m d=m:=by
   refine sub_antisymm ?_ (sub_sp1 x m d)
   intro i hi
   have:=sub_fold x l (sp1 x m d) i hi
   rwa[h'] at this
  rcases List.mem_cons.mp hc with rfl|hc
  ·exact e1
  ·rw[e1] at h'
   exact fold_fix l m h' c hc
theorem live_iff{s:Scheme}{x:Nat}(ok:jv s)(i:Nat):(liveNodes s x).testBit i=true<->Reach s x i:=by
 constructor
 ·refine reach_rounds 64 1 (fun i h=>?_) i
  have:i=0:=by
   cases i with
   |zero=>rfl
   |succ i=>simp[Nat.testBit_succ] at h
  subst this;exact .rail
 ·intro h
  have fx:=fold_fix s.contacts (liveNodes s x) (live_fix x ok)
  have step:∀ c∈s.contacts,c.closed x=true->((liveNodes s x).testBit c.a=true\/(liveNodes s x).testBit c.b=true)->(liveNodes s x).testBit c.a=true/\(liveNodes s x).testBit c.b=true:=by
   intro c hc hcl ho
   have e:=fx c hc
   unfold sp1 at e
   rw[if_pos ⟨hcl,ho⟩] at e
   rw[<-e]
   simp[Nat.testBit_or,ir]
  induction h with
  |rail=>exact sub_rounds 64 1 0 (by decide)
  |up hc hcl _ ih=>exact(step _ hc hcl (.inl ih)).2
  |down hc hcl _ ih=>exact(step _ hc hcl (.inr ih)).1
def nbs(cs:List Contact)(x n:Nat):List Nat:=cs.flatMap fun c=>if c.closed x=true then (if c.a=n then [c.b] else if c.b=n then [c.a] else []) else []
theorem nbs_snoc(cs:List Contact)(c:Contact)(x n:Nat):nbs (cs++[c]) x n=nbs cs x n++(if c.closed x=true then (if c.a=n then [c.b] else if c.b=n then [c.a] else []) else []):=by
 unfold nbs;rw[List.flatMap_append];simp
theorem mem_nbs{cs:List Contact}{x n o:Nat}:o∈nbs cs x n<->∃ c∈cs,c.closed x=true/\((c.a=n/\c.b=o)\/(c.b=n/\c.a=o)):=by
 unfold nbs
 rw[List.mem_flatMap]
 constructor
 ·rintro⟨c,hc,h⟩
  by_cases hcl:c.closed x=true
  ·rw[if_pos hcl] at h
   by_cases ha:c.a=n
   ·rw[if_pos ha] at h;simp at h;exact⟨c,hc,hcl,.inl ⟨ha,h.symm⟩⟩
   ·rw[if_neg ha] at h
    by_cases hb:c.b=n
    ·rw[if_pos hb] at h;simp at h;exact⟨c,hc,hcl,.inr ⟨hb,h.symm⟩⟩
    ·rw[if_neg hb] at h;simp at h
  ·rw[if_neg hcl] at h;simp at h
 ·rintro⟨c,hc,hcl,h⟩
  refine⟨c,hc,?_⟩
  rw[if_pos hcl]
  rcases h with⟨h1,h2⟩|⟨h1,h2⟩
  ·rw[if_pos h1];simp[h2]
  ·by_cases ha:c.a=n
   ·rw[if_pos ha];simp;omega
   ·rw[if_neg ha,if_pos h1];simp[h2]
theorem nbs_lt{s:Scheme}{x n o:Nat}(ok:jv s)(h:o∈nbs s.contacts x n):o<64:=by
 obtain⟨c,hc,_,h⟩:=mem_nbs.mp h
 have:=ok c hc
 omega
theorem nbs_reach{s:Scheme}{x n o:Nat}(h:o∈nbs s.contacts x n)(hn:Reach s x n):Reach s x o:=by
 obtain⟨c,hc,hcl,h⟩:=mem_nbs.mp h
 rcases h with⟨rfl,rfl⟩|⟨rfl,rfl⟩
 ·exact .up hc hcl hn
 ·exact .down hc hcl hn
def vis(p:List Bool×List Nat)(o:Nat):List Bool×List Nat:=if p.1.getD o false=true then p else (p.1.set o true,p.2++[o])
def falses(l:List Bool):Nat:=(l.filter fun b=>!b).length
def ka(p:List Bool×List Nat):Nat:=2 * falses p.1+p.2.length
structure Dfs(s:Scheme)(x:Nat)(live:List Bool)(st:List Nat):Prop where
 len:live.length=64
 snd:∀ i,live.getD i false=true->Reach s x i
 stk:∀ n∈st,n<64/\live.getD n false=true
 rail:live.getD 0 false=true
 cl:∀ n,live.getD n false=true->n∉st->∀ o∈nbs s.contacts x n,live.getD o false=true
structure Mid(s:Scheme)(x:Nat)(node:Nat)(pre:List Nat)(live:List Bool)(st:List Nat):Prop where
 len:live.length=64
 snd:∀ i,live.getD i false=true->Reach s x i
 stk:∀ n∈st,n<64/\live.getD n false=true
 rail:live.getD 0 false=true
 me:live.getD node false=true
 cl:∀ n,n≠node->live.getD n false=true->n∉st->∀ o∈nbs s.contacts x n,live.getD o false=true
 clm:∀ o∈pre,live.getD o false=true
theorem getD_set(l:List Bool)(o i:Nat):(l.set o true).getD i false=if i=o/\o<l.length then true else l.getD i false:=by
 rw[List.getD_eq_getElem?_getD,List.getD_eq_getElem?_getD,List.getElem?_set]
 by_cases h:o=i
 ·subst h
  by_cases hl:o<l.length
  ·simp[hl]
  ·simp[hl]
 ·have:¬ i=o:=fun e=>h e.symm
  simp[h,this]
theorem falses_set:∀(l:List Bool)(o:Nat),o<l.length->l.getD o false=false->falses (l.set o true)+1=falses l
 | [],o,h,_=>by simp at h
 |b::l,0,_,h=>by
  have:b=false:=by simpa using h
  subst this;simp[falses]
 |b::l,o+1,h,hf=>by
  have ih:=falses_set l o (by simpa using h) (by simpa using hf)
  cases b<;>simp[falses] at ih ⊢<;>omega
theorem mid_step{s:Scheme}{x node:Nat}{pre:List Nat}{p:List Bool×List Nat}{o:Nat}(ok:jv s)(m:Mid s x node pre p.1 p.2)(ho:o∈nbs s.contacts x node):Mid s x node (pre++[o]) (vis p o).1 (vis p o).2/\ka (vis p o)<=ka p:=by
 have hlt:=nbs_lt ok ho
 unfold vis
 by_cases h:p.1.getD o false=true
 ·rw[if_pos h]
  refine⟨⟨m.len,m.snd,m.stk,m.rail,m.me,m.cl,fun q hq=>?_⟩,Nat.le_refl _⟩
  rcases List.mem_append.mp hq with hq|hq
  ·exact m.clm q hq
  ·simp at hq;subst hq;exact h
 ·rw[if_neg h]
  have mono:∀ i,p.1.getD i false=true->(p.1.set o true).getD i false=true:=fun i hi=>by rw[getD_set];split<;>simp_all
  have here:(p.1.set o true).getD o false=true:=by rw[getD_set,if_pos ⟨rfl,by rw[m.len];exact hlt⟩]
  refine⟨⟨by simp[m.len],fun i hi=>?_,fun n hn=>?_,mono _ m.rail,mono _ m.me,fun n hne hn hns q hq=>?_,fun q hq=>?_⟩,?_⟩
  ·dsimp only at hi
   rw[getD_set] at hi
   split at hi
   ·rename_i he;rw[he.1];exact nbs_reach ho (m.snd _ m.me)
   ·exact m.snd i hi
  ·dsimp only at hn ⊢
   rcases List.mem_append.mp hn with hn|hn
   ·exact⟨(m.stk n hn).1,mono _ (m.stk n hn).2⟩
   ·simp at hn;subst hn;exact⟨hlt,here⟩
  ·dsimp only at hn hns ⊢
   have hno:n≠o:=fun e=>hns (by simp[e])
   have hns':n∉p.2:=fun e=>hns (List.mem_append_left _ e)
   rw[getD_set,if_neg (fun e=>hno e.1)] at hn
   exact mono _ (m.cl n hne hn hns' q hq)
  ·dsimp only
   rcases List.mem_append.mp hq with hq|hq
   ·exact mono _ (m.clm q hq)
   ·simp at hq;subst hq;exact here
  ·have:=falses_set p.1 o (by rw[m.len];exact hlt) (by simpa using h)
   simp[ka];omega
theorem mid_fold{s:Scheme}{x node:Nat}(ok:jv s):∀(post pre:List Nat)(p:List Bool×List Nat),(∀ o∈post,o∈nbs s.contacts x node)->Mid s x node pre p.1 p.2->Mid s x node (pre++post) (post.foldl vis p).1 (post.foldl vis p).2/\ka (post.foldl vis p)<=ka p
 | [],pre,p,_,m=>⟨by simpa using m,Nat.le_refl _⟩
 |o::post,pre,p,h,m=>by
  obtain⟨m1,l1⟩:=mid_step ok m (h o List.mem_cons_self)
  obtain⟨m2,l2⟩:=mid_fold ok post (pre++[o]) (vis p o) (fun q hq=>h q (List.mem_cons_of_mem _ hq)) m1
  rw[List.append_assoc] at m2
  exact⟨m2,Nat.le_trans l2 l1⟩
theorem dfs_turn{s:Scheme}{x node:Nat}{live:List Bool}{st:List Nat}(ok:jv s)(d:Dfs s x live (st++[node])):Dfs s x ((nbs s.contacts x node).foldl vis (live,st)).1 ((nbs s.contacts x node).foldl vis (live,st)).2/\ka ((nbs s.contacts x node).foldl vis (live,st))<ka (live,st++[node]):=by
 have hn:=d.stk node (by simp)
 have m:Mid s x node [] live st:=⟨d.len,d.snd,fun n h=>d.stk n (List.mem_append_left _ h),d.rail,hn.2,fun n hne hl hs=>d.cl n hl (fun h=>by
  rcases List.mem_append.mp h with h|h
  ·exact hs h
  ·simp at h;exact hne h),fun _ h=>nomatch h⟩
 obtain⟨m1,l1⟩:=mid_fold ok (nbs s.contacts x node) [] (live,st) (fun _ h=>h) m
 refine⟨⟨m1.len,m1.snd,m1.stk,m1.rail,fun n hl hs o ho=>?_⟩,?_⟩
 ·by_cases e:n=node
  ·subst e;exact m1.clm o (by simpa using ho)
  ·exact m1.cl n e hl hs o ho
 ·have:ka (live,st++[node])=ka (live,st)+1:=by simp[ka];omega
  omega
theorem vis_len(l:List Nat):∀ p:List Bool×List Nat,(l.foldl vis p).1.length=p.1.length:=by
 induction l with
 |nil=>intro p;rfl
 |cons o l ih=>intro p;rw[List.foldl_cons,ih];unfold vis;split<;>simp
theorem dfs_start{s:Scheme}{x:Nat}:Dfs s x ((List.replicate 64 false).set 0 true) [0]:=by
 have h0:∀ i,((List.replicate 64 false).set 0 true).getD i false=true->i=0:=fun i h=>by
  rw[getD_set] at h
  split at h
  ·rename_i e;exact e.1
  ·rw[List.getD_eq_getElem?_getD,List.getElem?_replicate] at h;split at h<;>simp at h
 refine⟨by simp,fun i h=>by rw[h0 i h];exact .rail,fun n hn=>?_,by decide,fun n hn hs=>?_⟩
 ·have e:n=0:=by simpa using hn
  subst e;exact⟨by decide,by decide⟩
 ·exact absurd (by simp[h0 n hn]) hs
def liveL(s:Scheme)(x:Nat):List Bool:=(List.range 64).map fun i=>(liveNodes s x).testBit i
theorem dfs_end{s:Scheme}{x:Nat}{live:List Bool}(ok:jv s)(d:Dfs s x live []):live=liveL s x:=by
 have all:∀ i,Reach s x i->live.getD i false=true:=fun i h=>by
  induction h with
  |rail=>exact d.rail
  | @up c hc hcl _ ih=>exact d.cl c.a ih (by simp) c.b (mem_nbs.mpr ⟨c,hc,hcl,.inl ⟨rfl,rfl⟩⟩)
  | @down c hc hcl _ ih=>exact d.cl c.b ih (by simp) c.a (mem_nbs.mpr ⟨c,hc,hcl,.inr ⟨rfl,rfl⟩⟩)
 apply List.ext_getElem?
 intro i
 unfold liveL
 rw[List.getElem?_map]
 by_cases hi:i<64
 ·rw[List.getElem?_range hi,List.getElem?_eq_getElem (by rw[d.len];exact hi)]
  have e:live.getD i false=(liveNodes s x).testBit i:=by
   rw[Bool.eq_iff_iff,live_iff ok]
   exact⟨d.snd i,all i⟩
  rw[List.getD_eq_getElem?_getD,List.getElem?_eq_getElem (by rw[d.len];exact hi)] at e
  simpa using e
 ·rw[List.getElem?_eq_none (by rw[d.len];omega),List.getElem?_eq_none (by simp;omega)]
  rfl
theorem liveL_get{s:Scheme}{x i:Nat}(h:i<64):(liveL s x)[i]?=some ((liveNodes s x).testBit i):=by
 unfold liveL
 rw[List.getElem?_map,List.getElem?_range h]
 rfl
def eu:Nat->List Bool->Nat
 |_,[]=>0
 |k,b::l=>(if b=true then 2 ^ k else 0)+eu (k+1) l
theorem rbits_snoc:∀(k:Nat)(l:List Bool)(b:Bool),eu k (l++[b])=eu k l+(if b=true then 2 ^ (k+l.length) else 0)
 |k,[],b=>by simp[eu]
 |k,a::l,b=>by
  show _+eu (k+1) (l++[b])=_+eu (k+1) l+_
  rw[rbits_snoc (k+1) l b,List.length_cons,show k+1+l.length=k+(l.length+1) by omega]
  omega
theorem rbits_lt:∀(k:Nat)(l:List Bool),eu k l+2 ^ k<=2 ^ (k+l.length)
 |k,[]=>by simp[eu]
 |k,b::l=>by
  have ih:=rbits_lt (k+1) l
  show(if b=true then 2 ^ k else 0)+eu (k+1) l+2 ^ k<=_
  rw[List.length_cons,show k+(l.length+1)=k+1+l.length by omega]
  have:2 ^ (k+1)=2 ^ k+2 ^ k:=by rw[Nat.pow_succ];omega
  have:=Nat.two_pow_pos k
  split<;>omega
theorem rbits_or(k:Nat)(l:List Bool)(b:Bool):eu k (l++[b])=if b=true then eu k l ||| 2 ^ (k+l.length) else eu k l:=by
 rw[rbits_snoc]
 split
 ·rename_i h
  have:=rbits_lt k l
  have h2:=Nat.two_pow_pos k
  exact add_or (by omega)
 ·rfl
theorem rbits_test:∀(k:Nat)(l:List Bool)(i:Nat),(eu k l).testBit i=(decide (k<=i)&&l.getD (i-k) false):=by
 intro k l
 generalize hn:l.length=n
 induction n generalizing l with
 |zero =>
  intro i
  have:l=[]:=List.length_eq_zero_iff.mp hn
  subst this;simp[eu]
 |succ n ih =>
  intro i
  rcases List.eq_nil_or_concat l with rfl|⟨l',b,rfl⟩
  ·simp at hn
  ·have hl':l'.length=n:=by simpa using hn
   rw[List.concat_eq_append,rbits_or]
   have e:∀ i,(l'++[b]).getD i false=if i=l'.length then b else l'.getD i false:=fun i=>by
    rw[List.getD_eq_getElem?_getD,List.getD_eq_getElem?_getD,List.getElem?_append]
    by_cases h:i<l'.length
    ·rw[if_pos h,if_neg (by omega)]
    ·rw[if_neg h]
     by_cases h2:i=l'.length
     ·subst h2;simp
     ·rw[if_neg h2,List.getElem?_eq_none (by simp;omega),List.getElem?_eq_none (by omega)]
   rw[e]
   by_cases hk:k<=i
   ·simp only[hk,decide_true,Bool.true_and]
    by_cases h2:i-k=l'.length
    ·rw[if_pos h2]
     have h3:i=k+l'.length:=by omega
     have h4:l'.getD (i-k) false=false:=by rw[h2,List.getD_eq_getElem?_getD,List.getElem?_eq_none (Nat.le_refl _)];rfl
     split
     ·rename_i hb;rw[Nat.testBit_or,ir,hb];simp[h3]
     ·rename_i hb;rw[ih l' hl',h4];simpa using hb
    ·rw[if_neg h2]
     split
     ·rw[Nat.testBit_or,ir,ih l' hl']
      have:¬ k+l'.length=i:=by omega
      simp[this,hk]
     ·rw[ih l' hl'];simp[hk]
   ·simp only[hk,decide_false,Bool.false_and]
    split
    ·rw[Nat.testBit_or,ir,ih l' hl']
     have:¬ k+l'.length=i:=by omega
     simp[this,hk]
    ·rw[ih l' hl'];simp[hk]
def jf:Nat->List Bool->List Nat
 |_,[]=>[]
 |k,b::l=>if b=true then k::jf (k+1) l else jf (k+1) l
theorem idxs_bits:∀(k:Nat)(l:List Bool),relayBits (jf k l)=eu (16+k) l
 |k,[]=>rfl
 |k,b::l=>by
  have ih:=idxs_bits (k+1) l
  show relayBits (if b=true then k::jf (k+1) l else jf (k+1) l)=(if b=true then 2 ^ (16+k) else 0)+eu (16+k+1) l
  split
  ·show 2 ^ (16+k)+relayBits (jf (k+1) l)=_
   rw[ih];rfl
  ·rw[ih];show _=0+_;rw[Nat.zero_add];rfl
theorem idxs_ge:∀(k:Nat)(l:List Bool),∀ j∈jf k l,k<=j
 |k,[],j,h=>nomatch h
 |k,b::l,j,h=>by
  unfold jf at h
  split at h
  ·rcases List.mem_cons.mp h with rfl|h
   ·exact Nat.le_refl _
   ·have:=idxs_ge (k+1) l j h;omega
  ·have:=idxs_ge (k+1) l j h;omega
theorem idxs_pw:∀(k:Nat)(l:List Bool),(jf k l).Pairwise (·<·)
 |k,[]=>.nil
 |k,b::l=>by
  unfold jf
  split
  ·exact List.Pairwise.cons (fun j h=>by have:=idxs_ge (k+1) l j h;omega) (idxs_pw (k+1) l)
  ·exact idxs_pw (k+1) l
theorem idxs_mem:∀(k:Nat)(l:List Bool)(j:Nat),j∈jf k l<->k<=j/\l.getD (j-k) false=true
 |k,[],j=>by simp[jf]
 |k,b::l,j=>by
  have ih:=idxs_mem (k+1) l j
  unfold jf
  by_cases hj:j=k
  ·subst hj
   have hn:j∉jf (j+1) l:=fun h=>by have:=idxs_ge (j+1) l j h;omega
   cases b<;>simp[hn]
  ·by_cases hk:k<=j
   ·obtain⟨d,hd⟩:∃ d,j-k=d+1:=⟨j-k-1,by omega⟩
    have hd2:j-(k+1)=d:=by omega
    rw[hd2] at ih
    rw[hd]
    cases b<;>simp[ih,hj,hk]<;>omega
   ·have hn:j∉jf (k+1) l:=fun h=>by have:=idxs_ge (k+1) l j h;omega
    cases b<;>simp[hn,hj,hk]
theorem turn_eq:∀(l:List Nat)(x:Nat),l.Pairwise (·<·)->turn x l=x ^^^ relayBits l
 | [],x,_=>by show x=x ^^^ 0;simp
 |j::l,x,h=>by
  have h2:=(List.pairwise_cons.mp h)
  show turn (if State.on x (16+j)=true then x-2 ^ (16+j) else x+2 ^ (16+j)) l=x ^^^ (2 ^ (16+j)+relayBits l)
  rw[on_eq,turn_bit,turn_eq l _ h2.2,Nat.xor_assoc]
  congr 1
  have hd:∀(l:List Nat)(a:Nat),(∀ b∈l,a<b)->∃ q,relayBits l=2 ^ (16+a+1) * q:=by
   intro l a
   induction l with
   |nil=>intro _;exact⟨0,rfl⟩
   |cons b l ih =>
    intro hb
    obtain⟨q,hq⟩:=ih fun c hc=>hb c (List.mem_cons_of_mem _ hc)
    have hab:=hb b List.mem_cons_self
    refine⟨2 ^ (b-a-1)+q,?_⟩
    show 2 ^ (16+b)+relayBits l=_
    rw[hq,Nat.mul_add,<-Nat.pow_add]
    congr 2;omega
  obtain⟨q,hq⟩:=hd l j h2.1
  rw[hq]
  have hp:2 ^ (16+j)<2 ^ (16+j+1):=Nat.pow_lt_pow_right (by decide) (by omega)
  rw[Nat.add_comm (2 ^ (16+j)),Nat.two_pow_add_eq_or_of_lt hp]
  apply Nat.eq_of_testBit_eq;intro i
  rw[Nat.testBit_xor,Nat.testBit_or,ir,Nat.testBit_two_pow_mul]
  by_cases e:16+j=i
  ·have:¬(16+j+1<=i):=by omega
   simp[e,this]
  ·simp[e]
theorem clear_low(j q:Nat):(2 ^ j+2 ^ (j+1) * q) &&& (2 ^ j+2 ^ (j+1) * q-1)=2 ^ (j+1) * q:=by
 have hp:2 ^ j<2 ^ (j+1):=Nat.pow_lt_pow_right (by decide) (by omega)
 have h1:=Nat.two_pow_pos j
 have e1:2 ^ j+2 ^ (j+1) * q=2 ^ (j+1) * q ||| 2 ^ j:=by rw[Nat.add_comm];exact Nat.two_pow_add_eq_or_of_lt hp q
 have e2:2 ^ j+2 ^ (j+1) * q-1=2 ^ (j+1) * q ||| (2 ^ j-1):=by
  rw[<-Nat.two_pow_add_eq_or_of_lt (by omega:2 ^ j-1<2 ^ (j+1)) q];omega
 rw[e2,e1]
 apply Nat.eq_of_testBit_eq;intro i
 rw[Nat.testBit_and,Nat.testBit_or,Nat.testBit_or,ir,Nat.testBit_two_pow_sub_one]
 by_cases a:j=i
 ·subst a;simp
 ·simp[a]
  intro h
  by_cases hm:(2 ^ (j+1) * q).testBit i=true
  ·exact .inl hm
  ·simp[hm] at h
theorem relayBits_div:∀(l:List Nat)(a:Nat),(∀ b∈l,a<b)->∃ q,relayBits l=2 ^ (16+a+1) * q:=by
 intro l a
 induction l with
 |nil=>intro _;exact⟨0,rfl⟩
 |cons b l ih =>
  intro hb
  obtain⟨q,hq⟩:=ih fun c hc=>hb c (List.mem_cons_of_mem _ hc)
  have hab:=hb b List.mem_cons_self
  refine⟨2 ^ (b-a-1)+q,?_⟩
  show 2 ^ (16+b)+relayBits l=_
  rw[hq,Nat.mul_add,<-Nat.pow_add]
  congr 2;omega
theorem relayBits_next{j:Nat}{l:List Nat}(h:(j::l).Pairwise (·<·)):relayBits (j::l) &&& (relayBits (j::l)-1)=relayBits l:=by
 obtain⟨q,hq⟩:=relayBits_div l j (List.pairwise_cons.mp h).1
 show(2 ^ (16+j)+relayBits l) &&& (2 ^ (16+j)+relayBits l-1)=relayBits l
 rw[hq]
 exact clear_low (16+j) q
theorem relayBits_pos{j:Nat}{l:List Nat}:0<relayBits (j::l):=by
 have:=Nat.two_pow_pos (16+j)
 show 0<2 ^ (16+j)+relayBits l
 omega
def drawF(s:Scheme)(x:Nat):List Bool:=s.relays.map fun r=>(liveNodes s x).testBit r.node
def lampF(s:Scheme)(x:Nat):List Bool:=s.lamps.map fun l=>(liveNodes s x).testBit l.node
def drawB(s:Scheme)(x:Nat):Nat:=eu 16 (drawF s x)
theorem lamp_go{α:Type}(p:α->Bool):∀(l:List α)(k:Nat),((l.zipIdx k).map fun(u:α×Nat)=>if p u.1=true then 2 ^ u.2 else 0).foldr (fun(a b:Nat)=>a+b) 0=eu k (l.map p)
 | [],k=>rfl
 |a::l,k=>by
  have ih:=lamp_go p l (k+1)
  show(if p a=true then 2 ^ k else 0)+_=(if p a=true then 2 ^ k else 0)+eu (k+1) (l.map p)
  rw[<-ih]
theorem lamp_eq(s:Scheme)(x:Nat):lampBits s x=eu 0 (lampF s x):=lamp_go (fun l:Lamp=>(liveNodes s x).testBit l.node) s.lamps 0
def uB(s:Scheme)(x:Nat)(u:Relay×Nat):Bool:=(liveNodes s x).testBit u.1.node != x.testBit (16+u.2)
def dB(s:Scheme)(c:Clock)(u:Relay×Nat):Bool:=uB s c.x u&&decide (delayOf u.1 (c.x.testBit (16+u.2))<=c.waits.getD u.2 0)
def wB(s:Scheme)(c:Clock)(u:Relay×Nat):Nat:=if (uB s c.x u&&!dB s c u)=true then c.waits.getD u.2 0+1 else 0
def uF(s:Scheme)(x:Nat):List Bool:=s.relays.zipIdx.map (uB s x)
def dF(s:Scheme)(c:Clock):List Bool:=s.relays.zipIdx.map (dB s c)
def wF(s:Scheme)(c:Clock):List Nat:=s.relays.zipIdx.map (wB s c)
theorem zip_idxs{α:Type}(p:α×Nat->Bool):∀(l:List α)(k:Nat),((l.zipIdx k).filter p).map (fun u=>u.2)=jf k ((l.zipIdx k).map p)
 | [],k=>rfl
 |a::l,k=>by
  have ih:=zip_idxs p l (k+1)
  rw[List.zipIdx_cons,List.filter_cons,List.map_cons]
  unfold jf
  split
  ·rw[List.map_cons,ih]
  ·exact ih
theorem zip_get{α:Type}{l:List α}{j:Nat}{a:α}(h:l[j]?=some a):l.zipIdx[j]?=some (a,j):=by
 rw[List.getElem?_zipIdx,h];simp
theorem zip_mem{α:Type}{l:List α}{u:α×Nat}(h:u∈l.zipIdx):l[u.2]?=some u.1:=by
 have:=List.mem_zipIdx_iff_getElem? (x:=u) (l:=l)
 exact this.mp h
theorem unsettled_eq(s:Scheme)(x:Nat):unsettled s x=jf 0 (uF s x):=by
 unfold uF
 rw[<-zip_idxs]
 show(s.relays.zipIdx.filter fun(u:Relay×Nat)=>(liveNodes s x).testBit u.1.node != State.on x (16+u.2)).map (fun(u:Relay×Nat)=>u.2)=_
 congr 1
 apply List.filter_congr
 intro u _
 rw[on_eq];rfl
theorem due_eq(s:Scheme)(c:Clock):due s c=jf 0 (dF s c):=by
 unfold due dF
 rw[<-zip_idxs]
 unfold unsettled
 rw[List.filter_map,List.filter_filter]
 congr 1
 apply List.filter_congr
 intro u hu
 show((match s.relays[u.2]? with|some r=>decide (delayOf r (State.on c.x (16+u.2))<=c.waits.getD u.2 0)|none=>false)&&((liveNodes s c.x).testBit u.1.node != State.on c.x (16+u.2)))=dB s c u
 rw[zip_mem hu,on_eq]
 unfold dB uB
 rw[Bool.and_comm]
theorem contains_idxs(l:List Bool)(j:Nat):(jf 0 l).contains j=l.getD j false:=by
 rw[Bool.eq_iff_iff,List.contains_iff_mem,idxs_mem]
 simp
theorem map_getD{α:Type}{l:List α}{j:Nat}{a:α}(f:α×Nat->Bool)(h:l[j]?=some a):(l.zipIdx.map f).getD j false=f (a,j):=by
 rw[List.getD_eq_getElem?_getD,List.getElem?_map,zip_get h];rfl
theorem gr(s:Scheme)(c:Clock):Rung.tick s c=⟨c.x ^^^ eu 16 (dF s c),(c.ticks+1) % WRAP,wF s c⟩:=by
 unfold Rung.tick
 rw[unsettled_eq,due_eq]
 have h1:turn c.x (jf 0 (dF s c))=c.x ^^^ eu 16 (dF s c):=by rw[turn_eq _ _ (idxs_pw 0 _),idxs_bits]
 have h2:((List.range s.relays.length).map fun(j:Nat)=>if ((jf 0 (uF s c.x)).contains j&&!(jf 0 (dF s c)).contains j)=true then c.waits.getD j 0+1 else 0)=wF s c:=by
  apply List.ext_getElem?
  intro j
  unfold wF
  rw[List.getElem?_map,List.getElem?_map]
  by_cases hj:j<s.relays.length
  ·rw[List.getElem?_range hj,zip_get (List.getElem?_eq_getElem hj)]
   show some _=some _
   congr 1
   show(if ((jf 0 (uF s c.x)).contains j&&!(jf 0 (dF s c)).contains j)=true then c.waits.getD j 0+1 else 0)=_
   rw[contains_idxs,contains_idxs]
   unfold uF dF
   rw[map_getD _ (List.getElem?_eq_getElem hj),map_getD _ (List.getElem?_eq_getElem hj)]
   rfl
  ·rw[List.getElem?_eq_none (by simp;omega),List.getElem?_eq_none (by simp;omega)]
   rfl
 show Clock.mk _ _ _=_
 rw[h1,h2]
theorem due_nil{s:Scheme}{c:Clock}:due s c=[]<->eu 16 (dF s c)=0:=by
 rw[due_eq]
 have h:=idxs_bits 0 (dF s c)
 constructor
 ·intro e;rw[e] at h;exact h.symm
 ·intro e
  cases q:jf 0 (dF s c) with
  |nil=>rfl
  |cons j l =>
   rw[q] at h
   have:=@relayBits_pos j l
   rw[show 16+0=16 from rfl] at h
   omega
theorem due_bits(s:Scheme)(c:Clock):relayBits (due s c)=eu 16 (dF s c):=by rw[due_eq,idxs_bits]
theorem due_pw(s:Scheme)(c:Clock):(due s c).Pairwise (·<·):=by rw[due_eq];exact idxs_pw 0 _
theorem turned_eq(s:Scheme)(c:Clock):c.x ^^^ (Rung.tick s c).x=relayBits (due s c):=by
 rw[gr,due_bits]
 show c.x ^^^ (c.x ^^^ _)=_
 rw[<-Nat.xor_assoc,Nat.xor_self,Nat.zero_xor]
theorem j1(s:Scheme)(c:Clock):(wF s c).length=s.relays.length:=by simp[wF]
theorem dF_length(s:Scheme)(c:Clock):(dF s c).length=s.relays.length:=by simp[dF]
theorem differ_test{s:Scheme}{x:Nat}{j:Nat}{r:Relay}(h:s.relays[j]?=some r):(x ^^^ drawB s x).testBit (16+j)=uB s x (r,j):=by
 rw[Nat.testBit_xor]
 unfold drawB
 rw[rbits_test]
 have:16+j-16=j:=by omega
 rw[this]
 have e:(drawF s x).getD j false=(liveNodes s x).testBit r.node:=by
  unfold drawF
  rw[List.getD_eq_getElem?_getD,List.getElem?_map,h];rfl
 rw[e]
 unfold uB
 show(x.testBit (16+j) ^^ (decide (16<=16+j)&&(liveNodes s x).testBit r.node))=((liveNodes s x).testBit r.node != x.testBit (16+j))
 have:decide (16<=16+j)=true:=by simp
 rw[this]
 cases x.testBit (16+j)<;>cases (liveNodes s x).testBit r.node<;>rfl
theorem and_bit(x k:Nat):(x &&& 2 ^ k=0)<->x.testBit k=false:=by
 constructor
 ·intro h
  have:(x &&& 2 ^ k).testBit k=false:=by rw[h];simp
  rw[Nat.testBit_and,ir] at this
  simpa using this
 ·intro h
  apply Nat.eq_of_testBit_eq;intro i
  rw[Nat.testBit_and,ir,Nat.zero_testBit]
  by_cases e:k=i
  ·subst e;simp[h]
  ·simp[e]
def ig(c:Clock)(q:Nat):Clock:=⟨c.x,(c.ticks+q) % WRAP,c.waits.map fun w=>if 0<w then w+q else 0⟩
structure Calm(s:Scheme)(c:Clock):Prop where
 len:c.waits.length=s.relays.length
 un:∀ j r w,s.relays[j]?=some r->c.waits[j]?=some w->if uB s c.x (r,j)=true then 0<w else w=0
def Fits(s:Scheme)(c:Clock)(q:Nat):Prop:=∀ j r w,s.relays[j]?=some r->c.waits[j]?=some w->0<w->w+q<=delayOf r (c.x.testBit (16+j))
theorem getD_of{l:List Nat}{j w:Nat}(h:l[j]?=some w):l.getD j 0=w:=by rw[List.getD_eq_getElem?_getD,h];rfl
theorem calm_tick{s:Scheme}{c:Clock}(hl:c.waits.length=s.relays.length)(h:due s c=[]):Calm s (Rung.tick s c)/\Fits s (Rung.tick s c) 0/\(Rung.tick s c).x=c.x:=by
 have hz:=due_nil.mp h
 have hx:(Rung.tick s c).x=c.x:=by rw[gr];show c.x ^^^ _=_;rw[hz,Nat.xor_zero]
 have hd:∀ j r,s.relays[j]?=some r->dB s c (r,j)=false:=fun j r hr=>by
  have h1:=rbits_test 16 (dF s c) (16+j)
  rw[hz,Nat.zero_testBit,show 16+j-16=j by omega] at h1
  have h2:(dF s c).getD j false=dB s c (r,j):=map_getD (dB s c) hr
  rw[h2] at h1
  simpa using h1.symm
 have hw:∀ j r w,s.relays[j]?=some r->(Rung.tick s c).waits[j]?=some w->w=wB s c (r,j):=fun j r w hr hj=>by
  rw[gr] at hj
  have hj':(wF s c)[j]?=some w:=hj
  unfold wF at hj'
  rw[List.getElem?_map,zip_get hr] at hj'
  exact(Option.some.inj hj').symm
 refine⟨⟨by rw[gr];exact j1 s c,fun j r w hr hj=>?_⟩,fun j r w hr hj hw0=>?_,hx⟩
 ·rw[hx,hw j r w hr hj]
  unfold wB
  rw[hd j r hr]
  by_cases hu:uB s c.x (r,j)=true
  ·rw[if_pos hu,hu];simp
  ·rw[if_neg hu];simp[hu]
 ·rw[hx]
  have e:=hw j r w hr hj
  have hdj:=hd j r hr
  unfold wB at e
  rw[hdj] at e
  by_cases hu:uB s c.x (r,j)=true
  ·rw[hu] at e
   unfold dB at hdj
   rw[hu] at hdj
   simp at hdj e
   have:c.waits.getD j 0=(c.waits[j]?).getD 0:=List.getD_eq_getElem?_getD
   omega
  ·simp[hu] at e;omega
theorem calm_step{s:Scheme}{c:Clock}{q:Nat}(k:Calm s c)(f:Fits s c (q+1)):due s c=[]/\Rung.tick s c=ig c 1/\Calm s (ig c 1)/\Fits s (ig c 1) q:=by
 have hd:∀ j r w,s.relays[j]?=some r->c.waits[j]?=some w->dB s c (r,j)=false:=fun j r w hr hw=>by
  unfold dB
  have hu:=k.un j r w hr hw
  by_cases h:uB s c.x (r,j)=true
  ·rw[if_pos h] at hu
   have:=f j r w hr hw hu
   rw[h,getD_of hw]
   simp;omega
  ·simp[h]
 have wat:∀ j r,s.relays[j]?=some r->∃ w,c.waits[j]?=some w:=fun j r hr=>by
  have hj:j<s.relays.length:=(List.getElem?_eq_some_iff.mp hr).1
  exact⟨_,List.getElem?_eq_getElem (by rw[k.len];exact hj)⟩
 have hz:eu 16 (dF s c)=0:=by
  apply Nat.eq_of_testBit_eq;intro i
  rw[rbits_test,Nat.zero_testBit]
  by_cases hi:16<=i
  ·cases hr:s.relays[i-16]? with
   |none =>
    have:(dF s c).getD (i-16) false=false:=by
     unfold dF
     rw[List.getD_eq_getElem?_getD,List.getElem?_map,List.getElem?_zipIdx,hr];rfl
    rw[this];simp
   |some r =>
    obtain⟨w,hw⟩:=wat _ r hr
    have:(dF s c).getD (i-16) false=dB s c (r,i-16):=map_getD (dB s c) hr
    rw[this,hd _ r w hr hw];simp
  ·simp[hi]
 have ht:Rung.tick s c=ig c 1:=by
  rw[gr,hz,Nat.xor_zero]
  unfold ig
  congr 1
  apply List.ext_getElem?
  intro j
  unfold wF
  rw[List.getElem?_map,List.getElem?_map]
  cases hr:s.relays[j]? with
  |none =>
   have:c.waits[j]?=none:=by
    rw[List.getElem?_eq_none_iff] at hr ⊢
    rw[k.len];exact hr
   rw[List.getElem?_zipIdx,hr,this];rfl
  |some r =>
   obtain⟨w,hw⟩:=wat j r hr
   rw[zip_get hr,hw]
   show some _=some _
   congr 1
   have hu:=k.un j r w hr hw
   unfold wB
   rw[hd j r w hr hw,getD_of hw]
   show _=if 0<w then w+1 else 0
   by_cases h:uB s c.x (r,j)=true
   ·rw[if_pos h] at hu
    rw[h,if_pos (by rfl),if_pos hu]
   ·rw[if_neg h] at hu
    rw[if_neg (by simp[h]),if_neg (by omega)]
 refine⟨due_nil.mpr hz,ht,⟨by simp[ig,k.len],fun j r w hr hw=>?_⟩,fun j r w hr hw hw0=>?_⟩
 ·have hw':(c.waits.map fun w=>if 0<w then w+1 else 0)[j]?=some w:=hw
  obtain⟨w0,hw0⟩:=wat j r hr
  rw[List.getElem?_map,hw0] at hw'
  have e:w=if 0<w0 then w0+1 else 0:=(Option.some.inj hw').symm
  have hu:=k.un j r w0 hr hw0
  show if uB s c.x (r,j)=true then 0<w else w=0
  by_cases h:uB s c.x (r,j)=true
  ·rw[if_pos h] at hu ⊢;rw[e,if_pos hu];omega
  ·rw[if_neg h] at hu ⊢;rw[e,if_neg (by omega)]
 ·have hw':(c.waits.map fun w=>if 0<w then w+1 else 0)[j]?=some w:=hw
  obtain⟨w1,hw1⟩:=wat j r hr
  rw[List.getElem?_map,hw1] at hw'
  have e:w=if 0<w1 then w1+1 else 0:=(Option.some.inj hw').symm
  show w+q<=delayOf r (c.x.testBit (16+j))
  by_cases hp:0<w1
  ·rw[if_pos hp] at e
   have:=f j r w1 hr hw1 hp
   omega
  ·rw[if_neg hp] at e;omega
theorem passQ_add(c:Clock)(q:Nat):ig (ig c 1) q=ig c (q+1):=by
 unfold ig
 congr 1
 ·show((c.ticks+1) % WRAP+q) % WRAP=(c.ticks+(q+1)) % WRAP
  rw[Nat.mod_add_mod];congr 1;omega
 ·show(c.waits.map fun w=>if 0<w then w+1 else 0).map (fun w=>if 0<w then w+q else 0)=_
  rw[List.map_map]
  apply List.map_congr_left
  intro w _
  show(if 0<(if 0<w then w+1 else 0) then (if 0<w then w+1 else 0)+q else 0)=_
  by_cases h:0<w
  ·rw[if_pos h,if_pos h,if_pos (by omega)];omega
  ·rw[if_neg h,if_neg h,if_neg (by omega)]
theorem passQ_zero{s:Scheme}{c:Clock}(ht:c.ticks<WRAP):ig c 0=c:=by
 unfold ig
 obtain⟨x,t,ws⟩:=c
 congr 1
 ·exact Nat.mod_eq_of_lt ht
 ·show ws.map (fun w=>if 0<w then w+0 else 0)=ws
  have:(fun w=>if 0<w then w+0 else 0)=(id:Nat->Nat):=by funext w;show(if 0<w then w+0 else 0)=w;split<;>omega
  rw[this,List.map_id]
def du(p t:Nat)(told:List (Nat×Nat))(r:Ran):Ran:=⟨r.c,p+r.ticks,t+r.turns,r.ended,told++r.told⟩
theorem addRan_zero(r:Ran):du 0 0 [] r=r:=by unfold du;simp
theorem mj(p t p' t':Nat)(l l':List (Nat×Nat))(r:Ran):du p t l (du p' t' l' r)=du (p+p') (t+t') (l++l') r:=by
 unfold du;simp[Nat.add_assoc]
theorem watch_zero(s:Scheme)(k:Nat)(c:Clock):watch s 0 k c=⟨c,0,0,false,[]⟩:=rfl
theorem db{s:Scheme}{n k:Nat}{c:Clock}(h:due s c=[]):watch s (n+1) k c=du 1 0 [] (watch s n k (Rung.tick s c)):=by
 show(if (due s c).isEmpty=true then _ else _)=_
 rw[h]
 show({ watch s n k (Rung.tick s c) with ticks:=(watch s n k (Rung.tick s c)).ticks+1 }:Ran)=_
 unfold du
 simp[Nat.add_comm]
theorem iz{s:Scheme}{n:Nat}{c:Clock}(h:due s c≠[]):watch s (n+1) 1 c=⟨Rung.tick s c,1,(due s c).length,true,[(relayBits (due s c),lampBits s (Rung.tick s c).x)]⟩:=by
 show(if (due s c).isEmpty=true then _ else _)=_
 rw[if_neg (by simpa using h)]
 rfl
theorem ee{s:Scheme}{n k:Nat}{c:Clock}(h:due s c≠[])(hk:k≠1):watch s (n+1) k c=du 1 (due s c).length [(relayBits (due s c),lampBits s (Rung.tick s c).x)] (watch s n (k-1) (Rung.tick s c)):=by
 show(if (due s c).isEmpty=true then _ else _)=_
 rw[if_neg (by simpa using h)]
 show(if k=1 then _ else _)=_
 rw[if_neg hk]
 unfold du
 simp[Nat.add_comm]
theorem watch_pass{s:Scheme}{n k:Nat}:∀(q:Nat)(c:Clock),c.ticks<WRAP->Calm s c->Fits s c q->watch s (q+n) k c=du q 0 [] (watch s n k (ig c q))
 |0,c,ht,_,_=>by rw[Nat.zero_add,addRan_zero,passQ_zero (s:=s) ht]
 |q+1,c,ht,kc,f=>by
  obtain⟨h1,h2,h3,h4⟩:=calm_step kc f
  have ht':(ig c 1).ticks<WRAP:=Nat.mod_lt _ (by decide)
  rw[show q+1+n=(q+n)+1 by omega,db h1,h2,watch_pass q _ ht' h3 h4,mj,passQ_add]
  simp[Nat.add_comm]
theorem watch_c_len{s:Scheme}:∀(n k:Nat)(c:Clock),c.waits.length=s.relays.length->(watch s n k c).c.waits.length=s.relays.length
 |0,k,c,h=>h
 |n+1,k,c,h=>by
  have ht:(Rung.tick s c).waits.length=s.relays.length:=by rw[gr];exact j1 s c
  by_cases hd:due s c=[]
  ·rw[db hd];exact watch_c_len n k _ ht
  ·by_cases hk:k=1
   ·subst hk;rw[iz hd];exact ht
   ·rw[ee hd hk];exact watch_c_len n (k-1) _ ht
theorem g7{s:Scheme}:∀(n k:Nat)(c:Clock),(watch s n k c).ticks<=n
 |0,k,c=>Nat.le_refl _
 |n+1,k,c=>by
  by_cases hd:due s c=[]
  ·rw[db hd];have:=g7 (s:=s) n k (Rung.tick s c);simp[du];omega
  ·by_cases hk:k=1
   ·subst hk;rw[iz hd];simp
   ·rw[ee hd hk];have:=g7 (s:=s) n (k-1) (Rung.tick s c);simp[du];omega
theorem g6{s:Scheme}:∀(n:Nat)(c:Clock),(watch s n 0 c).ticks=n
 |0,c=>rfl
 |n+1,c=>by
  by_cases hd:due s c=[]
  ·rw[db hd];have:=g6 (s:=s) n (Rung.tick s c);simp[du];omega
  ·rw[ee hd (by decide)];have:=g6 (s:=s) n (Rung.tick s c);simp[du];omega
theorem kd{s:Scheme}:∀(n k:Nat)(c:Clock),(watch s (watch s n k c).ticks 0 c).c=(watch s n k c).c
 |0,k,c=>rfl
 |n+1,k,c=>by
  by_cases hd:due s c=[]
  ·rw[db hd]
   show(watch s (1+(watch s n k (Rung.tick s c)).ticks) 0 c).c=(watch s n k (Rung.tick s c)).c
   rw[Nat.add_comm,db hd]
   exact kd n k (Rung.tick s c)
  ·by_cases hk:k=1
   ·subst hk;rw[iz hd]
    show(watch s 1 0 c).c=Rung.tick s c
    rw[ee hd (by decide)]
    rfl
   ·rw[ee hd hk]
    show(watch s (1+(watch s n (k-1) (Rung.tick s c)).ticks) 0 c).c=(watch s n (k-1) (Rung.tick s c)).c
    rw[Nat.add_comm,ee hd (by decide)]
    exact kd n (k-1) (Rung.tick s c)
theorem jb{s:Scheme}:∀(n k:Nat)(c:Clock),(watch s n k c).told.length<=n
 |0,k,c=>Nat.le_refl _
 |n+1,k,c=>by
  by_cases hd:due s c=[]
  ·rw[db hd];have:=jb (s:=s) n k (Rung.tick s c);simp[du];omega
  ·by_cases hk:k=1
   ·subst hk;rw[iz hd];simp
   ·rw[ee hd hk];have:=jb (s:=s) n (k-1) (Rung.tick s c);simp[du];omega
theorem kq{s:Scheme}:∀(n k:Nat)(c:Clock),c.ticks<WRAP->(watch s n k c).c.ticks<WRAP
 |0,k,c,h=>h
 |n+1,k,c,h=>by
  have ht:(Rung.tick s c).ticks<WRAP:=by rw[gr];exact Nat.mod_lt _ (by decide)
  by_cases hd:due s c=[]
  ·rw[db hd];exact kq n k _ ht
  ·by_cases hk:k=1
   ·subst hk;rw[iz hd];exact ht
   ·rw[ee hd hk];exact kq n (k-1) _ ht
structure lz(s:Scheme)(n k:Nat)(c0:Clock)(c:Clock)(p t:Nat)(told:List (Nat×Nat))(ended:Bool):Prop where
 len:c.waits.length=s.relays.length
 tk:c.ticks<WRAP
 le:p<=n
 tle:told.length<=p
 go:ended=false->(k=0\/told.length<k)/\watch s n k c0=du p t told (watch s (n-p) (k-told.length) c)
 fin:ended=true->watch s n k c0=⟨c,p,t,true,told⟩
theorem lz.start{s:Scheme}{n k:Nat}{c:Clock}(hl:c.waits.length=s.relays.length)(ht:c.ticks<WRAP):lz s n k c c 0 0 [] false:=⟨hl,ht,Nat.zero_le _,Nat.le_refl _,fun _=>⟨by simp;omega,by rw[addRan_zero];rfl⟩,fun h=>nomatch h⟩
theorem lz.stop{s:Scheme}{n k:Nat}{c0 c:Clock}{p t:Nat}{told:List (Nat×Nat)}{ended:Bool}(R:lz s n k c0 c p t told ended)(h:¬(p<n/\ended=false)):watch s n k c0=⟨c,p,t,ended,told⟩:=by
 cases ended with
 |true=>exact R.fin rfl
 |false =>
  have hp:p=n:=by have:=R.le;simp at h;omega
  rw[(R.go rfl).2,hp,Nat.sub_self,watch_zero]
  simp[du]
theorem lz.quiet{s:Scheme}{n k:Nat}{c0 c:Clock}{p t q:Nat}{told:List (Nat×Nat)}(R:lz s n k c0 c p t told false)(hp:p<n)(hd:due s c=[])(hq:q<=n-(p+1))(hf:Fits s (Rung.tick s c) q):lz s n k c0 (ig (Rung.tick s c) q) (p+1+q) t told false:=by
 obtain⟨ck,_,hx⟩:=calm_tick R.len hd
 have ht:(Rung.tick s c).ticks<WRAP:=by rw[gr];exact Nat.mod_lt _ (by decide)
 refine⟨by simp[ig,ck.len],Nat.mod_lt _ (by decide),by omega,by have:=R.tle;omega,fun _=>⟨(R.go rfl).1,?_⟩,fun h=>nomatch h⟩
 obtain⟨m,hm⟩:∃ m,n-p=(q+m)+1:=⟨n-(p+1)-q,by omega⟩
 rw[(R.go rfl).2,hm,db hd,watch_pass q _ ht ck hf,mj,mj,show n-(p+1+q)=m by omega]
 simp
theorem lz.turn{s:Scheme}{n k:Nat}{c0 c:Clock}{p t:Nat}{told:List (Nat×Nat)}(R:lz s n k c0 c p t told false)(hp:p<n)(hd:due s c≠[]):lz s n k c0 (Rung.tick s c) (p+1) (t+(due s c).length) (told++[(relayBits (due s c),lampBits s (Rung.tick s c).x)]) (decide (told.length+1=k)):=by
 have hl:(Rung.tick s c).waits.length=s.relays.length:=by rw[gr];exact j1 s c
 have ht:(Rung.tick s c).ticks<WRAP:=by rw[gr];exact Nat.mod_lt _ (by decide)
 obtain⟨hk,hw⟩:=R.go rfl
 obtain⟨m,hm⟩:∃ m,n-p=m+1:=⟨n-p-1,by omega⟩
 refine⟨hl,ht,by omega,by have:=R.tle;simp;omega,fun he=>?_,fun he=>?_⟩
 ·have he':¬ told.length+1=k:=by simpa using he
  have hk1:k-told.length≠1:=by omega
  refine⟨by simp;omega,?_⟩
  rw[hw,hm,ee hd hk1,mj,show n-(p+1)=m by omega,List.length_append,List.length_singleton,Nat.sub_sub]
 ·have he':told.length+1=k:=by simpa using he
  have hk1:k-told.length=1:=by omega
  rw[hw,hm,hk1,iz hd]
  simp[du]
theorem split_none{c:UInt8}:∀{x:Bytes},c∉x->split c x=[x]
 | [],_=>rfl
 |a::x,h=>by
  have h1:¬ a=c:=fun e=>h (by simp[e])
  have ih:=split_none (c:=c) (x:=x) fun e=>h (List.mem_cons_of_mem _ e)
  show(if a=c then _ else _)=_
  rw[if_neg h1,ih]
theorem split_at{c:UInt8}:∀{x:Bytes}(r:Bytes),c∉x->split c (x++c::r)=x::split c r
 | [],r,_=>by show(if c=c then _ else _)=_;rw[if_pos rfl]
 |a::x,r,h=>by
  have h1:¬ a=c:=fun e=>h (by simp[e])
  have ih:=split_at (c:=c) (x:=x) r fun e=>h (List.mem_cons_of_mem _ e)
  show(if a=c then _ else match split c (x++c::r) with|h::t=>(a::h)::t | []=>[[a]])=_
  rw[if_neg h1,ih]
theorem fq{c:UInt8}:∀(b:Bytes),split c b≠[]
 | []=>by simp[split]
 |a::b=>by
  unfold split
  split
  ·simp
  ·split<;>simp
theorem split_free{c:UInt8}:∀(b:Bytes),∀ x∈split c b,c∉x
 | [],x,h=>by
  have:x=[]:=by simpa[split] using h
  subst this;simp
 |a::b,x,h=>by
  have ih:=split_free (c:=c) b
  unfold split at h
  split at h
  ·rcases List.mem_cons.mp h with rfl|h
   ·simp
   ·exact ih x h
  ·rename_i hne
   split at h
   ·rename_i y t e
    rcases List.mem_cons.mp h with rfl|h
    ·have hy:=ih y (by rw[e];simp)
     intro hc
     rcases List.mem_cons.mp hc with rfl|hc
     ·exact hne rfl
     ·exact hy hc
    ·exact ih x (by rw[e];exact List.mem_cons_of_mem _ h)
   ·have:x=[a]:=by simpa using h
    subst this
    simp
    exact fun e=>hne e.symm
def joinB(c:UInt8):List Bytes->Bytes
 | []=>[]
 | [x]=>x
 |x::y::r=>x++c::joinB c (y::r)
theorem join_split{c:UInt8}:∀(b:Bytes),joinB c (split c b)=b
 | []=>rfl
 |a::b=>by
  have ih:=join_split (c:=c) b
  unfold split
  split
  ·rename_i e
   subst e
   cases hs:split a b with
   |nil=>exact absurd hs (fq b)
   |cons y t=>rw[hs] at ih;show []++a::joinB a (y::t)=_;rw[ih];rfl
  ·split
   ·rename_i y t e
    rw[e] at ih
    cases t with
    |nil=>show a::y=a::b;rw[show joinB c [y]=y from rfl] at ih;rw[ih]
    |cons z t=>show(a::y)++c::joinB c (z::t)=a::b;rw[show joinB c (y::z::t)=y++c::joinB c (z::t) from rfl] at ih;rw[List.cons_append,ih]
   ·rename_i e;exact absurd e (fq b)
def d9(l:List Bytes):Bytes:=l.flatMap fun(b:Bytes)=>b++[10]
theorem flat_snoc(l:List Bytes)(b:Bytes):d9 (l++[b])=d9 l++(b++[10]):=by unfold d9;rw[List.flatMap_append];simp
theorem split_flat:∀(l:List Bytes)(last:Bytes),(∀ b∈l,(10:UInt8)∉b)->(10:UInt8)∉last->split 10 (d9 l++last)=l++[last]
 | [],last,_,h=>split_none h
 |b::l,last,hl,h=>by
  have ih:=split_flat l last (fun b hb=>hl b (List.mem_cons_of_mem _ hb)) h
  have e:d9 (b::l)++last=b++10::(d9 l++last):=by unfold d9;simp
  rw[e,split_at _ (hl b List.mem_cons_self),ih]
  rfl
theorem ib(t:Bytes):∃ init last,split 10 t=init++[last]/\t=d9 init++last/\(∀ b∈init,(10:UInt8)∉b)/\(10:UInt8)∉last:=by
 rcases List.eq_nil_or_concat (split 10 t) with h|⟨init,last,h⟩
 ·exact absurd h (fq t)
 ·rw[List.concat_eq_append] at h
  have fr:=split_free (c:=10) t
  have f1:∀ b∈init,(10:UInt8)∉b:=fun b hb=>fr b (by rw[h];exact List.mem_append_left _ hb)
  have f2:(10:UInt8)∉last:=fr last (by rw[h];simp)
  refine⟨init,last,h,?_,f1,f2⟩
  have hj:=join_split (c:=10) t
  rw[h] at hj
  rw[<-hj]
  have:∀(l:List Bytes)(z:Bytes),joinB 10 (l++[z])=d9 l++z:=by
   intro l z
   induction l with
   |nil=>rfl
   |cons b l ih =>
    cases l with
    |nil=>show b++10::z=_;unfold d9;simp
    |cons d l =>
     show b++10::joinB 10 (d::l++[z])=_
     rw[ih]
     unfold d9
     simp
  exact this init last
theorem linesOf_eq{t:Bytes}{init:List Bytes}{last:Bytes}(h:split 10 t=init++[last]):linesOf t=if last=[] then init else init++[last]:=by
 show(if (split 10 t).getLast?=some [] then (split 10 t).dropLast else split 10 t)=_
 rw[h]
 simp
theorem ended_eq{t:Bytes}{init:List Bytes}{last:Bytes}(e:t=d9 init++last)(f:(10:UInt8)∉last):ended t=decide (last=[]):=by
 unfold ended
 rw[e]
 by_cases h:last=[]
 ·subst h
  rcases List.eq_nil_or_concat init with hi|⟨i2,b,hi⟩
  ·subst hi;rfl
  ·rw[hi,List.concat_eq_append,flat_snoc]
   simp
 ·obtain⟨l2,z,hz⟩:∃ l2 z,last=l2++[z]:=by rcases List.eq_nil_or_concat last with e|⟨l2,z,e⟩;exact absurd e h;exact⟨l2,z,by rw[e,List.concat_eq_append]⟩
  rw[hz]
  have hz10:z≠10:=fun e2=>f (by rw[hz,e2];simp)
  simp[hz10]
theorem whole_eq{t:Bytes}{init:List Bytes}{last:Bytes}(e:t=d9 init++last)(f:(10:UInt8)∉last):Rung.whole t=d9 init:=by
 unfold Rung.whole
 rw[e,List.reverse_append]
 have h1:∀(l r:Bytes),(10:UInt8)∉l->List.dropWhile (fun(c:UInt8)=>c != 10) (l++r)=List.dropWhile (fun(c:UInt8)=>c != 10) r:=by
  intro l r hl
  induction l with
  |nil=>rfl
  |cons a l ih =>
   have:a≠10:=fun e=>hl (by simp[e])
   rw[List.cons_append,List.dropWhile_cons,if_pos (by simpa using this)]
   exact ih fun e=>hl (List.mem_cons_of_mem _ e)
 rw[h1 _ _ (by simpa using f)]
 have h2:List.dropWhile (fun(c:UInt8)=>c != 10) (d9 init).reverse=(d9 init).reverse:=by
  rcases List.eq_nil_or_concat init with hi|⟨i2,b,hi⟩
  ·subst hi;rfl
  ·rw[hi,List.concat_eq_append,flat_snoc]
   simp
 rw[h2,List.reverse_reverse]
theorem lines_whole{t:Bytes}{init:List Bytes}{last:Bytes}(h:split 10 t=init++[last]):linesOf (Rung.whole t)=init:=by
 obtain⟨i2,l2,h2,e,f1,f2⟩:=ib t
 have:i2=init/\l2=last:=by
  rw[h2] at h
  exact List.append_inj' h rfl |>.imp id (fun z=>by simpa using z)
 obtain⟨rfl,rfl⟩:=this
 rw[whole_eq e f2]
 have hs:split 10 (d9 i2)=i2++[[]]:=by
  have:=split_flat i2 [] f1 (by simp)
  simpa using this
 rw[linesOf_eq hs]
 simp
theorem all_ok{α:Type}:∀(l:List (Option α))(p:List α)(k:Nat),l=p.map some->Rung.all l k=.ok p
 | [],p,k,h=>by cases p with
  |nil=>rfl
  |cons a p=>simp at h
 |o::l,p,k,h=>by cases p with
  |nil=>simp at h
  |cons a p =>
   simp at h
   obtain⟨h1,h2⟩:=h
   subst h1
   have ih:=all_ok l p (k+1) h2
   show(match Rung.all l (k+1) with | .ok l=>(Except.ok (a::l):Except Nat (List α)) | .error j=>.error j)=_
   rw[ih]
theorem all_err{α:Type}:∀(p:List α)(r:List (Option α))(k:Nat),Rung.all (p.map some++none::r) k=.error (k+p.length)
 | [],r,k=>rfl
 |a::p,r,k=>by
  have ih:=all_err p r (k+1)
  show(match Rung.all (p.map some++none::r) (k+1) with | .ok l=>(Except.ok (a::l):Except Nat (List α)) | .error j=>.error j)=_
  rw[ih]
  show Except.error _=Except.error _
  congr 1
  simp;omega
def ia(t:Bytes):List (Option Line):=(linesOf t).zipIdx.map fun(u:Bytes×Nat)=>if ended t=false/\u.2+1=(linesOf t).length then none else lineIn u.1
theorem j4{t:Bytes}{init:List Bytes}{last:Bytes}(h:split 10 t=init++[last]):ia t=init.map lineIn++(if last=[] then [] else [none]):=by
 obtain⟨i2,l2,h2,e,f1,f2⟩:=ib t
 have:i2=init/\l2=last:=by
  rw[h2] at h
  exact List.append_inj' h rfl |>.imp id (fun z=>by simpa using z)
 obtain⟨rfl,rfl⟩:=this
 unfold ia
 rw[linesOf_eq h2,ended_eq e f2]
 by_cases hl:l2=[]
 ·rw[if_pos hl,if_pos hl]
  simp only[hl]
  have:∀(l:List Bytes)(k:Nat),(l.zipIdx k).map (fun(u:Bytes×Nat)=>lineIn u.1)=l.map lineIn:=by
   intro l
   induction l with
   |nil=>intro k;rfl
   |cons b l ih=>intro k;rw[List.zipIdx_cons,List.map_cons,ih];rfl
  simp[this]
 ·rw[if_neg hl,if_neg hl]
  have:∀(l:List Bytes)(k n:Nat),k+l.length+1=n->((l++[l2]).zipIdx k).map (fun(u:Bytes×Nat)=>if decide (l2=[])=false/\u.2+1=n then none else lineIn u.1)=l.map lineIn++[none]:=by
   intro l
   induction l with
   |nil=>intro k n hk;simp[hl];intro h;simp at hk;omega
   |cons b l ih =>
    intro k n hk
    rw[List.cons_append,List.zipIdx_cons,List.map_cons,ih (k+1) n (by simp at hk;omega),List.map_cons]
    have:¬(k+1=n):=by simp at hk;omega
    simp[this]
  exact this i2 0 _ (by simp)
theorem kj(t:Bytes):readText t=match Rung.all (ia t) 0 with
 |.error k=>.error (1,k)
 |.ok p=>match faultIn p with
  |some f=>.error f
  |none=>.ok (schemeOf p):=rfl
theorem firstLine_go(bad:Nat->Line->Bool):∀(p:List Line)(i:Nat),(∀ j l,p[j]?=some l->bad (i+j) l=false)->(p.zipIdx i).findSome? (fun(u:Line×Nat)=>if bad u.2 u.1=true then some u.2 else none)=none
 | [],i,_=>rfl
 |l::p,i,h=>by
  rw[List.zipIdx_cons,List.findSome?_cons]
  have h0:=h 0 l rfl
  rw[Nat.add_zero] at h0
  simp only[h0,Bool.false_eq_true,if_false]
  exact firstLine_go bad p (i+1) fun j l' hj=>by have:=h (j+1) l' hj;rwa[show i+(j+1)=i+1+j by omega] at this
theorem firstLine_none{p:List Line}{bad:Nat->Line->Bool}(h:∀ j l,p[j]?=some l->bad j l=false):firstLine p bad=none:=firstLine_go bad p 0 fun j l hj=>by rw[Nat.zero_add];exact h j l hj
theorem firstLine_at(bad:Nat->Line->Bool):∀(p:List Line)(i k:Nat)(l:Line),p[k]?=some l->bad (i+k) l=true->(∀ j l',j<k->p[j]?=some l'->bad (i+j) l'=false)->(p.zipIdx i).findSome? (fun(u:Line×Nat)=>if bad u.2 u.1=true then some u.2 else none)=some (i+k)
 | [],i,k,l,h,_,_=>by simp at h
 |a::p,i,0,l,h,hb,_=>by
  have:a=l:=by simpa using h
  subst this
  rw[List.zipIdx_cons,List.findSome?_cons]
  rw[Nat.add_zero] at hb ⊢
  simp[hb]
 |a::p,i,k+1,l,h,hb,hm=>by
  rw[List.zipIdx_cons,List.findSome?_cons]
  have h0:=hm 0 a (by omega) rfl
  rw[Nat.add_zero] at h0
  simp only[h0,Bool.false_eq_true,if_false]
  have:=firstLine_at bad p (i+1) k l (by simpa using h) (by rwa[show i+(k+1)=i+1+k by omega] at hb) fun j l' hj hl=>by have:=hm (j+1) l' (by omega) hl;rwa[show i+(j+1)=i+1+j by omega] at this
  rw[this]
  congr 1;omega
theorem firstLine_some{p:List Line}{bad:Nat->Line->Bool}{k:Nat}{l:Line}(h:p[k]?=some l)(hb:bad k l=true)(hm:∀ j l',j<k->p[j]?=some l'->bad j l'=false):firstLine p bad=some k:=by
 have:=firstLine_at bad p 0 k l h (by rw[Nat.zero_add];exact hb) fun j l' hj hl=>by rw[Nat.zero_add];exact hm j l' hj hl
 rwa[Nat.zero_add] at this
def jn(p:List Line)(k:Nat)(l:Line):Bool:=(p.take k).any fun(m:Line)=>decide (l.sort<m.sort)
def mo(p:List Line)(k:Nat)(l:Line):Bool:=decide (mostOf l.sort<=((p.take k).filter fun(m:Line)=>m.sort==l.sort).length)
def bad4(p:List Line)(k:Nat)(l:Line):Bool:=l.gives.isSome&&(p.take k).any fun(m:Line)=>m.gives==l.gives
def bad5(p:List Line)(k:Nat)(l:Line):Bool:=match l with
 |.contact _ x _ _=>(varOf p x).isNone
 |_=>false
def Good(bad:Nat->Line->Bool)(p:List Line)(k:Nat):Prop:=∀ j l,j<k->p[j]?=some l->bad j l=false
theorem Good.zero{bad:Nat->Line->Bool}{p:List Line}:Good bad p 0:=fun _ _ h=>absurd h (Nat.not_lt_zero _)
theorem Good.snoc{bad:Nat->Line->Bool}{p:List Line}{k:Nat}(g:Good bad p k)(h:∀ l,p[k]?=some l->bad k l=false):Good bad p (k+1):=fun j l hj hl=>by
 by_cases e:j=k
 ·subst e;exact h l hl
 ·exact g j l (by omega) hl
theorem Good.none{bad:Nat->Line->Bool}{p:List Line}(g:Good bad p p.length):firstLine p bad=none:=firstLine_none fun j l hl=>g j l (List.getElem?_eq_some_iff.mp hl).1 hl
theorem Good.some{bad:Nat->Line->Bool}{p:List Line}{k:Nat}{l:Line}(g:Good bad p k)(hl:p[k]?=some l)(hb:bad k l=true):firstLine p bad=some k:=firstLine_some hl hb fun j l' hj hl'=>g j l' hj hl'
theorem iu(p:List Line):faultIn p=match firstLine p (jn p) with
 |some k=>some (2,k)
 |none=>match firstLine p (mo p) with
  |some k=>some (3,k)
  |none=>match firstLine p (bad4 p) with
   |some k=>some (4,k)
   |none=>(firstLine p (bad5 p)).map fun(k:Nat)=>(5,k):=rfl
theorem fault2{p:List Line}{k:Nat}(h:firstLine p (jn p)=some k):faultIn p=some (2,k):=by rw[iu,h]
theorem fault3{p:List Line}{k:Nat}(h2:firstLine p (jn p)=none)(h:firstLine p (mo p)=some k):faultIn p=some (3,k):=by rw[iu,h2,h]
theorem fault4{p:List Line}{k:Nat}(h2:firstLine p (jn p)=none)(h3:firstLine p (mo p)=none)(h:firstLine p (bad4 p)=some k):faultIn p=some (4,k):=by rw[iu,h2,h3,h]
theorem fault5{p:List Line}{k:Nat}(h2:firstLine p (jn p)=none)(h3:firstLine p (mo p)=none)(h4:firstLine p (bad4 p)=none)(h:firstLine p (bad5 p)=some k):faultIn p=some (5,k):=by rw[iu,h2,h3,h4,h];rfl
theorem fault0{p:List Line}(h2:firstLine p (jn p)=none)(h3:firstLine p (mo p)=none)(h4:firstLine p (bad4 p)=none)(h:firstLine p (bad5 p)=none):faultIn p=none:=by rw[iu,h2,h3,h4,h];rfl
structure Ord(p:List Line)(k latest:Nat):Prop where
 good:Good (jn p) p k
 le:∀ m∈p.take k,m.sort<=latest
 top:latest=0\/∃ m∈p.take k,m.sort=latest
theorem Ord.start{p:List Line}:Ord p 0 0:=⟨.zero,fun m h=>by simp at h,.inl rfl⟩
theorem bp{α:Type}{l:List α}{i:Nat}{x:α}(h:l[i]?=some x):l.take (i+1)=l.take i++[x]:=by
 rw[List.take_add_one,h];rfl
theorem Ord.bad{p:List Line}{k latest:Nat}{l:Line}(o:Ord p k latest)(hl:p[k]?=some l)(h:l.sort<latest):faultIn p=some (2,k):=by
 refine fault2 (o.good.some hl ?_)
 unfold jn
 rw[List.any_eq_true]
 rcases o.top with e|⟨m,hm,e⟩
 ·omega
 ·exact⟨m,hm,by simp;omega⟩
theorem Ord.step{p:List Line}{k latest:Nat}{l:Line}(o:Ord p k latest)(hl:p[k]?=some l)(h:¬ l.sort<latest):Ord p (k+1) l.sort:=by
 refine⟨o.good.snoc fun l' hl'=>?_,fun m hm=>?_,.inr ⟨l,by rw[bp hl];simp,rfl⟩⟩
 ·rw[hl] at hl';cases hl'
  unfold jn
  rw[List.any_eq_false]
  intro m hm
  have:=o.le m hm
  simp;omega
 ·rw[bp hl] at hm
  rcases List.mem_append.mp hm with hm|hm
  ·have:=o.le m hm;omega
  ·have:m=l:=by simpa using hm
   subst this;exact Nat.le_refl _
theorem sort_lt(l:Line):l.sort<4:=by cases l<;>simp[Line.sort]
def fe(p:List Line)(r:Nat):Nat:=(p.filter fun(m:Line)=>m.sort==r).length
def cnts(p:List Line):List Nat:=[fe p 0,fe p 1,fe p 2,fe p 3]
theorem cnts_get{p:List Line}{r:Nat}(h:r<4):(cnts p)[r]?=some (fe p r):=by
 match r,h with
 |0,_=>rfl
 |1,_=>rfl
 |2,_=>rfl
 |3,_=>rfl
theorem cntOf_snoc(p:List Line)(l:Line)(r:Nat):fe (p++[l]) r=fe p r+(if l.sort=r then 1 else 0):=by
 unfold fe
 rw[List.filter_append,List.length_append]
 congr 1
 by_cases h:l.sort=r
 ·simp[h]
 ·simp[h]
theorem cnts_snoc(p:List Line)(l:Line):cnts (p++[l])=(cnts p).set l.sort (fe p l.sort+1):=by
 unfold cnts
 simp only[cntOf_snoc]
 cases l<;>simp[Line.sort]
theorem bad3_eq{p:List Line}{k:Nat}{l:Line}:mo p k l=decide (mostOf l.sort<=fe (p.take k) l.sort):=rfl
def namesOf(p:List Line):List Name:=p.filterMap Line.gives
theorem bad4_eq{p:List Line}{k:Nat}{l:Line}:bad4 p k l=(match l.gives with|some x=>decide (x∈namesOf (p.take k))|none=>false):=by
 unfold bad4
 cases hg:l.gives with
 |none=>rfl
 |some x =>
  rw[Bool.eq_iff_iff]
  simp only[Option.isSome_some,Bool.true_and,List.any_eq_true,decide_eq_true_eq]
  unfold namesOf
  rw[List.mem_filterMap]
  constructor
  ·rintro⟨m,hm,e⟩;exact⟨m,hm,by simpa using e⟩
  ·rintro⟨m,hm,e⟩;exact⟨m,hm,by simpa using e⟩
theorem gives_none{l:Line}:l.gives=none<->l.sort=3:=by cases l<;>simp[Line.gives,Line.sort]
theorem namesOf_snoc(p:List Line)(l:Line):namesOf (p++[l])=namesOf p++l.gives.toList:=by
 unfold namesOf
 rw[List.filterMap_append]
 congr 1
def dig(d:Nat):UInt8:=UInt8.ofNat (48+d)
theorem digitChar_toNat{d:Nat}(h:d<10):(Nat.digitChar d).toNat=48+d:=by
 match d,h with
 |0,_=>rfl
 |1,_=>rfl
 |2,_=>rfl
 |3,_=>rfl
 |4,_=>rfl
 |5,_=>rfl
 |6,_=>rfl
 |7,_=>rfl
 |8,_=>rfl
 |9,_=>rfl
theorem dig_toNat{d:Nat}(h:d<10):(dig d).toNat=48+d:=by unfold dig;rw[UInt8.toNat_ofNat'];omega
theorem l9{n:Nat}(h:n<10):decimal n=[dig n]:=by
 unfold decimal
 rw[Nat.toDigits_of_lt_base h,List.map_cons,List.map_nil,digitChar_toNat h];rfl
theorem decimal_ge{n:Nat}(h:10<=n):decimal n=decimal (n / 10)++[dig (n % 10)]:=by
 unfold decimal
 rw[Nat.toDigits_of_base_le (by decide) h,List.map_append,List.map_cons,List.map_nil,digitChar_toNat (Nat.mod_lt _ (by decide))];rfl
theorem numberOf_snoc(b:Bytes)(c:UInt8):numberOf (b++[c])=10 * numberOf b+(c.toNat-48):=by
 unfold numberOf;rw[List.foldl_append];rfl
theorem ji(c:UInt8):isDigit c=true<->48<=c.toNat/\c.toNat<=57:=by
 unfold isDigit
 rw[Bool.and_eq_true,decide_eq_true_eq,decide_eq_true_eq,UInt8.le_iff_toNat_le,UInt8.le_iff_toNat_le]
 rfl
theorem isSmall_iff(c:UInt8):isSmall c=true<->97<=c.toNat/\c.toNat<=122:=by
 unfold isSmall
 rw[Bool.and_eq_true,decide_eq_true_eq,decide_eq_true_eq,UInt8.le_iff_toNat_le,UInt8.le_iff_toNat_le]
 rfl
theorem dig_of{c:UInt8}(h:isDigit c=true):dig (c.toNat-48)=c:=by
 have:=(ji c).mp h
 apply UInt8.toNat_inj.mp
 rw[dig_toNat (by omega)];omega
theorem decimal_ne(n:Nat):decimal n≠[]:=by
 by_cases h:n<10
 ·rw[l9 h];simp
 ·rw[decimal_ge (by omega)];simp
def lead0(b:Bytes):Prop:=b.head?=some 48/\1<b.length
instance (b:Bytes):Decidable (lead0 b):=inferInstanceAs (Decidable (_/\_))
theorem decimal_lead(n:Nat):¬ lead0 (decimal n):=by
 have key:∀ n,(decimal n).head?=some 48->n=0:=by
  intro n
  induction n using Nat.strongRecOn with
  |ind n ih =>
   intro h
   by_cases hn:n<10
   ·rw[l9 hn] at h
    have e:dig n=48:=by simpa using h
    have:=congrArg UInt8.toNat e
    rw[dig_toNat hn] at this
    have h48:(48:UInt8).toNat=48:=rfl
    omega
   ·rw[decimal_ge (by omega)] at h
    have hne:=decimal_ne (n / 10)
    have:(decimal (n / 10)++[dig (n % 10)]).head?=(decimal (n / 10)).head?:=by
     cases hd:decimal (n / 10) with
     |nil=>exact absurd hd hne
     |cons a l=>rfl
    rw[this] at h
    have:=ih (n / 10) (by omega) h
    omega
 rintro⟨h1,h2⟩
 have:=key n h1
 subst this
 rw[l9 (by decide)] at h2
 simp at h2
theorem numberOf_ge:∀(b:Bytes),b≠[]->(∀ c∈b,isDigit c=true)->b.head?≠some 48->10 ^ (b.length-1)<=numberOf b:=by
 intro b
 generalize hn:b.length=n
 induction n generalizing b with
 |zero=>intro h;exact absurd (List.length_eq_zero_iff.mp hn) h
 |succ n ih =>
  intro _ hd hh
  rcases List.eq_nil_or_concat b with rfl|⟨b',c,rfl⟩
  ·simp at hn
  ·rw[List.concat_eq_append] at hn hd hh ⊢
   have hl:b'.length=n:=by simpa using hn
   rw[numberOf_snoc]
   cases hb':b' with
   |nil =>
    subst hb'
    have hc:=hd c (by simp)
    have:c≠48:=fun e=>hh (by simp[e])
    have h3:=(ji c).mp hc
    have h4:c.toNat≠48:=fun e=>this (UInt8.toNat_inj.mp e)
    have:n=0:=by simpa using hl.symm
    subst this
    simp
    show 1<=10 * 0+_
    omega
   |cons a l =>
    have h1:=ih b' hl (by rw[hb'];simp) (fun c hc=>hd c (List.mem_append_left _ hc)) (by rw[hb'] at hh ⊢;simpa using hh)
    rw[hb'] at h1
    have:n≠0:=by rw[<-hl,hb'];simp
    obtain⟨m,rfl⟩:∃ m,n=m+1:=⟨n-1,by omega⟩
    simp at h1 ⊢
    rw[Nat.pow_succ]
    omega
theorem l6:∀(b:Bytes),b≠[]->(∀ c∈b,isDigit c=true)->¬ lead0 b->decimal (numberOf b)=b:=by
 intro b
 generalize hn:b.length=n
 induction n generalizing b with
 |zero=>intro h;exact absurd (List.length_eq_zero_iff.mp hn) h
 |succ n ih =>
  intro _ hd hh
  rcases List.eq_nil_or_concat b with rfl|⟨b',c,rfl⟩
  ·simp at hn
  ·rw[List.concat_eq_append] at hn hd hh ⊢
   have hl:b'.length=n:=by simpa using hn
   have hc:=hd c (by simp)
   have hc2:=(ji c).mp hc
   rw[numberOf_snoc]
   cases hb':b' with
   |nil =>
    show decimal (10 * 0+(c.toNat-48))=[c]
    rw[l9 (by omega),show 10 * 0+(c.toNat-48)=c.toNat-48 by omega,dig_of hc]
   |cons a l =>
    rw[<-hb']
    have hne:b'≠[]:=by rw[hb'];simp
    have hh':b'.head?≠some 48:=fun e=>hh ⟨by rw[hb'] at e ⊢;simpa using e,by rw[hb'];simp⟩
    have hd':∀ c∈b',isDigit c=true:=fun c hc=>hd c (List.mem_append_left _ hc)
    have h1:=ih b' hl hne hd' (fun h=>hh' h.1)
    have h2:=numberOf_ge b' hne hd' hh'
    have h3:1<=10 ^ (b'.length-1):=Nat.pow_pos (by decide)
    rw[decimal_ge (by omega),show(10 * numberOf b'+(c.toNat-48)) / 10=numberOf b' by omega,show(10 * numberOf b'+(c.toNat-48)) % 10=c.toNat-48 by omega,h1,dig_of hc]
theorem ml(lo hi:Nat)(b:Bytes):number lo hi b=if b≠[]/\(∀ c∈b,isDigit c=true)/\¬ lead0 b/\lo<=numberOf b/\numberOf b<=hi then some (numberOf b) else none:=by
 unfold number
 by_cases h:b≠[]/\(∀ c∈b,isDigit c=true)/\¬ lead0 b/\lo<=numberOf b/\numberOf b<=hi
 ·rw[if_pos h,if_neg]
  obtain⟨h1,h2,h3,h4,h5⟩:=h
  rintro(e|e|e|e|e)
  ·exact h1 e
  ·rw[List.all_eq_false] at e;obtain⟨c,hc,hn⟩:=e;exact hn (h2 c hc)
  ·exact h3 e
  ·omega
  ·omega
 ·rw[if_neg h,if_pos]
  by_cases h1:b=[]
  ·exact .inl h1
  ·by_cases h2:∀ c∈b,isDigit c=true
   ·by_cases h3:lead0 b
    ·exact .inr (.inr (.inl h3))
    ·by_cases h4:lo<=numberOf b
     ·by_cases h5:numberOf b<=hi
      ·exact absurd ⟨h1,h2,h3,h4,h5⟩ h
      ·exact .inr (.inr (.inr (.inr (by omega))))
     ·exact .inr (.inr (.inr (.inl (by omega))))
   ·refine .inr (.inl ?_)
    rw[List.all_eq_false]
    obtain⟨c,hc⟩:=Classical.not_forall.mp h2
    obtain⟨h6,h7⟩:=Classical.not_imp.mp hc
    exact⟨c,h6,h7⟩
theorem number_prog{lo hi:Nat}(hhi:hi<=65535)(b:Bytes):number lo hi b=if (1<=b.length/\b.length<=5)/\(∀ c∈b,isDigit c=true) then (if decimal (numberOf b)=b/\lo<=numberOf b/\numberOf b<=hi then some (numberOf b) else none) else none:=by
 rw[ml]
 by_cases h:(1<=b.length/\b.length<=5)/\(∀ c∈b,isDigit c=true)
 ·rw[if_pos h]
  have hne:b≠[]:=fun e=>by rw[e] at h;simp at h
  have e:decimal (numberOf b)=b<->¬ lead0 b:=⟨fun e=>by rw[<-e];exact decimal_lead _,l6 b hne h.2⟩
  by_cases h2:decimal (numberOf b)=b/\lo<=numberOf b/\numberOf b<=hi
  ·rw[if_pos h2,if_pos ⟨hne,h.2,e.mp h2.1,h2.2⟩]
  ·rw[if_neg h2,if_neg fun h3=>h2 ⟨e.mpr h3.2.2.1,h3.2.2.2⟩]
 ·rw[if_neg h,if_neg]
  rintro⟨h1,h2,h3,h4,h5⟩
  refine h ⟨⟨?_,?_⟩,h2⟩
  ·cases b with
   |nil=>exact absurd rfl h1
   |cons a l=>simp
  ·by_cases hh:b.head?=some 48
   ·by_cases hl:1<b.length
    ·exact absurd ⟨hh,hl⟩ h3
    ·omega
   ·have:=numberOf_ge b h1 h2 hh
    by_cases hl:b.length<=5
    ·exact hl
    ·have:10 ^ 5<=10 ^ (b.length-1):=Nat.pow_le_pow_right (by decide) (by omega)
     have:(10:Nat) ^ 5=100000:=by decide
     omega
theorem c9{lo hi:Nat}{b:Bytes}{n:Nat}(h:number lo hi b=some n):b=decimal n/\lo<=n/\n<=hi:=by
 rw[ml] at h
 split at h
 ·rename_i hh
  cases h
  exact⟨(l6 b hh.1 hh.2.1 hh.2.2.1).symm,hh.2.2.2⟩
 ·cases h
def part(P:List Bytes)(i:Nat):Bytes:=P.getD i []
def rIn(P:List Bytes):Option Line:=if P.length=2/\isName (part P 1)=true then some (.input (part P 1)) else none
def dStep(w:Bytes)(z:List Bytes):Option (Nat×List Bytes):=if 2<=z.length/\part z 0=w then (number 1 65535 (part z 1)).map fun n=>(n,z.drop 2) else some (0,z)
def c7(z:List Bytes):Option (Nat×Nat):=(dStep (ascii "up") z).bind fun u=>(dStep (ascii "down") u.2).bind fun d=>if d.2.length=0 then some (u.1,d.1) else none
def fo(P:List Bytes):Option Line:=if 4<=P.length/\part P 2=ascii "at" then (c7 (P.drop 4)).bind fun d=>if isName (part P 1)=true then (number 0 63 (part P 3)).map fun k=>.relay ⟨part P 1,k,d.1,d.2⟩ else none else none
def jh(P:List Bytes):Option Line:=if P.length=4/\part P 2=ascii "at" then (if isName (part P 1)=true then (number 0 63 (part P 3)).map fun k=>.lamp ⟨part P 1,k⟩ else none) else none
def cr(cl:Bool)(P:List Bytes):Option Line:=if P.length=4 then (number 0 63 (part P 2)).bind fun a=>(number 0 63 (part P 3)).bind fun b=>if a<b then (if isName (part P 1)=true then some (.contact cl (part P 1) a b) else none) else none else none
def rRow(P:List Bytes):Option Line:=if part P 0=ascii "in" then rIn P else if part P 0=ascii "relay" then fo P else if part P 0=ascii "lamp" then jh P else if part P 0=ascii "open" then cr false P
 else if part P 0=ascii "close" then cr true P else none
theorem pDelays_eq(z:List Bytes):c7 z=delays z:=by
 match z with
 | []=>rfl
 | [a]=>simp[c7,dStep,delays]
 | [w,n] =>
  show c7 [w,n]=if w=ascii "up" then (number 1 65535 n).map fun(u:Nat)=>(u,0) else if w=ascii "down" then (number 1 65535 n).map fun(d:Nat)=>(0,d) else none
  unfold c7 dStep
  by_cases h:w=ascii "up"
  ·rw[if_pos ⟨by simp,h⟩,if_pos h]
   show((number 1 65535 n).map fun n=>(n,([]:List Bytes))).bind _=_
   cases number 1 65535 n<;>simp
  ·rw[if_neg (fun e=>h e.2),if_neg h]
   show(if 2<=[w,n].length/\part [w,n] 0=ascii "down" then _ else _:Option (Nat×List Bytes)).bind _=_
   by_cases h2:w=ascii "down"
   ·rw[if_pos ⟨by simp,h2⟩,if_pos h2]
    show((number 1 65535 n).map fun n=>(n,([]:List Bytes))).bind _=_
    cases number 1 65535 n<;>simp
   ·rw[if_neg (fun e=>h2 e.2),if_neg h2]
    simp
 | [w,n,y] =>
  show c7 [w,n,y]=none
  unfold c7 dStep
  by_cases h:w=ascii "up"
  ·rw[if_pos ⟨by simp,h⟩]
   show((number 1 65535 n).map fun n=>(n,[y])).bind _=_
   cases number 1 65535 n<;>simp
  ·rw[if_neg (fun e=>h e.2)]
   show(if 2<=[w,n,y].length/\part [w,n,y] 0=ascii "down" then _ else _:Option (Nat×List Bytes)).bind _=_
   by_cases h2:w=ascii "down"
   ·rw[if_pos ⟨by simp,h2⟩]
    show((number 1 65535 n).map fun n=>(n,[y])).bind _=_
    cases number 1 65535 n<;>simp
   ·rw[if_neg (fun e=>h2 e.2)]
    simp
 | [w,n,y,m] =>
  show c7 [w,n,y,m]=if w=ascii "up"/\y=ascii "down" then (match number 1 65535 n,number 1 65535 m with
   |some u,some d=>some (u,d)
   |_,_=>none) else none
  unfold c7 dStep
  by_cases h:w=ascii "up"
  ·rw[if_pos ⟨by simp,h⟩]
   show((number 1 65535 n).map fun n=>(n,[y,m])).bind _=_
   cases hn:number 1 65535 n with
   |none=>simp
   |some u =>
    show(if 2<=[y,m].length/\part [y,m] 0=ascii "down" then _ else _:Option (Nat×List Bytes)).bind _=_
    by_cases h2:y=ascii "down"
    ·rw[if_pos ⟨by simp,h2⟩,if_pos ⟨h,h2⟩]
     show((number 1 65535 m).map fun n=>(n,([]:List Bytes))).bind _=_
     cases number 1 65535 m<;>simp
    ·rw[if_neg (fun e=>h2 e.2),if_neg (fun e=>h2 e.2)]
     simp
  ·rw[if_neg (fun e=>h e.2),if_neg (fun e=>h e.1)]
   show(if 2<=[w,n,y,m].length/\part [w,n,y,m] 0=ascii "down" then _ else _:Option (Nat×List Bytes)).bind _=_
   by_cases h2:w=ascii "down"
   ·rw[if_pos ⟨by simp,h2⟩]
    show((number 1 65535 n).map fun n=>(n,[y,m])).bind _=_
    cases number 1 65535 n<;>simp
   ·rw[if_neg (fun e=>h2 e.2)]
    simp
 |w::n::y::m::e::r =>
  show c7 (w::n::y::m::e::r)=none
  have hd:∀(x:Bytes)(z:List Bytes)(o:Nat×List Bytes),dStep x z=some o->z.length<=o.2.length+2:=by
   intro x z o h
   unfold dStep at h
   split at h
   ·cases hq:number 1 65535 (part z 1) with
    |none=>rw[hq] at h;cases h
    |some v=>rw[hq] at h;cases h;simp;omega
   ·cases h;simp
  unfold c7
  cases h1:dStep (ascii "up") (w::n::y::m::e::r) with
  |none=>rfl
  |some u =>
   have l1:=hd _ _ _ h1
   show(dStep (ascii "down") u.2).bind _=none
   cases h2:dStep (ascii "down") u.2 with
   |none=>rfl
   |some d =>
    have l2:=hd _ _ _ h2
    show(if d.2.length=0 then _ else none)=none
    rw[if_neg]
    simp at l1
    omega
theorem contact_body(w x:Bytes)(r:List Bytes)(cl:Bool)(hx:isName x=true)(hcl:(w==ascii "close")=cl):(match r with
  | [n,m]=>(match number 0 63 n,number 0 63 m with
   |some a,some b=>if a<b then some (Line.contact (w==ascii "close") x a b) else none
   |_,_=>none)
  |_=>none)=cr cl (w::x::r):=by
 have e1:part (w::x::r) 1=x:=rfl
 rw[hcl]
 unfold cr
 rw[e1]
 match r with
 | []=>simp
 | [a]=>simp
 | [n,m] =>
  show _=if (4:Nat)=4 then (number 0 63 n).bind (fun a=>(number 0 63 m).bind fun b=>if a<b then (if isName x=true then some (Line.contact cl x a b) else none) else none) else none
  rw[if_pos rfl,hx]
  dsimp only
  generalize number 0 63 n=o1
  generalize number 0 63 m=o2
  cases o1<;>cases o2<;>simp
 |a::n::m::z=>simp
theorem lineIn_eq(b:Bytes):lineIn b=rRow (split 32 b):=by
 unfold lineIn rRow
 cases hs:split 32 b with
 |nil=>exact absurd hs (fq b)
 |cons w t =>
  have e0:part (w::t) 0=w:=rfl
  rw[e0]
  cases t with
  |nil =>
   show none=_
   simp[rIn,fo,jh,cr]
  |cons x r =>
   have e1:part (w::x::r) 1=x:=rfl
   show(if isName x=false then none else _)=_
   by_cases hx:isName x=true
   ·rw[if_neg (by simp[hx])]
    by_cases h1:w=ascii "in"
    ·rw[if_pos h1,if_pos h1]
     unfold rIn
     rw[e1]
     cases r with
     |nil=>simp[hx]
     |cons y r=>simp
    ·rw[if_neg h1,if_neg h1]
     by_cases h2:w=ascii "relay"
     ·rw[if_pos h2,if_pos h2]
      unfold fo
      rw[e1]
      match r with
      | []=>simp
      | [a]=>simp
      |a::n::z =>
       show(if a=ascii "at" then _ else none)=if 4<=(w::x::a::n::z).length/\a=ascii "at" then (c7 z).bind _ else none
       by_cases ha:a=ascii "at"
       ·rw[if_pos ha,if_pos ⟨by simp,ha⟩,pDelays_eq]
        show((number 0 63 n).bind fun k=>(delays z).map fun d=>Line.relay ⟨x,k,d.1,d.2⟩)=(delays z).bind fun d=>if isName x=true then (number 0 63 n).map fun k=>Line.relay ⟨x,k,d.1,d.2⟩ else none
        cases number 0 63 n<;>cases delays z<;>simp[hx]
       ·rw[if_neg ha,if_neg (fun e=>ha e.2)]
     ·rw[if_neg h2,if_neg h2]
      by_cases h3:w=ascii "lamp"
      ·rw[if_pos h3,if_pos h3]
       unfold jh
       rw[e1]
       match r with
       | []=>simp
       | [a]=>simp
       | [a,n] =>
        show(if a=ascii "at" then _ else none)=if (4:Nat)=4/\a=ascii "at" then (if isName x=true then (number 0 63 n).map _ else none) else none
        rw[if_pos hx]
        by_cases ha:a=ascii "at"
        ·rw[if_pos ha,if_pos ⟨rfl,ha⟩]
        ·rw[if_neg ha,if_neg (fun e=>ha e.2)]
       |a::n::m::z=>simp
      ·rw[if_neg h3,if_neg h3]
       by_cases h4:w=ascii "open"\/w=ascii "close"
       ·have body:=fun(cl:Bool)=>contact_body w x r cl hx
        rw[if_pos h4]
        rcases h4 with h4|h4
        ·rw[if_pos h4]
         exact body false (by rw[h4];decide)
        ·have h5:¬ w=ascii "open":=by rw[h4];decide
         rw[if_neg h5,if_pos h4]
         exact body true (by rw[h4];decide)
       ·rw[if_neg h4,if_neg (fun e=>h4 (.inl e)),if_neg (fun e=>h4 (.inr e))]
   ·have hx':isName x=false:=by simpa using hx
    rw[if_pos hx']
    simp[rIn,fo,jh,cr,e1,hx']
def jq:Line->Bytes
 |.input x=>textLine [ascii "in",x]
 |.relay r=>textLine ([ascii "relay",r.name,ascii "at",decimal r.node]++((if r.up=0 then [] else [ascii "up",decimal r.up])++(if r.down=0 then [] else [ascii "down",decimal r.down])))
 |.lamp l=>textLine [ascii "lamp",l.name,ascii "at",decimal l.node]
 |.contact c x a b=>textLine [if c=true then ascii "close" else ascii "open",x,decimal a,decimal b]
def LineOk:Line->Prop
 |.input x=>isName x=true
 |.relay r=>isName r.name=true/\r.node<64/\r.up<=65535/\r.down<=65535
 |.lamp l=>isName l.name=true/\l.node<64
 |.contact _ x a b=>isName x=true/\a<b/\b<64
theorem textLine_join:∀(P:List Bytes),P≠[]->textLine P=joinB 32 P++[10]
 | [],h=>absurd rfl h
 | [x],_=>by simp[textLine,joinB]
 |x::y::r,_=>by
  have ih:=textLine_join (y::r) (by simp)
  unfold textLine at ih ⊢
  simp[joinB] at ih ⊢
  exact ih
theorem list_of_len4{P:List Bytes}(h:P.length=4):P=[part P 0,part P 1,part P 2,part P 3]:=by
 match P,h with
 | [a,b,c,d],_=>rfl
theorem list_of_len2{P:List Bytes}(h:P.length=2):P=[part P 0,part P 1]:=by
 match P,h with
 | [a,b],_=>rfl
theorem list_of_ge4{P:List Bytes}(h:4<=P.length):P=[part P 0,part P 1,part P 2,part P 3]++P.drop 4:=by
 match P,h with
 |a::b::c::d::r,_=>rfl
theorem delays_text{z:List Bytes}{d:Nat×Nat}(h:delays z=some d):z=(if d.1=0 then [] else [ascii "up",decimal d.1])++(if d.2=0 then [] else [ascii "down",decimal d.2])/\d.1<=65535/\d.2<=65535:=by
 match z,h with
 | [],h=>cases h;simp
 | [a],h=>cases h
 | [w,n],h =>
  have h':(if w=ascii "up" then (number 1 65535 n).map fun(u:Nat)=>(u,0) else if w=ascii "down" then (number 1 65535 n).map fun(d:Nat)=>(0,d) else none)=some d:=h
  split at h'
  ·rename_i hw
   cases hn:number 1 65535 n with
   |none=>rw[hn] at h';cases h'
   |some u =>
    rw[hn] at h';cases h'
    obtain⟨e,h1,h2⟩:=c9 hn
    have:¬ u=0:=by omega
    simp[this,hw,e,h2]
  ·split at h'
   ·rename_i hw
    cases hn:number 1 65535 n with
    |none=>rw[hn] at h';cases h'
    |some u =>
     rw[hn] at h';cases h'
     obtain⟨e,h1,h2⟩:=c9 hn
     have:¬ u=0:=by omega
     simp[this,hw,e,h2]
   ·cases h'
 | [a,b,c],h=>cases h
 | [w,n,y,m],h =>
  have h':(if w=ascii "up"/\y=ascii "down" then (match number 1 65535 n,number 1 65535 m with
   |some u,some d=>some (u,d)
   |_,_=>none) else none)=some d:=h
  split at h'
  ·rename_i hw
   cases hn:number 1 65535 n with
   |none=>rw[hn] at h';cases h'
   |some u =>
    cases hm:number 1 65535 m with
    |none=>rw[hn,hm] at h';cases h'
    |some v =>
     rw[hn,hm] at h';cases h'
     obtain⟨e,h1,h2⟩:=c9 hn
     obtain⟨e',h1',h2'⟩:=c9 hm
     have:¬ u=0:=by omega
     have:¬ v=0:=by omega
     simp[*]
  ·cases h'
 |a::b::c::d'::e::r,h=>cases h
theorem rRow_text{P:List Bytes}{l:Line}(hP:P≠[])(h:rRow P=some l):jq l=textLine P/\LineOk l:=by
 unfold rRow at h
 split at h
 ·rename_i h0
  unfold rIn at h
  split at h
  ·rename_i h1;cases h
   refine⟨?_,h1.2⟩
   conv=>rhs;rw[list_of_len2 h1.1,h0]
   rfl
  ·cases h
 ·split at h
  ·rename_i h0
   unfold fo at h
   split at h
   ·rename_i h1
    rw[pDelays_eq] at h
    cases hd:delays (P.drop 4) with
    |none=>rw[hd] at h;cases h
    |some d =>
     rw[hd] at h
     have h':(if isName (part P 1)=true then (number 0 63 (part P 3)).map fun k=>Line.relay ⟨part P 1,k,d.1,d.2⟩ else none)=some l:=h
     split at h'
     ·rename_i h2
      cases hn:number 0 63 (part P 3) with
      |none=>rw[hn] at h';cases h'
      |some k =>
       rw[hn] at h';cases h'
       obtain⟨e,e1,e2⟩:=c9 hn
       obtain⟨dt,d1,d2⟩:=delays_text hd
       refine⟨?_,h2,Nat.lt_succ_of_le e2,d1,d2⟩
       conv=>rhs;rw[list_of_ge4 h1.1,dt,h0,h1.2,e]
       rfl
     ·cases h'
   ·cases h
  ·split at h
   ·rename_i h0
    unfold jh at h
    split at h
    ·rename_i h1
     split at h
     ·rename_i h2
      cases hn:number 0 63 (part P 3) with
      |none=>rw[hn] at h;cases h
      |some k =>
       rw[hn] at h;cases h
       obtain⟨e,e1,e2⟩:=c9 hn
       refine⟨?_,h2,Nat.lt_succ_of_le e2⟩
       conv=>rhs;rw[list_of_len4 h1.1,h0,h1.2,e]
       rfl
     ·cases h
    ·cases h
   ·have con:∀ cl:Bool,part P 0=(if cl=true then ascii "close" else ascii "open")->cr cl P=some l->jq l=textLine P/\LineOk l:=by
     intro cl h0 h
     unfold cr at h
     split at h
     ·rename_i h1
      cases hn:number 0 63 (part P 2) with
      |none=>rw[hn] at h;cases h
      |some a =>
       cases hm:number 0 63 (part P 3) with
       |none=>rw[hn,hm] at h;cases h
       |some b =>
        rw[hn,hm] at h
        have h':(if a<b then (if isName (part P 1)=true then some (Line.contact cl (part P 1) a b) else none) else none)=some l:=h
        split at h'
        ·rename_i hab
         split at h'
         ·rename_i h2
          cases h'
          obtain⟨e,e1,e2⟩:=c9 hn
          obtain⟨e',e1',e2'⟩:=c9 hm
          refine⟨?_,h2,hab,by omega⟩
          conv=>rhs;rw[list_of_len4 h1,h0,e,e']
          rfl
         ·cases h'
        ·cases h'
     ·cases h
    split at h
    ·rename_i h0;exact con false h0 h
    ·split at h
     ·rename_i h0;exact con true h0 h
     ·cases h
theorem line_text{b:Bytes}{l:Line}(h:lineIn b=some l):jq l=b++[10]/\LineOk l:=by
 rw[lineIn_eq] at h
 have:=rRow_text (fq b) h
 rw[textLine_join _ (fq b),join_split] at this
 exact this
theorem lines_text:∀{init:List Bytes}{p:List Line},init.map lineIn=p.map some->p.flatMap jq=d9 init/\∀ l∈p,LineOk l
 | [],p,h=>by cases p with
  |nil=>exact⟨rfl,fun _ h=>nomatch h⟩
  |cons a p=>simp at h
 |b::init,p,h=>by cases p with
  |nil=>simp at h
  |cons a p =>
   simp at h
   obtain⟨h1,h2⟩:=h
   obtain⟨e1,e2⟩:=lines_text (init:=init) (p:=p) (by simpa using h2)
   obtain⟨f1,f2⟩:=line_text h1
   refine⟨?_,fun l hl=>?_⟩
   ·rw[List.flatMap_cons,f1,e1];unfold d9;simp
   ·rcases List.mem_cons.mp hl with rfl|hl
    ·exact f2
    ·exact e2 l hl
def Sorted(p:List Line):Prop:=p.Pairwise fun a b=>a.sort<=b.sort
theorem sorted_of{p:List Line}(h:firstLine p (jn p)=none):Sorted p:=by
 have hb:∀ j l,p[j]?=some l->jn p j l=false:=by
  intro j l hj
  cases hq:jn p j l with
  |false=>rfl
  |true =>
   have:∃ k,firstLine p (jn p)=some k:=by
    have key:∀ n,n<=j->Good (jn p) p n\/∃ k,firstLine p (jn p)=some k:=by
     intro n
     induction n with
     |zero=>intro _;exact .inl .zero
     |succ n ih =>
      intro hn
      rcases ih (by omega) with g|k
      ·have hlt:n<p.length:=by have:=(List.getElem?_eq_some_iff.mp hj).1;omega
       cases hb2:jn p n (p[n]) with
       |true=>exact .inr ⟨n,g.some (List.getElem?_eq_getElem hlt) hb2⟩
       |false=>exact .inl (g.snoc fun l' hl'=>by rw[List.getElem?_eq_getElem hlt] at hl';cases hl';exact hb2)
      ·exact .inr k
    rcases key j (Nat.le_refl _) with g|k
    ·exact⟨j,g.some hj hq⟩
    ·exact k
   obtain⟨k,hk⟩:=this
   rw[h] at hk;cases hk
 unfold Sorted
 rw[List.pairwise_iff_getElem]
 intro i j hi hj hij
 have:=hb j p[j] (List.getElem?_eq_getElem hj)
 unfold jn at this
 rw[List.any_eq_false] at this
 have h2:=this p[i] (by
  rw[List.mem_take_iff_getElem]
  exact⟨i,by omega,rfl⟩)
 simpa using h2
def ofS(r:Nat)(p:List Line):List Line:=p.filter fun(l:Line)=>l.sort==r
theorem ofS_lt:∀(p:List Line)(r:Nat),(∀ l∈p,r<l.sort)->ofS r p=[]
 | [],_,_=>rfl
 |a::p,r,h=>by
  unfold ofS
  rw[List.filter_cons,if_neg (by have:=h a List.mem_cons_self;simp;omega)]
  exact ofS_lt p r fun l hl=>h l (List.mem_cons_of_mem _ hl)
theorem sorted_parts:∀(p:List Line),Sorted p->p=ofS 0 p++(ofS 1 p++(ofS 2 p++ofS 3 p))
 | [],_=>rfl
 |a::p,h=>by
  have h2:=List.pairwise_cons.mp h
  have ih:=sorted_parts p h2.2
  have cons_:∀ r,ofS r (a::p)=if a.sort==r then a::ofS r p else ofS r p:=fun r=>by unfold ofS;rw[List.filter_cons]
  have z:∀ r,r<a.sort->ofS r p=[]:=fun r hr=>ofS_lt p r fun l hl=>Nat.lt_of_lt_of_le hr (h2.1 l hl)
  have ha:=sort_lt a
  rw[cons_,cons_,cons_,cons_]
  rcases(by omega:a.sort=0\/a.sort=1\/a.sort=2\/a.sort=3) with e|e|e|e
  ·simp[e];exact ih
  ·rw[z 0 (by omega)] at ih ⊢;simp[e];simpa using ih
  ·rw[z 0 (by omega),z 1 (by omega)] at ih ⊢;simp[e];simpa using ih
  ·rw[z 0 (by omega),z 1 (by omega),z 2 (by omega)] at ih ⊢;simp[e];simpa using ih
def c8(p:List Line):List Name:=p.filterMap fun(l:Line)=>match l with
 |.input x=>some x
 |_=>none
def cg(p:List Line):List Relay:=p.filterMap fun(l:Line)=>match l with
 |.relay r=>some r
 |_=>none
def lamOf(p:List Line):List Lamp:=p.filterMap fun(l:Line)=>match l with
 |.lamp l=>some l
 |_=>none
def ii(v:Name->Nat)(p:List Line):List Contact:=p.filterMap fun(l:Line)=>match l with
 |.contact c x a b=>some ⟨a,b,c,v x⟩
 |_=>none
theorem gw(p:List Line):schemeOf p=⟨c8 p,cg p,lamOf p,ii (fun x=>(varOf p x).getD 0) p⟩:=rfl
theorem inpOf_len(p:List Line):(c8 p).length=fe p 0:=by
 induction p with
 |nil=>rfl
 |cons a p ih=>cases a<;>simp[c8,fe,Line.sort,List.filterMap_cons,List.filter_cons] at ih ⊢<;>exact ih
theorem relOf_len(p:List Line):(cg p).length=fe p 1:=by
 induction p with
 |nil=>rfl
 |cons a p ih=>cases a<;>simp[cg,fe,Line.sort,List.filterMap_cons,List.filter_cons] at ih ⊢<;>exact ih
theorem lamOf_len(p:List Line):(lamOf p).length=fe p 2:=by
 induction p with
 |nil=>rfl
 |cons a p ih=>cases a<;>simp[lamOf,fe,Line.sort,List.filterMap_cons,List.filter_cons] at ih ⊢<;>exact ih
theorem conOf_len(v:Name->Nat)(p:List Line):(ii v p).length=fe p 3:=by
 induction p with
 |nil=>rfl
 |cons a p ih=>cases a<;>simp[ii,fe,Line.sort,List.filterMap_cons,List.filter_cons] at ih ⊢<;>exact ih
theorem varOf_eq(p:List Line)(x:Name):varOf p x=match (c8 p).findIdx? (fun y=>y==x) with
  |some i=>some i
  |none=>((cg p).findIdx? fun r=>r.name==x).map fun(j:Nat)=>16+j:=by
 have h0:∀ q:List Line,((q.filter fun(l:Line)=>l.sort==0).findIdx? fun(l:Line)=>l.gives==some x)=(c8 q).findIdx? (fun y=>y==x):=by
  intro q
  induction q with
  |nil=>rfl
  |cons a q ih=>cases a<;>simp[c8,Line.sort,Line.gives,List.filterMap_cons,List.filter_cons,List.findIdx?_cons] at ih ⊢<;>rw[ih]
 have h1:∀ q:List Line,((q.filter fun(l:Line)=>l.sort==1).findIdx? fun(l:Line)=>l.gives==some x)=(cg q).findIdx? (fun r=>r.name==x):=by
  intro q
  induction q with
  |nil=>rfl
  |cons a q ih=>cases a<;>simp[cg,Line.sort,Line.gives,List.filterMap_cons,List.filter_cons,List.findIdx?_cons] at ih ⊢<;>rw[ih]
 unfold varOf
 rw[h0,h1]
 cases (c8 p).findIdx? (fun y=>y==x)<;>rfl
theorem mem_names_inp{p:List Line}{x:Name}(h:x∈c8 p):x∈namesOf p:=by
 unfold c8 at h
 rw[List.mem_filterMap] at h
 obtain⟨l,hl,e⟩:=h
 unfold namesOf
 rw[List.mem_filterMap]
 cases l<;>simp at e
 subst e
 exact⟨_,hl,rfl⟩
theorem mem_names_rel{p:List Line}{r:Relay}(h:r∈cg p):r.name∈namesOf p:=by
 unfold cg at h
 rw[List.mem_filterMap] at h
 obtain⟨l,hl,e⟩:=h
 unfold namesOf
 rw[List.mem_filterMap]
 cases l<;>simp at e
 subst e
 exact⟨_,hl,rfl⟩
theorem mf{α:Type}{l:List α}{q:α->Bool}(h:∀ a∈l,q a=false):l.findIdx? q=none:=by
 rw[List.findIdx?_eq_none_iff];exact h
theorem varOf_snoc(p:List Line)(l:Line)(x:Name)(hf:∀ y,l.gives=some y->y∉namesOf p):varOf (p++[l]) x=match l with
  |.input y=>if x=y then some (c8 p).length else varOf p x
  |.relay r=>if x=r.name then some (16+(cg p).length) else varOf p x
  |_=>varOf p x:=by
 rw[varOf_eq,varOf_eq]
 have ei:c8 (p++[l])=c8 p++(match l with | .input y=>[y]|_=>[]):=by unfold c8;rw[List.filterMap_append];cases l<;>rfl
 have er:cg (p++[l])=cg p++(match l with | .relay y=>[y]|_=>[]):=by unfold cg;rw[List.filterMap_append];cases l<;>rfl
 rw[ei,er]
 cases l with
 |input y =>
  simp only[List.append_nil,List.findIdx?_append]
  by_cases h:x=y
  ·subst h
   have hn:=hf x rfl
   have h1:(c8 p).findIdx? (fun y=>y==x)=none:=mf fun a ha=>by
    simp;intro e;subst e;exact hn (mem_names_inp ha)
   rw[h1];simp[List.findIdx?_cons]
  ·have h':¬ y=x:=fun e=>h e.symm
   rw[if_neg h]
   cases (c8 p).findIdx? (fun y=>y==x)<;>simp[List.findIdx?_cons,h']
 |relay r =>
  simp only[List.append_nil,List.findIdx?_append]
  by_cases h:x=r.name
  ·subst h
   have hn:=hf r.name rfl
   have h1:(c8 p).findIdx? (fun y=>y==r.name)=none:=mf fun a ha=>by
    simp;intro e;subst e;exact hn (mem_names_inp ha)
   have h2:(cg p).findIdx? (fun y=>y.name==r.name)=none:=mf fun a ha=>by
    simp;intro e;exact hn (e▸mem_names_rel ha)
   rw[h1,h2];simp[List.findIdx?_cons]
  ·have h':¬ r.name=x:=fun e=>h e.symm
   rw[if_neg h]
   cases (c8 p).findIdx? (fun y=>y==x)<;>cases (cg p).findIdx? (fun y=>y.name==x)<;>simp[List.findIdx?_cons,h']
 |lamp y=>simp
 |contact c y a b=>simp
theorem varOf_tail{p:List Line}{k:Nat}{c:Bool}{y:Name}{a b:Nat}(hs:Sorted p)(h:p[k]?=some (.contact c y a b))(x:Name):varOf p x=varOf (p.take k) x:=by
 have hk:k<p.length:=(List.getElem?_eq_some_iff.mp h).1
 have hd:∀ l∈p.drop k,l.sort=3:=by
  intro l hl
  rw[List.mem_drop_iff_getElem] at hl
  obtain⟨i,hi,e⟩:=hl
  have h3:p[k].sort=3:=by
   rw[List.getElem?_eq_getElem hk] at h
   rw[Option.some.inj h];rfl
  have:=sort_lt l
  by_cases hi0:i=0
  ·subst hi0
   rw[<-e];simpa using h3
  ·have h4:=List.pairwise_iff_getElem.mp hs k (k+i) hk (by omega) (by omega)
   rw[h3] at h4
   have e':p[k+i]=l:=by rw[<-e]
   rw[e'] at h4
   omega
 have hi:c8 p=c8 (p.take k):=by
  conv=>lhs;rw[<-List.take_append_drop k p]
  unfold c8
  rw[List.filterMap_append]
  have:(p.drop k).filterMap (fun(l:Line)=>match l with | .input x=>some x|_=>none)=[]:=by
   rw[List.filterMap_eq_nil_iff]
   intro l hl
   have:=hd l hl
   cases l<;>simp[Line.sort] at this ⊢
  rw[this,List.append_nil]
 have hr:cg p=cg (p.take k):=by
  conv=>lhs;rw[<-List.take_append_drop k p]
  unfold cg
  rw[List.filterMap_append]
  have:(p.drop k).filterMap (fun(l:Line)=>match l with | .relay x=>some x|_=>none)=[]:=by
   rw[List.filterMap_eq_nil_iff]
   intro l hl
   have:=hd l hl
   cases l<;>simp[Line.sort] at this ⊢
  rw[this,List.append_nil]
 rw[varOf_eq,varOf_eq,hi,hr]
structure SOk(s:Scheme):Prop where
 inp:s.inputs.length<=16
 rel:s.relays.length<=12
 lam:s.lamps.length<=16
 con:s.contacts.length<=256
 nodes:jv s
 rnode:∀ r∈s.relays,r.node<64
 lnode:∀ l∈s.lamps,l.node<64
 nm:∀ x∈s.inputs,isName x=true
 ab:∀ c∈s.contacts,c.a<c.b
theorem count_le{p:List Line}(h:firstLine p (mo p)=none)(r:Nat)(hr:r<4):fe p r<=mostOf r:=by
 have hb:∀ n,n<=p.length->Good (mo p) p n\/∃ k,firstLine p (mo p)=some k:=by
  intro n
  induction n with
  |zero=>intro _;exact .inl .zero
  |succ n ih =>
   intro hn
   rcases ih (by omega) with g|k
   ·have hlt:n<p.length:=by omega
    cases hb2:mo p n (p[n]) with
    |true=>exact .inr ⟨n,g.some (List.getElem?_eq_getElem hlt) hb2⟩
    |false=>exact .inl (g.snoc fun l' hl'=>by rw[List.getElem?_eq_getElem hlt] at hl';cases hl';exact hb2)
   ·exact .inr k
 have g:Good (mo p) p p.length:=by
  rcases hb p.length (Nat.le_refl _) with g|⟨k,hk⟩
  ·exact g
  ·rw[h] at hk;cases hk
 have key:∀ n,n<=p.length->fe (p.take n) r<=mostOf r:=by
  intro n
  induction n with
  |zero=>intro _;simp[fe]
  |succ n ih =>
   intro hn
   have hlt:n<p.length:=by omega
   have hg:=g n p[n] hlt (List.getElem?_eq_getElem hlt)
   rw[bad3_eq] at hg
   rw[bp (List.getElem?_eq_getElem hlt),cntOf_snoc]
   have:=ih (by omega)
   split
   ·rename_i e
    rw[e] at hg
    simp at hg
    omega
   ·omega
 have:=key p.length (Nat.le_refl _)
 rwa[List.take_length] at this
theorem good_all{bad:Nat->Line->Bool}{p:List Line}(h:firstLine p bad=none):∀ j l,p[j]?=some l->bad j l=false:=by
 have hb:∀ n,n<=p.length->Good bad p n\/∃ k,firstLine p bad=some k:=by
  intro n
  induction n with
  |zero=>intro _;exact .inl .zero
  |succ n ih =>
   intro hn
   rcases ih (by omega) with g|k
   ·have hlt:n<p.length:=by omega
    cases hb2:bad n (p[n]) with
    |true=>exact .inr ⟨n,g.some (List.getElem?_eq_getElem hlt) hb2⟩
    |false=>exact .inl (g.snoc fun l' hl'=>by rw[List.getElem?_eq_getElem hlt] at hl';cases hl';exact hb2)
   ·exact .inr k
 intro j l hj
 rcases hb p.length (Nat.le_refl _) with g|⟨k,hk⟩
 ·exact g j l (List.getElem?_eq_some_iff.mp hj).1 hj
 ·rw[h] at hk;cases hk
structure Faultless(p:List Line):Prop where
 f2:firstLine p (jn p)=none
 f3:firstLine p (mo p)=none
 f4:firstLine p (bad4 p)=none
 f5:firstLine p (bad5 p)=none
theorem faultless_of{p:List Line}(h:faultIn p=none):Faultless p:=by
 rw[iu] at h
 split at h
 ·cases h
 ·rename_i h2
  split at h
  ·cases h
  ·rename_i h3
   split at h
   ·cases h
   ·rename_i h4
    refine⟨h2,h3,h4,?_⟩
    cases h5:firstLine p (bad5 p) with
    |none=>rfl
    |some k=>rw[h5] at h;cases h
theorem scheme_ok{p:List Line}(f:Faultless p)(hl:∀ l∈p,LineOk l):SOk (schemeOf p):=by
 rw[gw]
 refine⟨?_,?_,?_,?_,fun c hc=>?_,fun r hr=>?_,fun r hr=>?_,fun x hx=>?_,fun c hc=>?_⟩
 ·rw[inpOf_len];exact count_le f.f3 0 (by decide)
 ·rw[relOf_len];exact count_le f.f3 1 (by decide)
 ·rw[lamOf_len];exact count_le f.f3 2 (by decide)
 ·rw[conOf_len];exact count_le f.f3 3 (by decide)
 ·have hc':c∈ii (fun x=>(varOf p x).getD 0) p:=hc
  unfold ii at hc'
  rw[List.mem_filterMap] at hc'
  obtain⟨l,h1,h2⟩:=hc'
  cases l<;>simp at h2
  have:=hl _ h1
  subst h2
  simp[LineOk] at this
  exact⟨Nat.lt_trans this.2.1 this.2.2,this.2.2⟩
 ·have hr':r∈cg p:=hr
  unfold cg at hr'
  rw[List.mem_filterMap] at hr'
  obtain⟨l,h1,h2⟩:=hr'
  cases l<;>simp at h2
  have:=hl _ h1
  subst h2
  exact this.2.1
 ·have hr':r∈lamOf p:=hr
  unfold lamOf at hr'
  rw[List.mem_filterMap] at hr'
  obtain⟨l,h1,h2⟩:=hr'
  cases l<;>simp at h2
  have:=hl _ h1
  subst h2
  exact this.2
 ·have hr':x∈c8 p:=hx
  unfold c8 at hr'
  rw[List.mem_filterMap] at hr'
  obtain⟨l,h1,h2⟩:=hr'
  cases l<;>simp at h2
  have:=hl _ h1
  subst h2
  exact this
 ·have hc':c∈ii (fun x=>(varOf p x).getD 0) p:=hc
  unfold ii at hc'
  rw[List.mem_filterMap] at hc'
  obtain⟨l,h1,h2⟩:=hc'
  cases l<;>simp at h2
  have:=hl _ h1
  subst h2
  simp[LineOk] at this
  exact this.2.1
theorem varName_of{p:List Line}(f:Faultless p){x:Name}{v:Nat}(h:varOf p x=some v):(schemeOf p).varName v=x:=by
 rw[varOf_eq] at h
 unfold Scheme.varName
 rw[gw]
 have hi:(c8 p).length<=16:=by rw[inpOf_len];exact count_le f.f3 0 (by decide)
 cases h1:(c8 p).findIdx? (fun y=>y==x) with
 |some i =>
  rw[h1] at h
  cases h
  rw[List.findIdx?_eq_some_iff_getElem] at h1
  obtain⟨hlt,e,_⟩:=h1
  rw[if_pos (by omega)]
  show(c8 p).getD v []=x
  rw[List.getD_eq_getElem?_getD,List.getElem?_eq_getElem hlt]
  simpa using e
 |none =>
  rw[h1] at h
  cases h2:(cg p).findIdx? (fun r=>r.name==x) with
  |none=>rw[h2] at h;cases h
  |some j =>
   rw[h2] at h
   have e:16+j=v:=Option.some.inj h
   subst e
   rw[List.findIdx?_eq_some_iff_getElem] at h2
   obtain⟨hlt,e,_⟩:=h2
   rw[if_neg (by omega),show 16+j-16=j by omega]
   show((cg p).map Relay.name).getD j []=x
   rw[List.getD_eq_getElem?_getD,List.getElem?_map,List.getElem?_eq_getElem hlt]
   simpa using e
theorem text_of{p:List Line}(f:Faultless p):(schemeOf p).text=p.flatMap jq:=by
 have hs:=sorted_of f.f2
 have e:=sorted_parts p hs
 have hv:=good_all f.f5
 unfold Scheme.text
 have e0:((schemeOf p).inputs.flatMap fun(x:Name)=>textLine [ascii "in",x])=(ofS 0 p).flatMap jq:=by
  rw[gw]
  show(c8 p).flatMap _=_
  clear hs e hv f
  induction p with
  |nil=>rfl
  |cons a p ih=>cases a<;>simp[c8,ofS,Line.sort,List.filterMap_cons,List.filter_cons,jq] at ih ⊢<;>exact ih
 have e1:((schemeOf p).relays.flatMap fun(r:Relay)=>textLine ([ascii "relay",r.name,ascii "at",decimal r.node]++((if r.up=0 then [] else [ascii "up",decimal r.up])++(if r.down=0 then [] else [ascii "down",decimal r.down]))))=(ofS 1 p).flatMap jq:=by
  rw[gw]
  show(cg p).flatMap _=_
  clear hs e hv f e0
  induction p with
  |nil=>rfl
  |cons a p ih=>cases a<;>simp[cg,ofS,Line.sort,List.filterMap_cons,List.filter_cons,jq] at ih ⊢<;>exact ih
 have e2:((schemeOf p).lamps.flatMap fun(l:Lamp)=>textLine [ascii "lamp",l.name,ascii "at",decimal l.node])=(ofS 2 p).flatMap jq:=by
  rw[gw]
  show(lamOf p).flatMap _=_
  clear hs e hv f e0 e1
  induction p with
  |nil=>rfl
  |cons a p ih=>cases a<;>simp[lamOf,ofS,Line.sort,List.filterMap_cons,List.filter_cons,jq] at ih ⊢<;>exact ih
 have e3:((schemeOf p).contacts.flatMap fun(c:Contact)=>textLine [if c.closer=true then ascii "close" else ascii "open",(schemeOf p).varName c.var,decimal c.a,decimal c.b])=(ofS 3 p).flatMap jq:=by
  have hvn:∀ c x a b,Line.contact c x a b∈p->(schemeOf p).varName ((varOf p x).getD 0)=x:=by
   intro c x a b hm
   obtain⟨j,hj⟩:=List.mem_iff_getElem?.mp hm
   have:=hv j _ hj
   have h2:(varOf p x).isNone=false:=this
   cases h3:varOf p x with
   |none=>rw[h3] at h2;cases h2
   |some v=>exact varName_of f h3
  have:(schemeOf p).contacts=ii (fun x=>(varOf p x).getD 0) p:=rfl
  rw[this]
  generalize hS:schemeOf p=S at *
  generalize hV:(fun x=>(varOf p x).getD 0)=V at *
  have hvn':∀ c x a b,Line.contact c x a b∈p->S.varName (V x)=x:=by
   intro c x a b hm
   have:=hvn c x a b hm
   rw[<-hV];exact this
  clear hs e hv f e0 e1 e2 hvn hS hV this
  induction p with
  |nil=>rfl
  |cons a p ih =>
   have ih':=ih fun c x a b hm=>hvn' c x a b (List.mem_cons_of_mem _ hm)
   cases a with
   |contact c x a b =>
    have h1:=hvn' c x a b List.mem_cons_self
    simp[ii,ofS,Line.sort,List.filterMap_cons,List.filter_cons,jq,h1] at ih' ⊢
    exact ih'
   |input x=>simp[ii,ofS,Line.sort,List.filterMap_cons,List.filter_cons,jq] at ih' ⊢;exact ih'
   |relay x=>simp[ii,ofS,Line.sort,List.filterMap_cons,List.filter_cons,jq] at ih' ⊢;exact ih'
   |lamp x=>simp[ii,ofS,Line.sort,List.filterMap_cons,List.filter_cons,jq] at ih' ⊢;exact ih'
 rw[e0,e1,e2,e3]
 conv=>rhs;rw[e]
 simp
theorem read_ok{t:Bytes}{s:Scheme}(h:readText t=.ok s):s.text=t/\SOk s:=by
 obtain⟨init,last,hs,e,f1,f2⟩:=ib t
 rw[kj,j4 hs] at h
 cases ha:Rung.all (init.map lineIn++(if last=[] then [] else [none])) 0 with
 |error k=>rw[ha] at h;cases h
 |ok p =>
  rw[ha] at h
  have hp:init.map lineIn++(if last=[] then [] else [none])=p.map some:=by
   have:∀(l:List (Option Line))(k:Nat)(p:List Line),Rung.all l k=.ok p->l=p.map some:=by
    intro l
    induction l with
    |nil=>intro k p h;cases h;rfl
    |cons o l ih =>
     intro k p h
     cases o with
     |none=>cases h
     |some a =>
      rw[Rung.all] at h
      cases hq:Rung.all l (k+1) with
      |error j=>rw[hq] at h;cases h
      |ok q=>rw[hq] at h;cases h;rw[ih _ _ hq];rfl
   exact this _ _ _ ha
  have hl:last=[]:=by
   by_cases hl:last=[]
   ·exact hl
   ·rw[if_neg hl] at hp
    have:(none:Option Line)∈p.map some:=by rw[<-hp];simp
    simp at this
  rw[if_pos hl,List.append_nil] at hp
  obtain⟨t1,t2⟩:=lines_text hp
  cases hf:faultIn p with
  |some f=>simp[hf] at h
  |none =>
   simp[hf] at h
   have fl:=faultless_of hf
   rw[<-h]
   refine⟨?_,scheme_ok fl t2⟩
   rw[text_of fl,t1,e,hl,List.append_nil]
def eh(c:UInt8):Bool:=isSmall c || isDigit c || c==32 || c==10
def norm(c:UInt8):UInt8:=if eh c=true then c else 63
theorem norm_known{c:UInt8}(h:eh c=true):norm c=c:=by unfold norm;rw[if_pos h]
theorem norm_eq{c d:UInt8}(h:eh d=true):norm c=d<->c=d:=by
 unfold norm
 by_cases hc:eh c=true
 ·rw[if_pos hc]
 ·rw[if_neg hc]
  constructor
  ·intro e;rw[<-e] at h;exact absurd h (by decide)
  ·intro e;rw[e] at hc;exact absurd h hc
def nm(b:Bytes):Bytes:=b.map norm
theorem nm_length(b:Bytes):(nm b).length=b.length:=by simp[nm]
theorem nm_eq:∀{w:Bytes}{b:Bytes},(∀ c∈w,eh c=true)->(nm b=w<->b=w)
 | [],b,_=>by simp[nm]
 |d::w,[],_=>by simp[nm]
 |d::w,c::b,h=>by
  have ih:=nm_eq (w:=w) (b:=b) fun c hc=>h c (List.mem_cons_of_mem _ hc)
  show norm c::nm b=d::w<->c::b=d::w
  rw[List.cons.injEq,List.cons.injEq,norm_eq (h d List.mem_cons_self),ih]
theorem small_norm(c:UInt8):isSmall (norm c)=isSmall c:=by
 unfold norm
 by_cases h:eh c=true
 ·rw[if_pos h]
 ·rw[if_neg h]
  have:isSmall c=false:=by
   cases hs:isSmall c with
   |false=>rfl
   |true=>exact absurd (by simp[eh,hs]) h
  rw[this];decide
theorem digit_norm(c:UInt8):isDigit (norm c)=isDigit c:=by
 unfold norm
 by_cases h:eh c=true
 ·rw[if_pos h]
 ·rw[if_neg h]
  have:isDigit c=false:=by
   cases hs:isDigit c with
   |false=>rfl
   |true=>exact absurd (by simp[eh,hs]) h
  rw[this];decide
theorem ly(b:Bytes):isName (nm b)=isName b:=by
 unfold isName
 rw[nm_length]
 congr 1
 cases b with
 |nil=>rfl
 |cons c r =>
  show(isSmall (norm c)&&(nm r).all fun d=>isSmall d || isDigit d)=(isSmall c&&r.all fun d=>isSmall d || isDigit d)
  rw[small_norm]
  congr 1
  unfold nm
  rw[List.all_map]
  congr 1
  funext d
  show(isSmall (norm d) || isDigit (norm d))=_
  rw[small_norm,digit_norm]
theorem name_nm{b:Bytes}(h:isName b=true):nm b=b:=by
 unfold isName at h
 rw[Bool.and_eq_true] at h
 cases b with
 |nil=>rfl
 |cons c r =>
  have h2:(isSmall c&&r.all fun d=>isSmall d || isDigit d)=true:=h.2
  rw[Bool.and_eq_true,List.all_eq_true] at h2
  have hc:eh c=true:=by simp[eh,h2.1]
  have hr:∀ d∈r,norm d=d:=fun d hd=>norm_known (by have:=h2.2 d hd;simp[eh];simp at this;rcases this with e|e<;>simp[e])
  show norm c::r.map norm=c::r
  rw[norm_known hc]
  congr 1
  have:r.map norm=r.map id:=List.map_congr_left hr
  rw[this,List.map_id]
theorem numberOf_nm{b:Bytes}(h:∀ c∈b,isDigit c=true):nm b=b:=by
 have:b.map norm=b.map id:=List.map_congr_left fun c hc=>norm_known (by simp[eh,h c hc])
 unfold nm
 rw[this,List.map_id]
theorem jz(lo hi:Nat)(b:Bytes):number lo hi (nm b)=number lo hi b:=by
 by_cases h:∀ c∈b,isDigit c=true
 ·rw[numberOf_nm h]
 ·rw[ml,ml,if_neg (fun e=>h fun c hc=>?_),if_neg (fun e=>h e.2.1)]
  have:=e.2.1 (norm c) (List.mem_map_of_mem hc)
  rwa[digit_norm] at this
theorem split_nm{c:UInt8}(hc:eh c=true):∀(b:Bytes),split c (nm b)=(split c b).map nm
 | []=>rfl
 |a::b=>by
  have ih:=split_nm hc b
  show(if norm a=c then []::split c (nm b) else match split c (nm b) with|h::t=>(norm a::h)::t | []=>[[norm a]])=(if a=c then []::split c b else match split c b with|h::t=>(a::h)::t | []=>[[a]]).map nm
  rw[ih]
  by_cases e:a=c
  ·rw[if_pos e,if_pos ((norm_eq hc).mpr e)];rfl
  ·rw[if_neg e,if_neg (fun z=>e ((norm_eq hc).mp z))]
   cases split c b with
   |nil=>rfl
   |cons h t=>rfl
theorem js(P:List Bytes)(i:Nat):part (P.map nm) i=nm (part P i):=by
 unfold part
 rw[List.getD_eq_getElem?_getD,List.getD_eq_getElem?_getD,List.getElem?_map]
 cases P[i]?<;>rfl
theorem j6{w:Bytes}(h:w.all eh=true):∀ c∈w,eh c=true:=by rw[List.all_eq_true] at h;exact h
theorem ke(P:List Bytes)(i:Nat){w:Bytes}(h:w.all eh=true):(part (P.map nm) i=w)=(part P i=w):=by
 rw[js];exact propext (nm_eq (j6 h))
theorem pDelays_nm(z:List Bytes):c7 (z.map nm)=c7 z:=by
 have hd:∀(w:Bytes)(z:List Bytes),w.all eh=true->dStep w (z.map nm)=(dStep w z).map fun u=>(u.1,u.2.map nm):=by
  intro w z hw
  unfold dStep
  simp only[List.length_map,ke _ _ hw]
  simp only[js,jz]
  split
  ·cases number 1 65535 (part z 1)<;>simp
  ·rfl
 unfold c7
 rw[hd _ _ (by decide)]
 cases dStep (ascii "up") z with
 |none=>rfl
 |some u =>
  show(dStep (ascii "down") (u.2.map nm)).bind _=(dStep (ascii "down") u.2).bind _
  rw[hd _ _ (by decide)]
  cases dStep (ascii "down") u.2 with
  |none=>rfl
  |some d=>simp
theorem rRow_nm(P:List Bytes):rRow (P.map nm)=rRow P:=by
 unfold rRow
 have w1:(ascii "in").all eh=true:=by decide
 have w2:(ascii "relay").all eh=true:=by decide
 have w3:(ascii "lamp").all eh=true:=by decide
 have w4:(ascii "open").all eh=true:=by decide
 have w5:(ascii "close").all eh=true:=by decide
 have w6:(ascii "at").all eh=true:=by decide
 simp only[ke _ _ w1,ke _ _ w2,ke _ _ w3,ke _ _ w4,ke _ _ w5]
 have h1:rIn (P.map nm)=rIn P:=by
  unfold rIn
  rw[List.length_map,js,ly]
  split
  ·rename_i h;rw[name_nm h.2]
  ·rfl
 have h2:fo (P.map nm)=fo P:=by
  unfold fo
  simp only[List.length_map,ke _ _ w6,<-List.map_drop,pDelays_nm]
  split
  ·congr 1;funext d
   rw[js,ly]
   split
   ·rename_i h;rw[name_nm h,js,jz]
   ·rfl
  ·rfl
 have h3:jh (P.map nm)=jh P:=by
  unfold jh
  simp only[List.length_map,ke _ _ w6]
  simp only[js,ly]
  split
  ·split
   ·rename_i h;rw[name_nm h,jz]
   ·rfl
  ·rfl
 have h4:∀ cl,cr cl (P.map nm)=cr cl P:=by
  intro cl
  unfold cr
  rw[List.length_map,js,js,js,jz,jz,ly]
  split
  ·congr 1;funext a
   congr 1;funext b
   split
   ·split
    ·rename_i h;rw[name_nm h]
    ·rfl
   ·rfl
  ·rfl
 rw[h1,h2,h3,h4,h4]
theorem lineIn_nm(b:Bytes):lineIn (nm b)=lineIn b:=by rw[lineIn_eq,lineIn_eq,split_nm (by decide),rRow_nm]
theorem split10_nm{t:Bytes}{init:List Bytes}{last:Bytes}(h:split 10 t=init++[last]):split 10 (nm t)=init.map nm++[nm last]:=by
 rw[split_nm (by decide),h];simp
theorem linesIn_nm(t:Bytes):ia (nm t)=ia t:=by
 obtain⟨init,last,h,_⟩:=ib t
 rw[j4 h,j4 (split10_nm h),List.map_map]
 have e1:(lineIn ∘ nm)=lineIn:=by funext b;exact lineIn_nm b
 have e2:(nm last=[])=(last=[]):=by unfold nm;simp
 simp only[e1,e2]
theorem readText_nm(t:Bytes):readText (nm t)=readText t:=by rw[kj,kj,linesIn_nm]
theorem prefix_nm:∀{w:Bytes}(b:Bytes),(∀ c∈w,eh c=true)->w.isPrefixOf (nm b)=w.isPrefixOf b
 | [],b,_=>by simp
 |d::w,[],_=>rfl
 |d::w,c::b,h=>by
  have ih:=prefix_nm (w:=w) b fun c hc=>h c (List.mem_cons_of_mem _ hc)
  show(d==norm c&&w.isPrefixOf (nm b))=(d==c&&w.isPrefixOf b)
  rw[ih]
  congr 1
  rw[Bool.eq_iff_iff,beq_iff_eq,beq_iff_eq]
  have:=norm_eq (c:=c) (h d List.mem_cons_self)
  constructor
  ·intro e;exact(this.mp e.symm).symm
  ·intro e;exact(this.mpr e.symm).symm
theorem isDone_nm(b:Bytes):isDone (nm b)=isDone b:=by
 unfold isDone
 simp only[List.any_cons,List.any_nil]
 rw[prefix_nm _ (j6 (by decide)),prefix_nm _ (j6 (by decide)),prefix_nm _ (j6 (by decide))]
theorem doneIn_nm(b:Bytes):doneIn (nm b)=doneIn b:=by
 unfold doneIn
 rw[split_nm (by decide)]
 match split 32 b with
 | []=>rfl
 | [a]=>rfl
 | [w,x] =>
  show(if nm w=ascii "run" then (number 1 TICKS (nm x)).map Sum.inr else if isName (nm x)=true/\(nm w=ascii "press"\/nm w=ascii "let") then some (Sum.inl (nm x,nm w==ascii "press")) else none)=(if w=ascii "run" then (number 1 TICKS x).map Sum.inr else if isName x=true/\(w=ascii "press"\/w=ascii "let") then some (Sum.inl (x,w==ascii "press")) else none)
  have e1:=propext (nm_eq (w:=ascii "run") (b:=w) (j6 (by decide)))
  have e2:=propext (nm_eq (w:=ascii "press") (b:=w) (j6 (by decide)))
  have e3:=propext (nm_eq (w:=ascii "let") (b:=w) (j6 (by decide)))
  have e4:(nm w==ascii "press")=(w==ascii "press"):=by rw[Bool.eq_iff_iff,beq_iff_eq,beq_iff_eq,e2]
  simp only[e1,e2,e3,e4,jz,ly]
  split
  ·rfl
  ·split
   ·rename_i h;rw[name_nm h.1]
   ·rfl
 |a::b::c::r=>rfl
theorem flat_nm(l:List Bytes):d9 (l.map nm)=nm (d9 l):=by
 induction l with
 |nil=>rfl
 |cons b l ih =>
  have:d9 ((b::l).map nm)=nm b++[10]++d9 (l.map nm):=by unfold d9;simp
  rw[this,ih]
  have:d9 (b::l)=b++[10]++d9 l:=by unfold d9;simp
  rw[this]
  unfold nm
  simp
  decide
theorem playFrom_nm:∀(l:List Bytes)(k:Nat)(p:Panel),playFrom k p (l.map nm)=playFrom k p l
 | [],_,_=>rfl
 |b::l,k,p=>by
  have ih:=fun k p=>playFrom_nm l k p
  show playFrom k p (nm b::l.map nm)=playFrom k p (b::l)
  unfold playFrom
  rw[doneIn_nm]
  simp only[ih]
theorem played_eq{t:Bytes}{init:List Bytes}{last:Bytes}(h:split 10 t=init++[last]):played t=match readText (d9 (init.take ((init.findIdx? isDone).getD init.length))) with
  |.error f=>.error f
  |.ok s=>playFrom ((init.findIdx? isDone).getD init.length) (loaded s) (init.drop ((init.findIdx? isDone).getD init.length)):=by
 unfold played
 rw[lines_whole h]
 rfl
theorem played_nm(t:Bytes):played (nm t)=played t:=by
 obtain⟨init,last,h,_⟩:=ib t
 rw[played_eq h,played_eq (split10_nm h)]
 have e1:(init.map nm).findIdx? isDone=init.findIdx? isDone:=by
  rw[List.findIdx?_map]
  congr 1
  funext b;exact isDone_nm b
 rw[e1,List.length_map,<-List.map_take,<-List.map_drop,flat_nm,readText_nm]
 cases readText (d9 (init.take ((init.findIdx? isDone).getD init.length))) with
 |error f=>rfl
 |ok s=>exact playFrom_nm _ _ _
open Rung RungPanelSeed
theorem pressed_eq(c:Clock)(i:Nat):pressed c i={ c with x:=c.x ^^^ 2 ^ i }:=by
 unfold pressed
 rw[on_eq,turn_bit]
theorem clean_zero(s:Scheme):s.clean 0=0:=by
 unfold Scheme.clean
 have:((List.range 32).filter fun(v:Nat)=>s.hasVar v&&State.on 0 v)=[]:=by
  rw[List.filter_eq_nil_iff]
  intro v _
  rw[on_eq,Nat.zero_testBit,Bool.and_false];simp
 rw[this];rfl
theorem begun_zero(s:Scheme):begun s 0=⟨0,0,List.replicate s.relays.length 0⟩:=by unfold begun;rw[clean_zero]
theorem j2(s:Scheme)(l:List Entry)(e:Entry):again s (l++[e])=(again s l).did e:=by unfold again;rw[List.foldl_append];rfl
theorem did_s(p:Panel)(e:Entry):(p.did e).s=p.s:=by cases e<;>rfl
theorem did_log(p:Panel)(e:Entry):(p.did e).log=p.log++[e]:=by cases e<;>rfl
theorem again_s(s:Scheme)(l:List Entry):(again s l).s=s:=by
 rcases List.eq_nil_or_concat l with rfl|⟨l',e,rfl⟩
 ·rfl
 ·rw[List.concat_eq_append,j2,did_s];exact again_s s l'
termination_by l.length
decreasing_by all_goals (subst_vars;simp)
theorem again_log(s:Scheme)(l:List Entry):(again s l).log=l:=by
 rcases List.eq_nil_or_concat l with rfl|⟨l',e,rfl⟩
 ·rfl
 ·rw[List.concat_eq_append,j2,did_log,again_log s l']
termination_by l.length
decreasing_by all_goals (subst_vars;simp)
structure POk(p:Panel):Prop where
 sok:SOk p.s
 ag:p=again p.s p.log
 len:p.c.waits.length=p.s.relays.length
 tk:p.c.ticks<WRAP
 few:p.log.length<=200
 ents:∀ e∈p.log,match e with | .press i _=>i<p.s.inputs.length | .ran n=>n<=2000
theorem POk.load{s:Scheme}(h:SOk s):POk (loaded s):=by
 refine⟨h,rfl,?_,?_,Nat.zero_le _,fun e he=>nomatch he⟩
 ·show(begun s 0).waits.length=_
  rw[begun_zero];simp[loaded]
 ·show(begun s 0).ticks<_
  rw[begun_zero];show 0<WRAP;decide
theorem POk.press{p:Panel}(h:POk p){i:Nat}{on:Bool}(hi:i<p.s.inputs.length)(hl:p.log.length<200):POk (p.did (.press i on)):=by
 refine⟨h.sok,?_,?_,?_,?_,fun e he=>?_⟩
 ·show p.did (.press i on)=again p.s (p.log++[.press i on])
  rw[j2,<-h.ag]
 ·show(pressed p.c i).waits.length=_
  exact h.len
 ·exact h.tk
 ·rw[did_log];simp;omega
 ·rw[did_log] at he
  rcases List.mem_append.mp he with he|he
  ·exact h.ents e he
  ·have:e=.press i on:=by simpa using he
   subst this;exact hi
theorem POk.ran{p:Panel}(h:POk p){n k:Nat}(hn:n<=2000)(hl:p.log.length<200):POk ⟨p.s,(watch p.s n k p.c).c,p.log++[.ran (watch p.s n k p.c).ticks]⟩:=by
 refine⟨h.sok,?_,watch_c_len n k p.c h.len,kq n k p.c h.tk,by simp;omega,fun e he=>?_⟩
 ·show _=again p.s (p.log++[.ran (watch p.s n k p.c).ticks])
  rw[j2,<-h.ag]
  show _=({ p with c:=(watch p.s (watch p.s n k p.c).ticks 0 p.c).c,log:=p.log++[.ran (watch p.s n k p.c).ticks] }:Panel)
  rw[kd]
 ·rcases List.mem_append.mp he with he|he
  ·exact h.ents e he
  ·have:e=.ran (watch p.s n k p.c).ticks:=by simpa using he
   subst this
   exact Nat.le_trans (g7 n k p.c) hn
theorem ran_did{p:Panel}(n k:Nat):(⟨p.s,(watch p.s n k p.c).c,p.log++[.ran (watch p.s n k p.c).ticks]⟩:Panel)=p.did (.ran (watch p.s n k p.c).ticks):=by
 show _=({ p with c:=(watch p.s (watch p.s n k p.c).ticks 0 p.c).c,log:=p.log++[.ran (watch p.s n k p.c).ticks] }:Panel)
 rw[kd]
theorem POk.again{s:Scheme}(hs:SOk s):∀(l:List Entry),l.length<=200->(∀ e∈l,match e with | .press i _=>i<s.inputs.length | .ran n=>n<=2000)->POk (RungPanelSeed.again s l)
 |l,hl,he=>by
  rcases List.eq_nil_or_concat l with rfl|⟨l',e,rfl⟩
  ·exact POk.load hs
  ·rw[List.concat_eq_append] at hl he ⊢
   have ih:=POk.again hs l' (by simp at hl;omega) fun e h=>he e (List.mem_append_left _ h)
   rw[j2]
   have hlog:(RungPanelSeed.again s l').log.length<200:=by rw[again_log];simp at hl;omega
   have h1:=he e (by simp)
   cases e with
   |press i on=>exact ih.press (by rw[again_s];exact h1) hlog
   |ran n =>
    have:=ih.ran (n:=n) (k:=0) h1 hlog
    rw[ran_did,g6] at this
    exact this
termination_by l=>l.length
decreasing_by all_goals (subst_vars;simp)
theorem POk.back{p:Panel}(h:POk p):POk (RungPanelSeed.again p.s p.log.dropLast):=POk.again h.sok _ (by have:=h.few;simp;omega) fun e he=>h.ents e (List.dropLast_subset _ he)
def rDone(P:List Bytes):Option ((Name×Bool) ⊕ Nat):=if P.length=2/\part P 0=ascii "run" then (number 1 2000 (part P 1)).map Sum.inr
 else if P.length=2/\(part P 0=ascii "press"\/part P 0=ascii "let") then (if isName (part P 1)=true then some (.inl (part P 1,part P 0==ascii "press")) else none) else none
theorem doneIn_eq(b:Bytes):doneIn b=rDone (split 32 b):=by
 unfold doneIn rDone
 match split 32 b with
 | []=>simp
 | [a]=>simp
 | [w,x] =>
  show(if w=ascii "run" then (number 1 TICKS x).map Sum.inr else if isName x=true/\(w=ascii "press"\/w=ascii "let") then some (.inl (x,w==ascii "press")) else none)=if (2:Nat)=2/\w=ascii "run" then (number 1 2000 x).map Sum.inr
   else if (2:Nat)=2/\(w=ascii "press"\/w=ascii "let") then (if isName x=true then some (.inl (x,w==ascii "press")) else none) else none
  by_cases h1:w=ascii "run"
  ·rw[if_pos h1,if_pos ⟨rfl,h1⟩];rfl
  ·have n1:¬((2:Nat)=2/\w=ascii "run"):=fun e=>h1 e.2
   rw[if_neg h1,if_neg n1]
   by_cases h2:w=ascii "press"\/w=ascii "let"
   ·rw[if_pos (show(2:Nat)=2/\(w=ascii "press"\/w=ascii "let") from⟨rfl,h2⟩)]
    by_cases h3:isName x=true
    ·rw[if_pos h3,if_pos ⟨h3,h2⟩]
    ·rw[if_neg h3,if_neg (fun e=>h3 e.1)]
   ·rw[if_neg (show ¬((2:Nat)=2/\(w=ascii "press"\/w=ascii "let")) from fun e=>h2 e.2),if_neg (fun e=>h2 e.2)]
 |a::b::c::r=>simp
theorem findIdx_at{l:List Bytes}{k:Nat}(h:∀ j b,j<k->l[j]?=some b->isDone b=false)(hk:k<=l.length)(he:∀ b,l[k]?=some b->isDone b=true):(l.findIdx? isDone).getD l.length=k:=by
 by_cases hlt:k<l.length
 ·have:l.findIdx? isDone=some k:=by
   rw[List.findIdx?_eq_some_iff_getElem]
   refine⟨hlt,he _ (List.getElem?_eq_getElem hlt),fun j hj=>?_⟩
   have:=h j l[j] hj (List.getElem?_eq_getElem (by omega))
   simp[this]
  rw[this];rfl
 ·have hk':k=l.length:=by omega
  have:l.findIdx? isDone=none:=by
   rw[List.findIdx?_eq_none_iff]
   intro b hb
   obtain⟨j,hj⟩:=List.mem_iff_getElem?.mp hb
   exact h j b (by have:=(List.getElem?_eq_some_iff.mp hj).1;omega) hj
  rw[this,hk'];rfl
structure iy(k:Nat)(p0:Panel)(things:List Bytes)(i:Nat)(p:Panel):Prop where
 ok:POk p
 go:playFrom k p0 things=playFrom (k+i) p (things.drop i)
theorem iy.start{k:Nat}{p:Panel}{things:List Bytes}(h:POk p):iy k p things 0 p:=⟨h,rfl⟩
theorem iy.fin{k:Nat}{p0 p:Panel}{things:List Bytes}(h:iy k p0 things things.length p):playFrom k p0 things=.ok p:=by
 rw[h.go,List.drop_length];rfl
theorem iy.at_{k:Nat}{p0 p:Panel}{things:List Bytes}{i:Nat}{b:Bytes}(h:iy k p0 things i p)(hb:things[i]?=some b):playFrom k p0 things=playFrom (k+i) p (b::things.drop (i+1)):=by
 rw[h.go]
 congr 1
 have hi:=(List.getElem?_eq_some_iff.mp hb)
 rw[List.drop_eq_getElem_cons hi.1,hi.2]
def ge(p:Panel)(b:Bytes):Nat ⊕ Panel:=match doneIn b with
 |none=>.inl 6
 |some (.inr n)=>if 200<=p.log.length then .inl 9 else .inr (p.did (.ran n))
 |some (.inl (x,on))=>match p.s.inputs.findIdx? fun(y:Name)=>y==x with
  |none=>.inl 7
  |some i=>if State.on p.c.x i=on then .inl 8 else if 200<=p.log.length then .inl 9 else .inr (p.did (.press i on))
theorem playFrom_cons(k:Nat)(p:Panel)(b:Bytes)(r:List Bytes):playFrom k p (b::r)=match ge p b with
  |.inl f=>.error (f,k)
  |.inr q=>playFrom (k+1) q r:=by
 unfold ge
 rw[playFrom]
 cases doneIn b with
 |none=>rfl
 |some o =>
  cases o with
  |inr n =>
   show(if 200<=p.log.length then _ else _)=_
   by_cases h:200<=p.log.length
   ·simp[h]
   ·simp[h]
  |inl xo =>
   obtain⟨x,on⟩:=xo
   dsimp only
   cases p.s.inputs.findIdx? fun(y:Name)=>y==x with
   |none=>rfl
   |some i =>
    dsimp only
    by_cases h:State.on p.c.x i=on
    ·simp[h]
    ·by_cases h2:200<=p.log.length
     ·simp[h,show THINGS<=p.log.length from h2,h2]
     ·simp[h,show ¬ THINGS<=p.log.length from h2,h2]
theorem follow_ok{p q:Panel}{b:Bytes}(h:POk p)(e:ge p b=.inr q):POk q:=by
 unfold ge at e
 cases hd:doneIn b with
 |none=>rw[hd] at e;cases e
 |some o =>
  rw[hd] at e
  cases o with
  |inr n =>
   dsimp only at e
   split at e
   ·cases e
   ·rename_i hl
    cases e
    have hn:n<=2000:=by
     rw[doneIn_eq] at hd
     unfold rDone at hd
     split at hd
     ·cases hq:number 1 2000 (part (split 32 b) 1) with
      |none=>rw[hq] at hd;cases hd
      |some m=>rw[hq] at hd;cases hd;exact(c9 hq).2.2
     ·split at hd
      ·split at hd<;>cases hd
      ·cases hd
    have:=h.ran (n:=n) (k:=0) hn (by omega)
    rw[ran_did,g6] at this
    exact this
  |inl xo =>
   obtain⟨x,on⟩:=xo
   dsimp only at e
   cases hf:p.s.inputs.findIdx? fun(y:Name)=>y==x with
   |none=>rw[hf] at e;cases e
   |some i =>
    rw[hf] at e
    dsimp only at e
    split at e
    ·cases e
    ·split at e
     ·cases e
     ·rename_i hl
      cases e
      rw[List.findIdx?_eq_some_iff_getElem] at hf
      exact h.press hf.1 (by omega)
theorem iy.step{k:Nat}{p0 p q:Panel}{things:List Bytes}{i:Nat}{b:Bytes}(h:iy k p0 things i p)(hb:things[i]?=some b)(e:ge p b=.inr q):iy k p0 things (i+1) q:=by
 refine⟨follow_ok h.ok e,?_⟩
 rw[h.at_ hb,playFrom_cons,e];rfl
theorem iy.fault{k f:Nat}{p0 p:Panel}{things:List Bytes}{i:Nat}{b:Bytes}(h:iy k p0 things i p)(hb:things[i]?=some b)(e:ge p b=.inl f):playFrom k p0 things=.error (f,k+i):=by
 rw[h.at_ hb,playFrom_cons,e]
theorem entry_press(s:Scheme)(i:Nat)(on:Bool):entryText s (.press i on)=(if on=true then ascii "press" else ascii "let")++(32::s.inputs.getD i [])++[10]:=by
 show textLine [_,_]=_
 simp[textLine]
theorem entry_ran(s:Scheme)(n:Nat):entryText s (.ran n)=ascii "run"++(32::decimal n)++[10]:=by
 show textLine [_,_]=_
 simp[textLine]
theorem isName_len{x:Bytes}(h:isName x=true):x.length<=12:=by
 unfold isName at h
 rw[Bool.and_eq_true,decide_eq_true_eq] at h
 exact h.1
theorem decimal_len{n:Nat}(h:n<=2000):(decimal n).length<=4:=by
 unfold decimal
 rw[List.length_map]
 exact(Nat.length_toDigits_le_iff (by decide) (by decide)).mpr (by omega)
theorem entry_len{p:Panel}(h:POk p):∀ e∈p.log,(entryText p.s e).length<=19:=by
 intro e he
 have h1:=h.ents e he
 cases e with
 |press i on =>
  rw[entry_press]
  have hn:(p.s.inputs.getD i []).length<=12:=by
   rw[List.getD_eq_getElem?_getD,List.getElem?_eq_getElem h1]
   exact isName_len (h.sok.nm _ (List.getElem_mem h1))
  have h5:(if on=true then ascii "press" else ascii "let").length<=5:=by split<;>decide
  simp only[List.length_append,List.length_cons,List.length_nil]
  omega
 |ran n =>
  rw[entry_ran]
  have:=decimal_len h1
  have h3:(ascii "run").length=3:=by decide
  simp only[List.length_append,List.length_cons,List.length_nil]
  omega
inductive dz:Int->List Int->List (List Int)->List Int->Prop
 |text {p:Int} (hp:p=1\/p=6) (x t:List Int):dz p ((x.length:Int)::(x++t)) [[p],x] t
 |two {p:Int} (hp:p=2\/p=3) (a b:Int) (t:List Int):dz p (a::b::t) [[p,a,b]] t
 |none {p:Int} (hp:p=4\/p=5\/p=7) (t:List Int):dz p t [[p]] t
theorem call_cases{p:Int}{r:List Int}{c:List (List Int)}{t:List Int}(h:PyFlat.call PyWqlgsg.shape (p::r)=some (c,t)):dz p r c t:=by
 unfold PyFlat.call at h
 have row1:∀{c:List (List Int)},(p=1\/p=6)->(match PyFlat.rows 1 (r.drop 0) with
   |none=>none
   |some (xs,t)=>some ((p::r.take 0)::xs,t))=some (c,t)->dz p r c t:=by
  intro c hp h
  cases r with
  |nil=>cases h
  |cons n r =>
   simp only[List.drop_zero,PyFlat.rows,PyFlat.row] at h
   by_cases hn:0<=n/\n.toNat<=r.length
   ·rw[if_pos hn] at h
    simp only[Option.some.injEq,Prod.mk.injEq] at h
    obtain⟨rfl,rfl⟩:=h
    have e:r=r.take n.toNat++r.drop n.toNat:=(List.take_append_drop _ _).symm
    have el:n=((r.take n.toNat).length:Int):=by rw[List.length_take,Nat.min_eq_left hn.2];omega
    have:=dz.text hp (r.take n.toNat) (r.drop n.toNat)
    rw[<-e,<-el] at this
    exact this
   ·rw[if_neg hn] at h;cases h
 have two1:∀{c:List (List Int)},(p=2\/p=3)->(if r.length<2 then none else match PyFlat.rows 0 (r.drop 2) with
   |none=>none
   |some (xs,t)=>some ((p::r.take 2)::xs,t))=some (c,t)->dz p r c t:=by
  intro c hp h
  match r with
  | []=>simp at h
  | [a]=>simp at h
  |a::b::r =>
   simp[PyFlat.rows] at h
   obtain⟨rfl,rfl⟩:=h
   exact dz.two hp a b _
 have non1:∀{c:List (List Int)},(p=4\/p=5\/p=7)->(match PyFlat.rows 0 (r.drop 0) with
   |none=>none
   |some (xs,t)=>some ((p::r.take 0)::xs,t))=some (c,t)->dz p r c t:=by
  intro c hp h
  simp[PyFlat.rows] at h
  obtain⟨rfl,rfl⟩:=h
  exact dz.none hp _
 unfold PyWqlgsg.shape at h
 by_cases h1:p=1
 ·simp only[h1,if_true] at h
  rw[if_neg (by simp)] at h
  exact row1 (.inl h1) (by rw[h1];exact h)
 by_cases h2:p=2
 ·subst h2
  exact two1 (.inl rfl) h
 by_cases h3:p=3
 ·subst h3
  exact two1 (.inr rfl) h
 by_cases h4:p=4
 ·subst h4
  refine non1 (.inl rfl) ?_
  have:(if r.length<0 then none else match PyFlat.rows 0 (r.drop 0) with
   |none=>none
   |some (xs,t)=>some (((4:Int)::r.take 0)::xs,t))=some (c,t):=h
  rwa[if_neg (by simp)] at this
 by_cases h5:p=5
 ·subst h5
  refine non1 (.inr (.inl rfl)) ?_
  have:(if r.length<0 then none else match PyFlat.rows 0 (r.drop 0) with
   |none=>none
   |some (xs,t)=>some (((5:Int)::r.take 0)::xs,t))=some (c,t):=h
  rwa[if_neg (by simp)] at this
 by_cases h6:p=6
 ·subst h6
  refine row1 (.inr rfl) ?_
  have:(if r.length<0 then none else match PyFlat.rows 1 (r.drop 0) with
   |none=>none
   |some (xs,t)=>some (((6:Int)::r.take 0)::xs,t))=some (c,t):=h
  rwa[if_neg (by simp)] at this
 by_cases h7:p=7
 ·subst h7
  refine non1 (.inr (.inr rfl)) ?_
  have:(if r.length<0 then none else match PyFlat.rows 0 (r.drop 0) with
   |none=>none
   |some (xs,t)=>some (((7:Int)::r.take 0)::xs,t))=some (c,t):=h
  rwa[if_neg (by simp)] at this
 simp[h1,h2,h3,h4,h5,h6,h7] at h
def Reads(l:List Int)(cs:List (List (List Int))):Prop:=∃ f,PyFlat.calls PyWqlgsg.shape f l=some cs
theorem Reads.nil{cs:List (List (List Int))}(h:Reads [] cs):cs=[]:=by
 obtain⟨f,h⟩:=h
 cases f<;>(unfold PyFlat.calls at h;cases h;rfl)
theorem Reads.cons{p:Int}{r:List Int}{cs:List (List (List Int))}(h:Reads (p::r) cs):∃ c t cs',cs=c::cs'/\Reads t cs'/\dz p r c t:=by
 obtain⟨f,h⟩:=h
 cases f with
 |zero=>cases h
 |succ f =>
  unfold PyFlat.calls at h
  cases hc:PyFlat.call PyWqlgsg.shape (p::r) with
  |none=>rw[hc] at h;cases h
  |some ct =>
   obtain⟨c,t⟩:=ct
   rw[hc] at h
   dsimp only at h
   cases hr:PyFlat.calls PyWqlgsg.shape f t with
   |none=>rw[hr] at h;cases h
   |some cs'=>rw[hr] at h;cases h;exact⟨c,t,cs',rfl,⟨f,hr⟩,call_cases hc⟩
theorem whole_one{p:Int}{r:List Int}{c:List (List Int)}{t:List Int}(h:dz p r c t):PyWqlgsg.whole c=c:=by
 cases h with
 |text hp x t=>rcases hp with rfl|rfl<;>rfl
 |two hp a b t=>rcases hp with rfl|rfl<;>rfl
 |none hp t=>rcases hp with rfl|rfl|rfl<;>rfl
theorem whole_all:∀{cs:List (List (List Int))}{l:List Int},Reads l cs->cs.map PyWqlgsg.whole=cs
 | [],_,_=>rfl
 |c::cs,[],h=>by cases h.nil
 |c::cs,p::r,h=>by
  obtain⟨c',t,cs',e,h1,h2⟩:=h.cons
  cases e
  rw[List.map_cons,whole_one h2,whole_all h1]
def stOf(cs:List (List (List Int))):RungPanelSeed.State:=cs.foldl (fun s c=>(PanelNeutral.step s c).1) PanelNeutral.start
theorem stOf_snoc(cs:List (List (List Int)))(c:List (List Int)):stOf (cs++[c])=(PanelNeutral.step (stOf cs) c).1:=by unfold stOf;rw[List.foldl_append];rfl
theorem played_snoc{S:Type}(step:S->List (List Int)->S×List Int):∀(cs:List (List (List Int)))(s:S)(c:List (List Int)),PyFlat.played step s (cs++[c])=PyFlat.played step s cs++[(step (cs.foldl (fun s c=>(step s c).1) s) c).2]
 | [],_,_=>rfl
 |d::cs,s,c=>by
  show(step s d).2::PyFlat.played step (step s d).1 (cs++[c])=(step s d).2::(PyFlat.played step (step s d).1 cs++_)
  rw[played_snoc step cs]
  rfl
def outOf(cs:List (List (List Int))):List Int:=PyFlat.told (PyFlat.played PanelNeutral.step PanelNeutral.start cs)
theorem outOf_snoc(cs:List (List (List Int)))(c:List (List Int)):outOf (cs++[c])=outOf cs++(((PanelNeutral.step (stOf cs) c).2.length:Int)::(PanelNeutral.step (stOf cs) c).2):=by
 unfold outOf
 rw[played_snoc]
 unfold PyFlat.told
 rw[List.flatMap_append]
 congr 1
 exact List.append_nil _
theorem answers_reads{l:List Int}{cs:List (List (List Int))}(h:PyFlat.calls PyWqlgsg.shape l.length l=some cs):PyWqlgsg.answers l=outOf cs:=by
 have hc:PyWqlgsg.calls l=some cs:=by
  unfold PyWqlgsg.calls
  rw[h]
  show some (cs.map PyWqlgsg.whole)=some cs
  rw[whole_all ⟨_,h⟩]
 unfold PyWqlgsg.answers
 rw[hc]
 rfl
theorem asked_reads{l:List Int}(h:PyWqlgsg.answers_asked l=true):∃ cs,PyFlat.calls PyWqlgsg.shape l.length l=some cs/\PyWqlgsg.answers l=outOf cs/\cs.length<=250/\(∀ c∈cs,PanelNeutral.asked1 c=true):=by
 unfold PyWqlgsg.answers_asked at h
 cases hc:PyFlat.calls PyWqlgsg.shape l.length l with
 |none =>
  have:PyWqlgsg.calls l=none:=by unfold PyWqlgsg.calls;rw[hc]
  rw[this] at h;cases h
 |some cs =>
  have e:PyWqlgsg.calls l=some cs:=by
   unfold PyWqlgsg.calls
   rw[hc]
   show some (cs.map PyWqlgsg.whole)=some cs
   rw[whole_all ⟨_,hc⟩]
  rw[e] at h
  dsimp only at h
  unfold PanelNeutral.asked at h
  simp only[Bool.and_eq_true,decide_eq_true_eq] at h
  obtain⟨_,_,h2,h3,_⟩:=h
  exact⟨cs,rfl,answers_reads hc,h2,fun c hcm=>by rw[List.all_eq_true] at h3;exact h3 c hcm⟩
def bytesOf(l:List Int):Bytes:=l.map fun(n:Int)=>UInt8.ofNat n.toNat
theorem step_load(st:RungPanelSeed.State)(t:List Int):PanelNeutral.step st [[1],t]=if 20000<t.length then (st,[-1]) else match readText (bytesOf t) with
  |.error f=>(st,[0,(f.1:Int),(f.2:Int)])
  |.ok z=>(some (loaded z),[0,0,0]):=by
 show(if LONGEST<(bytesOf t).length then _ else _)=_
 have:(bytesOf t).length=t.length:=by simp[bytesOf]
 rw[this]
 show(if 20000<t.length then _ else _)=_
 split
 ·rfl
 ·rfl
theorem step_play(st:RungPanelSeed.State)(t:List Int):PanelNeutral.step st [[6],t]=if 40000<t.length then (st,[-1]) else match played (bytesOf t) with
  |.error f=>(st,[0,(f.1:Int),(f.2:Int),0])
  |.ok p=>(some p,[0,0,0,(p.log.length:Int)]):=by
 show(if RungPanelSeed.JOURNAL<(bytesOf t).length then _ else _)=_
 have:(bytesOf t).length=t.length:=by simp[bytesOf]
 rw[this]
 show(if 40000<t.length then _ else _)=_
 split
 ·rfl
 ·rfl
theorem nu(v:Int)(m:Nat):within v m=true<->0<=v/\v<(m:Int):=by unfold within;simp
theorem step_press(p:Panel)(i on:Int):PanelNeutral.step (some p) [[2,i,on]]=if ¬(0<=on/\on<=1) then (some p,[-1]) else if ¬(0<=i/\i<(p.s.inputs.length:Int)) then (some p,[-4])
  else if p.c.x.testBit i.toNat=(on==1) then (some p,[0,0]) else if 200<=p.log.length then (some p,[-7]) else (some (p.did (.press i.toNat (on==1))),[0,1]):=by
 show(if within on 2=false then _ else if within i p.s.inputs.length=false then _ else if State.on p.c.x i.toNat=(on==1) then _ else if THINGS<=p.log.length then _ else _)=_
 have h1:(within on 2=false)=¬(0<=on/\on<=1):=by
  rw[<-Bool.not_eq_true,nu]
  apply propext
  constructor<;>(intro h e;exact h ⟨e.1,by omega⟩)
 have h2:(within i p.s.inputs.length=false)=¬(0<=i/\i<(p.s.inputs.length:Int)):=by rw[<-Bool.not_eq_true,nu]
 simp only[h1,h2,on_eq]
 rfl
theorem step_run(p:Panel)(n k:Int):PanelNeutral.step (some p) [[3,n,k]]=if ¬((0<=n/\n<=2000)/\(0<=k/\k<=2000)) then (some p,[-1]) else if 0<n/\200<=p.log.length then (some p,[-7]) else
  (some (if (watch p.s n.toNat k.toNat p.c).ticks=0 then p else ⟨p.s,(watch p.s n.toNat k.toNat p.c).c,p.log++[.ran (watch p.s n.toNat k.toNat p.c).ticks]⟩),[0,((watch p.s n.toNat k.toNat p.c).ticks:Int),((watch p.s n.toNat k.toNat p.c).turns:Int),if (watch p.s n.toNat k.toNat p.c).ended=true then 1 else 0]++nums ((watch p.s n.toNat k.toNat p.c).told.flatMap fun(t:Nat×Nat)=>[t.1,t.2])):=by
 show(if (within n (TICKS+1)&&within k (TICKS+1))=false then _ else if 0<n/\THINGS<=p.log.length then _ else _)=_
 have h1:((within n (TICKS+1)&&within k (TICKS+1))=false)=¬((0<=n/\n<=2000)/\(0<=k/\k<=2000)):=by
  rw[<-Bool.not_eq_true,Bool.and_eq_true,nu,nu]
  have:((TICKS+1:Nat):Int)=2001:=rfl
  rw[this]
  apply propext
  constructor<;>(intro h e;exact h ⟨⟨e.1.1,by omega⟩,e.2.1,by omega⟩)
 simp only[h1]
 rfl
theorem step_told(p:Panel):PanelNeutral.step (some p) [[4]]=(some p,[0,(p.c.x:Int),(lampBits p.s p.c.x:Int),(p.c.ticks:Int)]++nums p.c.waits):=rfl
theorem step_journal(p:Panel):PanelNeutral.step (some p) [[5]]=(some p,0::textOut p.journal):=rfl
theorem step_back(p:Panel):PanelNeutral.step (some p) [[7]]=if p.log=[] then (some p,[-5]) else (some (RungPanelSeed.again p.s p.log.dropLast),[0]):=rfl
end Lm
namespace L2
open PySem PySem.Spec PyProof.Rows
abbrev Key:=Sum Int Str
def keyIs:Key->Value->Bool
 |.inl k,v=>Value.isInt k v
 |.inr x,v=>Value.isStrOf x v
def keyH(w:World):Key->Int
 |.inl k=>hashInt k
 |.inr x=>hashStr w x
theorem dy:∀{k:Key}{v:Value},keyIs k v=true->(∃ i t,k=Sum.inl i/\v=Value.int i t)\/(∃ x t,k=Sum.inr x/\v=Value.str x t)
 |.inl i,v,h=>by
  obtain⟨t,e⟩:=Value.isInt_shape (k:=i) (v:=v) h
  exact .inl ⟨i,t,rfl,e⟩
 |.inr x,v,h=>by
  obtain⟨t,e⟩:=Value.isStrOf_shape (x:=x) (v:=v) h
  exact .inr ⟨x,t,rfl,e⟩
theorem keyIs_int(i:Int)(t:Tok):keyIs (.inl i) (.int i t)=true:=by simp[keyIs,Value.isInt]
theorem keyIs_str(x:Str)(t:Tok):keyIs (.inr x) (.str x t)=true:=by simp[keyIs,Value.isStrOf]
theorem key_ll(a b:Int):decide ((Sum.inl a:Key)=Sum.inl b)=(a==b):=by
 by_cases e:a=b
 ·subst e;simp
 ·have h:¬(Sum.inl a:Key)=Sum.inl b:=fun q=>e (Sum.inl.inj q)
  rw[decide_eq_false h]
  exact(beq_eq_false_iff_ne.mpr e).symm
theorem key_rr(a b:Str):decide ((Sum.inr a:Key)=Sum.inr b)=decide (a=b):=by
 by_cases e:a=b
 ·subst e;simp
 ·have h:¬(Sum.inr a:Key)=Sum.inr b:=fun q=>e (Sum.inr.inj q)
  rw[decide_eq_false h,decide_eq_false e]
theorem key_lr(a:Int)(b:Str):decide ((Sum.inl a:Key)=Sum.inr b)=false:=decide_eq_false (fun q=>nomatch q)
theorem key_rl(a:Str)(b:Int):decide ((Sum.inr a:Key)=Sum.inl b)=false:=decide_eq_false (fun q=>nomatch q)
def fh(prog:Program)(w:World):PySem.KeyKind prog w Key where
 is:=keyIs
 hash:=keyH w
 inj:=fun v a b ha hb=>by
  rcases dy ha with⟨i,t,rfl,rfl⟩|⟨x,t,rfl,rfl⟩
  ·rcases dy hb with⟨j,u,rfl,e⟩|⟨y,u,rfl,e⟩
   ·injection e with e1 _;rw[e1]
   ·exact nomatch e
  ·rcases dy hb with⟨j,u,rfl,e⟩|⟨y,u,rfl,e⟩
   ·exact nomatch e
   ·injection e with e1 _;rw[e1]
 byValue:=fun k v h=>by
  rcases dy h with⟨i,t,rfl,rfl⟩|⟨x,t,rfl,rfl⟩<;>rfl
 pyHash:=fun hv h=>by
  rcases dy hv with⟨i,t,rfl,rfl⟩|⟨x,t,rfl,rfl⟩
  ·exact wpAny_pyHash_int h
  ·exact wpAny_pyHash_str h
 eqBool:=fun hu hv h=>by
  rcases dy hu with⟨i,t,rfl,rfl⟩|⟨x,t,rfl,rfl⟩
  ·rcases dy hv with⟨j,u,rfl,rfl⟩|⟨y,u,rfl,rfl⟩
   ·rw[key_ll] at h;exact wpAny_eqBool_int h
   ·rw[key_lr] at h;exact SeqAt.EqAt.int_str i t y u _ _ _ _ h
  ·rcases dy hv with⟨j,u,rfl,rfl⟩|⟨y,u,rfl,rfl⟩
   ·rw[key_rl] at h;exact SeqAt.EqAt.str_int x t j u _ _ _ _ h
   ·rw[key_rr] at h;exact wpAny_eqBool_str h
 «strs»:=fun k x t v h=>by
  rcases dy h with⟨i,u,rfl,e⟩|⟨y,u,rfl,e⟩
  ·exact nomatch e
  ·injection e with e1 _
   subst e1
   cases v<;>rfl
theorem mixKind_int(prog:Program)(w:World)(i:Int)(t:Tok):(fh prog w).is (.inl i) (.int i t)=true:=keyIs_int i t
theorem mixKind_str(prog:Program)(w:World)(x:Str)(t:Tok):(fh prog w).is (.inr x) (.str x t)=true:=keyIs_str x t
inductive V where
 |non|bl (b:Bool)|int (i:Int)|str (x:Str)|byt (b:Array UInt8)|flt (b:UInt64)|ref (a:Addr)|ty (n:String)
 deriving DecidableEq
def RelV:V->Value->Prop
 |.non,u=>u=Value.none
 |.bl b,u=>u=Value.bool b
 |.int i,u=>∃ t,u=Value.int i t
 |.str x,u=>∃ t,u=Value.str x t
 |.byt b,u=>∃ t,u=Value.bytes b t
 |.flt b,u=>∃ t,u=Value.float b t
 |.ref a,u=>u=Value.ref a
 |.ty n,u=>u=Value.type n
abbrev bh:List V->List Value->Prop:=Paired RelV
theorem bh.length{xs:List V}{us:List Value}(r:bh xs us):xs.length=us.length:=Paired.length r
theorem bh.get:∀{xs:List V}{us:List Value}{i:Nat}{x:V},bh xs us->xs[i]?=some x->∃ u,us[i]?=some u/\RelV x u
 |_,_,_,_,.nil,e=>by simp at e
 |_,_,0,_,.cons r _,e=>by simp at e;subst e;exact⟨_,rfl,r⟩
 |_,_,i+1,x,.cons _ t,e=>by
  obtain⟨u,h1,h2⟩:=bh.get (i:=i) (x:=x) t (by simpa using e)
  exact⟨u,by simpa using h1,h2⟩
theorem bh.set{x:V}{u:Value}(r:RelV x u):∀{xs:List V}{us:List Value}(i:Nat),bh xs us->bh (xs.set i x) (us.set i u)
 |_,_,_,.nil=>.nil
 |_,_,0,.cons _ t=>.cons r t
 |_,_,i+1,.cons q t=>.cons q (bh.set r i t)
theorem bh.append:∀{xs ys:List V}{us ws:List Value},bh xs us->bh ys ws->bh (xs++ys) (us++ws)
 |_,_,_,_,.nil,s=>s
 |_,_,_,_,.cons r t,s=>.cons r (bh.append t s)
theorem bh.take:∀{xs:List V}{us:List Value}(n:Nat),bh xs us->bh (xs.take n) (us.take n)
 |_,_,0,_=>.nil
 |_,_,_+1,.nil=>.nil
 |_,_,n+1,.cons r t=>.cons r (bh.take n t)
theorem bh.drop:∀{xs:List V}{us:List Value}(n:Nat),bh xs us->bh (xs.drop n) (us.drop n)
 |_,_,0,r=>r
 |_,_,_+1,.nil=>.nil
 |_,_,n+1,.cons _ t=>bh.drop n t
def k8:Option V->Option Value->Prop
 |some v,some u=>RelV v u
 |none,none=>True
 |_,_=>False
def KV{κ:Type}:List (κ×V)->List (κ×Value)->Prop:=Paired fun(p:κ×V)(q:κ×Value)=>p.1=q.1/\RelV p.2 q.2
def kV:Key->V
 |.inl i=>.int i
 |.inr x=>.str x
inductive HO where
 /-- a list -/
 |lst (xs:List V)
 /-- a tuple (never changes) -/
 |tup (xs:List V)
 /-- a dict whose keys are ints and texts;one whose keys are tuples of ints and texts (the empty one is both) -/
 |dK (kvs:List (Key×V))|dT (kvs:List (List Key×V))
 /-- a set of ints: its members,its size -/
 |set (S:Int->Bool) (n:Nat)
 /-- an instance of the class at C,its dict at dx,its attributes -/
 |ins (C dx:Addr) (fs:List (Str×V))
 /-- the dict of the instance at x -/
 |own (x:Addr)
 /-- the dict of an exception -/
 |xd (fs:List (Str×V))
 /-- a bound method,f of x -/
 |met (f x:Addr)
 /-- a range object lo,lo+1,.. below hi -/
 |rng (lo hi:Int)
 /-- a thing that is eh to the object (the script;a dict while a loop walks it): read,never written while it is so -/
 |frz (o:Obj) (u:HO)
 /-- a code object's table -/
 |tbl (ps:Array Value)
 /-- any other thing,by what is true of its one object (a def of one's own: SetO a S n:=HO.ext fun h=>..) -/
 |ext (φ:Heap->Prop)
abbrev Hp:=Addr->Option HO
def upd(H:Hp)(a:Addr)(o:HO):Hp:=fun b=>if b=a then some o else H b
theorem ac{H:Hp}{a:Addr}{o:HO}:upd H a o a=some o:=by unfold upd;rw[if_pos rfl]
theorem ai{H:Hp}{a b:Addr}{o:HO}(h:b≠a):upd H a o b=H b:=by unfold upd;rw[if_neg h]
theorem cu{H:Hp}{a:Addr}{o u:HO}:upd (upd H a o) a u=upd H a u:=by
 funext b;unfold upd;split<;>rfl
theorem eq{H:Hp}{a b:Addr}{o u:HO}(h:H a=some o)(h':H b=some u)(d:o≠u):a≠b:=by
 intro e;subst e;rw[h] at h';exact d (Option.some.inj h')
theorem ap{H:Hp}{a b:Addr}{o:HO}(h:H a=some o)(h':H b=none):a≠b:=by
 intro e;subst e;rw[h] at h';cases h'
section
variable(P:Program)(w:World)
def di(H:Hp)(h:Heap)(a:Addr):HO->Prop
 |.lst xs=>xs.length<=sizeLine/\∃(its:List Value)(n:Nat),bh xs its/\h.get? a=some { cls:=.type "list",data:=.seq its.toArray n }
 |.tup xs=>xs.length<=sizeLine/\∃ its:List Value,bh xs its/\IsTup h a its.toArray
 |.dK kvs=>kvs.length<=sizeLine/\(a==sysModules)=false/\∃ vs,KV kvs vs/\h.DictOf (fh P w) a vs
 |.dT kvs=>kvs.length<=sizeLine/\(a==sysModules)=false/\∃ xs:List (List Key×Addr×Value),Paired (fun(p:List Key×V)(q:List Key×Addr×Value)=>p.1=q.1/\H q.2.1=some (.tup (p.1.map kV))/\RelV p.2 q.2.2) kvs xs/\∃ o es ep,h.get? a=some o/\o.ExactDict/\o.data=.dict es ep/\es.toList=xs.map (entryOfKey (tupleKind (fh P w)))/\(xs.map (·.1)).Nodup
 |.set S n=>h.SetOf (intKind P w) a S n
 |.ins C dx fs=>H dx=some (.own a)/\fs.length<=1000/\dx≠a/\h.get? a=some (W.instObj C dx)/\∃ mA,h.Ns1 dx mA/\(∀ f,k8 (fs.lookup f) (mA f))/\PySem.Within mA (fs.map (·.1))
 |.own _=>∃ o,h.get? a=some o
 |.xd fs=>∃ mA,h.Ns1 a mA/\∀ f,k8 (fs.lookup f) (mA f)
 |.rng lo hi=>∃ t u v,h.get? a=some { cls:=.type "range",data:=.fields #[.int lo t,.int hi u,.int 1 v] }
 |.frz o u=>h.get? a=some o/\di H h a u
 |.tbl ps=>h.get? a=some { cls:=.none,data:=.fields ps }
 |.met f x=>h.get? a=some (W.methodObj (.ref f) (.ref x))
 |.ext φ=>φ h/\(∃ o,h.get? a=some o)/\∀ h1 h2:Heap,φ h1->(∀ o,h1.get? a=some o->h2.get? a=some o)->φ h2
def HOk(H:Hp)(h:Heap):Prop:=∀ a o,H a=some o->di P w H h a o
end
section
variable{P:Program}{w:World}{H H':Hp}{h h':Heap}{a:Addr}{o:HO}
theorem di.lt(x:di P w H h a o):a<h.objs.size:=by
 cases o with
 |lst xs=>obtain⟨_,_,_,_,e⟩:=x;exact Heap.lt_size e
 |tup xs=>obtain⟨_,_,_,p⟩:=x;exact p.lt
 |dK kvs=>obtain⟨_,_,_,_,o,_,_,e,_⟩:=x;exact Heap.lt_size e
 |dT kvs=>obtain⟨_,_,_,_,o,_,_,e,_⟩:=x;exact Heap.lt_size e
 |set S n=>obtain⟨o,_,_,_,e,_⟩:=x;exact Heap.lt_size e
 |ins C dx fs=>obtain⟨_,_,_,e,_⟩:=x;exact Heap.lt_size e
 |own y=>obtain⟨_,e⟩:=x;exact Heap.lt_size e
 |xd fs=>obtain⟨_,⟨_,_,_,e,_⟩,_⟩:=x;exact Heap.lt_size e
 |rng lo hi=>obtain⟨_,_,_,e⟩:=x;exact Heap.lt_size e
 |frz ob u=>obtain⟨e,_⟩:=x;exact Heap.lt_size e
 |tbl ps=>exact Heap.lt_size (show h.get? a=some _ from x)
 |met f y=>exact Heap.lt_size (show h.get? a=some _ from x)
 |ext φ=>obtain⟨_,⟨_,e⟩,_⟩:=x;exact Heap.lt_size e
theorem Paired.mapP{α β:Type}{F G:α->β->Prop}:∀{l₁:List α}{l₂:List β},Paired F l₁ l₂->(∀ a b,F a b->G a b)->Paired G l₁ l₂
 |_,_,.nil,_=>.nil
 |_,_,.cons r t,f=>.cons (f _ _ r) (Paired.mapP t f)
theorem di.stay(x:di P w H h a o)(k:∀ b u,(b=a\/H b=some (.own a))->h.get? b=some u->h'.get? b=some u)(ho:∀ b,H b=some (.own a)->H' b=some (.own a))(ht:∀ b xs,H b=some (.tup xs)->H' b=some (.tup xs)):di P w H' h' a o:=by
 induction o with
 |lst xs=>obtain⟨z,its,n,r,e⟩:=x;exact⟨z,its,n,r,k _ _ (.inl rfl) e⟩
 |tup xs=>obtain⟨z,its,r,ob,e,c⟩:=x;exact⟨z,its,r,ob,k _ _ (.inl rfl) e,c⟩
 |dK kvs=>obtain⟨z,y,vs,r,ob,es,ep,e,c⟩:=x;exact⟨z,y,vs,r,ob,es,ep,k _ _ (.inl rfl) e,c⟩
 |dT kvs =>
  obtain⟨z,y,xs,r,ob,es,ep,e,c⟩:=x
  exact⟨z,y,xs,Paired.mapP r fun p q z=>⟨z.1,ht _ _ z.2.1,z.2.2⟩,ob,es,ep,k _ _ (.inl rfl) e,c⟩
 |set S n=>obtain⟨ob,es,ep,t,e,c⟩:=x;exact⟨ob,es,ep,t,k _ _ (.inl rfl) e,c⟩
 |ins C dx fs =>
  obtain⟨d,z,ne,e,mA,⟨od,es,ep,e2,c⟩,r⟩:=x
  exact⟨ho _ d,z,ne,k _ _ (.inl rfl) e,mA,⟨od,es,ep,k _ _ (.inr d) e2,c⟩,r⟩
 |own y=>obtain⟨ob,e⟩:=x;exact⟨ob,k _ _ (.inl rfl) e⟩
 |xd fs=>obtain⟨mA,⟨od,es,ep,e,c⟩,r⟩:=x;exact⟨mA,⟨od,es,ep,k _ _ (.inl rfl) e,c⟩,r⟩
 |rng lo hi=>obtain⟨t,u,v,e⟩:=x;exact⟨t,u,v,k _ _ (.inl rfl) e⟩
 |frz ob u ih=>obtain⟨e,q⟩:=x;exact⟨k _ _ (.inl rfl) e,ih q⟩
 |tbl ps =>
  have e:h.get? a=some { cls:=.none,data:=.fields ps }:=x
  show h'.get? a=some { cls:=.none,data:=.fields ps }
  exact k a _ (.inl rfl) e
 |met f y =>
  have e:h.get? a=some (W.methodObj (.ref f) (.ref y)):=x
  show h'.get? a=some (W.methodObj (.ref f) (.ref y))
  exact k a _ (.inl rfl) e
 |ext φ=>obtain⟨p,⟨o,e⟩,st⟩:=x;exact⟨st _ _ p fun o q=>k _ _ (.inl rfl) q,⟨o,k _ _ (.inl rfl) e⟩,st⟩
theorem HOk.lt(x:HOk P w H h)(e:H a=some o):a<h.objs.size:=(x a o e).lt
theorem HOk.fresh(x:HOk P w H h)(e:h.objs.size<=a):H a=none:=by
 cases q:H a with
 |none=>rfl
 |some u=>exact absurd (Nat.lt_of_lt_of_le (x.lt q) e) (Nat.lt_irrefl _)
theorem HOk.kept(x:HOk P w H h)(k:∀ b u,h.get? b=some u->h'.get? b=some u):HOk P w H h':=fun a o e =>
 (x a o e).stay (fun b u _ q=>k b u q) (fun _ q=>q) fun _ _ q=>q
theorem HOk.laid(x:HOk P w H h)(k:∀ b u,h.get? b=some u->h'.get? b=some u)(hp:h.objs.size<=a)(new:di P w (upd H a o) h' a o):HOk P w (upd H a o) h':=fun b u e=>by
 have hn:=x.fresh hp
 by_cases hb:b=a
 ·subst hb;rw[ac] at e;cases e;exact new
 ·rw[ai hb] at e
  exact(x b u e).stay (fun c v _ q=>k c v q) (fun c q=>by rw[ai (ap q hn)];exact q) fun c xs q=>by rw[ai (ap q hn)];exact q
def Rd(H:Hp)(a:Addr)(u:HO):Prop:=H a=some u\/∃ o,H a=some (.frz o u)
theorem Rd.ok{P:Program}{w:World}{H:Hp}{h:Heap}{a:Addr}{u:HO}(r:Rd H a u)(x:HOk P w H h):di P w H h a u:=by
 rcases r with r|⟨o,r⟩
 ·exact x a u r
 ·obtain⟨_,q⟩:=x a _ r
  exact q
def Mut:Option HO->Prop
 |some (.lst _)=>True
 |some (.dK _)=>True
 |some (.dT _)=>True
 |some (.set _ _)=>True
 |some (.ins _ _ _)=>True
 |some (.ext _)=>True
 |_=>False
end
section
variable{P:Program}{w:World}{H:Hp}{h h':Heap}{x e:Addr}{o':HO}
theorem HOk.write(ok:HOk P w H h)(mu:Mut (H x))(he:e=x\/H e=some (.own x))(k:∀ b u,b≠e->h.get? b=some u->h'.get? b=some u)(heo:∃ u,h'.get? e=some u)(new:di P w (upd H x o') h' x o'):HOk P w (upd H x o') h':=fun b u q=>by
 have nown:∀ c y,H c=some (.own y)->c≠x:=fun c y r z=>by subst z;rw[r] at mu;exact mu
 have ntup:∀ c xs,H c=some (.tup xs)->c≠x:=fun c xs r z=>by subst z;rw[r] at mu;exact mu
 by_cases hb:b=x
 ·subst hb;rw[ac] at q;cases q;exact new
 ·rw[ai hb] at q
  by_cases hbe:b=e
  ·have q':H b=some (.own x):=by
    rcases he with z|z
    ·exact absurd (hbe.trans z) hb
    ·rw[hbe];exact z
   rw[q] at q';cases q'
   obtain⟨v,hv⟩:=heo
   exact⟨v,by rw[hbe];exact hv⟩
  ·refine(ok b u q).stay (fun c v hc r=>k c v ?_ r) (fun c r=>by rw[ai (nown c b r)];exact r) fun c xs r=>by rw[ai (ntup c xs r)];exact r
   rcases hc with rfl|hc
   ·exact hbe
   ·rintro rfl
    rcases he with z|z
    ·exact nown c b hc z
    ·rw[hc] at z;cases z;exact hb rfl
end
structure Un(fs ex:List Addr)(H H':Hp)(h h':Heap):Prop where
 keep:∀ b o,h.get? b=some o->H b=none->b∉fs->b∉ex->h'.get? b=some o
 slot:∀ b o,h.get? b=some o->H b=none->b∈fs->b∉ex->∃ sl,h'.get? b=some { o with slots:=sl }
 free:∀ b o,h.get? b=some o->H b=none->b∉ex->H' b=none
 there:∀ b o,h.get? b=some o->b∉ex->∃ o',h'.get? b=some o'
 tups:∀ b xs,H b=some (.tup xs)->H' b=some (.tup xs)
 frzs:∀ b o u,H b=some (.frz o u)->H' b=some (.frz o u)
 tbls:∀ b ps,H b=some (.tbl ps)->∃ more,H' b=some (.tbl (ps++more))
section
variable{fs fs' ex ex':List Addr}{H H1 H2:Hp}{h h1 h2 h':Heap}{a x e:Addr}{o:HO}
theorem Un.any(u:Un fs ex H H1 h h1){b:Addr}{ob:Obj}(q:h.get? b=some ob)(n:H b=none)(hx:b∉ex):∃ sl,h1.get? b=some { ob with slots:=sl }:=by
 by_cases hb:b∈fs
 ·exact u.slot b ob q n hb hx
 ·exact⟨ob.slots,u.keep b ob q n hb hx⟩
theorem Un.kept(k:∀ b u,h.get? b=some u->h'.get? b=some u):Un fs ex H H h h':=⟨fun b ob q _ _ _=>k b ob q,fun b ob q _ _ _=>⟨ob.slots,k b ob q⟩,fun _ _ _ n _=>n,fun b ob q _=>⟨ob,k b ob q⟩,fun _ _ q=>q,fun _ _ _ q=>q,fun _ ps q=>⟨#[],by rw[q];simp⟩⟩
theorem Un.refl:Un fs ex H H h h:=Un.kept fun _ _ q=>q
theorem Un.laid(k:∀ b u,h.get? b=some u->h'.get? b=some u)(hp:h.objs.size<=a)(hn:H a=none):Un fs ex H (upd H a o) h h' where
 keep:=fun b u q _ _ _=>k b u q
 slot:=fun b u q _ _ _=>⟨u.slots,k b u q⟩
 free:=fun b u q n _=>by rw[ai (Nat.ne_of_lt (Nat.lt_of_lt_of_le (Heap.lt_size q) hp))];exact n
 there:=fun b u q _=>⟨u,k b u q⟩
 tups:=fun b xs q=>by rw[ai (ap q hn)];exact q
 frzs:=fun b u xs q=>by rw[ai (ap q hn)];exact q
 tbls:=fun b ps q=>⟨#[],by rw[ai (ap q hn),q];simp⟩
theorem Un.write(mu:Mut (H x))(he:e=x\/H e=some (.own x))(k:∀ b u,b≠e->h.get? b=some u->h'.get? b=some u)(heo:∃ u,h'.get? e=some u):Un fs ex H (upd H x o) h h':=by
 have hx:∀ b,H b=none->b≠x:=fun b n z=>by subst z;rw[n] at mu;exact mu
 have hb:∀ b,H b=none->b≠e:=fun b n z=>by
  subst z
  rcases he with r|r
  ·exact hx b n r
  ·rw[n] at r;cases r
 have hm:∀ b u,H b=some u->¬ Mut (some u)->b≠x:=fun b u q nm z=>by subst z;rw[q] at mu;exact nm mu
 refine⟨fun b u q n _ _=>k b u (hb b n) q,fun b u q n _ _=>⟨u.slots,k b u (hb b n) q⟩,fun b u q n _=>by rw[ai (hx b n)];exact n,fun b u q _=>?_,fun b xs q=>by rw[ai (hm b _ q fun z=>z)];exact q,fun b u xs q=>by rw[ai (hm b _ q fun z=>z)];exact q,fun b ps q=>⟨#[],by rw[ai (hm b _ q fun z=>z),q];simp⟩⟩
 by_cases hbe:b=e
 ·subst hbe;exact heo
 ·exact⟨u,k b u hbe q⟩
def trk(h:Heap)(H:Hp):List Addr:=(List.range h.objs.size).filter fun a=>(H a).isSome
def hidT(h:Heap)(H:Hp):Heap:=W.hideAll h (trk h H)
theorem hidT_size(h:Heap)(H:Hp):(hidT h H).objs.size=h.objs.size:=W.hideAll_size _ _
theorem hidT_get{h:Heap}{H:Hp}{b:Addr}{o:Obj}(e:h.get? b=some o)(n:H b=none):(hidT h H).get? b=some o:=W.hideAll_get _ e fun hm=>by
 have q:(H b).isSome=true:=(List.mem_filter.mp hm).2
 rw[n] at q;simp at q
theorem of_hidT{h:Heap}{H:Hp}{b:Addr}{o:Obj}(e:(hidT h H).get? b=some o):h.get? b=some o/\H b=none:=by
 have e':h.get? b=some o:=W.of_hideAll (trk h H) e
 refine⟨e',?_⟩
 cases q:H b with
 |none=>rfl
 |some x =>
  have hm:b∈trk h H:=List.mem_filter.mpr ⟨List.mem_range.mpr (Heap.lt_size e'),by simp[q]⟩
  have z:(hidT h H).get? b=none:=W.hideAll_none (trk h H) hm
  rw[z] at e;cases e
end
structure Mod(K:W.Frag)(mg:Str->Option Value)(base:Heap):Prop where
 kin:K.In base
 glob:base.Ns mainGlobals mg
 blt:∃ mb,base.Ns builtinsNs mb/\∀ x:Str,x≠"__name__"->mb x=bootBuiltins x
 nolimit:base.NoLimit
structure Cx where
 prog:Program
 w:World
 K:W.Frag
 mg:Str->Option Value
 base:Heap
 A:Around
 N:List Str
 s_0:Shared
 H_0:Hp
 env:Env
 outer:List Env
 stack:List Env
 ex:List Addr
 fn:Str->Bool
 calm:Bool
 pn:List (Addr×Obj)
 xe:Value->Shared->Prop
def frs(l:List Env):List Addr:=l.filterMap (·.frame)
abbrev Cx.fs(X:Cx):List Addr:=frs X.outer
def Vis(sc:Scope)(x:Str):Prop:=sc.names.lookup x=some .local\/sc.names.lookup x=some .cell\/sc.names.lookup x=some .free
def Loc(sc:Scope)(x:Str):Prop:=sc.names.lookup x=some .local\/sc.names.lookup x=some .cell
def Look(env:Env)(h:Heap)(m:Str->Option Value)(x:Str)(u:Value):Prop:=(env.kindOf x=some .local/\m x=some u)\/((env.kindOf x=some .cell\/env.kindOf x=some .free)/\∃ c,env.cells.lookup x=some c/\h.IsCell c (some u))
structure Cx.Ok(X:Cx):Prop where
 mod:Mod X.K X.mg X.base
 kind:X.env.scope.kind=.function
 glob:X.env.globals=mainGlobals
 blt:X.env.builtins=builtinsNs
 above:X.s_0.heap.objs.size<=X.env.locals
 inj:∀ x y c,X.env.cells.lookup x=some c->X.env.cells.lookup y=some c->x=y
 has:∀ x,(X.env.kindOf x=some .cell\/X.env.kindOf x=some .free)->∃ c,X.env.cells.lookup x=some c
 cab:∀ x c,X.fn x=true->X.env.cells.lookup x=some c->X.s_0.heap.objs.size<=c
 hd:X.calm=true->X.A.handled=none
 frames:X.A.frames=some X.stack
 stk:X.stack=X.outer\/(X.stack=X.env::X.outer/\X.env.frame=some X.env.locals)
 exf:∀ b∈X.ex,b≠X.env.locals/\∀ x c,X.env.cells.lookup x=some c->c≠b
 bs:∀ b o,X.base.get? b=some o->X.s_0.heap.get? b=some o/\X.H_0 b=none
 bsz:X.base.objs.size<=X.s_0.heap.objs.size
 noex:∀ b o,X.base.get? b=some o->b∉X.ex
 exfs:∀ b∈X.ex,b∉X.fs
 funs:X.s_0.heap.FunFrames X.base X.outer
 frf:∀ b∈X.fs,X.H_0 b=none
structure Inv(X:Cx)(pins:List (Addr×Obj))(σ:List (Option V))(H:Hp)(s:Shared):Prop where
 ok:X.Ok
 os:s.os=X.s_0.os
 bare:AllBare s.gens
 base:Un X.fs X.ex X.H_0 H X.s_0.heap s.heap
 loc:∃ m,s.heap.Ns X.env.locals m/\∀(i:Nat)(x:Str)(v:V),X.N[i]?=some x->σ[i]?=some (some v)->Vis X.env.scope x->∃ u,RelV v u/\Look X.env s.heap m x u
 cell:∀ x c,X.env.cells.lookup x=some c->∃ v,s.heap.IsCell c v
 free:H X.env.locals=none
 freeC:∀ x c,X.env.cells.lookup x=some c->H c=none
 pin:∀ p∈X.pn++pins,s.heap.get? p.1=some p.2/\H p.1=none/\p.1≠X.env.locals/\p.1∉X.fs/\∀ v,p.2.data≠.cell v
 hok:HOk X.prog X.w H s.heap
 len:σ.length=X.N.length
section
variable{X:Cx}{pins:List (Addr×Obj)}{σ:List (Option V)}{H H':Hp}{s:Shared}{h':Heap}
theorem Cx.Ok.nofr(ok:X.Ok){b:Addr}{o:Obj}(e:X.base.get? b=some o):b∉X.fs:=fun hb=>by
 have:=(ok.funs.mem hb).1
 rw[e] at this;cases this
theorem Inv.bs(I:Inv X pins σ H s):∀ b o,X.base.get? b=some o->s.heap.get? b=some o/\H b=none:=fun b o e =>
 ⟨I.base.keep b o (I.ok.bs b o e).1 (I.ok.bs b o e).2 (I.ok.nofr e) (I.ok.noex b o e),I.base.free b o (I.ok.bs b o e).1 (I.ok.bs b o e).2 (I.ok.noex b o e)⟩
theorem Inv.bk(I:Inv X pins σ H s):∀ b o,X.base.get? b=some o->s.heap.get? b=some o:=fun b o e=>(I.bs b o e).1
theorem Inv.mod(I:Inv X pins σ H s):Mod X.K X.mg X.base:=I.ok.mod
theorem Inv.kIn(I:Inv X pins σ H s):X.K.In s.heap:=I.ok.mod.kin.keeps I.bk
theorem Inv.nolimit(I:Inv X pins σ H s):s.heap.NoLimit:=I.ok.mod.nolimit.keeps I.bk
theorem Inv.lt(I:Inv X pins σ H s):X.env.locals<s.heap.objs.size:=let ⟨_,hn,_⟩:=I.loc;hn.lt
theorem Inv.sz(I:Inv X pins σ H s):X.s_0.heap.objs.size<=s.heap.objs.size:=Nat.le_trans I.ok.above (Nat.le_of_lt I.lt)
theorem Inv.nofs(I:Inv X pins σ H s){a:Addr}(h:s.heap.objs.size<=a):a∉X.fs:=fun hb=>by
 obtain⟨_,o,ho,_⟩:=I.ok.funs.mem hb
 exact absurd (Nat.lt_of_lt_of_le (Heap.lt_size ho) (Nat.le_trans I.sz h)) (Nat.lt_irrefl _)
theorem Inv.cne(I:Inv X pins σ H s):∀ x c,X.env.cells.lookup x=some c->c≠X.env.locals:=fun x c e z=>by
 obtain⟨v,o,ho,hd⟩:=I.cell x c e
 obtain⟨m,⟨o',es,ep,ho',hd',_⟩,_⟩:=I.loc
 rw[z,ho'] at ho;cases ho;rw[hd'] at hd;cases hd
theorem Inv.funs(I:Inv X pins σ H s):s.heap.FunFrames X.base X.outer:=by
 have all:∀(l:List Env),(∀ b∈frs l,b∈X.fs)->X.s_0.heap.FunFrames X.base l->s.heap.FunFrames X.base l:=by
  intro l
  induction l with
  |nil=>intro _ _;trivial
  |cons env r ih =>
   intro hs hl
   obtain⟨hk,⟨L,o,hf,hn,ho,hd⟩,hr⟩:=hl
   have hL:L∈X.fs:=hs L (by unfold frs;rw[List.filterMap_cons,hf];exact List.mem_cons_self)
   obtain⟨sl,e⟩:=I.base.slot L o ho (I.ok.frf L hL) hL fun z=>I.ok.exfs L z hL
   exact⟨hk,⟨L,_,hf,hn,e,hd⟩,ih (fun b hb=>hs b (by unfold frs;rw[List.filterMap_cons,hf];exact List.mem_cons_of_mem _ hb)) hr⟩
 exact all X.outer (fun _ hb=>hb) I.ok.funs
theorem Inv.stack(I:Inv X pins σ H s):s.heap.FunFrames X.base X.stack:=by
 rcases I.ok.stk with e|⟨e,hf⟩
 ·rw[e];exact I.funs
 ·rw[e]
  obtain⟨m,hn,_⟩:=I.loc
  refine .cons (by rw[I.ok.kind];decide) hf hn ?_ I.funs
  exact Heap.get?_none_of_le (Nat.le_trans I.ok.bsz I.ok.above)
theorem Inv.stkSub(I:Inv X pins σ H s):∀ b∈frs X.stack,b∈X.env.locals::X.fs:=fun b hb=>by
 rcases I.ok.stk with e|⟨e,hf⟩
 ·rw[e] at hb;exact List.mem_cons_of_mem _ hb
 ·rw[e] at hb
  unfold frs at hb
  rw[List.filterMap_cons,hf] at hb
  exact hb
theorem Inv.stkFree(I:Inv X pins σ H s):∀ b∈frs X.stack,H b=none:=fun b hb=>by
 rcases List.mem_cons.mp (I.stkSub b hb) with e|hb
 ·rw[e];exact I.free
 ·obtain⟨_,o,ho,_⟩:=I.ok.funs.mem hb
  exact I.base.free b o ho (I.ok.frf b hb) fun z=>I.ok.exfs b z hb
theorem Inv.step{g':Array GenState}{t':Nat}{d':Drawn}{ch:List Addr}(I:Inv X pins σ H s)(hch:∀ b∈ch,(b∈X.ex\/X.s_0.heap.objs.size<=b)/\b≠X.env.locals/\(∀ x c,X.env.cells.lookup x=some c->c≠b)/\∀ p∈X.pn++pins,p.1≠b)(keep:∀ b o,b≠X.env.locals->b∉X.fs->b∉ch->s.heap.get? b=some o->H b=none->h'.get? b=some o)(slot:∀ b o,b≠X.env.locals->b∈X.fs->b∉ch->s.heap.get? b=some o->H b=none->∃ sl,h'.get? b=some { o with slots:=sl })(free:∀ b o,b∉ch->s.heap.get? b=some o->H b=none->H' b=none)(there:∀ b o,b∉ch->s.heap.get? b=some o->∃ o',h'.get? b=some o')(tups:∀ b xs,H b=some (.tup xs)->H' b=some (.tup xs))(frzs:∀ b o u,H b=some (.frz o u)->H' b=some (.frz o u))(tbls:∀ b ps,H b=some (.tbl ps)->∃ more,H' b=some (.tbl (ps++more)))(ns:∀ m,s.heap.Ns X.env.locals m->h'.Ns X.env.locals m)(hok:HOk X.prog X.w H' h')(hg:AllBare g'):Inv X pins σ H' { s with heap:=h',gens:=g',drawn:=d',toks:=t' }:=by
 have neL:∀ b o,X.s_0.heap.get? b=some o->b≠X.env.locals:=fun b o e=>Nat.ne_of_lt (Nat.lt_of_lt_of_le (Heap.lt_size e) I.ok.above)
 have neC:∀ b o,X.s_0.heap.get? b=some o->b∉X.ex->b∉ch:=fun b o e hx hb=>by
  rcases(hch b hb).1 with z|z
  ·exact hx z
  ·exact absurd (Nat.lt_of_lt_of_le (Heap.lt_size e) z) (Nat.lt_irrefl _)
 have cellK:∀ x c,X.env.cells.lookup x=some c->∀ v,s.heap.IsCell c v->h'.IsCell c v:=fun x c e v ⟨o,ho,hd⟩=>by
  have nch:c∉ch:=fun z=>(hch c z).2.2.1 x c e rfl
  by_cases hc:c∈X.fs
  ·obtain⟨sl,q⟩:=slot c o (I.cne x c e) hc nch ho (I.freeC x c e)
   exact⟨_,q,hd⟩
  ·exact⟨o,keep c o (I.cne x c e) hc nch ho (I.freeC x c e),hd⟩
 refine⟨I.ok,I.os,hg,⟨fun b o e n hb hx=>?_,fun b o e n hb hx=>?_,fun b o e n hx=>?_,fun b o e hx=>?_,fun b xs e=>tups b xs (I.base.tups b xs e),fun b o xs e=>frzs b o xs (I.base.frzs b o xs e),fun b ps e=>?_⟩,?_,fun x c e=>?_,?_,fun x c e=>?_,fun p hp=>?_,hok,I.len⟩
 ·exact keep b o (neL b o e) hb (neC b o e hx) (I.base.keep b o e n hb hx) (I.base.free b o e n hx)
 ·obtain⟨sl,e1⟩:=I.base.slot b o e n hb hx
  obtain⟨sl',e2⟩:=slot b _ (neL b o e) hb (neC b o e hx) e1 (I.base.free b o e n hx)
  exact⟨sl',e2⟩
 ·obtain⟨o',e1⟩:=I.base.there b o e hx
  exact free b o' (neC b o e hx) e1 (I.base.free b o e n hx)
 ·obtain⟨o',e1⟩:=I.base.there b o e hx
  exact there b o' (neC b o e hx) e1
 ·obtain⟨m1,e1⟩:=I.base.tbls b ps e
  obtain⟨m2,e2⟩:=tbls b _ e1
  exact⟨m1++m2,by rw[e2,Array.append_assoc]⟩
 ·obtain⟨m,hn,hl⟩:=I.loc
  refine⟨m,ns m hn,fun i x v e1 e2 e3=>?_⟩
  obtain⟨u,r,l⟩:=hl i x v e1 e2 e3
  refine⟨u,r,?_⟩
  rcases l with l|⟨k,c,e,z⟩
  ·exact .inl l
  ·exact .inr ⟨k,c,e,cellK x c e _ z⟩
 ·obtain⟨v,z⟩:=I.cell x c e
  exact⟨v,cellK x c e v z⟩
 ·obtain⟨m,⟨o,_,_,ho,_⟩,_⟩:=I.loc
  exact free _ o (fun z=>(hch _ z).2.1 rfl) ho I.free
 ·obtain⟨v,o,ho,hd⟩:=I.cell x c e
  exact free c o (fun z=>(hch c z).2.2.1 x c e rfl) ho (I.freeC x c e)
 ·obtain⟨e,n,ne,nf,d⟩:=I.pin p hp
  have nch:p.1∉ch:=fun z=>(hch p.1 z).2.2.2 p hp rfl
  exact⟨keep p.1 p.2 ne nf nch e n,free p.1 p.2 nch e n,ne,nf,d⟩
theorem Inv.un{t':Nat}(I:Inv X pins σ H s)(u:Un X.fs [] H H' s.heap h')(hok:HOk X.prog X.w H' h'):Inv X pins σ H' { s with heap:=h',toks:=t' }:=by
 obtain⟨m,⟨o,es,ep,ho,r⟩,_⟩:=id I.loc
 obtain⟨sl,hL⟩:=u.any ho I.free (by simp)
 exact I.step (g':=s.gens) (d':=s.drawn) (ch:=[]) (fun _ z=>nomatch z) (fun b o _ hb _ e n=>u.keep b o e n hb (by simp)) (fun b o _ hb _ e n=>u.slot b o e n hb (by simp)) (fun b o _ e n=>u.free b o e n (by simp)) (fun b o _ e=>u.there b o e (by simp)) u.tups u.frzs u.tbls (fun m' hm=>by
  obtain⟨o',es',ep',ho',r'⟩:=hm
  rw[ho] at ho';cases ho'
  exact⟨_,es',ep',hL,r'⟩) hok I.bare
theorem Inv.call{g':Array GenState}{t':Nat}{d':Drawn}{ch:List Addr}(I:Inv X pins σ H s)(u:Un (frs X.stack) ch H H' s.heap h')(hok:HOk X.prog X.w H' h')(hg:AllBare g')(hch:∀ b∈ch,(b∈X.ex\/X.s_0.heap.objs.size<=b)/\b≠X.env.locals/\(∀ x c,X.env.cells.lookup x=some c->c≠b)/\∀ p∈X.pn++pins,p.1≠b):Inv X pins σ H' { s with heap:=h',gens:=g',drawn:=d',toks:=t' }:=by
 obtain⟨m,⟨o,es,ep,ho,r⟩,_⟩:=id I.loc
 obtain⟨sl,hL⟩:=u.any ho I.free fun z=>(hch _ z).2.1 rfl
 exact I.step (ch:=ch) hch (fun b o hL hb hc e n=>u.keep b o e n (fun z=>(List.mem_cons.mp (I.stkSub b z)).elim hL hb) hc) (fun b o _ _ hc e n=>u.any e n hc) (fun b o hc e n=>u.free b o e n hc) (fun b o hc e=>u.there b o e hc) u.tups u.frzs u.tbls (fun m' hm=>by
  obtain⟨o',es',ep',ho',r'⟩:=hm
  rw[ho] at ho';cases ho'
  exact⟨_,es',ep',hL,r'⟩) hok hg
theorem Inv.turned{t':Nat}{it:Addr}(I:Inv X pins σ H s)(k:∀ b o,b≠it->s.heap.get? b=some o->h'.get? b=some o)(hn:H it=none)(hL:it≠X.env.locals)(h1:it∈X.ex\/X.s_0.heap.objs.size<=it)(h2:∀ x c,X.env.cells.lookup x=some c->c≠it)(h3:∀ p∈X.pn++pins,p.1≠it):Inv X pins σ H { s with heap:=h',toks:=t' }:=by
 have nit:∀ b u,H b=some u->b≠it:=fun b u e z=>by rw[z,hn] at e;cases e
 refine I.step (g':=s.gens) (d':=s.drawn) (ch:=[it]) (fun b hb=>?_) (fun b o _ _ hc e _=>k b o (fun z=>hc (by simp[z])) e) (fun b o _ _ hc e _=>⟨o.slots,k b o (fun z=>hc (by simp[z])) e⟩) (fun _ _ _ _ n=>n) (fun b o hc e=>⟨o,k b o (fun z=>hc (by simp[z])) e⟩) (fun _ _ e=>e) (fun _ _ _ e=>e) (fun b ps e=>⟨#[],by rw[e];simp⟩) (fun m hm=>?_) (fun b u e=>?_) I.bare
 ·have e:b=it:=by simpa using hb
  subst e
  exact⟨h1,hL,h2,h3⟩
 ·obtain⟨o,es,ep,ho,r⟩:=hm
  exact⟨o,es,ep,k _ o (Ne.symm hL) ho,r⟩
 ·refine(I.hok b u e).stay (fun c v hc q=>k c v ?_ q) (fun _ q=>q) fun _ _ q=>q
  rcases hc with z|z
  ·rw[z];exact nit b u e
  ·exact nit c _ z
theorem Inv.tok(I:Inv X pins σ H s)(t:Nat):Inv X pins σ H { s with toks:=t }:=I.un (h':=s.heap) (t':=t) Un.refl I.hok
theorem Inv.kept{t':Nat}(I:Inv X pins σ H s)(k:∀ b u,s.heap.get? b=some u->h'.get? b=some u):Inv X pins σ H { s with heap:=h',toks:=t' }:=I.un (Un.kept k) (I.hok.kept k)
theorem Inv.laid{a:Addr}{o:HO}{t':Nat}(I:Inv X pins σ H s)(k:∀ b u,s.heap.get? b=some u->h'.get? b=some u)(hp:s.heap.objs.size<=a)(new:di X.prog X.w (upd H a o) h' a o):Inv X pins σ (upd H a o) { s with heap:=h',toks:=t' }:=I.un (Un.laid k hp (I.hok.fresh hp)) (I.hok.laid k hp new)
theorem Inv.write{x e:Addr}{o:HO}{t':Nat}(I:Inv X pins σ H s)(mu:Mut (H x))(he:e=x\/H e=some (.own x))(k:∀ b u,b≠e->s.heap.get? b=some u->h'.get? b=some u)(heo:∃ u,h'.get? e=some u)(new:di X.prog X.w (upd H x o) h' x o):Inv X pins σ (upd H x o) { s with heap:=h',toks:=t' }:=I.un (Un.write mu he k heo) (I.hok.write mu he k heo new)
theorem Inv.weak{σ':List (Option V)}(I:Inv X pins σ H s)(hl:σ'.length=σ.length)(w:∀(i:Nat) v,σ'[i]?=some (some v)->σ[i]?=some (some v)):Inv X pins σ' H s:=⟨I.ok,I.os,I.bare,I.base,let ⟨m,hn,hl'⟩:=I.loc;⟨m,hn,fun i x v e1 e2 e3=>hl' i x v e1 (w i v e2) e3⟩,I.cell,I.free,I.freeC,I.pin,I.hok,hl.trans I.len⟩
theorem Inv.pins_of{pins':List (Addr×Obj)}(I:Inv X pins σ H s)(h:∀ p∈pins',s.heap.get? p.1=some p.2/\H p.1=none/\p.1≠X.env.locals/\p.1∉X.fs/\∀ v,p.2.data≠.cell v):Inv X pins' σ H s:=⟨I.ok,I.os,I.bare,I.base,I.loc,I.cell,I.free,I.freeC,fun p hp=>(List.mem_append.mp hp).elim (fun z=>I.pin p (List.mem_append_left _ z)) (h p),I.hok,I.len⟩
theorem nodup_ix{N:List Str}(hN:N.Nodup){i j:Nat}{x:Str}(a:N[i]?=some x)(b:N[j]?=some x):i=j:=by
 obtain⟨h1,e1⟩:=List.getElem?_eq_some_iff.mp a
 obtain⟨h2,e2⟩:=List.getElem?_eq_some_iff.mp b
 exact(List.getElem_inj hN).mp (e1.trans e2.symm)
theorem store_ok2{M:Model}{A:Around}{E:Value->Shared->Prop}{i:Nat}{x:Str}{v:V}{u:Value}{Q:Unit->Shared->Prop}(I:Inv X pins σ H s)(hN:X.N.Nodup)(hi:X.N[i]?=some x)(hx:Loc X.env.scope x)(r:RelV v u)(h:∀ s',Inv X pins (σ.set i (some v)) H s'->(∃ a,Heap.SameBut a s.heap s'.heap/\(a=X.env.locals\/X.env.cells.lookup x=some a))->Q () s')(hf:X.fn x=true\/X.env.scope.names.lookup x=some .local:=by first|exact .inl rfl|exact .inr rfl|assumption):wpAny M A (storeName X.env x u) Q E s:=by
 obtain⟨m,hn,hl⟩:=id I.loc
 have hcls:(X.env.scope.kind==.class || (X.env.scope.kind==.module&&X.env.locals != X.env.globals))=false:=by rw[I.ok.kind];rfl
 have hiσ:i<σ.length:=by rw[I.len];exact(List.getElem?_eq_some_iff.mp hi).1
 have cne:=I.cne
 have tracked:∀{a:Addr}{h':Heap},(∃ o,s.heap.get? a=some o/\H a=none)->Heap.SameBut a s.heap h'->HOk X.prog X.w H h':=fun{a h'} ha hs b ob e=>by
  obtain⟨_,_,hfree⟩:=ha
  refine(I.hok b ob e).stay (fun c w' hc q=>(hs.2 c ?_).trans q) (fun _ q=>q) fun _ _ q=>q
  rintro rfl
  rcases hc with rfl|hc
  ·rw[hfree] at e;cases e
  ·rw[hfree] at hc;cases hc
 rcases hx with hk|hk
 ·refine wpAny_storeName_local hk hn (fun h' hn' hs=>?_) hcls
  obtain⟨oL,_,_,hoL,_⟩:=id hn
  refine h _ ⟨I.ok,I.os,I.bare,⟨fun b o e n hb hx=>?_,fun b o e n hb hx=>?_,I.base.free,fun b o e hx=>?_,I.base.tups,I.base.frzs,I.base.tbls⟩,⟨_,hn',fun j y v' e1 e2 e3=>?_⟩,fun y c e=>?_,I.free,I.freeC,fun p hp=>?_,tracked ⟨oL,hoL,I.free⟩ hs,by simpa using I.len⟩ ⟨_,hs,.inl rfl⟩
  ·exact(hs.2 b (Nat.ne_of_lt (Nat.lt_of_lt_of_le (Heap.lt_size e) I.ok.above))).trans (I.base.keep b o e n hb hx)
  ·obtain⟨sl,e1⟩:=I.base.slot b o e n hb hx
   exact⟨sl,(hs.2 b (Nat.ne_of_lt (Nat.lt_of_lt_of_le (Heap.lt_size e) I.ok.above))).trans e1⟩
  ·obtain⟨o',e1⟩:=I.base.there b o e hx
   exact⟨o',(hs.2 b (Nat.ne_of_lt (Nat.lt_of_lt_of_le (Heap.lt_size e) I.ok.above))).trans e1⟩
  ·by_cases hj:j=i
   ·subst hj
    rw[hi] at e1;cases e1
    rw[List.getElem?_set_self hiσ] at e2
    cases e2
    exact⟨u,r,.inl ⟨hk,by simp⟩⟩
   ·rw[List.getElem?_set_ne (Ne.symm hj)] at e2
    obtain⟨u',r',q⟩:=hl j y v' e1 e2 e3
    refine⟨u',r',?_⟩
    rcases q with⟨k,e⟩|⟨k,c,e,z⟩
    ·refine .inl ⟨k,?_⟩
     have:y≠x:=fun e=>hj (nodup_ix hN e1 (e▸hi))
     simp[this,e]
    ·exact .inr ⟨k,c,e,z.sameBut hs (cne y c e)⟩
  ·obtain⟨w',z⟩:=I.cell y c e
   exact⟨w',z.sameBut hs (cne y c e)⟩
  ·obtain⟨e,n,ne,nf,d⟩:=I.pin p hp
   exact⟨(hs.2 p.1 ne).trans e,n,ne,nf,d⟩
 ·have hfn:X.fn x=true:=by
   rcases hf with z|z
   ·exact z
   ·rw[z] at hk;cases hk
  obtain⟨c,hc⟩:=I.ok.has x (.inl hk)
  obtain⟨w',z⟩:=I.cell x c hc
  refine wpAny_storeName_cell I.ok.kind hk hc z (fun h' hc' hs=>?_)
  obtain⟨oc,hoc,hocd⟩:=id z
  refine h { s with heap:=h' } ⟨I.ok,I.os,I.bare,⟨fun b o e n hb hx=>?_,fun b o e n hb hx=>?_,I.base.free,fun b o e hx=>?_,I.base.tups,I.base.frzs,I.base.tbls⟩,⟨m,hn.sameBut hs (Ne.symm (cne x c hc)),fun j y v' e1 e2 e3=>?_⟩,fun y c' e=>?_,I.free,I.freeC,fun p hp=>?_,tracked ⟨oc,hoc,I.freeC x c hc⟩ hs,by simpa using I.len⟩ ⟨c,hs,.inr hc⟩
  ·exact(hs.2 b (Nat.ne_of_lt (Nat.lt_of_lt_of_le (Heap.lt_size e) (I.ok.cab x c hfn hc)))).trans (I.base.keep b o e n hb hx)
  ·obtain⟨sl,e1⟩:=I.base.slot b o e n hb hx
   exact⟨sl,(hs.2 b (Nat.ne_of_lt (Nat.lt_of_lt_of_le (Heap.lt_size e) (I.ok.cab x c hfn hc)))).trans e1⟩
  ·obtain⟨o',e1⟩:=I.base.there b o e hx
   exact⟨o',(hs.2 b (Nat.ne_of_lt (Nat.lt_of_lt_of_le (Heap.lt_size e) (I.ok.cab x c hfn hc)))).trans e1⟩
  ·by_cases hj:j=i
   ·subst hj
    rw[hi] at e1;cases e1
    rw[List.getElem?_set_self hiσ] at e2
    cases e2
    exact⟨u,r,.inr ⟨.inl hk,c,hc,hc'⟩⟩
   ·rw[List.getElem?_set_ne (Ne.symm hj)] at e2
    obtain⟨u',r',q⟩:=hl j y v' e1 e2 e3
    refine⟨u',r',?_⟩
    rcases q with q|⟨k,c',e,z'⟩
    ·exact .inl q
    ·refine .inr ⟨k,c',e,z'.sameBut hs ?_⟩
     rintro rfl
     exact hj (nodup_ix hN e1 (I.ok.inj _ _ _ e hc▸hi))
  ·by_cases hcc:c'=c
   ·subst hcc;exact⟨_,hc'⟩
   ·obtain⟨w2,z2⟩:=I.cell y c' e
    exact⟨w2,z2.sameBut hs hcc⟩
  ·obtain⟨e,n,ne,nf,d⟩:=I.pin p hp
   refine⟨(hs.2 p.1 ?_).trans e,n,ne,nf,d⟩
   intro q
   rw[q,hoc] at e
   have q':oc=p.2:=Option.some.inj e
   exact d w' (by rw[<-q'];exact hocd)
theorem store_ok{M:Model}{A:Around}{E:Value->Shared->Prop}{i:Nat}{x:Str}{v:V}{u:Value}{Q:Unit->Shared->Prop}(I:Inv X pins σ H s)(hN:X.N.Nodup)(hi:X.N[i]?=some x)(hx:Loc X.env.scope x)(r:RelV v u)(h:∀ s',Inv X pins (σ.set i (some v)) H s'->Q () s')(hf:X.fn x=true\/X.env.scope.names.lookup x=some .local:=by first|exact .inl rfl|exact .inr rfl|assumption):wpAny M A (storeName X.env x u) Q E s:=store_ok2 I hN hi hx r (fun s' I' _=>h s' I') hf
theorem Inv.call'{s':Shared}{ch:List Addr}(I:Inv X pins σ H s)(ho:s'.os=s.os)(u:Un (frs X.stack) ch H H' s.heap s'.heap)(hok:HOk X.prog X.w H' s'.heap)(hg:AllBare s'.gens)(hch:∀ b∈ch,(b∈X.ex\/X.s_0.heap.objs.size<=b)/\b≠X.env.locals/\(∀ x c,X.env.cells.lookup x=some c->c≠b)/\∀ p∈X.pn++pins,p.1≠b):Inv X pins σ H' s':=by
 obtain⟨h',g',d',t',o'⟩:=s'
 have e:o'=s.os:=ho
 subst e
 exact I.call (g':=g') (t':=t') (d':=d') u hok hg hch
abbrev XK:=Value->Option Addr->Hp->Prop
abbrev St:=List (Option V)
abbrev VK:=V->Hp->Prop
abbrev TE:=St->Hp->VK->Prop
abbrev TT:=St->Hp->(Bool->Hp->Prop)->Prop
abbrev TA:=St->Hp->(List V->Hp->Prop)->Prop
end
structure Ends where
 nx:St->Hp->Prop
 rt:VK
 bk:St->Hp->Prop:=fun _ _=>False
 ct:St->Hp->Prop:=fun _ _=>False
abbrev TS:=Ends->St->Hp->Prop
def EP(X:Cx)(pins:List (Addr×Obj))(σ:St)(Q:VK)(u:Value)(s':Shared):Prop:=∃ v H',Inv X pins σ H' s'/\RelV v u/\Q v H'
def TP(X:Cx)(pins:List (Addr×Obj))(σ:St)(Q:Bool->Hp->Prop)(b:Bool)(s':Shared):Prop:=∃ H',Inv X pins σ H' s'/\Q b H'
def AP(X:Cx)(pins:List (Addr×Obj))(σ:St)(Q:List V->Hp->Prop)(us:List Value)(s':Shared):Prop:=∃ vs H',Inv X pins σ H' s'/\bh vs us/\Q vs H'
def SP(X:Cx)(pins:List (Addr×Obj))(D:Ends)(f:Flow)(s':Shared):Prop:=match f with
 |.next=>∃ σ' H',Inv X pins σ' H' s'/\D.nx σ' H'
 |.brk=>∃ σ' H',Inv X pins σ' H' s'/\D.bk σ' H'
 |.cont=>∃ σ' H',Inv X pins σ' H' s'/\D.ct σ' H'
 |.ret u=>∃ v σ' H',Inv X pins σ' H' s'/\RelV v u/\D.rt v H'
def PE(X:Cx)(e:Expr)(t:TE):Prop:=∀(pins:List (Addr×Obj))(s:Shared)(σ:St)(H:Hp)(Q:VK),Inv X pins σ H s->t σ H Q->wpAny (model X.prog X.w) X.A (eval e X.env) (EP X pins σ Q) X.xe s
def PT(X:Cx)(e:Expr)(t:TT):Prop:=∀(pins:List (Addr×Obj))(s:Shared)(σ:St)(H:Hp)(Q:Bool->Hp->Prop),Inv X pins σ H s->t σ H Q->wpAny (model X.prog X.w) X.A (isTrue e X.env (eval e X.env)) (TP X pins σ Q) X.xe s
def PW(X:Cx)(e:Expr)(t:TT):Prop:=∀(whole:Sem Value)(pins:List (Addr×Obj))(s:Shared)(σ:St)(H:Hp)(Q:Bool->Hp->Prop),Inv X pins σ H s->t σ H Q->wpAny (model X.prog X.w) X.A (isTrue e X.env whole) (TP X pins σ Q) X.xe s
theorem PW.pt{X:Cx}{e:Expr}{t:TT}(h:PW X e t):PT X e t:=h _
def PA(X:Cx)(es:List Expr)(t:TA):Prop:=∀(pos:Pos)(pins:List (Addr×Obj))(s:Shared)(σ:St)(H:Hp)(Q:List V->Hp->Prop),Inv X pins σ H s->t σ H Q->wpAny (model X.prog X.w) X.A (spliced (backTo pos (starEach es X.env))) (AP X pins σ Q) X.xe s
def PS(X:Cx)(st:Stmt)(t:TS):Prop:=∀(pins:List (Addr×Obj))(s:Shared)(σ:St)(H:Hp)(D:Ends),Inv X pins σ H s->t D σ H->wpAny (model X.prog X.w) X.A (exec st X.env) (SP X pins D) X.xe s
def PSs(X:Cx)(st:List Stmt)(t:TS):Prop:=∀(pins:List (Addr×Obj))(s:Shared)(σ:St)(H:Hp)(D:Ends),Inv X pins σ H s->t D σ H->wpAny (model X.prog X.w) X.A (execs st X.env) (SP X pins D) X.xe s
theorem thn{α:Type}{t:Sem α}{Q Q':α->Shared->Prop}{M:Model}{A:Around}{E:Value->Shared->Prop}{s:Shared}(h:wpAny M A t Q E s)(hQ:∀ a s,Q a s->Q' a s):wpAny M A t Q' E s:=wpAny_mono h hQ fun _ _ x=>x
section
variable{X:Cx}
def gf(i:Nat):TE:=fun σ H Q=>∃ v,σ[i]?=some (some v)/\Q v H
def tC(v:V):TE:=fun _ H Q=>Q v H
theorem pe_var{i:Nat}{x:Str}{pos:Pos}(hN:X.N[i]?=some x)(hv:Vis X.env.scope x)(hd:(x==("__debug__":Str))=false:=by decide)(hcd:(x==("__classdict__":Str))=false:=by decide):PE X (.Name x pos) (gf i):=by
 intro pins s σ H Q I h
 obtain⟨v,e,h⟩:=h
 obtain⟨m,hn,hl⟩:=I.loc
 obtain⟨u,r,l⟩:=hl i x v hN e hv
 have fin:EP X pins σ Q u s:=⟨v,H,I,r,h⟩
 rcases l with⟨hk,hm⟩|⟨hk,c,hc,hcell⟩
 ·exact wpAny_Name (wpAny_loadName_local I.ok.kind hk hn hm fin) hd
 ·rcases hk with hk|hk
  ·exact wpAny_Name (wpAny_loadName_cell I.ok.kind hk hc hcell fin) hd
  ·exact wpAny_Name (wpAny_loadName_free I.ok.kind hk hc hcell fin hcd) hd
theorem aj{i j pos}:PE X (.Constant (.int i) j pos) (tC (.int i)):=fun _ _ _ H _ I h=>wpAny_Constant_int ⟨.int i,H,I.tok _,⟨_,rfl⟩,h⟩
theorem pe_bl{b j pos}:PE X (.Constant (.bool b) j pos) (tC (.bl b)):=fun _ _ _ H _ I h=>Constant_bool ⟨.bl b,H,I,rfl,h⟩
theorem pe_non{j pos}:PE X (.Constant .none j pos) (tC .non):=fun _ _ _ H _ I h=>Constant_none ⟨.non,H,I,rfl,h⟩
theorem ci{x j pos}:PE X (.Constant (.str x) j pos) (tC (.str x)):=fun _ _ _ H _ I h=>Calls.Constant_str ⟨.str x,H,I.tok _,⟨_,rfl⟩,h⟩
def Gl(X:Cx)(x:Str):Prop:=X.env.kindOf x=some .globalImplicit
theorem jd{E:Value->Shared->Prop}{pins:List (Addr×Obj)}{s:Shared}{σ:St}{H:Hp}{x:Str}{u:Value}{pos:Pos}{Q:Value->Shared->Prop}(I:Inv X pins σ H s)(hg:Gl X x)(hm:X.mg x=some u)(h:Q u s)(hd:(x==("__debug__":Str))=false:=by decide):wpAny (model X.prog X.w) X.A (eval (.Name x pos) X.env) Q E s:=Calls.Name_function_global I.ok.kind hg (Calls.loadGlobal_global (by rw[I.ok.glob];exact I.mod.glob.keeps I.bk) hm h) hd
theorem ld_blt{E:Value->Shared->Prop}{pins:List (Addr×Obj)}{s:Shared}{σ:St}{H:Hp}{x:Str}{u:Value}{pos:Pos}{Q:Value->Shared->Prop}(I:Inv X pins σ H s)(hg:Gl X x)(hm:X.mg x=none)(hv:bootBuiltins x=some u)(h:Q u s)(hn:x≠"__name__":=by decide)(hd:(x==("__debug__":Str))=false:=by decide):wpAny (model X.prog X.w) X.A (eval (.Name x pos) X.env) Q E s:=by
 obtain⟨mb,h1,h2⟩:=I.mod.blt
 exact Calls.Name_function_global I.ok.kind hg (Calls.loadGlobal_builtin (by rw[I.ok.glob];exact I.mod.glob.keeps I.bk) hm (by rw[I.ok.blt];exact h1.keeps I.bk) ((h2 x hn).trans hv) h) hd
theorem pe_glob{x:Str}{v:V}{u:Value}{pos:Pos}(hg:Gl X x)(hm:X.mg x=some u)(r:RelV v u)(hd:(x==("__debug__":Str))=false:=by decide):PE X (.Name x pos) (tC v):=fun _ _ _ H _ I h=>jd I hg hm ⟨v,H,I,r,h⟩ hd
end
section
variable{X:Cx}
variable{a b:Expr}{ta tb:TE}{pos:Pos}
def PC(X:Cx)(op:CmpOp)(a b:Expr)(t:TE):Prop:=∀(pins:List (Addr×Obj))(s:Shared)(σ:St)(H:Hp)(Q:VK),Inv X pins σ H s->t σ H Q->wpAny (model X.prog X.w) X.A (eval a X.env) (fun v s₁=>wpAny (model X.prog X.w) X.A (eval b X.env) (fun u s₂=>wpAny (model X.prog X.w) X.A (compareOp op v u) (EP X pins σ Q) X.xe s₂) X.xe s₁) X.xe s
def tB(t:TE):TT:=fun σ H Q=>t σ H fun x H1=>∃ c,x=.bl c/\Q c H1
theorem pt_cmp{op:CmpOp}{t:TE}(h:PC X op a b t)(h1:behindInMarks op b=false:=by first|exact nobehind _ (by decide) (by decide)|rfl):PT X (.Compare a [op] [b] pos) (tB t):=by
 intro pins s σ H Q I hw
 refine wpAny_isTrue_Compare1 (thn (h pins s σ H _ I hw) fun v s1 h1=>thn h1 fun u s2 h2=>thn h2 fun c s3 ⟨x,H1,I1,r1,q1⟩=>?_) h1
 obtain⟨d,rfl,q⟩:=q1
 cases r1
 exact wpAny_truthy_bool ⟨H1,I1,q⟩
theorem pt_val{e:Expr}{t:TE}(h:PE X e t)(he:∀ whole,isTrue e X.env whole=(do let v <-whole;standAt e.pos;holding [v] (truthy v)):=by intro _;rfl):PT X e (tB t):=by
 intro pins s σ H Q I hw
 refine isTrue_plain (thn (h pins s σ H _ I hw) fun v s1 ⟨x,H1,I1,r1,q1⟩=>?_) (he _)
 obtain⟨d,rfl,q⟩:=q1
 cases r1
 exact wpAny_truthy_bool ⟨H1,I1,q⟩
end
section
variable{X:Cx}
variable{a b:Expr}{ta tb:TE}{pos:Pos}
variable{tA tB':TT}{rest:List Expr}
def tAnd(t u:TT):TT:=fun σ H Q=>t σ H fun c H1=>if c=true then u σ H1 Q else Q false H1
def tOr(t u:TT):TT:=fun σ H Q=>t σ H fun c H1=>if c=true then Q true H1 else u σ H1 Q
def tNot(t:TT):TT:=fun σ H Q=>t σ H fun c H1=>Q (!c) H1
theorem pw_and1(ha:PT X a tA):PW X (.BoolOp .And [a] pos) tA:=by
 intro wh pins s σ H Q I h
 refine isTrue_and (thn (ha pins s σ H Q I h) fun c s1 e=>?_)
 cases c with
 |true=>exact isTrue_and_nil e
 |false=>exact e
theorem pw_or1(ha:PT X a tA):PW X (.BoolOp .Or [a] pos) tA:=by
 intro wh pins s σ H Q I h
 refine isTrue_or (thn (ha pins s σ H Q I h) fun c s1 e=>?_)
 cases c with
 |false=>exact isTrue_or_nil e
 |true=>exact e
theorem pw_and(ha:PT X a tA)(hb:PW X (.BoolOp .And (b::rest) pos) tB'):PW X (.BoolOp .And (a::b::rest) pos) (tAnd tA tB'):=by
 intro wh pins s σ H Q I h
 refine isTrue_and (thn (ha pins s σ H _ I h) fun c s1 ⟨H1,I1,q1⟩=>?_)
 cases c with
 |true=>exact hb wh pins s1 σ H1 Q I1 q1
 |false=>exact⟨H1,I1,q1⟩
theorem pw_or(ha:PT X a tA)(hb:PW X (.BoolOp .Or (b::rest) pos) tB'):PW X (.BoolOp .Or (a::b::rest) pos) (tOr tA tB'):=by
 intro wh pins s σ H Q I h
 refine isTrue_or (thn (ha pins s σ H _ I h) fun c s1 ⟨H1,I1,q1⟩=>?_)
 cases c with
 |true=>exact⟨H1,I1,q1⟩
 |false=>exact hb wh pins s1 σ H1 Q I1 q1
theorem jm(ha:PT X a tA):PT X (.UnaryOp .Not a pos) (tNot tA):=by
 intro pins s σ H Q I h
 exact isTrue_not (ha pins s σ H (fun c H1=>Q (!c) H1) I h)
def tAndV(ta tb:TE):TE:=fun σ H Q=>ta σ H fun x H1=>∃ c,x=.bl c/\if c=true then tb σ H1 Q else Q (.bl false) H1
def tOrV(ta tb:TE):TE:=fun σ H Q=>ta σ H fun x H1=>∃ c,x=.bl c/\if c=true then Q (.bl true) H1 else tb σ H1 Q
theorem pe_one{op}{t:TE}(h:PE X a t):PE X (.BoolOp op [a] pos) t:=fun pins s σ H Q I hw=>BoolOp_one (h pins s σ H Q I hw)
theorem pe_and(ha:PE X a ta)(hb:PE X (.BoolOp .And (b::rest) pos) tb):PE X (.BoolOp .And (a::b::rest) pos) (tAndV ta tb):=by
 intro pins s σ H Q I h
 refine BoolOp_and (thn (ha pins s σ H _ I h) fun v s1 ⟨x,H1,I1,r1,q1⟩=>?_)
 obtain⟨c,rfl,q1⟩:=q1
 cases r1
 refine wpAny_truthy_bool ?_
 cases c with
 |true=>exact hb pins s1 σ H1 Q I1 q1
 |false=>exact⟨.bl false,H1,I1,rfl,q1⟩
theorem pe_or(ha:PE X a ta)(hb:PE X (.BoolOp .Or (b::rest) pos) tb):PE X (.BoolOp .Or (a::b::rest) pos) (tOrV ta tb):=by
 intro pins s σ H Q I h
 refine BoolOp_or (thn (ha pins s σ H _ I h) fun v s1 ⟨x,H1,I1,r1,q1⟩=>?_)
 obtain⟨c,rfl,q1⟩:=q1
 cases r1
 refine wpAny_truthy_bool ?_
 cases c with
 |false=>exact hb pins s1 σ H1 Q I1 q1
 |true=>exact⟨.bl true,H1,I1,rfl,q1⟩
def tIf(t:TT)(ta tb:TE):TE:=fun σ H Q=>t σ H fun c H1=>if c=true then ta σ H1 Q else tb σ H1 Q
theorem lq{c:Expr}(hc:PT X c tA)(ha:PE X a ta)(hb:PE X b tb):PE X (.IfExp c a b pos) (tIf tA ta tb):=by
 intro pins s σ H Q I h
 refine wpAny_IfExp (thn (hc pins s σ H _ I h) fun d s1 ⟨H1,I1,q1⟩=>?_)
 cases d with
 |true=>exact ha pins s1 σ H1 Q I1 q1
 |false=>exact hb pins s1 σ H1 Q I1 q1
def SqL(K:W.Frag)(H:Hp)(a:Addr)(xs:List V):Prop:=Rd H a (.lst xs)\/∃(o:Obj)(its:Array Value)(n:Nat),K.lookup a=some o/\o.cls=.type "list"/\o.dict=none/\o.data=.seq its n/\its.size<=sizeLine/\bh xs its.toList
def SqT(K:W.Frag)(H:Hp)(a:Addr)(xs:List V):Prop:=Rd H a (.tup xs)\/∃(o:Obj)(its:Array Value)(n:Nat),K.lookup a=some o/\o.cls=.type "tuple"/\o.data=.seq its n/\its.size<=sizeLine/\bh xs its.toList
def absV:Value->Option V
 |.none=>some .non
 |.bool b=>some (.bl b)
 |.int i _=>some (.int i)
 |.str x _=>some (.str x)
 |.bytes b _=>some (.byt b)
 |.float b _=>some (.flt b)
 |.ref a=>some (.ref a)
 |.type n=>some (.ty n)
 |_=>none
theorem RelV.abs{x:V}{u:Value}(r:RelV x u):absV u=some x:=by
 cases x with
 |non=>cases r;rfl
 |bl _=>cases r;rfl
 |int _=>obtain⟨t,rfl⟩:=r;rfl
 |str _=>obtain⟨t,rfl⟩:=r;rfl
 |byt _=>obtain⟨t,rfl⟩:=r;rfl
 |flt _=>obtain⟨t,rfl⟩:=r;rfl
 |ref _=>cases r;rfl
 |ty _=>cases r;rfl
theorem RelV.inj{x y:V}{u:Value}(r:RelV x u)(q:RelV y u):x=y:=Option.some.inj (r.abs.symm.trans q.abs)
theorem bh.inj:∀{xs ys:List V}{us:List Value},bh xs us->bh ys us->xs=ys
 |_,_,_,.nil,.nil=>rfl
 |_,_,_,.cons r t,.cons r' t'=>by rw[r.inj r',bh.inj t t']
end
section
variable{X:Cx}{pins:List (Addr×Obj)}{σ:St}{H:Hp}{s:Shared}{a:Addr}{xs ys:List V}
theorem SqL.of{K:W.Frag}(h:H a=some (.lst xs)):SqL K H a xs:=.inl (.inl h)
theorem SqT.of{K:W.Frag}(h:H a=some (.tup xs)):SqT K H a xs:=.inl (.inl h)
theorem Inv.list(I:Inv X pins σ H s)(h:SqL X.K H a xs):∃ its:List Value,bh xs its/\PlainL s.heap a its.toArray/\xs.length<=sizeLine:=by
 rcases h with h|⟨o,its,n,hk,hc,hd,hs,hz,r⟩
 ·obtain⟨z,its,n,r,e⟩:=h.ok I.hok
  exact⟨its,r,⟨_,n,e,rfl,rfl,rfl⟩,z⟩
 ·refine⟨its.toList,r,⟨o,n,I.kIn a o hk,hc,hd,by simpa using hs⟩,?_⟩
  have e:=r.length
  simp only[Array.length_toList] at e
  omega
theorem Inv.tuple(I:Inv X pins σ H s)(h:SqT X.K H a xs):∃ its:List Value,bh xs its/\IsTup s.heap a its.toArray/\xs.length<=sizeLine:=by
 rcases h with h|⟨o,its,n,hk,hc,hs,hz,r⟩
 ·obtain⟨z,its,r,p⟩:=h.ok I.hok
  exact⟨its,r,p,z⟩
 ·refine⟨its.toList,r,⟨o,I.kIn a o hk,hc,n,by simpa using hs⟩,?_⟩
  have e:=r.length
  simp only[Array.length_toList] at e
  omega
theorem Inv.list_inj(I:Inv X pins σ H s)(h:SqL X.K H a xs)(h':SqL X.K H a ys):xs=ys:=by
 obtain⟨its,r,⟨o,n,e,_,_,d⟩,_⟩:=I.list h
 obtain⟨its',r',⟨o',n',e',_,_,d'⟩,_⟩:=I.list h'
 rw[e] at e';cases e'
 rw[d] at d'
 injection d' with d1 _
 have:its=its':=by simpa using congrArg Array.toList d1
 subst this
 exact r.inj r'
theorem Inv.tuple_inj(I:Inv X pins σ H s)(h:SqT X.K H a xs)(h':SqT X.K H a ys):xs=ys:=by
 obtain⟨its,r,⟨o,e,_,n,d⟩,_⟩:=I.tuple h
 obtain⟨its',r',⟨o',e',_,n',d'⟩,_⟩:=I.tuple h'
 rw[e] at e';cases e'
 rw[d] at d'
 injection d' with d1 _
 have:its=its':=by simpa using congrArg Array.toList d1
 subst this
 exact r.inj r'
abbrev Cx.wish(X:Cx)(E:Value->Shared->Prop):Cx:={ X with xe:=E }
abbrev Cx.nox(X:Cx):Cx:=X.wish fun _ _=>False
theorem Cx.Ok.wish{X:Cx}(ok:X.Ok)(E:Value->Shared->Prop):(X.wish E).Ok:=⟨ok.mod,ok.kind,ok.glob,ok.blt,ok.above,ok.inj,ok.has,ok.cab,ok.hd,ok.frames,ok.stk,ok.exf,ok.bs,ok.bsz,ok.noex,ok.exfs,ok.funs,ok.frf⟩
theorem Cx.Ok.unwish{X:Cx}{E:Value->Shared->Prop}(ok:(X.wish E).Ok):X.Ok:=⟨ok.mod,ok.kind,ok.glob,ok.blt,ok.above,ok.inj,ok.has,ok.cab,ok.hd,ok.frames,ok.stk,ok.exf,ok.bs,ok.bsz,ok.noex,ok.exfs,ok.funs,ok.frf⟩
end
section
variable{X:Cx}{pins:List (Addr×Obj)}{σ:St}{H:Hp}{s:Shared}{E:Value->Shared->Prop}
theorem Inv.wish(I:Inv X pins σ H s)(E:Value->Shared->Prop):Inv (X.wish E) pins σ H s:=⟨I.ok.wish E,I.os,I.bare,I.base,I.loc,I.cell,I.free,I.freeC,I.pin,I.hok,I.len⟩
theorem Inv.unwish(I:Inv (X.wish E) pins σ H s):Inv X pins σ H s:=⟨I.ok.unwish,I.os,I.bare,I.base,I.loc,I.cell,I.free,I.freeC,I.pin,I.hok,I.len⟩
theorem SP.unwish{D:Ends}{f:Flow}{s':Shared}(h:SP (X.wish E) pins D f s'):SP X pins D f s':=by
 cases f with
 |next=>obtain⟨σ',H',I,q⟩:=h;exact⟨σ',H',I.unwish,q⟩
 |brk=>obtain⟨σ',H',I,q⟩:=h;exact⟨σ',H',I.unwish,q⟩
 |cont=>obtain⟨σ',H',I,q⟩:=h;exact⟨σ',H',I.unwish,q⟩
 |ret u=>obtain⟨v,σ',H',I,r,q⟩:=h;exact⟨v,σ',H',I.unwish,r,q⟩
theorem PSs.nox{st:List Stmt}{t:TS}(h:PSs X.nox st t):PSs X st t:=fun pins s σ H D I hw =>
 wpAny_mono (h pins s σ H D (I.wish _) hw) (fun _ _ q=>q.unwish) fun _ _ z=>False.elim z
end
section
variable{X:Cx}{st:Stmt}{rest:List Stmt}{t u:TS}{e:Expr}{te:TE}{pos:Pos}
def tNext:TS:=fun D σ H=>D.nx σ H
def tSeq(t u:TS):TS:=fun D σ H=>t { D with nx:=u D } σ H
theorem az:PSs X [] tNext:=fun _ _ σ H _ I h=>wpAny_execs_nil ⟨σ,H,I,h⟩
theorem ae(h1:PS X st t)(h2:PSs X rest u):PSs X (st::rest) (tSeq t u):=by
 intro pins s σ H D I h
 refine wpAny_execs_cons (thn (h1 pins s σ H { D with nx:=u D } I h) fun f s1 q=>?_)
 cases f with
 |next =>
  obtain⟨σ',H',I',q⟩:=q
  exact h2 pins s1 σ' H' D I' q
 |ret v=>exact q
 |brk=>exact q
 |cont=>exact q
theorem ah(h1:PS X st t):PSs X [st] t:=by
 intro pins s σ H D I h
 refine wpAny_execs_cons (thn (h1 pins s σ H D I h) fun f s1 q=>?_)
 cases f with
 |next=>exact wpAny_execs_nil q
 |ret v=>exact q
 |brk=>exact q
 |cont=>exact q
theorem Inv.quiet{pins:List (Addr×Obj)}{σ:St}{H:Hp}{s:Shared}(I:Inv X pins σ H s):interactive X.env=false:=by simp[interactive,I.ok.kind]
def tDrop(te:TE):TS:=fun D σ H=>te σ H fun _ H1=>D.nx σ H1
theorem bt(he:PE X e te)(hs:swapsWith e none pos.line X.env=pure false:=by rfl):PS X (.Expr e pos) (tDrop te):=by
 intro pins s σ H D I h
 exact wpAny_Expr_any (thn (he pins s σ H _ I h) fun v s1 ⟨x,H1,I1,r1,q1⟩=>⟨σ,H1,I1,q1⟩) I.quiet hs
def tRet(te:TE):TS:=fun D σ H=>te σ H D.rt
theorem aw(he:PE X e te):PS X (.Return (some e) pos) (tRet te):=by
 intro pins s σ H D I h
 exact wpAny_Return_some (thn (he pins s σ H _ I h) fun v s1 ⟨x,H1,I1,r1,q1⟩=>⟨x,σ,H1,I1,r1,q1⟩)
def tIfS(c:TT)(t u:TS):TS:=fun D σ H=>c σ H fun b H1=>if b=true then t D σ H1 else u D σ H1
theorem bj{c:Expr}{a b:List Stmt}{tc:TT}(hc:PT X c tc)(ha:PSs X a t)(hb:PSs X b u):PS X (.If c a b pos) (tIfS tc t u):=by
 intro pins s σ H D I h
 refine wpAny_If (thn (hc pins s σ H _ I h) fun d s1 ⟨H1,I1,q1⟩=>?_)
 cases d with
 |true=>exact ha pins s1 σ H1 D I1 q1
 |false=>exact hb pins s1 σ H1 D I1 q1
def tNever:TS:=fun _ _ _=>False
theorem pss_never{sts:List Stmt}:PSs X sts tNever:=fun _ _ _ _ _ _ h=>h.elim
abbrev TG:=V->St->Hp->(St->Hp->Prop)->Prop
abbrev TGs:=List V->St->Hp->(St->Hp->Prop)->Prop
def PG(X:Cx)(target:Expr)(t:TG):Prop:=∀(pins:List (Addr×Obj))(s:Shared)(σ:St)(H:Hp)(v:V)(u:Value)(Q:St->Hp->Prop),Inv X pins σ H s->RelV v u->t v σ H Q->wpAny (model X.prog X.w) X.A (assign target X.env u) (fun _ s'=>∃ σ' H',Inv X pins σ' H' s'/\Q σ' H') X.xe s
def PGs(X:Cx)(ts:List Expr)(t:TGs):Prop:=∀(pins:List (Addr×Obj))(s:Shared)(σ:St)(H:Hp)(vs:List V)(us:List Value)(Q:St->Hp->Prop),Inv X pins σ H s->bh vs us->t vs σ H Q->wpAny (model X.prog X.w) X.A (assignInOrder ((assignEach ts X.env).map (·.2)) us) (fun _ s'=>∃ σ' H',Inv X pins σ' H' s'/\Q σ' H') X.xe s
abbrev TSet:=V->V->V->Hp->(Hp->Prop)->Prop
def PSet(X:Cx)(t:TSet):Prop:=∀(pins:List (Addr×Obj))(s:Shared)(σ:St)(H:Hp)(o i v:V)(ov iv u:Value)(Q:Hp->Prop),Inv X pins σ H s->RelV o ov->RelV i iv->RelV v u->t o i v H Q->wpAny (model X.prog X.w) X.A (setItem ov iv u) (fun _ s'=>∃ H',Inv X pins σ H' s'/\Q H') X.xe s
abbrev TIp:=V->V->Hp->VK->Prop
def PIp(X:Cx)(op:Operator)(t:TIp):Prop:=∀(pins:List (Addr×Obj))(s:Shared)(σ:St)(H:Hp)(x y:V)(v u:Value)(Q:VK),Inv X pins σ H s->RelV x v->RelV y u->t x y H Q->wpAny (model X.prog X.w) X.A (inplaceOp op v u) (EP X pins σ Q) X.xe s
def gName(i:Nat):TG:=fun v σ H Q=>Q (σ.set i (some v)) H
theorem br{i:Nat}{x:Str}(hN:X.N.Nodup)(hi:X.N[i]?=some x)(hx:Loc X.env.scope x)(hf:X.fn x=true\/X.env.scope.names.lookup x=some .local:=by first|exact .inl rfl|exact .inr rfl|assumption):PG X (.Name x pos) (gName i):=by
 intro pins s σ H v u Q I r h
 exact wpAny_assign_Name (store_ok I hN hi hx r (fun s' I'=>⟨_,H,I',h⟩) hf)
def gNil:TGs:=fun vs σ H Q=>vs=[]/\Q σ H
def gCons(t:TG)(u:TGs):TGs:=fun vs σ H Q=>∃ v r,vs=v::r/\t v σ H fun σ' H'=>u r σ' H' Q
theorem jw:PGs X [] gNil:=by
 intro pins s σ H vs us Q I r h
 obtain⟨e,h⟩:=h
 subst e
 cases r
 exact assignInOrder_nil ⟨σ,H,I,h⟩
theorem cy{e:Expr}{es:List Expr}{t:TG}{u:TGs}(h1:PG X e t)(h2:PGs X es u)(hs:(assignEach (e::es) X.env).map (·.2)=assign e X.env::(assignEach es X.env).map (·.2):=by rfl):PGs X (e::es) (gCons t u):=by
 intro pins s σ H vs us Q I r h
 obtain⟨v,vr,e1,h⟩:=h
 subst e1
 cases r with
 |cons r rr =>
  rw[hs]
  refine assignInOrder_cons (thn (h1 pins s σ H _ _ _ I r h) fun _ s1 ⟨σ1,H1,I1,q1⟩=>?_)
  exact h2 pins s1 σ1 H1 _ _ Q I1 rr q1
def gTup(K:W.Frag)(n:Nat)(t:TGs):TG:=fun v σ H Q=>∃ a xs,v=.ref a/\SqT K H a xs/\xs.length=n/\t xs σ H Q
theorem ma{es:List Expr}{k:Nat}{t:TGs}{n:Nat}(hc:X.calm=true)(h:PGs X es t)(hn:(assignEach es X.env).length=n:=by rfl)(hst:(assignEach es X.env).findIdx? (·.1)=none:=by rfl):PG X (.Tuple es k pos) (gTup X.K n t):=by
 intro pins s σ H v u Q I r hw
 obtain⟨a,xs,e1,hq,hl,hw⟩:=hw
 subst e1
 cases r
 obtain⟨its,rv,ht,hz⟩:=I.tuple hq
 refine assign_Tuple_tuple (I.ok.hd hc) ht (by simp[hn,<-hl,rv.length]) hst fun h' hx=>?_
 have I1:Inv X pins σ H { s with heap:=h' }:=I.kept (t':=s.toks) fun b o e=>hx b o (Nat.ne_of_lt (Heap.lt_size e)) e
 exact h pins _ σ H xs _ Q I1 (by simpa using rv) hw
def gSub(to ti:TE)(t:TSet):TG:=fun v σ H Q=>to σ H fun o H1=>ti σ H1 fun i H2=>t o i v H2 fun H3=>Q σ H3
theorem pg_sub{o i:Expr}{to ti:TE}{t:TSet}(ho:PE X o to)(hi:PE X i ti)(hs:PSet X t)(ha:∀ v,assign (.Subscript o i pos) X.env v=(do
  let ov <-holding [v] (eval o X.env)
  let iv <-holding [v,ov] (eval i X.env)
  standAt pos
  holding [v,ov,iv] (setItem ov iv v)
  release [v,ov,iv] []):=by intro _;rfl):PG X (.Subscript o i pos) (gSub to ti t):=by
 intro pins s σ H v u Q I r h
 rw[ha]
 refine wpAny_bind (wpAny_holding (thn (ho pins s σ H _ I h) fun ov s1 ⟨x,H1,I1,r1,q1⟩=>?_))
 refine wpAny_bind (wpAny_holding (thn (hi pins s1 σ H1 _ I1 q1) fun iv s2 ⟨y,H2,I2,r2,q2⟩=>?_))
 refine wpAny_bind (wpAny_standAt (wpAny_bind (wpAny_holding (thn (hs pins s2 σ H2 x y v ov iv u _ I2 r1 r2 r q2) fun _ s3 ⟨H3,I3,q3⟩=>?_))))
 exact wpAny_release ⟨σ,H3,I3,q3⟩
def tAsg(te:TE)(g:TG):TS:=fun D σ H=>te σ H fun x H1=>g x σ H1 D.nx
theorem ps_asg{tg e:Expr}{te:TE}{g:TG}(he:PE X e te)(hg:PG X tg g)(hs:swapsWithSole [tg] e pos.line X.env=pure false:=by rfl)(hw:swappedStores [tg] e X.env=pure none:=by rfl)(h1:(assignEach [tg] X.env).map (·.2)=[assign tg X.env]:=by rfl):PS X (.Assign [tg] e pos) (tAsg te g):=by
 intro pins s σ H D I h
 refine wpAny_Assign_stores (thn (he pins s σ H _ I h) fun v s1 ⟨x,H1,I1,r1,q1⟩=>?_) hs hw
 rw[h1]
 exact thn (hg pins s1 σ H1 x v _ I1 r1 q1) fun _ s2 q=>q
theorem bc{i:Nat}{x:Str}{e:Expr}{te:TE}{pos':Pos}(hN:X.N.Nodup)(hi:X.N[i]?=some x)(hx:Loc X.env.scope x)(he:PE X e te)(hs:swapsWith e (some (.Name x pos')) pos.line X.env=pure false:=by rfl)(hf:X.fn x=true\/X.env.scope.names.lookup x=some .local:=by first|exact .inl rfl|exact .inr rfl|assumption):PS X (.Assign [.Name x pos'] e pos) (tAsg te (gName i)):=by
 intro pins s σ H D I h
 refine wpAny_Assign_Name (thn (he pins s σ H _ I h) fun v s1 ⟨y,H1,I1,r1,q1⟩=>?_) hs
 exact store_ok I1 hN hi hx r1 (fun s2 I2=>⟨_,H1,I2,q1⟩) hf
def tAug(i:Nat)(te:TE)(ti:TIp):TS:=fun D σ H=>∃ x,σ[i]?=some (some x)/\te σ H fun y H1=>ti x y H1 fun z H2=>D.nx (σ.set i (some z)) H2
theorem ku{i:Nat}{x:Str}{e:Expr}{te:TE}{op:Operator}{ti:TIp}{pos':Pos}(hN:X.N.Nodup)(hi:X.N[i]?=some x)(hx:Loc X.env.scope x)(he:PE X e te)(ho:PIp X op ti)(hf:X.fn x=true\/X.env.scope.names.lookup x=some .local:=by first|exact .inl rfl|exact .inr rfl|assumption):PS X (.AugAssign (.Name x pos') op e pos) (tAug i te ti):=by
 intro pins s σ H D I h
 obtain⟨v,e1,h⟩:=h
 obtain⟨m,hn,hl⟩:=I.loc
 have vis:Vis X.env.scope x:=by rcases hx with k|k;exact .inl k;exact .inr (.inl k)
 obtain⟨u,r,l⟩:=hl i x v hi e1 vis
 refine wpAny_AugAssign_Name ?_
 have go:wpAny (model X.prog X.w) X.A (eval e X.env) (fun w s₂=>wpAny (model X.prog X.w) X.A (inplaceOp op u w) (fun r s₃=>wpAny (model X.prog X.w) X.A (storeName X.env x r) (fun _=>SP X pins D .next) X.xe s₃) X.xe s₂) X.xe s:=by
  refine thn (he pins s σ H _ I h) fun w s1 ⟨y,H1,I1,r1,q1⟩=>?_
  refine thn (ho pins s1 σ H1 v y u w _ I1 r r1 q1) fun z s2 ⟨zv,H2,I2,r2,q2⟩=>?_
  exact store_ok I2 hN hi hx r2 (fun s3 I3=>⟨_,H2,I3,q2⟩) hf
 rcases l with⟨hk,hm⟩|⟨hk,c,hc,hcell⟩
 ·exact wpAny_loadName_local I.ok.kind hk hn hm go
 ·rcases hk with hk|hk
  ·exact wpAny_loadName_cell I.ok.kind hk hc hcell go
  ·rcases hx with k|k
   ·have:X.env.scope.names.lookup x=some .free:=hk
    rw[k] at this;cases this
   ·have:X.env.scope.names.lookup x=some .free:=hk
    rw[k] at this;cases this
def tAugS(to ti te:TE)(tget:V->V->Hp->VK->Prop)(tip:TIp)(tset:TSet):TS:=fun D σ H=>to σ H fun o H1=>ti σ H1 fun i H2=>tget o i H2 fun x H3=>te σ H3 fun y H4=>tip x y H4 fun z H5=>tset o i z H5 fun H6=>D.nx σ H6
def PGet(X:Cx)(t:V->V->Hp->VK->Prop):Prop:=∀(pins:List (Addr×Obj))(s:Shared)(σ:St)(H:Hp)(o i:V)(ov iv:Value)(Q:VK),Inv X pins σ H s->RelV o ov->RelV i iv->t o i H Q->wpAny (model X.prog X.w) X.A (getItem ov iv) (EP X pins σ Q) X.xe s
theorem ps_augS{o i e:Expr}{to ti te:TE}{tget:V->V->Hp->VK->Prop}{tip:TIp}{tset:TSet}{op:Operator}{tpos:Pos}(ho:PE X o to)(hi:PE X i ti)(hg:PGet X tget)(he:PE X e te)(hp:PIp X op tip)(hs:PSet X tset)(ha:∀ ov iv new,augStore i ov iv new=(do holding [new,ov,iv] (setItem ov iv new);release [new,ov,iv] [];pure .next):=by intros;rfl):PS X (.AugAssign (.Subscript o i tpos) op e pos) (tAugS to ti te tget tip tset):=by
 intro pins s σ H D I h
 refine wpAny_AugAssign_SubscriptAny (thn (ho pins s σ H _ I h) fun ov s1 ⟨x1,H1,I1,r1,q1⟩=>?_) ha
 refine thn (hi pins s1 σ H1 _ I1 q1) fun iv s2 ⟨x2,H2,I2,r2,q2⟩=>?_
 refine thn (hg pins s2 σ H2 x1 x2 ov iv _ I2 r1 r2 q2) fun old s3 ⟨x3,H3,I3,r3,q3⟩=>?_
 refine thn (he pins s3 σ H3 _ I3 q3) fun v s4 ⟨x4,H4,I4,r4,q4⟩=>?_
 refine thn (hp pins s4 σ H4 x3 x4 old v _ I4 r3 r4 q4) fun new s5 ⟨x5,H5,I5,r5,q5⟩=>?_
 exact thn (hs pins s5 σ H5 x1 x2 x5 ov iv new _ I5 r1 r2 r5 q5) fun _ s6 ⟨H6,I6,q6⟩=>⟨σ,H6,I6,q6⟩
def tWhile(c:TT)(tb:TS):TS:=fun D σ H=>∃ W:Nat->St->Hp->Prop,(∃ m,W m σ H)/\∀ m σ H,W m σ H->c σ H fun b H1=>if b=true then ∃ N:St->Hp->Prop,(∀ σ' H',N σ' H'->∃ m',m'<m/\W m' σ' H')/\tb { D with nx:=N,ct:=N,bk:=D.nx } σ H1 else D.nx σ H1
theorem ps_while{c:Expr}{body:List Stmt}{tc:TT}{tb:TS}(hp:PassesOwn (model X.prog X.w) X.A X.env X.xe)(hc:PT X c tc)(hb:PSs X body tb):PS X (.While c body [] pos) (tWhile tc tb):=by
 intro pins s σ H D I h
 obtain⟨W,⟨m0,w0⟩,turn⟩:=h
 refine wpAny_While (codeAny_whileLoop (fun n s'=>∃ σ' H',Inv X pins σ' H' s'/\W n σ' H') ?_ m0 ⟨σ,H,I,w0⟩)
 rintro n s1 ⟨σ1,H1,I1,w1⟩
 refine wpAny_passesOwn hp (thn (hc pins s1 σ1 H1 _ I1 (turn n σ1 H1 w1)) fun b s2 ⟨H2,I2,q2⟩=>?_)
 cases b with
 |true =>
  obtain⟨N,hN,q2⟩:=q2
  rw[if_pos rfl]
  refine wpAny_passesOwn hp (thn (hb pins s2 σ1 H2 _ I2 q2) fun f s3 q3=>?_)
  cases f with
  |next =>
   obtain⟨σ3,H3,I3,n3⟩:=q3
   obtain⟨m',hm,w3⟩:=hN σ3 H3 n3
   exact⟨m',hm,σ3,H3,I3,w3⟩
  |cont =>
   obtain⟨σ3,H3,I3,n3⟩:=q3
   obtain⟨m',hm,w3⟩:=hN σ3 H3 n3
   exact⟨m',hm,σ3,H3,I3,w3⟩
  |brk=>exact q3
  |ret v=>exact q3
 |false =>
  rw[if_neg Bool.false_ne_true]
  exact wpAny_execs_nil ⟨σ1,H2,I2,q2⟩
end
structure It where
 go:Nat->Hp->Prop
 yld:Nat->Hp->V->Hp->Prop
 stop:Nat->Hp->Prop
def FpOk(X:Cx)(pins:List (Addr×Obj))(H:Hp)(b:Addr):Prop:=H b=none/\b≠X.env.locals/\b∉X.fs/\(b∈X.ex\/X.s_0.heap.objs.size<=b)/\(∀ x c,X.env.cells.lookup x=some c->c≠b)/\∀ p∈X.pn++pins,p.1≠b
theorem Inv.fpOk{X:Cx}{pins:List (Addr×Obj)}{σ:St}{H H':Hp}{s:Shared}{b:Addr}(I:Inv X pins σ H s)(hb:s.heap.objs.size<=b)(hn:H' b=none):FpOk X pins H' b:=by
 refine⟨hn,Nat.ne_of_gt (Nat.lt_of_lt_of_le I.lt hb),I.nofs hb,.inr (Nat.le_trans I.sz hb),fun x c e z=>?_,fun p hp z=>?_⟩
 ·obtain⟨v,q⟩:=I.cell x c e
  exact absurd (Nat.lt_of_lt_of_le q.lt (by rw[z];exact hb)) (Nat.lt_irrefl _)
 ·exact absurd (Nat.lt_of_lt_of_le (Heap.lt_size (I.pin p hp).1) (by rw[z];exact hb)) (Nat.lt_irrefl _)
structure Turn(P:Program)(w:World)(K:W.Frag)(tg:Expr)(J:It)(fp:List Addr)(it:Addr)(tn:Nat->Heap->Prop):Prop where
 mem:it∈fp
 obj:∀ i h,tn i h->∀ b∈fp,∃ o,h.get? b=some o/\∀ v,o.data≠.cell v
 keep:∀ i h h',tn i h->(∀ b∈fp,∀ o,h.get? b=some o->h'.get? b=some o)->tn i h'
 item:∀(X:Cx),X.prog=P->X.w=w->X.K=K->X.calm=true->∀(i:Nat)(pins:List (Addr×Obj))(s:Shared)(σ:St)(H:Hp)(E:Value->Shared->Prop),Inv X pins σ H s->(∀ b∈fp,FpOk X pins H b)->tn i s.heap->J.go i H ->
  wpAny (model P w) X.A (pyNext (.ref it)) (fun r s1=>∃ u,r=some u /\
   wpAny (model P w) X.A (letOwnedTupleGo tg (.ref it) u) (fun _ s2=>∃ x H',Inv X pins σ H' s2/\RelV x u/\J.yld i H x H'/\tn (i+1) s2.heap/\∀ b∈fp,H' b=none) E s1) E s
 done:∀(X:Cx),X.prog=P->X.w=w->X.K=K->X.calm=true->∀(i:Nat)(pins:List (Addr×Obj))(s:Shared)(σ:St)(H:Hp)(E:Value->Shared->Prop),Inv X pins σ H s->(∀ b∈fp,FpOk X pins H b)->tn i s.heap->J.stop i H ->
  wpAny (model P w) X.A (pyNext (.ref it)) (fun r s1=>r=none/\Inv X pins σ H s1) E s
 self:∀(A:Around)(i:Nat)(s:Shared)(Q:Value->Shared->Prop)(E:Value->Shared->Prop),tn i s.heap->Q (.ref it) s->wpAny (model P w) A (pyIter (.ref it)) Q E s
abbrev TI:=St->Hp->(It->Hp->Prop)->Prop
def PIE(X:Cx)(pins:List (Addr×Obj))(σ:St)(tg:Expr)(R:It->Hp->Prop)(itv:Value)(s2:Shared):Prop:=∃(it:Addr)(fp:List Addr)(tn:Nat->Heap->Prop)(J:It)(H':Hp),itv=.ref it/\Inv X pins σ H' s2/\Turn X.prog X.w X.K tg J fp it tn/\tn 0 s2.heap/\(∀ b∈fp,FpOk X pins H' b)/\R J H'
def PI(X:Cx)(tg iter:Expr)(wi:TI):Prop:=∀(pins:List (Addr×Obj))(s:Shared)(σ:St)(H:Hp)(R:It->Hp->Prop),Inv X pins σ H s->wi σ H R->wpAny (model X.prog X.w) X.A (eval iter X.env) (fun v s1=>wpAny (model X.prog X.w) X.A (pyIter v) (PIE X pins σ tg R) X.xe s1) X.xe s
theorem go_of {M : Model} {A : Around} {E : Value → Shared → Prop} {s : Shared} {tg : Expr} {it : Addr} {u : Value} {o : Obj} {n : String} {vs : Array Value} {Q : Unit → Shared → Prop} (ho : s.heap.get? it = some o) (hc : o.cls = .type n) (hd : o.data = .fields vs)
    (hn : ["enumerate", "zip", "dict_itemiterator", "dict_reverseitemiterator", "odict_iterator", "itertools.zip_longest", "itertools.pairwise"].contains n = false) (hQ : Q () s) : wpAny M A (letOwnedTupleGo tg (.ref it) u) Q E s := by
  unfold letOwnedTupleGo
  cases tg <;> first
    | exact wpAny_pure hQ
    | (cases u <;> first
        | exact wpAny_pure hQ
        | (refine wpAny_bind (wpAny_load ho ?_)
           rw [hc, hd]
           show wpAny M A (if (["enumerate", "zip", "dict_itemiterator", "dict_reverseitemiterator", "odict_iterator", "itertools.zip_longest", "itertools.pairwise"].contains n && vs[0]? == some (rawInt _)) = true then _ else _) Q E s
           rw [if_neg (by intro h; rw [hn, Bool.false_and] at h; cases h)]
           exact wpAny_pure hQ))
def Itl(K:W.Frag)(a:Addr):It:=⟨fun i H=>∃ xs x,SqL K H a xs/\xs[i]?=some x,fun i H x H'=>H'=H/\∀ xs,SqL K H a xs->xs[i]?=some x,fun i H=>∃ xs,SqL K H a xs/\xs.length<=i⟩
def Itt(K:W.Frag)(a:Addr):It:=⟨fun i H=>∃ xs x,SqT K H a xs/\xs[i]?=some x,fun i H x H'=>H'=H/\∀ xs,SqT K H a xs->xs[i]?=some x,fun i H=>∃ xs,SqT K H a xs/\xs.length<=i⟩
def Itr(lo:Int)(n:Nat):It:=⟨fun i _=>i<n,fun i H x H'=>H'=H/\x=.int (lo+i),fun i _=>n<=i⟩
theorem turn_list{P:Program}{w:World}{K:W.Frag}{tg:Expr}(a it:Addr):Turn P w K tg (Itl K a) [it] it (fun i h=>h.IsListIter it a i) where
 mem:=by simp
 obj:=fun i h st b hb=>by
  have e:b=it:=by simpa using hb
  subst e
  obtain⟨o,e,c,d⟩:=st
  exact⟨o,e,fun v z=>by rw[d] at z;cases z⟩
 keep:=fun i h h' st k=>st.at fun o e=>k it (by simp) o e
 item:=by
  intro X hP hw hK hc i pins s σ H E I hf st hg
  subst hP hw hK
  obtain⟨xs,x,hq,hx⟩:=hg
  obtain⟨its,rv,p,hz⟩:=I.list hq
  obtain⟨u,hu,ru⟩:=rv.get hx
  obtain⟨f0,f1,f2,f3,f4,f5⟩:=hf it (by simp)
  refine wpAny_pyNext_list_item st p.isList (x:=u) (by simpa using hu) fun h' st' sb=>?_
  have I1:Inv X pins σ H { s with heap:=h' }:=I.turned (t':=s.toks) (fun b o hb e=>(sb.2 b hb).trans e) f0 f1 f3 f4 f5
  obtain⟨o,e,c,d⟩:=id st'
  exact⟨u,rfl,go_of (s:={ s with heap:=h' }) e c d (by decide) ⟨x,H,I1,ru,⟨rfl,fun ys hy=>by rw[I.list_inj hy hq];exact hx⟩,st',fun b hb=>(hf b hb).1⟩⟩
 done:=by
  intro X hP hw hK hc i pins s σ H E I hf st hg
  subst hP hw hK
  obtain⟨xs,hq,hx⟩:=hg
  obtain⟨its,rv,p,hz⟩:=I.list hq
  obtain⟨f0,f1,f2,f3,f4,f5⟩:=hf it (by simp)
  have hl:=rv.length
  exact wpAny_pyNext_list_end (I.ok.hd hc) st p.isList (by simp;omega) fun h' eb=>⟨rfl,I.turned (t':=s.toks) (fun b o hb e=>eb b o hb e) f0 f1 f3 f4 f5⟩
 self:=fun _ _ _ _ _ st h=>wpAny_pyIter_listiter st h
theorem turn_tuple{P:Program}{w:World}{K:W.Frag}{tg:Expr}(a it:Addr):Turn P w K tg (Itt K a) [it] it (fun i h=>h.IsTupleIter it a i) where
 mem:=by simp
 obj:=fun i h st b hb=>by
  have e:b=it:=by simpa using hb
  subst e
  obtain⟨o,e,c,d⟩:=st
  exact⟨o,e,fun v z=>by rw[d] at z;cases z⟩
 keep:=fun i h h' st k=>st.at fun o e=>k it (by simp) o e
 item:=by
  intro X hP hw hK hc i pins s σ H E I hf st hg
  subst hP hw hK
  obtain⟨xs,x,hq,hx⟩:=hg
  obtain⟨its,rv,p,hz⟩:=I.tuple hq
  obtain⟨u,hu,ru⟩:=rv.get hx
  obtain⟨f0,f1,f2,f3,f4,f5⟩:=hf it (by simp)
  refine wpAny_pyNext_tuple_item st (show s.heap.IsTuple a its.toArray from p) (x:=u) (by simpa using hu) fun h' st' sb=>?_
  have I1:Inv X pins σ H { s with heap:=h' }:=I.turned (t':=s.toks) (fun b o hb e=>(sb.2 b hb).trans e) f0 f1 f3 f4 f5
  obtain⟨o,e,c,d⟩:=id st'
  exact⟨u,rfl,go_of (s:={ s with heap:=h' }) e c d (by decide) ⟨x,H,I1,ru,⟨rfl,fun ys hy=>by rw[I.tuple_inj hy hq];exact hx⟩,st',fun b hb=>(hf b hb).1⟩⟩
 done:=by
  intro X hP hw hK hc i pins s σ H E I hf st hg
  subst hP hw hK
  obtain⟨xs,hq,hx⟩:=hg
  obtain⟨its,rv,p,hz⟩:=I.tuple hq
  obtain⟨f0,f1,f2,f3,f4,f5⟩:=hf it (by simp)
  have hl:=rv.length
  exact wpAny_pyNext_tuple_end (I.ok.hd hc) st (show s.heap.IsTuple a its.toArray from p) (by simp;omega) fun h' eb=>⟨rfl,I.turned (t':=s.toks) (fun b o hb e=>eb b o hb e) f0 f1 f3 f4 f5⟩
 self:=fun _ _ _ _ _ st h=>wpAny_pyIter_tupleiter st h
theorem turn_range{P:Program}{w:World}{K:PySem.W.Frag}{tg:Expr}(it:Addr)(lo:Int)(n:Nat):Turn P w K tg (Itr lo n) [it] it (fun i h=>IsRangeIter h it (lo+(i:Nat) * 1) ((n:Int)-(i:Nat)) 1) where
 mem:=by simp
 obj:=fun i h st b hb=>by
  have e:b=it:=by simpa using hb
  subst e
  exact⟨_,st,fun v z=>by
   have z':Data.fields _=Data.cell v:=z
   cases z'⟩
 keep:=fun i h h' st k=>k it (by simp) _ st
 item:=by
  intro X hP hw hK hc i pins s σ H E I hf st hg
  subst hP hw hK
  obtain⟨f0,f1,f2,f3,f4,f5⟩:=hf it (by simp)
  have W:=Walks.range (prog:=X.prog) (w:=X.w) (I.ok.hd hc) it lo 1 n
  refine W.item i s _ _ hg st fun v h' tk hv st' kk=>?_
  obtain⟨t,rfl⟩:=hv
  have I1:Inv X pins σ H { s with heap:=h',toks:=tk }:=I.turned (fun b o hb e=>kk b o (by simpa using hb) e) f0 f1 f3 f4 f5
  refine⟨_,rfl,go_of (s:={ s with heap:=h',toks:=tk }) (n:="range_iterator") st' rfl rfl (by decide) ⟨.int (lo+i),H,I1,⟨t,?_⟩,⟨rfl,rfl⟩,st',fun b hb=>(hf b hb).1⟩⟩
  rw[Int.mul_one]
 done:=by
  intro X hP hw hK hc i pins s σ H E I hf st hg
  subst hP hw hK
  obtain⟨f0,f1,f2,f3,f4,f5⟩:=hf it (by simp)
  exact wpAny_pyNext_range_end (I.ok.hd hc) st (by have:n<=i:=hg;omega) fun h' eb=>⟨rfl,I.turned (t':=s.toks) (fun b o hb e=>eb b o hb e) f0 f1 f3 f4 f5⟩
 self:=fun _ _ _ _ _ st h=>wpAny_pyIter_rangeiter st h
section
variable{X:Cx}{tg:Expr}
def iList(K:W.Frag)(tl:TE):TI:=fun σ H R=>tl σ H fun x H1=>∃ a,x=.ref a/\(∃ xs,SqL K H1 a xs)/\R (Itl K a) H1
def iTup(K:W.Frag)(tl:TE):TI:=fun σ H R=>tl σ H fun x H1=>∃ a,x=.ref a/\(∃ xs,SqT K H1 a xs)/\R (Itt K a) H1
theorem mn{l:Expr}{tl:TE}(hl:PE X l tl):PI X tg l (iList X.K tl):=by
 intro pins s σ H R I h
 refine thn (hl pins s σ H _ I h) fun v s1 ⟨x,H1,I1,r1,q1⟩=>?_
 obtain⟨a,e,⟨xs,hq⟩,q⟩:=q1
 subst e
 cases r1
 obtain⟨its,rv,p,hz⟩:=I1.list hq
 refine wpAny_pyIter_list p.isList ?_
 refine⟨s1.heap.objs.size,[s1.heap.objs.size],_,_,H1,rfl,I1.kept (t':=s1.toks) fun b o e=>Heap.get?_push_of_some _ e,turn_list a _,⟨_,Heap.get?_push_size _ rfl,rfl,rfl⟩,fun b hb=>?_,q⟩
 have e:b=s1.heap.objs.size:=by simpa using hb
 subst e
 exact I1.fpOk (Nat.le_refl _) (I1.hok.fresh (Nat.le_refl _))
theorem pi_tup{l:Expr}{tl:TE}(hl:PE X l tl):PI X tg l (iTup X.K tl):=by
 intro pins s σ H R I h
 refine thn (hl pins s σ H _ I h) fun v s1 ⟨x,H1,I1,r1,q1⟩=>?_
 obtain⟨a,e,⟨xs,hq⟩,q⟩:=q1
 subst e
 cases r1
 obtain⟨its,rv,p,hz⟩:=I1.tuple hq
 refine wpAny_pyIter_tuple (show s1.heap.IsTuple a its.toArray from p) ?_
 refine⟨s1.heap.objs.size,[s1.heap.objs.size],_,_,H1,rfl,I1.kept (t':=s1.toks) fun b o e=>Heap.get?_push_of_some _ e,turn_tuple a _,⟨_,Heap.get?_push_size _ rfl,rfl,rfl⟩,fun b hb=>?_,q⟩
 have e:b=s1.heap.objs.size:=by simpa using hb
 subst e
 exact I1.fpOk (Nat.le_refl _) (I1.hok.fresh (Nat.le_refl _))
theorem range_it{pins:List (Addr×Obj)}{σ:St}{H:Hp}{s:Shared}{R:It->Hp->Prop}{E:Value->Shared->Prop}{lo hi:Int}{t u v:Tok}{tk:Nat}(I:Inv X pins σ H s)(h1:-(2 ^ 62)<=lo)(h2:lo<2 ^ 62)(h3:-(2 ^ 62)<=hi)(h4:hi<2 ^ 62)(q:R (Itr lo (hi-lo).toNat) H):wpAny (model X.prog X.w) X.A (pyIter (.ref s.heap.objs.size)) (PIE X pins σ tg R) E { s with heap:=s.heap.push { cls:=.type "range",data:=.fields #[.int lo t,.int hi u,.int 1 v] },toks:=tk }:=by
 refine wpAny_pyIter_range (IsRange.new ..) (small_one h1 h2 h3 h4) ?_
 have I1:Inv X pins σ H { s with heap:=s.heap.push { cls:=.type "range",data:=.fields #[.int lo t,.int hi u,.int 1 v] },toks:=tk }:=I.kept fun b o e=>Heap.get?_push_of_some _ e
 refine⟨(s.heap.push { cls:=.type "range",data:=.fields #[.int lo t,.int hi u,.int 1 v] }).objs.size,[(s.heap.push { cls:=.type "range",data:=.fields #[.int lo t,.int hi u,.int 1 v] }).objs.size],_,_,H,rfl,I1.kept (t':=tk) fun b o e=>Heap.get?_push_of_some _ e,turn_range _ lo (hi-lo).toNat,?_,fun b hb=>?_,q⟩
 ·have e1:lo+((0:Nat):Int) * 1=lo:=by simp
  have e2:(((hi-lo).toNat:Nat):Int)-((0:Nat):Int)=Builtin.Range.rangeSize lo hi 1:=by rw[rangeSize_one];split<;>omega
  show IsRangeIter _ _ (lo+((0:Nat):Int) * 1) ((((hi-lo).toNat:Nat):Int)-((0:Nat):Int)) 1
  rw[e1,e2]
  exact Heap.get?_push_size _ rfl
 ·have e:b=(s.heap.push { cls:=.type "range",data:=.fields #[.int lo t,.int hi u,.int 1 v] }).objs.size:=by simpa using hb
  subst e
  exact I1.fpOk (Nat.le_refl _) (I1.hok.fresh (Nat.le_refl _))
def iRng1(ta:TA):TI:=fun σ H R=>ta σ H fun vs H1=>∃ j:Int,vs=[.int j]/\-(2 ^ 62)<=j/\j<2 ^ 62/\R (Itr 0 j.toNat) H1
theorem pi_range1{a:Expr}{ta:TA}{p pos:Pos}(hg:Gl X "range")(hm:X.mg "range"=none)(ha:PA X [a] ta)(hs:starEach [a] X.env=[(false,eval a X.env)]:=by rfl):PI X tg (.Call (.Name "range" p) [a] [] pos) (iRng1 ta):=by
 intro pins s σ H R I h
 refine Call_ (ld_blt I hg hm boot_range (PyProof.Rows.callWith_type1 (thn (ha pos pins s σ H _ I h) fun us s1 ⟨vs,H1,I1,r1,q1⟩=>?_) hs rfl))
 obtain⟨j,e,q1,q2,q⟩:=q1
 subst e
 cases r1 with
 |cons r rr =>
  cases rr
  obtain⟨t,rfl⟩:=r
  exact call_range_1 (range_it I1 (by omega) (by omega) q1 q2 (by simpa using q))
def tFor(wi:TI)(g:TG)(tb:TS):TS:=fun D σ H=>wi σ H fun J H1=>∃ W:Nat->Nat->St->Hp->Prop,(∃ m,W 0 m σ H1)/\∀ i m σ H,W i m σ H->(J.stop i H/\D.nx σ H)\/(J.go i H/\∃ N:St->Hp->Prop,(∀ σ' H',N σ' H'->∃ m',m'<m/\W (i+1) m' σ' H')/\∀ x H',J.yld i H x H'->g x σ H' fun σ2 H2=>tb { D with nx:=N,ct:=N,bk:=D.nx } σ2 H2)
def pinsAt(fp:List Addr)(h:Heap):List (Addr×Obj):=fp.filterMap fun b=>(h.get? b).map fun o=>(b,o)
theorem mem_pinsAt{fp:List Addr}{h:Heap}{b:Addr}{o:Obj}(hb:b∈fp)(e:h.get? b=some o):(b,o)∈pinsAt fp h:=List.mem_filterMap.mpr ⟨b,hb,by rw[e];rfl⟩
theorem of_pinsAt{fp:List Addr}{h:Heap}{p:Addr×Obj}(hp:p∈pinsAt fp h):p.1∈fp/\h.get? p.1=some p.2:=by
 obtain⟨b,hb,e⟩:=List.mem_filterMap.mp hp
 cases q:h.get? b with
 |none=>rw[q] at e;cases e
 |some o =>
  rw[q] at e
  have e':(b,o)=p:=Option.some.inj e
  subst e'
  exact⟨hb,q⟩
theorem Inv.pinned{pins:List (Addr×Obj)}{σ:St}{H:Hp}{s:Shared}{fp:List Addr}(I:Inv X pins σ H s)(hf:∀ b∈fp,FpOk X pins H b)(ho:∀ b∈fp,∃ o,s.heap.get? b=some o/\∀ v,o.data≠.cell v):Inv X (pins++pinsAt fp s.heap) σ H s:=I.pins_of fun p hp=>(List.mem_append.mp hp).elim (fun z=>I.pin p (List.mem_append_right _ z)) fun z=>by
 obtain⟨hb,e⟩:=of_pinsAt z
 obtain⟨f0,f1,f2,_⟩:=hf p.1 hb
 obtain⟨o,e',d⟩:=ho p.1 hb
 rw[e] at e';cases e'
 exact⟨e,f0,f1,f2,d⟩
theorem Inv.unpinned{pins pl:List (Addr×Obj)}{σ:St}{H:Hp}{s:Shared}(I:Inv X (pins++pl) σ H s):Inv X pins σ H s:=I.pins_of fun p hp=>I.pin p (List.mem_append_right _ (List.mem_append_left _ hp))
theorem io{iter:Expr}{body:List Stmt}{wi:TI}{g:TG}{tb:TS}{pos:Pos}(hp:PassesOwn (model X.prog X.w) X.A X.env X.xe)(hc:X.calm=true)(hi:PI X tg iter wi)(hg:PG X tg g)(hb:PSs X body tb)(hs:∀ x,foldedSetIterable iter X.env x=pure x:=by intro _;rfl):PS X (.For tg iter body [] pos) (tFor wi g tb):=by
 intro pins s σ H D I h
 refine wpAny_For (thn (hi pins s σ H _ I h) fun v s1 h1=>thn h1 fun itv s2 h2=>?_) hs
 obtain⟨it,fp,tn,J,H2,e,I2,T,st2,f2,W,⟨m0,w0⟩,turn⟩:=h2
 subst e
 have stat:∀{H':Hp},(∀ b∈fp,H' b=none)->∀ b∈fp,FpOk X pins H' b:=fun hn b hb=>⟨hn b hb,(f2 b hb).2⟩
 refine codeAny_forLoop_any (fun n s'=>∃ i σ' H',Inv X pins σ' H' s'/\tn i s'.heap/\(∀ b∈fp,H' b=none)/\W i n σ' H') ?_ m0 ⟨0,σ,H2,I2,st2,fun b hb=>(f2 b hb).1,w0⟩
 rintro n s3 ⟨i,σ3,H3,I3,st3,fr3,w3⟩
 rcases turn i n σ3 H3 w3 with⟨stop,qn⟩|⟨go,N,hN,step⟩
 ·refine wpAny_passesOwn hp (thn (T.done X rfl rfl rfl hc i pins s3 σ3 H3 X.xe I3 (stat fr3) st3 stop) fun r s4 ⟨hr,I4⟩=>?_)
  subst hr
  exact wpAny_execs_nil ⟨σ3,H3,I4,qn⟩
 ·refine wpAny_passesOwn hp (thn (T.item X rfl rfl rfl hc i pins s3 σ3 H3 X.xe I3 (stat fr3) st3 go) fun r s4 ⟨u,hr,h4⟩=>?_)
  subst hr
  refine wpAny_passesOwn hp (thn h4 fun _ s5 ⟨x,H5,I5,r5,y5,st5,fr5⟩=>?_)
  have I5':=I5.pinned (stat fr5) (T.obj _ _ st5)
  refine wpAny_passesOwn hp (thn (hg _ s5 σ3 H5 x u _ I5' r5 (step x H5 y5)) fun _ s6 ⟨σ6,H6,I6,q6⟩=>?_)
  refine wpAny_passesOwn hp (thn (hb _ s6 σ6 H6 _ I6 q6) fun f s7 q7=>?_)
  have again:∀{σ7:St}{H7:Hp},Inv X (pins++pinsAt fp s5.heap) σ7 H7 s7->N σ7 H7->∃ m,m<n/\∃ i σ' H',Inv X pins σ' H' s7/\tn i s7.heap/\(∀ b∈fp,H' b=none)/\W i m σ' H':=fun{σ7 H7} I7 n7=>by
   obtain⟨m',hm,w7⟩:=hN σ7 H7 n7
   refine⟨m',hm,i+1,σ7,H7,I7.unpinned,T.keep _ _ _ st5 fun b hb o e=>(I7.pin (b,o) (List.mem_append_right _ (List.mem_append_right _ (mem_pinsAt hb e)))).1,fun b hb=>?_,w7⟩
   obtain⟨o,e,d⟩:=T.obj _ _ st5 b hb
   exact(I7.pin (b,o) (List.mem_append_right _ (List.mem_append_right _ (mem_pinsAt hb e)))).2.1
  cases f with
  |next=>obtain⟨σ7,H7,I7,n7⟩:=q7;exact again I7 n7
  |cont=>obtain⟨σ7,H7,I7,n7⟩:=q7;exact again I7 n7
  |brk=>obtain⟨σ7,H7,I7,q7⟩:=q7;exact⟨σ7,H7,I7.unpinned,q7⟩
  |ret v=>obtain⟨x7,σ7,H7,I7,r7,q7⟩:=q7;exact⟨x7,σ7,H7,I7.unpinned,r7,q7⟩
theorem for_list{K:PySem.W.Frag}{a:Addr}{xs:List V}{g:TG}{tb:TS}{D:Ends}{σ:St}{H:Hp}(Pv:Nat->St->Hp->Prop)(h0:Pv 0 σ H)(hl:∀ i σ H,i<=xs.length->Pv i σ H->SqL K H a xs)(hs:∀ i x σ H,xs[i]?=some x->Pv i σ H->g x σ H fun σ2 H2=>tb { D with nx:=Pv (i+1),ct:=Pv (i+1),bk:=D.nx } σ2 H2)(hd:∀ σ H,Pv xs.length σ H->D.nx σ H):∃ W:Nat->Nat->St->Hp->Prop,(∃ m,W 0 m σ H)/\∀ i m σ H,W i m σ H->((Itl K a).stop i H/\D.nx σ H)\/((Itl K a).go i H/\∃ N:St->Hp->Prop,(∀ σ' H',N σ' H'->∃ m',m'<m/\W (i+1) m' σ' H')/\∀ x H',(Itl K a).yld i H x H'->g x σ H' fun σ2 H2=>tb { D with nx:=N,ct:=N,bk:=D.nx } σ2 H2):=by
 refine⟨fun i m σ H=>m=xs.length-i/\i<=xs.length/\Pv i σ H,⟨xs.length,by simp,Nat.zero_le _,h0⟩,?_⟩
 rintro i m σ H ⟨rfl,hi,p⟩
 have q:=hl i σ H hi p
 by_cases hlt:i<xs.length
 ·refine .inr ⟨⟨xs,xs[i],q,by simp[hlt]⟩,Pv (i+1),fun σ' H' p'=>⟨xs.length-(i+1),by omega,rfl,hlt,p'⟩,fun x H' y=>?_⟩
  obtain⟨e,y⟩:=y
  subst e
  exact hs i x σ _ (y xs q) p
 ·have e:i=xs.length:=by omega
  subst e
  exact .inl ⟨⟨xs,q,Nat.le_refl _⟩,hd σ H p⟩
theorem for_tup{K:PySem.W.Frag}{a:Addr}{xs:List V}{g:TG}{tb:TS}{D:Ends}{σ:St}{H:Hp}(Pv:Nat->St->Hp->Prop)(h0:Pv 0 σ H)(hl:∀ i σ H,i<=xs.length->Pv i σ H->SqT K H a xs)(hs:∀ i x σ H,xs[i]?=some x->Pv i σ H->g x σ H fun σ2 H2=>tb { D with nx:=Pv (i+1),ct:=Pv (i+1),bk:=D.nx } σ2 H2)(hd:∀ σ H,Pv xs.length σ H->D.nx σ H):∃ W:Nat->Nat->St->Hp->Prop,(∃ m,W 0 m σ H)/\∀ i m σ H,W i m σ H->((Itt K a).stop i H/\D.nx σ H)\/((Itt K a).go i H/\∃ N:St->Hp->Prop,(∀ σ' H',N σ' H'->∃ m',m'<m/\W (i+1) m' σ' H')/\∀ x H',(Itt K a).yld i H x H'->g x σ H' fun σ2 H2=>tb { D with nx:=N,ct:=N,bk:=D.nx } σ2 H2):=by
 refine⟨fun i m σ H=>m=xs.length-i/\i<=xs.length/\Pv i σ H,⟨xs.length,by simp,Nat.zero_le _,h0⟩,?_⟩
 rintro i m σ H ⟨rfl,hi,p⟩
 have q:=hl i σ H hi p
 by_cases hlt:i<xs.length
 ·refine .inr ⟨⟨xs,xs[i],q,by simp[hlt]⟩,Pv (i+1),fun σ' H' p'=>⟨xs.length-(i+1),by omega,rfl,hlt,p'⟩,fun x H' y=>?_⟩
  obtain⟨e,y⟩:=y
  subst e
  exact hs i x σ _ (y xs q) p
 ·have e:i=xs.length:=by omega
  subst e
  exact .inl ⟨⟨xs,q,Nat.le_refl _⟩,hd σ H p⟩
abbrev R2:=V->V->Hp->VK->Prop
def OpR(X:Cx)(f:Value->Value->Sem Value)(r:R2):Prop:=∀(pins:List (Addr×Obj))(s:Shared)(σ:St)(H:Hp)(x y:V)(v u:Value)(Q:VK),Inv X pins σ H s->RelV x v->RelV y u->r x y H Q->wpAny (model X.prog X.w) X.A (f v u) (EP X pins σ Q) X.xe s
def CallR(X:Cx)(f:Value)(r:List V->Hp->VK->Prop):Prop:=∀(pins:List (Addr×Obj))(s:Shared)(σ:St)(H:Hp)(xs:List V)(us:List Value)(Q:VK),Inv X pins σ H s->bh xs us->r xs H Q->wpAny (model X.prog X.w) X.A (call f us) (EP X pins σ Q) X.xe s
def tOp(r:R2)(ta tb:TE):TE:=fun σ H Q=>ta σ H fun x H1=>tb σ H1 fun y H2=>r x y H2 Q
def rI(C:Int->Int->Prop)(g:Int->Int->V):R2:=fun x y H Q=>∃ i j,x=.int i/\y=.int j/\C i j/\Q (g i j) H
def rI0(g:Int->Int->V):R2:=fun x y H Q=>∃ i j,x=.int i/\y=.int j/\Q (g i j) H
end
section
variable{X:Cx}{a b c:Expr}{ta tb tc:TE}{pos:Pos}
theorem binT(ha:PE X a ta)(hb:PE X b tb){pins:List (Addr×Obj)}{s:Shared}{σ:St}{H:Hp}{R:V->V->Hp->Prop}(I:Inv X pins σ H s)(h:ta σ H fun x H1=>tb σ H1 fun y H2=>R x y H2){Q:Value->Shared->Prop}{f:Value->Value->Sem Value}(hf:∀ v u s2 x y H2,Inv X pins σ H2 s2->RelV x v->RelV y u->R x y H2->wpAny (model X.prog X.w) X.A (f v u) Q X.xe s2):wpAny (model X.prog X.w) X.A (eval a X.env) (fun v s₁=>wpAny (model X.prog X.w) X.A (eval b X.env) (fun u s₂=>wpAny (model X.prog X.w) X.A (f v u) Q X.xe s₂) X.xe s₁) X.xe s:=by
 refine thn (ha pins s σ H _ I h) fun v s1 ⟨x,H1,I1,r1,q1⟩=>?_
 refine thn (hb pins s1 σ H1 _ I1 q1) fun u s2 ⟨y,H2,I2,r2,q2⟩=>?_
 exact hf v u s2 x y H2 I2 r1 r2 q2
theorem cp{op:Operator}{r:R2}(ho:OpR X (binaryOp op) r)(ha:PE X a ta)(hb:PE X b tb):PE X (.BinOp a op b pos) (tOp r ta tb):=by
 intro pins s σ H Q I h
 exact wpAny_BinOp (binT ha hb I h fun v u s2 x y H2 I2 rx ry q=>ho pins s2 σ H2 x y v u Q I2 rx ry q)
theorem opI{f:Value->Value->Sem Value}{C:Int->Int->Prop}{g:Int->Int->Int}(rule:∀(i j:Int)(t u:Tok)(s:Shared)(Q:Value->Shared->Prop)(E:Value->Shared->Prop),C i j->Q (.int (g i j) s.toks) { s with toks:=s.toks+1 }->wpAny (model X.prog X.w) X.A (f (.int i t) (.int j u)) Q E s):OpR X f (rI C fun i j=>.int (g i j)):=by
 intro pins s σ H x y v u Q I rx ry h
 obtain⟨i,j,rfl,rfl,hc,q⟩:=h
 obtain⟨t,rfl⟩:=rx
 obtain⟨t',rfl⟩:=ry
 exact rule i j t t' s _ _ hc ⟨.int (g i j),H,I.tok _,⟨_,rfl⟩,q⟩
theorem opI0{f:Value->Value->Sem Value}{g:Int->Int->Int}(rule:∀(i j:Int)(t u:Tok)(s:Shared)(Q:Value->Shared->Prop)(E:Value->Shared->Prop),Q (.int (g i j) s.toks) { s with toks:=s.toks+1 }->wpAny (model X.prog X.w) X.A (f (.int i t) (.int j u)) Q E s):OpR X f (rI0 fun i j=>.int (g i j)):=by
 intro pins s σ H x y v u Q I rx ry h
 obtain⟨i,j,rfl,rfl,q⟩:=h
 obtain⟨t,rfl⟩:=rx
 obtain⟨t',rfl⟩:=ry
 exact rule i j t t' s _ _ ⟨.int (g i j),H,I.tok _,⟨_,rfl⟩,q⟩
theorem opB0{f:Value->Value->Sem Value}{g:Int->Int->Bool}(rule:∀(i j:Int)(t u:Tok)(s:Shared)(Q:Value->Shared->Prop)(E:Value->Shared->Prop),Q (.bool (g i j)) s->wpAny (model X.prog X.w) X.A (f (.int i t) (.int j u)) Q E s):OpR X f (rI0 fun i j=>.bl (g i j)):=by
 intro pins s σ H x y v u Q I rx ry h
 obtain⟨i,j,rfl,rfl,q⟩:=h
 obtain⟨t,rfl⟩:=rx
 obtain⟨t',rfl⟩:=ry
 exact rule i j t t' s _ _ ⟨.bl (g i j),H,I,rfl,q⟩
def CPow(i j:Int):Prop:=0<=j/\j<=1000000/\i.natAbs<2 ^ 64
def CMul(i j:Int):Prop:=(-(2 ^ 64)<i/\i<2 ^ 64)\/(-(2 ^ 64)<j/\j<2 ^ 64)
theorem CMul.ok{i j:Int}(h:CMul i j):IntMulOk i j:=by
 rcases h with⟨h1,h2⟩|⟨h1,h2⟩
 ·exact .of_left (intBits_le_64 h1 h2)
 ·exact .of_right (intBits_le_64 h1 h2)
theorem two_pow_nn(k:Nat):(0:Int)<=2 ^ k:=by
 rw[two_pow_cast]
 exact Int.natCast_nonneg _
theorem op_add:OpR X (binaryOp .Add) (rI0 fun i j=>.int (i+j)):=opI0 fun _ _ _ _ _ _ _ q=>add_int q
theorem op_sub:OpR X (binaryOp .Sub) (rI0 fun i j=>.int (i-j)):=opI0 fun _ _ _ _ _ _ _ q=>sub_int q
theorem op_mul:OpR X (binaryOp .Mult) (rI CMul fun i j=>.int (i * j)):=opI fun _ _ _ _ _ _ _ hc q=>mul_int q hc.ok
theorem op_mod:OpR X (binaryOp .Mod) (rI (fun _ j=>0<j) fun i j=>.int (i % j)):=opI fun i j _ _ _ _ _ hc q=>by
 have h1:(0:Int)<j:=hc
 exact mod_int' (by omega) (by rw[Int.fmod_eq_emod_of_nonneg i (by omega)];exact q)
theorem op_pow:OpR X (binaryOp .Pow) (rI CPow fun i j=>.int (i ^ j.toNat)):=opI fun _ _ _ _ _ _ _ hc q=>pow_int_small hc.1 hc.2.1 hc.2.2 q
theorem op_shl:OpR X (binaryOp .LShift) (rI CPow fun i j=>.int (i * 2 ^ j.toNat)):=opI fun _ _ _ _ _ _ _ hc q=>lshift_int_small hc.1 hc.2.1 hc.2.2 q
theorem op_shr:OpR X (binaryOp .RShift) (rI (fun _ j=>0<=j) fun i j=>.int (i / 2 ^ j.toNat)):=opI fun i j _ _ _ _ _ hc q =>
 rshift_int hc (by rw[Int.fdiv_eq_ediv_of_nonneg i (two_pow_nn _)];exact q)
theorem op_and:OpR X (binaryOp .BitAnd) (rI0 fun i j=>.int (Builtin.bitAnd i j)):=opI0 fun _ _ _ _ _ _ _ q=>and_int q
theorem op_xor:OpR X (binaryOp .BitXor) (rI0 fun i j=>.int (Builtin.bitXor i j)):=opI0 fun _ _ _ _ _ _ _ q=>xor_int q
theorem mr:OpR X (inplaceOp .Add) (rI0 fun i j=>.int (i+j)):=opI0 fun _ _ _ _ _ _ _ q=>iadd_int q
theorem iop_and:OpR X (inplaceOp .BitAnd) (rI0 fun i j=>.int (Builtin.bitAnd i j)):=opI0 fun _ _ _ _ _ _ _ q=>iand_int q
theorem iop_or:OpR X (inplaceOp .BitOr) (rI0 fun i j=>.int (Builtin.bitOr i j)):=opI0 fun _ _ _ _ _ _ _ q=>ior_int q
def scal:V->V->Bool
 |.non,.non=>true | .non,.int _=>true | .int _,.non=>true | .non,.bl _=>true | .bl _,.non=>true | .non,.str _=>true | .str _,.non=>true
 |.int _,.int _=>true | .bl _,.bl _=>true | .str _,.str _=>true | .byt _,.byt _=>true
 |.int _,.str _=>true | .str _,.int _=>true | .bl _,.str _=>true | .str _,.bl _=>true
 |_,_=>false
def rEq:R2:=fun x y H Q=>scal x y=true/\Q (.bl (decide (x=y))) H
def rNe:R2:=fun x y H Q=>scal x y=true/\Q (.bl (!decide (x=y))) H
theorem dec_int{i j:Int}:decide (V.int i=V.int j)=(i==j):=by
 rw[Bool.eq_iff_iff]
 simp
theorem dec_bl{i j:Bool}:decide (V.bl i=V.bl j)=(i==j):=by
 rw[Bool.eq_iff_iff]
 simp
theorem dec_str{i j:Str}:decide (V.str i=V.str j)=(i==j):=by
 rw[Bool.eq_iff_iff]
 simp
theorem dec_byt{i j:Array UInt8}:decide (V.byt i=V.byt j)=(i.toList==j.toList):=by
 rw[Bool.eq_iff_iff]
 cases i
 cases j
 simp
theorem bx{pins:List (Addr×Obj)}{σ:St}{H:Hp}{s:Shared}{Q:VK}{k k':Bool}(I:Inv X pins σ H s)(q:Q (.bl k) H)(e:k=k'):EP X pins σ Q (.bool k') s:=by
 subst e
 exact⟨.bl k,H,I,rfl,q⟩
theorem cf:OpR X (compareOp .Eq) rEq:=by
 intro pins s σ H x y v u Q I rx ry h
 obtain⟨hs,q⟩:=h
 cases x with
 |non =>
  cases rx
  cases y with
  |non=>cases ry;exact PySem.EqNone.eq_none_none (bx I q (by simp))
  |bl j=>cases ry;exact PySem.EqNone.eq_none_bool (bx I q (by simp))
  |int j=>obtain⟨t',rfl⟩:=ry;exact PySem.EqNone.eq_none_int (bx I q (by simp))
  |str j=>obtain⟨t',rfl⟩:=ry;exact PySem.EqNone.eq_none_str (bx I q (by simp))
  |_=>exact absurd (show false=true from hs) Bool.false_ne_true
 |bl i =>
  cases rx
  cases y with
  |non=>cases ry;exact PySem.EqNone.eq_bool_none (bx I q (by simp))
  |bl j=>cases ry;exact eq_bool (bx I q dec_bl)
  |str j=>obtain⟨t',rfl⟩:=ry;exact PySem.EqMixed.eq_bool_str (bx I q (by simp))
  |_=>exact absurd (show false=true from hs) Bool.false_ne_true
 |int i =>
  obtain⟨t,rfl⟩:=rx
  cases y with
  |non=>cases ry;exact PySem.EqNone.eq_int_none (bx I q (by simp))
  |int j=>obtain⟨t',rfl⟩:=ry;exact eq_int (bx I q dec_int)
  |str j=>obtain⟨t',rfl⟩:=ry;exact PySem.EqMixed.eq_int_str (bx I q (by simp))
  |_=>exact absurd (show false=true from hs) Bool.false_ne_true
 |str i =>
  obtain⟨t,rfl⟩:=rx
  cases y with
  |non=>cases ry;exact PySem.EqNone.eq_str_none (bx I q (by simp))
  |bl j=>cases ry;exact PySem.EqMixed.eq_str_bool (bx I q (by simp))
  |int j=>obtain⟨t',rfl⟩:=ry;exact PySem.EqMixed.eq_str_int (bx I q (by simp))
  |str j=>obtain⟨t',rfl⟩:=ry;exact eq_str (bx I q dec_str)
  |_=>exact absurd (show false=true from hs) Bool.false_ne_true
 |byt i =>
  obtain⟨t,rfl⟩:=rx
  cases y with
  |byt j=>obtain⟨t',rfl⟩:=ry;exact W.eq_bytes (bx I q dec_byt)
  |_=>exact absurd (show false=true from hs) Bool.false_ne_true
 |_=>cases y<;>exact absurd (show false=true from hs) Bool.false_ne_true
theorem op_ne:OpR X (compareOp .NotEq) rNe:=by
 intro pins s σ H x y v u Q I rx ry h
 obtain⟨hs,q⟩:=h
 cases x with
 |non =>
  cases rx
  cases y with
  |non=>cases ry;exact PySem.EqNone.ne_none_none (bx I q (by simp))
  |bl j=>cases ry;exact PySem.EqNone.ne_none_bool (bx I q (by simp))
  |int j=>obtain⟨t',rfl⟩:=ry;exact PySem.EqNone.ne_none_int (bx I q (by simp))
  |str j=>obtain⟨t',rfl⟩:=ry;exact PySem.EqNone.ne_none_str (bx I q (by simp))
  |_=>exact absurd (show false=true from hs) Bool.false_ne_true
 |bl i =>
  cases rx
  cases y with
  |non=>cases ry;exact PySem.EqNone.ne_bool_none (bx I q (by simp))
  |bl j=>cases ry;exact ne_bool (bx I q (congrArg not dec_bl))
  |str j=>obtain⟨t',rfl⟩:=ry;exact PySem.EqMixed.ne_bool_str (bx I q (by simp))
  |_=>exact absurd (show false=true from hs) Bool.false_ne_true
 |int i =>
  obtain⟨t,rfl⟩:=rx
  cases y with
  |non=>cases ry;exact PySem.EqNone.ne_int_none (bx I q (by simp))
  |int j=>obtain⟨t',rfl⟩:=ry;exact ne_int (bx I q (congrArg not dec_int))
  |str j=>obtain⟨t',rfl⟩:=ry;exact PySem.EqMixed.ne_int_str (bx I q (by simp))
  |_=>exact absurd (show false=true from hs) Bool.false_ne_true
 |str i =>
  obtain⟨t,rfl⟩:=rx
  cases y with
  |non=>cases ry;exact PySem.EqNone.ne_str_none (bx I q (by simp))
  |bl j=>cases ry;exact PySem.EqMixed.ne_str_bool (bx I q (by simp))
  |int j=>obtain⟨t',rfl⟩:=ry;exact PySem.EqMixed.ne_str_int (bx I q (by simp))
  |str j=>obtain⟨t',rfl⟩:=ry;exact ne_str (bx I q (congrArg not dec_str))
  |_=>exact absurd (show false=true from hs) Bool.false_ne_true
 |byt i =>
  obtain⟨t,rfl⟩:=rx
  cases y with
  |byt j=>obtain⟨t',rfl⟩:=ry;exact W.ne_bytes (bx I q (congrArg not dec_byt))
  |_=>exact absurd (show false=true from hs) Bool.false_ne_true
 |_=>cases y<;>exact absurd (show false=true from hs) Bool.false_ne_true
theorem op_lt:OpR X (compareOp .Lt) (rI0 fun i j=>.bl (decide (i<j))):=opB0 fun _ _ _ _ _ _ _ q=>lt_int q
theorem lj:OpR X (compareOp .LtE) (rI0 fun i j=>.bl (decide (i<=j))):=opB0 fun _ _ _ _ _ _ _ q=>le_int q
theorem op_gt:OpR X (compareOp .Gt) (rI0 fun i j=>.bl (decide (j<i))):=opB0 fun _ _ _ _ _ _ _ q=>gt_int q
theorem op_ge:OpR X (compareOp .GtE) (rI0 fun i j=>.bl (decide (j<=i))):=opB0 fun _ _ _ _ _ _ _ q=>ge_int q
theorem op_isN:OpR X (compareOp .Is) (fun x y H Q=>y=.non/\Q (.bl (decide (x=.non))) H):=by
 intro pins s σ H x y v u Q I rx ry h
 obtain⟨rfl,q⟩:=h
 cases ry
 refine is_none_gen (bx I q ?_)
 cases x<;>first
  |(cases rx;rfl)
  |(obtain⟨t,rfl⟩:=rx;rfl)
theorem gq{op:CmpOp}{r:R2}(ho:OpR X (compareOp op) r)(ha:PE X a ta)(hb:PE X b tb)(hm:behindInMarks op b=false):PE X (.Compare a [op] [b] pos) (tOp r ta tb):=by
 intro pins s σ H Q I h
 exact wpAny_Compare1 (binT ha hb I h fun v u s2 x y H2 I2 rx ry q=>ho pins s2 σ H2 x y v u Q I2 rx ry q) hm
def tTest(t:TE):TT:=fun σ H Q=>t σ H fun x H'=>∃ k,x=.bl k/\Q k H'
theorem aq{op:CmpOp}{r:R2}(ho:OpR X (compareOp op) r)(ha:PE X a ta)(hb:PE X b tb)(hm:behindInMarks op b=false):PT X (.Compare a [op] [b] pos) (tTest (tOp r ta tb)):=by
 intro pins s σ H Q I h
 refine wpAny_isTrue_Compare1 (thn (ha pins s σ H _ I h) fun v s1 ⟨x,H1,I1,r1,q1⟩=>thn (hb pins s1 σ H1 _ I1 q1) fun u s2 ⟨y,H2,I2,r2,q2⟩ =>
  thn (ho pins s2 σ H2 x y v u _ I2 r1 r2 q2) fun c s3 ⟨z,H3,I3,r3,k,e,q3⟩=>?_) hm
 subst e
 cases r3
 exact wpAny_truthy_bool ⟨H3,I3,q3⟩
def tChain(r r':R2)(ta tb tc:TE):TE:=fun σ H Q=>ta σ H fun x H1=>tb σ H1 fun y H2=>r x y H2 fun z H3=>∃ k,z=.bl k/\(if k=true then tc σ H3 fun w' H4=>r' y w' H4 Q else Q (.bl false) H3)
theorem j8{op op':CmpOp}{r r':R2}(ho:OpR X (compareOp op) r)(ho':OpR X (compareOp op') r')(ha:PE X a ta)(hb:PE X b tb)(hc:PE X c tc)(hm:lastMarks [op,op'] [b,c]=false:=by with_unfolding_all rfl):PT X (.Compare a [op,op'] [b,c] pos) (tTest (tChain r r' ta tb tc)):=by
 intro pins s σ H Q I h
 refine isTrue_chain (thn (ha pins s σ H _ I h) fun v s1 ⟨x,H1,I1,r1,q1⟩=>test_link (thn (hb pins s1 σ H1 _ I1 q1) fun u s2 ⟨y,H2,I2,r2,q2⟩ =>
  thn (ho pins s2 σ H2 x y v u _ I2 r1 r2 q2) fun d s3 ⟨z,H3,I3,r3,k,e,q3⟩=>?_)) hm
 subst e
 cases r3
 refine wpAny_truthy_bool ?_
 cases k with
 |false =>
  obtain⟨k',e',q'⟩:=q3
  cases e'
  exact ite_ff ⟨H3,I3,q'⟩
 |true =>
  refine ite_tt (test_last (thn (hc pins s3 σ H3 _ I3 q3) fun w' s4 ⟨z',H4,I4,r4,q4⟩=>thn (ho' pins s4 σ H4 y z' u w' _ I4 r2 r4 q4) fun d' s5 ⟨z2,H5,I5,r5,k2,e2,q5⟩=>?_))
  subst e2
  cases r5
  exact wpAny_truthy_bool ⟨H5,I5,q5⟩
theorem line63:(sizeLine:Nat)<2 ^ 63:=by rw[sizeLine_eq];decide
theorem mq:OpR X (binaryOp .Add) (fun x y H Q=>∃ i j,x=.str i/\y=.str j/\i.length+j.length<=sizeLine/\Q (.str (i++j)) H):=by
 intro pins s σ H x y v u Q I rx ry h
 obtain⟨i,j,rfl,rfl,hz,q⟩:=h
 obtain⟨t,rfl⟩:=rx
 obtain⟨t',rfl⟩:=ry
 exact add_str (fun t' tk=>⟨.str (i++j),H,I.tok _,⟨_,rfl⟩,q⟩) hz
theorem vals1{x:V}{us:List Value}(r:bh [x] us):∃ u,us=[u]/\RelV x u:=by
 cases r with
 |cons r1 r2=>cases r2;exact⟨_,rfl,r1⟩
theorem call_str_int:CallR X (.type "str") (fun xs H Q=>∃ i,xs=[.int i]/\i.natAbs.log2<1920/\Q (.str (toString i)) H):=by
 intro pins s σ H xs us Q I r h
 obtain⟨i,rfl,hz,q⟩:=h
 obtain⟨u,rfl,t,rfl⟩:=vals1 r
 exact PySem.P.str_of_int hz ⟨.str _,H,I.tok _,⟨_,rfl⟩,q⟩
theorem call_ord:CallR X (.builtin "ord") (fun xs H Q=>∃ x,xs=[.str x]/\x.length=1/\Q (.int (x.cps.getD 0 0:Nat)) H):=by
 intro pins s σ H xs us Q I r h
 obtain⟨x,rfl,hz,q⟩:=h
 obtain⟨u,rfl,t,rfl⟩:=vals1 r
 exact ord_of_one hz ⟨.int _,H,I.tok _,⟨_,rfl⟩,q⟩
end
structure ObjM(h:Heap)(x dx C:Addr)(mA:Str->Option Value):Prop where
 obj:h.get? x=some (W.instObj C dx)
 ns:h.Ns1 dx mA
 ne:dx≠x
theorem lookIn_ns{h:Heap}{dx:Addr}{mA:Str->Option Value}(n:h.Ns1 dx mA):∃ od,h.get? dx=some od/\∀ name,W.lookIn name od=some (mA name):=by
 obtain⟨o,es,ep,ho,hd,hk,_,hm⟩:=n
 refine⟨o,ho,fun name=>?_⟩
 have e:=hm name
 unfold nsFind findBy at e
 rw[<-Array.find?_toList] at e
 unfold W.lookIn
 rw[hd]
 dsimp only
 split
 ·rename_i y q
  rw[q] at e
  exact congrArg some e
 ·rename_i q
  rw[q] at e
  have a:es.toList.any (·.refKey)=false:=by
   rw[List.any_eq_false]
   intro y hy
   obtain⟨z,t,hkey⟩:=hk y (Array.mem_toList_iff.mp hy)
   simp[DictEntry.refKey,hkey]
  have a':¬ es.toList.any (·.refKey)=true:=by rw[a];exact Bool.false_ne_true
  rw[if_neg a']
  exact congrArg some e
theorem ObjM.look{h:Heap}{x dx C:Addr}{mA:Str->Option Value}(I:ObjM h x dx C mA):∃ od,W.InstAt h x (W.instObj C dx) C (some od)/\∀ name,W.lookIn name od=some (mA name):=let ⟨od,ho,hl⟩:=lookIn_ns I.ns
 ⟨od,⟨I.obj,rfl,rfl,ho⟩,hl⟩
section
variable{prog:Program}{w:World}{A:Around}{E:Value->Shared->Prop}{s:Shared}{K:PySem.W.Frag}{x dx C f:Addr}{mA:Str->Option Value}{name:Str}{v:Value}
theorem get_map{expr:Bool}{Q:Value->Shared->Prop}(X:K.In s.heap)(I:ObjM s.heap x dx C mA)(hg:W.plainGet K C name=true)(hh:W.hasDictIn K C=true)(ha:W.findIn K (.ref C) name=some none)(hv:mA name=some v)(hv':W.handedIn v=true)(h:Q v { s with toks:=s.toks+1 }):wpAny (model prog w) A (getAttr (.ref x) name expr) Q E s:=by
 obtain⟨od,J,hl⟩:=I.look
 exact W.get_value X J (W.plainGet_of hg).1 (W.findObj_own hh ha rfl (by rw[hl,hv])) hv' h
theorem get_meth{pl:Sem Bool}{Q:Value×List Value->Shared->Prop}(X:K.In s.heap)(I:ObjM s.heap x dx C mA)(hg:W.plainGet K C name=true)(hf:W.findIn K (.ref C) name=some (some (.ref f)))(ht:W.isFn K (.ref f)=true)(hv:mA name=none)(h:Q (.ref f,[.ref x]) s):wpAny (model prog w) A (getMethod (.ref x) name pl) Q E s:=by
 obtain⟨od,J,hl⟩:=I.look
 exact W.method_fn X J (W.plainGet_of hg).1 (W.plainGet_of hg).2 hf (beq_iff_eq.mp ht) (by show(W.lookIn name od).map (·.isSome)=some false;rw[hl,hv];rfl) h
theorem set_map{ns:List Str}{Q:Unit->Shared->Prop}(X:K.In s.heap)(I:ObjM s.heap x dx C mA)(hs:W.findIn K (.ref C) "__setattr__"=some (some (.builtin "object.__setattr__")))(hp:W.plainOver K C=true)(ht:W.takerIn K C name=some none)(hh:W.hasDictIn K C=true)(hw:PySem.Within mA ns)(hsz:ns.length<=sizeLine)(h:∀ h',ObjM h' x dx C (fun y=>if y=name then some v else mA y)->Heap.SameBut dx s.heap h'->Q () { s with heap:=h',toks:=s.toks+2 }):wpAny (model prog w) A (setAttr (.ref x) name v) Q E s:=by
 obtain⟨od,J,hl⟩:=I.look
 refine W.set_plain X J hs (W.osa_open (s:={ s with toks:=s.toks+1 }) (r:=none) X J hp ht fun b=>?_)
 obtain⟨cd,hc,hd'⟩:=W.any_some hh
 have hx:s.heap.get? x=some ⟨.ref C,some dx,.plain,#[]⟩:=I.obj
 refine wpAny_bind (wpAny_pure (wpAny_bind (wpAny_bind (wpAny_loadPart hx (wpAny_bind (W.Looks.here (s:={ s with toks:=s.toks+1 }) (W.looks_clsIn X hc) ?_))))))
 rw[hd']
 refine wpAny_pure (a:=some dx) (wpAny_bind (wpAny_pure (wpAny_bind ?_)))
 refine wpAny_nsSet1 (s:={ s with toks:=s.toks+1 }) I.ns fun h' hn2 hs2=>?_
 obtain⟨oD,esD,epD,hoD,hdD,hcD⟩:=hn2.count (PySem.Within.cons name v hw)
 refine wpAny_bind (wpAny_lookBehind hoD (by rw[hdD];exact pastItsLine_dict (Nat.le_trans hcD (by rw[List.length_cons];omega))) ?_)
 exact wpAny_pure (h _ ⟨(hs2.2 _ (Ne.symm I.ne)).trans I.obj,hn2,I.ne⟩ hs2)
theorem make_map{R:Result->Shared->Prop}{vs:List Value}{kw:List (Str×Value)}(X:K.In s.heap)(hm:W.makesIn K C=true)(hi:W.findIn K (.ref C) "__init__"=some (some (.ref f)))(hf:W.typeIn K (.ref f)=some (.type "function"))(h:codeAny (model prog w) (A.under (.builtin "type.__call__" ⟨.ref C::vs,kw⟩)) (.call (.ref f) ⟨.ref (s.heap.objs.size+1)::vs,kw⟩) (W.InitBack (s.heap.objs.size+1) R) { s with heap:=(s.heap.push W.emptyDict).push (W.instObj C s.heap.objs.size) }):codeAny (model prog w) A (.call (.ref C) ⟨vs,kw⟩) R s:=by
 obtain⟨hh,g,d,t,os⟩:=s
 exact W.make_core (W.makes_of X hm) (W.looks_findIn X hi) (fun self=>W.bind_fn X self hf) (.inl rfl) h
def putF(f:Str)(v:V):List (Str×V)->List (Str×V)
 | []=>[(f,v)]
 |(g,x)::r=>if g=f then (g,v)::r else (g,x)::putF f v r
theorem lookup_putF(f g:Str)(v:V):∀ fs:List (Str×V),(putF f v fs).lookup g=if g=f then some v else fs.lookup g
 | []=>by
  show List.lookup g [(f,v)]=_
  by_cases h:g=f
  ·have hb:(g==f)=true:=beq_iff_eq.mpr h
   simp only[List.lookup,hb,if_pos h]
  ·have hb:(g==f)=false:=beq_eq_false_iff_ne.mpr h
   simp only[List.lookup,hb,if_neg h]
 |(k,x)::r=>by
  have ih:=lookup_putF f g v r
  rw[show putF f v ((k,x)::r)=(if k=f then (k,v)::r else (k,x)::putF f v r) from rfl]
  by_cases hk:k=f
  ·rw[if_pos hk]
   by_cases h:g=k
   ·have hb:(g==k)=true:=beq_iff_eq.mpr h
    simp only[List.lookup,hb,if_pos (h.trans hk)]
   ·have hb:(g==k)=false:=beq_eq_false_iff_ne.mpr h
    simp only[List.lookup,hb,if_neg (fun e:g=f=>h (e.trans hk.symm))]
  ·rw[if_neg hk]
   by_cases h:g=k
   ·have hb:(g==k)=true:=beq_iff_eq.mpr h
    simp only[List.lookup,hb,if_neg (fun e:g=f=>hk (h.symm.trans e))]
   ·have hb:(g==k)=false:=beq_eq_false_iff_ne.mpr h
    simp only[List.lookup,hb]
    exact ih
theorem keys_putF(f:Str)(v:V):∀ fs:List (Str×V),f∈(putF f v fs).map (·.1)/\∀ g,g∈fs.map (·.1)->g∈(putF f v fs).map (·.1)
 | []=>⟨by simp[putF],fun g h=>by simp at h⟩
 |(k,x)::r=>by
  obtain⟨i1,i2⟩:=keys_putF f v r
  rw[show putF f v ((k,x)::r)=(if k=f then (k,v)::r else (k,x)::putF f v r) from rfl]
  by_cases hk:k=f
  ·rw[if_pos hk]
   subst hk
   exact⟨by simp,fun g h=>by simpa using h⟩
  ·rw[if_neg hk]
   refine⟨?_,fun g h=>?_⟩
   ·rw[List.map_cons]
    exact List.mem_cons_of_mem _ i1
   ·rw[List.map_cons] at h ⊢
    rcases List.mem_cons.mp h with e|e
    ·exact List.mem_cons.mpr (.inl e)
    ·exact List.mem_cons_of_mem _ (i2 g e)
theorem length_putF(f:Str)(v:V):∀ fs:List (Str×V),(putF f v fs).length<=fs.length+1
 | []=>by simp[putF]
 |(k,x)::r=>by
  have ih:=length_putF f v r
  rw[show putF f v ((k,x)::r)=(if k=f then (k,v)::r else (k,x)::putF f v r) from rfl]
  by_cases hk:k=f
  ·rw[if_pos hk,List.length_cons,List.length_cons];omega
  ·rw[if_neg hk,List.length_cons,List.length_cons];omega
theorem k8.some_of{v:V}{o:Option Value}(r:k8 (some v) o):∃ u,o=some u/\RelV v u:=by
 cases o with
 |none=>exact(show False from r).elim
 |some u=>exact⟨u,rfl,r⟩
theorem k8.none_of{o:Option Value}(r:k8 none o):o=none:=by
 cases o with
 |none=>rfl
 |some u=>exact(show False from r).elim
theorem handed_of{v:V}{u:Value}(r:RelV v u):W.handedIn u=true:=by
 cases v with
 |non=>cases (show u=Value.none from r);rfl
 |bl b=>cases (show u=Value.bool b from r);rfl
 |int i=>obtain⟨t,e⟩:=(show ∃ t,u=Value.int i t from r);cases e;rfl
 |str x=>obtain⟨t,e⟩:=(show ∃ t,u=Value.str x t from r);cases e;rfl
 |byt b=>obtain⟨t,e⟩:=(show ∃ t,u=Value.bytes b t from r);cases e;rfl
 |flt b=>obtain⟨t,e⟩:=(show ∃ t,u=Value.float b t from r);cases e;rfl
 |ref a=>cases (show u=Value.ref a from r);rfl
 |ty n=>cases (show u=Value.type n from r);rfl
end
section
variable{P:Program}{w:World}{H H':Hp}{h h':Heap}{a C dx:Addr}{fs fs':List (Str×V)}
theorem ins_get(hok:HOk P w H h)(e:H a=some (.ins C dx fs)):∃ mA,ObjM h a dx C mA/\(∀ f,k8 (fs.lookup f) (mA f))/\PySem.Within mA (fs.map (·.1))/\fs.length<=1000/\H dx=some (.own a):=by
 obtain⟨d,z,ne,ob,mA,n,r,q⟩:=(show di P w H h a (.ins C dx fs) from hok a _ e)
 exact⟨mA,⟨ob,n,ne⟩,r,q,z,d⟩
end
structure Cls(K:W.Frag)(C:Addr):Prop where
 pg:W.plainGet K C Str.empty=true
 hd:W.hasDictIn K C=true
 po:W.plainOver K C=true
 sa:W.findIn K (.ref C) "__setattr__"=some (some (.builtin "object.__setattr__"))
theorem Cls.get{K:W.Frag}{C:Addr}(c:Cls K C)(f:Str):W.plainGet K C f=true:=c.pg
def NoAttr(K:W.Frag)(C:Addr)(f:Str):Prop:=W.findIn K (.ref C) f=some none
theorem NoAttr.taker{K:W.Frag}{C:Addr}{f:Str}(n:NoAttr K C f):W.takerIn K C f=some none:=by
 unfold W.takerIn
 rw[show W.findIn K (.ref C) f=some none from n]
 rfl
structure Meth(K:W.Frag)(C:Addr)(m:Str)(f:Addr):Prop where
 at_:W.findIn K (.ref C) m=some (some (.ref f))
 fn:W.isFn K (.ref f)=true
 kp:W.keepIn K (.ref f)=true
section
variable{X:Cx}{pins:List (Addr×Obj)}{σ:St}{H:Hp}{s:Shared}{a C dx:Addr}{fs:List (Str×V)}{f:Str}{v:V}{A:Around}{E:Value->Shared->Prop}
theorem getattr_ok{b:Bool}{Q:Value->Shared->Prop}(I:Inv X pins σ H s)(e:H a=some (.ins C dx fs))(c:Cls X.K C)(n:NoAttr X.K C f)(l:fs.lookup f=some v)(h:∀ u s',Inv X pins σ H s'->RelV v u->Q u s'):wpAny (model X.prog X.w) A (getAttr (.ref a) f b) Q E s:=by
 obtain⟨mA,O,r,_,_,_⟩:=ins_get I.hok e
 obtain⟨u,hu,ru⟩:=k8.some_of (v:=v) (o:=mA f) (by rw[<-l];exact r f)
 exact get_map I.kIn O (c.get f) c.hd n hu (handed_of ru) (h u _ (I.tok _) ru)
theorem getmeth_ok{m:Str}{g:Addr}{pl:Sem Bool}{Q:Value×List Value->Shared->Prop}(I:Inv X pins σ H s)(e:H a=some (.ins C dx fs))(c:Cls X.K C)(k:Meth X.K C m g)(l:fs.lookup m=none)(h:Q (.ref g,[.ref a]) s):wpAny (model X.prog X.w) A (getMethod (.ref a) m pl) Q E s:=by
 obtain⟨mA,O,r,_,_,_⟩:=ins_get I.hok e
 have hn:mA m=none:=k8.none_of (by rw[<-l];exact r m)
 exact get_meth I.kIn O (c.get m) k.at_ k.fn hn h
theorem setattr_ok{y:V}{u:Value}{Q:Unit->Shared->Prop}(I:Inv X pins σ H s)(e:H a=some (.ins C dx fs))(c:Cls X.K C)(n:NoAttr X.K C f)(hl:fs.length<1000)(ry:RelV y u)(h:∀ s',Inv X pins σ (upd H a (.ins C dx (putF f y fs))) s'->Q () s'):wpAny (model X.prog X.w) A (setAttr (.ref a) f u) Q E s:=by
 obtain⟨mA,O,r,wi,_,ho⟩:=ins_get I.hok e
 have hz:(fs.map (·.1)).length<=sizeLine:=by rw[List.length_map,sizeLine_eq];omega
 refine set_map I.kIn O c.sa c.po n.taker c.hd wi hz fun h' O' sb=>h _ ?_
 have hd:∃ o,h'.get? dx=some o:=let ⟨o,_,_,e',_⟩:=O'.ns;⟨o,e'⟩
 refine I.write (x:=a) (e:=dx) (by rw[e];exact True.intro) (.inr ho) (fun b q hb z=>(sb.2 b hb).trans z) hd ?_
 refine⟨by rw[ai O.ne];exact ho,?_,O.ne,O'.obj,_,O'.ns,fun g=>?_,fun g hg=>?_⟩
 ·have:=length_putF f y fs;omega
 ·show k8 ((putF f y fs).lookup g) (if g=f then some u else mA g)
  rw[lookup_putF]
  by_cases q:g=f
  ·rw[if_pos q,if_pos q];exact ry
  ·rw[if_neg q,if_neg q];exact r g
 ·by_cases q:g=f
  ·rw[q];exact(keys_putF f y fs).1
  ·refine(keys_putF f y fs).2 g (wi g fun z=>hg ?_)
   show(if g=f then some u else mA g)=none
   rw[if_neg q];exact z
theorem Inv.made(I:Inv X pins σ H s):Inv X pins σ (upd (upd H s.heap.objs.size (.own (s.heap.objs.size+1))) (s.heap.objs.size+1) (.ins C s.heap.objs.size [])) { s with heap:=(s.heap.push W.emptyDict).push (W.instObj C s.heap.objs.size) }:=by
 have e1:(s.heap.push W.emptyDict).get? s.heap.objs.size=some W.emptyDict:=Heap.get?_push_size s.heap rfl
 have e2:((s.heap.push W.emptyDict).push (W.instObj C s.heap.objs.size)).get? (s.heap.objs.size+1)=some (W.instObj C s.heap.objs.size):=by
  have:=Heap.get?_push_size (s.heap.push W.emptyDict) (o:=W.instObj C s.heap.objs.size) rfl
  rwa[Heap.size_push] at this
 have e3:(s.heap.push W.emptyDict).Ns s.heap.objs.size (fun _=>none):=⟨W.emptyDict,#[],_,e1,rfl,(fun e he=>absurd he (by simp)),fun _=>rfl⟩
 have I1:=I.laid (a:=s.heap.objs.size) (o:=.own (s.heap.objs.size+1)) (h':=s.heap.push W.emptyDict) (t':=s.toks) (fun b u q=>Heap.get?_push_of_some _ q) (Nat.le_refl _) ⟨_,e1⟩
 refine I1.laid (a:=s.heap.objs.size+1) (o:=.ins C s.heap.objs.size []) (t':=s.toks) (fun b u q=>Heap.get?_push_of_some _ q) (Nat.le_of_eq (Heap.size_push _ _)) ?_
 have ne:s.heap.objs.size≠s.heap.objs.size+1:=Nat.ne_of_lt (Nat.lt_succ_self _)
 refine⟨by rw[ai ne,ac],Nat.zero_le _,ne,e2,fun _=>none,(Heap.Ns1.of_empty e3).at fun o q=>Heap.get?_push_of_some _ q,fun _=>True.intro,fun y hy=>absurd rfl hy⟩
theorem attr_of{prog:Program}{w:World}{env:Env}{e:Expr}{f:Str}{pos:Pos}{s:Shared}{Q:Value->Shared->Prop}(hb:attributeBase e f env (eval e env)=eval e env)(h:wpAny (model prog w) A (eval e env) (fun o s₁=>wpAny (model prog w) A (getAttr o f true) Q E s₁) E s):wpAny (model prog w) A (eval (.Attribute e f pos) env) Q E s:=Attribute_any_ h (by rw[arm_eval_Attribute,hb])
def tFld(K:W.Frag)(ta:TE)(f:Str):TE:=fun σ H Q=>ta σ H fun x H1=>∃ a C dx fs v,x=.ref a/\H1 a=some (.ins C dx fs)/\Cls K C/\NoAttr K C f/\fs.lookup f=some v/\Q v H1
def sFld(K:W.Frag)(ta tv:TE)(f:Str):TS:=fun D σ H=>tv σ H fun y H1=>ta σ H1 fun x H2=>∃ a C dx fs,x=.ref a/\H2 a=some (.ins C dx fs)/\Cls K C/\NoAttr K C f/\fs.length<1000/\D.nx σ (upd H2 a (.ins C dx (putF f y fs)))
end
section
variable{X:Cx}{o e value:Expr}{f:Str}{pos pos' tpos:Pos}{ta tv:TE}
theorem ao(he:PE X e ta)(hb:attributeBase e f X.env (eval e X.env)=eval e X.env):PE X (.Attribute e f pos) (tFld X.K ta f):=by
 intro pins s σ H Q I h
 refine attr_of hb (thn (he pins s σ H _ I h) fun u s1 ⟨x,H1,I1,rx,a,C,dx,fs,v,ex,ea,c,n,l,q⟩=>?_)
 subst ex
 obtain rfl:u=Value.ref a:=rx
 exact getattr_ok I1 ea c n l fun u' s2 I2 ru=>⟨v,H1,I2,ru,q⟩
theorem bg(ha:PE X o ta)(hv:PE X value tv)(hs:swapsWith value (some (.Attribute o f pos')) pos.line X.env=pure false):PS X (.Assign [.Attribute o f pos'] value pos) (sFld X.K ta tv f):=by
 intro pins s σ H D I h
 refine plainObj_wpAny_Assign_Attribute (thn (hv pins s σ H _ I h) fun u s1 ⟨y,H1,I1,ry,q⟩=>thn (ha pins s1 σ H1 _ I1 q) fun ov s2 ⟨x,H2,I2,rx,a,C,dx,fs,ex,ea,c,n,l,q2⟩=>?_) hs
 subst ex
 obtain rfl:ov=Value.ref a:=rx
 exact setattr_ok I2 ea c n l ry fun s3 I3=>⟨σ,_,I3,q2⟩
end
structure fm(k:Nat)(A:Around):Prop where
 hd:A.handled=none
 dp:A.depth+3 * k+5<recursionLimit
 un:A.units+16 * k+200<cLine
theorem fm.mono{j k:Nat}{A:Around}(r:fm k A)(h:j<=k):fm j A:=⟨r.hd,by have:=r.dp;omega,by have:=r.un;omega⟩
theorem fm.deeper{k:Nat}{A:Around}(r:fm (k+1) A)(env:Env):fm k (A.deeper env):=⟨r.hd,by have:=r.dp;show A.depth+1+3 * k+5<_;omega,by have:=r.un;show A.units+3+16 * k+200<_;omega⟩
theorem make_depth{A:Around}{C:Addr}{us:List Value}{kw:List (Str×Value)}:(A.under (.builtin "type.__call__" ⟨.ref C::us,kw⟩)).depth=A.depth+1:=by
 first|rfl|simp[Around.under,Code.weight,Code.isCreation,Code.isGuard,Code.isCaller,Code.frames,Code.isFrame,guardIds]
theorem make_units{A:Around}{C:Addr}{us:List Value}{kw:List (Str×Value)}:(A.under (.builtin "type.__call__" ⟨.ref C::us,kw⟩)).units=A.units+1:=by
 first|rfl|simp[Around.under,Code.cUnits,Code.frames,Code.isFrame]
theorem fm.make{k:Nat}{A:Around}(r:fm (k+1) A)(C:Addr)(us:List Value)(kw:List (Str×Value)):fm k (A.under (.builtin "type.__call__" ⟨.ref C::us,kw⟩)):=⟨r.hd,by have:=r.dp;rw[make_depth];omega,by have:=r.un;rw[make_units];omega⟩
theorem fm.depth{k:Nat}{A:Around}(r:fm k A):A.depth<recursionLimit:=by have:=r.dp;omega
theorem fm.units{k:Nat}{A:Around}(r:fm k A):A.units+64<cLine:=by have:=r.un;omega
def jo:TA:=fun _ H Q=>Q [] H
def de(ta:TE)(tr:TA):TA:=fun σ H Q=>ta σ H fun x H1=>tr σ H1 fun xs H2=>Q (x::xs) H2
section
variable{X:Cx}{e:Expr}{es:List Expr}{te:TE}{t:TA}{pos:Pos}
theorem af:PA X [] jo:=fun _ _ _ _ H Q I h=>Calls.spliced_nil ⟨[],H,I,.nil,h⟩
theorem aa(ha:PE X e te)(hr:PA X es t)(hs:starEach (e::es) X.env=(false,eval e X.env)::starEach es X.env:=by rfl):PA X (e::es) (de te t):=by
 intro pos pins s σ H Q I h
 rw[hs]
 show wpAny _ _ (spliced ((false,eval e X.env)::backTo pos (starEach es X.env))) _ _ s
 refine Calls.spliced_cons (thn (ha pins s σ H _ I h) fun u s1 ⟨x,H1,I1,r1,q1⟩=>?_)
 exact thn (hr pos pins s1 σ H1 _ I1 q1) fun us s2 ⟨xs,H2,I2,r2,q2⟩=>⟨x::xs,H2,I2,.cons r1 r2,q2⟩
def tTup(t:TA):TE:=fun σ H Q=>t σ H fun xs H1=>xs.length<=sizeLine/\∀ p,H1 p=none->Q (.ref p) (upd H1 p (.tup xs))
def tLst(t:TA):TE:=fun σ H Q=>t σ H fun xs H1=>xs.length<=sizeLine/\∀ p,H1 p=none->Q (.ref p) (upd H1 p (.lst xs))
theorem pe_tup{x1}(h:PA X es t):PE X (.Tuple es x1 pos) (tTup t):=by
 intro pins s σ H Q I hq
 refine wpAny_Tuple_spliced (thn (h pos pins s σ H _ I hq) fun us s1 ⟨xs,H1,I1,r,z,q⟩=>⟨by rw[<-r.length];exact z,?_⟩)
 have hf:H1 s1.heap.objs.size=none:=I1.hok.fresh (Nat.le_refl _)
 refine⟨.ref s1.heap.objs.size,upd H1 s1.heap.objs.size (.tup xs),I1.laid (t':=s1.toks) (fun b u e=>Heap.get?_push_of_some _ e) (Nat.le_refl _) ?_,rfl,q _ hf⟩
 exact⟨z,us,r,⟨_,Heap.get?_push_size _ rfl,rfl,_,rfl⟩⟩
theorem bi(h:PA X es t):PE X (.List es pos) (tLst t):=by
 intro pins s σ H Q I hq
 refine wpAny_List_spliced (thn (h pos pins s σ H _ I hq) fun us s1 ⟨xs,H1,I1,r,z,q⟩=>⟨by rw[<-r.length];exact z,?_⟩)
 have hf:H1 s1.heap.objs.size=none:=I1.hok.fresh (Nat.le_refl _)
 refine⟨.ref s1.heap.objs.size,upd H1 s1.heap.objs.size (.lst xs),I1.laid (t':=s1.toks) (fun b u e=>Heap.get?_push_of_some _ e) (Nat.le_refl _) ?_,rfl,q _ hf⟩
 exact⟨z,us,0,r,Heap.get?_push_size _ rfl⟩
abbrev Sp:=List V->Hp->VK->XK->Prop
abbrev CXT:=List Env->Hp->Shared->XK->Value->Shared->Prop
end
structure Env0(P:Program)(w:World)(K:W.Frag)(mg:Str->Option Value)(base:Heap)(A:Around)(outer:List Env)(s:Shared)(H:Hp):Prop where
 frames:A.frames=some outer
 mod:Mod K mg base
 bs:∀ b o,base.get? b=some o->s.heap.get? b=some o/\H b=none
 bsz:base.objs.size<=s.heap.objs.size
 funs:s.heap.FunFrames base outer
 frf:∀ b∈frs outer,H b=none
 hok:HOk P w H s.heap
 bare:AllBare s.gens
def CE(outer:List Env)(P:Program)(w:World)(H:Hp)(s:Shared)(Q:VK)(u:Value)(s':Shared):Prop:=∃ v H',s'.os=s.os/\AllBare s'.gens/\Un (frs outer) [] H H' s.heap s'.heap/\HOk P w H' s'.heap/\RelV v u/\Q v H'
def CR(CX:CXT)(outer:List Env)(P:Program)(w:World)(H:Hp)(s:Shared)(Q:VK)(E:XK)(r:Result)(s':Shared):Prop:=match r with
 |.ok (.ret u)=>CE outer P w H s Q u s'
 |.ok _=>False
 |.error e=>CX outer H s E e s'
structure bq(P:Program)(w:World)(K:W.Frag)(mg:Str->Option Value)(base:Heap)(CX:CXT)(k:Nat)(f:Addr)(fd:FuncData)(ps:List Str)(sp:Sp):Prop where
 len:∀ vs H Q E,sp vs H Q E->vs.length=ps.length
 run:∀(A:Around)(outer:List Env)(s:Shared)(H:Hp)(args:Args)(us:List Value)(vs:List V)(Q:VK)(E:XK),fm k A->Env0 P w K mg base A outer s H->BindsTo s fd args (ps.zip us)->bh vs us->sp vs H Q E ->
  codeAny (model P w) A (.call (.ref f) args) (CR CX outer P w H s Q E) s
theorem Env0.make{P:Program}{w:World}{K:W.Frag}{mg:Str->Option Value}{base:Heap}{A:Around}{outer:List Env}{s:Shared}{H:Hp}(e:Env0 P w K mg base A outer s H)(C:Addr)(us:List Value)(kw:List (Str×Value)):Env0 P w K mg base (A.under (.builtin "type.__call__" ⟨.ref C::us,kw⟩)) outer s H:=⟨by first|exact e.frames|(simpa[Around.under,Code.envs,Code.isFrame,pushEnvs] using e.frames),e.mod,e.bs,e.bsz,e.funs,e.frf,e.hok,e.bare⟩
section
variable{X:Cx}{pins:List (Addr×Obj)}{σ:St}{H:Hp}{s s':Shared}
theorem Inv.env0(I:Inv X pins σ H s):Env0 X.prog X.w X.K X.mg X.base X.A X.stack s H:=⟨I.ok.frames,I.ok.mod,I.bs,Nat.le_trans I.ok.bsz I.sz,I.stack,I.stkFree,I.hok,I.bare⟩
theorem Inv.after{Q:VK}{u:Value}(I:Inv X pins σ H s)(h:CE X.stack X.prog X.w H s Q u s'):EP X pins σ Q u s':=by
 obtain⟨v,H',os,bare,un,hok,r,q⟩:=h
 obtain⟨hh,g,d,t,os'⟩:=s'
 obtain rfl:os'=s.os:=os
 exact⟨v,H',I.call (h':=hh) (g':=g) (d':=d) (t':=t) (ch:=[]) un hok bare (fun b z=>absurd z (by simp)),r,q⟩
def tCall(sp:Sp)(dvs:List V)(E:XK)(t:TA):TE:=fun σ H Q=>t σ H fun vs H1=>sp (vs++dvs) H1 Q E
def tMeth(C:Addr)(m:Str)(sp:Sp)(dvs:List V)(E:XK)(ta:TE)(t:TA):TE:=fun σ H Q=>ta σ H fun x H1=>∃ a dx fs,x=.ref a/\H1 a=some (.ins C dx fs)/\fs.lookup m=none/\t σ H1 fun vs H2=>sp (x::(vs++dvs)) H2 Q E
def tMake(C:Addr)(sp:Sp)(dvs:List V)(E:XK)(t:TA):TE:=fun σ H Q=>t σ H fun vs H1=>∀ x dx,H1 x=none->H1 dx=none->dx≠x->sp (.ref x::(vs++dvs)) (upd (upd H1 dx (.own x)) x (.ins C dx [])) (fun v H2=>v=.non/\Q (.ref x) H2) E
def Binds(K:W.Frag)(fd:FuncData)(ps:List Str)(ds:List Value):Prop:=∀(s:Shared)(us:List Value),K.In s.heap->(us++ds).length=ps.length->BindsTo s fd ⟨us,[]⟩ (ps.zip (us++ds))
theorem Binds.all{K:W.Frag}{fd:FuncData}{ps:List Str}(h:∀ us:List Value,us.length=ps.length->bindArgs fd ⟨us,[]⟩=pure (ps.zip us)):Binds K fd ps []:=fun s us _ hl=>by
 rw[List.append_nil] at hl ⊢
 exact .of_eq (h us hl)
def jp(CX:CXT)(X:Cx)(E:XK):Prop:=∀(pins:List (Addr×Obj))(σ:St)(H:Hp)(s:Shared)(e:Value)(s':Shared),Inv X pins σ H s->CX X.stack H s E e s'->X.xe e s'
end
section
variable{X:Cx}{CX:CXT}{k:Nat}{f C:Addr}{fd:FuncData}{ps:List Str}{sp:Sp}{dvs:List V}{ds:List Value}{E:XK}{x m:Str}{p pos apos:Pos}{e o:Expr}{es:List Expr}{ta:TE}{t:TA}
theorem run_fn{pins:List (Addr×Obj)}{σ:St}{H:Hp}{s:Shared}{Q:VK}{us:List Value}{vs:List V}(F:bq X.prog X.w X.K X.mg X.base CX k f fd ps sp)(hr:fm k X.A)(hb:Binds X.K fd ps ds)(hd:bh dvs ds)(hx:jp CX X E)(I:Inv X pins σ H s)(r:bh vs us)(h:sp (vs++dvs) H Q E):wpAny (model X.prog X.w) X.A (call (.ref f) us) (EP X pins σ Q) X.xe s:=by
 have r2:bh (vs++dvs) (us++ds):=r.append hd
 have hl:(us++ds).length=ps.length:=by rw[<-r2.length];exact F.len _ _ _ _ h
 refine wpAny_call (codeAny_mono (F.run X.A X.stack s H ⟨us,[]⟩ (us++ds) (vs++dvs) Q E hr I.env0 (hb s us I.kIn hl) r2 h) fun r s' hq=>?_)
 cases r with
 |error e=>exact hx pins σ H s e s' I hq
 |ok fl =>
  cases fl with
  |ret u=>exact I.after hq
  |next=>exact False.elim hq
  |brk=>exact False.elim hq
  |cont=>exact False.elim hq
theorem pe_call(F:bq X.prog X.w X.K X.mg X.base CX k f fd ps sp)(hr:fm k X.A)(hg:Gl X x)(hm:X.mg x=some (.ref f))(hk:W.keepIn X.K (.ref f)=true)(hb:Binds X.K fd ps ds)(hd:bh dvs ds)(hx:jp CX X E)(ha:PA X (e::es) t)(hdb:(x==("__debug__":Str))=false:=by decide)(he:starEach (e::es) X.env=(false,eval e X.env)::starEach es X.env:=by rfl)(hpl:(backTo pos (starEach es X.env)).any (·.1)=false:=by rfl):PE X (.Call (.Name x p) (e::es) [] pos) (tCall sp dvs E t):=by
 intro pins s σ H Q I h
 refine wpAny_Call_Name_kw (jd I hg hm ?_ hdb)
 refine W.callWith_K (h₀:=X.base) I.ok.mod.kin hk (thn (ha pos pins s σ H _ I h) fun us s1 ⟨vs,H1,I1,r,q⟩=>⟨I1.kIn,?_⟩) he hpl
 exact run_fn F hr hb hd hx I1 r q
theorem pe_meth{pl:Sem Bool}(he:PE X o ta)(c:Cls X.K C)(hm:Meth X.K C m f)(F:bq X.prog X.w X.K X.mg X.base CX k f fd ps sp)(hr:fm k X.A)(hb:Binds X.K fd ps ds)(hd:bh dvs ds)(hx:jp CX X E)(ha:PA X (e::es) t)(hst:starEach (e::es) X.env=(false,eval e X.env)::starEach es X.env:=by rfl)(hpl:(backTo pos (starEach es X.env)).any (·.1)=false:=by rfl)(ht:eval (.Call (.Attribute o m apos) (e::es) [] pos) X.env=(do
   let ov <-eval o X.env
   standAt apos.atName
   let (f,first) <-holding [ov] (getMethod ov m pl)
   callWith pos f first (backTo pos (starEach (e::es) X.env)) (backToKw pos (keywordEach [] X.env))):=by rfl) :
  PE X (.Call (.Attribute o m apos) (e::es) [] pos) (tMeth C m sp dvs E ta t):=by
 intro pins s σ H Q I h
 refine W.methodCall_KW (pl:=pl) (thn (he pins s σ H _ I h) fun u s1 ⟨x,H1,I1,rx,a,dx,fs,ex,ea,l,q⟩=>?_) ht
 subst ex
 obtain rfl:u=Value.ref a:=rx
 refine getmeth_ok I1 ea c hm l ?_
 refine W.callWith_K (first:=[.ref a]) (h₀:=X.base) I.ok.mod.kin hm.kp (thn (ha pos pins s1 σ H1 _ I1 q) fun us s2 ⟨vs,H2,I2,r,q2⟩=>⟨I2.kIn,?_⟩) hst hpl
 exact run_fn (us:=.ref a::us) (vs:=.ref a::vs) F hr hb hd hx I2 (.cons rfl r) q2
theorem pe_meth0{pl:Sem Bool}(he:PE X o ta)(c:Cls X.K C)(hm:Meth X.K C m f)(F:bq X.prog X.w X.K X.mg X.base CX k f fd ps sp)(hr:fm k X.A)(hb:Binds X.K fd ps ds)(hd:bh dvs ds)(hx:jp CX X E)(ht:eval (.Call (.Attribute o m apos) [] [] pos) X.env=(do
   let ov <-eval o X.env
   standAt apos.atName
   let (f,first) <-holding [ov] (getMethod ov m pl)
   callWith pos f first (backTo pos (starEach [] X.env)) (backToKw pos (keywordEach [] X.env))):=by rfl) :
  PE X (.Call (.Attribute o m apos) [] [] pos) (tMeth C m sp dvs E ta jo):=by
 intro pins s σ H Q I h
 refine W.methodCall_KW (pl:=pl) (thn (he pins s σ H _ I h) fun u s1 ⟨x,H1,I1,rx,a,dx,fs,ex,ea,l,q⟩=>?_) ht
 subst ex
 obtain rfl:u=Value.ref a:=rx
 refine getmeth_ok I1 ea c hm l ?_
 exact W.callWith_K0 (first:=[.ref a]) I1.kIn hm.kp (run_fn (us:=[.ref a]) (vs:=[.ref a]) F hr hb hd hx I1 (.cons rfl .nil) q)
structure Mk(K:W.Frag)(C f:Addr):Prop where
 makes:W.makesIn K C=true
 init:W.findIn K (.ref C) "__init__"=some (some (.ref f))
 fn:W.isFn K (.ref f)=true
 kp:W.keepIn K (.ref C)=true
theorem run_make{pins:List (Addr×Obj)}{σ:St}{H:Hp}{s:Shared}{Q:VK}{us:List Value}{vs:List V}(M:Mk X.K C f)(F:bq X.prog X.w X.K X.mg X.base CX k f fd ps sp)(hr:fm (k+1) X.A)(hb:Binds X.K fd ps ds)(hd:bh dvs ds)(hx:jp CX X E)(I:Inv X pins σ H s)(r:bh vs us)(h:∀ x dx,H x=none->H dx=none->dx≠x->sp (.ref x::(vs++dvs)) (upd (upd H dx (.own x)) x (.ins C dx [])) (fun v H2=>v=.non/\Q (.ref x) H2) E):wpAny (model X.prog X.w) X.A (call (.ref C) us) (EP X pins σ Q) X.xe s:=by
 have hq:=h (s.heap.objs.size+1) s.heap.objs.size (I.hok.fresh (Nat.le_succ _)) (I.hok.fresh (Nat.le_refl _)) (Nat.ne_of_lt (Nat.lt_succ_self _))
 have I2:=Inv.made (C:=C) I
 have r2:bh (V.ref (s.heap.objs.size+1)::(vs++dvs)) (Value.ref (s.heap.objs.size+1)::(us++ds)):=.cons rfl (r.append hd)
 have hl:(Value.ref (s.heap.objs.size+1)::us++ds).length=ps.length:=by
  have e:=r2.length
  rw[F.len _ _ _ _ hq] at e
  exact e.symm
 refine wpAny_call (make_map (f:=f) I.kIn M.makes M.init (beq_iff_eq.mp M.fn) (codeAny_mono (F.run _ X.stack _ _ ⟨Value.ref (s.heap.objs.size+1)::us,[]⟩ (Value.ref (s.heap.objs.size+1)::(us++ds)) _ _ E (hr.make C us []) (I2.env0.make C us []) (hb _ (Value.ref (s.heap.objs.size+1)::us) I2.kIn hl) r2 hq) fun r s' hq'=>?_))
 cases r with
 |error e=>exact hx pins σ _ _ e s' I2 hq'
 |ok fl =>
  cases fl with
  |ret u =>
   obtain⟨v,H',I3,rv,ev,q3⟩:=I2.after hq'
   subst ev
   exact⟨rv,⟨V.ref (s.heap.objs.size+1),H',I3,rfl,q3⟩⟩
  |next=>exact False.elim hq'
  |brk=>exact False.elim hq'
  |cont=>exact False.elim hq'
theorem pe_make(M:Mk X.K C f)(F:bq X.prog X.w X.K X.mg X.base CX k f fd ps sp)(hr:fm (k+1) X.A)(hg:Gl X x)(hm:X.mg x=some (.ref C))(hb:Binds X.K fd ps ds)(hd:bh dvs ds)(hx:jp CX X E)(ha:PA X (e::es) t)(hdb:(x==("__debug__":Str))=false:=by decide)(he:starEach (e::es) X.env=(false,eval e X.env)::starEach es X.env:=by rfl)(hpl:(backTo pos (starEach es X.env)).any (·.1)=false:=by rfl):PE X (.Call (.Name x p) (e::es) [] pos) (tMake C sp dvs E t):=by
 intro pins s σ H Q I h
 refine wpAny_Call_Name_kw (jd I hg hm ?_ hdb)
 refine W.callWith_K (h₀:=X.base) I.ok.mod.kin M.kp (thn (ha pos pins s σ H _ I h) fun us s1 ⟨vs,H1,I1,r,q⟩=>⟨I1.kIn,?_⟩) he hpl
 exact run_make M F hr hb hd hx I1 r q
theorem pe_make0(M:Mk X.K C f)(F:bq X.prog X.w X.K X.mg X.base CX k f fd ps sp)(hr:fm (k+1) X.A)(hg:Gl X x)(hm:X.mg x=some (.ref C))(hb:Binds X.K fd ps ds)(hd:bh dvs ds)(hx:jp CX X E)(hdb:(x==("__debug__":Str))=false:=by decide):PE X (.Call (.Name x p) [] [] pos) (tMake C sp dvs E jo):=by
 intro pins s σ H Q I h
 refine wpAny_Call_Name_kw (jd I hg hm ?_ hdb)
 exact W.callWith_K0 I.kIn M.kp (run_make (us:=[]) M F hr hb hd hx I .nil h)
def PK(X:Cx)(kws:List Keyword)(t:TA):Prop:=∀(pos:Pos)(pins:List (Addr×Obj))(s:Shared)(σ:St)(H:Hp)(Q:List V->Hp->Prop),Inv X pins σ H s->t σ H Q->wpAny (model X.prog X.w) X.A (evalAll ((backToKw pos (keywordEach kws X.env)).map (·.2))) (AP X pins σ Q) X.xe s
end
section
variable{X:Cx}{CX:CXT}{k:Nat}{f C:Addr}{fd:FuncData}{ps ks:List Str}{sp:Sp}{E:XK}{x m:Str}{p pos apos kpos:Pos}{e o:Expr}{es:List Expr}{kws:List Keyword}{te ta:TE}{t tk:TA}{nm:Option Str}
theorem pk_nil:PK X [] jo:=fun _ _ _ _ H Q I h=>wpAny_evalAll_nil ⟨[],H,I,.nil,h⟩
theorem pk_cons(ha:PE X e te)(hr:PK X kws t):PK X (⟨nm,e,kpos⟩::kws) (de te t):=by
 intro pos pins s σ H Q I h
 show wpAny _ _ (evalAll ((do let v <-eval e X.env;standAt pos;pure v)::(backToKw pos (keywordEach kws X.env)).map (·.2))) _ _ s
 refine wpAny_evalAll_cons (wpAny_bind (thn (ha pins s σ H _ I h) fun u s1 ⟨x,H1,I1,r1,q1⟩=>wpAny_bind (wpAny_standAt (wpAny_pure ?_))))
 exact thn (hr pos pins s1 σ H1 _ I1 q1) fun us s2 ⟨xs,H2,I2,r2,q2⟩=>⟨x::xs,H2,I2,.cons r1 r2,q2⟩
end
structure au(N P:List Str)(sc:Scope):Prop where
 kind:sc.kind=.function
 co:sc.isCoroutine=false
 gen:sc.isGenerator=false
 nd:N.Nodup
 pre:N.take P.length=P
 par:∀ x∈P,sc.names.lookup x=some .local\/sc.names.lookup x=some .cell
 nofree:∀ y∈sc.names,y.2≠.free
theorem bindL_out{kindOf:Str->Option NameKind}{x:Str}:∀{binds:List (Str×Value)}{m:Str->Option Value},(∀ v,(x,v)∉binds)->bindL kindOf binds m x=m x
 | [],_,_=>rfl
 |(n,v)::r,m,h=>by
  unfold bindL
  rw[bindL_out fun w hw=>h w (List.mem_cons_of_mem _ hw)]
  split
  ·have:x≠n:=by rintro rfl;exact h v List.mem_cons_self
   simp[this]
  ·rfl
theorem bindC_out{kindOf:Str->Option NameKind}{x:Str}:∀{binds:List (Str×Value)}{m:Str->Option Value},(∀ v,(x,v)∉binds)->bindC kindOf binds m x=m x
 | [],_,_=>rfl
 |(n,v)::r,m,h=>by
  unfold bindC
  rw[bindC_out fun w hw=>h w (List.mem_cons_of_mem _ hw)]
  split
  ·rfl
  ·have:x≠n:=by rintro rfl;exact h v List.mem_cons_self
   simp[this]
theorem bindL_get{kindOf:Str->Option NameKind}{x:Str}{v:Value}:∀{P:List Str}{vs:List Value}{i:Nat}{m:Str->Option Value},P.Nodup->P[i]?=some x->vs[i]?=some v->kindOf x=some .local->bindL kindOf (P.zip vs) m x=some v
 | [],_,_,_,_,h,_,_=>by simp at h
 |_::_,[],_,_,_,_,h,_=>by simp at h
 |p::P,w::vs,0,m,nd,h1,h2,hk=>by
  simp at h1 h2;subst h1;subst h2
  show bindL kindOf ((p,w)::P.zip vs) m p=_
  unfold bindL
  rw[bindL_out fun v hv=>(List.nodup_cons.mp nd).1 (List.of_mem_zip hv).1,if_pos hk]
  simp
 |p::P,w::vs,i+1,m,nd,h1,h2,hk=>by
  show bindL kindOf ((p,w)::P.zip vs) m x=_
  unfold bindL
  exact bindL_get (i:=i) (List.nodup_cons.mp nd).2 (by simpa using h1) (by simpa using h2) hk
theorem bindC_get{kindOf:Str->Option NameKind}{x:Str}{v:Value}:∀{P:List Str}{vs:List Value}{i:Nat}{m:Str->Option Value},P.Nodup->P[i]?=some x->vs[i]?=some v->kindOf x≠some .local->bindC kindOf (P.zip vs) m x=some v
 | [],_,_,_,_,h,_,_=>by simp at h
 |_::_,[],_,_,_,_,h,_=>by simp at h
 |p::P,w::vs,0,m,nd,h1,h2,hk=>by
  simp at h1 h2;subst h1;subst h2
  show bindC kindOf ((p,w)::P.zip vs) m p=_
  unfold bindC
  rw[bindC_out fun v hv=>(List.nodup_cons.mp nd).1 (List.of_mem_zip hv).1,if_neg hk]
  simp
 |p::P,w::vs,i+1,m,nd,h1,h2,hk=>by
  show bindC kindOf ((p,w)::P.zip vs) m x=_
  unfold bindC
  exact bindC_get (i:=i) (List.nodup_cons.mp nd).2 (by simpa using h1) (by simpa using h2) hk
def start(N:List Str)(vs:List V):St:=vs.map some++List.replicate (N.length-vs.length) none
def mi(CX:CXT)(P:Program)(w:World)(K:W.Frag)(mg:Str->Option Value)(base:Heap)(N:List Str)(qual:Str)(scope:Scope)(f:Addr)(cd:Value)(A:Around)(outer:List Env)(s:Shared)(H:Hp)(E:XK):Cx where
 prog:=P
 w:=w
 K:=K
 mg:=mg
 base:=base
 A:=A.deeper (envOfC qual scope s.heap.objs.size f cd)
 N:=N
 s_0:=s
 H_0:=H
 env:=envOfC qual scope s.heap.objs.size f cd
 outer:=outer
 stack:=envOfC qual scope s.heap.objs.size f cd::outer
 ex:=[]
 calm:=true
 fn:=fun _=>true
 pn:=[]
 xe:=fun e s'=>wpAny (model P w) (A.deeper (envOfC qual scope s.heap.objs.size f cd)) (leaving (envOfC qual scope s.heap.objs.size f cd) e) (fun _ s''=>CX outer H s E e s'') (fun e' s''=>CX outer H s E e' s'') s'
theorem cell_has{sc:Scope}{n:Nat}{x:Str}(h:sc.names.lookup x=some .cell):∃ c,(cellsFrom n sc.names []).lookup x=some c:=by
 have q:=W.cellsFrom_some sc.names n [] (.inl h)
 exact Option.isSome_iff_exists.mp q
theorem inv_start{CX:CXT}{P:Program}{w:World}{K:W.Frag}{mg:Str->Option Value}{base:Heap}{N ps:List Str}{qual:Str}{scope:Scope}{f:Addr}{cd:Value}{A:Around}{outer:List Env}{s s1:Shared}{H:Hp}{E:XK}{us:List Value}{vs:List V}(S:au N ps scope)(hd:A.handled=none)(e0:Env0 P w K mg base A outer s H)(hl:vs.length=ps.length)(r:bh vs us)(x:InCallC s s.heap.objs.size (bindL (envOfC qual scope s.heap.objs.size f cd).kindOf (ps.zip us) fun _=>none) (cellsFrom (s.heap.objs.size+1) scope.names []) (bindC (envOfC qual scope s.heap.objs.size f cd).kindOf (ps.zip us) fun _=>none) s1):Inv (mi CX P w K mg base N qual scope f cd A outer s H E) [] (start N vs) H s1:=by
 have hpl:ps.length<=N.length:=by have:=congrArg List.length S.pre;rw[List.length_take] at this;omega
 obtain⟨h1,tk,rfl,hk⟩:=x.done
 have noA:∀ b:Addr,b∉(mi CX P w K mg base N qual scope f cd A outer s H E).ex:=fun b z=>absurd (show b∈([]:List Addr) from z) (by simp)
 refine⟨⟨e0.mod,S.kind,rfl,rfl,Nat.le_refl _,fun y z c h1 h2=>?_,fun y hy=>?_,fun y c _ h=>?_,fun _=>hd,Around.frames_deeper e0.frames,.inr ⟨rfl,rfl⟩,fun b z=>absurd z (noA b),e0.bs,e0.bsz,fun b _ _=>noA b,fun b z=>absurd z (noA b),e0.funs,e0.frf⟩,rfl,e0.bare,Un.kept hk,⟨_,x.toInCall.ns,fun i y v h1 h2 h3=>?_⟩,fun y c h=>⟨_,x.cell y c h⟩,e0.hok.fresh (Nat.le_refl _),fun y c h=>?_,fun p hp=>absurd (show p∈([]:List (Addr×Obj)) from hp) (by simp),e0.hok.kept hk,?_⟩
 ·exact name_of_addr x.apart (PySem.mem_of_lookup h1) (PySem.mem_of_lookup h2)
 ·have hy:scope.names.lookup y=some .cell\/scope.names.lookup y=some .free:=hy
  rcases hy with hy|hy
  ·exact cell_has hy
  ·exact absurd rfl (S.nofree _ (PySem.mem_of_lookup hy))
 ·exact Nat.le_of_lt (x.above y c (PySem.mem_of_lookup h))
 ·have hi:i<vs.length:=by
   unfold start at h2
   by_cases hi:i<vs.length
   ·exact hi
   ·rw[List.getElem?_append_right (by simpa using hi)] at h2
    rw[List.getElem?_replicate] at h2
    split at h2<;>cases h2
  have ha:vs[i]?=some v:=by
   unfold start at h2
   rw[List.getElem?_append_left (by simpa using hi),List.getElem?_map] at h2
   cases e:vs[i]? with
   |none=>rw[e] at h2;cases h2
   |some a=>rw[e] at h2;cases h2;rfl
  obtain⟨u,hu,rv⟩:=r.get ha
  have hp:ps[i]?=some y:=by
   rw[<-S.pre,List.getElem?_take_of_lt (by omega)];exact h1
  have ndP:ps.Nodup:=by rw[<-S.pre];exact S.nd.sublist (List.take_sublist _ _)
  refine⟨u,rv,?_⟩
  rcases S.par y (List.mem_of_getElem? hp) with k|k
  ·exact .inl ⟨k,bindL_get ndP hp hu k⟩
  ·obtain⟨c,e⟩:=cell_has (n:=s.heap.objs.size+1) k
   refine .inr ⟨.inl k,c,e,?_⟩
   have q:=x.cell y c e
   rw[bindC_get ndP hp hu (by show scope.names.lookup y≠_;rw[k];decide)] at q
   exact q
 ·exact e0.hok.fresh (Nat.le_of_lt (x.above y c (PySem.mem_of_lookup h)))
 ·unfold start
  show _=N.length
  rw[List.length_append,List.length_map,List.length_replicate]
  omega
theorem fn_of{CX:CXT}{P:Program}{w:World}{K:W.Frag}{mg:Str->Option Value}{base:Heap}{k:Nat}{f:Addr}{name qual:Str}{params:Arguments}{body:List Stmt}{scope:Scope}{dV kV doc pm cdv ct oc:Value}{an od:Option Addr}{osl:Array (Option Value)}{N ps:List Str}{sp:Sp}(lk:K.lookup f=some ⟨oc,od,.func (W.fnOf name qual params body scope dV kV doc pm an cdv ct),osl⟩)(hcd:W.codeIn K cdv qual=true)(S:au N ps scope)(len:∀ vs H Q E,sp vs H Q E->vs.length=ps.length)(hbody:∀(A:Around)(outer:List Env)(s:Shared)(H:Hp)(vs:List V)(Q:VK)(E:XK),fm k (A.deeper (envOfC qual scope s.heap.objs.size f cdv))->sp vs H Q E->∃ t,PSs (mi CX P w K mg base N qual scope f cdv A outer s H E) body t/\t { nx:=fun _ H'=>Q .non H',rt:=Q } (start N vs) H):bq P w K mg base CX (k+1) f (W.fnOf name qual params body scope dV kV doc pm an cdv ct) ps sp:=by
 refine⟨len,fun A outer s H args us vs Q E hr e0 hb r hsp=>?_⟩
 have hl:=len _ _ _ _ hsp
 have KX:K.In s.heap:=e0.mod.kin.keeps fun b o e=>(e0.bs b o e).1
 have lim:s.heap.NoLimit:=e0.mod.nolimit.keeps fun b o e=>(e0.bs b o e).1
 have hkind:∀ y∈ps.zip us,scope.names.lookup y.1=some .local\/(scope.names.lookup y.1=some .cell/\((cellsFrom (s.heap.objs.size+1) scope.names []).lookup y.1).isSome=true):=fun⟨n,v⟩ hy=>by
  rcases S.par n (List.of_mem_zip hy).1 with q|q
  ·exact .inl q
  ·exact .inr ⟨q,W.cellsFrom_some _ _ _ (.inl q)⟩
 refine codeAny_call_function hr.depth (KX _ _ lk) rfl S.co S.gen rfl (W.codeRec_of KX hcd) (hb _ _ _ _ ?_)
 refine wpAny_newFunctionEnv_cells S.kind hkind fun env he s1 x=>?_
 subst he
 refine⟨lim.keeps x.toInCall.keep,codeAny_func ?_⟩
 obtain⟨t,ht,hq⟩:=hbody A outer s H vs Q E (hr.deeper _) hsp
 have I:Inv (mi CX P w K mg base N qual scope f cdv A outer s H E) [] (start N vs) H s1:=inv_start S hr.hd e0 hl r x
 refine wpAny_mono (ht [] s1 (start N vs) H _ I hq) (fun fl s' hs=>?_) fun e s' hs=>hs
 have fin:∀{σ':St}{H':Hp}{v:V}{u:Value},Inv (mi CX P w K mg base N qual scope f cdv A outer s H E) [] σ' H' s'->RelV v u->Q v H'->CE outer P w H s Q u s':=fun{σ' H' v u} J rv q=>⟨v,H',J.os,J.bare,J.base,J.hok,rv,q⟩
 cases fl with
 |ret u =>
  obtain⟨v,σ',H',J,rv,q⟩:=hs
  exact fin J rv q
 |next =>
  obtain⟨σ',H',J,q⟩:=hs
  exact fin (v:=V.non) (u:=Value.none) J rfl q
 |brk =>
  obtain⟨_,_,_,q⟩:=hs
  exact False.elim q
 |cont =>
  obtain⟨_,_,_,q⟩:=hs
  exact False.elim q
section
variable{X:Cx}{x:Str}{p pos:Pos}{e:Expr}{es:List Expr}{t:TA}{id T:String}{r:List V->Hp->VK->Prop}
def tCB(r:List V->Hp->VK->Prop)(t:TA):TE:=fun σ H Q=>t σ H fun vs H1=>r vs H1 Q
theorem be(hc:CallR X (.builtin id) r)(hg:Gl X x)(hm:X.mg x=none)(hv:bootBuiltins x=some (.builtin id))(ha:PA X (e::es) t)(hn:x≠"__name__":=by decide)(hdb:(x==("__debug__":Str))=false:=by decide)(he:starEach (e::es) X.env=(false,eval e X.env)::starEach es X.env:=by rfl)(hpl:(backTo pos (starEach es X.env)).any (·.1)=false:=by rfl):PE X (.Call (.Name x p) (e::es) [] pos) (tCB r t):=by
 intro pins s σ H Q I h
 refine wpAny_Call_Name_kw (ld_blt I hg hm hv ?_ hn hdb)
 exact PyProof.Rows.callWith_builtin1 (thn (ha pos pins s σ H _ I h) fun us s1 ⟨vs,H1,I1,r1,q1⟩=>hc pins s1 σ H1 vs us Q I1 r1 q1) he hpl
theorem pe_callTy(hc:CallR X (.type T) r)(hg:Gl X x)(hm:X.mg x=none)(hv:bootBuiltins x=some (.type T))(ha:PA X (e::es) t)(hn:x≠"__name__":=by decide)(hdb:(x==("__debug__":Str))=false:=by decide)(he:starEach (e::es) X.env=(false,eval e X.env)::starEach es X.env:=by rfl)(hpl:(backTo pos (starEach es X.env)).any (·.1)=false:=by rfl):PE X (.Call (.Name x p) (e::es) [] pos) (tCB r t):=by
 intro pins s σ H Q I h
 refine wpAny_Call_Name_kw (ld_blt I hg hm hv ?_ hn hdb)
 exact PyProof.Rows.callWith_type1 (thn (ha pos pins s σ H _ I h) fun us s1 ⟨vs,H1,I1,r1,q1⟩=>hc pins s1 σ H1 vs us Q I1 r1 q1) he hpl
end
end L2
namespace HT
open PySem PyProof.Rows
section
variable{prog:Program}{w:World}{A:Around}{E:Value->Shared->Prop}{s:Shared}
def sIx(n d:Nat):Option Int->Nat
 |none=>d
 |some v=>if v<0 then (v+(n:Int)).toNat else min v.toNat n
theorem sIx_none(n d:Nat):sIx n d none=d:=rfl
theorem sIx_nat(n d k:Nat):sIx n d (some (k:Int))=min k n:=by
 show(if (k:Int)<0 then ((k:Int)+(n:Int)).toNat else min (k:Int).toNat n)=min k n
 rw[if_neg (by omega),Int.toNat_natCast]
end
end HT
namespace L2
open PySem PySem.Spec PyProof.Rows
abbrev TO:=St->Hp->(Option Int->Hp->Prop)->Prop
def PO(X:Cx)(e:Option Expr)(t:TO):Prop:=∀(pins:List (Addr×Obj))(s:Shared)(σ:St)(H:Hp)(Q:Option Int->Hp->Prop),Inv X pins σ H s->t σ H Q->wpAny (model X.prog X.w) X.A (evalPart e X.env) (fun u s'=>∃ o H',Inv X pins σ H' s'/\IsPart u o/\Q o H') X.xe s
def tNoPart:TO:=fun _ H Q=>Q none H
def tPart(t:TE):TO:=fun σ H Q=>t σ H fun x H1=>∃ i,x=.int i/\Q (some i) H1
section
variable{X:Cx}{e:Expr}{te:TE}{lo hi:Option Expr}{tl th:TO}{pos p2:Pos}
theorem po_none:PO X none tNoPart:=by
 intro pins s σ H Q I h
 rw[evalPart_none]
 exact wpAny_pure ⟨none,H,I,.none,h⟩
theorem kg(h:PE X e te):PO X (some e) (tPart te):=by
 intro pins s σ H Q I hw
 rw[evalPart_some]
 refine thn (h pins s σ H _ I hw) fun u s1 ⟨x,H1,I1,r1,q1⟩=>?_
 obtain⟨i,rfl,q⟩:=q1
 obtain⟨t,rfl⟩:=r1
 exact⟨some i,H1,I1,.int i t,q⟩
def SlR(X:Cx)(r:V->Option Int->Option Int->Hp->VK->Prop):Prop:=∀(pins:List (Addr×Obj))(s:Shared)(σ:St)(H:Hp)(x:V)(v vl vu:Value)(lo hi:Option Int)(sl:Addr)(Q:VK),Inv X pins σ H s->RelV x v->s.heap.IsSliceOf sl vl vu .none->IsPart vl lo->IsPart vu hi->r x lo hi H Q->∃ T id,typeLookup (.type T) "__getitem__"=pure (some (.builtin id))/\s.TypeIs v T/\wpAny (model X.prog X.w) X.A (getItem v (.ref sl)) (EP X pins σ Q) X.xe s
def tSl(r:V->Option Int->Option Int->Hp->VK->Prop)(te:TE)(tl th:TO):TE:=fun σ H Q=>te σ H fun x H1=>tl σ H1 fun l H2=>th σ H2 fun u H3=>r x l u H3 Q
theorem j5{r:V->Option Int->Option Int->Hp->VK->Prop}(hr:SlR X r)(he:PE X e te)(hl:PO X lo tl)(hu:PO X hi th):PE X (.Subscript e (.Slice lo hi none p2) pos) (tSl r te tl th):=by
 intro pins s σ H Q I h
 refine Subscript_ (thn (he pins s σ H _ I h) fun v s1 ⟨x,H1,I1,r1,q1⟩=>?_)
 refine wpAny_Slice (thn (hl pins s1 σ H1 _ I1 q1) fun vl s2 ⟨l,H2,I2,pl,q2⟩=>thn (hu pins s2 σ H2 _ I2 q2) fun vu s3 ⟨u,H3,I3,pu,q3⟩=>?_)
 rw[evalPart_none]
 refine wpAny_pure ?_
 have I4:Inv X pins σ H3 { s3 with heap:=s3.heap.push { cls:=.type "slice",data:=.fields #[vl,vu,.none] } }:=I3.kept (t':=s3.toks) fun b ob q=>Heap.get?_push_of_some _ q
 obtain⟨T,id,hT,ht,hg⟩:=hr pins { s3 with heap:=s3.heap.push { cls:=.type "slice",data:=.fields #[vl,vu,.none] } } σ H3 x v vl vu l u s3.heap.objs.size Q I4 r1 (Heap.IsSliceOf.new ..) pl pu q3
 show wpAny (model X.prog X.w) X.A (subscriptTail e (.Slice lo hi none p2) v (.ref s3.heap.objs.size)) (EP X pins σ Q) X.xe { s3 with heap:=s3.heap.push { cls:=.type "slice",data:=.fields #[vl,vu,.none] } }
 exact tail_any (ops:=[.ref s3.heap.objs.size,v]) ht hT hg (by with_unfolding_all rfl)
def nj(xs:List V)(lo hi:Option Int):List V:=(xs.drop (HT.sIx xs.length 0 lo)).take (HT.sIx xs.length xs.length hi-HT.sIx xs.length 0 lo)
theorem cutV_length(xs:List V)(lo hi:Option Int):(nj xs lo hi).length<=xs.length:=by
 unfold nj
 rw[List.length_take,List.length_drop]
 omega
def ixN(n:Nat)(i:Int):Option Nat:=if 0<=i then (if i<n then some i.toNat else none) else if -(n:Int)<=i then some (i+n).toNat else none
def atI{α:Type}(xs:List α)(i:Int):Option α:=(ixN xs.length i).bind fun j=>xs[j]?
theorem ixN_seq{n:Nat}{i:Int}{j:Nat}(h:ixN n i=some j):seqIndex? i n=some j/\j<n/\-(n:Int)<=i/\i<n:=by
 unfold ixN at h
 by_cases h0:0<=i
 ·rw[if_pos h0] at h
  by_cases h1:i<n
  ·rw[if_pos h1] at h
   have e:i.toNat=j:=Option.some.inj h
   exact⟨by rw[seqIndex_of h0 h1,e],by omega,by omega,h1⟩
  ·rw[if_neg h1] at h;cases h
 ·rw[if_neg h0] at h
  by_cases h1:-(n:Int)<=i
  ·rw[if_pos h1] at h
   have e:(i+n).toNat=j:=Option.some.inj h
   exact⟨by rw[seqIndex_neg (by omega) h1,e],by omega,h1,by omega⟩
  ·rw[if_neg h1] at h;cases h
theorem atI_get{α:Type}{xs:List α}{i:Int}{v:α}(h:atI xs i=some v):∃ j,seqIndex? i xs.length=some j/\xs[j]?=some v/\j<xs.length/\-(xs.length:Int)<=i/\i<xs.length:=by
 unfold atI at h
 cases e:ixN xs.length i with
 |none=>rw[e] at h;cases h
 |some j =>
  rw[e] at h
  obtain⟨h1,h2,h3,h4⟩:=ixN_seq e
  exact⟨j,h1,h,h2,h3,h4⟩
theorem bu{α:Type}{xs:List α}{j:Nat}{v:α}(h:xs[j]?=some v):atI xs (j:Int)=some v:=by
 have hj:j<xs.length:=(List.getElem?_eq_some_iff.mp h).1
 have e:ixN xs.length (j:Int)=some j:=by
  unfold ixN
  rw[if_pos (by omega),if_pos (by omega)];simp
 unfold atI;rw[e];exact h
def PlainIx(b:Expr):Prop:=∀ o i,subscripted b false o i=operate [o,i] (getItem o i)
def IxR(X:Cx)(r:R2):Prop:=∀(value slice:Expr)(pins:List (Addr×Obj))(s:Shared)(σ:St)(H:Hp)(x y:V)(v u:Value)(Q:VK),Inv X pins σ H s->RelV x v->RelV y u->r x y H Q->subscripted slice false v u=operate [v,u] (getItem v u)->wpAny (model X.prog X.w) X.A (subscriptTail value slice v u) (EP X pins σ Q) X.xe s
def MtR(X:Cx)(id:String)(r:V->List V->Hp->VK->Prop):Prop:=∀(pins:List (Addr×Obj))(s:Shared)(σ:St)(H:Hp)(x:V)(xs:List V)(v:Value)(us:List Value)(Q:VK),Inv X pins σ H s->RelV x v->bh xs us->r x xs H Q->wpAny (model X.prog X.w) X.A (call (.builtin id) (v::us)) (EP X pins σ Q) X.xe s
end
section
variable{X:Cx}{a b:Expr}{ta tb:TE}{pos:Pos}
theorem bo{r:R2}(hr:IxR X r)(ha:PE X a ta)(hb:PE X b tb)(hs:PlainIx b):PE X (.Subscript a b pos) (tOp r ta tb):=by
 intro pins s σ H Q I h
 exact Subscript_ (binT ha hb I h fun v u s2 x y H2 I2 rx ry q=>hr a b pins s2 σ H2 x y v u Q I2 rx ry q (hs _ _))
def rIxL(K:W.Frag):R2:=fun x y H Q=>∃ p xs i v,x=.ref p/\y=.int i/\SqL K H p xs/\atI xs i=some v/\Q v H
def rIxT(K:W.Frag):R2:=fun x y H Q=>∃ p xs i v,x=.ref p/\y=.int i/\SqT K H p xs/\atI xs i=some v/\Q v H
def rIxS:R2:=fun x y H Q=>∃ z i c,x=.str z/\y=.int i/\z.length<=sizeLine/\atI z.cps.toList i=some c/\Q (.str ⟨#[c]⟩) H
theorem ba:IxR X (rIxL X.K):=by
 intro value slice pins s σ H x y v u Q I rx ry h hs
 obtain⟨p,xs,i,z,rfl,rfl,hq,he,q⟩:=h
 cases rx
 obtain⟨t,rfl⟩:=ry
 obtain⟨its,r,pl,hz⟩:=I.list hq
 obtain⟨j,h1,h2,h3,h4,h5⟩:=atI_get he
 obtain⟨w,ew,rw'⟩:=r.get h2
 have hl:=r.length
 have hn:=line63
 have fin:EP X pins σ Q w s:=⟨z,H,I,rw',q⟩
 by_cases h0:0<=i
 ·have hj:i.toNat=j:=by
   rw[seqIndex_of h0 h5] at h1
   exact Option.some.inj h1
  exact item_listR pl.isList h0 (by omega) (by rw[hj];simpa using ew) fin hs
 ·have hj:(i+(its.toArray.size:Int)).toNat=j:=by
   rw[seqIndex_neg (by omega) h4] at h1
   rw[List.size_toArray,<-hl]
   exact Option.some.inj h1
  exact subscriptTail_builtinR (x:=w) pl.isList.typeIs slot_list_getitem.lookup (wpAny_getItem_list_neg (Q:=fun r s'=>r=w/\EP X pins σ Q r s') pl.isList (by omega) (by rw[List.size_toArray]<;>omega) (by omega) (by rw[hj];simpa using ew) ⟨rfl,fin⟩) hs
theorem ix_tup:IxR X (rIxT X.K):=by
 intro value slice pins s σ H x y v u Q I rx ry h hs
 obtain⟨p,xs,i,z,rfl,rfl,hq,he,q⟩:=h
 cases rx
 obtain⟨t,rfl⟩:=ry
 obtain⟨its,r,pl,hz⟩:=I.tuple hq
 obtain⟨j,h1,h2,h3,h4,h5⟩:=atI_get he
 obtain⟨w,ew,rw'⟩:=r.get h2
 have hl:=r.length
 have hn:=line63
 have fin:EP X pins σ Q w s:=⟨z,H,I,rw',q⟩
 exact subscriptTail_builtinR (x:=w) pl.typeIs slot_tuple_getitem.lookup (getItem_tuple (j:=j) (Q:=fun r s'=>r=w/\EP X pins σ Q r s') pl (by omega) (by omega) (by rw[List.size_toArray,<-hl];exact h1) (by simpa using ew) ⟨rfl,fin⟩) hs
theorem ix_str:IxR X rIxS:=by
 intro value slice pins s σ H x y v u Q I rx ry h hs
 obtain⟨z,i,c,rfl,rfl,hz,he,q⟩:=h
 obtain⟨t,rfl⟩:=rx
 obtain⟨t',rfl⟩:=ry
 obtain⟨j,h1,h2,h3,h4,h5⟩:=atI_get he
 have hl:z.cps.toList.length=z.length:=by simp[Str.length]
 rw[hl] at h1 h4 h5
 have hn:=line63
 exact tail_any (typeIs_str s z t) slot_str_getitem.lookup (getItem_str (c:=c) (by
  have e1:decide (i < -(2 ^ 63:Int))=false:=decide_eq_false (by omega)
  have e2:decide (i ≥ 2 ^ 63)=false:=decide_eq_false (by omega)
  rw[e1,e2,Bool.or_false]) (by rw[h1];simpa using h2) ⟨.str ⟨#[c]⟩,H,I.tok _,⟨_,rfl⟩,q⟩) hs
theorem mapSeq_set(its:List Value)(n j:Nat)(u:Value):Obj.mapSeq (·.setIfInBounds j u) { cls:=.type "list",data:=.seq its.toArray n }={ cls:=.type "list",data:=.seq (its.set j u).toArray n }:=by
 simp[Obj.mapSeq]
theorem Inv.lst{pins:List (Addr×Obj)}{σ:St}{H:Hp}{s:Shared}{p:Addr}{xs:List V}(I:Inv X pins σ H s)(h:H p=some (.lst xs)):∃(its:List Value)(n:Nat),bh xs its/\s.heap.get? p=some { cls:=.type "list",data:=.seq its.toArray n }/\xs.length<=sizeLine:=by
 obtain⟨z,its,n,r,e⟩:=I.hok p _ h
 exact⟨its,n,r,e,z⟩
theorem Inv.lstUpd{pins:List (Addr×Obj)}{σ:St}{H:Hp}{s:Shared}{p:Addr}{xs ys:List V}{its its':List Value}{n n':Nat}{f:Obj->Obj}(I:Inv X pins σ H s)(h:H p=some (.lst xs))(ho:s.heap.get? p=some { cls:=.type "list",data:=.seq its.toArray n })(hf:f { cls:=.type "list",data:=.seq its.toArray n }={ cls:=.type "list",data:=.seq its'.toArray n' })(r:bh ys its')(hz:ys.length<=sizeLine)(t:Nat):Inv X pins σ (upd H p (.lst ys)) { s with heap:=s.heap.update p f,toks:=t }:=by
 have e:(s.heap.update p f).get? p=some { cls:=.type "list",data:=.seq its'.toArray n' }:=by
  rw[Heap.get?_update_self f ho (by rw[hf]<;>rfl),hf]
 refine I.write (x:=p) (e:=p) (by rw[h];trivial) (.inl rfl) (fun b u hb q=>(Heap.get?_update_other _ _ (Ne.symm hb)).trans q) ⟨_,e⟩ ?_
 exact⟨hz,its',n',r,e⟩
def rSetL:V->V->V->Hp->(Hp->Prop)->Prop:=fun o i v H Q=>∃ p xs k j,o=.ref p/\i=.int k/\H p=some (.lst xs)/\ixN xs.length k=some j/\Q (upd H p (.lst (xs.set j v)))
theorem set_list:PSet X rSetL:=by
 intro pins s σ H o i v ov iv u Q I ro ri rv h
 obtain⟨p,xs,k,j,rfl,rfl,hp,hj,q⟩:=h
 cases ro
 obtain⟨t,rfl⟩:=ri
 obtain⟨its,n,r,ho,hz⟩:=I.lst hp
 obtain⟨h1,h2,h3,h4⟩:=ixN_seq hj
 have hl:=r.length
 have hn:=line63
 have I':Inv X pins σ (upd H p (.lst (xs.set j v))) { s with heap:=s.heap.update p (Obj.mapSeq (·.setIfInBounds j u)) }:=I.lstUpd hp ho (mapSeq_set its n j u) (r.set rv j) (by rw[List.length_set];exact hz) s.toks
 by_cases h0:0<=k
 ·have hk:k.toNat=j:=by
   rw[seqIndex_of h0 h4] at h1
   exact Option.some.inj h1
  exact W.ki_setAt ho h0 (by omega) (by rw[List.size_toArray,<-hl];exact h4) (by rw[hk];exact⟨_,I',q⟩)
 ·have hk:(k+(its.toArray.size:Int)).toNat=j:=by
   rw[seqIndex_neg (by omega) h3] at h1
   rw[List.size_toArray,<-hl]
   exact Option.some.inj h1
  exact W.ki_setBack ho (by omega) (by rw[List.size_toArray,<-hl];exact h3) (by omega) (by rw[hk];exact⟨_,I',q⟩)
theorem slice_bounds(lo hi:Option Int)(n:Nat):(sliceBounds lo hi none n).1=((HT.sIx n 0 lo:Nat):Int)/\(sliceBounds lo hi none n).2.1=((HT.sIx n n hi:Nat):Int)/\(sliceBounds lo hi none n).2.2=1:=by
 refine⟨?_,?_,rfl⟩
 ·cases lo with
  |none=>simp[sliceBounds,HT.sIx]
  |some i =>
   simp only[sliceBounds,HT.sIx,Option.getD_none,show(1:Int) > 0 by decide,if_true]
   by_cases h:i<0
   ·simp only[h,if_true]<;>omega
   ·simp only[h,if_false]<;>omega
 ·cases hi with
  |none=>simp[sliceBounds,HT.sIx]
  |some i =>
   simp only[sliceBounds,HT.sIx,Option.getD_none,show(1:Int) > 0 by decide,if_true]
   by_cases h:i<0
   ·simp only[h,if_true]<;>omega
   ·simp only[h,if_false]<;>omega
theorem slicePick_cut(its:List Value)(lo hi:Option Int):slicePick its.toArray lo hi none=((its.drop (HT.sIx its.length 0 lo)).take (HT.sIx its.length its.length hi-HT.sIx its.length 0 lo)).toArray:=by
 obtain⟨h1,h2,h3⟩:=slice_bounds lo hi its.toArray.size
 unfold slicePick
 rw[h1,h2,h3]
 simp only[sliceRange_one,pick_run,List.size_toArray]<;>rfl
def rSlL(K:W.Frag):V->Option Int->Option Int->Hp->VK->Prop:=fun x lo hi H Q=>∃ a xs,x=.ref a/\SqL K H a xs/\∀ p,H p=none->Q (.ref p) (upd H p (.lst (nj xs lo hi)))
theorem mw:SlR X (rSlL X.K):=by
 intro pins s σ H x v vl vu lo hi sl Q I rx hs pl pu h
 obtain⟨a,xs,rfl,hx,q⟩:=h
 cases rx
 obtain⟨its,r,ht,hz⟩:=I.list hx
 have hlen:=r.length
 refine⟨"list",_,slot_list_getitem.lookup,ht.isList.typeIs,?_⟩
 refine wpAny_getItem_list_slice ht.isList hs pl pu .none (by simp) ?_ (by rw[List.size_toArray]<;>omega)
 rw[slicePick_cut,<-hlen]
 refine⟨.ref s.heap.objs.size,_,I.laid (t':=s.toks) (o:=.lst (nj xs lo hi)) (fun b ob q=>Heap.get?_push_of_some _ q) (Nat.le_refl _) ?_,rfl,q _ (I.hok.fresh (Nat.le_refl _))⟩
 exact⟨Nat.le_trans (cutV_length xs lo hi) hz,_,0,(r.drop (HT.sIx xs.length 0 lo)).take (HT.sIx xs.length xs.length hi-HT.sIx xs.length 0 lo),Heap.get?_push_size _ rfl⟩
def kz:V->Bool
 |.non=>true
 |.bl _=>true
 |.int _=>true
 |.str _=>true
 |_=>false
def eqV:V->V->Bool
 |.non,.non=>true
 |.bl a,.bl b=>a==b
 |.bl a,.int b=>(if a then 1 else 0)==b
 |.int a,.bl b=>a==(if b then 1 else 0)
 |.int a,.int b=>a==b
 |.str a,.str b=>a==b
 |_,_=>false
theorem eqAt_V{A:Around}{s:Shared}{y x:V}{u v:Value}(ry:RelV y u)(rx:RelV x v)(fy:kz y=true)(fx:kz x=true):SeqAt.EqAt A s u v (eqV y x):=by
 cases y with
 |non =>
  cases ry
  cases x with
  |non=>cases rx;exact SeqAt.EqAt.same _
  |bl b=>cases rx;exact SeqAt.EqAt.none_bool b
  |int b=>obtain⟨t,rfl⟩:=rx;exact SeqAt.EqAt.none_int b t
  |str b=>obtain⟨t,rfl⟩:=rx;exact SeqAt.EqAt.none_str b t
  |_=>exact absurd (show false=true from fx) Bool.false_ne_true
 |bl a =>
  cases ry
  cases x with
  |non=>cases rx;exact SeqAt.EqAt.bool_none a
  |bl b=>cases rx;exact SeqAt.EqAt.bool_bool a b
  |int b=>obtain⟨t,rfl⟩:=rx;exact SeqAt.EqAt.bool_int a b t
  |str b=>obtain⟨t,rfl⟩:=rx;exact SeqAt.EqAt.bool_str a b t
  |_=>exact absurd (show false=true from fx) Bool.false_ne_true
 |int a =>
  obtain⟨t',rfl⟩:=ry
  cases x with
  |non=>cases rx;exact SeqAt.EqAt.int_none a t'
  |bl b=>cases rx;exact SeqAt.EqAt.int_bool a t' b
  |int b=>obtain⟨t,rfl⟩:=rx;exact SeqAt.EqAt.int_int a t' b t
  |str b=>obtain⟨t,rfl⟩:=rx;exact SeqAt.EqAt.int_str a t' b t
  |_=>exact absurd (show false=true from fx) Bool.false_ne_true
 |str a =>
  obtain⟨t',rfl⟩:=ry
  cases x with
  |non=>cases rx;exact SeqAt.EqAt.str_none a t'
  |bl b=>cases rx;exact SeqAt.EqAt.str_bool a t' b
  |int b=>obtain⟨t,rfl⟩:=rx;exact SeqAt.EqAt.str_int a t' b t
  |str b=>obtain⟨t,rfl⟩:=rx;exact SeqAt.EqAt.str_str a t' b t
  |_=>exact absurd (show false=true from fx) Bool.false_ne_true
 |_=>exact absurd (show false=true from fy) Bool.false_ne_true
def eqU(x:V)(u:Value):Bool:=match u with
 |.none=>eqV .non x
 |.bool b=>eqV (.bl b) x
 |.int i _=>eqV (.int i) x
 |.str z _=>eqV (.str z) x
 |_=>false
theorem eqU_of{x y:V}{u:Value}(r:RelV y u)(f:kz y=true):eqU x u=eqV y x:=by
 cases y with
 |non=>cases r;rfl
 |bl b=>cases r;rfl
 |int i=>obtain⟨t,rfl⟩:=r;rfl
 |str z=>obtain⟨t,rfl⟩:=r;rfl
 |_=>exact absurd (show false=true from f) Bool.false_ne_true
theorem any_eqU{x:V}:∀{xs:List V}{us:List Value},bh xs us->xs.all kz=true->us.any (eqU x)=xs.any fun y=>eqV y x
 |_,_,.nil,_=>rfl
 |y::xs,u::us,.cons r t,f=>by
  rw[List.all_cons,Bool.and_eq_true] at f
  rw[List.any_cons,List.any_cons,eqU_of r f.1,any_eqU t f.2]
theorem mem_eqAt{A:Around}{s:Shared}{x:V}{v:Value}(rx:RelV x v)(fx:kz x=true):∀{xs:List V}{us:List Value},bh xs us->xs.all kz=true->∀ u∈us,SeqAt.EqAt A s u v (eqU x u)
 |_,_,.nil,_=>fun u hu=>by cases hu
 |y::xs,u::us,.cons r t,f=>fun u' hu=>by
  rw[List.all_cons,Bool.and_eq_true] at f
  rcases List.mem_cons.mp hu with rfl|hu
  ·rw[eqU_of r f.1];exact eqAt_V r rx f.1 fx
  ·exact mem_eqAt rx fx t f.2 u' hu
def inV(x:V)(xs:List V):Bool:=xs.any fun y=>eqV y x
def rIn(K:W.Frag)(neg:Bool):R2:=fun x y H Q=>∃ p xs,y=.ref p/\(SqL K H p xs\/SqT K H p xs)/\kz x=true/\xs.all kz=true/\Q (.bl (if neg then !inV x xs else inV x xs)) H
theorem op_in_seq:OpR X (compareOp .In) (rIn X.K false):=by
 intro pins s σ H x y v u Q I rx ry h
 obtain⟨p,xs,rfl,hq,fx,fs,q⟩:=h
 cases ry
 rcases hq with hq|hq
 ·obtain⟨its,r,pl,hz⟩:=I.list hq
  refine SeqAt.in_listAt (eqU x) pl.isList (fun w hw=>mem_eqAt rx fx r fs w (by simpa using hw)) ⟨.bl _,H,I,rfl,?_⟩
  rw[show its.toArray.any (eqU x)=its.any (eqU x) by simp,any_eqU r fs]
  exact q
 ·obtain⟨its,r,pl,hz⟩:=I.tuple hq
  refine SeqAt.in_tupleAt (eqU x) pl (fun w hw=>mem_eqAt rx fx r fs w (by simpa using hw)) ⟨.bl _,H,I,rfl,?_⟩
  rw[show its.toArray.any (eqU x)=its.any (eqU x) by simp,any_eqU r fs]
  exact q
theorem ax:CallR X (.builtin "len") (fun xs H Q=>∃ p ys,xs=[.ref p]/\(SqL X.K H p ys\/SqT X.K H p ys)/\Q (.int ys.length) H):=by
 intro pins s σ H xs us Q I r h
 obtain⟨p,ys,rfl,hq,q⟩:=h
 obtain⟨u,rfl,rx⟩:=vals1 r
 cases rx
 have hn:=line63
 rcases hq with hq|hq
 ·obtain⟨its,r',pl,hz⟩:=I.list hq
  have hlen:=r'.length
  exact Calls.call_len_list pl.isList (by simp only[List.size_toArray]<;>omega) ⟨.int ys.length,H,I.tok _,⟨s.toks+1,by rw[List.size_toArray,hlen]⟩,q⟩
 ·obtain⟨its,r',pl,hz⟩:=I.tuple hq
  have hlen:=r'.length
  exact len_tuple pl (by simp only[List.size_toArray]<;>omega) ⟨.int ys.length,H,I.tok _,⟨s.toks+1,by rw[List.size_toArray,hlen]⟩,q⟩
theorem call_len_str:CallR X (.builtin "len") (fun xs H Q=>∃ z,xs=[.str z]/\z.length<=sizeLine/\Q (.int z.length) H):=by
 intro pins s σ H xs us Q I r h
 obtain⟨z,rfl,hz,q⟩:=h
 obtain⟨u,rfl,t,rfl⟩:=vals1 r
 have hn:=line63
 exact len_str (by omega) ⟨.int z.length,H,I.tok _,⟨_,rfl⟩,q⟩
def tyV(K:W.Frag)(T:String)(x:V)(H:Hp):Prop:=match x with
 |.str _=>T="str"
 |.int _=>T="int"
 |.ref p=>(T="list"/\∃ xs,SqL K H p xs)\/(T="tuple"/\∃ o,K.lookup p=some o/\o.cls=.type "tuple"/\o.dict=none)\/(T="dict"/\((∃ kvs,H p=some (.dK kvs))\/∃ kvs,H p=some (.dT kvs)))\/(T="set"/\∃ S n,H p=some (.set S n))
 |_=>False
theorem tyV_is{pins:List (Addr×Obj)}{σ:St}{H:Hp}{s:Shared}{T:String}{x:V}{v:Value}(I:Inv X pins σ H s)(r:RelV x v)(ty:tyV X.K T x H):s.TypeIs v T/\∀ a,v=.ref a->∃ ob,s.heap.get? a=some ob/\ob.dict=none:=by
 cases x with
 |str z =>
  obtain⟨t,rfl⟩:=r
  cases (show T="str" from ty)
  exact⟨typeIs_str s z t,fun _ e=>nomatch e⟩
 |int i =>
  obtain⟨t,rfl⟩:=r
  cases (show T="int" from ty)
  exact⟨typeIs_int s i t,fun _ e=>nomatch e⟩
 |ref p =>
  cases r
  rcases ty with⟨rfl,xs,hq⟩|⟨rfl,o,hk,hc,hd⟩|⟨rfl,hk⟩|⟨rfl,S,n,hk⟩
  ·obtain⟨its,_,pl,_⟩:=I.list hq
   refine⟨pl.isList.typeIs,fun a e=>?_⟩
   cases e
   obtain⟨o,n,e,c,hd,_⟩:=pl
   exact⟨o,e,hd⟩
  ·refine⟨⟨o,I.kIn p o hk,hc⟩,fun a e=>?_⟩
   cases e
   exact⟨o,I.kIn _ o hk,hd⟩
  ·have z:∃ o,s.heap.get? p=some o/\o.ExactDict:=by
    rcases hk with⟨kvs,hk⟩|⟨kvs,hk⟩
    ·obtain⟨_,_,_,_,o,_,_,e,ex,_⟩:=I.hok p _ hk
     exact⟨o,e,ex⟩
    ·obtain⟨_,_,_,_,o,_,_,e,ex,_⟩:=I.hok p _ hk
     exact⟨o,e,ex⟩
   obtain⟨o,e,ex⟩:=z
   refine⟨⟨o,e,ex.1⟩,fun a e2=>?_⟩
   cases e2
   exact⟨o,e,ex.2.1⟩
  ·obtain⟨o,_,_,_,e,ex,_⟩:=I.hok p _ hk
   refine⟨⟨o,e,ex.1⟩,fun a e2=>?_⟩
   cases e2
   exact⟨o,e,ex.2.1⟩
 |_=>exact False.elim ty
def tBM0(K:W.Frag)(T:String)(r:V->List V->Hp->VK->Prop)(to:TE):TE:=fun σ H Q=>to σ H fun x H1=>tyV K T x H1/\r x [] H1 Q
def tBM(K:W.Frag)(T:String)(r:V->List V->Hp->VK->Prop)(to:TE)(t:TA):TE:=fun σ H Q=>to σ H fun x H1=>tyV K T x H1/\t σ H1 fun xs H2=>r x xs H2 Q
end
section
variable{X:Cx}{a b:Expr}{ta tb:TE}{pos:Pos}
variable{o e:Expr}{es:List Expr}{to:TE}{t:TA}{name:Str}{apos cpos:Pos}{T id:String}{r:V->List V->Hp->VK->Prop}
theorem pe_bm0(pa:PlainAttrs T)(slot:Slot T name id)(hty:typeOf (.builtin id)=pure (.type "method_descriptor"))(hm:MtR X id r)(ho:PE X o to)(hbase:attributeBase o name X.env (eval o X.env)=eval o X.env:=by rfl)(hline:(apos.endLine==cpos.line)=true:=by rfl):PE X (.Call (.Attribute o name apos) [] [] cpos) (tBM0 X.K T r to):=by
 intro pins s σ H Q I h
 refine wpAny_Call_method0_late hbase hline (thn (ho pins s σ H _ I h) fun v s1 ⟨x,H1,I1,r1,ty,q1⟩=>?_)
 obtain⟨h1,h2⟩:=tyV_is I1 r1 ty
 exact⟨T,id,pa,slot,hty,h1,h2,Calls.callWith_builtin rfl (PySem.evalArgs_none (hm pins s1 σ H1 x [] v [] Q I1 r1 .nil q1))⟩
theorem g8(pa:PlainAttrs T)(slot:Slot T name id)(hty:typeOf (.builtin id)=pure (.type "method_descriptor"))(hm:MtR X id r)(ho:PE X o to)(ha:PA X (e::es) t)(hbase:attributeBase o name X.env (eval o X.env)=eval o X.env:=by rfl)(hfew:((backTo cpos (starEach (e::es) X.env)).all (fun x=>!x.1)&&(backToKw cpos (keywordEach [] X.env)).all (fun x=>x.1.isSome)&&decide ((e::es).length+([]:List Keyword).length+(if ([]:List Keyword).isEmpty then 0 else 1)<30))=true:=by rfl)(hline:(apos.endLine==cpos.line)=true:=by rfl)(hs:starEach (e::es) X.env=(false,eval e X.env)::starEach es X.env:=by rfl)(hplain:(backTo cpos (starEach es X.env)).any (·.1)=false:=by rfl):PE X (.Call (.Attribute o name apos) (e::es) [] cpos) (tBM X.K T r to t):=by
 intro pins s σ H Q I h
 refine wpAny_Call_method_late hbase hfew hline rfl (thn (ho pins s σ H _ I h) fun v s1 ⟨x,H1,I1,r1,ty,q1⟩=>?_)
 obtain⟨h1,h2⟩:=tyV_is I1 r1 ty
 refine⟨T,id,pa,slot,hty,h1,h2,?_⟩
 have hA:=ha cpos pins s1 σ H1 _ I1 q1
 rw[hs] at hA ⊢
 refine Calls.callWith_builtin (by show(false || (backTo cpos (starEach es X.env)).any (·.1))=false;rw[hplain]<;>rfl) (Calls.evalArgs_plain ?_)
 exact thn hA fun us s2 ⟨vs,H2,I2,r2,q2⟩=>hm pins s2 σ H2 x vs v us Q I2 r1 r2 q2
def MtM(X:Cx)(id:String)(r:V->List V->Hp->VK->Prop):Prop:=∀(pins:List (Addr×Obj))(s:Shared)(σ:St)(H:Hp)(x:V)(xs:List V)(v:Value)(us:List Value)(Q:VK),Inv X pins σ H s->RelV x v->bh xs us->r x xs H Q->wpAny (model X.prog X.w) X.A (call (.builtin id) (v::us)) (EP X pins σ Q) X.xe s
theorem bh.one:∀{x:V}{us:List Value},bh [x] us->∃ u,us=[u]/\RelV x u
 |_,_,.cons r .nil=>⟨_,rfl,r⟩
theorem bh.zero:∀{us:List Value},bh [] us->us=[]
 |_,.nil=>rfl
theorem bh.dropLast{xs:List V}{us:List Value}(h:bh xs us):bh xs.dropLast us.dropLast:=by
 induction h with
 |nil=>exact .nil
 |cons r t ih =>
  cases t with
  |nil=>exact .nil
  |cons q t'=>exact .cons r ih
theorem bh.rep{xs:List V}{us:List Value}(h:bh xs us):∀ k:Nat,bh (List.replicate k xs).flatten (List.replicate k us).flatten
 |0=>.nil
 |k+1=>by
  rw[List.replicate_succ,List.replicate_succ,List.flatten_cons,List.flatten_cons]
  exact bh.append h (bh.rep h k)
theorem erase_last{α:Type}(l:List α):l.eraseIdx (l.length-1)=l.dropLast:=by
 induction l with
 |nil=>rfl
 |cons a r ih =>
  cases r with
  |nil=>rfl
  |cons b r =>
   have e:(a::b::r).length-1=((b::r).length-1)+1:=by
    have h1:(a::b::r).length=r.length+2:=rfl
    have h2:(b::r).length=r.length+1:=rfl
    omega
   rw[e,List.eraseIdx_cons_succ,ih]
   all_goals rfl
theorem foldl_rep(its:List Value):∀(k:Nat)(acc:List Value),List.foldl (fun x1 x2=>x1++x2) acc.toArray (List.replicate k its.toArray)=(acc++(List.replicate k its).flatten).toArray
 |0,acc=>by simp
 |k+1,acc=>by
  have e:acc.toArray++its.toArray=(acc++its).toArray:=by simp
  have e2:(acc++its)++(List.replicate k its).flatten=acc++(List.replicate (k+1) its).flatten:=by
   rw[List.replicate_succ,List.flatten_cons,List.append_assoc]
  rw[<-e2,<-foldl_rep its k (acc++its),<-e,List.replicate_succ,List.foldl_cons]
end
section
variable{X:Cx}{pins:List (Addr×Obj)}{σ:St}{H:Hp}{s:Shared}{l b:Addr}{xs ys zs:List V}
theorem Inv.lset{its its':List Value}{n:Nat}{f:Array Value->Array Value}{t':Nat}(I:Inv X pins σ H s)(hH:H l=some (.lst xs))(e:s.heap.get? l=some { cls:=.type "list",data:=.seq its.toArray n })(hf:f its.toArray=its'.toArray)(hv:bh ys its')(hz:ys.length<=sizeLine):Inv X pins σ (upd H l (.lst ys)) { s with heap:=s.heap.update l (Obj.mapSeq f),toks:=t' }:=by
 have q:=PySem.IsL.update e f
 rw[hf] at q
 refine I.write (x:=l) (e:=l) (by rw[hH];exact trivial) (.inl rfl) (fun b' u hb hu=>(Heap.get?_update_other s.heap (Obj.mapSeq f) (Ne.symm hb)).trans hu) ⟨_,q⟩ ?_
 exact⟨hz,its',_,hv,q⟩
theorem Inv.lnew{its:List Value}{t':Nat}(I:Inv X pins σ H s)(hv:bh ys its)(hz:ys.length<=sizeLine):Inv X pins σ (upd H s.heap.objs.size (.lst ys)) { s with heap:=s.heap.push { cls:=.type "list",data:=.seq its.toArray },toks:=t' }:=I.laid (fun _ _ q=>Heap.get?_push_of_some _ q) (Nat.le_refl _) ⟨hz,its,0,hv,Heap.get?_push_size _ rfl⟩
theorem Inv.fresh(I:Inv X pins σ H s):H s.heap.objs.size=none:=I.hok.fresh (Nat.le_refl _)
theorem Inv.lstM(I:Inv X pins σ H s)(hH:H l=some (.lst xs)):xs.length<=sizeLine/\∃(its:List Value)(n:Nat),bh xs its/\xs.length=its.length/\s.heap.get? l=some { cls:=.type "list",data:=.seq its.toArray n }:=by
 obtain⟨z,its,n,r,e⟩:=I.hok l _ hH
 exact⟨z,its,n,r,r.length,e⟩
theorem notLongL{n:Nat}(h:n<=sizeLine):Builtin.List.listTooLong n=false:=by
 unfold Builtin.List.listTooLong
 exact decide_eq_false (by omega)
def rAppend:V->List V->Hp->VK->Prop:=fun x vs H Q=>∃ l xs y,x=.ref l/\vs=[y]/\H l=some (.lst xs)/\xs.length<sizeLine/\Q .non (upd H l (.lst (xs++[y])))
theorem cv:MtM X "list.append" rAppend:=by
 intro pins s σ H x vs v us Q I rx rv h
 obtain⟨l,xs,y,rfl,rfl,hH,hz,q⟩:=h
 cases rx
 obtain⟨u,rfl,ru⟩:=rv.one
 obtain⟨z,its,n,r,hl,e⟩:=I.lstM hH
 refine call_meets F.slot_list_append ⟨_,e,rfl⟩ F.entry_list_append (F.args_list_append_2 _ _) (PySem.list_append l its.toArray n u (by rw[List.size_toArray];omega)) ⟨e,?_⟩
 refine⟨.non,_,I.lset (its':=its++[u]) hH e (by simp) (r.append (.cons ru .nil)) ?_,rfl,q⟩
 rw[List.length_append,List.length_singleton]
 omega
def rExtend:V->List V->Hp->VK->Prop:=fun x vs H Q=>∃ l b xs zs,x=.ref l/\vs=[.ref b]/\H l=some (.lst xs)/\H b=some (.lst zs)/\xs.length+zs.length<=sizeLine/\Q .non (upd H l (.lst (xs++zs)))
theorem mt_extend:MtM X "list.extend" rExtend:=by
 intro pins s σ H x vs v us Q I rx rv h
 obtain⟨l,b,xs,zs,rfl,rfl,hH,hB,hz,q⟩:=h
 cases rx
 obtain⟨u,rfl,ru⟩:=rv.one
 cases ru
 obtain⟨z,its,n,r,hl,e⟩:=I.lstM hH
 obtain⟨z2,its2,n2,r2,hl2,e2⟩:=I.lstM hB
 have hsz:its.toArray.size+its2.toArray.size<=sizeLine:=by rw[List.size_toArray,List.size_toArray];omega
 have hlong:¬(!its.toArray.isEmpty&&Builtin.List.listTooLong (its.toArray.size+its2.toArray.size))=true:=by
  rw[notLongL hsz,Bool.and_false]
  exact Bool.false_ne_true
 refine call_meets F.slot_list_extend ⟨_,e,rfl⟩ F.entry_list_extend (F.args_list_extend_2 _ _) (AutoSeq1.list_extend_list_list_0 l its.toArray n b its2.toArray n2 hlong (by rw[List.size_toArray];omega) (by omega)) ⟨e,e2,?_⟩
 refine⟨.non,_,I.lset (its':=its++its2) hH e (by simp) (r.append r2) ?_,rfl,q⟩
 rw[List.length_append]
 omega
def rPop:V->List V->Hp->VK->Prop:=fun x vs H Q=>∃ l xs y,x=.ref l/\vs=[]/\H l=some (.lst xs)/\xs[xs.length-1]?=some y/\Q y (upd H l (.lst xs.dropLast))
theorem mt_pop:MtM X "list.pop" rPop:=by
 intro pins s σ H x vs v us Q I rx rv h
 obtain⟨l,xs,y,rfl,rfl,hH,hy,q⟩:=h
 cases rx
 have hus:=rv.zero
 subst hus
 obtain⟨z,its,n,r,hl,e⟩:=I.lstM hH
 obtain⟨u,hu,ru⟩:=r.get hy
 have hy':its.toArray[its.toArray.size-1]?=some u:=by
  show its.toArray[its.length-1]?=some u
  rw[<-Array.getElem?_toList,<-hl]
  exact hu
 refine call_meets F.slot_list_pop ⟨_,e,rfl⟩ F.entry_list_pop (F.args_list_pop_1 _) (MeetsSeq.list_pop_last l its.toArray n u hy' (by rw[List.size_toArray];omega)) ⟨e,?_⟩
 refine⟨y,_,I.lset (its':=its.dropLast) hH e ?_ r.dropLast ?_,ru,q⟩
 ·show its.toArray.eraseIdxIfInBounds (its.toArray.size-1)=its.dropLast.toArray
  rw[List.size_toArray,List.eraseIdxIfInBounds_toArray,erase_last]
 ·rw[List.length_dropLast]
  omega
def rCat:R2:=fun x y H Q=>∃ l b xs zs,x=.ref l/\y=.ref b/\H l=some (.lst xs)/\H b=some (.lst zs)/\xs.length+zs.length<=sizeLine/\∀ p,H p=none->Q (.ref p) (upd H p (.lst (xs++zs)))
theorem op_cat:OpR X (binaryOp .Add) rCat:=by
 intro pins s σ H x y v u Q I rx ry h
 obtain⟨l,b,xs,zs,rfl,rfl,hH,hB,hz,q⟩:=h
 cases rx
 cases ry
 obtain⟨z,its,n,r,hl,e⟩:=I.lstM hH
 obtain⟨z2,its2,n2,r2,hl2,e2⟩:=I.lstM hB
 refine PySem.P.add_list e e2 ?_ (by rw[List.size_toArray,List.size_toArray];omega)
 have ea:its.toArray++its2.toArray=(its++its2).toArray:=by simp
 rw[ea]
 exact⟨.ref _,_,I.lnew (t':=s.toks) (r.append r2) (by rw[List.length_append];omega),rfl,q _ I.fresh⟩
def rRep:R2:=fun x y H Q=>∃ l k xs,x=.ref l/\y=.int k/\H l=some (.lst xs)/\-(2 ^ 63)<=k/\k<2 ^ 63/\xs.length * k.toNat<=sizeLine/\∀ p,H p=none->Q (.ref p) (upd H p (.lst (List.replicate k.toNat xs).flatten))
theorem len_rep{α:Type}(xs:List α)(k:Nat):(List.replicate k xs).flatten.length=k * xs.length:=by
 induction k with
 |zero=>simp
 |succ k ih=>rw[List.replicate_succ,List.flatten_cons,List.length_append,ih,Nat.succ_mul,Nat.add_comm]
theorem op_rep:OpR X (binaryOp .Mult) rRep:=by
 intro pins s σ H x y v u Q I rx ry h
 obtain⟨l,k,xs,rfl,rfl,hH,h1,h2,hz,q⟩:=h
 cases rx
 obtain⟨t,rfl⟩:=ry
 obtain⟨z,its,n,r,hl,e⟩:=I.lstM hH
 have hlen:its.toArray.size * k.toNat<=sizeLine:=by rw[List.size_toArray,<-hl];exact hz
 have hcap:¬ its.toArray.size * k.toNat > (2 ^ 63-1) / 8:=by
  have:(sizeLine:Nat)<=(2 ^ 63-1) / 8:=by decide
  omega
 have hfit:¬(!Builtin.List.listFitsIndex k)=true:=by
  rw[fitsIndex_both h1 h2]
  exact Bool.false_ne_true
 have hlong:¬ Builtin.List.listTooLong (its.toArray.size * k.toNat)=true:=by
  rw[notLongL hlen]
  exact Bool.false_ne_true
 have hnew:List.foldl (fun x1 x2=>x1++x2) #[] (List.replicate (if its.toArray.isEmpty=true then 0 else k.toNat) its.toArray)=(List.replicate k.toNat its).flatten.toArray:=by
  have f0:∀ m:Nat,List.foldl (fun x1 x2=>x1++x2) #[] (List.replicate m its.toArray)=(List.replicate m its).flatten.toArray:=fun m=>by
   have:=foldl_rep its m []
   rw[List.nil_append] at this
   exact this
  rw[f0]
  cases its with
  |nil=>simp
  |cons a r'=>rw[if_neg (by simp)]
 refine wpAny_binaryOp_repeat_ref (T:="list") (U:="int") (by decide) ⟨_,e,rfl⟩ (fun s'=>typeIs_int s' k t) noFill_list_mul F.fills_int_mul F.slot_int_rmul repeat_list F.slot_int_index.lookup (call_meets F.slot_int_rmul (typeIs_int s k t) F.entry_int_rmul (F.args_int_rmul_2 _ _) (int___rmul___int_list k t l its.toArray n) ⟨e,rfl,⟨_,e,rfl⟩,call_meets F.slot_list_mul ⟨_,e,rfl⟩ F.entry_list_mul (F.args_list_mul_2 _ _) (AutoListH.list___mul___list_int_3 l its.toArray n k t hfit hcap hlong) ⟨e,?_⟩⟩)
 rw[hnew]
 exact⟨.ref _,_,I.lnew (t':=s.toks) (r.rep k.toNat) (by rw[len_rep,Nat.mul_comm];exact hz),rfl,q _ I.fresh⟩
end
section
variable{prog:Program}{w:World}{A:Around}{E:Value->Shared->Prop}{s:Shared}
set_option maxRecDepth 100000 in
theorem bh.ints:∀{ns:List Int}{us:List Value},bh (ns.map V.int) us->IntsAre us ns
 | [],us,h=>by
  rw[List.map_nil] at h
  cases h
  exact IntsAre.nil
 |n::ns,us,h=>by
  rw[List.map_cons] at h
  cases h with
  |cons r t =>
   obtain⟨k,rfl⟩:=r
   exact IntsAre.cons n k (bh.ints t)
theorem bh.bls:∀{bs:List Bool}{us:List Value},bh (bs.map V.bl) us->us=bs.map Value.bool
 | [],us,h=>by
  rw[List.map_nil] at h
  cases h
  rfl
 |b::bs,us,h=>by
  rw[List.map_cons] at h
  cases h with
  |cons r t =>
   cases r
   rw[bh.bls t,List.map_cons]
theorem bh.ref1{a:Addr}{us:List Value}(r:bh [V.ref a] us):us=[Value.ref a]:=by
 cases r with
 |cons r t =>
  cases t
  cases r
  rfl
end
section
variable{prog:Program}{w:World}{A:Around}{E:Value->Shared->Prop}{s:Shared}{l:Addr}{its:List Value}{ns:List Int}{Q:Value->Shared->Prop}
theorem min_raw(hh:A.handled=none)(hl:s.heap.IsList l its.toArray)(hi:IntsAre its ns)(hne:0<ns.length)(h:∀ h' tk M t',(∀ b o,s.heap.get? b=some o->h'.get? b=some o)->M∈ns->(∀ a,a∈ns->M<=a)->Q (.int M t') { s with heap:=h',toks:=tk }):wpAny (model prog w) A (call (.builtin "min") [.ref l]) Q E s:=by
 obtain⟨xs,e⟩:=hi.allInts.items
 have hn:numsOf (intItems xs).toList=ns:=by rw[<-e];exact hi.numsOf
 rw[nums_intItems] at hn
 subst hn
 rw[e] at hl
 have hsz:0<xs.size:=by simpa using hne
 refine PySem.min_intList hh hl hsz fun v h' tk hv hk=>?_
 obtain⟨t,rfl⟩:=intItems_at hv
 obtain⟨h1,h2⟩:=argBest_lt (numAt xs) (xs.size-1)
 refine h h' tk _ t hk ?_ fun a ha=>?_
 ·rw[numAt_eq];exact PySem.getD_mem (by rw[List.length_map,Array.length_toList];omega)
 ·obtain⟨j,hj,rfl⟩:=mem_getD ha
  rw[List.length_map,Array.length_toList] at hj
  rw[<-numAt_eq];exact h2 j (by omega)
end
section
variable{X:Cx}
def rMin(K:W.Frag):List V->Hp->VK->Prop:=fun vs H Q=>∃(a:Addr)(ns:List Int),vs=[V.ref a]/\SqL K H a (ns.map V.int)/\0<ns.length/\∀ m,m∈ns->(∀ y,y∈ns->m<=y)->Q (.int m) H
theorem cr_min(hc:X.calm=true):CallR X (.builtin "min") (rMin X.K):=by
 intro pins s σ H vs us Q I r h
 obtain⟨a,ns,rfl,hs,hne,q⟩:=h
 obtain⟨its,rv,hl,_⟩:=I.list hs
 rw[bh.ref1 r]
 exact min_raw (I.ok.hd hc) hl.isList rv.ints hne fun h' tk m t' hk h1 h2=>⟨.int _,H,I.kept hk,⟨_,rfl⟩,q m h1 h2⟩
def rIndex(K:W.Frag):V->List V->Hp->VK->Prop:=fun x xs H Q=>∃(a:Addr)(ys:List V)(y:V)(j:Nat)(z:V),x=V.ref a/\xs=[y]/\SqL K H a ys/\kz y=true/\ys.all kz=true/\ys[j]?=some z/\eqV z y=true/\(∀(m:Nat)(z':V),m<j->ys[m]?=some z'->eqV z' y=false)/\Q (.int (j:Nat)) H
theorem flat_at{ys:List V}(f:ys.all kz=true){j:Nat}{z:V}(h:ys[j]?=some z):kz z=true:=List.all_eq_true.mp f z (List.mem_of_getElem? h)
theorem mt_index:MtR X "list.index" (rIndex X.K):=by
 intro pins s σ H x xs v us Q I rx rxs h
 obtain⟨a,ys,y,j,z,rfl,rfl,hs,fy,fys,hz,hzj,hno,q⟩:=h
 cases rx
 cases rxs with
 |cons ry rt =>
  rename_i uy ut
  cases rt
  obtain⟨its,rv,⟨⟨cls,dd,data,sl⟩,n,ho,hc,hdn,hd⟩,hlen⟩:=I.list hs
  simp only at hc hd
  subst hc hd
  obtain⟨u,hu,ru⟩:=rv.get hz
  obtain⟨hjl,hje⟩:=List.getElem?_eq_some_iff.mp hu
  have hvl:=rv.length
  have hj:j<its.toArray.size:=by simpa using hjl
  have hsl:=sizeLine_eq
  refine call_meets F.slot_list_index ⟨_,ho,rfl⟩ F.entry_list_index (F.args_list_index_2 _ _) (SeqAt.list_indexAt a its.toArray n dd sl uy (eqU y) j hj (by omega) ?_ ?_) ⟨ho,fun u' hu'=>mem_eqAt ry fy rv fys u' (by simpa using hu'),?_⟩
  ·have e1:its.toArray[j]=u:=by simpa using hje
   rw[e1,eqU_of ru (flat_at fys hz)]
   exact hzj
  ·intro m hm hmj
   have hml:m<its.length:=by simpa using hm
   have hmy:m<ys.length:=by omega
   have hy':ys[m]?=some ys[m]:=List.getElem?_eq_getElem hmy
   obtain⟨u2,hu2,ru2⟩:=rv.get hy'
   obtain⟨_,hme⟩:=List.getElem?_eq_some_iff.mp hu2
   have e1:its.toArray[m]=u2:=by simpa using hme
   rw[e1,eqU_of ru2 (flat_at fys hy')]
   exact hno m _ hmj hy'
  ·exact⟨.int (j:Nat),H,I.tok _,⟨_,rfl⟩,q⟩
theorem iter_any{prog:Program}{w:World}{A:Around}{E:Value->Shared->Prop}{s:Shared}{l:Addr}{items:Array Value}{Q:Value->Shared->Prop}(hl:s.heap.IsList l items)(h:∀ s₂:Shared,s₂={ s with heap:=s.heap.push { cls:=.type "list_iterator",data:=.fields #[.ref l,.int 0 0] } }->(s₂.heap.IsListIter s.heap.objs.size l 0/\s₂.heap.IsList l items)->l≠s.heap.objs.size->Q (.ref s.heap.objs.size) s₂):wpAny (model prog w) A (pyIter (.ref l)) Q E s:=by
 have hlt:l<s.heap.objs.size:=by obtain⟨_,e,_⟩:=hl;exact Heap.lt_size e
 exact wpAny_pyIter_list hl (h _ rfl ⟨⟨_,Heap.get?_push_size _ rfl,rfl,rfl⟩,hl.push _⟩ (Nat.ne_of_lt hlt))
theorem truth_bools{prog:Program}{w:World}{A:Around}{bs:List Bool}{its:List Value}(e:its=bs.map Value.bool):TruthOf prog w A (fun i v=>its.toArray[i]?=some v) (fun i=>bs.getD i false):=fun i v s Q E hv hq=>by
 have hv':its[i]?=some v:=by simpa using hv
 rw[e,List.getElem?_map] at hv'
 obtain⟨b,hb,rfl⟩:=Option.map_eq_some_iff.mp hv'
 have hg:bs.getD i false=b:=by rw[List.getD_eq_getElem?_getD,hb]<;>rfl
 have hq':Q (bs.getD i false) s:=hq
 rw[hg] at hq'
 exact wpAny_truthy_bool hq'
theorem any_range:∀ bs:List Bool,(List.range bs.length).any (fun i=>bs.getD i false)=bs.any id
 | []=>rfl
 |b::bs=>by
  rw[List.length_cons,List.range_succ_eq_map,List.any_cons,List.any_map,List.any_cons,<-any_range bs]
  all_goals rfl
theorem all_range:∀ bs:List Bool,(List.range bs.length).all (fun i=>bs.getD i false)=bs.all id
 | []=>rfl
 |b::bs=>by
  rw[List.length_cons,List.range_succ_eq_map,List.all_cons,List.all_map,List.all_cons,<-all_range bs]
  all_goals rfl
def rAny(K:W.Frag):List V->Hp->VK->Prop:=fun vs H Q=>∃(a:Addr)(bs:List Bool),vs=[V.ref a]/\SqL K H a (bs.map V.bl)/\Q (.bl (bs.any id)) H
def rAll(K:W.Frag):List V->Hp->VK->Prop:=fun vs H Q=>∃(a:Addr)(bs:List Bool),vs=[V.ref a]/\SqL K H a (bs.map V.bl)/\Q (.bl (bs.all id)) H
theorem cr_any(hc:X.calm=true):CallR X (.builtin "any") (rAny X.K):=by
 intro pins s σ H vs us Q I r h
 obtain⟨a,bs,rfl,hs,q⟩:=h
 obtain⟨its,rv,hl,_⟩:=I.list hs
 rw[bh.ref1 r]
 have hb:=rv.bls
 refine call_any_walk (iter_any hl.isList fun s₂ e2 st hne=>?_)
 subst e2
 refine⟨_,_,_,_,_,_,_,rfl,Walks.list (A:=X.A.in1) (I.ok.hd hc) _ a hne its.toArray,st,truth_bools hb,fun h' tk hk=>?_⟩
 refine⟨.bl _,H,I.kept fun b o eo=>hk b o (fun hmem=>?_) (Heap.get?_push_of_some _ eo),?_,q⟩
 ·rcases List.mem_cons.mp hmem with e1|hmem
  ·exact absurd (e1▸Heap.lt_size eo) (Nat.lt_irrefl _)
  ·cases hmem
 ·show Value.bool _=Value.bool _
  rw[<-any_range,hb,List.size_toArray,List.length_map]
theorem cr_all(hc:X.calm=true):CallR X (.builtin "all") (rAll X.K):=by
 intro pins s σ H vs us Q I r h
 obtain⟨a,bs,rfl,hs,q⟩:=h
 obtain⟨its,rv,hl,_⟩:=I.list hs
 rw[bh.ref1 r]
 have hb:=rv.bls
 refine call_all_walk (iter_any hl.isList fun s₂ e2 st hne=>?_)
 subst e2
 refine⟨_,_,_,_,_,_,_,rfl,Walks.list (A:=X.A.in1) (I.ok.hd hc) _ a hne its.toArray,st,truth_bools hb,fun h' tk hk=>?_⟩
 refine⟨.bl _,H,I.kept fun b o eo=>hk b o (fun hmem=>?_) (Heap.get?_push_of_some _ eo),?_,q⟩
 ·rcases List.mem_cons.mp hmem with e1|hmem
  ·exact absurd (e1▸Heap.lt_size eo) (Nat.lt_irrefl _)
  ·cases hmem
 ·show Value.bool _=Value.bool _
  rw[<-all_range,hb,List.size_toArray,List.length_map]
end
mutual
inductive Dp (K:W.Frag) (H:Hp):V->PyData->Prop
 |non:Dp K H .non .none
 |bl (b:Bool):Dp K H (.bl b) (.bool b)
 |int (i:Int):Dp K H (.int i) (.int i)
 |str (x:Str):Dp K H (.str x) (.str x)
 |lst {a:Addr} {xs:List V} {ds:List PyData}:SqL K H a xs->DpAll K H xs ds->Dp K H (.ref a) (.list ds)
 |tup {a:Addr} {xs:List V} {ds:List PyData}:SqT K H a xs->DpAll K H xs ds->Dp K H (.ref a) (.tuple ds)
inductive DpAll (K:W.Frag) (H:Hp):List V->List PyData->Prop
 |nil:DpAll K H [] []
 |cons {v:V} {vs:List V} {d:PyData} {ds:List PyData}:Dp K H v d->DpAll K H vs ds->DpAll K H (v::vs) (d::ds)
end
section
variable{X:Cx}{pins:List (Addr×Obj)}{σ:St}{H:Hp}{s:Shared}
mutual
theorem Dp.reads (I:Inv X pins σ H s):∀(d:PyData)(v:V)(u:Value),Dp X.K H v d->RelV v u->∃ as,Reads s.heap u d as
 |.none,_,_,h,r=>by
  cases h
  cases r
  exact⟨_,Reads.none⟩
 |.bool b,_,_,h,r=>by
  cases h
  cases r
  exact⟨_,Reads.bool b⟩
 |.int i,_,_,h,r=>by
  cases h
  obtain⟨t,rfl⟩:=r
  exact⟨_,Reads.int i t⟩
 |.str x,_,_,h,r=>by
  cases h
  obtain⟨t,rfl⟩:=r
  exact⟨_,Reads.str x t⟩
 |.list ds,_,_,h,r=>by
  cases h with
  |lst hs ha =>
   cases r
   obtain⟨its,rv,⟨o,n,ho,hc,_,hd⟩,_⟩:=I.list hs
   obtain⟨as,hr⟩:=Dp.readsAll I ds _ its ha rv
   exact⟨_,Reads.list ho hc hd hr⟩
 |.tuple ds,_,_,h,r=>by
  cases h with
  |tup hs ha =>
   cases r
   obtain⟨its,rv,⟨o,ho,hc,n,hd⟩,_⟩:=I.tuple hs
   obtain⟨as,hr⟩:=Dp.readsAll I ds _ its ha rv
   exact⟨_,Reads.tuple ho hc hd hr⟩
 |.dict _,_,_,h,_=>by cases h
theorem Dp.readsAll (I:Inv X pins σ H s):∀(ds:List PyData)(vs:List V)(us:List Value),DpAll X.K H vs ds->bh vs us->∃ as,ReadsAll s.heap us ds as
 | [],_,_,h,r=>by
  cases h
  cases r
  exact⟨_,ReadsAll.nil⟩
 |d::ds,_,_,h,r=>by
  cases h with
  |cons h1 h2 =>
   cases r with
   |cons r1 r2 =>
    obtain⟨as,q1⟩:=Dp.reads I d _ _ h1 r1
    obtain⟨bs,q2⟩:=Dp.readsAll I ds _ _ h2 r2
    exact⟨_,ReadsAll.cons q1 q2⟩
end
def rEqD(K:W.Frag):R2:=fun x y H Q=>∃ d e,Dp K H x d/\Dp K H y e/\SeqAt.shaped d=true/\SeqAt.shaped e=true/\Q (.bl (PyData.eqv d e)) H
theorem op_eqD(hu:X.A.units+64<cLine):OpR X (compareOp .Eq) (rEqD X.K):=by
 intro pins s σ H x y v u Q I rx ry h
 obtain⟨d,e,hd,he,sd,se,q⟩:=h
 obtain⟨as,r1⟩:=Dp.reads I d x v hd rx
 obtain⟨bs,r2⟩:=Dp.reads I e y u he ry
 exact SeqAt.compareEq_shaped r1 r2 sd se hu ⟨.bl _,H,I,rfl,q⟩
abbrev CellAt(h:Heap)(c:Addr)(v:Option Value):Prop:=h.IsCell c v
def relS(scope sc:Scope):Scope:={ scope with names:=scope.names.map fun(n,k)=>if (k==.free&&sc.kind==.function&&sc.names.lookup n==some .cell) then (n,.cell) else (n,k) }
def c6(cells:List (Str×Addr)):List (Str×NameKind)->List (Str×Addr)->List (Str×Addr)
 | [],acc=>acc
 |(n,k)::r,acc=>if k==.free then c6 cells r ((n,(cells.lookup n).getD 0)::acc) else c6 cells r acc
theorem closure_loop(env:Env)(f:Str×NameKind->List (Str×Addr)->Sem (ForInStep (List (Str×Addr))))(hf:∀ n k c,f (n,k) c=if k==.free then (do let a <-cellOf env n;pure (.yield ((n,a)::c))) else pure (.yield c)) :
  ∀(names:List (Str×NameKind))(acc:List (Str×Addr)),(∀ y∈names,y.2=.free->∃ c,env.cells.lookup y.1=some c)->forIn names acc f=pure (c6 env.cells names acc)
 | [],acc,_=>by rw[List.forIn_nil];rfl
 |(n,k)::r,acc,h=>by
  rw[List.forIn_cons,hf]
  have ih:=fun acc=>closure_loop env f hf r acc fun y hy=>h y (List.mem_cons_of_mem _ hy)
  unfold c6
  by_cases hk:(k==NameKind.free)=true
  ·rw[if_pos hk,if_pos hk]
   obtain⟨c,hc⟩:=h (n,k) List.mem_cons_self (by simpa using hk)
   have e:cellOf env n=pure c:=by unfold cellOf;rw[hc]
   rw[e]
   have e2:(env.cells.lookup n).getD 0=c:=by rw[hc];rfl
   rw[e2]
   exact ih _
  ·rw[if_neg hk,if_neg hk]
   exact ih _
theorem closure_ok{scope:Scope}{env:Env}(h:∀ y∈scope.names,y.2=.free->∃ c,env.cells.lookup y.1=some c):closureFor scope env=pure (c6 env.cells scope.names []):=by
 simp only[closureFor]
 rw[closure_loop env _ (fun n k c=>rfl) scope.names [] h]
 rfl
theorem mem_lookup{α:Type}:∀{l:List (Str×α)}{n:Str}{c:α},(n,c)∈l->∃ c',l.lookup n=some c'
 |(k,v)::r,n,c,h=>by
  rw[List.lookup_cons]
  cases hb:n==k with
  |true=>exact⟨_,rfl⟩
  |false =>
   rcases List.mem_cons.mp h with e|h
   ·cases e;simp at hb
   ·exact mem_lookup h
theorem km{cells:List (Str×Addr)}:∀{names:List (Str×NameKind)}{acc:List (Str×Addr)}{n:Str}{c:Addr},(n,c)∈c6 cells names acc->(n,c)∈acc\/((n,.free)∈names/\c=(cells.lookup n).getD 0)
 | [],_,_,_,h=>.inl h
 |(m,k)::r,acc,n,c,h=>by
  unfold c6 at h
  split at h
  ·rename_i hk
   have hk:k=.free:=by simpa using hk
   rcases km h with h|⟨h1,h2⟩
   ·rcases List.mem_cons.mp h with e|h
    ·cases e;exact .inr ⟨hk▸List.mem_cons_self,rfl⟩
    ·exact .inl h
   ·exact .inr ⟨List.mem_cons_of_mem _ h1,h2⟩
  ·rcases km h with h|⟨h1,h2⟩
   ·exact .inl h
   ·exact .inr ⟨List.mem_cons_of_mem _ h1,h2⟩
theorem cloFrom_acc{cells:List (Str×Addr)}:∀{names:List (Str×NameKind)}{acc:List (Str×Addr)}{p:Str×Addr},p∈acc->p∈c6 cells names acc
 | [],_,_,h=>h
 |(m,k)::r,acc,p,h=>by
  unfold c6
  split
  ·exact cloFrom_acc (List.mem_cons_of_mem _ h)
  ·exact cloFrom_acc h
theorem cloFrom_has{cells:List (Str×Addr)}:∀{names:List (Str×NameKind)}{acc:List (Str×Addr)}{n:Str},(n,.free)∈names->(n,(cells.lookup n).getD 0)∈c6 cells names acc
 |(m,k)::r,acc,n,h=>by
  unfold c6
  rcases List.mem_cons.mp h with e|h
  ·cases e
   exact cloFrom_acc List.mem_cons_self
  ·split
   ·exact cloFrom_has h
   ·exact cloFrom_has h
theorem lg:∀{names:List (Str×NameKind)}{h:Heap}{acc:List (Str×Addr)}{x:Str}{c:Addr},(x,c)∈cellsFrom h.objs.size names acc->(x,c)∈acc\/((x,.cell)∈names/\h.objs.size<=c/\CellAt (pushCells h names) c none)
 | [],_,_,_,_,h=>.inl h
 |(n,k)::r,h,acc,x,c,hm=>by
  unfold cellsFrom at hm
  unfold pushCells
  split at hm
  ·rename_i hk
   rw[if_pos hk]
   have hk:k=.cell:=by simpa using hk
   rw[<-Heap.size_push h { cls:=.type "cell",data:=.cell none }] at hm
   rcases lg hm with hm|⟨h1,h2,h3⟩
   ·rcases List.mem_cons.mp hm with e|hm
    ·cases e
     exact .inr ⟨hk▸List.mem_cons_self,Nat.le_refl _,_,pushCells_keeps r _ _ _ (Heap.get?_push_size _ rfl),rfl⟩
    ·exact .inl hm
   ·rw[Heap.size_push] at h2
    exact .inr ⟨List.mem_cons_of_mem _ h1,Nat.le_of_succ_le h2,h3⟩
  ·rename_i hk
   rw[if_neg hk]
   rcases lg hm with hm|⟨h1,h2,h3⟩
   ·exact .inl hm
   ·exact .inr ⟨List.mem_cons_of_mem _ h1,h2,h3⟩
theorem cells_acc:∀{names:List (Str×NameKind)}{n:Nat}{acc:List (Str×Addr)}{p:Str×Addr},p∈acc->p∈cellsFrom n names acc
 | [],_,_,_,h=>h
 |(m,k)::r,n,acc,p,h=>by
  unfold cellsFrom
  split
  ·exact cells_acc (List.mem_cons_of_mem _ h)
  ·exact cells_acc h
theorem cells_has:∀{names:List (Str×NameKind)}{n:Nat}{acc:List (Str×Addr)}{x:Str},(x,.cell)∈names->∃ c,(x,c)∈cellsFrom n names acc
 |(m,k)::r,n,acc,x,h=>by
  unfold cellsFrom
  rcases List.mem_cons.mp h with e|h
  ·cases e
   exact⟨n,cells_acc List.mem_cons_self⟩
  ·split
   ·exact cells_has h
   ·exact cells_has h
theorem cells_inj:∀{names:List (Str×NameKind)}{h:Heap}{acc:List (Str×Addr)}{x y:Str}{c:Addr},(∀ p∈acc,p.2<h.objs.size)->(∀ x y c,(x,c)∈acc->(y,c)∈acc->x=y)->(x,c)∈cellsFrom h.objs.size names acc->(y,c)∈cellsFrom h.objs.size names acc->x=y
 | [],_,_,_,_,_,_,hi,h1,h2=>hi _ _ _ h1 h2
 |(n,k)::r,h,acc,x,y,c,hl,hi,h1,h2=>by
  unfold cellsFrom at h1 h2
  split at h1
  ·rename_i hk
   rw[if_pos hk] at h2
   rw[<-Heap.size_push h { cls:=.type "cell",data:=.cell none }] at h1 h2
   refine cells_inj (h:=h.push _) (fun p hp=>?_) (fun x y c a b=>?_) h1 h2
   ·rw[Heap.size_push]
    rcases List.mem_cons.mp hp with rfl|hp
    ·exact Nat.lt_succ_self _
    ·exact Nat.lt_succ_of_lt (hl p hp)
   ·rcases List.mem_cons.mp a with e|a<;>rcases List.mem_cons.mp b with e'|b
    ·cases e;cases e';rfl
    ·cases e;exact absurd (hl _ b) (Nat.lt_irrefl _)
    ·cases e';exact absurd (hl _ a) (Nat.lt_irrefl _)
    ·exact hi _ _ _ a b
  ·rename_i hk
   rw[if_neg hk] at h2
   exact cells_inj hl hi h1 h2
theorem newEnv_comp{M:Model}{A:Around}{E:Value->Shared->Prop}{s:Shared}{scope:Scope}{globals:Addr}{closure:List (Str×Addr)}{qual:Str}{func:Option Addr}{code:Value}{around:Env}{builtins:Addr}{Q:Env->Shared->Prop}(h:Q (newEnv scope s.heap.objs.size globals (cellsFrom (s.heap.objs.size+1) scope.names closure) qual func code (some around) builtins) { s with heap:=pushCells (s.heap.push { cls:=.type "dict",data:=.dict #[] }) scope.names }):wpAny M A (newFunctionEnv scope globals closure [] qual func code (some around) builtins) Q E s:=by
 simp only[newFunctionEnv,Option.isSome_some,if_true]
 refine wpAny_bind (wpAny_alloc ?_)
 refine wpAny_bind (wpAny_layCells _ (fun n k c=>rfl) scope.names closure _ _ ?_)
 rw[show({ s with heap:=s.heap.push { cls:=.type "dict",data:=.dict #[] } }:Shared).heap.objs.size=s.heap.objs.size+1 from Heap.size_push ..]
 rw[List.forIn_nil]
 exact wpAny_bind (wpAny_pure (wpAny_pure h))
theorem lookup_relS{sc:Scope}:∀{names:List (Str×NameKind)}{x:Str}{k:NameKind},(names.map fun(n,k)=>if (k==NameKind.free&&sc.kind==.function&&sc.names.lookup n==some .cell) then (n,NameKind.cell) else (n,k)).lookup x=some k->∃ k',names.lookup x=some k'/\(k=k'\/(k'=.free/\k=.cell))
 | [],_,_,h=>by simp at h
 |(n,k₀)::r,x,k,h=>by
  have ih:=@lookup_relS sc r x k
  have h':List.lookup x ((if (k₀==NameKind.free&&sc.kind==.function&&sc.names.lookup n==some .cell)=true then (n,NameKind.cell) else (n,k₀))::(r.map _))=some k:=h
  cases hx:x==n with
  |true =>
   simp only[List.lookup_cons,hx]
   by_cases hc:(k₀==NameKind.free&&sc.kind==.function&&sc.names.lookup n==some .cell)=true
   ·rw[if_pos hc] at h'
    simp only[List.lookup_cons,hx] at h'
    cases h'
    simp only[Bool.and_eq_true,beq_iff_eq] at hc
    exact⟨k₀,rfl,.inr ⟨hc.1.1,rfl⟩⟩
   ·rw[if_neg hc] at h'
    simp only[List.lookup_cons,hx] at h'
    cases h'
    exact⟨_,rfl,.inl rfl⟩
  |false =>
   simp only[List.lookup_cons,hx]
   by_cases hc:(k₀==NameKind.free&&sc.kind==.function&&sc.names.lookup n==some .cell)=true
   ·rw[if_pos hc] at h'
    simp only[List.lookup_cons,hx] at h'
    exact ih h'
   ·rw[if_neg hc] at h'
    simp only[List.lookup_cons,hx] at h'
    exact ih h'
end
structure BlkOk(N:List Str)(sc scope:Scope)(own:List (Str×Nat)):Prop where
 kind:scope.kind=.function
 uniq:∀ y∈scope.names,scope.names.lookup y.1=some y.2
 ix:∀ p∈own,N[p.2]?=some p.1
 free:∀ y∈scope.names,y.2=.free->sc.names.lookup y.1=some .cell\/sc.names.lookup y.1=some .free
 own:∀ y∈scope.names,y.2=.local\/y.2=.cell->y.1∈own.map (·.1)\/y.1∉N
def dv(σ:St):List Nat->St
 | []=>σ
 |v::vs=>(dv σ vs).set v none
theorem wipe_length(σ:St):∀ vs:List Nat,(dv σ vs).length=σ.length
 | []=>rfl
 |v::vs=>by unfold dv;rw[List.length_set,wipe_length σ vs]
theorem wipe_some{σ:St}{i:Nat}{x:V}:∀{vs:List Nat},(dv σ vs)[i]?=some (some x)->σ[i]?=some (some x)/\i∉vs
 | [],h=>⟨h,by simp⟩
 |v::vs,h=>by
  unfold dv at h
  by_cases hi:v=i
  ·subst hi
   by_cases hv:v<(dv σ vs).length
   ·rw[List.getElem?_set_self hv] at h;cases h
   ·rw[List.getElem?_eq_none (by simpa using hv)] at h;cases h
  ·rw[List.getElem?_set_ne hi] at h
   obtain⟨h1,h2⟩:=wipe_some h
   exact⟨h1,by simp only[List.mem_cons,not_or];exact⟨fun e=>hi e.symm,h2⟩⟩
abbrev Cx.blk(X:Cx)(s:Shared)(H:Hp)(scope:Scope)(cenv:Env)(fp:List Addr):Cx:={ X with s_0:=s,H_0:=H,env:=cenv,outer:=X.stack,ex:=fp,fn:=fun x=>scope.names.lookup x==some .cell,pn:=[],xe:=fun _ _=>False }
section
variable{X:Cx}{pins:List (Addr×Obj)}{σ:St}{H:Hp}{s:Shared}
theorem block_start{scope:Scope}{own:List (Str×Nat)}{fp:List Addr}(I:Inv X pins σ H s)(ok:BlkOk X.N X.env.scope scope own)(hN:X.N.Nodup)(hfp:∀ b∈fp,FpOk X pins H b/\b<s.heap.objs.size):Inv (X.blk s H scope (compEnvC scope (cellsFrom (s.heap.objs.size+1) scope.names (c6 X.env.cells scope.names [])) s.heap.objs.size X.env) fp) [] (dv σ (own.map (·.2))) H { s with heap:=pushCells (s.heap.push { cls:=.type "dict",data:=.dict #[] }) scope.names }:=by
 have hfree:∀ y∈scope.names,y.2=.free->∃ c,X.env.cells.lookup y.1=some c:=fun y hy e=>by
  rcases ok.free y hy e with k|k
  ·exact I.ok.has _ (.inl k)
  ·exact I.ok.has _ (.inr k)
 generalize hcenv:compEnvC scope (cellsFrom (s.heap.objs.size+1) scope.names (c6 X.env.cells scope.names [])) s.heap.objs.size X.env=cenv
 have kp:∀ b o,s.heap.get? b=some o->(pushCells (s.heap.push { cls:=.type "dict",data:=.dict #[] }) scope.names).get? b=some o:=fun b o e=>pushCells_keeps _ _ _ _ (Heap.get?_push_of_some _ e)
 have hL:cenv.locals=s.heap.objs.size:=by rw[<-hcenv];rfl
 have hcl:cenv.cells=cellsFrom (s.heap.objs.size+1) scope.names (c6 X.env.cells scope.names []):=by rw[<-hcenv];rfl
 have hsc:cenv.scope=relS scope X.env.scope:=by rw[<-hcenv];rfl
 rw[<-Heap.size_push s.heap { cls:=.type "dict",data:=.dict #[] }] at hcl
 have cm:∀{y c},(y,c)∈c6 X.env.cells scope.names []->X.env.cells.lookup y=some c/\c<s.heap.objs.size:=fun{y c} hm=>by
  rcases km hm with hm|⟨h1,rfl⟩
  ·cases hm
  ·obtain⟨c,hc⟩:=hfree _ h1 rfl
   rw[hc]
   obtain⟨w,z⟩:=I.cell _ _ hc
   exact⟨rfl,z.lt⟩
 have mem:∀{y c},cenv.cells.lookup y=some c->(X.env.cells.lookup y=some c/\c<s.heap.objs.size)\/(s.heap.objs.size+1<=c/\CellAt (pushCells (s.heap.push { cls:=.type "dict",data:=.dict #[] }) scope.names) c none):=fun{y c} e=>by
  rw[hcl] at e
  rcases lg (PySem.mem_of_lookup e) with hm|⟨_,h2,h3⟩
  ·exact .inl (cm hm)
  ·rw[Heap.size_push] at h2;exact .inr ⟨h2,h3⟩
 have look:∀{y},scope.names.lookup y=some .free->∃ c,cenv.cells.lookup y=some c/\X.env.cells.lookup y=some c:=fun{y} hl=>by
  have hy:(y,NameKind.free)∈scope.names:=PySem.mem_of_lookup hl
  obtain⟨c',e'⟩:=mem_lookup (cells_acc (names:=scope.names) (n:=(s.heap.push { cls:=.type "dict",data:=.dict #[] }).objs.size) (cloFrom_has (cells:=X.env.cells) (acc:=[]) hy))
  rw[<-hcl] at e'
  refine⟨c',e',?_⟩
  rw[hcl] at e'
  rcases lg (PySem.mem_of_lookup e') with hm|⟨h1,_,_⟩
  ·exact(cm hm).1
  ·have:=ok.uniq _ h1
   rw[hl] at this;cases this
 have okB:(X.blk s H scope cenv fp).Ok:=by
  refine⟨I.ok.mod,by show cenv.scope.kind=_;rw[hsc];exact ok.kind,by show cenv.globals=_;rw[<-hcenv];exact I.ok.glob,by show cenv.builtins=_;rw[<-hcenv];exact I.ok.blt,by show s.heap.objs.size<=cenv.locals;rw[hL];exact Nat.le_refl _,
   fun y z c e1 e2=>?_,fun y hy=>?_,fun y c z e=>?_,I.ok.hd,I.ok.frames,.inl rfl,fun b hb=>⟨?_,fun y c e z=>?_⟩,I.bs,Nat.le_trans I.ok.bsz I.sz,fun b o e hb=>?_,fun b hb z=>?_,I.stack,I.stkFree⟩
  ·have e1:cenv.cells.lookup y=some c:=e1
   have e2:cenv.cells.lookup z=some c:=e2
   rw[hcl] at e1 e2
   refine cells_inj (fun p hp=>?_) (fun y z c a b=>I.ok.inj y z c (cm a).1 (cm b).1) (PySem.mem_of_lookup e1) (PySem.mem_of_lookup e2)
   rw[Heap.size_push]
   exact Nat.lt_succ_of_lt (cm (y:=p.1) (c:=p.2) hp).2
  ·show ∃ c,cenv.cells.lookup y=some c
   have key:∀ k,cenv.kindOf y=some k->(k=.cell\/k=.free)->∃ c,cenv.cells.lookup y=some c:=fun k hk hk'=>by
    unfold Env.kindOf at hk
    rw[hsc] at hk
    obtain⟨k',e,r⟩:=lookup_relS hk
    have:k'=.cell\/k'=.free:=by
     rcases r with rfl|⟨rfl,_⟩
     ·exact hk'
     ·exact .inr rfl
    rcases this with rfl|rfl
    ·obtain⟨c,hm⟩:=cells_has (n:=(s.heap.push { cls:=.type "dict",data:=.dict #[] }).objs.size) (acc:=c6 X.env.cells scope.names []) (PySem.mem_of_lookup e)
     obtain⟨c',e'⟩:=mem_lookup hm
     exact⟨c',by rw[hcl];exact e'⟩
    ·obtain⟨c,h1,_⟩:=look e
     exact⟨c,h1⟩
   rcases hy with hy|hy
   ·exact key _ hy (.inl rfl)
   ·exact key _ hy (.inr rfl)
  ·have z:(scope.names.lookup y==some NameKind.cell)=true:=z
   have z:scope.names.lookup y=some .cell:=by simpa using z
   have e:cenv.cells.lookup y=some c:=e
   rw[hcl] at e
   rcases lg (PySem.mem_of_lookup e) with hm|⟨_,h2,_⟩
   ·rcases km hm with hm|⟨h1,_⟩
    ·cases hm
    ·have q:=ok.uniq _ h1
     rw[z] at q;cases q
   ·rw[Heap.size_push] at h2
    exact Nat.le_of_succ_le h2
  ·show b≠cenv.locals
   rw[hL];exact Nat.ne_of_lt (hfp b hb).2
  ·have e:cenv.cells.lookup y=some c:=e
   rcases mem e with⟨h1,_⟩|⟨h1,_⟩
   ·exact(hfp b hb).1.2.2.2.2.1 y c h1 z
   ·have h2:s.heap.objs.size+1<=b:=by rw[<-z];exact h1
    exact absurd (Nat.lt_of_lt_of_le (hfp b hb).2 (Nat.le_of_succ_le h2)) (Nat.lt_irrefl _)
  ·rcases(hfp b hb).1.2.2.2.1 with z|z
   ·exact I.ok.noex b o e z
   ·exact absurd (Nat.lt_of_lt_of_le (Heap.lt_size e) (Nat.le_trans I.ok.bsz z)) (Nat.lt_irrefl _)
  ·rcases List.mem_cons.mp (I.stkSub b z) with z|z
   ·exact(hfp b hb).1.2.1 z
   ·exact(hfp b hb).1.2.2.1 z
 refine⟨okB,rfl,I.bare,Un.kept kp,⟨fun _=>none,?_,fun i y av e1 e2 e3=>?_⟩,fun y c e=>?_,?_,fun y c e=>?_,fun p hp=>?_,I.hok.kept kp,by rw[wipe_length];exact I.len⟩
 ·show Heap.Ns _ cenv.locals _
  rw[hL]
  exact Heap.Ns.keeps (Heap.Ns.new ..) fun b o e=>pushCells_keeps _ _ _ _ e
 ·obtain⟨e2,hne⟩:=wipe_some e2
  have hfr:scope.names.lookup y=some .free/\(cenv.kindOf y=some .cell\/cenv.kindOf y=some .free):=by
   have key:∀ k,cenv.scope.names.lookup y=some k->k=.local\/k=.cell\/k=.free->scope.names.lookup y=some .free/\(cenv.kindOf y=some .cell\/cenv.kindOf y=some .free):=fun k hk hk'=>by
    have hk0:=hk
    rw[hsc] at hk
    obtain⟨k',e,r⟩:=lookup_relS hk
    have no:¬(k'=.local\/k'=.cell):=fun hh=>by
     rcases ok.own _ (PySem.mem_of_lookup e) hh with e'|e'
     ·obtain⟨p,hp,hpy⟩:=List.mem_map.mp e'
      have e3:=ok.ix p hp
      have:p.1=y:=hpy
      rw[this] at e3
      exact hne (List.mem_map.mpr ⟨p,hp,nodup_ix hN e3 e1⟩)
     ·exact e' (List.mem_of_getElem? e1)
    rcases r with rfl|⟨rfl,rfl⟩
    ·rcases hk' with rfl|rfl|rfl
     ·exact absurd (.inl rfl) no
     ·exact absurd (.inr rfl) no
     ·exact⟨e,.inr hk0⟩
    ·exact⟨e,.inl hk0⟩
   have e3:Vis cenv.scope y:=e3
   rcases e3 with e3|e3|e3
   ·exact key _ e3 (.inl rfl)
   ·exact key _ e3 (.inr (.inl rfl))
   ·exact key _ e3 (.inr (.inr rfl))
  obtain⟨m,hn,hl⟩:=I.loc
  have hvis:Vis X.env.scope y:=(ok.free _ (PySem.mem_of_lookup hfr.1) rfl).elim (fun k=>.inr (.inl k)) (fun k=>.inr (.inr k))
  obtain⟨w,r,q⟩:=hl i y av e1 e2 hvis
  refine⟨w,r,.inr ⟨hfr.2,?_⟩⟩
  obtain⟨c,h1,h2⟩:=look hfr.1
  rcases q with⟨k,_⟩|⟨_,c',e',z⟩
  ·have k:X.env.scope.names.lookup y=some .local:=k
   rcases ok.free _ (PySem.mem_of_lookup hfr.1) rfl with k'|k'<;>rw[show X.env.scope.names.lookup y=_ from k'] at k<;>cases k
  ·rw[h2] at e';cases e'
   exact⟨c,h1,z.keeps kp⟩
 ·have e:cenv.cells.lookup y=some c:=e
  rcases mem e with⟨h1,_⟩|⟨_,z⟩
  ·obtain⟨w,z⟩:=I.cell y c h1
   exact⟨w,z.keeps kp⟩
  ·exact⟨_,z⟩
 ·show H cenv.locals=none
  rw[hL];exact I.hok.fresh (Nat.le_refl _)
 ·have e:cenv.cells.lookup y=some c:=e
  rcases mem e with⟨h1,_⟩|⟨h1,_⟩
  ·exact I.freeC y c h1
  ·exact I.hok.fresh (Nat.le_of_succ_le h1)
 ·exact absurd (show p∈([]:List (Addr×Obj))++[] from hp) (by simp)
theorem app_ok{E:Value->Shared->Prop}{D:Addr}{xs:List V}{y:V}{v:Value}{Q:Value->Shared->Prop}(I:Inv X pins σ H s)(hD:H D=some (.lst xs))(hz:xs.length<sizeLine)(r:RelV y v)(h:∀ s',Inv X pins σ (upd H D (.lst (xs++[y]))) s'->Q .none s'):wpAny (model X.prog X.w) X.A (call (.builtin "list.append") [.ref D,v]) Q E s:=by
 obtain⟨hz',its,n,ri,e⟩:=I.hok D _ hD
 have hl:=ri.length
 refine append_at (hsz:=by rw[List.size_toArray];omega) e fun h' sb ho'=>?_
 refine h { s with heap:=h' } (I.write (t':=s.toks) (by rw[hD];trivial) (.inl rfl) (fun b u hb q=>(sb.2 b hb).trans q) ⟨_,ho'⟩ ⟨by rw[List.length_append];exact hz,its++[v],n+1,ri.append (.cons r .nil),?_⟩)
 rw[ho']
 simp
def PTs(X:Cx)(ifs:List Expr)(t:TT):Prop :=
 ∀(pins:List (Addr×Obj))(s:Shared)(σ:St)(H:Hp)(Q:Bool->Hp->Prop),Inv X pins σ H s->t σ H Q ->
  wpAny (model X.prog X.w) X.A (forIn ifs true fun c r=>if r=true then do let ok <-isTrue c X.env (eval c X.env);pure (ForInStep.yield ok) else pure (ForInStep.yield r)) (TP X pins σ Q) X.xe s
def tYes:TT:=fun _ H Q=>Q true H
theorem jr:PTs X [] tYes:=fun _ _ _ H _ I h=>wpAny_tests_nil ⟨H,I,h⟩
theorem pts_one{c:Expr}{t:TT}(h:PT X c t):PTs X [c] t:=fun pins s σ H Q I hw=>wpAny_tests_one (h pins s σ H Q I hw)
theorem thnF{α:Type}{t:Sem α}{Q Q':α->Shared->Prop}{M:Model}{A:Around}{E:Value->Shared->Prop}{s:Shared}(h:wpAny M A t Q (fun _ _=>False) s)(hQ:∀ a s,Q a s->Q' a s):wpAny M A t Q' E s:=wpAny_mono h hQ fun _ _ z=>False.elim z
theorem compLoop_any{prog:Program}{w:World}{A:Around}{R:Result->Shared->Prop}{s:Shared}{elt target iter:Expr}{ifs:List Expr}{scope:Scope}{pos:Pos}{it acc:Value}{env:Env}(I:Nat->Shared->Prop)(turn:∀ n s,I n s->wpAny (model prog w) A (pyNext it) (fun r s₁=>match r with
   |none=>R (.ok .next) s₁
   |some v=>wpAny (model prog w) A (letOwnedTupleGo target it v) (fun _ s₁'=>wpAny (model prog w) A (assign target env v) (fun _ s₂ =>
    wpAny (model prog w) A (forIn ifs true fun c r=>if r=true then do let ok <-isTrue c env (eval c env);pure (ForInStep.yield ok) else pure (ForInStep.yield r)) (fun ok s₃ =>
     if ok=true then wpAny (model prog w) A (eval elt env) (fun x s₄ =>
      wpAny (model prog w) A (call (.builtin "list.append") [acc,x]) (fun _ s₅=>∃ m,m<n/\I m s₅) (notedBy (model prog w) A env fun e s'=>R (.error e) s') s₄) (notedBy (model prog w) A env fun e s'=>R (.error e) s') s₃
     else ∃ m,m<n/\I m s₃) (notedBy (model prog w) A env fun e s'=>R (.error e) s') s₂) (notedBy (model prog w) A env fun e s'=>R (.error e) s') s₁') (notedBy (model prog w) A env fun e s'=>R (.error e) s') s₁) (notedBy (model prog w) A env fun e s'=>R (.error e) s') s)(n:Nat)(h:I n s) :
  codeAny (model prog w) A (.compLoop (.ListComp elt [⟨target,iter,ifs,0⟩] scope pos) 0 it acc env) R s:=by
 refine codeAny_loop rfl I (fun n s hI=>?_) n h
 show wpAny _ A ((compTurn (.ListComp elt [⟨target,iter,ifs,0⟩] scope pos) 0 it acc env).onRaise (fun x=>do noteFrame x env;theTreesLotGoes x)) _ _ s
 refine wpAny_noted ?_
 rw[compTurn_list]
 refine wpAny_bind (wpAny_standAt (wpAny_bind (wpAny_mono (turn n s hI) (fun r s₁ h₁=>?_) fun _ _ h'=>h')))
 cases r with
 |none=>exact wpAny_pure h₁
 |some v =>
  refine wpAny_bind (wpAny_mono h₁ (fun _ s₁' h₁'=>?_) fun _ _ h'=>h')
  refine wpAny_bind (wpAny_mono h₁' (fun _ s₂ h₂=>wpAny_bind (wpAny_mono h₂ (fun ok s₃ h₃=>?_) fun _ _ h'=>h')) fun _ _ h'=>h')
  cases ok with
  |false=>exact wpAny_pure ⟨rfl,h₃⟩
  |true =>
   exact wpAny_bind (wpAny_bind (wpAny_mono h₃ (fun x s₄ h₄=>wpAny_bind (wpAny_mono h₄ (fun _ s₅ h₅=>wpAny_pure (wpAny_pure ⟨rfl,h₅⟩)) fun _ _ h'=>h')) fun _ _ h'=>h'))
def tLc(wi:TI)(g:TG)(tt:TT)(te:TE)(vs:List Nat):TE:=fun σ H Q=>wi σ H fun J H1=>∀ D,H1 D=none->∃ W:Nat->Nat->Hp->Prop,(∃ m,W 0 m (upd H1 D (.lst [])))/\∀ i m H,W i m H->(J.stop i H/\Q (.ref D) H)\/(J.go i H/\∃ Nx:Hp->Prop,(∀ H',Nx H'->∃ m',m'<m/\W (i+1) m' H')/\∀ x H',J.yld i H x H'->g x (dv σ vs) H' fun σ2 H2=>dv σ2 vs=dv σ vs/\tt σ2 H2 fun b H3 =>
 if b=true then te σ2 H3 fun y H4=>∃ acc,H4 D=some (.lst acc)/\acc.length<sizeLine/\Nx (upd H4 D (.lst (acc++[y]))) else Nx H3)
theorem lc_core{pins:List (Addr×Obj)}{s:Shared}{σ:St}{H:Hp}{Q:VK}{elt tg iter:Expr}{ifs:List Expr}{scope:Scope}{own:List (Str×Nat)}{pos pos':Pos}{wi:TI}{g:TG}{tt:TT}{te:TE}{use:Option (Value->Sem Unit)}{Qf:Value->Shared->Prop}(hc:X.calm=true)(hN:X.N.Nodup)(I:Inv X pins σ H s)(hi:PI X tg iter wi)(ok:BlkOk X.N X.env.scope scope own)(hg:∀(s:Shared)(H:Hp)(C:Addr)(cl:List (Str×Addr))(fp:List Addr),PG (X.blk s H scope (compEnvC scope cl C X.env) fp) tg g)(ht:∀(s:Shared)(H:Hp)(C:Addr)(cl:List (Str×Addr))(fp:List Addr),PTs (X.blk s H scope (compEnvC scope cl C X.env) fp) ifs tt)(he:∀(s:Shared)(H:Hp)(C:Addr)(cl:List (Str×Addr))(fp:List Addr),PE (X.blk s H scope (compEnvC scope cl C X.env) fp) elt te)(hs:∀ x,foldedSetIterable iter X.env x=pure x)(h:tLc wi g tt te (own.map (·.2)) σ H Q)(hRR:∀ D C s' m H',Inv X pins σ H' s'->Q (.ref D) H'->s'.heap.Ns C m->FpOk X pins H' C->compPost (model X.prog X.w) X.A X.xe use Qf (.ref D) C (.ok .next) s'):wpAny (model X.prog X.w) X.A (comprehension (.ListComp elt [⟨tg,iter,ifs,0⟩] scope pos) scope X.env pos' (newList []) false (eval iter X.env) use) Qf X.xe s:=by
 have hfree:∀ y∈scope.names,y.2=.free->∃ c,X.env.cells.lookup y.1=some c:=fun y hy e=>by
  rcases ok.free y hy e with k|k
  ·exact I.ok.has _ (.inl k)
  ·exact I.ok.has _ (.inr k)
 refine wpAny_comprehension_free (use:=use) rfl hs (closure_ok hfree) ok.kind (fun y hy e=>by rw[ok.uniq y hy,e]) (thn (hi pins s σ H _ I h) fun xv s1 hx=>thn hx fun itv s2 h2=>?_)
 obtain⟨it,fp,tn,J,H2,e,I2,T,st2,f2,q⟩:=h2
 subst e
 refine wpAny_newObj_type (newEnv_comp ?_) (by show 0<=sizeLine;decide)
 generalize hD:s2.heap.objs.size=D
 have hDn:H2 D=none:=I2.hok.fresh (Nat.le_of_eq hD)
 obtain⟨W,⟨m0,w0⟩,turn⟩:=q D hDn
 generalize hs3:({ s2 with heap:=s2.heap.push { cls:=.type "list",data:=.seq ([]:List Value).toArray } }:Shared)=s3
 have I3:Inv X pins σ (upd H2 D (.lst [])) s3:=by
  rw[<-hs3]
  refine I2.laid (t':=s2.toks) (fun b o e=>Heap.get?_push_of_some _ e) (Nat.le_of_eq hD) ⟨Nat.zero_le _,[],0,.nil,?_⟩
  rw[<-hD]
  exact Heap.get?_push_size _ rfl
 have h3:s3.heap=s2.heap.push { cls:=.type "list",data:=.seq ([]:List Value).toArray }:=by rw[<-hs3]
 have sz:∀ b∈fp,b<s2.heap.objs.size:=fun b hb=>by
  obtain⟨o,e,_⟩:=T.obj _ _ st2 b hb
  exact Heap.lt_size e
 have f3:∀ b∈fp,FpOk X pins (upd H2 D (.lst [])) b/\b<s3.heap.objs.size:=fun b hb=>by
  have hlt:=sz b hb
  refine⟨⟨?_,(f2 b hb).2⟩,by rw[h3,Heap.size_push];exact Nat.lt_succ_of_lt hlt⟩
  rw[ai (by rw[<-hD];exact Nat.ne_of_lt hlt)]
  exact(f2 b hb).1
 have st3:tn 0 s3.heap:=T.keep _ _ _ st2 fun b _ o e=>by rw[h3];exact Heap.get?_push_of_some _ e
 have I4:=block_start I3 ok hN f3
 have pg:=hg s3 (upd H2 D (.lst [])) s3.heap.objs.size (cellsFrom (s3.heap.objs.size+1) scope.names (c6 X.env.cells scope.names [])) fp
 have pt:=ht s3 (upd H2 D (.lst [])) s3.heap.objs.size (cellsFrom (s3.heap.objs.size+1) scope.names (c6 X.env.cells scope.names [])) fp
 have pe:=he s3 (upd H2 D (.lst [])) s3.heap.objs.size (cellsFrom (s3.heap.objs.size+1) scope.names (c6 X.env.cells scope.names [])) fp
 show codeAny _ _ (.compStart (.ListComp elt [⟨tg,iter,ifs,0⟩] scope pos) 0 (.ref it) (.ref D) (compEnvC scope (cellsFrom (s3.heap.objs.size+1) scope.names (c6 X.env.cells scope.names [])) s3.heap.objs.size X.env)) (compPost (model X.prog X.w) X.A X.xe use Qf (.ref D) s3.heap.objs.size) { s3 with heap:=pushCells (s3.heap.push { cls:=.type "dict",data:=.dict #[] }) scope.names }
 have nfp:∀ b∈fp,(upd H2 D (.lst [])) b=none:=fun b hb=>(f3 b hb).1.1
 generalize hce:compEnvC scope (cellsFrom (s3.heap.objs.size+1) scope.names (c6 X.env.cells scope.names [])) s3.heap.objs.size X.env=ce at I4 pg pt pe ⊢
 have cL:ce.locals=s3.heap.objs.size:=by subst hce;rfl
 generalize hH3:upd H2 D (.lst [])=H3 at I3 I4 pg pt pe w0 nfp f3
 generalize hs4:({ s3 with heap:=pushCells (s3.heap.push { cls:=.type "dict",data:=.dict #[] }) scope.names }:Shared)=s4 at I4 ⊢
 have st4:tn 0 s4.heap:=T.keep _ _ _ st3 fun b _ o e=>by rw[<-hs4];exact pushCells_keeps _ _ _ _ (Heap.get?_push_of_some _ e)
 have stat:∀{σ':St}{H':Hp}{s':Shared},Inv (X.blk s3 H3 scope ce fp) [] σ' H' s'->(∀ b∈fp,H' b=none)->∀ b∈fp,FpOk (X.blk s3 H3 scope ce fp) [] H' b:=fun{σ' H' s'} I' hn b hb =>
  ⟨hn b hb,(I'.ok.exf b hb).1,I'.ok.exfs b hb,.inl hb,fun x c e=>(I'.ok.exf b hb).2 x c e,fun p hp=>absurd (show p∈([]:List (Addr×Obj))++[] from hp) (by simp)⟩
 have loop:codeAny (model X.prog X.w) X.A (.compLoop (.ListComp elt [⟨tg,iter,ifs,0⟩] scope pos) 0 (.ref it) (.ref D) ce) (compPost (model X.prog X.w) X.A X.xe use Qf (.ref D) s3.heap.objs.size) s4:=by
  refine compLoop_any (fun n s'=>∃ i H',Inv (X.blk s3 H3 scope ce fp) [] (dv σ (own.map (·.2))) H' s'/\tn i s'.heap/\(∀ b∈fp,H' b=none)/\W i n H') ?_ m0 ⟨0,H3,I4,st4,nfp,w0⟩
  rintro n s5 ⟨i,H5,I5,st5,n5,w5⟩
  rcases turn i n H5 w5 with⟨stop,qq⟩|⟨go,Nx,hNx,step⟩
  ·have td:=T.done (X.blk s3 H3 scope ce fp) rfl rfl rfl hc i [] s5 _ H5 (fun _ _=>False) I5 (stat I5 n5) st5 stop
   refine thnF td fun r s6 ⟨hr,I6⟩=>?_
   subst hr
   have I7:Inv X pins σ H5 s6:=I3.call' (ch:=fp) I6.os I6.base I6.hok I6.bare fun b hb=>⟨(f3 b hb).1.2.2.2.1,(f3 b hb).1.2.1,(f3 b hb).1.2.2.2.2.1,(f3 b hb).1.2.2.2.2.2⟩
   have nC:H5 s3.heap.objs.size=none:=by
    have z:H5 ce.locals=none:=I6.free
    rw[cL] at z
    exact z
   obtain⟨m,hn,_⟩:=I6.loc
   have hn:s6.heap.Ns ce.locals m:=hn
   rw[cL] at hn
   exact hRR D s3.heap.objs.size s6 m H5 I7 qq hn (I3.fpOk (Nat.le_refl _) nC)
  ·have ti:=T.item (X.blk s3 H3 scope ce fp) rfl rfl rfl hc i [] s5 _ H5 (fun _ _=>False) I5 (stat I5 n5) st5 go
   refine thnF ti fun r s6 ⟨u,hr,h6⟩=>?_
   subst hr
   refine thnF h6 fun _ s7 ⟨x,H7,I7,r7,y7,st7,n7⟩=>?_
   have I7':=I7.pinned (stat I7 n7) (T.obj _ _ st7)
   refine thnF (pg _ s7 _ H7 x u _ I7' r7 (step x H7 y7)) fun _ s8 ⟨σ8,H8,I8,hw8,q8⟩=>?_
   refine thnF (pt _ s8 σ8 H8 _ I8 q8) fun b s9 ⟨H9,I9,q9⟩=>?_
   have fin:∀{s':Shared}{H':Hp},Inv (X.blk s3 H3 scope ce fp) ([]++pinsAt fp s7.heap) σ8 H' s'->Nx H'->∃ m,m<n/\∃ i H',Inv (X.blk s3 H3 scope ce fp) [] (dv σ (own.map (·.2))) H' s'/\tn i s'.heap/\(∀ b∈fp,H' b=none)/\W i m H':=fun{s' H'} I' nx=>by
    obtain⟨m',hm,w'⟩:=hNx H' nx
    have pin':∀ b∈fp,∀ o,s7.heap.get? b=some o->s'.heap.get? b=some o/\H' b=none:=fun b hb o e =>
     let z:=I'.pin (b,o) (List.mem_append_right _ (List.mem_append_right _ (mem_pinsAt hb e)))
     ⟨z.1,z.2.1⟩
    have hl:(dv σ (own.map (·.2))).length=σ8.length:=by rw[<-hw8,wipe_length]
    refine⟨m',hm,i+1,H',(I'.unpinned (pins:=[])).weak hl (fun j v e=>?_),T.keep _ _ _ st7 fun b hb o e=>(pin' b hb o e).1,fun b hb=>?_,w'⟩
    ·rw[<-hw8] at e
     exact(wipe_some e).1
    ·obtain⟨o,e,_⟩:=T.obj _ _ st7 b hb
     exact(pin' b hb o e).2
   cases b with
   |false =>
    simp only[Bool.false_eq_true,if_false] at q9 ⊢
    exact fin I9 q9
   |true =>
    simp only[if_true] at q9 ⊢
    refine thnF (pe _ s9 σ8 H9 _ I9 q9) fun z s10 ⟨yv,H10,I10,r10,acc,hD10,hz10,nx⟩=>?_
    exact app_ok (X:=X.blk s3 H3 scope ce fp) I10 hD10 hz10 r10 fun s11 I11=>fin I11 nx
 exact codeAny_compStart_list loop (T.self X.A 0 _ _ _ st4 loop)
theorem pe_lc{elt tg iter:Expr}{ifs:List Expr}{scope:Scope}{own:List (Str×Nat)}{pos:Pos}{wi:TI}{g:TG}{tt:TT}{te:TE}(hc:X.calm=true)(hN:X.N.Nodup)(hi:PI X tg iter wi)(ok:BlkOk X.N X.env.scope scope own)(hg:∀(s:Shared)(H:Hp)(C:Addr)(cl:List (Str×Addr))(fp:List Addr),PG (X.blk s H scope (compEnvC scope cl C X.env) fp) tg g)(ht:∀(s:Shared)(H:Hp)(C:Addr)(cl:List (Str×Addr))(fp:List Addr),PTs (X.blk s H scope (compEnvC scope cl C X.env) fp) ifs tt)(he:∀(s:Shared)(H:Hp)(C:Addr)(cl:List (Str×Addr))(fp:List Addr),PE (X.blk s H scope (compEnvC scope cl C X.env) fp) elt te)(hs:∀ x,foldedSetIterable iter X.env x=pure x:=by intro _;rfl):PE X (.ListComp elt [⟨tg,iter,ifs,0⟩] scope pos) (tLc wi g tt te (own.map (·.2))):=by
 intro pins s σ H Q I h
 rw[eval_ListComp]
 refine lc_core hc hN I hi ok hg ht he hs h fun D C s' m H' I' q hn f=>⟨m,hn,fun h'' sb=>?_⟩
 obtain⟨f0,f1,f2,f3,f4,f5⟩:=f
 exact⟨.ref D,H',I'.turned (t':=s'.toks) (fun b o hb e=>(sb.2 b hb).trans e) f0 f1 f3 f4 f5,rfl,q⟩
theorem ps_setLc{i:Nat}{y:Str}{py:Pos}{elt tg iter:Expr}{ifs:List Expr}{scope:Scope}{own:List (Str×Nat)}{pos spos:Pos}{wi:TI}{g:TG}{tt:TT}{te:TE}(hc:X.calm=true)(hN:X.N.Nodup)(hy:X.N[i]?=some y)(hyl:X.env.scope.names.lookup y=some .local)(hsw:swapsWith (.ListComp elt [⟨tg,iter,ifs,0⟩] scope pos) (some (.Name y py)) spos.line X.env=pure true)(hi:PI X tg iter wi)(ok:BlkOk X.N X.env.scope scope own)(hg:∀(s:Shared)(H:Hp)(C:Addr)(cl:List (Str×Addr))(fp:List Addr),PG (X.blk s H scope (compEnvC scope cl C X.env) fp) tg g)(ht:∀(s:Shared)(H:Hp)(C:Addr)(cl:List (Str×Addr))(fp:List Addr),PTs (X.blk s H scope (compEnvC scope cl C X.env) fp) ifs tt)(he:∀(s:Shared)(H:Hp)(C:Addr)(cl:List (Str×Addr))(fp:List Addr),PE (X.blk s H scope (compEnvC scope cl C X.env) fp) elt te)(hs:∀ x,foldedSetIterable iter X.env x=pure x:=by intro _;rfl) :
  PS X (.Assign [.Name y py] (.ListComp elt [⟨tg,iter,ifs,0⟩] scope pos) spos) (tAsg (tLc wi g tt te (own.map (·.2))) (gName i)):=by
 intro pins s σ H D I h
 rw[exec_Assign_Name_used _ _ _ _ hsw]
 refine wpAny_bind (wpAny_standAt (wpAny_bind ?_))
 show wpAny _ X.A (do let _ <-comprehension (.ListComp elt [⟨tg,iter,ifs,0⟩] scope pos) scope X.env (firstIterPos [⟨tg,iter,ifs,0⟩] pos) (newList []) false (eval iter X.env) (some (assign (.Name y py) X.env))) _ _ s
 have h:tLc wi g tt te (own.map (·.2)) σ H (fun x H1=>gName i x σ H1 D.nx):=h
 refine wpAny_bind (thn (lc_core (Qf:=fun _ s'=>SP X pins D .next s') hc hN I hi ok hg ht he hs h fun L C s' m H' I' q hn f=>?_) fun _ s' hq=>wpAny_pure (wpAny_pure hq))
 show wpAny _ _ (assign (.Name y py) X.env (.ref L)) _ _ _
 refine wpAny_assign_Name (store_ok2 (v:=V.ref L) I' hN hy (.inl hyl) rfl (fun s2 I2 ⟨a,sb,ha⟩=>?_) (.inr hyl))
 obtain⟨f0,f1,f2,f3,f4,f5⟩:=f
 have haC:C≠a:=by
  rcases ha with z|z
  ·rw[z];exact f1
  ·exact fun e=>f4 y a z e.symm
 refine⟨m,hn.sameBut sb haC,fun h3 sb3=>?_⟩
 exact⟨_,H',I2.turned (t':=s2.toks) (fun b o hb e=>(sb3.2 b hb).trans e) f0 f1 f3 f4 f5,q⟩
theorem sw_true{elt:Expr}{gs:List Comprehension}{scope:Scope}{pos py:Pos}{y:Str}{l:Nat}{env:Env}(hk:env.scope.kind=.function)(hy:env.scope.names.lookup y=some .local)(hl:(py.line==pos.line)=true)(ha:(scope.names.any fun(n,k)=>n==y&&(k==.local || k==.cell))=false):swapsWith (.ListComp elt gs scope pos) (some (.Name y py)) l env=pure true:=by
 have ky:env.kindOf y=some .local:=hy
 have hb:env.blockKind=.function:=by unfold Env.blockKind;rw[hk];rfl
 unfold swapsWith
 simp only[hb,ky,ha,Expr.pos,hl]
 rfl
theorem lc_range{lo:Int}{n:Nat}{g:TG}{tt:TT}{te:TE}{vs:List Nat}{σ:St}{H1:Hp}{D:Addr}{Qd:Hp->Prop}(Pv:Nat->Hp->Prop)(h0:Pv 0 (upd H1 D (.lst [])))(hs:∀ i H,i<n->Pv i H->g (.int (lo+i)) (dv σ vs) H fun σ2 H2=>dv σ2 vs=dv σ vs/\tt σ2 H2 fun b H3 =>
   if b=true then te σ2 H3 fun y H4=>∃ acc,H4 D=some (.lst acc)/\acc.length<sizeLine/\Pv (i+1) (upd H4 D (.lst (acc++[y]))) else Pv (i+1) H3)(hd:∀ H,Pv n H->Qd H):∃ W:Nat->Nat->Hp->Prop,(∃ m,W 0 m (upd H1 D (.lst [])))/\∀ i m H,W i m H->((Itr lo n).stop i H/\Qd H)\/((Itr lo n).go i H/\∃ Nx:Hp->Prop,(∀ H',Nx H'->∃ m',m'<m/\W (i+1) m' H')/\∀ x H',(Itr lo n).yld i H x H'->g x (dv σ vs) H' fun σ2 H2=>dv σ2 vs=dv σ vs/\tt σ2 H2 fun b H3 =>
    if b=true then te σ2 H3 fun y H4=>∃ acc,H4 D=some (.lst acc)/\acc.length<sizeLine/\Nx (upd H4 D (.lst (acc++[y]))) else Nx H3):=by
 refine⟨fun i m H=>m=n-i/\i<=n/\Pv i H,⟨n,by simp,Nat.zero_le _,h0⟩,?_⟩
 rintro i m H ⟨rfl,hi,p⟩
 by_cases hlt:i<n
 ·refine .inr ⟨hlt,Pv (i+1),fun H' p'=>⟨n-(i+1),by omega,rfl,hlt,p'⟩,fun x H' y=>?_⟩
  obtain⟨e,y⟩:=y
  subst e y
  exact hs i _ hlt p
 ·have e:i=n:=by omega
  subst e
  exact .inl ⟨Nat.le_refl _,hd H p⟩
theorem lc_list{K:PySem.W.Frag}{a:Addr}{xs:List V}{g:TG}{tt:TT}{te:TE}{vs:List Nat}{σ:St}{H1:Hp}{D:Addr}{Qd:Hp->Prop}(Pv:Nat->Hp->Prop)(h0:Pv 0 (upd H1 D (.lst [])))(hl:∀ i H,i<=xs.length->Pv i H->SqL K H a xs)(hs:∀ i x H,xs[i]?=some x->Pv i H->g x (dv σ vs) H fun σ2 H2=>dv σ2 vs=dv σ vs/\tt σ2 H2 fun b H3 =>
   if b=true then te σ2 H3 fun y H4=>∃ acc,H4 D=some (.lst acc)/\acc.length<sizeLine/\Pv (i+1) (upd H4 D (.lst (acc++[y]))) else Pv (i+1) H3)(hd:∀ H,Pv xs.length H->Qd H):∃ W:Nat->Nat->Hp->Prop,(∃ m,W 0 m (upd H1 D (.lst [])))/\∀ i m H,W i m H->((Itl K a).stop i H/\Qd H)\/((Itl K a).go i H/\∃ Nx:Hp->Prop,(∀ H',Nx H'->∃ m',m'<m/\W (i+1) m' H')/\∀ x H',(Itl K a).yld i H x H'->g x (dv σ vs) H' fun σ2 H2=>dv σ2 vs=dv σ vs/\tt σ2 H2 fun b H3 =>
    if b=true then te σ2 H3 fun y H4=>∃ acc,H4 D=some (.lst acc)/\acc.length<sizeLine/\Nx (upd H4 D (.lst (acc++[y]))) else Nx H3):=by
 refine⟨fun i m H=>m=xs.length-i/\i<=xs.length/\Pv i H,⟨xs.length,by simp,Nat.zero_le _,h0⟩,?_⟩
 rintro i m H ⟨rfl,hi,p⟩
 have q:=hl i H hi p
 by_cases hlt:i<xs.length
 ·refine .inr ⟨⟨xs,xs[i],q,by simp[hlt]⟩,Pv (i+1),fun H' p'=>⟨xs.length-(i+1),by omega,rfl,hlt,p'⟩,fun x H' y=>?_⟩
  obtain⟨e,y⟩:=y
  subst e
  exact hs i x _ (y xs q) p
 ·have e:i=xs.length:=by omega
  subst e
  exact .inl ⟨⟨xs,q,Nat.le_refl _⟩,hd H p⟩
theorem lc_tup{K:PySem.W.Frag}{a:Addr}{xs:List V}{g:TG}{tt:TT}{te:TE}{vs:List Nat}{σ:St}{H1:Hp}{D:Addr}{Qd:Hp->Prop}(Pv:Nat->Hp->Prop)(h0:Pv 0 (upd H1 D (.lst [])))(hl:∀ i H,i<=xs.length->Pv i H->SqT K H a xs)(hs:∀ i x H,xs[i]?=some x->Pv i H->g x (dv σ vs) H fun σ2 H2=>dv σ2 vs=dv σ vs/\tt σ2 H2 fun b H3 =>
   if b=true then te σ2 H3 fun y H4=>∃ acc,H4 D=some (.lst acc)/\acc.length<sizeLine/\Pv (i+1) (upd H4 D (.lst (acc++[y]))) else Pv (i+1) H3)(hd:∀ H,Pv xs.length H->Qd H):∃ W:Nat->Nat->Hp->Prop,(∃ m,W 0 m (upd H1 D (.lst [])))/\∀ i m H,W i m H->((Itt K a).stop i H/\Qd H)\/((Itt K a).go i H/\∃ Nx:Hp->Prop,(∀ H',Nx H'->∃ m',m'<m/\W (i+1) m' H')/\∀ x H',(Itt K a).yld i H x H'->g x (dv σ vs) H' fun σ2 H2=>dv σ2 vs=dv σ vs/\tt σ2 H2 fun b H3 =>
    if b=true then te σ2 H3 fun y H4=>∃ acc,H4 D=some (.lst acc)/\acc.length<sizeLine/\Nx (upd H4 D (.lst (acc++[y]))) else Nx H3):=by
 refine⟨fun i m H=>m=xs.length-i/\i<=xs.length/\Pv i H,⟨xs.length,by simp,Nat.zero_le _,h0⟩,?_⟩
 rintro i m H ⟨rfl,hi,p⟩
 have q:=hl i H hi p
 by_cases hlt:i<xs.length
 ·refine .inr ⟨⟨xs,xs[i],q,by simp[hlt]⟩,Pv (i+1),fun H' p'=>⟨xs.length-(i+1),by omega,rfl,hlt,p'⟩,fun x H' y=>?_⟩
  obtain⟨e,y⟩:=y
  subst e
  exact hs i x _ (y xs q) p
 ·have e:i=xs.length:=by omega
  subst e
  exact .inl ⟨⟨xs,q,Nat.le_refl _⟩,hd H p⟩
def blkC(N:List Str)(sc scope:Scope)(own:List (Str×Nat)):Bool:=(match scope.kind with | .function=>true|_=>false)&&(scope.names.all fun y=>decide (scope.names.lookup y.1=some y.2))&&(own.all fun p=>decide (N[p.2]?=some p.1))&&(scope.names.all fun y=>match y.2 with
 |.free=>(match sc.names.lookup y.1 with|some .cell=>true|some .free=>true|_=>false)
 |.local=>decide (y.1∈own.map (·.1)) || decide (y.1∉N)
 |.cell=>decide (y.1∈own.map (·.1)) || decide (y.1∉N)
 |_=>true)
theorem gk{N:List Str}{sc scope:Scope}{own:List (Str×Nat)}(h:blkC N sc scope own=true):BlkOk N sc scope own:=by
 unfold blkC at h
 simp only[Bool.and_eq_true,List.all_eq_true,decide_eq_true_eq] at h
 obtain⟨⟨⟨h1,h2⟩,h3⟩,h4⟩:=h
 refine⟨?_,h2,h3,fun y hy e=>?_,fun y hy e=>?_⟩
 ·split at h1
  ·assumption
  ·cases h1
 ·have q:=h4 y hy
  simp only[e] at q
  split at q<;>first|exact .inl (by assumption)|exact .inr (by assumption)|cases q
 ·have q:=h4 y hy
  rcases e with e|e<;>(simp only[e,Bool.or_eq_true,decide_eq_true_eq] at q;exact q)
end
section
variable{κ:Type}[DecidableEq κ]
def valV(kvs:List (κ×V))(k:κ):Option V:=(kvs.find? fun kv=>decide (kv.1=k)).map (·.2)
def j9(kvs:List (κ×V))(k:κ)(v:V):List (κ×V):=if (kvs.any fun kv=>decide (kv.1=k))=true then kvs.map (fun kv=>if kv.1=k then (kv.1,v) else kv) else kvs++[(k,v)]
theorem valV_nil{k:κ}:valV ([]:List (κ×V)) k=none:=rfl
theorem gb{p:κ×V}{r:List (κ×V)}{k:κ}(e:p.1=k):valV (p::r) k=some p.2:=by simp[valV,List.find?_cons,e]
theorem f8{p:κ×V}{r:List (κ×V)}{k:κ}(e:¬ p.1=k):valV (p::r) k=valV r k:=by simp[valV,List.find?_cons,e]
theorem valV_any(k:κ):∀ kvs:List (κ×V),(kvs.any fun kv=>decide (kv.1=k))=(valV kvs k).isSome
 | []=>rfl
 |p::r=>by
  rw[List.any_cons]
  by_cases e:p.1=k
  ·simp only[gb e,decide_eq_true e,Bool.true_or,Option.isSome_some]
  ·rw[f8 e,decide_eq_false e,Bool.false_or];exact valV_any k r
theorem valV_map(k j:κ)(y:V):∀ kvs:List (κ×V),valV (kvs.map fun kv=>if kv.1=k then (kv.1,y) else kv) j=(valV kvs j).map fun x=>if j=k then y else x
 | []=>rfl
 |p::r=>by
  have ih:=valV_map k j y r
  rw[List.map_cons]
  by_cases h:p.1=k
  ·rw[if_pos h]
   by_cases e:p.1=j
   ·rw[gb (p:=(p.1,y)) e,gb e,Option.map_some,if_pos (e.symm.trans h)]
   ·rw[f8 (p:=(p.1,y)) e,f8 e,ih]
  ·rw[if_neg h]
   by_cases e:p.1=j
   ·rw[gb (p:=p) e,gb e,Option.map_some,if_neg (fun z=>h (e.trans z))]
   ·rw[f8 (p:=p) e,f8 e,ih]
theorem valV_snoc(k j:κ)(y:V):∀ kvs:List (κ×V),valV kvs k=none->valV (kvs++[(k,y)]) j=if j=k then some y else valV kvs j
 | [],_=>by
  by_cases e:k=j
  ·rw[if_pos e.symm];exact gb (p:=(k,y)) e
  ·rw[if_neg (fun z=>e z.symm)];exact f8 (p:=(k,y)) e
 |p::r,hn=>by
  rw[List.cons_append]
  have hk:¬ p.1=k:=fun z=>by rw[gb z] at hn;cases hn
  rw[f8 hk] at hn
  have ih:=valV_snoc k j y r hn
  by_cases e:p.1=j
  ·rw[gb e,gb e,if_neg (fun z=>hk (e.trans z))]
  ·rw[f8 e,f8 e,ih]
theorem l8(kvs:List (κ×V))(k j:κ)(y:V):valV (j9 kvs k y) j=if j=k then some y else valV kvs j:=by
 unfold j9
 by_cases a:(kvs.any fun kv=>decide (kv.1=k))=true
 ·rw[if_pos a,valV_map]
  rw[valV_any] at a
  by_cases e:j=k
  ·obtain⟨x,hx⟩:=Option.isSome_iff_exists.mp a
   rw[if_pos e,e,hx,Option.map_some,if_pos rfl]
  ·rw[if_neg e]
   cases valV kvs j with
   |none=>rfl
   |some x=>rw[Option.map_some,if_neg e]
 ·rw[if_neg a]
  refine valV_snoc k j y kvs ?_
  rw[valV_any] at a
  cases q:valV kvs k with
  |none=>rfl
  |some x=>rw[q] at a;exact(a rfl).elim
theorem jg(kvs:List (κ×V))(k:κ)(v:V):(j9 kvs k v).length<=kvs.length+1:=by
 unfold j9
 split
 ·rw[List.length_map];omega
 ·rw[List.length_append,List.length_cons,List.length_nil];omega
theorem putK_new{kvs:List (κ×V)}{k:κ}(v:V)(h:valV kvs k=none):j9 kvs k v=kvs++[(k,v)]:=by
 unfold j9
 rw[valV_any,h]
 exact if_neg (by decide)
theorem k8.isSome_eq{o:Option V}{u:Option Value}(r:k8 o u):o.isSome=u.isSome:=by
 cases o with
 |none=>cases u with
  |none=>rfl
  |some _=>exact(show False from r).elim
 |some _=>cases u with
  |none=>exact(show False from r).elim
  |some _=>rfl
theorem k8.getD{o:Option V}{u:Option Value}{d:V}{d':Value}(r:k8 o u)(rd:RelV d d'):RelV (o.getD d) (u.getD d'):=by
 cases o with
 |none=>cases u with
  |none=>exact rd
  |some _=>exact(show False from r).elim
 |some _=>cases u with
  |none=>exact(show False from r).elim
  |some _=>exact r
theorem KV.val{kvs:List (κ×V)}{vs:List (κ×Value)}(r:KV kvs vs)(k:κ):k8 (valV kvs k) (valueAt vs k):=by
 unfold KV at r
 induction r with
 |nil=>exact True.intro
 | @cons p q ps qs h t ih =>
  obtain⟨h1,h2⟩:=h
  by_cases e:p.1=k
  ·have e':q.1=k:=h1.symm.trans e
   have b:valueAt (q::qs) k=some q.2:=by simp[valueAt,List.find?_cons,e']
   rw[gb e,b];exact h2
  ·have e':¬ q.1=k:=fun z=>e (h1.trans z)
   have b:valueAt (q::qs) k=valueAt qs k:=by simp[valueAt,List.find?_cons,e']
   rw[f8 e,b];exact ih
theorem KV.any{kvs:List (κ×V)}{vs:List (κ×Value)}(r:KV kvs vs)(k:κ):(kvs.any fun kv=>decide (kv.1=k))=vs.any fun kv=>decide (kv.1=k):=by
 unfold KV at r
 induction r with
 |nil=>rfl
 |cons h t ih=>rw[List.any_cons,List.any_cons,ih,h.1]
theorem KV.repl{kvs:List (κ×V)}{vs:List (κ×Value)}(r:KV kvs vs)(k:κ){y:V}{u:Value}(ry:RelV y u):KV (kvs.map fun kv=>if kv.1=k then (kv.1,y) else kv) (vs.map fun kv=>if kv.1=k then (kv.1,u) else kv):=by
 unfold KV at r ⊢
 induction r with
 |nil=>exact .nil
 | @cons p q ps qs h t ih =>
  rw[List.map_cons,List.map_cons]
  refine .cons ?_ ih
  obtain⟨h1,h2⟩:=h
  by_cases e:p.1=k
  ·rw[if_pos e,if_pos (h1.symm.trans e)];exact⟨h1,ry⟩
  ·rw[if_neg e,if_neg (fun z=>e (h1.trans z))];exact⟨h1,h2⟩
theorem KV.put{kvs:List (κ×V)}{vs:List (κ×Value)}(r:KV kvs vs)(k:κ){y:V}{u:Value}(ry:RelV y u):KV (j9 kvs k y) (stored vs k u):=by
 unfold j9 stored
 rw[r.any k]
 by_cases e:(vs.any fun kv=>decide (kv.1=k))=true
 ·rw[if_pos e,if_pos e];exact r.repl k ry
 ·rw[if_neg e,if_neg e];exact Paired.snoc r ⟨rfl,ry⟩
theorem KV.length{kvs:List (κ×V)}{vs:List (κ×Value)}(r:KV kvs vs):kvs.length=vs.length:=Paired.length r
end
theorem kV_is{P:Program}{w:World}{k:Key}{u:Value}(r:RelV (kV k) u):(fh P w).is k u=true:=by
 cases k with
 |inl i=>obtain⟨t,e⟩:=(show ∃ t,u=Value.int i t from r);subst e;exact mixKind_int P w i t
 |inr x=>obtain⟨t,e⟩:=(show ∃ t,u=Value.str x t from r);subst e;exact mixKind_str P w x t
theorem items_are{P:Program}{w:World}:∀{ks:List Key}{us:List Value},bh (ks.map kV) us->ItemsAre (fh P w) ks us
 | [],_,r=>by rw[List.map_nil] at r;cases r;exact .nil
 |k::ks,_,r=>by
  rw[List.map_cons] at r
  cases r with
  |cons h t=>exact .cons (kV_is h) (items_are t)
abbrev KT(H:Hp):List (List Key×V)->List (List Key×Addr×Value)->Prop:=Paired fun p q=>p.1=q.1/\H q.2.1=some (.tup (p.1.map kV))/\RelV p.2 q.2.2
theorem KT.val{H:Hp}{kvs:List (List Key×V)}{xs:List (List Key×Addr×Value)}(r:KT H kvs xs)(k:List Key):k8 (valV kvs k) ((atKey xs k).map (·.2)):=by
 induction r with
 |nil=>exact True.intro
 | @cons p q ps qs h t ih =>
  obtain⟨h1,_,h2⟩:=h
  by_cases e:p.1=k
  ·have e':q.1=k:=h1.symm.trans e
   have b:atKey (q::qs) k=some q.2:=by simp[atKey,List.find?_cons,e']
   rw[gb e,b];exact h2
  ·have e':¬ q.1=k:=fun z=>e (h1.trans z)
   have b:atKey (q::qs) k=atKey qs k:=by simp[atKey,List.find?_cons,e']
   rw[f8 e,b];exact ih
theorem KT.repl{H:Hp}{kvs:List (List Key×V)}{xs:List (List Key×Addr×Value)}(r:KT H kvs xs)(k:List Key){y:V}{u:Value}(ry:RelV y u):KT H (kvs.map fun kv=>if kv.1=k then (kv.1,y) else kv) (xs.map (putAt k u)):=by
 induction r with
 |nil=>exact .nil
 | @cons p q ps qs h t ih =>
  rw[List.map_cons,List.map_cons]
  refine .cons ?_ ih
  obtain⟨h1,h2,h3⟩:=h
  unfold putAt
  by_cases e:p.1=k
  ·rw[if_pos e,if_pos (h1.symm.trans e)];exact⟨h1,h2,ry⟩
  ·rw[if_neg e,if_neg (fun z=>e (h1.trans z))];exact⟨h1,h2,h3⟩
theorem KT.put{H:Hp}{kvs:List (List Key×V)}{xs:List (List Key×Addr×Value)}(r:KT H kvs xs)(k:List Key){b:Addr}{y:V}{u:Value}(hb:H b=some (.tup (k.map kV)))(ry:RelV y u):KT H (j9 kvs k y) (storedH xs k b u):=by
 have e:(kvs.any fun kv=>decide (kv.1=k))=(atKey xs k).isSome:=by
  rw[valV_any,(r.val k).isSome_eq,Option.isSome_map]
 unfold j9 storedH
 rw[e]
 by_cases q:(atKey xs k).isSome=true
 ·rw[if_pos q,if_pos q];exact r.repl k ry
 ·rw[if_neg q,if_neg q];exact Paired.snoc r ⟨rfl,hb,ry⟩
theorem KT.keeps{H H':Hp}{kvs:List (List Key×V)}{xs:List (List Key×Addr×Value)}(r:KT H kvs xs)(ht:∀ b ys,H b=some (.tup ys)->H' b=some (.tup ys)):KT H' kvs xs:=Paired.mapP r fun _ _ z=>⟨z.1,ht _ _ z.2.1,z.2.2⟩
section
variable{P:Program}{w:World}{H:Hp}{h:Heap}{a:Addr}
theorem rd_of{u:HO}(ok:HOk P w H h)(e:Rd H a u):di P w H h a u:=e.ok ok
theorem dk_rd{kvs:List (Key×V)}(ok:HOk P w H h)(e:Rd H a (.dK kvs)):kvs.length<=sizeLine/\(a==sysModules)=false/\∃ vs,KV kvs vs/\h.DictOf (fh P w) a vs:=show di P w H h a (.dK kvs) from rd_of ok e
theorem dk_of{kvs:List (Key×V)}(ok:HOk P w H h)(e:H a=some (.dK kvs)):kvs.length<=sizeLine/\(a==sysModules)=false/\∃ vs,KV kvs vs/\h.DictOf (fh P w) a vs:=dk_rd ok (.inl e)
theorem key_of{ks:List Key}(ok:HOk P w H h)(e:H a=some (.tup (ks.map kV))):(tupleKind (fh P w)).is h ks a:=by
 obtain⟨_,its,r,o,h1,h2,n,h3⟩:=(show di P w H h a (.tup (ks.map kV)) from ok a _ e)
 exact⟨o,its.toArray,n,h1,h2,h3,by simpa using items_are r⟩
theorem dt_rd{kvs:List (List Key×V)}(ok:HOk P w H h)(e:Rd H a (.dT kvs)):kvs.length<=sizeLine/\(a==sysModules)=false/\∃ xs,KT H kvs xs/\h.DictOfH (tupleKind (fh P w)) a xs:=by
 obtain⟨z,y,xs,r,o,es,ep,h1,h2,h3,h4,h5⟩:=(show di P w H h a (.dT kvs) from rd_of ok e)
 refine⟨z,y,xs,r,o,es,ep,h1,h2,h3,h4,fun x hx=>?_,h5⟩
 have all:∀{l:List (List Key×V)}{m:List (List Key×Addr×Value)},KT H l m->∀ x∈m,(tupleKind (fh P w)).is h x.1 x.2.1:=by
  intro l m q
  induction q with
  |nil=>intro x hx;exact nomatch hx
  | @cons p q ps qs hq t ih =>
   intro x hx
   rcases List.mem_cons.mp hx with e|hx
   ·subst e
    exact key_of ok (by rw[<-hq.1];exact hq.2.1)
   ·exact ih x hx
 exact all r x hx
theorem dt_of{kvs:List (List Key×V)}(ok:HOk P w H h)(e:H a=some (.dT kvs)):kvs.length<=sizeLine/\(a==sysModules)=false/\∃ xs,KT H kvs xs/\h.DictOfH (tupleKind (fh P w)) a xs:=dt_rd ok (.inl e)
def lp(H:Hp)(a:Addr)(y:V)(r:Option V):Prop:=(∃ kvs k,Rd H a (.dK kvs)/\y=kV k/\r=valV kvs k)\/∃ kvs k b,Rd H a (.dT kvs)/\y=.ref b/\H b=some (.tup (k.map kV))/\r=valV kvs k
def DPut(H:Hp)(a:Addr)(y v:V)(H':Hp):Prop:=(∃ kvs k,H a=some (.dK kvs)/\y=kV k/\kvs.length<sizeLine/\H'=upd H a (.dK (j9 kvs k v)))\/∃ kvs k b,H a=some (.dT kvs)/\y=.ref b/\H b=some (.tup (k.map kV))/\kvs.length<sizeLine/\H'=upd H a (.dT (j9 kvs k v))
theorem lp.k{H:Hp}{a:Addr}{kvs:List (Key×V)}{k:Key}(e:H a=some (.dK kvs)):lp H a (kV k) (valV kvs k):=.inl ⟨kvs,k,.inl e,rfl,rfl⟩
theorem DPut.k{H:Hp}{a:Addr}{kvs:List (Key×V)}{k:Key}{v:V}(e:H a=some (.dK kvs))(hl:kvs.length<sizeLine):DPut H a (kV k) v (upd H a (.dK (j9 kvs k v))):=.inl ⟨kvs,k,e,rfl,hl,rfl⟩
end
section
variable{X:Cx}{pins:List (Addr×Obj)}{σ:St}{H:Hp}{s:Shared}{a:Addr}{y v:V}{u r:Value}{o:Option V}{A:Around}{E:Value->Shared->Prop}
theorem Inv.big(I:Inv X pins σ H s):sysModules<s.heap.objs.size:=by
 have h:mainGlobals<s.heap.objs.size:=(I.mod.glob.keeps I.bk).lt
 exact Nat.lt_trans (by decide) h
theorem d_getItem{Q:Value->Shared->Prop}(hu:A.units+1<cLine)(I:Inv X pins σ H s)(g:lp H a y (some v))(ry:RelV y u)(h:∀ w' s',Inv X pins σ H s'->RelV v w'->Q w' s'):wpAny (model X.prog X.w) A (getItem (.ref a) u) Q E s:=by
 rcases g with⟨kvs,k,e,ey,l⟩|⟨kvs,k,b,e,ey,eb,l⟩
 ·subst ey
  obtain⟨z,hd,vs,rel,dd⟩:=dk_rd I.hok e
  obtain⟨w',hw,rw'⟩:=k8.some_of (v:=v) (o:=valueAt vs k) (by rw[l];exact rel.val k)
  exact wpAny_getItem_of (kV_is ry) dd.mapOf hw (h w' _ (I.tok _) rw')
 ·subst ey
  cases (show u=Value.ref b from ry)
  obtain⟨z,hd,xs,rel,dd⟩:=dt_rd I.hok e
  obtain⟨w',hw,rw'⟩:=k8.some_of (v:=v) (o:=(atKey xs k).map (·.2)) (by rw[l];exact rel.val k)
  obtain⟨p,hp,hp2⟩:=Option.map_eq_some_iff.mp hw
  refine wpAny_getItem_heap (tupleKind_room_in1 hu) (key_of I.hok eb) dd hp ?_
  rw[hp2]
  exact h w' _ (I.tok _) rw'
theorem d_in{Q:Value->Shared->Prop}(hu:A.units+1<cLine)(I:Inv X pins σ H s)(g:lp H a y o)(ry:RelV y u)(h:∀ s',Inv X pins σ H s'->Q (.bool o.isSome) s'):wpAny (model X.prog X.w) A (compareOp .In u (.ref a)) Q E s:=by
 rcases g with⟨kvs,k,e,ey,l⟩|⟨kvs,k,b,e,ey,eb,l⟩
 ·subst ey
  obtain⟨z,hd,vs,rel,dd⟩:=dk_rd I.hok e
  refine wpAny_in_of (kV_is ry) hd dd.mapOf ?_
  rw[<-(rel.val k).isSome_eq,<-l]
  exact h _ (I.tok _)
 ·subst ey
  cases (show u=Value.ref b from ry)
  obtain⟨z,hd,xs,rel,dd⟩:=dt_rd I.hok e
  refine wpAny_in_heap (tupleKind_room_in1 hu) (key_of I.hok eb) hd dd ?_
  have q:=(rel.val k).isSome_eq
  rw[Option.isSome_map] at q
  rw[<-q,<-l]
  exact h _ (I.tok _)
theorem d_notIn{Q:Value->Shared->Prop}(hu:A.units+1<cLine)(I:Inv X pins σ H s)(g:lp H a y o)(ry:RelV y u)(h:∀ s',Inv X pins σ H s'->Q (.bool (!o.isSome)) s'):wpAny (model X.prog X.w) A (compareOp .NotIn u (.ref a)) Q E s:=by
 rcases g with⟨kvs,k,e,ey,l⟩|⟨kvs,k,b,e,ey,eb,l⟩
 ·subst ey
  obtain⟨z,hd,vs,rel,dd⟩:=dk_rd I.hok e
  refine wpAny_notIn_of (kV_is ry) hd dd.mapOf ?_
  rw[<-(rel.val k).isSome_eq,<-l]
  exact h _ (I.tok _)
 ·subst ey
  cases (show u=Value.ref b from ry)
  obtain⟨z,hd,xs,rel,dd⟩:=dt_rd I.hok e
  refine wpAny_notIn_heap (tupleKind_room_in1 hu) (key_of I.hok eb) hd dd ?_
  have q:=(rel.val k).isSome_eq
  rw[Option.isSome_map] at q
  rw[<-q,<-l]
  exact h _ (I.tok _)
theorem d_write{h':Heap}{t':Nat}{ob:HO}(I:Inv X pins σ H s)(mu:Mut (H a))(hs:Heap.SameBut a s.heap h')(he:∃ q,h'.get? a=some q)(new:di X.prog X.w (upd H a ob) h' a ob):Inv X pins σ (upd H a ob) { s with heap:=h',toks:=t' }:=I.write (x:=a) (e:=a) mu (.inl rfl) (fun b q hb z=>(hs.2 b hb).trans z) he new
theorem dk_new{P:Program}{w:World}{H':Hp}{h':Heap}{kvs:List (Key×V)}{vs:List (Key×Value)}(z:kvs.length<=sizeLine)(hd:(a==sysModules)=false)(rel:KV kvs vs)(dd:h'.DictOf (fh P w) a vs):di P w H' h' a (.dK kvs):=⟨z,hd,vs,rel,dd⟩
theorem d_setItem{H':Hp}{Q:Unit->Shared->Prop}(hu:A.units+1<cLine)(I:Inv X pins σ H s)(g:DPut H a y v H')(ry:RelV y u)(rv:RelV v r)(h:∀ s',Inv X pins σ H' s'->Q () s'):wpAny (model X.prog X.w) A (setItem (.ref a) u r) Q E s:=by
 rcases g with⟨kvs,k,e,ey,l,eH⟩|⟨kvs,k,b,e,ey,eb,l,eH⟩
 ·subst ey eH
  obtain⟨z,hd,vs,rel,dd⟩:=dk_of I.hok e
  have hz:vs.length<=sizeLine:=by rw[<-rel.length];exact z
  have hl:(j9 kvs k v).length<=sizeLine:=by have:=jg kvs k v;omega
  refine wpAny_setItem_pairs (hsz:=hz) (kV_is ry) dd fun h' dd' hs=>h _ ?_
  have he:∃ q,h'.get? a=some q:=let ⟨q,_,_,hq,_⟩:=dd';⟨q,hq⟩
  exact d_write I (by rw[e];exact True.intro) hs he (dk_new hl hd (rel.put k rv) dd')
 ·subst ey eH
  cases (show u=Value.ref b from ry)
  obtain⟨z,hd,xs,rel,dd⟩:=dt_of I.hok e
  have hz:xs.length<=sizeLine:=by rw[<-Paired.length rel];exact z
  have hl:(j9 kvs k v).length<=sizeLine:=by have:=jg kvs k v;omega
  refine wpAny_setItem_heap (hsz:=hz) (tupleKind_room_in1 hu) (key_of I.hok eb) dd fun h' dd' hs=>h _ ?_
  obtain⟨q,es,ep,hq,h2,h3,h4,_,h5⟩:=dd'
  refine d_write I (by rw[e];exact True.intro) hs ⟨q,hq⟩ ⟨hl,hd,_,(rel.put k eb rv).keeps fun c ys ec=>?_,q,es,ep,hq,h2,h3,h4,h5⟩
  rw[ai (eq ec e (fun z=>nomatch z))]
  exact ec
def NoSl(i:Expr):Prop:=∀ ov iv,subscripted i false ov iv=operate [ov,iv] (getItem ov iv)
theorem subD_of{prog:Program}{w:World}{A:Around}{E:Value->Shared->Prop}{s:Shared}{env:Env}{value slice:Expr}{pos:Pos}{T id:String}{Q:Value->Shared->Prop}(hl:typeLookup (.type T) "__getitem__"=pure (some (.builtin id)))(hs:NoSl slice)(h:wpAny (model prog w) A (eval value env) (fun o s₁=>wpAny (model prog w) A (eval slice env) (fun i s₂=>s₂.TypeIs o T/\wpAny (model prog w) A (getItem o i) Q E s₂) E s₁) E s):wpAny (model prog w) A (eval (.Subscript value slice pos) env) Q E s:=by
 refine Subscript_ (wpAny_mono h (fun o s₁ h₁=>wpAny_mono h₁ (fun i s₂ h₂=>?_) fun _ _ x=>x) fun _ _ x=>x)
 obtain⟨hT,h₂⟩:=h₂
 unfold subscriptTail
 refine wpAny_bind ?_
 rw[getitemInPython_of_ne hT.not_modules]
 refine wpAny_bind (wpAny_specialOf hT hl ?_)
 have fin:wpAny (model prog w) A (subscripted slice false o i) (fun r s₃=>wpAny (model prog w) A (letTemporaryGo value o r >>= fun _=>pure r) Q E s₃) E s₂:=by
  rw[hs o i]
  exact wpAny_operating (wpAny_mono h₂ (fun r s₃ h₃=>wpAny_bind (wpAny_letTemporaryGo (wpAny_pure h₃))) fun _ _ x=>x)
 first
  |exact wpAny_pure (wpAny_bind fin)
  |exact wpAny_bind (wpAny_pure (wpAny_bind fin))
  |exact wpAny_bind fin
theorem dict_typeIs{X:Cx}{pins:List (Addr×Obj)}{σ:St}{H:Hp}{s:Shared}{a:Addr}{y:V}{o:Option V}(I:Inv X pins σ H s)(g:lp H a y o):s.TypeIs (.ref a) "dict":=by
 rcases g with⟨kvs,k,e,_,_⟩|⟨kvs,k,b,e,_,_,_⟩
 ·obtain⟨_,_,vs,_,dd⟩:=dk_rd I.hok e
  exact dd.typeIs
 ·obtain⟨_,_,xs,_,dd⟩:=dt_rd I.hok e
  exact dd.typeIs
def tDGet(td ty:TE):TE:=fun σ H Q=>td σ H fun x H1=>ty σ H1 fun y H2=>∃ a v,x=.ref a/\lp H2 a y (some v)/\Q v H2
def tDIn(ty td:TE):TE:=fun σ H Q=>ty σ H fun y H1=>td σ H1 fun x H2=>∃ a o,x=.ref a/\lp H2 a y o/\Q (.bl o.isSome) H2
def tDNotIn(ty td:TE):TE:=fun σ H Q=>ty σ H fun y H1=>td σ H1 fun x H2=>∃ a o,x=.ref a/\lp H2 a y o/\Q (.bl (!o.isSome)) H2
def sDPut(td ty tv:TE):TS:=fun D σ H=>tv σ H fun v H1=>td σ H1 fun x H2=>ty σ H2 fun y H3=>∃ a H4,x=.ref a/\DPut H3 a y v H4/\D.nx σ H4
end
section
variable{X:Cx}{o i e value:Expr}{pos pos' tpos:Pos}{td ty tv:TE}
theorem pe_dget(hu:X.A.units+1<cLine)(ho:PE X o td)(hi:PE X i ty)(hs:NoSl i):PE X (.Subscript o i pos) (tDGet td ty):=by
 intro pins s σ H Q I h
 refine subD_of F.slot_dict_getitem.lookup hs (thn (ho pins s σ H _ I h) fun u s1 ⟨x,H1,I1,rx,q1⟩=>thn (hi pins s1 σ H1 _ I1 q1) fun iv s2 ⟨y,H2,I2,ry,a,v,ex,g,q2⟩=>?_)
 subst ex
 obtain rfl:u=Value.ref a:=rx
 exact⟨dict_typeIs I2 g,d_getItem hu I2 g ry fun w' s3 I3 rw'=>⟨v,H2,I3,rw',q2⟩⟩
theorem pc_din(hu:X.A.units+1<cLine)(hi:PE X i ty)(ho:PE X o td):PC X .In i o (tDIn ty td):=by
 intro pins s σ H Q I h
 refine thn (hi pins s σ H _ I h) fun iv s1 ⟨y,H1,I1,ry,q1⟩=>thn (ho pins s1 σ H1 _ I1 q1) fun u s2 ⟨x,H2,I2,rx,a,ov,ex,g,q2⟩=>?_
 subst ex
 obtain rfl:u=Value.ref a:=rx
 exact d_in hu I2 g ry fun s3 I3=>⟨.bl ov.isSome,H2,I3,rfl,q2⟩
theorem pc_dnotin(hu:X.A.units+1<cLine)(hi:PE X i ty)(ho:PE X o td):PC X .NotIn i o (tDNotIn ty td):=by
 intro pins s σ H Q I h
 refine thn (hi pins s σ H _ I h) fun iv s1 ⟨y,H1,I1,ry,q1⟩=>thn (ho pins s1 σ H1 _ I1 q1) fun u s2 ⟨x,H2,I2,rx,a,ov,ex,g,q2⟩=>?_
 subst ex
 obtain rfl:u=Value.ref a:=rx
 exact d_notIn hu I2 g ry fun s3 I3=>⟨.bl (!ov.isSome),H2,I3,rfl,q2⟩
theorem ps_dput(hu:X.A.units+1<cLine)(ho:PE X o td)(hi:PE X i ty)(hv:PE X value tv)(hs:swapsWith value (some (.Subscript o i pos')) pos.line X.env=pure false):PS X (.Assign [.Subscript o i pos'] value pos) (sDPut td ty tv):=by
 intro pins s σ H D I h
 refine wpAny_Assign_Subscript (thn (hv pins s σ H _ I h) fun r s1 ⟨v,H1,I1,rv,q1⟩=>thn (ho pins s1 σ H1 _ I1 q1) fun u s2 ⟨x,H2,I2,rx,q2⟩=>thn (hi pins s2 σ H2 _ I2 q2) fun iv s3 ⟨y,H3,I3,ry,a,H4,ex,g,q3⟩=>?_) hs
 subst ex
 obtain rfl:u=Value.ref a:=rx
 exact d_setItem hu I3 g ry rv fun s4 I4=>⟨σ,H4,I4,q3⟩
theorem dk_empty{P:Program}{w:World}{H:Hp}(h:Heap)(hb:sysModules<h.objs.size):di P w H (h.push { cls:=.type "dict",data:=.dict #[] }) h.objs.size (.dK []):=⟨Nat.zero_le _,beq_eq_false_iff_ne.mpr (Ne.symm (Nat.ne_of_lt hb)),[],.nil,Heap.DictOf.new h⟩
def tDNewK:TE:=fun _ H Q=>∀ p,H p=none->Q (.ref p) (upd H p (.dK []))
theorem pe_dnewK:PE X (.Dict [] [] pos) tDNewK:=fun pins s σ H Q I h =>
 wpAny_Dict_empty ⟨.ref s.heap.objs.size,_,I.laid (a:=s.heap.objs.size) (o:=.dK []) (t':=s.toks) (fun _ _ q=>Heap.get?_push_of_some _ q) (Nat.le_refl _) (dk_empty s.heap I.big),rfl,h _ (I.hok.fresh (Nat.le_refl _))⟩
end
structure M2(X:Cx)(o:Expr)(m:Str)(apos:Pos)(e f:Expr)(cpos:Pos):Prop where
 base:attributeBase o m X.env (eval o X.env)=eval o X.env
 few:((backTo cpos (starEach [e,f] X.env)).all (fun x=>!x.1)&&(backToKw cpos (keywordEach [] X.env)).all (fun x=>x.1.isSome)
  && decide (([e,f]:List Expr).length+([]:List Keyword).length+(if ([]:List Keyword).isEmpty then 0 else 1)<30))=true
 line:(apos.endLine==cpos.line)=true
 trees:backTo cpos (starEach [e,f] X.env)=[(false,eval e X.env),(false,eval f X.env)]
def IsD(H:Hp)(a:Addr):Prop:=(∃ kvs,Rd H a (.dK kvs))\/∃ kvs,Rd H a (.dT kvs)
theorem isD_at{X:Cx}{pins:List (Addr×Obj)}{σ:St}{H:Hp}{s:Shared}{a:Addr}(I:Inv X pins σ H s)(d:IsD H a):s.TypeIs (.ref a) "dict"/\(∀ b,Value.ref a=.ref b->∃ ob,s.heap.get? b=some ob/\ob.dict=none)/\(a==sysModules)=false:=by
 rcases d with⟨kvs,e⟩|⟨kvs,e⟩
 ·obtain⟨_,hd,vs,_,dd⟩:=dk_rd I.hok e
  refine⟨dd.typeIs,fun b q=>?_,hd⟩
  cases q
  obtain⟨ob,_,_,h1,h2,_⟩:=dd
  exact⟨ob,h1,h2.2.1⟩
 ·obtain⟨_,hd,xs,_,dd⟩:=dt_rd I.hok e
  refine⟨dd.typeIs,fun b q=>?_,hd⟩
  cases q
  obtain⟨ob,_,_,h1,h2,_⟩:=dd
  exact⟨ob,h1,h2.2.1⟩
section
variable{X:Cx}{pins:List (Addr×Obj)}{σ:St}{H:Hp}{s:Shared}{a:Addr}{y d:V}{u r:Value}{o:Option V}{A:Around}{E:Value->Shared->Prop}
theorem d_get2{Q:Value->Shared->Prop}(hu:A.units+1<cLine)(I:Inv X pins σ H s)(g:lp H a y o)(ry:RelV y u)(rd:RelV d r)(h:∀ w' s',Inv X pins σ H s'->RelV (o.getD d) w'->Q w' s'):wpAny (model X.prog X.w) A (call (.builtin "dict.get") [.ref a,u,r]) Q E s:=by
 rcases g with⟨kvs,k,e,ey,l⟩|⟨kvs,k,b,e,ey,eb,l⟩
 ·subst ey
  obtain⟨z,hd,vs,rel,dd⟩:=dk_rd I.hok e
  refine call_meetsIn F.slot_dict_get dd.typeIs F.entry_dict_get (F.args_dict_get_3 _ _ _) (meets_dict_get_default (fh X.prog X.w) a (kV_is ry) hd r) ⟨_,dd.mapOf,h _ _ (I.tok _) ?_⟩
  rw[l]
  exact(rel.val k).getD rd
 ·subst ey
  cases (show u=Value.ref b from ry)
  obtain⟨z,hd,xs,rel,dd⟩:=dt_rd I.hok e
  refine call_meetsIn F.slot_dict_get dd.typeIs F.entry_dict_get (F.args_dict_get_3 _ _ _) (meetsH_dict_get_default (tupleKind (fh X.prog X.w)) a b hd r) ⟨tupleKind_room_in1 hu,k,xs,key_of I.hok eb,dd,h _ _ (I.tok _) ?_⟩
  rw[l]
  exact(rel.val k).getD rd
def tDGet2(td ty tx:TE):TE:=fun σ H Q=>td σ H fun x H1=>∃ a,x=.ref a/\IsD H1 a/\ty σ H1 fun y H2=>tx σ H2 fun z H3=>∃ o,lp H3 a y o/\Q (o.getD z) H3
end
section
variable{X:Cx}{o e f:Expr}{apos cpos:Pos}{td ty tx:TE}
theorem pe_dget2(hu:X.A.units+1<cLine)(ho:PE X o td)(he:PE X e ty)(hf:PE X f tx)(m:M2 X o "get" apos e f cpos):PE X (.Call (.Attribute o "get" apos) [e,f] [] cpos) (tDGet2 td ty tx):=by
 intro pins s σ H Q I h
 refine wpAny_Call_method m.base m.few m.line F.plainAttrs_dict F.slot_dict_get F.type_dict_get (thn (ho pins s σ H _ I h) fun u s1 ⟨x,H1,I1,rx,a,ex,d,q1⟩=>?_)
 subst ex
 obtain rfl:u=Value.ref a:=rx
 obtain⟨t1,t2,_⟩:=isD_at I1 d
 refine⟨t1,t2,?_⟩
 rw[m.trees]
 refine Calls.callWith_builtin rfl (Calls.evalArgs_plain (Calls.spliced_cons (thn (he pins s1 σ H1 _ I1 q1) fun iv s2 ⟨y,H2,I2,ry,q2⟩ =>
  Calls.spliced_cons (thn (hf pins s2 σ H2 _ I2 q2) fun fv s3 ⟨z,H3,I3,rz,ov,g,q3⟩=>Calls.spliced_nil ?_))))
 exact d_get2 hu I3 g ry rz fun w' s4 I4 rw'=>⟨_,H3,I4,rw',q3⟩
end
section
variable{X:Cx}{pins:List (Addr×Obj)}{σ:St}{H:Hp}{s:Shared}{h':Heap}
theorem Inv.turnedL{t':Nat}{ch:List Addr}(I:Inv X pins σ H s)(k:∀ b o,b∉ch->s.heap.get? b=some o->h'.get? b=some o)(hf:∀ b∈ch,FpOk X pins H b):Inv X pins σ H { s with heap:=h',toks:=t' }:=by
 have nit:∀ b u,H b=some u->b∉ch:=fun b u e z=>by
  have q:=(hf b z).1
  rw[q] at e;cases e
 refine I.step (g':=s.gens) (d':=s.drawn) (ch:=ch) (fun b hb=>⟨(hf b hb).2.2.2.1,(hf b hb).2.1,(hf b hb).2.2.2.2.1,(hf b hb).2.2.2.2.2⟩) (fun b o _ _ hc e _=>k b o hc e) (fun b o _ _ hc e _=>⟨o.slots,k b o hc e⟩) (fun _ _ _ _ n=>n) (fun b o hc e=>⟨o,k b o hc e⟩) (fun _ _ e=>e) (fun _ _ _ e=>e) (fun b ps e=>⟨#[],by rw[e];simp⟩) (fun m hm=>?_) (fun b u e=>?_) I.bare
 ·obtain⟨o,es,ep,ho,r⟩:=hm
  exact⟨o,es,ep,k _ o (fun z=>(hf _ z).2.1 rfl) ho,r⟩
 ·refine(I.hok b u e).stay (fun c v hc q=>k c v ?_ q) (fun _ q=>q) fun _ _ q=>q
  rcases hc with z|z
  ·rw[z];exact nit b u e
  ·exact nit c _ z
theorem Inv.turnedNew{t':Nat}{ch:List Addr}{T:Addr}{ob:HO}(I:Inv X pins σ H s)(k:∀ b o,b∉ch->s.heap.get? b=some o->h'.get? b=some o)(hf:∀ b∈ch,FpOk X pins H b)(hT:s.heap.objs.size<=T)(new:di X.prog X.w (upd H T ob) h' T ob):Inv X pins σ (upd H T ob) { s with heap:=h',toks:=t' }:=by
 have hn:H T=none:=I.hok.fresh hT
 have nit:∀ b u,H b=some u->b∉ch:=fun b u e z=>by
  have q:=(hf b z).1
  rw[q] at e;cases e
 refine I.step (g':=s.gens) (d':=s.drawn) (ch:=ch) (fun b hb=>⟨(hf b hb).2.2.2.1,(hf b hb).2.1,(hf b hb).2.2.2.2.1,(hf b hb).2.2.2.2.2⟩) (fun b o _ _ hc e _=>k b o hc e) (fun b o _ _ hc e _=>⟨o.slots,k b o hc e⟩) (fun b o _ e n=>?_) (fun b o hc e=>⟨o,k b o hc e⟩) (fun b xs e=>?_) (fun b o u e=>?_) (fun b ps e=>⟨#[],?_⟩) (fun m hm=>?_) (fun b u e=>?_) I.bare
 ·rw[ai (Nat.ne_of_lt (Nat.lt_of_lt_of_le (Heap.lt_size e) hT))];exact n
 ·rw[ai (ap e hn)];exact e
 ·rw[ai (ap e hn)];exact e
 ·rw[ai (ap e hn),e];simp
 ·obtain⟨o,es,ep,ho,r⟩:=hm
  exact⟨o,es,ep,k _ o (fun z=>(hf _ z).2.1 rfl) ho,r⟩
 ·by_cases hb:b=T
  ·subst hb
   rw[ac] at e
   cases e
   exact new
  ·rw[ai hb] at e
   refine(I.hok b u e).stay (fun c v hc q=>k c v ?_ q) (fun c q=>by rw[ai (ap q hn)];exact q) fun c xs q=>by rw[ai (ap q hn)];exact q
   rcases hc with z|z
   ·rw[z];exact nit b u e
   ·exact nit c _ z
theorem pi_one{tg:Expr}{pins:List (Addr×Obj)}{σ:St}{H:Hp}{s:Shared}{R:It->Hp->Prop}{J:It}{tn:Nat->Heap->Prop}{tk:Nat}(I:Inv X pins σ H s)(o:Obj)(T:Turn X.prog X.w X.K tg J [s.heap.objs.size] s.heap.objs.size tn)(st:tn 0 (s.heap.push o))(q:R J H):PIE X pins σ tg R (.ref s.heap.objs.size) { s with heap:=s.heap.push o,toks:=tk }:=by
 refine⟨s.heap.objs.size,[s.heap.objs.size],tn,J,H,rfl,I.kept fun b ob e=>Heap.get?_push_of_some _ e,T,st,fun b hb=>?_,q⟩
 have e:b=s.heap.objs.size:=by simpa using hb
 subst e
 exact I.fpOk (Nat.le_refl _) (I.hok.fresh (Nat.le_refl _))
def Its(x:Str):It:=⟨fun i _=>i<x.cps.size,fun i H v H'=>H'=H/\∃ c,x.cps[i]?=some c/\v=.str ⟨#[c]⟩,fun i _=>x.cps.size<=i⟩
theorem turn_str{P:Program}{w:World}{K:PySem.W.Frag}{tg:Expr}(it:Addr)(x:Str)(t:Tok)(ty:String)(hty:ty="str_ascii_iterator"\/ty="str_iterator"):Turn P w K tg (Its x) [it] it (fun i h=>h.IsStrIter it ty x t i) where
 mem:=by simp
 obj:=fun i h st b hb=>by
  have e:b=it:=by simpa using hb
  subst e
  obtain⟨o,e,c,d⟩:=st
  exact⟨o,e,fun v z=>by rw[d] at z;cases z⟩
 keep:=fun i h h' st k=>let ⟨o,ho,r⟩:=st;⟨o,k it (by simp) o ho,r⟩
 item:=by
  intro X hP hw hK hc i pins s σ H E I hf st hg
  subst hP hw hK
  obtain⟨f0,f1,f2,f3,f4,f5⟩:=hf it (by simp)
  have W:Walks X.prog X.w X.A it [it] [it] x.cps.size (SignAt x) (fun i h=>h.IsStrIter it ty x t i):=by
   rcases hty with e|e
   ·rw[e];exact Walks.strAscii (I.ok.hd hc) it x t
   ·rw[e];exact Walks.strWide (I.ok.hd hc) it x t
  have hno:["enumerate","zip","dict_itemiterator","dict_reverseitemiterator","odict_iterator","itertools.zip_longest","itertools.pairwise"].contains ty=false:=by
   rcases hty with e|e
   ·rw[e];decide
   ·rw[e];decide
  refine W.item i s _ _ hg st fun v h' tk hv st' kk=>?_
  obtain⟨c,u,hcx,rfl⟩:=hv
  have I1:Inv X pins σ H { s with heap:=h',toks:=tk }:=I.turned (fun b o hb e=>kk b o (by simpa using hb) e) f0 f1 f3 f4 f5
  obtain⟨oi,e,cc,dd⟩:=id st'
  exact⟨_,rfl,go_of (s:={ s with heap:=h',toks:=tk }) e cc dd hno ⟨.str ⟨#[c]⟩,H,I1,⟨u,rfl⟩,⟨rfl,c,hcx,rfl⟩,st',fun b hb=>(hf b hb).1⟩⟩
 done:=by
  intro X hP hw hK hc i pins s σ H E I hf st hg
  subst hP hw hK
  obtain⟨f0,f1,f2,f3,f4,f5⟩:=hf it (by simp)
  have hx:x.cps[i]?=none:=Array.getElem?_eq_none hg
  rcases hty with e|e
  ·rw[e] at st
   exact wpAny_pyNext_ascii_end (I.ok.hd hc) st hx fun h' eb=>⟨rfl,I.turned (t':=s.toks) (fun b o hb e=>eb b o hb e) f0 f1 f3 f4 f5⟩
  ·rw[e] at st
   exact wpAny_pyNext_wide_end (I.ok.hd hc) st hx fun h' eb=>⟨rfl,I.turned (t':=s.toks) (fun b o hb e=>eb b o hb e) f0 f1 f3 f4 f5⟩
 self:=fun A i s Q E st h=>by
  rcases hty with e|e
  ·rw[e] at st;exact wpAny_pyIter_striter_ascii st h
  ·rw[e] at st;exact wpAny_pyIter_striter_wide st h
def iStr(te:TE):TI:=fun σ H R=>te σ H fun v H1=>∃ x,v=.str x/\R (Its x) H1
theorem pi_str{X:Cx}{tg e:Expr}{te:TE}(he:PE X e te):PI X tg e (iStr te):=by
 intro pins s σ H R I h
 refine thn (he pins s σ H _ I h) fun v s1 ⟨y,H1,I1,r1,x,ex,q⟩=>?_
 subst ex
 obtain⟨t,rfl⟩:=r1
 cases ha:x.cps.all (·<128)
 ·exact wpAny_pyIter_wide ha (pi_one (tk:=s1.toks) I1 _ (turn_str _ x t "str_iterator" (.inr rfl)) ⟨_,Heap.get?_push_size _ rfl,rfl,rfl⟩ q)
 ·exact wpAny_pyIter_ascii ha (pi_one (tk:=s1.toks) I1 _ (turn_str _ x t "str_ascii_iterator" (.inl rfl)) ⟨_,Heap.get?_push_size _ rfl,rfl,rfl⟩ q)
def Ite(K:W.Frag)(a:Addr):It:=⟨fun i H=>∃(xs:List V)(x:V),SqL K H a xs/\xs[i]?=some x,fun i H v H'=>∃ T x,v=.ref T/\H T=none/\H'=upd H T (.tup [.int (i:Nat),x])/\∀ xs,SqL K H a xs->xs[i]?=some x,fun i H=>∃ xs:List V,SqL K H a xs/\xs.length<=i⟩
theorem turn_enum{P:Program}{w:World}{K:W.Frag}{elts:List Expr}{kk:Nat}{tpos:Pos}(a e it:Addr):Turn P w K (.Tuple elts kk tpos) (Ite K a) [e,it] e (fun i h=>(∃ old,IsEnum h e it ((i:Nat):Int) old)/\h.IsListIter it a i/\e≠it) where
 mem:=by simp
 obj:=fun i h st b hb=>by
  obtain⟨⟨old,he⟩,⟨o,ho,hc,hd⟩,_⟩:=st
  have e':b=e\/b=it:=by simpa using hb
  rcases e' with z|z
  ·rw[z];exact⟨_,he,fun v q=>nomatch q⟩
  ·rw[z];exact⟨o,ho,fun v q=>by rw[hd] at q;cases q⟩
 keep:=fun i h h' st k=>let ⟨⟨old,he⟩,hi,hne⟩:=st;⟨⟨old,k e (by simp) _ he⟩,hi.at fun o q=>k it (by simp) o q,hne⟩
 item:=by
  intro X hP hw hK hc i pins s σ H E I hf st hg
  subst hP hw hK
  obtain⟨⟨old,he⟩,hit,hne⟩:=st
  obtain⟨xs,x,hq,hx⟩:=hg
  obtain⟨its,rv,p,hz⟩:=I.list hq
  obtain⟨u,hu,ru⟩:=rv.get hx
  have hel:e<s.heap.objs.size:=Heap.lt_size he
  have hil:it<s.heap.objs.size:=by obtain⟨_,q,_⟩:=hit;exact Heap.lt_size q
  refine wpAny_pyNext_enum_item he hit p.isList (x:=u) (by simpa using hu) hne fun h' ho hit' hT hsz hk=>?_
  refine⟨_,rfl,wpAny_letOwnedTupleGo_enum (s:={ s with heap:=h',toks:=s.toks+1 }) ho fun h'' he' sb=>?_⟩
  have hT2:h''.get? s.heap.objs.size=some { cls:=.type "tuple",data:=.seq #[.int i s.toks,u] }:=(sb.2 _ (Nat.ne_of_gt hel)).trans hT
  have new:di X.prog X.w (upd H s.heap.objs.size (.tup [.int (i:Nat),x])) h'' s.heap.objs.size (.tup [.int (i:Nat),x]):=⟨by show 2<=sizeLine;decide,[.int i s.toks,u],.cons ⟨_,rfl⟩ (.cons ru .nil),⟨_,hT2,rfl,_,rfl⟩⟩
  have I1:Inv X pins σ (upd H s.heap.objs.size (.tup [.int (i:Nat),x])) { s with heap:=h'',toks:=s.toks+1 }:=I.turnedNew (ch:=[e,it]) (fun b ob hb q=>(sb.2 b (fun z=>hb (by simp[z]))).trans (hk b ob (fun z=>hb (by simp[z])) (fun z=>hb (by simp[z])) q)) hf (Nat.le_refl _) new
  refine⟨.ref s.heap.objs.size,_,I1,rfl,⟨_,x,rfl,I.hok.fresh (Nat.le_refl _),rfl,fun ys hy=>by rw[I.list_inj hy hq];exact hx⟩,⟨⟨u,?_⟩,hit'.at fun o q=>(sb.2 it (Ne.symm hne)).trans q,hne⟩,fun b hb=>?_⟩
  ·have e1:((i+1:Nat):Int)=(i:Int)+1:=by omega
   rw[e1];exact he'
  ·have hb':b<s.heap.objs.size:=by
    have e':b=e\/b=it:=by simpa using hb
    rcases e' with z|z
    ·rw[z];exact hel
    ·rw[z];exact hil
   rw[ai (Nat.ne_of_lt hb')]
   exact(hf b hb).1
 done:=by
  intro X hP hw hK hc i pins s σ H E I hf st hg
  subst hP hw hK
  obtain⟨⟨old,he⟩,hit,hne⟩:=st
  obtain⟨xs,hq,hx⟩:=hg
  obtain⟨its,rv,p,hz⟩:=I.list hq
  obtain⟨f0,f1,f2,f3,f4,f5⟩:=hf it (by simp)
  have hl:=rv.length
  exact wpAny_pyNext_enum_end (I.ok.hd hc) he hit p.isList (by simp;omega) fun h' eb=>⟨rfl,I.turned (t':=s.toks) (fun b o hb q=>eb b o hb q) f0 f1 f3 f4 f5⟩
 self:=fun A i s Q E st h=>let ⟨⟨_,he⟩,_⟩:=st;wpAny_pyIter_enum he h
def iEnum(K:W.Frag)(ta:TA):TI:=fun σ H R=>ta σ H fun vs H1=>∃ a xs,vs=[.ref a]/\SqL K H1 a xs/\R (Ite K a) H1
theorem pi_enum{X:Cx}{e:Expr}{ta:TA}{p pos tpos:Pos}{elts:List Expr}{kk:Nat}(hg:Gl X "enumerate")(hm:X.mg "enumerate"=none)(ha:PA X [e] ta)(hs:starEach [e] X.env=[(false,eval e X.env)]:=by rfl):PI X (.Tuple elts kk tpos) (.Call (.Name "enumerate" p) [e] [] pos) (iEnum X.K ta):=by
 intro pins s σ H R I h
 refine Call_ (ld_blt I hg hm boot_enumerate (PyProof.Rows.callWith_type1 (thn (ha pos pins s σ H _ I h) fun us s1 ⟨vs,H1,I1,r1,q1⟩=>?_) hs rfl))
 obtain⟨a,xs,ex,hq,q⟩:=q1
 subst ex
 cases r1 with
 |cons r rr =>
  cases rr
  cases r
  obtain⟨its,rv,p',hz⟩:=I1.list hq
  refine call_enumerate_list p'.isList fun h' he hit hsz hk=>wpAny_pyIter_enum he ?_
  have I2:Inv X pins σ H1 { s1 with heap:=h' }:=I1.kept (t':=s1.toks) hk
  refine⟨s1.heap.objs.size+1,[s1.heap.objs.size+1,s1.heap.objs.size],_,_,H1,rfl,I2,turn_enum a (s1.heap.objs.size+1) s1.heap.objs.size,⟨⟨.none,he⟩,hit,Nat.succ_ne_self _⟩,fun b hb=>?_,q⟩
  have e':b=s1.heap.objs.size+1\/b=s1.heap.objs.size:=by simpa using hb
  have hle:s1.heap.objs.size<=b:=by
   rcases e' with z|z
   ·rw[z];exact Nat.le_add_right _ _
   ·rw[z];exact Nat.le_refl _
  exact I1.fpOk hle (I1.hok.fresh hle)
theorem boot_zip5:bootBuiltins "zip"=some (.type "zip"):=by decide +kernel
def Itz(K:W.Frag)(a b:Addr):It:=⟨fun i H=>∃(xs ys:List V)(x y:V),SqL K H a xs/\SqL K H b ys/\xs[i]?=some x/\ys[i]?=some y,fun i H v H'=>∃ T x y,v=.ref T/\H T=none/\H'=upd H T (.tup [x,y])/\(∀ xs,SqL K H a xs->xs[i]?=some x)/\∀ ys,SqL K H b ys->ys[i]?=some y,fun i H=>∃ xs ys:List V,SqL K H a xs/\SqL K H b ys/\(xs.length<=i\/ys.length<=i)⟩
theorem turn_zip{P:Program}{w:World}{K:W.Frag}{elts:List Expr}{kk:Nat}{tpos:Pos}{a b z TI TO i1 i2:Addr}(D:ZipApart z TI TO i1 i2 a b):Turn P w K (.Tuple elts kk tpos) (Itz K a b) [z,TI,TO,i1,i2] z (fun i h=>IsZip h z TI TO .none/\IsPair h TI (.ref i1) (.ref i2)/\(∃ x y,IsPair h TO x y)/\h.IsListIter i1 a i/\h.IsListIter i2 b i) where
 mem:=by simp
 obj:=fun i h st c hc=>by
  obtain⟨hz,hTI,⟨x,y,hTO⟩,⟨o1,e1,_,d1⟩,⟨o2,e2,_,d2⟩⟩:=st
  have e':c=z\/c=TI\/c=TO\/c=i1\/c=i2:=by simpa using hc
  rcases e' with q|q|q|q|q
  ·rw[q];exact⟨_,hz,fun v q=>nomatch q⟩
  ·rw[q];exact⟨_,hTI,fun v q=>nomatch q⟩
  ·rw[q];exact⟨_,hTO,fun v q=>nomatch q⟩
  ·rw[q];exact⟨o1,e1,fun v q=>by rw[d1] at q;cases q⟩
  ·rw[q];exact⟨o2,e2,fun v q=>by rw[d2] at q;cases q⟩
 keep:=fun i h h' st k=>by
  obtain⟨hz,hTI,⟨x,y,hTO⟩,h1,h2⟩:=st
  exact⟨k z (by simp) _ hz,k TI (by simp) _ hTI,⟨x,y,k TO (by simp) _ hTO⟩,h1.at fun o q=>k i1 (by simp) o q,h2.at fun o q=>k i2 (by simp) o q⟩
 item:=by
  intro X hP hw hK hc i pins s σ H E I hf st hg
  subst hP hw hK
  obtain⟨hz,hTI,⟨x0,y0,hTO⟩,h1,h2⟩:=st
  obtain⟨xs,ys,x,y,hqx,hqy,hx,hy⟩:=hg
  obtain⟨its,rv,p,_⟩:=I.list hqx
  obtain⟨its2,rv2,p2,_⟩:=I.list hqy
  obtain⟨u,hu,ru⟩:=rv.get hx
  obtain⟨u2,hu2,ru2⟩:=rv2.get hy
  have hzl:z<s.heap.objs.size:=Heap.lt_size hz
  refine wpAny_pyNext_zip_item D hz hTI hTO h1 h2 p.isList p2.isList (x:=u) (y:=u2) (by simpa using hu) (by simpa using hu2) fun h' z' TO' h1' h2' hT hsz hk=>?_
  refine⟨_,rfl,wpAny_letOwnedTupleGo_zip (s:={ s with heap:=h' }) z' fun h'' z'' sb=>?_⟩
  have hT2:h''.get? s.heap.objs.size=some { cls:=.type "tuple",data:=.seq #[u,u2] }:=(sb.2 _ (Nat.ne_of_gt hzl)).trans hT
  have new:di X.prog X.w (upd H s.heap.objs.size (.tup [x,y])) h'' s.heap.objs.size (.tup [x,y]):=⟨by show 2<=sizeLine;decide,[u,u2],.cons ru (.cons ru2 .nil),⟨_,hT2,rfl,_,rfl⟩⟩
  have I1:Inv X pins σ (upd H s.heap.objs.size (.tup [x,y])) { s with heap:=h'' }:=I.turnedNew (t':=s.toks) (ch:=[z,TI,TO,i1,i2]) (fun c o hb q=>(sb.2 c (fun q'=>hb (by simp[q']))).trans (hk c o (fun q'=>hb (by simp[q'])) (fun q'=>hb (by simp[q'])) (fun q'=>hb (by simp[q'])) (fun q'=>hb (by simp[q'])) q)) hf (Nat.le_refl _) new
  refine⟨.ref s.heap.objs.size,_,I1,rfl,⟨_,x,y,rfl,I.hok.fresh (Nat.le_refl _),rfl,fun l hl=>by rw[I.list_inj hl hqx];exact hx,fun l hl=>by rw[I.list_inj hl hqy];exact hy⟩,⟨z'',?_,⟨u,u2,?_⟩,?_,?_⟩,fun c hcm=>?_⟩
  ·exact(sb.2 _ D.TIz).trans (hk _ _ D.TIz D.TITO D.TIi1 D.TIi2 hTI)
  ·exact(sb.2 _ D.TOz).trans TO'
  ·exact h1'.at fun o q=>(sb.2 _ D.i1z).trans q
  ·exact h2'.at fun o q=>(sb.2 _ D.i2z).trans q
  ·have hlt:c<s.heap.objs.size:=by
    have e':c=z\/c=TI\/c=TO\/c=i1\/c=i2:=by simpa using hcm
    rcases e' with q|q|q|q|q
    ·rw[q];exact hzl
    ·rw[q];exact Heap.lt_size hTI
    ·rw[q];exact Heap.lt_size hTO
    ·rw[q];obtain⟨_,e1,_⟩:=h1;exact Heap.lt_size e1
    ·rw[q];obtain⟨_,e2,_⟩:=h2;exact Heap.lt_size e2
   rw[ai (Nat.ne_of_lt hlt)]
   exact(hf c hcm).1
 done:=by
  intro X hP hw hK hc i pins s σ H E I hf st hg
  subst hP hw hK
  obtain⟨hz,hTI,⟨x0,y0,hTO⟩,h1,h2⟩:=st
  obtain⟨xs,ys,hqx,hqy,hend⟩:=hg
  obtain⟨its,rv,p,_⟩:=I.list hqx
  obtain⟨its2,rv2,p2,_⟩:=I.list hqy
  have l1:=rv.length
  have l2:=rv2.length
  have he:its.toArray[i]?=none\/its2.toArray[i]?=none:=by
   rcases hend with q|q
   ·exact .inl (by simp;omega)
   ·exact .inr (by simp;omega)
  exact wpAny_pyNext_zip_end (I.ok.hd hc) D hz hTI hTO h1 h2 p.isList p2.isList he fun h' hk=>⟨rfl,I.turnedL (t':=s.toks) (ch:=[z,TI,TO,i1,i2]) (fun c o hb q =>
   hk c o (fun q'=>hb (by simp[q'])) (fun q'=>hb (by simp[q'])) (fun q'=>hb (by simp[q'])) (fun q'=>hb (by simp[q'])) q) hf⟩
 self:=fun A i s Q E st h=>wpAny_pyIter_zip st.1 h
def iZip(K:W.Frag)(ta:TA):TI:=fun σ H R=>ta σ H fun vs H1=>∃ a b xs ys,vs=[.ref a,.ref b]/\SqL K H1 a xs/\SqL K H1 b ys/\R (Itz K a b) H1
theorem pi_zip{X:Cx}{e e2:Expr}{ta:TA}{p pos tpos:Pos}{elts:List Expr}{kk:Nat}(hg:Gl X "zip")(hm:X.mg "zip"=none)(ha:PA X [e,e2] ta)(hs:starEach [e,e2] X.env=(false,eval e X.env)::starEach [e2] X.env:=by rfl)(hpl:(backTo pos (starEach [e2] X.env)).any (·.1)=false:=by rfl):PI X (.Tuple elts kk tpos) (.Call (.Name "zip" p) [e,e2] [] pos) (iZip X.K ta):=by
 intro pins s σ H R I h
 refine Call_ (ld_blt I hg hm boot_zip5 (PyProof.Rows.callWith_type1 (thn (ha pos pins s σ H _ I h) fun us s1 ⟨vs,H1,I1,r1,q1⟩=>?_) hs hpl))
 obtain⟨a,b,xs,ys,ex,hqx,hqy,q⟩:=q1
 subst ex
 cases r1 with
 |cons r rr =>
  cases rr with
  |cons r' rr =>
   cases rr
   cases r
   cases r'
   obtain⟨its,rv,p1,_⟩:=I1.list hqx
   obtain⟨its2,rv2,p2,_⟩:=I1.list hqy
   have la:a<s1.heap.objs.size:=p1.lt
   have lb:b<s1.heap.objs.size:=p2.lt
   refine call_zip_2 p1.isList p2.isList fun h' hz hTI hTO h1 h2 hsz hk=>wpAny_pyIter_zip hz ?_
   have I2:Inv X pins σ H1 { s1 with heap:=h' }:=I1.kept (t':=s1.toks) hk
   refine⟨s1.heap.objs.size+4,[s1.heap.objs.size+4,s1.heap.objs.size+2,s1.heap.objs.size+3,s1.heap.objs.size,s1.heap.objs.size+1],_,_,H1,rfl,I2,turn_zip (W.ktu_apart s1.heap.objs.size a b la lb),⟨hz,hTI,⟨_,_,hTO⟩,h1,h2⟩,fun c hcm=>?_,q⟩
   have e':c=s1.heap.objs.size+4\/c=s1.heap.objs.size+2\/c=s1.heap.objs.size+3\/c=s1.heap.objs.size\/c=s1.heap.objs.size+1:=by simpa using hcm
   have hle:s1.heap.objs.size<=c:=by
    rcases e' with z|z|z|z|z
    ·rw[z];exact Nat.le_add_right _ _
    ·rw[z];exact Nat.le_add_right _ _
    ·rw[z];exact Nat.le_add_right _ _
    ·rw[z];exact Nat.le_refl _
    ·rw[z];exact Nat.le_add_right _ _
   exact I1.fpOk hle (I1.hok.fresh hle)
end
end L2
namespace Bits
open PySem PyProof.Rows
theorem nat_xor_add_and(m:Nat):∀ n:Nat,(m ^^^ n)+2 * (m &&& n)=m+n:=by
 induction m using Nat.strongRecOn with
 |_ m ih =>
  intro n
  by_cases h0:m=0
  ·subst h0
   simp
  ·have ih':=ih (m / 2) (by omega) (n / 2)
   rw[<-Nat.xor_div_two,<-Nat.and_div_two] at ih'
   have o1:=@Nat.xor_mod_two_eq_one m n
   have a1:=@Nat.and_mod_two_eq_one m n
   omega
theorem bitXor_pp{x y:Int}(hx:0<=x)(hy:0<=y):Builtin.bitXor x y=((x.toNat ^^^ y.toNat:Nat):Int):=by
 have e:=nat_xor_add_and x.toNat y.toNat
 rw[bitXor_and,bitAnd_pp hx hy]
 omega
theorem bitOr_pp{x y:Int}(hx:0<=x)(hy:0<=y):Builtin.bitOr x y=((x.toNat ||| y.toNat:Nat):Int):=by
 have e:=nat_or_add_and x.toNat y.toNat
 rw[bitOr_and,bitAnd_pp hx hy]
 omega
end Bits
namespace TL
open PySem PySem.Builtin PySem.Builtin.Str PySem.StrLaws
abbrev tl(x:Str):List Nat:=x.cps.toList
theorem len_tl(x:Str):x.length=(tl x).length:=by simp[tl,Str.length]
theorem ext_tl{x y:Str}(h:tl x=tl y):x=y:=Str.ext' (Array.toList_inj.mp h)
theorem tl_append(x y:Str):tl (x++y)=tl x++tl y:=by
 show(x++y).cps.toList=_
 rw[Str.cps_append,Array.toList_append]
theorem map_tl_inj:∀{l m:List Str},l.map tl=m.map tl->l=m
 | [],[],_=>rfl
 | [],_::_,h=>by simp at h
 |_::_,[],h=>by simp at h
 |x::l,y::m,h=>by
  rw[List.map_cons,List.map_cons] at h
  injection h with h1 h2
  rw[ext_tl h1,map_tl_inj h2]
def pre(S l:List Nat):Bool:=l.take S.length==S
def spl(S:List Nat):Nat->List Nat->List Nat->List (List Nat)
 |_,acc,[]=>[acc]
 |0,acc,c::r=>if pre S (c::r)=true then acc::spl S (S.length-1) [] r else spl S 0 (acc++[c]) r
 |k+1,acc,_::r=>spl S k acc r
theorem spl_nil(S:List Nat)(k:Nat)(acc:List Nat):spl S k acc []=[acc]:=by cases k<;>rfl
theorem spl_hit{S acc r:List Nat}{c:Nat}(h:pre S (c::r)=true):spl S 0 acc (c::r)=acc::spl S (S.length-1) [] r:=by
 show(if pre S (c::r)=true then acc::spl S (S.length-1) [] r else spl S 0 (acc++[c]) r)=_
 rw[if_pos h]
theorem spl_miss{S acc r:List Nat}{c:Nat}(h:pre S (c::r)=false):spl S 0 acc (c::r)=spl S 0 (acc++[c]) r:=by
 show(if pre S (c::r)=true then acc::spl S (S.length-1) [] r else spl S 0 (acc++[c]) r)=_
 rw[if_neg (by rw[h];exact Bool.false_ne_true)]
theorem spl_pass(S:List Nat):∀(k:Nat)(acc l:List Nat),spl S k acc l=spl S 0 acc (l.drop k)
 |0,_,_=>by rw[List.drop_zero]
 |k+1,acc,[]=>by rw[List.drop_nil,spl_nil,spl_nil]
 |k+1,acc,c::r=>by
  show spl S k acc r=spl S 0 acc (r.drop k)
  exact spl_pass S k acc r
theorem pre_nil{S:List Nat}(hS:S≠[]):pre S []=false:=by
 cases S with
 |nil=>exact absurd rfl hS
 |cons s S=>rfl
theorem getElem_drop_cons{L:List Nat}{a:Nat}(h:a<L.length):∃ c,L.drop a=c::L.drop (a+1):=⟨L[a],List.drop_eq_getElem_cons h⟩
theorem spl_run(S L:List Nat):∀(m a:Nat)(acc:List Nat),a+m<=L.length->(∀ k,a<=k->k<a+m->pre S (L.drop k)=false)->spl S 0 acc (L.drop a)=spl S 0 (acc++(L.drop a).take m) (L.drop (a+m))
 |0,a,acc,_,_=>by rw[List.take_zero,List.append_nil,Nat.add_zero]
 |m+1,a,acc,h,hn=>by
  have hlt:a<L.length:=by omega
  obtain⟨c,e⟩:=getElem_drop_cons hlt
  have h0:=hn a (Nat.le_refl _) (by omega)
  have ih:=spl_run S L m (a+1) (acc++[c]) (by omega) (fun k h1 h2=>hn k (by omega) (by omega))
  have e2:a+1+m=a+(m+1):=by omega
  rw[e2] at ih
  rw[e] at h0
  rw[e,spl_miss h0,ih,List.take_succ_cons,List.append_assoc]<;>rfl
theorem drop_two(L:List Nat)(a b:Nat):(L.drop a).drop b=L.drop (a+b):=by
 first
  |rw[List.drop_drop]
  |rw[List.drop_drop,Nat.add_comm]
theorem spl_at{S L:List Nat}(hS:S≠[]){c:Nat}{acc:List Nat}(h:pre S (L.drop c)=true):spl S 0 acc (L.drop c)=acc::spl S 0 [] (L.drop (c+S.length)):=by
 rw[<-drop_two]
 cases e:L.drop c with
 |nil=>rw[e,pre_nil hS] at h;cases h
 |cons d r =>
  rw[e] at h
  rw[spl_hit h,spl_pass]
  cases S with
  |nil=>exact absurd rfl hS
  |cons s S=>rfl
theorem at_iff{x y:Str}(hy:tl y≠[])(i:Nat):At x y x.length i<->pre (tl y) ((tl x).drop i)=true:=by
 have hx:=len_tl x
 have hl:=len_tl y
 constructor
 ·intro h
  have h2:=h.2
  rw[subAt_eq,hl] at h2
  exact h2
 ·intro h
  have e:((tl x).drop i).take (tl y).length=tl y:=eq_of_beq h
  have e1:=congrArg List.length e
  rw[List.length_take,List.length_drop] at e1
  have e2:0<(tl y).length:=List.length_pos_iff.mpr hy
  refine⟨by omega,?_⟩
  rw[subAt_eq,hl]
  exact h
theorem no_at{x y:Str}(hy:tl y≠[]){i:Nat}(h:¬ At x y x.length i):pre (tl y) ((tl x).drop i)=false:=by
 cases hp:pre (tl y) ((tl x).drop i) with
 |false=>rfl
 |true=>exact absurd ((at_iff hy i).mpr hp) h
theorem len1{y:Str}(hy:tl y≠[]):1<=y.length:=by
 have e2:0<(tl y).length:=List.length_pos_iff.mpr hy
 rw[len_tl y]
 exact e2
theorem tl_strSub(x:Str)(i j:Nat):tl (strSub x i j)=((tl x).drop i).take (j-i):=strSub_toList x i j
theorem tl_strSub_end(x:Str)(i:Nat):tl (strSub x i x.length)=(tl x).drop i:=by
 rw[tl_strSub,len_tl x]
 exact List.take_of_length_le (by rw[List.length_drop]<;>omega)
theorem parts_spl{x y:Str}(hy:tl y≠[]):∀(cuts:List Nat)(a f:Nat),a<=(tl x).length->ChainG x y x.length a cuts f->(∀ k,f<=k->¬ At x y x.length k)->(partsFrom x y.length a cuts).map tl=spl (tl y) 0 [] ((tl x).drop a)
 | [],a,f,ha,h,hn=>by
  have e:f=a:=h
  subst e
  show [tl (strSub x f x.length)]=_
  have run:=spl_run (tl y) (tl x) ((tl x).length-f) f [] (by omega) (fun k h1 _=>no_at hy (hn k h1))
  have e2:f+((tl x).length-f)=(tl x).length:=by omega
  rw[e2,List.drop_length,spl_nil,List.nil_append,List.take_of_length_le (by rw[List.length_drop]<;>omega)] at run
  rw[run,tl_strSub_end]
 |c::r,a,f,ha,h,hn=>by
  obtain⟨h1,h2,h3,h4⟩:=h
  have hc:c+y.length<=x.length:=h2.1
  have hx:=len_tl x
  have hl:=len_tl y
  have ih:=parts_spl hy r (c+y.length) f (by omega) h4 hn
  show tl (strSub x a c)::(partsFrom x y.length (c+y.length) r).map tl=_
  have run:=spl_run (tl y) (tl x) (c-a) a [] (by omega) (fun k k1 k2=>no_at hy (h3 k k1 (by omega)))
  have e2:a+(c-a)=c:=by omega
  rw[e2,List.nil_append,spl_at hy ((at_iff hy c).mp h2)] at run
  rw[run,ih,tl_strSub,hl]
theorem split_spl(x y:Str)(hy:tl y≠[])(hk:¬ Builtin.Str.strKind x<Builtin.Str.strKind y):(Txt.split x y).map tl=spl (tl y) 0 [] (tl x):=by
 obtain⟨f,g,hn⟩:=occ_tight x y (len1 hy)
 have key:=parts_spl hy _ 0 f (Nat.zero_le _) g hn
 rw[List.drop_zero] at key
 have none_case:occurrences x y 0 x.length (x.length+1)=[]->[x].map tl=spl (tl y) 0 [] (tl x):=fun ho=>by
  rw[ho] at key
  rw[<-key]
  show [tl x]=[tl (strSub x 0 x.length)]
  rw[sub_whole]
 unfold Txt.split
 by_cases h1:(decide (x.length<y.length) || decide (Builtin.Str.strKind x<Builtin.Str.strKind y))=true
 ·rw[if_pos h1]
  have hlt:x.length<y.length:=by
   simp only[Bool.or_eq_true,decide_eq_true_eq] at h1
   rcases h1 with h|h
   ·exact h
   ·exact absurd h hk
  refine none_case ?_
  cases ho:occurrences x y 0 x.length (x.length+1) with
  |nil=>rfl
  |cons c r =>
   rw[ho] at g
   have hc:c+y.length<=x.length:=g.2.1.1
   omega
 ·rw[if_neg h1]
  by_cases h2:(occurrences x y 0 x.length (x.length+1)).isEmpty=true
  ·rw[if_pos h2]
   exact none_case (List.isEmpty_iff.mp h2)
  ·rw[if_neg h2,partsBetween_eq]
   exact key
def joinL(S:List Nat):List (List Nat)->List Nat
 | []=>[]
 | [p]=>p
 |p::q::r=>p++(S++joinL S (q::r))
theorem tl_join(y:Str):∀ parts:List Str,tl (Str.join y parts)=joinL (tl y) (parts.map tl)
 | []=>rfl
 | [_]=>rfl
 |x::z::r=>by
  show tl (x++y++Str.join y (z::r))=tl x++(tl y++joinL (tl y) ((z::r).map tl))
  rw[tl_append,tl_append,tl_join y (z::r),List.append_assoc]
theorem join_eq(y:Str)(parts:List Str):Txt.join y parts=Str.join y parts:=glued_eq_join y parts
def numL(n:Nat):List Nat:=(Nat.toDigits 10 n).map Char.toNat
theorem tl_num(n:Nat):tl (Str.ofString (toString ((n:Nat):Int)))=numL n:=W.KIN.signs_num n
theorem digitChar_nat:∀ d:Nat,d<10->(Nat.digitChar d).toNat=48+d:=by decide
theorem numL_lt{n:Nat}(h:n<10):numL n=[48+n]:=by
 unfold numL
 rw[Nat.toDigits_of_lt_base h]
 show [(Nat.digitChar n).toNat]=_
 rw[digitChar_nat n h]
theorem numL_step{n:Nat}(h:10<=n):numL n=numL (n / 10)++[48+n % 10]:=by
 have hm:n % 10<10:=Nat.mod_lt n (by decide)
 have t:Nat.toDigits 10 (n / 10)++Nat.toDigits 10 (n % 10)=Nat.toDigits 10 (10 * (n / 10)+n % 10):=Nat.toDigits_append_toDigits (by decide) (by omega) hm
 rw[Nat.div_add_mod] at t
 show(Nat.toDigits 10 n).map Char.toNat=_
 rw[<-t,List.map_append,Nat.toDigits_of_lt_base hm]
 show(Nat.toDigits 10 (n / 10)).map Char.toNat++[(Nat.digitChar (n % 10)).toNat]=_
 rw[digitChar_nat _ hm]<;>rfl
theorem numL_digits(n:Nat):NumText.AllDigits (numL n):=by
 induction n using Nat.strongRecOn with
 |_ n ih =>
  by_cases h:n<10
  ·rw[numL_lt h]
   intro c hc
   rw[List.mem_singleton.mp hc]
   omega
  ·rw[numL_step (by omega)]
   intro c hc
   rcases List.mem_append.mp hc with hc|hc
   ·exact ih (n / 10) (by omega) c hc
   ·have hm:n % 10<10:=Nat.mod_lt n (by decide)
    rw[List.mem_singleton.mp hc]
    omega
end TL
namespace L2
open PySem PySem.Spec PyProof.Rows
theorem vals_strs:∀ l:List (Str×Tok),bh ((l.map (·.1)).map V.str) (strValues l)
 | []=>.nil
 |p::r=>.cons ⟨p.2,rfl⟩ (vals_strs r)
theorem mz:∀{ys:List Str}{us:List Value},bh (ys.map V.str) us->StrsAre us ys
 | [],_,.nil=>.nil
 |y::ys,_,.cons r t=>by
  obtain⟨k,rfl⟩:=r
  exact .cons y k (mz t)
def rNewStrs(ys:List Str):Hp->VK->Prop:=fun H Q=>∀ p,H p=none->Q (.ref p) (upd H p (.lst (ys.map V.str)))
section
variable{X:Cx}{pins:List (Addr×Obj)}{σ:St}{H:Hp}{s:Shared}{Q:VK}
theorem laid_strs{l:List (Str×Tok)}{ys:List Str}{k:Nat}(I:Inv X pins σ H s)(e:l.map (·.1)=ys)(hz:ys.length<=sizeLine)(h:rNewStrs ys H Q):EP X pins σ Q (.ref s.heap.objs.size) { s with toks:=k,heap:=s.heap.push { cls:=.type "list",data:=.seq (strValues l).toArray } }:=by
 have hp:=I.hok.fresh (Nat.le_refl _)
 refine⟨.ref s.heap.objs.size,upd H s.heap.objs.size (.lst (ys.map V.str)),I.laid (fun b u q=>Heap.get?_push_of_some _ q) (Nat.le_refl _) ⟨by rw[List.length_map];exact hz,strValues l,_,?_,Heap.get?_push_size _ rfl⟩,rfl,h _ hp⟩
 rw[<-e]
 exact vals_strs l
theorem mt_split:MtR X "str.split" (fun x xs H Q=>∃ a b,x=.str a/\xs=[.str b]/\(b.length==0)=false/\a.length+2<=sizeLine/\rNewStrs (Txt.split a b) H Q):=by
 intro pins s σ H x xs v us Q I rx rs h
 obtain⟨a,b,rfl,rfl,hb,hz,h⟩:=h
 obtain⟨t,rfl⟩:=rx
 cases rs with
 |cons r1 rs =>
  cases rs
  obtain⟨u,rfl⟩:=r1
  have hl:(Txt.split a b).length<=sizeLine:=Nat.le_trans (PyProof.Rows.split_le a b) hz
  have hn:(Builtin.Str.partsBetween a (Builtin.Str.occurrences a b 0 a.length (a.length+1)) b.length).length<=sizeLine:=by
   have e1:=StrLaws.occ_length_le a b 0 a.length (a.length+1)
   rw[length_partsBetween];omega
  cases h1:(decide (a.length<b.length) || decide (Builtin.Str.strKind a<Builtin.Str.strKind b))
  ·cases hf:(Builtin.Str.occurrences a b 0 a.length (a.length+1)).isEmpty
   ·refine call_meets F.slot_str_split (typeIs_str _ _ _) F.entry_str_split (F.args_str_split_2 _ _) (meets_str_split_sep a b t u h1 hb hf (by omega) hn) ?_
    show EP X pins σ Q (.ref s.heap.objs.size) { s with toks:=_,heap:=s.heap.push { cls:=.type "list",data:=.seq (strsFrom s.toks (Builtin.Str.partsBetween a (Builtin.Str.occurrences a b 0 a.length (a.length+1)) b.length)).toArray } }
    rw[strsFrom_eq]
    exact laid_strs (ys:=Txt.split a b) I ((numbered_texts _ _).trans ((if_neg (ne_true_of_eq_false h1)).trans (if_neg (ne_true_of_eq_false hf))).symm) hl h
   ·refine call_meets F.slot_str_split (typeIs_str _ _ _) F.entry_str_split (F.args_str_split_2 _ _) (meets_str_split_not_found a b t u h1 hb hf) ?_
    exact laid_strs (l:=[(a,t)]) (ys:=Txt.split a b) (k:=s.toks) I ((if_neg (ne_true_of_eq_false h1)).trans (if_pos hf)).symm hl h
  ·refine call_meets F.slot_str_split (typeIs_str _ _ _) F.entry_str_split (F.args_str_split_2 _ _) (meets_str_split_cannot_occur a b t u h1) ?_
   exact laid_strs (l:=[(a,t)]) (ys:=Txt.split a b) (k:=s.toks) I (if_pos h1).symm hl h
theorem mt_join:MtR X "str.join" (fun x xs H Q=>∃ a p,∃ ys:List Str,x=.str a/\xs=[.ref p]/\(SqL X.K H p (ys.map V.str)\/SqT X.K H p (ys.map V.str))/\(ys.map (·.length)).sum+ys.length * a.length<=16777216/\Q (.str (Txt.join a ys)) H):=by
 intro pins s σ H x xs v us Q I rx rs h
 obtain⟨a,p,ys,rfl,rfl,hp,hz,h⟩:=h
 obtain⟨t,rfl⟩:=rx
 cases rs with
 |cons r1 rs =>
  cases rs
  cases r1
  rcases hp with hp|hp
  ·obtain⟨its,r,⟨o,n,ho,hc,_,hd⟩,_⟩:=I.list hp
   exact PyProof.Rows.join_list (items:=its.toArray) ⟨o,ho,hc,n,hd⟩ (by rw[List.toList_toArray];exact mz r) hz fun t' k=>⟨.str _,H,I.tok k,⟨t',rfl⟩,h⟩
  ·obtain⟨its,r,ht,_⟩:=I.tuple hp
   exact PyProof.Rows.join_tuple (items:=its.toArray) ht (by rw[List.toList_toArray];exact mz r) hz fun t' k=>⟨.str _,H,I.tok k,⟨t',rfl⟩,h⟩
theorem mt1{id:String}{g:Str->Str->V}(rule:∀(a b:Str)(t u:Tok)(s:Shared)(Q:Value->Shared->Prop),(∀(v:Value)(k:Nat),RelV (g a b) v->Q v { s with toks:=k })->wpAny (model X.prog X.w) X.A (call (.builtin id) [.str a t,.str b u]) Q X.xe s):MtR X id (fun x xs H Q=>∃ a b,x=.str a/\xs=[.str b]/\Q (g a b) H):=by
 intro pins s σ H x xs v us Q I rx rs h
 obtain⟨a,b,rfl,rfl,h⟩:=h
 obtain⟨t,rfl⟩:=rx
 cases rs with
 |cons r1 rs =>
  cases rs
  obtain⟨u,rfl⟩:=r1
  exact rule a b t u s _ fun v k r=>⟨g a b,H,I.tok k,r,h⟩
theorem mt_startswith:MtR X "str.startswith" (fun x xs H Q=>∃ a b,x=.str a/\xs=[.str b]/\Q (.bl (Txt.startswith a b)) H):=mt1 (g:=fun a b=>.bl (Txt.startswith a b)) fun _ _ _ _ s _ h=>PySem.SC.startswith (h _ s.toks rfl)
theorem call_int_str:CallR X (.type "int") (fun xs H Q=>∃ a n,xs=[.str a]/\PySem.intText? a=some n/\a.length<=640/\Q (.int n) H):=by
 intro pins s σ H xs us Q I rs h
 obtain⟨a,n,rfl,hn,hl,h⟩:=h
 cases rs with
 |cons r1 rs =>
  cases rs
  obtain⟨t,rfl⟩:=r1
  exact W.KIN.call_text hn hl ⟨.int n,H,I.tok _,⟨_,rfl⟩,h⟩
end
section
variable{X:Cx}{o e:Expr}{to te:TE}
def tM1(r:V->List V->Hp->VK->Prop)(to te:TE):TE:=fun σ H Q=>to σ H fun x H1=>(∃ a,x=.str a)/\te σ H1 fun y H2=>r x [y] H2 Q
theorem pe_m1{id:String}{name:Str}{apos pos:Pos}{r:V->List V->Hp->VK->Prop}(slot:Slot "str" name id)(ty:typeOf (.builtin id)=pure (.type "method_descriptor"))(rule:MtR X id r)(ho:PE X o to)(he:PE X e te)(hs:starEach [e] X.env=[(false,eval e X.env)]:=by rfl)(hbase:attributeBase o name X.env (eval o X.env)=eval o X.env:=by rfl)(hline:(apos.endLine==pos.line)=true:=by rfl):PE X (.Call (.Attribute o name apos) [e] [] pos) (tM1 r to te):=by
 intro pins s σ H Q I h
 refine PySem.Call_method1 hbase hs hline (thn (ho pins s σ H _ I h) fun v s1 ⟨x,H1,I1,r1,q1⟩=>?_)
 obtain⟨⟨a,rfl⟩,q1⟩:=q1
 obtain⟨t,rfl⟩:=_root_.id r1
 refine⟨"str",_,F.plainAttrs_str,slot,ty,typeIs_str _ _ _,(fun _ e=>nomatch e),Calls.callWith_builtin rfl (Calls.evalArgs_plain (Calls.spliced_cons ?_))⟩
 exact thn (he pins s1 σ H1 _ I1 q1) fun u s2 ⟨y,H2,I2,r2,q2⟩=>Calls.spliced_nil (rule pins s2 σ H2 _ [y] _ [u] Q I2 r1 (.cons r2 .nil) q2)
theorem pe_split{apos pos:Pos}(ho:PE X o to)(he:PE X e te)(hs:starEach [e] X.env=[(false,eval e X.env)]:=by rfl)(hbase:attributeBase o "split" X.env (eval o X.env)=eval o X.env:=by rfl)(hline:(apos.endLine==pos.line)=true:=by rfl):PE X (.Call (.Attribute o "split" apos) [e] [] pos) (tM1 (fun x xs H Q=>∃ a b,x=.str a/\xs=[.str b]/\(b.length==0)=false/\a.length+2<=sizeLine/\rNewStrs (Txt.split a b) H Q) to te):=pe_m1 F.slot_str_split F.type_str_split mt_split ho he hs hbase hline
theorem pe_join{apos pos:Pos}(ho:PE X o to)(he:PE X e te)(hs:starEach [e] X.env=[(false,eval e X.env)]:=by rfl)(hbase:attributeBase o "join" X.env (eval o X.env)=eval o X.env:=by rfl)(hline:(apos.endLine==pos.line)=true:=by rfl):PE X (.Call (.Attribute o "join" apos) [e] [] pos) (tM1 (fun x xs H Q=>∃ a p,∃ ys:List Str,x=.str a/\xs=[.ref p]/\(SqL X.K H p (ys.map V.str)\/SqT X.K H p (ys.map V.str))/\(ys.map (·.length)).sum+ys.length * a.length<=16777216/\Q (.str (Txt.join a ys)) H) to te):=pe_m1 F.slot_str_join F.type_str_join mt_join ho he hs hbase hline
theorem op_in_sign:OpR X (compareOp .In) (fun x y H Q=>∃(c:Nat)(z:Str),x=.str ⟨#[c]⟩/\y=.str z/\Q (.bl (decide (c∈z.cps.toList))) H):=by
 intro pins s σ H x y v u Q I rx ry h
 obtain⟨c,z,rfl,rfl,q⟩:=h
 obtain⟨t,rfl⟩:=rx
 obtain⟨t',rfl⟩:=ry
 exact PyProof.Rows.in_str (bx I q (PySem.StrLaws.found_one z c).symm)
theorem op_notIn_sign:OpR X (compareOp .NotIn) (fun x y H Q=>∃(c:Nat)(z:Str),x=.str ⟨#[c]⟩/\y=.str z/\Q (.bl (!decide (c∈z.cps.toList))) H):=by
 intro pins s σ H x y v u Q I rx ry h
 obtain⟨c,z,rfl,rfl,q⟩:=h
 obtain⟨t,rfl⟩:=rx
 obtain⟨t',rfl⟩:=ry
 exact PyProof.Rows.notIn_str (bx I q (congrArg Bool.not (PySem.StrLaws.found_one z c).symm))
def bb(s:Stmt)(j:Nat):Stmt:=match s with
 |.ClassDef _ _ _ body _ _ _ _ _ _ _=>body.getD j (.Pass ⟨0,0,0,0⟩)
 |_=>.Pass ⟨0,0,0,0⟩
def mh(s:Stmt):Arguments:=match s with
 |.FunctionDef _ a _ _ _ _ _ _ _ _=>a
 |_=>{ posonlyargs:=[],args:=[],vararg:=none,kwonlyargs:=[],kw_defaults:=[],kwarg:=none,defaults:=[] }
def ju(s:Stmt):List Stmt:=match s with
 |.FunctionDef _ _ b _ _ _ _ _ _ _=>b
 |_=>[]
def al(s:Stmt):Scope:=match s with
 |.FunctionDef _ _ _ _ _ _ sc _ _ _=>sc
 |_=>{ kind:=.function,names:=[],isGenerator:=false,isCoroutine:=false }
abbrev CX0:CXT:=fun _ _ _ _ _ _=>False
abbrev E0:XK:=fun _ _ _=>False
theorem cj{X:Cx}:jp CX0 X E0:=fun _ _ _ _ _ _ _ h=>h.elim
end
structure Fun(K:W.Frag)(x qual:Str)(st:Stmt)(f:Addr)(fd:FuncData):Prop where
 ex:∃(oc:Value)(od:Option Addr)(kV doc pm:Value)(an:Option Addr)(cdv ct:Value)(osl:Array (Option Value)),
  fd=W.fnOf x qual (mh st) (ju st) (al st) .none kV doc pm an cdv ct/\K.lookup f=some ⟨oc,od,.func fd,osl⟩/\W.codeIn K cdv qual=true
 kp:W.keepIn K (.ref f)=true
section
variable{P:Program}{w:World}{K:PySem.W.Frag}{mg:Str->Option Value}{base:Heap}
theorem Fun.ok{x qual:Str}{st:Stmt}{f:Addr}{fd:FuncData}{N ps:List Str}{k:Nat}{sp:Sp}(F:Fun K x qual st f fd)(S:au N ps (al st))(len:∀ vs H Q E,sp vs H Q E->vs.length=ps.length)(hbody:∀(cdv:Value)(A:Around)(outer:List Env)(s:Shared)(H:Hp)(vs:List V)(Q:VK)(E:XK),fm k (A.deeper (envOfC qual (al st) s.heap.objs.size f cdv))->sp vs H Q E->∃ t,PSs (mi CX0 P w K mg base N qual (al st) f cdv A outer s H E).nox (ju st) t/\t { nx:=fun _ H'=>Q .non H',rt:=Q } (start N vs) H):bq P w K mg base CX0 (k+1) f fd ps sp:=by
 obtain⟨oc,od,kV,doc,pm,an,cdv,ct,osl,rfl,lk,hcd⟩:=F.ex
 refine fn_of lk hcd S len fun A outer s H vs Q E hr hsp=>?_
 obtain⟨t,h,q⟩:=hbody cdv A outer s H vs Q E hr hsp
 exact⟨t,h.nox,q⟩
theorem Fun.binds{x qual:Str}{st:Stmt}{f:Addr}{fd:FuncData}{ps:List Str}(F:Fun K x qual st f fd)(h:∀(kV doc pm:Value)(an:Option Addr)(cdv ct:Value)(us:List Value),us.length=ps.length->bindArgs (W.fnOf x qual (mh st) (ju st) (al st) .none kV doc pm an cdv ct) ⟨us,[]⟩=pure (ps.zip us)):Binds K fd ps []:=by
 obtain⟨oc,od,kV,doc,pm,an,cdv,ct,osl,rfl,lk,hcd⟩:=F.ex
 exact .all (h kV doc pm an cdv ct)
theorem fun_mk{x qual:Str}{st:Stmt}{f:Addr}{oc:Value}{od an:Option Addr}{osl:Array (Option Value)}{kV doc pm cdv ct:Value}(l:K.lookup f=some ⟨oc,od,.func (W.fnOf x qual (mh st) (ju st) (al st) .none kV doc pm an cdv ct),osl⟩)(c:W.codeIn K cdv qual=true)(k:W.keepIn K (.ref f)=true):Fun K x qual st f (W.fnOf x qual (mh st) (ju st) (al st) .none kV doc pm an cdv ct):=⟨⟨oc,od,kV,doc,pm,an,cdv,ct,osl,rfl,l,c⟩,k⟩
theorem hu_of{A:Around}{k:Nat}(hr:fm k A):A.units+1<cLine:=Nat.lt_of_le_of_lt (Nat.add_le_add_left (by decide:1<=64) _) hr.units
theorem bw{n:Nat}(h:n<=1000):n<sizeLine:=Nat.lt_of_le_of_lt h (by decide)
end
section
variable{X:Cx}
theorem pv(i:Nat){x:Str}{pos:Pos}(hN:X.N[i]?=some x:=by rfl)(hv:Vis X.env.scope x:=by first|exact Or.inl rfl|exact Or.inr (Or.inl rfl)|exact Or.inr (Or.inr rfl))(hd:(x==("__debug__":Str))=false:=by decide)(hcd:(x==("__classdict__":Str))=false:=by decide):PE X (.Name x pos) (gf i):=pe_var hN hv hd hcd
theorem ite2{c A B:Prop}[Decidable c](h1:c->A)(h2:¬ c->B):if c then A else B:=by
 by_cases h:c
 ·rw[if_pos h]
  exact h1 h
 ·rw[if_neg h]
  exact h2 h
def ak(H H':Hp):Prop:=∀ b o,H b=some o->H' b=some o
theorem ak.refl(H:Hp):ak H H:=fun _ _ h=>h
theorem ak.trans{H H1 H2:Hp}(a:ak H H1)(b:ak H1 H2):ak H H2:=fun c o h=>b c o (a c o h)
theorem ak.free{H H':Hp}(e:ak H H'){l:Addr}(h:H' l=Option.none):H l=Option.none:=by
 cases q:H l with
 |none=>rfl
 |some o =>
  rw[e l o q] at h
  cases h
theorem ak.seq{K:W.Frag}{H H':Hp}{a:Addr}{xs:List V}(e:ak H H')(h:SqL K H a xs):SqL K H' a xs:=by
 rcases h with(h|⟨o,h⟩)|h
 ·exact .inl (.inl (e _ _ h))
 ·exact .inl (.inr ⟨o,e _ _ h⟩)
 ·exact .inr h
end
section
variable{κ:Type}[DecidableEq κ]
theorem nd_snoc:∀{l:List κ}{k:κ},l.Nodup->¬ k∈l->(l++[k]).Nodup
 | [],k,_,_=>by simp
 |a::r,k,h,hk=>by
  obtain⟨h1,h2⟩:=List.nodup_cons.mp h
  show(a::(r++[k])).Nodup
  refine List.nodup_cons.mpr ⟨fun m=>?_,nd_snoc h2 fun m=>hk (List.mem_cons.mpr (Or.inr m))⟩
  rcases List.mem_append.mp m with q|q
  ·exact h1 q
  ·exact hk (List.mem_cons.mpr (Or.inl (List.mem_singleton.mp q).symm))
end
theorem nd_ix{α:Type}{l:List α}(hN:l.Nodup){i j:Nat}{x:α}(a:l[i]?=some x)(b:l[j]?=some x):i=j:=by
 obtain⟨h1,e1⟩:=List.getElem?_eq_some_iff.mp a
 obtain⟨h2,e2⟩:=List.getElem?_eq_some_iff.mp b
 exact(List.getElem_inj hN).mp (e1.trans e2.symm)
def dh(h:Heap)(ex C:Addr)(dxo:Option Addr)(v1:Value):Prop:=∃(oe:Obj)(vs:Array Value),h.get? ex=some oe/\oe.cls=.ref C/\oe.dict=dxo/\oe.data=.fields vs/\vs.size=6/\(dxo=none->vs[2]?=some .none)/\vs[1]?=some v1
def TbAt(h:Heap)(T:Addr)(fl:Value):Prop:=∃(oT:Obj)(ts:Array Value),h.get? T=some oT/\oT.data=.fields ts/\ts[3]?=some fl
def Calm1(h:Heap)(ex:Addr)(v1:Value):Prop:=v1=.none\/∃ T,v1=.ref T/\T≠ex/\TbAt h T .none
structure Noted(fr:List Addr)(ex:Addr)(h h':Heap):Prop where
 keep:∀ b o,b∉fr->b≠ex->h.get? b=some o->h'.get? b=some o
 slot:∀ b o,b∈fr->h.get? b=some o->∃ sl,h'.get? b=some { o with slots:=sl }
theorem dh.kept{h h':Heap}{ex C:Addr}{dxo:Option Addr}{v1:Value}(x:dh h ex C dxo v1)(k:∀ o,h.get? ex=some o->h'.get? ex=some o):dh h' ex C dxo v1:=by
 obtain⟨oe,vs,a,r⟩:=x
 exact⟨oe,vs,k _ a,r⟩
section
variable{M:Model}{A:Around}{E:Value->Shared->Prop}{s:Shared}
theorem note_tail{base:Heap}{env:Env}{outer:List Env}{L ex C:Addr}{dxo:Option Addr}{v1 head:Value}{hadNext:Bool}{Q:Unit->Shared->Prop}(hfr:A.frames=some (env::outer))(hl:s.heap.FunFrames base (env::outer))(hf:env.frame=some L)(hx:dh s.heap ex C dxo v1)(h:∀ h' T',Noted (frs (env::outer)) ex s.heap h'->s.heap.get? T'=none->dh h' ex C dxo (.ref T')->T'≠ex->TbAt h' T' (rawInt L)->Q () { s with heap:=h' }) :
  wpAny M A (do let a <-frameOf env;let pl <-entryPlaceOf L hadNext;let b <-EntryCells.newEntry head a .none (rawInt L) .none pl;setField (.ref ex) 1 b) Q E s:=by
 obtain⟨oe,vs,he,hc,hdx,hd,hsz,hcx,h1⟩:=hx
 have nfr:ex∉frs (env::outer):=fun hm=>by
  obtain⟨_,o,ho,hnf⟩:=hl.mem hm
  rw[he] at ho
  cases ho
  exact hnf vs hd
 refine wpAny_bind (wpAny_frameOf_fun hfr hl hf fun g1 so=>wpAny_bind (wpAny_entryPlaceOf fun pl hpl=>?_))
 unfold EntryCells.newEntry newFields
 refine wpAny_bind (wpAny_newObj_type ?_ (hpl.sizeOk5 _ _ _ _ _))
 generalize hrec:({ cls:=.type "traceback",dict:=none,data:=.fields ([head,.ref L,.none,rawInt L,.none]++(if pl.isEmpty then List.replicate 6 Value.none else pl)).toArray }:Obj)=rec
 have hrd:rec.data=.fields ([head,.ref L,.none,rawInt L,.none]++(if pl.isEmpty then List.replicate 6 Value.none else pl)).toArray:=by rw[<-hrec]
 have e1:g1.get? ex=some oe:=(so.2.1 ex nfr).trans he
 have e2:(g1.push rec).get? ex=some oe:=Heap.get?_push_of_some _ e1
 have lt1:ex<g1.objs.size:=Heap.lt_size e1
 refine wpAny_setField e2 hd (by omega) ?_
 have dm:=Obj.data_mapFields hd (·.setIfInBounds 1 (Value.ref g1.objs.size))
 have e3:=Heap.get?_update_self (Obj.mapFields (·.setIfInBounds 1 (Value.ref g1.objs.size))) e2 (Obj.isFreed_of_fields dm)
 have t3:((g1.push rec).update ex (Obj.mapFields (·.setIfInBounds 1 (Value.ref g1.objs.size)))).get? g1.objs.size=some rec :=
  (Heap.get?_update_other _ _ (Nat.ne_of_lt lt1)).trans (Heap.get?_push_size g1 (by rw[<-hrec];rfl))
 have kp:∀ b o,b≠ex->g1.get? b=some o->((g1.push rec).update ex (Obj.mapFields (·.setIfInBounds 1 (Value.ref g1.objs.size)))).get? b=some o:=fun b o nb q=>by
  rw[Heap.get?_update_other _ _ (Ne.symm nb)]
  exact Heap.get?_push_of_some _ q
 refine h _ g1.objs.size ⟨fun b o nb nx q=>kp b o nx ((so.2.1 b nb).trans q),fun b o mb q=>?_⟩ (Heap.get?_none_of_le (Nat.le_of_eq so.1.symm)) ⟨_,_,e3,?_,?_,dm,by rw[Array.size_setIfInBounds];exact hsz,fun z=>?_,?_⟩ (Nat.ne_of_gt lt1) ⟨rec,_,t3,hrd,?_⟩
 ·obtain⟨sl,q2⟩:=so.2.2 b o q
  exact⟨sl,kp b _ (fun z=>nfr (z▸mb)) q2⟩
 ·rw[Obj.cls_mapFields];exact hc
 ·obtain⟨c,dd,da,sl⟩:=oe
  dsimp only at hd
  subst hd
  exact hdx
 ·rw[Array.getElem?_setIfInBounds_ne (by decide)]
  exact hcx z
 ·rw[Array.getElem?_setIfInBounds]
  simp[show 1<vs.size by omega]
 ·first|(simp;done)|(rcases hpl with rfl|⟨_,_,_,_,_,_,_,rfl⟩<;>simp)
theorem note_any{base:Heap}{env:Env}{outer:List Env}{L ex C:Addr}{dxo:Option Addr}{v1:Value}{Q:Unit->Shared->Prop}(hfr:A.frames=some (env::outer))(hl:s.heap.FunFrames base (env::outer))(hf:env.frame=some L)(hx:dh s.heap ex C dxo v1)(hv:Calm1 s.heap ex v1)(h:∀ h' T',Noted (frs (env::outer)) ex s.heap h'->s.heap.get? T'=none->dh h' ex C dxo (.ref T')->T'≠ex->TbAt h' T' (rawInt L)->Q () { s with heap:=h' }):wpAny M A (noteFrame (.ref ex) env) Q E s:=by
 obtain⟨oe,vs,he,hc,hdx,hd,hsz,hcx,h1⟩:=id hx
 unfold noteFrame
 simp only[hf]
 refine wpAny_bind (wpAny_field he hd h1 ?_)
 rcases hv with rfl|⟨T,rfl,nT,oT,ts,hT,hdT,h3⟩
 ·rw[if_neg (by decide)]
  exact note_tail hfr hl hf hx h
 ·rw[if_pos (show(Value.ref T != Value.none)=true by simp)]
  refine wpAny_bind (wpAny_field hT hdT h3 ?_)
  rw[if_neg (show ¬(Value.none==rawInt L)=true by simp[rawInt])]
  refine wpAny_bind (wpAny_setField hT hdT (Array.getElem?_eq_some_iff.mp h3).1 ?_)
  rw[Heap.update_setField_same s.heap T oT ts 3 .none hT hdT h3]
  exact note_tail hfr hl hf hx h
theorem land_any{ex T C:Addr}{dxo:Option Addr}{fl:Value}{Q:Unit->Shared->Prop}(hx:dh s.heap ex C dxo (.ref T))(nT:T≠ex)(ht:TbAt s.heap T fl)(h:∀ h',(∀ b o,b≠T->s.heap.get? b=some o->h'.get? b=some o)->dh h' ex C dxo (.ref T)->TbAt h' T .none->Q () { s with heap:=h' }):wpAny M A (setFlight (.ref ex) none) Q E s:=by
 obtain⟨oe,vs,he,hc,hdx,hd,hsz,hcx,h1⟩:=id hx
 obtain⟨oT,ts,hT,hdT,h3⟩:=ht
 have lt3:3<ts.size:=(Array.getElem?_eq_some_iff.mp h3).1
 unfold setFlight
 refine wpAny_bind (wpAny_field he hd h1 ?_)
 rw[if_pos (show(Value.ref T != Value.none)=true by simp)]
 have oth:∀ b o,b≠T->s.heap.get? b=some o->(s.heap.update T (Obj.mapFields (·.setIfInBounds 3 ((none:Option Addr).elim Value.none fun f=>rawInt f)))).get? b=some o:=fun b o nb q=>(Heap.get?_update_other _ _ (Ne.symm nb)).trans q
 refine wpAny_setField hT hdT lt3 (h _ oth (hx.kept fun o q=>oth ex o (Ne.symm nT) q) ⟨_,_,Heap.get?_update_self _ hT (Obj.isFreed_of_fields (Obj.data_mapFields hdT _)),Obj.data_mapFields hdT _,?_⟩)
 simp[lt3]
theorem leave_any{base:Heap}{env:Env}{outer:List Env}{L ex C:Addr}{dxo:Option Addr}{v1:Value}{Q:Unit->Shared->Prop}(hfr:A.frames=some (env::outer))(hl:s.heap.FunFrames base (env::outer))(hf:env.frame=some L)(hx:dh s.heap ex C dxo v1)(hv:Calm1 s.heap ex v1)(h:∀ h' T',Noted (frs (env::outer)) ex s.heap h'->s.heap.get? T'=none->dh h' ex C dxo (.ref T')->T'≠ex->TbAt h' T' .none->Q () { s with heap:=h' }):wpAny M A (leaving env (.ref ex)) Q E s:=by
 unfold leaving
 refine wpAny_bind (note_any hfr hl hf hx hv fun g1 T nt fT x1 nT t1=>?_)
 refine land_any (s:={ s with heap:=g1 }) x1 nT t1 fun g2 k2 x2 t2=>?_
 have neT:∀ b o,s.heap.get? b=some o->b≠T:=fun b o q z=>by rw[z,fT] at q;cases q
 refine h g2 T ⟨fun b o nb nx q=>k2 b o (neT b o q) (nt.keep b o nb nx q),fun b o mb q=>?_⟩ fT x2 nT t2
 obtain⟨sl,q2⟩:=nt.slot b o mb q
 exact⟨sl,k2 b _ (neT b o q) q2⟩
def Fx(P:Program)(w:World):CXT:=fun outer H s E e s'=>∃(ex T C:Addr)(dxo:Option Addr)(H':Hp),e=.ref ex/\s'.os=s.os/\AllBare s'.gens/\Un (frs outer) [] H H' s.heap s'.heap/\HOk P w H' s'.heap/\dh s'.heap ex C dxo (.ref T)/\T≠ex/\TbAt s'.heap T .none/\s.heap.get? ex=none/\s.heap.get? T=none/\H' ex=none/\H' T=none/\E (.ref C) dxo H'
theorem di.there{P:Program}{w:World}{H:Hp}{h:Heap}{a:Addr}{o:HO}(x:di P w H h a o):∃ u,h.get? a=some u:=by
 cases o with
 |lst xs=>obtain⟨_,_,_,_,e⟩:=x;exact⟨_,e⟩
 |tup xs=>obtain⟨_,_,_,ob,e,_⟩:=x;exact⟨ob,e⟩
 |dK kvs=>obtain⟨_,_,_,_,ob,_,_,e,_⟩:=x;exact⟨ob,e⟩
 |dT kvs=>obtain⟨_,_,_,_,ob,_,_,e,_⟩:=x;exact⟨ob,e⟩
 |set S n=>obtain⟨ob,_,_,_,e,_⟩:=x;exact⟨ob,e⟩
 |ins C dx fs=>obtain⟨_,_,_,e,_⟩:=x;exact⟨_,e⟩
 |own y=>exact x
 |xd fs=>obtain⟨_,⟨ob,_,_,e,_⟩,_⟩:=x;exact⟨ob,e⟩
 |rng lo hi=>obtain⟨_,_,_,e⟩:=x;exact⟨_,e⟩
 |frz ob u=>obtain⟨e,_⟩:=x;exact⟨_,e⟩
 |tbl ps=>exact⟨_,x⟩
 |met f y=>exact⟨_,x⟩
 |ext φ=>obtain⟨_,e,_⟩:=x;exact e
theorem HOk.none_of{P:Program}{w:World}{H:Hp}{h:Heap}{a:Addr}(x:HOk P w H h)(e:h.get? a=none):H a=none:=by
 cases q:H a with
 |none=>rfl
 |some o =>
  obtain⟨u,z⟩:=(x a o q).there
  rw[e] at z
  cases z
theorem HOk.noted{P:Program}{w:World}{H:Hp}{h h':Heap}{fr:List Addr}{ex:Addr}(x:HOk P w H h)(n:Noted fr ex h h')(hf:∀ b∈fr,H b=none)(hx:H ex=none):HOk P w H h':=fun a o e=>by
 refine(x a o e).stay (fun b u hb q=>n.keep b u (fun z=>?_) (fun z=>?_) q) (fun _ q=>q) fun _ _ q=>q
 ·have hz:=hf b z
  rcases hb with rfl|hb
  ·rw[e] at hz;cases hz
  ·rw[hb] at hz;cases hz
 ·rcases hb with rfl|hb
  ·rw[z,hx] at e;cases e
  ·rw[z,hx] at hb;cases hb
end
section
variable{P:Program}{w:World}{K:PySem.W.Frag}{mg:Str->Option Value}{base:Heap}{N:List Str}{qual:Str}{scope:Scope}{f:Addr}{cd:Value}{A:Around}{outer:List Env}{s0:Shared}{H0:Hp}{E0:XK}
theorem xe_leave{pins:List (Addr×Obj)}{σ:St}{H:Hp}{s:Shared}{ex C:Addr}{dxo:Option Addr}{v1:Value}(I:Inv (mi (Fx P w) P w K mg base N qual scope f cd A outer s0 H0 E0) pins σ H s)(hx:dh s.heap ex C dxo v1)(hv:Calm1 s.heap ex v1)(hn:H ex=none)(h0:s0.heap.get? ex=none)(hE:E0 (.ref C) dxo H):(mi (Fx P w) P w K mg base N qual scope f cd A outer s0 H0 E0).xe (.ref ex) s:=by
 refine leave_any (base:=base) I.ok.frames I.stack rfl hx hv fun h' T nt fT x1 nT t1=>?_
 have neL:∀ b o,s0.heap.get? b=some o->b≠s0.heap.objs.size:=fun b o q=>Nat.ne_of_lt (Heap.lt_size q)
 have nex:∀ b o,s0.heap.get? b=some o->b≠ex:=fun b o q z=>by rw[z,h0] at q;cases q
 have fr2:∀ b o,s0.heap.get? b=some o->b∉frs outer->b∉frs (envOfC qual scope s0.heap.objs.size f cd::outer):=fun b o q nb z=>by
  rcases List.mem_cons.mp (show b∈s0.heap.objs.size::frs outer from z) with z|z
  ·exact neL b o q z
  ·exact nb z
 have noex:∀ b:Addr,b∉([]:List Addr):=fun b=>by simp
 have Un1:Un (frs outer) [] H0 H s0.heap s.heap:=I.base
 refine⟨ex,T,C,dxo,H,rfl,I.os,I.bare,⟨fun b o q n nb _=>?_,fun b o q n mb _=>?_,Un1.free,fun b o q _=>?_,Un1.tups,Un1.frzs,Un1.tbls⟩,I.hok.noted nt I.stkFree hn,x1,nT,t1,h0,?_,hn,I.hok.none_of fT,hE⟩
 ·exact nt.keep b o (fr2 b o q nb) (nex b o q) (Un1.keep b o q n nb (noex b))
 ·obtain⟨sl,e1⟩:=Un1.slot b o q n mb (noex b)
  obtain⟨sl2,e2⟩:=nt.slot b _ (List.mem_cons_of_mem _ mb) e1
  exact⟨sl2,e2⟩
 ·obtain⟨o',e1⟩:=Un1.there b o q (noex b)
  by_cases hb:b∈frs (envOfC qual scope s0.heap.objs.size f cd::outer)
  ·obtain⟨sl2,e2⟩:=nt.slot b _ hb e1
   exact⟨_,e2⟩
  ·exact⟨_,nt.keep b o' hb (nex b o q) e1⟩
 ·cases q:s0.heap.get? T with
  |none=>rfl
  |some o =>
   obtain⟨o',e1⟩:=Un1.there T o q (noex T)
   rw[fT] at e1
   cases e1
theorem dj:jp (Fx P w) (mi (Fx P w) P w K mg base N qual scope f cd A outer s0 H0 E0) E0:=by
 rintro pins σ H s e s' I ⟨ex,T,C,dxo,H',rfl,os,bare,un,hok,hx,nT,ht,f1,f2,n1,n2,hE⟩
 have I':=I.call' os un hok bare (ch:=[]) (fun b z=>absurd z (by simp))
 refine xe_leave I' hx (.inr ⟨T,rfl,nT,ht⟩) n1 ?_ hE
 cases q:s0.heap.get? ex with
 |none=>rfl
 |some o =>
  obtain⟨o',e1⟩:=I.base.there ex o q (by show ex∉([]:List Addr);simp)
  rw[f1] at e1
  cases e1
abbrev bmV:List Value:=[.type "ValueError",.type "Exception",.type "BaseException",.type "object"]
def strKeyed(es:Array DictEntry):Bool:=es.toList.all fun e=>match e.key with
 |.str _ _=>true
 |_=>false
def gu(K:W.Frag)(C:Addr)(init:Option Value)(no:List Str):Bool:=match K.lookup C with
 |some ⟨.type "type",_,.cls cd,sl⟩=>(match cd.mro,sl.toList with
  |.ref C'::bm,[_,_,_,_,some (.builtin n),_]=>C'==C&&!cd.hasDel&&cd.hasDict&&bm==bmV&&n=="ValueError.__new__"&&(match K.lookup cd.ns with
   |some ⟨_,_,.dict es _,_⟩=>strKeyed es&&nsFind es "__init__"==init&&no.all fun x=>nsFind es x==none
   |_=>false)
  |_,_=>false)
 |_=>false
end
structure XCls(h:Heap)(C:Addr)(init:Option Value)(no:List Str):Prop where
 ex:∃ nm q N bs sn sub ab col dd k0 k1 k2 k3 k5 mN,h.get? C=some (excClassObj nm q C N bs bmV true sn sub ab col dd k0 k1 k2 k3 k5 "ValueError.__new__")/\h.Ns N mN/\mN "__init__"=init/\∀ x∈no,mN x=none
theorem strKeyed_of{es:Array DictEntry}(h:strKeyed es=true):StrKeys es:=by
 intro e he
 unfold strKeyed at h
 rw[List.all_eq_true] at h
 have:=h e (Array.mem_toList_iff.mpr he)
 cases q:e.key with
 |str x t=>exact⟨x,t,rfl⟩
 |_=>rw[q] at this;cases this
theorem jt{K:W.Frag}{h:Heap}{C:Addr}{init:Option Value}{no:List Str}(X:K.In h)(q:gu K C init no=true):XCls h C init no:=by
 unfold gu at q
 split at q
 ·rename_i dd cd sl ho
  split at q
  ·rename_i C' bm k0 k1 k2 k3 n k5 hm hs
   simp only[Bool.and_eq_true,beq_iff_eq,Bool.not_eq_true'] at q
   obtain⟨⟨⟨⟨⟨rfl,hdel⟩,hdict⟩,hb⟩,hn⟩,q⟩:=q
   split at q
   ·rename_i oc od es ep osl hN
    simp only[Bool.and_eq_true,beq_iff_eq] at q
    obtain⟨⟨q1,q2⟩,q3⟩:=q
    obtain⟨nm,bs,mro,ns,qn,hd,sn,sub,ab,col,del⟩:=cd
    dsimp only at hm hdel hdict hN
    subst hm hdel hdict hb hn
    have hsl:sl=#[k0,k1,k2,k3,some (.builtin "ValueError.__new__"),k5]:=by
     obtain⟨l⟩:=sl
     simp only at hs
     rw[hs]
    subst hsl
    refine⟨⟨nm,qn,ns,bs,sn,sub,ab,col,dd,k0,k1,k2,k3,k5,fun x=>nsFind es x,X _ _ ho,⟨_,es,ep,X _ _ hN,rfl,strKeyed_of q1,fun _=>rfl⟩,q2,fun x hx=>?_⟩⟩
    rw[List.all_eq_true] at q3
    exact beq_iff_eq.mp (q3 x hx)
   ·cases q
  ·cases q
 ·cases q
section
variable{P:Program}{w:World}{K:PySem.W.Frag}{mg:Str->Option Value}{base:Heap}{N:List Str}{qual:Str}{scope:Scope}{f:Addr}{cd:Value}{A:Around}{outer:List Env}{s0:Shared}{H0:Hp}{E0:XK}
def tRaise0(C:Addr)(E:XK)(ta:TA):TS:=fun _ σ H=>ta σ H fun vs H1=>vs.length<=sizeLine/\E (.ref C) none H1
theorem ik{x:Str}{np cpos pos:Pos}{e:Expr}{es:List Expr}{C:Addr}{no:List Str}{ta:TA}(hh:(A.deeper (envOfC qual scope s0.heap.objs.size f cd)).handled=none)(hg:Gl (mi (Fx P w) P w K mg base N qual scope f cd A outer s0 H0 E0) x)(hm:mg x=some (.ref C))(xc:gu K C none no=true)(ha:PA (mi (Fx P w) P w K mg base N qual scope f cd A outer s0 H0 E0) (e::es) ta)(hd:(x==("__debug__":Str))=false:=by decide)(he:starEach (e::es) (envOfC qual scope s0.heap.objs.size f cd)=(false,eval e (envOfC qual scope s0.heap.objs.size f cd))::starEach es (envOfC qual scope s0.heap.objs.size f cd):=by rfl)(hpl:(backTo cpos (starEach es (envOfC qual scope s0.heap.objs.size f cd))).any (·.1)=false:=by rfl):PS (mi (Fx P w) P w K mg base N qual scope f cd A outer s0 H0 E0) (.Raise (some (.Call (.Name x np) (e::es) [] cpos)) none pos) (tRaise0 C E0 ta):=by
 intro pins s σ H D I h
 obtain⟨⟨nm,q,Nc,bs,sn,sub,ab,col,dd,k0,k1,k2,k3,k5,mN,hC,hN,hi,_⟩⟩:=jt I.ok.mod.kin xc
 refine wpAny_Raise_call_sub (F:=F.excBase_ValueError) (mN:=mN) (nm:=nm) (q:=q) (N:=Nc) (bs:=bs) (sn:=sn) (sub:=sub) (ab:=ab) (col:=col) (dd:=dd) (k0:=k0) (k1:=k1) (k2:=k2) (k3:=k3) (k5:=k5) (hdct:=true) (C:=C) hh ?_ hi (jd I hg hm ⟨rfl,?_⟩ hd)
 ·show(backTo cpos (starEach (e::es) (envOfC qual scope s0.heap.objs.size f cd))).any (·.1)=false
  rw[he]
  show(false || (backTo cpos (starEach es (envOfC qual scope s0.heap.objs.size f cd))).any (·.1))=false
  rw[hpl]
  rfl
 ·have ha':=ha cpos pins s σ H _ I h
  show wpAny _ _ (evalArgs _ _ (backTo cpos (starEach (e::es) (envOfC qual scope s0.heap.objs.size f cd))) _) _ _ _
  have ha2:wpAny (model P w) (A.deeper (envOfC qual scope s0.heap.objs.size f cd)) (spliced (backTo cpos (starEach (e::es) (envOfC qual scope s0.heap.objs.size f cd)))) _ _ s:=ha'
  rw[he] at ha2 ⊢
  refine Calls.evalArgs_plain (wpAny_mono ha2 (fun vs s1 ⟨us,H1,I1,r1,hz,hE⟩=>⟨rfl,by rw[<-r1.length];exact hz,?_,?_,fun h' ex mk=>?_⟩) fun _ _ z=>z)
  ·exact I1.bk _ _ hC
  ·exact hN.keeps I1.bk
  ·obtain⟨t,ht,_,_⟩:=mk.there
   have I2:=I1.kept (h':=h') (t':=s1.toks) mk.keeps
   refine xe_leave I2 (v1:=.none) ⟨_,_,ht,rfl,rfl,rfl,rfl,fun _=>rfl,rfl⟩ (.inl rfl) (I1.hok.none_of mk.new) ?_ hE
   cases q:s0.heap.get? ex with
   |none=>rfl
   |some o =>
    obtain⟨o',e1⟩:=I1.base.there ex o q (by show ex∉([]:List Addr);simp)
    rw[mk.new] at e1
    cases e1
end
section
variable{prog:Program}{w:World}{A:Around}{E:Value->Shared->Prop}{s:Shared}{C x:Addr}{init:Option Value}{no:List Str}{name:Str}{v:Value}{o:Obj}{K:PySem.W.Frag}
structure XAttr(K:W.Frag)(C:Addr)(name:Str):Prop where
 sa:W.findIn K (.ref C) "__setattr__"=some (some (.builtin "object.__setattr__"))
 no:W.findIn K (.ref C) name=some none
 hd:W.hasDictIn K C=true
theorem xentry{sa owner:String}{tk:Tok}{Q:Fin->Shared->Prop}(SF:StoreFacts "ValueError" bmV sa owner)(X:K.In s.heap)(xc:XCls s.heap C init no)(hno:W.findIn K (.ref C) name=some none){od:Option Obj}(I:W.InstAt s.heap x o C od)(hq:wpAny (model prog w) A (PySem.Builtin.ObjectAttr.storeInOwnDict (.ref x) (.ref C) (.str name tk) name v false) Q E s):wpAny (model prog w) A (PySem.Builtin.«object.__setattr__» ⟨[.ref x,.str name tk,v],[]⟩) Q E s:=by
 obtain⟨nm,q,Nc,bs,sn,sub,ab,col,dd,k0,k1,k2,k3,k5,mN,hC,hN,hi,_⟩:=xc.ex
 have lm:W.Looks (model prog w) s.heap (mroOf (.ref C)) (.ref C::bmV):=fun A' Q' E' s' k' z=>by
  obtain⟨hh',g',d',t',os'⟩:=s'
  exact wpAny_mroOf_exc (k' _ _ hC) z
 rw[W.osa_eq,refuse_eq]
 refine wpAny_bind (wpAny_bind (I.type.here (wpAny_bind (lm.here ?_))))
 rw[refuseLoop_ref,SF.passes (.ref x)]
 exact wpAny_pure (wpAny_bind (I.type.here (wpAny_bind ((W.looks_findIn X hno).here (wpAny_bind (wpAny_pure hq))))))
theorem xcall{sa owner:String}{tk:Tok}{R:Result->Shared->Prop}(SF:StoreFacts "ValueError" bmV sa owner)(X:K.In s.heap)(xc:XCls s.heap C init no)(hno:W.findIn K (.ref C) name=some none){od:Option Obj}(I:W.InstAt s.heap x o C od)(hq:wpAny (model prog w) A.in1 (PySem.Builtin.ObjectAttr.storeInOwnDict (.ref x) (.ref C) (.str name tk) name v false) (fun fin s'=>match fin with | .done f=>R (.ok f) s' | .again c'=>c'.quiet=true/\codeAny (model prog w) A c' R s') (fun e s'=>R (.error e) s') s):codeAny (model prog w) A (.call (.builtin sa) ⟨[.ref x,.str name tk,v],[]⟩) R s:=by
 obtain⟨nm,q,Nc,bs,sn,sub,ab,col,dd,k0,k1,k2,k3,k5,mN,hC,hN,hi,_⟩:=id xc.ex
 have en:=xentry (A:=A.in1) SF X xc hno I hq
 obtain⟨hh,g,d,t,os⟩:=s
 exact codeAny_call_builtin SF.slot.plain SF.entry (wpAny_check_sa SF hC I.at_ I.cls en)
theorem xstore{dx:Addr}{tk:Tok}{mA:Str->Option Value}{ns:List Str}{Q:Fin->Shared->Prop}(hn:s.heap.Ns1 dx mA)(hw:Within mA ns)(hsz:ns.length<sizeLine)(hq:∀ h' tk',h'.Ns1 dx (fun y=>if y=name then some v else mA y)->Heap.SameBut dx s.heap h'->Q (.done (.ret .none)) { s with heap:=h',toks:=tk' }):wpAny (model prog w) A (PySem.Builtin.ObjectAttr.storeInDict dx (.str name tk) name v) Q E s:=by
 unfold PySem.Builtin.ObjectAttr.storeInDict PySem.Builtin.ObjectAttr.newKeyGuard
 refine wpAny_bind (wpAny_pure (wpAny_bind (wpAny_nsSet1 hn fun h' hn' hs=>?_)))
 obtain⟨oD,esD,epD,hoD,hdD,hcD⟩:=hn'.count (Within.cons name v hw)
 refine wpAny_bind (wpAny_lookBehind hoD (by rw[hdD];exact pastItsLine_dict (Nat.le_trans hcD (by rw[List.length_cons];omega))) ?_)
 exact wpAny_pure (hq _ _ hn' hs)
theorem xset0{vs:Array Value}{sl:Array (Option Value)}{Q:Unit->Shared->Prop}(X:K.In s.heap)(xc:XCls s.heap C init no)(xa:XAttr K C name)(hx:s.heap.get? x=some ⟨.ref C,none,.fields vs,sl⟩)(hq:∀ h' tk',h'.get? x=some ⟨.ref C,some s.heap.objs.size,.fields vs,sl⟩->h'.Ns1 s.heap.objs.size (fun y=>if y=name then some v else none)->(∀ b ob,b≠x->s.heap.get? b=some ob->h'.get? b=some ob)->Q () { s with heap:=h',toks:=tk' }) :
  wpAny (model prog w) A (setAttr (.ref x) name v) Q E s:=by
 have I:W.InstAt s.heap x ⟨.ref C,none,.fields vs,sl⟩ C none:=⟨hx,rfl,rfl,trivial⟩
 refine W.set_plain X I xa.sa (xcall (s:={ s with toks:=s.toks+1 }) F.store_ValueError X xc xa.no I ?_)
 obtain⟨cd,hcd,hd'⟩:=W.any_some xa.hd
 have lx:x≠s.heap.objs.size:=Nat.ne_of_lt (Heap.lt_size hx)
 have hx1:(s.heap.push W.emptyDict).get? x=some ⟨.ref C,none,.fields vs,sl⟩:=Heap.get?_push_of_some _ hx
 refine wpAny_bind (wpAny_pure (wpAny_bind (wpAny_bind (wpAny_loadPart hx (wpAny_bind (W.Looks.here (s:={ s with toks:=s.toks+1 }) (W.looks_clsIn X hcd) ?_))))))
 rw[hd']
 show wpAny _ _ (do
  let dn <-alloc W.emptyDict
  update x fun o=>{ o with dict:=some dn }
  pure (some dn)) _ _ _
 refine wpAny_bind (wpAny_alloc' (wpAny_bind (wpAny_update' hx1 (wpAny_pure ?_))))
 have gd:((s.heap.push W.emptyDict).update x fun o=>{ o with dict:=some s.heap.objs.size }).get? s.heap.objs.size=some W.emptyDict:=(Heap.get?_update_ne _ _ _ _ lx.symm).trans (Heap.get?_push_at rfl rfl)
 have gx:((s.heap.push W.emptyDict).update x fun o=>{ o with dict:=some s.heap.objs.size }).get? x=some ⟨.ref C,some s.heap.objs.size,.fields vs,sl⟩:=Heap.get?_update_self _ hx1 rfl
 have e3:((s.heap.push W.emptyDict).update x fun o=>{ o with dict:=some s.heap.objs.size }).Ns s.heap.objs.size (fun _=>none):=⟨W.emptyDict,#[],_,gd,rfl,(fun e he=>absurd he (by simp)),fun _=>rfl⟩
 refine xstore (s:=⟨(s.heap.push W.emptyDict).update x fun o=>{ o with dict:=some s.heap.objs.size },s.gens,s.drawn,s.toks+1,s.os⟩) (Heap.Ns1.of_empty e3) Within.nil (by decide) fun h' tk' hn hs=>?_
 exact hq h' tk' ((hs.2 x lx).trans gx) hn fun b ob nb q=>(hs.2 b (Nat.ne_of_lt (Heap.lt_size q))).trans ((Heap.get?_update_ne _ _ _ _ nb).trans (Heap.get?_push_of_some _ q))
theorem xset1{vs:Array Value}{sl:Array (Option Value)}{dx:Addr}{mA:Str->Option Value}{ns:List Str}{Q:Unit->Shared->Prop}(X:K.In s.heap)(xc:XCls s.heap C init no)(xa:XAttr K C name)(hx:s.heap.get? x=some ⟨.ref C,some dx,.fields vs,sl⟩)(hn:s.heap.Ns1 dx mA)(hw:Within mA ns)(hsz:ns.length<sizeLine)(hq:∀ h' tk',h'.Ns1 dx (fun y=>if y=name then some v else mA y)->Heap.SameBut dx s.heap h'->Q () { s with heap:=h',toks:=tk' }):wpAny (model prog w) A (setAttr (.ref x) name v) Q E s:=by
 obtain⟨odd,hod,_⟩:=lookIn_ns hn
 have I:W.InstAt s.heap x ⟨.ref C,some dx,.fields vs,sl⟩ C (some odd):=⟨hx,rfl,rfl,hod⟩
 refine W.set_plain X I xa.sa (xcall (s:={ s with toks:=s.toks+1 }) F.store_ValueError X xc xa.no I ?_)
 obtain⟨cd,hcd,hd'⟩:=W.any_some xa.hd
 refine wpAny_bind (wpAny_pure (wpAny_bind (wpAny_bind (wpAny_loadPart hx (wpAny_bind (W.Looks.here (s:={ s with toks:=s.toks+1 }) (W.looks_clsIn X hcd) ?_))))))
 rw[hd']
 refine wpAny_pure (a:=some dx) ?_
 exact xstore (s:={ s with toks:=s.toks+1 }) hn hw hsz fun h' tk' hn' hs=>hq h' tk' hn' hs
theorem init_run{P:Program}{w:World}{K:W.Frag}{A:Around}{R:Result->Shared->Prop}{s:Shared}{f ex C:Addr}{name qual:Str}{params:Arguments}{scope:Scope}{dV kV doc pm cdv ct oc:Value}{an od:Option Addr}{osl:Array (Option Value)}{a b:Str}{p1 p2 p3 p4 q1 q2 q3 q4:Pos}{u1 u2:Value}{vs:Array Value}{init:Option Value}{no:List Str}{body:List Stmt}(hbd:body=[.Assign [.Attribute (.Name "self" p1) a p2] (.Name a p3) p4,.Assign [.Attribute (.Name "self" q1) b q2] (.Name b q3) q4])(lk:K.lookup f=some ⟨oc,od,.func (W.fnOf name qual params body scope dV kV doc pm an cdv ct),osl⟩)(hcd:W.codeIn K cdv qual=true)(S:au ["self",a,b] ["self",a,b] scope)(loc:∀ x∈(["self",a,b]:List Str),scope.names.lookup x=some .local)(hb:BindsTo s (W.fnOf name qual params body scope dV kV doc pm an cdv ct) ⟨[.ref ex,u1,u2],[]⟩ ((["self",a,b]:List Str).zip [.ref ex,u1,u2]))(KX:K.In s.heap)(lim:s.heap.NoLimit)(hdep:A.depth<recursionLimit)(xc:gu K C init no=true)(xa:XAttr K C a)(xb:XAttr K C b)(hda:(a==("__debug__":Str))=false)(hdb:(b==("__debug__":Str))=false)(h1w:∀ env,swapsWith (.Name a p3) (some (.Attribute (.Name "self" p1) a p2)) p4.line env=pure false)(h2w:∀ env,swapsWith (.Name b q3) (some (.Attribute (.Name "self" q1) b q2)) q4.line env=pure false)(he:s.heap.get? ex=some ⟨.ref C,none,.fields vs,#[]⟩)(hKx:K.lookup ex=none)(hq:∀ h' dx tk,(∀ c o,c≠ex->s.heap.get? c=some o->h'.get? c=some o)->h'.get? ex=some ⟨.ref C,some dx,.fields vs,#[]⟩->h'.Ns1 dx (fun y=>if y=b then some u2 else if y=a then some u1 else none)->s.heap.objs.size<=dx->dx≠ex->R (.ok (.ret .none)) { s with heap:=h',toks:=tk }):codeAny (model P w) A (.call (.ref f) ⟨[.ref ex,u1,u2],[]⟩) R s:=by
 subst hbd
 have hkind:∀ y∈(["self",a,b]:List Str).zip [Value.ref ex,u1,u2],scope.names.lookup y.1=some .local\/(scope.names.lookup y.1=some .cell/\((cellsFrom (s.heap.objs.size+1) scope.names []).lookup y.1).isSome=true):=fun⟨n,v⟩ hy=>.inl (loc n (List.of_mem_zip hy).1)
 refine codeAny_call_function hdep (KX _ _ lk) rfl S.co S.gen rfl (W.codeRec_of KX hcd) (hb _ _ _ _ ?_)
 refine wpAny_newFunctionEnv_cells S.kind hkind fun env hen s1 x=>?_
 subst hen
 refine⟨lim.keeps x.toInCall.keep,codeAny_func ?_⟩
 obtain⟨h1,tk,rfl,hk⟩:=x.done
 have hn:=x.toInCall.ns
 have hL:s.heap.get? s.heap.objs.size=none:=Heap.get?_none_of_le (Nat.le_refl _)
 have neL:s.heap.objs.size≠ex:=fun z=>by rw[<-z,hL] at he;cases he
 show wpAny (model P w) (A.deeper (envOfC qual scope s.heap.objs.size f cdv)) (execs [.Assign [.Attribute (.Name "self" p1) a p2] (.Name a p3) p4,.Assign [.Attribute (.Name "self" q1) b q2] (.Name b q3) q4] (envOfC qual scope s.heap.objs.size f cdv)) _ _ _
 refine wpAny_noRaise ?_
 have hm:∀(i:Nat)(x:Str)(v:Value),(["self",a,b]:List Str)[i]?=some x->([Value.ref ex,u1,u2]:List Value)[i]?=some v->bindL (envOfC qual scope s.heap.objs.size f cdv).kindOf ((["self",a,b]:List Str).zip [Value.ref ex,u1,u2]) (fun _=>none) x=some v:=fun i x v e1 e2=>bindL_get S.nd e1 e2 (loc x (List.mem_of_getElem? e1))
 have ld:∀(i:Nat)(x:Str)(v:Value)(p:Pos)(s2:Shared)(A2:Around)(Q:Value->Shared->Prop)(E:Value->Shared->Prop),(["self",a,b]:List Str)[i]?=some x->([Value.ref ex,u1,u2]:List Value)[i]?=some v->(x==("__debug__":Str))=false ->
   s2.heap.Ns s.heap.objs.size (bindL (envOfC qual scope s.heap.objs.size f cdv).kindOf ((["self",a,b]:List Str).zip [Value.ref ex,u1,u2]) (fun _=>none))->Q v s2->wpAny (model P w) A2 (eval (.Name x p) (envOfC qual scope s.heap.objs.size f cdv)) Q E s2:=fun i x v p s2 A2 Q E e1 e2 hd hns q =>
  wpAny_Name (wpAny_loadName_local S.kind (loc x (List.mem_of_getElem? e1)) hns (hm i x v e1 e2) q) hd
 have he1:h1.get? ex=some ⟨.ref C,none,.fields vs,#[]⟩:=hk _ _ he
 have K1:K.In h1:=KX.keeps hk
 refine wpAny_execs_cons (plainObj_wpAny_Assign_Attribute (ld 1 a u1 _ _ _ _ _ rfl rfl hda hn (ld 0 "self" (.ref ex) _ _ _ _ _ rfl rfl (by decide) hn ?_)) (h1w _))
 refine xset0 (s:={ s with heap:=h1,toks:=tk }) K1 (jt K1 xc) xa he1 fun h2 tk2 g2 n2 k2=>?_
 have K2:K.In h2:=fun c o q=>k2 c o (fun z=>by rw[z,hKx] at q;cases q) (K1 c o q)
 have lt:ex<h1.objs.size:=Heap.lt_size he1
 have ltL:s.heap.objs.size<h1.objs.size:=hn.lt
 have hn2:h2.Ns s.heap.objs.size (bindL (envOfC qual scope s.heap.objs.size f cdv).kindOf ((["self",a,b]:List Str).zip [Value.ref ex,u1,u2]) (fun _=>none)):=by
  obtain⟨o,es,ep,e1,r⟩:=hn
  exact⟨o,es,ep,k2 _ o neL e1,r⟩
 refine wpAny_execs_cons (plainObj_wpAny_Assign_Attribute (ld 2 b u2 _ _ _ _ _ rfl rfl hdb hn2 (ld 0 "self" (.ref ex) _ _ _ _ _ rfl rfl (by decide) hn2 ?_)) (h2w _))
 refine xset1 (s:={ s with heap:=h2,toks:=tk2 }) K2 (jt K2 xc) xb g2 n2 (Within.cons a u1 Within.nil) (by show 1<sizeLine;decide) fun h3 tk3 n3 sb=>?_
 refine wpAny_execs_nil (hq h3 h1.objs.size tk3 (fun c o nc q=>?_) ?_ n3 (Nat.le_of_lt ltL) (Nat.ne_of_gt lt))
 ·exact(sb.2 c (Nat.ne_of_lt (Heap.lt_size (hk c o q)))).trans (k2 c o nc (hk c o q))
 ·exact(sb.2 ex (Nat.ne_of_lt lt)).trans g2
theorem Inv.track{X:Cx}{pins:List (Addr×Obj)}{σ:St}{H:Hp}{s:Shared}{a:Addr}{o:HO}(I:Inv X pins σ H s)(fp:FpOk X pins H a)(new:di X.prog X.w (upd H a o) s.heap a o):Inv X pins σ (upd H a o) s:=by
 obtain⟨hn,hL,_,h1,h2,h3⟩:=fp
 have ne:∀ b u,H b=some u->b≠a:=fun b u e z=>by rw[z,hn] at e;cases e
 have:=I.step (h':=s.heap) (H':=upd H a o) (g':=s.gens) (d':=s.drawn) (t':=s.toks) (ch:=[a]) (fun b hb=>by
  have e:b=a:=by simpa using hb
  subst e
  exact⟨h1,hL,h2,h3⟩) (fun b u _ _ _ e _=>e) (fun b u _ _ _ e _=>⟨u.slots,e⟩) (fun b u hb _ n=>by rw[ai (fun z=>hb (by simp[z]))];exact n) (fun b u _ e=>⟨u,e⟩) (fun b xs e=>by rw[ai (ne b _ e)];exact e) (fun b ob u e=>by rw[ai (ne b _ e)];exact e) (fun b ps e=>⟨#[],by rw[ai (ne b _ e),e];simp⟩) (fun m hm=>hm) (fun b u e=>by
  by_cases hb:b=a
  ·subst hb;rw[ac] at e;cases e;exact new
  ·rw[ai hb] at e
   exact(I.hok b u e).stay (fun _ _ _ q=>q) (fun c q=>by rw[ai (ne c _ q)];exact q) fun c xs q=>by rw[ai (ne c _ q)];exact q) I.bare
 exact this
end
structure XMk(K:W.Frag)(C fI:Addr)(a b:Str):Prop where
 ab:a≠b
 xc:∃ no,gu K C (some (.ref fI)) no=true
 fn:∃ oI,K.lookup fI=some oI/\oI.cls=.type "function"
 kp:W.keepIn K (.ref C)=true
 run:∀(P:Program)(w:World)(A:Around)(R:Result->Shared->Prop)(s:Shared)(ex:Addr)(u1 u2:Value)(vs:Array Value),K.In s.heap->s.heap.NoLimit->A.depth<recursionLimit->s.heap.get? ex=some ⟨.ref C,none,.fields vs,#[]⟩->K.lookup ex=none ->
  (∀ h' dx tk,(∀ c o,c≠ex->s.heap.get? c=some o->h'.get? c=some o)->h'.get? ex=some ⟨.ref C,some dx,.fields vs,#[]⟩->h'.Ns1 dx (fun y=>if y=b then some u2 else if y=a then some u1 else none)->s.heap.objs.size<=dx->dx≠ex ->
   R (.ok (.ret .none)) { s with heap:=h',toks:=tk })->codeAny (model P w) A (.call (.ref fI) ⟨[.ref ex,u1,u2],[]⟩) R s
section
variable{X:Cx}{pins:List (Addr×Obj)}{σ:St}{H:Hp}{s:Shared}{C fI:Addr}{a b:Str}{y1 y2:V}{u1 u2:Value}{Q:Value->Shared->Prop}{E:Value->Shared->Prop}
theorem make_x(I:Inv X pins σ H s)(M:XMk X.K C fI a b)(hdep:X.A.depth+1<recursionLimit)(r1:RelV y1 u1)(r2:RelV y2 u2)(hq:∀ ex dx s',Inv X pins σ (upd H dx (.xd [(b,y2),(a,y1)])) s'->dh s'.heap ex C (some dx) .none->upd H dx (.xd [(b,y2),(a,y1)]) ex=none->s.heap.get? ex=none->H dx=none->Q (.ref ex) s'):wpAny (model X.prog X.w) X.A (call (.ref C) [u1,u2]) Q E s:=by
 obtain⟨no,xc⟩:=M.xc
 obtain⟨oI,hfI,hfc⟩:=M.fn
 obtain⟨nm,q,Nc,bs,sn,sub,ab,col,dd,k0,k1,k2,k3,k5,mN,hC,hN,hi,_⟩:=(jt I.kIn xc).ex
 obtain⟨hh,g,d,t,os⟩:=s
 refine wpAny_call_exc_init F.excBase_ValueError hC hN hi (I.kIn _ _ hfI) hfc (fun h' ex mk=>?_) (by show 2<=sizeLine;decide)
 have I1:Inv X pins σ H ⟨h',g,d,t,os⟩:=I.kept (t':=t) mk.keeps
 obtain⟨tt,ht,_,_⟩:=mk.there
 have nK:X.K.lookup ex=none:=by
  cases z:X.K.lookup ex with
  |none=>rfl
  |some o =>
   have:=I.kIn _ _ z
   rw[mk.new] at this
   cases this
 refine wpAny_call (M.run _ _ _ _ _ ex u1 u2 _ I1.kIn I1.nolimit (by rw[make_depth];exact hdep) ht nK fun h2 dx tk k gx n sz ne=>?_)
 have I2:Inv X pins σ H ⟨h2,g,d,tk,os⟩:=I.kept (t':=tk) fun c o e=>k c o (fun z=>by rw[z,mk.new] at e;cases e) (mk.keeps c o e)
 have hd:H dx=none:=I1.hok.fresh sz
 have I3:=I2.track (o:=.xd [(b,y2),(a,y1)]) (I1.fpOk sz hd) ⟨_,n,fun f=>?_⟩
 ·exact⟨rfl,hq ex dx _ I3 ⟨_,_,gx,rfl,rfl,rfl,rfl,(fun z=>nomatch z),rfl⟩ (by rw[ai (Ne.symm ne)];exact I.hok.none_of mk.new) mk.new hd⟩
 ·show k8 (List.lookup f [(b,y2),(a,y1)]) (if f=b then some u2 else if f=a then some u1 else none)
  by_cases e1:f=b
  ·subst e1
   rw[if_pos rfl]
   simp only[List.lookup,beq_self_eq_true]
   exact r2
  ·rw[if_neg e1]
   by_cases e2:f=a
   ·subst e2
    rw[if_pos rfl]
    have:(f==b)=false:=beq_eq_false_iff_ne.mpr e1
    simp only[List.lookup,beq_self_eq_true,this]
    exact r1
   ·rw[if_neg e2]
    have h1:(f==b)=false:=beq_eq_false_iff_ne.mpr e1
    have h2:(f==a)=false:=beq_eq_false_iff_ne.mpr e2
    simp only[List.lookup,h1,h2]
    exact True.intro
end
section
variable{M:Model}{A:Around}{E:Value->Shared->Prop}{env:Env}{h:Heap}{g:Array GenState}{d:Drawn}{t:Nat}{os:OsState}{ex C:Addr}{dxo:Option Addr}{init:Option Value}{no:List Str}
theorem exc_value{why:String}{Q:Value->Shared->Prop}(xc:XCls h C init no)(hx:dh h ex C dxo .none)(hq:Q (.ref ex) ⟨h,g,d,t,os⟩):wpAny M A (excFromValue (.ref ex) why) Q E ⟨h,g,d,t,os⟩:=by
 obtain⟨nm,q,Nc,bs,sn,sub,ab,col,dd,k0,k1,k2,k3,k5,mN,hC,hN,hi,_⟩:=xc.ex
 obtain⟨oe,vs,he,hc,hdx,hdt,hsz,hcx,h1⟩:=hx
 have hcB:(Value.ref C::bmV).contains (.type "BaseException")=true:=by rw[List.contains_cons];rfl
 unfold excFromValue isExcClass isType isInstance
 repeat (first|(with_reducible refine wpAny_loadPart_at he ?_;rw[hc])|with_reducible refine wpAny_loadPart_at hC ?_|(with_reducible refine wpAny_isSubtype_exc hC ?_;rw[hcB])|wp_step)
 exact hq
theorem exc_kind{Q:Bool->Shared->Prop}(hx:dh h ex C dxo .none)(hq:Q false ⟨h,g,d,t,os⟩):wpAny M A (isType (.ref ex)) Q E ⟨h,g,d,t,os⟩:=by
 obtain⟨oe,vs,he,hc,hdx,hdt,hsz,hcx,h1⟩:=hx
 unfold isType
 repeat (first|(with_reducible refine wpAny_loadPart_at he ?_;rw[hdt])|wp_step)
 exact hq
theorem exc_inst{Q:Value->Shared->Prop}(xc:XCls h C init no)(hx:dh h ex C dxo .none)(hq:Q (.ref ex) ⟨h,g,d,t,os⟩):wpAny M A (raisedInstance (.ref ex)) Q E ⟨h,g,d,t,os⟩:=by
 obtain⟨nm,q,Nc,bs,sn,sub,ab,col,dd,k0,k1,k2,k3,k5,mN,hC,hN,hi,_⟩:=xc.ex
 obtain⟨oe,vs,he,hc,hdx,hdt,hsz,hcx,h1⟩:=hx
 unfold raisedInstance
 repeat (first|(with_reducible refine wpAny_loadPart_at he ?_;rw[hc])|with_reducible refine wpAny_loadPart_at hC ?_|wp_step)
 exact hq
theorem exc_flight{Q:Unit->Shared->Prop}(hx:dh h ex C dxo .none)(hq:Q () ⟨h,g,d,t,os⟩):wpAny M A (setFlight (.ref ex) none) Q E ⟨h,g,d,t,os⟩:=by
 obtain⟨oe,vs,he,hc,hdx,hdt,hsz,hcx,h1⟩:=hx
 unfold setFlight
 refine wpAny_bind (wpAny_field he hdt h1 ?_)
 rw[if_neg (by decide)]
 exact wpAny_pure hq
end
section
variable{M:Model}{A:Around}{E:Value->Shared->Prop}{s:Shared}{env:Env}
theorem raise_gen{x:Sem Value}{Q:Flow->Shared->Prop}(hh:A.handled=none)(h:wpAny M A x (fun v s1=>∃ ex C dxo init no,v=.ref ex/\XCls s1.heap C init no/\dh s1.heap ex C dxo .none/\E (.ref ex) s1) E s):wpAny M A (raiseStmt env (some x) none) Q E s:=by
 unfold raiseStmt
 refine wpAny_bind (wpAny_mono h (fun v s1 h1=>?_) fun _ _ z=>z)
 obtain⟨ex,C,dxo,init,no,rfl,xc,hx,hE⟩:=h1
 obtain⟨hp,g,d,tk,os⟩:=s1
 refine wpAny_bind (wpAny_pure (wpAny_bind (wpAny_holding (exc_value xc hx ?_))))
 refine wpAny_bind (exc_kind hx ?_)
 rw[if_neg (by decide)]
 refine wpAny_bind (exc_inst xc hx (wpAny_bind (exc_flight hx ?_)))
 exact wpAny_raiseNew_none hh hE
theorem Raise_gen{x:Expr}{pos:Pos}{Q:Flow->Shared->Prop}(hh:A.handled=none)(h:wpAny M A (eval x env) (fun v s1=>∃ ex C dxo init no,v=.ref ex/\XCls s1.heap C init no/\dh s1.heap ex C dxo .none/\E (.ref ex) s1) E s):wpAny M A (exec (.Raise (some x) none pos) env) Q E s:=by
 rw[arm_exec_Raise]
 exact wpAny_bind (wpAny_standAt (raise_gen hh (wpAny_bind (wpAny_mono h (fun v s1 h1=>wpAny_bind (wpAny_standAt (wpAny_pure h1))) fun _ _ z=>z))))
end
section
variable{P:Program}{w:World}{K:PySem.W.Frag}{mg:Str->Option Value}{base:Heap}{N:List Str}{qual:Str}{scope:Scope}{f:Addr}{cd:Value}{A:Around}{outer:List Env}{s0:Shared}{H0:Hp}{E0:XK}
def tRaise2(C:Addr)(a b:Str)(E:XK)(ta:TA):TS:=fun _ σ H=>ta σ H fun vs H1=>∃ y1 y2,vs=[y1,y2]/\∀ dx,H1 dx=none->E (.ref C) (some dx) (upd H1 dx (.xd [(b,y2),(a,y1)]))
theorem new_none{X:Cx}{pins:List (Addr×Obj)}{σ:St}{H:Hp}{s:Shared}{c:Addr}(I:Inv X pins σ H s)(hx:X.ex=[])(hn:s.heap.get? c=none):X.s_0.heap.get? c=none:=by
 cases q:X.s_0.heap.get? c with
 |none=>rfl
 |some o =>
  obtain⟨o',e1⟩:=I.base.there c o q (by rw[hx];simp)
  rw[hn] at e1
  cases e1
theorem jy{x:Str}{np cpos pos:Pos}{e:Expr}{es:List Expr}{C fI:Addr}{a b:Str}{ta:TA}(hh:(A.deeper (envOfC qual scope s0.heap.objs.size f cd)).handled=none)(hdep:(A.deeper (envOfC qual scope s0.heap.objs.size f cd)).depth+1<recursionLimit)(hg:Gl (mi (Fx P w) P w K mg base N qual scope f cd A outer s0 H0 E0) x)(hm:mg x=some (.ref C))(M:XMk K C fI a b)(ha:PA (mi (Fx P w) P w K mg base N qual scope f cd A outer s0 H0 E0) (e::es) ta)(hd:(x==("__debug__":Str))=false:=by decide)(he:starEach (e::es) (envOfC qual scope s0.heap.objs.size f cd)=(false,eval e (envOfC qual scope s0.heap.objs.size f cd))::starEach es (envOfC qual scope s0.heap.objs.size f cd):=by rfl)(hpl:(backTo cpos (starEach es (envOfC qual scope s0.heap.objs.size f cd))).any (·.1)=false:=by rfl):PS (mi (Fx P w) P w K mg base N qual scope f cd A outer s0 H0 E0) (.Raise (some (.Call (.Name x np) (e::es) [] cpos)) none pos) (tRaise2 C a b E0 ta):=by
 intro pins s σ H D I h
 refine Raise_gen hh (wpAny_Call_Name_kw (jd I hg hm ?_ hd))
 refine W.callWith_K (h₀:=base) I.ok.mod.kin M.kp (thn (ha cpos pins s σ H _ I h) fun us s1 ⟨vs,H1,I1,r,y1,y2,ev,q⟩=>⟨I1.kIn,?_⟩) he hpl
 subst ev
 cases r with
 |cons r1 r =>
  cases r with
  |cons r2 r =>
   cases r
   obtain⟨no,xc⟩:=M.xc
   refine make_x I1 M hdep r1 r2 fun ex dx s' I2 hx nx fx fd=>⟨ex,C,some dx,_,no,rfl,jt I2.kIn xc,hx,?_⟩
   exact xe_leave I2 hx (.inl rfl) nx (new_none I1 rfl fx) (q dx fd)
end
structure OwnA(X:Cx)(pins:List (Addr×Obj))(H:Hp)(b:Addr):Prop where
 n:H b=none
 l:b≠X.env.locals
 c:∀ x c,X.env.cells.lookup x=some c->c≠b
 p:∀ p∈X.pn++pins,p.1≠b
 z:X.s_0.heap.get? b=none
 f:b∉frs X.stack
section
variable{X:Cx}{pins:List (Addr×Obj)}{σ:St}{H H':Hp}{s:Shared}{h':Heap}{b ex:Addr}
theorem own_of(I:Inv X pins σ H s)(hx:X.ex=[])(hn:s.heap.get? b=none)(hH:H' b=none):OwnA X pins H' b:=by
 refine⟨hH,fun z=>?_,fun x c e z=>?_,fun p hp z=>?_,new_none I hx hn,fun z=>?_⟩
 ·obtain⟨m,⟨o,_,_,e,_⟩,_⟩:=I.loc
  rw[<-z,hn] at e
  cases e
 ·obtain⟨v,o,e1,_⟩:=I.cell x c e
  rw[z,hn] at e1
  cases e1
 ·have e:=(I.pin p hp).1
  rw[z,hn] at e
  cases e
 ·obtain⟨_,o,e,_⟩:=I.stack.mem z
  rw[hn] at e
  cases e
theorem Inv.noted{fr:List Addr}(I:Inv X pins σ H s)(n:Noted fr ex s.heap h')(hfr:∀ b∈fr,b∈frs X.stack)(o:OwnA X pins H ex):Inv X pins σ H { s with heap:=h' }:=by
 have any:∀ b u,b≠ex->s.heap.get? b=some u->∃ sl,h'.get? b=some { u with slots:=sl }:=fun b u nb q=>by
  by_cases hb:b∈fr
  ·exact n.slot b u hb q
  ·exact⟨u.slots,n.keep b u hb nb q⟩
 have nex:∀ b u,X.s_0.heap.get? b=some u->b≠ex:=fun b u q z=>by rw[z,o.z] at q;cases q
 have nfr:∀ b u,X.s_0.heap.get? b=some u->b∉X.fs->b∉fr:=fun b u q nb z=>by
  rcases List.mem_cons.mp (I.stkSub b (hfr b z)) with e|e
  ·rw[e] at q
   exact absurd (Nat.lt_of_lt_of_le (Heap.lt_size q) I.ok.above) (Nat.lt_irrefl _)
  ·exact nb e
 have cellK:∀ x c,X.env.cells.lookup x=some c->∀ v,s.heap.IsCell c v->h'.IsCell c v:=fun x c e v ⟨u,q,hd⟩=>by
  obtain⟨sl,q2⟩:=any c u (o.c x c e) q
  exact⟨_,q2,hd⟩
 refine⟨I.ok,I.os,I.bare,⟨fun b u e m nb hx=>?_,fun b u e m mb hx=>?_,I.base.free,fun b u e hx=>?_,I.base.tups,I.base.frzs,I.base.tbls⟩,?_,fun x c e=>?_,I.free,I.freeC,fun p hp=>?_,I.hok.noted n (fun b hb=>I.stkFree b (hfr b hb)) o.n,I.len⟩
 ·exact n.keep b u (nfr b u e nb) (nex b u e) (I.base.keep b u e m nb hx)
 ·obtain⟨sl,q⟩:=I.base.slot b u e m mb hx
  obtain⟨sl2,q2⟩:=any b _ (nex b u e) q
  exact⟨sl2,q2⟩
 ·obtain⟨u',q⟩:=I.base.there b u e hx
  obtain⟨sl2,q2⟩:=any b _ (nex b u e) q
  exact⟨_,q2⟩
 ·obtain⟨m,⟨u,es,ep,q,r⟩,hl⟩:=I.loc
  obtain⟨sl,q2⟩:=any _ u (Ne.symm o.l) q
  refine⟨m,⟨_,es,ep,q2,r⟩,fun i x v e1 e2 e3=>?_⟩
  obtain⟨w',rw',lk⟩:=hl i x v e1 e2 e3
  refine⟨w',rw',?_⟩
  rcases lk with lk|⟨k,c,e,z⟩
  ·exact .inl lk
  ·exact .inr ⟨k,c,e,cellK x c e _ z⟩
 ·obtain⟨v,z⟩:=I.cell x c e
  exact⟨v,cellK x c e v z⟩
 ·obtain⟨e,m,ne,nf,d⟩:=I.pin p hp
  refine⟨n.keep _ _ (fun z=>?_) (o.p p hp) e,m,ne,nf,d⟩
  rcases List.mem_cons.mp (I.stkSub _ (hfr _ z)) with e|e
  ·exact ne e
  ·exact nf e
def XP(X:Cx)(pins:List (Addr×Obj))(σ:St)(E:XK)(e:Value)(s':Shared):Prop:=∃(ex T C:Addr)(dxo:Option Addr)(H':Hp),e=.ref ex/\Inv X pins σ H' s'/\dh s'.heap ex C dxo (.ref T)/\T≠ex/\TbAt s'.heap T .none/\OwnA X pins H' ex/\OwnA X pins H' T/\E (.ref C) dxo H'
abbrev TX:=St->Hp->VK->XK->Prop
def PEx(X:Cx)(e:Expr)(t:TX):Prop:=∀(pins:List (Addr×Obj))(s:Shared)(σ:St)(H:Hp)(Q:VK)(E:XK),Inv X pins σ H s->t σ H Q E->wpAny (model X.prog X.w) X.A (eval e X.env) (EP X pins σ Q) (XP X pins σ E) s
theorem PA.nox{X:Cx}{es:List Expr}{t:TA}(h:PA X.nox es t){pos:Pos}{pins:List (Addr×Obj)}{s:Shared}{σ:St}{H:Hp}{Q:List V->Hp->Prop}{E:Value->Shared->Prop}(I:Inv X pins σ H s)(hw:t σ H Q):wpAny (model X.prog X.w) X.A (spliced (backTo pos (starEach es X.env))) (AP X pins σ Q) E s:=wpAny_mono (h pos pins s σ H Q (I.wish _) hw) (fun _ _ ⟨v,H',I',r,q⟩=>⟨v,H',I'.unwish,r,q⟩) fun _ _ z=>False.elim z
end
section
variable{X:Cx}{k:Nat}{f C:Addr}{fd:FuncData}{ps:List Str}{sp:Sp}{x m:Str}{p pos apos:Pos}{e o:Expr}{es:List Expr}{ta:TE}{t:TA}
theorem run_fx{pins:List (Addr×Obj)}{σ:St}{H:Hp}{s:Shared}{Q:VK}{E:XK}{us:List Value}{vs:List V}(F:bq X.prog X.w X.K X.mg X.base (Fx X.prog X.w) k f fd ps sp)(hr:fm k X.A)(hb:Binds X.K fd ps [])(hx:X.ex=[])(I:Inv X pins σ H s)(r:bh vs us)(h:sp vs H Q E):wpAny (model X.prog X.w) X.A (call (.ref f) us) (EP X pins σ Q) (XP X pins σ E) s:=by
 have hl:us.length=ps.length:=by rw[<-r.length];exact F.len _ _ _ _ h
 have hb':=hb s us I.kIn (by rw[List.append_nil];exact hl)
 rw[List.append_nil] at hb'
 refine wpAny_call (codeAny_mono (F.run X.A X.stack s H ⟨us,[]⟩ us vs Q E hr I.env0 hb' r h) fun r s' hq=>?_)
 cases r with
 |error e =>
  obtain⟨ex,T,C,dxo,H',rfl,os,bare,un,hok,hx',nT,ht,f1,f2,n1,n2,hE⟩:=hq
  have I':=I.call' os un hok bare (ch:=[]) (fun b z=>absurd z (by simp))
  exact⟨ex,T,C,dxo,H',rfl,I',hx',nT,ht,own_of I hx f1 n1,own_of I hx f2 n2,hE⟩
 |ok fl =>
  cases fl with
  |ret u=>exact I.after hq
  |next=>exact False.elim hq
  |brk=>exact False.elim hq
  |cont=>exact False.elim hq
theorem px_call(F:bq X.prog X.w X.K X.mg X.base (Fx X.prog X.w) k f fd ps sp)(hr:fm k X.A)(hg:Gl X x)(hm:X.mg x=some (.ref f))(hk:W.keepIn X.K (.ref f)=true)(hb:Binds X.K fd ps [])(hx:X.ex=[])(ha:PA X.nox (e::es) t)(hdb:(x==("__debug__":Str))=false:=by decide)(he:starEach (e::es) X.env=(false,eval e X.env)::starEach es X.env:=by rfl)(hpl:(backTo pos (starEach es X.env)).any (·.1)=false:=by rfl):PEx X (.Call (.Name x p) (e::es) [] pos) (fun σ H Q E=>t σ H fun vs H1=>sp vs H1 Q E):=by
 intro pins s σ H Q E I h
 refine wpAny_Call_Name_kw (jd I hg hm ?_ hdb)
 refine W.callWith_K (h₀:=X.base) I.ok.mod.kin hk (thn (PA.nox ha I h) fun us s1 ⟨vs,H1,I1,r,q⟩=>⟨I1.kIn,?_⟩) he hpl
 exact run_fx F hr hb hx I1 r q
theorem px_meth{pl:Sem Bool}(hoo:PE X.nox o ta)(c:Cls X.K C)(hm:Meth X.K C m f)(F:bq X.prog X.w X.K X.mg X.base (Fx X.prog X.w) k f fd ps sp)(hr:fm k X.A)(hb:Binds X.K fd ps [])(hx:X.ex=[])(ha:PA X.nox (e::es) t)(hst:starEach (e::es) X.env=(false,eval e X.env)::starEach es X.env:=by rfl)(hpl:(backTo pos (starEach es X.env)).any (·.1)=false:=by rfl)(ht:eval (.Call (.Attribute o m apos) (e::es) [] pos) X.env=(do
   let ov <-eval o X.env
   standAt apos.atName
   let (f,first) <-holding [ov] (getMethod ov m pl)
   callWith pos f first (backTo pos (starEach (e::es) X.env)) (backToKw pos (keywordEach [] X.env))):=by rfl) :
  PEx X (.Call (.Attribute o m apos) (e::es) [] pos) (fun σ H Q E=>ta σ H fun x H1=>∃ a dx fs,x=.ref a/\H1 a=some (.ins C dx fs)/\fs.lookup m=none/\t σ H1 fun vs H2=>sp (x::vs) H2 Q E):=by
 intro pins s σ H Q E I h
 refine W.methodCall_KW (pl:=pl) (wpAny_mono (hoo pins s σ H _ (I.wish _) h) (fun u s1 ⟨x,H1,I1,rx,a,dx,fs,ex,ea,l,q⟩=>?_) fun _ _ z=>False.elim z) ht
 subst ex
 obtain rfl:u=Value.ref a:=rx
 have I1':=I1.unwish
 refine getmeth_ok I1' ea c hm l ?_
 refine W.callWith_K (first:=[.ref a]) (h₀:=X.base) I.ok.mod.kin hm.kp (thn (PA.nox ha I1' q) fun us s2 ⟨vs,H2,I2,r,q2⟩=>⟨I2.kIn,?_⟩) hst hpl
 exact run_fx (us:=.ref a::us) (vs:=.ref a::vs) F hr hb hx I2 (.cons rfl r) q2
def PBx(X:Cx)(body:List Stmt)(t:Ends->St->Hp->XK->Prop):Prop:=∀(pins:List (Addr×Obj))(s:Shared)(σ:St)(H:Hp)(D:Ends)(E:XK),Inv X pins σ H s->t D σ H E->wpAny (model X.prog X.w) X.A (execs body X.env) (SP X pins D) (XP X pins σ E) s
theorem pb_set{i:Nat}{x:Str}{e:Expr}{te:TX}{pos':Pos}(hN:X.N.Nodup)(hi:X.N[i]?=some x)(hx:Loc X.env.scope x)(he:PEx X e te)(hs:swapsWith e (some (.Name x pos')) pos.line X.env=pure false:=by rfl)(hf:X.fn x=true\/X.env.scope.names.lookup x=some .local:=by first|exact .inl rfl|exact .inr rfl|assumption):PBx X [.Assign [.Name x pos'] e pos] (fun D σ H E=>te σ H (fun v H1=>D.nx (σ.set i (some v)) H1) E):=by
 intro pins s σ H D E I h
 refine wpAny_execs_cons (wpAny_Assign_Name (thn (he pins s σ H _ E I h) fun v s1 ⟨y,H1,I1,r1,q1⟩=>?_) hs)
 exact store_ok I1 hN hi hx r1 (fun s2 I2=>wpAny_execs_nil ⟨_,H1,I2,q1⟩) hf
theorem pb_expr{e:Expr}{te:TX}(he:PEx X e te)(hs:swapsWith e none pos.line X.env=pure false:=by rfl):PBx X [.Expr e pos] (fun D σ H E=>te σ H (fun _ H1=>D.nx σ H1) E):=by
 intro pins s σ H D E I h
 refine wpAny_execs_cons (wpAny_Expr_any (thn (he pins s σ H _ E I h) fun v s1 ⟨y,H1,I1,r1,q1⟩=>wpAny_execs_nil ⟨σ,H1,I1,q1⟩) I.quiet hs)
abbrev Cx.sui(X:Cx)(ex:Addr)(oe:Obj):Cx:={ X with A:=X.A.mark (some (.ref ex)),calm:=false,pn:=(ex,oe)::X.pn }
end
section
variable{X:Cx}{pins:List (Addr×Obj)}{σ:St}{H:Hp}{s:Shared}{ex:Addr}{oe:Obj}
theorem Inv.sui(I:Inv X pins σ H s)(hx:s.heap.get? ex=some oe)(o:OwnA X pins H ex)(hc:∀ v,oe.data≠.cell v):Inv (X.sui ex oe) pins σ H s:=by
 obtain⟨ok,os,bare,base,loc,cell,free,freeC,pin,hok,len⟩:=I
 refine⟨⟨ok.mod,ok.kind,ok.glob,ok.blt,ok.above,ok.inj,ok.has,ok.cab,(fun z=>nomatch z),ok.frames,ok.stk,ok.exf,ok.bs,ok.bsz,ok.noex,ok.exfs,ok.funs,ok.frf⟩,os,bare,base,loc,cell,free,freeC,fun p hp=>?_,hok,len⟩
 rcases List.mem_cons.mp (show p∈(ex,oe)::(X.pn++pins) from hp) with e|hp
 ·subst e
  refine⟨hx,o.n,o.l,fun z=>o.f ?_,hc⟩
  rcases ok.stk with e|⟨e,hf⟩
  ·rw[e];exact z
  ·rw[e]
   unfold frs
   rw[List.filterMap_cons,hf]
   exact List.mem_cons_of_mem _ z
 ·exact pin p hp
theorem Inv.unsui(ok:X.Ok)(I:Inv (X.sui ex oe) pins σ H s):Inv X pins σ H s:=by
 obtain⟨_,os,bare,base,loc,cell,free,freeC,pin,hok,len⟩:=I
 exact⟨ok,os,bare,base,loc,cell,free,freeC,fun p hp=>pin p (List.mem_cons_of_mem _ hp),hok,len⟩
theorem SP.unsui{D:Ends}{f:Flow}{s':Shared}(ok:X.Ok)(h:SP (X.sui ex oe) pins D f s'):SP X pins D f s':=by
 cases f with
 |next=>obtain⟨σ',H',I,q⟩:=h;exact⟨σ',H',I.unsui ok,q⟩
 |brk=>obtain⟨σ',H',I,q⟩:=h;exact⟨σ',H',I.unsui ok,q⟩
 |cont=>obtain⟨σ',H',I,q⟩:=h;exact⟨σ',H',I.unsui ok,q⟩
 |ret u=>obtain⟨v,σ',H',I,r,q⟩:=h;exact⟨v,σ',H',I.unsui ok,r,q⟩
end
section
variable{X:Cx}{pos hpos np:Pos}{cx:Str}{C:Addr}{init:Option Value}{no:List Str}{body suite:List Stmt}{b0:Stmt}{tb:Ends->St->Hp->XK->Prop}{th:TS}
structure TryOk(X:Cx):Prop where
 st:X.stack=X.env::X.outer
 fr:X.env.frame=some X.env.locals
 ex:X.ex=[]
theorem caught{pins:List (Addr×Obj)}{σ:St}{E:XK}{e:Value}{s:Shared}{Q:Flow->Shared->Prop}{hs:List ExceptHandler}(T:TryOk X)(hx:XP X pins σ E e s)(h:∀ ex T C dxo H' s',Inv X pins σ H' s'->dh s'.heap ex C dxo (.ref T)->T≠ex->TbAt s'.heap T .none->OwnA X pins H' ex->OwnA X pins H' T->E (.ref C) dxo H'->wpAny (model X.prog X.w) X.A (handleBy (.ref ex) X.env hs) Q X.xe s'):wpAny (model X.prog X.w) X.A (noteFrame e X.env) (fun _ s2=>wpAny (model X.prog X.w) X.A (setFlight e none) (fun _ s3=>wpAny (model X.prog X.w) X.A (handleBy e X.env hs) Q X.xe s3) X.xe s2) X.xe s:=by
 obtain⟨ex,T0,C,dxo,H',rfl,I,x0,n0,t0,o0,oT,hE⟩:=hx
 have hfr:=I.ok.frames
 rw[T.st] at hfr
 have hl:=I.stack
 rw[T.st] at hl
 refine note_any hfr hl T.fr x0 (.inr ⟨T0,rfl,n0,t0⟩) fun h1 T1 nt f1 x1 n1 t1=>?_
 have I1:=I.noted nt (fun b hb=>by rw[T.st];exact hb) o0
 have o1:OwnA X pins H' T1:=own_of I T.ex f1 (I.hok.none_of f1)
 refine land_any (s:={ s with heap:=h1 }) x1 n1 t1 fun h2 k2 x2 t2=>?_
 have I2:Inv X pins σ H' { s with heap:=h2 }:=Inv.noted (s:={ s with heap:=h1 }) (h':=h2) (fr:=[]) I1 ⟨fun b o _ nb q=>k2 b o nb q,fun b o hb=>absurd hb (by simp)⟩ (fun b hb=>absurd hb (by simp)) o1
 exact h ex T1 C dxo H' _ I2 x2 n1 t2 o0 o1 hE
theorem ps_try(T:TryOk X)(hb:PBx X body tb)(hp:∀ ex:Addr,PassesOwnAt (model X.prog X.w) (X.A.mark (some (.ref ex))) X.A X.env X.xe)(hg:Gl X cx)(hm:X.mg cx=some (.ref C))(xc:gu X.K C init no=true)(hs:∀(ex:Addr)(oe:Obj)(vs:Array Value),oe.data=.fields vs->vs.size=6->vs[2]?=some .none->PSs (X.sui ex oe) (b0::suite) th)(hd:(cx==("__debug__":Str))=false:=by decide):PS X (.Try body [.ExceptHandler (some (.Name cx np)) none (b0::suite) hpos] [] [] pos) (fun D σ H=>tb D σ H (fun Cv dxo H1=>Cv=.ref C/\dxo=none/\th D σ H1)):=by
 intro pins s σ H D I h
 refine wpAny_Try_except (wpAny_mono (hb pins s σ H D _ I h) (fun f s1 q=>?_) fun e s1 q=>?_)
 ·cases f with
  |next=>exact wpAny_execs_nil q
  |ret v=>exact q
  |brk=>exact q
  |cont=>exact q
 ·refine caught T q fun ex T1 C' dxo H' s' I2 x2 n1 t2 o0 o1 ⟨ec,ed,q2⟩=>?_
  cases ec
  subst ed
  obtain⟨oe,vs,he,hc,hdx,hdt,hsz,hcx,h1⟩:=id x2
  have nc:∀ v,oe.data≠.cell v:=fun v z=>by rw[hdt] at z;cases z
  obtain⟨nm,q0,Nc,bs,sn,sub,ab,col,dd,k0,k1,k2,k3,k5,mN,hC,hN,hi,_⟩:=(jt I2.kIn xc).ex
  have I3:=I2.sui he o0 nc
  refine wpAny_handleBy_cons (codeAny_handlers_test (jd I3 hg hm ?_ hd)) (by intro z;cases z)
  obtain⟨hh,g,d,tk,os⟩:=s'
  refine wpAny_excMatches_sub_self hC he hc (by decide) ?_
  refine codeAny_handlers_suite (land_any x2 n1 t2 fun h4 k4 x4 t4=>?_)
  have I4:Inv X pins σ H' ⟨h4,g,d,tk,os⟩:=I2.noted (fr:=[]) ⟨fun b o _ nb q=>k4 b o nb q,fun b o hb=>absurd hb (by simp)⟩ (fun b hb=>absurd hb (by simp)) o1
  have I5:=I4.sui (k4 ex oe (Ne.symm n1) he) o0 nc
  refine wpAny_passesOwnAt (hp ex) (thn (hs ex oe vs hdt hsz (hcx rfl) pins _ σ H' D I5 q2) fun f s6 q6=>?_)
  exact q6.unsui I.ok
end
structure XGet(K:W.Frag)(C:Addr)(name:Str):Prop where
 ga:W.findIn K (.ref C) "__getattribute__"=some (some (.builtin "BaseException.__getattribute__"))
 gh:W.findIn K (.ref C) "__getattr__"=some none
 no:W.findIn K (.ref C) name=some none
 hd:W.hasDictIn K C=true
section
variable{prog:Program}{w:World}{A:Around}{E:Value->Shared->Prop}{s:Shared}{C x dx:Addr}{init:Option Value}{no:List Str}{name:Str}{v:Value}{o od:Obj}{K:PySem.W.Frag}{mA:Str->Option Value}
theorem xget_entry{tk:Tok}{Q:Fin->Shared->Prop}(X:K.In s.heap)(I:W.InstAt s.heap x o C (some od))(xg:XGet K C name)(hl:W.lookIn name od=some (some v))(hq:Q (.done (.ret v)) s):wpAny (model prog w) A (PySem.Builtin.«object.__getattribute__» ⟨[.ref x,.str name tk],[]⟩) Q E s:=by
 have L1:=W.looks_find (M:=model prog w) X I (W.findObj_own xg.hd xg.no rfl hl)
 have L0:=I.type (M:=model prog w)
 unfold PySem.Builtin.«object.__getattribute__»
 repeat lk
 exact hq
theorem xget_call{ga:String}{tk:Tok}{R:Result->Shared->Prop}(hk:builtinKind ga=some .slot)(hsp:splitId ga=some ("BaseException","__getattribute__"))(hpl:plainId ga=true)(hen:entryFor table ga=some PySem.Builtin.«object.__getattribute__»)(hargs:∀ a b:Value,argsOk ga ⟨[a,b],[]⟩)(X:K.In s.heap)(xc:XCls s.heap C init no)(I:W.InstAt s.heap x o C (some od))(xg:XGet K C name)(hl:W.lookIn name od=some (some v))(hq:R (.ok (.ret v)) s):codeAny (model prog w) A (.call (.builtin ga) ⟨[.ref x,.str name tk],[]⟩) R s:=by
 obtain⟨nm,q,Nc,bs,sn,sub,ab,col,dd,k0,k1,k2,k3,k5,mN,hC,hN,hi,_⟩:=xc.ex
 have inst:W.Looks (model prog w) s.heap (isInstance (.ref x) (.type "BaseException")) true:=I.type.andThen (fun A' Q' E' s' k' z=>by
  obtain⟨hh',g',d',t',os'⟩:=s'
  refine wpAny_isSubtype_exc (k' _ _ hC) ?_
  rw[show(Value.ref C::bmV).contains (.type "BaseException")=true by rw[List.contains_cons];rfl]
  exact z)
 exact codeAny_call_builtin hpl hen (W.check_slot hk hsp inst (hargs _ _) (xget_entry (A:=A.in1) X I xg hl hq))
theorem xget{expr:Bool}{Q:Value->Shared->Prop}(X:K.In s.heap)(xc:XCls s.heap C init no)(I:W.InstAt s.heap x o C (some od))(xg:XGet K C name)(hl:W.lookIn name od=some (some v))(hh:W.handedIn v=true)(hq:Q v { s with toks:=s.toks+1 }):wpAny (model prog w) A (getAttr (.ref x) name expr) Q E s:=by
 have L0:=I.type (M:=model prog w)
 have L1:=W.looks_findIn (M:=model prog w) X xg.ga
 have L2:=W.looks_findIn (M:=model prog w) X xg.gh
 unfold getAttr getAttrBy
 refine wpAny_bind (wpAny_mkText (wpAny_holding (wpAny_bind (W.Looks.here (s:={ s with toks:=s.toks+1 }) L0 (wpAny_bind (W.Looks.here (s:={ s with toks:=s.toks+1 }) L1 ?_))))))
 have ng:(onTheHeap (Value.ref C)&&Value.builtin "BaseException.__getattribute__"==Value.builtin "object.__getattribute__")=false:=by
  rw[show(Value.builtin "BaseException.__getattribute__"==Value.builtin "object.__getattribute__")=false by decide +kernel,Bool.and_false]
 dsimp only
 rw[ng,if_neg (by decide)]
 have ex0:(expr&&onTheHeap (Value.builtin "BaseException.__getattribute__"))=false:=by cases expr<;>rfl
 unfold getAttrByItsOwn hookBefore
 rw[if_pos (show onTheHeap (Value.ref C)=true from rfl)]
 refine wpAny_bind (W.Looks.here (s:={ s with toks:=s.toks+1 }) L2 (wpAny_bind (wpAny_attempt (wpAny_holding ?_))))
 unfold callGetattribute boundAndCalled
 rw[ex0,if_neg (by decide),F.attr_ValueError.ga.bind]
 refine wpAny_bind (wpAny_pure (wpAny_call (xget_call (s:={ s with toks:=s.toks+1 }) (by decide +kernel) (by decide +kernel) F.attr_ValueError.ga.plain F.entry_bexc_ga F.args_bexc_ga X xc I xg hl ?_)))
 show wpAny _ _ (handedOut v) _ _ _
 rw[W.handedOut_of hh]
 exact wpAny_pure hq
end
section
variable{X:Cx}{e:Expr}{f:Str}{pos:Pos}{te:TE}{ex C dx:Addr}{oe:Obj}{vs:Array Value}{init:Option Value}{no:List Str}
theorem pe_xfld(he:PE X e te)(hb:attributeBase e f X.env (eval e X.env)=eval e X.env)(hp:(ex,oe)∈X.pn)(hc:oe.cls=.ref C)(hdx:oe.dict=some dx)(hdt:oe.data=.fields vs)(xc:gu X.K C init no=true)(xg:XGet X.K C f):PE X (.Attribute e f pos) (fun σ H Q=>te σ H fun x H1=>x=.ref ex/\∃ fs v,H1 dx=some (.xd fs)/\fs.lookup f=some v/\Q v H1):=by
 intro pins s σ H Q I h
 refine attr_of hb (thn (he pins s σ H _ I h) fun u s1 ⟨x,H1,I1,rx,ex1,fs,v,hd1,hv,q⟩=>?_)
 subst ex1
 obtain rfl:u=Value.ref ex:=rx
 have hx:=(I1.pin _ (List.mem_append_left _ hp)).1
 obtain⟨mA,hn,hr⟩:=(show di X.prog X.w H1 s1.heap dx (.xd fs) from I1.hok dx _ hd1)
 obtain⟨od,hod,hl⟩:=lookIn_ns hn
 have J:W.InstAt s1.heap ex oe C (some od):=⟨hx,hc,by unfold W.notCls;rw[hdt],by rw[hdx];exact hod⟩
 obtain⟨u',hu,ru⟩:=k8.some_of (v:=v) (o:=mA f) (by rw[<-hv];exact hr f)
 exact xget I1.kIn (jt I1.kIn xc) J xg (by rw[hl,hu]) (handed_of ru) ⟨v,H1,I1.tok _,ru,q⟩
theorem Inv.forget{X:Cx}{pins:List (Addr×Obj)}{σ:St}{H:Hp}{s:Shared}{h':Heap}{m':Str->Option Value}{t':Nat}(I:Inv X pins σ H s)(hn:h'.Ns X.env.locals m')(hs:Heap.SameBut X.env.locals s.heap h'):Inv X pins (List.replicate X.N.length none) H { s with heap:=h',toks:=t' }:=by
 have oth:∀ b o,b≠X.env.locals->s.heap.get? b=some o->h'.get? b=some o:=fun b o nb q=>(hs.2 b nb).trans q
 have old:∀ b o,X.s_0.heap.get? b=some o->b≠X.env.locals:=fun b o q=>Nat.ne_of_lt (Nat.lt_of_lt_of_le (Heap.lt_size q) I.ok.above)
 refine⟨I.ok,I.os,I.bare,⟨fun b o q n nb hx=>oth b o (old b o q) (I.base.keep b o q n nb hx),fun b o q n mb hx=>?_,I.base.free,fun b o q hx=>?_,I.base.tups,I.base.frzs,I.base.tbls⟩,⟨m',hn,fun i x v e1 e2 e3=>?_⟩,fun x c e=>?_,I.free,I.freeC,fun p hp=>?_,fun a o e=>?_,by simp⟩
 ·obtain⟨sl,z⟩:=I.base.slot b o q n mb hx
  exact⟨sl,oth b _ (old b o q) z⟩
 ·obtain⟨o',z⟩:=I.base.there b o q hx
  exact⟨o',oth b o' (old b o q) z⟩
 ·rw[List.getElem?_replicate] at e2
  split at e2<;>cases e2
 ·obtain⟨v,o,z,r⟩:=I.cell x c e
  exact⟨v,o,oth c o (I.cne x c e) z,r⟩
 ·obtain⟨e,m,ne,nf,d⟩:=I.pin p hp
  exact⟨oth _ _ ne e,m,ne,nf,d⟩
 ·refine(I.hok a o e).stay (fun b u hb q=>oth b u (fun z=>?_) q) (fun _ q=>q) fun _ _ q=>q
  rcases hb with rfl|hb
  ·rw[z,I.free] at e;cases e
  ·rw[z,I.free] at hb;cases hb
end
section
variable{X:Cx}{pos hpos np:Pos}{cx n:Str}{j:Nat}{C:Addr}{init:Option Value}{no:List Str}{body suite:List Stmt}{b0:Stmt}{tb:Ends->St->Hp->XK->Prop}{th:Addr->Addr->TS}
theorem ps_try_as(T:TryOk X)(hb:PBx X body tb)(hg:Gl X cx)(hm:X.mg cx=some (.ref C))(xc:gu X.K C init no=true)(hN:X.N.Nodup)(hj:X.N[j]?=some n)(hlo:X.env.scope.names.lookup n=some .local)(hs:∀(ex dx:Addr)(oe:Obj)(vs:Array Value),oe.cls=.ref C->oe.dict=some dx->oe.data=.fields vs->PSs (X.sui ex oe).nox (b0::suite) (th ex dx))(hd:(cx==("__debug__":Str))=false:=by decide):PS X (.Try body [.ExceptHandler (some (.Name cx np)) (some n) (b0::suite) hpos] [] [] pos) (fun D σ H=>tb D σ H (fun Cv dxo H1=>Cv=.ref C/\∃ dx,dxo=some dx/\∀ ex,th ex dx { nx:=fun _ _=>False,rt:=D.rt } (σ.set j (some (.ref ex))) H1)):=by
 intro pins s σ H D I h
 refine wpAny_Try_except (wpAny_mono (hb pins s σ H D _ I h) (fun f s1 q=>?_) fun e s1 q=>?_)
 ·cases f with
  |next=>exact wpAny_execs_nil q
  |ret v=>exact q
  |brk=>exact q
  |cont=>exact q
 ·refine caught T q fun ex T1 C' dxo H' s' I2 x2 n1 t2 o0 o1 ⟨ec,dx,ed,q2⟩=>?_
  cases ec
  subst ed
  obtain⟨oe,vs,he,hc,hdx,hdt,hsz,hcx,h1⟩:=id x2
  have nc:∀ v,oe.data≠.cell v:=fun v z=>by rw[hdt] at z;cases z
  obtain⟨nm,q0,Nc,bs,sn,sub,ab,col,dd,k0,k1,k2,k3,k5,mN,hC,hN',hi,_⟩:=(jt I2.kIn xc).ex
  have I3:=I2.sui he o0 nc
  refine wpAny_handleBy_cons (codeAny_handlers_test (jd I3 hg hm ?_ hd)) (by intro z;cases z)
  obtain⟨hh,g,d,tk,os⟩:=s'
  refine wpAny_excMatches_sub_self hC he hc (by decide) ?_
  refine codeAny_handlers_suite_as (land_any x2 n1 t2 fun h4 k4 x4 t4=>?_)
  have I4:Inv X pins σ H' ⟨h4,g,d,tk,os⟩:=I2.noted (fr:=[]) ⟨fun b o _ nb q=>k4 b o nb q,fun b o hb=>absurd hb (by simp)⟩ (fun b hb=>absurd hb (by simp)) o1
  have I5:=I4.sui (k4 ex oe (Ne.symm n1) he) o0 nc
  refine store_ok (X:=X.sui ex oe) I5 hN hj (.inl hlo) (show RelV (V.ref ex) (Value.ref ex) from rfl) (fun s6 I6=>?_) (.inr hlo)
  refine wpAny_mono (hs ex dx oe vs hc hdx hdt pins s6 _ H' _ (I6.wish _) (q2 ex)) (fun f s7 q7=>?_) fun _ _ z=>False.elim z
  cases f with
  |next=>obtain⟨_,_,_,z⟩:=q7;exact z.elim
  |brk=>obtain⟨_,_,_,z⟩:=q7;exact z.elim
  |cont=>obtain⟨_,_,_,z⟩:=q7;exact z.elim
  |ret u =>
   obtain⟨v,σ7,H7,I7,r7,z7⟩:=q7
   have I8:Inv X pins σ7 H7 s7:=(I7.unwish).unsui I.ok
   obtain⟨m,hn,_⟩:=id I8.loc
   refine wpAny_nameGoes hlo hn (by rw[I.ok.kind];rfl) fun h9 m9 hn9 hs9=>?_
   exact⟨v,_,H7,I8.forget hn9 hs9,r7,z7⟩
end
section
variable{prog:Program}{w:World}{A:Around}{E:Value->Shared->Prop}{s:Shared}{env:Env}{ex hx C:Addr}{dxo:Option Addr}{init:Option Value}{no:List Str}
theorem entry_unchain:entryFor table "proto.unchain"=some PySem.Builtin.«proto.unchain»:=entryFor_of_tree (by kernel_rfl)
theorem dh.put{h:Heap}{dx:Addr}{v1:Value}(x:dh h ex C (some dx) v1)(i:Nat)(hi:2<=i)(v:Value):dh (h.update ex (Obj.mapFields (·.setIfInBounds i v))) ex C (some dx) v1:=by
 obtain⟨oe,vs,he,hc,hdx,hdt,hsz,hcx,h1⟩:=x
 have dm:=Obj.data_mapFields hdt (·.setIfInBounds i v)
 refine⟨_,_,Heap.get?_update_self _ he (Obj.isFreed_of_fields dm),?_,?_,dm,by rw[Array.size_setIfInBounds];exact hsz,(fun z=>nomatch z),?_⟩
 ·rw[Obj.cls_mapFields];exact hc
 ·obtain⟨c,dd,da,sl⟩:=oe
  dsimp only at hdt
  subst hdt
  exact hdx
 ·rw[Array.getElem?_setIfInBounds_ne (by omega)]
  exact h1
theorem exc_put{dx:Addr}{v1 v:Value}{i:Nat}{Q:Unit->Shared->Prop}(x:dh s.heap ex C (some dx) v1)(hi:i<6)(hq:Q () { s with heap:=s.heap.update ex (Obj.mapFields (·.setIfInBounds i v)) }):wpAny (model prog w) A (setField (.ref ex) i v) Q E s:=by
 obtain⟨oe,vs,he,hc,hdx,hdt,hsz,hcx,h1⟩:=x
 exact wpAny_setField he hdt (by omega) hq
theorem unchained{oh:Obj}{hv:Array Value}{Q:Value->Shared->Prop}(hh:s.heap.get? hx=some oh)(hd:oh.data=.fields hv)(h2:hv[2]?=some .none)(hq:Q .none s):wpAny (model prog w) A (runValue (.builtin "proto.unchain" ⟨[.ref ex,.ref hx,.ref hx,.bool false],[]⟩)) Q E s:=by
 refine wpAny_runValue (codeAny_builtin entry_unchain ?_)
 unfold PySem.Builtin.«proto.unchain»
 refine wpAny_bind (wpAny_field hh hd h2 ?_)
 rw[if_pos (by decide)]
 exact wpAny_pure hq
theorem XCls.but{q q':Heap}{C':Addr}{v1:Value}(xc:XCls q C init no)(x:dh q ex C' dxo v1)(k:∀ b o,b≠ex->q.get? b=some o->q'.get? b=some o):XCls q' C init no:=by
 obtain⟨nm,qn,Nc,bs,sn,sub,ab,col,dd,k0,k1,k2,k3,k5,mN,hC,⟨oN,es,ep,hN,hNd,r⟩,hi,hno⟩:=xc.ex
 obtain⟨oe,vs,he,hc,hdx,hdt,hsz,hcx,h1⟩:=x
 refine⟨⟨nm,qn,Nc,bs,sn,sub,ab,col,dd,k0,k1,k2,k3,k5,mN,k _ _ (fun z=>?_) hC,⟨oN,es,ep,k _ _ (fun z=>?_) hN,hNd,r⟩,hi,hno⟩⟩
 ·rw[z,he] at hC
  cases hC
  cases hdt
 ·rw[z,he] at hN
  cases hN
  rw[hdt] at hNd
  cases hNd
theorem raise_from{x c:Sem Value}{oh:Obj}{hv:Array Value}{Q:Flow->Shared->Prop}(hA:A.handled=some (.ref hx))(hd:oh.data=.fields hv)(h2:hv[2]?=some .none)(hcz:∀(s:Shared)(Q:Value->Shared->Prop),Q .none s->wpAny (model prog w) A c Q E s)(h:wpAny (model prog w) A x (fun v s1=>∃ ex C dx init no,v=.ref ex/\XCls s1.heap C init no/\dh s1.heap ex C (some dx) .none/\hx≠ex/\s1.heap.get? hx=some oh/\(∀ h',(∀ b o,b≠ex->s1.heap.get? b=some o->h'.get? b=some o)->dh h' ex C (some dx) .none->E (.ref ex) { s1 with heap:=h' })) E s):wpAny (model prog w) A (raiseStmt env (some x) (some c)) Q E s:=by
 unfold raiseStmt
 refine wpAny_bind (wpAny_mono h (fun v s1 h1=>?_) fun _ _ z=>z)
 obtain⟨ex,C,dx,init,no,rfl,xc,x1,nh,hh,hE⟩:=h1
 refine wpAny_bind (wpAny_holding (hcz _ _ (wpAny_bind (wpAny_pure ?_))))
 obtain⟨hp,g,d,tk,os⟩:=s1
 refine wpAny_bind (wpAny_holding (exc_value xc x1 ?_))
 have u:∀(q:Heap)(i:Nat)(v:Value),∀ b o,b≠ex->q.get? b=some o->(q.update ex (Obj.mapFields (·.setIfInBounds i v))).get? b=some o:=fun q i v b o nb e=>(Heap.get?_update_other _ _ (Ne.symm nb)).trans e
 dsimp only
 rw[if_pos (by decide)]
 have x2:=x1.put 3 (by decide) .none
 have x3:=x2.put 4 (by decide) (.bool true)
 have xc2:=xc.but x1 (u hp 3 .none)
 have xc3:=xc2.but x2 (u _ 4 (.bool true))
 refine wpAny_bind (wpAny_pure (wpAny_bind (exc_put x1 (by decide) (wpAny_bind (exc_put (s:=⟨hp.update ex (Obj.mapFields (·.setIfInBounds 3 .none)),g,d,tk,os⟩) x2 (by decide) ?_)))))
 refine wpAny_bind (exc_kind x3 ?_)
 rw[if_neg (by decide)]
 refine wpAny_bind (exc_inst xc3 x3 (wpAny_bind (exc_flight x3 ?_)))
 unfold raiseNew
 refine wpAny_bind (wpAny_handled ?_)
 rw[hA]
 dsimp only
 rw[if_pos (show(Value.ref hx != Value.ref ex)=true by simp[nh])]
 have hh3:=u _ 4 (.bool true) hx oh nh (u hp 3 .none hx oh nh hh)
 refine wpAny_bind (wpAny_holding (unchained hh3 hd h2 ?_))
 refine wpAny_bind (show wpAny (model prog w) A (setField (.ref ex) 2 (.ref hx)) _ _ _ from exc_put (s:=⟨(hp.update ex (Obj.mapFields (·.setIfInBounds 3 .none))).update ex (Obj.mapFields (·.setIfInBounds 4 (.bool true))),g,d,tk,os⟩) x3 (by decide) ?_)
 refine wpAny_throw (hE _ (fun b o nb e=>?_) (x3.put 2 (by decide) (.ref hx)))
 exact u _ 2 (.ref hx) b o nb (u _ 4 (.bool true) b o nb (u hp 3 .none b o nb e))
theorem Raise_from{x:Expr}{oh:Obj}{hv:Array Value}{k:Nat}{p pos:Pos}{Q:Flow->Shared->Prop}(hA:A.handled=some (.ref hx))(hd:oh.data=.fields hv)(h2:hv[2]?=some .none)(h:wpAny (model prog w) A (eval x env) (fun v s1=>∃ ex C dx init no,v=.ref ex/\XCls s1.heap C init no/\dh s1.heap ex C (some dx) .none/\hx≠ex/\s1.heap.get? hx=some oh /\
   (∀ h',(∀ b o,b≠ex->s1.heap.get? b=some o->h'.get? b=some o)->dh h' ex C (some dx) .none->E (.ref ex) { s1 with heap:=h' })) E s) :
  wpAny (model prog w) A (exec (.Raise (some x) (some (.Constant .none k p)) pos) env) Q E s:=by
 rw[arm_exec_Raise]
 refine wpAny_bind (wpAny_standAt (raise_from (c:=do let v <-eval (.Constant .none k p) env;standAt pos;pure v) hA hd h2 (fun s Q q=>?_) (wpAny_bind (wpAny_mono h (fun v s1 h1=>wpAny_bind (wpAny_standAt (wpAny_pure h1))) fun _ _ z=>z))))
 exact wpAny_bind (Constant_none (wpAny_bind (wpAny_standAt (wpAny_pure q))))
theorem Cx.Ok.unsui{X:Cx}{ex:Addr}{oe:Obj}(ok:(X.sui ex oe).Ok)(hh:X.calm=true->X.A.handled=none):X.Ok:=⟨ok.mod,ok.kind,ok.glob,ok.blt,ok.above,ok.inj,ok.has,ok.cab,hh,ok.frames,ok.stk,ok.exf,ok.bs,ok.bsz,ok.noex,ok.exfs,ok.funs,ok.frf⟩
end
section
variable{P:Program}{w:World}{K:PySem.W.Frag}{mg:Str->Option Value}{base:Heap}{N:List Str}{qual:Str}{scope:Scope}{f:Addr}{cd:Value}{A:Around}{outer:List Env}{s0:Shared}{H0:Hp}{E0:XK}
theorem ps_raise2F{x:Str}{np cpos pos pn:Pos}{kn:Nat}{e:Expr}{es:List Expr}{C fI hx:Addr}{oh:Obj}{hv:Array Value}{a b:Str}{ta:TA}(hd2:oh.data=.fields hv)(hz:hv[2]?=some .none)(hdep:(A.deeper (envOfC qual scope s0.heap.objs.size f cd)).depth+1<recursionLimit)(hg:Gl (mi (Fx P w) P w K mg base N qual scope f cd A outer s0 H0 E0) x)(hm:mg x=some (.ref C))(M:XMk K C fI a b)(ha:PA ((mi (Fx P w) P w K mg base N qual scope f cd A outer s0 H0 E0).sui hx oh) (e::es) ta)(hd:(x==("__debug__":Str))=false:=by decide)(hh:(A.deeper (envOfC qual scope s0.heap.objs.size f cd)).handled=none)(he:starEach (e::es) (envOfC qual scope s0.heap.objs.size f cd)=(false,eval e (envOfC qual scope s0.heap.objs.size f cd))::starEach es (envOfC qual scope s0.heap.objs.size f cd):=by rfl)(hpl:(backTo cpos (starEach es (envOfC qual scope s0.heap.objs.size f cd))).any (·.1)=false:=by rfl):PS ((mi (Fx P w) P w K mg base N qual scope f cd A outer s0 H0 E0).sui hx oh) (.Raise (some (.Call (.Name x np) (e::es) [] cpos)) (some (.Constant .none kn pn)) pos) (tRaise2 C a b E0 ta):=by
 intro pins s σ H D I h
 refine Raise_from (hx:=hx) (oh:=oh) (hv:=hv) rfl hd2 hz (wpAny_Call_Name_kw (jd I hg hm ?_ hd))
 refine W.callWith_K (h₀:=base) I.ok.mod.kin M.kp (thn (ha cpos pins s σ H _ I h) fun us s1 ⟨vs,H1,I1,r,y1,y2,ev,q⟩=>⟨I1.kIn,?_⟩) he hpl
 subst ev
 cases r with
 |cons r1 r =>
  cases r with
  |cons r2 r =>
   cases r
   obtain⟨no,xc⟩:=M.xc
   refine make_x I1 M hdep r1 r2 fun ex dx s' I2 x2 nx fx fd=>⟨ex,C,dx,_,no,rfl,jt I2.kIn xc,x2,fun z=>?_,(I2.pin (hx,oh) List.mem_cons_self).1,fun h' k' x'=>?_⟩
   ·have e1:=(I1.pin (hx,oh) List.mem_cons_self).1
    dsimp only at e1
    rw[z,fx] at e1
    cases e1
   ·have o2:=own_of I1 rfl fx nx
    have I3:=Inv.noted (fr:=[]) (h':=h') I2 ⟨fun b o _ nb q=>k' b o nb q,fun b o hb=>absurd hb (by simp)⟩ (fun b hb=>absurd hb (by simp)) o2
    exact xe_leave (I3.unsui (I.ok.unsui fun _=>hh)) x' (.inl rfl) nx (new_none I1 rfl fx) (q dx fd)
end
section
variable{X:Cx}{e:Expr}{es:List Expr}{te:TE}{pos:Pos}
def FmtOk(v:V)(y:Str):Prop:=(v=.str y/\y.length<=sizeLine)\/∃ i:Int,v=.int i/\i.natAbs.log2<1920/\y=toString i
def tFmt(te:TE):TE:=fun σ H Q=>te σ H fun v H1=>∃ y,FmtOk v y/\Q (.str y) H1
theorem pe_fmt(he:PE X e te):PE X (.FormattedValue e (-1) none pos) (tFmt te):=by
 intro pins s σ H Q I h
 refine FormattedValue_plain (thn (he pins s σ H _ I h) fun u s1 ⟨v,H1,I1,r,y,hf,q⟩=>?_)
 rcases hf with⟨rfl,hz⟩|⟨i,rfl,hd,rfl⟩
 ·obtain⟨t,rfl⟩:=(show ∃ t,u=Value.str y t from r)
  exact formatField_str (fun t' tk=>⟨.str y,H1,I1.tok tk,⟨_,rfl⟩,q⟩) hz
 ·obtain⟨t,rfl⟩:=(show ∃ t,u=Value.int i t from r)
  exact formatField_int_small hd ⟨.str (toString i),H1,I1.tok _,⟨_,rfl⟩,q⟩
def PJ(X:Cx)(es:List Expr)(t:Str->TE):Prop:=∀(pins:List (Addr×Obj))(s:Shared)(σ:St)(H:Hp)(Q:VK)(out:Str),Inv X pins σ H s->t out σ H Q->wpAny (model X.prog X.w) X.A (joinParts out (evalEach es X.env)) (EP X pins σ Q) X.xe s
def jNil:Str->TE:=fun out _ H Q=>out.length<=sizeLine/\Q (.str out) H
def jCons(te:TE)(t:Str->TE):Str->TE:=fun out σ H Q=>te σ H fun v H1=>∃ y,v=.str y/\(out++y).length<=sizeLine/\t (out++y) σ H1 Q
theorem pj_nil:PJ X [] jNil:=fun pins s σ H Q out I h=>joinParts_nilE (joinParts_nil ⟨.str out,H,I.tok _,⟨_,rfl⟩,h.2⟩ h.1)
theorem pj_cons{t:Str->TE}(he:PE X e te)(hr:PJ X es t):PJ X (e::es) (jCons te t):=by
 intro pins s σ H Q out I h
 refine joinParts_consE (joinParts_cons (thn (he pins s σ H _ I h) fun u s1 ⟨v,H1,I1,r,y,ev,hz,q⟩=>?_))
 subst ev
 obtain⟨t',rfl⟩:=(show ∃ t,u=Value.str y t from r)
 exact⟨hz,hr pins s1 σ H1 Q _ I1 q⟩
theorem pe_joined{v1 v2:Expr}{t:Str->TE}(h:PJ X (v1::v2::es) t):PE X (.JoinedStr (v1::v2::es) pos) (t Str.empty):=fun pins s σ H Q I hq=>JoinedStr_many (h pins s σ H Q _ I hq)
end
section
variable{prog:Program}{w:World}{A:Around}{E:Value->Shared->Prop}{s:Shared}{en it l:Addr}{i c:Nat}{items:Array Value}{x old:Value}
theorem enumS_item{Q:Value->Shared->Prop}(he:IsEnum s.heap en it (c:Int) old)(hit:s.heap.IsListIter it l i)(hl:s.heap.IsList l items)(hx:items[i]?=some x)(hne:en≠it)(hQ:∀ g',IsEnumOut g' en it ((c:Int)+1) x s.heap.objs.size->g'.IsListIter it l (i+1)->g'.get? s.heap.objs.size=some { cls:=.type "tuple",data:=.seq #[.int (c:Int) s.toks,x] }->g'.objs.size=s.heap.objs.size+1->(∀ b o,b≠en->b≠it->s.heap.get? b=some o->g'.get? b=some o)->Q (.ref s.heap.objs.size) { s with heap:=g',toks:=s.toks+1 }):wpAny (model prog w) A (PySem.Builtin.«enumerate.__next__» ⟨[.ref en],[]⟩) (fun fin s'=>∃ v,fin=.done (.ret v)/\Q v s') E s:=by
 obtain⟨p0,gs,dr,n,oss⟩:=s
 refine wpAny_bind (m:=field (.ref en) 2) (wpAny_field he rfl (x:=.ref it) rfl (wpAny_bind (wpAny_nextOf_list_item hit hl hx fun p1 i1 k1=>?_)))
 have k1':Heap.SameBut it p0 p1:=k1
 have m1:IsEnum p1 en it (c:Int) old:=(k1'.2 en hne).trans he
 refine wpAny_bind (m:=field (.ref en) 3) (wpAny_field (s:=⟨p1,gs,dr,n,oss⟩) m1 rfl (x:=rawInt c) rfl (wpAny_bind (m:=field (.ref en) 4) (wpAny_field m1 rfl (x:=.none) rfl ?_)))
 refine wpAny_bind (m:=mkInt (c:Int)) (wpAny_mkInt (wpAny_bind (m:=setField (.ref en) 3 (rawInt ((c:Int)+1))) (wpAny_setField_rec (s:=⟨p1,gs,dr,n+1,oss⟩) m1 (by simp) fun p2 m2 k2=>?_)))
 have k2':Heap.SameBut en p1 p2:=k2
 have m2':IsEnum p2 en it ((c:Int)+1) old:=m2
 refine wpAny_bind (m:=setField (.ref en) 4 .none) (wpAny_setField_rec (s:=⟨p2,gs,dr,n+1,oss⟩) m2' (by simp) fun p3 m3 k3=>?_)
 have k3':Heap.SameBut en p2 p3:=k3
 have m3':IsEnum p3 en it ((c:Int)+1) old:=m3
 refine wpAny_bind (m:=newTuple [.int (c:Int) n,x]) (wpAny_newTuple (s:=⟨p3,gs,dr,n+1,oss⟩) ?_)
 have z3:p3.objs.size=p0.objs.size:=by rw[k3'.1,k2'.1,k1'.1]
 have lte:en<p0.objs.size:=Heap.lt_size he
 have m4:IsEnum (p3.push { cls:=.type "tuple",data:=.seq #[.int (c:Int) n,x] }) en it ((c:Int)+1) old:=Heap.get?_push_of_some _ m3'
 have t4:(p3.push { cls:=.type "tuple",data:=.seq #[.int (c:Int) n,x] }).get? p0.objs.size=some { cls:=.type "tuple",data:=.seq #[.int (c:Int) n,x] }:=by rw[<-z3];exact Heap.get?_push_size _ rfl
 have z4:(p3.push { cls:=.type "tuple",data:=.seq #[.int (c:Int) n,x] }).objs.size=p0.objs.size+1:=by rw[Heap.size_push,z3]
 have keep4:∀ b o,b≠en->b≠it->p0.get? b=some o->(p3.push { cls:=.type "tuple",data:=.seq #[.int (c:Int) n,x] }).get? b=some o:=fun b o h1 h2 q=>Heap.get?_push_of_some _ (k3'.extBut b o h1 (k2'.extBut b o h1 (k1'.extBut b o h2 q)))
 have it4:(p3.push { cls:=.type "tuple",data:=.seq #[.int (c:Int) n,x] }).IsListIter it l (i+1):=by
  obtain⟨o,ho,r⟩:=(i1.extBut k2'.extBut (Ne.symm hne)).extBut k3'.extBut (Ne.symm hne)
  exact⟨o,Heap.get?_push_of_some _ ho,r⟩
 rw[z3]
 generalize p3.push { cls:=.type "tuple",data:=.seq #[.int (c:Int) n,x] }=p4 at m4 t4 z4 keep4 it4 ⊢
 refine wpAny_bind (m:=PySem.Builtin.SmallTypes.ownedTupleIsFree (.ref en)) ?_
 unfold PySem.Builtin.SmallTypes.ownedTupleIsFree
 refine wpAny_bind (wpAny_field (s:=⟨p4,gs,dr,n+1,oss⟩) m4 rfl (x:=.none) rfl (wpAny_pure ?_))
 simp only[if_true]
 refine wpAny_bind (wpAny_rule (wpAny_bind (wpAny_field (s:=⟨p4,gs,dr,n+1,oss⟩) m4 rfl (x:=old) rfl (wpAny_bind (wpAny_setField_rec (s:=⟨p4,gs,dr,n+1,oss⟩) m4 (by simp) fun p5 m5 k5=>?_)))))
 have k5':Heap.SameBut en p4 p5:=k5
 have m5':IsEnum p5 en it ((c:Int)+1) x:=m5
 refine wpAny_bind (m:=PySem.Builtin.SmallTypes.ownedTupleHandOut (.ref en) (.ref p0.objs.size)) ?_
 unfold PySem.Builtin.SmallTypes.ownedTupleHandOut
 refine wpAny_bind (wpAny_setField_rec (s:=⟨p5,gs,dr,n+1,oss⟩) m5' (by simp) fun p6 m6 k6=>?_)
 have k6':Heap.SameBut en p5 p6:=k6
 have m6':IsEnumOut p6 en it ((c:Int)+1) x p0.objs.size:=m6
 refine wpAny_setField_rec (s:=⟨p6,gs,dr,n+1,oss⟩) m6' (by simp) fun p7 m7 k7=>?_
 have k7':Heap.SameBut en p6 p7:=k7
 have m7':IsEnumOut p7 en it ((c:Int)+1) x p0.objs.size:=m7
 refine wpAny_bind (wpAny_letGo (wpAny_pure ⟨_,rfl,hQ p7 m7' ?_ ?_ ?_ fun b o h1 h2 q=>k7'.extBut b o h1 (k6'.extBut b o h1 (k5'.extBut b o h1 (keep4 b o h1 h2 q)))⟩))
 ·exact((it4.extBut k5'.extBut (Ne.symm hne)).extBut k6'.extBut (Ne.symm hne)).extBut k7'.extBut (Ne.symm hne)
 ·have nz:p0.objs.size≠en:=Nat.ne_of_gt lte
  exact k7'.extBut _ _ nz (k6'.extBut _ _ nz (k5'.extBut _ _ nz t4))
 ·rw[k7'.1,k6'.1,k5'.1,z4]
theorem nextS_item{Q:Option Value->Shared->Prop}(he:IsEnum s.heap en it (c:Int) old)(hit:s.heap.IsListIter it l i)(hl:s.heap.IsList l items)(hx:items[i]?=some x)(hne:en≠it)(hQ:∀ g',IsEnumOut g' en it ((c:Int)+1) x s.heap.objs.size->g'.IsListIter it l (i+1)->g'.get? s.heap.objs.size=some { cls:=.type "tuple",data:=.seq #[.int (c:Int) s.toks,x] }->g'.objs.size=s.heap.objs.size+1->(∀ b o,b≠en->b≠it->s.heap.get? b=some o->g'.get? b=some o)->Q (some (.ref s.heap.objs.size)) { s with heap:=g',toks:=s.toks+1 }):wpAny (model prog w) A (pyNext (.ref en)) Q E s:=by
 have ty:s.TypeIs (.ref en) "enumerate":=⟨_,he,rfl⟩
 unfold pyNext
 refine wpAny_bind (wpAny_attempt (wpAny_callSpecial?_slot (name:=Str.ofString "__next__") ty F.slot_enumerate_next (wpAny_call_entry F.slot_enumerate_next ty F.entry_enumerate_next ?_ (F.args_enumerate_next_1 _))))
 exact enumS_item he hit hl hx hne fun g' a b d e f=>wpAny_pure (hQ g' a b d e f)
theorem nextS_end{Q:Option Value->Shared->Prop}(hh:A.handled=none)(he:IsEnum s.heap en it (c:Int) old)(hit:s.heap.IsListIter it l i)(hl:s.heap.IsList l items)(hx:items[i]?=none)(hQ:∀ g',Heap.ExtBut it s.heap g'->Q none { s with heap:=g' }):wpAny (model prog w) A (pyNext (.ref en)) Q E s:=by
 have ty:s.TypeIs (.ref en) "enumerate":=⟨_,he,rfl⟩
 unfold pyNext
 refine wpAny_bind (wpAny_attempt (wpAny_callSpecial?_slot (name:=Str.ofString "__next__") ty F.slot_enumerate_next (wpAny_call_entry F.slot_enumerate_next ty F.entry_enumerate_next ?_ (F.args_enumerate_next_1 _))))
 refine wpAny_bind (m:=field (.ref en) 2) (wpAny_field he rfl (x:=.ref it) rfl (wpAny_bind (wpAny_nextOf_list_end hh hit hl hx fun g' z k' zc=>?_)))
 obtain⟨o,ho,hc⟩:=zc
 exact wpAny_bind (wpAny_isInstance (T:="StopIteration") (b:=true) ⟨o,ho,hc⟩ isSubtype_stop (wpAny_pure (hQ _ k')))
def IteS(K:W.Frag)(a:Addr)(k:Nat):It:=⟨fun i H=>∃(xs:List V)(x:V),SqL K H a xs/\xs[i]?=some x,fun i H v H'=>∃ T x,v=.ref T/\H T=none/\H'=upd H T (.tup [.int ((k+i:Nat):Int),x])/\∀ xs,SqL K H a xs->xs[i]?=some x,fun i H=>∃ xs:List V,SqL K H a xs/\xs.length<=i⟩
theorem turn_enumS{P:Program}{w:World}{K:W.Frag}{elts:List Expr}{kk:Nat}{tpos:Pos}(k:Nat)(a e it:Addr):Turn P w K (.Tuple elts kk tpos) (IteS K a k) [e,it] e (fun i h=>(∃ old,IsEnum h e it ((k+i:Nat):Int) old)/\h.IsListIter it a i/\e≠it) where
 mem:=by simp
 obj:=fun i h st b hb=>by
  obtain⟨⟨old,he⟩,⟨o,ho,hc,hd⟩,_⟩:=st
  have e':b=e\/b=it:=by simpa using hb
  rcases e' with z|z
  ·rw[z];exact⟨_,he,fun v q=>nomatch q⟩
  ·rw[z];exact⟨o,ho,fun v q=>by rw[hd] at q;cases q⟩
 keep:=fun i h h' st k=>let ⟨⟨old,he⟩,hi,hne⟩:=st;⟨⟨old,k e (by simp) _ he⟩,hi.at fun o q=>k it (by simp) o q,hne⟩
 item:=by
  intro X hP hw hK hc i pins s σ H E I hf st hg
  subst hP hw hK
  obtain⟨⟨old,he⟩,hit,hne⟩:=st
  obtain⟨xs,x,hq,hx⟩:=hg
  obtain⟨its,rv,p,hz⟩:=I.list hq
  obtain⟨u,hu,ru⟩:=rv.get hx
  have hel:e<s.heap.objs.size:=Heap.lt_size he
  have hil:it<s.heap.objs.size:=by obtain⟨_,q,_⟩:=hit;exact Heap.lt_size q
  refine nextS_item he hit p.isList (x:=u) (by simpa using hu) hne fun h' ho hit' hT hsz hk=>?_
  refine⟨_,rfl,wpAny_letOwnedTupleGo_enum (s:={ s with heap:=h',toks:=s.toks+1 }) ho fun h'' he' sb=>?_⟩
  have hT2:h''.get? s.heap.objs.size=some { cls:=.type "tuple",data:=.seq #[.int ((k+i:Nat):Int) s.toks,u] }:=(sb.2 _ (Nat.ne_of_gt hel)).trans hT
  have new:di X.prog X.w (upd H s.heap.objs.size (.tup [.int ((k+i:Nat):Int),x])) h'' s.heap.objs.size (.tup [.int ((k+i:Nat):Int),x]):=⟨by show 2<=sizeLine;decide,[.int ((k+i:Nat):Int) s.toks,u],.cons ⟨_,rfl⟩ (.cons ru .nil),⟨_,hT2,rfl,_,rfl⟩⟩
  have I1:Inv X pins σ (upd H s.heap.objs.size (.tup [.int ((k+i:Nat):Int),x])) { s with heap:=h'',toks:=s.toks+1 }:=I.turnedNew (ch:=[e,it]) (fun b ob hb q=>(sb.2 b (fun z=>hb (by simp[z]))).trans (hk b ob (fun z=>hb (by simp[z])) (fun z=>hb (by simp[z])) q)) hf (Nat.le_refl _) new
  refine⟨.ref s.heap.objs.size,_,I1,rfl,⟨_,x,rfl,I.hok.fresh (Nat.le_refl _),rfl,fun ys hy=>by rw[I.list_inj hy hq];exact hx⟩,⟨⟨u,?_⟩,hit'.at fun o q=>(sb.2 it (Ne.symm hne)).trans q,hne⟩,fun b hb=>?_⟩
  ·have e1:((k+(i+1):Nat):Int)=((k+i:Nat):Int)+1:=by omega
   rw[e1];exact he'
  ·have hb':b<s.heap.objs.size:=by
    have e':b=e\/b=it:=by simpa using hb
    rcases e' with z|z
    ·rw[z];exact hel
    ·rw[z];exact hil
   rw[ai (Nat.ne_of_lt hb')]
   exact(hf b hb).1
 done:=by
  intro X hP hw hK hc i pins s σ H E I hf st hg
  subst hP hw hK
  obtain⟨⟨old,he⟩,hit,hne⟩:=st
  obtain⟨xs,hq,hx⟩:=hg
  obtain⟨its,rv,p,hz⟩:=I.list hq
  obtain⟨f0,f1,f2,f3,f4,f5⟩:=hf it (by simp)
  have hl:=rv.length
  exact nextS_end (I.ok.hd hc) he hit p.isList (by simp;omega) fun h' eb=>⟨rfl,I.turned (t':=s.toks) (fun b o hb q=>eb b o hb q) f0 f1 f3 f4 f5⟩
 self:=fun A i s Q E st h=>let ⟨⟨_,he⟩,_⟩:=st;wpAny_pyIter_enum he h
end
section
variable{prog:Program}{w:World}{A:Around}{E:Value->Shared->Prop}{s:Shared}{l:Addr}{items:Array Value}{k:Nat}{tk:Tok}
theorem fits_small{k:Nat}(h:k<=sizeLine):PySem.Builtin.SmallTypes.fitsIndex (k:Int)=true:=by
 rw[sizeLine_eq] at h
 unfold PySem.Builtin.SmallTypes.fitsIndex
 simp
 omega
theorem enum_new{R:Value->Shared->Prop}{n:Nat}{dct:Option Addr}{sl:Array (Option Value)}(hk:k<=sizeLine)(hl:s.heap.get? l=some { cls:=.type "list",dict:=dct,data:=.seq items n,slots:=sl })(h:R (.ref (s.heap.push { cls:=.type "list_iterator",data:=.fields #[.ref l,.int 0 0] }).objs.size)
   { s with heap:=(s.heap.push { cls:=.type "list_iterator",data:=.fields #[.ref l,.int 0 0] }).push { cls:=.type "enumerate",data:=.fields #[.none,.bool false,.ref s.heap.objs.size,rawInt k,.none,.none] } }) :
  wpAny (model prog w) A (PySem.Builtin.«enumerate.__new__» ⟨[.type "enumerate",.ref l],[("start",.int (k:Int) tk)]⟩) (fun fin s'=>∃ v,fin=.done (.ret v)/\R v s') E s:=by
 obtain⟨p0,gs,dr,nn,oss⟩:=s
 have sub:=sub_enumerate
 have fk:=fits_small hk
 have li:Heap.IsList (Shared.heap ⟨p0,gs,dr,nn,oss⟩) l items:=⟨_,hl,rfl,n,rfl⟩
 unfold PySem.Builtin.«enumerate.__new__»
 wp_walk using AutoSeq1.wpAny_loadPart' hl
 refine wpAny_stack_any fun st=>wpAny_pure ?_
 have fin:wpAny (model prog w) A (do
   let itv <-pyIter (.ref l)
   let r <-PySem.Builtin.SmallTypes.newRecord (.type "enumerate") (PySem.Builtin.SmallTypes.ownedTupleFields++[itv,rawInt k,Value.none,Value.none])
   ret r) (fun fin s'=>∃ v,fin=.done (.ret v)/\R v s') E ⟨p0,gs,dr,nn,oss⟩:=by
  refine wpAny_bind (wpAny_pyIter_list li (wpAny_bind ?_))
  unfold PySem.Builtin.SmallTypes.newRecord
  exact wpAny_newObj_type (wpAny_pure ⟨_,rfl,h⟩) (by show(6:Nat)<=sizeLine+2;decide)
 have mid:∀ b:Bool,b=true->(if (!b)=true then (1:Nat) else 0)=0:=fun b hb=>by rw[hb];rfl
 split
 ·rename_i c _ _ _ _ _
  cases (c==Value.type "enumerate")
  ·dsimp only
   rw[if_neg (by decide)]
   refine wpAny_bind ?_
   refine wpAny_of_eq (a:=(Value.ref l,some (Value.int (k:Int) tk))) ?_ ?_
   ·kernel_rfl
   refine wpAny_bind ?_
   refine wpAny_of_eq (a:=Value.int (k:Int) tk) ?_ ?_
   ·kernel_rfl
   refine wpAny_bind ?_
   refine wpAny_of_eq (a:=some (k:Int)) ?_ ?_
   ·kernel_rfl
   dsimp only
   rw[fk]
   exact fin
  ·dsimp only
   rw[if_pos (by decide)]
   refine wpAny_bind ?_
   refine wpAny_of_eq (a:=(Value.ref l,some (Value.int (k:Int) tk))) ?_ ?_
   ·kernel_rfl
   refine wpAny_bind ?_
   refine wpAny_of_eq (a:=Value.int (k:Int) tk) ?_ ?_
   ·kernel_rfl
   refine wpAny_bind ?_
   refine wpAny_of_eq (a:=some (k:Int)) ?_ ?_
   ·kernel_rfl
   dsimp only
   rw[fk]
   exact fin
 ·dsimp only
  rw[if_neg (by decide)]
  refine wpAny_bind ?_
  refine wpAny_of_eq (a:=(Value.ref l,some (Value.int (k:Int) tk))) ?_ ?_
  ·kernel_rfl
  refine wpAny_bind ?_
  refine wpAny_of_eq (a:=Value.int (k:Int) tk) ?_ ?_
  ·kernel_rfl
  refine wpAny_bind ?_
  refine wpAny_of_eq (a:=some (k:Int)) ?_ ?_
  ·kernel_rfl
  dsimp only
  rw[fk]
  exact fin
theorem typeCall_enumS(a:Value):checkTypeCall "enumerate" ⟨[a],[("start",.int (k:Int) tk)]⟩=pure ():=by kernel_rfl
theorem newCall_enumS(a:Value):checkBuiltinCall "enumerate.__new__" ⟨[.type "enumerate",a],[("start",.int (k:Int) tk)]⟩=pure ():=by kernel_rfl
theorem init_enumS(o a:Value):argsOk "object.__init__" ⟨[o,a],[("start",.int (k:Int) tk)]⟩:=by unfold argsOk;kernel_rfl
theorem init_runS{o a:Value}{Q:Fin->Shared->Prop}(hT:s.TypeIs o "enumerate")(h:Q (.done (.ret .none)) s):wpAny (model prog w) A (PySem.Builtin.«object.__init__» ⟨[o,a],[("start",.int (k:Int) tk)]⟩) Q E s:=by
 have ft:=F.called_enumerate
 have li:=ft.init.lookup
 have md:=ft.made
 unfold PySem.Builtin.«object.__init__»
 repeat (any_goals (first|assumption|wp_step))
theorem call_enumS{Q:Value->Shared->Prop}(hk:k<=sizeLine)(hL:s.heap.IsList l items)(h:∀ g',IsEnum g' (s.heap.objs.size+1) s.heap.objs.size (k:Int) .none->g'.IsListIter s.heap.objs.size l 0->(∀ b o,s.heap.get? b=some o->g'.get? b=some o)->Q (.ref (s.heap.objs.size+1)) { s with heap:=g' }):wpAny (model prog w) A (call (.type "enumerate") [.ref l] [("start",.int (k:Int) tk)]) Q E s:=by
 obtain⟨⟨c0,dct,dt,sl⟩,hl,hc,n,hd⟩:=hL
 replace hc:c0=.type "list":=hc
 replace hd:dt=.seq items n:=hd
 subst hc hd
 have ft:=F.called_enumerate
 obtain⟨c,tl,hmro⟩:=ft.mro
 have hmade:=ft.made
 have hsub:=ft.sub
 have h1:=ft.notType
 have h2:=ft.canCreate
 have hct:=typeCall_enumS (k:=k) (tk:=tk) (.ref l)
 refine wpAny_call (codeAny_of_tree ?_)
 refine wpAny_pure ⟨Code.quiet_builtin _ (by decide +kernel),codeAny_builtin F.entry_type_call ?_⟩
 rw[Around.under_plain (weight_type_call_type "enumerate" [.ref l] [("start",.int (k:Int) tk)]) (units_type_call_type "enumerate" [.ref l] [("start",.int (k:Int) tk)])]
 repeat (any_goals (first|assumption|wp_step))
 have hz:(s.heap.push { cls:=.type "list_iterator",data:=.fields #[.ref l,.int 0 0] }).objs.size=s.heap.objs.size+1:=Heap.size_push ..
 have he:IsEnum ((s.heap.push { cls:=.type "list_iterator",data:=.fields #[.ref l,.int 0 0] }).push { cls:=.type "enumerate",data:=.fields #[.none,.bool false,.ref s.heap.objs.size,rawInt k,.none,.none] }) (s.heap.objs.size+1) s.heap.objs.size (k:Int) .none:=by
  rw[<-hz]
  exact Heap.get?_push_size _ rfl
 refine codeAny_call_builtin ft.plain F.entry_enumerate_new (wpAny_of_eq (newCall_enumS (.ref l)) (wpAny_mono (enum_new (R:=fun v s'=>v=.ref (s.heap.objs.size+1)/\s'={ s with heap:=(s.heap.push { cls:=.type "list_iterator",data:=.fields #[.ref l,.int 0 0] }).push { cls:=.type "enumerate",data:=.fields #[.none,.bool false,.ref s.heap.objs.size,rawInt k,.none,.none] } }) hk hl ⟨by rw[hz],rfl⟩) (fun fin s' hf=>?_) fun _ _ z=>z))
 obtain⟨v,rfl,rfl,rfl⟩:=hf
 have hT:({ s with heap:=(s.heap.push { cls:=.type "list_iterator",data:=.fields #[.ref l,.int 0 0] }).push { cls:=.type "enumerate",data:=.fields #[.none,.bool false,.ref s.heap.objs.size,rawInt k,.none,.none] } }:Shared).TypeIs (.ref (s.heap.objs.size+1)) "enumerate":=⟨_,he,rfl⟩
 have hQ:=h _ he ⟨_,Heap.get?_push_of_some _ (Heap.get?_push_size _ rfl),rfl,rfl⟩ fun b o x=>Heap.get?_push_of_some _ (Heap.get?_push_of_some _ x)
 have hli:=ft.init.lookup
 have hbi:=ft.init.bind (.ref (s.heap.objs.size+1))
 clear h he
 dsimp only
 repeat (any_goals (first|assumption|wp_step))
 refine codeAny_call_builtin ft.init.plain F.entry_object_init (ft.init.check _ _ _ _ _ _ _ _ hT (init_enumS _ _) (init_runS hT ?_))
 dsimp only
 repeat (any_goals (first|assumption|wp_step))
end
section
variable{X:Cx}{e e2:Expr}{ta:TA}{tk:TA}{p pos tpos kpos:Pos}{elts:List Expr}{kk:Nat}
def iEnumS(K:W.Frag)(ta tk:TA):TI:=fun σ H R=>ta σ H fun vs H1=>tk σ H1 fun zs H2=>∃(a:Addr)(xs:List V)(k:Nat),vs=[.ref a]/\zs=[.int (k:Int)]/\k<=sizeLine/\SqL K H2 a xs/\R (IteS K a k) H2
theorem pi_enumS(hg:Gl X "enumerate")(hm:X.mg "enumerate"=none)(ha:PA X [e] ta)(hk:PK X [⟨some "start",e2,kpos⟩] tk)(hs:starEach [e] X.env=[(false,eval e X.env)]:=by rfl):PI X (.Tuple elts kk tpos) (.Call (.Name "enumerate" p) [e] [⟨some "start",e2,kpos⟩] pos) (iEnumS X.K ta tk):=by
 intro pins s σ H R I h
 refine wpAny_Call_Name_kw (ld_blt I hg hm boot_enumerate ?_)
 refine W.callWith_of (P:=fun _=>True) (by rw[hs];rfl) (fun _ _=>⟨.machine,.inr (.inl rfl),W.Looks.of_pure rfl⟩) ?_
 refine evalArgs_kw2 (by rfl) (thn (ha pos pins s σ H _ I h) fun us s1 ⟨vs,H1,I1,r1,q1⟩=>thn (hk pos pins s1 σ H1 _ I1 q1) fun ws s2 ⟨zs,H2,I2,r2,a,xs,k,ev,ez,hz,hq,q⟩=>⟨trivial,?_⟩) hs
 subst ev ez
 cases r1 with
 |cons ra rr =>
  cases rr
  cases (show _=Value.ref a from ra)
  cases r2 with
  |cons rb rr =>
   cases rr
   obtain⟨t,rfl⟩:=(show ∃ t,_=Value.int (k:Int) t from rb)
   obtain⟨its,rv,p',_⟩:=I2.list hq
   refine call_enumS (k:=k) (tk:=t) hz p'.isList fun h' he hit hkp=>wpAny_pyIter_enum he ?_
   have I3:Inv X pins σ H2 { s2 with heap:=h' }:=I2.kept (t':=s2.toks) hkp
   refine⟨s2.heap.objs.size+1,[s2.heap.objs.size+1,s2.heap.objs.size],_,_,H2,rfl,I3,turn_enumS k a (s2.heap.objs.size+1) s2.heap.objs.size,⟨⟨.none,he⟩,hit,Nat.succ_ne_self _⟩,fun b hb=>?_,q⟩
   have e':b=s2.heap.objs.size+1\/b=s2.heap.objs.size:=by simpa using hb
   have hle:s2.heap.objs.size<=b:=by
    rcases e' with z|z
    ·rw[z];exact Nat.le_succ _
    ·rw[z];exact Nat.le_refl _
   exact I2.fpOk hle (I2.hok.fresh hle)
end
section
variable{P:Program}{w:World}{K:PySem.W.Frag}{mg:Str->Option Value}{base:Heap}
theorem Fun.okX{x qual:Str}{st:Stmt}{f:Addr}{fd:FuncData}{N ps:List Str}{k:Nat}{sp:Sp}(F:Fun K x qual st f fd)(S:au N ps (al st))(len:∀ vs H Q E,sp vs H Q E->vs.length=ps.length)(hbody:∀(cdv:Value)(A:Around)(outer:List Env)(s:Shared)(H:Hp)(vs:List V)(Q:VK)(E:XK),fm k (A.deeper (envOfC qual (al st) s.heap.objs.size f cdv))->sp vs H Q E->∃ t,PSs (mi (Fx P w) P w K mg base N qual (al st) f cdv A outer s H E) (ju st) t/\t { nx:=fun _ H'=>Q .non H',rt:=Q } (start N vs) H):bq P w K mg base (Fx P w) (k+1) f fd ps sp:=by
 obtain⟨oc,od,kV,doc,pm,an,cdv,ct,osl,rfl,lk,hcd⟩:=F.ex
 exact fn_of lk hcd S len fun A outer s H vs Q E hr hsp=>hbody cdv A outer s H vs Q E hr hsp
theorem ak.new{H:Hp}{p:Addr}{o:HO}(h:H p=none):ak H (upd H p o):=fun b u e=>by rw[ai (ap e h)];exact e
def Kept(ms:List Addr)(H H':Hp):Prop:=∀ b o,H b=some o->b∉ms->H' b=some o
theorem Kept.refl(ms:List Addr)(H:Hp):Kept ms H H:=fun _ _ h _=>h
theorem ak.kept{H H':Hp}(s:ak H H')(ms:List Addr):Kept ms H H':=fun b o h _=>s b o h
theorem Kept.trans{ms:List Addr}{H H1 H2:Hp}(a:Kept ms H H1)(b:Kept ms H1 H2):Kept ms H H2:=fun c o h n=>b c o (a c o h n) n
theorem Kept.mono{ms ns:List Addr}{H H':Hp}(a:Kept ms H H')(h:∀ m∈ms,m∈ns):Kept ns H H':=fun c o e n=>a c o e fun z=>n (h c z)
theorem Kept.upd{ms:List Addr}{H:Hp}{p:Addr}{o:HO}(h:p∈ms):Kept ms H (L2.upd H p o):=fun b u e n=>by rw[ai (fun z=>n (by rw[z];exact h))];exact e
theorem Kept.upd1{H:Hp}{p:Addr}{o:HO}:Kept [p] H (L2.upd H p o):=Kept.upd (by simp)
theorem Kept.same{ms:List Addr}{H0 H H':Hp}(s:ak H0 H)(k:Kept ms H H')(n:∀ m∈ms,H0 m=none):ak H0 H':=fun b o e=>k b o (s b o e) fun z=>by rw[n b z] at e;cases e
def drp(ms:List Addr)(H:Hp):Hp:=fun b=>if b∈ms then none else H b
theorem ip{ms:List Addr}{H:Hp}{b:Addr}(h:b∉ms):drp ms H b=H b:=by unfold drp;rw[if_neg h]
theorem drp_in{ms:List Addr}{H:Hp}{b:Addr}(h:b∈ms):drp ms H b=none:=by unfold drp;rw[if_pos h]
theorem fw{ms:List Addr}{H:Hp}{b:Addr}{o:HO}(h:drp ms H b=some o):H b=some o/\b∉ms:=by
 by_cases z:b∈ms
 ·rw[drp_in z] at h;cases h
 ·rw[ip z] at h;exact⟨h,z⟩
theorem fu{ms:List Addr}{H:Hp}:ak (drp ms H) H:=fun b o h=>(fw h).1
theorem Kept.drp{ms ns:List Addr}{H H':Hp}(k:Kept ms H H')(h:∀ m∈ms,m∈ns):ak (L2.drp ns H) (L2.drp ns H'):=fun b o e=>by
 obtain⟨e,n⟩:=fw e
 rw[ip n]
 exact k b o e fun z=>n (h b z)
theorem drp_mono{ms ns:List Addr}{H:Hp}(h:∀ m∈ns,m∈ms):ak (drp ms H) (drp ns H):=fun b o e=>by
 obtain⟨e,n⟩:=fw e
 rw[ip fun z=>n (h b z)]
 exact e
theorem ak.drp{H H':Hp}(s:ak H H')(ms:List Addr):ak (L2.drp ms H) (L2.drp ms H'):=(s.kept ms).drp fun _ h=>h
abbrev gPair(K:W.Frag)(p q:Nat):TG:=gTup K 2 (gCons (gName p) (gCons (gName q) gNil))
theorem gPair_of{K:W.Frag}{p q:Nat}{T:Addr}{x y:V}{σ:St}{H:Hp}{Q:St->Hp->Prop}(h:H T=some (.tup [x,y]))(hq:Q ((σ.set p (some x)).set q (some y)) H):gPair K p q (.ref T) σ H Q:=⟨T,[x,y],rfl,.inl (.inl h),rfl,_,_,rfl,_,_,rfl,rfl,hq⟩
end
section
variable{K:PySem.W.Frag}{a b:Addr}{xs ys:List V}{p q:Nat}{tb:TS}{D:Ends}{σ:St}{H:Hp}
theorem lh(Pv:Nat->St->Hp->Prop)(h0:Pv 0 σ H)(hl:∀ i σ H,i<=xs.length->Pv i σ H->SqL K H a xs)(hs:∀ i x σ H H',xs[i]?=some x->Pv i σ H->ak H H'->tb { D with nx:=Pv (i+1),ct:=Pv (i+1),bk:=D.nx } ((σ.set p (some (.int (i:Nat)))).set q (some x)) H')(hd:∀ σ H,Pv xs.length σ H->D.nx σ H):∃ W:Nat->Nat->St->Hp->Prop,(∃ m,W 0 m σ H)/\∀ i m σ H,W i m σ H->((Ite K a).stop i H/\D.nx σ H)\/((Ite K a).go i H/\∃ N:St->Hp->Prop,(∀ σ' H',N σ' H'->∃ m',m'<m/\W (i+1) m' σ' H')/\∀ x H',(Ite K a).yld i H x H'->gPair K p q x σ H' fun σ2 H2=>tb { D with nx:=N,ct:=N,bk:=D.nx } σ2 H2):=by
 refine⟨fun i m σ H=>m=xs.length-i/\i<=xs.length/\Pv i σ H,⟨xs.length,by simp,Nat.zero_le _,h0⟩,?_⟩
 rintro i m σ H ⟨rfl,hi,pv⟩
 have sq:=hl i σ H hi pv
 by_cases hlt:i<xs.length
 ·refine .inr ⟨⟨xs,xs[i],sq,by simp[hlt]⟩,Pv (i+1),fun σ' H' p'=>⟨xs.length-(i+1),by omega,rfl,hlt,p'⟩,fun v H' y=>?_⟩
  obtain⟨T,x,rfl,hT,rfl,hx⟩:=y
  exact gPair_of ac (hs i x σ H _ (hx xs sq) pv (ak.new hT))
 ·have e:i=xs.length:=by omega
  subst e
  exact .inl ⟨⟨xs,sq,Nat.le_refl _⟩,hd σ H pv⟩
theorem for_enumS{k:Nat}(Pv:Nat->St->Hp->Prop)(h0:Pv 0 σ H)(hl:∀ i σ H,i<=xs.length->Pv i σ H->SqL K H a xs)(hs:∀ i x σ H H',xs[i]?=some x->Pv i σ H->ak H H'->tb { D with nx:=Pv (i+1),ct:=Pv (i+1),bk:=D.nx } ((σ.set p (some (.int ((k+i:Nat):Int)))).set q (some x)) H')(hd:∀ σ H,Pv xs.length σ H->D.nx σ H):∃ W:Nat->Nat->St->Hp->Prop,(∃ m,W 0 m σ H)/\∀ i m σ H,W i m σ H->((IteS K a k).stop i H/\D.nx σ H)\/((IteS K a k).go i H/\∃ N:St->Hp->Prop,(∀ σ' H',N σ' H'->∃ m',m'<m/\W (i+1) m' σ' H')/\∀ x H',(IteS K a k).yld i H x H'->gPair K p q x σ H' fun σ2 H2=>tb { D with nx:=N,ct:=N,bk:=D.nx } σ2 H2):=by
 refine⟨fun i m σ H=>m=xs.length-i/\i<=xs.length/\Pv i σ H,⟨xs.length,by simp,Nat.zero_le _,h0⟩,?_⟩
 rintro i m σ H ⟨rfl,hi,pv⟩
 have sq:=hl i σ H hi pv
 by_cases hlt:i<xs.length
 ·refine .inr ⟨⟨xs,xs[i],sq,by simp[hlt]⟩,Pv (i+1),fun σ' H' p'=>⟨xs.length-(i+1),by omega,rfl,hlt,p'⟩,fun v H' y=>?_⟩
  obtain⟨T,x,rfl,hT,rfl,hx⟩:=y
  exact gPair_of ac (hs i x σ H _ (hx xs sq) pv (ak.new hT))
 ·have e:i=xs.length:=by omega
  subst e
  exact .inl ⟨⟨xs,sq,Nat.le_refl _⟩,hd σ H pv⟩
theorem for_zip(hxy:xs.length=ys.length)(Pv:Nat->St->Hp->Prop)(h0:Pv 0 σ H)(hl:∀ i σ H,i<=xs.length->Pv i σ H->SqL K H a xs/\SqL K H b ys)(hs:∀ i x y σ H H',xs[i]?=some x->ys[i]?=some y->Pv i σ H->ak H H'->tb { D with nx:=Pv (i+1),ct:=Pv (i+1),bk:=D.nx } ((σ.set p (some x)).set q (some y)) H')(hd:∀ σ H,Pv xs.length σ H->D.nx σ H):∃ W:Nat->Nat->St->Hp->Prop,(∃ m,W 0 m σ H)/\∀ i m σ H,W i m σ H->((Itz K a b).stop i H/\D.nx σ H)\/((Itz K a b).go i H/\∃ N:St->Hp->Prop,(∀ σ' H',N σ' H'->∃ m',m'<m/\W (i+1) m' σ' H')/\∀ x H',(Itz K a b).yld i H x H'->gPair K p q x σ H' fun σ2 H2=>tb { D with nx:=N,ct:=N,bk:=D.nx } σ2 H2):=by
 refine⟨fun i m σ H=>m=xs.length-i/\i<=xs.length/\Pv i σ H,⟨xs.length,by simp,Nat.zero_le _,h0⟩,?_⟩
 rintro i m σ H ⟨rfl,hi,pv⟩
 obtain⟨s1,s2⟩:=hl i σ H hi pv
 by_cases hlt:i<xs.length
 ·have hlt2:i<ys.length:=by omega
  refine .inr ⟨⟨xs,ys,xs[i],ys[i],s1,s2,by simp[hlt],by simp[hlt2]⟩,Pv (i+1),fun σ' H' p'=>⟨xs.length-(i+1),by omega,rfl,hlt,p'⟩,fun v H' y=>?_⟩
  obtain⟨T,x,y,rfl,hT,rfl,hx,hy⟩:=y
  exact gPair_of ac (hs i x y σ H _ (hx xs s1) (hy ys s2) pv (ak.new hT))
 ·have e:i=xs.length:=by omega
  subst e
  exact .inl ⟨⟨xs,ys,s1,s2,.inl (Nat.le_refl _)⟩,hd σ H pv⟩
theorem for_str{z:Str}{g:TG}(Pv:Nat->St->Hp->Prop)(h0:Pv 0 σ H)(hs:∀ i c σ H,z.cps.toList[i]?=some c->Pv i σ H->g (.str ⟨#[c]⟩) σ H fun σ2 H2=>tb { D with nx:=Pv (i+1),ct:=Pv (i+1),bk:=D.nx } σ2 H2)(hd:∀ σ H,Pv z.cps.toList.length σ H->D.nx σ H):∃ W:Nat->Nat->St->Hp->Prop,(∃ m,W 0 m σ H)/\∀ i m σ H,W i m σ H->((Its z).stop i H/\D.nx σ H)\/((Its z).go i H/\∃ N:St->Hp->Prop,(∀ σ' H',N σ' H'->∃ m',m'<m/\W (i+1) m' σ' H')/\∀ x H',(Its z).yld i H x H'->g x σ H' fun σ2 H2=>tb { D with nx:=N,ct:=N,bk:=D.nx } σ2 H2):=by
 refine⟨fun i m σ H=>m=z.cps.size-i/\i<=z.cps.size/\Pv i σ H,⟨z.cps.size,by simp,Nat.zero_le _,h0⟩,?_⟩
 rintro i m σ H ⟨rfl,hi,pv⟩
 by_cases hlt:i<z.cps.size
 ·refine .inr ⟨hlt,Pv (i+1),fun σ' H' p'=>⟨z.cps.size-(i+1),by omega,rfl,hlt,p'⟩,fun v H' y=>?_⟩
  obtain⟨rfl,c,hc,rfl⟩:=y
  exact hs i c σ _ (by rw[Array.getElem?_toList];exact hc) pv
 ·have e:i=z.cps.size:=by omega
  subst e
  exact .inl ⟨Nat.le_refl _,hd σ H (by rw[Array.length_toList];exact pv)⟩
end
section
variable{K:PySem.W.Frag}{a b:Addr}{xs ys:List V}{g:TG}{tt:TT}{te:TE}{vs:List Nat}{σ:St}{H1:Hp}{D:Addr}{Qd:Hp->Prop}
theorem lc_str{z:Str}(Pv:Nat->Hp->Prop)(h0:Pv 0 (upd H1 D (.lst [])))(hs:∀ i c H,z.cps.toList[i]?=some c->Pv i H->g (.str ⟨#[c]⟩) (dv σ vs) H fun σ2 H2=>dv σ2 vs=dv σ vs/\tt σ2 H2 fun b H3 =>
   if b=true then te σ2 H3 fun y H4=>∃ acc,H4 D=some (.lst acc)/\acc.length<sizeLine/\Pv (i+1) (upd H4 D (.lst (acc++[y]))) else Pv (i+1) H3)(hd:∀ H,Pv z.cps.toList.length H->Qd H):∃ W:Nat->Nat->Hp->Prop,(∃ m,W 0 m (upd H1 D (.lst [])))/\∀ i m H,W i m H->((Its z).stop i H/\Qd H)\/((Its z).go i H/\∃ Nx:Hp->Prop,(∀ H',Nx H'->∃ m',m'<m/\W (i+1) m' H')/\∀ x H',(Its z).yld i H x H'->g x (dv σ vs) H' fun σ2 H2=>dv σ2 vs=dv σ vs/\tt σ2 H2 fun b H3 =>
    if b=true then te σ2 H3 fun y H4=>∃ acc,H4 D=some (.lst acc)/\acc.length<sizeLine/\Nx (upd H4 D (.lst (acc++[y]))) else Nx H3):=by
 refine⟨fun i m H=>m=z.cps.size-i/\i<=z.cps.size/\Pv i H,⟨z.cps.size,by simp,Nat.zero_le _,h0⟩,?_⟩
 rintro i m H ⟨rfl,hi,pv⟩
 by_cases hlt:i<z.cps.size
 ·refine .inr ⟨hlt,Pv (i+1),fun H' p'=>⟨z.cps.size-(i+1),by omega,rfl,hlt,p'⟩,fun v H' y=>?_⟩
  obtain⟨rfl,c,hc,rfl⟩:=y
  exact hs i c _ (by rw[Array.getElem?_toList];exact hc) pv
 ·have e:i=z.cps.size:=by omega
  subst e
  exact .inl ⟨Nat.le_refl _,hd H (by rw[Array.length_toList];exact pv)⟩
theorem lc_zip{p q:Nat}(hxy:xs.length=ys.length)(Pv:Nat->Hp->Prop)(h0:Pv 0 (upd H1 D (.lst [])))(hl:∀ i H,i<=xs.length->Pv i H->SqL K H a xs/\SqL K H b ys)(hs:∀ i x y H H',xs[i]?=some x->ys[i]?=some y->Pv i H->ak H H'->dv (((dv σ vs).set p (some x)).set q (some y)) vs=dv σ vs/\tt (((dv σ vs).set p (some x)).set q (some y)) H' fun b H3 =>
   if b=true then te (((dv σ vs).set p (some x)).set q (some y)) H3 fun y H4=>∃ acc,H4 D=some (.lst acc)/\acc.length<sizeLine/\Pv (i+1) (upd H4 D (.lst (acc++[y]))) else Pv (i+1) H3)(hd:∀ H,Pv xs.length H->Qd H):∃ W:Nat->Nat->Hp->Prop,(∃ m,W 0 m (upd H1 D (.lst [])))/\∀ i m H,W i m H->((Itz K a b).stop i H/\Qd H)\/((Itz K a b).go i H/\∃ Nx:Hp->Prop,(∀ H',Nx H'->∃ m',m'<m/\W (i+1) m' H')/\∀ x H',(Itz K a b).yld i H x H'->gPair K p q x (dv σ vs) H' fun σ2 H2=>dv σ2 vs=dv σ vs/\tt σ2 H2 fun b H3 =>
    if b=true then te σ2 H3 fun y H4=>∃ acc,H4 D=some (.lst acc)/\acc.length<sizeLine/\Nx (upd H4 D (.lst (acc++[y]))) else Nx H3):=by
 refine⟨fun i m H=>m=xs.length-i/\i<=xs.length/\Pv i H,⟨xs.length,by simp,Nat.zero_le _,h0⟩,?_⟩
 rintro i m H ⟨rfl,hi,pv⟩
 obtain⟨s1,s2⟩:=hl i H hi pv
 by_cases hlt:i<xs.length
 ·have hlt2:i<ys.length:=by omega
  refine .inr ⟨⟨xs,ys,xs[i],ys[i],s1,s2,by simp[hlt],by simp[hlt2]⟩,Pv (i+1),fun H' p'=>⟨xs.length-(i+1),by omega,rfl,hlt,p'⟩,fun v H' y=>?_⟩
  obtain⟨T,x,y,rfl,hT,rfl,hx,hy⟩:=y
  exact gPair_of ac (hs i x y H _ (hx xs s1) (hy ys s2) pv (ak.new hT))
 ·have e:i=xs.length:=by omega
  subst e
  exact .inl ⟨⟨xs,ys,s1,s2,.inl (Nat.le_refl _)⟩,hd H pv⟩
def GC(mg:Str->Option Value)(x:Str)(v:V):Prop:=∃ u,mg x=some u/\RelV v u
theorem ay{X:Cx}{x:Str}{v:V}{pos:Pos}(h:GC X.mg x v)(hg:Gl X x)(hd:(x==("__debug__":Str))=false:=by decide):PE X (.Name x pos) (tC v):=by
 obtain⟨u,e,r⟩:=h
 exact pe_glob hg e r hd
end
structure Def(P:Program)(w:World)(K:W.Frag)(mg:Str->Option Value)(base:Heap)(CX:CXT)(k:Nat)(x:Str)(ps:List Str)(sp:Sp):Prop where
 ex:∃ f fd,bq P w K mg base CX k f fd ps sp/\mg x=some (.ref f)/\W.keepIn K (.ref f)=true/\Binds K fd ps []
def tCal(sp:Sp)(E:XK)(t:TA):TE:=fun σ H Q=>t σ H fun vs H1=>sp vs H1 Q E
theorem tCall_eq{sp:Sp}{E:XK}{t:TA}:tCall sp [] E t=tCal sp E t:=by
 funext σ H Q
 show t σ H (fun vs H1=>sp (vs++[]) H1 Q E)=t σ H (fun vs H1=>sp vs H1 Q E)
 congr 1
 funext vs H1
 rw[List.append_nil]
theorem bd{X:Cx}{CX:CXT}{k:Nat}{x:Str}{ps:List Str}{sp:Sp}{E:XK}{p pos:Pos}{e:Expr}{es:List Expr}{t:TA}(D:Def X.prog X.w X.K X.mg X.base CX k x ps sp){j:Nat}(hr:fm j X.A)(hk:k<=j)(hg:Gl X x)(hx:jp CX X E)(ha:PA X (e::es) t)(hdb:(x==("__debug__":Str))=false:=by decide)(he:starEach (e::es) X.env=(false,eval e X.env)::starEach es X.env:=by rfl)(hpl:(backTo pos (starEach es X.env)).any (·.1)=false:=by rfl):PE X (.Call (.Name x p) (e::es) [] pos) (tCal sp E t):=by
 obtain⟨f,fd,F,hm,kp,hb⟩:=D.ex
 rw[<-tCall_eq]
 exact pe_call F (hr.mono hk) hg hm kp hb .nil hx ha hdb he hpl
theorem px_def{X:Cx}{k:Nat}{x:Str}{ps:List Str}{sp:Sp}{p pos:Pos}{e:Expr}{es:List Expr}{t:TA}(D:Def X.prog X.w X.K X.mg X.base (Fx X.prog X.w) k x ps sp){j:Nat}(hr:fm j X.A)(hk:k<=j)(hg:Gl X x)(hx:X.ex=[])(ha:PA X.nox (e::es) t)(hdb:(x==("__debug__":Str))=false:=by decide)(he:starEach (e::es) X.env=(false,eval e X.env)::starEach es X.env:=by rfl)(hpl:(backTo pos (starEach es X.env)).any (·.1)=false:=by rfl):PEx X (.Call (.Name x p) (e::es) [] pos) (fun σ H Q E=>t σ H fun vs H1=>sp vs H1 Q E):=by
 obtain⟨f,fd,F,hm,kp,hb⟩:=D.ex
 exact px_call F (hr.mono hk) hg hm kp hb hx ha hdb he hpl
structure d8(P:Program)(w:World)(K:W.Frag)(mg:Str->Option Value)(base:Heap)(CX:CXT)(k:Nat)(C:Addr)(m:Str)(ps:List Str)(sp:Sp):Prop where
 ex:∃ f fd,bq P w K mg base CX k f fd ps sp/\Meth K C m f/\Binds K fd ps []
def tMtd(C:Addr)(m:Str)(sp:Sp)(E:XK)(ta:TE)(t:TA):TE:=fun σ H Q=>ta σ H fun x H1=>∃ a dx fs,x=.ref a/\H1 a=some (.ins C dx fs)/\fs.lookup m=none/\t σ H1 fun vs H2=>sp (x::vs) H2 Q E
theorem tMeth_eq{C:Addr}{m:Str}{sp:Sp}{E:XK}{ta:TE}{t:TA}:tMeth C m sp [] E ta t=tMtd C m sp E ta t:=by
 funext σ H Q
 unfold tMeth tMtd
 congr 1
 funext x H1
 simp only[List.append_nil]
theorem ni{X:Cx}{CX:CXT}{k:Nat}{C:Addr}{m:Str}{ps:List Str}{sp:Sp}{E:XK}{apos pos:Pos}{o e:Expr}{es:List Expr}{ta:TE}{t:TA}{pl:Sem Bool}(he:PE X o ta)(c:Cls X.K C)(D:d8 X.prog X.w X.K X.mg X.base CX k C m ps sp){j:Nat}(hr:fm j X.A)(hk:k<=j)(hx:jp CX X E)(ha:PA X (e::es) t)(hst:starEach (e::es) X.env=(false,eval e X.env)::starEach es X.env:=by rfl)(hpl:(backTo pos (starEach es X.env)).any (·.1)=false:=by rfl)(ht:eval (.Call (.Attribute o m apos) (e::es) [] pos) X.env=(do
   let ov <-eval o X.env
   standAt apos.atName
   let (f,first) <-holding [ov] (getMethod ov m pl)
   callWith pos f first (backTo pos (starEach (e::es) X.env)) (backToKw pos (keywordEach [] X.env))):=by rfl) :
  PE X (.Call (.Attribute o m apos) (e::es) [] pos) (tMtd C m sp E ta t):=by
 obtain⟨f,fd,F,hm,hb⟩:=D.ex
 rw[<-tMeth_eq]
 exact pe_meth (pl:=pl) he c hm F (hr.mono hk) hb .nil hx ha hst hpl ht
theorem pe_mtd0{X:Cx}{CX:CXT}{k:Nat}{C:Addr}{m:Str}{ps:List Str}{sp:Sp}{E:XK}{apos pos:Pos}{o:Expr}{ta:TE}{pl:Sem Bool}(he:PE X o ta)(c:Cls X.K C)(D:d8 X.prog X.w X.K X.mg X.base CX k C m ps sp){j:Nat}(hr:fm j X.A)(hk:k<=j)(hx:jp CX X E)(ht:eval (.Call (.Attribute o m apos) [] [] pos) X.env=(do
   let ov <-eval o X.env
   standAt apos.atName
   let (f,first) <-holding [ov] (getMethod ov m pl)
   callWith pos f first (backTo pos (starEach [] X.env)) (backToKw pos (keywordEach [] X.env))):=by rfl) :
  PE X (.Call (.Attribute o m apos) [] [] pos) (tMtd C m sp E ta jo):=by
 obtain⟨f,fd,F,hm,hb⟩:=D.ex
 rw[<-tMeth_eq]
 exact pe_meth0 (pl:=pl) he c hm F (hr.mono hk) hb .nil hx ht
def spMk(C:Addr)(names:List Str):Sp:=fun vs H Q _=>∃(p dx:Addr)(ys:List V),vs=.ref p::ys/\ys.length=names.length/\H p=some (.ins C dx [])/\Q .non (upd H p (.ins C dx (names.zip ys)))
structure MkD(P:Program)(w:World)(K:W.Frag)(mg:Str->Option Value)(base:Heap)(x:Str)(C:Addr)(names:List Str):Prop where
 ex:∃ fI fd ps,Mk K C fI/\bq P w K mg base CX0 1 fI fd ps (spMk C names)/\mg x=some (.ref C)/\Binds K fd ps []
def tMkd(C:Addr)(names:List Str)(t:TA):TE:=fun σ H Q=>t σ H fun vs H1=>vs.length=names.length/\∀ x dx H2,H1 x=none->ak H1 H2->H2 x=some (.ins C dx (names.zip vs))->Q (.ref x) H2
theorem PE.imp{X:Cx}{e:Expr}{t t':TE}(h:PE X e t)(m:∀ σ H Q,t' σ H Q->t σ H Q):PE X e t':=fun pins s σ H Q I q=>h pins s σ H Q I (m σ H Q q)
theorem PA.run{X:Cx}{es:List Expr}{t:TA}(h:PA X es t):PA X es (fun σ H Q=>∃ Q0,t σ H Q0/\∀ vs H1,Q0 vs H1->Q vs H1):=fun pos pins s σ H Q I q=>by
 obtain⟨Q0,q,m⟩:=q
 exact wpAny_mono (h pos pins s σ H Q0 I q) (fun us s' ⟨vs,H',I',r,z⟩=>⟨vs,H',I',r,m vs H' z⟩) fun _ _ z=>z
theorem gg{X:Cx}{x:Str}{C:Addr}{names:List Str}{p pos:Pos}{e:Expr}{es:List Expr}{t:TA}(D:MkD X.prog X.w X.K X.mg X.base x C names){j:Nat}(hr:fm j X.A)(hk:2<=j)(hg:Gl X x)(ha:PA X (e::es) t)(hdb:(x==("__debug__":Str))=false:=by decide)(he:starEach (e::es) X.env=(false,eval e X.env)::starEach es X.env:=by rfl)(hpl:(backTo pos (starEach es X.env)).any (·.1)=false:=by rfl):PE X (.Call (.Name x p) (e::es) [] pos) (tMkd C names t):=by
 obtain⟨fI,fd,ps,M,F,hm,hb⟩:=D.ex
 refine(pe_make (E:=E0) M F (hr.mono hk) hg hm hb .nil cj ha.run hdb he hpl).imp fun σ H Q q=>?_
 refine⟨_,q,fun vs H1 ⟨hl,k⟩ y dx n1 n2 ne=>⟨y,dx,vs,by rw[List.append_nil],hl,ac,rfl,?_⟩⟩
 refine k y dx _ n1 (fun b o e=>?_) ac
 rw[ai (ap e n1),ai (ap e n1),ai (ap e n2)]
 exact e
structure Cl(K:W.Frag)(C:Addr)(names:List Str):Prop where
 cl:Cls K C
 no:∀ f∈names,NoAttr K C f
end L2
namespace Lp
open PySem PySem.Spec PyProof.Rows L2
def top(i:Nat):Stmt:=PySem.Challenge.pw_lamppanel_s01_answers.main.body.getD i (.Pass ⟨0,0,0,0⟩)
abbrev sRelVar:Stmt:=top 8
section
variable{P:Program}{w:World}{K:PySem.W.Frag}{mg:Str->Option Value}{base:Heap}
def spRelVar:Sp:=fun vs H Q _=>∃ i:Int,vs=[.int i]/\Q (.int (16+i)) H
theorem scRelVar:au ["place"] ["place"] (al sRelVar):=⟨rfl,rfl,rfl,by decide +kernel,rfl,by decide +kernel,by decide +kernel⟩
theorem okRelVar{f:Addr}{fd:FuncData}(F:Fun K "relay_variable" "relay_variable" sRelVar f fd)(g1:GC mg "FIRST_RELAY" (.int 16)):bq P w K mg base CX0 1 f fd ["place"] spRelVar:=by
 refine F.ok scRelVar (fun vs H Q E h=>?_) (fun cdv A outer s H vs Q E hr h=>?_)
 ·obtain⟨i,rfl,_⟩:=h
  rfl
 ·obtain⟨i,rfl,k⟩:=h
  refine⟨_,ah (aw (cp op_add (ay g1 rfl) (pv 0))),?_⟩
  exact⟨_,rfl,_,_,rfl,rfl,k⟩
theorem band(a b:Nat):Builtin.bitAnd (a:Int) (b:Int)=((a &&& b:Nat):Int):=by
 first|rfl|(unfold Builtin.bitAnd;simp)
theorem bxor(a b:Nat):Builtin.bitXor (a:Int) (b:Int)=((a ^^^ b:Nat):Int):=by rw[Bits.bitXor_pp (by omega) (by omega)];rfl
theorem bor(a b:Nat):Builtin.bitOr (a:Int) (b:Int)=((a ||| b:Nat):Int):=by rw[Bits.bitOr_pp (by omega) (by omega)];rfl
abbrev kt:List Str:=["bit","node","up","down"]
abbrev iRelay:Stmt:=bb (top 4) 0
theorem scRelay:au ("self"::kt) ("self"::kt) (al iRelay):=⟨rfl,rfl,rfl,by decide +kernel,rfl,by decide +kernel,by decide +kernel⟩
theorem okRelay{C f:Addr}{fd:FuncData}(F:Fun K "__init__" "Relay.__init__" iRelay f fd)(T:Cl K C kt):bq P w K mg base CX0 1 f fd ("self"::kt) (spMk C kt):=by
 refine F.ok scRelay (fun vs H Q E h=>?_) (fun cdv A outer s H vs Q E hr h=>?_)
 ·obtain⟨p,dx,ys,rfl,hl,_⟩:=h
  show ys.length+1=_
  rw[hl]
  rfl
 ·obtain⟨p,dx,ys,rfl,hl,hp,k⟩:=h
  match ys,hl with
  | [y1,y2,y3,y4],_ =>
   refine⟨_,ae (bg (pv 0) (pv 1) rfl) (ae (bg (pv 0) (pv 2) rfl) (ae (bg (pv 0) (pv 3) rfl) (ah (bg (pv 0) (pv 4) rfl)))),?_⟩
   refine⟨_,rfl,_,rfl,p,C,dx,[],rfl,hp,T.cl,T.no _ (by decide),(by decide),?_⟩
   refine⟨_,rfl,_,rfl,p,C,dx,_,rfl,ac,T.cl,T.no _ (by decide),(by show 1<1000;decide),?_⟩
   refine⟨_,rfl,_,rfl,p,C,dx,_,rfl,ac,T.cl,T.no _ (by decide),(by show 2<1000;decide),?_⟩
   refine⟨_,rfl,_,rfl,p,C,dx,_,rfl,ac,T.cl,T.no _ (by decide),(by show 3<1000;decide),?_⟩
   rw[cu,cu,cu]
   exact k
abbrev gp:List Str:=["low","high","variable","through"]
abbrev iContact:Stmt:=bb (top 5) 0
theorem scContact:au ("self"::gp) ("self"::gp) (al iContact):=⟨rfl,rfl,rfl,by decide +kernel,rfl,by decide +kernel,by decide +kernel⟩
theorem okContact{C f:Addr}{fd:FuncData}(F:Fun K "__init__" "Contact.__init__" iContact f fd)(T:Cl K C gp):bq P w K mg base CX0 1 f fd ("self"::gp) (spMk C gp):=by
 refine F.ok scContact (fun vs H Q E h=>?_) (fun cdv A outer s H vs Q E hr h=>?_)
 ·obtain⟨p,dx,ys,rfl,hl,_⟩:=h
  show ys.length+1=_
  rw[hl]
  rfl
 ·obtain⟨p,dx,ys,rfl,hl,hp,k⟩:=h
  match ys,hl with
  | [y1,y2,y3,y4],_ =>
   refine⟨_,ae (bg (pv 0) (pv 1) rfl) (ae (bg (pv 0) (pv 2) rfl) (ae (bg (pv 0) (pv 3) rfl) (ah (bg (pv 0) (pv 4) rfl)))),?_⟩
   refine⟨_,rfl,_,rfl,p,C,dx,[],rfl,hp,T.cl,T.no _ (by decide),(by decide),?_⟩
   refine⟨_,rfl,_,rfl,p,C,dx,_,rfl,ac,T.cl,T.no _ (by decide),(by show 1<1000;decide),?_⟩
   refine⟨_,rfl,_,rfl,p,C,dx,_,rfl,ac,T.cl,T.no _ (by decide),(by show 2<1000;decide),?_⟩
   refine⟨_,rfl,_,rfl,p,C,dx,_,rfl,ac,T.cl,T.no _ (by decide),(by show 3<1000;decide),?_⟩
   rw[cu,cu,cu]
   exact k
abbrev kr:List Str:=["relays","lamps"]
abbrev iDrawn:Stmt:=bb (top 6) 0
theorem scDrawn:au ("self"::kr) ("self"::kr) (al iDrawn):=⟨rfl,rfl,rfl,by decide +kernel,rfl,by decide +kernel,by decide +kernel⟩
theorem okDrawn{C f:Addr}{fd:FuncData}(F:Fun K "__init__" "Drawn.__init__" iDrawn f fd)(T:Cl K C kr):bq P w K mg base CX0 1 f fd ("self"::kr) (spMk C kr):=by
 refine F.ok scDrawn (fun vs H Q E h=>?_) (fun cdv A outer s H vs Q E hr h=>?_)
 ·obtain⟨p,dx,ys,rfl,hl,_⟩:=h
  show ys.length+1=_
  rw[hl]
  rfl
 ·obtain⟨p,dx,ys,rfl,hl,hp,k⟩:=h
  match ys,hl with
  | [y1,y2],_ =>
   refine⟨_,ae (bg (pv 0) (pv 1) rfl) (ah (bg (pv 0) (pv 2) rfl)),?_⟩
   refine⟨_,rfl,_,rfl,p,C,dx,[],rfl,hp,T.cl,T.no _ (by decide),(by decide),?_⟩
   refine⟨_,rfl,_,rfl,p,C,dx,_,rfl,ac,T.cl,T.no _ (by decide),(by show 1<1000;decide),?_⟩
   rw[cu]
   exact k
abbrev iq:List Str:=["state","ticks","waits"]
abbrev iClock:Stmt:=bb (top 15) 0
theorem scClock:au ("self"::iq) ("self"::iq) (al iClock):=⟨rfl,rfl,rfl,by decide +kernel,rfl,by decide +kernel,by decide +kernel⟩
theorem okClock{C f:Addr}{fd:FuncData}(F:Fun K "__init__" "Clock.__init__" iClock f fd)(T:Cl K C iq):bq P w K mg base CX0 1 f fd ("self"::iq) (spMk C iq):=by
 refine F.ok scClock (fun vs H Q E h=>?_) (fun cdv A outer s H vs Q E hr h=>?_)
 ·obtain⟨p,dx,ys,rfl,hl,_⟩:=h
  show ys.length+1=_
  rw[hl]
  rfl
 ·obtain⟨p,dx,ys,rfl,hl,hp,k⟩:=h
  match ys,hl with
  | [y1,y2,y3],_ =>
   refine⟨_,ae (bg (pv 0) (pv 1) rfl) (ae (bg (pv 0) (pv 2) rfl) (ah (bg (pv 0) (pv 3) rfl))),?_⟩
   refine⟨_,rfl,_,rfl,p,C,dx,[],rfl,hp,T.cl,T.no _ (by decide),(by decide),?_⟩
   refine⟨_,rfl,_,rfl,p,C,dx,_,rfl,ac,T.cl,T.no _ (by decide),(by show 1<1000;decide),?_⟩
   refine⟨_,rfl,_,rfl,p,C,dx,_,rfl,ac,T.cl,T.no _ (by decide),(by show 2<1000;decide),?_⟩
   rw[cu,cu]
   exact k
abbrev nRow:List Str:=["rank","name","numbers"]
abbrev iRow:Stmt:=bb (top 42) 0
theorem scRow:au ("self"::nRow) ("self"::nRow) (al iRow):=⟨rfl,rfl,rfl,by decide +kernel,rfl,by decide +kernel,by decide +kernel⟩
theorem okRow{C f:Addr}{fd:FuncData}(F:Fun K "__init__" "Row.__init__" iRow f fd)(T:Cl K C nRow):bq P w K mg base CX0 1 f fd ("self"::nRow) (spMk C nRow):=by
 refine F.ok scRow (fun vs H Q E h=>?_) (fun cdv A outer s H vs Q E hr h=>?_)
 ·obtain⟨p,dx,ys,rfl,hl,_⟩:=h
  show ys.length+1=_
  rw[hl]
  rfl
 ·obtain⟨p,dx,ys,rfl,hl,hp,k⟩:=h
  match ys,hl with
  | [y1,y2,y3],_ =>
   refine⟨_,ae (bg (pv 0) (pv 1) rfl) (ae (bg (pv 0) (pv 2) rfl) (ah (bg (pv 0) (pv 3) rfl))),?_⟩
   refine⟨_,rfl,_,rfl,p,C,dx,[],rfl,hp,T.cl,T.no _ (by decide),(by decide),?_⟩
   refine⟨_,rfl,_,rfl,p,C,dx,_,rfl,ac,T.cl,T.no _ (by decide),(by show 1<1000;decide),?_⟩
   refine⟨_,rfl,_,rfl,p,C,dx,_,rfl,ac,T.cl,T.no _ (by decide),(by show 2<1000;decide),?_⟩
   rw[cu,cu]
   exact k
abbrev j7:List Str:=["word","name","ticks"]
abbrev iThing:Stmt:=bb (top 65) 0
theorem scThing:au ("self"::j7) ("self"::j7) (al iThing):=⟨rfl,rfl,rfl,by decide +kernel,rfl,by decide +kernel,by decide +kernel⟩
theorem okThing{C f:Addr}{fd:FuncData}(F:Fun K "__init__" "Thing.__init__" iThing f fd)(T:Cl K C j7):bq P w K mg base CX0 1 f fd ("self"::j7) (spMk C j7):=by
 refine F.ok scThing (fun vs H Q E h=>?_) (fun cdv A outer s H vs Q E hr h=>?_)
 ·obtain⟨p,dx,ys,rfl,hl,_⟩:=h
  show ys.length+1=_
  rw[hl]
  rfl
 ·obtain⟨p,dx,ys,rfl,hl,hp,k⟩:=h
  match ys,hl with
  | [y1,y2,y3],_ =>
   refine⟨_,ae (bg (pv 0) (pv 1) rfl) (ae (bg (pv 0) (pv 2) rfl) (ah (bg (pv 0) (pv 3) rfl))),?_⟩
   refine⟨_,rfl,_,rfl,p,C,dx,[],rfl,hp,T.cl,T.no _ (by decide),(by decide),?_⟩
   refine⟨_,rfl,_,rfl,p,C,dx,_,rfl,ac,T.cl,T.no _ (by decide),(by show 1<1000;decide),?_⟩
   refine⟨_,rfl,_,rfl,p,C,dx,_,rfl,ac,T.cl,T.no _ (by decide),(by show 2<1000;decide),?_⟩
   rw[cu,cu]
   exact k
abbrev j3:List Str:=["scheme_text","things","first"]
abbrev iScore:Stmt:=bb (top 66) 0
theorem scScore:au ("self"::j3) ("self"::j3) (al iScore):=⟨rfl,rfl,rfl,by decide +kernel,rfl,by decide +kernel,by decide +kernel⟩
theorem okScore{C f:Addr}{fd:FuncData}(F:Fun K "__init__" "Score.__init__" iScore f fd)(T:Cl K C j3):bq P w K mg base CX0 1 f fd ("self"::j3) (spMk C j3):=by
 refine F.ok scScore (fun vs H Q E h=>?_) (fun cdv A outer s H vs Q E hr h=>?_)
 ·obtain⟨p,dx,ys,rfl,hl,_⟩:=h
  show ys.length+1=_
  rw[hl]
  rfl
 ·obtain⟨p,dx,ys,rfl,hl,hp,k⟩:=h
  match ys,hl with
  | [y1,y2,y3],_ =>
   refine⟨_,ae (bg (pv 0) (pv 1) rfl) (ae (bg (pv 0) (pv 2) rfl) (ah (bg (pv 0) (pv 3) rfl))),?_⟩
   refine⟨_,rfl,_,rfl,p,C,dx,[],rfl,hp,T.cl,T.no _ (by decide),(by decide),?_⟩
   refine⟨_,rfl,_,rfl,p,C,dx,_,rfl,ac,T.cl,T.no _ (by decide),(by show 1<1000;decide),?_⟩
   refine⟨_,rfl,_,rfl,p,C,dx,_,rfl,ac,T.cl,T.no _ (by decide),(by show 2<1000;decide),?_⟩
   rw[cu,cu]
   exact k
abbrev nDeed:List Str:=["line","before"]
abbrev iDeed:Stmt:=bb (top 93) 0
theorem scDeed:au ("self"::nDeed) ("self"::nDeed) (al iDeed):=⟨rfl,rfl,rfl,by decide +kernel,rfl,by decide +kernel,by decide +kernel⟩
theorem okDeed{C f:Addr}{fd:FuncData}(F:Fun K "__init__" "Deed.__init__" iDeed f fd)(T:Cl K C nDeed):bq P w K mg base CX0 1 f fd ("self"::nDeed) (spMk C nDeed):=by
 refine F.ok scDeed (fun vs H Q E h=>?_) (fun cdv A outer s H vs Q E hr h=>?_)
 ·obtain⟨p,dx,ys,rfl,hl,_⟩:=h
  show ys.length+1=_
  rw[hl]
  rfl
 ·obtain⟨p,dx,ys,rfl,hl,hp,k⟩:=h
  match ys,hl with
  | [y1,y2],_ =>
   refine⟨_,ae (bg (pv 0) (pv 1) rfl) (ah (bg (pv 0) (pv 2) rfl)),?_⟩
   refine⟨_,rfl,_,rfl,p,C,dx,[],rfl,hp,T.cl,T.no _ (by decide),(by decide),?_⟩
   refine⟨_,rfl,_,rfl,p,C,dx,_,rfl,ac,T.cl,T.no _ (by decide),(by show 1<1000;decide),?_⟩
   rw[cu]
   exact k
end
structure Cs where
 relay:Addr
 contact:Addr
 drawn:Addr
 scheme:Addr
 clock:Addr
 row:Addr
 thing:Addr
 score:Addr
 deed:Addr
 panel:Addr
 fault:Addr
 shapeless:Addr
abbrev nScheme:List Str:=["inputs","relays","lamps","contacts","looked_at"]
abbrev nPanel:List Str:=["scheme","scheme_text","clock","done"]
structure Ts(K:W.Frag)(c:Cs):Prop where
 relay:Cl K c.relay kt
 contact:Cl K c.contact gp
 drawn:Cl K c.drawn kr
 scheme:Cl K c.scheme nScheme
 clock:Cl K c.clock iq
 row:Cl K c.row nRow
 thing:Cl K c.thing j7
 score:Cl K c.score j3
 deed:Cl K c.deed nDeed
 panel:Cl K c.panel nPanel
def strOf(b:Rung.Bytes):Str:=⟨(b.map UInt8.toNat).toArray⟩
abbrev nI(n:Nat):V:=.int (n:Int)
def ja(c:Cs)(G:Hp)(a:Addr)(j:Nat)(r:Rung.Relay):Prop:=∃ dx,G a=some (.ins c.relay dx [("bit",nI (2 ^ (16+j))),("node",nI r.node),("up",nI r.up),("down",nI r.down)])
def thr(b:Bool):Nat:=if b=true then 1 else 0
def dw(c:Cs)(G:Hp)(a:Addr)(k:Rung.Contact):Prop:=∃ dx,G a=some (.ins c.contact dx [("low",nI k.a),("high",nI k.b),("variable",nI k.var),("through",nI (thr k.closer))])
def jc(c:Cs)(G:Hp)(a:Addr)(s:Rung.Scheme)(x:Nat):Prop:=∃ dx,G a=some (.ins c.drawn dx [("relays",nI (Lm.drawB s x)),("lamps",nI (Rung.lampBits s x))])
structure SchemeIn(c:Cs)(G:Hp)(s:Rung.Scheme)(li lr ll lc:Addr):Prop where
 inp:G li=some (.lst (s.inputs.map fun n=>V.str (strOf n)))
 rel:∃ as:List Addr,G lr=some (.lst (as.map V.ref))/\as.length=s.relays.length/\∀(j:Nat)(a:Addr)(r:Rung.Relay),as[j]?=some a->s.relays[j]?=some r->ja c G a j r
 lam:G ll=some (.lst (s.lamps.map fun l=>nI l.node))
 con:∃ bs:List Addr,G lc=some (.lst (bs.map V.ref))/\bs.length=s.contacts.length/\∀(j:Nat)(a:Addr)(k:Rung.Contact),bs[j]?=some a->s.contacts[j]?=some k->dw c G a k
def df(c:Cs)(G:Hp)(sc:Addr)(s:Rung.Scheme)(ld:Addr):Prop:=∃ dx li lr ll lc,G sc=some (.ins c.scheme dx [("inputs",.ref li),("relays",.ref lr),("lamps",.ref ll),("contacts",.ref lc),("looked_at",.ref ld)])/\SchemeIn c G s li lr ll lc
def cw(c:Cs)(G:Hp)(a:Addr)(k:Rung.Clock):Prop:=∃ dx lw,G a=some (.ins c.clock dx [("state",nI k.x),("ticks",nI k.ticks),("waits",.ref lw)])/\G lw=some (.lst (k.waits.map nI))
section
variable{c:Cs}{G G':Hp}
theorem ja.mono{a:Addr}{j:Nat}{r:Rung.Relay}(s:ak G G')(h:ja c G a j r):ja c G' a j r:=by obtain⟨dx,h⟩:=h;exact⟨dx,s _ _ h⟩
theorem dw.mono{a:Addr}{r:Rung.Contact}(s:ak G G')(h:dw c G a r):dw c G' a r:=by obtain⟨dx,h⟩:=h;exact⟨dx,s _ _ h⟩
theorem jc.mono{a:Addr}{z:Rung.Scheme}{x:Nat}(s:ak G G')(h:jc c G a z x):jc c G' a z x:=by obtain⟨dx,h⟩:=h;exact⟨dx,s _ _ h⟩
theorem SchemeIn.mono{z:Rung.Scheme}{li lr ll lc:Addr}(s:ak G G')(h:SchemeIn c G z li lr ll lc):SchemeIn c G' z li lr ll lc:=by
 obtain⟨h1,⟨as,h2,h3,h4⟩,h5,⟨bs,h6,h7,h8⟩⟩:=h
 exact⟨s _ _ h1,⟨as,s _ _ h2,h3,fun j a r e1 e2=>(h4 j a r e1 e2).mono s⟩,s _ _ h5,⟨bs,s _ _ h6,h7,fun j a r e1 e2=>(h8 j a r e1 e2).mono s⟩⟩
theorem df.mono{sc ld:Addr}{z:Rung.Scheme}(s:ak G G')(h:df c G sc z ld):df c G' sc z ld:=by
 obtain⟨dx,li,lr,ll,lc,h1,h2⟩:=h
 exact⟨dx,li,lr,ll,lc,s _ _ h1,h2.mono s⟩
theorem cw.mono{a:Addr}{k:Rung.Clock}(s:ak G G')(h:cw c G a k):cw c G' a k:=by
 obtain⟨dx,lw,h1,h2⟩:=h
 exact⟨dx,lw,s _ _ h1,s _ _ h2⟩
theorem fc{α:Type}{l:List α}{f:α->V}{i:Nat}{y:V}(h:(l.map f)[i]?=some y):∃ a,l[i]?=some a/\y=f a:=by
 rw[List.getElem?_map] at h
 cases e:l[i]? with
 |none=>rw[e] at h;cases h
 |some a=>rw[e] at h;exact⟨a,rfl,(Option.some.inj h).symm⟩
theorem gv{α:Type}{l:List α}{f:α->V}{i:Nat}{a:α}(h:l[i]?=some a):(l.map f)[i]?=some (f a):=by rw[List.getElem?_map,h];rfl
theorem gz{α β:Type}{as:List α}{bs:List β}{j:Nat}{a:α}(hl:as.length=bs.length)(h:as[j]?=some a):∃ b,bs[j]?=some b:=by
 have:=(List.getElem?_eq_some_iff.mp h).1
 exact⟨bs[j]'(by omega),List.getElem?_eq_getElem (by omega)⟩
end
section
variable{P:Program}{w:World}{K:PySem.W.Frag}{mg:Str->Option Value}{base:Heap}{c:Cs}
abbrev sLets:Stmt:=top 9
def spLets(c:Cs):Sp:=fun vs H Q _=>∃(a:Addr)(x:Nat)(k:Rung.Contact),vs=[.ref a,nI x]/\dw c H a k/\Q (.bl (k.closed x)) H
theorem scLets:au ["contact","state"] ["contact","state"] (al sLets):=⟨rfl,rfl,rfl,by decide +kernel,rfl,by decide +kernel,by decide +kernel⟩
theorem lets_eq(x v:Nat)(cl:Bool):decide (V.int (Builtin.bitAnd ((x:Int) / 2 ^ ((v:Int).toNat)) 1)=nI (thr cl))=(Rung.State.on x v==cl):=by
 have e:(x:Int) / 2 ^ ((v:Int).toNat)=((x / 2 ^ v:Nat):Int):=by simp
 rw[e,show(1:Int)=((1:Nat):Int) from rfl,band,Nat.and_one_is_mod]
 unfold Rung.State.on
 have h2:x / 2 ^ v % 2<2:=Nat.mod_lt _ (by decide)
 generalize x / 2 ^ v % 2=m at h2
 have:m=0\/m=1:=by omega
 rcases this with rfl|rfl<;>cases cl<;>decide
theorem okLets{f:Addr}{fd:FuncData}(F:Fun K "lets_through" "lets_through" sLets f fd)(T:Ts K c):bq P w K mg base CX0 1 f fd ["contact","state"] (spLets c):=by
 refine F.ok scLets (fun vs H Q E h=>?_) (fun cdv A outer s H vs Q E hr h=>?_)
 ·obtain⟨a,x,k,rfl,_⟩:=h
  rfl
 ·obtain⟨a,x,k,rfl,⟨dx,ha⟩,q⟩:=h
  refine⟨_,ah (aw (gq cf (cp op_and (cp op_shr (pv 1) (ao (pv 0) rfl)) aj) (ao (pv 0) rfl) rfl)),?_⟩
  refine⟨_,rfl,_,rfl,a,_,dx,_,_,rfl,ha,T.contact.cl,T.contact.no _ (by decide),rfl,_,_,rfl,rfl,(by show(0:Int)<=_;omega),_,_,rfl,rfl,_,rfl,a,_,dx,_,_,rfl,ha,T.contact.cl,T.contact.no _ (by decide),rfl,rfl,?_⟩
  rw[lets_eq]
  exact q
abbrev kc(x:Str)(v:V):Str×V:=(x,v)
def consts:List (Str×V):=[kc "NODES" (.int 64),kc "RAIL" (.int 0),kc "FIRST_RELAY" (.int 16),kc "LETTERS" (.str "abcdefghijklmnopqrstuvwxyz"),kc "DIGITS" (.str "0123456789"),kc "NO_SIGN" (.str "?"),kc "MOST_NAME_SIGNS" (.int 12),kc "MOST_NODE" (.int 63),kc "MOST_DELAY" (.int 65535),kc "MOST_DIGITS" (.int 5),kc "IN_RANK" (.int 0),kc "RELAY_RANK" (.int 1),kc "LAMP_RANK" (.int 2),kc "CONTACT_RANK" (.int 3),kc "NO_SHAPE" (.int 1),kc "OUT_OF_ORDER" (.int 2),kc "TOO_MANY" (.int 3),kc "NAME_TAKEN" (.int 4),kc "NAME_UNKNOWN" (.int 5),kc "PRESS_WORD" (.str "press"),kc "LET_WORD" (.str "let"),kc "RUN_WORD" (.str "run"),kc "MOST_TICKS" (.int 2000),kc "LOAD" (.int 1),kc "PRESS" (.int 2),kc "RUN" (.int 3),kc "TOLD" (.int 4),kc "JOURNAL" (.int 5),kc "PLAY" (.int 6),kc "BACK" (.int 7),kc "OUT_OF_BOUNDS" (.int (-1)),kc "NO_SCHEME" (.int (-3)),kc "NO_SUCH_INPUT" (.int (-4)),kc "NOTHING_DONE" (.int (-5)),kc "FULL" (.int (-7)),kc "MOST_SCHEME_BYTES" (.int 20000),kc "MOST_JOURNAL_BYTES" (.int 40000),kc "MOST_DONE" (.int 200),kc "NO_FAULT" (.int 0),kc "NO_THING" (.int 6),kc "NO_INPUT_OF_THAT_NAME" (.int 7),kc "SO_ALREADY" (.int 8),kc "TOO_MANY_THINGS" (.int 9)]
def nones:List Str:=["range","len","enumerate","zip","ord","any","all","min","int","str"]
end
structure G0(mg:Str->Option Value):Prop where
 c:∀ x v,(x,v)∈consts->GC mg x v
 n:∀ x,x∈nones->mg x=none
section
variable{mg:Str->Option Value}(g:G0 mg)
include g
theorem G0.NODES:GC mg "NODES" (.int 64):=g.c _ _ (by decide +kernel)
theorem G0.RAIL:GC mg "RAIL" (.int 0):=g.c _ _ (by decide +kernel)
theorem G0.FIRST_RELAY:GC mg "FIRST_RELAY" (.int 16):=g.c _ _ (by decide +kernel)
theorem G0.LETTERS:GC mg "LETTERS" (.str "abcdefghijklmnopqrstuvwxyz"):=g.c _ _ (by decide +kernel)
theorem G0.DIGITS:GC mg "DIGITS" (.str "0123456789"):=g.c _ _ (by decide +kernel)
theorem G0.NO_SIGN:GC mg "NO_SIGN" (.str "?"):=g.c _ _ (by decide +kernel)
theorem G0.MOST_NAME_SIGNS:GC mg "MOST_NAME_SIGNS" (.int 12):=g.c _ _ (by decide +kernel)
theorem G0.MOST_NODE:GC mg "MOST_NODE" (.int 63):=g.c _ _ (by decide +kernel)
theorem G0.MOST_DELAY:GC mg "MOST_DELAY" (.int 65535):=g.c _ _ (by decide +kernel)
theorem G0.MOST_DIGITS:GC mg "MOST_DIGITS" (.int 5):=g.c _ _ (by decide +kernel)
theorem G0.IN_RANK:GC mg "IN_RANK" (.int 0):=g.c _ _ (by decide +kernel)
theorem G0.RELAY_RANK:GC mg "RELAY_RANK" (.int 1):=g.c _ _ (by decide +kernel)
theorem G0.LAMP_RANK:GC mg "LAMP_RANK" (.int 2):=g.c _ _ (by decide +kernel)
theorem G0.CONTACT_RANK:GC mg "CONTACT_RANK" (.int 3):=g.c _ _ (by decide +kernel)
theorem G0.NO_SHAPE:GC mg "NO_SHAPE" (.int 1):=g.c _ _ (by decide +kernel)
theorem G0.OUT_OF_ORDER:GC mg "OUT_OF_ORDER" (.int 2):=g.c _ _ (by decide +kernel)
theorem G0.TOO_MANY:GC mg "TOO_MANY" (.int 3):=g.c _ _ (by decide +kernel)
theorem G0.NAME_TAKEN:GC mg "NAME_TAKEN" (.int 4):=g.c _ _ (by decide +kernel)
theorem G0.NAME_UNKNOWN:GC mg "NAME_UNKNOWN" (.int 5):=g.c _ _ (by decide +kernel)
theorem G0.PRESS_WORD:GC mg "PRESS_WORD" (.str "press"):=g.c _ _ (by decide +kernel)
theorem G0.LET_WORD:GC mg "LET_WORD" (.str "let"):=g.c _ _ (by decide +kernel)
theorem G0.RUN_WORD:GC mg "RUN_WORD" (.str "run"):=g.c _ _ (by decide +kernel)
theorem G0.MOST_TICKS:GC mg "MOST_TICKS" (.int 2000):=g.c _ _ (by decide +kernel)
theorem G0.LOAD:GC mg "LOAD" (.int 1):=g.c _ _ (by decide +kernel)
theorem G0.PRESS:GC mg "PRESS" (.int 2):=g.c _ _ (by decide +kernel)
theorem G0.RUN:GC mg "RUN" (.int 3):=g.c _ _ (by decide +kernel)
theorem G0.TOLD:GC mg "TOLD" (.int 4):=g.c _ _ (by decide +kernel)
theorem G0.JOURNAL:GC mg "JOURNAL" (.int 5):=g.c _ _ (by decide +kernel)
theorem G0.PLAY:GC mg "PLAY" (.int 6):=g.c _ _ (by decide +kernel)
theorem G0.BACK:GC mg "BACK" (.int 7):=g.c _ _ (by decide +kernel)
theorem G0.OUT_OF_BOUNDS:GC mg "OUT_OF_BOUNDS" (.int (-1)):=g.c _ _ (by decide +kernel)
theorem G0.NO_SCHEME:GC mg "NO_SCHEME" (.int (-3)):=g.c _ _ (by decide +kernel)
theorem G0.NO_SUCH_INPUT:GC mg "NO_SUCH_INPUT" (.int (-4)):=g.c _ _ (by decide +kernel)
theorem G0.NOTHING_DONE:GC mg "NOTHING_DONE" (.int (-5)):=g.c _ _ (by decide +kernel)
theorem G0.FULL:GC mg "FULL" (.int (-7)):=g.c _ _ (by decide +kernel)
theorem G0.MOST_SCHEME_BYTES:GC mg "MOST_SCHEME_BYTES" (.int 20000):=g.c _ _ (by decide +kernel)
theorem G0.MOST_JOURNAL_BYTES:GC mg "MOST_JOURNAL_BYTES" (.int 40000):=g.c _ _ (by decide +kernel)
theorem G0.MOST_DONE:GC mg "MOST_DONE" (.int 200):=g.c _ _ (by decide +kernel)
theorem G0.NO_FAULT:GC mg "NO_FAULT" (.int 0):=g.c _ _ (by decide +kernel)
theorem G0.NO_THING:GC mg "NO_THING" (.int 6):=g.c _ _ (by decide +kernel)
theorem G0.NO_INPUT_OF_THAT_NAME:GC mg "NO_INPUT_OF_THAT_NAME" (.int 7):=g.c _ _ (by decide +kernel)
theorem G0.SO_ALREADY:GC mg "SO_ALREADY" (.int 8):=g.c _ _ (by decide +kernel)
theorem G0.TOO_MANY_THINGS:GC mg "TOO_MANY_THINGS" (.int 9):=g.c _ _ (by decide +kernel)
theorem G0.range:mg "range"=none:=g.n _ (by decide +kernel)
theorem G0.len:mg "len"=none:=g.n _ (by decide +kernel)
theorem G0.enumerate:mg "enumerate"=none:=g.n _ (by decide +kernel)
theorem G0.zip:mg "zip"=none:=g.n _ (by decide +kernel)
theorem G0.ord:mg "ord"=none:=g.n _ (by decide +kernel)
theorem G0.any:mg "any"=none:=g.n _ (by decide +kernel)
theorem G0.all:mg "all"=none:=g.n _ (by decide +kernel)
theorem G0.min:mg "min"=none:=g.n _ (by decide +kernel)
theorem G0.int:mg "int"=none:=g.n _ (by decide +kernel)
theorem G0.str:mg "str"=none:=g.n _ (by decide +kernel)
end
theorem fld{K:W.Frag}{C:Addr}{names:List Str}{a dx:Addr}{fs:List (Str×V)}{f:Str}{v:V}{Q:V->Prop}{H:Hp}(T:Cl K C names)(h:H a=some (.ins C dx fs))(hf:f∈names)(hl:fs.lookup f=some v)(q:Q v):∃ a' C' dx' fs' v',V.ref a=.ref a'/\H a'=some (.ins C' dx' fs')/\Cls K C'/\NoAttr K C' f/\fs'.lookup f=some v'/\Q v':=⟨a,C,dx,fs,v,rfl,h,T.cl,T.no f hf,hl,q⟩
theorem nbs_len(x n:Nat):∀ cs:List Rung.Contact,(Lm.nbs cs x n).length<=cs.length
 | []=>Nat.le_refl _
 |k::cs=>by
  have ih:=nbs_len x n cs
  unfold Lm.nbs at ih ⊢
  rw[List.flatMap_cons,List.length_append,List.length_cons]
  have:(if k.closed x=true then (if k.a=n then [k.b] else if k.b=n then [k.a] else []) else []).length<=1:=by
   split
   ·split
    ·simp
    ·split<;>simp
   ·simp
  omega
structure Rows(H0 H:Hp)(p:Addr)(rows:List Addr)(f:Nat->List Nat):Prop where
 nd:rows.Nodup
 np:p∉rows
 lst:H p=some (.lst (rows.map V.ref))
 fr:∀ a∈rows,H0 a=none
 fp:H0 p=none
 at_:∀(i:Nat)(a:Addr),rows[i]?=some a->H a=some (.lst ((f i).map nI))
 same:ak H0 H
theorem Rows.put{H0 H:Hp}{p:Addr}{rows:List Addr}{f:Nat->List Nat}(R:Rows H0 H p rows f){i:Nat}{a:Addr}(hi:rows[i]?=some a)(z:Nat):Rows H0 (upd H a (.lst ((f i).map nI++[nI z]))) p rows (fun n=>if n=i then f i++[z] else f n):=by
 have ha:a∈rows:=List.mem_of_getElem? hi
 refine⟨R.nd,R.np,?_,R.fr,R.fp,fun j b hj=>?_,fun b o e=>?_⟩
 ·rw[ai (fun q=>R.np (by rw[q];exact ha))];exact R.lst
 ·by_cases hji:j=i
  ·subst hji
   obtain rfl:a=b:=Option.some.inj (hi.symm.trans hj)
   rw[ac,if_pos rfl,List.map_append]
   rfl
  ·rw[if_neg hji,ai (fun q=>hji (nd_ix R.nd hj (by rw[q];exact hi)))]
   exact R.at_ j b hj
 ·rw[ai (ap e (R.fr a ha))]
  exact R.same b o e
section
variable{P:Program}{w:World}{K:PySem.W.Frag}{mg:Str->Option Value}{base:Heap}{c:Cs}
abbrev sNb:Stmt:=top 10
def spNb(c:Cs):Sp:=fun vs H Q _=>∃(sc ld:Addr)(x:Nat)(s:Rung.Scheme),vs=[.ref sc,nI x]/\df c H sc s ld/\Lm.SOk s/\∀(H':Hp)(p:Addr)(rows:List Addr),rows.length=64->Rows H H' p rows (fun n=>Lm.nbs s.contacts x n)->Q (.ref p) H'
abbrev vNb:List Str:=["scheme","state","beside","contact","node"]
theorem scNb:au vNb ["scheme","state"] (al sNb):=⟨rfl,rfl,rfl,by decide +kernel,rfl,by decide +kernel,by decide +kernel⟩
theorem okNb{f:Addr}{fd:FuncData}(F:Fun K "neighbours" "neighbours" sNb f fd)(T:Ts K c)(g:G0 mg)(D1:Def P w K mg base CX0 1 "lets_through" ["contact","state"] (spLets c)):bq P w K mg base CX0 2 f fd ["scheme","state"] (spNb c):=by
 refine F.ok scNb (fun vs H Q E h=>?_) (fun cdv A outer s H vs Q E hr h=>?_)
 ·obtain⟨_,_,_,_,rfl,_⟩:=h
  rfl
 ·obtain⟨sc,ld,x,z,rfl,hS,ok,k⟩:=h
  refine⟨_,ae (ps_setLc (i:=2) (own:=[("node",4)]) rfl scNb.nd rfl rfl (sw_true rfl rfl rfl rfl) (pi_range1 rfl g.range (aa (ay g.NODES rfl) af)) (gk (by show blkC vNb (al sNb) _ _=true;decide +kernel))
    (fun _ _ _ _ _=>br (i:=4) scNb.nd rfl (Or.inl rfl)) (fun _ _ _ _ _=>jr) (fun _ _ _ _ _=>bi af)) (ae (io PassesOwn.never rfl (mn (ao (pv 0) rfl)) (br (i:=3) scNb.nd rfl (Or.inl rfl)) (ah (bj (pt_val (bd D1 hr (Nat.le_refl _) rfl cj (aa (pv 3) (aa (pv 1) af)))) (ae (bt (g8 PySem.F.plainAttrs_list PySem.F.slot_list_append PySem.F.type_list_append cv (bo ba (pv 2) (ao (pv 3) rfl) (fun _ _=>rfl)) (aa (ao (pv 3) rfl) af))) (ah (bt (g8 PySem.F.plainAttrs_list PySem.F.slot_list_append PySem.F.type_list_append cv (bo ba (pv 2) (ao (pv 3) rfl) (fun _ _=>rfl)) (aa (ao (pv 3) rfl) af))))) az))) (ah (aw (pv 2)))),?_⟩
  refine⟨64,rfl,by decide,by decide,fun p hp=>lc_range (Qd:=_) (fun i H'=>∃ rows:List Addr,rows.length=i/\Rows H H' p rows (fun _=>[])) ?_ ?_ ?_⟩
  ·exact⟨[],rfl,List.nodup_nil,by simp,ac,by simp,hp,fun i a h=>by simp at h,ak.new hp⟩
  ·rintro i H1 hi ⟨rows,hl,R⟩
   refine⟨rfl,Nat.zero_le _,fun q hq=>⟨rows.map V.ref,?_,?_,rows++[q],by simp[hl],?_⟩⟩
   ·rw[ai (ap R.lst hq)];exact R.lst
   ·rw[List.length_map,hl];exact bw (by have:i<64:=hi;omega)
   ·have nq:q∉rows:=fun m=>by
     obtain⟨j,hj⟩:=List.mem_iff_getElem?.mp m
     rw[R.at_ j q hj] at hq
     cases hq
    have npq:p≠q:=ap R.lst hq
    refine⟨?_,?_,?_,?_,hp,fun j a hj=>?_,fun b o e=>?_⟩
    ·exact nd_snoc R.nd nq
    ·simp[R.np,npq]
    ·rw[ac,List.map_append];rfl
    ·intro a ha
     rcases List.mem_append.mp ha with ha|ha
     ·exact R.fr a ha
     ·rw[List.mem_singleton.mp ha];exact R.same.free hq
    ·rw[List.getElem?_append] at hj
     split at hj
     ·have ha:=List.mem_of_getElem? hj
      rw[ai (fun z=>R.np (by rw[<-z];exact ha)),ai (fun z=>nq (by rw[<-z];exact ha))]
      exact R.at_ j a hj
     ·have ha:a=q:=by
       have:=List.mem_of_getElem? hj
       exact List.mem_singleton.mp this
      subst ha
      rw[ai npq.symm,ac]
      rfl
    ·rw[ai (ap e hp),ai (ap (R.same b o e) hq)]
     exact R.same b o e
  ·rintro H1 ⟨rows,hl,R⟩
   obtain⟨dx,li,lr,ll,lc,hs,si⟩:=hS
   obtain⟨bs,hb1,hb2,hb3⟩:=si.con
   refine⟨_,rfl,fld T.scheme (R.same _ _ hs) (by decide) rfl ⟨lc,rfl,⟨_,SqL.of (R.same _ _ hb1)⟩,for_list (K:=K) (a:=lc) (xs:=bs.map V.ref) (fun i σ H'=>∃ v3 v4,σ=[some (.ref sc),some (nI x),some (.ref p),v3,v4]/\Rows H H' p rows (fun n=>Lm.nbs (z.contacts.take i) x n)) ⟨none,none,rfl,R⟩ (fun i σ H' _ ⟨_,_,_,R'⟩=>SqL.of (R'.same _ _ hb1)) ?_ ?_⟩⟩
   ·rintro i y σ H' hy ⟨v3,v4,rfl,R'⟩
    obtain⟨a,ha,rfl⟩:=fc hy
    obtain⟨kk,hk⟩:=gz hb2 ha
    have hc:=(hb3 i a kk ha hk).mono R'.same
    have tk:=Lm.bp hk
    have mk:=List.mem_of_getElem? hk
    have nod:=ok.nodes kk mk
    have ab:=ok.ab kk mk
    refine⟨_,rfl,_,rfl,a,x,kk,rfl,hc,_,rfl,?_⟩
    obtain⟨dc,hc⟩:=hc
    cases hcl:kk.closed x with
    |false =>
     refine⟨_,_,rfl,?_⟩
     have e:(fun n=>Lm.nbs (z.contacts.take (i+1)) x n)=fun n=>Lm.nbs (z.contacts.take i) x n:=by
      funext n
      rw[tk,Lm.nbs_snoc,hcl]
      simp
     rw[e]
     exact R'
    |true =>
     obtain⟨ra,hra⟩:∃ ra,rows[kk.a]?=some ra:=⟨rows[kk.a]'(by omega),List.getElem?_eq_getElem (by omega)⟩
     obtain⟨rb,hrb⟩:∃ rb,rows[kk.b]?=some rb:=⟨rows[kk.b]'(by omega),List.getElem?_eq_getElem (by omega)⟩
     have R2:=R'.put hra kk.b
     have R3:=R2.put hrb kk.a
     have small:∀ n,(Lm.nbs (z.contacts.take i) x n).length<=256:=fun n=>Nat.le_trans (nbs_len x n _) (by have:=ok.con;rw[List.length_take];omega)
     have hc2:=(⟨dc,hc⟩:dw c H' a kk)
     have nra:a≠ra:=eq hc (R'.at_ _ _ hra) (by intro q;cases q)
     refine⟨_,rfl,_,rfl,fld T.contact hc (by decide) rfl ⟨p,_,_,_,rfl,rfl,SqL.of R'.lst,bu (gv hra),.inl ⟨rfl,_,SqL.of (R'.at_ _ _ hra)⟩,?_⟩⟩
     refine⟨_,rfl,fld T.contact hc (by decide) rfl ⟨ra,_,_,rfl,rfl,R'.at_ _ _ hra,?_,?_⟩⟩
     ·rw[List.length_map];exact bw (by have:=small kk.a;omega)
     have hcc:(upd H' ra (.lst ((Lm.nbs (z.contacts.take i) x kk.a).map nI++[nI kk.b]))) a=some (.ins c.contact dc [("low",nI kk.a),("high",nI kk.b),("variable",nI kk.var),("through",nI (thr kk.closer))]):=by rw[ai nra];exact hc
     refine⟨_,rfl,_,rfl,fld T.contact hcc (by decide) rfl ⟨p,_,_,_,rfl,rfl,SqL.of R2.lst,bu (gv hrb),.inl ⟨rfl,_,SqL.of (R2.at_ _ _ hrb)⟩,?_⟩⟩
     refine⟨_,rfl,fld T.contact hcc (by decide) rfl ⟨rb,_,_,rfl,rfl,R2.at_ _ _ hrb,?_,?_⟩⟩
     ·rw[List.length_map,if_neg (by omega)];exact bw (by have:=small kk.b;omega)
     refine⟨_,_,rfl,?_⟩
     have e:(fun n=>Lm.nbs (z.contacts.take (i+1)) x n)=fun n=>if n=kk.b then (fun n=>if n=kk.a then Lm.nbs (z.contacts.take i) x kk.a++[kk.b] else Lm.nbs (z.contacts.take i) x n) kk.b++[kk.a] else (fun n=>if n=kk.a then Lm.nbs (z.contacts.take i) x kk.a++[kk.b] else Lm.nbs (z.contacts.take i) x n) n:=by
      funext n
      rw[tk,Lm.nbs_snoc,hcl,if_pos rfl]
      by_cases h1:n=kk.b
      ·subst h1
       rw[if_pos rfl,if_neg (by omega),if_pos rfl]
       show _=(if kk.b=kk.a then _ else _)++_
       rw[if_neg (by omega)]
      ·rw[if_neg h1]
       show _=if n=kk.a then _ else _
       by_cases h2:n=kk.a
       ·subst h2
        rw[if_pos rfl,if_pos rfl]
       ·rw[if_neg h2,if_neg (fun q=>h2 q.symm),if_neg (fun q=>h1 q.symm),List.append_nil]
     rw[e]
     exact R3
   ·rintro σ H' ⟨v3,v4,rfl,R'⟩
    rw[List.length_map,hb2,List.take_length] at R'
    exact⟨_,rfl,k H' p rows hl R'⟩
theorem _root_.L2.ak.put{H0 H:Hp}{p:Addr}{o:HO}(s:ak H0 H)(h:H0 p=none):ak H0 (upd H p o):=fun b u e=>by rw[ai (ap e h)];exact s b u e
theorem ixN_nat{n i:Nat}(h:i<n):ixN n (i:Int)=some i:=by
 unfold ixN
 rw[if_pos (by omega),if_pos (by omega)]
 simp
theorem boot_len:bootBuiltins "len"=some (.builtin "len"):=by decide +kernel
theorem meas_vis(p:List Bool×List Nat)(o:Nat)(ho:o<p.1.length):Lm.ka (Lm.vis p o)<=Lm.ka p:=by
 unfold Lm.vis
 split
 ·exact Nat.le_refl _
 ·rename_i h
  have hf:p.1.getD o false=false:=by cases e:p.1.getD o false<;>simp_all
  have:=Lm.falses_set p.1 o ho hf
  unfold Lm.ka
  simp
  omega
theorem meas_fold:∀(l:List Nat)(p:List Bool×List Nat),(∀ o∈l,o<p.1.length)->Lm.ka (l.foldl Lm.vis p)<=Lm.ka p
 | [],p,_=>Nat.le_refl _
 |o::l,p,h=>by
  have h1:=meas_vis p o (h o (by simp))
  have hl:(Lm.vis p o).1.length=p.1.length:=Lm.vis_len [o] p
  have:=meas_fold l (Lm.vis p o) (fun q hq=>by rw[hl];exact h q (by simp[hq]))
  rw[List.foldl_cons]
  omega
abbrev sLive:Stmt:=top 11
def spLive(c:Cs):Sp:=fun vs H Q _=>∃(sc ld:Addr)(x:Nat)(s:Rung.Scheme),vs=[.ref sc,nI x]/\df c H sc s ld/\Lm.SOk s/\∀(H':Hp)(p:Addr),H' p=some (.lst ((Lm.liveL s x).map V.bl))->ak H H'->Q (.ref p) H'
abbrev vLive:List Str:=["scheme","state","beside","live","reached","node","other"]
theorem scLive:au vLive ["scheme","state"] (al sLive):=⟨rfl,rfl,rfl,by decide +kernel,rfl,by decide +kernel,by decide +kernel⟩
theorem okLive{f:Addr}{fd:FuncData}(F:Fun K "live_nodes" "live_nodes" sLive f fd)(T:Ts K c)(g:G0 mg)(D1:Def P w K mg base CX0 2 "neighbours" ["scheme","state"] (spNb c)):bq P w K mg base CX0 3 f fd ["scheme","state"] (spLive c):=by
 refine F.ok scLive (fun vs H Q E h=>?_) (fun cdv A outer s H vs Q E hr h=>?_)
 ·obtain⟨_,_,_,_,rfl,_⟩:=h
  rfl
 ·obtain⟨sc,ld,x,z,rfl,hS,ok,k⟩:=h
  refine⟨_,ae (bc (i:=2) scLive.nd rfl (Or.inl rfl) (bd D1 hr (Nat.le_refl _) rfl cj (aa (pv 0) (aa (pv 1) af)))) (ae (bc (i:=3) scLive.nd rfl (Or.inl rfl) (cp op_rep (bi (aa pe_bl af)) (ay g.NODES rfl))) (ae (ps_asg pe_bl (pg_sub (pv 3) (ay g.RAIL rfl) set_list)) (ae (bc (i:=4) scLive.nd rfl (Or.inl rfl) (bi (aa (ay g.RAIL rfl) af))) (ae (ps_while PassesOwn.never (aq op_gt (be ax rfl g.len boot_len (aa (pv 4) af)) aj rfl) (ae (bc (i:=5) scLive.nd rfl (Or.inl rfl) (pe_bm0 PySem.F.plainAttrs_list PySem.F.slot_list_pop PySem.F.type_list_pop mt_pop (pv 4))) (ah (io PassesOwn.never rfl (mn (bo ba (pv 2) (pv 5) (fun _ _=>rfl))) (br (i:=6) scLive.nd rfl (Or.inl rfl)) (ah (bj (jm (pt_val (bo ba (pv 3) (pv 6) (fun _ _=>rfl)))) (ae (ps_asg pe_bl (pg_sub (pv 3) (pv 6) set_list)) (ah (bt (g8 PySem.F.plainAttrs_list PySem.F.slot_list_append PySem.F.type_list_append cv (pv 4) (aa (pv 6) af))))) az)))))) (ah (aw (pv 3))))))),?_⟩
  refine⟨_,rfl,_,rfl,sc,ld,x,z,rfl,hS,ok,fun H2 pb rows hl R=>?_⟩
  refine⟨by decide,fun q hq=>⟨q,64,_,rfl,rfl,ac,by decide,by decide,by decide,fun pl hpl=>?_⟩⟩
  have npl:H2 pl=none:=(ak.new hq).free hpl
  refine⟨_,rfl,pl,_,_,0,rfl,rfl,ac,rfl,?_⟩
  refine⟨by decide,fun pr hpr=>?_⟩
  have sa:=ak.put (o:=.lst ((List.replicate (Int.toNat 64) [V.bl false]).flatten.set 0 (V.bl true))) (ak.put (o:=.lst (List.replicate (Int.toNat 64) [V.bl false]).flatten) (ak.new (o:=.lst [V.bl false]) hq) npl) npl
  have hla:upd (upd (upd H2 q (HO.lst [V.bl false])) pl (HO.lst (List.replicate (Int.toNat 64) [V.bl false]).flatten)) pl (HO.lst ((List.replicate (Int.toNat 64) [V.bl false]).flatten.set 0 (V.bl true))) pl=some (.lst (((List.replicate 64 false).set 0 true).map V.bl)):=ac
  generalize upd (upd (upd H2 q (HO.lst [V.bl false])) pl (HO.lst (List.replicate (Int.toNat 64) [V.bl false]).flatten)) pl (HO.lst ((List.replicate (Int.toNat 64) [V.bl false]).flatten.set 0 (V.bl true)))=Ha at sa hla hpr
  have npr:H2 pr=none:=sa.free hpr
  have ne:pl≠pr:=ap hla hpr
  refine⟨fun m σ H'=>∃ live st v5 v6,m=Lm.ka (live,st)/\m<=127/\Lm.Dfs z x live st/\σ=[some (.ref sc),some (nI x),some (.ref pb),some (.ref pl),some (.ref pr),v5,v6]/\ak H2 H'/\H' pl=some (.lst (live.map V.bl))/\H' pr=some (.lst (st.map nI)),⟨_,(List.replicate 64 false).set 0 true,[0],none,none,rfl,by decide,Lm.dfs_start,rfl,sa.trans (ak.new hpr),?_,ac⟩,?_⟩
  ·rw[ai ne];exact hla
  ·rintro m σ H' ⟨live,st,v5,v6,rfl,hm,d,rfl,s5,h1,h2⟩
   refine⟨_,rfl,pr,_,rfl,.inl (SqL.of h2),_,_,rfl,rfl,_,rfl,?_⟩
   rw[List.length_map]
   rcases List.eq_nil_or_concat st with rfl|⟨st',node,rfl⟩
   ·refine⟨_,rfl,k H' pl ?_ (R.same.trans s5)⟩
    rw[<-Lm.dfs_end ok.nodes d];exact h1
   rw[List.concat_eq_append] at *
   have e0:decide ((0:Int)<((st'++[node]).length:Nat))=true:=decide_eq_true (by simp)
   rw[e0]
   refine⟨fun σ' H''=>∃ live' st'' v5 v6,Lm.ka (live',st'')<Lm.ka (live,st'++[node])/\Lm.Dfs z x live' st''/\σ'=[some (.ref sc),some (nI x),some (.ref pb),some (.ref pl),some (.ref pr),v5,v6]/\ak H2 H''/\H'' pl=some (.lst (live'.map V.bl))/\H'' pr=some (.lst (st''.map nI)),fun σ' H'' ⟨live',st'',v5,v6,h1,h2,h3,h4,h5,h6⟩=>⟨_,h1,live',st'',v5,v6,rfl,by omega,h2,h3,h4,h5,h6⟩,?_⟩
   obtain⟨nx,mx⟩:=Lm.dfs_turn ok.nodes d
   have hn:=d.stk node (by simp)
   obtain⟨ra,hra⟩:∃ ra,rows[node]?=some ra:=⟨rows[node]'(by omega),List.getElem?_eq_getElem (by omega)⟩
   have hrow:=s5 _ _ (R.at_ node ra hra)
   have nra1:ra≠pl:=ap (R.at_ node ra hra) npl
   have nra2:ra≠pr:=ap (R.at_ node ra hra) npr
   refine⟨_,rfl,.inl ⟨rfl,_,SqL.of h2⟩,pr,_,nI node,rfl,rfl,h2,?_,?_⟩
   ·simp
   have s6:ak H2 (upd H' pr (.lst ((st'++[node]).map nI).dropLast)):=s5.put npr
   have h1':(upd H' pr (.lst ((st'++[node]).map nI).dropLast)) pl=some (.lst (live.map V.bl)):=by rw[ai ne];exact h1
   have h2':(upd H' pr (.lst ((st'++[node]).map nI).dropLast)) pr=some (.lst (st'.map nI)):=by rw[ac,List.map_append];simp
   generalize upd H' pr (.lst ((st'++[node]).map nI).dropLast)=Hb at s6 h1' h2'
   refine⟨_,rfl,_,rfl,pb,_,_,_,rfl,rfl,SqL.of (s6 _ _ R.lst),bu (gv hra),ra,rfl,⟨_,SqL.of (s6 _ _ (R.at_ node ra hra))⟩,for_list (K:=K) (a:=ra) (xs:=(Lm.nbs z.contacts x node).map nI) (fun i σ H''=>∃ v6,σ=[some (.ref sc),some (nI x),some (.ref pb),some (.ref pl),some (.ref pr),some (nI node),v6]/\ak H2 H''/\H'' pl=some (.lst ((((Lm.nbs z.contacts x node).take i).foldl Lm.vis (live,st')).1.map V.bl))/\H'' pr=some (.lst ((((Lm.nbs z.contacts x node).take i).foldl Lm.vis (live,st')).2.map nI))) ⟨_,rfl,s6,h1',h2'⟩ (fun i σ H'' _ ⟨_,_,s7,_⟩=>SqL.of (s7 _ _ (R.at_ node ra hra))) ?_ ?_⟩
   ·rintro i y σ H'' hy ⟨v6,rfl,s7,h3,h4⟩
    obtain⟨o,ho,rfl⟩:=fc hy
    have ol:o<64:=Lm.nbs_lt ok.nodes (List.mem_of_getElem? ho)
    have hlen:(((Lm.nbs z.contacts x node).take i).foldl Lm.vis (live,st')).1.length=64:=by rw[Lm.vis_len];exact d.len
    have hms:Lm.ka (((Lm.nbs z.contacts x node).take i).foldl Lm.vis (live,st'))<=127:=by
     refine Nat.le_trans (meas_fold _ _ (fun q hq=>?_)) ?_
     ·show q<live.length
      rw[d.len]
      exact Lm.nbs_lt ok.nodes (List.mem_of_mem_take hq)
     ·refine Nat.le_trans ?_ hm
      unfold Lm.ka
      simp
    have tk:((Lm.nbs z.contacts x node).take (i+1)).foldl Lm.vis (live,st')=Lm.vis (((Lm.nbs z.contacts x node).take i).foldl Lm.vis (live,st')) o:=by rw[Lm.bp ho,List.foldl_append];rfl
    rw[tk]
    generalize ((Lm.nbs z.contacts x node).take i).foldl Lm.vis (live,st')=pp at h3 h4 hlen hms
    obtain⟨lv,sk⟩:=pp
    have hlv:lv.length=64:=hlen
    change H'' pl=some (.lst (lv.map V.bl)) at h3
    change H'' pr=some (.lst (sk.map nI)) at h4
    have hget:lv[o]?=some (lv.getD o false):=by rw[List.getD_eq_getElem?_getD,List.getElem?_eq_getElem (by omega)];rfl
    refine⟨_,rfl,_,rfl,pl,_,_,_,rfl,rfl,SqL.of h3,bu (gv hget),_,rfl,?_⟩
    unfold Lm.vis
    show if (!lv.getD o false)=true then _ else _
    cases hb:lv.getD o false with
    |true =>
     simp only[hb,if_true]
     exact⟨_,rfl,s7,h3,h4⟩
    |false =>
     simp only[hb]
     refine⟨_,rfl,_,rfl,pl,_,_,o,rfl,rfl,h3,?_,?_⟩
     ·rw[List.length_map];exact ixN_nat (by omega)
     refine⟨_,rfl,.inl ⟨rfl,_,SqL.of (by rw[ai ne.symm];exact h4)⟩,_,rfl,pr,_,_,rfl,rfl,(by rw[ai ne.symm];exact h4),?_,_,rfl,?_,?_,?_⟩
     ·rw[List.length_map]
      refine bw ?_
      have:Lm.ka (lv,sk)<=127:=hms
      unfold Lm.ka at this
      simp at this
      omega
     ·exact(s7.put npl).put npr
     ·rw[ai ne,ac]
      show _=some (HO.lst ((lv.set o true).map V.bl))
      rw[List.map_set]
     ·rw[ac]
      show _=some (HO.lst ((sk++[o]).map nI))
      rw[List.map_append]
      rfl
   ·rintro σ H'' ⟨v6,rfl,s7,h3,h4⟩
    rw[List.length_map,List.take_length] at h3 h4
    exact⟨_,_,_,_,mx,nx,rfl,s7,h3,h4⟩
theorem shl_one(j:Nat):(1:Int) * 2 ^ ((j:Int).toNat)=((2 ^ j:Nat):Int):=by simp
def Cache(c:Cs)(H G:Hp)(ld:Addr)(s:Rung.Scheme)(n:Nat):Prop:=∃ kvs:List (Key×V),H ld=some (.dK kvs)/\kvs.length<=n/\∀ k v,valV kvs k=some v->∃(x:Nat)(a:Addr),k=.inl (x:Int)/\v=.ref a/\jc c G a s x
abbrev sLook:Stmt:=top 12
def spLook(c:Cs):Sp:=fun vs H Q _=>∃(sc ld:Addr)(x:Nat)(s:Rung.Scheme),vs=[.ref sc,nI x]/\df c H sc s ld/\Lm.SOk s/\∀(H':Hp)(p:Addr),H p=none->jc c H' p s x->ak H H'->Q (.ref p) H'
abbrev vLook:List Str:=["scheme","state","live","relays","relay","lamps","place","node"]
theorem mm:au vLook ["scheme","state"] (al sLook):=⟨rfl,rfl,rfl,by decide +kernel,rfl,by decide +kernel,by decide +kernel⟩
theorem okLook{f:Addr}{fd:FuncData}(F:Fun K "look_at" "look_at" sLook f fd)(T:Ts K c)(g:G0 mg)(D1:Def P w K mg base CX0 3 "live_nodes" ["scheme","state"] (spLive c))(M:MkD P w K mg base "Drawn" c.drawn kr):bq P w K mg base CX0 4 f fd ["scheme","state"] (spLook c):=by
 refine F.ok mm (fun vs H Q E h=>?_) (fun cdv A outer s H vs Q E hr h=>?_)
 ·obtain⟨_,_,_,_,rfl,_⟩:=h
  rfl
 ·obtain⟨sc,ld,x,z,rfl,hS,ok,k⟩:=h
  refine⟨_,ae (bc (i:=2) mm.nd rfl (Or.inl rfl) (bd D1 hr (Nat.le_refl _) rfl cj (aa (pv 0) (aa (pv 1) af)))) (ae (bc (i:=3) mm.nd rfl (Or.inl rfl) aj) (ae (io PassesOwn.never rfl (mn (ao (pv 0) rfl)) (br (i:=4) mm.nd rfl (Or.inl rfl)) (ah (bj (pt_val (bo ba (pv 2) (ao (pv 4) rfl) (fun _ _=>rfl))) (ah (ku (i:=3) mm.nd rfl (Or.inl rfl) (ao (pv 4) rfl) iop_or)) az))) (ae (bc (i:=5) mm.nd rfl (Or.inl rfl) aj) (ae (io PassesOwn.never rfl (pi_enum rfl g.enumerate (aa (ao (pv 0) rfl) af)) (ma rfl (cy (br (i:=6) mm.nd rfl (Or.inl rfl)) (cy (br (i:=7) mm.nd rfl (Or.inl rfl)) jw))) (ah (bj (pt_val (bo ba (pv 2) (pv 7) (fun _ _=>rfl))) (ah (ku (i:=5) mm.nd rfl (Or.inl rfl) (cp op_shl aj (pv 6)) iop_or)) az))) (ah (aw (gg M hr (by decide) rfl (aa (pv 3) (aa (pv 5) af))))))))),?_⟩
  refine⟨_,rfl,_,rfl,sc,ld,x,z,rfl,hS,ok,fun H2 pl hl s2=>?_⟩
  obtain⟨dx,li,lr,ll,lc,hs,si⟩:=hS.mono s2
  obtain⟨as,ha1,ha2,ha3⟩:=si.rel
  refine⟨_,rfl,fld T.scheme hs (by decide) rfl ⟨lr,rfl,⟨_,SqL.of ha1⟩,for_list (K:=K) (a:=lr) (xs:=as.map V.ref) (fun i σ H'=>∃ v4,σ=[some (.ref sc),some (nI x),some (.ref pl),some (nI (Lm.eu 16 ((Lm.drawF z x).take i))),v4,none,none,none]/\H'=H2) ⟨none,rfl,rfl⟩ (fun i σ H' _ ⟨_,_,e⟩=>by rw[e];exact SqL.of ha1) ?_ ?_⟩⟩
  ·rintro i y σ H' hy ⟨v4,rfl,rfl⟩
   obtain⟨a,ha,rfl⟩:=fc hy
   obtain⟨r,hr'⟩:=gz ha2 ha
   obtain⟨dr,har⟩:=ha3 i a r ha hr'
   have rn:=ok.rnode r (List.mem_of_getElem? hr')
   have hd:(Lm.drawF z x)[i]?=some ((Rung.liveNodes z x).testBit r.node):=by unfold Lm.drawF;rw[List.getElem?_map,hr'];rfl
   have il:i<z.relays.length:=(List.getElem?_eq_some_iff.mp hr').1
   have tl:((Lm.drawF z x).take i).length=i:=by rw[List.length_take];unfold Lm.drawF;rw[List.length_map];omega
   have tk:=Lm.bp hd
   have ro:=Lm.rbits_or 16 ((Lm.drawF z x).take i) ((Rung.liveNodes z x).testBit r.node)
   rw[tl] at ro
   rw[tk,ro]
   refine⟨_,rfl,_,rfl,fld T.relay har (by decide) rfl ⟨pl,_,_,_,rfl,rfl,SqL.of hl,bu (gv (Lm.liveL_get rn)),_,rfl,?_⟩⟩
   cases hb:(Rung.liveNodes z x).testBit r.node with
   |false=>exact⟨_,rfl,rfl⟩
   |true =>
    refine⟨_,rfl,_,rfl,fld T.relay har (by decide) rfl ⟨_,_,rfl,rfl,some (.ref a),?_,rfl⟩⟩
    show [_,_,_,some (V.int (Builtin.bitOr _ _)),_,_,_,_]=_
    rw[bor]
    rfl
  ·rintro σ H' ⟨v4,rfl,rfl⟩
   have e1:(Lm.drawF z x).take (as.map V.ref).length=Lm.drawF z x:=by rw[List.length_map,ha2];unfold Lm.drawF;rw[<-List.length_map (f:=fun r:Rung.Relay=>(Rung.liveNodes z x).testBit r.node),List.take_length]
   rw[e1]
   have hlam:=si.lam
   refine⟨_,rfl,fld T.scheme hs (by decide) rfl ⟨ll,_,rfl,SqL.of hlam,lh (K:=K) (a:=ll) (xs:=z.lamps.map fun l=>nI l.node) (p:=6) (q:=7) (fun i σ H''=>∃ v6 v7,σ=[some (.ref sc),some (nI x),some (.ref pl),some (nI (Lm.drawB z x)),v4,some (nI (Lm.eu 0 ((Lm.lampF z x).take i))),v6,v7]/\ak H' H'') ⟨none,none,rfl,ak.refl _⟩ (fun i σ H'' _ ⟨_,_,_,s3⟩=>SqL.of (s3 _ _ hlam)) ?_ ?_⟩⟩
   ·rintro i y σ H3 H4 hy ⟨v6,v7,rfl,s3⟩ s4
    obtain⟨l,hl1,rfl⟩:=fc hy
    have ln:=ok.lnode l (List.mem_of_getElem? hl1)
    have hd:(Lm.lampF z x)[i]?=some ((Rung.liveNodes z x).testBit l.node):=by unfold Lm.lampF;rw[List.getElem?_map,hl1];rfl
    have il:i<z.lamps.length:=(List.getElem?_eq_some_iff.mp hl1).1
    have tl:((Lm.lampF z x).take i).length=i:=by rw[List.length_take];unfold Lm.lampF;rw[List.length_map];omega
    have tk:=Lm.bp hd
    have ro:=Lm.rbits_or 0 ((Lm.lampF z x).take i) ((Rung.liveNodes z x).testBit l.node)
    rw[tl,Nat.zero_add] at ro
    rw[tk,ro]
    have s5:=s3.trans s4
    refine⟨_,rfl,_,rfl,pl,_,_,_,rfl,rfl,SqL.of (s5 _ _ hl),bu (gv (Lm.liveL_get ln)),_,rfl,?_⟩
    cases hb:(Rung.liveNodes z x).testBit l.node with
    |false=>exact⟨_,_,rfl,s5⟩
    |true =>
     refine⟨_,rfl,_,rfl,_,_,rfl,rfl,⟨by omega,by have:=ok.lam;omega,by decide⟩,_,_,rfl,rfl,some (nI i),some (nI l.node),?_,s5⟩
     show [_,_,_,_,_,some (V.int (Builtin.bitOr _ (1 * 2 ^ ((i:Int).toNat)))),_,_]=_
     rw[shl_one,bor]
     rfl
   ·rintro σ H'' ⟨v6,v7,rfl,s3⟩
    have e2:(Lm.lampF z x).take (z.lamps.map fun l=>nI l.node).length=Lm.lampF z x:=by rw[List.length_map];unfold Lm.lampF;rw[<-List.length_map (f:=fun r:Rung.Lamp=>(Rung.liveNodes z x).testBit r.node),List.take_length]
    rw[e2,<-Lm.lamp_eq]
    refine⟨_,rfl,_,rfl,rfl,fun p dx H5 np s5 hp=>k H5 p ?_ ⟨dx,hp⟩ ((s2.trans s3).trans s5)⟩
    exact(s2.trans s3).free np
abbrev sDrawn:Stmt:=top 13
def spDrawn(c:Cs):Sp:=fun vs H Q _=>∃(ms:List Addr)(sc ld:Addr)(x n:Nat)(s:Rung.Scheme),vs=[.ref sc,nI x]/\ld∈ms/\(∀ m∈ms,H m≠none)/\df c (drp ms H) sc s ld/\Cache c H (drp ms H) ld s n/\n<sizeLine/\Lm.SOk s/\∀(H':Hp)(p:Addr),Kept [ld] H H'->jc c (drp ms H') p s x->Cache c H' (drp ms H') ld s (n+1)->Q (.ref p) H'
theorem scDrawn':au ["scheme","state"] ["scheme","state"] (al sDrawn):=⟨rfl,rfl,rfl,by decide +kernel,rfl,by decide +kernel,by decide +kernel⟩
theorem okDrawnIn{f:Addr}{fd:FuncData}(F:Fun K "drawn_in" "drawn_in" sDrawn f fd)(T:Ts K c)(D1:Def P w K mg base CX0 4 "look_at" ["scheme","state"] (spLook c)):bq P w K mg base CX0 5 f fd ["scheme","state"] (spDrawn c):=by
 refine F.ok scDrawn' (fun vs H Q E h=>?_) (fun cdv A outer s H vs Q E hr h=>?_)
 ·obtain⟨_,_,_,_,_,_,rfl,_⟩:=h
  rfl
 ·obtain⟨ms,sc,ld,x,n,z,rfl,hld,hms,hS,hC,hn,ok,k⟩:=h
  have hu:=hu_of hr
  refine⟨_,ae (bj (pt_cmp (pc_dnotin hu (pv 1) (ao (pv 0) rfl))) (ah (ps_dput hu (ao (pv 0) rfl) (pv 1) (bd D1 hr (Nat.le_refl _) rfl cj (aa (pv 0) (aa (pv 1) af))) rfl)) az) (ah (aw (pe_dget hu (ao (pv 0) rfl) (pv 1) (fun _ _=>rfl)))),?_⟩
  have hS':=hS
  obtain⟨dx,li,lr,ll,lc,hs,si⟩:=hS
  obtain⟨kvs,hk,hl,hv⟩:=hC
  have hs':=fu _ _ hs
  refine⟨_,rfl,_,rfl,fld T.scheme hs' (by decide) rfl ⟨ld,_,rfl,lp.k (k:=.inl (x:Int)) hk,_,rfl,?_⟩⟩
  cases e:valV kvs (.inl (x:Int)) with
  |some v =>
   obtain⟨x',a,ek,rfl,hd⟩:=hv _ _ e
   obtain rfl:x=x':=by have:=Sum.inl.inj ek;omega
   refine⟨_,rfl,fld T.scheme hs' (by decide) rfl ⟨_,rfl,ld,_,rfl,e▸lp.k (k:=.inl (x:Int)) hk,?_⟩⟩
   exact k H a (Kept.refl _ _) hd ⟨kvs,hk,by omega,hv⟩
  |none =>
   refine⟨_,rfl,_,rfl,sc,ld,x,z,rfl,hS'.mono fu,ok,fun H2 a na hd s2=>?_⟩
   have hs2:=s2 _ _ hs'
   have hk2:=s2 _ _ hk
   refine⟨_,rfl,fld T.scheme hs2 (by decide) rfl ⟨_,rfl,ld,_,rfl,DPut.k (k:=.inl (x:Int)) hk2 (by omega),?_⟩⟩
   have nsl:sc≠ld:=eq hs' hk (by intro q;cases q)
   have hs3:(upd H2 ld (.dK (j9 kvs (.inl (x:Int)) (.ref a)))) sc=_:=(ai nsl).trans hs2
   have v3:valV (j9 kvs (.inl (x:Int)) (.ref a)) (.inl (x:Int))=some (.ref a):=by rw[l8,if_pos rfl]
   have hk3:(upd H2 ld (.dK (j9 kvs (.inl (x:Int)) (.ref a)))) ld=some (.dK (j9 kvs (.inl (x:Int)) (.ref a))):=ac
   have kp:Kept [ld] H (upd H2 ld (.dK (j9 kvs (.inl (x:Int)) (.ref a)))):=(s2.kept _).trans Kept.upd1
   have am:a∉ms:=fun q=>hms a q na
   have nal:a≠ld:=fun q=>am (by rw[q];exact hld)
   have hd3:jc c (drp ms (upd H2 ld (.dK (j9 kvs (.inl (x:Int)) (.ref a))))) a z x:=by
    obtain⟨dx,hd⟩:=hd
    exact⟨dx,by rw[ip am,ai nal];exact hd⟩
   refine⟨_,rfl,fld T.scheme hs3 (by decide) rfl ⟨_,rfl,ld,_,rfl,v3▸lp.k (k:=.inl (x:Int)) hk3,?_⟩⟩
   refine k _ a kp hd3 ⟨_,hk3,?_,fun k' v' e'=>?_⟩
   ·rw[putK_new _ e];simp;omega
   ·rw[l8] at e'
    split at e'
    ·rename_i ek
     cases e'
     exact⟨x,a,ek,rfl,hd3⟩
    ·obtain⟨x',a',h1,h2,h3⟩:=hv _ _ e'
     exact⟨x',a',h1,h2,h3.mono (kp.drp (by simp[hld]))⟩
theorem nk{ms:List Addr}{H H':Hp}{p:Addr}{o:HO}(hms:∀ m∈ms,H m≠none)(hp:H p=none)(h:H' p=some o):drp ms H' p=some o:=by
 rw[ip fun q=>hms p q hp];exact h
theorem Cache.mono{c:Cs}{H H' G G':Hp}{ld:Addr}{s:Rung.Scheme}{n m:Nat}(h:Cache c H G ld s n)(s1:ak H H')(s2:ak G G')(hn:n<=m):Cache c H' G' ld s m:=by
 obtain⟨kvs,h1,h2,h3⟩:=h
 refine⟨kvs,s1 _ _ h1,by omega,fun k v e=>?_⟩
 obtain⟨x,a,e1,e2,h⟩:=h3 k v e
 exact⟨x,a,e1,e2,h.mono s2⟩
theorem pg_pair{X:Cx}{K:W.Frag}{i j k:Nat}{x y:Str}{p q pos:Pos}(hK:X.K=K)(hc:X.calm=true)(hN:X.N.Nodup)(hi:X.N[i]?=some x)(hj:X.N[j]?=some y)(hx:X.env.scope.names.lookup x=some .local)(hy:X.env.scope.names.lookup y=some .local):PG X (.Tuple [.Name x p,.Name y q] k pos) (gPair K i j):=by
 subst hK
 exact ma (n:=2) hc (cy (br hN hi (.inl hx) (.inr hx)) (cy (br hN hj (.inl hy) (.inr hy)) jw)) rfl rfl
theorem pe_fldK{X:Cx}{K:W.Frag}{e:Expr}{f:Str}{pos:Pos}{ta:TE}(hK:X.K=K)(he:PE X e ta)(hb:attributeBase e f X.env (eval e X.env)=eval e X.env):PE X (.Attribute e f pos) (tFld K ta f):=by
 subst hK
 exact ao he hb
theorem rxor{a b:Nat}{H:Hp}{Q:VK}(q:Q (nI (a ^^^ b)) H):rI0 (fun i j=>V.int (Builtin.bitXor i j)) (nI a) (nI b) H Q:=⟨_,_,rfl,rfl,by show Q (V.int (Builtin.bitXor _ _)) H;rw[bxor];exact q⟩
theorem boot_min:bootBuiltins "min"=some (.builtin "min"):=by decide +kernel
theorem wrap64(t q:Nat):((t:Int)+(q:Int)) % ((2:Int) ^ ((64:Int).toNat))=(((t+q) % Rung.WRAP:Nat):Int):=by
 have:((2:Int) ^ ((64:Int).toNat))=((Rung.WRAP:Nat):Int):=by decide
 rw[this,<-Int.natCast_add,<-Int.natCast_emod]
abbrev sNew:Stmt:=top 16
def spNew(c:Cs):Sp:=fun vs H Q _=>∃(ms:List Addr)(sc ld:Addr)(s:Rung.Scheme),vs=[.ref sc]/\(∀ m∈ms,H m≠none)/\df c H sc s ld/\Lm.SOk s/\∀(H':Hp)(p:Addr),ak H H'->cw c (drp ms H') p ⟨0,0,List.replicate s.relays.length 0⟩->Q (.ref p) H'
theorem scNew:au ["scheme"] ["scheme"] (al sNew):=⟨rfl,rfl,rfl,by decide +kernel,rfl,by decide +kernel,by decide +kernel⟩
theorem okNew{f:Addr}{fd:FuncData}(F:Fun K "new_clock" "new_clock" sNew f fd)(T:Ts K c)(g:G0 mg)(M:MkD P w K mg base "Clock" c.clock iq):bq P w K mg base CX0 3 f fd ["scheme"] (spNew c):=by
 refine F.ok scNew (fun vs H Q E h=>?_) (fun cdv A outer s H vs Q E hr h=>?_)
 ·obtain⟨_,_,_,_,rfl,_⟩:=h
  rfl
 ·obtain⟨ms,sc,ld,z,rfl,hms,hS,ok,k⟩:=h
  refine⟨_,ah (aw (gg M hr (by decide) rfl (aa aj (aa aj (aa (cp op_rep (bi (aa aj af)) (be ax rfl g.len boot_len (aa (ao (pv 0) rfl) af))) af))))),?_⟩
  obtain⟨dx,li,lr,ll,lc,hs,si⟩:=hS
  obtain⟨as,ha1,ha2,ha3⟩:=si.rel
  refine⟨by decide,fun q hq=>?_⟩
  have s1:ak H (upd H q (.lst [nI 0])):=ak.new hq
  refine⟨_,rfl,fld T.scheme (s1 _ _ hs) (by decide) rfl ⟨lr,_,rfl,.inl (SqL.of (s1 _ _ ha1)),q,_,_,rfl,rfl,ac,?_,?_,?_,fun p hp=>?_⟩⟩
  ·rw[List.length_map,ha2];omega
  ·rw[List.length_map,ha2];have:=ok.rel;omega
  ·rw[List.length_map,ha2]
   have:=ok.rel
   show 1 * _<=_
   rw[Nat.one_mul,Int.toNat_natCast]
   exact Nat.le_of_lt (bw (by omega))
  ·have np:=s1.free hp
   refine⟨rfl,fun x dx H2 nx s2 hx=>k H2 x (s1.trans ((ak.new hp).trans s2)) ?_⟩
   have nx':=s1.free ((ak.new hp).free nx)
   refine⟨dx,p,nk hms nx' hx,nk hms np ?_⟩
   have:=s2 _ _ (ac (H:=upd H q (.lst [nI 0])) (a:=p))
   rw[this,List.length_map,ha2,Int.toNat_natCast]
   congr 2
   clear this ha1 ha2 ha3
   induction z.relays.length with
   |zero=>rfl
   |succ n ih=>rw[List.replicate_succ,List.replicate_succ,List.flatten_cons,List.map_cons,ih];rfl
abbrev sWith:Stmt:=top 17
def spWith(c:Cs):Sp:=fun vs H Q _=>∃(ms:List Addr)(ck:Addr)(k:Rung.Clock)(i:Nat),vs=[.ref ck,nI i]/\i<=1000/\(∀ m∈ms,H m≠none)/\cw c (drp ms H) ck k/\∀(H':Hp)(p:Addr),ak H H'->cw c (drp ms H') p { k with x:=k.x ^^^ 2 ^ i }->Q (.ref p) H'
theorem scWith:au ["clock","place"] ["clock","place"] (al sWith):=⟨rfl,rfl,rfl,by decide +kernel,rfl,by decide +kernel,by decide +kernel⟩
theorem okWith{f:Addr}{fd:FuncData}(F:Fun K "with_input_turned" "with_input_turned" sWith f fd)(T:Ts K c)(M:MkD P w K mg base "Clock" c.clock iq):bq P w K mg base CX0 3 f fd ["clock","place"] (spWith c):=by
 refine F.ok scWith (fun vs H Q E h=>?_) (fun cdv A outer s H vs Q E hr h=>?_)
 ·obtain⟨_,_,_,_,rfl,_⟩:=h
  rfl
 ·obtain⟨ms,ck,z,i,rfl,hi,hms,hC,k⟩:=h
  refine⟨_,ah (aw (gg M hr (by decide) rfl (aa (cp op_xor (ao (pv 0) rfl) (cp op_shl aj (pv 1))) (aa (ao (pv 0) rfl) (aa (ao (pv 0) rfl) af))))),?_⟩
  obtain⟨dx,lw,h1,h2⟩:=hC
  have h1':=fu _ _ h1
  refine⟨_,rfl,fld T.clock h1' (by decide) rfl ⟨_,rfl,_,_,rfl,rfl,⟨by omega,by omega,by decide⟩,_,_,rfl,rfl,?_⟩⟩
  refine⟨_,rfl,fld T.clock h1' (by decide) rfl ?_⟩
  refine⟨_,rfl,fld T.clock h1' (by decide) rfl ?_⟩
  refine⟨rfl,fun x dx2 H2 nx s2 hx=>k H2 x s2 ⟨dx2,lw,nk hms nx ?_,s2.drp ms _ _ h2⟩⟩
  rw[hx]
  show some (HO.ins c.clock dx2 [(_,V.int (Builtin.bitXor _ (1 * 2 ^ ((i:Int).toNat)))),_,_])=_
  rw[shl_one,bxor]
abbrev sDelay:Stmt:=top 18
def spDelay(c:Cs):Sp:=fun vs H Q _=>∃(a:Addr)(x j:Nat)(r:Rung.Relay),vs=[.ref a,nI x]/\ja c H a j r/\Q (nI (Rung.delayOf r (x.testBit (16+j)))) H
theorem scDelay:au ["relay","state"] ["relay","state"] (al sDelay):=⟨rfl,rfl,rfl,by decide +kernel,rfl,by decide +kernel,by decide +kernel⟩
theorem and_zero(x j:Nat):decide (V.int (Builtin.bitAnd (x:Int) ((2 ^ j:Nat):Int))=V.int 0)=!x.testBit j:=by
 rw[band]
 have:=Lm.and_bit x j
 cases h:x.testBit j with
 |false =>
  rw[this.mpr h];rfl
 |true =>
  have:¬ x &&& 2 ^ j=0:=fun q=>by rw[this.mp q] at h;cases h
  refine decide_eq_false fun q=>this ?_
  injection q with q
  exact Int.ofNat.inj q
theorem okDelay{f:Addr}{fd:FuncData}(F:Fun K "delay_in" "delay_in" sDelay f fd)(T:Ts K c):bq P w K mg base CX0 1 f fd ["relay","state"] (spDelay c):=by
 refine F.ok scDelay (fun vs H Q E h=>?_) (fun cdv A outer s H vs Q E hr h=>?_)
 ·obtain⟨_,_,_,_,rfl,_⟩:=h
  rfl
 ·obtain⟨a,x,j,r,rfl,⟨dx,ha⟩,k⟩:=h
  refine⟨_,ah (aw (lq (aq cf (cp op_and (pv 1) (ao (pv 0) rfl)) aj rfl) (ao (pv 0) rfl) (ao (pv 0) rfl))),?_⟩
  refine⟨_,rfl,_,rfl,fld T.relay ha (by decide) rfl ⟨_,_,rfl,rfl,rfl,_,rfl,?_⟩⟩
  rw[and_zero]
  unfold Rung.delayOf at k
  cases hb:x.testBit (16+j) with
  |true =>
   rw[hb] at k
   exact⟨_,rfl,fld T.relay ha (by decide) rfl k⟩
  |false =>
   rw[hb] at k
   exact⟨_,rfl,fld T.relay ha (by decide) rfl k⟩
abbrev sTick:Stmt:=top 19
def spTick(c:Cs):Sp:=fun vs H Q _=>∃(ms:List Addr)(sc ld ck:Addr)(n:Nat)(s:Rung.Scheme)(k:Rung.Clock),vs=[.ref sc,.ref ck]/\ld∈ms/\(∀ m∈ms,H m≠none)/\df c (drp ms H) sc s ld/\Cache c H (drp ms H) ld s n/\n<sizeLine/\Lm.SOk s/\cw c (drp ms H) ck k/\k.waits.length=s.relays.length/\∀(H':Hp)(p:Addr),Kept [ld] H H'->Cache c H' (drp ms H') ld s (n+1)->cw c (drp ms H') p (Rung.tick s k)->Q (.ref p) H'
abbrev vTick:List Str:=["scheme","clock","state","differing","turning","later","relay","waited"]
theorem scTick:au vTick ["scheme","clock"] (al sTick):=⟨rfl,rfl,rfl,by decide +kernel,rfl,by decide +kernel,by decide +kernel⟩
theorem okTick{f:Addr}{fd:FuncData}(F:Fun K "tick" "tick" sTick f fd)(T:Ts K c)(g:G0 mg)(D1:Def P w K mg base CX0 5 "drawn_in" ["scheme","state"] (spDrawn c))(D2:Def P w K mg base CX0 1 "delay_in" ["relay","state"] (spDelay c))(M:MkD P w K mg base "Clock" c.clock iq):bq P w K mg base CX0 6 f fd ["scheme","clock"] (spTick c):=by
 refine F.ok scTick (fun vs H Q E h=>?_) (fun cdv A outer s H vs Q E hr h=>?_)
 ·obtain⟨_,_,_,_,_,_,_,rfl,_⟩:=h
  rfl
 ·obtain⟨ms,sc,ld,ck,n,z,y,rfl,hld,hms,hS,hC,hn,ok,hK,hlen,k⟩:=h
  refine⟨_,ae (bc (i:=2) scTick.nd rfl (Or.inl rfl) (ao (pv 1) rfl)) (ae (bc (i:=3) scTick.nd rfl (Or.inl rfl) (cp op_xor (pv 2) (ao (bd D1 hr (Nat.le_refl _) rfl cj (aa (pv 0) (aa (pv 2) af))) rfl))) (ae (bc (i:=4) scTick.nd rfl (Or.inl rfl) aj) (ae (bc (i:=5) scTick.nd rfl (Or.inl rfl) (bi af)) (ae (io PassesOwn.never rfl (pi_zip rfl g.zip (aa (ao (pv 0) rfl) (aa (ao (pv 1) rfl) af))) (ma rfl (cy (br (i:=6) scTick.nd rfl (Or.inl rfl)) (cy (br (i:=7) scTick.nd rfl (Or.inl rfl)) jw))) (ah (bj (aq cf (cp op_and (pv 3) (ao (pv 6) rfl)) aj rfl) (ah (bt (g8 PySem.F.plainAttrs_list PySem.F.slot_list_append PySem.F.type_list_append cv (pv 5) (aa aj af)))) (ah (bj (aq op_ge (pv 7) (bd D2 hr (by decide) rfl cj (aa (pv 6) (aa (pv 2) af))) rfl) (ae (ku (i:=4) scTick.nd rfl (Or.inl rfl) (ao (pv 6) rfl) iop_or) (ah (bt (g8 PySem.F.plainAttrs_list PySem.F.slot_list_append PySem.F.type_list_append cv (pv 5) (aa aj af))))) (ah (bt (g8 PySem.F.plainAttrs_list PySem.F.slot_list_append PySem.F.type_list_append cv (pv 5) (aa (cp op_add (pv 7) aj) af))))))))) (ah (aw (gg M hr (by decide) rfl (aa (cp op_xor (pv 2) (pv 4)) (aa (cp op_mod (cp op_add (ao (pv 1) rfl) aj) (cp op_pow aj aj)) (aa (pv 5) af)))))))))),?_⟩
  obtain⟨dk,lw,hk1,hk2⟩:=hK
  refine⟨_,rfl,fld T.clock (fu _ _ hk1) (by decide) rfl ?_⟩
  refine⟨_,rfl,_,rfl,_,rfl,ms,sc,ld,y.x,n,z,rfl,hld,hms,hS,hC,hn,ok,fun H2 pd kp hd hC2=>?_⟩
  obtain⟨dd,hd⟩:=hd
  have sd:ak (drp ms H) (drp ms H2):=kp.drp (by simp[hld])
  have hS2:=hS.mono sd
  have hS3:=hS2.mono fu
  obtain⟨dx,li,lr,ll,lc,hs,si⟩:=hS3
  obtain⟨as,ha1,ha2,ha3⟩:=si.rel
  have hk1':=fu _ _ (sd _ _ hk1)
  have hk2':=fu _ _ (sd _ _ hk2)
  have hms2:∀ m∈ms,H2 m≠none:=fun m hm q=>by
   by_cases e:m=ld
   ·obtain⟨kvs,hkv,_⟩:=hC2
    rw[e,hkv] at q;cases q
   ·cases e':H m with
    |none=>exact hms m hm e'
    |some o=>rw[kp m o e' (by simp[e])] at q;cases q
  refine fld T.drawn (fu _ _ hd) (by decide) rfl (rxor ?_)
  refine⟨Nat.zero_le _,fun pt hpt=>?_⟩
  have s3:ak H2 (upd H2 pt (.lst [])):=ak.new hpt
  refine⟨_,rfl,fld T.scheme (s3 _ _ hs) (by decide) rfl ⟨_,rfl,fld T.clock (s3 _ _ hk1') (by decide) rfl ⟨lr,lw,_,_,rfl,SqL.of (s3 _ _ ha1),SqL.of (s3 _ _ hk2'),for_zip (K:=K) (a:=lr) (b:=lw) (xs:=as.map V.ref) (ys:=y.waits.map nI) (p:=6) (q:=7) (by rw[List.length_map,List.length_map,ha2,hlen]) (fun i σ H'=>∃ v6 v7,σ=[some (.ref sc),some (.ref ck),some (nI y.x),some (nI (y.x ^^^ Lm.drawB z y.x)),some (nI (Lm.eu 16 ((Lm.dF z y).take i))),some (.ref pt),v6,v7]/\ak H2 H'/\H' pt=some (.lst (((Lm.wF z y).take i).map nI))) ⟨none,none,rfl,s3,ac⟩ (fun i σ H' _ ⟨_,_,_,s4,_⟩=>⟨SqL.of (s4 _ _ ha1),SqL.of (s4 _ _ hk2')⟩) ?_ ?_⟩⟩⟩
  ·rintro i u v σ H4 H5 hu hv ⟨v6,v7,rfl,s4,h4⟩ s5
   obtain⟨a,ha,rfl⟩:=fc hu
   obtain⟨wt,hw,rfl⟩:=fc hv
   obtain⟨r,hr'⟩:=gz ha2 ha
   have s6:=s4.trans s5
   have hra:=(ha3 i a r ha hr').mono s6
   have h5:=s5 _ _ h4
   obtain⟨dr,har⟩:=id hra
   have il:i<z.relays.length:=(List.getElem?_eq_some_iff.mp hr').1
   have hd1:(Lm.dF z y)[i]?=some (Lm.dB z y (r,i)):=by unfold Lm.dF;rw[List.getElem?_map,Lm.zip_get hr'];rfl
   have hw1:(Lm.wF z y)[i]?=some (Lm.wB z y (r,i)):=by unfold Lm.wF;rw[List.getElem?_map,Lm.zip_get hr'];rfl
   have tl:((Lm.dF z y).take i).length=i:=by rw[List.length_take,Lm.dF_length];omega
   have tw:((Lm.wF z y).take i).length=i:=by rw[List.length_take,Lm.j1];omega
   have ro:=Lm.rbits_or 16 ((Lm.dF z y).take i) (Lm.dB z y (r,i))
   rw[tl] at ro
   rw[Lm.bp hd1,Lm.bp hw1,ro,List.map_append]
   have dt:=Lm.differ_test (x:=y.x) hr'
   have hg:=Lm.getD_of hw
   have sml:(((Lm.wF z y).take i).map nI).length<sizeLine:=by rw[List.length_map,tw];exact bw (by have:=ok.rel;omega)
   refine⟨_,rfl,_,rfl,fld T.relay har (by decide) rfl ⟨_,_,rfl,rfl,rfl,_,rfl,?_⟩⟩
   rw[and_zero,dt]
   cases hb:Lm.uB z y.x (r,i) with
   |false =>
    have e1:Lm.dB z y (r,i)=false:=by unfold Lm.dB;rw[hb];rfl
    have e2:Lm.wB z y (r,i)=0:=by unfold Lm.wB;rw[hb];rfl
    rw[e1,e2]
    exact⟨_,rfl,.inl ⟨rfl,_,SqL.of h5⟩,pt,_,_,rfl,rfl,h5,sml,some (.ref a),some (nI wt),rfl,s6.put hpt,ac⟩
   |true =>
    refine⟨_,rfl,_,rfl,_,rfl,a,y.x,i,r,rfl,hra,_,_,rfl,rfl,_,rfl,?_⟩
    by_cases hge:Rung.delayOf r (y.x.testBit (16+i))<=wt
    ·have e1:Lm.dB z y (r,i)=true:=by unfold Lm.dB;rw[hb,hg];simp[hge]
     have e2:Lm.wB z y (r,i)=0:=by unfold Lm.wB;rw[hb,e1];rfl
     rw[e1,e2,decide_eq_true (by omega:((Rung.delayOf r (y.x.testBit (16+i)):Nat):Int)<=((wt:Nat):Int))]
     refine⟨_,rfl,_,rfl,fld T.relay har (by decide) rfl ⟨_,_,rfl,rfl,_,rfl,.inl ⟨rfl,_,SqL.of h5⟩,pt,_,_,rfl,rfl,h5,sml,some (.ref a),some (nI wt),?_,s6.put hpt,ac⟩⟩
     show [_,_,_,_,some (V.int (Builtin.bitOr _ _)),_,_,_]=_
     rw[bor]
     rfl
    ·have e1:Lm.dB z y (r,i)=false:=by unfold Lm.dB;rw[hb,hg];simp;omega
     have e2:Lm.wB z y (r,i)=wt+1:=by unfold Lm.wB;rw[hb,e1,hg];rfl
     rw[e1,e2,decide_eq_false (by omega:¬((Rung.delayOf r (y.x.testBit (16+i)):Nat):Int)<=((wt:Nat):Int))]
     exact⟨_,rfl,.inl ⟨rfl,_,SqL.of h5⟩,_,rfl,_,_,rfl,rfl,pt,_,_,rfl,rfl,h5,sml,some (.ref a),some (nI wt),rfl,s6.put hpt,ac⟩
  ·rintro σ H' ⟨v6,v7,rfl,s4,h4⟩
   have e1:(Lm.dF z y).take (as.map V.ref).length=Lm.dF z y:=by rw[List.length_map,ha2,<-Lm.dF_length z y,List.take_length]
   have e2:(Lm.wF z y).take (as.map V.ref).length=Lm.wF z y:=by rw[List.length_map,ha2,<-Lm.j1 z y,List.take_length]
   rw[e1]
   rw[e2] at h4
   refine⟨_,rfl,_,rfl,_,_,rfl,rfl,_,rfl,fld T.clock (s4 _ _ hk1') (by decide) rfl ⟨_,_,rfl,rfl,_,_,rfl,rfl,⟨by decide,by decide,by decide⟩,_,_,rfl,rfl,(by show(0:Int)<2 ^ Int.toNat 64;decide),_,rfl,rfl,fun x dx H6 nx s6 hx=>?_⟩⟩
   have s7:=s4.trans s6
   refine k H6 x (kp.trans (s7.kept _)) (hC2.mono s7 (s7.drp ms) (Nat.le_refl _)) ?_
   rw[Lm.gr]
   refine⟨dx,pt,nk hms2 (s4.free nx) ?_,nk hms2 hpt (s6 _ _ h4)⟩
   rw[hx]
   show some (HO.ins c.clock dx [(_,V.int (Builtin.bitXor _ _)),(_,V.int (((y.ticks:Int)+((1:Nat):Int)) % ((2:Int) ^ ((64:Int).toNat)))),_])=_
   rw[bxor,wrap64]
abbrev sQuiet:Stmt:=top 20
def spQuiet(c:Cs):Sp:=fun vs H Q _=>∃(sc ld ck:Addr)(most:Nat)(s:Rung.Scheme)(k:Rung.Clock),vs=[.ref sc,.ref ck,nI most]/\df c H sc s ld/\Lm.SOk s/\cw c H ck k/\k.waits.length=s.relays.length/\Lm.Fits s k 0/\∀(H':Hp)(q:Nat),ak H H'->q<=most->Lm.Fits s k q->Q (nI q) H'
abbrev vQuiet:List Str:=["scheme","clock","most","left","relay","waited"]
theorem scQuiet:au vQuiet ["scheme","clock","most"] (al sQuiet):=⟨rfl,rfl,rfl,by decide +kernel,rfl,by decide +kernel,by decide +kernel⟩
theorem okQuiet{f:Addr}{fd:FuncData}(F:Fun K "quiet_ticks" "quiet_ticks" sQuiet f fd)(T:Ts K c)(g:G0 mg)(D2:Def P w K mg base CX0 1 "delay_in" ["relay","state"] (spDelay c)):bq P w K mg base CX0 2 f fd ["scheme","clock","most"] (spQuiet c):=by
 refine F.ok scQuiet (fun vs H Q E h=>?_) (fun cdv A outer s H vs Q E hr h=>?_)
 ·obtain⟨_,_,_,_,_,_,rfl,_⟩:=h
  rfl
 ·obtain⟨sc,ld,ck,most,z,y,rfl,hS,ok,hK,hlen,fit,k⟩:=h
  refine⟨_,ae (ps_setLc (i:=3) (own:=[("relay",4),("waited",5)]) rfl scQuiet.nd rfl rfl (sw_true rfl rfl rfl rfl) (pi_zip rfl g.zip (aa (ao (pv 0) rfl) (aa (ao (pv 1) rfl) af))) (gk (by show blkC vQuiet (al sQuiet) _ _=true;decide +kernel))
    (fun _ _ _ _ _=>pg_pair (K:=K) (i:=4) (j:=5) rfl rfl scQuiet.nd rfl rfl rfl rfl) (fun _ _ _ _ _=>pts_one (aq op_gt (pv 5) aj rfl)) (fun _ _ _ _ _=>by exact cp op_sub (bd D2 hr (Nat.le_refl _) rfl cj (aa (pv 4) (aa (pe_fldK (K:=K) rfl (pv 1) rfl) af))) (pv 5))) (ah (aw (be (cr_min rfl) rfl g.min boot_min (aa (cp op_cat (pv 3) (bi (aa (pv 2) af))) af)))),?_⟩
  obtain⟨dk,lw,hk1,hk2⟩:=hK
  obtain⟨dx,li,lr,ll,lc,hs,si⟩:=hS
  obtain⟨as,ha1,ha2,ha3⟩:=si.rel
  refine⟨_,rfl,fld T.scheme hs (by decide) rfl ⟨_,rfl,fld T.clock hk1 (by decide) rfl ⟨lr,lw,_,_,rfl,SqL.of ha1,SqL.of hk2,fun D hD =>
   lc_zip (K:=K) (a:=lr) (b:=lw) (xs:=as.map V.ref) (ys:=y.waits.map nI) (p:=4) (q:=5) (Qd:=_) (by rw[List.length_map,List.length_map,ha2,hlen]) (fun i H'=>∃ L:List Int,ak H H'/\H' D=some (.lst (L.map V.int))/\L.length<=i/\(∀ m∈L,0<=m)/\∀(j:Nat)(r:Rung.Relay)(wt:Nat),j<i->z.relays[j]?=some r->y.waits[j]?=some wt->0<wt->((Rung.delayOf r (y.x.testBit (16+j)):Nat):Int)-(wt:Int)∈L) ⟨[],ak.new hD,ac,Nat.le_refl _,by simp,fun j r wt hj=>absurd hj (Nat.not_lt_zero _)⟩ (fun i H' _ ⟨_,s4,_⟩=>⟨SqL.of (s4 _ _ ha1),SqL.of (s4 _ _ hk2)⟩) ?_ ?_⟩⟩⟩
  ·rintro i u v H4 H5 hu hv ⟨L,s4,h4,hl4,hp4,hm4⟩ s5
   obtain⟨a,ha,rfl⟩:=fc hu
   obtain⟨wt,hw,rfl⟩:=fc hv
   obtain⟨r,hr'⟩:=gz ha2 ha
   have s6:=s4.trans s5
   have hra:=(ha3 i a r ha hr').mono s6
   have h5:=s5 _ _ h4
   have il:i<z.relays.length:=(List.getElem?_eq_some_iff.mp hr').1
   refine⟨rfl,_,rfl,_,_,rfl,rfl,_,rfl,?_⟩
   by_cases h0:0<wt
   ·rw[decide_eq_true (by omega:(0:Int)<((wt:Nat):Int))]
    have hf:=fit i r wt hr' hw h0
    refine⟨_,rfl,_,rfl,fld T.clock (s6 _ _ hk1) (by decide) rfl ⟨a,y.x,i,r,rfl,hra,_,rfl,_,_,rfl,rfl,_,h5,?_,L++[((Rung.delayOf r (y.x.testBit (16+i)):Nat):Int)-(wt:Int)],s6.put hD,?_,?_,?_,?_⟩⟩
    ·rw[List.length_map];exact bw (by have:=ok.rel;omega)
    ·rw[ac,List.map_append];rfl
    ·simp;omega
    ·intro m hm
     rcases List.mem_append.mp hm with hm|hm
     ·exact hp4 m hm
     ·rw[List.mem_singleton.mp hm];omega
    ·intro j r' w' hj h1 h2 h3
     by_cases e:j=i
     ·subst e
      obtain rfl:=Option.some.inj (hr'.symm.trans h1)
      obtain rfl:=Option.some.inj (hw.symm.trans h2)
      simp
     ·exact List.mem_append_left _ (hm4 j r' w' (by omega) h1 h2 h3)
   ·rw[decide_eq_false (by omega:¬(0:Int)<((wt:Nat):Int))]
    refine⟨L,s6,h5,by omega,hp4,fun j r' w' hj h1 h2 h3=>?_⟩
    by_cases e:j=i
    ·subst e
     obtain rfl:=Option.some.inj (hw.symm.trans h2)
     exact absurd h3 h0
    ·exact hm4 j r' w' (by omega) h1 h2 h3
  ·rintro H4 ⟨L,s4,h4,hl4,hp4,hm4⟩
   rw[List.length_map,ha2] at hl4 hm4
   refine⟨_,rfl,_,rfl,(by show 1<=sizeLine;decide),fun q hq=>?_⟩
   have ndq:D≠q:=ap h4 hq
   refine⟨D,q,_,_,rfl,rfl,(by rw[ai ndq];exact h4),ac,?_,fun p hp=>?_⟩
   ·rw[List.length_map]
    show _+1<=_
    exact bw (by have:=ok.rel;omega)
   ·refine⟨p,L++[(most:Int)],rfl,SqL.of ?_,by simp,fun m hm hle=>?_⟩
    ·rw[ac,List.map_append];rfl
    ·have hm0:0<=m:=by
      rcases List.mem_append.mp hm with hm|hm
      ·exact hp4 m hm
      ·rw[List.mem_singleton.mp hm];omega
     have hmm:=hle (most:Int) (by simp)
     obtain⟨q',rfl⟩:∃ q':Nat,m=(q':Int):=⟨m.toNat,by omega⟩
     refine k _ q' (s4.trans ((ak.new hq).trans (ak.new hp))) (by omega) fun j r wt h1 h2 h3=>?_
     have:=hle _ (List.mem_append_left _ (hm4 j r wt (List.getElem?_eq_some_iff.mp h1).1 h1 h2 h3))
     omega
abbrev sPass:Stmt:=top 21
def spPass(c:Cs):Sp:=fun vs H Q _=>∃(ms:List Addr)(ck:Addr)(q:Nat)(k:Rung.Clock),vs=[.ref ck,nI q]/\(∀ m∈ms,H m≠none)/\cw c (drp ms H) ck k/\k.waits.length<=12/\∀(H':Hp)(p:Addr),ak H H'->cw c (drp ms H') p (Lm.ig k q)->Q (.ref p) H'
abbrev vPass:List Str:=["clock","count","waits","waited"]
theorem scPass:au vPass ["clock","count"] (al sPass):=⟨rfl,rfl,rfl,by decide +kernel,rfl,by decide +kernel,by decide +kernel⟩
theorem okPass{f:Addr}{fd:FuncData}(F:Fun K "pass_quietly" "pass_quietly" sPass f fd)(T:Ts K c)(M:MkD P w K mg base "Clock" c.clock iq):bq P w K mg base CX0 3 f fd ["clock","count"] (spPass c):=by
 refine F.ok scPass (fun vs H Q E h=>?_) (fun cdv A outer s H vs Q E hr h=>?_)
 ·obtain⟨_,_,_,_,rfl,_⟩:=h
  rfl
 ·obtain⟨ms,ck,n,y,rfl,hms,hK,hlen,k⟩:=h
  refine⟨_,ae (ps_setLc (i:=2) (own:=[("waited",3)]) rfl scPass.nd rfl rfl (sw_true rfl rfl rfl rfl) (mn (ao (pv 0) rfl)) (gk (by show blkC vPass (al sPass) _ _=true;decide +kernel))
    (fun _ _ _ _ _=>br (i:=3) scPass.nd rfl (Or.inl rfl)) (fun _ _ _ _ _=>jr) (fun _ _ _ _ _=>lq (aq op_gt (pv 3) aj rfl) (cp op_add (pv 3) (pv 1)) aj)) (ah (aw (gg M hr (by decide) rfl (aa (ao (pv 0) rfl) (aa (cp op_mod (cp op_add (ao (pv 0) rfl) (pv 1)) (cp op_pow aj aj)) (aa (pv 2) af)))))),?_⟩
  obtain⟨dk,lw,hk1,hk2⟩:=hK
  have hk1':=fu _ _ hk1
  have hk2':=fu _ _ hk2
  refine⟨_,rfl,fld T.clock hk1' (by decide) rfl ⟨lw,rfl,⟨_,SqL.of hk2'⟩,fun D hD =>
   lc_list (K:=K) (a:=lw) (xs:=y.waits.map nI) (Qd:=_) (fun i H'=>ak H H'/\H' D=some (.lst ((((y.waits.take i).map fun w=>if 0<w then w+n else 0)).map nI))) ⟨ak.new hD,ac⟩ (fun i H' _ ⟨s4,_⟩=>SqL.of (s4 _ _ hk2')) ?_ ?_⟩⟩
  ·rintro i u H4 hu ⟨s4,h4⟩
   obtain⟨wt,hw,rfl⟩:=fc hu
   have il:i<y.waits.length:=(List.getElem?_eq_some_iff.mp hw).1
   have sml:(((y.waits.take i).map fun w=>if 0<w then w+n else 0).map nI).length<sizeLine:=by rw[List.length_map,List.length_map,List.length_take];exact bw (by omega)
   rw[Lm.bp hw,List.map_append,List.map_append]
   refine⟨rfl,_,rfl,_,_,rfl,rfl,_,rfl,?_⟩
   by_cases h0:0<wt
   ·rw[decide_eq_true (by omega:(0:Int)<((wt:Nat):Int))]
    refine⟨_,rfl,_,rfl,_,_,rfl,rfl,_,h4,sml,s4.put hD,?_⟩
    rw[ac,List.map_cons,if_pos h0]
    rfl
   ·rw[decide_eq_false (by omega:¬(0:Int)<((wt:Nat):Int))]
    refine⟨_,h4,sml,s4.put hD,?_⟩
    rw[ac,List.map_cons,if_neg h0]
    rfl
  ·rintro H4 ⟨s4,h4⟩
   rw[List.length_map,List.take_length] at h4
   refine⟨_,rfl,fld T.clock (s4 _ _ hk1') (by decide) rfl ?_⟩
   refine⟨_,rfl,fld T.clock (s4 _ _ hk1') (by decide) rfl ⟨_,rfl,_,_,rfl,rfl,_,_,rfl,rfl,⟨by decide,by decide,by decide⟩,_,_,rfl,rfl,(by show(0:Int)<2 ^ Int.toNat 64;decide),_,rfl,rfl,fun x dx H6 nx s6 hx=>?_⟩⟩
   refine k H6 x (s4.trans s6) ⟨dx,D,nk hms (s4.free nx) ?_,nk hms hD (s6 _ _ h4)⟩
   rw[hx]
   show some (HO.ins c.clock dx [_,(_,V.int (((y.ticks:Int)+(n:Int)) % ((2:Int) ^ ((64:Int).toNat)))),_])=_
   rw[wrap64]
   rfl
abbrev sOnes:Stmt:=top 97
def spOnes:Sp:=fun vs H Q _=>∃ l:List Nat,vs=[nI (Rung.relayBits l)]/\l.Pairwise (·<·)/\Q (nI l.length) H
theorem scOnes:au ["bits","ones"] ["bits"] (al sOnes):=⟨rfl,rfl,rfl,by decide +kernel,rfl,by decide +kernel,by decide +kernel⟩
theorem okOnes{f:Addr}{fd:FuncData}(F:Fun K "count_ones" "count_ones" sOnes f fd):bq P w K mg base CX0 1 f fd ["bits"] spOnes:=by
 refine F.ok scOnes (fun vs H Q E h=>?_) (fun cdv A outer s H vs Q E hr h=>?_)
 ·obtain⟨_,rfl,_⟩:=h
  rfl
 ·obtain⟨l,rfl,pw,k⟩:=h
  refine⟨_,ae (bc (i:=1) scOnes.nd rfl (Or.inl rfl) aj) (ae (ps_while PassesOwn.never (aq op_ne (pv 0) aj rfl) (ae (ku (i:=0) scOnes.nd rfl (Or.inl rfl) (cp op_sub (pv 0) aj) iop_and) (ah (ku (i:=1) scOnes.nd rfl (Or.inl rfl) aj mr)))) (ah (aw (pv 1)))),?_⟩
  refine⟨fun m σ H'=>∃(d:Nat)(r:List Nat),m=r.length/\d+r.length=l.length/\r.Pairwise (·<·)/\σ=[some (nI (Rung.relayBits r)),some (nI d)]/\H'=H,⟨_,0,l,rfl,by omega,pw,rfl,rfl⟩,?_⟩
  rintro m σ H' ⟨d,r,rfl,hd,hp,rfl,rfl⟩
  refine⟨_,rfl,rfl,_,rfl,?_⟩
  cases r with
  |nil =>
   refine⟨_,rfl,?_⟩
   have:d=l.length:=by simpa using hd
   rw[this]
   exact k
  |cons j r =>
   have pos:=@Lm.relayBits_pos j r
   have e:(!decide (nI (Rung.relayBits (j::r))=V.int 0))=true:=by
    rw[decide_eq_false]
    ·rfl
    ·intro q
     injection q with q
     omega
   rw[e]
   refine⟨fun σ' H''=>σ'=[some (nI (Rung.relayBits r)),some (nI (d+1))]/\H''=H',fun σ' H'' ⟨h1,h2⟩=>⟨_,by simp,d+1,r,rfl,by simp at hd;omega,(List.pairwise_cons.mp hp).2,h1,h2⟩,?_⟩
   have sub:((Rung.relayBits (j::r):Nat):Int)-1=((Rung.relayBits (j::r)-1:Nat):Int):=by omega
   refine⟨_,rfl,_,rfl,_,_,rfl,rfl,_,_,rfl,rfl,_,rfl,_,_,rfl,rfl,?_,rfl⟩
   show [some (V.int (Builtin.bitAnd _ (((Rung.relayBits (j::r):Nat):Int)-1))),_]=_
   rw[sub,band,Lm.relayBits_next hp]
   rfl
end
open Rung (Bytes ascii)
theorem gc(b:Bytes):TL.tl (strOf b)=b.map UInt8.toNat:=rfl
theorem f6(b:Bytes):(strOf b).cps.toList=b.map UInt8.toNat:=rfl
theorem bf(b:Bytes):(strOf b).length=b.length:=by rw[TL.len_tl,gc,List.length_map]
theorem ko:∀{a b:Bytes},a.map UInt8.toNat=b.map UInt8.toNat->a=b
 | [],[],_=>rfl
 | [],_::_,h=>by simp at h
 |_::_,[],h=>by simp at h
 |x::a,y::b,h=>by
  rw[List.map_cons,List.map_cons] at h
  injection h with h1 h2
  rw[UInt8.toNat_inj.mp h1,ko h2]
theorem l4{a b:Bytes}:strOf a=strOf b<->a=b:=⟨fun h=>ko (by rw[<-gc,<-gc,h]),fun h=>by rw[h]⟩
theorem d7(a b:Bytes):strOf (a++b)=strOf a++strOf b:=TL.ext_tl (by rw[TL.tl_append,gc,gc,gc,List.map_append])
theorem gj(a b:Bytes):decide (V.str (strOf a)=V.str (strOf b))=decide (a=b):=by
 by_cases h:a=b
 ·rw[h];simp
 ·rw[decide_eq_false h,decide_eq_false]
  intro q
  injection q with q
  exact h (l4.mp q)
theorem lit_in:("in":Str)=strOf (ascii "in"):=TL.ext_tl (by decide +kernel)
theorem lit_relay:("relay":Str)=strOf (ascii "relay"):=TL.ext_tl (by decide +kernel)
theorem lit_lamp:("lamp":Str)=strOf (ascii "lamp"):=TL.ext_tl (by decide +kernel)
theorem lit_open:("open":Str)=strOf (ascii "open"):=TL.ext_tl (by decide +kernel)
theorem lit_close:("close":Str)=strOf (ascii "close"):=TL.ext_tl (by decide +kernel)
theorem lit_at:("at":Str)=strOf (ascii "at"):=TL.ext_tl (by decide +kernel)
theorem lit_up:("up":Str)=strOf (ascii "up"):=TL.ext_tl (by decide +kernel)
theorem lit_down:("down":Str)=strOf (ascii "down"):=TL.ext_tl (by decide +kernel)
theorem lit_press:("press":Str)=strOf (ascii "press"):=TL.ext_tl (by decide +kernel)
theorem lit_let:("let":Str)=strOf (ascii "let"):=TL.ext_tl (by decide +kernel)
theorem lit_run:("run":Str)=strOf (ascii "run"):=TL.ext_tl (by decide +kernel)
theorem lit_sp:(" ":Str)=strOf [32]:=TL.ext_tl (by decide +kernel)
theorem lit_nl:("\n":Str)=strOf [10]:=TL.ext_tl (by decide +kernel)
theorem lit_nil:("":Str)=strOf []:=TL.ext_tl (by decide +kernel)
theorem lit_no:("?":Str)=strOf [63]:=TL.ext_tl (by decide +kernel)
theorem kind_plain(x:Str){c:UInt8}:¬ Builtin.Str.strKind x<Builtin.Str.strKind (strOf [c]):=by
 have h1:Builtin.Str.strKind (strOf [c])=1:=by
  unfold Builtin.Str.strKind
  rw[if_pos]
  rw[<-Array.all_toList,f6]
  simp
  exact UInt8.toNat_lt c
 rw[h1]
 unfold Builtin.Str.strKind
 split
 ·decide
 ·split<;>decide
theorem pre_one(s c:Nat)(r:List Nat):TL.pre [s] (c::r)=(c==s):=by
 unfold TL.pre
 simp
theorem spl_split(c:UInt8):∀(b:Bytes)(acc:List Nat),TL.spl [c.toNat] 0 acc (b.map UInt8.toNat)=(match (Rung.split c b).map (List.map UInt8.toNat) with|h::t=>(acc++h)::t | []=>[])
 | [],acc=>by
  show TL.spl _ 0 acc []=_
  rw[TL.spl_nil]
  show _=[acc++[]]
  rw[List.append_nil]
 |x::b,acc=>by
  rw[List.map_cons]
  have ih:=spl_split c b
  unfold Rung.split
  by_cases h:x=c
  ·subst h
   rw[if_pos rfl,TL.spl_hit (by rw[pre_one];simp)]
   show acc::TL.spl _ 0 [] _=(acc++[])::(Rung.split x b).map _
   rw[ih [],List.append_nil]
   cases e:(Rung.split x b) with
   |nil=>exact absurd e (Lm.fq b)
   |cons p q=>rfl
  ·rw[if_neg h,TL.spl_miss (by rw[pre_one];simp[UInt8.toNat_inj];exact h),ih]
   cases e:(Rung.split c b) with
   |nil=>exact absurd e (Lm.fq b)
   |cons p q =>
    show(acc++[x.toNat]++_)::_=(acc++(x.toNat::_))::_
    rw[List.append_assoc]
    rfl
theorem split_strOf(c:UInt8)(b:Bytes):Txt.split (strOf b) (strOf [c])=(Rung.split c b).map strOf:=by
 refine TL.map_tl_inj ?_
 rw[TL.split_spl _ _ (by rw[gc];simp) (kind_plain _)]
 show TL.spl [c.toNat] 0 [] (b.map UInt8.toNat)=_
 rw[spl_split,List.map_map]
 cases e:(Rung.split c b) with
 |nil=>exact absurd e (Lm.fq b)
 |cons p q=>rfl
theorem in_letters(c:UInt8):decide (c.toNat∈("abcdefghijklmnopqrstuvwxyz":Str).cps.toList)=Rung.isSmall c:=by
 have e:("abcdefghijklmnopqrstuvwxyz":Str).cps.toList=[97,98,99,100,101,102,103,104,105,106,107,108,109,110,111,112,113,114,115,116,117,118,119,120,121,122]:=by decide +kernel
 rw[e]
 have h:∀ n:Fin 256,decide (n.1∈[97,98,99,100,101,102,103,104,105,106,107,108,109,110,111,112,113,114,115,116,117,118,119,120,121,122])=Rung.isSmall (UInt8.ofNat n.1):=by decide +kernel
 have q:=h ⟨c.toNat,c.toNat_lt⟩
 rw[UInt8.ofNat_toNat] at q
 exact q
theorem in_digits(c:UInt8):decide (c.toNat∈("0123456789":Str).cps.toList)=Rung.isDigit c:=by
 have e:("0123456789":Str).cps.toList=[48,49,50,51,52,53,54,55,56,57]:=by decide +kernel
 rw[e]
 have h:∀ n:Fin 256,decide (n.1∈[48,49,50,51,52,53,54,55,56,57])=Rung.isDigit (UInt8.ofNat n.1):=by decide +kernel
 have q:=h ⟨c.toNat,c.toNat_lt⟩
 rw[UInt8.ofNat_toNat] at q
 exact q
theorem digits_val(b:Bytes):NumText.digitsVal (b.map UInt8.toNat)=Rung.numberOf b:=by
 unfold NumText.digitsVal Rung.numberOf
 rw[List.foldl_map]
 congr 1
 funext n c
 omega
theorem int_text{b:Bytes}(h:∀ c∈b,Rung.isDigit c=true)(h1:b≠[])(h2:b.length<=4300):PySem.intText? (strOf b)=some ((Rung.numberOf b:Nat):Int):=by
 rw[PySem.intText_digits (x:=strOf b),f6,digits_val]
 ·intro c hc
  rw[f6] at hc
  obtain⟨d,hd,rfl⟩:=List.mem_map.mp hc
  exact(Lm.ji d).mp (h d hd)
 ·rw[f6];simpa using h1
 ·rw[bf];exact h2
theorem num_text(n:Nat):Str.ofString (toString (n:Int))=strOf (Rung.decimal n):=by
 refine TL.ext_tl ?_
 rw[TL.tl_num,gc]
 unfold TL.numL Rung.decimal
 rw[List.map_map]
 refine List.map_congr_left fun ch hc=>?_
 show ch.toNat=(UInt8.ofNat ch.toNat).toNat
 have hd:=TL.numL_digits n
 have:=hd ch.toNat (List.mem_map_of_mem hc)
 rw[UInt8.toNat_ofNat']
 omega
theorem starts_strOf(b w:Bytes):Txt.startswith (strOf b) (strOf w)=w.isPrefixOf b:=by
 unfold Txt.startswith
 rw[StrLaws.subAt_eq,bf,bf,f6,f6,List.drop_zero,Bool.eq_iff_iff,Bool.and_eq_true,List.isPrefixOf_iff_prefix]
 constructor
 ·rintro⟨_,h⟩
  rw[beq_iff_eq,<-List.map_take] at h
  have:=ko h
  rw[<-this]
  exact List.take_prefix _ _
 ·rintro⟨t,rfl⟩
  refine⟨by simp,?_⟩
  rw[beq_iff_eq,<-List.map_take]
  simp
theorem join_strOf:∀(l:List Bytes),Txt.join (strOf []) (l.map strOf)=strOf l.flatten:=by
 intro l
 rw[TL.join_eq]
 refine TL.ext_tl ?_
 rw[TL.tl_join,gc,gc,List.map_map]
 show TL.joinL [] _=_
 induction l with
 |nil=>rfl
 |cons p l ih =>
  cases l with
  |nil=>simp[TL.joinL,gc]
  |cons q r =>
   show _++([]++TL.joinL [] _)=_
   rw[List.nil_append]
   have ih':TL.joinL [] (List.map (TL.tl ∘ strOf) (q::r))=_:=ih
   rw[show(TL.tl ∘ strOf) q::List.map (TL.tl ∘ strOf) r=List.map (TL.tl ∘ strOf) (q::r) from rfl,ih',List.flatten_cons (L:=q::r),List.map_append]
   rfl
theorem boot_all:bootBuiltins "all"=some (.builtin "all"):=by decide +kernel
theorem boot_any:bootBuiltins "any"=some (.builtin "any"):=by decide +kernel
theorem boot_ord:bootBuiltins "ord"=some (.builtin "ord"):=by decide +kernel
theorem boot_int:bootBuiltins "int"=some (.type "int"):=by decide +kernel
theorem boot_str:bootBuiltins "str"=some (.type "str"):=by decide +kernel
structure Xs(K:W.Frag)(mg:Str->Option Value)(c:Cs):Prop where
 shp:gu K c.shapeless none []=true
 mshp:mg "Shapeless"=some (.ref c.shapeless)
 flt:∃ fI,XMk K c.fault fI "kind" "line"
 mflt:mg "Fault"=some (.ref c.fault)
 fltc:∃ init no,gu K c.fault init no=true
 kind:XGet K c.fault "kind"
 line:XGet K c.fault "line"
theorem strOf_at{b:Bytes}{i:Nat}{n:Nat}(h:(strOf b).cps.toList[i]?=some n):∃ d,b[i]?=some d/\n=d.toNat:=by
 rw[f6,List.getElem?_map] at h
 cases e:b[i]? with
 |none=>rw[e] at h;cases h
 |some d=>rw[e] at h;exact⟨d,rfl,(Option.some.inj h).symm⟩
theorem numberOf_go:∀(b:Bytes)(n:Nat),(∀ d∈b,Rung.isDigit d=true)->b.foldl (fun(n:Nat)(c:UInt8)=>10 * n+(c.toNat-48)) n<(n+1) * 10 ^ b.length
 | [],n,_=>by simp
 |d::b,n,h=>by
  have ih:=numberOf_go b (10 * n+(d.toNat-48)) fun e he=>h e (by simp[he])
  have h2:=(Lm.ji d).mp (h d (by simp))
  rw[List.foldl_cons,List.length_cons,Nat.pow_succ]
  refine Nat.lt_of_lt_of_le ih ?_
  rw[Nat.mul_comm (10 ^ b.length) 10,<-Nat.mul_assoc]
  exact Nat.mul_le_mul_right _ (by omega)
theorem numberOf_lt(b:Bytes)(h:∀ d∈b,Rung.isDigit d=true):Rung.numberOf b<10 ^ b.length:=by
 have:=numberOf_go b 0 h
 rw[Nat.zero_add,Nat.one_mul] at this
 exact this
theorem log2_small{n:Nat}(h:n<100000):((n:Nat):Int).natAbs.log2<1920:=by
 rw[Int.natAbs_natCast]
 by_cases e:n=0
 ·rw[e];decide
 ·rw[Nat.log2_lt e]
  exact Nat.lt_trans h (Nat.lt_of_lt_of_le (by decide:100000<2 ^ 17) (Nat.pow_le_pow_right (by decide) (by decide:17<=1920)))
section
variable{P:Program}{w:World}{K:PySem.W.Frag}{mg:Str->Option Value}{base:Heap}{c:Cs}
abbrev sName:Stmt:=top 44
def spName(c:Cs):Sp:=fun vs H Q E=>∃ b:Bytes,vs=[.str (strOf b)]/\b.length<=100000/\∀ H',ak H H'->if Rung.isName b=true then Q (.str (strOf b)) H' else E (.ref c.shapeless) none H'
abbrev vName:List Str:=["part","sign"]
theorem scName:au vName ["part"] (al sName):=⟨rfl,rfl,rfl,by decide +kernel,rfl,by decide +kernel,by decide +kernel⟩
theorem name_eq(d:UInt8)(r:Bytes)(h1:(d::r).length<=12)(h2:Rung.isSmall d=true):Rung.isName (d::r)=((d::r).map fun e=>Rung.isSmall e || Rung.isDigit e).all id:=by
 unfold Rung.isName
 simp only[h2,decide_eq_true h1,Bool.true_and,List.map_cons,List.all_cons,Bool.true_or,id]
 rw[List.all_map]
 rfl
theorem big5:(100000:Nat)<sizeLine:=by decide
theorem okName{f:Addr}{fd:FuncData}(F:Fun K "name_of" "name_of" sName f fd)(g:G0 mg)(x:Xs K mg c):bq P w K mg base (Fx P w) 1 f fd ["part"] (spName c):=by
 refine F.okX scName (fun vs H Q E h=>?_) (fun cdv A outer s H vs Q E hr h=>?_)
 ·obtain⟨_,rfl,_⟩:=h
  rfl
 ·obtain⟨b,rfl,hb,k⟩:=h
  refine⟨_,ae (bj (PW.pt (pw_or (jm (j8 lj lj aj (be call_len_str rfl g.len boot_len (aa (pv 0) af)) (ay g.MOST_NAME_SIGNS rfl))) (pw_or1 (aq op_notIn_sign (bo ix_str (pv 0) aj (fun _ _=>rfl)) (ay g.LETTERS rfl) rfl)))) (ah (ik hr.hd rfl x.mshp x.shp (aa ci af))) az) (ae (bj (jm (pt_val (be (cr_all rfl) rfl g.all boot_all (aa (pe_lc (own:=[("sign",1)]) rfl scName.nd (pi_str (pv 0)) (gk (by show blkC vName (al sName) _ _=true;decide +kernel))
     (fun _ _ _ _ _=>br (i:=1) scName.nd rfl (Or.inl rfl)) (fun _ _ _ _ _=>jr) (fun _ _ _ _ _=>pe_or (gq op_in_sign (pv 1) (ay g.LETTERS rfl) rfl) (pe_one (gq op_in_sign (pv 1) (ay g.DIGITS rfl) rfl)))) af)))) (ah (ik hr.hd rfl x.mshp x.shp (aa ci af))) az) (ah (aw (pv 0)))),?_⟩
  have kb:Rung.isName b=false->E (.ref c.shapeless) none H:=fun e=>by
   have:=k H (ak.refl _)
   rw[e] at this
   exact this
  have sz:(strOf b).length<=sizeLine:=by rw[bf];exact Nat.le_trans hb (Nat.le_of_lt big5)
  refine⟨_,rfl,_,rfl,sz,_,_,rfl,rfl,_,rfl,?_⟩
  rw[bf]
  match b,hb,k,kb,sz with
  | [],hb,k,kb,sz=>exact⟨_,rfl,by decide,kb rfl⟩
  |d::r,hb,k,kb,sz =>
   rw[decide_eq_true (by simp;omega:(1:Int)<=(((d::r).length:Nat):Int))]
   refine⟨_,_,rfl,rfl,_,rfl,?_⟩
   by_cases h1:(d::r).length<=12
   ·rw[decide_eq_true (by omega:(((d::r).length:Nat):Int)<=12)]
    refine⟨_,rfl,_,_,d.toNat,rfl,rfl,sz,bu (j:=0) rfl,_,_,rfl,rfl,_,rfl,?_⟩
    rw[in_letters]
    cases h2:Rung.isSmall d with
    |false =>
     exact⟨by decide,kb (by unfold Rung.isName;simp[h2])⟩
    |true =>
     refine⟨_,rfl,_,rfl,fun D hD=>lc_str (z:=strOf (d::r)) (Qd:=_) (fun i H'=>ak H H'/\H' D=some (.lst ((((d::r).take i).map fun e=>Rung.isSmall e || Rung.isDigit e).map V.bl))) ⟨ak.new hD,ac⟩ ?_ ?_⟩
     ·rintro i n H4 hn ⟨s4,h4⟩
      obtain⟨e,he,rfl⟩:=strOf_at hn
      have sml:((((d::r).take i).map fun e=>Rung.isSmall e || Rung.isDigit e).map V.bl).length<sizeLine:=by rw[List.length_map,List.length_map,List.length_take];exact bw (by omega)
      rw[Lm.bp he,List.map_append,List.map_append]
      refine⟨rfl,_,rfl,_,_,rfl,rfl,_,rfl,?_⟩
      rw[in_letters]
      cases h3:Rung.isSmall e with
      |true =>
       refine⟨_,h4,sml,s4.put hD,?_⟩
       rw[ac,List.map_cons,h3]
       rfl
      |false =>
       refine⟨_,rfl,_,_,rfl,rfl,_,h4,sml,s4.put hD,?_⟩
       rw[ac,List.map_cons,h3,in_digits]
       rfl
     ·rintro H4 ⟨s4,h4⟩
      rw[f6,List.length_map,List.take_length] at h4
      refine⟨D,_,rfl,SqL.of h4,_,rfl,?_⟩
      rw[<-name_eq d r h1 h2]
      have k4:=k H4 s4
      cases h5:Rung.isName (d::r) with
      |true =>
       rw[h5] at k4
       exact⟨_,rfl,k4⟩
      |false =>
       rw[h5] at k4
       exact⟨by decide,k4⟩
   ·rw[decide_eq_false (by omega:¬(((d::r).length:Nat):Int)<=12)]
    exact⟨by decide,kb (by unfold Rung.isName;rw[decide_eq_false h1];rfl)⟩
abbrev sNumber:Stmt:=top 45
def spNumber(c:Cs):Sp:=fun vs H Q E=>∃(b:Bytes)(lo hi:Nat),vs=[.str (strOf b),nI lo,nI hi]/\b.length<=100000/\hi<=65535/\∀ H',ak H H'->match Rung.number lo hi b with
 |some n=>Q (nI n) H'
 |none=>E (.ref c.shapeless) none H'
abbrev vNumber:List Str:=["part","least","most","number","sign"]
theorem scNumber:au vNumber ["part","least","most"] (al sNumber):=⟨rfl,rfl,rfl,by decide +kernel,rfl,by decide +kernel,by decide +kernel⟩
theorem okNumber{f:Addr}{fd:FuncData}(F:Fun K "number_of" "number_of" sNumber f fd)(g:G0 mg)(x:Xs K mg c):bq P w K mg base (Fx P w) 1 f fd ["part","least","most"] (spNumber c):=by
 refine F.okX scNumber (fun vs H Q E h=>?_) (fun cdv A outer s H vs Q E hr h=>?_)
 ·obtain⟨_,_,_,rfl,_⟩:=h
  rfl
 ·obtain⟨b,lo,hi,rfl,hb,hhi,k⟩:=h
  refine⟨_,ae (bj (PW.pt (pw_or (jm (j8 lj lj aj (be call_len_str rfl g.len boot_len (aa (pv 0) af)) (ay g.MOST_DIGITS rfl))) (pw_or1 (jm (pt_val (be (cr_all rfl) rfl g.all boot_all (aa (pe_lc (own:=[("sign",4)]) rfl scNumber.nd (pi_str (pv 0)) (gk (by show blkC vNumber (al sNumber) _ _=true;decide +kernel))
      (fun _ _ _ _ _=>br (i:=4) scNumber.nd rfl (Or.inl rfl)) (fun _ _ _ _ _=>jr) (fun _ _ _ _ _=>gq op_in_sign (pv 4) (ay g.DIGITS rfl) rfl)) af))))))) (ah (ik hr.hd rfl x.mshp x.shp (aa ci af))) az) (ae (bc (i:=3) scNumber.nd rfl (Or.inl rfl) (pe_callTy call_int_str rfl g.int boot_int (aa (pv 0) af))) (ae (bj (PW.pt (pw_or (aq op_ne (pe_callTy call_str_int rfl g.str boot_str (aa (pv 3) af)) (pv 0) rfl) (pw_or1 (jm (j8 lj lj (pv 1) (pv 3) (pv 2)))))) (ah (ik hr.hd rfl x.mshp x.shp (aa ci af))) az) (ah (aw (pv 3))))),?_⟩
  have np:=Lm.number_prog (lo:=lo) hhi b
  have kb:∀ H',ak H H'->Rung.number lo hi b=none->E (.ref c.shapeless) none H':=fun H' s' e=>by
   have:=k H' s'
   rw[e] at this
   exact this
  have sz:(strOf b).length<=sizeLine:=by rw[bf];exact Nat.le_trans hb (Nat.le_of_lt big5)
  refine⟨_,rfl,_,rfl,sz,_,_,rfl,rfl,_,rfl,?_⟩
  rw[bf]
  by_cases h0:1<=b.length
  ·rw[decide_eq_true (by omega:(1:Int)<=((b.length:Nat):Int))]
   refine⟨_,_,rfl,rfl,_,rfl,?_⟩
   by_cases h1:b.length<=5
   ·rw[decide_eq_true (by omega:((b.length:Nat):Int)<=5)]
    refine⟨_,rfl,_,rfl,fun D hD=>lc_str (z:=strOf b) (Qd:=_) (fun i H'=>ak H H'/\H' D=some (.lst (((b.take i).map Rung.isDigit).map V.bl))) ⟨ak.new hD,ac⟩ ?_ ?_⟩
    ·rintro i n H4 hn ⟨s4,h4⟩
     obtain⟨e,he,rfl⟩:=strOf_at hn
     have sml:(((b.take i).map Rung.isDigit).map V.bl).length<sizeLine:=by rw[List.length_map,List.length_map,List.length_take];exact bw (by omega)
     rw[Lm.bp he,List.map_append,List.map_append]
     refine⟨rfl,_,rfl,_,_,rfl,rfl,_,h4,sml,s4.put hD,?_⟩
     rw[ac,List.map_cons,in_digits]
     rfl
    ·rintro H4 ⟨s4,h4⟩
     rw[f6,List.length_map,List.take_length] at h4
     refine⟨D,_,rfl,SqL.of h4,_,rfl,?_⟩
     cases h5:(b.map Rung.isDigit).all id with
     |false =>
      refine⟨by decide,kb H4 s4 ?_⟩
      rw[np,if_neg]
      rintro⟨_,h⟩
      rw[List.all_map] at h5
      have:b.all (id ∘ Rung.isDigit)=true:=List.all_eq_true.mpr h
      rw[this] at h5
      cases h5
     |true =>
      have hd:∀ d∈b,Rung.isDigit d=true:=by
       rw[List.all_map] at h5
       exact List.all_eq_true.mp h5
      rw[if_pos ⟨⟨h0,h1⟩,hd⟩] at np
      have hn5:Rung.numberOf b<100000:=Nat.lt_of_lt_of_le (numberOf_lt b hd) (Nat.pow_le_pow_right (by decide) h1)
      refine⟨_,rfl,_,_,rfl,int_text hd (by intro q;rw[q] at h0;simp at h0) (by omega),(by rw[bf];omega),?_⟩
      refine⟨_,rfl,_,rfl,log2_small hn5,?_⟩
      show gf 0 _ _ _
      refine⟨_,rfl,rfl,_,rfl,?_⟩
      rw[num_text,gj]
      by_cases h6:Rung.decimal (Rung.numberOf b)=b
      ·rw[decide_eq_true h6]
       refine⟨_,rfl,_,rfl,_,_,rfl,rfl,_,rfl,?_⟩
       by_cases h7:lo<=Rung.numberOf b
       ·rw[decide_eq_true (by omega:((lo:Nat):Int)<=((Rung.numberOf b:Nat):Int))]
        refine⟨_,rfl,_,_,rfl,rfl,_,rfl,?_⟩
        by_cases h8:Rung.numberOf b<=hi
        ·rw[decide_eq_true (by omega:((Rung.numberOf b:Nat):Int)<=((hi:Nat):Int))]
         have k4:=k H4 s4
         rw[np,if_pos ⟨h6,h7,h8⟩] at k4
         exact⟨_,rfl,k4⟩
        ·rw[decide_eq_false (by omega:¬((Rung.numberOf b:Nat):Int)<=((hi:Nat):Int))]
         exact⟨by decide,kb H4 s4 (by rw[np,if_neg (fun q=>h8 q.2.2)])⟩
       ·rw[decide_eq_false (by omega:¬((lo:Nat):Int)<=((Rung.numberOf b:Nat):Int))]
        exact⟨_,rfl,by decide,kb H4 s4 (by rw[np,if_neg (fun q=>h7 q.2.1)])⟩
      ·rw[decide_eq_false h6]
       exact⟨by decide,kb H4 s4 (by rw[np,if_neg (fun q=>h6 q.1)])⟩
   ·rw[decide_eq_false (by omega:¬((b.length:Nat):Int)<=5)]
    exact⟨by decide,kb H (ak.refl _) (by rw[np,if_neg (by omega)])⟩
  ·rw[decide_eq_false (by omega:¬(1:Int)<=((b.length:Nat):Int))]
   exact⟨_,rfl,by decide,kb H (ak.refl _) (by rw[np,if_neg (by omega)])⟩
end
open Rung (Bytes ascii Line)
abbrev sv(b:Bytes):V:=.str (strOf b)
def lname:Line->Bytes
 |.input x=>x
 |.relay r=>r.name
 |.lamp l=>l.name
 |.contact _ x _ _=>x
def lnums:Line->List Nat
 |.input _=>[]
 |.relay r=>[r.node,r.up,r.down]
 |.lamp l=>[l.node]
 |.contact cl _ a b=>[a,b,thr cl]
def k9(c:Cs)(G:Hp)(a:Addr)(l:Line):Prop:=∃ dx t,G a=some (.ins c.row dx [("rank",nI l.sort),("name",sv (lname l)),("numbers",.ref t)])/\G t=some (.tup ((lnums l).map nI))
theorem k9.mono{c:Cs}{G G':Hp}{a:Addr}{l:Line}(s:ak G G')(h:k9 c G a l):k9 c G' a l:=by
 obtain⟨dx,t,h1,h2⟩:=h
 exact⟨dx,t,s _ _ h1,s _ _ h2⟩
theorem part_get{P:List Bytes}{i:Nat}(h:i<P.length):P[i]?=some (Lm.part P i):=by
 unfold Lm.part
 rw[List.getD_eq_getElem?_getD,List.getElem?_eq_getElem h]
 rfl
theorem cq{P:List Bytes}{i:Nat}(h:i<P.length):atI (P.map sv) (i:Int)=some (sv (Lm.part P i)):=bu (gv (part_get h))
theorem fg(a b:Nat):decide (nI a=nI b)=decide (a=b):=by
 by_cases h:a=b
 ·rw[h];simp
 ·rw[decide_eq_false h,decide_eq_false]
  intro q
  injection q with q
  exact h (Int.ofNat.inj q)
structure ic(H:Hp)(a:Addr)(P:List Bytes):Prop where
 at_:H a=some (.lst (P.map sv))
 len:∀ b∈P,b.length<=100000
theorem ic.mono{H H':Hp}{a:Addr}{P:List Bytes}(s:ak H H')(h:ic H a P):ic H' a P:=⟨s _ _ h.at_,h.len⟩
theorem ic.part{H:Hp}{a:Addr}{P:List Bytes}(h:ic H a P){i:Nat}:(Lm.part P i).length<=100000:=by
 by_cases hi:i<P.length
 ·exact h.len _ (List.mem_of_getElem? (part_get hi))
 ·unfold Lm.part
  rw[List.getD_eq_getElem?_getD,List.getElem?_eq_none (by omega)]
  exact Nat.zero_le _
theorem cut_from(P:List Bytes)(k:Nat):nj (P.map sv) (some (k:Int)) none=(P.drop k).map sv:=by
 unfold nj
 rw[HT.sIx_nat,HT.sIx_none,List.map_drop]
 generalize P.map sv=xs
 by_cases h:k<=xs.length
 ·rw[Nat.min_eq_left h,List.take_of_length_le (by rw[List.length_drop];exact Nat.le_refl _)]
 ·rw[Nat.min_eq_right (by omega),List.drop_of_length_le (Nat.le_refl _),List.drop_of_length_le (by omega),List.take_nil]
section
variable{P:Program}{w:World}{K:PySem.W.Frag}{mg:Str->Option Value}{base:Heap}{c:Cs}
abbrev sNode:Stmt:=top 46
def spNode(c:Cs):Sp:=fun vs H Q E=>∃(b:Bytes),vs=[sv b]/\b.length<=100000/\∀ H',ak H H'->match Rung.number 0 63 b with
 |some n=>Q (nI n) H'
 |none=>E (.ref c.shapeless) none H'
theorem scNode:au ["part"] ["part"] (al sNode):=⟨rfl,rfl,rfl,by decide +kernel,rfl,by decide +kernel,by decide +kernel⟩
theorem okNode{f:Addr}{fd:FuncData}(F:Fun K "node_of" "node_of" sNode f fd)(g:G0 mg)(D1:Def P w K mg base (Fx P w) 1 "number_of" ["part","least","most"] (spNumber c)):bq P w K mg base (Fx P w) 2 f fd ["part"] (spNode c):=by
 refine F.okX scNode (fun vs H Q E h=>?_) (fun cdv A outer s H vs Q E hr h=>?_)
 ·obtain⟨_,rfl,_⟩:=h
  rfl
 ·obtain⟨b,rfl,hb,k⟩:=h
  refine⟨_,ah (aw (bd D1 hr (Nat.le_refl _) rfl dj (aa (pv 0) (aa aj (aa (ay g.MOST_NODE rfl) af))))),?_⟩
  exact⟨_,rfl,b,0,63,rfl,hb,by decide,k⟩
abbrev sExpect:Stmt:=top 47
def spExpect(c:Cs):Sp:=fun vs H Q E=>∃ t:Bool,vs=[.bl t]/\if t=true then Q .non H else E (.ref c.shapeless) none H
theorem scExpect:au ["condition"] ["condition"] (al sExpect):=⟨rfl,rfl,rfl,by decide +kernel,rfl,by decide +kernel,by decide +kernel⟩
theorem okExpect{f:Addr}{fd:FuncData}(F:Fun K "expect" "expect" sExpect f fd)(x:Xs K mg c):bq P w K mg base (Fx P w) 1 f fd ["condition"] (spExpect c):=by
 refine F.okX scExpect (fun vs H Q E h=>?_) (fun cdv A outer s H vs Q E hr h=>?_)
 ·obtain⟨_,rfl,_⟩:=h
  rfl
 ·obtain⟨t,rfl,k⟩:=h
  refine⟨_,ah (bj (jm (pt_val (pv 0))) (ah (ik hr.hd rfl x.mshp x.shp (aa ci af))) az),?_⟩
  refine⟨_,rfl,_,rfl,?_⟩
  cases t with
  |true=>exact k
  |false=>exact⟨by decide,k⟩
def spRd(c:Cs)(r:List Bytes->Option Line):Sp:=fun vs H Q E=>∃(a:Addr)(p:List Bytes),vs=[.ref a]/\ic H a p/\∀ H',ak H H'->match r p with
 |some l=>∀ q,k9 c H' q l->Q (.ref q) H'
 |none=>E (.ref c.shapeless) none H'
structure Rdr(P:Program)(w:World)(K:W.Frag)(mg:Str->Option Value)(base:Heap)(c:Cs):Prop where
 ex:Def P w K mg base (Fx P w) 1 "expect" ["condition"] (spExpect c)
 nm:Def P w K mg base (Fx P w) 1 "name_of" ["part"] (spName c)
 nb:Def P w K mg base (Fx P w) 1 "number_of" ["part","least","most"] (spNumber c)
 nd:Def P w K mg base (Fx P w) 2 "node_of" ["part"] (spNode c)
 row:MkD P w K mg base "Row" c.row nRow
abbrev sRdIn:Stmt:=top 48
theorem scRdIn:au ["parts"] ["parts"] (al sRdIn):=⟨rfl,rfl,rfl,by decide +kernel,rfl,by decide +kernel,by decide +kernel⟩
theorem okRdIn{f:Addr}{fd:FuncData}(F:Fun K "read_in" "read_in" sRdIn f fd)(g:G0 mg)(R:Rdr P w K mg base c):bq P w K mg base (Fx P w) 3 f fd ["parts"] (spRd c Lm.rIn):=by
 refine F.okX scRdIn (fun vs H Q E h=>?_) (fun cdv A outer s H vs Q E hr h=>?_)
 ·obtain⟨_,_,rfl,_⟩:=h
  rfl
 ·obtain⟨a,p,rfl,hp,k⟩:=h
  refine⟨_,ae (bt (bd R.ex hr (by decide) rfl dj (aa (gq cf (be ax rfl g.len boot_len (aa (pv 0) af)) aj rfl) af))) (ah (aw (gg R.row hr (by decide) rfl (aa (ay g.IN_RANK rfl) (aa (bd R.nm hr (by decide) rfl dj (aa (bo ba (pv 0) aj (fun _ _=>rfl)) af)) (aa (pe_tup af) af)))))),?_⟩
  refine⟨_,rfl,a,_,rfl,.inl (SqL.of hp.at_),rfl,_,rfl,?_⟩
  rw[List.length_map,show V.int 2=nI 2 from rfl,fg]
  unfold Lm.rIn at k
  by_cases h2:p.length=2
  ·rw[decide_eq_true h2]
   refine⟨_,rfl,a,_,_,_,rfl,rfl,SqL.of hp.at_,cq (i:=1) (by omega),Lm.part p 1,rfl,hp.part,fun H1 s1=>?_⟩
   cases h3:Rung.isName (Lm.part p 1) with
   |true =>
    refine⟨Nat.zero_le _,fun t ht=>⟨rfl,fun q dx H2 nq s2 hq=>?_⟩⟩
    have k2:=k H2 (s1.trans ((ak.new ht).trans s2))
    rw[if_pos ⟨h2,h3⟩] at k2
    exact k2 q ⟨dx,t,hq,s2 _ _ ac⟩
   |false =>
    have k2:=k H1 s1
    rw[if_neg (fun z=>by rw[h3] at z;exact absurd z.2 (by decide))] at k2
    exact k2
  ·rw[decide_eq_false h2]
   have k2:=k H (ak.refl _)
   rw[if_neg (fun z=>h2 z.1)] at k2
   exact k2
abbrev sRdLamp:Stmt:=top 50
theorem scRdLamp:au ["parts"] ["parts"] (al sRdLamp):=⟨rfl,rfl,rfl,by decide +kernel,rfl,by decide +kernel,by decide +kernel⟩
theorem okRdLamp{f:Addr}{fd:FuncData}(F:Fun K "read_lamp" "read_lamp" sRdLamp f fd)(g:G0 mg)(R:Rdr P w K mg base c):bq P w K mg base (Fx P w) 3 f fd ["parts"] (spRd c Lm.jh):=by
 refine F.okX scRdLamp (fun vs H Q E h=>?_) (fun cdv A outer s H vs Q E hr h=>?_)
 ·obtain⟨_,_,rfl,_⟩:=h
  rfl
 ·obtain⟨a,p,rfl,hp,k⟩:=h
  refine⟨_,ae (bt (bd R.ex hr (by decide) rfl dj (aa (pe_and (gq cf (be ax rfl g.len boot_len (aa (pv 0) af)) aj rfl) (pe_one (gq cf (bo ba (pv 0) aj (fun _ _=>rfl)) ci rfl))) af))) (ah (aw (gg R.row hr (by decide) rfl (aa (ay g.LAMP_RANK rfl) (aa (bd R.nm hr (by decide) rfl dj (aa (bo ba (pv 0) aj (fun _ _=>rfl)) af)) (aa (pe_tup (aa (bd R.nd hr (by decide) rfl dj (aa (bo ba (pv 0) aj (fun _ _=>rfl)) af)) af)) af)))))),?_⟩
  have kb:Lm.jh p=none->∀ H',ak H H'->E (.ref c.shapeless) none H':=fun e H' s'=>by
   have:=k H' s'
   rw[e] at this
   exact this
  refine⟨_,rfl,a,_,rfl,.inl (SqL.of hp.at_),rfl,_,rfl,?_⟩
  rw[List.length_map,show V.int 4=nI 4 from rfl,fg]
  by_cases h2:p.length=4
  ·rw[decide_eq_true h2]
   refine⟨_,rfl,a,_,_,_,rfl,rfl,SqL.of hp.at_,cq (i:=2) (by omega),rfl,_,rfl,?_⟩
   rw[lit_at,gj]
   by_cases h3:Lm.part p 2=ascii "at"
   ·rw[decide_eq_true h3]
    refine⟨_,rfl,a,_,_,_,rfl,rfl,SqL.of hp.at_,cq (i:=1) (by omega),Lm.part p 1,rfl,hp.part,fun H1 s1=>?_⟩
    cases h4:Rung.isName (Lm.part p 1) with
    |false=>exact kb (by unfold Lm.jh;rw[if_pos ⟨h2,h3⟩,h4];rfl) H1 s1
    |true =>
     have hp1:=hp.mono s1
     refine⟨_,rfl,a,_,_,_,rfl,rfl,SqL.of hp1.at_,cq (i:=3) (by omega),Lm.part p 3,rfl,hp.part,fun H2 s2=>?_⟩
     cases h5:Rung.number 0 63 (Lm.part p 3) with
     |none=>exact kb (by unfold Lm.jh;rw[if_pos ⟨h2,h3⟩,if_pos h4,h5];rfl) H2 (s1.trans s2)
     |some n =>
      refine⟨(by show 1<=sizeLine;decide),fun t ht=>⟨rfl,fun q dx H3 nq s3 hq=>?_⟩⟩
      have k2:=k H3 ((s1.trans s2).trans ((ak.new ht).trans s3))
      unfold Lm.jh at k2
      rw[if_pos ⟨h2,h3⟩,if_pos h4,h5] at k2
      exact k2 q ⟨dx,t,hq,s3 _ _ ac⟩
   ·rw[decide_eq_false h3]
    exact kb (by unfold Lm.jh;rw[if_neg (fun z=>h3 z.2)]) H (ak.refl _)
  ·rw[decide_eq_false h2]
   exact⟨_,rfl,kb (by unfold Lm.jh;rw[if_neg (fun z=>h2 z.1)]) H (ak.refl _)⟩
abbrev sRdCon:Stmt:=top 51
def spRdC(c:Cs):Sp:=fun vs H Q E=>∃(a:Addr)(p:List Bytes)(cl:Bool),vs=[.ref a,nI (thr cl)]/\ic H a p/\∀ H',ak H H'->match Lm.cr cl p with
 |some l=>∀ q,k9 c H' q l->Q (.ref q) H'
 |none=>E (.ref c.shapeless) none H'
abbrev vRdCon:List Str:=["parts","through","low","high"]
theorem scRdCon:au vRdCon ["parts","through"] (al sRdCon):=⟨rfl,rfl,rfl,by decide +kernel,rfl,by decide +kernel,by decide +kernel⟩
theorem okRdCon{f:Addr}{fd:FuncData}(F:Fun K "read_contact" "read_contact" sRdCon f fd)(g:G0 mg)(R:Rdr P w K mg base c):bq P w K mg base (Fx P w) 3 f fd ["parts","through"] (spRdC c):=by
 refine F.okX scRdCon (fun vs H Q E h=>?_) (fun cdv A outer s H vs Q E hr h=>?_)
 ·obtain⟨_,_,_,rfl,_⟩:=h
  rfl
 ·obtain⟨a,p,cl,rfl,hp,k⟩:=h
  refine⟨_,ae (bt (bd R.ex hr (by decide) rfl dj (aa (gq cf (be ax rfl g.len boot_len (aa (pv 0) af)) aj rfl) af))) (ae (bc (i:=2) scRdCon.nd rfl (Or.inl rfl) (bd R.nd hr (by decide) rfl dj (aa (bo ba (pv 0) aj (fun _ _=>rfl)) af))) (ae (bc (i:=3) scRdCon.nd rfl (Or.inl rfl) (bd R.nd hr (by decide) rfl dj (aa (bo ba (pv 0) aj (fun _ _=>rfl)) af))) (ae (bt (bd R.ex hr (by decide) rfl dj (aa (gq op_lt (pv 2) (pv 3) rfl) af))) (ah (aw (gg R.row hr (by decide) rfl (aa (ay g.CONTACT_RANK rfl) (aa (bd R.nm hr (by decide) rfl dj (aa (bo ba (pv 0) aj (fun _ _=>rfl)) af)) (aa (pe_tup (aa (pv 2) (aa (pv 3) (aa (pv 1) af)))) af))))))))),?_⟩
  have kb:Lm.cr cl p=none->∀ H',ak H H'->E (.ref c.shapeless) none H':=fun e H' s'=>by
   have:=k H' s'
   rw[e] at this
   exact this
  refine⟨_,rfl,a,_,rfl,.inl (SqL.of hp.at_),rfl,_,rfl,?_⟩
  rw[List.length_map,show V.int 4=nI 4 from rfl,fg]
  by_cases h2:p.length=4
  ·rw[decide_eq_true h2]
   refine⟨_,rfl,a,_,_,_,rfl,rfl,SqL.of hp.at_,cq (i:=2) (by omega),Lm.part p 2,rfl,hp.part,fun H1 s1=>?_⟩
   cases h3:Rung.number 0 63 (Lm.part p 2) with
   |none=>exact kb (by unfold Lm.cr;rw[if_pos h2,h3];rfl) H1 s1
   |some lo =>
    have hp1:=hp.mono s1
    refine⟨_,rfl,a,_,_,_,rfl,rfl,SqL.of hp1.at_,cq (i:=3) (by omega),Lm.part p 3,rfl,hp.part,fun H2 s2=>?_⟩
    cases h4:Rung.number 0 63 (Lm.part p 3) with
    |none=>exact kb (by unfold Lm.cr;rw[if_pos h2,h3,h4];rfl) H2 (s1.trans s2)
    |some hi =>
     have hp2:=hp1.mono s2
     refine⟨_,rfl,_,rfl,_,_,rfl,rfl,_,rfl,?_⟩
     by_cases h5:lo<hi
     ·rw[decide_eq_true (by omega:((lo:Nat):Int)<((hi:Nat):Int))]
      refine⟨_,rfl,a,_,_,_,rfl,rfl,SqL.of hp2.at_,cq (i:=1) (by omega),Lm.part p 1,rfl,hp.part,fun H3 s3=>?_⟩
      cases h6:Rung.isName (Lm.part p 1) with
      |false=>exact kb (by unfold Lm.cr;simp only[if_pos h2,h3,h4,Option.bind_some,if_pos h5,h6];rfl) H3 ((s1.trans s2).trans s3)
      |true =>
       refine⟨_,rfl,_,rfl,_,rfl,(by show 3<=sizeLine;decide),fun t ht=>⟨rfl,fun q dx H4 nq s4 hq=>?_⟩⟩
       have k2:=k H4 (((s1.trans s2).trans s3).trans ((ak.new ht).trans s4))
       unfold Lm.cr at k2
       simp only[if_pos h2,h3,h4,Option.bind_some,if_pos h5,h6,if_true] at k2
       exact k2 q ⟨dx,t,hq,s4 _ _ ac⟩
     ·rw[decide_eq_false (by omega:¬((lo:Nat):Int)<((hi:Nat):Int))]
      exact kb (by unfold Lm.cr;simp only[if_pos h2,h3,h4,Option.bind_some,if_neg h5]) H2 (s1.trans s2)
  ·rw[decide_eq_false h2]
   exact kb (by unfold Lm.cr;rw[if_neg h2]) H (ak.refl _)
def wd:Nat->Bytes
 |0=>ascii "up"
 |_=>ascii "down"
def dst(z:List Bytes):Nat->Option (List Nat×List Bytes)
 |0=>some ([],z)
 |1=>(Lm.dStep (ascii "up") z).map fun u=>([u.1],u.2)
 |_=>(Lm.dStep (ascii "up") z).bind fun u=>(Lm.dStep (ascii "down") u.2).map fun d=>([u.1,d.1],d.2)
theorem dst_step{z rs:List Bytes}{ds:List Nat}:∀{i:Nat},i<2->dst z i=some (ds,rs)->dst z (i+1)=(Lm.dStep (wd i) rs).map fun d=>(ds++[d.1],d.2)
 |0,_,h=>by
  cases h
  rfl
 |1,_,h=>by
  unfold dst at h ⊢
  cases e:Lm.dStep (ascii "up") z with
  |none=>rw[e] at h;cases h
  |some u =>
   rw[e] at h
   cases h
   rfl
theorem dst_end(z:List Bytes):Lm.c7 z=(dst z 2).bind fun p=>if p.2.length=0 then some (p.1.getD 0 0,p.1.getD 1 0) else none:=by
 unfold Lm.c7 dst
 cases Lm.dStep (ascii "up") z with
 |none=>rfl
 |some u =>
  show(Lm.dStep (ascii "down") u.2).bind _=((Lm.dStep (ascii "down") u.2).map _).bind _
  cases Lm.dStep (ascii "down") u.2 with
  |none=>rfl
  |some d=>rfl
theorem dst_none{z rs:List Bytes}{ds:List Nat}:∀{i:Nat},i<2->dst z i=some (ds,rs)->Lm.dStep (wd i) rs=none->Lm.c7 z=none
 |0,hi,h,e=>by
  cases h
  unfold Lm.c7
  rw[show wd 0=ascii "up" from rfl] at e
  rw[e]
  rfl
 |1,hi,h,e=>by
  have:=dst_step hi h
  rw[e] at this
  rw[dst_end,this]
  rfl
theorem dst_two{z rs:List Bytes}{ds:List Nat}(h:dst z 2=some (ds,rs)):∃ u d,ds=[u,d]:=by
 unfold dst at h
 cases e:Lm.dStep (ascii "up") z with
 |none=>rw[e] at h;cases h
 |some u =>
  rw[e] at h
  cases e2:Lm.dStep (ascii "down") u.2 with
  |none =>
   have h':(Lm.dStep (ascii "down") u.2).map _=some (ds,rs):=h
   rw[e2] at h'
   cases h'
  |some d =>
   have h':(Lm.dStep (ascii "down") u.2).map (fun d=>([u.1,d.1],d.2))=some (ds,rs):=h
   rw[e2] at h'
   cases h'
   exact⟨_,_,rfl⟩
theorem dst_len{z rs:List Bytes}{ds:List Nat}:∀{i:Nat},i<2->dst z i=some (ds,rs)->ds.length<=2
 |0,_,h=>by cases h;exact Nat.zero_le _
 |1,_,h=>by
  unfold dst at h
  cases e:Lm.dStep (ascii "up") z with
  |none=>rw[e] at h;cases h
  |some u=>rw[e] at h;cases h;exact Nat.le_succ 1
abbrev sRdRel:Stmt:=top 49
abbrev vRdRel:List Str:=["parts","delays","rest","word"]
theorem scRdRel:au vRdRel ["parts"] (al sRdRel):=⟨rfl,rfl,rfl,by decide +kernel,rfl,by decide +kernel,by decide +kernel⟩
theorem okRdRel{f:Addr}{fd:FuncData}(F:Fun K "read_relay" "read_relay" sRdRel f fd)(g:G0 mg)(R:Rdr P w K mg base c):bq P w K mg base (Fx P w) 3 f fd ["parts"] (spRd c Lm.fo):=by
 refine F.okX scRdRel (fun vs H Q E h=>?_) (fun cdv A outer s H vs Q E hr h=>?_)
 ·obtain⟨_,_,rfl,_⟩:=h
  rfl
 ·obtain⟨a,p,rfl,hp,k⟩:=h
  refine⟨_,ae (bt (bd R.ex hr (by decide) rfl dj (aa (pe_and (gq op_ge (be ax rfl g.len boot_len (aa (pv 0) af)) aj rfl) (pe_one (gq cf (bo ba (pv 0) aj (fun _ _=>rfl)) ci rfl))) af))) (ae (bc (i:=1) scRdRel.nd rfl (Or.inl rfl) (bi af)) (ae (bc (i:=2) scRdRel.nd rfl (Or.inl rfl) (j5 mw (pv 0) (kg aj) po_none)) (ae (io PassesOwn.leaving rfl (pi_tup (pe_tup (aa ci (aa ci af)))) (br (i:=3) scRdRel.nd rfl (Or.inl rfl)) (ah (bj (PW.pt (pw_and (aq op_ge (be ax rfl g.len boot_len (aa (pv 2) af)) aj rfl) (pw_and1 (aq cf (bo ba (pv 2) aj (fun _ _=>rfl)) (pv 3) rfl)))) (ae (bt (g8 PySem.F.plainAttrs_list PySem.F.slot_list_append PySem.F.type_list_append cv (pv 1) (aa (bd R.nb hr (by decide) rfl dj (aa (bo ba (pv 2) aj (fun _ _=>rfl)) (aa aj (aa (ay g.MOST_DELAY rfl) af)))) af))) (ah (bc (i:=2) scRdRel.nd rfl (Or.inl rfl) (j5 mw (pv 2) (kg aj) po_none)))) (ah (bt (g8 PySem.F.plainAttrs_list PySem.F.slot_list_append PySem.F.type_list_append cv (pv 1) (aa aj af))))))) (ae (bt (bd R.ex hr (by decide) rfl dj (aa (gq cf (be ax rfl g.len boot_len (aa (pv 2) af)) aj rfl) af))) (ah (aw (gg R.row hr (by decide) rfl (aa (ay g.RELAY_RANK rfl) (aa (bd R.nm hr (by decide) rfl dj (aa (bo ba (pv 0) aj (fun _ _=>rfl)) af)) (aa (pe_tup (aa (bd R.nd hr (by decide) rfl dj (aa (bo ba (pv 0) aj (fun _ _=>rfl)) af)) (aa (bo ba (pv 1) aj (fun _ _=>rfl)) (aa (bo ba (pv 1) aj (fun _ _=>rfl)) af)))) af)))))))))),?_⟩
  have kb:Lm.fo p=none->∀ H',ak H H'->E (.ref c.shapeless) none H':=fun e H' s'=>by
   have:=k H' s'
   rw[e] at this
   exact this
  refine⟨_,rfl,a,_,rfl,.inl (SqL.of hp.at_),_,_,rfl,rfl,_,rfl,?_⟩
  rw[List.length_map]
  by_cases h2:4<=p.length
  ·rw[decide_eq_true (by omega:(4:Int)<=((p.length:Nat):Int))]
   refine⟨_,rfl,a,_,_,_,rfl,rfl,SqL.of hp.at_,cq (i:=2) (by omega),rfl,_,rfl,?_⟩
   rw[lit_at,gj]
   by_cases h3:Lm.part p 2=ascii "at"
   ·rw[decide_eq_true h3]
    refine⟨Nat.zero_le _,fun pd hpd=>?_⟩
    have s1:ak H (upd H pd (.lst [])):=ak.new hpd
    refine⟨_,rfl,_,rfl,a,_,rfl,SqL.of (s1 _ _ hp.at_),fun pr hpr=>?_⟩
    have e4:nj (p.map sv) (some 4) none=(p.drop 4).map sv:=cut_from p 4
    rw[e4]
    have s2:ak (upd H pd (.lst [])) (upd (upd H pd (.lst [])) pr (.lst ((p.drop 4).map sv))):=ak.new hpr
    refine⟨(by show 2<=sizeLine;decide),fun tp htp=>?_⟩
    have hd0:upd H pd (.lst []) pd=some (.lst []):=ac
    have nrd:pd≠pr:=ap hd0 hpr
    have htd:=ap (s2 _ _ hd0) htp
    have s3:ak (upd (upd H pd (.lst [])) pr (.lst ((p.drop 4).map sv))) (upd (upd (upd H pd (.lst [])) pr (.lst ((p.drop 4).map sv))) tp (.tup [V.str "up",V.str "down"])):=ak.new htp
    have sA:=s1.trans (s2.trans s3)
    have hpdA:=s3 _ _ (s2 _ _ hd0)
    have hprA:=s3 _ _ (ac (H:=upd H pd (.lst [])) (a:=pr) (o:=.lst ((p.drop 4).map sv)))
    have htpA:(upd (upd (upd H pd (.lst [])) pr (.lst ((p.drop 4).map sv))) tp (.tup [V.str "up",V.str "down"])) tp=some (.tup [V.str "up",V.str "down"]):=ac
    generalize upd (upd (upd H pd (.lst [])) pr (.lst ((p.drop 4).map sv))) tp (.tup [V.str "up",V.str "down"])=HA at sA hpdA hprA htpA
    refine⟨tp,rfl,⟨_,SqT.of htpA⟩,for_tup (K:=K) (a:=tp) (xs:=[V.str "up",V.str "down"]) (fun i σ H'=>∃ ds rs pr v3,σ=[some (.ref a),some (.ref pd),some (.ref pr),v3]/\dst (p.drop 4) i=some (ds,rs)/\Kept [pd] HA H'/\H' pd=some (.lst (ds.map nI))/\ic H' pr rs/\pd≠pr) ⟨[],p.drop 4,pr,none,rfl,rfl,Kept.refl _ _,hpdA,⟨hprA,fun b hb=>hp.len b (List.mem_of_mem_drop hb)⟩,nrd⟩ (fun i σ H' _ ⟨_,_,_,_,_,_,kp,_⟩=>SqT.of (kp _ _ htpA (by simp;exact htd.symm))) ?_ ?_⟩
    ·rintro i y σ H' hy ⟨ds,rs,pr,v3,rfl,hd,kp,h4,h5,h6⟩
     have hi2:i<2:=by
      have:=(List.getElem?_eq_some_iff.mp hy).1
      exact this
     have hy':y=sv (wd i):=by
      match i,hy with
      |0,hy=>cases hy;exact congrArg V.str lit_up
      |1,hy=>cases hy;exact congrArg V.str lit_down
     subst hy'
     have sH:ak H H':=Kept.same sA kp (by intro m hm;rw[List.mem_singleton.mp hm];exact hpd)
     have st:=dst_step hi2 hd
     have dl:=dst_len hi2 hd
     refine⟨_,rfl,pr,_,rfl,.inl (SqL.of h5.at_),_,_,rfl,rfl,_,rfl,?_⟩
     rw[List.length_map]
     have sml:(ds.map nI).length<sizeLine:=by rw[List.length_map];exact bw (by omega)
     have zero:¬(2<=rs.length/\Lm.part rs 0=wd i)->tDrop (tBM K "list" rAppend (gf 1) (de (tC (V.int 0)) jo)) { nx:=fun σ' H''=>∃ ds rs pr v3,σ'=[some (.ref a),some (.ref pd),some (.ref pr),v3]/\dst (p.drop 4) (i+1)=some (ds,rs)/\Kept [pd] HA H''/\H'' pd=some (.lst (ds.map nI))/\ic H'' pr rs/\pd≠pr,rt:=Q } [some (.ref a),some (.ref pd),some (.ref pr),some (sv (wd i))] H':=by
      intro hz
      have ed:Lm.dStep (wd i) rs=some (0,rs):=by unfold Lm.dStep;rw[if_neg hz]
      rw[ed] at st
      refine⟨_,rfl,.inl ⟨rfl,_,SqL.of h4⟩,pd,_,_,rfl,rfl,h4,sml,ds++[0],rs,pr,some (sv (wd i)),rfl,st,kp.trans Kept.upd1,?_,⟨?_,h5.len⟩,h6⟩
      ·rw[ac,List.map_append];rfl
      ·rw[ai h6.symm];exact h5.at_
     by_cases h7:2<=rs.length
     ·rw[decide_eq_true (by omega:(2:Int)<=((rs.length:Nat):Int))]
      refine⟨_,rfl,pr,_,_,_,rfl,rfl,SqL.of h5.at_,cq (i:=0) (by omega),_,rfl,rfl,_,rfl,?_⟩
      rw[gj]
      by_cases h8:Lm.part rs 0=wd i
      ·rw[decide_eq_true h8]
       refine⟨_,rfl,.inl ⟨rfl,_,SqL.of h4⟩,_,rfl,pr,_,_,_,rfl,rfl,SqL.of h5.at_,cq (i:=1) (by omega),Lm.part rs 1,1,65535,rfl,h5.part,by decide,fun H5 s5=>?_⟩
       have ed:Lm.dStep (wd i) rs=(Rung.number 1 65535 (Lm.part rs 1)).map fun n=>(n,rs.drop 2):=by unfold Lm.dStep;rw[if_pos ⟨h7,h8⟩]
       cases h9:Rung.number 1 65535 (Lm.part rs 1) with
       |none =>
        rw[h9] at ed
        refine kb ?_ H5 (sH.trans s5)
        unfold Lm.fo
        rw[if_pos ⟨h2,h3⟩,dst_none hi2 hd ed]
        rfl
       |some n =>
        rw[h9] at ed
        rw[ed] at st
        refine⟨pd,_,_,rfl,rfl,s5 _ _ h4,sml,?_⟩
        have h5a:(upd H5 pd (.lst (ds.map nI++[nI n]))) pr=some (.lst (rs.map sv)):=by rw[ai h6.symm];exact s5 _ _ h5.at_
        refine⟨_,rfl,_,rfl,pr,_,rfl,SqL.of h5a,fun pr2 hpr2=>?_⟩
        have e2:nj (rs.map sv) (some 2) none=(rs.drop 2).map sv:=cut_from rs 2
        rw[e2]
        have hdd:(upd H5 pd (.lst (ds.map nI++[nI n]))) pd=some (.lst (ds.map nI++[nI n])):=ac
        have n2:pd≠pr2:=ap hdd hpr2
        refine⟨ds++[n],rs.drop 2,pr2,some (sv (wd i)),rfl,st,(kp.trans (s5.kept _)).trans (Kept.upd1.trans ((ak.new hpr2).kept _)),?_,⟨ac,fun b hb=>h5.len b (List.mem_of_mem_drop hb)⟩,n2⟩
        rw[ai n2,hdd,List.map_append]
        rfl
      ·rw[decide_eq_false h8]
       exact zero fun q=>h8 q.2
     ·rw[decide_eq_false (by omega:¬(2:Int)<=((rs.length:Nat):Int))]
      exact zero fun q=>h7 q.1
    ·rintro σ H' ⟨ds,rs,pr,v3,rfl,hd,kp,h4,h5,h6⟩
     have hd:dst (p.drop 4) 2=some (ds,rs):=hd
     have sH:ak H H':=Kept.same sA kp (by intro m hm;rw[List.mem_singleton.mp hm];exact hpd)
     obtain⟨u,d,rfl⟩:=dst_two hd
     have pe:=dst_end (p.drop 4)
     rw[hd] at pe
     have pe:Lm.c7 (p.drop 4)=if rs.length=0 then some (u,d) else none:=pe
     refine⟨_,rfl,pr,_,rfl,.inl (SqL.of h5.at_),rfl,_,rfl,?_⟩
     rw[List.length_map,show V.int 0=nI 0 from rfl,fg]
     by_cases h7:rs.length=0
     ·rw[decide_eq_true h7]
      rw[if_pos h7] at pe
      have hp1:=hp.mono sH
      refine⟨_,rfl,a,_,_,_,rfl,rfl,SqL.of hp1.at_,cq (i:=1) (by omega),Lm.part p 1,rfl,hp.part,fun H1 s1=>?_⟩
      cases h8:Rung.isName (Lm.part p 1) with
      |false=>exact kb (by unfold Lm.fo;rw[if_pos ⟨h2,h3⟩,pe,Option.bind_some,h8];rfl) H1 (sH.trans s1)
      |true =>
       have hp2:=hp1.mono s1
       refine⟨_,rfl,a,_,_,_,rfl,rfl,SqL.of hp2.at_,cq (i:=3) (by omega),Lm.part p 3,rfl,hp.part,fun H2 s2=>?_⟩
       cases h9:Rung.number 0 63 (Lm.part p 3) with
       |none=>exact kb (by unfold Lm.fo;rw[if_pos ⟨h2,h3⟩,pe,Option.bind_some,if_pos h8,h9];rfl) H2 ((sH.trans s1).trans s2)
       |some n =>
        have h4':=s2 _ _ (s1 _ _ h4)
        refine⟨_,rfl,pd,_,_,_,rfl,rfl,SqL.of h4',bu (j:=0) rfl,_,rfl,pd,_,_,_,rfl,rfl,SqL.of h4',bu (j:=1) rfl,(by show 3<=sizeLine;decide),fun t ht=>⟨rfl,fun q dx H3 nq s3 hq=>?_⟩⟩
        have k2:=k H3 (((sH.trans s1).trans s2).trans ((ak.new ht).trans s3))
        unfold Lm.fo at k2
        rw[if_pos ⟨h2,h3⟩,pe,Option.bind_some,if_pos h8,h9] at k2
        exact k2 q ⟨dx,t,hq,s3 _ _ ac⟩
     ·rw[decide_eq_false h7]
      rw[if_neg h7] at pe
      exact kb (by unfold Lm.fo;rw[if_pos ⟨h2,h3⟩,pe];rfl) H' sH
   ·rw[decide_eq_false h3]
    exact kb (by unfold Lm.fo;rw[if_neg (fun z=>h3 z.2)]) H (ak.refl _)
  ·rw[decide_eq_false (by omega:¬(4:Int)<=((p.length:Nat):Int))]
   exact⟨_,rfl,kb (by unfold Lm.fo;rw[if_neg (fun z=>h2 z.1)]) H (ak.refl _)⟩
theorem e9{d:UInt8}:∀(b:Bytes),∀ x∈Rung.split d b,x.length<=b.length
 | [],x,h=>by
  rw[show Rung.split d []=[[]] from rfl,List.mem_singleton] at h
  rw[h]
  exact Nat.le_refl _
 |y::b,x,h=>by
  have ih:=e9 (d:=d) b
  unfold Rung.split at h
  by_cases e:y=d
  ·rw[if_pos e] at h
   rcases List.mem_cons.mp h with rfl|h
   ·exact Nat.zero_le _
   ·exact Nat.le_succ_of_le (ih x h)
  ·rw[if_neg e] at h
   cases q:Rung.split d b with
   |nil=>exact absurd q (Lm.fq b)
   |cons p r =>
    rw[q] at h ih
    rcases List.mem_cons.mp h with rfl|h
    ·exact Nat.succ_le_succ (ih p (by simp))
    ·exact Nat.le_succ_of_le (ih x (by simp[h]))
theorem jk{d:UInt8}:∀(b:Bytes),(Rung.split d b).length<=b.length+1
 | []=>Nat.le_refl _
 |y::b=>by
  have ih:=jk (d:=d) b
  unfold Rung.split
  split
  ·simp;omega
  ·cases q:Rung.split d b with
   |nil=>simp
   |cons p r=>rw[q] at ih;simp at ih ⊢;omega
theorem big_b{n:Nat}(h:n<=100000):n+2<=sizeLine:=Nat.le_trans (Nat.add_le_add_right h 2) (by decide)
theorem map_sv(l:List Bytes):(l.map strOf).map V.str=l.map sv:=by rw[List.map_map];rfl
theorem rd_split{b:Bytes}{d:UInt8}{s:Str}(e:s=strOf [d])(hb:b.length<=100000){H:Hp}{Q:VK}(q:∀ p,H p=none->Q (.ref p) (upd H p (.lst ((Rung.split d b).map sv)))):(∃ a,sv b=.str a)/\∃ a t,sv b=.str a/\[V.str s]=[.str t]/\(t.length==0)=false/\a.length+2<=sizeLine/\rNewStrs (Txt.split a t) H Q:=by
 subst e
 refine⟨⟨_,rfl⟩,strOf b,strOf [d],rfl,rfl,rfl,by rw[bf];exact big_b hb,?_⟩
 rw[split_strOf]
 unfold rNewStrs
 rw[map_sv]
 exact q
abbrev sRdRow:Stmt:=top 52
def spRow(c:Cs):Sp:=fun vs H Q E=>∃(b:Bytes),vs=[sv b]/\b.length<=100000/\∀ H',ak H H'->match Rung.lineIn b with
 |some l=>∀ q,k9 c H' q l->Q (.ref q) H'
 |none=>E (.ref c.shapeless) none H'
structure Rdr2(P:Program)(w:World)(K:W.Frag)(mg:Str->Option Value)(base:Heap)(c:Cs):Prop where
 i:Def P w K mg base (Fx P w) 3 "read_in" ["parts"] (spRd c Lm.rIn)
 r:Def P w K mg base (Fx P w) 3 "read_relay" ["parts"] (spRd c Lm.fo)
 l:Def P w K mg base (Fx P w) 3 "read_lamp" ["parts"] (spRd c Lm.jh)
 k:Def P w K mg base (Fx P w) 3 "read_contact" ["parts","through"] (spRdC c)
theorem scRdRow:au ["line","parts"] ["line"] (al sRdRow):=⟨rfl,rfl,rfl,by decide +kernel,rfl,by decide +kernel,by decide +kernel⟩
theorem okRdRow{f:Addr}{fd:FuncData}(F:Fun K "read_row" "read_row" sRdRow f fd)(g:G0 mg)(x:Xs K mg c)(R:Rdr2 P w K mg base c):bq P w K mg base (Fx P w) 4 f fd ["line"] (spRow c):=by
 refine F.okX scRdRow (fun vs H Q E h=>?_) (fun cdv A outer s H vs Q E hr h=>?_)
 ·obtain⟨_,rfl,_⟩:=h
  rfl
 ·obtain⟨b,rfl,hb,k⟩:=h
  refine⟨_,ae (bc (i:=1) scRdRow.nd rfl (Or.inl rfl) (pe_split (pv 0) ci)) (ae (bj (aq cf (bo ba (pv 1) aj (fun _ _=>rfl)) ci rfl) (ah (aw (bd R.i hr (by decide) rfl dj (aa (pv 1) af)))) az) (ae (bj (aq cf (bo ba (pv 1) aj (fun _ _=>rfl)) ci rfl) (ah (aw (bd R.r hr (by decide) rfl dj (aa (pv 1) af)))) az) (ae (bj (aq cf (bo ba (pv 1) aj (fun _ _=>rfl)) ci rfl) (ah (aw (bd R.l hr (by decide) rfl dj (aa (pv 1) af)))) az) (ae (bj (aq cf (bo ba (pv 1) aj (fun _ _=>rfl)) ci rfl) (ah (aw (bd R.k hr (by decide) rfl dj (aa (pv 1) (aa aj af))))) az) (ae (bj (aq cf (bo ba (pv 1) aj (fun _ _=>rfl)) ci rfl) (ah (aw (bd R.k hr (by decide) rfl dj (aa (pv 1) (aa aj af))))) az) (ah (ik hr.hd rfl x.mshp x.shp (aa ci af)))))))),?_⟩
  refine⟨_,rfl,rd_split lit_sp hb fun a ha=>?_⟩
  have s1:ak H (upd H a (.lst ((Rung.split 32 b).map sv))):=ak.new ha
  have hp:ic (upd H a (.lst ((Rung.split 32 b).map sv))) a (Rung.split 32 b):=⟨ac,fun y hy=>Nat.le_trans (e9 b y hy) hb⟩
  have k:=fun H' s'=>k H' (s1.trans s')
  generalize upd H a (.lst ((Rung.split 32 b).map sv))=H1 at hp k
  rw[Lm.lineIn_eq] at k
  have ne:0<(Rung.split 32 b).length:=List.length_pos_iff.mpr (Lm.fq b)
  generalize Rung.split 32 b=p at hp k ne
  unfold Lm.rRow at k
  refine⟨_,rfl,a,_,_,_,rfl,rfl,SqL.of hp.at_,cq (i:=0) ne,rfl,_,rfl,?_⟩
  rw[lit_in,gj]
  by_cases h1:Lm.part p 0=ascii "in"
  ·rw[decide_eq_true h1]
   simp only[if_pos h1] at k
   exact⟨_,rfl,a,p,rfl,hp,k⟩
  rw[decide_eq_false h1]
  simp only[if_neg h1] at k
  refine⟨_,rfl,a,_,_,_,rfl,rfl,SqL.of hp.at_,cq (i:=0) ne,rfl,_,rfl,?_⟩
  rw[lit_relay,gj]
  by_cases h2:Lm.part p 0=ascii "relay"
  ·rw[decide_eq_true h2]
   simp only[if_pos h2] at k
   exact⟨_,rfl,a,p,rfl,hp,k⟩
  rw[decide_eq_false h2]
  simp only[if_neg h2] at k
  refine⟨_,rfl,a,_,_,_,rfl,rfl,SqL.of hp.at_,cq (i:=0) ne,rfl,_,rfl,?_⟩
  rw[lit_lamp,gj]
  by_cases h3:Lm.part p 0=ascii "lamp"
  ·rw[decide_eq_true h3]
   simp only[if_pos h3] at k
   exact⟨_,rfl,a,p,rfl,hp,k⟩
  rw[decide_eq_false h3]
  simp only[if_neg h3] at k
  refine⟨_,rfl,a,_,_,_,rfl,rfl,SqL.of hp.at_,cq (i:=0) ne,rfl,_,rfl,?_⟩
  rw[lit_open,gj]
  by_cases h4:Lm.part p 0=ascii "open"
  ·rw[decide_eq_true h4]
   simp only[if_pos h4] at k
   exact⟨_,rfl,a,p,false,rfl,hp,k⟩
  rw[decide_eq_false h4]
  simp only[if_neg h4] at k
  refine⟨_,rfl,a,_,_,_,rfl,rfl,SqL.of hp.at_,cq (i:=0) ne,rfl,_,rfl,?_⟩
  rw[lit_close,gj]
  by_cases h5:Lm.part p 0=ascii "close"
  ·rw[decide_eq_true h5]
   simp only[if_pos h5] at k
   exact⟨_,rfl,a,p,true,rfl,hp,k⟩
  rw[decide_eq_false h5]
  simp only[if_neg h5] at k
  exact⟨by decide,k H1 (ak.refl _)⟩
def f9(c:Cs)(E:XK)(H:Hp)(f:Nat×Nat):Prop:=∀(H':Hp)(dx:Addr),ak H H'->H' dx=some (.xd [("line",nI f.2),("kind",nI f.1)])->E (.ref c.fault) (some dx) H'
theorem f9.at_{c:Cs}{E:XK}{H H1:Hp}{f:Nat×Nat}(h:f9 c E H f)(s:ak H H1):∀ dx,H1 dx=none->E (.ref c.fault) (some dx) (upd H1 dx (.xd [("line",nI f.2),("kind",nI f.1)])):=fun dx hd=>h _ dx (s.trans (ak.new hd)) ac
def RowsAt(c:Cs)(H:Hp)(a:Addr)(p:List Line):Prop:=∃ as:List Addr,H a=some (.lst (as.map V.ref))/\as.length=p.length/\∀(j:Nat)(b:Addr)(l:Line),as[j]?=some b->p[j]?=some l->k9 c H b l
theorem k9.put{c:Cs}{H:Hp}{b p:Addr}{l:Line}{xs:List V}{o:HO}(h:k9 c H b l)(hp:H p=some (.lst xs)):k9 c (upd H p o) b l:=by
 obtain⟨dx,t,h1,h2⟩:=h
 exact⟨dx,t,by rw[ai (eq h1 hp (by intro q;cases q))];exact h1,by rw[ai (eq h2 hp (by intro q;cases q))];exact h2⟩
theorem RowsAt.mono{c:Cs}{H H':Hp}{a:Addr}{p:List Line}(s:ak H H')(h:RowsAt c H a p):RowsAt c H' a p:=by
 obtain⟨as,h1,h2,h3⟩:=h
 exact⟨as,s _ _ h1,h2,fun j b l e1 e2=>(h3 j b l e1 e2).mono s⟩
abbrev sRows:Stmt:=top 53
def spRows(c:Cs):Sp:=fun vs H Q E=>∃(t:Bytes),vs=[sv t]/\t.length<=100000/\match Rung.all (Lm.ia t) 0 with
 |.ok p=>∀ H' q,ak H H'->RowsAt c H' q p->Q (.ref q) H'
 |.error k=>f9 c E H (1,k)
abbrev vRows:List Str:=["signs","lines","unended","rows","place","line","row"]
theorem scRows:au vRows ["signs"] (al sRows):=⟨rfl,rfl,rfl,by decide +kernel,rfl,by decide +kernel,by decide +kernel⟩
theorem okRows{f:Addr}{fd:FuncData}(F:Fun K "read_rows" "read_rows" sRows f fd)(g:G0 mg)(x:Xs K mg c)(D1:Def P w K mg base (Fx P w) 4 "read_row" ["line"] (spRow c)):bq P w K mg base (Fx P w) 5 f fd ["signs"] (spRows c):=by
 obtain⟨fI,XM⟩:=x.flt
 refine F.okX scRows (fun vs H Q E h=>?_) (fun cdv A outer s H vs Q E hr h=>?_)
 ·obtain⟨_,rfl,_⟩:=h
  rfl
 ·obtain⟨t,rfl,ht,k⟩:=h
  have hdep:(A.deeper (envOfC "read_rows" (al sRows) s.heap.objs.size f cdv)).depth+1<recursionLimit:=by have:=hr.dp;omega
  refine⟨_,ae (bc (i:=1) scRows.nd rfl (Or.inl rfl) (pe_split (pv 0) ci)) (ae (bc (i:=2) scRows.nd rfl (Or.inl rfl) (pe_bm0 PySem.F.plainAttrs_list PySem.F.slot_list_pop PySem.F.type_list_pop mt_pop (pv 1))) (ae (bc (i:=3) scRows.nd rfl (Or.inl rfl) (bi af)) (ae (io PassesOwn.leaving rfl (pi_enum rfl g.enumerate (aa (pv 1) af)) (ma rfl (cy (br (i:=4) scRows.nd rfl (Or.inl rfl)) (cy (br (i:=5) scRows.nd rfl (Or.inl rfl)) jw))) (ae (ps_try ⟨rfl,rfl,rfl⟩ (pb_set (i:=6) scRows.nd rfl (Or.inl rfl) (px_def D1 hr (by decide) rfl rfl (aa (pv 5) af))) (fun _=>PassesOwnAt.leaving) rfl x.mshp x.shp (fun ex oe vs h1 h2 h3=>ah (ps_raise2F h1 h3 hdep rfl x.mflt XM (aa (ay g.NO_SHAPE rfl) (aa (pv 4) af)) (by decide) hr.hd))) (ah (bt (g8 PySem.F.plainAttrs_list PySem.F.slot_list_append PySem.F.type_list_append cv (pv 3) (aa (pv 6) af)))))) (ae (bj (aq op_ne (pv 2) ci rfl) (ah (jy hr.hd hdep rfl x.mflt XM (aa (ay g.NO_SHAPE rfl) (aa (be ax rfl g.len boot_len (aa (pv 1) af)) af)))) az) (ah (aw (pv 3))))))),?_⟩
  obtain⟨init,last,h1,h2,h3,h4⟩:=Lm.ib t
  have le:=Lm.j4 h1
  refine⟨_,rfl,rd_split lit_nl ht fun a ha=>?_⟩
  rw[h1]
  have ea:upd H a (.lst ((init++[last]).map sv)) a=some (.lst ((init++[last]).map sv)):=ac
  refine⟨_,rfl,.inl ⟨rfl,_,SqL.of ea⟩,a,_,sv last,rfl,rfl,ea,by simp,?_⟩
  refine⟨Nat.zero_le _,fun pr hpr=>?_⟩
  have sA:ak H (upd (upd (upd H a (.lst ((init++[last]).map sv))) a (.lst ((init++[last]).map sv).dropLast)) pr (.lst [])):=((ak.new ha).put ha).trans (ak.new hpr)
  have haA:(upd (upd (upd H a (.lst ((init++[last]).map sv))) a (.lst ((init++[last]).map sv).dropLast)) pr (.lst [])) a=some (.lst (init.map sv)):=by
   have e1:(upd (upd H a (.lst ((init++[last]).map sv))) a (.lst ((init++[last]).map sv).dropLast)) a=some (.lst (init.map sv)):=by rw[ac,List.map_append];simp
   rw[ai (ap e1 hpr)]
   exact e1
  have hprA:(upd (upd (upd H a (.lst ((init++[last]).map sv))) a (.lst ((init++[last]).map sv).dropLast)) pr (.lst [])) pr=some (.lst []):=ac
  have npa:pr≠a:=fun q=>by
   have e1:(upd (upd H a (.lst ((init++[last]).map sv))) a (.lst ((init++[last]).map sv).dropLast)) a=some (.lst ((init++[last]).map sv).dropLast):=ac
   rw[q,e1] at hpr
   cases hpr
  have hprH:H pr=none:=((ak.new ha).put ha).free hpr
  generalize upd (upd (upd H a (.lst ((init++[last]).map sv))) a (.lst ((init++[last]).map sv).dropLast)) pr (.lst [])=HA at sA haA hprA
  have ilen:∀ b∈init,b.length<=100000:=fun b hb=>Nat.le_trans (e9 (d:=10) t b (by rw[h1];simp[hb])) ht
  have icount:init.length<=100000:=by have:=jk (d:=10) t;rw[h1] at this;simp at this;omega
  refine⟨_,rfl,a,_,rfl,SqL.of haA,lh (K:=K) (a:=a) (xs:=init.map sv) (p:=4) (q:=5) (fun i σ H'=>∃ p as v4 v5 v6,σ=[some (sv t),some (.ref a),some (sv last),some (.ref pr),v4,v5,v6]/\(init.take i).map Rung.lineIn=p.map some/\Kept [pr] HA H'/\H' pr=some (.lst (as.map V.ref))/\as.length=p.length/\∀(j:Nat)(b:Addr)(l:Line),as[j]?=some b->p[j]?=some l->k9 c H' b l) ⟨[],[],none,none,none,rfl,rfl,Kept.refl _ _,hprA,rfl,fun j b l e=>by simp at e⟩ (fun i σ H' _ ⟨_,_,_,_,_,_,_,kp,_⟩=>SqL.of (kp _ _ haA (by simp;exact npa.symm))) ?_ ?_⟩
  ·rintro i y σ H4 H5 hy ⟨p,as,v4,v5,v6,rfl,hpm,kp,h5,h6,h7⟩ s5
   obtain⟨b,hb,rfl⟩:=fc hy
   have plen:p.length=i:=by
    have:=congrArg List.length hpm
    rw[List.length_map,List.length_map,List.length_take] at this
    have:=(List.getElem?_eq_some_iff.mp hb).1
    omega
   have kp5:Kept [pr] HA H5:=kp.trans (s5.kept _)
   refine⟨_,rfl,b,rfl,ilen b (List.mem_of_getElem? hb),fun H6 s6=>?_⟩
   have kp6:Kept [pr] HA H6:=kp5.trans (s6.kept _)
   have sH6:ak H H6:=Kept.same sA kp6 (by intro m hm;rw[List.mem_singleton.mp hm];exact hprH)
   cases e:Rung.lineIn b with
   |none =>
    refine⟨rfl,rfl,_,rfl,_,_,rfl,?_⟩
    have er:Rung.all (Lm.ia t) 0=.error i:=by
     rw[le,<-List.take_append_drop i init,List.map_append,hpm,List.drop_eq_getElem_cons (List.getElem?_eq_some_iff.mp hb).1,List.map_cons,List.append_assoc]
     rw[(List.getElem?_eq_some_iff.mp hb).2,e]
     show Rung.all (p.map some++none::_) 0=_
     rw[Lm.all_err,Nat.zero_add,plen]
    rw[er] at k
    exact k.at_ sH6
   |some l =>
    intro q hq
    have h5':=s6 _ _ (s5 _ _ h5)
    refine⟨_,rfl,.inl ⟨rfl,_,SqL.of h5'⟩,_,rfl,pr,_,_,rfl,rfl,h5',?_,p++[l],as++[q],some (nI i),some (sv b),some (.ref q),rfl,?_,kp6.trans Kept.upd1,?_,?_,?_⟩
    ·rw[List.length_map,h6,plen]
     exact Nat.lt_of_lt_of_le (List.getElem?_eq_some_iff.mp hb).1 (Nat.le_trans icount (Nat.le_of_lt big5))
    ·rw[Lm.bp hb,List.map_append,hpm,List.map_append,List.map_cons,e]
     rfl
    ·rw[ac,List.map_append]
     rfl
    ·simp[h6]
    ·intro j b' l' e1 e2
     refine k9.put ?_ h5'
     rw[List.getElem?_append] at e1 e2
     rw[h6] at e1
     by_cases hj:j<p.length
     ·rw[if_pos hj] at e1 e2
      exact((h7 j b' l' e1 e2).mono s5).mono s6
     ·rw[if_neg hj] at e1 e2
      have m1:=List.mem_singleton.mp (List.mem_of_getElem? e1)
      have m2:=List.mem_singleton.mp (List.mem_of_getElem? e2)
      rw[m1,m2]
      exact hq
  ·rintro σ H4 ⟨p,as,v4,v5,v6,rfl,hpm,kp,h5,h6,h7⟩
   rw[List.length_map,List.take_length] at hpm
   have sH4:ak H H4:=Kept.same sA kp (by intro m hm;rw[List.mem_singleton.mp hm];exact hprH)
   have ha4:=kp _ _ haA (by simp;exact npa.symm)
   refine⟨_,rfl,rfl,_,rfl,?_⟩
   rw[lit_nil,gj]
   by_cases hl:last=[]
   ·rw[decide_eq_true hl]
    have er:Rung.all (Lm.ia t) 0=.ok p:=by
     rw[le,if_pos hl,List.append_nil,hpm]
     exact Lm.all_ok _ _ _ rfl
    rw[er] at k
    exact⟨_,rfl,k H4 pr sH4 ⟨as,h5,h6,h7⟩⟩
   ·rw[decide_eq_false hl]
    have er:Rung.all (Lm.ia t) 0=.error init.length:=by
     rw[le,if_neg hl,hpm,Lm.all_err,Nat.zero_add]
     have:=congrArg List.length hpm
     rw[List.length_map,List.length_map] at this
     rw[this]
    rw[er] at k
    refine⟨_,rfl,a,_,rfl,.inl (SqL.of ha4),_,_,rfl,?_⟩
    rw[List.length_map]
    exact k.at_ sH4
end
end Lp
namespace L2
open PySem PySem.Spec PyProof.Rows
theorem get_list{X:Cx}:PGet X (rIxL X.K):=by
 intro pins s σ H o i ov iv Q I ro ri h
 obtain⟨p,xs,k,z,rfl,rfl,hq,he,q⟩:=h
 cases ro
 obtain⟨t,rfl⟩:=ri
 obtain⟨its,r,pl,hz⟩:=I.list hq
 obtain⟨j,h1,h2,h3,h4,h5⟩:=atI_get he
 obtain⟨w,ew,rw'⟩:=r.get h2
 have hl:=r.length
 have hn:=line63
 have fin:EP X pins σ Q w s:=⟨z,H,I,rw',q⟩
 by_cases h0:0<=k
 ·have hj:k.toNat=j:=by
   rw[seqIndex_of h0 h5] at h1
   exact Option.some.inj h1
  exact wpAny_getItem_list pl.isList h0 (by omega) (by rw[hj];simpa using ew) fin
 ·have hj:(k+(its.toArray.size:Int)).toNat=j:=by
   rw[seqIndex_neg (by omega) h4] at h1
   rw[List.size_toArray,<-hl]
   exact Option.some.inj h1
  exact wpAny_getItem_list_neg pl.isList (by omega) (by rw[List.size_toArray]<;>omega) (by omega) (by rw[hj];simpa using ew) fin
end L2
namespace Lp
open PySem PySem.Spec PyProof.Rows L2
open Rung (Bytes ascii Line)
theorem set_read{p:Addr}{xs ys:List V}{k:Int}{j:Nat}{v:V}{H:Hp}{Q:Hp->Prop}(h:H p=some (.lst xs))(hj:ixN xs.length k=some j)(e:xs.set j v=ys)(q:Q (upd H p (.lst ys))):rSetL (.ref p) (.int k) v H Q:=⟨p,xs,k,j,rfl,rfl,h,hj,by rw[e];exact q⟩
def GT(K:W.Frag)(mg:Str->Option Value):Prop:=∃ a,mg "MOST_OF_RANK"=some (.ref a)/\∀ H,SqT K H a [nI 16,nI 12,nI 16,nI 256]
def spChk(c:Cs)(kind:Nat)(bad:List Line->Nat->Line->Bool):Sp:=fun vs H Q E=>∃(a:Addr)(p:List Line),vs=[.ref a]/\RowsAt c H a p/\p.length<=100000/\match Rung.firstLine p (bad p) with
 |some k=>f9 c E H (kind,k)
 |none=>∀ H',ak H H'->Q .non H'
section
variable{P:Program}{w:World}{K:PySem.W.Frag}{mg:Str->Option Value}{base:Heap}{c:Cs}
abbrev sOrd:Stmt:=top 54
abbrev vOrd:List Str:=["rows","latest","place","row"]
theorem scOrd:au vOrd ["rows"] (al sOrd):=⟨rfl,rfl,rfl,by decide +kernel,rfl,by decide +kernel,by decide +kernel⟩
theorem okOrd{f:Addr}{fd:FuncData}(F:Fun K "check_order" "check_order" sOrd f fd)(T:Ts K c)(g:G0 mg)(x:Xs K mg c):bq P w K mg base (Fx P w) 2 f fd ["rows"] (spChk c 2 Lm.jn):=by
 obtain⟨fI,XM⟩:=x.flt
 refine F.okX scOrd (fun vs H Q E h=>?_) (fun cdv A outer s H vs Q E hr h=>?_)
 ·obtain⟨_,_,rfl,_⟩:=h
  rfl
 ·obtain⟨a,p,rfl,⟨as,ha,hl,hr2⟩,hlen,k⟩:=h
  have hdep:(A.deeper (envOfC "check_order" (al sOrd) s.heap.objs.size f cdv)).depth+1<recursionLimit:=by have:=hr.dp;omega
  refine⟨_,ae (bc (i:=1) scOrd.nd rfl (Or.inl rfl) (ay g.IN_RANK rfl)) (ah (io PassesOwn.leaving rfl (pi_enum rfl g.enumerate (aa (pv 0) af)) (ma rfl (cy (br (i:=2) scOrd.nd rfl (Or.inl rfl)) (cy (br (i:=3) scOrd.nd rfl (Or.inl rfl)) jw))) (ae (bj (aq op_lt (ao (pv 3) rfl) (pv 1) rfl) (ah (jy hr.hd hdep rfl x.mflt XM (aa (ay g.OUT_OF_ORDER rfl) (aa (pv 2) af)))) az) (ah (bc (i:=1) scOrd.nd rfl (Or.inl rfl) (ao (pv 3) rfl)))))),?_⟩
  refine⟨_,rfl,a,_,rfl,SqL.of ha,lh (K:=K) (a:=a) (xs:=as.map V.ref) (p:=2) (q:=3) (fun i σ H'=>∃(n:Nat)(v2 v3:Option V),σ=[some (.ref a),some (nI n),v2,v3]/\Lm.Ord p i n/\ak H H') ⟨0,none,none,rfl,Lm.Ord.start,ak.refl _⟩ (fun i σ H' _ ⟨_,_,_,_,_,s4⟩=>SqL.of (s4 _ _ ha)) ?_ ?_⟩
  ·rintro i y σ H4 H5 hy ⟨n,v2,v3,rfl,ho,s4⟩ s5
   obtain⟨b,hb,rfl⟩:=fc hy
   obtain⟨l,hl1⟩:=gz hl hb
   have s6:=s4.trans s5
   obtain⟨dx,t,h1,h2⟩:=(hr2 i b l hb hl1).mono s6
   refine⟨_,rfl,fld T.row h1 (by decide) rfl ⟨_,rfl,_,_,rfl,rfl,_,rfl,?_⟩⟩
   by_cases hlt:l.sort<n
   ·rw[decide_eq_true (by omega:((l.sort:Nat):Int)<((n:Nat):Int))]
    have ff:Rung.firstLine p (Lm.jn p)=some i:=by
     refine ho.good.some hl1 ?_
     unfold Lm.jn
     rw[List.any_eq_true]
     rcases ho.top with e|⟨m,hm,e⟩
     ·omega
     ·exact⟨m,hm,by simp;omega⟩
    rw[ff] at k
    exact⟨_,rfl,_,_,rfl,k.at_ s6⟩
   ·rw[decide_eq_false (by omega:¬((l.sort:Nat):Int)<((n:Nat):Int))]
    exact⟨_,rfl,fld T.row h1 (by decide) rfl ⟨l.sort,_,_,rfl,ho.step hl1 hlt,s6⟩⟩
  ·rintro σ H4 ⟨n,v2,v3,rfl,ho,s4⟩
   rw[List.length_map,hl] at ho
   rw[ho.good.none] at k
   exact k H4 s4
abbrev sCnt:Stmt:=top 55
abbrev vCnt:List Str:=["rows","counts","place","row"]
theorem scCnt:au vCnt ["rows"] (al sCnt):=⟨rfl,rfl,rfl,by decide +kernel,rfl,by decide +kernel,by decide +kernel⟩
theorem most_at{r:Nat}(h:r<4):([nI 16,nI 12,nI 16,nI 256]:List V)[r]?=some (nI (Rung.mostOf r)):=by
 match r,h with
 |0,_=>rfl
 |1,_=>rfl
 |2,_=>rfl
 |3,_=>rfl
theorem okCnt{f:Addr}{fd:FuncData}(F:Fun K "check_counts" "check_counts" sCnt f fd)(T:Ts K c)(g:G0 mg)(gt:GT K mg)(x:Xs K mg c):bq P w K mg base (Fx P w) 2 f fd ["rows"] (spChk c 3 Lm.mo):=by
 obtain⟨fI,XM⟩:=x.flt
 obtain⟨ag,eg,hg⟩:=gt
 refine F.okX scCnt (fun vs H Q E h=>?_) (fun cdv A outer s H vs Q E hr h=>?_)
 ·obtain⟨_,_,rfl,_⟩:=h
  rfl
 ·obtain⟨a,p,rfl,⟨as,ha,hl,hr2⟩,hlen,k⟩:=h
  have hdep:(A.deeper (envOfC "check_counts" (al sCnt) s.heap.objs.size f cdv)).depth+1<recursionLimit:=by have:=hr.dp;omega
  refine⟨_,ae (bc (i:=1) scCnt.nd rfl (Or.inl rfl) (cp op_rep (bi (aa aj af)) (be ax rfl g.len boot_len (aa (pe_glob (v:=.ref ag) rfl eg rfl) af)))) (ah (io PassesOwn.leaving rfl (pi_enum rfl g.enumerate (aa (pv 0) af)) (ma rfl (cy (br (i:=2) scCnt.nd rfl (Or.inl rfl)) (cy (br (i:=3) scCnt.nd rfl (Or.inl rfl)) jw))) (ae (ps_augS (pv 1) (ao (pv 3) rfl) get_list aj mr set_list) (ah (bj (aq op_gt (bo ba (pv 1) (ao (pv 3) rfl) (fun _ _=>rfl)) (bo ix_tup (pe_glob (v:=.ref ag) rfl eg rfl) (ao (pv 3) rfl) (fun _ _=>rfl)) rfl) (ah (jy hr.hd hdep rfl x.mflt XM (aa (ay g.TOO_MANY rfl) (aa (pv 2) af)))) az))))),?_⟩
  refine⟨by decide,fun q hq=>⟨ag,_,rfl,.inr (hg _),q,_,_,rfl,rfl,ac,by decide,by decide,by decide,fun pc hpc=>?_⟩⟩
  have npc:=(ak.new (o:=.lst [V.int 0]) hq).free hpc
  have sA:ak H (upd (upd H q (.lst [V.int 0])) pc (.lst (List.replicate (Int.toNat 4) [V.int 0]).flatten)):=(ak.new hq).trans (ak.new hpc)
  have hcA:(upd (upd H q (.lst [V.int 0])) pc (.lst (List.replicate (Int.toNat 4) [V.int 0]).flatten)) pc=some (.lst ((Lm.cnts (p.take 0)).map nI)):=ac
  generalize upd (upd H q (.lst [V.int 0])) pc (.lst (List.replicate (Int.toNat 4) [V.int 0]).flatten)=HA at sA hcA
  refine⟨_,rfl,a,_,rfl,SqL.of (sA _ _ ha),lh (K:=K) (a:=a) (xs:=as.map V.ref) (p:=2) (q:=3) (fun i σ H'=>∃(v2 v3:Option V),σ=[some (.ref a),some (.ref pc),v2,v3]/\Lm.Good (Lm.mo p) p i/\ak H H'/\H' pc=some (.lst ((Lm.cnts (p.take i)).map nI))) ⟨none,none,rfl,.zero,sA,hcA⟩ (fun i σ H' _ ⟨_,_,_,_,s4,_⟩=>SqL.of (s4 _ _ ha)) ?_ ?_⟩
  ·rintro i y σ H4 H5 hy ⟨v2,v3,rfl,ho,s4,h4⟩ s5
   obtain⟨b,hb,rfl⟩:=fc hy
   obtain⟨l,hl1⟩:=gz hl hb
   have s6:=s4.trans s5
   obtain⟨dx,t,h1,h2⟩:=(hr2 i b l hb hl1).mono s6
   have h5:=s5 _ _ h4
   have ls:=Lm.sort_lt l
   have gt:=Lm.cnts_get (p:=p.take i) ls
   have npb:b≠pc:=eq h1 h5 (by intro q;cases q)
   have e2:((Lm.cnts (p.take i)).map nI).set l.sort (nI (Lm.fe (p.take i) l.sort+1))=(Lm.cnts (p.take (i+1))).map nI:=by rw[Lm.bp hl1,Lm.cnts_snoc,List.map_set]
   have gt2:=Lm.cnts_get (p:=p.take (i+1)) ls
   have e3:Lm.fe (p.take (i+1)) l.sort=Lm.fe (p.take i) l.sort+1:=by rw[Lm.bp hl1,Lm.cntOf_snoc,if_pos rfl]
   refine⟨_,rfl,_,rfl,fld T.row h1 (by decide) rfl ⟨pc,_,_,_,rfl,rfl,SqL.of h5,bu (gv gt),_,_,rfl,rfl,set_read h5 (ixN_nat (by rw[List.length_map];exact ls)) e2 ?_⟩⟩
   have h1':(upd H5 pc (.lst ((Lm.cnts (p.take (i+1))).map nI))) b=some (.ins c.row dx [("rank",nI l.sort),("name",sv (lname l)),("numbers",.ref t)]):=by rw[ai npb];exact h1
   refine⟨_,rfl,_,rfl,fld T.row h1' (by decide) rfl ⟨pc,_,_,_,rfl,rfl,SqL.of ac,bu (gv gt2),_,rfl,fld T.row h1' (by decide) rfl ⟨ag,_,_,_,rfl,rfl,hg _,bu (most_at ls),_,_,rfl,rfl,_,rfl,?_⟩⟩⟩
   have s7:ak H (upd H5 pc (.lst ((Lm.cnts (p.take (i+1))).map nI))):=s6.put npc
   rw[e3]
   by_cases hlt:Rung.mostOf l.sort<=Lm.fe (p.take i) l.sort
   ·rw[decide_eq_true (by omega:((Rung.mostOf l.sort:Nat):Int)<((Lm.fe (p.take i) l.sort+1:Nat):Int))]
    have ff:Rung.firstLine p (Lm.mo p)=some i:=ho.some hl1 (by rw[Lm.bad3_eq];exact decide_eq_true hlt)
    rw[ff] at k
    exact⟨_,rfl,_,_,rfl,k.at_ s7⟩
   ·rw[decide_eq_false (by omega:¬((Rung.mostOf l.sort:Nat):Int)<((Lm.fe (p.take i) l.sort+1:Nat):Int))]
    refine⟨_,_,rfl,ho.snoc fun l' hl'=>?_,s7,ac⟩
    rw[hl1] at hl'
    cases hl'
    rw[Lm.bad3_eq]
    exact decide_eq_false hlt
  ·rintro σ H4 ⟨v2,v3,rfl,ho,s4,_⟩
   rw[List.length_map,hl] at ho
   rw[ho.none] at k
   exact k H4 s4
abbrev sNms:Stmt:=top 56
abbrev vNms:List Str:=["rows","given","place","row"]
theorem scNms:au vNms ["rows"] (al sNms):=⟨rfl,rfl,rfl,by decide +kernel,rfl,by decide +kernel,by decide +kernel⟩
theorem okNms{f:Addr}{fd:FuncData}(F:Fun K "check_names" "check_names" sNms f fd)(T:Ts K c)(g:G0 mg)(x:Xs K mg c):bq P w K mg base (Fx P w) 2 f fd ["rows"] (spChk c 4 Lm.bad4):=by
 obtain⟨fI,XM⟩:=x.flt
 refine F.okX scNms (fun vs H Q E h=>?_) (fun cdv A outer s H vs Q E hr h=>?_)
 ·obtain⟨_,_,rfl,_⟩:=h
  rfl
 ·obtain⟨a,p,rfl,⟨as,ha,hl,hr2⟩,hlen,k⟩:=h
  have hdep:(A.deeper (envOfC "check_names" (al sNms) s.heap.objs.size f cdv)).depth+1<recursionLimit:=by have:=hr.dp;omega
  have hu:=hu_of hr
  refine⟨_,ae (bc (i:=1) scNms.nd rfl (Or.inl rfl) pe_dnewK) (ah (io PassesOwn.leaving rfl (pi_enum rfl g.enumerate (aa (pv 0) af)) (ma rfl (cy (br (i:=2) scNms.nd rfl (Or.inl rfl)) (cy (br (i:=3) scNms.nd rfl (Or.inl rfl)) jw))) (ah (bj (aq op_ne (ao (pv 3) rfl) (ay g.CONTACT_RANK rfl) rfl) (ae (bj (pt_cmp (pc_din hu (ao (pv 3) rfl) (pv 1))) (ah (jy hr.hd hdep rfl x.mflt XM (aa (ay g.NAME_TAKEN rfl) (aa (pv 2) af)))) az) (ah (ps_dput hu (pv 1) (ao (pv 3) rfl) pe_bl rfl))) az)))),?_⟩
  intro pg hpg
  refine⟨_,rfl,a,_,rfl,SqL.of ((ak.new hpg) _ _ ha),lh (K:=K) (a:=a) (xs:=as.map V.ref) (p:=2) (q:=3) (fun i σ H'=>∃(v2 v3:Option V)(kvs:List (Key×V)),σ=[some (.ref a),some (.ref pg),v2,v3]/\Lm.Good (Lm.bad4 p) p i/\ak H H'/\H' pg=some (.dK kvs)/\kvs.length<=i/\∀ n:Bytes,(valV kvs (.inr (strOf n))).isSome=decide (n∈Lm.namesOf (p.take i))) ⟨none,none,[],rfl,.zero,ak.new hpg,ac,Nat.le_refl _,fun n=>rfl⟩ (fun i σ H' _ ⟨_,_,_,_,_,s4,_⟩=>SqL.of (s4 _ _ ha)) ?_ ?_⟩
  ·rintro i y σ H4 H5 hy ⟨v2,v3,kvs,rfl,ho,s4,h4,hk,hv⟩ s5
   obtain⟨b,hb,rfl⟩:=fc hy
   obtain⟨l,hl1⟩:=gz hl hb
   have s6:=s4.trans s5
   obtain⟨dx,t,h1,h2⟩:=(hr2 i b l hb hl1).mono s6
   have h5:=s5 _ _ h4
   have il:i<p.length:=(List.getElem?_eq_some_iff.mp hl1).1
   refine⟨_,rfl,fld T.row h1 (by decide) rfl ⟨rfl,_,rfl,?_⟩⟩
   rw[show V.int 3=nI 3 from rfl,fg]
   have gn:=@Lm.gives_none l
   have ns:=Lm.namesOf_snoc (p.take i) l
   rw[<-Lm.bp hl1] at ns
   have b4:=@Lm.bad4_eq p i l
   by_cases h3:l.sort=3
   ·rw[decide_eq_true h3]
    rw[gn.mpr h3] at ns b4
    refine⟨_,_,kvs,rfl,ho.snoc fun l' hl'=>?_,s6,h5,by omega,fun n=>?_⟩
    ·rw[hl1] at hl'
     cases hl'
     exact b4
    ·rw[hv n,ns]
     simp
   ·rw[decide_eq_false h3]
    obtain⟨nm,hn⟩:∃ nm,l.gives=some nm:=by
     cases e:l.gives with
     |none=>exact absurd (gn.mp e) h3
     |some nm=>exact⟨nm,rfl⟩
    have ln:lname l=nm:=by cases l<;>simp[Rung.Line.gives] at hn<;>simp[lname,hn]
    rw[hn] at ns b4
    rw[ln] at h1
    refine⟨_,rfl,fld T.row h1 (by decide) rfl ⟨_,rfl,pg,_,rfl,lp.k (k:=.inr (strOf nm)) h5,_,rfl,?_⟩⟩
    rw[hv nm]
    by_cases hm:nm∈Lm.namesOf (p.take i)
    ·rw[decide_eq_true hm]
     have ff:Rung.firstLine p (Lm.bad4 p)=some i:=ho.some hl1 (by rw[b4];exact decide_eq_true hm)
     rw[ff] at k
     exact⟨_,rfl,_,_,rfl,k.at_ s6⟩
    ·rw[decide_eq_false hm]
     have vn:valV kvs (.inr (strOf nm))=none:=by
      have:=hv nm
      rw[decide_eq_false hm] at this
      cases e:valV kvs (.inr (strOf nm)) with
      |none=>rfl
      |some v=>rw[e] at this;cases this
     refine⟨_,rfl,_,rfl,fld T.row h1 (by decide) rfl ⟨pg,_,rfl,DPut.k (k:=.inr (strOf nm)) h5 ?_,?_⟩⟩
     ·exact Nat.lt_of_le_of_lt hk (Nat.lt_of_lt_of_le il (Nat.le_trans hlen (Nat.le_of_lt big5)))
     ·refine⟨_,_,_,rfl,ho.snoc fun l' hl'=>?_,s6.put hpg,ac,?_,fun n=>?_⟩
      ·rw[hl1] at hl'
       cases hl'
       rw[b4]
       exact decide_eq_false hm
      ·rw[putK_new _ vn];simp;omega
      ·rw[l8,ns]
       by_cases e:n=nm
       ·rw[e,if_pos rfl];simp
       ·rw[if_neg (fun q=>e (l4.mp (Sum.inr.inj q))),hv n]
        simp[e]
  ·rintro σ H4 ⟨v2,v3,kvs,rfl,ho,s4,_⟩
   rw[List.length_map,hl] at ho
   rw[ho.none] at k
   exact k H4 s4
def nw(H H':Hp):Hp:=fun b=>if H b=none then H' b else none
theorem nw_at{H H':Hp}{b:Addr}(h:H b=none):nw H H' b=H' b:=by unfold nw;rw[if_pos h]
theorem kf{H H':Hp}{b:Addr}{o:HO}(h:nw H H' b=some o):H' b=some o/\H b=none:=by
 unfold nw at h
 split at h
 ·rename_i e;exact⟨h,e⟩
 ·cases h
theorem nw_mono{H H1 H2:Hp}(s:ak H1 H2):ak (nw H H1) (nw H H2):=fun b o e=>by
 obtain⟨e1,e2⟩:=kf e
 rw[nw_at e2]
 exact s b o e1
theorem nw_base{H H1 H2:Hp}(s:ak H H1):ak (nw H1 H2) (nw H H2):=fun b o e=>by
 obtain⟨e1,e2⟩:=kf e
 rw[nw_at (s.free e2)]
 exact e1
theorem nw_put{H H':Hp}{a m:Addr}{C dx:Addr}{fs:List (Str×V)}{u o:HO}(h:nw H H' a=some (.ins C dx fs))(hm:H' m=some u)(hu:HO.ins C dx fs≠u):nw H (upd H' m o) a=some (.ins C dx fs):=by
 obtain⟨e1,e2⟩:=kf h
 rw[nw_at e2,ai (eq e1 hm hu)]
 exact e1
end
structure NewS(C:Addr)(H H':Hp)(x dx li lr ll lc ld:Addr):Prop where
 nx:H x=none
 nli:H li=none
 nlr:H lr=none
 nll:H ll=none
 nlc:H lc=none
 nld:H ld=none
 same:ak H H'
 obj:H' x=some (.ins C dx [("inputs",.ref li),("relays",.ref lr),("lamps",.ref ll),("contacts",.ref lc),("looked_at",.ref ld)])
 li':H' li=some (.lst [])
 lr':H' lr=some (.lst [])
 ll':H' ll=some (.lst [])
 lc':H' lc=some (.lst [])
 ld':H' ld=some (.dK [])
 d1:li≠lr
 d2:li≠ll
 d3:li≠lc
 d4:lr≠ll
 d5:lr≠lc
 d6:ll≠lc
def spMkS(C:Addr):Sp:=fun vs H Q _=>∃ p dx,vs=[.ref p]/\H p=some (.ins C dx [])/\∀ H' li lr ll lc ld,(∀ H0:Hp,H0 p=none->ak H0 (upd H p (.ins C dx []))->NewS C H0 H' p dx li lr ll lc ld)->Q .non H'
section
variable{P:Program}{w:World}{K:PySem.W.Frag}{mg:Str->Option Value}{base:Heap}{c:Cs}
abbrev iScheme:Stmt:=bb (top 7) 0
theorem scScheme:au ["self"] ["self"] (al iScheme):=⟨rfl,rfl,rfl,by decide +kernel,rfl,by decide +kernel,by decide +kernel⟩
theorem okScheme{C f:Addr}{fd:FuncData}(F:Fun K "__init__" "Scheme.__init__" iScheme f fd)(T:Cl K C nScheme):bq P w K mg base CX0 1 f fd ["self"] (spMkS C):=by
 refine F.ok scScheme (fun vs H Q E h=>?_) (fun cdv A outer s H vs Q E hr h=>?_)
 ·obtain⟨p,dx,rfl,_⟩:=h
  rfl
 ·obtain⟨p,dx,rfl,hp,k⟩:=h
  refine⟨_,ae (bg (pv 0) (bi af) rfl) (ae (bg (pv 0) (bi af) rfl) (ae (bg (pv 0) (bi af) rfl) (ae (bg (pv 0) (bi af) rfl) (ah (bg (pv 0) pe_dnewK rfl))))),?_⟩
  refine⟨Nat.zero_le _,fun li hli=>⟨_,rfl,p,C,dx,[],rfl,(ak.new hli) _ _ hp,T.cl,T.no _ (by decide),(by decide),?_⟩⟩
  refine⟨Nat.zero_le _,fun lr hlr=>⟨_,rfl,p,C,dx,_,rfl,(ak.new hlr) _ _ ac,T.cl,T.no _ (by decide),(by show 1<1000;decide),?_⟩⟩
  refine⟨Nat.zero_le _,fun ll hll=>⟨_,rfl,p,C,dx,_,rfl,(ak.new hll) _ _ ac,T.cl,T.no _ (by decide),(by show 2<1000;decide),?_⟩⟩
  refine⟨Nat.zero_le _,fun lc hlc=>⟨_,rfl,p,C,dx,_,rfl,(ak.new hlc) _ _ ac,T.cl,T.no _ (by decide),(by show 3<1000;decide),?_⟩⟩
  intro ld hld
  refine⟨_,rfl,p,C,dx,_,rfl,(ak.new hld) _ _ ac,T.cl,T.no _ (by decide),(by show 4<1000;decide),?_⟩
  have up:∀{G:Hp}{q:Addr}{o:HO},upd G p o q=none->q≠p/\G q=none:=fun{G q o} h=>by
   by_cases e:q=p
   ·rw[e,ac] at h;cases h
   ·rw[ai e] at h;exact⟨e,h⟩
  have uq:∀{G:Hp}{q m:Addr}{o:HO},upd G m o q=none->q≠m/\G q=none:=fun{G q m o} h=>by
   by_cases e:q=m
   ·rw[e,ac] at h;cases h
   ·rw[ai e] at h;exact⟨e,h⟩
  obtain⟨r1,hlr⟩:=up hlr
  obtain⟨r2,hlr⟩:=uq hlr
  obtain⟨a1,hll⟩:=up hll
  obtain⟨a2,hll⟩:=uq hll
  obtain⟨a3,hll⟩:=up hll
  obtain⟨a4,hll⟩:=uq hll
  obtain⟨b1,hlc⟩:=up hlc
  obtain⟨b2,hlc⟩:=uq hlc
  obtain⟨b3,hlc⟩:=up hlc
  obtain⟨b4,hlc⟩:=uq hlc
  obtain⟨b5,hlc⟩:=up hlc
  obtain⟨b6,hlc⟩:=uq hlc
  obtain⟨e1,hld⟩:=up hld
  obtain⟨e2,hld⟩:=uq hld
  obtain⟨e3,hld⟩:=up hld
  obtain⟨e4,hld⟩:=uq hld
  obtain⟨e5,hld⟩:=up hld
  obtain⟨e6,hld⟩:=uq hld
  obtain⟨e7,hld⟩:=up hld
  obtain⟨e8,hld⟩:=uq hld
  have nli:li≠p:=fun q=>by rw[q,hp] at hli;cases hli
  refine k _ li lr ll lc ld fun H0 h0 sm=>?_
  have fr:∀{q:Addr},q≠p->H q=none->H0 q=none:=fun{q} n h=>sm.free (by rw[ai n];exact h)
  refine⟨h0,fr nli hli,fr r1 hlr,fr a1 hll,fr b1 hlc,fr e1 hld,fun b o e=>?_,ac,?_,?_,?_,?_,?_,r2.symm,a4.symm,b6.symm,a2.symm,b4.symm,b2.symm⟩
  ·have hb:=sm b o e
   have nb:b≠p:=fun q=>by rw[q,h0] at e;cases e
   rw[ai nb] at hb
   rw[ai nb,ai (ap hb hld),ai nb,ai (ap hb hlc),ai nb,ai (ap hb hll),ai nb,ai (ap hb hlr),ai nb,ai (ap hb hli)]
   exact hb
  ·rw[ai nli,ai e8.symm,ai nli,ai b6.symm,ai nli,ai a4.symm,ai nli,ai r2.symm,ai nli,ac]
  ·rw[ai r1,ai e6.symm,ai r1,ai b4.symm,ai r1,ai a2.symm,ai r1,ac]
  ·rw[ai a1,ai e4.symm,ai a1,ai b2.symm,ai a1,ac]
  ·rw[ai b1,ai e2.symm,ai b1,ac]
  ·rw[ai e1,ac]
structure MkS(P:Program)(w:World)(K:W.Frag)(mg:Str->Option Value)(base:Heap)(x:Str)(C:Addr):Prop where
 ex:∃ fI fd,Mk K C fI/\bq P w K mg base CX0 1 fI fd ["self"] (spMkS C)/\mg x=some (.ref C)/\Binds K fd ["self"] []
def tMks(C:Addr):TE:=fun _ H Q=>∀ x dx H2 li lr ll lc ld,NewS C H H2 x dx li lr ll lc ld->Q (.ref x) H2
theorem pe_mks{X:Cx}{x:Str}{C:Addr}{p pos:Pos}(D:MkS X.prog X.w X.K X.mg X.base x C){j:Nat}(hr:fm j X.A)(hk:2<=j)(hg:Gl X x)(hdb:(x==("__debug__":Str))=false:=by decide):PE X (.Call (.Name x p) [] [] pos) (tMks C):=by
 obtain⟨fI,fd,M,F,hm,hb⟩:=D.ex
 refine(pe_make0 (E:=E0) M F (hr.mono hk) hg hm hb .nil cj hdb).imp fun σ H Q q=>?_
 intro y dx n1 n2 ne
 refine⟨y,dx,rfl,ac,fun H' li lr ll lc ld h=>⟨rfl,q y dx H' li lr ll lc ld (h H n1 fun b o e=>?_)⟩⟩
 rw[ai (ap e n1),ai (ap e n1),ai (ap e n2)]
 exact e
abbrev sAdd:Stmt:=top 57
def spAdd(c:Cs):Sp:=fun vs H Q _=>∃(sc pvr ar lc dx li lr ll ld:Addr)(xs:List V)(v:Nat)(cl:Bool)(n:Bytes)(a b:Nat),vs=[.ref sc,.ref pvr,.ref ar]/\H sc=some (.ins c.scheme dx [("inputs",.ref li),("relays",.ref lr),("lamps",.ref ll),("contacts",.ref lc),("looked_at",.ref ld)])/\H lc=some (.lst xs)/\xs.length<sizeLine/\lp H pvr (sv n) (some (nI v))/\k9 c H ar (.contact cl n a b)/\∀ H2 q,H q=none->ak H H2->dw c H2 q ⟨a,b,cl,v⟩->Q .non (upd H2 lc (.lst (xs++[.ref q])))
theorem scAdd:au ["scheme","variables","row"] ["scheme","variables","row"] (al sAdd):=⟨rfl,rfl,rfl,by decide +kernel,rfl,by decide +kernel,by decide +kernel⟩
theorem okAdd{f:Addr}{fd:FuncData}(F:Fun K "add_contact" "add_contact" sAdd f fd)(T:Ts K c)(M:MkD P w K mg base "Contact" c.contact gp):bq P w K mg base CX0 3 f fd ["scheme","variables","row"] (spAdd c):=by
 refine F.ok scAdd (fun vs H Q E h=>?_) (fun cdv A outer s H vs Q E hr h=>?_)
 ·obtain⟨_,_,_,_,_,_,_,_,_,_,_,_,_,_,_,rfl,_⟩:=h
  rfl
 ·obtain⟨sc,pvr,ar,lc,dx,li,lr,ll,ld,xs,v,cl,n,a,b,rfl,hs,hlc,hl,hg,⟨dr,t,h1,h2⟩,k⟩:=h
  have hu:=hu_of hr
  refine⟨_,ah (bt (g8 PySem.F.plainAttrs_list PySem.F.slot_list_append PySem.F.type_list_append cv (ao (pv 0) rfl) (aa (gg M hr (by decide) rfl (aa (bo ix_tup (ao (pv 2) rfl) aj (fun _ _=>rfl)) (aa (bo ix_tup (ao (pv 2) rfl) aj (fun _ _=>rfl)) (aa (pe_dget hu (pv 1) (ao (pv 2) rfl) (fun _ _=>rfl)) (aa (bo ix_tup (ao (pv 2) rfl) aj (fun _ _=>rfl)) af))))) af))),?_⟩
  refine⟨_,rfl,fld T.scheme hs (by decide) rfl ⟨.inl ⟨rfl,_,SqL.of hlc⟩,?_⟩⟩
  refine⟨_,rfl,fld T.row h1 (by decide) rfl ⟨t,_,_,_,rfl,rfl,SqT.of h2,bu (j:=0) rfl,?_⟩⟩
  refine⟨_,rfl,fld T.row h1 (by decide) rfl ⟨t,_,_,_,rfl,rfl,SqT.of h2,bu (j:=1) rfl,?_⟩⟩
  refine⟨_,rfl,_,rfl,fld T.row h1 (by decide) rfl ⟨pvr,_,rfl,hg,?_⟩⟩
  refine⟨_,rfl,fld T.row h1 (by decide) rfl ⟨t,_,_,_,rfl,rfl,SqT.of h2,bu (j:=2) rfl,?_⟩⟩
  refine⟨rfl,fun q dq H2 nq s2 hq=>⟨lc,_,_,rfl,rfl,s2 _ _ hlc,hl,k H2 q nq s2 ⟨dq,hq⟩⟩⟩
end
structure Bld(c:Cs)(H HB H':Hp)(li lr ll lc pvr:Addr)(p:List Line)(i:Nat):Prop where
 kp:Kept [li,lr,ll,lc,pvr] HB H'
 inp:H' li=some (.lst ((Lm.c8 (p.take i)).map sv))
 rel:∃ as:List Addr,H' lr=some (.lst (as.map V.ref))/\as.length=(Lm.cg (p.take i)).length/\∀(j:Nat)(a:Addr)(r:Rung.Relay),as[j]?=some a->(Lm.cg (p.take i))[j]?=some r->ja c (nw H H') a j r
 lam:H' ll=some (.lst ((Lm.lamOf (p.take i)).map fun l=>nI l.node))
 con:∃ bs:List Addr,H' lc=some (.lst (bs.map V.ref))/\bs.length=(Lm.ii (fun x=>(Rung.varOf p x).getD 0) (p.take i)).length/\∀(j:Nat)(a:Addr)(k:Rung.Contact),bs[j]?=some a->(Lm.ii (fun x=>(Rung.varOf p x).getD 0) (p.take i))[j]?=some k->dw c (nw H H') a k
 vars:∃ kvs:List (Key×V),H' pvr=some (.dK kvs)/\kvs.length<=i/\∀ n:Bytes,valV kvs (.inr (strOf n))=(Rung.varOf (p.take i) n).map nI
theorem Bld.same{c:Cs}{H HB H' H2:Hp}{li lr ll lc pvr:Addr}{p:List Line}{i:Nat}(B:Bld c H HB H' li lr ll lc pvr p i)(s:ak H' H2):Bld c H HB H2 li lr ll lc pvr p i:=by
 obtain⟨kp,inp,⟨as,r1,r2,r3⟩,lam,⟨bs,k1,k2,k3⟩,⟨kvs,v1,v2,v3⟩⟩:=B
 exact⟨kp.trans (s.kept _),s _ _ inp,⟨as,s _ _ r1,r2,fun j a r e1 e2=>(r3 j a r e1 e2).mono (nw_mono s)⟩,s _ _ lam,⟨bs,s _ _ k1,k2,fun j a r e1 e2=>(k3 j a r e1 e2).mono (nw_mono s)⟩,⟨kvs,s _ _ v1,v2,v3⟩⟩
theorem ja.putN{c:Cs}{H H':Hp}{a m:Addr}{j:Nat}{r:Rung.Relay}{u o:HO}(h:ja c (nw H H') a j r)(hm:H' m=some u)(hu:∀ C dx fs,HO.ins C dx fs≠u):ja c (nw H (upd H' m o)) a j r:=by
 obtain⟨dx,h⟩:=h
 exact⟨dx,nw_put h hm (hu _ _ _)⟩
theorem dw.putN{c:Cs}{H H':Hp}{a m:Addr}{r:Rung.Contact}{u o:HO}(h:dw c (nw H H') a r)(hm:H' m=some u)(hu:∀ C dx fs,HO.ins C dx fs≠u):dw c (nw H (upd H' m o)) a r:=by
 obtain⟨dx,h⟩:=h
 exact⟨dx,nw_put h hm (hu _ _ _)⟩
theorem fz{xs:List V}:∀ C dx fs,HO.ins C dx fs≠HO.lst xs:=fun C dx fs q=>by cases q
theorem noIns_dK{xs:List (Key×V)}:∀ C dx fs,HO.ins C dx fs≠HO.dK xs:=fun C dx fs q=>by cases q
theorem inp_snoc(p:List Line)(l:Line):Lm.c8 (p++[l])=Lm.c8 p++(match l with | .input y=>[y]|_=>[]):=by unfold Lm.c8;rw[List.filterMap_append];cases l<;>rfl
theorem rel_snoc(p:List Line)(l:Line):Lm.cg (p++[l])=Lm.cg p++(match l with | .relay y=>[y]|_=>[]):=by unfold Lm.cg;rw[List.filterMap_append];cases l<;>rfl
theorem lam_snoc(p:List Line)(l:Line):Lm.lamOf (p++[l])=Lm.lamOf p++(match l with | .lamp y=>[y]|_=>[]):=by unfold Lm.lamOf;rw[List.filterMap_append];cases l<;>rfl
theorem con_snoc(v:Bytes->Nat)(p:List Line)(l:Line):Lm.ii v (p++[l])=Lm.ii v p++(match l with | .contact k x a b=>[⟨a,b,k,v x⟩]|_=>[]):=by unfold Lm.ii;rw[List.filterMap_append];cases l<;>rfl
theorem fm_len{α β:Type}(f:α->Option β)(l:List α)(i n:Nat)(h:l.length<=100000):((l.take i).filterMap f).length<sizeLine:=by
 have h1:=List.length_filterMap_le f (l.take i)
 have h2:(l.take i).length<=l.length:=by rw[List.length_take];omega
 exact Nat.lt_of_le_of_lt (Nat.le_trans h1 (Nat.le_trans h2 h)) big5
def jx(c:Cs)(H H':Hp)(sc:Addr)(s:Rung.Scheme)(ld:Addr):Prop:=H sc=none/\H ld=none/\H' ld=some (.dK [])/\df c (drp [ld] (nw H H')) sc s ld
def spBuild(c:Cs):Sp:=fun vs H Q E=>∃(a:Addr)(p:List Line),vs=[.ref a]/\RowsAt c H a p/\p.length<=100000/\Rung.firstLine p (Lm.jn p)=none/\Rung.firstLine p (Lm.mo p)=none/\Rung.firstLine p (Lm.bad4 p)=none/\match Rung.firstLine p (Lm.bad5 p) with
 |some k=>f9 c E H (5,k)
 |none=>∀ H' sc ld,ak H H'->jx c H H' sc (Rung.schemeOf p) ld->Q (.ref sc) H'
section
variable{P:Program}{w:World}{K:PySem.W.Frag}{mg:Str->Option Value}{base:Heap}{c:Cs}
abbrev sBuild:Stmt:=top 58
abbrev vBuild:List Str:=["rows","scheme","variables","place","row","variable"]
theorem scBuild:au vBuild ["rows"] (al sBuild):=⟨rfl,rfl,rfl,by decide +kernel,rfl,by decide +kernel,by decide +kernel⟩
theorem okBuild{f:Addr}{fd:FuncData}(F:Fun K "build" "build" sBuild f fd)(T:Ts K c)(g:G0 mg)(x:Xs K mg c)(MS:MkS P w K mg base "Scheme" c.scheme)(MR:MkD P w K mg base "Relay" c.relay kt)(D1:Def P w K mg base CX0 1 "relay_variable" ["place"] spRelVar)(D2:Def P w K mg base CX0 3 "add_contact" ["scheme","variables","row"] (spAdd c)):bq P w K mg base (Fx P w) 4 f fd ["rows"] (spBuild c):=by
 obtain⟨fI,XM⟩:=x.flt
 refine F.okX scBuild (fun vs H Q E h=>?_) (fun cdv A outer s H vs Q E hr h=>?_)
 ·obtain⟨_,_,rfl,_⟩:=h
  rfl
 ·obtain⟨a,p,rfl,⟨as0,ha,hl,hr2⟩,hlen,f2,f3,f4,k⟩:=h
  have hdep:(A.deeper (envOfC "build" (al sBuild) s.heap.objs.size f cdv)).depth+1<recursionLimit:=by have:=hr.dp;omega
  have hu:=hu_of hr
  refine⟨_,ae (bc (i:=1) scBuild.nd rfl (Or.inl rfl) (pe_mks MS hr (by decide) rfl)) (ae (bc (i:=2) scBuild.nd rfl (Or.inl rfl) pe_dnewK) (ae (io PassesOwn.leaving rfl (pi_enum rfl g.enumerate (aa (pv 0) af)) (ma rfl (cy (br (i:=3) scBuild.nd rfl (Or.inl rfl)) (cy (br (i:=4) scBuild.nd rfl (Or.inl rfl)) jw))) (ah (bj (aq cf (ao (pv 4) rfl) (ay g.IN_RANK rfl) rfl) (ae (ps_dput hu (pv 2) (ao (pv 4) rfl) (be ax rfl g.len boot_len (aa (ao (pv 1) rfl) af)) rfl) (ah (bt (g8 PySem.F.plainAttrs_list PySem.F.slot_list_append PySem.F.type_list_append cv (ao (pv 1) rfl) (aa (ao (pv 4) rfl) af))))) (ah (bj (aq cf (ao (pv 4) rfl) (ay g.RELAY_RANK rfl) rfl) (ae (bc (i:=5) scBuild.nd rfl (Or.inl rfl) (bd D1 hr (by decide) rfl cj (aa (be ax rfl g.len boot_len (aa (ao (pv 1) rfl) af)) af))) (ae (ps_dput hu (pv 2) (ao (pv 4) rfl) (pv 5) rfl) (ah (bt (g8 PySem.F.plainAttrs_list PySem.F.slot_list_append PySem.F.type_list_append cv (ao (pv 1) rfl) (aa (gg MR hr (by decide) rfl (aa (cp op_shl aj (pv 5)) (aa (bo ix_tup (ao (pv 4) rfl) aj (fun _ _=>rfl)) (aa (bo ix_tup (ao (pv 4) rfl) aj (fun _ _=>rfl)) (aa (bo ix_tup (ao (pv 4) rfl) aj (fun _ _=>rfl)) af))))) af)))))) (ah (bj (aq cf (ao (pv 4) rfl) (ay g.LAMP_RANK rfl) rfl) (ah (bt (g8 PySem.F.plainAttrs_list PySem.F.slot_list_append PySem.F.type_list_append cv (ao (pv 1) rfl) (aa (bo ix_tup (ao (pv 4) rfl) aj (fun _ _=>rfl)) af)))) (ah (bj (pt_cmp (pc_din hu (ao (pv 4) rfl) (pv 2))) (ah (bt (bd D2 hr (by decide) rfl cj (aa (pv 1) (aa (pv 2) (aa (pv 4) af)))))) (ah (jy hr.hd hdep rfl x.mflt XM (aa (ay g.NAME_UNKNOWN rfl) (aa (pv 3) af))))))))))))) (ah (aw (pv 1))))),?_⟩
  intro sc dsc HS li lr ll lc ld N
  intro pvr hpvr
  have sA:ak HS (upd HS pvr (.dK [])):=ak.new hpvr
  have npv:H pvr=none:=N.same.free hpvr
  have nv:∀{q:Addr}{o:HO},HS q=some o->q≠pvr:=fun h=>ap h hpvr
  have hvA:upd HS pvr (.dK []) pvr=some (.dK []):=ac
  have oA:=sA _ _ N.obj
  have iA:=sA _ _ N.li'
  have rA:=sA _ _ N.lr'
  have mA:=sA _ _ N.ll'
  have cA:=sA _ _ N.lc'
  have dA:=sA _ _ N.ld'
  have sHA:ak H (upd HS pvr (.dK [])):=N.same.trans sA
  have n1:=nv N.li'
  have n2:=nv N.lr'
  have n3:=nv N.ll'
  have n4:=nv N.lc'
  have n5:=nv N.ld'
  generalize upd HS pvr (.dK [])=HB at hvA oA iA rA mA cA dA sHA
  have msn:∀ m∈[li,lr,ll,lc,pvr],H m=none:=by
   intro m hm
   simp only[List.mem_cons,List.not_mem_nil,or_false] at hm
   rcases hm with rfl|rfl|rfl|rfl|rfl
   ·exact N.nli
   ·exact N.nlr
   ·exact N.nll
   ·exact N.nlc
   ·exact npv
  have kS:∀{H':Hp},Kept [li,lr,ll,lc,pvr] HB H'->ak H H':=fun kp=>Kept.same sHA kp msn
  have kO:∀{H':Hp},Kept [li,lr,ll,lc,pvr] HB H'->H' sc=some (.ins c.scheme dsc [("inputs",.ref li),("relays",.ref lr),("lamps",.ref ll),("contacts",.ref lc),("looked_at",.ref ld)]):=fun kp=>kp _ _ oA (by
   simp only[List.mem_cons,List.not_mem_nil,or_false,not_or]
   exact⟨eq oA iA (by intro q;cases q),eq oA rA (by intro q;cases q),eq oA mA (by intro q;cases q),eq oA cA (by intro q;cases q),eq oA hvA (by intro q;cases q)⟩)
  have gd4:=Lm.good_all f4
  have srt:=Lm.sorted_of f2
  refine⟨_,rfl,a,_,rfl,SqL.of (sHA _ _ ha),lh (K:=K) (a:=a) (xs:=as0.map V.ref) (p:=3) (q:=4) (fun i σ H'=>∃(v3 v4 v5:Option V),σ=[some (.ref a),some (.ref sc),some (.ref pvr),v3,v4,v5]/\Lm.Good (Lm.bad5 p) p i/\Bld c H HB H' li lr ll lc pvr p i) ⟨none,none,none,rfl,.zero,⟨Kept.refl _ _,iA,⟨[],rA,rfl,fun j a r e=>by simp at e⟩,mA,⟨[],cA,rfl,fun j a r e=>by simp at e⟩,⟨[],hvA,Nat.le_refl _,fun n=>rfl⟩⟩⟩ (fun i σ H' _ ⟨_,_,_,_,_,B⟩=>SqL.of (kS B.kp _ _ ha)) ?_ ?_⟩
  ·rintro i y σ H4 H5 hy ⟨v3,v4,v5,rfl,ho,B⟩ s5
   have B:=B.same s5
   obtain⟨b,hb,rfl⟩:=fc hy
   obtain⟨l,hl1⟩:=gz hl hb
   have il:i<p.length:=(List.getElem?_eq_some_iff.mp hl1).1
   have tk:=Lm.bp hl1
   obtain⟨kp,inp,⟨as,r1,r2,r3⟩,lam,⟨bs,k1,k2,k3⟩,⟨kvs,v1,v2,v3'⟩⟩:=B
   have sH:=kS kp
   have hsc:=kO kp
   obtain⟨dx,t,h1,h2⟩:=(hr2 i b l hb hl1).mono sH
   have skv:kvs.length<sizeLine:=Nat.lt_of_le_of_lt v2 (Nat.lt_of_lt_of_le il (Nat.le_trans hlen (Nat.le_of_lt big5)))
   have hf:∀ y,l.gives=some y->y∉Lm.namesOf (p.take i):=fun y hy hm=>by
    have:=gd4 i l hl1
    rw[Lm.bad4_eq,hy] at this
    have this:decide (y∈Lm.namesOf (p.take i))=false:=this
    rw[decide_eq_true hm] at this
    cases this
   have vs:=fun n=>Lm.varOf_snoc (p.take i) l n hf
   rw[<-tk] at vs
   have is:=inp_snoc (p.take i) l
   have rs:=rel_snoc (p.take i) l
   have ls:=lam_snoc (p.take i) l
   have cs:=con_snoc (fun x=>(Rung.varOf p x).getD 0) (p.take i) l
   rw[<-tk] at is rs ls cs
   have bv:b≠pvr:=eq h1 v1 (by intro q;cases q)
   have scv:sc≠pvr:=eq hsc v1 (by intro q;cases q)
   refine⟨_,rfl,fld T.row h1 (by decide) rfl ⟨rfl,_,rfl,?_⟩⟩
   rw[show V.int 0=nI 0 from rfl,fg]
   cases l with
   |input n =>
    simp only[List.append_nil] at is rs ls cs vs
    refine⟨_,rfl,fld T.scheme hsc (by decide) rfl ⟨li,_,rfl,.inl (SqL.of inp),_,rfl,_,rfl,fld T.row h1 (by decide) rfl ⟨pvr,_,rfl,DPut.k (k:=.inr (strOf n)) v1 skv,?_⟩⟩⟩
    generalize ew:(j9 kvs (Sum.inr (strOf n)) (V.int ↑((Lm.c8 (p.take i)).map sv).length):List (Key×V))=kw
    have hsc2:(upd H5 pvr (.dK kw)) sc=_:=(ai scv).trans hsc
    have h12:(upd H5 pvr (.dK kw)) b=_:=(ai bv).trans h1
    have inp2:(upd H5 pvr (.dK kw)) li=_:=(ai n1).trans inp
    refine⟨_,rfl,fld T.scheme hsc2 (by decide) rfl ⟨.inl ⟨rfl,_,SqL.of inp2⟩,_,rfl,fld T.row h12 (by decide) rfl ⟨li,_,_,rfl,rfl,inp2,?_,?_⟩⟩⟩
    ·rw[List.length_map];exact fm_len _ p i 0 hlen
    ·have vl:((upd (upd H5 pvr (.dK kw)) li (.lst ((Lm.c8 (p.take i)).map sv++[sv n])))) pvr=some (.dK kw):=by rw[ai n1.symm,ac]
     refine⟨_,_,_,rfl,ho.snoc fun l' hl'=>?_,⟨(kp.trans (Kept.upd (by simp))).trans (Kept.upd (by simp)),?_,⟨as,?_,?_,fun j a r e1 e2=>?_⟩,?_,⟨bs,?_,?_,fun j a r e1 e2=>?_⟩,⟨kw,vl,?_,fun m=>?_⟩⟩⟩
     ·rw[hl1] at hl';cases hl';rfl
     ·rw[ac,is,List.map_append];rfl
     ·rw[ai N.d1.symm,ai n2];exact r1
     ·rw[rs];exact r2
     ·rw[rs] at e2
      exact((r3 j a r e1 e2).putN v1 noIns_dK).putN inp2 fz
     ·rw[ai N.d2.symm,ai n3,ls];exact lam
     ·rw[ai N.d3.symm,ai n4];exact k1
     ·rw[cs];exact k2
     ·rw[cs] at e2
      exact((k3 j a r e1 e2).putN v1 noIns_dK).putN inp2 fz
     ·rw[<-ew]
      have:=jg kvs (.inr (strOf n)) (V.int ↑((Lm.c8 (p.take i)).map sv).length)
      omega
     ·rw[<-ew,l8,vs m]
      by_cases e:m=n
      ·rw[e,if_pos rfl,if_pos rfl,List.length_map];rfl
      ·rw[if_neg (fun q=>e (l4.mp (Sum.inr.inj q))),if_neg e];exact v3' m
   |relay r =>
    simp only[List.append_nil] at is rs ls cs vs
    refine⟨_,rfl,fld T.row h1 (by decide) rfl ⟨rfl,_,rfl,?_⟩⟩
    rw[show V.int 1=nI 1 from rfl,fg]
    refine⟨_,rfl,fld T.scheme hsc (by decide) rfl ⟨lr,_,rfl,.inl (SqL.of r1),_,rfl,?_⟩⟩
    have alen:(as.map V.ref).length=(Lm.cg (p.take i)).length:=by rw[List.length_map];exact r2
    rw[alen]
    have rmax:(Lm.cg (p.take i)).length<100001:=by
     have h1:=List.length_filterMap_le (fun(l:Line)=>match l with | .relay r=>some r|_=>none) (p.take i)
     have h2:(p.take i).length<=p.length:=by rw[List.length_take];omega
     have h3:(Lm.cg (p.take i)).length<=(p.take i).length:=h1
     omega
    refine⟨_,rfl,_,rfl,_,rfl,fld T.row h1 (by decide) rfl ⟨pvr,_,rfl,DPut.k (k:=.inr (strOf r.name)) v1 skv,?_⟩⟩
    generalize ew:(j9 kvs (Sum.inr (strOf r.name)) (V.int (16+↑(Lm.cg (p.take i)).length)):List (Key×V))=kw
    have hsc2:(upd H5 pvr (.dK kw)) sc=_:=(ai scv).trans hsc
    have h12:(upd H5 pvr (.dK kw)) b=_:=(ai bv).trans h1
    have tv:t≠pvr:=eq h2 v1 (by intro q;cases q)
    have h22:(upd H5 pvr (.dK kw)) t=_:=(ai tv).trans h2
    have r12:(upd H5 pvr (.dK kw)) lr=_:=(ai n2).trans r1
    refine⟨_,rfl,fld T.scheme hsc2 (by decide) rfl ⟨.inl ⟨rfl,_,SqL.of r12⟩,_,rfl,_,_,rfl,rfl,⟨by omega,by omega,by decide⟩,?_⟩⟩
    refine⟨_,rfl,fld T.row h12 (by decide) rfl ⟨t,_,_,_,rfl,rfl,SqT.of h22,bu (j:=0) rfl,?_⟩⟩
    refine⟨_,rfl,fld T.row h12 (by decide) rfl ⟨t,_,_,_,rfl,rfl,SqT.of h22,bu (j:=1) rfl,?_⟩⟩
    refine⟨_,rfl,fld T.row h12 (by decide) rfl ⟨t,_,_,_,rfl,rfl,SqT.of h22,bu (j:=2) rfl,?_⟩⟩
    refine⟨rfl,fun q dq H6 nq s6 hq=>⟨lr,_,_,rfl,rfl,s6 _ _ r12,?_,?_⟩⟩
    ·rw[alen];exact Nat.lt_of_lt_of_le rmax big5
    ·have v6:=s6 _ _ (ac (H:=H5) (a:=pvr) (o:=.dK kw))
     have r16:=s6 _ _ r12
     have hqq:ja c (nw H H6) q (Lm.cg (p.take i)).length r:=by
      refine⟨dq,?_⟩
      have nq0:H q=none:=sH.free (by rw[ai] at nq;exact nq;intro z;rw[z,ac] at nq;cases nq)
      rw[nw_at nq0,hq]
      have e1:(1:Int) * 2 ^ ((16+((Lm.cg (p.take i)).length:Int)).toNat)=((2 ^ (16+(Lm.cg (p.take i)).length):Nat):Int):=by
       rw[show(16+((Lm.cg (p.take i)).length:Int))=((16+(Lm.cg (p.take i)).length:Nat):Int) by omega,shl_one]
      show some (HO.ins c.relay dq [(_,V.int (1 * 2 ^ ((16+((Lm.cg (p.take i)).length:Int)).toNat))),_,_,_])=_
      rw[e1]
     refine⟨_,_,_,rfl,ho.snoc fun l' hl'=>?_,⟨((kp.trans (Kept.upd (by simp))).trans (s6.kept _)).trans (Kept.upd (by simp)),?_,⟨as++[q],?_,?_,fun j a r' e1 e2=>?_⟩,?_,⟨bs,?_,?_,fun j a r e1 e2=>?_⟩,⟨kw,?_,?_,fun m=>?_⟩⟩⟩
     ·rw[hl1] at hl';cases hl';rfl
     ·rw[ai N.d1,is];exact s6 _ _ ((ai n1).trans inp)
     ·rw[ac,List.map_append];rfl
     ·rw[rs,List.length_append,List.length_append,r2];rfl
     ·rw[rs] at e2
      rw[List.getElem?_append] at e1 e2
      rw[r2] at e1
      by_cases hj:j<(Lm.cg (p.take i)).length
      ·rw[if_pos hj] at e1 e2
       exact(((r3 j a r' e1 e2).putN v1 noIns_dK).mono (nw_mono s6)).putN r16 fz
      ·rw[if_neg hj] at e1 e2
       have j0:j-(Lm.cg (p.take i)).length=0:=by
        have:=(List.getElem?_eq_some_iff.mp e1).1
        simp at this
        omega
       have jj:j=(Lm.cg (p.take i)).length:=by omega
       have m1:=List.mem_singleton.mp (List.mem_of_getElem? e1)
       have m2:=List.mem_singleton.mp (List.mem_of_getElem? e2)
       rw[m1,m2,jj]
       exact hqq.putN r16 fz
     ·rw[ai N.d4.symm,ls];exact s6 _ _ ((ai n3).trans lam)
     ·rw[ai N.d5.symm];exact s6 _ _ ((ai n4).trans k1)
     ·rw[cs];exact k2
     ·rw[cs] at e2
      exact(((k3 j a r e1 e2).putN v1 noIns_dK).mono (nw_mono s6)).putN r16 fz
     ·rw[ai n2.symm];exact v6
     ·rw[<-ew]
      have:=jg kvs (.inr (strOf r.name)) (V.int (16+↑(Lm.cg (p.take i)).length))
      omega
     ·rw[<-ew,l8,vs m]
      by_cases e:m=r.name
      ·rw[e,if_pos rfl,if_pos rfl]
       show some (V.int _)=some (V.int _)
       congr 2
      ·rw[if_neg (fun q=>e (l4.mp (Sum.inr.inj q))),if_neg e];exact v3' m
   |lamp m =>
    simp only[List.append_nil] at is rs ls cs vs
    refine⟨_,rfl,fld T.row h1 (by decide) rfl ⟨rfl,_,rfl,?_⟩⟩
    rw[show V.int 1=nI 1 from rfl,fg]
    refine⟨_,rfl,fld T.row h1 (by decide) rfl ⟨rfl,_,rfl,?_⟩⟩
    rw[show V.int 2=nI 2 from rfl,fg]
    refine⟨_,rfl,fld T.scheme hsc (by decide) rfl ⟨.inl ⟨rfl,_,SqL.of lam⟩,_,rfl,fld T.row h1 (by decide) rfl ⟨t,_,_,_,rfl,rfl,SqT.of h2,bu (j:=0) rfl,ll,_,_,rfl,rfl,lam,?_,?_⟩⟩⟩
    ·rw[List.length_map];exact fm_len _ p i 0 hlen
    ·refine⟨_,_,_,rfl,ho.snoc fun l' hl'=>?_,⟨kp.trans (Kept.upd (by simp)),?_,⟨as,?_,?_,fun j a r e1 e2=>?_⟩,?_,⟨bs,?_,?_,fun j a r e1 e2=>?_⟩,⟨kvs,?_,by omega,fun n=>?_⟩⟩⟩
     ·rw[hl1] at hl';cases hl';rfl
     ·rw[ai N.d2,is];exact inp
     ·rw[ai N.d4];exact r1
     ·rw[rs];exact r2
     ·rw[rs] at e2
      exact(r3 j a r e1 e2).putN lam fz
     ·rw[ac,ls,List.map_append];rfl
     ·rw[ai N.d6.symm];exact k1
     ·rw[cs];exact k2
     ·rw[cs] at e2
      exact(k3 j a r e1 e2).putN lam fz
     ·rw[ai n3.symm];exact v1
     ·rw[vs n];exact v3' n
   |contact cl n ca cb =>
    simp only[List.append_nil] at is rs ls cs vs
    have vt:=Lm.varOf_tail srt hl1 n
    refine⟨_,rfl,fld T.row h1 (by decide) rfl ⟨rfl,_,rfl,?_⟩⟩
    rw[show V.int 1=nI 1 from rfl,fg]
    refine⟨_,rfl,fld T.row h1 (by decide) rfl ⟨rfl,_,rfl,?_⟩⟩
    rw[show V.int 2=nI 2 from rfl,fg]
    refine⟨_,rfl,fld T.row h1 (by decide) rfl ⟨_,rfl,pvr,_,rfl,lp.k (k:=.inr (strOf n)) v1,_,rfl,?_⟩⟩
    rw[v3' n,<-vt]
    cases e:Rung.varOf p n with
    |none =>
     have ff:Rung.firstLine p (Lm.bad5 p)=some i:=ho.some hl1 (by show(Rung.varOf p n).isNone=true;rw[e];rfl)
     rw[ff] at k
     exact⟨_,rfl,_,_,rfl,k.at_ sH⟩
    |some v =>
     have dg:lp H5 pvr (sv n) (some (nI v)):=by
      have:=lp.k (k:=.inr (strOf n)) v1
      rw[v3' n,<-vt,e] at this
      exact this
     refine⟨_,rfl,_,rfl,_,rfl,sc,pvr,b,lc,dsc,li,lr,ll,ld,_,v,cl,n,ca,cb,rfl,hsc,k1,?_,dg,⟨dx,t,h1,h2⟩,fun H6 q nq s6 hq=>?_⟩
     ·rw[List.length_map,k2];exact fm_len _ p i 0 hlen
     ·have k16:=s6 _ _ k1
      have nq0:=sH.free nq
      have hqq:dw c (nw H H6) q ⟨ca,cb,cl,v⟩:=by
       obtain⟨dq,hq⟩:=hq
       exact⟨dq,by rw[nw_at nq0];exact hq⟩
      have ve:(Rung.varOf p n).getD 0=v:=by rw[e];rfl
      simp only[ve] at cs
      refine⟨_,_,_,rfl,ho.snoc fun l' hl'=>?_,⟨(kp.trans (s6.kept _)).trans (Kept.upd (by simp)),?_,⟨as,?_,?_,fun j a r e1 e2=>?_⟩,?_,⟨bs++[q],?_,?_,fun j a r e1 e2=>?_⟩,⟨kvs,?_,by omega,fun n=>?_⟩⟩⟩
      ·rw[hl1] at hl';cases hl';show(Rung.varOf p n).isNone=false;rw[e];rfl
      ·rw[ai N.d3,is];exact s6 _ _ inp
      ·rw[ai N.d5];exact s6 _ _ r1
      ·rw[rs];exact r2
      ·rw[rs] at e2
       exact((r3 j a r e1 e2).mono (nw_mono s6)).putN k16 fz
      ·rw[ai N.d6,ls];exact s6 _ _ lam
      ·rw[ac,List.map_append];rfl
      ·rw[cs,List.length_append,List.length_append,k2];rfl
      ·rw[cs] at e2
       rw[List.getElem?_append] at e1 e2
       rw[k2] at e1
       by_cases hj:j<(Lm.ii (fun x=>(Rung.varOf p x).getD 0) (p.take i)).length
       ·rw[if_pos hj] at e1 e2
        exact((k3 j a r e1 e2).mono (nw_mono s6)).putN k16 fz
       ·rw[if_neg hj] at e1 e2
        have m1:=List.mem_singleton.mp (List.mem_of_getElem? e1)
        have m2:=List.mem_singleton.mp (List.mem_of_getElem? e2)
        rw[m1,m2]
        exact hqq.putN k16 fz
      ·rw[ai n4.symm];exact s6 _ _ v1
      ·rw[vs n];exact v3' n
  ·rintro σ H4 ⟨v3,v4,v5,rfl,ho,B⟩
   rw[List.length_map,hl] at ho B
   rw[ho.none] at k
   obtain⟨kp,inp,⟨as,r1,r2,r3⟩,lam,⟨bs,k1,k2,k3⟩,_⟩:=B
   rw[List.take_length] at inp r2 r3 lam k2 k3
   have hd4:=kp _ _ dA (by
    simp only[List.mem_cons,List.not_mem_nil,or_false,not_or]
    exact⟨eq dA iA (by intro q;cases q),eq dA rA (by intro q;cases q),eq dA mA (by intro q;cases q),eq dA cA (by intro q;cases q),n5⟩)
   have hsc:=kO kp
   have up:∀{q:Addr}{o:HO},H q=none->H4 q=some o->(∀ kvs,o≠.dK kvs)->drp [ld] (nw H H4) q=some o:=fun{q o} h1 h2 h3=>by
    rw[ip,nw_at h1]
    ·exact h2
    ·simp only[List.mem_singleton]
     exact eq h2 hd4 (h3 _)
   have mv:∀{q C dx:Addr}{fs:List (Str×V)},nw H H4 q=some (.ins C dx fs)->drp [ld] (nw H H4) q=some (.ins C dx fs):=fun{q C dx fs} h=>up (kf h).2 (kf h).1 (fun _ z=>by cases z)
   refine⟨_,rfl,k H4 sc ld (kS kp) ⟨N.nx,N.nld,hd4,dsc,li,lr,ll,lc,up N.nx hsc (fun _ z=>by cases z),?_⟩⟩
   rw[Lm.gw]
   refine⟨up N.nli inp (fun _ z=>by cases z),⟨as,up N.nlr r1 (fun _ z=>by cases z),r2,fun j a r e1 e2=>?_⟩,up N.nll lam (fun _ z=>by cases z),⟨bs,up N.nlc k1 (fun _ z=>by cases z),k2,fun j a r e1 e2=>?_⟩⟩
   ·obtain⟨d,h⟩:=r3 j a r e1 e2
    exact⟨d,mv h⟩
   ·obtain⟨d,h⟩:=k3 j a r e1 e2
    exact⟨d,mv h⟩
theorem f9.mono{c:Cs}{E:XK}{H H1:Hp}{f:Nat×Nat}(h:f9 c E H f)(s:ak H H1):f9 c E H1 f:=fun H' dx s' hd=>h H' dx (s.trans s') hd
end
theorem jx.base{c:Cs}{H H1 H':Hp}{sc ld:Addr}{z:Rung.Scheme}(h:jx c H1 H' sc z ld)(s:ak H H1):jx c H H' sc z ld:=by
 obtain⟨h1,h2,h3,h4⟩:=h
 exact⟨s.free h1,s.free h2,h3,h4.mono ((nw_base s).drp _)⟩
theorem all_len{α:Type}:∀(l:List (Option α))(p:List α)(k:Nat),Rung.all l k=.ok p->p.length=l.length
 | [],p,k,h=>by cases h;rfl
 |none::l,p,k,h=>by cases h
 |some x::l,p,k,h=>by
  unfold Rung.all at h
  cases e:Rung.all l (k+1) with
  |ok q =>
   rw[e] at h
   cases h
   have:=all_len l q (k+1) e
   simp[this]
  |error j=>rw[e] at h;cases h
theorem lines_len(t:Bytes):(Lm.ia t).length<=t.length+1:=by
 obtain⟨init,last,h1,_⟩:=Lm.ib t
 have hc:=jk (d:=10) t
 rw[Lm.j4 h1,List.length_append,List.length_map]
 rw[h1,List.length_append] at hc
 split<;>simp at hc ⊢<;>omega
section
variable{P:Program}{w:World}{K:PySem.W.Frag}{mg:Str->Option Value}{base:Heap}{c:Cs}
abbrev sRdS:Stmt:=top 59
def spRdS(c:Cs):Sp:=fun vs H Q E=>∃(t:Bytes),vs=[sv t]/\t.length<=50000/\match Rung.readText t with
 |.error f=>f9 c E H f
 |.ok s=>∀ H' sc ld,ak H H'->jx c H H' sc s ld->Q (.ref sc) H'
structure Rdr3(P:Program)(w:World)(K:W.Frag)(mg:Str->Option Value)(base:Heap)(c:Cs):Prop where
 r:Def P w K mg base (Fx P w) 5 "read_rows" ["signs"] (spRows c)
 o:Def P w K mg base (Fx P w) 2 "check_order" ["rows"] (spChk c 2 Lm.jn)
 k:Def P w K mg base (Fx P w) 2 "check_counts" ["rows"] (spChk c 3 Lm.mo)
 n:Def P w K mg base (Fx P w) 2 "check_names" ["rows"] (spChk c 4 Lm.bad4)
 b:Def P w K mg base (Fx P w) 4 "build" ["rows"] (spBuild c)
theorem scRdS:au ["signs","rows"] ["signs"] (al sRdS):=⟨rfl,rfl,rfl,by decide +kernel,rfl,by decide +kernel,by decide +kernel⟩
theorem okRdS{f:Addr}{fd:FuncData}(F:Fun K "read_scheme" "read_scheme" sRdS f fd)(R:Rdr3 P w K mg base c):bq P w K mg base (Fx P w) 6 f fd ["signs"] (spRdS c):=by
 refine F.okX scRdS (fun vs H Q E h=>?_) (fun cdv A outer s H vs Q E hr h=>?_)
 ·obtain⟨_,rfl,_⟩:=h
  rfl
 ·obtain⟨t,rfl,ht,k⟩:=h
  refine⟨_,ae (bc (i:=1) scRdS.nd rfl (Or.inl rfl) (bd R.r hr (by decide) rfl dj (aa (pv 0) af))) (ae (bt (bd R.o hr (by decide) rfl dj (aa (pv 1) af))) (ae (bt (bd R.k hr (by decide) rfl dj (aa (pv 1) af))) (ae (bt (bd R.n hr (by decide) rfl dj (aa (pv 1) af))) (ah (aw (bd R.b hr (by decide) rfl dj (aa (pv 1) af))))))),?_⟩
  rw[Lm.kj] at k
  refine⟨_,rfl,t,rfl,by omega,?_⟩
  cases e1:Rung.all (Lm.ia t) 0 with
  |error j=>rw[e1] at k;exact k
  |ok p =>
   rw[e1] at k
   have plen:p.length<=100000:=by have:=all_len _ _ _ e1;have:=lines_len t;omega
   intro H1 a s1 hR
   refine⟨_,rfl,a,p,rfl,hR,plen,?_⟩
   cases e2:Rung.firstLine p (Lm.jn p) with
   |some j =>
    have k:f9 c E H (2,j):=by
     have:=Lm.fault2 e2
     simp only[this] at k
     exact k
    exact k.mono s1
   |none =>
    intro H2 s2
    refine⟨_,rfl,a,p,rfl,hR.mono s2,plen,?_⟩
    cases e3:Rung.firstLine p (Lm.mo p) with
    |some j =>
     have k:f9 c E H (3,j):=by
      have:=Lm.fault3 e2 e3
      simp only[this] at k
      exact k
     exact k.mono (s1.trans s2)
    |none =>
     intro H3 s3
     refine⟨_,rfl,a,p,rfl,(hR.mono s2).mono s3,plen,?_⟩
     cases e4:Rung.firstLine p (Lm.bad4 p) with
     |some j =>
      have k:f9 c E H (4,j):=by
       have:=Lm.fault4 e2 e3 e4
       simp only[this] at k
       exact k
      exact k.mono ((s1.trans s2).trans s3)
     |none =>
      intro H4 s4
      have sA:=((s1.trans s2).trans s3).trans s4
      refine⟨_,rfl,a,p,rfl,((hR.mono s2).mono s3).mono s4,plen,e2,e3,e4,?_⟩
      cases e5:Rung.firstLine p (Lm.bad5 p) with
      |some j =>
       have k:f9 c E H (5,j):=by
        have:=Lm.fault5 e2 e3 e4 e5
        simp only[this] at k
        exact k
       exact k.mono sA
      |none =>
       have k:∀ H' sc ld,ak H H'->jx c H H' sc (Rung.schemeOf p) ld->Q (.ref sc) H':=by
        have:=Lm.fault0 e2 e3 e4 e5
        simp only[this] at k
        exact k
       exact fun H' sc ld s' hn=>k H' sc ld (sA.trans s') (hn.base sA)
def tab:Str:=("abcdefghijklmnopqrstuvwxyz":Str)++("0123456789":Str)++(" \n":Str)
theorem tab_eq:tab.cps.toList=[97,98,99,100,101,102,103,104,105,106,107,108,109,110,111,112,113,114,115,116,117,118,119,120,121,122,48,49,50,51,52,53,54,55,56,57,32,10]:=by decide +kernel
theorem tab_known(d:UInt8):decide (d.toNat∈tab.cps.toList)=Lm.eh d:=by
 rw[tab_eq]
 have h:∀ n:Fin 256,decide (n.1∈[97,98,99,100,101,102,103,104,105,106,107,108,109,110,111,112,113,114,115,116,117,118,119,120,121,122,48,49,50,51,52,53,54,55,56,57,32,10])=Lm.eh (UInt8.ofNat n.1):=by decide +kernel
 have q:=h ⟨d.toNat,d.toNat_lt⟩
 rw[UInt8.ofNat_toNat] at q
 exact q
theorem ones_sum:∀(ns:List Int)(h:Int->UInt8),((((ns.map fun n=>[h n]).map strOf).map (·.length))).sum=ns.length
 | [],_=>rfl
 |n::r,h=>by
  rw[List.map_cons,List.map_cons,List.map_cons,List.sum_cons,ones_sum r h,bf]
  simp
  omega
theorem ones_flat:∀(ns:List Int)(h:Int->UInt8),(ns.map fun n=>[h n]).flatten=ns.map h
 | [],_=>rfl
 |n::r,h=>by
  rw[List.map_cons,List.flatten_cons,ones_flat r h]
  rfl
abbrev sSigns:Stmt:=top 43
def spSigns(K:W.Frag):Sp:=fun vs H Q _=>∃(a:Addr)(ns:List Int),vs=[.ref a]/\SqL K H a (ns.map V.int)/\ns.length<=100000/\(∀ n∈ns,0<=n/\n<=255)/\∀ H',ak H H'->Q (sv (Lm.nm (Lm.bytesOf ns))) H'
abbrev vSigns:List Str:=["text","known","sign","byte"]
theorem scSigns:au vSigns ["text"] (al sSigns):=⟨rfl,rfl,rfl,by decide +kernel,rfl,by decide +kernel,by decide +kernel⟩
theorem byte_of{n:Int}(h:0<=n/\n<=255):((UInt8.ofNat n.toNat).toNat:Int)=n:=by
 rw[UInt8.toNat_ofNat'];omega
theorem okSigns{f:Addr}{fd:FuncData}(F:Fun K "signs_of" "signs_of" sSigns f fd)(g:G0 mg):bq P w K mg base CX0 2 f fd ["text"] (spSigns K):=by
 refine F.ok scSigns (fun vs H Q E h=>?_) (fun cdv A outer s H vs Q E hr h=>?_)
 ·obtain⟨_,_,rfl,_⟩:=h
  rfl
 ·obtain⟨a,ns,rfl,ha,hl,hn,k⟩:=h
  have hu:=hu_of hr
  refine⟨_,ae (bc (i:=1) scSigns.nd rfl (Or.inr rfl) pe_dnewK) (ae (io PassesOwn.never rfl (pi_str (cp mq (cp mq (ay g.LETTERS rfl) (ay g.DIGITS rfl)) ci)) (br (i:=2) scSigns.nd rfl (Or.inl rfl)) (ah (ps_dput hu (pv 1) (be call_ord rfl g.ord boot_ord (aa (pv 2) af)) (pv 2) rfl))) (ah (aw (pe_join ci (pe_lc (own:=[("byte",3)]) rfl scSigns.nd (mn (pv 0)) (gk (by show blkC vSigns (al sSigns) _ _=true;decide +kernel))
    (fun _ _ _ _ _=>br (i:=3) scSigns.nd rfl (Or.inl rfl)) (fun _ _ _ _ _=>jr) (fun _ _ _ _ _=>pe_dget2 hu (pv 1) (pv 3) (ay g.NO_SIGN rfl) ⟨rfl,rfl,rfl,rfl⟩)))))),?_⟩
  intro pk hpk
  have sA:ak H (upd H pk (.dK [])):=ak.new hpk
  refine⟨_,_,rfl,rfl,by decide,_,_,rfl,rfl,by decide,tab,rfl,for_str (z:=tab) (fun i σ H'=>∃(v2 v3:Option V)(kvs:List (Key×V)),σ=[some (.ref a),some (.ref pk),v2,v3]/\ak H H'/\H' pk=some (.dK kvs)/\kvs.length<=i/\∀ n:Nat,valV kvs (.inl (n:Int))=if n∈tab.cps.toList.take i then some (.str ⟨#[n]⟩) else none) ⟨none,none,[],rfl,sA,ac,Nat.le_refl _,fun n=>by simp[valV_nil]⟩ ?_ ?_⟩
  ·rintro i n σ H4 hy ⟨v2,v3,kvs,rfl,s4,h4,hk,hv⟩
   have il:i<38:=by have:=(List.getElem?_eq_some_iff.mp hy).1;rw[tab_eq] at this;exact this
   refine⟨_,rfl,_,rfl,_,rfl,_,rfl,rfl,pk,_,rfl,DPut.k (k:=.inl (n:Int)) h4 (bw (by omega)),?_⟩
   refine⟨_,_,_,rfl,s4.put hpk,ac,?_,fun m=>?_⟩
   ·have:=jg kvs (.inl (n:Int)) (.str ⟨#[n]⟩)
    omega
   ·rw[l8,Lm.bp hy]
    by_cases e:m=n
    ·rw[e,if_pos rfl,if_pos (by simp)]
    ·rw[if_neg (fun q=>e (by have:=Sum.inl.inj q;omega)),hv m]
     simp[e]
  ·rintro σ H4 ⟨v2,v3,kvs,rfl,s4,h4,hk,hv⟩
   rw[List.take_length] at hv
   refine⟨⟨_,rfl⟩,_,rfl,a,rfl,⟨_,s4.seq ha⟩,fun D hD=>lc_list (K:=K) (a:=a) (xs:=ns.map V.int) (Qd:=_) (fun i H'=>ak H4 H'/\H' D=some (.lst (((ns.take i).map fun n=>[Lm.norm (UInt8.ofNat n.toNat)]).map sv))) ⟨ak.new hD,ac⟩ (fun i H' _ ⟨s5,_⟩=>(s4.trans s5).seq ha) ?_ ?_⟩
   ·rintro i y H5 hy ⟨s5,h5⟩
    obtain⟨n,hn1,rfl⟩:=fc hy
    have il:i<ns.length:=(List.getElem?_eq_some_iff.mp hn1).1
    have nb:=hn n (List.mem_of_getElem? hn1)
    have e0:=byte_of nb
    have tk:=tab_known (UInt8.ofNat n.toNat)
    have hv':=hv (UInt8.ofNat n.toNat).toNat
    rw[e0] at hv'
    refine⟨rfl,_,rfl,pk,rfl,.inl ⟨kvs,.inl (s5 _ _ h4)⟩,_,rfl,_,lp.k (k:=.inl n) (s5 _ _ h4),_,h5,?_,s5.put hD,?_⟩
    ·rw[List.length_map,List.length_map,List.length_take]
     exact Nat.lt_of_le_of_lt (Nat.min_le_left _ _) (Nat.lt_of_lt_of_le il (Nat.le_trans hl (Nat.le_of_lt big5)))
    ·rw[ac,Lm.bp hn1,List.map_append,List.map_append,hv']
     congr 3
     show [_]=[_]
     congr 1
     show _=sv [Lm.norm (UInt8.ofNat n.toNat)]
     unfold Lm.norm
     rw[<-tk]
     by_cases e:(UInt8.ofNat n.toNat).toNat∈tab.cps.toList
     ·rw[if_pos e,if_pos (decide_eq_true e)];rfl
     ·rw[if_neg e,decide_eq_false e,if_neg (by decide)]
      exact congrArg V.str lit_no
   ·rintro H5 ⟨s5,h5⟩
    rw[List.length_map,List.take_length,<-map_sv] at h5
    refine⟨strOf [],D,_,congrArg V.str lit_nil,rfl,.inl (SqL.of h5),?_,?_⟩
    ·rw[bf]
     rw[ones_sum]
     show _+_ * 0<=_
     rw[Nat.mul_zero]
     exact Nat.le_trans hl (by decide)
    ·rw[join_strOf]
     have:(ns.map fun n=>[Lm.norm (UInt8.ofNat n.toNat)]).flatten=Lm.nm (Lm.bytesOf ns):=by
      unfold Lm.nm Lm.bytesOf
      rw[List.map_map,ones_flat]
      rfl
     rw[this]
     exact k H5 (s4.trans s5)
def ScoreAt(c:Cs)(G:Hp)(a:Addr)(txt:Bytes)(things:List Bytes)(first:Nat):Prop:=∃ dx lt,G a=some (.ins c.score dx [("scheme_text",sv txt),("things",.ref lt),("first",nI first)])/\G lt=some (.lst (things.map sv))
def ThingAt(c:Cs)(G:Hp)(a:Addr)(wd n:Bytes)(t:Nat):Prop:=∃ dx,G a=some (.ins c.thing dx [("word",sv wd),("name",sv n),("ticks",nI t)])
theorem empty_strOf:Str.empty=strOf []:=TL.ext_tl (by decide +kernel)
theorem cut_to(P:List Bytes)(k:Nat):nj (P.map sv) none (some (k:Int))=(P.take k).map sv:=by
 unfold nj
 rw[HT.sIx_nat,HT.sIx_none,List.map_take,List.drop_zero,Nat.sub_zero]
 generalize P.map sv=xs
 by_cases h:k<=xs.length
 ·rw[Nat.min_eq_left h]
 ·rw[Nat.min_eq_right (by omega),List.take_of_length_le (Nat.le_refl _),List.take_of_length_le (by omega)]
theorem flat_len(l:List Bytes):((l.map fun b=>b++[10]).map List.length).sum=(Lm.d9 l).length:=by
 induction l with
 |nil=>rfl
 |cons b r ih =>
  rw[List.map_cons,List.map_cons,List.sum_cons,ih]
  show _=((b++[10])++Lm.d9 r).length
  rw[List.length_append (as:=b++[10])]
theorem flat_flatten(l:List Bytes):(l.map fun b=>b++[10]).flatten=Lm.d9 l:=by
 unfold Lm.d9
 rw[List.flatMap_def]
theorem flat_take_le(l:List Bytes)(k:Nat):(Lm.d9 (l.take k)).length<=(Lm.d9 l).length:=by
 have:Lm.d9 l=Lm.d9 (l.take k)++Lm.d9 (l.drop k):=by
  unfold Lm.d9
  rw[<-List.flatMap_append,List.take_append_drop]
 rw[this,List.length_append]
 omega
abbrev sLine:Stmt:=top 67
def spLine:Sp:=fun vs H Q _=>∃(wd t:Bytes)(x:V),vs=[sv wd,x]/\FmtOk x (strOf t)/\wd.length+t.length<=1000/\Q (sv (wd++(32::t)++[10])) H
theorem scLine:au ["word","what"] ["word","what"] (al sLine):=⟨rfl,rfl,rfl,by decide +kernel,rfl,by decide +kernel,by decide +kernel⟩
theorem okLine{f:Addr}{fd:FuncData}(F:Fun K "thing_line" "thing_line" sLine f fd):bq P w K mg base CX0 1 f fd ["word","what"] spLine:=by
 refine F.ok scLine (fun vs H Q E h=>?_) (fun cdv A outer s H vs Q E hr h=>?_)
 ·obtain⟨_,_,_,rfl,_⟩:=h
  rfl
 ·obtain⟨wd,t,x,rfl,hf,hl,k⟩:=h
  refine⟨_,ah (aw (pe_joined (pj_cons (pe_fmt (pv 0)) (pj_cons ci (pj_cons (pe_fmt (pv 1)) (pj_cons ci pj_nil)))))),?_⟩
  have e0:Str.empty++strOf wd=strOf wd:=by rw[empty_strOf,<-d7];rfl
  have e1:Str.empty++strOf wd++(" ":Str)=strOf (wd++[32]):=by rw[e0,lit_sp,<-d7]
  have e2:Str.empty++strOf wd++(" ":Str)++strOf t=strOf (wd++[32]++t):=by rw[e1,<-d7]
  have e3:Str.empty++strOf wd++(" ":Str)++strOf t++("\n":Str)=strOf (wd++[32]++t++[10]):=by rw[e2,lit_nl,<-d7]
  refine⟨_,rfl,_,.inl ⟨rfl,by rw[bf];exact Nat.le_of_lt (bw (by omega))⟩,_,rfl,?_,?_⟩
  ·rw[e0,bf];exact Nat.le_of_lt (bw (by omega))
  refine⟨_,rfl,?_,?_⟩
  ·rw[e1,bf];exact Nat.le_trans (by simp;omega:(wd++[32]).length<=1001) (by decide)
  refine⟨_,rfl,_,hf,_,rfl,?_,?_⟩
  ·rw[e2,bf];exact Nat.le_trans (by simp;omega:(wd++[32]++t).length<=1001) (by decide)
  refine⟨_,rfl,?_,?_,?_⟩
  ·rw[e3,bf];exact Nat.le_trans (by simp;omega:(wd++[32]++t++[10]).length<=1002) (by decide)
  ·rw[e3,bf];exact Nat.le_trans (by simp;omega:(wd++[32]++t++[10]).length<=1002) (by decide)
  ·rw[e3]
   have:wd++[32]++t++[10]=wd++(32::t)++[10]:=by simp
   rw[this]
   exact k
abbrev sBeg:Stmt:=top 68
def spBeg:Sp:=fun vs H Q _=>∃(b:Bytes),vs=[sv b]/\∀ H',ak H H'->Q (.bl (Rung.isDone b)) H'
abbrev vBeg:List Str:=["line","word"]
theorem scBeg:au vBeg ["line"] (al sBeg):=⟨rfl,rfl,rfl,by decide +kernel,rfl,by decide +kernel,by decide +kernel⟩
def wds:List Bytes:=[ascii "press",ascii "let",ascii "run"]
theorem wds_eq:[V.str "press",V.str "let",V.str "run"]=wds.map sv:=by
 unfold wds
 rw[lit_press,lit_let,lit_run]
 rfl
theorem done_eq(b:Bytes):Rung.isDone b=(wds.map fun wd=>(wd++[32]).isPrefixOf b).any id:=by
 unfold Rung.isDone wds
 rfl
theorem okBeg{f:Addr}{fd:FuncData}(F:Fun K "begins_a_thing" "begins_a_thing" sBeg f fd)(g:G0 mg):bq P w K mg base CX0 1 f fd ["line"] spBeg:=by
 refine F.ok scBeg (fun vs H Q E h=>?_) (fun cdv A outer s H vs Q E hr h=>?_)
 ·obtain⟨_,rfl,_⟩:=h
  rfl
 ·obtain⟨b,rfl,k⟩:=h
  refine⟨_,ah (aw (be (cr_any rfl) rfl g.any boot_any (aa (pe_lc (own:=[("word",1)]) rfl scBeg.nd (pi_tup (pe_tup (aa (ay g.PRESS_WORD rfl) (aa (ay g.LET_WORD rfl) (aa (ay g.RUN_WORD rfl) af))))) (gk (by show blkC vBeg (al sBeg) _ _=true;decide +kernel))
    (fun _ _ _ _ _=>br (i:=1) scBeg.nd rfl (Or.inl rfl)) (fun _ _ _ _ _=>jr) (fun _ _ _ _ _=>pe_m1 PySem.F.slot_str_startswith PySem.F.type_str_startswith mt_startswith (pv 0) (cp mq (pv 1) ci))) af))),?_⟩
  refine⟨(by show 3<=sizeLine;decide),fun tp htp=>?_⟩
  rw[wds_eq]
  have sA:ak H (upd H tp (.tup (wds.map sv))):=ak.new htp
  have hA:(upd H tp (.tup (wds.map sv))) tp=some (.tup (wds.map sv)):=ac
  refine⟨tp,rfl,⟨_,SqT.of hA⟩,fun D hD=>lc_tup (K:=K) (a:=tp) (xs:=wds.map sv) (Qd:=_) (fun i H'=>ak (upd H tp (.tup (wds.map sv))) H'/\H' D=some (.lst (((wds.take i).map fun wd=>(wd++[32]).isPrefixOf b).map V.bl))) ⟨ak.new hD,ac⟩ (fun i H' _ ⟨s5,_⟩=>SqT.of (s5 _ _ hA)) ?_ ?_⟩
  ·rintro i y H5 hy ⟨s5,h5⟩
   obtain⟨wd,hn1,rfl⟩:=fc hy
   have wl:wd.length<=5:=by
    have:=List.mem_of_getElem? hn1
    unfold wds at this
    simp at this
    rcases this with rfl|rfl|rfl<;>decide
   refine⟨rfl,_,rfl,⟨_,rfl⟩,_,rfl,_,_,rfl,rfl,?_,?_⟩
   ·rw[bf];exact Nat.le_trans (Nat.add_le_add_right wl _) (by decide)
   refine⟨_,_,rfl,rfl,_,h5,?_,s5.put hD,?_⟩
   ·rw[List.length_map,List.length_map,List.length_take];exact bw (by have:wds.length=3:=rfl;omega)
   ·rw[ac,Lm.bp hn1,List.map_append,List.map_append,lit_sp,<-d7,starts_strOf]
    rfl
  ·rintro H5 ⟨s5,h5⟩
   rw[List.length_map,List.take_length] at h5
   refine⟨D,_,rfl,SqL.of h5,?_⟩
   rw[<-done_eq]
   exact k H5 (sA.trans s5)
abbrev sScore:Stmt:=top 69
def spScore(c:Cs):Sp:=fun vs H Q _=>∃(t:Bytes)(init:List Bytes)(last:Bytes),vs=[sv t]/\t.length<=50000/\Rung.split 10 t=init++[last]/\∀ H' p,ak H H'->ScoreAt c H' p (Lm.d9 (init.take ((init.findIdx? Rung.isDone).getD init.length))) (init.drop ((init.findIdx? Rung.isDone).getD init.length)) ((init.findIdx? Rung.isDone).getD init.length)->Q (.ref p) H'
abbrev vScore:List Str:=["signs","lines","first","line"]
theorem l5:au vScore ["signs"] (al sScore):=⟨rfl,rfl,rfl,by decide +kernel,rfl,by decide +kernel,by decide +kernel⟩
theorem okRdScore{f:Addr}{fd:FuncData}(F:Fun K "read_score" "read_score" sScore f fd)(g:G0 mg)(D1:Def P w K mg base CX0 1 "begins_a_thing" ["line"] spBeg)(M:MkD P w K mg base "Score" c.score j3):bq P w K mg base CX0 3 f fd ["signs"] (spScore c):=by
 refine F.ok l5 (fun vs H Q E h=>?_) (fun cdv A outer s H vs Q E hr h=>?_)
 ·obtain⟨_,_,_,rfl,_⟩:=h
  rfl
 ·obtain⟨t,init,last,rfl,ht,hsp,k⟩:=h
  refine⟨_,ae (bc (i:=1) l5.nd rfl (Or.inl rfl) (pe_split (pv 0) ci)) (ae (bt (pe_bm0 PySem.F.plainAttrs_list PySem.F.slot_list_pop PySem.F.type_list_pop mt_pop (pv 1))) (ae (bc (i:=2) l5.nd rfl (Or.inl rfl) aj) (ae (ps_while PassesOwn.never (PW.pt (pw_and (aq op_lt (pv 2) (be ax rfl g.len boot_len (aa (pv 1) af)) rfl) (pw_and1 (jm (pt_val (bd D1 hr (by decide) rfl cj (aa (bo ba (pv 1) (pv 2) (fun _ _=>rfl)) af))))))) (ah (ku (i:=2) l5.nd rfl (Or.inl rfl) aj mr))) (ah (aw (gg M hr (by decide) rfl (aa (pe_join ci (pe_lc (own:=[("line",3)]) rfl l5.nd (mn (j5 mw (pv 1) po_none (kg (pv 2)))) (gk (by show blkC vScore (al sScore) _ _=true;decide +kernel))
     (fun _ _ _ _ _=>br (i:=3) l5.nd rfl (Or.inl rfl)) (fun _ _ _ _ _=>jr) (fun _ _ _ _ _=>pe_joined (pj_cons (pe_fmt (pv 3)) (pj_cons ci pj_nil))))) (aa (j5 mw (pv 1) (kg (pv 2)) po_none) (aa (pv 2) af))))))))),?_⟩
  refine⟨_,rfl,rd_split lit_nl (by omega) fun a ha=>?_⟩
  rw[hsp]
  have ea:upd H a (.lst ((init++[last]).map sv)) a=some (.lst ((init++[last]).map sv)):=ac
  refine⟨_,rfl,.inl ⟨rfl,_,SqL.of ea⟩,a,_,sv last,rfl,rfl,ea,by simp,?_⟩
  have sA:ak H (upd (upd H a (.lst ((init++[last]).map sv))) a (.lst ((init++[last]).map sv).dropLast)):=(ak.new ha).put ha
  have haA:(upd (upd H a (.lst ((init++[last]).map sv))) a (.lst ((init++[last]).map sv).dropLast)) a=some (.lst (init.map sv)):=by rw[ac,List.map_append];simp
  generalize upd (upd H a (.lst ((init++[last]).map sv))) a (.lst ((init++[last]).map sv).dropLast)=HA at sA haA
  have icount:init.length<=50000:=by have:=jk (d:=10) t;rw[hsp] at this;simp at this;omega
  refine⟨fun m σ H'=>∃(i:Nat),m=init.length-i/\i<=init.length/\σ=[some (sv t),some (.ref a),some (nI i),none]/\ak HA H'/\∀ j b,j<i->init[j]?=some b->Rung.isDone b=false,⟨_,0,rfl,Nat.zero_le _,rfl,ak.refl _,fun j b hj=>absurd hj (Nat.not_lt_zero _)⟩,?_⟩
  rintro m σ H4 ⟨i,rfl,hi,rfl,s4,hd⟩
  have h4:=s4 _ _ haA
  have fin:(∀ b,init[i]?=some b->Rung.isDone b=true)->∀ H5,ak H4 H5->tRet (tMkd c.score j3 (de (tM1 (fun x xs H Q=>∃ a p,∃ ys:List Str,x=.str a/\xs=[.ref p]/\(SqL K H p (ys.map V.str)\/SqT K H p (ys.map V.str))/\(ys.map (·.length)).sum+ys.length * a.length<=16777216/\Q (.str (Txt.join a ys)) H) (tC (V.str ""))
    (tLc (iList K (tSl (rSlL K) (gf 1) tNoPart (tPart (gf 2)))) (gName 3) tYes (jCons (tFmt (gf 3)) (jCons (tC (V.str "\n")) jNil) Str.empty) [3])) (de (tSl (rSlL K) (gf 1) (tPart (gf 2)) tNoPart) (de (gf 2) jo)))) { nx:=fun _ H'=>Q .non H',rt:=Q } [some (sv t),some (.ref a),some (nI i),none] H5:=by
   intro he H5 s5
   have fi:=Lm.findIdx_at hd hi he
   rw[fi] at k
   have h5:=s5 _ _ h4
   have iw:(Lm.d9 init).length<=50000:=by
    obtain⟨init',last',g1,g2,_⟩:=Lm.ib t
    rw[hsp] at g1
    have:=List.append_inj' g1 rfl
    rw[this.1]
    have:=congrArg List.length g2
    rw[List.length_append] at this
    omega
   have fl:=flat_take_le init i
   refine⟨⟨_,rfl⟩,_,rfl,_,rfl,_,rfl,a,_,rfl,SqL.of h5,fun ps hps=>?_⟩
   rw[cut_to]
   have s6:ak H5 (upd H5 ps (.lst ((init.take i).map sv))):=ak.new hps
   have hps6:(upd H5 ps (.lst ((init.take i).map sv))) ps=some (.lst ((init.take i).map sv)):=ac
   refine⟨ps,rfl,⟨_,SqL.of hps6⟩,fun D hD=>lc_list (K:=K) (a:=ps) (xs:=(init.take i).map sv) (Qd:=_) (fun j H'=>ak (upd H5 ps (.lst ((init.take i).map sv))) H'/\H' D=some (.lst ((((init.take i).take j).map fun b=>b++[10]).map sv))) ⟨ak.new hD,ac⟩ (fun j H' _ ⟨s7,_⟩=>SqL.of (s7 _ _ hps6)) ?_ ?_⟩
   ·rintro j y H7 hy ⟨s7,h7⟩
    obtain⟨b,hb,rfl⟩:=fc hy
    have bl:b.length<=50000:=by
     have m1:=List.mem_of_mem_take (List.mem_of_getElem? hb)
     exact Nat.le_trans (e9 (d:=10) t b (by rw[hsp];simp[m1])) ht
    have e0:Str.empty++strOf b=strOf b:=by rw[empty_strOf,<-d7];rfl
    have e1:Str.empty++strOf b++("\n":Str)=strOf (b++[10]):=by rw[e0,lit_nl,<-d7]
    have z1:(strOf b).length<=sizeLine:=by rw[bf];exact Nat.le_trans bl (by decide)
    have z2:(strOf (b++[10])).length<=sizeLine:=by rw[bf];exact Nat.le_trans (by simp;omega:(b++[10]).length<=50001) (by decide)
    refine⟨rfl,_,rfl,_,.inl ⟨rfl,z1⟩,_,rfl,by rw[e0];exact z1,_,rfl,by rw[e1];exact z2,by rw[e1];exact z2,_,h7,?_,s7.put hD,?_⟩
    ·rw[List.length_map,List.length_map,List.length_take,List.length_take]
     exact Nat.lt_of_le_of_lt (by omega:_<=50000) (by decide)
    ·rw[ac,Lm.bp hb,List.map_append,List.map_append,e1]
     rfl
   ·rintro H7 ⟨s7,h7⟩
    rw[List.length_map,List.take_length,<-map_sv] at h7
    refine⟨strOf [],D,_,congrArg V.str lit_nil,rfl,.inl (SqL.of h7),?_,?_⟩
    ·rw[bf,List.map_map]
     have:(fun x:Str=>x.length) ∘ strOf=List.length:=by funext b;exact bf b
     rw[this,flat_len]
     show _+_ * 0<=_
     rw[Nat.mul_zero]
     omega
    ·rw[join_strOf,flat_flatten]
     have h77:=s7 _ _ (s6 _ _ h5)
     refine⟨_,rfl,_,rfl,_,rfl,a,_,rfl,SqL.of h77,fun pt hpt=>?_⟩
     rw[cut_from]
     refine⟨_,rfl,rfl,fun q dq H8 nq s8 hq=>k H8 q ((sA.trans s4).trans (s5.trans (s6.trans (s7.trans ((ak.new hpt).trans s8))))) ⟨dq,pt,hq,s8 _ _ ac⟩⟩
  refine⟨_,rfl,_,rfl,a,_,rfl,.inl (SqL.of h4),_,_,rfl,rfl,_,rfl,?_⟩
  rw[List.length_map]
  by_cases hlt:i<init.length
  ·rw[decide_eq_true (by omega:((i:Nat):Int)<((init.length:Nat):Int))]
   obtain⟨b,hb⟩:∃ b,init[i]?=some b:=⟨init[i],List.getElem?_eq_getElem hlt⟩
   refine⟨_,rfl,_,rfl,a,_,_,_,rfl,rfl,SqL.of h4,bu (gv hb),b,rfl,fun H5 s5=>⟨_,rfl,?_⟩⟩
   cases e:Rung.isDone b with
   |true=>exact fin (fun b' hb'=>by rw[hb] at hb';cases hb';exact e) H5 s5
   |false =>
    refine⟨fun σ' H''=>σ'=[some (sv t),some (.ref a),some (nI (i+1)),none]/\ak HA H'',fun σ' H'' ⟨q1,q2⟩=>⟨init.length-(i+1),by omega,i+1,rfl,by omega,q1,q2,fun j b' hj hb'=>?_⟩,?_⟩
    ·by_cases ej:j=i
     ·rw[ej,hb] at hb';cases hb';exact e
     ·exact hd j b' (by omega) hb'
    ·exact⟨_,rfl,_,_,rfl,rfl,rfl,s4.trans s5⟩
  ·rw[decide_eq_false (by omega:¬((i:Nat):Int)<((init.length:Nat):Int))]
   exact fin (fun b hb=>absurd (List.getElem?_eq_some_iff.mp hb).1 hlt) H4 (ak.refl _)
abbrev sThing:Stmt:=top 70
def nr(on:Bool):Bytes:=if on=true then ascii "press" else ascii "let"
def spThing(c:Cs):Sp:=fun vs H Q E=>∃(b:Bytes),vs=[sv b]/\b.length<=50000/\match Rung.doneIn b with
 |none=>∀ H',ak H H'->E (.ref c.shapeless) none H'
 |some (.inr n)=>∀ H' p,ak H H'->ThingAt c H' p (ascii "run") [] n->Q (.ref p) H'
 |some (.inl (x,on))=>∀ H' p,ak H H'->ThingAt c H' p (nr on) x 0->Q (.ref p) H'
theorem scThing':au ["line","parts"] ["line"] (al sThing):=⟨rfl,rfl,rfl,by decide +kernel,rfl,by decide +kernel,by decide +kernel⟩
theorem okRdThing{f:Addr}{fd:FuncData}(F:Fun K "read_thing" "read_thing" sThing f fd)(g:G0 mg)(x:Xs K mg c)(D1:Def P w K mg base (Fx P w) 1 "number_of" ["part","least","most"] (spNumber c))(D2:Def P w K mg base (Fx P w) 1 "name_of" ["part"] (spName c))(M:MkD P w K mg base "Thing" c.thing j7):bq P w K mg base (Fx P w) 3 f fd ["line"] (spThing c):=by
 refine F.okX scThing' (fun vs H Q E h=>?_) (fun cdv A outer s H vs Q E hr h=>?_)
 ·obtain⟨_,rfl,_⟩:=h
  rfl
 ·obtain⟨b,rfl,hb,k⟩:=h
  refine⟨_,ae (bc (i:=1) scThing'.nd rfl (Or.inl rfl) (pe_split (pv 0) ci)) (ae (bj (PW.pt (pw_and (aq cf (be ax rfl g.len boot_len (aa (pv 1) af)) aj rfl) (pw_and1 (aq cf (bo ba (pv 1) aj (fun _ _=>rfl)) (ay g.RUN_WORD rfl) rfl)))) (ah (aw (gg M hr (by decide) rfl (aa (ay g.RUN_WORD rfl) (aa ci (aa (bd D1 hr (by decide) rfl dj (aa (bo ba (pv 1) aj (fun _ _=>rfl)) (aa aj (aa (ay g.MOST_TICKS rfl) af)))) af)))))) az) (ae (bj (PW.pt (pw_and (aq cf (be ax rfl g.len boot_len (aa (pv 1) af)) aj rfl) (pw_and1 (PW.pt (pw_or (aq cf (bo ba (pv 1) aj (fun _ _=>rfl)) (ay g.PRESS_WORD rfl) rfl) (pw_or1 (aq cf (bo ba (pv 1) aj (fun _ _=>rfl)) (ay g.LET_WORD rfl) rfl))))))) (ah (aw (gg M hr (by decide) rfl (aa (bo ba (pv 1) aj (fun _ _=>rfl)) (aa (bd D2 hr (by decide) rfl dj (aa (bo ba (pv 1) aj (fun _ _=>rfl)) af)) (aa aj af)))))) az) (ah (ik hr.hd rfl x.mshp x.shp (aa ci af))))),?_⟩
  refine⟨_,rfl,rd_split lit_sp (by omega) fun a ha=>?_⟩
  have s1:ak H (upd H a (.lst ((Rung.split 32 b).map sv))):=ak.new ha
  have hp:ic (upd H a (.lst ((Rung.split 32 b).map sv))) a (Rung.split 32 b):=⟨ac,fun y hy=>Nat.le_trans (e9 b y hy) (by omega)⟩
  rw[Lm.doneIn_eq] at k
  generalize upd H a (.lst ((Rung.split 32 b).map sv))=H1 at hp s1
  have ne:0<(Rung.split 32 b).length:=List.length_pos_iff.mpr (Lm.fq b)
  generalize Rung.split 32 b=p at hp k ne
  unfold Lm.rDone at k
  refine⟨_,rfl,a,_,rfl,.inl (SqL.of hp.at_),rfl,_,rfl,?_⟩
  rw[List.length_map,show V.int 2=nI 2 from rfl,fg]
  by_cases h2:p.length=2
  ·rw[decide_eq_true h2]
   refine⟨_,rfl,a,_,_,_,rfl,rfl,SqL.of hp.at_,cq (i:=0) ne,rfl,_,rfl,?_⟩
   rw[lit_run,gj]
   by_cases h3:Lm.part p 0=ascii "run"
   ·rw[decide_eq_true h3]
    rw[if_pos ⟨h2,h3⟩] at k
    refine⟨_,rfl,a,_,_,_,rfl,rfl,SqL.of hp.at_,cq (i:=1) (by omega),Lm.part p 1,1,2000,rfl,hp.part,by decide,fun H2 s2=>?_⟩
    cases h4:Rung.number 1 2000 (Lm.part p 1) with
    |none=>rw[h4] at k;exact k H2 (s1.trans s2)
    |some n =>
     rw[h4] at k
     refine⟨rfl,fun q dx H3 nq s3 hq=>k H3 q ((s1.trans s2).trans s3) ⟨dx,?_⟩⟩
     rw[hq,lit_nil]
     rfl
   ·rw[decide_eq_false h3]
    rw[if_neg (fun z=>h3 z.2)] at k
    refine⟨_,rfl,a,_,rfl,.inl (SqL.of hp.at_),rfl,_,rfl,?_⟩
    rw[List.length_map,fg,decide_eq_true h2]
    have go:Lm.part p 0=ascii "press"\/Lm.part p 0=ascii "let"->tRet (tMkd c.thing j7 (de (tOp (rIxL K) (gf 1) (tC (V.int 0))) (de (tCal (spName c) E (de (tOp (rIxL K) (gf 1) (tC (V.int 1))) jo)) (de (tC (V.int 0)) jo)))) { nx:=tRaise0 c.shapeless E (de (tC (V.str "no such line")) jo) { nx:=fun _ H'=>Q .non H',rt:=Q },rt:=Q } [some (sv b),some (.ref a)] H1:=by
     intro h4
     rw[if_pos ⟨h2,h4⟩] at k
     refine⟨_,rfl,a,_,_,_,rfl,rfl,SqL.of hp.at_,cq (i:=0) ne,_,rfl,a,_,_,_,rfl,rfl,SqL.of hp.at_,cq (i:=1) (by omega),Lm.part p 1,rfl,hp.part,fun H2 s2=>?_⟩
     cases h5:Rung.isName (Lm.part p 1) with
     |false=>rw[h5] at k;exact k H2 (s1.trans s2)
     |true =>
      rw[h5] at k
      refine⟨rfl,fun q dx H3 nq s3 hq=>k H3 q ((s1.trans s2).trans s3) ⟨dx,?_⟩⟩
      rw[hq]
      have e:nr (Lm.part p 0==ascii "press")=Lm.part p 0:=by
       unfold nr
       rcases h4 with h4|h4<;>rw[h4]<;>decide
      rw[e]
      rfl
    refine⟨_,rfl,a,_,_,_,rfl,rfl,SqL.of hp.at_,cq (i:=0) ne,rfl,_,rfl,?_⟩
    rw[lit_press,gj]
    by_cases h4:Lm.part p 0=ascii "press"
    ·rw[decide_eq_true h4]
     exact go (.inl h4)
    ·rw[decide_eq_false h4]
     refine⟨_,rfl,a,_,_,_,rfl,rfl,SqL.of hp.at_,cq (i:=0) ne,rfl,_,rfl,?_⟩
     rw[lit_let,gj]
     by_cases h5:Lm.part p 0=ascii "let"
     ·rw[decide_eq_true h5]
      exact go (.inr h5)
     ·rw[decide_eq_false h5]
      rw[if_neg (fun z=>z.2.elim h4 h5)] at k
      exact⟨by decide,k H1 s1⟩
  ·rw[decide_eq_false h2]
   rw[if_neg (fun z=>h2 z.1),if_neg (fun z=>h2 z.1)] at k
   refine⟨_,rfl,a,_,rfl,.inl (SqL.of hp.at_),rfl,_,rfl,?_⟩
   rw[List.length_map,fg,decide_eq_false h2]
   exact⟨by decide,k H1 s1⟩
def isP:HO->Bool
 |.ins _ _ ((k,_)::_)=>k==("scheme":Str)
 |_=>false
def np(H:Hp):Hp:=fun b=>match H b with
 |some o=>if isP o=true then none else some o
 |none=>none
theorem l7{H:Hp}{b:Addr}{o:HO}(h:H b=some o)(n:isP o=false):np H b=some o:=by
 unfold np
 rw[h]
 simp[n]
theorem np_some{H:Hp}{b:Addr}{o:HO}(h:np H b=some o):H b=some o/\isP o=false:=by
 unfold np at h
 cases e:H b with
 |none=>rw[e] at h;cases h
 |some u =>
  rw[e] at h
  simp only at h
  split at h
  ·cases h
  ·rename_i n
   cases h
   exact⟨rfl,by simpa using n⟩
theorem np_same{H:Hp}:ak (np H) H:=fun b o e=>(np_some e).1
def stay(dl ld:Addr)(e:List Addr)(H:Hp):Hp:=drp (dl::ld::e) (np H)
theorem cz{dl ld:Addr}{e:List Addr}{H:Hp}:ak (stay dl ld e H) H:=fun b o e=>np_same b o (fw e).1
theorem gy{pa dl ld:Addr}{e:List Addr}{H H':Hp}{o:HO}(h:H pa=some o)(hp:isP o=true)(k:Kept (pa::dl::ld::e) H H'):ak (stay dl ld e H) (stay dl ld e H'):=fun b u e=>by
 obtain⟨e1,e2⟩:=fw e
 obtain⟨e3,e4⟩:=np_some e1
 unfold stay
 rw[ip e2]
 refine l7 (k b u e3 ?_) e4
 intro q
 rcases List.mem_cons.mp q with q|q
 ·rw[q,h] at e3
  cases e3
  rw[hp] at e4
  cases e4
 ·exact e2 q
theorem stay_ms{pa dl ld:Addr}{e:List Addr}{H:Hp}{o:HO}(h:H pa=some o)(hp:isP o=true):ak (stay dl ld e H) (drp (pa::dl::ld::e) H):=fun b u e=>by
 obtain⟨e1,e2⟩:=fw e
 obtain⟨e3,e4⟩:=np_some e1
 rw[ip]
 ·exact e3
 ·intro q
  rcases List.mem_cons.mp q with q|q
  ·rw[q,h] at e3
   cases e3
   rw[hp] at e4
   cases e4
  ·exact e2 q
theorem to_stay{pa dl ld:Addr}{e:List Addr}{H:Hp}{b:Addr}{o:HO}(h:drp (pa::dl::ld::e) H b=some o)(n:isP o=false):stay dl ld e H b=some o:=by
 obtain⟨e1,e2⟩:=fw h
 unfold stay
 rw[ip fun q=>e2 (List.mem_cons_of_mem _ q)]
 exact l7 e1 n
theorem cw.stay{c:Cs}{pa dl ld a:Addr}{e:List Addr}{H:Hp}{k:Rung.Clock}(h:cw c (drp (pa::dl::ld::e) H) a k):cw c (Lp.stay dl ld e H) a k:=by
 obtain⟨dx,lw,h1,h2⟩:=h
 exact⟨dx,lw,to_stay h1 (by first|rfl|decide),to_stay h2 rfl⟩
theorem jc.stay{c:Cs}{pa dl ld a:Addr}{e:List Addr}{H:Hp}{s:Rung.Scheme}{x:Nat}(h:jc c (drp (pa::dl::ld::e) H) a s x):jc c (Lp.stay dl ld e H) a s x:=by
 obtain⟨dx,h1⟩:=h
 exact⟨dx,to_stay h1 (by first|rfl|decide)⟩
theorem Cache.stay{c:Cs}{pa dl ld:Addr}{e:List Addr}{H:Hp}{s:Rung.Scheme}{n:Nat}(h:Cache c H (drp (pa::dl::ld::e) H) ld s n):Cache c H (Lp.stay dl ld e H) ld s n:=by
 obtain⟨kvs,h1,h2,h3⟩:=h
 refine⟨kvs,h1,h2,fun k v e=>?_⟩
 obtain⟨x,a,e1,e2,h⟩:=h3 k v e
 exact⟨x,a,e1,e2,h.stay⟩
def g9(c:Cs)(G:Hp)(ds:List Addr)(s:Rung.Scheme)(log:List Rung.Entry):Prop:=ds.length=log.length/\∀(i:Nat)(a:Addr)(e:Rung.Entry),ds[i]?=some a->log[i]?=some e->∃ dx cb,G a=some (.ins c.deed dx [("line",sv (Rung.entryText s e)),("before",.ref cb)])/\cw c G cb (RungPanelSeed.again s (log.take i)).c
theorem g9.mono{c:Cs}{G G':Hp}{ds:List Addr}{s:Rung.Scheme}{log:List Rung.Entry}(h:g9 c G ds s log)(m:ak G G'):g9 c G' ds s log:=by
 refine⟨h.1,fun i a e e1 e2=>?_⟩
 obtain⟨dx,cb,h1,h2⟩:=h.2 i a e e1 e2
 exact⟨dx,cb,m _ _ h1,h2.mono m⟩
abbrev pf(v1 v2 v3 v4:V):List (Str×V):=[("scheme",v1),("scheme_text",v2),("clock",v3),("done",v4)]
theorem ij{C dx:Addr}{v1 v2 v3 v4:V}:isP (.ins C dx (pf v1 v2 v3 v4))=true:=by first|rfl|decide
end
structure f7(c:Cs)(e:List Addr)(H:Hp)(pa dl ld dx sc ck:Addr)(ds:List Addr)(s:Rung.Scheme)(k:Rung.Clock)(log:List Rung.Entry)(n:Nat):Prop where
 obj:H pa=some (.ins c.panel dx (pf (.ref sc) (sv s.text) (.ref ck) (.ref dl)))
 lst:H dl=some (.lst (ds.map V.ref))
 sch:df c (stay dl ld e H) sc s ld
 clk:cw c (stay dl ld e H) ck k
 dds:g9 c (stay dl ld e H) ds s log
 cch:Cache c H (stay dl ld e H) ld s n
 sok:Lm.SOk s
abbrev PanS(c:Cs)(e:List Addr)(H:Hp)(pa dl ld dx sc ck:Addr)(ds:List Addr)(p:Rung.Panel)(n:Nat):Prop:=f7 c e H pa dl ld dx sc ck ds p.s p.c p.log n
def Pan(c:Cs)(e:List Addr)(H:Hp)(pa:Addr)(st:RungPanelSeed.State)(n:Nat)(ms:List Addr):Prop:=match st with
 |none=>∃ dl dx,ms=[pa,dl]/\H pa=some (.ins c.panel dx (pf .non (sv []) .non (.ref dl)))/\H dl=some (.lst [])
 |some p=>∃ dl ld dx sc ck ds,ms=[pa,dl,ld]/\PanS c e H pa dl ld dx sc ck ds p n/\Lm.POk p/\p.s.text.length<=50000
section
variable{c:Cs}{e:List Addr}{H H':Hp}{pa dl ld dx sc ck:Addr}{ds:List Addr}{s:Rung.Scheme}{k:Rung.Clock}{log:List Rung.Entry}{n m:Nat}
theorem f7.ld'(h:f7 c e H pa dl ld dx sc ck ds s k log n):∃ kvs,H ld=some (.dK kvs):=by
 obtain⟨kvs,h1,_⟩:=h.cch
 exact⟨kvs,h1⟩
theorem f7.ms(h:f7 c e H pa dl ld dx sc ck ds s k log n):∀ m∈[pa,dl,ld],H m≠none:=by
 intro m hm q
 simp only[List.mem_cons,List.not_mem_nil,or_false] at hm
 obtain⟨kvs,h1⟩:=h.ld'
 rcases hm with rfl|rfl|rfl
 ·rw[h.obj] at q;cases q
 ·rw[h.lst] at q;cases q
 ·rw[h1] at q;cases q
theorem f7.mse(h:f7 c e H pa dl ld dx sc ck ds s k log n)(he:∀ m∈e,H m≠none):∀ m∈pa::dl::ld::e,H m≠none:=by
 intro m hm
 by_cases q:m∈[pa,dl,ld]
 ·exact h.ms m q
 ·refine he m ?_
  simp only[List.mem_cons,List.not_mem_nil,or_false] at hm q
  rcases hm with z|z|z|z
  ·exact absurd (.inl z) q
  ·exact absurd (.inr (.inl z)) q
  ·exact absurd (.inr (.inr z)) q
  ·exact z
theorem f7.keep(h:f7 c e H pa dl ld dx sc ck ds s k log n)(s':ak H H')(hn:n<=m):f7 c e H' pa dl ld dx sc ck ds s k log m:=by
 have st:=gy (dl:=dl) (ld:=ld) (e:=e) h.obj ij (s'.kept _)
 exact⟨s' _ _ h.obj,s' _ _ h.lst,h.sch.mono st,h.clk.mono st,h.dds.mono st,h.cch.mono s' st hn,h.sok⟩
theorem f7.look(h:f7 c e H pa dl ld dx sc ck ds s k log n)(kp:Kept [ld] H H')(hc:Cache c H' (drp (pa::dl::ld::e) H') ld s m):f7 c e H' pa dl ld dx sc ck ds s k log m:=by
 have st:=gy (dl:=dl) (ld:=ld) (e:=e) h.obj ij (kp.mono (by intro m hm;rw[List.mem_singleton.mp hm];simp))
 obtain⟨kvs,h1⟩:=h.ld'
 refine⟨kp _ _ h.obj ?_,kp _ _ h.lst ?_,h.sch.mono st,h.clk.mono st,h.dds.mono st,hc.stay,h.sok⟩
 ·simp only[List.mem_singleton];exact eq h.obj h1 (by intro q;cases q)
 ·simp only[List.mem_singleton];exact eq h.lst h1 (by intro q;cases q)
theorem f7.set(h:f7 c e H pa dl ld dx sc ck ds s k log n){ck':Addr}{k':Rung.Clock}(hc:cw c (stay dl ld e H) ck' k'):f7 c e (upd H pa (.ins c.panel dx (pf (.ref sc) (sv s.text) (.ref ck') (.ref dl)))) pa dl ld dx sc ck' ds s k' log n:=by
 have st:=gy (dl:=dl) (ld:=ld) (e:=e) (H':=upd H pa (.ins c.panel dx (pf (.ref sc) (sv s.text) (.ref ck') (.ref dl)))) h.obj ij (Kept.upd (by simp))
 obtain⟨kvs,h1,h2,h3⟩:=h.cch
 refine⟨ac,?_,h.sch.mono st,hc.mono st,h.dds.mono st,⟨kvs,?_,h2,fun k v e=>?_⟩,h.sok⟩
 ·rw[ai (eq h.lst h.obj (by intro q;cases q))];exact h.lst
 ·rw[ai (eq h1 h.obj (by intro q;cases q))];exact h1
 ·obtain⟨x,a,e1,e2,h⟩:=h3 k v e
  exact⟨x,a,e1,e2,h.mono st⟩
theorem f7.done(h:f7 c e H pa dl ld dx sc ck ds s k log n){ds':List Addr}{log':List Rung.Entry}(hd:g9 c (stay dl ld e H) ds' s log'):f7 c e (upd H dl (.lst (ds'.map V.ref))) pa dl ld dx sc ck ds' s k log' n:=by
 have st:=gy (dl:=dl) (ld:=ld) (e:=e) (H':=upd H dl (.lst (ds'.map V.ref))) h.obj ij (Kept.upd (by simp))
 obtain⟨kvs,h1,h2,h3⟩:=h.cch
 refine⟨?_,ac,h.sch.mono st,h.clk.mono st,hd.mono st,⟨kvs,?_,h2,fun k v e=>?_⟩,h.sok⟩
 ·rw[ai (eq h.obj h.lst (by intro q;cases q))];exact h.obj
 ·rw[ai (eq h1 h.lst (by intro q;cases q))];exact h1
 ·obtain⟨x,a,e1,e2,h⟩:=h3 k v e
  exact⟨x,a,e1,e2,h.mono st⟩
theorem f7.out(h:f7 c e H pa dl ld dx sc ck ds s k log n){g:Addr}(hg:H g=none){o:HO}:f7 c (g::e) (upd H g o) pa dl ld dx sc ck ds s k log n:=by
 have st:ak (stay dl ld e H) (stay dl ld (g::e) (upd H g o)):=fun b u q=>by
  obtain⟨e1,e2⟩:=fw q
  obtain⟨e3,e4⟩:=np_some e1
  have nb:b≠g:=ap e3 hg
  unfold stay
  rw[ip]
  ·exact l7 (by rw[ai nb];exact e3) e4
  ·intro z
   simp only[List.mem_cons] at z e2
   rcases z with z|z|z|z
   ·exact e2 (.inl z)
   ·exact e2 (.inr (.inl z))
   ·exact nb z
   ·exact e2 (.inr (.inr z))
 exact⟨(ak.new hg) _ _ h.obj,(ak.new hg) _ _ h.lst,h.sch.mono st,h.clk.mono st,h.dds.mono st,h.cch.mono (ak.new hg) st (Nat.le_refl _),h.sok⟩
theorem f7.move(h:f7 c e H pa dl ld dx sc ck ds s k log n){g:Addr}(hg:g∈e)(h1:g≠pa)(h2:g≠dl)(h3:g≠ld){o:HO}:f7 c e (upd H g o) pa dl ld dx sc ck ds s k log n:=by
 have st:=gy (dl:=dl) (ld:=ld) (e:=e) (H':=upd H g o) h.obj ij (Kept.upd (by simp[hg]))
 obtain⟨kvs,k1,k2,k3⟩:=h.cch
 refine⟨by rw[ai h1.symm];exact h.obj,by rw[ai h2.symm];exact h.lst,h.sch.mono st,h.clk.mono st,h.dds.mono st,⟨kvs,by rw[ai h3.symm];exact k1,k2,fun k v e=>?_⟩,h.sok⟩
 obtain⟨x,a,e1,e2,h⟩:=k3 k v e
 exact⟨x,a,e1,e2,h.mono st⟩
theorem f7.less{e':List Addr}(h:f7 c e H pa dl ld dx sc ck ds s k log n)(he:∀ m∈e',m∈e):f7 c e' H pa dl ld dx sc ck ds s k log n:=by
 have st:ak (stay dl ld e H) (stay dl ld e' H):=drp_mono (by
  intro m hm
  simp only[List.mem_cons] at hm ⊢
  rcases hm with z|z|z
  ·exact .inl z
  ·exact .inr (.inl z)
  ·exact .inr (.inr (he m z)))
 exact⟨h.obj,h.lst,h.sch.mono st,h.clk.mono st,h.dds.mono st,h.cch.mono (ak.refl _) st (Nat.le_refl _),h.sok⟩
theorem Pan.keep{c:Cs}{e:List Addr}{H H':Hp}{pa:Addr}{st:RungPanelSeed.State}{n m:Nat}{ms:List Addr}(h:Pan c e H pa st n ms)(s:ak H H')(hn:n<=m):Pan c e H' pa st m ms:=by
 cases st with
 |none =>
  obtain⟨dl,dx,e,h1,h2⟩:=h
  exact⟨dl,dx,e,s _ _ h1,s _ _ h2⟩
 |some p =>
  obtain⟨dl,ld,dx,sc,ck,ds,e,h,h2,h3⟩:=h
  exact⟨dl,ld,dx,sc,ck,ds,e,h.keep s hn,h2,h3⟩
theorem Pan.nn{c:Cs}{e:List Addr}{H:Hp}{pa:Addr}{st:RungPanelSeed.State}{n:Nat}{ms:List Addr}(h:Pan c e H pa st n ms):∀ m∈ms,H m≠none:=by
 cases st with
 |none =>
  obtain⟨dl,dx,rfl,h1,h2⟩:=h
  intro m hm q
  simp only[List.mem_cons,List.not_mem_nil,or_false] at hm
  rcases hm with rfl|rfl
  ·rw[h1] at q;cases q
  ·rw[h2] at q;cases q
 |some p =>
  obtain⟨dl,ld,dx,sc,ck,ds,rfl,h,_⟩:=h
  exact h.ms
end
structure Did(c:Cs)(e:List Addr)(H:Hp)(pa:Addr)(ms:List Addr)(st':RungPanelSeed.State)(n':Nat)(out:List Int)(H':Hp)(q:Addr):Prop where
 ex:∃ ms',Kept ms H H'/\(∀ m∈ms',m∈ms\/H m=none)/\Pan c e H' pa st' n' ms'/\H' q=some (.lst (out.map V.int))/\H q=none/\q∉ms'
theorem Did.same{c:Cs}{e:List Addr}{H H':Hp}{pa q:Addr}{ms:List Addr}{st:RungPanelSeed.State}{n n':Nat}{out:List Int}(h:Pan c e H pa st n ms)(s:ak H H')(hn:n<=n')(hq:H q=none)(ho:H' q=some (.lst (out.map V.int))):Did c e H pa ms st n' out H' q:=⟨ms,s.kept _,fun m hm=>.inl hm,h.keep s hn,ho,hq,fun z=>h.nn q z hq⟩
section
variable{P:Program}{w:World}{K:PySem.W.Frag}{mg:Str->Option Value}{base:Heap}{c:Cs}
abbrev iPanel:Stmt:=bb (top 94) 0
def spMkP(C:Addr):Sp:=fun vs H Q _=>∃ p dx,vs=[.ref p]/\H p=some (.ins C dx [])/\∀ H' dl,(∀ H0:Hp,H0 p=none->ak H0 (upd H p (.ins C dx []))->ak H0 H'/\H0 dl=none/\H' p=some (.ins C dx (pf .non (sv []) .non (.ref dl)))/\H' dl=some (.lst []))->Q .non H'
theorem scPanel:au ["self"] ["self"] (al iPanel):=⟨rfl,rfl,rfl,by decide +kernel,rfl,by decide +kernel,by decide +kernel⟩
theorem okPanel{C f:Addr}{fd:FuncData}(F:Fun K "__init__" "Panel.__init__" iPanel f fd)(T:Cl K C nPanel):bq P w K mg base CX0 1 f fd ["self"] (spMkP C):=by
 refine F.ok scPanel (fun vs H Q E h=>?_) (fun cdv A outer s H vs Q E hr h=>?_)
 ·obtain⟨p,dx,rfl,_⟩:=h
  rfl
 ·obtain⟨p,dx,rfl,hp,k⟩:=h
  refine⟨_,ae (bg (pv 0) pe_non rfl) (ae (bg (pv 0) ci rfl) (ae (bg (pv 0) pe_non rfl) (ah (bg (pv 0) (bi af) rfl)))),?_⟩
  refine⟨_,rfl,p,C,dx,[],rfl,hp,T.cl,T.no _ (by decide),(by decide),?_⟩
  refine⟨_,rfl,p,C,dx,_,rfl,ac,T.cl,T.no _ (by decide),(by show 1<1000;decide),?_⟩
  refine⟨_,rfl,p,C,dx,_,rfl,ac,T.cl,T.no _ (by decide),(by show 2<1000;decide),?_⟩
  rw[cu,cu]
  refine⟨Nat.zero_le _,fun dl hdl=>⟨_,rfl,p,C,dx,_,rfl,(ak.new hdl) _ _ ac,T.cl,T.no _ (by decide),(by show 3<1000;decide),?_⟩⟩
  have npd:dl≠p:=fun q=>by rw[q,ac] at hdl;cases hdl
  rw[ai npd] at hdl
  refine k _ dl fun H0 h0 sm=>⟨fun b o e=>?_,sm.free (by rw[ai npd];exact hdl),?_,by rw[ai npd,ac]⟩
  ·have hb:=sm b o e
   have nb:b≠p:=fun q=>by rw[q,h0] at e;cases e
   rw[ai nb] at hb
   rw[ai nb,ai (ap hb hdl),ai nb]
   exact hb
  ·rw[ac,lit_nil]
   rfl
structure MkP(P:Program)(w:World)(K:W.Frag)(mg:Str->Option Value)(base:Heap)(x:Str)(C:Addr):Prop where
 ex:∃ fI fd,Mk K C fI/\bq P w K mg base CX0 1 fI fd ["self"] (spMkP C)/\mg x=some (.ref C)/\Binds K fd ["self"] []
def tMkp(C:Addr):TE:=fun _ H Q=>∀ x dx H2 dl,H x=none->H dl=none->ak H H2->H2 x=some (.ins C dx (pf .non (sv []) .non (.ref dl)))->H2 dl=some (.lst [])->Q (.ref x) H2
theorem pe_mkp{X:Cx}{x:Str}{C:Addr}{p pos:Pos}(D:MkP X.prog X.w X.K X.mg X.base x C){j:Nat}(hr:fm j X.A)(hk:2<=j)(hg:Gl X x)(hdb:(x==("__debug__":Str))=false:=by decide):PE X (.Call (.Name x p) [] [] pos) (tMkp C):=by
 obtain⟨fI,fd,M,F,hm,hb⟩:=D.ex
 refine(pe_make0 (E:=E0) M F (hr.mono hk) hg hm hb .nil cj hdb).imp fun σ H Q q=>?_
 intro y dx n1 n2 ne
 refine⟨y,dx,rfl,ac,fun H' dl h=>?_⟩
 obtain⟨h1,h2,h3,h4⟩:=h H n1 fun b o e=>by
  rw[ai (ap e n1),ai (ap e n1),ai (ap e n2)]
  exact e
 exact⟨rfl,q y dx H' dl n1 h2 h1 h3 h4⟩
theorem stay_of{J H':Hp}{dl ld:Addr}{e:List Addr}(s:ak J H')(h1:J dl=none)(h2:J ld=none)(h3:∀ m∈e,J m=none):ak (np J) (stay dl ld e H'):=fun b o q=>by
 obtain⟨e1,e2⟩:=np_some q
 unfold stay
 rw[ip]
 ·exact l7 (s b o e1) e2
 ·intro q
  simp only[List.mem_cons] at q
  rcases q with q|q|q
  ·rw[q,h1] at e1;cases e1
  ·rw[q,h2] at e1;cases e1
  ·rw[h3 b q] at e1;cases e1
theorem df.np{c:Cs}{G:Hp}{sc ld:Addr}{s:Rung.Scheme}(h:df c G sc s ld):df c (Lp.np G) sc s ld:=by
 obtain⟨dx,li,lr,ll,lc,h1,h2,⟨as,r1,r2,r3⟩,h4,⟨bs,k1,k2,k3⟩⟩:=h
 refine⟨dx,li,lr,ll,lc,l7 h1 (by first|rfl|decide),l7 h2 rfl,⟨as,l7 r1 rfl,r2,fun j a r e1 e2=>?_⟩,l7 h4 rfl,⟨bs,l7 k1 rfl,k2,fun j a r e1 e2=>?_⟩⟩
 ·obtain⟨d,h⟩:=r3 j a r e1 e2
  exact⟨d,l7 h (by first|rfl|decide)⟩
 ·obtain⟨d,h⟩:=k3 j a r e1 e2
  exact⟨d,l7 h (by first|rfl|decide)⟩
theorem cw.np{c:Cs}{G:Hp}{a:Addr}{k:Rung.Clock}(h:cw c G a k):cw c (Lp.np G) a k:=by
 obtain⟨dx,lw,h1,h2⟩:=h
 exact⟨dx,lw,l7 h1 (by first|rfl|decide),l7 h2 rfl⟩
abbrev sBegin:Stmt:=bb (top 94) 1
def spBegin(c:Cs):Sp:=fun vs H Q E=>∃(e:List Addr)(pa dx:Addr)(v1 v2 v3 v4:V)(t:Bytes),vs=[.ref pa,sv t]/\(∀ m∈e,H m≠none)/\H pa=some (.ins c.panel dx (pf v1 v2 v3 v4))/\t.length<=50000/\match Rung.readText t with
 |.error f=>f9 c E H f
 |.ok s=>∀ H' dl ld sc ck,Kept [pa] H H'->H dl=none->H ld=none->PanS c e H' pa dl ld dx sc ck [] (Rung.loaded s) 0->Q .non H'
theorem scBegin:au ["self","signs"] ["self","signs"] (al sBegin):=⟨rfl,rfl,rfl,by decide +kernel,rfl,by decide +kernel,by decide +kernel⟩
theorem okBegin{f:Addr}{fd:FuncData}(F:Fun K "begin" "Panel.begin" sBegin f fd)(T:Ts K c)(D1:Def P w K mg base (Fx P w) 6 "read_scheme" ["signs"] (spRdS c))(D2:Def P w K mg base CX0 3 "new_clock" ["scheme"] (spNew c)):bq P w K mg base (Fx P w) 7 f fd ["self","signs"] (spBegin c):=by
 refine F.okX scBegin (fun vs H Q E h=>?_) (fun cdv A outer s H vs Q E hr h=>?_)
 ·obtain⟨_,_,_,_,_,_,_,_,rfl,_⟩:=h
  rfl
 ·obtain⟨ex,pa,dx,v1,v2,v3,v4,t,rfl,hex,ho,ht,k⟩:=h
  refine⟨_,ae (bg (pv 0) (bd D1 hr (by decide) rfl dj (aa (pv 1) af)) rfl) (ae (bg (pv 0) (pv 1) rfl) (ae (bg (pv 0) (bd D2 hr (by decide) rfl cj (aa (ao (pv 0) rfl) af)) rfl) (ah (bg (pv 0) (bi af) rfl)))),?_⟩
  have cl:=T.panel.cl
  have no:=T.panel.no
  refine⟨_,rfl,t,rfl,ht,?_⟩
  cases e:Rung.readText t with
  |error f=>rw[e] at k;exact k
  |ok z =>
   rw[e] at k
   obtain⟨tz,zok⟩:=Lm.read_ok e
   rintro H1 sc ld s1 ⟨n1,n2,h3,hS⟩
   have ho1:=s1 _ _ ho
   have nld:ld≠pa:=fun q=>by rw[q,ho] at n2;cases n2
   have sJ:ak (drp [ld] (nw H H1)) H1:=fun b o e=>(kf (fw e).1).1
   have jpa:drp [ld] (nw H H1) pa=none:=by
    cases q:drp [ld] (nw H H1) pa with
    |none=>rfl
    |some o=>have:=(kf (fw q).1).2;rw[ho] at this;cases this
   have jld:drp [ld] (nw H H1) ld=none:=drp_in (by simp)
   have jex:∀ m∈ex,drp [ld] (nw H H1) m=none:=fun m hm=>by
    cases q:drp [ld] (nw H H1) m with
    |none=>rfl
    |some o=>exact absurd (kf (fw q).1).2 (hex m hm)
   generalize drp [ld] (nw H H1)=J at hS sJ jpa jld jex
   refine⟨_,rfl,pa,_,dx,_,rfl,ho1,cl,no _ (by decide),(by show 4<1000;decide),?_⟩
   refine⟨_,rfl,_,rfl,pa,_,dx,_,rfl,ac,cl,no _ (by decide),(by show 4<1000;decide),?_⟩
   rw[cu]
   have sJ2:ak J (upd H1 pa (.ins c.panel dx (pf (.ref sc) (sv t) v3 v4))):=sJ.put jpa
   have ho2:(upd H1 pa (.ins c.panel dx (pf (.ref sc) (sv t) v3 v4))) pa=some (.ins c.panel dx (pf (.ref sc) (sv t) v3 v4)):=ac
   have h32:(upd H1 pa (.ins c.panel dx (pf (.ref sc) (sv t) v3 v4))) ld=some (.dK []):=by rw[ai nld];exact h3
   have kp2:Kept [pa] H (upd H1 pa (.ins c.panel dx (pf (.ref sc) (sv t) v3 v4))):=(s1.kept _).trans Kept.upd1
   show tSeq _ _ _ _ (upd H1 pa (.ins c.panel dx (pf (.ref sc) (sv t) v3 v4)))
   generalize upd H1 pa (.ins c.panel dx (pf (.ref sc) (sv t) v3 v4))=H2 at sJ2 ho2 h32 kp2
   refine⟨_,rfl,fld T.panel ho2 (by decide) rfl ⟨pa::ld::ex,sc,ld,z,rfl,?_,hS.mono sJ2,zok,fun H3 ck s3 hK=>?_⟩⟩
   ·intro m hm q
    simp only[List.mem_cons] at hm
    rcases hm with rfl|rfl|hm
    ·rw[ho2] at q;cases q
    ·rw[h32] at q;cases q
    ·by_cases e:m=pa
     ·rw[e,ho2] at q;cases q
     ·cases e':H m with
      |none=>exact hex m hm e'
      |some o=>rw[kp2 m o e' (by simp[e])] at q;cases q
   have ho3:=s3 _ _ ho2
   have h33:=s3 _ _ h32
   refine⟨_,rfl,pa,_,dx,_,rfl,ho3,cl,no _ (by decide),(by show 4<1000;decide),?_⟩
   show sFld K (gf 0) (tLst jo) "done" _ _ (upd H3 pa (.ins c.panel dx (pf (.ref sc) (sv t) (.ref ck) v4)))
   refine⟨Nat.zero_le _,fun dl hdl=>?_⟩
   have npd:dl≠pa:=fun q=>by rw[q,ac] at hdl;cases hdl
   have hdl3:H3 dl=none:=by rw[ai npd] at hdl;exact hdl
   have hdl2:H2 dl=none:=s3.free hdl3
   refine⟨_,rfl,pa,_,dx,_,rfl,(ak.new hdl) _ _ ac,cl,no _ (by decide),(by show 4<1000;decide),?_⟩
   show Q .non (upd (upd (upd H3 pa (.ins c.panel dx (pf (.ref sc) (sv t) (.ref ck) v4))) dl (.lst [])) pa (.ins c.panel dx (pf (.ref sc) (sv t) (.ref ck) (.ref dl))))
   have jdl:J dl=none:=sJ2.free hdl2
   have kk:Kept [pa] H3 (upd (upd (upd H3 pa (.ins c.panel dx (pf (.ref sc) (sv t) (.ref ck) v4))) dl (.lst [])) pa (.ins c.panel dx (pf (.ref sc) (sv t) (.ref ck) (.ref dl)))):=(Kept.upd1.trans ((ak.new hdl).kept _)).trans Kept.upd1
   have sJ4:ak J (upd (upd (upd H3 pa (.ins c.panel dx (pf (.ref sc) (sv t) (.ref ck) v4))) dl (.lst [])) pa (.ins c.panel dx (pf (.ref sc) (sv t) (.ref ck) (.ref dl)))):=Kept.same (sJ2.trans s3) kk (by intro m hm;rw[List.mem_singleton.mp hm];exact jpa)
   refine k _ dl ld sc ck ((kp2.trans (s3.kept _)).trans kk) ?_ n2 ⟨?_,?_,?_,?_,⟨rfl,fun i a e h=>by simp at h⟩,⟨[],?_,Nat.le_refl _,fun k v h=>by simp[valV_nil] at h⟩,zok⟩
   ·cases q:H dl with
    |none=>rfl
    |some o=>rw[kp2 dl o q (by simp[npd])] at hdl2;cases hdl2
   ·rw[ac]
    show _=some (HO.ins c.panel dx (pf (.ref sc) (sv z.text) (.ref ck) (.ref dl)))
    rw[tz]
   ·rw[ai npd,ac]
    rfl
   ·exact hS.np.mono (stay_of sJ4 jdl jld jex)
   ·have e2:(Rung.loaded z).c=⟨0,0,List.replicate z.relays.length 0⟩:=Lm.begun_zero z
    rw[e2]
    refine hK.np.mono (stay_of ?_ ?_ (drp_in (by simp)) fun m hm=>drp_in (by simp[hm]))
    ·exact Kept.same fu kk (by intro m hm;rw[List.mem_singleton.mp hm];exact drp_in (by simp))
    ·cases q:drp (pa::ld::ex) H3 dl with
     |none=>rfl
     |some o=>rw[(fw q).1] at hdl3;cases hdl3
   ·rw[ai nld,ai (ap (by rw[ai nld];exact h33) hdl),ai nld];exact h33
abbrev sBecome:Stmt:=bb (top 94) 2
def spBecome(c:Cs):Sp:=fun vs H Q _=>∃(e:List Addr)(pa pb dl ld dx sc ck dxa:Addr)(ds:List Addr)(p:Rung.Panel)(n:Nat)(v1 v2 v3 v4:V),vs=[.ref pa,.ref pb]/\PanS c e H pb dl ld dx sc ck ds p n/\H pa=some (.ins c.panel dxa (pf v1 v2 v3 v4))/\pa≠pb/\∀ H',Kept [pa] H H'->PanS c e H' pa dl ld dxa sc ck ds p n->Q .non H'
theorem scBecome:au ["self","other"] ["self","other"] (al sBecome):=⟨rfl,rfl,rfl,by decide +kernel,rfl,by decide +kernel,by decide +kernel⟩
theorem okBecome{f:Addr}{fd:FuncData}(F:Fun K "become" "Panel.become" sBecome f fd)(T:Ts K c):bq P w K mg base CX0 1 f fd ["self","other"] (spBecome c):=by
 refine F.ok scBecome (fun vs H Q E h=>?_) (fun cdv A outer s H vs Q E hr h=>?_)
 ·obtain⟨_,_,_,_,_,_,_,_,_,_,_,_,_,_,_,_,rfl,_⟩:=h
  rfl
 ·obtain⟨ex,pa,pb,dl,ld,dx,sc,ck,dxa,ds,p,n,v1,v2,v3,v4,rfl,hP,ho,ne,k⟩:=h
  have cl:=T.panel.cl
  have no:=T.panel.no
  refine⟨_,ae (bg (pv 0) (ao (pv 1) rfl) rfl) (ae (bg (pv 0) (ao (pv 1) rfl) rfl) (ae (bg (pv 0) (ao (pv 1) rfl) rfl) (ah (bg (pv 0) (ao (pv 1) rfl) rfl)))),?_⟩
  have pb':∀{o:HO},(upd H pa o) pb=_:=fun{o}=>(ai ne.symm).trans hP.obj
  refine⟨_,rfl,fld T.panel hP.obj (by decide) rfl ⟨_,rfl,pa,_,dxa,_,rfl,ho,cl,no _ (by decide),(by show 4<1000;decide),?_⟩⟩
  refine⟨_,rfl,fld T.panel pb' (by decide) rfl ⟨_,rfl,pa,_,dxa,_,rfl,ac,cl,no _ (by decide),(by show 4<1000;decide),?_⟩⟩
  rw[cu]
  refine⟨_,rfl,fld T.panel pb' (by decide) rfl ⟨_,rfl,pa,_,dxa,_,rfl,ac,cl,no _ (by decide),(by show 4<1000;decide),?_⟩⟩
  rw[cu]
  refine⟨_,rfl,fld T.panel pb' (by decide) rfl ⟨_,rfl,pa,_,dxa,_,rfl,ac,cl,no _ (by decide),(by show 4<1000;decide),?_⟩⟩
  rw[cu]
  have st:=gy (dl:=dl) (ld:=ld) (e:=ex) (H':=upd H pa (.ins c.panel dxa (pf (.ref sc) (sv p.s.text) (.ref ck) (.ref dl)))) ho ij (Kept.upd (by simp))
  obtain⟨kvs,hk1,hk2,hk3⟩:=hP.cch
  refine k _ Kept.upd1 ⟨ac,?_,hP.sch.mono st,hP.clk.mono st,hP.dds.mono st,⟨kvs,?_,hk2,fun k v e=>?_⟩,hP.sok⟩
  ·rw[ai (eq hP.lst ho (by intro q;cases q))];exact hP.lst
  ·rw[ai (eq hk1 ho (by intro q;cases q))];exact hk1
  ·obtain⟨x,a,e1,e2,h⟩:=hk3 k v e
   exact⟨x,a,e1,e2,h.mono st⟩
def je(told:List (Nat×Nat)):List Nat:=told.flatMap fun t=>[t.1,t.2]
theorem kx(told:List (Nat×Nat)):(je told).length=2 * told.length:=by
 unfold je
 induction told with
 |nil=>rfl
 |cons t r ih=>rw[List.flatMap_cons,List.length_append,ih,List.length_cons,List.length_cons,List.length_cons,List.length_nil];omega
theorem flatT_snoc(told:List (Nat×Nat))(a b:Nat):je (told++[(a,b)])=je told++[a,b]:=by unfold je;rw[List.flatMap_append];rfl
abbrev sLamps:Stmt:=bb (top 94) 8
def spLamps(c:Cs):Sp:=fun vs H Q _=>∃(e:List Addr)(pa dl ld dx sc ck:Addr)(ds:List Addr)(s:Rung.Scheme)(k:Rung.Clock)(log:List Rung.Entry)(n:Nat),vs=[.ref pa]/\(∀ m∈e,H m≠none)/\f7 c e H pa dl ld dx sc ck ds s k log n/\n<sizeLine/\∀ H',Kept [ld] H H'->f7 c e H' pa dl ld dx sc ck ds s k log (n+1)->Q (nI (Rung.lampBits s k.x)) H'
theorem scLamps:au ["self"] ["self"] (al sLamps):=⟨rfl,rfl,rfl,by decide +kernel,rfl,by decide +kernel,by decide +kernel⟩
theorem okLamps{f:Addr}{fd:FuncData}(F:Fun K "lamps_drawn" "Panel.lamps_drawn" sLamps f fd)(T:Ts K c)(D1:Def P w K mg base CX0 5 "drawn_in" ["scheme","state"] (spDrawn c)):bq P w K mg base CX0 6 f fd ["self"] (spLamps c):=by
 refine F.ok scLamps (fun vs H Q E h=>?_) (fun cdv A outer s H vs Q E hr h=>?_)
 ·obtain⟨_,_,_,_,_,_,_,_,_,_,_,_,rfl,_⟩:=h
  rfl
 ·obtain⟨e,pa,dl,ld,dx,sc,ck,ds,z,k,log,n,rfl,he,hP,hn,q⟩:=h
  refine⟨_,ah (aw (ao (bd D1 hr (Nat.le_refl _) rfl cj (aa (ao (pv 0) rfl) (aa (ao (ao (pv 0) rfl) rfl) af))) rfl)),?_⟩
  obtain⟨dk,lw,hk1,hk2⟩:=hP.clk
  have sm:=stay_ms (dl:=dl) (ld:=ld) (e:=e) hP.obj ij
  refine⟨_,rfl,fld T.panel hP.obj (by decide) rfl ⟨_,rfl,fld T.panel hP.obj (by decide) rfl (fld T.clock (cz _ _ hk1) (by decide) rfl ?_)⟩⟩
  refine⟨pa::dl::ld::e,sc,ld,k.x,n,z,rfl,by simp,hP.mse he,hP.sch.mono sm,hP.cch.mono (ak.refl _) sm (Nat.le_refl _),hn,hP.sok,fun H' p kp hd hC=>?_⟩
  obtain⟨dd,hd⟩:=hd
  exact fld T.drawn (fu _ _ hd) (by decide) rfl (q H' kp (hP.look kp hC))
abbrev sPt:Stmt:=bb (top 94) 6
def ranOut(r:Rung.Ran):List Int:=[(r.ticks:Int),(r.turns:Int),RungPanelSeed.flag r.ended]++RungPanelSeed.nums (r.told.flatMap fun(t:Nat×Nat)=>[t.1,t.2])
def spPt(c:Cs):Sp:=fun vs H Q _=>∃(e:List Addr)(pa dl ld dx sc ck:Addr)(ds:List Addr)(s:Rung.Scheme)(k:Rung.Clock)(log:List Rung.Entry)(n most stop:Nat),vs=[.ref pa,nI most,nI stop]/\(∀ m∈e,H m≠none)/\f7 c e H pa dl ld dx sc ck ds s k log n/\most<=2000/\n+4000<sizeLine/\k.waits.length=s.relays.length/\k.ticks<Rung.WRAP/\∀ H' ck' q,Kept [pa,ld] H H'->f7 c e H' pa dl ld dx sc ck' ds s (Rung.watch s most stop k).c log (n+4000)->H' q=some (.lst ((ranOut (Rung.watch s most stop k)).map V.int))->H q=none->Q (.ref q) H'
abbrev vPt:List Str:=["self","most","stop","passed","turns","ended","seen","before","turned","quiet"]
theorem scPt:au vPt ["self","most","stop"] (al sPt):=⟨rfl,rfl,rfl,by decide +kernel,rfl,by decide +kernel,by decide +kernel⟩
theorem okPt{f:Addr}{fd:FuncData}(F:Fun K "pass_ticks" "Panel.pass_ticks" sPt f fd)(T:Ts K c)(g:G0 mg)(D1:Def P w K mg base CX0 6 "tick" ["scheme","clock"] (spTick c))(D2:Def P w K mg base CX0 2 "quiet_ticks" ["scheme","clock","most"] (spQuiet c))(D3:Def P w K mg base CX0 3 "pass_quietly" ["clock","count"] (spPass c))(D4:Def P w K mg base CX0 1 "count_ones" ["bits"] spOnes)(D5:d8 P w K mg base CX0 6 c.panel "lamps_drawn" ["self"] (spLamps c)):bq P w K mg base CX0 7 f fd ["self","most","stop"] (spPt c):=by
 refine F.ok scPt (fun vs H Q E h=>?_) (fun cdv A outer s H vs Q E hr h=>?_)
 ·obtain⟨_,_,_,_,_,_,_,_,_,_,_,_,_,_,rfl,_⟩:=h
  rfl
 ·obtain⟨e,pa,dl,ld,dx,sc,ck,ds,z,k0,log,n,most,stop,rfl,he,hP,hmost,hn,hlen0,htk0,q⟩:=h
  have cl:=T.panel.cl
  have no:=T.panel.no
  refine⟨_,ae (bc (i:=3) scPt.nd rfl (Or.inl rfl) aj) (ae (bc (i:=4) scPt.nd rfl (Or.inl rfl) aj) (ae (bc (i:=5) scPt.nd rfl (Or.inl rfl) aj) (ae (bc (i:=6) scPt.nd rfl (Or.inl rfl) (bi af)) (ae (ps_while PassesOwn.never (PW.pt (pw_and (aq op_lt (pv 3) (pv 1) rfl) (pw_and1 (aq cf (pv 5) aj rfl)))) (ae (bc (i:=7) scPt.nd rfl (Or.inl rfl) (ao (ao (pv 0) rfl) rfl)) (ae (bg (pv 0) (bd D1 hr (by decide) rfl cj (aa (ao (pv 0) rfl) (aa (ao (pv 0) rfl) af))) rfl) (ae (ku (i:=3) scPt.nd rfl (Or.inl rfl) aj mr) (ae (bc (i:=8) scPt.nd rfl (Or.inl rfl) (cp op_xor (pv 7) (ao (ao (pv 0) rfl) rfl))) (ah (bj (aq cf (pv 8) aj rfl) (ae (bc (i:=9) scPt.nd rfl (Or.inl rfl) (bd D2 hr (by decide) rfl cj (aa (ao (pv 0) rfl) (aa (ao (pv 0) rfl) (aa (cp op_sub (pv 1) (pv 3)) af))))) (ae (bg (pv 0) (bd D3 hr (by decide) rfl cj (aa (ao (pv 0) rfl) (aa (pv 9) af))) rfl) (ah (ku (i:=3) scPt.nd rfl (Or.inl rfl) (pv 9) mr)))) (ae (ku (i:=4) scPt.nd rfl (Or.inl rfl) (bd D4 hr (by decide) rfl cj (aa (pv 8) af)) mr) (ae (bt (g8 PySem.F.plainAttrs_list PySem.F.slot_list_extend PySem.F.type_list_extend mt_extend (pv 6) (aa (bi (aa (pv 8) (aa (pe_mtd0 (pv 0) cl D5 hr (by decide) cj) af))) af))) (ah (bc (i:=5) scPt.nd rfl (Or.inl rfl) (lq (aq cf (be ax rfl g.len boot_len (aa (pv 6) af)) (cp op_mul aj (pv 2)) rfl) aj aj)))))))))))) (ah (aw (cp op_cat (bi (aa (pv 3) (aa (pv 4) (aa (pv 5) af)))) (pv 6)))))))),?_⟩
  refine⟨Nat.zero_le _,fun ps hps=>?_⟩
  have hP1:=hP.out (g:=ps) (o:=.lst []) hps
  have s1:ak H (upd H ps (.lst [])):=ak.new hps
  have hs1:(upd H ps (.lst [])) ps=some (.lst []):=ac
  have np1:ps≠pa:=fun z=>by rw[z,hP.obj] at hps;cases hps
  have np2:ps≠dl:=fun z=>by rw[z,hP.lst] at hps;cases hps
  have np3:ps≠ld:=fun z=>by obtain⟨kvs,h1⟩:=hP.ld';rw[z,h1] at hps;cases hps
  have he1:∀ m∈ps::e,(upd H ps (.lst [])) m≠none:=by
   intro m hm z
   rcases List.mem_cons.mp hm with rfl|hm
   ·rw[hs1] at z;cases z
   ·exact he m hm (s1.free z)
  generalize upd H ps (.lst [])=H1 at hP1 s1 hs1 he1
  refine⟨fun m σ H'=>∃(k:Rung.Clock)(passed turns:Nat)(told:List (Nat×Nat))(ended:Bool)(ck':Addr)(n':Nat)(v7 v8 v9:Option V),m=most-passed/\σ=[some (.ref pa),some (nI most),some (nI stop),some (nI passed),some (nI turns),some (nI (thr ended)),some (.ref ps),v7,v8,v9]/\Lm.lz z most stop k0 k passed turns told ended/\f7 c (ps::e) H' pa dl ld dx sc ck' ds z k log n'/\n'<=n+2 * passed/\H' ps=some (.lst ((je told).map nI))/\Kept [pa,ld,ps] H1 H',⟨_,k0,0,0,[],false,ck,n,none,none,none,rfl,rfl,Lm.lz.start hlen0 htk0,hP1,by omega,hs1,Kept.refl _ _⟩,?_⟩
  rintro m σ H' ⟨k,passed,turns,told,ended,ck',n',v7,v8,v9,rfl,rfl,R,hC,hn',hsn,kp⟩
  have fin:¬(passed<most/\ended=false)->tRet (tOp rCat (tLst (de (gf 3) (de (gf 4) (de (gf 5) jo)))) (gf 6)) { nx:=fun _ H'=>Q .non H',rt:=Q } [some (.ref pa),some (nI most),some (nI stop),some (nI passed),some (nI turns),some (nI (thr ended)),some (.ref ps),v7,v8,v9] H':=by
   intro hz
   have wt:=R.stop hz
   refine⟨_,rfl,_,rfl,_,rfl,(by show 3<=sizeLine;decide),fun q1 hq1=>?_⟩
   have sq:=ak.new (o:=.lst [nI passed,nI turns,nI (thr ended)]) hq1
   refine⟨_,rfl,q1,ps,_,_,rfl,rfl,ac,sq _ _ hsn,?_,fun q2 hq2=>?_⟩
   ·rw[List.length_map,kx]
    have:=R.tle
    have:=R.le
    show 3+_<=_
    exact Nat.le_trans (by omega:_<=4003) (by decide)
   ·have s2:ak H' (upd (upd H' q1 (.lst [nI passed,nI turns,nI (thr ended)])) q2 (.lst ([nI passed,nI turns,nI (thr ended)]++(je told).map nI))):=sq.trans (ak.new hq2)
    have hq2':H' q2=none:=sq.free hq2
    rw[wt] at q
    have ple:=R.le
    refine q _ ck' q2 ?_ ((hC.keep s2 (m:=n+4000) (by omega)).less (fun m hm=>List.mem_cons_of_mem _ hm)) ?_ ?_
    ·have kA:Kept [pa,ld,ps] H1 _:=kp.trans (s2.kept _)
     intro b o hb hnb
     refine kA b o (s1 b o hb) ?_
     intro z
     simp only[List.mem_cons,List.not_mem_nil,or_false] at z hnb
     rcases z with z|z|z
     ·exact hnb (.inl z)
     ·exact hnb (.inr z)
     ·rw[z,hps] at hb;cases hb
    ·rw[ac]
     unfold ranOut RungPanelSeed.nums RungPanelSeed.flag je
     rw[List.map_append,List.map_map]
     have:thr ended=if ended=true then 1 else 0:=rfl
     cases ended<;>rfl
    ·cases z:H q2 with
     |none=>rfl
     |some o =>
      have h1:=s1 q2 o z
      by_cases hm:q2∈[pa,ld,ps]
      ·simp only[List.mem_cons,List.not_mem_nil,or_false] at hm
       rcases hm with hm|hm|hm
       ·rw[hm,hC.obj] at hq2';cases hq2'
       ·obtain⟨kvs,h1⟩:=hC.ld';rw[hm,h1] at hq2';cases hq2'
       ·rw[hm,hsn] at hq2';cases hq2'
      ·rw[kp q2 o h1 hm] at hq2';cases hq2'
  refine⟨_,rfl,_,rfl,_,_,rfl,rfl,_,rfl,?_⟩
  by_cases hlt:passed<most
  ·rw[decide_eq_true (by omega:((passed:Nat):Int)<((most:Nat):Int))]
   refine⟨_,rfl,rfl,_,rfl,?_⟩
   rw[show V.int 0=nI 0 from rfl,fg]
   cases ended with
   |true=>exact fin (by simp)
   |false =>
    have ple:=R.le
    have rlen:=R.len
    refine⟨fun σ' H''=>∃(k:Rung.Clock)(passed' turns:Nat)(told:List (Nat×Nat))(ended:Bool)(ck':Addr)(n':Nat)(v7 v8 v9:Option V),passed<passed'/\σ'=[some (.ref pa),some (nI most),some (nI stop),some (nI passed'),some (nI turns),some (nI (thr ended)),some (.ref ps),v7,v8,v9]/\Lm.lz z most stop k0 k passed' turns told ended/\f7 c (ps::e) H'' pa dl ld dx sc ck' ds z k log n'/\n'<=n+2 * passed'/\H'' ps=some (.lst ((je told).map nI))/\Kept [pa,ld,ps] H1 H'',fun σ' H'' ⟨k,passed',turns,told,ended,ck',n',v7,v8,v9,h0,h1,h2,h3,h4,h5,h6⟩=>⟨most-passed',by omega,k,passed',turns,told,ended,ck',n',v7,v8,v9,rfl,h1,h2,h3,h4,h5,h6⟩,?_⟩
    obtain⟨dk,lw,hk1,hk2⟩:=hC.clk
    have heH:∀ m∈ps::e,H' m≠none:=by
     intro m hm zz
     by_cases hq:m∈[pa,ld,ps]
     ·simp only[List.mem_cons,List.not_mem_nil,or_false] at hq
      rcases hq with hq|hq|hq
      ·rw[hq,hC.obj] at zz;cases zz
      ·obtain⟨kvs,h1⟩:=hC.ld';rw[hq,h1] at zz;cases zz
      ·rw[hq,hsn] at zz;cases zz
     ·cases ez:H1 m with
      |none=>exact he1 m hm ez
      |some o=>rw[kp m o ez hq] at zz;cases zz
    have sm:=stay_ms (dl:=dl) (ld:=ld) (e:=ps::e) hC.obj ij
    refine⟨_,rfl,fld T.panel hC.obj (by decide) rfl (fld T.clock (cz _ _ hk1) (by decide) rfl ?_)⟩
    refine⟨_,rfl,fld T.panel hC.obj (by decide) rfl ⟨_,rfl,fld T.panel hC.obj (by decide) rfl ?_⟩⟩
    refine⟨pa::dl::ld::ps::e,sc,ld,ck',n',z,k,rfl,by simp,hC.mse heH,hC.sch.mono sm,hC.cch.mono (ak.refl _) sm (Nat.le_refl _),by omega,hC.sok,hC.clk.mono sm,rlen,fun H2 p2 kp2 hC2 hK2=>?_⟩
    have hC2':=hC.look kp2 hC2
    have hC3:=hC2'.set (ck':=p2) (k':=Rung.tick z k) hK2.stay
    refine⟨_,rfl,pa,_,dx,_,rfl,hC2'.obj,cl,no _ (by decide),(by show 4<1000;decide),?_⟩
    show tSeq _ _ _ _ (upd H2 pa (.ins c.panel dx (pf (.ref sc) (sv z.text) (.ref p2) (.ref dl))))
    have kp3:Kept [pa,ld,ps] H1 (upd H2 pa (.ins c.panel dx (pf (.ref sc) (sv z.text) (.ref p2) (.ref dl)))):=(kp.trans (kp2.mono (by simp))).trans (Kept.upd (by simp))
    have hs3:(upd H2 pa (.ins c.panel dx (pf (.ref sc) (sv z.text) (.ref p2) (.ref dl)))) ps=some (.lst ((je told).map nI)):=by
     rw[ai np1];exact kp2 _ _ hsn (by simp[np3])
    generalize upd H2 pa (.ins c.panel dx (pf (.ref sc) (sv z.text) (.ref p2) (.ref dl)))=H3 at hC3 kp3 hs3
    have heH3:∀ m∈ps::e,H3 m≠none:=by
     intro m hm zz
     by_cases hq:m∈[pa,ld,ps]
     ·simp only[List.mem_cons,List.not_mem_nil,or_false] at hq
      rcases hq with hq|hq|hq
      ·rw[hq,hC3.obj] at zz;cases zz
      ·obtain⟨kvs,h1⟩:=hC3.ld';rw[hq,h1] at zz;cases zz
      ·rw[hq,hs3] at zz;cases zz
     ·cases ez:H1 m with
      |none=>exact he1 m hm ez
      |some o=>rw[kp3 m o ez hq] at zz;cases zz
    refine⟨_,rfl,_,_,rfl,rfl,?_⟩
    obtain⟨dk3,lw3,hk31,hk32⟩:=hC3.clk
    refine⟨_,rfl,_,rfl,fld T.panel hC3.obj (by decide) rfl (fld T.clock (cz _ _ hk31) (by decide) rfl (rxor ?_))⟩
    rw[Lm.turned_eq]
    refine⟨_,rfl,rfl,_,rfl,?_⟩
    rw[fg]
    have tlen:(Rung.tick z k).waits.length=z.relays.length:=by rw[Lm.gr];exact Lm.j1 z k
    by_cases hd:Rung.due z k=[]
    ·have e0:Rung.relayBits (Rung.due z k)=0:=by rw[hd];rfl
     rw[decide_eq_true e0]
     obtain⟨cm,ft,_⟩:=Lm.calm_tick rlen hd
     refine⟨_,rfl,fld T.panel hC3.obj (by decide) rfl ⟨_,rfl,fld T.panel hC3.obj (by decide) rfl ⟨_,rfl,_,rfl,_,_,rfl,rfl,?_⟩⟩⟩
     have em:((most:Nat):Int)-(((passed:Nat):Int)+1)=((most-(passed+1):Nat):Int):=by omega
     refine⟨sc,ld,p2,most-(passed+1),z,Rung.tick z k,?_,hC3.sch.mono cz,hC3.sok,hC3.clk.mono cz,tlen,ft,fun H4 qt s4 hq4 hf4=>?_⟩
     ·show [V.ref sc,V.ref p2,V.int (((most:Nat):Int)-(((passed:Nat):Int)+1))]=_
      rw[em]
     have hC4:=hC3.keep s4 (Nat.le_refl _)
     have heH4:∀ m∈ps::e,H4 m≠none:=fun m hm zz=>heH3 m hm (s4.free zz)
     have sm4:=stay_ms (dl:=dl) (ld:=ld) (e:=ps::e) hC4.obj ij
     refine⟨_,rfl,fld T.panel hC4.obj (by decide) rfl ⟨_,rfl,pa::dl::ld::ps::e,p2,qt,Rung.tick z k,rfl,hC4.mse heH4,hC4.clk.mono sm4,?_,fun H5 p5 s5 hK5=>?_⟩⟩
     ·rw[tlen];exact hC3.sok.rel
     have hC5:=hC4.keep s5 (Nat.le_refl _)
     have hC6:=hC5.set (ck':=p5) (k':=Lm.ig (Rung.tick z k) qt) hK5.stay
     refine⟨_,rfl,pa,_,dx,_,rfl,hC5.obj,cl,no _ (by decide),(by show 4<1000;decide),?_⟩
     refine⟨_,rfl,_,rfl,_,_,rfl,rfl,?_⟩
     refine⟨_,passed+1+qt,turns,told,false,p5,n'+1,some (nI k.x),some (nI (Rung.relayBits (Rung.due z k))),some (nI qt),by omega,?_,R.quiet hlt hd hq4 hf4,hC6,by omega,?_,(kp3.trans ((s4.trans s5).kept _)).trans (Kept.upd (by simp))⟩
     ·rfl
     ·rw[ai np1];exact s5 _ _ (s4 _ _ hs3)
    ·have e0:¬ Rung.relayBits (Rung.due z k)=0:=fun q=>hd (Lm.due_nil.mpr (by rw[<-Lm.due_bits];exact q))
     rw[decide_eq_false e0]
     refine⟨_,rfl,_,rfl,Rung.due z k,rfl,Lm.due_pw z k,_,_,rfl,rfl,?_⟩
     refine⟨_,rfl,.inl ⟨rfl,_,SqL.of hs3⟩,_,rfl,_,rfl,pa,dx,_,rfl,hC3.obj,rfl,?_⟩
     refine⟨ps::e,pa,dl,ld,dx,sc,p2,ds,z,Rung.tick z k,log,n'+1,rfl,heH3,hC3,by omega,fun H4 kp4 hC4=>?_⟩
     refine⟨(by show 2<=sizeLine;decide),fun pt hpt=>?_⟩
     have s5:=ak.new (o:=.lst [nI (Rung.relayBits (Rung.due z k)),nI (Rung.lampBits z (Rung.tick z k).x)]) hpt
     have hs4:=s5 _ _ (kp4 _ _ hs3 (by simp[np3]))
     have tle:=R.tle
     refine⟨ps,pt,_,_,rfl,rfl,hs4,ac,?_,?_⟩
     ·rw[List.length_map,kx]
      show _+2<=_
      exact Nat.le_trans (by omega:_<=4002) (by decide)
     have hC5:=(hC4.keep s5 (Nat.le_refl _)).move (g:=ps) (o:=.lst ((je told).map nI++[nI (Rung.relayBits (Rung.due z k)),nI (Rung.lampBits z (Rung.tick z k).x)])) (by simp) np1 np2 np3
     refine⟨_,rfl,ps,_,rfl,.inl (SqL.of ac),_,rfl,_,_,rfl,rfl,.inl ⟨by decide,by decide⟩,rfl,_,rfl,?_⟩
     have el:((je told).map nI++[nI (Rung.relayBits (Rung.due z k)),nI (Rung.lampBits z (Rung.tick z k).x)]).length=2 * (told.length+1):=by
      rw[List.length_append,List.length_map,kx]
      show _+2=_
      omega
     rw[el]
     have e2:decide (V.int (((2 * (told.length+1):Nat):Int))=V.int (2 * ((stop:Nat):Int)))=decide (told.length+1=stop):=by
      rw[show V.int (2 * ((stop:Nat):Int))=nI (2 * stop) from by show V.int _=V.int _;congr 1,fg]
      by_cases hz:told.length+1=stop
      ·rw[decide_eq_true hz,decide_eq_true (by omega)]
      ·rw[decide_eq_false hz,decide_eq_false (by omega)]
     have RR:=R.turn hlt hd
     have hfl:(upd (upd H4 pt (.lst [nI (Rung.relayBits (Rung.due z k)),nI (Rung.lampBits z (Rung.tick z k).x)])) ps (.lst ((je told).map nI++[nI (Rung.relayBits (Rung.due z k)),nI (Rung.lampBits z (Rung.tick z k).x)]))) ps=some (.lst ((je (told++[(Rung.relayBits (Rung.due z k),Rung.lampBits z (Rung.tick z k).x)])).map nI)):=by
      rw[ac,flatT_snoc,List.map_append]
      rfl
     have kpl:=((kp3.trans (kp4.mono (by simp))).trans (s5.kept _)).trans (Kept.upd (p:=ps) (o:=.lst ((je told).map nI++[nI (Rung.relayBits (Rung.due z k)),nI (Rung.lampBits z (Rung.tick z k).x)])) (by simp))
     refine ite2 (fun h=>?_) (fun h=>?_)
     ·have hb:decide (told.length+1=stop)=true:=e2.symm.trans h
      rw[hb] at RR
      exact⟨_,passed+1,turns+(Rung.due z k).length,_,true,p2,n'+1+1,some (nI k.x),some (nI (Rung.relayBits (Rung.due z k))),v9,by omega,rfl,RR,hC5,by omega,hfl,kpl⟩
     ·have hb:decide (told.length+1=stop)=false:=by
       cases q:decide (told.length+1=stop) with
       |false=>rfl
       |true=>exact absurd (e2.trans q) h
      rw[hb] at RR
      exact⟨_,passed+1,turns+(Rung.due z k).length,_,false,p2,n'+1+1,some (nI k.x),some (nI (Rung.relayBits (Rung.due z k))),v9,by omega,rfl,RR,hC5,by omega,hfl,kpl⟩
  ·rw[decide_eq_false (by omega:¬((passed:Nat):Int)<((most:Nat):Int))]
   exact fin (fun z=>hlt z.1)
theorem g9.snoc{c:Cs}{G:Hp}{ds:List Addr}{s:Rung.Scheme}{log:List Rung.Entry}(h:g9 c G ds s log){a dx cb:Addr}{en:Rung.Entry}(h1:G a=some (.ins c.deed dx [("line",sv (Rung.entryText s en)),("before",.ref cb)]))(h2:cw c G cb (RungPanelSeed.again s log).c):g9 c G (ds++[a]) s (log++[en]):=by
 refine⟨by rw[List.length_append,List.length_append,h.1];rfl,fun i b en' e1 e2=>?_⟩
 rw[List.getElem?_append] at e1 e2
 rw[h.1] at e1
 by_cases hi:i<log.length
 ·rw[if_pos hi] at e1 e2
  rw[List.take_append_of_le_length (by omega)]
  exact h.2 i b en' e1 e2
 ·rw[if_neg hi] at e1 e2
  have m1:=List.mem_singleton.mp (List.mem_of_getElem? e1)
  have m2:=List.mem_singleton.mp (List.mem_of_getElem? e2)
  have il:i-log.length<1:=(List.getElem?_eq_some_iff.mp e2).1
  have:i=log.length:=by omega
  rw[m1,m2,this,List.take_left' rfl]
  exact⟨dx,cb,h1,h2⟩
theorem lu(a:Addr):decide (V.ref a=V.non)=false:=rfl
abbrev sPress:Stmt:=bb (top 94) 4
def spPress(c:Cs):Sp:=fun vs H Q _=>∃(e:List Addr)(pa:Addr)(i on:Int)(st:RungPanelSeed.State)(n:Nat)(ms:List Addr),vs=[.ref pa,.int i,.int on]/\(∀ m∈e,H m≠none)/\Pan c e H pa st n ms/\∀ H' q,Did c e H pa ms (PanelNeutral.step st [[2,i,on]]).1 n (PanelNeutral.step st [[2,i,on]]).2 H' q->Q (.ref q) H'
abbrev vPress:List Str:=["self","place","on","line"]
theorem scPress:au vPress ["self","place","on"] (al sPress):=⟨rfl,rfl,rfl,by decide +kernel,rfl,by decide +kernel,by decide +kernel⟩
theorem bit_eq(x j:Nat)(o:Int)(h:0<=o/\o<=1):decide (V.int (Builtin.bitAnd ((x:Int) / 2 ^ ((j:Int).toNat)) 1)=V.int o)=decide (x.testBit j=(o==1)):=by
 have:=lets_eq x j (o==1)
 have e:nI (thr (o==1))=V.int o:=by
  have:o=0\/o=1:=by omega
  rcases this with rfl|rfl<;>rfl
 rw[e] at this
 rw[this,Lm.on_eq,Bool.beq_eq_decide_eq]
theorem okPress{f:Addr}{fd:FuncData}(F:Fun K "press" "Panel.press" sPress f fd)(T:Ts K c)(g:G0 mg)(D1:Def P w K mg base CX0 1 "thing_line" ["word","what"] spLine)(D2:Def P w K mg base CX0 3 "with_input_turned" ["clock","place"] (spWith c))(M:MkD P w K mg base "Deed" c.deed nDeed):bq P w K mg base CX0 4 f fd ["self","place","on"] (spPress c):=by
 refine F.ok scPress (fun vs H Q E h=>?_) (fun cdv A outer s H vs Q E hr h=>?_)
 ·obtain⟨_,_,_,_,_,_,_,rfl,_⟩:=h
  rfl
 ·obtain⟨e,pa,i,on,st,n,ms,rfl,he,hP,k⟩:=h
  have cl:=T.panel.cl
  have no:=T.panel.no
  refine⟨_,ae (bj (aq op_isN (ao (pv 0) rfl) pe_non rfl) (ah (aw (bi (aa (ay g.NO_SCHEME rfl) af)))) az) (ae (bj (jm (j8 lj lj aj (pv 2) aj)) (ah (aw (bi (aa (ay g.OUT_OF_BOUNDS rfl) af)))) az) (ae (bj (jm (j8 lj op_lt aj (pv 1) (be ax rfl g.len boot_len (aa (ao (ao (pv 0) rfl) rfl) af)))) (ah (aw (bi (aa (ay g.NO_SUCH_INPUT rfl) af)))) az) (ae (bj (aq cf (cp op_and (cp op_shr (ao (ao (pv 0) rfl) rfl) (pv 1)) aj) (pv 2) rfl) (ah (aw (bi (aa aj (aa aj af))))) az) (ae (bj (aq op_ge (be ax rfl g.len boot_len (aa (ao (pv 0) rfl) af)) (ay g.MOST_DONE rfl) rfl) (ah (aw (bi (aa (ay g.FULL rfl) af)))) az) (ae (bc (i:=3) scPress.nd rfl (Or.inl rfl) (bd D1 hr (by decide) rfl cj (aa (lq (aq cf (pv 2) aj rfl) (ay g.PRESS_WORD rfl) (ay g.LET_WORD rfl)) (aa (bo ba (ao (ao (pv 0) rfl) rfl) (pv 1) (fun _ _=>rfl)) af)))) (ae (bt (g8 PySem.F.plainAttrs_list PySem.F.slot_list_append PySem.F.type_list_append cv (ao (pv 0) rfl) (aa (gg M hr (by decide) rfl (aa (pv 3) (aa (ao (pv 0) rfl) af))) af))) (ae (bg (pv 0) (bd D2 hr (by decide) rfl cj (aa (ao (pv 0) rfl) (aa (pv 1) af))) rfl) (ah (aw (bi (aa aj (aa aj af)))))))))))) ,?_⟩
  cases st with
  |none =>
   have hP':=hP
   obtain⟨dl,dx,rfl,h1,h2⟩:=hP
   refine⟨_,rfl,fld T.panel h1 (by decide) rfl ⟨rfl,_,rfl,?_⟩⟩
   exact⟨(by show 1<=sizeLine;decide),fun q hq=>k _ q (Did.same hP' (ak.new hq) (Nat.le_refl _) hq ac)⟩
  |some p =>
   have hP':=hP
   obtain⟨dl,ld,dx,sc,ck,ds,rfl,hC,pok,few⟩:=hP
   rw[Lm.step_press] at k
   have hinp:∃ dsc li lr ll lc,H sc=some (.ins c.scheme dsc [("inputs",.ref li),("relays",.ref lr),("lamps",.ref ll),("contacts",.ref lc),("looked_at",.ref ld)])/\H li=some (.lst (p.s.inputs.map sv)):=by
    obtain⟨dsc,li,lr,ll,lc,h1,h2⟩:=hC.sch
    exact⟨dsc,li,lr,ll,lc,cz _ _ h1,cz _ _ h2.inp⟩
   obtain⟨dsc,li,lr,ll,lc,hsc,hli⟩:=hinp
   obtain⟨dk,lw,hk1,hk2⟩:=hC.clk
   have hk1':=cz _ _ hk1
   refine⟨_,rfl,fld T.panel hC.obj (by decide) rfl ⟨rfl,_,rfl,?_⟩⟩
   rw[lu]
   refine⟨_,rfl,_,_,rfl,rfl,_,rfl,?_⟩
   by_cases c1:0<=on/\on<=1
   ·rw[decide_eq_true c1.1]
    refine⟨_,_,rfl,rfl,_,rfl,?_⟩
    rw[decide_eq_true c1.2]
    rw[if_neg (not_not_intro c1)] at k
    refine⟨_,rfl,_,_,rfl,rfl,_,rfl,?_⟩
    by_cases c2:0<=i/\i<(p.s.inputs.length:Int)
    ·rw[decide_eq_true c2.1]
     refine⟨_,rfl,fld T.panel hC.obj (by decide) rfl (fld T.scheme hsc (by decide) rfl ⟨li,_,rfl,.inl (SqL.of hli),_,_,rfl,rfl,_,rfl,?_⟩)⟩
     rw[List.length_map,decide_eq_true c2.2]
     rw[if_neg (not_not_intro c2)] at k
     obtain⟨j,rfl⟩:∃ j:Nat,i=(j:Int):=⟨i.toNat,by omega⟩
     have jl:j<p.s.inputs.length:=by omega
     rw[Int.toNat_natCast] at k
     refine⟨_,rfl,fld T.panel hC.obj (by decide) rfl (fld T.clock hk1' (by decide) rfl ⟨_,rfl,_,_,rfl,rfl,(by show(0:Int)<=_;omega),_,_,rfl,rfl,_,rfl,rfl,_,rfl,?_⟩)⟩
     rw[bit_eq _ _ _ c1]
     by_cases c3:p.c.x.testBit j=(on==1)
     ·rw[decide_eq_true c3]
      rw[if_pos c3] at k
      exact⟨(by show 2<=sizeLine;decide),fun q hq=>k _ q (Did.same hP' (ak.new hq) (Nat.le_refl _) hq ac)⟩
     ·rw[decide_eq_false c3]
      rw[if_neg c3] at k
      refine⟨_,rfl,fld T.panel hC.obj (by decide) rfl ⟨dl,_,rfl,.inl (SqL.of hC.lst),_,_,rfl,rfl,_,rfl,?_⟩⟩
      rw[List.length_map,hC.dds.1]
      by_cases c4:200<=p.log.length
      ·rw[decide_eq_true (by omega:(200:Int)<=((p.log.length:Nat):Int))]
       rw[if_pos c4] at k
       exact⟨(by show 1<=sizeLine;decide),fun q hq=>k _ q (Did.same hP' (ak.new hq) (Nat.le_refl _) hq ac)⟩
      ·rw[decide_eq_false (by omega:¬(200:Int)<=((p.log.length:Nat):Int))]
       rw[if_neg c4] at k
       have gi:p.s.inputs[j]?=some (p.s.inputs.getD j []):=by rw[List.getD_eq_getElem?_getD,List.getElem?_eq_getElem jl];rfl
       have nl:(p.s.inputs.getD j []).length<=12:=Lm.isName_len (hC.sok.nm _ (List.mem_of_getElem? gi))
       have ew:decide (V.int on=V.int 1)=(on==1):=by
        have:on=0\/on=1:=by omega
        rcases this with rfl|rfl<;>rfl
       have fmt:FmtOk (sv (p.s.inputs.getD j [])) (strOf (p.s.inputs.getD j [])):=.inl ⟨rfl,by rw[bf];exact Nat.le_of_lt (bw (by omega))⟩
       have ag:(RungPanelSeed.again p.s p.log).c=p.c:=congrArg Rung.Panel.c pok.ag.symm
       refine⟨_,rfl,rfl,_,rfl,?_⟩
       rw[ew]
       cases hb:(on==1)
       all_goals
        rw[hb] at k
        refine⟨_,rfl,fld T.panel hC.obj (by decide) rfl (fld T.scheme hsc (by decide) rfl ⟨_,rfl,li,_,_,_,rfl,rfl,SqL.of hli,bu (gv gi),?_⟩)⟩
        refine⟨nr (on==1),p.s.inputs.getD j [],_,(by rw[hb];first|(rw[lit_let];rfl)|(rw[lit_press];rfl)),fmt,?_,?_⟩
        ·rw[hb]
         have:(nr false).length<=5:=by decide
         have:(nr true).length<=5:=by decide
         omega
        rw[hb]
        refine⟨_,rfl,fld T.panel hC.obj (by decide) rfl ⟨.inl ⟨rfl,_,SqL.of hC.lst⟩,_,rfl,_,rfl,fld T.panel hC.obj (by decide) rfl ⟨rfl,fun a da H2 na s2 ha=>?_⟩⟩⟩
        have hC2:=hC.keep s2 (Nat.le_refl _)
        refine⟨dl,_,_,rfl,rfl,hC2.lst,?_,?_⟩
        ·rw[List.length_map,hC.dds.1];exact bw (by omega)
        have st2:=stay_ms (dl:=dl) (ld:=ld) (e:=e) hC2.obj ij
        have am:a∉pa::dl::ld::e:=fun z=>hC.mse he a z na
        have ha2:stay dl ld e H2 a=some (.ins c.deed da [("line",sv (nr _++(32::p.s.inputs.getD j [])++[10])),("before",.ref ck)]):=to_stay (pa:=pa) (by rw[ip am];exact ha) (by first|rfl|decide)
        have dd:=hC2.dds.snoc (en:=.press j _) (by rw[Lm.entry_press];exact ha2) (by rw[ag];exact hC2.clk)
        have hC3:=hC2.done dd
        have em:(ds.map V.ref++[V.ref a])=(ds++[a]).map V.ref:=by rw[List.map_append];rfl
        rw[em]
        have kp3:Kept [pa,dl,ld] H (upd H2 dl (.lst ((ds++[a]).map V.ref))):=(s2.kept _).trans (Kept.upd (by simp))
        have he3:∀ m∈e,(upd H2 dl (.lst ((ds++[a]).map V.ref))) m≠none:=fun m hm z=>by
         by_cases q:m=dl
         ·rw[q,ac] at z;cases z
         ·rw[ai q] at z
          exact he m hm (s2.free z)
        generalize upd H2 dl (.lst ((ds++[a]).map V.ref))=H3 at hC3 kp3 he3
        have sm3:=stay_ms (dl:=dl) (ld:=ld) (e:=e) hC3.obj ij
        refine⟨_,rfl,fld T.panel hC3.obj (by decide) rfl ⟨_,rfl,pa::dl::ld::e,ck,p.c,j,rfl,?_,hC3.mse he3,hC3.clk.mono sm3,fun H4 p4 s4 hK4=>?_⟩⟩
        ·have:=hC.sok.inp;omega
        have hC4:=hC3.keep s4 (Nat.le_refl _)
        have hC5:=hC4.set hK4.stay
        refine⟨_,rfl,pa,_,dx,_,rfl,hC4.obj,cl,no _ (by decide),(by show 4<1000;decide),?_⟩
        refine⟨(by show 2<=sizeLine;decide),fun q hq=>k _ q ?_⟩
        have kp5:Kept [pa,dl,ld] H (upd H4 pa (.ins c.panel dx (pf (.ref sc) (sv p.s.text) (.ref p4) (.ref dl)))):=(kp3.trans (s4.kept _)).trans (Kept.upd (by simp))
        have hq':(upd H4 pa (.ins c.panel dx (pf (.ref sc) (sv p.s.text) (.ref p4) (.ref dl)))) q=none:=hq
        refine⟨[pa,dl,ld],kp5.trans ((ak.new hq').kept _),fun m hm=>.inl hm,⟨dl,ld,dx,sc,p4,ds++[a],rfl,?_,pok.press jl (by omega),few⟩,ac,?_,?_⟩
        ·have:=hC5.keep (ak.new (o:=.lst [V.int 0,V.int 1]) hq') (Nat.le_refl n)
         rw[<-Lm.pressed_eq p.c j] at this
         exact this
        ·cases z:H q with
         |none=>rfl
         |some o =>
          by_cases hm:q∈[pa,dl,ld]
          ·exact absurd hq' (hC5.ms q hm)
          ·rw[kp5 q o z hm] at hq';cases hq'
        ·exact fun hm=>hC5.ms q hm hq'
    ·rw[if_pos c2] at k
     have fin:tRet (tLst (de (tC (V.int (-4))) jo)) { nx:=fun _ _=>False,rt:=Q } [some (.ref pa),some (.int i),some (.int on),none] H:=⟨(by show 1<=sizeLine;decide),fun q hq=>k _ q (Did.same hP' (ak.new hq) (Nat.le_refl _) hq ac)⟩
     by_cases c3:0<=i
     ·rw[decide_eq_true c3]
      refine⟨_,rfl,fld T.panel hC.obj (by decide) rfl (fld T.scheme hsc (by decide) rfl ⟨li,_,rfl,.inl (SqL.of hli),_,_,rfl,rfl,_,rfl,?_⟩)⟩
      rw[List.length_map,decide_eq_false (fun z=>c2 ⟨c3,z⟩)]
      exact fin
     ·rw[decide_eq_false c3]
      exact⟨_,rfl,fin⟩
   ·rw[if_pos c1] at k
    have fin:tRet (tLst (de (tC (V.int (-1))) jo)) { nx:=fun _ _=>False,rt:=Q } [some (.ref pa),some (.int i),some (.int on),none] H:=⟨(by show 1<=sizeLine;decide),fun q hq=>k _ q (Did.same hP' (ak.new hq) (Nat.le_refl _) hq ac)⟩
    by_cases c3:0<=on
    ·rw[decide_eq_true c3]
     refine⟨_,_,rfl,rfl,_,rfl,?_⟩
     rw[decide_eq_false (fun z=>c1 ⟨c3,z⟩)]
     exact fin
    ·rw[decide_eq_false c3]
     exact⟨_,rfl,fin⟩
theorem mem3{m pa dl ld:Addr}{e:List Addr}(h:m∈[pa,dl,ld]):m∈pa::dl::ld::e:=by
 simp only[List.mem_cons,List.not_mem_nil,or_false] at h
 rcases h with h|h|h<;>simp[h]
theorem watch_zero_c{s:Rung.Scheme}{n k:Nat}{c:Rung.Clock}(h:(Rung.watch s n k c).ticks=0):(Rung.watch s n k c).c=c:=by
 cases n with
 |zero=>rfl
 |succ n =>
  exfalso
  by_cases hd:Rung.due s c=[]
  ·rw[Lm.db hd] at h
   simp only[Lm.du] at h
   omega
  ·by_cases hk:k=1
   ·subst hk
    rw[Lm.iz hd] at h
    cases h
   ·rw[Lm.ee hd hk] at h
    simp only[Lm.du] at h
    omega
abbrev sRun:Stmt:=bb (top 94) 5
def spRun(c:Cs):Sp:=fun vs H Q _=>∃(e:List Addr)(pa:Addr)(i on:Int)(st:RungPanelSeed.State)(n:Nat)(ms:List Addr),vs=[.ref pa,.int i,.int on]/\(∀ m∈e,H m≠none)/\Pan c e H pa st n ms/\n+4000<sizeLine/\∀ H' q,Did c e H pa ms (PanelNeutral.step st [[3,i,on]]).1 (n+4000) (PanelNeutral.step st [[3,i,on]]).2 H' q->Q (.ref q) H'
abbrev vRun:List Str:=["self","most","stop","before","outcome"]
theorem scRun:au vRun ["self","most","stop"] (al sRun):=⟨rfl,rfl,rfl,by decide +kernel,rfl,by decide +kernel,by decide +kernel⟩
theorem okRun{f:Addr}{fd:FuncData}(F:Fun K "run" "Panel.run" sRun f fd)(T:Ts K c)(g:G0 mg)(D1:Def P w K mg base CX0 1 "thing_line" ["word","what"] spLine)(D2:d8 P w K mg base CX0 7 c.panel "pass_ticks" ["self","most","stop"] (spPt c))(M:MkD P w K mg base "Deed" c.deed nDeed):bq P w K mg base CX0 8 f fd ["self","most","stop"] (spRun c):=by
 refine F.ok scRun (fun vs H Q E h=>?_) (fun cdv A outer s H vs Q E hr h=>?_)
 ·obtain⟨_,_,_,_,_,_,_,rfl,_⟩:=h
  rfl
 ·obtain⟨e,pa,i,on,st,n,ms,rfl,he,hP,hn,k⟩:=h
  have cl:=T.panel.cl
  have no:=T.panel.no
  refine⟨_,ae (bj (aq op_isN (ao (pv 0) rfl) pe_non rfl) (ah (aw (bi (aa (ay g.NO_SCHEME rfl) af)))) az) (ae (bj (PW.pt (pw_or (jm (j8 lj lj aj (pv 1) (ay g.MOST_TICKS rfl))) (pw_or1 (jm (j8 lj lj aj (pv 2) (ay g.MOST_TICKS rfl)))))) (ah (aw (bi (aa (ay g.OUT_OF_BOUNDS rfl) af)))) az) (ae (bj (PW.pt (pw_and (aq op_gt (pv 1) aj rfl) (pw_and1 (aq op_ge (be ax rfl g.len boot_len (aa (ao (pv 0) rfl) af)) (ay g.MOST_DONE rfl) rfl)))) (ah (aw (bi (aa (ay g.FULL rfl) af)))) az) (ae (bc (i:=3) scRun.nd rfl (Or.inl rfl) (ao (pv 0) rfl)) (ae (bc (i:=4) scRun.nd rfl (Or.inl rfl) (ni (pv 0) cl D2 hr (by decide) cj (aa (pv 1) (aa (pv 2) af)))) (ae (bj (aq op_gt (bo ba (pv 4) aj (fun _ _=>rfl)) aj rfl) (ah (bt (g8 PySem.F.plainAttrs_list PySem.F.slot_list_append PySem.F.type_list_append cv (ao (pv 0) rfl) (aa (gg M hr (by decide) rfl (aa (bd D1 hr (by decide) rfl cj (aa (ay g.RUN_WORD rfl) (aa (bo ba (pv 4) aj (fun _ _=>rfl)) af))) (aa (pv 3) af))) af)))) az) (ah (aw (cp op_cat (bi (aa aj af)) (pv 4))))))))) ,?_⟩
  cases st with
  |none =>
   have hP':=hP
   obtain⟨dl,dx,rfl,h1,h2⟩:=hP
   refine⟨_,rfl,fld T.panel h1 (by decide) rfl ⟨rfl,_,rfl,?_⟩⟩
   exact⟨(by show 1<=sizeLine;decide),fun q hq=>k _ q (Did.same hP' (ak.new hq) (by omega) hq ac)⟩
  |some p =>
   have hP':=hP
   obtain⟨dl,ld,dx,sc,ck,ds,rfl,hC,pok,few⟩:=hP
   rw[Lm.step_run] at k
   refine⟨_,rfl,fld T.panel hC.obj (by decide) rfl ⟨rfl,_,rfl,?_⟩⟩
   rw[lu]
   refine⟨_,rfl,_,_,rfl,rfl,_,rfl,?_⟩
   by_cases c1:(0<=i/\i<=2000)/\(0<=on/\on<=2000)
   ·rw[if_neg (not_not_intro c1)] at k
    rw[decide_eq_true c1.1.1]
    refine⟨_,_,rfl,rfl,_,rfl,?_⟩
    rw[decide_eq_true c1.1.2]
    refine⟨_,rfl,_,_,rfl,rfl,_,rfl,?_⟩
    rw[decide_eq_true c1.2.1]
    refine⟨_,_,rfl,rfl,_,rfl,?_⟩
    rw[decide_eq_true c1.2.2]
    obtain⟨im,rfl⟩:∃ j:Nat,i=(j:Int):=⟨i.toNat,by omega⟩
    obtain⟨om,rfl⟩:∃ j:Nat,on=(j:Int):=⟨on.toNat,by omega⟩
    rw[Int.toNat_natCast,Int.toNat_natCast] at k
    have main:¬(0<im/\200<=p.log.length)->tSeq (tAsg (tFld K (gf 0) "clock") (gName 3)) (tSeq (tAsg (tMtd c.panel "pass_ticks" (spPt c) E0 (gf 0) (de (gf 1) (de (gf 2) jo))) (gName 4)) (tSeq (tIfS (tTest (tOp (rI0 fun i j=>.bl (decide (j<i))) (tOp (rIxL K) (gf 4) (tC (V.int 0))) (tC (V.int 0))))
      (tDrop (tBM K "list" rAppend (tFld K (gf 0) "done") (de (tMkd c.deed nDeed (de (tCal spLine E0 (de (tC (V.str "run")) (de (tOp (rIxL K) (gf 4) (tC (V.int 0))) jo))) (de (gf 3) jo))) jo))) tNext) (tRet (tOp rCat (tLst (de (tC (V.int 0)) jo)) (gf 4))))) { nx:=fun _ H'=>Q .non H',rt:=Q } [some (.ref pa),some (nI im),some (nI om),none,none] H:=by
     intro c2
     rw[if_neg (fun z=>c2 ⟨by omega,z.2⟩)] at k
     refine⟨_,rfl,fld T.panel hC.obj (by decide) rfl ?_⟩
     refine⟨_,rfl,pa,dx,_,rfl,hC.obj,rfl,_,rfl,_,rfl,?_⟩
     refine⟨e,pa,dl,ld,dx,sc,ck,ds,p.s,p.c,p.log,n,im,om,rfl,he,hC,by omega,hn,pok.len,pok.tk,fun H2 ck2 q2 kp2 hC2 hq2 nq2=>?_⟩
     generalize hw:Rung.watch p.s im om p.c=r at k hC2 hq2
     have tle:r.ticks<=im:=by rw[<-hw];exact Lm.g7 _ _ _
     have told_le:r.told.length<=im:=by rw[<-hw];exact Lm.jb _ _ _
     have olen:(ranOut r).length<=4003:=by
      unfold ranOut RungPanelSeed.nums
      rw[List.length_append,List.length_map]
      have:=kx r.told
      unfold je at this
      rw[this]
      show 3+_<=_
      omega
     have at0:atI ((ranOut r).map V.int) (0:Int)=some (nI r.ticks):=bu (j:=0) rfl
     refine⟨_,rfl,q2,_,_,_,rfl,rfl,SqL.of hq2,at0,_,_,rfl,rfl,_,rfl,?_⟩
     have ans:∀(H3:Hp)(p':Rung.Panel)(ds':List Addr),Kept [pa,dl,ld] H H3->PanS c e H3 pa dl ld dx sc ck2 ds' p' (n+4000)->Lm.POk p'->p'.s=p.s->H3 q2=some (.lst ((ranOut r).map V.int))->(if r.ticks=0 then p else ⟨p.s,r.c,p.log++[.ran r.ticks]⟩)=p' ->
       tRet (tOp rCat (tLst (de (tC (V.int 0)) jo)) (gf 4)) { nx:=fun _ H'=>Q .non H',rt:=Q } [some (.ref pa),some (nI im),some (nI om),some (.ref ck),some (.ref q2)] H3:=by
      intro H3 p' ds' kp3 hC3 pok3 es hq3 ep
      rw[ep] at k
      refine⟨(by show 1<=sizeLine;decide),fun q3 hq3n=>?_⟩
      have s3:=ak.new (o:=.lst [V.int 0]) hq3n
      refine⟨_,rfl,q3,q2,_,_,rfl,rfl,ac,s3 _ _ hq3,?_,fun q4 hq4=>?_⟩
      ·rw[List.length_map]
       show 1+_<=_
       exact Nat.le_trans (by omega:_<=4004) (by decide)
      have s4:=s3.trans (ak.new (o:=.lst ([V.int 0]++(ranOut r).map V.int)) hq4)
      have nq4:H3 q4=none:=s3.free hq4
      refine k _ q4 ⟨[pa,dl,ld],kp3.trans (s4.kept _),fun m hm=>.inl hm,⟨dl,ld,dx,sc,ck2,ds',rfl,hC3.keep s4 (Nat.le_refl _),pok3,by rw[es];exact few⟩,?_,?_,fun hm=>hC3.ms q4 hm nq4⟩
      ·rw[ac]
       rfl
      ·cases z:H q4 with
       |none=>rfl
       |some o =>
        by_cases hm:q4∈[pa,dl,ld]
        ·exact absurd nq4 (hC3.ms q4 hm)
        ·rw[kp3 q4 o z hm] at nq4;cases nq4
     have kp2':Kept [pa,dl,ld] H H2:=kp2.mono (by simp)
     by_cases t0:r.ticks=0
     ·rw[decide_eq_false (by omega:¬(0:Int)<((r.ticks:Nat):Int))]
      have ec:r.c=p.c:=by rw[<-hw];exact watch_zero_c (by rw[hw];exact t0)
      rw[ec] at hC2
      exact ans H2 p ds kp2' hC2 pok rfl hq2 (by rw[if_pos t0])
     ·rw[decide_eq_true (by omega:(0:Int)<((r.ticks:Nat):Int))]
      have c3:p.log.length<200:=by
       have:0<im:=by omega
       by_cases q:200<=p.log.length
       ·exact absurd ⟨this,q⟩ c2
       ·omega
      have tmax:r.ticks<=2000:=by omega
      have fmt:FmtOk (nI r.ticks) (strOf (Rung.decimal r.ticks)):=.inr ⟨_,rfl,log2_small (by omega),(num_text r.ticks).symm⟩
      refine⟨_,rfl,fld T.panel hC2.obj (by decide) rfl ⟨.inl ⟨rfl,_,SqL.of hC2.lst⟩,?_⟩⟩
      refine⟨_,rfl,q2,_,_,_,rfl,rfl,SqL.of hq2,at0,ascii "run",Rung.decimal r.ticks,_,(by rw[lit_run]),fmt,?_,?_⟩
      ·have:=Lm.decimal_len tmax
       have:(ascii "run").length=3:=by decide
       omega
      refine⟨_,rfl,rfl,fun a da H3 na s3 ha=>?_⟩
      have hC3:=hC2.keep s3 (Nat.le_refl _)
      refine⟨dl,_,_,rfl,rfl,hC3.lst,?_,?_⟩
      ·rw[List.length_map,hC.dds.1];exact bw (by omega)
      have heH2:∀ m∈e,H2 m≠none:=fun m hm z=>by
       by_cases q:m∈[pa,dl,ld]
       ·exact hC2.ms m q z
       ·cases ez:H m with
        |none=>exact he m hm ez
        |some o=>rw[kp2' m o ez q] at z;cases z
      have am:a∉pa::dl::ld::e:=fun z=>hC2.mse heH2 a z na
      have ha3:stay dl ld e H3 a=some (.ins c.deed da [("line",sv (ascii "run"++(32::Rung.decimal r.ticks)++[10])),("before",.ref ck)]):=to_stay (pa:=pa) (by rw[ip am];exact ha) (by first|rfl|decide)
      have ag:(RungPanelSeed.again p.s p.log).c=p.c:=congrArg Rung.Panel.c pok.ag.symm
      have ckl:cw c (stay dl ld e H3) ck p.c:=hC.clk.mono (gy hC.obj ij ((kp2'.trans (s3.kept _)).mono (fun m hm=>mem3 hm)))
      have dd:=hC3.dds.snoc (en:=.ran r.ticks) (by rw[Lm.entry_ran];exact ha3) (by rw[ag];exact ckl)
      have hC4:=hC3.done dd
      have em:(ds.map V.ref++[V.ref a])=(ds++[a]).map V.ref:=by rw[List.map_append];rfl
      rw[em]
      have nq:q2≠dl:=fun z=>by rw[z,hC.lst] at nq2;cases nq2
      have pk:=pok.ran (n:=im) (k:=om) (by omega) c3
      rw[hw] at pk
      exact ans _ ⟨p.s,r.c,p.log++[.ran r.ticks]⟩ (ds++[a]) ((kp2'.trans (s3.kept _)).trans (Kept.upd (by simp))) hC4 pk rfl (by rw[ai nq];exact s3 _ _ hq2) (by rw[if_neg t0])
    refine⟨_,rfl,_,_,rfl,rfl,_,rfl,?_⟩
    by_cases c3:0<im
    ·rw[decide_eq_true (by omega:(0:Int)<((im:Nat):Int))]
     refine⟨_,rfl,fld T.panel hC.obj (by decide) rfl ⟨dl,_,rfl,.inl (SqL.of hC.lst),_,_,rfl,rfl,_,rfl,?_⟩⟩
     rw[List.length_map,hC.dds.1]
     by_cases c4:200<=p.log.length
     ·rw[decide_eq_true (by omega:(200:Int)<=((p.log.length:Nat):Int))]
      rw[if_pos ⟨by omega,c4⟩] at k
      exact⟨(by show 1<=sizeLine;decide),fun q hq=>k _ q (Did.same hP' (ak.new hq) (by omega) hq ac)⟩
     ·rw[decide_eq_false (by omega:¬(200:Int)<=((p.log.length:Nat):Int))]
      exact main (fun z=>c4 z.2)
    ·rw[decide_eq_false (by omega:¬(0:Int)<((im:Nat):Int))]
     exact main (fun z=>c3 z.1)
   ·rw[if_pos c1] at k
    have fin:tRet (tLst (de (tC (V.int (-1))) jo)) { nx:=fun _ _=>False,rt:=Q } [some (.ref pa),some (.int i),some (.int on),none,none] H:=⟨(by show 1<=sizeLine;decide),fun q hq=>k _ q (Did.same hP' (ak.new hq) (by omega) hq ac)⟩
    by_cases c3:0<=i
    ·rw[decide_eq_true c3]
     refine⟨_,_,rfl,rfl,_,rfl,?_⟩
     by_cases c4:i<=2000
     ·rw[decide_eq_true c4]
      refine⟨_,rfl,_,_,rfl,rfl,_,rfl,?_⟩
      by_cases c5:0<=on
      ·rw[decide_eq_true c5]
       refine⟨_,_,rfl,rfl,_,rfl,?_⟩
       rw[decide_eq_false (fun z=>c1 ⟨⟨c3,c4⟩,c5,z⟩)]
       exact fin
      ·rw[decide_eq_false c5]
       exact⟨_,rfl,fin⟩
     ·rw[decide_eq_false c4]
      exact fin
    ·rw[decide_eq_false c3]
     exact⟨_,rfl,fin⟩
abbrev sTold:Stmt:=bb (top 94) 7
def spTold(c:Cs):Sp:=fun vs H Q _=>∃(e:List Addr)(pa:Addr)(st:RungPanelSeed.State)(n:Nat)(ms:List Addr),vs=[.ref pa]/\(∀ m∈e,H m≠none)/\Pan c e H pa st n ms/\n<sizeLine/\∀ H' q,Did c e H pa ms (PanelNeutral.step st [[4]]).1 (n+1) (PanelNeutral.step st [[4]]).2 H' q->Q (.ref q) H'
theorem scTold:au ["self"] ["self"] (al sTold):=⟨rfl,rfl,rfl,by decide +kernel,rfl,by decide +kernel,by decide +kernel⟩
theorem okTold{f:Addr}{fd:FuncData}(F:Fun K "told" "Panel.told" sTold f fd)(T:Ts K c)(g:G0 mg)(D5:d8 P w K mg base CX0 6 c.panel "lamps_drawn" ["self"] (spLamps c)):bq P w K mg base CX0 7 f fd ["self"] (spTold c):=by
 refine F.ok scTold (fun vs H Q E h=>?_) (fun cdv A outer s H vs Q E hr h=>?_)
 ·obtain⟨_,_,_,_,_,rfl,_⟩:=h
  rfl
 ·obtain⟨e,pa,st,n,ms,rfl,he,hP,hn,k⟩:=h
  have cl:=T.panel.cl
  refine⟨_,ae (bj (aq op_isN (ao (pv 0) rfl) pe_non rfl) (ah (aw (bi (aa (ay g.NO_SCHEME rfl) af)))) az) (ah (aw (cp op_cat (bi (aa aj (aa (ao (ao (pv 0) rfl) rfl) (aa (pe_mtd0 (pv 0) cl D5 hr (by decide) cj) (aa (ao (ao (pv 0) rfl) rfl) af))))) (ao (ao (pv 0) rfl) rfl)))),?_⟩
  cases st with
  |none =>
   have hP':=hP
   obtain⟨dl,dx,rfl,h1,h2⟩:=hP
   refine⟨_,rfl,fld T.panel h1 (by decide) rfl ⟨rfl,_,rfl,?_⟩⟩
   exact⟨(by show 1<=sizeLine;decide),fun q hq=>k _ q (Did.same hP' (ak.new hq) (by omega) hq ac)⟩
  |some p =>
   obtain⟨dl,ld,dx,sc,ck,ds,rfl,hC,pok,few⟩:=hP
   rw[Lm.step_told] at k
   obtain⟨dk,lw,hk1,hk2⟩:=hC.clk
   refine⟨_,rfl,fld T.panel hC.obj (by decide) rfl ⟨rfl,_,rfl,?_⟩⟩
   rw[lu]
   refine⟨_,rfl,fld T.panel hC.obj (by decide) rfl (fld T.clock (cz _ _ hk1) (by decide) rfl ?_)⟩
   refine⟨_,rfl,pa,dx,_,rfl,hC.obj,rfl,e,pa,dl,ld,dx,sc,ck,ds,p.s,p.c,p.log,n,rfl,he,hC,hn,fun H2 kp2 hC2=>?_⟩
   obtain⟨dk2,lw2,hk21,hk22⟩:=hC2.clk
   have h21:=cz _ _ hk21
   have h22:=cz _ _ hk22
   refine⟨_,rfl,fld T.panel hC2.obj (by decide) rfl (fld T.clock h21 (by decide) rfl ⟨(by show 4<=sizeLine;decide),fun q1 hq1=>?_⟩)⟩
   have s3:=ak.new (o:=.lst [V.int 0,nI p.c.x,nI (Rung.lampBits p.s p.c.x),nI p.c.ticks]) hq1
   refine⟨_,rfl,fld T.panel (s3 _ _ hC2.obj) (by decide) rfl (fld T.clock (s3 _ _ h21) (by decide) rfl ⟨q1,lw2,_,_,rfl,rfl,ac,s3 _ _ h22,?_,fun q hq=>?_⟩)⟩
   ·rw[List.length_map,pok.len]
    have:=hC.sok.rel
    show 4+_<=_
    exact Nat.le_of_lt (bw (by omega))
   have s4:=s3.trans (ak.new (o:=.lst ([V.int 0,nI p.c.x,nI (Rung.lampBits p.s p.c.x),nI p.c.ticks]++p.c.waits.map nI)) hq)
   have nq:H2 q=none:=s3.free hq
   have kp2':Kept [pa,dl,ld] H H2:=kp2.mono (by simp)
   refine k _ q ⟨[pa,dl,ld],kp2'.trans (s4.kept _),fun m hm=>.inl hm,⟨dl,ld,dx,sc,ck,ds,rfl,hC2.keep s4 (Nat.le_refl _),pok,few⟩,?_,?_,fun hm=>hC2.ms q hm nq⟩
   ·rw[ac]
    show some (HO.lst (_++_))=some (HO.lst (([_,_,_,_]++RungPanelSeed.nums _).map V.int))
    unfold RungPanelSeed.nums
    rw[List.map_append,List.map_map]
    rfl
   ·cases z:H q with
    |none=>rfl
    |some o =>
     by_cases hm:q∈[pa,dl,ld]
     ·exact absurd nq (hC2.ms q hm)
     ·rw[kp2' q o z hm] at nq;cases nq
abbrev sBack:Stmt:=bb (top 94) 11
def spBack(c:Cs):Sp:=fun vs H Q _=>∃(e:List Addr)(pa:Addr)(st:RungPanelSeed.State)(n:Nat)(ms:List Addr),vs=[.ref pa]/\(∀ m∈e,H m≠none)/\Pan c e H pa st n ms/\∀ H' q,Did c e H pa ms (PanelNeutral.step st [[7]]).1 n (PanelNeutral.step st [[7]]).2 H' q->Q (.ref q) H'
theorem scBack:au ["self","deed"] ["self"] (al sBack):=⟨rfl,rfl,rfl,by decide +kernel,rfl,by decide +kernel,by decide +kernel⟩
theorem g9.pop{c:Cs}{G:Hp}{ds:List Addr}{s:Rung.Scheme}{log:List Rung.Entry}(h:g9 c G ds s log):g9 c G ds.dropLast s log.dropLast:=by
 refine⟨by rw[List.length_dropLast,List.length_dropLast,h.1],fun i b en e1 e2=>?_⟩
 rw[List.getElem?_dropLast] at e1 e2
 rw[h.1] at e1
 split at e1
 ·rename_i hi
  rw[if_pos hi] at e2
  obtain⟨dx,cb,h1,h2⟩:=h.2 i b en e1 e2
  refine⟨dx,cb,h1,?_⟩
  rw[List.dropLast_eq_take,List.take_take,Nat.min_eq_left (by omega)]
  exact h2
 ·cases e1
theorem okBack{f:Addr}{fd:FuncData}(F:Fun K "back" "Panel.back" sBack f fd)(T:Ts K c)(g:G0 mg):bq P w K mg base CX0 1 f fd ["self"] (spBack c):=by
 refine F.ok scBack (fun vs H Q E h=>?_) (fun cdv A outer s H vs Q E hr h=>?_)
 ·obtain⟨_,_,_,_,_,rfl,_⟩:=h
  rfl
 ·obtain⟨e,pa,st,n,ms,rfl,he,hP,k⟩:=h
  have cl:=T.panel.cl
  have no:=T.panel.no
  refine⟨_,ae (bj (aq op_isN (ao (pv 0) rfl) pe_non rfl) (ah (aw (bi (aa (ay g.NO_SCHEME rfl) af)))) az) (ae (bj (aq cf (be ax rfl g.len boot_len (aa (ao (pv 0) rfl) af)) aj rfl) (ah (aw (bi (aa (ay g.NOTHING_DONE rfl) af)))) az) (ae (bc (i:=1) scBack.nd rfl (Or.inl rfl) (pe_bm0 PySem.F.plainAttrs_list PySem.F.slot_list_pop PySem.F.type_list_pop mt_pop (ao (pv 0) rfl))) (ae (bg (pv 0) (ao (pv 1) rfl) rfl) (ah (aw (bi (aa aj af))))))),?_⟩
  cases st with
  |none =>
   have hP':=hP
   obtain⟨dl,dx,rfl,h1,h2⟩:=hP
   refine⟨_,rfl,fld T.panel h1 (by decide) rfl ⟨rfl,_,rfl,?_⟩⟩
   exact⟨(by show 1<=sizeLine;decide),fun q hq=>k _ q (Did.same hP' (ak.new hq) (by omega) hq ac)⟩
  |some p =>
   have hP':=hP
   obtain⟨dl,ld,dx,sc,ck,ds,rfl,hC,pok,few⟩:=hP
   rw[Lm.step_back] at k
   refine⟨_,rfl,fld T.panel hC.obj (by decide) rfl ⟨rfl,_,rfl,?_⟩⟩
   rw[lu]
   refine⟨_,rfl,fld T.panel hC.obj (by decide) rfl ⟨dl,_,rfl,.inl (SqL.of hC.lst),rfl,_,rfl,?_⟩⟩
   rw[List.length_map,hC.dds.1,show V.int 0=nI 0 from rfl,fg]
   by_cases c1:p.log=[]
   ·rw[decide_eq_true (by rw[c1];rfl)]
    rw[if_pos c1] at k
    exact⟨(by show 1<=sizeLine;decide),fun q hq=>k _ q (Did.same hP' (ak.new hq) (by omega) hq ac)⟩
   ·have l0:p.log.length≠0:=fun z=>c1 (List.length_eq_zero_iff.mp z)
    rw[decide_eq_false l0]
    rw[if_neg c1] at k
    have dlen:=hC.dds.1
    obtain⟨a,ha⟩:∃ a,ds[ds.length-1]?=some a:=⟨ds[ds.length-1]'(by omega),List.getElem?_eq_getElem (by omega)⟩
    obtain⟨en,hen⟩:∃ en,p.log[ds.length-1]?=some en:=⟨p.log[ds.length-1]'(by omega),List.getElem?_eq_getElem (by omega)⟩
    obtain⟨da,cb,h1,h2⟩:=hC.dds.2 _ a en ha hen
    refine⟨_,rfl,fld T.panel hC.obj (by decide) rfl ⟨.inl ⟨rfl,_,SqL.of hC.lst⟩,dl,_,V.ref a,rfl,rfl,hC.lst,?_,?_⟩⟩
    ·rw[List.length_map];exact gv ha
    rw[show(ds.map V.ref).dropLast=ds.dropLast.map V.ref from(List.map_dropLast ..).symm]
    have hC2:=hC.done hC.dds.pop
    have st:=gy (dl:=dl) (ld:=ld) (e:=e) (H':=upd H dl (.lst (ds.dropLast.map V.ref))) hC.obj ij (Kept.upd (by simp))
    have kp2:Kept [pa,dl,ld] H (upd H dl (.lst (ds.dropLast.map V.ref))):=Kept.upd (by simp)
    have h1':=st _ _ h1
    have h2':=h2.mono st
    generalize upd H dl (.lst (ds.dropLast.map V.ref))=H2 at hC2 kp2 h1' h2'
    refine⟨_,rfl,fld T.deed (cz _ _ h1') (by decide) rfl ⟨_,rfl,pa,_,dx,_,rfl,hC2.obj,cl,no _ (by decide),(by show 4<1000;decide),?_⟩⟩
    have et:p.log.take (ds.length-1)=p.log.dropLast:=by rw[List.dropLast_eq_take,dlen]
    rw[et] at h2'
    have hC3:=hC2.set h2'
    have kp3:Kept [pa,dl,ld] H (upd H2 pa (.ins c.panel dx (pf (.ref sc) (sv p.s.text) (.ref cb) (.ref dl)))):=kp2.trans (Kept.upd (by simp))
    refine⟨(by show 1<=sizeLine;decide),fun q hq=>k _ q ?_⟩
    have hq':(upd H2 pa (.ins c.panel dx (pf (.ref sc) (sv p.s.text) (.ref cb) (.ref dl)))) q=none:=hq
    have hC4:=hC3.keep (ak.new (o:=.lst [V.int 0]) hq') (Nat.le_refl n)
    refine⟨[pa,dl,ld],kp3.trans ((ak.new hq').kept _),fun m hm=>.inl hm,⟨dl,ld,dx,sc,cb,ds.dropLast,rfl,?_,pok.back,by rw[Lm.again_s];exact few⟩,ac,?_,fun hm=>hC3.ms q hm hq'⟩
    ·show f7 c e _ pa dl ld dx sc cb _ (RungPanelSeed.again p.s p.log.dropLast).s (RungPanelSeed.again p.s p.log.dropLast).c (RungPanelSeed.again p.s p.log.dropLast).log n
     rw[Lm.again_s,Lm.again_log]
     exact hC4
    ·cases z:H q with
     |none=>rfl
     |some o =>
      by_cases hm:q∈[pa,dl,ld]
      ·exact absurd hq' (hC3.ms q hm)
      ·rw[kp3 q o z hm] at hq';cases hq'
end
end Lp
namespace L2
open PySem PySem.Spec PyProof.Rows
theorem px_mtd{X:Cx}{k:Nat}{C:Addr}{m:Str}{ps:List Str}{sp:Sp}{apos pos:Pos}{o e:Expr}{es:List Expr}{ta:TE}{t:TA}{pl:Sem Bool}(hoo:PE X.nox o ta)(c:Cls X.K C)(D:d8 X.prog X.w X.K X.mg X.base (Fx X.prog X.w) k C m ps sp){j:Nat}(hr:fm j X.A)(hk:k<=j)(hx:X.ex=[])(ha:PA X.nox (e::es) t)(hst:starEach (e::es) X.env=(false,eval e X.env)::starEach es X.env:=by rfl)(hpl:(backTo pos (starEach es X.env)).any (·.1)=false:=by rfl)(ht:eval (.Call (.Attribute o m apos) (e::es) [] pos) X.env=(do
   let ov <-eval o X.env
   standAt apos.atName
   let (f,first) <-holding [ov] (getMethod ov m pl)
   callWith pos f first (backTo pos (starEach (e::es) X.env)) (backToKw pos (keywordEach [] X.env))):=by rfl) :
  PEx X (.Call (.Attribute o m apos) (e::es) [] pos) (fun σ H Q E=>ta σ H fun x H1=>∃ a dx fs,x=.ref a/\H1 a=some (.ins C dx fs)/\fs.lookup m=none/\t σ H1 fun vs H2=>sp (x::vs) H2 Q E):=by
 obtain⟨f,fd,F,hm,hb⟩:=D.ex
 exact px_meth (pl:=pl) hoo c hm F (hr.mono hk) hb hx ha hst hpl ht
end L2
namespace Lp
open PySem PySem.Spec PyProof.Rows L2
open Rung (Bytes ascii Line)
theorem Pan.obj{c:Cs}{e:List Addr}{H:Hp}{pa:Addr}{st:RungPanelSeed.State}{n:Nat}{ms:List Addr}(h:Pan c e H pa st n ms):pa∈ms/\∃ dx v1 v2 v3 v4,H pa=some (.ins c.panel dx (pf v1 v2 v3 v4)):=by
 cases st with
 |none =>
  obtain⟨dl,dx,rfl,h1,h2⟩:=h
  exact⟨by simp,dx,_,_,_,_,h1⟩
 |some p =>
  obtain⟨dl,ld,dx,sc,ck,ds,rfl,h,_⟩:=h
  exact⟨by simp,dx,_,_,_,_,h.obj⟩
theorem sum_le_mul(l:List Bytes)(k:Nat)(h:∀ b∈l,b.length<=k):l.flatten.length<=k * l.length:=by
 induction l with
 |nil=>simp
 |cons b r ih =>
  have h1:=h b (by simp)
  have h2:=ih fun x hx=>h x (by simp[hx])
  rw[List.flatten_cons,List.length_append,List.length_cons,Nat.mul_succ]
  omega
theorem lens_sum(l:List Bytes):((l.map strOf).map (·.length)).sum=l.flatten.length:=by
 induction l with
 |nil=>rfl
 |cons b r ih=>rw[List.map_cons,List.map_cons,List.sum_cons,ih,bf,List.flatten_cons,List.length_append]
section
variable{P:Program}{w:World}{K:PySem.W.Frag}{mg:Str->Option Value}{base:Heap}{c:Cs}
abbrev sJrn:Stmt:=bb (top 94) 9
def spJrn(c:Cs):Sp:=fun vs H Q _=>∃(e:List Addr)(pa:Addr)(st:RungPanelSeed.State)(n:Nat)(ms:List Addr),vs=[.ref pa]/\(∀ m∈e,H m≠none)/\Pan c e H pa st n ms/\∀ H' q,Did c e H pa ms (PanelNeutral.step st [[5]]).1 n (PanelNeutral.step st [[5]]).2 H' q->Q (.ref q) H'
abbrev vJrn:List Str:=["self","signs","deed","sign"]
theorem scJrn:au vJrn ["self"] (al sJrn):=⟨rfl,rfl,rfl,by decide +kernel,rfl,by decide +kernel,by decide +kernel⟩
theorem okJrn{f:Addr}{fd:FuncData}(F:Fun K "journal" "Panel.journal" sJrn f fd)(T:Ts K c)(g:G0 mg):bq P w K mg base CX0 2 f fd ["self"] (spJrn c):=by
 refine F.ok scJrn (fun vs H Q E h=>?_) (fun cdv A outer s H vs Q E hr h=>?_)
 ·obtain⟨_,_,_,_,_,rfl,_⟩:=h
  rfl
 ·obtain⟨e,pa,st,n,ms,rfl,he,hP,k⟩:=h
  refine⟨_,ae (bj (aq op_isN (ao (pv 0) rfl) pe_non rfl) (ah (aw (bi (aa (ay g.NO_SCHEME rfl) af)))) az) (ae (bc (i:=1) scJrn.nd rfl (Or.inl rfl) (cp mq (ao (pv 0) rfl) (pe_join ci (pe_lc (own:=[("deed",2)]) rfl scJrn.nd (mn (ao (pv 0) rfl)) (gk (by show blkC vJrn (al sJrn) _ _=true;decide +kernel))
    (fun _ _ _ _ _=>br (i:=2) scJrn.nd rfl (Or.inl rfl)) (fun _ _ _ _ _=>jr) (fun _ _ _ _ _=>pe_fldK (K:=K) rfl (pv 2) rfl))))) (ah (aw (cp op_cat (bi (aa aj af)) (pe_lc (own:=[("sign",3)]) rfl scJrn.nd (pi_str (pv 1)) (gk (by show blkC vJrn (al sJrn) _ _=true;decide +kernel))
    (fun _ _ _ _ _=>br (i:=3) scJrn.nd rfl (Or.inl rfl)) (fun _ _ _ _ _=>jr) (fun _ _ _ _ _=>be call_ord rfl g.ord boot_ord (aa (pv 3) af))))))),?_⟩
  cases st with
  |none =>
   have hP':=hP
   obtain⟨dl,dx,rfl,h1,h2⟩:=hP
   refine⟨_,rfl,fld T.panel h1 (by decide) rfl ⟨rfl,_,rfl,?_⟩⟩
   exact⟨(by show 1<=sizeLine;decide),fun q hq=>k _ q (Did.same hP' (ak.new hq) (by omega) hq ac)⟩
  |some p =>
   have hP':=hP
   obtain⟨dl,ld,dx,sc,ck,ds,rfl,hC,pok,few⟩:=hP
   rw[Lm.step_journal] at k
   refine⟨_,rfl,fld T.panel hC.obj (by decide) rfl ⟨rfl,_,rfl,?_⟩⟩
   rw[lu]
   have dlen:=hC.dds.1
   have lfew:=pok.few
   have elen:=Lm.entry_len pok
   have flen:(p.log.map (Rung.entryText p.s)).flatten.length<=3800:=by
    refine Nat.le_trans (sum_le_mul _ 19 ?_) ?_
    ·intro b hb
     obtain⟨en,hen,rfl⟩:=List.mem_map.mp hb
     exact elen en hen
    ·rw[List.length_map];omega
   refine⟨_,rfl,fld T.panel hC.obj (by decide) rfl ⟨⟨_,rfl⟩,_,rfl,fld T.panel hC.obj (by decide) rfl ⟨dl,rfl,⟨_,SqL.of hC.lst⟩,fun D hD =>
    lc_list (K:=K) (a:=dl) (xs:=ds.map V.ref) (Qd:=_) (fun i H'=>ak H H'/\H' D=some (.lst (((p.log.take i).map (Rung.entryText p.s)).map sv))) ⟨ak.new hD,ac⟩ (fun i H' _ ⟨s4,_⟩=>SqL.of (s4 _ _ hC.lst)) ?_ ?_⟩⟩⟩
   ·rintro i y H4 hy ⟨s4,h4⟩
    obtain⟨a,ha,rfl⟩:=fc hy
    obtain⟨en,hen⟩:=gz dlen ha
    obtain⟨da,cb,h1,h2⟩:=hC.dds.2 i a en ha hen
    refine⟨rfl,_,rfl,fld T.deed (s4 _ _ (cz _ _ h1)) (by decide) rfl ⟨_,h4,?_,s4.put hD,?_⟩⟩
    ·rw[List.length_map,List.length_map,List.length_take];exact bw (by omega)
    ·rw[ac,Lm.bp hen,List.map_append,List.map_append];rfl
   ·rintro H4 ⟨s4,h4⟩
    rw[List.length_map,dlen,List.take_length,<-map_sv] at h4
    refine⟨strOf [],D,_,congrArg V.str lit_nil,rfl,.inl (SqL.of h4),?_,?_⟩
    ·rw[bf,lens_sum]
     show _+_ * 0<=_
     rw[Nat.mul_zero]
     omega
    rw[join_strOf]
    refine⟨_,_,rfl,rfl,?_,?_⟩
    ·rw[bf,bf]
     exact Nat.le_trans (by omega:_<=53800) (by decide)
    rw[<-d7]
    have ej:p.s.text++(p.log.map (Rung.entryText p.s)).flatten=p.journal:=by
     unfold Rung.Panel.journal
     rw[List.flatMap_def]
    have jlen:p.journal.length<=53800:=by rw[<-ej,List.length_append];omega
    rw[ej]
    refine⟨(by show 1<=sizeLine;decide),fun q1 hq1=>?_⟩
    have s5:=ak.new (o:=.lst [V.int 0]) hq1
    refine⟨_,rfl,_,rfl,fun D2 hD2=>lc_str (z:=strOf p.journal) (Qd:=_) (fun i H'=>ak (upd H4 q1 (.lst [V.int 0])) H'/\H' D2=some (.lst ((p.journal.take i).map fun d=>nI d.toNat))) ⟨ak.new hD2,ac⟩ ?_ ?_⟩
    ·rintro i m H6 hm ⟨s6,h6⟩
     obtain⟨d,hd,rfl⟩:=strOf_at hm
     refine⟨rfl,_,rfl,_,rfl,rfl,_,h6,?_,s6.put hD2,?_⟩
     ·rw[List.length_map,List.length_take]
      exact Nat.lt_of_le_of_lt (Nat.le_trans (Nat.min_le_right _ _) jlen) (by decide)
     ·rw[ac,Lm.bp hd,List.map_append];rfl
    ·rintro H6 ⟨s6,h6⟩
     rw[f6,List.length_map,List.take_length] at h6
     refine⟨q1,D2,_,_,rfl,rfl,s6 _ _ ac,h6,?_,fun q hq=>?_⟩
     ·rw[List.length_map]
      show 1+_<=_
      exact Nat.le_trans (by omega:_<=53801) (by decide)
     have sA:ak H (upd H6 q (.lst ([V.int 0]++p.journal.map fun d=>nI d.toNat))):=s4.trans (s5.trans (s6.trans (ak.new hq)))
     refine k _ q (Did.same hP' sA (Nat.le_refl _) ?_ ?_)
     ·exact(s4.trans (s5.trans s6)).free hq
     ·rw[ac]
      unfold RungPanelSeed.textOut
      show _=some (HO.lst (V.int 0::List.map V.int (List.map _ _)))
      rw[List.map_map]
      rfl
abbrev sLoad:Stmt:=bb (top 94) 3
def spLoad(c:Cs)(K:W.Frag):Sp:=fun vs H Q _=>∃(e:List Addr)(pa a:Addr)(ns:List Int)(st:RungPanelSeed.State)(n:Nat)(ms:List Addr),vs=[.ref pa,.ref a]/\(∀ m∈e,H m≠none)/\Pan c e H pa st n ms/\SqL K H a (ns.map V.int)/\ns.length<=100000/\(∀ x∈ns,0<=x/\x<=255)/\∀ H' q,Did c e H pa ms (PanelNeutral.step st [[1],ns]).1 n (PanelNeutral.step st [[1],ns]).2 H' q->Q (.ref q) H'
abbrev vLoad:List Str:=["self","text","fault"]
theorem scLoad:au vLoad ["self","text"] (al sLoad):=⟨rfl,rfl,rfl,by decide +kernel,rfl,by decide +kernel,by decide +kernel⟩
theorem okLoad{f:Addr}{fd:FuncData}(F:Fun K "load" "Panel.load" sLoad f fd)(T:Ts K c)(g:G0 mg)(x:Xs K mg c)(D1:Def P w K mg base CX0 2 "signs_of" ["text"] (spSigns K))(D2:d8 P w K mg base (Fx P w) 7 c.panel "begin" ["self","signs"] (spBegin c)):bq P w K mg base CX0 8 f fd ["self","text"] (spLoad c K):=by
 obtain⟨init,nno,xc⟩:=x.fltc
 refine F.ok scLoad (fun vs H Q E h=>?_) (fun cdv A outer s H vs Q E hr h=>?_)
 ·obtain⟨_,_,_,_,_,_,_,rfl,_⟩:=h
  rfl
 ·obtain⟨e,pa,a,ns,st,n,ms,rfl,he,hP,hS,hl,hb,k⟩:=h
  have cl:=T.panel.cl
  refine⟨_,ae (bj (aq op_gt (be ax rfl g.len boot_len (aa (pv 1) af)) (ay g.MOST_SCHEME_BYTES rfl) rfl) (ah (aw (bi (aa (ay g.OUT_OF_BOUNDS rfl) af)))) az) (ae (ps_try_as (j:=2) ⟨rfl,rfl,rfl⟩ (pb_expr (px_mtd (pv 0) cl D2 hr (by decide) rfl (aa (bd D1 hr (by decide) rfl cj (aa (pv 1) af)) af))) rfl x.mflt xc scLoad.nd rfl rfl (fun ex dx oe vs h1 h2 h3=>ah (aw (bi (aa aj (aa (pe_xfld (ex:=ex) (pv 2) rfl List.mem_cons_self h1 h2 h3 xc x.kind) (aa (pe_xfld (ex:=ex) (pv 2) rfl List.mem_cons_self h1 h2 h3 xc x.line) af))))))) (ah (aw (bi (aa aj (aa (ay g.NO_FAULT rfl) (aa aj af))))))),?_⟩
  rw[Lm.step_load] at k
  refine⟨_,rfl,a,_,rfl,.inl hS,_,_,rfl,rfl,_,rfl,?_⟩
  rw[List.length_map]
  by_cases c1:20000<ns.length
  ·rw[decide_eq_true (by omega:(20000:Int)<((ns.length:Nat):Int))]
   rw[if_pos c1] at k
   exact⟨(by show 1<=sizeLine;decide),fun q hq=>k _ q (Did.same hP (ak.new hq) (Nat.le_refl _) hq ac)⟩
  ·rw[decide_eq_false (by omega:¬(20000:Int)<((ns.length:Nat):Int))]
   rw[if_neg c1] at k
   obtain⟨pm,dx,v1,v2,v3,v4,hobj⟩:=hP.obj
   refine⟨_,rfl,pa,dx,_,rfl,hobj,rfl,_,rfl,a,ns,rfl,hS,hl,hb,fun H1 s1=>?_⟩
   have he1:∀ m∈e,H1 m≠none:=fun m hm z=>he m hm (s1.free z)
   have blen:(Lm.nm (Lm.bytesOf ns)).length<=50000:=by rw[Lm.nm_length];unfold Lm.bytesOf;rw[List.length_map];omega
   refine⟨e,pa,dx,v1,v2,v3,v4,Lm.nm (Lm.bytesOf ns),rfl,he1,s1 _ _ hobj,blen,?_⟩
   have rn:=Lm.readText_nm (Lm.bytesOf ns)
   cases er:Rung.readText (Lm.bytesOf ns) with
   |error fl =>
    rw[er] at k rn
    rw[rn]
    intro H2 dxe s2 hx
    refine⟨rfl,dxe,rfl,fun ex=>?_⟩
    refine⟨_,rfl,rfl,_,_,hx,rfl,_,rfl,rfl,_,_,hx,rfl,(by show 3<=sizeLine;decide),fun q hq=>?_⟩
    exact k _ q (Did.same hP ((s1.trans s2).trans (ak.new hq)) (Nat.le_refl _) ((s1.trans s2).free hq) ac)
   |ok z =>
    rw[er] at k rn
    rw[rn]
    have rok:=Lm.read_ok rn
    intro H2 dl ld sc ck kp2 nl nd hC
    refine⟨(by show 3<=sizeLine;decide),fun q hq=>?_⟩
    have s3:=ak.new (o:=.lst [V.int 0,V.int 0,V.int 0]) hq
    have kpA:Kept ms H H2:=(s1.kept _).trans (kp2.mono (by intro m hm;rw[List.mem_singleton.mp hm];exact pm))
    refine k _ q ⟨[pa,dl,ld],kpA.trans (s3.kept _),fun m hm=>?_,⟨dl,ld,dx,sc,ck,[],rfl,hC.keep s3 (Nat.zero_le _),Lm.POk.load rok.2,?_⟩,ac,?_,fun hm=>hC.ms q hm hq⟩
    ·simp only[List.mem_cons,List.not_mem_nil,or_false] at hm
     rcases hm with hm|hm|hm
     ·rw[hm];exact .inl pm
     ·rw[hm];exact .inr (s1.free nl)
     ·rw[hm];exact .inr (s1.free nd)
    ·show z.text.length<=_
     rw[rok.1];exact blen
    ·cases zz:H q with
     |none=>rfl
     |some o =>
      by_cases hm:q=pa
      ·rw[hm,hC.obj] at hq;cases hq
      ·rw[kp2 q o (s1 _ _ zz) (by simp[hm])] at hq;cases hq
theorem dp_ints{K:W.Frag}{H:Hp}:∀ ns:List Int,DpAll K H (ns.map V.int) (ns.map PyData.int)
 | []=>.nil
 |n::r=>.cons (.int n) (dp_ints r)
theorem lay_ints:∀ ns:List Int,PyData.canLayAll0 (ns.map PyData.int)=true
 | []=>rfl
 |n::r=>by
  show(PyData.canLay0 (.int n)&&PyData.canLayAll0 (r.map PyData.int))=true
  rw[lay_ints r]
  rfl
theorem depth_ints:∀ ns:List Int,PyData.depthAll (ns.map PyData.int)=0
 | []=>rfl
 |n::r=>by
  show max (PyData.depth (.int n)) (PyData.depthAll (r.map PyData.int))=0
  rw[depth_ints r]
  rfl
theorem shaped_ints(ns:List Int):SeqAt.shaped (.list (ns.map PyData.int))=true:=by
 unfold SeqAt.shaped
 rw[show PyData.canLay0 (.list (ns.map PyData.int))=PyData.canLayAll0 (ns.map PyData.int) from rfl,lay_ints,show PyData.depth (.list (ns.map PyData.int))=PyData.depthAll (ns.map PyData.int)+1 from rfl,depth_ints]
 rfl
theorem eqv_ints:∀ ns ms:List Int,PyData.eqvAll (ns.map PyData.int) (ms.map PyData.int)=decide (ns=ms)
 | [],[]=>rfl
 | [],_::_=>rfl
 |_::_,[]=>rfl
 |n::r,m::t=>by
  show(PyData.eqv (.int n) (.int m)&&PyData.eqvAll (r.map PyData.int) (t.map PyData.int))=_
  rw[eqv_ints r t]
  have e:PyData.eqv (.int n) (.int m)=decide (n=m):=by first|rfl|(show(n==m)=_;rw[Bool.eq_iff_iff];simp)
  rw[e]
  by_cases h1:n=m<;>by_cases h2:r=t<;>simp[h1,h2]
theorem eq_ints{K:W.Frag}{H:Hp}{a b:Addr}{ns ms:List Int}{Q:VK}(ha:SqL K H a (ns.map V.int))(hb:SqL K H b (ms.map V.int))(q:Q (.bl (decide (ns=ms))) H):rEqD K (.ref a) (.ref b) H Q:=by
 refine⟨_,_,.lst ha (dp_ints ns),.lst hb (dp_ints ms),shaped_ints ns,shaped_ints ms,?_⟩
 rw[show PyData.eqv (.list (ns.map PyData.int)) (.list (ms.map PyData.int))=PyData.eqvAll (ns.map PyData.int) (ms.map PyData.int) from rfl,eqv_ints]
 exact q
theorem eqV_sv(a b:Bytes):eqV (sv a) (sv b)=(a==b):=by
 show(strOf a==strOf b)=_
 rw[Bool.eq_iff_iff,beq_iff_eq,beq_iff_eq]
 exact l4
theorem flat_svs(l:List Bytes):(l.map sv).all kz=true:=by
 rw[List.all_map]
 exact List.all_eq_true.mpr fun _ _=>rfl
theorem in_svs(l:List Bytes)(x:Bytes):inV (sv x) (l.map sv)=(l.findIdx? fun y=>y==x).isSome:=by
 unfold inV
 rw[List.any_map,List.findIdx?_isSome]
 congr 1
 funext y
 exact eqV_sv y x
abbrev sFol:Stmt:=top 95
def spFol(c:Cs):Sp:=fun vs H Q _=>∃(e:List Addr)(pa:Addr)(b:Bytes)(p:Rung.Panel)(n:Nat)(ms:List Addr),vs=[.ref pa,sv b]/\(∀ m∈e,H m≠none)/\Pan c e H pa (some p) n ms/\b.length<=50000/\n+4000<sizeLine/\match Lm.ge p b with
 |.inl f=>∀ H',Kept ms H H'->Q (nI f) H'
 |.inr p'=>∀ H' ms',Kept ms H H'->(∀ m∈ms',m∈ms\/H m=none)->Pan c e H' pa (some p') (n+4000) ms'->Q (nI 0) H'
abbrev vFol:List Str:=["panel","line","thing","given"]
theorem scFol:au vFol ["panel","line"] (al sFol):=⟨rfl,rfl,rfl,by decide +kernel,rfl,by decide +kernel,by decide +kernel⟩
theorem word_run(on:Bool):decide (nr on=ascii "run")=false:=by cases on<;>decide
theorem word_press(on:Bool):decide (nr on=ascii "press")=on:=by cases on<;>decide
theorem okFol{f:Addr}{fd:FuncData}(F:Fun K "follow" "follow" sFol f fd)(T:Ts K c)(g:G0 mg)(x:Xs K mg c)(D1:Def P w K mg base (Fx P w) 3 "read_thing" ["line"] (spThing c))(D2:d8 P w K mg base CX0 8 c.panel "run" ["self","most","stop"] (spRun c))(D3:d8 P w K mg base CX0 4 c.panel "press" ["self","place","on"] (spPress c)):bq P w K mg base CX0 9 f fd ["panel","line"] (spFol c):=by
 refine F.ok scFol (fun vs H Q E h=>?_) (fun cdv A outer s H vs Q E hr h=>?_)
 ·obtain⟨_,_,_,_,_,_,rfl,_⟩:=h
  rfl
 ·obtain⟨e,pa,b,p,n,ms,rfl,he,hP,hb,hn,k⟩:=h
  have cl:=T.panel.cl
  have hu:(A.deeper (envOfC "follow" (al sFol) s.heap.objs.size f cdv)).units+64<cLine:=hr.units
  refine⟨_,ae (ps_try ⟨rfl,rfl,rfl⟩ (pb_set (i:=2) scFol.nd rfl (Or.inl rfl) (px_def D1 hr (by decide) rfl rfl (aa (pv 1) af))) (fun _=>PassesOwnAt.never) rfl x.mshp x.shp (fun ex oe vs h1 h2 h3=>ah (aw (ay g.NO_THING rfl)))) (ae (bj (aq cf (ao (pv 2) rfl) (ay g.RUN_WORD rfl) rfl) (ah (bc (i:=3) scFol.nd rfl (Or.inl rfl) (ni (pv 0) cl D2 hr (by decide) cj (aa (ao (pv 2) rfl) (aa aj af))))) (ah (bj (aq op_in_seq (ao (pv 2) rfl) (ao (ao (pv 0) rfl) rfl) rfl) (ah (bc (i:=3) scFol.nd rfl (Or.inl rfl) (ni (pv 0) cl D3 hr (by decide) cj (aa (g8 PySem.F.plainAttrs_list PySem.F.slot_list_index PySem.F.type_list_index mt_index (ao (ao (pv 0) rfl) rfl) (aa (ao (pv 2) rfl) af)) (aa (lq (aq cf (ao (pv 2) rfl) (ay g.PRESS_WORD rfl) rfl) aj aj) af))))) (ah (aw (ay g.NO_INPUT_OF_THAT_NAME rfl)))))) (ae (bj (aq (op_eqD hu) (pv 3) (bi (aa (ay g.FULL rfl) af)) rfl) (ah (aw (ay g.TOO_MANY_THINGS rfl))) az) (ah (aw (lq (aq (op_eqD hu) (pv 3) (bi (aa aj (aa aj af))) rfl) (ay g.SO_ALREADY rfl) (ay g.NO_FAULT rfl)))))),?_⟩
  have hP':=hP
  obtain⟨dl,ld,dx,sc,ck,ds,rfl,hC,pok,few⟩:=hP
  refine⟨_,rfl,b,rfl,hb,?_⟩
  unfold Lm.ge at k
  have tail:∀(out:List Int)(H3:Hp)(q:Addr)(v2:V),H3 q=some (.lst (out.map V.int))->(∀ H4,ak H3 H4->Q (nI (if out=[-7] then 9 else if out=[0,0] then 8 else 0)) H4) ->
    tSeq (tIfS (tTest (tOp (rEqD K) (gf 3) (tLst (de (tC (V.int (-7))) jo)))) (tRet (tC (V.int 9))) tNext) (tRet (tIf (tTest (tOp (rEqD K) (gf 3) (tLst (de (tC (V.int 0)) (de (tC (V.int 0)) jo))))) (tC (V.int 8)) (tC (V.int 0)))) { nx:=fun _ H'=>Q .non H',rt:=Q } [some (.ref pa),some (sv b),some v2,some (.ref q)] H3:=by
   intro out H3 q v2 hq kk
   refine⟨_,rfl,(by show 1<=sizeLine;decide),fun q1 hq1=>eq_ints (ns:=out) (ms:=[-7]) (SqL.of ((ak.new hq1) _ _ hq)) (SqL.of ac) ⟨_,rfl,?_⟩⟩
   have s1:=ak.new (o:=.lst [V.int (-7)]) hq1
   by_cases c1:out=[-7]
   ·rw[decide_eq_true c1]
    have:=kk _ s1
    rw[if_pos c1] at this
    exact this
   ·rw[decide_eq_false c1]
    refine⟨_,rfl,(by show 2<=sizeLine;decide),fun q2 hq2=>eq_ints (ns:=out) (ms:=[0,0]) (SqL.of ((s1.trans (ak.new hq2)) _ _ hq)) (SqL.of ac) ⟨_,rfl,?_⟩⟩
    have:=kk _ (s1.trans (ak.new (o:=.lst [V.int 0,V.int 0]) hq2))
    rw[if_neg c1] at this
    by_cases c2:out=[0,0]
    ·rw[decide_eq_true c2]
     rw[if_pos c2] at this
     exact this
    ·rw[decide_eq_false c2]
     rw[if_neg c2] at this
     exact this
  cases hd:Rung.doneIn b with
  |none =>
   rw[hd] at k
   intro H1 s1
   exact⟨rfl,rfl,k H1 (s1.kept _)⟩
  |some dn =>
   rw[hd] at k
   cases dn with
   |inr t =>
    have tb:1<=t/\t<=2000:=by
     rw[Lm.doneIn_eq] at hd
     unfold Lm.rDone at hd
     split at hd
     ·cases e1:Rung.number 1 2000 (Lm.part (Rung.split 32 b) 1) with
      |none=>rw[e1] at hd;cases hd
      |some m =>
       rw[e1] at hd
       cases hd
       exact(Lm.c9 e1).2
     ·split at hd
      ·split at hd<;>cases hd
      ·cases hd
    intro H1 a s1 hT
    obtain⟨da,hT⟩:=hT
    have hP1:=hP'.keep s1 (Nat.le_refl _)
    have hC1:=hC.keep s1 (Nat.le_refl _)
    refine⟨_,rfl,fld T.thing hT (by decide) rfl ⟨rfl,_,rfl,?_⟩⟩
    rw[lit_run,gj,decide_eq_true rfl]
    refine⟨_,rfl,pa,dx,_,rfl,hC1.obj,rfl,_,rfl,fld T.thing hT (by decide) rfl ?_⟩
    refine⟨e,pa,(t:Int),0,some p,n,[pa,dl,ld],rfl,fun m hm z=>he m hm (s1.free z),hP1,hn,fun H3 q D=>?_⟩
    obtain⟨ms',kp3,hms',hP3,hq3,_,_⟩:=D.ex
    have kpA:Kept [pa,dl,ld] H H3:=(s1.kept _).trans kp3
    rw[Lm.step_run] at hP3 hq3
    rw[if_neg (not_not_intro ⟨⟨by omega,by omega⟩,by decide,by decide⟩)] at hP3 hq3
    refine tail _ H3 q _ hq3 fun H4 s4=>?_
    dsimp only at k
    by_cases c1:200<=p.log.length
    ·rw[if_pos c1] at k
     rw[if_pos (show 0<(t:Int)/\200<=p.log.length from⟨by omega,c1⟩)]
     exact k H4 (kpA.trans (s4.kept _))
    ·rw[if_neg c1] at k
     rw[if_neg (show ¬(0<(t:Int)/\200<=p.log.length) from fun z=>c1 z.2)] at hP3 ⊢
     have w0:(Rung.watch p.s ((t:Int).toNat) ((0:Int).toNat) p.c).ticks=t:=by rw[Int.toNat_natCast];exact Lm.g6 t p.c
     have n7:∀(a b:Int)(r:List Int),([0,a,b]++r:List Int)≠[-7]:=fun a b r z=>by cases z
     have n8:∀(a b d:Int)(r:List Int),([0,a,b,d]++r:List Int)≠[0,0]:=fun a b d r z=>by cases z
     rw[if_neg (by intro z;cases z),if_neg (n8 _ _ _ _)]
     refine k H4 ms' (kpA.trans (s4.kept _)) (fun m hm=>(hms' m hm).imp id fun z=>s1.free z) ?_
     have hP4:=hP3.keep s4 (Nat.le_refl _)
     have ed:(if (Rung.watch p.s ((t:Int).toNat) ((0:Int).toNat) p.c).ticks=0 then p else ⟨p.s,(Rung.watch p.s ((t:Int).toNat) ((0:Int).toNat) p.c).c,p.log++[.ran (Rung.watch p.s ((t:Int).toNat) ((0:Int).toNat) p.c).ticks]⟩)=p.did (.ran t):=by
      rw[if_neg (by omega),Lm.ran_did,w0]
     have hP5:Pan c e H4 pa (some (if (Rung.watch p.s ((t:Int).toNat) ((0:Int).toNat) p.c).ticks=0 then p else ⟨p.s,(Rung.watch p.s ((t:Int).toNat) ((0:Int).toNat) p.c).c,p.log++[.ran (Rung.watch p.s ((t:Int).toNat) ((0:Int).toNat) p.c).ticks]⟩)) (n+4000) ms':=hP4
     rw[ed] at hP5
     exact hP5
   |inl xo =>
    obtain⟨nmx,on⟩:=xo
    intro H1 a s1 hT
    obtain⟨da,hT⟩:=hT
    have hP1:=hP'.keep s1 (Nat.le_refl _)
    have hC1:=hC.keep s1 (Nat.le_refl _)
    have hinp:∃ dsc li lr ll lc,H1 sc=some (.ins c.scheme dsc [("inputs",.ref li),("relays",.ref lr),("lamps",.ref ll),("contacts",.ref lc),("looked_at",.ref ld)])/\H1 li=some (.lst (p.s.inputs.map sv)):=by
     obtain⟨dsc,li,lr,ll,lc,h1,h2⟩:=hC1.sch
     exact⟨dsc,li,lr,ll,lc,cz _ _ h1,cz _ _ h2.inp⟩
    obtain⟨dsc,li,lr,ll,lc,hsc,hli⟩:=hinp
    refine⟨_,rfl,fld T.thing hT (by decide) rfl ⟨rfl,_,rfl,?_⟩⟩
    rw[lit_run,gj,word_run]
    refine⟨_,rfl,fld T.thing hT (by decide) rfl ⟨_,rfl,fld T.panel hC1.obj (by decide) rfl (fld T.scheme hsc (by decide) rfl ⟨li,_,rfl,.inl (SqL.of hli),rfl,flat_svs _,_,rfl,?_⟩)⟩⟩
    show if inV (sv nmx) (p.s.inputs.map sv)=true then _ else _
    rw[in_svs]
    cases hf:p.s.inputs.findIdx? (fun y=>y==nmx) with
    |none =>
     simp only[hf] at k
     exact k H1 (s1.kept _)
    |some i =>
     simp only[hf] at k
     rw[List.findIdx?_eq_some_iff_getElem] at hf
     obtain⟨il,hi1,hi2⟩:=hf
     have gi:p.s.inputs[i]?=some p.s.inputs[i]:=List.getElem?_eq_getElem il
     refine⟨_,rfl,pa,dx,_,rfl,hC1.obj,rfl,?_⟩
     refine⟨_,rfl,fld T.panel hC1.obj (by decide) rfl (fld T.scheme hsc (by decide) rfl ⟨.inl ⟨rfl,_,SqL.of hli⟩,_,rfl,fld T.thing hT (by decide) rfl ?_⟩)⟩
     refine⟨li,_,sv nmx,i,_,rfl,rfl,SqL.of hli,rfl,flat_svs _,gv gi,by rw[eqV_sv];exact hi1,fun m z' hm hz=>?_,?_⟩
     ·obtain⟨y,hy,rfl⟩:=fc hz
      rw[eqV_sv]
      have:=hi2 m hm
      have ey:p.s.inputs[m]'(by omega)=y:=(List.getElem?_eq_some_iff.mp hy).2
      rw[ey] at this
      simpa using this
     refine⟨_,rfl,fld T.thing hT (by decide) rfl ⟨rfl,_,rfl,?_⟩⟩
     rw[lit_press,gj,word_press]
     have o01:∃ o:Int,o=(if on=true then 1 else 0)/\(0<=o/\o<=1)/\(o==1)=on:=by
      cases on
      ·exact⟨0,rfl,⟨by decide,by decide⟩,rfl⟩
      ·exact⟨1,rfl,⟨by decide,by decide⟩,rfl⟩
     obtain⟨o,eo,ob,o1⟩:=o01
     have go:∀ H3 q,Did c e H1 pa [pa,dl,ld] (PanelNeutral.step (some p) [[2,(i:Int),o]]).1 n (PanelNeutral.step (some p) [[2,(i:Int),o]]).2 H3 q->tSeq (tIfS (tTest (tOp (rEqD K) (gf 3) (tLst (de (tC (V.int (-7))) jo)))) (tRet (tC (V.int 9))) tNext) (tRet (tIf (tTest (tOp (rEqD K) (gf 3) (tLst (de (tC (V.int 0)) (de (tC (V.int 0)) jo))))) (tC (V.int 8)) (tC (V.int 0)))) { nx:=fun _ H'=>Q .non H',rt:=Q } [some (.ref pa),some (sv b),some (.ref a),some (.ref q)] H3:=by
      intro H3 q D
      obtain⟨ms',kp3,hms',hP3,hq3,_,_⟩:=D.ex
      have kpA:Kept [pa,dl,ld] H H3:=(s1.kept _).trans kp3
      rw[Lm.step_press] at hP3 hq3
      rw[if_neg (not_not_intro ob),if_neg (not_not_intro ⟨by omega,by omega⟩),Int.toNat_natCast,o1] at hP3 hq3
      refine tail _ H3 q _ hq3 fun H4 s4=>?_
      have oe:Rung.State.on p.c.x i=p.c.x.testBit i:=Lm.on_eq _ _
      rw[oe] at k
      by_cases c1:p.c.x.testBit i=on
      ·rw[if_pos c1] at k
       rw[if_pos c1]
       exact k H4 (kpA.trans (s4.kept _))
      ·rw[if_neg c1] at k hP3
       rw[if_neg c1]
       by_cases c2:200<=p.log.length
       ·rw[if_pos c2] at k
        rw[if_pos c2]
        exact k H4 (kpA.trans (s4.kept _))
       ·rw[if_neg c2] at k hP3
        rw[if_neg c2]
        exact k H4 ms' (kpA.trans (s4.kept _)) (fun m hm=>(hms' m hm).imp id fun z=>s1.free z) (hP3.keep s4 (by omega))
     cases on with
     |true =>
      cases eo
      exact⟨e,pa,(i:Int),1,some p,n,[pa,dl,ld],rfl,fun m hm z=>he m hm (s1.free z),hP1,go⟩
     |false =>
      cases eo
      exact⟨e,pa,(i:Int),0,some p,n,[pa,dl,ld],rfl,fun m hm z=>he m hm (s1.free z),hP1,go⟩
theorem follow_log{p q:Rung.Panel}{b:Bytes}(h:Lm.ge p b=.inr q):q.log.length=p.log.length+1:=by
 unfold Lm.ge at h
 split at h
 ·cases h
 ·split at h
  ·cases h
  ·cases h
   rw[Lm.did_log];simp
 ·split at h
  ·cases h
  ·split at h
   ·cases h
   ·split at h
    ·cases h
    ·cases h
     rw[Lm.did_log];simp
theorem follow_kind{p:Rung.Panel}{b:Bytes}{f:Nat}(h:Lm.ge p b=.inl f):f≠0:=by
 unfold Lm.ge at h
 split at h
 ·cases h;decide
 ·split at h
  ·cases h;decide
  ·cases h
 ·split at h
  ·cases h;decide
  ·split at h
   ·cases h;decide
   ·split at h
    ·cases h;decide
    ·cases h
abbrev sPlp:Stmt:=top 96
def spPlp(c:Cs):Sp:=fun vs H Q E=>∃(e:List Addr)(t:Bytes),vs=[sv t]/\(∀ m∈e,H m≠none)/\t.length<=50000/\match Rung.played t with
 |.error f=>f9 c E H f
 |.ok p=>∀ H' pb dl ld dx sc ck ds,ak H H'->H pb=none->H dl=none->H ld=none->PanS c e H' pb dl ld dx sc ck ds p 800000->Lm.POk p->p.s.text.length<=50000->Q (.ref pb) H'
abbrev vPlp:List Str:=["signs","score","panel","place","line","kind"]
theorem scPlp:au vPlp ["signs"] (al sPlp):=⟨rfl,rfl,rfl,by decide +kernel,rfl,by decide +kernel,by decide +kernel⟩
theorem okPlp{f:Addr}{fd:FuncData}(F:Fun K "played_panel" "played_panel" sPlp f fd)(T:Ts K c)(g:G0 mg)(x:Xs K mg c)(D1:Def P w K mg base CX0 3 "read_score" ["signs"] (spScore c))(MP:MkP P w K mg base "Panel" c.panel)(D2:d8 P w K mg base (Fx P w) 7 c.panel "begin" ["self","signs"] (spBegin c))(D3:Def P w K mg base CX0 9 "follow" ["panel","line"] (spFol c)):bq P w K mg base (Fx P w) 10 f fd ["signs"] (spPlp c):=by
 obtain⟨fI,XM⟩:=x.flt
 refine F.okX scPlp (fun vs H Q E h=>?_) (fun cdv A outer s H vs Q E hr h=>?_)
 ·obtain⟨_,_,rfl,_⟩:=h
  rfl
 ·obtain⟨e,t,rfl,he,ht,k⟩:=h
  have cl:=T.panel.cl
  have hdep:(A.deeper (envOfC "played_panel" (al sPlp) s.heap.objs.size f cdv)).depth+1<recursionLimit:=by have:=hr.dp;omega
  refine⟨_,ae (bc (i:=1) scPlp.nd rfl (Or.inl rfl) (bd D1 hr (by decide) rfl cj (aa (pv 0) af))) (ae (bc (i:=2) scPlp.nd rfl (Or.inl rfl) (pe_mkp MP hr (by decide) rfl)) (ae (bt (ni (pv 2) cl D2 hr (by decide) dj (aa (ao (pv 1) rfl) af))) (ae (io PassesOwn.leaving rfl (pi_enumS rfl g.enumerate (aa (ao (pv 1) rfl) af) (pk_cons (ao (pv 1) rfl) pk_nil)) (ma rfl (cy (br (i:=3) scPlp.nd rfl (Or.inl rfl)) (cy (br (i:=4) scPlp.nd rfl (Or.inl rfl)) jw))) (ae (bc (i:=5) scPlp.nd rfl (Or.inl rfl) (bd D3 hr (by decide) rfl cj (aa (pv 2) (aa (pv 4) af)))) (ah (bj (aq op_ne (pv 5) (ay g.NO_FAULT rfl) rfl) (ah (jy hr.hd hdep rfl x.mflt XM (aa (pv 5) (aa (pv 3) af)))) az)))) (ah (aw (pv 2)))))),?_⟩
  obtain⟨init,last,h1,h2,h3,h4⟩:=Lm.ib t
  have pe:=Lm.played_eq h1
  have icount:init.length<=50000:=by have:=jk (d:=10) t;rw[h1] at this;simp at this;omega
  have ilen:∀ b∈init,b.length<=50000:=fun b hb=>Nat.le_trans (e9 (d:=10) t b (by rw[h1];simp[hb])) ht
  have fl:(Lm.d9 init).length<=50000:=by
   have:=congrArg List.length h2
   rw[List.length_append] at this
   omega
  have kl:(init.findIdx? Rung.isDone).getD init.length<=init.length:=by
   cases e1:init.findIdx? Rung.isDone with
   |none=>exact Nat.le_refl _
   |some i =>
    have:=(List.findIdx?_eq_some_iff_getElem.mp e1).1
    exact Nat.le_of_lt this
  have fl2:=flat_take_le init ((init.findIdx? Rung.isDone).getD init.length)
  refine⟨_,rfl,t,init,last,rfl,ht,h1,fun H1 sc1 s1 hSc=>?_⟩
  generalize (init.findIdx? Rung.isDone).getD init.length=ki at pe kl fl2 hSc
  obtain⟨dsc,lt,hsc1,hlt⟩:=hSc
  intro pb dxb H2 dl0 npb ndl s2 hpb hdl
  have hsc2:=s2 _ _ hsc1
  have sA:=s1.trans s2
  refine⟨_,rfl,pb,dxb,_,rfl,hpb,rfl,_,rfl,fld T.score hsc2 (by decide) rfl ?_⟩
  refine⟨e,pb,dxb,_,_,_,_,Lm.d9 (init.take ki),rfl,fun m hm z=>he m hm (sA.free z),hpb,by omega,?_⟩
  rw[pe] at k
  cases er:Rung.readText (Lm.d9 (init.take ki)) with
  |error ff =>
   rw[er] at k
   exact f9.mono k sA
  |ok z =>
   rw[er] at k
   dsimp only at k
   have rok:=Lm.read_ok er
   intro H3 dl ld sc ck kp3 nl nd hC3
   have s13:ak H1 H3:=Kept.same s2 kp3 (by intro m hm;rw[List.mem_singleton.mp hm];exact npb)
   have few:z.text.length<=50000:=by rw[rok.1];omega
   have hsc3:=s13 _ _ hsc1
   refine⟨_,rfl,fld T.score hsc3 (by decide) rfl ⟨_,rfl,fld T.score hsc3 (by decide) rfl ⟨lt,_,ki,rfl,rfl,Nat.le_trans (Nat.le_trans kl icount) (by decide),SqL.of (s13 _ _ hlt),?_⟩⟩⟩
   refine for_enumS (K:=K) (a:=lt) (xs:=(init.drop ki).map sv) (k:=ki) (p:=3) (q:=4) (fun i σ H'=>∃(p:Rung.Panel)(ms:List Addr)(n:Nat)(v3 v4 v5:Option V),σ=[some (sv t),some (.ref sc1),some (.ref pb),v3,v4,v5]/\Lm.iy ki (Rung.loaded z) (init.drop ki) i p/\Pan c e H' pb (some p) n ms/\n<=4000 * p.log.length/\ak H1 H'/\(∀ m∈ms,H1 m=none)) ⟨Rung.loaded z,[pb,dl,ld],0,none,none,none,rfl,Lm.iy.start (Lm.POk.load rok.2),⟨dl,ld,dxb,sc,ck,[],rfl,hC3,Lm.POk.load rok.2,few⟩,Nat.zero_le _,s13,?_⟩ (fun i σ H' _ ⟨_,_,_,_,_,_,_,_,_,_,s4,_⟩=>SqL.of (s4 _ _ hlt)) ?_ ?_
   ·intro m hm
    simp only[List.mem_cons,List.not_mem_nil,or_false] at hm
    rcases hm with rfl|rfl|rfl
    ·exact npb
    ·exact s2.free nl
    ·exact s2.free nd
   ·rintro i y σ H4 H5 hy ⟨p,ms,n,v3,v4,v5,rfl,hPl,hP,hn,s4,hms⟩ s5
    obtain⟨b,hb,rfl⟩:=fc hy
    have pfew:=hPl.ok.few
    have hP5:=hP.keep s5 (Nat.le_refl _)
    have s15:=s4.trans s5
    have heH5:∀ m∈e,H5 m≠none:=fun m hm z=>he m hm ((s1.trans s15).free z)
    have bl:b.length<=50000:=ilen b (List.mem_of_mem_drop (List.mem_of_getElem? hb))
    refine⟨_,rfl,_,rfl,e,pb,b,p,n,ms,rfl,heH5,hP5,bl,?_,?_⟩
    ·have:n<=800000:=by omega
     exact Nat.lt_of_le_of_lt (Nat.add_le_add_right this 4000) (by decide)
    cases ef:Lm.ge p b with
    |inl ff =>
     intro H6 kp6
     have s16:ak H1 H6:=Kept.same s15 kp6 hms
     refine⟨_,rfl,rfl,_,rfl,?_⟩
     rw[show V.int 0=nI 0 from rfl,fg,decide_eq_false (follow_kind ef)]
     refine⟨_,rfl,_,rfl,_,_,rfl,?_⟩
     have pf:=hPl.fault hb ef
     have k:f9 c E H (ff,ki+i):=by
      rw[pf] at k
      exact k
     exact k.at_ (s1.trans s16)
    |inr p' =>
     intro H6 ms' kp6 hms' hP6
     have s16:ak H1 H6:=Kept.same s15 kp6 hms
     refine⟨_,rfl,rfl,_,rfl,?_⟩
     rw[show V.int 0=nI 0 from rfl,fg,decide_eq_true rfl]
     refine⟨p',ms',n+4000,_,_,_,rfl,hPl.step hb ef,hP6,?_,s16,fun m hm=>?_⟩
     ·rw[follow_log ef];omega
     ·rcases hms' m hm with q|q
      ·exact hms m q
      ·exact s15.free q
   ·rintro σ H4 ⟨p,ms,n,v3,v4,v5,rfl,hPl,hP,hn,s4,hms⟩
    rw[List.length_map] at hPl
    have pf:=hPl.fin
    have k:∀ H' pb dl ld dx sc ck ds,ak H H'->H pb=none->H dl=none->H ld=none->PanS c e H' pb dl ld dx sc ck ds p 800000->Lm.POk p->p.s.text.length<=50000->Q (.ref pb) H':=by
     rw[pf] at k
     exact k
    have pfew:=hPl.ok.few
    obtain⟨dl4,ld4,dx4,sc4,ck4,ds4,rfl,hC4,pok4,few4⟩:=hP
    refine⟨_,rfl,k H4 pb dl4 ld4 dx4 sc4 ck4 ds4 (s1.trans s4) (s1.free npb) (s1.free (hms dl4 (by simp))) (s1.free (hms ld4 (by simp))) (hC4.keep (ak.refl _) (by omega)) pok4 few4⟩
abbrev sPlay:Stmt:=bb (top 94) 10
def spPlay(c:Cs)(K:W.Frag):Sp:=fun vs H Q _=>∃(e:List Addr)(pa a:Addr)(ns:List Int)(st:RungPanelSeed.State)(n:Nat)(ms:List Addr),vs=[.ref pa,.ref a]/\(∀ m∈e,H m≠none)/\Pan c e H pa st n ms/\SqL K H a (ns.map V.int)/\ns.length<=100000/\(∀ x∈ns,0<=x/\x<=255)/\800000<=n/\∀ H' q,Did c e H pa ms (PanelNeutral.step st [[6],ns]).1 n (PanelNeutral.step st [[6],ns]).2 H' q->Q (.ref q) H'
abbrev vPlay:List Str:=["self","text","played","fault"]
theorem scPlay:au vPlay ["self","text"] (al sPlay):=⟨rfl,rfl,rfl,by decide +kernel,rfl,by decide +kernel,by decide +kernel⟩
theorem okPlay{f:Addr}{fd:FuncData}(F:Fun K "play" "Panel.play" sPlay f fd)(T:Ts K c)(g:G0 mg)(x:Xs K mg c)(D1:Def P w K mg base CX0 2 "signs_of" ["text"] (spSigns K))(D2:Def P w K mg base (Fx P w) 10 "played_panel" ["signs"] (spPlp c))(D3:d8 P w K mg base CX0 1 c.panel "become" ["self","other"] (spBecome c)):bq P w K mg base CX0 11 f fd ["self","text"] (spPlay c K):=by
 obtain⟨init,nno,xc⟩:=x.fltc
 refine F.ok scPlay (fun vs H Q E h=>?_) (fun cdv A outer s H vs Q E hr h=>?_)
 ·obtain⟨_,_,_,_,_,_,_,rfl,_⟩:=h
  rfl
 ·obtain⟨e,pa,a,ns,st,n,ms,rfl,he,hP,hS,hl,hb,hn,k⟩:=h
  have cl:=T.panel.cl
  refine⟨_,ae (bj (aq op_gt (be ax rfl g.len boot_len (aa (pv 1) af)) (ay g.MOST_JOURNAL_BYTES rfl) rfl) (ah (aw (bi (aa (ay g.OUT_OF_BOUNDS rfl) af)))) az) (ae (ps_try_as (j:=3) ⟨rfl,rfl,rfl⟩ (pb_set (i:=2) scPlay.nd rfl (Or.inl rfl) (px_def D2 hr (by decide) rfl rfl (aa (bd D1 hr (by decide) rfl cj (aa (pv 1) af)) af))) rfl x.mflt xc scPlay.nd rfl rfl (fun ex dx oe vs h1 h2 h3=>ah (aw (bi (aa aj (aa (pe_xfld (ex:=ex) (pv 3) rfl List.mem_cons_self h1 h2 h3 xc x.kind) (aa (pe_xfld (ex:=ex) (pv 3) rfl List.mem_cons_self h1 h2 h3 xc x.line) (aa aj af)))))))) (ae (bt (ni (pv 0) cl D3 hr (by decide) cj (aa (pv 2) af))) (ah (aw (bi (aa aj (aa (ay g.NO_FAULT rfl) (aa aj (aa (be ax rfl g.len boot_len (aa (ao (pv 0) rfl) af)) af))))))))),?_⟩
  rw[Lm.step_play] at k
  refine⟨_,rfl,a,_,rfl,.inl hS,_,_,rfl,rfl,_,rfl,?_⟩
  rw[List.length_map]
  by_cases c1:40000<ns.length
  ·rw[decide_eq_true (by omega:(40000:Int)<((ns.length:Nat):Int))]
   rw[if_pos c1] at k
   exact⟨(by show 1<=sizeLine;decide),fun q hq=>k _ q (Did.same hP (ak.new hq) (Nat.le_refl _) hq ac)⟩
  ·rw[decide_eq_false (by omega:¬(40000:Int)<((ns.length:Nat):Int))]
   rw[if_neg c1] at k
   obtain⟨pm,dx,v1,v2,v3,v4,hobj⟩:=hP.obj
   refine⟨_,rfl,a,ns,rfl,hS,hl,hb,fun H1 s1=>?_⟩
   have he1:∀ m∈e,H1 m≠none:=fun m hm z=>he m hm (s1.free z)
   have blen:(Lm.nm (Lm.bytesOf ns)).length<=50000:=by rw[Lm.nm_length];unfold Lm.bytesOf;rw[List.length_map];omega
   refine⟨e,Lm.nm (Lm.bytesOf ns),rfl,he1,blen,?_⟩
   have rn:=Lm.played_nm (Lm.bytesOf ns)
   cases er:Rung.played (Lm.bytesOf ns) with
   |error fl =>
    rw[er] at k rn
    rw[rn]
    intro H2 dxe s2 hx
    refine⟨rfl,dxe,rfl,fun ex=>?_⟩
    refine⟨_,rfl,rfl,_,_,hx,rfl,_,rfl,rfl,_,_,hx,rfl,(by show 4<=sizeLine;decide),fun q hq=>?_⟩
    exact k _ q (Did.same hP ((s1.trans s2).trans (ak.new hq)) (Nat.le_refl _) ((s1.trans s2).free hq) ac)
   |ok p =>
    rw[er] at k rn
    rw[rn]
    intro H2 pb dl ld dx2 sc ck ds s2 npb ndl nld hC pok few
    have sA:=s1.trans s2
    have hobj2:=sA _ _ hobj
    have nab:pa≠pb:=ap (s1 _ _ hobj) npb
    refine⟨_,rfl,pa,dx,_,rfl,hobj2,rfl,_,rfl,e,pa,pb,dl,ld,dx2,sc,ck,dx,ds,p,800000,v1,v2,v3,v4,rfl,hC,hobj2,nab,fun H3 kp3 hC3=>?_⟩
    refine⟨_,rfl,fld T.panel hC3.obj (by decide) rfl ⟨dl,_,rfl,.inl (SqL.of hC3.lst),(by show 4<=sizeLine;decide),fun q hq=>?_⟩⟩
    rw[List.length_map,hC3.dds.1]
    have s4:=ak.new (o:=.lst [V.int 0,V.int 0,V.int 0,nI p.log.length]) hq
    have kpA:Kept ms H H3:=(sA.kept _).trans (kp3.mono (by intro m hm;rw[List.mem_singleton.mp hm];exact pm))
    refine k _ q ⟨[pa,dl,ld],kpA.trans (s4.kept _),fun m hm=>?_,⟨dl,ld,dx,sc,ck,ds,rfl,hC3.keep s4 hn,pok,few⟩,ac,?_,fun hm=>hC3.ms q hm hq⟩
    ·simp only[List.mem_cons,List.not_mem_nil,or_false] at hm
     rcases hm with hm|hm|hm
     ·rw[hm];exact .inl pm
     ·rw[hm];exact .inr (s1.free ndl)
     ·rw[hm];exact .inr (s1.free nld)
    ·cases zz:H q with
     |none=>rfl
     |some o =>
      by_cases hm:q=pa
      ·rw[hm,hC3.obj] at hq;cases hq
      ·rw[kp3 q o (sA _ _ zz) (by simp[hm])] at hq;cases hq
end
open Lm (dz)
def ie:List (List Int)->List Int
 | [[p],x]=>p::(x.length:Int)::x
 | [l]=>l
 |_=>[]
theorem cn_eq{p:Int}{r t:List Int}{cc:List (List Int)}(h:dz p r cc t):p::r=ie cc++t:=by
 cases h with
 |text hp x t=>rfl
 |two hp a b t=>rfl
 |none hp t=>rfl
theorem Did.up{c:Cs}{e:List Addr}{H H':Hp}{pa q:Addr}{ms:List Addr}{st:RungPanelSeed.State}{n m:Nat}{out:List Int}(h:Did c e H pa ms st n out H' q)(hn:n<=m):Did c e H pa ms st m out H' q:=by
 obtain⟨ms',h1,h2,h3,h4⟩:=h.ex
 exact⟨ms',h1,h2,h3.keep (ak.refl _) hn,h4⟩
theorem Did.base{c:Cs}{e:List Addr}{H H1 H':Hp}{pa q:Addr}{ms:List Addr}{st:RungPanelSeed.State}{n:Nat}{out:List Int}(s:ak H H1)(h:Did c e H1 pa ms st n out H' q):Did c e H pa ms st n out H' q:=by
 obtain⟨ms',h1,h2,h3,h4,h5,h6⟩:=h.ex
 exact⟨ms',(s.kept _).trans h1,fun m hm=>(h2 m hm).imp id fun z=>s.free z,h3,h4,s.free h5,h6⟩
theorem cut_ints(ns:List Int)(k:Nat):nj (ns.map V.int) (some (k:Int)) none=(ns.drop k).map V.int:=by
 unfold nj
 rw[HT.sIx_nat,HT.sIx_none,List.map_drop]
 generalize ns.map V.int=xs
 by_cases h:k<=xs.length
 ·rw[Nat.min_eq_left h,List.take_of_length_le (by rw[List.length_drop];exact Nat.le_refl _)]
 ·rw[Nat.min_eq_right (by omega),List.drop_of_length_le (Nat.le_refl _),List.drop_of_length_le (by omega),List.take_nil]
theorem cut_mid(ns:List Int)(k j:Nat)(h:k+j<=ns.length):nj (ns.map V.int) (some (k:Int)) (some ((k+j:Nat):Int))=((ns.drop k).take j).map V.int:=by
 unfold nj
 rw[HT.sIx_nat,HT.sIx_nat,List.length_map,Nat.min_eq_left h,Nat.min_eq_left (by omega:k<=ns.length),Nat.add_sub_cancel_left,List.map_take,List.map_drop]
section
variable{P:Program}{w:World}{K:PySem.W.Frag}{mg:Str->Option Value}{base:Heap}{c:Cs}
abbrev sLen:Stmt:=top 98
def spLen(K:W.Frag):Sp:=fun vs H Q _=>∃(a:Addr)(ns:List Int)(pl:Nat)(p:Int)(r t:List Int)(cc:List (List Int)),vs=[.ref a,nI pl]/\SqL K H a (ns.map V.int)/\ns.drop pl=p::r/\dz p r cc t/\Q (nI (ie cc).length) H
abbrev vLen:List Str:=["calls","place","number"]
theorem scLen:au vLen ["calls","place"] (al sLen):=⟨rfl,rfl,rfl,by decide +kernel,rfl,by decide +kernel,by decide +kernel⟩
theorem drop_at{ns:List Int}{pl j:Nat}{l:List Int}{z:Int}(h:ns.drop pl=l)(hj:l[j]?=some z):ns[pl+j]?=some z:=by
 rw[<-h,List.getElem?_drop] at hj
 exact hj
theorem dec_int(a b:Int):decide (V.int a=V.int b)=decide (a=b):=by
 by_cases h:a=b
 ·rw[h];simp
 ·rw[decide_eq_false h,decide_eq_false]
  intro q
  injection q with q
  exact h q
theorem okLen{f:Addr}{fd:FuncData}(F:Fun K "call_length" "call_length" sLen f fd)(g:G0 mg):bq P w K mg base CX0 1 f fd ["calls","place"] (spLen K):=by
 refine F.ok scLen (fun vs H Q E h=>?_) (fun cdv A outer s H vs Q E hr h=>?_)
 ·obtain⟨_,_,_,_,_,_,_,rfl,_⟩:=h
  rfl
 ·obtain⟨a,ns,pl,p,r,t,cc,rfl,hS,hd,hO,k⟩:=h
  refine⟨_,ae (bc (i:=2) scLen.nd rfl (Or.inl rfl) (bo ba (pv 0) (pv 1) (fun _ _=>rfl))) (ae (bj (PW.pt (pw_or (aq cf (pv 2) (ay g.LOAD rfl) rfl) (pw_or1 (aq cf (pv 2) (ay g.PLAY rfl) rfl)))) (ah (aw (cp op_add aj (bo ba (pv 0) (cp op_add (pv 1) aj) (fun _ _=>rfl))))) az) (ae (bj (PW.pt (pw_or (aq cf (pv 2) (ay g.PRESS rfl) rfl) (pw_or1 (aq cf (pv 2) (ay g.RUN rfl) rfl)))) (ah (aw aj)) az) (ae (bj (PW.pt (pw_or (aq cf (pv 2) (ay g.TOLD rfl) rfl) (pw_or (aq cf (pv 2) (ay g.JOURNAL rfl) rfl) (pw_or1 (aq cf (pv 2) (ay g.BACK rfl) rfl))))) (ah (aw aj)) az) pss_never))),?_⟩
  have h0:ns[pl]?=some p:=drop_at (j:=0) hd rfl
  refine⟨_,rfl,_,rfl,a,_,_,_,rfl,rfl,hS,bu (gv h0),?_⟩
  refine⟨_,rfl,rfl,_,rfl,?_⟩
  rw[dec_int]
  cases hO with
  |text hp x t =>
   have h1:ns[pl+1]?=some (x.length:Int):=drop_at (j:=1) hd rfl
   have fin:tRet (tOp (rI0 fun i j=>.int (i+j)) (tC (V.int 2)) (tOp (rIxL K) (gf 0) (tOp (rI0 fun i j=>.int (i+j)) (gf 1) (tC (V.int 1))))) { nx:=fun _ _=>False,rt:=Q } [some (.ref a),some (nI pl),some (.int p)] H:=by
    refine⟨_,rfl,_,rfl,_,_,rfl,rfl,a,_,_,_,rfl,rfl,hS,bu (j:=pl+1) (gv h1),_,_,rfl,rfl,?_⟩
    have e:nI (ie [[p],x]).length=V.int (2+(x.length:Int)):=by
     show V.int ((x.length+1+1:Nat):Int)=_
     congr 1
     omega
    rw[e] at k
    exact k
   rcases hp with rfl|rfl
   ·exact fin
   ·refine⟨_,rfl,rfl,_,rfl,?_⟩
    exact fin
  |two hp x y t =>
   rcases hp with rfl|rfl
   ·refine⟨_,rfl,rfl,_,rfl,?_⟩
    refine⟨_,rfl,rfl,_,rfl,?_⟩
    exact k
   ·refine⟨_,rfl,rfl,_,rfl,?_⟩
    refine⟨_,rfl,rfl,_,rfl,?_⟩
    refine⟨_,rfl,rfl,_,rfl,?_⟩
    exact k
  |none hp t =>
   rcases hp with rfl|rfl|rfl
   ·refine⟨_,rfl,rfl,_,rfl,?_⟩
    refine⟨_,rfl,rfl,_,rfl,?_⟩
    refine⟨_,rfl,rfl,_,rfl,?_⟩
    refine⟨_,rfl,rfl,_,rfl,?_⟩
    exact k
   ·refine⟨_,rfl,rfl,_,rfl,?_⟩
    refine⟨_,rfl,rfl,_,rfl,?_⟩
    refine⟨_,rfl,rfl,_,rfl,?_⟩
    refine⟨_,rfl,rfl,_,rfl,?_⟩
    refine⟨_,rfl,rfl,_,rfl,?_⟩
    exact k
   ·refine⟨_,rfl,rfl,_,rfl,?_⟩
    refine⟨_,rfl,rfl,_,rfl,?_⟩
    refine⟨_,rfl,rfl,_,rfl,?_⟩
    refine⟨_,rfl,rfl,_,rfl,?_⟩
    refine⟨_,rfl,rfl,_,rfl,?_⟩
    refine⟨_,rfl,rfl,_,rfl,?_⟩
    exact k
abbrev sAnsw:Stmt:=top 99
def spAnsw(c:Cs)(K:W.Frag):Sp:=fun vs H Q _=>∃(e:List Addr)(pa a:Addr)(p:Int)(r t:List Int)(cc:List (List Int))(st:RungPanelSeed.State)(n:Nat)(ms:List Addr),vs=[.ref pa,.ref a]/\dz p r cc t/\PanelNeutral.asked1 cc=true/\SqL K H a ((ie cc).map V.int)/\(ie cc).length<=100000/\(∀ m∈e,H m≠none)/\Pan c e H pa st n ms/\800000<=n/\n+4000<sizeLine/\∀ H' q,Did c e H pa ms (PanelNeutral.step st cc).1 (n+4000) (PanelNeutral.step st cc).2 H' q->Q (.ref q) H'
theorem scAnsw:au ["panel","call"] ["panel","call"] (al sAnsw):=⟨rfl,rfl,rfl,by decide +kernel,rfl,by decide +kernel,by decide +kernel⟩
structure Ms(P:Program)(w:World)(K:W.Frag)(mg:Str->Option Value)(base:Heap)(c:Cs):Prop where
 load:d8 P w K mg base CX0 8 c.panel "load" ["self","text"] (spLoad c K)
 press:d8 P w K mg base CX0 4 c.panel "press" ["self","place","on"] (spPress c)
 run:d8 P w K mg base CX0 8 c.panel "run" ["self","most","stop"] (spRun c)
 told:d8 P w K mg base CX0 7 c.panel "told" ["self"] (spTold c)
 journal:d8 P w K mg base CX0 2 c.panel "journal" ["self"] (spJrn c)
 play:d8 P w K mg base CX0 11 c.panel "play" ["self","text"] (spPlay c K)
 back:d8 P w K mg base CX0 1 c.panel "back" ["self"] (spBack c)
theorem okAnsw{f:Addr}{fd:FuncData}(F:Fun K "answer" "answer" sAnsw f fd)(T:Ts K c)(g:G0 mg)(M:Ms P w K mg base c):bq P w K mg base CX0 12 f fd ["panel","call"] (spAnsw c K):=by
 refine F.ok scAnsw (fun vs H Q E h=>?_) (fun cdv A outer s H vs Q E hr h=>?_)
 ·obtain⟨_,_,_,_,_,_,_,_,_,_,rfl,_⟩:=h
  rfl
 ·obtain⟨e,pa,a,p,r,t,cc,st,n,ms,rfl,hO,hask,hS,hl,he,hP,hn8,hn,k⟩:=h
  have cl:=T.panel.cl
  refine⟨_,ae (bj (aq cf (bo ba (pv 1) aj (fun _ _=>rfl)) (ay g.LOAD rfl) rfl) (ah (aw (ni (pv 0) cl M.load hr (by decide) cj (aa (j5 mw (pv 1) (kg aj) po_none) af)))) az) (ae (bj (aq cf (bo ba (pv 1) aj (fun _ _=>rfl)) (ay g.PRESS rfl) rfl) (ah (aw (ni (pv 0) cl M.press hr (by decide) cj (aa (bo ba (pv 1) aj (fun _ _=>rfl)) (aa (bo ba (pv 1) aj (fun _ _=>rfl)) af))))) az) (ae (bj (aq cf (bo ba (pv 1) aj (fun _ _=>rfl)) (ay g.RUN rfl) rfl) (ah (aw (ni (pv 0) cl M.run hr (by decide) cj (aa (bo ba (pv 1) aj (fun _ _=>rfl)) (aa (bo ba (pv 1) aj (fun _ _=>rfl)) af))))) az) (ae (bj (aq cf (bo ba (pv 1) aj (fun _ _=>rfl)) (ay g.TOLD rfl) rfl) (ah (aw (pe_mtd0 (pv 0) cl M.told hr (by decide) cj))) az) (ae (bj (aq cf (bo ba (pv 1) aj (fun _ _=>rfl)) (ay g.JOURNAL rfl) rfl) (ah (aw (pe_mtd0 (pv 0) cl M.journal hr (by decide) cj))) az) (ae (bj (aq cf (bo ba (pv 1) aj (fun _ _=>rfl)) (ay g.PLAY rfl) rfl) (ah (aw (ni (pv 0) cl M.play hr (by decide) cj (aa (j5 mw (pv 1) (kg aj) po_none) af)))) az) (ah (aw (pe_mtd0 (pv 0) cl M.back hr (by decide) cj)))))))),?_⟩
  obtain⟨pm,dx,v1,v2,v3,v4,hobj⟩:=hP.obj
  cases hO with
  |text hp x t =>
   have at0:atI ((ie [[p],x]).map V.int) (0:Int)=some (V.int p):=bu (j:=0) rfl
   have cut2:nj ((ie [[p],x]).map V.int) (some 2) none=x.map V.int:=cut_ints (ie [[p],x]) 2
   have xl:x.length<=100000:=by
    have:(ie [[p],x]).length=x.length+2:=rfl
    omega
   rcases hp with rfl|rfl
   ·have xb:∀ z∈x,0<=z/\z<=255:=fun z hz=>by
     have h:x.all (fun(z:Int)=>decide (0<=z)&&decide (z<=255))=true:=hask
     rw[List.all_eq_true] at h
     have:=h z hz
     simpa using this
    refine⟨_,rfl,a,_,_,_,rfl,rfl,hS,at0,rfl,_,rfl,?_⟩
    refine⟨_,rfl,pa,dx,_,rfl,hobj,rfl,_,rfl,_,rfl,a,_,rfl,hS,fun pc hpc=>?_⟩
    rw[cut2]
    have s1:=ak.new (o:=.lst (x.map V.int)) hpc
    exact⟨e,pa,pc,x,st,n,ms,rfl,fun m hm z=>he m hm (s1.free z),hP.keep s1 (Nat.le_refl _),SqL.of ac,xl,xb,fun H' q D=>k H' q ((D.base s1).up (by omega))⟩
   ·have xb:∀ z∈x,0<=z/\z<=255:=fun z hz=>by
     have h:x.all (fun(z:Int)=>decide (0<=z)&&decide (z<=255))=true:=hask
     rw[List.all_eq_true] at h
     have:=h z hz
     simpa using this
    refine⟨_,rfl,a,_,_,_,rfl,rfl,hS,at0,rfl,_,rfl,?_⟩
    refine⟨_,rfl,a,_,_,_,rfl,rfl,hS,at0,rfl,_,rfl,?_⟩
    refine⟨_,rfl,a,_,_,_,rfl,rfl,hS,at0,rfl,_,rfl,?_⟩
    refine⟨_,rfl,a,_,_,_,rfl,rfl,hS,at0,rfl,_,rfl,?_⟩
    refine⟨_,rfl,a,_,_,_,rfl,rfl,hS,at0,rfl,_,rfl,?_⟩
    refine⟨_,rfl,a,_,_,_,rfl,rfl,hS,at0,rfl,_,rfl,?_⟩
    refine⟨_,rfl,pa,dx,_,rfl,hobj,rfl,_,rfl,_,rfl,a,_,rfl,hS,fun pc hpc=>?_⟩
    rw[cut2]
    have s1:=ak.new (o:=.lst (x.map V.int)) hpc
    exact⟨e,pa,pc,x,st,n,ms,rfl,fun m hm z=>he m hm (s1.free z),hP.keep s1 (Nat.le_refl _),SqL.of ac,xl,xb,hn8,fun H' q D=>k H' q ((D.base s1).up (by omega))⟩
  |two hp x y t =>
   have at0:atI ((ie [[p,x,y]]).map V.int) (0:Int)=some (V.int p):=bu (j:=0) rfl
   have at1:atI ((ie [[p,x,y]]).map V.int) (1:Int)=some (V.int x):=bu (j:=1) rfl
   have at2:atI ((ie [[p,x,y]]).map V.int) (2:Int)=some (V.int y):=bu (j:=2) rfl
   rcases hp with rfl|rfl
   ·refine⟨_,rfl,a,_,_,_,rfl,rfl,hS,at0,rfl,_,rfl,?_⟩
    refine⟨_,rfl,a,_,_,_,rfl,rfl,hS,at0,rfl,_,rfl,?_⟩
    refine⟨_,rfl,pa,dx,_,rfl,hobj,rfl,_,rfl,a,_,_,_,rfl,rfl,hS,at1,_,rfl,a,_,_,_,rfl,rfl,hS,at2,?_⟩
    exact⟨e,pa,x,y,st,n,ms,rfl,he,hP,fun H' q D=>k H' q (D.up (by omega))⟩
   ·refine⟨_,rfl,a,_,_,_,rfl,rfl,hS,at0,rfl,_,rfl,?_⟩
    refine⟨_,rfl,a,_,_,_,rfl,rfl,hS,at0,rfl,_,rfl,?_⟩
    refine⟨_,rfl,a,_,_,_,rfl,rfl,hS,at0,rfl,_,rfl,?_⟩
    refine⟨_,rfl,pa,dx,_,rfl,hobj,rfl,_,rfl,a,_,_,_,rfl,rfl,hS,at1,_,rfl,a,_,_,_,rfl,rfl,hS,at2,?_⟩
    exact⟨e,pa,x,y,st,n,ms,rfl,he,hP,hn,fun H' q D=>k H' q D⟩
  |none hp t =>
   have at0:atI ((ie [[p]]).map V.int) (0:Int)=some (V.int p):=bu (j:=0) rfl
   rcases hp with rfl|rfl|rfl
   ·refine⟨_,rfl,a,_,_,_,rfl,rfl,hS,at0,rfl,_,rfl,?_⟩
    refine⟨_,rfl,a,_,_,_,rfl,rfl,hS,at0,rfl,_,rfl,?_⟩
    refine⟨_,rfl,a,_,_,_,rfl,rfl,hS,at0,rfl,_,rfl,?_⟩
    refine⟨_,rfl,a,_,_,_,rfl,rfl,hS,at0,rfl,_,rfl,?_⟩
    refine⟨_,rfl,pa,dx,_,rfl,hobj,rfl,?_⟩
    exact⟨e,pa,st,n,ms,rfl,he,hP,by omega,fun H' q D=>k H' q (D.up (by omega))⟩
   ·refine⟨_,rfl,a,_,_,_,rfl,rfl,hS,at0,rfl,_,rfl,?_⟩
    refine⟨_,rfl,a,_,_,_,rfl,rfl,hS,at0,rfl,_,rfl,?_⟩
    refine⟨_,rfl,a,_,_,_,rfl,rfl,hS,at0,rfl,_,rfl,?_⟩
    refine⟨_,rfl,a,_,_,_,rfl,rfl,hS,at0,rfl,_,rfl,?_⟩
    refine⟨_,rfl,a,_,_,_,rfl,rfl,hS,at0,rfl,_,rfl,?_⟩
    refine⟨_,rfl,pa,dx,_,rfl,hobj,rfl,?_⟩
    exact⟨e,pa,st,n,ms,rfl,he,hP,fun H' q D=>k H' q (D.up (by omega))⟩
   ·refine⟨_,rfl,a,_,_,_,rfl,rfl,hS,at0,rfl,_,rfl,?_⟩
    refine⟨_,rfl,a,_,_,_,rfl,rfl,hS,at0,rfl,_,rfl,?_⟩
    refine⟨_,rfl,a,_,_,_,rfl,rfl,hS,at0,rfl,_,rfl,?_⟩
    refine⟨_,rfl,a,_,_,_,rfl,rfl,hS,at0,rfl,_,rfl,?_⟩
    refine⟨_,rfl,a,_,_,_,rfl,rfl,hS,at0,rfl,_,rfl,?_⟩
    refine⟨_,rfl,a,_,_,_,rfl,rfl,hS,at0,rfl,_,rfl,?_⟩
    refine⟨_,rfl,pa,dx,_,rfl,hobj,rfl,?_⟩
    exact⟨e,pa,st,n,ms,rfl,he,hP,fun H' q D=>k H' q (D.up (by omega))⟩
theorem Pan.move{c:Cs}{e:List Addr}{H:Hp}{pa g:Addr}{st:RungPanelSeed.State}{n:Nat}{ms:List Addr}{o:HO}(h:Pan c e H pa st n ms)(hg:g∈e)(hm:g∉ms):Pan c e (upd H g o) pa st n ms:=by
 cases st with
 |none =>
  obtain⟨dl,dx,rfl,h1,h2⟩:=h
  simp only[List.mem_cons,List.not_mem_nil,or_false,not_or] at hm
  exact⟨dl,dx,rfl,by rw[ai (Ne.symm hm.1)];exact h1,by rw[ai (Ne.symm hm.2)];exact h2⟩
 |some p =>
  obtain⟨dl,ld,dx,sc,ck,ds,rfl,h,h2,h3⟩:=h
  simp only[List.mem_cons,List.not_mem_nil,or_false,not_or] at hm
  exact⟨dl,ld,dx,sc,ck,ds,rfl,h.move hg hm.1 hm.2.1 hm.2.2,h2,h3⟩
theorem Pan.st{c:Cs}{e:List Addr}{H:Hp}{pa:Addr}{st:RungPanelSeed.State}{n:Nat}{ms:List Addr}(h:Pan c e H pa st n ms):∀ p,st=some p->Lm.POk p/\p.s.text.length<=50000:=by
 intro p hp
 subst hp
 obtain⟨dl,ld,dx,sc,ck,ds,rfl,h,h2,h3⟩:=h
 exact⟨h2,h3⟩
theorem journal_len{p:Rung.Panel}(h:Lm.POk p)(ht:p.s.text.length<=50000):p.journal.length<=53800:=by
 unfold Rung.Panel.journal
 rw[List.flatMap_def,List.length_append]
 have:=sum_le_mul (p.log.map (Rung.entryText p.s)) 19 (by
  intro b hb
  obtain⟨en,hen,rfl⟩:=List.mem_map.mp hb
  exact Lm.entry_len h en hen)
 rw[List.length_map] at this
 have:=h.few
 omega
theorem step_len{p:Int}{r t:List Int}{cc:List (List Int)}{st:RungPanelSeed.State}(hO:dz p r cc t)(hs:∀ p,st=some p->Lm.POk p/\p.s.text.length<=50000):(PanelNeutral.step st cc).2.length<=53801:=by
 cases hO with
 |text hp x t =>
  rcases hp with rfl|rfl
  ·rw[Lm.step_load]
   split
   ·exact Nat.le_of_ble_eq_true rfl
   ·split<;>(show 3<=53801;decide)
  ·rw[Lm.step_play]
   split
   ·exact Nat.le_of_ble_eq_true rfl
   ·split<;>(show 4<=53801;decide)
 |two hp x y t =>
  rcases hp with rfl|rfl
  ·cases st with
   |none=>show 1<=53801;decide
   |some p =>
    rw[Lm.step_press]
    split
    ·exact Nat.le_of_ble_eq_true rfl
    ·split
     ·exact Nat.le_of_ble_eq_true rfl
     ·split
      ·exact Nat.le_of_ble_eq_true rfl
      ·split<;>exact Nat.le_of_ble_eq_true rfl
  ·cases st with
   |none=>show 1<=53801;decide
   |some p =>
    rw[Lm.step_run]
    split
    ·exact Nat.le_of_ble_eq_true rfl
    ·rename_i hc
     split
     ·exact Nat.le_of_ble_eq_true rfl
     ·show([_,_,_,_]++RungPanelSeed.nums _:List Int).length<=_
      unfold RungPanelSeed.nums
      rw[List.length_append,List.length_map]
      have h1:=kx (Rung.watch p.s x.toNat y.toNat p.c).told
      unfold je at h1
      rw[h1]
      have h2:=Lm.jb (s:=p.s) x.toNat y.toNat p.c
      have h3:x.toNat<=2000:=by
       have:=Decidable.not_not.mp hc
       omega
      show 4+_<=_
      omega
 |none hp t =>
  rcases hp with rfl|rfl|rfl
  ·cases st with
   |none=>show 1<=53801;decide
   |some p =>
    obtain⟨pk,_⟩:=hs p rfl
    rw[Lm.step_told]
    show([_,_,_,_]++RungPanelSeed.nums _:List Int).length<=_
    unfold RungPanelSeed.nums
    rw[List.length_append,List.length_map,pk.len]
    have:=pk.sok.rel
    show 4+_<=_
    omega
  ·cases st with
   |none=>show 1<=53801;decide
   |some p =>
    obtain⟨pk,pt⟩:=hs p rfl
    rw[Lm.step_journal]
    show(RungPanelSeed.textOut p.journal).length+1<=_
    unfold RungPanelSeed.textOut
    rw[List.length_map]
    have:=journal_len pk pt
    omega
  ·cases st with
   |none=>show 1<=53801;decide
   |some p =>
    rw[Lm.step_back]
    split<;>(show 1<=53801;decide)
abbrev sAns:Stmt:=top 100
def spAns(K:W.Frag):Sp:=fun vs H Q _=>∃(a:Addr)(ns:List Int),vs=[.ref a]/\SqL K H a (ns.map V.int)/\ns.length<=58000/\PyWqlgsg.answers_asked ns=true/\∀(H':Hp)(p:Addr),H' p=some (.lst ((PyWqlgsg.answers ns).map V.int))->Q (.ref p) H'
abbrev vAns:List Str:=["calls","panel","given","place","length","numbers"]
theorem scAns:au vAns ["calls"] (al sAns):=⟨rfl,rfl,rfl,by decide +kernel,rfl,by decide +kernel,by decide +kernel⟩
theorem okAns{f:Addr}{fd:FuncData}(F:Fun K "answers" "answers" sAns f fd)(T:Ts K c)(g:G0 mg)(MP:MkP P w K mg base "Panel" c.panel)(D1:Def P w K mg base CX0 1 "call_length" ["calls","place"] (spLen K))(D2:Def P w K mg base CX0 12 "answer" ["panel","call"] (spAnsw c K)):bq P w K mg base CX0 13 f fd ["calls"] (spAns K):=by
 refine F.ok scAns (fun vs H Q E h=>?_) (fun cdv A outer s H vs Q E hr h=>?_)
 ·obtain⟨_,_,rfl,_⟩:=h
  rfl
 ·obtain⟨a,ns,rfl,hS,hl,hask,k⟩:=h
  obtain⟨cs,hcs,hans,hc250,hc1⟩:=Lm.asked_reads hask
  rw[hans] at k
  refine⟨_,ae (bc (i:=1) scAns.nd rfl (Or.inl rfl) (pe_mkp MP hr (by decide) rfl)) (ae (bc (i:=2) scAns.nd rfl (Or.inl rfl) (bi af)) (ae (bc (i:=3) scAns.nd rfl (Or.inl rfl) aj) (ae (ps_while PassesOwn.never (aq op_lt (pv 3) (be ax rfl g.len boot_len (aa (pv 0) af)) rfl) (ae (bc (i:=4) scAns.nd rfl (Or.inl rfl) (bd D1 hr (by decide) rfl cj (aa (pv 0) (aa (pv 3) af)))) (ae (bc (i:=5) scAns.nd rfl (Or.inl rfl) (bd D2 hr (by decide) rfl cj (aa (pv 1) (aa (j5 mw (pv 0) (kg (pv 3)) (kg (cp op_add (pv 3) (pv 4)))) af)))) (ae (bt (g8 PySem.F.plainAttrs_list PySem.F.slot_list_append PySem.F.type_list_append cv (pv 2) (aa (be ax rfl g.len boot_len (aa (pv 5) af)) af))) (ae (bt (g8 PySem.F.plainAttrs_list PySem.F.slot_list_extend PySem.F.type_list_extend mt_extend (pv 2) (aa (pv 5) af))) (ah (ku (i:=3) scAns.nd rfl (Or.inl rfl) (pv 4) mr))))))) (ah (aw (pv 2)))))),?_⟩
  intro pa dxp H1 dl npa ndl s1 hpa hdl
  refine⟨Nat.zero_le _,fun gl hgl=>?_⟩
  have sA:ak H (upd H1 gl (.lst [])):=s1.trans (ak.new hgl)
  have ngl:H gl=none:=s1.free hgl
  refine⟨fun m σ H'=>∃(pl:Nat)(done rest:List (List (List Int)))(ms:List Addr)(n:Nat)(v4 v5:Option V),m=ns.length-pl/\pl<=ns.length/\σ=[some (.ref a),some (.ref pa),some (.ref gl),some (nI pl),v4,v5]/\cs=done++rest/\Lm.Reads (ns.drop pl) rest/\Pan c [gl] H' pa (Lm.stOf done) n ms/\800000<=n/\n<=800000+4000 * done.length/\gl∉ms/\H' gl=some (.lst ((Lm.outOf done).map V.int))/\(Lm.outOf done).length<=53802 * done.length/\ak H H'/\(∀ m∈ms,H m=none),⟨_,0,[],cs,[pa,dl],800000,none,none,rfl,Nat.zero_le _,rfl,rfl,⟨_,hcs⟩,⟨dl,dxp,rfl,(ak.new hgl) _ _ hpa,(ak.new hgl) _ _ hdl⟩,Nat.le_refl _,by simp,?_,ac,Nat.zero_le _,sA,?_⟩,?_⟩
  ·simp only[List.mem_cons,List.not_mem_nil,or_false,not_or]
   exact⟨fun z=>(by rw[z,hpa] at hgl;cases hgl),fun z=>(by rw[z,hdl] at hgl;cases hgl)⟩
  ·intro m hm
   simp only[List.mem_cons,List.not_mem_nil,or_false] at hm
   rcases hm with rfl|rfl
   ·exact npa
   ·exact ndl
  rintro m σ H' ⟨pl,done,rest,ms,n,v4,v5,rfl,hpl,rfl,ecs,hrd,hP,hn8,hn,hgm,hg,hol,sH,hms⟩
  have hS':=sH.seq hS
  refine⟨_,rfl,_,rfl,a,_,rfl,.inl hS',_,_,rfl,rfl,_,rfl,?_⟩
  rw[List.length_map]
  by_cases hlt:pl<ns.length
  ·rw[decide_eq_true (by omega:((pl:Nat):Int)<((ns.length:Nat):Int))]
   obtain⟨p0,r,hd⟩:∃ p0 r,ns.drop pl=p0::r:=⟨ns[pl],ns.drop (pl+1),List.drop_eq_getElem_cons hlt⟩
   rw[hd] at hrd
   obtain⟨cc,t,rest',er,hrd',hO⟩:=hrd.cons
   subst er
   have cn:=cn_eq hO
   have lcn:(ie cc).length+t.length=ns.length-pl:=by
    have:=congrArg List.length hd
    rw[List.length_drop,cn,List.length_append] at this
    omega
   have dlen:done.length<250:=by
    have:=congrArg List.length ecs
    rw[List.length_append,List.length_cons] at this
    omega
   have cnpos:0<(ie cc).length:=by cases hO<;>(first|exact Nat.succ_pos _|simp[ie])
   refine⟨fun σ' H''=>∃(ms':List Addr)(n':Nat)(v4 v5:Option V),σ'=[some (.ref a),some (.ref pa),some (.ref gl),some (nI (pl+(ie cc).length)),v4,v5]/\Pan c [gl] H'' pa (Lm.stOf (done++[cc])) n' ms'/\800000<=n'/\n'<=800000+4000 * (done.length+1)/\gl∉ms'/\H'' gl=some (.lst ((Lm.outOf (done++[cc])).map V.int))/\ak H H''/\(∀ m∈ms',H m=none),?_,?_⟩
   ·rintro σ' H'' ⟨ms',n',v4,v5,h1,h2,h3,h4,h5,h6,h7,h8⟩
    refine⟨ns.length-(pl+(ie cc).length),by omega,pl+(ie cc).length,done++[cc],rest',ms',n',v4,v5,rfl,by omega,h1,?_,?_,h2,h3,?_,h5,h6,?_,h7,h8⟩
    ·rw[ecs];simp
    ·have:ns.drop (pl+(ie cc).length)=t:=by
      rw[<-List.drop_drop,hd,cn,List.drop_left' rfl]
     rw[this]
     exact hrd'
    ·rw[List.length_append];exact h4
    ·rw[Lm.outOf_snoc,List.length_append,List.length_cons,List.length_append]
     have:=step_len hO hP.st
     show _<=53802 * (done.length+1)
     omega
   ·
    refine⟨_,rfl,_,rfl,a,ns,pl,p0,r,t,cc,rfl,hS',hd,hO,?_⟩
    refine⟨_,rfl,_,rfl,_,rfl,_,rfl,_,rfl,_,rfl,_,_,rfl,rfl,_,rfl,a,_,rfl,hS',fun pc hpc=>?_⟩
    have ec:nj (ns.map V.int) (some ((pl:Nat):Int)) (some (((pl:Nat):Int)+(((ie cc).length:Nat):Int)))=(ie cc).map V.int:=by
     have:=cut_mid ns pl (ie cc).length (by omega)
     rw[hd,cn,List.take_left' rfl] at this
     exact this
    have s2:=ak.new (o:=.lst (nj (ns.map V.int) (some ((pl:Nat):Int)) (some (((pl:Nat):Int)+(((ie cc).length:Nat):Int))))) hpc
    have hpc2:(upd H' pc (.lst (nj (ns.map V.int) (some ((pl:Nat):Int)) (some (((pl:Nat):Int)+(((ie cc).length:Nat):Int)))))) pc=some (.lst ((ie cc).map V.int)):=by rw[ac,ec]
    generalize upd H' pc (.lst (nj (ns.map V.int) (some ((pl:Nat):Int)) (some (((pl:Nat):Int)+(((ie cc).length:Nat):Int)))))=H2 at s2 hpc2
    have hP2:=hP.keep s2 (Nat.le_refl _)
    have hg2:=s2 _ _ hg
    refine⟨[gl],pa,pc,p0,r,t,cc,Lm.stOf done,n,ms,rfl,hO,hc1 cc (by rw[ecs];simp),SqL.of hpc2,by omega,?_,hP2,hn8,?_,fun H3 q D=>?_⟩
    ·intro m hm z
     rw[List.mem_singleton.mp hm,hg2] at z
     cases z
    ·have:n+4000<=1804000:=by omega
     exact Nat.lt_of_le_of_lt this (by decide)
    obtain⟨ms',kp3,hms',hP3,hq3,nq,nqm⟩:=D.ex
    have ol:=step_len hO hP.st
    have os:=Lm.outOf_snoc done cc
    have ss:=Lm.stOf_snoc done cc
    generalize (PanelNeutral.step (Lm.stOf done) cc).2=out at hq3 ol os
    have hg3:=kp3 _ _ hg2 hgm
    have s3:ak H H3:=Kept.same (sH.trans s2) kp3 hms
    have hms3:∀ m∈ms',H m=none:=fun m hm=>(hms' m hm).elim (hms m) fun z=>(sH.trans s2).free z
    have hgm':gl∉ms':=fun hm=>(hms' gl hm).elim hgm fun z=>by rw[hg2] at z;cases z
    have nqg:q≠gl:=fun z=>by rw[z,hg2] at nq;cases nq
    rw[<-ss] at hP3
    have olen:(Lm.outOf done).length<=53802 * 250:=Nat.le_trans hol (Nat.mul_le_mul_left _ (by omega))
    refine⟨_,rfl,.inl ⟨rfl,_,SqL.of hg3⟩,_,rfl,q,_,rfl,.inl (SqL.of hq3),gl,_,_,rfl,rfl,hg3,?_,?_⟩
    ·rw[List.length_map]
     exact Nat.lt_of_le_of_lt olen (by decide)
    rw[List.length_map]
    have hP4:=hP3.move (g:=gl) (o:=.lst ((Lm.outOf done).map V.int++[V.int (out.length:Int)])) (by simp) hgm'
    refine⟨_,rfl,.inl ⟨rfl,_,SqL.of ac⟩,_,rfl,gl,q,_,_,rfl,rfl,ac,by rw[ai nqg];exact hq3,?_,?_⟩
    ·rw[List.length_append,List.length_map,List.length_map]
     show _+1+_<=_
     exact Nat.le_trans (by omega:_<=13504302) (by decide)
    rw[cu]
    have eo:(Lm.outOf done).map V.int++[V.int (out.length:Int)]++out.map V.int=(Lm.outOf (done++[cc])).map V.int:=by
     rw[os,List.map_append,List.map_cons,List.append_assoc]
     rfl
    rw[eo]
    refine⟨_,rfl,_,rfl,_,_,rfl,rfl,ms',n+4000,some (nI (ie cc).length),some (.ref q),?_,hP3.move (by simp) hgm',by omega,by omega,hgm',ac,s3.put ngl,hms3⟩
    rfl
  ·rw[decide_eq_false (by omega:¬((pl:Nat):Int)<((ns.length:Nat):Int))]
   have:ns.drop pl=[]:=List.drop_of_length_le (by omega)
   rw[this] at hrd
   have er:=hrd.nil
   subst er
   rw[List.append_nil] at ecs
   subst ecs
   exact⟨_,rfl,k H' gl hg⟩
end
structure bz(K:W.Frag)(x qual:Str)(st:Stmt)(f:Addr):Prop where
 ex:∃ fd,Fun K x qual st f fd
theorem fnIs{K:W.Frag}{x qual:Str}{st:Stmt}{f:Addr}{oc:Value}{od an:Option Addr}{osl:Array (Option Value)}{kV doc pm cdv ct:Value}(l:K.lookup f=some ⟨oc,od,.func (W.fnOf x qual (mh st) (ju st) (al st) .none kV doc pm an cdv ct),osl⟩)(c:W.codeIn K cdv qual=true)(k:W.keepIn K (.ref f)=true):bz K x qual st f:=⟨_,fun_mk l c k⟩
def clsB(K:W.Frag)(C:Addr)(names:List Str):Bool:=W.plainGet K C Str.empty&&W.hasDictIn K C&&W.plainOver K C&&(match W.findIn K (.ref C) "__setattr__" with
 |some (some (.builtin s))=>s=="object.__setattr__"
 |_=>false)&&W.makesIn K C&&W.keepIn K (.ref C)&&names.all fun f=>match W.findIn K (.ref C) f with
  |some none=>true
  |_=>false
theorem gm{K:W.Frag}{C:Addr}{names:List Str}(h:clsB K C names=true):Cl K C names/\W.makesIn K C=true/\W.keepIn K (.ref C)=true:=by
 unfold clsB at h
 rw[Bool.and_eq_true,Bool.and_eq_true,Bool.and_eq_true,Bool.and_eq_true,Bool.and_eq_true,Bool.and_eq_true] at h
 obtain⟨⟨⟨⟨⟨⟨h1,h2⟩,h3⟩,h4⟩,h5⟩,h6⟩,h7⟩:=h
 refine⟨⟨⟨h1,h2,h3,?_⟩,fun f hf=>?_⟩,h5,h6⟩
 ·split at h4
  ·rename_i e
   rw[e,eq_of_beq h4]
  ·cases h4
 ·have:=List.all_eq_true.mp h7 f hf
  split at this
  ·rename_i e
   exact e
  ·cases this
def constB(K:W.Frag):Bool:=(consts.all fun p=>match W.nsIn K mainGlobals p.1 with
 |some (some (.int i _))=>decide (p.2=.int i)
 |some (some (.str x _))=>decide (p.2=.str x)
 |_=>false)&&nones.all fun x=>match W.nsIn K mainGlobals x with
  |some none=>true
  |_=>false
theorem g0_of{K:W.Frag}{h:Heap}{mg:Str->Option Value}(X:K.In h)(G:h.Ns mainGlobals mg)(b:constB K=true):G0 mg:=by
 unfold constB at b
 rw[Bool.and_eq_true] at b
 refine⟨fun x v hm=>?_,fun x hm=>?_⟩
 ·have q:=List.all_eq_true.mp b.1 (x,v) hm
  dsimp only at q
  split at q
  ·rename_i i t e
   exact⟨_,W.mg_of X G e,by rw[of_decide_eq_true q];exact⟨_,rfl⟩⟩
  ·rename_i y t e
   exact⟨_,W.mg_of X G e,by rw[of_decide_eq_true q];exact⟨_,rfl⟩⟩
  ·cases q
 ·have q:=List.all_eq_true.mp b.2 x hm
  split at q
  ·rename_i e
   exact W.mg_none_of X G e
  ·cases q
def fnB(K:W.Frag)(f:Addr):Bool:=match K.lookup f with
 |some ⟨.type n,_,_,_⟩=>n=="function"
 |_=>false
theorem fnB_of{K:W.Frag}{f:Addr}(h:fnB K f=true):∃ oI,K.lookup f=some oI/\oI.cls=.type "function":=by
 unfold fnB at h
 split at h
 ·rename_i n a b d e
  exact⟨_,e,by rw[eq_of_beq h]⟩
 ·cases h
abbrev iFault:Stmt:=bb (top 40) 0
theorem scFault:au ["self","kind","line"] ["self","kind","line"] (al iFault):=⟨rfl,rfl,rfl,by decide +kernel,rfl,by decide +kernel,by decide +kernel⟩
theorem xmk_of{K:W.Frag}{C fI:Addr}(F:bz K "__init__" "Fault.__init__" iFault fI)(xc:gu K C (some (.ref fI)) []=true)(kp:W.keepIn K (.ref C)=true)(fb:fnB K fI=true)(xa:XAttr K C "kind")(xb:XAttr K C "line"):XMk K C fI "kind" "line":=by
 obtain⟨fd,F⟩:=F.ex
 have bn:=F.binds (ps:=["self","kind","line"]) fun _ _ _ _ _ _ us hl=>match us,hl with | [_,_,_],_=>rfl
 obtain⟨oc,od,kV,doc,pm,an,cdv,ct,osl,rfl,lk,hcd⟩:=F.ex
 refine⟨by decide,⟨[],xc⟩,fnB_of fb,kp,fun P w A R s ex u1 u2 vs KX lim hdep he hKx hq=>?_⟩
 exact init_run (a:="kind") (b:="line") rfl lk hcd scFault (by decide +kernel) (by have:=bn s [.ref ex,u1,u2] KX rfl;exact this) KX lim hdep xc xa xb (by decide) (by decide) (fun _=>rfl) (fun _=>rfl) he hKx hq
theorem all_mk{P:Program}{w:World}{K:W.Frag}{h:Heap}{mg:Str->Option Value}{fa:Addr}(X:K.In h)(G:h.Ns mainGlobals mg)(hfa:mg "answers"=some (.ref fa)){fRelVar:Addr}(aRelVar:W.nsIn K mainGlobals "relay_variable"=some (some (.ref fRelVar)))(lRelVar:bz K "relay_variable" "relay_variable" (top 8) fRelVar){fLets:Addr}(aLets:W.nsIn K mainGlobals "lets_through"=some (some (.ref fLets)))(lLets:bz K "lets_through" "lets_through" (top 9) fLets){fNb:Addr}(aNb:W.nsIn K mainGlobals "neighbours"=some (some (.ref fNb)))(lNb:bz K "neighbours" "neighbours" (top 10) fNb){fLive:Addr}(aLive:W.nsIn K mainGlobals "live_nodes"=some (some (.ref fLive)))(lLive:bz K "live_nodes" "live_nodes" (top 11) fLive){fLook:Addr}(aLook:W.nsIn K mainGlobals "look_at"=some (some (.ref fLook)))(lLook:bz K "look_at" "look_at" (top 12) fLook){fDrawnIn:Addr}(aDrawnIn:W.nsIn K mainGlobals "drawn_in"=some (some (.ref fDrawnIn)))(lDrawnIn:bz K "drawn_in" "drawn_in" (top 13) fDrawnIn){fNew:Addr}(aNew:W.nsIn K mainGlobals "new_clock"=some (some (.ref fNew)))(lNew:bz K "new_clock" "new_clock" (top 16) fNew){fWith:Addr}(aWith:W.nsIn K mainGlobals "with_input_turned"=some (some (.ref fWith)))(lWith:bz K "with_input_turned" "with_input_turned" (top 17) fWith){fDelay:Addr}(aDelay:W.nsIn K mainGlobals "delay_in"=some (some (.ref fDelay)))(lDelay:bz K "delay_in" "delay_in" (top 18) fDelay){fTick:Addr}(aTick:W.nsIn K mainGlobals "tick"=some (some (.ref fTick)))(lTick:bz K "tick" "tick" (top 19) fTick){fQuiet:Addr}(aQuiet:W.nsIn K mainGlobals "quiet_ticks"=some (some (.ref fQuiet)))(lQuiet:bz K "quiet_ticks" "quiet_ticks" (top 20) fQuiet){fPass:Addr}(aPass:W.nsIn K mainGlobals "pass_quietly"=some (some (.ref fPass)))(lPass:bz K "pass_quietly" "pass_quietly" (top 21) fPass){fSigns:Addr}(aSigns:W.nsIn K mainGlobals "signs_of"=some (some (.ref fSigns)))(lSigns:bz K "signs_of" "signs_of" (top 43) fSigns){fName:Addr}(aName:W.nsIn K mainGlobals "name_of"=some (some (.ref fName)))(lName:bz K "name_of" "name_of" (top 44) fName){fNumber:Addr}(aNumber:W.nsIn K mainGlobals "number_of"=some (some (.ref fNumber)))(lNumber:bz K "number_of" "number_of" (top 45) fNumber){fNode:Addr}(aNode:W.nsIn K mainGlobals "node_of"=some (some (.ref fNode)))(lNode:bz K "node_of" "node_of" (top 46) fNode){fExpect:Addr}(aExpect:W.nsIn K mainGlobals "expect"=some (some (.ref fExpect)))(lExpect:bz K "expect" "expect" (top 47) fExpect){fRdIn:Addr}(aRdIn:W.nsIn K mainGlobals "read_in"=some (some (.ref fRdIn)))(lRdIn:bz K "read_in" "read_in" (top 48) fRdIn){fRdRel:Addr}(aRdRel:W.nsIn K mainGlobals "read_relay"=some (some (.ref fRdRel)))(lRdRel:bz K "read_relay" "read_relay" (top 49) fRdRel){fRdLamp:Addr}(aRdLamp:W.nsIn K mainGlobals "read_lamp"=some (some (.ref fRdLamp)))(lRdLamp:bz K "read_lamp" "read_lamp" (top 50) fRdLamp){fRdCon:Addr}(aRdCon:W.nsIn K mainGlobals "read_contact"=some (some (.ref fRdCon)))(lRdCon:bz K "read_contact" "read_contact" (top 51) fRdCon){fRdRow:Addr}(aRdRow:W.nsIn K mainGlobals "read_row"=some (some (.ref fRdRow)))(lRdRow:bz K "read_row" "read_row" (top 52) fRdRow){fRows:Addr}(aRows:W.nsIn K mainGlobals "read_rows"=some (some (.ref fRows)))(lRows:bz K "read_rows" "read_rows" (top 53) fRows){fOrd:Addr}(aOrd:W.nsIn K mainGlobals "check_order"=some (some (.ref fOrd)))(lOrd:bz K "check_order" "check_order" (top 54) fOrd){fCnt:Addr}(aCnt:W.nsIn K mainGlobals "check_counts"=some (some (.ref fCnt)))(lCnt:bz K "check_counts" "check_counts" (top 55) fCnt){fNms:Addr}(aNms:W.nsIn K mainGlobals "check_names"=some (some (.ref fNms)))(lNms:bz K "check_names" "check_names" (top 56) fNms){fAdd:Addr}(aAdd:W.nsIn K mainGlobals "add_contact"=some (some (.ref fAdd)))(lAdd:bz K "add_contact" "add_contact" (top 57) fAdd){fBuild:Addr}(aBuild:W.nsIn K mainGlobals "build"=some (some (.ref fBuild)))(lBuild:bz K "build" "build" (top 58) fBuild){fRdS:Addr}(aRdS:W.nsIn K mainGlobals "read_scheme"=some (some (.ref fRdS)))(lRdS:bz K "read_scheme" "read_scheme" (top 59) fRdS){fLine:Addr}(aLine:W.nsIn K mainGlobals "thing_line"=some (some (.ref fLine)))(lLine:bz K "thing_line" "thing_line" (top 67) fLine){fBeg:Addr}(aBeg:W.nsIn K mainGlobals "begins_a_thing"=some (some (.ref fBeg)))(lBeg:bz K "begins_a_thing" "begins_a_thing" (top 68) fBeg){fRdScore:Addr}(aRdScore:W.nsIn K mainGlobals "read_score"=some (some (.ref fRdScore)))(lRdScore:bz K "read_score" "read_score" (top 69) fRdScore){fRdThing:Addr}(aRdThing:W.nsIn K mainGlobals "read_thing"=some (some (.ref fRdThing)))(lRdThing:bz K "read_thing" "read_thing" (top 70) fRdThing){fFol:Addr}(aFol:W.nsIn K mainGlobals "follow"=some (some (.ref fFol)))(lFol:bz K "follow" "follow" (top 95) fFol){fPlp:Addr}(aPlp:W.nsIn K mainGlobals "played_panel"=some (some (.ref fPlp)))(lPlp:bz K "played_panel" "played_panel" (top 96) fPlp){fOnes:Addr}(aOnes:W.nsIn K mainGlobals "count_ones"=some (some (.ref fOnes)))(lOnes:bz K "count_ones" "count_ones" (top 97) fOnes){fLen:Addr}(aLen:W.nsIn K mainGlobals "call_length"=some (some (.ref fLen)))(lLen:bz K "call_length" "call_length" (top 98) fLen){fAnsw:Addr}(aAnsw:W.nsIn K mainGlobals "answer"=some (some (.ref fAnsw)))(lAnsw:bz K "answer" "answer" (top 99) fAnsw){fAns:Addr}(aAns:W.nsIn K mainGlobals "answers"=some (some (.ref fAns)))(lAns:bz K "answers" "answers" (top 100) fAns){CRelay iRelayA:Addr}(aCRelay:W.nsIn K mainGlobals "Relay"=some (some (.ref CRelay)))(bRelay:clsB K CRelay kt=true)(aiRelay:W.findIn K (.ref CRelay) "__init__"=some (some (.ref iRelayA)))(iiRelay:W.isFn K (.ref iRelayA)=true)(liRelay:bz K "__init__" "Relay.__init__" (bb (top 4) 0) iRelayA){CContact iContactA:Addr}(aCContact:W.nsIn K mainGlobals "Contact"=some (some (.ref CContact)))(bContact:clsB K CContact gp=true)(aiContact:W.findIn K (.ref CContact) "__init__"=some (some (.ref iContactA)))(iiContact:W.isFn K (.ref iContactA)=true)(liContact:bz K "__init__" "Contact.__init__" (bb (top 5) 0) iContactA){CDrawn iDrawnA:Addr}(aCDrawn:W.nsIn K mainGlobals "Drawn"=some (some (.ref CDrawn)))(bDrawn:clsB K CDrawn kr=true)(aiDrawn:W.findIn K (.ref CDrawn) "__init__"=some (some (.ref iDrawnA)))(iiDrawn:W.isFn K (.ref iDrawnA)=true)(liDrawn:bz K "__init__" "Drawn.__init__" (bb (top 6) 0) iDrawnA){CScheme iSchemeA:Addr}(aCScheme:W.nsIn K mainGlobals "Scheme"=some (some (.ref CScheme)))(bScheme:clsB K CScheme nScheme=true)(aiScheme:W.findIn K (.ref CScheme) "__init__"=some (some (.ref iSchemeA)))(iiScheme:W.isFn K (.ref iSchemeA)=true)(liScheme:bz K "__init__" "Scheme.__init__" (bb (top 7) 0) iSchemeA){CClock iClockA:Addr}(aCClock:W.nsIn K mainGlobals "Clock"=some (some (.ref CClock)))(bClock:clsB K CClock iq=true)(aiClock:W.findIn K (.ref CClock) "__init__"=some (some (.ref iClockA)))(iiClock:W.isFn K (.ref iClockA)=true)(liClock:bz K "__init__" "Clock.__init__" (bb (top 15) 0) iClockA){CRow iRowA:Addr}(aCRow:W.nsIn K mainGlobals "Row"=some (some (.ref CRow)))(bRow:clsB K CRow nRow=true)(aiRow:W.findIn K (.ref CRow) "__init__"=some (some (.ref iRowA)))(iiRow:W.isFn K (.ref iRowA)=true)(liRow:bz K "__init__" "Row.__init__" (bb (top 42) 0) iRowA){CThing iThingA:Addr}(aCThing:W.nsIn K mainGlobals "Thing"=some (some (.ref CThing)))(bThing:clsB K CThing j7=true)(aiThing:W.findIn K (.ref CThing) "__init__"=some (some (.ref iThingA)))(iiThing:W.isFn K (.ref iThingA)=true)(liThing:bz K "__init__" "Thing.__init__" (bb (top 65) 0) iThingA){CScore iScoreA:Addr}(aCScore:W.nsIn K mainGlobals "Score"=some (some (.ref CScore)))(bScore:clsB K CScore j3=true)(aiScore:W.findIn K (.ref CScore) "__init__"=some (some (.ref iScoreA)))(iiScore:W.isFn K (.ref iScoreA)=true)(liScore:bz K "__init__" "Score.__init__" (bb (top 66) 0) iScoreA){CDeed iDeedA:Addr}(aCDeed:W.nsIn K mainGlobals "Deed"=some (some (.ref CDeed)))(bDeed:clsB K CDeed nDeed=true)(aiDeed:W.findIn K (.ref CDeed) "__init__"=some (some (.ref iDeedA)))(iiDeed:W.isFn K (.ref iDeedA)=true)(liDeed:bz K "__init__" "Deed.__init__" (bb (top 93) 0) iDeedA){CPanel iPanelA:Addr}(aCPanel:W.nsIn K mainGlobals "Panel"=some (some (.ref CPanel)))(bPanel:clsB K CPanel nPanel=true)(aiPanel:W.findIn K (.ref CPanel) "__init__"=some (some (.ref iPanelA)))(iiPanel:W.isFn K (.ref iPanelA)=true)(liPanel:bz K "__init__" "Panel.__init__" (bb (top 94) 0) iPanelA){mbegin:Addr}(ambegin:W.findIn K (.ref CPanel) "begin"=some (some (.ref mbegin)))(imbegin:W.isFn K (.ref mbegin)=true)(lmbegin:bz K "begin" "Panel.begin" (bb (top 94) 1) mbegin){mbecome:Addr}(ambecome:W.findIn K (.ref CPanel) "become"=some (some (.ref mbecome)))(imbecome:W.isFn K (.ref mbecome)=true)(lmbecome:bz K "become" "Panel.become" (bb (top 94) 2) mbecome){mload:Addr}(amload:W.findIn K (.ref CPanel) "load"=some (some (.ref mload)))(imload:W.isFn K (.ref mload)=true)(lmload:bz K "load" "Panel.load" (bb (top 94) 3) mload){mpress:Addr}(ampress:W.findIn K (.ref CPanel) "press"=some (some (.ref mpress)))(impress:W.isFn K (.ref mpress)=true)(lmpress:bz K "press" "Panel.press" (bb (top 94) 4) mpress){mrun:Addr}(amrun:W.findIn K (.ref CPanel) "run"=some (some (.ref mrun)))(imrun:W.isFn K (.ref mrun)=true)(lmrun:bz K "run" "Panel.run" (bb (top 94) 5) mrun){mpass_ticks:Addr}(ampass_ticks:W.findIn K (.ref CPanel) "pass_ticks"=some (some (.ref mpass_ticks)))(impass_ticks:W.isFn K (.ref mpass_ticks)=true)(lmpass_ticks:bz K "pass_ticks" "Panel.pass_ticks" (bb (top 94) 6) mpass_ticks){mtold:Addr}(amtold:W.findIn K (.ref CPanel) "told"=some (some (.ref mtold)))(imtold:W.isFn K (.ref mtold)=true)(lmtold:bz K "told" "Panel.told" (bb (top 94) 7) mtold){mlamps_drawn:Addr}(amlamps_drawn:W.findIn K (.ref CPanel) "lamps_drawn"=some (some (.ref mlamps_drawn)))(imlamps_drawn:W.isFn K (.ref mlamps_drawn)=true)(lmlamps_drawn:bz K "lamps_drawn" "Panel.lamps_drawn" (bb (top 94) 8) mlamps_drawn){mjournal:Addr}(amjournal:W.findIn K (.ref CPanel) "journal"=some (some (.ref mjournal)))(imjournal:W.isFn K (.ref mjournal)=true)(lmjournal:bz K "journal" "Panel.journal" (bb (top 94) 9) mjournal){mplay:Addr}(amplay:W.findIn K (.ref CPanel) "play"=some (some (.ref mplay)))(implay:W.isFn K (.ref mplay)=true)(lmplay:bz K "play" "Panel.play" (bb (top 94) 10) mplay){mback:Addr}(amback:W.findIn K (.ref CPanel) "back"=some (some (.ref mback)))(imback:W.isFn K (.ref mback)=true)(lmback:bz K "back" "Panel.back" (bb (top 94) 11) mback){CFault iFaultA CShp:Addr}(aFault:W.nsIn K mainGlobals "Fault"=some (some (.ref CFault)))(aShp:W.nsIn K mainGlobals "Shapeless"=some (some (.ref CShp)))(aiFault:W.findIn K (.ref CFault) "__init__"=some (some (.ref iFaultA)))(liFault:bz K "__init__" "Fault.__init__" iFault iFaultA)(xcF:gu K CFault (some (.ref iFaultA)) []=true)(kpF:W.keepIn K (.ref CFault)=true)(fbF:fnB K iFaultA=true)(saF:W.findIn K (.ref CFault) "__setattr__"=some (some (.builtin "object.__setattr__")))(gaF:W.findIn K (.ref CFault) "__getattribute__"=some (some (.builtin "BaseException.__getattribute__")))(ghF:W.findIn K (.ref CFault) "__getattr__"=some none)(nkF:W.findIn K (.ref CFault) "kind"=some none)(nlF:W.findIn K (.ref CFault) "line"=some none)(hdF:W.hasDictIn K CFault=true)(xcS:gu K CShp none []=true){aT:Addr}{odT:Option Addr}{slT:Array (Option Value)}{nT:Nat}{t1 t2 t3 t4:Tok}(aTup:W.nsIn K mainGlobals "MOST_OF_RANK"=some (some (.ref aT)))(lTup:K.lookup aT=some ⟨.type "tuple",odT,.seq #[.int 16 t1,.int 12 t2,.int 16 t3,.int 256 t4] nT,slT⟩)(cb:constB K=true):∃ fd:FuncData,(∀(s:Shared)(us:List Value),us.length=(["calls"]:List Str).length->BindsTo s fd ⟨us,[]⟩ ((["calls"]:List Str).zip us))/\∀ base:Heap,K.In base->base.Ns mainGlobals mg->bq P w K mg base CX0 13 fa fd ["calls"] (spAns K):=by
 have e:=hfa.symm.trans (W.mg_of X G aAns)
 cases e
 have g:G0 mg:=g0_of X G cb
 have gt:GT K mg:=⟨aT,W.mg_of X G aTup,fun H=>.inr ⟨_,_,_,lTup,rfl,rfl,by show 4<=sizeLine;decide,.cons ⟨_,rfl⟩ (.cons ⟨_,rfl⟩ (.cons ⟨_,rfl⟩ (.cons ⟨_,rfl⟩ .nil)))⟩⟩
 obtain⟨kRelay,mkRelay,kcRelay⟩:=gm bRelay
 obtain⟨kContact,mkContact,kcContact⟩:=gm bContact
 obtain⟨kDrawn,mkDrawn,kcDrawn⟩:=gm bDrawn
 obtain⟨kScheme,mkScheme,kcScheme⟩:=gm bScheme
 obtain⟨kClock,mkClock,kcClock⟩:=gm bClock
 obtain⟨kRow,mkRow,kcRow⟩:=gm bRow
 obtain⟨kThing,mkThing,kcThing⟩:=gm bThing
 obtain⟨kScore,mkScore,kcScore⟩:=gm bScore
 obtain⟨kDeed,mkDeed,kcDeed⟩:=gm bDeed
 obtain⟨kPanel,mkPanel,kcPanel⟩:=gm bPanel
 have T:Ts K ⟨CRelay,CContact,CDrawn,CScheme,CClock,CRow,CThing,CScore,CDeed,CPanel,CFault,CShp⟩:=⟨kRelay,kContact,kDrawn,kScheme,kClock,kRow,kThing,kScore,kDeed,kPanel⟩
 have xs:Xs K mg ⟨CRelay,CContact,CDrawn,CScheme,CClock,CRow,CThing,CScore,CDeed,CPanel,CFault,CShp⟩:=⟨xcS,W.mg_of X G aShp,⟨_,xmk_of liFault xcF kpF fbF ⟨saF,nkF,hdF⟩ ⟨saF,nlF,hdF⟩⟩,W.mg_of X G aFault,⟨_,_,xcF⟩,⟨gaF,ghF,nkF,hdF⟩,⟨gaF,ghF,nlF,hdF⟩⟩
 generalize hcs:(⟨CRelay,CContact,CDrawn,CScheme,CClock,CRow,CThing,CScore,CDeed,CPanel,CFault,CShp⟩:Cs)=c at T xs
 have eRelay:CRelay=c.relay:=by rw[<-hcs]
 subst eRelay
 have eContact:CContact=c.contact:=by rw[<-hcs]
 subst eContact
 have eDrawn:CDrawn=c.drawn:=by rw[<-hcs]
 subst eDrawn
 have eScheme:CScheme=c.scheme:=by rw[<-hcs]
 subst eScheme
 have eClock:CClock=c.clock:=by rw[<-hcs]
 subst eClock
 have eRow:CRow=c.row:=by rw[<-hcs]
 subst eRow
 have eThing:CThing=c.thing:=by rw[<-hcs]
 subst eThing
 have eScore:CScore=c.score:=by rw[<-hcs]
 subst eScore
 have eDeed:CDeed=c.deed:=by rw[<-hcs]
 subst eDeed
 have ePanel:CPanel=c.panel:=by rw[<-hcs]
 subst ePanel
 obtain⟨dRelVar,FRelVar⟩:=lRelVar.ex
 obtain⟨dLets,FLets⟩:=lLets.ex
 obtain⟨dNb,FNb⟩:=lNb.ex
 obtain⟨dLive,FLive⟩:=lLive.ex
 obtain⟨dLook,FLook⟩:=lLook.ex
 obtain⟨dDrawnIn,FDrawnIn⟩:=lDrawnIn.ex
 obtain⟨dNew,FNew⟩:=lNew.ex
 obtain⟨dWith,FWith⟩:=lWith.ex
 obtain⟨dDelay,FDelay⟩:=lDelay.ex
 obtain⟨dTick,FTick⟩:=lTick.ex
 obtain⟨dQuiet,FQuiet⟩:=lQuiet.ex
 obtain⟨dPass,FPass⟩:=lPass.ex
 obtain⟨dSigns,FSigns⟩:=lSigns.ex
 obtain⟨dName,FName⟩:=lName.ex
 obtain⟨dNumber,FNumber⟩:=lNumber.ex
 obtain⟨dNode,FNode⟩:=lNode.ex
 obtain⟨dExpect,FExpect⟩:=lExpect.ex
 obtain⟨dRdIn,FRdIn⟩:=lRdIn.ex
 obtain⟨dRdRel,FRdRel⟩:=lRdRel.ex
 obtain⟨dRdLamp,FRdLamp⟩:=lRdLamp.ex
 obtain⟨dRdCon,FRdCon⟩:=lRdCon.ex
 obtain⟨dRdRow,FRdRow⟩:=lRdRow.ex
 obtain⟨dRows,FRows⟩:=lRows.ex
 obtain⟨dOrd,FOrd⟩:=lOrd.ex
 obtain⟨dCnt,FCnt⟩:=lCnt.ex
 obtain⟨dNms,FNms⟩:=lNms.ex
 obtain⟨dAdd,FAdd⟩:=lAdd.ex
 obtain⟨dBuild,FBuild⟩:=lBuild.ex
 obtain⟨dRdS,FRdS⟩:=lRdS.ex
 obtain⟨dLine,FLine⟩:=lLine.ex
 obtain⟨dBeg,FBeg⟩:=lBeg.ex
 obtain⟨dRdScore,FRdScore⟩:=lRdScore.ex
 obtain⟨dRdThing,FRdThing⟩:=lRdThing.ex
 obtain⟨dFol,FFol⟩:=lFol.ex
 obtain⟨dPlp,FPlp⟩:=lPlp.ex
 obtain⟨dOnes,FOnes⟩:=lOnes.ex
 obtain⟨dLen,FLen⟩:=lLen.ex
 obtain⟨dAnsw,FAnsw⟩:=lAnsw.ex
 obtain⟨dAns,FAns⟩:=lAns.ex
 obtain⟨diRelay,FiRelay⟩:=liRelay.ex
 obtain⟨diContact,FiContact⟩:=liContact.ex
 obtain⟨diDrawn,FiDrawn⟩:=liDrawn.ex
 obtain⟨diScheme,FiScheme⟩:=liScheme.ex
 obtain⟨diClock,FiClock⟩:=liClock.ex
 obtain⟨diRow,FiRow⟩:=liRow.ex
 obtain⟨diThing,FiThing⟩:=liThing.ex
 obtain⟨diScore,FiScore⟩:=liScore.ex
 obtain⟨diDeed,FiDeed⟩:=liDeed.ex
 obtain⟨diPanel,FiPanel⟩:=liPanel.ex
 obtain⟨dmbegin,Fmbegin⟩:=lmbegin.ex
 obtain⟨dmbecome,Fmbecome⟩:=lmbecome.ex
 obtain⟨dmload,Fmload⟩:=lmload.ex
 obtain⟨dmpress,Fmpress⟩:=lmpress.ex
 obtain⟨dmrun,Fmrun⟩:=lmrun.ex
 obtain⟨dmpass_ticks,Fmpass_ticks⟩:=lmpass_ticks.ex
 obtain⟨dmtold,Fmtold⟩:=lmtold.ex
 obtain⟨dmlamps_drawn,Fmlamps_drawn⟩:=lmlamps_drawn.ex
 obtain⟨dmjournal,Fmjournal⟩:=lmjournal.ex
 obtain⟨dmplay,Fmplay⟩:=lmplay.ex
 obtain⟨dmback,Fmback⟩:=lmback.ex
 refine⟨dAns,fun s us hu=>?_,fun base _ _=>?_⟩
 ·obtain⟨oc,od,kV,doc,pm,an,cdv,ct,osl,rfl,lk,hcd⟩:=FAns.ex
  exact match us,hu with | [_],_=>.of_eq rfl
 ·have MRelay:MkD P w K mg base "Relay" c.relay kt:=⟨_,_,_,⟨mkRelay,aiRelay,iiRelay,kcRelay⟩,okRelay FiRelay kRelay,W.mg_of X G aCRelay,FiRelay.binds (ps:=["self","bit","node","up","down"]) fun _ _ _ _ _ _ us hl=>match us,hl with | [_,_,_,_,_],_=>rfl⟩
  have MContact:MkD P w K mg base "Contact" c.contact gp:=⟨_,_,_,⟨mkContact,aiContact,iiContact,kcContact⟩,okContact FiContact kContact,W.mg_of X G aCContact,FiContact.binds (ps:=["self","low","high","variable","through"]) fun _ _ _ _ _ _ us hl=>match us,hl with | [_,_,_,_,_],_=>rfl⟩
  have MDrawn:MkD P w K mg base "Drawn" c.drawn kr:=⟨_,_,_,⟨mkDrawn,aiDrawn,iiDrawn,kcDrawn⟩,okDrawn FiDrawn kDrawn,W.mg_of X G aCDrawn,FiDrawn.binds (ps:=["self","relays","lamps"]) fun _ _ _ _ _ _ us hl=>match us,hl with | [_,_,_],_=>rfl⟩
  have MScheme:MkS P w K mg base "Scheme" c.scheme:=⟨_,_,⟨mkScheme,aiScheme,iiScheme,kcScheme⟩,okScheme FiScheme kScheme,W.mg_of X G aCScheme,FiScheme.binds (ps:=["self"]) fun _ _ _ _ _ _ us hl=>match us,hl with | [_],_=>rfl⟩
  have MClock:MkD P w K mg base "Clock" c.clock iq:=⟨_,_,_,⟨mkClock,aiClock,iiClock,kcClock⟩,okClock FiClock kClock,W.mg_of X G aCClock,FiClock.binds (ps:=["self","state","ticks","waits"]) fun _ _ _ _ _ _ us hl=>match us,hl with | [_,_,_,_],_=>rfl⟩
  have MRow:MkD P w K mg base "Row" c.row nRow:=⟨_,_,_,⟨mkRow,aiRow,iiRow,kcRow⟩,okRow FiRow kRow,W.mg_of X G aCRow,FiRow.binds (ps:=["self","rank","name","numbers"]) fun _ _ _ _ _ _ us hl=>match us,hl with | [_,_,_,_],_=>rfl⟩
  have MThing:MkD P w K mg base "Thing" c.thing j7:=⟨_,_,_,⟨mkThing,aiThing,iiThing,kcThing⟩,okThing FiThing kThing,W.mg_of X G aCThing,FiThing.binds (ps:=["self","word","name","ticks"]) fun _ _ _ _ _ _ us hl=>match us,hl with | [_,_,_,_],_=>rfl⟩
  have MScore:MkD P w K mg base "Score" c.score j3:=⟨_,_,_,⟨mkScore,aiScore,iiScore,kcScore⟩,okScore FiScore kScore,W.mg_of X G aCScore,FiScore.binds (ps:=["self","scheme_text","things","first"]) fun _ _ _ _ _ _ us hl=>match us,hl with | [_,_,_,_],_=>rfl⟩
  have MDeed:MkD P w K mg base "Deed" c.deed nDeed:=⟨_,_,_,⟨mkDeed,aiDeed,iiDeed,kcDeed⟩,okDeed FiDeed kDeed,W.mg_of X G aCDeed,FiDeed.binds (ps:=["self","line","before"]) fun _ _ _ _ _ _ us hl=>match us,hl with | [_,_,_],_=>rfl⟩
  have MPanel:MkP P w K mg base "Panel" c.panel:=⟨_,_,⟨mkPanel,aiPanel,iiPanel,kcPanel⟩,okPanel FiPanel kPanel,W.mg_of X G aCPanel,FiPanel.binds (ps:=["self"]) fun _ _ _ _ _ _ us hl=>match us,hl with | [_],_=>rfl⟩
  have DRelVar:Def P w K mg base CX0 1 "relay_variable" ["place"] spRelVar:=⟨_,_,okRelVar FRelVar g.FIRST_RELAY,W.mg_of X G aRelVar,FRelVar.kp,FRelVar.binds (ps:=["place"]) fun _ _ _ _ _ _ us hl=>match us,hl with | [_],_=>rfl⟩
  have DLets:Def P w K mg base CX0 1 "lets_through" ["contact","state"] (spLets c):=⟨_,_,okLets FLets T,W.mg_of X G aLets,FLets.kp,FLets.binds (ps:=["contact","state"]) fun _ _ _ _ _ _ us hl=>match us,hl with | [_,_],_=>rfl⟩
  have DNb:Def P w K mg base CX0 2 "neighbours" ["scheme","state"] (spNb c):=⟨_,_,okNb FNb T g DLets,W.mg_of X G aNb,FNb.kp,FNb.binds (ps:=["scheme","state"]) fun _ _ _ _ _ _ us hl=>match us,hl with | [_,_],_=>rfl⟩
  have DLive:Def P w K mg base CX0 3 "live_nodes" ["scheme","state"] (spLive c):=⟨_,_,okLive FLive T g DNb,W.mg_of X G aLive,FLive.kp,FLive.binds (ps:=["scheme","state"]) fun _ _ _ _ _ _ us hl=>match us,hl with | [_,_],_=>rfl⟩
  have DLook:Def P w K mg base CX0 4 "look_at" ["scheme","state"] (spLook c):=⟨_,_,okLook FLook T g DLive MDrawn,W.mg_of X G aLook,FLook.kp,FLook.binds (ps:=["scheme","state"]) fun _ _ _ _ _ _ us hl=>match us,hl with | [_,_],_=>rfl⟩
  have DDrawnIn:Def P w K mg base CX0 5 "drawn_in" ["scheme","state"] (spDrawn c):=⟨_,_,okDrawnIn FDrawnIn T DLook,W.mg_of X G aDrawnIn,FDrawnIn.kp,FDrawnIn.binds (ps:=["scheme","state"]) fun _ _ _ _ _ _ us hl=>match us,hl with | [_,_],_=>rfl⟩
  have DNew:Def P w K mg base CX0 3 "new_clock" ["scheme"] (spNew c):=⟨_,_,okNew FNew T g MClock,W.mg_of X G aNew,FNew.kp,FNew.binds (ps:=["scheme"]) fun _ _ _ _ _ _ us hl=>match us,hl with | [_],_=>rfl⟩
  have DWith:Def P w K mg base CX0 3 "with_input_turned" ["clock","place"] (spWith c):=⟨_,_,okWith FWith T MClock,W.mg_of X G aWith,FWith.kp,FWith.binds (ps:=["clock","place"]) fun _ _ _ _ _ _ us hl=>match us,hl with | [_,_],_=>rfl⟩
  have DDelay:Def P w K mg base CX0 1 "delay_in" ["relay","state"] (spDelay c):=⟨_,_,okDelay FDelay T,W.mg_of X G aDelay,FDelay.kp,FDelay.binds (ps:=["relay","state"]) fun _ _ _ _ _ _ us hl=>match us,hl with | [_,_],_=>rfl⟩
  have DTick:Def P w K mg base CX0 6 "tick" ["scheme","clock"] (spTick c):=⟨_,_,okTick FTick T g DDrawnIn DDelay MClock,W.mg_of X G aTick,FTick.kp,FTick.binds (ps:=["scheme","clock"]) fun _ _ _ _ _ _ us hl=>match us,hl with | [_,_],_=>rfl⟩
  have DQuiet:Def P w K mg base CX0 2 "quiet_ticks" ["scheme","clock","most"] (spQuiet c):=⟨_,_,okQuiet FQuiet T g DDelay,W.mg_of X G aQuiet,FQuiet.kp,FQuiet.binds (ps:=["scheme","clock","most"]) fun _ _ _ _ _ _ us hl=>match us,hl with | [_,_,_],_=>rfl⟩
  have DPass:Def P w K mg base CX0 3 "pass_quietly" ["clock","count"] (spPass c):=⟨_,_,okPass FPass T MClock,W.mg_of X G aPass,FPass.kp,FPass.binds (ps:=["clock","count"]) fun _ _ _ _ _ _ us hl=>match us,hl with | [_,_],_=>rfl⟩
  have DOnes:Def P w K mg base CX0 1 "count_ones" ["bits"] spOnes:=⟨_,_,okOnes FOnes,W.mg_of X G aOnes,FOnes.kp,FOnes.binds (ps:=["bits"]) fun _ _ _ _ _ _ us hl=>match us,hl with | [_],_=>rfl⟩
  have DSigns:Def P w K mg base CX0 2 "signs_of" ["text"] (spSigns K):=⟨_,_,okSigns FSigns g,W.mg_of X G aSigns,FSigns.kp,FSigns.binds (ps:=["text"]) fun _ _ _ _ _ _ us hl=>match us,hl with | [_],_=>rfl⟩
  have DName:Def P w K mg base (Fx P w) 1 "name_of" ["part"] (spName c):=⟨_,_,okName FName g xs,W.mg_of X G aName,FName.kp,FName.binds (ps:=["part"]) fun _ _ _ _ _ _ us hl=>match us,hl with | [_],_=>rfl⟩
  have DNumber:Def P w K mg base (Fx P w) 1 "number_of" ["part","least","most"] (spNumber c):=⟨_,_,okNumber FNumber g xs,W.mg_of X G aNumber,FNumber.kp,FNumber.binds (ps:=["part","least","most"]) fun _ _ _ _ _ _ us hl=>match us,hl with | [_,_,_],_=>rfl⟩
  have DNode:Def P w K mg base (Fx P w) 2 "node_of" ["part"] (spNode c):=⟨_,_,okNode FNode g DNumber,W.mg_of X G aNode,FNode.kp,FNode.binds (ps:=["part"]) fun _ _ _ _ _ _ us hl=>match us,hl with | [_],_=>rfl⟩
  have DExpect:Def P w K mg base (Fx P w) 1 "expect" ["condition"] (spExpect c):=⟨_,_,okExpect FExpect xs,W.mg_of X G aExpect,FExpect.kp,FExpect.binds (ps:=["condition"]) fun _ _ _ _ _ _ us hl=>match us,hl with | [_],_=>rfl⟩
  have R1:Rdr P w K mg base c:=⟨DExpect,DName,DNumber,DNode,MRow⟩
  have DRdIn:Def P w K mg base (Fx P w) 3 "read_in" ["parts"] (spRd c Lm.rIn):=⟨_,_,okRdIn FRdIn g R1,W.mg_of X G aRdIn,FRdIn.kp,FRdIn.binds (ps:=["parts"]) fun _ _ _ _ _ _ us hl=>match us,hl with | [_],_=>rfl⟩
  have DRdRel:Def P w K mg base (Fx P w) 3 "read_relay" ["parts"] (spRd c Lm.fo):=⟨_,_,okRdRel FRdRel g R1,W.mg_of X G aRdRel,FRdRel.kp,FRdRel.binds (ps:=["parts"]) fun _ _ _ _ _ _ us hl=>match us,hl with | [_],_=>rfl⟩
  have DRdLamp:Def P w K mg base (Fx P w) 3 "read_lamp" ["parts"] (spRd c Lm.jh):=⟨_,_,okRdLamp FRdLamp g R1,W.mg_of X G aRdLamp,FRdLamp.kp,FRdLamp.binds (ps:=["parts"]) fun _ _ _ _ _ _ us hl=>match us,hl with | [_],_=>rfl⟩
  have DRdCon:Def P w K mg base (Fx P w) 3 "read_contact" ["parts","through"] (spRdC c):=⟨_,_,okRdCon FRdCon g R1,W.mg_of X G aRdCon,FRdCon.kp,FRdCon.binds (ps:=["parts","through"]) fun _ _ _ _ _ _ us hl=>match us,hl with | [_,_],_=>rfl⟩
  have DRdRow:Def P w K mg base (Fx P w) 4 "read_row" ["line"] (spRow c):=⟨_,_,okRdRow FRdRow g xs ⟨DRdIn,DRdRel,DRdLamp,DRdCon⟩,W.mg_of X G aRdRow,FRdRow.kp,FRdRow.binds (ps:=["line"]) fun _ _ _ _ _ _ us hl=>match us,hl with | [_],_=>rfl⟩
  have DRows:Def P w K mg base (Fx P w) 5 "read_rows" ["signs"] (spRows c):=⟨_,_,okRows FRows g xs DRdRow,W.mg_of X G aRows,FRows.kp,FRows.binds (ps:=["signs"]) fun _ _ _ _ _ _ us hl=>match us,hl with | [_],_=>rfl⟩
  have DOrd:Def P w K mg base (Fx P w) 2 "check_order" ["rows"] (spChk c 2 Lm.jn):=⟨_,_,okOrd FOrd T g xs,W.mg_of X G aOrd,FOrd.kp,FOrd.binds (ps:=["rows"]) fun _ _ _ _ _ _ us hl=>match us,hl with | [_],_=>rfl⟩
  have DCnt:Def P w K mg base (Fx P w) 2 "check_counts" ["rows"] (spChk c 3 Lm.mo):=⟨_,_,okCnt FCnt T g gt xs,W.mg_of X G aCnt,FCnt.kp,FCnt.binds (ps:=["rows"]) fun _ _ _ _ _ _ us hl=>match us,hl with | [_],_=>rfl⟩
  have DNms:Def P w K mg base (Fx P w) 2 "check_names" ["rows"] (spChk c 4 Lm.bad4):=⟨_,_,okNms FNms T g xs,W.mg_of X G aNms,FNms.kp,FNms.binds (ps:=["rows"]) fun _ _ _ _ _ _ us hl=>match us,hl with | [_],_=>rfl⟩
  have DAdd:Def P w K mg base CX0 3 "add_contact" ["scheme","variables","row"] (spAdd c):=⟨_,_,okAdd FAdd T MContact,W.mg_of X G aAdd,FAdd.kp,FAdd.binds (ps:=["scheme","variables","row"]) fun _ _ _ _ _ _ us hl=>match us,hl with | [_,_,_],_=>rfl⟩
  have DBuild:Def P w K mg base (Fx P w) 4 "build" ["rows"] (spBuild c):=⟨_,_,okBuild FBuild T g xs MScheme MRelay DRelVar DAdd,W.mg_of X G aBuild,FBuild.kp,FBuild.binds (ps:=["rows"]) fun _ _ _ _ _ _ us hl=>match us,hl with | [_],_=>rfl⟩
  have DRdS:Def P w K mg base (Fx P w) 6 "read_scheme" ["signs"] (spRdS c):=⟨_,_,okRdS FRdS ⟨DRows,DOrd,DCnt,DNms,DBuild⟩,W.mg_of X G aRdS,FRdS.kp,FRdS.binds (ps:=["signs"]) fun _ _ _ _ _ _ us hl=>match us,hl with | [_],_=>rfl⟩
  have DLine:Def P w K mg base CX0 1 "thing_line" ["word","what"] spLine:=⟨_,_,okLine FLine,W.mg_of X G aLine,FLine.kp,FLine.binds (ps:=["word","what"]) fun _ _ _ _ _ _ us hl=>match us,hl with | [_,_],_=>rfl⟩
  have DBeg:Def P w K mg base CX0 1 "begins_a_thing" ["line"] spBeg:=⟨_,_,okBeg FBeg g,W.mg_of X G aBeg,FBeg.kp,FBeg.binds (ps:=["line"]) fun _ _ _ _ _ _ us hl=>match us,hl with | [_],_=>rfl⟩
  have DRdScore:Def P w K mg base CX0 3 "read_score" ["signs"] (spScore c):=⟨_,_,okRdScore FRdScore g DBeg MScore,W.mg_of X G aRdScore,FRdScore.kp,FRdScore.binds (ps:=["signs"]) fun _ _ _ _ _ _ us hl=>match us,hl with | [_],_=>rfl⟩
  have DRdThing:Def P w K mg base (Fx P w) 3 "read_thing" ["line"] (spThing c):=⟨_,_,okRdThing FRdThing g xs DNumber DName MThing,W.mg_of X G aRdThing,FRdThing.kp,FRdThing.binds (ps:=["line"]) fun _ _ _ _ _ _ us hl=>match us,hl with | [_],_=>rfl⟩
  have Ebegin:d8 P w K mg base (Fx P w) 7 c.panel "begin" ["self","signs"] (spBegin c):=⟨_,_,okBegin Fmbegin T DRdS DNew,⟨ambegin,imbegin,Fmbegin.kp⟩,Fmbegin.binds (ps:=["self","signs"]) fun _ _ _ _ _ _ us hl=>match us,hl with | [_,_],_=>rfl⟩
  have Ebecome:d8 P w K mg base CX0 1 c.panel "become" ["self","other"] (spBecome c):=⟨_,_,okBecome Fmbecome T,⟨ambecome,imbecome,Fmbecome.kp⟩,Fmbecome.binds (ps:=["self","other"]) fun _ _ _ _ _ _ us hl=>match us,hl with | [_,_],_=>rfl⟩
  have Elamps_drawn:d8 P w K mg base CX0 6 c.panel "lamps_drawn" ["self"] (spLamps c):=⟨_,_,okLamps Fmlamps_drawn T DDrawnIn,⟨amlamps_drawn,imlamps_drawn,Fmlamps_drawn.kp⟩,Fmlamps_drawn.binds (ps:=["self"]) fun _ _ _ _ _ _ us hl=>match us,hl with | [_],_=>rfl⟩
  have Epass_ticks:d8 P w K mg base CX0 7 c.panel "pass_ticks" ["self","most","stop"] (spPt c):=⟨_,_,okPt Fmpass_ticks T g DTick DQuiet DPass DOnes Elamps_drawn,⟨ampass_ticks,impass_ticks,Fmpass_ticks.kp⟩,Fmpass_ticks.binds (ps:=["self","most","stop"]) fun _ _ _ _ _ _ us hl=>match us,hl with | [_,_,_],_=>rfl⟩
  have Epress:d8 P w K mg base CX0 4 c.panel "press" ["self","place","on"] (spPress c):=⟨_,_,okPress Fmpress T g DLine DWith MDeed,⟨ampress,impress,Fmpress.kp⟩,Fmpress.binds (ps:=["self","place","on"]) fun _ _ _ _ _ _ us hl=>match us,hl with | [_,_,_],_=>rfl⟩
  have Erun:d8 P w K mg base CX0 8 c.panel "run" ["self","most","stop"] (spRun c):=⟨_,_,okRun Fmrun T g DLine Epass_ticks MDeed,⟨amrun,imrun,Fmrun.kp⟩,Fmrun.binds (ps:=["self","most","stop"]) fun _ _ _ _ _ _ us hl=>match us,hl with | [_,_,_],_=>rfl⟩
  have Etold:d8 P w K mg base CX0 7 c.panel "told" ["self"] (spTold c):=⟨_,_,okTold Fmtold T g Elamps_drawn,⟨amtold,imtold,Fmtold.kp⟩,Fmtold.binds (ps:=["self"]) fun _ _ _ _ _ _ us hl=>match us,hl with | [_],_=>rfl⟩
  have Eback:d8 P w K mg base CX0 1 c.panel "back" ["self"] (spBack c):=⟨_,_,okBack Fmback T g,⟨amback,imback,Fmback.kp⟩,Fmback.binds (ps:=["self"]) fun _ _ _ _ _ _ us hl=>match us,hl with | [_],_=>rfl⟩
  have Ejournal:d8 P w K mg base CX0 2 c.panel "journal" ["self"] (spJrn c):=⟨_,_,okJrn Fmjournal T g,⟨amjournal,imjournal,Fmjournal.kp⟩,Fmjournal.binds (ps:=["self"]) fun _ _ _ _ _ _ us hl=>match us,hl with | [_],_=>rfl⟩
  have Eload:d8 P w K mg base CX0 8 c.panel "load" ["self","text"] (spLoad c K):=⟨_,_,okLoad Fmload T g xs DSigns Ebegin,⟨amload,imload,Fmload.kp⟩,Fmload.binds (ps:=["self","text"]) fun _ _ _ _ _ _ us hl=>match us,hl with | [_,_],_=>rfl⟩
  have DFol:Def P w K mg base CX0 9 "follow" ["panel","line"] (spFol c):=⟨_,_,okFol FFol T g xs DRdThing Erun Epress,W.mg_of X G aFol,FFol.kp,FFol.binds (ps:=["panel","line"]) fun _ _ _ _ _ _ us hl=>match us,hl with | [_,_],_=>rfl⟩
  have DPlp:Def P w K mg base (Fx P w) 10 "played_panel" ["signs"] (spPlp c):=⟨_,_,okPlp FPlp T g xs DRdScore MPanel Ebegin DFol,W.mg_of X G aPlp,FPlp.kp,FPlp.binds (ps:=["signs"]) fun _ _ _ _ _ _ us hl=>match us,hl with | [_],_=>rfl⟩
  have Eplay:d8 P w K mg base CX0 11 c.panel "play" ["self","text"] (spPlay c K):=⟨_,_,okPlay Fmplay T g xs DSigns DPlp Ebecome,⟨amplay,implay,Fmplay.kp⟩,Fmplay.binds (ps:=["self","text"]) fun _ _ _ _ _ _ us hl=>match us,hl with | [_,_],_=>rfl⟩
  have DLen:Def P w K mg base CX0 1 "call_length" ["calls","place"] (spLen K):=⟨_,_,okLen FLen g,W.mg_of X G aLen,FLen.kp,FLen.binds (ps:=["calls","place"]) fun _ _ _ _ _ _ us hl=>match us,hl with | [_,_],_=>rfl⟩
  have DAnsw:Def P w K mg base CX0 12 "answer" ["panel","call"] (spAnsw c K):=⟨_,_,okAnsw FAnsw T g ⟨Eload,Epress,Erun,Etold,Ejournal,Eplay,Eback⟩,W.mg_of X G aAnsw,FAnsw.kp,FAnsw.binds (ps:=["panel","call"]) fun _ _ _ _ _ _ us hl=>match us,hl with | [_,_],_=>rfl⟩
  exact okAns FAns T g MPanel DLen DAnsw
end Lp
namespace L2
open PySem PySem.Spec PyProof.Rows
open PySem.W (WData Codec OpenSpec Well WellAll ReadsW ReadsAllW)
mutual
/-- x stands for the datum d,lists and tuples all the way -/
inductive Dw (K:W.Frag) (H:Hp):V->WData->Prop
 |non:Dw K H .non .none
 |bl (b:Bool):Dw K H (.bl b) (.bool b)
 |int (i:Int):Dw K H (.int i) (.int i)
 |str (x:Str):Dw K H (.str x) (.str x)
 |byt (b:Array UInt8):Dw K H (.byt b) (.bytes b.toList)
 |lst {a:Addr} {xs:List V} {ds:List WData}:SqL K H a xs->DwAll K H xs ds->Dw K H (.ref a) (.list ds)
 |tup {a:Addr} {xs:List V} {ds:List WData}:SqT K H a xs->DwAll K H xs ds->Dw K H (.ref a) (.tuple ds)
inductive DwAll (K:W.Frag) (H:Hp):List V->List WData->Prop
 |nil:DwAll K H [] []
 |cons {v:V} {vs:List V} {d:WData} {ds:List WData}:Dw K H v d->DwAll K H vs ds->DwAll K H (v::vs) (d::ds)
end
theorem dw_ints{K:W.Frag}{H:Hp}:∀ ns:List Int,DwAll K H (ns.map V.int) (ns.map WData.int)
 | []=>.nil
 |n::r=>.cons (.int n) (dw_ints r)
theorem ints_dw{K:W.Frag}{H:Hp}:∀(ns:List Int)(xs:List V),DwAll K H xs (ns.map WData.int)->xs=ns.map V.int
 | [],xs,h=>by
  cases h
  rfl
 |n::r,xs,h=>by
  cases h with
  |cons h1 h2 =>
   cases h1
   rw[ints_dw r _ h2]<;>rfl
section
variable{P:Program}{w:World}{K:PySem.W.Frag}{H:Hp}{h:Heap}{R:PySem.W.WRecords}{cl:Str->Option Addr}
theorem sqL_at{a:Addr}{xs:List V}(hok:HOk P w H h)(KX:K.In h)(q:SqL K H a xs):∃(its:List Value)(o:Obj)(n:Nat),bh xs its/\h.get? a=some o/\o.cls=.type "list"/\o.data=.seq its.toArray n:=by
 rcases q with q|⟨o,its,n,e,hc,_,hd,_,hv⟩
 ·obtain⟨_,its,n,hv,e⟩:=(show di P w H h a (.lst xs) from q.ok hok)
  exact⟨its,_,n,hv,e,rfl,rfl⟩
 ·exact⟨its.toList,o,n,hv,KX _ _ e,hc,by simp[hd]⟩
theorem sqT_at{a:Addr}{xs:List V}(hok:HOk P w H h)(KX:K.In h)(q:SqT K H a xs):∃(its:List Value)(o:Obj)(n:Nat),bh xs its/\h.get? a=some o/\o.cls=.type "tuple"/\o.data=.seq its.toArray n:=by
 rcases q with q|⟨o,its,n,e,hc,hd,_,hv⟩
 ·obtain⟨_,its,hv,o,e,hc,n,hd⟩:=(show di P w H h a (.tup xs) from q.ok hok)
  exact⟨its,o,n,hv,e,hc,hd⟩
 ·exact⟨its.toList,o,n,hv,KX _ _ e,hc,by simp[hd]⟩
mutual
theorem Dw.reads (hok:HOk P w H h) (KX:K.In h):∀(d:WData)(v:V)(u:Value),Dw K H v d->RelV v u->∃ as,ReadsW R cl h u d as
 |.none,_,_,x,r=>by
  cases x
  cases r
  exact⟨_,ReadsW.none⟩
 |.bool b,_,_,x,r=>by
  cases x
  cases r
  exact⟨_,ReadsW.bool b⟩
 |.int i,_,_,x,r=>by
  cases x
  obtain⟨t,rfl⟩:=r
  exact⟨_,ReadsW.int i t⟩
 |.str s,_,_,x,r=>by
  cases x
  obtain⟨t,rfl⟩:=r
  exact⟨_,ReadsW.str s t⟩
 |.bytes b,_,_,x,r=>by
  cases x
  obtain⟨t,rfl⟩:=r
  exact⟨_,ReadsW.bytes _ t⟩
 |.list ds,_,_,x,r=>by
  cases x with
  |lst hs ha =>
   cases r
   obtain⟨its,o,n,rv,ho,hc,hd⟩:=sqL_at hok KX hs
   obtain⟨as,hr⟩:=Dw.readsAll hok KX ds _ its ha rv
   exact⟨_,ReadsW.list ho hc hd hr⟩
 |.tuple ds,_,_,x,r=>by
  cases x with
  |tup hs ha =>
   cases r
   obtain⟨its,o,n,rv,ho,hc,hd⟩:=sqT_at hok KX hs
   obtain⟨as,hr⟩:=Dw.readsAll hok KX ds _ its ha rv
   exact⟨_,ReadsW.tuple ho hc hd hr⟩
 |.float _,_,_,x,_=>by cases x
 |.dict _,_,_,x,_=>by cases x
 |.bytearray _,_,_,x,_=>by cases x
 |.set _,_,_,x,_=>by cases x
 |.frozenset _,_,_,x,_=>by cases x
 |.obj _ _,_,_,x,_=>by cases x
theorem Dw.readsAll (hok:HOk P w H h) (KX:K.In h):∀(ds:List WData)(vs:List V)(us:List Value),DwAll K H vs ds->bh vs us->∃ as,ReadsAllW R cl h us ds as
 | [],_,_,x,r=>by
  cases x
  cases r
  exact⟨_,ReadsAllW.nil⟩
 |d::ds,_,_,x,r=>by
  cases x with
  |cons h1 h2 =>
   cases r with
   |cons r1 r2 =>
    obtain⟨as,q1⟩:=Dw.reads hok KX d _ _ h1 r1
    obtain⟨bs,q2⟩:=Dw.readsAll hok KX ds _ _ h2 r2
    exact⟨_,ReadsAllW.cons q1 q2⟩
end
end
mutual
/-- data that a codec tells -/
def plW:WData->Bool
 |.none=>true
 |.bool _=>true
 |.int _=>true
 |.str _=>true
 |.bytes _=>true
 |.list xs=>plWs xs
 |.tuple xs=>plWs xs
 |_=>false
def plWs:List WData->Bool
 | []=>true
 |x::r=>plW x&&plWs r
end
theorem plWs_map{α:Type}{f:α->WData}(h:∀ a,plW (f a)=true):∀ l:List α,plWs (l.map f)=true
 | []=>rfl
 |x::r=>by
  show(plW (f x)&&plWs (r.map f))=true
  rw[h x,plWs_map h r]<;>rfl
theorem pl_enc:∀(c:Codec)(a:c.denote),plW (c.enc a)=true
 |.unit,_=>rfl
 |.bool,_=>rfl
 |.int _ _,_=>rfl
 |.nat _ _,_=>rfl
 |.u8,_=>rfl
 |.bytes _ _,_=>rfl
 |.text _ _ _ _,_=>rfl
 |.list _ _ c,a=>plWs_map (fun x=>pl_enc c x) a
 |.pair c d,a=>by
  show(plW (c.enc a.1)&&(plW (d.enc a.2)&&true))=true
  rw[pl_enc c a.1,pl_enc d a.2]<;>rfl
 |.triple c d e,a=>by
  show(plW (c.enc a.1)&&(plW (d.enc a.2.1)&&(plW (e.enc a.2.2)&&true)))=true
  rw[pl_enc c a.1,pl_enc d a.2.1,pl_enc e a.2.2]<;>rfl
 |.option c,none=>rfl
 |.option c,some x=>pl_enc c x
theorem pl_encAll:∀(cs:List Codec)(a:Codec.denoteAll cs),plWs (Codec.encAll cs a)=true
 | [],_=>rfl
 |c::cs,a=>by
  show(plW (c.enc a.1)&&plWs (Codec.encAll cs a.2))=true
  rw[pl_enc c a.1,pl_encAll cs a.2]<;>rfl
theorem weight_mem:∀{xs:List WData}{d:WData},d∈xs->d.weight<=WData.weightAll xs
 | [],d,h=>absurd h (by simp)
 |x::r,d,h=>by
  show d.weight<=x.weight+1+WData.weightAll r
  rcases List.mem_cons.mp h with e|m
  ·rw[e]
   omega
  ·have z:=weight_mem m
   omega
def toV:Value->V
 |.none=>.non
 |.bool b=>.bl b
 |.int i _=>.int i
 |.str x _=>.str x
 |.bytes b _=>.byt b
 |.ref a=>.ref a
 |_=>.non
def OkU(A:List Addr):Value->Prop
 |.none=>True
 |.bool _=>True
 |.int _ _=>True
 |.str _ _=>True
 |.bytes _ _=>True
 |.ref a=>a∈A
 |_=>False
theorem OkU.mono{A B:List Addr}(h:∀ a∈A,a∈B):∀{u:Value},OkU A u->OkU B u:=fun{u} x=>by
 cases u with
 |ref a=>exact h a x
 |none=>trivial
 |bool b=>trivial
 |int i t=>trivial
 |str s t=>trivial
 |bytes b t=>trivial
 |_=>exact False.elim x
theorem relV_toV{A:List Addr}{u:Value}(x:OkU A u):RelV (toV u) u:=by
 cases u with
 |ref a=>rfl
 |none=>rfl
 |bool b=>rfl
 |int i t=>exact⟨t,rfl⟩
 |str s t=>exact⟨t,rfl⟩
 |bytes b t=>exact⟨t,rfl⟩
 |_=>exact False.elim x
theorem lf{A:List Addr}:∀{vs:List Value},(∀ u∈vs,OkU A u)->bh (vs.map toV) vs
 | [],_=>.nil
 |u::r,h=>.cons (relV_toV (h u (List.mem_cons_self ..))) (lf fun x hx=>h x (List.mem_cons_of_mem _ hx))
def ArgOb(h:Heap)(A:List Addr)(a:Addr):Prop:=∃ vs:List Value,vs.length<=sizeLine/\(∀ u∈vs,OkU A u)/\(h.get? a=some { cls:=.type "list",data:=.seq vs.toArray }\/h.get? a=some { cls:=.type "tuple",data:=.seq vs.toArray })
theorem ArgOb.mono{h:Heap}{A B:List Addr}{a:Addr}(k:∀ a∈A,a∈B)(x:ArgOb h A a):ArgOb h B a:=by
 obtain⟨vs,h1,h2,h3⟩:=x
 exact⟨vs,h1,fun u hu=>(h2 u hu).mono k,h3⟩
theorem kh{P:Params}{h:Heap}:∀{vs:List Value}{ds:List WData},WellAll P h vs ds->vs.length=ds.length
 |_,_,.nil=>rfl
 |_,_,.cons _ b=>by
  show _+1=_+1
  rw[kh b]
theorem well_list{P:Params}{h:Heap}{v:Value}{ds:List WData}(x:Well P h v (.list ds)):∃(a:Addr)(vs:List Value),v=.ref a/\h.get? a=some { cls:=.type "list",data:=.seq vs.toArray }/\WellAll P h vs ds:=by
 cases x with
 |list ho hall=>exact⟨_,_,rfl,ho,hall⟩
theorem well_tuple{P:Params}{h:Heap}{v:Value}{ds:List WData}(x:Well P h v (.tuple ds)):∃(a:Addr)(vs:List Value),v=.ref a/\h.get? a=some { cls:=.type "tuple",data:=.seq vs.toArray }/\WellAll P h vs ds:=by
 cases x with
 |tuple ho hall=>exact⟨_,_,rfl,ho,hall⟩
theorem well_cons{P:Params}{h:Heap}{us:List Value}{d:WData}{ds:List WData}(x:WellAll P h us (d::ds)):∃(v:Value)(vs:List Value),us=v::vs/\Well P h v d/\WellAll P h vs ds:=by
 cases x with
 |cons a b=>exact⟨_,_,rfl,a,b⟩
theorem line_of{n:Nat}(h:n<=1048576):n<=sizeLine:=Nat.le_trans h (by decide)
section
variable{P:Params}{h:Heap}
mutual
theorem area_one:∀(d:WData)(v:Value),Well P h v d->plW d=true->d.weight<=1048576->∃ A:List Addr,OkU A v/\∀ a∈A,ArgOb h A a
 |.none,_,x,_,_=>by
  cases x
  exact⟨[],trivial,fun a m=>absurd m (by simp)⟩
 |.bool b,_,x,_,_=>by
  cases x
  exact⟨[],trivial,fun a m=>absurd m (by simp)⟩
 |.int i,_,x,_,_=>by
  cases x
  exact⟨[],trivial,fun a m=>absurd m (by simp)⟩
 |.str s,_,x,_,_=>by
  cases x
  exact⟨[],trivial,fun a m=>absurd m (by simp)⟩
 |.bytes b,_,x,_,_=>by
  cases x
  exact⟨[],trivial,fun a m=>absurd m (by simp)⟩
 |.list ds,_,x,p,z=>by
  obtain⟨a,vs,rfl,ho,hall⟩:=well_list x
  have z2:WData.weightAll ds<=1048576:=z
  obtain⟨A,h1,h2⟩:=area_all ds _ hall p fun d hd=>Nat.le_trans (weight_mem hd) z2
  have k:∀ b∈A,b∈a::A:=fun b hb=>List.mem_cons_of_mem _ hb
  refine⟨a::A,List.mem_cons_self ..,fun b hb=>?_⟩
  rcases List.mem_cons.mp hb with e|m
  ·rw[e]
   exact⟨vs,line_of (by rw[kh hall];exact Nat.le_trans (W.length_le_weightAllW ds) z2),fun u hu=>(h1 u hu).mono k,.inl ho⟩
  ·exact(h2 b m).mono k
 |.tuple ds,_,x,p,z=>by
  obtain⟨a,vs,rfl,ho,hall⟩:=well_tuple x
  have z2:WData.weightAll ds<=1048576:=z
  obtain⟨A,h1,h2⟩:=area_all ds _ hall p fun d hd=>Nat.le_trans (weight_mem hd) z2
  have k:∀ b∈A,b∈a::A:=fun b hb=>List.mem_cons_of_mem _ hb
  refine⟨a::A,List.mem_cons_self ..,fun b hb=>?_⟩
  rcases List.mem_cons.mp hb with e|m
  ·rw[e]
   exact⟨vs,line_of (by rw[kh hall];exact Nat.le_trans (W.length_le_weightAllW ds) z2),fun u hu=>(h1 u hu).mono k,.inr ho⟩
  ·exact(h2 b m).mono k
 |.float _,_,_,p,_=>Bool.noConfusion (show false=true from p)
 |.dict _,_,_,p,_=>Bool.noConfusion (show false=true from p)
 |.bytearray _,_,_,p,_=>Bool.noConfusion (show false=true from p)
 |.set _,_,_,p,_=>Bool.noConfusion (show false=true from p)
 |.frozenset _,_,_,p,_=>Bool.noConfusion (show false=true from p)
 |.obj _ _,_,_,p,_=>Bool.noConfusion (show false=true from p)
theorem area_all:∀(ds:List WData)(vs:List Value),WellAll P h vs ds->plWs ds=true->(∀ d∈ds,d.weight<=1048576)->∃ A:List Addr,(∀ u∈vs,OkU A u)/\∀ a∈A,ArgOb h A a
 | [],_,x,_,_=>by
  cases x
  exact⟨[],fun u m=>absurd m (by simp),fun a m=>absurd m (by simp)⟩
 |d::ds,_,x,p,z=>by
  obtain⟨v,vs,rfl,x1,x2⟩:=well_cons x
  have q:plW d=true/\plWs ds=true:=Bool.and_eq_true_iff.mp p
  obtain⟨A,a1,a2⟩:=area_one d v x1 q.1 (z d (List.mem_cons_self ..))
  obtain⟨B,b1,b2⟩:=area_all ds vs x2 q.2 fun e he=>z e (List.mem_cons_of_mem _ he)
  have kA:∀ b∈A,b∈A++B:=fun b hb=>List.mem_append.mpr (.inl hb)
  have kB:∀ b∈B,b∈A++B:=fun b hb=>List.mem_append.mpr (.inr hb)
  refine⟨A++B,fun u hu=>?_,fun b hb=>?_⟩
  ·rcases List.mem_cons.mp hu with e|m
   ·rw[e]
    exact a1.mono kA
   ·exact(b1 u m).mono kB
  ·rcases List.mem_append.mp hb with m|m
   ·exact(a2 b m).mono kA
   ·exact(b2 b m).mono kB
end
def hoOf(o:Obj):Option HO:=match o.data with
 |.seq vs _=>if (o.cls==Value.type "list")=true then some (.frz o (.lst (vs.toList.map toV))) else some (.frz o (.tup (vs.toList.map toV)))
 |_=>none
def my(K:W.Frag)(h:Heap)(A:List Addr):Hp:=fun b=>if b∈A then (if (K.lookup b).isNone=true then (h.get? b).bind hoOf else none) else none
def OnlyF(H:Hp):Prop:=∀ b,H b=none\/∃ o u,H b=some (.frz o u)
theorem hoOf_lst(vs:List Value):hoOf { cls:=.type "list",data:=.seq vs.toArray }=some (.frz { cls:=.type "list",data:=.seq vs.toArray } (.lst (vs.map toV))):=by
 show(if (Value.type "list"==Value.type "list")=true then some (HO.frz { cls:=.type "list",data:=.seq vs.toArray } (.lst (vs.toArray.toList.map toV))) else some (HO.frz { cls:=.type "list",data:=.seq vs.toArray } (.tup (vs.toArray.toList.map toV))))=_
 rw[if_pos (beq_self_eq_true _)]
theorem hoOf_tup(vs:List Value):hoOf { cls:=.type "tuple",data:=.seq vs.toArray }=some (.frz { cls:=.type "tuple",data:=.seq vs.toArray } (.tup (vs.map toV))):=by
 show(if (Value.type "tuple"==Value.type "list")=true then some (HO.frz { cls:=.type "tuple",data:=.seq vs.toArray } (.lst (vs.toArray.toList.map toV))) else some (HO.frz { cls:=.type "tuple",data:=.seq vs.toArray } (.tup (vs.toArray.toList.map toV))))=_
 rw[if_neg (by decide)]
end
section
variable{P:Program}{w:World}{K:PySem.W.Frag}{h:Heap}{A:List Addr}
theorem argH_at{b:Addr}{o:Obj}(hb:b∈A)(hk:K.lookup b=none)(e:h.get? b=some o):my K h A b=hoOf o:=by
 unfold my
 rw[if_pos hb,hk,if_pos (show(none:Option Obj).isNone=true from rfl),e]<;>rfl
theorem of_argH{b:Addr}{u:HO}(q:my K h A b=some u):b∈A/\K.lookup b=none:=by
 unfold my at q
 by_cases hb:b∈A
 ·rw[if_pos hb] at q
  cases hk:K.lookup b with
  |none=>exact⟨hb,rfl⟩
  |some o =>
   rw[hk,if_neg (by simp)] at q
   cases q
 ·rw[if_neg hb] at q
  cases q
theorem argH_is (ar : ∀ a ∈ A, ArgOb h A a) {b : Addr} {u : HO} (q : my K h A b = some u) : K.lookup b = none ∧ ∃ vs : List Value, vs.length ≤ sizeLine ∧ (∀ u ∈ vs, OkU A u) ∧
    ((h.get? b = some { cls := .type "list", data := .seq vs.toArray } ∧ u = .frz { cls := .type "list", data := .seq vs.toArray } (.lst (vs.map toV))) ∨
     (h.get? b = some { cls := .type "tuple", data := .seq vs.toArray } ∧ u = .frz { cls := .type "tuple", data := .seq vs.toArray } (.tup (vs.map toV)))) := by
  obtain ⟨hb, hk⟩ := of_argH q
  obtain ⟨vs, h1, h2, h3⟩ := ar b hb
  refine ⟨hk, vs, h1, h2, ?_⟩
  rcases h3 with e | e
  · rw [argH_at hb hk e, hoOf_lst] at q
    exact .inl ⟨e, (Option.some.inj q).symm⟩
  · rw [argH_at hb hk e, hoOf_tup] at q
    exact .inr ⟨e, (Option.some.inj q).symm⟩
theorem argH_only(ar:∀ a∈A,ArgOb h A a):OnlyF (my K h A):=fun b=>by
 cases q:my K h A b with
 |none=>exact .inl rfl
 |some u =>
  obtain⟨_,vs,_,_,⟨_,e⟩|⟨_,e⟩⟩:=argH_is ar q
  ·exact .inr ⟨_,_,by rw[e]⟩
  ·exact .inr ⟨_,_,by rw[e]⟩
theorem argH_ok(ar:∀ a∈A,ArgOb h A a):HOk P w (my K h A) h:=fun b u q=>by
 obtain⟨_,vs,h1,h2,⟨e,rfl⟩|⟨e,rfl⟩⟩:=argH_is ar q
 ·exact⟨e,by rw[List.length_map];exact h1,vs,_,lf h2,e⟩
 ·exact⟨e,by rw[List.length_map];exact h1,vs,lf h2,_,e,rfl,_,rfl⟩
theorem seq_inj{c c':Value}{vs us:List Value}(e:(some { cls:=c,data:=.seq vs.toArray }:Option Obj)=some { cls:=c',data:=.seq us.toArray }):c=c'/\vs=us:=by
 have e1:=Option.some.inj e
 have e2:c=c':=congrArg Obj.cls e1
 have e3:Data.seq vs.toArray=Data.seq us.toArray:=congrArg Obj.data e1
 injection e3 with e4
 refine⟨e2,?_⟩
 have e5:=congrArg Array.toList e4
 simpa using e5
theorem argL(KX:K.In h)(ar:∀ a∈A,ArgOb h A a){a:Addr}{vs:List Value}(ha:a∈A)(e:h.get? a=some { cls:=.type "list",data:=.seq vs.toArray }):(∀ u∈vs,OkU A u)/\SqL K (my K h A) a (vs.map toV):=by
 obtain⟨us,h1,h2,h3⟩:=ar a ha
 have hu:us=vs:=by
  rcases h3 with q|q
  ·rw[e] at q
   exact(seq_inj q).2.symm
  ·rw[e] at q
   exact absurd (Value.type.inj (seq_inj q).1) (by decide)
 subst hu
 refine⟨h2,?_⟩
 cases hk:K.lookup a with
 |none=>exact .inl (.inr ⟨_,by rw[argH_at ha hk e,hoOf_lst]⟩)
 |some o =>
  have e2:=KX a o hk
  rw[e] at e2
  obtain rfl:=Option.some.inj e2
  exact .inr ⟨_,us.toArray,_,hk,rfl,rfl,rfl,by rw[List.size_toArray];exact h1,by simpa using lf h2⟩
theorem argT(KX:K.In h)(ar:∀ a∈A,ArgOb h A a){a:Addr}{vs:List Value}(ha:a∈A)(e:h.get? a=some { cls:=.type "tuple",data:=.seq vs.toArray }):(∀ u∈vs,OkU A u)/\SqT K (my K h A) a (vs.map toV):=by
 obtain⟨us,h1,h2,h3⟩:=ar a ha
 have hu:us=vs:=by
  rcases h3 with q|q
  ·rw[e] at q
   exact absurd (Value.type.inj (seq_inj q).1) (by decide)
  ·rw[e] at q
   exact(seq_inj q).2.symm
 subst hu
 refine⟨h2,?_⟩
 cases hk:K.lookup a with
 |none=>exact .inl (.inr ⟨_,by rw[argH_at ha hk e,hoOf_tup]⟩)
 |some o =>
  have e2:=KX a o hk
  rw[e] at e2
  obtain rfl:=Option.some.inj e2
  exact .inr ⟨_,us.toArray,_,hk,rfl,rfl,by rw[List.size_toArray];exact h1,by simpa using lf h2⟩
mutual
theorem dw_one {Pm:Params} (KX:K.In h) (ar:∀ a∈A,ArgOb h A a):∀(d:WData)(v:Value),Well Pm h v d->plW d=true->OkU A v->Dw K (my K h A) (toV v) d
 |.none,_,x,_,_=>by
  cases x
  exact .non
 |.bool b,_,x,_,_=>by
  cases x
  exact .bl b
 |.int i,_,x,_,_=>by
  cases x
  exact .int i
 |.str s,_,x,_,_=>by
  cases x
  exact .str s
 |.bytes b,_,x,_,_=>by
  cases x
  have z:=Dw.byt (K:=K) (H:=my K h A) b.toArray
  exact z
 |.list ds,_,x,p,hu=>by
  obtain⟨a,vs,rfl,ho,hall⟩:=well_list x
  obtain⟨h2,hs⟩:=argL KX ar hu ho
  exact .lst hs (dw_all KX ar ds _ hall p h2)
 |.tuple ds,_,x,p,hu=>by
  obtain⟨a,vs,rfl,ho,hall⟩:=well_tuple x
  obtain⟨h2,hs⟩:=argT KX ar hu ho
  exact .tup hs (dw_all KX ar ds _ hall p h2)
 |.float _,_,_,p,_=>Bool.noConfusion (show false=true from p)
 |.dict _,_,_,p,_=>Bool.noConfusion (show false=true from p)
 |.bytearray _,_,_,p,_=>Bool.noConfusion (show false=true from p)
 |.set _,_,_,p,_=>Bool.noConfusion (show false=true from p)
 |.frozenset _,_,_,p,_=>Bool.noConfusion (show false=true from p)
 |.obj _ _,_,_,p,_=>Bool.noConfusion (show false=true from p)
theorem dw_all {Pm:Params} (KX:K.In h) (ar:∀ a∈A,ArgOb h A a):∀(ds:List WData)(vs:List Value),WellAll Pm h vs ds->plWs ds=true->(∀ u∈vs,OkU A u)->DwAll K (my K h A) (vs.map toV) ds
 | [],_,x,_,_=>by
  cases x
  exact .nil
 |d::ds,_,x,p,hu=>by
  obtain⟨v,vs,rfl,x1,x2⟩:=well_cons x
  have q:plW d=true/\plWs ds=true:=Bool.and_eq_true_iff.mp p
  exact .cons (dw_one KX ar d v x1 q.1 (hu _ (List.mem_cons_self ..))) (dw_all KX ar ds vs x2 q.2 fun u m=>hu u (List.mem_cons_of_mem _ m))
end
theorem spec_call{P:Program}{w:World}{K:W.Frag}{mg mb:Str->Option Value}{CX:CXT}{k:Nat}{fa:Addr}{fd:FuncData}{ps:List Str}{sp:Sp}{s₁:Shared}{vals:List Value}{ds:List WData}{R:W.WRecords}{cl:Str->Option Addr}{d0:WData}(KX:K.In s₁.heap)(hns:s₁.heap.Ns mainGlobals mg)(hb:s₁.heap.Ns builtinsNs mb)(hbb:∀ x:Str,x≠"__name__"->mb x=bootBuiltins x)(hlim:s₁.heap.NoLimit)(hg:s₁.gens=#[])(hwl:WellAll w.params s₁.heap vals ds)(hpl:plWs ds=true)(hwt:∀ d∈ds,d.weight<=1048576)(hr:fm k callerA)(F:∀ base:Heap,K.In base->base.Ns mainGlobals mg->bq P w K mg base CX k fa fd ps sp)(hbind:∀(s:Shared)(us:List Value),us.length=ps.length->BindsTo s fd ⟨us,[]⟩ (ps.zip us))(hlen:ds.length=ps.length)(hsp:∀(H:Hp)(xs:List V),OnlyF H->DwAll K H xs ds->sp xs H (fun v H'=>Dw K H' v d0) fun _ _ _=>False)(hCX:∀ H e s',CX [] H s₁ (fun _ _ _=>False) e s'->False):codeAny (model P w) callerA (.call (.ref fa) ⟨vals,[]⟩) (fun r s'=>∃ u as,r=.ok (.ret u)/\ReadsW R cl s'.heap u d0 as/\OldK s₁.heap s'.heap/\s'.os=s₁.os/\AllBare s'.gens) s₁:=by
 obtain⟨A,ho,ar⟩:=area_all ds vals hwl hpl hwt
 have hO:OnlyF (my K s₁.heap A):=argH_only ar
 have hok:HOk P w (my K s₁.heap A) s₁.heap:=argH_ok ar
 have hS:=dw_all KX ar ds vals hwl hpl ho
 have hV:=lf ho
 have hK:∀ b u,my K s₁.heap A b=some u->K.lookup b=none:=fun b u q=>(argH_is ar q).1
 have noA:∀{b:Addr}{o:Obj}{es:Array DictEntry}{ep:Nat},s₁.heap.get? b=some o->o.data=.dict es ep->my K s₁.heap A b=none:=fun{b o es ep} e d=>by
  cases q:my K s₁.heap A b with
  |none=>rfl
  |some u =>
   obtain⟨_,vs,_,_,⟨e2,_⟩|⟨e2,_⟩⟩:=argH_is ar q
   ·rw[e2] at e
    cases e
    have d':Data.seq vs.toArray _=Data.dict es ep:=d
    cases d'
   ·rw[e2] at e
    cases e
    have d':Data.seq vs.toArray _=Data.dict es ep:=d
    cases d'
 generalize my K s₁.heap A=H at hO hok hS hK noA
 have base_of:∀{b:Addr}{o:Obj},s₁.heap.get? b=some o->H b=none->(hidT s₁.heap H).get? b=some o:=fun e n=>hidT_get e n
 have nsK:∀{b:Addr}{m:Str->Option Value},s₁.heap.Ns b m->(hidT s₁.heap H).Ns b m:=fun{b m} ⟨o,es,ep,e,d,r⟩=>⟨o,es,ep,base_of e (noA e d),d,r⟩
 have nK:∀ b o,K.lookup b=some o->H b=none:=fun b o e=>by
  cases q:H b with
  |none=>rfl
  |some u =>
   rw[hK b u q] at e
   cases e
 have hKb:K.In (hidT s₁.heap H):=fun b o e=>base_of (KX b o e) (nK b o e)
 have hM:Mod K mg (hidT s₁.heap H):=⟨hKb,nsK hns,⟨mb,nsK hb,hbb⟩,let ⟨mc,h1,h2⟩:=hlim;⟨mc,nsK h1,h2⟩⟩
 have e0:Env0 P w K mg (hidT s₁.heap H) callerA [] s₁ H:=⟨rfl,hM,fun b o e=>of_hidT e,Nat.le_of_eq (hidT_size _ _),trivial,fun b hb=>absurd (show b∈([]:List Addr) from hb) (by simp),hok,.of_eq hg⟩
 have hl:vals.length=ps.length:=by rw[kh hwl];exact hlen
 refine codeAny_mono ((F _ hKb (nsK hns)).run callerA [] s₁ H ⟨vals,[]⟩ vals (vals.map toV) _ _ hr e0 (hbind s₁ vals hl) hV (hsp H _ hO hS)) fun r s' x=>?_
 cases r with
 |error e=>exact(hCX H e s' x).elim
 |ok fl =>
  cases fl with
  |next=>exact False.elim x
  |brk=>exact False.elim x
  |cont=>exact False.elim x
  |ret u =>
   obtain⟨v,H',os,bare,un,hok',r',q⟩:=x
   have kept:∀ b o,s₁.heap.get? b=some o->s'.heap.get? b=some o:=fun b o e=>by
    cases q2:H b with
    |none=>exact un.keep b o e q2 (by intro z;exact absurd (show b∈([]:List Addr) from z) (by simp)) (by simp)
    |some u2 =>
     rcases hO b with z|⟨ob,u3,z⟩
     ·rw[q2] at z
      cases z
     ·have z2:=un.frzs b ob _ z
      obtain⟨e1,_⟩:=hok b _ z
      obtain⟨e2,_⟩:=hok' b _ z2
      rw[e] at e1
      cases e1
      exact e2
   have KX':K.In s'.heap:=fun b o e=>kept b o (KX b o e)
   obtain⟨as,hrd⟩:=Dw.reads (R:=R) (cl:=cl) hok' KX' d0 v u q r'
   exact⟨u,as,rfl,hrd,OldK.of_keep kept,os,bare⟩
theorem layable_weight{ds:List WData}(h:WData.layableAll ds=true):∀ d∈ds,d.weight<=1048576:=fun d hd =>
 (W.layableW_iff.mp (List.all_eq_true.mp h d hd)).2.2
theorem encAll_len:∀(cs:List Codec)(a:Codec.denoteAll cs),(Codec.encAll cs a).length=cs.length
 | [],_=>rfl
 |c::cs,a=>by
  show(Codec.encAll cs a.2).length+1=cs.length+1
  rw[encAll_len cs a.2]
theorem walk_spec{r:OpenSpec}{k:Nat}{q:Program}{loose:List Str}{XP:(Str->Option Value)->Heap->Prop}{YP:World->Heap->Prop}{d:DefRec}{K:Params->W.Frag}{CX:World->CXT}{ps:List Str}{sp:World->Sp}(hwell:r.wellSaid=true)(hdf:d.params.defaults=[])(hlen:r.args.length=ps.length)(hr:fm k callerA)(hY:∀(w:World)(h:Heap),YP w h->(K w.params).In h)(F:∀(w:World)(mg:Str->Option Value)(fa:Addr)(h:Heap),YP w h->(K w.params).In h->h.Ns mainGlobals mg->mg d.name=some (.ref fa)->∃ fd:FuncData,(∀(s:Shared)(us:List Value),us.length=ps.length->BindsTo s fd ⟨us,[]⟩ (ps.zip us))/\∀ base:Heap,(K w.params).In base->base.Ns mainGlobals mg->bq r.prog w (K w.params) mg base (CX w) k fa fd ps (sp w))(hsp:∀(w:World)(H:Hp)(xs:List V)(a:Codec.denoteAll r.args),OnlyF H->Codec.withinAll r.args a=true->Codec.app r.args r.asked a=true->DwAll (K w.params) H xs (Codec.encAll r.args a)->sp w xs H (fun v H'=>Dw (K w.params) H' v (r.ret.enc (Codec.app r.args r.f a))) fun _ _ _=>False)(hCX:∀(w:World)(H:Hp)(s:Shared)(e:Value)(s':Shared),CX w [] H s (fun _ _ _=>False) e s'->False):W.WalkOS q loose XP YP r d [] (fun f vs=>PySem.call f vs):=by
 intro w s_0 s₁ mg mb G Y fa o pm cd doc dV kV ho hd hcd hD hmg hg args vals as hpre hlay hrd hwl hlo
 obtain⟨a,e1,e2⟩:=W.os_pre_some hpre
 obtain⟨e3,hwi⟩:=Codec.encAll_of_decAll r.args args a e1
 subst e3
 have KX:=hY w _ Y
 obtain⟨fd,hb,hF⟩:=F w mg fa _ Y KX G.T.g hmg
 refine W.enter_call (codeAny_mono (spec_call (R:=[]) (cl:=classAt s_0.heap) (d0:=r.ret.enc (Codec.app r.args r.f a)) KX G.T.g G.T.b G.T.builtins G.T.nolimit hg hwl (pl_encAll _ _) (layable_weight hlay) hr hF hb (by rw[encAll_len];exact hlen) (fun H xs hO hS=>hsp w H xs a hO hwi e2 hS) fun H e s'=>hCX w H s₁ e s') fun r' s' hq=>?_)
 obtain⟨u,as',rfl,h1,h2,h3,h4⟩:=hq
 exact⟨.inl ⟨u,_,as',rfl,fun _=>rfl,h1,(OpenSpec.post_iff hwell hwi _ _).mpr rfl,fun z=>Bool.noConfusion (show false=true from z)⟩,h2,h3,h4⟩
theorem walk_specK{r:OpenSpec}{k:Nat}{q:Program}{loose:List Str}{XP:(Str->Option Value)->Heap->Prop}{YP:World->Heap->Prop}{d:DefRec}{K:Params->W.Frag}{CX:CXT}{ps:List Str}{sp:W.Frag->Sp}(hwell:r.wellSaid=true)(hdf:d.params.defaults=[])(hlen:r.args.length=ps.length)(hr:fm k callerA)(hY:∀(w:World)(h:Heap),YP w h->(K w.params).In h)(F:∀(w:World)(mg:Str->Option Value)(fa:Addr)(h:Heap),YP w h->(K w.params).In h->h.Ns mainGlobals mg->mg d.name=some (.ref fa)->∃ fd:FuncData,(∀(s:Shared)(us:List Value),us.length=ps.length->BindsTo s fd ⟨us,[]⟩ (ps.zip us))/\∀ base:Heap,(K w.params).In base->base.Ns mainGlobals mg->bq r.prog w (K w.params) mg base CX k fa fd ps (sp (K w.params)))(hsp:∀(K:W.Frag)(H:Hp)(xs:List V)(a:Codec.denoteAll r.args),OnlyF H->Codec.withinAll r.args a=true->Codec.app r.args r.asked a=true->DwAll K H xs (Codec.encAll r.args a)->sp K xs H (fun v H'=>Dw K H' v (r.ret.enc (Codec.app r.args r.f a))) fun _ _ _=>False)(hCX:∀(H:Hp)(s:Shared)(e:Value)(s':Shared),CX [] H s (fun _ _ _=>False) e s'->False):W.WalkOS q loose XP YP r d [] (fun f vs=>PySem.call f vs):=walk_spec (K:=K) (CX:=fun _=>CX) (sp:=fun w=>sp (K w.params)) hwell hdf hlen hr hY F (fun w H xs a h1 h2 h3 h4=>hsp (K w.params) H xs a h1 h2 h3 h4) fun _ H s e s'=>hCX H s e s'
end
end L2
namespace Lp
open PySem PySem.Spec PyProof.Rows L2
open PySem.W (nsIn findIn isFn keepIn codeIn hasDictIn)
def KH(h:Heap):W.Frag:=(List.range h.objs.size).filterMap fun a=>(h.get? a).map fun o=>(a,o)
theorem lk_of{f:Addr->Option Obj}{a:Addr}{o:Obj}:∀{l:List Addr},(l.filterMap fun a=>(f a).map fun o=>(a,o)).lookup a=some o->f a=some o
 | [],h=>by cases h
 |b::l,h=>by
  cases e:f b with
  |none =>
   rw[List.filterMap_cons_none (by simp[e])] at h
   exact lk_of h
  |some u =>
   rw[List.filterMap_cons_some (b:=(b,u)) (by simp[e]),List.lookup_cons] at h
   split at h
   ·rename_i q
    rw[eq_of_beq q,e];exact h
   ·exact lk_of h
theorem KH_in(h:Heap):(KH h).In h:=fun _ _ e=>lk_of e
def ad(K:W.Frag)(x:Str):Addr:=match nsIn K mainGlobals x with
 |some (some (.ref f))=>f
 |_=>0
def adB(K:W.Frag)(x:Str):Bool:=match nsIn K mainGlobals x with
 |some (some (.ref _))=>true
 |_=>false
theorem ad_of{K:W.Frag}{x:Str}(h:adB K x=true):nsIn K mainGlobals x=some (some (.ref (ad K x))):=by
 unfold adB at h;unfold ad
 split at h
 ·rename_i e;rw[e]
 ·cases h
def adm(K:W.Frag)(C:Addr)(x:Str):Addr:=match findIn K (.ref C) x with
 |some (some (.ref f))=>f
 |_=>0
def admB(K:W.Frag)(C:Addr)(x:Str):Bool:=match findIn K (.ref C) x with
 |some (some (.ref _))=>true
 |_=>false
theorem adm_of{K:W.Frag}{C:Addr}{x:Str}(h:admB K C x=true):findIn K (.ref C) x=some (some (.ref (adm K C x))):=by
 unfold admB at h;unfold adm
 split at h
 ·rename_i e;rw[e]
 ·cases h
abbrev FS:Type:=Option (Str×Str×Arguments×FuncBody×Scope×Addr×List (Str×Addr)×Value×Addr)×Bool
def fnSee(K:W.Frag)(f:Addr)(qual:Str):FS:=match K.lookup f with
 |some ⟨_,_,.func d,_⟩=>(some (d.name,d.qualname,d.params,d.body,d.scope,d.globals,d.closure,d.defaults,d.builtins),codeIn K d.code qual&&keepIn K (.ref f))
 |_=>(none,false)
def see(x qual:Str)(st:Stmt):FS:=(some (x,qual,mh st,.stmts (ju st),al st,mainGlobals,[],.none,builtinsNs),true)
theorem fn_see{K:W.Frag}{f:Addr}{x qual:Str}{st:Stmt}(h:fnSee K f qual=see x qual st):bz K x qual st f:=by
 unfold fnSee see at h
 split at h
 ·rename_i oc od d osl e
  obtain⟨h1,h2⟩:=Prod.mk.inj h
  rw[Bool.and_eq_true] at h2
  simp only[Option.some.injEq,Prod.mk.injEq] at h1
  obtain⟨a1,a2,a3,a4,a5,a6,a7,a8,a9⟩:=h1
  cases d
  dsimp only at a1 a2 a3 a4 a5 a6 a7 a8 a9 h2
  subst a1 a2 a3 a4 a5 a6 a7 a8 a9
  exact fnIs e h2.1 h2.2
 ·cases (Prod.mk.inj h).1
def topsA:List (Str×Nat):=[(("relay_variable":Str),8),(("lets_through":Str),9),(("neighbours":Str),10),(("live_nodes":Str),11),(("look_at":Str),12),(("drawn_in":Str),13),(("new_clock":Str),16),(("with_input_turned":Str),17),(("delay_in":Str),18),(("tick":Str),19),(("quiet_ticks":Str),20),(("pass_quietly":Str),21),(("signs_of":Str),43),(("name_of":Str),44),(("number_of":Str),45),(("node_of":Str),46),(("expect":Str),47),(("read_in":Str),48),(("read_relay":Str),49),(("read_lamp":Str),50),(("read_contact":Str),51),(("read_row":Str),52)]
def topsB:List (Str×Nat):=[(("read_rows":Str),53),(("check_order":Str),54),(("check_counts":Str),55),(("check_names":Str),56),(("add_contact":Str),57),(("build":Str),58),(("read_scheme":Str),59),(("thing_line":Str),67),(("begins_a_thing":Str),68),(("read_score":Str),69),(("read_thing":Str),70),(("follow":Str),95),(("played_panel":Str),96),(("count_ones":Str),97),(("call_length":Str),98),(("answer":Str),99),(("answers":Str),100)]
def topsL:List (Str×Nat):=topsA++topsB
def initsL:List (Str×Nat×List Str×Str):=[(("Relay":Str),4,kt,("Relay.__init__":Str)),(("Contact":Str),5,gp,("Contact.__init__":Str)),(("Drawn":Str),6,kr,("Drawn.__init__":Str)),(("Scheme":Str),7,nScheme,("Scheme.__init__":Str)),(("Clock":Str),15,iq,("Clock.__init__":Str)),(("Row":Str),42,nRow,("Row.__init__":Str)),(("Thing":Str),65,j7,("Thing.__init__":Str)),(("Score":Str),66,j3,("Score.__init__":Str)),(("Deed":Str),93,nDeed,("Deed.__init__":Str)),(("Panel":Str),94,nPanel,("Panel.__init__":Str))]
def methsL:List (Str×Nat×Str):=[(("begin":Str),1,("Panel.begin":Str)),(("become":Str),2,("Panel.become":Str)),(("load":Str),3,("Panel.load":Str)),(("press":Str),4,("Panel.press":Str)),(("run":Str),5,("Panel.run":Str)),(("pass_ticks":Str),6,("Panel.pass_ticks":Str)),(("told":Str),7,("Panel.told":Str)),(("lamps_drawn":Str),8,("Panel.lamps_drawn":Str)),(("journal":Str),9,("Panel.journal":Str)),(("play":Str),10,("Panel.play":Str)),(("back":Str),11,("Panel.back":Str))]
def topS(K:W.Frag)(t:Str×Nat):Bool×FS:=(adB K t.1,fnSee K (ad K t.1) t.1)
def topV(t:Str×Nat):Bool×FS:=(true,see t.1 t.1 (top t.2))
def initS(K:W.Frag)(t:Str×Nat×List Str×Str):Bool×FS:=(adB K t.1&&(clsB K (ad K t.1) t.2.2.1&&(admB K (ad K t.1) "__init__"&&isFn K (.ref (adm K (ad K t.1) "__init__")))),fnSee K (adm K (ad K t.1) "__init__") t.2.2.2)
def initV(t:Str×Nat×List Str×Str):Bool×FS:=(true,see "__init__" t.2.2.2 (bb (top t.2.1) 0))
def methS(K:W.Frag)(t:Str×Nat×Str):Bool×FS:=(admB K (ad K "Panel") t.1&&isFn K (.ref (adm K (ad K "Panel") t.1)),fnSee K (adm K (ad K "Panel") t.1) t.2.2)
def methV(t:Str×Nat×Str):Bool×FS:=(true,see t.1 t.2.2 (bb (top 94) t.2.1))
def tupSee(K:W.Frag)(a:Addr):Option (Value×List (Option Int)):=match K.lookup a with
 |some ⟨c,_,.seq vs _,_⟩=>some (c,vs.toList.map fun v=>match v with
  |.int i _=>some i
  |_=>none)
 |_=>none
def boolS(K:W.Frag):List Bool:=[adB K "Fault",adB K "Shapeless",admB K (ad K "Fault") "__init__",gu K (ad K "Fault") (some (.ref (adm K (ad K "Fault") "__init__"))) [],keepIn K (.ref (ad K "Fault")),fnB K (adm K (ad K "Fault") "__init__"),hasDictIn K (ad K "Fault"),gu K (ad K "Shapeless") none [],constB K,adB K "MOST_OF_RANK"]
def findS(K:W.Frag):List (Option (Option Value)):=[findIn K (.ref (ad K "Fault")) "__setattr__",findIn K (.ref (ad K "Fault")) "__getattribute__",findIn K (.ref (ad K "Fault")) "__getattr__",findIn K (.ref (ad K "Fault")) "kind",findIn K (.ref (ad K "Fault")) "line"]
abbrev OT:Type:=List (Bool×FS)×List (Bool×FS)×List (Bool×FS)×List Bool×FS×List (Option (Option Value))×Option (Value×List (Option Int))
def obsK(K:W.Frag):OT:=(topsL.map (topS K),initsL.map (initS K),methsL.map (methS K),boolS K,fnSee K (adm K (ad K "Fault") "__init__") "Fault.__init__",findS K,tupSee K (ad K "MOST_OF_RANK"))
def valK:OT:=(topsL.map topV,initsL.map initV,methsL.map methV,[true,true,true,true,true,true,true,true,true,true],see "__init__" "Fault.__init__" iFault,[some (some (.builtin "object.__setattr__")),some (some (.builtin "BaseException.__getattribute__")),some none,some none,some none],some (.type "tuple",[some 16,some 12,some 16,some 256]))
theorem map_eq{α β:Type}{f g:α->β}:∀{l:List α},l.map f=l.map g->∀ x∈l,f x=g x
 |_::_,h,x,hx=>by
  obtain⟨h1,h2⟩:=List.cons.inj h
  cases hx with
  |head=>exact h1
  |tail _ m=>exact map_eq h2 x m
theorem fj{K:W.Frag}(e:topsL.map (topS K)=topsL.map topV){x:Str}{n:Nat}(i:Nat)(m:topsL[i]?=some (x,n)):nsIn K mainGlobals x=some (some (.ref (ad K x)))/\bz K x x (top n) (ad K x):=by
 obtain⟨a,b⟩:=Prod.mk.inj (map_eq e _ (List.mem_of_getElem? m))
 exact⟨ad_of a,fn_see b⟩
theorem initE{K:W.Frag}(e:initsL.map (initS K)=initsL.map initV){x q:Str}{n:Nat}{ns:List Str}(i:Nat)(m:initsL[i]?=some (x,n,ns,q)):nsIn K mainGlobals x=some (some (.ref (ad K x)))/\clsB K (ad K x) ns=true/\findIn K (.ref (ad K x)) "__init__"=some (some (.ref (adm K (ad K x) "__init__")))/\isFn K (.ref (adm K (ad K x) "__init__"))=true/\bz K "__init__" q (bb (top n) 0) (adm K (ad K x) "__init__"):=by
 obtain⟨a,b⟩:=Prod.mk.inj (map_eq e _ (List.mem_of_getElem? m))
 rw[Bool.and_eq_true,Bool.and_eq_true,Bool.and_eq_true] at a
 exact⟨ad_of a.1,a.2.1,adm_of a.2.2.1,a.2.2.2,fn_see b⟩
theorem methE{K:W.Frag}(e:methsL.map (methS K)=methsL.map methV){x q:Str}{n:Nat}(i:Nat)(m:methsL[i]?=some (x,n,q)):findIn K (.ref (ad K "Panel")) x=some (some (.ref (adm K (ad K "Panel") x)))/\isFn K (.ref (adm K (ad K "Panel") x))=true/\bz K x q (bb (top 94) n) (adm K (ad K "Panel") x):=by
 obtain⟨a,b⟩:=Prod.mk.inj (map_eq e _ (List.mem_of_getElem? m))
 rw[Bool.and_eq_true] at a
 exact⟨adm_of a.1,a.2,fn_see b⟩
theorem tup_of{K:W.Frag}{a:Addr}(h:tupSee K a=some (.type "tuple",[some 16,some 12,some 16,some 256])):∃(od:Option Addr)(sl:Array (Option Value))(n:Nat)(t1 t2 t3 t4:Tok),K.lookup a=some ⟨.type "tuple",od,.seq #[.int 16 t1,.int 12 t2,.int 16 t3,.int 256 t4] n,sl⟩:=by
 unfold tupSee at h
 split at h
 ·rename_i c od vs n sl e
  obtain⟨h1,h2⟩:=Prod.mk.inj (Option.some.inj h)
  have one:∀{v:Value}{i:Int},(match v with | .int i _=>some i|_=>none)=some i->∃ t,v=.int i t:=by
   intro v i h
   split at h
   ·cases h;exact⟨_,rfl⟩
   ·cases h
  obtain⟨vl⟩:=vs
  dsimp only at h2
  match vl,h2 with
  | [v1,v2,v3,v4],h2 =>
   obtain⟨x1,h2⟩:=List.cons.inj h2
   obtain⟨x2,h2⟩:=List.cons.inj h2
   obtain⟨x3,h2⟩:=List.cons.inj h2
   obtain⟨x4,h2⟩:=List.cons.inj h2
   obtain⟨t1,rfl⟩:=one x1
   obtain⟨t2,rfl⟩:=one x2
   obtain⟨t3,rfl⟩:=one x3
   obtain⟨t4,rfl⟩:=one x4
   subst h1
   exact⟨od,sl,n,t1,t2,t3,t4,e⟩
  | [],h2=>cases h2
  | [_],h2=>cases (List.cons.inj h2).2
  | [_,_],h2=>cases (List.cons.inj (List.cons.inj h2).2).2
  | [_,_,_],h2=>cases (List.cons.inj (List.cons.inj (List.cons.inj h2).2).2).2
  |_::_::_::_::_::_,h2=>cases (List.cons.inj (List.cons.inj (List.cons.inj (List.cons.inj h2).2).2).2).2
 ·cases h
def dAns:DefRec:=⟨"answers",mh (top 100),ju (top 100),al (top 100),(match top 100 with | .FunctionDef (pos:=p) ..=>p|_=>⟨0,0,0,0⟩)⟩
def Says(_:World)(h:Heap):Prop:=∃ K:W.Frag,K.In h/\obsK K=valK
theorem obs1(w:World)(os:OsState):(Lr.Rn w os).map (fun r=>topsA.map (topS (KH r.2.1.abs.heap)))=some (topsA.map topV):=by
 unfold Lr.Rn
 rw[W.Fast.te10110043849684766642,W.Fast.te14364793385576792824]
 kernel_rfl
theorem obs2(w:World)(os:OsState):(Lr.Rn w os).map (fun r=>topsB.map (topS (KH r.2.1.abs.heap)))=some (topsB.map topV):=by
 unfold Lr.Rn
 rw[W.Fast.te10110043849684766642,W.Fast.te14364793385576792824]
 kernel_rfl
theorem obs4(w:World)(os:OsState):(Lr.Rn w os).map (fun r=>initsL.map (initS (KH r.2.1.abs.heap)))=some (initsL.map initV):=by
 unfold Lr.Rn
 rw[W.Fast.te10110043849684766642,W.Fast.te14364793385576792824]
 kernel_rfl
theorem obs5(w:World)(os:OsState):(Lr.Rn w os).map (fun r=>methsL.map (methS (KH r.2.1.abs.heap)))=some (methsL.map methV):=by
 unfold Lr.Rn
 rw[W.Fast.te10110043849684766642,W.Fast.te14364793385576792824]
 kernel_rfl
theorem obs3(w:World)(os:OsState):(Lr.Rn w os).map (fun r=>(obsK (KH r.2.1.abs.heap)).2.2.2)=some ([true,true,true,true,true,true,true,true,true,true],see "__init__" "Fault.__init__" iFault,[some (some (.builtin "object.__setattr__")),some (some (.builtin "BaseException.__getattribute__")),some none,some none,some none],some (.type "tuple",[some 16,some 12,some 16,some 256])):=by
 unfold Lr.Rn
 rw[W.Fast.te10110043849684766642,W.Fast.te14364793385576792824]
 kernel_rfl
theorem left:W.LeftO Lr.pw Lr.Q [] Lr.Xt (fun s=>obsK (KH s.heap)) (fun _=>valK) 9850:=by
 refine Lr.left_pw fun w os=>?_
 obtain⟨r,hr,g1⟩:=Option.map_eq_some_iff.mp (obs1 w os)
 have g2:=obs2 w os
 have g3:=obs3 w os
 have g4:=obs4 w os
 have g5:=obs5 w os
 rw[hr] at g2 g3 g4 g5
 have g0:topsL.map (topS (KH r.2.1.abs.heap))=topsL.map topV:=by
  unfold topsL
  have g2:topsB.map (topS (KH r.2.1.abs.heap))=topsB.map topV:=Option.some.inj g2
  rw[List.map_append,List.map_append,g1,g2]
 rw[hr]
 exact congrArg some (Prod.ext g0 (Prod.ext (Option.some.inj g4) (Prod.ext (Option.some.inj g5) (Option.some.inj g3))))
end Lp
section
open PySem PySem.W PyProof.Rows
set_option maxRecDepth 100000 in
set_option maxHeartbeats 0 in
theorem PySem.Challenge.cw_lamppanel_s01_answers_holds : PySem.Challenge.rw_lamppanel_s01_answers.Holds := by
 refine holds_os (q:=Lr.Q) (loose:=[]) (Xt:=Lr.Xt) (XP:=XL Lr.Q []) (Yf:=fun s=>Lp.obsK (Lp.KH s.heap)) (Ya:=fun _=>Lp.valK) (YP:=Lp.Says) (N:=9850) (d:=Lp.dAns) (kwd:=[]) Lp.left (fun _ s e=>⟨Lp.KH s.heap,Lp.KH_in _,e⟩) (fun _ _ _ y k=>y.elim fun K z=>⟨K,Frag.In.keeps z.1 k,z.2⟩) (fun s (e:(xlAt Lr.Q [] s&&recOk [] s)=true)=>xl_of s (Bool.and_eq_true_iff.mp e).1) XL.keeps (by kernel_rfl) (by kernel_rfl) (by kernel_rfl) (fun s (e:(xlAt Lr.Q [] s&&recOk [] s)=true)=>recFacts_of (Bool.and_eq_true_iff.mp e).2) os_shapes (by decide +kernel) (by decide +kernel) ⟨rfl,rfl,rfl,rfl,rfl,by decide +kernel⟩ ⟨[.list [.int 4]],by decide +kernel,by decide +kernel⟩ ?_
 intro w s₀ s₁ mg mb GG Y
 obtain⟨K,X,e⟩:=Y
 refine L2.walk_specK (r:=PySem.Challenge.rw_lamppanel_s01_answers) (K:=fun _=>K) (YP:=fun _ h=>K.In h) (k:=13) (CX:=L2.CX0) (ps:=["calls"]) (sp:=Lp.spAns) (by decide +kernel) (by kernel_rfl) rfl ⟨rfl,by decide,by decide⟩ (fun w h Y=>Y) ?F ?S (fun _ _ _ _ z=>z) w s₀ s₁ mg mb GG X
 case F =>
  intro w mg fa h _ KX G hmg
  obtain⟨eA,e⟩:=Prod.mk.inj e
  obtain⟨eB,e⟩:=Prod.mk.inj e
  obtain⟨eC,e⟩:=Prod.mk.inj e
  obtain⟨eD,e⟩:=Prod.mk.inj e
  obtain⟨eF,e⟩:=Prod.mk.inj e
  obtain⟨eI,eT⟩:=Prod.mk.inj e
  obtain⟨od,sl,n,x1,x2,x3,x4,lT⟩:=Lp.tup_of eT
  obtain⟨b0,eD⟩:=List.cons.inj eD
  obtain⟨b1,eD⟩:=List.cons.inj eD
  obtain⟨b2,eD⟩:=List.cons.inj eD
  obtain⟨b3,eD⟩:=List.cons.inj eD
  obtain⟨b4,eD⟩:=List.cons.inj eD
  obtain⟨b5,eD⟩:=List.cons.inj eD
  obtain⟨b6,eD⟩:=List.cons.inj eD
  obtain⟨b7,eD⟩:=List.cons.inj eD
  obtain⟨b8,eD⟩:=List.cons.inj eD
  obtain⟨b9,eD⟩:=List.cons.inj eD
  obtain⟨f0,eI⟩:=List.cons.inj eI
  obtain⟨f1,eI⟩:=List.cons.inj eI
  obtain⟨f2,eI⟩:=List.cons.inj eI
  obtain⟨f3,eI⟩:=List.cons.inj eI
  obtain⟨f4,eI⟩:=List.cons.inj eI
  have t0:=Lp.fj eA 0 rfl
  have t1:=Lp.fj eA 1 rfl
  have t2:=Lp.fj eA 2 rfl
  have t3:=Lp.fj eA 3 rfl
  have t4:=Lp.fj eA 4 rfl
  have t5:=Lp.fj eA 5 rfl
  have t6:=Lp.fj eA 6 rfl
  have t7:=Lp.fj eA 7 rfl
  have t8:=Lp.fj eA 8 rfl
  have t9:=Lp.fj eA 9 rfl
  have t10:=Lp.fj eA 10 rfl
  have t11:=Lp.fj eA 11 rfl
  have t12:=Lp.fj eA 12 rfl
  have t13:=Lp.fj eA 13 rfl
  have t14:=Lp.fj eA 14 rfl
  have t15:=Lp.fj eA 15 rfl
  have t16:=Lp.fj eA 16 rfl
  have t17:=Lp.fj eA 17 rfl
  have t18:=Lp.fj eA 18 rfl
  have t19:=Lp.fj eA 19 rfl
  have t20:=Lp.fj eA 20 rfl
  have t21:=Lp.fj eA 21 rfl
  have t22:=Lp.fj eA 22 rfl
  have t23:=Lp.fj eA 23 rfl
  have t24:=Lp.fj eA 24 rfl
  have t25:=Lp.fj eA 25 rfl
  have t26:=Lp.fj eA 26 rfl
  have t27:=Lp.fj eA 27 rfl
  have t28:=Lp.fj eA 28 rfl
  have t29:=Lp.fj eA 29 rfl
  have t30:=Lp.fj eA 30 rfl
  have t31:=Lp.fj eA 31 rfl
  have t32:=Lp.fj eA 32 rfl
  have t33:=Lp.fj eA 33 rfl
  have t34:=Lp.fj eA 34 rfl
  have t35:=Lp.fj eA 35 rfl
  have t36:=Lp.fj eA 36 rfl
  have t37:=Lp.fj eA 37 rfl
  have t38:=Lp.fj eA 38 rfl
  have i0:=Lp.initE eB 0 rfl
  have i1:=Lp.initE eB 1 rfl
  have i2:=Lp.initE eB 2 rfl
  have i3:=Lp.initE eB 3 rfl
  have i4:=Lp.initE eB 4 rfl
  have i5:=Lp.initE eB 5 rfl
  have i6:=Lp.initE eB 6 rfl
  have i7:=Lp.initE eB 7 rfl
  have i8:=Lp.initE eB 8 rfl
  have i9:=Lp.initE eB 9 rfl
  have m0:=Lp.methE eC 0 rfl
  have m1:=Lp.methE eC 1 rfl
  have m2:=Lp.methE eC 2 rfl
  have m3:=Lp.methE eC 3 rfl
  have m4:=Lp.methE eC 4 rfl
  have m5:=Lp.methE eC 5 rfl
  have m6:=Lp.methE eC 6 rfl
  have m7:=Lp.methE eC 7 rfl
  have m8:=Lp.methE eC 8 rfl
  have m9:=Lp.methE eC 9 rfl
  have m10:=Lp.methE eC 10 rfl
  exact Lp.all_mk KX G hmg t0.1 t0.2 t1.1 t1.2 t2.1 t2.2 t3.1 t3.2 t4.1 t4.2 t5.1 t5.2 t6.1 t6.2 t7.1 t7.2 t8.1 t8.2 t9.1 t9.2 t10.1 t10.2 t11.1 t11.2 t12.1 t12.2 t13.1 t13.2 t14.1 t14.2 t15.1 t15.2 t16.1 t16.2 t17.1 t17.2 t18.1 t18.2 t19.1 t19.2 t20.1 t20.2 t21.1 t21.2 t22.1 t22.2 t23.1 t23.2 t24.1 t24.2 t25.1 t25.2 t26.1 t26.2 t27.1 t27.2 t28.1 t28.2 t29.1 t29.2 t30.1 t30.2 t31.1 t31.2 t32.1 t32.2 t33.1 t33.2 t34.1 t34.2 t35.1 t35.2 t36.1 t36.2 t37.1 t37.2 t38.1 t38.2 i0.1 i0.2.1 i0.2.2.1 i0.2.2.2.1 i0.2.2.2.2 i1.1 i1.2.1 i1.2.2.1 i1.2.2.2.1 i1.2.2.2.2 i2.1 i2.2.1 i2.2.2.1 i2.2.2.2.1 i2.2.2.2.2 i3.1 i3.2.1 i3.2.2.1 i3.2.2.2.1 i3.2.2.2.2 i4.1 i4.2.1 i4.2.2.1 i4.2.2.2.1 i4.2.2.2.2 i5.1 i5.2.1 i5.2.2.1 i5.2.2.2.1 i5.2.2.2.2 i6.1 i6.2.1 i6.2.2.1 i6.2.2.2.1 i6.2.2.2.2 i7.1 i7.2.1 i7.2.2.1 i7.2.2.2.1 i7.2.2.2.2 i8.1 i8.2.1 i8.2.2.1 i8.2.2.2.1 i8.2.2.2.2 i9.1 i9.2.1 i9.2.2.1 i9.2.2.2.1 i9.2.2.2.2 m0.1 m0.2.1 m0.2.2 m1.1 m1.2.1 m1.2.2 m2.1 m2.2.1 m2.2.2 m3.1 m3.2.1 m3.2.2 m4.1 m4.2.1 m4.2.2 m5.1 m5.2.1 m5.2.2 m6.1 m6.2.1 m6.2.2 m7.1 m7.2.1 m7.2.2 m8.1 m8.2.1 m8.2.2 m9.1 m9.2.1 m9.2.2 m10.1 m10.2.1 m10.2.2 (Lp.ad_of b0) (Lp.ad_of b1) (Lp.adm_of b2) (Lp.fn_see eF) b3 b4 b5 f0 f1 f2 f3 f4 b6 b7 (Lp.ad_of b9) lT b8
 case S =>
  intro K H xs a hO hwi hask hx
  cases hx with
  |cons h1 h2 =>
   cases h2
   cases h1 with
   |lst hs ha =>
    have e:=L2.ints_dw a.1 _ ha
    subst e
    have q:((Codec.inLen 0 58000 a.1&&a.1.all (Codec.inInt (-65536) 65535))&&true)=true:=hwi
    rw[Bool.and_eq_true,Bool.and_eq_true] at q
    exact⟨_,a.1,rfl,hs,(Codec.inNat_iff.mp q.1.1).2,hask,fun H' p hp=>.lst (L2.SqL.of hp) (L2.dw_ints _)⟩
end
