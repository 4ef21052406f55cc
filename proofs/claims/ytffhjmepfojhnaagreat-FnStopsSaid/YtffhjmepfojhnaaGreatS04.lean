/-
  The contracts of the reference model's Laid and Turned; no condition.
-/
import Derived.Test.YtffhjmepfojhnaaGreatS01
import Derived.Laws.StructEq
import Derived.Deep.RegionHeld3
set_option maxRecDepth 100000
set_option maxHeartbeats 1000000
set_option linter.unusedSimpArgs false
set_option linter.unusedVariables false
namespace Go.Proofs.YtffhjmepfojhnaaGreat
open _root_.Go.Proofs.Tryz
section
open Go.RowKit
theorem IL (s e t m:Int) (w:World):Calls prog 199 #[.agg #[.int .i64 s,.int .i64 e,.int .i64 t],.int .i64 m] w fun r w'=>r=.returned (.agg #[.int .i64 s,.int .i64 (mE s e t m),.int .i64 t])∧Below w w w':=by
 go_enter func199,ntmps199
 go_wp2_with (first|(go_at_call 162;refine (mf _ _ _ _).mono ?_;rintro _ u ⟨rfl,q⟩;have z:Below w w u:=bT zB q;have y:=q.size;(try (simp at y));have:=fun o=>q.cell (p:=⟨w,o,none⟩) (by ((try simp);(try omega)));have:=fun o=>q.frozen (p:=⟨w,o,none⟩) (by ((try simp);(try omega)));have:=fun o=>q.cell (p:=⟨w+1,o,none⟩) (by ((try simp);(try omega)));have:=fun o=>q.frozen (p:=⟨w+1,o,none⟩) (by ((try simp);(try omega)));have:w<u.heap.size:=tO;have:w≤u.heap.size:=tO;have:w≤u.heap.size+1:=tO;have:w+1<u.heap.size:=tO;have:w+1≤u.heap.size:=tO;have:w+1≤u.heap.size+1:=tO)|(go_at_call 122;refine (mQ _ _).mono ?_;rintro _ _ ⟨rfl,rfl⟩))
 ·rw [GZ ‹_›];exact bodyPost_ret (v:=.agg #[.int .i64 s,.int .i64 e,.int .i64 t]) (by simp [results,results199,go_sem, *]) rfl ⟨rfl,by exact zB⟩
 ·rw [Hd ‹_› ‹_›];exact bodyPost_ret (v:=.agg #[.int .i64 s,.int .i64 m,.int .i64 t]) (by simp [results,results199,go_sem, *]) rfl ⟨rfl,by exact zB⟩
 ·rw [GY ‹_›];exact bodyPost_ret (v:=.agg #[.int .i64 s,.int .i64 e,.int .i64 t]) (by simp [results,results199,go_sem, *]) rfl ⟨rfl,by exact zB⟩
theorem Cj (s e t f n v:Int) (w:World):Calls prog 216 #[.agg #[.int .i64 s,.int .i64 e,.int .i64 t],.int .i64 f,.int .i64 n,.int .i64 v] w fun r w'=>uh s e t f n v r∧Below w w w':=by
 by_cases z:s=f
 ·subst z
  go_enter func216,ntmps216
  go_wp2_with (go_at_call 162;refine (mf _ _ _ _).mono ?_;rintro _ q ⟨rfl,m⟩;have y:Below w w q:=bT zB m;have u:=m.size;(try (simp at u));have:=fun o=>m.cell (p:=⟨w,o,none⟩) (by ((try simp);(try omega)));have:=fun o=>m.frozen (p:=⟨w,o,none⟩) (by ((try simp);(try omega)));have:=fun o=>m.cell (p:=⟨w+1,o,none⟩) (by ((try simp);(try omega)));have:=fun o=>m.frozen (p:=⟨w+1,o,none⟩) (by ((try simp);(try omega)));have:=fun o=>m.cell (p:=⟨w+1+1,o,none⟩) (by ((try simp);(try omega)));have:=fun o=>m.frozen (p:=⟨w+1+1,o,none⟩) (by ((try simp);(try omega)));have:w<q.heap.size:=tO;have:w≤q.heap.size:=tO;have:w≤q.heap.size+1:=tO;have:w+1<q.heap.size:=tO;have:w+1≤q.heap.size:=tO;have:w+1≤q.heap.size+1:=tO;have:w+1+1<q.heap.size:=tO;have:w+1+1≤q.heap.size:=tO;have:w+1+1≤q.heap.size+1:=tO)
  all_goals first
   | (refine bodyPost_ret (v:=.tuple #[.agg #[.int .i64 n,.int .i64 e,.int .i64 v],.bool true]) (by simp [results,results216,go_sem, *]) rfl ⟨yH (K5 ‹_› ‹_›),by exact zB⟩)
   | (refine bodyPost_ret (v:=.tuple #[.agg #[.int .i64 s,.int .i64 e,.int .i64 t],.bool false]) (by simp [results,results216,go_sem, *]) rfl ⟨rT (by first|exact zT ‹_›|exact Kz ‹_›),by exact zB⟩)
 ·go_enter func216,ntmps216
  go_wp2_with (go_at_call 162;refine (mf _ _ _ _).mono ?_;rintro _ q ⟨rfl,m⟩;have y:Below w w q:=bT zB m;have u:=m.size;(try (simp at u));have:=fun o=>m.cell (p:=⟨w,o,none⟩) (by ((try simp);(try omega)));have:=fun o=>m.frozen (p:=⟨w,o,none⟩) (by ((try simp);(try omega)));have:=fun o=>m.cell (p:=⟨w+1,o,none⟩) (by ((try simp);(try omega)));have:=fun o=>m.frozen (p:=⟨w+1,o,none⟩) (by ((try simp);(try omega)));have:=fun o=>m.cell (p:=⟨w+1+1,o,none⟩) (by ((try simp);(try omega)));have:=fun o=>m.frozen (p:=⟨w+1+1,o,none⟩) (by ((try simp);(try omega)));have:w<q.heap.size:=tO;have:w≤q.heap.size:=tO;have:w≤q.heap.size+1:=tO;have:w+1<q.heap.size:=tO;have:w+1≤q.heap.size:=tO;have:w+1≤q.heap.size+1:=tO;have:w+1+1<q.heap.size:=tO;have:w+1+1≤q.heap.size:=tO;have:w+1+1≤q.heap.size+1:=tO)
  all_goals (refine bodyPost_ret (v:=.tuple #[.agg #[.int .i64 s,.int .i64 e,.int .i64 t],.bool false]) (by simp [results,results216,go_sem, *]) rfl ⟨rT (by first|exact Ky ‹_›|exact zT ‹_›),by exact zB⟩)
end
section
open Go.RowKit
def rz (a b:Ha):Bool:=a.pos == b.pos && ((a.code == b.code && a.elem == b.elem) && (a.cell == b.cell && (a.seen == b.seen && (a.wait == b.wait && (a.fin == b.fin && (a.come == b.come && (a.grow == b.grow && (a.mine == b.mine && (a.nxt == b.nxt && (a.beg == b.beg && (a.reply == b.reply && a.out == b.out)))))))))))
theorem Ck (a b:Ha):rz a b=true↔a=b:=by
 obtain ⟨G,H,I,J,K,L,M,N,O,m,q,r,u,y⟩:=a
 obtain ⟨R,T,U,V,X,Y,Z,b8,b9,z,A,D,E,F⟩:=b
 simp [rz,and_assoc]
theorem yR (a:Ha):rz a a=true:=(Ck a a).2 rfl
theorem Hm (a b c d:Int) (n:Nat) (w:World):(Op.equalIn (n+1+1) 41 (.agg #[.int .i64 a,.int .i64 b]) (.agg #[.int .i64 c,.int .i64 d])).run prog w=.ok (a == c && b == d) w:=by
 have u:=underlying2
 have r:=Tryz.isAgg2
 have y:=Tryz.sizeOf2
 have q:Tryz.prog.underlying 41=some (.struct (Tryz.prog.fieldsOf 41)):=by kernel_rfl
 rw [run_equalIn_agg w (n+1) 41 _ _ q (by kernel_rfl)]
 simp only [Program.fieldsOf,underlying41]
 go_simp
 by_cases h1:a=c <;> by_cases m:b=d <;> simp [h1,m]
theorem o9 (x y:Ha) (w:World):(Op.equalIn 10000 49 (.agg (aB x)) (.agg (aB y))).run prog w=.ok (rz x y) w:=by
 have M:=underlying2
 have K:=Tryz.isAgg2
 have N:=Tryz.sizeOf2
 have L:=Tryz.isAgg41
 have O:=Tryz.sizeOf41
 have J:Tryz.prog.underlying 49=some (.struct (Tryz.prog.fieldsOf 49)):=by kernel_rfl
 rw [show (10000:Nat)=9998+1+1 from rfl,run_equalIn_agg w (9998+1) 49 _ _ J (by kernel_rfl)]
 simp only [Program.fieldsOf,underlying49]
 simp [aB,Op.eqFields,go_sem,Hm,rz, *]
 by_cases z:x.pos=y.pos <;> simp [z]
 by_cases h1:x.code=y.code <;> simp [h1]
 by_cases A:x.elem=y.elem <;> simp [A]
 by_cases D:x.cell=y.cell <;> simp [D]
 by_cases E:x.seen=y.seen <;> simp [E]
 by_cases F:x.wait=y.wait <;> simp [F]
 by_cases h6:x.fin=y.fin <;> simp [h6]
 by_cases G:x.come=y.come <;> simp [G]
 by_cases H:x.grow=y.grow <;> simp [H]
 by_cases I:x.mine=y.mine <;> simp [I]
 by_cases m:x.nxt=y.nxt <;> simp [m]
 by_cases q:x.beg=y.beg <;> simp [q]
 by_cases r:x.reply=y.reply <;> simp [r]
 by_cases u:x.out=y.out <;> simp [u]
end
section
open Go.RowKit
def upd {α:Type} (f:Nat→α) (k:Nat) (v:α):Nat→α:=fun j=>cond (Nat.beq j k) v (f j)
theorem aC {α:Type} (f:Nat→α) (k j:Nat) (v:α):upd f k v j=if j=k then v else f j:=by
 unfold upd
 by_cases h:j=k
 ·subst h;simp
 ·have:Nat.beq j k=false:=by cases m:Nat.beq j k with
   | false=>rfl
   | true=>exact absurd (Nat.eq_of_beq_eq_true m) h
  simp [this,h]
theorem nU {b:Bool} {P:Prop} (e:b=false) (h:b=true):P:=by rw [e] at h;cases h
def qG (t:Array Value):List Nat→(Nat→Value)→Array Value
 | [],_=>t
 | d :: ds,s=>(qG t ds s).setIfInBounds d (s d)
def fill (a:Act) (ds:List Nat) (s:Nat→Value):Act:=⟨qG a.tmps ds s,a.defers⟩
theorem EF (t:Array Value) (ds:List Nat) (s:Nat→Value):(qG t ds s).size=t.size:=by
 induction ds with
 | nil=>rfl
 | cons d ds ih=>simp [qG,ih]
theorem IM (t:Array Value) (ds:List Nat) (s:Nat→Value) (k:Nat):(qG t ds s)[k]?=if k ∈ ds then (t[k]?).map (fun _=>s k) else t[k]?:=by
 induction ds with
 | nil=>simp [qG]
 | cons d ds ih =>
  simp only [qG,Array.getElem?_setIfInBounds,EF]
  by_cases h:d=k
  ·subst h
   by_cases m:d<t.size
   ·simp [m]
   ·simp [m]
  ·have q:¬ k=d:=fun e=>h e.symm
   simp only [h,if_false,List.mem_cons,q,false_or]
   exact ih
theorem yS (a:Act) (ds:List Nat):fill a ds (fun k=>a.tmps.getD k undef)=a:=by
 unfold fill
 have:qG a.tmps ds (fun k=>a.tmps.getD k undef)=a.tmps:=by
  apply Array.ext_getElem?
  intro k
  rw [IM]
  by_cases m:k<a.tmps.size
  ·simp [m]
  ·simp [m]
 rw [this]
def left (l:Nat→Bool):Nat→Nat
 | 0=>0
 | n+1=>left l n+cond (l n) 0 1
theorem KZ (l:Nat→Bool) (i n:Nat) (h:n≤i):left (upd l i true) n=left l n:=by
 induction n with
 | zero=>rfl
 | succ n ih =>
  have:upd l i true n=l n:=by rw [aC,if_neg tO]
  simp [left,ih tO,this]
theorem La (l:Nat→Bool) (i n:Nat) (h:i<n) (m:l i=false):left (upd l i true) n+1=left l n:=by
 induction n with
 | zero=>omega
 | succ n ih =>
  by_cases e:i=n
  ·subst e
   have:upd l i true i=true:=by rw [aC,if_pos rfl]
   simp [left,KZ l i i (Nat.le_refl _),this,m]
  ·have:upd l i true n=l n:=by rw [aC,if_neg tO]
   have:=ih tO
   simp only [left, *]
   omega
theorem IP (l:Nat→Bool) (n:Nat) (h:left l n=0):∀ i,i<n→l i=true:=by
 induction n with
 | zero=>intro i m;omega
 | succ n ih =>
  intro i m
  simp only [left] at h
  by_cases e:i=n
  ·subst e
   cases q:l i with
   | true=>rfl
   | false=>simp [q] at h
  ·exact ih tO i tO
def ny (T:List (List Nat)):Nat→List Oper→Bool
 | _,[]=>true
 | i,o :: os=>(o.after.toList.all fun e=>!Region.binds .any e || Nat.blt e.on i) && ((T.getD i []).all fun t=>o.after.toList.any fun e=>Region.binds .any e && (Nat.beq e.on t || (T.getD e.on []).any fun u=>Nat.beq u t)) && ny T (i+1) os
theorem EG {T:List (List Nat)} {j:Nat} {o:Oper}:∀ (m:List Oper) (i:Nat),ny T i m=true→m[j]?=some o →
  (∀ e ∈ o.after,Region.binds .any e=true→e.on<i+j)∧∀ t ∈ T.getD (i+j) [],∃ e ∈ o.after,Region.binds .any e=true∧(e.on=t∨t ∈ T.getD e.on []):=by
 induction j with
 | zero =>
  intro m i h q
  cases m with
  | nil=>simp at q
  | cons p m =>
   simp at q
   subst q
   simp only [ny,Bool.and_eq_true] at h
   obtain ⟨⟨h1,A⟩,_⟩:=h
   refine ⟨fun e z E=>?_,fun t F=>?_⟩
   ·have:=List.all_eq_true.1 h1 e (by simpa using z)
    simp [E] at this
    simpa [Nat.blt_eq] using this
   ·have:=List.all_eq_true.1 A t (by simpa using F)
    obtain ⟨e,z,r⟩:=List.any_eq_true.1 this
    simp only [Bool.and_eq_true,Bool.or_eq_true] at r
    refine ⟨e,by simpa using z,r.1,?_⟩
    rcases r.2 with y|y
    ·exact .inl (Nat.eq_of_beq_eq_true y)
    ·obtain ⟨u,G,D⟩:=List.any_eq_true.1 y
     exact .inr ((Nat.eq_of_beq_eq_true D) ▸ G)
 | succ j ih =>
  intro m i h q
  cases m with
  | nil=>simp at q
  | cons p m =>
   simp at q
   simp only [ny,Bool.and_eq_true] at h
   have:=ih m (i+1) h.2 q
   rw [show i+(j+1)=i+1+j by omega]
   exact this
section
variable {P:Program} {ops:Array Oper} {Q:Exit→Act→World→Prop}
def Lb (P:Program) (ops:Array Oper) (Q:Exit→Act→World→Prop) (T:List (List Nat)) (F:(Nat→Value)→Act) (Φ:(Nat→Bool)→(Nat→Value)→World→Prop) (i:Nat) (o:Oper):Prop :=
 ∀ (l:Nat→Bool) (s:Nat→Value) (w:World),l i=false→(∀ t,(T.getD i []).any (Nat.beq t)=true→l t=true)→(∀ j,(T.getD j []).any (Nat.beq i)=true→l j=false)→Hid (Φ l s w) →
  ∀ K':Act→World→Prop,Shut (∀ s' a' w',a'=F s'→Φ (upd l i true) s' w'→K' a' w')→if Region.wanted o (yielded ops (F s).tmps)=true then Oper.wp P o (F s) w K' Q else K' ((F s).put o.dst undef) w
def Steps (P:Program) (ops:Array Oper) (Q:Exit→Act→World→Prop) (T:List (List Nat)) (F:(Nat→Value)→Act) (Φ:(Nat→Bool)→(Nat→Value)→World→Prop):Nat→List Oper→Prop
 | _,[]=>True
 | i,o :: os=>Lb P ops Q T F Φ i o∧Steps P ops Q T F Φ (i+1) os
theorem Steps.at {T:List (List Nat)} {F:(Nat→Value)→Act} {Φ:(Nat→Bool)→(Nat→Value)→World→Prop} {j:Nat} {o:Oper}:∀ (m:List Oper) (i:Nat),Steps P ops Q T F Φ i m→m[j]?=some o→Lb P ops Q T F Φ (i+j) o:=by
 induction j with
 | zero =>
  intro m i h q
  cases m with
  | nil=>simp at q
  | cons p m=>simp at q;subst q;exact h.1
 | succ j ih =>
  intro m i h q
  cases m with
  | nil=>simp at q
  | cons p m =>
   simp at q
   have:=ih m (i+1) h.2 q
   rw [show i+(j+1)=i+1+j by omega]
   exact this
theorem any_beq {L:List Nat} {t:Nat}:L.any (Nat.beq t)=true↔t ∈ L:=by
 rw [List.any_eq_true]
 constructor
 ·rintro ⟨x,q,m⟩
  exact (Nat.eq_of_beq_eq_true m) ▸ q
 ·intro h
  exact ⟨t,h,by simp⟩
theorem yT {T:List (List Nat)} {F:(Nat→Value)→Act} {Φ:(Nat→Bool)→(Nat→Value)→World→Prop} (hT:ny T 0 ops.toList=true) (V:Nat.ble T.length ops.size=true) (I:Steps P ops Q T F Φ 0 ops.toList)
  (fin:∀ (l:Nat→Bool) (s:Nat→Value) (w:World),(∀ i,Nat.blt i ops.size=true→l i=true)→Φ l s w→Q .normal (F s) w) :
  ∀ (r:Nat) (m:Array Bool) (l:Nat→Bool) (s:Nat→Value) (w:World),m.size=ops.size→(∀ i,i<ops.size→m[i]?=some (l i))→left l ops.size≤r →
   (∀ i e o,ops[i]?=some o→e ∈ o.after→Region.binds .any e=true→l i=true→l e.on=true)→Φ l s w→wpAny P .any ops Q r m (F s) w:=by
 have W:∀ i o,ops[i]?=some o→(∀ e ∈ o.after,Region.binds .any e=true→e.on<i)∧∀ t ∈ T.getD i [],∃ e ∈ o.after,Region.binds .any e=true∧(e.on=t∨t ∈ T.getD e.on []):=by
  intro i o q
  have:=EG (j:=i) ops.toList 0 hT (by simpa using q)
  simpa using this
 have up:∀ (l:Nat→Bool),(∀ i e o,ops[i]?=some o→e ∈ o.after→Region.binds .any e=true→l i=true→l e.on=true)→∀ n i,i<n→i<ops.size→l i=true→∀ t ∈ T.getD i [],l t=true:=by
  intro l J n
  induction n with
  | zero=>intro i A;omega
  | succ n ih =>
   intro i A hs D t ht
   have q:ops[i]?=some ops[i]:=by simp [hs]
   obtain ⟨e,z,y,u⟩:=(W i _ q).2 t ht
   have h1:=J i e _ q z y D
   have R:=(W i _ q).1 e z y
   rcases u with u|u
   ·exact u ▸ h1
   ·exact ih e.on tO tO h1 t u
 have U:∀ (m:Array Bool) (l:Nat→Bool),m.size=ops.size→(∀ i,i<ops.size→m[i]?=some (l i))→Region.ready .any ops m=[]→∀ n i,i<n→i<ops.size→l i=true:=by
  intro m l G D hr n
  induction n with
  | zero=>intro i A;omega
  | succ n ih =>
   intro i A hs
   cases E:l i with
   | true=>rfl
   | false =>
    have q:ops[i]?=some ops[i]:=by simp [hs]
    have hm:i ∈ Region.ready .any ops m:=mem_ready.2 ⟨by simp [Array.getD_eq_getD_getElem?,D i hs,E],_,q,fun e z y=>by
     have R:=(W i _ q).1 e z y
     have u:=ih e.on tO tO
     simp [Array.getD_eq_getD_getElem?,D e.on tO,u]⟩
    rw [hr] at hm
    cases hm
 intro r
 induction r with
 | zero =>
  intro m l s w G D hf J hΦ
  have h0:=IP l ops.size tO
  refine ⟨?_,fin l s w (fun i A=>h0 i (by simpa [Nat.blt_eq] using A)) hΦ⟩
  apply List.eq_nil_iff_forall_not_mem.2
  intro i A
  obtain ⟨h1,o,q,_⟩:=mem_ready.1 A
  have hs:i<ops.size:=(Array.getElem?_eq_some_iff.1 q).1
  rw [Array.getD_eq_getD_getElem?,D i hs,h0 i hs] at h1
  cases h1
 | succ r ih =>
  intro m l s w G D hf J hΦ
  refine ⟨fun hr=>fin l s w (fun i A=>U m l G D hr (i+1) i tO (by simpa [Nat.blt_eq] using A)) hΦ,fun i A=>?_⟩
  obtain ⟨h1,o,q,K⟩:=mem_ready.1 A
  have hs:i<ops.size:=(Array.getElem?_eq_some_iff.1 q).1
  have E:l i=false:=by
   rw [Array.getD_eq_getD_getElem?,D i hs] at h1
   simpa using h1
  have X:∀ e ∈ o.after,Region.binds .any e=true→l e.on=true:=fun e z y=>by
   have R:=K e z y
   have u:=(W i o q).1 e z y
   rw [Array.getD_eq_getD_getElem?,D e.on tO] at R
   simpa using R
  have N:=Steps.at (j:=i) ops.toList 0 I (by simpa using q)
  rw [Nat.zero_add] at N
  refine wpOp_step q fun K' hK=>N l s w E (fun t ht=>?_) (fun j hj=>?_) hΦ K' (fun s' a' w' ea hΦ'=>hK _ _ ?_)
  ·obtain ⟨e,z,y,u⟩:=(W i o q).2 t (any_beq.1 ht)
   rcases u with u|u
   ·exact u ▸ X e z y
   ·exact up l J (e.on+1) e.on tO (by have:=(W i o q).1 e z y;omega) (X e z y) t u
  ·have L:=any_beq.1 hj
   cases Z:l j with
   | false=>rfl
   | true =>
    by_cases Y:j<ops.size
    ·have:=up l J (j+1) j tO Y Z i L
     rw [E] at this
     cases this
    ·have h5:=Nat.le_of_ble_eq_true V
     simp [List.getD_eq_getElem?_getD,List.getElem?_eq_none (show T.length≤j by omega)] at L
  ·subst ea
   refine ih _ (upd l i true) s' w' (by simpa using G) (fun k M=>?_) (by have:=La l i ops.size hs E;omega) (fun k e o2 H z y M=>?_) hΦ'
   ·rw [Array.getElem?_setIfInBounds,aC,D k M]
    by_cases e:i=k
    ·subst e;simp [G,hs]
    ·have O:¬ k=i:=fun x=>e x.symm
     simp [e,O]
   ·rw [aC] at M ⊢
    by_cases e1:e.on=i
    ·simp [e1]
    ·rw [if_neg e1]
     by_cases O:k=i
     ·subst O
      rw [q] at H
      obtain rfl:=Option.some.inj H
      exact X e z y
     ·rw [if_neg O] at M
      exact J k e o2 H z y M
theorem xH {id:Nat} {a:Act} {w:World} (T:List (List Nat)) (ds:List Nat) (Φ:(Nat→Bool)→(Nat→Value)→World→Prop) {F:(Nat→Value)→Act} (A:P.follows .mixedOrders=true) (y:ny T 0 ops.toList=true) (q:Nat.ble T.length ops.size=true)
  (u:∀ s,fill a ds s=F s) (r:∀ s,Φ (fun _=>false) s w.drew) (m:Steps P ops Q T F Φ 0 ops.toList)
  (fin:∀ (l:Nat→Bool) (s:Nat→Value) (w:World),(∀ i,Nat.blt i ops.size=true→l i=true)→Φ l s w→Q .normal (F s) w):(Code.region id ops true).wp P Q a w:=by
 refine wp_region_any A ?_
 have:=yT y q m fin ops.size (Array.replicate ops.size false) (fun _=>false) (fun k=>a.tmps.getD k undef) w.drew (by simp) (fun i z=>by simp [z]) (by
  generalize ops.size=n
  induction n with
  | zero=>simp [left]
  | succ n ih=>simp [left];exact ih) (fun i e o _ _ _ h=>by cases h) (r _)
 rw [← u,yS] at this
 exact this
theorem iT {id:Nat} {a:Act} {w:World} (T:List (List Nat)) (ds:List Nat) (Φ:(Nat→Bool)→(Nat→Value)→World→Prop) {F:(Nat→Value)→Act} (r:∀ s,Φ (fun _=>false) s w.drew) (m:Steps P ops Q T F Φ 0 ops.toList) (fin:∀ (l:Nat→Bool) (s:Nat→Value) (w:World),(∀ i,Nat.blt i ops.size=true→l i=true)→Φ l s w→Q .normal (F s) w) (z:P.follows .mixedOrders=true:=by kernel_rfl) (y:ny T 0 ops.toList=true:=by kernel_rfl) (q:Nat.ble T.length ops.size=true:=by kernel_rfl) (u:∀ s,fill a ds s=F s:=by intro s;simp only [fill,qG,List.setIfInBounds_toArray,List.set_cons_zero,List.set_cons_succ];rfl):(Code.region id ops true).wp P Q a w:=xH T ds Φ z y q u r m fin
end
end
section
open Go.RowKit
variable {w w':World} {v:Value} {lo b:Nat} {x y ys:Array Value} {T T':TypeId}
theorem aS (w:World) (o:Obj):Below w w (w.alloc o):=(Below.refl _ _).alloc (Nat.le_refl _) o
theorem eP (h:hp w b=some (.cells x T)) (m:Below w w w'):hp w' b=some (.cells x T):=(oW m (bO h).2.2).trans h
def iI (w:World) (v:Value) (lo:Nat) (x:Array Value) (T:TypeId):Prop:=∃ b,v=.pointer (some ⟨b,0,none⟩)∧lo≤b∧hp w b=some (.cells x T)
theorem iI.below (h:iI w v lo x T) (m:Below w w w'):iI w' v lo x T:=by
 obtain ⟨b,e,q,r⟩:=h
 exact ⟨b,e,q,eP r m⟩
theorem iI.new (h:lo≤w.heap.size):iI (w.alloc (.cells x T)) (.pointer (some ⟨w,0,none⟩)) lo x T :=
 ⟨_,rfl,h,heap_alloc_new w _⟩
theorem oC (r:hp w b=some (.cells y T')) {m:Nat} (h:hp w m=some (.cells x T)) (q:T≠T'):hp (dF w b ys) m=some (.cells x T):=by
 have:m≠b:=by
  rintro rfl
  rw [r] at h
  simp at h
  exact q h.2.symm
 exact (aR this).trans h
theorem ib (m:hp w b=some (.cells y T)):hp (dF w b ys) b=some (.cells ys T):=by rw [vF,m];rfl
theorem iI.far (h:iI w v lo x T) (u:hp w b=some (.cells y T')) (m:T≠T'):iI (dF w b ys) v lo x T:=by
 obtain ⟨q,e,r,h⟩:=h
 exact ⟨q,e,r,oC u h m⟩
theorem dI {e:TypeId} {k m:Nat} {u:Value} {D:List Value} (h:w.ownsRow lo e k u m D) (A:hp w b=some (.cells y T')) (z:e≠T'):(dF w b ys).ownsRow lo e k u m D:=by
 refine dZ h fun q=>?_
 rcases h.2 with ⟨rfl,_⟩|⟨g,cap,E,rfl,_,r,_⟩
 ·cases q
 ·simp [Value.ownBlock] at q
  subst q
  unfold hp at A
  rw [A] at r
  simp at r
  exact z r.2.symm
theorem bH {e:TypeId} {k m:Nat} {u:Value} {E:List Value} (h:w.ownsRow lo e k u m E) (A:hp w b=some (.cells y T')) (z:e≠T'):∀ i,u.ownBlock=some i→i≠b:=by
 rintro i q rfl
 rcases h.2 with ⟨rfl,_⟩|⟨g,cap,D,rfl,_,r,_⟩
 ·cases q
 ·simp [Value.ownBlock] at q
  subst q
  unfold hp at A
  rw [A] at r
  simp at r
  exact z r.2.symm
theorem zW {W:World} {e:TypeId} {k m:Nat} {u:Value} {q:List Value} (h:w.ownsRow lo e k u m q) (A:hp w b=some (.cells y T')) (g:w.ownsRow lo e k u m q→hp w b=some (.cells y T')→W.ownsRow lo e k u m q:=by (intro r D;repeat (first|with_reducible exact r|((with_reducible refine aI ?_ ?_ _);rotate_left;(focus exact fun z=>bH r D (by decide) _ z rfl))))):W.ownsRow lo e k u m q:=g h A
end
section
def Ph (h:Ha):Prop:=(16≤h.pos∧h.pos≤22∧h.nxt=1)∨23≤h.pos
def Good (c:Ch) (h:Ha) (s:St):Prop:=s.2.2=true→aW s.1=true∧bM s.2.1=true∧(s.2.1.beg=h.beg∨s.2.1.beg=0) ∧
 ((s.1.words.length=c.words.length∧(Ph h→Ph s.2.1∨s.2.1.pos=0))∨(s.1.words.length=c.words.length+1∧¬ Ph h∧Ph s.2.1))
theorem zX (c:Ch) (h:Ha) (a:Ch) (b:Ha):Good c h (a,b,false):=fun e=>by cases e
theorem iB (c:Ch) (h:Ha):Good c h nothing:=fun e=>by cases e
theorem lN {c:Ch} {h:Ha} {q:Ch} {m:Ha} (r:m.beg=h.beg∨m.beg=0) (u:(q.words.length=c.words.length∧(Ph h→Ph m∨m.pos=0))∨(q.words.length=c.words.length+1∧¬ Ph h∧Ph m)):Good c h (done q m):=by
 unfold done
 split
 ·rename_i e
  simp at e
  exact fun _=>⟨e.1,e.2,r,u⟩
 ·exact iB c h
theorem rX (c:Ch) (v x:Int):(dM c v x).words.length=c.words.length:=by unfold dM;split <;> simp
theorem Lc (h:Ha):(anew h).beg=h.beg:=rfl
theorem IQ (h:Ha):(dP h).beg=h.beg∨(dP h).beg=0:=by unfold dP;split <;> (try split) <;> simp [aV,Lc]
theorem Ld {h m:Ha} (e:m.nxt=h.nxt) (hp:h.pos≤22) (H:Ph h):Ph (dP m)∨(dP m).pos=0:=by
 have q:h.nxt=1:=by
  rcases H with H|H
  ·exact H.2.2
  ·omega
 left
 unfold dP
 rw [e,q]
 right
 simp
theorem IU {c:Ch} {h:Ha} (r:¬ Ph h):Good c h (bI c h):=by
 have K:∀ {q:Ch} {m:Ha},(m.beg=h.beg∨m.beg=0)→q.words.length=c.words.length→Good c h (done q m):=fun u y=>lN u (.inl ⟨y,fun H=>absurd H r⟩)
 unfold bI
 repeat' split
 all_goals try exact iB c h
 ·unfold uk;split
  ·exact K (.inr rfl) rfl
  ·exact K (.inl rfl) rfl
 ·exact K (.inl rfl) rfl
 ·unfold vI kv
  simp only
  repeat' split
  all_goals first|exact iB c h|exact K (.inl rfl) rfl
 ·exact K (.inl rfl) rfl
 ·exact K (.inl rfl) rfl
 ·unfold jQ fP
  repeat' split
  all_goals first|exact iB c h|exact K (.inr rfl) rfl|exact K (.inl rfl) rfl|skip
  exact lN (.inl rfl) (.inr ⟨by simp,r,.inr (by show (23:Int)≤23;omega)⟩)
 ·unfold mR
  refine K ?_ (rX _ _ _)
  simp only
  split <;> exact .inl rfl
 ·exact K (.inr rfl) rfl
theorem IV {c:Ch} {h:Ha} (r:¬ Ph h):Good c h (bL c h):=by
 have K:∀ {q:Ch} {m:Ha},(m.beg=h.beg∨m.beg=0)→q.words.length=c.words.length→Good c h (done q m):=fun u y=>lN u (.inl ⟨y,fun H=>absurd H r⟩)
 unfold bL
 repeat' split
 all_goals try exact iB c h
 ·unfold um;split
  ·exact K (.inr rfl) rfl
  ·exact K (.inl rfl) rfl
 ·unfold uw iY
  simp only
  repeat' split
  all_goals first|exact iB c h|exact zX c h _ _|exact K (.inl rfl) rfl
 ·exact K (.inl rfl) rfl
 ·unfold gX j6 fP rV
  repeat' split
  all_goals first|exact iB c h|exact K (.inr rfl) rfl|exact K (.inl rfl) rfl|skip
  all_goals first|exact lN (.inl rfl) (.inr ⟨by simp,r,.inl ⟨by simp,by simp,rfl⟩⟩)|skip
  all_goals simp_all
 ·unfold vJ
  exact K (.inl rfl) (rX _ _ _)
 ·exact K (.inl rfl) rfl
 ·exact K (.inl rfl) rfl
theorem IW {c:Ch} {h:Ha} (z:16≤h.pos) (hp:h.pos≤22):Good c h (bP c h):=by
 have N:Ph h→h.nxt=1:=fun H=>by
  rcases H with H|H
  ·exact H.2.2
  ·omega
 have K:∀ {r:Ch} {m:Ha},(m.beg=h.beg∨m.beg=0)→r.words.length=c.words.length→m.nxt=h.nxt→(16≤m.pos∧m.pos≤22)→Good c h (done r m):=fun u y e q=>lN u (.inl ⟨y,fun H=>.inl (.inl ⟨q.1,q.2,e.trans (N H)⟩)⟩)
 have G:∀ {r:Ch} {m:Ha},m.beg=h.beg→r.words.length=c.words.length→m.nxt=h.nxt→Good c h (done r (dP m)):=fun {r m} u y e=>lN (by rw [← u];exact IQ m) (.inl ⟨y,fun H=>Ld e hp H⟩)
 unfold bP
 repeat' split
 all_goals try exact iB c h
 ·unfold iJ
  split
  ·exact G rfl rfl rfl
  ·exact K (.inl rfl) rfl rfl ⟨by simp,by simp⟩
 ·exact G rfl rfl rfl
 ·exact K (.inl rfl) rfl rfl ⟨by simp,by simp⟩
 ·unfold l7 mh
  simp only
  repeat' split
  all_goals first|exact zX c h _ _|exact K (.inl rfl) rfl rfl ⟨by simp [cZ],by simp [cZ]⟩|exact G rfl rfl rfl
 ·unfold iH lH
  repeat' split
  all_goals first|exact iB c h|exact K (.inl rfl) rfl rfl ⟨by simp,by simp⟩|exact G rfl rfl rfl
 ·unfold ru
  exact K (.inl rfl) (rX _ _ _) rfl ⟨by simp only;split <;> omega,by simp only;split <;> omega⟩
 ·exact G rfl rfl rfl
 ·exact K (.inl rfl) rfl rfl ⟨by simp,by simp⟩
theorem IX (c:Ch) (h:Ha):Good c h (bV c h):=by
 have K:∀ {r:Ch} {m:Ha},(m.beg=h.beg∨m.beg=0)→r.words.length=c.words.length→(23≤m.pos∨m.pos=0)→Good c h (done r m):=fun u y q=>lN u (.inl ⟨y,fun _=>q.imp (fun q=>.inr q) id⟩)
 unfold bV
 repeat' split
 all_goals try exact iB c h
 ·unfold jR
  repeat' split
  all_goals first|exact zX c h _ _|exact K (.inr rfl) rfl (.inr rfl)|exact K (.inl rfl) rfl (.inl (by simp))
 ·exact K (.inr rfl) rfl (.inr rfl)
 ·exact K (.inr rfl) rfl (.inr rfl)
theorem good_step (c:Ch) (h:Ha):Good c h (fZ c h):=by
 unfold fZ
 split
 ·rename_i e
  simp [dA] at e
  exact IU (by unfold Ph;omega)
 ·split
  ·rename_i e
   simp [dA] at e
   exact IV (by unfold Ph;omega)
  ·split
   ·rename_i e
    simp [dA] at e
    exact IW e.1 e.2
   ·exact IX c h
end
section
open Go.RowKit
theorem Le:(Tryz.prog.info? 93).map (fun i=>(i.zero,i.size,i.bytes))=some (some (.agg #[.int .i64 0,.int .i64 0,.int .i64 0]),3,24):=by kernel_rfl
theorem Ot (n:Nat) (h:n≤1048576) (W:World):(Instr.makeSlice 28 (.int .i64 n) (.int .i64 n)).run prog W=.ok (.slice (some ⟨W,0,none⟩) n n) (W.alloc (.cells (madeCells #[.int .i64 0,.int .i64 0,.int .i64 0] (n*3)) 93)):=by
 obtain ⟨i,q,r,hs,m⟩:=info_parts Le
 have:=run_make (P:=prog) W 28 93 i _ underlying28 q r .i64 .i64 n n tO tO (by rw [m];omega) tO
 rw [this,hs]
 simp [Value.cells]
end
section
open Go.RowKit
theorem IY (w:World) (lo:Nat) (h:lo≤w.heap.size):aD (w.alloc (.cells (madeCells #[.int .i64 0,.int .i64 0,.int .i64 0] (40*3)) 93)) lo (.slice (some ⟨w,0,none⟩) 40 40) (List.replicate 40 C3.zero):=by
 refine ⟨by rw [jO],.inr ⟨w,40,_,rfl,h,heap_alloc_new w _,Nat.le_refl _,by decide,size_madeCells _ _,?_⟩⟩
 kernel_rfl
theorem zY (cap:Int) (w:World):Calls prog 129 #[.int .i64 cap] w fun r w' =>
  (∃ u y,r=.returned (.agg #[.int .i64 (dK cap).cap,.int .i64 (dK cap).sent,.int .i64 (dK cap).got,.int .i64 (dK cap).fin,u,y])∧aD w' w u (dK cap).cells∧aG w' w y (dK cap).words)∧Below w w w':=by
 by_cases h:dA cap 0 4=true
 ·have e:dK cap=⟨cap,0,0,cap,List.replicate 40 C3.zero,[]⟩:=by simp [dK,h]
  rw [e]
  have m:∀ W:World,(Instr.makeSlice 28 (.int .i64 40) (.int .i64 40)).run prog W=.ok (.slice (some ⟨W,0,none⟩) 40 40) (W.alloc (.cells (madeCells #[.int .i64 0,.int .i64 0,.int .i64 0] (40*3)) 93)):=Ot 40 tO
  have q:Hid (∀ (W:World) (lo n:Nat),n=W.heap.size→lo≤W.heap.size→aD (W.alloc (.cells (madeCells #[.int .i64 0,.int .i64 0,.int .i64 0] (40*3)) 93)) lo (.slice (some ⟨n,0,none⟩) 40 40) (List.replicate 40 C3.zero)):=fun W lo n z h=>z ▸ IY W lo h
  generalize madeCells #[.int .i64 0,.int .i64 0,.int .i64 0] (40*3)=A at m q
  go_enter func129,ntmps129
  go_wp2_with (go_at_call 121;refine (gQ _ _ _ _).mono ?_;rintro _ _ ⟨rfl,rfl⟩)
  refine bodyPost_ret (v:=.agg #[.int .i64 cap,.int .i64 0,.int .i64 0,.int .i64 cap,.slice (some ⟨w+1,0,none⟩) 40 40,.slice none 0 0]) (by simp [results,results129,go_sem, *]) rfl ⟨⟨_,_,rfl,q.out _ _ _ (by simp) (by simp),World.ownsRow_nil _ _ _ _⟩,?_⟩
  exact zB
 ·have e:dK cap=Ch.zero:=by simp [dK,h]
  rw [e]
  go_enter func129,ntmps129
  go_wp2_with (go_at_call 121;refine (gQ _ _ _ _).mono ?_;rintro _ _ ⟨rfl,rfl⟩)
  refine bodyPost_ret (v:=.agg #[.int .i64 0,.int .i64 0,.int .i64 0,.int .i64 0,.slice none 0 0,.slice none 0 0]) (by simp [results,results129,go_sem, *]) rfl ⟨⟨_,_,rfl,World.ownsRow_nil _ _ _ _,World.ownsRow_nil _ _ _ _⟩,?_⟩
  exact zB
end
section
structure fK (x:Wo):Prop where
 ch:aW x.ch=true
 h1:1≤x.hands.length
 h6:x.hands.length≤6
 d:x.deals.length≤1000
 n0:0≤x.now
 n1:x.now≤20000
 hs:∀ h ∈ x.hands,bM h=true∧h.beg≤x.now
 ds:∀ d ∈ x.deals,jw x.hands.length x.now d=true
theorem gP (x:Wo):bC x=true↔fK x:=by
 constructor
 ·intro h
  simp only [bC,ik,dA,Bool.and_eq_true,decide_eq_true_eq,List.all_eq_true,gH] at h
  obtain ⟨⟨a,b,c,d,e,f⟩,g,i⟩:=h
  exact ⟨a,b,c,d,e,f,g,i⟩
 ·intro h
  simp only [bC,ik,dA,Bool.and_eq_true,decide_eq_true_eq,List.all_eq_true,gH]
  exact ⟨⟨h.ch,h.h1,h.h6,h.d,h.n0,h.n1⟩,h.hs,h.ds⟩
theorem vP {h:Ha} (e:bM h=true):0≤h.beg∧h.beg≤20000∧dA h.out 0 999=true:=by
 simp only [bM,uj,Bool.and_eq_true,iP] at e
 obtain ⟨_,_,_,_,_,⟨m,q⟩,_,o⟩:=e
 exact ⟨m,q,by simpa [dA] using o⟩
theorem lQ {c:Ch} (e:aW c=true):c.cells.length=40∧c.words.length≤80:=by
 simp only [aW,fO,Bool.and_eq_true,decide_eq_true_eq] at e
 exact ⟨e.1.2.2.2.2.1,e.1.2.2.2.2.2⟩
theorem EH {n:Nat} {a b:Int} {d:De} (h:jw n a d=true) (y:a≤b):jw n b d=true:=by
 simp only [jw,Bool.and_eq_true,iP] at h ⊢
 obtain ⟨h1,m,q,r,u⟩:=h
 exact ⟨h1,m,⟨q.1,by omega⟩,⟨r.1,by omega⟩,u⟩
theorem Ho {x:Wo} {who:Int} (h:cK x who=true):0≤who∧who.toNat<x.hands.length:=by
 simp [cK,eH,dA] at h
 omega
theorem Cm {x:Wo} {who:Int} (h:cK x who=true):aL x who ∈ x.hands:=by
 have:=(Ho h).2
 unfold aL
 rw [List.getD_eq_getElem?_getD,List.getElem?_eq_getElem this]
 exact List.getElem_mem this
theorem Ou {l:List Ha} {i:Nat} {h y:Ha} (m:y ∈ l.set i h):y ∈ l∨y=h:=List.mem_or_eq_of_mem_set m
theorem Cn {x:Wo} {who:Int} (h:cK x who=true) (y:Ha):(x.hands.set who.toNat y).getD who.toNat Ha.zero=y:=by
 have:=(Ho h).2
 simp [List.getD,this]
theorem r9 {x:Wo} {who:Int} {c:Ch} {h:Ha} {ds:List De} (q:fK x) (u:aW c=true) (A:bM h=true) (r:h.beg≤x.now+1) (E:x.now≠20000) (D:ds.length≤1000) (z:∀ d ∈ ds,jw x.hands (x.now+1) d=true) :
  fK ⟨c,x.hands.set who.toNat h,ds,x.now+1⟩:=by
 have:=q.n0;have:=q.n1
 refine ⟨u,by simpa using q.h1,by simpa using q.h6,D,by simp only;omega,by simp only;omega,?_,by simpa using z⟩
 intro y m
 rcases Ou m with m|rfl
 ·have:=q.hs y m
  exact ⟨this.1,by simp only;omega⟩
 ·exact ⟨A,r⟩
theorem pR {x:Wo} (q:fK x):∀ d ∈ x.deals,jw x.hands (x.now+1) d=true:=fun d m=>EH (q.ds d m) tO
theorem lS {x:Wo} {who:Int} (q:fK x) (r:cK x who=true) (hs:(eT x who).2=true) :
  fK (eT x who).1∧(eT x who).1.hands.length=x.hands.length∧aL (eT x who).1 who=(fZ x.ch (aL x who)).2.1∧(eT x who).1.ch=(fZ x.ch (aL x who)).1∧(fZ x.ch (aL x who)).2.2=true:=by
 have G:=good_step x.ch (aL x who)
 have K:=q.hs _ (Cm r)
 have hp:=vP K.1
 generalize J:fZ x.ch (aL x who)=S at G ⊢
 have e:eT x who=stepW x who S:=by rw [eT,J]
 rw [e] at hs ⊢
 unfold stepW at hs ⊢
 split at hs
 ·cases hs
 ·rename_i z
  rw [if_neg z]
  simp at z
  obtain ⟨A,I⟩:=z
  obtain ⟨F,u,y,_⟩:=G A
  have H:S.2.1.beg≤x.now+1:=by rcases y with y|y <;> omega
  split at hs
  ·rename_i D
   rw [if_pos D]
   exact ⟨r9 q F u H I q.d (pR q),by simp [gY],Cn r _,rfl,A⟩
  ·rename_i D
   rw [if_neg D]
   split at hs
   ·cases hs
   ·rename_i E
    rw [if_neg E]
    simp at E
    refine ⟨r9 q F u H I (by simp;omega) ?_,by simp [gY],Cn r _,rfl,A⟩
    intro d m
    rcases List.mem_append.1 m with m|m
    ·exact pR q d m
    ·simp at m
     subst m
     have L:=vP u
     have:=q.n0
     simp only [jw,Bool.and_eq_true,iP]
     refine ⟨r,E.2,⟨hp.1,by omega⟩,⟨by omega,by omega⟩,by simpa [dA] using L.2.2⟩
theorem vQ {x:Wo} {who:Int} (h:(aL x who).pos=0) (n:Nat):fV n x who=(x,0):=by
 cases n with
 | zero=>rfl
 | succ n=>simp [fV,h]
theorem Co (n:Nat):∀ (x:Wo) (who:Int),fK x→cK x who=true →
  fK (fV n x who).1∧(fV n x who).1.hands.length=x.hands.length∧(fV n x who).1.ch.words.length≤x.ch.words.length+1∧(Ph (aL x who)→(fV n x who).1.ch.words.length=x.ch.words.length):=by
 induction n with
 | zero=>exact fun x who q r=>⟨q,rfl,by simp [fV],fun _=>rfl⟩
 | succ n ih =>
  intro x who q r
  unfold fV
  split
  ·exact ⟨q,rfl,by simp,fun _=>rfl⟩
  ·split
   ·rename_i h1
    obtain ⟨G,A,I,J,K⟩:=lS q r h1
    have y:cK (eT x who).1 who=true:=by unfold cK at r ⊢;rw [A];exact r
    obtain ⟨E,F,L,z⟩:=ih _ who G y
    obtain ⟨_,_,_,g⟩:=good_step x.ch (aL x who) K
    rw [← J,← I] at g
    refine ⟨E,F.trans A,?_,fun H=>?_⟩
    ·rcases g with ⟨u,_⟩|⟨u,_,D⟩
     ·simp only;omega
     ·have:=z D
      simp only;omega
    ·rcases g with ⟨u,m⟩|⟨_,m,_⟩
     ·rcases m H with m|m
      ·have:=z m
       simp only;omega
      ·simp only
       rw [vQ m]
       exact u
     ·exact absurd H m
   ·exact ⟨q,rfl,by simp,fun _=>rfl⟩
theorem zZ {h:Ha} {k e b:Int} (u:bM h=true) (m:(called h k e).2=0):bM { (called h k e).1 with beg:=b }=true↔(0≤b∧b≤20000):=by
 unfold called at m ⊢
 rw [if_pos u] at m ⊢
 split at m
 ·rename_i hp
  rw [if_pos hp]
  split at m
  ·rename_i q
   rw [if_pos q]
   have r:k=1∨k=2:=by simp [eB] at q;omega
   rcases r with rfl|rfl <;> simp [begun,bM,oV,qy,uj,q,dA] <;> omega
  ·simp at m
 ·simp at m
theorem Cq {x:Wo} {who k e:Int} (m:fK x) (u:cK x who=true):fK (asked x who k e).1∧(asked x who k e).1.hands.length=x.hands.length∧(asked x who k e).1.ch=x.ch:=by
 have y:=m.hs _ (Cm u)
 have:=m.n0;have:=m.n1
 unfold asked
 rw [if_pos (by simp [(gP x).2 m,u])]
 split
 ·exact ⟨m,rfl,rfl⟩
 ·rename_i q
  simp at q
  split
  ·exact ⟨m,rfl,rfl⟩
  ·rename_i r
   simp at r
   exact ⟨r9 m m.ch ((zZ y.1 q).2 ⟨by omega,by omega⟩) (by simp) r m.d (pR m),by simp [gY],rfl⟩
theorem Ov {c:Ch} (v:Int) (h:aW c=true):aW (dM c v 2)=true:=by
 unfold dM
 split
 ·simp only [aW,fO,Bool.and_eq_true,List.all_eq_true,List.length_set] at h ⊢
  refine ⟨h.1,h.2.1,fun y m=>?_⟩
  rcases List.mem_or_eq_of_mem_set m with m|rfl
  ·exact h.2.2 y m
  ·rfl
 ·exact h
theorem nJ {x:Wo} {who:Int} (m:fK x) (q:cK x who=true):fK (stopped x who).1∧(stopped x who).1.hands.length=x.hands.length∧(stopped x who).1.ch.words.length=x.ch.words.length:=by
 unfold stopped
 rw [if_pos (by simp [(gP x).2 m,q])]
 split
 ·exact ⟨m,rfl,rfl⟩
 ·exact ⟨⟨Ov _ m.ch,m.h1,m.h6,m.d,m.n0,m.n1,m.hs,m.ds⟩,rfl,rX _ _ _⟩
theorem yU {cap tasks:Int} (u:0≤cap) (h1:cap≤4) (y:1≤tasks) (z:tasks≤6):(fQ cap tasks).2=true∧fK (fQ cap tasks).1∧(fQ cap tasks).1.hands.length=tasks.toNat∧(fQ cap tasks).1.ch.words.length=0:=by
 have q:dA cap 0 4=true:=lu u h1
 have e:fQ cap tasks=(⟨dK cap,List.replicate tasks.toNat (aV 0 0),[],0⟩,true):=by simp [fQ,q,lu y z]
 have r:dK cap=⟨cap,0,0,cap,List.replicate 40 C3.zero,[]⟩:=by simp [dK,q]
 rw [e,r]
 refine ⟨rfl,⟨?_,by simp;omega,by simp;omega,by simp,by simp,by simp,?_,by simp⟩,by simp,rfl⟩
 ·simp [aW,fO,dA,fI,P7,ku,C3.zero]
  omega
 ·intro h m
  obtain ⟨_,rfl⟩:=List.mem_replicate.1 m
  exact ⟨by decide,Int.le_refl 0⟩
end
end Go.Proofs.YtffhjmepfojhnaaGreat
