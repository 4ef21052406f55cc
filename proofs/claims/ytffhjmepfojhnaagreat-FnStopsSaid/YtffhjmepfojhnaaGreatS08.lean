/-
  The reference model's looks at a world; lists lie in memory and hold at most 2 ^ 40 elements.
-/
import Derived.Test.YtffhjmepfojhnaaGreatS05
import Derived.Test.YtffhjmepfojhnaaGreatS02
import Derived.Test.YtffhjmepfojhnaaGreatS01
import Derived.Test.YtffhjmepfojhnaaGreatS03
set_option maxRecDepth 100000
set_option maxHeartbeats 4000000
set_option linter.unusedSimpArgs false
set_option linter.unusedVariables false
namespace Go.Proofs.YtffhjmepfojhnaaGreat
open _root_.Go.Proofs.Tryz
section
open Go.RowKit
theorem oI (n:Int) (w:World):Calls prog 81 #[.int .i64 n] w fun r w'=>r=.returned (.bool (dA n 0 20000))∧w=w':=by
  go_enter func81,ntmps81
  go_wp2_with (go_at_call 121;refine (gQ _ _ _ _).mono ?_;rintro _ _ ⟨rfl,rfl⟩)
  go_ret
  exact ⟨rfl,rfl⟩
theorem jG (c:Ch) (n:Nat) (now who:Int) (D E F:Option Addr) (m q u:Nat) (G:Option Addr) (y A n1 z:Nat) (H:n≤1099511627776) (w:World) :
    Calls prog 70 #[.agg #[c.cap,c.sent,c.got,c.fin,.slice D n1 m,.slice E z q,.slice F n u,.slice G A y,.int .i64 now],.int .i64 who] w fun r w'=>r=.returned (.bool (eH n who))∧Below w w w':=by
  go_enter func70,ntmps70
  go_wp2_with (go_at_call 121;refine (gQ _ _ _ _).mono ?_;rintro _ _ ⟨rfl,rfl⟩)
  go_ret
  exact ⟨dB rfl,by exact zB⟩
theorem CG {x:Wo} {k:Nat} {h:Ha} (m:k<x.hands.length) (q:x.hands.getD k Ha.zero=h) (e:gH x.now h=false):false=bC x:=by
  have:x.hands.all (gH x.now)=false:=by
    rw [List.all_eq_false]
    refine ⟨x.hands[k],List.getElem_mem m,?_⟩
    rw [← q] at e
    simpa [List.getD,List.getElem?_eq_getElem m] using e
  simp [bC,this]
theorem Lu {x:Wo} {k:Nat} {d:De} (m:k<x.deals.length) (q:x.deals.getD k De.zero=d) (e:jw x.hands x.now d=false):false=bC x:=by
  have:x.deals.all (jw x.hands x.now)=false:=by
    rw [List.all_eq_false]
    refine ⟨x.deals[k],List.getElem_mem m,?_⟩
    rw [← q] at e
    simpa [List.getD,List.getElem?_eq_getElem m] using e
  simp [bC,this]
theorem iM {α:Type} (l:List α) (k:Nat) (z:α) (m:k<l.length):l.take (k+1)=l.take k ++ [l.getD k z]:=by
  rw [List.take_succ_eq_append_getElem m];simp [List.getD,List.getElem?_eq_getElem m]
theorem EX {x:Wo} {k:Nat} {h:Ha} (r:k<x.hands.length) (q:x.hands.getD k Ha.zero=h) (e:(x.hands.take k).all (gH x.now)=true) (m:gH x.now h=true):(x.hands.take (k+1)).all (gH x.now)=true:=by
  rw [iM _ k Ha.zero r,q,List.all_append,e];simp [m]
theorem EY {x:Wo} {k:Nat} {d:De} (r:k<x.deals.length) (q:x.deals.getD k De.zero=d) (e:(x.deals.take k).all (jw x.hands x.now)=true) (m:jw x.hands x.now d=true):(x.deals.take (k+1)).all (jw x.hands x.now)=true:=by
  rw [iM _ k De.zero r,q,List.all_append,e];simp [m]
theorem Jc {x:Wo} (h:ik x=true) (h1:(x.hands.take x.hands).all (gH x.now)=true) (m:(x.deals.take x.deals).all (jw x.hands x.now)=true):true=bC x:=by
  rw [List.take_length] at h1 m
  simp only [bC,h,h1,m];rfl
theorem zl {x:Wo} (h:ik x=true):aW x.ch=true∧1≤x.hands.length∧x.hands.length≤6∧x.deals.length≤1000∧dA x.now 0 20000=true:=by
  simpa [ik] using h
theorem CJ (x:Wo) (a b d e:Option Addr) (p q r s:Nat) (w:World) (h1:fA w w a x.ch.cells) (z:fD w w b x.ch.words) (J:x.hands.length≤1099511627776) (K:x.deals.length≤1099511627776) (h:ik x=false) :
    Calls prog 69 #[kZ x a b d e p q r s] w fun r w'=>r=.returned (.bool (bC x))∧Below w w w':=by
  have D:bC x=false:=by simp [bC,h]
  rw [D]
  have F:=aA h1
  have G:=aA z
  have H:=aA h
  clear h1 z h D
  go_enter func69,ntmps69
  go_wp2_with (first|(go_at_call 112;refine aK w zB fun y=>?_;refine (mg x.ch a b p q _ (aT F y) (aT G y)).mono ?_;rintro _ L ⟨rfl,m⟩;have E:=bT y m;have u:=m.size;(try simp at u);have A:=oZ m (b:=w);(try simp [go_sem] at A);replace I:=A;clear A m y)|(go_at_call 81;refine (oI _ _).mono ?_;rintro _ _ ⟨rfl,rfl⟩))
  all_goals first|(go_ret;exact ⟨rfl,by exact zB⟩)|skip
  exfalso
  have h:=H.out
  simp [ik, *] at h
  have z:=h tO tO tO
  simp_all
attribute [local go_sem ↓] aQ aY aZ aX aN
theorem Ae (c:Ch) (hs:List Ha) (ds:List De) (now:Int) (a b d e:Option Addr) (p q r s:Nat) (w:World) (h1:fA w w a c.cells) (h2:fD w w b c.words) (h3:pF w w d hs) (h4:pG w w e ds) (h:ik ⟨c,hs,ds,now⟩=true) :
    Calls prog 69 #[.agg #[c.cap,c.sent,c.got,c.fin,.slice a c.cells p,.slice b c.words q,.slice d hs.length r,.slice e ds.length s,.int .i64 now]] w fun r w'=>r=.returned (.bool (bC ⟨c,hs,ds,now⟩))∧Below w w w':=by
  obtain ⟨i1,i2,i3,i4,i5⟩:=zl h
  simp only at i1 i2 i3 i4 i5
  have g1:decide ((hs.length:Int)<1)=false:=by simp;omega
  have g2:decide (6<(hs.length:Int))=false:=by simp;omega
  have g3:decide (1000<(ds.length:Int))=false:=by simp;omega
  have H1:=aA h1
  have H2:=aA h2
  have H4:=aA h4
  have HH:=aA h
  have I2:=aA i2
  obtain ⟨y,Z,rfl,a1,ab⟩:∃ b o,d=some ⟨b,o,none⟩∧b<w.heap.size∧Hid (∀ i j,i<hs.length→j<14→w.cell? ⟨b,o+i*14+j,none⟩=some (dY hs i j)):=by
    rcases h3 with h0|h0
    · exact absurd h0 tO
    · exact h0
  clear h1 h2 h3 h4 h i2
  go_enter func69,ntmps69
  go_wp2_with (first|((go_at_call 112;refine aK w zB fun X=>?_;refine (mg c a b p q _ (aT H1 X) (aT H2 X)).mono ?_;rintro _ w1 ⟨rfl,F⟩;have a5:Below w w w1:=bT X F;have a4:=F.size;(try simp at a4);have R:=And.intro (fun o=>F.cell (p:=⟨w,o,none⟩) tS) <| fun o=>F.frozen (p:=⟨w,o,none⟩) tS;(try simp [go_sem] at R);(try clear m E);obtain ⟨m,E⟩:=R;(try clear u);have u:w<w1.heap.size:=tO;clear F X);rw [i1])|((go_at_call 81;refine (oI _ _).mono ?_;rintro _ _ ⟨rfl,rfl⟩);rw [i5]))
  go_loopw [3] (fun i wr=>∃ k:Nat,k≤hs.length∧i=.int .i64 k∧Hid ((hs.take k).all (gH now)=true)∧(∀ o,wr.cell? ⟨w,o,none⟩=#[Value.int .i64 c.cap,.int .i64 c.sent,.int .i64 c.got,.int .i64 c.fin,.slice a c.cells p,.slice b c.words q,.slice (some ⟨y,Z,none⟩) hs.length r,.slice e ds.length s,.int .i64 now][o]?)∧w<wr.heap.size∧Below w w wr) (fun i _=>hs.length - (intOf i).toNat)
  case atStart=>exact ⟨0,Nat.zero_le _,rfl,rfl,fun o=>by simp [m],by omega,by exact zB⟩
  case round =>
    clear m E u a5 a4
    obtain ⟨k,hk,rfl,a2,G,L,hB⟩:=hrel
    by_cases H:k<hs.length
    · have I:=fun j hj=>ab.out k j H hj
      have a0:=(hB.cell (p:=⟨y,Z+k*14+11,none⟩) a1).trans (I 11 tO)
      simp only [dY] at I a0
      generalize T:hs.getD k Ha.zero=Y at I a0
      have HC:=aA T
      clear T
      have ah:∀ W:World,hp W y=hp w y→(jU (.pointer (some ⟨y,Z+k*14,none⟩))).run prog W=.ok (.agg (aB Y)) W:=fun W e=>jh Y fun j hj=>by rw [← I j hj];exact World.cell?_of_block e
      clear I
      have a9:wr.cell? ⟨y,Z+k*14+11,none⟩=some (.int .i64 Y.beg):=a0
      clear a0
      have z3:hp wr y=hp w y:=hB.block y a1
      have x6:=G 6
      have x8:=G 8
      simp at x6 x8
      have al:(0:Int)≤(k:Int):=by omega
      have am:(k:Int)<(hs.length:Int):=by omega
      by_cases V:bM Y=true
      · go_wp2_with fail
        go_region_held3 (fun w'=>w'.cell? ⟨w,6,none⟩=some (.slice (some ⟨y,Z,none⟩) hs.length r)∧w'.cell? ⟨w,8,none⟩=some (.int .i64 now)∧hp w' y=hp w y∧w'.cell? ⟨y,Z+k*14+11,none⟩=some (.int .i64 Y.beg))
          (first|(simp [*,go_sem]))
          (first|(go_at_call 119;refine (iR Y _).mono ?_;rintro _ w7 ⟨rfl,z⟩;have O:Below w w w7:=bT zB z;have:=z.cell (p:=⟨w,6,none⟩) (by simp;omega);have:=z.cell (p:=⟨w,8,none⟩) (by simp;omega);have:=z.cell (p:=⟨y,Z+k*14+11,none⟩) (by simp;omega);have z7:hp w7 y=hp w y:=O.block y a1;have ae:=fun o=>(z.cell (p:=⟨w,o,none⟩) (by simp;omega)).trans (G o);have ad:=z.size;simp at ad;rw [V]))
        by_cases ak:now<Y.beg
        · go_wp2
          go_ret
          exact ⟨dB (CG (x:=⟨c,hs,ds,now⟩) H HC.out (by simp [gH,V];omega)),O⟩
        · go_wp2
          go_roundw
          case rel=>exact ⟨k+1,by omega,by go_num,EX (x:=⟨c,hs,ds,now⟩) H HC.out a2.out (by simp [gH,V];omega),ae,by omega,O⟩
          case measure=>simp [intOf];omega
      · have a3:bM Y=false:=by simpa using V
        clear V
        go_wp2_with fail
        refine wp_region_held_drew (S:=fun w'=>w'.cell? ⟨w,6,none⟩=some (.slice (some ⟨y,Z,none⟩) hs.length r)∧w'.cell? ⟨w,8,none⟩=some (.int .i64 now)∧hp w' y=hp w y∧w'.cell? ⟨y,Z+k*14+11,none⟩=some (.int .i64 Y.beg)) (by kernel_rfl) (by simp [*,go_sem]) (fun ai=>?_)
        refine mT (i:=0) (oi:=⟨some 41,_,_,_,_,_⟩) rfl ?_;(try simp only [bW])
        refine mT (i:=1) (oi:=⟨some 42,_,_,_,_,_⟩) rfl ?_;(try simp only [bW])
        refine mT (i:=2) (oi:=⟨some 43,_,_,_,_,_⟩) rfl ?_;(try simp only [bW])
        refine mT (i:=3) (oi:=⟨some 44,_,_,_,_,_⟩) rfl ?_;(try simp only [bW])
        refine mT (i:=4) (oi:=⟨some 45,_,_,_,_,_⟩) rfl ?_;(try simp only [bW])
        refine wpAnyH_ready (rs:=[5]) (by kernel_rfl) (by simp) ?_
        refine AllReadyH.cons (o:=⟨some 46,_,_,_,_,_⟩) rfl (fun K hK=>?_) AllReadyH.nil
        go_simp
        go_at_call 119
        refine (iR Y _).mono ?_
        rintro _ w7 ⟨rfl,z⟩
        have O:Below w w w7:=bT zB z
        rw [a3]
        refine hK.out _ _ ?_ (fun aj=>?_)
        · refine ⟨(z.cell (by simp;omega)).trans x6,(z.cell (by simp;omega)).trans x8,O.block y a1,(z.cell (by simp;omega)).trans a9⟩
        clear hK
        (try simp only [bW])
        refine mT (i:=6) (oi:=⟨some 47,_,_,_,_,_⟩) rfl ?_;(try simp only [bW])
        refine mT (i:=7) (oi:=⟨some 48,_,_,_,_,_⟩) rfl ?_;(try simp only [bW])
        refine mS (i:=8) (oi:=⟨some 49,_,_,_,_,_⟩) rfl ?_;(try simp only [bW])
        refine mS (i:=9) (oi:=⟨some 50,_,_,_,_,_⟩) rfl ?_;(try simp only [bW])
        refine mS (i:=10) (oi:=⟨some 51,_,_,_,_,_⟩) rfl ?_;(try simp only [bW])
        refine mS (i:=11) (oi:=⟨some 52,_,_,_,_,_⟩) rfl ?_;(try simp only [bW])
        refine mS (i:=12) (oi:=⟨some 53,_,_,_,_,_⟩) rfl ?_;(try simp only [bW])
        refine mS (i:=13) (oi:=⟨some 54,_,_,_,_,_⟩) rfl ?_;(try simp only [bW])
        refine mS (i:=14) (oi:=⟨some 55,_,_,_,_,_⟩) rfl ?_;(try simp only [bW])
        refine mS (i:=15) (oi:=⟨some 56,_,_,_,_,_⟩) rfl ?_;(try simp only [bW])
        refine mS (i:=16) (oi:=⟨some 57,_,_,_,_,_⟩) rfl ?_;(try simp only [bW])
        refine mT (i:=17) (oi:=⟨some 58,_,_,_,_,_⟩) rfl ?_;(try simp only [bW])
        refine wpAnyH_done (by kernel_rfl) ?_ _
        go_wp2
        go_ret
        exact ⟨dB (CG (x:=⟨c,hs,ds,now⟩) H HC.out (by simp [gH,a3])),O⟩
    · have:k=hs.length:=by omega
      subst this
      go_wp2
      go_loopw [4] (fun i wr=>∃ k:Nat,k≤ds.length∧i=.int .i64 k∧Hid ((ds.take k).all (jw hs.length now)=true)∧(∀ o,wr.cell? ⟨w,o,none⟩=#[Value.int .i64 c.cap,.int .i64 c.sent,.int .i64 c.got,.int .i64 c.fin,.slice a c.cells p,.slice b c.words q,.slice (some ⟨y,Z,none⟩) hs.length r,.slice e ds.length s,.int .i64 now][o]?)∧w<wr.heap.size∧Below w w wr) (fun i _=>ds.length - (intOf i).toNat)
      case atStart=>exact ⟨0,Nat.zero_le _,rfl,rfl,G,L,hB⟩
      case round =>
        clear G L hB hk
        obtain ⟨k,hk,rfl,U,G,L,hB⟩:=hrel
        have x7:=G 7
        simp at x7
        by_cases H:k<ds.length
        · obtain h0|⟨b4,o4,rfl,aa,a6⟩:=H4.out
          · omega
          have I:=fun j hj=>(hB.cell (p:=⟨b4,o4+k*7+j,none⟩) aa).trans (a6 k j H hj)
          have c0:=I 0 tO
          have c1:=I 1 tO
          have c2:=I 2 tO
          have c3:=I 3 tO
          have c4:=I 4 tO
          have c5:=I 5 tO
          have c6:=I 6 tO
          clear I a6
          simp only [p8] at c0 c1 c2 c3 c4 c5 c6
          generalize T:ds.getD k De.zero=dd at c0 c1 c2 c3 c4 c5 c6
          simp [gM,Array.getD] at c0 c1 c2 c3 c4 c5 c6
          have HC:=aA T
          clear T
          have m:=G
          have u:=L
          have ac:hs.length≤1099511627776:=by omega
          go_wp2_with (first|((go_at_call 70;refine aK w zB fun X=>?_;refine (jG c hs.length now _ _ _ _ _ _ _ _ _ _ _ _ ac _).mono ?_;rintro _ w5 ⟨rfl,A⟩;have af:Below w w w5:=bT X A;have a7:=A.size;(try simp at a7);have R:=And.intro (fun o=>A.cell (p:=⟨wr,o,none⟩) tS) <| And.intro (fun o=>A.frozen (p:=⟨wr,o,none⟩) tS) <| And.intro (fun o=>A.cell (p:=⟨w,o,none⟩) tS) <| fun o=>A.frozen (p:=⟨w,o,none⟩) tS;(first|simp [go_sem,m,E,u] at R|simp [go_sem,m,u] at R|simp [go_sem] at R|skip);(try clear N J);(try clear m E);obtain ⟨N,J,m,E⟩:=R;(try clear M);have M:wr<w5.heap.size:=tO;(try clear u);have u:w<w5.heap.size:=tO;clear A X))|((go_at_call 120;refine aK w zB fun X=>?_;refine (oz _ _ _ _).mono ?_;rintro _ w6 ⟨rfl,D⟩;have ag:Below w w w6:=bT X D;have a8:=D.size;(try simp at a8);have R:=And.intro (fun o=>D.cell (p:=⟨wr,o,none⟩) tS) <| And.intro (fun o=>D.frozen (p:=⟨wr,o,none⟩) tS) <| And.intro (fun o=>D.cell (p:=⟨w,o,none⟩) tS) <| fun o=>D.frozen (p:=⟨w,o,none⟩) tS;(first|simp [go_sem,N,J,m,E,u,M] at R|simp [go_sem,m,E,u] at R|simp [go_sem,m,u] at R|simp [go_sem] at R|skip);(try clear N J);(try clear m E);obtain ⟨N,J,m,E⟩:=R;(try clear M);have M:wr<w6.heap.size:=tO;(try clear u);have u:w<w6.heap.size:=tO;clear D X))|(go_at_call 121;refine (gQ _ _ _ _).mono ?_;rintro _ _ ⟨rfl,rfl⟩)|(go_at_call 122;refine (mQ _ _).mono ?_;rintro _ _ ⟨rfl,rfl⟩))
          all_goals first
            | (go_ret;exact ⟨dB (Lu (x:=⟨c,hs,ds,now⟩) H HC.out (by first|(simp [jw, *];done)|(have h9:=not_true ‹(!dA dd.out 0 999)=true›;simp [jw, *];done))),by exact zB⟩)
            | (go_roundw
               case rel=>exact ⟨k+1,by omega,by go_num,EY (x:=⟨c,hs,ds,now⟩) H HC.out U.out (by have h9:=not_false ‹(!dA dd.out 0 999)=false›;simp [jw, *]),fun o=>by simp [m],by omega,by exact zB⟩
               case measure=>simp [intOf];omega)
        · have:k=ds.length:=by omega
          subst this
          go_wp2
          go_ret
          exact ⟨dB (Jc HH.out a2.out U.out),hB⟩
theorem fG (x:Wo) (a b d e:Option Addr) (p q r s:Nat) (w:World) (h1:fA w w a x.ch.cells) (m:fD w w b x.ch.words) (u:pF w w d x.hands) (y:pG w w e x.deals) (z:x.hands.length≤1099511627776) (A:x.deals.length≤1099511627776) :
    Calls prog 69 #[kZ x a b d e p q r s] w fun r w'=>r=.returned (.bool (bC x))∧Below w w w':=by
  cases h:ik x with
  | false=>exact CJ x a b d e p q r s w h1 m z A h
  | true=>exact Ae x.ch x.hands x.deals x.now a b d e p q r s w h1 m u y h
end
section
def gc (h:Ha):Option Nat:=if h.code=2∧17≤h.pos∧h.pos≤22 then some h.grow.toNat else none
end
section
def iy (hs:List Ha) (i:Nat):Ha:=hs.getD i Ha.zero
theorem zm {hs:List Ha} {i:Nat} (m:Ha) (q:i<hs.length) (j:Nat):iy (hs.set i m) j=if i=j then m else iy hs j:=by
 unfold iy
 rw [List.getD_eq_getElem?_getD,List.getElem?_set,List.getD_eq_getElem?_getD]
 by_cases e:i=j
 ·subst e;simp [q]
 ·simp [e]
end
section
open Go.RowKit
attribute [local simp] aP
attribute [local go_sem ↓] aQ bF aY bY aZ bZ aX bB aN aU
theorem Jd {hs:List Ha} {k:Nat} (m:k<hs.length) (h:(hs.take k).all (fun h=>h.pos == 0)=true) (e:(hs.getD k Ha.zero).pos=0):(hs.take (k+1)).all (fun h=>h.pos == 0)=true:=by
 rw [iM hs k Ha.zero m,List.all_append,h]
 simp only [List.all_cons,List.all_nil,e]
 rfl
theorem Lv {hs:List Ha} {k:Nat} (m:k<hs.length) (e:(hs.getD k Ha.zero).pos≠0):hs.all (fun h=>h.pos == 0)=false:=by
 rw [Bool.eq_false_iff]
 intro h
 have:=List.all_eq_true.1 h (hs.getD k Ha.zero) (by simp [List.getD,m])
 simp at this
 exact e this
theorem CK (c:Ch) (hs:List Ha) (ds:List De) (now:Int) (a b d e:Option Addr) (p q r s:Nat) (w:World) (H:pF w w d hs) (U:hs.length≤1099511627776) :
  Calls prog 82 #[.agg #[c.cap,c.sent,c.got,c.fin,.slice a c.cells p,.slice b c.words q,.slice d hs.length r,.slice e ds.length s,.int .i64 now]] w fun O w'=>O=.returned (.bool (hs.all fun h=>h.pos == 0))∧Below w w w':=by
 have K:=aA H
 clear H
 go_enter func82,ntmps82
 go_wp2
 go_loopw [3] (fun i wr=>∃ k:Nat,k≤hs.length∧i=.int .i64 k∧Hid ((hs.take k).all (fun h=>h.pos == 0)=true)∧wr.cell? ⟨w,6,none⟩=some (.slice d hs.length r)∧w<wr.heap.size∧Below w w wr) (fun i _=>hs.length - (intOf i).toNat)
 case atStart=>exact ⟨0,Nat.zero_le _,rfl,rfl,by simp,by simp,by exact zB⟩
 case round =>
  obtain ⟨k,T,rfl,m,R,I,A⟩:=hrel
  by_cases u:k<hs.length
  ·obtain ⟨F,J,rfl,D,y⟩:∃ b o,d=some ⟨b,o,none⟩∧b<w.heap.size∧(∀ i j,i<hs.length→j<14→w.cell? ⟨b,o+i*14+j,none⟩=some (dY hs i j)):=by
    rcases K.out with G|G
    ·omega
    ·exact G
   have c0:wr.cell? ⟨F,J+k*14,none⟩=some (.int .i64 (hs.getD k Ha.zero).pos):=(A.cell (p:=⟨F,J+k*14,none⟩) D).trans ((y k 0 u tO).trans (by simp [dY,aB,Array.getD]))
   clear y
   generalize z:hs.getD k Ha.zero=N at c0
   have E:=aA z
   clear z
   have L:(0:Int)≤(k:Int):=by omega
   have M:(k:Int)<(hs.length:Int):=by omega
   by_cases hp:N.pos=0
   ·go_wp2
    go_roundw
    case rel=>exact ⟨k+1,by omega,by go_num,Jd u m.out (by rw [E.out];exact hp),R,by omega,A⟩
    case measure=>simp [intOf];omega
   ·go_wp2
    go_ret
    exact ⟨dB (Lv u (by rw [E.out];exact hp)).symm,A⟩
  ·have:k=hs.length:=by omega
   subst this
   go_wp2
   go_ret
   exact ⟨dB (by have:=m.out;rw [List.take_length] at this;exact this.symm),A⟩
end
end Go.Proofs.YtffhjmepfojhnaaGreat
