/-
  The reference model's looks at a world; lists lie in memory and hold at most 2 ^ 40 elements.
-/
import Derived.Test.YtffhjmepfojhnaaGreatT05
import Derived.Test.YtffhjmepfojhnaaGreatT02
import Derived.Test.YtffhjmepfojhnaaGreatT04
set_option maxRecDepth 100000
set_option maxHeartbeats 4000000
set_option linter.unusedSimpArgs false
set_option linter.unusedVariables false
namespace Go.Proofs.YtffhjmepfojhnaaGreat
open _root_.Go.Proofs.Tryz
section
open Go.RowKit
theorem rP (n:Int) (w:World):Calls prog 81 #[.int .i64 n] w fun r w'=>r=.returned (.bool (dV n 0 20000))∧w=w':=by
  go_enter func81,ntmps81
  exact KD
theorem iq (c:Ch) (n:Nat) (now who:Int) (v1 v2 v3:Option Addr) (F G H:Nat) (v4:Option Addr) (I K n1 J:Nat) (L:n≤1099511627776) (w:World) :
    Calls prog 70 #[.agg #[c.cap,c.sent,c.got,c.fin,.slice v1 n1 F,.slice v2 J G,.slice v3 n H,.slice v4 K I,.int .i64 now],.int .i64 who] w fun r w'=>r=.returned (.bool (gP n who))∧Below w w w':=by
  go_enter func70,ntmps70
  go_wp2_with (go_at_call 121;refine (iP _ _ _ _).mono ?_;rintro _ _ ⟨rfl,rfl⟩)
  go_ret;exact ⟨bQ rfl,zB⟩
theorem Gf {x:Wo} {k:Nat} {h:Ha} (F:k<x.hands.length) (hc:x.hands.getD k Ha.zero=h) (e:gH x.now h=false):false=dB x:=by
  have:x.hands.all (gH x.now)=false:=by
    rw [List.all_eq_false];refine ⟨x.hands[k],List.getElem_mem F,?_⟩;rw [← hc] at e;simpa [List.getD,List.getElem?_eq_getElem F] using e
  simp [dB,this]
theorem P6 {x:Wo} {k:Nat} {d:De} (F:k<x.deals.length) (hc:x.deals.getD k De.zero=d) (e:jQ x.hands x.now d=false):false=dB x:=by
  have:x.deals.all (jQ x.hands x.now)=false:=by
    rw [List.all_eq_false];refine ⟨x.deals[k],List.getElem_mem F,?_⟩;rw [← hc] at e;simpa [List.getD,List.getElem?_eq_getElem F] using e
  simp [dB,this]
theorem lu {α:Type} (l:List α) (k:Nat) (z:α) (F:k<l.length):l.take (k+1)=l.take k ++ [l.getD k z]:=by
  rw [List.take_succ_eq_append_getElem F];simp [List.getD,List.getElem?_eq_getElem F]
theorem Je {x:Wo} {k:Nat} {h:Ha} (G:k<x.hands.length) (hc:x.hands.getD k Ha.zero=h) (e:(x.hands.take k).all (gH x.now)=true) (F:gH x.now h=true):(x.hands.take (k+1)).all (gH x.now)=true:=by
  rw [lu _ k Ha.zero G,hc,List.all_append,e];simp [F]
theorem Jf {x:Wo} {k:Nat} {d:De} (G:k<x.deals.length) (hc:x.deals.getD k De.zero=d) (e:(x.deals.take k).all (jQ x.hands x.now)=true) (F:jQ x.hands x.now d=true):(x.deals.take (k+1)).all (jQ x.hands x.now)=true:=by
  rw [lu _ k De.zero G,hc,List.all_append,e];simp [F]
theorem Mq {x:Wo} (h:jH x=true) (h1:(x.hands.take x.hands).all (gH x.now)=true) (h2:(x.deals.take x.deals).all (jQ x.hands x.now)=true):true=dB x:=by
  rw [List.take_length] at h1 h2;simp only [dB,h,h1,h2];rfl
theorem Mr {x:Wo} (h:jH x=true):aN x.ch=true∧1≤x.hands.length∧x.hands.length≤6∧x.deals.length≤1000∧dV x.now 0 20000=true:=by
  simpa [jH] using h
theorem Gg (x:Wo) (a b d e:Option Addr) (p q r s:Nat) (w:World) (h1:gG w w a x.ch.cells) (h2:gI w w b x.ch.words) (R:x.hands.length≤1099511627776) (T:x.deals.length≤1099511627776) (h:jH x=false) :
    Calls prog 69 #[oI x a b d e p q r s] w fun r w'=>r=.returned (.bool (dB x))∧Below w w w':=by
  have K:dB x=false:=by simp [dB,h]
  rw [K];have M:=aA h1;have N:=aA h2;have H:=aA h;clear h1 h2 h K;go_enter func69,ntmps69;go_wp2_with (first|(go_at_call 112;refine aK w zB fun I=>?_;refine (nW x.ch a b p q _ (aT M I) (aT N I)).mono ?_;rintro _ U ⟨rfl,F⟩;have L:=bT I F;have G:=F.size;(try simp at G);have J:=sJ F (b:=w);(try simp [go_sem] at J);replace O:=J;clear J F I)|(go_at_call 81;refine (rP _ _).mono ?_;rintro _ _ ⟨rfl,rfl⟩))
  all_goals first|(go_ret;exact ⟨rfl,zB⟩)|skip
  exfalso;have h:=H.out;simp [jH, *] at h;have h2:=h tO tO tO
  simp_all
attribute [local go_sem ↓] dA dO dP dW bK
theorem DR (c:Ch) (hs:List Ha) (ds:List De) (now:Int) (a b d e:Option Addr) (p q r s:Nat) (w:World) (h1:gG w w a c.cells) (h2:gI w w b c.words) (h3:qX w w d hs) (h4:uh w w e ds) (h:jH ⟨c,hs,ds,now⟩=true) :
    Calls prog 69 #[.agg #[c.cap,c.sent,c.got,c.fin,.slice a c.cells p,.slice b c.words q,.slice d hs.length r,.slice e ds.length s,.int .i64 now]] w fun r w'=>r=.returned (.bool (dB ⟨c,hs,ds,now⟩))∧Below w w w':=by
  obtain ⟨i1,i2,i3,i4,i5⟩:=Mr h;simp only at i1 i2 i3 i4 i5;have g1:decide ((hs.length:Int)<1)=false:=by simp;omega
  have g2:decide (6<(hs.length:Int))=false:=by simp;omega
  have g3:decide (1000<(ds.length:Int))=false:=by simp;omega
  have H1:=aA h1;have H2:=aA h2;have H4:=aA h4;have HH:=aA h;have I2:=aA i2;obtain ⟨H,o3,rfl,a3,ad⟩:∃ b o,d=some ⟨b,o,none⟩∧b<w.heap.size∧Hid (∀ i j,i<hs.length→j<14→w.cell? ⟨b,o+i*14+j,none⟩=some (fO hs i j)):=by
    rcases h3 with h0|h0
    · exact absurd h0 tO
    · exact h0
  clear h1 h2 h3 h4 h i2;go_enter func69,ntmps69;go_wp2_with (first|((go_at_call 112;refine aK w zB fun bb=>?_;refine (nW c a b p q _ (aT H1 bb) (aT H2 bb)).mono ?_;rintro _ w1 ⟨rfl,N⟩;have a7:Below w w w1:=bT bb N;have a6:=N.size;(try simp at a6);have zz:=And.intro (fun o=>N.cell (p:=⟨w,o,none⟩) tS) <| fun o=>N.frozen (p:=⟨w,o,none⟩) tS;(try simp [go_sem] at zz);(try clear F M);obtain ⟨F,M⟩:=zz;(try clear G);have G:w<w1.heap.size:=tO;clear N bb);rw [i1])|((go_at_call 81;refine (rP _ _).mono ?_;rintro _ _ ⟨rfl,rfl⟩);rw [i5]))
  go_loopw [3] (fun i wr=>∃ k:Nat,k≤hs.length∧i=.int .i64 k∧Hid ((hs.take k).all (gH now)=true)∧(∀ o,wr.cell? ⟨w,o,none⟩=#[Value.int .i64 c.cap,.int .i64 c.sent,.int .i64 c.got,.int .i64 c.fin,.slice a c.cells p,.slice b c.words q,.slice (some ⟨H,o3,none⟩) hs.length r,.slice e ds.length s,.int .i64 now][o]?)∧w<wr.heap.size∧Below w w wr) (fun i _=>hs.length - (intOf i).toNat)
  case atStart=>exact ⟨0,Nat.zero_le _,rfl,rfl,fun o=>by simp [F],by omega,zB⟩
  case round =>
    clear F M G a7 a6;obtain ⟨k,hk,rfl,a4,O,V,hB⟩:=hrel;by_cases R:k<hs.length
    · have T:=fun j hj=>ad.out k j R hj
      have a2:=(hB.cell (p:=⟨H,o3+k*14+11,none⟩) a3).trans (T 11 tO);simp only [fO] at T a2;generalize a0:hs.getD k Ha.zero=hx at T a2;have HC:=aA a0;clear a0;have aj:∀ W:World,hp W H=hp w H→(nY (.pointer (some ⟨H,o3+k*14,none⟩))).run prog W=.ok (.agg (aB hx)) W:=fun W e=>lJ hx fun j hj=>by rw [← T j hj];exact World.cell?_of_block e
      clear T;have ab:wr.cell? ⟨H,o3+k*14+11,none⟩=some (.int .i64 hx.beg):=a2;clear a2;have z3:hp wr H=hp w H:=hB.block H a3;have x6:=O 6;have x8:=O 8;simp at x6 x8;have an:(0:Int)≤(k:Int):=tO;have ao:(k:Int)<(hs.length:Int):=tO;by_cases hok:aU hx=true
      · go_wp2_with fail
        go_region_held3 (fun w'=>w'.cell? ⟨w,6,none⟩=some (.slice (some ⟨H,o3,none⟩) hs.length r)∧w'.cell? ⟨w,8,none⟩=some (.int .i64 now)∧hp w' H=hp w H∧w'.cell? ⟨H,o3+k*14+11,none⟩=some (.int .i64 hx.beg))
          (first|(simp [*,go_sem]))
          (first|(go_at_call 119;refine (jI hx _).mono ?_;rintro _ w7 ⟨rfl,I⟩;have Z:Below w w w7:=bT zB I;have:=I.cell (p:=⟨w,6,none⟩) dQ;have:=I.cell (p:=⟨w,8,none⟩) dQ;have:=I.cell (p:=⟨H,o3+k*14+11,none⟩) dQ;have z7:hp w7 H=hp w H:=Z.block H a3;have ag:=fun o=>(I.cell (p:=⟨w,o,none⟩) dQ).trans (O o);have af:=I.size;simp at af;rw [hok]))
        by_cases am:now<hx.beg
        · go_wp2
          go_ret;exact ⟨bQ (Gf (x:=⟨c,hs,ds,now⟩) R HC.out (by simp [gH,hok];omega)),Z⟩
        · go_wp2
          go_roundw
          case rel=>exact ⟨k+1,by omega,by go_num,Je (x:=⟨c,hs,ds,now⟩) R HC.out a4.out (by simp [gH,hok];omega),ag,by omega,Z⟩
          case measure=>simp [intOf];omega
      · have a5:aU hx=false:=by simpa using hok
        clear hok;go_wp2_with fail;refine wp_region_held_drew (S:=fun w'=>w'.cell? ⟨w,6,none⟩=some (.slice (some ⟨H,o3,none⟩) hs.length r)∧w'.cell? ⟨w,8,none⟩=some (.int .i64 now)∧hp w' H=hp w H∧w'.cell? ⟨H,o3+k*14+11,none⟩=some (.int .i64 hx.beg)) bH qp (fun ak=>?_);refine mT (i:=0) (oi:=⟨some 41,_,_,_,_,_⟩) rfl ?_;(try simp only [dE]);refine mT (i:=1) (oi:=⟨some 42,_,_,_,_,_⟩) rfl ?_;(try simp only [dE])
        refine mT (i:=2) (oi:=⟨some 43,_,_,_,_,_⟩) rfl ?_;(try simp only [dE]);refine mT (i:=3) (oi:=⟨some 44,_,_,_,_,_⟩) rfl ?_;(try simp only [dE]);refine mT (i:=4) (oi:=⟨some 45,_,_,_,_,_⟩) rfl ?_;(try simp only [dE]);refine wpAnyH_ready (rs:=[5]) bH cK ?_;refine AllReadyH.cons (o:=⟨some 46,_,_,_,_,_⟩) rfl (fun K hK=>?_) AllReadyH.nil;go_simp
        go_at_call 119
        refine (jI hx _).mono ?_;rintro _ w7 ⟨rfl,I⟩;have Z:Below w w w7:=bT zB I;rw [a5];refine hK.out _ _ ?_ (fun al=>?_)
        · refine ⟨(I.cell dQ).trans x6,(I.cell dQ).trans x8,Z.block H a3,(I.cell dQ).trans ab⟩
        clear hK
        (try simp only [dE])
        refine mT (i:=6) (oi:=⟨some 47,_,_,_,_,_⟩) rfl ?_;(try simp only [dE]);refine mT (i:=7) (oi:=⟨some 48,_,_,_,_,_⟩) rfl ?_;(try simp only [dE]);refine mS (i:=8) (oi:=⟨some 49,_,_,_,_,_⟩) rfl ?_;(try simp only [dE]);refine mS (i:=9) (oi:=⟨some 50,_,_,_,_,_⟩) rfl ?_;(try simp only [dE]);refine mS (i:=10) (oi:=⟨some 51,_,_,_,_,_⟩) rfl ?_;(try simp only [dE]);refine mS (i:=11) (oi:=⟨some 52,_,_,_,_,_⟩) rfl ?_;(try simp only [dE])
        refine mS (i:=12) (oi:=⟨some 53,_,_,_,_,_⟩) rfl ?_;(try simp only [dE]);refine mS (i:=13) (oi:=⟨some 54,_,_,_,_,_⟩) rfl ?_;(try simp only [dE]);refine mS (i:=14) (oi:=⟨some 55,_,_,_,_,_⟩) rfl ?_;(try simp only [dE]);refine mS (i:=15) (oi:=⟨some 56,_,_,_,_,_⟩) rfl ?_;(try simp only [dE]);refine mS (i:=16) (oi:=⟨some 57,_,_,_,_,_⟩) rfl ?_;(try simp only [dE]);refine mT (i:=17) (oi:=⟨some 58,_,_,_,_,_⟩) rfl ?_;(try simp only [dE])
        refine wpAnyH_done bH ?_ _;go_wp2;go_ret;exact ⟨bQ (Gf (x:=⟨c,hs,ds,now⟩) R HC.out (by simp [gH,a5])),Z⟩
    · have:k=hs.length:=by omega
      subst this;go_wp2;go_loopw [4] (fun i wr=>∃ k:Nat,k≤ds.length∧i=.int .i64 k∧Hid ((ds.take k).all (jQ hs.length now)=true)∧(∀ o,wr.cell? ⟨w,o,none⟩=#[Value.int .i64 c.cap,.int .i64 c.sent,.int .i64 c.got,.int .i64 c.fin,.slice a c.cells p,.slice b c.words q,.slice (some ⟨H,o3,none⟩) hs.length r,.slice e ds.length s,.int .i64 now][o]?)∧w<wr.heap.size∧Below w w wr) (fun i _=>ds.length - (intOf i).toNat)
      case atStart=>exact ⟨0,Nat.zero_le _,rfl,rfl,O,V,hB⟩
      case round =>
        clear O V hB hk;obtain ⟨k,hk,rfl,a1,O,V,hB⟩:=hrel;have x7:=O 7;simp at x7;by_cases R:k<ds.length
        · obtain h0|⟨b4,o4,rfl,ac,a8⟩:=H4.out
          · omega
          have T:=fun j hj=>(hB.cell (p:=⟨b4,o4+k*7+j,none⟩) ac).trans (a8 k j R hj)
          have c0:=T 0 tO;have c1:=T 1 tO;have c2:=T 2 tO;have c3:=T 3 tO;have c4:=T 4 tO;have c5:=T 5 tO;have c6:=T 6 tO;clear T a8;simp only [sQ] at c0 c1 c2 c3 c4 c5 c6;generalize a0:ds.getD k De.zero=dd at c0 c1 c2 c3 c4 c5 c6;simp [jk,Array.getD] at c0 c1 c2 c3 c4 c5 c6;have HC:=aA a0;clear a0;have F:=O;have G:=V;have ae:hs.length≤1099511627776:=tO;go_wp2_with (first|((go_at_call 70;refine aK w zB fun bb=>?_;refine (iq c hs.length now _ _ _ _ _ _ _ _ _ _ _ _ ae _).mono ?_;rintro _ w5 ⟨rfl,J⟩;have ah:Below w w w5:=bT bb J;have a9:=J.size;(try simp at a9);have zz:=And.intro (fun o=>J.cell (p:=⟨wr,o,none⟩) tS) <| And.intro (fun o=>J.frozen (p:=⟨wr,o,none⟩) tS) <| And.intro (fun o=>J.cell (p:=⟨w,o,none⟩) tS) <| fun o=>J.frozen (p:=⟨w,o,none⟩) tS;(first|simp [go_sem,F,M,G] at zz|simp [go_sem,F,G] at zz|simp [go_sem] at zz|skip);(try clear Y U);(try clear F M);obtain ⟨Y,U,F,M⟩:=zz;(try clear X);have X:wr<w5.heap.size:=tO;(try clear G);have G:w<w5.heap.size:=tO;clear J bb))|((go_at_call 120;refine aK w zB fun bb=>?_;refine (rC _ _ _ _).mono ?_;rintro _ w6 ⟨rfl,L⟩;have ai:Below w w w6:=bT bb L;have aa:=L.size;(try simp at aa);have zz:=And.intro (fun o=>L.cell (p:=⟨wr,o,none⟩) tS) <| And.intro (fun o=>L.frozen (p:=⟨wr,o,none⟩) tS) <| And.intro (fun o=>L.cell (p:=⟨w,o,none⟩) tS) <| fun o=>L.frozen (p:=⟨w,o,none⟩) tS;(first|simp [go_sem,Y,U,F,M,G,X] at zz|simp [go_sem,F,M,G] at zz|simp [go_sem,F,G] at zz|simp [go_sem] at zz|skip);(try clear Y U);(try clear F M);obtain ⟨Y,U,F,M⟩:=zz;(try clear X);have X:wr<w6.heap.size:=tO;(try clear G);have G:w<w6.heap.size:=tO;clear L bb))|(go_at_call 121;refine (iP _ _ _ _).mono ?_;rintro _ _ ⟨rfl,rfl⟩)|(go_at_call 122;refine (p8 _ _).mono ?_;rintro _ _ ⟨rfl,rfl⟩))
          all_goals first
            | (go_ret;exact ⟨bQ (P6 (x:=⟨c,hs,ds,now⟩) R HC.out (by first|(simp [jQ, *];done)|(have h9:=not_true ‹(!dV dd.out 0 999)=true›;simp [jQ, *];done))),zB⟩)
            | (go_roundw
               case rel=>exact ⟨k+1,by omega,by go_num,Jf (x:=⟨c,hs,ds,now⟩) R HC.out a1.out (by have h9:=not_false ‹(!dV dd.out 0 999)=false›;simp [jQ, *]),fun o=>by simp [F],by omega,zB⟩
               case measure=>simp [intOf];omega)
        · have:k=ds.length:=by omega
          subst this;go_wp2;go_ret;exact ⟨bQ (Mq HH.out a4.out a1.out),hB⟩
theorem eY (x:Wo) (a b d e:Option Addr) (p q r s:Nat) (w:World) (h1:gG w w a x.ch.cells) (h2:gI w w b x.ch.words) (h3:qX w w d x.hands) (F:uh w w e x.deals) (G:x.hands.length≤1099511627776) (H:x.deals.length≤1099511627776) :
    Calls prog 69 #[oI x a b d e p q r s] w fun r w'=>r=.returned (.bool (dB x))∧Below w w w':=by
  cases h:jH x with
  | false=>exact Gg x a b d e p q r s w h1 h2 G H h
  | true=>exact DR x.ch x.hands x.deals x.now a b d e p q r s w h1 h2 h3 F h
end
section
inductive Wr where
 | e:Wr
 | n (l:Wr) (k:Lc) (v:Nat) (r:Wr):Wr
def Wr.at:Wr→Lc→Nat
 | .e,_=>0
 | .n l k v r,x=>cond (x.beq k) v (cond (x.lt k) (l.at x) (r.at x))
def Nt.wr:Nt→Wr
 | .e=>.e
 | .f k=>.n .e (Lc.of k) (k % 32) .e
 | .n l k r=>.n l.wr (Lc.of k) (k % 32) r.wr
def ranks:Wr:=codes.wr
def rk (x:Lc):Nat:=ranks.at x
theorem aZ {a b:Nat} (h:Nat.blt a b=true):a<b:=Nat.le_of_ble_eq_true h
theorem In.s_take_k {x:Lc} (G:In x) (F:x.sp=0):rk { x with sp:=2 }<rk x:=aZ (G.imp (fun x=>Nat.beq x.sp 0) (fun x=>Nat.blt (rk { x with sp:=2 }) (rk x)) bH gN)
theorem In.s_lay_k {x:Lc} (G:In x) (F:x.sp=2):rk { x with sp:=3 }<rk x:=aZ (G.imp (fun x=>Nat.beq x.sp 2) (fun x=>Nat.blt (rk { x with sp:=3 }) (rk x)) bH gN)
theorem In.s_look0_k {x:Lc} (G:In x) (F:x.sp=3) (h1:x.s=0):rk { x with sp:=4 }<rk x:=aZ (G.imp (fun x=>Nat.beq x.sp 3 && Nat.beq x.s 0) (fun x=>Nat.blt (rk { x with sp:=4 }) (rk x)) bH eu)
theorem In.s_look1_k {x:Lc} (G:In x) (F:x.sp=3) (h1:x.s=1):rk { x with sp:=6 }<rk x:=aZ (G.imp (fun x=>Nat.beq x.sp 3 && Nat.beq x.s 1) (fun x=>Nat.blt (rk { x with sp:=6 }) (rk x)) bH eu)
theorem In.s_look4_k {x:Lc} (G:In x) (F:x.sp=3) (h1:x.s=4):rk { x with sp:=7 }<rk x:=aZ (G.imp (fun x=>Nat.beq x.sp 3 && Nat.beq x.s 4) (fun x=>Nat.blt (rk { x with sp:=7 }) (rk x)) bH eu)
theorem In.s_look8_k {x:Lc} (G:In x) (F:x.sp=3) (h1:x.s=8):rk { x with sp:=31 }<rk x:=aZ (G.imp (fun x=>Nat.beq x.sp 3 && Nat.beq x.s 8) (fun x=>Nat.blt (rk { x with sp:=31 }) (rk x)) bH eu)
theorem In.s_look10_k {x:Lc} (G:In x) (F:x.sp=3) (h1:x.s=10):rk { x with sp:=31 }<rk x:=aZ (G.imp (fun x=>Nat.beq x.sp 3 && Nat.beq x.s 10) (fun x=>Nat.blt (rk { x with sp:=31 }) (rk x)) bH eu)
theorem In.s_endo_k {x:Lc} (G:In x) (F:x.sp=4) (h1:x.gp=0):rk { x with sp:=5 }<rk x:=aZ (G.imp (fun x=>Nat.beq x.sp 4 && Nat.beq x.gp 0) (fun x=>Nat.blt (rk { x with sp:=5 }) (rk x)) bH eu)
theorem In.s_endi_k {x:Lc} (G:In x) (F:x.sp=4) (h1:x.gp≠0):rk { x with sp:=15 }<rk x:=aZ (G.imp (fun x=>Nat.beq x.sp 4 && !(Nat.beq x.gp 0)) (fun x=>Nat.blt (rk { x with sp:=15 }) (rk x)) bH iB)
theorem In.s_come0_k {x:Lc} (G:In x) (F:x.sp=5) (h1:x.rp=0):rk { x with sp:=16 }<rk x:=aZ (G.imp (fun x=>Nat.beq x.sp 5 && Nat.beq x.rp 0) (fun x=>Nat.blt (rk { x with sp:=16 }) (rk x)) bH eu)
theorem In.s_come1_k {x:Lc} (G:In x) (F:x.sp=5) (h1:x.rp≠0):rk { x with sp:=26 }<rk x:=aZ (G.imp (fun x=>Nat.beq x.sp 5 && !(Nat.beq x.rp 0)) (fun x=>Nat.blt (rk { x with sp:=26 }) (rk x)) bH iB)
theorem In.s_comek_k {x:Lc} (G:In x) (F:x.sp=15):rk { x with sp:=26 }<rk x:=aZ (G.imp (fun x=>Nat.beq x.sp 15) (fun x=>Nat.blt (rk { x with sp:=26 }) (rk x)) bH gN)
theorem In.s_keep1_k {x:Lc} (G:In x) (F:x.sp=6) (h1:x.s=1):rk { x with s:=2,wt:=0,sp:=30 }<rk x:=aZ (G.imp (fun x=>Nat.beq x.sp 6 && Nat.beq x.s 1) (fun x=>Nat.blt (rk { x with s:=2,wt:=0,sp:=30 }) (rk x)) bH eu)
theorem In.s_lost1_k {x:Lc} (G:In x) (F:x.sp=6) (h1:x.s≠1):rk { x with sp:=3 }<rk x:=aZ (G.imp (fun x=>Nat.beq x.sp 6 && !(Nat.beq x.s 1)) (fun x=>Nat.blt (rk { x with sp:=3 }) (rk x)) bH iB)
theorem In.s_keepk_k {x:Lc} (G:In x) (F:x.sp=26) (h1:x.s=0):rk { x with s:=2,wt:=0,sp:=30 }<rk x:=aZ (G.imp (fun x=>Nat.beq x.sp 26 && Nat.beq x.s 0) (fun x=>Nat.blt (rk { x with s:=2,wt:=0,sp:=30 }) (rk x)) bH eu)
theorem In.s_lostk_k {x:Lc} (G:In x) (F:x.sp=26) (h1:x.s≠0):rk { x with sp:=3 }<rk x:=aZ (G.imp (fun x=>Nat.beq x.sp 26 && !(Nat.beq x.s 0)) (fun x=>Nat.blt (rk { x with sp:=3 }) (rk x)) bH iB)
theorem In.s_wait_k {x:Lc} (G:In x) (F:x.sp=16) (h1:x.s=0):rk { x with s:=3,wt:=1,sp:=23,sw:=0 }<rk x:=aZ (G.imp (fun x=>Nat.beq x.sp 16 && Nat.beq x.s 0) (fun x=>Nat.blt (rk { x with s:=3,wt:=1,sp:=23,sw:=0 }) (rk x)) bH eu)
theorem In.s_lost0_k {x:Lc} (G:In x) (F:x.sp=16) (h1:x.s≠0):rk { x with sp:=3 }<rk x:=aZ (G.imp (fun x=>Nat.beq x.sp 16 && !(Nat.beq x.s 0)) (fun x=>Nat.blt (rk { x with sp:=3 }) (rk x)) bH iB)
theorem In.s_call_k {x:Lc} (G:In x) (F:x.sp=7) (h1:x.rw=0):rk { x with sp:=8,rw:=1 }<rk x:=aZ (G.imp (fun x=>Nat.beq x.sp 7 && Nat.beq x.rw 0) (fun x=>Nat.blt (rk { x with sp:=8,rw:=1 }) (rk x)) bH eu)
theorem In.s_callno_k {x:Lc} (G:In x) (F:x.sp=7) (h1:x.rw≠0):rk { x with sp:=31 }<rk x:=aZ (G.imp (fun x=>Nat.beq x.sp 7 && !(Nat.beq x.rw 0)) (fun x=>Nat.blt (rk { x with sp:=31 }) (rk x)) bH iB)
theorem In.s_done_k {x:Lc} (G:In x) (F:x.sp=8):rk { x with s:=7,sp:=30 }<rk x:=aZ (G.imp (fun x=>Nat.beq x.sp 8) (fun x=>Nat.blt (rk { x with s:=7,sp:=30 }) (rk x)) bH gN)
theorem In.s_called_k {x:Lc} (G:In x) (F:x.sp=23) (h1:x.sw=1):rk { x with sp:=30 }<rk x:=aZ (G.imp (fun x=>Nat.beq x.sp 23 && Nat.beq x.sw 1) (fun x=>Nat.blt (rk { x with sp:=30 }) (rk x)) bH eu)
theorem In.s_stopped_k {x:Lc} (G:In x) (F:x.sp=23) (h1:x.sw=2):rk { x with sp:=25 }<rk x:=aZ (G.imp (fun x=>Nat.beq x.sp 23 && Nat.beq x.sw 2) (fun x=>Nat.blt (rk { x with sp:=25 }) (rk x)) bH eu)
theorem In.s_mark_k {x:Lc} (G:In x) (F:x.sp=25):rk { x with s:=9,sp:=32 }<rk x:=aZ (G.imp (fun x=>Nat.beq x.sp 25) (fun x=>Nat.blt (rk { x with s:=9,sp:=32 }) (rk x)) bH gN)
theorem In.r_take_k {x:Lc} (G:In x) (F:x.rp=0):rk { x with rp:=10 }<rk x:=aZ (G.imp (fun x=>Nat.beq x.rp 0) (fun x=>Nat.blt (rk { x with rp:=10 }) (rk x)) bH gN)
theorem In.r_view0_k {x:Lc} (G:In x) (F:x.rp=10) (h1:x.s=0):rk { x with rp:=11 }<rk x:=aZ (G.imp (fun x=>Nat.beq x.rp 10 && Nat.beq x.s 0) (fun x=>Nat.blt (rk { x with rp:=11 }) (rk x)) bH eu)
theorem In.r_view1_k {x:Lc} (G:In x) (F:x.rp=10) (h1:x.s=1):rk { x with rp:=21 }<rk x:=aZ (G.imp (fun x=>Nat.beq x.rp 10 && Nat.beq x.s 1) (fun x=>Nat.blt (rk { x with rp:=21 }) (rk x)) bH eu)
theorem In.r_view2_k {x:Lc} (G:In x) (F:x.rp=10) (h1:x.s=2):rk { x with rp:=52 }<rk x:=aZ (G.imp (fun x=>Nat.beq x.rp 10 && Nat.beq x.s 2) (fun x=>Nat.blt (rk { x with rp:=52 }) (rk x)) bH eu)
theorem In.r_view3_k {x:Lc} (G:In x) (F:x.rp=10) (h1:x.s=3):rk { x with rp:=62 }<rk x:=aZ (G.imp (fun x=>Nat.beq x.rp 10 && Nat.beq x.s 3) (fun x=>Nat.blt (rk { x with rp:=62 }) (rk x)) bH eu)
theorem In.r_view9_k {x:Lc} (G:In x) (F:x.rp=10) (h1:x.s=9):rk { x with rp:=71 }<rk x:=aZ (G.imp (fun x=>Nat.beq x.rp 10 && Nat.beq x.s 9) (fun x=>Nat.blt (rk { x with rp:=71 }) (rk x)) bH eu)
theorem In.r_sent00_k {x:Lc} (G:In x) (F:x.rp=11) (h1:x.sp=0):rk { x with rp:=12 }<rk x:=aZ (G.imp (fun x=>Nat.beq x.rp 11 && Nat.beq x.sp 0) (fun x=>Nat.blt (rk { x with rp:=12 }) (rk x)) bH eu)
theorem In.r_sent01_k {x:Lc} (G:In x) (F:x.rp=11) (h1:x.sp≠0):rk { x with rp:=22 }<rk x:=aZ (G.imp (fun x=>Nat.beq x.rp 11 && !(Nat.beq x.sp 0)) (fun x=>Nat.blt (rk { x with rp:=22 }) (rk x)) bH iB)
theorem In.r_sent10_k {x:Lc} (G:In x) (F:x.rp=21) (h1:x.sp=0):rk { x with rp:=32 }<rk x:=aZ (G.imp (fun x=>Nat.beq x.rp 21 && Nat.beq x.sp 0) (fun x=>Nat.blt (rk { x with rp:=32 }) (rk x)) bH eu)
theorem In.r_sent11_k {x:Lc} (G:In x) (F:x.rp=21) (h1:x.sp≠0):rk { x with rp:=42 }<rk x:=aZ (G.imp (fun x=>Nat.beq x.rp 21 && !(Nat.beq x.sp 0)) (fun x=>Nat.blt (rk { x with rp:=42 }) (rk x)) bH iB)
theorem In.r_take2_k {x:Lc} (G:In x) (F:x.rp=52) (h1:x.s=2):rk { x with s:=7,wt:=0,rp:=70 }<rk x:=aZ (G.imp (fun x=>Nat.beq x.rp 52 && Nat.beq x.s 2) (fun x=>Nat.blt (rk { x with s:=7,wt:=0,rp:=70 }) (rk x)) bH eu)
theorem In.r_lost2_k {x:Lc} (G:In x) (F:x.rp=52) (h1:x.s≠2):rk { x with rp:=10 }<rk x:=aZ (G.imp (fun x=>Nat.beq x.rp 52 && !(Nat.beq x.s 2)) (fun x=>Nat.blt (rk { x with rp:=10 }) (rk x)) bH iB)
theorem In.r_take3_k {x:Lc} (G:In x) (F:x.rp=62) (h1:x.s=3):rk { x with s:=5,rp:=13 }<rk x:=aZ (G.imp (fun x=>Nat.beq x.rp 62 && Nat.beq x.s 3) (fun x=>Nat.blt (rk { x with s:=5,rp:=13 }) (rk x)) bH eu)
theorem In.r_lost3_k {x:Lc} (G:In x) (F:x.rp=62) (h1:x.s≠3):rk { x with rp:=10 }<rk x:=aZ (G.imp (fun x=>Nat.beq x.rp 62 && !(Nat.beq x.s 3)) (fun x=>Nat.blt (rk { x with rp:=10 }) (rk x)) bH iB)
theorem In.r_wait0_k {x:Lc} (G:In x) (F:x.rp=12) (h1:x.s=0):rk { x with s:=4,wt:=2,rp:=23,rw:=0 }<rk x:=aZ (G.imp (fun x=>Nat.beq x.rp 12 && Nat.beq x.s 0) (fun x=>Nat.blt (rk { x with s:=4,wt:=2,rp:=23,rw:=0 }) (rk x)) bH eu)
theorem In.r_lost00_k {x:Lc} (G:In x) (F:x.rp=12) (h1:x.s≠0):rk { x with rp:=10 }<rk x:=aZ (G.imp (fun x=>Nat.beq x.rp 12 && !(Nat.beq x.s 0)) (fun x=>Nat.blt (rk { x with rp:=10 }) (rk x)) bH iB)
theorem In.r_poi0_k {x:Lc} (G:In x) (F:x.rp=22) (h1:x.s=0):rk { x with s:=8,wt:=0,rp:=73 }<rk x:=aZ (G.imp (fun x=>Nat.beq x.rp 22 && Nat.beq x.s 0) (fun x=>Nat.blt (rk { x with s:=8,wt:=0,rp:=73 }) (rk x)) bH eu)
theorem In.r_lost01_k {x:Lc} (G:In x) (F:x.rp=22) (h1:x.s≠0):rk { x with rp:=10 }<rk x:=aZ (G.imp (fun x=>Nat.beq x.rp 22 && !(Nat.beq x.s 0)) (fun x=>Nat.blt (rk { x with rp:=10 }) (rk x)) bH iB)
theorem In.r_wait1_k {x:Lc} (G:In x) (F:x.rp=32) (h1:x.s=1):rk { x with s:=4,wt:=2,rp:=23,rw:=0 }<rk x:=aZ (G.imp (fun x=>Nat.beq x.rp 32 && Nat.beq x.s 1) (fun x=>Nat.blt (rk { x with s:=4,wt:=2,rp:=23,rw:=0 }) (rk x)) bH eu)
theorem In.r_lost10_k {x:Lc} (G:In x) (F:x.rp=32) (h1:x.s≠1):rk { x with rp:=10 }<rk x:=aZ (G.imp (fun x=>Nat.beq x.rp 32 && !(Nat.beq x.s 1)) (fun x=>Nat.blt (rk { x with rp:=10 }) (rk x)) bH iB)
theorem In.r_poi1_k {x:Lc} (G:In x) (F:x.rp=42) (h1:x.s=1):rk { x with s:=8,wt:=0,rp:=73 }<rk x:=aZ (G.imp (fun x=>Nat.beq x.rp 42 && Nat.beq x.s 1) (fun x=>Nat.blt (rk { x with s:=8,wt:=0,rp:=73 }) (rk x)) bH eu)
theorem In.r_lost11_k {x:Lc} (G:In x) (F:x.rp=42) (h1:x.s≠1):rk { x with rp:=10 }<rk x:=aZ (G.imp (fun x=>Nat.beq x.rp 42 && !(Nat.beq x.s 1)) (fun x=>Nat.blt (rk { x with rp:=10 }) (rk x)) bH iB)
theorem In.r_wake_k {x:Lc} (G:In x) (F:x.rp=13) (h1:x.sw=0):rk { x with sw:=1,rp:=14 }<rk x:=aZ (G.imp (fun x=>Nat.beq x.rp 13 && Nat.beq x.sw 0) (fun x=>Nat.blt (rk { x with sw:=1,rp:=14 }) (rk x)) bH eu)
theorem In.r_wakeno_k {x:Lc} (G:In x) (F:x.rp=13) (h1:x.sw≠0):rk { x with rp:=15 }<rk x:=aZ (G.imp (fun x=>Nat.beq x.rp 13 && !(Nat.beq x.sw 0)) (fun x=>Nat.blt (rk { x with rp:=15 }) (rk x)) bH iB)
theorem In.r_fin_k {x:Lc} (G:In x) (F:x.rp=14):rk { x with s:=7,rp:=70 }<rk x:=aZ (G.imp (fun x=>Nat.beq x.rp 14) (fun x=>Nat.blt (rk { x with s:=7,rp:=70 }) (rk x)) bH gN)
theorem In.r_fail_k {x:Lc} (G:In x) (F:x.rp=15):rk { x with s:=9,rp:=71 }<rk x:=aZ (G.imp (fun x=>Nat.beq x.rp 15) (fun x=>Nat.blt (rk { x with s:=9,rp:=71 }) (rk x)) bH gN)
theorem In.r_called_k {x:Lc} (G:In x) (F:x.rp=23) (h1:x.rw=1):rk { x with rp:=24 }<rk x:=aZ (G.imp (fun x=>Nat.beq x.rp 23 && Nat.beq x.rw 1) (fun x=>Nat.blt (rk { x with rp:=24 }) (rk x)) bH eu)
theorem In.r_stopped_k {x:Lc} (G:In x) (F:x.rp=23) (h1:x.rw=2):rk { x with rp:=25 }<rk x:=aZ (G.imp (fun x=>Nat.beq x.rp 23 && Nat.beq x.rw 2) (fun x=>Nat.blt (rk { x with rp:=25 }) (rk x)) bH eu)
theorem In.r_fetch_k {x:Lc} (G:In x) (F:x.rp=24):rk { x with rp:=74 }<rk x:=aZ (G.imp (fun x=>Nat.beq x.rp 24) (fun x=>Nat.blt (rk { x with rp:=74 }) (rk x)) bH gN)
theorem In.r_mark_k {x:Lc} (G:In x) (F:x.rp=25):rk { x with s:=10,rp:=72 }<rk x:=aZ (G.imp (fun x=>Nat.beq x.rp 25) (fun x=>Nat.blt (rk { x with s:=10,rp:=72 }) (rk x)) bH gN)
theorem In.g_take_k {x:Lc} (G:In x) (F:x.gp=0):rk { x with gp:=17 }<rk x:=aZ (G.imp (fun x=>Nat.beq x.gp 0) (fun x=>Nat.blt (rk { x with gp:=17 }) (rk x)) bH gN)
theorem In.g_far0_k {x:Lc} (G:In x) (F:x.gp=17) (h1:x.sp=0):rk { x with gp:=30 }<rk x:=aZ (G.imp (fun x=>Nat.beq x.gp 17 && Nat.beq x.sp 0) (fun x=>Nat.blt (rk { x with gp:=30 }) (rk x)) bH eu)
theorem In.g_far1_k {x:Lc} (G:In x) (F:x.gp=17) (h1:x.sp≠0):rk { x with gp:=18 }<rk x:=aZ (G.imp (fun x=>Nat.beq x.gp 17 && !(Nat.beq x.sp 0)) (fun x=>Nat.blt (rk { x with gp:=18 }) (rk x)) bH iB)
theorem In.g_meet0_k {x:Lc} (G:In x) (F:x.gp=18) (h1:x.s=0):rk { x with gp:=19 }<rk x:=aZ (G.imp (fun x=>Nat.beq x.gp 18 && Nat.beq x.s 0) (fun x=>Nat.blt (rk { x with gp:=19 }) (rk x)) bH eu)
theorem In.g_meet3_k {x:Lc} (G:In x) (F:x.gp=18) (h1:x.s=3):rk { x with gp:=29 }<rk x:=aZ (G.imp (fun x=>Nat.beq x.gp 18 && Nat.beq x.s 3) (fun x=>Nat.blt (rk { x with gp:=29 }) (rk x)) bH eu)
theorem In.g_meet9_k {x:Lc} (G:In x) (F:x.gp=18) (h1:x.s=9):rk { x with gp:=31 }<rk x:=aZ (G.imp (fun x=>Nat.beq x.gp 18 && Nat.beq x.s 9) (fun x=>Nat.blt (rk { x with gp:=31 }) (rk x)) bH eu)
theorem In.g_meetd_k {x:Lc} (G:In x) (F:x.gp=18) (h1:x.s≠0∧x.s≠3∧x.s≠9∧x.s≠5):rk { x with gp:=30 }<rk x:=aZ (G.imp (fun x=>Nat.beq x.gp 18 && (!(Nat.beq x.s 0) && !(Nat.beq x.s 3) && !(Nat.beq x.s 9) && !(Nat.beq x.s 5))) (fun x=>Nat.blt (rk { x with gp:=30 }) (rk x)) bH (by simp [F,QT h1.1,QT h1.2.1,QT h1.2.2.1,QT h1.2.2.2]))
theorem In.g_in_k {x:Lc} (G:In x) (F:x.gp=19) (h1:x.s=0):rk { x with s:=1,wt:=0,gp:=30 }<rk x:=aZ (G.imp (fun x=>Nat.beq x.gp 19 && Nat.beq x.s 0) (fun x=>Nat.blt (rk { x with s:=1,wt:=0,gp:=30 }) (rk x)) bH eu)
theorem In.g_lost0_k {x:Lc} (G:In x) (F:x.gp=19) (h1:x.s≠0):rk { x with gp:=18 }<rk x:=aZ (G.imp (fun x=>Nat.beq x.gp 19 && !(Nat.beq x.s 0)) (fun x=>Nat.blt (rk { x with gp:=18 }) (rk x)) bH iB)
theorem In.g_grow_k {x:Lc} (G:In x) (F:x.gp=29) (h1:x.s=3):rk { x with s:=6,gp:=20 }<rk x:=aZ (G.imp (fun x=>Nat.beq x.gp 29 && Nat.beq x.s 3) (fun x=>Nat.blt (rk { x with s:=6,gp:=20 }) (rk x)) bH eu)
theorem In.g_lost3_k {x:Lc} (G:In x) (F:x.gp=29) (h1:x.s≠3):rk { x with gp:=18 }<rk x:=aZ (G.imp (fun x=>Nat.beq x.gp 29 && !(Nat.beq x.s 3)) (fun x=>Nat.blt (rk { x with gp:=18 }) (rk x)) bH iB)
theorem In.g_raise_k {x:Lc} (G:In x) (F:x.gp=20) (h1:x.sw=0):rk { x with sw:=1,gp:=21 }<rk x:=aZ (G.imp (fun x=>Nat.beq x.gp 20 && Nat.beq x.sw 0) (fun x=>Nat.blt (rk { x with sw:=1,gp:=21 }) (rk x)) bH eu)
theorem In.g_raiseno_k {x:Lc} (G:In x) (F:x.gp=20) (h1:x.sw≠0):rk { x with gp:=22 }<rk x:=aZ (G.imp (fun x=>Nat.beq x.gp 20 && !(Nat.beq x.sw 0)) (fun x=>Nat.blt (rk { x with gp:=22 }) (rk x)) bH iB)
theorem In.g_keep_k {x:Lc} (G:In x) (F:x.gp=21):rk { x with s:=2,gp:=30 }<rk x:=aZ (G.imp (fun x=>Nat.beq x.gp 21) (fun x=>Nat.blt (rk { x with s:=2,gp:=30 }) (rk x)) bH gN)
theorem In.g_lose_k {x:Lc} (G:In x) (F:x.gp=22):rk { x with s:=9,gp:=31 }<rk x:=aZ (G.imp (fun x=>Nat.beq x.gp 22) (fun x=>Nat.blt (rk { x with s:=9,gp:=31 }) (rk x)) bH gN)
end
section
open Go.RowKit
attribute [local simp] dz
attribute [local go_sem ↓] dA fU dO gW dP gY dW fE bK eO
theorem Ms {hs:List Ha} {k:Nat} (F:k<hs.length) (h:(hs.take k).all (fun h=>h.pos == 0)=true) (e:(hs.getD k Ha.zero).pos=0):(hs.take (k+1)).all (fun h=>h.pos == 0)=true:=by
 rw [lu hs k Ha.zero F,List.all_append,h];simp only [List.all_cons,List.all_nil,e];rfl
theorem P7 {hs:List Ha} {k:Nat} (F:k<hs.length) (e:(hs.getD k Ha.zero).pos≠0):hs.all (fun h=>h.pos == 0)=false:=by
 rw [Bool.eq_false_iff];intro h;have:=List.all_eq_true.1 h (hs.getD k Ha.zero) (by simp [List.getD,F]);simp at this;exact e this
theorem Gi (c:Ch) (hs:List Ha) (ds:List De) (now:Int) (a b d e:Option Addr) (p q r s:Nat) (w:World) (h3:qX w w d hs) (m3:hs.length≤1099511627776) :
  Calls prog 82 #[.agg #[c.cap,c.sent,c.got,c.fin,.slice a c.cells p,.slice b c.words q,.slice d hs.length r,.slice e ds.length s,.int .i64 now]] w fun Y w'=>Y=.returned (.bool (hs.all fun h=>h.pos == 0))∧Below w w w':=by
 have T:=aA h3;clear h3;go_enter func82,ntmps82;go_wp2;go_loopw [3] (fun i wr=>∃ k:Nat,k≤hs.length∧i=.int .i64 k∧Hid ((hs.take k).all (fun h=>h.pos == 0)=true)∧wr.cell? ⟨w,6,none⟩=some (.slice d hs.length r)∧w<wr.heap.size∧Below w w wr) (fun i _=>hs.length - (intOf i).toNat)
 case atStart=>exact ⟨0,Nat.zero_le _,rfl,rfl,by simp,by simp,zB⟩
 case round =>
  obtain ⟨k,hk,rfl,F,Z,O,J⟩:=hrel;by_cases G:k<hs.length
  ·obtain ⟨M,R,rfl,K,H⟩:∃ b o,d=some ⟨b,o,none⟩∧b<w.heap.size∧(∀ i j,i<hs.length→j<14→w.cell? ⟨b,o+i*14+j,none⟩=some (fO hs i j)):=by
    rcases T.out with N|N
    ·omega
    ·exact N
   have c0:wr.cell? ⟨M,R+k*14,none⟩=some (.int .i64 (hs.getD k Ha.zero).pos):=(J.cell (p:=⟨M,R+k*14,none⟩) K).trans ((H k 0 G tO).trans (by simp [fO,aB,Array.getD]));clear H;generalize I:hs.getD k Ha.zero=X at c0;have L:=aA I;clear I;have U:(0:Int)≤(k:Int):=tO;have V:(k:Int)<(hs.length:Int):=tO;by_cases hp:X.pos=0
   ·go_wp2
    go_roundw
    case rel=>exact ⟨k+1,by omega,by go_num,Ms G F.out (by rw [L.out];exact hp),Z,by omega,J⟩
    case measure=>simp [intOf];omega
   ·go_wp2
    go_ret;exact ⟨bQ (P7 G (by rw [L.out];exact hp)).symm,J⟩
  ·have:k=hs.length:=by omega
   subst this;go_wp2;go_ret;exact ⟨bQ (by have:=F.out;rw [List.take_length] at this;exact this.symm),J⟩
end
end Go.Proofs.YtffhjmepfojhnaaGreat
