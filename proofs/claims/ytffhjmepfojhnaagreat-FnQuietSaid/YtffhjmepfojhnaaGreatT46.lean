/-
  FnQuiet returns true for every list of bytes that it is called with, and turns nothing; no condition.
-/
import Derived.Test.YtffhjmepfojhnaaGreatT44
import Derived.Test.YtffhjmepfojhnaaGreatT45
import Derived.Test.YtffhjmepfojhnaaGreatT27
import Derived.Test.YtffhjmepfojhnaaGreatT33
import Derived.Test.YtffhjmepfojhnaaGreatT24
import Derived.Test.YtffhjmepfojhnaaGreatT40
import Derived.Test.YtffhjmepfojhnaaGreatT37
import Derived.Test.YtffhjmepfojhnaaGreatT36
import Derived.Test.YtffhjmepfojhnaaGreatT28
set_option maxRecDepth 100000
set_option maxHeartbeats 16000000
set_option linter.unusedSimpArgs false
set_option linter.unusedVariables false
namespace Go.Proofs.YtffhjmepfojhnaaGreat
open _root_.Go.Proofs.Tryz
section
open Go.RowKit
attribute [local simp] dz
theorem Lj {x:Wo} (h:dB x=true):qi x:=wL ((eZ x).1 h)
theorem BH {x:Wo} (h:lV x=true):quietIn x=true:=by
 simp only [lV,Bool.and_eq_true] at h;exact h.1
theorem Ik {F G:Int} (I:0≤F) (h1:F≤2) (h2:1≤G) (h3:G≤4) {ls:List Od} (N:∀ o,o ∈ ls→Ei (dS F G).1.hands.length o) (M:ls.length≤720) :
  ∃ x y,ow (dS F G).1 ls=x∧(setW x 2000).1=y∧dB (dS F G).1=true∧dB x=true∧dB y=true∧quietIn y=true∧lV y=true:=by
 obtain ⟨T,K,_⟩:=Live.new F G I tO h2 tO;obtain ⟨g,D,E,L,U,V⟩:=Ia I tO h2 tO N M;obtain ⟨g',O,R,H,J,_,_⟩:=ET L tO tO;exact ⟨_,_,rfl,rfl,(eZ _).2 K.r,(eZ _).2 L.r,(eZ _).2 H.r,H.quiet.2 J,H.fairB J⟩
theorem ig.listsQ {w w':World} {y:Wo} {t:Value} {r:Ending} (h:ig w w' y t r):(∃ (a b d e:Option Addr) (p q G s:Nat),r=.returned (.tuple #[.agg #[y.ch.cap,y.ch.sent,y.ch.got,y.ch.fin,.slice a y.ch.cells p,.slice b y.ch.words q,.slice d y.hands G,.slice e y.deals s,y.now],t])∧lX w' w' y a b d e∧pJ y a b d e p q G s∧(Hi w a∧Hi w b∧Hi w d∧Hi w e))∧Below w w w':=by
 obtain ⟨⟨u1,u2,u3,u4,rfl,F⟩,J⟩:=h;obtain ⟨a,p,rfl,_⟩:=aF.seg F.1;obtain ⟨b,q,rfl,_⟩:=aI.seg F.2.1;obtain ⟨d,G,rfl,_⟩:=dY.seg F.2.2.1;obtain ⟨e,s,rfl,_⟩:=gU.seg F.2.2.2;obtain ⟨I,H,i⟩:=mZ F;exact ⟨⟨a,b,d,e,p,q,G,s,rfl,I,H,i⟩,J⟩
theorem Il (n cap:Nat) (a:Option Addr) (bs:Nat→Int) (w:World) (ay:∀ j,0≤bs j∧bs j≤255) (h:Seg w w a n 1 (fun j _=>.int .u8 (bs j))) :
  Calls prog 5 #[.slice a n cap] w fun r w'=>r=.returned (.bool true)∧Below w w w':=by
 have HB:=aA ay;have HS:=aA h;clear ay h;by_cases I:(4096:Int)<(n:Int)
 ·go_enter func5,ntmps5
  go_wp2_with fail;refine (KY _ _ _ _).mono ?_
  rintro _ _ ⟨rfl,rfl⟩;go_wp2;go_ret;exact ⟨rfl,Below.refl _ _⟩
 have HC:Hid (Code w w a n bs):=⟨by omega,HB.out,HS.out⟩;clear HB HS;go_enter func5,ntmps5;go_wp2_with fail;refine (KY _ _ _ _).mono ?_;rintro _ _ ⟨rfl,rfl⟩;go_wp2_with fail;refine aK w zB fun Y=>?_
 refine (zm _ _ _ bs _ ((HC.out.below Y).more Y.size)).mono ?_;rintro _ w1 ⟨⟨u,ua,ub,ud,ue,up,uq,ur,us,rfl,J,Nu,Lu,_,_,_,_,_,_⟩,F⟩;have b9:Below w w w1:=bT Y F;clear Y F;go_wp2_with fail;generalize L:World.alloc w1 _=w2;have H:hp w2 w1=some (.cells #[u.ch.cap,u.ch.sent,u.ch.got,u.ch.fin,.slice ua u.ch.cells up,.slice ub u.ch.words uq,.slice ud u.hands ur,.slice ue u.deals us,u.now] 35):=by rw [← L];exact heap_alloc_new _ _
 have F:Below w1 w1 w2:=by rw [← L];exact bL _ _
 have ad:Below w w w2:=bT b9 F;replace J:=je (j6 J (Nat.le_refl _) F) F.size;clear L F;refine aK w ad fun Y=>?_
 refine (BG _ _ _ bs _ ((HC.out.below Y).more Y.size)).mono ?_;rintro _ w3 ⟨⟨v,va,vb,vd,ve,vp,vq,vr,vs,rfl,Sv,Nv,Lv,_,_,_,_,_⟩,F⟩;have ar:Below w w w3:=bT ad F;replace H:=iC H F;replace J:=je (j6 J (Nat.le_refl _) F) F.size;clear Y F;go_wp2_with fail;generalize L:World.alloc w3 _=w4;have an:hp w4 w3=some (.cells #[v.ch.cap,v.ch.sent,v.ch.got,v.ch.fin,.slice va v.ch.cells vp,.slice vb v.ch.words vq,.slice vd v.hands vr,.slice ve v.deals vs,v.now] 35):=by rw [← L];exact heap_alloc_new _ _
 have F:Below w3 w3 w4:=by rw [← L];exact bL _ _
 have au:Below w w w4:=bT ar F;replace Sv:=je (j6 Sv (Nat.le_refl _) F) F.size;replace H:=iC H F;replace J:=je (j6 J (Nat.le_refl _) F) F.size;clear L F;clear ad ar;obtain ⟨tq,b5⟩:∃ t,Hid (quietIn u=t):=⟨_,rfl⟩;obtain ⟨tf,a8⟩:∃ t,Hid (lV u=t):=⟨_,rfl⟩;obtain ⟨tv,aj⟩:∃ t,Hid (lV v=t):=⟨_,rfl⟩;go_wp2_with fail;refine lh [[],[0],[],[2],[0,1,2,3],[0,1,2,3,4],[0,1,2,3,4,5],[0,1,2,3,4,5,6],[0,1,2,3,4,5],[0,1,2,3,4,5,8],[0,1,2,3,4,5,6,7,8,9],[0,1,2,3,4,5,6,7,8,9,10]] [14,15,16,17,18,19,20,21,22,23,24,25] (fun l s wx=>(Below w4 w4 wx)∧(l 0=true→s 14=.agg #[u.ch.cap,u.ch.sent,u.ch.got,u.ch.fin,.slice ua u.ch.cells up,.slice ub u.ch.words uq,.slice ud u.hands ur,.slice ue u.deals us,u.now])∧(l 1=true→s 15=.bool tq)∧(l 2=true→s 16=.agg #[u.ch.cap,u.ch.sent,u.ch.got,u.ch.fin,.slice ua u.ch.cells up,.slice ub u.ch.words uq,.slice ud u.hands ur,.slice ue u.deals us,u.now])∧(l 3=true→s 17=.bool tq)∧(l 4=true→s 18=.bool false)∧(l 5=true→s 19=.bool false)∧(l 6=true→s 20=.agg #[v.ch.cap,v.ch.sent,v.ch.got,v.ch.fin,.slice va v.ch.cells vp,.slice vb v.ch.words vq,.slice vd v.hands vr,.slice ve v.deals vs,v.now])∧(l 7=true→s 21=.bool tv)∧(l 8=true→s 22=.agg #[v.ch.cap,v.ch.sent,v.ch.got,v.ch.fin,.slice va v.ch.cells vp,.slice vb v.ch.words vq,.slice vd v.hands vr,.slice ve v.deals vs,v.now])∧(l 9=true→s 23=.bool tv)∧(l 10=true→s 24=.bool false)∧(l 11=true→s 25=.bool false)) (fun s=>⟨(Below.refl _ _).drew,fun h=>absurd h Bool.false_ne_true,fun h=>absurd h Bool.false_ne_true,fun h=>absurd h Bool.false_ne_true,fun h=>absurd h Bool.false_ne_true,fun h=>absurd h Bool.false_ne_true,fun h=>absurd h Bool.false_ne_true,fun h=>absurd h Bool.false_ne_true,fun h=>absurd h Bool.false_ne_true,fun h=>absurd h Bool.false_ne_true,fun h=>absurd h Bool.false_ne_true,fun h=>absurd h Bool.false_ne_true,fun h=>absurd h Bool.false_ne_true⟩) ?_ ?_
 refine ⟨?_,?_,?_,?_,?_,?_,?_,?_,?_,?_,?_,?_,trivial⟩;iterate 12 (intro l s wx hl X I G K hK;rotate_left)
 ·intro l s w5 aa G
  have a3:=G.1;have ec:=(G.2.2.2.2.2.2.2.2.2.2.2.2 (aa 11 rfl));simp only [ec];clear ec G aa;have av:Below w w w5:=bT au a3;replace H:=iC H a3;replace J:=je (j6 J (Nat.le_refl _) a3) a3.size;clear a3 an Sv Nv Lv aj au;go_wp2_with fail;refine aK w av fun Y=>?_
  refine (Qa _ _ _ bs 5 _ ((HC.out.below Y).more Y.size)).mono ?_;rintro _ w6 ⟨gd,rfl,a7,a4⟩;have aw:Below w w w6:=bT Y a4;have ab:w.heap.size≤gd:=Nat.le_trans Y.size a7.le;have ba:w1<w5.heap.size:=(bO H).2.2;replace H:=iC H a4;replace J:=j6 J (Nat.le_refl _) a4;have ag:=a4.size;have ac:w5.heap.size≤gd:=a7.le;clear Y av HC;go_wp2_with fail;refine (K3 _ gd 60 _ a7 tO tO).mono ?_;rintro _ w7 ⟨⟨cp,tk,ls,e1,e2,e3,e4,g1,g2,g3,g4,vl,rfl,az,b0,b3,b4,b2,b1,HU,HV,_⟩,_,a5⟩
  have ae:Below w w w7:=bG aw a5 ab;replace H:=(bM a5 (bO H).2.2 dQ).trans H;replace J:=je (xE (lo:=0) J ag a5 (fun _ _=>Nat.zero_le _) (fun _ _=>Nat.zero_le _) (fun _ _=>Nat.zero_le _) (fun _ _=>Nat.zero_le _) (.inr ac)) (Nat.le_trans ag a5.size);obtain ⟨x,y,qx,qy,m0,m1,m2,f1,f2⟩:=Ik az b0 b3 b4 b2 b1;rw [qx] at HV;simp only [qx];generalize (dS cp tk).1=y0 at *;obtain ⟨ya,yp,rfl,_⟩:=aF.seg HU.1;obtain ⟨yb,yq,rfl,_⟩:=aI.seg HU.2.1
  obtain ⟨yd,yr,rfl,_⟩:=dY.seg HU.2.2.1;obtain ⟨ye,ys,rfl,_⟩:=gU.seg HU.2.2.2;obtain ⟨xa,xp,rfl,_⟩:=aF.seg HV.1;obtain ⟨xb,xq,rfl,_⟩:=aI.seg HV.2.1;obtain ⟨xd,xr,rfl,_⟩:=dY.seg HV.2.2.1;obtain ⟨xe,xs,rfl,_⟩:=gU.seg HV.2.2.2;obtain ⟨Sx,Nx,_,_,_,_⟩:=mZ HV;have QY:=aA qy;have Mx:=aA m1;have Ly:=aA (Lj m2);have F1:=aA f1;have F2:=aA f2;have Lx:=Lj m1;clear qx qy m0 m1 m2 f1 f2 b2 b1 az b0 b3 b4 HU HV a7 a5 ab ac ag ba a4 aw
  go_wp2_with fail;generalize L:World.alloc (World.alloc w7 _) _=w8
  have a1:hp w8 (w7+1)=some (.cells #[x.ch.cap,x.ch.sent,x.ch.got,x.ch.fin,.slice xa x.ch.cells xp,.slice xb x.ch.words xq,.slice xd x.hands xr,.slice xe x.deals xs,x.now] 35):=by rw [← L];exact Bv _ _ _
  have F:Below w7 w7 w8:=by rw [← L];exact (bL _ _).trans ((bL _ _).mono cK)
  clear L;have ax:Below w w w8:=bT ae F;have bh:w≤w7.heap.size:=ae.size;replace Sx:=je (j6 Sx (Nat.le_refl _) F) F.size;replace J:=j6 J (Nat.le_refl _) F;have ah:=F.size;have bg:w1<w7.heap.size:=(bO H).2.2;replace H:=iC H F;clear F ae;refine (uP x 2000 xa xb xd xe xp xq xr xs _ Sx.1 Nx.1 Sx.2.1 Nx.2.1 Sx.2.2.1 Nx.2.2.1 Sx.2.2.2 Nx.2.2.2 (by have:=Lx.1;omega) (by have:=Lx.2.1;omega) (by have:=Lx.2.2.1;omega) (by have:=Lx.2.2.2;omega) Mx.out tO tO).mono ?_
  rintro _ w9 a2;rw [QY.out] at a2
  (try simp only [QY.out])
  generalize (setW x 2000).2=b7 at *;obtain ⟨⟨ca,cb,cd,ce,cp,cq,cr,cs,rfl,Sy,Ny,i1,i2,i3,i4⟩,F⟩:=ig.listsQ a2;have b6:w7+1<w8.heap.size:=(bO a1).2.2;have af:Below w w w9:=bT ax F;replace J:=j6 J ah F;replace H:=iC H F;replace a1:=iC a1 F;have ai:=Nat.le_trans ah F.size;clear a2 F Sx Nx Lx Mx QY ax ah;obtain ⟨V,O,T⟩:=bO a1;go_wp2_with fail;generalize L:World.setCell _ _ _=ak;have gb:w9.grownBy ak (some (w7.heap.size+1)):=by rw [← L];exact zG
  have M:hp ak (w7+1)=some (.cells #[y.ch.cap,y.ch.sent,y.ch.got,y.ch.fin,.slice ca y.ch.cells cp,.slice cb y.ch.words cq,.slice cd y.hands cr,.slice ce y.deals cs,y.now] 35):=by rw [← L];simp [qF,a1,tN]
  replace Sy:=je (xE Sy (Nat.le_refl _) gb i1 i2 i3 i4 (.inl b6)) gb.size;replace J:=je (xE (lo:=0) J ai gb (fun _ _=>Nat.zero_le _) (fun _ _=>Nat.zero_le _) (fun _ _=>Nat.zero_le _) (fun _ _=>Nat.zero_le _) (.inr (Nat.le_succ _))) (Nat.le_trans ai gb.size);replace H:=(bM gb (bO H).2.2 dQ).trans H;have ao:Below w w ak:=mO af gb af.size (fun q hq=>by simp at hq;omega);clear L a1 V O T i1 i2 i3 i4 gb b6 ai af
  obtain ⟨V,O,T⟩:=bO M;obtain ⟨U,N,R⟩:=bO H;refine (rY y ca cb cd ce cp cq cr cs _ Sy Ny Ly.out).mono ?_;rintro _ bc ⟨rfl,F⟩;rw [F1.out];have ap:Below w w bc:=bT ao F;replace Sy:=je (j6 Sy (Nat.le_refl _) F) F.size;replace J:=je (j6 J (Nat.le_refl _) F) F.size;replace M:=iC M F;replace H:=iC H F;clear F V O T U N R;obtain ⟨V,O,T⟩:=bO M;obtain ⟨U,N,R⟩:=bO H;go_wp2_with fail;refine (Qy y.ch y.hands y.deals y.now ca cb cd ce cp cq cr cs _ Sy.2.2.2 (by have:=Ly.out.2.2.2;omega)).mono ?_
  rintro _ be ⟨rfl,F⟩;generalize (y.deals.any fun d=>d.reply == 4)=ov at *;have a9:Below w w be:=bT ap F;replace Sy:=je (j6 Sy (Nat.le_refl _) F) F.size;replace J:=je (j6 J (Nat.le_refl _) F) F.size;replace M:=iC M F;replace H:=iC H F;clear F V O T U N R;obtain ⟨V,O,T⟩:=bO M;obtain ⟨U,N,R⟩:=bO H;cases ov with
  | true =>
   go_wp2_with fail;refine (uY u ua ub ud ue up uq ur us _ J Nu Lu).mono ?_
   rintro _ al ⟨rfl,F⟩;rw [a8.out];have Z:Below w w al:=bT a9 F;cases tf with
   | false =>
    go_wp2;go_ret;exact ⟨rfl,Z⟩
   | true =>
    have a6:=BH a8.out;replace J:=je (j6 J (Nat.le_refl _) F) F.size;replace H:=iC H F;clear F V O T U N R Sy M;obtain ⟨U,N,R⟩:=bO H;have HQ:=aA a6;clear a6;go_wp2_with fail;refine (rY u ua ub ud ue up uq ur us _ J Nu Lu).mono ?_;rintro _ am ⟨rfl,F⟩;rw [HQ.out];have a0:Below w w am:=bT Z F;go_wp2;go_ret;exact ⟨rfl,a0⟩
  | false =>
   go_wp2_with fail;refine (uY y ca cb cd ce cp cq cr cs _ Sy Ny Ly.out).mono ?_
   rintro _ al ⟨rfl,F⟩;rw [F2.out];have Z:Below w w al:=bT a9 F;replace Sy:=je (j6 Sy (Nat.le_refl _) F) F.size;replace J:=je (j6 J (Nat.le_refl _) F) F.size;replace M:=iC M F;replace H:=iC H F;clear F V O T U N R;obtain ⟨V,O,T⟩:=bO M;obtain ⟨U,N,R⟩:=bO H;go_wp2_with fail;refine (uY u ua ub ud ue up uq ur us _ J Nu Lu).mono ?_;rintro _ am ⟨rfl,F⟩;rw [a8.out];have a0:Below w w am:=bT Z F;cases tf with
   | false =>
    go_wp2;go_ret;exact ⟨rfl,a0⟩
   | true =>
    have a6:=BH a8.out;replace J:=je (j6 J (Nat.le_refl _) F) F.size;replace H:=iC H F;clear F V O T U N R Sy M;obtain ⟨U,N,R⟩:=bO H;have HQ:=aA a6;clear a6;go_wp2_with fail;refine (rY u ua ub ud ue up uq ur us _ J Nu Lu).mono ?_;rintro _ bf ⟨rfl,F⟩;rw [HQ.out];have aq:Below w w bf:=bT a0 F;go_wp2;go_ret;exact ⟨rfl,aq⟩
 ·obtain ⟨xq,fq,lq⟩:=bO (iC H G.out.1)
  go_simp;refine hK.out (upd s 14 (.agg #[u.ch.cap,u.ch.sent,u.ch.got,u.ch.fin,.slice ua u.ch.cells up,.slice ub u.ch.words uq,.slice ud u.hands ur,.slice ue u.deals us,u.now])) _ _ gM ⟨G.out.1,fun _=>rfl,fun h=>absurd h (by rw [show upd l 0 true 1=l 1 from rfl,I 1 rfl];exact Bool.false_ne_true),fun h=>(G.out.2.2.2.1 h),fun h=>(G.out.2.2.2.2.1 h),fun h=>absurd h (by rw [show upd l 0 true 4=l 4 from rfl,I 4 rfl];exact Bool.false_ne_true),fun h=>absurd h (by rw [show upd l 0 true 5=l 5 from rfl,I 5 rfl];exact Bool.false_ne_true),fun h=>absurd h (by rw [show upd l 0 true 6=l 6 from rfl,I 6 rfl];exact Bool.false_ne_true),fun h=>absurd h (by rw [show upd l 0 true 7=l 7 from rfl,I 7 rfl];exact Bool.false_ne_true),fun h=>absurd h (by rw [show upd l 0 true 8=l 8 from rfl,I 8 rfl];exact Bool.false_ne_true),fun h=>absurd h (by rw [show upd l 0 true 9=l 9 from rfl,I 9 rfl];exact Bool.false_ne_true),fun h=>absurd h (by rw [show upd l 0 true 10=l 10 from rfl,I 10 rfl];exact Bool.false_ne_true),fun h=>absurd h (by rw [show upd l 0 true 11=l 11 from rfl,I 11 rfl];exact Bool.false_ne_true)⟩
 ·have e0:=(G.out.2.1 (X 0 rfl))
  go_simp
  go_at_call 32
  refine (rY u ua ub ud ue up uq ur us _ (je (j6 J (Nat.le_refl _) G.out.1) (Below.size G.out.1)) Nu Lu).mono ?_;rintro _ wy ⟨rfl,hE⟩;rw [b5.out];refine hK.out (upd s 15 (.bool tq)) _ _ yj ⟨bT G.out.1 hE,fun h=>(G.out.2.1 h),fun _=>rfl,fun h=>(G.out.2.2.2.1 h),fun h=>(G.out.2.2.2.2.1 h),fun h=>absurd h (by rw [show upd l 1 true 4=l 4 from rfl,I 4 rfl];exact Bool.false_ne_true),fun h=>absurd h (by rw [show upd l 1 true 5=l 5 from rfl,I 5 rfl];exact Bool.false_ne_true),fun h=>absurd h (by rw [show upd l 1 true 6=l 6 from rfl,I 6 rfl];exact Bool.false_ne_true),fun h=>absurd h (by rw [show upd l 1 true 7=l 7 from rfl,I 7 rfl];exact Bool.false_ne_true),fun h=>absurd h (by rw [show upd l 1 true 8=l 8 from rfl,I 8 rfl];exact Bool.false_ne_true),fun h=>absurd h (by rw [show upd l 1 true 9=l 9 from rfl,I 9 rfl];exact Bool.false_ne_true),fun h=>absurd h (by rw [show upd l 1 true 10=l 10 from rfl,I 10 rfl];exact Bool.false_ne_true),fun h=>absurd h (by rw [show upd l 1 true 11=l 11 from rfl,I 11 rfl];exact Bool.false_ne_true)⟩
 ·obtain ⟨xq,fq,lq⟩:=bO (iC H G.out.1)
  go_simp;refine hK.out (upd s 16 (.agg #[u.ch.cap,u.ch.sent,u.ch.got,u.ch.fin,.slice ua u.ch.cells up,.slice ub u.ch.words uq,.slice ud u.hands ur,.slice ue u.deals us,u.now])) _ _ gM ⟨G.out.1,fun h=>(G.out.2.1 h),fun h=>(G.out.2.2.1 h),fun _=>rfl,fun h=>absurd h (by rw [show upd l 2 true 3=l 3 from rfl,I 3 rfl];exact Bool.false_ne_true),fun h=>absurd h (by rw [show upd l 2 true 4=l 4 from rfl,I 4 rfl];exact Bool.false_ne_true),fun h=>absurd h (by rw [show upd l 2 true 5=l 5 from rfl,I 5 rfl];exact Bool.false_ne_true),fun h=>absurd h (by rw [show upd l 2 true 6=l 6 from rfl,I 6 rfl];exact Bool.false_ne_true),fun h=>absurd h (by rw [show upd l 2 true 7=l 7 from rfl,I 7 rfl];exact Bool.false_ne_true),fun h=>absurd h (by rw [show upd l 2 true 8=l 8 from rfl,I 8 rfl];exact Bool.false_ne_true),fun h=>absurd h (by rw [show upd l 2 true 9=l 9 from rfl,I 9 rfl];exact Bool.false_ne_true),fun h=>absurd h (by rw [show upd l 2 true 10=l 10 from rfl,I 10 rfl];exact Bool.false_ne_true),fun h=>absurd h (by rw [show upd l 2 true 11=l 11 from rfl,I 11 rfl];exact Bool.false_ne_true)⟩
 ·have e2:=(G.out.2.2.2.1 (X 2 rfl))
  go_simp
  go_at_call 33
  refine (si u ua ub ud ue up uq ur us _ (je (j6 J (Nat.le_refl _) G.out.1) (Below.size G.out.1)).1 Nu.1 (je (j6 J (Nat.le_refl _) G.out.1) (Below.size G.out.1)).2.1 Nu.2.1 (je (j6 J (Nat.le_refl _) G.out.1) (Below.size G.out.1)).2.2.1 (je (j6 J (Nat.le_refl _) G.out.1) (Below.size G.out.1)).2.2.2 (by have:=Lu.1;omega) (by have:=Lu.2.2.1;omega) (by have:=Lu.2.2.2;omega)).mono ?_;rintro _ wy ⟨rfl,hE⟩
  rw [b5.out];refine hK.out (upd s 17 (.bool tq)) _ _ wR ⟨bT G.out.1 hE,fun h=>(G.out.2.1 h),fun h=>(G.out.2.2.1 h),fun h=>(G.out.2.2.2.1 h),fun _=>rfl,fun h=>absurd h (by rw [show upd l 3 true 4=l 4 from rfl,I 4 rfl];exact Bool.false_ne_true),fun h=>absurd h (by rw [show upd l 3 true 5=l 5 from rfl,I 5 rfl];exact Bool.false_ne_true),fun h=>absurd h (by rw [show upd l 3 true 6=l 6 from rfl,I 6 rfl];exact Bool.false_ne_true),fun h=>absurd h (by rw [show upd l 3 true 7=l 7 from rfl,I 7 rfl];exact Bool.false_ne_true),fun h=>absurd h (by rw [show upd l 3 true 8=l 8 from rfl,I 8 rfl];exact Bool.false_ne_true),fun h=>absurd h (by rw [show upd l 3 true 9=l 9 from rfl,I 9 rfl];exact Bool.false_ne_true),fun h=>absurd h (by rw [show upd l 3 true 10=l 10 from rfl,I 10 rfl];exact Bool.false_ne_true),fun h=>absurd h (by rw [show upd l 3 true 11=l 11 from rfl,I 11 rfl];exact Bool.false_ne_true)⟩
 ·have e1:=(G.out.2.2.1 (X 1 rfl))
  have e3:=(G.out.2.2.2.2.1 (X 3 rfl));go_simp;refine hK.out (upd s 18 (.bool false)) _ _ (by simp [aX,e1,e3] <;> rfl) ⟨G.out.1,fun h=>(G.out.2.1 h),fun h=>(G.out.2.2.1 h),fun h=>(G.out.2.2.2.1 h),fun h=>(G.out.2.2.2.2.1 h),fun _=>rfl,fun h=>absurd h (by rw [show upd l 4 true 5=l 5 from rfl,I 5 rfl];exact Bool.false_ne_true),fun h=>absurd h (by rw [show upd l 4 true 6=l 6 from rfl,I 6 rfl];exact Bool.false_ne_true),fun h=>absurd h (by rw [show upd l 4 true 7=l 7 from rfl,I 7 rfl];exact Bool.false_ne_true),fun h=>absurd h (by rw [show upd l 4 true 8=l 8 from rfl,I 8 rfl];exact Bool.false_ne_true),fun h=>absurd h (by rw [show upd l 4 true 9=l 9 from rfl,I 9 rfl];exact Bool.false_ne_true),fun h=>absurd h (by rw [show upd l 4 true 10=l 10 from rfl,I 10 rfl];exact Bool.false_ne_true),fun h=>absurd h (by rw [show upd l 4 true 11=l 11 from rfl,I 11 rfl];exact Bool.false_ne_true)⟩
 ·have e4:=(G.out.2.2.2.2.2.1 (X 4 rfl))
  go_simp;refine hK.out (upd s 19 (.bool false)) _ _ zJ ⟨G.out.1,fun h=>(G.out.2.1 h),fun h=>(G.out.2.2.1 h),fun h=>(G.out.2.2.2.1 h),fun h=>(G.out.2.2.2.2.1 h),fun h=>(G.out.2.2.2.2.2.1 h),fun _=>rfl,fun h=>absurd h (by rw [show upd l 5 true 6=l 6 from rfl,I 6 rfl];exact Bool.false_ne_true),fun h=>absurd h (by rw [show upd l 5 true 7=l 7 from rfl,I 7 rfl];exact Bool.false_ne_true),fun h=>absurd h (by rw [show upd l 5 true 8=l 8 from rfl,I 8 rfl];exact Bool.false_ne_true),fun h=>absurd h (by rw [show upd l 5 true 9=l 9 from rfl,I 9 rfl];exact Bool.false_ne_true),fun h=>absurd h (by rw [show upd l 5 true 10=l 10 from rfl,I 10 rfl];exact Bool.false_ne_true),fun h=>absurd h (by rw [show upd l 5 true 11=l 11 from rfl,I 11 rfl];exact Bool.false_ne_true)⟩
 ·have e5:=(G.out.2.2.2.2.2.2.1 (X 5 rfl))
  obtain ⟨xq,fq,lq⟩:=bO (iC an G.out.1);go_simp;refine hK.out (upd s 20 (.agg #[v.ch.cap,v.ch.sent,v.ch.got,v.ch.fin,.slice va v.ch.cells vp,.slice vb v.ch.words vq,.slice vd v.hands vr,.slice ve v.deals vs,v.now])) _ _ mK ⟨G.out.1,fun h=>(G.out.2.1 h),fun h=>(G.out.2.2.1 h),fun h=>(G.out.2.2.2.1 h),fun h=>(G.out.2.2.2.2.1 h),fun h=>(G.out.2.2.2.2.2.1 h),fun h=>(G.out.2.2.2.2.2.2.1 h),fun _=>rfl,fun h=>absurd h (by rw [show upd l 6 true 7=l 7 from rfl,I 7 rfl];exact Bool.false_ne_true),fun h=>(G.out.2.2.2.2.2.2.2.2.2.1 h),fun h=>(G.out.2.2.2.2.2.2.2.2.2.2.1 h),fun h=>absurd h (by rw [show upd l 6 true 10=l 10 from rfl,I 10 rfl];exact Bool.false_ne_true),fun h=>absurd h (by rw [show upd l 6 true 11=l 11 from rfl,I 11 rfl];exact Bool.false_ne_true)⟩
 ·have e6:=(G.out.2.2.2.2.2.2.2.1 (X 6 rfl))
  have e5:=(G.out.2.2.2.2.2.2.1 (X 5 rfl));go_simp
  go_at_call 18
  refine (uY v va vb vd ve vp vq vr vs _ (je (j6 Sv (Nat.le_refl _) G.out.1) (Below.size G.out.1)) Nv Lv).mono ?_;rintro _ wy ⟨rfl,hE⟩;rw [aj.out];refine hK.out (upd s 21 (.bool tv)) _ _ (by simp [aX,e6,e5] <;> rfl) ⟨bT G.out.1 hE,fun h=>(G.out.2.1 h),fun h=>(G.out.2.2.1 h),fun h=>(G.out.2.2.2.1 h),fun h=>(G.out.2.2.2.2.1 h),fun h=>(G.out.2.2.2.2.2.1 h),fun h=>(G.out.2.2.2.2.2.2.1 h),fun h=>(G.out.2.2.2.2.2.2.2.1 h),fun _=>rfl,fun h=>(G.out.2.2.2.2.2.2.2.2.2.1 h),fun h=>(G.out.2.2.2.2.2.2.2.2.2.2.1 h),fun h=>absurd h (by rw [show upd l 7 true 10=l 10 from rfl,I 10 rfl];exact Bool.false_ne_true),fun h=>absurd h (by rw [show upd l 7 true 11=l 11 from rfl,I 11 rfl];exact Bool.false_ne_true)⟩
 ·have e5:=(G.out.2.2.2.2.2.2.1 (X 5 rfl))
  obtain ⟨xq,fq,lq⟩:=bO (iC an G.out.1);go_simp;refine hK.out (upd s 22 (.agg #[v.ch.cap,v.ch.sent,v.ch.got,v.ch.fin,.slice va v.ch.cells vp,.slice vb v.ch.words vq,.slice vd v.hands vr,.slice ve v.deals vs,v.now])) _ _ mK ⟨G.out.1,fun h=>(G.out.2.1 h),fun h=>(G.out.2.2.1 h),fun h=>(G.out.2.2.2.1 h),fun h=>(G.out.2.2.2.2.1 h),fun h=>(G.out.2.2.2.2.2.1 h),fun h=>(G.out.2.2.2.2.2.2.1 h),fun h=>(G.out.2.2.2.2.2.2.2.1 h),fun h=>(G.out.2.2.2.2.2.2.2.2.1 h),fun _=>rfl,fun h=>absurd h (by rw [show upd l 8 true 9=l 9 from rfl,I 9 rfl];exact Bool.false_ne_true),fun h=>absurd h (by rw [show upd l 8 true 10=l 10 from rfl,I 10 rfl];exact Bool.false_ne_true),fun h=>absurd h (by rw [show upd l 8 true 11=l 11 from rfl,I 11 rfl];exact Bool.false_ne_true)⟩
 ·have e8:=(G.out.2.2.2.2.2.2.2.2.2.1 (X 8 rfl))
  have e5:=(G.out.2.2.2.2.2.2.1 (X 5 rfl));go_simp
  go_at_call 34
  refine (Ie v va vb vd ve vp vq vr vs _ (je (j6 Sv (Nat.le_refl _) G.out.1) (Below.size G.out.1)).1 Nv.1 (je (j6 Sv (Nat.le_refl _) G.out.1) (Below.size G.out.1)).2.1 Nv.2.1 (je (j6 Sv (Nat.le_refl _) G.out.1) (Below.size G.out.1)).2.2.1 (je (j6 Sv (Nat.le_refl _) G.out.1) (Below.size G.out.1)).2.2.2 (by have:=Lv.1;omega) (by have:=Lv.2.2.1;omega) (by have:=Lv.2.2.2;omega)).mono ?_;rintro _ wy ⟨rfl,hE⟩
  rw [aj.out];refine hK.out (upd s 23 (.bool tv)) _ _ (by simp [aX,e8,e5] <;> rfl) ⟨bT G.out.1 hE,fun h=>(G.out.2.1 h),fun h=>(G.out.2.2.1 h),fun h=>(G.out.2.2.2.1 h),fun h=>(G.out.2.2.2.2.1 h),fun h=>(G.out.2.2.2.2.2.1 h),fun h=>(G.out.2.2.2.2.2.2.1 h),fun h=>(G.out.2.2.2.2.2.2.2.1 h),fun h=>(G.out.2.2.2.2.2.2.2.2.1 h),fun h=>(G.out.2.2.2.2.2.2.2.2.2.1 h),fun _=>rfl,fun h=>absurd h (by rw [show upd l 9 true 10=l 10 from rfl,I 10 rfl];exact Bool.false_ne_true),fun h=>absurd h (by rw [show upd l 9 true 11=l 11 from rfl,I 11 rfl];exact Bool.false_ne_true)⟩
 ·have e7:=(G.out.2.2.2.2.2.2.2.2.1 (X 7 rfl))
  have e9:=(G.out.2.2.2.2.2.2.2.2.2.2.1 (X 9 rfl));have e5:=(G.out.2.2.2.2.2.2.1 (X 5 rfl));go_simp;refine hK.out (upd s 24 (.bool false)) _ _ (by simp [aX,e7,e9,e5] <;> rfl) ⟨G.out.1,fun h=>(G.out.2.1 h),fun h=>(G.out.2.2.1 h),fun h=>(G.out.2.2.2.1 h),fun h=>(G.out.2.2.2.2.1 h),fun h=>(G.out.2.2.2.2.2.1 h),fun h=>(G.out.2.2.2.2.2.2.1 h),fun h=>(G.out.2.2.2.2.2.2.2.1 h),fun h=>(G.out.2.2.2.2.2.2.2.2.1 h),fun h=>(G.out.2.2.2.2.2.2.2.2.2.1 h),fun h=>(G.out.2.2.2.2.2.2.2.2.2.2.1 h),fun _=>rfl,fun h=>absurd h (by rw [show upd l 10 true 11=l 11 from rfl,I 11 rfl];exact Bool.false_ne_true)⟩
 ·have e5:=(G.out.2.2.2.2.2.2.1 (X 5 rfl))
  have b8:=(G.out.2.2.2.2.2.2.2.2.2.2.2.1 (X 10 rfl));go_simp;refine hK.out (upd s 25 (.bool false)) _ _ (by simp [aX,e5,b8] <;> rfl) ⟨G.out.1,fun h=>(G.out.2.1 h),fun h=>(G.out.2.2.1 h),fun h=>(G.out.2.2.2.1 h),fun h=>(G.out.2.2.2.2.1 h),fun h=>(G.out.2.2.2.2.2.1 h),fun h=>(G.out.2.2.2.2.2.2.1 h),fun h=>(G.out.2.2.2.2.2.2.2.1 h),fun h=>(G.out.2.2.2.2.2.2.2.2.1 h),fun h=>(G.out.2.2.2.2.2.2.2.2.2.1 h),fun h=>(G.out.2.2.2.2.2.2.2.2.2.2.1 h),fun h=>(G.out.2.2.2.2.2.2.2.2.2.2.2.1 h),fun _=>rfl⟩
end
section
open Go.ChangeShapes Go.WideShapes Go.ChangeAt Go.RowKit
namespace FnQuiet
theorem lifted (Z:Os) (G:Z.Started) (H:Type) (enc:TypeId × Value→H) :
  ReturnsInHanded {} Tryz.checked Z 5 .any (Rows.fnQuietSpec.pre6 enc prog Tryz.f5 Rows.fnQuietRow.domain false) (Rows.fnQuietSpec.post enc prog Tryz.f5 false true false false):=by
 refine returnsInHanded_of_change (C:=Tryz.checked) own G bH func5
  (ChangeSpec.witness6 (enc:=enc) (C:=Tryz.checked) false ⟨#[],#[.slice none 0 0],[]⟩ 8 bH bH bH bH) ?_
 intro W J args ds gs N F V X _;have I:∀ (j:Nat) t v,Tryz.f5.params[j]?=some t→args[j]?=some v→Value.okWide prog W .any J t v:=F;have hW':=V;obtain ⟨p,q,M,hV,rfl,a2,a3⟩:=V;have U:DataW.TrodAll enc prog W 0 (fun _=>true) true Tryz.f5.params.toList args.toList ds p:=M;rw [Tryz.params5] at U I;obtain ⟨v0,a4,d0,a1,p0,q0,O,rfl,rfl,T,r0⟩:=trodAll_cons U;obtain ⟨rfl,rfl,rfl⟩:=trodAll_nil r0;obtain rfl:args=#[v0]:=by cases args;simp_all
 obtain ⟨rfl,rfl⟩:=trodVars_none hV;have Y:=T;have R:∀ x ∈ p0,x.block<W.heap.size:=by obtain ⟨m,hm⟩:=Y;exact DataW.trod_lt m _ _ _ hm
 obtain ⟨a0,n0,L,l0,rfl,m0,z0,S0⟩:=Vm (I 0 22 v0 rfl rfl) T;clear M F;refine (Il n0 L a0 l0 W z0 S0).mono fun e W' ⟨he,K⟩=>?_
 subst he;exact ⟨_,rfl,_,_,_,[],_,[],hW',trodAll_mk1 (shut_bool underlying4 _),(trodAll_cons_mk (Below.trod laidOut bH (of_decide_eq_true bH) Y K R) trodAll_mk0),rfl,K.frame _,fun h=>by cases h⟩
theorem over:Rows.fnQuietRow.holds Tryz.pinned (OpenSpec.ofChange Rows.fnQuietSpec) :=
 OpenClaim.holds_of_wide 5 Tryz.f5 rfl rfl rfl rfl rfl rfl rfl ⟨rfl,rfl,rfl,rfl,rfl⟩ rfl rfl rfl rfl rfl bH func5 bH
  (of_decide_eq_true bH) (by unfold Func.isWrapper;first|(rw [if_pos (by decide +kernel)];kernel_rfl)|(rw [if_neg (by decide +kernel)];exact ⟨rfl,rfl⟩))
  (fun G F H enc _=>lifted G F H enc)
end FnQuiet
theorem fnQuiet_proved:Rows.FnQuietSaid:=FnQuiet.over
end
end Go.Proofs.YtffhjmepfojhnaaGreat
