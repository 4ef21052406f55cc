/-
  Small lemmas on worlds, lists in memory and cells; no condition.
-/
import Derived.Test.YtffhjmepfojhnaaGreatProg
import Derived.WalkKit
import Derived.WalkSpells
import Derived.WalkLawsBesides
import Derived.Lib.Hide
import Derived.BigQuiet
import Derived.Deep.QuietTactic
import Derived.Deep.RegionHeld3
import Derived.StillTailTactics
import Derived.Laws.AppendOwnNone
import Derived.Laws.IdiomCopy
set_option maxRecDepth 100000
set_option maxHeartbeats 2000000
set_option linter.unusedSimpArgs false
set_option linter.unusedVariables false
namespace Go.Proofs.YtffhjmepfojhnaaGreat
open _root_.Go.Proofs.Tryz
theorem qd {p:Prop} (h:p:=by first|exact UJ A rfl (sc_at k tO ce) (jr k) (by unfold rc;simp [aM,anew,begun,dC,k]) (.inr ⟨rfl,rfl,rfl⟩)|exact UJ A rfl (sc_at k tO ce) (jr k) (by unfold rc;simp [aM,anew,begun,dC,k]) (.inl ⟨by simp,by simp [aM,anew,begun,dC,k]⟩)):p:=h
theorem nz {p:Prop} (h:p:=by first|(refine .inl (rc_at (by first|exact k|rfl) ?_ (by first|exact ce|rfl));simp [dL];done)|(refine .inr (iO ?_);simp [aM,anew,begun,dD,k])):p:=h
theorem wN {p:Prop} (h:p:=by (repeat (first|with_reducible exact V|with_reducible refine World.ownsRow.alloc ?_ _|with_reducible refine World.ownsRow.drew ?_|((with_reducible refine aV ?_ ?_ _);rotate_left;(focus (first|exact n1|exact m1)))))):p:=h
theorem bH {p:Prop} (h:p:=by kernel_rfl):p:=h
theorem fK {p:Prop} (h:p:=by ((try simp);(try omega))):p:=h
theorem VX {p:Prop} (h:p:=by unfold rc;simp [aM,anew,begun,dC,k]):p:=h
theorem wO {p:Prop} (h:p:=by first|exact .inl ⟨k,by simp,b.2.1⟩|exact .inr ⟨_,k,b,rfl⟩|exact .inr ⟨dC (aD hs i) (aY c' m),k,b,rfl⟩):p:=h
theorem gM {p:Prop} (h:p:=by simp [aX] <;> rfl):p:=h
theorem dM {p:Prop} (h:p:=by assumption):p:=h
theorem cB {p:Prop} (h:p:=by decide):p:=h
theorem zF {p:Prop} (h:p:=by (repeat (first|with_reducible exact o2|with_reducible refine World.ownsRow.alloc ?_ _|with_reducible refine World.ownsRow.drew ?_|((with_reducible refine aV ?_ ?_ _);rotate_left;(focus (first|exact n2|exact m2)))))):p:=h
theorem ky {p:Prop} (h:p:=by first|exact ce|rfl):p:=h
theorem iU {p:Prop} (h:p:=by ((try simp) <;> (try omega))):p:=h
theorem dQ {p:Prop} (h:p:=by simp;omega):p:=h
theorem eu {p:Prop} (h:p:=by simp [F,h1]):p:=h
theorem iB {p:Prop} (h:p:=by simp [F,QT h1]):p:=h
theorem cK {p:Prop} (h:p:=by simp):p:=h
theorem kV {p:Prop} (h:p:=by simp [aX,H] <;> rfl):p:=h
theorem kY {p:Prop} (h:p:=by simp [aX,F] <;> rfl):p:=h
theorem TU {p:Prop} (h:p:=by first|exact k|rfl):p:=h
theorem il {p:Prop} (h:p:=by rw [gu]):p:=h
theorem mK {p:Prop} (h:p:=by simp [aX,e5] <;> rfl):p:=h
theorem gN {p:Prop} (h:p:=by simp [F]):p:=h
theorem oC {p:Prop} (h:p:=by (try simp) <;> (try omega)):p:=h
theorem pg {p:Prop} (h:p:=by rw [q];unfold gL;omega):p:=h
theorem pQ {p:Prop} (h:p:=by simp [aX,e1] <;> rfl):p:=h
theorem vv {p:Prop} (h:p:=by refine L b ?_ _ ?_ ?_ ?_ ?_ <;> rfl):p:=h
theorem C8 {p:Prop} (h:p:=by rw [S];exact ⟨.inl,fun h=>h.elim id (fun h=>(by cases h))⟩):p:=h
theorem sj {p:Prop} (h:p:=by simp [World.setCell];omega):p:=h
theorem mq {p:Prop} (h:p:=by simp [aM]):p:=h
theorem TV {p:Prop} (h:p:=by (repeat first|with_reducible exact s2|with_reducible refine xG ?_ _|with_reducible refine wM ?_|((with_reducible first|refine aV ?_ ?_ _|refine fC ?_ ?_);rotate_left;focus first|(refine own_ne u4 ?_;(try dsimp only);omega)|(refine dN u4 ?_;(try dsimp only);omega)|exact g4))):p:=h
theorem TW {p:Prop} (h:p:=by (repeat first|with_reducible exact s1|with_reducible refine xG ?_ _|with_reducible refine wM ?_|((with_reducible first|refine aV ?_ ?_ _|refine fC ?_ ?_);rotate_left;focus first|(refine own_ne u3 ?_;(try dsimp only);omega)|(refine dN u3 ?_;(try dsimp only);omega)|exact g3))):p:=h
theorem yg {p:Prop} (h:p:=by simp [results,results166,go_sem, *]):p:=h
theorem su {p:Prop} (h:p:=by simp [aX,R] <;> rfl):p:=h
theorem C9 {p:Prop} (h:p:=by simp [go_sem, *] <;> first|rfl|simp [dD,anew,G]):p:=h
theorem CE {p:Prop} (h:p:=by simp [go_sem, *] <;> first|rfl|simp [dC,anew,H]):p:=h
theorem zH {p:Prop} (h:p:=by simp [results,results114,go_sem, *]):p:=h
theorem zI {p:Prop} (h:p:=by simp [fO,aJ,aB,Array.getD]):p:=h
theorem mr {p:Prop} (h:p:=by rw [L m e]):p:=h
theorem wP {p:Prop} (h:p:=by simp [aX,e8] <;> rfl):p:=h
theorem wQ {p:Prop} (h:p:=by simp [aX,e7] <;> rfl):p:=h
theorem wR {p:Prop} (h:p:=by simp [aX,e2] <;> rfl):p:=h
theorem qp {p:Prop} (h:p:=by simp [*,go_sem]):p:=h
theorem TY {p:Prop} (h:p:=by (have ee:l 10=false:=I 10 rfl);(have F:=(jC hf.out).2.1);rw [ee] at F;rw [show upd l 5 true 10=false from ee];exact kI F hO ((jC hf.out).2.2.1 hl) ((jC hf.out).2.2.2.1 hl) (by decide) (by decide)):p:=h
theorem wS {p:Prop} (h:p:=by simp [aX,J] <;> rfl):p:=h
theorem TZ {p:Prop} (h:p:=by (have ee:l 9=false:=I 9 rfl);(have F:=hf.out.2.2.2.2.1);rw [ee] at F;rw [show upd l 5 true 9=false from ee];exact kI F hO ((jC hf.out).2.2.1 hl) ((jC hf.out).2.2.2.1 hl) (by decide) (by decide)):p:=h
theorem vw {p:Prop} (h:p:=by rw [hr] at e;cases e):p:=h
theorem qw {p:Prop} (h:p:=by simp;try omega):p:=h
theorem yh {p:Prop} (h:p:=by simp [aX,e3] <;> rfl):p:=h
theorem yj {p:Prop} (h:p:=by simp [aX,e0] <;> rfl):p:=h
theorem tC {p:Prop} (h:p:=by simp [dV];omega):p:=h
theorem qz {p:Prop} (h:p:=by simp [go_sem]):p:=h
theorem yl {p:Prop} (h:p:=by simp [aX,O] <;> rfl):p:=h
theorem Fj {p:Prop} (h:p:=by simp [results,results135,go_sem, *]):p:=h
theorem sF {p:Prop} (h:p:=by simpa using H):p:=h
theorem Fp {p:Prop} (h:p:=by unfold aY;rw [(ym c _ _).1]):p:=h
theorem yo {p:Prop} (h:p:=by simp [go_sem] <;> rfl):p:=h
theorem ja {p:Prop} (h:p:=by rfl):p:=h
theorem NU {p:Prop} (h:p:=by repeat (with_reducible first|exact D.out|refine DI.alloc ?_|refine DI.drew ?_)):p:=h
theorem K4 {p:Prop} (h:p:=by simp [go_sem, *] <;> first|rfl|simp [dC,anew,G]):p:=h
theorem zJ {p:Prop} (h:p:=by simp [aX,e4] <;> rfl):p:=h
theorem yt {p:Prop} (h:p:=by (try simp);try omega):p:=h
theorem K5 {p:Prop} (h:p:=by rw [Bool.and_eq_true];exact ⟨q.b,by simp [F]⟩):p:=h
theorem K6 {p:Prop} (h:p:=by simp [go_sem, *] <;> first|rfl|simp [dD,T]):p:=h
theorem NV {p:Prop} (h:p:=by show aY (setAt c (n:Int) _) n=_;rw [nA _ (O n F),if_pos rfl]):p:=h
theorem zK {p:Prop} (h:p:=by show (0:Int)<24;omega):p:=h
theorem zL {p:Prop} (h:p:=by rw [← a1];exact zG):p:=h
theorem zM {p:Prop} (h:p:=by unfold maxLen;omega):p:=h
theorem K7 {p:Prop} (h:p:=by simp [results,results188,go_sem, *]):p:=h
theorem wT {p:Prop} (h:p:=by simpa using I):p:=h
theorem yu {p:Prop} (h:p:=by subst e;rw [L0]):p:=h
theorem CF {p:Prop} (h:p:=by simp [Value.oneCell']):p:=h
theorem qA {p:Prop} (h:p:=by cases e):p:=h
theorem yw {p:Prop} (h:p:=by simpa using J):p:=h
theorem Fq {p:Prop} (h:p:=by show (16:Int)≠0;omega):p:=h
theorem CG {p:Prop} (h:p:=by rw [q.len];exact F):p:=h
theorem zQ {p:Prop} (h:p:=by simpa using hp):p:=h
theorem NW {p:Prop} (h:p:=by simp [go_sem, *] <;> first|rfl|simp [dC,O]):p:=h
theorem CJ {p:Prop} (h:p:=by rw [ji g y e]):p:=h
theorem CK {p:Prop} (h:p:=by first|exact r|rfl):p:=h
theorem vz {p:Prop} (h:p:=by simp [q]):p:=h
theorem NY {p:Prop} (h:p:=by rw [s'] at h;exact (Option.some.inj h).symm):p:=h
theorem K8 {p:Prop} (h:p:=by have:=h.lt;have:=h.le;omega):p:=h
theorem NZ {p:Prop} (h:p:=by
  clear h1 h2 z1 z2 e;have d1:∀ j,(Value.slice none 0 0).ownBlock=some j→w.heap.size+1+1+1+1≤j:=fun j hj=>by cases hj
  have d2:=d1;go_enter func173,ntmps173;go_wp2_with fail;refine aK w zB fun bb=>?_;refine (T.out _ (aT H1 bb) Z1.out (aT H2 bb) Z2.out).mono ?_;rintro _ w2 ⟨⟨y1,y2,rfl,jF,jG,nQ,ny⟩,hbw2⟩;obtain ⟨zT,vP,zz⟩:=gZ bb hbw2 (b:=w);(try simp at vP);(try simp [go_sem] at zz);replace bX:=fP zz;clear zz hbw2 bb
  replace jF:aF w2 w y1 x.1.cells:=aL (lo':=w) jF tS;replace jG:aI w2 w y2 x.1.words:=aL (lo':=w) jG tS;obtain ⟨⟨jb,jc⟩,uZ,vo⟩:=BI (w:=w) (w+1+1+1+1) nQ ny d1 d2;obtain ⟨ya,yp,rfl,_⟩:=jF.seg;obtain ⟨yb,yq,rfl,_⟩:=jG.seg;go_wp2;refine rE results173 rfl (bN x.1 (.slice ya x.1.cells yp) (.slice yb x.1.words yq) tY) rfl (aQ x.2.1 tY) ⟨⟨_,_,rfl,?_,?_,uZ,vo⟩,by exact zB⟩
  ·exact zP jF jF jb
  ·exact zP jG jG jc):p:=h
theorem Oa {p:Prop} (h:p:=by
  obtain ⟨⟨jb,jc⟩,uZ,vo⟩:=BI (w:=w) (w+1+1+1+1) nQ ny d1 d2;obtain ⟨ya,yp,rfl,_⟩:=jF.seg;obtain ⟨yb,yq,rfl,_⟩:=jG.seg;go_wp2;refine rE results191 rfl (bN x.1 (.slice ya x.1.cells yp) (.slice yb x.1.words yq) tY) rfl (aQ x.2.1 tY) ⟨⟨_,_,rfl,?_,?_,uZ,vo⟩,by exact zB⟩
  ·exact zP jF jF jb
  ·exact zP jG jG jc):p:=h
theorem UK {p:Prop} (h:p:=by
  rw [hyv] at hY;clear hyv;dsimp only at hY;go_wp2_with fail;refine aK w zB fun bb=>?_;refine (hY).mono ?_;rintro _ w4 ⟨⟨u1,u2,u3,u4,rfl,uo⟩,Ob⟩;obtain ⟨VY,UM,zz⟩:=sG bb Ob (b:=w);(try simp at UM);(first|simp [go_sem,bX] at zz|simp [go_sem] at zz|skip);replace bX:=pq zz;clear zz Ob bb
  have UO:=aA uo;obtain ⟨b1,b2,b3,b4,d1,d2,d3,d4,rfl,rfl,rfl,rfl,_⟩:=uo.opens;have N1:=UO.out.ne (b:=w+1+1) tO;have N4:=UO.out.ne' (b:=w4) (Nat.le_refl _);have UL:=UO.out.lo (lo':=w) tO;go_wp2
  all_goals (refine bodyPost_ret (v:=.tuple #[.agg #[y.ch.cap,y.ch.sent,y.ch.got,y.ch.fin,.slice b1 y.ch.cells d1,.slice b2 y.ch.words d2,.slice b3 y.hands d3,.slice b4 y.deals d4,y.now],.int .i64 rv]) (by simp [results,results80,go_sem, *]) rfl ⟨⟨_,_,_,_,rfl,?_⟩,by exact zB⟩)
  all_goals (repeat (first|with_reducible assumption|with_reducible refine dG.alloc ?_ _|with_reducible refine dG.drew ?_|((with_reducible refine dG.store ?_ ?_ _);rotate_left;(focus (first|exact N1|exact N4)))))):p:=h
theorem UN {p:Prop} (h:p:=by
  have jb:∀ j,w.heap.size≤j→j<w.heap.size+1+1+1+1→y1.ownBlock≠some j:=fun j _ h2=>nQ.off2 d1 h2 tS;have jc:∀ j,w.heap.size≤j→j<w.heap.size+1+1+1+1→y2.ownBlock≠some j:=fun j _ h2=>ny.off2 d2 h2 tS;have uZ:ic w (.slice none 0 0) y1:=fun j hj=>.inr (nQ.up d1 tS tS j hj);have vo:ic w (.slice none 0 0) y2:=fun j hj=>.inr (ny.up d2 tS tS j hj);obtain ⟨ya,yp,rfl,_⟩:=jF.seg;obtain ⟨yb,yq,rfl,_⟩:=jG.seg
  go_wp2;refine rE results189 rfl (bN x.1 (.slice ya x.1.cells yp) (.slice yb x.1.words yq) tY) rfl (aQ x.2.1 tY) ⟨⟨_,_,rfl,?_,?_,uZ,vo⟩,by exact zB⟩
  ·exact zP jF jF jb
  ·exact zP jG jG jc):p:=h
theorem UQ {p:Prop} (h:p:=by
  obtain ⟨a1,q1,a2,q2,rfl,rfl,O1,O2,b1,b2⟩:=BJ h1 h2;clear h1 h2;have o1:=O1.out;have o2:=O2.out;go_enter func268,ntmps268;go_wp2;go_step3;go_wp2;go_step3;go_wp2;refine wp_loop_rounds 2 ?_;rw [rounds_succ];go_wp2_with fail;rw [rounds_succ];go_wp2_with fail
  go_region_held3 (fun w'=>hp w' w=some (.cells (aH c (.slice a1 c.cells q1) (.slice a2 c.words q2)) 31)∧hp w' (w+1)=some (.cells (aB h) 49))
    (first|(simp [*,go_sem]))
    (first|((go_at_call 271;refine aK w zB fun bb=>?_;refine (GR.out _).mono ?_;rintro _ w2 ⟨rfl,hbw2⟩;obtain ⟨zT,vP,zz⟩:=gZ bb hbw2 (b:=w);(try simp at vP);(try simp [go_sem] at zz);replace bX:=fP zz;clear zz;have Ll:=zT;clear hbw2 bb);have r1:=own_below o1 Ll;have r2:=own_below o2 Ll))
  go_wp2
  try rw [Exit.noGoto_ret]
  refine rE results268 rfl (bN c (.slice a1 c.cells q1) (.slice a2 c.words q2) tZ) rfl (aQ y0 tZ) ⟨⟨_,_,rfl,?_,?_,aP _ _,aP _ _⟩,gy zB⟩
  · exact zO r1 o1
  · exact zO r2 o2):p:=h
theorem VZ {p:Prop} (h:p:=by
  have nR:w3<w9.heap.size:=by omega
  have sU:∀ o,w9.cell? ⟨w,o,none⟩=_:=fun o=>cell_of_row w9 w o _ _ _ VT
  have qY:∀ o,w9.cell? ⟨w3,o,none⟩=_:=fun o=>cell_of_row w9 w3 o _ _ _ QV
  have sV:∀ o,w9.frozen? ⟨w,o,none⟩=false:=dJ VT;have sZ:∀ o,w9.frozen? ⟨w3,o,none⟩=false:=dJ QV;have kW:=VT;have kS:=QV;clear VT QV Ip;cases y9
  ·go_wp2
   go_roundw
   case rel=>exact ⟨m - 1,y',_,_,_,_,by go_num,ya,AN,by omega,WI,Vy,kS,kW,by omega,by exact zD,by exact lY⟩
   case measure=>simp [intOf];omega
  ·obtain ⟨e1,_,e3⟩:=qf ya ht2
   have SN:=Iq ya ht2 AN;have yd:(stopped y' i).1.ch.words.length+(m - 1)≤37:=by omega
   have hST:=yx y' i b1 b2 b3 b4 d1 d2 d3 d4 _ _ WI ya;clear e3;generalize (stopped y' i).1=WO at *;go_wp2_with fail;refine aK w9 zB fun bk=>?_;refine (hST).mono ?_;rintro _ WQ ⟨⟨q1,q2,q3,q4,rfl,qo⟩,Fs⟩;have Vz:=Fs.size;(try simp at Vz);have zz:=And.intro (hQ Fs (b:=w3)) <| hQ Fs (b:=w);(first|simp [go_sem,kS,kW,oz,nR] at zz|simp [go_sem] at zz|skip);(try clear kS qY sZ nR);(try clear kW sU sV oz);obtain ⟨kS,kW⟩:=zz;obtain ⟨qY,sZ,nR⟩:=bO kS;obtain ⟨sU,sV,oz⟩:=bO kW;have Ua:Below w9 w9 WQ:=bT bk Fs;clear Fs bk
   have WR:=V3.below Ua;have WS:=gB Wd Ua;have QO:=aA qo;obtain ⟨p1,p2,p3,p4,r1,r2,r3,r4,rfl,rfl,rfl,rfl,_⟩:=qo.opens;have WJ:=QO.out.ne (b:=w3) tO;have QL:=QO.out.lo (lo':=w+1) tO;go_wp2;go_roundw
   case rel=>exact ⟨m - 1,WO,_,_,_,_,by go_num,e1,SN,yd,by (repeat (first|with_reducible assumption|with_reducible refine dG.alloc ?_ _|with_reducible refine dG.drew ?_|((with_reducible refine dG.store ?_ ?_ _);rotate_left;(focus (first|exact WJ))) )),WJ,by simp [go_sem, *],by simp [go_sem, *],by simp;omega,by exact zD,by exact lY⟩
   case measure=>simp [intOf];omega):p:=h
theorem UR {p:Prop} (h:p:=by
  have X1:=e5.2.1;have X2:=e5.2.2.1;clear e5;have zr:=hf.out.2.2.2.2.1;rw [hl] at zr;dsimp only [cond] at zr;obtain ⟨xa,xp,ea,_⟩:=X1.seg;obtain ⟨xb,xq,UT,_⟩:=X2.seg;rw [ea,UT] at e6;have zn:hp (dX wx (w+1+1) (aH x.1 (.slice xa x.1.cells xp) (.slice xb x.1.words xq))) (w+1+1)=some (.cells (aH x.1 (s 1003) (s 1004)) 31):=by rw [ea,UT];exact o7 zr
  have hO:=hf.out.1;go_simp
  refine hK.out (s) _ _ (by simp [aX,e6,ea,UT] <;> rfl) (kX (oX hO tO) (kX (Nat.le_trans hf.out.2.1 (Nat.le_of_eq dz.symm)) (kX ((dR tO).trans hf.out.2.2.1) (kX ((dR tO).trans hf.out.2.2.2.1) (kX (zn) (kX ((dR tO).trans (jC hf.out).2.1) (kX (fun h9=>nU h9 (show upd l 9 true 5=true from hd 5 rfl)) (kX (fun h9=>nU h9 (show upd l 9 true 5=true from hd 5 rfl)) (kC (kA (kX (fun h=>(let ⟨e,X1,X2,F1,F2⟩:=(jC (jD hf.out)).2.1 h;⟨e,iD X1 zr (by decide),iD X2 zr (by decide),F1,F2⟩)) id)))))))))) hf.out)):p:=h
theorem V4 {p:Prop} (h:p:=by
  have b1:=nC h1;have b2:=nC h2;have m1:=sH b1;have m2:=sH b2;have m10:=m1 (w.heap.size) tO;have m20:=m2 (w.heap.size) tO;have m11:=m1 (w+1) tO;have m21:=m2 (w+1) tO;have m12:=m1 (w+1+1) tO;have m22:=m2 (w+1+1) tO;have m13:=m1 (w+1+1+1) tO;have m23:=m2 (w+1+1+1) tO;have o1:=h1;have o2:=h2;obtain ⟨a1,q1,e1,_⟩:=h1.seg;obtain ⟨a2,q2,e2,_⟩:=h2.seg;subst e1 e2;clear h1 h2 e;go_enter func205,ntmps205;go_wp2_with fail
  go_region_held3 (fun w'=>hp w' w=some (.cells (aH c (.slice a1 c.cells q1) (.slice a2 c.words q2)) 31)∧hp w' (w+1)=some (.cells (aB h) 49))
   (first|(simp [*,go_sem]))
   (first|((go_at_call 206;refine aK w zB fun bb=>?_;refine (zU _ _ _).mono ?_;rintro _ w1 ⟨rfl,tF⟩;obtain ⟨zV,xH,zz⟩:=gZ bb tF (b:=w);(try simp at xH);(try simp [go_sem] at zz);replace bX:=fP zz;clear zz;have V5:=zV;clear tF bb);have p1:=own_below o1 zV;have p2:=own_below o2 zV;have We:ni (Value.slice a1 c.cells q1).ownBlock (Value.slice a2 c.words q2).ownBlock w w1:=gy zV)|(go_at_call 215;refine (K.out _ (zO p1 p1) (zO p2 p2)).mono ?_;rintro _ w3 ⟨⟨y1,y2,rfl,jF,jG,nQ,ny⟩,hO⟩;have qZ:=hO.2.2.2.1;(try (simp at qZ));have zz:=QU hO (b:=w);(first|simp [go_sem,bX] at zz|simp [go_sem] at zz|skip);replace bX:=fP zz;clear zz;have hO3:ni (Value.slice a1 c.cells q1).ownBlock (Value.slice a2 c.words q2).ownBlock w w3:=kv zN hO;clear hO;obtain ⟨⟨jb,jc⟩,uZ,vo⟩:=sO (w:=w) (w+1+1+1+1) nQ ny b1 b2;obtain ⟨ya,yp,rfl,_⟩:=jF.seg;obtain ⟨yb,yq,rfl,_⟩:=jG.seg))
  all_goals go_wp2
  all_goals (refine rE results205 rfl (bN x.1 (.slice ya x.1.cells yp) (.slice yb x.1.words yq) tY) rfl (aQ x.2.1 tY) ⟨⟨_,_,rfl,?_,?_,uZ,vo⟩,by exact zN⟩)
  all_goals (first|exact zP jF jF jb|skip)
  all_goals (first|exact zP jG jG jc|skip)):p:=h
theorem Lm {p:Prop} (h:p:=by
  obtain ⟨⟨jb,jc⟩,uZ,vo⟩:=BI (w:=w) (w+1+1+1+1) nQ ny d1 d2;obtain ⟨ya,yp,rfl,_⟩:=jF.seg;obtain ⟨yb,yq,rfl,_⟩:=jG.seg;go_wp2;refine rE results189 rfl (bN x.1 (.slice ya x.1.cells yp) (.slice yb x.1.words yq) tY) rfl (aQ x.2.1 tY) ⟨⟨_,_,rfl,?_,?_,uZ,vo⟩,by exact zB⟩
  ·exact zP jF jF jb
  ·exact zP jG jG jc):p:=h
theorem UX {p:Prop} (h:p:=by
  have X1:=e5.2.1;have X2:=e5.2.2.1;clear e5;have zr:=(jC hf.out).2.1;rw [hl] at zr;dsimp only [cond] at zr;have zn:hp (dX wx (w+1+1+1) (aB x.2.1)) (w+1+1+1)=some (.cells (aB x.2.1) 49):=by exact o7 zr
  have hO:=hf.out.1;go_simp
  refine hK.out (s) _ _ (by simp [aX,e7] <;> rfl) (kX (oX hO tO) (kX (Nat.le_trans hf.out.2.1 (Nat.le_of_eq dz.symm)) (kX ((dR tO).trans hf.out.2.2.1) (kX ((dR tO).trans hf.out.2.2.2.1) (kX ((dR tO).trans hf.out.2.2.2.2.1) (kX (zn) (kX (fun h9=>nU h9 (show upd l 10 true 5=true from hd 5 rfl)) (kX (fun h9=>nU h9 (show upd l 10 true 5=true from hd 5 rfl)) (kC (kA (kX (fun h=>(let ⟨e,X1,X2,F1,F2⟩:=(jC (jD hf.out)).2.1 h;⟨e,iD X1 zr (by decide),iD X2 zr (by decide),F1,F2⟩)) id)))))))))) hf.out)):p:=h
theorem mM {p:Prop} (h:p:=by
  simp only [Bool.and_eq_true,Bool.or_eq_true,Bool.not_eq_true',zW,rq] at this
  exact this):p:=h
theorem Ub {p:Prop} (h:p:=by
  clear h1 h2 z1 z2 e k1 k2 n1 n2;go_enter func190,ntmps190;go_wp2_with fail;refine aK w zB fun bb=>?_;refine (eQ c h 9 15 2 a b p q _ (aT H1 bb) (aT H2 bb)).mono ?_;rintro _ w1 ⟨rfl,tF⟩;obtain ⟨zV,xH,zz⟩:=gZ bb tF (b:=w);(try simp at xH);(try simp [go_sem] at zz);replace bX:=fP zz;clear zz tF bb
  rw [hk];go_wp2_with fail;refine aK w zB fun bb=>?_;refine (eT c a b p q _ (aT H1 bb) Z1.out (aT H2 bb) Z2.out m1 m2).mono ?_;rintro _ w2 ⟨⟨v1,v2,rfl,o1,o2⟩,hbw2⟩;obtain ⟨zT,vP,zz⟩:=gZ bb hbw2 (b:=w);(try simp at vP);(first|simp [go_sem,bX] at zz|simp [go_sem] at zz|skip);replace bX:=fP zz;clear zz hbw2 bb
  have d1:=mD o1 (w+1+1+1+1);have d2:=mD o2 (w+1+1+1+1);have p1:=aL (lo':=w) o1 tO;have p2:=aL (lo':=w) o2 tO;obtain ⟨a1,q1,rfl,_⟩:=o1.seg;obtain ⟨a2,q2,rfl,_⟩:=o2.seg;go_wp2_with fail;refine aK w zB fun bb=>?_;refine (D.out _ _ _ (zO p1 o1) (zO p2 o2)).mono ?_;rintro _ w3 ⟨⟨y1,y2,rfl,jF,jG,nQ,ny⟩,nk⟩;obtain ⟨V6,qZ,zz⟩:=gZ bb nk (b:=w);(try simp at qZ);(first|simp [go_sem,bX] at zz|simp [go_sem] at zz|skip);replace bX:=fP zz;clear zz nk bb
  obtain ⟨⟨jb,jc⟩,uZ,vo⟩:=BI (w:=w) (w+1+1+1+1) nQ ny d1 d2;obtain ⟨ya,yp,rfl,_⟩:=jF.seg;obtain ⟨yb,yq,rfl,_⟩:=jG.seg;go_wp2;refine rE results190 rfl (bN x.1 (.slice ya x.1.cells yp) (.slice yb x.1.words yq) tY) rfl (aQ x.2.1 tY) ⟨⟨_,_,rfl,?_,?_,uZ,vo⟩,by exact zB⟩
  ·exact zP jF jF jb
  ·exact zP jG jG jc):p:=h
theorem Uc {p:Prop} (h:p:=by
  rw [e];have H1:=aA h1;have H2:=aA h2;have T:=aA fun W=>jL W w (.slice none 0 0) (.slice none 0 0)
  generalize nothing=x at *;clear h1 h2 e;have d1:∀ j,(Value.slice none 0 0).ownBlock=some j→w.heap.size+1+1+1+1≤j:=fun j hj=>by cases hj
  have d2:=d1;go_enter func192,ntmps192;go_wp2_with fail;refine aK w zB fun bb=>?_;refine (eQ c h 23 25 0 a b p q _ (aT H1 bb) (aT H2 bb)).mono ?_;rintro _ w1 ⟨rfl,tF⟩;obtain ⟨zV,xH,zz⟩:=gZ bb tF (b:=w);(try simp at xH);(try simp [go_sem] at zz);replace bX:=fP zz;clear zz tF bb
  rw [hk];go_wp2_with fail;refine aK w zB fun bb=>?_;refine (wU c h.mine _ _ _ _ _).mono ?_;rintro _ w0 ⟨rfl,hbw0⟩;obtain ⟨WT,Wh,zz⟩:=gZ bb hbw0 (b:=w);(try simp at Wh);(first|simp [go_sem,bX] at zz|simp [go_sem] at zz|skip);replace bX:=fP zz;clear zz hbw0 bb
  rw [hh];go_wp2_with fail;refine aK w zB fun bb=>?_;refine (T.out _).mono ?_;rintro _ w2 ⟨⟨y1,y2,rfl,jF,jG,nQ,ny⟩,hbw2⟩;obtain ⟨zT,vP,zz⟩:=gZ bb hbw2 (b:=w);(try simp at vP);(first|simp [go_sem,bX] at zz|simp [go_sem] at zz|skip);replace bX:=fP zz;clear zz hbw2 bb
  obtain ⟨⟨jb,jc⟩,uZ,vo⟩:=BI (w:=w) (w+1+1+1+1) nQ ny d1 d2;obtain ⟨ya,yp,rfl,_⟩:=jF.seg;obtain ⟨yb,yq,rfl,_⟩:=jG.seg;go_wp2;refine rE results192 rfl (bN x.1 (.slice ya x.1.cells yp) (.slice yb x.1.words yq) tY) rfl (aQ x.2.1 tY) ⟨⟨_,_,rfl,?_,?_,uZ,vo⟩,by exact zB⟩
  · exact zP jF jF jb
  · exact zP jG jG jc):p:=h
theorem Ud {p:Prop} (h:p:=by
  have e4:=((jC (jD hf.out)).1 (hd 4 rfl));have e6:=((jC (jD hf.out)).2.2.1 (hd 6 rfl));go_simp
  go_at_call 265
  refine (T.out _ ((jC hf.out).2.2.1 hl) ((jC hf.out).2.2.2.1 hl)).mono ?_;rintro _ wy ⟨⟨y1,y2,rfl,X1,X2,F1,F2⟩,hO⟩
  refine hK.out (upd (upd (upd s 1003 (y1)) 1004 (y2)) 39 (.tuple #[.agg (aH x.1 y1 y2),.agg (aB x.2.1),.bool x.2.2])) _ _ (by simp [aX,e0,e1,e4,e6] <;> rfl) (kX (kv hf.out.1 hO) (kX (Nat.le_trans hf.out.2.1 hO.2.2.2.1) (kX (kI hf.out.2.2.1 hO ((jC hf.out).2.2.1 hl) ((jC hf.out).2.2.2.1 hl) (by decide) (by decide)) (kX (kI hf.out.2.2.2.1 hO ((jC hf.out).2.2.1 hl) ((jC hf.out).2.2.2.1 hl) (by decide) (by decide)) (kX (by (have ee:l 11=false:=hn 11 rfl);(have F:=hf.out.2.2.2.2.1);rw [ee] at F;rw [show upd l 7 true 11=false from ee];exact kI F hO ((jC hf.out).2.2.1 hl) ((jC hf.out).2.2.2.1 hl) (by decide) (by decide)) (kX (by (have ee:l 12=false:=hn 12 rfl);(have F:=(jC hf.out).2.1);rw [ee] at F;rw [show upd l 7 true 12=false from ee];exact kI F hO ((jC hf.out).2.2.1 hl) ((jC hf.out).2.2.2.1 hl) (by decide) (by decide)) (kX (fun h9=>nU h9 (show upd l 7 true 7=true from rfl)) (kX (fun h9=>nU h9 (show upd l 7 true 7=true from rfl)) (kC (kB (kA (kX (fun _=>⟨rfl,X1,X2,fun j hj=>(F1 j hj).imp id (fun h=>Nat.le_trans hf.out.1.2.2.2.1 h),fun j hj=>(F2 j hj).imp id (fun h=>Nat.le_trans hf.out.1.2.2.2.1 h)⟩) (kX (nU (hn 8 rfl)) (kX (nU (hn 9 rfl)) (kX (nU (hn 10 rfl)) (fun _=>nU (hn 13 rfl)))))))))))))))) hf.out)):p:=h
theorem Ue {p:Prop} (h:p:=by
  have m12:=m1 (w+1+1) tO;have m22:=m2 (w+1+1) tO;have m13:=m1 (w+1+1+1) tO;have m23:=m2 (w+1+1+1) tO;have o1:=h1;have o2:=h2;obtain ⟨a1,q1,e1,_⟩:=h1.seg;obtain ⟨a2,q2,e2,_⟩:=h2.seg;subst e1 e2;have hx2:¬ h.cell<h.come:=by omega
  clear h1 h2 e hx;go_enter func205,ntmps205;go_wp2_with fail;refine (T.out _ (zO o1 o1) (zO o2 o2) (by simp;omega)).mono ?_;rintro _ w1 ⟨v3,rfl,p1,p2,f3,hO⟩;have xH:=hO.2.2.2.1;(try (simp at xH));have zz:=QU hO (b:=w);(try simp [go_sem] at zz);replace bX:=fP zz;clear zz;rw [← I.out];obtain ⟨a3,q3,rfl,_⟩:=p2.seg;have We:ni (Value.slice a1 c.cells q1).ownBlock (Value.slice a2 c.words q2).ownBlock w w1:=kv (gy zB) hO
  clear hO;obtain ⟨k0,k1,k2,k3⟩:=pz (a:=w) (b:=w1);go_wp2_with fail;refine aK w1 zB fun bk=>?_;refine (D.out _ _ (zO p1 p1) (zO p2 p2)).mono ?_;rintro _ w2 ⟨⟨y1,y2,rfl,jF,jG,nQ,ny⟩,hbw2⟩;have vP:=hbw2.size;(try simp at vP);have zz:=NS hbw2 (b:=w);(first|simp [go_sem,bX,k0,k1,k2,k3] at zz|simp [go_sem] at zz|skip);replace bX:=fP zz;clear zz;have Ll:=bT bk hbw2;clear hbw2 bk
  have hO2:=kv We (gy Ll);replace ny:=f3.trans ny tS;clear We f3;obtain ⟨⟨jb,jc⟩,uZ,vo⟩:=sO (w:=w) (w+1+1+1+1) nQ ny b1 b2;obtain ⟨ya,yp,rfl,_⟩:=jF.seg;obtain ⟨yb,yq,rfl,_⟩:=jG.seg;go_wp2;refine rE results205 rfl (bN x.1 (.slice ya x.1.cells yp) (.slice yb x.1.words yq) tY) rfl (aQ x.2.1 tY) ⟨⟨_,_,rfl,?_,?_,uZ,vo⟩,by exact zN⟩
  ·exact zP jF jF jb
  ·exact zP jG jG jc):p:=h
theorem Uf {p:Prop} (h:p:=by
  obtain ⟨⟨jb,jc⟩,uZ,vo⟩:=sO (w:=w) (w+1+1+1+1) nQ ny b1 b2;obtain ⟨ya,yp,rfl,_⟩:=jF.seg;obtain ⟨yb,yq,rfl,_⟩:=jG.seg;go_wp2;refine rE results260 rfl (bN x.1 (.slice ya x.1.cells yp) (.slice yb x.1.words yq) tY) rfl (aQ x.2.1 tY) ⟨⟨_,_,rfl,?_,?_,uZ,vo⟩,by exact zN⟩
  ·exact zP jF jF jb
  ·exact zP jG jG jc):p:=h
theorem Ug {p:Prop} (h:p:=by
  obtain ⟨b1,b2,b3,b4,d1,d2,d3,d4,rfl,rfl,rfl,rfl,_⟩:=uo.opens;have Vy:=UU.out.ne (b:=w3) tO;have UL:=UU.out.lo (lo':=w+1) tO;clear yb;go_wp2_with fail;refine (jM B g 10  _ zD  tO tO).mono ?_;rintro _ w9 ⟨⟨y9,rfl⟩,V3,Ip⟩;have Wd:Gr g w w9:=gT lY Ip;have WU:=V3.lt;have Oc:=Ip.size;(try (simp at Oc));have hgl:g<w.heap.size+1:=by omega
  have WI:dG w9 (w+1) (.slice b1 y'.ch.cells d1) (.slice b2 y'.ch.words d2) (.slice b3 y'.hands d3) (.slice b4 y'.deals d4) y':=dG.gr (by (repeat (first|with_reducible assumption|with_reducible refine dG.alloc ?_ _|with_reducible refine dG.drew ?_|((with_reducible refine dG.store ?_ ?_ _);rotate_left;(focus (first|exact Vy))) ))) Ip hgl;have QV:hp w9 w3=some (.cells #[y'.ch.cap,y'.ch.sent,y'.ch.got,y'.ch.fin,.slice b1 y'.ch.cells d1,.slice b2 y'.ch.words d2,.slice b3 y'.hands d3,.slice b4 y'.deals d4,y'.now] 35):=(bM Ip (by simp;omega) Wi).trans tY
  have VT:hp w9 w=some (.cells #[.int .i64 0,.int .i64 0,.int .i64 0,.int .i64 0,.slice none 0 0,.slice none 0 0,.slice none 0 0,.slice none 0 0,.int .i64 0] 35):=(bM Ip (by simp;omega) WV).trans tY;have WW:=Ip.size
  (try simp at WW)
  clear sU qY sV sZ kW kS oz nR;have oz:w<w9.heap.size:=by omega
  exact VZ):p:=h
theorem Uh {p:Prop} (h:p:=by
  clear h1 h2 z1 z2 e k1 k2 n1 n2;go_enter func189,ntmps189;go_wp2_with fail;refine aK w zB fun bb=>?_;refine (eQ c h 1 8 1 a b p q _ (aT H1 bb) (aT H2 bb)).mono ?_;rintro _ w1 ⟨rfl,tF⟩;obtain ⟨zV,xH,zz⟩:=gZ bb tF (b:=w);(try simp at xH);(try simp [go_sem] at zz);replace bX:=fP zz;clear zz tF bb
  rw [hk];go_wp2_with fail;refine aK w zB fun bb=>?_;refine (eT c a b p q _ (aT H1 bb) Z1.out (aT H2 bb) Z2.out m1 m2).mono ?_;rintro _ w2 ⟨⟨v1,v2,rfl,o1,o2⟩,hbw2⟩;obtain ⟨zT,vP,zz⟩:=gZ bb hbw2 (b:=w);(try simp at vP);(first|simp [go_sem,bX] at zz|simp [go_sem] at zz|skip);replace bX:=fP zz;clear zz hbw2 bb
  have d1:=mD o1 (w+1+1+1+1);have d2:=mD o2 (w+1+1+1+1);have p1:=aL (lo':=w) o1 tO;have p2:=aL (lo':=w) o2 tO;obtain ⟨a1,q1,rfl,_⟩:=o1.seg;obtain ⟨a2,q2,rfl,_⟩:=o2.seg;go_wp2_with fail;refine aK w zB fun bb=>?_;refine (D.out _ _ _ (zO p1 o1) (zO p2 o2)).mono ?_;rintro _ w3 ⟨⟨y1,y2,rfl,jF,jG,nQ,ny⟩,nk⟩;obtain ⟨V6,qZ,zz⟩:=gZ bb nk (b:=w);(try simp at qZ);(first|simp [go_sem,bX] at zz|simp [go_sem] at zz|skip);replace bX:=fP zz;clear zz nk bb
  exact UN):p:=h
theorem Oe {p:Prop} (h:p:=by
  go_wp2_with fail;refine aK w zB fun bb=>?_
  refine (HS.out _ _ _ _ _ (aT H1 bb) Z1.out (aT H2 bb) Z2.out).mono ?_;rintro _ w9 ⟨⟨y1,y2,rfl,jF,jG,nQ,ny⟩,Ir⟩;have Xh:Below w w w9:=bT bb Ir;have Oc:=Ir.size;(try simp at Oc);have zz:=WX Ir (b:=w);(try simp [go_sem] at zz);replace bX:=zX zz;clear zz Ir;obtain ⟨ya,yp,rfl,_⟩:=jF.seg;obtain ⟨yb,yq,rfl,_⟩:=jG.seg;clear jF jG nQ ny bb;have ee:=Dz x.2.1 h;cases hx:x.2.2 with
  | true =>
   go_wp2;go_ret;exact ⟨by simp [hx],by exact zB⟩
  | false =>
   go_wp2;go_ret
   exact ⟨by simp [hx],by exact zB⟩):p:=h
theorem Ui {p:Prop} (h:p:=by
  obtain ⟨⟨jb,jc⟩,uZ,vo⟩:=sO (w:=w) (w+1+1+1+1) nQ ny b1 b2;obtain ⟨ya,yp,rfl,_⟩:=jF.seg;obtain ⟨yb,yq,rfl,_⟩:=jG.seg;go_wp2
  try rw [Exit.noGoto_ret]
  refine rE results268 rfl (bN x.1 (.slice ya x.1.cells yp) (.slice yb x.1.words yq) tY) rfl (aQ x.2.1 tY) ⟨⟨_,_,rfl,?_,?_,uZ,vo⟩,by exact zN⟩
  · exact zP jF jF jb
  · exact zP jG jG jc):p:=h
theorem Uj {p:Prop} (h:p:=by
  rw [hyv] at hY;clear hyv;dsimp only at hY;go_wp2_with fail;refine aK w zB fun bb=>?_;refine (hY).mono ?_;rintro _ w4 ⟨⟨u1,u2,u3,u4,rfl,uo⟩,Ob⟩;obtain ⟨VY,UM,zz⟩:=sG bb Ob (b:=w);(try simp at UM);(first|simp [go_sem,bX] at zz|simp [go_sem] at zz|skip);replace bX:=pq zz;clear zz Ob bb
  have UO:=aA uo;obtain ⟨b1,b2,b3,b4,d1,d2,d3,d4,rfl,rfl,rfl,rfl,_⟩:=uo.opens;have N1:=UO.out.ne (b:=w+1+1) tO;have N4:=UO.out.ne' (b:=w4) (Nat.le_refl _);have UL:=UO.out.lo (lo':=w) tO;go_wp2_with fail
  go_region_with (go_at_call 134;refine (Iu _ _).mono ?_;rintro _ _ ⟨rfl,rfl⟩)
  all_goals go_wp2
  all_goals (refine bodyPost_ret (v:=.tuple #[.agg #[y.ch.cap,y.ch.sent,y.ch.got,y.ch.fin,.slice b1 y.ch.cells d1,.slice b2 y.ch.words d2,.slice b3 y.hands d3,.slice b4 y.deals d4,y.now],.int .i64 (CL rv)]) (by simp [results,results80,go_sem, *]) rfl ⟨⟨_,_,_,_,rfl,?_⟩,by exact zB⟩)
  all_goals (repeat (first|with_reducible assumption|with_reducible refine dG.alloc ?_ _|with_reducible refine dG.drew ?_|((with_reducible refine dG.store ?_ ?_ _);rotate_left;(focus (first|exact N1|exact N4)))))):p:=h
theorem Uk {p:Prop} (h:p:=by
  go_wp2_with fail;refine (D.out _ (zO r1 o1) (zO r2 o2)).mono ?_
  rintro _ w3 ⟨⟨y1,y2,rfl,jF,jG,nQ,ny⟩,nk⟩;have hO3:ni (Value.slice a1 c.cells q1).ownBlock (Value.slice a2 c.words q2).ownBlock w w3:=kv zN (gy nk);have qZ:=nk.size;(try simp at qZ);have zz:=q4 nk (b:=w);(first|simp [go_sem,eH,fV,tH,kW,oz,ze,iE,gm,k0,k1,k2,k3,k4] at zz|simp [go_sem] at zz|skip);(try clear eH iH iI gm);(try clear fV jW jX iE);(try clear tH D5 D6 ze);(try clear kW sU sV oz);obtain ⟨eH,fV,tH,kW⟩:=zz;obtain ⟨iH,iI,gm⟩:=bO eH;obtain ⟨jW,jX,iE⟩:=bO fV;obtain ⟨D5,D6,ze⟩:=bO tH;obtain ⟨sU,sV,oz⟩:=bO kW;clear nk
  obtain ⟨⟨jb,jc⟩,uZ,vo⟩:=sO (w:=w) (w+1+1+1+1) nQ ny b1 b2;obtain ⟨ya,yp,rfl,_⟩:=jF.seg;obtain ⟨yb,yq,rfl,_⟩:=jG.seg;go_wp2;refine rE results211 rfl (bN x.1 (.slice ya x.1.cells yp) (.slice yb x.1.words yq) tY) rfl (aQ x.2.1 tY) ⟨⟨_,_,rfl,?_,?_,uZ,vo⟩,by exact zN⟩
  · exact zP jF jF jb
  · exact zP jG jG jc):p:=h
theorem Ul {p:Prop} (h:p:=by
  go_wp2_with fail;refine (T.out _).mono ?_
  rintro _ WY ⟨⟨y1,y2,rfl,jF,jG,nQ,ny⟩,K9⟩;have WK:Below w w WY:=bT zB K9;have V7:=K9.size;(try (simp at V7));have zz:=hQ K9 (b:=w+1+1);(first|(simp [go_sem,fV,iE] at zz)|(simp [go_sem] at zz));(try clear jW jX);(try clear fV);have fV:=zz;clear zz;(try clear iE);obtain ⟨jW,jX,iE⟩:=bO fV;have zz:=hQ K9 (b:=w+1+1+1);(first|(simp [go_sem,eH,gm] at zz)|(simp [go_sem] at zz));(try clear iH iI);(try clear eH);have eH:=zz;clear zz;(try clear gm);obtain ⟨iH,iI,gm⟩:=bO eH
  obtain ⟨⟨jb,jc⟩,uZ,vo⟩:=BI (w:=w) (w+1+1+1+1) nQ ny d1 d2;obtain ⟨ya,yp,rfl,_⟩:=jF.seg;obtain ⟨yb,yq,rfl,_⟩:=jG.seg;go_wp2;refine rE results236 rfl (bN X.1 (.slice ya X.1.cells yp) (.slice yb X.1.words yq) tY) rfl (aQ X.2.1 tY) ⟨⟨_,_,rfl,?_,?_,uZ,vo⟩,by exact zB⟩
  ·exact zP jF jF jb
  ·exact zP jG jG jc):p:=h
theorem Og {p:Prop} (h:p:=by
  refine bodyPost_ret (v:=.tuple #[.agg #[y.ch.cap,y.ch.sent,y.ch.got,y.ch.fin,.slice a1 y.ch.cells c1,.slice a2 y.ch.words c2,.slice (some ⟨g,0,none⟩) y.hands c3,.slice a4 y.deals c4,y.now],.int .i64 k]) (by simp [results,results133,go_sem, *]) rfl ⟨⟨_,_,_,_,rfl,?_⟩,by exact zB⟩
  (repeat (first|with_reducible assumption|with_reducible refine dG.alloc ?_ _|with_reducible refine dG.drew ?_|((with_reducible refine dG.store ?_ ?_ _);rotate_left;(focus (first|exact N1))) ))):p:=h
theorem Oh {p:Prop} (h:p:=by
  refine bodyPost_ret (v:=.tuple #[.agg #[y.ch.cap,y.ch.sent,y.ch.got,y.ch.fin,.slice a1 y.ch.cells c1,.slice a2 y.ch.words c2,.slice a3 y.hands c3,.slice a4 y.deals c4,y.now],.int .i64 k]) (by simp [results,results36,go_sem, *]) rfl ⟨⟨_,_,_,_,rfl,?_⟩,by exact zB⟩
  (repeat (first|with_reducible assumption|with_reducible refine dG.alloc ?_ _|with_reducible refine dG.drew ?_|((with_reducible refine dG.store ?_ ?_ _);rotate_left;(focus (first|exact N1)))))):p:=h
theorem Um {p:Prop} (h:p:=by
  have X1:=e7.2.1;have X2:=e7.2.2.1;clear e7;have zr:=hf.out.2.2.2.2.1;rw [hl] at zr;dsimp only [cond] at zr;obtain ⟨xa,xp,ea,_⟩:=X1.seg;obtain ⟨xb,xq,UT,_⟩:=X2.seg;rw [ea,UT] at e8;have zn:hp (dX wx (w+1+1) (aH x.1 (.slice xa x.1.cells xp) (.slice xb x.1.words xq))) (w+1+1)=some (.cells (aH x.1 (s 1003) (s 1004)) 31):=by rw [ea,UT];exact o7 zr
  have hO:=hf.out.1;go_simp
  refine hK.out (s) _ _ (by simp [aX,e8,ea,UT] <;> rfl) (kX (oX hO tO) (kX (Nat.le_trans hf.out.2.1 (Nat.le_of_eq dz.symm)) (kX ((dR tO).trans hf.out.2.2.1) (kX ((dR tO).trans hf.out.2.2.2.1) (kX (zn) (kX ((dR tO).trans (jC hf.out).2.1) (kX (fun h9=>nU h9 (show upd l 11 true 7=true from hd 7 rfl)) (kX (fun h9=>nU h9 (show upd l 11 true 7=true from hd 7 rfl)) (kC (kB (kA (kX (fun h=>(let ⟨e,X1,X2,F1,F2⟩:=(jC (jD hf.out)).2.2.2.1 h;⟨e,iD X1 zr (by decide),iD X2 zr (by decide),F1,F2⟩)) id))))))))))) hf.out)):p:=h
theorem Un {p:Prop} (h:p:=by
  have X1:=e7.2.1;have X2:=e7.2.2.1;clear e7;have zr:=(jC hf.out).2.1;rw [hl] at zr;dsimp only [cond] at zr;have zn:hp (dX wx (w+1+1+1) (aB x.2.1)) (w+1+1+1)=some (.cells (aB x.2.1) 49):=by exact o7 zr
  have hO:=hf.out.1;go_simp
  refine hK.out (s) _ _ (by simp [aX,e9] <;> rfl) (kX (oX hO tO) (kX (Nat.le_trans hf.out.2.1 (Nat.le_of_eq dz.symm)) (kX ((dR tO).trans hf.out.2.2.1) (kX ((dR tO).trans hf.out.2.2.2.1) (kX ((dR tO).trans hf.out.2.2.2.2.1) (kX (zn) (kX (fun h9=>nU h9 (show upd l 12 true 7=true from hd 7 rfl)) (kX (fun h9=>nU h9 (show upd l 12 true 7=true from hd 7 rfl)) (kC (kB (kA (kX (fun h=>(let ⟨e,X1,X2,F1,F2⟩:=(jC (jD hf.out)).2.2.2.1 h;⟨e,iD X1 zr (by decide),iD X2 zr (by decide),F1,F2⟩)) id))))))))))) hf.out)):p:=h
theorem Uo {p:Prop} (h:p:=by
  go_enter func198,ntmps198
  go_wp2_with (first|(go_at_call 112;refine aK w zB fun bb=>?_;refine (tJ c a b p q _ (aT H1 bb) (aT H2 bb)).mono ?_;rintro _ w1 ⟨rfl,tF⟩;obtain ⟨zV,xH,zz⟩:=gZ bb tF (b:=w);(try simp at xH);(try simp [go_sem] at zz);replace bX:=fP zz;clear zz;have V5:=zV;clear tF bb)|(go_at_call 119;refine aK w zB fun bb=>?_;refine (jI _ _).mono ?_;rintro _ w2 ⟨rfl,hbw2⟩;obtain ⟨zT,vP,zz⟩:=gZ bb hbw2 (b:=w);(try simp at vP);(first|simp [go_sem,bX] at zz|simp [go_sem] at zz|skip);replace bX:=fP zz;clear zz;have Ll:=zT;clear hbw2 bb))
  refine rE results198 rfl (bN Ch.zero (.slice none 0 0) (.slice none 0 0) tY) rfl (aQ Ha.zero tY) ⟨ru _ _ _ _ _,by exact zB⟩):p:=h
theorem Uq {p:Prop} (h:p:=by
  go_wp2_with fail;refine (D.out _ (zO r1 o1) (zO r2 o2)).mono ?_
  rintro _ w3 ⟨⟨y1,y2,rfl,jF,jG,nQ,ny⟩,nk⟩;have hO3:ni (Value.slice a1 c.cells q1).ownBlock (Value.slice a2 c.words q2).ownBlock w w3:=kv zN (gy nk);have qZ:=nk.size;(try simp at qZ);have zz:=NS nk (b:=w);(first|simp [go_sem,bX,k0,k1,k2,k3] at zz|simp [go_sem] at zz|skip);replace bX:=fP zz;clear zz nk;obtain ⟨⟨jb,jc⟩,uZ,vo⟩:=sO (w:=w) (w+1+1+1+1) nQ ny b1 b2;obtain ⟨ya,yp,rfl,_⟩:=jF.seg;obtain ⟨yb,yq,rfl,_⟩:=jG.seg
  go_wp2;refine rE results201 rfl (bN x.1 (.slice ya x.1.cells yp) (.slice yb x.1.words yq) tY) rfl (aQ x.2.1 tY) ⟨⟨_,_,rfl,?_,?_,uZ,vo⟩,by exact zN⟩
  · exact zP jF jF jb
  · exact zP jG jG jc):p:=h
theorem Oi {p:Prop} (h:p:=by
  obtain ⟨⟨jb,jc⟩,uZ,vo⟩:=BI (w:=w) (w+1+1+1+1) nQ ny d1 d2;obtain ⟨ya,yp,rfl,_⟩:=jF.seg;obtain ⟨yb,yq,rfl,_⟩:=jG.seg;go_wp2;refine rE results192 rfl (bN x.1 (.slice ya x.1.cells yp) (.slice yb x.1.words yq) tY) rfl (aQ x.2.1 tY) ⟨⟨_,_,rfl,?_,?_,uZ,vo⟩,by exact zB⟩
  · exact zP jF jF jb
  · exact zP jG jG jc):p:=h
theorem Oj {p:Prop} (h:p:=by
  obtain ⟨⟨jb,jc⟩,uZ,vo⟩:=BI (w:=w) (w+1+1+1+1) nQ ny d1 d2;obtain ⟨ya,yp,rfl,_⟩:=jF.seg;obtain ⟨yb,yq,rfl,_⟩:=jG.seg;go_wp2;refine rE results190 rfl (bN x.1 (.slice ya x.1.cells yp) (.slice yb x.1.words yq) tY) rfl (aQ x.2.1 tY) ⟨⟨_,_,rfl,?_,?_,uZ,vo⟩,by exact zB⟩
  ·exact zP jF jF jb
  ·exact zP jG jG jc):p:=h
theorem Ol {p:Prop} (h:p:=by
  go_wp2_with fail;refine aK w zB fun bb=>?_;refine (D.out _ _ _ (zO s1 o1) (zO s2 o2)).mono ?_;rintro _ w3 ⟨⟨y1,y2,rfl,jF,jG,nQ,ny⟩,nk⟩;obtain ⟨V6,qZ,zz⟩:=gZ bb nk (b:=w);(try simp at qZ);(first|simp [go_sem,bX,k0,k1,k2,k3] at zz|simp [go_sem] at zz|skip);replace bX:=fP zz;clear zz nk bb
  exact Oa):p:=h
theorem Ur {p:Prop} (h:p:=by
  go_wp2_with fail;refine aK w zB fun bb=>?_;refine (T.out _).mono ?_;rintro _ w9 ⟨⟨y1,y2,rfl,jF,jG,nQ,ny⟩,Ir⟩;obtain ⟨WZ,Oc,zz⟩:=gZ bb Ir (b:=w);(try simp at Oc);(first|simp [go_sem,bX] at zz|simp [go_sem] at zz|skip);replace bX:=fP zz;clear zz Ir bb
  obtain ⟨⟨jb,jc⟩,uZ,vo⟩:=BI (w:=w) (w+1+1+1+1) nQ ny d1 d2;obtain ⟨ya,yp,rfl,_⟩:=jF.seg;obtain ⟨yb,yq,rfl,_⟩:=jG.seg;go_wp2;refine rE results236 rfl (bN x.1 (.slice ya x.1.cells yp) (.slice yb x.1.words yq) tY) rfl (aQ x.2.1 tY) ⟨⟨_,_,rfl,?_,?_,uZ,vo⟩,by exact zB⟩
  ·exact zP jF jF jb
  ·exact zP jG jG jc):p:=h
theorem Us {p:Prop} (h:p:=by
  go_at_call 247
  refine (fD h 10 _).mono ?_;rintro _ wy ⟨rfl,hE⟩
  refine hK.out (upd s 38 (.agg (aB ({ h with pos:=10 })))) _ _ (by simp [aX,e5] <;> rfl) (kX (kv hf.out.1 (gy hE)) (kX (Nat.le_trans hf.out.2.1 (Below.size hE)) (kX (iC hf.out.2.2.1 hE) (kX (iC hf.out.2.2.2.1 hE) (kX (iC hf.out.2.2.2.2.1 hE) (kX (iC (jC hf.out).2.1 hE) (kX (fun h9=>own_below ((jC hf.out).2.2.1 h9) hE) (kX (fun h9=>own_below ((jC hf.out).2.2.2.1 h9) hE) (kC (kB (kX (fun _=>rfl) (kX (nU (hn 7 rfl)) (kX (nU (hn 8 rfl)) (kX (nU (hn 9 rfl)) (kX (nU (hn 10 rfl)) (fun _=>nU (hn 13 rfl)))))))))))))))) hf.out)):p:=h
theorem Om {p:Prop} (h:p:=by
  rintro _ w3 ⟨⟨y1,y2,rfl,jF,jG,nQ,ny⟩,hO⟩;have hO3:ni (Value.slice a1 c.cells q1).ownBlock (Value.slice a2 c.words q2).ownBlock w w3:=kv (gy zB) hO;have qZ:=hO.2.2.2.1;(try (simp at qZ));have zz:=QU hO (b:=w);(try simp [go_sem] at zz);replace bX:=fP zz;clear zz;clear hO
  exact Uf):p:=h
theorem Ut {p:Prop} (h:p:=by
  obtain ⟨a1,q1,a2,q2,rfl,rfl,o1,o2,b1,b2,m1,m2,m10,m20,m11,m21,m12,m22,m13,m23⟩:=Uu h1 h2;clear h1 h2;go_enter func268,ntmps268;go_wp2;go_step3;go_wp2;go_step3;go_wp2;refine wp_loop_rounds 2 ?_;rw [rounds_succ];go_wp2_with fail;refine (T.out _ (zO o1 o1) (zO o2 o2)).mono ?_;rintro _ w3 ⟨⟨y1,y2,rfl,jF,jG,nQ,ny⟩,hO⟩;have hO3:ni (Value.slice a1 c.cells q1).ownBlock (Value.slice a2 c.words q2).ownBlock w w3:=kv (gy zB) hO
  have qZ:=hO.2.2.2.1;(try (simp at qZ));have zz:=QU hO (b:=w);(try simp [go_sem] at zz);replace bX:=fP zz;clear zz;clear hO
  exact Ui):p:=h
theorem Uv {p:Prop} (h:p:=by
  have T:=aA fun W=>jJ W lo v1 v2
  generalize nothing=x at *;obtain ⟨a1,q1,a2,q2,rfl,rfl,o1,o2,b1,b2,m1,m2,m10,m20,m11,m21,m12,m22,m13,m23⟩:=Uu h1 h2;clear h1 h2;go_enter func260,ntmps260;go_wp2_with fail;refine (T.out _).mono ?_;rintro _ w3 ⟨⟨y1,y2,rfl,jF,jG,nQ,ny⟩,nk⟩;have hO3:ni (Value.slice a1 c.cells q1).ownBlock (Value.slice a2 c.words q2).ownBlock w w3:=kv (gy zB) (gy nk);have qZ:=nk.size;(try simp at qZ);have zz:=NS nk (b:=w);(try simp [go_sem] at zz);replace bX:=fP zz;clear zz nk
  exact Uf):p:=h
theorem Uw {p:Prop} (h:p:=by
  go_wp2_with (at_builtin;refine wpList_append_own _ rfl _ _ 29 rfl w.heap.size 2 i0 _ 1 8 underlying29 hi0 hz0 hz1 hz2 rfl (by decide) _ 0 [] rfl (tK _ _ _ _ (Nat.le_refl _)) ⟨bb,bo,sp⟩ l.length q (ints l) rfl (by simp [ints]) ?c0 (Oo l) ?c3 ?c4 ?c5 ?_)
  case c0=>exact fun j u hu=>kQ (HN.out j u hu)
  case c3=>unfold maxLen;omega
  case c4=>omega
  case c5=>simp
  intro v w1 hown hg _;go_wp2;go_ret
  exact ⟨⟨_,rfl,by simpa using hown⟩,mO zB hg (by simp) (by simp [Value.ownBlock])⟩):p:=h
theorem KA {p:Prop} (h:p:=by
  simp only [ec];clear ec hf hall;go_wp2
  exact bodyPost_ret (zq results263 rfl (bN x.1 _ _ z1) rfl (aQ x.2.1 z2)) rfl ⟨⟨_,_,rfl,X1,X2,F1,F2⟩,hO⟩):p:=h
theorem CO {p:Prop} (h:p:=by
  go_enter func157,ntmps157
  go_wp2
  all_goals first|(exfalso;omega)|(go_ret;exact ⟨rfl,rfl⟩)):p:=h
theorem Ux {p:Prop} (h:p:=by
  go_wp2_with (go_at_call 121;refine (iP _ _ _ _).mono ?_;rintro _ _ ⟨rfl,rfl⟩)
  rw [HT.out,HW.out];refine bodyPost_ret (v:=.tuple #[.agg #[c.cap,c.sent,c.got,c.fin,.slice a1 c.cells q1,.slice (some ⟨g,0,none⟩) c.words cap],.bool false]) (by simp [results,results72,go_sem, *]) rfl ⟨⟨_,_,rfl,aL (lo:=w+1+1) ?_ tO,aL (lo:=w+1+1) ?_ tO⟩,by exact zB⟩
  ·exact zO p1 o1
  ·exact zO p2 o2):p:=h
theorem Uy {p:Prop} (h:p:=by
  obtain ⟨⟨jb,jc⟩,uZ,vo⟩:=sO (w:=w) (w+1+1+1+1) nQ ny b1 b2;obtain ⟨ya,yp,rfl,_⟩:=jF.seg;obtain ⟨yb,yq,rfl,_⟩:=jG.seg;go_wp2;refine rE results212 rfl (bN x.1 (.slice ya x.1.cells yp) (.slice yb x.1.words yq) tY) rfl (aQ x.2.1 tY) ⟨⟨_,_,rfl,?_,?_,uZ,vo⟩,gy zB⟩
  · exact zP jF jF jb
  · exact zP jG jG jc):p:=h
theorem Uz {p:Prop} (h:p:=by
  clear S;go_wp2;refine bodyPost_ret (v:=.agg #[x.ch.cap,x.ch.sent,x.ch.got,x.ch.fin,.slice a x.ch.cells p1,.slice b x.ch.words p2,.slice d x.hands p3,.slice e x.deals p4,x.now]) (by simp [results,results31,go_sem, *]) rfl ?_;generalize hWf:World.setCell _ _ _=W'
  exact Oq (x:=x) (W:=w5) UY (by rw [← hWf];exact zG) S5.out N hlen h6 i5 i6 i7 i8 F0):p:=h
theorem U0 {p:Prop} (h:p:=by
  refine mT (i:=12) (oi:=⟨some 15,_,_,_,_,_⟩) rfl ?_;(try simp only [dE]);refine mT (i:=13) (oi:=⟨some 16,_,_,_,_,_⟩) rfl ?_;(try simp only [dE]);refine mT (i:=14) (oi:=⟨some 2,_,_,_,_,_⟩) rfl ?_;(try simp only [dE]);refine wpAnyH_done (by kernel_rfl) ?_ _;go_wp2;go_ret
  exact ⟨bQ (by rw [← HK.out];simp [he,e0]),by exact zB⟩):p:=h
theorem U5 {p:Prop} (h:p:=by
  go_wp2_with fail;refine (T.out _).mono ?_
  rintro _ w3 ⟨⟨y1,y2,rfl,jF,jG,nQ,ny⟩,nk⟩;have hO3:ni (Value.slice a1 c.cells q1).ownBlock (Value.slice a2 c.words q2).ownBlock w w3:=kv (gy zB) (gy nk);have qZ:=nk.size;(try simp at qZ);have zz:=NS nk (b:=w);(try simp [go_sem] at zz);replace bX:=fP zz;clear zz nk
  exact Ui):p:=h
theorem KC {p:Prop} (h:p:=by
  have hb6:Below w5 w5 w6:=hf.1;simp only [ec];clear ec hf yz;go_wp2;go_ret
  exact ⟨rfl,Im.trans (hb6.mono Im.size)⟩):p:=h
theorem KD {p:Prop} (h:p:=by
  go_wp2_with (go_at_call 121;refine (iP _ _ _ _).mono ?_;rintro _ _ ⟨rfl,rfl⟩)
  go_ret
  exact ⟨rfl,rfl⟩):p:=h
theorem U6 {p:Prop} (h:p:=by
  go_wp2
  exact bodyPost_ret (v:=.tuple #[.agg #[Wo.zero.ch.cap,Wo.zero.ch.sent,Wo.zero.ch.got,Wo.zero.ch.fin,.slice none 0 0,.slice none 0 0,.slice none 0 0,.slice none 0 0,Wo.zero.now],.int .i64 3]) (by simp [results,results132,go_sem,Wo.zero,Ch.zero, *]) rfl ⟨⟨_,_,_,_,rfl,CP _ _⟩,by exact zB⟩):p:=h
theorem U7 {p:Prop} (h:p:=by
  go_wp2
  exact bodyPost_ret (v:=.tuple #[.agg #[Wo.zero.ch.cap,Wo.zero.ch.sent,Wo.zero.ch.got,Wo.zero.ch.fin,.slice none 0 0,.slice none 0 0,.slice none 0 0,.slice none 0 0,Wo.zero.now],.bool false]) (by simp [results,results22,go_sem,Wo.zero,Ch.zero, *]) rfl ⟨⟨_,_,_,_,rfl,CP _ _⟩,by exact zB⟩):p:=h
theorem Ot {p:Prop} (h:p:=by
  go_simp
  refine hK.out (upd s 3 (.agg #[.pointer (some ⟨B,0,none⟩)])) _ _ (by simp [aX] <;> rfl) (kA (kX (fun _=>rfl) id) hf.out)):p:=h
theorem U8 {p:Prop} (h:p:=by
  by_cases e:n=n0
  ·subst e
   refine ⟨?_,?_,?_,?_⟩ <;> rw [L0]
   ·exact p1
   ·rw [Si];exact p2
   ·rw [Ri];exact p3
   ·rw [E];exact p4
  ·refine ⟨?_,?_,?_,?_⟩ <;> rw [L n e]
   ·exact p1
   ·rw [Si];exact p2
   ·rw [Ri];exact p3
   ·rw [E];exact p4):p:=h
theorem Ou {p:Prop} (h:p:=by
  refine (L.r.hs _ ?_).1;unfold aD;rw [List.getD_eq_getElem?_getD,List.getElem?_eq_getElem hi]
  exact List.getElem_mem hi):p:=h
instance : Coe World Nat := ⟨fun w => w.heap.size⟩
instance {α : Type} : CoeOut (List α) Nat := ⟨List.length⟩
instance : Coe Int Value := ⟨fun x => .int .i64 x⟩
theorem aA {p:Prop} (h:p):RowKit.Hid p:=Lib.hid h
theorem dE:(∀ (a:Act) (i:Tmp) (v:Value),a.put (some i) v={a with tmps:=a.tmps.setIfInBounds i v})∧(∀ (a:Act) (v:Value),a.put none v=a)∧(∀ (l:List Value) (i:Nat) (v:Value),l.toArray.setIfInBounds i v=(l.set i v).toArray)∧(∀ (a b:Value) (l:List Value),(a :: l).set 0 b=b :: l)∧(∀ (a b:Value) (l:List Value) (n:Nat),(a :: l).set (n+1) b=a :: l.set n b):=⟨fun _ _ _=>rfl,fun _ _=>rfl,fun _ _ _=>by simp,fun _ _ _=>rfl,fun _ _ _ _=>rfl⟩
section
open Go.RowKit
theorem bR {n:Nat} {w:World}:Below n w w:=Below.refl _ _
theorem aK {P:Program} {f:FuncId} {args:Array Value} {W:World} {Q:Ending→World→Prop} (w:World) (h:Below w w W) (k:Below w w W→Calls P f args W Q):Calls P f args W Q:=k h
theorem bA {w W:World} {o:Obj} (h:Below w w W):Below w w (W.alloc o):=h.alloc h.size o
theorem bD {w W:World} (h:Below w w W):Below w w W.drew:=h.drew
theorem bS {w W:World} {p:Addr} {u:Value} (h:Below w w W) (hp:w.heap.size≤p.block):Below w w (W.setCell p u):=h.setCell hp u
theorem bT {w W F:World} (h:Below w w W) (k:Below W W F):Below w w F:=h.trans (k.mono h.size)
theorem bQ {a b:Bool} (h:a=b):Ending.returned (.bool a)=.returned (.bool b):=by rw [h]
def dV (n lo hi:Int):Bool:=decide (lo≤n) && decide (n≤hi)
theorem lF {n lo F:Int} (h1:lo≤n) (h2:n≤F):dV n lo F=true:=by simp [dV,h1,h2]
theorem zY {n lo F:Int} (h:n<lo∨F<n):dV n lo F=false:=by simp [dV];omega
theorem Ov {n lo F:Int} (h:lo≤n):decide (n≤F)=dV n lo F:=by simp [dV,h]
theorem dK {n lo F:Int}:dV n lo F=true↔lo≤n∧n≤F:=by simp [dV]
def kN (s e t:Int):Bool:=dV s 0 10 && dV e 0 999 && dV t 0 80
theorem KE {s e t:Int} (h:¬ dV s 0 10=true):false=kN s e t:=by simp [kN,h]
theorem KF {s e t:Int} (h:¬ dV e 0 999=true):false=kN s e t:=by simp [kN,h]
theorem KG {s e t:Int} (h:dV s 0 10=true) (h2:dV e 0 999=true):dV t 0 80=kN s e t:=by simp [kN,h,h2]
def nS (s e t m:Int):Int:=if kN s e t && dV m 0 999 then m else e
theorem QW {s e t m:Int} (h:¬ kN s e t=true):nS s e t m=e:=by simp [nS,h]
theorem QX {s e t m:Int} (h:(!dV m 0 999)=true):nS s e t m=e:=by simp at h;simp [nS,h]
theorem QZ {s e t m:Int} (h1:kN s e t=true) (h:(!dV m 0 999)=false):nS s e t m=m:=by simp at h;simp [nS,h1,h]
def kP (s e t f n v:Int):Bool:=s == f && (kN s e t && kN n e v)
def oF (s e t f n v:Int):Int:=if kP s e t f n v then n else s
def wV (s e t f n v:Int):Int:=if kP s e t f n v then v else t
theorem Ow {s e t f n v:Int} (h:¬ s=f):kP s e t f n v=false:=by simp [kP,h]
theorem D7 {s e t f n v:Int} (h:¬ kN s e t=true):kP s e t f n v=false:=by simp [kP,h]
theorem Ox {s e t f n v:Int} (h:(!kN n e v)=true):kP s e t f n v=false:=by simp at h;simp [kP,h]
theorem Oy {s e t n v:Int} (h1:kN s e t=true) (h:(!kN n e v)=false):kP s e t s n v=true:=by simp at h;simp [kP,h,h1]
def yA (s e t f n v:Int) (r:Ending):Prop:=r=.returned (.tuple #[.agg #[.int .i64 (oF s e t f n v),.int .i64 e,.int .i64 (wV s e t f n v)],.bool (kP s e t f n v)])
theorem wW {s e t f n v:Int} (h:kP s e t f n v=false):yA s e t f n v (.returned (.tuple #[.agg #[.int .i64 s,.int .i64 e,.int .i64 t],.bool false])):=by simp [yA,oF,wV,h]
theorem CQ {s e t f n v:Int} (h:kP s e t f n v=true):yA s e t f n v (.returned (.tuple #[.agg #[.int .i64 n,.int .i64 e,.int .i64 v],.bool true])):=by simp [yA,oF,wV,h]
def Seg (w:World) (B:Nat) (a:Option Addr) (n k:Nat) (f:Nat→Nat→Value):Prop :=
 n=0∨∃ b o,a=some ⟨b,o,none⟩∧b<B∧∀ i j,i<n→j<k→w.cell? ⟨b,o+i*k+j,none⟩=some (f i j)
def Row (w:World) (b:Nat) (t:TypeId) (n k:Nat) (f:Nat→Nat→Value):Prop :=
 ∃ c:Array Value,w.heap[b]?=some (.cells c t (0,0))∧c.size=n*k∧∀ i j,i<n→j<k→c[i*k+j]?=some (f i j)
namespace Row
variable {w w':World} {b:Nat} {t:TypeId} {n k:Nat} {f g:Nat→Nat→Value}
theorem cell (h:Row w b t n k f) {i j:Nat} (G:i<n) (H:j<k):w.cell? ⟨b,i*k+j,none⟩=some (f i j):=by
 obtain ⟨c,F,_,hc⟩:=h;simp [World.cell?,F,hc i j G H]
theorem frozen (h:Row w b t n k f) (o:Nat):w.frozen? ⟨b,o,none⟩=false:=by
 obtain ⟨c,F,_,_⟩:=h;simp [World.frozen?,F]
theorem lt (h:Row w b t n k f):b<w.heap.size:=by
 obtain ⟨c,G,_,_⟩:=h;obtain ⟨F,_⟩:=Array.getElem?_eq_some_iff.1 G;exact F
theorem congr (h:Row w b t n k f) (e:∀ i j,i<n→j<k→f i j=g i j):Row w b t n k g:=by
 obtain ⟨c,H,I,hc⟩:=h;exact ⟨c,H,I,fun i j F G=>by rw [hc i j F G,e i j F G]⟩
theorem of_block (h:Row w b t n k f) (e:w'.heap[b]?=w.heap[b]?):Row w' b t n k f:=by
 obtain ⟨c,F,G,hc⟩:=h;exact ⟨c,e.trans F,G,hc⟩
theorem below {B:Nat} (h:Row w b t n k f) (G:Below B w w') (F:b<B):Row w' b t n k f:=h.of_block (G.block b F)
theorem idx {i j F G k:Nat} (I:j<k) (H:G<k) (h:i*k+j=F*k+G):i=F∧j=G:=by
 have h1:(i*k+j) / k=i:=by rw [Nat.mul_comm,Nat.mul_add_div (by omega),Nat.div_eq_of_lt I];rfl
 have h2:(F*k+G) / k=F:=by rw [Nat.mul_comm,Nat.mul_add_div (by omega),Nat.div_eq_of_lt H];rfl
 have:i=F:=by rw [← h1,← h2,h]
 subst this;exact ⟨rfl,by omega⟩
theorem set (h:Row w b t n k f) {i j:Nat} (M:i<n) (K:j<k) (v:Value):Row (w.setCell ⟨b,i*k+j,none⟩ v) b t n k (fun F G=>if F=i∧G=j then v else f F G):=by
 obtain ⟨c,L,N,hc⟩:=h;refine ⟨c.setIfInBounds (i*k+j) v,?_,by simpa using N,fun F G I H=>?_⟩
 ·simp [World.setCell,Array.getElem?_modify,L]
 ·rw [Array.getElem?_setIfInBounds]
  by_cases e:i*k+j=F*k+G
  ·obtain ⟨rfl,rfl⟩:=idx K H e
   have J:i*k+j<c.size:=(Array.getElem?_eq_some_iff.1 (hc i j M K)).1;simp [J]
  ·rw [if_neg e]
   show c[F*k+G]?=some (if F=i∧G=j then v else f F G);rw [if_neg (fun h=>e (by rw [h.1,h.2]))];exact hc F G I H
theorem alloc (h:Row w b t n k f) (o:Obj):Row (w.alloc o) b t n k f:=h.of_block (Below.heap_alloc w o b h.lt)
theorem setOther (h:Row w b t n k f) {a:Addr} (F:b≠a.block) (v:Value):Row (w.setCell a v) b t n k f:=h.of_block (Below.heap_setCell w a v b F)
theorem seg (h:Row w b t n k f):Seg w w (some ⟨b,0,none⟩) n k f:=.inr ⟨b,0,rfl,h.lt,fun i j F G=>by simpa using h.cell F G⟩
theorem made (w:World) (z:Array Value) (n:Nat) (t:TypeId):Row (w.alloc (.cells (madeCells z (n*z.size)) t)) w t n z.size (fun _ j=>z[j]!):=by
 refine ⟨_,heap_alloc_new w _,size_madeCells _ _,fun i j G H=>?_⟩;have F:i*z.size+j<n*z.size:=by
  have:=Nat.mul_le_mul_right z.size (show i+1≤n from G);rw [Nat.add_mul] at this;omega
 simp [madeCells,F,Nat.mod_eq_of_lt H]
end Row
theorem Seg.below {w w':World} {B:Nat} {a:Option Addr} {n k:Nat} {f:Nat→Nat→Value} (h:Seg w B a n k f) (H:Below B w w'):Seg w' B a n k f:=by
 rcases h with h|⟨b,o,G,F,hc⟩
 ·exact .inl h
 ·exact .inr ⟨b,o,G,F,fun i j I J=>(H.cell (p:=⟨b,o+i*k+j,none⟩) F).trans (hc i j I J)⟩
theorem Seg.more {w:World} {B F:Nat} {a:Option Addr} {n k:Nat} {f:Nat→Nat→Value} (h:Seg w B a n k f) (I:B≤F):Seg w F a n k f:=by
 rcases h with h|⟨b,o,H,G,hc⟩
 ·exact .inl h
 ·exact .inr ⟨b,o,H,Nat.lt_of_lt_of_le G I,hc⟩
theorem Seg.setOther {w:World} {B F:Nat} {a:Option Addr} {n k:Nat} {f:Nat→Nat→Value} {p:Addr} {u:Value} (h:Seg w B a n k f) (G:B≤F) (hp:B≤p.block):Seg (w.setCell p u) F a n k f:=by
 rcases h with h|⟨b,o,H,I,hc⟩
 ·exact .inl h
 ·exact .inr ⟨b,o,H,Nat.lt_of_lt_of_le I G,fun i j J K=>(World.cell?_setCell_other _ _ _ _ (fun e=>by subst e;simp at hp;omega)).trans (hc i j J K)⟩
structure C3 where
 s:Int
 e:Int
 t:Int
def C3.val (c:C3) (j:Nat):Value:=match j with|0=>.int .i64 c.s|1=>.int .i64 c.e|_=>.int .i64 c.t
def jy (cs:List C3) (i j:Nat):Value:=(cs.getD i ⟨0,0,0⟩).val j
def U9 (c:C3):Bool:=kN c.s c.e c.t
theorem not_true {b:Bool} (h:(!b)=true):b=false:=by simpa using h
theorem not_false {b:Bool} (h:(!b)=false):b=true:=by simpa using h
theorem UZ {b:Bool} (h:¬ b=true):b=false:=by simpa using h
theorem ry {a b:Int} (h:a=b):Ending.returned (.int .i64 a)=.returned (.int .i64 b):=by rw [h]
theorem rz (cs:List C3) (k:Nat) (h:k<cs.length):cs.take (k+1)=cs.take k ++ [cs.getD k ⟨0,0,0⟩]:=by
 rw [List.take_succ_eq_append_getElem h];simp [List.getD,List.getElem?_eq_getElem h]
theorem zB {lo:Nat} {w W:World} (h:Below lo w W:=by (repeat (with_reducible first|assumption|exact bR|refine bA ?_|refine bD ?_|((first|refine bS ?_ ?_|refine Ra ?_ ?_);rotate_left;focus (try simp) <;> (try omega))))):Below lo w W:=h
theorem tS {P:Prop} (h:P:=by (try simp) <;> omega):P:=h
theorem tO {P:Prop} (h:P:=by omega):P:=h
end
section
open Go.RowKit
theorem UA {g b:Nat} {w F:World} (h:w.grownBy F (some g)) (G:b<w.heap.size) (H:b≠g) (o:Nat):F.cell? ⟨b,o,none⟩=w.cell? ⟨b,o,none⟩:=World.cell?_of_block (h.block b G sF)
theorem UB {g b:Nat} {w F:World} (h:w.grownBy F (some g)) (G:b<w.heap.size) (H:b≠g) (o:Nat):F.frozen? ⟨b,o,none⟩=w.frozen? ⟨b,o,none⟩:=World.frozen?_of_block (h.block b G sF)
def lG (l:List Int) (i _j:Nat):Value:=.int .i64 (l.getD i 0)
abbrev gG (w:World) (B:Nat) (a:Option Addr) (cs:List C3):Prop:=Seg w B a cs.length 3 (jy cs)
abbrev gI (w:World) (B:Nat) (a:Option Addr) (l:List Int):Prop:=Seg w B a l.length 1 (lG l)
def mE (cs:List C3):List Value:=cs.flatMap fun c=>[.int .i64 c.s,.int .i64 c.e,.int .i64 c.t]
theorem lH (cs:List C3):(mE cs).length=cs.length*3:=by
 induction cs with
 | nil=>rfl
 | cons c cs ih=>simp [mE] at *;omega
theorem kR:∀ (cs:List C3) (i j:Nat),i<cs.length→j<3→(mE cs)[i*3+j]?=some (jy cs i j)
 | [],i,j,hi,_=>by simp at hi
 | c :: cs,0,j,_,hj=>by
  have:j=0∨j=1∨j=2:=by omega
  rcases this with rfl|rfl|rfl <;> simp [mE,jy,C3.val]
 | c :: cs,i+1,j,hi,hj=>by
  have h:=kR cs i j (by simpa using hi) hj;have e:(i+1)*3+j=(i*3+j)+3:=by omega
  rw [e];simpa [mE,jy] using h
theorem CR (cs:List C3):∀ u ∈ mE cs,u.oneCell'=true:=by
 intro u F;simp only [mE,List.mem_flatMap] at F;obtain ⟨c,_,hc⟩:=F;simp at hc;rcases hc with rfl|rfl|rfl <;> rfl
def ints (l:List Int):List Value:=l.map (Value.int .i64)
theorem Oo (l:List Int):∀ u ∈ ints l,u.oneCell'=true:=by
 intro u F;obtain ⟨x,_,rfl⟩:=List.mem_map.1 F;rfl
theorem mO {w W F:World} {lo:Nat} {row:Option Nat} (h:Below lo w W) (H:W.grownBy F row) (G:lo≤W.heap.size) (hr:∀ k,row=some k→lo≤k):Below lo w F:=h.grown H G hr
abbrev aF (w:World) (lo:Nat) (v:Value) (cs:List C3):Prop:=w.ownsRow lo 93 3 v cs.length (mE cs)
abbrev aI (w:World) (lo:Nat) (v:Value) (l:List Int):Prop:=w.ownsRow lo 2 1 v l.length (ints l)
theorem aF.seg {w:World} {lo:Nat} {v:Value} {cs:List C3} (h:aF w lo v cs):∃ (a:Option Addr) (cap:Nat),v=.slice a cs.length cap∧Seg w w a cs.length 3 (jy cs):=by
 rcases h.2 with ⟨rfl,F⟩|⟨g,cap,G,rfl,_,H,_⟩
 ·exact ⟨none,0,by rw [F],.inl F⟩
 ·refine ⟨_,cap,rfl,.inr ⟨g,0,rfl,(Array.getElem?_eq_some_iff.1 H).1,fun i j I J=>?_⟩⟩
  have:=h.cells (g:=g) rfl (i*3+j) _ (kR cs i j I J);rw [← this];congr 1;by_cases e:i*3+j=0 <;> simp [Addr.add,e] <;> omega
theorem aI.seg {w:World} {lo:Nat} {v:Value} {l:List Int} (h:aI w lo v l):∃ (a:Option Addr) (cap:Nat),v=.slice a l.length cap∧Seg w w a l.length 1 (lG l):=by
 rcases h.2 with ⟨rfl,G⟩|⟨g,cap,H,rfl,_,I,_⟩
 ·exact ⟨none,0,by rw [G],.inl G⟩
 ·refine ⟨_,cap,rfl,.inr ⟨g,0,rfl,(Array.getElem?_eq_some_iff.1 I).1,fun i j J K=>?_⟩⟩
  have F:j=0:=by omega
  subst F;have:=h.cells (g:=g) rfl i (lG l i 0) (by simp [ints,lG,List.getD,J]);rw [← this];congr 1;by_cases e:i=0 <;> simp [Addr.add,e] <;> omega
theorem aI.snoc {w:World} {lo:Nat} {v:Value} {l:List Int} {x:Int} (h:w.ownsRow lo 2 1 v (l.length+1) (ints l ++ [.int .i64 x])):aI w lo v (l ++ [x]):=by
 have e:ints (l ++ [x])=ints l ++ [.int .i64 x]:=by simp [ints]
 unfold aI;rw [e,List.length_append];exact h
theorem Seg.newsC {w:World} {B b o:Nat} {cs:List C3} (h:Seg w B (some ⟨b,o,none⟩) cs.length 3 (jy cs)):∀ j u,(mE cs)[j]?=some u→w.cell? ((⟨b,o,none⟩:Addr).add j)=some u:=by
 intro j u F;have J:j<cs.length*3:=by rw [← lH];exact (List.getElem?_eq_some_iff.1 F).1
 rcases h with I|⟨H,K,e,_,hc⟩
 ·omega
 ·simp at e
  obtain ⟨rfl,rfl⟩:=e;have G:j=j / 3*3+j % 3:=by omega
  have h1:=kR cs (j / 3) (j % 3) tO tO;rw [← G] at h1;have h2:=hc (j / 3) (j % 3) tO tO;rw [h1] at F;simp at F;rw [← F,← h2];congr 1;by_cases e:j=0 <;> simp [Addr.add,e] <;> omega
theorem Seg.newsI {w:World} {B b o:Nat} {l:List Int} (h:Seg w B (some ⟨b,o,none⟩) l.length 1 (lG l)):∀ j u,(ints l)[j]?=some u→w.cell? ((⟨b,o,none⟩:Addr).add j)=some u:=by
 intro j u G;have F:j<l.length:=by have:=(List.getElem?_eq_some_iff.1 G).1;simpa [ints] using this
 rcases h with I|⟨H,J,e,_,hc⟩
 ·omega
 ·simp at e
  obtain ⟨rfl,rfl⟩:=e;have h2:=hc j 0 F tO;have:u=lG l j 0:=by simp [ints,F] at G;simp [lG,List.getD,F,← G]
  rw [this,← h2];congr 1;by_cases e:j=0 <;> simp [Addr.add,e]
theorem tK (w:World) (lo:Nat) (e:TypeId) (k:Nat) (h:lo≤w.heap.size):(w.alloc (.cells #[] e)).ownsRow lo e k (.slice (some ⟨w,0,none⟩) 0 0) 0 [] :=
 World.ownsRow_made w #[] 0 h cK cK
theorem iQ (w:World) (lo:Nat) (e:TypeId) (k n:Nat) (F:n=w.heap.size) (h:lo≤w.heap.size):(w.alloc (.cells #[] e)).ownsRow lo e k (.slice (some ⟨n,0,none⟩) 0 0) 0 []:=by
 subst F;exact tK w lo e k h
theorem kQ {w:World} {p:Addr} {u:Value} {o:Obj} (h:w.cell? p=some u):(w.alloc o).cell? p=some u:=by
 rw [World.cell?_alloc_lt _ _ _ (World.block_lt_of_cell? w p h)];exact h
theorem aL {w:World} {lo lo':Nat} {e:TypeId} {k n:Nat} {v:Value} {G:List Value} (h:w.ownsRow lo e k v n G) (H:lo'≤lo):w.ownsRow lo' e k v n G:=by
 refine ⟨h.1,?_⟩;rcases h.2 with h|⟨g,cap,F,h1,h2,h3⟩
 ·exact .inl h
 ·exact .inr ⟨g,cap,F,h1,Nat.le_trans H h2,h3⟩
theorem own_ne {w:World} {lo:Nat} {e:TypeId} {k n:Nat} {v:Value} {G:List Value} (h:w.ownsRow lo e k v n G) {b:Nat} (H:b<lo):v.ownBlock≠some b:=fun F=>by have:=(h.lt b F).1;omega
theorem own_below {w G:World} {lo:Nat} {e:TypeId} {k n:Nat} {v:Value} {H:List Value} (h:w.ownsRow lo e k v n H) (F:Below w w G):G.ownsRow lo e k v n H :=
 h.kept (row:=none) ⟨F.os,F.tape,F.output,F.size,fun i I _=>F.block i I⟩ (by cases v.ownBlock <;> simp)
theorem xG {w:World} {lo:Nat} {e:TypeId} {k n:Nat} {v:Value} {F:List Value} (h:w.ownsRow lo e k v n F) (o:Obj):(w.alloc o).ownsRow lo e k v n F:=World.ownsRow.alloc h o
theorem wM {w:World} {lo:Nat} {e:TypeId} {k n:Nat} {v:Value} {F:List Value} (h:w.ownsRow lo e k v n F):w.drew.ownsRow lo e k v n F:=h
theorem aV {w:World} {lo:Nat} {e:TypeId} {k n:Nat} {v:Value} {F:List Value} (h:w.ownsRow lo e k v n F) {p:Addr} (hp:v.ownBlock≠some p.block) (u:Value):(w.setCell p u).ownsRow lo e k v n F :=
 h.kept (row:=some p.block) ⟨rfl,rfl,rfl,by simp [World.setCell],fun i _ G=>Below.heap_setCell w p u i (fun e=>G (by rw [e]))⟩ (.inr hp)
theorem kJ {w:World} {lo:Nat} {e:TypeId} {k g n cap:Nat} {G:List Value} (h:w.ownsRow lo e k (.slice (some ⟨g,0,none⟩) n cap) n G) (i:Nat) (M:i<G.length) (u:Value) :
  (w.setCell ⟨g,i,none⟩ u).ownsRow lo e k (.slice (some ⟨g,0,none⟩) n cap) n (G.set i u):=by
 refine ⟨by simpa using h.1,?_⟩;rcases h.2 with ⟨I,_⟩|⟨g',H,F,h1,h2,h3,J,K,h6,L⟩
 ·simp at I
 ·simp at h1
  obtain ⟨rfl,rfl⟩:=h1;refine .inr ⟨g,cap,F.setIfInBounds i u,rfl,h2,by simp [World.setCell,Array.getElem?_modify,h3],J,K,by simpa using h6,?_⟩;rw [Array.toList_setIfInBounds,← L,List.take_set]
theorem ints_set (l:List Int) (i:Nat) (x:Int):ints (l.set i x)=(ints l).set i (.int .i64 x):=by simp [ints,List.map_set]
theorem Fu (l:List Int):(ints l).length=l.length:=by simp [ints]
theorem xI:∀ (cs:List C3) (i:Nat) (c:C3),mE (cs.set i c)=(((mE cs).set (i*3) (.int .i64 c.s)).set (i*3+1) (.int .i64 c.e)).set (i*3+2) (.int .i64 c.t)
 | [],i,c=>by simp [mE]
 | d :: cs,0,c=>by simp [mE]
 | d :: cs,i+1,c=>by
  have h:=xI cs i c;have F:(i+1)*3=i*3+3:=by omega
  rw [F];simpa [mE] using h
theorem pR:(Tryz.prog.info? 2).map (fun i=>(i.zero,i.size,i.bytes))=some (some (.int .i64 0),1,8):=by kernel_rfl
abbrev Gr (g:Nat) (w w':World):Prop:=w.grownBy w' (some g)
theorem gR (g:Nat) (w:World):Gr g w w:=⟨rfl,rfl,rfl,Nat.le_refl _,fun _ _ _=>rfl⟩
theorem gD {g:Nat} {w W:World} (h:Gr g w W):Gr g w W.drew:=⟨h.os,h.tape,h.output,h.size,h.block⟩
theorem V8 {g:Nat} {w W:World} (h:Gr g w W) (n:Nat):Gr g w (W.drewN n):=⟨h.os,h.tape,h.output,h.size,h.block⟩
theorem gA {g:Nat} {w W:World} {o:Obj} (h:Gr g w W):Gr g w (W.alloc o):=⟨h.os,h.tape,h.output,Nat.le_trans h.size cK,fun k F G=>(Below.heap_alloc W o k (Nat.lt_of_lt_of_le F h.size)).trans (h.block k F G)⟩
theorem gS {g:Nat} {w W:World} {p:Addr} {u:Value} (h:Gr g w W) (hp:p.block=g∨w.heap.size≤p.block):Gr g w (W.setCell p u) :=
 ⟨h.os,h.tape,h.output,by simpa [World.setCell] using h.size,fun k G F=>(Below.heap_setCell W p u k (by
  rintro rfl;rcases hp with hp|hp
  ·exact F (by rw [hp])
  ·omega)).trans (h.block k G F)⟩
theorem gT {g:Nat} {w W H:World} (h:Gr g w W) (k:Gr g W H):Gr g w H :=
 ⟨k.os.trans h.os,k.tape.trans h.tape,k.output.trans h.output,Nat.le_trans h.size k.size,fun i F G=>(k.block i (Nat.lt_of_lt_of_le F h.size) G).trans (h.block i F G)⟩
theorem V9 {B:Nat} {a w:World} (h:Below B a w) (n:Nat):Below B a (w.drewN n):=⟨h.os,h.tape,h.output,h.size,h.block⟩
theorem mP {g b:Nat} {w F:World} (h:Gr g w F) (G:b<w.heap.size) (H:b≠g) (o:Nat):F.cell? ⟨b,o,none⟩=w.cell? ⟨b,o,none⟩ :=
 World.cell?_of_block (h.block b G sF)
theorem nT {g b:Nat} {w F:World} (h:Gr g w F) (G:b<w.heap.size) (H:b≠g) (o:Nat):F.frozen? ⟨b,o,none⟩=w.frozen? ⟨b,o,none⟩ :=
 World.frozen?_of_block (h.block b G sF)
theorem bG {g:Nat} {w W G:World} (h:Below w w W) (k:Gr g W G) (H:w.heap.size≤g):Below w w G :=
 ⟨k.os.trans h.os,k.tape.trans h.tape,k.output.trans h.output,Nat.le_trans h.size k.size,fun i F=>(k.block i (Nat.lt_of_lt_of_le F h.size) dQ).trans (h.block i F)⟩
theorem zf {g:Nat} {w F:World} (h:Below w w F):Gr g w F:=⟨h.os,h.tape,h.output,h.size,fun i G _=>h.block i G⟩
theorem zO {w L W:World} {lo F:Nat} {e I:TypeId} {k J m K:Nat} {v:Value} {H G:List Value} (h:w.ownsRow lo e k v m H) (N:L.ownsRow F I J v K G) (r:w.ownsRow lo e k v m H→L.ownsRow F I J v K G→W.ownsRow lo e k v m H:=by (intro O M;repeat first|with_reducible exact O|with_reducible refine xG ?_ _|with_reducible refine wM ?_|((with_reducible first|refine aV ?_ ?_ _|refine fC ?_ ?_);rotate_left;focus first|(refine own_ne M ?_;(try dsimp only);omega)|(refine dN M ?_;(try dsimp only);omega)))):W.ownsRow lo e k v m H:=r h N
theorem zP {w L W:World} {lo F:Nat} {e I:TypeId} {k J m K:Nat} {v:Value} {H G:List Value} {p q:Nat} (h:w.ownsRow lo e k v m H) (N:L.ownsRow F I J v K G) (f:∀ j,p≤j→j<q→v.ownBlock≠some j) (r:w.ownsRow lo e k v m H→L.ownsRow F I J v K G→(∀ j,p≤j→j<q→v.ownBlock≠some j)→W.ownsRow lo e k v m H:=by (intro R M O;repeat first|with_reducible exact R|with_reducible refine xG ?_ _|with_reducible refine wM ?_|((with_reducible first|refine aV ?_ ?_ _|refine fC ?_ ?_);rotate_left;focus first|(refine own_ne M ?_;(try dsimp only);omega)|(refine dN M ?_;(try dsimp only);omega)|exact O _ (by (try dsimp only) <;> omega) (by (try dsimp only) <;> omega)))):W.ownsRow lo e k v m H:=r h N f
theorem lY {g:Nat} {w W:World} (h:Gr g w W:=by (repeat (first|with_reducible assumption|with_reducible exact gR _ _|with_reducible refine gA ?_|with_reducible refine gD ?_|((with_reducible refine gS ?_ (.inr ?_));rotate_left;(focus ((try simp);(try omega))))))):Gr g w W:=h
theorem mT {P:Program} {G:Array Oper} {Q:Exit→Act→World→Prop} {I:Region.Mode} {S:World→Prop} {i:Nat} {oi:Oper} {v:Value} {H:Nat} {F:Array Bool} {a:Act} {w:World} (L:G[i]?=some oi)
  (h:wpAnyH P I G Q S H (F.setIfInBounds i true) (a.put oi.dst v) w) (g:Region.wanted oi (yielded G a.tmps)=true:=by rfl) (y:∀ w,S w→(execOp a.eval oi).run P w=.ok (.value v) w:=by (intro w' hSw;(try dsimp only at hSw);go_simp;(try with_reducible rfl)))
  (hs:Region.noSelect G=true:=by kernel_rfl) (K:Region.free I G F i=true:=by kernel_rfl) (hr:(Region.ready I G F).contains i=true:=by kernel_rfl) (J:S w:=by assumption)
  (hQ:∀ c a w,Q (.panic c) (a.put oi.dst v) w→Q (.panic c) a w:=by exact fun _ _ _ h=>h):wpAnyH P I G Q S (H+1) F a w:=wpAnyH_take L hs K hr hQ (.inl ⟨g,y⟩) J h
theorem mS {P:Program} {G:Array Oper} {Q:Exit→Act→World→Prop} {I:Region.Mode} {S:World→Prop} {i:Nat} {oi:Oper} {H:Nat} {F:Array Bool} {a:Act} {w:World} (L:G[i]?=some oi)
  (h:wpAnyH P I G Q S H (F.setIfInBounds i true) (a.put oi.dst undef) w) (g:Region.wanted oi (yielded G a.tmps)=false:=by rfl)
  (hs:Region.noSelect G=true:=by kernel_rfl) (K:Region.free I G F i=true:=by kernel_rfl) (hr:(Region.ready I G F).contains i=true:=by kernel_rfl) (J:S w:=by assumption)
  (hQ:∀ c a w,Q (.panic c) (a.put oi.dst undef) w→Q (.panic c) a w:=by exact fun _ _ _ h=>h):wpAnyH P I G Q S (H+1) F a w:=wpAnyH_take L hs K hr hQ (.inr ⟨g,rfl⟩) J h
theorem iP (n m k:Int) (w:World):Calls prog 121 #[.int .i64 n,.int .i64 m,.int .i64 k] w fun e w'=>e=.returned (.bool (dV n m k))∧w=w':=by
 go_enter func121,ntmps121
 go_wp2
 all_goals go_ret
 ·exact ⟨bQ (Ov ‹_›),rfl⟩
 ·exact ⟨bQ (zY (.inl ‹_›)).symm,rfl⟩
theorem yB (n:Int) (w:World):Calls prog 171 #[.int .i64 n] w fun r w'=>r=.returned (.bool (dV n 0 10))∧w=w':=by
 go_enter func171,ntmps171
 exact KD
theorem p8 (n:Int) (w:World):Calls prog 122 #[.int .i64 n] w fun r w'=>r=.returned (.bool (dV n 0 999))∧w=w':=by
 go_enter func122,ntmps122
 exact KD
theorem nV (s e t:Int) (w:World):Calls prog 162 #[.agg #[.int .i64 s,.int .i64 e,.int .i64 t]] w fun r w'=>r=.returned (.bool (kN s e t))∧Below w w w':=by
 go_enter func162,ntmps162
 go_wp2_with (first|(go_at_call 171;refine (yB _ _).mono ?_;rintro _ _ ⟨rfl,rfl⟩)|(go_at_call 122;refine (p8 _ _).mono ?_;rintro _ _ ⟨rfl,rfl⟩)|(go_at_call 121;refine (iP _ _ _ _).mono ?_;rintro _ _ ⟨rfl,rfl⟩))
 all_goals go_ret
 all_goals refine ⟨bQ ?_,by exact zB⟩
 ·exact KG ‹_› ‹_›
 ·exact KF ‹_›
 ·exact KE ‹_›
end
section
structure Ch where
 cap:Int
 sent:Int
 got:Int
 fin:Int
 cells:List C3
 words:List Int
structure Ha where
 pos:Int
 code:Int
 elem:Int
 cell:Int
 seen:Int
 wait:Int
 fin:Int
 come:Int
 grow:Int
 mine:Int
 nxt:Int
 beg:Int
 reply:Int
 out:Int
def C3.zero:C3:=⟨0,0,0⟩
def Ch.zero:Ch:=⟨0,0,0,0,[],[]⟩
def Ha.zero:Ha:=⟨0,0,0,0,0,0,0,0,0,0,0,0,0,0⟩
def fw (m:Nat) (c:C3):Bool:=U9 c && decide (c.t≤m)
def fH (c:Ch):Bool:=dV c.cap 0 4 && (dV c.sent 0 40 && (dV c.got 0 40 && (dV c.fin 0 40 && (decide (c.cells.length=40) && decide (c.words.length≤80)))))
def aN (c:Ch):Bool:=fH c && (c.cells.all (fw c.words) && c.words.all (fun x=>dV x 0 2))
def fI (cap:Int):Ch:=if dV cap 0 4 then ⟨cap,0,0,cap,List.replicate 40 C3.zero,[]⟩ else Ch.zero
def kT (st:Int):Nat→List C3→List Int
 | _,[]=>[]
 | k,c :: cs=>if c.s == st then (k:Int) :: kT st (k+1) cs else kT st (k+1) cs
def BK (c:Ch) (st:Int):List Int:=kT st 0 c.cells
def keptIn (c:Ch):List Int:=if aN c then (BK c 2).map fun i=>(c.cells.getD i.toNat C3.zero).e else []
def lI (c:Ch) (st:Int):List Int:=if aN c then BK c st else []
def jR (c:Ch) (w:Int):Bool:=dV w 1 c.words
def dH (c:Ch) (w:Int):Int:=c.words.getD (w - 1).toNat 0
def jA (c:Ch) (w:Int):Int:=if aN c && jR c w then dH c w else -1
def eG (c:Ch) (w word:Int):Bool:=jR c w && (dH c w == 0 && dV word 1 2)
def cZ (c:Ch) (w word:Int):Ch:=if eG c w word then { c with words:=c.words.set (w - 1).toNat word } else c
end
section
open Go.RowKit
theorem tL (n:Int) (w:World):Calls prog 161 #[.int .i64 n] w fun r w'=>r=.returned (.bool (dV n 0 40))∧w=w':=by
 go_enter func161,ntmps161
 exact KD
theorem Rb (cap sent got fin:Int) (cells:List C3) (words:List Int) (h:fH ⟨cap,sent,got,fin,cells,words⟩=false):false=aN ⟨cap,sent,got,fin,cells,words⟩:=by simp [aN,h]
theorem Oz {cap sent got fin:Int} {cells:List C3} {words:List Int} (h:fH ⟨cap,sent,got,fin,cells,words⟩=true) :
  dV cap 0 4=true∧dV sent 0 40=true∧dV got 0 40=true∧dV fin 0 40=true∧cells.length=40∧words.length≤80:=by
 simpa [fH] using h
theorem Iw (cap sent got fin:Int) (cells:List C3) (words:List Int) (a b:Option Addr) (p q:Nat) (w:World) (h:fH ⟨cap,sent,got,fin,cells,words⟩=false) :
  Calls prog 112 #[.agg #[.int .i64 cap,.int .i64 sent,.int .i64 got,.int .i64 fin,.slice a cells.length p,.slice b words.length q]] w fun r w'=>r=.returned (.bool (aN ⟨cap,sent,got,fin,cells,words⟩))∧Below w w w':=by
 rw [← Rb _ _ _ _ _ _ h];have H:=aA h;clear h;go_enter func112,ntmps112;go_wp2_with (first|(go_at_call 121;refine (iP _ _ _ _).mono ?_;rintro _ _ ⟨rfl,rfl⟩)|(go_at_call 161;refine (tL _ _).mono ?_;rintro _ _ ⟨rfl,rfl⟩))
 all_goals first|(go_ret;exact ⟨rfl,by exact zB⟩)|skip
 exfalso;have h:=H.out;simp [fH, *] at h;omega
theorem CS {cap sent got fin:Int} {cells:List C3} {words:List Int} {k:Nat} {c:C3} (F:k<cells.length) (hc:cells.getD k ⟨0,0,0⟩=c) (h:fw words.length c=false):false=aN ⟨cap,sent,got,fin,cells,words⟩:=by
 have:cells.all (fw words.length)=false:=by
  rw [List.all_eq_false];refine ⟨cells[k],List.getElem_mem F,?_⟩;rw [← hc] at h;simpa [List.getD,List.getElem?_eq_getElem F] using h
 simp [aN,this]
theorem Lp {cap sent got fin:Int} {cells:List C3} {words:List Int} {k:Nat} {x:Int} (F:k<words.length) (hc:words.getD k 0=x) (h:dV x 0 2=false):false=aN ⟨cap,sent,got,fin,cells,words⟩:=by
 have:words.all (fun x=>dV x 0 2)=false:=by
  rw [List.all_eq_false];refine ⟨words[k],List.getElem_mem F,?_⟩;rw [← hc] at h;simpa [List.getD,List.getElem?_eq_getElem F] using h
 simp [aN,this]
theorem zZ {words:List Int} {k:Nat} {x:Int} (F:k<words.length) (hc:words.getD k 0=x) (h:(words.take k).all (fun x=>dV x 0 2)=true) (h1:dV x 0 2=true):(words.take (k+1)).all (fun x=>dV x 0 2)=true:=by
 have e:words.take (k+1)=words.take k ++ [x]:=by
  rw [List.take_succ_eq_append_getElem F,← hc];simp [List.getD,List.getElem?_eq_getElem F]
 rw [e,List.all_append,h];simp [h1]
def fitsAt (words:List Int) (cells:List C3) (k:Nat):Prop:=(cells.take k).all (fw words.length)=true
theorem O0 {cap sent got fin:Int} {cells:List C3} {words:List Int} (h:fH ⟨cap,sent,got,fin,cells,words⟩=true) (h1:fitsAt words cells cells.length) (h2:(words.take words.length).all (fun x=>dV x 0 2)=true):true=aN ⟨cap,sent,got,fin,cells,words⟩:=by
 unfold fitsAt at h1;rw [List.take_length] at h1 h2;unfold aN;rw [h,h1,h2];rfl
theorem Ls {words:List Int} {cells:List C3} {k:Nat} {c:C3} (F:k<cells.length) (hc:cells.getD k ⟨0,0,0⟩=c) (h:fitsAt words cells k) (h1:fw words.length c=true):fitsAt words cells (k+1):=by
 unfold fitsAt at *;rw [rz cells k F,hc,List.all_append,h];simp [h1]
set_option linter.unusedSimpArgs false in
theorem Fv (cap sent got fin:Int) (cells:List C3) (words:List Int) (a b:Option Addr) (p q:Nat) (w:World) (h1:gG w w a cells) (h2:gI w w b words) (h:fH ⟨cap,sent,got,fin,cells,words⟩=true) :
  Calls prog 112 #[.agg #[.int .i64 cap,.int .i64 sent,.int .i64 got,.int .i64 fin,.slice a cells.length p,.slice b words.length q]] w fun r w'=>r=.returned (.bool (aN ⟨cap,sent,got,fin,cells,words⟩))∧Below w w w':=by
 obtain ⟨i1,i2,i3,i4,i5,i6⟩:=Oz h;have hl:((cells.length:Int) != 40)=false:=by simp;omega
 have a8:cells.length≤40:=by omega
 have hw:decide (80<(words.length:Int))=false:=by simp;omega
 have H1:=aA h1;have H2:=aA h2;have HH:=aA h;have I5:=aA i5;clear h1 h2 h i5;obtain ⟨I,J,rfl,V,X⟩:∃ b o,a=some ⟨b,o,none⟩∧b<w.heap.size∧Hid (∀ i j,i<cells.length→j<3→w.cell? ⟨b,o+i*3+j,none⟩=some (jy cells i j)):=by
  rcases H1.out with h0|h0
  ·exact absurd h0 (by have:=I5.out;omega)
  ·exact h0
 go_enter func112,ntmps112
 go_wp2_with (first|(go_at_call 121;refine (iP _ _ _ _).mono ?_;rintro _ _ ⟨rfl,rfl⟩)|(go_at_call 161;refine (tL _ _).mono ?_;rintro _ _ ⟨rfl,rfl⟩))
 go_loopw [3] (fun i wr=>∃ k:Nat,k≤cells.length∧i=.int .i64 k∧fitsAt words cells k∧(∀ o,wr.cell? ⟨w,o,none⟩=#[Value.int .i64 cap,.int .i64 sent,.int .i64 got,.int .i64 fin,.slice (some ⟨I,J,none⟩) cells.length p,.slice b words.length q][o]?)∧w<wr.heap.size∧Below w w wr) (fun i _=>cells.length - (intOf i).toNat)
 case atStart=>exact ⟨0,Nat.zero_le _,rfl,rfl,fun o=>by simp,by simp,by exact zB⟩
 case round =>
  obtain ⟨k,hk,rfl,T,H,L,N⟩:=hrel;by_cases G:k<cells.length
  ·have c0:=(N.cell (p:=⟨I,J+k*3+0,none⟩) V).trans (X.out k 0 G tO)
   have c1:=(N.cell (p:=⟨I,J+k*3+1,none⟩) V).trans (X.out k 1 G tO);have c2:=(N.cell (p:=⟨I,J+k*3+2,none⟩) V).trans (X.out k 2 G tO);simp only [jy,C3.val,Nat.add_zero] at c0 c1 c2;generalize M:cells.getD k ⟨0,0,0⟩=c at c0 c1 c2;have Y:=aA M;clear M;have x4:=H 4;have x5:=H 5;simp at x4 x5;have a6:(0:Int)≤(k:Int):=by omega
   have a7:(k:Int)<(cells.length:Int):=by omega
   by_cases hok:kN c.s c.e c.t=true
   ·go_wp2_with fail
    go_region_held3 (fun w'=>w'.cell? ⟨w,4,none⟩=some (.slice (some ⟨I,J,none⟩) cells.length p)∧w'.cell? ⟨w,5,none⟩=some (.slice b words.length q)∧w'.cell? ⟨I,J+k*3,none⟩=some (.int .i64 c.s)∧w'.cell? ⟨I,J+k*3+1,none⟩=some (.int .i64 c.e)∧w'.cell? ⟨I,J+k*3+2,none⟩=some (.int .i64 c.t))
     (first|(simp [*,go_sem]))
     (first|(go_at_call 162;refine (nV _ _ _ _).mono ?_;rintro _ w7 ⟨rfl,F⟩;have O:Below w w w7:=bT zB F;have:=F.cell (p:=⟨w,4,none⟩) dQ;have:=F.cell (p:=⟨w,5,none⟩) dQ;have:=F.cell (p:=⟨I,J+k*3,none⟩) dQ;have:=F.cell (p:=⟨I,J+k*3+1,none⟩) dQ;have:=F.cell (p:=⟨I,J+k*3+2,none⟩) dQ;have a2:=fun o=>(F.cell (p:=⟨w,o,none⟩) dQ).trans (H o);have a1:=F.size;simp at a1))
    by_cases a5:(words.length:Int)<c.t
    ·go_wp2
     go_ret;exact ⟨bQ (CS G Y.out (by simp [fw,U9,hok];omega)),O⟩
    ·go_wp2
     go_roundw
     case rel=>exact ⟨k+1,by omega,by go_num,Ls G Y.out T (by simp [fw,U9,hok];omega),a2,by omega,O⟩
     case measure=>simp [intOf];omega
   ·have U:kN c.s c.e c.t=false:=by simpa using hok
    clear hok x5;go_wp2_with fail;refine wp_region_held_drew (S:=fun w'=>w'.cell? ⟨w,4,none⟩=some (.slice (some ⟨I,J,none⟩) cells.length p)∧w'.cell? ⟨I,J+k*3,none⟩=some (.int .i64 c.s)∧w'.cell? ⟨I,J+k*3+1,none⟩=some (.int .i64 c.e)∧w'.cell? ⟨I,J+k*3+2,none⟩=some (.int .i64 c.t)) bH qp (fun a3=>?_);refine mT (i:=0) (oi:=⟨some 46,_,_,_,_,_⟩) rfl ?_;(try simp only [dE]);refine mT (i:=1) (oi:=⟨some 47,_,_,_,_,_⟩) rfl ?_;(try simp only [dE])
    refine mT (i:=2) (oi:=⟨some 48,_,_,_,_,_⟩) rfl ?_;(try simp only [dE]);refine mT (i:=3) (oi:=⟨some 49,_,_,_,_,_⟩) rfl ?_;(try simp only [dE]);refine mT (i:=4) (oi:=⟨some 50,_,_,_,_,_⟩) rfl ?_;(try simp only [dE]);refine wpAnyH_ready (rs:=[5]) bH cK ?_;refine AllReadyH.cons (o:=⟨some 51,_,_,_,_,_⟩) rfl (fun K hK=>?_) AllReadyH.nil;go_simp
    go_at_call 162
    refine (nV _ _ _ _).mono ?_;rintro _ w7 ⟨rfl,F⟩;have O:Below w w w7:=bT zB F;rw [U];refine hK.out _ _ ?_ (fun a4=>?_)
    ·refine ⟨(F.cell dQ).trans x4,(F.cell dQ).trans c0,(F.cell dQ).trans c1,(F.cell dQ).trans c2⟩
    clear hK
    (try simp only [dE])
    refine mT (i:=6) (oi:=⟨some 52,_,_,_,_,_⟩) rfl ?_;(try simp only [dE]);refine mT (i:=7) (oi:=⟨some 53,_,_,_,_,_⟩) rfl ?_;(try simp only [dE]);refine mS (i:=8) (oi:=⟨some 54,_,_,_,_,_⟩) rfl ?_;(try simp only [dE]);refine mS (i:=9) (oi:=⟨some 55,_,_,_,_,_⟩) rfl ?_;(try simp only [dE]);refine mS (i:=10) (oi:=⟨some 56,_,_,_,_,_⟩) rfl ?_;(try simp only [dE]);refine mS (i:=11) (oi:=⟨some 57,_,_,_,_,_⟩) rfl ?_;(try simp only [dE])
    refine mS (i:=12) (oi:=⟨some 58,_,_,_,_,_⟩) rfl ?_;(try simp only [dE]);refine mS (i:=13) (oi:=⟨some 59,_,_,_,_,_⟩) rfl ?_;(try simp only [dE]);refine mS (i:=14) (oi:=⟨some 60,_,_,_,_,_⟩) rfl ?_;(try simp only [dE]);refine mS (i:=15) (oi:=⟨some 61,_,_,_,_,_⟩) rfl ?_;(try simp only [dE]);refine mS (i:=16) (oi:=⟨some 62,_,_,_,_,_⟩) rfl ?_;(try simp only [dE]);refine mS (i:=17) (oi:=⟨some 63,_,_,_,_,_⟩) rfl ?_;(try simp only [dE])
    refine mT (i:=18) (oi:=⟨some 64,_,_,_,_,_⟩) rfl ?_;(try simp only [dE]);refine wpAnyH_done bH ?_ _;go_wp2;go_ret;exact ⟨bQ (CS G Y.out (by simp [fw,U9,U])),O⟩
  ·have:k=cells.length:=by omega
   subst this;go_wp2;go_loopw [4] (fun i wr=>∃ k:Nat,k≤words.length∧i=.int .i64 k∧Hid ((words.take k).all (fun x=>dV x 0 2)=true)∧(∀ o,wr.cell? ⟨w,o,none⟩=#[Value.int .i64 cap,.int .i64 sent,.int .i64 got,.int .i64 fin,.slice (some ⟨I,J,none⟩) cells.length p,.slice b words.length q][o]?)∧w<wr.heap.size∧Below w w wr) (fun i _=>words.length - (intOf i).toNat)
   case atStart=>exact ⟨0,Nat.zero_le _,rfl,rfl,H,L,N⟩
   case round =>
    clear H L N hk;obtain ⟨k,hk,rfl,R,H,L,N⟩:=hrel;have x5:=H 5;simp at x5;by_cases G:k<words.length
    ·obtain h0|⟨b2,o2,rfl,a0,Z⟩:=H2.out
     ·omega
     have c0:=(N.cell (p:=⟨b2,o2+k*1+0,none⟩) a0).trans (Z k 0 G tO);simp only [lG,Nat.add_zero,Nat.mul_one] at c0;clear Z;generalize M:words.getD k 0=x at c0;have Y:=aA M;clear M;go_wp2_with (go_at_call 121;refine (iP _ _ _ _).mono ?_;rintro _ _ ⟨rfl,rfl⟩)
     ·go_ret
      exact ⟨bQ (Lp G Y.out (not_true ‹_›)),N⟩
     ·go_roundw
      case rel=>exact ⟨k+1,by omega,by go_num,zZ G Y.out R.out (not_false ‹_›),H,L,N⟩
      case measure=>simp [intOf];omega
    ·have:k=words.length:=by omega
     subst this;go_wp2;go_ret;exact ⟨bQ (O0 HH.out T R.out),N⟩
theorem nW (c:Ch) (a b:Option Addr) (p q:Nat) (w:World) (h1:gG w w a c.cells) (h2:gI w w b c.words) :
  Calls prog 112 #[.agg #[c.cap,c.sent,c.got,c.fin,.slice a c.cells p,.slice b c.words q]] w fun r w'=>r=.returned (.bool (aN c))∧Below w w w':=by
 obtain ⟨cap,sent,got,fin,cells,words⟩:=c;by_cases h:fH ⟨cap,sent,got,fin,cells,words⟩=true
 ·exact Fv cap sent got fin cells words a b p q w h1 h2 h
 ·exact Iw cap sent got fin cells words a b p q w (by simpa using h)
end
section
def eD (k e:Int):Bool:=(k == 1 && dV e 0 999) || (k == 2 && e == 0)
def jT (k e r:Int):Bool:=eD k e && (dV r 1 4 && ((k == 1 || r != 1) && (k == 2 || r != 2)))
def r9 (k e:Int):Bool:=k == 0 && e == 0
def oG (h:Ha):Bool:=dV h.pos 0 25 && (if h.pos == 0 then r9 h.code h.elem else eD h.code h.elem)
def sI (h:Ha):Bool:=dV h.cell 0 39 && (dV h.grow 0 39 && (dV h.seen 0 10 && (dV h.wait 0 80 && dV h.mine 0 80)))
def yC (h:Ha):Bool:=dV h.fin 0 40 && (dV h.come 0 40 && (dV h.nxt 0 2 && (dV h.beg 0 20000 && (dV h.reply 0 4 && dV h.out 0 999))))
def aU (h:Ha):Bool:=oG h && (sI h && yC h)
def aM (r o:Int):Ha:=⟨0,0,0,0,0,0,0,0,0,0,0,0,r,o⟩
def begun (k e b:Int):Ha:=⟨if k == 2 then 9 else 1,k,e,0,0,0,0,0,0,0,0,b,0,0⟩
def called (h:Ha) (k e:Int):Ha × Int:=if aU h then (if h.pos == 0 then (if eD k e then (begun k e 0,0) else (h,2)) else (h,1)) else (Ha.zero,3)
end
section
open Go.RowKit
def Lie (w:World) (b n k:Nat) (f:Nat→Nat→Value):Prop :=
 ∃ (c:Array Value) (t:TypeId),w.heap[b]?=some (.cells c t (0,0))∧n*k≤c.size∧∀ i j,i<n→j<k→c[i*k+j]?=some (f i j)
namespace Lie
variable {w w':World} {b n k:Nat} {f g:Nat→Nat→Value}
theorem cell (h:Lie w b n k f) {i j:Nat} (G:i<n) (H:j<k):w.cell? ⟨b,i*k+j,none⟩=some (f i j):=by
 obtain ⟨c,t,F,_,hc⟩:=h;simp [World.cell?,F,hc i j G H]
theorem frozen (h:Lie w b n k f) (o:Nat):w.frozen? ⟨b,o,none⟩=false:=by
 obtain ⟨c,t,F,_,_⟩:=h;simp [World.frozen?,F]
theorem lt (h:Lie w b n k f):b<w.heap.size:=by
 obtain ⟨c,t,F,_,_⟩:=h;exact (Array.getElem?_eq_some_iff.1 F).1
theorem congr (h:Lie w b n k f) (e:∀ i j,i<n→j<k→f i j=g i j):Lie w b n k g:=by
 obtain ⟨c,t,H,I,hc⟩:=h;exact ⟨c,t,H,I,fun i j F G=>by rw [hc i j F G,e i j F G]⟩
theorem of_block (h:Lie w b n k f) (e:w'.heap[b]?=w.heap[b]?):Lie w' b n k f:=by
 obtain ⟨c,t,F,G,hc⟩:=h;exact ⟨c,t,e.trans F,G,hc⟩
theorem below {B:Nat} (h:Lie w b n k f) (G:Below B w w') (F:b<B):Lie w' b n k f:=h.of_block (G.block b F)
theorem set (h:Lie w b n k f) {i j:Nat} (M:i<n) (K:j<k) (v:Value):Lie (w.setCell ⟨b,i*k+j,none⟩ v) b n k (fun F G=>if F=i∧G=j then v else f F G):=by
 obtain ⟨c,t,L,N,hc⟩:=h;refine ⟨c.setIfInBounds (i*k+j) v,t,?_,by simpa using N,fun F G I H=>?_⟩
 ·simp [World.setCell,Array.getElem?_modify,L]
 ·rw [Array.getElem?_setIfInBounds]
  by_cases e:i*k+j=F*k+G
  ·obtain ⟨rfl,rfl⟩:=Row.idx K H e
   have J:i*k+j<c.size:=(Array.getElem?_eq_some_iff.1 (hc i j M K)).1;simp [J]
  ·rw [if_neg e]
   show c[F*k+G]?=some (if F=i∧G=j then v else f F G);rw [if_neg (fun h=>e (by rw [h.1,h.2]))];exact hc F G I H
theorem set1 (h:Lie w b n 1 f) {i:Nat} (H:i<n) (v:Value) :
  Lie (w.setCell ⟨b,i,none⟩ v) b n 1 (fun F G=>if F=i then v else f F G):=by
 have h1:=h.set H (j:=0) tO v;simp only [Nat.mul_one,Nat.add_zero] at h1;refine h1.congr fun F G _ I=>?_
 have:G=0:=by omega
 subst this;by_cases e:F=i <;> simp [e]
theorem seg (h:Lie w b n k f):Seg w w (some ⟨b,0,none⟩) n k f:=.inr ⟨b,0,rfl,h.lt,fun i j F G=>by simpa using h.cell F G⟩
end Lie
def New (w:World) (lo:Nat) (v:Value) (n k:Nat) (f:Nat→Nat→Value):Prop :=
 (v=.slice none 0 0∧n=0)∨∃ g cap,v=.slice (some ⟨g,0,none⟩) n cap∧lo≤g∧Lie w g n k f
abbrev Rc (w:World) (lo:Nat) (v:Value) (l:List Int):Prop:=New w lo v l.length 1 (lG l)
abbrev Wj (w:World) (lo:Nat) (v:Value) (cs:List C3):Prop:=New w lo v cs.length 3 (jy cs)
namespace New
variable {w w1:World} {lo n k:Nat} {v:Value} {f:Nat→Nat→Value}
theorem below (h:New w lo v n k f) (F:Below w w w1):New w1 lo v n k f:=by
 rcases h with h|⟨g,cap,h1,h2,h3⟩
 ·exact .inl h
 ·exact .inr ⟨g,cap,h1,h2,h3.below F h3.lt⟩
theorem more {lo':Nat} (h:New w lo v n k f) (F:lo'≤lo):New w lo' v n k f:=by
 rcases h with h|⟨g,cap,h1,h2,h3⟩
 ·exact .inl h
 ·exact .inr ⟨g,cap,h1,Nat.le_trans F h2,h3⟩
theorem kept {row:Option Nat} (h:New w lo v n k f) (G:w.grownBy w1 row) (F:row=none∨v.ownBlock≠row):New w1 lo v n k f:=by
 rcases h with h|⟨g,cap,h1,h2,h3⟩
 ·exact .inl h
 ·refine .inr ⟨g,cap,h1,h2,h3.of_block (G.block g h3.lt fun e=>?_)⟩
  subst h1;rcases F with rfl|F
  ·cases e
  ·exact F (by rw [← e];rfl)
theorem seg (h:New w lo v n k f):∃ a cap,v=.slice a n cap∧Seg w w a n k f:=by
 rcases h with ⟨rfl,rfl⟩|⟨g,cap,rfl,_,h3⟩
 ·exact ⟨none,0,rfl,.inl rfl⟩
 ·exact ⟨_,cap,rfl,h3.seg⟩
theorem lt (h:New w lo v n k f) {b:Nat} (F:v.ownBlock=some b):lo≤b∧b<w.heap.size:=by
 rcases h with ⟨rfl,_⟩|⟨g,cap,rfl,h2,h3⟩
 ·cases F
 ·simp [Value.ownBlock] at F
  subst F;exact ⟨h2,h3.lt⟩
end New
theorem aF.new {w:World} {lo:Nat} {v:Value} {cs:List C3} (h:aF w lo v cs):Wj w lo v cs:=by
 rcases h.2 with ⟨h1,I⟩|⟨g,cap,F,rfl,M,G,N,O,h6,J⟩
 ·exact .inl ⟨h1,I⟩
 ·refine .inr ⟨g,cap,rfl,M,F,_,G,?_,fun i j K L=>?_⟩
  ·have e:=congrArg List.length J
   rw [List.length_take,lH] at e;simp at e;omega
  ·have:=h.cells (g:=g) rfl (i*3+j) _ (kR cs i j K L)
   have H:(⟨g,0,none⟩:Addr).add (i*3+j)=⟨g,i*3+j,none⟩:=by generalize i*3+j=m;by_cases e:m=0 <;> simp [Addr.add,e]
   rw [H] at this;simpa [World.cell?,G] using this
theorem aI.new {w:World} {lo:Nat} {v:Value} {l:List Int} (h:aI w lo v l):Rc w lo v l:=by
 rcases h.2 with ⟨h1,J⟩|⟨g,cap,F,rfl,M,H,N,O,h6,K⟩
 ·exact .inl ⟨h1,J⟩
 ·refine .inr ⟨g,cap,rfl,M,F,_,H,?_,fun i j L R=>?_⟩
  ·have e:=congrArg List.length K
   rw [List.length_take,Fu] at e;simp at e;omega
  ·have G:j=0:=by omega
   subst G;have:=h.cells (g:=g) rfl i (lG l i 0) (by simp [ints,lG,List.getD,L]);have I:(⟨g,0,none⟩:Addr).add i=⟨g,i,none⟩:=by by_cases e:i=0 <;> simp [Addr.add,e]
   rw [I] at this;simpa [World.cell?,H] using this
def ni (a b:Option Nat) (w w':World):Prop :=
 w'.os=w.os∧w'.tape=w.tape∧w'.output=w.output∧w≤w'.heap.size∧∀ i,i<w.heap.size→some i≠a→some i≠b→w'.heap[i]?=w.heap[i]?
theorem gy {a b:Option Nat} {w W:World} (h:Below w w W):ni a b w W:=⟨h.os,h.tape,h.output,h.size,fun i F _ _=>h.block i F⟩
theorem kv {a b:Option Nat} {w W G:World} (h:ni a b w W) (k:ni a b W G):ni a b w G :=
 ⟨k.1.trans h.1,k.2.1.trans h.2.1,k.2.2.1.trans h.2.2.1,Nat.le_trans h.2.2.2.1 k.2.2.2.1,fun i F h1 h2=>(k.2.2.2.2 i (Nat.lt_of_lt_of_le F h.2.2.2.1) h1 h2).trans (h.2.2.2.2 i F h1 h2)⟩
theorem rA {a b:Option Nat} {w W:World} (h:w.grownBy W a):ni a b w W:=⟨h.os,h.tape,h.output,h.size,fun i F h1 _=>h.block i F h1⟩
theorem Wl {a b:Option Nat} {w W:World} (h:w.grownBy W b):ni a b w W:=⟨h.os,h.tape,h.output,h.size,fun i F _ h1=>h.block i F h1⟩
theorem Lt {a b:Option Nat} {w W G:World} (h:Below w w W) (k:ni a b W G) (H:∀ i,a=some i→w.heap.size≤i) (I:∀ i,b=some i→w.heap.size≤i):Below w w G :=
 ⟨k.1.trans h.os,k.2.1.trans h.tape,k.2.2.1.trans h.output,Nat.le_trans h.size k.2.2.2.1,fun i F=>(k.2.2.2.2 i (Nat.lt_of_lt_of_le F h.size) (fun e=>by have:=H i e.symm;omega) (fun e=>by have:=I i e.symm;omega)).trans (h.block i F)⟩
theorem vQ {r:Option Nat} {b:Nat} {w F:World} (h:w.grownBy F r) (G:b<w.heap.size) (H:some b≠r) (o:Nat):F.cell? ⟨b,o,none⟩=w.cell? ⟨b,o,none⟩:=World.cell?_of_block (h.block b G H)
theorem Iy {r:Option Nat} {b:Nat} {w F:World} (h:w.grownBy F r) (G:b<w.heap.size) (H:some b≠r) (o:Nat):F.frozen? ⟨b,o,none⟩=w.frozen? ⟨b,o,none⟩:=World.frozen?_of_block (h.block b G H)
theorem NT {w W G:World} {r:Option Nat} (h:Below w w W) (k:W.grownBy G r):w.grownBy G r :=
 ⟨k.os.trans h.os,k.tape.trans h.tape,k.output.trans h.output,Nat.le_trans h.size k.size,fun i F H=>(k.block i (Nat.lt_of_lt_of_le F h.size) H).trans (h.block i F)⟩
end
section
open Go.RowKit
def aB (h:Ha):Array Value:=#[.int .i64 h.pos,.int .i64 h.code,.int .i64 h.elem,.int .i64 h.cell,.int .i64 h.seen,.int .i64 h.wait,.int .i64 h.fin,.int .i64 h.come,.int .i64 h.grow,.int .i64 h.mine,.int .i64 h.nxt,.int .i64 h.beg,.int .i64 h.reply,.int .i64 h.out]
theorem VA (h:Ha):(aB h=#[])=False:=by simp [aB]
theorem uQ (h:Ha):(aB h).size=14:=rfl
theorem Re (h:Ha):(aB h)[0]?=some (.int .i64 h.pos):=rfl
theorem Rf (h:Ha) (x:Int):(aB h).setIfInBounds 0 (.int .i64 x)=aB { h with pos:=x }:=rfl
theorem Rh (h:Ha):(aB h)[1]?=some (.int .i64 h.code):=rfl
theorem Rj (h:Ha) (x:Int):(aB h).setIfInBounds 1 (.int .i64 x)=aB { h with code:=x }:=rfl
theorem Rk (h:Ha):(aB h)[2]?=some (.int .i64 h.elem):=rfl
theorem Rl (h:Ha) (x:Int):(aB h).setIfInBounds 2 (.int .i64 x)=aB { h with elem:=x }:=rfl
theorem Rm (h:Ha):(aB h)[3]?=some (.int .i64 h.cell):=rfl
theorem Rn (h:Ha) (x:Int):(aB h).setIfInBounds 3 (.int .i64 x)=aB { h with cell:=x }:=rfl
theorem Ro (h:Ha):(aB h)[4]?=some (.int .i64 h.seen):=rfl
theorem Rp (h:Ha) (x:Int):(aB h).setIfInBounds 4 (.int .i64 x)=aB { h with seen:=x }:=rfl
theorem Rq (h:Ha):(aB h)[5]?=some (.int .i64 h.wait):=rfl
theorem Rs (h:Ha) (x:Int):(aB h).setIfInBounds 5 (.int .i64 x)=aB { h with wait:=x }:=rfl
theorem Rt (h:Ha):(aB h)[6]?=some (.int .i64 h.fin):=rfl
theorem Ru (h:Ha) (x:Int):(aB h).setIfInBounds 6 (.int .i64 x)=aB { h with fin:=x }:=rfl
theorem Rv (h:Ha):(aB h)[7]?=some (.int .i64 h.come):=rfl
theorem Rw (h:Ha) (x:Int):(aB h).setIfInBounds 7 (.int .i64 x)=aB { h with come:=x }:=rfl
theorem Rx (h:Ha):(aB h)[8]?=some (.int .i64 h.grow):=rfl
theorem Ry (h:Ha) (x:Int):(aB h).setIfInBounds 8 (.int .i64 x)=aB { h with grow:=x }:=rfl
theorem Rz (h:Ha):(aB h)[9]?=some (.int .i64 h.mine):=rfl
theorem R5 (h:Ha) (x:Int):(aB h).setIfInBounds 9 (.int .i64 x)=aB { h with mine:=x }:=rfl
theorem O5 (h:Ha):(aB h)[10]?=some (.int .i64 h.nxt):=rfl
theorem O6 (h:Ha) (x:Int):(aB h).setIfInBounds 10 (.int .i64 x)=aB { h with nxt:=x }:=rfl
theorem O7 (h:Ha):(aB h)[11]?=some (.int .i64 h.beg):=rfl
theorem O8 (h:Ha) (x:Int):(aB h).setIfInBounds 11 (.int .i64 x)=aB { h with beg:=x }:=rfl
theorem O9 (h:Ha):(aB h)[12]?=some (.int .i64 h.reply):=rfl
theorem OA (h:Ha) (x:Int):(aB h).setIfInBounds 12 (.int .i64 x)=aB { h with reply:=x }:=rfl
theorem OB (h:Ha):(aB h)[13]?=some (.int .i64 h.out):=rfl
theorem OC (h:Ha) (x:Int):(aB h).setIfInBounds 13 (.int .i64 x)=aB { h with out:=x }:=rfl
def aH (c:Ch) (v1 v2:Value):Array Value:=#[.int .i64 c.cap,.int .i64 c.sent,.int .i64 c.got,.int .i64 c.fin,v1,v2]
theorem VB (c:Ch) (v1 v2:Value):(aH c v1 v2=#[])=False:=by simp [aH]
theorem KH (c:Ch) (v1 v2:Value):(aH c v1 v2).size=6:=rfl
theorem R6 (c:Ch) (v1 v2:Value):(aH c v1 v2)[0]?=some (.int .i64 c.cap):=rfl
theorem R7 (c:Ch) (v1 v2:Value) (x:Int):(aH c v1 v2).setIfInBounds 0 (.int .i64 x)=aH { c with cap:=x } v1 v2:=rfl
theorem R8 (c:Ch) (v1 v2:Value):(aH c v1 v2)[1]?=some (.int .i64 c.sent):=rfl
theorem R9 (c:Ch) (v1 v2:Value) (x:Int):(aH c v1 v2).setIfInBounds 1 (.int .i64 x)=aH { c with sent:=x } v1 v2:=rfl
theorem RA (c:Ch) (v1 v2:Value):(aH c v1 v2)[2]?=some (.int .i64 c.got):=rfl
theorem RB (c:Ch) (v1 v2:Value) (x:Int):(aH c v1 v2).setIfInBounds 2 (.int .i64 x)=aH { c with got:=x } v1 v2:=rfl
theorem RD (c:Ch) (v1 v2:Value):(aH c v1 v2)[3]?=some (.int .i64 c.fin):=rfl
theorem RF (c:Ch) (v1 v2:Value) (x:Int):(aH c v1 v2).setIfInBounds 3 (.int .i64 x)=aH { c with fin:=x } v1 v2:=rfl
theorem RG (c:Ch) (v1 v2:Value):(aH c v1 v2)[4]?=some v1:=rfl
theorem RH (c:Ch) (v1 v2:Value):(aH c v1 v2)[5]?=some v2:=rfl
theorem RI (c:Ch) (v1 v2 x:Value):(aH c v1 v2).setIfInBounds 4 x=aH c x v2:=rfl
theorem RJ (c:Ch) (v1 v2 x:Value):(aH c v1 v2).setIfInBounds 5 x=aH c v1 x:=rfl
def uR (vs:Array Value):Obj→Obj
 | .cells _ t fr=>.cells vs t fr
 | o=>o
def Aa (i:Nat) (v:Value):Obj→Obj
 | .cells c t fr=>.cells (c.setIfInBounds i v) t fr
 | o=>o
def dX (w:World) (b:Nat) (vs:Array Value):World:={ w with heap:=w.heap.modify b (uR vs) }
def hp (w:World) (b:Nat):Option Obj:=w.heap[b]?
def okO (n:Nat):Option Obj→Bool
 | some (.cells c _ fr)=>c.size == n && (fr.1 == 0 && fr.2 == 0)
 | _=>false
def kU:Option Obj→Array Value
 | some (.cells c _ _)=>c
 | _=>#[]
theorem BL (F c:Array Value) (t:TypeId):uR F (.cells c t)=.cells F t:=rfl
theorem tN (i:Nat) (v:Value) (c:Array Value) (t:TypeId):Aa i v (.cells c t)=.cells (c.setIfInBounds i v) t:=rfl
theorem L8 (n:Nat) (c:Array Value) (t:TypeId):okO n (some (.cells c t))=(c.size == n):=by simp [okO]
theorem wX (c:Array Value) (t:TypeId):kU (some (.cells c t))=c:=rfl
theorem Ab {n:Nat} {o:Option Obj} (h:okO n o=true):∃ c t,o=some (.cells c t)∧c.size=n:=by
 unfold okO at h;split at h
 ·rename_i c t fr
  obtain ⟨F,G⟩:=fr;simp at h;obtain ⟨h1,rfl,rfl⟩:=h;exact ⟨c,t,rfl,h1⟩
 ·cases h
theorem Wm (n:Nat):n<n+1+1:=by omega
theorem Wp (n:Nat):n<n+1+1+1:=by omega
theorem Wq (n:Nat):n<n+1+1+1+1:=by omega
theorem Ws (n:Nat):n<n+1+1+1+1+1:=by omega
variable {w W:World} {b b' n i:Nat} {vs us:Array Value} {v:Value}
theorem dz:(dX w b vs).heap.size=w.heap.size:=by simp [dX]
theorem Ac:hp (dX w b vs) b=(hp w b).map (uR vs):=by simp [hp,dX,Array.getElem?_modify]
theorem dR (h:b'≠b):(dX w b vs).heap[b']?=w.heap[b']?:=by simp [dX,Array.getElem?_modify,Ne.symm h]
theorem Iz (h:b'<b):hp (dX w b vs) b'=hp w b':=dR tO
theorem I1 (h:b<b'):hp (dX w b vs) b'=hp w b':=dR tO
theorem I4 (h:okO vs.size (hp w b)=true):(dX w b vs).cell? ⟨b,i,none⟩=vs[i]?:=by
 obtain ⟨c,t,e,_⟩:=Ab h;unfold hp at e;simp [World.cell?,dX,Array.getElem?_modify,e,uR]
theorem Ad (h:b'≠b):(dX w b vs).cell? ⟨b',i,none⟩=w.cell? ⟨b',i,none⟩:=World.cell?_of_block (dR h)
theorem I6 (h:b'<b):(dX w b vs).cell? ⟨b',i,none⟩=w.cell? ⟨b',i,none⟩:=Ad tO
theorem I7 (h:b<b'):(dX w b vs).cell? ⟨b',i,none⟩=w.cell? ⟨b',i,none⟩:=Ad tO
theorem LA:(dX w b vs).frozen? ⟨b',i,none⟩=w.frozen? ⟨b',i,none⟩:=by
 simp only [World.frozen?,dX,Array.getElem?_modify];by_cases e:b=b'
 ·subst e
  simp only [if_true];cases w.heap[b]? with
  | none=>rfl
  | some o=>cases o <;> rfl
 ·simp [e]
theorem Fw {c:Array Value} {t:TypeId} (G:n=w.heap.size):dX (w.alloc (.cells c t)) n vs=w.alloc (.cells vs t):=by
 subst G;unfold dX World.alloc;congr 1;apply Array.ext_getElem?;intro k;simp only [Array.getElem?_modify,Array.getElem?_push];by_cases F:k=w.heap.size
 ·subst F;simp [uR]
 ·simp [F,Ne.symm F]
theorem BM {o:Obj} (G:n<w.heap.size):dX (w.alloc o) n vs=(dX w n vs).alloc o:=by
 unfold dX World.alloc;congr 1;apply Array.ext_getElem?;intro k;simp only [Array.getElem?_modify,Array.getElem?_push,Array.size_modify];by_cases F:k=w.heap.size
 ·subst F;simp [Nat.ne_of_lt G]
 ·simp [F]
theorem OE:dX (dX w b vs) b us=dX w b us:=by
 unfold dX;congr 1;apply Array.ext_getElem?;intro k;simp only [Array.getElem?_modify];by_cases e:b=k
 ·subst e
  simp only [if_true];cases w.heap[b]? with
  | none=>rfl
  | some o=>cases o <;> rfl
 ·simp [e]
theorem I8:(dX w b vs).setCell ⟨b,i,none⟩ v=dX w b (vs.setIfInBounds i v):=by
 unfold dX World.setCell;congr 1;apply Array.ext_getElem?;intro k;simp only [Array.getElem?_modify];by_cases e:b=k
 ·subst e
  simp only [if_true];cases w.heap[b]? with
  | none=>rfl
  | some o=>cases o <;> rfl
 ·simp [e]
theorem RL:dX w.drew b vs=(dX w b vs).drew:=rfl
theorem RN:hp w.drew b=hp w b:=rfl
theorem Fx {o:Obj} (F:n=w.heap.size):hp (w.alloc o) n=some o:=by subst F;exact heap_alloc_new w o
theorem BN {o:Obj} (F:n<w.heap.size):hp (w.alloc o) n=hp w n:=Below.heap_alloc w o n F
theorem qF:hp (w.setCell ⟨b,i,none⟩ v) b=(hp w b).map (Aa i v):=by
 simp only [hp,World.setCell,Array.getElem?_modify];cases w.heap[b]? with
 | none=>simp
 | some o=>cases o <;> simp [Aa]
theorem LC (h:b'<b):hp (w.setCell ⟨b,i,none⟩ v) b'=hp w b':=Below.heap_setCell w _ v b' dQ
theorem LD (h:b<b'):hp (w.setCell ⟨b,i,none⟩ v) b'=hp w b':=Below.heap_setCell w _ v b' dQ
theorem bM {r:Option Nat} (h:w.grownBy W r) (F:b<w.heap.size) (G:some b≠r):hp W b=hp w b:=h.block b F G
theorem Fy {r F:Option Nat} (h:ni r F w W) (G:i<w.heap.size) (h1:some i≠r) (h2:some i≠F):hp W i=hp w i:=h.2.2.2.2 i G h1 h2
theorem bO {w:World} {b:Nat} {cs:Array Value} {t:TypeId} (h:hp w b=some (.cells cs t)):(∀ o,w.cell? ⟨b,o,none⟩=cs[o]?)∧(∀ o,w.frozen? ⟨b,o,none⟩=false)∧b<w.heap.size :=
 ⟨fun o=>cell_of_row w b o cs t _ h,fun o=>by have h2:w.heap[b]?=some (.cells cs t):=h;simp [World.frozen?,h2],(Array.getElem?_eq_some_iff.1 h).1⟩
theorem o9 (h:Below n w W) (F:b<n):hp W b=hp w b:=h.block b F
theorem hQ {n:Nat} {w W:World} (h:Below n w W) {b:Nat} (F:b<n:=by ((try simp) <;> omega)):hp W b=hp w b:=o9 h F
theorem q4 {n:Nat} {w W:World} (h:Below n w W) {b:Nat} (F:b+1+1+1<n:=by ((try simp) <;> omega)):hp W (b+1+1+1)=hp w (b+1+1+1)∧hp W (b+1+1)=hp w (b+1+1)∧hp W (b+1)=hp w (b+1)∧hp W b=hp w b:=⟨o9 h tO,o9 h tO,o9 h tO,o9 h tO⟩
theorem Ra {lo:Nat} (h:Below lo w W) (G:lo≤b):Below lo w (dX W b vs) :=
 ⟨h.os,h.tape,h.output,by rw [dz];exact h.size,fun k F=>(dR tO).trans (h.block k F)⟩
theorem Wu {g:Nat} (h:Gr g w W) (F:b=g∨w.heap.size≤b):Gr g w (dX W b vs) :=
 ⟨h.os,h.tape,h.output,by rw [dz];exact h.size,fun k H G=>(dR (by rcases F with F|F;exact fun e=>G (by rw [e,F]);omega)).trans (h.block k H G)⟩
theorem fC {lo:Nat} {e:TypeId} {k m:Nat} {x:Value} {F:List Value} (h:w.ownsRow lo e k x m F) (hp:x.ownBlock≠some b):(dX w b vs).ownsRow lo e k x m F :=
 h.kept (row:=some b) ⟨rfl,rfl,rfl,by rw [dz];exact Nat.le_refl _,fun i _ G=>dR (fun e=>G (by rw [e]))⟩ (.inr hp)
theorem Wv {r:Option Nat} {o:Obj} (h:w.grownBy W r):w.grownBy (W.alloc o) r:=⟨h.os,h.tape,h.output,Nat.le_trans h.size cK,fun k F G=>(Below.heap_alloc W o k (Nat.lt_of_lt_of_le F h.size)).trans (h.block k F G)⟩
theorem Ww {r:Option Nat} (h:w.grownBy W r):w.grownBy W.drew r:=⟨h.os,h.tape,h.output,h.size,h.block⟩
theorem Wx {r:Option Nat} {p:Addr} {u:Value} (h:w.grownBy W r) (hp:w.heap.size≤p.block):w.grownBy (W.setCell p u) r :=
 ⟨h.os,h.tape,h.output,by simpa [World.setCell] using h.size,fun k F G=>(Below.heap_setCell W p u k tO).trans (h.block k F G)⟩
theorem Wy {r:Option Nat} (h:w.grownBy W r) (H:w.heap.size≤b):w.grownBy (dX W b vs) r :=
 ⟨h.os,h.tape,h.output,by rw [dz];exact h.size,fun k F G=>(dR tO).trans (h.block k F G)⟩
theorem oA {r G:Option Nat} {o:Obj} (h:ni r G w W):ni r G w (W.alloc o) :=
 ⟨h.1,h.2.1,h.2.2.1,Nat.le_trans h.2.2.2.1 cK,fun k F h1 h2=>(Below.heap_alloc W o k (Nat.lt_of_lt_of_le F h.2.2.2.1)).trans (h.2.2.2.2 k F h1 h2)⟩
theorem oD {r F:Option Nat} (h:ni r F w W):ni r F w W.drew:=h
theorem oS {r F:Option Nat} {p:Addr} {u:Value} (h:ni r F w W) (hp:w.heap.size≤p.block):ni r F w (W.setCell p u) :=
 ⟨h.1,h.2.1,h.2.2.1,by simpa [World.setCell] using h.2.2.2.1,fun k G h1 h2=>(Below.heap_setCell W p u k tO).trans (h.2.2.2.2 k G h1 h2)⟩
theorem oX {r F:Option Nat} (h:ni r F w W) (H:w.heap.size≤b):ni r F w (dX W b vs) :=
 ⟨h.1,h.2.1,h.2.2.1,by rw [dz];exact h.2.2.2.1,fun k G h1 h2=>(dR tO).trans (h.2.2.2.2 k G h1 h2)⟩
variable {P:Program} {T:TypeId}
theorem qG (H:∀ w,(isAgg T).run P w=.ok true w) (I:∀ w,(sizeOf T).run P w=.ok n w) (h:okO n (hp w b)=true) :
  (loadVar T ⟨b,0,none⟩).run P w=.ok (.agg (kU (hp w b))) w:=by
 unfold hp at *;obtain ⟨c,t,e,hc⟩:=Ab h
 have h1:(loadCells ⟨b,0,none⟩ c.toList.length).run P w=.ok c.toList.toArray w:=run_loadCells_list w ⟨b,0,none⟩ c.toList (fun j v J=>by
  have F:(⟨b,0,none⟩:Addr).add j=⟨b,j,none⟩:=by by_cases G:j=0 <;> simp [Addr.add,G]
  rw [F];simp only [World.cell?,e]
  simpa using J)
 simp only [Array.length_toList,hc] at h1;rw [e,wX];simp only [loadVar,Sem.run_bind,H,I,Result.andThen_ok,if_true,h1,Sem.run_pure]
theorem vB (b:Nat):∀ (l:List Value) (o:Nat) (w:World),w.setCells b o l={ w with heap:=w.heap.modify b (fun x=>match x with|.cells c t fr=>.cells ((l.zipIdx o).foldl (fun c p=>c.setIfInBounds p.2 p.1) c) t fr|x=>x) }
 | [],o,w=>by
  unfold World.setCells;have e:w.heap.modify b (fun x=>match x with|.cells c t fr=>.cells ((([]:List Value).zipIdx o).foldl (fun c p=>c.setIfInBounds p.2 p.1) c) t fr|x=>x)=w.heap:=by
   apply Array.ext_getElem?;intro k;simp only [Array.getElem?_modify];by_cases e:b=k
   ·subst e
    simp only [if_true];cases w.heap[b]? with
    | none=>rfl
    | some x=>cases x <;> rfl
   ·simp [e]
  rw [e]
 | v :: l,o,w=>by
  unfold World.setCells;rw [vB b l (o+1)];simp only [World.setCell];congr 1;apply Array.ext_getElem?;intro k;simp only [Array.getElem?_modify];by_cases e:b=k
  ·subst e
   simp only [if_true];cases w.heap[b]? with
   | none=>rfl
   | some x=>cases x <;> simp [List.zipIdx_cons]
  ·simp [e]
theorem F3:∀ (l:List Value) (o:Nat) (c:Array Value) (k:Nat),o+l.length≤c.size→((l.zipIdx o).foldl (fun c p=>c.setIfInBounds p.2 p.1) c)[k]?=if o≤k∧k<o+l.length then l[k - o]? else c[k]?
 | [],o,c,k,_=>by
  have:¬ (o≤k∧k<o+([]:List Value).length):=by simp
  rw [if_neg this];rfl
 | v :: l,o,c,k,h=>by
  simp only [List.zipIdx_cons,List.foldl_cons,List.length_cons] at *;rw [F3 l (o+1) _ k (by rw [Array.size_setIfInBounds];omega)];by_cases e:k=o
  ·subst e
   rw [if_neg tO,if_pos tO,Array.getElem?_setIfInBounds,if_pos rfl,if_pos tO];simp
  ·by_cases F:o+1≤k∧k<o+1+l.length
   ·rw [if_pos F,if_pos tO]
    obtain ⟨m,rfl⟩:∃ m,k=o+1+m:=⟨k - (o+1),by omega⟩;rw [show o+1+m - (o+1)=m by omega,show o+1+m - o=m+1 by omega];rfl
   ·rw [if_neg F,if_neg tO,Array.getElem?_setIfInBounds,if_neg (fun h=>e h.symm)]
theorem OG (F c:Array Value) (h:c.size=F.size):((F.toList.zipIdx 0).foldl (fun c p=>c.setIfInBounds p.2 p.1) c)=F:=by
 apply Array.ext_getElem?;intro k;rw [F3 _ _ _ _ dQ];by_cases e:k<F.size
 ·rw [if_pos dQ];simp
 ·rw [if_neg dQ,Array.getElem?_eq_none tO,Array.getElem?_eq_none tO]
theorem tQ (h:okO n (hp w b)=true) (H:vs.size=n) (h1:∀ v ∈ vs.toList,v.oneCell'=true) :
  (storeCells ⟨b,0,none⟩ vs.toList).run P w=.ok () (dX w b vs):=by
 unfold hp at h;obtain ⟨c,t,e,hc⟩:=Ab h
 have h2:=run_storeCells_cells (P:=P) b 0 vs.toList 0 w (fun j G=>by
   have:j<c.size:=by rw [hc,← H];simpa using G
   simp [World.cell?,e,this]) (fun j G=>by simp [World.frozen?,e]) h1
 have h3:w.setCells b (0+0) vs.toList=dX w b vs:=by
  rw [vB];unfold dX;congr 1;apply Array.ext_getElem?;intro k;simp only [Array.getElem?_modify];by_cases F:b=k
  ·subst F
   simp only [if_true,e,Option.map_some,uR];rw [OG vs c tO]
  ·simp [F]
 rw [h3] at h2;exact h2
theorem CU (G:∀ w,(sizeOf T).run P w=.ok n w) (h:okO n (hp w b)=true) (F:vs.size=n) (h1:∀ v ∈ vs.toList,v.oneCell'=true) :
  (storeVar T ⟨b,0,none⟩ (.agg vs)).run P w=.ok () (dX w b vs):=by
 have h2:=tQ (P:=P) h F h1;simp only [storeVar,Sem.run_bind,G,Result.andThen_ok,Value.cells,F,ne_eq,not_true_eq_false,if_false];simpa using h2
variable {fn:Func} {p q u:Tmp} {S:TypeId} {tmps:Array Value} {a a':Addr} {x y:Value}
theorem jY (h:fn.results=#[.cell p T]) (hp:tmps.getD p undef=.pointer (some a)) (F:(loadVar T a).run P w=.ok x w):(results fn tmps).run P w=.ok x w:=by
 simp only [results,h];simp [Sem.run_bind,Result.andThen,asAddr] at *;simp [hp,F]
theorem jZ (h:fn.results=#[.cell p T,.tmp u]) (hp:tmps.getD p undef=.pointer (some a)) (F:(loadVar T a).run P w=.ok x w):(results fn tmps).run P w=.ok (.tuple #[x,tmps.getD u undef]) w:=by
 simp only [results,h];simp [Sem.run_bind,Result.andThen,asAddr] at *;simp [hp,F]
theorem vR (h:fn.results=#[.cell p T,.cell q S]) (hp:tmps.getD p undef=.pointer (some a)) (H:(loadVar T a).run P w=.ok x w) (G:tmps.getD q undef=.pointer (some a')) (F:(loadVar S a').run P w=.ok y w):(results fn tmps).run P w=.ok (.tuple #[x,y]) w:=by
 simp only [results,h];simp [Sem.run_bind,Result.andThen,asAddr] at *;simp [hp,H,G,F]
theorem zq (h:fn.results=#[.cell p T,.cell q S,.tmp u]) (hp:tmps.getD p undef=.pointer (some a)) (H:(loadVar T a).run P w=.ok x w) (G:tmps.getD q undef=.pointer (some a')) (F:(loadVar S a').run P w=.ok y w):(results fn tmps).run P w=.ok (.tuple #[x,y,tmps.getD u undef]) w:=by
 simp only [results,h];simp [Sem.run_bind,Result.andThen,asAddr] at *;simp [hp,H,G,F]
theorem WX {n:Nat} {w W:World} (h:Below n w W) {b:Nat} (F:b+1<n:=by ((try simp) <;> omega)):hp W (b+1)=hp w (b+1)∧hp W (b)=hp w (b):=⟨o9 h tO,o9 h tO⟩
theorem Xa {n:Nat} {w W:World} (h:Below n w W) {b:Nat} (F:b+1+1+1+1<n:=by ((try simp) <;> omega)):hp W (b+1+1+1+1)=hp w (b+1+1+1+1)∧hp W (b+1+1+1)=hp w (b+1+1+1)∧hp W (b+1+1)=hp w (b+1+1)∧hp W (b+1)=hp w (b+1)∧hp W (b)=hp w (b):=⟨o9 h tO,o9 h tO,o9 h tO,o9 h tO,o9 h tO⟩
theorem Xb {r:Option Nat} {w W:World} (h:w.grownBy W r) {b:Nat} (G:b<w.heap.size:=by ((try simp) <;> omega)) (F:some (b)≠r:=by assumption):hp W (b)=hp w (b):=bM h tO F
theorem Wz {r:Option Nat} {w W:World} (h:w.grownBy W r) {b:Nat} (G:b+1<w.heap.size:=by ((try simp) <;> omega)) (h1:some (b+1)≠r:=by assumption) (F:some (b)≠r:=by assumption):hp W (b+1)=hp w (b+1)∧hp W (b)=hp w (b):=⟨bM h tO h1,bM h tO F⟩
theorem Vv {r:Option Nat} {w W:World} (h:w.grownBy W r) {b:Nat} (G:b+1+1+1<w.heap.size:=by ((try simp) <;> omega)) (h3:some (b+1+1+1)≠r:=by assumption) (h2:some (b+1+1)≠r:=by assumption) (h1:some (b+1)≠r:=by assumption) (F:some (b)≠r:=by assumption):hp W (b+1+1+1)=hp w (b+1+1+1)∧hp W (b+1+1)=hp w (b+1+1)∧hp W (b+1)=hp w (b+1)∧hp W (b)=hp w (b):=⟨bM h tO h3,bM h tO h2,bM h tO h1,bM h tO F⟩
theorem WL {r:Option Nat} {w W:World} (h:w.grownBy W r) {b:Nat} (H:b+1+1+1+1<w.heap.size:=by ((try simp) <;> omega)) (G:some (b+1+1+1+1)≠r:=by assumption) (h3:some (b+1+1+1)≠r:=by assumption) (h2:some (b+1+1)≠r:=by assumption) (h1:some (b+1)≠r:=by assumption) (F:some (b)≠r:=by assumption):hp W (b+1+1+1+1)=hp w (b+1+1+1+1)∧hp W (b+1+1+1)=hp w (b+1+1+1)∧hp W (b+1+1)=hp w (b+1+1)∧hp W (b+1)=hp w (b+1)∧hp W (b)=hp w (b):=⟨bM h tO G,bM h tO h3,bM h tO h2,bM h tO h1,bM h tO F⟩
theorem sJ {w W:World} (h:Below w w W) {b:Nat} (F:b<w.heap.size:=by ((try simp) <;> omega)):(∀ o,W.cell? ⟨b,o,none⟩=w.cell? ⟨b,o,none⟩)∧(∀ o,W.frozen? ⟨b,o,none⟩=w.frozen? ⟨b,o,none⟩)∧b<W.heap.size:=⟨fun o=>h.cell (p:=⟨b,o,none⟩) F,fun o=>h.frozen (p:=⟨b,o,none⟩) F,Nat.lt_of_lt_of_le F h.size⟩
theorem zG {g:Nat} {w W:World} (h:Gr g w W:=by (repeat (first|with_reducible assumption|with_reducible exact gR _ _|with_reducible refine gA ?_|with_reducible refine gD ?_|with_reducible refine gS ?_ (.inl rfl)|((with_reducible refine Wu ?_ (.inr ?_));rotate_left;(focus ((try dsimp only);(try simp);(try omega))))|((with_reducible refine gS ?_ (.inr ?_));rotate_left;(focus ((try dsimp only);(try simp);(try omega))))))):Gr g w W:=h
theorem zN {r F:Option Nat} {w W:World} (h:ni r F w W:=by (repeat (first|with_reducible assumption|with_reducible refine oA ?_|with_reducible refine oD ?_|((with_reducible refine oX ?_ ?_);rotate_left;(focus ((try dsimp only);(try simp);(try omega))))|((with_reducible refine oS ?_ ?_);rotate_left;(focus ((try dsimp only);(try simp);(try omega))))))):ni r F w W:=h
theorem OH {w:World} {F:Nat} {c0:Array Value} {G:TypeId} (h:hp w F=some (.cells c0 G)):(hp w F=some (.cells c0 G)∧(∀ o,w.cell? ⟨F,o,none⟩=c0[o]?)∧(∀ o,w.frozen? ⟨F,o,none⟩=false)∧F<w.heap.size):=⟨h,bO h⟩
theorem zX {w:World} {F G:Nat} {c0 H:Array Value} {I t1:TypeId} (h:hp w F=some (.cells c0 I)∧hp w G=some (.cells H t1)):(hp w F=some (.cells c0 I)∧(∀ o,w.cell? ⟨F,o,none⟩=c0[o]?)∧(∀ o,w.frozen? ⟨F,o,none⟩=false)∧F<w.heap.size)∧(hp w G=some (.cells H t1)∧(∀ o,w.cell? ⟨G,o,none⟩=H[o]?)∧(∀ o,w.frozen? ⟨G,o,none⟩=false)∧G<w.heap.size):=⟨⟨h.1,bO h.1⟩,h.2,bO h.2⟩
theorem pq {w:World} {F G H:Nat} {c0 I c2:Array Value} {J t1 t2:TypeId} (h:hp w F=some (.cells c0 J)∧hp w G=some (.cells I t1)∧hp w H=some (.cells c2 t2)):(hp w F=some (.cells c0 J)∧(∀ o,w.cell? ⟨F,o,none⟩=c0[o]?)∧(∀ o,w.frozen? ⟨F,o,none⟩=false)∧F<w.heap.size)∧(hp w G=some (.cells I t1)∧(∀ o,w.cell? ⟨G,o,none⟩=I[o]?)∧(∀ o,w.frozen? ⟨G,o,none⟩=false)∧G<w.heap.size)∧(hp w H=some (.cells c2 t2)∧(∀ o,w.cell? ⟨H,o,none⟩=c2[o]?)∧(∀ o,w.frozen? ⟨H,o,none⟩=false)∧H<w.heap.size):=⟨⟨h.1,bO h.1⟩,⟨h.2.1,bO h.2.1⟩,h.2.2,bO h.2.2⟩
theorem fP {w:World} {F G H I:Nat} {c0 J c2 c3:Array Value} {K t1 t2 L:TypeId} (h:hp w F=some (.cells c0 K)∧hp w G=some (.cells J t1)∧hp w H=some (.cells c2 t2)∧hp w I=some (.cells c3 L)):(hp w F=some (.cells c0 K)∧(∀ o,w.cell? ⟨F,o,none⟩=c0[o]?)∧(∀ o,w.frozen? ⟨F,o,none⟩=false)∧F<w.heap.size)∧(hp w G=some (.cells J t1)∧(∀ o,w.cell? ⟨G,o,none⟩=J[o]?)∧(∀ o,w.frozen? ⟨G,o,none⟩=false)∧G<w.heap.size)∧(hp w H=some (.cells c2 t2)∧(∀ o,w.cell? ⟨H,o,none⟩=c2[o]?)∧(∀ o,w.frozen? ⟨H,o,none⟩=false)∧H<w.heap.size)∧(hp w I=some (.cells c3 L)∧(∀ o,w.cell? ⟨I,o,none⟩=c3[o]?)∧(∀ o,w.frozen? ⟨I,o,none⟩=false)∧I<w.heap.size):=⟨⟨h.1,bO h.1⟩,⟨h.2.1,bO h.2.1⟩,⟨h.2.2.1,bO h.2.2.1⟩,h.2.2.2,bO h.2.2.2⟩
theorem ng {w:World} {F G H I J:Nat} {c0 K c2 c3 c4:Array Value} {L t1 t2 M N:TypeId} (h:hp w F=some (.cells c0 L)∧hp w G=some (.cells K t1)∧hp w H=some (.cells c2 t2)∧hp w I=some (.cells c3 M)∧hp w J=some (.cells c4 N)):(hp w F=some (.cells c0 L)∧(∀ o,w.cell? ⟨F,o,none⟩=c0[o]?)∧(∀ o,w.frozen? ⟨F,o,none⟩=false)∧F<w.heap.size)∧(hp w G=some (.cells K t1)∧(∀ o,w.cell? ⟨G,o,none⟩=K[o]?)∧(∀ o,w.frozen? ⟨G,o,none⟩=false)∧G<w.heap.size)∧(hp w H=some (.cells c2 t2)∧(∀ o,w.cell? ⟨H,o,none⟩=c2[o]?)∧(∀ o,w.frozen? ⟨H,o,none⟩=false)∧H<w.heap.size)∧(hp w I=some (.cells c3 M)∧(∀ o,w.cell? ⟨I,o,none⟩=c3[o]?)∧(∀ o,w.frozen? ⟨I,o,none⟩=false)∧I<w.heap.size)∧(hp w J=some (.cells c4 N)∧(∀ o,w.cell? ⟨J,o,none⟩=c4[o]?)∧(∀ o,w.frozen? ⟨J,o,none⟩=false)∧J<w.heap.size):=⟨⟨h.1,bO h.1⟩,⟨h.2.1,bO h.2.1⟩,⟨h.2.2.1,bO h.2.2.1⟩,⟨h.2.2.2.1,bO h.2.2.2.1⟩,h.2.2.2.2,bO h.2.2.2.2⟩
theorem Xc {w:World} {F G H I J K:Nat} {c0 L c2 c3 c4 c5:Array Value} {M t1 t2 N O R:TypeId} (h:hp w F=some (.cells c0 M)∧hp w G=some (.cells L t1)∧hp w H=some (.cells c2 t2)∧hp w I=some (.cells c3 N)∧hp w J=some (.cells c4 O)∧hp w K=some (.cells c5 R)):(hp w F=some (.cells c0 M)∧(∀ o,w.cell? ⟨F,o,none⟩=c0[o]?)∧(∀ o,w.frozen? ⟨F,o,none⟩=false)∧F<w.heap.size)∧(hp w G=some (.cells L t1)∧(∀ o,w.cell? ⟨G,o,none⟩=L[o]?)∧(∀ o,w.frozen? ⟨G,o,none⟩=false)∧G<w.heap.size)∧(hp w H=some (.cells c2 t2)∧(∀ o,w.cell? ⟨H,o,none⟩=c2[o]?)∧(∀ o,w.frozen? ⟨H,o,none⟩=false)∧H<w.heap.size)∧(hp w I=some (.cells c3 N)∧(∀ o,w.cell? ⟨I,o,none⟩=c3[o]?)∧(∀ o,w.frozen? ⟨I,o,none⟩=false)∧I<w.heap.size)∧(hp w J=some (.cells c4 O)∧(∀ o,w.cell? ⟨J,o,none⟩=c4[o]?)∧(∀ o,w.frozen? ⟨J,o,none⟩=false)∧J<w.heap.size)∧(hp w K=some (.cells c5 R)∧(∀ o,w.cell? ⟨K,o,none⟩=c5[o]?)∧(∀ o,w.frozen? ⟨K,o,none⟩=false)∧K<w.heap.size):=⟨⟨h.1,bO h.1⟩,⟨h.2.1,bO h.2.1⟩,⟨h.2.2.1,bO h.2.2.1⟩,⟨h.2.2.2.1,bO h.2.2.2.1⟩,⟨h.2.2.2.2.1,bO h.2.2.2.2.1⟩,h.2.2.2.2.2,bO h.2.2.2.2.2⟩
theorem NS {n:Nat} {w W:World} (h:Below n w W) {b:Nat} (F:b+1+1+1<n:=by ((try simp) <;> omega)):hp W (b+1+1+1)=hp w (b+1+1+1)∧hp W (b+1+1)=hp w (b+1+1)∧hp W (b+1)=hp w (b+1)∧hp W b=hp w b:=q4 h F
theorem VC {w W F:World} (G:Below w w W) (h:Below W W F) {b:Nat} (H:b<W.heap.size:=by ((try simp) <;> omega)):Below w w F∧W≤F.heap.size∧hp F (b)=hp W (b):=⟨bT G h,h.size,o9 h tO⟩
theorem I9 {w W F:World} (G:Below w w W) (h:Below W W F) {b:Nat} (H:b+1<W.heap.size:=by ((try simp) <;> omega)):Below w w F∧W≤F.heap.size∧hp F (b+1)=hp W (b+1)∧hp F (b)=hp W (b):=⟨bT G h,h.size,o9 h tO,o9 h tO⟩
theorem sG {w W F:World} (G:Below w w W) (h:Below W W F) {b:Nat} (H:b+1+1<W.heap.size:=by ((try simp) <;> omega)):Below w w F∧W≤F.heap.size∧hp F (b+1+1)=hp W (b+1+1)∧hp F (b+1)=hp W (b+1)∧hp F (b)=hp W (b):=⟨bT G h,h.size,o9 h tO,o9 h tO,o9 h tO⟩
theorem gZ {w W F:World} (G:Below w w W) (h:Below W W F) {b:Nat} (H:b+1+1+1<W.heap.size:=by ((try simp) <;> omega)):Below w w F∧W≤F.heap.size∧hp F (b+1+1+1)=hp W (b+1+1+1)∧hp F (b+1+1)=hp W (b+1+1)∧hp F (b+1)=hp W (b+1)∧hp F (b)=hp W (b):=⟨bT G h,h.size,o9 h tO,o9 h tO,o9 h tO,o9 h tO⟩
theorem D8 {w W F:World} (G:Below w w W) (h:Below W W F) {b:Nat} (H:b+1+1+1+1<W.heap.size:=by ((try simp) <;> omega)):Below w w F∧W≤F.heap.size∧hp F (b+1+1+1+1)=hp W (b+1+1+1+1)∧hp F (b+1+1+1)=hp W (b+1+1+1)∧hp F (b+1+1)=hp W (b+1+1)∧hp F (b+1)=hp W (b+1)∧hp F (b)=hp W (b):=⟨bT G h,h.size,o9 h tO,o9 h tO,o9 h tO,o9 h tO,o9 h tO⟩
theorem aT {w W:World} {a:Option Addr} {n k:Nat} {f:Nat→Nat→Value} (h:Hid (Seg w w a n k f)) (F:Below w w W):Seg W W a n k f:=(h.out.below F).more F.size
theorem nC {w:World} {lo:Nat} {e:TypeId} {k n:Nat} {v:Value} {G:List Value} (h:w.ownsRow lo e k v n G):∀ j,v.ownBlock=some j→j<w.heap.size:=fun j F=>(h.lt j F).2
theorem sH {w:World} {v:Value} (b:∀ j,v.ownBlock=some j→j<w.heap.size):∀ j,w.heap.size≤j→some j≠v.ownBlock:=fun j F e=>by have:=b _ e.symm;omega
theorem BJ {w:World} {lo:Nat} {v1 v2:Value} {cs:List C3} {J:List Int} (h1:aF w lo v1 cs) (h2:aI w lo v2 J):∃ (F:Option Addr) (H:Nat) (G:Option Addr) (I:Nat),v1=.slice F cs.length H∧v2=.slice G J.length I∧Hid (aF w lo v1 cs)∧Hid (aI w lo v2 J)∧(∀ j,v1.ownBlock=some j→j<w.heap.size)∧(∀ j,v2.ownBlock=some j→j<w.heap.size):=by
 obtain ⟨F,H,K,_⟩:=aF.seg h1;obtain ⟨G,I,L,_⟩:=aI.seg h2;exact ⟨F,H,G,I,K,L,h1,h2,nC h1,nC h2⟩
theorem Uu {w:World} {lo:Nat} {v1 v2:Value} {cs:List C3} {L:List Int} (h1:aF w lo v1 cs) (h2:aI w lo v2 L):∃ (H:Option Addr) (J:Nat) (I:Option Addr) (K:Nat),v1=.slice H cs.length J∧v2=.slice I L.length K∧aF w lo v1 cs∧aI w lo v2 L∧(∀ j,v1.ownBlock=some j→j<w.heap.size)∧(∀ j,v2.ownBlock=some j→j<w.heap.size)∧(∀ j,w.heap.size≤j→some j≠v1.ownBlock)∧(∀ j,w.heap.size≤j→some j≠v2.ownBlock)∧some (w.heap.size)≠v1.ownBlock∧some (w.heap.size)≠v2.ownBlock∧some (w.heap.size+1)≠v1.ownBlock∧some (w.heap.size+1)≠v2.ownBlock∧some (w.heap.size+1+1)≠v1.ownBlock∧some (w.heap.size+1+1)≠v2.ownBlock∧some (w.heap.size+1+1+1)≠v1.ownBlock∧some (w.heap.size+1+1+1)≠v2.ownBlock:=by
 obtain ⟨H,J,M,_⟩:=aF.seg h1;obtain ⟨I,K,N,_⟩:=aI.seg h2;have F:=sH (nC h1);have G:=sH (nC h2);exact ⟨H,J,I,K,M,N,h1,h2,nC h1,nC h2,F,G,F _ tO,G _ tO,F _ tO,G _ tO,F _ tO,G _ tO,F _ tO,G _ tO⟩
theorem tZ {P:Prop} (h:P:=by simp [go_sem, *] <;> rfl):P:=h
theorem tY {P:Prop} (h:P:=by simp [go_sem, *]):P:=h
theorem mD {w:World} {lo:Nat} {e:TypeId} {k n:Nat} {v:Value} {I:List Value} (h:w.ownsRow lo e k v n I) (F:Nat) (H:F≤lo:=by ((try simp) <;> omega)):∀ j,v.ownBlock=some j→F≤j:=fun j G=>Nat.le_trans H (h.lt j G).1
theorem QU {r F:Option Nat} {w W:World} (h:ni r F w W) {b:Nat} (L:b+1+1+1<w.heap.size:=by ((try simp) <;> omega)) (h3:some (b+1+1+1)≠r:=by assumption) (J:some (b+1+1+1)≠F:=by assumption) (h2:some (b+1+1)≠r:=by assumption) (I:some (b+1+1)≠F:=by assumption) (h1:some (b+1)≠r:=by assumption) (H:some (b+1)≠F:=by assumption) (K:some (b)≠r:=by assumption) (G:some (b)≠F:=by assumption):hp W (b+1+1+1)=hp w (b+1+1+1)∧hp W (b+1+1)=hp w (b+1+1)∧hp W (b+1)=hp w (b+1)∧hp W (b)=hp w (b):=⟨Fy h tO h3 J,Fy h tO h2 I,Fy h tO h1 H,Fy h tO K G⟩
theorem pz {a b:Nat} (h:a+1+1+1<b:=by omega):a<b∧a+1<b∧a+1+1<b∧a+1+1+1<b:=⟨by omega,by omega,by omega,h⟩
theorem rE {R:Ending→World→Prop} {F:List Deferred} {w:World} (h:fn.results=#[.cell p T,.cell q S,.tmp u]) (hp:tmps.getD p undef=.pointer (some a)) (K:(loadVar T a).run P w=.ok x w) (H:tmps.getD q undef=.pointer (some a')) (G:(loadVar S a').run P w=.ok y w) (I:R (.returned (.tuple #[x,y,tmps.getD u undef])) w) (J:F=[]:=by rfl):bodyPost P fn R .ret { tmps:=tmps,defers:=F } w:=bodyPost_ret (zq h hp K H G) J I
end
section
open Go.RowKit
theorem nX (k e:Int) (w:World):Calls prog 170 #[.agg #[.int .i64 k,.int .i64 e]] w fun r w'=>r=.returned (.bool (eD k e))∧Below w w w':=by
 go_enter func170,ntmps170
 go_wp2_with (go_at_call 122;refine (p8 _ _).mono ?_;rintro _ _ ⟨rfl,rfl⟩)
 all_goals go_ret
 all_goals exact ⟨bQ (by simp_all [eD]),by exact zB⟩
theorem rC (k e x:Int) (w:World):Calls prog 120 #[.agg #[.int .i64 k,.int .i64 e],.int .i64 x] w fun r w'=>r=.returned (.bool (jT k e x))∧Below w w w':=by
 go_enter func120,ntmps120
 go_wp2_with (first|(go_at_call 170;refine (nX _ _ _).mono ?_;rintro _ H ⟨rfl,F⟩;have I:Below w w H:=bT zB F;have G:=F.size;(try (simp at G));have:=fun o=>F.cell (p:=⟨w,o,none⟩) fK;have:=fun o=>F.frozen (p:=⟨w,o,none⟩) fK;have:w<H.heap.size:=tO;have:w≤H.heap.size:=tO;have:w≤H.heap.size+1:=tO)|(go_at_call 121;refine (iP _ _ _ _).mono ?_;rintro _ _ ⟨rfl,rfl⟩))
 all_goals go_ret
 all_goals exact ⟨bQ (by simp_all [jT]),by exact zB⟩
theorem Ae (k e:Int) (w:World):Calls prog 169 #[.agg #[.int .i64 k,.int .i64 e]] w fun r w'=>r=.returned (.bool (r9 k e))∧Below w w w':=by
 go_enter func169,ntmps169
 go_wp2
 all_goals go_ret
 all_goals exact ⟨bQ (by simp_all [r9]),by exact zB⟩
theorem OI:(Tryz.prog.info? 49).map (fun i=>(i.zero,i.size,i.bytes))=some (some (.agg (aB Ha.zero)),14,112):=by kernel_rfl
theorem OJ:(Tryz.prog.info? 31).map (fun i=>(i.zero,i.size,i.bytes))=some (some (.agg (aH Ch.zero (.slice none 0 0) (.slice none 0 0))),6,80):=by kernel_rfl
theorem dA (w:World):(zeroValue 49).run prog w=.ok (.agg (aB Ha.zero)) w:=by
 obtain ⟨i,F,G,_⟩:=info_parts OI;have e:Tryz.prog.info? 49=some Tryz.t49:=by kernel_rfl
 obtain rfl:Tryz.t49=i:=by rw [e] at F;exact Option.some.inj F
 simp [zeroValue,go_sem,G]
theorem fU (w:World):(zeroValue 31).run prog w=.ok (.agg (aH Ch.zero (.slice none 0 0) (.slice none 0 0))) w:=by
 obtain ⟨i,F,G,_⟩:=info_parts OJ;have e:Tryz.prog.info? 31=some Tryz.t31:=by kernel_rfl
 obtain rfl:Tryz.t31=i:=by rw [e] at F;exact Option.some.inj F
 simp [zeroValue,go_sem,G]
theorem RO (w:World):(isAgg 49).run prog w=.ok true w:=by simp [isAgg,go_sem]
theorem RP (w:World):(isAgg 31).run prog w=.ok true w:=by simp [isAgg,go_sem]
theorem OM (w:World):(sizeOf 49).run prog w=.ok 14 w:=by simp [go_sem]
theorem KI (w:World):(sizeOf 31).run prog w=.ok 6 w:=by simp [go_sem]
variable {w:World} {b:Nat}
theorem xJ (h:okO 14 (hp w b)=true):(loadVar 49 ⟨b,0,none⟩).run prog w=.ok (.agg (kU (hp w b))) w:=qG RO OM h
theorem xK (h:okO 6 (hp w b)=true):(loadVar 31 ⟨b,0,none⟩).run prog w=.ok (.agg (kU (hp w b))) w:=qG RP KI h
theorem OO (h:okO 14 (hp w b)=true):(Instr.loadAt 49 (.pointer (some ⟨b,0,none⟩))).run prog w=.ok (.agg (kU (hp w b))) w:=by
 simp only [Instr.loadAt,Instr.sureAddr,Sem.run_bind,Sem.run_pure,Result.andThen_ok,xJ h]
theorem OP (h:okO 6 (hp w b)=true):(Instr.loadAt 31 (.pointer (some ⟨b,0,none⟩))).run prog w=.ok (.agg (kU (hp w b))) w:=by
 simp only [Instr.loadAt,Instr.sureAddr,Sem.run_bind,Sem.run_pure,Result.andThen_ok,xK h]
theorem dW (x:Ha) (h:okO 14 (hp w b)=true):(Instr.storeAt 49 (.pointer (some ⟨b,0,none⟩)) (.agg (aB x))).run prog w=.ok () (dX w b (aB x)):=by
 simp only [Instr.storeAt,Instr.sureAddr,Sem.run_bind,Sem.run_pure,Result.andThen_ok];exact CU OM h rfl (by simp [aB,Value.oneCell'])
theorem fE (c:Ch) (x y:Option Addr) (n p m q:Nat) (h:okO 6 (hp w b)=true):(Instr.storeAt 31 (.pointer (some ⟨b,0,none⟩)) (.agg (aH c (.slice x n p) (.slice y m q)))).run prog w=.ok () (dX w b (aH c (.slice x n p) (.slice y m q))):=by
 simp only [Instr.storeAt,Instr.sureAddr,Sem.run_bind,Sem.run_pure,Result.andThen_ok];exact CU KI h rfl (by simp [aH,Value.oneCell'])
theorem bK (x:Ha) (h:okO 14 (hp w b)=true):(storeCells ⟨b,0,none⟩ (aB x).toList).run prog w=.ok () (dX w b (aB x)):=tQ h rfl (by simp [aB,Value.oneCell'])
theorem eO (c:Ch) (x y:Option Addr) (n p m q:Nat) (h:okO 6 (hp w b)=true):(storeCells ⟨b,0,none⟩ (aH c (.slice x n p) (.slice y m q)).toList).run prog w=.ok () (dX w b (aH c (.slice x n p) (.slice y m q))):=tQ h rfl (by simp [aH,Value.oneCell'])
def nY (x:Value):Sem Value:=Instr.loadAt 49 x
def OQ (x:Addr):Sem Value:=loadVar 49 x
theorem dO (x:Value):Instr.loadAt 49 x=nY x:=by unfold nY;simp
theorem dP (x:Addr):loadVar 49 x=OQ x:=by unfold OQ;simp
theorem OT (h:okO 14 (hp w b)=true):(nY (.pointer (some ⟨b,0,none⟩))).run prog w=.ok (.agg (kU (hp w b))) w:=OO h
theorem OU (h:okO 14 (hp w b)=true):(OQ ⟨b,0,none⟩).run prog w=.ok (.agg (kU (hp w b))) w:=xJ h
def F4 (x:Value):Sem Value:=Instr.loadAt 31 x
def OV (x:Addr):Sem Value:=loadVar 31 x
theorem gW (x:Value):Instr.loadAt 31 x=F4 x:=by unfold F4;simp
theorem gY (x:Addr):loadVar 31 x=OV x:=by unfold OV;simp
theorem OX (h:okO 6 (hp w b)=true):(F4 (.pointer (some ⟨b,0,none⟩))).run prog w=.ok (.agg (kU (hp w b))) w:=OP h
theorem OY (h:okO 6 (hp w b)=true):(OV ⟨b,0,none⟩).run prog w=.ok (.agg (kU (hp w b))) w:=xK h
theorem aQ (x:Ha) (h:hp w b=some (.cells (aB x) 49)):(loadVar 49 ⟨b,0,none⟩).run prog w=.ok (.agg (aB x)) w:=by
 have:=xJ (w:=w) (b:=b) (by rw [h];simp [okO,uQ]);rw [h] at this;exact this
theorem bN (c:Ch) (x y:Value) (h:hp w b=some (.cells (aH c x y) 31)):(loadVar 31 ⟨b,0,none⟩).run prog w=.ok (.agg (aH c x y)) w:=by
 have:=xK (w:=w) (b:=b) (by rw [h];simp [okO,KH]);rw [h] at this;exact this
attribute [go_sem] OT OU dz Ac Iz I1 I4 I6 I7 LA Fw BM OE I8 RL RN Fx BN qF LC LD L8 wX BL tN Option.map_some Wm Wp Wq Ws VA uQ Re Rf Rh Rj Rk Rl Rm Rn Ro Rp Rq Rs Rt Ru Rv Rw Rx Ry Rz R5 O5 O6 O7 O8 O9 OA OB OC
attribute [go_sem] OX OY VB KH R6 R7 R8 R9 RA RB RD RF RG RI RH RJ
end
section
open Go.RowKit
theorem Af (l:List Int) (b:Option Addr) (q:Nat) (w:World) (h:gI w w b l) (F:b=none→q=0) (J:l.length≤1099511627776) :
  Calls prog 172 #[.slice b l.length q] w fun r w'=>(∃ v,r=.returned v∧aI w' w v l)∧Below w w w':=by
 obtain ⟨i0,hi0,hz0,hz1,hz2⟩:=info_parts pR;rcases b with _|⟨bb,bo,sp⟩
 ·obtain rfl:=F rfl
  have H:l.length=0:=by rcases h with h|⟨_,_,h,_⟩;exact h;cases h
  obtain rfl:l=[]:=List.eq_nil_of_length_eq_zero H;go_enter func172,ntmps172;go_wp2_with (at_builtin;refine wpList_append_own_none rfl _ _ 29 rfl w.heap.size 2 i0 1 underlying29 hi0 _ 0 [] rfl (tK _ _ _ _ (Nat.le_refl _)) rfl ?_);go_ret;exact ⟨⟨_,rfl,tK _ _ _ _ (Nat.le_refl _)⟩,by exact zB⟩
 ·have HN:Hid (∀ j u,(ints l)[j]?=some u→w.cell? ((⟨bb,bo,sp⟩:Addr).add j)=some u):=by
   rcases h with G|⟨I,K,e,h1,h2⟩
   ·obtain rfl:l=[]:=List.eq_nil_of_length_eq_zero G
    intro j u hu;simp [ints] at hu
   ·simp at e
    obtain ⟨rfl,rfl,rfl⟩:=e;exact Seg.newsI (.inr ⟨bb,bo,rfl,h1,h2⟩)
  clear h F;go_enter func172,ntmps172;exact Uw
theorem CV:(Tryz.prog.info? 93).map (fun i=>(i.zero,i.size,i.bytes))=some (some (.agg #[.int .i64 0,.int .i64 0,.int .i64 0]),3,24):=by kernel_rfl
theorem vS (c:Ch) (a b:Option Addr) (p q:Nat) (w:World) (h1:gG w w a c.cells) (z1:a=none→p=0) (h2:gI w w b c.words) (z2:b=none→q=0) (m1:c.cells.length≤1099511627776) (m2:c.words.length≤1099511627776) :
  Calls prog 123 #[.agg #[c.cap,c.sent,c.got,c.fin,.slice a c.cells p,.slice b c.words q]] w fun r w' =>
   (∃ v1 v2,r=.returned (.agg #[c.cap,c.sent,c.got,c.fin,v1,v2])∧aF w' w v1 c.cells∧aI w' w v2 c.words)∧Below w w w':=by
 obtain ⟨i0,N,a0,a1,a2⟩:=info_parts CV;obtain ⟨cap,sent,got,fin,cells,words⟩:=c;simp only at *;have H2:=aA h2;have Z2:=aA z2;clear h2 z2;rcases a with _|⟨T,U,sp⟩
 ·obtain rfl:=z1 rfl
  have hn:cells.length=0:=by rcases h1 with h|⟨_,_,h,_⟩;exact h;cases h
  obtain rfl:cells=[]:=List.eq_nil_of_length_eq_zero hn;clear h1 z1 hn m1;go_enter func123,ntmps123;go_wp2_with (at_builtin;refine wpList_append_own_none rfl _ _ 28 rfl (w.heap.size+1+1) 93 i0 3 underlying28 N _ 0 [] rfl (iQ _ _ _ _ _ cK cK) rfl ?_);refine (Af words b q _ ((H2.out.below zB).more qw) Z2.out m2).mono ?_;rintro _ R ⟨⟨v2,rfl,G⟩,F⟩;have H:aF R (w+1+1) (.slice (some ⟨w+1+1,0,none⟩) 0 0) []:=own_below (iQ _ _ _ _ _ cK cK) F
  have I:=aL G (lo':=w+1+1) qw;obtain ⟨vb,vd,rfl,_⟩:=aI.seg G;clear G;have M:=F.size;simp at M;have X:Below w w R:=bT zB F;have:=fun o=>F.cell (p:=⟨w,o,none⟩) qw
  have:=fun o=>F.cell (p:=⟨w+1,o,none⟩) qw
  have:=fun o=>F.frozen (p:=⟨w,o,none⟩) qw
  have:=fun o=>F.frozen (p:=⟨w+1,o,none⟩) qw
  clear F;have:w<w.heap.size+1+1:=by omega
  have:w≤w.heap.size+1:=by omega
  go_wp2_with fail;refine bodyPost_ret (v:=.agg #[.int .i64 cap,.int .i64 sent,.int .i64 got,.int .i64 fin,.slice (some ⟨w+1+1,0,none⟩) 0 0,.slice vb words.length vd]) (by simp [results,results123,go_sem, *]) rfl ⟨⟨_,_,rfl,?_,?_⟩,?_⟩
  ·refine aL (lo:=w+1+1) ?_ tO
   repeat (first|with_reducible exact H|((with_reducible refine aV ?_ ?_ _);rotate_left;(focus exact own_ne H yt)))
  ·refine aL (lo:=w+1+1) ?_ tO
   repeat (first|with_reducible exact I|((with_reducible refine aV ?_ ?_ _);rotate_left;(focus exact own_ne I yt)))
  ·exact zB
 ·have HN:Hid (∀ j u,(mE cells)[j]?=some u→w.cell? ((⟨T,U,sp⟩:Addr).add j)=some u):=by
   rcases h1 with h0|⟨b',o',e,h1,h2⟩
   ·obtain rfl:cells=[]:=List.eq_nil_of_length_eq_zero h0
    intro j u Z;simp [mE] at Z
   ·simp at e
    obtain ⟨rfl,rfl,rfl⟩:=e;exact Seg.newsC (.inr ⟨T,U,rfl,h1,h2⟩)
  clear h1 z1;go_enter func123,ntmps123;go_wp2_with (at_builtin;refine wpList_append_own _ rfl _ _ 28 rfl (w.heap.size+1+1) 93 i0 _ 3 24 underlying28 N a0 a1 a2 rfl cB _ 0 [] rfl (iQ _ _ _ _ _ cK qw) ⟨T,U,sp⟩ cells.length p (mE cells) rfl (lH cells) ?c0 (CR cells) ?c3 ?c4 ?c5 ?_)
  case c0=>exact fun j u Z=>kQ (kQ (kQ (HN.out j u Z)))
  case c3=>unfold maxLen;omega
  case c4=>omega
  case c5=>(simp;try omega)
  intro v O K L _;simp [Value.ownBlock] at L;have Y:=L.size;simp at Y;have:=UA (b:=w) L dQ tO;have:=UA (b:=w+1) L cK tO;have:=UB (b:=w) L dQ tO;have:=UB (b:=w+1) L cK tO;have:w<O.heap.size:=by omega
  have:w≤O.heap.size:=by omega
  have V:Below w w O:=mO zB L dQ dQ;have J:aF O (w+1+1) v cells:=by simpa using K
  clear K;obtain ⟨va,vc,rfl,_⟩:=aF.seg J;go_wp2_with fail;refine (Af words b q _ ((H2.out.below V).setOther sj cK) Z2.out m2).mono ?_;rintro _ R ⟨⟨v2,rfl,G⟩,F⟩;have H:=own_below (aV J (p:=⟨w,4,none⟩) (own_ne J yt) (.slice va cells.length vc)) F;have I:=aL G (lo':=w+1+1) sj;obtain ⟨vb,vd,rfl,_⟩:=aI.seg G;clear G;have M:=F.size;simp [World.setCell] at M;have X:Below w w R:=bT zB F;have:=fun o=>F.cell (p:=⟨w,o,none⟩) sj
  have:=fun o=>F.cell (p:=⟨w+1,o,none⟩) sj
  have:=fun o=>F.frozen (p:=⟨w,o,none⟩) sj
  have:=fun o=>F.frozen (p:=⟨w+1,o,none⟩) sj
  clear F;have:w<w.heap.size+1+1:=by omega
  have:w≤w.heap.size+1:=by omega
  go_wp2_with fail;refine bodyPost_ret (v:=.agg #[.int .i64 cap,.int .i64 sent,.int .i64 got,.int .i64 fin,.slice va cells.length vc,.slice vb words.length vd]) (by simp [results,results123,go_sem, *]) rfl ⟨⟨_,_,rfl,?_,?_⟩,?_⟩
  ·refine aL (lo:=w+1+1) ?_ tO
   repeat (first|with_reducible exact H|((with_reducible refine aV ?_ ?_ _);rotate_left;(focus exact own_ne H yt)))
  ·refine aL (lo:=w+1+1) ?_ tO
   repeat (first|with_reducible exact I|((with_reducible refine aV ?_ ?_ _);rotate_left;(focus exact own_ne I yt)))
  ·exact zB
theorem xL (c:Ch) (v:Int) (a b:Option Addr) (p q:Nat) (w:World) :
  Calls prog 124 #[.agg #[c.cap,c.sent,c.got,c.fin,.slice a c.cells p,.slice b c.words q],.int .i64 v] w fun r w'=>r=.returned (.bool (jR c v))∧Below w w w':=by
 go_enter func124,ntmps124
 go_wp2_with (go_at_call 121;refine (iP _ _ _ _).mono ?_;rintro _ _ ⟨rfl,rfl⟩)
 go_ret;exact ⟨rfl,by exact zB⟩
theorem tT {c:Ch} {v:Int}:jR c v=true↔1≤v∧v≤c.words.length:=by simp [jR,dV]
theorem CW {c:Ch} {v:Int} (h:(aN c && jR c v)=false):-1=jA c v:=by simp [jA,h]
theorem IA {c:Ch} {v:Int} (h1:aN c=true) (h2:jR c v=true):dH c v=jA c v:=by simp [jA,h1,h2]
end
end Go.Proofs.YtffhjmepfojhnaaGreat
