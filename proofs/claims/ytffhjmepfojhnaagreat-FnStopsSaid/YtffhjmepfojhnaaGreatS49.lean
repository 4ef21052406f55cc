/-
  The law FnStops returns true, whatever it is called with, and turns nothing that was there; the program's Stopped and ParkedIn are given by their contracts.
-/
import Derived.Test.YtffhjmepfojhnaaGreatS01
import Derived.Test.YtffhjmepfojhnaaGreatS48
import Derived.Test.YtffhjmepfojhnaaGreatS44
import Derived.Test.YtffhjmepfojhnaaGreatS35
import Derived.Test.YtffhjmepfojhnaaGreatS32
import Derived.Test.YtffhjmepfojhnaaGreatS27
import Derived.Test.YtffhjmepfojhnaaGreatS47
import Derived.Test.YtffhjmepfojhnaaGreatS45
import Derived.Test.YtffhjmepfojhnaaGreatS38
set_option maxRecDepth 100000
set_option maxHeartbeats 16000000
set_option linter.unusedSimpArgs false
set_option linter.unusedVariables false
namespace Go.Proofs.YtffhjmepfojhnaaGreat
open _root_.Go.Proofs.Tryz
open Go.RowKit
attribute [local simp] aP
theorem En (x:Wo) (who:Int) (m:jk x):jk (stopped x who).1:=by
 unfold stopped
 split
 ·split
  ·exact m
  ·refine ⟨by unfold dM;split <;> exact m.1,?_,m.2.2.1,m.2.2.2⟩
   unfold dM
   split
   ·simpa using m.2.1
   ·exact m.2.1
 ·exact ⟨by simp [Wo.zero,Ch.zero],by simp [Wo.zero,Ch.zero],by simp [Wo.zero],by simp [Wo.zero]⟩
theorem BI {x Y:Wo} {who:Int} (h:stopped x who=(Y,true)):∃ i:Nat,who=(i:Int)∧bC x=true∧i<x.hands.length∧(iy x.hands i).pos=23∧eY x.ch (iy x.hands i).mine 2=true∧Y={ x with ch:=dM x.ch (iy x.hands i).mine 2 }:=by
 unfold stopped at h
 split at h
 ·rename_i h1
  simp only [Bool.and_eq_true] at h1
  obtain ⟨r,m⟩:=h1
  obtain ⟨i,rfl⟩:∃ i:Nat,who=(i:Int):=⟨who.toNat,by simp [cK,eH,dA] at m;omega⟩
  rw [mX] at h
  split at h
  ·simp at h
  ·rename_i q
   simp only [Prod.mk.injEq] at h
   exact ⟨i,rfl,r,by simp [cK,eH,dA] at m;omega,by simpa using q,h.2,h.1.symm⟩
 ·simp at h
theorem BJ {w:World} {lo n p k:Nat} {a:Option Addr} {f:Nat→Nat→Value} (h:New w lo (.slice a n p) n k f):Hi lo a:=fun m e=>(New.lo' h m.block (by subst e;rfl)).1
theorem P6 {w:World} {lo m:Nat} {x:Wo} {a b d e:Option Addr} {p q r s:Nat} (h:FT w lo m x a b d e p q r s):Hi lo a∧Hi lo b∧Hi lo d∧Hi lo e:=⟨BJ h.1.1,BJ h.1.2.1,BJ h.1.2.2.1,BJ h.1.2.2.2⟩
theorem sS {w:World} {lo n p k:Nat} {a:Option Addr} {f:Nat→Nat→Value} (h:New w lo (.slice a n p) n k f) (e:a=none):n=0∧p=0:=by
 rcases h with ⟨h,m⟩|⟨g,cap,h,_⟩
 ·simp at h;exact ⟨m,h.2.2⟩
 ·rw [e] at h;simp at h
theorem Kv {w:World} {lo m:Nat} {x:Wo} {a b d e:Option Addr} {p q r s:Nat} (h:FT w lo m x a b d e p q r s):jl x a b d e p q r s:=⟨fun e=>(sS h.1.1 e).2,fun e=>(sS h.1.2.1 e).2,sS h.1.2.2.1,sS h.1.2.2.2⟩
theorem oU {x:Wo} (h:bC x=true):jk x:=rP ((gP x).1 h)
theorem Eo (ek:∀ (x:Wo) (who:Int) (a b d e:Option Addr) (p q r s:Nat) (w:World),ic w w x a b d e→jl x a b d e p q r s→jk x→Calls prog 21 #[kZ x a b d e p q r s,.int .i64 who] w fun r w'=>fE w w' (stopped x who).1 (.bool (stopped x who).2) r)
  (ej:∀ (x:Wo) (a b d e:Option Addr) (p q r s:Nat) (w:World),ic w w x a b d e→jl x a b d e p q r s→jk x→Calls prog 16 #[kZ x a b d e p q r s] w fun r' w'=>(∃ v,r'=.returned v∧aG w' w v (fT x))∧Below w w w')
  (n cap:Nat) (a:Option Addr) (bs:Nat→Int) (w:World) (en:∀ j,0≤bs j∧bs j≤255) (h:Seg w w a n 1 (fun j _=>.int .u8 (bs j))) :
  Calls prog 4 #[.slice a n cap] w fun r w'=>r=.returned (.bool true)∧Below w w w':=by
 have HB:=aA en
 have HS:=aA h
 have d0:=aA ek
 have cz:=aA ej
 clear en h ek ej
 by_cases hn:(4096:Int)<(n:Int)
 ·go_enter func4,ntmps4
  go_wp2_with fail
  refine (Ic _ _ _ _).mono ?_
  rintro _ _ ⟨rfl,rfl⟩
  go_wp2
  go_ret
  exact ⟨rfl,Below.refl _ _⟩
 have HC:Hid (Code w w a n bs):=⟨by omega,HB.out,HS.out⟩
 clear HB HS
 go_enter func4,ntmps4
 go_wp2_with fail
 refine (Ic _ _ _ _).mono ?_
 rintro _ _ ⟨rfl,rfl⟩
 go_wp2_with fail
 refine aK w zB fun bb=>?_
 refine (uY _ _ _ bs _ ((HC.out.below bb).more bb.size)).mono ?_
 rintro _ w1 ⟨⟨x,xa,xb,xd,xe,xp,xq,xr,xs,who,rfl,S0,N0,L0,h3,_,_,_,_⟩,bw⟩
 have dg:Below w w w1:=bT bb bw
 clear bb bw
 go_wp2_with fail
 generalize u:World.alloc w1 _=w2
 have fi:hp w2 w1=some (.cells #[x.ch.cap,x.ch.sent,x.ch.got,x.ch.fin,.slice xa x.ch.cells xp,.slice xb x.ch.words xq,.slice xd x.hands xr,.slice xe x.deals xs,x.now] 35):=by rw [← u];exact heap_alloc_new _ _
 have au:Below w1 w1 w2:=by rw [← u];exact aS _ _
 have dn:Below w w w2:=bT dg au
 have S2:=gN (iU S0 (Nat.le_refl _) au) au.size
 have ho:=au.size
 clear u S0 au
 refine (d0.out x who xa xb xd xe xp xq xr xs _ S2 N0 L0).mono ?_
 rintro _ w3 ⟨⟨u1,u2,u3,u4,rfl,y⟩,ao⟩
 have LY:=En x who L0
 obtain ⟨Y,T,a2⟩:∃ Y T,stopped x who=(Y,T):=⟨_,_,rfl⟩
 rw [a2] at y LY
 simp only [a2]
 obtain ⟨ya,yp,rfl,_⟩:=aD.seg y.1
 obtain ⟨yb,yq,rfl,_⟩:=aG.seg y.2.1
 obtain ⟨yd,yr,rfl,_⟩:=cO.seg y.2.2.1
 obtain ⟨ye,ys,rfl,_⟩:=dV.seg y.2.2.2
 obtain ⟨SY,NY,_,_,_,_⟩:=iG y
 have S3:=gN (iU S2 (Nat.le_refl _) ao) ao.size
 have dy:Below w w w3:=bT dn ao
 have b3:=eP fi ao
 have hr:=ao.size
 clear ao S2 fi y
 obtain ⟨a8,a4,a7⟩:=bO b3
 go_wp2_with fail
 generalize u:World.alloc w3 _=w4
 have fj:hp w4 w3=some (.cells #[Y.ch.cap,Y.ch.sent,Y.ch.got,Y.ch.fin,.slice ya Y.ch.cells yp,.slice yb Y.ch.words yq,.slice yd Y.hands yr,.slice ye Y.deals ys,Y.now] 35):=by rw [← u];exact heap_alloc_new _ _
 have ac:Below w3 w3 w4:=by rw [← u];exact aS _ _
 have eg:Below w w w4:=bT dy ac
 have S4:=gN (iU S3 (Nat.le_refl _) ac) ac.size
 have d8:=gN (iU SY (Nat.le_refl _) ac) ac.size
 have c1:=eP b3 ac
 have ht:=ac.size
 obtain ⟨q1,q2,q3,q4⟩:=S4
 obtain ⟨k1,k2,k3,k4⟩:=N0
 obtain ⟨l1,l2,l3,l4⟩:=L0
 clear u ac S3 SY b3 a8 a4 a7
 refine (sF x who xa xb xd xe xp xq xr xs _ q1 k1 q2 k2 q3 k3 q4 k4 tO tO tO tO).mono ?_
 rintro _ w5 ⟨⟨v1,v2,v3,v4,rfl,y⟩,a5⟩
 rw [a2] at y
 simp only [a2]
 obtain ⟨va,vp,rfl,_⟩:=aD.seg y.1
 obtain ⟨vb,vq,rfl,_⟩:=aG.seg y.2.1
 obtain ⟨vd,vr,rfl,_⟩:=cO.seg y.2.2.1
 obtain ⟨ve,vs,rfl,_⟩:=dV.seg y.2.2.2
 obtain ⟨SV,NV,_,_,_,_⟩:=iG y
 have S5:ic w5 w5 x xa xb xd xe:=gN (iU ⟨q1,q2,q3,q4⟩ (Nat.le_refl _) a5) a5.size
 have d9:=gN (iU d8 (Nat.le_refl _) a5) a5.size
 have cg:Below w w w5:=bT eg a5
 have b4:=eP c1 a5
 have b6:=eP fj a5
 have hu:=a5.size
 clear a5 q1 q2 q3 q4 d8 c1 fj y
 obtain ⟨a8,a4,a7⟩:=bO b4
 obtain ⟨ar,an,ap⟩:=bO b6
 go_wp2_with fail
 generalize u:World.alloc w5 _=w6
 have fk:hp w6 w5=some (.cells #[Y.ch.cap,Y.ch.sent,Y.ch.got,Y.ch.fin,.slice va Y.ch.cells vp,.slice vb Y.ch.words vq,.slice vd Y.hands vr,.slice ve Y.deals vs,Y.now] 35):=by rw [← u];exact heap_alloc_new _ _
 have cf:Below w5 w5 w6:=by rw [← u];exact aS _ _
 clear u
 refine aK w (bT cg cf) fun bb=>?_
 refine (ug _ _ _ bs _ ((HC.out.below bb).more bb.size)).mono ?_
 rintro _ w7 ⟨⟨p,pa,pb,pd,pe,pp,pq,pr,ps,rfl,SP,NP,LP,_,_,_,_,_⟩,cj⟩
 have a1:Below w5 w5 w7:=bT cf cj
 have eh:Below w w w7:=bT cg a1
 have S7:=gN (iU S5 (Nat.le_refl _) a1) a1.size
 have dc:=gN (iU d9 (Nat.le_refl _) a1) a1.size
 have d6:=gN (iU SV (Nat.le_refl _) a1) a1.size
 have b5:=eP b4 a1
 have b7:=eP b6 a1
 have ba:=eP fk cj
 have hv:=a1.size
 clear cf cj a1 bb S5 d9 SV b4 b6 fk a8 a4 a7 ar an ap
 obtain ⟨a8,a4,a7⟩:=bO b5
 obtain ⟨ar,an,ap⟩:=bO b7
 obtain ⟨gs,gj,go⟩:=bO ba
 go_wp2_with fail
 generalize u:World.alloc w7 _=w8
 have bc:hp w8 w7=some (.cells #[p.ch.cap,p.ch.sent,p.ch.got,p.ch.fin,.slice pa p.ch.cells pp,.slice pb p.ch.words pq,.slice pd p.hands pr,.slice pe p.deals ps,p.now] 35):=by rw [← u];exact heap_alloc_new _ _
 have J:Below w7 w7 w8:=by rw [← u];exact aS _ _
 clear u a8 a4 a7 ar an ap gs gj go
 have ei:Below w w w8:=bT eh J
 have S8:=gN (iU S7 (Nat.le_refl _) J) J.size
 have c9:=gN (iU dc (Nat.le_refl _) J) J.size
 have d7:=gN (iU d6 (Nat.le_refl _) J) J.size
 have am:=gN (iU SP (Nat.le_refl _) J) J.size
 have c6:=eP b5 J
 have b8:=eP b7 J
 have c7:=eP ba J
 have hw:=J.size
 clear J S7 dc d6 SP b5 b7 ba
 have gm:(fT p).length≤maxLen:=Nat.le_trans (uT p) (by have:=LP.2.2.1;unfold maxLen;omega)
 go_wp2_with fail
 refine iT [[],[],[0,1],[0,1,2],[0,1,2,3],[0,1,2,3],[0,1,2,3,4,5],[0,1,2,3,4,5,6],qB [],qB [8],qB [8,9],qB [8,9,10],qB [8,9],qB [8,9,12],qB [8,9,10,11,12,13],qB [8,9,10,11,12,13,14],qC []] [39,40,41,42,43,44,45,46,47,48,49,50,51,52,53,54,55] (fun l s wx=>(Below w8 w8 wx)∧(l 0=true→s 39=.bool T)∧(l 1=true→s 40=.bool T)∧(l 2=true→s 41=.bool false)∧(l 3=true→s 42=.bool false)∧(l 4=true→s 43=.agg #[Y.ch.cap,Y.ch.sent,Y.ch.got,Y.ch.fin,.slice ya Y.ch.cells yp,.slice yb Y.ch.words yq,.slice yd Y.hands yr,.slice ye Y.deals ys,Y.now])∧(l 5=true→s 44=.agg #[Y.ch.cap,Y.ch.sent,Y.ch.got,Y.ch.fin,.slice va Y.ch.cells vp,.slice vb Y.ch.words vq,.slice vd Y.hands vr,.slice ve Y.deals vs,Y.now])∧(l 6=true→s 45=.bool true)∧(l 7=true→s 46=.bool false)∧(l 8=true→s 47=.bool false)∧(l 9=true→s 48=.bool false)∧(l 10=true→s 49=.agg #[p.ch.cap,p.ch.sent,p.ch.got,p.ch.fin,.slice pa p.ch.cells pp,.slice pb p.ch.words pq,.slice pd p.hands pr,.slice pe p.deals ps,p.now])∧(l 11=true→∃ (la:Option Addr) (lc:Nat),s 50=.slice la (fT p).length lc∧aG wx w8 (.slice la (fT p).length lc) (fT p))∧(l 12=true→s 51=.agg #[p.ch.cap,p.ch.sent,p.ch.got,p.ch.fin,.slice pa p.ch.cells pp,.slice pb p.ch.words pq,.slice pd p.hands pr,.slice pe p.deals ps,p.now])∧(l 13=true→∃ (la:Option Addr) (lc:Nat),s 52=.slice la (fT p).length lc∧aG wx w8 (.slice la (fT p).length lc) (fT p))∧(l 14=true→s 53=.bool true)∧(l 15=true→s 54=.bool false)∧(l 16=true→s 55=.bool false)) (fun s=>⟨(Below.refl _ _).drew,nB,nB,nB,nB,nB,nB,nB,nB,nB,nB,nB,nB,nB,nB,nB,nB,nB⟩) ?_ ?_
 refine ⟨?_,?_,?_,?_,?_,?_,?_,?_,?_,?_,?_,?_,?_,?_,?_,?_,?_,trivial⟩;iterate 17 (intro l s wx hl L hn z K hK;rotate_left)
 ·intro l s w9 bu z
  have a6:=z.1
  have ec:=((jE z).2 (bu 16 rfl))
  simp only [ec]
  clear ec z bu
  have ci:Below w w w9:=bT ei a6
  have S9:=aA (gN (iU S8 (Nat.le_refl _) a6) a6.size)
  have cc:=aA (gN (iU c9 (Nat.le_refl _) a6) a6.size)
  have al:=eP c6 a6
  have b9:=eP b8 a6
  have hx:=a6.size
  clear a6 S8 c9 d7 am c6 b8 c7 bc
  obtain ⟨a8,a4,a7⟩:=bO al
  obtain ⟨ar,an,ap⟩:=bO b9
  go_upto_if 56 with fail
  go_cut [] (fun wx=>Below w w wx)
  case first =>
   cases T with
   | false =>
    go_wp2
    go_meet
    exact ci
   | true =>
    obtain ⟨i,rfl,ez,gk,bx,ey,el⟩:=BI a2
    have SA:=G7 ez gk bx ey Y el
    have RX:=(gP x).1 ez
    have hy:=RX.n0
    have hz:=RX.n1
    have i0:=RX.d
    clear RX el ey bx a2
    go_wp2_with fail
    refine (oQ Y i 9 ya yb yd ye yp yq yr ys _ cc.out NY LY).mono ?_
    rintro _ fh ⟨⟨u1,u2,u3,u4,rfl,y⟩,aj⟩
    generalize iQ Y (i:Int) 9=ZN at *
    obtain ⟨Z,N⟩:=ZN
    simp only at y SA ⊢
    obtain ⟨za,zp,rfl,_⟩:=aD.seg y.1
    obtain ⟨zb,zq,rfl,_⟩:=aG.seg y.2.1
    obtain ⟨zd,zr,rfl,_⟩:=cO.seg y.2.2.1
    obtain ⟨ze,zs,rfl,_⟩:=dV.seg y.2.2.2
    have gt:Below w w fh:=bT ci aj
    have cx:=eP al aj
    have gy:=aj.size
    clear aj a8 a4 a7 ar an ap al b9 cc S9
    obtain ⟨a8,a4,a7⟩:=bO cx
    rcases SA with ⟨hN,hm⟩|⟨rfl,h7,h9,gn⟩
    ·have h4:(N != 2)=true:=by simpa using hN
     by_cases L:1000≤x.deals.length
     ·have ep:decide ((1000:Int)≤(x.deals.length:Int))=true:=by simp;omega
      go_wp2
      go_ret
      exact ⟨rfl,by exact zB⟩
     ·have ep:decide ((1000:Int)≤(x.deals.length:Int))=false:=by simp;omega
      have hk:wrap64 (x.now+2)=x.now+2:=IntWalk.wrap64_in _ tO
      have gw:IntKind.i64.wrap (x.now+2)=x.now+2:=IntWalk.i64_in _ tO
      have hg:decide (20000<x.now+2)=true:=by simp;omega
      go_wp2
      go_ret
      exact ⟨rfl,by exact zB⟩
    ·obtain ⟨zg,zc,ev,_,lg,es,_⟩:=cO.open1 y.2.2.1 (i:=i) tO
     simp at ev
     obtain ⟨rfl,rfl⟩:=ev
     have gx:fh.cell? ⟨zg,i*14+12,none⟩=some (.int .i64 3):=by
      rw [es 12 tO,show Z.hands.getD i Ha.zero=iy Z.hands i from rfl,← gn];rfl
     have ha:(0:Int)≤(i:Int):=by omega
     have hb:(i:Int)<(Z.hands.length:Int):=by omega
     have h8:decide ((Z.hands.length:Int)≤(i:Int))=false:=by simp;omega
     have hh:((Z.deals.length:Int) != (x.deals.length:Int)+1)=false:=by simp;omega
     clear es
     go_wp2
     go_meet
     exact by exact zB
  case rest =>
   have bg:Below w w wc:=hcut
   clear hcut a8 a4 a7 ar an ap al b9 S9 cc a2 dg dn dy eg cg eh ei ci cz
   go_wp2_with fail
   refine (Mc _ _ _ bs 4 _ ((HC.out.below bg).more bg.size)).mono ?_
   rintro _ gp ⟨gd,rfl,ai,bv⟩
   have dh:Below w w gp:=bT bg bv
   have eu:=ai.lt
   have et:w.heap.size≤gd:=Nat.le_trans bg.size ai.le
   clear bv
   go_wp2_with fail
   refine (yA 0 3 _).mono ?_
   rintro _ af ⟨⟨na,nb,nd,ne,np,nq,nr,ns,rfl,NW,_⟩,ak⟩
   simp only [iA]
   have bj:Below w w af:=bT dh ak
   have bt:=ai.below ak
   have ex:=ak.size
   generalize f0:(fQ 0 3).1=y0 at *
   generalize (fQ 0 3).2=t0 at *
   have d1:=aA f0
   clear f0 ak ai
   have S:=FT.seg (w':=af) NW
   have N:=Kv NW
   obtain ⟨O,R,U,M⟩:=P6 NW
   clear NW
   go_wp2_with fail
   generalize u:World.alloc af _=ck
   have m:hp ck af=some (.cells #[y0.ch.cap,y0.ch.sent,y0.ch.got,y0.ch.fin,.slice na y0.ch.cells np,.slice nb y0.ch.words nq,.slice nd y0.hands nr,.slice ne y0.deals ns,y0.now] 35):=by rw [← u];exact heap_alloc_new _ _
   have a9:Below af af ck:=by rw [← u];exact aS _ _
   clear u
   have di:Below w w ck:=bT bj a9
   have d2:=iU S (Nat.le_refl _) a9
   have bz:=a9.size
   refine (Nq _ gd 5 _ (bt.below a9)).mono ?_
   rintro _ av ⟨⟨k,e,rfl,ew⟩,_,a3⟩
   obtain ⟨y1,y2,y3,y4,y5,y6,y7,y8,⟨q1,q2,q3,q4,q5,q6,q7,q8⟩,⟨m0,m1,m2,m3,m4,m5,m6,m7,m8⟩,⟨f1,f2,f3,f4⟩⟩:=PZ ew
   rw [d1.out] at q1 m0
   have dj:Below w w av:=bG di a3 et
   have d3:=gN (lI d2 bz a3 O R U M (.inl eu)) (Nat.le_trans bz a3.size)
   replace m:=(bE a3 (bO m).2.2 (by simp;omega)).trans m
   have gz:=a3.size
   clear ew a9 S d2 a3 bt d1 O R U M HC ex
   have Q1:=aA q1
   have Q2:=aA q2
   have Q3:=aA q3
   have Q4:=aA q4
   have Q5:=aA q5
   have Q6:=aA q6
   have Q7:=aA q7
   have Q8:=aA q8
   have M0:=aA (oU m0)
   have M1:=aA (oU m1)
   have M2:=aA (oU m2)
   have M3:=aA (oU m3)
   have M4:=aA (oU m4)
   have M5:=aA (oU m5)
   have M6:=aA (oU m6)
   have M7:=aA (oU m7)
   have M8:=aA (oU m8)
   have F1:=aA f1
   have F2:=aA f2
   have F3:=aA f3
   have F4:=aA f4
   clear q1 q2 q3 q4 q5 q6 q7 q8 m0 m1 m2 m3 m4 m5 m6 m7 m8 f1 f2 f3 f4
   obtain ⟨b,eo⟩:∃ b,b=af.heap.size:=⟨_,rfl⟩
   rw [← eo] at m ⊢
   have h5:w.heap.size≤b:=by have:=bj.size;omega
   have E:b<av.heap.size:=(bO m).2.2
   clear eo
   obtain ⟨H,F,G⟩:=bO m
   go_wp2_with fail
   generalize u:World.alloc av _=bh
   have aa:Below av av bh:=by rw [← u];exact aS _ _
   clear u
   have dk:Below w w bh:=bT dj aa
   have fy:=gN (iU d3 (Nat.le_refl _) aa) aa.size
   replace m:=eP m aa
   replace E:b<bh.heap.size:=(bO m).2.2
   clear aa d3 H F G
   refine (rO y0 0 k e na nb nd ne np nq nr ns _ fy N M0.out).mono ?_
   rintro _ cl ⟨⟨u1,u2,u3,u4,rfl,y⟩,A⟩
   rw [Q1.out] at y
   simp only [Q1.out]
   obtain ⟨ca,cp,rfl,_⟩:=aD.seg y.1
   obtain ⟨cb,cq,rfl,_⟩:=aG.seg y.2.1
   obtain ⟨cd,cr,rfl,_⟩:=cO.seg y.2.2.1
   obtain ⟨ce,cs,rfl,_⟩:=dV.seg y.2.2.2
   obtain ⟨V,X,O,R,U,M⟩:=iG y
   have bk:Below w w cl:=bT dk A
   replace m:=eP m A
   have f5:b<bh.heap.size:=E
   replace E:b<cl.heap.size:=(bO m).2.2
   clear A y
   obtain ⟨H,F,G⟩:=bO m
   go_wp2_with fail
   generalize u:World.setCell _ _ _=aw
   have I:cl.grownBy aw (some b):=by rw [← u];exact zG
   have D:hp aw b=some (.cells #[y1.ch.cap,y1.ch.sent,y1.ch.got,y1.ch.fin,.slice ca y1.ch.cells cp,.slice cb y1.ch.words cq,.slice cd y1.hands cr,.slice ce y1.deals cs,y1.now] 35):=by rw [← u];simp [gG,m,eZ]
   have fz:=gN (lI V (Nat.le_refl _) I O R U M (.inl f5)) I.size
   have fl:=X
   have dl:Below w w aw:=iN bk I bk.size (fun q hq=>by simp at hq;omega)
   clear u m H F G V X O R U M I
   have m:=D
   clear D
   replace E:b<aw.heap.size:=(bO m).2.2
   refine (oQ y1 0 99 ca cb cd ce cp cq cr cs _ fz fl M1.out).mono ?_
   rintro _ cm ⟨⟨u1,u2,u3,u4,rfl,y⟩,A⟩
   rw [Q2.out] at y
   simp only [Q2.out]
   obtain ⟨da,dp,rfl,_⟩:=aD.seg y.1
   obtain ⟨db,dq,rfl,_⟩:=aG.seg y.2.1
   obtain ⟨dd,dr,rfl,_⟩:=cO.seg y.2.2.1
   obtain ⟨de,ds,rfl,_⟩:=dV.seg y.2.2.2
   obtain ⟨V,X,O,R,U,M⟩:=iG y
   have bl:Below w w cm:=bT dl A
   replace m:=eP m A
   have f6:b<aw.heap.size:=E
   replace E:b<cm.heap.size:=(bO m).2.2
   clear A y
   obtain ⟨H,F,G⟩:=bO m
   go_wp2_with fail
   generalize u:World.setCell _ _ _=ax
   have I:cm.grownBy ax (some b):=by rw [← u];exact zG
   have D:hp ax b=some (.cells #[y2.ch.cap,y2.ch.sent,y2.ch.got,y2.ch.fin,.slice da y2.ch.cells dp,.slice db y2.ch.words dq,.slice dd y2.hands dr,.slice de y2.deals ds,y2.now] 35):=by rw [← u];simp [gG,m,eZ]
   have g0:=gN (lI V (Nat.le_refl _) I O R U M (.inl f6)) I.size
   have fm:=X
   have dm:Below w w ax:=iN bl I bl.size (fun q hq=>by simp at hq;omega)
   clear u m H F G V X O R U M I
   have m:=D
   clear D
   replace E:b<ax.heap.size:=(bO m).2.2
   refine (d0.out y2 0 da db dd de dp dq dr ds _ g0 fm M2.out).mono ?_
   rintro _ cn ⟨⟨u1,u2,u3,u4,rfl,y⟩,A⟩
   rw [Q3.out] at y
   simp only [Q3.out]
   obtain ⟨fa,fp,rfl,_⟩:=aD.seg y.1
   obtain ⟨fb,fq,rfl,_⟩:=aG.seg y.2.1
   obtain ⟨fd,fr,rfl,_⟩:=cO.seg y.2.2.1
   obtain ⟨fe,fs,rfl,_⟩:=dV.seg y.2.2.2
   obtain ⟨V,X,O,R,U,M⟩:=iG y
   have bm:Below w w cn:=bT dm A
   replace m:=eP m A
   have f7:b<ax.heap.size:=E
   replace E:b<cn.heap.size:=(bO m).2.2
   clear A y
   obtain ⟨H,F,G⟩:=bO m
   go_wp2_with fail
   generalize u:World.setCell _ _ _=ay
   have I:cn.grownBy ay (some b):=by rw [← u];exact zG
   have D:hp ay b=some (.cells #[y3.ch.cap,y3.ch.sent,y3.ch.got,y3.ch.fin,.slice fa y3.ch.cells fp,.slice fb y3.ch.words fq,.slice fd y3.hands fr,.slice fe y3.deals fs,y3.now] 35):=by rw [← u];simp [gG,m,eZ]
   have g1:=gN (lI V (Nat.le_refl _) I O R U M (.inl f7)) I.size
   have fn:=X
   have dt:Below w w ay:=iN bm I bm.size (fun q hq=>by simp at hq;omega)
   clear u m H F G V X O R U M I
   have m:=D
   clear D
   replace E:b<ay.heap.size:=(bO m).2.2
   refine (oQ y3 0 99 fa fb fd fe fp fq fr fs _ g1 fn M3.out).mono ?_
   rintro _ co ⟨⟨u1,u2,u3,u4,rfl,y⟩,A⟩
   rw [Q4.out] at y
   simp only [Q4.out]
   obtain ⟨ta,tp,rfl,_⟩:=aD.seg y.1
   obtain ⟨tb,tq,rfl,_⟩:=aG.seg y.2.1
   obtain ⟨td,tr,rfl,_⟩:=cO.seg y.2.2.1
   obtain ⟨te,ts,rfl,_⟩:=dV.seg y.2.2.2
   obtain ⟨V,X,O,R,U,M⟩:=iG y
   have bn:Below w w co:=bT dt A
   replace m:=eP m A
   have f8:b<ay.heap.size:=E
   replace E:b<co.heap.size:=(bO m).2.2
   clear A y
   obtain ⟨H,F,G⟩:=bO m
   go_wp2_with fail
   generalize u:World.setCell _ _ _=ag
   have I:co.grownBy ag (some b):=by rw [← u];exact zG
   have D:hp ag b=some (.cells #[y4.ch.cap,y4.ch.sent,y4.ch.got,y4.ch.fin,.slice ta y4.ch.cells tp,.slice tb y4.ch.words tq,.slice td y4.hands tr,.slice te y4.deals ts,y4.now] 35):=by rw [← u];simp [gG,m,eZ]
   have g2:=gN (lI V (Nat.le_refl _) I O R U M (.inl f8)) I.size
   have fo:=X
   have du:Below w w ag:=iN bn I bn.size (fun q hq=>by simp at hq;omega)
   clear u m H F G V X O R U M I
   have m:=D
   clear D
   replace E:b<ag.heap.size:=(bO m).2.2
   generalize u:World.alloc ag _=bi
   have ab:Below ag ag bi:=by rw [← u];exact aS _ _
   clear u
   have dv:Below w w bi:=bT du ab
   have g3:=gN (iU g2 (Nat.le_refl _) ab) ab.size
   replace m:=eP m ab
   replace E:b<bi.heap.size:=(bO m).2.2
   clear ab
   refine (rO y4 1 1 7 ta tb td te tp tq tr ts _ g3 fo M4.out).mono ?_
   rintro _ ct ⟨⟨u1,u2,u3,u4,rfl,y⟩,A⟩
   rw [Q5.out] at y
   simp only [Q5.out]
   obtain ⟨oa,op,rfl,_⟩:=aD.seg y.1
   obtain ⟨ob,oq,rfl,_⟩:=aG.seg y.2.1
   obtain ⟨od,or,rfl,_⟩:=cO.seg y.2.2.1
   obtain ⟨oe,os,rfl,_⟩:=dV.seg y.2.2.2
   obtain ⟨V,X,O,R,U,M⟩:=iG y
   have bo:Below w w ct:=bT dv A
   replace m:=eP m A
   have f9:b<bi.heap.size:=E
   replace E:b<ct.heap.size:=(bO m).2.2
   clear A y
   obtain ⟨H,F,G⟩:=bO m
   go_wp2_with fail
   generalize u:World.setCell _ _ _=az
   have I:ct.grownBy az (some b):=by rw [← u];exact zG
   have D:hp az b=some (.cells #[y5.ch.cap,y5.ch.sent,y5.ch.got,y5.ch.fin,.slice oa y5.ch.cells op,.slice ob y5.ch.words oq,.slice od y5.hands or,.slice oe y5.deals os,y5.now] 35):=by rw [← u];simp [gG,m,eZ]
   have g4:=gN (lI V (Nat.le_refl _) I O R U M (.inl f9)) I.size
   have ft:=X
   have dw:Below w w az:=iN bo I bo.size (fun q hq=>by simp at hq;omega)
   clear u m H F G V X O R U M I
   have m:=D
   clear D
   replace E:b<az.heap.size:=(bO m).2.2
   refine (oQ y5 1 99 oa ob od oe op oq or os _ g4 ft M5.out).mono ?_
   rintro _ cu ⟨⟨u1,u2,u3,u4,rfl,y⟩,A⟩
   rw [Q6.out] at y
   simp only [Q6.out]
   obtain ⟨ja,jp,rfl,_⟩:=aD.seg y.1
   obtain ⟨jb,jq,rfl,_⟩:=aG.seg y.2.1
   obtain ⟨jd,jr,rfl,_⟩:=cO.seg y.2.2.1
   obtain ⟨je,js,rfl,_⟩:=dV.seg y.2.2.2
   obtain ⟨V,X,O,R,U,M⟩:=iG y
   have bp:Below w w cu:=bT dw A
   replace m:=eP m A
   have fc:b<az.heap.size:=E
   replace E:b<cu.heap.size:=(bO m).2.2
   clear A y
   obtain ⟨H,F,G⟩:=bO m
   go_wp2_with fail
   generalize u:World.setCell _ _ _=b0
   have I:cu.grownBy b0 (some b):=by rw [← u];exact zG
   have D:hp b0 b=some (.cells #[y6.ch.cap,y6.ch.sent,y6.ch.got,y6.ch.fin,.slice ja y6.ch.cells jp,.slice jb y6.ch.words jq,.slice jd y6.hands jr,.slice je y6.deals js,y6.now] 35):=by rw [← u];simp [gG,m,eZ]
   have g5:=gN (lI V (Nat.le_refl _) I O R U M (.inl fc)) I.size
   have fu:=X
   have dx:Below w w b0:=iN bp I bp.size (fun q hq=>by simp at hq;omega)
   clear u m H F G V X O R U M I
   have m:=D
   clear D
   replace E:b<b0.heap.size:=(bO m).2.2
   refine (rO y6 2 2 0 ja jb jd je jp jq jr js _ g5 fu M6.out).mono ?_
   rintro _ cv ⟨⟨u1,u2,u3,u4,rfl,y⟩,A⟩
   rw [Q7.out] at y
   simp only [Q7.out]
   obtain ⟨ka,kp,rfl,_⟩:=aD.seg y.1
   obtain ⟨kb,kq,rfl,_⟩:=aG.seg y.2.1
   obtain ⟨kd,kr,rfl,_⟩:=cO.seg y.2.2.1
   obtain ⟨ke,ks,rfl,_⟩:=dV.seg y.2.2.2
   obtain ⟨V,X,O,R,U,M⟩:=iG y
   have bq:Below w w cv:=bT dx A
   replace m:=eP m A
   have ff:b<b0.heap.size:=E
   replace E:b<cv.heap.size:=(bO m).2.2
   clear A y
   obtain ⟨H,F,G⟩:=bO m
   go_wp2_with fail
   generalize u:World.setCell _ _ _=b1
   have I:cv.grownBy b1 (some b):=by rw [← u];exact zG
   have D:hp b1 b=some (.cells #[y7.ch.cap,y7.ch.sent,y7.ch.got,y7.ch.fin,.slice ka y7.ch.cells kp,.slice kb y7.ch.words kq,.slice kd y7.hands kr,.slice ke y7.deals ks,y7.now] 35):=by rw [← u];simp [gG,m,eZ]
   have g6:=gN (lI V (Nat.le_refl _) I O R U M (.inl ff)) I.size
   have fv:=X
   have dz:Below w w b1:=iN bq I bq.size (fun q hq=>by simp at hq;omega)
   clear u m H F G V X O R U M I
   have m:=D
   clear D
   replace E:b<b1.heap.size:=(bO m).2.2
   refine (BG y7 99 ka kb kd ke kp kq kr ks _ g6 fv M7.out).mono ?_
   rintro _ aq ⟨⟨u1,u2,u3,u4,rfl,y⟩,A⟩
   rw [Q8.out] at y
   simp only [Q8.out]
   obtain ⟨la,lp,rfl,_⟩:=aD.seg y.1
   obtain ⟨lb,lq,rfl,_⟩:=aG.seg y.2.1
   obtain ⟨ld,lr,rfl,_⟩:=cO.seg y.2.2.1
   obtain ⟨le,ls,rfl,_⟩:=dV.seg y.2.2.2
   obtain ⟨V,X,O,R,U,M⟩:=iG y
   have br:Below w w aq:=bT dz A
   replace m:=eP m A
   have fg:b<b1.heap.size:=E
   replace E:b<aq.heap.size:=(bO m).2.2
   clear A y
   obtain ⟨H,F,G⟩:=bO m
   have hc:((y8.deals.length:Int) == 3)=true:=by rw [F1.out];rfl
   have gl:0<y8.deals.length:=by rw [F1.out];omega
   have he:(0:Int)<(y8.deals.length:Int):=by omega
   obtain ⟨db,df,rfl,ep,er⟩:∃ b o,le=some ⟨b,o,none⟩∧b<aq.heap.size∧∀ i j,i<y8.deals.length→j<7→aq.cell? ⟨b,o+i*7+j,none⟩=some (p8 y8.deals i j):=by
    rcases V.2.2.2 with h0|h0
    ·omega
    ·exact h0
   have gu:b<db:=by have:=M _ rfl;simp at this;omega
   have c5:aq.cell? ⟨db,df+5,none⟩=some (.int .i64 3):=by
    have:=er 0 5 gl tO
    simp at this
    rw [this]
    show some ((gM (y8.deals.getD 0 De.zero)).getD 5 (.int .i64 0))=_
    rw [show (gM (y8.deals.getD 0 De.zero)).getD 5 (.int .i64 0)=.int .i64 (y8.deals.getD 0 De.zero).reply from rfl,F2.out]
   clear er
   have g7:=aA V
   clear V
   go_wp2_with fail
   generalize u:World.setCell _ _ _=cw
   have bf:aq.grownBy cw (some b):=by rw [← u];exact zG
   have D:hp cw b=some (.cells #[y8.ch.cap,y8.ch.sent,y8.ch.got,y8.ch.fin,.slice la y8.ch.cells lp,.slice lb y8.ch.words lq,.slice ld y8.hands lr,.slice (some ⟨db,df,none⟩) y8.deals ls,y8.now] 35):=by rw [← u];simp [gG,m,eZ]
   have c8:=gN (lI g7.out (Nat.le_refl _) bf O R U M (.inl fg)) bf.size
   have ea:Below w w cw:=iN br bf br.size (fun q hq=>by simp at hq;omega)
   clear u m H F G O R U M bf c5
   refine (wM y8.deals _ ls _ c8.2.2.2 (by have:=M8.out.2.2.2;omega)).mono ?_
   rintro _ ah ⟨⟨gv,rfl,OG⟩,ad⟩
   rw [F3.out] at OG
   obtain ⟨ga,gc,rfl,_⟩:=aG.seg OG
   have SG:=(aG.segz OG).1
   have eb:Below w w ah:=bT ea ad
   have d4:=gN (iU c8 (Nat.le_refl _) ad) ad.size
   replace D:=eP D ad
   clear ad OG c8
   obtain ⟨H,F,G⟩:=bO D
   go_wp2_with fail
   generalize u:World.alloc ah _=b2
   have cy:hp b2 ah=some (.cells #[.int .i64 7] 2):=by rw [← u];exact heap_alloc_new _ _
   have a0:Below ah ah b2:=by rw [← u];exact aS _ _
   clear u
   have ed:Below w w b2:=bT eb a0
   have d5:=gN (iU d4 (Nat.le_refl _) a0) a0.size
   have SQ:Seg b2 b2 (some ⟨ah,0,none⟩) ([7]:List Int).length 1 (jT [7]):=.inr ⟨_,0,rfl,(bO cy).2.2,fun i j hi hj=>by
    have h1:i=0:=by simp at hi;omega
    have h2:j=0:=by omega
    subst h1
    subst h2
    simpa [jT] using (bO cy).1 0⟩
   replace D:=eP D a0
   clear H F G d4
   obtain ⟨H,F,G⟩:=bO D
   refine (oO [7] ga (some ⟨ah,0,none⟩) gc 1 _ ((SG.below a0).more a0.size) SQ (by unfold maxLen;simp)).mono ?_
   rintro _ gq ⟨rfl,ae⟩
   have ee:Below w w gq:=bT ed ae
   have be:=gN (iU d5 (Nat.le_refl _) ae) ae.size
   replace D:=eP D ae
   clear ae a0 SQ SG cy H F G d5
   obtain ⟨H,F,G⟩:=bO D
   go_wp2_with fail
   refine (BH y8 la lb ld _ lp lq lr ls _ be.1 X.1 be.2.1 X.2.1 be.2.2.1 be.2.2.2 (by have:=M8.out.1;omega) (by have:=M8.out.2.2.1;omega) (by have:=M8.out.2.2.2;omega)).mono ?_
   rintro _ gr ⟨rfl,em⟩
   rw [F4.out]
   have ef:Below w w gr:=bT ee em
   go_wp2
   go_ret
   exact ⟨rfl,ef⟩
 ·go_simp
  refine hK.out (upd s 39 (.bool T)) _ _ (by simp [aC] <;> rfl) (kA (kX (fun _=>rfl) id) z.out)
 ·go_simp
  refine hK.out (upd s 40 (.bool T)) _ _ (by simp [aC] <;> rfl) (kB (kX (fun _=>rfl) id) z.out)
 ·have e0:=(z.out.2.1 (L 0 rfl))
  have e1:=(z.out.2.2.1 (L 1 rfl))
  go_simp
  refine hK.out (upd s 41 (.bool false)) _ _ (by simp [aC,e0,e1] <;> rfl) (kB (kA (kX (fun _=>rfl) id)) z.out)
 ·have e2:=(z.out.2.2.2.1 (L 2 rfl))
  go_simp
  refine hK.out (upd s 42 (.bool false)) _ _ (by simp [aC,e2] <;> rfl) (kC (kX (fun _=>rfl) id) z.out)
 ·have e3:=(z.out.2.2.2.2.1 (L 3 rfl))
  obtain ⟨xq,fq,lq⟩:=bO (eP b8 z.out.1)
  go_simp
  refine hK.out (upd s 43 (.agg #[Y.ch.cap,Y.ch.sent,Y.ch.got,Y.ch.fin,.slice ya Y.ch.cells yp,.slice yb Y.ch.words yq,.slice yd Y.hands yr,.slice ye Y.deals ys,Y.now])) _ _ (by simp [aC,e3] <;> rfl) (kC (kA (kX (fun _=>rfl) id)) z.out)
 ·have e3:=(z.out.2.2.2.2.1 (L 3 rfl))
  obtain ⟨xq,fq,lq⟩:=bO (eP c7 z.out.1)
  go_simp
  refine hK.out (upd s 44 (.agg #[Y.ch.cap,Y.ch.sent,Y.ch.got,Y.ch.fin,.slice va Y.ch.cells vp,.slice vb Y.ch.words vq,.slice vd Y.hands vr,.slice ve Y.deals vs,Y.now])) _ _ (by simp [aC,e3] <;> rfl) (kC (kB (kX (fun _=>rfl) id)) z.out)
 ·have e4:=((jC z.out).2.1 (L 4 rfl))
  have e5:=((jC z.out).2.2.1 (L 5 rfl))
  have e3:=(z.out.2.2.2.2.1 (L 3 rfl))
  go_simp
  go_at_call 24
  refine (xX Y ya yb yd ye va vb vd ve yp yq yr ys vp vq vr vs _ (gN (iU c9 (Nat.le_refl _) z.out.1) (Below.size z.out.1)) (gN (iU d7 (Nat.le_refl _) z.out.1) (Below.size z.out.1)) LY).mono ?_
  rintro _ wy ⟨rfl,hE⟩
  refine hK.out (upd s 45 (.bool true)) _ _ (by simp [aC,e4,e5,e3] <;> rfl) (kX (bT z.out.1 hE) (kC (kB (kX (fun _=>rfl) (kX (nU (hn 7 rfl)) (kX (nU (hn 8 rfl)) (kX (nU (hn 9 rfl)) (kX (nU (hn 10 rfl)) (kX (nU (hn 11 rfl)) (kX (nU (hn 12 rfl)) (kX (nU (hn 13 rfl)) (kX (nU (hn 14 rfl)) (kX (nU (hn 15 rfl)) (fun _=>nU (hn 16 rfl)))))))))))))) z.out)
 ·have e6:=((jC z.out).2.2.2.1 (L 6 rfl))
  have e3:=(z.out.2.2.2.2.1 (L 3 rfl))
  go_simp
  refine hK.out (upd s 46 (.bool false)) _ _ (by simp [aC,e6,e3] <;> rfl) (kD (kX (fun _=>rfl) id) z.out)
 ·have e3:=(z.out.2.2.2.2.1 (L 3 rfl))
  have e7:=((jD z.out).1 (L 7 rfl))
  go_simp
  refine hK.out (upd s 47 (.bool false)) _ _ (by simp [aC,e3,e7] <;> rfl) (kD (kA (kX (fun _=>rfl) id)) z.out)
 ·have e8:=((jD z.out).2.1 (L 8 rfl))
  go_simp
  refine hK.out (upd s 48 (.bool false)) _ _ (by simp [aC,e8] <;> rfl) (kD (kB (kX (fun _=>rfl) id)) z.out)
 ·have e9:=((jD z.out).2.2.1 (L 9 rfl))
  obtain ⟨xq,fq,lq⟩:=bO (eP bc z.out.1)
  go_simp
  refine hK.out (upd s 49 (.agg #[p.ch.cap,p.ch.sent,p.ch.got,p.ch.fin,.slice pa p.ch.cells pp,.slice pb p.ch.words pq,.slice pd p.hands pr,.slice pe p.deals ps,p.now])) _ _ (by simp [aC,e9] <;> rfl) (kD (kB (kA (kX (fun _=>rfl) id))) z.out)
 ·have g8:=((jD z.out).2.2.2.1 (L 10 rfl))
  have e9:=((jD z.out).2.2.1 (L 9 rfl))
  go_simp
  refine (cz.out p pa pb pd pe pp pq pr ps _ (gN (iU am (Nat.le_refl _) z.out.1) (Below.size z.out.1)) NP LP).mono ?_
  rintro _ wy ⟨⟨lv,rfl,OL⟩,hE⟩
  obtain ⟨la,lc,rfl,_⟩:=aG.seg OL
  refine hK.out (upd s 50 (.slice la (fT p).length lc)) _ _ (by simp [aC,g8,e9] <;> rfl) (kX (bT z.out.1 hE) (kD (kB (kA (kX (fun _=>⟨la,lc,rfl,aH OL (Below.size z.out.1)⟩) (kA (kX (fun h=>(let ⟨u1,u2,u3,u4⟩:=((jC (jD z.out)).2.2.1 h);⟨u1,u2,u3,own_below u4 hE⟩)) (kX (nU (hn 14 rfl)) (kX (nU (hn 15 rfl)) (fun _=>nU (hn 16 rfl)))))))))) z.out)
 ·have e9:=((jD z.out).2.2.1 (L 9 rfl))
  obtain ⟨xq,fq,lq⟩:=bO (eP bc z.out.1)
  go_simp
  refine hK.out (upd s 51 (.agg #[p.ch.cap,p.ch.sent,p.ch.got,p.ch.fin,.slice pa p.ch.cells pp,.slice pb p.ch.words pq,.slice pd p.hands pr,.slice pe p.deals ps,p.now])) _ _ (by simp [aC,e9] <;> rfl) (kD (kC (kA (kX (fun _=>rfl) id))) z.out)
 ·have ge:=((jC (jD z.out)).2.1 (L 12 rfl))
  have e9:=((jD z.out).2.2.1 (L 9 rfl))
  go_simp
  go_at_call 26
  refine (qX p pa pb pd pe pp pq pr ps _ (gN (iU am (Nat.le_refl _) z.out.1) (Below.size z.out.1)).1 NP.1 (gN (iU am (Nat.le_refl _) z.out.1) (Below.size z.out.1)).2.1 NP.2.1 (gN (iU am (Nat.le_refl _) z.out.1) (Below.size z.out.1)).2.2.1 (gN (iU am (Nat.le_refl _) z.out.1) (Below.size z.out.1)).2.2.2 (by have:=LP.1;omega) (by have:=LP.2.2.1;omega) (by have:=LP.2.2.2;omega)).mono ?_
  rintro _ wy ⟨⟨lv,rfl,OL⟩,hE⟩
  obtain ⟨la,lc,rfl,_⟩:=aG.seg OL
  refine hK.out (upd s 52 (.slice la (fT p).length lc)) _ _ (by simp [aC,ge,e9] <;> rfl) (kX (bT z.out.1 hE) (kD (kB (kA (kX (fun h=>(let ⟨u1,u2,u3,u4⟩:=((jC (jD z.out)).1 h);⟨u1,u2,u3,own_below u4 hE⟩)) (kA (kX (fun _=>⟨la,lc,rfl,aH OL (Below.size z.out.1)⟩) (kX (nU (hn 14 rfl)) (kX (nU (hn 15 rfl)) (fun _=>nU (hn 16 rfl)))))))))) z.out)
 ·have e9:=((jD z.out).2.2.1 (L 9 rfl))
  obtain ⟨la,lc,g9,fw⟩:=((jC (jD z.out)).1 (L 11 rfl))
  obtain ⟨lb,ld,gg,fx⟩:=((jC (jD z.out)).2.2.1 (L 13 rfl))
  go_simp
  go_at_call 25
  refine (oO (fT p) la lb lc ld _ (aG.segz fw).1 (aG.segz fx).1 gm).mono ?_
  rintro _ wy ⟨rfl,hE⟩
  refine hK.out (upd s 53 (.bool true)) _ _ (by simp [aC,e9,g9,gg] <;> rfl) (kX (bT z.out.1 hE) (kD (kB (kA (kX (fun h=>(let ⟨u1,u2,u3,u4⟩:=((jC (jD z.out)).1 h);⟨u1,u2,u3,own_below u4 hE⟩)) (kA (kX (fun h=>(let ⟨u1,u2,u3,u4⟩:=((jC (jD z.out)).2.2.1 h);⟨u1,u2,u3,own_below u4 hE⟩)) (kX (fun _=>rfl) (kX (nU (hn 15 rfl)) (fun _=>nU (hn 16 rfl)))))))))) z.out)
 ·have gh:=((jC (jD z.out)).2.2.2.1 (L 14 rfl))
  have e9:=((jD z.out).2.2.1 (L 9 rfl))
  go_simp
  refine hK.out (upd s 54 (.bool false)) _ _ (by simp [aC,gh,e9] <;> rfl) (kE (kX (fun _=>rfl) id) z.out)
 ·have e9:=((jD z.out).2.2.1 (L 9 rfl))
  have gi:=((jE z.out).1 (L 15 rfl))
  go_simp
  refine hK.out (upd s 55 (.bool false)) _ _ (by simp [aC,e9,gi] <;> rfl) (kE (kA (fun _=>fun _=>rfl)) z.out)
end Go.Proofs.YtffhjmepfojhnaaGreat
