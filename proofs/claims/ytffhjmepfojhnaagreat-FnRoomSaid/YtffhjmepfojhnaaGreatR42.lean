/-
  FnRoom returns true for every list of bytes that it is called with, and turns nothing; no condition.
-/
import Derived.Test.YtffhjmepfojhnaaGreatR39
import Derived.Test.YtffhjmepfojhnaaGreatR41
import Derived.Test.YtffhjmepfojhnaaGreatR31
import Derived.Test.YtffhjmepfojhnaaGreatR37
import Derived.Test.YtffhjmepfojhnaaGreatR34
import Derived.Test.YtffhjmepfojhnaaGreatR33
import Derived.Test.YtffhjmepfojhnaaGreatR35
import Derived.Test.YtffhjmepfojhnaaGreatR36
import Derived.Test.YtffhjmepfojhnaaGreatRows
import Derived.Test.YtffhjmepfojhnaaGreatR01
import Derived.ProofKit
import Derived.OpenShut
import Derived.ShutString
import Derived.ChangeOld
import Derived.Deep.Slices
import Derived.Deep.Fields
set_option maxRecDepth 100000
set_option maxHeartbeats 16000000
set_option linter.unusedSimpArgs false
set_option linter.unusedVariables false
namespace Go.Proofs.YtffhjmepfojhnaaGreat
section
open Go.RowKit
attribute [local simp] aC
attribute [local go_sem ↓] aB aL aM fe au
attribute [local go_sem] eB
end
section
open Go.RowKit
attribute [local simp] aC
theorem oL {w:World} {lo n p k:Nat} {a:Option Addr} {f:Nat→Nat→Value} (h:New w lo (.slice a n p) n k f) (e:a=none):n=0∧p=0:=by
 rcases h with ⟨h,h0⟩|⟨g,cap,h,_⟩
 ·simp at h;exact ⟨h0,h.2.2⟩
 ·rw [e] at h;simp at h
theorem ES {w:World} {lo hi:Nat} {x:Wo} {a b d e:Option Addr} {p q r s:Nat} (h:Gu w lo hi x a b d e p q r s):kT x a b d e p q r s:=⟨fun e=>(oL h.1.1 e).2,fun e=>(oL h.1.2.1 e).2,oL h.1.2.2.1,oL h.1.2.2.2⟩
theorem Ql {k r:Nat} (h:k<r) (hr:r≤4):k≤5:=by omega
theorem zQ {k:Nat} (h:k≤5):wrap64 (10+(k:Int))=10+(k:Int)∧IntKind.i64.wrap (10+(k:Int))=10+(k:Int):=⟨IntWalk.wrap64_in _ tO,IntWalk.i64_in _ tO⟩
theorem Lc {k:Nat} (h:k≤5):wrap64 ((k:Int)+1)=(k:Int)+1∧IntKind.i64.wrap ((k:Int)+1)=(k:Int)+1:=⟨IntWalk.wrap64_in _ tO,IntWalk.i64_in _ tO⟩
theorem S9 {r:Nat} (hr:r≤4):r≤5:=by omega
theorem NP {k r:Nat} (h:k<r):r - (intOf (Value.int .i64 ((k:Int)+1))).toNat<r - (intOf (Value.int .i64 (k:Int))).toNat:=by simp [intOf];omega
theorem Qm {k r:Nat} (h:k<r+1) (hr:r≤4):k≤5:=by omega
theorem Qn {x:Wo} (m:lJ x):x.ch.cells.length≤maxLen∧x.ch.words.length≤maxLen:=by have:=m.1;have:=m.2.1;unfold maxLen;omega
theorem sF {x:Wo} (m:lJ x):(eU x).length≤1099511627776:=by
 have h:=m.2.2.1
 unfold eU
 split
 ·have:=qj x x.hands.length
  omega
 ·simp
theorem ky {x:Wo} (h:bJ x=true):lJ x:=EP ((EC x).1 h)
def BW (w:World) (b:Nat) (y:Wo):Prop:=∃ (a b' d e:Option Addr) (p q r s:Nat),LB w b y a b' d e p q r s
theorem iM.lists {w w':World} {y:Wo} {t:Value} {r:Ending} (h:iM w w' y t r) (m:lJ y):(∃ (a b d e:Option Addr) (p q r' s:Nat),r=.returned (.tuple #[.agg #[.int .i64 y.ch.cap,.int .i64 y.ch.sent,.int .i64 y.ch.got,.int .i64 y.ch.fin,.slice a y.ch.cells.length p,.slice b y.ch.words.length q,.slice d y.hands.length r',.slice e y.deals.length s,.int .i64 y.now],t])∧iG w' w'.heap.size y a b d e∧kT y a b d e p q r' s∧(Hi w.heap.size a∧Hi w.heap.size b∧Hi w.heap.size d∧Hi w.heap.size e))∧Below w.heap.size w w':=by
 obtain ⟨⟨u1,u2,u3,u4,rfl,HO⟩,hb⟩:=h
 obtain ⟨a,p,rfl,_⟩:=ag.seg HO.1
 obtain ⟨b,q,rfl,_⟩:=ai.seg HO.2.1
 obtain ⟨d,r',rfl,_⟩:=gG.seg HO.2.2.1
 obtain ⟨e,s,rfl,_⟩:=jb.seg HO.2.2.2
 obtain ⟨SO,NO,i⟩:=La HO
 exact ⟨⟨a,b,d,e,p,q,r',s,rfl,SO,NO,i⟩,hb⟩
theorem Cr (l:List Int) (x:Int) (a:Option Addr) (c:Nat) (w:World) (h:eQ w w.heap.size a l) (hm:l.length≤1099511627776) :
  Calls Tryz.prog 15 #[.slice a l.length c,.int .i64 x] w fun r w'=>r=.returned (.bool (l.contains x))∧Below w.heap.size w w':=by
 have HS:=Lib.hid h
 clear h
 go_enter Tryz.func15,Tryz.ntmps15
 go_wp2_with fail
 go_loopw [5] (fun i wr=>∃ m:Nat,m≤l.length∧i=.int .i64 m∧Hid ((l.take m).contains x=false)∧Below w.heap.size w wr) (fun i _=>l.length - (intOf i).toNat)
 case atStart=>exact ⟨0,Nat.zero_le _,rfl,rfl,Below.refl _ _⟩
 case round =>
  obtain ⟨m,hk,rfl,hall,hB⟩:=hrel
  by_cases hlt:m<l.length
  ·obtain h0'|⟨b,o,rfl,hb,hc⟩:=HS.out
   ·omega
   have c0:=(hB.cell (p:=⟨b,o+m*1+0,none⟩) hb).trans (hc m 0 hlt tO)
   simp only [gX,Nat.add_zero,Nat.mul_one] at c0
   clear hc
   have hsn:=fK l m 0 hlt
   generalize l.getD m 0=y at *
   have HN:=Lib.hid hsn
   clear hsn
   have hk0:(0:Int)≤(m:Int):=by omega
   have hk1:(m:Int)<(l.length:Int):=by omega
   cases he:(y == x) with
   | true =>
    go_wp2
    go_ret
    exact ⟨bF (by symm;simp only [beq_iff_eq] at he;subst he;rw [List.contains_iff_mem,← List.take_append_drop (m+1) l,HN.out];simp),hB⟩
   | false =>
    go_wp2
    go_roundw
    case rel=>exact ⟨m+1,by omega,by go_num,(by show (l.take (m+1)).contains x=false;rw [HN.out];have h1:=hall.out;simp at h1 he ⊢;exact ⟨h1,fun e=>he e.symm⟩),by exact zB⟩
    case measure=>simp [intOf];omega
  ·have:m=l.length:=by omega
   subst this
   go_wp2
   go_ret
   exact ⟨bF (by have:=hall.out;rw [List.take_length] at this;rw [this]),hB⟩
theorem ET (n cap:Nat) (a:Option Addr) (bs:Nat→Int) (w:World) (hbs:∀ j,0≤bs j∧bs j≤255) (h:Seg w w.heap.size a n 1 (fun j _=>.int .u8 (bs j))) :
  Calls Tryz.prog 3 #[.slice a n cap] w fun r w'=>r=.returned (.bool true)∧Below w.heap.size w w':=by
 have HB:=Lib.hid hbs
 have HS:=Lib.hid h
 clear hbs h
 by_cases hn:(4096:Int)<(n:Int)
 ·go_enter Tryz.func3,Tryz.ntmps3
  go_wp2_with fail
  refine (FQ _ _ _ _).mono ?_
  rintro _ _ ⟨rfl,rfl⟩
  go_wp2
  go_ret
  exact ⟨rfl,Below.refl _ _⟩
 have HC:Hid (Code w w.heap.size a n bs):=⟨by omega,HB.out,HS.out⟩
 clear HB HS
 go_enter Tryz.func3,Tryz.ntmps3
 go_wp2_with fail
 refine (FQ _ _ _ _).mono ?_
 rintro _ _ ⟨rfl,rfl⟩
 go_wp2_with fail
 refine ax w zB fun bb=>?_
 refine (Lb _ _ _ bs 3 _ ((HC.out.below bb).more bb.size)).mono ?_
 rintro _ w1 ⟨gd,rfl,hD1,hb1⟩
 have TL:Below w.heap.size w w1:=bT bb hb1
 have Qo:w.heap.size≤gd:=Nat.le_trans bb.size hD1.le
 clear hb1 bb HC
 go_wp2_with fail
 refine (I8 _ gd 5 _ hD1 tO tO).mono ?_
 rintro _ w2 ⟨⟨room,rfl,hr0,hr4⟩,_,hg2⟩
 have hC2:Below w.heap.size w w2:=bG TL hg2 Qo
 clear hD1 hg2 Qo
 obtain ⟨r,rfl,hr⟩:∃ r:Nat,room=(r:Int)∧r≤4:=⟨room.toNat,by omega,by omega⟩
 have RF:=Lib.hid (EO hr)
 go_wp2_with fail
 refine (wG r 3 _).mono ?_
 rintro _ w3 ⟨⟨na,nb,nd,ne,np,nq,nr,ns,rfl,NW,_⟩,hb3⟩
 simp only [gK]
 have QQ:Below w.heap.size w w3:=bT hC2 hb3
 have t1:=RF.out.is
 have M0:=Lib.hid (ky RF.out.s0)
 obtain ⟨y0,hy0⟩:∃ y0,Hid (Cx r 0=y0):=⟨_,rfl⟩
 rw [hy0.out] at M0
 have SA:(jg (r:Int) 3).1=y0:=hy0.out
 rw [SA] at NW
 simp only [SA,t1]
 clear SA t1 hb3
 have S3:=Gu.seg (w':=w3) NW
 have N3:=ES NW
 clear NW
 go_wp2_with fail
 generalize hwb:World.alloc w3 _=w4
 have gB:hp w4 w3.heap.size=some (.cells #[.int .i64 y0.ch.cap,.int .i64 y0.ch.sent,.int .i64 y0.ch.got,.int .i64 y0.ch.fin,.slice na y0.ch.cells.length np,.slice nb y0.ch.words.length nq,.slice nd y0.hands.length nr,.slice ne y0.deals.length ns,.int .i64 y0.now] 35):=by rw [← hwb];exact heap_alloc_new _ _
 have hb4:Below w3.heap.size w3 w4:=by rw [← hwb];exact aQ _ _
 clear hwb
 have Pk:Below w.heap.size w w4:=bT QQ hb4
 obtain ⟨b,hbv⟩:∃ b,b=w3.heap.size:=⟨_,rfl⟩
 have TM:BW w4 b (Cx r 0):=by rw [hbv,hy0.out];exact ⟨na,nb,nd,ne,np,nq,nr,ns,gB,jS (pM S3 (Nat.le_refl _) hb4) hb4.size,N3,M0.out⟩
 rw [← hbv]
 have hbw:w.heap.size≤b:=by have:=QQ.size;omega
 clear gB hb4 S3 N3 M0 hy0 hbv TL hC2 QQ
 go_loopw [7] (fun i wr=>∃ k:Nat,k≤r∧i=.int .i64 k∧BW wr b (Cx r k)∧Below w.heap.size w wr) (fun i _=>r - (intOf i).toNat)
 case atStart=>exact ⟨0,Nat.zero_le _,rfl,TM,Pk⟩
 case round =>
  clear TM Pk
  obtain ⟨k,hk,rfl,⟨va,vb,vd,ve,vp,vq,vr,vs,L0⟩,ll⟩:=hrel
  by_cases hlt:k<r
  ·obtain ⟨y1,y2,q1,q2,q3,m1,m2,f1,f2⟩:=RF.out.snd k hlt
   have Q1:=Lib.hid q1
   have Q2:=Lib.hid q2
   have Q3:=Lib.hid q3
   have M1:=Lib.hid (ky m1)
   have M2:=Lib.hid (ky m2)
   have F1:=Lib.hid f1
   have F2:=Lib.hid f2
   clear q1 q2 q3 m1 m2 f1 f2
   obtain ⟨y0,hy0⟩:∃ y0,Hid (Cx r k=y0):=⟨_,rfl⟩
   rw [hy0.out] at L0 Q1
   clear hy0
   have gB:=L0.box
   have hbl:=(bO gB).2.2
   obtain ⟨kU,kV,kW⟩:=bO gB
   have hk1:decide ((k:Int)<(r:Int))=true:=by simp;omega
   obtain ⟨hw1,hw2⟩:=zQ (Ql hlt hr)
   go_wp2_with fail
   refine (nL y0 0 1 (10+(k:Int)) va vb vd ve vp vq vr vs _ L0.seg L0.non L0.len).mono ?_
   rintro _ Ke iQ
   rw [Q1.out] at iQ
   obtain ⟨⟨TP,TQ,TR,TS,cap,TU,TV,TW,rfl,TY,WJ,i1,i2,i3,i4⟩,hbk⟩:=iM.lists iQ M1.out
   have Qp:Below w.heap.size w Ke:=bT ll hbk
   replace gB:=dS gB hbk
   clear iQ hbk
   clear kU kV kW L0 hw1 hw2
   have hw3:b<Ke.heap.size:=(bO gB).2.2
   go_wp2_with fail
   generalize hwb:World.alloc Ke _=QS
   have qV:hp QS Ke.heap.size=some (.cells #[.int .i64 y1.ch.cap,.int .i64 y1.ch.sent,.int .i64 y1.ch.got,.int .i64 y1.ch.fin,.slice TP y1.ch.cells.length cap,.slice TQ y1.ch.words.length TU,.slice TR y1.hands.length TV,.slice TS y1.deals.length TW,.int .i64 y1.now] 35):=by rw [← hwb];exact heap_alloc_new _ _
   have hbk:Below Ke.heap.size Ke QS:=by rw [← hwb];exact aQ _ _
   have SB:Below w.heap.size w QS:=bT Qp hbk
   have TZ:=jS (pM TY (Nat.le_refl _) hbk) hbk.size
   replace gB:=dS gB hbk
   clear hwb hbk TY i1 i2 i3 i4
   obtain ⟨c,hcv⟩:∃ c,c=Ke.heap.size:=⟨_,rfl⟩
   have hbc:b<c:=by omega
   rw [← hcv] at qV ⊢
   have hcl:c<QS.heap.size:=(bO qV).2.2
   have hcw:w.heap.size≤c:=by have:=Qp.size;omega
   clear hcv
   obtain ⟨kU,kV,kW⟩:=bO qV
   go_wp2_with fail
   refine (lQ y1 0 99 TP TQ TR TS cap TU TV TW _ TZ WJ M1.out).mono ?_
   rintro _ Ua iQ
   rw [Q2.out] at iQ
   obtain ⟨⟨Ub,Uc,Ud,Ue,Uf,Ug,Uh,Ui,rfl,Uj,WK,i1,i2,i3,i4⟩,hbk⟩:=iM.lists iQ M2.out
   have Qq:Below w.heap.size w Ua:=bT SB hbk
   replace gB:=dS gB hbk
   replace qV:=dS qV hbk
   clear iQ hbk
   clear kU kV kW TZ
   obtain ⟨kU,kV,kW⟩:=bO qV
   go_upto_region 11 with fail
   generalize hwb:World.setCell _ _ _=OJ
   have gb:Ua.grownBy OJ (some c):=by rw [← hwb];exact zG
   have sP:hp OJ c=some (.cells #[.int .i64 y2.ch.cap,.int .i64 y2.ch.sent,.int .i64 y2.ch.got,.int .i64 y2.ch.fin,.slice Ub y2.ch.cells.length Uf,.slice Uc y2.ch.words.length Ug,.slice Ud y2.hands.length Uh,.slice Ue y2.deals.length Ui,.int .i64 y2.now] 35):=by rw [← hwb];simp [fF,qV,eO]
   have Uk:=jS (qR Uj (Nat.le_refl _) gb i1 i2 i3 i4 (.inl hcl)) gb.size
   have Qr:Below w.heap.size w OJ:=iE Qq gb Qq.size (fun q hq=>by simp at hq;omega)
   replace gB:=(dB gb (bO gB).2.2 (by simp;omega)).trans gB
   clear hwb qV kU kV kW  gb Uj
   have qV:=sP
   clear sP
   obtain ⟨kU,kV,kW⟩:=bO qV
   have hlen:y2.deals.length=k+1:=F1.out
   obtain ⟨eb,eo,rfl,WL,OM⟩:∃ b o,Ue=some ⟨b,o,none⟩∧b<OJ.heap.size∧(∀ i j,i<y2.deals.length→j<7→OJ.cell? ⟨b,o+i*7+j,none⟩=some (nW y2.deals i j)):=by
    rcases Uk.2.2.2 with h0|h0
    ·omega
    ·exact h0
   have XC:OJ.cell? ⟨eb,eo+k*7+5,none⟩=some (.int .i64 1):=by
    rw [OM k 5 tO tO]
    show some ((iY (y2.deals.getD k De.zero)).getD 5 (.int .i64 0))=_
    simp only [iY]
    rw [F2.out]
    rfl
   have hne:((y2.deals.length:Int) != (k:Int)+1)=false:=by rw [hlen];simp
   have hi0:(0:Int)≤(k:Int):=by omega
   have hi1:(k:Int)<(y2.deals.length:Int):=by omega
   obtain ⟨hw1,hw2⟩:=Lc (Ql hlt hr)
   clear OM hlen F1 F2
   obtain ⟨QE,R4,QF⟩:=bO gB
   go_wp2_with fail
   generalize hwb:World.setCell _ _ _=SC
   have gb:OJ.grownBy SC (some b):=by rw [← hwb];exact zG
   have sP:hp SC b=some (.cells #[.int .i64 y2.ch.cap,.int .i64 y2.ch.sent,.int .i64 y2.ch.got,.int .i64 y2.ch.fin,.slice Ub y2.ch.cells.length Uf,.slice Uc y2.ch.words.length Ug,.slice Ud y2.hands.length Uh,.slice (some ⟨eb,eo,none⟩) y2.deals.length Ui,.int .i64 y2.now] 35):=by rw [← hwb];simp [fF,gB,eO]
   have WM:=jS (qR Uk (Nat.le_refl _) gb i1 i2 i3 i4 (.inl (Nat.lt_trans hbc hcl))) gb.size
   have SE:Below w.heap.size w SC:=iE Qr gb Qr.size (fun q hq=>by simp at hq;omega)
   clear hwb
   exact ⟨⟨k+1,Nat.succ_le_of_lt hlt,by go_num,by rw [Q3.out];exact ⟨_,_,_,_,_,_,_,_,sP,WM,WK,M2.out⟩,SE⟩,NP hlt⟩
  ·obtain rfl:k=r:=by omega
   obtain ⟨y1,y2,q1,q2,q3,m1,m2,f1,f2⟩:=RF.out.mid
   have Q1:=Lib.hid q1
   have Q2:=Lib.hid q2
   have Q3:=Lib.hid q3
   have M1:=Lib.hid (ky m1)
   have M2:=Lib.hid (ky m2)
   have F1:=Lib.hid f1
   have F2:=Lib.hid f2
   clear q1 q2 q3 m1 m2 f1 f2
   obtain ⟨y0,hy0⟩:∃ y0,Hid (Cx k k=y0):=⟨_,rfl⟩
   rw [hy0.out] at L0 Q1
   clear hy0
   have gB:=L0.box
   have hbl:=(bO gB).2.2
   obtain ⟨kU,kV,kW⟩:=bO gB
   have hk1:decide ((k:Int)<(k:Int))=false:=by simp
   obtain ⟨hw1,hw2⟩:=zQ (S9 hr)
   go_wp2_with fail
   refine (nL y0 1 1 (10+(k:Int)) va vb vd ve vp vq vr vs _ L0.seg L0.non L0.len).mono ?_
   rintro _ w16 iQ
   rw [Q1.out] at iQ
   obtain ⟨⟨Ul,Um,Un,Uo,Uq,Ur,Us,Ut,rfl,Uu,WN,i1,i2,i3,i4⟩,hbk⟩:=iM.lists iQ M1.out
   have OO:Below w.heap.size w w16:=bT ll hbk
   replace gB:=dS gB hbk
   clear iQ hbk
   clear kU kV kW L0 hw1 hw2
   obtain ⟨kU,kV,kW⟩:=bO gB
   go_wp2_with fail
   generalize hwb:World.setCell _ _ _=SF
   have gb:w16.grownBy SF (some b):=by rw [← hwb];exact zG
   have sP:hp SF b=some (.cells #[.int .i64 y1.ch.cap,.int .i64 y1.ch.sent,.int .i64 y1.ch.got,.int .i64 y1.ch.fin,.slice Ul y1.ch.cells.length Uq,.slice Um y1.ch.words.length Ur,.slice Un y1.hands.length Us,.slice Uo y1.deals.length Ut,.int .i64 y1.now] 35):=by rw [← hwb];simp [fF,gB,eO]
   have Uv:=jS (qR Uu (Nat.le_refl _) gb i1 i2 i3 i4 (.inl hbl)) gb.size
   have Qs:Below w.heap.size w SF:=iE OO gb OO.size (fun q hq=>by simp at hq;omega)
   clear hwb gB kU kV kW i1 i2 i3 i4 gb Uu
   have gB:=sP
   clear sP
   replace hbl:=(bO gB).2.2
   obtain ⟨kU,kV,kW⟩:=bO gB
   refine (lQ y1 1 99 Ul Um Un Uo Uq Ur Us Ut _ Uv WN M1.out).mono ?_
   rintro _ Uw iQ
   rw [Q2.out] at iQ
   obtain ⟨⟨SG,SH,Ux,Uy,SI,SK,Uz,U0,rfl,U1,SL,i1,i2,i3,i4⟩,hbk⟩:=iM.lists iQ M2.out
   have OP:Below w.heap.size w Uw:=bT Qs hbk
   replace gB:=dS gB hbk
   clear iQ hbk
   clear kU kV kW Uv
   obtain ⟨kU,kV,kW⟩:=bO gB
   go_wp2_with fail
   generalize hwb:World.setCell _ _ _=SN
   have gb:Uw.grownBy SN (some b):=by rw [← hwb];exact zG
   have sP:hp SN b=some (.cells #[.int .i64 y2.ch.cap,.int .i64 y2.ch.sent,.int .i64 y2.ch.got,.int .i64 y2.ch.fin,.slice SG y2.ch.cells.length SI,.slice SH y2.ch.words.length SK,.slice Ux y2.hands.length Uz,.slice Uy y2.deals.length U0,.int .i64 y2.now] 35):=by rw [← hwb];simp [fF,gB,eO]
   have SQ:=jS (qR U1 (Nat.le_refl _) gb i1 i2 i3 i4 (.inl hbl)) gb.size
   have Qt:Below w.heap.size w SN:=iE OP gb OP.size (fun q hq=>by simp at hq;omega)
   clear hwb gB kU kV kW i1 i2 i3 i4 gb U1
   have gB:=sP
   clear sP
   replace hbl:=(bO gB).2.2
   obtain ⟨kU,kV,kW⟩:=bO gB
   refine (pJ y2 SG SH Ux Uy SI SK Uz U0 _ SQ SL M2.out).mono ?_
   rintro _ WQ ⟨⟨lv,rfl,OL⟩,hbk⟩
   obtain ⟨la,lc,rfl,_⟩:=ai.seg OL
   have sL:=(ai.segz OL).1
   clear OL
   have Qu:Below w.heap.size w WQ:=bT Qt hbk
   have U2:=jS (pM SQ (Nat.le_refl _) hbk) hbk.size
   replace gB:=dS gB hbk
   clear hbk SQ kU kV kW
   obtain ⟨kU,kV,kW⟩:=bO gB
   go_wp2_with fail
   refine (Cr (eU y2) 1 la lc _ sL (sF M2.out)).mono ?_
   rintro _ WR ⟨rfl,hbk⟩
   rw [F1.out]
   clear sL
   have Qv:Below w.heap.size w WR:=bT Qu hbk
   have QT:=jS (pM U2 (Nat.le_refl _) hbk) hbk.size
   replace gB:=dS gB hbk
   clear hbk U2 kU kV kW
   obtain ⟨kU,kV,kW⟩:=bO gB
   go_wp2_with fail
   refine (uW y2.ch SG SH SI SK _ QT.1 QT.2.1 (Qn M2.out).1 (Qn M2.out).2).mono ?_
   rintro _ U3 ⟨⟨kv,rfl,hN⟩,hbk⟩
   obtain ⟨ka,kc,rfl⟩:=uZ hN
   clear hN
   rw [F2.out]
   have Qw:Below w.heap.size w U3:=bT Qv hbk
   have U4:=jS (pM QT (Nat.le_refl _) hbk) hbk.size
   replace gB:=dS gB hbk
   clear hbk QT kU kV kW
   obtain ⟨kU,kV,kW⟩:=bO gB
   have hkk:((k:Int) != (k:Int))=false:=by simp
   have BX:BW U3 b (Cy k 0):=by rw [Q3.out];exact ⟨_,_,_,_,_,_,_,_,gB,U4,SL,M2.out⟩
   clear U4 SL M1 M2 F1 F2 Q1 Q2 Q3 gB kU kV kW hk1
   go_wp2_with fail
   go_loopw [10] (fun i wr=>∃ j:Nat,j≤k+1∧i=.int .i64 j∧BW wr b (Cy k j)∧Below w.heap.size w wr) (fun i _=>k+1 - (intOf i).toNat)
   case atStart=>exact ⟨0,Nat.zero_le _,rfl,BX,Qw⟩
   case round =>
    clear BX OO Qs OP Qt Qu Qv Qw ll
    obtain ⟨j,hj,rfl,⟨va,vb,vd,ve,vp,vq,vr,vs,L0⟩,ll⟩:=hrel
    by_cases hlt:j<k+1
    ·obtain ⟨y1,y2,y3,q1,q2,q3,q4,m1,m2,m3,f1,f2,f3,f4⟩:=RF.out.rcv j hlt
     have Q1:=Lib.hid q1
     have Q2:=Lib.hid q2
     have Q3:=Lib.hid q3
     have Q4:=Lib.hid q4
     have M1:=Lib.hid (ky m1)
     have M2:=Lib.hid (ky m2)
     have M3:=Lib.hid (ky m3)
     have F1:=Lib.hid f1
     have F2:=Lib.hid f2
     have F3:=Lib.hid f3
     have F4:=Lib.hid f4
     clear q1 q2 q3 q4 m1 m2 m3 f1 f2 f3 f4
     obtain ⟨y0,hy0⟩:∃ y0,Hid (Cy k j=y0):=⟨_,rfl⟩
     rw [hy0.out] at L0 Q1
     clear hy0
     have gB:=L0.box
     have hbl:=(bO gB).2.2
     obtain ⟨kU,kV,kW⟩:=bO gB
     have hk1:decide ((j:Int)≤(k:Int))=true:=by simp;omega
     go_wp2_with fail
     refine (nL y0 2 2 0 va vb vd ve vp vq vr vs _ L0.seg L0.non L0.len).mono ?_
     rintro _ OQ iQ
     rw [Q1.out] at iQ
     obtain ⟨⟨U5,U6,U7,U8,U9,UA,UB,UC,rfl,UD,WS,i1,i2,i3,i4⟩,hbk⟩:=iM.lists iQ M1.out
     have Qx:Below w.heap.size w OQ:=bT ll hbk
     replace gB:=dS gB hbk
     clear iQ hbk
     clear kU kV kW L0
     have hw3:b<OQ.heap.size:=(bO gB).2.2
     go_wp2_with fail
     generalize hwb:World.alloc OQ _=QU
     have qV:hp QU OQ.heap.size=some (.cells #[.int .i64 y1.ch.cap,.int .i64 y1.ch.sent,.int .i64 y1.ch.got,.int .i64 y1.ch.fin,.slice U5 y1.ch.cells.length U9,.slice U6 y1.ch.words.length UA,.slice U7 y1.hands.length UB,.slice U8 y1.deals.length UC,.int .i64 y1.now] 35):=by rw [← hwb];exact heap_alloc_new _ _
     have hbk:Below OQ.heap.size OQ QU:=by rw [← hwb];exact aQ _ _
     have SV:Below w.heap.size w QU:=bT Qx hbk
     have UE:=jS (pM UD (Nat.le_refl _) hbk) hbk.size
     replace gB:=dS gB hbk
     clear hwb hbk UD i1 i2 i3 i4
     obtain ⟨c,hcv⟩:∃ c,c=OQ.heap.size:=⟨_,rfl⟩
     have hbc:b<c:=by omega
     rw [← hcv] at qV ⊢
     have hcl:c<QU.heap.size:=(bO qV).2.2
     have hcw:w.heap.size≤c:=by have:=Qx.size;omega
     clear hcv
     obtain ⟨kU,kV,kW⟩:=bO qV
     go_wp2_with fail
     refine (lQ y1 2 99 U5 U6 U7 U8 U9 UA UB UC _ UE WS M1.out).mono ?_
     rintro _ UF iQ
     rw [Q2.out] at iQ
     obtain ⟨⟨UG,UH,UI,UJ,UK,UL,UM,UN,rfl,UO,WT,i1,i2,i3,i4⟩,hbk⟩:=iM.lists iQ M2.out
     have Qy:Below w.heap.size w UF:=bT SV hbk
     replace gB:=dS gB hbk
     replace qV:=dS qV hbk
     clear iQ hbk
     clear kU kV kW UE
     obtain ⟨kU,kV,kW⟩:=bO qV
     go_wp2_with fail
     generalize hwb:World.setCell _ _ _=SX
     have gb:UF.grownBy SX (some c):=by rw [← hwb];exact zG
     have sP:hp SX c=some (.cells #[.int .i64 y2.ch.cap,.int .i64 y2.ch.sent,.int .i64 y2.ch.got,.int .i64 y2.ch.fin,.slice UG y2.ch.cells.length UK,.slice UH y2.ch.words.length UL,.slice UI y2.hands.length UM,.slice UJ y2.deals.length UN,.int .i64 y2.now] 35):=by rw [← hwb];simp [fF,qV,eO]
     have UQ:=jS (qR UO (Nat.le_refl _) gb i1 i2 i3 i4 (.inl hcl)) gb.size
     have SY:Below w.heap.size w SX:=iE Qy gb Qy.size (fun q hq=>by simp at hq;omega)
     replace gB:=(dB gb (bO gB).2.2 (by simp;omega)).trans gB
     clear hwb qV kU kV kW i1 i2 i3 i4 gb UO
     have qV:=sP
     clear sP
     replace hcl:=(bO qV).2.2
     obtain ⟨kU,kV,kW⟩:=bO qV
     refine (lQ y2 1 99 UG UH UI UJ UK UL UM UN _ UQ WT M2.out).mono ?_
     rintro _ UR iQ
     rw [Q3.out] at iQ
     obtain ⟨⟨UT,UU,UW,UX,UY,UZ,Va,Vb,rfl,Vd,WU,i1,i2,i3,i4⟩,hbk⟩:=iM.lists iQ M3.out
     have Qz:Below w.heap.size w UR:=bT SY hbk
     replace gB:=dS gB hbk
     replace qV:=dS qV hbk
     clear iQ hbk
     clear kU kV kW UQ
     obtain ⟨kU,kV,kW⟩:=bO qV
     go_upto_region 24 with fail
     generalize hwb:World.setCell _ _ _=N9
     have gb:UR.grownBy N9 (some c):=by rw [← hwb];exact zG
     have sP:hp N9 c=some (.cells #[.int .i64 y3.ch.cap,.int .i64 y3.ch.sent,.int .i64 y3.ch.got,.int .i64 y3.ch.fin,.slice UT y3.ch.cells.length UY,.slice UU y3.ch.words.length UZ,.slice UW y3.hands.length Va,.slice UX y3.deals.length Vb,.int .i64 y3.now] 35):=by rw [← hwb];simp [fF,qV,eO]
     have Ve:=jS (qR Vd (Nat.le_refl _) gb i1 i2 i3 i4 (.inl hcl)) gb.size
     have Q0:Below w.heap.size w N9:=iE Qz gb Qz.size (fun q hq=>by simp at hq;omega)
     replace gB:=(dB gb (bO gB).2.2 (by simp;omega)).trans gB
     clear hwb qV kU kV kW  gb Vd
     have qV:=sP
     clear sP
     obtain ⟨kU,kV,kW⟩:=bO qV
     have hlen:y3.hands.length=3:=F1.out
     obtain ⟨eb,eo,rfl,WL,OM⟩:∃ b o,UW=some ⟨b,o,none⟩∧b<N9.heap.size∧(∀ i j,i<y3.hands.length→j<14→N9.cell? ⟨b,o+i*14+j,none⟩=some (fI y3.hands i j)):=by
      rcases Ve.2.2.1 with h0|h0
      ·omega
      ·exact h0
     have h20:N9.cell? ⟨eb,eo+28,none⟩=some (.int .i64 0):=by
      have e:=OM 2 0 tO tO
      rw [show fI y3.hands 2 0=.int .i64 (y3.hands.getD 2 Ha.zero).pos from rfl,F2.out] at e
      exact e
     have WV:N9.cell? ⟨eb,eo+28+13,none⟩=some (.int .i64 (10+(j:Int))):=by
      have e:=OM 2 13 tO tO
      rw [show fI y3.hands 2 13=.int .i64 (y3.hands.getD 2 Ha.zero).out from rfl,F3.out] at e
      exact e
     have h10:N9.cell? ⟨eb,eo+14,none⟩=some (.int .i64 0):=by
      have e:=OM 1 0 tO tO
      rw [show fI y3.hands 1 0=.int .i64 (y3.hands.getD 1 Ha.zero).pos from rfl,F4.out] at e
      exact e
     have hne:((y3.hands.length:Int) != 3)=false:=by rw [hlen];rfl
     have hi2:(2:Int)<(y3.hands.length:Int):=by omega
     have hi1:(1:Int)<(y3.hands.length:Int):=by omega
     have hjj:((10+(j:Int)) != (10+(j:Int)))=false:=by simp
     obtain ⟨hw1,hw2⟩:=zQ (Qm hlt hr)
     obtain ⟨hw4,lV⟩:=Lc (Qm hlt hr)
     clear OM hlen F1 F2 F3 F4
     obtain ⟨QE,R4,QF⟩:=bO gB
     go_wp2_with fail
     generalize hwb:World.setCell _ _ _=Ta
     have gb:N9.grownBy Ta (some b):=by rw [← hwb];exact zG
     have sP:hp Ta b=some (.cells #[.int .i64 y3.ch.cap,.int .i64 y3.ch.sent,.int .i64 y3.ch.got,.int .i64 y3.ch.fin,.slice UT y3.ch.cells.length UY,.slice UU y3.ch.words.length UZ,.slice (some ⟨eb,eo,none⟩) y3.hands.length Va,.slice UX y3.deals.length Vb,.int .i64 y3.now] 35):=by rw [← hwb];simp [fF,gB,eO]
     have WW:=jS (qR Ve (Nat.le_refl _) gb i1 i2 i3 i4 (.inl (Nat.lt_trans hbc hcl))) gb.size
     have Tc:Below w.heap.size w Ta:=iE Q0 gb Q0.size (fun q hq=>by simp at hq;omega)
     clear hwb
     exact ⟨⟨j+1,Nat.succ_le_of_lt hlt,by go_num,by rw [Q4.out];exact ⟨_,_,_,_,_,_,_,_,sP,WW,WU,M3.out⟩,Tc⟩,NP hlt⟩
    ·obtain rfl:j=k+1:=by omega
     obtain ⟨y1,y2,q1,q2,m1,m2,f1,f2,f3⟩:=RF.out.fin
     have Q1:=Lib.hid q1
     have Q2:=Lib.hid q2
     have M1:=Lib.hid (ky m1)
     have M2:=Lib.hid (ky m2)
     have F1:=Lib.hid f1
     have F2:=Lib.hid f2
     have F3:=Lib.hid f3
     clear q1 q2 m1 m2 f1 f2 f3
     obtain ⟨y0,hy0⟩:∃ y0,Hid (Cy k (k+1)=y0):=⟨_,rfl⟩
     rw [hy0.out] at L0 Q1
     clear hy0
     have gB:=L0.box
     have hbl:=(bO gB).2.2
     obtain ⟨kU,kV,kW⟩:=bO gB
     have hk1:decide (((k+1:Nat):Int)≤(k:Int))=false:=by simp;omega
     go_wp2_with fail
     refine (nL y0 2 2 0 va vb vd ve vp vq vr vs _ L0.seg L0.non L0.len).mono ?_
     rintro _ Vf iQ
     rw [Q1.out] at iQ
     obtain ⟨⟨Vg,Vh,Vi,Vj,Vk,Vl,Vm,Vn,rfl,Vo,WX,i1,i2,i3,i4⟩,hbk⟩:=iM.lists iQ M1.out
     have Q5:Below w.heap.size w Vf:=bT ll hbk
     replace gB:=dS gB hbk
     clear iQ hbk
     clear kU kV kW L0
     obtain ⟨kU,kV,kW⟩:=bO gB
     go_wp2_with fail
     generalize hwb:World.setCell _ _ _=Td
     have gb:Vf.grownBy Td (some b):=by rw [← hwb];exact zG
     have sP:hp Td b=some (.cells #[.int .i64 y1.ch.cap,.int .i64 y1.ch.sent,.int .i64 y1.ch.got,.int .i64 y1.ch.fin,.slice Vg y1.ch.cells.length Vk,.slice Vh y1.ch.words.length Vl,.slice Vi y1.hands.length Vm,.slice Vj y1.deals.length Vn,.int .i64 y1.now] 35):=by rw [← hwb];simp [fF,gB,eO]
     have Vp:=jS (qR Vo (Nat.le_refl _) gb i1 i2 i3 i4 (.inl hbl)) gb.size
     have Te:Below w.heap.size w Td:=iE Q5 gb Q5.size (fun q hq=>by simp at hq;omega)
     clear hwb gB kU kV kW i1 i2 i3 i4 gb Vo
     have gB:=sP
     clear sP
     replace hbl:=(bO gB).2.2
     obtain ⟨kU,kV,kW⟩:=bO gB
     refine (lQ y1 2 99 Vg Vh Vi Vj Vk Vl Vm Vn _ Vp WX M1.out).mono ?_
     rintro _ w32 iQ
     rw [Q2.out] at iQ
     obtain ⟨⟨QV,QW,QX,QY,QZ,Ra,Rb,Rc,rfl,Vq,Re,i1,i2,i3,i4⟩,hbk⟩:=iM.lists iQ M2.out
     have Q6:Below w.heap.size w w32:=bT Te hbk
     replace gB:=dS gB hbk
     clear iQ hbk
     clear kU kV kW Vp
     obtain ⟨kU,kV,kW⟩:=bO gB
     go_wp2_with fail
     generalize hwb:World.setCell _ _ _=Tf
     have gb:w32.grownBy Tf (some b):=by rw [← hwb];exact zG
     have sP:hp Tf b=some (.cells #[.int .i64 y2.ch.cap,.int .i64 y2.ch.sent,.int .i64 y2.ch.got,.int .i64 y2.ch.fin,.slice QV y2.ch.cells.length QZ,.slice QW y2.ch.words.length Ra,.slice QX y2.hands.length Rb,.slice QY y2.deals.length Rc,.int .i64 y2.now] 35):=by rw [← hwb];simp [fF,gB,eO]
     have Tg:=jS (qR Vq (Nat.le_refl _) gb i1 i2 i3 i4 (.inl hbl)) gb.size
     have Ti:Below w.heap.size w Tf:=iE Q6 gb Q6.size (fun q hq=>by simp at hq;omega)
     clear hwb gB kU kV kW i1 i2 i3 i4 gb Vq
     have gB:=sP
     clear sP
     replace hbl:=(bO gB).2.2
     obtain ⟨kU,kV,kW⟩:=bO gB
     refine (pJ y2 QV QW QX QY QZ Ra Rb Rc _ Tg Re M2.out).mono ?_
     rintro _ WY ⟨⟨lv,rfl,OL⟩,hbk⟩
     obtain ⟨la,lc,rfl,_⟩:=ai.seg OL
     have sL:=(ai.segz OL).1
     clear OL
     have Tj:Below w.heap.size w WY:=bT Ti hbk
     have Vr:=jS (pM Tg (Nat.le_refl _) hbk) hbk.size
     replace gB:=dS gB hbk
     clear hbk Tg kU kV kW
     obtain ⟨kU,kV,kW⟩:=bO gB
     go_wp2_with fail
     refine (Cr (eU y2) 2 la lc _ sL (sF M2.out)).mono ?_
     rintro _ WZ ⟨rfl,hbk⟩
     rw [F1.out]
     clear sL
     have Tk:Below w.heap.size w WZ:=bT Tj hbk
     have Tm:=jS (pM Vr (Nat.le_refl _) hbk) hbk.size
     replace gB:=dS gB hbk
     clear hbk Vr kU kV kW
     obtain ⟨kU,kV,kW⟩:=bO gB
     go_wp2_with fail
     refine (I7 y2 QV QW QX QY QZ Ra Rb Rc _ Tm Re M2.out).mono ?_
     rintro _ Xa ⟨rfl,hbk⟩
     rw [F2.out]
     have Tn:Below w.heap.size w Xa:=bT Tk hbk
     have Po:=jS (pM Tm (Nat.le_refl _) hbk) hbk.size
     replace gB:=dS gB hbk
     clear hbk Tm kU kV kW
     obtain ⟨kU,kV,kW⟩:=bO gB
     go_wp2_with fail
     refine (zA y2 QV QW QX QY QZ Ra Rb Rc _ Po.1 Re.1 Po.2.1 Re.2.1 Po.2.2.1 Po.2.2.2 (by have:=M2.out.1;omega) (by have:=M2.out.2.2.1;omega) (by have:=M2.out.2.2.2;omega)).mono ?_
     rintro _ Xb ⟨rfl,hbk⟩
     rw [F3.out]
     have Tp:Below w.heap.size w Xb:=bT Tn hbk
     have XD:=jS (pM Po (Nat.le_refl _) hbk) hbk.size
     replace gB:=dS gB hbk
     clear hbk Po kU kV kW
     obtain ⟨kU,kV,kW⟩:=bO gB
     go_wp2
     go_ret
     exact ⟨rfl,Tp⟩
end
section
open Go.ChangeShapes Go.WideShapes Go.ChangeAt Go.RowKit Go.Deep
theorem own:ownKnob Tryz.prog.godebug=none:=by kernel_rfl
theorem laidOut:laidOutB Tryz.prog=true:=by kernel_rfl
section
variable {H:Type} {enc:TypeId × Value→H} {P:Program} {w:World} {spare:Nat→Bool} {held:Bool}
theorem OT {α:Type} (k:Nat) (val:α→Nat→Value) (Q:α→Prop) (d0:α) {t e:TypeId} (ht:P.underlying t=some (.slice e)) (hk:P.cellsOf e=k) (hk0:0<k)
  (dec:∀ (fuel:Nat) (cs:List Value) (x:DataW H × List MemPlace),DataW.trod enc P w 0 spare held fuel e cs=some x→∃ c:α,Q c∧∀ j,j<k→cs[j]?=some (val c j))
  {fuel:Nat} {cs:List Value} {x:DataW H × List MemPlace} (h:DataW.trod enc P w 0 spare held fuel t cs=some x) :
  ∃ (a:Option Addr) (l:List α) (cap:Nat),cs=[.slice a l.length cap]∧l.length≤cap∧cap≤maxLen∧(∀ c ∈ l,Q c)∧Seg w w.heap.size a l.length k (fun i j=>val (l.getD i d0) j):=by
 rcases open_slice ht h with ⟨hcs,_⟩|⟨ad,len,cap,m,n,D,Pl,hcs,_,hl,hm,hmm,_,hi⟩
 ·exact ⟨none,[],0,hcs,Nat.le_refl _,Nat.zero_le _,by simp,.inl rfl⟩
 ·have hlm:len≤m:=by rw [hmm];split <;> omega
  have hx:∀ i:Nat,∃ c:α,i<len→(Q c∧∀ j,j<k→w.cell? (ad.add (i*k+j))=some (val c j)):=by
   intro i
   by_cases hlt:i<len
   ·obtain ⟨cs',hc,htr⟩:=hi i tO
    rw [hk] at hc
    obtain ⟨_,_,hat⟩:=World.cells?_some hc
    obtain ⟨c,hq,hv⟩:=dec _ _ _ htr
    refine ⟨c,fun _=>⟨hq,fun j hj=>?_⟩⟩
    rw [← Go.Deep.add_add,hat j hj,hv j hj]
   ·exact ⟨d0,fun h=>absurd h hlt⟩
  obtain ⟨g,hg⟩:=Classical.axiomOfChoice hx
  refine ⟨some ad,(List.range len).map g,cap,by simpa using hcs,by simpa using hl,hm,?_,?_⟩
  ·intro c hc
   obtain ⟨i,hi',rfl⟩:=List.mem_map.1 hc
   exact (hg i (List.mem_range.1 hi')).1
  ·by_cases h0:len=0
   ·exact .inl (by simpa using h0)
   ·obtain ⟨b,off,spot⟩:=ad
    have hz:=(hg 0 tO).2 0 hk0
    have hspot:spot=none:=by simpa [Addr.add] using World.cell?_spot hz
    subst hspot
    refine .inr ⟨b,off,rfl,?_,fun i j hi' hj=>?_⟩
    ·have:=block_lt_of_cell hz
     simpa [Addr.add] using this
    ·have hlt:i<len:=by simpa using hi'
     have:=(hg i hlt).2 j hj
     rw [add_plain,← Nat.add_assoc] at this
     rw [this]
     simp [List.getD,hlt]
end
section
variable {H:Type} {enc:TypeId × Value→H} {P:Program} {w:World} {spare:Nat→Bool} {held:Bool}
end
section
variable {H:Type} {enc:TypeId × Value→H} {w:World} {spare:Nat→Bool} {held:Bool}
end
end
section
open Go.ChangeShapes Go.WideShapes Go.ChangeAt Go.RowKit Go.Deep
section
variable {H:Type} {enc:TypeId × Value→H} {w:World} {spare:Nat→Bool} {held:Bool}
theorem OU {r:Reach} {b0:Nat} {v:Value} {d:DataW H} {p:List MemPlace} (hv:Value.okWide Tryz.prog w r b0 22 v) (h:DataW.Trod enc Tryz.prog w 0 spare held 22 v d p) :
  ∃ (a:Option Addr) (n cap:Nat) (bs:Nat→Int),v=.slice a n cap∧n≤maxLen∧(∀ j,0≤bs j∧bs j≤255)∧Seg w w.heap.size a n 1 (fun j _=>.int .u8 (bs j)):=by
 obtain ⟨a,len,cap,rfl⟩:=okWide_slice Tryz.underlying22 hv
 obtain ⟨fuel,hf⟩:=h
 obtain ⟨a',l,cap',hcs,h1,h2,h3,h4⟩:=OT 1 (fun (c:Int) _=>.int .u8 c) (fun c=>0≤c∧c≤255) 0 Tryz.underlying22 (by kernel_rfl) (by decide) (fun fuel cs x hx=>by
  obtain ⟨c,rfl,_,hw⟩:=DataW.trod_int Tryz.underlying5 hx
  refine ⟨c,?_,fun j hj=>?_⟩
  ·simp [Lit.wf,IntKind.min,IntKind.max,IntKind.signed,IntKind.bits] at hw;omega
  ·have:j=0:=by omega
   subst this;rfl) hf
 simp [Value.cells] at hcs
 obtain ⟨rfl,rfl,rfl⟩:=hcs
 refine ⟨a,l.length,cap,fun j=>l.getD j 0,rfl,Nat.le_trans h1 h2,fun j=>?_,h4⟩
 by_cases hj:j<l.length
 ·have:=h3 l[j] (List.getElem_mem hj)
  simpa [List.getD,hj] using this
 ·have:l.getD j 0=0:=by simp [List.getD,Nat.le_of_not_lt hj]
  show 0≤l.getD j 0∧l.getD j 0≤255
  rw [this];omega
end
end
section
open Go.ChangeShapes Go.WideShapes Go.ChangeAt Go.RowKit
namespace FnRoom
theorem lifted (os:Os) (started:os.Started) (H:Type) (enc:TypeId × Value→H) :
  ReturnsInHanded {} Tryz.checked os 3 .any (Rows.fnRoomSpec.pre6 enc Tryz.prog Tryz.f3 Rows.fnRoomRow.domain false) (Rows.fnRoomSpec.post enc Tryz.prog Tryz.f3 false true false false):=by
 refine returnsInHanded_of_change (C:=Tryz.checked) own started (by kernel_rfl) Tryz.func3
  (ChangeSpec.witness6 (enc:=enc) (C:=Tryz.checked) false ⟨#[],#[.slice none 0 0],[]⟩ 8 (by kernel_rfl) (by kernel_rfl) (by kernel_rfl) (by kernel_rfl)) ?_
 intro W base args ds gs before hval0 hW hcnd _
 have hval:∀ (j:Nat) t v,Tryz.f3.params[j]?=some t→args[j]?=some v→Value.okWide Tryz.prog W .any base t v:=hval0
 have hW':=hW
 obtain ⟨p,q,Vs,hV,rfl,hfz,hnd⟩:=hW
 have hA:DataW.TrodAll enc Tryz.prog W 0 (fun _=>true) true Tryz.f3.params.toList args.toList ds p:=Vs
 rw [Tryz.params3] at hA hval
 obtain ⟨v0,XE,d0,ds0,p0,q0,hargs,rfl,rfl,h0,r0⟩:=trodAll_cons hA
 obtain ⟨rfl,rfl,rfl⟩:=trodAll_nil r0
 obtain rfl:args=#[v0]:=by cases args;simp_all
 obtain ⟨rfl,rfl⟩:=trodVars_none hV
 have k0:=h0
 have Xc:∀ x ∈ p0,x.block<W.heap.size:=by obtain ⟨m,hm⟩:=k0;exact DataW.trod_lt m _ _ _ hm
 obtain ⟨a0,n0,cap0,l0,rfl,m0,z0,S0⟩:=OU (hval 0 22 v0 rfl rfl) h0
 clear Vs hval0
 refine (ET n0 cap0 a0 l0 W z0 S0).mono fun e W' ⟨he,Vt⟩=>?_
 subst he
 exact ⟨_,rfl,_,_,_,[],_,[],hW',trodAll_mk1 (shut_bool Tryz.underlying4 _),(trodAll_cons_mk (Below.trod laidOut (by kernel_rfl) (of_decide_eq_true (by kernel_rfl)) k0 Vt Xc) trodAll_mk0),rfl,Vt.frame _,fun h=>by cases h⟩
theorem over:Rows.fnRoomRow.holds Tryz.pinned (OpenSpec.ofChange Rows.fnRoomSpec) :=
 OpenClaim.holds_of_wide 3 Tryz.f3 rfl rfl rfl rfl rfl rfl rfl ⟨rfl,rfl,rfl,rfl,rfl⟩ rfl rfl rfl rfl rfl (by kernel_rfl) Tryz.func3 (by kernel_rfl)
  (of_decide_eq_true (by kernel_rfl)) (by unfold Func.isWrapper;first|(rw [if_pos (by decide +kernel)];kernel_rfl)|(rw [if_neg (by decide +kernel)];exact ⟨rfl,rfl⟩))
  (fun os started H enc _=>lifted os started H enc)
end FnRoom
theorem fnRoom_proved:Rows.FnRoomSaid:=FnRoom.over
end
end Go.Proofs.YtffhjmepfojhnaaGreat
