/-
  The draw of a world in which some things have happened: a right one, of at most 37 words; only the cursor turns; the drawn bytes are at most 4096.
  The draws of hands: out of a drawn world, with one part changed at times; only the cursor turns; the drawn bytes are at most 4096.
-/
import Derived.Test.YthdjlpkcmhajlaaGreatP23
import Derived.Deep.DeepCutAuto
set_option linter.unusedSimpArgs false
set_option linter.unusedVariables false
namespace Go.Proofs.YthdjlpkcmhajlaaGreat
open Go.RowKit
set_option linter.unusedSimpArgs false
attribute [local simp] bx_size
attribute [local go_sem ↓] zeroHand toLHand toVHand toSHand storeHandC
attribute [local go_sem] runSHand
theorem DSx.keep {w w':World} {B g n cap:Nat} {a:Option Addr} (h:DSx w B g a n cap) (e:w'.heap[g]?=w.heap[g]?) (k:Below B w w'):DSx w' B g a n cap:=by
  obtain ⟨i,h,bs,hg,h1,h2,h3,h4,h5⟩:=h
  exact ⟨i,h,bs,e.trans hg,h1,h2,h3,h4,h5.below k⟩
theorem DSx.alloc {w:World} {B g n cap:Nat} {a:Option Addr} {o:Obj} (h:DSx w B g a n cap):DSx (w.alloc o) B g a n cap:=h.keep (Below.heap_alloc w o g h.ds.lt) ((Below.refl _ _).alloc (by have:=h.ds.lt;have:=h.ds.le;omega) o)
theorem DSx.drew {w:World} {B g n cap:Nat} {a:Option Addr} (h:DSx w B g a n cap):DSx w.drew B g a n cap:=h
theorem l1Min_bd (a b:Int) (w:World):Calls Tryz.prog 68 #[.int .i64 a,.int .i64 b] w fun r w'=>(∃ m,r=.returned (.int .i64 m)∧(m=a∨m=b)∧m≤b)∧w=w':=by
  refine (l1Min_any a b w).mono ?_
  rintro _ _ ⟨rfl,rfl⟩
  refine ⟨⟨_,rfl,?_,?_⟩,rfl⟩ <;> split <;> omega
theorem WOwn.segs {w:World} {lo:Nat} {a b d e:Option Addr} {p q r s:Nat} {y:Wo} (h:WOwn w lo (.slice a y.ch.cells.length p) (.slice b y.ch.words.length q) (.slice d y.hands.length r) (.slice e y.deals.length s) y):Seg w w.heap.size a y.ch.cells.length 3 (cellF y.ch.cells)∧(a=none→p=0)∧Seg w w.heap.size b y.ch.words.length 1 (intF y.ch.words)∧(b=none→q=0)∧Seg w w.heap.size d y.hands.length 14 (handF y.hands)∧(d=none→y.hands.length=0∧r=0)∧Seg w w.heap.size e y.deals.length 7 (dealF y.deals)∧(e=none→y.deals.length=0∧s=0):=by
  obtain ⟨a',b',d',e',p',q',r',s',e1,e2,e3,e4,H⟩:=h.opens
  simp at e1 e2 e3 e4
  obtain ⟨rfl,rfl⟩:=e1
  obtain ⟨rfl,rfl⟩:=e2
  obtain ⟨rfl,rfl⟩:=e3
  obtain ⟨rfl,rfl⟩:=e4
  exact H
theorem WOwn.gr {w w':World} {lo g:Nat} {v1 v2 v3 v4:Value} {y:Wo} (h:WOwn w lo v1 v2 v3 v4 y) (hg:Gr g w w') (hl:g<lo):WOwn w' lo v1 v2 v3 v4 y:=⟨h.1.kept hg (.inr (own_ne h.1 hl)),h.2.1.kept hg (.inr (own_ne h.2.1 hl)),h.2.2.1.kept hg (.inr (own_ne h.2.2.1 hl)),h.2.2.2.kept hg (.inr (own_ne h.2.2.2 hl))⟩
theorem gB {w W w1:World} {g:Nat} (h:Gr g w W) (k:Below W.heap.size W w1):Gr g w w1:=gT h ⟨k.os,k.tape,k.output,k.size,fun i hi _=>k.block i hi⟩
theorem alone_made {x:Wo} {who most:Int} (hx:RightW x) (ht:taskOk x who=true) (h0:0≤most) (h1:most≤20000):RightW (alone x who most).1∧(alone x who most).1.hands.length=x.hands.length∧(alone x who most).1.ch.words.length≤x.ch.words.length+1:=by
  have e:alone x who most=((aloneN most.toNat x who).1,((aloneN most.toNat x who).2:Int)):=by simp [alone,(rightW_iff x).2 hx,ht,inB_yes h0 h1]
  rw [e]
  obtain ⟨r1,r2,r3,_⟩:=alone_right most.toNat x who hx ht
  exact ⟨r1,r2,r3⟩
theorem asked_own (y:Wo) (who kk ee:Int) (a b d e:Option Addr) (p q r s lo:Nat) (w:World) (h:WOwn w lo (.slice a y.ch.cells.length p) (.slice b y.ch.words.length q) (.slice d y.hands.length r) (.slice e y.deals.length s) y) (hy:RightW y) :
    Calls Tryz.prog 38 #[.agg #[.int .i64 y.ch.cap,.int .i64 y.ch.sent,.int .i64 y.ch.got,.int .i64 y.ch.fin,.slice a y.ch.cells.length p,.slice b y.ch.words.length q,.slice d y.hands.length r,.slice e y.deals.length s,.int .i64 y.now],.int .i64 who,.agg #[.int .i64 kk,.int .i64 ee]] w fun r w'=>WordR w w' (asked y who kk ee).1 (.int .i64 (asked y who kk ee).2) r:=by
  obtain ⟨s1,t1,s2,t2,s3,t3,s4,t4⟩:=h.segs
  obtain ⟨y1,y2,y3,y4⟩:=right_len hy
  exact sAsked_any y who kk ee a b d e p q r s w s1 t1 s2 t2 s3 t3 s4 t4 y1 y2 y3 y4
theorem alone_own (y:Wo) (who most:Int) (a b d e:Option Addr) (p q r s lo:Nat) (w:World) (h:WOwn w lo (.slice a y.ch.cells.length p) (.slice b y.ch.words.length q) (.slice d y.hands.length r) (.slice e y.deals.length s) y) (hy:RightW y) (ht:taskOk y who=true) (hm0:0≤most) (hm1:most≤20000) :
    Calls Tryz.prog 69 #[.agg #[.int .i64 y.ch.cap,.int .i64 y.ch.sent,.int .i64 y.ch.got,.int .i64 y.ch.fin,.slice a y.ch.cells.length p,.slice b y.ch.words.length q,.slice d y.hands.length r,.slice e y.deals.length s,.int .i64 y.now],.int .i64 who,.int .i64 most] w fun r w'=>WordR w w' (alone y who most).1 (.int .i64 (alone y who most).2) r:=by
  obtain ⟨s1,t1,s2,t2,s3,t3,s4,t4⟩:=h.segs
  obtain ⟨y1,y2,y3,y4⟩:=right_len hy
  exact alone_yes y who most a b d e p q r s w s1 t1 s2 t2 s3 t3 s4 t4 y1 y2 y3 y4 ((rightW_iff y).2 hy) ht hm0 hm1
theorem stopped_own (y:Wo) (who:Int) (a b d e:Option Addr) (p q r s lo:Nat) (w:World) (h:WOwn w lo (.slice a y.ch.cells.length p) (.slice b y.ch.words.length q) (.slice d y.hands.length r) (.slice e y.deals.length s) y) (hy:RightW y) :
    Calls Tryz.prog 42 #[.agg #[.int .i64 y.ch.cap,.int .i64 y.ch.sent,.int .i64 y.ch.got,.int .i64 y.ch.fin,.slice a y.ch.cells.length p,.slice b y.ch.words.length q,.slice d y.hands.length r,.slice e y.deals.length s,.int .i64 y.now],.int .i64 who] w fun r w'=>WordR w w' (stopped y who).1 (.bool (stopped y who).2) r:=by
  obtain ⟨s1,t1,s2,t2,s3,t3,s4,t4⟩:=h.segs
  obtain ⟨y1,y2,y3,y4⟩:=right_len hy
  exact sStopped_any y who a b d e p q r s w s1 t1 s2 t2 s3 t3 s4 t4 y1 y2 y3 y4
/-- A world whose lists are the call's own is answered. -/
def WorldR (w':World) (lo:Nat) (P:Wo→Prop) (r:Ending):Prop:=∃ x v1 v2 v3 v4,r=.returned (.agg #[.int .i64 x.ch.cap,.int .i64 x.ch.sent,.int .i64 x.ch.got,.int .i64 x.ch.fin,v1,v2,v3,v4,.int .i64 x.now])∧WOwn w' lo v1 v2 v3 v4 x∧P x
set_option maxRecDepth 100000 in
set_option maxHeartbeats 4000000 in
theorem l11Draw_any (B g:Nat) (w:World) (hd:DS w B g):Calls Tryz.prog 35 #[.pointer (some ⟨g,0,none⟩)] w fun r w'=>WorldR w' w.heap.size (fun x=>RightW x∧x.ch.words.length≤37∧Wn x.ch) r∧DS w' B g∧Gr g w w':=by
  have hl:=hd.lt
  have hle:=hd.le
  go_enter Tryz.func35,Tryz.ntmps35
  have mg0:some w.heap.size≠some g:=by simp;omega
  go_wp2_with fail;refine (l1Below_any B g 3  _ (by (repeat (first|with_reducible assumption|with_reducible refine DS.alloc ?_|with_reducible refine DS.drew ?_|((with_reducible refine DS.setCell ?_ ?_ ?_);rotate_left;(focus ((try simp);(try omega)));(focus ((try simp);(try omega)))))))  (by omega) (by omega)).mono ?_;rintro _ w1 ⟨⟨x1,rfl,h10,h11⟩,hdw1,hgw1⟩;have hGw1:Gr g w w1:=gT (by (repeat (first|with_reducible assumption|with_reducible exact gR _ _|with_reducible refine gA ?_|with_reducible refine gD ?_|((with_reducible refine gS ?_ (.inr ?_));rotate_left;(focus ((try simp);(try omega))))))) hgw1;have hlw1:=hdw1.lt;have hsw1:=hgw1.size;(try (simp at hsw1))
  have hsw1:=hgw1.size;(try (simp at hsw1));have zz:=grHp hgw1 (b:=w.heap.size) (by (try simp) <;> omega) (by assumption);(try simp [go_sem] at zz);(try clear z_w x_w f_w l_w);have z_w:=zz;clear zz;obtain ⟨x_w,f_w,l_w⟩:=bO z_w
  go_wp2_with fail;refine (l1Below_any B g 4  _ (by (repeat (first|with_reducible assumption|with_reducible refine DS.alloc ?_|with_reducible refine DS.drew ?_|((with_reducible refine DS.setCell ?_ ?_ ?_);rotate_left;(focus ((try simp);(try omega)));(focus ((try simp);(try omega)))))))  (by omega) (by omega)).mono ?_;rintro _ w2 ⟨⟨x2,rfl,h20,h21⟩,hdw2,hgw2⟩;have hGw2:Gr g w w2:=gT (by (repeat (first|with_reducible assumption|with_reducible exact gR _ _|with_reducible refine gA ?_|with_reducible refine gD ?_|((with_reducible refine gS ?_ (.inr ?_));rotate_left;(focus ((try simp);(try omega))))))) hgw2;have hlw2:=hdw2.lt;have hsw2:=hgw2.size;(try (simp at hsw2))
  have hsw2:=hgw2.size;(try (simp at hsw2));have zz:=grHp hgw2 (b:=w.heap.size) (by (try simp) <;> omega) (by assumption);(first|simp [go_sem,z_w,l_w] at zz|simp [go_sem] at zz|skip);(try clear z_w x_w f_w l_w);have z_w:=zz;clear zz;obtain ⟨x_w,f_w,l_w⟩:=bO z_w
  obtain ⟨nt,nr,nl,nw⟩:=new_right (cap:=x1) (tasks:=1+x2) h10 (by omega) (by omega) (by omega)
  have nN:=new_wn (cap:=x1) (tasks:=1+x2) h10 (by omega) (by omega) (by omega)
  have hNW:=sNewWorld_yes x1 (1+x2) w2 h10 (by omega) (by omega) (by omega)
  rw [nt] at hNW
  have HN:=Lib.hid (And.intro nr (And.intro nl (And.intro nw nN)))
  generalize (newWorld x1 (1+x2)).1=x at *
  clear nt nr nl nw nN
  go_wp2_with fail;refine bHit w2 (by exact zB) fun bk=>?_;refine (hNW).mono ?_;rintro _ w3 ⟨⟨v1,v2,v3,v4,rfl,hown⟩,hbw3⟩;have hsw3:=hbw3.size;(try simp at hsw3);have zz:=hQ hbw3 (b:=w.heap.size);(first|simp [go_sem,z_w,l_w] at zz|simp [go_sem] at zz|skip);(try clear z_w x_w f_w l_w);have z_w:=zz;clear zz;obtain ⟨x_w,f_w,l_w⟩:=bO z_w;have hKw3:Below w2.heap.size w2 w3:=bT bk hbw3;clear hbw3 bk
  have hd3:=hdw2.below hKw3
  have hG3:Gr g w w3:=gT hGw2 ⟨hKw3.os,hKw3.tape,hKw3.output,hKw3.size,fun i hi _=>hKw3.block i hi⟩
  have UO:=Lib.hid hown
  obtain ⟨a1,a2,a3,a4,c1,c2,c3,c4,rfl,rfl,rfl,rfl,_⟩:=hown.opens
  obtain ⟨ca,cn,cc,hdx⟩:=hd3.dsx
  obtain ⟨cb,hcn⟩:=hdx.cell0
  have l_g:g<w3.heap.size:=hd3.lt
  go_wp2_with fail
  have mg1:some w3.heap.size≠some g:=by simp;omega
  have x_w3:∀ o,(w3.alloc (.cells #[.int .i64 x.ch.cap,.int .i64 x.ch.sent,.int .i64 x.ch.got,.int .i64 x.ch.fin,.slice a1 x.ch.cells.length c1,.slice a2 x.ch.words.length c2,.slice a3 x.hands.length c3,.slice a4 x.deals.length c4,.int .i64 x.now] 69)).cell? ⟨w3.heap.size,o,none⟩=_:=fun o=>cell_of_row _ w3.heap.size o _ _ _ (heap_alloc_new w3 _)
  go_region_held3 (fun w'=>w'.cell? ⟨g,0,none⟩=some (.slice ca cn cc))
    (first|(simp [*,go_sem]))
    (first|(go_at_call 36;refine (l1Below_x B g cn cc ca 30 _ ?_ ?_ ?_).mono ?_;rotate_left;(focus omega);(focus omega);rotate_left;(focus (exact hdx.alloc));rintro _ w4 ⟨⟨x4,rfl,h40,h41⟩,hd4,hg4⟩;have k4:=hd4.cell0.1;have hG4:Gr g w w4:=gT (by (repeat (first|with_reducible assumption|with_reducible exact gR _ _|with_reducible refine gA ?_|with_reducible refine gD ?_|((with_reducible refine gS ?_ (.inr ?_));rotate_left;(focus ((try simp);(try omega))))))) hg4)|(go_at_call 68;refine (l1Min_bd _ _ _).mono ?_;rintro _ _ ⟨⟨N,rfl,hN0,hN1⟩,rfl⟩))
  have hN:0≤N∧N≤37:=by
    have i1:IntKind.i64.wrap (3+(cn:Int))=3+cn:=IntWalk.i64_in _ (by omega)
    have i2:IntKind.i64.wrap (8+x4)=8+x4:=IntWalk.i64_in _ (by omega)
    omega
  clear hN0 hN1
  have hs4:=hg4.size
  simp at hs4
  have y_w3:=fun o=>grCell hg4 (b:=w3.heap.size) (by simp) mg1 o
  have hsw4:=hg4.size;(try (simp at hsw4));have zz:=grHp hg4 (b:=w.heap.size) (by (try simp) <;> omega) (by assumption);(first|simp [go_sem,z_w,l_w] at zz|simp [go_sem] at zz|skip);(try clear z_w x_w f_w l_w);have z_w:=zz;clear zz;obtain ⟨x_w,f_w,l_w⟩:=bO z_w
  go_wp2_with fail
  go_loopw [5] (fun n wr=>∃ (m:Nat) (y:Wo) (v1 v2 v3 v4:Value),n=.int .i64 m∧RightW y∧Wn y.ch∧y.ch.words.length+m≤37∧WOwn wr (w.heap.size+1) v1 v2 v3 v4 y∧WOff w3.heap.size v1 v2 v3 v4∧hp wr w3.heap.size=some (.cells #[.int .i64 y.ch.cap,.int .i64 y.ch.sent,.int .i64 y.ch.got,.int .i64 y.ch.fin,v1,v2,v3,v4,.int .i64 y.now] 69)∧hp wr w.heap.size=some (.cells #[.int .i64 0,.int .i64 0,.int .i64 0,.int .i64 0,.slice none 0 0,.slice none 0 0,.slice none 0 0,.slice none 0 0,.int .i64 0] 69)∧w3.heap.size+1≤wr.heap.size∧DS wr B g∧Gr g w wr) (fun n _=>(intOf n).toNat)
  case atStart =>
    obtain ⟨nr,nl,nw,nN⟩:=HN.out
    have uu:=UO.out
    have u3:=WOwn.lo (lo':=w.heap.size+1) uu (by omega)
    have hgl:g<w.heap.size+1:=by omega
    have u4:=WOwn.gr (WOwn.drew (WOwn.alloc u3 _)) hg4 hgl
    have u5:=u3.ne' (Nat.le_refl _)
    refine ⟨N.toNat,x,_,_,_,_,by simp;omega,nr,nN,by omega,u4,u5,(grHp hg4 (by simp) mg1).trans (heap_alloc_new w3 _),z_w,by omega,hd4.ds,hG4⟩
  case round =>
    clear z_w x_w f_w l_w
    obtain ⟨m,y,v1,v2,v3,v4,rfl,hy,hN,hw,hown,hoff,z_w3,z_w,hsz,hd,hG⟩:=hrel
    have l_w:w.heap.size<wr.heap.size:=by omega
    have hww:w.heap.size<w3.heap.size:=by omega
    have l_w3:w3.heap.size<wr.heap.size:=by omega
    have x_w:∀ o,wr.cell? ⟨w.heap.size,o,none⟩=_:=fun o=>cell_of_row wr w.heap.size o _ _ _ z_w
    have f_w:∀ o,wr.frozen? ⟨w.heap.size,o,none⟩=false:=heap_frozen z_w
    have f_w3:∀ o,wr.frozen? ⟨w3.heap.size,o,none⟩=false:=heap_frozen z_w3
    obtain ⟨a1,a2,a3,a4,c1,c2,c3,c4,rfl,rfl,rfl,rfl,_⟩:=hown.opens
    have x_w3:∀ o,wr.cell? ⟨w3.heap.size,o,none⟩=_:=fun o=>cell_of_row wr w3.heap.size o _ _ _ z_w3
    have OW:=Lib.hid hown
    have h1:=hy.h1
    have h6:=hy.h6
    clear hown
    by_cases hm:m=0
    · have hm2:¬ (0:Int)<(m:Int):=by omega
      go_wp2
      have OL:=OW.out.lo (lo':=w.heap.size) (by omega)
      have N1:=OW.out.ne (b:=w.heap.size) (by omega)
      refine bodyPost_ret (v:=.agg #[.int .i64 y.ch.cap,.int .i64 y.ch.sent,.int .i64 y.ch.got,.int .i64 y.ch.fin,.slice a1 y.ch.cells.length c1,.slice a2 y.ch.words.length c2,.slice a3 y.hands.length c3,.slice a4 y.deals.length c4,.int .i64 y.now]) (by simp [results,Tryz.results35,go_sem, *]) rfl ⟨⟨_,_,_,_,_,rfl,?_,hy,by omega,hN⟩,?_,?_⟩
      · (repeat (first|with_reducible assumption|with_reducible refine WOwn.alloc ?_ _|with_reducible refine WOwn.drew ?_|((with_reducible refine WOwn.store ?_ ?_ _);rotate_left;(focus (first|exact N1))) ))
      · (repeat (first|with_reducible assumption|with_reducible refine DS.alloc ?_|with_reducible refine DS.drew ?_|((with_reducible refine DS.setCell ?_ ?_ ?_);rotate_left;(focus ((try simp);(try omega)));(focus ((try simp);(try omega))))))
      · (repeat (first|with_reducible assumption|with_reducible exact gR _ _|with_reducible refine gA ?_|with_reducible refine gD ?_|((with_reducible refine gS ?_ (.inr ?_));rotate_left;(focus ((try simp);(try omega))))))
    · have hm2:(0:Int)<(m:Int):=by omega
      go_wp2_with fail;refine (l1Below_any B g (y.hands.length:Int)  _ (by (repeat (first|with_reducible assumption|with_reducible refine DS.alloc ?_|with_reducible refine DS.drew ?_|((with_reducible refine DS.setCell ?_ ?_ ?_);rotate_left;(focus ((try simp);(try omega)));(focus ((try simp);(try omega)))))))  (by omega) (by omega)).mono ?_;rintro _ w5 ⟨⟨z,rfl,hz0,hz1⟩,hdw5,hgw5⟩;have hGw5:Gr g w w5:=gT (by (repeat (first|with_reducible assumption|with_reducible exact gR _ _|with_reducible refine gA ?_|with_reducible refine gD ?_|((with_reducible refine gS ?_ (.inr ?_));rotate_left;(focus ((try simp);(try omega))))))) hgw5;have hlw5:=hdw5.lt;have hsw5:=hgw5.size;(try (simp at hsw5))
      obtain ⟨i,rfl⟩:=Int.eq_ofNat_of_zero_le hz0
      have hi:i<y.hands.length:=by omega
      have hi1:(i:Int)<(y.hands.length:Int):=by omega
      have ht:taskOk y i=true:=by simp [taskOk,taskB,inB];omega
      have hsw5:=hgw5.size;(try (simp at hsw5));have zz:=And.intro (grHp hgw5 (b:=w3.heap.size) (by (try simp) <;> omega) (by assumption)) <| grHp hgw5 (b:=w.heap.size) (by (try simp) <;> omega) (by assumption);(first|simp [go_sem,z_w3,z_w,l_w,l_w3] at zz|simp [go_sem] at zz|skip);(try clear z_w3 x_w3 f_w3 l_w3);(try clear z_w x_w f_w l_w);obtain ⟨z_w3,z_w⟩:=zz;obtain ⟨x_w3,f_w3,l_w3⟩:=bO z_w3;obtain ⟨x_w,f_w,l_w⟩:=bO z_w
      have OW5:=OW.out.gr hgw5 (by omega)
      obtain ⟨gh,gq,eg,_,lg,hgc,_⟩:=OHands.open1 OW5.2.2.1 hi
      simp at eg
      obtain ⟨rfl,rfl⟩:=eg
      have cpos:w5.cell? ⟨gh,i*14,none⟩=some (.int .i64 (handAt y i).pos):=(hgc 0 (by omega)).trans (by simp [handAt,hvals,Array.getD])
      clear hgc
      by_cases hp0:(handAt y i).pos=0
      · go_wp2_with fail
        have hl5:=hdw5.lt
        go_region_with (first|(go_at_call 39;refine (l4Draw_any B g _ (by (repeat (first|with_reducible assumption|with_reducible refine DS.alloc ?_|with_reducible refine DS.drew ?_|((with_reducible refine DS.setCell ?_ ?_ ?_);rotate_left;(focus ((try simp);(try omega)));(focus ((try simp);(try omega)))))))).mono ?_;rintro _ w6 ⟨⟨kk,ee,rfl,_⟩,hd6,hg6⟩;have hG6:Gr g w w6:=gT (by (repeat (first|with_reducible assumption|with_reducible exact gR _ _|with_reducible refine gA ?_|with_reducible refine gD ?_|((with_reducible refine gS ?_ (.inr ?_));rotate_left;(focus ((try simp);(try omega))))))) hg6;have hsw6:=hg6.size;(try (simp at hsw6));have zz:=And.intro (grHp hg6 (b:=w3.heap.size) (by (try simp) <;> omega) (by assumption)) <| grHp hg6 (b:=w.heap.size) (by (try simp) <;> omega) (by assumption);(first|simp [go_sem,z_w3,z_w,l_w,l_w3] at zz|simp [go_sem] at zz|skip);(try clear z_w3 x_w3 f_w3 l_w3);(try clear z_w x_w f_w l_w);obtain ⟨z_w3,z_w⟩:=zz;obtain ⟨x_w3,f_w3,l_w3⟩:=bO z_w3;obtain ⟨x_w,f_w,l_w⟩:=bO z_w;have OW6:=WOwn.gr (WOwn.drew OW5) hg6 (by omega))|(go_at_call 38;refine bHit w6 (by exact zB) fun bk=>?_;refine (asked_own y i kk ee a1 a2 (some ⟨gh,0,none⟩) a4 c1 c2 c3 c4 _ _ OW6 hy).mono ?_;rintro _ w7 ⟨⟨u1,u2,u3,u4,rfl,uo⟩,hbw7⟩;have hsw7:=hbw7.size;(try simp at hsw7);have zz:=And.intro (hQ hbw7 (b:=w3.heap.size)) <| hQ hbw7 (b:=w.heap.size);(first|simp [go_sem,z_w3,z_w,l_w,l_w3] at zz|simp [go_sem] at zz|skip);(try clear z_w3 x_w3 f_w3 l_w3);(try clear z_w x_w f_w l_w);obtain ⟨z_w3,z_w⟩:=zz;obtain ⟨x_w3,f_w3,l_w3⟩:=bO z_w3;obtain ⟨x_w,f_w,l_w⟩:=bO z_w;have hKw7:Below w6.heap.size w6 w7:=bT bk hbw7;clear hbw7 bk);have hd7:=hd6.below hKw7;have hG7:=gB hG6 hKw7;have UU:=Lib.hid uo;obtain ⟨b1,b2,b3,b4,d1,d2,d3,d4,rfl,rfl,rfl,rfl,_⟩:=uo.opens)
        all_goals (go_wp2;go_roundw)
        all_goals first|(simp [intOf];omega;done)|skip
        all_goals (have A:=asked_right (k:=kk) (e:=ee) hy ht;have nu3:=UU.out.ne (b:=w3.heap.size) (by omega);have UL:=UU.out.lo (lo':=w.heap.size+1) (by omega);generalize (asked y i kk ee).1=y' at *)
        all_goals exact ⟨m - 1,y',_,_,_,_,by go_num,A.1,by rw [A.2.2];exact hN,by rw [A.2.2];omega,by (repeat (first|with_reducible assumption|with_reducible refine WOwn.alloc ?_ _|with_reducible refine WOwn.drew ?_|((with_reducible refine WOwn.store ?_ ?_ _);rotate_left;(focus (first|exact nu3))) )),nu3,by simp [go_sem, *],by simp [go_sem, *],by simp;omega,by (repeat (first|with_reducible assumption|with_reducible refine DS.alloc ?_|with_reducible refine DS.drew ?_|((with_reducible refine DS.setCell ?_ ?_ ?_);rotate_left;(focus ((try simp);(try omega)));(focus ((try simp);(try omega)))))),by (repeat (first|with_reducible assumption|with_reducible exact gR _ _|with_reducible refine gA ?_|with_reducible refine gD ?_|((with_reducible refine gS ?_ (.inr ?_));rotate_left;(focus ((try simp);(try omega))))))⟩
      · have hp1:((handAt y i).pos == 0)=false:=by simp [hp0]
        go_wp2_with fail;refine (l1Below_any B g 4  _ (by (repeat (first|with_reducible assumption|with_reducible refine DS.alloc ?_|with_reducible refine DS.drew ?_|((with_reducible refine DS.setCell ?_ ?_ ?_);rotate_left;(focus ((try simp);(try omega)));(focus ((try simp);(try omega)))))))  (by omega) (by omega)).mono ?_;rintro _ w6 ⟨⟨x6,rfl,h60,h61⟩,hdw6,hgw6⟩;have hGw6:Gr g w w6:=gT (by (repeat (first|with_reducible assumption|with_reducible exact gR _ _|with_reducible refine gA ?_|with_reducible refine gD ?_|((with_reducible refine gS ?_ (.inr ?_));rotate_left;(focus ((try simp);(try omega))))))) hgw6;have hlw6:=hdw6.lt;have hsw6:=hgw6.size;(try (simp at hsw6))
        have hsw6:=hgw6.size;(try (simp at hsw6));have zz:=And.intro (grHp hgw6 (b:=w3.heap.size) (by (try simp) <;> omega) (by assumption)) <| grHp hgw6 (b:=w.heap.size) (by (try simp) <;> omega) (by assumption);(first|simp [go_sem,z_w3,z_w,l_w,l_w3] at zz|simp [go_sem] at zz|skip);(try clear z_w3 x_w3 f_w3 l_w3);(try clear z_w x_w f_w l_w);obtain ⟨z_w3,z_w⟩:=zz;obtain ⟨x_w3,f_w3,l_w3⟩:=bO z_w3;obtain ⟨x_w,f_w,l_w⟩:=bO z_w
        have OW6:=OW5.gr hgw6 (by omega)
        go_wp2_with fail;refine (l1Once_any B g 3  _ (by (repeat (first|with_reducible assumption|with_reducible refine DS.alloc ?_|with_reducible refine DS.drew ?_|((with_reducible refine DS.setCell ?_ ?_ ?_);rotate_left;(focus ((try simp);(try omega)));(focus ((try simp);(try omega)))))))  (by omega) (by omega)).mono ?_;rintro _ w7 ⟨⟨y7,rfl⟩,hdw7,hgw7⟩;have hGw7:Gr g w w7:=gT (by (repeat (first|with_reducible assumption|with_reducible exact gR _ _|with_reducible refine gA ?_|with_reducible refine gD ?_|((with_reducible refine gS ?_ (.inr ?_));rotate_left;(focus ((try simp);(try omega))))))) hgw7;have hlw7:=hdw7.lt;have hsw7:=hgw7.size;(try (simp at hsw7))
        have hsw7:=hgw7.size;(try (simp at hsw7));have zz:=And.intro (grHp hgw7 (b:=w3.heap.size) (by (try simp) <;> omega) (by assumption)) <| grHp hgw7 (b:=w.heap.size) (by (try simp) <;> omega) (by assumption);(first|simp [go_sem,z_w3,z_w,l_w,l_w3] at zz|simp [go_sem] at zz|skip);(try clear z_w3 x_w3 f_w3 l_w3);(try clear z_w x_w f_w l_w);obtain ⟨z_w3,z_w⟩:=zz;obtain ⟨x_w3,f_w3,l_w3⟩:=bO z_w3;obtain ⟨x_w,f_w,l_w⟩:=bO z_w
        have OW7:=OW6.gr hgw7 (by omega)
        clear cpos lg
        cases y7
        · go_wp2_with fail;refine bHit w7 (by exact zB) fun bk=>?_;refine (alone_own y i (1+x6) a1 a2 (some ⟨gh,0,none⟩) a4 c1 c2 c3 c4 _ _ OW7 hy ht (by omega) (by omega)).mono ?_;rintro _ w8 ⟨⟨u1,u2,u3,u4,rfl,uo⟩,hbw8⟩;have hsw8:=hbw8.size;(try simp at hsw8);have zz:=And.intro (hQ hbw8 (b:=w3.heap.size)) <| hQ hbw8 (b:=w.heap.size);(first|simp [go_sem,z_w3,z_w,l_w,l_w3] at zz|simp [go_sem] at zz|skip);(try clear z_w3 x_w3 f_w3 l_w3);(try clear z_w x_w f_w l_w);obtain ⟨z_w3,z_w⟩:=zz;obtain ⟨x_w3,f_w3,l_w3⟩:=bO z_w3;obtain ⟨x_w,f_w,l_w⟩:=bO z_w;have hKw8:Below w7.heap.size w7 w8:=bT bk hbw8;clear hbw8 bk
          have hd8:=hdw7.below hKw8
          have hG8:=gB hGw7 hKw8
          have A:=alone_made (most:=(1+x6)) hy ht (by omega) (by omega)
          have AN:=alone_wn (most:=(1+x6)) hy ht (by omega) (by omega) hN
          have UU:=Lib.hid uo
          have ht2:taskOk (alone y i (1+x6)).1 i=true:=by unfold taskOk at ht ⊢;rw [A.2.1];exact ht
          obtain ⟨ya,yb,yc⟩:=A
          generalize (alone y i (1+x6)).1=y' at *
          obtain ⟨b1,b2,b3,b4,d1,d2,d3,d4,rfl,rfl,rfl,rfl,_⟩:=uo.opens
          have nu3:=UU.out.ne (b:=w3.heap.size) (by omega)
          have UL:=UU.out.lo (lo':=w.heap.size+1) (by omega)
          clear yb
          go_wp2_with fail;refine (l1Once_any B g 10  _ (by (repeat (first|with_reducible assumption|with_reducible refine DS.alloc ?_|with_reducible refine DS.drew ?_|((with_reducible refine DS.setCell ?_ ?_ ?_);rotate_left;(focus ((try simp);(try omega)));(focus ((try simp);(try omega)))))))  (by omega) (by omega)).mono ?_;rintro _ w9 ⟨⟨y9,rfl⟩,hdw9,hgw9⟩;have hGw9:Gr g w w9:=gT (by (repeat (first|with_reducible assumption|with_reducible exact gR _ _|with_reducible refine gA ?_|with_reducible refine gD ?_|((with_reducible refine gS ?_ (.inr ?_));rotate_left;(focus ((try simp);(try omega))))))) hgw9;have hlw9:=hdw9.lt;have hsw9:=hgw9.size;(try (simp at hsw9))
          have hgl:g<w.heap.size+1:=by omega
          have OW9:WOwn w9 (w.heap.size+1) (.slice b1 y'.ch.cells.length d1) (.slice b2 y'.ch.words.length d2) (.slice b3 y'.hands.length d3) (.slice b4 y'.deals.length d4) y':=WOwn.gr (by (repeat (first|with_reducible assumption|with_reducible refine WOwn.alloc ?_ _|with_reducible refine WOwn.drew ?_|((with_reducible refine WOwn.store ?_ ?_ _);rotate_left;(focus (first|exact nu3))) ))) hgw9 hgl
          have t_w3:hp w9 w3.heap.size=some (.cells #[.int .i64 y'.ch.cap,.int .i64 y'.ch.sent,.int .i64 y'.ch.got,.int .i64 y'.ch.fin,.slice b1 y'.ch.cells.length d1,.slice b2 y'.ch.words.length d2,.slice b3 y'.hands.length d3,.slice b4 y'.deals.length d4,.int .i64 y'.now] 69):=(grHp hgw9 (by simp;omega) mg1).trans (by simp [go_sem, *])
          have t_w:hp w9 w.heap.size=some (.cells #[.int .i64 0,.int .i64 0,.int .i64 0,.int .i64 0,.slice none 0 0,.slice none 0 0,.slice none 0 0,.slice none 0 0,.int .i64 0] 69):=(grHp hgw9 (by simp;omega) mg0).trans (by simp [go_sem, *])
          have hs9:=hgw9.size
          (try simp at hs9)
          clear x_w x_w3 f_w f_w3 z_w z_w3 l_w l_w3
          have l_w:w.heap.size<w9.heap.size:=by omega
          have l_w3:w3.heap.size<w9.heap.size:=by omega
          have x_w:∀ o,w9.cell? ⟨w.heap.size,o,none⟩=_:=fun o=>cell_of_row w9 w.heap.size o _ _ _ t_w
          have x_w3:∀ o,w9.cell? ⟨w3.heap.size,o,none⟩=_:=fun o=>cell_of_row w9 w3.heap.size o _ _ _ t_w3
          have f_w:∀ o,w9.frozen? ⟨w.heap.size,o,none⟩=false:=heap_frozen t_w
          have f_w3:∀ o,w9.frozen? ⟨w3.heap.size,o,none⟩=false:=heap_frozen t_w3
          have z_w:=t_w
          have z_w3:=t_w3
          clear t_w t_w3 hgw9
          cases y9
          · go_wp2
            go_roundw
            case rel=>exact ⟨m - 1,y',_,_,_,_,by go_num,ya,AN,by omega,OW9,nu3,z_w3,z_w,by omega,by (repeat (first|with_reducible assumption|with_reducible refine DS.alloc ?_|with_reducible refine DS.drew ?_|((with_reducible refine DS.setCell ?_ ?_ ?_);rotate_left;(focus ((try simp);(try omega)));(focus ((try simp);(try omega)))))),by (repeat (first|with_reducible assumption|with_reducible exact gR _ _|with_reducible refine gA ?_|with_reducible refine gD ?_|((with_reducible refine gS ?_ (.inr ?_));rotate_left;(focus ((try simp);(try omega))))))⟩
            case measure=>simp [intOf];omega
          · obtain ⟨e1,_,e3⟩:=stopped_right ya ht2
            have SN:=stopped_wn ya ht2 AN
            have yd:(stopped y' i).1.ch.words.length+(m - 1)≤37:=by omega
            have hST:=stopped_own y' i b1 b2 b3 b4 d1 d2 d3 d4 _ _ OW9 ya
            clear e3
            generalize (stopped y' i).1=y'' at *
            go_wp2_with fail;refine bHit w9 (by exact zB) fun bk=>?_;refine (hST).mono ?_;rintro _ w10 ⟨⟨q1,q2,q3,q4,rfl,qo⟩,hbw10⟩;have hsw10:=hbw10.size;(try simp at hsw10);have zz:=And.intro (hQ hbw10 (b:=w3.heap.size)) <| hQ hbw10 (b:=w.heap.size);(first|simp [go_sem,z_w3,z_w,l_w,l_w3] at zz|simp [go_sem] at zz|skip);(try clear z_w3 x_w3 f_w3 l_w3);(try clear z_w x_w f_w l_w);obtain ⟨z_w3,z_w⟩:=zz;obtain ⟨x_w3,f_w3,l_w3⟩:=bO z_w3;obtain ⟨x_w,f_w,l_w⟩:=bO z_w;have hKw10:Below w9.heap.size w9 w10:=bT bk hbw10;clear hbw10 bk
            have hd10:=hdw9.below hKw10
            have hG10:=gB hGw9 hKw10
            have QO:=Lib.hid qo
            obtain ⟨p1,p2,p3,p4,r1,r2,r3,r4,rfl,rfl,rfl,rfl,_⟩:=qo.opens
            have nq3:=QO.out.ne (b:=w3.heap.size) (by omega)
            have QL:=QO.out.lo (lo':=w.heap.size+1) (by omega)
            go_wp2
            go_roundw
            case rel=>exact ⟨m - 1,y'',_,_,_,_,by go_num,e1,SN,yd,by (repeat (first|with_reducible assumption|with_reducible refine WOwn.alloc ?_ _|with_reducible refine WOwn.drew ?_|((with_reducible refine WOwn.store ?_ ?_ _);rotate_left;(focus (first|exact nq3))) )),nq3,by simp [go_sem, *],by simp [go_sem, *],by simp;omega,by (repeat (first|with_reducible assumption|with_reducible refine DS.alloc ?_|with_reducible refine DS.drew ?_|((with_reducible refine DS.setCell ?_ ?_ ?_);rotate_left;(focus ((try simp);(try omega)));(focus ((try simp);(try omega)))))),by (repeat (first|with_reducible assumption|with_reducible exact gR _ _|with_reducible refine gA ?_|with_reducible refine gD ?_|((with_reducible refine gS ?_ (.inr ?_));rotate_left;(focus ((try simp);(try omega))))))⟩
            case measure=>simp [intOf];omega
        · go_wp2_with fail;refine bHit w7 (by exact zB) fun bk=>?_;refine (alone_own y i 30 a1 a2 (some ⟨gh,0,none⟩) a4 c1 c2 c3 c4 _ _ OW7 hy ht (by omega) (by omega)).mono ?_;rintro _ w8 ⟨⟨u1,u2,u3,u4,rfl,uo⟩,hbw8⟩;have hsw8:=hbw8.size;(try simp at hsw8);have zz:=And.intro (hQ hbw8 (b:=w3.heap.size)) <| hQ hbw8 (b:=w.heap.size);(first|simp [go_sem,z_w3,z_w,l_w,l_w3] at zz|simp [go_sem] at zz|skip);(try clear z_w3 x_w3 f_w3 l_w3);(try clear z_w x_w f_w l_w);obtain ⟨z_w3,z_w⟩:=zz;obtain ⟨x_w3,f_w3,l_w3⟩:=bO z_w3;obtain ⟨x_w,f_w,l_w⟩:=bO z_w;have hKw8:Below w7.heap.size w7 w8:=bT bk hbw8;clear hbw8 bk
          have hd8:=hdw7.below hKw8
          have hG8:=gB hGw7 hKw8
          have A:=alone_made (most:=30) hy ht (by omega) (by omega)
          have AN:=alone_wn (most:=30) hy ht (by omega) (by omega) hN
          have UU:=Lib.hid uo
          have ht2:taskOk (alone y i 30).1 i=true:=by unfold taskOk at ht ⊢;rw [A.2.1];exact ht
          obtain ⟨ya,yb,yc⟩:=A
          generalize (alone y i 30).1=y' at *
          obtain ⟨b1,b2,b3,b4,d1,d2,d3,d4,rfl,rfl,rfl,rfl,_⟩:=uo.opens
          have nu3:=UU.out.ne (b:=w3.heap.size) (by omega)
          have UL:=UU.out.lo (lo':=w.heap.size+1) (by omega)
          clear yb
          go_wp2_with fail;refine (l1Once_any B g 10  _ (by (repeat (first|with_reducible assumption|with_reducible refine DS.alloc ?_|with_reducible refine DS.drew ?_|((with_reducible refine DS.setCell ?_ ?_ ?_);rotate_left;(focus ((try simp);(try omega)));(focus ((try simp);(try omega)))))))  (by omega) (by omega)).mono ?_;rintro _ w9 ⟨⟨y9,rfl⟩,hdw9,hgw9⟩;have hGw9:Gr g w w9:=gT (by (repeat (first|with_reducible assumption|with_reducible exact gR _ _|with_reducible refine gA ?_|with_reducible refine gD ?_|((with_reducible refine gS ?_ (.inr ?_));rotate_left;(focus ((try simp);(try omega))))))) hgw9;have hlw9:=hdw9.lt;have hsw9:=hgw9.size;(try (simp at hsw9))
          have hgl:g<w.heap.size+1:=by omega
          have OW9:WOwn w9 (w.heap.size+1) (.slice b1 y'.ch.cells.length d1) (.slice b2 y'.ch.words.length d2) (.slice b3 y'.hands.length d3) (.slice b4 y'.deals.length d4) y':=WOwn.gr (by (repeat (first|with_reducible assumption|with_reducible refine WOwn.alloc ?_ _|with_reducible refine WOwn.drew ?_|((with_reducible refine WOwn.store ?_ ?_ _);rotate_left;(focus (first|exact nu3))) ))) hgw9 hgl
          have t_w3:hp w9 w3.heap.size=some (.cells #[.int .i64 y'.ch.cap,.int .i64 y'.ch.sent,.int .i64 y'.ch.got,.int .i64 y'.ch.fin,.slice b1 y'.ch.cells.length d1,.slice b2 y'.ch.words.length d2,.slice b3 y'.hands.length d3,.slice b4 y'.deals.length d4,.int .i64 y'.now] 69):=(grHp hgw9 (by simp;omega) mg1).trans (by simp [go_sem, *])
          have t_w:hp w9 w.heap.size=some (.cells #[.int .i64 0,.int .i64 0,.int .i64 0,.int .i64 0,.slice none 0 0,.slice none 0 0,.slice none 0 0,.slice none 0 0,.int .i64 0] 69):=(grHp hgw9 (by simp;omega) mg0).trans (by simp [go_sem, *])
          have hs9:=hgw9.size
          (try simp at hs9)
          clear x_w x_w3 f_w f_w3 z_w z_w3 l_w l_w3
          have l_w:w.heap.size<w9.heap.size:=by omega
          have l_w3:w3.heap.size<w9.heap.size:=by omega
          have x_w:∀ o,w9.cell? ⟨w.heap.size,o,none⟩=_:=fun o=>cell_of_row w9 w.heap.size o _ _ _ t_w
          have x_w3:∀ o,w9.cell? ⟨w3.heap.size,o,none⟩=_:=fun o=>cell_of_row w9 w3.heap.size o _ _ _ t_w3
          have f_w:∀ o,w9.frozen? ⟨w.heap.size,o,none⟩=false:=heap_frozen t_w
          have f_w3:∀ o,w9.frozen? ⟨w3.heap.size,o,none⟩=false:=heap_frozen t_w3
          have z_w:=t_w
          have z_w3:=t_w3
          clear t_w t_w3 hgw9
          cases y9
          · go_wp2
            go_roundw
            case rel=>exact ⟨m - 1,y',_,_,_,_,by go_num,ya,AN,by omega,OW9,nu3,z_w3,z_w,by omega,by (repeat (first|with_reducible assumption|with_reducible refine DS.alloc ?_|with_reducible refine DS.drew ?_|((with_reducible refine DS.setCell ?_ ?_ ?_);rotate_left;(focus ((try simp);(try omega)));(focus ((try simp);(try omega)))))),by (repeat (first|with_reducible assumption|with_reducible exact gR _ _|with_reducible refine gA ?_|with_reducible refine gD ?_|((with_reducible refine gS ?_ (.inr ?_));rotate_left;(focus ((try simp);(try omega))))))⟩
            case measure=>simp [intOf];omega
          · obtain ⟨e1,_,e3⟩:=stopped_right ya ht2
            have SN:=stopped_wn ya ht2 AN
            have yd:(stopped y' i).1.ch.words.length+(m - 1)≤37:=by omega
            have hST:=stopped_own y' i b1 b2 b3 b4 d1 d2 d3 d4 _ _ OW9 ya
            clear e3
            generalize (stopped y' i).1=y'' at *
            go_wp2_with fail;refine bHit w9 (by exact zB) fun bk=>?_;refine (hST).mono ?_;rintro _ w10 ⟨⟨q1,q2,q3,q4,rfl,qo⟩,hbw10⟩;have hsw10:=hbw10.size;(try simp at hsw10);have zz:=And.intro (hQ hbw10 (b:=w3.heap.size)) <| hQ hbw10 (b:=w.heap.size);(first|simp [go_sem,z_w3,z_w,l_w,l_w3] at zz|simp [go_sem] at zz|skip);(try clear z_w3 x_w3 f_w3 l_w3);(try clear z_w x_w f_w l_w);obtain ⟨z_w3,z_w⟩:=zz;obtain ⟨x_w3,f_w3,l_w3⟩:=bO z_w3;obtain ⟨x_w,f_w,l_w⟩:=bO z_w;have hKw10:Below w9.heap.size w9 w10:=bT bk hbw10;clear hbw10 bk
            have hd10:=hdw9.below hKw10
            have hG10:=gB hGw9 hKw10
            have QO:=Lib.hid qo
            obtain ⟨p1,p2,p3,p4,r1,r2,r3,r4,rfl,rfl,rfl,rfl,_⟩:=qo.opens
            have nq3:=QO.out.ne (b:=w3.heap.size) (by omega)
            have QL:=QO.out.lo (lo':=w.heap.size+1) (by omega)
            go_wp2
            go_roundw
            case rel=>exact ⟨m - 1,y'',_,_,_,_,by go_num,e1,SN,yd,by (repeat (first|with_reducible assumption|with_reducible refine WOwn.alloc ?_ _|with_reducible refine WOwn.drew ?_|((with_reducible refine WOwn.store ?_ ?_ _);rotate_left;(focus (first|exact nq3))) )),nq3,by simp [go_sem, *],by simp [go_sem, *],by simp;omega,by (repeat (first|with_reducible assumption|with_reducible refine DS.alloc ?_|with_reducible refine DS.drew ?_|((with_reducible refine DS.setCell ?_ ?_ ?_);rotate_left;(focus ((try simp);(try omega)));(focus ((try simp);(try omega)))))),by (repeat (first|with_reducible assumption|with_reducible exact gR _ _|with_reducible refine gA ?_|with_reducible refine gD ?_|((with_reducible refine gS ?_ (.inr ?_));rotate_left;(focus ((try simp);(try omega))))))⟩
            case measure=>simp [intOf];omega
end Go.Proofs.YthdjlpkcmhajlaaGreat
set_option linter.unusedSimpArgs false
set_option linter.unusedVariables false
namespace Go.Proofs.YthdjlpkcmhajlaaGreat
open Go.RowKit
set_option linter.unusedSimpArgs false
attribute [local simp] bx_size
attribute [local go_sem ↓] zeroHand toLHand toVHand toSHand storeHandC
attribute [local go_sem] runSHand
theorem DS.box {w:World} {B g b:Nat} {vs:Array Value} (h:DS w B g) (hB:B≤b) (hn:g≠b):DS (setBox w b vs) B g:=h.keep (bx_heap_ne hn) (bBx (Below.refl _ _) hB)
end Go.Proofs.YthdjlpkcmhajlaaGreat
