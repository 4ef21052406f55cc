/-
  What the document's steps of chapters 6 to 10 compute, as plain functions on numbers and lists; no condition.
-/
import Derived.Test.YtffhjmepfojhnaaGreatT01
import Derived.Deep.RegionHeld3
set_option maxRecDepth 100000
set_option maxHeartbeats 1000000
set_option linter.unusedSimpArgs false
set_option linter.unusedVariables false
namespace Go.Proofs.YtffhjmepfojhnaaGreat
open _root_.Go.Proofs.Tryz
section
abbrev St:=Ch × Ha × Bool
def bC (c:Ch) (h:Ha) (f t k:Int):Bool:=aN c && (aU h && (dV h.pos f t && (k == 0 || h.code == k)))
def nothing:St:=(Ch.zero,Ha.zero,false)
def done (c:Ch) (h:Ha):St:=if aN c && aU h then (c,h,true) else nothing
def anew (h:Ha):Ha:=begun h.code h.elem h.beg
def cellAt (c:Ch) (i:Int):C3:=c.cells.getD i.toNat ⟨0,0,0⟩
def setAt (c:Ch) (i:Int) (x:C3):Ch:={ c with cells:=c.cells.set i.toNat x }
def bZ (c:Ch) (i st:Int):Ch:=setAt c i { cellAt c i with s:=st }
def mF (x:C3) (f t v:Int):C3:=⟨oF x.s x.e x.t f t v,x.e,wV x.s x.e x.t f t v⟩
def vW (x:C3) (f t v:Int):Bool:=kP x.s x.e x.t f t v
def bU (c:Ch) (i f t v:Int):Ch:=setAt c i (mF (cellAt c i) f t v)
def bB (c:Ch) (i f t v:Int):Bool:=vW (cellAt c i) f t v
def dC (h:Ha) (x:C3):Ha:={ h with seen:=x.s,wait:=x.t }
def kZ (c:Ch) (h:Ha):Ha × Bool :=
 let x:=cellAt c h.cell
 let y:=dC h x
 if x.s == 0 then ({ y with pos:=4 },true) else if x.s == 1 then ({ y with pos:=6 },true) else if x.s == 4 then ({ y with pos:=7 },true)
 else if x.s == 8 then (anew y,true) else if x.s == 10 then (anew y,true) else (y,false)
def nZ (c:Ch) (h:Ha):Ch × Ha:=(cZ c h.wait 1,if eG c h.wait 1 then { h with pos:=8 } else anew h)
def fA (c:Ch) (h:Ha) (st th el:Int):Ch × Ha :=
 if 80≤c.words.length then (c,aM 4 0) else
 if bB c h.cell h.seen st (c.words.length+1) then ({ bU c h.cell h.seen st (c.words.length+1) with words:=c.words ++ [0] },{ h with mine:=c.words.length+1,pos:=th })
 else (bU c h.cell h.seen st (c.words.length+1),{ h with pos:=el })
def jS (c:Ch) (h:Ha):St :=
 if h.seen != 0 && h.seen != 1 then nothing else
 if h.seen == 0 && (decide (h.come≤h.cell) && decide (h.fin≤h.cell)) then done (fA c h 3 23 3).1 (fA c h 3 23 3).2 else
 if bB c h.cell h.seen 2 0 then done (bU c h.cell h.seen 2 0) (aM 1 0) else done (bU c h.cell h.seen 2 0) { h with pos:=3 }
def vC (c:Ch) (h:Ha):St:=if c.sent == 40 then done c (aM 4 0) else done { c with sent:=c.sent+1 } { h with cell:=c.sent,pos:=2 }
def zi (c:Ch) (i m:Int):Ch:=setAt c i { cellAt c i with e:=nS (cellAt c i).s (cellAt c i).e (cellAt c i).t m }
def KM (c:Ch) (h:Ha):St:=done (zi c h.cell h.elem) { h with pos:=3 }
def vD (c:Ch) (h:Ha):St:=if (kZ c h).2 then done c (kZ c h).1 else nothing
def bE (c:Ch) (h:Ha):St :=
 if bC c h 1 8 1 then
  if h.pos == 1 then vC c h else if h.pos == 2 then KM c h else if h.pos == 3 then vD c h
  else if h.pos == 4 then done c { h with fin:=c.fin,pos:=5 } else if h.pos == 5 then done c { h with come:=c.got,pos:=6 }
  else if h.pos == 6 then jS c h else if h.pos == 7 then done (nZ c h).1 (nZ c h).2 else done (bZ c h.cell 7) (aM 1 0)
 else nothing
end
section
def dD (h:Ha) (x:C3):Ha:={ h with seen:=x.s,wait:=x.t,out:=x.e }
def iV (c:Ch) (h:Ha):Ha × Bool :=
 let x:=cellAt c h.cell
 let y:=dD h x
 if x.s == 0 then ({ y with pos:=11 },true) else if x.s == 1 then ({ y with pos:=11 },true) else if x.s == 2 then ({ y with pos:=12 },true)
 else if x.s == 3 then ({ y with pos:=12 },true) else if x.s == 9 then (anew y,true) else (y,false)
def dL (h:Ha) (t:Int):Ha:={ h with nxt:=t,pos:=16 }
def iF (c:Ch) (h:Ha) (to wt:Int) (thn:Ha):St :=
 if bB c h.cell h.seen to wt then done (bU c h.cell h.seen to wt) thn else done (bU c h.cell h.seen to wt) { h with pos:=10 }
def oH (h:Ha):Ha:=if h.pos == 16 then { h with nxt:=1 } else h
def fZ (c:Ch) (h:Ha):St :=
 if h.seen == 2 then iF c h 7 0 (dL h 0) else if h.seen == 3 then iF c h 5 h.wait { h with pos:=13 }
 else if h.seen != 0 && h.seen != 1 then nothing else if h.cell<h.come then iF c h 8 0 (dL h 2)
 else done (fA c h 4 16 10).1 (oH (fA c h 4 16 10).2)
def sN (c:Ch) (h:Ha):St:=if c.got == 40 then done c (aM 4 0) else done { c with got:=c.got+1 } { h with cell:=c.got,pos:=10 }
def sP (c:Ch) (h:Ha):St:=if (cellAt c h.cell).s == 6 then (c,h,false) else if (iV c h).2 then done c (iV c h).1 else nothing
def yG (c:Ch) (h:Ha):St:=done (cZ c h.wait 1) { h with pos:=if eG c h.wait 1 then 14 else 15 }
def aO (c:Ch) (h:Ha):St :=
 if bC c h 9 15 2 then
  if h.pos == 9 then sN c h else if h.pos == 10 then sP c h else if h.pos == 11 then done c { h with come:=c.sent,pos:=12 }
  else if h.pos == 12 then fZ c h else if h.pos == 13 then yG c h
  else if h.pos == 14 then done (bZ c h.cell 7) (dL h 0) else done (bZ c h.cell 9) (anew h)
 else nothing
def bF (h:Ha):Ha:=if h.nxt == 0 then aM 2 h.out else if h.nxt == 1 then { h with pos:=23 } else anew h
def lZ (c:Ch) (h:Ha):Ha :=
 let x:=cellAt c h.grow
 let y:=dC h x
 if x.s == 0 then { y with pos:=19 } else if x.s == 3 then { y with pos:=19 } else if x.s == 9 then { y with pos:=16 } else bF y
def kF (c:Ch) (h:Ha) (to wt:Int) (thn:Ha):St :=
 if bB c h.grow h.seen to wt then done (bU c h.grow h.seen to wt) thn else done (bU c h.grow h.seen to wt) { h with pos:=18 }
def iw (c:Ch) (h:Ha):St:=if h.seen == 3 then kF c h 6 h.wait { h with pos:=20 } else if h.seen == 0 then kF c h 1 0 (bF h) else nothing
def ib (c:Ch) (h:Ha):Ch × Ha:=if c.cap == 0 || c.fin == 40 then (c,bF h) else ({ c with fin:=c.fin+1 },{ h with grow:=c.fin,pos:=17 })
def ko (c:Ch) (h:Ha):St:=if (cellAt c h.grow).s == 5 then (c,h,false) else done c (lZ c h)
def uf (c:Ch) (h:Ha):St:=done (cZ c h.wait 1) { h with pos:=if eG c h.wait 1 then 21 else 22 }
def aW (c:Ch) (h:Ha):St :=
 if bC c h 16 22 2 then
  if h.pos == 16 then done (ib c h).1 (ib c h).2 else if h.pos == 17 then (if c.sent≤h.grow then done c (bF h) else done c { h with pos:=18 })
  else if h.pos == 18 then ko c h else if h.pos == 19 then iw c h else if h.pos == 20 then uf c h
  else if h.pos == 21 then done (bZ c h.grow 2) (bF h) else done (bZ c h.grow 9) { h with pos:=16 }
 else nothing
def j5 (c:Ch) (h:Ha):St :=
 if dH c h.mine == 0 then (c,h,false) else if dH c h.mine == 2 then done c { h with pos:=25 }
 else if h.code == 1 then done c (aM 1 0) else done c { h with pos:=24 }
def vE (h:Ha):Int:=if h.code == 1 then 9 else 10
def bJ (c:Ch) (h:Ha):St :=
 if bC c h 23 25 0 && (jR c h.mine && !(h.pos == 24 && h.code == 1)) then
  if h.pos == 23 then j5 c h else if h.pos == 24 then done c (aM 2 (cellAt c h.cell).e) else done (bZ c h.cell (vE h)) (aM 3 0)
 else nothing
def fu (c:Ch) (h:Ha):St :=
 if dV h.pos 1 8 then bE c h else if dV h.pos 9 15 then aO c h else if dV h.pos 16 22 then aW c h else bJ c h
end
section
structure De where
 task:Int
 code:Int
 elem:Int
 beg:Int
 fin:Int
 reply:Int
 out:Int
structure Wo where
 ch:Ch
 hands:List Ha
 deals:List De
 now:Int
def Wo.zero:Wo:=⟨Ch.zero,[],[],0⟩
def De.zero:De:=⟨0,0,0,0,0,0,0⟩
def gP (n:Nat) (who:Int):Bool:=dV who 0 ((n:Int) - 1)
def jQ (n:Nat) (now:Int) (d:De):Bool:=gP n d.task && (jT d.code d.elem d.reply && (dV d.beg 0 now && (dV d.fin 0 now && dV d.out 0 999)))
def gH (now:Int) (h:Ha):Bool:=aU h && decide (h.beg≤now)
def jH (x:Wo):Bool:=aN x.ch && (decide (1≤x.hands.length) && (decide (x.hands.length≤6) && (decide (x.deals.length≤1000) && dV x.now 0 20000)))
def dB (x:Wo):Bool:=jH x && (x.hands.all (gH x.now) && x.deals.all (jQ x.hands x.now))
def dS (cap tasks:Int):Wo × Bool:=if dV cap 0 4 && dV tasks 1 6 then (⟨fI cap,List.replicate tasks.toNat (aM 0 0),[],0⟩,true) else (Wo.zero,false)
def aJ (x:Wo) (who:Int):Ha:=x.hands.getD who.toNat Ha.zero
def fQ (x:Wo) (who:Int) (h:Ha):Wo:={ x with hands:=x.hands.set who.toNat h }
def bW (x:Wo) (who:Int):Bool:=gP x.hands who
def asked (x:Wo) (who k e:Int):Wo × Int :=
 if dB x && bW x who then
  if (called (aJ x who) k e).2 != 0 then (x,(called (aJ x who) k e).2) else if x.now == 20000 then (x,1)
  else ({ fQ x who { (called (aJ x who) k e).1 with beg:=x.now+1 } with now:=x.now+1 },0)
 else (Wo.zero,3)
def stepW (x:Wo) (who:Int) (s:St):Wo × Bool :=
 if !s.2.2 || x.now == 20000 then (x,false)
 else if s.2.1.pos != 0 then ({ fQ x who s.2.1 with now:=x.now+1,ch:=s.1 },true)
 else if decide (1000≤x.deals.length) || !jT (aJ x who).code (aJ x who).elem s.2.1.reply then (x,false)
 else ({ fQ x who s.2.1 with now:=x.now+1,ch:=s.1,deals:=x.deals ++ [⟨who,(aJ x who).code,(aJ x who).elem,(aJ x who).beg,x.now+1,s.2.1.reply,s.2.1.out⟩] },true)
def bP (x:Wo) (who:Int):Wo × Bool:=stepW x who (fu x.ch (aJ x who))
def gz:Nat→Wo→Int→Wo × Nat
 | 0,x,_=>(x,0)
 | n+1,x,who=>if (aJ x who).pos == 0 then (x,0) else if (bP x who).2 then ((gz n (bP x who).1 who).1,(gz n (bP x who).1 who).2+1) else (x,0)
def alone (x:Wo) (who most:Int):Wo × Int :=
 if dB x && bW x who then (if dV most 0 20000 then ((gz most.toNat x who).1,(gz most.toNat x who).2) else (x,-1)) else (Wo.zero,-1)
def stopped (x:Wo) (who:Int):Wo × Bool :=
 if dB x && bW x who then
  (if (aJ x who).pos != 23 then (x,false) else ({ x with ch:=cZ x.ch (aJ x who).mine 2 },eG x.ch (aJ x who).mine 2))
 else (Wo.zero,false)
end
section
open Go.RowKit
def jk (d:De):Array Value:=#[.int .i64 d.task,.int .i64 d.code,.int .i64 d.elem,.int .i64 d.beg,.int .i64 d.fin,.int .i64 d.reply,.int .i64 d.out]
def lS (hs:List Ha):List Value:=hs.flatMap fun h=>(aB h).toList
def oh (ds:List De):List Value:=ds.flatMap fun d=>(jk d).toList
def fO (hs:List Ha) (i j:Nat):Value:=(aB (hs.getD i Ha.zero)).getD j (.int .i64 0)
def sQ (ds:List De) (i j:Nat):Value:=(jk (ds.getD i De.zero)).getD j (.int .i64 0)
abbrev qX (w:World) (B:Nat) (a:Option Addr) (hs:List Ha):Prop:=Seg w B a hs.length 14 (fO hs)
abbrev uh (w:World) (B:Nat) (a:Option Addr) (ds:List De):Prop:=Seg w B a ds.length 7 (sQ ds)
abbrev oI (x:Wo) (a b d e:Option Addr) (p q r s:Nat):Value:=.agg #[x.ch.cap,x.ch.sent,x.ch.got,x.ch.fin,.slice a x.ch.cells p,.slice b x.ch.words q,.slice d x.hands r,.slice e x.deals s,x.now]
theorem nH (hs:List Ha):(lS hs).length=hs.length*14:=by
 induction hs with
 | nil=>rfl
 | cons c cs ih=>simp [lS,aB] at *;omega
theorem Db (ds:List De):(oh ds).length=ds.length*7:=by
 induction ds with
 | nil=>rfl
 | cons c cs ih=>simp [oh,jk] at *;omega
theorem nI:∀ (hs:List Ha) (i j:Nat),i<hs.length→j<14→(lS hs)[i*14+j]?=some (fO hs i j)
 | [],i,j,hi,_=>by simp at hi
 | c :: cs,0,j,_,hj=>by
  have e:lS (c :: cs)=(aB c).toList ++ lS cs:=by simp [lS]
  rw [e,List.getElem?_append_left (by simp [uQ];omega)];simp [fO,Array.getD,uQ,hj]
 | c :: cs,i+1,j,hi,hj=>by
  have h:=nI cs i j (by simpa using hi) hj;have e:lS (c :: cs)=(aB c).toList ++ lS cs:=by simp [lS]
  rw [e,List.getElem?_append_right (by simp [uQ];omega)];have F:(i+1)*14+j - (aB c).toList.length=i*14+j:=by simp [uQ];omega
  rw [F,h];simp [fO]
theorem uS:∀ (hs:List De) (i j:Nat),i<hs.length→j<7→(oh hs)[i*7+j]?=some (sQ hs i j)
 | [],i,j,hi,_=>by simp at hi
 | c :: cs,0,j,_,hj=>by
  have e:oh (c :: cs)=(jk c).toList ++ oh cs:=by simp [oh]
  rw [e,List.getElem?_append_left (by simp [jk];omega)];simp [sQ,Array.getD,jk,hj]
 | c :: cs,i+1,j,hi,hj=>by
  have h:=uS cs i j (by simpa using hi) hj;have e:oh (c :: cs)=(jk c).toList ++ oh cs:=by simp [oh]
  rw [e,List.getElem?_append_right (by simp [jk];omega)];have F:(i+1)*7+j - (jk c).toList.length=i*7+j:=by simp [jk];omega
  rw [F,h];simp [sQ]
theorem LW (hs:List Ha):∀ u ∈ lS hs,u.oneCell'=true:=by
 intro u F;simp only [lS,List.mem_flatMap] at F;obtain ⟨c,_,hc⟩:=F;simp [aB] at hc;rcases hc with rfl|rfl|rfl|rfl|rfl|rfl|rfl|rfl|rfl|rfl|rfl|rfl|rfl|rfl <;> rfl
theorem LY (hs:List De):∀ u ∈ oh hs,u.oneCell'=true:=by
 intro u F;simp only [oh,List.mem_flatMap] at F;obtain ⟨c,_,hc⟩:=F;simp [jk] at hc;rcases hc with rfl|rfl|rfl|rfl|rfl|rfl|rfl <;> rfl
abbrev dY (w:World) (lo:Nat) (v:Value) (hs:List Ha):Prop:=w.ownsRow lo 49 14 v hs.length (lS hs)
abbrev gU (w:World) (lo:Nat) (v:Value) (ds:List De):Prop:=w.ownsRow lo 44 7 v ds.length (oh ds)
theorem zt {w:World} {lo:Nat} {t:TypeId} {n k:Nat} {v:Value} {G:List Value} {f:Nat→Nat→Value} (h:w.ownsRow lo t k v n G) (I:∀ i j,i<n→j<k→G[i*k+j]?=some (f i j)):∃ (a:Option Addr) (cap:Nat),v=.slice a n cap∧Seg w w a n k f:=by
 rcases h.2 with ⟨rfl,F⟩|⟨g,cap,H,rfl,_,J,_⟩
 ·exact ⟨none,0,by rw [F],.inl F⟩
 ·refine ⟨_,cap,rfl,.inr ⟨g,0,rfl,(Array.getElem?_eq_some_iff.1 J).1,fun i j K L=>?_⟩⟩
  have:=h.cells (g:=g) rfl (i*k+j) _ (I i j K L);rw [← this];congr 1;by_cases e:i*k+j=0 <;> simp [Addr.add,e] <;> omega
theorem dY.seg {w:World} {lo:Nat} {v:Value} {hs:List Ha} (h:dY w lo v hs):∃ (a:Option Addr) (cap:Nat),v=.slice a hs.length cap∧Seg w w a hs.length 14 (fO hs):=zt h fun i j F G=>nI hs i j F G
theorem gU.seg {w:World} {lo:Nat} {v:Value} {ds:List De} (h:gU w lo v ds):∃ (a:Option Addr) (cap:Nat),v=.slice a ds.length cap∧Seg w w a ds.length 7 (sQ ds):=zt h fun i j F G=>uS ds i j F G
variable {w:World} {b o:Nat}
theorem lJ (x:Ha) (h:∀ j,j<14→w.cell? ⟨b,o+j,none⟩=some ((aB x).getD j (.int .i64 0))):(nY (.pointer (some ⟨b,o,none⟩))).run prog w=.ok (.agg (aB x)) w:=by
 have J:=h 0 tO;have h1:=h 1 tO;have h2:=h 2 tO;have h3:=h 3 tO;have K:=h 4 tO;have L:=h 5 tO;have h6:=h 6 tO;have M:=h 7 tO;have N:=h 8 tO;have O:=h 9 tO;have F:=h 10 tO;have G:=h 11 tO;have H:=h 12 tO;have I:=h 13 tO;simp [aB,Array.getD] at J h1 h2 h3 K L h6 M N O F G H I;simp [nY,aB,go_sem, *]
end
section
open Go.RowKit
def upd {α:Type} (f:Nat→α) (k:Nat) (v:α):Nat→α:=fun j=>cond (Nat.beq j k) v (f j)
theorem aX {α:Type} (f:Nat→α) (k j:Nat) (v:α):upd f k v j=if j=k then v else f j:=by
 unfold upd;by_cases h:j=k
 ·subst h;simp
 ·have:Nat.beq j k=false:=by cases F:Nat.beq j k with
   | false=>rfl
   | true=>exact absurd (Nat.eq_of_beq_eq_true F) h
  simp [this,h]
theorem nU {b:Bool} {P:Prop} (e:b=false) (h:b=true):P:=by rw [e] at h;cases h
def wZ (t:Array Value):List Nat→(Nat→Value)→Array Value
 | [],_=>t
 | d :: ds,s=>(wZ t ds s).setIfInBounds d (s d)
def fill (a:Act) (ds:List Nat) (s:Nat→Value):Act:=⟨wZ a.tmps ds s,a.defers⟩
theorem IW (t:Array Value) (ds:List Nat) (s:Nat→Value):(wZ t ds s).size=t.size:=by
 induction ds with
 | nil=>rfl
 | cons d ds ih=>simp [wZ,ih]
theorem LZ (t:Array Value) (ds:List Nat) (s:Nat→Value) (k:Nat):(wZ t ds s)[k]?=if k ∈ ds then (t[k]?).map (fun _=>s k) else t[k]?:=by
 induction ds with
 | nil=>simp [wZ]
 | cons d ds ih =>
  simp only [wZ,Array.getElem?_setIfInBounds,IW];by_cases h:d=k
  ·subst h
   by_cases F:d<t.size
   ·simp [F]
   ·simp [F]
  ·have h2:¬ k=d:=fun e=>h e.symm
   simp only [h,if_false,List.mem_cons,h2,false_or];exact ih
theorem Ma (a:Act) (ds:List Nat):fill a ds (fun k=>a.tmps.getD k undef)=a:=by
 unfold fill;have:wZ a.tmps ds (fun k=>a.tmps.getD k undef)=a.tmps:=by
  apply Array.ext_getElem?;intro k;rw [LZ];by_cases F:k<a.tmps.size
  ·simp [F]
  ·simp [F]
 rw [this]
def left (l:Nat→Bool):Nat→Nat
 | 0=>0
 | n+1=>left l n+cond (l n) 0 1
theorem Pk (l:Nat→Bool) (i n:Nat) (h:n≤i):left (upd l i true) n=left l n:=by
 induction n with
 | zero=>rfl
 | succ n ih =>
  have:upd l i true n=l n:=by rw [aX,if_neg tO]
  simp [left,ih tO,this]
theorem Pm (l:Nat→Bool) (i n:Nat) (h:i<n) (F:l i=false):left (upd l i true) n+1=left l n:=by
 induction n with
 | zero=>omega
 | succ n ih =>
  by_cases e:i=n
  ·subst e
   have:upd l i true i=true:=by rw [aX,if_pos rfl]
   simp [left,Pk l i i (Nat.le_refl _),this,F]
  ·have:upd l i true n=l n:=by rw [aX,if_neg tO]
   have:=ih tO;simp only [left, *];omega
theorem Mc (l:Nat→Bool) (n:Nat) (h:left l n=0):∀ i,i<n→l i=true:=by
 induction n with
 | zero=>intro i F;omega
 | succ n ih =>
  intro i F;simp only [left] at h;by_cases e:i=n
  ·subst e
   cases G:l i with
   | true=>rfl
   | false=>simp [G] at h
  ·exact ih tO i tO
def rJ (T:List (List Nat)):Nat→List Oper→Bool
 | _,[]=>true
 | i,o :: os=>(o.after.toList.all fun e=>!Region.binds .any e || Nat.blt e.on i) && ((T.getD i []).all fun t=>o.after.toList.any fun e=>Region.binds .any e && (Nat.beq e.on t || (T.getD e.on []).any fun u=>Nat.beq u t)) && rJ T (i+1) os
theorem IX {T:List (List Nat)} {j:Nat} {o:Oper}:∀ (F:List Oper) (i:Nat),rJ T i F=true→F[j]?=some o →
  (∀ e ∈ o.after,Region.binds .any e=true→e.on<i+j)∧∀ t ∈ T.getD (i+j) [],∃ e ∈ o.after,Region.binds .any e=true∧(e.on=t∨t ∈ T.getD e.on []):=by
 induction j with
 | zero =>
  intro F i h G;cases F with
  | nil=>simp at G
  | cons p F =>
   simp at G;subst G;simp only [rJ,Bool.and_eq_true] at h;obtain ⟨⟨h1,h2⟩,_⟩:=h;refine ⟨fun e I K=>?_,fun t ht=>?_⟩
   ·have:=List.all_eq_true.1 h1 e wT
    simp [K] at this;simpa [Nat.blt_eq] using this
   ·have:=List.all_eq_true.1 h2 t (by simpa using ht)
    obtain ⟨e,I,h3⟩:=List.any_eq_true.1 this;simp only [Bool.and_eq_true,Bool.or_eq_true] at h3;refine ⟨e,by simpa using I,h3.1,?_⟩;rcases h3.2 with H|H
    ·exact .inl (Nat.eq_of_beq_eq_true H)
    ·obtain ⟨u,L,J⟩:=List.any_eq_true.1 H
     exact .inr ((Nat.eq_of_beq_eq_true J) ▸ L)
 | succ j ih =>
  intro F i h G;cases F with
  | nil=>simp at G
  | cons p F =>
   simp at G;simp only [rJ,Bool.and_eq_true] at h;have:=ih F (i+1) h.2 G;rw [show i+(j+1)=i+1+j by omega];exact this
section
variable {P:Program} {ops:Array Oper} {Q:Exit→Act→World→Prop}
def Pn (P:Program) (ops:Array Oper) (Q:Exit→Act→World→Prop) (T:List (List Nat)) (F:(Nat→Value)→Act) (Φ:(Nat→Bool)→(Nat→Value)→World→Prop) (i:Nat) (o:Oper):Prop :=
 ∀ (l:Nat→Bool) (s:Nat→Value) (w:World),l i=false→(∀ t,(T.getD i []).any (Nat.beq t)=true→l t=true)→(∀ j,(T.getD j []).any (Nat.beq i)=true→l j=false)→Hid (Φ l s w) →
  ∀ K':Act→World→Prop,Shut (∀ s' a' w',a'=F s'→Φ (upd l i true) s' w'→K' a' w')→if Region.wanted o (yielded ops (F s).tmps)=true then Oper.wp P o (F s) w K' Q else K' ((F s).put o.dst undef) w
def Steps (P:Program) (ops:Array Oper) (Q:Exit→Act→World→Prop) (T:List (List Nat)) (F:(Nat→Value)→Act) (Φ:(Nat→Bool)→(Nat→Value)→World→Prop):Nat→List Oper→Prop
 | _,[]=>True
 | i,o :: os=>Pn P ops Q T F Φ i o∧Steps P ops Q T F Φ (i+1) os
theorem Steps.at {T:List (List Nat)} {F:(Nat→Value)→Act} {Φ:(Nat→Bool)→(Nat→Value)→World→Prop} {j:Nat} {o:Oper}:∀ (G:List Oper) (i:Nat),Steps P ops Q T F Φ i G→G[j]?=some o→Pn P ops Q T F Φ (i+j) o:=by
 induction j with
 | zero =>
  intro G i h H;cases G with
  | nil=>simp at H
  | cons p G=>simp at H;subst H;exact h.1
 | succ j ih =>
  intro G i h H;cases G with
  | nil=>simp at H
  | cons p G =>
   simp at H;have:=ih G (i+1) h.2 H;rw [show i+(j+1)=i+1+j by omega];exact this
theorem any_beq {L:List Nat} {t:Nat}:L.any (Nat.beq t)=true↔t ∈ L:=by
 rw [List.any_eq_true];constructor
 ·rintro ⟨x,G,F⟩
  exact (Nat.eq_of_beq_eq_true F) ▸ G
 ·intro h
  exact ⟨t,h,by simp⟩
theorem Md {T:List (List Nat)} {F:(Nat→Value)→Act} {Φ:(Nat→Bool)→(Nat→Value)→World→Prop} (hT:rJ T 0 ops.toList=true) (a1:Nat.ble T.length ops.size=true) (U:Steps P ops Q T F Φ 0 ops.toList)
  (fin:∀ (l:Nat→Bool) (s:Nat→Value) (w:World),(∀ i,Nat.blt i ops.size=true→l i=true)→Φ l s w→Q .normal (F s) w) :
  ∀ (I:Nat) (G:Array Bool) (l:Nat→Bool) (s:Nat→Value) (w:World),G.size=ops.size→(∀ i,i<ops.size→G[i]?=some (l i))→left l ops.size≤I →
   (∀ i e o,ops[i]?=some o→e ∈ o.after→Region.binds .any e=true→l i=true→l e.on=true)→Φ l s w→wpAny P .any ops Q I G (F s) w:=by
 have W:∀ i o,ops[i]?=some o→(∀ e ∈ o.after,Region.binds .any e=true→e.on<i)∧∀ t ∈ T.getD i [],∃ e ∈ o.after,Region.binds .any e=true∧(e.on=t∨t ∈ T.getD e.on []):=by
  intro i o H;have:=IX (j:=i) ops.toList 0 hT sF;simpa using this
 have up:∀ (l:Nat→Bool),(∀ i e o,ops[i]?=some o→e ∈ o.after→Region.binds .any e=true→l i=true→l e.on=true)→∀ n i,i<n→i<ops.size→l i=true→∀ t ∈ T.getD i [],l t=true:=by
  intro l hc n;induction n with
  | zero=>intro i L;omega
  | succ n ih =>
   intro i L hs M t ht;have H:ops[i]?=some ops[i]:=by simp [hs]
   obtain ⟨e,K,J,h3⟩:=(W i _ H).2 t ht;have h1:=hc i e _ H K J M;have h2:=(W i _ H).1 e K J;rcases h3 with h3|h3
   ·exact h3 ▸ h1
   ·exact ih e.on tO tO h1 t h3
 have a0:∀ (G:Array Bool) (l:Nat→Bool),G.size=ops.size→(∀ i,i<ops.size→G[i]?=some (l i))→Region.ready .any ops G=[]→∀ n i,i<n→i<ops.size→l i=true:=by
  intro G l O M hr n;induction n with
  | zero=>intro i L;omega
  | succ n ih =>
   intro i L hs;cases N:l i with
   | true=>rfl
   | false =>
    have H:ops[i]?=some ops[i]:=by simp [hs]
    have hm:i ∈ Region.ready .any ops G:=mem_ready.2 ⟨by simp [Array.getD_eq_getD_getElem?,M i hs,N],_,H,fun e K J=>by
     have h2:=(W i _ H).1 e K J;have h3:=ih e.on tO tO
     simp [Array.getD_eq_getD_getElem?,M e.on tO,h3]⟩
    rw [hr] at hm;cases hm
 intro I;induction I with
 | zero =>
  intro G l s w O M hf hc hΦ;have h0:=Mc l ops.size tO;refine ⟨?_,fin l s w (fun i L=>h0 i (by simpa [Nat.blt_eq] using L)) hΦ⟩;apply List.eq_nil_iff_forall_not_mem.2;intro i L;obtain ⟨h1,o,H,_⟩:=mem_ready.1 L;have hs:i<ops.size:=(Array.getElem?_eq_some_iff.1 H).1;rw [Array.getD_eq_getD_getElem?,M i hs,h0 i hs] at h1;cases h1
 | succ I ih =>
  intro G l s w O M hf hc hΦ;refine ⟨fun hr=>fin l s w (fun i L=>a0 G l O M hr (i+1) i tO (by simpa [Nat.blt_eq] using L)) hΦ,fun i L=>?_⟩;obtain ⟨h1,o,H,V⟩:=mem_ready.1 L;have hs:i<ops.size:=(Array.getElem?_eq_some_iff.1 H).1;have N:l i=false:=by
   rw [Array.getD_eq_getD_getElem?,M i hs] at h1;simpa using h1
  have hd:∀ e ∈ o.after,Region.binds .any e=true→l e.on=true:=fun e K J=>by
   have h2:=V e K J;have h3:=(W i o H).1 e K J;rw [Array.getD_eq_getD_getElem?,M e.on tO] at h2;simpa using h2
  have Z:=Steps.at (j:=i) ops.toList 0 U sF;rw [Nat.zero_add] at Z;refine wpOp_step H fun K' hK=>Z l s w N (fun t ht=>?_) (fun j hj=>?_) hΦ K' (fun s' a' w' ea hΦ'=>hK _ _ ?_)
  ·obtain ⟨e,K,J,h3⟩:=(W i o H).2 t (any_beq.1 ht)
   rcases h3 with h3|h3
   ·exact h3 ▸ hd e K J
   ·exact up l hc (e.on+1) e.on tO (by have:=(W i o H).1 e K J;omega) (hd e K J) t h3
  ·have X:=any_beq.1 hj
   cases a3:l j with
   | false=>rfl
   | true =>
    by_cases a2:j<ops.size
    ·have:=up l hc (j+1) j tO a2 a3 i X
     rw [N] at this;cases this
    ·have h5:=Nat.le_of_ble_eq_true a1
     simp [List.getD_eq_getElem?_getD,List.getElem?_eq_none (show T.length≤j by omega)] at X
  ·subst ea
   refine ih _ (upd l i true) s' w' (by simpa using O) (fun k Y=>?_) (by have:=Pm l i ops.size hs N;omega) (fun k e o2 R K J Y=>?_) hΦ'
   ·rw [Array.getElem?_setIfInBounds,aX,M k Y]
    by_cases e:i=k
    ·subst e;simp [O,hs]
    ·have e2:¬ k=i:=fun x=>e x.symm
     simp [e,e2]
   ·rw [aX] at Y ⊢
    by_cases e1:e.on=i
    ·simp [e1]
    ·rw [if_neg e1]
     by_cases e2:k=i
     ·subst e2
      rw [H] at R;obtain rfl:=Option.some.inj R;exact hd e K J
     ·rw [if_neg e2] at Y
      exact hc k e o2 R K J Y
theorem BO {id:Nat} {a:Act} {w:World} (T:List (List Nat)) (ds:List Nat) (Φ:(Nat→Bool)→(Nat→Value)→World→Prop) {F:(Nat→Value)→Act} (M:P.follows .mixedOrders=true) (K:rJ T 0 ops.toList=true) (H:Nat.ble T.length ops.size=true)
  (J:∀ s,fill a ds s=F s) (I:∀ s,Φ (fun _=>false) s w.drew) (G:Steps P ops Q T F Φ 0 ops.toList)
  (fin:∀ (l:Nat→Bool) (s:Nat→Value) (w:World),(∀ i,Nat.blt i ops.size=true→l i=true)→Φ l s w→Q .normal (F s) w):(Code.region id ops true).wp P Q a w:=by
 refine wp_region_any M ?_
 have:=Md K H G fin ops.size (Array.replicate ops.size false) (fun _=>false) (fun k=>a.tmps.getD k undef) w.drew cK (fun i L=>by simp [L]) (by
  generalize ops.size=n;induction n with
  | zero=>simp [left]
  | succ n ih=>simp [left];exact ih) (fun i e o _ _ _ h=>by cases h) (I _)
 rw [← J,Ma] at this;exact this
theorem lh {id:Nat} {a:Act} {w:World} (T:List (List Nat)) (ds:List Nat) (Φ:(Nat→Bool)→(Nat→Value)→World→Prop) {F:(Nat→Value)→Act} (I:∀ s,Φ (fun _=>false) s w.drew) (G:Steps P ops Q T F Φ 0 ops.toList) (fin:∀ (l:Nat→Bool) (s:Nat→Value) (w:World),(∀ i,Nat.blt i ops.size=true→l i=true)→Φ l s w→Q .normal (F s) w) (L:P.follows .mixedOrders=true:=by kernel_rfl) (K:rJ T 0 ops.toList=true:=by kernel_rfl) (H:Nat.ble T.length ops.size=true:=by kernel_rfl) (J:∀ s,fill a ds s=F s:=by intro s;simp only [fill,wZ,List.setIfInBounds_toArray,List.set_cons_zero,List.set_cons_succ];rfl):(Code.region id ops true).wp P Q a w:=BO T ds Φ L K H J I G fin
end
end
section
open Go.RowKit
variable {w w':World} {v:Value} {lo b:Nat} {x y ys:Array Value} {T T':TypeId}
theorem bL (w:World) (o:Obj):Below w w (w.alloc o):=(Below.refl _ _).alloc (Nat.le_refl _) o
theorem iC (h:hp w b=some (.cells x T)) (F:Below w w w'):hp w' b=some (.cells x T):=(o9 F (bO h).2.2).trans h
def ma (w:World) (v:Value) (lo:Nat) (x:Array Value) (T:TypeId):Prop:=∃ b,v=.pointer (some ⟨b,0,none⟩)∧lo≤b∧hp w b=some (.cells x T)
theorem ma.below (h:ma w v lo x T) (F:Below w w w'):ma w' v lo x T:=by
 obtain ⟨b,e,G,H⟩:=h;exact ⟨b,e,G,iC H F⟩
theorem ma.new (h:lo≤w.heap.size):ma (w.alloc (.cells x T)) (.pointer (some ⟨w,0,none⟩)) lo x T :=
 ⟨_,rfl,h,heap_alloc_new w _⟩
theorem rM (H:hp w b=some (.cells y T')) {F:Nat} (h:hp w F=some (.cells x T)) (G:T≠T'):hp (dX w b ys) F=some (.cells x T):=by
 have:F≠b:=by
  rintro rfl;rw [H] at h;simp at h;exact G h.2.symm
 exact (dR this).trans h
theorem o7 (F:hp w b=some (.cells y T)):hp (dX w b ys) b=some (.cells ys T):=by rw [Ac,F];rfl
theorem ma.far (h:ma w v lo x T) (I:hp w b=some (.cells y T')) (F:T≠T'):ma (dX w b ys) v lo x T:=by
 obtain ⟨G,e,H,h⟩:=h;exact ⟨G,e,H,rM I h F⟩
theorem iD {e:TypeId} {k m:Nat} {u:Value} {J:List Value} (h:w.ownsRow lo e k u m J) (I:hp w b=some (.cells y T')) (H:e≠T'):(dX w b ys).ownsRow lo e k u m J:=by
 refine fC h fun F=>?_
 rcases h.2 with ⟨rfl,_⟩|⟨g,cap,K,rfl,_,G,_⟩
 ·cases F
 ·simp [Value.ownBlock] at F
  subst F;unfold hp at I;rw [I] at G;simp at G;exact H G.2.symm
theorem fe {e:TypeId} {k m:Nat} {u:Value} {K:List Value} (h:w.ownsRow lo e k u m K) (I:hp w b=some (.cells y T')) (H:e≠T'):∀ i,u.ownBlock=some i→i≠b:=by
 rintro i F rfl;rcases h.2 with ⟨rfl,_⟩|⟨g,cap,J,rfl,_,G,_⟩
 ·cases F
 ·simp [Value.ownBlock] at F
  subst F;unfold hp at I;rw [I] at G;simp at G;exact H G.2.symm
end
section
def Ph (h:Ha):Prop:=(16≤h.pos∧h.pos≤22∧h.nxt=1)∨23≤h.pos
def Good (c:Ch) (h:Ha) (s:St):Prop:=s.2.2=true→aN s.1=true∧aU s.2.1=true∧(s.2.1.beg=h.beg∨s.2.1.beg=0) ∧
 ((s.1.words.length=c.words.length∧(Ph h→Ph s.2.1∨s.2.1.pos=0))∨(s.1.words.length=c.words.length+1∧¬ Ph h∧Ph s.2.1))
theorem DJ (c:Ch) (h:Ha) (a:Ch) (b:Ha):Good c h (a,b,false):=fun e=>by cases e
theorem iJ (c:Ch) (h:Ha):Good c h nothing:=fun e=>by cases e
theorem nJ {c:Ch} {h:Ha} {c':Ch} {h':Ha} (F:h'.beg=h.beg∨h'.beg=0) (G:(c'.words.length=c.words.length∧(Ph h→Ph h'∨h'.pos=0))∨(c'.words.length=c.words.length+1∧¬ Ph h∧Ph h')):Good c h (done c' h'):=by
 unfold done;split
 ·rename_i e
  simp at e;exact fun _=>⟨e.1,e.2,F,G⟩
 ·exact iJ c h
theorem xc (c:Ch) (v x:Int):(cZ c v x).words.length=c.words.length:=by unfold cZ;split <;> simp
theorem Po (h:Ha):(anew h).beg=h.beg:=rfl
theorem Me (h:Ha):(bF h).beg=h.beg∨(bF h).beg=0:=by unfold bF;split <;> (try split) <;> simp [aM,Po]
theorem Pp {h h':Ha} (e:h'.nxt=h.nxt) (hp:h.pos≤22) (H:Ph h):Ph (bF h')∨(bF h').pos=0:=by
 have F:h.nxt=1:=by
  rcases H with H|H
  ·exact H.2.2
  ·omega
 left;unfold bF;rw [e,F];right;simp
theorem Mf {c:Ch} {h:Ha} (F:¬ Ph h):Good c h (bE c h):=by
 have K:∀ {c':Ch} {h':Ha},(h'.beg=h.beg∨h'.beg=0)→c'.words.length=c.words.length→Good c h (done c' h'):=fun G I=>nJ G (.inl ⟨I,fun H=>absurd H F⟩)
 unfold bE
 repeat' split
 all_goals try exact iJ c h
 ·unfold vC;split
  ·exact K (.inr rfl) rfl
  ·exact K (.inl rfl) rfl
 ·exact K (.inl rfl) rfl
 ·unfold vD kZ
  simp only
  repeat' split
  all_goals first|exact iJ c h|exact K (.inl rfl) rfl
 ·exact K (.inl rfl) rfl
 ·exact K (.inl rfl) rfl
 ·unfold jS fA
  repeat' split
  all_goals first|exact iJ c h|exact K (.inr rfl) rfl|exact K (.inl rfl) rfl|skip
  exact nJ (.inl rfl) (.inr ⟨by simp,F,.inr (by show (23:Int)≤23;omega)⟩)
 ·unfold nZ
  refine K ?_ (xc _ _ _);simp only;split <;> exact .inl rfl
 ·exact K (.inr rfl) rfl
theorem Mg {c:Ch} {h:Ha} (F:¬ Ph h):Good c h (aO c h):=by
 have K:∀ {c':Ch} {h':Ha},(h'.beg=h.beg∨h'.beg=0)→c'.words.length=c.words.length→Good c h (done c' h'):=fun G I=>nJ G (.inl ⟨I,fun H=>absurd H F⟩)
 unfold aO
 repeat' split
 all_goals try exact iJ c h
 ·unfold sN;split
  ·exact K (.inr rfl) rfl
  ·exact K (.inl rfl) rfl
 ·unfold sP iV
  simp only
  repeat' split
  all_goals first|exact iJ c h|exact DJ c h _ _|exact K (.inl rfl) rfl
 ·exact K (.inl rfl) rfl
 ·unfold fZ iF fA oH
  repeat' split
  all_goals first|exact iJ c h|exact K (.inr rfl) rfl|exact K (.inl rfl) rfl|skip
  all_goals first|exact nJ (.inl rfl) (.inr ⟨by simp,F,.inl ⟨by simp,by simp,rfl⟩⟩)|skip
  all_goals simp_all
 ·unfold yG
  exact K (.inl rfl) (xc _ _ _)
 ·exact K (.inl rfl) rfl
 ·exact K (.inl rfl) rfl
theorem Mh {c:Ch} {h:Ha} (J:16≤h.pos) (hp:h.pos≤22):Good c h (aW c h):=by
 have N:Ph h→h.nxt=1:=fun H=>by
  rcases H with H|H
  ·exact H.2.2
  ·omega
 have K:∀ {c':Ch} {h':Ha},(h'.beg=h.beg∨h'.beg=0)→c'.words.length=c.words.length→h'.nxt=h.nxt→(16≤h'.pos∧h'.pos≤22)→Good c h (done c' h'):=fun F I e q=>nJ F (.inl ⟨I,fun H=>.inl (.inl ⟨q.1,q.2,e.trans (N H)⟩)⟩)
 have G:∀ {c':Ch} {h':Ha},h'.beg=h.beg→c'.words.length=c.words.length→h'.nxt=h.nxt→Good c h (done c' (bF h')):=fun {c' h'} F I e=>nJ (by rw [← F];exact Me h') (.inl ⟨I,fun H=>Pp e hp H⟩)
 unfold aW
 repeat' split
 all_goals try exact iJ c h
 ·unfold ib
  split
  ·exact G rfl rfl rfl
  ·exact K (.inl rfl) rfl rfl ⟨by simp,by simp⟩
 ·exact G rfl rfl rfl
 ·exact K (.inl rfl) rfl rfl ⟨by simp,by simp⟩
 ·unfold ko lZ
  simp only
  repeat' split
  all_goals first|exact DJ c h _ _|exact K (.inl rfl) rfl rfl ⟨by simp [dC],by simp [dC]⟩|exact G rfl rfl rfl
 ·unfold iw kF
  repeat' split
  all_goals first|exact iJ c h|exact K (.inl rfl) rfl rfl ⟨by simp,by simp⟩|exact G rfl rfl rfl
 ·unfold uf
  exact K (.inl rfl) (xc _ _ _) rfl ⟨by simp only;split <;> omega,by simp only;split <;> omega⟩
 ·exact G rfl rfl rfl
 ·exact K (.inl rfl) rfl rfl ⟨by simp,by simp⟩
theorem Mi (c:Ch) (h:Ha):Good c h (bJ c h):=by
 have K:∀ {c':Ch} {h':Ha},(h'.beg=h.beg∨h'.beg=0)→c'.words.length=c.words.length→(23≤h'.pos∨h'.pos=0)→Good c h (done c' h'):=fun F G q=>nJ F (.inl ⟨G,fun _=>q.imp (fun q=>.inr q) id⟩)
 unfold bJ
 repeat' split
 all_goals try exact iJ c h
 ·unfold j5
  repeat' split
  all_goals first|exact DJ c h _ _|exact K (.inr rfl) rfl (.inr rfl)|exact K (.inl rfl) rfl (.inl cK)
 ·exact K (.inr rfl) rfl (.inr rfl)
 ·exact K (.inr rfl) rfl (.inr rfl)
theorem good_step (c:Ch) (h:Ha):Good c h (fu c h):=by
 unfold fu;split
 ·rename_i e
  simp [dV] at e;exact Mf (by unfold Ph;omega)
 ·split
  ·rename_i e
   simp [dV] at e;exact Mg (by unfold Ph;omega)
  ·split
   ·rename_i e
    simp [dV] at e;exact Mh e.1 e.2
   ·exact Mi c h
end
section
open Go.RowKit
theorem Pq:(Tryz.prog.info? 93).map (fun i=>(i.zero,i.size,i.bytes))=some (some (.agg #[.int .i64 0,.int .i64 0,.int .i64 0]),3,24):=by kernel_rfl
theorem RY (n:Nat) (h:n≤1048576) (W:World):(Instr.makeSlice 28 (.int .i64 n) (.int .i64 n)).run prog W=.ok (.slice (some ⟨W,0,none⟩) n n) (W.alloc (.cells (madeCells #[.int .i64 0,.int .i64 0,.int .i64 0] (n*3)) 93)):=by
 obtain ⟨i,G,H,hs,F⟩:=info_parts Pq;have:=run_make (P:=prog) W 28 93 i _ underlying28 G H .i64 .i64 n n tO tO (by rw [F];omega) tO;rw [this,hs];simp [Value.cells]
theorem Mj (w:World) (lo:Nat) (h:lo≤w.heap.size):aF (w.alloc (.cells (madeCells #[.int .i64 0,.int .i64 0,.int .i64 0] (40*3)) 93)) lo (.slice (some ⟨w,0,none⟩) 40 40) (List.replicate 40 C3.zero):=by
 refine ⟨by rw [lH],.inr ⟨w,40,_,rfl,h,heap_alloc_new w _,Nat.le_refl _,by decide,size_madeCells _ _,?_⟩⟩;kernel_rfl
theorem DK (cap:Int) (w:World):Calls prog 129 #[.int .i64 cap] w fun r w' =>
  (∃ v1 v2,r=.returned (.agg #[.int .i64 (fI cap).cap,.int .i64 (fI cap).sent,.int .i64 (fI cap).got,.int .i64 (fI cap).fin,v1,v2])∧aF w' w v1 (fI cap).cells∧aI w' w v2 (fI cap).words)∧Below w w w':=by
 by_cases h:dV cap 0 4=true
 ·have e:fI cap=⟨cap,0,0,cap,List.replicate 40 C3.zero,[]⟩:=by simp [fI,h]
  rw [e];have F:∀ W:World,(Instr.makeSlice 28 (.int .i64 40) (.int .i64 40)).run prog W=.ok (.slice (some ⟨W,0,none⟩) 40 40) (W.alloc (.cells (madeCells #[.int .i64 0,.int .i64 0,.int .i64 0] (40*3)) 93)):=RY 40 tO;have G:Hid (∀ (W:World) (lo n:Nat),n=W.heap.size→lo≤W.heap.size→aF (W.alloc (.cells (madeCells #[.int .i64 0,.int .i64 0,.int .i64 0] (40*3)) 93)) lo (.slice (some ⟨n,0,none⟩) 40 40) (List.replicate 40 C3.zero)):=fun W lo n H h=>H ▸ Mj W lo h
  generalize madeCells #[.int .i64 0,.int .i64 0,.int .i64 0] (40*3)=I at F G;go_enter func129,ntmps129;go_wp2_with (go_at_call 121;refine (iP _ _ _ _).mono ?_;rintro _ _ ⟨rfl,rfl⟩);refine bodyPost_ret (v:=.agg #[.int .i64 cap,.int .i64 0,.int .i64 0,.int .i64 cap,.slice (some ⟨w+1,0,none⟩) 40 40,.slice none 0 0]) (by simp [results,results129,go_sem, *]) rfl ⟨⟨_,_,rfl,G.out _ _ _ cK cK,World.ownsRow_nil _ _ _ _⟩,?_⟩
  exact zB
 ·have e:fI cap=Ch.zero:=by simp [fI,h]
  rw [e];go_enter func129,ntmps129;go_wp2_with (go_at_call 121;refine (iP _ _ _ _).mono ?_;rintro _ _ ⟨rfl,rfl⟩);refine bodyPost_ret (v:=.agg #[.int .i64 0,.int .i64 0,.int .i64 0,.int .i64 0,.slice none 0 0,.slice none 0 0]) (by simp [results,results129,go_sem, *]) rfl ⟨⟨_,_,rfl,World.ownsRow_nil _ _ _ _,World.ownsRow_nil _ _ _ _⟩,?_⟩;exact zB
end
section
structure eP (x:Wo):Prop where
 ch:aN x.ch=true
 h1:1≤x.hands.length
 h6:x.hands.length≤6
 d:x.deals.length≤1000
 n0:0≤x.now
 n1:x.now≤20000
 hs:∀ h ∈ x.hands,aU h=true∧h.beg≤x.now
 ds:∀ d ∈ x.deals,jQ x.hands.length x.now d=true
theorem eZ (x:Wo):dB x=true↔eP x:=by
 constructor
 ·intro h
  simp only [dB,jH,dV,Bool.and_eq_true,decide_eq_true_eq,List.all_eq_true,gH] at h;obtain ⟨⟨a,b,c,d,e,f⟩,g,i⟩:=h;exact ⟨a,b,c,d,e,f,g,i⟩
 ·intro h
  simp only [dB,jH,dV,Bool.and_eq_true,decide_eq_true_eq,List.all_eq_true,gH];exact ⟨⟨h.ch,h.h1,h.h6,h.d,h.n0,h.n1⟩,h.hs,h.ds⟩
theorem vX {h:Ha} (e:aU h=true):0≤h.beg∧h.beg≤20000∧dV h.out 0 999=true:=by
 simp only [aU,yC,Bool.and_eq_true,dK] at e;obtain ⟨_,_,_,_,_,⟨F,G⟩,_,o⟩:=e;exact ⟨F,G,by simpa [dV] using o⟩
theorem nK {c:Ch} (e:aN c=true):c.cells.length=40∧c.words.length≤80:=by
 simp only [aN,fH,Bool.and_eq_true,decide_eq_true_eq] at e;exact ⟨e.1.2.2.2.2.1,e.1.2.2.2.2.2⟩
theorem IY {n:Nat} {a b:Int} {d:De} (h:jQ n a d=true) (H:a≤b):jQ n b d=true:=by
 simp only [jQ,Bool.and_eq_true,dK] at h ⊢;obtain ⟨h1,h2,h3,F,G⟩:=h;exact ⟨h1,h2,⟨h3.1,by omega⟩,⟨F.1,by omega⟩,G⟩
theorem KN {x:Wo} {who:Int} (h:bW x who=true):0≤who∧who.toNat<x.hands.length:=by
 simp [bW,gP,dV] at h;omega
theorem FP {x:Wo} {who:Int} (h:bW x who=true):aJ x who ∈ x.hands:=by
 have:=(KN h).2;unfold aJ;rw [List.getD_eq_getElem?_getD,List.getElem?_eq_getElem this];exact List.getElem_mem this
theorem RZ {l:List Ha} {i:Nat} {h y:Ha} (m:y ∈ l.set i h):y ∈ l∨y=h:=List.mem_or_eq_of_mem_set m
theorem FQ {x:Wo} {who:Int} (h:bW x who=true) (y:Ha):(x.hands.set who.toNat y).getD who.toNat Ha.zero=y:=by
 have:=(KN h).2;simp [List.getD,this]
theorem vY {x:Wo} {who:Int} {c:Ch} {h:Ha} {ds:List De} (F:eP x) (hc:aN c=true) (I:aU h=true) (G:h.beg≤x.now+1) (K:x.now≠20000) (J:ds.length≤1000) (H:∀ d ∈ ds,jQ x.hands (x.now+1) d=true) :
  eP ⟨c,x.hands.set who.toNat h,ds,x.now+1⟩:=by
 have:=F.n0;have:=F.n1;refine ⟨hc,by simpa using F.h1,by simpa using F.h6,J,by simp only;omega,by simp only;omega,?_,by simpa using H⟩;intro y m;rcases RZ m with m|rfl
 ·have:=F.hs y m
  exact ⟨this.1,by simp only;omega⟩
 ·exact ⟨I,G⟩
theorem ui {x:Wo} (F:eP x):∀ d ∈ x.deals,jQ x.hands (x.now+1) d=true:=fun d m=>IY (F.ds d m) tO
theorem ll {x:Wo} {who:Int} (F:eP x) (ht:bW x who=true) (hs:(bP x who).2=true) :
  eP (bP x who).1∧(bP x who).1.hands.length=x.hands.length∧aJ (bP x who).1 who=(fu x.ch (aJ x who)).2.1∧(bP x who).1.ch=(fu x.ch (aJ x who)).1∧(fu x.ch (aJ x who)).2.2=true:=by
 have G:=good_step x.ch (aJ x who);have R:=F.hs _ (FP ht);have hp:=vX R.1;generalize O:fu x.ch (aJ x who)=S at G ⊢;have e:bP x who=stepW x who S:=by rw [bP,O]
 rw [e] at hs ⊢;unfold stepW at hs ⊢;split at hs
 ·cases hs
 ·rename_i J
  rw [if_neg J];simp at J;obtain ⟨h2,N⟩:=J;obtain ⟨L,H,I,_⟩:=G h2;have M:S.2.1.beg≤x.now+1:=by rcases I with I|I <;> omega
  split at hs
  ·rename_i h3
   rw [if_pos h3];exact ⟨vY F L H M N F.d (ui F),by simp [fQ],FQ ht _,rfl,h2⟩
  ·rename_i h3
   rw [if_neg h3];split at hs
   ·cases hs
   ·rename_i K
    rw [if_neg K];simp at K;refine ⟨vY F L H M N dQ ?_,by simp [fQ],FQ ht _,rfl,h2⟩;intro d m;rcases List.mem_append.1 m with m|m
    ·exact ui F d m
    ·simp at m
     subst m;have T:=vX H;have:=F.n0;simp only [jQ,Bool.and_eq_true,dK];refine ⟨ht,K.2,⟨hp.1,by omega⟩,⟨by omega,by omega⟩,by simpa [dV] using T.2.2⟩
theorem Al {x:Wo} {who:Int} (h:(aJ x who).pos=0) (n:Nat):gz n x who=(x,0):=by
 cases n with
 | zero=>rfl
 | succ n=>simp [gz,h]
theorem FR (n:Nat):∀ (x:Wo) (who:Int),eP x→bW x who=true →
  eP (gz n x who).1∧(gz n x who).1.hands.length=x.hands.length∧(gz n x who).1.ch.words.length≤x.ch.words.length+1∧(Ph (aJ x who)→(gz n x who).1.ch.words.length=x.ch.words.length):=by
 induction n with
 | zero=>exact fun x who G ht=>⟨G,rfl,by simp [gz],fun _=>rfl⟩
 | succ n ih =>
  intro x who G ht;unfold gz;split
  ·exact ⟨G,rfl,by simp,fun _=>rfl⟩
  ·split
   ·rename_i h1
    obtain ⟨R,L,T,U,V⟩:=ll G ht h1;have J:bW (bP x who).1 who=true:=by unfold bW at ht ⊢;rw [L];exact ht
    obtain ⟨N,O,X,K⟩:=ih _ who R J;obtain ⟨_,_,_,g⟩:=good_step x.ch (aJ x who) V;rw [← U,← T] at g;refine ⟨N,O.trans L,?_,fun H=>?_⟩
    ·rcases g with ⟨I,_⟩|⟨I,_,M⟩
     ·simp only;omega
     ·have:=K M
      simp only;omega
    ·rcases g with ⟨I,F⟩|⟨_,F,_⟩
     ·rcases F H with F|F
      ·have:=K F
       simp only;omega
      ·simp only
       rw [Al F];exact I
     ·exact absurd H F
   ·exact ⟨G,rfl,by simp,fun _=>rfl⟩
theorem DL {h:Ha} {k e b:Int} (I:aU h=true) (F:(called h k e).2=0):aU { (called h k e).1 with beg:=b }=true↔(0≤b∧b≤20000):=by
 unfold called at F ⊢;rw [if_pos I] at F ⊢;split at F
 ·rename_i hp
  rw [if_pos hp];split at F
  ·rename_i G
   rw [if_pos G];have H:k=1∨k=2:=by simp [eD] at G;omega
   rcases H with rfl|rfl <;> simp [begun,aU,oG,sI,yC,G,dV] <;> omega
  ·simp at F
 ·simp at F
theorem uj {x:Wo} {who k e:Int} (F:eP x) (ht:bW x who=true):eP (asked x who k e).1∧(asked x who k e).1.hands.length=x.hands.length∧(asked x who k e).1.ch=x.ch:=by
 have I:=F.hs _ (FP ht);have:=F.n0;have:=F.n1;unfold asked;rw [if_pos (by simp [(eZ x).2 F,ht])];split
 ·exact ⟨F,rfl,rfl⟩
 ·rename_i G
  simp at G;split
  ·exact ⟨F,rfl,rfl⟩
  ·rename_i H
   simp at H;exact ⟨vY F F.ch ((DL I.1 G).2 ⟨by omega,by omega⟩) cK H F.d (ui F),by simp [fQ],rfl⟩
theorem Sa {c:Ch} (v:Int) (h:aN c=true):aN (cZ c v 2)=true:=by
 unfold cZ;split
 ·simp only [aN,fH,Bool.and_eq_true,List.all_eq_true,List.length_set] at h ⊢
  refine ⟨h.1,h.2.1,fun y m=>?_⟩;rcases List.mem_or_eq_of_mem_set m with m|rfl
  ·exact h.2.2 y m
  ·rfl
 ·exact h
theorem qf {x:Wo} {who:Int} (F:eP x) (ht:bW x who=true):eP (stopped x who).1∧(stopped x who).1.hands.length=x.hands.length∧(stopped x who).1.ch.words.length=x.ch.words.length:=by
 unfold stopped;rw [if_pos (by simp [(eZ x).2 F,ht])];split
 ·exact ⟨F,rfl,rfl⟩
 ·exact ⟨⟨Sa _ F.ch,F.h1,F.h6,F.d,F.n0,F.n1,F.hs,F.ds⟩,rfl,xc _ _ _⟩
theorem uT {cap tasks:Int} (H:0≤cap) (h1:cap≤4) (h2:1≤tasks) (h3:tasks≤6):(dS cap tasks).2=true∧eP (dS cap tasks).1∧(dS cap tasks).1.hands.length=tasks.toNat∧(dS cap tasks).1.ch.words.length=0:=by
 have F:dV cap 0 4=true:=lF H h1;have e:dS cap tasks=(⟨fI cap,List.replicate tasks.toNat (aM 0 0),[],0⟩,true):=by simp [dS,F,lF h2 h3]
 have G:fI cap=⟨cap,0,0,cap,List.replicate 40 C3.zero,[]⟩:=by simp [fI,F]
 rw [e,G];refine ⟨rfl,⟨?_,by simp;omega,by simp;omega,by simp,by simp,by simp,?_,by simp⟩,by simp,rfl⟩
 ·simp [aN,fH,dV,fw,U9,kN,C3.zero]
  omega
 ·intro h m
  obtain ⟨_,rfl⟩:=List.mem_replicate.1 m;exact ⟨by decide,Int.le_refl 0⟩
end
section
def uk (c:Ch) (h:Ha):St:=if h.seen == 3 then iF c h 5 (cellAt c h.cell).t { h with pos:=13 } else fZ c h
def fG (c:Ch) (h:Ha):St:=if bC c h 9 15 2 && h.pos == 12 then uk c h else aO c h
def qg (c:Ch) (h:Ha):St:=if h.seen == 3 then kF c h 6 (cellAt c h.grow).t { h with pos:=20 } else iw c h
def eF (c:Ch) (h:Ha):St:=if bC c h 16 22 2 && h.pos == 19 then qg c h else aW c h
def vF (c:Ch) (h:Ha):St :=
 if dV h.pos 1 8 then bE c h else if dV h.pos 9 15 then fG c h else if dV h.pos 16 22 then eF c h else bJ c h
def zl (c:Ch) (st wt:Int) (y z:Ha):St:=if bB c y.cell y.seen st wt then (bU c y.cell y.seen st wt,y,true) else (c,z,true)
end
section
def qH (c:C3):Nat:=if 2≤c.s then 1 else 0
def Dc:List C3→Nat
 | []=>0
 | c :: cs=>qH c+Dc cs
theorem Am:∀ (l:List C3) (i:Nat) (x d:C3),i<l.length→Dc (l.set i x)+qH (l.getD i d)=Dc l+qH x
 | [],i,x,d,h=>by simp at h
 | c :: cs,0,x,d,_=>by simp [Dc];omega
 | c :: cs,i+1,x,d,h=>by
  have:=Am cs i x d (by simpa using h);simp only [List.set_cons_succ,Dc,List.getD_cons_succ];omega
def Wn (c:Ch):Prop:=c.words.length≤Dc c.cells
theorem Ps (l:List C3) (i:Nat) (x:C3) (h:¬ i<l.length):l.set i x=l:=List.set_eq_of_length_le tO
theorem IZ {c:Ch} {i:Int} {x:C3} (h:Wn c) (G:qH (cellAt c i)≤qH x):Wn (setAt c i x):=by
 unfold Wn setAt at *;by_cases F:i.toNat<c.cells.length
 ·have:=Am c.cells i.toNat x ⟨0,0,0⟩ F
  unfold cellAt at G;simp only;omega
 ·simp only [Ps _ _ _ F];exact h
theorem Ao {x:C3} (h:2≤x.s):qH x=1:=by simp [qH,h]
theorem FT (x:C3):qH x≤1:=by unfold qH;split <;> omega
theorem qI {c:Ch} {i F:Int} (h:Wn c) (hs:2≤F):Wn (bZ c i F):=IZ h (by rw [Ao (x:={ cellAt c i with s:=F }) hs];exact FT _)
theorem FU (s e t f n v:Int):(kP s e t f n v=true∧s=f∧oF s e t f n v=n)∨(kP s e t f n v=false∧oF s e t f n v=s):=by
 by_cases h:kP s e t f n v=true
 ·refine .inl ⟨h,?_,by simp [oF,h]⟩
  simp [kP] at h;exact h.1
 ·exact .inr ⟨by simpa using h,by simp [oF,h]⟩
theorem xg {c:Ch} {i f t v:Int} (h:Wn c) (ht:2≤t∨f<2):Wn (bU c i f t v):=by
 refine IZ h ?_;rcases FU (cellAt c i).s (cellAt c i).e (cellAt c i).t f t v with ⟨_,G,F⟩|⟨_,F⟩
 ·rcases ht with ht|ht
  ·rw [Ao (x:=mF (cellAt c i) f t v) (by show 2≤oF _ _ _ _ _ _;rw [F];exact ht)];exact FT _
  ·have:¬ 2≤(cellAt c i).s:=by omega
   simp [qH,this]
 ·simp only [qH,mF,F];exact Nat.le_refl _
theorem Vg {c:Ch} {i m:Int} (h:Wn c):Wn (zi c i m):=IZ h (Nat.le_refl _)
theorem zw {c:Ch} {v x:Int} (h:Wn c):Wn (cZ c v x):=by
 unfold cZ;split
 ·unfold Wn at *;simpa using h
 ·exact h
theorem KO {c:Ch} {h:Ha} {G J el:Int} (H:Wn c) (hs:h.seen<2) (ht:2≤G) (I:h.cell.toNat<c.cells.length):Wn (fA c h G J el).1:=by
 unfold fA;split
 ·exact H
 ·split
  ·rename_i F
   unfold bB vW at F;have M:(cellAt c h.cell).s=h.seen:=by simp [kP] at F;exact F.1
   have B:=Am c.cells h.cell.toNat (mF (cellAt c h.cell) h.seen G (c.words.length+1)) ⟨0,0,0⟩ I;have K:qH (c.cells.getD h.cell.toNat ⟨0,0,0⟩)=0:=by
    have:¬ 2≤(cellAt c h.cell).s:=by omega
    exact if_neg this
   have L:qH (mF (cellAt c h.cell) h.seen G (c.words.length+1))=1:=Ao (by show 2≤oF _ _ _ _ _ _;simp only [oF,F];exact ht);unfold Wn bU setAt at *;simp only [List.length_append,List.length_cons,List.length_nil];omega
  ·exact xg H (.inl ht)
def yH (c:Ch) (s:St):Prop:=Wn c→s.2.2=true→Wn s.1
theorem DN (c:Ch) (a:Ch) (b:Ha):yH c (a,b,false):=fun _ e=>by cases e
theorem iK (c:Ch):yH c nothing:=fun _ e=>by cases e
theorem eU {c c':Ch} {h':Ha} (H:Wn c→Wn c'):yH c (done c' h'):=by
 unfold done;split
 ·exact fun h _=>H h
 ·exact iK c
theorem KP {c:Ch} {h:Ha} {f t k:Int} (e:bC c h f t k=true):h.cell.toNat<c.cells.length∧h.grow.toNat<c.cells.length:=by
 simp only [bC,aU,sI,Bool.and_eq_true,dK] at e;have:=(nK e.1).1;obtain ⟨_,⟨_,⟨⟨F,G⟩,⟨H,I⟩,_⟩,_⟩,_⟩:=e;omega
theorem Sb (c:Ch) (h:Ha):yH c (bE c h):=by
 unfold bE;split
 ·rename_i e
  have G:=(KP e).1
  repeat' split
  ·unfold vC;split <;> exact eU fun H=>H
  ·exact eU fun H=>Vg H
  ·unfold vD;split
   ·exact eU fun H=>H
   ·exact iK c
  ·exact eU fun H=>H
  ·exact eU fun H=>H
  ·unfold jS
   split
   ·exact iK c
   ·split
    ·rename_i F
     simp at F;exact eU fun H=>KO H tO cB G
    ·split <;> exact eU fun H=>xg H (.inl cB)
  ·exact eU fun H=>zw H
  ·exact eU fun H=>qI H cB
 ·exact iK c
theorem Sc (c:Ch) (h:Ha):yH c (aO c h):=by
 unfold aO;split
 ·rename_i e
  have F:=(KP e).1
  repeat' split
  ·unfold sN;split <;> exact eU fun H=>H
  ·unfold sP
   repeat' split
   ·exact DN c _ _
   ·exact eU fun H=>H
   ·exact iK c
  ·exact eU fun H=>H
  ·unfold fZ iF
   repeat' split
   all_goals first|exact iK c|exact eU fun H=>xg H (.inl cB)|skip
   rename_i h2 _;simp at h2;exact eU fun H=>KO H tO cB F
  ·exact eU fun H=>zw H
  ·exact eU fun H=>qI H cB
  ·exact eU fun H=>qI H cB
 ·exact iK c
theorem Sd (c:Ch) (h:Ha):yH c (aW c h):=by
 unfold aW
 repeat' split
 all_goals try exact iK c
 ·unfold ib;split <;> exact eU fun H=>H
 ·exact eU fun H=>H
 ·exact eU fun H=>H
 ·unfold ko;split
  ·exact DN c _ _
  ·exact eU fun H=>H
 ·unfold iw kF
  repeat' split
  all_goals first|exact iK c|exact eU fun H=>xg H (.inl cB)|skip
  all_goals
   rename_i F _;simp at F;exact eU fun H=>xg H (.inr tO)
 ·exact eU fun H=>zw H
 ·exact eU fun H=>qI H cB
 ·exact eU fun H=>qI H cB
theorem Sg (c:Ch) (h:Ha):yH c (bJ c h):=by
 unfold bJ
 repeat' split
 all_goals try exact iK c
 ·unfold j5
  repeat' split
  all_goals first|exact DN c _ _|exact eU fun H=>H
 ·exact eU fun H=>H
 ·exact eU fun H=>qI H (by unfold vE;split <;> decide)
theorem Sj (c:Ch) (h:Ha):yH c (fu c h):=by
 unfold fu
 repeat' split
 ·exact Sb c h
 ·exact Sc c h
 ·exact Sd c h
 ·exact Sg c h
theorem Ml {x:Wo} {who:Int} (F:eP x) (ht:bW x who=true) (h:Wn x.ch) (hs:(bP x who).2=true):Wn (bP x who).1.ch:=by
 obtain ⟨_,_,_,G,H⟩:=ll F ht hs;rw [G];exact Sj _ _ h H
theorem Mm (n:Nat):∀ (x:Wo) (who:Int),eP x→bW x who=true→Wn x.ch→Wn (gz n x who).1.ch:=by
 induction n with
 | zero=>exact fun x who _ _ h=>h
 | succ n ih =>
  intro x who F ht h;unfold gz;split
  ·exact h
  ·split
   ·rename_i h1
    obtain ⟨G,H,_⟩:=ll F ht h1;exact ih _ who G (by unfold bW at ht ⊢;rw [H];exact ht) (Ml F ht h h1)
   ·exact h
theorem FV {x:Wo} {who most:Int} (F:eP x) (ht:bW x who=true) (G:0≤most) (h1:most≤20000) (h:Wn x.ch):Wn (alone x who most).1.ch:=by
 have e:alone x who most=((gz most.toNat x who).1,((gz most.toNat x who).2:Int)):=by simp [alone,(eZ x).2 F,ht,lF G h1]
 rw [e];exact Mm _ _ _ F ht h
theorem Iq {x:Wo} {who:Int} (F:eP x) (ht:bW x who=true) (h:Wn x.ch):Wn (stopped x who).1.ch:=by
 unfold stopped;rw [if_pos (by simp [(eZ x).2 F,ht])];split
 ·exact h
 ·exact zw h
theorem Vh {cap tasks:Int} (F:0≤cap) (h1:cap≤4) (h2:1≤tasks) (h3:tasks≤6):Wn (dS cap tasks).1.ch:=by
 unfold Wn;rw [(uT F h1 h2 h3).2.2.2];exact Nat.zero_le _
theorem Mo {x:Wo} {who:Int} (h:(bP x who).2=false):(bP x who).1=x:=by
 unfold bP stepW at *
 repeat' split at h
 all_goals first|cases h|skip
 all_goals simp_all
end
section
def gV (s:St):Bool:=!s.2.2 && decide (0<s.1.cells.length)
theorem rO (c:Ch) (h:Ha):gV (done c h)=false:=by
 unfold gV done;split <;> simp [nothing,Ch.zero]
theorem vG:gV nothing=false:=by simp [gV,nothing,Ch.zero]
theorem yI (c:Ch) (h:Ha) (a b:Int) (y:Ha):gV (iF c h a b y)=false:=by
 unfold iF;split <;> exact rO _ _
theorem yJ (c:Ch) (h:Ha) (a b:Int) (y:Ha):gV (kF c h a b y)=false:=by
 unfold kF;split <;> exact rO _ _
theorem FW (c:Ch) (h:Ha) (e:h.seen=3):gV (fZ c h)=false:=by
 have F:(h.seen == 2)=false:=by simp [e]
 have G:(h.seen == 3)=true:=by simp [e]
 unfold fZ;rw [F,G];exact yI _ _ _ _ _
theorem FX (c:Ch) (h:Ha) (e:h.seen=3):gV (iw c h)=false:=by
 have F:(h.seen == 3)=true:=by simp [e]
 unfold iw;rw [F];exact yJ _ _ _ _ _
theorem FY (c:Ch) (h:Ha):gV (uk c h)=gV (fZ c h):=by
 unfold uk;split
 ·rename_i e
  rw [FW c h (by simpa using e),yI]
 ·rfl
theorem FZ (c:Ch) (h:Ha):gV (qg c h)=gV (iw c h):=by
 unfold qg;split
 ·rename_i e
  rw [FX c h (by simpa using e),yJ]
 ·rfl
theorem Ga (c:Ch) (h:Ha):gV (fG c h)=gV (aO c h):=by
 unfold fG;split
 ·rename_i e
  rw [Bool.and_eq_true] at e;have p:h.pos=12:=by simpa using e.2
  rw [FY];unfold aO;rw [if_pos e.1];simp [p]
 ·rfl
theorem Gb (c:Ch) (h:Ha):gV (eF c h)=gV (aW c h):=by
 unfold eF;split
 ·rename_i e
  rw [Bool.and_eq_true] at e;have p:h.pos=19:=by simpa using e.2
  rw [FZ];unfold aW;rw [if_pos e.1];simp [p]
 ·rfl
theorem Sk (c:Ch) (h:Ha):gV (vF c h)=gV (fu c h):=by
 unfold vF fu;split
 ·rfl
 ·split
  ·exact Ga c h
  ·split
   ·exact Gb c h
   ·rfl
end
section
def tu:Nat→Nat→Wo→Wo × Bool
 | 0,_,x=>(x,false)
 | k+1,i,x=>if (aJ x (i:Int)).pos=0 then tu k (i+1) x else ((tu k (i+1) (bP x (i:Int)).1).1,(bP x (i:Int)).2 || (tu k (i+1) (bP x (i:Int)).1).2)
def kG (x:Wo):Wo × Bool:=tu x.hands 0 x
def mQ:Nat→Wo→Wo × Nat
 | 0,x=>(x,0)
 | n+1,x=>if x.hands.all (fun h=>h.pos == 0) then (x,0) else if (kG x).2 then ((mQ n (kG x).1).1,(mQ n (kG x).1).2+1) else (x,0)
def setW (x:Wo) (most:Int):Wo × Int:=if dB x then (if dV most 0 20000 then ((mQ most.toNat x).1,(mQ most.toNat x).2) else (x,-1)) else (Wo.zero,-1)
end
section
def lT (x:Wo) (i:Nat):Bool:=(aJ x (i:Int)).pos == 23 && gV (fu x.ch (aJ x (i:Int)))
def jf (x:Wo):Nat→List Int
 | 0=>[]
 | k+1=>if lT x k then jf x k ++ [(k:Int)] else jf x k
def eX (x:Wo):List Int:=if dB x then jf x x.hands else []
def iL (x:Wo):Nat→Bool
 | 0=>true
 | k+1=>iL x k && ((aJ x (k:Int)).pos == 0 || lT x k)
def quietIn (x:Wo):Bool:=dB x && iL x x.hands
def jU (x:Wo) (l:List Int):Nat:=(l.filter fun i=>(aJ x i).code == 1).length
def lK (x:Wo) (l:List Int):Nat:=(l.filter fun i=>!((aJ x i).code == 1)).length
def lV (x:Wo):Bool:=quietIn x && (decide (((keptIn x.ch).length:Int)≤x.ch.cap) && ((jU x (eX x) == 0 || ((keptIn x.ch).length:Int) == x.ch.cap) && (lK x (eX x) == 0 || ((keptIn x.ch).length == 0 && jU x (eX x) == 0))))
end
end Go.Proofs.YtffhjmepfojhnaaGreat
