/- What the proof stands on: R9D, R9E, R9F, R9O, R8L. -/
import Derived.Test.YtbbikhlbkpjpjaaGreatDoorCards
import Derived.Test.YtbbikhlbkpjpjaaGreatDoorHRefSmallM
import Derived.Test.YtbbikhlbkpjpjaaGreatDoorL5AM
import Derived.Test.YtbbikhlbkpjpjaaGreatDoorR7EM
import Derived.Test.YtbbikhlbkpjpjaaGreatDoorR8TM
import Derived.Test.YtbbikhlbkpjpjaaGreatDoorR8VM
import Derived.Test.YtbbikhlbkpjpjaaGreatDoorTie
import Derived.Lib.LaidTab
import Derived.Lib.SmallJoins
namespace Go.Proofs.YtbbikhlbkpjpjaaGreatDoor
open Go.RowKit
structure OnA (a:Ab) (i:Nat) (U:Nat→Bool):Prop where
 lo:∀ g,U g=true→g<a.su i true
 kp:∀ g,a.kp i true g=true↔g<a.su i true∧U g=false∧a.su i true≤g+32
 le:a.su i true≤70
theorem on0 (i:Nat):OnA ab0 i (fun _=>false):=⟨fun g h=>(by cases h),fun g=>⟨fun h=>(by cases h),fun h=>absurd h.1 (Nat.not_lt_zero g)⟩,Nat.zero_le _⟩
def onMay (a:Ab) (i:Nat) (U:Nat→Bool) (g:Nat):Bool:=!U g && decide ((g:Int)≤(a.su i true:Int)+32) && decide ((a.su i true:Int) - 32≤(g:Int))
theorem OnA.rf {a:Ab} {i:Nat} {U:Nat→Bool} (h:OnA a i U) {g:Nat} (hg:g<70):(a.rf i true (g:Int)=0↔onMay a i U g=true):=by
 unfold Ab.rf onMay
 rw [if_neg (by omega),Int.toNat_natCast]
 by_cases hl:g<a.su i true
 · cases hk:a.kp i true g with
   | true =>
    obtain ⟨k1,k2,k3⟩:=(h.kp g).1 hk
    rw [if_neg (fun e=>by cases e.2),if_neg (by omega),k2]
    simp
    omega
   | false =>
    rw [if_pos ⟨by omega,rfl⟩]
    simp only [Bool.and_eq_true,Bool.not_eq_true',decide_eq_true_eq]
    refine ⟨fun e=>absurd e (by decide),fun e => ?_⟩
    have:=(h.kp g).2 ⟨hl,e.1.1,by omega⟩
    rw [hk] at this
    cases this
 · have hU:U g=false:=by
    cases hu:U g with
    | true=>exact absurd (h.lo g hu) hl
    | false=>rfl
   rw [if_neg (fun e=>hl (by omega)),hU]
   by_cases h3:(a.su i true:Int)+32<(g:Int)
   · rw [if_pos h3]
     simp
     omega
   · rw [if_neg h3]
     simp
     omega
def onU (U:Nat→Bool) (g:Nat):Nat→Bool:=fun x=>U x || x == g
theorem OnA.used {a:Ab} {i:Nat} {U:Nat→Bool} (h:OnA a i U) {g:Nat} (hg:g<70) (h0:a.rf i true (g:Int)=0):OnA (a.use i true (g:Int)) i (onU U g)∧(a.use i true (g:Int)).su i true=max (a.su i true) (g+1):=by
 obtain ⟨-,-,e3⟩:=Ab.rf_pos h0
 rw [Int.toNat_natCast] at e3
 unfold Ab.use
 rw [if_neg (fun e=>e h0),Int.toNat_natCast]
 by_cases hl:(g:Int)<(a.su i true:Int)
 · rw [if_pos hl]
   have hsu:(a.gone i true g).su i true=a.su i true:=rfl
   refine ⟨⟨fun x hx => ?_,fun x => ?_,h.le⟩,by rw [hsu];omega⟩
   · rw [hsu]
     unfold onU at hx
     simp only [Bool.or_eq_true,beq_iff_eq] at hx
     rcases hx with hx | hx
     · exact h.lo x hx
     · omega
   · rw [hsu]
     show (if i=i∧true=true∧x=g then false else a.kp i true x)=true↔_
     unfold onU
     by_cases e:x=g
     · rw [if_pos ⟨rfl,rfl,e⟩,e]
       simp
     · rw [if_neg (fun q=>e q.2.2),h.kp x]
       simp [e]
 · rw [if_neg hl]
   have hsu:(a.past i true g).su i true=g+1:=by
    show (if i=i∧true=true then g+1 else a.su i true)=g+1
    rw [if_pos ⟨rfl,rfl⟩]
   refine ⟨⟨fun x hx => ?_,fun x => ?_,by rw [hsu];omega⟩,by rw [hsu];omega⟩
   · rw [hsu]
     unfold onU at hx
     simp only [Bool.or_eq_true,beq_iff_eq] at hx
     rcases hx with hx | hx
     · have:=h.lo x hx;omega
     · omega
   · rw [hsu]
     show (if i=i∧true=true then (a.kp i true x || decide (a.su i true≤x) && decide (x<g)) && decide (g+1≤x+32) else a.kp i true x)=true↔_
     rw [if_pos ⟨rfl,rfl⟩]
     unfold onU
     have hlo:=h.lo x
     have hkx:=h.kp x
     simp only [Bool.and_eq_true,Bool.or_eq_true,decide_eq_true_eq,Bool.or_eq_false_iff,beq_eq_false_iff_ne]
     rw [hkx]
     cases hu:U x with
     | true =>
      have:=hlo hu
      constructor
      · rintro ⟨h1 | h1,h2⟩
        · cases h1.2.1
        · omega
      · rintro ⟨h1,⟨h2,-⟩,-⟩
        cases h2
     | false =>
      constructor
      · rintro ⟨h1 | h1,h2⟩
        · exact ⟨by omega,⟨rfl,by omega⟩,by omega⟩
        · exact ⟨by omega,⟨rfl,by omega⟩,by omega⟩
      · rintro ⟨h1,⟨-,h2⟩,h3⟩
        refine ⟨?_,by omega⟩
        by_cases q:x<a.su i true
        · exact .inl ⟨q,rfl,by omega⟩
        · exact .inr ⟨by omega,by omega⟩
end Go.Proofs.YtbbikhlbkpjpjaaGreatDoor
namespace Go.Proofs.YtbbikhlbkpjpjaaGreatDoor
open Go.RowKit
theorem und_ks:Tryz.prog.underlying 54=some (.map 3 9):=by kernel_rfl
theorem und_us:Tryz.prog.underlying 55=some (.map 3 4):=by kernel_rfl
theorem zero_ks (w:World):(zeroValue 9).run Tryz.prog w = .ok (.string ⟨#[]⟩) w:=by kernel_rfl
theorem zero_us (w:World):(zeroValue 4).run Tryz.prog w = .ok (.bool false) w:=by kernel_rfl
theorem w64a (z:Int) (h:0≤z∧z≤1000):wrap64 (z+32)=z+32∧wrap64 (z - 32)=z - 32∧wrap64 (z+1)=z+1:=by unfold wrap64;omega
theorem max_if17 (z y:Int):(if z<y then y else z)=max z y:=by split <;> omega
theorem rnd17 {k n:Nat} (h:k<n):k+1≤n∧n - (((k:Int)+1).toNat)<n - ((k:Int)).toNat:=by omega
theorem maxz (s g:Nat):((max s (g+1):Nat):Int)=max (s:Int) ((g:Int)+1):=by omega
theorem le1000 {s:Nat} (h:s≤70):(0:Int)≤(s:Int)∧(s:Int)≤1000:=by omega
theorem strB_size17 (n:Nat) (X:Nat→Nat):(strB n X).size=n:=by
 unfold strB
 simp [ByteArray.size]
theorem wpList_skip8 {P:Program} {w w':World} {ops:Array Oper} {rest:List Oper} {o:Oper} {a:Act} {Q:Exit→Act→World→Prop} (_hd:o.dst=none) (hgd:o.guard=none) (hrun:(execOp a.eval o).run P w = .ok .skip w') (h:wpList P ops Q rest (a.put o.dst undef) w'):wpList P ops Q (o :: rest) a w :=
 wpList_skip7 hgd hrun h
def kS (R:Nat→Nat) (i g:Nat):ByteArray:=strB 16 (gnK 8 R i true g) ++ strB 12 (gnN 8 R i true g)
def kF (R:Nat→Nat) (i m:Nat) (x:Int):Option Value:=if 0≤x∧x<(m:Int) then some (.string (kS R i x.toNat)) else none
def uF (U:Nat→Bool) (x:Int):Option Value:=if 0≤x∧U x.toNat=true then some (.bool true) else none
def Apt (x a b c d:Nat):Prop:=x≠a∧x≠b∧x≠c∧x≠d
theorem not3 {x b c d:Nat} (h1:x≠b) (h2:x≠c) (h3:x≠d):¬(x=b∨x=c∨x=d):=fun e=>Or.elim e h1 (fun e=>Or.elim e h2 h3)
theorem ge3 {n b c d:Nat} (h1:n≤b) (h2:n≤c) (h3:n≤d):∀ x,(x=b∨x=c∨x=d)→n≤x:=fun _ e=>Or.elim e (fun e=>e ▸ h1) (fun e=>Or.elim e (fun e=>e ▸ h2) (fun e=>e ▸ h3))
theorem LvR.put {w w':World} {tb sb rb kb n:Nat} {R:Nat→Nat} {a:Ab} {m:Nat} (h:LvR w tb sb rb kb n R a) (hb:But (fun b=>b=m) w w') (hn:m≠tb∧m≠sb∧m≠rb∧m≠kb):LvR w' tb sb rb kb n R a :=
 h.but hb ⟨fun e=>hn.1 e.symm,fun e=>hn.2.1 e.symm,fun e=>hn.2.2.1 e.symm,fun e=>hn.2.2.2 e.symm⟩
structure OnK (w:World) (r1 r2 r3 r4 s1 s2 s3 s4 mk:Nat) (R:Nat→Nat) (i k m:Nat) (W:World):Prop where
 r:LvR W r1 r2 r3 r4 8 R ab0
 s:∃ a:Ab,a.su i true=k∧LvR W s1 s2 s3 s4 8 R a
 ks:MpAt W mk (kF R i m)
 b:Below w.heap.size w W
 ge:(w.heap.size≤s2∧w.heap.size≤s3∧w.heap.size≤s4)∧w.heap.size≤mk∧w.heap.size≤r2∧w.heap.size≤r3∧w.heap.size≤r4
 ap:Apt r1 s2 s3 s4 mk∧Apt r2 s2 s3 s4 mk∧Apt r3 s2 s3 s4 mk∧Apt r4 s2 s3 s4 mk
 am:mk≠s1∧mk≠s2∧mk≠s3∧mk≠s4
theorem OnK.still {w:World} {r1 r2 r3 r4 s1 s2 s3 s4 mk:Nat} {R:Nat→Nat} {i k m:Nat} {W W':World} (h:OnK w r1 r2 r3 r4 s1 s2 s3 s4 mk R i k m W) (hb:Below W.heap.size W W'):OnK w r1 r2 r3 r4 s1 s2 s3 s4 mk R i k m W':=by
 obtain ⟨a,h1,h2⟩:=h.s
 exact ⟨h.r.still hb,⟨a,h1,h2.still hb⟩,h.ks.below hb h.ks.lt,below_next h.b hb,h.ge,h.ap,h.am⟩
theorem OnK.next {w:World} {r1 r2 r3 r4 s1 s2 s3 s4 mk:Nat} {R:Nat→Nat} {i k m:Nat} {W:World} (h:OnK w r1 r2 r3 r4 s1 s2 s3 s4 mk R i k m W) (hT:TabAt w) (hD:DbT w) (hi:i<8) (hk:k<70) :
 Calls Tryz.prog 14 #[pA s1 0,.int .i64 (i:Int),.bool true] W fun e W'=>∃ q,e = .returned (.tuple #[.int .i64 (k:Int),.slice (some ⟨q,0,none⟩) 16 16,.slice (some ⟨q,16,none⟩) 12 12,.int .i64 0])∧Cs W' (.slice (some ⟨q,0,none⟩) 16 16) (strB 16 (gnK 8 R i true k))∧Cs W' (.slice (some ⟨q,16,none⟩) 12 12) (strB 12 (gnN 8 R i true k))∧OnK w r1 r2 r3 r4 s1 s2 s3 s4 mk R i (k+1) m W':=by
 obtain ⟨a,h1,h2⟩:=h.s
 have c:=aNext h2 (hT.still h.b) (hD.keep h.b) true hi (by rw [h1];omega)
 rw [h1] at c
 refine c.mono ?_
 rintro e W' ⟨q,q1,q2,q3,q4,q5⟩
 obtain ⟨x1,x2⟩:=ky_cs q3 (gnK_lt 8 R i true k) (gnN_lt 8 R i true k)
 obtain ⟨⟨g1,g2,g3⟩,g4,g5⟩:=h.ge
 obtain ⟨a1,a2,a3,a4⟩:=h.ap
 have hr:=h.r.but q5 ⟨not3 a1.1 a1.2.1 a1.2.2.1,not3 a2.1 a2.2.1 a2.2.2.1,not3 a3.1 a3.2.1 a3.2.2.1,not3 a4.1 a4.2.1 a4.2.2.1⟩
 have hm:=h.ks.same (q5.block mk h.ks.lt (not3 h.am.2.1 h.am.2.2.1 h.am.2.2.2))
 have hb:=h.b.trans (q5.below h.b.size (ge3 g1 g2 g3))
 have hs:(a.past i true k).su i true=k+1:=by
  show (if i=i∧true=true then k+1 else a.su i true)=k+1
  rw [if_pos ⟨rfl,rfl⟩]
 exact ⟨q,q1,x1,x2,hr,⟨_,hs,q4⟩,hm,hb,h.ge,h.ap,h.am⟩
theorem OnK.put {w:World} {r1 r2 r3 r4 s1 s2 s3 s4 mk:Nat} {R:Nat→Nat} {i k:Nat} {W:World} (h:OnK w r1 r2 r3 r4 s1 s2 s3 s4 mk R i (k+1) k W) :
 ∃ W',(Instr.mapUpdate 54 (.map (some mk)) (.int .i64 (k:Int)) (.string (kS R i k))).run Tryz.prog W = .ok () W'∧OnK w r1 r2 r3 r4 s1 s2 s3 s4 mk R i (k+1) (k+1) W':=by
 obtain ⟨W',q1,q2,q3,q4⟩:=mp_put h.ks und_ks und_i7 (k:Int) (.string (kS R i k))
 obtain ⟨a,h1,h2⟩:=h.s
 obtain ⟨a1,a2,a3,a4⟩:=h.ap
 refine ⟨W',q1,h.r.put q3 ⟨a1.2.2.2.symm,a2.2.2.2.symm,a3.2.2.2.symm,a4.2.2.2.symm⟩,⟨a,h1,h2.put q3 h.am⟩,q2.congr (fun x => ?_),h.b.trans (q3.below h.b.size (fun x e=>e ▸ h.ge.2.1)),h.ge,h.ap,h.am⟩
 unfold upm kF
 by_cases e:x=(k:Int)
 · rw [if_pos e,if_pos (by omega),e,Int.toNat_natCast]
 · rw [if_neg e]
   by_cases e2:0≤x∧x<(k:Int)
   · rw [if_pos e2,if_pos (by omega)]
   · rw [if_neg e2,if_neg (by omega)]
structure OnJ (w:World) (r1 r2 r3 r4 mk mu:Nat) (R:Nat→Nat) (i:Nat) (a:Ab) (U:Nat→Bool) (W:World):Prop where
 on:OnA a i U
 r:LvR W r1 r2 r3 r4 8 R a
 ks:MpAt W mk (kF R i 70)
 us:MpAt W mu (uF U)
 b:Below w.heap.size w W
 ge:(w.heap.size≤r2∧w.heap.size≤r3∧w.heap.size≤r4)∧w.heap.size≤mu
 ak:mk≠r1∧mk≠r2∧mk≠r3∧mk≠r4
 au:mu≠r1∧mu≠r2∧mu≠r3∧mu≠r4
 ne:mk≠mu
theorem OnJ.still {w:World} {r1 r2 r3 r4 mk mu:Nat} {R:Nat→Nat} {i:Nat} {a:Ab} {U:Nat→Bool} {W W':World} (h:OnJ w r1 r2 r3 r4 mk mu R i a U W) (hb:Below W.heap.size W W'):OnJ w r1 r2 r3 r4 mk mu R i a U W' :=
 ⟨h.on,h.r.still hb,h.ks.below hb h.ks.lt,h.us.below hb h.us.lt,below_next h.b hb,h.ge,h.ak,h.au,h.ne⟩
theorem OnJ.key {w:World} {r1 r2 r3 r4 mk mu:Nat} {R:Nat→Nat} {i:Nat} {a:Ab} {U:Nat→Bool} {W:World} (h:OnJ w r1 r2 r3 r4 mk mu R i a U W) (hT:TabAt w) (hD:DbT w) (hi:i<8) {g:Nat} (h0:a.rf i true (g:Int)=0) :
 Calls Tryz.prog 15 #[pA r1 0,.int .i64 (i:Int),.bool true,.int .i64 (g:Int)] W fun e W'=>∃ q,e = .returned (.tuple #[.slice (some ⟨q,0,none⟩) 16 16,.slice (some ⟨q,16,none⟩) 12 12,.int .i64 0])∧q<W'.heap.size∧Apt q r2 r3 r4 mu∧RW W' q 0 (kyL (gnK 8 R i true g) (gnN 8 R i true g))∧OnJ w r1 r2 r3 r4 mk mu R i a U W':=by
 have c:=aKey h.r (hT.still h.b) (hD.keep h.b) true hi (g:Int) h0
 rw [Int.toNat_natCast] at c
 refine c.mono ?_
 rintro e W' ⟨q,q1,q2,q3,q4⟩
 obtain ⟨l1,l2,l3,l4⟩:=h.r.lts
 have l5:=h.us.lt
 exact ⟨q,q1,q3.lt,⟨by omega,by omega,by omega,by omega⟩,q3,h.still q4⟩
theorem OnJ.use {w:World} {r1 r2 r3 r4 mk mu:Nat} {R:Nat→Nat} {i:Nat} {a:Ab} {U:Nat→Bool} {W:World} (h:OnJ w r1 r2 r3 r4 mk mu R i a U W) (hT:TabAt w) (hD:DbT w) (hi:i<8) {g:Nat} (h0:a.rf i true (g:Int)=0) :
 Calls Tryz.prog 18 #[pA r1 0,.int .i64 (i:Int),.bool true,.int .i64 (g:Int)] W fun e W'=>e = .returned (.int .i64 0)∧But (fun b=>b=r2∨b=r3∨b=r4) W W'∧LvR W' r1 r2 r3 r4 8 R (a.use i true (g:Int))∧MpAt W' mk (kF R i 70)∧MpAt W' mu (uF U)∧Below w.heap.size w W':=by
 have c:=aUse h.r (hT.still h.b) (hD.keep h.b) true hi (g:Int)
 rw [h0] at c
 refine c.mono ?_
 rintro e W' ⟨q1,q2,q3⟩
 exact ⟨q1,q3,q2,h.ks.same (q3.block mk h.ks.lt (not3 h.ak.2.1 h.ak.2.2.1 h.ak.2.2.2)),h.us.same (q3.block mu h.us.lt (not3 h.au.2.1 h.au.2.2.1 h.au.2.2.2)),h.b.trans (q3.below h.b.size (ge3 h.ge.1.1 h.ge.1.2.1 h.ge.1.2.2))⟩
theorem OnJ.keyNo {w:World} {r1 r2 r3 r4 mk mu:Nat} {R:Nat→Nat} {i:Nat} {a:Ab} {U:Nat→Bool} {W:World} (h:OnJ w r1 r2 r3 r4 mk mu R i a U W) (hi:i<8) {g:Nat} (h0:a.rf i true (g:Int)≠0) :
 Calls Tryz.prog 15 #[pA r1 0,.int .i64 (i:Int),.bool true,.int .i64 (g:Int)] W fun e W'=>e = .returned (.tuple #[.slice none 0 0,.slice none 0 0,.int .i64 (a.rf i true (g:Int))])∧OnJ w r1 r2 r3 r4 mk mu R i a U W' :=
 (aKey_no h.r true hi (g:Int) h0).mono fun _ _ ⟨q1,q2⟩=>⟨q1,h.still q2⟩
theorem OnJ.useNo {w:World} {r1 r2 r3 r4 mk mu:Nat} {R:Nat→Nat} {i:Nat} {a:Ab} {U:Nat→Bool} {W:World} (h:OnJ w r1 r2 r3 r4 mk mu R i a U W) (hi:i<8) {g:Nat} (h0:a.rf i true (g:Int)≠0) :
 Calls Tryz.prog 18 #[pA r1 0,.int .i64 (i:Int),.bool true,.int .i64 (g:Int)] W fun e W'=>e = .returned (.int .i64 (a.rf i true (g:Int)))∧OnJ w r1 r2 r3 r4 mk mu R i a U W' :=
 (rUse_no _ _ _ _ _ h0 W (h.r.rf true hi (g:Int))).mono fun _ _ ⟨q1,q2⟩=>⟨q1,h.still q2⟩
theorem ks_look {R:Nat→Nat} {i mk:Nat} {W:World} (h:MpAt W mk (kF R i 70)) {g:Nat} (hg:g<70):(Instr.lookup 54 (.map (some mk)) (.int .i64 (g:Int)) false).run Tryz.prog W = .ok (.string (kS R i g)) W:=by
 rw [mp_look h und_ks und_i7 zero_ks (g:Int) false,if_neg Bool.false_ne_true]
 unfold kF
 rw [if_pos (by omega),Int.toNat_natCast]
 rfl
theorem us_look {U:Nat→Bool} {mu:Nat} {W:World} (h:MpAt W mu (uF U)) (g:Nat):(Instr.lookup 55 (.map (some mu)) (.int .i64 (g:Int)) false).run Tryz.prog W = .ok (.bool (U g)) W:=by
 rw [mp_look h und_us und_i7 zero_us (g:Int) false,if_neg Bool.false_ne_true]
 unfold uF
 rw [Int.toNat_natCast]
 cases hu:U g with
 | true=>rw [if_pos ⟨Int.natCast_nonneg g,rfl⟩];rfl
 | false=>rw [if_neg (fun e=>by cases e.2)];rfl
theorem OnJ.used {w:World} {r1 r2 r3 r4 mk mu:Nat} {R:Nat→Nat} {i:Nat} {a:Ab} {U:Nat→Bool} {W0 W:World} (h:OnJ w r1 r2 r3 r4 mk mu R i a U W0) {g:Nat} (hg:g<70) (h0:a.rf i true (g:Int)=0) (hr:LvR W r1 r2 r3 r4 8 R (a.use i true (g:Int))) (hk:MpAt W mk (kF R i 70)) (hu:MpAt W mu (uF U)) (hb:Below w.heap.size w W) :
 ∃ W',(Instr.mapUpdate 55 (.map (some mu)) (.int .i64 (g:Int)) (.bool true)).run Tryz.prog W = .ok () W'∧OnJ w r1 r2 r3 r4 mk mu R i (a.use i true (g:Int)) (onU U g) W':=by
 obtain ⟨W',q1,q2,q3,q4⟩:=mp_put hu und_us und_i7 (g:Int) (.bool true)
 refine ⟨W',q1,(h.on.used hg h0).1,hr.put q3 h.au,hk.same (q3.block mk hk.lt h.ne),q2.congr (fun x => ?_),hb.trans (q3.below hb.size (fun x e=>e ▸ h.ge.2)),h.ge,h.ak,h.au,h.ne⟩
 unfold upm uF onU
 by_cases e:x=(g:Int)
 · rw [if_pos e,if_pos (by rw [e,Int.toNat_natCast];simp)]
 · rw [if_neg e]
   by_cases e2:0≤x
   · have:(x.toNat == g)=false:=by simp;omega
     rw [this,Bool.or_false]
   · rw [if_neg (fun q=>e2 q.1),if_neg (fun q=>e2 q.1)]
end Go.Proofs.YtbbikhlbkpjpjaaGreatDoor
namespace Go.Proofs.YtbbikhlbkpjpjaaGreatDoor
open Go.RowKit
set_option maxRecDepth 100000 in
set_option maxHeartbeats 8000000 in
theorem ratchetOnce_any (sv:Value) (n:Nat) (bs:Nat→Nat) (hbs:∀ j,bs j<256) (lf:Int) (lv:Value) (ss:List Op17) (w:World) (hT:TabAt w) (hD:DbT w) (hv:BytesIn w sv n bs) (hl:OpsAt17 w lv ss) (hsz:ss.length≤140737488355328) :
 Calls Tryz.prog 5 #[sv,.int .i64 lf,lv] w fun e w'=>e = .returned (.bool true)∧Below w.heap.size w w':=by
 obtain ⟨i,hi8,ei⟩:=norm17 lf 8 (by decide) (by decide)
 replace ei:Int.tmod (wrap64 (Int.tmod lf 8+8)) 8=(i:Int):=ei
 obtain ⟨xo,cp,rfl,hops⟩:=hl
 have cF:=fit17_any sv n bs w hv
 have hR:=fit17_lt (n:=n) hbs
 obtain ⟨R,hRe⟩:∃ R,R=fit17 n bs:=⟨_,rfl⟩
 rw [←hRe] at cF hR
 have Hops:=Hid.mk' hops
 have hmm:=@run_makeMap Tryz.prog
 clear hv hRe hops
 go_enter Tryz.func5,Tryz.ntmps5
 go_upto_region 4 with (first
  | (go_at_call 19;refine cF.mono ?_;clear cF;rintro e w1 ⟨rfl,hlt,hrow,hb1⟩;have cN:=kNew w.heap.size 0 32 R hR (n:=8) (by decide) hlt hrow)
  | (go_at_call 7;refine cN.mono ?_;clear cN;rintro e w2 ⟨r1,r2,r3,r4,rfl,hr,hb2,hrn⟩))
 have cM:=kNew w.heap.size 0 32 R hR (n:=8) (by decide) (Nat.lt_of_lt_of_le hlt hb2.size) (range_keep hrow hlt hb2)
 go_upto_region 5 with (go_at_call 7;refine cM.mono ?_;clear cM;rintro e w3 ⟨s1,s2,s3,s4,rfl,hs,hb3,hsn⟩)
 have hb12:=below_next hb1 hb2
 have l2:=hr.lts
 have l3:=hs.lts
 have z1:=hb1.size
 have z2:=hb2.size
 have z3:=hb3.size
 have hr3:=hr.still hb3
 have bw3:=below_next hb12 hb3
 clear hr hb3 hb2 hb1 hb12 hrow hlt
 go_upto_region 7 with (first
  | (go_at_call 9;refine (num17_any _ _).mono ?_;rintro e wn ⟨rfl,hwn⟩;obtain rfl:=hwn.symm)
  | (go_at_call 10;refine (knows17_any _ (hT.still bw3) (hD.keep bw3)).mono ?_;rintro e w4 ⟨rfl,hb4⟩))
 have z4:=hb4.size
 have K0:OnK w r1 r2 r3 r4 s1 s2 s3 s4 w4.heap.size R i 0 0 (w4.alloc (.map #[] 0)):=by
  have ba:Below w4.heap.size w4 (w4.alloc (.map #[] 0)):=(Below.refl _ _).alloc (Nat.le_refl _) _
  refine ⟨(hr3.still hb4).still ba,⟨ab0,rfl,(hs.still hb4).still ba⟩,(mp_empty w4).congr (fun x => ?_),below_next (below_next bw3 hb4) ba,⟨⟨by omega,by omega,by omega⟩,by omega,by omega,by omega,by omega⟩,⟨⟨by omega,by omega,by omega,by omega⟩,⟨by omega,by omega,by omega,by omega⟩,⟨by omega,by omega,by omega,by omega⟩,⟨by omega,by omega,by omega,by omega⟩⟩,⟨by omega,by omega,by omega,by omega⟩⟩
  unfold kF
  rw [if_neg (by omega)]
 have hre:(r1<w4.heap.size∧r2<w4.heap.size∧r3<w4.heap.size∧r4<w4.heap.size):=⟨by omega,by omega,by omega,by omega⟩
 clear hr3 hs hb4 l2 l3 z1 z2 z3 z4 hrn hsn bw3
 go_wp2
 go_loopw [12] (fun x wr=>∃ k:Nat,k≤70∧x = .int .i64 (k:Int)∧OnK w r1 r2 r3 r4 s1 s2 s3 s4 w4.heap.size R i k k wr) (fun x _=>70 - (intOf x).toNat)
 case atStart=>exact ⟨0,by decide,rfl,K0⟩
 case round =>
  clear K0
  obtain ⟨k,hk,rfl,K⟩:=hrel
  by_cases hlt:k<70
  · have hlt':(k:Int)<70:=by omega
    have ewk:wrap64 ((k:Int)+1)=(k:Int)+1:=by unfold wrap64;omega
    have cA:=K.next hT hD hi8 hlt
    clear K
    go_wp2_with (first
     | (go_at_call 14;refine cA.mono ?_;clear cA;rintro e w5 ⟨q,rfl,x1,x2,K1⟩;have v1:=x1.conv w5 (Below.refl _ _);have v2:=x2.conv w5 (Below.refl _ _);(obtain ⟨W6,hput,K2⟩:=K1.put);unfold kS at hput;have sz1:=strB_size17 16 (gnK 8 R i true k);have sz2:=strB_size17 12 (gnN 8 R i true k);generalize strB 16 (gnK 8 R i true k)=SK at v1 hput sz1;generalize strB 12 (gnN 8 R i true k)=SN at v2 hput sz2;clear x1 x2 K1)
     | (go_at_call 9;refine (num17_any _ _).mono ?_;rintro e wn ⟨rfl,hwn⟩;obtain rfl:=hwn.symm)
     | (refine wpList_skip8 (w':=W6) ?_ ?_ ?_ ?_;(exact rfl);(exact rfl);(exact ex_put7 54 (.tmp 81) (.tmp 82) (.tmp 87) rfl rfl rfl rfl hput);clear hput v1 v2))
    exact ⟨⟨k+1,by omega,by simp,K2⟩,by simp [intOf];omega⟩
  · obtain rfl:k=70:=by omega
    have hlt':¬((70:Nat):Int)<70:=by omega
    have J0:OnJ w r1 r2 r3 r4 w4.heap.size wr.heap.size R i ab0 (fun _=>false) (wr.alloc (.map #[] 0)):=by
     have ba:Below wr.heap.size wr (wr.alloc (.map #[] 0)):=(Below.refl _ _).alloc (Nat.le_refl _) _
     have l1:=K.r.lts
     have l2:=K.ks.lt
     have l3:=K.b.size
     obtain ⟨-,-,g5,g6,g7⟩:=K.ge
     refine ⟨on0 i,K.r.still ba,K.ks.below ba K.ks.lt,(mp_empty wr).congr (fun x => ?_),below_next K.b ba,⟨⟨g5,g6,g7⟩,l3⟩,⟨by omega,by omega,by omega,by omega⟩,⟨by omega,by omega,by omega,by omega⟩,by omega⟩
     unfold uF
     rw [if_neg (fun e=>by cases e.2)]
    clear K
    go_wp2
    go_loopw [18,19] (fun sv x W=>∃ (k:Nat) (a:Ab) (U:Nat→Bool),k≤ss.length∧sv = .int .i64 (a.su i true:Int)∧x = .int .i64 (k:Int)∧OnJ w r1 r2 r3 r4 w4.heap.size wr.heap.size R i a U W) (fun _ x _=>ss.length - (intOf x).toNat)
    case atStart=>exact ⟨0,ab0,_,Nat.zero_le _,rfl,rfl,J0⟩
    case round =>
     clear J0 hlt hlt'
     obtain ⟨k,a,U,hk,rfl,rfl,J⟩:=hrel
     have ewk:wrap64 ((k:Int)+1)=(k:Int)+1:=by unfold wrap64;omega
     by_cases hlt:k<ss.length
     · have hlt':(k:Int)<(ss.length:Int):=by omega
       have hk0:(0:Int)≤(k:Int):=by omega
       obtain ⟨q,hq⟩:∃ q,ss[k]? = some q:=⟨_,List.getElem?_eq_getElem hlt⟩
       obtain ⟨lb,o,rfl,hgl,hgc⟩:=Hops.out k q hq
       have hrd:=range_keep hgc hgl J.b
       obtain ⟨kd,lf2,gn,tx⟩:=q
       have q2:=hrd 2 _ rfl
       dsimp only at q2
       obtain ⟨g,hg70,eg⟩:=norm17 gn 70 (by decide) (by decide)
       replace eg:Int.tmod (wrap64 (Int.tmod gn 70+70)) 70=(g:Int):=eg
       have hrf:=J.on.rf hg70
       have hle:=J.on.le
       unfold onMay at hrf
       clear hrd hgc hq hgl
       by_cases h0:a.rf i true (g:Int)=0
       · have hmay:=hrf.1 h0
         simp only [Bool.and_eq_true,Bool.not_eq_true',decide_eq_true_eq] at hmay
         obtain ⟨⟨hU,h1⟩,h2⟩:=hmay
         have hsu:=(J.on.used hg70 h0).2
         have cK:=J.key hT hD hi8 h0
         obtain ⟨z,hz⟩:∃ z:Int,z=(a.su i true:Int):=⟨_,rfl⟩
         have hz9:=le1000 hle
         have hzn:=maxz (a.su i true) g
         rw [←hz] at h1 h2 hz9 hzn ⊢
         obtain ⟨ewa,ewb,-⟩:=w64a z hz9
         obtain ⟨-,-,ewg⟩:=w64a (g:Int) (le1000 (Nat.le_of_lt hg70))
         have HJ:=Hid.mk' J
         have Hsu:=Hid.mk' hsu
         have Hzn:=Hid.mk' hzn
         clear hrf J hsu hz hzn
         go_wp2_with (first
          | (go_at_call 15;refine cK.mono ?_;clear cK;rintro e w5 ⟨p,rfl,-,hap,rp,J5⟩;have cU:=J5.use hT hD hi8 h0)
          | (go_at_call 18;refine cU.mono ?_;clear cU;rintro e w6 ⟨rfl,hb6,L6,M6,U6,B6⟩;have rp6:=rp.but7 hb6 (not3 hap.1 hap.2.1 hap.2.2.1);(obtain ⟨x1,x2⟩:=ky_cs rp6 (gnK_lt 8 R i true g) (gnN_lt 8 R i true g));have v1:=x1.conv w6 (Below.refl _ _);have v2:=x2.conv w6 (Below.refl _ _);have hlk:=ks_look M6 hg70;have hlu:=us_look U6 g;rw [hU] at hlu;unfold kS at hlk;have sz1:=strB_size17 16 (gnK 8 R i true g);have sz2:=strB_size17 12 (gnN 8 R i true g);generalize strB 16 (gnK 8 R i true g)=SK at v1 hlk sz1;generalize strB 12 (gnN 8 R i true g)=SN at v2 hlk sz2;(obtain ⟨W7,hput,J7⟩:=HJ.out.used hg70 h0 L6 M6 U6 B6);clear x1 x2 rp6 L6 M6 U6 B6 hb6 hap rp J5)
          | (go_at_call 9;refine (num17_any _ _).mono ?_;rintro e wn ⟨rfl,hwn⟩;obtain rfl:=hwn.symm)
          | (refine wpList_skip8 (w':=W7) ?_ ?_ ?_ ?_;(exact rfl);(exact rfl);(exact ex_put7 55 (.tmp 158) (.tmp 159) (.const (.bool true)) rfl rfl rfl rfl hput);clear hput v1 v2 hlk hlu))
         refine ⟨⟨k+1,a.use i true (g:Int),onU U g,(rnd17 hlt).1,?_,by simp only [Int.natCast_add,Int.natCast_one],J7⟩,(rnd17 hlt).2⟩
         rw [Hsu.out,Hzn.out,max_if17]
       · have hmay:¬((!U g && decide ((g:Int)≤(a.su i true:Int)+32) && decide ((a.su i true:Int) - 32≤(g:Int)))=true):=fun e=>h0 (hrf.2 e)
         have cK:=J.keyNo hi8 h0
         obtain ⟨z,hz⟩:∃ z:Int,z=(a.su i true:Int):=⟨_,rfl⟩
         have hz9:=le1000 hle
         rw [←hz] at hmay hz9 ⊢
         obtain ⟨ewa,ewb,-⟩:=w64a z hz9
         have hz0:a.rf i true (g:Int)≠0:=h0
         obtain ⟨e0,hze⟩:∃ e0,e0=a.rf i true (g:Int):=⟨_,rfl⟩
         rw [←hze] at cK
         have he0:¬e0=0:=by rw [hze];exact h0
         have Hz:=Hid.mk' hz
         have HZ0:=Hid.mk' hz0
         have HZE:=Hid.mk' hze
         clear hrf h0 J hz hz0 hze hle hz9
         cases hU:U g with
         | true =>
          clear hmay
          go_wp2_with (first
           | (go_at_call 15;refine cK.mono ?_;clear cK;rintro e w5 ⟨rfl,J5⟩;have cU:=J5.useNo hi8 HZ0.out;rw [←HZE.out] at cU;clear J5)
           | (go_at_call 18;refine cU.mono ?_;clear cU;rintro e w6 ⟨rfl,J6⟩;have hlu:=us_look J6.us g;rw [hU] at hlu)
           | (go_at_call 9;refine (num17_any _ _).mono ?_;rintro e wn ⟨rfl,hwn⟩;obtain rfl:=hwn.symm))
          exact ⟨⟨k+1,a,U,by omega,by rw [Hz.out],by simp,J6⟩,by simp [intOf];omega⟩
         | false =>
          by_cases h1:(g:Int)≤z+32
          · have h2:¬z - 32≤(g:Int):=fun e=>hmay (by rw [hU];simp only [Bool.and_eq_true,decide_eq_true_eq];exact ⟨⟨rfl,h1⟩,e⟩)
            obtain ⟨y,hy⟩:∃ y,y=z - 32:=⟨_,rfl⟩
            rw [←hy] at h2 ewb
            replace ewb:wrap64 (z - 32)=y:=by rw [hy] at ewb ⊢;exact ewb
            clear hy
            clear hmay
            go_wp2_with (first
             | (go_at_call 15;refine cK.mono ?_;clear cK;rintro e w5 ⟨rfl,J5⟩;have cU:=J5.useNo hi8 HZ0.out;rw [←HZE.out] at cU;clear J5)
             | (go_at_call 18;refine cU.mono ?_;clear cU;rintro e w6 ⟨rfl,J6⟩;have hlu:=us_look J6.us g;rw [hU] at hlu)
             | (go_at_call 9;refine (num17_any _ _).mono ?_;rintro e wn ⟨rfl,hwn⟩;obtain rfl:=hwn.symm))
            exact ⟨⟨k+1,a,U,by omega,by rw [Hz.out],by simp,J6⟩,by simp [intOf];omega⟩
            rename_i hx
            exact absurd (by rw [decide_eq_false (show ¬y≤(g:Int) by omega)];exact beq_false_of_ne he0) hx
          · clear hmay
            go_wp2_with (first
             | (go_at_call 15;refine cK.mono ?_;clear cK;rintro e w5 ⟨rfl,J5⟩;have cU:=J5.useNo hi8 HZ0.out;rw [←HZE.out] at cU;clear J5)
             | (go_at_call 18;refine cU.mono ?_;clear cU;rintro e w6 ⟨rfl,J6⟩;have hlu:=us_look J6.us g;rw [hU] at hlu)
             | (go_at_call 9;refine (num17_any _ _).mono ?_;rintro e wn ⟨rfl,hwn⟩;obtain rfl:=hwn.symm))
            exact ⟨⟨k+1,a,U,by omega,by rw [Hz.out],by simp,J6⟩,by simp [intOf];omega⟩
     · have hlt':¬(k:Int)<(ss.length:Int):=by omega
       go_wp2
       go_ret
       exact ⟨rfl,J.b⟩
end Go.Proofs.YtbbikhlbkpjpjaaGreatDoor
namespace Go.Proofs.YtbbikhlbkpjpjaaGreatDoor
open Go.ChangeShapes Go.WideShapes Go.ChangeAt Go.RowKit Go.Joins Go.Deep
instance op17I:Inhabited Op17:=⟨⟨0,0,0,false⟩⟩
theorem cellsOfOp17:Tryz.prog.cellsOf 34=4:=by kernel_rfl
theorem bytesOfOp17:Tryz.prog.bytesOf 34=32:=by kernel_rfl
set_option maxRecDepth 20000 in
theorem open_ops17 {H:Type} {enc:TypeId × Value→H} {W:World} {base:Nat} {v:Value} {d:DataW H} {ps:List MemPlace} {ts:List TypeId} {ds:List (DataW H)} (hval:Value.okWide Tryz.prog W .any base 23 v) (h:DataW.Trod enc Tryz.prog W 0 (fun _=>true) true 23 v d ps)
 (hR:(DataW.weightsEach Tryz.prog ts ds).all (·≤reachBytes)=true) {j:Nat} (ht:ts[j]? = some 23) (hd:ds[j]? = some d) :
 ∃ (ss:List Op17),OpsAt17 W v ss∧ss.length≤140737488355328:=by
 obtain ⟨a0,len,cap,rfl⟩:=okWide_slice Tryz.underlying23 hval
 obtain ⟨fuel,hf⟩:=h
 have hc:Cell.ok Tryz.prog W .any base 23 (.slice a0 len cap):=by
  unfold Value.okWide Cell.okWide at hval
  simp only [Tryz.underlying23] at hval
  exact hval
 have hw:∀ n∈d.weights Tryz.prog 23,n≤reachBytes:=fun n hn =>
  of_decide_eq_true (List.all_eq_true.1 hR n (DataW.weights_mem_each ht hd n hn))
 rcases Deep.open_slice Tryz.underlying23 hf with ⟨hcs,hx⟩ | ⟨a,len',cap',m,n,D,Pl,hcs,_,hl,hm,hmm,hx,hrow⟩
 · simp [Value.cells] at hcs
   obtain ⟨rfl,rfl,rfl⟩:=hcs
   exact ⟨[],⟨none,0,rfl,fun j s hs=>by simp at hs⟩,by simp⟩
 · simp [Value.cells] at hcs
   obtain ⟨rfl,rfl,rfl⟩:=hcs
   simp only [if_true] at hmm
   unfold Cell.ok at hc
   simp only [Tryz.underlying23] at hc
   obtain ⟨_,_,_,hs,_⟩:=hc
   obtain ⟨b,off,spot⟩:=a
   subst hs
   rw [cellsOfOp17] at hrow
   obtain ⟨hx1,-⟩:=Prod.mk.inj hx
   rw [hx1] at hw
   simp only [DataW.weights,Tryz.underlying23,List.mem_cons,List.mem_append] at hw
   have hcnt:len<140737488355000:=by
    have:=hw _ (.inl rfl)
    rw [bytesOfOp17] at this
    simp only [List.length_map,List.length_range] at this
    unfold reachBytes at this
    omega
   have each:∀ i,i<len→∃ q:Op17,W.cell? ⟨b,off+i*4,none⟩=some (.int .i64 q.kd)∧W.cell? ⟨b,off+i*4+1,none⟩=some (.int .i64 q.lf)∧W.cell? ⟨b,off+i*4+2,none⟩=some (.int .i64 q.gn)∧W.cell? ⟨b,off+i*4+3,none⟩=some (.bool q.tx):=by
    intro i hi
    obtain ⟨cs',h1,h2⟩:=hrow i (by omega)
    obtain ⟨_,hlen,hcell⟩:=World.cells?_some h1
    obtain ⟨xs,k,hk,hxy,_,hxl,hfd⟩:=DataW.trod_struct Tryz.underlying34 h2
    match xs,hxl,cs',hlen with
    | [y0,y1,y2,y3],_,[v0,v1,v2,v3],_ =>
     have g0:=hfd 0 _ rfl
     have g1:=hfd 1 _ rfl
     have g2:=hfd 2 _ rfl
     have g3:=hfd 3 _ rfl
     have k2:Tryz.prog.cellsOf 3=1:=by kernel_rfl
     have k3:Tryz.prog.cellsOf 4=1:=by kernel_rfl
     simp [k2,k3] at g0 g1 g2 g3
     obtain ⟨z0,hz0,-,-⟩:=DataW.trod_int Tryz.underlying3 g0
     obtain ⟨z1,hz1,-,-⟩:=DataW.trod_int Tryz.underlying3 g1
     obtain ⟨z2,hz2,-,-⟩:=DataW.trod_int Tryz.underlying3 g2
     obtain ⟨z3,hz3,-⟩:=DataW.trod_bool Tryz.underlying4 g3
     obtain rfl:v0 = .int .i64 z0:=by simpa using hz0
     obtain rfl:v1 = .int .i64 z1:=by simpa using hz1
     obtain rfl:v2 = .int .i64 z2:=by simpa using hz2
     obtain rfl:v3 = .bool z3:=by simpa using hz3
     have e0:=hcell 0 (by omega)
     have e1:=hcell 1 (by omega)
     have e2:=hcell 2 (by omega)
     have e3:=hcell 3 (by omega)
     rw [Addr.add_mid,Addr.add_mid] at e0 e1 e2 e3
     exact ⟨⟨z0,z1,z2,z3⟩,by simpa using e0,by simpa using e1,by simpa using e2,by simpa using e3⟩
   obtain ⟨q,hq⟩:=Deep.choose_lt (α:=Op17) each
   refine ⟨(List.range len).map q,⟨some ⟨b,off,none⟩,cap,by simp,fun j s hs => ?_⟩,by simp;omega⟩
   have hj:j<len:=by have:=(List.getElem?_eq_some_iff.1 hs).1;simpa using this
   have e:s=q j:=by simp [hj] at hs;exact hs.symm
   subst e
   obtain ⟨r0,r1,r2,r3⟩:=hq j hj
   refine ⟨b,off,rfl,block_lt_of_cell r0,fun i v hv => ?_⟩
   match i,hv with
   | 0,hv=>cases hv;exact r0
   | 1,hv=>cases hv;exact r1
   | 2,hv=>cases hv;exact r2
   | 3,hv=>cases hv;exact r3
   | i+4,hv=>simp [Op17.row] at hv
end Go.Proofs.YtbbikhlbkpjpjaaGreatDoor
namespace Go.Proofs.YtbbikhlbkpjpjaaGreatDoor
open Go Go.RowKit
def lay (cs:Array Value):Obj→Obj
 | .cells _ t frozen => .cells cs t frozen
 | o=>o
theorem cellsOfI:Tryz.prog.cellsOf 3=1:=by kernel_rfl
theorem cellsOfU:Tryz.prog.cellsOf 105=1:=by kernel_rfl
theorem cellsOf3U:Tryz.prog.cellsOf 187=3:=by kernel_rfl
theorem cellsOfW:Tryz.prog.cellsOf 156=1:=by kernel_rfl
theorem cellsOf80W:Tryz.prog.cellsOf 211=80:=by kernel_rfl
theorem cellsOf8W:Tryz.prog.cellsOf 198=8:=by kernel_rfl
theorem rules_parts {H:Type} {enc:TypeId × Value→H} {w:World} {base:Nat} {sp:Nat→Bool} {held:Bool} {fuel:Nat} {cs:List Value} {a b:Int} {x y z u:List Int} {p:List MemPlace}
 (h:DataW.trod enc Tryz.prog w base sp held fuel 189 cs=some (.agg [.lit (.int .i64 a),.lit (.int .i64 b),Lib.tabData .u64 x,Lib.tabData .u64 y,Lib.tabData .u64 z,Lib.tabData .u64 u],p)) :
 (cs.drop 0).take 1=[.int .i64 a]∧(cs.drop 1).take 1=[.int .i64 b]∧(cs.drop 2).take 3=x.map (fun v=>Value.int .u64 v)∧(cs.drop 5).take 3=y.map (fun v=>Value.int .u64 v)∧(cs.drop 8).take 3=z.map (fun v=>Value.int .u64 v)∧(cs.drop 11).take 3=u.map (fun v=>Value.int .u64 v):=by
 cases fuel with
 | zero=>simp [DataW.trod] at h
 | succ fuel =>
  simp only [DataW.trod,Tryz.underlying189] at h
  split at h
  · obtain ⟨xs,hm,hx⟩:=Option.map_eq_some_iff.1 h
    have hxs:=congrArg Prod.fst hx
    simp only [DataW.agg.injEq] at hxs
    have hlen:xs.length=6:=by have:=congrArg List.length hxs;simpa using this
    have g:∀ i f,(i<6)→[(3,0),(3,1),(187,2),(187,5),(187,8),(187,11)][i]? = some f→∃ y,xs[i]? = some y∧DataW.trod enc Tryz.prog w base sp held fuel f.1 ((cs.drop f.2).take (Tryz.prog.cellsOf f.1))=some y:=fun i f hi hf=>by
     match i,hi,hf with
     | 0,_,hf=>cases hf;exact Lib.mapM_at hm 0 _ rfl
     | 1,_,hf=>cases hf;exact Lib.mapM_at hm 1 _ rfl
     | 2,_,hf=>cases hf;exact Lib.mapM_at hm 2 _ rfl
     | 3,_,hf=>cases hf;exact Lib.mapM_at hm 3 _ rfl
     | 4,_,hf=>cases hf;exact Lib.mapM_at hm 4 _ rfl
     | 5,_,hf=>cases hf;exact Lib.mapM_at hm 5 _ rfl
    match xs,hlen,hxs,g with
    | [x0,x1,x2,x3,x4,x5],_,hxs,g =>
     simp only [List.map_cons,List.map_nil,List.cons.injEq,and_true] at hxs
     obtain ⟨e0,e1,e2,e3,e4,e5⟩:=hxs
     obtain ⟨_,h0,t0⟩:=g 0 _ (by decide) rfl
     obtain ⟨_,h1,t1⟩:=g 1 _ (by decide) rfl
     obtain ⟨_,h2,t2⟩:=g 2 _ (by decide) rfl
     obtain ⟨_,h3,t3⟩:=g 3 _ (by decide) rfl
     obtain ⟨_,h4,t4⟩:=g 4 _ (by decide) rfl
     obtain ⟨_,h5,t5⟩:=g 5 _ (by decide) rfl
     cases h0;cases h1;cases h2;cases h3;cases h4;cases h5
     rw [cellsOfI] at t0 t1
     rw [cellsOf3U] at t2 t3 t4 t5
     obtain ⟨z0,c0,r0,_⟩:=DataW.trod_int Tryz.underlying3 t0
     obtain ⟨z1,c1,r1,_⟩:=DataW.trod_int Tryz.underlying3 t1
     subst r0 r1
     cases e0;cases e1
     have k:∀ {o:Nat} {v:DataW H × List MemPlace} {l:List Int},DataW.trod enc Tryz.prog w base sp held fuel 187 ((cs.drop o).take 3)=some v→v.1=Lib.tabData .u64 l→(cs.drop o).take 3=l.map (fun v=>Value.int .u64 v):=fun {o v l} ht he=>by
      obtain ⟨v1,v2⟩:=v
      cases he
      exact Lib.cells_of_tab Tryz.underlying187 Tryz.underlying105 cellsOfU cellsOf3U ht
     exact ⟨c0,c1,k t2 e2,k t3 e3,k t4 e4,k t5 e5⟩
  · cases h
theorem at_of_part {cs:List Value} {o n:Nat} {l:List Value} (h:(cs.drop o).take n=l) (i:Nat) (hi:i<n):cs[o+i]? = l[i]?:=by
 rw [←h,List.getElem?_take,if_pos hi,List.getElem?_drop]
theorem cubesL_eq:Rows.laid_synod_sha_cubes=(Lib.tabData .u64 (cubesL.map fun n:Nat=>(n:Int)):DataW Unit):=rfl
theorem squaresL_eq:Rows.laid_synod_sha_squares=(Lib.tabData .u64 (squaresL.map fun n:Nat=>(n:Int)):DataW Unit):=rfl
theorem gCubes:Tryz.prog.globalNamed "synod/sha.cubes" = some 5:=by kernel_rfl
theorem gSquares:Tryz.prog.globalNamed "synod/sha.squares" = some 3:=by kernel_rfl
theorem gNarrow:Tryz.prog.globalNamed "synod/sha.narrowRules" = some 2:=by kernel_rfl
theorem gWide:Tryz.prog.globalNamed "synod/sha.wideRules" = some 4:=by kernel_rfl
theorem tCubes:(Tryz.prog.globals[5]?).map (·.type)=some 211:=by kernel_rfl
theorem tSquares:(Tryz.prog.globals[3]?).map (·.type)=some 198:=by kernel_rfl
theorem tNarrow:(Tryz.prog.globals[2]?).map (·.type)=some 189:=by kernel_rfl
theorem tWide:(Tryz.prog.globals[4]?).map (·.type)=some 189:=by kernel_rfl
theorem tab_cell {W:World} {name:String} {g:Nat} {l:List Nat} {cs:Array Value} (hg:Tryz.prog.globalNamed name=some g) (hv:W.var? Tryz.prog name=some cs) (hc:cs.toList=(l.map fun n:Nat=>(n:Int)).map fun z=>Value.int .u64 z) (j:Nat) (hj:j<l.length):W.cell? ⟨g,j,none⟩=some (.int .u64 ((l.getD j 0:Nat):Int)):=by
 rw [World.var?_cell hg hv j,←Array.getElem?_toList,hc]
 simp [List.getD,hj]
theorem cellsOfDb:Tryz.prog.cellsOf 164=64:=by kernel_rfl
theorem db_eq:Rows.laid_math_bits_deBruijn64tab=(Lib.tabData .u8 (Lib.deBruijn64tab.map fun n:Nat=>(n:Int)):DataW Unit):=rfl
theorem gDb:Tryz.prog.globalNamed "math/bits.deBruijn64tab" = some 1:=by kernel_rfl
theorem tDb:(Tryz.prog.globals[1]?).map (·.type)=some 164:=by kernel_rfl
theorem tabs_of_laid {W:World} (h:laidMetH Tryz.prog [("math/bits.deBruijn64tab", Rows.laid_math_bits_deBruijn64tab),("synod/sha.cubes", Rows.laid_synod_sha_cubes),("synod/sha.squares", Rows.laid_synod_sha_squares),("synod/sha.narrowRules", Rows.laid_synod_sha_narrowRules),("synod/sha.wideRules", Rows.laid_synod_sha_wideRules)] W):DbT W∧TabAt W:=by
 have h':laidMet Tryz.prog [("math/bits.deBruijn64tab", Rows.laid_math_bits_deBruijn64tab),("synod/sha.cubes", Rows.laid_synod_sha_cubes),("synod/sha.squares", Rows.laid_synod_sha_squares),("synod/sha.narrowRules", Rows.laid_synod_sha_narrowRules),("synod/sha.wideRules", Rows.laid_synod_sha_wideRules)] W:=h
 obtain ⟨ps,⟨g0,t0,cs0,f0,p0,q0,hg0,ht0,hv0,hd0,⟨g1,t1,cs1,f1,p1,q1,hg1,ht1,hv1,hd1,⟨g2,t2,cs2,f2,p2,q2,hg2,ht2,hv2,hd2,⟨g3,t3,cs3,f3,p3,q3,hg3,ht3,hv3,hd3,⟨g4,t4,cs4,f4,p4,q4,hg4,ht4,hv4,hd4,_,_⟩,_⟩,_⟩,_⟩,_⟩,_⟩:=h'
 obtain rfl:=Option.some.inj (gDb.symm.trans hg0)
 obtain rfl:=Option.some.inj (tDb.symm.trans ht0)
 obtain rfl:=Option.some.inj (gCubes.symm.trans hg1)
 obtain rfl:=Option.some.inj (tCubes.symm.trans ht1)
 obtain rfl:=Option.some.inj (gSquares.symm.trans hg2)
 obtain rfl:=Option.some.inj (tSquares.symm.trans ht2)
 obtain rfl:=Option.some.inj (gNarrow.symm.trans hg3)
 obtain rfl:=Option.some.inj (tNarrow.symm.trans ht3)
 obtain rfl:=Option.some.inj (gWide.symm.trans hg4)
 obtain rfl:=Option.some.inj (tWide.symm.trans ht4)
 rw [db_eq] at hd0
 rw [cubesL_eq] at hd1
 rw [squaresL_eq] at hd2
 have c0:=Lib.cells_of_tab Tryz.underlying164 Tryz.underlying5 cellsOfByte cellsOfDb hd0
 have hc:∀ j,j<64→W.cell? ⟨1,j,none⟩=some (.int .u8 ((Lib.deBruijn64tab.getD j 0:Nat):Int)):=by
  intro j hj
  rw [World.var?_cell gDb hv0 j,←Array.getElem?_toList,c0,List.map_map,List.getElem?_map]
  have hl:j<Lib.deBruijn64tab.length:=hj
  rw [List.getElem?_eq_getElem hl,List.getD_eq_getElem?_getD,List.getElem?_eq_getElem hl]
  rfl
 have c1:=Lib.cells_of_tab Tryz.underlying211 Tryz.underlying156 cellsOfW cellsOf80W hd1
 have c2:=Lib.cells_of_tab Tryz.underlying198 Tryz.underlying156 cellsOfW cellsOf8W hd2
 obtain ⟨a0,a1,a2,a3,a4,a5⟩:=rules_parts (a:=32) (b:=64) (x:=[7,18,3]) (y:=[17,19,10]) (z:=[2,13,22]) (u:=[6,11,25]) hd3
 obtain ⟨b0,b1,b2,b3,b4,b5⟩:=rules_parts (a:=64) (b:=80) (x:=[1,8,7]) (y:=[19,61,6]) (z:=[28,34,39]) (u:=[14,18,41]) hd4
 have n:∀ j,W.cell? ⟨2,j,none⟩=cs3.toList[j]?:=fun j=>by rw [World.var?_cell gNarrow hv3 j,Array.getElem?_toList]
 have v:∀ j,W.cell? ⟨4,j,none⟩=cs4.toList[j]?:=fun j=>by rw [World.var?_cell gWide hv4 j,Array.getElem?_toList]
 refine ⟨⟨World.block_lt_of_cell? W _ (hc 0 (by decide)),hc⟩,⟨fun j hj=>tab_cell gCubes hv1 c1 j hj,fun j hj=>tab_cell gSquares hv2 c2 j hj,?_,?_,cubeK_lt,squareK_lt⟩⟩
 · exact ⟨(n 0).trans (at_of_part a0 0 (by decide)),(n 1).trans (at_of_part a1 0 (by decide)),(n 2).trans (at_of_part a2 0 (by decide)),(n 3).trans (at_of_part a2 1 (by decide)),(n 4).trans (at_of_part a2 2 (by decide)),(n 5).trans (at_of_part a3 0 (by decide)),(n 6).trans (at_of_part a3 1 (by decide)),(n 7).trans (at_of_part a3 2 (by decide)),(n 8).trans (at_of_part a4 0 (by decide)),(n 9).trans (at_of_part a4 1 (by decide)),(n 10).trans (at_of_part a4 2 (by decide)),(n 11).trans (at_of_part a5 0 (by decide)),(n 12).trans (at_of_part a5 1 (by decide)),(n 13).trans (at_of_part a5 2 (by decide))⟩
 · exact ⟨(v 0).trans (at_of_part b0 0 (by decide)),(v 1).trans (at_of_part b1 0 (by decide)),(v 2).trans (at_of_part b2 0 (by decide)),(v 3).trans (at_of_part b2 1 (by decide)),(v 4).trans (at_of_part b2 2 (by decide)),(v 5).trans (at_of_part b3 0 (by decide)),(v 6).trans (at_of_part b3 1 (by decide)),(v 7).trans (at_of_part b3 2 (by decide)),(v 8).trans (at_of_part b4 0 (by decide)),(v 9).trans (at_of_part b4 1 (by decide)),(v 10).trans (at_of_part b4 2 (by decide)),(v 11).trans (at_of_part b5 0 (by decide)),(v 12).trans (at_of_part b5 1 (by decide)),(v 13).trans (at_of_part b5 2 (by decide))⟩
def tabA (l:List Nat):Array Value:=(l.map fun n:Nat=>Value.int .u64 (n:Int)).toArray
def rulA (m r:Nat) (l:List Nat):Array Value:=([Value.int .i64 m,.int .i64 r] ++ l.map fun n:Nat=>Value.int .u64 (n:Int)).toArray
noncomputable def laidWorldR (os:Os):World :=
 { World.holding Tryz.prog os ⟨#[],#[],[]⟩ with heap:=(((((World.holding Tryz.prog os ⟨#[],#[],[]⟩).heap.modify 5 (lay (tabA cubesL))).modify 3 (lay (tabA squaresL))).modify 2 (lay (rulA 32 64 [7,18,3,17,19,10,2,13,22,6,11,25]))).modify 4 (lay (rulA 64 80 [1,8,7,19,61,6,28,34,39,14,18,41]))).modify 1 (lay (Lib.deBruijn64tab.map fun n:Nat=>Value.int .u8 (n:Int)).toArray) }
end Go.Proofs.YtbbikhlbkpjpjaaGreatDoor
