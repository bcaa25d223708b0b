/- What the proof stands on: T6A, T6B. -/
import Derived.Test.YtddkbmnkbfciaaaGreatDoorHRefSum
import Derived.Test.YtddkbmnkbfciaaaGreatDoorN3rhM
import Derived.Test.YtddkbmnkbfciaaaGreatDoorT5W
namespace Go.Proofs.YtddkbmnkbfciaaaGreatDoor
open Go.RowKit Go.Shelf
def keyM (n:Nat):Nat→Nat:=fun j=>if j=0 then n%256 else if j=1 then n / 256%256 else if j=2 then n / 65536%256 else 107
def keyB (n:Nat):Nat→Nat:=s256 4 (keyM n)
theorem keyM_lt (n j:Nat):keyM n j<256:=by unfold keyM;split;omega;split;omega;split;omega;omega
theorem keyM_in (n:Nat) (w:World):BytesIn (w.alloc (.cells #[.int .u8 ((n:Int)%256),.int .u8 ((n:Int) / 256%256),.int .u8 ((n:Int) / 65536%256),.int .u8 107] 5)) (.slice (some ⟨w.heap.size,0,none⟩) 4 4) 4 (keyM n):=by
 have r:=RW.fresh w [.int .u8 ((n:Int)%256),.int .u8 ((n:Int) / 256%256),.int .u8 ((n:Int) / 65536%256),.int .u8 107] 5
 refine .inr ⟨w.heap.size,0,4,rfl,by rw [World.size_alloc];omega,Nat.le_refl _,fun j hj => ?_⟩
 have h:j=0∨j=1∨j=2∨j=3:=by omega
 rcases h with rfl | rfl | rfl | rfl
 · exact (r.range 0 _ rfl).trans (by simp [keyM])
 · exact (r.range 1 _ rfl).trans (by simp [keyM])
 · exact (r.range 2 _ rfl).trans (by simp [keyM])
 · exact (r.range 3 _ rfl).trans (by simp [keyM])
theorem key_any (n:Nat) (w:World):Calls Tryz.prog 47 #[.int .i64 (n:Int)] w fun e w'=>∃ v',e = .returned v'∧Own w.heap.size w' v' 32 (keyB n)∧Below w.heap.size w w':=by
 have hv:=keyM_in n w
 obtain ⟨W,hW⟩:∃ W,W=(w.alloc (.cells #[.int .u8 ((n:Int)%256),.int .u8 ((n:Int) / 256%256),.int .u8 ((n:Int) / 65536%256),.int .u8 107] 5)):=⟨_,rfl⟩
 have bW:Below w.heap.size w W:=by rw [hW];exact (Below.refl _ _).alloc (Nat.le_refl _) _
 rw [←hW] at hv
 have c:=rSum256_any _ 4 (keyM n) (keyM_lt n) W hv (by omega)
 have HW:=Hid.mk' hW
 clear hW hv
 go_enter Tryz.func47,Tryz.ntmps47
 go_wp2_with (first
  | (rw [←HW.out];clear HW)
  | (go_at_call 64;refine c.mono ?_;clear c;rintro e w1 ⟨v1,rfl,o1,hb1⟩))
 go_ret
 exact ⟨v1,rfl,o1.base bW.size,below_next bW hb1⟩
def lfM (n:Nat):LfD:=⟨⟨32,keyB (4*n)⟩,⟨32,keyB (4*n+1)⟩,⟨1,fun _=>97+n%26⟩,1,⟨0,fun _=>0⟩,⟨64,fun _=>0⟩⟩
theorem lfM_R (n:Nat):lfR (lfM n) 3:=by
 refine ⟨rfl,rfl,⟨Nat.le_refl 1,(by decide:1≤64)⟩,⟨Int.le_refl 1,(by decide:(1:Int)≤3)⟩,?_,rfl⟩
 show if (1:Int)=3 then _ else _
 rw [if_neg (by decide)];rfl
theorem lfM_K (n:Nat):lfK (lfM n):=⟨fun j=>s256_lt _ _ j,fun j=>s256_lt _ _ j,fun j=>by show 97+n%26<256;omega,fun j=>Nat.zero_lt_succ _,fun j=>Nat.zero_lt_succ _⟩
theorem Own.far6 {B:Nat} {W:World} {v:Value} {n:Nat} {X:Nat→Nat} (h:Own B W v n X) {g p:Nat} {vs:List Value} (hg:g<B):Own B (W.setCells g p vs) v n X :=
 have q:=setCells_same g vs p W
 h.rest (X:=[g]) ⟨q.1,q.2.1,q.2.2.1,Nat.le_of_eq q.2.2.2.symm,fun k _ hk=>heap_setCells_other g vs p W k (fun e=>hk (by simp [e]))⟩ (fun x hx=>by simp at hx;omega)
theorem lfM_end (n:Nat) {w V W:World} {gn gs:Nat} {y0 y1:Option Addr} {e0 e1:Nat} (hS:Below V.heap.size V W) (bV:Below w.heap.size w V) (o0:Own V.heap.size W (.slice y0 32 e0) 32 (keyB (4*n))) (o1:Own V.heap.size W (.slice y1 32 e1) 32 (keyB (4*n+1))) (rN:RW W gn 0 [.int .u8 ((97+n%26:Nat):Int)]) (rS:RW W gs 0 (List.replicate 64 (.int .u8 0))) (hg:w.heap.size<V.heap.size) (k2:RW W w.heap.size 0 [.slice none 0 0,.slice none 0 0,.slice none 0 0,.int .i64 0,.slice none 0 0,.slice none 0 0]) :
 ∃ cs,Ending.returned (.agg #[.slice y0 32 e0,.slice y1 32 e1,.slice (some ⟨gn,0,none⟩) 1 1,.int .i64 1,.slice none 0 0,.slice (some ⟨gs,0,none⟩) 64 64]) = .returned (.agg cs.toArray)∧LfIn (W.setCells w.heap.size 0 [.slice y0 32 e0,.slice y1 32 e1,.slice (some ⟨gn,0,none⟩) 1 1,.int .i64 1,.slice none 0 0,.slice (some ⟨gs,0,none⟩) 64 64]) cs (lfM n)∧Below w.heap.size w (W.setCells w.heap.size 0 [.slice y0 32 e0,.slice y1 32 e1,.slice (some ⟨gn,0,none⟩) 1 1,.int .i64 1,.slice none 0 0,.slice (some ⟨gs,0,none⟩) 64 64]):=by
 have n1:gn≠w.heap.size:=fun e=>by
  have h1:=rN.range 0 _ rfl
  have h2:=k2.range 0 _ rfl
  rw [e,h2] at h1;cases h1
 have n2:gs≠w.heap.size:=fun e=>by
  have h1:=rS.range 0 _ rfl
  have h2:=k2.range 0 _ rfl
  rw [e,h2] at h1;cases h1
 refine ⟨[.slice y0 32 e0,.slice y1 32 e1,.slice (some ⟨gn,0,none⟩) 1 1,.int .i64 1,.slice none 0 0,.slice (some ⟨gs,0,none⟩) 64 64],rfl,⟨_,_,_,_,_,rfl,?_,?_,?_,.inl ⟨none,rfl,rfl⟩,?_⟩,below_setCells (Nat.le_refl _) _ _ _ (below_next bV hS)⟩
 · exact BytesIn.of_own (o0.far6 hg)
 · exact BytesIn.of_own (o1.far6 hg)
 · have r:=rN.far w.heap.size 0 [.slice y0 32 e0,.slice y1 32 e1,.slice (some ⟨gn,0,none⟩) 1 1,.int .i64 1,.slice none 0 0,.slice (some ⟨gs,0,none⟩) 64 64] (.inl n1)
   exact .inr ⟨gn,0,1,rfl,r.lt,Nat.le_refl _,fun j hj=>by
    have:j=0:=by (have h:j<1:=hj);omega
    subst this
    exact r.range 0 _ rfl⟩
 · have r:=rS.far w.heap.size 0 [.slice y0 32 e0,.slice y1 32 e1,.slice (some ⟨gn,0,none⟩) 1 1,.int .i64 1,.slice none 0 0,.slice (some ⟨gs,0,none⟩) 64 64] (.inl n2)
   exact .inr ⟨gs,0,64,rfl,r.lt,Nat.le_refl _,fun j hj=>r.range j _ (by rw [List.getElem?_replicate,if_pos (show j<64 from hj)];rfl)⟩
theorem lawLeaf_any (n:Nat) (hn:n<10000000) (w:World):Calls Tryz.prog 46 #[.int .i64 (n:Int)] w fun e w'=>∃ cs,e = .returned (.agg cs.toArray)∧LfIn w' cs (lfM n)∧Below w.heap.size w w':=by
 obtain ⟨W1,hW1⟩:∃ W1,W1=w.alloc (.cells #[.slice none 0 0,.slice none 0 0,.slice none 0 0,.int .i64 0,.slice none 0 0,.slice none 0 0] 54):=⟨_,rfl⟩
 have k1:RW W1 w.heap.size 0 [.slice none 0 0,.slice none 0 0,.slice none 0 0,.int .i64 0,.slice none 0 0,.slice none 0 0]:=by rw [hW1];exact RW.fresh w [.slice none 0 0,.slice none 0 0,.slice none 0 0,.int .i64 0,.slice none 0 0,.slice none 0 0] 54
 have b1:Below w.heap.size w W1:=by rw [hW1];exact (Below.refl _ _).alloc (Nat.le_refl _) _
 have s1:W1.heap.size=w.heap.size+1:=by rw [hW1];exact World.size_alloc _ _
 have HW1:=Hid.mk' hW1
 clear hW1
 go_enter Tryz.func46,Tryz.ntmps46
 go_upto_region 1 with (fail)
 rw [←HW1.out]
 obtain ⟨V,hV⟩:∃ V,V=W1.drew:=⟨_,rfl⟩
 have bV0:Below W1.heap.size W1 V:=by rw [hV];exact (Below.refl _ _).drew
 have K2:=Hid.mk' (k1.still bV0)
 have bV:=below_next b1 bV0
 have hgk:w.heap.size<V.heap.size:=by have:=bV0.size;omega
 have Hgk:=Hid.mk' hgk
 refine wp_last 14 (S:=fun u=>Below V.heap.size V u) (by kernel_rfl) (by kernel_rfl) (by kernel_rfl) (by kernel_rfl) (by rw [hV];exact Below.refl _ _) (fun hS => ?_)
 rw [←hV] at hS ⊢
 clear hV HW1 k1 b1 bV0 s1 hgk
 have h26:((n:Int)).tmod 26=((n%26:Nat):Int):=by rw [Int.tmod_eq_emod_of_nonneg (by omega)];rfl
 have f1:IntKind.i64.wrap (4*(n:Int))=4*(n:Int):=by simp only [IntKind.wrap_i64];omega
 have f2:IntKind.i64.wrap (4*(n:Int)+1)=4*(n:Int)+1:=by simp only [IntKind.wrap_i64];omega
 have f3:IntKind.i64.wrap (97+(n:Int)%26)=97+(n:Int)%26:=by simp only [IntKind.wrap_i64];omega
 have f4:IntKind.u8.wrap (97+(n:Int)%26)=97+(n:Int)%26:=by simp only [IntKind.wrap_u8];omega
 refine tg 0 hS ?_
 (try simp only [pS])
 refine tg 1 hS (v := .int .i64 ((4*n:Nat):Int)) ?_
 (try simp only [pS])
 refine tg 3 hS ?_
 (try simp only [pS])
 refine tg 4 hS (v := .int .i64 ((4*n:Nat):Int)) ?_
 (try simp only [pS])
 refine tg 5 hS (v := .int .i64 ((4*n+1:Nat):Int)) ?_
 (try simp only [pS])
 refine tg 7 hS ?_
 (try simp only [pS])
 refine tg 8 hS (v := .int .i64 ((n%26:Nat):Int)) ?_
 (try simp only [pS])
 refine tg 9 hS (v := .int .i64 ((97+n%26:Nat):Int)) ?_
 (try simp only [pS])
 refine tg 10 hS (v := .int .u8 ((97+n%26:Nat):Int)) ?_
 (try simp only [pS])
 clear f1 f2 f3 f4 h26
 refine wpAnyH_ready (rs:=[2,11,12]) (by kernel_rfl) (by simp) ?_
 refine rC 2 (key_any (4*n) V) (fun e w1 hr => ?_) ?_
 · obtain ⟨s0,rfl,o0,hb⟩:=hr
   obtain ⟨y0,e0,rfl⟩:=o0.slice;replace o0:=o0.base hS.size
   replace hS:=below_next hS hb
   refine ⟨_,rfl,hS,?_⟩
   (try simp only [pS])
   refine wpAnyH_ready (rs:=[6,11,12]) (by kernel_rfl) (by simp) ?_
   refine rC 6 (key_any (4*n+1) w1) (fun e w2 hr => ?_) ?_
   · obtain ⟨s1,rfl,o1,hb⟩:=hr
     obtain ⟨y1,e1,rfl⟩:=o1.slice;replace o1:=o1.base hS.size
     replace hS:=below_next hS hb
     refine ⟨_,rfl,hS,?_⟩
     (try simp only [pS])
     replace o0:=o0.below hb
     refine wpAnyH_ready (rs:=[11,12]) (by kernel_rfl) (by simp) ?_
     refine rG 11 (fun g => .slice (some ⟨g,0,none⟩) 1 1) ([.int .u8 ((97+n%26:Nat):Int)]) 5 (fun u hb=>below_next hS hb) (fun w3 gn lrN hb rN => ?_) ?_
     · replace hS:=below_next hS hb
       (try simp only [pS])
       replace o0:=o0.below hb
       replace o1:=o1.below hb
       refine wpAnyH_ready (rs:=[12]) (by kernel_rfl) (by simp) ?_
       refine rG 12 (fun g => .slice (some ⟨g,0,none⟩) 64 64) (List.replicate 64 (.int .u8 0)) 5 (fun u hb=>below_next hS hb) (fun w4 gs lrS hb rS => ?_) ?_
       · replace hS:=below_next hS hb
         (try simp only [pS])
         replace o0:=o0.below hb
         replace o1:=o1.below hb
         replace rN:=rN.still hb
         have hgn:=rN.lt
         have hgs:=rS.lt
         refine tg 13 hS (v := .agg #[.slice y0 32 e0,.slice y1 32 e1,.slice (some ⟨gn,0,none⟩) 1 1,.int .i64 1,.slice none 0 0,.slice (some ⟨gs,0,none⟩) 64 64]) ?_ (hy:=by intro u _;kernel_rfl)
         (try simp only [pS])
         refine wpAnyH_done (by kernel_rfl) ?_ _
         have k2:=K2.out.still hS
         refine lastRow 14 54 2 16 [.slice y0 32 e0,.slice y1 32 e1,.slice (some ⟨gn,0,none⟩) 1 1,.int .i64 1,.slice none 0 0,.slice (some ⟨gs,0,none⟩) 64 64] k2 rfl infoL6 (by simp [Value.oneCell']) (fun rr => ?_)
         refine NoPanic.normal ?_
         go_wp2
         refine bodyPost_ret (results_cell_mid Tryz.results46 _ _ w.heap.size 0 [.slice y0 32 e0,.slice y1 32 e1,.slice (some ⟨gn,0,none⟩) 1 1,.int .i64 1,.slice none 0 0,.slice (some ⟨gs,0,none⟩) 64 64] _ rfl rr.range Tryz.underlying54 rfl infoL6) rfl ?_
         exact lfM_end n hS bV o0 o1 rN rS Hgk.out k2
       exact AllReadyH.nil
     refine rG 12 (fun g => .slice (some ⟨g,0,none⟩) 64 64) (List.replicate 64 (.int .u8 0)) 5 (fun u hb=>below_next hS hb) (fun w3 gs lrS hb rS => ?_) ?_
     · replace hS:=below_next hS hb
       (try simp only [pS])
       replace o0:=o0.below hb
       replace o1:=o1.below hb
       refine wpAnyH_ready (rs:=[11]) (by kernel_rfl) (by simp) ?_
       refine rG 11 (fun g => .slice (some ⟨g,0,none⟩) 1 1) ([.int .u8 ((97+n%26:Nat):Int)]) 5 (fun u hb=>below_next hS hb) (fun w4 gn lrN hb rN => ?_) ?_
       · replace hS:=below_next hS hb
         (try simp only [pS])
         replace o0:=o0.below hb
         replace o1:=o1.below hb
         replace rS:=rS.still hb
         have hgn:=rN.lt
         have hgs:=rS.lt
         refine tg 13 hS (v := .agg #[.slice y0 32 e0,.slice y1 32 e1,.slice (some ⟨gn,0,none⟩) 1 1,.int .i64 1,.slice none 0 0,.slice (some ⟨gs,0,none⟩) 64 64]) ?_ (hy:=by intro u _;kernel_rfl)
         (try simp only [pS])
         refine wpAnyH_done (by kernel_rfl) ?_ _
         have k2:=K2.out.still hS
         refine lastRow 14 54 2 16 [.slice y0 32 e0,.slice y1 32 e1,.slice (some ⟨gn,0,none⟩) 1 1,.int .i64 1,.slice none 0 0,.slice (some ⟨gs,0,none⟩) 64 64] k2 rfl infoL6 (by simp [Value.oneCell']) (fun rr => ?_)
         refine NoPanic.normal ?_
         go_wp2
         refine bodyPost_ret (results_cell_mid Tryz.results46 _ _ w.heap.size 0 [.slice y0 32 e0,.slice y1 32 e1,.slice (some ⟨gn,0,none⟩) 1 1,.int .i64 1,.slice none 0 0,.slice (some ⟨gs,0,none⟩) 64 64] _ rfl rr.range Tryz.underlying54 rfl infoL6) rfl ?_
         exact lfM_end n hS bV o0 o1 rN rS Hgk.out k2
       exact AllReadyH.nil
     exact AllReadyH.nil
   refine rG 11 (fun g => .slice (some ⟨g,0,none⟩) 1 1) ([.int .u8 ((97+n%26:Nat):Int)]) 5 (fun u hb=>below_next hS hb) (fun w2 gn lrN hb rN => ?_) ?_
   · replace hS:=below_next hS hb
     (try simp only [pS])
     replace o0:=o0.below hb
     refine wpAnyH_ready (rs:=[6,12]) (by kernel_rfl) (by simp) ?_
     refine rC 6 (key_any (4*n+1) w2) (fun e w3 hr => ?_) ?_
     · obtain ⟨s1,rfl,o1,hb⟩:=hr
       obtain ⟨y1,e1,rfl⟩:=o1.slice;replace o1:=o1.base hS.size
       replace hS:=below_next hS hb
       refine ⟨_,rfl,hS,?_⟩
       (try simp only [pS])
       replace o0:=o0.below hb
       replace rN:=rN.still hb
       refine wpAnyH_ready (rs:=[12]) (by kernel_rfl) (by simp) ?_
       refine rG 12 (fun g => .slice (some ⟨g,0,none⟩) 64 64) (List.replicate 64 (.int .u8 0)) 5 (fun u hb=>below_next hS hb) (fun w4 gs lrS hb rS => ?_) ?_
       · replace hS:=below_next hS hb
         (try simp only [pS])
         replace o0:=o0.below hb
         replace rN:=rN.still hb
         replace o1:=o1.below hb
         have hgn:=rN.lt
         have hgs:=rS.lt
         refine tg 13 hS (v := .agg #[.slice y0 32 e0,.slice y1 32 e1,.slice (some ⟨gn,0,none⟩) 1 1,.int .i64 1,.slice none 0 0,.slice (some ⟨gs,0,none⟩) 64 64]) ?_ (hy:=by intro u _;kernel_rfl)
         (try simp only [pS])
         refine wpAnyH_done (by kernel_rfl) ?_ _
         have k2:=K2.out.still hS
         refine lastRow 14 54 2 16 [.slice y0 32 e0,.slice y1 32 e1,.slice (some ⟨gn,0,none⟩) 1 1,.int .i64 1,.slice none 0 0,.slice (some ⟨gs,0,none⟩) 64 64] k2 rfl infoL6 (by simp [Value.oneCell']) (fun rr => ?_)
         refine NoPanic.normal ?_
         go_wp2
         refine bodyPost_ret (results_cell_mid Tryz.results46 _ _ w.heap.size 0 [.slice y0 32 e0,.slice y1 32 e1,.slice (some ⟨gn,0,none⟩) 1 1,.int .i64 1,.slice none 0 0,.slice (some ⟨gs,0,none⟩) 64 64] _ rfl rr.range Tryz.underlying54 rfl infoL6) rfl ?_
         exact lfM_end n hS bV o0 o1 rN rS Hgk.out k2
       exact AllReadyH.nil
     refine rG 12 (fun g => .slice (some ⟨g,0,none⟩) 64 64) (List.replicate 64 (.int .u8 0)) 5 (fun u hb=>below_next hS hb) (fun w3 gs lrS hb rS => ?_) ?_
     · replace hS:=below_next hS hb
       (try simp only [pS])
       replace o0:=o0.below hb
       replace rN:=rN.still hb
       refine wpAnyH_ready (rs:=[6]) (by kernel_rfl) (by simp) ?_
       refine rC 6 (key_any (4*n+1) w3) (fun e w4 hr => ?_) ?_
       · obtain ⟨s1,rfl,o1,hb⟩:=hr
         obtain ⟨y1,e1,rfl⟩:=o1.slice;replace o1:=o1.base hS.size
         replace hS:=below_next hS hb
         refine ⟨_,rfl,hS,?_⟩
         (try simp only [pS])
         replace o0:=o0.below hb
         replace rN:=rN.still hb
         replace rS:=rS.still hb
         have hgn:=rN.lt
         have hgs:=rS.lt
         refine tg 13 hS (v := .agg #[.slice y0 32 e0,.slice y1 32 e1,.slice (some ⟨gn,0,none⟩) 1 1,.int .i64 1,.slice none 0 0,.slice (some ⟨gs,0,none⟩) 64 64]) ?_ (hy:=by intro u _;kernel_rfl)
         (try simp only [pS])
         refine wpAnyH_done (by kernel_rfl) ?_ _
         have k2:=K2.out.still hS
         refine lastRow 14 54 2 16 [.slice y0 32 e0,.slice y1 32 e1,.slice (some ⟨gn,0,none⟩) 1 1,.int .i64 1,.slice none 0 0,.slice (some ⟨gs,0,none⟩) 64 64] k2 rfl infoL6 (by simp [Value.oneCell']) (fun rr => ?_)
         refine NoPanic.normal ?_
         go_wp2
         refine bodyPost_ret (results_cell_mid Tryz.results46 _ _ w.heap.size 0 [.slice y0 32 e0,.slice y1 32 e1,.slice (some ⟨gn,0,none⟩) 1 1,.int .i64 1,.slice none 0 0,.slice (some ⟨gs,0,none⟩) 64 64] _ rfl rr.range Tryz.underlying54 rfl infoL6) rfl ?_
         exact lfM_end n hS bV o0 o1 rN rS Hgk.out k2
       exact AllReadyH.nil
     exact AllReadyH.nil
   refine rG 12 (fun g => .slice (some ⟨g,0,none⟩) 64 64) (List.replicate 64 (.int .u8 0)) 5 (fun u hb=>below_next hS hb) (fun w2 gs lrS hb rS => ?_) ?_
   · replace hS:=below_next hS hb
     (try simp only [pS])
     replace o0:=o0.below hb
     refine wpAnyH_ready (rs:=[6,11]) (by kernel_rfl) (by simp) ?_
     refine rC 6 (key_any (4*n+1) w2) (fun e w3 hr => ?_) ?_
     · obtain ⟨s1,rfl,o1,hb⟩:=hr
       obtain ⟨y1,e1,rfl⟩:=o1.slice;replace o1:=o1.base hS.size
       replace hS:=below_next hS hb
       refine ⟨_,rfl,hS,?_⟩
       (try simp only [pS])
       replace o0:=o0.below hb
       replace rS:=rS.still hb
       refine wpAnyH_ready (rs:=[11]) (by kernel_rfl) (by simp) ?_
       refine rG 11 (fun g => .slice (some ⟨g,0,none⟩) 1 1) ([.int .u8 ((97+n%26:Nat):Int)]) 5 (fun u hb=>below_next hS hb) (fun w4 gn lrN hb rN => ?_) ?_
       · replace hS:=below_next hS hb
         (try simp only [pS])
         replace o0:=o0.below hb
         replace rS:=rS.still hb
         replace o1:=o1.below hb
         have hgn:=rN.lt
         have hgs:=rS.lt
         refine tg 13 hS (v := .agg #[.slice y0 32 e0,.slice y1 32 e1,.slice (some ⟨gn,0,none⟩) 1 1,.int .i64 1,.slice none 0 0,.slice (some ⟨gs,0,none⟩) 64 64]) ?_ (hy:=by intro u _;kernel_rfl)
         (try simp only [pS])
         refine wpAnyH_done (by kernel_rfl) ?_ _
         have k2:=K2.out.still hS
         refine lastRow 14 54 2 16 [.slice y0 32 e0,.slice y1 32 e1,.slice (some ⟨gn,0,none⟩) 1 1,.int .i64 1,.slice none 0 0,.slice (some ⟨gs,0,none⟩) 64 64] k2 rfl infoL6 (by simp [Value.oneCell']) (fun rr => ?_)
         refine NoPanic.normal ?_
         go_wp2
         refine bodyPost_ret (results_cell_mid Tryz.results46 _ _ w.heap.size 0 [.slice y0 32 e0,.slice y1 32 e1,.slice (some ⟨gn,0,none⟩) 1 1,.int .i64 1,.slice none 0 0,.slice (some ⟨gs,0,none⟩) 64 64] _ rfl rr.range Tryz.underlying54 rfl infoL6) rfl ?_
         exact lfM_end n hS bV o0 o1 rN rS Hgk.out k2
       exact AllReadyH.nil
     refine rG 11 (fun g => .slice (some ⟨g,0,none⟩) 1 1) ([.int .u8 ((97+n%26:Nat):Int)]) 5 (fun u hb=>below_next hS hb) (fun w3 gn lrN hb rN => ?_) ?_
     · replace hS:=below_next hS hb
       (try simp only [pS])
       replace o0:=o0.below hb
       replace rS:=rS.still hb
       refine wpAnyH_ready (rs:=[6]) (by kernel_rfl) (by simp) ?_
       refine rC 6 (key_any (4*n+1) w3) (fun e w4 hr => ?_) ?_
       · obtain ⟨s1,rfl,o1,hb⟩:=hr
         obtain ⟨y1,e1,rfl⟩:=o1.slice;replace o1:=o1.base hS.size
         replace hS:=below_next hS hb
         refine ⟨_,rfl,hS,?_⟩
         (try simp only [pS])
         replace o0:=o0.below hb
         replace rS:=rS.still hb
         replace rN:=rN.still hb
         have hgn:=rN.lt
         have hgs:=rS.lt
         refine tg 13 hS (v := .agg #[.slice y0 32 e0,.slice y1 32 e1,.slice (some ⟨gn,0,none⟩) 1 1,.int .i64 1,.slice none 0 0,.slice (some ⟨gs,0,none⟩) 64 64]) ?_ (hy:=by intro u _;kernel_rfl)
         (try simp only [pS])
         refine wpAnyH_done (by kernel_rfl) ?_ _
         have k2:=K2.out.still hS
         refine lastRow 14 54 2 16 [.slice y0 32 e0,.slice y1 32 e1,.slice (some ⟨gn,0,none⟩) 1 1,.int .i64 1,.slice none 0 0,.slice (some ⟨gs,0,none⟩) 64 64] k2 rfl infoL6 (by simp [Value.oneCell']) (fun rr => ?_)
         refine NoPanic.normal ?_
         go_wp2
         refine bodyPost_ret (results_cell_mid Tryz.results46 _ _ w.heap.size 0 [.slice y0 32 e0,.slice y1 32 e1,.slice (some ⟨gn,0,none⟩) 1 1,.int .i64 1,.slice none 0 0,.slice (some ⟨gs,0,none⟩) 64 64] _ rfl rr.range Tryz.underlying54 rfl infoL6) rfl ?_
         exact lfM_end n hS bV o0 o1 rN rS Hgk.out k2
       exact AllReadyH.nil
     exact AllReadyH.nil
   exact AllReadyH.nil
 refine rG 11 (fun g => .slice (some ⟨g,0,none⟩) 1 1) ([.int .u8 ((97+n%26:Nat):Int)]) 5 (fun u hb=>below_next hS hb) (fun w1 gn lrN hb rN => ?_) ?_
 · replace hS:=below_next hS hb
   (try simp only [pS])
   refine wpAnyH_ready (rs:=[2,12]) (by kernel_rfl) (by simp) ?_
   refine rC 2 (key_any (4*n) w1) (fun e w2 hr => ?_) ?_
   · obtain ⟨s0,rfl,o0,hb⟩:=hr
     obtain ⟨y0,e0,rfl⟩:=o0.slice;replace o0:=o0.base hS.size
     replace hS:=below_next hS hb
     refine ⟨_,rfl,hS,?_⟩
     (try simp only [pS])
     replace rN:=rN.still hb
     refine wpAnyH_ready (rs:=[6,12]) (by kernel_rfl) (by simp) ?_
     refine rC 6 (key_any (4*n+1) w2) (fun e w3 hr => ?_) ?_
     · obtain ⟨s1,rfl,o1,hb⟩:=hr
       obtain ⟨y1,e1,rfl⟩:=o1.slice;replace o1:=o1.base hS.size
       replace hS:=below_next hS hb
       refine ⟨_,rfl,hS,?_⟩
       (try simp only [pS])
       replace rN:=rN.still hb
       replace o0:=o0.below hb
       refine wpAnyH_ready (rs:=[12]) (by kernel_rfl) (by simp) ?_
       refine rG 12 (fun g => .slice (some ⟨g,0,none⟩) 64 64) (List.replicate 64 (.int .u8 0)) 5 (fun u hb=>below_next hS hb) (fun w4 gs lrS hb rS => ?_) ?_
       · replace hS:=below_next hS hb
         (try simp only [pS])
         replace rN:=rN.still hb
         replace o0:=o0.below hb
         replace o1:=o1.below hb
         have hgn:=rN.lt
         have hgs:=rS.lt
         refine tg 13 hS (v := .agg #[.slice y0 32 e0,.slice y1 32 e1,.slice (some ⟨gn,0,none⟩) 1 1,.int .i64 1,.slice none 0 0,.slice (some ⟨gs,0,none⟩) 64 64]) ?_ (hy:=by intro u _;kernel_rfl)
         (try simp only [pS])
         refine wpAnyH_done (by kernel_rfl) ?_ _
         have k2:=K2.out.still hS
         refine lastRow 14 54 2 16 [.slice y0 32 e0,.slice y1 32 e1,.slice (some ⟨gn,0,none⟩) 1 1,.int .i64 1,.slice none 0 0,.slice (some ⟨gs,0,none⟩) 64 64] k2 rfl infoL6 (by simp [Value.oneCell']) (fun rr => ?_)
         refine NoPanic.normal ?_
         go_wp2
         refine bodyPost_ret (results_cell_mid Tryz.results46 _ _ w.heap.size 0 [.slice y0 32 e0,.slice y1 32 e1,.slice (some ⟨gn,0,none⟩) 1 1,.int .i64 1,.slice none 0 0,.slice (some ⟨gs,0,none⟩) 64 64] _ rfl rr.range Tryz.underlying54 rfl infoL6) rfl ?_
         exact lfM_end n hS bV o0 o1 rN rS Hgk.out k2
       exact AllReadyH.nil
     refine rG 12 (fun g => .slice (some ⟨g,0,none⟩) 64 64) (List.replicate 64 (.int .u8 0)) 5 (fun u hb=>below_next hS hb) (fun w3 gs lrS hb rS => ?_) ?_
     · replace hS:=below_next hS hb
       (try simp only [pS])
       replace rN:=rN.still hb
       replace o0:=o0.below hb
       refine wpAnyH_ready (rs:=[6]) (by kernel_rfl) (by simp) ?_
       refine rC 6 (key_any (4*n+1) w3) (fun e w4 hr => ?_) ?_
       · obtain ⟨s1,rfl,o1,hb⟩:=hr
         obtain ⟨y1,e1,rfl⟩:=o1.slice;replace o1:=o1.base hS.size
         replace hS:=below_next hS hb
         refine ⟨_,rfl,hS,?_⟩
         (try simp only [pS])
         replace rN:=rN.still hb
         replace o0:=o0.below hb
         replace rS:=rS.still hb
         have hgn:=rN.lt
         have hgs:=rS.lt
         refine tg 13 hS (v := .agg #[.slice y0 32 e0,.slice y1 32 e1,.slice (some ⟨gn,0,none⟩) 1 1,.int .i64 1,.slice none 0 0,.slice (some ⟨gs,0,none⟩) 64 64]) ?_ (hy:=by intro u _;kernel_rfl)
         (try simp only [pS])
         refine wpAnyH_done (by kernel_rfl) ?_ _
         have k2:=K2.out.still hS
         refine lastRow 14 54 2 16 [.slice y0 32 e0,.slice y1 32 e1,.slice (some ⟨gn,0,none⟩) 1 1,.int .i64 1,.slice none 0 0,.slice (some ⟨gs,0,none⟩) 64 64] k2 rfl infoL6 (by simp [Value.oneCell']) (fun rr => ?_)
         refine NoPanic.normal ?_
         go_wp2
         refine bodyPost_ret (results_cell_mid Tryz.results46 _ _ w.heap.size 0 [.slice y0 32 e0,.slice y1 32 e1,.slice (some ⟨gn,0,none⟩) 1 1,.int .i64 1,.slice none 0 0,.slice (some ⟨gs,0,none⟩) 64 64] _ rfl rr.range Tryz.underlying54 rfl infoL6) rfl ?_
         exact lfM_end n hS bV o0 o1 rN rS Hgk.out k2
       exact AllReadyH.nil
     exact AllReadyH.nil
   refine rG 12 (fun g => .slice (some ⟨g,0,none⟩) 64 64) (List.replicate 64 (.int .u8 0)) 5 (fun u hb=>below_next hS hb) (fun w2 gs lrS hb rS => ?_) ?_
   · replace hS:=below_next hS hb
     (try simp only [pS])
     replace rN:=rN.still hb
     refine wpAnyH_ready (rs:=[2]) (by kernel_rfl) (by simp) ?_
     refine rC 2 (key_any (4*n) w2) (fun e w3 hr => ?_) ?_
     · obtain ⟨s0,rfl,o0,hb⟩:=hr
       obtain ⟨y0,e0,rfl⟩:=o0.slice;replace o0:=o0.base hS.size
       replace hS:=below_next hS hb
       refine ⟨_,rfl,hS,?_⟩
       (try simp only [pS])
       replace rN:=rN.still hb
       replace rS:=rS.still hb
       refine wpAnyH_ready (rs:=[6]) (by kernel_rfl) (by simp) ?_
       refine rC 6 (key_any (4*n+1) w3) (fun e w4 hr => ?_) ?_
       · obtain ⟨s1,rfl,o1,hb⟩:=hr
         obtain ⟨y1,e1,rfl⟩:=o1.slice;replace o1:=o1.base hS.size
         replace hS:=below_next hS hb
         refine ⟨_,rfl,hS,?_⟩
         (try simp only [pS])
         replace rN:=rN.still hb
         replace rS:=rS.still hb
         replace o0:=o0.below hb
         have hgn:=rN.lt
         have hgs:=rS.lt
         refine tg 13 hS (v := .agg #[.slice y0 32 e0,.slice y1 32 e1,.slice (some ⟨gn,0,none⟩) 1 1,.int .i64 1,.slice none 0 0,.slice (some ⟨gs,0,none⟩) 64 64]) ?_ (hy:=by intro u _;kernel_rfl)
         (try simp only [pS])
         refine wpAnyH_done (by kernel_rfl) ?_ _
         have k2:=K2.out.still hS
         refine lastRow 14 54 2 16 [.slice y0 32 e0,.slice y1 32 e1,.slice (some ⟨gn,0,none⟩) 1 1,.int .i64 1,.slice none 0 0,.slice (some ⟨gs,0,none⟩) 64 64] k2 rfl infoL6 (by simp [Value.oneCell']) (fun rr => ?_)
         refine NoPanic.normal ?_
         go_wp2
         refine bodyPost_ret (results_cell_mid Tryz.results46 _ _ w.heap.size 0 [.slice y0 32 e0,.slice y1 32 e1,.slice (some ⟨gn,0,none⟩) 1 1,.int .i64 1,.slice none 0 0,.slice (some ⟨gs,0,none⟩) 64 64] _ rfl rr.range Tryz.underlying54 rfl infoL6) rfl ?_
         exact lfM_end n hS bV o0 o1 rN rS Hgk.out k2
       exact AllReadyH.nil
     exact AllReadyH.nil
   exact AllReadyH.nil
 refine rG 12 (fun g => .slice (some ⟨g,0,none⟩) 64 64) (List.replicate 64 (.int .u8 0)) 5 (fun u hb=>below_next hS hb) (fun w1 gs lrS hb rS => ?_) ?_
 · replace hS:=below_next hS hb
   (try simp only [pS])
   refine wpAnyH_ready (rs:=[2,11]) (by kernel_rfl) (by simp) ?_
   refine rC 2 (key_any (4*n) w1) (fun e w2 hr => ?_) ?_
   · obtain ⟨s0,rfl,o0,hb⟩:=hr
     obtain ⟨y0,e0,rfl⟩:=o0.slice;replace o0:=o0.base hS.size
     replace hS:=below_next hS hb
     refine ⟨_,rfl,hS,?_⟩
     (try simp only [pS])
     replace rS:=rS.still hb
     refine wpAnyH_ready (rs:=[6,11]) (by kernel_rfl) (by simp) ?_
     refine rC 6 (key_any (4*n+1) w2) (fun e w3 hr => ?_) ?_
     · obtain ⟨s1,rfl,o1,hb⟩:=hr
       obtain ⟨y1,e1,rfl⟩:=o1.slice;replace o1:=o1.base hS.size
       replace hS:=below_next hS hb
       refine ⟨_,rfl,hS,?_⟩
       (try simp only [pS])
       replace rS:=rS.still hb
       replace o0:=o0.below hb
       refine wpAnyH_ready (rs:=[11]) (by kernel_rfl) (by simp) ?_
       refine rG 11 (fun g => .slice (some ⟨g,0,none⟩) 1 1) ([.int .u8 ((97+n%26:Nat):Int)]) 5 (fun u hb=>below_next hS hb) (fun w4 gn lrN hb rN => ?_) ?_
       · replace hS:=below_next hS hb
         (try simp only [pS])
         replace rS:=rS.still hb
         replace o0:=o0.below hb
         replace o1:=o1.below hb
         have hgn:=rN.lt
         have hgs:=rS.lt
         refine tg 13 hS (v := .agg #[.slice y0 32 e0,.slice y1 32 e1,.slice (some ⟨gn,0,none⟩) 1 1,.int .i64 1,.slice none 0 0,.slice (some ⟨gs,0,none⟩) 64 64]) ?_ (hy:=by intro u _;kernel_rfl)
         (try simp only [pS])
         refine wpAnyH_done (by kernel_rfl) ?_ _
         have k2:=K2.out.still hS
         refine lastRow 14 54 2 16 [.slice y0 32 e0,.slice y1 32 e1,.slice (some ⟨gn,0,none⟩) 1 1,.int .i64 1,.slice none 0 0,.slice (some ⟨gs,0,none⟩) 64 64] k2 rfl infoL6 (by simp [Value.oneCell']) (fun rr => ?_)
         refine NoPanic.normal ?_
         go_wp2
         refine bodyPost_ret (results_cell_mid Tryz.results46 _ _ w.heap.size 0 [.slice y0 32 e0,.slice y1 32 e1,.slice (some ⟨gn,0,none⟩) 1 1,.int .i64 1,.slice none 0 0,.slice (some ⟨gs,0,none⟩) 64 64] _ rfl rr.range Tryz.underlying54 rfl infoL6) rfl ?_
         exact lfM_end n hS bV o0 o1 rN rS Hgk.out k2
       exact AllReadyH.nil
     refine rG 11 (fun g => .slice (some ⟨g,0,none⟩) 1 1) ([.int .u8 ((97+n%26:Nat):Int)]) 5 (fun u hb=>below_next hS hb) (fun w3 gn lrN hb rN => ?_) ?_
     · replace hS:=below_next hS hb
       (try simp only [pS])
       replace rS:=rS.still hb
       replace o0:=o0.below hb
       refine wpAnyH_ready (rs:=[6]) (by kernel_rfl) (by simp) ?_
       refine rC 6 (key_any (4*n+1) w3) (fun e w4 hr => ?_) ?_
       · obtain ⟨s1,rfl,o1,hb⟩:=hr
         obtain ⟨y1,e1,rfl⟩:=o1.slice;replace o1:=o1.base hS.size
         replace hS:=below_next hS hb
         refine ⟨_,rfl,hS,?_⟩
         (try simp only [pS])
         replace rS:=rS.still hb
         replace o0:=o0.below hb
         replace rN:=rN.still hb
         have hgn:=rN.lt
         have hgs:=rS.lt
         refine tg 13 hS (v := .agg #[.slice y0 32 e0,.slice y1 32 e1,.slice (some ⟨gn,0,none⟩) 1 1,.int .i64 1,.slice none 0 0,.slice (some ⟨gs,0,none⟩) 64 64]) ?_ (hy:=by intro u _;kernel_rfl)
         (try simp only [pS])
         refine wpAnyH_done (by kernel_rfl) ?_ _
         have k2:=K2.out.still hS
         refine lastRow 14 54 2 16 [.slice y0 32 e0,.slice y1 32 e1,.slice (some ⟨gn,0,none⟩) 1 1,.int .i64 1,.slice none 0 0,.slice (some ⟨gs,0,none⟩) 64 64] k2 rfl infoL6 (by simp [Value.oneCell']) (fun rr => ?_)
         refine NoPanic.normal ?_
         go_wp2
         refine bodyPost_ret (results_cell_mid Tryz.results46 _ _ w.heap.size 0 [.slice y0 32 e0,.slice y1 32 e1,.slice (some ⟨gn,0,none⟩) 1 1,.int .i64 1,.slice none 0 0,.slice (some ⟨gs,0,none⟩) 64 64] _ rfl rr.range Tryz.underlying54 rfl infoL6) rfl ?_
         exact lfM_end n hS bV o0 o1 rN rS Hgk.out k2
       exact AllReadyH.nil
     exact AllReadyH.nil
   refine rG 11 (fun g => .slice (some ⟨g,0,none⟩) 1 1) ([.int .u8 ((97+n%26:Nat):Int)]) 5 (fun u hb=>below_next hS hb) (fun w2 gn lrN hb rN => ?_) ?_
   · replace hS:=below_next hS hb
     (try simp only [pS])
     replace rS:=rS.still hb
     refine wpAnyH_ready (rs:=[2]) (by kernel_rfl) (by simp) ?_
     refine rC 2 (key_any (4*n) w2) (fun e w3 hr => ?_) ?_
     · obtain ⟨s0,rfl,o0,hb⟩:=hr
       obtain ⟨y0,e0,rfl⟩:=o0.slice;replace o0:=o0.base hS.size
       replace hS:=below_next hS hb
       refine ⟨_,rfl,hS,?_⟩
       (try simp only [pS])
       replace rS:=rS.still hb
       replace rN:=rN.still hb
       refine wpAnyH_ready (rs:=[6]) (by kernel_rfl) (by simp) ?_
       refine rC 6 (key_any (4*n+1) w3) (fun e w4 hr => ?_) ?_
       · obtain ⟨s1,rfl,o1,hb⟩:=hr
         obtain ⟨y1,e1,rfl⟩:=o1.slice;replace o1:=o1.base hS.size
         replace hS:=below_next hS hb
         refine ⟨_,rfl,hS,?_⟩
         (try simp only [pS])
         replace rS:=rS.still hb
         replace rN:=rN.still hb
         replace o0:=o0.below hb
         have hgn:=rN.lt
         have hgs:=rS.lt
         refine tg 13 hS (v := .agg #[.slice y0 32 e0,.slice y1 32 e1,.slice (some ⟨gn,0,none⟩) 1 1,.int .i64 1,.slice none 0 0,.slice (some ⟨gs,0,none⟩) 64 64]) ?_ (hy:=by intro u _;kernel_rfl)
         (try simp only [pS])
         refine wpAnyH_done (by kernel_rfl) ?_ _
         have k2:=K2.out.still hS
         refine lastRow 14 54 2 16 [.slice y0 32 e0,.slice y1 32 e1,.slice (some ⟨gn,0,none⟩) 1 1,.int .i64 1,.slice none 0 0,.slice (some ⟨gs,0,none⟩) 64 64] k2 rfl infoL6 (by simp [Value.oneCell']) (fun rr => ?_)
         refine NoPanic.normal ?_
         go_wp2
         refine bodyPost_ret (results_cell_mid Tryz.results46 _ _ w.heap.size 0 [.slice y0 32 e0,.slice y1 32 e1,.slice (some ⟨gn,0,none⟩) 1 1,.int .i64 1,.slice none 0 0,.slice (some ⟨gs,0,none⟩) 64 64] _ rfl rr.range Tryz.underlying54 rfl infoL6) rfl ?_
         exact lfM_end n hS bV o0 o1 rN rS Hgk.out k2
       exact AllReadyH.nil
     exact AllReadyH.nil
   exact AllReadyH.nil
 exact AllReadyH.nil
end Go.Proofs.YtddkbmnkbfciaaaGreatDoor
namespace Go.Proofs.YtddkbmnkbfciaaaGreatDoor
open Go.RowKit Go.Shelf
theorem insZ_ok {l:List Int} {x:Int} (h:risU l l.length=true) (hx:0≤x∧x<64):risU (insZ l x) (insZ l x).length=true∧∀ z,z∈insZ l x↔z∈l∨z=x:=by
 unfold insZ
 by_cases hm:x∈l
 · rw [if_pos hm]
   exact ⟨h,fun z=>⟨fun hz => .inl hz,fun hz=>by rcases hz with hz | rfl;exact hz;exact hm⟩⟩
 · rw [if_neg hm]
   obtain ⟨hr,-,hb⟩:=risU_rises h
   have hk:=lesN_le l x
   have hmem:∀ z,z∈insK l (lesN l x) x↔z∈l∨z=x:=fun z=>by
    unfold insK
    rw [List.mem_append,List.mem_cons]
    constructor
    · rintro (hz | rfl | hz)
      · exact .inl (List.mem_of_mem_take hz)
      · exact .inr rfl
      · exact .inl (List.mem_of_mem_drop hz)
    · rintro (hz | rfl)
      · rw [←List.take_append_drop (lesN l x) l,List.mem_append] at hz
        exact hz.imp id .inr
      · exact .inr (.inl rfl)
   refine ⟨rises_risU (fun i j a b hi hj hij => ?_) (fun z hz => ?_) _ (Nat.le_refl _),hmem⟩
   · rw [insK_at l _ x hk] at hi hj
     have key:∀ (k:Nat) (z:Int),l[k]? = some z→(z<x↔k<lesN l x):=fun k z hz=>lesN_at hr x hz
     have nx:∀ (k:Nat) (z:Int),l[k]? = some z→z≠x:=fun k z hz e=>hm (e ▸ List.mem_of_getElem? hz)
     by_cases h1:i<lesN l x
     · rw [if_pos h1] at hi
       by_cases h2:j<lesN l x
       · rw [if_pos h2] at hj;exact hr i j a b hi hj hij
       · rw [if_neg h2] at hj
         by_cases h3:j=lesN l x
         · rw [if_pos h3] at hj;cases hj;exact (key i a hi).2 h1
         · rw [if_neg h3] at hj;exact hr i (j - 1) a b hi hj (by omega)
     · rw [if_neg h1] at hi
       have h2:¬j<lesN l x:=by omega
       have h3:¬j=lesN l x:=by omega
       rw [if_neg h2,if_neg h3] at hj
       by_cases h4:i=lesN l x
       · rw [if_pos h4] at hi
         cases hi
         have h5:=key _ _ hj
         have h6:=nx _ _ hj
         have:¬j - 1<lesN l x:=by omega
         have:¬b<x:=fun h=>this (h5.1 h)
         omega
       · rw [if_neg h4] at hi
         exact hr (i - 1) (j - 1) a b hi hj (by omega)
   · rcases (hmem z).1 hz with h1 | rfl
     · exact hb z h1
     · exact hx
structure Gd (T:Tr):Prop where
 ok:TrOK T
 rk:∀ x d,T.nd x=some d→ndR d
 um:∀ x p,T.nd x=some (.pr p)→∀ u∈p.um,belB x u=true
theorem Gd.new:Gd ⟨1,fun _=>none⟩:=⟨⟨rfl,(fun _ _ h=>by cases h),(fun _ _ h=>by cases h),(fun _ _ h=>by cases h)⟩,(fun _ _ h=>by cases h),(fun _ _ h=>by cases h)⟩
theorem Gd.sub {n:Nat} {F F':Int→Option Nd} (h:Gd ⟨n,F⟩) (e:∀ x d,F' x=some d→F x=some d):Gd ⟨n,F'⟩:=⟨h.ok.sub e,fun x d hx=>h.rk x d (e x d hx),fun x p hx=>h.um x p (e x _ hx)⟩
theorem upn_some {F:Int→Option Nd} {x y:Int} {o:Option Nd} {d:Nd} (h:upn F x o y=some d):(y=x∧o=some d)∨(y≠x∧F y=some d):=by
 unfold upn at h
 by_cases e:y=x
 · rw [if_pos e] at h;exact .inl ⟨e,h⟩
 · rw [if_neg e] at h;exact .inr ⟨e,h⟩
theorem Gd.leaf {n:Nat} {F:Int→Option Nd} (h:Gd ⟨n,F⟩) {i:Int} (hi:0≤i∧i<n) {d:LfD} (hR:lfR d 3) (hK:lfK d):Gd ⟨n,upn F (2*i) (some (.lf d))⟩:=by
 refine ⟨⟨h.ok.may,fun y d' hy => ?_,fun y d' hy => ?_,fun y d' hy => ?_⟩,fun y d' hy => ?_,fun y d' hy => ?_⟩
 · rcases upn_some hy with ⟨rfl,-⟩ | ⟨-,hy⟩
   · show (0:Int)≤2*i∧2*i<2*(n:Int) - 1;omega
   · exact h.ok.rng y d' hy
 · rcases upn_some hy with ⟨rfl,e⟩ | ⟨-,hy⟩
   · cases e;exact ⟨by omega,hR⟩
   · exact h.ok.lf y d' hy
 · rcases upn_some hy with ⟨rfl,e⟩ | ⟨-,hy⟩
   · cases e
   · exact h.ok.pr y d' hy
 · rcases upn_some hy with ⟨rfl,e⟩ | ⟨-,hy⟩
   · cases e;exact ⟨hR,hK⟩
   · exact h.rk y d' hy
 · rcases upn_some hy with ⟨rfl,e⟩ | ⟨-,hy⟩
   · cases e
   · exact h.um y d' hy
theorem um1_some {i:Int} {o:Option Nd} {d:Nd} (h:um1 i o=some d):(∃ p,o=some (.pr p)∧d = .pr { p with um:=insZ p.um i })∨(o=some d∧∀ p,d ≠ .pr p):=by
 cases o with
 | none=>cases h
 | some d'=>cases d' with
  | lf l=>cases h;exact .inr ⟨rfl,fun p e=>by cases e⟩
  | pr p=>cases h;exact .inl ⟨p,rfl,rfl⟩
theorem Gd.mark {n:Nat} {F:Int→Option Nd} (h:Gd ⟨n,F⟩) {i x:Int} (hi:0≤i∧i<64) (hb:belB x i=true):Gd ⟨n,upn F x (um1 i (F x))⟩:=by
 refine ⟨⟨h.ok.may,fun y d' hy => ?_,fun y d' hy => ?_,fun y d' hy => ?_⟩,fun y d' hy => ?_,fun y d' hy => ?_⟩
 all_goals rcases upn_some hy with ⟨rfl,e⟩ | ⟨-,hy⟩
 · rcases um1_some e with ⟨p,e1,rfl⟩ | ⟨e1,-⟩
   · exact h.ok.rng y _ e1
   · exact h.ok.rng y _ e1
 · exact h.ok.rng y d' hy
 · rcases um1_some e with ⟨p,e1,e2⟩ | ⟨e1,-⟩
   · cases e2
   · exact h.ok.lf y _ e1
 · exact h.ok.lf y d' hy
 · rcases um1_some e with ⟨p,e1,e2⟩ | ⟨-,e1⟩
   · cases e2
     obtain ⟨h1,h2,h3,h4⟩:=h.ok.pr y _ e1
     exact ⟨h1,h2,h3,(insZ_ok h4 hi).1⟩
   · exact absurd rfl (e1 _)
 · exact h.ok.pr y d' hy
 · rcases um1_some e with ⟨p,e1,rfl⟩ | ⟨e1,-⟩
   · have h1:=h.rk y _ e1
     exact ⟨⟨h1.1.1,h1.1.2.1,(insZ_ok h1.1.2.2 hi).1⟩,h1.2⟩
   · exact h.rk y _ e1
 · exact h.rk y d' hy
 · rcases um1_some e with ⟨p,e1,e2⟩ | ⟨-,e1⟩
   · cases e2
     intro u hu
     rcases ((insZ_ok (h.ok.pr y _ e1).2.2.2 hi).2 u).1 hu with h1 | rfl
     · exact h.um y _ e1 u h1
     · exact hb
   · exact absurd rfl (e1 _)
 · exact h.um y d' hy
theorem Gd.umg {n:Nat} {i:Int} (hi:0≤i∧i<64):∀ {l:List Int} {F:Int→Option Nd},Gd ⟨n,F⟩→(∀ x∈l,belB x i=true)→Gd ⟨n,umgL i F l⟩
 | [],_,h,_=>h
 | x :: r,_,h,hb=>Gd.umg (l:=r) hi (h.mark hi (hb x (List.mem_cons_self ..))) (fun y hy=>hb y (List.mem_cons_of_mem _ hy))
def trees6:List Nat:=[1,2,4,8,16,32,64]
theorem may6 {n:Nat} (h:mayB (n:Int)=true):n∈trees6:=by
 have:=mayB_cases h
 simp only [trees6,List.mem_cons,List.not_mem_nil,or_false]
 omega
theorem path_bel6:(trees6.all fun s=>(List.range s).all fun a=>(pathL (a:Int) (s:Int)).all fun z=>belB z (a:Int))=true:=by kernel_rfl
theorem path_bel {n:Nat} (h:mayB (n:Int)=true) {i:Int} (hi:0≤i∧i<n) {z:Int} (hz:z∈pathL i n):belB z i=true:=by
 have h1:=List.all_eq_true.1 path_bel6 n (may6 h)
 obtain ⟨a,rfl⟩:∃ a:Nat,i=(a:Int):=⟨i.toNat,by omega⟩
 have h2:=List.all_eq_true.1 h1 a (List.mem_range.2 (by omega))
 exact List.all_eq_true.1 h2 z hz
theorem Gd.wider {n m:Nat} {F:Int→Option Nd} (h:Gd ⟨n,F⟩) (hm:mayB (m:Int)=true) (hle:n≤m):Gd ⟨m,F⟩ :=
 ⟨⟨hm,fun x d hx=>by have:=h.ok.rng x d hx;show 0≤x∧x<2*(m:Int) - 1;have e:(⟨n,F⟩:Tr).n=n:=rfl;rw [e] at this;omega,h.ok.lf,h.ok.pr⟩,h.rk,h.um⟩
theorem addN_may {T:Tr} (h:TrOK T) (hf:fbL T.nd T.n≠T.n∨T.n≠64):mayB (addN T:Int)=true∧T.n≤addN T∧fbL T.nd T.n<addN T:=by
 have h1:=mayB_cases h.may
 have h2:=fbL_le T.nd T.n
 unfold addN
 by_cases e:fbL T.nd T.n=T.n
 · rw [if_pos e]
   refine ⟨?_,by omega,by omega⟩
   have:T.n=1∨T.n=2∨T.n=4∨T.n=8∨T.n=16∨T.n=32:=by omega
   rcases this with h | h | h | h | h | h <;> rw [h] <;> rfl
 · rw [if_neg e]
   exact ⟨h.may,Nat.le_refl _,by omega⟩
theorem Gd.add {T:Tr} (h:Gd T) (hf:fbL T.nd T.n≠T.n∨T.n≠64) {d:LfD} (hR:lfR d 3) (hK:lfK d):Gd (addT T d):=by
 obtain ⟨h1,h2,h3⟩:=addN_may h.ok hf
 have h64:=h.ok.n64
 have hle:addN T≤64:=by have:=mayB_cases h1;omega
 unfold addT
 exact Gd.umg (by omega) ((Gd.wider (n:=T.n) (F:=T.nd) h h1 h2).leaf (by omega) hR hK) (fun x hx=>path_bel h1 (by omega) hx)
theorem Gd.set {T:Tr} (h:Gd T) {i:Int} (hi:0≤i∧i<T.n) {d:LfD} (hR:lfR d 3) (hK:lfK d):Gd ⟨T.n,delL (upn T.nd (2*i) (some (.lf d))) (pathL i T.n)⟩ :=
 (Gd.leaf (n:=T.n) (F:=T.nd) h hi hR hK).sub delL_sub
theorem Gd.putP {n:Nat} {F:Int→Option Nd} (h:Gd ⟨n,F⟩) (x:Int) (p:PrD) (hp:prR p) (hk:prK p) (hx:0≤x∧x<2*(n:Int) - 1) (ho:x%2=1) (hu:p.um=[]):Gd ⟨n,upn F x (some (.pr p))⟩:=by
 refine ⟨h.ok.put x p hp hx ho,fun y d hy => ?_,fun y q hy => ?_⟩
 · rcases upn_some hy with ⟨rfl,e⟩ | ⟨-,hy⟩
   · cases e;exact ⟨hp,hk⟩
   · exact h.rk y d hy
 · rcases upn_some hy with ⟨rfl,e⟩ | ⟨-,hy⟩
   · cases e;intro u hu2;rw [hu] at hu2;cases hu2
   · exact h.um y q hy
theorem Gd.spAll {n:Nat} {xs ss:List Int} {ks:List Tx} {F:Int→Option Nd} (h:Gd ⟨n,F⟩) (hx:∀ (j:Nat) z,xs[j]? = some z→(0≤z∧z<2*(n:Int) - 1)∧z%2=1) (hk:∀ j,j<xs.length→(keyA ks j).n=32) (hb:∀ t∈ks,∀ j,t.b j<256):∀ k,k≤xs.length→Gd ⟨n,(spS n xs ss ks F k).1⟩
 | 0,_=>h
 | k+1,hl=>by
  have ih:=Gd.spAll (ss:=ss) h hx hk hb k (by omega)
  have i2:=(spS_ok (ss:=ss) h.ok hx hk k (by omega)).2
  have hm:xs.length - 1 - k<xs.length:=by omega
  obtain ⟨h1,h2⟩:=hx (xs.length - 1 - k) _ (List.getElem?_eq_getElem hm)
  show Gd ⟨n,upn (spS n xs ss ks F k).1 ((xs[xs.length - 1 - k]?).getD 0) (some (.pr (spP ks (xs.length - 1 - k) (spS n xs ss ks F k))))⟩
  rw [List.getElem?_eq_getElem hm,Option.getD_some]
  exact ih.putP _ _ (spP_R (hk _ hm) i2) (spP_K hb (spS_lt k)) h1 h2 rfl
theorem filL_in {T:Tr} {i:Int} (j:Nat) (z:Int) (hz:(filL T i)[j]? = some z):(0≤z∧z<2*(T.n:Int) - 1)∧z%2=1:=by
 obtain ⟨k,hk,e⟩:=filK_mem (List.mem_of_getElem? hz)
 rw [List.getElem?_eq_getElem hk,Option.getD_some] at e
 exact path_in (n:=T.n) (by rw [e];exact List.getElem_mem hk)
theorem Gd.sp {T:Tr} (h:Gd T) {i:Int} {ks:List Tx} (hl:ks.length=(filL T i).length) (h32:∀ t∈ks,t.n=32) (hb:∀ t∈ks,∀ j,t.b j<256):Gd (spT T i ks).1:=by
 refine Gd.spAll (n:=T.n) (Gd.sub (n:=T.n) (F:=T.nd) h delL_sub) filL_in (fun j hj => ?_) hb _ (Nat.le_refl _)
 have hl:j<ks.length:=by omega
 rw [keyA_at (List.getElem?_eq_getElem hl)]
 exact h32 _ (List.getElem_mem hl)
end Go.Proofs.YtddkbmnkbfciaaaGreatDoor
