/- The law CodecWrites: both answer the same. -/
import Derived.Test.YtibgjjbnehhanaaD1CDM
namespace Go.Proofs.Ytibgjjbnehhanaa
open Go.RowKit
def AnsW (x:Int) (m:Nat) (X:Nat→Nat) (w:World) (e:Ending) (w':World):Prop:=∃ v,e = .returned (.tuple #[v,.int .i64 x])∧BytesIn w' v m X∧Below w.heap.size w w'
theorem ansW_nil {x:Int} {X:Nat→Nat} {w:World} {f:FuncId} {ar:Array Value} (c:Calls Try.prog f ar w fun e w'=>e = .returned (.tuple #[.slice none 0 0,.int .i64 x])∧Below w.heap.size w w'):Calls Try.prog f ar w (AnsW x 0 X w) :=
 c.mono fun _ _ ⟨h1,h2⟩=>⟨_,h1,.inl ⟨none,rfl,rfl⟩,h2⟩
theorem ansW_own {m:Nat} {X:Nat→Nat} {w:World} {f:FuncId} {ar:Array Value} (c:Calls Try.prog f ar w fun e w'=>∃ v,e = .returned (.tuple #[v,.int .i64 0])∧Own w.heap.size w' v m X∧Below w.heap.size w w'):Calls Try.prog f ar w (AnsW 0 m X w) :=
 c.mono fun _ _ ⟨v,h1,h2,h3⟩=>⟨v,h1,BytesIn.of_own h2,h3⟩
theorem num_both (n s:Int):∃ x m X,(∀ j,X j<256)∧(∀ w,Calls Try.prog 11 #[.int .i64 n,.int .i64 s] w (AnsW x m X w))∧∀ w,Calls Try.prog 12 #[.int .i64 n,.int .i64 s] w (AnsW x m X w):=by
 by_cases hs:szB s=false
 · exact ⟨1,0,fun _=>0,fun _=>Nat.zero_lt_succ _,fun w=>ansW_nil (cNum11_arg n s hs w),fun w=>ansW_nil (rNum11_arg n s hs w)⟩
 replace hs:szB s=true:=by simpa using hs
 have hs':=szB_cases hs
 obtain ⟨k,rfl⟩:∃ k:Nat,s=(k:Int):=⟨s.toNat,by omega⟩
 by_cases hn:n<0∨(mstN k:Int)≤n
 · exact ⟨11,0,fun _=>0,fun _=>Nat.zero_lt_succ _,fun w=>ansW_nil (cNum11_range n k hs hn w),fun w=>ansW_nil (rNum11_range n k hs hn w)⟩
 obtain ⟨a,rfl⟩:∃ a:Nat,n=(a:Int):=⟨n.toNat,by omega⟩
 exact ⟨0,k,beN a k,fun j=>beN_lt _ _ j,fun w=>cNum11_good a k hs (by omega) w,fun w=>ansW_own (rNum11_good a k hs (by omega) w)⟩
theorem len_both (n:Int):∃ x m X,(∀ j,X j<256)∧(∀ w,Calls Try.prog 13 #[.int .i64 n] w (AnsW x m X w))∧∀ w,Calls Try.prog 14 #[.int .i64 n] w (AnsW x m X w):=by
 by_cases hn:n<0∨1073741824≤n
 · exact ⟨11,0,fun _=>0,fun _=>Nat.zero_lt_succ _,fun w=>ansW_nil (cLen11_range n hn w),fun w=>ansW_nil (rLen11_range n hn w)⟩
 obtain ⟨a,rfl⟩:∃ a:Nat,n=(a:Int):=⟨n.toNat,by omega⟩
 exact ⟨0,lnS a,lnB a,fun j=>beN_lt _ _ j,fun w=>cLen11_good a (by omega) w,fun w=>ansW_own (rLen11_good a (by omega) w)⟩
theorem vec_both (n:Nat) (b:Nat→Nat) (hb:∀ j,b j<256):∃ x m X,(∀ j,X j<256)∧(∀ v w,BytesIn w v n b→Calls Try.prog 15 #[v] w (AnsW x m X w))∧∀ v w,BytesIn w v n b→Calls Try.prog 16 #[v] w (AnsW x m X w):=by
 by_cases hn:65536<n
 · exact ⟨6,0,fun _=>0,fun _=>Nat.zero_lt_succ _,fun v w h=>ansW_nil (cVec11_size v n b hn w h),fun v w h=>ansW_nil (rVec11_size v n b hn w h)⟩
 · exact ⟨0,vcL n,vcB n b,cat_lt (fun j=>beN_lt _ _ j) hb,fun v w h=>ansW_own (cVec11_good v n b (by omega) w h),fun v w h=>ansW_own (rVec11_good v n b (by omega) w h)⟩
theorem rowL {w:World} {g n cap:Nat} {X:Nat→Nat} {Y:Nat→Nat} (h:RowAt .u8 w g 0 (n+2) (cat n X Y)) (hc:n+2≤cap):BytesIn w (.slice (some ⟨g,0,none⟩) n cap) n X :=
 .inr ⟨g,0,cap,rfl,block_lt_of_cell (h 0 (by omega)).1,by omega,fun j hj=>by rw [(h j (by omega)).1,cat_left hj]⟩
set_option maxRecDepth 20000 in
set_option maxHeartbeats 8000000 in
theorem codecWrites_any (n s:Int) (v:Value) (m:Nat) (b:Nat→Nat) (hb:∀ j,b j<256) (w:World) (hv:BytesIn w v m b) (hm:m<140737488355000) :
 Calls Try.prog 3 #[.int .i64 n,.int .i64 s,v] w fun e w'=>e = .returned (.bool true)∧Below w.heap.size w w':=by
 have cL:=lent_any v m b w hv hm
 obtain ⟨x1,m1,X1,l1,k1,k2⟩:=num_both n s
 obtain ⟨x2,m2,X2,l2,k3,k4⟩:=len_both n
 obtain ⟨x3,m3,X3,l3,k5,k6⟩:=vec_both m b hb
 have HV:=Hid.mk' hv
 clear hv
 go_enter Try.func3,Try.ntmps3
 go_wp2_with (first
  | (go_at_call 10;refine cL.mono ?_;clear cL;rintro e w1 ⟨g,cap,rfl,hcap,hg,hrow,b1⟩;(have hgl:=block_lt_of_cell (hrow 0 (by omega)).1))
  | (go_at_call 11;refine (k1 _).mono ?_;clear k1;rintro e w2 ⟨v1,rfl,hv1,b2⟩)
  | (go_at_call 12;refine (k2 _).mono ?_;clear k2;rintro e w3 ⟨v2,rfl,hv2,b3⟩)
  | (go_at_call 13;refine (k3 _).mono ?_;clear k3;rintro e w4 ⟨v3,rfl,hv3,b4⟩)
  | (go_at_call 14;refine (k4 _).mono ?_;clear k4;rintro e w5 ⟨v4,rfl,hv4,b5⟩;(have bA:=below_next (below_next (below_next b2 b3) b4) b5);(have hrow5:=hrow.below bA hgl);(have k5:=k5 _ w5 (rowL hrow5 hcap)))
  | (go_at_call 15;refine k5.mono ?_;clear k5;rintro e w6 ⟨v5,rfl,hv5,b6⟩;(have bB:=below_next b1 (below_next bA b6));(have k6:=k6 _ w6 (HV.out.keep bB)))
  | (go_at_call 16;refine k6.mono ?_;clear k6;rintro e w7 ⟨v6,rfl,hv6,b7⟩;(have bC:=below_next bB b7);(have hrow7:=hrow5.below (below_next b6 b7) (Nat.lt_of_lt_of_le hgl bA.size));(have y6:=hv6.conv l3 w7 (Below.refl _ _));(have y5:=hv5.conv l3 w7 b7);(have y4:=hv4.conv l2 w7 (below_next b6 b7));(have y3:=hv3.conv l2 w7 (below_next b5 (below_next b6 b7)));(have y2:=hv2.conv l1 w7 (below_next b4 (below_next b5 (below_next b6 b7))));(have y1:=hv1.conv l1 w7 (below_next b3 (below_next b4 (below_next b5 (below_next b6 b7)))));(have cS:=stays_any g cap m v b hb w7 hm hcap hrow7 (HV.out.keep bC));clear hrow hrow5 hrow7 hv1 hv2 hv3 hv4 hv5 hv6 b1 b2 b3 b4 b5 b6 b7 bA bB)
  | (go_at_call 17;refine (num11_any _ _).mono ?_;rintro e wn ⟨rfl,hwn⟩;subst hwn)
  | (go_at_call 18;refine cS.mono ?_;clear cS;rintro e w8 ⟨rfl,b8⟩)
  | (go_at_call 19;refine (knows11 _).mono ?_;rintro e w9 ⟨rfl,b9⟩))
 go_ret
 exact ⟨rfl,below_next bC (below_next b8 b9)⟩
end Go.Proofs.Ytibgjjbnehhanaa
