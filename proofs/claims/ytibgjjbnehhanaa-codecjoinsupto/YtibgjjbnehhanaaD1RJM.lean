/- What the proof stands on: D1RJ, D1LW, D1LJ. -/
import Derived.Test.YtibgjjbnehhanaaBaseM
import Derived.Test.YtibgjjbnehhanaaD1CDM
namespace Go.Proofs.Ytibgjjbnehhanaa
open Go.RowKit
set_option maxRecDepth 20000 in
set_option maxHeartbeats 4000000 in
theorem rJoin_any (xo:Option Addr) (cnt cap:Nat) (pv:Nat→Value) (pn:Nat→Nat) (pb:Nat→Nat→Nat) (hsz:∀ i,i<cnt→pn i≤65536) (hcnt:cnt≤1048576) (hsum:sumN pn cnt≤1048576) (w:World) (hP:PiecesIn w xo cnt pv pn pb) :
 Calls Try.prog 47 #[.slice xo cnt cap] w fun e w'=>∃ v,e = .returned v∧Own w.heap.size w' v (vsL pn cnt) (vsB pn pb cnt)∧Below w.heap.size w w':=by
 have hall:=vsL_le pn cnt
 go_enter Try.func47,Try.ntmps47
 go_wp2
 go_loopw [3,4] (fun al i wr=>∃ q:Nat,q≤cnt∧i = .int .i64 q∧(∃ xa ca,al = .slice xa (vsL pn q) ca∧Own w.heap.size wr (.slice xa (vsL pn q) ca) (vsL pn q) (vsB pn pb q))∧Below w.heap.size w wr) (fun _ i _=>cnt - (intOf i).toNat)
 case atStart=>exact ⟨0,Nat.zero_le _,rfl,⟨none,0,rfl,Own.nil _ _ _⟩,Below.refl _ _⟩
 case round =>
  obtain ⟨q,hq,rfl,⟨xa,ca,rfl,own⟩,hb⟩:=hrel
  by_cases hlt:q<cnt
  · obtain ⟨lb,lo,rfl,hcell⟩:=(hP.keep hb).cell q hlt
    have hBq:=(hP.keep hb).each q hlt
    have hc0:=hcell q hlt
    have hv:=rVec11_good (pv q) (pn q) (pb q) (hsz q hlt) wr hBq
    have hqi:(0:Int)≤(q:Int)∧(q:Int)<cnt:=by omega
    have hq1:(q:Int)<(cnt:Int):=by omega
    have HN:Hid (vsL pn (q+1)=vsL pn q+vcL (pn q)∧vsB pn pb (q+1)=cat (vsL pn q) (vsB pn pb q) (vcB (pn q) (pb q))):=Hid.mk' ⟨rfl,rfl⟩
    have hle:vsL pn (q+1)≤vsL pn cnt:=sumN_le _ hlt
    rw [HN.out.1] at hle
    obtain ⟨T,hT⟩:∃ T,T=vsL pn q:=⟨_,rfl⟩
    obtain ⟨F,hF⟩:∃ F,F=vsB pn pb q:=⟨_,rfl⟩
    obtain ⟨m,hm⟩:∃ m,m=vcL (pn q):=⟨_,rfl⟩
    obtain ⟨G,hG⟩:∃ G,G=vcB (pn q) (pb q):=⟨_,rfl⟩
    obtain ⟨vv,hvv⟩:∃ vv,vv=pv q:=⟨_,rfl⟩
    rw [←hT,←hF,←hm,←hG] at HN
    rw [←hT,←hm] at hle
    rw [←hT,←hF] at own
    rw [←hm,←hG,←hvv] at hv
    rw [←hvv] at hc0
    rw [←hT]
    have hTm:T+m≤140737488355328:=by omega
    clear hT hF hm hG hvv hBq hcell hP hle
    go_wp2_with (first
     | (go_at_call 16;refine hv.mono ?_;clear hv;rintro e w1 ⟨s1,rfl,own1,b1⟩;(obtain ⟨x1,c1,hs1,hxn1,hc1,hsrc1⟩:=(BytesIn.of_own own1).src);subst hs1;have hsrc:=hsrc1 w1 (Below.refl _ _);have ownW:=own.below b1;have hbw1:=below_next hb b1)
     | (at_builtin;refine wpList_append_bytes rfl (.tmp 21) (.tmp 22) rfl w.heap.size _ T F rfl ownW x1 m c1 G rfl hsrc hxn1 hTm hbw1.size ?_;intro v2 w2 own2 grow2;have hbw2:=Own.grown hbw1 grow2 ownW (Nat.le_refl _) hbw1.size;(obtain ⟨x2,c2,hv2⟩:=own2.slice);subst hv2))
    go_roundw
    case rel=>exact ⟨q+1,hlt,by go_num,⟨x2,c2,by rw [HN.out.1],by rw [HN.out.1,HN.out.2];exact own2⟩,hbw2⟩
    case measure=>simp [intOf];omega
  · obtain rfl:q=cnt:=by omega
    have hq1:¬(q:Int)<(q:Int):=by omega
    go_wp2
    go_ret
    exact ⟨_,rfl,own,hb⟩
set_option maxRecDepth 20000 in
set_option maxHeartbeats 4000000 in
theorem rVecs_big (xo:Option Addr) (cnt cap:Nat) (pv:Nat→Value) (pn:Nat→Nat) (pb:Nat→Nat→Nat) (hbig:bigN pn cnt=true) (hcnt:cnt<140737488355000) (w:World) (hP:PiecesIn w xo cnt pv pn pb) :
 Calls Try.prog 21 #[.slice xo cnt cap] w fun e w'=>e = .returned (.tuple #[.slice none 0 0,.int .i64 6])∧Below w.heap.size w w':=by
 obtain ⟨p,hp,hpn,hno⟩:=bigN_true hbig
 go_enter Try.func21,Try.ntmps21
 go_wp2
 go_loopw [4] (fun i wr=>∃ q:Nat,q≤p∧i = .int .i64 q∧wr=w) (fun i _=>cnt - (intOf i).toNat)
 case atStart=>exact ⟨0,Nat.zero_le _,rfl,rfl⟩
 case round =>
  obtain ⟨q,hq,rfl,rfl⟩:=hrel
  have hlt:q<cnt:=by omega
  obtain ⟨lb,lo,rfl,hcell⟩:=hP.cell q hlt
  obtain ⟨x1,c1,hv1,-,-,-⟩:=(hP.each q hlt).src
  have hc0:=hcell q hlt
  rw [hv1] at hc0
  have hqi:(0:Int)≤(q:Int)∧(q:Int)<cnt:=by omega
  have hq1:(q:Int)<(cnt:Int):=by omega
  by_cases he:q=p
  · subst he
    have t1:(65536:Int)<((pn q:Nat):Int):=by omega
    obtain ⟨m,hm⟩:∃ m,m=pn q:=⟨_,rfl⟩
    rw [←hm] at hc0 t1
    clear hm hcell hP hpn hno hbig hv1
    go_wp2
    go_ret2
    exact ⟨rfl,Below.refl _ _⟩
  · have t1:¬(65536:Int)<((pn q:Nat):Int):=by have:=bigN_false hno q (by omega);omega
    have hq2:q+1≤p:=by omega
    obtain ⟨m,hm⟩:∃ m,m=pn q:=⟨_,rfl⟩
    rw [←hm] at hc0 t1
    clear hm hcell hP hpn hno hbig hv1
    go_wp2
    go_roundw
    case rel=>exact ⟨q+1,hq2,by go_num,by first | rfl | trivial⟩
    case measure=>simp [intOf];omega
set_option maxRecDepth 20000 in
set_option maxHeartbeats 4000000 in
theorem rVecs_good (xo:Option Addr) (cnt cap:Nat) (pv:Nat→Value) (pn:Nat→Nat) (pb:Nat→Nat→Nat) (hbig:bigN pn cnt=false) (hcnt:cnt≤1048576) (hsum:sumN pn cnt≤1048576) (w:World) (hP:PiecesIn w xo cnt pv pn pb) :
 Calls Try.prog 21 #[.slice xo cnt cap] w fun e w'=>∃ v,e = .returned (.tuple #[v,.int .i64 0])∧Own w.heap.size w' v (vsL pn cnt) (vsB pn pb cnt)∧Below w.heap.size w w':=by
 have cj:=rJoin_any xo cnt cap pv pn pb (bigN_false hbig) hcnt hsum w hP
 go_enter Try.func21,Try.ntmps21
 go_wp2
 go_loopw [4] (fun i wr=>∃ q:Nat,q≤cnt∧i = .int .i64 q∧wr=w) (fun i _=>cnt - (intOf i).toNat)
 case atStart=>exact ⟨0,Nat.zero_le _,rfl,rfl⟩
 case round =>
  obtain ⟨q,hq,rfl,rfl⟩:=hrel
  by_cases hlt:q<cnt
  · obtain ⟨lb,lo,rfl,hcell⟩:=hP.cell q hlt
    obtain ⟨x1,c1,hv1,-,-,-⟩:=(hP.each q hlt).src
    have hc0:=hcell q hlt
    rw [hv1] at hc0
    have hqi:(0:Int)≤(q:Int)∧(q:Int)<cnt:=by omega
    have hq1:(q:Int)<(cnt:Int):=by omega
    have t1:¬(65536:Int)<((pn q:Nat):Int):=by have:=bigN_false hbig q hlt;omega
    obtain ⟨m,hm⟩:∃ m,m=pn q:=⟨_,rfl⟩
    rw [←hm] at hc0 t1
    clear hm hcell hP hbig hv1 cj
    go_wp2
    go_roundw
    case rel=>exact ⟨q+1,hlt,by go_num,by first | rfl | trivial⟩
    case measure=>simp [intOf];omega
  · obtain rfl:q=cnt:=by omega
    have hq1:¬(q:Int)<(q:Int):=by omega
    clear hP hbig
    go_wp2_with (go_at_call 47;refine cj.mono ?_;clear cj;rintro e w1 ⟨s1,rfl,own1,b1⟩)
    go_ret2
    exact ⟨_,rfl,own1,b1⟩
end Go.Proofs.Ytibgjjbnehhanaa
namespace Go.Proofs.Ytibgjjbnehhanaa
open Go.RowKit
def AnsW (x:Int) (m:Nat) (X:Nat→Nat) (w:World) (e:Ending) (w':World):Prop:=∃ v,e = .returned (.tuple #[v,.int .i64 x])∧BytesIn w' v m X∧Below w.heap.size w w'
theorem ansW_nil {x:Int} {X:Nat→Nat} {w:World} {f:FuncId} {ar:Array Value} (c:Calls Try.prog f ar w fun e w'=>e = .returned (.tuple #[.slice none 0 0,.int .i64 x])∧Below w.heap.size w w'):Calls Try.prog f ar w (AnsW x 0 X w) :=
 c.mono fun _ _ ⟨h1,h2⟩=>⟨_,h1,.inl ⟨none,rfl,rfl⟩,h2⟩
theorem ansW_own {m:Nat} {X:Nat→Nat} {w:World} {f:FuncId} {ar:Array Value} (c:Calls Try.prog f ar w fun e w'=>∃ v,e = .returned (.tuple #[v,.int .i64 0])∧Own w.heap.size w' v m X∧Below w.heap.size w w'):Calls Try.prog f ar w (AnsW 0 m X w) :=
 c.mono fun _ _ ⟨v,h1,h2,h3⟩=>⟨v,h1,BytesIn.of_own h2,h3⟩
end Go.Proofs.Ytibgjjbnehhanaa
namespace Go.Proofs.Ytibgjjbnehhanaa
open Go.RowKit
theorem vecs_both (xo:Option Addr) (cnt cap:Nat) (pv pv2:Nat→Value) (xo2:Option Addr) (cap2:Nat) (pn:Nat→Nat) (pb:Nat→Nat→Nat) (lb:∀ i j,pb i j<256) (hcnt:cnt≤1048576) (hsum:sumN pn cnt≤1048576):∃ x m X,(∀ j,X j<256)∧(∀ w,PiecesIn w xo2 cnt pv2 pn pb→Calls Try.prog 20 #[.slice xo2 cnt cap2] w (AnsW x m X w))∧∀ w,PiecesIn w xo cnt pv pn pb→Calls Try.prog 21 #[.slice xo cnt cap] w (AnsW x m X w):=by
 by_cases hbig:bigN pn cnt=true
 · exact ⟨6,0,fun _=>0,fun _=>Nat.zero_lt_succ _,fun w h=>ansW_nil (cVecs_big xo2 cnt cap2 pv2 pn pb hbig hcnt hsum w h),fun w h=>ansW_nil (rVecs_big xo cnt cap pv pn pb hbig (by omega) w h)⟩
 · have hbf:bigN pn cnt=false:=by simpa using hbig
   exact ⟨0,vsL pn cnt,vsB pn pb cnt,allB_lt (fun i j=>cat_lt (fun j=>beN_lt _ _ j) (lb i) j) cnt,fun w h=>ansW_own (cVecs_good xo2 cnt cap2 pv2 pn pb hbf hcnt hsum w h),fun w h=>ansW_own (rVecs_good xo cnt cap pv pn pb hbf hcnt hsum w h)⟩
set_option maxRecDepth 20000 in
set_option maxHeartbeats 8000000 in
theorem codecJoins_any (xo:Option Addr) (cnt cap:Nat) (pv:Nat→Value) (pn:Nat→Nat) (pb:Nat→Nat→Nat) (hcnt:cnt≤1048576) (hsum:sumN pn cnt≤1048576) (w:World) (hP:PiecesIn w xo cnt pv pn pb) :
 Calls Try.prog 4 #[.slice xo cnt cap] w fun e w'=>e = .returned (.bool true)∧Below w.heap.size w w':=by
 have HP:=Hid.mk' hP
 clear hP
 go_enter Try.func4,Try.ntmps4
 go_wp2
 go_loopw [3,4] (fun al i wr=>∃ q:Nat,q≤cnt∧i = .int .i64 q∧(∃ xa ca pv2,al = .slice xa q ca∧LsIn w.heap.size wr (.slice xa q ca) q pv2 pn pb)∧Below w.heap.size w wr) (fun _ i _=>cnt - (intOf i).toNat)
 case atStart=>exact ⟨0,Nat.zero_le _,rfl,⟨none,0,fun _ => .bool false,rfl,OwnL.nil _ _ _,fun i hi=>absurd hi (Nat.not_lt_zero _)⟩,Below.refl _ _⟩
 case round =>
  obtain ⟨q,hq,rfl,⟨xa,ca,pv2,rfl,hl⟩,hb⟩:=hrel
  by_cases hlt:q<cnt
  · obtain ⟨lb,lo,rfl,hcell⟩:=HP.out.cell q hlt
    have hcb:=hcell q hlt
    have hBq:=(HP.out.each q hlt).keep hb
    obtain ⟨x1,c1,hv1,hxn,-,hsrc⟩:=hBq.src
    have hsu:=hsrc _ ((Below.refl wr.heap.size wr).alloc (Nat.le_refl _) (.cells #[] 5))
    have hc0:=((below_next hb ((Below.refl wr.heap.size wr).alloc (Nat.le_refl _) (.cells #[] 5))).cell (p:=⟨lb,lo+q,none⟩) (block_lt_of_cell hcb)).trans hcb
    rw [hv1] at hc0
    have hpq:pn q≤1048576:=by
     have h1:sumN pn (q+1)≤sumN pn cnt:=sumN_le _ hlt
     have h2:sumN pn (q+1)=sumN pn q+pn q:=rfl
     omega
    obtain ⟨mq,hmq⟩:∃ k,k=pn q:=⟨_,rfl⟩
    obtain ⟨X,hX⟩:∃ X,X=pb q:=⟨_,rfl⟩
    rw [←hmq] at hc0 hsu hpq
    rw [←hX] at hsu
    have HM:=Hid.mk' hmq
    have HX:=Hid.mk' hX
    have t0:(q:Int)<(cnt:Int):=by omega
    have t1:(0:Int)≤(q:Int)∧(q:Int)<(cnt:Int):=by omega
    have t9:IntKind.i64.wrap ((q:Int)+1)=(q:Int)+1:=by simp only [IntKind.wrap_i64];omega
    have hbs:=hb.size
    clear hmq hX hcell hcb hBq hsrc hv1
    go_wp2_with (first
     | (at_builtin;refine wpList_append_empty rfl (.tmp 16) (.tmp 20) rfl wr.heap.size X wr.heap.size rfl rfl x1 mq c1 rfl hsu hxn (by omega) (Nat.le_refl _) ?_;intro v3 w3 own3 hb3;(have hl3:=hl.below hb3);(have own3':=own_base own3 hbs);(obtain ⟨y3,d3,e3⟩:=own3.slice);subst e3)
     | (at_builtin;refine wpList_append_piece rfl (.tmp 15) (.tmp 22) rfl w.heap.size _ q (putV pv2 q _) _ rfl (hl3.list.congr fun i hi=>(putV_old _ _ _ hi).symm) rfl (putV_same _ _ _) rfl (by omega) (Nat.le_trans hbs hb3.size) ?_;intro v4 w4 own4 grow4))
    have ba:=(Below.refl w3.heap.size w3).alloc (Nat.le_refl _) (.cells #[.slice y3 mq d3] 22)
    have hl4:LsIn w.heap.size w4 v4 (q+1) _ pn pb:=hl3.next (fun i hi=>putV_old _ _ _ hi) (by
     unfold putV
     rw [if_pos rfl,←HM.out,←HX.out]
     exact own3') ba own4 grow4
    have b34:Below w.heap.size w3 w4:=below_grown (Below.mono ba (Nat.le_trans hbs hb3.size)) grow4 (own_below hl3.list ba) (Nat.le_refl _) (Nat.le_trans (Nat.le_trans hbs hb3.size) ba.size)
    obtain ⟨x4,c4,e4⟩:=own4.slice
    subst e4
    go_roundw
    case rel=>exact ⟨q+1,hlt,by go_num,⟨x4,c4,_,rfl,hl4⟩,(below_next hb hb3).trans b34⟩
    case measure=>simp [intOf];omega
  · obtain rfl:q=cnt:=by omega
    have t0:¬(q:Int)<(q:Int):=by omega
    obtain ⟨e0,m,X,lX,k1,k2⟩:=vecs_both xo q cap pv pv2 xa ca pn pb HP.out.byte hcnt hsum
    have k1:=k1 wr (hl.pieces HP.out.byte)
    clear hl
    go_wp2_with (first
     | (go_at_call 20;refine k1.mono ?_;clear k1;rintro e w1 ⟨v1,rfl,hv1,b1⟩;(replace hb:=below_next hb b1);(have k2:=k2 w1 (HP.out.keep hb)))
     | (go_at_call 21;refine k2.mono ?_;clear k2;rintro e w2 ⟨v2,rfl,hv2,b2⟩;(have y1:=hv1.conv lX w2 b2);(have y2:=hv2.conv lX w2 (Below.refl _ _));clear hv1 hv2)
     | (go_at_call 17;refine (num11_any _ _).mono ?_;rintro e wn ⟨rfl,hwn⟩;subst hwn)
     | (go_at_call 19;refine (knows11 _).mono ?_;rintro e w9 ⟨rfl,b9⟩))
    go_ret
    exact ⟨rfl,below_next hb (below_next b2 b9)⟩
end Go.Proofs.Ytibgjjbnehhanaa
