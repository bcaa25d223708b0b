/- What the proof stands on: HRefHmac, HRefExpand, QRJ, QRX, Grw, QCC, QCA, HExtr, QCX, QRE, ZAb2, IRow, Words, ICar. -/
import Derived.Test.YtcgkajlehdgpoaaGreatDoorBaseM
import Derived.Test.YtcgkajlehdgpoaaGreatDoorHExpM
import Derived.Test.YtcgkajlehdgpoaaGreatDoorHRefSmallM
import Derived.Lib.AppendStr
import Derived.Lib.ConvBytes
namespace Go.Proofs.YtcgkajlehdgpoaaGreatDoor
open Go.RowKit
theorem Own.stored {base:Nat} {w:World} {g n cap:Nat} {X:Nat→Nat} (h:Own base w (.slice (some ⟨g,0,none⟩) n cap) n X) (i:Nat) (v:Int) (u:Nat) (hu:v=(u:Int)):Own base (w.setCell ⟨g,i,none⟩ (.int .u8 v)) (.slice (some ⟨g,0,none⟩) n cap) n (upd X i u):=by
 have h1:=World.ownsRow.stored h i (.int .u8 v)
 unfold Own
 have e:(ints .u8 n X).set i (.int .u8 v)=ints .u8 n (upd X i u):=by
  apply List.ext_getElem?
  intro j
  by_cases hj:j<n
  · rw [ints_at _ _ _ j hj,List.getElem?_set]
    by_cases e:i=j
    · subst e;simp [ints_len,hj,upd,hu]
    · simp only [e,if_false]
      rw [ints_at _ _ _ j hj]
      simp [upd,show ¬j=i from fun h=>e h.symm]
  · rw [List.getElem?_eq_none (by rw [List.length_set,ints_len];omega),List.getElem?_eq_none (by rw [ints_len];omega)]
 rw [←e]
 exact h1.1
theorem zb_ints (n:Nat):(zb n).toList=ints .u8 n (fun _=>0):=by
 apply List.ext_getElem?
 intro j
 by_cases hj:j<n
 · rw [Array.getElem?_toList,zb_at n j hj,ints_at _ _ _ j hj];rfl
 · rw [List.getElem?_eq_none (by simp [zb];omega),List.getElem?_eq_none (by rw [ints_len];omega)]
theorem Own.made (base:Nat) (w:World) (n:Nat) (hn:n≤1000000) (hb:base≤w.heap.size):Own base (w.alloc (.cells (zb n) 5)) (.slice (some ⟨w.heap.size,0,none⟩) n n) n (fun _=>0):=by
 have h:=World.ownsRow_lit (base:=base) (e:=5) (size:=1) w (zb n) n hb (by unfold maxLen;omega) (by simp [zb])
 rw [zb_ints] at h
 exact h
def padG2 (kv:Nat→Nat) (p k:Nat):Nat→Nat:=fun j=>if j<k then kv j ^^^ p else 0
theorem padG2_step (kv:Nat→Nat) (p k j:Nat):upd (padG2 kv p k) k (kv k ^^^ p) j=padG2 kv p (k+1) j:=by
 unfold upd padG2
 by_cases e:j=k
 · subst e;rw [if_pos rfl,if_pos (by omega)]
 · rw [if_neg e]
   by_cases e2:j<k
   · rw [if_pos e2,if_pos (by omega)]
   · rw [if_neg e2,if_neg (by omega)]
set_option maxRecDepth 20000 in
set_option maxHeartbeats 2000000 in
theorem rpad_short_any (xo:Option Addr) (n cx p:Nat) (bs:Nat→Nat) (hbs:∀ j,bs j<256) (hp:p<256) (w:World) (hv:BytesIn w (.slice xo n cx) n bs) (hn:n≤64) :
 Calls Tryz.prog 107 #[.slice xo n cx,.int .u8 p] w fun e w'=>∃ v',e = .returned v'∧Own w.heap.size w' v' 64 (fun j=>keyB n bs j ^^^ p)∧Below w.heap.size w w':=by
 obtain ⟨kv,hkv0⟩:∃ kv,kv=keyB n bs:=⟨_,rfl⟩
 have hkk:Hid (∀ j,kv j=keyB n bs j):=(fun j=>by rw [hkv0]:∀ j,kv j=keyB n bs j)
 have hkvl:∀ j,kv j<256:=fun j=>by rw [hkv0];exact keyB_lt hbs j
 have hkv:∀ j,j<64→kv j=if j<n then bs j else 0:=fun j _=>by rw [hkv0];unfold keyB;rw [if_pos hn]
 have hsrc:∀ k,k<n→∃ bb ob,xo=some ⟨bb,ob,none⟩∧bb<w.heap.size∧w.cell? ⟨bb,ob+k,none⟩=some (.int .u8 (bs k)):=fun k hk=>by
  rcases hv with ⟨_,_,hz⟩ | ⟨bb,ob,cap,e,h1,_,h3⟩
  · omega
  · cases e
    exact ⟨bb,ob,rfl,h1,h3 k hk⟩
 have hW:Below w.heap.size w w:=Below.refl _ _
 have hni:¬(64<(n:Int)):=by omega
 clear hkv0 hv
 have hmk:=fun W=>make_bytes W 64 64 rfl (by decide)
 go_enter Tryz.func107,Tryz.ntmps107
 go_wp2
 go_loopw [7] (fun i wr=>∃ k:Nat,k≤64∧i = .int .i64 k∧Own w.heap.size wr (.slice (some ⟨w.heap.size,0,none⟩) 64 64) 64 (padG2 kv p k)∧Below w.heap.size w wr) (fun i _=>64 - (intOf i).toNat)
 case atStart=>exact ⟨0,Nat.zero_le _,rfl,(Own.made _ _ 64 (by decide) hW.size).congr (fun j _=>by simp [padG2]),(Below.refl _ _).alloc (Nat.le_refl _) _⟩
 case round =>
  obtain ⟨k,hk,rfl,hown,hb⟩:=hrel
  by_cases hlt:k<64
  · have hrow:RowAt .u8 wr w.heap.size 0 64 (padG2 kv p k):=by
     rcases hown.form with ⟨h,_⟩ | ⟨g,cap,h,_,_,_,hr⟩
     · cases h
     · cases h;exact hr
    obtain ⟨rk,rf⟩:=hrow k hlt
    rw [Nat.zero_add] at rk rf
    have ek:padG2 kv p k k=0:=by simp [padG2]
    rw [ek] at rk
    have hki:(0:Int)≤(k:Int)∧(k:Int)<64:=by omega
    have hs1:=hown.stored k (p:Int) p rfl
    by_cases hkm:k<n
    · obtain ⟨bb,ob,hx,hbb,rc⟩:=hsrc k hkm
      cases hx
      have rc':wr.cell? ⟨bb,ob+k,none⟩=some (.int .u8 (kv k)):=by rw [hkv k hlt,if_pos hkm];exact (hb.cell (p:=⟨bb,ob+k,none⟩) hbb).trans rc
      have hne:bb≠w.heap.size:=by omega
      have hki2:(k:Int)<n:=by omega
      have hs2:=hs1.stored k (bits .xor .u8 (kv k:Int) (p:Int)) (kv k ^^^ p) (u8_xor_nat _ _ (hkvl k) hp)
      clear rc hsrc hown hrow hs1 hkv
      go_wp2
      go_roundw
      case rel =>
       exact ⟨k+1,by omega,by go_num,hs2.congr (fun j _=>by rw [←padG2_step];unfold upd;split <;> rfl),(hb.setCell (Nat.le_refl _) _).setCell (Nat.le_refl _) _⟩
      case measure=>simp [intOf];omega
    · have hki2:¬((k:Int)<n):=by omega
      have e0:kv k ^^^ p=p:=by rw [hkv k hlt,if_neg hkm];simp
      clear hsrc hown hrow hkv
      go_wp2
      go_roundw
      case rel =>
       exact ⟨k+1,by omega,by go_num,hs1.congr (fun j _=>by rw [←padG2_step,e0]),hb.setCell (Nat.le_refl _) _⟩
      case measure=>simp [intOf];omega
  · have hke:k=64:=by omega
    rw [hke] at hown
    go_wp2
    go_ret
    exact ⟨_,rfl,hown.congr (fun j hj=>by unfold padG2;rw [if_pos hj,hkk.out j]),hW.trans (hb.mono hW.size)⟩
set_option maxRecDepth 20000 in
set_option maxHeartbeats 2000000 in
theorem rpad_long_any (xo:Option Addr) (n cx p:Nat) (bs:Nat→Nat) (hbs:∀ j,bs j<256) (hp:p<256) (hnb:n<140737488355000) (w:World) (hv:BytesIn w (.slice xo n cx) n bs) (hn:¬n≤64) :
 Calls Tryz.prog 107 #[.slice xo n cx,.int .u8 p] w fun e w'=>∃ v',e = .returned v'∧Own w.heap.size w' v' 64 (fun j=>keyB n bs j ^^^ p)∧Below w.heap.size w w':=by
 obtain ⟨kv,hkv0⟩:∃ kv,kv=keyB n bs:=⟨_,rfl⟩
 have hkk:Hid (∀ j,kv j=keyB n bs j):=(fun j=>by rw [hkv0]:∀ j,kv j=keyB n bs j)
 have hkvl:∀ j,kv j<256:=fun j=>by rw [hkv0];exact keyB_lt hbs j
 have hs:=rSum256_any (.slice xo n cx) n bs hbs w hv hnb
 have hkv:∀ j,j<64→kv j=if j<32 then outB 32 (specS rn cubeK squareK n bs) j else 0:=fun j _=>by rw [hkv0];unfold keyB;rw [if_neg hn]
 obtain ⟨X,hX⟩:∃ X,X=outB 32 (specS rn cubeK squareK n bs):=⟨_,rfl⟩
 rw [←hX] at hs hkv
 have hni:64<(n:Int):=by omega
 clear hkv0 hv hX hn
 have hmk:=fun W=>make_bytes W 64 64 rfl (by decide)
 go_enter Tryz.func107,Tryz.ntmps107
 go_wp2_with (go_at_call 106;refine hs.mono ?_;clear hs;rintro e w1 ⟨vs,rfl,owns,hW⟩;(obtain ⟨gs,cs,hvs,hgs,hgsl,hcs,hrs⟩:∃ g cap,vs = .slice (some ⟨g,0,none⟩) 32 cap∧w.heap.size≤g∧g<w1.heap.size∧32≤cap∧RowAt .u8 w1 g 0 32 X:=owns.form.resolve_left (fun h=>by omega));subst hvs;clear owns)
 have hsrc:∀ k,k<32→∃ bb ob,some (⟨gs,0,none⟩:Addr)=some ⟨bb,ob,none⟩∧bb<w1.heap.size∧w1.cell? ⟨bb,ob+k,none⟩=some (.int .u8 (X k)):=fun k hk=>⟨gs,0,rfl,hgsl,(hrs k hk).1⟩
 go_loopw [7] (fun i wr=>∃ k:Nat,k≤64∧i = .int .i64 k∧Own w.heap.size wr (.slice (some ⟨w1.heap.size,0,none⟩) 64 64) 64 (padG2 kv p k)∧Below w1.heap.size w1 wr) (fun i _=>64 - (intOf i).toNat)
 case atStart=>exact ⟨0,Nat.zero_le _,rfl,(Own.made _ _ 64 (by decide) hW.size).congr (fun j _=>by simp [padG2]),(Below.refl _ _).alloc (Nat.le_refl _) _⟩
 case round =>
  obtain ⟨k,hk,rfl,hown,hb⟩:=hrel
  by_cases hlt:k<64
  · have hrow:RowAt .u8 wr w1.heap.size 0 64 (padG2 kv p k):=by
     rcases hown.form with ⟨h,_⟩ | ⟨g,cap,h,_,_,_,hr⟩
     · cases h
     · cases h;exact hr
    obtain ⟨rk,rf⟩:=hrow k hlt
    rw [Nat.zero_add] at rk rf
    have ek:padG2 kv p k k=0:=by simp [padG2]
    rw [ek] at rk
    have hki:(0:Int)≤(k:Int)∧(k:Int)<64:=by omega
    have hs1:=hown.stored k (p:Int) p rfl
    by_cases hkm:k<32
    · obtain ⟨bb,ob,hx,hbb,rc⟩:=hsrc k hkm
      have hx1:bb=gs:=by injection hx with hx;injection hx with h1 h2;exact h1.symm
      have hx2:ob=0:=by injection hx with hx;injection hx with h1 h2;exact h2.symm
      subst hx1;subst hx2
      rw [Nat.zero_add] at rc
      clear hx
      have rc':wr.cell? ⟨bb,k,none⟩=some (.int .u8 (kv k)):=by rw [hkv k hlt,if_pos hkm];exact (hb.cell (p:=⟨bb,k,none⟩) hbb).trans rc
      have hne:bb≠w1.heap.size:=by omega
      have hki2:(k:Int)<32:=by omega
      have hs2:=hs1.stored k (bits .xor .u8 (kv k:Int) (p:Int)) (kv k ^^^ p) (u8_xor_nat _ _ (hkvl k) hp)
      clear rc hsrc hown hrow hs1 hkv
      go_wp2
      go_roundw
      case rel =>
       exact ⟨k+1,by omega,by go_num,hs2.congr (fun j _=>by rw [←padG2_step];unfold upd;split <;> rfl),(hb.setCell (Nat.le_refl _) _).setCell (Nat.le_refl _) _⟩
      case measure=>simp [intOf];omega
    · have hki2:¬((k:Int)<32):=by omega
      have e0:kv k ^^^ p=p:=by rw [hkv k hlt,if_neg hkm];simp
      clear hsrc hown hrow hkv
      go_wp2
      go_roundw
      case rel =>
       exact ⟨k+1,by omega,by go_num,hs1.congr (fun j _=>by rw [←padG2_step,e0]),hb.setCell (Nat.le_refl _) _⟩
      case measure=>simp [intOf];omega
  · have hke:k=64:=by omega
    rw [hke] at hown
    go_wp2
    go_ret
    exact ⟨_,rfl,hown.congr (fun j hj=>by unfold padG2;rw [if_pos hj,hkk.out j]),hW.trans (hb.mono hW.size)⟩
theorem rpad_any (v:Value) (n p:Nat) (bs:Nat→Nat) (hbs:∀ j,bs j<256) (hp:p<256) (hnb:n<140737488355000) (w:World) (hv:BytesIn w v n bs) :
 Calls Tryz.prog 107 #[v,.int .u8 p] w fun e w'=>∃ v',e = .returned v'∧Own w.heap.size w' v' 64 (fun j=>keyB n bs j ^^^ p)∧Below w.heap.size w w':=by
 obtain ⟨xo,cx,rfl,_,_,_⟩:=hv.src
 by_cases hn:n≤64
 · exact rpad_short_any xo n cx p bs hbs hp w hv hn
 · exact rpad_long_any xo n cx p bs hbs hp hnb w hv hn
theorem Own.bytesIn {base:Nat} {w:World} {v:Value} {n:Nat} {X:Nat→Nat} (h:Own base w v n X):BytesIn w v n X:=by
 rcases h.form with ⟨rfl,h0⟩ | ⟨g,cap,rfl,_,hg,hc,hr⟩
 · exact .inl ⟨none,rfl,h0⟩
 · exact .inr ⟨g,0,cap,rfl,hg,hc,fun j hj=>(hr j hj).1⟩
theorem Own.lower {base base':Nat} {w:World} {v:Value} {n:Nat} {X:Nat→Nat} (h:Own base w v n X) (hb:base'≤base):Own base' w v n X:=World.ownsRow.mono h hb
theorem cat_xor_lt {kv t:Nat→Nat} {p:Nat} (hk:∀ j,kv j<256) (hp:p<256) (ht:∀ j,t j<256):∀ j,cat 64 (fun j=>kv j ^^^ p) t j<256:=cat_lt (fun j=>Nat.xor_lt_two_pow (n:=8) (hk j) hp) ht
set_option maxRecDepth 20000 in
set_option maxHeartbeats 2000000 in
theorem rHmac_any (v tv:Value) (n m:Nat) (bs t:Nat→Nat) (hbs:∀ j,bs j<256) (ht:∀ j,t j<256) (hnb:n<140737488355000) (hm:m+64<140737488355000) (w:World) (hv:BytesIn w v n bs) (htv:BytesIn w tv m t) :
 Calls Tryz.prog 78 #[v,tv] w fun e w'=>∃ v',e = .returned v'∧Own w.heap.size w' v' 32 (tagH (keyB n bs) m t)∧Below w.heap.size w w':=by
 obtain ⟨xt,ct,rfl,hxn,-,hsrc⟩:=htv.src
 have hp1:=rpad_any v n 54 bs hbs (by decide) hnb w hv
 have hp2:=fun W (h:Below w.heap.size w W)=>rpad_any v n 92 bs hbs (by decide) hnb W (hv.keep h)
 obtain ⟨kv,hkv⟩:∃ kv,kv=keyB n bs:=⟨_,rfl⟩
 have hkl:∀ j,kv j<256:=fun j=>by rw [hkv];exact keyB_lt hbs j
 rw [←hkv] at hp1 hp2 ⊢
 have hs1:=fun W v' (h:BytesIn W v' (64+m) (cat 64 (fun j=>kv j ^^^ 54) t))=>rSum256_any v' (64+m) _ (cat_xor_lt hkl (by decide) ht) W h (by omega)
 have hs2:=fun W v' (h:BytesIn W v' (64+32) (cat 64 (fun j=>kv j ^^^ 92) (padH kv 54 m t)))=>rSum256_any v' (64+32) _ (cat_xor_lt hkl (by decide) (padH_lt _ _ _ _)) W h (by decide)
 have hs1':∀ W v',BytesIn W v' (64+m) (cat 64 (fun j=>kv j ^^^ 54) t)→Calls Tryz.prog 106 #[v'] W fun e w'=>∃ v',e = .returned v'∧Own W.heap.size w' v' 32 (padH kv 54 m t)∧Below W.heap.size W w':=hs1
 have hs2':∀ W v',BytesIn W v' (64+32) (cat 64 (fun j=>kv j ^^^ 92) (padH kv 54 m t))→Calls Tryz.prog 106 #[v'] W fun e w'=>∃ v',e = .returned v'∧Own W.heap.size w' v' 32 (tagH kv m t)∧Below W.heap.size W w':=hs2
 obtain ⟨P,hP⟩:∃ P,P=padH kv 54 m t:=⟨_,rfl⟩
 obtain ⟨T,hT⟩:∃ T,T=tagH kv m t:=⟨_,rfl⟩
 rw [←hP] at hs1' hs2'
 rw [←hT] at hs2' ⊢
 clear hs1 hs2 hkv hv htv hP hT
 go_enter Tryz.func78,Tryz.ntmps78
 go_wp2_with (first
  | (go_at_call 107;refine hp1.mono ?_;clear hp1;rintro e w1 ⟨v1,rfl,own1,hb1⟩)
  | (at_builtin;refine wpList_append_bytes rfl (.tmp 7) (.tmp 8) rfl w.heap.size _ 64 _ rfl own1 xt m ct t rfl (hsrc _ hb1) hxn (by omega) hb1.size ?_;intro v2 w2 own2 hg2;have hb2:=Own.grown hb1 hg2 own1 (Nat.le_refl _) hb1.size;have hs:=hs1' w2 v2 own2.bytesIn;clear own1)
  | (go_at_call 106;refine hs.mono ?_;clear hs hs1' hsrc;rintro e w3 ⟨v3,rfl,own3,hb3⟩;have hb3':=hb2.trans (hb3.mono hb2.size);replace hp2:=hp2 w3 hb3';(obtain ⟨gs,cs,hvs,hgs,hgsl,hcs,hrs⟩:∃ g cap,v3 = .slice (some ⟨g,0,none⟩) 32 cap∧w2.heap.size≤g∧g<w3.heap.size∧32≤cap∧RowAt .u8 w3 g 0 32 P:=own3.form.resolve_left (fun h=>by omega));subst hvs;clear own3)
  | (go_at_call 107;refine hp2.mono ?_;clear hp2;rintro e w4 ⟨v4,rfl,own4,hb4⟩;have hb4':=hb3'.trans (hb4.mono hb3'.size))
  | (at_builtin;refine wpList_append_bytes rfl (.tmp 12) (.tmp 13) rfl w3.heap.size _ 64 _ rfl own4 (some ⟨gs,0,none⟩) 32 cs P rfl (.inr ⟨gs,0,rfl,fun j hj=>((hrs.below hb4 hgsl) j hj).1⟩) (fun h=>by cases h) (by omega) hb4.size ?_;intro v5 w5 own5 hg5;have hb5:=Own.grown hb4' hg5 own4 hb3'.size hb4'.size;have hs:=hs2' w5 v5 own5.bytesIn;clear own4)
  | (go_at_call 106;refine hs.mono ?_;clear hs hs2';rintro e w6 ⟨v6,rfl,own6,hb6⟩))
 go_ret
 exact ⟨v6,rfl,own6.lower hb5.size,hb5.trans (hb6.mono hb5.size)⟩
theorem keyB_zeros (z:Nat→Nat) (bs:Nat→Nat) (hz:∀ j,j<32→z j=0):keyB 32 z=keyB 0 bs:=by
 funext j
 unfold keyB
 simp only [show (32:Nat)≤64 by decide,if_true,Nat.zero_le,Nat.not_lt_zero,if_false]
 by_cases h:j<32
 · rw [if_pos h];exact hz j h
 · rw [if_neg h]
set_option maxRecDepth 20000 in
set_option maxHeartbeats 2000000 in
theorem rExtract_any (v tv:Value) (n m:Nat) (bs t:Nat→Nat) (hbs:∀ j,bs j<256) (ht:∀ j,t j<256) (hnb:n<140737488355000) (hm:m+64<140737488355000) (w:World) (hv:BytesIn w v n bs) (htv:BytesIn w tv m t) :
 Calls Tryz.prog 57 #[v,tv] w fun e w'=>∃ v',e = .returned v'∧Own w.heap.size w' v' 32 (tagH (keyB n bs) m t)∧Below w.heap.size w w':=by
 have hmk:=fun W=>make_bytes W 32 32 rfl (by decide)
 obtain ⟨xo,cx,rfl,_,_,_⟩:=hv.src
 by_cases hn:n=0
 · have hb:=(Below.refl w.heap.size w).alloc (Nat.le_refl _) (.cells (zb 32) 5)
   have h:=rHmac_any (.slice (some ⟨w.heap.size,0,none⟩) 32 32) tv 32 m (fun _=>0) t (fun _=>by decide) ht (by decide) hm _ (Own.made w.heap.size w 32 (by decide) (Nat.le_refl _)).bytesIn (htv.keep hb)
   rw [keyB_zeros (fun _=>0) bs (fun _ _=>rfl)] at h
   subst hn
   obtain ⟨T,hT⟩:∃ T,T=tagH (keyB 0 bs) m t:=⟨_,rfl⟩
   rw [←hT] at h ⊢
   clear hv htv hT
   go_enter Tryz.func57,Tryz.ntmps57
   go_wp2_with (go_at_call 78;refine h.mono ?_;clear h;rintro e w1 ⟨v1,rfl,own1,hb1⟩)
   go_ret
   exact ⟨v1,rfl,own1.lower (by simp),hb.trans (hb1.mono (by simp))⟩
 · have h:=rHmac_any (.slice xo n cx) tv n m bs t hbs ht hnb hm w hv htv
   obtain ⟨T,hT⟩:∃ T,T=tagH (keyB n bs) m t:=⟨_,rfl⟩
   rw [←hT] at h ⊢
   have hni:¬((n:Int)=0):=by omega
   clear hv htv hT
   go_enter Tryz.func57,Tryz.ntmps57
   go_wp2_with (go_at_call 78;refine h.mono ?_;clear h;rintro e w1 ⟨v1,rfl,own1,hb1⟩)
   go_ret
   exact ⟨v1,rfl,own1,hb1⟩
end Go.Proofs.YtcgkajlehdgpoaaGreatDoor
namespace Go.Proofs.YtcgkajlehdgpoaaGreatDoor
open Go.RowKit
theorem sliceToNil (W:World):(Instr.sliceAt 22 (.slice none 0 0) none (some (.int .i64 0)) none).run Tryz.prog W = .ok (.slice none 0 0) W:=by kernel_rfl
def allE (kv:Nat→Nat) (m:Nat) (info:Nat→Nat):Nat→Nat:=fun q=>tE kv m info (q / 32+1) (q%32)
set_option maxRecDepth 20000 in
set_option maxHeartbeats 2000000 in
theorem rExpand_any (v1 v2:Value) (n1 n2:Nat) (ks info:Nat→Nat) (hks:∀ j,ks j<256) (hinfo:∀ j,info j<256) (hn1:n1<140737488355000) (hn2:n2+97<140737488355000) (w:World) (hk:BytesIn w v1 n1 ks) (hi:BytesIn w v2 n2 info) (N:Nat) (hN:N≤8160) :
 Calls Tryz.prog 56 #[v1,v2,.int .i64 N] w fun e w'=>∃ v',e = .returned (.tuple #[v',.int .i64 0])∧BytesIn w' v' N (outF (keyB n1 ks) n2 info N)∧Below w.heap.size w w':=by
 obtain ⟨xi,ci,rfl,hxi,-,hsi⟩:=hi.src
 have hh:=fun W tv m t (ht:∀ j,t j<256) (hm:m+64<140737488355000) (h:Below w.heap.size w W) (htv:BytesIn W tv m t)=>rHmac_any v1 tv n1 m ks t hks ht hn1 hm W (hk.keep h) htv
 obtain ⟨kv,hkv⟩:∃ kv,kv=keyB n1 ks:=⟨_,rfl⟩
 rw [←hkv] at hh ⊢
 have hlo:¬((N:Int)<0):=by omega
 have hhi:¬(8160<(N:Int)):=by omega
 clear hk hi hkv
 go_enter Tryz.func56,Tryz.ntmps56
 go_wp2
 go_loopw [8,9,10] (fun o t i wr=>∃ k tl A:Nat,Hid (A=32*k)∧Hid (tl=if k=0 then 0 else 32)∧A<N+32∧i = .int .i64 ((k:Int)+1)∧(∃ xo co,o = .slice xo A co∧Own w.heap.size wr (.slice xo A co) A (allE kv n2 info))∧(∃ xt ct,t = .slice xt tl ct∧BytesIn wr (.slice xt tl ct) tl (tE kv n2 info k))∧Below w.heap.size w wr) (fun o _ _ _=>N+32 - lenV o)
 case atStart=>exact ⟨0,0,0,(rfl:0=32*0),(rfl:0=if 0=0 then 0 else 32),by omega,by go_num,⟨none,0,rfl,Own.nil _ _ _⟩,⟨none,0,rfl,.inl ⟨none,rfl,rfl⟩⟩,Below.refl _ _⟩
 case round =>
  obtain ⟨k,tl,A,HA,Htl,hA,rfl,⟨xo,co,rfl,own⟩,⟨xt,ct,rfl,hbt⟩,hb⟩:=hrel
  have htl:tl≤32:=by rw [Htl.out];split <;> omega
  by_cases hlt:A<N
  · have hk255:k+1<256:=by have:=HA.out;omega
    obtain ⟨F,hF⟩:∃ F,F=cat tl (tE kv n2 info k) (cat n2 info (fun _=>k+1)):=⟨_,rfl⟩
    have hFl:∀ j,F j<256:=by rw [hF];exact cat_lt (tE_lt _ _ _ _) (cat_lt hinfo (fun _=>hk255))
    have hFc:∀ j,j<tl+n2→cat tl (tE kv n2 info k) info j=F j:=fun j hj=>by
     rw [hF];unfold cat
     by_cases e:j<tl
     · rw [if_pos e,if_pos e]
     · rw [if_neg e,if_neg e,if_pos (by omega)]
    have HY:Hid (F (tl+n2)=k+1):=(by rw [hF,cat_right];unfold cat;simp:F (tl+n2)=k+1)
    have hT:tagH kv (tl+n2+1) F=tE kv n2 info (k+1):=by rw [hF,Htl.out];rfl
    have hh':∀ W v',Below w.heap.size w W→BytesIn W v' (tl+n2+1) F→Calls Tryz.prog 78 #[v1,v'] W fun e w'=>∃ v',e = .returned v'∧Own W.heap.size w' v' 32 (tE kv n2 info (k+1))∧Below W.heap.size W w':=fun W v' hW hv'=>by
     have:=hh W v' _ F hFl (by omega) hW hv'
     rw [hT] at this
     exact this
    obtain ⟨xt',ct',hte,hxt,-,hst⟩:=hbt.src
    cases hte
    have hst':=hst _ ((Below.refl wr.heap.size wr).alloc (Nat.le_refl _) (.cells #[] 5))
    have hAi:(A:Int)<N:=by omega
    obtain ⟨Tk,hTk⟩:∃ Tk,Tk=tE kv n2 info k:=⟨_,rfl⟩
    rw [←hTk] at hst' hFc
    have hwb:((k:Int)+1)%256=(k:Int)+1:=by omega
    clear hF hT hh hbt hst hTk
    go_wp2_with (first
     | (at_builtin;refine wpList_append_empty rfl (.tmp 24) (.tmp 25) rfl wr.heap.size Tk wr.heap.size rfl rfl xt tl ct rfl hst' hxt (by omega) (Nat.le_refl _) ?_;intro v3 w3 own3 hb3)
     | (at_builtin;refine wpList_append_bytes rfl (.tmp 26) (.tmp 27) rfl wr.heap.size _ tl _ rfl own3 xi n2 ci info rfl (hsi _ (hb.trans (hb3.mono hb.size))) hxi (by omega) hb3.size ?_;intro v4 w4 own4 hg4;have hb4:=Own.grown hb3 hg4 own3 (Nat.le_refl _) hb3.size;have own4':=own4.congr hFc;clear own3 own4)
     | (at_builtin;refine wpList_append_next rfl (.tmp 28) (.tmp 31) rfl wr.heap.size _ (tl+n2) F _ rfl own4' rfl (by rw [HY.out];simp;try omega) (by omega) hb4.size ?_;intro v5 w5 own5 hb5;have hb5':=hb4.trans hb5;have hw5:=hb.trans (hb5'.mono hb.size);have hh5:=hh' w5 v5 hw5 own5.bytesIn)
     | (go_at_call 78;refine hh5.mono ?_;clear hh5 hh';rintro e w6 ⟨v6,rfl,own6,hb6⟩;(obtain ⟨g6,c6,hv6,hg6,hgl6,hc6,hr6⟩:∃ g cap,v6 = .slice (some ⟨g,0,none⟩) 32 cap∧w5.heap.size≤g∧g<w6.heap.size∧32≤cap∧RowAt .u8 w6 g 0 32 (tE kv n2 info (k+1)):=own6.form.resolve_left (fun h=>by omega));subst hv6;have hb6':=hb5'.trans (hb6.mono hb5'.size);have own':=own.below hb6';have hw6:=hb.trans (hb6'.mono hb.size))
     | (at_builtin;refine wpList_append_bytes rfl (.tmp 34) (.tmp 35) rfl w.heap.size _ A _ rfl own' (some ⟨g6,0,none⟩) 32 c6 (tE kv n2 info (k+1)) rfl (.inr ⟨g6,0,rfl,fun j hj=>(hr6 j hj).1⟩) (fun h=>by cases h) (by omega) hw6.size ?_;intro v7 w7 own7 hg7;have hb7:=Own.grown hw6 hg7 own' (Nat.le_refl _) hw6.size))
    have hne:some g6≠(Value.slice xo A co).ownBlock:=fun h=>by
     have h1:=(World.ownsRow.lt own g6 h.symm).2
     have h2:=hb5'.size
     omega
    have hbt7:BytesIn w7 (.slice (some ⟨g6,0,none⟩) 32 c6) 32 (tE kv n2 info (k+1)) := .inr ⟨g6,0,c6,rfl,Nat.lt_of_lt_of_le hgl6 hg7.size,hc6,fun j hj=>hg7.cell (hr6 j hj).1 hne⟩
    have own8:Own w.heap.size w7 v7 (A+32) (allE kv n2 info):=own7.congr (fun q hq=>by
     unfold cat
     by_cases e:q<A
     · rw [if_pos e]
     · rw [if_neg e]
       unfold allE
       have:=HA.out
       rw [show q / 32=k by omega,show q%32=q - A by omega])
    obtain ⟨x7,c7,hv7⟩:∃ x c,v7 = .slice x (A+32) c:=by
     rcases own8.form with ⟨_,h0⟩ | ⟨g,c,h,_⟩
     · omega
     · exact ⟨_,c,h⟩
    subst hv7
    clear own own' own7 own5 own4' hr6 own6
    go_wp2
    go_roundw
    case rel =>
     exact ⟨k+1,32,A+32,(by have:=HA.out;omega:A+32=32*(k+1)),(by rw [if_neg (Nat.succ_ne_zero k)]:32=if k+1=0 then 0 else 32),by omega,by go_num,⟨x7,c7,rfl,own8⟩,⟨_,c6,rfl,hbt7⟩,hb7⟩
    case measure=>show N+32 - (A+32)<N+32 - A;omega
  · have hNA:N≤A:=by omega
    have hAi:¬((A:Int)<N):=by omega
    have hcg:∀ j,j<N→allE kv n2 info j=outF kv n2 info N j:=fun j hj=>by unfold allE outF;rw [if_pos hj]
    rcases own.form with ⟨hv,h0⟩ | ⟨g,c,hv,_,hgl,hcap,hr⟩
    · cases hv
      have hN0:N=0:=by omega
      subst hN0
      have hsl:=fun W=>sliceToNil W
      clear own hh hbt hcg hsi
      go_wp2
      go_ret2
      exact ⟨_,rfl,.inl ⟨none,rfl,rfl⟩,hb⟩
    · injection hv with hx1 _ hx2
      subst hx1;subst hx2
      have hsl:=fun W=>sliceTo W g A co N (by omega)
      have hNc:(N:Int)≤co:=by omega
      have hbf:BytesIn wr (.slice (some ⟨g,0,none⟩) N co) N (outF kv n2 info N) := .inr ⟨g,0,co,rfl,hgl,by omega,fun j hj=>by rw [(hr j (by omega)).1,hcg j hj]⟩
      clear own hh hbt hr hcg hsi
      go_wp2
      go_ret2
      exact ⟨_,rfl,hbf,hb⟩
end Go.Proofs.YtcgkajlehdgpoaaGreatDoor
namespace Go.Proofs.YtcgkajlehdgpoaaGreatDoor
open Go.RowKit
set_option maxRecDepth 20000 in
theorem rjoin_any (gp cnt cap m:Nat) (t:Nat→Nat) (hm:m≤140737488355328) (hcnt:cnt<1000000) (w:World) (hP:Parts w gp cnt m t) :
 Calls Tryz.prog 40 #[.slice (some ⟨gp,0,none⟩) cnt cap] w fun e w'=>∃ s,e = .returned s∧Own w.heap.size w' s m t∧Below w.heap.size w w':=by
 obtain ⟨pvs,L,h0,h1,h2⟩:=hP
 go_enter Tryz.func40,Tryz.ntmps40
 go_wp2
 go_loopw [3,4] (fun o i wr=>∃ k A:Nat,k≤cnt∧Hid (A=L k)∧i = .int .i64 (k:Int)∧(∃ xo co,o = .slice xo A co∧Own w.heap.size wr (.slice xo A co) A t)∧Below w.heap.size w wr) (fun _ i _=>cnt - (intOf i).toNat)
 case atStart=>exact ⟨0,0,Nat.zero_le _,Hid.mk' h0.symm,by go_num,⟨none,0,rfl,Own.nil _ _ _⟩,Below.refl _ _⟩
 case round =>
  obtain ⟨k,A,hk,HA,rfl,⟨xo,co,rfl,own⟩,hb⟩:=hrel
  by_cases hlt:k<cnt
  · obtain ⟨c1,c2,c3,c4⟩:=h2 k hlt
    obtain ⟨xs,cs,hp,hxn,-,hsrc⟩:=c4.src
    have hc:wr.cell? ⟨gp,k,none⟩=some (.slice xs (L (k+1) - L k) cs):=by
     rw [←hp]
     exact (hb.cell (p:=⟨gp,k,none⟩) (block_lt_of_cell c1)).trans c1
    have hs:=hsrc wr hb
    obtain ⟨D,hD⟩:∃ D,D=L (k+1) - L k:=⟨_,rfl⟩
    have hl:A+D=L (k+1):=by have:=HA.out;omega
    have hlm:A+D≤140737488355328:=by omega
    have hcg:∀ q,q<A+D→cat A t (fun j=>t (L k+j)) q=t q:=fun q hq=>by
     have:=HA.out
     unfold cat
     by_cases e:q<A
     · rw [if_pos e]
     · rw [if_neg e]
       show t (L k+(q - A))=t q
       rw [show L k+(q - A)=q by omega]
    obtain ⟨Y,hY⟩:∃ Y:Nat→Nat,Y=fun j=>t (L k+j):=⟨_,rfl⟩
    rw [←hD] at hc hs
    rw [←hY] at hs hcg
    have hki:(k:Int)<cnt:=by omega
    have Hl:Hid (A+D=L (k+1)):=hl
    have HD:Hid (D=L (k+1) - L k):=hD
    clear c1 c2 c3 c4 hp hsrc hD hl hY h0 h1
    go_wp2_with (at_builtin;refine wpList_append_bytes rfl (.tmp 11) (.tmp 15) rfl w.heap.size _ A t rfl own xs D cs Y rfl hs hxn hlm hb.size ?_;intro v7 w7 own7 hg7;have hb7:=Own.grown hb hg7 own (Nat.le_refl _) hb.size)
    have own8:Own w.heap.size w7 v7 (A+D) t:=own7.congr hcg
    obtain ⟨x7,c7,hv7⟩:∃ x c,v7 = .slice x (A+D) c:=by
     rcases own8.form with ⟨hv,e0⟩ | ⟨g,c,hv,_⟩
     · exact ⟨none,0,by rw [hv,e0]⟩
     · exact ⟨_,c,hv⟩
    subst hv7
    clear own own7
    go_wp2
    go_roundw
    case rel=>exact ⟨k+1,A+D,by omega,Hid.mk' Hl.out,by go_num,⟨x7,c7,rfl,own8⟩,hb7⟩
    case measure=>show cnt - ((k:Int)+1).toNat<cnt - (k:Int).toNat;omega
  · have hke:k=cnt:=by omega
    have hki:¬((k:Int)<cnt):=by omega
    have hAm:A=m:=by rw [HA.out,hke,h1]
    clear h2 h0 h1 HA hki hke
    subst hAm
    have hki:¬((k:Int)<cnt):=by omega
    go_wp2
    go_ret
    exact ⟨_,rfl,own,hb⟩
end Go.Proofs.YtcgkajlehdgpoaaGreatDoor
namespace Go.Proofs.YtcgkajlehdgpoaaGreatDoor
open Go.RowKit
def strL (l:List Nat):ByteArray:=⟨(l.map UInt8.ofNat).toArray⟩
theorem litB_lt {l:List Nat} (h:∀ x,x∈l→x<256) (j:Nat):litB l j<256:=by
 unfold litB
 by_cases hj:j<l.length
 · rw [List.getD_eq_getElem?_getD,List.getElem?_eq_getElem hj];exact h _ (List.getElem_mem hj)
 · rw [List.getD_eq_getElem?_getD,List.getElem?_eq_none (by omega)];decide
theorem conv_label (w:World) (l:List Nat) (h:∀ x,x∈l→x<256):∃ c W,(convert 9 22 (.string (strL l))).run Tryz.prog w = .ok (.slice (some ⟨w.heap.size,0,none⟩) l.length c) W∧BytesIn W (.slice (some ⟨w.heap.size,0,none⟩) l.length c) l.length (litB l)∧Below w.heap.size w W:=by
 have hs:(strL l).size=l.length:=by simp [strL,ByteArray.size]
 have hr:=Lib.run_convert_string_bytes (P:=Tryz.prog) w 9 22 5 (strL l) Tryz.underlying9 Tryz.underlying22 Tryz.underlying5
 rw [hs] at hr
 refine ⟨_,_,hr,.inr ⟨w.heap.size,0,_,rfl,by rw [Lib.bytesWorld_size];exact Nat.lt_succ_self _,grownCap_ge _ _ _ _,fun j hj => ?_⟩,⟨by simp [Lib.bytesWorld,World.freeze,World.alloc,World.drew,-World.alloc_eq,-World.drew_eq],by simp [Lib.bytesWorld,World.freeze,World.alloc,World.drew,-World.alloc_eq,-World.drew_eq],by simp [Lib.bytesWorld,World.freeze,World.alloc,World.drew,-World.alloc_eq,-World.drew_eq],by rw [Lib.bytesWorld_size];exact Nat.le_succ _,fun k hk=>Lib.bytesWorld_at_old _ _ _ k hk⟩⟩
 have hx:=h _ (List.getElem_mem hj)
 have e:((strL l).data.toList.getD j 0).toNat=litB l j:=by simp [strL,litB,hj,Nat.mod_eq_of_lt hx]
 rw [Nat.zero_add,Lib.bytesWorld_cell w _ _ j (by rw [hs];exact hj),e]
theorem lV1_lt:∀ x,x∈lV1→x<256:=by decide
set_option maxRecDepth 20000 in
set_option maxHeartbeats 1000000 in
theorem rextract_any (suite label:List Nat) (hsu:∀ x,x∈suite→x<256) (hla:∀ x,x∈label→x<256) (hsz:suite.length+label.length≤100) (sv tv iv:Value) (sn m:Nat) (salt ikm:Nat→Nat) (hsalt:∀ j,salt j<256) (hikm:∀ j,ikm j<256) (hsn:sn<140737488355000) (hm:m+200<140737488355000) (w:World) (h1:BytesIn w sv suite.length (litB suite)) (h2:BytesIn w tv sn salt) (h3:BytesIn w iv m ikm) :
 Calls Tryz.prog 33 #[sv,tv,.string (strL label),iv] w fun e w'=>∃ s,e = .returned s∧Own w.heap.size w' s 32 (lxN suite sn salt label m ikm)∧Below w.heap.size w w':=by
 obtain ⟨xs,cs,rfl,-,-,-⟩:=h1.src
 obtain ⟨xi,ci,rfl,-,-,-⟩:=h3.src
 have hc:(convert 22 22 (.slice (some ⟨w.heap.size,0,none⟩) 7 7)).run Tryz.prog (w.alloc (.cells #[.int .u8 72,.int .u8 80,.int .u8 75,.int .u8 69,.int .u8 45,.int .u8 118,.int .u8 49] 5)) = .ok (.slice (some ⟨w.heap.size,0,none⟩) 7 7) (w.alloc (.cells #[.int .u8 72,.int .u8 80,.int .u8 75,.int .u8 69,.int .u8 45,.int .u8 118,.int .u8 49] 5 (7,8))):=convC w lV1
 have hb1:Below w.heap.size w (w.alloc (.cells #[.int .u8 72,.int .u8 80,.int .u8 75,.int .u8 69,.int .u8 45,.int .u8 118,.int .u8 49] 5 (7,8))):=(Below.refl _ _).alloc (Nat.le_refl _) _
 have hB1:BytesIn (w.alloc (.cells #[.int .u8 72,.int .u8 80,.int .u8 75,.int .u8 69,.int .u8 45,.int .u8 118,.int .u8 49] 5 (7,8))) (.slice (some ⟨w.heap.size,0,none⟩) 7 7) 7 (litB lV1):=litB_B w lV1 (7,8)
 obtain ⟨W1,hW1⟩:∃ W,W=w.alloc (.cells #[.int .u8 72,.int .u8 80,.int .u8 75,.int .u8 69,.int .u8 45,.int .u8 118,.int .u8 49] 5 (7,8)):=⟨_,rfl⟩
 rw [←hW1] at hc hb1 hB1
 obtain ⟨c3,W2,hcl,hB2,hb2⟩:=conv_label W1 label hla
 have hb02:=below_next hb1 hb2
 have hP:=parts_list W2 [(.slice (some ⟨w.heap.size,0,none⟩) 7 7,7,litB lV1),(.slice xs suite.length cs,suite.length,litB suite),(.slice (some ⟨W1.heap.size,0,none⟩) label.length c3,label.length,litB label),(.slice xi m ci,m,ikm)] 22 (by
  intro p hp
  simp only [List.mem_cons,List.not_mem_nil,or_false] at hp
  rcases hp with rfl | rfl | rfl | rfl
  · exact hB1.keep hb2
  · exact h1.keep hb02
  · exact hB2
  · exact h3.keep hb02)
 have hb3:Below w.heap.size w (W2.alloc (.cells #[.slice (some ⟨w.heap.size,0,none⟩) 7 7,.slice xs suite.length cs,.slice (some ⟨W1.heap.size,0,none⟩) label.length c3,.slice xi m ci] 22)):=hb02.alloc hb02.size _
 have hL:lenL (lxT suite label m ikm)=7+(suite.length+(label.length+(m+0))):=rfl
 have hlt:∀ j,catL (lxT suite label m ikm) j<256:=catL_lt _ (by
  intro p hp
  simp only [lxT,List.mem_cons,List.not_mem_nil,or_false] at hp
  rcases hp with rfl | rfl | rfl | rfl
  · exact litB_lt lV1_lt
  · exact litB_lt hsu
  · exact litB_lt hla
  · exact hikm)
 have hj:=rjoin_any W2.heap.size 4 4 (lenL (lxT suite label m ikm)) (catL (lxT suite label m ikm)) (by rw [hL];omega) (by decide) _ hP
 have hx:=fun v W hb hv=>rExtract_any tv v sn (lenL (lxT suite label m ikm)) salt (catL (lxT suite label m ikm)) hsalt hlt hsn (by rw [hL];omega) W (h2.keep hb) hv
 replace hj:Calls Tryz.prog 40 #[.slice (some ⟨W2.heap.size,0,none⟩) 4 4] (W2.alloc (.cells #[.slice (some ⟨w.heap.size,0,none⟩) 7 7,.slice xs suite.length cs,.slice (some ⟨W1.heap.size,0,none⟩) label.length c3,.slice xi m ci] 22)) _:=hj
 obtain ⟨N,hN⟩:∃ N,N=lenL (lxT suite label m ikm):=⟨_,rfl⟩
 obtain ⟨F,hF⟩:∃ F,F=catL (lxT suite label m ikm):=⟨_,rfl⟩
 obtain ⟨T,hT⟩:∃ T,T=lxN suite sn salt label m ikm:=⟨_,rfl⟩
 have hT2:tagH (keyB sn salt) N F=T:=by rw [hT,hN,hF];rfl
 rw [←hN,←hF] at hj hx
 rw [hT2] at hx
 rw [←hT]
 obtain ⟨S,hS⟩:∃ S,S=strL label:=⟨_,rfl⟩
 rw [←hS] at hcl ⊢
 clear hP hB1 hB2 hL hlt hN hF hT hT2 hS hW1 hb1 hb2 h1 h3
 go_enter Tryz.func33,Tryz.ntmps33
 go_wp2_with (first
  | rw [hc]
  | rw [hcl]
  | (go_at_call 40;refine hj.mono ?_;clear hj;rintro e w4 ⟨s4,rfl,own4,hb4⟩;(have b4:=below_next hb3 hb4))
  | (go_at_call 57;refine (hx s4 _ b4 own4.bytesIn).mono ?_;clear hx;rintro e w5 ⟨s5,rfl,own5,hb5⟩))
 go_ret
 exact ⟨s5,rfl,own5.lower b4.size,below_next b4 hb5⟩
end Go.Proofs.YtcgkajlehdgpoaaGreatDoor
namespace Go.Proofs.YtcgkajlehdgpoaaGreatDoor
open Go.RowKit
theorem run_append_zeros_nil (w:World) (ty:TypeId) (m:Nat) (h0:0<m) (hm:m≤1000000) :
 (Builtin.append_ #[22,3] ty #[.slice none 0 0,.int .i64 m]).run Tryz.prog w =
  .ok (.slice (some ⟨w.heap.size,0,none⟩) m (grownCap w m 0 5)) (w.drew.alloc (.cells ((ints .u8 m (fun _=>0)).toArray ++ Builtin.zeroCells #[.int .u8 0] (grownCap w m 0 5 - m)) 5)):=by
 obtain ⟨i,hi,hz,hz1,hz2⟩:=info_parts Tryz.info5
 have h63':¬ (9223372036854775807<(m:Int)):=by omega
 have hw:IntKind.i64.wrap (m:Int)=m:=by simp only [IntKind.wrap_i64];omega
 have hl0:¬((m:Int)<0):=by omega
 have h48:¬ (281474976710656<(m:Int)):=by omega
 have hm0:¬(m=0):=by omega
 have hai:∀ W,Sem.run Tryz.prog (asInt (.int .i64 (m:Int))) W = .ok (m:Int) W:=fun _=>rfl
 have hc:(Value.int IntKind.u8 0).cells=#[.int .u8 0]:=rfl
 have hu:=run_underlying (P:=Tryz.prog) Tryz.underlying22
 have hu2:=run_underlying (P:=Tryz.prog) Tryz.underlying3
 have hns:¬ (281474976710656<Builtin.nextslicecap m 0):=by rw [nextslicecap_zero h0];omega
 simp [Builtin.append_,hu,hu2,sizeOf,typeInfo,zeroValue,hi,hz,hai,hw,hl0,h48,hz1,hz2,h63',Question.forced,run_firstCells_none,newRow,grownCap,hc,hm0,hns]
 rw [zeroCells_u8 m]
theorem append_zeros0 (w:World) (ty:TypeId) (m:Nat) (h0:0<m) (hm:m≤1000000) :
 ∃ g cap w',(Builtin.append_ #[22,3] ty #[.slice none 0 0,.int .i64 m]).run Tryz.prog w = .ok (.slice (some ⟨g,0,none⟩) m cap) w'∧m≤cap∧Own w.heap.size w' (.slice (some ⟨g,0,none⟩) 0 cap) 0 (fun _=>0)∧Below w.heap.size w w':=by
 have hge:=grownCap_ge w m 0 5
 have hcm:=grownCap_le_maxLen w m 0 5 (by unfold maxLen;omega)
 refine ⟨_,_,_,run_append_zeros_nil w ty m h0 hm,hge,⟨rfl,.inr ⟨w.heap.size,_,_,rfl,Nat.le_refl _,heap_alloc_new w.drew _,Nat.zero_le _,hcm,?_,rfl⟩⟩,((Below.refl _ _).drew).alloc (Nat.le_refl _) _⟩
 simp only [Array.size_append,List.size_toArray,size_zeroCells,ints_len]
 simp
 omega
theorem wpList_append_zeros0 {w:World} {ops:Array Oper} {rest:List Oper} {o:Oper} {a:Act} {Q:Exit→Act→World→Prop} (hgd:o.guard=none) (s x:Operand)
 (ho:o.op = .call { callee := .builtin .append,args:=#[s,x],argTypes:=#[22,3] }) (hs:a.eval s = .slice none 0 0) (m:Nat) (hx:a.eval x = .int .i64 m) (h0:0<m) (hm:m≤1000000)
 (h:∀ g cap w',m≤cap→Own w.heap.size w' (.slice (some ⟨g,0,none⟩) 0 cap) 0 (fun _=>0)→Below w.heap.size w w'→wpList Tryz.prog ops Q rest (a.put o.dst (.slice (some ⟨g,0,none⟩) m cap)) w'):wpList Tryz.prog ops Q (o :: rest) a w:=by
 refine wpList_plain hgd fun K hK => ?_
 obtain ⟨g,cap,w',h1,h2,h3,h4⟩:=append_zeros0 w o.type m h0 hm
 unfold Oper.wp execOp
 simp only [ho,resolve,invoke,builtin,Sem.run_bind,Sem.run_pure,Result.andThen_ok,List.map_toArray,List.map_cons,List.map_nil,hs,hx,h1]
 exact hK _ _ (h g cap w' h2 h3 h4)
set_option maxRecDepth 20000 in
set_option maxHeartbeats 4000000 in
theorem grow_any (m:Nat) (h0:0<m) (hm:m≤1000000) (w:World) :
 Calls Tryz.prog 86 #[.slice none 0 0,.int .i64 m] w fun e w'=>∃ g cap,e = .returned (.slice (some ⟨g,0,none⟩) 0 cap)∧Own w.heap.size w' (.slice (some ⟨g,0,none⟩) 0 cap) 0 (fun _=>0)∧Below w.heap.size w w':=by
 have e1:¬((m:Int)<0):=by omega
 have e2:(0:Int)<(m:Int):=by omega
 have e3:IntKind.i64.wrap ((m:Int) - 0)=(m:Int):=by simp only [IntKind.wrap_i64];omega
 have e4:IntKind.i64.wrap (m:Int)=(m:Int):=by simp only [IntKind.wrap_i64];omega
 go_enter Tryz.func86,Tryz.ntmps86
 go_wp2_with (at_builtin;refine wpList_append_zeros0 rfl (.tmp 20) (.tmp 21) rfl rfl m rfl h0 hm ?_;intro g cap w1 hcap own hb)
 go_ret
 exact ⟨g,cap,rfl,own,hb⟩
end Go.Proofs.YtcgkajlehdgpoaaGreatDoor
namespace Go.Proofs.YtcgkajlehdgpoaaGreatDoor
open Go.RowKit
set_option maxRecDepth 20000 in
set_option maxHeartbeats 8000000 in
theorem concat_parts (gp cnt m:Nat) (t:Nat→Nat) (w:World) (hP:Parts w gp cnt m t) (hcnt:cnt≤1000) (hsum:m≤1000000) (h0:0<m) :
 Calls Tryz.prog 61 #[.slice (some ⟨gp,0,none⟩) cnt cnt] w fun e w'=>∃ s,e = .returned s∧Own w.heap.size w' s m t∧Below w.heap.size w w':=by
 obtain ⟨pvs,L,p0,p1,p2⟩:=hP
 have P2:=Hid.mk' p2
 clear p2
 have hg:=grow_any m h0 hsum w
 go_enter Tryz.func61,Tryz.ntmps61
 go_wp2
 go_loopw [3,11] (fun s i wr=>∃ q T:Nat,q≤cnt∧i = .int .i64 q∧Hid (T=L q)∧s = .int .i64 T∧w=wr) (fun _ i _=>cnt - (intOf i).toNat)
 case atStart=>exact ⟨0,0,Nat.zero_le _,rfl,Hid.mk' p0.symm,rfl,rfl⟩
 case round =>
  obtain ⟨q,T,hq,rfl,HT,rfl,rfl⟩:=hrel
  by_cases hlt:q<cnt
  · obtain ⟨c1,c2,c3,c4⟩:=P2.out q hlt
    obtain ⟨xp,cp,hpv,hxn,hncp,hsrc⟩:=c4.src
    obtain ⟨n,hn⟩:∃ n,n=L (q+1) - L q:=⟨_,rfl⟩
    have hTn:T+n=L (q+1):=by have:=HT.out;omega
    have hTm:T+n≤1000000:=by omega
    have r0:w.cell? ⟨gp,q,none⟩=some (.slice xp n cp):=by rw [c1,hpv,hn]
    have hqi:(0:Int)≤(q:Int)∧(q:Int)<cnt:=by omega
    have hd:decide ((q:Int)<(cnt:Int))=true:=decide_eq_true (by omega)
    have ew:IntKind.i64.wrap ((T:Int)+(n:Int))=(T:Int)+n:=by simp only [IntKind.wrap_i64];omega
    have en:¬((T:Int)+(n:Int)<0):=by omega
    have HN:Hid (T+n=L (q+1)):=hTn
    clear hn hTn c1 c2 c3 c4 hpv hsrc hg p0 p1
    go_wp2
    go_roundw
    case rel=>exact ⟨q+1,T+n,by omega,by go_num,Hid.mk' HN.out,by simp,by first | rfl | trivial⟩
    case measure=>simp [intOf];omega
  · have hqe:q=cnt:=by omega
    subst hqe
    have hTm:T=m:=by rw [HT.out,p1]
    subst hTm
    go_wp2_with (go_at_call 86;refine hg.mono ?_;clear hg;rintro e w1 ⟨g1,cap1,rfl,own1,hb1⟩)
    have hd0:decide ((q:Int)<(q:Int))=false:=decide_eq_false (by omega)
    try rw [hd0]
    clear hd0 hlt HT
    go_loopw [6,27] (fun ns i wr=>∃ r A:Nat,r≤q∧i = .int .i64 r∧Hid (A=L r)∧Own w.heap.size wr ns A t∧Below w.heap.size w wr) (fun _ i _=>q - (intOf i).toNat)
    case atStart=>exact ⟨0,0,Nat.zero_le _,rfl,Hid.mk' p0.symm,own1.congr (fun j hj=>absurd hj (Nat.not_lt_zero j)),hb1⟩
    case round =>
     clear own1 hb1
     obtain ⟨r,A,hr,rfl,HA,own,hbw⟩:=hrel
     by_cases hlt:r<q
     · obtain ⟨c1,c2,c3,c4⟩:=P2.out r hlt
       obtain ⟨xp,cp,hpv,hxn,hncp,hsrc⟩:=c4.src
       obtain ⟨n,hn⟩:∃ n,n=L (r+1) - L r:=⟨_,rfl⟩
       have hTn:A+n=L (r+1):=by have:=HA.out;omega
       have hTm:A+n≤1000000:=by omega
       have r0:wr.cell? ⟨gp,r,none⟩=some (.slice xp n cp):=by rw [hbw.cell (p:=⟨gp,r,none⟩) (block_lt_of_cell c1),c1,hpv,hn]
       have hcg:∀ z,z<A+n→cat A t (fun j=>t (L r+j)) z=t z:=fun z hz=>by
        have:=HA.out
        unfold cat
        by_cases e:z<A
        · rw [if_pos e]
        · rw [if_neg e]
          show t (L r+(z - A))=t z
          rw [show L r+(z - A)=z by omega]
       have src:=hsrc wr hbw
       rw [←hn] at src
       obtain ⟨Y,hY⟩:∃ Y:Nat→Nat,Y=fun j=>t (L r+j):=⟨_,rfl⟩
       rw [←hY] at src hcg
       have hqi:(0:Int)≤(r:Int)∧(r:Int)<q:=by omega
       have hd:decide ((r:Int)<(q:Int))=true:=decide_eq_true (by omega)
       have hsz:=hbw.size
       have HN:Hid (A+n=L (r+1)):=hTn
       clear hn hTn c1 c2 c3 c4 hpv hsrc p0 p1 hY
       go_wp2_with (at_builtin;refine wpList_append_bytes rfl (.tmp 31) (.tmp 32) rfl w.heap.size u6 A t rfl own xp n cp Y rfl src hxn (by omega) hsz ?_;intro v6 w6 own6 grow6;(have hb6:Below w.heap.size w w6:=Own.grown hbw grow6 own (Nat.le_refl _) hsz))
       go_roundw
       case rel=>exact ⟨r+1,A+n,by omega,by go_num,Hid.mk' HN.out,own6.congr hcg,hb6⟩
       case measure=>simp [intOf];omega
     · have hqe:r=q:=by omega
       subst hqe
       have hA:=HA.out
       rw [p1] at hA
       go_wp2
       go_ret
       exact ⟨_,rfl,by rw [←hA];exact own,hbw⟩
theorem Parts.congr {w:World} {gp cnt m:Nat} {t u:Nat→Nat} (h:Parts w gp cnt m t) (e:∀ j,j<m→t j=u j):Parts w gp cnt m u:=by
 obtain ⟨pvs,L,p0,p1,p2⟩:=h
 refine ⟨pvs,L,p0,p1,fun i hi => ?_⟩
 obtain ⟨c1,c2,c3,c4⟩:=p2 i hi
 exact ⟨c1,c2,c3,c4.cong fun j hj=>e _ (by omega)⟩
theorem Parts.keep {w w':World} {gp cnt m:Nat} {t:Nat→Nat} (h:Parts w gp cnt m t) (hb:Below w.heap.size w w'):Parts w' gp cnt m t:=by
 obtain ⟨pvs,L,p0,p1,p2⟩:=h
 refine ⟨pvs,L,p0,p1,fun i hi => ?_⟩
 obtain ⟨c1,c2,c3,c4⟩:=p2 i hi
 exact ⟨(hb.cell (p:=⟨gp,i,none⟩) (block_lt_of_cell c1)).trans c1,c2,c3,c4.keep hb⟩
def Texts (w:World) (v:Value) (cnt m:Nat) (t:Nat→Nat):Prop:=(v = .slice none 0 0∧cnt=0∧m=0)∨∃ gp,v = .slice (some ⟨gp,0,none⟩) cnt cnt∧Parts w gp cnt m t
theorem Texts.keep {w w':World} {v:Value} {cnt m:Nat} {t:Nat→Nat} (h:Texts w v cnt m t) (hb:Below w.heap.size w w'):Texts w' v cnt m t:=by
 rcases h with h | ⟨gp,hv,hP⟩
 · exact .inl h
 · exact .inr ⟨gp,hv,hP.keep hb⟩
theorem texts_none (w:World) (t:Nat→Nat):Texts w (.slice none 0 0) 0 0 t := .inl ⟨rfl,rfl,rfl⟩
theorem texts_one (w:World) (v:Value) (m:Nat) (t:Nat→Nat) (h:BytesIn w v m t):Texts (w.alloc (.cells #[v] 22)) (.slice (some ⟨w.heap.size,0,none⟩) 1 1) 1 m t :=
 .inr ⟨w.heap.size,rfl,(parts_list w [(v,m,t)] 22 (fun p hp=>by
  simp only [List.mem_cons,List.not_mem_nil,or_false] at hp
  subst hp
  exact h)).congr fun j hj=>by
  show cat m t (fun _=>0) j=t j
  exact cat_left hj⟩
theorem texts_two (w:World) (v u:Value) (n m:Nat) (t s:Nat→Nat) (h1:BytesIn w v n t) (h2:BytesIn w u m s):Texts (w.alloc (.cells #[v,u] 22)) (.slice (some ⟨w.heap.size,0,none⟩) 2 2) 2 (n+m) (catL [(n,t),(m,s)]) :=
 .inr ⟨w.heap.size,rfl,parts_list w [(v,n,t),(u,m,s)] 22 (fun p hp=>by
  simp only [List.mem_cons,List.not_mem_nil,or_false] at hp
  rcases hp with rfl | rfl
  · exact h1
  · exact h2)⟩
end Go.Proofs.YtcgkajlehdgpoaaGreatDoor
namespace Go.Proofs.YtcgkajlehdgpoaaGreatDoor
open Go.RowKit
theorem strCells_lit (l:List Nat) (h:∀ x,x∈l→x<256):Lib.strCells (strL l)=ints .u8 l.length (litB l):=by
 apply List.ext_getElem?
 intro j
 by_cases hj:j<l.length
 · rw [ints_at _ _ _ j hj]
   have hx:=h _ (List.getElem_mem hj)
   simp [Lib.strCells,strL,litB,hj,Nat.mod_eq_of_lt hx]
 · rw [List.getElem?_eq_none (by rw [Lib.strCells_length];simp [strL,ByteArray.size];omega),List.getElem?_eq_none (by rw [ints_len];omega)]
theorem wpList_append_str {w:World} {ops:Array Oper} {rest:List Oper} {o:Oper} {a:Act} {Q:Exit→Act→World→Prop} (hgd:o.guard=none) (s x:Operand) (tu:TypeId) (hu:Tryz.prog.underlying tu=some .string)
 (ho:o.op = .call { callee := .builtin .append,args:=#[s,x],argTypes:=#[22,tu] }) (base:Nat)
 (v:Value) (n:Nat) (X:Nat→Nat) (hs:a.eval s=v) (hown:Own base w v n X) (l:List Nat) (hlt:∀ x,x∈l→x<256) (hx:a.eval x = .string (strL l))
 (hl:n+l.length≤140737488355328) (hbase:base≤w.heap.size)
 (h:∀ v' w',Own base w' v' (n+l.length) (cat n X (litB l))→w.grownBy w' v.ownBlock→wpList Tryz.prog ops Q rest (a.put o.dst v') w'):wpList Tryz.prog ops Q (o :: rest) a w:=by
 obtain ⟨i0,hi,hz0,hz1,hz2⟩:=info_parts Tryz.info5
 have hsz:(strL l).size=l.length:=by simp [strL,ByteArray.size]
 refine wpList_plain hgd fun K hK => ?_
 obtain ⟨v',w',h1,h2,h3,-⟩:=Lib.run_append_own_string (P:=Tryz.prog) (w:=w) base 22 tu o.type 5 i0 Tryz.underlying22 hu hi hz0 hz1 hz2 v n _ hown (strL l) (by rw [hsz];unfold maxLen;omega) (by rw [hsz];omega) hbase
 rw [hsz,strCells_lit l hlt,ints_add] at h2
 unfold Oper.wp execOp
 simp only [ho,resolve,invoke,builtin,Sem.run_bind,Sem.run_pure,Result.andThen_ok,List.map_toArray,List.map_cons,List.map_nil,hs,hx,h1]
 exact hK _ _ (h v' w' h2 h3)
theorem Own.slice {base:Nat} {w:World} {v:Value} {n:Nat} {X:Nat→Nat} (h:Own base w v n X):∃ x c,v = .slice x n c:=by
 rcases h.form with ⟨hv,e0⟩ | ⟨g,c,hv,_⟩
 · exact ⟨none,0,by rw [hv,e0]⟩
 · exact ⟨_,c,hv⟩
def lbT (suite label:List Nat) (an:Nat) (A:Nat→Nat) (m:Nat) (t:Nat→Nat):List (Nat × (Nat→Nat)):=(an,A) :: lxT suite label m t
theorem lbT_front (suite label:List Nat) (an:Nat) (A:Nat→Nat) (m:Nat) (t:Nat→Nat) (j:Nat) (hj:j<an+7+suite.length+label.length) :
 cat (an+7+suite.length) (cat (an+7) (cat an A (litB lV1)) (litB suite)) (litB label) j=catL (lbT suite label an A m t) j:=by
 show _=cat an A (cat 7 (litB lV1) (cat suite.length (litB suite) (cat label.length (litB label) (cat m t (fun _=>0))))) j
 unfold cat
 by_cases h1:j<an
 · simp only [h1,show j<an+7 by omega,show j<an+7+suite.length by omega,if_true]
 · by_cases h2:j<an+7
   · simp only [h1,h2,show j - an<7 by omega,show j<an+7+suite.length by omega,if_true,if_false]
   · by_cases h3:j<an+7+suite.length
     · simp only [h1,h2,h3,show ¬j - an<7 by omega,show j - (an+7)<suite.length by omega,if_true,if_false,Nat.sub_sub]
     · simp only [h1,h3,show ¬j - an<7 by omega,show ¬j - (an+7)<suite.length by omega,show j - (an+7+suite.length)<label.length by omega,if_true,if_false,Nat.sub_sub]
theorem lbT_back (suite label:List Nat) (an:Nat) (A:Nat→Nat) (m:Nat) (t:Nat→Nat) (j:Nat) (hj:j<m):catL (lbT suite label an A m t) (an+7+suite.length+label.length+j)=t j:=by
 show cat an A (cat 7 (litB lV1) (cat suite.length (litB suite) (cat label.length (litB label) (cat m t (fun _=>0))))) _=_
 unfold cat
 rw [if_neg (by omega),if_neg (by omega),if_neg (by omega),if_neg (by omega),if_pos (by omega)]
 congr 1
 omega
set_option maxRecDepth 20000 in
set_option maxHeartbeats 4000000 in
theorem labelled_any (suite label:List Nat) (hsu:∀ x,x∈suite→x<256) (hla:∀ x,x∈label→x<256) (hsz:suite.length+label.length≤100) (av tv:Value) (an cnt m:Nat) (A t:Nat→Nat) (han:an≤100) (hcnt:cnt<1000000) (hm:m+300<140737488355000) (w:World) (h1:BytesIn w av an A) (h2:Texts w tv cnt m t) :
 Calls Tryz.prog 51 #[.string (strL suite),av,.string (strL label),tv] w fun e w'=>∃ s,e = .returned s∧Own w.heap.size w' s (an+7+suite.length+label.length+m) (catL (lbT suite label an A m t))∧Below w.heap.size w w':=by
 obtain ⟨xa,ca,rfl,hxa,-,hsa⟩:=h1.src
 obtain ⟨xt,gp,pvs,L,hxt,hxs,p0,p1,p2⟩:∃ (xt:Option Addr) (gp:Nat) (pvs:Nat→Value) (L:Nat→Nat),tv = .slice xt cnt cnt∧(0<cnt→xt=some ⟨gp,0,none⟩)∧L 0=0∧L cnt=m∧∀ i,i<cnt→w.cell? ⟨gp,i,none⟩=some (pvs i)∧L i≤L (i+1)∧L (i+1)≤m∧BytesIn w (pvs i) (L (i+1) - L i) (fun j=>t (L i+j)):=by
  rcases h2 with ⟨rfl,rfl,rfl⟩ | ⟨gp,rfl,pvs,L,q0,q1,q2⟩
  · exact ⟨none,0,fun _ => .bool false,fun _=>0,rfl,fun h=>absurd h (Nat.lt_irrefl 0),rfl,rfl,fun i hi=>absurd hi (Nat.not_lt_zero i)⟩
  · exact ⟨_,gp,pvs,L,rfl,fun _=>rfl,q0,q1,q2⟩
 subst hxt
 have P2:=Hid.mk' p2
 clear p2
 obtain ⟨T,hT⟩:∃ T,T=an+7+suite.length+label.length:=⟨_,rfl⟩
 obtain ⟨F,hF⟩:∃ F,F=catL (lbT suite label an A m t):=⟨_,rfl⟩
 have hfr:=lbT_front suite label an A m t
 have hbk:=lbT_back suite label an A m t
 rw [←hF,←hT] at hfr hbk
 have hT2:T≤300:=by omega
 rw [←hF,←hT]
 have hs0:=hsa w (Below.refl _ _)
 have HT:Hid (T=an+7+suite.length+label.length):=hT
 clear hT hF hsa h1 h2
 go_enter Tryz.func51,Tryz.ntmps51
 go_wp2_with (first
  | (at_builtin;refine wpList_append_bytes rfl (.const (.slice none 0 0)) (.tmp 12) rfl w.heap.size _ 0 A rfl (Own.nil _ _ _) xa an ca A rfl hs0 hxa (by omega) (Nat.le_refl _) ?_;intro v1 w1 own1 g1;(have b1:=Own.grown (Below.refl _ _) g1 (Own.nil _ _ A) (Nat.le_refl _) (Nat.le_refl _));rw [Nat.zero_add] at own1;replace own1:=own1.congr (Y:=A) (fun j _=>by unfold cat;rw [if_neg (by omega),Nat.sub_zero]);(obtain ⟨y1,d1,e1⟩:=own1.slice);subst e1;clear hs0)
  | (at_builtin;refine wpList_append_str rfl (.tmp 14) _ 9 Tryz.underlying9 rfl w.heap.size _ an A rfl own1 lV1 lV1_lt rfl (by show an+7≤_;omega) b1.size ?_;intro v2 w2 own2 g2;(have b2:=Own.grown b1 g2 own1 (Nat.le_refl _) b1.size);(replace own2:Own _ _ _ (an+7) _:=own2);(obtain ⟨y2,d2,e2⟩:=own2.slice);subst e2;clear own1)
  | (at_builtin;refine wpList_append_str rfl (.tmp 16) (.tmp 17) 63 Tryz.underlying63 rfl w.heap.size _ (an+7) _ rfl own2 suite hsu rfl (by omega) b2.size ?_;intro v3 w3 own3 g3;(have b3:=Own.grown b2 g3 own2 (Nat.le_refl _) b2.size);(obtain ⟨y3,d3,e3⟩:=own3.slice);subst e3;clear own2)
  | (at_builtin;refine wpList_append_str rfl (.tmp 19) (.tmp 20) 9 Tryz.underlying9 rfl w.heap.size _ (an+7+suite.length) _ rfl own3 label hla rfl (by omega) b3.size ?_;intro v4 w4 own4 g4;(have b4:=Own.grown b3 g4 own3 (Nat.le_refl _) b3.size);replace own4:=own4.congr (fun j hj=>hfr j (by have:=HT.out;omega));rw [←HT.out] at own4;(obtain ⟨y4,d4,e4⟩:=own4.slice);subst e4;clear own3))
 clear hfr
 go_loopw [9,24] (fun o i wr=>∃ k B:Nat,k≤cnt∧Hid (B=T+L k)∧i = .int .i64 (k:Int)∧(∃ xo co,o = .slice xo B co∧Own w.heap.size wr (.slice xo B co) B F)∧Below w.heap.size w wr) (fun _ i _=>cnt - (intOf i).toNat)
 case atStart=>exact ⟨0,T,Nat.zero_le _,Hid.mk' (by rw [p0,Nat.add_zero]),by go_num,⟨y4,d4,rfl,own4⟩,b4⟩
 case round =>
  obtain ⟨k,B,hk,HB,rfl,⟨xo,co,rfl,own⟩,hb⟩:=hrel
  clear own4 b4
  by_cases hlt:k<cnt
  · obtain rfl:=hxs (Nat.lt_of_le_of_lt (Nat.zero_le _) hlt)
    obtain ⟨c1,c2,c3,c4⟩:=P2.out k hlt
    obtain ⟨xs,cs,hp,hxn,-,hsrc⟩:=c4.src
    have hc:wr.cell? ⟨gp,k,none⟩=some (.slice xs (L (k+1) - L k) cs):=by
     rw [←hp]
     exact (hb.cell (p:=⟨gp,k,none⟩) (block_lt_of_cell c1)).trans c1
    have hs:=hsrc wr hb
    obtain ⟨D,hD⟩:∃ D,D=L (k+1) - L k:=⟨_,rfl⟩
    have hl:B+D=T+L (k+1):=by have:=HB.out;omega
    have hlm:B+D≤140737488355328:=by omega
    have hcg:∀ q,q<B+D→cat B F (fun j=>t (L k+j)) q=F q:=fun q hq=>by
     have:=HB.out
     unfold cat
     by_cases e:q<B
     · rw [if_pos e]
     · rw [if_neg e]
       show t (L k+(q - B))=F q
       rw [←hbk (L k+(q - B)) (by omega),show T+(L k+(q - B))=q by omega]
    obtain ⟨Y,hY⟩:∃ Y:Nat→Nat,Y=fun j=>t (L k+j):=⟨_,rfl⟩
    rw [←hD] at hc hs
    rw [←hY] at hs hcg
    have hki:(k:Int)<cnt:=by omega
    have Hl:Hid (B+D=T+L (k+1)):=hl
    clear c1 c2 c3 c4 hp hsrc hD hl hY p0 p1 hbk
    go_wp2_with (at_builtin;refine wpList_append_bytes rfl (.tmp 28) (.tmp 29) rfl w.heap.size _ B F rfl own xs D cs Y rfl hs hxn hlm hb.size ?_;intro v7 w7 own7 hg7;have hb7:=Own.grown hb hg7 own (Nat.le_refl _) hb.size)
    have own8:Own w.heap.size w7 v7 (B+D) F:=own7.congr hcg
    obtain ⟨x7,c7,hv7⟩:=own8.slice
    subst hv7
    clear own own7
    go_wp2
    go_roundw
    case rel=>exact ⟨k+1,B+D,by omega,Hid.mk' Hl.out,by go_num,⟨x7,c7,rfl,own8⟩,hb7⟩
    case measure=>show cnt - ((k:Int)+1).toNat<cnt - (k:Int).toNat;omega
  · have hqe:k=cnt:=by omega
    subst hqe
    have hB:=HB.out
    rw [p1] at hB
    go_wp2
    go_ret
    exact ⟨_,rfl,by rw [←hB];exact own,hb⟩
end Go.Proofs.YtcgkajlehdgpoaaGreatDoor
namespace Go.Proofs.YtcgkajlehdgpoaaGreatDoor
open Go.RowKit
theorem extract_any (v tv:Value) (n m:Nat) (bs t:Nat→Nat) (hbs:∀ j,bs j<256) (ht:∀ j,t j<256) (hnb:n<2305843009213693000) (hm:m<2305843009213693000) (w:World) (hT:HTab w cubeK squareK) (hv:BytesIn w v n bs) (htv:BytesIn w tv m t) :
 Calls Tryz.prog 52 #[v,tv] w fun e w'=>∃ g,e = .returned (.slice (some ⟨g,0,none⟩) 32 32)∧w.heap.size≤g∧RowAt .u8 w' g 0 32 (tagH (keyB n bs) m t)∧Below w.heap.size w w':=by
 have c1:=hmac_any v tv n m bs t hbs ht hnb hm w hT hv htv
 obtain ⟨X,hX⟩:∃ X,X=tagH (keyB n bs) m t:=⟨_,rfl⟩
 rw [←hX] at c1 ⊢
 clear hX hT hv htv
 go_enter Tryz.func52,Tryz.ntmps52
 go_wp2_with (go_at_call 73;refine c1.mono ?_;clear c1;rintro e w1 ⟨g,rfl,hg,hr,hb⟩)
 go_ret
 exact ⟨g,rfl,hg,hr,hb⟩
end Go.Proofs.YtcgkajlehdgpoaaGreatDoor
namespace Go.Proofs.YtcgkajlehdgpoaaGreatDoor
open Go.RowKit
theorem HTab.keep {w w':World} (h:HTab w cubeK squareK) (hb:Below w.heap.size w w'):HTab w' cubeK squareK:=h.below hb h.size
theorem lbT0 (suite label:List Nat) (X:Nat→Nat) (m:Nat) (t:Nat→Nat):catL (lbT suite label 0 X m t)=catL (lxT suite label m t):=by
 funext j
 show cat 0 X (catL (lxT suite label m t)) j=_
 unfold cat
 rw [if_neg (Nat.not_lt_zero j),Nat.sub_zero]
theorem lxT_lt {suite label:List Nat} {m:Nat} {t:Nat→Nat} (hsu:∀ x,x∈suite→x<256) (hla:∀ x,x∈label→x<256) (ht:∀ j,t j<256):∀ j,catL (lxT suite label m t) j<256:=catL_lt _ (by
 intro p hp
 simp only [lxT,List.mem_cons,List.not_mem_nil,or_false] at hp
 rcases hp with rfl | rfl | rfl | rfl
 · exact litB_lt lV1_lt
 · exact litB_lt hsu
 · exact litB_lt hla
 · exact ht)
theorem leT_lt {suite label:List Nat} {m N:Nat} {t:Nat→Nat} (hsu:∀ x,x∈suite→x<256) (hla:∀ x,x∈label→x<256) (ht:∀ j,t j<256):∀ j,catL (leT suite label m t N) j<256 :=
 cat_lt (litB_lt (by intro x hx;simp only [List.mem_cons,List.not_mem_nil,or_false] at hx;omega)) (lxT_lt hsu hla ht)
theorem row_bytes {w:World} {g n:Nat} {X:Nat→Nat} (h0:0<n) (h:RowAt .u8 w g 0 n X):BytesIn w (.slice (some ⟨g,0,none⟩) n n) n X :=
 .inr ⟨g,0,n,rfl,block_lt_of_cell (h 0 h0).1,Nat.le_refl _,fun j hj=>(h j hj).1⟩
set_option maxRecDepth 20000 in
set_option maxHeartbeats 2000000 in
theorem cextract_any (suite label:List Nat) (hsu:∀ x,x∈suite→x<256) (hla:∀ x,x∈label→x<256) (hsz:suite.length+label.length≤100) (sv tv:Value) (sn cnt m:Nat) (salt t:Nat→Nat) (hsalt:∀ j,salt j<256) (ht:∀ j,t j<256) (hsn:sn<140737488355000) (hcnt:cnt<1000000) (hm:m+300<140737488355000) (w:World) (hT:HTab w cubeK squareK) (h1:BytesIn w sv sn salt) (h2:Texts w tv cnt m t) :
 Calls Tryz.prog 29 #[.string (strL suite),sv,.string (strL label),tv] w fun e w'=>∃ s,e = .returned s∧BytesIn w' s 32 (lxN suite sn salt label m t)∧Below w.heap.size w w':=by
 have cl:=labelled_any suite label hsu hla hsz (.slice none 0 0) tv 0 cnt m lZ t (by decide) hcnt hm w (.inl ⟨none,rfl,rfl⟩) h2
 rw [lbT0,show 0+7+suite.length+label.length+m=lenL (lxT suite label m t) by show _=7+(suite.length+(label.length+(m+0)));omega] at cl
 have hL:lenL (lxT suite label m t)<2305843009213693000:=by show 7+(suite.length+(label.length+(m+0)))<_;omega
 have hx:=fun v W hb hv=>extract_any sv v sn (lenL (lxT suite label m t)) salt (catL (lxT suite label m t)) hsalt (lxT_lt hsu hla ht) (by omega) hL W (hT.keep hb) (h1.keep hb) hv
 obtain ⟨N,hN⟩:∃ N,N=lenL (lxT suite label m t):=⟨_,rfl⟩
 obtain ⟨F,hF⟩:∃ F,F=catL (lxT suite label m t):=⟨_,rfl⟩
 obtain ⟨X,hX⟩:∃ T,T=lxN suite sn salt label m t:=⟨_,rfl⟩
 have hX2:tagH (keyB sn salt) N F=X:=by rw [hX,hN,hF];rfl
 rw [←hN,←hF] at cl hx
 rw [hX2] at hx
 rw [←hX]
 generalize strL suite=su at *
 generalize strL label=lb at *
 clear hX hX2 hN hF hL h1 h2 hT
 go_enter Tryz.func29,Tryz.ntmps29
 go_wp2_with (first
  | (go_at_call 51;refine cl.mono ?_;clear cl;rintro e w4 ⟨s4,rfl,own4,b4⟩;(have x4:=hx s4 w4 b4 own4.bytesIn);clear hx)
  | (go_at_call 52;refine x4.mono ?_;clear x4;rintro e w5 ⟨g5,rfl,hg5,r5,hb5⟩))
 go_ret
 exact ⟨_,rfl,row_bytes (by decide) r5,below_next b4 hb5⟩
set_option maxRecDepth 20000 in
set_option maxHeartbeats 2000000 in
theorem cexpand_any (suite label:List Nat) (hsu:∀ x,x∈suite→x<256) (hla:∀ x,x∈label→x<256) (hsz:suite.length+label.length≤100) (pv tv:Value) (pn cnt m N:Nat) (prk t:Nat→Nat) (hN:N≤8160) (hprk:∀ j,prk j<256) (ht:∀ j,t j<256) (hpn:pn<140737488355000) (hcnt:cnt<1000000) (hm:m+300<140737488355000) (w:World) (hT:HTab w cubeK squareK) (h1:BytesIn w pv pn prk) (h2:Texts w tv cnt m t) :
 Calls Tryz.prog 28 #[.string (strL suite),pv,.int .i64 N,.string (strL label),tv] w fun e w'=>∃ s,e = .returned s∧(∃ g,s = .slice (some ⟨g,0,none⟩) N N∧w.heap.size≤g∧RowAt .u8 w' g 0 N (leN suite pn prk label m t N))∧Below w.heap.size w w':=by
 obtain ⟨xp,cp,rfl,-,-,-⟩:=h1.src
 obtain ⟨W0,hW0⟩:∃ W,W=w.alloc (.cells #[.int .u8 ((N / 256%256:Nat):Int),.int .u8 ((N%256:Nat):Int)] 5):=⟨_,rfl⟩
 have hb0:Below w.heap.size w W0:=by rw [hW0];exact (Below.refl _ _).alloc (Nat.le_refl _) _
 have hB0:BytesIn W0 (.slice (some ⟨w.heap.size,0,none⟩) 2 2) 2 (litB [N / 256%256,N%256]):=by rw [hW0];exact litB_B w [N / 256%256,N%256] (0,0)
 have cl:=labelled_any suite label hsu hla hsz _ tv 2 cnt m _ t (by decide) hcnt hm W0 hB0 (h2.keep hb0)
 rw [show 2+7+suite.length+label.length+m=lenL (leT suite label m t N) by show _=2+(7+(suite.length+(label.length+(m+0))));omega] at cl
 replace cl:Calls Tryz.prog 51 #[.string (strL suite),.slice (some ⟨w.heap.size,0,none⟩) 2 2,.string (strL label),tv] W0 fun e w'=>∃ s,e = .returned s∧Own W0.heap.size w' s (lenL (leT suite label m t N)) (catL (leT suite label m t N))∧Below W0.heap.size W0 w':=cl
 have hL:lenL (leT suite label m t N)<2305843009213692000:=by show 2+(7+(suite.length+(label.length+(m+0))))<_;omega
 have hx:=fun x c W hb hv=>expand_any xp x pn (lenL (leT suite label m t N)) cp c prk (catL (leT suite label m t N)) hprk (leT_lt hsu hla ht) (by omega) hL W (hT.keep hb) (h1.keep hb) hv N hN
 obtain ⟨LN,hLN⟩:∃ N',N'=lenL (leT suite label m t N):=⟨_,rfl⟩
 obtain ⟨F,hF⟩:∃ F,F=catL (leT suite label m t N):=⟨_,rfl⟩
 obtain ⟨X,hX⟩:∃ T,T=leN suite pn prk label m t N:=⟨_,rfl⟩
 have hX2:outF (keyB pn prk) LN F N=X:=by rw [hX,hLN,hF];rfl
 rw [←hLN,←hF] at cl hx
 rw [hX2] at hx
 rw [←hX]
 have hW:w.alloc (.cells #[.int .u8 ((N:Int) / 256),.int .u8 ((N:Int)%256)] 5)=W0:=by
  rw [hW0,show ((N / 256%256:Nat):Int)=(N:Int) / 256 by omega,show ((N%256:Nat):Int)=(N:Int)%256 by omega]
 rw [←hW] at cl
 generalize strL suite=su at *
 generalize strL label=lb at *
 rw [←hW] at hb0
 clear hX hX2 hLN hF hL h1 h2 hT hW0 hW hB0
 go_enter Tryz.func28,Tryz.ntmps28
 go_wp2_with (first
  | (go_at_call 51;refine cl.mono ?_;clear cl;rintro e w4 ⟨s4,rfl,own4,hb4⟩;(have b4:=below_next hb0 hb4);(obtain ⟨y4,d4,e4⟩:=own4.slice);subst e4;(have x4:=hx y4 d4 w4 b4 own4.bytesIn);clear hx)
  | (go_at_call 50;refine x4.mono ?_;clear x4;rintro e w5 ⟨g5,rfl,hg5,r5,hb5⟩))
 go_ret
 exact ⟨_,rfl,⟨g5,rfl,Nat.le_trans b4.size hg5,r5⟩,below_next b4 hb5⟩
end Go.Proofs.YtcgkajlehdgpoaaGreatDoor
namespace Go.Proofs.YtcgkajlehdgpoaaGreatDoor
open Go.RowKit
set_option maxRecDepth 20000 in
set_option maxHeartbeats 1000000 in
theorem rexpand_any (suite label:List Nat) (hsu:∀ x,x∈suite→x<256) (hla:∀ x,x∈label→x<256) (hsz:suite.length+label.length≤100) (sv pv iv:Value) (pn m N:Nat) (prk info:Nat→Nat) (hN:N≤8160) (hprk:∀ j,prk j<256) (hinfo:∀ j,info j<256) (hpn:pn<140737488355000) (hm:m+300<140737488355000) (w:World) (h1:BytesIn w sv suite.length (litB suite)) (h2:BytesIn w pv pn prk) (h3:BytesIn w iv m info) :
 Calls Tryz.prog 31 #[sv,pv,.string (strL label),iv,.int .i64 N] w fun e w'=>∃ s,e = .returned s∧BytesIn w' s N (leN suite pn prk label m info N)∧Below w.heap.size w w':=by
 obtain ⟨xs,cs,rfl,-,-,-⟩:=h1.src
 obtain ⟨xi,ci,rfl,-,-,-⟩:=h3.src
 obtain ⟨W0,hW0⟩:∃ W,W=w.alloc (.cells #[.int .u8 ((N / 256%256:Nat):Int),.int .u8 ((N%256:Nat):Int)] 5):=⟨_,rfl⟩
 have hb0:Below w.heap.size w W0:=by rw [hW0];exact (Below.refl _ _).alloc (Nat.le_refl _) _
 have hB0:BytesIn W0 (.slice (some ⟨w.heap.size,0,none⟩) 2 2) 2 (litB [N / 256%256,N%256]):=by rw [hW0];exact litB_B w [N / 256%256,N%256] (0,0)
 have hc:(convert 22 22 (.slice (some ⟨W0.heap.size,0,none⟩) 7 7)).run Tryz.prog (W0.alloc (.cells #[.int .u8 72,.int .u8 80,.int .u8 75,.int .u8 69,.int .u8 45,.int .u8 118,.int .u8 49] 5)) = .ok (.slice (some ⟨W0.heap.size,0,none⟩) 7 7) (W0.alloc (.cells #[.int .u8 72,.int .u8 80,.int .u8 75,.int .u8 69,.int .u8 45,.int .u8 118,.int .u8 49] 5 (7,8))):=convC W0 lV1
 have hb1:Below W0.heap.size W0 (W0.alloc (.cells #[.int .u8 72,.int .u8 80,.int .u8 75,.int .u8 69,.int .u8 45,.int .u8 118,.int .u8 49] 5 (7,8))):=(Below.refl _ _).alloc (Nat.le_refl _) _
 have hB1:BytesIn (W0.alloc (.cells #[.int .u8 72,.int .u8 80,.int .u8 75,.int .u8 69,.int .u8 45,.int .u8 118,.int .u8 49] 5 (7,8))) (.slice (some ⟨W0.heap.size,0,none⟩) 7 7) 7 (litB lV1):=litB_B W0 lV1 (7,8)
 obtain ⟨W1,hW1⟩:∃ W,W=W0.alloc (.cells #[.int .u8 72,.int .u8 80,.int .u8 75,.int .u8 69,.int .u8 45,.int .u8 118,.int .u8 49] 5 (7,8)):=⟨_,rfl⟩
 rw [←hW1] at hc hb1 hB1
 obtain ⟨c3,W2,hcl,hB2,hb2⟩:=conv_label W1 label hla
 have hb02:=below_next (below_next hb0 hb1) hb2
 have hP:=parts_list W2 [(.slice (some ⟨w.heap.size,0,none⟩) 2 2,2,litB [N / 256%256,N%256]),(.slice (some ⟨W0.heap.size,0,none⟩) 7 7,7,litB lV1),(.slice xs suite.length cs,suite.length,litB suite),(.slice (some ⟨W1.heap.size,0,none⟩) label.length c3,label.length,litB label),(.slice xi m ci,m,info)] 22 (by
  intro p hp
  simp only [List.mem_cons,List.not_mem_nil,or_false] at hp
  rcases hp with rfl | rfl | rfl | rfl | rfl
  · exact (hB0.keep hb1).keep hb2
  · exact hB1.keep hb2
  · exact h1.keep hb02
  · exact hB2
  · exact h3.keep hb02)
 have hb3:Below w.heap.size w (W2.alloc (.cells #[.slice (some ⟨w.heap.size,0,none⟩) 2 2,.slice (some ⟨W0.heap.size,0,none⟩) 7 7,.slice xs suite.length cs,.slice (some ⟨W1.heap.size,0,none⟩) label.length c3,.slice xi m ci] 22)):=hb02.alloc hb02.size _
 have hL:lenL (leT suite label m info N)=2+(7+(suite.length+(label.length+(m+0)))):=rfl
 have hlt:∀ j,catL (leT suite label m info N) j<256:=catL_lt _ (by
  intro p hp
  simp only [leT,lxT,List.mem_cons,List.not_mem_nil,or_false] at hp
  rcases hp with rfl | rfl | rfl | rfl | rfl
  · exact litB_lt (by intro x hx;simp only [List.mem_cons,List.not_mem_nil,or_false] at hx;omega)
  · exact litB_lt lV1_lt
  · exact litB_lt hsu
  · exact litB_lt hla
  · exact hinfo)
 have hj:=rjoin_any W2.heap.size 5 5 (lenL (leT suite label m info N)) (catL (leT suite label m info N)) (by rw [hL];omega) (by decide) _ hP
 have hx:=fun v W hb hv=>rExpand_any pv v pn (lenL (leT suite label m info N)) prk (catL (leT suite label m info N)) hprk hlt hpn (by rw [hL];omega) W (h2.keep hb) hv N hN
 replace hj:Calls Tryz.prog 40 #[.slice (some ⟨W2.heap.size,0,none⟩) 5 5] (W2.alloc (.cells #[.slice (some ⟨w.heap.size,0,none⟩) 2 2,.slice (some ⟨W0.heap.size,0,none⟩) 7 7,.slice xs suite.length cs,.slice (some ⟨W1.heap.size,0,none⟩) label.length c3,.slice xi m ci] 22)) _:=hj
 obtain ⟨LN,hLN⟩:∃ N',N'=lenL (leT suite label m info N):=⟨_,rfl⟩
 obtain ⟨F,hF⟩:∃ F,F=catL (leT suite label m info N):=⟨_,rfl⟩
 obtain ⟨T,hT⟩:∃ T,T=leN suite pn prk label m info N:=⟨_,rfl⟩
 have hT2:outF (keyB pn prk) LN F N=T:=by rw [hT,hLN,hF];rfl
 rw [←hLN,←hF] at hj hx
 rw [hT2] at hx
 rw [←hT]
 obtain ⟨S,hS⟩:∃ S,S=strL label:=⟨_,rfl⟩
 rw [←hS] at hcl ⊢
 have hz:W0.heap.size=w.heap.size+1:=by rw [hW0,World.size_alloc]
 have hW:w.alloc (.cells #[.int .u8 ((N:Int) / 256),.int .u8 ((N:Int)%256)] 5)=W0:=by
  rw [hW0,show ((N / 256%256:Nat):Int)=(N:Int) / 256 by omega,show ((N%256:Nat):Int)=(N:Int)%256 by omega]
 rw [hz] at hc hb3 hj
 rw [←hW] at hc
 clear hP hB0 hB1 hB2 hL hlt hLN hF hT hT2 hS hW0 hW1 hW hz hb0 hb1 hb2 h1 h3
 go_enter Tryz.func31,Tryz.ntmps31
 go_wp2_with (first
  | rw [hc]
  | rw [hcl]
  | (go_at_call 40;refine hj.mono ?_;clear hj;rintro e w4 ⟨s4,rfl,own4,hb4⟩;(have b4:=below_next hb3 hb4))
  | (go_at_call 56;refine (hx s4 _ b4 own4.bytesIn).mono ?_;clear hx;rintro e w5 ⟨s5,rfl,own5,hb5⟩))
 go_ret
 exact ⟨s5,rfl,own5,below_next b4 hb5⟩
end Go.Proofs.YtcgkajlehdgpoaaGreatDoor
namespace Go.Proofs.YtcgkajlehdgpoaaGreatDoor
open Go.RowKit
abbrev jD (n:Nat):Edge:={ on:=n,ground:=Ground.data }
abbrev jC (n:Nat):Edge:={ on:=n,ground:=Ground.chain }
abbrev jP (n:Nat):Edge:={ on:=n,ground:=Ground.phase }
abbrev jT (n:Nat):Edge:={ on:=n,ground:=Ground.textOnly Departure.lateStores }
abbrev jO (n:Nat):Edge:={ on:=n,ground:=Ground.gcOnly Departure.lateStores }
abbrev jU (n:Nat):Edge:={ on:=n,ground:=Ground.textOnly Departure.lateStoresUnsure }
abbrev oN (d:Nat) (o:Op) (t:TypeId) (p:String) (a:Array Edge):Oper:={ dst:=some d,op:=o,type:=t,pos:=p,after:=a,guard:=none }
abbrev oS (o:Op) (p:String) (a:Array Edge):Oper:={ dst:=none,op:=o,type:=0,pos:=p,after:=a,guard:=none }
abbrev cF1 (f:FuncId) (a:Array Operand) (t:Array TypeId):Op:=Op.call { callee:=Callee.value (Operand.func f),args:=a,argTypes:=t }
abbrev oT (k:Nat):Operand:=Operand.tmp k
abbrev pA (g o:Nat):Value := .pointer (some ⟨g,o,none⟩)
theorem pS:(∀ (a:Act) (d:Nat) (v:Value),a.put (some d) v={ a with tmps:=a.tmps.setIfInBounds d v })∧(∀ (l:List Value) (i:Nat) (v:Value),l.toArray.setIfInBounds i v=(l.set i v).toArray)∧(∀ (x:Value) (l:List Value) (v:Value),(x :: l).set 0 v=v :: l)∧(∀ (x:Value) (l:List Value) (n:Nat) (v:Value),(x :: l).set (n+1) v=x :: l.set n v) :=
 ⟨fun _ _ _=>rfl,fun _ _ _=>List.setIfInBounds_toArray ..,fun _ _ _=>rfl,fun _ _ _ _=>rfl⟩
section
variable {P:Program} {md:Region.Mode} {ops:Array Oper} {Q:Exit→Act→World→Prop} {S:World→Prop} {fuel:Nat} {listed:Array Bool} {a:Act} {w:World}
theorem tkH (i:Nat) (oi:Oper) (v:Value) (hS:S w) (hy:YieldsIf P ops S oi v a)
 (h:wpAnyH P md ops Q S fuel (listed.setIfInBounds i true) (a.put oi.dst v) w) (hQ:∀ c a w,Q (.panic c) (a.put oi.dst v) w→Q (.panic c) a w:=by exact fun _ _ _ h=>h) (hi:ops[i]? = some oi:=by rfl) (hs:Region.noSelect ops=true:=by kernel_rfl) (hf:Region.free md ops listed i=true:=by kernel_rfl) (hr:(Region.ready md ops listed).contains i=true:=by kernel_rfl):wpAnyH P md ops Q S (fuel+1) listed a w :=
 wpAnyH_take hi hs hf hr hQ hy hS h
theorem bR {w:World}:Below w.heap.size w w:=Below.refl _ _
theorem yR {o:Oper} {v:Value} (hw:Region.wanted o (yielded ops a.tmps)=true:=by rfl) (hr:∀ w,(execOp a.eval o).run P w = .ok (.value v) w:=by intro _;kernel_rfl):YieldsIf P ops S o v a := .inl ⟨hw,fun w _=>hr w⟩
theorem ldH {V:World} {o:Oper} {g off:Nat} {cs:List Value} (h:RW V g off cs) (ty k:Nat) {d:TypeDesc} (hu:P.underlying ty=some d) (hi:(P.info? ty).map (·.size)=some cs.length) (hd:d.isRow=true:=by rfl) (hw:Region.wanted o (yielded ops a.tmps)=true:=by rfl) (ho:o.op = .load ty (.tmp k):=by rfl) (hx:a.eval (.tmp k) = .pointer (some ⟨g,off,none⟩):=by rfl):YieldsIf P ops (fun w'=>Below V.heap.size V w') o (.agg cs.toArray) a :=
 yieldsIf_load_mid hw ty _ ho g off hx cs d (fun _ hb=>(h.still hb).range) hu hd hi
theorem ldO {V:World} {o:Oper} {g off b p n:Nat} {cs:List Value} (h:RW V g off cs) (hne:g≠b) (ty k:Nat) {d:TypeDesc} (hu:P.underlying ty=some d) (hi:(P.info? ty).map (·.size)=some cs.length) (hd:d.isRow=true:=by rfl) (hw:Region.wanted o (yielded ops a.tmps)=true:=by rfl) (ho:o.op = .load ty (.tmp k):=by rfl) (hx:a.eval (.tmp k) = .pointer (some ⟨g,off,none⟩):=by rfl):YieldsIf P ops (fun w'=>Out b p n V w') o (.agg cs.toArray) a :=
 yieldsIf_load_mid hw ty _ ho g off hx cs d (fun _ hb=>(h.out hb hne).range) hu hd hi
theorem arC {i:Nat} {rs:List Nat} (oi:Oper) {f:FuncId} {args:Array Value} {R:Ending→World→Prop} (c:Calls P f args w R) (h:∀ e w',R e w'→∃ r,e = .returned r∧S w'∧wpAnyH P md ops Q S fuel (listed.setIfInBounds i true) (a.put oi.dst r) w') (hs:AllReadyH P md ops Q S fuel listed a w rs)
 (hi:ops[i]? = some oi:=by rfl) (hw:Region.wanted oi (yielded ops a.tmps)=true:=by rfl) (hrun:(execOp a.eval oi).run P w = .ok (.enter f args) w:=by kernel_rfl):AllReadyH P md ops Q S fuel listed a w (i :: rs):=by
 refine AllReadyH.cons hi (fun K hK => ?_) hs
 rw [if_pos hw]
 unfold Oper.wp
 rw [hrun,Oper.upon_enter]
 refine c.mono fun e w' hR => ?_
 obtain ⟨r,rfl,hS,hk⟩:=h e w' hR
 exact hK.out _ _ hS (fun _=>hk)
theorem callH (i:Nat) (oi:Oper) {f:FuncId} {args:Array Value} {R:Ending→World→Prop} (c:Calls P f args w R) (h:∀ e w',R e w'→∃ r,e = .returned r∧S w'∧wpAnyH P md ops Q S fuel (listed.setIfInBounds i true) (a.put oi.dst r) w')
 (hr:Region.ready md ops listed=[i]:=by kernel_rfl) (hi:ops[i]? = some oi:=by rfl) (hw:Region.wanted oi (yielded ops a.tmps)=true:=by rfl) (hrun:(execOp a.eval oi).run P w = .ok (.enter f args) w:=by kernel_rfl):wpAnyH P md ops Q S (fuel+1) listed a w :=
 wpAnyH_ready hr (by simp) (arC oi c h AllReadyH.nil hi hw hrun)
theorem callN (i:Nat) (oi:Oper) {f:FuncId} {args:Array Value} {R:Ending→World→Prop} (c:Calls P f args w R) (h:∀ e w',R e w'→∃ r,e = .returned r∧Below w.heap.size w w'∧wpAnyH P md ops Q (fun u=>Below w'.heap.size w' u) fuel (listed.setIfInBounds i true) (a.put oi.dst r) w')
 (hr:Region.ready md ops listed=[i]:=by kernel_rfl) (hi:ops[i]? = some oi:=by rfl) (hw:Region.wanted oi (yielded ops a.tmps)=true:=by rfl) (hrun:(execOp a.eval oi).run P w = .ok (.enter f args) w:=by kernel_rfl):wpAnyH P md ops Q (fun u=>Below w.heap.size w u) (fuel+1) listed a w :=
 callH i oi c (fun e w' hR=>by
  obtain ⟨r,he,hb,hk⟩:=h e w' hR
  exact ⟨r,he,hb,wpAnyH_narrow (fun _ hu=>below_next hb hu) _ _ _ _ hk⟩) hr hi hw hrun
theorem dag_root (h:∀ G:Nat→Array Bool→Act→World→Prop,G=wpAnyH P md ops Q S→G fuel listed a w):wpAnyH P md ops Q S fuel listed a w:=h _ rfl
theorem dagW {G:Nat→Array Bool→Act→World→Prop} (hG:Hid (G=wpAnyH P md ops Q S)) {f:Nat} {l:Array Bool} {b:Act} (h:G f l b w) (hb:b=a) (hf:f=fuel:=by kernel_rfl) (hl:l=listed:=by kernel_rfl):wpAnyH P md ops Q S fuel listed a w:=by
 subst hf;subst hl;subst hb;rw [←hG.out];exact h
theorem at_list {i:Nat} {oi:Oper} (hi:ops.toList[i]? = some oi):ops[i]? = some oi:=by rw [←Array.getElem?_toList];exact hi
theorem tg (i:Nat) (hS:S w) {oi:Oper} {v:Value} (h:wpAnyH P md ops Q S fuel (listed.setIfInBounds i true) (a.put oi.dst v) w) (hi:ops.toList[i]? = some oi:=by rfl)
 (hy:∀ w,S w→(execOp a.eval oi).run P w = .ok (.value v) w:=by intro w hSw;go_simp;try with_reducible rfl) (hw:Region.wanted oi (yielded ops a.tmps)=true:=by rfl)
 (hQ:∀ c b w,Q (.panic c) (b.put oi.dst v) w→Q (.panic c) b w:=by exact fun _ _ _ h=>h) (hs:Region.noSelect ops=true:=by kernel_rfl) (hf:Region.free md ops listed i=true:=by kernel_rfl) (hr:(Region.ready md ops listed).contains i=true:=by kernel_rfl):wpAnyH P md ops Q S (fuel+1) listed a w :=
 tkH i oi v hS (.inl ⟨hw,hy⟩) h hQ (at_list hi) hs hf hr
theorem tc (i:Nat) (hS:S w) {oi:Oper} {g o:Nat} {v:Value} (hc:∀ u,S u→u.cell? ⟨g,o,none⟩=some v) (h:wpAnyH P md ops Q S fuel (listed.setIfInBounds i true) (a.put oi.dst v) w) (hi:ops.toList[i]? = some oi:=by rfl)
 (hy:∀ w,w.cell? ⟨g,o,none⟩=some v→(execOp a.eval oi).run P w = .ok (.value v) w:=by intro w hc;go_simp;try with_reducible rfl) (hw:Region.wanted oi (yielded ops a.tmps)=true:=by rfl)
 (hQ:∀ c b w,Q (.panic c) (b.put oi.dst v) w→Q (.panic c) b w:=by exact fun _ _ _ h=>h) (hs:Region.noSelect ops=true:=by kernel_rfl) (hf:Region.free md ops listed i=true:=by kernel_rfl) (hr:(Region.ready md ops listed).contains i=true:=by kernel_rfl):wpAnyH P md ops Q S (fuel+1) listed a w :=
 tkH i oi v hS (.inl ⟨hw,fun u hu=>hy u (hc u hu)⟩) h hQ (at_list hi) hs hf hr
theorem tl (i:Nat) {V:World} {oi:Oper} {g off k:Nat} {cs:List Value} (r:RW V g off cs) (hS:Below V.heap.size V w) (ty:Nat) {d:TypeDesc} (hu:P.underlying ty=some d) (hin:(P.info? ty).map (·.size)=some cs.length)
 (h:wpAnyH P md ops Q (fun u=>Below V.heap.size V u) fuel (listed.setIfInBounds i true) (a.put oi.dst (.agg cs.toArray)) w) (hi:ops.toList[i]? = some oi:=by rfl) (ho:oi.op = .load ty (.tmp k):=by rfl)
 (hd:d.isRow=true:=by rfl) (hw:Region.wanted oi (yielded ops a.tmps)=true:=by rfl) (hx:a.eval (.tmp k) = .pointer (some ⟨g,off,none⟩):=by rfl)
 (hQ:∀ c b w,Q (.panic c) (b.put oi.dst (.agg cs.toArray)) w→Q (.panic c) b w:=by exact fun _ _ _ h=>h) (hs:Region.noSelect ops=true:=by kernel_rfl) (hf:Region.free md ops listed i=true:=by kernel_rfl) (hr:(Region.ready md ops listed).contains i=true:=by kernel_rfl):wpAnyH P md ops Q (fun u=>Below V.heap.size V u) (fuel+1) listed a w :=
 tkH i oi _ hS (ldH r ty k hu hin hd hw ho hx) h hQ (at_list hi) hs hf hr
theorem cl (i:Nat) {oi:Oper} {f:FuncId} {args:Array Value} {R:Ending→World→Prop} (c:Calls P f args w R) (h:∀ e w',R e w'→∃ r,e = .returned r∧S w'∧wpAnyH P md ops Q S fuel (listed.setIfInBounds i true) (a.put oi.dst r) w')
 (hi:ops.toList[i]? = some oi:=by rfl) (hr:Region.ready md ops listed=[i]:=by kernel_rfl) (hw:Region.wanted oi (yielded ops a.tmps)=true:=by rfl) (hrun:(execOp a.eval oi).run P w = .ok (.enter f args) w:=by kernel_rfl):wpAnyH P md ops Q S (fuel+1) listed a w :=
 callH i oi c h hr (at_list hi) hw hrun
theorem cn (i:Nat) {oi:Oper} {f:FuncId} {args:Array Value} {R:Ending→World→Prop} (c:Calls P f args w R) (h:∀ e w',R e w'→∃ r,e = .returned r∧Below w.heap.size w w'∧wpAnyH P md ops Q (fun u=>Below w'.heap.size w' u) fuel (listed.setIfInBounds i true) (a.put oi.dst r) w')
 (hi:ops.toList[i]? = some oi:=by rfl) (hr:Region.ready md ops listed=[i]:=by kernel_rfl) (hw:Region.wanted oi (yielded ops a.tmps)=true:=by rfl) (hrun:(execOp a.eval oi).run P w = .ok (.enter f args) w:=by kernel_rfl):wpAnyH P md ops Q (fun u=>Below w.heap.size w u) (fuel+1) listed a w :=
 callN i oi c h hr (at_list hi) hw hrun
theorem tk (i:Nat) (v:Value) (hS:S w) {oi:Oper} (hi:ops.toList[i]? = some oi:=by rfl) (hy:YieldsIf P ops S oi v a) (h:wpAnyH P md ops Q S fuel (listed.setIfInBounds i true) (a.put oi.dst v) w)
 (hQ:∀ c b w,Q (.panic c) (b.put oi.dst v) w→Q (.panic c) b w:=by exact fun _ _ _ h=>h) (hs:Region.noSelect ops=true:=by kernel_rfl) (hf:Region.free md ops listed i=true:=by kernel_rfl) (hr:(Region.ready md ops listed).contains i=true:=by kernel_rfl):wpAnyH P md ops Q S (fuel+1) listed a w :=
 tkH i oi v hS hy h hQ (at_list hi) hs hf hr
end
end Go.Proofs.YtcgkajlehdgpoaaGreatDoor
namespace Go.Proofs.YtcgkajlehdgpoaaGreatDoor
open Go.RowKit
def IRow (w:World) (g n:Nat) (L:Nat→Int):Prop:=∀ j,j<n→w.cell? ⟨g,j,none⟩=some (.int .i64 (L j))∧w.frozen? ⟨g,j,none⟩=false
def intsI (n:Nat) (L:Nat→Int):List Value:=(List.range n).map fun j => .int .i64 (L j)
theorem intsI_len (n:Nat) (L:Nat→Int):(intsI n L).length=n:=by simp [intsI]
theorem intsI_size (n:Nat) (L:Nat→Int):(intsI n L).toArray.size=n:=by simp [intsI]
theorem intsI_at (n:Nat) (L:Nat→Int) (j:Nat) (h:j<n):(intsI n L)[j]? = some (.int .i64 (L j)):=by simp [intsI,h]
theorem intsI_one (n:Nat) (L:Nat→Int):∀ v∈intsI n L,v.oneCell'=true:=fun v hv=>by
 simp only [intsI,List.mem_map] at hv
 obtain ⟨j,_,rfl⟩:=hv
 rfl
def refV (L:Nat→Int):Value := .agg (intsI 16 L).toArray
theorem IRow.below {B:Nat} {w w':World} {g n:Nat} {L:Nat→Int} (h:IRow w g n L) (hb:Below B w w') (hB:g<B):IRow w' g n L:=fun j hj =>
 ⟨(hb.cell (p:=⟨g,j,none⟩) hB).trans (h j hj).1,(hb.frozen (p:=⟨g,j,none⟩) hB).trans (h j hj).2⟩
theorem IRow.congr {w:World} {g n:Nat} {L M:Nat→Int} (h:IRow w g n L) (e:∀ j,j<n→L j=M j):IRow w g n M:=fun j hj=>by rw [←e j hj];exact h j hj
theorem IRow.drew {w:World} {g n:Nat} {L:Nat→Int} (h:IRow w g n L):IRow w.drew g n L:=fun j hj=>h j hj
def updI (L:Nat→Int) (i:Nat) (v:Int):Nat→Int:=fun j=>if j=i then v else L j
theorem IRow.set {w:World} {g n:Nat} {L:Nat→Int} (h:IRow w g n L) {i:Nat} (hi:i<n) (v:Int):IRow (w.setCell ⟨g,i,none⟩ (.int .i64 v)) g n (updI L i v):=fun j hj=>by
 obtain ⟨h1,h2⟩:=h j hj
 by_cases e:j=i
 · subst e
   refine ⟨?_,?_⟩
   · have:=World.rangeAt_setCells_same w g j [.int .i64 v] (fun k hk=>by
      have:k=0:=by simpa using hk
      subst this
      rw [Nat.add_zero,h1];exact ⟨rfl,h2⟩) 0 _ rfl
     simp only [updI,if_true]
     exact this
   · exact (World.frozen?_setCells g [.int .i64 v] j w _).trans h2
 · refine ⟨?_,(World.frozen?_setCells g [.int .i64 v] i w _).trans h2⟩
   simp only [updI,if_neg e]
   rw [←h1]
   exact World.cell?_setCells_out g [.int .i64 v] i w _ (fun _ _=>by show j<i∨i+1≤j;omega)
theorem IRow.far {w:World} {g n:Nat} {L:Nat→Int} (h:IRow w g n L) {a:Addr} (ha:a.block≠g) (v:Value):IRow (w.setCell a v) g n L:=fun j hj=>by
 have hk:(w.setCell a v).heap[g]? = w.heap[g]?:=Below.heap_setCell w a v g (Ne.symm ha)
 exact ⟨(World.cell?_of_block (w:=w) hk).trans (h j hj).1,(World.frozen?_of_block (w:=w) hk).trans (h j hj).2⟩
theorem IRow.range {w:World} {g n:Nat} {L:Nat→Int} (h:IRow w g n L):w.rangeAt g 0 (intsI n L):=fun j v hv=>by
 have hj:j<n:=by have:=(List.getElem?_eq_some_iff.1 hv).1;rwa [intsI_len] at this
 rw [intsI_at _ _ j hj] at hv
 cases hv
 rw [Nat.zero_add];exact (h j hj).1
theorem IRow.there {w:World} {g n:Nat} {L:Nat→Int} (h:IRow w g n L):w.there g 0 n:=fun j hj=>by
 rw [Nat.zero_add,(h j hj).1];exact ⟨rfl,(h j hj).2⟩
theorem IRow.fresh (w:World) (cs:Array Value) (t:TypeId) {n:Nat} {L:Nat→Int} (h:∀ j,j<n→cs[j]? = some (.int .i64 (L j))):IRow (w.alloc (.cells cs t)) w.heap.size n L:=fun j hj=>by
 refine ⟨?_,by simp⟩
 have:=h j hj
 simp [this]
theorem IRow.box (w:World) (n:Nat) (L:Nat→Int) (t:TypeId):IRow (w.alloc (.cells (intsI n L).toArray t)) w.heap.size n L:=IRow.fresh w _ t (fun j hj=>by rw [List.getElem?_toArray];exact intsI_at n L j hj)
theorem IRow.stored {w:World} {g n:Nat} {M L:Nat→Int} (h:IRow w g n M):IRow (w.setCells g 0 (intsI n L)) g n L:=fun j hj=>by
 have hr:=World.rangeAt_setCells_same w g 0 (intsI n L) (by rw [intsI_len];exact h.there)
 refine ⟨?_,(World.frozen?_setCells g (intsI n L) 0 w _).trans (h j hj).2⟩
 have:=hr j _ (intsI_at n L j hj)
 rwa [Nat.zero_add] at this
theorem IRow.farCells {w:World} {g n:Nat} {L:Nat→Int} (h:IRow w g n L) {k:Nat} (hk:g≠k) (o:Nat) (vs:List Value):IRow (w.setCells k o vs) g n L:=fun j hj=>by
 have hb:(w.setCells k o vs).heap[g]? = w.heap[g]?:=heap_setCells_other k vs o w g hk
 exact ⟨(World.cell?_of_block (w:=w) hb).trans (h j hj).1,(World.frozen?_of_block (w:=w) hb).trans (h j hj).2⟩
end Go.Proofs.YtcgkajlehdgpoaaGreatDoor
namespace Go.Proofs.YtcgkajlehdgpoaaGreatDoor
open Go.RowKit Go.Lib
def pF:Nat:=57896044618658097711785492504343953926634992332820282019728792003956564819949
set_option maxHeartbeats 1000000 in
theorem addProduct_any (t x y c:Nat) (ht:t<18446744073709551616) (hx:x<18446744073709551616) (hy:y<18446744073709551616) (hc:c<18446744073709551616) :
 ∃ l h:Nat,l<18446744073709551616∧h<18446744073709551616∧l+18446744073709551616*h=t+x*y+c∧∀ w,Calls Tryz.prog 179 #[.int .u64 t,.int .u64 x,.int .u64 y,.int .u64 c] w fun e w'=>e = .returned (.tuple #[.int .u64 l,.int .u64 h])∧w'=w:=by
 obtain ⟨h0,l0,hh0,hl0,e0,r0⟩:=mul64_ex x y hx hy
 obtain ⟨l1,k1,hl1,hk1,e1,r1⟩:=add64_ex0 l0 t hl0 ht
 obtain ⟨l2,k2,hl2,hk2,e2,r2⟩:=add64_ex0 l1 c hl1 hc
 have hxy:x*y≤18446744073709551615*18446744073709551615:=Nat.mul_le_mul (by omega) (by omega)
 obtain ⟨P,hP⟩:∃ P,P=x*y:=⟨_,rfl⟩
 rw [←hP] at e0 hxy ⊢
 clear hP
 refine ⟨l2,h0+k1+k2,hl2,by omega,by omega,fun w => ?_⟩
 have r0':=r0 w
 have b1:h0+k1<18446744073709551616:=by omega
 have b2:h0+k1+k2<18446744073709551616:=by omega
 clear e0 e1 e2 r0 hxy
 go_enter Tryz.func179,Tryz.ntmps179
 go_wp2_with (first
  | (go_at_call 187;refine r0'.mono ?_;rintro e w' ⟨rfl,rfl⟩)
  | rw [r1] | rw [r2])
 go_ret2
 exact ⟨rfl,rfl⟩
set_option maxHeartbeats 1000000 in
theorem addSmall_any (a b c d x:Nat) (ha:a<18446744073709551616) (hb:b<18446744073709551616) (hc:c<18446744073709551616) (hd:d<18446744073709551615) (hx:x<18446744073709551616) :
 ∃ s0 s1 s2 s3:Nat,s0<18446744073709551616∧s1<18446744073709551616∧s2<18446744073709551616∧s3<18446744073709551616∧val4 s0 s1 s2 s3=val4 a b c d+x∧∀ w,Calls Tryz.prog 151 #[.int .u64 a,.int .u64 b,.int .u64 c,.int .u64 d,.int .u64 x] w fun e w'=>e = .returned (.tuple #[.int .u64 s0,.int .u64 s1,.int .u64 s2,.int .u64 s3])∧w'=w:=by
 obtain ⟨s0,k0,hs0,hk0,e0,r0⟩:=add64_ex0 a x ha hx
 obtain ⟨s1,k1,hs1,hk1,e1,r1⟩:=add64_exz b k0 hb hk0
 obtain ⟨s2,k2,hs2,hk2,e2,r2⟩:=add64_exz c k1 hc hk1
 have b3:d+k2<18446744073709551616:=by omega
 refine ⟨s0,s1,s2,d+k2,hs0,hs1,hs2,b3,by unfold val4;omega,fun w => ?_⟩
 clear e0 e1 e2
 go_enter Tryz.func151,Tryz.ntmps151
 go_wp2_with (first | rw [r0] | rw [r1] | rw [r2])
 (try simp only [Exit.inBlock,Exit.then])
 refine bodyPost_ret (results_tmp4 rfl _ _ _) rfl ?_
 exact ⟨rfl,rfl⟩
theorem over_bits (top d:Nat) (ht:top≤38) (hd:d<18446744073709551616):bits .or .u64 ((top:Int)*2) ((d:Int) / 9223372036854775808)=((top*2+d / 9223372036854775808:Nat):Int):=by
 have e1:(top:Int)*2=((top*2:Nat):Int):=by omega
 have e2:(d:Int) / 9223372036854775808=((d / 9223372036854775808:Nat):Int):=by omega
 rw [e1,e2,bits_or_u64_nat _ _ (by omega) (by omega)]
 have h1:d / 9223372036854775808=0∨d / 9223372036854775808=1:=by omega
 congr 1
 rcases h1 with h | h <;> rw [h]
 · simp
 · have key:∀ k,k<39→k*2 ||| 1=k*2+1:=by decide
   exact key top (by omega)
theorem settle_val (V V' S M T o:Nat) (hV:V=V'+57896044618658097711785492504343953926634992332820282019728792003956564819968*o) (hS:S=V'+(T*2+o)*19) (hV':V'<57896044618658097711785492504343953926634992332820282019728792003956564819968) (hT:T≤38) (ho:o≤1) (hM:M=S+19) :
 (M<57896044618658097711785492504343953926634992332820282019728792003956564819968→(V+115792089237316195423570985008687907853269984665640564039457584007913129639936*T)%pF=S)∧(57896044618658097711785492504343953926634992332820282019728792003956564819968≤M→(V+115792089237316195423570985008687907853269984665640564039457584007913129639936*T)%pF=M - 57896044618658097711785492504343953926634992332820282019728792003956564819968):=by
 have key:V+115792089237316195423570985008687907853269984665640564039457584007913129639936*T=S+pF*(T*2+o):=by unfold pF;omega
 rw [key,Nat.add_mul_mod_self_left]
 unfold pF
 constructor <;> intro h <;> omega
theorem rm19 {f:FuncId} {a b c d:Value} {Q:Ending→World→Prop} {w:World} (h:Calls Tryz.prog f #[a,b,c,d,.int .u64 ((19:Nat):Int)] w Q):Calls Tryz.prog f #[a,b,c,d,.int .u64 19] w Q:=h
set_option maxRecDepth 20000 in
set_option maxHeartbeats 1000000 in
theorem settle_any (a b c d t:Nat) (ha:a<18446744073709551616) (hb:b<18446744073709551616) (hc:c<18446744073709551616) (hd:d<18446744073709551616) (ht:t≤38) (w:World) :
 Calls Tryz.prog 122 #[.int .u64 a,.int .u64 b,.int .u64 c,.int .u64 d,.int .u64 t] w fun e w'=>e = .returned (numV ((val4 a b c d+115792089237316195423570985008687907853269984665640564039457584007913129639936*t)%pF))∧Below w.heap.size w w':=by
 obtain ⟨s0,s1,s2,s3,h0,h1,h2,h3,es,rs⟩:=addSmall_any a b c (d%9223372036854775808) ((t*2+d / 9223372036854775808)*19) ha hb hc (by omega) (by omega)
 have hs3:s3<9223372036854775809:=by unfold val4 at es;omega
 obtain ⟨m0,m1,m2,m3,g0,g1,g2,g3,em,rm⟩:=addSmall_any s0 s1 s2 s3 19 h0 h1 h2 (by omega) (by decide)
 obtain ⟨f1,f2⟩:=settle_val (val4 a b c d) (val4 a b c (d%9223372036854775808)) (val4 s0 s1 s2 s3) (val4 m0 m1 m2 m3) t (d / 9223372036854775808) (by unfold val4;omega) es (by unfold val4;omega) ht (by omega) em
 obtain ⟨N,hN⟩:∃ N,N=(val4 a b c d+115792089237316195423570985008687907853269984665640564039457584007913129639936*t)%pF:=⟨_,rfl⟩
 rw [←hN] at f1 f2 ⊢
 have o1:=over_bits t d ht hd
 obtain ⟨ox,hox⟩:∃ ox,ox=t*2+d / 9223372036854775808:=⟨_,rfl⟩
 obtain ⟨dl,hdl⟩:∃ dl,dl=d%9223372036854775808:=⟨_,rfl⟩
 obtain ⟨ml,hml⟩:∃ ml,ml=m3%9223372036854775808:=⟨_,rfl⟩
 have hox77:ox≤77:=by omega
 rw [←hox,←hdl] at rs
 rw [←hox] at o1
 have o2:=mask63 d hd
 have o3:=mask63 m3 g3
 rw [←hdl] at o2
 rw [←hml] at o3
 obtain ⟨ov,hov⟩:∃ ov,ov=ox*19:=⟨_,rfl⟩
 rw [←hov] at rs
 have o4:(ox:Int)*19=(ov:Int):=by omega
 have hmll:ml<18446744073709551616:=by omega
 have fin1:m3 > 9223372036854775807→(Value.agg #[.int .u64 m0,.int .u64 m1,.int .u64 m2,.int .u64 ml]:Value)=numV N:=fun hm=>numV_of N m0 m1 m2 ml g0 g1 g2 (by omega) (by rw [f2 (by unfold val4;omega)];unfold val4;omega)
 have fin2:¬m3 > 9223372036854775807→(Value.agg #[.int .u64 s0,.int .u64 s1,.int .u64 s2,.int .u64 s3]:Value)=numV N:=fun hm=>numV_of N s0 s1 s2 s3 h0 h1 h2 (by omega) (by rw [f1 (by unfold val4;omega)])
 clear es em hN f1 f2 hox hdl hml hov
 by_cases hm:m3 > 9223372036854775807
 · have fin:=Hid.mk' (fin1 hm)
   have hm':(9223372036854775807:Int)<(m3:Int):=by omega
   clear fin1 fin2
   go_enter Tryz.func122,Tryz.ntmps122
   go_wp2_with (first
    | (go_at_call 151;refine (rs _).mono ?_;clear rs;rintro e w' ⟨rfl,hw⟩;subst hw)
    | (go_at_call 151;refine (rm19 (rm _)).mono ?_;rintro e w' ⟨rfl,hw⟩;subst hw))
   (try simp only [Exit.inBlock,Exit.then])
   exact bodyPost_ret (results_fresh4 Tryz.results122 _ _ _ _ _ _ _ rfl Tryz.underlying86 rfl (by kernel_rfl)) rfl ⟨by rw [fin.out],(Below.refl _ _).alloc (Nat.le_refl _) _⟩
 · have fin:=Hid.mk' (fin2 hm)
   have hm':¬(9223372036854775807:Int)<(m3:Int):=by omega
   clear fin1 fin2
   go_enter Tryz.func122,Tryz.ntmps122
   go_wp2_with (first
    | (go_at_call 151;refine (rs _).mono ?_;clear rs;rintro e w' ⟨rfl,hw⟩;subst hw)
    | (go_at_call 151;refine (rm19 (rm _)).mono ?_;rintro e w' ⟨rfl,hw⟩;subst hw))
   (try simp only [Exit.inBlock,Exit.then])
   exact bodyPost_ret (results_fresh4 Tryz.results122 _ _ _ _ _ _ _ rfl Tryz.underlying86 rfl (by kernel_rfl)) rfl ⟨by rw [fin.out],(Below.refl _ _).alloc (Nat.le_refl _) _⟩
end Go.Proofs.YtcgkajlehdgpoaaGreatDoor
namespace Go.Proofs.YtcgkajlehdgpoaaGreatDoor
open Go.RowKit
def cr (L:Nat→Int):Nat→Int
 | 0=>0
 | i+1=>(L i+cr L i) / 65536
def stC (L:Nat→Int) (k:Nat):Nat→Int:=fun j=>if j<k then (L j+cr L j)%65536 else if j=k then L j+cr L j else L j
def carryL (L:Nat→Int):Nat→Int:=fun j=>if j=0 then L 0%65536+38*cr L 16 else (L j+cr L j)%65536
def valR (L:Nat→Int):Nat→Int
 | 0=>0
 | n+1=>valR L n+L n*65536 ^ n
theorem valR_congr {L M:Nat→Int}:∀ n,(∀ j,j<n→L j=M j)→valR L n=valR M n
 | 0,_=>rfl
 | n+1,h=>by rw [valR,valR,valR_congr n (fun j hj=>h j (by omega)),h n (by omega)]
theorem valR_digits (L:Nat→Int):∀ n,valR (fun j=>(L j+cr L j)%65536) n+cr L n*65536 ^ n=valR L n
 | 0=>by simp [valR,cr]
 | n+1=>by
  have h:=valR_digits L n
  rw [valR,valR,cr,←h]
  have e:L n+cr L n=65536*((L n+cr L n) / 65536)+(L n+cr L n)%65536:=(Int.mul_ediv_add_emod _ _).symm
  have e2:(L n+cr L n)*65536 ^ n=(65536*((L n+cr L n) / 65536)+(L n+cr L n)%65536)*65536 ^ n:=congrArg (· * 65536 ^ n) e
  rw [Int.add_mul,Int.add_mul] at e2
  have e3:65536*((L n+cr L n) / 65536)*65536 ^ n=(L n+cr L n) / 65536*65536 ^ (n+1):=by
   rw [Int.pow_succ,Int.mul_comm 65536,Int.mul_assoc,Int.mul_comm 65536 (65536 ^ n)]
  omega
theorem valR_carry (L:Nat→Int):valR (carryL L) 16=valR L 16 - cr L 16*2*(pF:Int):=by
 have h:=valR_digits L 16
 have h1:∀ n,valR (carryL L) (n+1)=valR (fun j=>(L j+cr L j)%65536) (n+1)+38*cr L 16:=by
  intro n
  induction n with
  | zero =>
   simp only [valR,carryL,if_true,cr]
   simp
  | succ n ih =>
   rw [valR,ih]
   conv=>rhs;rw [valR]
   simp only [carryL,Nat.add_eq_zero_iff,Nat.one_ne_zero,and_false,if_false]
   omega
 have h2:valR (carryL L) 16=valR (fun j=>(L j+cr L j)%65536) 16+38*cr L 16:=h1 15
 have e:(65536:Int) ^ 16=2*(pF:Int)+38:=by decide
 have e2:cr L 16*(65536:Int) ^ 16=cr L 16*2*(pF:Int)+38*cr L 16:=by rw [e,Int.mul_add,Int.mul_assoc,Int.mul_comm (cr L 16) 38]
 rw [h2,←h,e2]
 generalize cr L 16*2*(pF:Int)=Y
 omega
theorem cr_bd (L:Nat→Int) (M:Int) (hM:2≤M) (h:∀ j,j<16→-M≤L j∧L j≤M):∀ i,i≤16→-M≤cr L i∧cr L i≤M
 | 0,_=>by simp [cr];omega
 | i+1,hi=>by
  have h1:=cr_bd L M hM h i (by omega)
  have h2:=h i (by omega)
  rw [cr];omega
theorem cr_bd2 (L:Nat→Int) (M:Int) (hM:2≤M) (h:∀ j,j<16→-M≤L j∧L j≤M) (i:Nat) (hi:i≤16):-(M / 32768) - 1≤cr L i∧cr L i≤M / 32768+1:=by
 cases i with
 | zero=>simp [cr];omega
 | succ i =>
  have h1:=cr_bd L M hM h i (by omega)
  have h2:=h i (by omega)
  rw [cr];omega
structure Dig (R:Int) (L:Nat→Int):Prop where
 low:-R≤L 0∧L 0≤R
 dig:∀ j,0<j→j<16→0≤L j∧L j≤65535
theorem Dig.all {R:Int} {L:Nat→Int} (h:Dig R L) (hR:65535≤R):∀ j,j<16→-R≤L j∧L j≤R:=fun j hj=>by
 by_cases e:j=0
 · rw [e];exact h.low
 · have:=h.dig j (by omega) hj;omega
theorem carry_dig (L:Nat→Int) (M:Int) (hM:2≤M) (h:∀ j,j<16→-M≤L j∧L j≤M):Dig (65535+38*(M / 32768+1)) (carryL L):=by
 have h1:=cr_bd2 L M hM h 16 (Nat.le_refl _)
 refine ⟨?_,fun j h0 hj => ?_⟩
 · unfold carryL;rw [if_pos rfl];omega
 · unfold carryL;rw [if_neg (by omega)];omega
theorem cr_small (L:Nat→Int) (h:Dig 9007199254740992 L):∀ i,4≤i→i≤16→-1≤cr L i∧cr L i≤1:=by
 have c1:-137438953472≤cr L 1∧cr L 1≤137438953472:=by
  have:=h.low
  show _≤(L 0+0) / 65536∧(L 0+0) / 65536≤_
  omega
 have c2:-2097152≤cr L 2∧cr L 2≤2097153:=by
  have:=h.dig 1 (by decide) (by decide)
  show _≤(L 1+cr L 1) / 65536∧(L 1+cr L 1) / 65536≤_
  omega
 have c3:-33≤cr L 3∧cr L 3≤33:=by
  have:=h.dig 2 (by decide) (by decide)
  show _≤(L 2+cr L 2) / 65536∧(L 2+cr L 2) / 65536≤_
  omega
 intro i h4 hi
 induction i with
 | zero=>omega
 | succ i ih =>
  have hd:=h.dig i (by omega) (by omega)
  rw [cr]
  by_cases e:i=3
  · subst e;omega
  · have:=ih (by omega) (by omega);omega
theorem carry_fine (L:Nat→Int) (h:Dig 9007199254740992 L):Dig 65573 (carryL L)∧-38≤carryL L 0:=by
 have h1:=cr_small L h 16 (by decide) (Nat.le_refl _)
 refine ⟨⟨?_,fun j h0 hj => ?_⟩,?_⟩
 · unfold carryL;rw [if_pos rfl];omega
 · unfold carryL;rw [if_neg (by omega)];omega
 · unfold carryL;rw [if_pos rfl];omega
def Nrm (L:Nat→Int):Prop:=∀ j,j<16→0≤L j∧L j≤65535
theorem carry_nrm (L:Nat→Int) (h:Dig 65573 L) (h0:-38≤L 0):Nrm (carryL L):=by
 have key:∀ i,1≤i→i≤16→(cr L i=0∨cr L i=cr L 1):=by
  intro i h1 hi
  have c1:cr L 1=(L 0+0) / 65536:=rfl
  have hl:=h.low
  induction i with
  | zero=>omega
  | succ i ih =>
   by_cases e:i=0
   · subst e;exact .inr rfl
   · have hd:=h.dig i (by omega) (by omega)
     rw [cr]
     rcases ih (by omega) (by omega) with e2 | e2 <;> rw [e2] <;> omega
 intro j hj
 by_cases e:j=0
 · subst e
   unfold carryL;rw [if_pos rfl]
   have c1:cr L 1=(L 0+0) / 65536:=rfl
   have hl:=h.low
   rcases key 16 (by decide) (Nat.le_refl _) with e2 | e2 <;> rw [e2] <;> omega
 · unfold carryL;rw [if_neg e];omega
end Go.Proofs.YtcgkajlehdgpoaaGreatDoor
