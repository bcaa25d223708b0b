/- What the law HpkeBack stands on: both share one key; with another tag nothing is opened. -/
import Derived.Test.YtcgkajlehdgpoaaGreatDoorEdF
import Derived.Test.YtcgkajlehdgpoaaGreatDoorLProdM
import Derived.Test.YtcgkajlehdgpoaaGreatDoorQKmM
namespace Go.Proofs.YtcgkajlehdgpoaaGreatDoor
open Go.RowKit
theorem sd_pub (a b:Nat→Nat):sdN a (puN b)=mulL (clB a) (mulL (clB b) 9):=by
 unfold sdN puN
 rw [loB_byt (mulL_less _ _)]
theorem sd_both (a b:Nat→Nat):sdN a (puN b)≠0∧sdN b (puN a)=sdN a (puN b):=by
 rw [sd_pub,sd_pub]
 exact agreed a b
theorem open_none (v u m t:Value) (ml n:Nat) (ks nn M X:Nat→Nat) (q x:Nat) (hq:q<16) (hx:x<256) (h0:¬x=0) (hml:ml≤65536) (hn:n≤65536) (hks:∀ j,ks j<256) (hnn:∀ j,nn j<256) (hM:∀ j,M j<256) (hX:∀ j,X j<256) (w:World) (hv:BytesIn w v 16 ks) (hu:BytesIn w u 12 nn) (hm:BytesIn w m ml M) (ht:BytesIn w t (n+16) (upd (slB ks nn ml M n X) (n+q) (slB ks nn ml M n X (n+q) ^^^ x))) :
 AnsC 47 #[v,u,m,t] w 0 z0 32:=by
 have hlt:∀ j,upd (slB ks nn ml M n X) (n+q) (slB ks nn ml M n X (n+q) ^^^ x) j<256:=fun j=>by
  unfold upd
  split
  · exact xor_byte (Nat.mod_lt _ (by decide)) hx
  · exact Nat.mod_lt _ (by decide)
 refine ans_nil ((open_long v u m t ml n ks nn M _ hml hn hks hnn hM hlt w hv hu hm ht).mono fun _ _ ⟨_,h2,hb⟩=>⟨h2 fun hs=>h0 ?_,hb⟩)
 have e:=hs q hq
 rw [tgN_same ks nn ml M n (F:=trN ks nn X) (fun j hj=>by
  unfold upd
  rw [if_neg (by omega)]
  exact slB_low hks hnn hX ml M n j hj),←slB_tag hks hnn X ml M n q hq] at e
 unfold upd at e
 dsimp only at e
 rw [if_pos rfl] at e
 have e2:=congrArg (fun y=>slB ks nn ml M n X (n+q) ^^^ y) e
 simp only [Nat.xor_self,←Nat.xor_assoc,Nat.zero_xor] at e2
 exact e2.symm
end Go.Proofs.YtcgkajlehdgpoaaGreatDoor
