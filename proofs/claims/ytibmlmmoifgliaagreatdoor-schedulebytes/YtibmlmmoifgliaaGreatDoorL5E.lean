/- Labels: both sides answer the same. -/
import Derived.Test.YtibmlmmoifgliaaGreatDoorBaseM
import Derived.Test.YtibmlmmoifgliaaGreatDoorL5AM
import Derived.Test.YtibmlmmoifgliaaGreatDoorRWkM
import Derived.Test.YtibmlmmoifgliaaGreatDoorV6AM
namespace Go.Proofs.YtibmlmmoifgliaaGreatDoor
open Go.RowKit
theorem HTab.still5 {w w':World} {K q:Nat→Nat} (h:HTab w K q) (hb:Below w.heap.size w w'):HTab w' K q:=h.below hb h.size
structure TabAt (w:World):Prop where
 h:HTab w cubeK squareK
theorem TabAt.still {w w':World} (h:TabAt w) (hb:Below w.heap.size w w'):TabAt w':=⟨h.h.still5 hb⟩
structure LntAt (W:World) (g cap n:Nat) (bs:Nat→Nat):Prop where
 cap:n+2≤cap
 row:RowAt .u8 W g 0 (n+2) (cat n bs room)
theorem LntAt.still {W W':World} {g cap n:Nat} {bs:Nat→Nat} (h:LntAt W g cap n bs) (hb:Below W.heap.size W W'):LntAt W' g cap n bs:=⟨h.cap,h.row.below hb (block_lt_of_cell (h.row 0 (by omega)).1)⟩
theorem LntAt.bytes {W:World} {g cap n:Nat} {bs:Nat→Nat} (h:LntAt W g cap n bs):BytesIn W (.slice (some ⟨g,0,none⟩) n cap) n bs :=
 .inr ⟨g,0,cap,rfl,block_lt_of_cell (h.row 0 (by omega)).1,Nat.le_trans (Nat.le_add_right _ _) h.cap,fun j hj=>by
  have e:=(h.row j (by omega)).1
  rw [cat_left hj] at e
  exact e⟩
structure Cs (W:World) (v:Value) (S:ByteArray):Prop where
 conv:∀ w,Below W.heap.size W w→(convert 22 9 v).run Tryz.prog w = .ok (.string S) w
theorem Cs.still {W W':World} {v:Value} {S:ByteArray} (h:Cs W v S) (hb:Below W.heap.size W W'):Cs W' v S:=⟨fun w hw=>h.conv w (below_next hb hw)⟩
theorem BytesIn.cs {W:World} {v:Value} {n:Nat} {X:Nat→Nat} (h:BytesIn W v n X) (hX:∀ j,X j<256):Cs W v (strB n X):=⟨fun w hw=>h.conv hX w hw⟩
theorem outF_lt5 (kv:Nat→Nat) (m:Nat) (info:Nat→Nat) (a j:Nat):outF kv m info a j<256:=by
 unfold outF
 split
 · exact tE_lt _ _ _ _ _
 · decide
theorem exN_lt (sn:Nat) (ks:Nat→Nat) (l:List Nat) (n:Nat) (bs:Nat→Nat) (N j:Nat):exN sn ks l n bs N j<256:=outF_lt5 _ _ _ _ _
theorem lZ_lt5 (j:Nat):lZ j<256:=(by decide:0<256)
end Go.Proofs.YtibmlmmoifgliaaGreatDoor
