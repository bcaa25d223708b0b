/- What a call on two contexts may change: their numbers; and what stays. -/
import Derived.Test.YtcgkajlehdgpoaaGreatDoorQKmM
import Derived.Test.YtcgkajlehdgpoaaGreatDoorQRP
namespace Go.Proofs.YtcgkajlehdgpoaaGreatDoor
open Go.RowKit
theorem RowAt.outI {w w':World} {g o n b:Nat} {X:Nat→Nat} {z:Int} (h:RowAt .u8 w g o n X) (hc:w.cell? ⟨b,3,none⟩=some (.int .i64 z)) (u:Out b 3 1 w w'):RowAt .u8 w' g o n X:=fun j hj=>by
 have hl:=block_lt_of_cell (h j hj).1
 by_cases e:g=b
 · subst e
   by_cases e3:o+j=3
   · have:=(h j hj).1
     rw [e3,hc] at this
     cases this
   · rw [u.cell (o+j) (by omega),u.frozen];exact h j hj
 · rw [u.cell' hl e,u.frozen' hl e];exact h j hj
structure Moves (gc gr:Nat) (w w':World):Prop where
 bytes:∀ v n X,BytesIn w v n X→BytesIn w' v n X
 rows:∀ g o n X,RowAt .u8 w g o n X→RowAt .u8 w' g o n X
 blocks:∀ g cs,RW w g 0 cs→g≠gc→g≠gr→RW w' g 0 cs
 below:∀ B,B≤gc→B≤gr→B≤w.heap.size→Below B w w'
 size:w.heap.size≤w'.heap.size
theorem Moves.of_below {gc gr:Nat} {w w':World} (h:Below w.heap.size w w'):Moves gc gr w w' :=
 ⟨fun _ _ _ hb=>hb.keep h,fun g o n X hr=>by
   by_cases h0:0<n
   · exact hr.stay h0 h
   · exact fun j hj=>absurd hj (by omega),fun _ _ hr _ _=>hr.still h,fun _ _ _ hB=>h.mono hB,h.size⟩
theorem Moves.of_c {gc gr:Nat} {w w':World} {z:Int} (hc:w.cell? ⟨gc,3,none⟩=some (.int .u64 z)) (u:Out gc 3 1 w w'):Moves gc gr w w' :=
 ⟨fun _ _ _ hb=>hb.outU hc u,fun _ _ _ _ hr=>hr.outU hc u,fun _ _ hr h1 _=>hr.out u h1,fun _ h1 _ h3=>u.below h1 h3,u.size⟩
theorem Moves.of_r {gc gr:Nat} {w w':World} {z:Int} (hc:w.cell? ⟨gr,3,none⟩=some (.int .i64 z)) (u:Out gr 3 1 w w'):Moves gc gr w w' :=
 ⟨fun _ _ _ hb=>hb.out hc u,fun _ _ _ _ hr=>hr.outI hc u,fun _ _ hr _ h2=>hr.out u h2,fun _ _ h2 h3=>u.below h2 h3,u.size⟩
theorem Moves.trans {gc gr:Nat} {u v w:World} (h:Moves gc gr u v) (k:Moves gc gr v w):Moves gc gr u w :=
 ⟨fun _ _ _ hb=>k.bytes _ _ _ (h.bytes _ _ _ hb),fun _ _ _ _ hr=>k.rows _ _ _ _ (h.rows _ _ _ _ hr),fun _ _ hr h1 h2=>k.blocks _ _ (h.blocks _ _ hr h1 h2) h1 h2,fun _ h1 h2 h3=>(h.below _ h1 h2 h3).trans (k.below _ h1 h2 (Nat.le_trans h3 h.size)),Nat.le_trans h.size k.size⟩
theorem CCtx.moves {w w':World} {g gc gr:Nat} {K N X:Nat→Nat} {n:Nat} (h:CCtx w g K N X n) (m:Moves gc gr w w') (h1:g≠gc) (h2:g≠gr):CCtx w' g K N X n:=by
 obtain ⟨k,p,x,r,a,b,c⟩:=h
 exact ⟨k,p,x,m.blocks _ _ r h1 h2,m.rows _ _ _ _ a,m.rows _ _ _ _ b,m.rows _ _ _ _ c⟩
theorem RCtx.moves {w w':World} {g gc gr:Nat} {K N X:Nat→Nat} {n:Nat} (h:RCtx w g K N X n) (m:Moves gc gr w w') (h1:g≠gc) (h2:g≠gr):RCtx w' g K N X n:=by
 obtain ⟨k,p,x,r,a,b,c⟩:=h
 exact ⟨k,p,x,m.blocks _ _ r h1 h2,m.bytes _ _ _ a,m.bytes _ _ _ b,m.bytes _ _ _ c⟩
theorem RCtx.num {w:World} {g:Nat} {K N X:Nat→Nat} {n:Nat} (h:RCtx w g K N X n):w.cell? ⟨g,3,none⟩=some (.int .i64 (n:Int)):=by
 obtain ⟨_,_,_,r,_⟩:=h
 exact r.range 3 _ rfl
theorem RCtx.lt {w:World} {g:Nat} {K N X:Nat→Nat} {n:Nat} (h:RCtx w g K N X n):g<w.heap.size:=by
 obtain ⟨_,_,_,r,_⟩:=h
 exact r.lt
theorem RCtx.outC {w w':World} {g gc:Nat} {K N X:Nat→Nat} {n:Nat} {z:Int} (h:RCtx w g K N X n) (hc:w.cell? ⟨gc,3,none⟩=some (.int .u64 z)) (hne:g≠gc) (u:Out gc 3 1 w w'):RCtx w' g K N X n :=
 h.moves (gr:=gc) (Moves.of_c hc u) hne hne
theorem CCtx.outR {w w':World} {g gr:Nat} {K N X:Nat→Nat} {n:Nat} {z:Int} (h:CCtx w g K N X n) (hc:w.cell? ⟨gr,3,none⟩=some (.int .i64 z)) (hne:g≠gr) (u:Out gr 3 1 w w'):CCtx w' g K N X n :=
 h.moves (gc:=gr) (Moves.of_r hc u) hne hne
theorem export_both (ml:Nat) (M X:Nat→Nat) (lM:∀ j,M j<256) (lX:∀ j,X j<256) (z:Int):∃ L Z E,(∀ j,Z j<256)∧(∀ g n K N mv W,HTab W cubeK squareK→CCtx W g K N X n→BytesIn W mv ml M→AnsC 23 #[.pointer (some ⟨g,0,none⟩),mv,.int .i64 z] W L Z E)∧(∀ g n K N mv W,RCtx W g K N X n→BytesIn W mv ml M→AnsC 44 #[.pointer (some ⟨g,0,none⟩),mv,.int .i64 z] W L Z E):=by
 by_cases h:z<0∨8160<z∨65536<ml
 · exact ⟨0,z0,6,hz0,fun g n K N mv W _ hc hm=>ans_nil (cExport_size _ mv ml M z h W hm (cmade hc)),fun g n K N mv W _ hm=>ans_nil (rctxExport_size _ mv ml M z h W hm)⟩
 · obtain ⟨k,rfl⟩:∃ k:Nat,z=(k:Int):=⟨z.toNat,by omega⟩
   refine ⟨k,leN lAll 32 X lSec ml M k,0,leN_lt _ _ _ _ _ _ _,fun g n K N mv W hT hc hm=>(cExport_good g n K N X lX mv ml k M lM (by omega) (by omega) W hT hc hm).mono fun _ _ ⟨s,he,hs,hb⟩=>⟨s,he,?_,hb⟩,fun g n K N mv W hc hm=>rctxExport_good g n K N X lX mv ml k M lM (by omega) (by omega) W hc hm⟩
   by_cases h0:0<k
   · exact NewR.bytes h0 hs
   · obtain ⟨q,rfl,-,-⟩:=hs
     obtain rfl:k=0:=by omega
     exact .inl ⟨_,rfl,rfl⟩
end Go.Proofs.YtcgkajlehdgpoaaGreatDoor
