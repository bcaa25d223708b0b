/- The reference's Export of a context. -/
import Derived.Test.YtcgkajlehdgpoaaGreatDoorQCNM
namespace Go.Proofs.YtcgkajlehdgpoaaGreatDoor
open Go.RowKit
theorem rctxExport_size (pv mv:Value) (m:Nat) (M:Nat→Nat) (z:Int) (h:z<0∨8160<z∨65536<m) (w:World) (hm:BytesIn w mv m M) :
 Calls Tryz.prog 44 #[pv,mv,.int .i64 z] w fun e w'=>e = .returned (.tuple #[.slice none 0 0,.int .i64 6])∧Below w.heap.size w w':=by
 obtain ⟨x1,c1,rfl,-,-,-⟩:=hm.src
 clear hm
 rcases (show z<0∨(¬z<0∧8160<z)∨(¬z<0∧¬8160<z∧(65536:Int)<(m:Int)) by omega) with h1 | ⟨h1,h2⟩ | ⟨h1,h2,h3⟩
 · clear h
   go_enter Tryz.func44,Tryz.ntmps44
   go_wp2
   go_ret2
   exact ⟨rfl,Below.refl _ _⟩
 · clear h
   go_enter Tryz.func44,Tryz.ntmps44
   go_wp2
   go_ret2
   exact ⟨rfl,Below.refl _ _⟩
 · clear h
   go_enter Tryz.func44,Tryz.ntmps44
   go_wp2
   go_ret2
   exact ⟨rfl,Below.refl _ _⟩
set_option maxRecDepth 20000 in
set_option maxHeartbeats 2000000 in
theorem rctxExport_good (gc n:Nat) (K N X:Nat→Nat) (hX:∀ j,X j<256) (mv:Value) (m k:Nat) (M:Nat→Nat) (hM:∀ j,M j<256) (hm:m≤65536) (hk:k≤8160) (w:World) (h:RCtx w gc K N X n) (hmv:BytesIn w mv m M) :
 Calls Tryz.prog 44 #[.pointer (some ⟨gc,0,none⟩),mv,.int .i64 k] w fun e w'=>∃ s,e = .returned (.tuple #[s,.int .i64 0])∧BytesIn w' s k (leN lAll 32 X lSec m M k)∧Below w.heap.size w w':=by
 have bd:Below w.heap.size w w.drew:=(Below.refl _ _).drew
 have hc:=h.keep bd
 have ca:=rall_any w.drew
 obtain ⟨kv,uv,xv,r,-,-,hx⟩:=hc
 have f2:w.drew.cell? ⟨gc,2,none⟩=some xv:=r.range 2 _ rfl
 have gl:gc<w.heap.size:=r.lt
 have he:∀ av W,Below w.drew.heap.size w.drew W→BytesIn W av 10 (litB lAll)→Calls Tryz.prog 31 #[av,xv,.string { data:=#[115,101,99] },mv,.int .i64 k] W _:=fun av W hb ha=>rexpand_any lAll lSec lAll_lt (by decide) (by decide) av xv mv 32 m k X M hk hX hM (by decide) (by omega) W ha (hx.keep hb) ((hmv.keep bd).keep hb)
 have t1:¬(k:Int)<0:=by omega
 have t2:¬(8160:Int)<(k:Int):=by omega
 have t3:¬(65536:Int)<(m:Int):=by omega
 obtain ⟨x1,c1,rfl,-,-,-⟩:=hmv.src
 obtain ⟨T,hT⟩:∃ T,T=leN lAll 32 X lSec m M k:=⟨_,rfl⟩
 rw [←hT] at he ⊢
 clear hmv hx h hT
 go_enter Tryz.func44,Tryz.ntmps44
 go_upto_region 3 with (fail)
 refine wp_region_held_drew (S:=fun u=>Below w.drew.heap.size w.drew u) (by kernel_rfl) (Below.refl _ _) (fun hS => ?_)
 refine tg 1 hS ?_
 (try simp only [pS])
 refine tg 2 hS ?_
 (try simp only [pS])
 refine tg 3 hS ?_
 (try simp only [pS])
 refine tc 4 hS (fun u hu=>(hu.cell (p:=⟨gc,2,none⟩) gl).trans f2) ?_
 (try simp only [pS])
 refine tg 5 hS ?_
 (try simp only [pS])
 refine tg 6 hS ?_
 (try simp only [pS])
 refine cl 0 ca ?_
 rintro e w1 ⟨s1,rfl,o1,b1⟩
 refine ⟨_,rfl,b1,?_⟩
 (try simp only [pS])
 refine cl 7 (he s1 w1 b1 o1.bytesIn) ?_
 rintro e w2 ⟨s2,rfl,o2,hb2⟩
 have b2:=below_next b1 hb2
 refine ⟨_,rfl,b2,?_⟩
 (try simp only [pS])
 refine tg 8 b2 ?_
 (try simp only [pS])
 refine tg 9 b2 ?_
 (try simp only [pS])
 refine wpAnyH_done (by kernel_rfl) ?_ _
 go_wp2
 go_ret2
 exact ⟨_,rfl,o2,below_next bd b2⟩
end Go.Proofs.YtcgkajlehdgpoaaGreatDoor
