/- Lists of texts that came in, within the bound. -/
import Derived.Test.YtibgjjbnehhanaaBaseM
import Derived.Test.YtibgjjbnehhanaaD1CDM
import Derived.Deep.Matrix
namespace Go.Proofs.Ytibgjjbnehhanaa
open Go.ChangeShapes Go.WideShapes Go.ChangeAt Go.RowKit
theorem bulk_pos {H:Type} (d:DataW H):0<Rows.uptoBulk d:=by
 cases d with
 | lit l=>cases l <;> simp [Rows.uptoBulk]
 | _=>simp [Rows.uptoBulk]
theorem bulk_len {H:Type}:∀ l:List (DataW H),l.length≤Rows.uptoBulkAll l
 | []=>Nat.zero_le _
 | d :: r=>by
  have h1:=bulk_pos d
  have h2:=bulk_len r
  simp only [Rows.uptoBulkAll,List.length_cons]
  omega
theorem bulk_two {H:Type}:∀ l r:List (DataW H),Rows.uptoBulkAll (l ++ r)=Rows.uptoBulkAll l+Rows.uptoBulkAll r
 | [],r=>by simp [Rows.uptoBulkAll]
 | d :: l,r=>by
  have h:=bulk_two l r
  simp only [List.cons_append,Rows.uptoBulkAll,h]
  omega
theorem bulk_rows {H:Type} (f:Nat→DataW H) (pn:Nat→Nat):∀ n,(∀ r,r<n→pn r≤Rows.uptoBulk (f r))→sumN pn n≤Rows.uptoBulkAll ((List.range n).map f)
 | 0,_=>Nat.zero_le _
 | n+1,h=>by
  have h1:=bulk_rows f pn n (fun r hr=>h r (by omega))
  have h2:=h n (by omega)
  rw [List.range_succ,List.map_append,bulk_two]
  simp only [List.map_cons,List.map_nil,Rows.uptoBulkAll,sumN]
  omega
theorem cellsOfBytes:Try.prog.cellsOf 22=1:=by kernel_rfl
theorem open_pieces {H:Type} {enc:TypeId × Value→H} {W:World} {base:Nat} {v:Value} {d:DataW H} {ps:List MemPlace} (hval:Value.okWide Try.prog W .any base 37 v) (h:DataW.Trod enc Try.prog W 0 (fun _=>true) true 37 v d ps) :
 ∃ xo cnt cap pv pn pb,v = .slice xo cnt cap∧PiecesIn W xo cnt pv pn pb∧cnt≤Rows.uptoBulk d∧sumN pn cnt≤Rows.uptoBulk d:=by
 obtain ⟨a0,len,cap,rfl⟩:=okWide_slice Try.underlying37 hval
 obtain ⟨fuel,hf⟩:=h
 have hc:Cell.ok Try.prog W .any base 37 (.slice a0 len cap):=by
  unfold Value.okWide Cell.okWide at hval
  simp only [Try.underlying37] at hval
  exact hval
 rcases Deep.open_int_rows Try.underlying37 Try.underlying22 Try.underlying5 cellsOfBytes cellsOfByte hf with ⟨hcs,hx⟩ | ⟨a,len',cap',A,L,C,Z,hcs,_,hl,hm,hx,hrow⟩
 · simp [Value.cells] at hcs
   obtain ⟨rfl,rfl,rfl⟩:=hcs
   exact ⟨none,0,0,fun _ => .slice none 0 0,fun _=>0,fun _ _=>0,rfl,⟨fun q hq=>by omega,fun i hi=>by omega,fun _ _=>Nat.zero_lt_succ _⟩,Nat.zero_le _,Nat.zero_le _⟩
 · simp [Value.cells] at hcs
   obtain ⟨rfl,rfl,rfl⟩:=hcs
   simp only [Prod.mk.injEq] at hx
   obtain ⟨rfl,rfl⟩:=hx
   unfold Cell.ok at hc
   simp only [Try.underlying37] at hc
   obtain ⟨_,_,_,hs,_⟩:=hc
   obtain ⟨b,off,spot⟩:=a
   subst hs
   have hn:∀ r,r<len→∀ j,0≤(Z r).getD j 0∧(Z r).getD j 0<256:=fun r hr j=>by
    rw [List.getD_eq_getElem?_getD]
    cases h:(Z r)[j]? with
    | none=>simp
    | some x =>
     have:=(hrow r (by omega)).2.2.2.2.1 x (List.mem_of_getElem? h)
     have h0:(0:Int)≤x∧x≤255:=by simpa [Lit.wf,IntKind.min,IntKind.max,IntKind.signed,IntKind.bits] using this
     show 0≤x∧x<256
     omega
   have hpn:∀ r,r<len→L r≤Rows.uptoBulk (Deep.intRow (H:=H) .u8 (A r) (L r) (Z r)):=fun r hr=>by
    obtain ⟨_,h2,_,h4,_,h6,_⟩:=hrow r (by omega)
    cases hA:A r with
    | none=>have:=h6 hA;omega
    | some a' =>
     simp only [Deep.intRow,Rows.uptoBulk]
     have:=bulk_len (lits (H:=H) .u8 ((Z r).take (L r)))
     simp [lits] at this ⊢
     omega
   refine ⟨some ⟨b,off,none⟩,len,cap,fun r => .slice (A r) (L r) (C r),L,fun r j=>if r<len then ((Z r).getD j 0).toNat else 0,rfl,⟨fun q hq=>⟨b,off,rfl,fun i hi => ?_⟩,fun r hr => ?_,fun r j => ?_⟩,?_,?_⟩
   · have:=(hrow i (by omega)).1
     rw [Addr.add_mid] at this
     exact this
   · obtain ⟨_,h2,_,h4,_,h6,h7⟩:=hrow r (by omega)
     by_cases hC:C r=0
     · exact .inl ⟨A r,by rw [hC,show L r=0 by omega],by omega⟩
     · cases hA:A r with
       | none=>exact absurd (h6 hA) hC
       | some a' =>
        obtain ⟨_,hcell⟩:=h7 a' hA
        obtain ⟨b',o',sp⟩:=a'
        have hc0:=hcell 0 (by omega)
        have hsp:sp=none:=by
         cases sp with
         | none=>rfl
         | some k =>
          exfalso
          unfold World.cell? Addr.add at hc0
          simp at hc0
          split at hc0 <;> simp at hc0
        subst hsp
        refine .inr ⟨b',o',C r,rfl,?_,h2,fun j hj => ?_⟩
        · rw [Addr.add_mid] at hc0
          exact block_lt_of_cell hc0
        · have h:=hcell j (by omega)
          rw [Addr.add_mid] at h
          rw [h]
          show some (Value.int .u8 ((Z r).getD j 0))=some (Value.int .u8 ((if r<len then ((Z r).getD j 0).toNat else 0:Nat):Int))
          rw [if_pos hr,Int.toNat_of_nonneg (hn r hr j).1]
   · show (if r<len then ((Z r).getD j 0).toNat else 0)<256
     split
     · rename_i hr
       have:=hn r hr j
       omega
     · decide
   · have h1:=bulk_len (H:=H) ((List.range len).map fun r=>Deep.intRow .u8 (A r) (L r) (Z r))
     simp only [List.length_map,List.length_range] at h1
     simp only [Rows.uptoBulk]
     omega
   · have h1:=bulk_rows (H:=H) (fun r=>Deep.intRow .u8 (A r) (L r) (Z r)) L len hpn
     simp only [Rows.uptoBulk]
     omega
theorem bulk_bytes {H:Type} {n:Nat} {d:DataW H} (h:n=0∨∃ elems spare,d = .slice elems spare∧elems.length=n):n≤Rows.uptoBulk d:=by
 rcases h with rfl | ⟨elems,spare,rfl,rfl⟩
 · exact Nat.zero_le _
 · have:=bulk_len elems
   simp only [Rows.uptoBulk]
   omega
end Go.Proofs.Ytibgjjbnehhanaa
