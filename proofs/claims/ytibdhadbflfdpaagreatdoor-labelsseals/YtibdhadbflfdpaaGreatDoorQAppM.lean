/- What the proof stands on: QApp, QMath, QRK, QRJ, QRX, Grw, QCC, QCA. -/
import Derived.Test.YtibdhadbflfdpaaGreatDoorBase
import Derived.Test.YtibdhadbflfdpaaGreatDoorHExpM
import Derived.Test.YtibdhadbflfdpaaGreatDoorHRefSumM
import Derived.Test.YtibdhadbflfdpaaGreatDoorLentM
import Derived.Lib.AppendStr
import Derived.Lib.ConvBytes
import Derived.Lib.SlBytesConst
namespace Go.Proofs.YtibdhadbflfdpaaGreatDoor
open Go.RowKit
def litB (l:List Nat):Nat→Nat:=fun j=>l.getD j 0
def lV1:List Nat:=[72,80,75,69,45,118,49]
def lKem:List Nat:=[75,69,77,0,32]
def lAll:List Nat:=[72,80,75,69,0,32,0,1,0,1]
theorem run_append_full (w:World) (base:Nat) (b a:Addr) (n cap m c:Nat) (X Y:Nat→Nat) (hX:∀ j,j<n→w.cell? (b.add j)=some (.int .u8 (X j))) (hY:∀ j,j<m→w.cell? (a.add j)=some (.int .u8 (Y j))) (hc:cap<n+m) (hl:n+m≤1000000) (hbase:base≤w.heap.size) :
 ∃ v' w',(Builtin.append_ #[22,22] 22 #[.slice (some b) n cap,.slice (some a) m c]).run Tryz.prog w = .ok v' w'∧Own base w' v' (n+m) (cat n X Y)∧Below base w w':=by
 obtain ⟨i0,hi,hz0,hz1,hz2⟩:=info_parts Tryz.info5
 have at_:∀ (k:Nat) (Z:Nat→Nat) (d:Addr),(∀ j,j<k→w.cell? (d.add j)=some (.int .u8 (Z j)))→∀ j v,(ints .u8 k Z)[j]? = some v→w.cell? (d.add j)=some v:=fun k Z d h j v hv=>by
  have hj:j<k:=by have:=(List.getElem?_eq_some_iff.1 hv).1;rwa [ints_len] at this
  rw [ints_at .u8 k Z j hj] at hv
  rw [←hv];exact h j hj
 have h:=run_append_grow (P:=Tryz.prog) (w:=w) 22 22 5 i0 (.int .u8 0) Tryz.underlying22 hi hz0 b n cap (ints .u8 n X) (by rw [ints_len,hz1,Nat.mul_one]) (at_ n X b hX) a m c (ints .u8 m Y) (by rw [ints_len,hz1,Nat.mul_one]) (at_ m Y a hY) hc (by omega) (growslice_fits hc (by rw [hz2];omega))
 have hge:=grownCap_ge w (n+m) cap 5
 have hle:=grownCap_le_maxLen w (n+m) cap 5 (by unfold maxLen;omega)
 obtain ⟨G,hG⟩:∃ G,G=grownCap w (n+m) cap 5:=⟨_,rfl⟩
 rw [←hG] at h hge hle
 refine ⟨_,_,h,⟨by rw [ints_len,Nat.mul_one],.inr ⟨w.heap.size,G,_,rfl,hbase,heap_alloc_new w.drew _,hge,hle,?_,?_⟩⟩,?_⟩
 · have hz:(Value.int .u8 0).cells.size=1:=rfl
   simp only [Array.size_append,List.size_toArray,ints_len,size_zeroCells,hz]
   omega
 · rw [Nat.mul_one,Array.toList_append,Array.toList_append,List.toList_toArray,List.toList_toArray,ints_add,List.take_append_of_le_length (by rw [ints_len];omega),List.take_of_length_le (by rw [ints_len];omega)]
 · exact ((Below.refl base w).drew).alloc hbase _
theorem add0 (g j:Nat):(⟨g,0,none⟩:Addr).add j=⟨g,j,none⟩:=by
 unfold Addr.add
 split
 · subst_vars;rfl
 · simp
theorem wpList_append_full {w:World} {ops:Array Oper} {rest:List Oper} {o:Oper} {a:Act} {Q:Exit→Act→World→Prop} (hgd:o.guard=none) (s x:Operand)
 (ho:o.op = .call { callee := .builtin .append,args:=#[s,x],argTypes:=#[22,22] }) (hty:o.type=22) (base p q n cap m c:Nat) (X Y:Nat→Nat) (hs:a.eval s = .slice (some ⟨p,0,none⟩) n cap) (hx:a.eval x = .slice (some ⟨q,0,none⟩) m c)
 (hX:∀ j,j<n→w.cell? ⟨p,j,none⟩=some (.int .u8 (X j))) (hY:∀ j,j<m→w.cell? ⟨q,j,none⟩=some (.int .u8 (Y j))) (hc:cap<n+m) (hl:n+m≤1000000) (hbase:base≤w.heap.size)
 (h:∀ v' w',Own base w' v' (n+m) (cat n X Y)→Below base w w'→wpList Tryz.prog ops Q rest (a.put o.dst v') w'):wpList Tryz.prog ops Q (o :: rest) a w:=by
 obtain ⟨v',w',hrun,h1,h2⟩:=run_append_full w base ⟨p,0,none⟩ ⟨q,0,none⟩ n cap m c X Y (fun j hj=>by rw [add0];exact hX j hj) (fun j hj=>by rw [add0];exact hY j hj) hc hl hbase
 have hw:Region.wanted o (yielded ops a.tmps)=true:=by simp [Region.wanted,hgd]
 unfold wpList
 rw [if_pos hw]
 unfold Oper.wp
 simp [execOp,ho,hty,resolve,invoke,builtin,hs,hx,hrun,Result.andThen]
 exact .inl (h v' w' h1 h2)
def litV (l:List Nat):Array Value:=(l.map fun (x:Nat)=>Value.int .u8 (x:Int)).toArray
theorem lit_cell (W:World) (l:List Nat) (t:TypeId) (f:Nat × Nat) (j:Nat) (hj:j<l.length):(W.alloc (.cells (litV l) t f)).cell? ⟨W.heap.size,j,none⟩=some (.int .u8 (litB l j)):=by
 unfold World.cell?
 rw [heap_alloc_new]
 simp [litV,litB,hj]
theorem litB_B:∀ (w:World) (l:List Nat) (f:Nat × Nat),BytesIn (w.alloc (.cells (litV l) 5 f)) (.slice (some ⟨w.heap.size,0,none⟩) l.length l.length) l.length (litB l):=fun w l f =>
 .inr ⟨w.heap.size,0,l.length,rfl,by simp,Nat.le_refl _,fun j hj=>by rw [Nat.zero_add];exact lit_cell w l _ f j hj⟩
theorem convC (W:World) (l:List Nat):(convert 22 22 (.slice (some ⟨W.heap.size,0,none⟩) l.length l.length)).run Tryz.prog (W.alloc (.cells (litV l) 5)) = .ok (.slice (some ⟨W.heap.size,0,none⟩) l.length l.length) (W.alloc (.cells (litV l) 5 (l.length,l.length+1))):=by
 have h:=Lib.run_convert_bytes_const (P:=Tryz.prog) W 22 5 (litV l) l.length l.length Tryz.underlying22 Tryz.underlying5
 rw [h]
 simp [litV]
end Go.Proofs.YtibdhadbflfdpaaGreatDoor
namespace Go.Proofs.YtibdhadbflfdpaaGreatDoor
open Go.RowKit
def catL:List (Nat × (Nat→Nat))→Nat→Nat
 | []=>fun _=>0
 | p :: r=>cat p.1 p.2 (catL r)
def lenL:List (Nat × (Nat→Nat))→Nat
 | []=>0
 | p :: r=>p.1+lenL r
theorem catL_lt:∀ (ps:List (Nat × (Nat→Nat))),(∀ p,p∈ps→∀ j,p.2 j<256)→∀ j,catL ps j<256
 | [],_,j=>by show 0<256;decide
 | p :: r,h,j=>cat_lt (h p (List.mem_cons_self ..)) (catL_lt r fun q hq=>h q (List.mem_cons_of_mem _ hq)) j
theorem catL_at:∀ (ps:List (Nat × (Nat→Nat))) (i:Nat) (p:Nat × (Nat→Nat)),ps[i]? = some p→∀ j,j<p.1→catL ps (lenL (ps.take i)+j)=p.2 j
 | [],i,p,h=>by simp at h
 | q :: r,0,p,h=>by
  simp only [List.getElem?_cons_zero,Option.some.injEq] at h
  subst h
  intro j hj
  show cat q.1 q.2 (catL r) (0+j)=q.2 j
  rw [Nat.zero_add]
  exact cat_left hj
 | q :: r,i+1,p,h=>by
  intro j hj
  show cat q.1 q.2 (catL r) ((q.1+lenL (r.take i))+j)=p.2 j
  rw [Nat.add_assoc,cat_right]
  exact catL_at r i p (by simpa using h) j hj
theorem lenL_succ:∀ (ps:List (Nat × (Nat→Nat))) (i:Nat) (p:Nat × (Nat→Nat)),ps[i]? = some p→lenL (ps.take (i+1))=lenL (ps.take i)+p.1
 | [],i,p,h=>by simp at h
 | q :: r,0,p,h=>by
  simp only [List.getElem?_cons_zero,Option.some.injEq] at h
  subst h
  show q.1+0=0+q.1
  omega
 | q :: r,i+1,p,h=>by
  show q.1+lenL (r.take (i+1))=q.1+lenL (r.take i)+p.1
  rw [lenL_succ r i p (by simpa using h),Nat.add_assoc]
theorem lenL_take_le:∀ (ps:List (Nat × (Nat→Nat))) (i:Nat),lenL (ps.take i)≤lenL ps
 | [],i=>by simp
 | q :: r,0=>Nat.zero_le _
 | q :: r,i+1=>Nat.add_le_add_left (lenL_take_le r i) _
theorem BytesIn.cong {w:World} {v:Value} {n:Nat} {a b:Nat→Nat} (h:BytesIn w v n a) (e:∀ j,j<n→a j=b j):BytesIn w v n b:=by
 rcases h with h | ⟨bb,ob,cap,rfl,h1,h2,h3⟩
 · exact .inl h
 · exact .inr ⟨bb,ob,cap,rfl,h1,h2,fun j hj=>by rw [h3 j hj,e j hj]⟩
theorem parts_list (w:World) (ps:List (Value × Nat × (Nat→Nat))) (ty:TypeId) (h:∀ p,p∈ps→BytesIn w p.1 p.2.1 p.2.2) :
 Parts (w.alloc (.cells (ps.map (·.1)).toArray ty)) w.heap.size ps.length (lenL (ps.map (·.2))) (catL (ps.map (·.2))):=by
 refine ⟨fun i=>((ps.map (·.1))[i]?).getD (.bool false),fun i=>lenL ((ps.map (·.2)).take i),rfl,by show lenL (List.take ps.length _)=_;rw [List.take_of_length_le (by simp)],fun i hi => ?_⟩
 have hp:ps[i]? = some ps[i]:=List.getElem?_eq_getElem hi
 have hp2:(ps.map (·.2))[i]? = some ps[i].2:=by simp [hp]
 have hs:=lenL_succ _ i _ hp2
 have hb:=(h ps[i] (List.getElem_mem hi)).keep ((Below.refl _ w).alloc (Nat.le_refl _) (.cells (ps.map (·.1)).toArray ty))
 have hv:((ps.map (·.1))[i]?).getD (.bool false)=ps[i].1:=by simp [hp]
 refine ⟨by simp [hp],?_,lenL_take_le _ _,?_⟩
 · show lenL ((ps.map (·.2)).take i)≤lenL ((ps.map (·.2)).take (i+1))
   rw [hs];exact Nat.le_add_right _ _
 · show BytesIn _ (((ps.map (·.1))[i]?).getD (.bool false)) (lenL ((ps.map (·.2)).take (i+1)) - lenL ((ps.map (·.2)).take i)) _
   rw [hs,Nat.add_sub_cancel_left,hv]
   exact hb.cong fun j hj=>(catL_at _ i _ hp2 j hj).symm
def lxT (suite label:List Nat) (m:Nat) (ikm:Nat→Nat):List (Nat × (Nat→Nat)):=[(7,litB lV1),(suite.length,litB suite),(label.length,litB label),(m,ikm)]
def leT (suite label:List Nat) (m:Nat) (info:Nat→Nat) (N:Nat):List (Nat × (Nat→Nat)):=(2,litB [N / 256%256,N%256]) :: lxT suite label m info
def lxN (suite:List Nat) (sn:Nat) (salt:Nat→Nat) (label:List Nat) (m:Nat) (ikm:Nat→Nat):Nat→Nat:=tagH (keyB sn salt) (lenL (lxT suite label m ikm)) (catL (lxT suite label m ikm))
def leN (suite:List Nat) (pn:Nat) (prk:Nat→Nat) (label:List Nat) (m:Nat) (info:Nat→Nat) (N:Nat):Nat→Nat:=outF (keyB pn prk) (lenL (leT suite label m info N)) (catL (leT suite label m info N)) N
def lDkp:List Nat:=[100,107,112,95,112,114,107]
def lSk:List Nat:=[115,107]
def lEae:List Nat:=[101,97,101,95,112,114,107]
def lSs:List Nat:=[115,104,97,114,101,100,95,115,101,99,114,101,116]
def lPsk:List Nat:=[112,115,107,95,105,100,95,104,97,115,104]
def lInf:List Nat:=[105,110,102,111,95,104,97,115,104]
def lSecr:List Nat:=[115,101,99,114,101,116]
def lKey:List Nat:=[107,101,121]
def lBn:List Nat:=[98,97,115,101,95,110,111,110,99,101]
def lExp:List Nat:=[101,120,112]
def lZ:Nat→Nat:=fun _=>0
def dsN (m:Nat) (ikm:Nat→Nat):Nat→Nat:=leN lKem 32 (lxN lKem 0 lZ lDkp m ikm) lSk 0 lZ 32
def shN2 (dh enc pub:Nat→Nat):Nat→Nat:=leN lKem 32 (lxN lKem 0 lZ lEae 32 dh) lSs 64 (catL [(32,enc),(32,pub)]) 32
def cxN (m:Nat) (info:Nat→Nat):Nat→Nat:=catL [(1,lZ),(32,lxN lAll 0 lZ lPsk 0 lZ),(32,lxN lAll 0 lZ lInf m info)]
def csN (sh:Nat→Nat):Nat→Nat:=lxN lAll 32 sh lSecr 0 lZ
def ckN (label:List Nat) (N:Nat) (sh:Nat→Nat) (m:Nat) (info:Nat→Nat):Nat→Nat:=leN lAll 32 (csN sh) label 65 (cxN m info) N
def ncN (nn:Nat→Nat) (k:Nat):Nat→Nat:=fun j=>if j<4 then nn j else nn j ^^^ (k / 2 ^ (8*(11 - j))%256)
end Go.Proofs.YtibdhadbflfdpaaGreatDoor
namespace Go.Proofs.YtibdhadbflfdpaaGreatDoor
open Go.RowKit
set_option maxRecDepth 20000 in
theorem rkem_any (w:World):Calls Tryz.prog 32 #[] w fun e w'=>∃ s,e = .returned s∧Own w.heap.size w' s 5 (litB lKem)∧Below w.heap.size w w':=by
 have hc:(convert 22 22 (.slice (some ⟨w.heap.size,0,none⟩) 3 3)).run Tryz.prog (w.alloc (.cells #[.int .u8 75,.int .u8 69,.int .u8 77] 5)) = .ok (.slice (some ⟨w.heap.size,0,none⟩) 3 3) (w.alloc (.cells #[.int .u8 75,.int .u8 69,.int .u8 77] 5 (3,4))):=convC w [75,69,77]
 have h1:∀ j,j<3→((w.alloc (.cells #[.int .u8 75,.int .u8 69,.int .u8 77] 5 (3,4))).alloc (.cells #[.int .u8 0,.int .u8 32] 5)).cell? ⟨w.heap.size,j,none⟩=some (.int .u8 (litB [75,69,77] j)):=fun j hj=>Lib.cell?_alloc_marked _ (lit_cell w [75,69,77] 5 (3,4) j hj)
 have h2:∀ j,j<2→((w.alloc (.cells #[.int .u8 75,.int .u8 69,.int .u8 77] 5 (3,4))).alloc (.cells #[.int .u8 0,.int .u8 32] 5)).cell? ⟨w.heap.size+1,j,none⟩=some (.int .u8 (litB [0,32] j)):=fun j hj=>by
  have:=lit_cell (w.alloc (.cells #[.int .u8 75,.int .u8 69,.int .u8 77] 5 (3,4))) [0,32] 5 (0,0) j hj
  rw [World.size_alloc] at this
  exact this
 have hb:Below w.heap.size w ((w.alloc (.cells #[.int .u8 75,.int .u8 69,.int .u8 77] 5 (3,4))).alloc (.cells #[.int .u8 0,.int .u8 32] 5)):=((Below.refl _ _).alloc (Nat.le_refl _) _).alloc (by simp) _
 have he:∀ j,j<5→cat 3 (litB [75,69,77]) (litB [0,32]) j=litB lKem j:=by decide
 go_enter Tryz.func32,Tryz.ntmps32
 go_wp2_with (first
  | rw [hc]
  | (at_builtin;refine wpList_append_full rfl (.tmp 2) (.tmp 3) rfl rfl w.heap.size w.heap.size (w.heap.size+1) 3 3 2 2 (litB [75,69,77]) (litB [0,32]) rfl rfl h1 h2 (by decide) (by decide) hb.size ?_;intro v4 w4 own4 hb4))
 go_ret
 exact ⟨v4,rfl,own4.congr he,hb.trans hb4⟩
set_option maxRecDepth 20000 in
theorem rall_any (w:World):Calls Tryz.prog 144 #[] w fun e w'=>∃ s,e = .returned s∧Own w.heap.size w' s 10 (litB lAll)∧Below w.heap.size w w':=by
 have hc:(convert 22 22 (.slice (some ⟨w.heap.size,0,none⟩) 4 4)).run Tryz.prog (w.alloc (.cells #[.int .u8 72,.int .u8 80,.int .u8 75,.int .u8 69] 5)) = .ok (.slice (some ⟨w.heap.size,0,none⟩) 4 4) (w.alloc (.cells #[.int .u8 72,.int .u8 80,.int .u8 75,.int .u8 69] 5 (4,5))):=convC w [72,80,75,69]
 have h1:∀ j,j<4→((w.alloc (.cells #[.int .u8 72,.int .u8 80,.int .u8 75,.int .u8 69] 5 (4,5))).alloc (.cells #[.int .u8 0,.int .u8 32,.int .u8 0,.int .u8 1,.int .u8 0,.int .u8 1] 5)).cell? ⟨w.heap.size,j,none⟩=some (.int .u8 (litB [72,80,75,69] j)):=fun j hj=>Lib.cell?_alloc_marked _ (lit_cell w [72,80,75,69] 5 (4,5) j hj)
 have h2:∀ j,j<6→((w.alloc (.cells #[.int .u8 72,.int .u8 80,.int .u8 75,.int .u8 69] 5 (4,5))).alloc (.cells #[.int .u8 0,.int .u8 32,.int .u8 0,.int .u8 1,.int .u8 0,.int .u8 1] 5)).cell? ⟨w.heap.size+1,j,none⟩=some (.int .u8 (litB [0,32,0,1,0,1] j)):=fun j hj=>by
  have:=lit_cell (w.alloc (.cells #[.int .u8 72,.int .u8 80,.int .u8 75,.int .u8 69] 5 (4,5))) [0,32,0,1,0,1] 5 (0,0) j hj
  rw [World.size_alloc] at this
  exact this
 have hb:Below w.heap.size w ((w.alloc (.cells #[.int .u8 72,.int .u8 80,.int .u8 75,.int .u8 69] 5 (4,5))).alloc (.cells #[.int .u8 0,.int .u8 32,.int .u8 0,.int .u8 1,.int .u8 0,.int .u8 1] 5)):=((Below.refl _ _).alloc (Nat.le_refl _) _).alloc (by simp) _
 have he:∀ j,j<10→cat 4 (litB [72,80,75,69]) (litB [0,32,0,1,0,1]) j=litB lAll j:=by decide
 go_enter Tryz.func144,Tryz.ntmps144
 go_wp2_with (first
  | rw [hc]
  | (at_builtin;refine wpList_append_full rfl (.tmp 2) (.tmp 3) rfl rfl w.heap.size w.heap.size (w.heap.size+1) 4 4 6 6 (litB [72,80,75,69]) (litB [0,32,0,1,0,1]) rfl rfl h1 h2 (by decide) (by decide) hb.size ?_;intro v4 w4 own4 hb4))
 go_ret
 exact ⟨v4,rfl,own4.congr he,hb.trans hb4⟩
end Go.Proofs.YtibdhadbflfdpaaGreatDoor
namespace Go.Proofs.YtibdhadbflfdpaaGreatDoor
open Go.RowKit
set_option maxRecDepth 20000 in
theorem rjoin_any (gp cnt cap m:Nat) (t:Nat→Nat) (hm:m≤140737488355328) (hcnt:cnt<1000000) (w:World) (hP:Parts w gp cnt m t) :
 Calls Tryz.prog 69 #[.slice (some ⟨gp,0,none⟩) cnt cap] w fun e w'=>∃ s,e = .returned s∧Own w.heap.size w' s m t∧Below w.heap.size w w':=by
 obtain ⟨pvs,L,h0,h1,h2⟩:=hP
 go_enter Tryz.func69,Tryz.ntmps69
 go_wp2
 go_loopw [3,4] (fun o i wr=>∃ k A:Nat,k≤cnt∧Hid (A=L k)∧i = .int .i64 (k:Int)∧(∃ xo co,o = .slice xo A co∧Own w.heap.size wr (.slice xo A co) A t)∧Below w.heap.size w wr) (fun _ i _=>cnt - (intOf i).toNat)
 case atStart=>exact ⟨0,0,Nat.zero_le _,Hid.mk' h0.symm,by go_num,⟨none,0,rfl,Own.nil _ _ _⟩,Below.refl _ _⟩
 case round =>
  obtain ⟨k,A,hk,HA,rfl,⟨xo,co,rfl,own⟩,hb⟩:=hrel
  by_cases hlt:k<cnt
  · obtain ⟨c1,c2,c3,c4⟩:=h2 k hlt
    obtain ⟨xs,cs,hp,hxn,-,hsrc⟩:=c4.src
    have hc:wr.cell? ⟨gp,k,none⟩=some (.slice xs (L (k+1) - L k) cs):=by
     rw [←hp]
     exact (hb.cell (p:=⟨gp,k,none⟩) (block_lt_of_cell c1)).trans c1
    have hs:=hsrc wr hb
    obtain ⟨D,hD⟩:∃ D,D=L (k+1) - L k:=⟨_,rfl⟩
    have hl:A+D=L (k+1):=by have:=HA.out;omega
    have hlm:A+D≤140737488355328:=by omega
    have hcg:∀ q,q<A+D→cat A t (fun j=>t (L k+j)) q=t q:=fun q hq=>by
     have:=HA.out
     unfold cat
     by_cases e:q<A
     · rw [if_pos e]
     · rw [if_neg e]
       show t (L k+(q - A))=t q
       rw [show L k+(q - A)=q by omega]
    obtain ⟨Y,hY⟩:∃ Y:Nat→Nat,Y=fun j=>t (L k+j):=⟨_,rfl⟩
    rw [←hD] at hc hs
    rw [←hY] at hs hcg
    have hki:(k:Int)<cnt:=by omega
    have Hl:Hid (A+D=L (k+1)):=hl
    have HD:Hid (D=L (k+1) - L k):=hD
    clear c1 c2 c3 c4 hp hsrc hD hl hY h0 h1
    go_wp2_with (at_builtin;refine wpList_append_bytes rfl (.tmp 11) (.tmp 15) rfl w.heap.size _ A t rfl own xs D cs Y rfl hs hxn hlm hb.size ?_;intro v7 w7 own7 hg7;have hb7:=Own.grown hb hg7 own (Nat.le_refl _) hb.size)
    have own8:Own w.heap.size w7 v7 (A+D) t:=own7.congr hcg
    obtain ⟨x7,c7,hv7⟩:∃ x c,v7 = .slice x (A+D) c:=by
     rcases own8.form with ⟨hv,e0⟩ | ⟨g,c,hv,_⟩
     · exact ⟨none,0,by rw [hv,e0]⟩
     · exact ⟨_,c,hv⟩
    subst hv7
    clear own own7
    go_wp2
    go_roundw
    case rel=>exact ⟨k+1,A+D,by omega,Hid.mk' Hl.out,by go_num,⟨x7,c7,rfl,own8⟩,hb7⟩
    case measure=>show cnt - ((k:Int)+1).toNat<cnt - (k:Int).toNat;omega
  · have hke:k=cnt:=by omega
    have hki:¬((k:Int)<cnt):=by omega
    have hAm:A=m:=by rw [HA.out,hke,h1]
    clear h2 h0 h1 HA hki hke
    subst hAm
    have hki:¬((k:Int)<cnt):=by omega
    go_wp2
    go_ret
    exact ⟨_,rfl,own,hb⟩
end Go.Proofs.YtibdhadbflfdpaaGreatDoor
namespace Go.Proofs.YtibdhadbflfdpaaGreatDoor
open Go.RowKit
def strL (l:List Nat):ByteArray:=⟨(l.map UInt8.ofNat).toArray⟩
theorem litB_lt {l:List Nat} (h:∀ x,x∈l→x<256) (j:Nat):litB l j<256:=by
 unfold litB
 by_cases hj:j<l.length
 · rw [List.getD_eq_getElem?_getD,List.getElem?_eq_getElem hj];exact h _ (List.getElem_mem hj)
 · rw [List.getD_eq_getElem?_getD,List.getElem?_eq_none (by omega)];decide
theorem conv_label (w:World) (l:List Nat) (h:∀ x,x∈l→x<256):∃ c W,(convert 9 22 (.string (strL l))).run Tryz.prog w = .ok (.slice (some ⟨w.heap.size,0,none⟩) l.length c) W∧BytesIn W (.slice (some ⟨w.heap.size,0,none⟩) l.length c) l.length (litB l)∧Below w.heap.size w W:=by
 have hs:(strL l).size=l.length:=by simp [strL,ByteArray.size]
 have hr:=Lib.run_convert_string_bytes (P:=Tryz.prog) w 9 22 5 (strL l) Tryz.underlying9 Tryz.underlying22 Tryz.underlying5
 rw [hs] at hr
 refine ⟨_,_,hr,.inr ⟨w.heap.size,0,_,rfl,by rw [Lib.bytesWorld_size];exact Nat.lt_succ_self _,grownCap_ge _ _ _ _,fun j hj => ?_⟩,⟨by simp [Lib.bytesWorld,World.freeze,World.alloc,World.drew,-World.alloc_eq,-World.drew_eq],by simp [Lib.bytesWorld,World.freeze,World.alloc,World.drew,-World.alloc_eq,-World.drew_eq],by simp [Lib.bytesWorld,World.freeze,World.alloc,World.drew,-World.alloc_eq,-World.drew_eq],by rw [Lib.bytesWorld_size];exact Nat.le_succ _,fun k hk=>Lib.bytesWorld_at_old _ _ _ k hk⟩⟩
 have hx:=h _ (List.getElem_mem hj)
 have e:((strL l).data.toList.getD j 0).toNat=litB l j:=by simp [strL,litB,hj,Nat.mod_eq_of_lt hx]
 rw [Nat.zero_add,Lib.bytesWorld_cell w _ _ j (by rw [hs];exact hj),e]
theorem lV1_lt:∀ x,x∈lV1→x<256:=by decide
set_option maxRecDepth 20000 in
set_option maxHeartbeats 1000000 in
theorem rextract_any (suite label:List Nat) (hsu:∀ x,x∈suite→x<256) (hla:∀ x,x∈label→x<256) (hsz:suite.length+label.length≤100) (sv tv iv:Value) (sn m:Nat) (salt ikm:Nat→Nat) (hsalt:∀ j,salt j<256) (hikm:∀ j,ikm j<256) (hsn:sn<140737488355000) (hm:m+200<140737488355000) (w:World) (h1:BytesIn w sv suite.length (litB suite)) (h2:BytesIn w tv sn salt) (h3:BytesIn w iv m ikm) :
 Calls Tryz.prog 33 #[sv,tv,.string (strL label),iv] w fun e w'=>∃ s,e = .returned s∧Own w.heap.size w' s 32 (lxN suite sn salt label m ikm)∧Below w.heap.size w w':=by
 obtain ⟨xs,cs,rfl,-,-,-⟩:=h1.src
 obtain ⟨xi,ci,rfl,-,-,-⟩:=h3.src
 have hc:(convert 22 22 (.slice (some ⟨w.heap.size,0,none⟩) 7 7)).run Tryz.prog (w.alloc (.cells #[.int .u8 72,.int .u8 80,.int .u8 75,.int .u8 69,.int .u8 45,.int .u8 118,.int .u8 49] 5)) = .ok (.slice (some ⟨w.heap.size,0,none⟩) 7 7) (w.alloc (.cells #[.int .u8 72,.int .u8 80,.int .u8 75,.int .u8 69,.int .u8 45,.int .u8 118,.int .u8 49] 5 (7,8))):=convC w lV1
 have hb1:Below w.heap.size w (w.alloc (.cells #[.int .u8 72,.int .u8 80,.int .u8 75,.int .u8 69,.int .u8 45,.int .u8 118,.int .u8 49] 5 (7,8))):=(Below.refl _ _).alloc (Nat.le_refl _) _
 have hB1:BytesIn (w.alloc (.cells #[.int .u8 72,.int .u8 80,.int .u8 75,.int .u8 69,.int .u8 45,.int .u8 118,.int .u8 49] 5 (7,8))) (.slice (some ⟨w.heap.size,0,none⟩) 7 7) 7 (litB lV1):=litB_B w lV1 (7,8)
 obtain ⟨W1,hW1⟩:∃ W,W=w.alloc (.cells #[.int .u8 72,.int .u8 80,.int .u8 75,.int .u8 69,.int .u8 45,.int .u8 118,.int .u8 49] 5 (7,8)):=⟨_,rfl⟩
 rw [←hW1] at hc hb1 hB1
 obtain ⟨c3,W2,hcl,hB2,hb2⟩:=conv_label W1 label hla
 have hb02:=below_next hb1 hb2
 have hP:=parts_list W2 [(.slice (some ⟨w.heap.size,0,none⟩) 7 7,7,litB lV1),(.slice xs suite.length cs,suite.length,litB suite),(.slice (some ⟨W1.heap.size,0,none⟩) label.length c3,label.length,litB label),(.slice xi m ci,m,ikm)] 22 (by
  intro p hp
  simp only [List.mem_cons,List.not_mem_nil,or_false] at hp
  rcases hp with rfl | rfl | rfl | rfl
  · exact hB1.keep hb2
  · exact h1.keep hb02
  · exact hB2
  · exact h3.keep hb02)
 have hb3:Below w.heap.size w (W2.alloc (.cells #[.slice (some ⟨w.heap.size,0,none⟩) 7 7,.slice xs suite.length cs,.slice (some ⟨W1.heap.size,0,none⟩) label.length c3,.slice xi m ci] 22)):=hb02.alloc hb02.size _
 have hL:lenL (lxT suite label m ikm)=7+(suite.length+(label.length+(m+0))):=rfl
 have hlt:∀ j,catL (lxT suite label m ikm) j<256:=catL_lt _ (by
  intro p hp
  simp only [lxT,List.mem_cons,List.not_mem_nil,or_false] at hp
  rcases hp with rfl | rfl | rfl | rfl
  · exact litB_lt lV1_lt
  · exact litB_lt hsu
  · exact litB_lt hla
  · exact hikm)
 have hj:=rjoin_any W2.heap.size 4 4 (lenL (lxT suite label m ikm)) (catL (lxT suite label m ikm)) (by rw [hL];omega) (by decide) _ hP
 have hx:=fun v W hb hv=>rExtract_any tv v sn (lenL (lxT suite label m ikm)) salt (catL (lxT suite label m ikm)) hsalt hlt hsn (by rw [hL];omega) W (h2.keep hb) hv
 replace hj:Calls Tryz.prog 69 #[.slice (some ⟨W2.heap.size,0,none⟩) 4 4] (W2.alloc (.cells #[.slice (some ⟨w.heap.size,0,none⟩) 7 7,.slice xs suite.length cs,.slice (some ⟨W1.heap.size,0,none⟩) label.length c3,.slice xi m ci] 22)) _:=hj
 obtain ⟨N,hN⟩:∃ N,N=lenL (lxT suite label m ikm):=⟨_,rfl⟩
 obtain ⟨F,hF⟩:∃ F,F=catL (lxT suite label m ikm):=⟨_,rfl⟩
 obtain ⟨T,hT⟩:∃ T,T=lxN suite sn salt label m ikm:=⟨_,rfl⟩
 have hT2:tagH (keyB sn salt) N F=T:=by rw [hT,hN,hF];rfl
 rw [←hN,←hF] at hj hx
 rw [hT2] at hx
 rw [←hT]
 obtain ⟨S,hS⟩:∃ S,S=strL label:=⟨_,rfl⟩
 rw [←hS] at hcl ⊢
 clear hP hB1 hB2 hL hlt hN hF hT hT2 hS hW1 hb1 hb2 h1 h3
 go_enter Tryz.func33,Tryz.ntmps33
 go_wp2_with (first
  | rw [hc]
  | rw [hcl]
  | (go_at_call 69;refine hj.mono ?_;clear hj;rintro e w4 ⟨s4,rfl,own4,hb4⟩;(have b4:=below_next hb3 hb4))
  | (go_at_call 70;refine (hx s4 _ b4 own4.bytesIn).mono ?_;clear hx;rintro e w5 ⟨s5,rfl,own5,hb5⟩))
 go_ret
 exact ⟨s5,rfl,own5.lower b4.size,below_next b4 hb5⟩
end Go.Proofs.YtibdhadbflfdpaaGreatDoor
namespace Go.Proofs.YtibdhadbflfdpaaGreatDoor
open Go.RowKit
theorem run_append_zeros_nil (w:World) (ty:TypeId) (m:Nat) (h0:0<m) (hm:m≤1000000) :
 (Builtin.append_ #[22,3] ty #[.slice none 0 0,.int .i64 m]).run Tryz.prog w =
  .ok (.slice (some ⟨w.heap.size,0,none⟩) m (grownCap w m 0 5)) (w.drew.alloc (.cells ((ints .u8 m (fun _=>0)).toArray ++ Builtin.zeroCells #[.int .u8 0] (grownCap w m 0 5 - m)) 5)):=by
 obtain ⟨i,hi,hz,hz1,hz2⟩:=info_parts Tryz.info5
 have h63':¬ (9223372036854775807<(m:Int)):=by omega
 have hw:IntKind.i64.wrap (m:Int)=m:=by simp only [IntKind.wrap_i64];omega
 have hl0:¬((m:Int)<0):=by omega
 have h48:¬ (281474976710656<(m:Int)):=by omega
 have hm0:¬(m=0):=by omega
 have hai:∀ W,Sem.run Tryz.prog (asInt (.int .i64 (m:Int))) W = .ok (m:Int) W:=fun _=>rfl
 have hc:(Value.int IntKind.u8 0).cells=#[.int .u8 0]:=rfl
 have hu:=run_underlying (P:=Tryz.prog) Tryz.underlying22
 have hu2:=run_underlying (P:=Tryz.prog) Tryz.underlying3
 have hns:¬ (281474976710656<Builtin.nextslicecap m 0):=by rw [nextslicecap_zero h0];omega
 simp [Builtin.append_,hu,hu2,sizeOf,typeInfo,zeroValue,hi,hz,hai,hw,hl0,h48,hz1,hz2,h63',Question.forced,run_firstCells_none,newRow,grownCap,hc,hm0,hns]
 rw [zeroCells_u8 m]
theorem append_zeros0 (w:World) (ty:TypeId) (m:Nat) (h0:0<m) (hm:m≤1000000) :
 ∃ g cap w',(Builtin.append_ #[22,3] ty #[.slice none 0 0,.int .i64 m]).run Tryz.prog w = .ok (.slice (some ⟨g,0,none⟩) m cap) w'∧m≤cap∧Own w.heap.size w' (.slice (some ⟨g,0,none⟩) 0 cap) 0 (fun _=>0)∧Below w.heap.size w w':=by
 have hge:=grownCap_ge w m 0 5
 have hcm:=grownCap_le_maxLen w m 0 5 (by unfold maxLen;omega)
 refine ⟨_,_,_,run_append_zeros_nil w ty m h0 hm,hge,⟨rfl,.inr ⟨w.heap.size,_,_,rfl,Nat.le_refl _,heap_alloc_new w.drew _,Nat.zero_le _,hcm,?_,rfl⟩⟩,((Below.refl _ _).drew).alloc (Nat.le_refl _) _⟩
 simp only [Array.size_append,List.size_toArray,size_zeroCells,ints_len]
 simp
 omega
theorem wpList_append_zeros0 {w:World} {ops:Array Oper} {rest:List Oper} {o:Oper} {a:Act} {Q:Exit→Act→World→Prop} (hgd:o.guard=none) (s x:Operand)
 (ho:o.op = .call { callee := .builtin .append,args:=#[s,x],argTypes:=#[22,3] }) (hs:a.eval s = .slice none 0 0) (m:Nat) (hx:a.eval x = .int .i64 m) (h0:0<m) (hm:m≤1000000)
 (h:∀ g cap w',m≤cap→Own w.heap.size w' (.slice (some ⟨g,0,none⟩) 0 cap) 0 (fun _=>0)→Below w.heap.size w w'→wpList Tryz.prog ops Q rest (a.put o.dst (.slice (some ⟨g,0,none⟩) m cap)) w'):wpList Tryz.prog ops Q (o :: rest) a w:=by
 refine wpList_plain hgd fun K hK => ?_
 obtain ⟨g,cap,w',h1,h2,h3,h4⟩:=append_zeros0 w o.type m h0 hm
 unfold Oper.wp execOp
 simp only [ho,resolve,invoke,builtin,Sem.run_bind,Sem.run_pure,Result.andThen_ok,List.map_toArray,List.map_cons,List.map_nil,hs,hx,h1]
 exact hK _ _ (h g cap w' h2 h3 h4)
set_option maxRecDepth 20000 in
set_option maxHeartbeats 4000000 in
theorem grow_any (m:Nat) (h0:0<m) (hm:m≤1000000) (w:World) :
 Calls Tryz.prog 102 #[.slice none 0 0,.int .i64 m] w fun e w'=>∃ g cap,e = .returned (.slice (some ⟨g,0,none⟩) 0 cap)∧Own w.heap.size w' (.slice (some ⟨g,0,none⟩) 0 cap) 0 (fun _=>0)∧Below w.heap.size w w':=by
 have e1:¬((m:Int)<0):=by omega
 have e2:(0:Int)<(m:Int):=by omega
 have e3:IntKind.i64.wrap ((m:Int) - 0)=(m:Int):=by simp only [IntKind.wrap_i64];omega
 have e4:IntKind.i64.wrap (m:Int)=(m:Int):=by simp only [IntKind.wrap_i64];omega
 go_enter Tryz.func102,Tryz.ntmps102
 go_wp2_with (at_builtin;refine wpList_append_zeros0 rfl (.tmp 20) (.tmp 21) rfl rfl m rfl h0 hm ?_;intro g cap w1 hcap own hb)
 go_ret
 exact ⟨g,cap,rfl,own,hb⟩
end Go.Proofs.YtibdhadbflfdpaaGreatDoor
namespace Go.Proofs.YtibdhadbflfdpaaGreatDoor
open Go.RowKit
set_option maxRecDepth 20000 in
set_option maxHeartbeats 8000000 in
theorem concat_parts (gp cnt m:Nat) (t:Nat→Nat) (w:World) (hP:Parts w gp cnt m t) (hcnt:cnt≤1000) (hsum:m≤1000000) (h0:0<m) :
 Calls Tryz.prog 47 #[.slice (some ⟨gp,0,none⟩) cnt cnt] w fun e w'=>∃ s,e = .returned s∧Own w.heap.size w' s m t∧Below w.heap.size w w':=by
 obtain ⟨pvs,L,p0,p1,p2⟩:=hP
 have P2:=Hid.mk' p2
 clear p2
 have hg:=grow_any m h0 hsum w
 go_enter Tryz.func47,Tryz.ntmps47
 go_wp2
 go_loopw [3,11] (fun s i wr=>∃ q T:Nat,q≤cnt∧i = .int .i64 q∧Hid (T=L q)∧s = .int .i64 T∧w=wr) (fun _ i _=>cnt - (intOf i).toNat)
 case atStart=>exact ⟨0,0,Nat.zero_le _,rfl,Hid.mk' p0.symm,rfl,rfl⟩
 case round =>
  obtain ⟨q,T,hq,rfl,HT,rfl,rfl⟩:=hrel
  by_cases hlt:q<cnt
  · obtain ⟨c1,c2,c3,c4⟩:=P2.out q hlt
    obtain ⟨xp,cp,hpv,hxn,hncp,hsrc⟩:=c4.src
    obtain ⟨n,hn⟩:∃ n,n=L (q+1) - L q:=⟨_,rfl⟩
    have hTn:T+n=L (q+1):=by have:=HT.out;omega
    have hTm:T+n≤1000000:=by omega
    have r0:w.cell? ⟨gp,q,none⟩=some (.slice xp n cp):=by rw [c1,hpv,hn]
    have hqi:(0:Int)≤(q:Int)∧(q:Int)<cnt:=by omega
    have hd:decide ((q:Int)<(cnt:Int))=true:=decide_eq_true (by omega)
    have ew:IntKind.i64.wrap ((T:Int)+(n:Int))=(T:Int)+n:=by simp only [IntKind.wrap_i64];omega
    have en:¬((T:Int)+(n:Int)<0):=by omega
    have HN:Hid (T+n=L (q+1)):=hTn
    clear hn hTn c1 c2 c3 c4 hpv hsrc hg p0 p1
    go_wp2
    go_roundw
    case rel=>exact ⟨q+1,T+n,by omega,by go_num,Hid.mk' HN.out,by simp,by first | rfl | trivial⟩
    case measure=>simp [intOf];omega
  · have hqe:q=cnt:=by omega
    subst hqe
    have hTm:T=m:=by rw [HT.out,p1]
    subst hTm
    go_wp2_with (go_at_call 102;refine hg.mono ?_;clear hg;rintro e w1 ⟨g1,cap1,rfl,own1,hb1⟩)
    have hd0:decide ((q:Int)<(q:Int))=false:=decide_eq_false (by omega)
    try rw [hd0]
    clear hd0 hlt HT
    go_loopw [6,27] (fun ns i wr=>∃ r A:Nat,r≤q∧i = .int .i64 r∧Hid (A=L r)∧Own w.heap.size wr ns A t∧Below w.heap.size w wr) (fun _ i _=>q - (intOf i).toNat)
    case atStart=>exact ⟨0,0,Nat.zero_le _,rfl,Hid.mk' p0.symm,own1.congr (fun j hj=>absurd hj (Nat.not_lt_zero j)),hb1⟩
    case round =>
     clear own1 hb1
     obtain ⟨r,A,hr,rfl,HA,own,hbw⟩:=hrel
     by_cases hlt:r<q
     · obtain ⟨c1,c2,c3,c4⟩:=P2.out r hlt
       obtain ⟨xp,cp,hpv,hxn,hncp,hsrc⟩:=c4.src
       obtain ⟨n,hn⟩:∃ n,n=L (r+1) - L r:=⟨_,rfl⟩
       have hTn:A+n=L (r+1):=by have:=HA.out;omega
       have hTm:A+n≤1000000:=by omega
       have r0:wr.cell? ⟨gp,r,none⟩=some (.slice xp n cp):=by rw [hbw.cell (p:=⟨gp,r,none⟩) (block_lt_of_cell c1),c1,hpv,hn]
       have hcg:∀ z,z<A+n→cat A t (fun j=>t (L r+j)) z=t z:=fun z hz=>by
        have:=HA.out
        unfold cat
        by_cases e:z<A
        · rw [if_pos e]
        · rw [if_neg e]
          show t (L r+(z - A))=t z
          rw [show L r+(z - A)=z by omega]
       have src:=hsrc wr hbw
       rw [←hn] at src
       obtain ⟨Y,hY⟩:∃ Y:Nat→Nat,Y=fun j=>t (L r+j):=⟨_,rfl⟩
       rw [←hY] at src hcg
       have hqi:(0:Int)≤(r:Int)∧(r:Int)<q:=by omega
       have hd:decide ((r:Int)<(q:Int))=true:=decide_eq_true (by omega)
       have hsz:=hbw.size
       have HN:Hid (A+n=L (r+1)):=hTn
       clear hn hTn c1 c2 c3 c4 hpv hsrc p0 p1 hY
       go_wp2_with (at_builtin;refine wpList_append_bytes rfl (.tmp 31) (.tmp 32) rfl w.heap.size u6 A t rfl own xp n cp Y rfl src hxn (by omega) hsz ?_;intro v6 w6 own6 grow6;(have hb6:Below w.heap.size w w6:=Own.grown hbw grow6 own (Nat.le_refl _) hsz))
       go_roundw
       case rel=>exact ⟨r+1,A+n,by omega,by go_num,Hid.mk' HN.out,own6.congr hcg,hb6⟩
       case measure=>simp [intOf];omega
     · have hqe:r=q:=by omega
       subst hqe
       have hA:=HA.out
       rw [p1] at hA
       go_wp2
       go_ret
       exact ⟨_,rfl,by rw [←hA];exact own,hbw⟩
theorem Parts.congr {w:World} {gp cnt m:Nat} {t u:Nat→Nat} (h:Parts w gp cnt m t) (e:∀ j,j<m→t j=u j):Parts w gp cnt m u:=by
 obtain ⟨pvs,L,p0,p1,p2⟩:=h
 refine ⟨pvs,L,p0,p1,fun i hi => ?_⟩
 obtain ⟨c1,c2,c3,c4⟩:=p2 i hi
 exact ⟨c1,c2,c3,c4.cong fun j hj=>e _ (by omega)⟩
theorem Parts.keep {w w':World} {gp cnt m:Nat} {t:Nat→Nat} (h:Parts w gp cnt m t) (hb:Below w.heap.size w w'):Parts w' gp cnt m t:=by
 obtain ⟨pvs,L,p0,p1,p2⟩:=h
 refine ⟨pvs,L,p0,p1,fun i hi => ?_⟩
 obtain ⟨c1,c2,c3,c4⟩:=p2 i hi
 exact ⟨(hb.cell (p:=⟨gp,i,none⟩) (block_lt_of_cell c1)).trans c1,c2,c3,c4.keep hb⟩
def Texts (w:World) (v:Value) (cnt m:Nat) (t:Nat→Nat):Prop:=(v = .slice none 0 0∧cnt=0∧m=0)∨∃ gp,v = .slice (some ⟨gp,0,none⟩) cnt cnt∧Parts w gp cnt m t
theorem Texts.keep {w w':World} {v:Value} {cnt m:Nat} {t:Nat→Nat} (h:Texts w v cnt m t) (hb:Below w.heap.size w w'):Texts w' v cnt m t:=by
 rcases h with h | ⟨gp,hv,hP⟩
 · exact .inl h
 · exact .inr ⟨gp,hv,hP.keep hb⟩
theorem texts_none (w:World) (t:Nat→Nat):Texts w (.slice none 0 0) 0 0 t := .inl ⟨rfl,rfl,rfl⟩
theorem texts_one (w:World) (v:Value) (m:Nat) (t:Nat→Nat) (h:BytesIn w v m t):Texts (w.alloc (.cells #[v] 22)) (.slice (some ⟨w.heap.size,0,none⟩) 1 1) 1 m t :=
 .inr ⟨w.heap.size,rfl,(parts_list w [(v,m,t)] 22 (fun p hp=>by
  simp only [List.mem_cons,List.not_mem_nil,or_false] at hp
  subst hp
  exact h)).congr fun j hj=>by
  show cat m t (fun _=>0) j=t j
  exact cat_left hj⟩
theorem texts_two (w:World) (v u:Value) (n m:Nat) (t s:Nat→Nat) (h1:BytesIn w v n t) (h2:BytesIn w u m s):Texts (w.alloc (.cells #[v,u] 22)) (.slice (some ⟨w.heap.size,0,none⟩) 2 2) 2 (n+m) (catL [(n,t),(m,s)]) :=
 .inr ⟨w.heap.size,rfl,parts_list w [(v,n,t),(u,m,s)] 22 (fun p hp=>by
  simp only [List.mem_cons,List.not_mem_nil,or_false] at hp
  rcases hp with rfl | rfl
  · exact h1
  · exact h2)⟩
end Go.Proofs.YtibdhadbflfdpaaGreatDoor
namespace Go.Proofs.YtibdhadbflfdpaaGreatDoor
open Go.RowKit
theorem strCells_lit (l:List Nat) (h:∀ x,x∈l→x<256):Lib.strCells (strL l)=ints .u8 l.length (litB l):=by
 apply List.ext_getElem?
 intro j
 by_cases hj:j<l.length
 · rw [ints_at _ _ _ j hj]
   have hx:=h _ (List.getElem_mem hj)
   simp [Lib.strCells,strL,litB,hj,Nat.mod_eq_of_lt hx]
 · rw [List.getElem?_eq_none (by rw [Lib.strCells_length];simp [strL,ByteArray.size];omega),List.getElem?_eq_none (by rw [ints_len];omega)]
theorem wpList_append_str {w:World} {ops:Array Oper} {rest:List Oper} {o:Oper} {a:Act} {Q:Exit→Act→World→Prop} (hgd:o.guard=none) (s x:Operand) (tu:TypeId) (hu:Tryz.prog.underlying tu=some .string)
 (ho:o.op = .call { callee := .builtin .append,args:=#[s,x],argTypes:=#[22,tu] }) (base:Nat)
 (v:Value) (n:Nat) (X:Nat→Nat) (hs:a.eval s=v) (hown:Own base w v n X) (l:List Nat) (hlt:∀ x,x∈l→x<256) (hx:a.eval x = .string (strL l))
 (hl:n+l.length≤140737488355328) (hbase:base≤w.heap.size)
 (h:∀ v' w',Own base w' v' (n+l.length) (cat n X (litB l))→w.grownBy w' v.ownBlock→wpList Tryz.prog ops Q rest (a.put o.dst v') w'):wpList Tryz.prog ops Q (o :: rest) a w:=by
 obtain ⟨i0,hi,hz0,hz1,hz2⟩:=info_parts Tryz.info5
 have hsz:(strL l).size=l.length:=by simp [strL,ByteArray.size]
 refine wpList_plain hgd fun K hK => ?_
 obtain ⟨v',w',h1,h2,h3,-⟩:=Lib.run_append_own_string (P:=Tryz.prog) (w:=w) base 22 tu o.type 5 i0 Tryz.underlying22 hu hi hz0 hz1 hz2 v n _ hown (strL l) (by rw [hsz];unfold maxLen;omega) (by rw [hsz];omega) hbase
 rw [hsz,strCells_lit l hlt,ints_add] at h2
 unfold Oper.wp execOp
 simp only [ho,resolve,invoke,builtin,Sem.run_bind,Sem.run_pure,Result.andThen_ok,List.map_toArray,List.map_cons,List.map_nil,hs,hx,h1]
 exact hK _ _ (h v' w' h2 h3)
def lbT (suite label:List Nat) (an:Nat) (A:Nat→Nat) (m:Nat) (t:Nat→Nat):List (Nat × (Nat→Nat)):=(an,A) :: lxT suite label m t
theorem lbT_front (suite label:List Nat) (an:Nat) (A:Nat→Nat) (m:Nat) (t:Nat→Nat) (j:Nat) (hj:j<an+7+suite.length+label.length) :
 cat (an+7+suite.length) (cat (an+7) (cat an A (litB lV1)) (litB suite)) (litB label) j=catL (lbT suite label an A m t) j:=by
 show _=cat an A (cat 7 (litB lV1) (cat suite.length (litB suite) (cat label.length (litB label) (cat m t (fun _=>0))))) j
 unfold cat
 by_cases h1:j<an
 · simp only [h1,show j<an+7 by omega,show j<an+7+suite.length by omega,if_true]
 · by_cases h2:j<an+7
   · simp only [h1,h2,show j - an<7 by omega,show j<an+7+suite.length by omega,if_true,if_false]
   · by_cases h3:j<an+7+suite.length
     · simp only [h1,h2,h3,show ¬j - an<7 by omega,show j - (an+7)<suite.length by omega,if_true,if_false,Nat.sub_sub]
     · simp only [h1,h3,show ¬j - an<7 by omega,show ¬j - (an+7)<suite.length by omega,show j - (an+7+suite.length)<label.length by omega,if_true,if_false,Nat.sub_sub]
theorem lbT_back (suite label:List Nat) (an:Nat) (A:Nat→Nat) (m:Nat) (t:Nat→Nat) (j:Nat) (hj:j<m):catL (lbT suite label an A m t) (an+7+suite.length+label.length+j)=t j:=by
 show cat an A (cat 7 (litB lV1) (cat suite.length (litB suite) (cat label.length (litB label) (cat m t (fun _=>0))))) _=_
 unfold cat
 rw [if_neg (by omega),if_neg (by omega),if_neg (by omega),if_neg (by omega),if_pos (by omega)]
 congr 1
 omega
set_option maxRecDepth 20000 in
set_option maxHeartbeats 4000000 in
theorem labelled_any (suite label:List Nat) (hsu:∀ x,x∈suite→x<256) (hla:∀ x,x∈label→x<256) (hsz:suite.length+label.length≤100) (av tv:Value) (an cnt m:Nat) (A t:Nat→Nat) (han:an≤100) (hcnt:cnt<1000000) (hm:m+300<140737488355000) (w:World) (h1:BytesIn w av an A) (h2:Texts w tv cnt m t) :
 Calls Tryz.prog 226 #[.string (strL suite),av,.string (strL label),tv] w fun e w'=>∃ s,e = .returned s∧Own w.heap.size w' s (an+7+suite.length+label.length+m) (catL (lbT suite label an A m t))∧Below w.heap.size w w':=by
 obtain ⟨xa,ca,rfl,hxa,-,hsa⟩:=h1.src
 obtain ⟨xt,gp,pvs,L,hxt,hxs,p0,p1,p2⟩:∃ (xt:Option Addr) (gp:Nat) (pvs:Nat→Value) (L:Nat→Nat),tv = .slice xt cnt cnt∧(0<cnt→xt=some ⟨gp,0,none⟩)∧L 0=0∧L cnt=m∧∀ i,i<cnt→w.cell? ⟨gp,i,none⟩=some (pvs i)∧L i≤L (i+1)∧L (i+1)≤m∧BytesIn w (pvs i) (L (i+1) - L i) (fun j=>t (L i+j)):=by
  rcases h2 with ⟨rfl,rfl,rfl⟩ | ⟨gp,rfl,pvs,L,q0,q1,q2⟩
  · exact ⟨none,0,fun _ => .bool false,fun _=>0,rfl,fun h=>absurd h (Nat.lt_irrefl 0),rfl,rfl,fun i hi=>absurd hi (Nat.not_lt_zero i)⟩
  · exact ⟨_,gp,pvs,L,rfl,fun _=>rfl,q0,q1,q2⟩
 subst hxt
 have P2:=Hid.mk' p2
 clear p2
 obtain ⟨T,hT⟩:∃ T,T=an+7+suite.length+label.length:=⟨_,rfl⟩
 obtain ⟨F,hF⟩:∃ F,F=catL (lbT suite label an A m t):=⟨_,rfl⟩
 have hfr:=lbT_front suite label an A m t
 have hbk:=lbT_back suite label an A m t
 rw [←hF,←hT] at hfr hbk
 have hT2:T≤300:=by omega
 rw [←hF,←hT]
 have hs0:=hsa w (Below.refl _ _)
 have HT:Hid (T=an+7+suite.length+label.length):=hT
 clear hT hF hsa h1 h2
 go_enter Tryz.func226,Tryz.ntmps226
 go_wp2_with (first
  | (at_builtin;refine wpList_append_bytes rfl (.const (.slice none 0 0)) (.tmp 12) rfl w.heap.size _ 0 A rfl (Own.nil _ _ _) xa an ca A rfl hs0 hxa (by omega) (Nat.le_refl _) ?_;intro v1 w1 own1 g1;(have b1:=Own.grown (Below.refl _ _) g1 (Own.nil _ _ A) (Nat.le_refl _) (Nat.le_refl _));rw [Nat.zero_add] at own1;replace own1:=own1.congr (Y:=A) (fun j _=>by unfold cat;rw [if_neg (by omega),Nat.sub_zero]);(obtain ⟨y1,d1,e1⟩:=own1.slice);subst e1;clear hs0)
  | (at_builtin;refine wpList_append_str rfl (.tmp 14) _ 9 Tryz.underlying9 rfl w.heap.size _ an A rfl own1 lV1 lV1_lt rfl (by show an+7≤_;omega) b1.size ?_;intro v2 w2 own2 g2;(have b2:=Own.grown b1 g2 own1 (Nat.le_refl _) b1.size);(replace own2:Own _ _ _ (an+7) _:=own2);(obtain ⟨y2,d2,e2⟩:=own2.slice);subst e2;clear own1)
  | (at_builtin;refine wpList_append_str rfl (.tmp 16) (.tmp 17) 213 Tryz.underlying213 rfl w.heap.size _ (an+7) _ rfl own2 suite hsu rfl (by omega) b2.size ?_;intro v3 w3 own3 g3;(have b3:=Own.grown b2 g3 own2 (Nat.le_refl _) b2.size);(obtain ⟨y3,d3,e3⟩:=own3.slice);subst e3;clear own2)
  | (at_builtin;refine wpList_append_str rfl (.tmp 19) (.tmp 20) 9 Tryz.underlying9 rfl w.heap.size _ (an+7+suite.length) _ rfl own3 label hla rfl (by omega) b3.size ?_;intro v4 w4 own4 g4;(have b4:=Own.grown b3 g4 own3 (Nat.le_refl _) b3.size);replace own4:=own4.congr (fun j hj=>hfr j (by have:=HT.out;omega));rw [←HT.out] at own4;(obtain ⟨y4,d4,e4⟩:=own4.slice);subst e4;clear own3))
 clear hfr
 go_loopw [9,24] (fun o i wr=>∃ k B:Nat,k≤cnt∧Hid (B=T+L k)∧i = .int .i64 (k:Int)∧(∃ xo co,o = .slice xo B co∧Own w.heap.size wr (.slice xo B co) B F)∧Below w.heap.size w wr) (fun _ i _=>cnt - (intOf i).toNat)
 case atStart=>exact ⟨0,T,Nat.zero_le _,Hid.mk' (by rw [p0,Nat.add_zero]),by go_num,⟨y4,d4,rfl,own4⟩,b4⟩
 case round =>
  obtain ⟨k,B,hk,HB,rfl,⟨xo,co,rfl,own⟩,hb⟩:=hrel
  clear own4 b4
  by_cases hlt:k<cnt
  · obtain rfl:=hxs (Nat.lt_of_le_of_lt (Nat.zero_le _) hlt)
    obtain ⟨c1,c2,c3,c4⟩:=P2.out k hlt
    obtain ⟨xs,cs,hp,hxn,-,hsrc⟩:=c4.src
    have hc:wr.cell? ⟨gp,k,none⟩=some (.slice xs (L (k+1) - L k) cs):=by
     rw [←hp]
     exact (hb.cell (p:=⟨gp,k,none⟩) (block_lt_of_cell c1)).trans c1
    have hs:=hsrc wr hb
    obtain ⟨D,hD⟩:∃ D,D=L (k+1) - L k:=⟨_,rfl⟩
    have hl:B+D=T+L (k+1):=by have:=HB.out;omega
    have hlm:B+D≤140737488355328:=by omega
    have hcg:∀ q,q<B+D→cat B F (fun j=>t (L k+j)) q=F q:=fun q hq=>by
     have:=HB.out
     unfold cat
     by_cases e:q<B
     · rw [if_pos e]
     · rw [if_neg e]
       show t (L k+(q - B))=F q
       rw [←hbk (L k+(q - B)) (by omega),show T+(L k+(q - B))=q by omega]
    obtain ⟨Y,hY⟩:∃ Y:Nat→Nat,Y=fun j=>t (L k+j):=⟨_,rfl⟩
    rw [←hD] at hc hs
    rw [←hY] at hs hcg
    have hki:(k:Int)<cnt:=by omega
    have Hl:Hid (B+D=T+L (k+1)):=hl
    clear c1 c2 c3 c4 hp hsrc hD hl hY p0 p1 hbk
    go_wp2_with (at_builtin;refine wpList_append_bytes rfl (.tmp 28) (.tmp 29) rfl w.heap.size _ B F rfl own xs D cs Y rfl hs hxn hlm hb.size ?_;intro v7 w7 own7 hg7;have hb7:=Own.grown hb hg7 own (Nat.le_refl _) hb.size)
    have own8:Own w.heap.size w7 v7 (B+D) F:=own7.congr hcg
    obtain ⟨x7,c7,hv7⟩:=own8.slice
    subst hv7
    clear own own7
    go_wp2
    go_roundw
    case rel=>exact ⟨k+1,B+D,by omega,Hid.mk' Hl.out,by go_num,⟨x7,c7,rfl,own8⟩,hb7⟩
    case measure=>show cnt - ((k:Int)+1).toNat<cnt - (k:Int).toNat;omega
  · have hqe:k=cnt:=by omega
    subst hqe
    have hB:=HB.out
    rw [p1] at hB
    go_wp2
    go_ret
    exact ⟨_,rfl,by rw [←hB];exact own,hb⟩
end Go.Proofs.YtibdhadbflfdpaaGreatDoor
