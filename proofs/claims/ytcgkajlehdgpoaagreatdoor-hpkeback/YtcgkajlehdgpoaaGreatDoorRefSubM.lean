/- What the proof stands on: RefSub, RefApi, RefPow, RRow, RStep, RAny. -/
import Derived.Test.YtcgkajlehdgpoaaGreatDoorLProdM
import Derived.Test.YtcgkajlehdgpoaaGreatDoorZAb2M
namespace Go.Proofs.YtcgkajlehdgpoaaGreatDoor
open Go.RowKit
def pl (i:Nat):Int:=if i=0 then 65517 else if i=15 then 32767 else 65535
def bw (X:Nat→Int):Nat→Int
 | 0=>0
 | i+1=>if X i - pl i - bw X i<0 then 1 else 0
def rS (X:Nat→Int) (i:Nat):Int:=X i - pl i - bw X i
end Go.Proofs.YtcgkajlehdgpoaaGreatDoor
namespace Go.Proofs.YtcgkajlehdgpoaaGreatDoor
open Go.RowKit
theorem Dig.mono {R S:Int} {L:Nat→Int} (h:Dig R L) (hRS:R≤S):Dig S L:=⟨by have:=h.low;omega,h.dig⟩
end Go.Proofs.YtcgkajlehdgpoaaGreatDoor
namespace Go.Proofs.YtcgkajlehdgpoaaGreatDoor
open Go.RowKit
structure Rep (L:Nat→Int) (x:Nat):Prop where
 dig:Dig 65573 L
 val:valR L 16%(pF:Int)=((x%pF:Nat):Int)
theorem Rep.bd {L:Nat→Int} {x:Nat} (h:Rep L x):∀ j,j<16→-131072≤L j∧L j≤131072:=fun j hj=>by have:=h.dig.all (by decide) j hj;omega
end Go.Proofs.YtcgkajlehdgpoaaGreatDoor
namespace Go.Proofs.YtcgkajlehdgpoaaGreatDoor
open Go.RowKit
theorem Rep.cast {L:Nat→Int} {x y:Nat} (h:Rep L x) (e:x%pF=y%pF):Rep L y:=⟨h.dig,by rw [h.val,e]⟩
structure Rw (L:Nat→Int) (x:Nat):Prop where
 dig:Dig 65725 L
 val:valR L 16%(pF:Int)=((x%pF:Nat):Int)
theorem Rep.wide {L:Nat→Int} {x:Nat} (h:Rep L x):Rw L x:=⟨h.dig.mono (by decide),h.val⟩
theorem Rw.bd {L:Nat→Int} {x:Nat} (h:Rw L x):∀ j,j<16→-131072≤L j∧L j≤131072:=fun j hj=>by have:=h.dig.all (by decide) j hj;omega
theorem Rw.cast {L:Nat→Int} {x y:Nat} (h:Rw L x) (e:x%pF=y%pF):Rw L y:=⟨h.dig,by rw [h.val,e]⟩
def i16 (L:Nat→Int):List Value:=intsI 16 L
def rV (L:Nat→Int):Value := .agg (i16 L).toArray
end Go.Proofs.YtcgkajlehdgpoaaGreatDoor
namespace Go.Proofs.YtcgkajlehdgpoaaGreatDoor
open Go.RowKit
theorem But.of_below {bad:Nat→Prop} {w w':World} (h:Below w.heap.size w w'):But bad w w':=⟨h.os,h.tape,h.output,h.size,fun k hk _=>h.block k hk⟩
end Go.Proofs.YtcgkajlehdgpoaaGreatDoor
namespace Go.Proofs.YtcgkajlehdgpoaaGreatDoor
open Go.RowKit
structure R4 where
 xl:Nat→Int
 zl:Nat→Int
 xh:Nat→Int
 zh:Nat→Int
structure R4.Rep (r:R4) (s:L4):Prop where
 xl:Go.Proofs.YtcgkajlehdgpoaaGreatDoor.Rep r.xl s.xl
 zl:Go.Proofs.YtcgkajlehdgpoaaGreatDoor.Rep r.zl s.zl
 xh:Go.Proofs.YtcgkajlehdgpoaaGreatDoor.Rep r.xh s.xh
 zh:Go.Proofs.YtcgkajlehdgpoaaGreatDoor.Rep r.zh s.zh
def R4.flip (r:R4):R4:=⟨r.xh,r.zh,r.xl,r.zl⟩
theorem R4.Rep.flip {r:R4} {s:L4} (h:r.Rep s):r.flip.Rep s.flip:=⟨h.xh,h.zh,h.xl,h.zl⟩
theorem Rep.far {L:Nat→Int} {x:Nat} (h:Rep L x):∀ j,j<16→-1073741824≤L j∧L j≤1073741824:=fun j hj=>by have:=h.bd j hj;omega
end Go.Proofs.YtcgkajlehdgpoaaGreatDoor
