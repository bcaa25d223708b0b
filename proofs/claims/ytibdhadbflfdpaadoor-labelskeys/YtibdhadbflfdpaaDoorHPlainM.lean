/- What the proof stands on: HPlain, HCert, HConsts, HHashM, HHmac, HRefPad, HBlock, Narrow, RWk, RFn, HExp. -/
import Derived.Test.YtibdhadbflfdpaaDoorBaseM
import Derived.Test.YtibdhadbflfdpaaDoorHStartM
import Derived.Deep.Cut
import Derived.Deep.Upon
import Derived.LoopIn
import Derived.LoopNIn
import Derived.OwnWalkIn
import Derived.RangeFuncBound
import Derived.RangeFuncCalls
import Derived.RangeFuncLeaves
import Derived.RangeFuncNested
import Derived.Shelf.Abstract
import Derived.Shelf.RegionOpen
import Derived.TacticsInMore
namespace Go.Proofs.YtibdhadbflfdpaaDoor
open Go.RowKit
theorem fill_congr {m sz:Nat} {bs cs:Nat→Nat}:∀ i,(∀ j,j<i→bs j=cs j)→fill m sz bs i=fill m sz cs i
 | 0,_=>rfl
 | i+1,h=>by unfold fill;rw [fill_congr i (fun j hj=>h j (by omega)),h i (by omega)]
theorem sch_congr {r:Ru} {X Y:Nat→Nat} (h:∀ j,j<16→X j=Y j):∀ k j,j<16+k→sch r X k j=sch r Y k j
 | 0,j,hj=>h j (by omega)
 | k+1,j,hj=>by
  unfold sch upd
  have e:nextW r (sch r X k) k=nextW r (sch r Y k) k:=by
   unfold nextW
   rw [sch_congr h k (k+14) (by omega),sch_congr h k (k+9) (by omega),sch_congr h k (k+1) (by omega),sch_congr h k k (by omega)]
  rw [e]
  by_cases e2:j=k+16
  · rw [if_pos e2,if_pos e2]
  · rw [if_neg e2,if_neg e2];exact sch_congr h k j (by omega)
theorem roundsS_congr {r:Ru} {K L X Y:Nat→Nat} {s:St}:∀ n,(∀ j,j<n→X j=Y j)→(∀ j,j<n→K j=L j)→roundsS r K X s n=roundsS r L Y s n
 | 0,_,_=>rfl
 | n+1,h,g=>by unfold roundsS;rw [roundsS_congr n (fun j hj=>h j (by omega)) (fun j hj=>g j (by omega)),h n (by omega),g n (by omega)]
theorem blockS_congr {r:Ru} {K:Nat→Nat} {bs cs:Nat→Nat} {s:St} (h:∀ j,j<2*r.m→bs j=cs j):blockS r K bs s=blockS r K cs s:=by
 unfold blockS;rw [fill_congr _ h]
theorem loopS_congr {r:Ru} {K:Nat→Nat} {s:St} {bs cs:Nat→Nat}:∀ i,(∀ j,j<i*(2*r.m)→bs j=cs j)→loopS r K s bs i=loopS r K s cs i
 | 0,_=>rfl
 | i+1,h=>by
  unfold loopS
  have hs:(i+1)*(2*r.m)=i*(2*r.m)+2*r.m:=Nat.succ_mul i (2*r.m)
  rw [loopS_congr i (fun j hj=>h j (by omega))]
  exact blockS_congr fun j hj=>h _ (by omega)
theorem loopS_add {r:Ru} {K:Nat→Nat} {s:St} {bs:Nat→Nat} (i:Nat):∀ k,loopS r K s bs (i+k)=loopS r K (loopS r K s bs i) (fun j=>bs (i*(2*r.m)+j)) k
 | 0=>rfl
 | k+1=>by
  show blockS r K (fun j=>bs ((i+k)*(2*r.m)+j)) (loopS r K s bs (i+k))=blockS r K (fun j=>bs (i*(2*r.m)+(k*(2*r.m)+j))) _
  rw [loopS_add i k]
  exact blockS_congr fun j _=>by rw [Nat.add_mul,Nat.add_assoc]
theorem divmod {x a b t:Nat} (h:x=a*b+t) (ht:t<b):x / b=a∧x%b=t:=by
 subst h
 have hb:0<b:=by omega
 exact ⟨by rw [Nat.add_comm,Nat.add_mul_div_right _ _ hb,Nat.div_eq_of_lt ht,Nat.zero_add],by rw [Nat.add_comm,Nat.add_mul_mod_self_right,Nat.mod_eq_of_lt ht]⟩
structure Holds (r:Ru) (K:Nat→Nat) (s0:St) (n:Nat) (bs:Nat→Nat) (s:St) (R:Nat→Nat):Prop where
 st:s=loopS r K s0 bs (n / (2*r.m))
 rest:∀ j,j<n%(2*r.m)→R j=bs (n / (2*r.m)*(2*r.m)+j)
theorem Holds.none (r:Ru) (K:Nat→Nat) (s0:St) (bs R:Nat→Nat):Holds r K s0 0 bs s0 R:=⟨by rw [Nat.zero_div];rfl,fun j h=>by rw [Nat.zero_mod] at h;omega⟩
theorem Holds.congr {r:Ru} {K:Nat→Nat} {s0:St} {n:Nat} {bs cs:Nat→Nat} {s:St} {R:Nat→Nat} (h:Holds r K s0 n bs s R) (e:∀ j,j<n→bs j=cs j):Holds r K s0 n cs s R:=by
 have h1:=Nat.div_add_mod n (2*r.m)
 rw [Nat.mul_comm] at h1
 exact ⟨h.st.trans (loopS_congr _ fun j hj=>e j (by omega)),fun j hj=>(h.rest j hj).trans (e _ (by omega))⟩
theorem Holds.write {r:Ru} {K:Nat→Nat} {s0:St} {n:Nat} {bs:Nat→Nat} {s:St} {R:Nat→Nat} (hm:0<r.m) (h:Holds r K s0 n bs s R) (m:Nat) (b2:Nat→Nat) :
 Holds r K s0 (n+m) (cat n bs b2) (writeE r K s R n m b2).1 (writeE r K s R n m b2).2:=by
 obtain ⟨hst,hrest⟩:=h
 obtain ⟨B,hB⟩:∃ B,B=2*r.m:=⟨_,rfl⟩
 have hB0:0<B:=by omega
 have hn:=Nat.div_add_mod n B
 have ht:=Nat.mod_lt n hB0
 rw [←hB] at hst hrest
 obtain ⟨a,ha⟩:∃ a,a=n / B:=⟨_,rfl⟩
 obtain ⟨t,htt⟩:∃ t,t=n%B:=⟨_,rfl⟩
 rw [←ha] at hst hrest hn
 rw [←htt] at hrest hn ht
 rw [Nat.mul_comm] at hn
 have hpre:loopS r K s0 (cat n bs b2) a=s:=by
  rw [hst]
  refine loopS_congr _ fun j hj => ?_
  rw [←hB] at hj
  show (if j<n then bs j else _)=_
  rw [if_pos (by omega)]
 -- what tailE makes,where a whole block's end is reached at place p (a multiple of B) of all bytes
 have tail:∀ (p c m':Nat) (s':St) (R':Nat→Nat) (b':Nat→Nat),p=c*B→s'=loopS r K s0 (cat n bs b2) c→(∀ j,cat n bs b2 (p+j)=b' j)→p+m'=n+m →
  Holds r K s0 (n+m) (cat n bs b2) (tailE r K s' R' m' b').1 (tailE r K s' R' m' b').2:=by
  intro p c m' s' R' b' hp hs' hb' hpm
  have hm':=Nat.div_add_mod m' B
  have hu:=Nat.mod_lt m' hB0
  rw [Nat.mul_comm] at hm'
  obtain ⟨e1,e2⟩:=divmod (x:=n+m) (a:=c+m' / B) (b:=B) (t:=m'%B) (by rw [Nat.add_mul];omega) hu
  refine ⟨?_,?_⟩
  · rw [←hB,e1,loopS_add,←hB,←hp,←hs']
    show loopS r K s' b' (m' / (2*r.m))=_
    rw [←hB]
    exact loopS_congr _ fun j _=>(hb' j).symm
  · intro j hj
    rw [←hB,e2] at hj
    rw [←hB,e1]
    show over R' 0 (m'%(2*r.m)) (fun j=>b' (m' / (2*r.m)*(2*r.m)+j)) j=_
    rw [←hB]
    unfold over
    rw [if_pos ⟨Nat.zero_le _,by omega⟩,Nat.sub_zero]
    show b' (m' / B*B+j)=_
    rw [←hb',Nat.add_mul,hp,Nat.add_assoc]
 unfold writeE
 rw [←hB,←htt]
 by_cases h0:t=0
 · rw [if_pos h0]
   refine tail n a m s R b2 (by omega) hpre.symm (fun j => ?_) rfl
   unfold cat
   rw [if_neg (by omega),show n+j - n=j by omega]
 · rw [if_neg h0]
   by_cases h1:t+m<B
   · rw [if_pos h1]
     obtain ⟨e1,e2⟩:=divmod (x:=n+m) (a:=a) (b:=B) (t:=t+m) (by omega) h1
     refine ⟨?_,?_⟩
     · rw [←hB,e1];exact hpre.symm
     · intro j hj
       rw [←hB,e2] at hj
       rw [←hB,e1]
       show over R t m b2 j=_
       unfold over cat
       by_cases h2:j<t
       · rw [if_neg (by omega),if_pos (by omega)];exact hrest j h2
       · rw [if_pos (by omega),if_neg (by omega)];congr 1;omega
   · rw [if_neg h1]
     refine tail (n+(B - t)) (a+1) (m - (B - t)) _ _ _ (by rw [Nat.succ_mul];omega) ?_ (fun j => ?_) (by omega)
     · show _=blockS r K (fun j=>cat n bs b2 (a*(2*r.m)+j)) (loopS r K s0 (cat n bs b2) a)
       rw [hpre]
       refine blockS_congr fun j hj => ?_
       rw [←hB] at hj ⊢
       unfold over cat
       by_cases h2:j<t
       · rw [if_neg (by omega),if_pos (by omega)];exact hrest j h2
       · rw [if_pos (by omega),if_neg (by omega)];congr 1;omega
     · unfold cat
       rw [if_neg (by omega)];congr 1;omega
def specS (r:Ru) (K q:Nat→Nat) (n:Nat) (bs:Nat→Nat):St:=loopS r K (firstS r q) (cat n bs (padF r n)) ((n+padN r n) / (2*r.m))
theorem Holds.end {r:Ru} {K q:Nat→Nat} {n:Nat} {bs:Nat→Nat} {s:St} {R:Nat→Nat} (hm:0<r.m) (h:Holds r K (firstS r q) n bs s R):endS r K s R n=specS r K q n bs:=(h.write hm (padN r n) (padF r n)).st
theorem hashS_spec {r:Ru} (K q:Nat→Nat) (n:Nat) (bs:Nat→Nat) (hm:0<r.m):hashS r K q n bs=specS r K q n bs:=by
 have h:=(Holds.none r K (firstS r q) bs (fun _=>0)).write hm n bs
 rw [Nat.zero_add] at h
 exact Holds.end hm (h.congr fun j _=>by unfold cat;rw [if_neg (by omega),Nat.sub_zero])
theorem specS_congr {r:Ru} {K q:Nat→Nat} {n:Nat} {bs cs:Nat→Nat} (h:∀ j,j<n→bs j=cs j):specS r K q n bs=specS r K q n cs :=
 loopS_congr _ fun j _=>by
  unfold cat
  by_cases e:j<n
  · rw [if_pos e,if_pos e];exact h j e
  · rw [if_neg e,if_neg e]
def wordM (m:Nat) (bs:Nat→Nat) (o:Nat):Nat→Nat
 | 0=>0
 | k+1=>(wordM m bs o k*256%2 ^ m) ||| bs (o+k)
theorem fill_word (m sz:Nat) (hs:0<sz) (bs:Nat→Nat):∀ n i,(n≤sz*i→fill m sz bs n i=0)∧(∀ k,k≤sz→n=sz*i+k→fill m sz bs n i=wordM m bs (sz*i) k)∧(sz*(i+1)≤n→fill m sz bs n i=wordM m bs (sz*i) sz)
 | 0,i=>⟨fun _=>rfl,fun k hk e=>by
  have:k=0:=by omega
  subst this;rfl,fun h=>by rw [Nat.mul_succ] at h;omega⟩
 | n+1,i=>by
  obtain ⟨h1,h2,h3⟩:=fill_word m sz hs bs n i
  have hne:∀ a t,n=a*sz+t→t<sz→fill m sz bs (n+1) i=if i=a then (fill m sz bs n i*256%2 ^ m) ||| bs n else fill m sz bs n i:=fun a t e ht=>by
   obtain ⟨d1,_⟩:=divmod e ht
   show upd (fill m sz bs n) (n / sz) _ i=_
   unfold upd
   rw [d1]
   by_cases e2:i=a
   · rw [if_pos e2,if_pos e2,e2]
   · rw [if_neg e2,if_neg e2]
  have hdm:=Nat.div_add_mod n sz
  have hml:=Nat.mod_lt n hs
  rw [Nat.mul_comm] at hdm
  have hn:=hne (n / sz) (n%sz) hdm.symm hml
  have key:∀ k,k≤sz→n+1=sz*i+k→fill m sz bs (n+1) i=wordM m bs (sz*i) k:=fun k hk e=>by
   match k,hk,e with
   | 0,_,e =>
    have hi:i≠n / sz:=fun hi=>by
     rw [←hi,Nat.mul_comm] at hdm
     omega
    rw [hn,if_neg hi]
    exact h1 (by omega)
   | k+1,hk,e =>
    have e':n=i*sz+k:=by rw [Nat.mul_comm i sz];omega
    rw [hne i k e' (by omega),if_pos rfl,h2 k (by omega) (by omega)]
    show _=(wordM m bs (sz*i) k*256%2 ^ m) ||| bs (sz*i+k)
    rw [show n=sz*i+k by omega]
  refine ⟨fun h => ?_,key,fun h => ?_⟩
  · have hi:i≠n / sz:=fun hi=>by
     rw [←hi,Nat.mul_comm] at hdm
     omega
    rw [hn,if_neg hi]
    exact h1 (by omega)
  · rw [Nat.mul_succ] at h
    by_cases e:n+1=sz*i+sz
    · exact key sz (Nat.le_refl _) e
    · have hi:i≠n / sz:=fun hi=>by
       rw [←hi,Nat.mul_comm] at hdm
       omega
      rw [hn,if_neg hi]
      exact h3 (by rw [Nat.mul_succ];omega)
theorem or_small {x b m:Nat} (hx:x<2 ^ m) (hb:b<256) (hm:m+8≤32):(x*256%2 ^ 32 ||| b)=(x*256%2 ^ 64 ||| b)∧(x*256%2 ^ 32 ||| b)<2 ^ (m+8):=by
 have h1:x*256<2 ^ (m+8):=by rw [Nat.pow_add];exact Nat.mul_lt_mul_of_pos_right hx (by decide)
 have h2:2 ^ (m+8)≤2 ^ 32:=Nat.pow_le_pow_right (by decide) hm
 have e1:x*256%2 ^ 32=x*256:=Nat.mod_eq_of_lt (by omega)
 have h3:(2:Nat) ^ 32≤2 ^ 64:=by decide
 have e2:x*256%2 ^ 64=x*256:=Nat.mod_eq_of_lt (by omega)
 refine ⟨by rw [e1,e2],?_⟩
 rw [e1]
 exact Nat.or_lt_two_pow h1 (Nat.lt_of_lt_of_le hb (by rw [Nat.pow_add];exact Nat.le_mul_of_pos_left _ (Nat.two_pow_pos m)))
theorem wordM32 (bs:Nat→Nat) (hb:∀ j,bs j<256) (o:Nat):wordM 32 bs o 4=wordR bs o 4:=by
 have h0:wordM 32 bs o 0=wordR bs o 0:=rfl
 have l0:wordM 32 bs o 0<2 ^ 0:=Nat.zero_lt_one
 obtain ⟨e1,l1⟩:=or_small l0 (hb (o+0)) (by decide)
 obtain ⟨e2,l2⟩:=or_small (x:=wordM 32 bs o 1) l1 (hb (o+1)) (by decide)
 obtain ⟨e3,l3⟩:=or_small (x:=wordM 32 bs o 2) l2 (hb (o+2)) (by decide)
 obtain ⟨e4,l4⟩:=or_small (x:=wordM 32 bs o 3) l3 (hb (o+3)) (by decide)
 have w1:wordM 32 bs o 1=wordR bs o 1:=e1
 have w2:wordM 32 bs o 2=wordR bs o 2:=e2.trans (by rw [w1];rfl)
 have w3:wordM 32 bs o 3=wordR bs o 3:=e3.trans (by rw [w2];rfl)
 exact e4.trans (by rw [w3];rfl)
theorem blockR32_eq (K:Nat→Nat) (bs:Nat→Nat) (_hb:∀ j,bs j<256) (s:St):addS rn s (roundsS rn K (sch rn (fun i=>wordR bs (4*i) 4) (64 - 16)) s 64)=blockS rn K bs s:=by
 have e:roundsS rn K (sch rn (fun i=>wordR bs (4*i) 4) (64 - 16)) s 64=roundsS rn K (sch rn (fill 32 4 bs 64) (64 - 16)) s 64 :=
  roundsS_congr _ (fun j hj=>sch_congr (fun i hi=>by
   rw [((fill_word 32 4 (by decide) bs 64 i).2.2 (by omega))]
   exact (wordM32 bs _hb _).symm) _ j (by omega)) fun _ _=>rfl
 rw [e]
 rfl
end Go.Proofs.YtibdhadbflfdpaaDoor
namespace Go.Proofs.YtibdhadbflfdpaaDoor
open Go
def cubesL:List Nat:=[4794697086780616226,8158064640168781261,13096744586834688815,16840607885511220156,4131703408338449720,6480981068601479193,10538285296894168987,12329834152419229976,15566598209576043074,1334009975649890238,2608012711638119052,6128411473006802146,8268148722764581231,9286055187155687089,11230858885718282805,13951009754708518548,16472876342353939154,17275323862435702243,1135362057144423861,2597628984639134821,3308224258029322869,5365058923640841347,6679025012923562964,8573033837759648693,10970295158949994411,12119686244451234320,12683024718118986047,13788192230050041572,14330467153632333762,15395433587784984357,489312712824947311,1452737877330783856,2861767655752347644,3322285676063803686,5560940570517711597,5996557281743188959,7280758554555802590,8532644243296465576,9350256976987008742,10552545826968843579,11727347734174303076,12113106623233404929,14000437183269869457,14369950271660146224,15101387698204529176,15463397548674623760,17586052441742319658,1182934255886127544,1847814050463011016,2177327727835720531,2830643537854262169,3796741975233480872,4115178125766777443,5681478168544905931,6601373596472566643,7507060721942968483,8399075790359081724,8693463985226723168,9568029438360202098,10144078919501101548,10430055236837252648,11840083180663258601,13761210420658862357,14299343276471374635,14566680578165727644,15097957966210449927,16922976911328602910,17689382322260857208,500013540394364858,748580250866718886,1242879168328830382,1977374033974150939,2944078676154940804,3659926193048069267,4368137639120453308,4836135668995329356,5532061633213252278,6448918945643986474,6902733635092675308,7801388544844847127]
def squaresL:List Nat:=[7640891576956012808,13503953896175478587,4354685564936845355,11912009170470909681,5840696475078001361,11170449401992604703,2270897969802886507,6620516959819538809]
def cubeK (j:Nat):Nat:=cubesL.getD j 0
def squareK (j:Nat):Nat:=squaresL.getD j 0
end Go.Proofs.YtibdhadbflfdpaaDoor
namespace Go.Proofs.YtibdhadbflfdpaaDoor
open Go.RowKit
theorem cubeK_lt:∀ j,cubeK j<18446744073709551616:=fun j=>by
 unfold cubeK
 rw [List.getD_eq_getElem?_getD]
 cases h:cubesL[j]? with
 | none=>decide
 | some x =>
  have hm:x∈cubesL:=List.mem_of_getElem? h
  exact of_decide_eq_true (List.all_eq_true.1 (show cubesL.all (fun x=>decide (x<18446744073709551616))=true by kernel_rfl) x hm)
theorem squareK_lt:∀ j,squareK j<18446744073709551616:=fun j=>by
 unfold squareK
 rw [List.getD_eq_getElem?_getD]
 cases h:squaresL[j]? with
 | none=>decide
 | some x =>
  have hm:x∈squaresL:=List.mem_of_getElem? h
  exact of_decide_eq_true (List.all_eq_true.1 (show squaresL.all (fun x=>decide (x<18446744073709551616))=true by kernel_rfl) x hm)
end Go.Proofs.YtibdhadbflfdpaaDoor
namespace Go.Proofs.YtibdhadbflfdpaaDoor
open Go.RowKit
theorem Bytes.below {w w':World} {b:Nat} {v:Value} {n:Nat} {bs:Nat→Nat} (h:Bytes w b v n bs) (hb:Below w.heap.size w w'):Bytes w' b v n bs:=by
 rcases h with h | ⟨bb,ob,cap,rfl,h1,h2,h3⟩
 · exact .inl h
 · refine .inr ⟨bb,ob,cap,rfl,h1,h2,fun j hj => ?_⟩
   have:=h3 j hj
   exact (hb.cell (p:=⟨bb,ob+j,none⟩) (block_lt_of_cell this)).trans this
theorem Out.pre {b o n:Nat} {u v w:World} (h:Below u.heap.size u v) (hb:b<u.heap.size) (k:Out b o n v w):Out b o n u w:=(Out.of_below h hb).trans k
structure Made256 (w:World) (g:Nat) (n:Nat) (bs:Nat→Nat):Prop where
 bits:w.cell? ⟨g,0,none⟩=some (.int .i64 256)
 eng:∃ s R,EngAt .u32 w g 1 s R n∧Holds rn cubeK (firstS rn squareK) n bs s R∧s.lt 4294967296∧∀ j,R j<256
theorem Made256.lt {w:World} {g n:Nat} {bs:Nat→Nat} (h:Made256 w g n bs):g<w.heap.size:=block_lt_of_cell h.bits
theorem Made256.below {w w':World} {g n:Nat} {bs:Nat→Nat} (h:Made256 w g n bs) (hb:Below w.heap.size w w'):Made256 w' g n bs:=by
 obtain ⟨s,R,h1,h2,h3,h4⟩:=h.eng
 exact ⟨(hb.cell (p:=⟨g,0,none⟩) h.lt).trans h.bits,s,R,h1.below hb,h2,h3,h4⟩
theorem Made256.congr {w:World} {g n:Nat} {bs cs:Nat→Nat} (h:Made256 w g n bs) (e:∀ j,j<n→bs j=cs j):Made256 w g n cs:=by
 obtain ⟨s,R,h1,h2,h3,h4⟩:=h.eng
 exact ⟨h.bits,s,R,h1,h2.congr e,h3,h4⟩
theorem Made256.out {b o m:Nat} {w w':World} {g n:Nat} {bs:Nat→Nat} (h:Made256 w g n bs) (hb:Out b o m w w') (hne:g≠b):Made256 w' g n bs:=by
 obtain ⟨s,R,h1,h2,h3,h4⟩:=h.eng
 exact ⟨(hb.cell' h.lt hne).trans h.bits,s,R,⟨hb.row h1.st hne,hb.row h1.rest hne,(hb.cell' h.lt hne).trans h1.cnt,(hb.frozen' h.lt hne).trans h1.cntf⟩,h2,h3,h4⟩
theorem newMade256 (w:World) (hT:HTab w cubeK squareK) (bs:Nat→Nat):Calls Tryd.prog 64 #[.int .i64 256] w fun e w'=>∃ g,e = .returned (.pointer (some ⟨g,0,none⟩))∧w.heap.size≤g∧Made256 w' g 0 bs∧Below w.heap.size w w':=by
 refine (new256_any squareK hT.qlt w hT.squares hT.narrow).mono ?_
 rintro e w' ⟨g,rfl,hg,h1,h2,hb⟩
 exact ⟨g,rfl,hg,⟨h1,_,_,h2,Holds.none _ _ _ _ _,firstS_lt rn squareK (by decide) hT.qlt,fun _=>Nat.zero_lt_succ _⟩,hb⟩
set_option maxRecDepth 20000 in
set_option maxHeartbeats 1000000 in
theorem hwrite256_any (g c n:Nat) (v:Value) (bs b2:Nat→Nat) (hb2:∀ j,b2 j<256) (w:World) (hM:Made256 w g c bs) (hT:HTab w cubeK squareK) (h3:3<g) (hv:Bytes w g v n b2) (hcn:c+n<4611686018427387904) :
 Calls Tryd.prog 65 #[.pointer (some ⟨g,0,none⟩),v] w fun e w'=>e = .returned (.int .i64 0)∧Made256 w' g (c+n) (cat c bs b2)∧Out g 1 137 w w':=by
 obtain ⟨hbits,s,R,hE,hH,hs,hR⟩:=hM
 have hgl:g<w.heap.size:=block_lt_of_cell hbits
 have hd:Below w.heap.size w w.drew:=(Below.refl _ _).drew
 have hTd:=hT.below hd hT.size
 have hw:=write32_any cubeK hT.Klt s hs R hR g 1 c n v b2 hb2 w.drew (hE.below hd) hTd.cubes (by omega) (hv.below hd) hcn
 have hX:=writeE_lt (r:=rn) (K:=cubeK) (c:=c) (n:=n) hs hR hb2
 have hHw:=hH.write (by decide) n b2
 obtain ⟨X,hXe⟩:∃ X,X=writeE rn cubeK s R c n b2:=⟨_,rfl⟩
 rw [←hXe] at hw hX hHw
 have hm:=made_yes g 256 (by decide) w hbits
 obtain ⟨p0,p1,p2,p3,p4,p5,p6,p7,p8,p9,p10,p11,p12,p13⟩:=hT.narrow
 clear hT hTd hv hE hH hXe
 go_enter Tryd.func65,Tryd.ntmps65
 go_wp2_with (go_at_call 75;refine hm.mono ?_;rintro e w' ⟨rfl,hw'⟩;subst hw')
 go_region_with (go_at_call 35;refine hw.mono ?_;rintro e w5 ⟨rfl,hE5,hO5⟩)
 all_goals
  go_wp2
  go_ret
  have hO:Out g 1 137 _ w5:=Out.pre hd hgl hO5
  exact ⟨rfl,⟨(hO.cell 0 (by omega)).trans hbits,X.1,X.2,hE5,hHw,hX.1,hX.2⟩,hO⟩
set_option maxRecDepth 20000 in
set_option maxHeartbeats 1000000 in
theorem hsum256_any (g c:Nat) (bs:Nat→Nat) (w:World) (hM:Made256 w g c bs) (hT:HTab w cubeK squareK) (hc:c<2305843009213693952) :
 Calls Tryd.prog 66 #[.pointer (some ⟨g,0,none⟩)] w fun e w'=>∃ ga,e = .returned (.slice (some ⟨ga,0,none⟩) 32 32)∧w.heap.size≤ga∧RowAt .u8 w' ga 0 32 (outB 32 (specS rn cubeK squareK c bs))∧Below w.heap.size w w':=by
 obtain ⟨hbits,s,R,hE,hH,hs,hR⟩:=hM
 have hgl:g<w.heap.size:=block_lt_of_cell hbits
 have hd:Below w.heap.size w w.drew:=(Below.refl _ _).drew
 have hTd:=hT.below hd hT.size
 have hsum:=sum32_any cubeK hT.Klt s hs R hR c hc w.drew hTd.cubes
 rw [hH.end (by decide)] at hsum
 have hm:=made_yes g 256 (by decide) w hbits
 obtain ⟨p0,p1,p2,p3,p4,p5,p6,p7,p8,p9,p10,p11,p12,p13⟩:=hT.narrow
 have hr:∀ w':World,Below w.heap.size w w'→w'.rangeAt g 1 (engVals .u32 s R c):=fun w' h=>(hE.below h).range
 have hS:∀ w':World,Below w.heap.size w w'→∀ b o,b<w.heap.size→w'.cell? ⟨b,o,none⟩=w.cell? ⟨b,o,none⟩:=fun w' h b o hb=>h.cell (p:=⟨b,o,none⟩) hb
 have h0:0<w.heap.size:=by have:=hT.size;omega
 have hi':(Tryd.prog.info? 59).map (·.size)=some (engVals .u32 s R c).length:=by rw [engVals_len];kernel_rfl
 obtain ⟨Y,hY⟩:∃ Y,Y=specS rn cubeK squareK c bs:=⟨_,rfl⟩
 rw [←hY] at hsum ⊢
 clear hT hTd hE hH hY
 go_enter Tryd.func66,Tryd.ntmps66
 go_wp2_with (go_at_call 75;refine hm.mono ?_;rintro e w' ⟨rfl,hw'⟩;subst hw')
 refine wp_region_held_drew (S:=fun w2=>Below w'.heap.size w' w2) (by kernel_rfl) hd (fun hHeld => ?_)
 refine wpAnyH_take (i:=0) (v := .pointer (some ⟨g,0,none⟩)) rfl (by kernel_rfl) (by kernel_rfl) (by kernel_rfl) (fun _ _ _ h=>h) (Or.inl ⟨by rfl,fun w2 _=>by go_simp⟩) hHeld ?_
 refine wpAnyH_take (i:=1) (v := .pointer (some ⟨g,0,none⟩)) rfl (by kernel_rfl) (by kernel_rfl) (by kernel_rfl) (fun _ _ _ h=>h) (Or.inl ⟨by rfl,fun w2 _=>by go_simp⟩) hHeld ?_
 refine wpAnyH_take (i:=2) (v := .pointer (some ⟨g,1,none⟩)) rfl (by kernel_rfl) (by kernel_rfl) (by kernel_rfl) (fun _ _ _ h=>h) (Or.inl ⟨by rfl,fun w2 _=>by go_simp⟩) hHeld ?_
 refine wpAnyH_take (i:=3) (v := .agg (engVals .u32 s R c).toArray) rfl (by kernel_rfl) (by kernel_rfl) (by kernel_rfl) (fun _ _ _ h=>h) (yieldsIf_load_mid (by rfl) 59 _ rfl g 1 rfl _ _ hr Tryd.underlying59 rfl hi') hHeld ?_
 refine wpAnyH_take (i:=4) (v:=(.agg #[.int .i64 32,.int .i64 64,.int .u64 7,.int .u64 18,.int .u64 3,.int .u64 17,.int .u64 19,.int .u64 10,.int .u64 2,.int .u64 13,.int .u64 22,.int .u64 6,.int .u64 11,.int .u64 25])) rfl (by kernel_rfl) (by kernel_rfl) (by kernel_rfl) (fun _ _ _ h=>h) (Or.inl ⟨by rfl,fun w2 hSw=>by go_simp⟩) hHeld ?_
 refine wpAnyH_ready (rs:=[5]) (by kernel_rfl) (by simp) ?_
 refine AllReadyH.cons rfl (fun K hK => ?_) AllReadyH.nil
 go_simp
 go_at_call 36
 refine hsum.mono ?_
 rintro e w5 ⟨ga,rfl,hga,hrow,hb5⟩
 have hbn:=below_next hd hb5
 go_simp
 refine hK.out _ _ hbn (fun hHeld2 => ?_)
 refine wpAnyH_take (i:=6) (v := .slice (some ⟨ga,0,none⟩) 32 32) rfl (by kernel_rfl) (by kernel_rfl) (by kernel_rfl) (fun _ _ _ h=>h) (Or.inl ⟨by rfl,fun w2 _=>by go_simp⟩) hHeld2 ?_
 refine wpAnyH_done (by kernel_rfl) ?_ _
 go_simp
 go_wp2
 go_ret
 exact ⟨ga,rfl,hga,hrow,hbn⟩
structure Made512 (w:World) (g:Nat) (n:Nat) (bs:Nat→Nat):Prop where
 bits:w.cell? ⟨g,0,none⟩=some (.int .i64 512)
 eng:∃ s R,EngAt .u64 w g 138 s R n∧Holds rw6 cubeK (firstS rw6 squareK) n bs s R∧s.lt 18446744073709551616∧∀ j,R j<256
theorem Made512.lt {w:World} {g n:Nat} {bs:Nat→Nat} (h:Made512 w g n bs):g<w.heap.size:=block_lt_of_cell h.bits
theorem Made512.below {w w':World} {g n:Nat} {bs:Nat→Nat} (h:Made512 w g n bs) (hb:Below w.heap.size w w'):Made512 w' g n bs:=by
 obtain ⟨s,R,h1,h2,h3,h4⟩:=h.eng
 exact ⟨(hb.cell (p:=⟨g,0,none⟩) h.lt).trans h.bits,s,R,h1.below hb,h2,h3,h4⟩
theorem Made512.congr {w:World} {g n:Nat} {bs cs:Nat→Nat} (h:Made512 w g n bs) (e:∀ j,j<n→bs j=cs j):Made512 w g n cs:=by
 obtain ⟨s,R,h1,h2,h3,h4⟩:=h.eng
 exact ⟨h.bits,s,R,h1,h2.congr e,h3,h4⟩
theorem Made512.out {b o m:Nat} {w w':World} {g n:Nat} {bs:Nat→Nat} (h:Made512 w g n bs) (hb:Out b o m w w') (hne:g≠b):Made512 w' g n bs:=by
 obtain ⟨s,R,h1,h2,h3,h4⟩:=h.eng
 exact ⟨(hb.cell' h.lt hne).trans h.bits,s,R,⟨hb.row h1.st hne,hb.row h1.rest hne,(hb.cell' h.lt hne).trans h1.cnt,(hb.frozen' h.lt hne).trans h1.cntf⟩,h2,h3,h4⟩
end Go.Proofs.YtibdhadbflfdpaaDoor
namespace Go.Proofs.YtibdhadbflfdpaaDoor
open Go.RowKit
def Parts (w:World) (gp cnt m:Nat) (t:Nat→Nat):Prop:=∃ (pvs:Nat→Value) (L:Nat→Nat),L 0=0∧L cnt=m∧∀ i,i<cnt→w.cell? ⟨gp,i,none⟩=some (pvs i)∧L i≤L (i+1)∧L (i+1)≤m∧BytesIn w (pvs i) (L (i+1) - L i) (fun j=>t (L i+j))
theorem Parts.below {w w':World} {gp cnt m:Nat} {t:Nat→Nat} (h:Parts w gp cnt m t) (hb:Below w.heap.size w w'):Parts w' gp cnt m t:=by
 obtain ⟨pvs,L,h0,h1,h2⟩:=h
 exact ⟨pvs,L,h0,h1,fun i hi=>⟨(hb.cell (p:=⟨gp,i,none⟩) (block_lt_of_cell (h2 i hi).1)).trans (h2 i hi).1,(h2 i hi).2.1,(h2 i hi).2.2.1,(h2 i hi).2.2.2.still hb⟩⟩
theorem parts_one (w:World) (v:Value) (n:Nat) (bs:Nat→Nat) (ty:TypeId) (h:BytesIn w v n bs):Parts (w.alloc (.cells #[v] ty)) w.heap.size 1 n bs:=by
 refine ⟨fun _=>v,fun i=>if i=0 then 0 else n,rfl,rfl,fun i hi => ?_⟩
 have:i=0:=by omega
 subst this
 refine ⟨by simp,Nat.zero_le _,Nat.le_refl _,?_⟩
 have:=h.still ((Below.refl _ _).alloc (Nat.le_refl _) (.cells #[v] ty))
 simpa using this
def xorG (kv:Nat→Nat) (p k:Nat):Nat→Nat:=fun j=>if j<k then kv j ^^^ p else kv j
theorem xorG_step (kv:Nat→Nat) (p k j:Nat):upd (xorG kv p k) k (kv k ^^^ p) j=xorG kv p (k+1) j:=by
 unfold upd xorG
 by_cases e:j=k
 · subst e;rw [if_pos rfl,if_pos (by omega)]
 · rw [if_neg e]
   by_cases e2:j<k
   · rw [if_pos e2,if_pos (by omega)]
   · rw [if_neg e2,if_neg (by omega)]
def padH (kv:Nat→Nat) (p m:Nat) (t:Nat→Nat):Nat→Nat:=outB 32 (specS rn cubeK squareK (64+m) (cat 64 (fun j=>kv j ^^^ p) t))
set_option maxRecDepth 20000 in
set_option maxHeartbeats 2000000 in
theorem hpadded_any (kv:Nat→Nat) (hkv:∀ j,kv j<256) (p:Nat) (hp:p<256) (gp cnt cap m:Nat) (t:Nat→Nat) (ht:∀ j,t j<256) (hm:m<2305843009213693000) (w:World) (hT:HTab w cubeK squareK) (hP:Parts w gp cnt m t) (hcnt:cnt<1000000) :
 Calls Tryd.prog 55 #[.agg (ints .u8 64 kv).toArray,.int .u8 p,.slice (some ⟨gp,0,none⟩) cnt cap] w
  fun e w'=>∃ g,e = .returned (.slice (some ⟨g,0,none⟩) 32 32)∧w.heap.size≤g∧RowAt .u8 w' g 0 32 (padH kv p m t)∧Below w.heap.size w w':=by
 have h3:=hT.size
 have hnew:=fun W (h:Below w.heap.size w W)=>newMade256 W (hT.below h h3) (cat 64 (fun j=>kv j ^^^ p) t)
 have hrow0:=row_fresh .u8 w 64 kv 73
 obtain ⟨pvs,L,hL0,hLm,hcell⟩:=hP
 go_enter Tryd.func55,Tryd.ntmps55
 go_wp2
 go_loopw [11] (fun i wr=>∃ k:Nat,k≤64∧i = .int .i64 k∧RowAt .u8 wr w.heap.size 0 64 (xorG kv p k)∧Below w.heap.size w wr) (fun i _=>64 - (intOf i).toNat)
 case atStart=>exact ⟨0,Nat.zero_le _,rfl,hrow0.congr (fun j _=>by simp [xorG]),(Below.refl _ _).alloc (Nat.le_refl _) _⟩
 case round =>
  clear hrow0
  obtain ⟨k,hk,rfl,hrow,hb⟩:=hrel
  by_cases hlt:k<64
  · obtain ⟨rk,rf⟩:=hrow k hlt
    rw [Nat.zero_add] at rk rf
    have ek:xorG kv p k k=kv k:=by simp [xorG]
    rw [ek] at rk
    clear hnew hcell
    go_wp2
    go_roundw
    case rel =>
     have h1:=hrow.set (i:=k) hlt (v:=bits .xor .u8 (kv k:Int) (p:Int)) (u:=kv k ^^^ p) (u8_xor_nat _ _ (hkv k) hp)
     rw [Nat.zero_add] at h1
     exact ⟨k+1,by omega,by go_num,h1.congr (fun j _=>xorG_step kv p k j),hb.setCell (Nat.le_refl _) _⟩
    case measure=>simp [intOf];omega
  · have hke:k=64:=by omega
    rw [hke] at hrow
    clear hke
    have hn:=hnew wr hb
    have hwl:w.heap.size<wr.heap.size:=block_lt_of_cell (hrow 0 (by decide)).1
    clear hnew
    go_wp2_with (first
     | (go_at_call 64;refine hn.mono ?_;clear hn;rintro e w1 ⟨g,rfl,hg,hM,hb1⟩;(have hbw1:Below w.heap.size w w1:=hb.trans (hb1.mono hb.size));have hs1:=hb1.size;have hw1:=hwrite256_any g 0 64 (.slice (some ⟨w.heap.size,0,none⟩) 64 64) _ (fun j=>kv j ^^^ p) (fun j=>Nat.xor_lt_two_pow (n:=8) (hkv j) hp) w1 hM (hT.below hbw1 h3) (by omega) (.inr ⟨w.heap.size,0,64,rfl,by omega,Nat.le_refl _,fun j hj=>by have h:=((hrow.below hb1 hwl) j hj).1;rw [h];simp [xorG,hj]⟩) (by decide))
     | (go_at_call 65;refine hw1.mono ?_;clear hw1;rintro e w2 ⟨rfl,hM2,hO2⟩))
    have hbw2:Below w.heap.size w w2:=hbw1.trans (hO2.below (by omega) (by omega))
    obtain ⟨B,hB⟩:∃ B,B=cat 64 (fun j=>kv j ^^^ p) t:=⟨_,rfl⟩
    have hM3:Made256 w2 g (64+L 0) B:=by
     rw [hL0,hB]
     exact hM2.congr (fun j hj=>by
      rw [show cat 0 (cat 64 (fun j=>kv j ^^^ p) t) (fun j=>kv j ^^^ p) j=kv j ^^^ p by unfold cat;simp]
      rw [cat_left (by omega)])
    have HB:Hid (padH kv p m t=outB 32 (specS rn cubeK squareK (64+m) B)):=(by rw [hB];rfl:padH kv p m t=outB 32 (specS rn cubeK squareK (64+m) B))
    have hBr:∀ j,B (64+j)=t j:=fun j=>by rw [hB];exact cat_right j
    have hd:decide ((k:Int)<64)=false:=decide_eq_false (by omega)
    rw [hd]
    clear hd hM2 hM hO2 hbw1 hb1 hrow hb hlt hk hB
    go_loopw [27] (fun i wq=>∃ q:Nat,q≤cnt∧i = .int .i64 q∧Made256 wq g (64+L q) B∧Below w.heap.size w wq) (fun i _=>cnt - (intOf i).toNat)
    case atStart=>exact ⟨0,Nat.zero_le _,rfl,hM3,hbw2⟩
    case round =>
     clear hM3 hbw2
     obtain ⟨q,hq,rfl,hMq,hbq⟩:=hrel
     have hsq:=hbq.size
     by_cases hlt:q<cnt
     · obtain ⟨c1,c2,c3,c4⟩:=hcell q hlt
       have rq:wr.cell? ⟨gp,q,none⟩=some (pvs q):=(hbq.cell (p:=⟨gp,q,none⟩) (block_lt_of_cell c1)).trans c1
       have hw:=hwrite256_any g (64+L q) (L (q+1) - L q) (pvs q) B (fun j=>t (L q+j)) (fun j=>ht _) wr hMq (hT.below hbq h3) (by omega) (c4.away hbq (by omega)) (by omega)
       have hgl:=hMq.lt
       obtain ⟨pv,hpv⟩:∃ pv,pv=pvs q:=⟨_,rfl⟩
       rw [←hpv] at rq hw
       have hqi:(0:Int)≤(q:Int)∧(q:Int)<cnt:=by omega
       clear hpv hcell
       go_wp2_with (go_at_call 65;refine hw.mono ?_;rintro e w3 ⟨rfl,hM3,hO3⟩)
       go_roundw
       case rel =>
        have hM4:Made256 w3 g (64+L (q+1)) B:=by
         rw [show 64+L (q+1)=64+L q+(L (q+1) - L q) by omega]
         exact hM3.congr (fun j hj=>by
          by_cases e:j<64+L q
          · rw [cat_left e]
          · unfold cat
            rw [if_neg e]
            show t (L q+(j - (64+L q)))=B j
            rw [←hBr]
            congr 1;omega)
        exact ⟨q+1,by omega,by go_num,hM4,hbq.trans (hO3.below (by omega) (by omega))⟩
       case measure=>simp [intOf];omega
     · have hqe:q=cnt:=by omega
       rw [hqe,hLm] at hMq
       clear hqe
       have hsum:=hsum256_any g (64+m) B wr hMq (hT.below hbq h3) (by omega)
       go_wp2_with (go_at_call 66;refine hsum.mono ?_;rintro e w4 ⟨ga,rfl,hga,hrow,hb4⟩)
       go_ret
       rw [HB.out]
       exact ⟨ga,rfl,by omega,hrow,hbq.trans (hb4.mono hbq.size)⟩
theorem padH_lt (kv:Nat→Nat) (p m:Nat) (t:Nat→Nat) (j:Nat):padH kv p m t j<256:=Nat.mod_lt _ (by decide)
theorem info64:(Tryd.prog.info? 73).map (·.size)=some 64:=by kernel_rfl
def tagH (kv:Nat→Nat) (m:Nat) (t:Nat→Nat):Nat→Nat:=padH kv 92 32 (padH kv 54 m t)
theorem tagH_lt (kv:Nat→Nat) (m:Nat) (t:Nat→Nat) (j:Nat):tagH kv m t j<256:=padH_lt _ _ _ _ _
set_option maxRecDepth 20000 in
set_option maxHeartbeats 2000000 in
theorem tag_any (kv:Nat→Nat) (hkv:∀ j,kv j<256) (gp cnt cap m:Nat) (t:Nat→Nat) (ht:∀ j,t j<256) (hm:m<2305843009213693000) (w:World) (hT:HTab w cubeK squareK) (hP:Parts w gp cnt m t) (hcnt:cnt<1000000) :
 Calls Tryd.prog 43 #[.agg (ints .u8 64 kv).toArray,.slice (some ⟨gp,0,none⟩) cnt cap] w
  fun e w'=>∃ g,e = .returned (.slice (some ⟨g,0,none⟩) 32 32)∧w.heap.size≤g∧RowAt .u8 w' g 0 32 (tagH kv m t)∧Below w.heap.size w w':=by
 have h3:=hT.size
 have hrow0:=row_fresh .u8 w 64 kv 73
 have hbw:Below w.heap.size w (w.alloc (.cells (ints .u8 64 kv).toArray 73)):=(Below.refl _ _).alloc (Nat.le_refl _) _
 obtain ⟨W,hW⟩:∃ W,W=w.alloc (.cells (ints .u8 64 kv).toArray 73):=⟨_,rfl⟩
 have HW:Hid (W=w.alloc (.cells (ints .u8 64 kv).toArray 73)):=hW
 have hWs:w.heap.size<W.heap.size:=by rw [hW];simp
 rw [←hW] at hrow0 hbw
 have hd:Below W.heap.size W W.drew:=(Below.refl _ _).drew
 have hbd:Below w.heap.size w W.drew:=hbw.trans (hd.mono (by omega))
 have hr:∀ w':World,Below W.heap.size W w'→w'.rangeAt w.heap.size 0 (ints .u8 64 kv):=fun w' h=>(hrow0.below h hWs).range
 have hi':(Tryd.prog.info? 73).map (·.size)=some (ints .u8 64 kv).length:=by rw [ints_len];exact info64
 have c1:=hpadded_any kv hkv 54 (by decide) gp cnt cap m t ht hm W.drew (hT.below hbd h3) (hP.below hbd) hcnt
 have c2:∀ (W5:World) (ga:Nat),Below W.heap.size W W5→RowAt .u8 W5 ga 0 32 (padH kv 54 m t)→Calls Tryd.prog 55 #[.agg (ints .u8 64 kv).toArray,.int .u8 92,.slice (some ⟨W5.heap.size,0,none⟩) 1 1] (W5.alloc (.cells #[.slice (some ⟨ga,0,none⟩) 32 32] 22)) fun e w'=>∃ g,e = .returned (.slice (some ⟨g,0,none⟩) 32 32)∧(W5.alloc (.cells #[.slice (some ⟨ga,0,none⟩) 32 32] 22)).heap.size≤g∧RowAt .u8 w' g 0 32 (tagH kv m t)∧Below (W5.alloc (.cells #[.slice (some ⟨ga,0,none⟩) 32 32] 22)).heap.size (W5.alloc (.cells #[.slice (some ⟨ga,0,none⟩) 32 32] 22)) w':=fun W5 ga hb hrow=>by
  have hb2:Below w.heap.size w (W5.alloc (.cells #[.slice (some ⟨ga,0,none⟩) 32 32] 22)):=(hbw.trans (hb.mono (by omega))).alloc (by have:=hb.size;omega) _
  exact hpadded_any kv hkv 92 (by decide) W5.heap.size 1 1 32 _ (padH_lt _ _ _ _) (by decide) _ (hT.below hb2 h3) (parts_one W5 _ 32 _ _ (.inr ⟨ga,0,32,rfl,block_lt_of_cell (hrow 0 (by decide)).1,Nat.le_refl _,fun j hj=>(hrow j hj).1⟩)) (by decide)
 obtain ⟨X,hX⟩:∃ X,X=padH kv 54 m t:=⟨_,rfl⟩
 rw [←hX] at c1 c2
 clear hW hX hT hP
 go_enter Tryd.func43,Tryd.ntmps43
 go_wp2
 rw [←HW.out]
 refine wp_region_held_drew (S:=fun w2=>Below W.heap.size W w2) (by kernel_rfl) hd (fun hHeld => ?_)
 refine wpAnyH_take (i:=0) (v := .agg (ints .u8 64 kv).toArray) rfl (by kernel_rfl) (by kernel_rfl) (by kernel_rfl) (fun _ _ _ h=>h) (yieldsIf_load_mid (by rfl) 73 _ rfl w.heap.size 0 rfl _ _ hr Tryd.underlying73 rfl hi') hHeld ?_
 refine wpAnyH_take (i:=1) (v := .agg (ints .u8 64 kv).toArray) rfl (by kernel_rfl) (by kernel_rfl) (by kernel_rfl) (fun _ _ _ h=>h) (yieldsIf_load_mid (by rfl) 73 _ rfl w.heap.size 0 rfl _ _ hr Tryd.underlying73 rfl hi') hHeld ?_
 refine wpAnyH_take (i:=2) (v := .slice (some ⟨gp,0,none⟩) cnt cap) rfl (by kernel_rfl) (by kernel_rfl) (by kernel_rfl) (fun _ _ _ h=>h) (Or.inl ⟨by rfl,fun w2 _=>by go_simp⟩) hHeld ?_
 refine wpAnyH_ready (rs:=[3]) (by kernel_rfl) (by simp) ?_
 refine AllReadyH.cons rfl (fun K hK => ?_) AllReadyH.nil
 go_simp
 go_at_call 55
 refine c1.mono ?_
 rintro e w5 ⟨ga,rfl,hga,hrow,hb5⟩
 have hbn:=below_next hd hb5
 go_simp
 refine hK.out _ _ hbn (fun hHeld2 => ?_)
 clear hK K
 refine wpAnyH_ready (rs:=[4]) (by kernel_rfl) (by simp) ?_
 refine AllReadyH.cons rfl (fun K hK => ?_) AllReadyH.nil
 go_simp
 refine hK.out _ _ (hbn.alloc hbn.size _) (fun hHeld3 => ?_)
 clear hK K
 refine wpAnyH_ready (rs:=[5]) (by kernel_rfl) (by simp) ?_
 refine AllReadyH.cons rfl (fun K hK => ?_) AllReadyH.nil
 go_simp
 go_at_call 55
 refine (c2 w5 ga hbn hrow).mono ?_
 rintro e w6 ⟨gb,rfl,hgb,hrowb,hb6⟩
 have hbm:=below_next (hbn.alloc hbn.size _) hb6
 go_simp
 refine hK.out _ _ hbm (fun hHeld4 => ?_)
 clear hK K
 refine wpAnyH_take (i:=6) (v := .slice (some ⟨gb,0,none⟩) 32 32) rfl (by kernel_rfl) (by kernel_rfl) (by kernel_rfl) (fun _ _ _ h=>h) (Or.inl ⟨by rfl,fun w2 _=>by go_simp⟩) hHeld4 ?_
 refine wpAnyH_done (by kernel_rfl) ?_ _
 go_simp
 go_wp2
 go_ret
 have hz:=hbn.size
 simp only [World.size_alloc] at hgb
 exact ⟨gb,rfl,by omega,hrowb,hbw.trans (hbm.mono (by omega))⟩
theorem zero64 (w:World):Sem.run Tryd.prog (zeroValue 73) w = .ok (.agg (zb 64)) w:=by kernel_rfl
def keyB (n:Nat) (bs:Nat→Nat):Nat→Nat:=fun j=>if n≤64 then (if j<n then bs j else 0) else (if j<32 then outB 32 (specS rn cubeK squareK n bs) j else 0)
theorem keyB_lt {n:Nat} {bs:Nat→Nat} (h:∀ j,bs j<256):∀ j,keyB n bs j<256:=fun j=>by
 unfold keyB
 split
 · split
   · exact h j
   · decide
 · split
   · exact Nat.mod_lt _ (by decide)
   · decide
theorem lay64 (W0:World) (n:Nat) (bs:Nat→Nat) (hn:n≤64) :
 RowAt .u8 ((W0.alloc (.cells (zb 64) 73)).setCells W0.heap.size 0 (ints .u8 n bs)) W0.heap.size 0 64 (fun j=>if j<n then bs j else 0):=by
 have h0:RowAt .u8 (W0.alloc (.cells (zb 64) 73)) W0.heap.size 0 64 (fun _=>0):=RowAt.fresh (fun j hj=>zb_at 64 j hj)
 have h1:=h0.splice 0 n bs (by omega)
 rw [Nat.add_zero] at h1
 refine h1.congr (fun j hj => ?_)
 unfold over
 by_cases e:j<n
 · rw [if_pos ⟨Nat.zero_le _,by omega⟩,if_pos e,Nat.sub_zero]
 · rw [if_neg (by omega),if_neg e]
theorem there64 (W0:World):(W0.alloc (.cells (zb 64) 73)).there W0.heap.size 0 64:=fun j hj=>by
 have h0:RowAt .u8 (W0.alloc (.cells (zb 64) 73)) W0.heap.size 0 64 (fun _=>0):=RowAt.fresh (fun j hj=>zb_at 64 j hj)
 exact ⟨by rw [(h0 j hj).1];rfl,(h0 j hj).2⟩
end Go.Proofs.YtibdhadbflfdpaaDoor
namespace Go.Proofs.YtibdhadbflfdpaaDoor
open Go.RowKit
theorem padG_at (N c:Nat):∀ i j,i≤8→9≤N→j<N→padG N c i j=if N - i≤j then c*8 / 2 ^ (8*(N - 1 - j))%256 else if j=0 then 128 else 0
 | 0,j,_,_,hj=>by
  rw [if_neg (by omega)]
  unfold padG upd
  rfl
 | i+1,j,hi,hN,hj=>by
  unfold padG upd
  by_cases e:j=N - 1 - i
  · rw [if_pos e,if_pos (by omega),show N - 1 - j=i by omega]
  · rw [if_neg e,padG_at N c i j (by omega) hN hj]
    by_cases e2:N - i≤j
    · rw [if_pos e2,if_pos (by omega)]
    · rw [if_neg e2,if_neg (show ¬(N - (i+1)≤j) by omega)]
theorem padN32_ge (c:Nat):9≤padN rn c:=by
 show 9≤1+(4*32 - 1 - 32 / 4 - c%(2*32))%(2*32)+32 / 4
 omega
theorem padF32_first (c:Nat):padF rn c 0=128:=by
 have h:=padN32_ge c
 unfold padF
 rw [padG_at _ c 8 0 (Nat.le_refl _) (by omega) (by omega),if_neg (by omega),if_pos rfl]
theorem padF32_mid (c t:Nat) (h0:0<t) (ht:t+8<padN rn c):padF rn c t=0:=by
 unfold padF
 rw [padG_at _ c 8 t (Nat.le_refl _) (by omega) (by omega),if_neg (by omega),if_neg (by omega)]
theorem padF32_last (c i t:Nat) (hi:i<8) (ht:t+1+i=padN rn c):padF rn c t=c*8 / 2 ^ (8*i)%256:=by
 have h:=padN32_ge c
 unfold padF
 rw [padG_at _ c 8 t (Nat.le_refl _) (by omega) (by omega),if_pos (by omega),show padN rn c - 1 - t=i by omega]
set_option maxRecDepth 20000 in
set_option maxHeartbeats 2000000 in
theorem padded32_any (g0 g1 g2 g3:Nat) (v:Value) (n:Nat) (bs:Nat→Nat) (w:World) (hv:BytesIn w v n bs) (hn:n<140737488355000) :
 Calls Tryd.prog 51 #[(.agg #[.int .i64 32,.int .i64 64,.int .i64 64,.slice (some ⟨g0,0,none⟩) 3 3,.slice (some ⟨g1,0,none⟩) 3 3,.slice (some ⟨g2,0,none⟩) 3 3,.slice (some ⟨g3,0,none⟩) 3 3]),v] w fun e w'=>∃ v',e = .returned v'∧Own w.heap.size w' v' (n+padN rn n) (cat n bs (padF rn n))∧Below w.heap.size w w':=by
 obtain ⟨xo,cx,rfl,hxn,-,hsrc⟩:=hv.src
 clear hv
 obtain ⟨F,hF⟩:∃ F,F=cat n bs (padF rn n):=⟨_,rfl⟩
 have HF:Hid (F=cat n bs (padF rn n)):=hF
 obtain ⟨Z,hZ⟩:∃ Z,Z=(4*32 - 1 - 8 - n%64)%64:=⟨_,rfl⟩
 have hN:padN rn n=1+Z+8:=by rw [hZ];rfl
 have F0:∀ j,j<n→F j=bs j:=fun j hj=>by rw [hF,cat_left hj]
 have F1:F n=128:=by rw [hF];unfold cat;rw [if_neg (by omega),Nat.sub_self];exact padF32_first n
 have F2:∀ k,k<Z→F (n+1+k)=0:=fun k hk=>by rw [hF,Nat.add_assoc,cat_right];exact padF32_mid n _ (by omega) (by omega)
 have F3:∀ k,k+8<8→F (n+1+Z+k)=0:=fun k hk=>by rw [hF,Nat.add_assoc,Nat.add_assoc,cat_right];exact padF32_mid n _ (by omega) (by omega)
 have F4:∀ k i,i<8→k+1+i=8→F (n+1+Z+k)=n*8 / 2 ^ (8*i)%256:=fun k i hi hk=>by rw [hF,Nat.add_assoc,Nat.add_assoc,cat_right];exact padF32_last n i _ hi (by omega)
 rw [hN,←hF]
 have hbZ:Below w.heap.size w (w.alloc (.cells #[.int .i64 32,.int .i64 64,.int .i64 64,.slice (some ⟨g0,0,none⟩) 3 3,.slice (some ⟨g1,0,none⟩) 3 3,.slice (some ⟨g2,0,none⟩) 3 3,.slice (some ⟨g3,0,none⟩) 3 3] 68)):=(Below.refl _ _).alloc (Nat.le_refl _) _
 have hzb:=zbox32 w g0 g1 g2 g3
 obtain ⟨W,hW⟩:∃ W,W=w.alloc (.cells #[.int .i64 32,.int .i64 64,.int .i64 64,.slice (some ⟨g0,0,none⟩) 3 3,.slice (some ⟨g1,0,none⟩) 3 3,.slice (some ⟨g2,0,none⟩) 3 3,.slice (some ⟨g3,0,none⟩) 3 3] 68):=⟨_,rfl⟩
 have HW:Hid (W=w.alloc (.cells #[.int .i64 32,.int .i64 64,.int .i64 64,.slice (some ⟨g0,0,none⟩) 3 3,.slice (some ⟨g1,0,none⟩) 3 3,.slice (some ⟨g2,0,none⟩) 3 3,.slice (some ⟨g3,0,none⟩) 3 3] 68)):=hW
 have hWs:W.heap.size=w.heap.size+1:=by rw [hW];simp
 rw [←hW] at hbZ hzb
 have hW0:w.heap.size+1≤W.heap.size:=by omega
 have src0:Src (W.alloc (.cells #[] 5)) xo n F:=by
  rcases hsrc _ (hbZ.alloc (by omega) (.cells #[] 5)) with h | ⟨bb,ob,h1,h2⟩
  · exact .inl h
  · exact .inr ⟨bb,ob,h1,fun j hj=>by rw [F0 j hj];exact h2 j hj⟩
 clear hF hW hsrc F0
 go_enter Tryd.func51,Tryd.ntmps51
 go_wp2_with (first
  | (at_builtin;rw [←HW.out];go_loud (refine wpList_append_empty rfl (.tmp 8) (.tmp 9) rfl (w.heap.size+1) F (w.heap.size+1) hWs rfl xo n cx rfl src0 hxn (by omega) hW0 ?_);intro v1 w1 own1 hb1;have hs1:=hb1.size;clear src0)
  | (at_builtin;refine wpList_append_next rfl (.tmp 10) (.tmp 11) rfl (w.heap.size+1) v1 n F _ rfl own1 rfl (by rw [F1];rfl) (by omega) (by omega) ?_;intro v2 w2 own2 hb2;replace hb2:=hb1.trans hb2;clear own1 hb1 hs1))
 have hzw:∀ wr,Below (w.heap.size+1) W wr→wr.cell? ⟨w.heap.size,1,none⟩=some (.int .i64 64):=fun wr h=>(h.cell (p:=⟨w.heap.size,1,none⟩) (Nat.lt_succ_self _)).trans hzb.2.1
 go_loopw [5] (fun v wr=>∃ k:Nat,k≤Z∧Own (w.heap.size+1) wr v (n+1+k) F∧Below (w.heap.size+1) W wr) (fun v _=>n+1+Z - lenV v)
 case atStart=>exact ⟨0,Nat.zero_le _,own2,hb2⟩
 case round =>
  clear own2 hb2
  obtain ⟨k,hk,own,hb⟩:=hrel
  obtain ⟨L,hL⟩:∃ L,L=n+1+k:=⟨_,rfl⟩
  have HL:Hid (L=n+1+k):=hL
  rw [←hL] at own
  rcases own.form with ⟨-,h0⟩ | ⟨g,cap,rfl,-,-,-,-⟩
  · omega
  have hs:=hb.size
  have hz1:=hzw _ hb
  have hLb:L<140737488355300:=by omega
  by_cases hlt:k<Z
  · have hc:((L:Int)+8)%64≠0:=by omega
    have hFL:Hid ((0:Int)=(F L:Int)):=(by rw [hL,F2 k hlt];rfl:(0:Int)=(F L:Int))
    clear hL hZ hN
    go_wp2_with (at_builtin;go_loud (refine wpList_append_next rfl (.tmp 23) (.tmp 24) rfl (w.heap.size+1) _ L F _ rfl own rfl hFL.out (by omega) (by omega) ?_);intro v3 w3 own3 hb3)
    rcases own3.form with ⟨-,h0⟩ | ⟨g3,cap3,rfl,-,-,-,-⟩
    · omega
    go_roundw
    case rel=>exact ⟨k+1,by omega,own3.start (by have:=HL.out;omega),hb.trans hb3⟩
    case measure=>have:=HL.out;simp [lenV];omega
  · have hc:((L:Int)+8)%64=0:=by omega
    have hkZ:k=Z:=by omega
    rw [hkZ] at hL
    have HLZ:Hid (L=n+1+Z):=hL
    clear hL hkZ hZ
    go_wp2
    clear hz1 hc
    go_loopw [5,7] (fun v i wq=>∃ k:Nat,k≤8∧i = .int .i64 (8 - 1 - (k:Int))∧Own (w.heap.size+1) wq v (L+k) F∧Below (w.heap.size+1) W wq) (fun v _ _=>L+8 - lenV v)
    case atStart=>exact ⟨0,Nat.zero_le _,by go_num,own,hb⟩
    case round =>
     clear own hb hs hlt hk
     obtain ⟨q,hq,rfl,own,hb⟩:=hrel
     have hs:=hb.size
     rcases own.form with ⟨-,h0⟩ | ⟨g,cap,rfl,-,-,-,-⟩
     · have:=HLZ.out;omega
     by_cases hlt:q<8
     · obtain ⟨i,hi⟩:∃ i:Nat,i=8 - 1 - q:=⟨_,rfl⟩
       have hii:(8 - 1 - (q:Int))=(i:Int):=by omega
       have hi8:i<8:=by omega
       rw [hii]
       have hF8:8≤i→(0:Int)=(F (L+q):Int):=fun h=>by rw [HLZ.out,F3 q (by omega)];rfl
       have hF7:i<8→(((n*8 / 2 ^ (8*i)%256:Nat)):Int)=(F (L+q):Int):=fun h=>by rw [HLZ.out,F4 q i h (by omega)]
       have HI:Hid (i=8 - 1 - q):=hi
       clear hi hii
       by_cases h8:8≤i
       · omega
       · have hF:Hid ((((n*8 / 2 ^ (8*i)%256:Nat)):Int)=(F (L+q):Int)):=hF7 (by omega)
         clear hF7 hF8
         go_wp2_with (at_builtin;go_loud (refine wpList_append_next rfl (.tmp 43) (.tmp 50) rfl (w.heap.size+1) _ (L+q) F _ rfl own rfl (by rw [←hF.out];simp) (by omega) (by omega) ?_);intro v3 w3 own3 hb3)
         rcases own3.form with ⟨-,h0⟩ | ⟨g3,cap3,rfl,-,-,-,-⟩
         · omega
         go_roundw
         case rel=>exact ⟨q+1,by omega,by have:=HI.out;go_num,own3.start (by omega),hb.trans hb3⟩
         case measure=>simp [lenV];omega
     · have hqe:q=8:=by omega
       go_wp2
       go_ret
       refine ⟨_,rfl,?_,?_⟩
       · exact own_base (own.start (by have:=HLZ.out;omega)) (by omega)
       · exact hbZ.trans (hb.mono (by omega))
end Go.Proofs.YtibdhadbflfdpaaDoor
namespace Go.Proofs.YtibdhadbflfdpaaDoor
open Go.RowKit
set_option maxRecDepth 20000 in
set_option maxHeartbeats 2000000 in
theorem blockOf_short_any (xo:Option Addr) (n cx:Nat) (bs:Nat→Nat) (w:World) (hv:BytesIn w (.slice xo n cx) n bs) (hn:n≤64) :
 Calls Tryd.prog 42 #[.slice xo n cx] w fun e w'=>e = .returned (.agg (ints .u8 64 (keyB n bs)).toArray)∧Below w.heap.size w w':=by
 have hz:=zero64
 have hi':∀ X:Nat→Nat,(Tryd.prog.info? 73).map (·.size)=some (ints .u8 64 X).length:=fun X=>by rw [ints_len];exact info64
 have hi2:∀ X:Nat→Nat,(Tryd.prog.info? 73).map (·.size)=some (ints .u8 64 X).toArray.size:=fun X=>by rw [List.size_toArray,ints_len];exact info64
 have hone:∀ X:Nat→Nat,(ints .u8 64 X).toArray.all (·.oneCell')=true:=fun X=>all_oneCell_toArray (ints_one _ _ _)
 obtain ⟨W0,hW0⟩:∃ W0,W0=w.alloc (.cells (zb 64) 73):=⟨_,rfl⟩
 have HW0:Hid (W0=w.alloc (.cells (zb 64) 73)):=hW0
 have hWs:w.heap.size<W0.heap.size:=by rw [hW0];simp
 have hWe:w.heap.size+1=W0.heap.size:=by rw [hW0];simp
 have hbw:Below w.heap.size w W0:=by rw [hW0];exact (Below.refl _ _).alloc (Nat.le_refl _) _
 have hres:W0.there w.heap.size 0 64:=by rw [hW0];exact there64 w
 have hkey:∀ j,j<64→(if j<n then bs j else 0)=keyB n bs j:=fun j _=>by unfold keyB;rw [if_pos hn]
 obtain ⟨xo',cx',hve,hxn,-,hsrc⟩:=hv.src
 cases hve
 have src0:Src (W0.alloc (.cells (zb 64) 73)) xo n bs:=hsrc _ (hbw.alloc (by omega) _)
 obtain ⟨W3,hW3⟩:∃ W3,W3=(W0.alloc (.cells (zb 64) 73)).setCells (w.heap.size+1) 0 (ints .u8 n bs):=⟨_,rfl⟩
 have HW3:Hid (W3=(W0.alloc (.cells (zb 64) 73)).setCells (w.heap.size+1) 0 (ints .u8 n bs)):=hW3
 have hrow3:RowAt .u8 W3 (w.heap.size+1) 0 64 (keyB n bs):=by rw [hW3,hWe];exact (lay64 W0 n bs (by omega)).congr hkey
 have hb3:Below W0.heap.size W0 W3:=by rw [hW3,hWe];exact below_setCells (Nat.le_refl _) _ _ _ ((Below.refl _ _).alloc (Nat.le_refl _) _)
 have hres3:W3.there w.heap.size 0 (ints .u8 64 (keyB n bs)).toArray.size:=fun j hj=>by
  rw [List.size_toArray,ints_len] at hj
  rw [hb3.cell (p:=⟨w.heap.size,0+j,none⟩) hWs,hb3.frozen (p:=⟨w.heap.size,0+j,none⟩) hWs]
  exact hres j hj
 have hmin:Hid (n=Nat.min n 64):=(Nat.min_eq_left hn).symm
 have hth:(W0.alloc (.cells (zb 64) 73)).there (w.heap.size+1) 0 64:=by rw [hWe];exact there64 W0
 have hni:¬(64<(n:Int)):=by omega
 clear hW0 hW3 hv hsrc hWe hkey hres
 go_enter Tryd.func42,Tryd.ntmps42
 go_wp2_with (first
  | (refine wpList_load_mid rfl 73 _ rfl _ 0 rfl _ _ hrow3.range Tryd.underlying73 rfl (hi' _) ?_)
  | (refine wpList_store_mid rfl 73 _ _ rfl _ 0 _ rfl rfl hres3 (hi2 _) (hone _) ?_)
  | (rw [←HW0.out];refine wpList_copy_bytes rfl _ _ 22 22 rfl 5 Tryd.underlying22 (by kernel_rfl) (w.heap.size+1) 0 64 64 xo n cx rfl rfl n bs src0 hmin.out hth ?_;rw [←HW3.out]))
 refine bodyPost_ret (results_cell_mid Tryd.results42 _ _ w.heap.size 0 (ints .u8 64 (keyB n bs)) _ rfl (World.rangeAt_setCells_same _ _ _ _ (by rw [List.size_toArray] at hres3;exact hres3)) Tryd.underlying73 rfl (hi' _)) rfl ⟨rfl,?_⟩
 exact below_setCells (Nat.le_refl _) _ _ _ (hbw.trans (hb3.mono (by omega)))
set_option maxRecDepth 20000 in
set_option maxHeartbeats 2000000 in
theorem blockOf_long_any (xo:Option Addr) (n cx:Nat) (bs:Nat→Nat) (hbs:∀ j,bs j<256) (hnb:n<2305843009213693000) (w:World) (hT:HTab w cubeK squareK) (hv:BytesIn w (.slice xo n cx) n bs) (hn:¬n≤64) :
 Calls Tryd.prog 42 #[.slice xo n cx] w fun e w'=>e = .returned (.agg (ints .u8 64 (keyB n bs)).toArray)∧Below w.heap.size w w':=by
 have hz:=zero64
 have hi':∀ X:Nat→Nat,(Tryd.prog.info? 73).map (·.size)=some (ints .u8 64 X).length:=fun X=>by rw [ints_len];exact info64
 have hi2:∀ X:Nat→Nat,(Tryd.prog.info? 73).map (·.size)=some (ints .u8 64 X).toArray.size:=fun X=>by rw [List.size_toArray,ints_len];exact info64
 have hone:∀ X:Nat→Nat,(ints .u8 64 X).toArray.all (·.oneCell')=true:=fun X=>all_oneCell_toArray (ints_one _ _ _)
 have h3:=hT.size
 have hb1:Below w.heap.size w (w.alloc (.cells (zb 64) 73)):=(Below.refl _ _).alloc (Nat.le_refl _) _
 have hs:=Sum256_any cubeK squareK (.slice xo n cx) n bs hbs (w.alloc (.cells (zb 64) 73)) (hT.below hb1 h3) (hv.still hb1) (by omega)
 rw [hashS_spec cubeK squareK n bs (by decide)] at hs
 have hkey:∀ j,j<64→(if j<32 then outB 32 (specS rn cubeK squareK n bs) j else 0)=keyB n bs j:=fun j _=>by unfold keyB;rw [if_neg hn]
 obtain ⟨X,hX⟩:∃ X,X=outB 32 (specS rn cubeK squareK n bs):=⟨_,rfl⟩
 rw [←hX] at hs hkey
 have hk:∀ (W0:World) (ga:Nat),Below (w.alloc (.cells (zb 64) 73)).heap.size (w.alloc (.cells (zb 64) 73)) W0→RowAt .u8 W0 ga 0 32 X→∃ W3,W3=(W0.alloc (.cells (zb 64) 73)).setCells W0.heap.size 0 (ints .u8 32 X)∧RowAt .u8 W3 W0.heap.size 0 64 (keyB n bs)∧Below w.heap.size w W3∧W3.there w.heap.size 0 (ints .u8 64 (keyB n bs)).toArray.size∧(W0.alloc (.cells (zb 64) 73)).there W0.heap.size 0 64∧Src (W0.alloc (.cells (zb 64) 73)) (some ⟨ga,0,none⟩) 32 X:=fun W0 ga hb hra=>by
  have hsz:=hb.size
  simp only [World.size_alloc] at hsz
  have hga:ga<W0.heap.size:=block_lt_of_cell (hra 0 (by decide)).1
  have hb3:Below W0.heap.size W0 ((W0.alloc (.cells (zb 64) 73)).setCells W0.heap.size 0 (ints .u8 32 X)):=below_setCells (Nat.le_refl _) _ _ _ ((Below.refl _ _).alloc (Nat.le_refl _) _)
  refine ⟨_,rfl,(lay64 W0 32 X (by decide)).congr hkey,(hb1.trans (hb.mono (by simp))).trans (hb3.mono (by omega)),fun j hj => ?_,there64 W0,.inr ⟨ga,0,rfl,fun j hj => ?_⟩⟩
  · rw [List.size_toArray,ints_len] at hj
    rw [hb3.cell (p:=⟨w.heap.size,0+j,none⟩) (by show w.heap.size<_;omega),hb3.frozen (p:=⟨w.heap.size,0+j,none⟩) (by show w.heap.size<_;omega),hb.cell (p:=⟨w.heap.size,0+j,none⟩) (by simp),hb.frozen (p:=⟨w.heap.size,0+j,none⟩) (by simp)]
    exact there64 w j hj
  · rw [World.cell?_alloc_lt _ _ _ hga];exact (hra j hj).1
 have hni:64<(n:Int):=by omega
 clear hX hkey hv hT hb1 hn
 go_enter Tryd.func42,Tryd.ntmps42
 go_wp2_with (first
  | (go_at_call 23;refine hs.mono ?_;clear hs;rintro e W0 ⟨ga,rfl,hga,hra,hb⟩;obtain ⟨W3,hW3,hrow3,hb3,hres3,hth,src0⟩:=hk W0 ga hb hra;(have HW3:Hid (W3=(W0.alloc (.cells (zb 64) 73)).setCells W0.heap.size 0 (ints .u8 32 X)):=hW3);clear hk hW3)
  | (refine wpList_load_mid rfl 73 _ rfl _ 0 rfl _ _ hrow3.range Tryd.underlying73 rfl (hi' _) ?_)
  | (refine wpList_store_mid rfl 73 _ _ rfl _ 0 _ rfl rfl hres3 (hi2 _) (hone _) ?_)
  | (refine wpList_copy_bytes rfl _ _ 22 22 rfl 5 Tryd.underlying22 (by kernel_rfl) W0.heap.size 0 64 64 (some ⟨ga,0,none⟩) 32 32 rfl rfl 32 X src0 rfl hth ?_;rw [←HW3.out]))
 refine bodyPost_ret (results_cell_mid Tryd.results42 _ _ w.heap.size 0 (ints .u8 64 (keyB n bs)) _ rfl (World.rangeAt_setCells_same _ _ _ _ (by rw [List.size_toArray] at hres3;exact hres3)) Tryd.underlying73 rfl (hi' _)) rfl ⟨rfl,?_⟩
 exact below_setCells (Nat.le_refl _) _ _ _ hb3
theorem blockOf_any (v:Value) (n:Nat) (bs:Nat→Nat) (hbs:∀ j,bs j<256) (hnb:n<2305843009213693000) (w:World) (hT:HTab w cubeK squareK) (hv:BytesIn w v n bs) :
 Calls Tryd.prog 42 #[v] w fun e w'=>e = .returned (.agg (ints .u8 64 (keyB n bs)).toArray)∧Below w.heap.size w w':=by
 obtain ⟨xo,cx,rfl,_,_,_⟩:=hv.src
 by_cases hn:n≤64
 · exact blockOf_short_any xo n cx bs w hv hn
 · exact blockOf_long_any xo n cx bs hbs hnb w hT hv hn
end Go.Proofs.YtibdhadbflfdpaaDoor
namespace Go.Proofs.YtibdhadbflfdpaaDoor
open Go.RowKit
theorem wpAnyH_narrow {P:Program} {md:Region.Mode} {ops:Array Oper} {Q:Exit→Act→World→Prop} {S S':World→Prop} (h:∀ w,S' w→S w):∀ (fuel:Nat) (listed:Array Bool) (a:Act) (w:World),wpAnyH P md ops Q S' fuel listed a w→wpAnyH P md ops Q S fuel listed a w
 | 0,_,_,_,H=>H
 | fuel+1,_,_,_,H=>⟨H.1,fun i hi=>wpOp_mono (fun a' w' h'=>⟨h w' h'.1,wpAnyH_narrow h fuel _ a' w' h'.2⟩) (H.2 i hi)⟩
end Go.Proofs.YtibdhadbflfdpaaDoor
namespace Go.Proofs.YtibdhadbflfdpaaDoor
open Go.RowKit
structure RW (w:World) (g o:Nat) (cs:List Value):Prop where
 range:w.rangeAt g o cs
 there:w.there g o cs.length
 lt:g<w.heap.size
theorem RW.still {w w':World} {g o:Nat} {cs:List Value} (h:RW w g o cs) (hb:Below w.heap.size w w'):RW w' g o cs :=
 ⟨fun j v hv=>(hb.cell (p:=⟨g,o+j,none⟩) h.lt).trans (h.range j v hv),fun j hj=>by
   rw [hb.cell (p:=⟨g,o+j,none⟩) h.lt,hb.frozen (p:=⟨g,o+j,none⟩) h.lt];exact h.there j hj,Nat.lt_of_lt_of_le h.lt hb.size⟩
theorem RW.below {w w':World} {g o B:Nat} {cs:List Value} (h:RW w g o cs) (hb:Below B w w') (hB:g<B):RW w' g o cs :=
 ⟨fun j v hv=>(hb.cell (p:=⟨g,o+j,none⟩) hB).trans (h.range j v hv),fun j hj=>by
   rw [hb.cell (p:=⟨g,o+j,none⟩) hB,hb.frozen (p:=⟨g,o+j,none⟩) hB];exact h.there j hj,Nat.lt_of_lt_of_le h.lt hb.size⟩
theorem RW.out {w w':World} {g o b p n:Nat} {cs:List Value} (h:RW w g o cs) (hb:Out b p n w w') (hne:g≠b):RW w' g o cs :=
 ⟨fun j v hv=>(hb.cell' h.lt hne).trans (h.range j v hv),fun j hj=>by
   rw [hb.cell' h.lt hne,hb.frozen' h.lt hne];exact h.there j hj,Nat.lt_of_lt_of_le h.lt hb.size⟩
theorem RW.stored {w:World} {g o:Nat} {cs:List Value} (h:RW w g o cs) (ds:List Value) (hl:ds.length=cs.length):RW (w.setCells g o ds) g o ds :=
 ⟨World.rangeAt_setCells_same _ _ _ _ (by rw [hl];exact h.there),World.there_setCells (by rw [hl];exact h.there) _ _ _,by rw [(setCells_same g ds o w).2.2.2];exact h.lt⟩
theorem RW.far {w:World} {g o:Nat} {cs:List Value} (h:RW w g o cs) (b p:Nat) (ds:List Value) (hap:g≠b∨o+cs.length≤p∨p+ds.length≤o):RW (w.setCells b p ds) g o cs :=
 ⟨World.rangeAt_setCells_apart h.range _ _ _ hap,World.there_setCells h.there _ _ _,by rw [(setCells_same b ds p w).2.2.2];exact h.lt⟩
theorem RW.fresh (w:World) (cs:List Value) (t:TypeId):RW (w.alloc (.cells cs.toArray t)) w.heap.size 0 cs :=
 ⟨fun j v hv=>by rw [Nat.zero_add];simp [hv],fun j hj=>by
   rw [Nat.zero_add];simp [hj],by simp⟩
theorem RW.drew {w:World} {g o:Nat} {cs:List Value} (h:RW w g o cs):RW w.drew g o cs:=h.still ((Below.refl _ _).drew)
end Go.Proofs.YtibdhadbflfdpaaDoor
namespace Go.Proofs.YtibdhadbflfdpaaDoor
open Go.RowKit Go.Shelf
attribute [local go_sem] Oper.semAt_some
structure But (bad:Nat→Prop) (W W':World):Prop where
 os:W'.os=W.os
 tape:W'.tape=W.tape
 output:W'.output=W.output
 size:W.heap.size≤W'.heap.size
 block:∀ k,k<W.heap.size→¬bad k→W'.heap[k]? = W.heap[k]?
theorem But.refl (bad:Nat→Prop) (W:World):But bad W W:=⟨rfl,rfl,rfl,Nat.le_refl _,fun _ _ _=>rfl⟩
theorem But.trans {bad:Nat→Prop} {A B C:World} (h:But bad A B) (k:But bad B C):But bad A C:=⟨k.os.trans h.os,k.tape.trans h.tape,k.output.trans h.output,Nat.le_trans h.size k.size,fun i hi hb=>(k.block i (Nat.lt_of_lt_of_le hi h.size) hb).trans (h.block i hi hb)⟩
theorem But.row {bad:Nat→Prop} {W W':World} (h:But bad W W') {K:IntKind} {b o n:Nat} {X:Nat→Nat} (hr:RowAt K W b o n X) (hb:¬bad b):RowAt K W' b o n X:=fun j hj=>by
 have hl:b<W.heap.size:=block_lt_of_cell (hr j hj).1
 exact ⟨(World.cell?_of_block (w:=W) (h.block b hl hb)).trans (hr j hj).1,(World.frozen?_of_block (w:=W) (h.block b hl hb)).trans (hr j hj).2⟩
theorem But.cell {bad:Nat→Prop} {W W':World} (h:But bad W W') {b o:Nat} {v:Value} (hc:W.cell? ⟨b,o,none⟩=some v) (hb:¬bad b):W'.cell? ⟨b,o,none⟩=some v :=
 (World.cell?_of_block (w:=W) (h.block b (block_lt_of_cell hc) hb)).trans hc
theorem wpListIn_load_mid {P:Program} {n:Nat} {ops:Array Oper} {rest:List Oper} {op:Oper} {a:Act} {w:World} {Q:Exit→Act→World→Prop} (hgd:op.guard=none) (ty:TypeId) (x:Operand) (ho:op.op = .load ty x)
 (b o:Nat) (hx:a.eval x = .pointer (some ⟨b,o,none⟩)) (cs:List Value) (d:TypeDesc) (hc:w.rangeAt b o cs)
 (hu:P.underlying ty=some d) (hd:d.isRow=true) (hi:(P.info? ty).map (·.size)=some cs.length)
 (h:wpListIn Fence.wide n P ops Q rest (a.put op.dst (.agg cs.toArray)) w):wpListIn Fence.wide n P ops Q (op :: rest) a w :=
 wpListIn_plain hgd fun _ hK=>⟨fun _ _=>trivial,by
  have hsem:(op.semAt Fence.wide.round a.eval)=execOp a.eval op:=rfl
  rw [hsem]
  unfold execOp
  simp only [ho,hx,Instr.loadAt,Instr.sureAddr,Sem.run_bind,Sem.run_pure,Result.andThen_ok,run_loadVar_mid w b o ty cs d hc hu hd hi]
  exact hK _ _ h⟩
theorem wpListIn_store_mid {P:Program} {n:Nat} {ops:Array Oper} {rest:List Oper} {op:Oper} {a:Act} {w:World} {Q:Exit→Act→World→Prop} (hgd:op.guard=none) (ty:TypeId) (x y:Operand) (ho:op.op = .store ty x y)
 (b o:Nat) (cells:Array Value) (hx:a.eval x = .pointer (some ⟨b,o,none⟩)) (hy:a.eval y = .agg cells) (ht:w.there b o cells.size) (hi:(P.info? ty).map (·.size)=some cells.size) (h1:cells.all (·.oneCell')=true)
 (h:wpListIn Fence.wide n P ops Q rest (a.put op.dst undef) (w.setCells b o cells.toList)):wpListIn Fence.wide n P ops Q (op :: rest) a w :=
 wpListIn_plain hgd fun _ hK=>⟨fun _ _=>trivial,by
  have hsem:(op.semAt Fence.wide.round a.eval)=execOp a.eval op:=rfl
  rw [hsem]
  unfold execOp
  simp only [ho,hx,hy,Instr.storeAt,Instr.sureAddr,Sem.run_bind,Sem.run_pure,Result.andThen_ok,run_storeVar_mid w b o ty cells ht hi h1]
  exact hK _ _ h⟩
theorem But.below {bad:Nat→Prop} {W W':World} (h:But bad W W') {B:Nat} (hB:B≤W.heap.size) (hb:∀ k,bad k→B≤k):Below B W W':=⟨h.os,h.tape,h.output,h.size,fun k hk=>h.block k (by omega) (fun hk'=>by have:=hb k hk';omega)⟩
theorem but_put (W:World) (l:Nat) (o:Obj):But (fun k=>k=l) W (W.putObj l o):=⟨rfl,rfl,rfl,by simp [World.putObj],fun k _ hb=>World.putObj_heap_other (fun e=>hb e)⟩
theorem But.mono {b c:Nat→Prop} {W W':World} (h:But b W W') (hb:∀ k,b k→c k):But c W W':=⟨h.os,h.tape,h.output,h.size,fun k hk hc=>h.block k hk (fun e=>hc (hb k e))⟩
theorem wpIn_range_with {F:Fence} {P:Program} {n:Nat} {g:Operand} {ps:Array Tmp} {assign body:Code} {Q:Exit→Act→World→Prop} {a:Act} {w:World} {gf:Nat} {lb:Array Value} (hro:F.round=none) (hF:∀ f,F.fn f) (hd:F.depth.isSome=true→1≤n) (hg:a.eval g = .func (.func gf) #[] lb) (eg:∀ args w,(callFunc gf args).run P w = .ok (.enter gf args) w)
 (h:∀ r0:Loop,r0.state = .ready→r0.pending=none→r0.tmps=a.tmps→r0.params=ps→r0.assign=assign→r0.body=body →
   CallsIn F (n - 1) P gf (#[.func (.yield (w.heap.size+1)) #[] #[]] ++ lb) ((w.alloc (.deferred (some []))).alloc (.loop r0)) (rangePost F n P (w.heap.size+1) Q { a with defers:=[{ target := .collected w.heap.size,args:=#[] }] ++ a.defers })) :
 (Code.rangeFunc g ps assign body).wpIn F n P Q a w:=by
 refine wpIn_rangeFunc ?_
 intro fn _
 rw [hro]
 obtain ⟨r0,hr0⟩:∃ r0:Loop,r0={ state := .ready,pending:=none,fn,tmps:=a.tmps,params:=ps,assign,body,defers:=w.heap.size }:=⟨_,rfl⟩
 obtain ⟨W1,hW1⟩:∃ W1,(w.alloc (.deferred (some []))).alloc (.loop r0)=W1:=⟨_,rfl⟩
 have hh:=h r0 (by rw [hr0]) (by rw [hr0]) (by rw [hr0]) (by rw [hr0]) (by rw [hr0]) (by rw [hr0])
 rw [hW1] at hh
 clear h
 refine ⟨w.heap.size+1,[{ target := .collected w.heap.size,args:=#[] }],W1,{ target := .fn (.func gf) lb,args:=#[.func (.yield (w.heap.size+1)) #[] #[]] },W1,gf,
  #[.func (.yield (w.heap.size+1)) #[] #[]] ++ lb,W1,?_,?_,?_,?_,hd,?_⟩
 · rw [←hW1,hr0];exact run_enterLoop_outer _ _ _ _ _
 · simp only [resolve,hg]
   simp [go_sem]
 · intro f' _;exact hF f'
 · simp [invoke,go_sem,eg]
 · exact hh
theorem loop_back (r0:Loop) (h1:r0.state = .ready) (h2:r0.pending=none):({ { r0 with state := .busy } with state := .ready,pending:=none }:Loop)=r0:=by
 cases r0
 cases h1
 cases h2
 rfl
theorem yield_round {P:Program} {n l:Nat} {r0:Loop} {args:Array Value} {W:World} {R:Ending→World→Prop} (hl:W.heap[l]? = some (.loop r0)) (hs:args.size=r0.params.size)
 (h:r0.assign.wpIn (Fence.wide.inRound l) n P (Exit.then (fun a₁ w₁=>∃ w₂,(Instr.beginRound l).run P w₁ = .ok () w₂∧r0.body.wpIn (Fence.wide.inRound l) n P (roundPost P l R) a₁ w₂) (fun _ _ _=>False)) { tmps:=(r0.params.zip args).foldl (fun tmps (t,a)=>tmps.setIfInBounds t a) r0.tmps,defers:=[] } W):YieldAt Fence.wide n P l args W R :=
 ⟨r0.fn,_,r0.assign,r0.body,run_yield hl hs,roundIn_of_wpIn trivial h⟩
end Go.Proofs.YtibdhadbflfdpaaDoor
namespace Go.Proofs.YtibdhadbflfdpaaDoor
open Go.RowKit Go.Shelf
attribute [local go_sem] Oper.semAt_some
theorem tags_any (x1 x2:Option Addr) (n1 n2 c1 c2:Nat) (w:World):Calls Tryd.prog 31 #[.slice x1 n1 c1,.slice x2 n2 c2] w fun e w'=>e = .returned (.func (.func 41) #[] #[.pointer (some ⟨w.heap.size,0,none⟩),.pointer (some ⟨w.heap.size+1,0,none⟩)])∧w'=(w.alloc (.cells #[.slice x1 n1 c1] 22)).alloc (.cells #[.slice x2 n2 c2] 22):=by
 go_enter Tryd.func31,Tryd.ntmps31
 go_wp2
 go_ret
 exact ⟨rfl,rfl⟩
def tE (kv:Nat→Nat) (m:Nat) (info:Nat→Nat):Nat→Nat→Nat
 | 0=>fun _=>0
 | i+1=>tagH kv ((if i=0 then 0 else 32)+m+1) (cat (if i=0 then 0 else 32) (tE kv m info i) (cat m info (fun _=>i+1)))
theorem tE_lt (kv:Nat→Nat) (m:Nat) (info:Nat→Nat):∀ i j,tE kv m info i j<256
 | 0,_=>Nat.zero_lt_succ _
 | _+1,j=>tagH_lt _ _ _ j
theorem parts_three (w:World) (v0 v1 v2:Value) (a m c:Nat) (b0 b1 b2:Nat→Nat) (ty:TypeId) (h0:BytesIn w v0 a b0) (h1:BytesIn w v1 m b1) (h2:BytesIn w v2 c b2):Parts (w.alloc (.cells #[v0,v1,v2] ty)) w.heap.size 3 (a+m+c) (cat a b0 (cat m b1 b2)):=by
 have hb:Below w.heap.size w (w.alloc (.cells #[v0,v1,v2] ty)):=(Below.refl _ _).alloc (Nat.le_refl _) _
 have key:∀ {v:Value} {n:Nat} {b c:Nat→Nat},BytesIn w v n b→(∀ j,j<n→b j=c j)→BytesIn (w.alloc (.cells #[v0,v1,v2] ty)) v n c:=fun {v n b c} h e=>by
  rcases h.still hb with h | ⟨bb,ob,cap,rfl,g1,g2,g3⟩
  · exact .inl h
  · exact .inr ⟨bb,ob,cap,rfl,g1,g2,fun j hj=>by rw [g3 j hj,e j hj]⟩
 refine ⟨fun i=>if i=0 then v0 else if i=1 then v1 else v2,fun i=>if i=0 then 0 else if i=1 then a else if i=2 then a+m else a+m+c,rfl,rfl,fun i hi => ?_⟩
 match i,hi with
 | 0,_ =>
  refine ⟨by simp,by simp,by simp;omega,?_⟩
  refine key (b:=b0) (by simpa using h0) (fun j hj => ?_)
  simp at hj
  simp [cat,hj]
 | 1,_ =>
  refine ⟨by simp,by simp,by simp,?_⟩
  refine key (b:=b1) (by simpa using h1) (fun j hj => ?_)
  simp at hj
  simp [cat,hj]
  intro h;omega
 | 2,_ =>
  refine ⟨by simp,by simp,by simp,?_⟩
  refine key (b:=b2) (by simpa using h2) (fun j hj => ?_)
  simp [cat]
  rw [if_neg (by omega),if_neg (by omega)]
  congr 1;omega
def LastAt (bad:Nat→Prop) (W:World) (v:Value) (j:Nat) (X:Nat→Nat):Prop:=(j=0∧v = .slice none 0 0)∨(0<j∧∃ g,v = .slice (some ⟨g,0,none⟩) 32 32∧RowAt .u8 W g 0 32 X∧¬bad g)
theorem LastAt.bytes {bad:Nat→Prop} {W:World} {v:Value} {j:Nat} {X:Nat→Nat} (h:LastAt bad W v j X):BytesIn W v (if j=0 then 0 else 32) X:=by
 rcases h with ⟨rfl,rfl⟩ | ⟨hj,g,rfl,hr,_⟩
 · exact .inl ⟨none,rfl,rfl⟩
 · rw [if_neg (by omega)]
   exact .inr ⟨g,0,32,rfl,block_lt_of_cell (hr 0 (by decide)).1,Nat.le_refl _,fun j hj=>(hr j hj).1⟩
set_option maxRecDepth 100000 in
set_option maxHeartbeats 4000000 in
theorem hiter_in (n:Nat) (w0:World) (hT:HTab w0 cubeK squareK) (x1 x2:Option Addr) (n1 n2 c1 c2:Nat) (ks info:Nat→Nat) (hks:∀ j,ks j<256) (hinfo:∀ j,info j<256) (hn1:n1<2305843009213693000) (hn2:n2<2305843009213692000) (hk:BytesIn w0 (.slice x1 n1 c1) n1 ks) (hi:BytesIn w0 (.slice x2 n2 c2) n2 info)
 (l pb ib:Nat) (bad:Nat→Prop) (hbad:∀ k,bad k→w0.heap.size≤k) (hib:¬bad ib) (Inv:Nat→World→Prop) (Fin:World→Prop) (hInv:∀ j W W',Inv j W→Below W.heap.size W W'→Inv j W') (hEnd:∀ W,¬Inv 255 W)
 (W:World) (hbW:Below w0.heap.size w0 W) (hbad2:∀ k,bad k→k<W.heap.size) (hpb:W.cell? ⟨pb,0,none⟩=some (.slice x1 n1 c1)) (hic:W.cell? ⟨ib,0,none⟩=some (.slice x2 n2 c2))
 (hY:∀ j g W1,j<255→Inv j W1→RowAt .u8 W1 g 0 32 (tE (keyB n1 ks) n2 info (j+1))→¬bad g→Below w0.heap.size w0 W1→YieldAt Fence.wide (n - 1) Tryd.prog l #[.slice (some ⟨g,0,none⟩) 32 32] W1 fun e W' =>
   (e = .returned (.bool true)∧Inv (j+1) W'∧But bad W1 W')∨(e = .returned (.bool false)∧Fin W'))
 (h0:Inv 0 W) :
 CallsIn Fence.wide n Tryd.prog 41 #[.func (.yield l) #[] #[],.pointer (some ⟨pb,0,none⟩),.pointer (some ⟨ib,0,none⟩)] W fun e W'=>(∃ v,e = .returned v)∧Fin W':=by
 have h3:=hT.size
 have hz:=zero64
 have cb:=blockOf_any (.slice x1 n1 c1) n1 ks hks hn1 W (hT.below hbW h3) (hk.still hbW)
 refine callsIn_of_wp Tryd.func41 rfl trivial ?_ rfl
 simp only [Tryd.ntmps41,List.size_toArray,List.length_cons,List.length_nil,Nat.reduceAdd,Nat.reduceSub,Array.replicate_succ,Array.replicate_zero,List.push_toArray,List.append_toArray,List.nil_append,List.cons_append]
 obtain ⟨kv,hkv⟩:∃ kv,kv=keyB n1 ks:=⟨_,rfl⟩
 have hkl:∀ j,kv j<256:=by rw [hkv];exact keyB_lt hks
 rw [←hkv] at cb hY
 have hi2:(Tryd.prog.info? 73).map (·.size)=some (ints .u8 64 kv).toArray.size:=by rw [List.size_toArray,ints_len];exact info64
 have hone:(ints .u8 64 kv).toArray.all (·.oneCell')=true:=all_oneCell_toArray (ints_one _ _ _)
 have hlay:∀ w1:World,∃ W2,W2=(w1.alloc (.cells (zb 64) 73)).setCells w1.heap.size 0 (ints .u8 64 kv).toArray.toList∧RowAt .u8 W2 w1.heap.size 0 64 kv∧Below w1.heap.size w1 W2∧(w1.alloc (.cells (zb 64) 73)).there w1.heap.size 0 (ints .u8 64 kv).toArray.size:=fun w1=>by
  refine ⟨_,rfl,?_,?_,?_⟩
  · have h:=(lay64 w1 64 kv (Nat.le_refl _)).congr (Y:=kv) (fun j hj=>by rw [if_pos hj])
    rw [List.toList_toArray]
    exact h
  · exact below_setCells (Nat.le_refl _) _ _ _ ((Below.refl _ _).alloc (Nat.le_refl _) _)
  · have e:(ints .u8 64 kv).toArray.size=64:=by rw [List.size_toArray,ints_len]
    rw [e];exact there64 w1
 clear hkv
 gi_wp2_with (first
  | (refine ⟨trivial,(fun h=>by cases h),?_⟩;gi_at_call 42;refine (callsIn_wide.2 cb).mono ?_;rintro e w1 ⟨rfl,hb1⟩;obtain ⟨W2,hW2,hrk,hb2,hth⟩:=hlay w1;(have HW2:Hid (W2=(w1.alloc (.cells (zb 64) 73)).setCells w1.heap.size 0 (ints .u8 64 kv).toArray.toList):=hW2);clear hW2 hlay)
  | (refine wpListIn_store_mid rfl 73 _ _ rfl w1.heap.size 0 (ints .u8 64 kv).toArray rfl rfl hth hi2 hone ?_;rw [←HW2.out]))
 have hs1:=hb1.size
 have hs2:=hb2.size
 have hbw2:Below w0.heap.size w0 W2:=hbW.trans ((hb1.mono hbW.size).trans (hb2.mono (Nat.le_trans hbW.size hs1)))
 have hWW:Below W.heap.size W W2:=hb1.trans (hb2.mono hs1)
 have hkb:¬bad w1.heap.size:=fun h=>by have:=hbad2 _ h;omega
 have hiW:ib<W.heap.size:=block_lt_of_cell hic
 have hic2:W2.cell? ⟨ib,0,none⟩=some (.slice x2 n2 c2):=(hWW.cell (p:=⟨ib,0,none⟩) hiW).trans hic
 have h02:=hInv 0 W W2 h0 hWW
 have hsz2:W.heap.size≤W2.heap.size:=hWW.size
 clear hth hb1 hb2 cb h0 hic hpb hi2 hone
 gi_loopw [5,6] (fun v i wr=>∃ j:Nat,j≤255∧i = .int .i64 ((j:Int)+1)∧Inv j wr∧Below w0.heap.size w0 wr∧wr.cell? ⟨ib,0,none⟩=some (.slice x2 n2 c2)∧RowAt .u8 wr w1.heap.size 0 64 kv∧LastAt bad wr v j (tE kv n2 info j)∧W.heap.size≤wr.heap.size) (fun _ i _=>256 - (intOf i).toNat)
 case atStart=>exact ⟨0,Nat.zero_le _,by go_num,h02,hbw2,hic2,hrk,.inl ⟨rfl,rfl⟩,hsz2⟩
 case round =>
  clear h02 hbw2 hic2 hrk
  obtain ⟨j,hj,rfl,hIj,hbr,hcr,hrr,hla,hszr⟩:=hrel
  by_cases hlt:j<255
  · obtain ⟨xl,cl,hve,-,-,-⟩:=hla.bytes.src
    obtain ⟨a,ha⟩:∃ a,a=if j=0 then 0 else 32:=⟨_,rfl⟩
    have hlb:=hla.bytes
    rw [←ha] at hve hlb
    subst hve
    have ha32:a≤32:=by rw [ha];split <;> omega
    have hbA:Below wr.heap.size wr (wr.alloc (.cells #[.int .u8 ((j:Int)+1)] 5)):=(Below.refl _ _).alloc (Nat.le_refl _) _
    have hone2:BytesIn (wr.alloc (.cells #[.int .u8 ((j:Int)+1)] 5)) (.slice (some ⟨wr.heap.size,0,none⟩) 1 1) 1 (fun _=>j+1) := .inr ⟨wr.heap.size,0,1,rfl,by simp,Nat.le_refl _,fun q hq=>by
     have:q=0:=by omega
     subst this
     simp⟩
    have hP:=parts_three (wr.alloc (.cells #[.int .u8 ((j:Int)+1)] 5)) (.slice xl a cl) (.slice x2 n2 c2) (.slice (some ⟨wr.heap.size,0,none⟩) 1 1) a n2 1 (tE kv n2 info j) info (fun _=>j+1) 22 (hlb.still hbA) ((hi.still hbr).still hbA) hone2
    have hbB:Below wr.heap.size wr ((wr.alloc (.cells #[.int .u8 ((j:Int)+1)] 5)).alloc (.cells #[.slice xl a cl,.slice x2 n2 c2,.slice (some ⟨wr.heap.size,0,none⟩) 1 1] 22)):=hbA.alloc (by simp) _
    have hbt:=hbr.trans (hbB.mono hbr.size)
    have ct:=tag_any kv hkl _ 3 3 (a+n2+1) _ (cat_lt (tE_lt kv n2 info j) (cat_lt hinfo (fun _=>(by omega:j+1<256)))) (by omega) _ (hT.below hbt h3) hP (by decide)
    have htE:tagH kv (a+n2+1) (cat a (tE kv n2 info j) (cat n2 info (fun _=>j+1)))=tE kv n2 info (j+1):=by rw [ha];rfl
    rw [htE] at ct
    simp only [World.size_alloc] at ct
    have hjm:((j:Int)+1)%256=(j:Int)+1:=by omega
    have hrg:=hrr.range
    have hi':(Tryd.prog.info? 73).map (·.size)=some (ints .u8 64 kv).length:=by rw [ints_len];exact info64
    have hji:(j:Int)+1≤255:=by omega
    have hlr:w1.heap.size<wr.heap.size:=block_lt_of_cell (hrr 0 (by decide)).1
    clear hP hbA hone2 htE ha hk
    gi_wp2_with (first
     | (refine wpListIn_load_mid rfl 73 _ rfl w1.heap.size 0 rfl _ _ hrg Tryd.underlying73 rfl hi' ?_)
     | (refine ⟨trivial,(fun h=>by cases h),?_⟩;gi_at_call 43;refine (callsIn_wide.2 ct).mono ?_;rintro e w3 ⟨g,rfl,hg,hrg3,hb3⟩;(have hw3:Below wr.heap.size wr w3:=hbB.trans (hb3.mono (by omega)));(have hbw3:Below w0.heap.size w0 w3:=hbr.trans (hw3.mono hbr.size));(have hgb:¬bad g:=fun h=>by have:=hbad2 _ h;omega);obtain ⟨fn,tmps,assign,body,hy,hR⟩:=hY j g w3 hlt (hInv j wr w3 hIj hw3) hrg3 hgb hbw3))
    have hcr3:w3.cell? ⟨ib,0,none⟩=some (.slice x2 n2 c2):=(hw3.cell (p:=⟨ib,0,none⟩) (by show ib<_;omega)).trans hcr
    have hrr3:=hrr.below hw3 hlr
    have hsz3:=hw3.size
    clear hbB ct hb3
    refine ⟨(fun h=>by cases h),hR.mono ?_⟩
    rintro e W' (⟨rfl,hI',hbut⟩ | ⟨rfl,hF⟩)
    · gi_wp2
      go_roundw
      case rel =>
       have hsz4:=hbut.size
       exact ⟨j+1,by omega,by go_num,hI',hbw3.trans (hbut.below hbw3.size hbad),hbut.cell hcr3 hib,hbut.row hrr3 hkb,.inr ⟨by omega,g,rfl,hbut.row hrg3 hgb,hgb⟩,by omega⟩
      case measure=>simp [intOf];omega
    · gi_wp2
      refine bodyPost_ret (results_none rfl _ _ _) rfl ?_
      exact ⟨⟨_,rfl⟩,hF⟩
  · obtain rfl:j=255:=by omega
    exact absurd hIj (hEnd _)
end Go.Proofs.YtibdhadbflfdpaaDoor
