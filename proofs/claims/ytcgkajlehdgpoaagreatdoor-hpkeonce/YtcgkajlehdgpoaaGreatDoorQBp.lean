/- Sealed to a key at once, and opened: the program and the reference answer the same. -/
import Derived.Test.YtcgkajlehdgpoaaGreatDoorQBo
import Derived.Test.YtcgkajlehdgpoaaGreatDoorQRQM
namespace Go.Proofs.YtcgkajlehdgpoaaGreatDoor
open Go.RowKit
theorem if_ansE {f:FuncId} {args:Array Value} {w:World} {P Z:Nat→Nat} {L:Nat} {E:Int} (h0:¬E=0) (c:Calls Tryz.prog f args w fun e w'=>(if E=0 then ∃ p s,e = .returned (.tuple #[p,s,.int .i64 0])∧BytesIn w' p 32 P∧BytesIn w' s L Z else e = .returned (.tuple #[.slice none 0 0,.slice none 0 0,.int .i64 E]))∧Below w.heap.size w w'):AnsE f args w 0 lZ 0 lZ E :=
 ansE_nil (c.mono fun _ _ ⟨h,hb⟩=>⟨by rwa [if_neg h0] at h,hb⟩)
theorem if_ansE0 {f:FuncId} {args:Array Value} {w:World} {P Z:Nat→Nat} {L:Nat} (c:Calls Tryz.prog f args w fun e w'=>(if (0:Int)=0 then ∃ p s,e = .returned (.tuple #[p,s,.int .i64 0])∧BytesIn w' p 32 P∧BytesIn w' s L Z else e = .returned (.tuple #[.slice none 0 0,.slice none 0 0,.int .i64 0]))∧Below w.heap.size w w'):AnsE f args w 32 P L Z 0 :=
 c.mono fun _ _ ⟨h,hb⟩=>by
  rw [if_pos rfl] at h
  obtain ⟨p,s,he,h1,h2⟩:=h
  exact ⟨p,s,he,h1,h2,hb⟩
theorem sealto_both (pn m il ml n:Nat) (x ikm info M T:Nat→Nat) (hx:∀ j,x j<256) (hikm:∀ j,ikm j<256) (hi:∀ j,info j<256) (hM:∀ j,M j<256) (hT:∀ j,T j<256) (hm:m+300<140737488355000) :
 ∃ L A N B E,(∀ j,A j<256)∧(∀ j,B j<256)∧(∀ u v iv mv tv W,HTab W cubeK squareK→BytesIn W u pn x→BytesIn W v m ikm→BytesIn W iv il info→BytesIn W mv ml M→BytesIn W tv n T→AnsE 24 #[u,v,iv,mv,tv] W L A N B E)∧(∀ u v iv mv tv W,BytesIn W u pn x→BytesIn W v m ikm→BytesIn W iv il info→BytesIn W mv ml M→BytesIn W tv n T→AnsE 25 #[u,v,iv,mv,tv] W L A N B E):=by
 obtain ⟨L1,A1,L2,A2,E1,lA1,lA2,ec,er,hc⟩:=encap_both pn m x ikm hx hikm hm
 rcases hc with ⟨hE,rfl,rfl⟩ | ⟨rfl,rfl,rfl⟩
 · exact ⟨0,lZ,0,lZ,E1,lZ_lt,lZ_lt,fun u v iv mv tv W hW hu hv _ _ _=>ansE_nil (cSealTo_stop u v iv mv tv E1 hE W ((ec u v W hW hu hv).mono fun _ _ ⟨s,p,he,_,_,hb⟩=>⟨s,p,he,hb⟩)),fun u v iv mv tv W hu hv _ _ _=>ansE_nil (rSealTo_stop u v iv mv tv E1 hE W ((er u v W hu hv).mono fun _ _ ⟨s,p,he,_,_,hb⟩=>⟨s,p,he,hb⟩))⟩
 · by_cases h6:il≤65536
   · obtain ⟨N,Z,E,lZ',s1,s2,hE⟩:=seal_bothE 16 12 ml n (ckN lKey 16 A1 il info) (ncN (ckN lBn 12 A1 il info) 0) M T (ckN_lt _ _ _ _ _) (ncN_lt (ckN_lt _ _ _ _ _) 0) hM hT
     have c:∀ u v iv mv tv W,HTab W cubeK squareK→BytesIn W u pn x→BytesIn W v m ikm→BytesIn W iv il info→BytesIn W mv ml M→BytesIn W tv n T→_:=fun u v iv mv tv W hW hu hv hiv hmv htv=>cSealTo_on u v iv mv tv A1 A2 N Z E W (ec u v W hW hu hv) (fun sv W' hb hs=>onceSeal_on sv iv mv tv il A1 info lA1 hi h6 N Z E hE W' (hW.keep hb) hs (hiv.keep hb) (fun kv nv W2 hb2 hk hn=>s1 kv nv mv tv W2 hk hn (hmv.keep (below_next hb hb2)) (htv.keep (below_next hb hb2))))
     have r:∀ u v iv mv tv W,BytesIn W u pn x→BytesIn W v m ikm→BytesIn W iv il info→BytesIn W mv ml M→BytesIn W tv n T→_:=fun u v iv mv tv W hu hv hiv hmv htv=>rSealTo_on u v iv mv tv il A1 A2 info lA1 hi h6 N Z E W hiv (er u v W hu hv) (fun kv nv W2 hb2 hk hn=>s2 kv nv mv tv W2 hk hn (hmv.keep hb2) (htv.keep hb2))
     by_cases h0:E=0
     · subst h0
       exact ⟨32,A2,N,Z,0,lA2,lZ',fun u v iv mv tv W hW hu hv hiv hmv htv=>if_ansE0 (c u v iv mv tv W hW hu hv hiv hmv htv),fun u v iv mv tv W hu hv hiv hmv htv=>if_ansE0 (r u v iv mv tv W hu hv hiv hmv htv)⟩
     · exact ⟨0,lZ,0,lZ,E,lZ_lt,lZ_lt,fun u v iv mv tv W hW hu hv hiv hmv htv=>if_ansE h0 (c u v iv mv tv W hW hu hv hiv hmv htv),fun u v iv mv tv W hu hv hiv hmv htv=>if_ansE h0 (r u v iv mv tv W hu hv hiv hmv htv)⟩
   · exact ⟨0,lZ,0,lZ,6,lZ_lt,lZ_lt,fun u v iv mv tv W hW hu hv hiv _ _=>if_ansE (by decide) (cSealTo_on u v iv mv tv A1 A2 0 lZ 6 W (ec u v W hW hu hv) (fun sv W' hb hs=>(onceSeal_stop sv iv mv tv 6 (by decide) W' (cNew_size sv iv il A1 info (by omega) W' hs (hiv.keep hb))).mono fun _ _ ⟨he,hb'⟩=>⟨_,he,BytesIn.nil0 _ _,hb'⟩)),fun u v iv mv tv W hu hv hiv _ _=>ansE_nil (rSealTo_size u v iv mv tv il A1 A2 info (by omega) W hiv (er u v W hu hv))⟩
theorem openby_both (n m il ml tl:Nat) (k x info M T:Nat→Nat) (hk:∀ j,k j<256) (hx:∀ j,x j<256) (hi:∀ j,info j<256) (hM:∀ j,M j<256) (hT:∀ j,T j<256) :
 ∃ L A E,(∀ j,A j<256)∧(∀ u v iv mv tv W,HTab W cubeK squareK→BytesIn W u n k→BytesIn W v m x→BytesIn W iv il info→BytesIn W mv ml M→BytesIn W tv tl T→AnsD 26 #[u,v,iv,mv,tv] W L A E)∧(∀ u v iv mv tv W,BytesIn W u n k→BytesIn W v m x→BytesIn W iv il info→BytesIn W mv ml M→BytesIn W tv tl T→AnsD 27 #[u,v,iv,mv,tv] W L A E):=by
 obtain ⟨L1,A1,E1,lA1,dc,dr,hc⟩:=decap_both n m k x hk hx
 rcases hc with ⟨hE,rfl⟩ | ⟨rfl,rfl⟩
 · exact ⟨0,lZ,E1,lZ_lt,fun u v iv mv tv W hW hu hv _ _ _=>ansD_nil (cOpenBy_stop u v iv mv tv E1 hE W ((dc u v W hW hu hv).mono fun _ _ ⟨s,he,_,hb⟩=>⟨s,he,hb⟩)),fun u v iv mv tv W hu hv _ _ _=>ansD_nil (rOpenBy_stop u v iv mv tv E1 hE W ((dr u v W hu hv).mono fun _ _ ⟨s,he,_,hb⟩=>⟨s,he,hb⟩))⟩
 · by_cases h6:il≤65536
   · obtain ⟨N,Z,E,lZ',s1,s2,hE⟩:=open_bothE 16 12 ml tl (ckN lKey 16 A1 il info) (ncN (ckN lBn 12 A1 il info) 0) M T (ckN_lt _ _ _ _ _) (ncN_lt (ckN_lt _ _ _ _ _) 0) hM hT
     exact ⟨N,Z,E,lZ',fun u v iv mv tv W hW hu hv hiv hmv htv=>cOpenBy_on u v iv mv tv A1 N Z E W (dc u v W hW hu hv) (fun sv W' hb hs=>onceOpen_on sv iv mv tv il A1 info lA1 hi h6 N Z E hE W' (hW.keep hb) hs (hiv.keep hb) (fun kv nv W2 hb2 hk hn=>s1 kv nv mv tv W2 hk hn (hmv.keep (below_next hb hb2)) (htv.keep (below_next hb hb2)))),fun u v iv mv tv W hu hv hiv hmv htv=>rOpenBy_on u v iv mv tv il A1 info lA1 hi h6 N Z E W hiv (dr u v W hu hv) (fun kv nv W2 hb2 hk hn=>s2 kv nv mv tv W2 hk hn (hmv.keep hb2) (htv.keep hb2))⟩
   · exact ⟨0,lZ,6,lZ_lt,fun u v iv mv tv W hW hu hv hiv _ _=>cOpenBy_on u v iv mv tv A1 0 lZ 6 W (dc u v W hW hu hv) (fun sv W' hb hs=>(onceOpen_stop sv iv mv tv 6 (by decide) W' (cNew_size sv iv il A1 info (by omega) W' hs (hiv.keep hb))).mono fun _ _ ⟨he,hb'⟩=>⟨_,he,BytesIn.nil0 _ _,hb'⟩),fun u v iv mv tv W hu hv hiv _ _=>ansD_nil (rOpenBy_size u v iv mv tv il A1 info (by omega) W hiv (dr u v W hu hv))⟩
end Go.Proofs.YtcgkajlehdgpoaaGreatDoor
