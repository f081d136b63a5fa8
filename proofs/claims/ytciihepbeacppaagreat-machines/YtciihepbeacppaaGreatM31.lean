import Derived.Test.YtciihepbeacppaaGreatM30
import Derived.Test.YtciihepbeacppaaGreatM11
import Derived.Test.YtciihepbeacppaaGreatM09
import Derived.Test.YtciihepbeacppaaGreatM16
namespace Go.Proofs.YtciihepbeacppaaGreat
open Go.RowKit
theorem vr_of {vs : List UInt8} (hn : vs.Nodup) (hlow : ∀ c ∈ vs,lowB (one1 c) = true) : VR vs (vs.map one1):=by
 refine ⟨fun x v hx=>?_,?_⟩
 ·obtain ⟨h1,h2⟩:=hx
  obtain ⟨hv,h2'⟩:=List.getElem?_eq_some_iff.1 h2
  rw [low_one h1,fnd_plc,List.length_map]
  have:=plc_idx hn hv
  rw [List.getD_eq_getElem?_getD,h2,Option.getD_some] at this
  exact ⟨this,hv⟩
 ·intro hlt
  rw [fndL_miss] at hlt
  ·omega
  ·intro j hj
   rw [List.getElem_map]
   rw [List.length_map] at hj
   exact eqW_ne (low_ne (hlow _ (List.getElem_mem hj)) rfl)
theorem prs_get {l : List Int} {j : Nat} (h : j < (prs l).length) : (prs l)[j] = (l.getD (2 * j) 0,l.getD (2 * j + 1) 0):=by
 have hl:=prs_len l
 obtain ⟨r,hr⟩:=prs_pre (l:=l) (k:=j) (by omega)
 have hj : (prs (l.take (2 * j))).length = j:=by rw [prs_len,List.length_take]; omega
 have : (prs l)[j]? = some (l.getD (2 * j) 0,l.getD (2 * j + 1) 0):=by
  rw [hr,List.getElem?_append_right (by omega),hj,Nat.sub_self]
  rfl
 exact (List.getElem?_eq_some_iff.1 this).2
theorem zip_prs (ls : List Int) : (evK ls (ls.length / 2)).zip (odK ls (ls.length / 2)) = prs ls:=by
 apply List.ext_getElem
 ·rw [List.length_zip,evK_len,odK_len,Nat.min_self,prs_len]
 ·intro j h1 h2
  rw [List.getElem_zip]
  rw [prs_get h2]
  simp [evK,odK]
theorem adL_prs (ls : List Int) : adL (prs ls) = evK ls (ls.length / 2):=by
 unfold adL
 rw [← zip_prs,List.map_fst_zip (by rw [evK_len,odK_len]; exact Nat.le_refl _)]
theorem nxL_prs (ls : List Int) : nxL (prs ls) = odK ls (ls.length / 2):=by
 unfold nxL
 rw [← zip_prs,List.map_snd_zip (by rw [evK_len,odK_len]; exact Nat.le_refl _)]
theorem csr_prs {ls : List Int} (h : OkC ls (ls.length / 2)) : CsR (prs ls) (evK ls (ls.length / 2)) (odK ls (ls.length / 2)):=by
 refine ⟨?_,h.up.imp (fun h=>by omega),by rw [evK_len,odK_len],by rw [zip_prs]⟩
 have h1:=h.up
 rw [← adL_prs] at h1
 exact List.pairwise_map.1 h1
theorem mr_start {st ls : List Int} (h : OkC ls (ls.length / 2)) {nds : List Nd} {cl : List Ins} (he : (ndA nds 0).op = 0 ↔ eqW (cl.getD 0 insZ).op exitW = true) : MR (enS nds ⟨0,0,st,prs ls⟩ 0) (seM cl ⟨0,0,st,evK ls (ls.length / 2),odK ls (ls.length / 2)⟩):=by
 have hm : MR ⟨0,0,st,prs ls⟩ ⟨0,0,st,evK ls (ls.length / 2),odK ls (ls.length / 2)⟩:=⟨rfl,rfl,rfl,csr_prs h⟩
 exact hm.en rfl he
theorem fdA_ok {cs : List (Int × Int)} (hs : Srt cs) : FdOK (cs.map (·.1)) (fdA cs):=by
 intro a i
 constructor
 ·intro h
  obtain ⟨hi,he⟩:=fdA_some h
  exact ⟨by simpa using hi,by simp [List.getD,hi,he]⟩
 ·rintro ⟨hi,he⟩
  have hi' : i < cs.length:=by simpa using hi
  exact fdA_of hs hi' (by simpa [List.getD,hi'] using he)
theorem ho_hold {ad nx : List Int} {fd : Int → Option Nat} (hd : ad.Nodup) (hfd : FdOK ad fd) {s : PS} (hs : Ltr s) (hv : s.vars.length ≤ 4) (hh : s.hid.length ≤ 8) {vs : List Int} (hl : vs.length = s.vars.length) {al : List Atm} (ha : ∀ a ∈ al,AtOK s.vars s.hid a) (hnm : NmOK (nmL s.vars s.hid al)) :
  hoH al vs fd ad nx = hold ad nx (s.vars.map one1) vs (nmL s.vars s.hid al):=by
 have ht : TmOK al:=tmOK_of hv hh ha
 have h1:=hoH_iff (nx:=nx) hfd ht (st:=vs) (by omega)
 rw [hl] at h1
 rw [Bool.eq_iff_iff,h1]
 constructor
 ·rintro ⟨f,h2,h3⟩
  exact at_hold hd hs hv hl ha hnm h2 h3
 ·intro h
  exact hold_at hd hs hv hl ha hnm h
theorem acR_iff : ∀ (l : List Int) (last : Int),l.length % 2 = 0 → (acR last l = true ↔ (last :: adL (prs l)).Pairwise (· < ·))
 | [],last,_=>by simp [acR,prs,adL]
 | [a],_,h=>by simp at h
 | a :: b :: r,last,h=>by
  rw [acR_two,Bool.and_eq_true,decide_eq_true_eq,acR_iff r a (by simp at h; omega)]
  show last < a ∧ (a :: adL (prs r)).Pairwise (· < ·) ↔ (last :: a :: adL (prs r)).Pairwise (· < ·)
  constructor
  ·rintro ⟨h1,h2⟩
   rw [List.pairwise_cons]
   refine ⟨fun x hx=>?_,h2⟩
   rcases List.mem_cons.1 hx with rfl | hx
   ·exact h1
   ·have:=(List.pairwise_cons.1 h2).1 x hx; omega
  ·intro h
   rw [List.pairwise_cons] at h
   exact ⟨h.1 a (by simp),h.2⟩
theorem okc_iff (ls : List Int) : acB2 ls = true ↔ ls.length % 2 = 0 ∧ OkC ls (ls.length / 2):=by
 unfold acB2
 simp only [Bool.and_eq_true,decide_eq_true_eq]
 constructor
 ·rintro ⟨⟨he,hv⟩,hr⟩
  have hp:=(acR_iff ls 0 he).1 hr
  rw [adL_prs,List.pairwise_cons] at hp
  refine ⟨he,fun v hm=>⟨hp.1 v hm,?_⟩,fun v hm=>?_,hp.2⟩
  ·rw [← adL_prs] at hm
   obtain ⟨c,hc,rfl⟩:=List.mem_map.1 hm
   exact (prs_vals hv c hc).1.2
  ·rw [← nxL_prs] at hm
   obtain ⟨c,hc,rfl⟩:=List.mem_map.1 hm
   exact (prs_vals hv c hc).2
 ·rintro ⟨he,ok⟩
  refine ⟨⟨he,avB_all (fun j hj=>?_)⟩,(acR_iff ls 0 he).2 ?_⟩
  ·by_cases h2 : j % 2 = 0
   ·have hm : ls.getD j 0 ∈ evK ls (ls.length / 2):=by
     unfold evK
     refine List.mem_map.2 ⟨j / 2,List.mem_range.2 (by omega),?_⟩
     rw [show 2 * (j / 2) = j by omega]
    have:=ok.sa _ hm
    omega
   ·have hm : ls.getD j 0 ∈ odK ls (ls.length / 2):=by
     unfold odK
     refine List.mem_map.2 ⟨j / 2,List.mem_range.2 (by omega),?_⟩
     rw [show 2 * (j / 2) + 1 = j by omega]
    exact ok.sn _ hm
  ·rw [adL_prs,List.pairwise_cons]
   exact ⟨fun v hm=>(ok.sa v hm).1,ok.up⟩
theorem avB_iff (st : List Int) : avB st = true ↔ ∀ v ∈ st,0 ≤ v ∧ v ≤ 1048576:=by
 unfold avB
 simp only [List.all_eq_true,Bool.and_eq_true,decide_eq_true_eq]
theorem bad_iff (n : Nat) (st ls : List Int) : badA n st ls = false ↔ st.length = n ∧ avB st = true ∧ acB2 ls = true:=by
 constructor
 ·intro h
  obtain ⟨h1,h2,h3,h4⟩:=badA_no h
  exact ⟨h1,(avB_iff st).2 h3,(okc_iff ls).2 ⟨h2,h4⟩⟩
 ·rintro ⟨h1,h2,h3⟩
  obtain ⟨he,ok⟩:=(okc_iff ls).1 h3
  have hs:=(avB_iff st).1 h2
  have hl:=(avB_iff ls).1 (by unfold acB2 at h3; simp only [Bool.and_eq_true] at h3; exact h3.1.2)
  have hgs : ∀ j,j < st.length → 0 ≤ st.getD j 0 ∧ st.getD j 0 ≤ 1048576:=fun j hj=>by
   have:=hs st[j] (List.getElem_mem hj)
   simpa [hj] using this
  have hgl : ∀ j,j < ls.length → 0 ≤ ls.getD j 0 ∧ ls.getD j 0 ≤ 1048576:=fun j hj=>by
   have:=hl ls[j] (List.getElem_mem hj)
   simpa [hj] using this
  unfold badA badC badS
  simp only [Bool.or_eq_false_iff,decide_eq_false_iff_not,List.any_eq_false,List.mem_range,Bool.or_eq_true,not_or,oobB,decide_eq_true_eq,ne_eq,Decidable.not_not]
  refine ⟨⟨⟨h1,by omega⟩,fun j hj=>?_⟩,fun j hj=>⟨?_,?_⟩⟩
  ·have:=hgs j hj; omega
  ·have:=hgl j hj; omega
  ·unfold badU
   simp only [Bool.and_eq_true,Bool.or_eq_true,decide_eq_true_eq,not_and,not_or]
   intro hev
   have hm : ∀ t,t < ls.length / 2 → ls.getD (2 * t) 0 ∈ evK ls (ls.length / 2):=fun t ht=>List.mem_map.2 ⟨t,List.mem_range.2 ht,rfl⟩
   refine ⟨?_,fun h0=>?_⟩
   ·have:=(ok.sa _ (hm (j / 2) (by omega))).1
    rw [show 2 * (j / 2) = j by omega] at this
    omega
   ·have hp:=List.pairwise_iff_getElem.1 ok.up (j / 2 - 1) (j / 2) (by rw [evK_len]; omega) (by rw [evK_len]; omega) (by omega)
    simp only [evK,List.getElem_map,List.getElem_range] at hp
    rw [show 2 * (j / 2) = j by omega,show 2 * (j / 2 - 1) = j - 2 by omega] at hp
    omega
theorem sta_rel {s : PS} {al : List Atm} (hs : Ltr s) (hv : s.vars.length ≤ 4) (hh : s.hid.length ≤ 8) (ha : ∀ a ∈ al,AtOK s.vars s.hid a) (hnm : NmOK (nmL s.vars s.hid al)) (st ls : List Int) :
  staE s.vars.length al st ls = staR (s.vars.map one1) (nmL s.vars s.hid al) st ls:=by
 unfold staE staR
 by_cases h16 : 16 < ls.length
 ·rw [if_pos h16,if_pos h16]
 ·rw [if_neg h16,if_neg h16,List.length_map]
  cases hb : badA s.vars.length st ls with
  | true =>
   rw [if_pos (by
    apply Classical.byContradiction
    intro hc
    rw [(bad_iff s.vars.length st ls).2 ⟨Classical.byContradiction (fun h=>hc (Or.inl h)),by
     cases h : avB st with
     | true=>rfl
     | false=>exact absurd (Or.inr (Or.inl h)) hc,by
     cases h : acB2 ls with
     | true=>rfl
     | false=>exact absurd (Or.inr (Or.inr h)) hc⟩] at hb
    cases hb),if_pos rfl]
  | false =>
   obtain ⟨h1,h2,h3⟩:=(bad_iff _ _ _).1 hb
   rw [if_neg (by
    rintro (h | h | h)
    ·exact h h1
    ·rw [h2] at h; cases h
    ·rw [h3] at h; cases h)]
   have ok:=((okc_iff ls).1 h3).2
   have hc:=csr_prs ok
   have hfd : FdOK (adL (prs ls)) (fdA (prs ls)):=fdA_ok hc.srt
   rw [adL_prs] at hfd ⊢
   rw [nxL_prs,ho_hold hc.nd hfd hs hv hh h1 ha hnm]
   rfl
theorem rd_fo {ws f q : List ByteArray} {s : PS} (hf : Fm f) (hq : hdB starW q = false) (h : Rd ws s (f ++ q)) (hl : f.length ≤ ws.length + 1) : Rd ws (foS ws s) q:=by
 have h1:=(par_for (ws:=ws)).ok s _ h
 rw [for_complete hf hl hq] at h1
 exact h1
theorem prog_both {ws : List ByteArray} {k : Nat} (h : Pgm ws k) : ∃ al cl,rrS ws = some (al,cl) ∧ ∃ N e,(prS ws ini).nodes = N ++ [e] ∧ e.op = 0 ∧ NIs (prS ws ini).vars 0 N cl ∧ (prS ws ini).failed = false:=by
 obtain ⟨f,b,hf,hB,e⟩:=h
 have hl : ws.length = f.length + b.length + 3:=by rw [e]; simp only [List.length_cons,List.length_append,List.length_nil]; omega
 have hfn : fndL ws lbW = f.length + 1:=by
  rw [e,show preW :: (f ++ lbW :: (b ++ [rbW])) = (preW :: f) ++ lbW :: (b ++ [rbW]) from rfl,fnd_at]
  ·rfl
  ·intro x hx
   simp only [List.mem_cons] at hx
   rcases hx with rfl | hx
   ·exact data_ne (by simp [preW,lbW])
   ·exact fm_lb hf x hx
 obtain ⟨al,ha⟩:=rfo_complete hf
 have r0 : Rd ws ini (kPre :: (f ++ lbW :: (b ++ [rbW]))):=⟨rfl,e,Nat.zero_le _⟩
 have a1:=st_ex kPre_n r0
 have r2:=rd_fo hf (show hdB starW (lbW :: (b ++ [rbW])) = false from eqW_ne (data_ne (by simp [lbW,starW]))) a1.rd (by omega)
 have a3:=st_ex (k:=kLB) kLB_n r2
 have n3 : (exS ws kLB (foS ws (exS ws kPre ini))).nodes = []:=by rw [a3.nd,foS_nodes,a1.nd]; rfl
 obtain ⟨cl,hc,r4,hv4,N,C,hN,hC,hNI⟩:=cs_both hB ws ws.length (ws.length + 2) ws.length (b.length + 1) [rbW] _ [] (by omega) (by omega) (by omega) (by omega) (show hdB rbW [rbW] = true from eqW_rfl _) a3.rd (by rw [n3]; rfl)
 have a5:=st_ex (k:=kRB) kRB_n r4
 rw [n3,List.nil_append] at hN
 rw [List.nil_append] at hC
 subst hC
 refine ⟨al,cl,?_,N,{ ndEnd with nx:=N.length + 1 },?_⟩
 ·have d1 : (ws.drop 1).take (f.length + 1 - 1) = f:=by rw [e]; simp
  have d2 : ws.drop (f.length + 1 + 1) = b ++ [rbW]:=by rw [e]; simp
  have d3 : (b ++ [rbW]).take (ws.length - 1 - (f.length + 1 + 1)) = b:=by
   rw [hl,show f.length + b.length + 3 - 1 - (f.length + 1 + 1) = b.length by omega,List.take_left]
  have hs : shI ws (f.length + 1) = ((ws.length : Nat) : Int) - 1:=by
   unfold shI; rw [d2,clo_blkEnd hB []]; dsimp only; omega
  have hc' : rbl (ws.length + 1) b [] = some cl:=hc
  unfold rrS
  rw [hfn,d1,ha,d2,d3,hs,hc',if_neg]
  ·simp
  ·rw [hl,e]
   simp only [List.getElem?_cons_zero,Option.getD_some,eqW_rfl]
   simp
   omega
 ·have hT : prT ws ini = addS ndEnd (exS ws kRB (cmS (cmB (blS ws ws.length) ws) ws (ws.length + 2) (exS ws kLB (foS ws (exS ws kPre ini))))):=rfl
  have hp : (prT ws ini).pos = ws.length:=by
   rw [hT]
   have h5:=a5.rd
   have h6:=congrArg List.length h5.2.1
   rw [List.length_drop,List.length_nil] at h6
   have h7:=h5.2.2
   show (exS ws kRB _).pos = ws.length
   omega
  have hS : prS ws ini = prT ws ini:=if_pos hp
  rw [hS,hT]
  refine ⟨?_,rfl,?_,a5.rd.1⟩
  ·unfold addS
   dsimp only
   rw [a5.nd,hN]
  ·exact hNI _ a5.vs
theorem ni_ops {vs : List UInt8} {j : Nat} {nd : Nd} {i : Ins} (h : NI vs j nd i) : nd.op ≠ 0 ∧ eqW i.op exitW = false:=by
 rcases h with ⟨hS,-⟩ | ⟨⟨ht,hT⟩,-,-⟩ | ⟨hg,hg2,-⟩
 ·rcases hS with ⟨h1,h2,-⟩ | ⟨h1,h2,-⟩ | ⟨h1,h2,-⟩ | ⟨h1,h2,-⟩ | ⟨h1,h2,-⟩ | ⟨h1,h2,-⟩ | ⟨h1,h2⟩
  all_goals
   rw [h1,h2]
   exact ⟨by decide,by simp [eqW,exitW_l,nilW_l,copyW_l,newW_l,loadW_l,storeW_l,freeW_l,skipW_l]⟩
 ·refine ⟨?_,by rw [ht]; simp [eqW,exitW_l,testW_lR]⟩
  rcases hT with ⟨-,h2⟩ | ⟨-,h2,-⟩ | ⟨-,h2,-⟩ <;> omega
 ·exact ⟨by omega,by rw [hg]; simp [eqW,exitW_l,goW_lR]⟩
theorem ex_all {vs : List UInt8} {N : List Nd} {e : Nd} {cl : List Ins} (h : NIs vs 0 N cl) (he : e.op = 0) {n : Nat} (hn : n ≤ cl.length) : EX (N ++ [e]) (cl ++ [exI]) n:=by
 have hl:=h.len
 unfold EX ndA
 by_cases hlt : n < cl.length
 ·have g1 : (N ++ [e]).getD n ⟨0,0,0,0,0,0⟩ = N[n]'(by omega):=by rw [List.getD_eq_getElem?_getD,List.getElem?_append_left (by omega),List.getElem?_eq_getElem (show n < N.length by omega)]; rfl
  have g2 : (cl ++ [exI]).getD n insZ = cl[n]:=by rw [List.getD_eq_getElem?_getD,List.getElem?_append_left hlt,List.getElem?_eq_getElem hlt]; rfl
  rw [g1,g2]
  have:=ni_ops (h.get n (N[n]'(by omega)) cl[n] (List.getElem?_eq_getElem _) (List.getElem?_eq_getElem _))
  exact ⟨fun h0=>absurd h0 this.1,fun h0=>by rw [this.2] at h0; cases h0⟩
 ·have hne : n = cl.length:=by omega
  have g1 : (N ++ [e]).getD n ⟨0,0,0,0,0,0⟩ = e:=by rw [hne,← hl]; simp
  have g2 : (cl ++ [exI]).getD n insZ = exI:=by rw [hne]; simp
  rw [g1,g2]
  exact ⟨fun _=>eqW_rfl _,fun _=>he⟩
def TBd (c : List Ins) : Prop:=∀ i ∈ c,i.to ≤ c.length
def BOk (blk : List ByteArray → List Ins → Option (List Ins)) : Prop:=∀ l c c',blk l c = some c' → TBd c → TBd c' ∧ c.length ≤ c'.length
theorem tb_app {c : List Ins} {i : Ins} (h : TBd c) (hi : i.to ≤ c.length + 1) : TBd (c ++ [i]):=by
 intro x hx
 rw [List.length_append,List.length_singleton]
 rcases List.mem_append.1 hx with hx | hx
 ·have:=h x hx; omega
 ·rw [List.mem_singleton] at hx; subst hx; exact hi
theorem setTo_lenT (k n : Nat) (c : List Ins) : (setTo k n c).length = c.length:=by simp [setTo]
theorem tb_set {c : List Ins} {k n : Nat} (h : TBd c) (hn : n ≤ c.length) : TBd (setTo k n c):=by
 intro x hx
 rw [setTo_lenT]
 unfold setTo at hx
 obtain ⟨j,hj,rfl⟩:=List.mem_iff_getElem.1 hx
 rw [List.getElem_modify]
 split
 ·exact hn
 ·exact h _ (List.getElem_mem _)
theorem rcI_to (l : List ByteArray) : (rcI l).to = 0:=by unfold rcI; split <;> rfl
theorem rsI_to {l : List ByteArray} {i : Ins} (h : rsI l = some i) : i.to = 0:=by
 unfold rsI at h
 split at h
 ·split at h <;> cases h; rfl
 ·split at h <;> cases h; rfl
 ·split at h
  ·split at h
   ·cases h; rfl
   ·split at h <;> cases h; rfl
  ·cases h
 ·split at h
  ·cases h; rfl
  ·split at h <;> cases h; rfl
 ·cases h
theorem tb_rct {blk : List ByteArray → List Ins → Option (List Ins)} (hb : BOk blk) {l : List ByteArray} {c c' : List Ins} {n : Nat} (h : rct blk l c = some (c',n)) (ht : TBd c) : TBd c' ∧ c.length ≤ c'.length:=by
 unfold rct at h
 split at h
 ·cases h
 ·rename_i b e hH
  dsimp only at h
  split at h
  ·cases h
  ·rename_i c2 h2
   have h3:=hb _ _ _ h2 (tb_app ht (by show (rcI _).to ≤ _; rw [rcI_to]; omega))
   have hl:=h3.2
   rw [List.length_append,List.length_singleton] at hl
   split at h
   ·cases h
    refine ⟨tb_set (tb_app h3.1 (by show c.length ≤ _; omega)) (by rw [List.length_append,List.length_singleton]; omega),?_⟩
    rw [setTo_lenT,List.length_append]; omega
   ·split at h
    ·split at h
     ·cases h
     ·split at h
      ·cases h
      ·split at h
       ·cases h
       ·rename_i c7 h7
        cases h
        have h8:=hb _ _ _ h7 (tb_set (tb_app h3.1 (Nat.zero_le _)) (by rw [List.length_append,List.length_singleton]; omega))
        have hl8:=h8.2
        rw [setTo_lenT,List.length_append] at hl8
        exact ⟨tb_set h8.1 (Nat.le_refl _),by rw [setTo_lenT]; omega⟩
    ·cases h
     exact ⟨tb_set h3.1 (Nat.le_refl _),by rw [setTo_lenT]; omega⟩
theorem tb_rbs {blk : List ByteArray → List Ins → Option (List Ins)} (hb : BOk blk) : ∀ (m : Nat) (l : List ByteArray) (c c' : List Ins),rbs (rct blk) m l c = some c' → TBd c → TBd c' ∧ c.length ≤ c'.length
 | 0,_,_,_,h,_=>by simp [rbs] at h
 | m + 1,[],c,c',h,ht=>by simp only [rbs] at h; cases h; exact ⟨ht,Nat.le_refl _⟩
 | m + 1,x :: r,c,c',h,ht=>by
  simp only [rbs] at h
  split at h
  ·split at h
   ·rename_i c1 n h1
    have h2:=tb_rct hb h1 ht
    have h3:=tb_rbs hb m _ _ _ h h2.1
    exact ⟨h3.1,Nat.le_trans h2.2 h3.2⟩
   ·cases h
  ·split at h
   ·cases h
   ·split at h
    ·rename_i i hi
     have h3:=tb_rbs hb m _ _ _ h (tb_app ht (by rw [rsI_to hi]; omega))
     have hl:=h3.2
     rw [List.length_append] at hl
     exact ⟨h3.1,by omega⟩
    ·cases h
theorem tb_rbl : ∀ f,BOk (rbl f)
 | 0=>fun _ _ _ h _=>by cases h
 | f + 1=>fun l c c' h ht=>tb_rbs (tb_rbl f) _ l c c' h ht
theorem rr_to {ws : List ByteArray} {al : List RAt} {cl : List Ins} (h : rrS ws = some (al,cl)) : TBd cl:=by
 unfold rrS at h
 split at h
 ·cases h
 ·split at h
  ·cases h
  ·split at h
   ·split at h
    ·cases h
    ·rename_i hc
     cases h
     exact (tb_rbl _ _ _ _ hc (fun _ h=>by cases h)).1
   ·cases h
structure PgR (nds : List Nd) (cl : List Ins) (vs : List UInt8) (ns : List ByteArray) (L : Nat) : Prop where
 ni : ∀ n,n < L → NI vs n (ndA nds n) (cl.getD n insZ)
 ex : ∀ n,n ≤ L → EX nds cl n
 tt : ∀ n,n < L → (cl.getD n insZ).to ≤ L
 ln : cl.length = L + 1
 e0 : (ndA nds L).op = 0
 vr : VR vs ns
theorem pgr_of {ws : List ByteArray} {k : Nat} (h : Pgm ws k) {ns : List ByteArray} (hV : VR (prS ws ini).vars ns) : ∃ al cl,rrS ws = some (al,cl) ∧ PgR (prS ws ini).nodes (cl ++ [exI]) (prS ws ini).vars ns cl.length:=by
 obtain ⟨al,cl,hr,N,e,hN,he,hNI,-⟩:=prog_both h
 have hl:=hNI.len
 have hto:=rr_to hr
 refine ⟨al,cl,hr,⟨fun n hn=>?_,fun n hn=>?_,fun n hn=>?_,by simp,?_,hV⟩⟩
 ·have g1 : ndA (prS ws ini).nodes n = N[n]'(by omega):=by
   unfold ndA
   rw [hN,List.getD_eq_getElem?_getD,List.getElem?_append_left (by omega),List.getElem?_eq_getElem (show n < N.length by omega)]; rfl
  have g2 : (cl ++ [exI]).getD n insZ = cl[n]:=by rw [List.getD_eq_getElem?_getD,List.getElem?_append_left hn,List.getElem?_eq_getElem hn]; rfl
  rw [g1,g2]
  have:=hNI.get n (N[n]'(by omega)) cl[n] (List.getElem?_eq_getElem _) (List.getElem?_eq_getElem _)
  rwa [Nat.zero_add] at this
 ·rw [hN]
  exact ex_all hNI he hn
 ·rw [List.getD_eq_getElem?_getD,List.getElem?_append_left hn,List.getElem?_eq_getElem hn]
  exact hto _ (List.getElem_mem hn)
 ·unfold ndA
  rw [hN,← hl]
  simp [he]
theorem PgR.insG {nds : List Nd} {cl : List Ins} {vs : List UInt8} {ns : List ByteArray} {L n : Nat} (h : PgR nds cl vs ns L) (hn : n < L) : InsG ns cl.length n (cl.getD n insZ):=by
 refine ⟨by rw [h.ln]; omega,by rw [h.ln]; have:=h.tt n hn; omega,fun hx=>?_⟩
 have hN:=h.ni n hn
 generalize ndA nds n = nd at hN
 generalize cl.getD n insZ = i at hN hx
 have fin : ∀ v,vIx vs i.x v → fndL ns i.x < ns.length:=fun v hv=>by
  obtain ⟨h1,h2⟩:=h.vr.ix _ _ hv
  omega
 rcases hN with ⟨hS,-⟩ | ⟨⟨ht,-⟩,-,-⟩ | ⟨hg,-,-⟩
 ·rcases hS with ⟨-,-,h3,-⟩ | ⟨-,-,h3,-⟩ | ⟨-,-,h3⟩ | ⟨-,-,h3,-⟩ | ⟨-,-,h3,-⟩ | ⟨-,-,h3⟩ | ⟨h1,-⟩
  ·exact fin _ h3
  ·exact fin _ h3
  ·exact fin _ h3
  ·exact fin _ h3
  ·exact fin _ h3
  ·exact fin _ h3
  ·rw [h1] at hx
   simp [eqW,nilW_l,copyW_l,newW_l,loadW_l,skipW_l] at hx
 ·rw [ht] at hx
  simp [eqW,nilW_l,copyW_l,newW_l,loadW_l,testW_lR] at hx
 ·rw [hg] at hx
  simp [eqW,nilW_l,copyW_l,newW_l,loadW_l,goW_lR] at hx
structure RunOk (L : Nat) (r : RM) : Prop where
 le : r.nd ≤ L
 lt : r.wh = 0 → r.nd < L
theorem PgR.step {nds : List Nd} {cl : List Ins} {vs : List UInt8} {ns : List ByteArray} {L : Nat} (h : PgR nds cl vs ns L) {m : MS} {r : RM} (hm : MR m r) (hr : RunOk L r) (c : Int) : MR (stM nds m c).1 (rsM ns cl r c).1 ∧ (stM nds m c).2 = (if (rsM ns cl r c).2 then 0 else 5) :=
 step_rel hm h.vr (fun h0=>by rw [hm.nd]; exact h.ni _ (hr.lt h0)) (fun h0=>h.ex _ (by have:=hr.lt h0; omega)) (fun h0=>h.ex _ (h.tt _ (hr.lt h0)))
theorem PgR.se {nds : List Nd} {cl : List Ins} {vs : List UInt8} {ns : List ByteArray} {L : Nat} (h : PgR nds cl vs ns L) {r : RM} (hl : r.nd ≤ L) : RunOk L (seM cl r):=by
 refine ⟨by rw [seM_nd]; exact hl,fun h0=>?_⟩
 rw [seM_nd]
 apply Classical.byContradiction
 intro hc
 have hL : r.nd = L:=by omega
 have hex:=(h.ex L (Nat.le_refl _)).1 h.e0
 unfold seM at h0
 rw [hL] at h0
 split at h0
 ·rename_i hcd
  rcases hcd with h1 | h1
  ·exact h1 h0
  ·rw [hex] at h1; cases h1
 ·dsimp only at h0
  split at h0 <;> cases h0
theorem PgR.keep {nds : List Nd} {cl : List Ins} {vs : List UInt8} {ns : List ByteArray} {L : Nat} (h : PgR nds cl vs ns L) {r : RM} (hr : RunOk L r) (c : Int) : RunOk L (rsM ns cl r c).1:=by
 unfold rsM
 split
 ·exact hr
 ·rename_i hw
  have hlt:=hr.lt (by omega)
  have htt:=h.tt _ hlt
  split
  ·rename_i m' hp
   refine h.se ?_
   unfold rsP at hp
   repeat' split at hp
   all_goals first
    | (cases hp; done)
    | (cases hp; show _ + 1 ≤ L; omega)
    | (cases hp; exact htt)
    | (cases hp; exact hr.le)
    | (cases hp; dsimp only; repeat' split; all_goals omega)
  ·exact hr
structure PosR (b : Nat) (r : RM) : Prop where
 ps : ∀ a ∈ r.ad,0 < a
 le : r.ad.length ≤ b
theorem PosR.se {b : Nat} {r : RM} (h : PosR b r) (cl : List Ins) : PosR b (seM cl r):=⟨by rw [seM_ad]; exact h.ps,by rw [seM_ad]; exact h.le⟩
theorem toM_sub (vs : List ByteArray) (i : Ins) (m : RM) : ∀ a ∈ (toM vs i m).1.ad,a ∈ m.ad:=by
 unfold toM
 dsimp only
 generalize vlR vs m.st (if eqW i.op loadW then i.y else i.x) = a
 split
 ·split
  ·exact fun _ h=>h
  ·split
   ·exact fun _ h=>h
   ·exact fun x h=>(List.eraseIdx_sublist _ _).subset h
 ·exact fun _ h=>h
theorem toM_le (vs : List ByteArray) (i : Ins) (m : RM) : (toM vs i m).1.ad.length ≤ m.ad.length:=by
 unfold toM
 dsimp only
 generalize vlR vs m.st (if eqW i.op loadW then i.y else i.x) = a
 split
 ·split
  ·exact Nat.le_refl _
  ·split
   ·exact Nat.le_refl _
   ·exact (List.eraseIdx_sublist _ _).length_le
 ·exact Nat.le_refl _
theorem PosR.step {b : Nat} {r : RM} (h : PosR b r) (ns : List ByteArray) (cl : List Ins) (c : Int) : PosR (b + 1) (rsM ns cl r c).1:=by
 have up : PosR (b + 1) r:=⟨h.ps,by have:=h.le; omega⟩
 unfold rsM
 split
 ·exact up
 ·split
  ·rename_i m' hp
   refine PosR.se ?_ cl
   unfold rsP at hp
   split at hp
   ·cases hp; exact ⟨up.ps,up.le⟩
   ·split at hp
    ·cases hp; exact ⟨up.ps,up.le⟩
    ·split at hp
     ·split at hp
      ·cases hp
      ·rename_i hc
       cases hp
       refine ⟨fun a ha=>?_,?_⟩
       ·rcases List.mem_append.1 ha with ha | ha
        ·exact h.ps a ha
        ·rw [List.mem_singleton] at ha
         subst ha
         apply Classical.byContradiction
         intro hn
         exact hc (Or.inr (Or.inl (by omega)))
       ·show (r.ad ++ [c]).length ≤ b + 1
        rw [List.length_append,List.length_singleton]
        have:=h.le; omega
     ·split at hp
      ·cases hp; exact ⟨up.ps,up.le⟩
      ·split at hp
       ·cases hp; exact ⟨up.ps,up.le⟩
       ·split at hp
        ·cases hp
         exact ⟨fun a ha=>h.ps a (toM_sub ns _ r a ha),Nat.le_trans (toM_le ns _ r) up.le⟩
        ·cases hp; exact ⟨up.ps,up.le⟩
  ·exact up
theorem CsR.pos {cs : List (Int × Int)} {ad nx : List Int} (h : CsR cs ad nx) (hp : ∀ a ∈ ad,0 < a) : ∀ c ∈ cs,0 < c.1:=by
 intro c hc
 have hm:=h.pm.mem_iff.2 hc
 obtain ⟨k,hk⟩:=List.mem_iff_getElem?.1 hm
 have h1:=(List.getElem?_zip_eq_some.1 hk).1
 exact hp _ (List.mem_iff_getElem?.2 ⟨k,h1⟩)
def sta (v : List UInt8) : PS:=⟨0,false,v,[],[]⟩
def GL (s s' : PS) : Prop:=Gro s s' ∧ (Ltr s → Ltr s')
theorem GL.refl (s : PS) : GL s s:=⟨Gro.refl s,id⟩
theorem GL.trans {a b c : PS} (h : GL a b) (k : GL b c) : GL a c:=⟨h.1.trans k.1,fun x=>k.2 (h.2 x)⟩
theorem GL.same {s s' : PS} (hv : s'.vars = s.vars) (hh : s'.hid = s.hid) : GL s s':=⟨⟨by rw [hv]; exact List.prefix_refl _,by rw [hh]; exact List.prefix_refl _⟩,fun h=>⟨by rw [hv]; exact h.nv,by rw [hh]; exact h.nh,by rw [hv]; exact h.lv,by rw [hh]; exact h.lh⟩⟩
section
variable {ws : List ByteArray}
theorem gl_ex (k : ByteArray) (s : PS) : GL s (exS ws k s):=⟨gro_ex ws k s,ltr_ex⟩
theorem gl_va (s : PS) : GL s (vaS ws s):=⟨gro_va ws s,ltr_va⟩
theorem gl_val (s : PS) : GL s (valS ws s):=⟨gro_val ws s,ltr_val⟩
theorem gl_adv (s : PS) : GL s s.adv:=GL.same rfl rfl
theorem gl_add (nd : Nd) (s : PS) : GL s (addS nd s):=GL.same rfl rfl
theorem gl_coT (s : PS) : GL s (coT ws s):=by unfold coT; split; exact gl_adv s; exact gl_ex _ s
theorem gl_co (s : PS) : GL s (coS ws s):=by
 unfold coS; split
 ·exact gl_adv s
 ·exact ((gl_va s).trans (gl_coT _)).trans (gl_val _)
theorem gl_ts (s : PS) : GL s (tsS ws s):=by
 unfold tsS tsP
 exact (((gl_ex _ s).trans (gl_co _)).trans (gl_ex _ _)).trans (gl_add _ _)
theorem gl_as (s : PS) : GL s (asS ws s):=by
 unfold asS; split
 ·exact gl_adv s
 ·split
  ·exact ((gl_val s).trans (gl_adv _)).trans (gl_ex _ _)
  ·exact gl_val s
theorem gl_si (s : PS) : GL s (siS ws s):=by
 unfold siS; split
 ·exact gl_adv s
 ·split
  ·exact (gl_adv s).trans (gl_va _)
  ·split
   ·unfold siL
    exact ((((gl_va s).trans (gl_adv _)).trans (gl_ex _ _)).trans (gl_ex _ _)).trans (gl_val _)
   ·exact ((gl_va s).trans (gl_ex _ _)).trans (gl_as _)
theorem gl_sc (s : PS) : GL s (scS ws s):=by
 unfold scS
 exact ((gl_si s).trans (gl_ex _ _)).trans (gl_add _ _)
theorem gl_br {blk : PS → PS} (hb : ∀ s,GL s (blk s)) (s : PS) : GL s (brS blk ws s):=by
 have h1 : GL s (brA blk ws s):=by unfold brA; exact ((gl_ex _ s).trans (gl_ts _)).trans (hb _)
 unfold brS; split
 ·refine h1.trans (GL.trans (b:=brB s.nodes.length (brA blk ws s)) (GL.same rfl rfl) ((hb _).trans (GL.same rfl rfl)))
 ·exact h1.trans (GL.same rfl rfl)
theorem gl_lo {blk : PS → PS} (hb : ∀ s,GL s (blk s)) (s : PS) : GL s (loS blk ws s):=by
 have h1 : GL s (loA blk ws s):=by unfold loA; exact ((gl_ex _ s).trans (gl_ts _)).trans (hb _)
 exact h1.trans (GL.same rfl rfl)
theorem gl_cm {blk : PS → PS} (hb : ∀ s,GL s (blk s)) (s : PS) : GL s (cmB blk ws s):=by
 unfold cmB; split
 ·exact gl_br hb s
 ·split
  ·exact gl_lo hb s
  ·exact gl_sc s
theorem gl_cmS {c : PS → PS} (hc : ∀ s,GL s (c s)) : ∀ n s,GL s (cmS c ws n s)
 | 0,s=>GL.refl s
 | n + 1,s=>by
  show GL s (if _ then s else cmS c ws n (c s))
  split
  ·exact GL.refl s
  ·exact (hc s).trans (gl_cmS hc n _)
theorem gl_bl : ∀ f s,GL s (blS ws f s)
 | 0,s=>GL.refl s
 | f + 1,s=>((gl_ex _ s).trans (gl_cmS (gl_cm (gl_bl f)) _ _)).trans (gl_ex _ _)
theorem gl_pr (s : PS) : GL (foS ws (exS ws kPre s)) (prS ws s):=by
 have h1 : GL (foS ws (exS ws kPre s)) (prT ws s):=(gl_bl _ _).trans (gl_add _ _)
 unfold prS; split
 ·exact h1
 ·exact h1.trans (GL.same rfl rfl)
theorem ltr_ini : Ltr ini:=⟨List.nodup_nil,List.nodup_nil,fun c hc=>(by cases hc),fun c hc=>(by cases hc)⟩
theorem ltr_pr : Ltr (prS ws ini):=(gl_pr ini).2 (ltr_fo (ltr_ex ltr_ini))
theorem atoms_both {k : Nat} (h : Pgm ws k) {al : List RAt} {cl : List Ins} (hr : rrS ws = some (al,cl)) : al = nmL (prS ws ini).vars (prS ws ini).hid (prA ws ini) ∧ (∀ a ∈ prA ws ini,AtOK (prS ws ini).vars (prS ws ini).hid a) ∧ NmOK (nmL (prS ws ini).vars (prS ws ini).hid (prA ws ini)):=by
 obtain ⟨f,b,hf,hB,e⟩:=h
 have hl : ws.length = f.length + b.length + 3:=by rw [e]; simp only [List.length_cons,List.length_append,List.length_nil]; omega
 have hfn : fndL ws lbW = f.length + 1:=by
  rw [e,show preW :: (f ++ lbW :: (b ++ [rbW])) = (preW :: f) ++ lbW :: (b ++ [rbW]) from rfl,fnd_at]
  ·rfl
  ·intro x hx
   simp only [List.mem_cons] at hx
   rcases hx with rfl | hx
   ·exact data_ne (by simp [preW,lbW])
   ·exact fm_lb hf x hx
 have r0 : Rd ws ini (kPre :: (f ++ lbW :: (b ++ [rbW]))):=⟨rfl,e,Nat.zero_le _⟩
 have a1:=st_ex kPre_n r0
 obtain ⟨al',g1,g2,g3⟩:=fo_nm hf (n:=ws.length + 1) a1.rd (by omega) (show hdB starW (lbW :: (b ++ [rbW])) = false from eqW_ne (data_ne (by simp [lbW,starW])))
 have d1 : (ws.drop 1).take (f.length + 1 - 1) = f:=by rw [e]; simp
 have hal : al' = al:=by
  unfold rrS at hr
  rw [hfn,d1,g1] at hr
  split at hr
  ·cases hr
  ·dsimp only at hr
   split at hr
   ·split at hr
    ·cases hr
    ·cases hr; rfl
   ·cases hr
 subst hal
 have gg:=(gl_pr (ws:=ws) ini).1
 have e1 : al' = nmL (prS ws ini).vars (prS ws ini).hid (prA ws ini):=g2.trans (nmL_gro gg g3).symm
 refine ⟨e1,fun a ha=>(g3 a ha).gro gg,?_⟩
 rw [← e1]
 exact rfo_names g1
end
theorem both_all {l : List UInt8} (h : rdE l = 0) : ∃ al cl,rrS (rrW l) = some (al,cl) ∧ nmV (rrW l) (rrW l).length = (rdS l).vars.map one1 ∧ PgR (rdS l).nodes (cl ++ [exI]) (rdS l).vars (nmV (rrW l) (rrW l).length) cl.length ∧ al = nmL (rdS l).vars (rdS l).hid (prA (rdW l) ini) ∧
  ∀ st ls,staE (rdS l).vars.length (prA (rdW l) ini) st ls = staR (nmV (rrW l) (rrW l).length) al st ls:=by
 have hW : rdW l = rrW l:=rfl
 have hE:=(eqv_all l).1
 rw [h] at hE
 have h1 : ¬ 240 < l.length:=fun hc=>by rw [rrE_long hc] at hE; cases hE
 have h2 : spl l ≠ none:=fun hc=>by rw [rrE_lex h1 hc] at hE; cases hE
 obtain ⟨al,cl,hr⟩ : ∃ al cl,rrS (rrW l) = some (al,cl):=by
  cases hr : rrS (rrW l) with
  | none=>rw [rrE_syn h1 h2 hr] at hE; cases hE
  | some x=>exact ⟨x.1,x.2,rfl⟩
 have hk:=rr_sound hr
 obtain ⟨hf,hn,hp⟩:=rd_some (pr_complete hk)
 have hi:=keep_pr (ws:=rrW l) ini (inv_ini _) hf
 rw [hp] at hi
 obtain ⟨-,hv,hh⟩:=hi
 have hL : Ltr (prS (rrW l) ini):=ltr_pr
 have hV : VR (prS (rrW l) ini).vars ((prS (rrW l) ini).vars.map one1):=vr_of hL.nv hL.lv
 obtain ⟨al2,cl2,hr2,hP⟩:=pgr_of hk hV
 rw [hr] at hr2
 cases hr2
 obtain ⟨ha,hA,hN⟩:=atoms_both hk hr
 have hb : ¬ (4 < (rdS l).vars.length ∨ 8 < (rdS l).hid.length):=fun hc=>by
  unfold rdE at h
  rw [if_neg h1,if_neg h2,if_neg (by rw [show (rdS l).failed = false from hf]; simp),if_pos hc] at h
  cases h
 refine ⟨al,cl,hr,hv,by rw [hv]; exact hP,ha,fun st ls=>?_⟩
 rw [hv,ha]
 exact sta_rel hL (Nat.le_of_not_lt (fun h=>hb (Or.inl h))) (Nat.le_of_not_lt (fun h=>hb (Or.inr h))) hA hN st ls
theorem te_zero {ws : List ByteArray} {s : PS} (h : teK ws s = 0) : teI ws s = 0:=by
 unfold teK at h
 unfold teI
 by_cases hu : upB (pk ws s) = true
 ·rw [if_pos hu] at h; cases h
 ·rw [if_neg hu] at h ⊢
  unfold valK at h
  unfold valI
  by_cases hn : acB ws kNil s = true
  ·rw [if_pos hn]
  ·rw [if_neg hn] at h; cases h
def Zer (a : Atm) : Prop:=(a.lk = 0 → a.li = 0) ∧ (a.rk = 0 → a.ri = 0)
theorem at_zer (ws : List ByteArray) (s : PS) : Zer (atA ws s):=by
 unfold atA
 split
 ·exact ⟨fun _=>rfl,fun _=>rfl⟩
 ·split
  ·exact ⟨fun h=>te_zero h,fun h=>te_zero h⟩
  ·exact ⟨fun h=>te_zero h,fun h=>te_zero h⟩
theorem foG_zer (ws : List ByteArray) (n : Nat) : ∀ s,∀ a ∈ (foG ws n s).1,Zer a:=by
 induction n with
 | zero=>intro s a h; simp [foG] at h
 | succ n ih =>
  intro s a h
  unfold foG at h
  split at h
  ·rcases List.mem_cons.1 h with rfl | h
   ·exact at_zer ws _
   ·exact ih _ a h
  ·cases h
theorem foA_zer (ws : List ByteArray) (s : PS) : ∀ a ∈ foA ws s,Zer a:=by
 intro a h
 rcases List.mem_cons.1 h with rfl | h
 ·exact at_zer ws _
 ·exact foG_zer ws _ _ a h
theorem bnd_of {vars hid : List UInt8} (hv : vars.length ≤ 4) (hh : hid.length ≤ 8) {al : List Atm} (ha : ∀ a ∈ al,AtOK vars hid a) (hz : ∀ a ∈ al,Zer a) : ∀ a ∈ al,a.lk ≤ 2 ∧ a.rk ≤ 2 ∧ a.li ≤ 100 ∧ a.ri ≤ 100:=by
 intro a h
 obtain ⟨-,⟨h1,h2,h3⟩,⟨g1,g2,g3⟩⟩:=ha a h
 obtain ⟨z1,z2⟩:=hz a h
 refine ⟨h1,g1,?_,?_⟩
 ·have : a.lk = 0 ∨ a.lk = 1 ∨ a.lk = 2:=by omega
  rcases this with e | e | e
  ·rw [z1 e]; exact Nat.zero_le _
  ·have:=h2 e; omega
  ·have:=h3 e; omega
 ·have : a.rk = 0 ∨ a.rk = 1 ∨ a.rk = 2:=by omega
  rcases this with e | e | e
  ·rw [z2 e]; exact Nat.zero_le _
  ·have:=g2 e; omega
  ·have:=g3 e; omega
structure PgOk (l : List UInt8) (al : List RAt) (cl : List Ins) : Prop where
 e0 : rdE l = 0
 rr : rrS (rrW l) = some (al,cl)
 ns : nmV (rrW l) (rrW l).length = (rdS l).vars.map one1
 pg : PgR (rdS l).nodes (cl ++ [exI]) (rdS l).vars (nmV (rrW l) (rrW l).length) cl.length
 sta : ∀ st ls,staE (rdS l).vars.length (prA (rdW l) ini) st ls = staR (nmV (rrW l) (rrW l).length) al st ls
 aok : AOk (prA (rdW l) ini)
 nl : (rdS l).nodes.length ≤ 1000
 vl : (rdS l).vars.length ≤ 4
 ll : al.length ≤ 1000
 cl : cl.length ≤ 1000
theorem blk_le {b : List ByteArray} {k : Nat} (h : Blk b k) : k ≤ b.length:=by
 refine Blk.ind (motive:=fun b k _=>k ≤ b.length) ?_ ?_ ?_ ?_ ?_ h
 ·exact Nat.zero_le _
 ·intro p r k hp hr ih
  simp only [List.length_append,List.length_cons]; omega
 ·intro c b r j k hc hb hr ih1 ih2
  simp only [List.length_append,List.length_cons]; omega
 ·intro c b r j k hc hb hr ih1 ih2
  simp only [List.length_append,List.length_cons]; omega
 ·intro c b d r j i k hc hb hd hr ih1 ih2 ih3
  simp only [List.length_append,List.length_cons]; omega
theorem foG_len (ws : List ByteArray) (n : Nat) : ∀ s,(foG ws n s).1.length ≤ n:=by
 induction n with
 | zero=>intro s; simp [foG]
 | succ n ih =>
  intro s
  unfold foG
  split
  ·have:=ih (atS ws s.adv)
   simp only [List.length_cons]; omega
  ·simp
theorem pgOk_of {l : List UInt8} (h : rdE l = 0) : ∃ al cl,PgOk l al cl:=by
 obtain ⟨al,cl,hr,hn,hP,ha,hs⟩:=both_all h
 have hE:=(eqv_all l).1
 rw [h] at hE
 have h1 : ¬ 240 < l.length:=fun hc=>by rw [rrE_long hc] at hE; cases hE
 have h2 : spl l ≠ none:=fun hc=>by rw [rrE_lex h1 hc] at hE; cases hE
 have hws : (rrW l).length ≤ 240:=by
  cases hs : spl l with
  | none=>exact absurd hs h2
  | some L =>
   have:=(splitF_len _ _ _ hs).2
   unfold rrW
   rw [hs]
   simp only [Option.getD_some,List.length_map]
   omega
 have hk:=rr_sound hr
 obtain ⟨hf,-,-⟩:=rd_some (pr_complete hk)
 have hb : ¬ (4 < (rdS l).vars.length ∨ 8 < (rdS l).hid.length):=fun hc=>by
  unfold rdE at h
  rw [if_neg h1,if_neg h2,if_neg (by rw [show (rdS l).failed = false from hf]; simp),if_pos hc] at h
  cases h
 have hcl : cl.length ≤ 240:=by
  obtain ⟨f,b,-,hB,e⟩:=hk
  have:=blk_le hB
  have h3:=congrArg List.length e
  simp only [List.length_append,List.length_cons] at h3
  omega
 have hnl:=((eqv_all l).2 h al cl hr).2
 have hv : (rdS l).vars.length ≤ 4:=by omega
 have hh : (rdS l).hid.length ≤ 8:=by omega
 obtain ⟨-,hA,-⟩:=atoms_both hk hr
 have hpl : (prA (rdW l) ini).length ≤ 300:=by
  have : rdW l = rrW l:=rfl
  rw [this]
  unfold prA foA
  have:=foG_len (rrW l) ((rrW l).length + 1) (atS (rrW l) (exS (rrW l) kPre ini))
  rw [List.length_cons]; omega
 refine ⟨al,cl,⟨h,hr,hn,hP,hs,⟨tmOK_of hv hh hA,by omega,bnd_of hv hh hA (foA_zer _ _)⟩,by omega,hv,?_,by omega⟩⟩
 rw [ha]
 unfold nmL
 rw [List.length_map]
 have:=List.length_filter_le (fun a=>a.k != 0) (prA (rdW l) ini)
 omega
def pkI (c : Int) (n : Nat) : Nat:=((if c < 0 then -(c + 1) else c) % (n : Int)).toNat
theorem pkI_lt {c : Int} {n : Nat} (h : 0 < n) : pkI c n < n:=by
 unfold pkI
 have:=Int.emod_lt_of_pos (if c < 0 then -(c + 1) else c) (show (0 : Int) < n by omega)
 have:=Int.emod_nonneg (if c < 0 then -(c + 1) else c) (show (n : Int) ≠ 0 by omega)
 omega
set_option maxRecDepth 100000 in
set_option maxHeartbeats 2000000 in
theorem sameInts_any {w : World} {v u : Value} {a b : List Int} (hA : Lst w v 1 a.length (ints a)) (hB : Lst w u 1 b.length (ints b)) :
  Calls Tryz.prog 87 #[v,u] w fun e w'=>e = .returned (.bool (decide (a = b))) ∧ ∃ n,w' = w.drewN n:=by
 obtain ⟨ao,acap,rfl,han,ham,ha20⟩:=hA.sl
 obtain ⟨bo,bcap,rfl,hbn,hbm,hb20⟩:=hB.sl
 have HA:=hide hA
 have HB:=hide hB
 clear hA hB
 by_cases hl : a.length = b.length
 ·have HL:=hide hl
  have d0 : ((a.length : Int) != (b.length : Int)) = false:=by rw [hl]; simp
  clear hl
  go_enter Tryz.func87,Tryz.ntmps87
  go_wp2_with fail
  go_loopw [5] (fun i wx=>∃ (k n : Nat),k ≤ a.length ∧ i = .int .i64 k ∧ Hid (∀ j,j < k → a.getD j 0 = b.getD j 0) ∧ wx = w.drewN n) (fun i _=>a.length - (intOf i).toNat)
  case atStart=>exact ⟨0,0,Nat.zero_le _,rfl,hide (fun j h=>by omega),rfl⟩
  case round =>
   obtain ⟨k,n,hk,rfl,hall,rfl⟩:=hrel
   by_cases hlt : k < a.length
   ·have hd : decide ((k : Int) < (a.length : Int)) = true:=by simp; omega
    have hlb : k < b.length:=by rw [← uh HL]; exact hlt
    obtain ⟨g1,o1,c1,hv1,-,-,hc1⟩:=(uh HA).get (by omega)
    obtain ⟨g2,o2,c2,hv2,-,-,hc2⟩:=(uh HB).get (by omega)
    simp only [Value.slice.injEq,true_and] at hv1 hv2
    obtain ⟨rfl,rfl⟩:=hv1
    obtain ⟨rfl,rfl⟩:=hv2
    have x1:=hc1 k _ (ints_get hlt)
    have x2:=hc2 k _ (ints_get hlb)
    obtain ⟨q1,hq1⟩ : ∃ q,q = a.getD k 0:=⟨_,rfl⟩
    obtain ⟨q2,hq2⟩ : ∃ q,q = b.getD k 0:=⟨_,rfl⟩
    rw [← hq1] at x1
    rw [← hq2] at x2
    have i1 : (0 : Int) ≤ (k : Int):=by omega
    have i2 : (k : Int) < (a.length : Int):=by omega
    have i3 : (k : Int) < (b.length : Int):=by omega
    have HQ : Hid (q1 = a.getD k 0 ∧ q2 = b.getD k 0):=hide ⟨hq1,hq2⟩
    clear hc1 hc2 hq1 hq2
    by_cases he : q1 = q2
    ·have d1 : (q1 != q2) = false:=by rw [he]; simp
     have HEq:=hide he
     clear he
     go_wp2_with fail
     go_quiet (fail)
     go_wp2_with fail
     go_roundw
     case rel=>exact ⟨k + 1,_,by omega,by go_num,hide (fun j hj=>by
      by_cases e : j = k
      ·rw [e,← (uh HQ).1,← (uh HQ).2]; exact uh HEq
      ·exact uh hall j (by omega)),rfl⟩
     case measure=>simp [intOf]; omega
    ·have d1 : (q1 != q2) = true:=by simpa using he
     have HE : Hid (decide (a = b) = false):=hide (by simp; intro h; exact he (by rw [(uh HQ).1,(uh HQ).2,h]))
     clear he
     go_wp2_with fail
     go_quiet (fail)
     go_wp2_with fail
     go_ret
     exact ⟨by rw [uh HE]; rfl,_,by first | rfl | exact World.drewN_drewN _ _ _⟩
   ·have hd : decide ((k : Int) < (a.length : Int)) = false:=by simp; omega
    have HE : Hid (decide (a = b) = true):=hide (by
     rw [decide_eq_true_eq]
     apply List.ext_getElem (uh HL)
     intro j h1 h2
     have:=uh hall j (by omega)
     simpa [h1,h2] using this)
    go_wp2_with fail
    go_ret
    exact ⟨by rw [uh HE]; rfl,_,by first | rfl | exact World.drewN_drewN _ _ _⟩
 ·have d0 : ((a.length : Int) != (b.length : Int)) = true:=by simp; omega
  have HE : Hid (decide (a = b) = false):=hide (by simp; intro h; exact hl (by rw [h]))
  clear hl
  go_enter Tryz.func87,Tryz.ntmps87
  go_wp2_with fail
  go_ret
  exact ⟨by rw [uh HE]; rfl,0,rfl⟩
set_option maxRecDepth 100000 in
set_option maxHeartbeats 2000000 in
theorem pick_any (w : World) (c : Int) (n : Nat) (hn : 0 < n) (hn2 : n ≤ 1000000) (hc : -9223372036854775808 ≤ c ∧ c ≤ 9223372036854775807) :
  Calls Tryz.prog 83 #[.int .i64 c,.int .i64 n] w fun e w'=>e = .returned (.int .i64 (pkI c n : Nat)) ∧ w' = w:=by
 have hn0 : ((n : Int) == 0) = false:=by simp; omega
 by_cases h : c < 0
 ·have d1 : decide (c < 0) = true:=by simpa using h
  have i1 : IntKind.i64.wrap (c + 1) = c + 1:=by rw [IntKind.wrap_i64]; omega
  have i2 : IntKind.i64.wrap (-(c + 1)) = -(c + 1):=by rw [IntKind.wrap_i64]; omega
  have HE : Hid (((pkI c n : Nat) : Int) = (-(c + 1)).tmod n):=hide (by
   unfold pkI
   rw [if_pos h,Int.tmod_eq_emod_of_nonneg (by omega)]
   have:=Int.emod_nonneg (-(c + 1)) (show (n : Int) ≠ 0 by omega)
   omega)
  go_enter Tryz.func83,Tryz.ntmps83
  go_wp2_with fail
  go_ret
  exact ⟨ret_int (by rw [uh HE,Int.neg_tmod]),rfl⟩
 ·have d1 : decide (c < 0) = false:=by simpa using h
  have HE : Hid (((pkI c n : Nat) : Int) = c % n):=hide (by
   unfold pkI
   rw [if_neg h]
   have:=Int.emod_nonneg c (show (n : Int) ≠ 0 by omega)
   omega)
  have ht : c.tmod n = c % n:=Int.tmod_eq_emod_of_nonneg (by omega)
  go_enter Tryz.func83,Tryz.ntmps83
  go_wp2_with fail
  go_ret
  exact ⟨ret_int (by first | exact (uh HE).symm | (rw [uh HE]; exact ht)),rfl⟩
structure Tr (w w' : World) (lab lab' : Nat → Nat) (B : List Nat) : Prop where
 os : w'.os = w.os
 tape : w'.tape = w.tape
 output : w'.output = w.output
 sz : w.heap.size ≤ w'.heap.size
 lb : ∀ k,k < w.heap.size → lab' k = lab k
 eq : ∀ k,k < w.heap.size → lab k ∉ B → w'.heap[k]? = w.heap[k]?
def nlb (w : World) (lab : Nat → Nat) (b : Nat) : Nat → Nat:=fun k=>if k < w.heap.size then lab k else b
section
variable {w w1 w' : World} {lab lab1 lab' : Nat → Nat} {B C : List Nat} {b : Nat}
theorem nlb_old {k : Nat} (h : k < w.heap.size) : nlb w lab b k = lab k:=if_pos h
theorem nlb_new {k : Nat} (h : w.heap.size ≤ k) : nlb w lab b k = b:=if_neg (by omega)
theorem Tr.refl (w : World) (lab : Nat → Nat) : Tr w w lab lab []:=⟨rfl,rfl,rfl,Nat.le_refl _,fun _ _=>rfl,fun _ _ _=>rfl⟩
theorem Tr.trans (h : Tr w w1 lab lab1 B) (k : Tr w1 w' lab1 lab' C) : Tr w w' lab lab' (B ++ C) :=
 ⟨k.os.trans h.os,k.tape.trans h.tape,k.output.trans h.output,Nat.le_trans h.sz k.sz,fun j hj=>(k.lb j (Nat.lt_of_lt_of_le hj h.sz)).trans (h.lb j hj),
  fun j hj hb=>(k.eq j (Nat.lt_of_lt_of_le hj h.sz) (by rw [h.lb j hj]; exact fun hc=>hb (List.mem_append.2 (Or.inr hc)))).trans (h.eq j hj (fun hc=>hb (List.mem_append.2 (Or.inl hc))))⟩
theorem Tr.sub (h : Tr w w' lab lab' B) (hs : ∀ b ∈ B,b ∈ C) : Tr w w' lab lab' C:=⟨h.os,h.tape,h.output,h.sz,h.lb,fun k hk hc=>h.eq k hk (fun hb=>hc (hs _ hb))⟩
theorem Tr.bw (hb : Below w.heap.size w w') (lab : Nat → Nat) : Tr w w' lab lab []:=⟨hb.os,hb.tape,hb.output,hb.size,fun _ _=>rfl,fun k hk _=>hb.block k hk⟩
theorem Tr.bwN (hb : Below w.heap.size w w') (lab : Nat → Nat) (b : Nat) : Tr w w' lab (nlb w lab b) []:=⟨hb.os,hb.tape,hb.output,hb.size,fun _ hk=>nlb_old hk,fun k hk _=>hb.block k hk⟩
theorem Tr.stp {F F' : List Nat} (hs : Stp F w F' w') (hF : ∀ k ∈ F,lab k = b) : Tr w w' lab (nlb w lab b) [b] :=
 ⟨hs.os,hs.tape,hs.output,hs.size,fun _ hk=>nlb_old hk,fun k hk hb=>hs.block k hk (fun hm=>hb (by rw [hF k hm]; simp))⟩
theorem nlb_foot {F F' : List Nat} (hs : Stp F w F' w') (hF : ∀ k ∈ F,lab k = b) {k : Nat} (hk : k ∈ F') : nlb w lab b k = b:=by
 rcases hs.foot k hk with h | h
 ·unfold nlb; split
  ·exact hF k h
  ·rfl
 ·exact nlb_new h
theorem Tr.set (w : World) (lab : Nat → Nat) (p : Addr) (u : Value) : Tr w (w.setCell p u) lab lab [lab p.block] :=
 ⟨rfl,rfl,rfl,by simp [World.setCell],fun _ _=>rfl,fun k _ hb=>Below.heap_setCell _ _ _ _ (fun e=>hb (by rw [e]; simp))⟩
theorem Tr.grown {row : Option Nat} (hg : w.grownBy w' row) (hr : ∀ k,row = some k → lab k = b) : Tr w w' lab (nlb w lab b) [b] :=
 ⟨hg.os,hg.tape,hg.output,hg.size,fun _ hk=>nlb_old hk,fun k hk hb=>hg.block k hk (fun e=>hb (by rw [hr k e.symm]; simp))⟩
end
structure Own (w : World) (lab : Nat → Nat) (e : TypeId) (sz n : Nat) (v : Value) (xs : List Value) (a : Nat) : Prop where
 row : w.ownsRow 0 e sz v n xs
 own : ∀ k,v.ownBlock = some k → lab k = a
section
variable {w w' : World} {lab lab' : Nat → Nat} {B : List Nat} {e sz n a : Nat} {v : Value} {xs : List Value}
theorem Own.tr (h : Own w lab e sz n v xs a) (t : Tr w w' lab lab' B) (ha : a ∉ B) : Own w' lab' e sz n v xs a :=
 ⟨ownsRow_of_eq h.row (fun k hk=>t.eq k (h.row.lt k hk).2 (by rw [h.own k hk]; exact ha)),fun k hk=>(t.lb k (h.row.lt k hk).2).trans (h.own k hk)⟩
theorem Own.nil (w : World) (lab : Nat → Nat) (e sz a : Nat) : Own w lab e sz 0 (.slice none 0 0) [] a:=⟨World.ownsRow_nil _ _ _ _,fun k h=>by cases h⟩
end
structure PG where
 A : Nat
 X : Nat
 Q : Nat
 P : Nat
 l : List UInt8
 al : List RAt
 cl : List Ins
 fv : Value
 vv : Value
 pv : Value
 nv : Value
 rv : Value
 rh : Value
 rp : Value
 rc : Value
 tx : Value
def PG.im (p : PG) : List Nat:=p.A :: p.X :: (cpB p.Q p.vv p.pv p.nv ++ rpB p.P p.rv p.rp p.rc)
def PG.ns (p : PG) : List ByteArray:=nmV (rrW p.l) (rrW p.l).length
structure Pg (w : World) (p : PG) : Prop where
 ok : PgOk p.l p.al p.cl
 bk : Bk w p.A 59 [ptrA p.X,ptrA p.P,.int .i64 0,.bool false,.int .i64 2,.slice none 0 0,.slice none 0 0,.slice none 0 0]
 bx : Bk w p.X 88 [ptrA p.Q,p.fv]
 cp : Cp w p.Q (rdW p.l) (rdS p.l) (prA (rdW p.l) ini) p.vv p.pv p.nv
 rp : Rp w p.P p.ns p.al (p.cl ++ [exI]) p.rv p.rh p.rp p.rc p.tx
section
variable {w w' : World} {p : PG} {lab lab' : Nat → Nat} {B : List Nat}
theorem Pg.lt (h : Pg w p) : ∀ k ∈ p.im,k < w.heap.size:=by
 intro k hk
 simp only [PG.im,List.mem_cons,List.mem_append] at hk
 rcases hk with rfl | rfl | hk | hk
 ·exact h.bk.lt
 ·exact h.bx.lt
 ·exact h.cp.lt k hk
 ·exact h.rp.lt k hk
theorem Pg.of_eq (h : Pg w p) (he : ∀ k ∈ p.im,w'.heap[k]? = w.heap[k]?) : Pg w' p :=
 ⟨h.ok,h.bk.of_eq (he _ (by simp [PG.im])),h.bx.of_eq (he _ (by simp [PG.im])),h.cp.of_eq (fun k hk=>he k (by simp [PG.im,hk])),h.rp.of_eq (fun k hk=>he k (by simp [PG.im,hk]))⟩
theorem Pg.below (h : Pg w p) (hb : Below w.heap.size w w') : Pg w' p:=h.of_eq (fun k hk=>hb.block k (h.lt k hk))
theorem Pg.tr (h : Pg w p) (t : Tr w w' lab lab' B) (hl : ∀ k ∈ p.im,lab k = 0) (hB : 0 ∉ B) : Pg w' p ∧ ∀ k ∈ p.im,lab' k = 0 :=
 ⟨h.of_eq (fun k hk=>t.eq k (h.lt k hk) (by rw [hl k hk]; exact hB)),fun k hk=>(t.lb k (h.lt k hk)).trans (hl k hk)⟩
end
structure RG where
 p : PG
 E : Nat
 Y : Nat
 R : Nat
 sv : Value
 cv : Value
 y : RL
 m : MS
 r : RM
def RG.im (r : RG) : List Nat:=r.E :: r.Y :: r.p.im
def RG.fp (r : RG) : List Nat:=mFp r.R r.sv r.cv ++ r.y.fp
structure Rn (T : Nat) (w : World) (r : RG) : Prop where
 pg : Pg w r.p
 bk : Bk w r.E 156 [ptrA r.p.A,ptrA r.Y,ptrA r.y.R]
 by' : Bk w r.Y 124 [ptrA r.R]
 mc : Mc w r.R r.p.Q (rdW r.p.l) (rdS r.p.l) (prA (rdW r.p.l) ini) r.m r.p.vv r.p.pv r.p.nv r.sv r.cv
 rc : Rc w r.y r.p.ns r.p.al (r.p.cl ++ [exI]) r.r
 pb : ∀ k ∈ r.y.pb,k ∈ r.p.im
 mr : MR r.m r.r
 ro : RunOk r.p.cl.length r.r
 po : PosR (8 + T) r.r
 ds : ∀ k ∈ mFp r.R r.sv r.cv,k ∉ r.y.fp
section
variable {T : Nat} {w w' : World} {r : RG} {lab lab' : Nat → Nat} {B : List Nat}
theorem Rn.lt (h : Rn T w r) : ∀ k,k ∈ r.im ∨ k ∈ r.fp → k < w.heap.size:=by
 intro k hk
 simp only [RG.im,RG.fp,List.mem_cons,List.mem_append] at hk
 rcases hk with (rfl | rfl | hk) | hk | hk
 ·exact h.bk.lt
 ·exact h.by'.lt
 ·exact h.pg.lt k hk
 ·exact h.mc.lt k hk
 ·exact h.rc.lt k hk
theorem PG.cpIm {p : PG} : ∀ k ∈ cpB p.Q p.vv p.pv p.nv,k ∈ p.im:=fun k hk=>by simp [PG.im,hk]
theorem Rn.of_eq (h : Rn T w r) (he : ∀ k,k ∈ r.im ∨ k ∈ r.fp → w'.heap[k]? = w.heap[k]?) : Rn T w' r :=
 ⟨h.pg.of_eq (fun k hk=>he k (Or.inl (by simp [RG.im,hk]))),h.bk.of_eq (he _ (Or.inl (by simp [RG.im]))),h.by'.of_eq (he _ (Or.inl (by simp [RG.im]))),
  h.mc.of_eq (fun k hk=>he k (by
   rcases hk with hk | hk
   ·exact Or.inr (by simp [RG.fp,hk])
   ·exact Or.inl (by simp [RG.im,PG.cpIm k hk]))),
  h.rc.of_eq (fun k hk=>he k (by
   rcases hk with hk | hk
   ·exact Or.inr (by simp [RG.fp,hk])
   ·exact Or.inl (by simp [RG.im,h.pb k hk]))),h.pb,h.mr,h.ro,h.po,h.ds⟩
theorem Rn.below (h : Rn T w r) (hb : Below w.heap.size w w') : Rn T w' r:=h.of_eq (fun k hk=>hb.block k (h.lt k hk))
theorem Rn.up (h : Rn T w r) {T' : Nat} (hT : T ≤ T') : Rn T' w r:=⟨h.pg,h.bk,h.by',h.mc,h.rc,h.pb,h.mr,h.ro,⟨h.po.ps,by have:=h.po.le; omega⟩,h.ds⟩
theorem Rn.tr (h : Rn T w r) {a : Nat} (t : Tr w w' lab lab' B) (hl : ∀ k ∈ r.im,lab k = 0) (hf : ∀ k ∈ r.fp,lab k = a) (hB : 0 ∉ B) (ha : a ∉ B) : Rn T w' r ∧ (∀ k ∈ r.im,lab' k = 0) ∧ ∀ k ∈ r.fp,lab' k = a :=
 ⟨h.of_eq (fun k hk=>t.eq k (h.lt k hk) (by
   rcases hk with hk | hk
   ·rw [hl k hk]; exact hB
   ·rw [hf k hk]; exact ha)),fun k hk=>(t.lb k (h.lt k (Or.inl hk))).trans (hl k hk),fun k hk=>(t.lb k (h.lt k (Or.inr hk))).trans (hf k hk)⟩
end
structure LQ where
 v : Value
 u : Value
 c : List Int
def Win (v : Value) (len : Nat) (u : Value) (off n : Nat) : Prop :=
 (u = .slice none 0 0 ∧ n = 0) ∨ ∃ g cap off' cap',v = .slice (some ⟨g,0,none⟩) len cap ∧ u = .slice (some ⟨g,off',none⟩) n cap' ∧ n ≤ cap' ∧ cap' ≤ maxLen ∧ off + n ≤ len ∧ (0 < n → off' = off)
theorem Win.lst {w : World} {e : TypeId} {v u : Value} {c : List Int} {off n : Nat} (h : Win v c.length u off n) (hr : w.ownsRow 0 e 1 v c.length (ints c)) (hl : c.length ≤ 40000) : ∃ l : List Int,l.length = n ∧ Lst w u 1 l.length (ints l):=by
 rcases h with ⟨rfl,rfl⟩ | ⟨g,cap,off',cap',rfl,rfl,h1,h2,h3,h4⟩
 ·exact ⟨[],rfl,rfl,Nat.zero_le _,Or.inl ⟨rfl,rfl⟩⟩
 ·have hn : ((c.drop off).take n).length = n:=by rw [List.length_take,List.length_drop]; omega
  refine ⟨(c.drop off).take n,hn,by rw [ints_len,Nat.mul_one],by omega,Or.inr ⟨g,off',cap',by rw [hn],by rw [hn]; exact h1,h2,fun j u hj=>?_⟩⟩
  have hj' : j < n:=by
   have:=(List.getElem?_eq_some_iff.1 hj).1
   rw [ints_len,hn] at this; exact this
  rw [h4 (by omega)]
  have hc:=(hr.cellAt (off + j) (by omega)).trans (ints_get (l:=c) (k:=off + j) (by omega))
  rw [hc]
  have : (ints ((c.drop off).take n))[j]? = some (.int .i64 (c.getD (off + j) 0)):=by
   have hcl : off + j < c.length:=by omega
   simp [ints,hj',List.getElem?_drop,hcl]
  rw [this] at hj
  exact hj.symm ▸ rfl
structure WS where
 ps : List PG
 rs : List RG
 reg : List Int
 ls : List LQ
 psV : Value
 rsV : Value
 regV : Value
 lsV : Value
 lwV : Value
 stV : Value
 at' : Int
 n : Int
 ex : Int
def WS.cells (z : WS) : List Value:=[z.psV,z.rsV,z.regV,z.lsV,z.lwV,.slice none 0 0,.slice none 0 0,z.stV,.int .i64 z.at',.int .i64 z.n,.int .i64 z.ex,.int .i64 0]
def I64 (x : Int) : Prop:=-9223372036854775808 ≤ x ∧ x ≤ 9223372036854775807
structure Li (w : World) (lab : Nat → Nat) (T j : Nat) (l : LQ) : Prop where
 v : Own w lab 3 1 l.c.length l.v (ints l.c) (7 + 3 * j)
 u : Own w lab 3 1 l.c.length l.u (ints l.c) (8 + 3 * j)
 le : l.c.length ≤ 2 * (8 + T)
structure LwI (T : Nat) (w : World) (A : Nat) (z : WS) (lab : Nat → Nat) : Prop where
 bk : Bk w A 112 z.cells
 l0 : lab A = 1
 ps : Own w lab 22 1 z.ps.length z.psV (z.ps.map (fun p=>ptrA p.A)) 2
 pg : ∀ p ∈ z.ps,Pg w p ∧ ∀ k ∈ p.im,lab k = 0
 rs : Own w lab 114 1 z.rs.length z.rsV (z.rs.map (fun r=>ptrA r.E)) 3
 rn : ∀ (j : Nat) (r : RG),z.rs[j]? = some r → Rn T w r ∧ (∀ k ∈ r.im,lab k = 0) ∧ ∀ k ∈ r.fp,lab k = 9 + 3 * j
 rg : Own w lab 3 1 z.reg.length z.regV (ints z.reg) 4
 ls : Own w lab 29 1 z.ls.length z.lsV (z.ls.map LQ.v) 5
 lw : Own w lab 29 1 z.ls.length z.lwV (z.ls.map LQ.u) 6
 lc : ∀ (j : Nat) (l : LQ),z.ls[j]? = some l → Li w lab T j l
 sto : z.stV = .slice none 0 0 ∨ ∃ (j : Nat) (l : LQ) (off n : Nat),z.ls[j]? = some l ∧ Win l.v l.c.length z.stV off n
 i1 : I64 z.at'
 i2 : I64 z.n
 i3 : I64 z.ex
 b1 : z.ps.length ≤ T
 b2 : z.rs.length ≤ T
 b3 : z.reg.length ≤ T
 b4 : z.ls.length ≤ 2 * T
section
variable {T A : Nat} {w w' : World} {z : WS} {lab lab' : Nat → Nat}
theorem Li.tr {j : Nat} {l : LQ} {B : List Nat} (h : Li w lab T j l) (t : Tr w w' lab lab' B) (h1 : 7 + 3 * j ∉ B) (h2 : 8 + 3 * j ∉ B) : Li w' lab' T j l:=⟨h.v.tr t h1,h.u.tr t h2,h.le⟩
theorem Li.up {j : Nat} {l : LQ} (h : Li w lab T j l) {T' : Nat} (hT : T ≤ T') : Li w lab T' j l:=⟨h.v,h.u,by have:=h.le; omega⟩
theorem LwI.keep (h : LwI T w A z lab) (t : Tr w w' lab lab' []) : LwI T w' A z lab' where
 bk:=h.bk.of_eq (t.eq A h.bk.lt (by simp))
 l0:=(t.lb A h.bk.lt).trans h.l0
 ps:=h.ps.tr t (by simp)
 pg:=fun p hp=>(h.pg p hp).1.tr t (h.pg p hp).2 (by simp)
 rs:=h.rs.tr t (by simp)
 rn:=fun j r hr=>(h.rn j r hr).1.tr t (h.rn j r hr).2.1 (h.rn j r hr).2.2 (by simp) (by simp)
 rg:=h.rg.tr t (by simp)
 ls:=h.ls.tr t (by simp)
 lw:=h.lw.tr t (by simp)
 lc:=fun j l hl=>(h.lc j l hl).tr t (by simp) (by simp)
 sto:=h.sto
 i1:=h.i1
 i2:=h.i2
 i3:=h.i3
 b1:=h.b1
 b2:=h.b2
 b3:=h.b3
 b4:=h.b4
theorem LwI.below (h : LwI T w A z lab) (hb : Below w.heap.size w w') : LwI T w' A z lab:=h.keep (Tr.bw hb lab)
theorem LwI.up (h : LwI T w A z lab) {T' : Nat} (hT : T ≤ T') : LwI T' w A z lab where
 bk:=h.bk
 l0:=h.l0
 ps:=h.ps
 pg:=h.pg
 rs:=h.rs
 rn:=fun j r hr=>⟨(h.rn j r hr).1.up hT,(h.rn j r hr).2⟩
 rg:=h.rg
 ls:=h.ls
 lw:=h.lw
 lc:=fun j l hl=>(h.lc j l hl).up hT
 sto:=h.sto
 i1:=h.i1
 i2:=h.i2
 i3:=h.i3
 b1:=by have:=h.b1; omega
 b2:=by have:=h.b2; omega
 b3:=by have:=h.b3; omega
 b4:=by have:=h.b4; omega
def StI (T : Nat) (w : World) (A : Nat) (lab : Nat → Nat) (w' : World) : Prop:=∃ z' lab',LwI T w' A z' lab' ∧ ∃ B,0 ∉ B ∧ Tr w w' lab lab' B
end
section
variable {T : Nat} {w w1 w2 : World} {r : RG}
theorem PgOk.nsl {l : List UInt8} {al : List RAt} {cl : List Ins} (h : PgOk l al cl) : (nmV (rrW l) (rrW l).length).length = (rdS l).vars.length:=by rw [h.ns,List.length_map]
theorem Pg.ns4 {p : PG} (h : Pg w p) : p.ns.length ≤ 4:=by
 have h1:=h.ok.nsl
 have h2:=h.ok.vl
 unfold PG.ns; omega
theorem Rn.adl (h : Rn T w r) : r.r.ad.length ≤ 8 + T:=h.po.le
theorem Rn.csl (h : Rn T w r) : r.m.cs.length = r.r.ad.length:=h.mr.cs.len
theorem Rn.hok (h : Rn T w r) : ∀ n,n < r.r.ad.length → 0 ≤ nxK r.r.ad (soR r.r.ad r.r.nx n).1 r.r.ad.length:=h.mr.cs.soOk (h.mr.cs.pos h.po.ps)
theorem Rn.so (h : Rn T w r) : (soR r.r.ad r.r.nx r.r.ad.length).2 = flC r.m.cs:=h.mr.cs.soAll (h.mr.cs.pos h.po.ps)
theorem flC_len (cs : List (Int × Int)) : (flC cs).length = 2 * cs.length:=by
 have h:=congrArg List.length (flC_ints cs)
 rw [ints_len,ceC_len] at h
 omega
theorem sta_facts {vs : List ByteArray} {al : List RAt} {st ls : List Int} (h : staR vs al st ls = 0) : ls.length ≤ 16 ∧ st.length = vs.length ∧ OkC ls (ls.length / 2):=by
 unfold staR at h
 by_cases h1 : 16 < ls.length
 ·rw [if_pos h1] at h; cases h
 ·rw [if_neg h1] at h
  cases hb : badA vs.length st ls with
  | true=>rw [hb,if_pos rfl] at h; cases h
  | false =>
   obtain ⟨a,-,-,b⟩:=badA_no hb
   exact ⟨by omega,a,b⟩
theorem Rn.step (h : Rn T w r) (hd : ∀ k ∈ r.im,k ∉ r.fp) {c : Int} {cv' av' xv' : Value}
  (h1 : Mc w1 r.R r.p.Q (rdW r.p.l) (rdS r.p.l) (prA (rdW r.p.l) ini) (stM (rdS r.p.l).nodes r.m c).1 r.p.vv r.p.pv r.p.nv r.sv cv') (s1 : Stp (mFp r.R r.sv r.cv) w (mFp r.R r.sv cv') w1)
  (h2 : Rc w2 { r.y with av:=av',xv:=xv' } r.p.ns r.p.al (r.p.cl ++ [exI]) (rsM r.p.ns (r.p.cl ++ [exI]) r.r c).1) (s2 : Stp r.y.fp w1 (RL.fp { r.y with av:=av',xv:=xv' }) w2) :
  ∃ r' : RG,r'.E = r.E ∧ r'.im = r.im ∧ Rn (T + 1) w2 r' ∧ Stp r.fp w r'.fp w2:=by
 have i1 : ∀ k,k ∈ r.im → k ∉ mFp r.R r.sv r.cv:=fun k hk hm=>hd k hk (by simp [RG.fp,hm])
 have i2 : ∀ k,k ∈ r.im → k ∉ r.y.fp:=fun k hk hm=>hd k hk (by simp [RG.fp,hm])
 have hI : ∀ k,k ∈ r.im → w2.heap[k]? = w.heap[k]?:=fun k hk=>by
  have hl:=h.lt k (Or.inl hk)
  rw [s2.block k (Nat.lt_of_lt_of_le hl s1.size) (i2 k hk),s1.block k hl (i1 k hk)]
 have hf : ∀ k,k ∈ mFp r.R r.sv cv' → k ∉ r.y.fp:=fun k hk hm=>by
  rcases s1.foot k hk with g | g
  ·exact h.ds k g hm
  ·have:=h.lt k (Or.inr (by simp [RG.fp,hm])); omega
 have hIp : ∀ k,k ∈ r.p.im → k ∈ r.im:=fun k hk=>by simp [RG.im,hk]
 have hM : Mc w2 r.R r.p.Q (rdW r.p.l) (rdS r.p.l) (prA (rdW r.p.l) ini) (stM (rdS r.p.l).nodes r.m c).1 r.p.vv r.p.pv r.p.nv r.sv cv':=h1.of_eq (fun k hk=>by
  rcases hk with hk | hk
  ·exact s2.block k (h1.lt k hk) (hf k hk)
  ·exact s2.block k (h1.cp.lt k hk) (i2 k (hIp k (PG.cpIm k hk))))
 obtain ⟨hmr,-⟩:=h.pg.ok.pg.step h.mr h.ro c
 refine ⟨{ r with cv:=cv',y:={ r.y with av:=av',xv:=xv' },m:=(stM (rdS r.p.l).nodes r.m c).1,r:=(rsM r.p.ns (r.p.cl ++ [exI]) r.r c).1 },rfl,rfl,
  ⟨h.pg.of_eq (fun k hk=>hI k (hIp k hk)),h.bk.of_eq (hI _ (by simp [RG.im])),h.by'.of_eq (hI _ (by simp [RG.im])),hM,h2,h.pb,hmr,h.pg.ok.pg.keep h.ro c,?_,?_⟩,?_⟩
 ·exact h.po.step _ _ c
 ·intro k hk hm
  rcases s2.foot k hm with g | g
  ·exact hf k hk g
  ·have:=h1.lt k hk; omega
 ·refine ⟨s2.os.trans s1.os,s2.tape.trans s1.tape,s2.output.trans s1.output,Nat.le_trans s1.size s2.size,fun k hk hn=>?_,fun k hk=>?_⟩
  ·rw [s2.block k (Nat.lt_of_lt_of_le hk s1.size) (fun hm=>hn (by simp [RG.fp,hm])),s1.block k hk (fun hm=>hn (by simp [RG.fp,hm]))]
  ·rcases List.mem_append.1 hk with hk | hk
   ·rcases s1.foot k hk with g | g
    ·exact Or.inl (by simp [RG.fp,g])
    ·exact Or.inr g
   ·rcases s2.foot k hk with g | g
    ·exact Or.inl (by simp [RG.fp,g])
    ·exact Or.inr (Nat.le_trans s1.size g)
theorem Rn.start {p : PG} {Y R E : Nat} {sv cv : Value} {y : RL} {st ls : List Int} (hp : Pg w p) (h0 : staR p.ns p.al st ls = 0) (hE : Bk w E 156 [ptrA p.A,ptrA Y,ptrA y.R]) (hY : Bk w Y 124 [ptrA R])
  (hM : Mc w R p.Q (rdW p.l) (rdS p.l) (prA (rdW p.l) ini) (enS (rdS p.l).nodes ⟨0,0,st,prs ls⟩ 0) p.vv p.pv p.nv sv cv)
  (hR : Rc w y p.ns p.al (p.cl ++ [exI]) (seM (p.cl ++ [exI]) ⟨0,0,st,evK ls (ls.length / 2),odK ls (ls.length / 2)⟩)) (hb : ∀ k ∈ y.pb,k ∈ p.im) (hd : ∀ k ∈ mFp R sv cv,k ∉ y.fp) :
  Rn 0 w ⟨p,E,Y,R,sv,cv,y,enS (rdS p.l).nodes ⟨0,0,st,prs ls⟩ 0,seM (p.cl ++ [exI]) ⟨0,0,st,evK ls (ls.length / 2),odK ls (ls.length / 2)⟩⟩:=by
 obtain ⟨f1,f2,f3⟩:=sta_facts h0
 refine ⟨hp,hE,hY,hM,hR,hb,mr_start f3 (hp.ok.pg.ex 0 (Nat.zero_le _)),hp.ok.pg.se (Nat.zero_le _),PosR.se ⟨fun a ha=>(f3.sa a ha).1,?_⟩ _,hd⟩
 show (evK ls (ls.length / 2)).length ≤ 8
 rw [evK_len]; omega
end
end Go.Proofs.YtciihepbeacppaaGreat
