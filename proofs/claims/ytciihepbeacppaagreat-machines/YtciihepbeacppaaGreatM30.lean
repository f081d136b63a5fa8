import Derived.Test.YtciihepbeacppaaGreatM27
import Derived.Test.YtciihepbeacppaaGreatM29
import Derived.Test.YtciihepbeacppaaGreatM11
import Derived.Test.YtciihepbeacppaaGreatHK
import Derived.Test.YtciihepbeacppaaGreatM09
import Derived.Test.YtciihepbeacppaaGreatM16
import Derived.Test.YtciihepbeacppaaGreatEF
import Derived.Test.YtciihepbeacppaaGreatM22
import Derived.Deep.Cut
import Derived.Deep.CutRange
import Derived.Deep.DeepCutAuto
import Derived.Deep.RegionHeld3
namespace Go.Proofs.YtciihepbeacppaaGreat
open Go.RowKit
structure MR (m : MS) (r : RM) : Prop where
 nd : m.nd = r.nd
 wh : m.wh = r.wh
 st : m.st = r.st
 cs : CsR m.cs r.ad r.nx
structure VR (vs : List UInt8) (ns : List ByteArray) : Prop where
 ix : ∀ x v,vIx vs x v → fndL ns x = v ∧ v < ns.length
 nl : ¬ fndL ns nilW < ns.length
theorem VR.val {vs : List UInt8} {ns : List ByteArray} (h : VR vs ns) {x : ByteArray} {v : Nat} (hx : vIx vs x v) (st : List Int) : vlR ns st x = st.getD v 0:=by
 obtain ⟨h1,h2⟩:=h.ix x v hx
 unfold vlR
 rw [h1,if_pos h2]
theorem VR.tm {vs : List UInt8} {ns : List ByteArray} (h : VR vs ns) {y : ByteArray} {k i : Nat} (hy : tIx vs y k i) (st : List Int) : vlR ns st y = tmV st k i:=by
 rcases hy with ⟨rfl,rfl⟩ | ⟨rfl,hv⟩
 ·unfold vlR; rw [if_neg h.nl]; rfl
 ·rw [h.val hv]; rfl
theorem MR.en {m : MS} {r : RM} (h : MR m r) {nds : List Nd} {cl : List Ins} {n : Nat} (hw : r.wh = 0) (he : (ndA nds n).op = 0 ↔ eqW (cl.getD n insZ).op exitW = true) : MR (enS nds m n) (seM cl { r with nd:=n }):=by
 by_cases h0 : (ndA nds n).op = 0
 ·have e1 : enS nds m n = { m with nd:=n,wh:=if doneB m then 1 else 2 }:=if_pos h0
  have e2 : seM cl { r with nd:=n } = { r with nd:=n,wh:=if (rchA (lkR r.ad r.nx) r.ad.length [] r.st).length = r.ad.length then 1 else 2 }:=if_neg (by
   rintro (h1 | h1)
   ·exact h1 hw
   ·have h2 : eqW (cl.getD n insZ).op exitW = false:=h1
    rw [he.1 h0] at h2; cases h2)
  rw [e1,e2]
  refine ⟨rfl,?_,h.st,h.cs⟩
  show (if doneB m then 1 else 2) = (if _ then 1 else 2)
  have hd : doneB m = true ↔ (rchA (lkR r.ad r.nx) r.ad.length [] r.st).length = r.ad.length:=by
   unfold doneB
   rw [beq_iff_eq,← h.st]
   exact h.cs.done m.st
  by_cases hq : doneB m = true
  ·rw [if_pos hq,if_pos (hd.1 hq)]
  ·rw [if_neg hq,if_neg (fun h=>hq (hd.2 h))]
 ·have e1 : enS nds m n = { m with nd:=n }:=if_neg h0
  have e2 : seM cl { r with nd:=n } = { r with nd:=n }:=if_pos (Or.inr (by
   show eqW (cl.getD n insZ).op exitW = false
   cases hb : eqW (cl.getD n insZ).op exitW with
   | false=>rfl
   | true=>exact absurd (he.2 hb) h0))
  rw [e1,e2]
  exact ⟨rfl,h.wh,h.st,h.cs⟩
theorem seM_stop {cl : List Ins} {r : RM} (h : r.wh ≠ 0) : seM cl r = r:=by unfold seM; rw [if_pos (Or.inl h)]
section
variable {vs : List UInt8} {ns : List ByteArray} {nds : List Nd} {cl : List Ins} {m : MS} {r : RM} {c : Int}
def EX (nds : List Nd) (cl : List Ins) (n : Nat) : Prop:=(ndA nds n).op = 0 ↔ eqW (cl.getD n insZ).op exitW = true
theorem step_rel (h : MR m r) (hV : VR vs ns) (hN : r.wh = 0 → NI vs m.nd (ndA nds m.nd) (cl.getD r.nd insZ)) (he1 : r.wh = 0 → EX nds cl (r.nd + 1)) (he2 : r.wh = 0 → EX nds cl (cl.getD r.nd insZ).to) :
  MR (stM nds m c).1 (rsM ns cl r c).1 ∧ (stM nds m c).2 = (if (rsM ns cl r c).2 then 0 else 5):=by
 by_cases hw : m.wh ≠ 0
 ·have e1 : stM nds m c = (m,0):=by unfold stM; rw [if_pos hw]
  have e2 : rsM ns cl r c = (r,true):=by unfold rsM; rw [if_pos (by rw [← h.wh]; exact hw)]
  rw [e1,e2]
  exact ⟨h,rfl⟩
 have hw0 : r.wh = 0:=by rw [← h.wh]; omega
 replace hN:=hN hw0
 replace he1:=he1 hw0
 replace he2:=he2 hw0
 generalize hnd : ndA nds m.nd = nd at hN
 generalize hi : cl.getD r.nd insZ = i at hN he2
 have he : ∀ b : Bool,EX nds cl (if b then r.nd + 1 else i.to):=fun b=>by
  cases b
  ·exact he2
  ·exact he1
 have hn:=h.nd
 have eR : rsM ns cl r c = (match rsP ns i r c with | some m'=>(seM cl m',true) | none=>(r,false)):=by
  unfold rsM
  rw [if_neg (show ¬ r.wh ≠ 0 by omega),hi]
  rfl
 have eM : stM nds m c = (if nd.op = 1 then (enS nds { m with st:=m.st.set nd.v (tmV m.st nd.ak nd.ai) } nd.nx,0)
   else if nd.op = 4 then crM nds m nd c
   else if nd.op = 2 then (foM nds m nd (tmV m.st nd.ak nd.ai),0)
   else if nd.op = 3 then ((match fdA m.cs (m.st.getD nd.v 0) with | some i=>prM nds { m with cs:=lkS m.cs i (tmV m.st nd.ak nd.ai) } nd (m.st.getD nd.v 0) true | none=>prM nds m nd (m.st.getD nd.v 0) false),0)
   else if nd.op = 5 then ((match fdA m.cs (m.st.getD nd.v 0) with | some i=>prM nds { m with cs:=rmS m.cs i } nd (m.st.getD nd.v 0) true | none=>prM nds m nd (m.st.getD nd.v 0) false),0)
   else if nd.op = 7 then (mbM nds m nd (c.tmod 2 != 0),0)
   else if nd.op = 8 then (mbM nds m nd (m.st.getD nd.v 0 == tmV m.st nd.ak nd.ai),0)
   else if nd.op = 9 then (mbM nds m nd (m.st.getD nd.v 0 != tmV m.st nd.ak nd.ai),0)
   else if nd.op = 6 ∨ nd.op = 10 then (enS nds m nd.nx,0)
   else (m,0)):=by
  unfold stM
  rw [if_neg hw,hnd]
  rfl
 rw [eR,eM]
 clear eR eM
 have bad : ∀ a : Int,MR (prM nds m nd a false) (seM cl { r with nd:=r.nd,wh:=if a = 0 then 3 else 4 }):=fun a=>by
  rw [seM_stop (by show (if a = 0 then 3 else 4) ≠ 0; split <;> omega)]
  exact ⟨h.nd,rfl,h.st,h.cs⟩
 rcases hN with ⟨hS,hx⟩ | ⟨⟨ht,hT⟩,hx,ho⟩ | ⟨hg,hg2,hx⟩
 ·rcases hS with ⟨h1,h2,h3,h4⟩ | ⟨h1,h2,h3,h4,h5⟩ | ⟨h1,h2,h3⟩ | ⟨h1,h2,h3,h4,h5⟩ | ⟨h1,h2,h3,h4⟩ | ⟨h1,h2,h3⟩ | ⟨h1,h2⟩
  ·
   have e : rsP ns i r c = some { r with st:=r.st.set (fndL ns i.x) 0,nd:=r.nd + 1 }:=by unfold rsP; rw [h1]; simp [eqW,nilW_l]
   rw [e,if_pos h2,(hV.ix _ _ h3).1,hx,hn,h4]
   refine ⟨?_,rfl⟩
   have hm : MR { m with st:=m.st.set nd.v (tmV m.st 0 nd.ai) } { r with st:=r.st.set nd.v 0 }:=⟨h.nd,h.wh,by show m.st.set nd.v _ = r.st.set nd.v 0; rw [h.st]; rfl,h.cs⟩
   exact hm.en hw0 he1
  ·
   have e : rsP ns i r c = some { r with st:=r.st.set (fndL ns i.x) (vlR ns r.st i.y),nd:=r.nd + 1 }:=by unfold rsP; rw [h1]; simp [eqW,nilW_l,copyW_l]
   rw [e,if_pos h2,(hV.ix _ _ h3).1,hx,hn,h4,hV.val h5]
   refine ⟨?_,rfl⟩
   have hm : MR { m with st:=m.st.set nd.v (tmV m.st 1 nd.ai) } { r with st:=r.st.set nd.v (r.st.getD nd.ai 0) }:=⟨h.nd,h.wh,by show m.st.set nd.v _ = r.st.set nd.v _; rw [h.st]; rfl,h.cs⟩
   exact hm.en hw0 he1
  ·
   have e : rsP ns i r c = (if r.ad.idxOf c < r.ad.length ∨ c < 1 ∨ 1048576 < c then none else some { r with ad:=r.ad ++ [c],nx:=r.nx ++ [0],st:=r.st.set (fndL ns i.x) c,nd:=r.nd + 1 }):=by unfold rsP; rw [h1]; simp only [eqW,nilW_l,copyW_l,newW_l]; rfl
   rw [e,if_neg (by omega),if_pos h2]
   unfold crM
   by_cases hc : c < 1 ∨ 1048576 < c
   ·rw [if_pos hc,if_pos (Or.inr hc)]
    exact ⟨h,rfl⟩
   ·rw [if_neg hc]
    cases hf : fdA m.cs c with
    | some k =>
     obtain ⟨-,hk,-⟩:=h.cs.found hf
     rw [if_pos (Or.inl hk)]
     exact ⟨h,rfl⟩
    | none =>
     rw [if_neg (by rintro (h6 | h6); exact h.cs.lost hf h6; exact hc h6),(hV.ix _ _ h3).1,hx,hn]
     refine ⟨?_,rfl⟩
     have hm : MR { m with cs:=adA m.cs c 0,st:=m.st.set nd.v c } { r with ad:=r.ad ++ [c],nx:=r.nx ++ [0],st:=r.st.set nd.v c }:=⟨h.nd,h.wh,by show m.st.set nd.v _ = r.st.set nd.v _; rw [h.st],h.cs.add hf 0⟩
     exact hm.en hw0 he1
  ·
   have e : rsP ns i r c = some { (toM ns i r).1 with nd:=if (toM ns i r).2 then r.nd + 1 else r.nd }:=by unfold rsP; rw [h1]; simp only [eqW,nilW_l,copyW_l,newW_l,testW_lR,goW_lR,loadW_l]; rfl
   have e2 : toM ns i r = if r.ad.idxOf (m.st.getD nd.ai 0) < r.ad.length then ({ r with st:=r.st.set nd.v (r.nx.getD (r.ad.idxOf (m.st.getD nd.ai 0)) 0) },true) else ({ r with wh:=if m.st.getD nd.ai 0 = 0 then 3 else 4 },false):=by
    unfold toM
    rw [h1,show eqW loadW loadW = true by simp [eqW],if_pos rfl,hV.val h5,(hV.ix _ _ h3).1,h.st]
    rfl
   rw [e,if_neg (by omega),if_neg (by omega),if_pos h2,e2,h4]
   unfold foM
   rw [show tmV m.st 1 nd.ai = m.st.getD nd.ai 0 from rfl]
   cases hf : fdA m.cs (m.st.getD nd.ai 0) with
   | some k =>
    obtain ⟨hk,hk2,hk3⟩:=h.cs.found hf
    rw [if_pos hk2]
    refine ⟨?_,rfl⟩
    show MR (enS nds _ nd.nx) (seM cl { r with st:=_,nd:=r.nd + 1 })
    rw [hx,hn,show (m.cs.getD k (0,0)).2 = r.nx.getD (r.ad.idxOf (m.st.getD nd.ai 0)) 0 by rw [List.getD_eq_getElem?_getD,List.getElem?_eq_getElem hk,Option.getD_some,hk3]]
    have hm : MR { m with st:=m.st.set nd.v (r.nx.getD (r.ad.idxOf (m.st.getD nd.ai 0)) 0) } { r with st:=r.st.set nd.v (r.nx.getD (r.ad.idxOf (m.st.getD nd.ai 0)) 0) }:=⟨h.nd,h.wh,by show m.st.set nd.v _ = r.st.set nd.v _; rw [h.st],h.cs⟩
    exact hm.en hw0 he1
   | none =>
    rw [if_neg (h.cs.lost hf)]
    exact ⟨bad _,rfl⟩
  ·
   have e : rsP ns i r c = some { (toM ns i r).1 with nd:=if (toM ns i r).2 then r.nd + 1 else r.nd }:=by unfold rsP; rw [h1]; simp only [eqW,nilW_l,copyW_l,newW_l,testW_lR,goW_lR,loadW_l,storeW_l]; rfl
   have e2 : toM ns i r = if r.ad.idxOf (m.st.getD nd.v 0) < r.ad.length then ({ r with nx:=r.nx.set (r.ad.idxOf (m.st.getD nd.v 0)) (tmV m.st nd.ak nd.ai) },true) else ({ r with wh:=if m.st.getD nd.v 0 = 0 then 3 else 4 },false):=by
    unfold toM
    rw [h1,show eqW storeW loadW = false by simp [eqW,storeW_l,loadW_l],show eqW storeW storeW = true by simp [eqW]]
    simp only [Bool.false_eq_true,if_false,if_true]
    rw [hV.val h3,hV.tm h4,h.st]
   rw [e,if_neg (by omega),if_neg (by omega),if_neg (by omega),if_pos h2,e2]
   cases hf : fdA m.cs (m.st.getD nd.v 0) with
   | some k =>
    obtain ⟨hk,hk2,hk3⟩:=h.cs.found hf
    rw [if_pos hk2]
    refine ⟨?_,rfl⟩
    show MR (enS nds _ nd.nx) (seM cl { r with nx:=_,nd:=r.nd + 1 })
    rw [hx,hn]
    have hm : MR { m with cs:=lkS m.cs k (tmV m.st nd.ak nd.ai) } { r with nx:=r.nx.set (r.ad.idxOf (m.st.getD nd.v 0)) (tmV m.st nd.ak nd.ai) }:=⟨h.nd,h.wh,h.st,h.cs.link hf _⟩
    exact hm.en hw0 he1
   | none =>
    rw [if_neg (h.cs.lost hf)]
    exact ⟨bad _,rfl⟩
  ·
   have e : rsP ns i r c = some { (toM ns i r).1 with nd:=if (toM ns i r).2 then r.nd + 1 else r.nd }:=by unfold rsP; rw [h1]; simp only [eqW,nilW_l,copyW_l,newW_l,testW_lR,goW_lR,loadW_l,storeW_l,freeW_l]; rfl
   have e2 : toM ns i r = if r.ad.idxOf (m.st.getD nd.v 0) < r.ad.length then ({ r with ad:=r.ad.eraseIdx (r.ad.idxOf (m.st.getD nd.v 0)),nx:=r.nx.eraseIdx (r.ad.idxOf (m.st.getD nd.v 0)) },true) else ({ r with wh:=if m.st.getD nd.v 0 = 0 then 3 else 4 },false):=by
    unfold toM
    rw [h1,show eqW freeW loadW = false by simp [eqW,freeW_l,loadW_l],show eqW freeW storeW = false by simp [eqW,freeW_l,storeW_l]]
    simp only [Bool.false_eq_true,if_false]
    rw [hV.val h3,h.st]
   rw [e,if_neg (by omega),if_neg (by omega),if_neg (by omega),if_neg (by omega),if_pos h2,e2]
   cases hf : fdA m.cs (m.st.getD nd.v 0) with
   | some k =>
    obtain ⟨hk,hk2,hk3⟩:=h.cs.found hf
    rw [if_pos hk2]
    refine ⟨?_,rfl⟩
    show MR (enS nds _ nd.nx) (seM cl { r with ad:=_,nx:=_,nd:=r.nd + 1 })
    rw [hx,hn]
    have hm : MR { m with cs:=rmS m.cs k } { r with ad:=r.ad.eraseIdx (r.ad.idxOf (m.st.getD nd.v 0)),nx:=r.nx.eraseIdx (r.ad.idxOf (m.st.getD nd.v 0)) }:=⟨h.nd,h.wh,h.st,h.cs.rm hf⟩
    exact hm.en hw0 he1
   | none =>
    rw [if_neg (h.cs.lost hf)]
    exact ⟨bad _,rfl⟩
  ·
   have e : rsP ns i r c = some { r with nd:=r.nd + 1 }:=by unfold rsP; rw [h1]; simp only [eqW,nilW_l,copyW_l,newW_l,testW_lR,goW_lR,loadW_l,storeW_l,freeW_l,skipW_l]; rfl
   rw [e,if_neg (by omega),if_neg (by omega),if_neg (by omega),if_neg (by omega),if_neg (by omega),if_neg (by omega),if_neg (by omega),if_neg (by omega),if_pos (Or.inl h2),hx,hn]
   exact ⟨h.en hw0 he1,rfl⟩
 ·have e : rsP ns i r c = some { r with nd:=if (if eqW i.cond starW then c.tmod 2 != 0 else ((vlR ns r.st i.x == vlR ns r.st i.y) == eqW i.cond eqSW)) then r.nd + 1 else i.to }:=by unfold rsP; rw [ht]; simp only [eqW,nilW_l,copyW_l,newW_l,testW_lR]; rfl
  rw [e]
  rcases hT with ⟨hc,h2⟩ | ⟨hc,h2,h3,h4⟩ | ⟨hc,h2,h3,h4⟩
  ·rw [if_neg (by omega),if_neg (by omega),if_neg (by omega),if_neg (by omega),if_neg (by omega),if_pos h2,hc,show eqW starW starW = true by simp [eqW],if_pos rfl]
   unfold mbM
   rw [hx,hn,ho]
   exact ⟨h.en hw0 (he _),rfl⟩
  ·rw [if_neg (by omega),if_neg (by omega),if_neg (by omega),if_neg (by omega),if_neg (by omega),if_neg (by omega),if_pos h2,hc,show eqW eqSW starW = false by simp [eqW,eqSW_l,starW_l],show eqW eqSW eqSW = true by simp [eqW]]
   simp only [Bool.false_eq_true,if_false]
   rw [hV.val h3,hV.tm h4,h.st,show ∀ b : Bool,(b == true) = b by decide]
   unfold mbM
   rw [hx,hn,ho]
   exact ⟨h.en hw0 (he _),rfl⟩
  ·rw [if_neg (by omega),if_neg (by omega),if_neg (by omega),if_neg (by omega),if_neg (by omega),if_neg (by omega),if_neg (by omega),if_pos h2,hc,show eqW neSW starW = false by simp [eqW,neSW_l,starW_l],show eqW neSW eqSW = false by simp [eqW,neSW_l,eqSW_l]]
   simp only [Bool.false_eq_true,if_false]
   rw [hV.val h3,hV.tm h4,h.st,show ∀ b : Bool,(b == false) = !b by decide]
   unfold mbM
   rw [hx,hn,ho]
   exact ⟨h.en hw0 (he _),rfl⟩
 ·have e : rsP ns i r c = some { r with nd:=i.to }:=by unfold rsP; rw [hg]; simp only [eqW,nilW_l,copyW_l,newW_l,testW_lR,goW_lR]; rfl
  rw [e,if_neg (by omega),if_neg (by omega),if_neg (by omega),if_neg (by omega),if_neg (by omega),if_neg (by omega),if_neg (by omega),if_neg (by omega),if_pos (Or.inr hg2),hx]
  exact ⟨h.en hw0 he2,rfl⟩
end
theorem hold_iff {ad nx : List Int} (hd : ad.Nodup) {ns : List ByteArray} {vs : List Int} (hl : ns.length = vs.length) {f : List RAt} (hn : NmOK f) :
  hold ad nx ns vs f = true ↔ ∃ s,Agr s ns vs ∧ Pur s (f.filter (fun a=>!plB a)) ∧ Sp ad nx s (f.filter plB) (List.replicate ad.length true) :=
 cel_iff hd (fun a ha=>hn a (List.mem_filter.1 ha).1) _ _ rfl ns vs _ hl (by simp)
theorem name_ne_em {x : ByteArray} (h : nameB x = true) : x ≠ em:=by
 rintro rfl
 rw [show nameB em = false by simp [nameB,lowB,upB,eqW,em,nilW,ByteArray.toList_eq]] at h
 cases h
theorem raA_names {p : List ByteArray} (h : raB p = true) (he : raE p = false) : (raA p).a ≠ em ∧ (raA p).b ≠ em:=by
 match p,h,he with
 | [a,b,c],h,_ =>
  simp only [raB,Bool.and_eq_true] at h
  exact ⟨name_ne_em h.1.1,name_ne_em h.1.2⟩
 | [a,b,c,d,e,f],h,_ =>
  simp only [raB,Bool.and_eq_true] at h
  exact ⟨name_ne_em h.2.1,name_ne_em h.2.2⟩
theorem rfo_names : ∀ {r cur : List ByteArray} {al : List RAt},rfo cur r = some al → NmOK al:=by
 intro r
 have hpce : ∀ cur : List ByteArray,raB cur = true → NmOK (pce cur):=by
  intro cur hc
  unfold pce
  cases he : raE cur with
  | true=>intro a ha; simp at ha
  | false =>
   intro a ha
   simp at ha
   subst ha
   exact raA_names hc he
 induction r with
 | nil =>
  intro cur al h
  by_cases h1 : raB cur = true
  ·simp only [rfo,if_pos h1] at h
   cases h
   exact hpce cur h1
  ·simp only [rfo,if_neg h1] at h; cases h
 | cons x r ih =>
  intro cur al h
  simp only [rfo] at h
  by_cases h1 : eqW x starW = true
  ·rw [if_pos h1] at h
   by_cases h2 : raB cur = true
   ·rw [if_pos h2] at h
    obtain ⟨b,hb,rfl⟩:=Option.map_eq_some_iff.1 h
    intro a ha
    rcases List.mem_append.1 ha with ha | ha
    ·exact hpce cur h2 a ha
    ·exact ih hb a ha
   ·rw [if_neg h2] at h; cases h
  ·rw [if_neg h1] at h
   exact ih h
def tnm (vars hid : List UInt8) (k i : Nat) : ByteArray:=if k = 1 then one1 (vars.getD i 0) else if k = 2 then one1 (hid.getD i 0) else nilW
def kwd (k : Nat) : ByteArray:=if k = 1 then eqSW else if k = 2 then neSW else if k = 3 then toW else lsW
def nmA (vars hid : List UInt8) (a : Atm) : RAt:=⟨kwd a.k,tnm vars hid a.lk a.li,tnm vars hid a.rk a.ri⟩
def Bnd (vars hid : List UInt8) (k i : Nat) : Prop:=k ≤ 2 ∧ (k = 1 → i < vars.length) ∧ (k = 2 → i < hid.length)
def Gro (s s' : PS) : Prop:=s.vars <+: s'.vars ∧ s.hid <+: s'.hid
theorem Gro.refl (s : PS) : Gro s s:=⟨List.prefix_refl _,List.prefix_refl _⟩
theorem Gro.trans {a b c : PS} (h : Gro a b) (h2 : Gro b c) : Gro a c:=⟨h.1.trans h2.1,h.2.trans h2.2⟩
theorem pre_get {l l' : List UInt8} (h : l <+: l') {i : Nat} (hi : i < l.length) : l'.getD i 0 = l.getD i 0:=by
 obtain ⟨t,rfl⟩:=h
 simp only [List.getD_eq_getElem?_getD]
 rw [List.getElem?_append_left hi]
theorem tnm_gro {s s' : PS} (h : Gro s s') {k i : Nat} (hb : Bnd s.vars s.hid k i) : tnm s'.vars s'.hid k i = tnm s.vars s.hid k i:=by
 unfold tnm
 by_cases h1 : k = 1
 ·rw [if_pos h1,if_pos h1,pre_get h.1 (hb.2.1 h1)]
 ·rw [if_neg h1,if_neg h1]
  by_cases h2 : k = 2
  ·rw [if_pos h2,if_pos h2,pre_get h.2 (hb.2.2 h2)]
  ·rw [if_neg h2,if_neg h2]
theorem Bnd.gro {s s' : PS} (h : Gro s s') {k i : Nat} (hb : Bnd s.vars s.hid k i) : Bnd s'.vars s'.hid k i :=
 ⟨hb.1,fun h1=>Nat.lt_of_lt_of_le (hb.2.1 h1) h.1.length_le,fun h1=>Nat.lt_of_lt_of_le (hb.2.2 h1) h.2.length_le⟩
theorem put_pre (l : List UInt8) (c : UInt8) : l <+: put l c:=by
 unfold put; split
 ·exact List.prefix_append _ _
 ·exact List.prefix_refl _
theorem plc_get {l : List UInt8} {c : UInt8} (h : plc l c < l.length) : l.getD (plc l c) 0 = c:=by
 induction l with
 | nil=>simp at h
 | cons a l ih =>
  have e : plc (a :: l) c = if a = c then 0 else plc l c + 1:=rfl
  rw [e] at h ⊢
  by_cases hc : a = c
  ·rw [if_pos hc]; simpa using hc
  ·rw [if_neg hc] at h ⊢
   simpa using ih (by simpa using h)
theorem put_get (l : List UInt8) (c : UInt8) : plc l c < (put l c).length ∧ (put l c).getD (plc l c) 0 = c:=by
 have h1:=plc_le l c
 unfold put
 by_cases h : plc l c = l.length
 ·rw [if_pos h,h]
  simp
 ·rw [if_neg h]
  exact ⟨by omega,plc_get (by omega)⟩
theorem gro_ex (ws : List ByteArray) (k : ByteArray) (s : PS) : Gro s (exS ws k s):=by unfold exS; split <;> exact Gro.refl s
theorem gro_va (ws : List ByteArray) (s : PS) : Gro s (vaS ws s):=by
 unfold vaS; split
 ·exact ⟨put_pre _ _,List.prefix_refl _⟩
 ·exact Gro.refl s
theorem gro_val (ws : List ByteArray) (s : PS) : Gro s (valS ws s):=by
 unfold valS; split
 ·exact Gro.refl s
 ·exact gro_va ws s
theorem gro_te (ws : List ByteArray) (s : PS) : Gro s (teS ws s):=by
 unfold teS; split
 ·exact ⟨List.prefix_refl _,put_pre _ _⟩
 ·exact gro_val ws s
theorem gro_rel (ws : List ByteArray) (s : PS) : Gro s (relS ws s):=by
 unfold relS; split
 ·exact Gro.refl s
 ·split
  ·exact Gro.refl s
  ·exact gro_ex ws _ s
theorem gro_li (ws : List ByteArray) (s : PS) : Gro s (liS ws s) :=
 (gro_ex ws _ s).trans ((gro_te ws _).trans ((gro_ex ws _ _).trans ((gro_te ws _).trans (gro_ex ws _ _))))
theorem gro_at (ws : List ByteArray) (s : PS) : Gro s (atS ws s):=by
 unfold atS; split
 ·exact Gro.refl s
 ·split
  ·exact gro_li ws s.adv
  ·exact (gro_te ws s).trans ((gro_rel ws _).trans (gro_te ws _))
theorem gro_foG (ws : List ByteArray) (n : Nat) : ∀ s,Gro s (foG ws n s).2:=by
 induction n with
 | zero=>intro s; exact Gro.refl s
 | succ n ih =>
  intro s
  simp only [foG]
  split
  ·exact (gro_at ws s.adv).trans (ih _)
  ·exact Gro.refl s
theorem te_nm {ws : List ByteArray} {s : PS} {x : ByteArray} {r : List ByteArray} (h : Rd ws s (x :: r)) (hx : nameB x = true) :
  tnm (teS ws s).vars (teS ws s).hid (teK ws s) (teI ws s) = x ∧ Bnd (teS ws s).vars (teS ws s).hid (teK ws s) (teI ws s) ∧ Rd ws (teS ws s) r:=by
 have hrd : Rd ws (teS ws s) r:=by
  have:=par_te.ok s _ h
  rw [pTe_some.2 ⟨x,hx,rfl⟩] at this
  exact this
 have hpk:=pk_rd h
 have hac : acB ws kNil s = eqW x kNil:=acB_rd kNil_n h
 by_cases hu : upB x = true
 ·have hK : teK ws s = 2:=by unfold teK; rw [hpk,if_pos hu]
  have hI : teI ws s = plc s.hid (hd0 x):=by unfold teI; rw [hpk,if_pos hu]
  have hS : (teS ws s).hid = put s.hid (hd0 x):=by unfold teS; rw [hpk,if_pos hu]
  have hp:=put_get s.hid (hd0 x)
  refine ⟨?_,?_,hrd⟩
  ·rw [hK,hI,hS]
   unfold tnm
   rw [if_neg (by decide),if_pos rfl,hp.2]
   exact (up_one hu).symm
  ·rw [hK,hI,hS]
   exact ⟨by omega,fun h=>by omega,fun _=>hp.1⟩
 ·have hK : teK ws s = valK ws s:=by unfold teK; rw [hpk,if_neg hu]
  have hI : teI ws s = valI ws s:=by unfold teI; rw [hpk,if_neg hu]
  have hS : teS ws s = valS ws s:=by unfold teS; rw [hpk,if_neg hu]
  by_cases hn : eqW x kNil = true
  ·have hK2 : valK ws s = 0:=by unfold valK; rw [hac,if_pos hn]
   have hI2 : valI ws s = 0:=by unfold valI; rw [hac,if_pos hn]
   refine ⟨?_,?_,hrd⟩
   ·rw [hK,hI,hK2,hI2]
    unfold tnm
    rw [if_neg (by decide),if_neg (by decide)]
    exact (eqW_iff.1 hn).symm
   ·rw [hK,hI,hK2,hI2]
    exact ⟨by omega,fun h=>by omega,fun h=>by omega⟩
  ·have hl : lowB x = true:=by
    simp only [nameB,Bool.or_eq_true] at hx
    rcases hx with (hx | hx) | hx
    ·exact absurd hx hn
    ·exact hx
    ·exact absurd hx hu
   have hK2 : valK ws s = 1:=by unfold valK; rw [hac,if_neg hn]
   have hI2 : valI ws s = plc s.vars (hd0 x):=by unfold valI; rw [hac,if_neg hn]; unfold vaI; rw [hpk,if_pos hl]
   have hS2 : (teS ws s).vars = put s.vars (hd0 x):=by rw [hS]; unfold valS; rw [hac,if_neg hn]; unfold vaS; rw [hpk,if_pos hl]
   have hp:=put_get s.vars (hd0 x)
   refine ⟨?_,?_,hrd⟩
   ·rw [hK,hI,hK2,hI2,hS2]
    unfold tnm
    rw [if_pos rfl,hp.2]
    exact (low_one hl).symm
   ·rw [hK,hI,hK2,hI2,hS2]
    exact ⟨by omega,fun _=>hp.1,fun h=>by omega⟩
theorem rel_nm {ws : List ByteArray} {s : PS} {x : ByteArray} {r : List ByteArray} (h : Rd ws s (x :: r)) (hx : (eqW x eqSW || eqW x neSW || eqW x toW) = true) :
  kwd (relK ws s) = x ∧ (1 ≤ relK ws s ∧ relK ws s ≤ 3) ∧ Rd ws (relS ws s) r:=by
 have hrd : Rd ws (relS ws s) r:=by
  have:=par_rel.ok s _ h
  rw [pRel_some.2 ⟨x,hx,rfl⟩] at this
  exact this
 have h1 : acB ws kEq s = eqW x kEq:=acB_rd kEq_n h
 have h2 : acB ws kNe s = eqW x kNe:=acB_rd kNe_n h
 by_cases e1 : eqW x kEq = true
 ·have : relK ws s = 1:=by unfold relK; rw [h1,if_pos e1]
  rw [this]
  exact ⟨(eqW_iff.1 e1).symm,by omega,hrd⟩
 ·by_cases e2 : eqW x kNe = true
  ·have : relK ws s = 2:=by unfold relK; rw [h1,if_neg e1,h2,if_pos e2]
   rw [this]
   exact ⟨(eqW_iff.1 e2).symm,by omega,hrd⟩
  ·have : relK ws s = 3:=by unfold relK; rw [h1,if_neg e1,h2,if_neg e2]
   rw [this]
   simp only [Bool.or_eq_true] at hx
   rcases hx with (hx | hx) | hx
   ·exact absurd hx e1
   ·exact absurd hx e2
   ·exact ⟨(eqW_iff.1 hx).symm,by omega,hrd⟩
theorem ex_rd {ws : List ByteArray} {s : PS} {k : ByteArray} {r : List ByteArray} (hk : k.toList ≠ []) (h : Rd ws s (k :: r)) : Rd ws (exS ws k s) r:=by
 have:=(par_ex (ws:=ws) hk).ok s _ h
 rw [pEx_self] at this
 exact this
def AtOK (vars hid : List UInt8) (a : Atm) : Prop:=a.k ≤ 4 ∧ Bnd vars hid a.lk a.li ∧ Bnd vars hid a.rk a.ri
def nmL (vars hid : List UInt8) (l : List Atm) : List RAt:=(l.filter (fun a=>a.k != 0)).map (nmA vars hid)
theorem at_nm {ws : List ByteArray} {s : PS} {p q : List ByteArray} (h : Rd ws s (p ++ q)) (hp : raB p = true) :
  pce p = nmL (atS ws s).vars (atS ws s).hid [atA ws s] ∧ AtOK (atS ws s).vars (atS ws s).hid (atA ws s) ∧ Rd ws (atS ws s) q:=by
 have hrd : Rd ws (atS ws s) q:=by
  have:=par_atom.ok s _ h
  rw [pAtom_some.2 ⟨p,hp,rfl⟩] at this
  exact this
 match p,hp with
 | [a],hp =>
  have ea : a = empW:=eqW_iff.1 (show eqW a empW = true from hp)
  subst ea
  have hac : acB ws kEmp s = true:=by
   rw [acB_rd kEmp_n h]; exact eqW_rfl _
  have hA : atA ws s = ⟨0,0,0,0,0⟩:=by unfold atA; rw [if_pos hac]
  rw [hA]
  exact ⟨rfl,⟨by show 0 ≤ 4; omega,⟨by show 0 ≤ 2; omega,fun h=>(by cases h),fun h=>(by cases h)⟩,⟨by show 0 ≤ 2; omega,fun h=>(by cases h),fun h=>(by cases h)⟩⟩,hrd⟩
 | [a,b,c],hp =>
  simp only [raB,Bool.and_eq_true] at hp
  obtain ⟨⟨ha,hc⟩,hb⟩:=hp
  have h' : Rd ws s (a :: b :: c :: q):=h
  have hne : acB ws kEmp s = false:=by
   rw [acB_rd kEmp_n h']; exact eqW_ne (name_out ha (data_ne (by simp [kEmp,nilW])) rfl rfl)
  have hnl : acB ws kLs s = false:=by
   rw [acB_rd kLs_n h']; exact eqW_ne (name_out ha (data_ne (by simp [kLs,nilW])) rfl rfl)
  obtain ⟨t1,t2,t3⟩:=te_nm h' ha
  obtain ⟨r1,r2,r3⟩:=rel_nm t3 hb
  obtain ⟨u1,u2,u3⟩:=te_nm r3 hc
  have hA : atA ws s = ⟨relK ws (teS ws s),teK ws s,teI ws s,teK ws (relS ws (teS ws s)),teI ws (relS ws (teS ws s))⟩:=by
   unfold atA; rw [if_neg (by rw [hne]; simp),if_neg (by rw [hnl]; simp)]
  have hS : atS ws s = teS ws (relS ws (teS ws s)):=by
   unfold atS; rw [if_neg (by rw [hne]; simp),if_neg (by rw [hnl]; simp)]
  have hg : Gro (teS ws s) (teS ws (relS ws (teS ws s))):=(gro_rel ws _).trans (gro_te ws _)
  refine ⟨?_,?_,hrd⟩
  ·rw [hA,hS]
   have hk : ((relK ws (teS ws s)) != 0) = true:=by rw [bne_iff_ne]; omega
   simp only [nmL,List.filter_cons,hk,if_true,List.filter_nil,List.map_cons,List.map_nil]
   show [(⟨b,a,c⟩ : RAt)] = [⟨_,_,_⟩]
   rw [r1,tnm_gro hg t2,t1,u1]
  ·rw [hA,hS]
   exact ⟨by show relK ws (teS ws s) ≤ 4; omega,t2.gro hg,u2⟩
 | [a,b,c,d,e,f],hp =>
  simp only [raB,Bool.and_eq_true,eqW_iff] at hp
  obtain ⟨⟨⟨⟨rfl,rfl⟩,rfl⟩,rfl⟩,hc,he⟩:=hp
  have h' : Rd ws s (lsW :: opW :: c :: cmW :: e :: clW :: q):=h
  have hne : acB ws kEmp s = false:=by
   rw [acB_rd kEmp_n h']; exact eqW_ne (data_ne (by simp [kEmp,lsW]))
  have hnl : acB ws kLs s = true:=by
   rw [acB_rd kLs_n h']; exact eqW_rfl _
  have h1:=adv_rd h'
  have h2 : Rd ws (liS1 ws s.adv) (c :: cmW :: e :: clW :: q):=ex_rd kOpen_n h1
  obtain ⟨t1,t2,t3⟩:=te_nm h2 hc
  have h3 : Rd ws (liS2 ws s.adv) (e :: clW :: q):=ex_rd kComma_n t3
  obtain ⟨u1,u2,u3⟩:=te_nm h3 he
  have hA : atA ws s = liA ws s.adv:=by unfold atA; rw [if_neg (by rw [hne]; simp),if_pos hnl]
  have hS : atS ws s = liS ws s.adv:=by unfold atS; rw [if_neg (by rw [hne]; simp),if_pos hnl]
  have hg2 : Gro (teS ws (liS2 ws s.adv)) (liS ws s.adv):=gro_ex ws _ _
  have hg : Gro (teS ws (liS1 ws s.adv)) (liS ws s.adv):=(gro_ex ws kComma _).trans ((gro_te ws _).trans hg2)
  refine ⟨?_,?_,hrd⟩
  ·rw [hA,hS]
   show [(⟨lsW,c,e⟩ : RAt)] = [⟨kwd 4,tnm _ _ (teK ws (liS1 ws s.adv)) (teI ws (liS1 ws s.adv)),tnm _ _ (teK ws (liS2 ws s.adv)) (teI ws (liS2 ws s.adv))⟩]
   rw [tnm_gro hg t2,t1,tnm_gro hg2 u2,u1]
   rfl
  ·rw [hA,hS]
   exact ⟨Nat.le_refl 4,t2.gro hg,u2.gro hg2⟩
theorem nmL_app (vars hid : List UInt8) (a b : List Atm) : nmL vars hid (a ++ b) = nmL vars hid a ++ nmL vars hid b:=by simp [nmL]
theorem nmL_gro {s s' : PS} (h : Gro s s') {l : List Atm} (hl : ∀ a ∈ l,AtOK s.vars s.hid a) : nmL s'.vars s'.hid l = nmL s.vars s.hid l:=by
 unfold nmL
 apply List.map_congr_left
 intro a ha
 have:=hl a (List.mem_filter.1 ha).1
 unfold nmA
 rw [tnm_gro h this.2.1,tnm_gro h this.2.2]
theorem AtOK.gro {s s' : PS} (h : Gro s s') {a : Atm} (ha : AtOK s.vars s.hid a) : AtOK s'.vars s'.hid a:=⟨ha.1,ha.2.1.gro h,ha.2.2.gro h⟩
theorem fo_nm {ws : List ByteArray} {f : List ByteArray} (hf : Fm f) : ∀ {n : Nat} {s : PS} {q : List ByteArray},Rd ws s (f ++ q) → f.length ≤ n → hdB starW q = false →
  ∃ al,rfo [] f = some al ∧ al = nmL (foG ws n (atS ws s)).2.vars (foG ws n (atS ws s)).2.hid (atA ws s :: (foG ws n (atS ws s)).1) ∧ ∀ a ∈ atA ws s :: (foG ws n (atS ws s)).1,AtOK (foG ws n (atS ws s)).2.vars (foG ws n (atS ws s)).2.hid a:=by
 induction hf using Fm.ind with
 | @one p hp =>
  intro n s q h hn hq
  obtain ⟨h1,h2,h3⟩:=at_nm h hp
  have e : foG ws n (atS ws s) = ([],atS ws s):=by
   cases n with
   | zero=>rfl
   | succ n=>simp only [foG]; rw [acB_rd kStar_n h3,show hdB kStar q = false from hq,if_neg (by simp)]
  rw [e]
  refine ⟨pce p,?_,h1,fun a ha=>?_⟩
  ·have:=rfo_run (atom_star hp) [] []
   rw [List.append_nil] at this
   rw [this]
   simp only [rfo,List.nil_append,if_pos hp]
  ·simp only [List.mem_singleton] at ha
   subst ha; exact h2
 | @more p r hp _ ih =>
  intro n s q h hn hq
  rw [List.append_assoc] at h
  obtain ⟨h1,h2,h3⟩:=at_nm h hp
  have h3' : Rd ws (atS ws s) (starW :: (r ++ q)):=h3
  simp only [List.length_append,List.length_cons] at hn
  cases n with
  | zero=>omega
  | succ n =>
   have e : foG ws (n + 1) (atS ws s) = (atA ws (atS ws s).adv :: (foG ws n (atS ws (atS ws s).adv)).1,(foG ws n (atS ws (atS ws s).adv)).2):=by
    simp only [foG]; rw [acB_rd kStar_n h3',show hdB kStar (starW :: (r ++ q)) = true from eqW_rfl _,if_pos rfl]
   obtain ⟨al,g1,g2,g3⟩:=ih (n:=n) (adv_rd h3') (by omega) hq
   rw [e]
   have hg : Gro (atS ws s) (foG ws n (atS ws (atS ws s).adv)).2:=(gro_at ws (atS ws s).adv).trans (gro_foG ws n _)
   refine ⟨pce p ++ al,?_,?_,fun a ha=>?_⟩
   ·rw [rfo_run (atom_star hp)]
    simp only [rfo,List.nil_append,eqW_rfl,if_true,if_pos hp,g1]
    rfl
   ·rw [show atA ws s :: (atA ws (atS ws s).adv :: (foG ws n (atS ws (atS ws s).adv)).1) = [atA ws s] ++ (atA ws (atS ws s).adv :: (foG ws n (atS ws (atS ws s).adv)).1) from rfl,nmL_app,← g2,h1]
    rw [nmL_gro hg (fun a ha=>by simp only [List.mem_singleton] at ha; subst ha; exact h2)]
   ·rcases List.mem_cons.1 ha with rfl | ha
    ·exact h2.gro hg
    ·exact g3 a ha
structure Ltr (s : PS) : Prop where
 nv : s.vars.Nodup
 nh : s.hid.Nodup
 lv : ∀ c ∈ s.vars,lowB (one1 c) = true
 lh : ∀ c ∈ s.hid,upB (one1 c) = true
theorem plc_mem {l : List UInt8} {c : UInt8} (h : c ∈ l) : plc l c < l.length:=by
 induction l with
 | nil=>cases h
 | cons a l ih =>
  show (if a = c then 0 else plc l c + 1) < _
  by_cases e : a = c
  ·rw [if_pos e]; simp
  ·rw [if_neg e]
   rcases List.mem_cons.1 h with h | h
   ·exact absurd h.symm e
   ·have:=ih h; simp; omega
theorem put_mem {l : List UInt8} {c x : UInt8} (h : x ∈ put l c) : x ∈ l ∨ x = c:=by
 unfold put at h
 split at h
 ·rcases List.mem_append.1 h with h | h
  ·exact Or.inl h
  ·exact Or.inr (by simpa using h)
 ·exact Or.inl h
theorem put_nodup {l : List UInt8} {c : UInt8} (h : l.Nodup) : (put l c).Nodup:=by
 unfold put
 split
 ·rename_i he
  rw [List.nodup_append]
  refine ⟨h,by simp,fun a ha b hb=>?_⟩
  simp only [List.mem_singleton] at hb
  subst hb
  rintro rfl
  have:=plc_mem ha
  omega
 ·exact h
theorem plc_idx {l : List UInt8} (h : l.Nodup) {i : Nat} (hi : i < l.length) : plc l (l.getD i 0) = i:=by
 induction l generalizing i with
 | nil=>simp at hi
 | cons a l ih =>
  have hn:=List.nodup_cons.1 h
  cases i with
  | zero=>show (if a = a then 0 else _) = 0; rw [if_pos rfl]
  | succ i =>
   have hi' : i < l.length:=by simpa using hi
   show (if a = l.getD i 0 then 0 else plc l (l.getD i 0) + 1) = i + 1
   rw [if_neg,ih hn.2 hi']
   rintro rfl
   apply hn.1
   have : l.getD i 0 = l[i]:=by simp [hi']
   rw [this]; exact List.getElem_mem hi'
theorem ltr_ex {ws : List ByteArray} {k : ByteArray} {s : PS} (h : Ltr s) : Ltr (exS ws k s):=by unfold exS; split <;> exact ⟨h.nv,h.nh,h.lv,h.lh⟩
theorem ltr_va {ws : List ByteArray} {s : PS} (h : Ltr s) : Ltr (vaS ws s):=by
 unfold vaS; split
 ·rename_i hl
  refine ⟨put_nodup h.nv,h.nh,fun c hc=>?_,h.lh⟩
  rcases put_mem hc with hc | rfl
  ·exact h.lv c hc
  ·rw [← low_one hl]; exact hl
 ·exact ⟨h.nv,h.nh,h.lv,h.lh⟩
theorem ltr_val {ws : List ByteArray} {s : PS} (h : Ltr s) : Ltr (valS ws s):=by
 unfold valS; split
 ·exact ⟨h.nv,h.nh,h.lv,h.lh⟩
 ·exact ltr_va h
theorem ltr_te {ws : List ByteArray} {s : PS} (h : Ltr s) : Ltr (teS ws s):=by
 unfold teS; split
 ·rename_i hl
  refine ⟨h.nv,put_nodup h.nh,h.lv,fun c hc=>?_⟩
  rcases put_mem hc with hc | rfl
  ·exact h.lh c hc
  ·rw [← up_one hl]; exact hl
 ·exact ltr_val h
theorem ltr_rel {ws : List ByteArray} {s : PS} (h : Ltr s) : Ltr (relS ws s):=by
 unfold relS; split
 ·exact ⟨h.nv,h.nh,h.lv,h.lh⟩
 ·split
  ·exact ⟨h.nv,h.nh,h.lv,h.lh⟩
  ·exact ltr_ex h
theorem ltr_at {ws : List ByteArray} {s : PS} (h : Ltr s) : Ltr (atS ws s):=by
 unfold atS; split
 ·exact ⟨h.nv,h.nh,h.lv,h.lh⟩
 ·split
  ·have h1 : Ltr s.adv:=⟨h.nv,h.nh,h.lv,h.lh⟩
   exact ltr_ex (ltr_te (ltr_ex (ltr_te (ltr_ex h1))))
  ·exact ltr_te (ltr_rel (ltr_te h))
theorem ltr_foG {ws : List ByteArray} (n : Nat) : ∀ {s : PS},Ltr s → Ltr (foG ws n s).2:=by
 induction n with
 | zero=>intro s h; exact h
 | succ n ih =>
  intro s h
  simp only [foG]
  split
  ·exact ih (ltr_at ⟨h.nv,h.nh,h.lv,h.lh⟩)
  ·exact h
theorem ltr_fo {ws : List ByteArray} {s : PS} (h : Ltr s) : Ltr (foS ws s):=ltr_foG _ (ltr_at h)
def nmT (vars hid : List UInt8) (t : Nat) : ByteArray:=if t = 0 then nilW else if t < 5 then one1 (vars.getD (t - 1) 0) else one1 (hid.getD (t - 5) 0)
theorem nmT_of {vars hid : List UInt8} (hv : vars.length ≤ 4) {k i : Nat} (hb : Bnd vars hid k i) : nmT vars hid (tNo k i) = tnm vars hid k i:=by
 unfold nmT tnm tNo
 by_cases h1 : k = 1
 ·have:=hb.2.1 h1
  rw [if_pos h1,if_pos h1,if_neg (by omega),if_pos (by omega)]
  rw [show 1 + i - 1 = i by omega]
 ·rw [if_neg h1,if_neg h1]
  by_cases h2 : k = 2
  ·rw [if_pos h2,if_pos h2,if_neg (by omega),if_neg (by omega)]
   rw [show 5 + i - 5 = i by omega]
  ·rw [if_neg h2,if_neg h2,if_pos rfl]
theorem tNo_lt {vars hid : List UInt8} (hv : vars.length ≤ 4) (hh : hid.length ≤ 8) {k i : Nat} (hb : Bnd vars hid k i) : tNo k i < 13:=by
 unfold tNo
 by_cases h1 : k = 1
 ·have:=hb.2.1 h1; rw [if_pos h1]; omega
 ·rw [if_neg h1]
  by_cases h2 : k = 2
  ·have:=hb.2.2 h2; rw [if_pos h2]; omega
  ·rw [if_neg h2]; omega
theorem tmOK_of {vars hid : List UInt8} (hv : vars.length ≤ 4) (hh : hid.length ≤ 8) {al : List Atm} (ha : ∀ a ∈ al,AtOK vars hid a) : TmOK al :=
 fun a h=>⟨tNo_lt hv hh (ha a h).2.1,tNo_lt hv hh (ha a h).2.2⟩
theorem to_eq : eqW toW eqSW = false:=eqW_ne (data_ne (by simp [toW,eqSW]))
theorem kwd_eq {k : Nat} (h : k ≤ 4) (h0 : k ≠ 0) : (eqW (kwd k) eqSW = true ↔ k = 1) ∧ (eqW (kwd k) toW = true ↔ k = 3) ∧ ((eqW (kwd k) toW || eqW (kwd k) lsW) = true ↔ (k = 3 ∨ k = 4)):=by
 have n1 : eqW neSW eqSW = false:=eqW_ne (data_ne (by simp [neSW,eqSW]))
 have n2 : eqW lsW eqSW = false:=eqW_ne (data_ne (by simp [lsW,eqSW]))
 have n3 : eqW eqSW toW = false:=eqW_ne (data_ne (by simp [toW,eqSW]))
 have n4 : eqW neSW toW = false:=eqW_ne (data_ne (by simp [toW,neSW]))
 have n5 : eqW lsW toW = false:=eqW_ne (data_ne (by simp [toW,lsW]))
 have n6 : eqW eqSW lsW = false:=eqW_ne (data_ne (by simp [lsW,eqSW]))
 have n7 : eqW neSW lsW = false:=eqW_ne (data_ne (by simp [lsW,neSW]))
 have n8 : eqW toW lsW = false:=eqW_ne (data_ne (by simp [lsW,toW]))
 have hk : k = 1 ∨ k = 2 ∨ k = 3 ∨ k = 4:=by omega
 rcases hk with rfl | rfl | rfl | rfl
 ·simp [kwd,eqW_rfl,n3,n6]
 ·simp [kwd,n1,n4,n7]
 ·simp [kwd,to_eq,eqW_rfl]
 ·simp [kwd,n2,n5,eqW_rfl]
theorem nmL_pl {vars hid : List UInt8} {al : List Atm} (ha : ∀ a ∈ al,AtOK vars hid a) : (nmL vars hid al).filter plB = (al.filter (fun a=>a.k == 3 || a.k == 4)).map (nmA vars hid):=by
 unfold nmL
 rw [List.filter_map,List.filter_filter]
 congr 1
 apply List.filter_congr
 intro a h
 by_cases h0 : a.k = 0
 ·simp [h0]
 ·have h1 : (a.k != 0) = true:=by rw [bne_iff_ne]; exact h0
  rw [h1,Bool.and_true]
  have:=(kwd_eq (ha a h).1 h0).2.2
  show (eqW (kwd a.k) toW || eqW (kwd a.k) lsW) = _
  rw [Bool.eq_iff_iff,this]
  simp
theorem sp_num {ad nx : List Int} {vars hid : List UInt8} (hv : vars.length ≤ 4) {σ : ByteArray → Int} {s : Nat → Int} : ∀ {L : List Atm} {fr : List Bool},(∀ a ∈ L,AtOK vars hid a ∧ (a.k = 3 ∨ a.k = 4) ∧ σ (nmT vars hid (tm a).l) = s (tm a).l ∧ σ (nmT vars hid (tm a).r) = s (tm a).r) → (Sp ad nx σ (L.map (nmA vars hid)) fr ↔ SpC ad nx s (L.map tm) fr):=by
 intro L
 induction L with
 | nil=>intro fr _; exact Iff.rfl
 | cons a L ih =>
  intro fr h
  obtain ⟨h1,h2,h3,h4⟩:=h a (by simp)
  have hk:=(kwd_eq h1.1 (by omega)).2.1
  have e1 : (nmA vars hid a).a = nmT vars hid (tm a).l:=(nmT_of hv h1.2.1).symm
  have e2 : (nmA vars hid a).b = nmT vars hid (tm a).r:=(nmT_of hv h1.2.2).symm
  have ihh:=fun fr=>ih (fr:=fr) (fun b hb=>h b (by simp [hb]))
  constructor
  ·rintro ⟨p,fr',g1,g2,g3,g4⟩
   rw [e1,e2,h3,h4] at g1
   exact ⟨p,fr',g1,g2,fun hne=>g3 (hk.2 (by rcases h2 with h | h; exact h; exact absurd h hne)),(ihh fr').1 g4⟩
  ·rintro ⟨p,fr',g1,g2,g3,g4⟩
   refine ⟨p,fr',by rw [e1,e2,h3,h4]; exact g1,g2,fun hto=>g3 ?_,(ihh fr').2 g4⟩
   have:=hk.1 hto
   show a.k ≠ 4
   omega
theorem evA_var {vars : List UInt8} (hn : vars.Nodup) {vs : List Int} {i : Nat} (hi : i < vars.length) (hlow : lowB (one1 (vars.getD i 0)) = true) : evA (vars.map one1) vs (one1 (vars.getD i 0)) = some (vs.getD i 0):=by
 unfold evA
 rw [if_neg (by rw [eqW_ne (low_ne hlow rfl)]; simp),fnd_plc,plc_idx hn hi,if_pos (by simpa using hi)]
theorem hold_at {ad nx : List Int} (hd : ad.Nodup) {s : PS} (hs : Ltr s) (hv : s.vars.length ≤ 4) {vs : List Int} (hl : vs.length = s.vars.length) {al : List Atm} (ha : ∀ a ∈ al,AtOK s.vars s.hid a) (hnm : NmOK (nmL s.vars s.hid al))
  (h : hold ad nx (s.vars.map one1) vs (nmL s.vars s.hid al) = true) : ∃ σ,AtH ad nx σ al ∧ ∀ i,i < s.vars.length → σ (1 + i) = vs.getD i 0:=by
 obtain ⟨σ,h1,h2,h3⟩:=(hold_iff hd (by simpa using hl.symm) hnm).1 h
 refine ⟨fun t=>σ (nmT s.vars s.hid t),⟨?_,fun a haa hk=>?_,fun a haa hk=>?_,?_⟩,fun i hi=>?_⟩
 ·show σ nilW = 0
  exact h1 _ _ (by unfold evA; rw [if_pos (eqW_rfl _)])
 ·have hA:=ha a haa
  have hm : nmA s.vars s.hid a ∈ (nmL s.vars s.hid al).filter (fun a=>!plB a):=by
   refine List.mem_filter.2 ⟨List.mem_map.2 ⟨a,List.mem_filter.2 ⟨haa,by simp [hk]⟩,rfl⟩,?_⟩
   have:=(kwd_eq hA.1 (by omega)).2.2
   have h5 : plB (nmA s.vars s.hid a) = false:=by
    cases hx : plB (nmA s.vars s.hid a) with
    | false=>rfl
    | true=>have:=this.1 hx; omega
   rw [h5]; rfl
  have:=(h2 _ hm).2 ((kwd_eq hA.1 (by omega)).1.2 hk)
  show σ (nmT _ _ (tNo a.lk a.li)) = σ (nmT _ _ (tNo a.rk a.ri))
  rw [nmT_of hv hA.2.1,nmT_of hv hA.2.2]
  exact this
 ·have hA:=ha a haa
  have hm : nmA s.vars s.hid a ∈ (nmL s.vars s.hid al).filter (fun a=>!plB a):=by
   refine List.mem_filter.2 ⟨List.mem_map.2 ⟨a,List.mem_filter.2 ⟨haa,by simp [hk]⟩,rfl⟩,?_⟩
   have:=(kwd_eq hA.1 (by omega)).2.2
   have h5 : plB (nmA s.vars s.hid a) = false:=by
    cases hx : plB (nmA s.vars s.hid a) with
    | false=>rfl
    | true=>have:=this.1 hx; omega
   rw [h5]; rfl
  show σ (nmT _ _ (tNo a.lk a.li)) ≠ σ (nmT _ _ (tNo a.rk a.ri))
  rw [nmT_of hv hA.2.1,nmT_of hv hA.2.2]
  intro e
  have:=(kwd_eq hA.1 (by omega)).1.1 ((h2 _ hm).1 e)
  omega
 ·rw [nmL_pl ha] at h3
  exact (sp_num hv (fun a haa=>⟨ha a (List.mem_filter.1 haa).1,by simpa using (List.mem_filter.1 haa).2,rfl,rfl⟩)).1 h3
 ·have hlow : lowB (one1 (s.vars.getD i 0)) = true:=hs.lv _ (by
   have : s.vars.getD i 0 = s.vars[i]:=by simp [hi]
   rw [this]; exact List.getElem_mem hi)
  show σ (nmT _ _ (1 + i)) = _
  unfold nmT
  rw [if_neg (by omega),if_pos (by omega),show 1 + i - 1 = i by omega]
  exact h1 _ _ (evA_var hs.nv hi hlow)
def sgm (s : PS) (vs : List Int) (f : Nat → Int) (n : ByteArray) : Int :=
 if eqW n nilW = true then 0 else if lowB n = true ∧ plc s.vars (hd0 n) < s.vars.length then f (1 + plc s.vars (hd0 n)) else if upB n = true ∧ plc s.hid (hd0 n) < s.hid.length then f (5 + plc s.hid (hd0 n)) else (evA (s.vars.map one1) vs n).getD 0
theorem sgm_nm {s : PS} (hs : Ltr s) {vs : List Int} {f : Nat → Int} (h0 : f 0 = 0) {k i : Nat} (hb : Bnd s.vars s.hid k i) : sgm s vs f (tnm s.vars s.hid k i) = f (tNo k i):=by
 unfold tnm tNo
 by_cases h1 : k = 1
 ·have hi:=hb.2.1 h1
  have hlow : lowB (one1 (s.vars.getD i 0)) = true:=hs.lv _ (by
   have : s.vars.getD i 0 = s.vars[i]:=by simp [hi]
   rw [this]; exact List.getElem_mem hi)
  rw [if_pos h1,if_pos h1]
  unfold sgm
  have e : hd0 (one1 (s.vars.getD i 0)) = s.vars.getD i 0:=rfl
  rw [if_neg (by rw [eqW_ne (low_ne hlow rfl)]; simp),e,plc_idx hs.nv hi,if_pos ⟨hlow,hi⟩]
 ·rw [if_neg h1,if_neg h1]
  by_cases h2 : k = 2
  ·have hi:=hb.2.2 h2
   have hup : upB (one1 (s.hid.getD i 0)) = true:=hs.lh _ (by
    have : s.hid.getD i 0 = s.hid[i]:=by simp [hi]
    rw [this]; exact List.getElem_mem hi)
   have hnl : lowB (one1 (s.hid.getD i 0)) = false:=by
    cases hx : lowB (one1 (s.hid.getD i 0)) with
    | false=>rfl
    | true=>rw [low_up _ hx] at hup; cases hup
   rw [if_pos h2,if_pos h2]
   unfold sgm
   have e : hd0 (one1 (s.hid.getD i 0)) = s.hid.getD i 0:=rfl
   rw [if_neg (by rw [eqW_ne (upB_ne hup rfl)]; simp),if_neg (by rw [hnl]; simp),e,plc_idx hs.nh hi,if_pos ⟨hup,hi⟩]
  ·rw [if_neg h2,if_neg h2]
   unfold sgm
   rw [if_pos (eqW_rfl _)]; exact h0.symm
theorem at_hold {ad nx : List Int} (hd : ad.Nodup) {s : PS} (hs : Ltr s) (hv : s.vars.length ≤ 4) {vs : List Int} (hl : vs.length = s.vars.length) {al : List Atm} (ha : ∀ a ∈ al,AtOK s.vars s.hid a) (hnm : NmOK (nmL s.vars s.hid al)) {f : Nat → Int} (h : AtH ad nx f al) (hf : ∀ i,i < s.vars.length → f (1 + i) = vs.getD i 0) :
  hold ad nx (s.vars.map one1) vs (nmL s.vars s.hid al) = true:=by
 refine (hold_iff hd (by simpa using hl.symm) hnm).2 ⟨sgm s vs f,fun n v hn=>?_,fun r hr=>?_,?_⟩
 ·unfold sgm
  by_cases h0 : eqW n nilW = true
  ·rw [if_pos h0]
   unfold evA at hn
   rw [if_pos h0] at hn
   cases hn; rfl
  ·rw [if_neg h0]
   by_cases h1 : lowB n = true ∧ plc s.vars (hd0 n) < s.vars.length
   ·rw [if_pos h1,hf _ h1.2]
    unfold evA at hn
    rw [if_neg h0,low_one h1.1,fnd_plc,if_pos (by simpa using h1.2)] at hn
    cases hn; rfl
   ·rw [if_neg h1]
    by_cases h2 : upB n = true ∧ plc s.hid (hd0 n) < s.hid.length
    ·exfalso
     unfold evA at hn
     rw [if_neg h0,up_one h2.1,fnd_plc] at hn
     by_cases h3 : plc s.vars (hd0 n) < s.vars.length
     ·have h4:=plc_get h3
      have h5 : lowB (one1 (hd0 n)) = true:=hs.lv _ (by
       have : s.vars.getD (plc s.vars (hd0 n)) 0 = s.vars[plc s.vars (hd0 n)]:=by simp [h3]
       rw [← h4,this]; exact List.getElem_mem h3)
      rw [← up_one h2.1] at h5
      have:=low_up _ h5
      rw [this] at h2; exact absurd h2.1 (by simp)
     ·rw [if_neg (by simpa using h3)] at hn; cases hn
    ·rw [if_neg h2,hn]; rfl
 ·obtain ⟨hr1,hr2⟩:=List.mem_filter.1 hr
  obtain ⟨a,haa,rfl⟩:=List.mem_map.1 hr1
  obtain ⟨haa,hk0⟩:=List.mem_filter.1 haa
  have hA:=ha a haa
  have h0 : a.k ≠ 0:=by simpa using hk0
  have hkw:=kwd_eq hA.1 h0
  have h5 : ¬ (a.k = 3 ∨ a.k = 4):=by
   intro h6
   have:=hkw.2.2.2 h6
   have h7 : plB (nmA s.vars s.hid a) = true:=this
   rw [h7] at hr2; cases hr2
  show sgm s vs f (tnm _ _ a.lk a.li) = sgm s vs f (tnm _ _ a.rk a.ri) ↔ eqW (kwd a.k) eqSW = true
  rw [sgm_nm hs h.nl hA.2.1,sgm_nm hs h.nl hA.2.2,hkw.1]
  have hk : a.k = 1 ∨ a.k = 2:=by have:=hA.1; omega
  rcases hk with hk | hk
  ·exact ⟨fun _=>hk,fun _=>h.eq a haa hk⟩
  ·exact ⟨fun e=>absurd e (h.ne a haa hk),fun e=>by omega⟩
 ·rw [nmL_pl ha]
  refine (sp_num hv (s:=f) (fun a haa=>?_)).2 h.sp
  have hA:=ha a (List.mem_filter.1 haa).1
  exact ⟨hA,by simpa using (List.mem_filter.1 haa).2,by
   show sgm s vs f (nmT _ _ (tNo a.lk a.li)) = f (tNo a.lk a.li)
   rw [nmT_of hv hA.2.1]; exact sgm_nm hs h.nl hA.2.1,by
   show sgm s vs f (nmT _ _ (tNo a.rk a.ri)) = f (tNo a.rk a.ri)
   rw [nmT_of hv hA.2.2]; exact sgm_nm hs h.nl hA.2.2⟩
def oobB (q : Int) : Bool:=decide (q < 0) || decide (1048576 < q)
def badS (b : Bool) (st : List Int) (k : Nat) : Bool:=b || (List.range k).any (fun j=>oobB (st.getD j 0))
theorem badS_step (b : Bool) (st : List Int) (k : Nat) : badS b st (k + 1) = (badS b st k || oobB (st.getD k 0)):=by simp [badS,List.range_succ,Bool.or_assoc]
def badU (c : List Int) (j : Nat) : Bool:=decide (j % 2 = 0) && (decide (c.getD j 0 = 0) || (decide (0 < j) && decide (c.getD j 0 ≤ c.getD (j - 2) 0)))
def badC (b : Bool) (c : List Int) (k : Nat) : Bool:=b || (List.range k).any (fun j=>oobB (c.getD j 0) || badU c j)
theorem badC_step (b : Bool) (c : List Int) (k : Nat) : badC b c (k + 1) = ((badC b c k || oobB (c.getD k 0)) || badU c k):=by simp [badC,List.range_succ,Bool.or_assoc]
def badA (n : Nat) (st ls : List Int) : Bool:=badC (badS (decide (st.length ≠ n) || decide (ls.length % 2 = 1)) st st.length) ls ls.length
theorem badA_no {n : Nat} {st ls : List Int} (h : badA n st ls = false) : st.length = n ∧ ls.length % 2 = 0 ∧ (∀ v ∈ st,0 ≤ v ∧ v ≤ 1048576) ∧ OkC ls (ls.length / 2):=by
 unfold badA badC badS at h
 simp only [Bool.or_eq_false_iff,decide_eq_false_iff_not,List.any_eq_false,List.mem_range,Bool.or_eq_true,not_or,oobB,decide_eq_true_eq,ne_eq,Decidable.not_not] at h
 obtain ⟨⟨⟨h1,h2⟩,h3⟩,h4⟩:=h
 refine ⟨h1,by omega,fun v hv=>?_,?_⟩
 ·obtain ⟨j,hj,rfl⟩:=List.getElem_of_mem hv
  have:=h3 j hj
  simp only [List.getD_eq_getElem?_getD,List.getElem?_eq_getElem hj,Option.getD_some] at this
  omega
 ·have key : ∀ m,m ≤ ls.length / 2 → OkC ls m:=by
   intro m
   induction m with
   | zero=>intro _; exact OkC.zero _
   | succ m ih =>
    intro hm
    have e1:=h4 (2 * m) (by omega)
    have e2:=h4 (2 * m + 1) (by omega)
    have hu:=e1.2
    unfold badU at hu
    simp only [Bool.and_eq_true,Bool.or_eq_true,decide_eq_true_eq,not_and,not_or] at hu
    have hu2:=hu (by omega)
    refine (ih (by omega)).step ⟨?_,?_⟩ ⟨?_,?_⟩ (fun j hj=>?_)
    ·have:=e1.1.1; have:=hu2.1; omega
    ·have:=e1.1.2; omega
    ·have:=e2.1.1; omega
    ·have:=e2.1.2; omega
    ·have h5:=hu2.2 (by omega)
     rw [show 2 * m - 2 = 2 * j by omega] at h5
     omega
  exact key _ (Nat.le_refl _)
theorem seM_st (cl : List Ins) (m : RM) : (seM cl m).st = m.st:=by unfold seM; split <;> rfl
theorem seM_ad (cl : List Ins) (m : RM) : (seM cl m).ad = m.ad:=by unfold seM; split <;> rfl
theorem seM_nx (cl : List Ins) (m : RM) : (seM cl m).nx = m.nx:=by unfold seM; split <;> rfl
theorem seM_nd (cl : List Ins) (m : RM) : (seM cl m).nd = m.nd:=by unfold seM; split <;> rfl
def staR (vs : List ByteArray) (al : List RAt) (st ls : List Int) : Nat :=
 if 16 < ls.length then 1 else if badA vs.length st ls then 5 else if hold (evK ls (ls.length / 2)) (odK ls (ls.length / 2)) vs st al then 0 else 6
section
variable {w : World} {P : Nat} {vs : List ByteArray} {al : List RAt} {cl : List Ins} {vv hv pv cv tx sv0 lv : Value} {st ls : List Int}
set_option maxRecDepth 100000 in
set_option maxHeartbeats 8000000 in
theorem rstartable_any (h : Rp w P vs al cl vv hv pv cv tx) (hv1 : vs.length ≤ 1000) (hal : al.length ≤ 1000) (hcl : cl.length ≤ 100000) (hc0 : 0 < cl.length) (hst : Lst w sv0 1 st.length (ints st)) (hls : Lst w lv 1 ls.length (ints ls)) :
  Calls Tryz.prog 134 #[.pointer (some ⟨P,0,none⟩),sv0,lv] w fun e w'=>e = .returned (.int .i64 (staR vs al st ls : Nat)) ∧ Below w.heap.size w w':=by
 have HRp:=hide h
 have HSt:=hide hst
 have HLs:=hide hls
 have p0 : w.cell? ⟨P,0,none⟩ = some vv:=h.bk.cell 0 rfl
 have p2 : w.cell? ⟨P,2,none⟩ = some pv:=h.bk.cell 2 rfl
 obtain ⟨vo,vcap,hvv,hvn,hvm⟩:=own_slc h.vr
 obtain ⟨so,scap,hsv0,hsn,hsm,hs20⟩:=hst.sl
 obtain ⟨lo,lcap,hlv,hln,hlm,hl20⟩:=hls.sl
 rw [hsv0] at HSt ⊢
 rw [hlv] at HLs ⊢
 rw [hvv] at p0
 have HVV:=hide hvv
 clear h hst hls hsv0 hlv hvv
 by_cases h16 : 16 < ls.length
 ·have d16 : decide ((16 : Int) < (ls.length : Int)) = true:=by simp; omega
  have HE : Hid (staR vs al st ls = 1):=hide (if_pos h16)
  go_enter Tryz.func134,Tryz.ntmps134
  go_wp2_with fail
  go_ret
  exact ⟨by rw [uh HE]; rfl,Below.refl _ _⟩
 ·have d16 : decide ((16 : Int) < (ls.length : Int)) = false:=by simp; omega
  have hl16 : ls.length ≤ 16:=by omega
  have HE : Hid (staR vs al st ls = if badA vs.length st ls then 5 else if hold (evK ls (ls.length / 2)) (odK ls (ls.length / 2)) vs st al then 0 else 6):=hide (if_neg h16)
  obtain ⟨b0,hb0⟩ : ∃ b0,b0 = (decide (st.length ≠ vs.length) || decide (ls.length % 2 = 1)):=⟨_,rfl⟩
  have HB0:=hide hb0
  clear h16
  go_enter Tryz.func134,Tryz.ntmps134
  go_upto_region 3 with fail
  go_cut [7] (fun b wx=>b = .bool b0 ∧ wx = w)
  case first =>
   by_cases h1 : st.length = vs.length
   ·have d1 : ((st.length : Int) != (vs.length : Int)) = false:=by rw [h1]; simp
    have HLn:=hide h1
    by_cases h2 : ls.length % 2 = 1
    ·have d2 : ((ls.length : Int) % 2 == 1) = true:=by rw [beq_iff_eq]; omega
     have d3 : b0 = true:=by rw [hb0]; simp [h2]
     clear h1 h2 hb0
     go_wp2_with fail
     go_meet
     exact ⟨by first | (rw [d3,d2]; done) | (rw [d3]; done) | (rw [d3]; rfl),rfl⟩
    ·have d2 : ((ls.length : Int) % 2 == 1) = false:=by rw [beq_eq_false_iff_ne]; omega
     have d3 : b0 = false:=by rw [hb0]; simp [h1]; omega
     clear h1 h2 hb0
     go_wp2_with fail
     go_meet
     exact ⟨by first | (rw [d3,d2]; done) | (rw [d3]; done) | (rw [d3]; rfl),rfl⟩
   ·have d1 : ((st.length : Int) != (vs.length : Int)) = true:=by simp; omega
    have d3 : b0 = true:=by rw [hb0]; simp [h1]
    clear h1 hb0
    go_wp2_with fail
    go_meet
    exact ⟨by first | (rw [d3,d2]; done) | (rw [d3]; done) | (rw [d3]; rfl),rfl⟩
  case rest =>
   obtain ⟨rfl,rfl⟩:=hcut
   clear hb0 p0
   go_wp2_with fail
   go_loop [7,8] (fun b i=>∃ k : Nat,k ≤ st.length ∧ i = .int .i64 k ∧ b = .bool (badS b0 st k)) (fun _ i=>st.length - (intOf i).toNat)
   case atStart=>exact ⟨0,Nat.zero_le _,rfl,by simp [badS]⟩
   case round =>
    obtain ⟨k,hk,rfl,rfl⟩:=hrel
    by_cases hlt : k < st.length
    ·have hd : decide ((k : Int) < (st.length : Int)) = true:=by simp; omega
     obtain ⟨g,off,cap,hv',hnc,hmc,hc⟩:=(uh HSt).get (by omega)
     simp only [Value.slice.injEq,true_and] at hv'
     obtain ⟨rfl,rfl⟩:=hv'
     have x:=hc k _ (ints_get hlt)
     have HSs:=hide (badS_step b0 st k)
     obtain ⟨q,hq⟩ : ∃ q,q = st.getD k 0:=⟨_,rfl⟩
     rw [← hq] at x HSs
     obtain ⟨b,hb⟩ : ∃ b,b = badS b0 st k:=⟨_,rfl⟩
     rw [← hb] at HSs ⊢
     clear hq hb hc
     cases b with
     | true =>
      go_wp2_with fail
      go_round
      case rel=>exact ⟨k + 1,by omega,by go_num,by rw [uh HSs]; rfl⟩
      case measure=>simp [intOf]; omega
     | false =>
      cases d1 : decide (q < 0) with
      | true =>
       go_wp2_with fail
       go_round
       case rel=>exact ⟨k + 1,by omega,by go_num,by rw [uh HSs]; simp [oobB,d1]⟩
       case measure=>simp [intOf]; omega
      | false =>
       cases d2 : decide ((1048576 : Int) < q)
       all_goals
        go_wp2_with fail
        go_round
        case rel=>exact ⟨k + 1,by omega,by go_num,by rw [uh HSs]; simp [oobB,d1,d2]⟩
        case measure=>simp [intOf]; omega
    ·have hd : decide ((k : Int) < (st.length : Int)) = false:=by simp; omega
     have hke : k = st.length:=by omega
     subst hke
     obtain ⟨b1,hb1⟩ : ∃ b1,b1 = badS b0 st st.length:=⟨_,rfl⟩
     rw [← hb1]
     have HBA : Hid (badA vs.length st ls = badC b1 ls ls.length):=hide (by rw [hb1,uh HB0]; rfl)
     clear hb1 hk hlt HB0
     go_wp2_with fail
     go_loopw [7,9] (fun b i wx=>∃ k n : Nat,k ≤ ls.length ∧ i = .int .i64 k ∧ b = .bool (badC b1 ls k) ∧ wx = wc.drewN n) (fun _ i _=>ls.length - (intOf i).toNat)
     case atStart=>exact ⟨0,0,Nat.zero_le _,rfl,by simp [badC],rfl⟩
     case round =>
      obtain ⟨k,n,hk,rfl,rfl,rfl⟩:=hrel
      by_cases hlt : k < ls.length
      ·have hd : decide ((k : Int) < (ls.length : Int)) = true:=by simp; omega
       obtain ⟨g,off,cap,hv',hnc,hmc,hc⟩:=(uh HLs).get (by omega)
       simp only [Value.slice.injEq,true_and] at hv'
       obtain ⟨rfl,rfl⟩:=hv'
       have x:=hc k _ (ints_get hlt)
       have HSs:=hide (badC_step b1 ls k)
       have x2:=hc (k - 2) _ (ints_get (by omega))
       obtain ⟨u,hu⟩ : ∃ u,u = badU ls k:=⟨_,rfl⟩
       have hu2:=hu
       unfold badU at hu2
       obtain ⟨q2,hq2⟩ : ∃ q2,q2 = ls.getD (k - 2) 0:=⟨_,rfl⟩
       rw [← hq2] at x2 hu2
       obtain ⟨q,hq⟩ : ∃ q,q = ls.getD k 0:=⟨_,rfl⟩
       rw [← hq] at x HSs hu2
       rw [← hu] at HSs
       obtain ⟨b,hb⟩ : ∃ b,b = badC b1 ls k:=⟨_,rfl⟩
       rw [← hb] at HSs ⊢
       have HU:=hide hu2
       obtain ⟨b2,hb2⟩ : ∃ b2,b2 = (b || oobB q):=⟨_,rfl⟩
       rw [← hb2] at HSs
       clear hq hb hc hu hq2 hu2
       go_upto_region 11 with fail
       go_cut [7] (fun v wx=>v = .bool b2 ∧ wx = wc.drewN n)
       case first =>
        cases b with
        | true =>
         go_wp2_with fail
         go_meet
         exact ⟨by rw [hb2]; rfl,rfl⟩
        | false =>
         cases d1 : decide (q < 0) with
         | true =>
          have d3 : b2 = true:=by rw [hb2]; simp [oobB,d1]
          clear hb2
          go_wp2_with fail
          go_meet
          exact ⟨by first | (rw [d3]; done) | (rw [d3]; rfl),rfl⟩
         | false =>
          cases d2 : decide ((1048576 : Int) < q)
          all_goals
           have d3:=hb2
           simp only [oobB,d1,d2,Bool.or_false,Bool.or_true] at d3
           clear hb2
           go_wp2_with fail
           go_meet
           exact ⟨by first | (rw [d3]; done) | (rw [d3]; rfl),rfl⟩
       case rest =>
        obtain ⟨rfl,rfl⟩:=hcut
        clear hb2
        by_cases hev : k % 2 = 0
        ·have e1 : ((k : Int) % 2 == 0) = true:=by rw [beq_iff_eq]; omega
         cases b2 with
         | true =>
          go_wp2_with fail
          go_quiet (fail)
          go_wp2_with fail
          go_roundw
          case rel=>exact ⟨k + 1,_,by omega,by go_num,by rw [uh HSs]; rfl,rfl⟩
          case measure=>simp [intOf]; omega
         | false =>
          by_cases hq0 : q = 0
          ·have e2 : (q == 0) = true:=by rw [hq0]; rfl
           have hu3 : u = true:=by rw [uh HU]; simp [hev,hq0]
           clear hq0
           go_wp2_with fail
           go_quiet (fail)
           go_wp2_with fail
           go_roundw
           case rel=>exact ⟨k + 1,_,by omega,by go_num,by rw [uh HSs,hu3]; rfl,rfl⟩
           case measure=>simp [intOf]; omega
          ·have e2 : (q == 0) = false:=by simpa using hq0
           by_cases hk0 : 0 < k
           ·have e3 : decide ((0 : Int) < (k : Int)) = true:=by simp; omega
            have i1 : (0 : Int) ≤ (k : Int) - 2:=by omega
            have i2 : (k : Int) - 2 < (ls.length : Int):=by omega
            have i3 : IntKind.i64.wrap ((k : Int) - 2) = (k : Int) - 2:=by rw [IntKind.wrap_i64]; omega
            have i4 : ((k : Int) - 2).toNat = k - 2:=by omega
            cases e4 : decide (q ≤ q2)
            all_goals
             have hu3:=uh HU
             simp only [hev,hq0,hk0,e4,decide_true,decide_false,Bool.true_and,Bool.false_or] at hu3
             go_wp2_with fail
             go_quiet (fail)
             go_wp2_with fail
             go_roundw
             case rel=>exact ⟨k + 1,_,by omega,by go_num,by rw [uh HSs,hu3]; rfl,rfl⟩
             case measure=>simp [intOf]; omega
           ·have e3 : decide ((0 : Int) < (k : Int)) = false:=by simp; omega
            have hu3 : u = false:=by rw [uh HU]; simp [hq0,hk0]
            go_wp2_with fail
            go_quiet (fail)
            go_wp2_with fail
            go_roundw
            case rel=>exact ⟨k + 1,_,by omega,by go_num,by rw [uh HSs,hu3]; rfl,rfl⟩
            case measure=>simp [intOf]; omega
        ·have e1 : ((k : Int) % 2 == 0) = false:=by rw [beq_eq_false_iff_ne]; omega
         have hu3 : u = false:=by rw [uh HU]; simp [hev]
         go_wp2_with fail
         go_roundw
         case rel=>exact ⟨k + 1,_,by omega,by go_num,by rw [uh HSs,hu3,Bool.or_false],rfl⟩
         case measure=>simp [intOf]; omega
      ·have hd : decide ((k : Int) < (ls.length : Int)) = false:=by simp; omega
       have hke : k = ls.length:=by omega
       subst hke
       rw [← uh HBA]
       cases hbad : badA vs.length st ls with
       | true =>
        have HE2 : Hid (staR vs al st ls = 5):=hide (by rw [uh HE,hbad]; rfl)
        clear hbad
        go_wp2_with fail
        go_ret
        exact ⟨by rw [uh HE2]; rfl,below_drewQ _ _⟩
       | false =>
        obtain ⟨hsl,hl2,hsv,hok⟩:=badA_no hbad
        have HE2 : Hid (staR vs al st ls = if hold (evK ls (ls.length / 2)) (odK ls (ls.length / 2)) vs st al then 0 else 6):=hide (by rw [uh HE,hbad]; rfl)
        have hbn:=below_drewQ wc n
        have HBe:=hide (rbegin_any ((uh HRp).below hbn) hv1 hcl hc0 ((uh HSt).below hbn) hsl ((uh HLs).below hbn) (hok.up.imp (fun h=>by omega)))
        have HOk:=hide hok
        have HSv:=hide hsv
        have HSl:=hide hsl
        have HP0:=hide ((uh HRp).below hbn)
        clear hbad hsl hl2 hsv hok hbn hd
        go_wp2_with fail
        refine (uh HBe).mono ?_
        rintro e w2 ⟨y,rfl,hyP,hyv,hyh,hyp,hyc,hyt,hRc,hFp,hBl⟩
        have HC:=hide hRc
        have hst2:=seM_st cl ⟨0,0,st,evK ls (ls.length / 2),odK ls (ls.length / 2)⟩
        have had2:=seM_ad cl ⟨0,0,st,evK ls (ls.length / 2),odK ls (ls.length / 2)⟩
        have hnx2:=seM_nx cl ⟨0,0,st,evK ls (ls.length / 2),odK ls (ls.length / 2)⟩
        have r1:=hRc.r1
        have hp0:=((uh HP0).below hBl)
        have p2' : w2.cell? ⟨P,2,none⟩ = some pv:=hp0.bk.cell 2 rfl
        have HA : Hid (HpA w2.drew y.H (evK ls (ls.length / 2)) (odK ls (ls.length / 2))):=hide ⟨y.av,y.xv,hRc.h2,hRc.h3,by have:=hRc.ad; rw [had2] at this; exact Lst.of_own this (by rw [evK_len]; omega),by have:=hRc.nx; rw [hnx2] at this; exact Lst.of_own this (by rw [odK_len]; omega)⟩
        have HB : Hid (HpB w2.drew y.H vs st):=hide ⟨y.vv,y.sv,hRc.hk.cell 0 rfl,hRc.h1,Lst.of_own hRc.rp.vr (by omega),by have:=hRc.st; rw [hst2] at this; exact Lst.of_own this (by rw [uh HSl]; omega)⟩
        have HF : Hid (Lst w2.drew pv 3 al.length (raCells al)):=hide (Lst.of_own hp0.pr (by omega))
        have HHo:=hide (hold_any (uh HA) (uh HB) (uh HF) (uh HSl).symm (by rw [evK_len,odK_len]) (by omega) (fun v hv=>by have:=uh HSv v hv; omega) (fun v hv=>by have:=(uh HOk).sa v hv; omega) (fun v hv=>by have:=(uh HOk).sn v hv; omega))
        obtain ⟨ho,hho⟩ : ∃ ho,ho = hold (evK ls (ls.length / 2)) (odK ls (ls.length / 2)) vs st al:=⟨_,rfl⟩
        rw [← hho] at HHo HE2
        have HBw:=hide ((below_drewQ wc n).trans (hBl.mono (below_drewQ wc n).size))
        have hRl:=hRc.bk.lt
        have hPl:=hp0.bk.lt
        clear hRc hFp hBl hst2 had2 hnx2 hp0 hho hyP hyv hyh hyp hyc hyt HA HB HF HBe
        go_wp2_with fail
        go_region_held3 (fun W=>W.cell? ⟨y.R,1,none⟩ = some (.pointer (some ⟨y.H,0,none⟩)) ∧ W.cell? ⟨P,2,none⟩ = some pv) (first | (simp only [World.cell?_drew,r1,p2',and_self]; done) | (simp only [k1,k2,and_self]; done))
         (first
          | (go_at_call 91; refine (uh HHo).mono ?_; rintro e w3 ⟨rfl,hb3⟩; have k1:=(hb3.cell (p:=⟨y.R,1,none⟩) hRl).trans r1; have k2:=(hb3.cell (p:=⟨P,2,none⟩) hPl).trans p2'; have HB3 : Hid (Below w2.heap.size w2 w3):=hide ⟨hb3.os,hb3.tape,hb3.output,hb3.size,hb3.block⟩; clear hb3))
        cases ho with
        | true =>
         go_wp2_with fail
         go_ret
         exact ⟨by rw [uh HE2]; rfl,(uh HBw).trans ((uh HB3).mono (uh HBw).size)⟩
        | false =>
         go_wp2_with fail
         go_ret
         exact ⟨by rw [uh HE2]; rfl,(uh HBw).trans ((uh HB3).mono (uh HBw).size)⟩
end
end Go.Proofs.YtciihepbeacppaaGreat
