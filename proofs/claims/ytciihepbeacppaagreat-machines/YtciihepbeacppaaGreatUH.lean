import Derived.Test.YtciihepbeacppaaGreatUE
namespace Go.Proofs.YtciihepbeacppaaGreat
open Go.RowKit
section
variable {α : Type}
theorem era_perm : ∀ (l : List α) (i : Nat) (h : i < l.length),l.Perm (l[i] :: l.eraseIdx i)
 | [],_,h=>by simp at h
 | a :: l,0,_=>List.Perm.refl _
 | a :: l,i + 1,h=>by
  have h' : i < l.length:=by simpa using h
  simp only [List.getElem_cons_succ,List.eraseIdx_cons_succ]
  exact ((era_perm l i h').cons a).trans (List.Perm.swap _ _ _)
theorem sete_perm : ∀ (l : List α) (i : Nat) (x : α),i < l.length → (l.set i x).Perm (x :: l.eraseIdx i)
 | [],_,_,h=>by simp at h
 | a :: l,0,_,_=>List.Perm.refl _
 | a :: l,i + 1,x,h=>by
  have h' : i < l.length:=by simpa using h
  simp only [List.set_cons_succ,List.eraseIdx_cons_succ]
  exact ((sete_perm l i x h').cons a).trans (List.Perm.swap _ _ _)
theorem zip_era : ∀ (l : List α) (r : List α) (k : Nat),(l.eraseIdx k).zip (r.eraseIdx k) = (l.zip r).eraseIdx k
 | [],r,k=>by simp
 | a :: l,[],k=>by cases k <;> simp
 | a :: l,b :: r,0=>rfl
 | a :: l,b :: r,k + 1=>by
  simp only [List.eraseIdx_cons_succ,List.zip_cons_cons]
  rw [zip_era l r k]
theorem zip_set : ∀ (l : List α) (r : List α) (k : Nat) (h : k < l.length) (x : α),l.zip (r.set k x) = (l.zip r).set k (l[k],x)
 | [],_,_,h,_=>by simp at h
 | a :: l,[],k,_,x=>by simp
 | a :: l,b :: r,0,_,x=>rfl
 | a :: l,b :: r,k + 1,h,x=>by
  simp only [List.set_cons_succ,List.zip_cons_cons,List.getElem_cons_succ]
  rw [zip_set l r k (by simpa using h) x]
end
structure CsR (cs : List (Int × Int)) (ad nx : List Int) : Prop where
 srt : Srt cs
 nd : ad.Nodup
 ln : nx.length = ad.length
 pm : (ad.zip nx).Perm cs
theorem CsR.len {cs : List (Int × Int)} {ad nx : List Int} (h : CsR cs ad nx) : cs.length = ad.length:=by
 have:=h.pm.length_eq
 rw [List.length_zip,h.ln,Nat.min_self] at this
 exact this.symm
theorem nd_idx {ad : List Int} (h : ad.Nodup) {k : Nat} (hk : k < ad.length) : ad.idxOf ad[k] = k :=
 idx_hit hk (fun j hj e=>by
  simp only [List.getD_eq_getElem?_getD,List.getElem?_eq_getElem (show j < ad.length by omega),Option.getD_some] at e
  have:=(List.getElem_inj h).1 e
  omega) (by simp [hk])
theorem CsR.found {cs : List (Int × Int)} {ad nx : List Int} (h : CsR cs ad nx) {a : Int} {i : Nat} (hf : fdA cs a = some i) : ∃ hi : i < cs.length,ad.idxOf a < ad.length ∧ cs[i] = (a,nx.getD (ad.idxOf a) 0):=by
 obtain ⟨hi,ha⟩:=fdA_some hf
 refine ⟨hi,?_⟩
 have hm : cs[i] ∈ ad.zip nx:=h.pm.mem_iff.2 (List.getElem_mem hi)
 obtain ⟨k,hk⟩:=List.mem_iff_getElem?.1 hm
 obtain ⟨h1,h2⟩:=List.getElem?_zip_eq_some.1 hk
 rw [ha] at h1
 obtain ⟨hk1,h1'⟩:=List.getElem?_eq_some_iff.1 h1
 have hx : ad.idxOf a = k:=by rw [← h1']; exact nd_idx h.nd hk1
 rw [hx]
 refine ⟨hk1,?_⟩
 rw [List.getD_eq_getElem?_getD,h2]
 exact Prod.ext ha rfl
theorem CsR.lost {cs : List (Int × Int)} {ad nx : List Int} (h : CsR cs ad nx) {a : Int} (hf : fdA cs a = none) : ¬ ad.idxOf a < ad.length:=by
 intro hlt
 have hm : (ad[ad.idxOf a],nx[ad.idxOf a]'(by rw [h.ln]; exact hlt)) ∈ ad.zip nx:=by
  rw [List.mem_iff_getElem?]
  exact ⟨ad.idxOf a,List.getElem?_zip_eq_some.2 ⟨by simp [hlt],by simp [h.ln,hlt]⟩⟩
 have hc:=h.pm.mem_iff.1 hm
 obtain ⟨i,hi,e⟩:=List.mem_iff_getElem.1 hc
 have : fdA cs a = some i:=fdA_of h.srt hi (by rw [e]; exact List.getElem_idxOf hlt)
 rw [hf] at this
 cases this
theorem CsR.lk {cs : List (Int × Int)} {ad nx : List Int} (h : CsR cs ad nx) : lkA cs = lkR ad nx:=by
 funext a
 unfold lkA lkR
 cases hf : fdA cs a with
 | none=>rw [if_neg (h.lost hf)]; rfl
 | some i =>
  obtain ⟨hi,h1,h2⟩:=h.found hf
  rw [if_pos h1]
  show some (cs.getD i (0,0)).2 = _
  rw [List.getD_eq_getElem?_getD,List.getElem?_eq_getElem hi,Option.getD_some,h2]
theorem CsR.add {cs : List (Int × Int)} {ad nx : List Int} (h : CsR cs ad nx) {a : Int} (hf : fdA cs a = none) (b : Int) : CsR (adA cs a b) (ad ++ [a]) (nx ++ [b]):=by
 have hn : a ∉ ad:=fun hm=>h.lost hf (List.idxOf_lt_length_iff.2 hm)
 refine ⟨adA_srt h.srt hf,?_,by simp [h.ln],?_⟩
 ·rw [List.nodup_append]
  exact ⟨h.nd,by simp,fun x hx z hz e=>by rw [List.mem_singleton] at hz; subst hz; subst e; exact hn hx⟩
 ·rw [List.zip_append h.ln.symm]
  refine (List.perm_append_comm).trans ?_
  show ((a,b) :: ad.zip nx).Perm _
  unfold adA
  refine (h.pm.cons (a,b)).trans ?_
  have:=(List.perm_middle (a:=(a,b)) (l₁:=cs.take (lowA cs a)) (l₂:=cs.drop (lowA cs a))).symm
  rwa [List.take_append_drop] at this
theorem CsR.pair {cs : List (Int × Int)} {ad nx : List Int} (h : CsR cs ad nx) {a : Int} {i : Nat} (hf : fdA cs a = some i) : ∃ (hi : i < cs.length) (hk : ad.idxOf a < ad.length),((ad.zip nx).eraseIdx (ad.idxOf a)).Perm (cs.eraseIdx i) ∧ ad[ad.idxOf a] = a ∧ cs[i].1 = a:=by
 obtain ⟨hi,hk,he⟩:=h.found hf
 have hz : ad.idxOf a < (ad.zip nx).length:=by rw [List.length_zip,h.ln,Nat.min_self]; exact hk
 have hz2 : (ad.zip nx)[ad.idxOf a] = cs[i]:=by
  rw [List.getElem_zip,he]
  refine Prod.ext (List.getElem_idxOf hk) ?_
  simp [h.ln,hk]
 have h1:=(era_perm (ad.zip nx) (ad.idxOf a) hz).symm.trans (h.pm.trans (era_perm cs i hi))
 rw [hz2] at h1
 exact ⟨hi,hk,h1.cons_inv,List.getElem_idxOf hk,by rw [he]⟩
theorem CsR.link {cs : List (Int × Int)} {ad nx : List Int} (h : CsR cs ad nx) {a : Int} {i : Nat} (hf : fdA cs a = some i) (r : Int) : CsR (lkS cs i r) ad (nx.set (ad.idxOf a) r):=by
 obtain ⟨hi,hk,hp,ha,hc⟩:=h.pair hf
 refine ⟨lkS_srt h.srt i r,h.nd,by simp [h.ln],?_⟩
 rw [zip_set _ _ _ hk,ha]
 refine (sete_perm _ _ _ (by rw [List.length_zip,h.ln,Nat.min_self]; exact hk)).trans ?_
 unfold lkS
 have e : (cs.getD i (0,0)).1 = a:=by rw [List.getD_eq_getElem?_getD,List.getElem?_eq_getElem hi,Option.getD_some,hc]
 rw [e]
 exact (hp.cons _).trans (sete_perm _ _ _ hi).symm
theorem CsR.rm {cs : List (Int × Int)} {ad nx : List Int} (h : CsR cs ad nx) {a : Int} {i : Nat} (hf : fdA cs a = some i) : CsR (rmS cs i) (ad.eraseIdx (ad.idxOf a)) (nx.eraseIdx (ad.idxOf a)):=by
 obtain ⟨hi,hk,hp,ha,hc⟩:=h.pair hf
 refine ⟨rmS_srt h.srt i,h.nd.sublist (List.eraseIdx_sublist _ _),?_,?_⟩
 ·rw [List.length_eraseIdx_of_lt (by rw [h.ln]; exact hk),List.length_eraseIdx_of_lt hk,h.ln]
 ·rw [zip_era]
  exact hp
theorem CsR.done {cs : List (Int × Int)} {ad nx : List Int} (h : CsR cs ad nx) (st : List Int) : (rchA (lkA cs) cs.length [] st).length = cs.length ↔ (rchA (lkR ad nx) ad.length [] st).length = ad.length:=by
 rw [h.lk,h.len]
end Go.Proofs.YtciihepbeacppaaGreat
