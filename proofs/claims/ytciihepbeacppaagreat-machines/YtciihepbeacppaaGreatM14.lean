import Derived.Test.YtciihepbeacppaaGreatM10
import Derived.Test.YtciihepbeacppaaGreatM11
import Derived.Test.YtciihepbeacppaaGreatGR
namespace Go.Proofs.YtciihepbeacppaaGreat
open Go.RowKit
def ovV (o : Option Int) : Value:=.int .i64 (o.getD (-1))
def hqC (f : Nat) (val : List (Option Int)) (X o : Nat) (uv : Value) (n : Nat) : List Value:=ptrA f :: (val.map ovV ++ [.pointer (some ⟨X,o,none⟩),uv,.int .i64 (n : Int)])
def usC (fr : List Bool) : List Value:=fr.map (fun b=>Value.bool (!b))
structure HL where
 q : Nat
 f : Nat
 X : Nat
 o : Nat
 uv : Value
 hv : Value
 av : Value
 ov : Value
def HL.fp (y : HL) : List Nat:=y.q :: y.uv.ownBlock.toList
structure Hw (w : World) (y : HL) (F : CF) (l : List (Int × Int)) (val : List (Option Int)) (fr : List Bool) : Prop where
 bk : Bk w y.q 234 (hqC y.f val y.X y.o y.uv (fr.count true))
 lv : val.length = 24
 us : w.ownsRow 0 4 1 y.uv fr.length (usC fr)
 nd : y.uv.ownBlock ≠ some y.q
 ff : IsF w y.f F y.av y.ov
 hc : w.cell? ⟨y.X,y.o,none⟩ = some y.hv
 hr : w.ownsRow 0 231 2 y.hv l.length (ceC l)
 srt : Srt l
 df : ∀ k ∈ bsF y.f y.av y.ov,k ∉ y.fp
 dX : y.X ∉ y.fp
 dh : ∀ k,y.hv.ownBlock = some k → k ∉ y.fp
 lf : fr.length = l.length
 ll : l.length ≤ 100000
 vn : ∀ c a,val.getD c none = some a → 0 ≤ a
structure FOk (F : CF) : Prop where
 ap : ∀ p ∈ F.ap,p.l < 24 ∧ p.r < 24
 ow : ∀ p ∈ F.ow,p.l < 24 ∧ p.r < 24
 la : F.ap.length ≤ 1000
 lo : F.ow.length ≤ 1000
section
variable {w w' : World} {y : HL} {F : CF} {l : List (Int × Int)} {val : List (Option Int)} {fr : List Bool}
theorem Hw.c0 (h : Hw w y F l val fr) : w.cell? ⟨y.q,0,none⟩ = some (.pointer (some ⟨y.f,0,none⟩)):=h.bk.cell 0 rfl
theorem Hw.cv (h : Hw w y F l val fr) {c : Nat} (hc : c < 24) : w.cell? ⟨y.q,1 + c,none⟩ = some (.int .i64 ((val.getD c none).getD (-1))):=by
 refine h.bk.cell (1 + c) ?_
 have hl:=h.lv
 unfold hqC
 rw [Nat.add_comm,List.getElem?_cons_succ,List.getElem?_append_left (by simp; omega),List.getElem?_map]
 have : c < val.length:=by omega
 simp [this,ovV]
theorem hqC_tail (hl : val.length = 24) (f X o : Nat) (uv : Value) (n j : Nat) : (hqC f val X o uv n)[25 + j]? = [Value.pointer (some ⟨X,o,none⟩),uv,.int .i64 (n : Int)][j]?:=by
 unfold hqC
 rw [show 25 + j = (24 + j) + 1 by omega,List.getElem?_cons_succ,List.getElem?_append_right (by simp; omega)]
 simp [hl]
theorem Hw.c25 (h : Hw w y F l val fr) : w.cell? ⟨y.q,25,none⟩ = some (.pointer (some ⟨y.X,y.o,none⟩)):=h.bk.cell 25 (hqC_tail h.lv _ _ _ _ _ 0)
theorem Hw.c26 (h : Hw w y F l val fr) : w.cell? ⟨y.q,26,none⟩ = some y.uv:=h.bk.cell 26 (hqC_tail h.lv _ _ _ _ _ 1)
theorem Hw.c27 (h : Hw w y F l val fr) : w.cell? ⟨y.q,27,none⟩ = some (.int .i64 ((fr.count true : Nat) : Int)):=h.bk.cell 27 (hqC_tail h.lv _ _ _ _ _ 2)
theorem Hw.of_eq (h : Hw w y F l val fr) (he : ∀ k,k < w.heap.size → w'.heap[k]? = w.heap[k]?) : Hw w' y F l val fr :=
 ⟨h.bk.of_eq (he _ h.bk.lt),h.lv,ownsRow_of_eq h.us (fun k hk=>he k (h.us.lt k hk).2),h.nd,h.ff.of_eq (fun k hk=>he k (h.ff.lt k hk)),(World.cell?_of_block (a:=⟨y.X,y.o,none⟩) (he _ (World.block_lt_of_cell? w _ h.hc))).trans h.hc,ownsRow_of_eq h.hr (fun k hk=>he k (h.hr.lt k hk).2),h.srt,h.df,h.dX,h.dh,h.lf,h.ll,h.vn⟩
theorem Hw.below (h : Hw w y F l val fr) (hb : Below w.heap.size w w') : Hw w' y F l val fr:=h.of_eq (fun k hk=>hb.block k hk)
theorem Hw.setQ (h : Hw w y F l val fr) {j : Nat} {u : Value} {val' : List (Option Int)} (hq : (hqC y.f val y.X y.o y.uv (fr.count true)).set j u = hqC y.f val' y.X y.o y.uv (fr.count true)) (h1 : val'.length = 24) (h2 : ∀ c a,val'.getD c none = some a → 0 ≤ a) : Hw (w.setCell ⟨y.q,j,none⟩ u) y F l val' fr:=by
 have hb:=h.bk.set j u
 rw [hq] at hb
 have ho : ∀ k,k ≠ y.q → (w.setCell ⟨y.q,j,none⟩ u).heap[k]? = w.heap[k]?:=fun k hk=>Below.heap_setCell _ _ _ _ (fun e=>hk e)
 have hfp : ∀ k,k ∉ y.fp → k ≠ y.q:=fun k hk e=>hk (by simp [HL.fp,e])
 exact ⟨hb,h1,ownsRow_of_eq h.us (fun k hk=>ho k (by rintro rfl; exact h.nd hk)),h.nd,h.ff.of_eq (fun k hk=>ho k (hfp k (h.df k hk))),(World.cell?_of_block (a:=⟨y.X,y.o,none⟩) (ho _ (hfp _ h.dX))).trans h.hc,ownsRow_of_eq h.hr (fun k hk=>ho k (hfp k (h.dh k hk))),h.srt,h.df,h.dX,h.dh,h.lf,h.ll,h2⟩
theorem Hw.setV (h : Hw w y F l val fr) {c : Nat} (hc : c < 24) (a : Option Int) (ha : ∀ b,a = some b → 0 ≤ b) : Hw (w.setCell ⟨y.q,1 + c,none⟩ (.int .i64 (a.getD (-1)))) y F l (val.set c a) fr:=by
 refine h.setQ (val':=val.set c a) ?_ (by simpa using h.lv) ?_
 ·unfold hqC
  rw [show 1 + c = c + 1 by omega,List.set_cons_succ,List.set_append_left _ _ (by simpa [h.lv] using hc),List.map_set]
  rfl
 ·intro d b hd
  rw [setO_getD] at hd
  split at hd
  ·exact ha b hd
  ·exact h.vn d b hd
def dfO (oa ob : Option Int) : Bool:=match oa with | none=>true | some a=>ob != some a
def dfP1 (val : List (Option Int)) (p : Pr) : Bool:=p.l != p.r && dfO (val.getD p.l none) (val.getD p.r none)
theorem dfH_here {ap : List Pr} {k : Nat} (hk : k < ap.length) (h : dfP1 val ap[k] = false) : dfH ap val = false:=by
 unfold dfH
 rw [List.all_eq_false]
 exact ⟨ap[k],List.getElem_mem hk,by
  have : dfP1 val ap[k] ≠ true:=by rw [h]; simp
  exact this⟩
theorem dfH_all {ap : List Pr} (h : ∀ j,(hj : j < ap.length) → dfP1 val ap[j] = true) : dfH ap val = true:=by
 unfold dfH
 rw [List.all_eq_true]
 intro p hp
 obtain ⟨k,hk,rfl⟩:=List.mem_iff_getElem.1 hp
 exact h k hk
set_option maxRecDepth 100000 in
set_option maxHeartbeats 4000000 in
theorem hdiff_any (h : Hw w y F l val fr) (hF : FOk F) :
  Calls Tryz.prog 174 #[.pointer (some ⟨y.q,0,none⟩)] w fun e w'=>e = .returned (.bool (dfH F.ap val)) ∧ Below w.heap.size w w':=by
 have H:=hide h
 have c0:=h.c0
 have f5:=h.ff.c5
 obtain ⟨ao,cap,hav,hcm',hcn,hcell⟩:=pr_of_own h.ff.ap
 have hcm : cap ≤ 9223372036854775807:=by unfold maxLen at hcm'; omega
 rw [hav] at f5
 have HC:=hide hcell
 have hla:=hF.la
 have HF:=hide hF
 clear h hcell hcm' hF
 go_enter Tryz.func174,Tryz.ntmps174
 go_wp2_with fail
 go_loopw [13] (fun i wr=>∃ k : Nat,k ≤ F.ap.length ∧ i = .int .i64 k ∧ Hid (∀ j,(hj : j < F.ap.length) → j < k → dfP1 val F.ap[j] = true) ∧ Hid (Below w.heap.size w wr)) (fun i _=>F.ap.length - (intOf i).toNat)
 case atStart=>exact ⟨0,Nat.zero_le _,rfl,hide (fun _ _ h=>absurd h (by omega)),hide (Below.refl _ _)⟩
 case round =>
  obtain ⟨k,hk,rfl,hall,hbw⟩:=hrel
  by_cases hlt : k < F.ap.length
  ·have hd : decide ((k : Int) < (F.ap.length : Int)) = true:=by simp; omega
   obtain ⟨g,hao,hcel⟩:=uh HC (by intro h; rw [h] at hlt; simp at hlt)
   subst hao
   obtain ⟨p0,p1,p2⟩:=hcel k hlt
   have hpc:=(uh HF).ap _ (List.getElem_mem hlt)
   obtain ⟨p,hp⟩ : ∃ p,p = F.ap[k]:=⟨_,rfl⟩
   rw [← hp] at p0 p1 p2 hpc
   have x0:=((uh hbw).cell (World.block_lt_of_cell? w _ p0)).trans p0
   have x1:=((uh hbw).cell (World.block_lt_of_cell? w _ p1)).trans p1
   have x2:=((uh hbw).cell (World.block_lt_of_cell? w _ p2)).trans p2
   have HP:=hide hp
   have hr:=((uh H).below (uh hbw)).below (below_boxQ wr (.cells #[Value.int .i64 p.k,.int .i64 p.l,.int .i64 p.r] 182))
   have vl:=hr.cv hpc.1
   have vr:=hr.cv hpc.2
   obtain ⟨oa,hoa⟩ : ∃ oa,oa = val.getD p.l none:=⟨_,rfl⟩
   obtain ⟨ob,hob⟩ : ∃ ob,ob = val.getD p.r none:=⟨_,rfl⟩
   have hna : ∀ a,oa = some a → 0 ≤ a:=fun a ha=>(uh H).vn p.l a (by rw [← hoa]; exact ha)
   have hnb : ∀ a,ob = some a → 0 ≤ a:=fun a ha=>(uh H).vn p.r a (by rw [← hob]; exact ha)
   rw [← hoa] at vl
   rw [← hob] at vr
   have HB2 : Hid (Below w.heap.size w (wr.alloc (.cells #[Value.int .i64 p.k,.int .i64 p.l,.int .i64 p.r] 182))):=hide ((uh hbw).alloc (uh hbw).size _)
   have HD : Hid (dfP1 val p = (p.l != p.r && dfO oa ob)):=hide (by unfold dfP1; rw [← hoa,← hob])
   obtain ⟨hpl,hpr⟩:=hpc
   clear hcel p0 p1 p2 hr hoa hob hp
   by_cases hlr : p.l = p.r
   ·have he : ((p.l : Int) == (p.r : Int)) = true:=by rw [nat_beq]; simpa using hlr
    have HE : Hid (dfH F.ap val = false):=hide (dfH_here hlt (by rw [← uh HP,uh HD]; simp [hlr]))
    clear hlr hna hnb
    go_wp2_with fail
    go_ret
    exact ⟨ret_bool (uh HE).symm,uh HB2⟩
   ·have he : ((p.l : Int) == (p.r : Int)) = false:=by rw [nat_beq]; simpa using hlr
    have hne : (p.l != p.r) = true:=by simpa [bne] using hlr
    rw [hne] at HD
    clear hlr hne
    cases oa with
    | none =>
     have HE : Hid (dfP1 val p = true):=hide (by rw [uh HD]; rfl)
     have hv0 : ((-1 : Int) != -1) = false:=by decide
     clear hna hnb
     simp only [Option.getD_none] at vl
     go_wp2_with fail
     go_quiet (fail)
     go_wp2_with fail
     go_roundw
     case rel=>exact ⟨k + 1,by omega,by go_num,hide (fun j hj hjk=>by
      by_cases e : j = k
      ·subst e; rw [← uh HP]; exact uh HE
      ·exact uh hall j hj (by omega)),hide ⟨(uh HB2).os,(uh HB2).tape,(uh HB2).output,by simpa using (uh HB2).size,fun k hk=>by simpa using (uh HB2).block k hk⟩⟩
     case measure=>simp [intOf]; omega
    | some a =>
     have ha0:=hna a rfl
     have hv0 : (a != (-1 : Int)) = true:=by simp [bne]; omega
     simp only [Option.getD_some] at vl
     obtain ⟨b,hb⟩ : ∃ b,b = ob.getD (-1):=⟨_,rfl⟩
     rw [← hb] at vr
     have HDb : Hid (dfP1 val p = !(a == b)):=hide (by
      rw [uh HD,hb]
      unfold dfO
      cases ob with
      | none =>
       have : (a == (-1 : Int)) = false:=by rw [beq_eq_false_iff_ne]; omega
       show (true && ((none : Option Int) != some a)) = !(a == (-1 : Int))
       rw [this]; rfl
      | some c=>simp only [Bool.true_and,Option.getD_some]; rw [Bool.eq_iff_iff]; simp; exact ⟨fun h e=>h e.symm,fun h e=>h e.symm⟩)
     clear hna hnb hb
     cases hab : (a == b) with
     | true =>
      have HE : Hid (dfH F.ap val = false):=hide (dfH_here hlt (by rw [← uh HP,uh HDb,hab]; rfl))
      go_wp2_with fail
      go_quiet (fail)
      go_wp2_with fail
      go_ret
      exact ⟨ret_bool (uh HE).symm,⟨(uh HB2).os,(uh HB2).tape,(uh HB2).output,by simpa using (uh HB2).size,fun k hk=>by simpa using (uh HB2).block k hk⟩⟩
     | false =>
      have HE : Hid (dfP1 val p = true):=hide (by rw [uh HDb,hab]; rfl)
      go_wp2_with fail
      go_quiet (fail)
      go_wp2_with fail
      go_roundw
      case rel=>exact ⟨k + 1,by omega,by go_num,hide (fun j hj hjk=>by
       by_cases e : j = k
       ·subst e; rw [← uh HP]; exact uh HE
       ·exact uh hall j hj (by omega)),hide ⟨(uh HB2).os,(uh HB2).tape,(uh HB2).output,by simpa using (uh HB2).size,fun k hk=>by simpa using (uh HB2).block k hk⟩⟩
      case measure=>simp [intOf]; omega
  ·have hd : decide ((k : Int) < (F.ap.length : Int)) = false:=by simp; omega
   have HE : Hid (dfH F.ap val = true):=hide (dfH_all (fun j hj=>uh hall j hj (by omega)))
   go_wp2_with fail
   go_ret
   exact ⟨ret_bool (uh HE).symm,uh hbw⟩
end
section
variable {w w' : World} {y : HL} {F : CF} {l : List (Int × Int)} {val : List (Option Int)} {fr : List Bool}
def HPo (w : World) (y : HL) (F : CF) (l : List (Int × Int)) (val : List (Option Int)) (fr : List Bool) (b : Bool) (e : Ending) (w' : World) : Prop :=
 ∃ val',e = .returned (.bool b) ∧ Hw w' y F l val' fr ∧ (b = false → val' = val) ∧ Stp y.fp w y.fp w'
def adL (l : List (Int × Int)) : List Int:=l.map (·.1)
def nxL (l : List (Int × Int)) : List Int:=l.map (·.2)
def FillC (y : HL) (F : CF) (l : List (Int × Int)) (r : List Pr) : Prop:=∀ (w : World) (k : Nat) (val : List (Option Int)) (fr : List Bool),Hw w y F l val fr → F.ow.drop k = r → k ≤ F.ow.length →
 Calls Tryz.prog 147 #[.pointer (some ⟨y.q,0,none⟩),.int .i64 k] w (HPo w y F l val fr (flH F.ap (fdA l) (adL l) (nxL l) r val fr))
theorem Hw.mem : y.q ∈ y.fp:=by simp [HL.fp]
theorem set_back {val : List (Option Int)} {r : Nat} {a : Option Int} : (val.set r a).set r (val.getD r none) = val:=by
 rw [List.set_set]
 apply List.ext_getElem
 ·simp
 ·intro j h1 h2
  rw [List.getElem_set]
  split
  ·rename_i h; subst h; simp [h2]
  ·rfl
set_option maxRecDepth 100000 in
set_option maxHeartbeats 2000000 in
theorem hend_any (h : Hw w y F l val fr) (hF : FOk F) {k : Nat} (hk : k < F.ow.length) (n : Int) (hn : 0 ≤ n) (hC : FillC y F l (F.ow.drop (k + 1))) :
  Calls Tryz.prog 204 #[.pointer (some ⟨y.q,0,none⟩),.int .i64 k,.int .i64 n] w (HPo w y F l val fr (enH (flH F.ap (fdA l) (adL l) (nxL l) (F.ow.drop (k + 1))) F.ow[k].r val fr n)):=by
 have H:=hide h
 have c0:=h.c0
 have f6:=h.ff.c6
 obtain ⟨ao,cap,hov,hcm',hcn,hcell⟩:=pr_of_own h.ff.ow
 have hcm : cap ≤ 9223372036854775807:=by unfold maxLen at hcm'; omega
 rw [hov] at f6
 obtain ⟨g,hao,hcel⟩:=hcell (by intro h; rw [h] at hk; simp at hk)
 subst hao
 obtain ⟨-,-,p2⟩:=hcel k hk
 have hpr:=(hF.ow _ (List.getElem_mem hk)).2
 have hlo:=hF.lo
 obtain ⟨r,hr⟩ : ∃ r,r = F.ow[k].r:=⟨_,rfl⟩
 rw [← hr] at p2 hpr ⊢
 have v1:=h.cv hpr
 have z1:=h.bk.frz (1 + r)
 obtain ⟨o,ho⟩ : ∃ o,o = val.getD r none:=⟨_,rfl⟩
 rw [← ho] at v1
 have hno : ∀ b,o = some b → 0 ≤ b:=fun b hb=>h.vn r b (by rw [← ho]; exact hb)
 have HO:=hide ho
 have hset:=h.setV hpr (some n) (fun b hb=>by cases hb; exact hn)
 have HK1 : Hid (∀ W,Hw W y F l (val.set r (some n)) fr → Calls Tryz.prog 147 #[.pointer (some ⟨y.q,0,none⟩),.int .i64 ((k : Int) + 1)] W (HPo W y F l (val.set r (some n)) fr (flH F.ap (fdA l) (adL l) (nxL l) (F.ow.drop (k + 1)) (val.set r (some n)) fr))):=hide (fun W hW=>hC W (k + 1) _ _ hW rfl (by omega))
 have HSet:=hide hset
 have HS1 : Hid (Stp y.fp w y.fp (w.setCell ⟨y.q,1 + r,none⟩ (.int .i64 n))):=hide ((Stp.refl y.fp w).setCell (p:=⟨y.q,1 + r,none⟩) (Or.inl Hw.mem) _)
 have HN : Hid (∀ b,o = some b → 0 ≤ b):=hide hno
 clear h hcm' hcell hcel hr ho hset hC hF hno
 by_cases hbad : ∃ b,o = some b ∧ b ≠ n
 ·obtain ⟨b,rfl,hbn⟩:=hbad
  have HE : Hid (enH (flH F.ap (fdA l) (adL l) (nxL l) (F.ow.drop (k + 1))) r val fr n = false):=hide (by unfold enH; rw [← uh HO]; simp only; rw [if_neg hbn])
  have hb0 : (b != (-1 : Int)) = true:=by have:=uh HN b rfl; simp [bne]; omega
  have hb1 : (b != n) = true:=by simpa [bne] using hbn
  simp only [Option.getD_some] at v1
  clear hbn
  go_enter Tryz.func204,Tryz.ntmps204
  go_wp2_with fail
  go_ret
  exact ⟨val,by rw [uh HE]; rfl,uh H,fun _=>rfl,Stp.refl _ _⟩
 ·have HE : Hid (enH (flH F.ap (fdA l) (adL l) (nxL l) (F.ow.drop (k + 1))) r val fr n = flH F.ap (fdA l) (adL l) (nxL l) (F.ow.drop (k + 1)) (val.set r (some n)) fr):=hide (by
   unfold enH; rw [← uh HO]
   cases o with
   | none=>rfl
   | some b =>
    simp only
    rw [if_pos (Classical.byContradiction fun e=>hbad ⟨b,rfl,e⟩)])
  obtain ⟨x,hx⟩ : ∃ x,x = o.getD (-1):=⟨_,rfl⟩
  have hx1 : (x != (-1 : Int)) = false ∨ ((x != (-1 : Int)) = true ∧ (x != n) = false):=by
   cases o with
   | none=>exact Or.inl (by rw [hx]; rfl)
   | some b =>
    refine Or.inr ⟨?_,?_⟩
    ·have:=uh HN b rfl
     rw [hx]; simp [bne]; omega
    ·have : b = n:=Classical.byContradiction fun e=>hbad ⟨b,rfl,e⟩
     rw [hx]; simpa [bne] using this
  rw [← hx] at v1
  have HX:=hide hx
  obtain ⟨B,hB⟩ : ∃ B,B = flH F.ap (fdA l) (adL l) (nxL l) (F.ow.drop (k + 1)) (val.set r (some n)) fr:=⟨_,rfl⟩
  rw [← hB] at HE HK1
  clear hbad hx hB
  rcases hx1 with hx1 | ⟨hx1,hx2⟩
  all_goals
   go_enter Tryz.func204,Tryz.ntmps204
   go_wp2_with fail
   refine (uh HK1 _ (uh HSet)).mono ?_
   rintro e w3 ⟨val',rfl,h3,hv3,hs3⟩
   have v3:=h3.cv hpr
   have z3:=h3.bk.frz (1 + r)
   have H4:=hide (h3.setV hpr o (uh HN))
   rw [← uh HX] at H4
   have HS4:=hide (((uh HS1).trans hs3).setCell (p:=⟨y.q,1 + r,none⟩) (Or.inl Hw.mem) (.int .i64 x))
   have HV3:=hide hv3
   clear h3 hv3 hs3
   go_wp2_with fail
   go_ret
   exact ⟨_,by rw [uh HE]; rfl,uh H4,fun hb=>by rw [uh HE] at hb; rw [uh HV3 hb,uh HO]; exact set_back,uh HS4⟩
end
section
variable {w w' : World} {y : HL} {F : CF} {l : List (Int × Int)} {val : List (Option Int)} {fr : List Bool}
theorem cnt_set {fr : List Bool} {i : Nat} (h : fr.getD i false = true) : (fr.set i false).count true + 1 = fr.count true:=by
 have hi : i < fr.length:=by
  rcases Nat.lt_or_ge i fr.length with h1 | h1
  ·exact h1
  ·simp [List.getD,List.getElem?_eq_none h1] at h
 have e : fr[i] = true:=by simpa [hi] using h
 have h1:=List.count_set (a:=false) (b:=true) (l:=fr) hi
 have h2 : 0 < fr.count true:=List.count_pos_iff.2 (by rw [← e]; exact List.getElem_mem hi)
 rw [e] at h1
 simp at h1
 omega
theorem usC_set (fr : List Bool) (i : Nat) (b : Bool) : (usC fr).set i (.bool (!b)) = usC (fr.set i b):=by simp [usC,List.map_set]
theorem set_set_back {fr : List Bool} {i : Nat} (h : fr.getD i false = true) : (fr.set i false).set i true = fr:=by
 rw [List.set_set]
 apply List.ext_getElem
 ·simp
 ·intro j h1 h2
  rw [List.getElem_set]
  split
  ·rename_i e; subst e; simpa [h2] using h.symm
  ·rfl
theorem Hw.mark (h : Hw w y F l val fr) {U n cap : Nat} (hu : y.uv = .slice (some ⟨U,0,none⟩) n cap) (i : Nat) (b : Bool) : Hw ((w.setCell ⟨U,i,none⟩ (.bool (!b))).setCell ⟨y.q,27,none⟩ (.int .i64 (((fr.set i b).count true : Nat) : Int))) y F l val (fr.set i b) ∧ Stp y.fp w y.fp ((w.setCell ⟨U,i,none⟩ (.bool (!b))).setCell ⟨y.q,27,none⟩ (.int .i64 (((fr.set i b).count true : Nat) : Int))):=by
 have hU : y.uv.ownBlock = some U:=by rw [hu]; rfl
 have hUq : U ≠ y.q:=fun e=>h.nd (by rw [hU,e])
 have hUf : U ∈ y.fp:=by simp [HL.fp,hU]
 have ho : ∀ k,k ∉ y.fp → ((w.setCell ⟨U,i,none⟩ (.bool (!b))).setCell ⟨y.q,27,none⟩ (.int .i64 (((fr.set i b).count true : Nat) : Int))).heap[k]? = w.heap[k]?:=fun k hk=>by
  rw [Below.heap_setCell _ _ _ _ (by rintro rfl; exact hk Hw.mem),Below.heap_setCell _ _ _ _ (by rintro rfl; exact hk hUf)]
 refine ⟨⟨?_,h.lv,?_,h.nd,h.ff.of_eq (fun k hk=>ho k (h.df k hk)),(World.cell?_of_block (a:=⟨y.X,y.o,none⟩) (ho _ h.dX)).trans h.hc,ownsRow_of_eq h.hr (fun k hk=>ho k (h.dh k hk)),h.srt,h.df,h.dX,h.dh,by simpa using h.lf,h.ll,h.vn⟩,?_⟩
 ·have h1:=(h.bk.setO (p:=⟨U,i,none⟩) hUq (.bool (!b))).set 27 (.int .i64 (((fr.set i b).count true : Nat) : Int))
  have e : (hqC y.f val y.X y.o y.uv (fr.count true)).set 27 (.int .i64 (((fr.set i b).count true : Nat) : Int)) = hqC y.f val y.X y.o y.uv ((fr.set i b).count true):=by
   unfold hqC
   rw [List.set_cons_succ,List.set_append_right _ _ (by simp [h.lv])]
   simp [h.lv]
  rw [e] at h1
  exact h1
 ·have h1:=h.us
  have hn : n = fr.length:=by
   obtain ⟨_,_,e,_⟩:=own_slc h1
   rw [hu] at e; cases e; rfl
  rw [hu,hn] at h1 ⊢
  have h2:=(h1.stored i (.bool (!b))).1
  rw [usC_set] at h2
  rw [List.length_set]
  exact own_setO (p:=⟨y.q,27,none⟩) h2 (by simpa [Value.ownBlock] using hUq) _
 ·exact ((Stp.refl y.fp w).setCell (p:=⟨U,i,none⟩) (Or.inl hUf) _).setCell (p:=⟨y.q,27,none⟩) (Or.inl Hw.mem) _
def WalkC (y : HL) (F : CF) (l : List (Int × Int)) (k : Nat) (hk : k < F.ow.length) (m : Nat) : Prop:=∀ (w : World) (val : List (Option Int)) (fr : List Bool) (a : Int),Hw w y F l val fr → fr.count true < m →
 Calls Tryz.prog 175 #[.pointer (some ⟨y.q,0,none⟩),.int .i64 k,.int .i64 a] w (HPo w y F l val fr (wkH (enH (flH F.ap (fdA l) (adL l) (nxL l) (F.ow.drop (k + 1))) F.ow[k].r val) (fdA l) (nxL l) (F.ow[k].k == 4) m fr a))
theorem run_fieldC (w : World) (a b : Int) : (Instr.field 231 (.agg #[.int .i64 a,.int .i64 b]) 1).run Tryz.prog w = .ok (.int .i64 b) w:=by kernel_rfl
set_option maxRecDepth 100000 in
set_option maxHeartbeats 4000000 in
theorem hwalk_any (hF : FOk F) (hv : ∀ c ∈ l,0 ≤ c.1 ∧ 0 ≤ c.2) {k : Nat} (hk : k < F.ow.length) (hC : FillC y F l (F.ow.drop (k + 1))) : ∀ m,WalkC y F l k hk m:=by
 intro m
 induction m with
 | zero=>intro w val fr a _ h; omega
 | succ m ih =>
  intro w val fr a h hcm
  have H:=hide h
  have c25:=h.c25
  have HFd:=hide (cfind_any a h.hc h.hr h.srt)
  have HIH:=hide ih
  have HFo:=hide hF
  have HCC:=hide hC
  have HV:=hide hv
  have hll:=h.ll
  have hlf:=h.lf
  have HLF:=hide hlf
  cases hf : fdA l a with
  | none =>
   have HE : Hid (wkH (enH (flH F.ap (fdA l) (adL l) (nxL l) (F.ow.drop (k + 1))) F.ow[k].r val) (fdA l) (nxL l) (F.ow[k].k == 4) (m + 1) fr a = false):=hide (by rw [wkH,hf])
   have e : fdI l a = -1:=by unfold fdI; rw [hf]
   rw [e] at HFd
   clear h ih hF hC hv hf e hlf
   go_enter Tryz.func175,Tryz.ntmps175
   go_wp2_with fail
   refine (uh HFd).mono ?_
   rintro e w2 ⟨rfl,rfl⟩
   go_wp2_with fail
   go_ret
   exact ⟨val,by rw [uh HE]; rfl,uh H,fun _=>rfl,Stp.refl _ _⟩
  | some i =>
   have e : fdI l a = (i : Int):=by unfold fdI; rw [hf]
   rw [e] at HFd
   obtain ⟨hi,-⟩:=fdA_some hf
   obtain ⟨U,ucap,hu,hun,hum,hul⟩:=own_pos h.us (by omega)
   have c26:=h.c26
   have c27:=h.c27
   have z27:=h.bk.frz 27
   have hus:=h.us
   rw [hu] at c26 hus
   have x:=hus.cellAt i (by omega)
   have hx : (usC fr)[i]? = some (.bool (!(fr.getD i false))):=by
    have : i < fr.length:=by omega
    simp [usC,this]
   rw [hx] at x
   have zx:=hus.frozenAt i
   have HU:=hide hu
   have hUq : ¬ (U = y.q):=fun e=>h.nd (by rw [hu,e]; rfl)
   have hUq2 : ¬ (y.q = U):=fun e=>hUq e.symm
   cases hfr : fr.getD i false with
   | false =>
    have HE : Hid (wkH (enH (flH F.ap (fdA l) (adL l) (nxL l) (F.ow.drop (k + 1))) F.ow[k].r val) (fdA l) (nxL l) (F.ow[k].k == 4) (m + 1) fr a = false):=hide (by rw [wkH,hf]; simp only; rw [hfr]; simp)
    rw [hfr] at x
    have hif : i < fr.length:=by omega
    clear h ih hF hC hv hf e hus hx hfr hu c27 z27 hlf
    go_enter Tryz.func175,Tryz.ntmps175
    go_wp2_with fail
    refine (uh HFd).mono ?_
    rintro e w2 ⟨rfl,rfl⟩
    go_wp2_with fail
    go_ret
    exact ⟨val,by rw [uh HE]; rfl,uh H,fun _=>rfl,Stp.refl _ _⟩
   | true =>
    have hcnt:=cnt_set hfr
    obtain ⟨n,hn⟩ : ∃ n,n = (fr.set i false).count true:=⟨_,rfl⟩
    rw [← hn] at hcnt
    have hn1 : n ≤ 100000:=by
     have:=List.count_le_length (a:=true) (l:=fr)
     omega
    rw [← hcnt] at c27
    obtain ⟨nx,hnx⟩ : ∃ nx,nx = l[i].2:=⟨_,rfl⟩
    have hnx0 : 0 ≤ nx:=by rw [hnx]; exact (hv _ (List.getElem_mem hi)).2
    obtain ⟨h2,hs2⟩:=h.mark hu i false
    rw [← hn] at h2 hs2
    have HE : Hid (wkH (enH (flH F.ap (fdA l) (adL l) (nxL l) (F.ow.drop (k + 1))) F.ow[k].r val) (fdA l) (nxL l) (F.ow[k].k == 4) (m + 1) fr a = (enH (flH F.ap (fdA l) (adL l) (nxL l) (F.ow.drop (k + 1))) F.ow[k].r val (fr.set i false) nx || (F.ow[k].k == 4 && wkH (enH (flH F.ap (fdA l) (adL l) (nxL l) (F.ow.drop (k + 1))) F.ow[k].r val) (fdA l) (nxL l) (F.ow[k].k == 4) m (fr.set i false) nx))):=hide (by
     rw [wkH,hf]; simp only; rw [if_pos hfr]
     have : (nxL l).getD i 0 = nx:=by simp [nxL,hi,hnx]
     rw [this])
    have HA:=hide (cat_any i hi h2.hc h2.hr)
    rw [← hnx] at HA
    generalize l[i].1 = ad0 at HA
    have HBK : Hid ((fr.set i false).set i true = fr):=hide (set_set_back hfr)
    have HCN : Hid (((fr.set i false).set i true).count true = n + 1):=hide (by rw [set_set_back hfr]; exact hcnt.symm)
    have HLE : Hid ((fr.set i false).count true < m):=hide (by rw [← hn]; omega)
    have e26:=h2.c26
    rw [hu] at e26
    have H2:=hide h2
    have HS2:=hide hs2
    rw [hfr] at x
    have HHN:=hide hn
    have hif : i < fr.length:=by omega
    clear h ih hF hC hv hf e hus hx hfr hu h2 hs2 hn hnx hcnt hlf
    go_enter Tryz.func175,Tryz.ntmps175
    go_wp2_with fail
    refine (uh HFd).mono ?_
    rintro e w2 ⟨rfl,rfl⟩
    have q25:=(uh H2).c25
    go_wp2_with fail
    refine (uh HA).mono ?_
    rintro e w3 ⟨rfl,hb3⟩
    have h3:=(uh H2).below hb3
    have HS3:=hide ((uh HS2).trans (Stp.ofBw hb3))
    have H3:=hide h3
    have HEn:=hide (hend_any h3 (uh HFo) hk nx hnx0 (uh HCC))
    have hfld:=run_fieldC w3 ad0 nx
    clear hb3 h3 q25
    go_wp2_with fail
    refine (uh HEn).mono ?_
    rintro e w4 ⟨val4,rfl,h4,hv4,hs4⟩
    have HS4:=hide ((uh HS3).trans hs4)
    obtain ⟨b1,hb1⟩ : ∃ b1,b1 = enH (flH F.ap (fdA l) (adL l) (nxL l) (F.ow.drop (k + 1))) F.ow[k].r val (fr.set i false) nx:=⟨_,rfl⟩
    rw [← hb1] at hv4 HE ⊢
    -- the cell is given back
    have hback : ∀ (W : World) (v' : List (Option Int)),Hw W y F l v' (fr.set i false) → Hw ((W.setCell ⟨U,i,none⟩ (.bool false)).setCell ⟨y.q,27,none⟩ (.int .i64 ((n : Int) + 1))) y F l v' fr ∧ Stp y.fp W y.fp ((W.setCell ⟨U,i,none⟩ (.bool false)).setCell ⟨y.q,27,none⟩ (.int .i64 ((n : Int) + 1))):=by
     intro W v' hW
     have:=hW.mark (uh HU) i true
     rw [uh HCN,uh HBK] at this
     exact this
    have hfac : ∀ (W : World) (v' : List (Option Int)),Hw W y F l v' (fr.set i false) → W.cell? ⟨y.q,26,none⟩ = some (.slice (some ⟨U,0,none⟩) fr.length ucap) ∧ (∃ u,W.cell? ⟨U,i,none⟩ = some u) ∧ W.frozen? ⟨U,i,none⟩ = false ∧ W.cell? ⟨y.q,27,none⟩ = some (.int .i64 (n : Int)) ∧ W.frozen? ⟨y.q,27,none⟩ = false:=by
     intro W v' hW
     have a26:=hW.c26
     have a27:=hW.c27
     have aus:=hW.us
     rw [uh HU] at a26 aus
     rw [← uh HHN] at a27
     rw [List.length_set] at aus
     refine ⟨a26,?_,aus.frozenAt i,a27,hW.bk.frz 27⟩
     rw [aus.cellAt i (by omega)]
     exact ⟨_,List.getElem?_eq_getElem (by simp [usC]; omega)⟩
    have HBa:=hide hback
    have HFc:=hide hfac
    clear hb1 hback hfac
    cases b1 with
    | true =>
     obtain ⟨y26,⟨u,yu⟩,yz,y27,yz27⟩:=uh HFc _ _ h4
     obtain ⟨h5,hs5⟩:=uh HBa _ _ h4
     have H5:=hide h5
     have HS5:=hide ((uh HS4).trans hs5)
     clear h4 hv4 hs4 h5 hs5
     go_wp2_with fail
     go_ret
     exact ⟨val4,by rw [uh HE]; rfl,uh H5,fun hb=>by rw [uh HE] at hb; simp at hb,uh HS5⟩
    | false =>
     have hv4':=hv4 rfl
     subst hv4'
     rw [Bool.false_or] at HE
     have f0:=h4.c0
     have f6:=h4.ff.c6
     obtain ⟨oao,ocap,hov,hocm',hocn,hocell⟩:=pr_of_own h4.ff.ow
     have hocm : ocap ≤ 9223372036854775807:=by unfold maxLen at hocm'; omega
     rw [hov] at f6
     obtain ⟨og,hoao,hocel⟩:=hocell (by intro h; rw [h] at hk; simp at hk)
     subst hoao
     obtain ⟨p0,-,-⟩:=hocel k hk
     have hlo:=(uh HFo).lo
     have HW4:=hide (uh HIH w4 val4 (fr.set i false) nx h4 (uh HLE))
     have H4:=hide h4
     obtain ⟨kd,hkd⟩ : ∃ kd,kd = F.ow[k].k:=⟨_,rfl⟩
     obtain ⟨b2,hb2⟩ : ∃ b2,b2 = wkH (enH (flH F.ap (fdA l) (adL l) (nxL l) (F.ow.drop (k + 1))) F.ow[k].r val4) (fdA l) (nxL l) (F.ow[k].k == 4) m (fr.set i false) nx:=⟨_,rfl⟩
     rw [← hb2] at HW4 HE
     rw [← hkd] at p0
     have HKd:=hide hkd
     clear h4 hv4 hs4 hocell hocel hocm' hov hkd hb2
     by_cases hk4 : kd = 4
     ·have hk4' : ((kd : Int) == 4) = true:=by rw [hk4]; rfl
      have HE3 : Hid (wkH (enH (flH F.ap (fdA l) (adL l) (nxL l) (F.ow.drop (k + 1))) F.ow[k].r val4) (fdA l) (nxL l) (F.ow[k].k == 4) (m + 1) fr a = b2):=hide (by
       rw [uh HE]
       have : (F.ow[k].k == 4) = true:=by rw [← uh HKd,hk4]; rfl
       rw [this]; rfl)
      clear hk4 HE
      go_wp2_with fail
      refine (uh HW4).mono ?_
      rintro e w5 ⟨val5,rfl,h5,hv5,hs5⟩
      obtain ⟨y26,⟨u,yu⟩,yz,y27,yz27⟩:=uh HFc _ _ h5
      obtain ⟨h6,hs6⟩:=uh HBa _ _ h5
      have H6:=hide h6
      have HS6:=hide (((uh HS4).trans hs5).trans hs6)
      have HV5:=hide hv5
      clear h5 hv5 hs5 h6 hs6
      go_wp2_with fail
      go_ret
      exact ⟨val5,by rw [uh HE3]; rfl,uh H6,fun hb=>by rw [uh HE3] at hb; exact uh HV5 hb,uh HS6⟩
     ·have hk4' : ((kd : Int) == 4) = false:=by simp; omega
      have HE3 : Hid (wkH (enH (flH F.ap (fdA l) (adL l) (nxL l) (F.ow.drop (k + 1))) F.ow[k].r val4) (fdA l) (nxL l) (F.ow[k].k == 4) (m + 1) fr a = false):=hide (by
       rw [uh HE]
       have : (F.ow[k].k == 4) = false:=by rw [← uh HKd]; simpa using hk4
       rw [this]; rfl)
      obtain ⟨y26,⟨u,yu⟩,yz,y27,yz27⟩:=uh HFc _ _ (uh H4)
      obtain ⟨h6,hs6⟩:=uh HBa _ _ (uh H4)
      have H6:=hide h6
      have HS6:=hide ((uh HS4).trans hs6)
      clear hk4 h6 hs6 HE
      go_wp2_with fail
      go_ret
      exact ⟨val4,by rw [uh HE3]; rfl,uh H6,fun _=>rfl,uh HS6⟩
end
section
variable {w w' : World} {y : HL} {F : CF} {l : List (Int × Int)} {val : List (Option Int)} {fr : List Bool}
theorem any_count (fr : List Bool) : (!fr.any id) = decide (fr.count true = 0):=by
 induction fr with
 | nil=>rfl
 | cons b r ih =>
  cases b with
  | true=>simp
  | false=>simpa using ih
theorem adL_get {i : Nat} (h : i < l.length) : (adL l)[i]'(by simpa [adL] using h) = l[i].1:=by simp [adL]
theorem set2 {val : List (Option Int)} {c : Nat} {a b : Option Int} : (val.set c a).set c b = val.set c b:=List.set_set ..
theorem set_none {val : List (Option Int)} {c : Nat} (h : val.getD c none = none) : val.set c none = val:=by
 have:=set_back (val:=val) (r:=c) (a:=none)
 rw [h,List.set_set] at this
 exact this
theorem drop_cons {α : Type} {L : List α} {k : Nat} {p : α} {r : List α} (h : L.drop k = p :: r) : ∃ hk : k < L.length,L[k] = p ∧ L.drop (k + 1) = r:=by
 have hk : k < L.length:=by
  rcases Nat.lt_or_ge k L.length with h1 | h1
  ·exact h1
  ·rw [List.drop_eq_nil_of_le h1] at h; cases h
 rw [List.drop_eq_getElem_cons hk] at h
 injection h with h1 h2
 exact ⟨hk,h1,h2⟩
set_option maxRecDepth 100000 in
set_option maxHeartbeats 4000000 in
theorem hfill_any (hF : FOk F) (hv : ∀ c ∈ l,0 ≤ c.1 ∧ 0 ≤ c.2) : ∀ r,FillC y F l r:=by
 intro r
 induction r with
 | nil =>
  intro w k val fr h hd hkl
  have hk : F.ow.length ≤ k:=by
   rcases Nat.lt_or_ge k F.ow.length with h1 | h1
   ·rw [List.drop_eq_getElem_cons h1] at hd; cases hd
   ·exact h1
  have H:=hide h
  have c0:=h.c0
  have f6:=h.ff.c6
  obtain ⟨ao,cap,hov,hcm',hcn,hcell⟩:=pr_of_own h.ff.ow
  have hcm : cap ≤ 9223372036854775807:=by unfold maxLen at hcm'; omega
  rw [hov] at f6
  have c27:=h.c27
  have HD:=hide (hdiff_any h hF)
  have HE : Hid (flH F.ap (fdA l) (adL l) (nxL l) [] val fr = (decide (fr.count true = 0) && dfH F.ap val)):=hide (by rw [flH,any_count])
  obtain ⟨n,hn⟩ : ∃ n,n = fr.count true:=⟨_,rfl⟩
  rw [← hn] at c27 HE
  obtain ⟨b,hb⟩ : ∃ b,b = dfH F.ap val:=⟨_,rfl⟩
  rw [← hb] at HD HE
  have hkI : (F.ow.length : Int) ≤ (k : Int):=by omega
  clear h hd hcell hcm' hov hn hb hF hv
  by_cases h0 : n = 0
  ·have h0' : ((n : Int) == 0) = true:=by rw [h0]; rfl
   have HE2 : Hid (flH F.ap (fdA l) (adL l) (nxL l) [] val fr = b):=hide (by rw [uh HE,h0]; simp)
   clear h0 HE
   go_enter Tryz.func147,Tryz.ntmps147
   go_wp2_with (go_at_call 174; refine (uh HD).mono ?_; rintro e w2 ⟨rfl,hb2⟩; have HB2:=hide hb2; clear hb2)
   go_ret
   exact ⟨val,by rw [uh HE2]; rfl,(uh H).below (uh HB2),fun _=>rfl,Stp.ofBw (uh HB2)⟩
  ·have h0' : ((n : Int) == 0) = false:=by simp; omega
   have HE2 : Hid (flH F.ap (fdA l) (adL l) (nxL l) [] val fr = false):=hide (by rw [uh HE]; simp [h0])
   clear h0 HE
   go_enter Tryz.func147,Tryz.ntmps147
   go_wp2_with fail
   go_ret
   exact ⟨val,by rw [uh HE2]; rfl,uh H,fun _=>rfl,Stp.refl _ _⟩
 | cons p r ih =>
  intro w k val fr h hd hkl
  obtain ⟨hk,hp,hr⟩:=drop_cons hd
  have HWk : Hid (∀ m,WalkC y F l k hk m):=hide (hwalk_any hF hv hk (by rw [hr]; exact ih))
  have H:=hide h
  have c0:=h.c0
  have f6:=h.ff.c6
  obtain ⟨ao,cap,hov,hcm',hcn,hcell⟩:=pr_of_own h.ff.ow
  have hcm : cap ≤ 9223372036854775807:=by unfold maxLen at hcm'; omega
  rw [hov] at f6
  obtain ⟨g,hao,hcel⟩:=hcell (by intro h; rw [h] at hk; simp at hk)
  subst hao
  obtain ⟨-,p1,-⟩:=hcel k hk
  have hpl:=(hF.ow _ (List.getElem_mem hk)).1
  have hlo:=hF.lo
  rw [hp] at p1 hpl
  obtain ⟨c,hc⟩ : ∃ c,c = p.l:=⟨_,rfl⟩
  rw [← hc] at p1 hpl
  have v1:=h.cv hpl
  have hfu : fr.count true < (adL l).length + 1:=by
   have h1:=List.count_le_length (a:=true) (l:=fr)
   have h2:=h.lf
   simp only [adL,List.length_map]
   omega
  have hll:=h.ll
  have HVn:=hide h.vn
  cases hov1 : val.getD c none with
  | some a =>
   have HE : Hid (flH F.ap (fdA l) (adL l) (nxL l) (p :: r) val fr = wkH (enH (flH F.ap (fdA l) (adL l) (nxL l) (F.ow.drop (k + 1))) F.ow[k].r val) (fdA l) (nxL l) (F.ow[k].k == 4) ((adL l).length + 1) fr a):=hide (by rw [flH,← hc,hov1,hr,hp])
   have ha0:=h.vn c a hov1
   rw [hov1] at v1
   simp only [Option.getD_some] at v1
   have hna : (a != (-1 : Int)) = true:=by simp [bne]; omega
   have HW1:=hide (uh HWk _ w val fr a h hfu)
   rw [← uh HE] at HW1
   clear h hd hkl hp hr hov hcell hcel hcm' hc hov1 ih hF hv HWk HE
   go_enter Tryz.func147,Tryz.ntmps147
   go_wp2_with fail
   refine (uh HW1).mono ?_
   rintro e w2 ⟨val',rfl,h2,hv2,hs2⟩
   have H2:=hide h2
   have HV2:=hide hv2
   have HS2:=hide hs2
   clear h2 hv2 hs2
   go_wp2_with fail
   go_ret
   exact ⟨val',rfl,uh H2,uh HV2,uh HS2⟩
  | none =>
   have HE : Hid (flH F.ap (fdA l) (adL l) (nxL l) (p :: r) val fr = (adL l).any (fun a=>wkH (enH (flH F.ap (fdA l) (adL l) (nxL l) (F.ow.drop (k + 1))) F.ow[k].r (val.set c (some a))) (fdA l) (nxL l) (F.ow[k].k == 4) ((adL l).length + 1) fr a)):=hide (by rw [flH,← hc,hov1,hr,hp])
   rw [hov1] at v1
   simp only [Option.getD_none] at v1
   have hna : ((-1 : Int) != (-1 : Int)) = false:=by decide
   have HNo:=hide hov1
   have hkI : decide ((F.ow.length : Int) ≤ (k : Int)) = false:=by simp; omega
   have hkN : decide (F.ow.length ≤ k) = false:=by simp; omega
   have HVv:=hide hv
   have HFu:=hide hfu
   clear h hd hkl hp hr hov hcell hcel hcm' hc hov1 ih hF hv hfu
   go_enter Tryz.func147,Tryz.ntmps147
   go_wp2_with fail
   go_loopw [7] (fun i wr=>∃ (j : Nat) (o : Option Int),j ≤ l.length ∧ i = .int .i64 j ∧ Hid (Hw wr y F l (val.set c o) fr) ∧ Hid (∀ t,(ht : t < l.length) → t < j → wkH (enH (flH F.ap (fdA l) (adL l) (nxL l) (F.ow.drop (k + 1))) F.ow[k].r (val.set c (some l[t].1))) (fdA l) (nxL l) (F.ow[k].k == 4) ((adL l).length + 1) fr l[t].1 = false) ∧ Hid (Stp y.fp w y.fp wr)) (fun i _=>l.length - (intOf i).toNat)
   case atStart=>exact ⟨0,none,Nat.zero_le _,rfl,hide (by rw [set_none (uh HNo)]; exact uh H),hide (fun _ _ h=>absurd h (by omega)),hide (Stp.refl _ _)⟩
   case round =>
    obtain ⟨j,o,hj,rfl,hH,hall,hst⟩:=hrel
    have q25:=(uh hH).c25
    have HLn:=hide (clen_any (uh hH).hc (uh hH).hr)
    by_cases hlt : j < l.length
    ·have hdj : decide ((j : Int) < (l.length : Int)) = true:=by simp; omega
     have HAt:=hide (cat_any j hlt (uh hH).hc (uh hH).hr)
     have ha0:=(uh HVv _ (List.getElem_mem hlt)).1
     obtain ⟨a,hA⟩ : ∃ a,a = l[j].1:=⟨_,rfl⟩
     rw [← hA] at HAt ha0
     generalize l[j].2 = nx0 at HAt
     have HAa:=hide hA
     clear hA
     go_wp2_with fail
     refine (uh HLn).mono ?_
     rintro e w2 ⟨rfl,rfl⟩
     go_wp2_with fail
     refine (uh HAt).mono ?_
     rintro e w3 ⟨rfl,hb3⟩
     have h4:=((uh hH).below hb3).below (below_boxQ w3 (.cells #[Value.int .i64 a,.int .i64 nx0] 231))
     have vq:=h4.cv hpl
     have zq:=h4.bk.frz (1 + c)
     have hqw : ¬ (y.q = w3.heap.size):=by have:=(((uh hH).below hb3).bk.lt); omega
     have hqw2 : ¬ (w3.heap.size = y.q):=fun e=>hqw e.symm
     have n0:=(Bk.new w3 231 [Value.int .i64 a,.int .i64 nx0]).cell 0 rfl
     have h5:=h4.setV hpl (some a) (fun b hb=>by cases hb; exact ha0)
     rw [set2] at h5
     have H5:=hide h5
     have HS5 : Hid (Stp y.fp w y.fp ((w3.alloc (.cells #[Value.int .i64 a,.int .i64 nx0] 231)).setCell ⟨y.q,1 + c,none⟩ (.int .i64 a))):=hide ((((uh hst).trans (Stp.ofBw hb3)).trans (Stp.ofBw (below_boxQ w3 _))).setCell (p:=⟨y.q,1 + c,none⟩) (Or.inl Hw.mem) _)
     have N5:=((Bk.new w3 231 [Value.int .i64 a,.int .i64 nx0]).setO (p:=⟨y.q,1 + c,none⟩) (fun e=>hqw e) (.int .i64 a)).cell 0 rfl
     clear h4 h5 hb3
     go_wp2_with fail
     go_region
     obtain ⟨w5,hw5⟩ : ∃ w5,w5 = ((w3.alloc (.cells #[Value.int .i64 a,.int .i64 nx0] 231)).setCell ⟨y.q,1 + c,none⟩ (.int .i64 a)).drew:=⟨_,rfl⟩
     rw [← hw5]
     have H5d : Hid (Hw w5 y F l (val.set c (some a)) fr):=hide (by rw [hw5]; exact (uh H5).of_eq (fun _ _=>rfl))
     have HS5d : Hid (Stp y.fp w y.fp w5):=hide (by rw [hw5]; exact (uh HS5).drew)
     have m0 : w5.cell? ⟨w3.heap.size,0,none⟩ = some (.int .i64 a):=by rw [hw5]; exact N5
     have HW5:=hide (uh HWk _ w5 (val.set c (some a)) fr a (uh H5d) (uh HFu))
     obtain ⟨b,hb⟩ : ∃ b,b = wkH (enH (flH F.ap (fdA l) (adL l) (nxL l) (F.ow.drop (k + 1))) F.ow[k].r (val.set c (some a))) (fdA l) (nxL l) (F.ow[k].k == 4) ((adL l).length + 1) fr a:=⟨_,rfl⟩
     rw [← hb] at HW5
     have HBb:=hide hb
     clear hw5 hb N5 n0 vq zq H5 HS5
     go_wp2_with fail
     refine (uh HW5).mono ?_
     rintro e w6 ⟨val6,rfl,h6,hv6,hs6⟩
     have HS6:=hide ((uh HS5d).trans hs6)
     cases b with
     | true =>
      have HE2 : Hid (flH F.ap (fdA l) (adL l) (nxL l) (p :: r) val fr = true):=hide (by
       rw [uh HE,List.any_eq_true]
       refine ⟨a,?_,(uh HBb).symm⟩
       rw [uh HAa,← adL_get hlt]
       exact List.getElem_mem _)
      have H6:=hide h6
      clear h6 hv6 hs6
      go_wp2_with fail
      go_ret
      exact ⟨val6,by rw [uh HE2]; rfl,uh H6,fun hb=>absurd hb (by rw [uh HE2]; simp),uh HS6⟩
     | false =>
      have hv6':=hv6 rfl
      subst hv6'
      have H6:=hide h6
      clear h6 hv6 hs6
      go_wp2_with fail
      go_roundw
      case rel=>exact ⟨j + 1,some a,by omega,by go_num,H6,hide (fun t ht htj=>by
       by_cases e : t = j
       ·subst e; rw [← uh HAa]; exact (uh HBb).symm
       ·exact uh hall t ht (by omega)),HS6⟩
      case measure=>simp [intOf]; omega
    ·have hdj : decide ((j : Int) < (l.length : Int)) = false:=by simp; omega
     have HE2 : Hid (flH F.ap (fdA l) (adL l) (nxL l) (p :: r) val fr = false):=hide (by
      rw [uh HE,List.any_eq_false]
      intro a ha
      obtain ⟨t,ht,rfl⟩:=List.mem_iff_getElem.1 ha
      have ht' : t < l.length:=by simpa [adL] using ht
      rw [adL_get ht',uh hall t ht' (by omega)]
      simp)
     have vq:=(uh hH).cv hpl
     have zq:=(uh hH).bk.frz (1 + c)
     have h5:=(uh hH).setV hpl none (fun b hb=>by cases hb)
     rw [set2,set_none (uh HNo)] at h5
     have H5:=hide h5
     have HS5:=hide ((uh hst).setCell (p:=⟨y.q,1 + c,none⟩) (Or.inl Hw.mem) (.int .i64 (-1)))
     clear h5
     go_wp2_with fail
     refine (uh HLn).mono ?_
     rintro e w2 ⟨rfl,rfl⟩
     go_wp2_with fail
     go_ret
     exact ⟨val,by rw [uh HE2]; rfl,uh H5,fun _=>rfl,uh HS5⟩
end
section
variable {w w' : World} {y : HL} {F : CF} {l : List (Int × Int)} {val : List (Option Int)} {fr : List Bool}
theorem rep_getD (n j : Nat) : (List.replicate n (none : Option Int)).getD j none = none:=by
 rw [List.getD_eq_getElem?_getD,List.getElem?_replicate]
 split <;> rfl
theorem all_none {v : List (Option Int)} {n : Nat} (hl : v.length = n) (h : ∀ j,j < n → v.getD j none = none) : v = List.replicate n none:=by
 rw [List.eq_replicate_iff]
 refine ⟨hl,fun x hx=>?_⟩
 obtain ⟨j,hj,rfl⟩:=List.mem_iff_getElem.1 hx
 have:=h j (by omega)
 simpa [hj] using this
def lnT (F : CF) (st : List Int) (j : Nat) : List (Nat × Int):=((List.range st.length).map (fun i=>(F.cl.getD (1 + i) 0,st.getD i 0))).drop j
theorem lnT_cons {F : CF} {st : List Int} {j : Nat} (h : j < st.length) : lnT F st j = (F.cl.getD (1 + j) 0,st.getD j 0) :: lnT F st (j + 1):=by
 unfold lnT
 rw [List.drop_eq_getElem_cons (by simpa using h)]
 simp
theorem lnT_end {F : CF} {st : List Int} {j : Nat} (h : st.length ≤ j) : lnT F st j = []:=by
 unfold lnT; exact List.drop_eq_nil_of_le (by simpa using h)
theorem stH_cons (c : Nat) (x : Int) (r : List (Nat × Int)) (val : List (Option Int)) : stH ((c,x) :: r) val = match val.getD c none with | some b=>if b = x then stH r (val.set c (some x)) else none | none=>stH r (val.set c (some x)):=rfl
set_option maxRecDepth 100000 in
set_option maxHeartbeats 4000000 in
theorem hset_any {st : List Int} {sv : Value} (h : Hw w y F l val fr) (hcl : ∀ i,i < 5 → F.cl.getD i 0 < 24) (hst : w.ownsRow 0 3 1 sv st.length (inV st)) (hls : st.length ≤ 4) (hds : ∀ k,sv.ownBlock = some k → k ∉ y.fp) (hsv : ∀ x ∈ st,0 ≤ x) :
  Calls Tryz.prog 146 #[.pointer (some ⟨y.q,0,none⟩),sv] w fun e w' =>
   (stH (lnH F st) (List.replicate 24 none) = none ∧ e = .returned (.bool false) ∧ Stp y.fp w y.fp w') ∨
   (∃ val',stH (lnH F st) (List.replicate 24 none) = some val' ∧ e = .returned (.bool true) ∧ Hw w' y F l val' fr ∧ Stp y.fp w y.fp w'):=by
 have H:=hide h
 have HST:=hide hst
 have HDS:=hide hds
 have HSV:=hide hsv
 have HCL:=hide hcl
 have HFr : Hid (∀ W,Stp y.fp w y.fp W → W.ownsRow 0 3 1 sv st.length (inV st)):=hide (fun W hW=>own_stp hst hW hds)
 obtain ⟨ao,cap,hsl,hcn,hcm⟩:=own_slc hst
 have HSL:=hide hsl
 rw [hsl]
 clear h hst hds hsv hcl hsl
 go_enter Tryz.func146,Tryz.ntmps146
 go_wp2_with fail
 go_loopw [5] (fun i wr=>∃ (k : Nat) (v : List (Option Int)),k ≤ 24 ∧ i = .int .i64 k ∧ Hid (Hw wr y F l v fr) ∧ Hid (∀ j,j < k → v.getD j none = none) ∧ Hid (Stp y.fp w y.fp wr)) (fun i _=>24 - (intOf i).toNat)
 case atStart=>exact ⟨0,val,by omega,rfl,H,hide (fun _ h=>absurd h (by omega)),hide (Stp.refl _ _)⟩
 case round =>
  obtain ⟨k,v,hk,rfl,hH,hall,hS⟩:=hrel
  by_cases hlt : k < 24
  ·have hd : decide ((k : Int) < 24) = true:=by simp; omega
   have vq:=(uh hH).cv hlt
   have zq:=(uh hH).bk.frz (1 + k)
   have H2:=hide ((uh hH).setV hlt none (fun b hb=>by cases hb))
   have HS2:=hide ((uh hS).setCell (p:=⟨y.q,1 + k,none⟩) (Or.inl Hw.mem) (.int .i64 (-1)))
   have HA2 : Hid (∀ j,j < k + 1 → (v.set k none).getD j none = none):=hide (fun j hj=>by
    rw [setO_getD]
    split
    ·rfl
    ·exact uh hall j (by
      rename_i hn
      have hl:=(uh hH).lv
      omega))
   go_wp2_with fail
   go_roundw
   case rel=>exact ⟨k + 1,v.set k none,by omega,by go_num,H2,HA2,HS2⟩
   case measure=>simp [intOf]; omega
  ·have hd : decide ((k : Int) < 24) = false:=by simp; omega
   have hk24 : k = 24:=by omega
   subst hk24
   have hv : v = List.replicate 24 none:=all_none (uh hH).lv (uh hall)
   rw [hv] at hH
   have c0:=(uh hH).c0
   have k0:=(uh hH).ff.cls (i:=0) (by omega)
   have hc0:=uh HCL 0 (by omega)
   unfold clV at k0
   obtain ⟨cc,hcc⟩ : ∃ cc,cc = F.cl.getD 0 0:=⟨_,rfl⟩
   rw [← hcc] at k0 hc0
   have vq:=(uh hH).cv hc0
   have zq:=(uh hH).bk.frz (1 + cc)
   have h2:=(uh hH).setV hc0 (some 0) (fun b hb=>by cases hb; omega)
   have HS2 : Hid (Stp y.fp w y.fp ((wr.setCell ⟨y.q,1 + cc,none⟩ (.int .i64 0)).drew)):=hide ((uh hS).setCell (p:=⟨y.q,1 + cc,none⟩) (Or.inl Hw.mem) _).drew
   have H2 : Hid (Hw (wr.setCell ⟨y.q,1 + cc,none⟩ (.int .i64 0)).drew y F l ((List.replicate 24 none).set cc (some 0)) fr):=hide (h2.of_eq (fun _ _=>rfl))
   have HE0 : Hid (stH (lnT F st 0) ((List.replicate 24 none).set cc (some 0)) = stH (lnH F st) (List.replicate 24 none)):=hide (by
    unfold lnH
    rw [stH_cons]
    rw [rep_getD,← hcc]
    unfold lnT
    rw [List.drop_zero])
   have i1 : (0 : Int) ≤ (cc : Int):=by omega
   have i2 : (cc : Int) < 24:=by omega
   clear h2 hv hcc hall
   go_wp2_with fail
   go_region
   obtain ⟨w2,hw2⟩ : ∃ w2,w2 = (wr.setCell ⟨y.q,1 + cc,none⟩ (.int .i64 0)).drew:=⟨_,rfl⟩
   rw [← hw2] at H2 HS2 ⊢
   clear hw2 hS hH
   go_wp2_with fail
   obtain ⟨TT,hTT⟩ : ∃ TT,TT = stH (lnH F st) (List.replicate 24 none):=⟨_,rfl⟩
   rw [← hTT] at HE0
   have HTT:=hide hTT
   clear hTT
   go_loopw [6] (fun i wr=>∃ (j : Nat) (v : List (Option Int)),j ≤ st.length ∧ i = .int .i64 j ∧ Hid (Hw wr y F l v fr) ∧ Hid (stH (lnT F st j) v = TT) ∧ Hid (Stp y.fp w y.fp wr)) (fun i _=>st.length - (intOf i).toNat)
   case atStart=>exact ⟨0,_,Nat.zero_le _,rfl,H2,HE0,HS2⟩
   case round =>
    clear H2 HE0 HS2 vq zq c0 k0 i1 i2 hc0
    obtain ⟨j,v,hj,rfl,hH,hE,hS⟩:=hrel
    by_cases hlt : j < st.length
    ·have hd1 : decide ((j : Int) < (st.length : Int)) = true:=by simp; omega
     have hd2 : decide ((j : Int) < 4) = true:=by simp; omega
     have c0:=(uh hH).c0
     have k0:=(uh hH).ff.cls (i:=1 + j) (by omega)
     have hc0:=uh HCL (1 + j) (by omega)
     unfold clV at k0
     have hEE:=uh hE
     rw [lnT_cons hlt] at hEE
     obtain ⟨cc,hcc⟩ : ∃ cc,cc = F.cl.getD (1 + j) 0:=⟨_,rfl⟩
     rw [← hcc] at k0 hc0 hEE
     obtain ⟨x,hx⟩ : ∃ x,x = st.getD j 0:=⟨_,rfl⟩
     rw [← hx] at hEE
     have hx0 : 0 ≤ x:=by rw [hx]; simp only [List.getD_eq_getElem?_getD,List.getElem?_eq_getElem hlt]; exact uh HSV _ (List.getElem_mem hlt)
     obtain ⟨g,cap',hv',-,-,hgl⟩:=own_pos (uh HST) (by omega)
     have hv2:=(uh HSL).symm.trans hv'
     cases hv2
     have hrow:=uh HFr _ (uh hS)
     rw [hv'] at hrow
     have xs:=(hrow.cellAt j (by omega)).trans (inV_get hlt)
     rw [← hx] at xs
     have vq:=(uh hH).cv hc0
     have zq:=(uh hH).bk.frz (1 + cc)
     have i1 : (0 : Int) ≤ (cc : Int):=by omega
     have i2 : (cc : Int) < 24:=by omega
     have i3 : (1 : Int) + (j : Int) < 5:=by omega
     obtain ⟨o,ho⟩ : ∃ o,o = v.getD cc none:=⟨_,rfl⟩
     rw [← ho] at vq
     rw [stH_cons,← ho] at hEE
     have hno : ∀ b,o = some b → 0 ≤ b:=fun b hb=>(uh hH).vn cc b (by rw [← ho]; exact hb)
     have H2 : Hid (∀ n,Hw ((wr.drewN n).setCell ⟨y.q,1 + cc,none⟩ (.int .i64 x)) y F l (v.set cc (some x)) fr):=hide (fun n=>((uh hH).below (below_drewQ wr n)).setV hc0 (some x) (fun b hb=>by cases hb; exact hx0))
     have HS2 : Hid (∀ n,Stp y.fp w y.fp ((wr.drewN n).setCell ⟨y.q,1 + cc,none⟩ (.int .i64 x))):=hide (fun n=>((uh hS).drewN n).setCell (p:=⟨y.q,1 + cc,none⟩) (Or.inl Hw.mem) _)
     by_cases hbad : ∃ b,o = some b ∧ b ≠ x
     ·obtain ⟨b,rfl,hbx⟩:=hbad
      have hb0:=hno b rfl
      have e1 : (b != (-1 : Int)) = true:=by simp [bne]; omega
      have e2 : (b != x) = true:=by simpa [bne] using hbx
      simp only [Option.getD_some] at vq
      simp only [if_neg hbx] at hEE
      have HR : Hid (TT = none):=hide hEE.symm
      clear hEE hcc hx hv' hrow ho hno hbx H2 HS2
      go_wp2_with fail
      go_quiet (fail)
      go_wp2_with fail
      go_ret
      exact Or.inl ⟨by rw [← uh HTT]; exact uh HR,rfl,(uh hS).drewN _⟩
     ·have HR : Hid (stH (lnT F st (j + 1)) (v.set cc (some x)) = TT):=hide (by
       rw [← hEE]
       cases o with
       | none=>rfl
       | some b =>
        simp only
        rw [if_pos (Classical.byContradiction fun e=>hbad ⟨b,rfl,e⟩)])
      obtain ⟨z,hz⟩ : ∃ z,z = o.getD (-1):=⟨_,rfl⟩
      have hz1 : (z != (-1 : Int)) = false ∨ ((z != (-1 : Int)) = true ∧ (z != x) = false):=by
       cases o with
       | none=>exact Or.inl (by rw [hz]; rfl)
       | some b =>
        refine Or.inr ⟨?_,?_⟩
        ·have:=hno b rfl
         rw [hz]; simp [bne]; omega
        ·have : b = x:=Classical.byContradiction fun e=>hbad ⟨b,rfl,e⟩
         rw [hz]; simpa [bne] using this
      rw [← hz] at vq
      clear hEE hcc hx hv' hrow ho hno hbad hz
      rcases hz1 with hz1 | ⟨hz1,hz2⟩
      all_goals
       go_wp2_with fail
       go_quiet (fail)
       go_wp2_with fail
       go_region
       go_wp2_with fail
       go_roundw
       case rel=>exact ⟨j + 1,_,by omega,by go_num,hide (uh H2 _),HR,hide (uh HS2 _)⟩
       case measure=>simp [intOf]; omega
    ·have hd1 : decide ((j : Int) < (st.length : Int)) = false:=by simp; omega
     have HR : Hid (TT = some v):=hide (by rw [← uh hE,lnT_end (by omega)]; rfl)
     go_wp2_with fail
     go_ret
     exact Or.inr ⟨v,by rw [← uh HTT]; exact uh HR,rfl,uh hH,uh hS⟩
end
theorem prOf_lt {al : List Atm} (ht : TmOK al) {a : Atm} (ha : a ∈ al) : (prOf (mrg al) a).l < 24 ∧ (prOf (mrg al) a).r < 24:=by
 have h1:=mrg_lt ht (ht a ha).1
 have h2:=mrg_lt ht (ht a ha).2
 have e1 : (prOf (mrg al) a).l = (mrg al).getD (tm a).l 0:=rfl
 have e2 : (prOf (mrg al) a).r = (mrg al).getD (tm a).r 0:=rfl
 omega
theorem cf_rm {al : List Atm} (ht : TmOK al) : Rm (cfOf al):=by
 intro p hp
 obtain ⟨a,ha,rfl⟩:=List.mem_map.1 hp
 exact prOf_lt ht (List.mem_filter.1 ha).1
theorem cf_rmA {al : List Atm} (ht : TmOK al) : RmA (cfOf al):=by
 intro p hp
 obtain ⟨a,ha,rfl⟩:=List.mem_map.1 hp
 exact prOf_lt ht (List.mem_filter.1 ha).1
theorem cf_cl {al : List Atm} (ht : TmOK al) (i : Nat) (hi : i < 5) : (cfOf al).cl.getD i 0 < 24:=by
 rw [cl_at hi]
 have:=mrg_lt ht (i:=i) (by omega)
 omega
theorem cf_ow (al : List Atm) : (cfOf al).ow.length ≤ al.length:=by
 show (List.map _ _).length ≤ _
 rw [List.length_map]
 exact List.length_filter_le _ _
end Go.Proofs.YtciihepbeacppaaGreat
