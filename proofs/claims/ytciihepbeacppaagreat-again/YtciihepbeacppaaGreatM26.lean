import Derived.Test.YtciihepbeacppaaGreatM21
import Derived.Test.YtciihepbeacppaaGreatM25
namespace Go.Proofs.YtciihepbeacppaaGreat
open Go.RowKit
set_option linter.unusedVariables false
theorem dupB_nd:∀ (l:List Pr) (seen:List Nat),dupB seen l = false→(l.map (·.l)).Nodup∧∀ p∈l,p.l ∉ seen
 | [],_,_=>⟨List.nodup_nil,fun p hp=>by simp at hp⟩
 | p :: l,seen,h=>by
  unfold dupB at h
  split at h
  ·cases h
  ·rename_i hn
   obtain ⟨h1,h2⟩:=dupB_nd l _ h
   refine ⟨?_,fun q hq=>?_⟩
   ·rw [List.map_cons,List.nodup_cons]
    refine ⟨fun hm=>?_,h1⟩
    obtain ⟨q,hq,e⟩:=List.mem_map.1 hm
    exact h2 q hq (by rw [e];exact List.mem_cons_self)
   ·rcases List.mem_cons.1 hq with rfl | hq
    ·exact hn
    ·exact fun hm=>h2 q hq (List.mem_cons_of_mem _ hm)
theorem cf_fok {al:List Atm} (ht:TmOK al) (hf:falB (cfOf al) = false):FoOk (cfOf al):=by
 have hl:=mrg_len ht
 have hcl:(cfOf al).cl.length = 5:=by show ((mrg al).take 5).length = 5;rw [List.length_take];omega
 refine FoOk.mk' hcl (fun c hc=>?_) (fun p hp=>?_) (fun p hp=>?_) ?_ (fun p hp=>?_)
 ·obtain ⟨i,hi,rfl⟩:=List.mem_iff_getElem.1 hc
  have h5:i < 5:=by omega
  have h1:=cl_at (al:=al) h5
  rw [getD_at hi] at h1
  rw [h1]
  have:=mrg_lt ht (i:=i) (by omega)
  omega
 ·obtain ⟨a,ha,rfl⟩:=List.mem_map.1 hp
  exact prOf_lt ht (List.mem_filter.1 ha).1
 ·obtain ⟨a,ha,rfl⟩:=List.mem_map.1 hp
  exact prOf_lt ht (List.mem_filter.1 ha).1
 ·unfold falB at hf
  rw [Bool.or_eq_false_iff] at hf
  exact (dupB_nd _ _ hf.2).1
 ·obtain ⟨a,ha,rfl⟩:=List.mem_map.1 hp
  have h1:=(List.mem_filter.1 ha).2
  have h2:a.k = 2:=by simpa using h1
  exact h2
theorem enC_fok {f:CF} (h:FoOk f) (nv:Nat):FoOk (enC f nv):=by
 refine FoOk.mk' (by simp [enC]) (fun c hc=>?_) h.ow h.ap h.lf h.kd
 obtain ⟨i,-,rfl⟩:=List.mem_map.1 hc
 split <;> exact h.get _
def enK (f:CF) (nv k:Nat):List Nat:=(List.range 5).map (fun i=>if nv < i∧i < k then f.cl.getD 0 0 else f.cl.getD i 0)
theorem enK_len (f:CF) (nv k:Nat):(enK f nv k).length = 5:=by simp [enK]
theorem enK_get {f:CF} {nv k i:Nat} (hi:i < 5):(enK f nv k).getD i 0 = if nv < i∧i < k then f.cl.getD 0 0 else f.cl.getD i 0:=by unfold enK;simp [hi]
theorem enK_start {f:CF} (h5:f.cl.length = 5) (nv:Nat):enK f nv (1 + nv) = f.cl:=by
 apply List.ext_getElem?
 intro i
 by_cases hi:i < 5
 ·have h1:=enK_get (f:=f) (nv:=nv) (k:=1 + nv) hi
  rw [if_neg (by omega)] at h1
  rw [getD_at (by rw [enK_len];exact hi),getD_at (by omega)] at h1
  rw [List.getElem?_eq_getElem (by rw [enK_len];exact hi),List.getElem?_eq_getElem (by omega),h1]
 ·rw [List.getElem?_eq_none (by rw [enK_len];omega),List.getElem?_eq_none (by omega)]
theorem enK_step {f:CF} {nv k:Nat} (h1:nv < k) (hk:k < 5):(enK f nv k).set k (f.cl.getD 0 0) = enK f nv (k + 1):=by
 apply List.ext_getElem?
 intro i
 by_cases hi:i < 5
 ·have g1:=enK_get (f:=f) (nv:=nv) (k:=k + 1) hi
  rw [getD_at (by rw [enK_len];exact hi)] at g1
  rw [List.getElem?_eq_getElem (l:=enK f nv (k + 1)) (by rw [enK_len];exact hi),g1]
  by_cases e:k = i
  ·subst e
   rw [List.getElem?_set_self (by rw [enK_len];exact hi),if_pos (by omega)]
  ·have g2:=enK_get (f:=f) (nv:=nv) (k:=k) hi
   rw [getD_at (by rw [enK_len];exact hi)] at g2
   rw [List.getElem?_set_ne e,List.getElem?_eq_getElem (by rw [enK_len];exact hi),g2]
   congr 1
   by_cases c1:nv < i∧i < k
   ·rw [if_pos c1,if_pos (by omega)]
   ·rw [if_neg c1,if_neg (by omega)]
 ·rw [List.getElem?_eq_none (by rw [List.length_set,enK_len];omega),List.getElem?_eq_none (by rw [enK_len];omega)]
theorem enK_end (f:CF) (nv:Nat):{ f with cl:=enK f nv 5 } = enC f nv:=by
 unfold enC enK
 congr 1
 apply List.map_congr_left
 intro i hi
 rw [List.mem_range] at hi
 by_cases c1:nv < i
 ·rw [if_pos c1,if_pos (by omega)]
 ·rw [if_neg c1,if_neg (by omega)]
section
variable {w:World} {S:Nat} {c:Cd} {hv kv wv:Value} {KV WV:List Value} {K:List (List En)} {s:Sr}
set_option maxRecDepth 100000 in
set_option maxHeartbeats 16000000 in
theorem enter_sh {Q:Nat} {ws:List ByteArray} {ps:PS} {al:List Atm} {vv pv nvv:Value} (h:Sh w S c (.pointer (some ⟨Q,0,none⟩)) hv kv wv KV WV K s) (hC:Cp w Q ws ps al vv pv nvv) (hcn:c.nds = ps.nodes) (hA:AOk al) (hvl:ps.vars.length≤4) (hK0:0 < K.length) (hKl:K.length≤100000) {fuel:Nat} (hok:(enS' c fuel ps.vars.length al s).ok = true) :
  Calls Tryz.prog 140 #[.pointer (some ⟨S,0,none⟩)] w fun e w'=>e = .returned (.tuple #[])∧LayP w S c (.pointer (some ⟨Q,0,none⟩)) hv kv wv KV WV K [] (enS' c fuel ps.vars.length al s) w':=by
 have c0:=h.bs.cell 0 rfl
 have hQ2:=hC.bk.cell 2 rfl
 have hnl:=h.nl
 obtain ⟨na,nc,hnv,-,-⟩:=own_slc hC.nr
 subst hnv
 obtain ⟨va,vc,hvv,-,-⟩:=own_slc hC.vr
 subst hvv
 have HOF:=hide (of_nd hC.pr hA.tm hA.le hA.bd)
 have hml:ps.nodes.length = K.length:=by rw [← hcn];exact hnl
 have H:=hide h
 have HC:=hide hC
 have HTM:=hide hA.tm
 have HALE:=hide hA.le
 have HOK:=hide hok
 obtain ⟨V,hV⟩:∃ V,V = ps.vars.length:=⟨_,rfl⟩
 have HEN:Hid (enS' c fuel ps.vars.length al s = if falB (cfOf al) = true then s else arS c fuel (K.length - 1) 0 (tdF (enC (cfOf al) V)) s):=hide (by unfold enS';rw [hnl,hV])
 obtain ⟨POST,hPOST⟩:∃ POST:World→Prop,POST = fun w'=>LayP w S c (.pointer (some ⟨Q,0,none⟩)) hv kv wv KV WV K [] (enS' c fuel ps.vars.length al s) w':=⟨_,rfl⟩
 have HPOST:=hide hPOST
 rw [show (fun (e:Ending) (w':World)=>e = .returned (.tuple #[])∧LayP w S c (.pointer (some ⟨Q,0,none⟩)) hv kv wv KV WV K [] (enS' c fuel ps.vars.length al s) w') = (fun e w'=>e = .returned (.tuple #[])∧POST w') by rw [hPOST]]
 clear h hC hcn hA hok hPOST hnl
 go_enter Tryz.func140,Tryz.ntmps140
 go_wp2_with fail
 refine (uh HOF).mono ?_
 rintro e w1 ⟨A,fav,fov,rfl,hF,hge,hb1,hnd⟩
 have hrm:=cf_rm (uh HTM)
 have h24:(cfOf al).cl.getD 0 0 < 24:=by
  have h1:=mrg_lt (uh HTM) (i:=0) (by omega)
  rw [cl_at (by omega)]
  omega
 have HFA:=hide (false_any hF hrm h24)
 have H1:=hide (And.intro hF (And.intro hge (And.intro hb1 hnd)))
 clear hF hge hb1 hnd hrm h24 HOF c0 hQ2
 cases hfal:falB (cfOf al)
 ·rw [hfal] at HFA
  have hfk:=cf_fok (uh HTM) hfal
  have HEN2:Hid (enS' c fuel ps.vars.length al s = arS c fuel (K.length - 1) 0 (tdF (enC (cfOf al) V)) s):=hide (by rw [uh HEN,hfal,if_neg (by decide)])
  obtain ⟨f,hf⟩:∃ f,f = cfOf al:=⟨_,rfl⟩
  rw [← hf] at hfk HEN2 H1
  have HAP:Hid (f.ap.length≤100000):=hide (by
   have h3:f.ap.length≤al.length:=by
    rw [hf]
    show ((al.filter _).map _).length≤_
    rw [List.length_map]
    exact List.length_filter_le _ _
   have h4:=uh HALE
   omega)
  have HFK:=hide hfk
  clear hfal HEN hf hfk
  go_wp2_with fail
  refine (uh HFA).mono ?_
  rintro e w2 ⟨rfl,hb2⟩
  obtain ⟨hF,hge,hb1,hnd⟩:=uh H1
  have hbb:=hb1.trans (hb2.mono hb1.size)
  have hF2:Fm w2 A f fav fov:=⟨hF.below hb2,hnd,(uh HFK).c5⟩
  have H2:=hide (And.intro hbb (And.intro hF2 hge))
  have hc2:=(uh HC).below hbb
  have hs2:=(uh H).below hbb
  have e0:=hs2.bs.cell 0 rfl
  have q1:=hc2.bk.cell 1 rfl
  rw [← hV] at q1 hvl
  have HI0:Hid (Fm w2 A { f with cl:=enK f V (1 + V) } fav fov∧Below w.heap.size w w2):=hide ⟨by rw [enK_start (uh HFK).c5];exact hF2,hbb⟩
  clear hF hge hb1 hnd hbb hF2 hc2 hs2 hb2 HFA
  go_wp2_with fail
  go_loopg [3] (4 - V) (fun gn iv wx=>∃ (k:Nat),k + gn = 5∧1 + V≤k∧iv = .int .i64 k∧Hid (Fm wx A { f with cl:=enK f V k } fav fov∧Below w.heap.size w wx))
  case atStart=>exact ⟨1 + V,by omega,by omega,by go_num,HI0⟩
  case round =>
   clear HI0 e0 q1
   obtain ⟨k,hkn,hkV,rfl,hI⟩:=hrel
   obtain ⟨G1,hG1⟩:∃ G1,G1 = gk:=⟨_,rfl⟩
   by_cases hlt:k < 5
   ·have hd:decide ((k:Int) < (5:Int)) = true:=by simp;omega
    have hF:=(uh hI).1
    have x0:=hF.is.cls (i:=0) (by omega)
    have e00:({ f with cl:=enK f V k }:CF).cl.getD 0 0 = f.cl.getD 0 0:=by
     show (enK f V k).getD 0 0 = _
     rw [enK_get (by omega),if_neg (by omega)]
    unfold clV at x0
    rw [e00] at x0
    have xk:=hF.is.cls (i:=k) hlt
    have xz:=World.ownsRow.frozenAt hF.is.ob k
    have h3:=hF.setCl k (f.cl.getD 0 0) hlt
    have e1:({ ({ f with cl:=enK f V k }:CF) with cl:=({ f with cl:=enK f V k }:CF).cl.set k (f.cl.getD 0 0) }:CF) = { f with cl:=enK f V (k + 1) }:=by
     show ({ f with cl:=(enK f V k).set k (f.cl.getD 0 0) }:CF) = _
     rw [enK_step (by omega) hlt]
    rw [e1] at h3
    have hAw:w.heap.size≤A:=(uh H2).2.2 A (by simp [bsF])
    obtain ⟨cz,hcz⟩:∃ cz,cz = f.cl.getD 0 0:=⟨_,rfl⟩
    rw [← hcz] at x0 h3
    have HN:=hide (And.intro h3 ((uh hI).2.setCell (p:=⟨A,k,none⟩) hAw (.int .i64 (cz:Int))))
    have k1:(0:Int)≤(k:Int):=by omega
    have k2:(k:Int) < 5:=by omega
    clear hF e00 h3 e1 hcz hI
    go_upto_region 5 with fail
    go_region
    all_goals
     go_wp2_with fail
     go_roundg (G1 - 1)
     case rel=>exact ⟨k + 1,by omega,by omega,by go_num,hide ⟨(uh HN).1.of_eq (fun _ _=>rfl),⟨(uh HN).2.os,(uh HN).2.tape,(uh HN).2.output,(uh HN).2.size,(uh HN).2.block⟩⟩⟩
     case measure=>omega
   ·have hd:decide ((k:Int) < (5:Int)) = false:=by simp;omega
    have hk5:k = 5:=by omega
    obtain ⟨hF,hb⟩:=uh hI
    rw [hk5,enK_end] at hF
    have hfe:=enC_fok (uh HFK) V
    have HTD:=hide (tidy_any hF hfe (uh HAP))
    have HI:=hide hb
    have HFE:=hide hfe
    clear hF hb hfe hI hk5
    go_wp2_with fail
    refine (uh HTD).mono ?_
    rintro e w4 ⟨rfl,av4,ov4,hF4,hS4⟩
    have hge:=(uh H2).2.2
    have hg4:Gon w w4 (shF S hv kv wv KV WV) (shF S hv kv wv KV WV) (drF K) (drF K) []:=(Gon.below (X:=[]) (uh HI)).trans (Gon.stp (X:=bsF A fav fov) hS4 (fun q hq=>Or.inr hq)) (fun q hq=>Or.inr (hge q hq))
    have hlow:∀ q,q < w.heap.size→w4.heap[q]? = w.heap[q]?:=fun q hq=>(hS4.block q (Nat.lt_of_lt_of_le hq (uh HI).size) (fun e=>by have:=hge q e;omega)).trans ((uh HI).block q hq)
    have hs4:=(uh H).of_eq (fun q hq=>hlow q ((uh H).lt q hq)) (fun q hq=>hlow q ((uh H).drlt q hq))
    have hc4:=(uh HC).of_eq (fun q hq=>hlow q ((uh HC).lt q hq))
    have e0:=hs4.bs.cell 0 rfl
    have q3:=hc4.bk.cell 3 rfl
    rw [hml] at q3
    have hin4:∀ q∈bsF A av4 ov4,w.heap.size≤q:=fun q hq=>by
     rcases hS4.foot q hq with p | p
     ·exact hge q p
     ·exact Nat.le_trans (uh HI).size p
    have hoka:(arS c fuel (K.length - 1) 0 (tdF (enC f V)) s).ok = true:=by rw [← uh HEN2];exact uh HOK
    obtain ⟨m,hm⟩:∃ m,m = K.length - 1:=⟨_,rfl⟩
    have HAR:=hide (arrive_sh (x:=⟨A,tdF (enC f V),av4,ov4⟩) hs4 hF4 (uh HFE).tidy (fun q hq=>⟨fun e=>by have:=(uh H).lt q e;have:=hin4 q hq;omega,fun e=>by have:=(uh H).drlt q e;have:=hin4 q hq;omega⟩) (a:=K.length - 1) (n:=0) (by omega) hK0 hKl hoka)
    have HG4:=hide (And.intro hg4 hin4)
    rw [← hm] at HAR HEN2
    have hqm:IntKind.i64.wrap ((K.length:Int) - 1) = (m:Int):=by rw [IntKind.wrap_i64];omega
    clear hF4 hS4 hg4 hlow hs4 hc4 hin4 hoka hm HTD hge
    go_wp2_with fail
    refine (uh HAR).mono ?_
    rintro e w5 ⟨rfl,KV',K',p1,p2,p3⟩
    have HP:Hid (POST w5):=hide (by
     rw [uh HPOST,uh HEN2]
     exact ⟨KV',K',p1,p2,(uh HG4).1.trans p3 (fun q hq=>Or.inr ((uh HG4).2 q hq))⟩)
    clear p1 p2 p3 HAR
    go_wp2_with fail
    go_end0
    exact ⟨rfl,uh HP⟩
 ·rw [hfal] at HFA
  have HEN2:Hid (enS' c fuel ps.vars.length al s = s):=hide (by rw [uh HEN,hfal,if_pos rfl])
  clear hfal HEN
  go_wp2_with fail
  refine (uh HFA).mono ?_
  rintro e w2 ⟨rfl,hb2⟩
  have HP:Hid (POST w2):=hide (by
   rw [uh HPOST,uh HEN2]
   have hbb:=(uh H1).2.2.1.trans (hb2.mono (uh H1).2.2.1.size)
   exact ⟨KV,K,(uh H).below hbb,rfl,Gon.below hbb⟩)
  clear hb2 HFA
  go_wp2_with fail
  refine bodyPost_ret (results_none rfl _ _ _) rfl ?_
  exact ⟨rfl,uh HP⟩
end
theorem Tryz.infoAl:(Tryz.prog.info? 82).map (fun i=>(i.zero,i.size,i.bytes)) = some (some (.agg #[.int .i64 0,.int .i64 0]),2,16):=by kernel_rfl
theorem Tryz.infoFs:(Tryz.prog.info? 125).map (fun i=>(i.zero,i.size,i.bytes)) = some (some (.slice none 0 0),1,24):=by kernel_rfl
def alC (l:List (Nat × Nat)):List Value:=l.flatMap (fun p=>[.int .i64 (p.1:Int),.int .i64 (p.2:Int)])
theorem alC_app (l m:List (Nat × Nat)):alC (l ++ m) = alC l ++ alC m:=by unfold alC;rw [List.flatMap_append]
def rzO (RB:Nat) (av kv:Value) (FV:List Value):List (Option Nat):=some RB :: av.ownBlock :: kv.ownBlock :: FV.map Value.ownBlock
structure Rz (w W:World) (RB vd:Nat) (av kv:Value) (al:List (Nat × Nat)) (FV:List Value) (L:List (List FE)):Prop where
 bk:Bk W RB 118 [.int .i64 (vd:Int),av,kv]
 al:W.ownsRow 0 82 2 av al.length (alC al)
 kr:W.ownsRow 0 125 1 kv L.length FV
 ke:∀ i,i < L.length→W.ownsRow 0 126 1 (FV.getD i vNil) (L.getD i []).length ((L.getD i []).map FE.p)
 ap:Apt (rzO RB av kv FV)
 ge:∀ k∈fpt (rzO RB av kv FV),w.heap.size≤k
 bl:Below w.heap.size w W
section
variable {w W W' W1:World} {RB vd:Nat} {av kv:Value} {al:List (Nat × Nat)} {FV:List Value} {L:List (List FE)}
theorem rz_k {i:Nat} (hi:i < FV.length):(rzO RB av kv FV)[3 + i]? = some (FV.getD i vNil).ownBlock:=by
 unfold rzO
 rw [show 3 + i = i + 1 + 1 + 1 by omega]
 simp only [List.getElem?_cons_succ]
 simp [hi]
theorem rz_in {i k:Nat} (h:(rzO RB av kv FV)[i]? = some (some k)):i = 0∧k = RB∨i = 1∧av.ownBlock = some k∨i = 2∧kv.ownBlock = some k∨∃ j,j < FV.length∧i = 3 + j∧(FV.getD j vNil).ownBlock = some k:=by
 unfold rzO at h
 match i with
 | 0=>left;simpa [eq_comm] using h
 | 1=>right;left;simpa using h
 | 2=>right;right;left;simpa using h
 | i + 3 =>
  right;right;right
  simp only [List.getElem?_cons_succ] at h
  have hl:i < FV.length:=by
   have:=(List.getElem?_eq_some_iff.1 h).1
   simpa using this
  exact ⟨i,hl,by omega,by simpa [hl] using h⟩
theorem Rz.fl (h:Rz w W RB vd av kv al FV L):FV.length = L.length:=by have:=h.kr.1;omega
theorem Rz.lt (h:Rz w W RB vd av kv al FV L):∀ k∈fpt (rzO RB av kv FV),k < W.heap.size:=by
 intro k hk
 obtain ⟨i,hi⟩:=mem_fpt.1 hk
 rcases rz_in hi with ⟨-,rfl⟩ | ⟨-,e⟩ | ⟨-,e⟩ | ⟨j,hj,-,e⟩
 ·exact h.bk.lt
 ·exact (h.al.lt k e).2
 ·exact (h.kr.lt k e).2
 ·exact ((h.ke j (by rw [← h.fl];exact hj)).lt k e).2
theorem Rz.of_eq (h:Rz w W RB vd av kv al FV L) (he:∀ k∈fpt (rzO RB av kv FV),W'.heap[k]? = W.heap[k]?) (hb:Below w.heap.size w W'):Rz w W' RB vd av kv al FV L:=by
 have hf:=h.fl
 exact ⟨h.bk.of_eq (he RB (mem_fpt.2 ⟨0,rfl⟩)),ownsRow_of_eq h.al (fun k hk=>he k (mem_fpt.2 ⟨1,congrArg some hk⟩)),ownsRow_of_eq h.kr (fun k hk=>he k (mem_fpt.2 ⟨2,congrArg some hk⟩)),fun i hi=>ownsRow_of_eq (h.ke i hi) (fun k hk=>he k (mem_fpt.2 ⟨_,(rz_k (by omega)).trans (congrArg some hk)⟩)),h.ap,h.ge,hb⟩
theorem Rz.below (h:Rz w W RB vd av kv al FV L) (hb:Below W.heap.size W W'):Rz w W' RB vd av kv al FV L:=h.of_eq (fun k hk=>hb.block k (h.lt k hk)) (h.bl.trans (hb.mono h.bl.size))
theorem Rz.verd (h:Rz w W RB vd av kv al FV L):Rz w (W.setCell ⟨RB,0,none⟩ (.int .i64 1)) RB 1 av kv al FV L:=by
 have hf:=h.fl
 have hne:∀ p k,p≠0→(rzO RB av kv FV)[p]? = some (some k)→(W.setCell ⟨RB,0,none⟩ (.int .i64 1)).heap[k]? = W.heap[k]?:=fun p k hp hk=>Below.heap_setCell _ _ _ _ (fun e=>hp (h.ap p 0 k hk (by rw [show k = RB from e];rfl)))
 exact ⟨h.bk.set 0 (.int .i64 1),ownsRow_of_eq h.al (fun k hk=>hne 1 k (by omega) (congrArg some hk)),ownsRow_of_eq h.kr (fun k hk=>hne 2 k (by omega) (congrArg some hk)),fun i hi=>ownsRow_of_eq (h.ke i hi) (fun k hk=>hne _ k (by omega) ((rz_k (by omega)).trans (congrArg some hk))),h.ap,h.ge,h.bl.setCell (p:=⟨RB,0,none⟩) (h.ge RB (mem_fpt.2 ⟨0,rfl⟩)) _⟩
theorem Rz.alarm (h:Rz w W RB vd av kv al FV L) {p:Nat × Nat} {g c:Nat} (hown:W1.ownsRow 0 82 2 (.slice (some ⟨g,0,none⟩) (al.length + 1) c) (al.length + 1) (alC al ++ [.int .i64 (p.1:Int),.int .i64 (p.2:Int)])) (hg:W.grownBy W1 av.ownBlock) (hblk:some g = av.ownBlock∨g = W.heap.size) :
  Rz w (W1.setCell ⟨RB,1,none⟩ (.slice (some ⟨g,0,none⟩) (al.length + 1) c)) RB vd (.slice (some ⟨g,0,none⟩) (al.length + 1) c) kv (al ++ [p]) FV L∧Bk W1 RB 118 [.int .i64 (vd:Int),av,kv]:=by
 have hf:=h.fl
 have hold:∀ q k,q≠1→(rzO RB av kv FV)[q]? = some (some k)→W1.heap[k]? = W.heap[k]?:=fun q k hq hk=>hg.block k (h.lt k (mem_fpt.2 ⟨q,hk⟩)) (fun e=>hq (h.ap q 1 k hk (congrArg some e.symm)))
 have hgR:g≠RB:=fun e=>by
  rcases hblk with q | q
  ·have:=h.ap 1 0 RB (by rw [← e];exact congrArg some q.symm) rfl
   omega
  ·have:=h.bk.lt;omega
 have hne:∀ q k,q≠0→q≠1→(rzO RB av kv FV)[q]? = some (some k)→(W1.setCell ⟨RB,1,none⟩ (.slice (some ⟨g,0,none⟩) (al.length + 1) c)).heap[k]? = W.heap[k]?:=fun q k h0 h1 hk=>(Below.heap_setCell _ _ _ _ (fun e=>h0 (h.ap q 0 k hk (by rw [show k = RB from e];rfl)))).trans (hold q k h1 hk)
 have hbk:=h.bk.of_eq (hold 0 RB (by omega) rfl)
 have hset:rzO RB (.slice (some ⟨g,0,none⟩) (al.length + 1) c) kv FV = (rzO RB av kv FV).set 1 (some g):=rfl
 refine ⟨⟨hbk.set 1 _,?_,ownsRow_of_eq h.kr (fun k hk=>hne 2 k (by omega) (by omega) (congrArg some hk)),fun i hi=>ownsRow_of_eq (h.ke i hi) (fun k hk=>hne _ k (by omega) (by omega) ((rz_k (by omega)).trans (congrArg some hk))),?_,fun k hk=>?_,?_⟩,hbk⟩
 ·rw [List.length_append,List.length_singleton,alC_app]
  exact own_setO hown (p:=⟨RB,1,none⟩) (by show some g≠some RB;intro e;injection e with e;exact hgR e) _
 ·rw [hset]
  refine h.ap.set 1 (fun k hk=>?_)
  injection hk with hk
  subst hk
  rcases hblk with q | q
  ·exact Or.inl (congrArg some q.symm)
  ·exact Or.inr (fun j hj=>by have:=h.lt g (mem_fpt.2 ⟨j,hj⟩);omega)
 ·obtain ⟨i,hi⟩:=mem_fpt.1 hk
  rw [hset,List.getElem?_set] at hi
  split at hi
  ·split at hi
   ·simp only [Option.some.injEq] at hi
    subst hi
    rcases hblk with q | q
    ·exact h.ge g (mem_fpt.2 ⟨1,congrArg some q.symm⟩)
    ·have:=h.bl.size;omega
   ·simp at hi
  ·exact h.ge k (mem_fpt.2 ⟨i,hi⟩)
 ·refine (h.bl.grown hg h.bl.size (fun k hk=>h.ge k (mem_fpt.2 ⟨1,congrArg some hk⟩))).setCell (p:=⟨RB,1,none⟩) (h.ge RB (mem_fpt.2 ⟨0,rfl⟩)) _
theorem Rz.know {n kB kC:Nat} {x:FE} (h:Rz w W RB vd av kv al FV L) (hn:n < L.length) (hkv:kv = .slice (some ⟨kB,0,none⟩) L.length kC) {g c:Nat} (hown:W1.ownsRow 0 126 1 (.slice (some ⟨g,0,none⟩) ((L.getD n []).length + 1) c) ((L.getD n []).length + 1) ((L.getD n []).map FE.p ++ [x.p])) (hg:W.grownBy W1 (FV.getD n vNil).ownBlock) (hblk:some g = (FV.getD n vNil).ownBlock∨g = W.heap.size) :
  Rz w (W1.setCell ⟨kB,n,none⟩ (.slice (some ⟨g,0,none⟩) ((L.getD n []).length + 1) c)) RB vd av kv al (FV.set n (.slice (some ⟨g,0,none⟩) ((L.getD n []).length + 1) c)) (L.set n (L.getD n [] ++ [x]))∧W1.ownsRow 0 125 1 kv L.length FV∧Bk W1 RB 118 [.int .i64 (vd:Int),av,kv]:=by
 have hf:=h.fl
 obtain ⟨v,hv⟩:∃ v,v = Value.slice (some ⟨g,0,none⟩) ((L.getD n []).length + 1) c:=⟨_,rfl⟩
 have hvo:v.ownBlock = some g:=by rw [hv];rfl
 rw [← hv] at hown ⊢
 have hk2:(rzO RB av kv FV)[2]? = some (some kB):=by rw [hkv];rfl
 have hkn:(rzO RB av kv FV)[3 + n]? = some (FV.getD n vNil).ownBlock:=rz_k (by omega)
 have hold:∀ q k,q≠3 + n→(rzO RB av kv FV)[q]? = some (some k)→W1.heap[k]? = W.heap[k]?:=fun q k hq hk=>hg.block k (h.lt k (mem_fpt.2 ⟨q,hk⟩)) (fun e=>hq (h.ap q (3 + n) k hk (hkn.trans (congrArg some e.symm))))
 have hgk:g≠kB:=fun e=>by
  rcases hblk with q | q
  ·have:=h.ap (3 + n) 2 kB (by rw [hkn,← q,e]) hk2
   omega
  ·have:=h.lt kB (mem_fpt.2 ⟨2,hk2⟩);omega
 have hne:∀ q k,q≠2→q≠3 + n→(rzO RB av kv FV)[q]? = some (some k)→(W1.setCell ⟨kB,n,none⟩ v).heap[k]? = W.heap[k]?:=fun q k h0 h1 hk=>(Below.heap_setCell _ _ _ _ (fun e=>h0 (h.ap q 2 k hk (by rw [show k = kB from e];exact hk2)))).trans (hold q k h1 hk)
 have hkr:W1.ownsRow 0 125 1 kv L.length FV:=ownsRow_of_eq h.kr (fun k hk=>hold 2 k (by omega) (congrArg some hk))
 have hset:rzO RB av kv (FV.set n v) = (rzO RB av kv FV).set (3 + n) (some g):=by
  unfold rzO
  rw [show 3 + n = n + 1 + 1 + 1 by omega]
  simp only [List.set_cons_succ]
  rw [List.map_set,hvo]
 have hLs:(L.set n (L.getD n [] ++ [x])).length = L.length:=List.length_set
 refine ⟨⟨h.bk.of_eq (hne 0 RB (by omega) (by omega) rfl),ownsRow_of_eq h.al (fun k hk=>hne 1 k (by omega) (by omega) (congrArg some hk)),?_,fun i hi=>?_,?_,fun k hk=>?_,?_⟩,hkr,h.bk.of_eq (hold 0 RB (by omega) rfl)⟩
 ·rw [hLs]
  rw [hkv] at hkr ⊢
  exact (hkr.stored n v).1
 ·rw [hLs] at hi
  by_cases e:i = n
  ·subst e
   have e1:(FV.set i v).getD i vNil = v:=by rw [List.getD_eq_getElem?_getD,List.getElem?_set_self (by omega)];rfl
   have e2:(L.set i (L.getD i [] ++ [x])).getD i [] = L.getD i [] ++ [x]:=by rw [List.getD_eq_getElem?_getD,List.getElem?_set_self (by omega)];rfl
   rw [e1,e2,List.length_append,List.length_singleton,List.map_append]
   exact own_setO hown (p:=⟨kB,i,none⟩) (by rw [hvo];intro e;injection e with e;exact hgk e) _
  ·have e1:(FV.set n v).getD i vNil = FV.getD i vNil:=by rw [List.getD_eq_getElem?_getD,List.getElem?_set_ne (fun e'=>e e'.symm),← List.getD_eq_getElem?_getD]
   have e2:(L.set n (L.getD n [] ++ [x])).getD i [] = L.getD i []:=by rw [List.getD_eq_getElem?_getD,List.getElem?_set_ne (fun e'=>e e'.symm),← List.getD_eq_getElem?_getD]
   rw [e1,e2]
   exact ownsRow_of_eq (h.ke i hi) (fun k hk=>hne _ k (by omega) (by omega) ((rz_k (by omega)).trans (congrArg some hk)))
 ·rw [hset]
  refine h.ap.set _ (fun k hk=>?_)
  injection hk with hk
  subst hk
  rcases hblk with q | q
  ·exact Or.inl (by rw [hkn,← q])
  ·exact Or.inr (fun j hj=>by have:=h.lt g (mem_fpt.2 ⟨j,hj⟩);omega)
 ·obtain ⟨i,hi⟩:=mem_fpt.1 hk
  rw [hset,List.getElem?_set] at hi
  split at hi
  ·split at hi
   ·simp only [Option.some.injEq] at hi
    subst hi
    rcases hblk with q | q
    ·exact h.ge g (mem_fpt.2 ⟨3 + n,by rw [hkn,← q]⟩)
    ·have:=h.bl.size;omega
   ·simp at hi
  ·exact h.ge k (mem_fpt.2 ⟨i,hi⟩)
 ·exact (h.bl.grown hg h.bl.size (fun k hk=>h.ge k (mem_fpt.2 ⟨3 + n,hkn.trans (congrArg some hk)⟩))).setCell (p:=⟨kB,n,none⟩) (h.ge kB (mem_fpt.2 ⟨2,hk2⟩)) _
end
def alN (wr:List (List Bool)) (n:Nat):List (Nat × Nat):=([2,3,4].filter (fun k=>(wr.getD n []).getD k false)).map (fun k=>(n,k))
def alK (wr:List (List Bool)) (k:Nat):List (Nat × Nat):=(List.range k).flatMap (alN wr)
theorem alK_step (wr:List (List Bool)) (k:Nat):alK wr (k + 1) = alK wr k ++ alN wr k:=by unfold alK;rw [List.range_succ,List.flatMap_append];simp
theorem alK_all (wr:List (List Bool)):alK wr wr.length = alL wr:=rfl
def alP (wr:List (List Bool)) (n t:Nat):List (Nat × Nat):=([2,3,4].filter (fun k=>decide (k < t) && (wr.getD n []).getD k false)).map (fun k=>(n,k))
theorem alP_step (wr:List (List Bool)) (n:Nat) {t:Nat} (h2:2≤t) (h5:t < 5):alP wr n (t + 1) = alP wr n t ++ if (wr.getD n []).getD t false = true then [(n,t)] else []:=by
 have:t = 2∨t = 3∨t = 4:=by omega
 unfold alP
 cases b2:(wr.getD n []).getD 2 false <;> cases b3:(wr.getD n []).getD 3 false <;> cases b4:(wr.getD n []).getD 4 false <;> rcases this with rfl | rfl | rfl <;> simp only [List.filter_cons,b2,b3,b4,List.filter_nil] <;> rfl
theorem alP_two (wr:List (List Bool)) (n:Nat):alP wr n 2 = []:=by unfold alP;simp
theorem alP_five (wr:List (List Bool)) (n:Nat):alP wr n 5 = alN wr n:=by
 unfold alP alN
 congr 1
theorem alP_len (wr:List (List Bool)) (n t:Nat):(alP wr n t).length≤3:=by
 unfold alP
 rw [List.length_map]
 exact Nat.le_trans (List.length_filter_le _ _) (by simp)
theorem alK_len (wr:List (List Bool)):∀ k,(alK wr k).length≤3 * k
 | 0=>by simp [alK]
 | k + 1=>by
  rw [alK_step,List.length_append,← alP_five]
  have h1:=alK_len wr k
  have h2:=alP_len wr k 5
  omega
def vdO (al:List (Nat × Nat)):Nat:=if al = [] then 0 else 1
end Go.Proofs.YtciihepbeacppaaGreat
