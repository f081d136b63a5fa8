import Derived.Test.YtciihepbeacppaaGreatM33
import Derived.OpenShut
import Derived.ProofKit
import Derived.Test.YtciihepbeacppaaGreatRows
import Derived.WalkKit
namespace Go.Proofs.YtciihepbeacppaaGreat.renamed
open Go.ChangeShapes Go.WideShapes Go.ChangeAt Go.RowKit Go.ChangeMaps
set_option linter.unusedVariables false
theorem own:ownKnob Tryz.prog.godebug = none:=by kernel_rfl
set_option maxRecDepth 100000 in
set_option maxHeartbeats 4000000 in
theorem walk (s:ByteArray) (c:Int) (hc:-9223372036854775808≤c∧c≤9223372036854775807) (w:World):Calls Tryz.prog 8 #[.string s,.int .i64 c] w fun e w'=>e = .returned (.bool true)∧Below w.heap.size w w':=by
 have HD:=hide (desk_any s w)
 go_enter Tryz.func8,Tryz.ntmps8
 go_wp2_with fail
 refine (uh HD).mono ?_
 rintro e w1 ⟨hb,⟨-,rfl⟩ | ⟨hs,hE,Y,X,G,rfl,h1,h2,h3,h4,h5⟩⟩
 ·have HB:=hide hb
  clear hb HD
  go_wp2_with fail
  go_ret
  exact ⟨rfl,uh HB⟩
 ·have HAG:=hide (renamed_any (w0:=w) h1 h4 h3 h5 hb hs hE c hc)
  clear hb HD h1 h2 h3 h4 h5 hE
  go_wp2_with fail
  refine (uh HAG).mono ?_
  rintro e w2 ⟨rfl,hb2⟩
  have HB:=hide hb2
  clear hb2 HAG
  go_wp2_with fail
  go_ret
  exact ⟨rfl,uh HB⟩
set_option maxRecDepth 100000 in
theorem lifted (os:Go.Os) (started:os.Started) (H:Type) (enc:TypeId × Value→H) :
  ReturnsInHanded {} Tryz.checked os 8 .any (Rows.renamedSpec.pre6 enc Tryz.prog Tryz.f8 Rows.renamedRow.domain false) (Rows.renamedSpec.post enc Tryz.prog Tryz.f8 false true false false):=by
 refine returnsInHanded_of_change (C:=Tryz.checked) own started (by kernel_rfl) Tryz.func8
  (ChangeSpec.witness6 (enc:=enc) (C:=Tryz.checked) false ⟨#[],#[.string ⟨#[]⟩,.int .i64 0],[]⟩ 8 (by kernel_rfl) (by kernel_rfl) (by kernel_rfl) (by kernel_rfl)) ?_
 intro W base args ds gs before hval0 hW hcnd _
 have hval:∀ (j:Nat) t v,Tryz.f8.params[j]? = some t→args[j]? = some v→Value.okWide Tryz.prog W .any base t v:=hval0
 have hW':=hW
 obtain ⟨p,q,hA0,hV,rfl,hfz,hnd⟩:=hW
 have hA:DataW.TrodAll enc Tryz.prog W 0 (fun _=>true) true Tryz.f8.params.toList args.toList ds p:=hA0
 rw [Tryz.params8] at hA hval
 obtain ⟨v0,vs0,d0,ds0,p0,q0,hargs,rfl,rfl,h0,r0⟩:=trodAll_cons hA
 obtain ⟨v1,vs1,d1,ds1,p1,q1,hargs1,rfl,rfl,h1,r1⟩:=trodAll_cons r0
 obtain ⟨rfl,rfl,rfl⟩:=trodAll_nil r1
 obtain rfl:args = #[v0,v1]:=by cases args;simp_all
 obtain ⟨rfl,rfl⟩:=trodVars_none hV
 obtain ⟨s,rfl,rfl,rfl,hs⟩:=open_string Tryz.underlying9 (hval 0 9 v0 rfl rfl) h0
 obtain ⟨n,rfl,rfl,rfl,hi⟩:=open_int Tryz.underlying3 (hval 1 3 v1 rfl rfl) h1
 clear hA0
 simp only [List.append_nil] at hW'
 have hn:-9223372036854775808≤n∧n≤9223372036854775807:=by
  have h9:=hi
  have e1:IntKind.i64.min = -9223372036854775808:=by decide
  have e2:IntKind.i64.max = 9223372036854775807:=by decide
  simp only [Lit.wf,e1,e2,Bool.and_eq_true,decide_eq_true_eq] at h9
  exact h9
 refine (walk s n hn W).mono fun e W' ⟨he,hb⟩=>?_
 subst he
 exact ⟨_,rfl,_,_,_,[],[],[],hW',trodAll_cons_mk (shut_bool Tryz.underlying4 _) trodAll_mk0,trodAll_cons_mk (shut_string Tryz.underlying9 hs) (trodAll_cons_mk (shut_int Tryz.underlying3 hi) trodAll_mk0),rfl,hb.frame _,fun h=>by cases h⟩
theorem over:Rows.renamedRow.holds Tryz.pinned (OpenSpec.ofChange Rows.renamedSpec) :=
 OpenClaim.holds_of_wide 8 Tryz.f8 rfl rfl rfl rfl rfl rfl rfl ⟨rfl,rfl,rfl,rfl,rfl⟩ rfl rfl rfl rfl rfl (by kernel_rfl) Tryz.func8 (by kernel_rfl)
  (of_decide_eq_true (by kernel_rfl)) (by unfold Func.isWrapper;first | (rw [if_pos (by decide +kernel)];kernel_rfl) | (rw [if_neg (by decide +kernel)];exact ⟨rfl,rfl⟩))
  (fun os started H enc _=>lifted os started H enc)
end Go.Proofs.YtciihepbeacppaaGreat.renamed
namespace Go.Proofs.YtciihepbeacppaaGreat
theorem renamed_proved:Rows.RenamedSaid:=renamed.over
#print axioms renamed_proved
end Go.Proofs.YtciihepbeacppaaGreat
