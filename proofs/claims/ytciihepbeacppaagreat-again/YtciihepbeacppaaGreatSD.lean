import Derived.Test.YtciihepbeacppaaGreatM30
import Derived.OpenShut
import Derived.ProofKit
import Derived.Test.YtciihepbeacppaaGreatRows
import Derived.WalkKit
namespace Go.Proofs.YtciihepbeacppaaGreat.again
open Go.ChangeShapes Go.WideShapes Go.ChangeAt Go.RowKit Go.ChangeMaps
set_option linter.unusedVariables false
theorem own:ownKnob Tryz.prog.godebug = none:=by kernel_rfl
set_option maxRecDepth 100000 in
set_option maxHeartbeats 4000000 in
theorem walk (s:ByteArray) (w:World):Calls Tryz.prog 10 #[.string s] w fun e w'=>e = .returned (.bool true)∧Below w.heap.size w w':=by
 have HD:=hide (desk_any s w)
 go_enter Tryz.func10,Tryz.ntmps10
 go_wp2_with fail
 refine (uh HD).mono ?_
 rintro e w1 ⟨hb,⟨-,rfl⟩ | ⟨hs,hE,Y,X,G,rfl,h1,h2,h3,h4,h5⟩⟩
 ·have HB:=hide hb
  clear hb HD
  go_wp2_with fail
  go_ret
  exact ⟨rfl,uh HB⟩
 ·have hA:=an_read hE
  have hjl:(jn (rdW s.data.toList)).length≤20000:=by
   obtain ⟨g1,g2,-⟩:=rd_parts hE
   cases hsp:spl s.data.toList with
   | none=>exact absurd hsp g2
   | some L =>
    have e:spl s.data.toList = some ((rdW s.data.toList).map (·.data.toList)):=by
     unfold rdW
     rw [hsp]
     simp only [Option.getD_some,List.map_map]
     congr 1
     exact (List.map_id' L).symm
    have:=(rdW_len e).2
    omega
  have HAG:=hide (again_any (w0:=w) h1 h4 h3 h5 hb hA hA.l hjl (rd_again hE).1 (rd_again hE).2)
  clear hb HD h1 h2 h3 h4 h5 hA hE hjl
  go_wp2_with fail
  refine (uh HAG).mono ?_
  rintro e w2 ⟨rfl,hb2⟩
  have HB:=hide hb2
  clear hb2 HAG
  go_wp2_with fail
  go_ret
  exact ⟨rfl,uh HB⟩
set_option maxRecDepth 100000 in
theorem lifted (os:Go.Os) (started:os.Started) (H:Type) (enc:TypeId × Value→H) :
  ReturnsInHanded {} Tryz.checked os 10 .any (Rows.againSpec.pre6 enc Tryz.prog Tryz.f10 Rows.againRow.domain false) (Rows.againSpec.post enc Tryz.prog Tryz.f10 false true false false):=by
 refine returnsInHanded_of_change (C:=Tryz.checked) own started (by kernel_rfl) Tryz.func10
  (ChangeSpec.witness6 (enc:=enc) (C:=Tryz.checked) false ⟨#[],#[.string ⟨#[]⟩],[]⟩ 8 (by kernel_rfl) (by kernel_rfl) (by kernel_rfl) (by kernel_rfl)) ?_
 intro W base args ds gs before hval0 hW hcnd _
 have hval:∀ (j:Nat) t v,Tryz.f10.params[j]? = some t→args[j]? = some v→Value.okWide Tryz.prog W .any base t v:=hval0
 have hW':=hW
 obtain ⟨p,q,hA0,hV,rfl,hfz,hnd⟩:=hW
 have hA:DataW.TrodAll enc Tryz.prog W 0 (fun _=>true) true Tryz.f10.params.toList args.toList ds p:=hA0
 rw [Tryz.params10] at hA hval
 obtain ⟨v0,vs0,d0,ds0,p0,q0,hargs,rfl,rfl,h0,r0⟩:=trodAll_cons hA
 obtain ⟨rfl,rfl,rfl⟩:=trodAll_nil r0
 obtain rfl:args = #[v0]:=by cases args;simp_all
 obtain ⟨rfl,rfl⟩:=trodVars_none hV
 obtain ⟨s,rfl,rfl,rfl,hs⟩:=open_string Tryz.underlying9 (hval 0 9 v0 rfl rfl) h0
 clear hA0
 simp only [List.append_nil] at hW'
 refine (walk s W).mono fun e W' ⟨he,hb⟩=>?_
 subst he
 exact ⟨_,rfl,_,_,_,[],[],[],hW',trodAll_cons_mk (shut_bool Tryz.underlying4 _) trodAll_mk0,trodAll_cons_mk (shut_string Tryz.underlying9 hs) trodAll_mk0,rfl,hb.frame _,fun h=>by cases h⟩
theorem over:Rows.againRow.holds Tryz.pinned (OpenSpec.ofChange Rows.againSpec) :=
 OpenClaim.holds_of_wide 10 Tryz.f10 rfl rfl rfl rfl rfl rfl rfl ⟨rfl,rfl,rfl,rfl,rfl⟩ rfl rfl rfl rfl rfl (by kernel_rfl) Tryz.func10 (by kernel_rfl)
  (of_decide_eq_true (by kernel_rfl)) (by unfold Func.isWrapper;first | (rw [if_pos (by decide +kernel)];kernel_rfl) | (rw [if_neg (by decide +kernel)];exact ⟨rfl,rfl⟩))
  (fun os started H enc _=>lifted os started H enc)
end Go.Proofs.YtciihepbeacppaaGreat.again
namespace Go.Proofs.YtciihepbeacppaaGreat
theorem again_proved:Rows.AgainSaid:=again.over
#print axioms again_proved
end Go.Proofs.YtciihepbeacppaaGreat
