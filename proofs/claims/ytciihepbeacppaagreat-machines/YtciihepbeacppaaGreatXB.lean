import Derived.Test.YtciihepbeacppaaGreatM36
import Derived.Carry
import Derived.OpenShut
import Derived.ProofKit
import Derived.Test.YtciihepbeacppaaGreatRows
import Derived.WalkKit
namespace Go.Proofs.YtciihepbeacppaaGreat.machines
open Go.ChangeShapes Go.WideShapes Go.ChangeAt Go.RowKit Go.ChangeMaps
set_option linter.unusedVariables false
theorem own : ownKnob Tryz.prog.godebug = none:=by kernel_rfl
theorem laid : laidOutB Tryz.prog = true:=by kernel_rfl
theorem readable : Tryz.prog.readableRec 26 = true:=by kernel_rfl
theorem inRow : 26 < Tryz.prog.types.size:=by decide +kernel
set_option maxRecDepth 100000 in
theorem lifted (os : Os) (started : os.Started) (H : Type) (enc : TypeId × Value → H) :
  ReturnsInHanded {} Tryz.checked os 4 .any (Rows.machinesSpec.pre6 enc Tryz.prog Tryz.f4 Rows.machinesRow.domain false) (Rows.machinesSpec.post enc Tryz.prog Tryz.f4 false true false false):=by
 refine returnsInHanded_of_change (C:=Tryz.checked) own started (by kernel_rfl) Tryz.func4
  (ChangeSpec.witness6 (enc:=enc) (C:=Tryz.checked) false ⟨#[],#[.slice none 0 0],[]⟩ 8 (by kernel_rfl) (by kernel_rfl) (by kernel_rfl) (by kernel_rfl)) ?_
 intro W base args ds gs before hval0 hW hcnd _
 have hval : ∀ (j : Nat) t v,Tryz.f4.params[j]? = some t → args[j]? = some v → Value.okWide Tryz.prog W .any base t v:=hval0
 have hW':=hW
 obtain ⟨p,q,hA0,hV,rfl,hfz,hnd⟩:=hW
 have hA : DataW.TrodAll enc Tryz.prog W 0 (fun _=>true) true Tryz.f4.params.toList args.toList ds p:=hA0
 rw [Tryz.params4] at hA hval
 obtain ⟨v0,vs0,d0,ds0,p0,q0,hargs,rfl,rfl,h0,r0⟩:=trodAll_cons hA
 obtain ⟨rfl,rfl,rfl⟩:=trodAll_nil r0
 obtain rfl : args = #[v0]:=by cases args; simp_all
 obtain ⟨rfl,rfl⟩:=trodVars_none hV
 obtain ⟨l,hsl,hok,hls⟩:=ops_arg (hval 0 26 v0 rfl rfl) h0
 have hlt : ∀ x ∈ p0,x.block < W.heap.size:=fun x hx=>DataW.TrodAll.lt hA x (by simp [hx])
 clear hA0
 simp only [List.append_nil] at hW'
 refine (machines_any (⟨hsl,hls⟩ : LsO W v0 l) hok).mono fun e W' ⟨he,hb⟩=>?_
 subst he
 exact ⟨_,rfl,_,_,_,[],p0 ++ [],[],hW',trodAll_cons_mk (shut_bool Tryz.underlying4 _) trodAll_mk0,
  trodAll_cons_mk (Below.trod laid readable inRow h0 hb hlt) trodAll_mk0,rfl,hb.frame _,fun h=>by cases h⟩
theorem recurses_of {P : Program} {f g h : FuncId} {fn : Func} (hg : (P.closure f).contains g = true) (hf : P.funcs[g]? = some fn) (hh : (P.leadsTo fn).contains h = true) (hc : (P.closure h).contains g = true) : P.recurses f = true:=by
 unfold Program.recurses
 rw [Bool.or_eq_true]
 right
 rw [List.any_eq_true]
 refine ⟨g,by simpa using hg,?_⟩
 rw [List.any_eq_true]
 exact ⟨h,by rw [hf]; simpa using hh,hc⟩
theorem reaches : (Tryz.prog.closure 4).contains 138 = true:=by kernel_rfl
theorem leads : (Tryz.prog.leadsTo Tryz.f138).contains 169 = true:=by kernel_rfl
theorem back : (Tryz.prog.closure 169).contains 138 = true:=by kernel_rfl
theorem kRec : Tryz.pinned.checked.prog.recurses 4 = true:=recurses_of reaches Tryz.func138 leads back
theorem kIn : Tryz.pinned.checked.prog.inPlace 4 = []:=by kernel_rfl
theorem kUn : Tryz.pinned.checked.prog.unfollowed 4 = false:=by kernel_rfl
theorem kVa : Tryz.pinned.checked.prog.varsNamed 4 = []:=by kernel_rfl
theorem closed : joinedFacts Tryz.pinned.checked.prog 4 Tryz.f4 Rows.machinesSpec Rows.machinesRow = true:=by
 unfold joinedFacts
 rw [kRec,kIn,kUn,kVa]
 kernel_rfl
theorem over : Rows.machinesRow.holds Tryz.pinned (OpenSpec.ofChange Rows.machinesSpec) :=
 OpenClaim.holds_of_wide 4 Tryz.f4 rfl rfl rfl rfl rfl rfl rfl ⟨rfl,rfl,rfl,rfl,rfl⟩ rfl rfl rfl rfl rfl (by kernel_rfl) Tryz.func4 closed
  (of_decide_eq_true (by kernel_rfl)) (by unfold Func.isWrapper; first | (rw [if_pos (by decide +kernel)]; kernel_rfl) | (rw [if_neg (by decide +kernel)]; exact ⟨rfl,rfl⟩))
  (fun os started H enc _=>lifted os started H enc)
end Go.Proofs.YtciihepbeacppaaGreat.machines
namespace Go.Proofs.YtciihepbeacppaaGreat
theorem machines_proved : Rows.MachinesSaid:=machines.over
#print axioms machines_proved
end Go.Proofs.YtciihepbeacppaaGreat
