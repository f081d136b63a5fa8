import Derived.Test.YtciihepbeacppaaGreatM36
import Derived.OpenShut
import Derived.ProofKit
import Derived.Test.YtciihepbeacppaaGreatRows
set_option maxRecDepth 100000
set_option maxHeartbeats 0
namespace Go.Proofs.YtciihepbeacppaaGreat.goes
open Go.ChangeShapes Go.WideShapes Go.ChangeAt Go.RowKit Go.ChangeMaps World Below
set_option linter.unusedVariables false
theorem own:ownKnob Tryz.prog.godebug=none:=by kernel_rfl
theorem mR.set{w:World}{X:Nat}{ws:List ByteArray}{G:List Nat}(h:mR w X ws G){p:Addr}(hp:p.block ∉ G)(u:Value):mR (w.setCell p u) X ws G:=h.of_eq (λk hk=>heap_setCell _ _ _ _ (λe=>hp (by rw[<-e];exact hk)))
theorem walk(s s1 s2:ByteArray)(a b:Int)(ha:-9223372036854775808<=a/\a<=9223372036854775807)(hb:-9223372036854775808<=b/\b<=9223372036854775807)(w:World):Calls Tryz.prog 6 #[.string s,.string s1,.string s2,.int .i64 a,.int .i64 b] w λe w'=>e=.returned (.bool true)/\Below w.heap.size w w':=by
 have HD:=ab (LG s w);go_enter Tryz.func6,Tryz.ntmps6;go_wp2_with fail
 refine(uh HD).mono ?_;rintro e w1 ⟨bP,⟨-,rfl⟩|⟨hs,hE,Y,X,G,rfl,h1,h2,h3,h4,h5⟩⟩
 .have HB:=ab bP;clear bP HD;go_wp2_with fail
  go_ret;exact⟨rfl,uh HB⟩
 .have H:=ab (zq2 h1 (zq2 h2 (zq2 h3 (zq2 h4 (zq2 h5 bP)))));have HE:=ab hE;clear h1 h2 h3 h4 h5 bP hE HD;by_cases uO:1024<s1.size
  .have d1:decide ((1024:Int)<(s1.size:Int))=true:=(by simp;omega);clear uO;go_wp2_with fail
   go_ret;exact⟨rfl,(uh H).2.2.2.2.2⟩
  .have d1:decide ((1024:Int)<(s1.size:Int))=false:=(by simp;omega);by_cases uQ:1024<s2.size
   .have d2:decide ((1024:Int)<(s2.size:Int))=true:=(by simp;omega);clear uQ;go_wp2_with fail
    go_ret;exact⟨rfl,(uh H).2.2.2.2.2⟩
   .have d2:decide ((1024:Int)<(s2.size:Int))=false:=(by simp;omega);have z1:s1.size<=1024:=(by omega);have z2:s2.size<=1024:=(by omega);have cY:=ab (λW=>wu s1 W z1);have bu:=ab (λW=>wu s2 W z2);clear uO uQ;go_wp2_with fail
    refine(uh cY _).mono ?_;rintro e w2 ⟨v1,rfl,k7,ax⟩;obtain⟨h1,h2,h3,h4,h5,bP⟩:=uh H;have Ym:=h4.mem;have pm:=h4.lt X Ym;have zV:Y<w1.heap.size:=Bk.lt h1;have gx:Bk w2 Y 36 [.pointer (some ⟨X,0,none⟩),.string s,.slice none 0 0,.slice none 0 0]:=Bk.below h1 ax;have hYv:v1.ownBlock≠some Y:=λe=>by have:=(k7.lt Y e).1;omega
    have y2:=gx.cell 2 rfl;have yf:=gx.frz 2;have DX:=gx.set 2 v1;have Gq:mR (w2.setCell ⟨Y,2,none⟩ v1) X (gY s.data.toList) G:=mR.set (h4.below ax) (p:=⟨Y,2,none⟩) h3 v1;have Gr:(w2.setCell ⟨Y,2,none⟩ v1).ownsRow w1.heap.size 3 1 v1 (rq s1).length (di (rq s1)):=a8 k7 hYv _;have bF:Below w.heap.size w (w2.setCell ⟨Y,2,none⟩ v1):=(bP.trans (ax.mono bP.size)).setCell (p:=⟨Y,2,none⟩) h2 v1;have dP:w1.heap.size<=(w2.setCell ⟨Y,2,none⟩ v1).heap.size:=(by have:=ax.size;simpa[World.setCell] using this);obtain⟨W3,Kf⟩:∃W3,W3=w2.setCell ⟨Y,2,none⟩ v1:=⟨_,rfl⟩;rw[<-Kf]at DX Gq Gr bF dP;obtain⟨va,vc,hv1,-,-⟩:=ah Gr;subst hv1;have H3:=ab (zq2 DX (zq2 Gq (zq2 Gr (zq2 bF (zq2 h2 (zq2 h3 h5))))));clear h1 h2 h3 h4 h5 bP Ym gx hYv DX Gq Gr bF k7 ax H;go_upto_region 7 with fail;rw[<-Kf];clear Kf;go_wp2_with fail
    refine(uh bu _).mono ?_;rintro e w4 ⟨v2,rfl,od,gX⟩;obtain⟨DX,Gq,Gr,bF,h2,h3,h5⟩:=uh H3;have apK:Y<W3.heap.size:=(by omega);have DY:=Bk.below DX gX;have hYv:v2.ownBlock≠some Y:=λe=>by have:=(od.lt Y e).1;omega
    have adq:(Value.slice va (rq s1).length vc).ownBlock≠some Y:=λe=>by have:=(Gr.lt Y e).1;omega
    have y3:w4.cell? ⟨Y,3,none⟩=some (.slice none 0 0):=DY.cell 3 rfl;have yf3:=DY.frz 3;have hd5:Bk (w4.setCell ⟨Y,3,none⟩ v2) Y 36 [.pointer (some ⟨X,0,none⟩),.string s,.slice va (rq s1).length vc,v2]:=DY.set 3 v2;have hp5:mR (w4.setCell ⟨Y,3,none⟩ v2) X (gY s.data.toList) G:=mR.set (Gq.below gX) (p:=⟨Y,3,none⟩) h3 v2;have tx:(w4.setCell ⟨Y,3,none⟩ v2).ownsRow 0 3 1 (.slice va (rq s1).length vc) (rq s1).length (di (rq s1)):=a8 (bW (b8 Gr gX) (zq5 _)) adq _;have Y0:(w4.setCell ⟨Y,3,none⟩ v2).ownsRow 0 3 1 v2 (rq s2).length (di (rq s2)):=a8 (bW od (zq5 _)) hYv _;have b6:Below w.heap.size w (w4.setCell ⟨Y,3,none⟩ v2):=(bF.trans (gX.mono bF.size)).setCell (p:=⟨Y,3,none⟩) h2 v2;obtain⟨W5,jl⟩:∃W5,W5=w4.setCell ⟨Y,3,none⟩ v2:=⟨_,rfl⟩;rw[<-jl]at hd5 hp5 tx Y0 b6;have PW:=ab (OY hd5 hp5 h3 h5 b6 (uh HE) tx Y0 (λe=>by have:=(Gr.lt X e).1;omega) (λe=>by have:=(od.lt X e).1;omega) (by rw[rs];exact z1) (by rw[rs];exact z2) a b ha hb);obtain⟨vb,vd,tE,-,-⟩:=ah Y0;subst tE;clear DX Gq Gr bF h2 h3 h5 DY hYv adq hd5 hp5 tx Y0 b6 od gX H3;go_upto_region 8 with fail;rw[<-jl];clear jl;go_wp2_with fail
    refine(uh PW).mono ?_;rintro e w6 ⟨rfl,gh⟩;have HN:=ab gh;clear gh PW;go_wp2_with fail
    go_ret;exact⟨rfl,uh HN⟩
theorem lifted(os:Go.Os)(started:os.Started)(H:Type)(enc:TypeId × Value->H):
  ReturnsInHanded {} Tryz.checked os 6 .any (Rows.goesSpec.pre6 enc Tryz.prog Tryz.f6 Rows.goesRow.domain false) (Rows.goesSpec.post enc Tryz.prog Tryz.f6 false true false false):=by
 refine returnsInHanded_of_change (C:=Tryz.checked) own started (by kernel_rfl) Tryz.func6
  (ChangeSpec.witness6 (enc:=enc) (C:=Tryz.checked) false ⟨#[],#[.string ⟨#[]⟩,.string ⟨#[]⟩,.string ⟨#[]⟩,.int .i64 0,.int .i64 0],[]⟩ 8 (by kernel_rfl) (by kernel_rfl) (by kernel_rfl) (by kernel_rfl)) ?_
 intro W base args ds gs before aeU hW apS _;have Jq:∀(j:Nat) t v,Tryz.f6.params[j]?=some t->args[j]?=some v->Value.okWide Tryz.prog W .any base t v:=aeU;have hW':=hW;obtain⟨p,q,vm,hV,rfl,YG,cH⟩:=hW;have hA:DataW.TrodAll enc Tryz.prog W 0 (λ_=>true) true Tryz.f6.params.toList args.toList ds p:=vm;rw[Tryz.params6]at hA Jq;obtain⟨v0,vs0,d0,ds0,p0,q0,anm,rfl,rfl,h0,r0⟩:=trodAll_cons hA;obtain⟨v1,vs1,d1,ds1,p1,q1,ai8,rfl,rfl,h1,r1⟩:=trodAll_cons r0;obtain⟨v2,vs2,d2,ds2,p2,q2,ai9,rfl,rfl,h2,r2⟩:=trodAll_cons r1;obtain⟨v3,vs3,d3,ds3,p3,q3,aja,rfl,rfl,h3,r3⟩:=trodAll_cons r2;obtain⟨v4,vs4,d4,ds4,p4,q4,ajb,rfl,rfl,h4,r4⟩:=trodAll_cons r3;obtain⟨rfl,rfl,rfl⟩:=trodAll_nil r4;obtain rfl:args=#[v0,v1,v2,v3,v4]:=by cases args;simp_all
 obtain⟨rfl,rfl⟩:=trodVars_none hV;obtain⟨s,rfl,rfl,rfl,hs⟩:=open_string Tryz.underlying9 (Jq 0 9 v0 rfl rfl) h0;obtain⟨s1,rfl,rfl,rfl,cN⟩:=open_string Tryz.underlying9 (Jq 1 9 v1 rfl rfl) h1;obtain⟨s2,rfl,rfl,rfl,ce⟩:=open_string Tryz.underlying9 (Jq 2 9 v2 rfl rfl) h2;obtain⟨n,rfl,rfl,rfl,hi⟩:=open_int Tryz.underlying3 (Jq 3 3 v3 rfl rfl) h3;obtain⟨n2,rfl,rfl,rfl,hi2⟩:=open_int Tryz.underlying3 (Jq 4 3 v4 rfl rfl) h4;clear vm;simp only[List.append_nil]at hW';have hn:∀{n:Int},Lit.wf (.int .i64 n)=true->-9223372036854775808<=n/\n<=9223372036854775807:=by
  intro n h9;have e1:IntKind.i64.min=-9223372036854775808:=by decide
  have e2:IntKind.i64.max=9223372036854775807:=by decide
  simp only[Lit.wf,e1,e2,Bool.and_eq_true,decide_eq_true_eq]at h9;exact h9
 refine(walk s s1 s2 n n2 (hn hi) (hn hi2) W).mono λe W' ⟨he,hb⟩=>?_;subst he;exact⟨_,rfl,_,_,_,[],[],[],hW',trodAll_cons_mk (shut_bool Tryz.underlying4 _) trodAll_mk0,trodAll_cons_mk (shut_string Tryz.underlying9 hs) (trodAll_cons_mk (shut_string Tryz.underlying9 cN) (trodAll_cons_mk (shut_string Tryz.underlying9 ce) (trodAll_cons_mk (shut_int Tryz.underlying3 hi) (trodAll_cons_mk (shut_int Tryz.underlying3 hi2) trodAll_mk0)))),rfl,hb.frame _,λh=>by cases h⟩
theorem over:Rows.goesRow.holds Tryz.pinned (OpenSpec.ofChange Rows.goesSpec) :=
 OpenClaim.holds_of_wide 6 Tryz.f6 rfl rfl rfl rfl rfl rfl rfl ⟨rfl,rfl,rfl,rfl,rfl⟩ rfl rfl rfl rfl rfl (by kernel_rfl) Tryz.func6 (by kernel_rfl)
  (of_decide_eq_true (by kernel_rfl)) (by unfold Func.isWrapper;first|(rw[if_pos (by decide +kernel)];kernel_rfl)|(rw[if_neg (by decide +kernel)];exact⟨rfl,rfl⟩))
  (λos started H enc _=>lifted os started H enc)
end Go.Proofs.YtciihepbeacppaaGreat.goes
namespace Go.Proofs.YtciihepbeacppaaGreat
theorem goes_proved:Rows.GoesSaid:=goes.over
#print axioms goes_proved
end Go.Proofs.YtciihepbeacppaaGreat
