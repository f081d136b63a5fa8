import Derived.Test.YtciihepbeacppaaGreatM14
import Derived.Test.YtciihepbeacppaaGreatM17
set_option maxRecDepth 100000
set_option maxHeartbeats 0
namespace Go.Proofs.YtciihepbeacppaaGreat
open Tryz Go.RowKit List World Below
set_option linter.unusedVariables false
structure Fs(B:Nat)(F0:List Nat)(w W:World)(O:Nat)(cs:List Value)(A:Nat)(f:CF)(av ov:Value)(X:Nat)(p:Pr)(v:Value)(L:List FE):Prop where
 fl:Fl W B v L
 bo:Bk W O 280 cs
 ff:dF W A f av ov
 bx:Bk W X 182 [.int .i64 (p.k:Int),.int .i64 (p.l:Int),.int .i64 (p.r:Int)]
 no:∀k∈a9 v L,k≠O/\k≠X/\k ∉ aD A av ov
 ox:O≠X
 of:O ∉ aD A av ov
 st:ar F0 w (O::a9 v L) W
 bb:B<=W.heap.size
section
variable {B:Nat} {F0:List Nat} {w W W':World} {O A X:Nat} {cs:List Value} {f:CF} {av ov:Value} {p:Pr} {v:Value} {L:List FE}
theorem Fs.below(h:Fs B F0 w W O cs A f av ov X p v L)(hb:Below W.heap.size W W'):Fs B F0 w W' O cs A f av ov X p v L :=
 ⟨h.fl.below hb,h.bo.below hb,h.ff.below hb,h.bx.below hb,h.no,h.ox,h.of,⟨hb.os.trans h.st.os,hb.tape.trans h.st.tape,hb.output.trans h.st.output,zq3 h.st.size hb.size,λk hk hn=>(hb.block k (zq6 hk h.st.size)).trans (h.st.block k hk hn),h.st.foot⟩,zq3 h.bb hb.size⟩
theorem Fs.fresh(h:Fs B F0 w W O cs A f av ov X p v L){x:FE}(hx:∀k∈x.bs,W.heap.size<=k):∀k∈x.bs,k ∉ a9 v L/\k≠O/\k≠X/\k ∉ aD A av ov/\w.heap.size<=k/\B<=k:=λk hk=>by
 have h1:=hx k hk;have:=h.bb;exact⟨λhn=>by have:=h.fl.lt k hn;omega,λe=>by have:=h.bo.lt;omega,λe=>by have:=h.bx.lt;omega,λhn=>by have:=h.ff.lt k hn;omega,zq3 h.st.size h1,by omega⟩
theorem Fs.app {g1 c1:Nat} {o:Obj} {x:FE} {W1:World} (h:Fs B F0 w W O cs A f av ov X p v L) (hx:Fm W x.A x.f x.av x.ov) (hd:∀k∈x.bs,k ∉ a9 v L/\k≠O/\k≠X/\k ∉ aD A av ov/\w.heap.size<=k/\B<=k)
  (aN:W1.ownsRow B 126 1 (.slice (some ⟨g1,0,none⟩) (L.length+1) c1) (L.length+1) (L.map FE.p++[x.p])) (hg:(W.alloc o).grownBy W1 v.ownBlock) (cd:some g1=v.ownBlock\/g1=(W.alloc o).heap.size) :
  Fs B F0 w W1 O cs A f av ov X p (.slice (some ⟨g1,0,none⟩) (L.length+1) c1) (L++[x]):=by
 obtain⟨a1,a2,a3⟩:=h.fl.app hx (λk hk=>(hd k hk).2.2.2.2.2) (λk hk=>(hd k hk).1) h.bb aN hg cd;have hv:∀k∈v.ownBlock.toList,k∈a9 v L:=λk hk=>mem_append_left _ hk;refine⟨a1,h.bo.stp a2 (λhn=>(h.no O (hv O hn)).1 rfl),h.ff.of_eq (λk hk=>a2.block k (h.ff.lt k hk) (λhn=>(h.no k (hv k hn)).2.2 hk)),h.bx.stp a2 (λhn=>(h.no X (hv X hn)).2.1 rfl),λk hk=>?_,h.ox,h.of,?_,zq3 h.bb a2.size⟩
 .rcases a3 k hk with q|q|q
  .exact h.no k q
  .exact⟨(hd k q).2.1,(hd k q).2.2.1,(hd k q).2.2.2.1⟩
  .exact⟨λe=>by have:=h.bo.lt;omega,λe=>by have:=h.bx.lt;omega,λhn=>by have:=h.ff.lt k hn;omega⟩
 .have h2:=h.st;refine⟨a2.os.trans h2.os,a2.tape.trans h2.tape,a2.output.trans h2.output,zq3 h2.size a2.size,λk hk hn=>?_,λk hk=>?_⟩
  .rw[a2.block k (zq6 hk h2.size) (λhm=>?_)]
   .exact h2.block k hk hn
   .rcases h2.foot k (mem_cons_of_mem _ (hv k hm)) with q|q
    .exact hn q
    .omega
  .rcases mem_cons.1 hk with rfl|hk
   .exact h2.foot k (by simp)
   .rcases a3 k hk with q|q|q
    .exact h2.foot k (mem_cons_of_mem _ q)
    .exact zq1 (hd k q).2.2.2.2.1
    .exact zq1 (zq3 h2.size q)
theorem Fs.fin {g1 c1:Nat} {o:Obj} {x:FE} {W1:World} (h:Fs B F0 w W O cs A f av ov X p v L) (hx:Fm W x.A x.f x.av x.ov) (hd:∀k∈x.bs,k ∉ a9 v L/\k≠O/\(k∈F0\/w.heap.size<=k)/\B<=k)
  (aN:W1.ownsRow B 126 1 (.slice (some ⟨g1,0,none⟩) (L.length+1) c1) (L.length+1) (L.map FE.p++[x.p])) (hg:(W.alloc o).grownBy W1 v.ownBlock) (cd:some g1=v.ownBlock\/g1=(W.alloc o).heap.size) :
  Fl W1 B (.slice (some ⟨g1,0,none⟩) (L.length+1) c1) (L++[x])/\Bk W1 O 280 cs/\ar F0 w (O::a9 (.slice (some ⟨g1,0,none⟩) (L.length+1) c1) (L++[x])) W1:=by
 obtain⟨a1,a2,a3⟩:=h.fl.app hx (λk hk=>(hd k hk).2.2.2) (λk hk=>(hd k hk).1) h.bb aN hg cd;have hv:∀k∈v.ownBlock.toList,k∈a9 v L:=λk hk=>mem_append_left _ hk;refine⟨a1,h.bo.stp a2 (λhn=>(h.no O (hv O hn)).1 rfl),?_⟩;have h2:=h.st;refine⟨a2.os.trans h2.os,a2.tape.trans h2.tape,a2.output.trans h2.output,zq3 h2.size a2.size,λk hk hn=>?_,λk hk=>?_⟩
 .rw[a2.block k (zq6 hk h2.size) (λhm=>?_)]
  .exact h2.block k hk hn
  .rcases h2.foot k (mem_cons_of_mem _ (hv k hm)) with q|q
   .exact hn q
   .omega
 .rcases mem_cons.1 hk with rfl|hk
  .exact h2.foot k (by simp)
  .rcases a3 k hk with q|q|q
   .exact h2.foot k (mem_cons_of_mem _ q)
   .exact(hd k q).2.2.1
   .exact zq1 (zq3 h2.size q)
theorem Fs.flag(h:Fs B F0 w W O cs A f av ov X p v L)(j:Nat)(u:Value)(hO:O∈F0):Fs B F0 w (W.setCell ⟨O,j,none⟩ u) O (cs.set j u) A f av ov X p v L :=
 ⟨h.fl.of_eq (λk hk=>heap_setCell _ _ _ _ (h.no k hk).1),h.bo.set j u,h.ff.of_eq (λk hk=>heap_setCell _ _ _ _ (λe=>h.of (by have e':k=O:=e;rw[<-e'];exact hk))),h.bx.setO (p:=⟨O,j,none⟩) h.ox u,h.no,h.ox,h.of,h.st.setCell (p:=⟨O,j,none⟩) (zq0 hO) u,by simpa using h.bb⟩
end
theorem Fm.putW{w:World}{A:Nat}{f:CF}{av:Value}{g cap i:Nat}(h:Fm w A f av (.slice (some ⟨g,0,none⟩) f.ow.length cap))(hi:i<f.ow.length)(q:Pr):
  Fm (((w.setCell ⟨g,i*3,none⟩ (.int .i64 (q.k:Int))).setCell ⟨g,i*3+1,none⟩ (.int .i64 (q.l:Int))).setCell ⟨g,i*3+2,none⟩ (.int .i64 (q.r:Int))) A (setO f i q) av (.slice (some ⟨g,0,none⟩) f.ow.length cap)/\ar (aD A av (.slice (some ⟨g,0,none⟩) f.ow.length cap)) w (aD A av (.slice (some ⟨g,0,none⟩) f.ow.length cap)) (((w.setCell ⟨g,i*3,none⟩ (.int .i64 (q.k:Int))).setCell ⟨g,i*3+1,none⟩ (.int .i64 (q.l:Int))).setCell ⟨g,i*3+2,none⟩ (.int .i64 (q.r:Int))):=by
 obtain⟨r3,-,-⟩:=E4 h.is.ow rfl hi q;have hs:ar (Value.slice (some ⟨g,0,none⟩) f.ow.length cap).ownBlock.toList w (Value.slice (some ⟨g,0,none⟩) f.ow.length cap).ownBlock.toList (((w.setCell ⟨g,i*3,none⟩ (.int .i64 (q.k:Int))).setCell ⟨g,i*3+1,none⟩ (.int .i64 (q.l:Int))).setCell ⟨g,i*3+2,none⟩ (.int .i64 (q.r:Int))):=(((ar.refl _ _).setCell (p:=⟨g,i*3,none⟩) (zq0 (by simp[Value.ownBlock])) _).setCell (p:=⟨g,i*3+1,none⟩) (zq0 (by simp[Value.ownBlock])) _).setCell (p:=⟨g,i*3+2,none⟩) (zq0 (by simp[Value.ownBlock])) _;exact h.newRow (ow':=f.ow.set i q) (by simp) r3 hs
theorem Fm.putK{w:World}{A:Nat}{f:CF}{av:Value}{g cap i:Nat}(h:Fm w A f av (.slice (some ⟨g,0,none⟩) f.ow.length cap))(hi:i<f.ow.length)(k:Nat):
  Fm (w.setCell ⟨g,i*3,none⟩ (.int .i64 (k:Int))) A (setO f i ⟨k,(owA f i).l,(owA f i).r⟩) av (.slice (some ⟨g,0,none⟩) f.ow.length cap)/\ar (aD A av (.slice (some ⟨g,0,none⟩) f.ow.length cap)) w (aD A av (.slice (some ⟨g,0,none⟩) f.ow.length cap)) (w.setCell ⟨g,i*3,none⟩ (.int .i64 (k:Int))):=by
 have h1:=(h.is.ow.stored (i*3) (.int .i64 (k:Int))).1;rw[il hi]at h1;have hs:ar (Value.slice (some ⟨g,0,none⟩) f.ow.length cap).ownBlock.toList w (Value.slice (some ⟨g,0,none⟩) f.ow.length cap).ownBlock.toList (w.setCell ⟨g,i*3,none⟩ (.int .i64 (k:Int))):=(ar.refl _ _).setCell (p:=⟨g,i*3,none⟩) (zq0 (by simp[Value.ownBlock])) _;exact h.newRow (ow':=f.ow.set i ⟨k,(owA f i).l,(owA f i).r⟩) (by simp) h1 hs
theorem Cr{f:CF}(h:am f):qq (qq (pN f) f.ow) f.ap<24:=by
 have:aI f<=24:=O7 (by omega) h.cl h.ow h.ap;unfold aI at this;omega
section
variable {B:Nat} {w:World} {O A:Nat} {nv tv:Value} {nu da fu:Bool} {f:CF} {av ov:Value} {v:Value} {L:List FE}
theorem qG(hB:Fl w B v L)(Dj:Bk w O 280 [nv,tv,.bool nu,.bool da,.bool fu])(hx:Fm w A f av ov)(hO:am f)(ha:f.ap.length<=40000)(Q5:∀k∈a9 v L,k≠O/\k ∉ aD A av ov)(jb:O ∉ aD A av ov)(cq:∀k∈aD A av ov,B<=k)(hB':B<=w.heap.size){c i:Nat}(hb:cR f.ow c=some i)(hL:L.length<=900000):
  Calls prog 264 #[.pointer (some ⟨O,0,none⟩),v,.pointer (some ⟨A,0,none⟩),.int .i64 c] w λe w'=>∃v' L',e=.returned v'/\Fl w' B v' (L++L')/\L'.map (·.f)=(lD f c).1/\Bk w' O 280 [nv,tv,.bool nu,.bool da,.bool (fu||(lD f c).2)]/\ar (O::(a9 v L++aD A av ov)) w (O::a9 v' (L++L')) w':=by
 obtain⟨i0,iL,eo,ep,eK⟩:=info_parts infoPF;have gl:=hO.owLen;obtain⟨hi,du⟩:=eO hb;obtain⟨va,vc,hv,-,-⟩:=aj hB.row;subst hv;have hfi:lD f c=MV f c i:=by unfold lD;rw[hb]
 have kV:=ab (bU c hx.is);rw[hb]at kV;obtain⟨oa,oc,d7,-,-⟩:=aj hx.is.ow;subst d7;have c6:=hx.is.c6;obtain⟨g,cap,cM,-,-⟩:=az hx.is.ow hi;simp only[Value.slice.injEq,true_and]at cM;obtain⟨rfl,rfl⟩:=cM;obtain⟨x0,x1,x2⟩:=ax hx.is.ow hi;obtain⟨p,hp⟩:∃p,p=f.ow.getD i au:=⟨_,rfl⟩;rw[<-hp]at x0 x1 x2;obtain⟨W1,dI⟩:∃W1,W1=w.alloc (.cells #[Value.int .i64 p.k,.int .i64 p.l,.int .i64 p.r] 182):=⟨_,rfl⟩;have bQ:Below w.heap.size w W1:=by rw[dI];exact ah w _
 have hX:Bk W1 w.heap.size 182 [Value.int .i64 p.k,.int .i64 p.l,.int .i64 p.r]:=by rw[dI];exact Bk.new w _ _
 obtain⟨X,fS⟩:∃X,X=w.heap.size:=⟨_,rfl⟩;rw[<-fS]at hX;have hFs:Fs B (O::(a9 (.slice va L.length vc) L++aD A av (.slice (some ⟨g,0,none⟩) f.ow.length oc))) w W1 O [nv,tv,.bool nu,.bool da,.bool fu] A f av (.slice (some ⟨g,0,none⟩) f.ow.length oc) X p (.slice va L.length vc) L:=by
  refine⟨hB.below bQ,Dj.below bQ,hx.is.below bQ,hX,λk hk=>⟨(Q5 k hk).1,λe=>?_,(Q5 k hk).2⟩,λe=>?_,jb,(ar.ofBw (F:=O::(a9 (.slice va L.length vc) L++aD A av (.slice (some ⟨g,0,none⟩) f.ow.length oc))) bQ).foots (λk hk=>?_),zq3 hB' bQ.size⟩
  .have:=hB.lt k hk;omega
  .have:=Dj.lt;omega
  .rcases mem_cons.1 hk with rfl|hk
   .exact zq0 (by simp)
   .exact zq0 (mem_cons_of_mem _ (mem_append_left _ hk))
 have b0:=hX.cell 0 rfl;have H1:=ab hFs;have HX1:=ab (hx.below bQ);have Ad:=ab cq;have FB:=ab Q5;have QJ:=ab jb;have HP:Hid (p=owA f i):=ab hp;have C1:=ab hfi;have HO:=ab hO;have i1:(0:Int)<=(i:Int):=by omega
 have i2:(i:Int)<(f.ow.length:Int):=by omega
 have vp:Hid ((owA f i).l=c):=ab du;clear hB Dj hO Q5 jb cq bQ hX hFs hp hfi hx hb du hB';rw[show dp (some i)=(i:Int) from rfl]at kV;go_enter func264,ntmps264;go_wp2_with fail
 refine(uh kV).mono ?_;rintro e w1 ⟨rfl,rfl⟩;clear kV;go_upto_region 3 with fail;rw[<-dI,<-fS];clear dI fS;by_cases BW:p.k=3
 .have d3:((p.k:Int)==3)=true:=by simp[BW]
  have HE:Hid (lD f c=([f],false)):=ab (by rw[uh C1];unfold MV;rw[if_pos (show(owA f i).k=3 by rw[<-uh HP];exact BW)]);have HR:=ab (uh H1).fl.row;have ko:=(uh H1).bb;clear BW;go_wp2_with (at_builtin;refine aH _ rfl (.tmp 27) (.tmp 29) 125 rfl B 126 i0 _ 1 8 underlying125 iL eo ep eK rfl (by decide) _ L.length (L.map FE.p) rfl ((uh HR).alloc _) ⟨_,0,none⟩ 1 [.pointer (some ⟨A,0,none⟩)] rfl rfl (aP _ _ (by simp) [.pointer (some ⟨A,0,none⟩)] _) (by intro u hu;simp only[mem_singleton]at hu;subst hu;rfl) (by omega) (by omega) (by simp;omega) ?_)
  intro g1 cap1 wa cy ce jl;have HF:=ab ((uh H1).fin (x:=⟨A,f,av,.slice (some ⟨g,0,none⟩) f.ow.length oc⟩) (uh HX1) (λk hk=>⟨λhn=>(uh FB k hn).2 hk,λe=>uh QJ (by rw[<-e];exact hk),zq0 (mem_cons_of_mem _ (mem_append_right _ hk)),uh Ad k hk⟩) cy ce (by simpa using jl));clear cy ce jl;go_wp2_with fail
  go_ret;refine⟨_,[⟨A,f,av,.slice (some ⟨g,0,none⟩) f.ow.length oc⟩],rfl,(uh HF).1,by rw[uh HE];rfl,?_,(uh HF).2.2⟩;rw[uh HE,Bool.or_false];exact(uh HF).2.1
 .have d3:((p.k:Int)==3)=false:=by simp;omega
  have afh:lD f c=if 24<=aI f then ([nY f i],true) else ([nY f i,Bq f c i],false):=by rw[uh C1];unfold MV;rw[if_neg (show ¬ ((owA f i).k=3) by rw[<-uh HP];exact BW)]
  have rt:=ab afh;have jI:=ab (cE (uh H1).ff (uh HO).c5 ha (zq3 gl (by omega)));clear BW afh;go_wp2_with fail
  refine(uh jI).mono ?_;rintro e w2 ⟨A2,rfl,GG⟩;obtain⟨av2,ov2,jK⟩:=GG.frf;obtain⟨g2,cap2,cZ,-,-⟩:=az jK.fm.is.ow hi;have afv:ov2=.slice (some ⟨g2,0,none⟩) f.ow.length cap2:=cZ;subst afv;have e6:=jK.fm.is.c6;obtain⟨Dg,bZ⟩:=Fm.putK jK.fm hi 3;obtain⟨-,⟨⟨u0,y0⟩,-,-⟩,z0,-,-⟩:=E4 jK.fm.is.ow rfl hi au;obtain⟨w3,GT⟩:∃w3,w3=w2.setCell ⟨g2,i*3,none⟩ (.int .i64 3):=⟨_,rfl⟩;rw[show w2.setCell ⟨g2,i*3,none⟩ (.int .i64 ((3:Nat):Int))=w3 from GT.symm]at Dg bZ;have lV:=jK.step (x':=⟨A2,nY f i,av2,.slice (some ⟨g2,0,none⟩) f.ow.length cap2⟩) Dg bZ;have hL3:=(uh H1).below lV.bw;have HR:=ab hL3.fl.row;have Li:=ab ((uh H1).fresh lV.ge);have HF3:=ab lV.fm;have HL3:=ab hL3;have ko:=hL3.bb;clear GG jK cZ Dg bZ lV hL3 jI;go_upto_region 7 with fail;rw[<-GT];clear GT e6 y0 z0 u0;go_wp2_with (at_builtin;refine aH _ rfl (.tmp 40) (.tmp 42) 125 rfl B 126 i0 _ 1 8 underlying125 iL eo ep eK rfl (by decide) _ L.length (L.map FE.p) rfl ((uh HR).alloc _) ⟨_,0,none⟩ 1 [.pointer (some ⟨A2,0,none⟩)] rfl rfl (aP _ _ (by simp) [.pointer (some ⟨A2,0,none⟩)] _) (by intro u hu;simp only[mem_singleton]at hu;subst hu;rfl) (by omega) (by omega) (by simp;omega) ?_)
  intro g4 cap4 w4 gM dM iJ;have hL4:=(uh HL3).app (uh HF3) (uh Li) gM dM (by simpa using iJ);have uj:aI f<=100000:=by
   unfold aI;have h1:=Cr (uh HO);omega
  have Ll:=ab (tX hL4.ff (zq3 ha (by omega)) (zq3 gl (by omega)) uj);have HL4:=ab hL4;clear gM dM iJ hL4 HR Li HF3 HL3;go_wp2_with fail
  refine(uh Ll).mono ?_;rintro e w5 ⟨rfl,cD⟩;have YN:=(uh HL4).below cD;have XD:=ab YN;obtain⟨N,hN⟩:∃N,N=aI f:=⟨_,rfl⟩;rw[<-hN]at uj rt ⊢;have su:=ab hN;clear cD Ll HL4 hN;by_cases pz:24<=N
  .have d5:decide ((24:Int)<=(N:Int))=true:=(by simp;omega);have HE:Hid (lD f c=([nY f i],true)):=ab (by rw[uh rt,if_pos pz]);have o4:=YN.bo.cell 4 rfl;have z4:=YN.bo.frz 4;have HL6:=ab (YN.flag 4 (.bool true) (by simp));clear pz YN;go_wp2_with fail
   go_ret;refine⟨_,[⟨A2,nY f i,av2,.slice (some ⟨g2,0,none⟩) f.ow.length cap2⟩],rfl,(uh HL6).fl,by rw[uh HE];rfl,?_,(uh HL6).st⟩;rw[uh HE,Bool.or_true];exact(uh HL6).bo
  .have d5:decide ((24:Int)<=(N:Int))=false:=(by simp;omega);have HE:Hid (lD f c=([nY f i,Bq f c i],false)):=ab (by rw[uh rt,if_neg pz]);have jI:=ab (cE YN.ff (uh HO).c5 ha (zq3 gl (by omega)));clear pz YN;go_wp2_with fail
   refine(uh jI).mono ?_;rintro e w6 ⟨A6,rfl,hN6⟩;obtain⟨av6,ov6,GJ⟩:=hN6.frf;obtain⟨g6,cap6,afx,-,-⟩:=az GJ.fm.is.ow hi;have afy:ov6=.slice (some ⟨g6,0,none⟩) f.ow.length cap6:=afx;subst afy;have e6:=GJ.fm.is.c6;obtain⟨S9,Dh⟩:=Fm.putW GJ.fm hi ⟨3,c,N⟩;obtain⟨-,⟨⟨u0,y0⟩,⟨u1,y1⟩,⟨u2,y2⟩⟩,z0,z1,z2⟩:=E4 GJ.fm.is.ow rfl hi au;obtain⟨w7,hw7⟩:∃w7,w7=((w6.setCell ⟨g6,i*3,none⟩ (.int .i64 3)).setCell ⟨g6,i*3+1,none⟩ (.int .i64 (c:Int))).setCell ⟨g6,i*3+2,none⟩ (.int .i64 (N:Int)):=⟨_,rfl⟩;rw[show((w6.setCell ⟨g6,i*3,none⟩ (.int .i64 (((⟨3,c,N⟩:Pr).k:Nat):Int))).setCell ⟨g6,i*3+1,none⟩ (.int .i64 (((⟨3,c,N⟩:Pr).l:Nat):Int))).setCell ⟨g6,i*3+2,none⟩ (.int .i64 (((⟨3,c,N⟩:Pr).r:Nat):Int))=w7 from hw7.symm]at S9 Dh;have ud:=GJ.step (x':=⟨A6,setO f i ⟨3,c,N⟩,av6,.slice (some ⟨g6,0,none⟩) f.ow.length cap6⟩) S9 Dh;have b2:=((uh XD).below ud.bw).bx.cell 2 rfl;have wH:=ab (pH ud.fm 4 N p.r (by
    show(f.ow.set i _).length<=100000;rw[length_set];exact zq3 gl (by omega)))
   have HF7:=ab ud;clear hN6 GJ afx S9 Dh ud jI;go_upto_region 14 with fail;rw[<-hw7];clear hw7 e6 y0 y1 y2 z0 z1 z2 u0 u1 u2;go_wp2_with fail
   refine(uh wH).mono ?_;rintro e w8 ⟨rfl,ov8,QW,BH⟩;have vA:=(uh HF7).step (x':=⟨A6,Bq f c i,av6,ov8⟩) (by
    have e9:Bq f c i={ setO f i ⟨3,c,N⟩ with ow:=(setO f i ⟨3,c,N⟩).ow++[⟨4,N,p.r⟩] }:=(by rw[uh HP,uh su];rfl);rw[e9];exact QW) BH
   have hL8:=(uh XD).below vA.bw;have HR:Hid (w8.ownsRow B 126 1 (.slice (some ⟨g4,0,none⟩) (L.length+1) cap4) (L.length+1) ((L++[(⟨A2,nY f i,av2,.slice (some ⟨g2,0,none⟩) f.ow.length cap2⟩:FE)]).map FE.p)):=ab (by have:=hL8.fl.row;rwa [length_append,length_singleton]at this);have Li:=ab ((uh XD).fresh vA.ge);have Ru:=ab vA.fm;have HL8:=ab hL8;have arF:=hL8.bb;clear QW BH vA hL8 wH;go_wp2_with (at_builtin;refine aH _ rfl (.tmp 68) (.tmp 70) 125 rfl B 126 i0 _ 1 8 underlying125 iL eo ep eK rfl (by decide) _ (L.length+1) ((L++[(⟨A2,nY f i,av2,.slice (some ⟨g2,0,none⟩) f.ow.length cap2⟩:FE)]).map FE.p) rfl ((uh HR).alloc _) ⟨_,0,none⟩ 1 [.pointer (some ⟨A6,0,none⟩)] rfl rfl (aP _ _ (by simp) [.pointer (some ⟨A6,0,none⟩)] _) (by intro u hu;simp only[mem_singleton]at hu;subst hu;rfl) (by omega) (by omega) (by simp;omega) ?_)
   intro g9 cap9 w9 WF NQ Wm;have HF:=ab ((uh HL8).fin (x:=⟨A6,Bq f c i,av6,ov8⟩) (g1:=g9) (c1:=cap9) (uh Ru) (λk hk=>⟨(uh Li k hk).1,(uh Li k hk).2.1,zq1 (uh Li k hk).2.2.2.2.1,(uh Li k hk).2.2.2.2.2⟩) (by rw[length_append,length_singleton,map_append,append_assoc];exact WF) NQ (by simpa using Wm));rw[append_assoc,length_append,length_singleton]at HF;clear WF NQ Wm;go_wp2_with fail
   go_ret;refine⟨_,[⟨A2,nY f i,av2,.slice (some ⟨g2,0,none⟩) f.ow.length cap2⟩,⟨A6,Bq f c i,av6,ov8⟩],rfl,(uh HF).1,by rw[uh HE];rfl,?_,(uh HF).2.2⟩;rw[uh HE,Bool.or_false];exact(uh HF).2.1
end
def lU(v:Value)(L:List FE)(j:Nat):List Nat:=v.ownBlock.toList++(L.drop j).flatMap FE.bs
structure fh(W:World)(B:Nat)(v:Value)(L:List FE)(j:Nat):Prop where
 row:W.ownsRow B 126 1 v L.length (L.map FE.p)
 fm:∀x∈L.drop j,Fm W x.A x.f x.av x.ov
 ge:∀x∈L.drop j,∀k∈x.bs,B<=k
 nd:(lU v L j).Nodup
section
variable {W W':World} {B j:Nat} {v:Value} {L:List FE}
theorem Fl.pend(h:Fl W B v L):fh W B v L 0:=⟨h.row,by simpa using h.fm,by simpa using h.ge,by simpa[lU,a9] using h.nd⟩
theorem fh.lt(h:fh W B v L j):∀k∈lU v L j,k<W.heap.size:=by
 intro k hk;rcases mem_append.1 hk with hk|hk
 .exact(h.row.lt k (by simpa using hk)).2
 .obtain⟨x,hx,hk⟩:=mem_flatMap.1 hk;exact(h.fm x hx).lt k hk
theorem fh.geB(h:fh W B v L j):∀k∈lU v L j,B<=k:=by
 intro k hk;rcases mem_append.1 hk with hk|hk
 .exact(h.row.lt k (by simpa using hk)).1
 .obtain⟨x,hx,hk⟩:=mem_flatMap.1 hk;exact h.ge x hx k hk
theorem fh.of_eq(h:fh W B v L j)(he:∀k∈lU v L j,W'.heap[k]?=W.heap[k]?):fh W' B v L j :=
 ⟨ae h.row (λk hk=>he k (mem_append_left _ (by simpa using hk))),λx hx=>(h.fm x hx).of_eq (λk hk=>he k (mem_append_right _ (mem_flatMap.2 ⟨x,hx,hk⟩))),h.ge,h.nd⟩
theorem fh.stp{F F':List Nat}(h:fh W B v L j)(hs:ar F W F' W')(hd:∀k∈lU v L j,k ∉ F):fh W' B v L j:=h.of_eq (λk hk=>hs.block k (h.lt k hk) (hd k hk))
theorem fh.below(h:fh W B v L j)(hb:Below W.heap.size W W'):fh W' B v L j:=h.of_eq (λk hk=>hb.block k (h.lt k hk))
theorem fh.next(h:fh W B v L j)(hj:j<L.length):Fm W L[j].A L[j].f L[j].av L[j].ov/\(∀k∈L[j].bs,B<=k)/\fh W B v L (j+1)/\(∀k∈lU v L (j+1),k∈lU v L j/\k ∉ L[j].bs)/\(∀k∈L[j].bs,k∈lU v L j):=by
 have e:L.drop j=L[j]::L.drop (j+1):=drop_eq_getElem_cons hj;have hm:L[j]∈L.drop j:=by rw[e];exact mem_cons_self
 have agl:∀x∈L.drop (j+1),x∈L.drop j:=λx hx=>by rw[e];exact mem_cons_of_mem _ hx
 have c9:=h.nd;unfold lU at c9;rw[e,flatMap_cons,nodup_append,nodup_append]at c9;obtain⟨n1,⟨n2,n3,n4⟩,n5⟩:=c9;refine⟨h.fm _ hm,h.ge _ hm,⟨h.row,λx hx=>h.fm x (agl x hx),λx hx=>h.ge x (agl x hx),?_⟩,λk hk=>?_,λk hk=>?_⟩
 .unfold lU;rw[nodup_append];exact⟨n1,n3,λa ha b hb=>n5 a ha b (mem_append_right _ hb)⟩
 .rcases mem_append.1 hk with hk|hk
  .exact⟨mem_append_left _ hk,λhn=>n5 k hk k (mem_append_left _ hn) rfl⟩
  .refine⟨mem_append_right _ ?_,λhn=>n4 k hn k hk rfl⟩;rw[e,flatMap_cons];exact mem_append_right _ hk
 .refine mem_append_right _ ?_;rw[e,flatMap_cons];exact mem_append_left _ hk
theorem fh.cell(h:fh W B v L j){i:Nat}(hi:i<L.length):∃g cap,v=.slice (some ⟨g,0,none⟩) L.length cap/\W.cell? ⟨g,i,none⟩=some L[i].p:=by
 obtain⟨g,cap,hv,-,-,-⟩:=bM h.row (by omega);subst hv;refine⟨g,cap,rfl,?_⟩;have:=h.row.cellAt i (by omega);rw[this];simp[hi]
end
theorem uL{α:Type}(g:α->Nat->α)(a:α)(n:Nat):(range (n+1)).foldl g a=g ((range n).foldl g a) n:=by
 rw[range_succ,foldl_append];rfl
theorem zu9{α β:Type}(g:α->β->α)(a:α){l:List β}{j:Nat}(hj:j<l.length):(l.take (j+1)).foldl g a=g ((l.take j).foldl g a) l[j]:=by
 rw[take_add_one,getElem?_eq_getElem hj,foldl_append];rfl
structure Ol(w W:World)(O:Nat)(nv tv:Value)(nu da fu:Bool)(A:Nat)(f:CF)(av ov:Value)(lv:Value)(L:List FE):Prop where
 fl:Fl W w.heap.size lv L
 bo:Bk W O 280 [nv,tv,.bool nu,.bool da,.bool fu]
 ff:dF W A f av ov
 st:ar [O] w (O::a9 lv L) W
 ol:O<w.heap.size
 of:O ∉ aD A av ov
 fw:∀k∈aD A av ov,k<w.heap.size
section
variable {w W W':World} {O A:Nat} {nv tv:Value} {nu da fu:Bool} {f:CF} {av ov lv:Value} {L:List FE}
theorem Ol.below(h:Ol w W O nv tv nu da fu A f av ov lv L)(hb:Below W.heap.size W W'):Ol w W' O nv tv nu da fu A f av ov lv L :=
 ⟨h.fl.below hb,h.bo.below hb,h.ff.below hb,⟨hb.os.trans h.st.os,hb.tape.trans h.st.tape,hb.output.trans h.st.output,zq3 h.st.size hb.size,λk hk hn=>(hb.block k (zq6 hk h.st.size)).trans (h.st.block k hk hn),h.st.foot⟩,h.ol,h.of,h.fw⟩
theorem Ol.ne(h:Ol w W O nv tv nu da fu A f av ov lv L):∀k∈a9 lv L,k≠O/\k ∉ aD A av ov:=λk hk=>⟨λe=>by have:=h.fl.geB k hk;have:=h.ol;omega,λhn=>by have:=h.fl.geB k hk;have:=h.fw k hn;omega⟩
theorem Ol.after{x:FE}{lv':Value}{L':List FE}{fu':Bool}(h:Ol w W O nv tv nu da fu A f av ov lv L)(hx:∀k∈x.bs,w.heap.size<=k)(h1:Fl W' w.heap.size lv' L')(h2:Bk W' O 280 [nv,tv,.bool nu,.bool da,.bool fu'])(hs:ar (O::(a9 lv L++x.bs)) W (O::a9 lv' L') W'):Ol w W' O nv tv nu da fu' A f av ov lv' L':=by
 refine⟨h1,h2,h.ff.of_eq (λk hk=>hs.block k (h.ff.lt k hk) (λhn=>?_)),?_,h.ol,h.of,h.fw⟩
 .rcases mem_cons.1 hn with rfl|hn
  .exact h.of hk
  .rcases mem_append.1 hn with hn|hn
   .exact(h.ne k hn).2 hk
   .have:=hx k hn;have:=h.fw k hk;omega
 .refine⟨hs.os.trans h.st.os,hs.tape.trans h.st.tape,hs.output.trans h.st.output,zq3 h.st.size hs.size,λk hk hn=>?_,λk hk=>?_⟩
  .rw[hs.block k (zq6 hk h.st.size) (λhm=>?_)]
   .exact h.st.block k hk hn
   .rcases mem_cons.1 hm with rfl|hm
    .exact hn (by simp)
    .rcases mem_append.1 hm with hm|hm
     .have:=h.fl.geB k hm;omega
     .have:=hx k hm;omega
  .rcases mem_cons.1 hk with rfl|hk
   .exact zq0 (by simp)
   .exact zq1 (h1.geB k hk)
theorem rb{v:Nat}(hv:v<4)(Dj:Bk w O 280 [nv,tv,.bool nu,.bool da,.bool fu])(h:dF w A f av ov)(hO:am f)(ha:f.ap.length<=40000)(ZH:O ∉ aD A av ov):
  Calls prog 257 #[.pointer (some ⟨O,0,none⟩),.pointer (some ⟨A,0,none⟩),.int .i64 v] w λe w'=>∃lv L,e=.returned lv/\Fl w' w.heap.size lv L/\L.map (·.f)=(fC f v).1/\Bk w' O 280 [nv,tv,.bool (nu||(fC f v).2.1),.bool (da||(fC f v).2.2.1),.bool (fu||(fC f v).2.2.2)]/\ar [O] w (O::a9 lv L) w':=by
 have gl:=hO.owLen;have x1:=h.cls (i:=1+v) (by omega);have x0:=h.cls (i:=0) (by omega);unfold fH at x0 x1;have mC:fC f v=if f.cl.getD (1+v) 0=f.cl.getD 0 0 then ([],true,false,false) else if (cR f.ow (f.cl.getD (1+v) 0)).isSome=true then ((lD f (f.cl.getD (1+v) 0)).1,false,false,(lD f (f.cl.getD (1+v) 0)).2) else (((range f.ow.length).foldl (λr i=>xP f v i r) ([],false)).1,!dS f (f.cl.getD (1+v) 0) (f.cl.getD 0 0),true,((range f.ow.length).foldl (λr i=>xP f v i r) ([],false)).2):=rfl
 have kI:=hO.get (1+v);obtain⟨c,hc⟩:∃c,c=f.cl.getD (1+v) 0:=⟨_,rfl⟩;obtain⟨n,hn⟩:∃n,n=f.cl.getD 0 0:=⟨_,rfl⟩;rw[<-hc]at x1 mC kI;rw[<-hn]at x0 mC;have i1:(0:Int)<=1+(v:Int):=by omega
 have i2:1+(v:Int)<5:=by omega
 have i3:(1+(v:Int)).toNat=1+v:=by omega
 have H:=ab h;have HO:=ab hO;have HBO:=ab Dj;have HC:=ab hc;have RA:=ab ZH;have o2:=Dj.cell 2 rfl;have o3:=Dj.cell 3 rfl;have oz:=Dj.frz;have HOL:=ab Dj.lt;have kV:=ab (bU c h);by_cases fQ:c=n
 .have d0:((c:Int)==(n:Int))=true:=by simp[fQ]
  have HE:Hid (fC f v=([],true,false,false)):=ab (by rw[mC,if_pos fQ]);have cg:=ab (Dj.set 2 (.bool true));clear mC fQ h hO Dj hc hn ZH;go_enter func257,ntmps257;go_wp2_with fail
  go_ret;refine⟨_,[],rfl,Fl.nil0 _ _,by rw[uh HE];rfl,?_,?_⟩
  .rw[uh HE];have:=uh cg;simpa using this
  .exact((ar.refl [O] w).setCell (p:=⟨O,2,none⟩) (zq0 (by simp)) _).foots (λk hk=>zq0 (by simpa[a9,Value.ownBlock] using hk))
 .have d0:((c:Int)==(n:Int))=false:=by simp;omega
  rw[if_neg fQ]at mC;have Ag:=ab mC;have hg:=rd (cR f.ow c);cases hb:cR f.ow c with
  |some i =>
   rw[hb]at hg kV Ag;have HE:Hid (fC f v=((lD f c).1,false,false,(lD f c).2)):=ab (by rw[uh Ag];rfl);have jI:=ab (cE h hO.c5 ha (zq3 gl (by omega)));have HB:=ab hb;clear mC fQ h hO Dj hc hn Ag hb ZH;go_enter func257,ntmps257;go_wp2_with fail
   refine(uh kV).mono ?_;rintro e w1 ⟨rfl,rfl⟩;go_wp2_with fail
   refine(uh jI).mono ?_;rintro e w2 ⟨A2,rfl,GG⟩;obtain⟨av2,ov2,jK⟩:=GG.frf;have C1:=ab (qG (v:=.slice none 0 0) (L:=[]) (B:=w1.heap.size) (Fl.nil0 w2 _) ((uh HBO).below jK.bw) jK.fm (uh HO) ha (λk hk=>by simp[a9,Value.ownBlock]at hk) (λhn=>by have h1:=jK.ge _ hn;have h2:=uh HOL;omega) jK.ge jK.bw.size (uh HB) (by simp));have rt:=ab jK;clear GG jK jI;go_wp2_with fail
   refine(uh C1).mono ?_;rintro e w3 ⟨v3,L3,rfl,lW,wd,BO,eW⟩;have aE:ar [O] w1 (O::a9 v3 L3) w3:=by
    have aL:=(uh rt).bw;refine⟨eW.os.trans aL.os,eW.tape.trans aL.tape,eW.output.trans aL.output,zq3 aL.size eW.size,λk hk hn=>?_,λk hk=>?_⟩
    .rw[eW.block k (zq6 hk aL.size) (λhm=>?_)]
     .exact aL.block k hk
     .rcases mem_cons.1 hm with rfl|hm
      .exact hn (by simp)
      .rcases mem_append.1 hm with hm|hm
       .simp[a9,Value.ownBlock]at hm
       .have:=(uh rt).ge k hm;omega
    .rcases mem_cons.1 hk with rfl|hk
     .exact zq0 (by simp)
     .exact zq1 (lW.geB k hk)
   rw[nil_append]at lW;have HN:=ab (zq2 lW (zq2 wd (zq2 BO aE)));clear lW wd BO eW aE C1 rt;go_wp2_with fail
   go_ret;refine⟨_,L3,rfl,(uh HN).1,by rw[uh HE];exact(uh HN).2.1,?_,(uh HN).2.2.2⟩;rw[uh HE];have:=(uh HN).2.2.1;simpa using this
  |none =>
   rw[hb]at hg kV Ag;have adn:Hid (fC f v=(((range f.ow.length).foldl (λr i=>xP f v i r) ([],false)).1,!dS f c n,true,((range f.ow.length).foldl (λr i=>xP f v i r) ([],false)).2)):=ab (by rw[uh Ag];rfl);have Zb:=Dj.set 3 (.bool true);have h8:dF (w.setCell ⟨O,3,none⟩ (.bool true)) A f av ov:=h.of_eq (λk hk=>heap_setCell _ _ _ _ (λe=>ZH (by have e':k=O:=e;rw[<-e'];exact hk)));obtain⟨W8,hW8⟩:∃W8,W8=w.setCell ⟨O,3,none⟩ (.bool true):=⟨_,rfl⟩;have GR:ar [O] w [O] W8:=(by rw[hW8];exact(ar.refl [O] w).setCell (p:=⟨O,3,none⟩) (zq0 (by simp)) _);rw[<-hW8]at Zb h8;have Vr:=ab (kF c n h8);have RE:=ab (iU (N:=40000) hv hO ha);have HLT:=ab h.lt;have HBN:=ab hb;have HB8:=ab Zb;have H8:=ab h8;have VH:=ab GR;clear mC fQ h hO Dj hc hn Ag hb ZH Zb h8 GR;go_enter func257,ntmps257;go_wp2_with fail
   refine(uh kV).mono ?_;rintro e w1 ⟨rfl,rfl⟩;go_upto_region 9 with fail;rw[<-hW8];clear hW8 o2 o3 oz;go_wp2_with fail
   refine(uh Vr).mono ?_;rintro e w9 ⟨rfl,Nz⟩;have ae1:=(uh HB8).below Nz;have h9:=(uh H8).below Nz;have hs9:ar [O] w1 [O] w9:=⟨Nz.os.trans (uh VH).os,Nz.tape.trans (uh VH).tape,Nz.output.trans (uh VH).output,zq3 (uh VH).size Nz.size,λk hk hn=>(Nz.block k (zq6 hk (uh VH).size)).trans ((uh VH).block k hk hn),(uh VH).foot⟩;have HB9:=ab ae1;have H9:=ab h9;have HS9:=ab hs9;obtain⟨nb,Oa⟩:∃nb,nb=(nu||!dS f c n):=⟨_,rfl⟩;have HNB:=ab Oa;clear ae1 h9 hs9 Nz Vr HB8 H8 VH;cases vZ:dS f c n
   .rw[vZ]at Oa;have o2:=(uh HB9).cell 2 rfl;have oz:=(uh HB9).frz 2;obtain⟨W10,t5⟩:∃W10,W10=w9.setCell ⟨O,2,none⟩ (.bool true):=⟨_,rfl⟩;have HW:Hid (Bk W10 O 280 [nv,tv,.bool nb,.bool true,.bool fu]/\dF W10 A f av ov/\ar [O] w1 [O] W10):=ab ⟨by
     have:=(uh HB9).set 2 (.bool true);rw[t5,Oa];simpa using this,by
     rw[t5];exact(uh H9).of_eq (λk hk=>heap_setCell _ _ _ _ (λe=>uh RA (by have e':k=O:=e;rw[<-e'];exact hk))),by rw[t5];exact(uh HS9).setCell (p:=⟨O,2,none⟩) (zq0 (by simp)) _⟩
    clear Oa vZ HB9 H9 HS9;go_upto_region 11 with fail;rw[<-t5];clear t5 o2 oz;have Ek:Ol w1 (W10.alloc (.cells #[] 126)) O nv tv nb true fu A f av ov (.slice (some ⟨W10.heap.size,0,none⟩) 0 0) []:=by
     obtain⟨q1,q2,q3⟩:=uh HW;have bQ:=ah W10 (.cells #[] 126);refine⟨⟨?_,λx hx=>by simp at hx,λx hx=>by simp at hx,by simp[a9,Value.ownBlock]⟩,q1.below bQ,q2.below bQ,?_,uh HOL,uh RA,uh HLT⟩
     .have:=ownsRow_lit (base:=W10.heap.size) (e:=126) (size:=1) W10 #[] 0 (zq4 _) (by simp[maxLen]) rfl;exact dA this q3.size
     .refine(q3.trans (ar.ofBw bQ)).foots (λk hk=>?_);rcases mem_cons.1 hk with rfl|hk
      .exact zq0 (by simp)
      .right;have e:k=W10.heap.size:=(by simpa[a9,Value.ownBlock,eq_comm] using hk);rw[e];exact q3.size
    have bX:=ab Ek;have hc6:=Ek.ff.c6;clear Ek HW;go_wp2_with fail
    go_loopg [9,10] f.ow.length (λgn lv iv wx=>∃(k:Nat) (L:List FE) (fu':Bool),k+gn=f.ow.length/\iv=.int .i64 k/\L.length<=4*k/\Hid (Ol w1 wx O nv tv nb true fu' A f av ov lv L/\L.map (·.f)=((range k).foldl (λr i=>xP f v i r) ([],false)).1/\fu'=(fu||((range k).foldl (λr i=>xP f v i r) ([],false)).2)))
    case atStart=>exact⟨0,[],fu,by omega,rfl,by simp,ab ⟨uh bX,rfl,by simp⟩⟩
    case round =>
     clear bX hc6;obtain⟨k,L,fu',eV,rfl,YP,hI⟩:=hrel;obtain⟨G,hG⟩:∃G,G=gk:=⟨_,rfl⟩;obtain⟨R,hR⟩:∃R,R=(range k).foldl (λr i=>xP f v i r) (([]:List CF),false):=⟨_,rfl⟩;rw[<-hR]at hI;obtain⟨la,lc,dX,-,-⟩:=aj (uh hI).1.fl.row;subst dX;have c6:=(uh hI).1.ff.c6;obtain⟨oa,oc,d7,-,-⟩:=aj (uh hI).1.ff.ow;rw[d7]at c6;clear d7;by_cases aq:k<f.ow.length
     .have hd:decide ((k:Int)<(f.ow.length:Int))=true:=(by simp;omega);have aE:(range (k+1)).foldl (λr i=>xP f v i r) (([]:List CF),false)=(gP f c k).foldl (λr g=>Db r g (g.cl.getD (1+v) 0)) R:=by
       rw[uL,<-hR,uh HC];rfl
      have cK:=ab aE;have Af:=ab (EO (uh hI).1.ff (uh HO) ha kI aq);have We:=pM f c k;have HMk:=ab (zw (N:=40000) hv (uh HO) ha (by rw[<-uh HC];exact uh HBN) aq);rw[<-uh HC]at HMk;have i4:(0:Int)<=(k:Int):=(by omega);clear aE hR;go_wp2_with fail
      refine(uh Af).mono ?_;rintro e w2 ⟨v2,L2,rfl,BV,sR,aL⟩;have Nl:=(uh hI).1.below aL;have Nn:=BV.pend;have QX:L2.length=(gP f c k).length:=(by rw[<-sR,length_map]);have Wq:∀x∈lU v2 L2 0,x ∉ a9 (.slice la L.length lc) L:=λx hx hn=>by
       have h1:=Nn.geB x hx;have h2:=(uh hI).1.fl.lt x hn;omega
      have hwB:w1.heap.size<=wr.heap.size:=(uh hI).1.st.size;obtain⟨B2,Ei⟩:∃B2,B2=wr.heap.size:=⟨_,rfl⟩;rw[<-Ei]at Nn hwB;obtain⟨a2,c2,GS,-,-⟩:=aj Nn.row;subst GS;have mV:=ab (zq2 Nl (zq2 Nn (zq2 Wq (zq2 (uh hI).2.1 (uh hI).2.2))));have DC:=ab sR;have aex:L2.length<=2:=(by omega);clear BV sR aL Nl Nn Wq hI Af Ei c6 QX We;go_wp2_with fail
      go_loopg [9,66] L2.length (λgn lv iv wx=>∃(j:Nat) (La:List FE) (fv:Bool),j+gn=L2.length/\iv=.int .i64 j/\La.length<=4*k+2*j/\Hid (Ol w1 wx O nv tv nb true fv A f av ov lv La/\fh wx B2 (.slice a2 L2.length c2) L2 j/\(∀x∈lU (.slice a2 L2.length c2) L2 j,x ∉ a9 lv La)/\La.map (·.f)=(((gP f c k).take j).foldl (λr g=>Db r g (g.cl.getD (1+v) 0)) R).1/\fv=(fu||(((gP f c k).take j).foldl (λr g=>Db r g (g.cl.getD (1+v) 0)) R).2)))
      case atStart=>exact⟨0,L,fu',by omega,rfl,by omega,mV⟩
      case round =>
       clear mV;obtain⟨j,La,fv,xD,rfl,YO,hJ⟩:=hrel;obtain⟨G2,BF⟩:∃G2,G2=gk:=⟨_,rfl⟩;by_cases eu:j<L2.length
       .have jb:decide ((j:Int)<(L2.length:Int))=true:=(by simp;omega);obtain⟨g2,cap2,cZ,aw⟩:=(uh hJ).2.1.cell eu;simp only[Value.slice.injEq,true_and]at cZ;obtain⟨rfl,rfl⟩:=cZ;obtain⟨hx,hxB,Nr,Np,Nq⟩:=(uh hJ).2.1.next eu;have rG:j<(gP f c k).length:=(by rw[<-uh DC,length_map];exact eu);have Zk:L2[j].f=(gP f c k)[j]:=by
         have:=congrArg (λl=>l[j]?) (uh DC);simp only[getElem?_map,getElem?_eq_getElem eu,getElem?_eq_getElem rG,Option.map_some,Option.some.injEq]at this;exact this
        have bf:=uh HMk L2[j].f (by rw[Zk];exact getElem_mem rG);have rK:=zu9 (λr g=>Db r g (g.cl.getD (1+v) 0)) R rG;rw[<-Zk]at rK;obtain⟨x,AH⟩:∃x,x=L2[j]:=⟨_,rfl⟩;rw[<-AH]at aw hx hxB Np Nq bf rK;obtain⟨i',oU⟩:=Option.isSome_iff_exists.1 bf.bg;have Ej:=(uh hJ).1;have TO:∀y∈x.bs,w1.heap.size<=y:=λy hy=>zq3 hwB (hxB y hy);obtain⟨lva,lvc,Ew,-,-⟩:=aj Ej.fl.row;subst Ew;have C1:=ab (qG Ej.fl Ej.bo hx bf.ok bf.ln (λy hy=>⟨(Ej.ne y hy).1,λhn=>(uh hJ).2.2.1 y (Nq y hn) hy⟩) (λhn=>by have h1:=TO _ hn;have h2:=Ej.ol;omega) TO Ej.st.size oU (by omega));have xc:=hx.is.cls (i:=1+v) (by omega);unfold fH at xc;obtain⟨cx,vz⟩:∃cx,cx=x.f.cl.getD (1+v) 0:=⟨_,rfl⟩;rw[<-vz]at xc C1 rK;have vS:=ab rK;have Lx:=ab Nr;have Lu:=ab Np;have HWG:=ab TO;have y9:x.p=.pointer (some ⟨x.A,0,none⟩):=rfl;rw[y9]at aw;have i5:(0:Int)<=(j:Int):=(by omega);have i6:(j:Int)<(L2.length:Int):=(by omega);have HJ:=ab (uh hJ);clear hx hxB Nr Np Nq rG Zk bf rK AH oU Ej TO vz y9 hJ;go_wp2_with fail
        refine(uh C1).mono ?_;rintro e w3 ⟨v3,L3,rfl,lW,wd,BO,eW⟩;have Nm:=(uh HJ).1.after (uh HWG) lW BO eW;have No:fh w3 B2 (.slice (some ⟨g2,0,none⟩) L2.length c2) L2 (j+1):=(uh Lx).stp eW (λy hy hn=>by
         rcases mem_cons.1 hn with rfl|hn
         .have h1:=(uh Lx).geB _ hy;have h2:=(uh HJ).1.ol;omega
         .rcases mem_append.1 hn with hn|hn
          .exact(uh HJ).2.2.1 y (uh Lu y hy).1 hn
          .exact(uh Lu y hy).2 hn)
        have Df:∀y∈lU (.slice (some ⟨g2,0,none⟩) L2.length c2) L2 (j+1),y ∉ a9 v3 (La++L3):=λy hy hn=>by
         rcases eW.foot y (mem_cons_of_mem _ hn) with q|q
         .rcases mem_cons.1 q with rfl|q
          .have h1:=(uh Lx).geB _ hy;have h2:=(uh HJ).1.ol;omega
          .rcases mem_append.1 q with q|q
           .exact(uh HJ).2.2.1 y (uh Lu y hy).1 q
           .exact(uh Lu y hy).2 q
         .have:=(uh Lx).lt y hy;omega
        have N2:L3.length<=2:=by
         have:=sI x.f cx;rw[<-wd,length_map]at this;exact this
        have Ax:(La++L3).map (·.f)=(((gP f c k).take (j+1)).foldl (λr g=>Db r g (g.cl.getD (1+v) 0)) R).1:=by
         rw[uh vS,map_append,(uh HJ).2.2.2.1,wd];rfl
        have Ni:(fv||(lD x.f cx).2)=(fu||(((gP f c k).take (j+1)).foldl (λr g=>Db r g (g.cl.getD (1+v) 0)) R).2):=by
         rw[uh vS,(uh HJ).2.2.2.2,Bool.or_assoc];rfl
        obtain⟨a3,c3,hv3,-,-⟩:=aj lW.row;subst hv3;have HN:=ab (zq2 Nm (zq2 No (zq2 Df (zq2 Ax Ni))));have sQ:(La++L3).length<=4*k+2*(j+1):=(by rw[length_append];omega);clear lW wd BO eW Nm No Df Ax Ni C1 HJ Lx Lu HWG vS aw xc;go_wp2_with fail
        go_roundg (G2-1)
        case rel=>exact⟨j+1,La++L3,_,by omega,by go_num,sQ,ab (by have h:=uh HN;rw[length_append]at h;exact h)⟩
        case measure=>omega
       .have jb:decide ((j:Int)<(L2.length:Int))=false:=(by simp;omega);have rG:(gP f c k).length<=j:=(by rw[<-uh DC,length_map];omega);have hN:=uh hJ;rw[take_of_length_le rG,<-uh cK]at hN;have HN:=ab (zq2 hN.1 (zq2 hN.2.2.2.1 hN.2.2.2.2));have sQ:La.length<=4*(k+1):=(by omega);obtain⟨lva,lvc,Ew,-,-⟩:=aj hN.1.fl.row;subst Ew;clear hN hJ rG;go_wp2_with fail
        go_roundg (G-1)
        case rel=>exact⟨k+1,La,fv,by omega,by go_num,sQ,HN⟩
        case measure=>omega
     .have hd:decide ((k:Int)<(f.ow.length:Int))=false:=(by simp;omega);have gB:k=f.ow.length:=(by omega);have HE:Hid (fC f v=(R.1,!dS f c n,true,R.2)):=ab (by rw[uh adn,hR,gB]);clear gB hR;go_wp2_with fail
      go_ret;refine⟨_,L,rfl,(uh hI).1.fl,by rw[uh HE];exact(uh hI).2.1,?_,(uh hI).1.st⟩;rw[uh HE];have h1:=(uh hI).1.bo;rw[uh HNB,(uh hI).2.2]at h1;simpa using h1
   .rw[vZ]at Oa;obtain⟨W10,t5⟩:∃W10,W10=w9:=⟨_,rfl⟩;have HW:Hid (Bk W10 O 280 [nv,tv,.bool nb,.bool true,.bool fu]/\dF W10 A f av ov/\ar [O] w1 [O] W10):=ab ⟨by
     rw[t5,Oa];simpa using uh HB9,by rw[t5];exact uh H9,by rw[t5];exact uh HS9⟩
    clear Oa vZ HB9 H9 HS9;go_upto_region 11 with fail;rw[<-t5];clear t5;have Ek:Ol w1 (W10.alloc (.cells #[] 126)) O nv tv nb true fu A f av ov (.slice (some ⟨W10.heap.size,0,none⟩) 0 0) []:=by
     obtain⟨q1,q2,q3⟩:=uh HW;have bQ:=ah W10 (.cells #[] 126);refine⟨⟨?_,λx hx=>by simp at hx,λx hx=>by simp at hx,by simp[a9,Value.ownBlock]⟩,q1.below bQ,q2.below bQ,?_,uh HOL,uh RA,uh HLT⟩
     .have:=ownsRow_lit (base:=W10.heap.size) (e:=126) (size:=1) W10 #[] 0 (zq4 _) (by simp[maxLen]) rfl;exact dA this q3.size
     .refine(q3.trans (ar.ofBw bQ)).foots (λk hk=>?_);rcases mem_cons.1 hk with rfl|hk
      .exact zq0 (by simp)
      .right;have e:k=W10.heap.size:=(by simpa[a9,Value.ownBlock,eq_comm] using hk);rw[e];exact q3.size
    have bX:=ab Ek;have hc6:=Ek.ff.c6;clear Ek HW;go_wp2_with fail
    go_loopg [9,10] f.ow.length (λgn lv iv wx=>∃(k:Nat) (L:List FE) (fu':Bool),k+gn=f.ow.length/\iv=.int .i64 k/\L.length<=4*k/\Hid (Ol w1 wx O nv tv nb true fu' A f av ov lv L/\L.map (·.f)=((range k).foldl (λr i=>xP f v i r) ([],false)).1/\fu'=(fu||((range k).foldl (λr i=>xP f v i r) ([],false)).2)))
    case atStart=>exact⟨0,[],fu,by omega,rfl,by simp,ab ⟨uh bX,rfl,by simp⟩⟩
    case round =>
     clear bX hc6;obtain⟨k,L,fu',eV,rfl,YP,hI⟩:=hrel;obtain⟨G,hG⟩:∃G,G=gk:=⟨_,rfl⟩;obtain⟨R,hR⟩:∃R,R=(range k).foldl (λr i=>xP f v i r) (([]:List CF),false):=⟨_,rfl⟩;rw[<-hR]at hI;obtain⟨la,lc,dX,-,-⟩:=aj (uh hI).1.fl.row;subst dX;have c6:=(uh hI).1.ff.c6;obtain⟨oa,oc,d7,-,-⟩:=aj (uh hI).1.ff.ow;rw[d7]at c6;clear d7;by_cases aq:k<f.ow.length
     .have hd:decide ((k:Int)<(f.ow.length:Int))=true:=(by simp;omega);have aE:(range (k+1)).foldl (λr i=>xP f v i r) (([]:List CF),false)=(gP f c k).foldl (λr g=>Db r g (g.cl.getD (1+v) 0)) R:=by
       rw[uL,<-hR,uh HC];rfl
      have cK:=ab aE;have Af:=ab (EO (uh hI).1.ff (uh HO) ha kI aq);have We:=pM f c k;have HMk:=ab (zw (N:=40000) hv (uh HO) ha (by rw[<-uh HC];exact uh HBN) aq);rw[<-uh HC]at HMk;have i4:(0:Int)<=(k:Int):=(by omega);clear aE hR;go_wp2_with fail
      refine(uh Af).mono ?_;rintro e w2 ⟨v2,L2,rfl,BV,sR,aL⟩;have Nl:=(uh hI).1.below aL;have Nn:=BV.pend;have QX:L2.length=(gP f c k).length:=(by rw[<-sR,length_map]);have Wq:∀x∈lU v2 L2 0,x ∉ a9 (.slice la L.length lc) L:=λx hx hn=>by
       have h1:=Nn.geB x hx;have h2:=(uh hI).1.fl.lt x hn;omega
      have hwB:w1.heap.size<=wr.heap.size:=(uh hI).1.st.size;obtain⟨B2,Ei⟩:∃B2,B2=wr.heap.size:=⟨_,rfl⟩;rw[<-Ei]at Nn hwB;obtain⟨a2,c2,GS,-,-⟩:=aj Nn.row;subst GS;have mV:=ab (zq2 Nl (zq2 Nn (zq2 Wq (zq2 (uh hI).2.1 (uh hI).2.2))));have DC:=ab sR;have aex:L2.length<=2:=(by omega);clear BV sR aL Nl Nn Wq hI Af Ei c6 QX We;go_wp2_with fail
      go_loopg [9,66] L2.length (λgn lv iv wx=>∃(j:Nat) (La:List FE) (fv:Bool),j+gn=L2.length/\iv=.int .i64 j/\La.length<=4*k+2*j/\Hid (Ol w1 wx O nv tv nb true fv A f av ov lv La/\fh wx B2 (.slice a2 L2.length c2) L2 j/\(∀x∈lU (.slice a2 L2.length c2) L2 j,x ∉ a9 lv La)/\La.map (·.f)=(((gP f c k).take j).foldl (λr g=>Db r g (g.cl.getD (1+v) 0)) R).1/\fv=(fu||(((gP f c k).take j).foldl (λr g=>Db r g (g.cl.getD (1+v) 0)) R).2)))
      case atStart=>exact⟨0,L,fu',by omega,rfl,by omega,mV⟩
      case round =>
       clear mV;obtain⟨j,La,fv,xD,rfl,YO,hJ⟩:=hrel;obtain⟨G2,BF⟩:∃G2,G2=gk:=⟨_,rfl⟩;by_cases eu:j<L2.length
       .have jb:decide ((j:Int)<(L2.length:Int))=true:=(by simp;omega);obtain⟨g2,cap2,cZ,aw⟩:=(uh hJ).2.1.cell eu;simp only[Value.slice.injEq,true_and]at cZ;obtain⟨rfl,rfl⟩:=cZ;obtain⟨hx,hxB,Nr,Np,Nq⟩:=(uh hJ).2.1.next eu;have rG:j<(gP f c k).length:=(by rw[<-uh DC,length_map];exact eu);have Zk:L2[j].f=(gP f c k)[j]:=by
         have:=congrArg (λl=>l[j]?) (uh DC);simp only[getElem?_map,getElem?_eq_getElem eu,getElem?_eq_getElem rG,Option.map_some,Option.some.injEq]at this;exact this
        have bf:=uh HMk L2[j].f (by rw[Zk];exact getElem_mem rG);have rK:=zu9 (λr g=>Db r g (g.cl.getD (1+v) 0)) R rG;rw[<-Zk]at rK;obtain⟨x,AH⟩:∃x,x=L2[j]:=⟨_,rfl⟩;rw[<-AH]at aw hx hxB Np Nq bf rK;obtain⟨i',oU⟩:=Option.isSome_iff_exists.1 bf.bg;have Ej:=(uh hJ).1;have TO:∀y∈x.bs,w1.heap.size<=y:=λy hy=>zq3 hwB (hxB y hy);obtain⟨lva,lvc,Ew,-,-⟩:=aj Ej.fl.row;subst Ew;have C1:=ab (qG Ej.fl Ej.bo hx bf.ok bf.ln (λy hy=>⟨(Ej.ne y hy).1,λhn=>(uh hJ).2.2.1 y (Nq y hn) hy⟩) (λhn=>by have h1:=TO _ hn;have h2:=Ej.ol;omega) TO Ej.st.size oU (by omega));have xc:=hx.is.cls (i:=1+v) (by omega);unfold fH at xc;obtain⟨cx,vz⟩:∃cx,cx=x.f.cl.getD (1+v) 0:=⟨_,rfl⟩;rw[<-vz]at xc C1 rK;have vS:=ab rK;have Lx:=ab Nr;have Lu:=ab Np;have HWG:=ab TO;have y9:x.p=.pointer (some ⟨x.A,0,none⟩):=rfl;rw[y9]at aw;have i5:(0:Int)<=(j:Int):=(by omega);have i6:(j:Int)<(L2.length:Int):=(by omega);have HJ:=ab (uh hJ);clear hx hxB Nr Np Nq rG Zk bf rK AH oU Ej TO vz y9 hJ;go_wp2_with fail
        refine(uh C1).mono ?_;rintro e w3 ⟨v3,L3,rfl,lW,wd,BO,eW⟩;have Nm:=(uh HJ).1.after (uh HWG) lW BO eW;have No:fh w3 B2 (.slice (some ⟨g2,0,none⟩) L2.length c2) L2 (j+1):=(uh Lx).stp eW (λy hy hn=>by
         rcases mem_cons.1 hn with rfl|hn
         .have h1:=(uh Lx).geB _ hy;have h2:=(uh HJ).1.ol;omega
         .rcases mem_append.1 hn with hn|hn
          .exact(uh HJ).2.2.1 y (uh Lu y hy).1 hn
          .exact(uh Lu y hy).2 hn)
        have Df:∀y∈lU (.slice (some ⟨g2,0,none⟩) L2.length c2) L2 (j+1),y ∉ a9 v3 (La++L3):=λy hy hn=>by
         rcases eW.foot y (mem_cons_of_mem _ hn) with q|q
         .rcases mem_cons.1 q with rfl|q
          .have h1:=(uh Lx).geB _ hy;have h2:=(uh HJ).1.ol;omega
          .rcases mem_append.1 q with q|q
           .exact(uh HJ).2.2.1 y (uh Lu y hy).1 q
           .exact(uh Lu y hy).2 q
         .have:=(uh Lx).lt y hy;omega
        have N2:L3.length<=2:=by
         have:=sI x.f cx;rw[<-wd,length_map]at this;exact this
        have Ax:(La++L3).map (·.f)=(((gP f c k).take (j+1)).foldl (λr g=>Db r g (g.cl.getD (1+v) 0)) R).1:=by
         rw[uh vS,map_append,(uh HJ).2.2.2.1,wd];rfl
        have Ni:(fv||(lD x.f cx).2)=(fu||(((gP f c k).take (j+1)).foldl (λr g=>Db r g (g.cl.getD (1+v) 0)) R).2):=by
         rw[uh vS,(uh HJ).2.2.2.2,Bool.or_assoc];rfl
        obtain⟨a3,c3,hv3,-,-⟩:=aj lW.row;subst hv3;have HN:=ab (zq2 Nm (zq2 No (zq2 Df (zq2 Ax Ni))));have sQ:(La++L3).length<=4*k+2*(j+1):=(by rw[length_append];omega);clear lW wd BO eW Nm No Df Ax Ni C1 HJ Lx Lu HWG vS aw xc;go_wp2_with fail
        go_roundg (G2-1)
        case rel=>exact⟨j+1,La++L3,_,by omega,by go_num,sQ,ab (by have h:=uh HN;rw[length_append]at h;exact h)⟩
        case measure=>omega
       .have jb:decide ((j:Int)<(L2.length:Int))=false:=(by simp;omega);have rG:(gP f c k).length<=j:=(by rw[<-uh DC,length_map];omega);have hN:=uh hJ;rw[take_of_length_le rG,<-uh cK]at hN;have HN:=ab (zq2 hN.1 (zq2 hN.2.2.2.1 hN.2.2.2.2));have sQ:La.length<=4*(k+1):=(by omega);obtain⟨lva,lvc,Ew,-,-⟩:=aj hN.1.fl.row;subst Ew;clear hN hJ rG;go_wp2_with fail
        go_roundg (G-1)
        case rel=>exact⟨k+1,La,fv,by omega,by go_num,sQ,HN⟩
        case measure=>omega
     .have hd:decide ((k:Int)<(f.ow.length:Int))=false:=(by simp;omega);have gB:k=f.ow.length:=(by omega);have HE:Hid (fC f v=(R.1,!dS f c n,true,R.2)):=ab (by rw[uh adn,hR,gB]);clear gB hR;go_wp2_with fail
      go_ret;refine⟨_,L,rfl,(uh hI).1.fl,by rw[uh HE];exact(uh hI).2.1,?_,(uh hI).1.st⟩;rw[uh HE];have h1:=(uh hI).1.bo;rw[uh HNB,(uh hI).2.2]at h1;simpa using h1
end
structure Os(w W:World)(O A:Nat)(f:CF)(av ov:Value)(nu da fu:Bool)(nv tv:Value)(Ln Lt:List FE):Prop where
 oo:Oo W O nu da fu nv tv Ln Lt
 ff:dF W A f av ov
 st:ar [O] w (dV O nv tv Ln Lt) W
 ol:O<w.heap.size
 of:O ∉ aD A av ov
 fw:∀k∈aD A av ov,k<w.heap.size
def nQ(w:World)(O:Nat)(o:Lz)(w':World):Prop:=∃nv tv Ln Lt,Oo w' O o.nu o.da o.fu nv tv Ln Lt/\Ln.map (·.f)=o.nx/\Lt.map (·.f)=o.ot/\ar [O] w (dV O nv tv Ln Lt) w'
section
variable {w W W':World} {O A:Nat} {f:CF} {av ov nv tv:Value} {nu da fu:Bool} {Ln Lt:List FE}
theorem Os.start(h:Oo w O nu da fu nv tv Ln Lt)(hf:dF w A f av ov)(hn:dV O nv tv Ln Lt=[O])(ZH:O ∉ aD A av ov):Os w w O A f av ov nu da fu nv tv Ln Lt:=⟨h,hf,(ar.refl [O] w).foots (λk hk=>by rw[hn]at hk;exact zq0 hk),h.bk.lt,ZH,hf.lt⟩
theorem Os.ge(h:Os w W O A f av ov nu da fu nv tv Ln Lt):∀k∈dV O nv tv Ln Lt,k=O\/w.heap.size<=k:=λk hk=>by
 rcases h.st.foot k hk with q|q
 .exact zq0 (by simpa using q)
 .exact zq1 q
theorem Os.below(h:Os w W O A f av ov nu da fu nv tv Ln Lt)(hb:Below W.heap.size W W'):Os w W' O A f av ov nu da fu nv tv Ln Lt :=
 ⟨h.oo.below hb,h.ff.below hb,⟨hb.os.trans h.st.os,hb.tape.trans h.st.tape,hb.output.trans h.st.output,zq3 h.st.size hb.size,λk hk hn=>(hb.block k (zq6 hk h.st.size)).trans (h.st.block k hk hn),h.st.foot⟩,h.ol,h.of,h.fw⟩
theorem Os.fresh(h:Os w W O A f av ov nu da fu nv tv Ln Lt){x:FE}(hx:∀k∈x.bs,W.heap.size<=k):∀k∈x.bs,k ∉ dV O nv tv Ln Lt:=λk hk hn=>by have:=hx k hk;have:=h.oo.lt k hn;omega
theorem Os.next{B:List Nat}{nv' tv':Value}{Ln' Lt':List FE}{nu' da' fu':Bool}(h:Os w W O A f av ov nu da fu nv tv Ln Lt)(hB:∀k∈B,w.heap.size<=k)(h1:Oo W' O nu' da' fu' nv' tv' Ln' Lt')(hs:ar (dV O nv tv Ln Lt++B) W (dV O nv' tv' Ln' Lt') W'):Os w W' O A f av ov nu' da' fu' nv' tv' Ln' Lt':=by
 have key:∀k,k<w.heap.size->k≠O->k ∉ dV O nv tv Ln Lt++B:=λk hk aJ hn=>by
  rcases mem_append.1 hn with hn|hn
  .rcases h.ge k hn with q|q
   .exact aJ q
   .omega
  .have:=hB k hn;omega
 refine⟨h1,h.ff.of_eq (λk hk=>hs.block k (h.ff.lt k hk) (key k (h.fw k hk) (λe=>h.of (by rw[<-e];exact hk)))),⟨hs.os.trans h.st.os,hs.tape.trans h.st.tape,hs.output.trans h.st.output,zq3 h.st.size hs.size,λk hk hn=>?_,λk hk=>?_⟩,h.ol,h.of,h.fw⟩
 .exact(hs.block k (zq6 hk h.st.size) (key k hk (by simpa using hn))).trans (h.st.block k hk hn)
 .rcases hs.foot k hk with q|q
  .rcases mem_append.1 q with q|q
   .exact h.st.foot k q
   .exact zq1 (hB k q)
  .exact zq1 (zq3 h.st.size q)
theorem Os.out{o:Lz}(h:Os w W O A f av ov o.nu o.da o.fu nv tv Ln Lt)(h1:Ln.map (·.f)=o.nx)(h2:Lt.map (·.f)=o.ot):nQ w O o W:=⟨nv,tv,Ln,Lt,h.oo,h1,h2,h.st⟩
theorem DQ{v c:Nat}(h:Os w w O A f av ov false false false (.slice none 0 0) (.slice none 0 0) [] [])(hO:am f)(ha:f.ap.length<=40000)(hv:v<4)(hc:c<24):
  Calls prog 235 #[.pointer (some ⟨O,0,none⟩),.pointer (some ⟨A,0,none⟩),.int .i64 v,.int .i64 c] w λe w'=>e=.returned (.tuple #[])/\nQ w O ⟨[bz (setC f (1+v) c)],[],false,false,false⟩ w':=by
 have gl:=hO.owLen;have jI:=ab (cE h.ff hO.c5 ha (zq3 gl (by omega)));have H:=ab h;have HO:=ab hO;have i1:(0:Int)<=1+(v:Int):=by omega
 have i2:1+(v:Int)<5:=by omega
 have i3:(1+(v:Int)).toNat=1+v:=by omega
 clear h hO;go_enter func235,ntmps235;go_wp2_with fail
 refine(uh jI).mono ?_;rintro e w1 ⟨A1,rfl,pq⟩;obtain⟨av1,ov1,BS⟩:=pq.frf;have x1:=BS.fm.is.cls (i:=1+v) (by omega);have z1:=ownsRow.frozenAt BS.fm.is.ob (1+v);have nA:=BS.fm.setCl (1+v) c (by omega);obtain⟨w2,rL⟩:∃w2,w2=w1.setCell ⟨A1,1+v,none⟩ (.int .i64 (c:Int)):=⟨_,rfl⟩;rw[<-rL]at nA;have fR:ar (aD A1 av1 ov1) w1 (aD A1 av1 ov1) w2:=by rw[rL];exact(ar.refl _ _).setCell (p:=⟨A1,1+v,none⟩) (zq0 (by simp[aD])) _
 have jK:=BS.step (x':=⟨A1,setC f (1+v) c,av1,ov1⟩) nA fR;have YS:=(uh H).below jK.bw;have qv:=ab (gI YS.oo jK.fm ((uh HO).sC (1+v) hc) (zq3 ha (by omega)) ((uh H).fresh jK.ge) (by simp));have Vz:=ab YS;have Ad:=ab jK.ge;clear pq BS nA fR jK YS jI;go_upto_region 2 with fail;rw[<-rL];clear rL x1 z1;go_wp2_with fail
 refine(uh qv).mono ?_;rintro e w3 ⟨rfl,nv3,x3,-,hx3,af3,eW⟩;have HN:=ab ((uh Vz).next (uh Ad) af3 eW);have HX:=ab hx3;clear af3 eW hx3 qv;go_wp2_with fail
 go_end0
 exact⟨rfl,(uh HN).out (o:=⟨[bz (setC f (1+v) c)],[],false,false,false⟩) (by simp[uh HX]) rfl⟩
theorem DZ{v:Nat}(h:Os w w O A f av ov false false false (.slice none 0 0) (.slice none 0 0) [] [])(hO:am f)(ha:f.ap.length<=40000)(hv:v<4):
  Calls prog 239 #[.pointer (some ⟨O,0,none⟩),.pointer (some ⟨A,0,none⟩),.int .i64 v] w λe w'=>e=.returned (.tuple #[])/\nQ w O (if 24<=aI f then ⟨[],[],false,false,true⟩ else ⟨[bz (C9 f v)],[],false,false,false⟩) w':=by
 have gl:=hO.owLen;have uj:aI f<=100000:=by
  unfold aI;have h1:=Cr hO;omega
 have Ll:=ab (tX h.ff (zq3 ha (by omega)) (zq3 gl (by omega)) uj);obtain⟨N,hN⟩:∃N,N=aI f:=⟨_,rfl⟩;have su:=ab hN;rw[<-hN]at Ll uj ⊢;obtain⟨oR,hoR⟩:∃oR:Lz,oR=if 24<=N then ⟨[],[],false,false,true⟩ else ⟨[bz (C9 f v)],[],false,false,false⟩:=⟨_,rfl⟩
 rw[<-hoR];have Lq:=ab hoR;clear hoR;have H:=ab h;have HO:=ab hO;have i1:(0:Int)<=1+(v:Int):=by omega
 have i2:1+(v:Int)<5:=by omega
 have i3:(1+(v:Int)).toNat=1+v:=by omega
 clear h hO hN;go_enter func239,ntmps239;go_wp2_with fail
 refine(uh Ll).mono ?_;rintro e w1 ⟨rfl,a7⟩;have sL:=(uh H).below a7;have I3:=ab sL;clear a7 Ll;by_cases pz:24<=N
 .have d5:decide ((24:Int)<=(N:Int))=true:=by simp;omega
  have o4:=sL.oo.bk.cell 4 rfl;have z4:=sL.oo.bk.frz 4;have HN:=ab (sL.next (B:=[]) (λk hk=>by simp at hk) (sL.oo.flag (nu':=false) (da':=false) (fu':=true) 4 (by omega) rfl) (((ar.refl (dV O (.slice none 0 0) (.slice none 0 0) [] []) w1).setCell (p:=⟨O,4,none⟩) (zq0 (by simp[dV])) (.bool true)).wide (by simp) |>.foots (λk hk=>zq0 (by simpa using hk))));have QN:Hid (oR=⟨[],[],false,false,true⟩):=ab (by rw[uh Lq,if_pos pz]);clear sL pz;go_wp2_with fail
  refine bodyPost_ret (v:=.tuple #[]) (by simp[results,Tryz.results239]) rfl ?_;exact⟨rfl,by rw[uh QN];exact(uh HN).out (o:=⟨[],[],false,false,true⟩) rfl rfl⟩
 .have d5:decide ((24:Int)<=(N:Int))=false:=by simp;omega
  have QN:Hid (oR=⟨[bz (C9 f v)],[],false,false,false⟩):=ab (by rw[uh Lq,if_neg pz]);have jI:=ab (cE sL.ff (uh HO).c5 ha (zq3 gl (by omega)));have aj8:N<24:=by omega
  clear pz sL;go_wp2_with fail
  refine(uh jI).mono ?_;rintro e w2 ⟨A2,rfl,GG⟩;obtain⟨av2,ov2,jK⟩:=GG.frf;have x0:=jK.fm.is.cls (i:=0) (by omega);unfold fH at x0;obtain⟨n0,oq⟩:∃n0,n0=f.cl.getD 0 0:=⟨_,rfl⟩;rw[show(({ A:=A2,f:=f,av:=av2,ov:=ov2 }:FE).f.cl.getD 0 0:Nat)=n0 from oq.symm]at x0;have wH:=ab (pH jK.fm 3 N n0 (zq3 gl (by omega)));have rt:=ab jK;have XF:=ab oq;clear GG jK jI oq;go_wp2_with fail
  refine(uh wH).mono ?_;rintro e w3 ⟨rfl,ov3,Dg,bZ⟩;have lV:=(uh rt).step (x':=⟨A2,qW f ⟨3,N,n0⟩,av2,ov3⟩) Dg bZ;have x1:=lV.fm.is.cls (i:=1+v) (by omega);have z1:=ownsRow.frozenAt lV.fm.is.ob (1+v);have qN:=lV.fm.setCl (1+v) N (by omega);obtain⟨w4,ZW⟩:∃w4,w4=w3.setCell ⟨A2,1+v,none⟩ (.int .i64 (N:Int)):=⟨_,rfl⟩;rw[<-ZW]at qN;have uo:ar (aD A2 av2 ov3) w3 (aD A2 av2 ov3) w4:=by rw[ZW];exact(ar.refl _ _).setCell (p:=⟨A2,1+v,none⟩) (zq0 (by simp[aD])) _
  have hcr:setC (qW f ⟨3,N,n0⟩) (1+v) N=C9 f v:=by unfold C9;rw[<-uh su,<-uh XF]
  have yR:=lV.step (x':=⟨A2,C9 f v,av2,ov3⟩) (by rw[<-hcr];exact qN) uo;have JC:=(uh I3).below yR.bw;have qv:=ab (gI JC.oo yR.fm (qB (uh HO) (by rw[<-uh su];exact aj8)) (zq3 ha (by omega)) ((uh I3).fresh yR.ge) (by simp));have HO4:=ab JC;have Ad:=ab (λk hk=>zq3 (uh I3).st.size (yR.ge k hk));clear lV Dg bZ qN uo yR JC wH hcr;go_upto_region 6 with fail;rw[<-ZW];clear ZW x1 z1 x0;go_wp2_with fail
  refine(uh qv).mono ?_;rintro e w5 ⟨rfl,nv5,x5,-,hx5,af4,pD⟩;have HN:=ab ((uh HO4).next (uh Ad) af4 pD);have HX:=ab hx5;clear af4 pD hx5 qv;go_wp2_with fail
  go_end0
  exact⟨rfl,by rw[uh QN];exact(uh HN).out (o:=⟨[bz (C9 f v)],[],false,false,false⟩) (by simp[uh HX]) rfl⟩
end
