import Derived.Test.YtciihepbeacppaaGreatIE
set_option maxRecDepth 100000
set_option maxHeartbeats 0
namespace Go.Proofs.YtciihepbeacppaaGreat
open Tryz Go.RowKit List World Below
set_option linter.unusedVariables false
def oZ(s:Sr):Prop:=∀l∈s.kn,l.length<=qI+1
theorem GG{c:Cd}{n:Nat}{f:CF}{s:Sr}(h:oZ s)(aY:(bQ c n f s).ok=true):oZ (bQ c n f s):=by
 have hb:=(lS aY).2;unfold bQ;split
 .exact h
 .show ∀l∈s.kn.set n ((bN s n).filter (λe=>!C3 e.f (layN c n f))++[⟨layN c n f,false⟩]),l.length<=qI+1;intro l hl;rcases mem_or_eq_of_mem_set hl with p|p
  .exact h l p
  .rw[p,length_append,length_singleton];have:=length_filter_le (λe=>!C3 e.f (layN c n f)) (bN s n);omega
theorem GD{c:Cd}{n:Nat}:∀(l:List CF) {s:Sr},oZ s->(l.foldl (λs g=>bQ c n g s) s).ok=true->oZ (l.foldl (λs g=>bQ c n g s) s)
 |[],_,h,_=>h
 |_::l,_,h,aY=>GD l (GG h (jD l aY)) aY
theorem Dh{c:Cd}{fuel a b:Nat}{f:CF}{s:Sr}(hf:Td f)(h:oZ s)(aY:(eo c fuel a b f s).ok=true):oZ (eo c fuel a b f s):=by
 unfold eo at aY ⊢;split
 .rename_i hc;rw[if_pos hc]at aY;exact GG h aY
 .rename_i hc;rw[if_neg hc]at aY;have h1:c9 [f]:=λx hx=>by rw[mem_singleton]at hx;subst hx;exact hf
  obtain⟨-,g2,-⟩:=mY (c:=c) fuel 0 (r:=([f],mf a 2 s)) (res:=[]) h1 (λx hx=>by simp at hx);refine GD _ ?_ aY;unfold oZ;rw[g2];exact h
theorem Df{c:Cd}{fuel a b:Nat}:∀(l:List CF) {s:Sr},c9 l->oZ s->(l.foldl (λs g=>eo c fuel a b g s) s).ok=true->oZ (l.foldl (λs g=>eo c fuel a b g s) s)
 |[],_,_,h,_=>h
 |g::l,_,hl,h,aY=>Df l (λx hx=>hl x (by simp[hx])) (Dh (hl g (by simp)) h (gf l aY)) aY
theorem Z6{c:Cd}{fuel n:Nat}{f:CF}{s:Sr}(hv:(c.nds.getD n bj).v<4)(ha:(c.nds.getD n bj).ai<4)(hf:Td f)(h:oZ s)(aY:(qB c fuel n f s).ok=true):oZ (qB c fuel n f s):=by
 obtain⟨h1,h2⟩:=pG hv ha hf;unfold qB at aY ⊢;simp only at aY ⊢;refine Df _ h2 (Df _ h1 ?_ (gf _ aY)) aY;unfold oZ;show ∀l∈(wrI _ n 4 (wrI _ n 3 (wrI _ n 2 s))).kn,_;rw[ny,ny,ny];exact h
theorem Px{c:Cd}{fuel n:Nat}(hv:(c.nds.getD n bj).v<4)(ha:(c.nds.getD n bj).ai<4):∀(l:List CF) {s:Sr},c9 l->oZ s->(pu c fuel n l s).ok=true->oZ (pu c fuel n l s)
 |[],_,_,h,_=>h
 |f::l,s,hl,h,aY=>by
  unfold pu at aY ⊢;split
  .exact h
  .rename_i hc;rw[if_neg hc]at aY;exact Px hv ha l (λx hx=>hl x (by simp[hx])) (Z6 hv ha (hl f (by simp)) h (oW l aY)) aY
theorem Pz{c:Cd}{fuel n:Nat}(hv:(c.nds.getD n bj).v<4)(ha:(c.nds.getD n bj).ai<4){s:Sr}(hi:kx s)(h:oZ s)(aY:(uD c fuel n s).ok=true):oZ (uD c fuel n s):=by
 unfold uD at aY ⊢;refine Px hv ha _ (λf hf=>?_) ?_ aY
 .unfold lN at hf;obtain⟨e,he,rfl⟩:=mem_map.1 hf;exact hi.at n e (mem_filter.1 he).1
 .show ∀l∈s.kn.set n _,l.length<=qI+1;intro l hl;rcases mem_or_eq_of_mem_set hl with p|p
  .exact h l p
  .rw[p,length_map];unfold bN;by_cases hn:n<s.kn.length
   .rw[bp hn];exact h _ (getElem_mem hn)
   .rw[getD_eq_getElem?_getD,getElem?_eq_none (by omega)];exact zq5 _
theorem PA{c:Cd}{fuel n:Nat}{s:Sr}(aY:(uD c fuel n s).ok=true):s.ok=true:=by
 unfold uD at aY;have h1:=oW _ aY;exact h1
theorem lB{c:Cd}{fuel:Nat}:∀(n:Nat) {s:Sr},(qa c fuel n s).ok=true->s.ok=true
 |0,_,h=>by simp[qa]at h
 |n+1,s,h=>by
  unfold qa at h;split at h
  .exact h
  .split at h
   .exact h
   .exact PA (lB n h)
theorem oZ.at{s:Sr}(h:oZ s)(n:Nat):(bN s n).length<=qI+1:=by
 unfold bN;by_cases hn:n<s.kn.length
 .rw[bp hn];exact h _ (getElem_mem hn)
 .rw[getD_eq_getElem?_getD,getElem?_eq_none (by omega)];exact zq5 _
section
variable {w W W':World} {S:Nat} {c:Cd} {c0 hv kv wv:Value} {KV WV:List Value} {K:List (List En)} {s:Sr}
theorem Sh.inS(h:Sh w S c c0 hv kv wv KV WV K s):kx s:=by
 intro l hl e he;rw[h.km]at hl;obtain⟨l0,h0,rfl⟩:=mem_map.1 hl;obtain⟨e0,h1,rfl⟩:=mem_map.1 he;exact(h.dr l0 h0 e0 h1).2
theorem Sh.kb(h:Sh w S c c0 hv kv wv KV WV K s)(hb:oZ s):∀l∈K,l.length<=qI+1:=λl hl=>by
 have:=hb (l.map En.m) (by rw[h.km];exact mem_map_of_mem hl);rw[length_map]at this;exact this
theorem fL.low{F F' D D':List Nat}(h:fL W W' F F' D D' [])(hb:Below w.heap.size w W)(hF:∀k∈F,w.heap.size<=k):Below w.heap.size w W' :=
 ⟨h.st.os.trans hb.os,h.st.tape.trans hb.tape,h.st.output.trans hb.output,zq3 hb.size h.st.size,λk hk=>(h.st.block k (zq6 hk hb.size) (λe=>by
  rw[append_nil]at e;have:=hF k e;omega)).trans (hb.block k hk)⟩
theorem Rz.from{RB vd:Nat}{av kv:Value}{al:List (Nat × Nat)}{FV:List Value}{L:List (List FE)}(h:Rz W W' RB vd av kv al FV L)(hb:Below w.heap.size w W):Rz w W' RB vd av kv al FV L :=
 ⟨h.bk,h.al,h.kr,h.ke,h.ap,λk hk=>zq3 hb.size (h.ge k hk),hb.trans (h.bl.mono hb.size)⟩
end
def Ku(w:World)(r:Rs)(RB:Nat)(w':World):Prop:=∃av kv FV L,Rz w w' RB r.vd av kv r.al FV L/\L.map (λl=>l.map (λx=>x.f))=r.kn/\∀l∈L,∀x∈l,dm w' x.A x.f x.av x.ov/\Td x.f/\∀k∈x.bs,w.heap.size<=k
section
variable {w:World} {Q:Nat} {ws:List ByteArray} {ps:PS} {al:List bt} {vv pv nv:Value}
theorem TF (h:Cp w Q ws ps al vv pv nv) (hA:Qu al) (hN:J9 ps.nodes) (gz:ps.nodes.length<=100000) (qt:0<ps.nodes.length) (mu:ps.vars.length<=4) (fuel N:Nat)
  (aY:(qa (Az ps.nodes ps.vars.length al) fuel N (fx (Az ps.nodes ps.vars.length al) fuel ps.vars.length al (l5 ps.nodes))).ok=true) :
  Calls prog 92 #[.pointer (some ⟨Q,0,none⟩)] w λe w'=>∃RB,e=.returned (.pointer (some ⟨RB,0,none⟩))/\Ku w (Hg (qa (Az ps.nodes ps.vars.length al) fuel N (fx (Az ps.nodes ps.vars.length al) fuel ps.vars.length al (l5 ps.nodes)))) RB w':=by
 obtain⟨c,hc⟩:∃c,c=Az ps.nodes ps.vars.length al:=⟨_,rfl⟩;have fs:c.nds=ps.nodes:=by rw[hc];rfl
 rw[<-hc]at aY ⊢;obtain⟨R,hR⟩:∃R,R=qa c fuel N (fx c fuel ps.vars.length al (l5 ps.nodes)):=⟨_,rfl⟩;rw[<-hR]at aY ⊢;have nJ:=ab (Lb h hA gz (by omega));rw[<-hc]at nJ;have H:=ab h;have HA:=ab (zq2 hA (zq2 hN fs));have HR:=ab hR;have kj:=ab aY;obtain⟨dQ,cW⟩:∃dQ:Nat->World->Prop,dQ=λRB w'=>Ku w (Hg R) RB w':=⟨_,rfl⟩;have eU:=ab cW;rw[show(fun(e:Ending) (w':World)=>∃RB,e=.returned (.pointer (some ⟨RB,0,none⟩))/\Ku w (Hg R) RB w')=(λe w'=>∃RB,e=.returned (.pointer (some ⟨RB,0,none⟩))/\dQ RB w') by rw[cW]];clear h hA hN hc fs hR aY cW;go_enter func92,ntmps92;go_wp2_with fail
 refine(uh nJ).mono ?_;rintro e w1 ⟨S,rfl,hv,kv,wv,WV,bE,aO,I7⟩;have CM:=(uh H).below aO;have vt:(replicate ps.nodes.length ([]:List En)).length=ps.nodes.length:=length_replicate;have yD:(fx c fuel ps.vars.length al (l5 ps.nodes)).ok=true:=lB N (by rw[<-uh HR];exact uh kj);have KA:=ab (LX (fuel:=fuel) bE CM (uh HA).2.2 (uh HA).1 mu (by rw[vt];exact qt) (by rw[vt];exact gz) yD);have H1:=ab (zq2 bE (zq2 aO (zq2 I7 CM)));have ad8:oZ (fx c fuel ps.vars.length al (l5 ps.nodes)):=by
  have h0:oZ (l5 ps.nodes):=λl hl=>by
   have:l=[]:=eq_of_mem_replicate (show l∈replicate ps.nodes.length [] from hl);rw[this];exact zq5 _
  unfold fx at yD ⊢;split
  .exact h0
  .rename_i hf;rw[if_neg hf]at yD;exact Dh (lL (pC (uh HA).1.tm (by simpa using hf)) _).tidy h0 yD
 have HKB:=ab ad8;clear bE aO I7 CM yD nJ ad8;go_wp2_with fail
 refine(uh KA).mono ?_;rintro e w2 ⟨rfl,qH,K2,p1,p2,p3⟩;rw[vt]at p2;have HPE:=ab (tX p1 (by omega));have H2:=ab (zq2 p1 (zq2 p2 p3));clear p1 p2 p3 KA;go_wp2_with fail
 refine(uh HPE).mono ?_;rintro e w3 ⟨rfl,bF⟩;have bR:Hid (Sh w3 S c (.pointer (some ⟨Q,0,none⟩)) hv kv wv qH WV K2 (fx c fuel ps.vars.length al (l5 ps.nodes))/\K2.length=ps.nodes.length/\fL w1 w3 (cD S hv kv wv (replicate ps.nodes.length aH) WV) (cD S hv kv wv qH WV) (dK (replicate ps.nodes.length [])) (dK K2) []/\oZ (fx c fuel ps.vars.length al (l5 ps.nodes))/\qa c fuel N (fx c fuel ps.vars.length al (l5 ps.nodes))=R):=ab ⟨(uh H2).1.below bF,(uh H2).2.1,(uh H2).2.2.trans (fL.below (X:=[]) bF) (λk hk=>by simp at hk),uh HKB,(uh HR).symm⟩;clear bF HPE H2 HKB HR;go_wp2_with fail
 go_loopg [4] N (λgn iv wx=>∃(KV:List Value) (K:List (List En)) (s':Sr),iv=.int .i64 (eH (JK s'))/\Hid (Sh wx S c (.pointer (some ⟨Q,0,none⟩)) hv kv wv KV WV K s'/\K.length=ps.nodes.length/\fL w1 wx (cD S hv kv wv (replicate ps.nodes.length aH) WV) (cD S hv kv wv KV WV) (dK (replicate ps.nodes.length [])) (dK K) []/\oZ s'/\qa c fuel gn s'=R))
 case atStart=>exact⟨qH,K2,_,rfl,bR⟩
 case round =>
  clear bR;obtain⟨KV,K,s',rfl,hI⟩:=hrel;obtain⟨h1,h2,h3,h4,h5⟩:=uh hI;have c8:=h1.bs.cell 8 rfl;have VG:Cp wr Q ws ps al vv pv nv/\∀k∈qK Q vv pv nv,k ∉ cD S hv kv wv KV WV:=by
   have eT:=h3.low (uh H1).2.1 (uh H1).2.2.1;refine⟨(uh H).below eT,λk hk e=>?_⟩;have I8:=(uh H).lt k hk;rcases h3.st.foot k e with p|p
   .rw[append_nil]at p;have:=(uh H1).2.2.1 k p;omega
   .have:=(uh H1).2.1.size;omega
  have KB:Hid (s'=R->Calls prog 143 #[.pointer (some ⟨S,0,none⟩)] wr λe w'=>∃RB,e=.returned (.pointer (some ⟨RB,0,none⟩))/\dQ RB w'):=ab (λe=>(JN h1 (by omega) (h1.kb h4)).mono (λe2 w' hp=>by
   obtain⟨RB,k7,av,kv',FV,L,fH,Gr,od⟩:=hp;refine⟨RB,k7,?_⟩;have eT:=h3.low (uh H1).2.1 (uh H1).2.2.1;rw[uh eU,<-e];refine⟨av,kv',FV,L,fH.from eT,Gr,λl hl x hx=>?_⟩;obtain⟨l0,h0,e0,he0,rfl⟩:=od l hl x hx;have aer:=h1.dr l0 h0 e0 he0;refine⟨(aer.1.below fH.bl).ff,aer.2,λk hk=>?_⟩;have SE:k∈dK K:=bi.2 ⟨l0,h0,e0,he0,mem_cons_of_mem _ hk⟩;rcases h3.dr k SE with p|p|p
   .obtain⟨l2,Gf,e2,he2,-⟩:=bi.1 p;rw[eq_of_mem_replicate Gf]at he2;simp at he2
   .simp at p
   .exact zq3 (uh H1).2.1.size p))
  cases gk with
  |zero =>
   have wW:=uh kj;rw[<-h5]at wW;simp[qa]at wW
  |succ g =>
   unfold qa at h5;cases hp:JK s' with
   |none =>
    rw[hp]at h5;have HE:=ab (uh KB h5);rw[show eH (none:Option Nat)=-1 from rfl];clear h1 h2 h3 h4 h5 VG hp hI KB;go_wp2_with fail
    refine(uh HE).mono ?_;rintro e w5 ⟨RB,rfl,hP⟩;have HP:=ab hP;clear hP HE;go_wp2_with fail
    go_ret;exact⟨RB,rfl,uh HP⟩
   |some k =>
    rw[hp]at h5;rw[show eH (some k)=(k:Int) from rfl];cases dM:s'.fu
    .rw[dM]at c8;simp only[dM]at h5;rw[if_neg (by decide)]at h5;have gy:k<K.length:=by
      unfold JK at hp;rw[findIdx?_eq_some_iff_getElem]at hp;obtain⟨h9,-⟩:=hp;rw[h1.km,length_map]at h9;exact h9
     have YX:(uD c fuel k s').ok=true:=lB g (by rw[h5];exact uh kj);have Y8:(c.nds.getD k bj).v<4/\(c.nds.getD k bj).ai<4:=(by rw[(uh HA).2.2];exact(uh HA).2.1.v k);have hNc:J9 c.nds:=(by rw[(uh HA).2.2];exact(uh HA).2.1);have HVI:=ab (PB (fuel:=fuel) h1 VG.1 VG.2 (uh HA).2.2 hNc gy (by omega) YX (h4.at k));have abK:=ab (Pz Y8.1 Y8.2 h1.inS h4 YX);have HI:=ab (zq2 h2 (zq2 h3 h5));have hg0:decide ((0:Int)<=(k:Int))=true:=(by simp);clear h1 h2 h3 h4 h5 VG hp hI KB gy YX Y8 hNc dM;go_wp2_with fail
     refine(uh HVI).mono ?_;rintro e w5 ⟨rfl,Xe,K3,p1,p2,p3⟩;obtain⟨h2,h3,h5⟩:=uh HI;have hK3:=p2.trans h2;have HPE:=ab (tX p1 (by omega));have H5:=ab (zq2 p1 (zq2 hK3 (zq2 (h3.trans p3 (λk hk=>by simp at hk)) (zq2 (uh abK) h5))));clear p1 p2 p3 h2 h3 h5 hK3 HVI abK HI c8;go_wp2_with fail
     refine(uh HPE).mono ?_;rintro e w6 ⟨rfl,gh⟩;have HN:=ab (zq2 ((uh H5).1.below gh) (zq2 (uh H5).2.1 (zq2 ((uh H5).2.2.1.trans (fL.below (X:=[]) gh) (λk hk=>by simp at hk)) (uh H5).2.2.2)));clear gh HPE H5;go_wp2_with fail
     go_roundg g
     case rel=>exact⟨Xe,K3,_,rfl,HN⟩
     case measure=>omega
    .rw[dM]at c8;simp only[dM,if_true]at h5;have HE:=ab (uh KB h5);have hg0:decide ((0:Int)<=(k:Int))=true:=(by simp);clear h1 h2 h3 h4 h5 VG hp hI KB dM;go_wp2_with fail
     refine(uh HE).mono ?_;rintro e w5 ⟨RB,rfl,hP⟩;have HP:=ab hP;clear hP HE;go_wp2_with fail
     go_ret;exact⟨RB,rfl,uh HP⟩
end
section
variable {w:World} {Q:Nat} {ws:List ByteArray} {s:PS} {al:List bt} {vv pv nv sv0 lv:Value} {st ls:List Int}
theorem Pd(h:Cp w Q ws s al vv pv nv)(hA:Qu al)(gz:s.nodes.length<=100000)(mu:s.vars.length<=4)(aE:nB w sv0 1 st.length (di st))(uR:nB w lv 1 ls.length (di ls))(P1:ls.length<=16)(hv:st.length=s.vars.length)(eS:zM st=true)(yx:mS ls=true):
  Calls prog 61 #[.pointer (some ⟨Q,0,none⟩),sv0,lv] w (rm w Q ws s al vv pv nv st ls):=by
 have HCp:=ab h;have c1:=h.bk.cell 1 rfl;obtain⟨vo,vcap,q7,Jr,NE⟩:=ah h.vr;rw[q7]at c1;have HAv:=ab (sF aE);have HAc:=ab (Au uR);have UU:=ab (wI aE);rw[eS]at HAv;rw[yx]at HAc;have HLS:=ab uR;obtain⟨so,scap,aeK,SZ,rJ,akf⟩:=aE.sl;obtain⟨lo,lcap,gF,hln,VO,ajM⟩:=uR.sl;have Yp:=yx;unfold mS at Yp;rw[Bool.and_eq_true,Bool.and_eq_true,decide_eq_true_eq]at Yp;obtain⟨⟨hev,ajN⟩,VW⟩:=Yp;have aM:((st.length:Int) != (s.vars.length:Int))=false:=by rw[hv];simp
 have apV:decide ((16:Int)<(ls.length:Int))=false:=by simp;omega
 have ah1:=ab (Fv VW);have acb:=ab (OH ajN);have HSv:Hid (∀x∈st,0<=x):=ab (λx hx=>by
  unfold zM at eS;rw[all_eq_true]at eS;have:=eS x hx;simp at this;exact this.1)
 have HE:Hid (jj s.vars.length al st ls=if Je al st (cq (eK ls)) (fF (eK ls)) (fU (eK ls))=true then 0 else 6):=ab (by
  unfold jj;rw[if_neg (by omega),if_neg (by rw[eS,yx];simp[hv])])
 have ab8:Hid (st.length<=4):=ab (by omega);have HV:=ab hv;have HA:=ab hA;have Ye:=h.bk.lt;rw[aeK]at HAv UU ⊢;rw[gF]at HAc ⊢;have WP:=ab gF;clear h q7 aE uR hv eS yx VW hA aeK gF;go_enter func61,ntmps61;go_wp2_with (first|(go_at_call 93;refine(uh HAv).mono ?_;rintro e w ⟨rfl,rfl⟩)|(go_at_call 94;refine(uh HAc).mono ?_;rintro e w ⟨rfl,rfl⟩)|(go_at_call 95;refine(uh UU).mono ?_;rintro e w1 ⟨g1,rfl,k7,aO⟩;have zK:=ab k7;have cY:=ab aO;clear k7 aO))
 have aO:=uh cY;obtain⟨R,hR⟩:∃R,R=w1.heap.size:=⟨_,rfl⟩;rw[<-hR];have aT:=af w1 (.cells #[Value.pointer (some ⟨Q,0,none⟩),.int .i64 0,.int .i64 0,.slice (some ⟨g1,0,none⟩) st.length st.length,.slice none 0 0] 169);have ax:=aO.trans (aT.mono aO.size);have wT:=(uh zK).lt g1 rfl;have hRw:w.heap.size<=R:=by rw[hR];exact aO.size
 have hM0:Mc (w1.alloc (.cells #[Value.pointer (some ⟨Q,0,none⟩),.int .i64 0,.int .i64 0,.slice (some ⟨g1,0,none⟩) st.length st.length,.slice none 0 0] 169)) R Q ws s al ⟨0,0,st,[]⟩ vv pv nv (.slice (some ⟨g1,0,none⟩) st.length st.length) (.slice none 0 0):=by
  refine⟨?_,?_,ownsRow_nil _ _ _ _,List.Pairwise.nil,?_,(uh HCp).below ax,?_,uh ab8⟩
  .rw[hR];exact Bk.new w1 _ _
  .exact b8 (bW (uh zK) (zq5 _)) aT
  .simp[cZ,Value.ownBlock];rw[hR];omega
  .intro k hk hm;have h1:=(uh HCp).lt k hk;simp only[cZ,Value.ownBlock,Option.toList_some,Option.toList_none,append_nil,mem_cons,not_mem_nil,or_false]at hm;omega
 have HM0:=ab hM0;have bu:=ab ax;have hgR:g1≠R:=by rw[hR];omega
 have HF0:Hid (∀k∈cZ R (.slice (some ⟨g1,0,none⟩) st.length st.length) (.slice none 0 0),w.heap.size<=k):=ab (λk hk=>by
  simp only[cZ,Value.ownBlock,Option.toList_some,Option.toList_none,append_nil,mem_cons,not_mem_nil,or_false]at hk;omega)
 clear aO aT ax hM0 hR zK cY;go_loopw [9] (λi wr=>∃(k:Nat) (cv:Value),2*k<=ls.length/\i=.int .i64 ((2*k:Nat):Int)/\Hid (Mc wr R Q ws s al ⟨0,0,st,eK (ls.take (2*k))⟩ vv pv nv (.slice (some ⟨g1,0,none⟩) st.length st.length) cv)/\Hid (∀k∈cZ R (.slice (some ⟨g1,0,none⟩) st.length st.length) cv,w.heap.size<=k)/\Hid (Below w.heap.size w wr)) (λi _=>ls.length-(intOf i).toNat)
 case atStart=>exact⟨0,_,zq5 _,rfl,HM0,HF0,bu⟩
 case round =>
  clear HM0 HF0 bu;obtain⟨k,cv,hk,rfl,hM,hF,hB⟩:=hrel;have hks:(eK (ls.take (2*k))).length=k:=by rw[rV,length_take];omega
  by_cases ar:2*k+1<ls.length
  .have U1:=ab (OG ar);have HRi:=ab (TX (uh ah1) ar);obtain⟨g,off,lcap',aei,-,-,de⟩:=(uh HLS).at (k:=0) (by omega);have iA:=(uh WP).symm.trans aei;cases iA
   have y1:=de (2*k) (by omega);have y2:=de (2*k+1) ar;obtain⟨q,hq⟩:∃q,q=2*k:=⟨_,rfl⟩;have HPq:Hid (eK (ls.take (q+2))=eK (ls.take (2*(k+1)))):=ab (by rw[hq];rfl);rw[<-hq]at hk ar y1 y2 hM hks U1 HRi ⊢;obtain⟨a,ha⟩:∃a,a=ls.getD q 0:=⟨_,rfl⟩;obtain⟨b,hb⟩:∃b,b=ls.getD (q+1) 0:=⟨_,rfl⟩;rw[<-ha]at y1 U1 HRi;rw[<-hb]at y2 U1;have gE:g<w.heap.size:=block_lt_of_cell? w _ y1;have Ig:Hid (g ∉ R::cv.ownBlock.toList):=ab (λhm=>by
    have:=uh hF g (by
     rcases mem_cons.1 hm with e|hm
     .rw[e];exact Mc.memR
     .simp only[cZ,mem_cons,mem_append];exact zq1 (zq1 hm))
    omega)
   have HGw:Hid (g<wr.drew.heap.size):=ab (by have:=(uh hB).size;show g<wr.heap.size;omega);have x1:=((uh hB).cell (block_lt_of_cell? w _ y1)).trans y1;have x2:=((uh hB).cell (block_lt_of_cell? w _ y2)).trans y2;obtain⟨Qg,YN⟩:=KW (n:=b) (uh HRi);have Gh:=(uh hM).below (Below.refl _ _).drew;have HMd:=ab Gh;have HAd:=ab (Ay (o:=4) a b Gh.bk rfl Gh.cs Gh.srt Gh.nds.2.1 (by show(eK (ls.take q)).length<=100000;omega) YN);have ah0:Hid (ky (CH (eK (ls.take q)) a b)):=ab (xQ (uh hM).srt YN);have UY:=ab Qg;have HQ:=ab hq;have HKs:=ab hks;have hdq:decide ((q:Int)+1<(ls.length:Int))=true:=(by simp;omega);have i1:(0:Int)<=(q:Int)+1:=(by omega);have i2:(q:Int)+1<(ls.length:Int):=(by omega);have i3:((q:Int)+1).toNat=q+1:=(by omega);have i4:IntKind.i64.wrap ((q:Int)+1)=(q:Int)+1:=(by rw[IntKind.wrap_i64];omega);have i5:(q:Int)<(ls.length:Int):=(by omega);clear de y1 y2 ha hb Qg YN aei hq hks Gh;go_wp2_with fail
   go_region_held3 (λW=>W.cell? ⟨g,off+q,none⟩=some (.int .i64 a)/\W.cell? ⟨g,off+(q+1),none⟩=some (.int .i64 b)) (first|(simp only[cell?_drew,x1,x2,and_self];done)|(simp only[u1,u2,and_self];done))
    (first
     |(go_at_call 96;refine(uh HAd).mono ?_;rintro e w2 ⟨rfl,cv',ax,fH,nE,ce⟩;have Qx:=ab ax;have ahO:=ab fH;have ahE:=ab nE;have u9:=ab ce;have u1:=(ce.cell (p:=⟨g,off+q,none⟩) (uh HGw) (uh Ig)).trans x1;have u2:=(ce.cell (p:=⟨g,off+(q+1),none⟩) (uh HGw) (uh Ig)).trans x2;clear ax fH nE ce))
   all_goals
    obtain⟨h3,cd⟩:=(uh HMd).cells (uh Qx) (uh ahO) (xP _ _ _).symm (uh ah0) (uh ahE) (uh u9);have ix:CH (eK (ls.take q)) a b=eK (ls.take (2*(k+1))):=(by rw[uh UY,<-uh U1]);have h3':Mc w2 R Q ws s al ⟨0,0,st,eK (ls.take (2*(k+1)))⟩ vv pv nv (.slice (some ⟨g1,0,none⟩) st.length st.length) cv':=(by rw[<-ix];exact h3);have yr:∀k∈cZ R (.slice (some ⟨g1,0,none⟩) st.length st.length) cv',w.heap.size<=k:=λt ht=>by
     rcases cd.foot t ht with h1|h1
     .exact uh hF t h1
     .exact zq3 (uh hB).size h1
    have DN:Below w.heap.size w w2:=(uh hB).drew.trans (cd.below (by exact(uh hB).size) (uh hF));have H3:=ab h3';have WE:=ab yr;have mN:=ab DN;clear h3 cd ix h3' yr DN x1 x2 u1 u2;go_wp2_with fail
    go_roundw
    case rel=>exact⟨k+1,cv',by have:=uh HQ;omega,by rw[show 2*(k+1)=q+2 by have:=uh HQ;omega];go_num,H3,WE,mN⟩
    case measure=>simp[intOf];omega
  .have gy:2*k=ls.length:=(by omega);rw[gy,take_length]at hM;have MA:=uh hM;have d2:=MA.cp.bk.cell 2 rfl;have d3:=MA.c3;have hdq:decide (((2*k:Nat):Int)+1<(ls.length:Int))=false:=(by simp;omega);obtain⟨q,hq⟩:∃q,q=2*k:=⟨_,rfl⟩;rw[<-hq]at hdq hk ⊢;have Ji:q=ls.length:=(by omega);have Gh:=MA.below (Below.refl _ _).drew;have HHo:=ab (Jf (X:=R) (o:=4) Gh.cp.pr (uh HA).tm (uh HA).le (uh HA).bd Gh.st (uh ab8) (uh HSv) Gh.c4 Gh.cs Gh.srt (by show(eK ls).length<=100000;rw[rV];omega) (λc hc=>by have:=uh acb c hc;exact⟨this.1.1,this.2.1⟩));obtain⟨bo,wQ⟩:∃bo,bo=Je al st (cq (eK ls)) (fF (eK ls)) (fU (eK ls)):=⟨_,rfl⟩;have HMd:=ab Gh;have tb:Je al st (cq (MS.cs ⟨0,0,st,eK ls⟩)) (fF (MS.cs ⟨0,0,st,eK ls⟩)) (fU (MS.cs ⟨0,0,st,eK ls⟩))=bo:=wQ.symm;rw[tb]at HHo;rw[<-wQ]at HE;have HQl:=ab Ji;have bf:¬ (q+1<ls.length):=(by omega);clear MA gy hks ar Gh wQ tb hq Ji;go_wp2_with fail
   go_region_held3 (λW=>W.cell? ⟨Q,2,none⟩=some pv/\W.cell? ⟨R,3,none⟩=some (.slice (some ⟨g1,0,none⟩) st.length st.length)) (first|(simp only[cell?_drew,d2,d3,and_self];done)|(simp only[u1,u2,and_self];done))
    (first
     |(go_at_call 97;refine(uh HHo).mono ?_;rintro e w2 ⟨rfl,ax⟩;have Qx:=ab ax;have u1:=(((uh HMd).below ax).cp.bk).cell 2 rfl;have u2:=((uh HMd).below ax).c3;clear ax))
   all_goals
    have h3:=(uh HMd).below (uh Qx);have DN:Below w.heap.size w w2:=(uh hB).drew.trans ((uh Qx).mono (by exact(uh hB).size));have H3:=ab h3;have mN:=ab DN;clear h3 DN u1 u2 d2 d3;cases bo with
    |false =>
     have HE5:Hid (jj s.vars.length al st ls=6):=ab (by rw[uh HE];rfl);go_wp2_with fail
     go_ret2;exact⟨uh mN,zq0 ⟨by rw[uh HE5];decide,by rw[uh HE5];rfl⟩⟩
    |true =>
     have HE5:Hid (jj s.vars.length al st ls=0):=ab (by rw[uh HE];rfl);have HEn:=ab (iX (uh H3) 0 gz (by show(eK ls).length<=100000;rw[rV];omega));go_wp2_with fail
     refine(uh HEn).mono ?_;rintro e w4 ⟨rfl,h4,eG⟩;have H4:=ab h4;have uY:=ab ((uh mN).trans (eG.below (uh mN).size (uh hF)));clear h4 eG;go_wp2_with fail
     go_ret2;exact⟨uh uY,zq1 ⟨uh HE5,R,_,cv,rfl,uh H4,uh hF⟩⟩
end
section
variable {w:World} {X Q:Nat} {ws:List ByteArray} {s:PS} {al:List bt} {vv pv nv sv0 lv fv:Value} {st ls:List Int}
theorem EA(h:Cp w Q ws s al vv pv nv)(hA:Qu al)(gz:s.nodes.length<=100000)(mu:s.vars.length<=4)(aE:nB w sv0 1 st.length (di st))(uR:nB w lv 1 ls.length (di ls)):
  Calls prog 61 #[.pointer (some ⟨Q,0,none⟩),sv0,lv] w (rm w Q ws s al vv pv nv st ls):=by
 by_cases hE:16<ls.length\/(st.length≠s.vars.length\/zM st=false\/mS ls=false)
 .exact Up h aE uR hE
 .simp only[not_or,Bool.not_eq_false]at hE;exact Pd h hA gz mu aE uR (by omega) (Classical.byContradiction hE.2.1) hE.2.2.1 hE.2.2.2
def KM(w:World)(Q:Nat)(ws:List ByteArray)(s:PS)(al:List bt)(vv pv nv:Value)(st ls:List Int)(e:Ending)(w':World):Prop :=
 Below w.heap.size w w'/\((jj s.vars.length al st ls≠0/\e=.returned (.tuple #[.pointer none,.int .i64 (jj s.vars.length al st ls:Nat)])) \/
  (jj s.vars.length al st ls=0/\∃Y R sv cv,e=.returned (.tuple #[.pointer (some ⟨Y,0,none⟩),.int .i64 0])/\Bk w' Y 124 [kA R]/\w.heap.size<=Y/\Y ∉ cZ R sv cv/\Mc w' R Q ws s al (pi s.nodes ⟨0,0,st,eK ls⟩ 0) vv pv nv sv cv/\∀k∈cZ R sv cv,w.heap.size<=k))
theorem m9(hX:Bk w X 88 [kA Q,fv]):Calls prog 53 #[.pointer (some ⟨X,0,none⟩)] w λe w'=>e=.returned (.bool false)/\∃n,w'=w.drewN n:=by
 have c0:w.cell? ⟨X,0,none⟩=some (.pointer (some ⟨Q,0,none⟩)):=hX.cell 0 rfl;clear hX;go_enter func53,ntmps53;go_wp2_with fail
 go_ret;exact⟨rfl,0,rfl⟩
theorem Et(hX:Bk w X 88 [kA Q,fv])(h:Cp w Q ws s al vv pv nv)(hA:Qu al)(gz:s.nodes.length<=100000)(mu:s.vars.length<=4)(aE:nB w sv0 1 st.length (di st))(uR:nB w lv 1 ls.length (di ls)):
  Calls prog 34 #[.pointer (some ⟨X,0,none⟩),sv0,lv] w (KM w Q ws s al vv pv nv st ls):=by
 have HEm:=ab (m9 hX);have c0:w.cell? ⟨X,0,none⟩=some (.pointer (some ⟨Q,0,none⟩)):=hX.cell 0 rfl;have HMs:Hid (∀n,Calls prog 61 #[.pointer (some ⟨Q,0,none⟩),sv0,lv] (w.drewN n) (rm w Q ws s al vv pv nv st ls)):=ab (λn=>(EA (h.below (cJ w n)) hA gz mu (aE.below (cJ w n)) (uR.below (cJ w n))).mono (by
  rintro e w' ⟨hb,hr⟩;refine⟨⟨hb.os,hb.tape,hb.output,hb.size,hb.block⟩,?_⟩;exact hr))
 clear hX h hA aE uR;go_enter func34,ntmps34;go_wp2_with (go_at_call 53;refine(uh HEm).mono ?_;rintro e w1 ⟨rfl,n,rfl⟩)
 refine(uh HMs _).mono ?_;rintro e w2 ⟨ax,(⟨aM,rfl⟩|⟨h0,R,sv,cv,rfl,hM,hF⟩)⟩
 .obtain⟨E,hE⟩:∃E,E=jj s.vars.length al st ls:=⟨_,rfl⟩;rw[<-hE]at aM ⊢;have VC:((E:Int) != 0)=true:=by rw[bne_iff_ne];omega
  have HN:=ab aM;have HE:=ab hE;have HB:=ab ax;clear aM hE ax;go_wp2_with fail
  go_ret2;exact⟨uh HB,zq0 ⟨by rw[<-uh HE];exact uh HN,by rw[<-uh HE];rfl⟩⟩
 .have H0:=ab h0;have HB:=ab ax;have HM:=ab hM;have HF:=ab hF;clear h0 ax hM hF;go_wp2_with fail
  go_ret2;refine⟨(uh HB).alloc (uh HB).size _,zq1 ⟨uh H0,w2.heap.size,R,sv,cv,rfl,Bk.new w2 _ [kA R],(uh HB).size,?_,(uh HM).below (af w2 _),uh HF⟩⟩;intro hm;have:=(uh HM).lt _ hm;omega
end
section
variable {w:World} {Y R Q:Nat} {ws:List ByteArray} {s:PS} {al:List bt} {m:MS} {vv pv nv sv cv:Value}
theorem xg(hY:Bk w Y 124 [kA R])(h:Mc w R Q ws s al m vv pv nv sv cv)(c:Int)(hl:s.nodes.length<=100000)(hc:m.cs.length<=99999):
  Calls prog 38 #[.pointer (some ⟨Y,0,none⟩),.int .i64 c] w λe w'=>e=.returned (.int .i64 ((kJ s.nodes m c).2:Nat))/\∃cv',Mc w' R Q ws s al (kJ s.nodes m c).1 vv pv nv sv cv'/\am (cZ R sv cv) w (cZ R sv cv') w':=by
 have c0:w.cell? ⟨Y,0,none⟩=some (.pointer (some ⟨R,0,none⟩)):=hY.cell 0 rfl;have HS:=ab (Ty h c hl hc);clear hY h;go_enter func38,ntmps38;go_wp2_with fail
 refine(uh HS).mono ?_;rintro e w2 ⟨rfl,cv',h2,ce⟩;have H2:=ab h2;have bz:=ab ce;clear h2 ce;go_wp2_with fail
 go_ret;exact⟨rfl,cv',uh H2,uh bz⟩
theorem Eu(hY:Bk w Y 124 [kA R])(h:Mc w R Q ws s al m vv pv nv sv cv)(hc:m.cs.length<=100000):
  Calls prog 36 #[.pointer (some ⟨Y,0,none⟩)] w λe w'=>∃g1 g2,e=.returned (Wj m g1 g2)/\StV w.heap.size w' m g1 g2/\Below w.heap.size w w':=by
 have aT:=af w (.cells #[Value.int .i64 0,.int .i64 0,.slice none 0 0,.slice none 0 0] 68);have c0:(w.alloc (.cells #[Value.int .i64 0,.int .i64 0,.slice none 0 0,.slice none 0 0] 68)).cell? ⟨Y,0,none⟩=some (.pointer (some ⟨R,0,none⟩)):=(hY.below aT).cell 0 rfl;have HS:=ab (EB (h.below aT) hc);have uZ:=ab aT;have Wx:=ab (Bk.new w 68 [Value.int .i64 0,.int .i64 0,.slice none 0 0,.slice none 0 0]);clear hY h aT;go_enter func36,ntmps36;go_wp2_with fail
 refine(uh HS).mono ?_;rintro e w2 ⟨g1,g2,rfl,tE,ax⟩;have jf:=(uh Wx).below ax;have z0:=jf.cell 0 rfl;have z1:=jf.cell 1 rfl;have z2:=jf.cell 2 rfl;have z3:=jf.cell 3 rfl;have zf:=jf.frz;have HV:=ab tE;have bu:=ab ((uh uZ).trans (ax.mono (uh uZ).size));have Wy:=ab jf;have HG:Hid (w.heap.size<g1/\w.heap.size<g2):=ab (by
  have h1:=(tE.r1.lt g1 rfl).1;have h2:=(tE.r2.lt g2 rfl).1;simp at h1 h2;omega)
 unfold Wj;clear tE ax jf;go_wp2_with fail
 obtain⟨w4,uT⟩:∃w4,w4=(((w2.setCell ⟨w.heap.size,0,none⟩ (.int .i64 (m.nd:Int))).setCell ⟨w.heap.size,1,none⟩ (.int .i64 (m.wh:Int))).setCell ⟨w.heap.size,2,none⟩ (.slice (some ⟨g1,0,none⟩) m.st.length m.st.length)).setCell ⟨w.heap.size,3,none⟩ (.slice (some ⟨g2,0,none⟩) (2*m.cs.length) (2*m.cs.length)):=⟨_,rfl⟩;rw[<-uT];have nW:Bk w4 w.heap.size 68 [.int .i64 (m.nd:Int),.int .i64 (m.wh:Int),.slice (some ⟨g1,0,none⟩) m.st.length m.st.length,.slice (some ⟨g2,0,none⟩) (2*m.cs.length) (2*m.cs.length)]:=by
  rw[uT];exact((((uh Wy).set 0 _).set 1 _).set 2 _).set 3 _
 have y0:=nW.cell 0 rfl;have y1:=nW.cell 1 rfl;have y2:=nW.cell 2 rfl;have y3:=nW.cell 3 rfl;have hS:am [w.heap.size] w2 [w.heap.size] w4:=by
  rw[uT];exact((((am.refl _ _).setCell (p:=⟨w.heap.size,0,none⟩) (zq0 (by simp)) _).setCell (p:=⟨w.heap.size,1,none⟩) (zq0 (by simp)) _).setCell (p:=⟨w.heap.size,2,none⟩) (zq0 (by simp)) _).setCell (p:=⟨w.heap.size,3,none⟩) (zq0 (by simp)) _
 clear uT;refine bodyPost_ret (v:=Wj m g1 g2) ?_ rfl ⟨g1,g2,rfl,?_,?_⟩
 .simp[results,Tryz.results36,go_sem,Wj,y0,y1,y2,y3]
 .have hg:=uh HG;have iA:=(uh uZ).size;exact⟨bW (iZ (uh HV).r1 hS (λk hk=>by cases hk;simp;omega)) iA,bW (iZ (uh HV).r2 hS (λk hk=>by cases hk;simp;omega)) iA,(uh HV).ne⟩
 .exact(uh bu).trans (hS.below (uh bu).size (by simp))
end
def mT(nds:List Nd)(nv:Nat)(al:List bt):Sr:=qa (Az nds nv al) 4000 1000000 (fx (Az nds nv al) 4000 nv al (l5 nds))
def CI(nds:List Nd)(nv:Nat)(al:List bt):Rs:=Hg (mT nds nv al)
structure An(ps:PS)(al:List bt):Prop where
 a:Qu al
 n:J9 ps.nodes
 l:ps.nodes.length<=100000
 p:0<ps.nodes.length
 v:ps.vars.length<=4
 ok:(mT ps.nodes ps.vars.length al).ok=true
structure Fd(W:World)(RB:Nat)(r:Rs)(av kv:Value)(FV:List Value)(L:List (List FE)):Prop where
 bk:Bk W RB 118 [.int .i64 (r.vd:Int),av,kv]
 al:W.ownsRow 0 82 2 av r.al.length (Vg r.al)
 kr:W.ownsRow 0 125 1 kv L.length FV
 ke:∀i,i<L.length->W.ownsRow 0 126 1 (FV.getD i aH) (L.getD i []).length ((L.getD i []).map FE.p)
 km:L.map (λl=>l.map (λx=>x.f))=r.kn
 fm:∀l∈L,∀x∈l,dm W x.A x.f x.av x.ov/\Td x.f
def Vn(RB:Nat)(av kv:Value)(FV:List Value)(L:List (List FE)):List Nat:=RP (rd RB av kv FV)++L.flatMap (λl=>l.flatMap FE.bs)
section
variable {w w':World} {RB:Nat} {r:Rs} {av kv:Value} {FV:List Value} {L:List (List FE)}
theorem Fd.fl(h:Fd w RB r av kv FV L):FV.length=L.length:=by have:=h.kr.1;omega
theorem Fd.lt(h:Fd w RB r av kv FV L):∀k∈Vn RB av kv FV L,k<w.heap.size:=by
 intro k hk;rcases mem_append.1 hk with hk|hk
 .obtain⟨i,hi⟩:=aP.1 hk;rcases xu hi with⟨-,rfl⟩|⟨-,e⟩|⟨-,e⟩|⟨j,hj,-,e⟩
  .exact h.bk.lt
  .exact(h.al.lt k e).2
  .exact(h.kr.lt k e).2
  .exact((h.ke j (by rw[<-h.fl];exact hj)).lt k e).2
 .obtain⟨l,hl,hk⟩:=mem_flatMap.1 hk;obtain⟨x,hx,hk⟩:=mem_flatMap.1 hk;exact(h.fm l hl x hx).1.lt k hk
theorem Fd.of_eq(h:Fd w RB r av kv FV L)(he:∀k∈Vn RB av kv FV L,w'.heap[k]?=w.heap[k]?):Fd w' RB r av kv FV L:=by
 have hf:=h.fl;have h1:∀i k,(rd RB av kv FV)[i]?=some (some k)->w'.heap[k]?=w.heap[k]?:=λi k hi=>he k (mem_append_left _ (aP.2 ⟨i,hi⟩));exact⟨h.bk.of_eq (h1 0 RB rfl),ae h.al (λk hk=>h1 1 k (congrArg some hk)),ae h.kr (λk hk=>h1 2 k (congrArg some hk)),λi hi=>ae (h.ke i hi) (λk hk=>h1 _ k ((EU (by omega)).trans (congrArg some hk))),h.km,λl hl x hx=>⟨(h.fm l hl x hx).1.of_eq (λk hk=>he k (mem_append_right _ (mem_flatMap.2 ⟨l,hl,mem_flatMap.2 ⟨x,hx,hk⟩⟩))),(h.fm l hl x hx).2⟩⟩
theorem Ku.fd{w0:World}(h:Ku w0 r RB w):∃av kv FV L,Fd w RB r av kv FV L/\(∀k∈Vn RB av kv FV L,w0.heap.size<=k)/\Below w0.heap.size w0 w:=by
 obtain⟨av,kv,FV,L,h1,h2,h3⟩:=h;refine⟨av,kv,FV,L,⟨h1.bk,h1.al,h1.kr,h1.ke,h2,λl hl x hx=>⟨(h3 l hl x hx).1,(h3 l hl x hx).2.1⟩⟩,λk hk=>?_,h1.bl⟩;rcases mem_append.1 hk with hk|hk
 .exact h1.ge k hk
 .obtain⟨l,hl,hk⟩:=mem_flatMap.1 hk;obtain⟨x,hx,hk⟩:=mem_flatMap.1 hk;exact(h3 l hl x hx).2.2 k hk
end
structure Pa(w:World)(X Q:Nat)(ws:List ByteArray)(ps:PS)(al:List bt)(vv pv nv:Value)(fv:Value)(Z:List Nat):Prop where
 bx:Bk w X 88 [kA Q,fv]
 cp:Cp w Q ws ps al vv pv nv
 fd:(fv=.pointer none/\Z=[])\/∃RB av kv FV L,fv=.pointer (some ⟨RB,0,none⟩)/\Fd w RB (CI ps.nodes ps.vars.length al) av kv FV L/\Z=Vn RB av kv FV L
 nx:X ∉ qK Q vv pv nv/\X ∉ Z
section
variable {w w':World} {X Q:Nat} {ws:List ByteArray} {ps:PS} {al:List bt} {vv pv nv fv:Value} {Z:List Nat}
theorem Pa.of_eq(h:Pa w X Q ws ps al vv pv nv fv Z)(he:∀k,k=X\/k∈qK Q vv pv nv\/k∈Z->w'.heap[k]?=w.heap[k]?):Pa w' X Q ws ps al vv pv nv fv Z:=by
 refine⟨h.bx.of_eq (he X (zq0 rfl)),h.cp.of_eq (λk hk=>he k (zq1 (zq0 hk))),?_,h.nx⟩;rcases h.fd with h1|⟨RB,av,kv,FV,L,h1,h2,h3⟩
 .exact zq0 h1
 .exact zq1 ⟨RB,av,kv,FV,L,h1,h2.of_eq (λk hk=>he k (zq1 (zq1 (by rw[h3];exact hk)))),h3⟩
theorem Pa.lt(h:Pa w X Q ws ps al vv pv nv fv Z):∀k,k=X\/k∈qK Q vv pv nv\/k∈Z->k<w.heap.size:=by
 rintro k (rfl|hk|hk)
 .exact h.bx.lt
 .exact h.cp.lt k hk
 .rcases h.fd with⟨-,e⟩|⟨RB,av,kv,FV,L,-,h2,e⟩
  .rw[e]at hk;simp at hk
  .rw[e]at hk;exact h2.lt k hk
theorem Pa.below(h:Pa w X Q ws ps al vv pv nv fv Z)(hb:Below w.heap.size w w'):Pa w' X Q ws ps al vv pv nv fv Z:=h.of_eq (λk hk=>hb.block k (h.lt k hk))
def xF(w:World)(X Q:Nat)(ws:List ByteArray)(ps:PS)(al:List bt)(vv pv nv:Value)(Z:List Nat)(RB:Nat)(w':World):Prop :=
 ∃av kv FV L,Pa w' X Q ws ps al vv pv nv (.pointer (some ⟨RB,0,none⟩)) (Vn RB av kv FV L)/\Fd w' RB (CI ps.nodes ps.vars.length al) av kv FV L/\am [X] w [X] w'/\∀k∈Vn RB av kv FV L,k∈Z\/w.heap.size<=k
theorem qg(h:Pa w X Q ws ps al vv pv nv fv Z)(hA:An ps al):
  Calls prog 60 #[.pointer (some ⟨X,0,none⟩)] w λe w'=>∃RB,e=.returned (.pointer (some ⟨RB,0,none⟩))/\xF w X Q ws ps al vv pv nv Z RB w':=by
 have c0:w.cell? ⟨X,0,none⟩=some (.pointer (some ⟨Q,0,none⟩)):=h.bx.cell 0 rfl;have c1:=h.bx.cell 1 rfl;rcases h.fd with⟨hf,hZ⟩|⟨RB,av,kv,FV,L,hf,hd,hZ⟩
 .subst hf;have QH:=ab (TF h.cp hA.a hA.n hA.l hA.p hA.v 4000 1000000 hA.ok);have pm:=h.bx.lt;have H:=ab h;clear h hA hZ;go_enter func60,ntmps60;go_wp2_with fail
  refine(uh QH).mono ?_;rintro e w1 ⟨RB,rfl,hP⟩;obtain⟨av,kv,FV,L,h1,h2,h3⟩:=hP.fd;have b1:=(uh H).bx.below h3;have d1:=b1.cell 1 rfl;have z1:=b1.frz 1;have b2:=b1.set 1 (.pointer (some ⟨RB,0,none⟩));have d2:=b2.cell 1 rfl;have aM:∀k,k≠X->(w1.setCell ⟨X,1,none⟩ (.pointer (some ⟨RB,0,none⟩))).heap[k]?=w1.heap[k]?:=λk hk=>heap_setCell _ _ _ _ hk;have Vz:xF w X Q ws ps al vv pv nv Z RB (w1.setCell ⟨X,1,none⟩ (.pointer (some ⟨RB,0,none⟩))):=by
   have hZX:X ∉ Vn RB av kv FV L:=λe=>by have:=h2 X e;omega
   have mE:Fd (w1.setCell ⟨X,1,none⟩ (.pointer (some ⟨RB,0,none⟩))) RB (CI ps.nodes ps.vars.length al) av kv FV L:=h1.of_eq (λk hk=>aM k (λe=>hZX (by rw[<-e];exact hk)));refine⟨av,kv,FV,L,⟨b2,((uh H).cp.below h3).of_eq (λk hk=>aM k (λe=>(uh H).nx.1 (by rw[<-e];exact hk))),zq1 ⟨RB,av,kv,FV,L,rfl,mE,rfl⟩,(uh H).nx.1,hZX⟩,mE,((am.ofBw (F:=[X]) h3)).setCell (p:=⟨X,1,none⟩) (zq0 (by simp)) _,λk hk=>zq1 (h2 k hk)⟩
  have HP:=ab Vz;clear hP h1 h2 h3 b1 b2 aM Vz QH;go_wp2_with fail
  go_ret;exact⟨RB,rfl,uh HP⟩
 .subst hf;have HP:Hid (xF w X Q ws ps al vv pv nv Z RB w):=ab ⟨av,kv,FV,L,by rw[<-hZ];exact h,hd,am.refl _ _,λk hk=>zq0 (by rw[hZ];exact hk)⟩;clear h hA hd hZ;go_enter func60,ntmps60;go_wp2_with fail
  go_ret;exact⟨RB,rfl,uh HP⟩
theorem Cs(h:Pa w X Q ws ps al vv pv nv fv Z)(hA:An ps al):
  Calls prog 33 #[.pointer (some ⟨X,0,none⟩)] w λe w'=>e=.returned (.int .i64 ((CI ps.nodes ps.vars.length al).vd:Nat))/\∃RB,xF w X Q ws ps al vv pv nv Z RB w':=by
 have HEM:=ab (m9 h.bx);have Ws:Hid (∀n,Calls prog 60 #[.pointer (some ⟨X,0,none⟩)] (w.drewN n) λe w'=>∃RB,e=.returned (.pointer (some ⟨RB,0,none⟩))/\xF w X Q ws ps al vv pv nv Z RB w'):=ab (λn=>(qg (w:=w.drewN n) (h.of_eq (w':=w.drewN n) (λ_ _=>rfl)) hA).mono (by
  rintro e w' ⟨RB,he,av,kv,FV,L,p1,p2,p3,p4⟩;exact⟨RB,he,av,kv,FV,L,p1,p2,⟨p3.os,p3.tape,p3.output,p3.size,p3.block,p3.foot⟩,p4⟩))
 clear h hA;go_enter func33,ntmps33;go_wp2_with (first|(go_at_call 53;refine(uh HEM).mono ?_;rintro e w1 ⟨rfl,n,rfl⟩))
 refine(uh Ws _).mono ?_;rintro e w2 ⟨RB,rfl,hP⟩;have c0:w2.cell? ⟨RB,0,none⟩=some (.int .i64 ((CI ps.nodes ps.vars.length al).vd:Nat)):=by
  obtain⟨av,kv,FV,L,p1,p2,p3,p4⟩:=hP;exact p2.bk.cell 0 rfl
 have HP:=ab hP;clear hP;go_wp2_with fail
 go_ret;exact⟨rfl,RB,uh HP⟩
end
theorem B0{l:List UInt8}(h:lY l=0):l.length<=240/\nI l≠none/\(dI l).failed=false/\(dI l).vars.length<=4/\(dI l).hid.length<=8:=by
 unfold lY at h;split at h
 .cases h
 .split at h
  .cases h
  .split at h
   .cases h
   .split at h
    .cases h
    .rename_i h1 h2 h3 h4;exact⟨by omega,h2,by simpa using h3,by omega,by omega⟩
theorem ZS{l:List UInt8}(h:nI l≠none):(gY l).length<=l.length:=by
 cases hs:nI l with
 |none=>exact absurd hs h
 |some L =>
  have e:nI l=some ((gY l).map (·.data.toList)):=by
   unfold gY;rw[hs];simp only[Option.getD_some,map_map];congr 1;exact(map_id' L).symm
  exact(zm e).1
def TeM(V H k i:Nat):Prop:=(k=0/\i=0)\/(k=1/\i<V)\/(k=2/\i<H)
structure Ao(ws:List ByteArray)(s:PS)(M:List Nd):Prop where
 nd:s.nodes=M++[{ lr with nx:=M.length+1 }]
 go:r9 s.vars.length 0 M.length M
 ln:M.length<=2*ws.length
 at_:∀a∈gb ws a9,TeM s.vars.length s.hid.length a.lk a.li/\TeM s.vars.length s.hid.length a.rk a.ri/\a.k<=4
theorem F8{ws:List ByteArray}:∀(n:Nat) (s:PS),(pj ws n s).1.length<=n
 |0,s=>by simp[pj]
 |n+1,s=>by
  unfold pj;split
  .have:=F8 (ws:=ws) n (mm ws s.adv);simp only[length_cons];omega
  .simp
theorem BZ{ws:List ByteArray}(h:(dH ws a9).failed=false):∃M,Ao ws (dH ws a9) M:=by
 have hp:(Qq ws a9).pos=ws.length:=by
  by_cases hp:(Qq ws a9).pos=ws.length
  .exact hp
  .unfold dH at h;rw[if_neg hp]at h;cases h
 have hS:dH ws a9=Qq ws a9:=if_pos hp;rw[hS]at h ⊢;obtain⟨s1,cN⟩:∃s1,s1=bB ws oq a9:=⟨_,rfl⟩;obtain⟨s2,ce⟩:∃s2,s2=F9 ws s1:=⟨_,rfl⟩;obtain⟨s3,dP⟩:∃s3,s3=FG ws (ws.length+1) s2:=⟨_,rfl⟩;have hT:Qq ws a9=dZ lr s3:=by rw[dP,ce,cN];rfl
 rw[hT]at h hp ⊢;have kX:s3.failed=false:=h;have hg:=ik (ws:=ws) (ws.length+1);have kF:s2.failed=false:=hg.ok s2 (by rw[<-dP];exact kX);obtain⟨M,h1,h2,Gf,h3⟩:=Le (ws:=ws) (ws.length+1) s2;rw[<-dP]at h1 h2 Gf h3;have nE:s2.nodes=[]:=by rw[ce,TK.nd,cN,(bD (ws:=ws) (s:=a9) oq).1];rfl
 rw[nE,nil_append]at h1;have qX:=hg.phi s2;rw[<-dP,nE,h1,wD kX]at qX;have hpp:s3.pos=ws.length:=hp;refine⟨M,?_,?_,?_,?_⟩
 .show s3.nodes++[{ lr with nx:=s3.nodes.length+1 }]=_;rw[h1]
 .rw[nE,h1]at h3;exact h3
 .simp only[length_nil]at qX;omega
 .intro a ha;have hL:=aio (ws:=ws) (s:=s1) a (by rw[cN];exact ha);rw[<-ce]at hL;have up:∀k i,Xk s2 k i->TeM (dZ lr s3).vars.length (dZ lr s3).hid.length k i:=by
   intro k i ht;have e1:(dZ lr s3).vars=s3.vars:=rfl;have e2:(dZ lr s3).hid=s3.hid:=rfl;rw[e1,e2];rcases ht with ht|ht|ht|ht
   .rw[kF]at ht;cases ht
   .exact zq0 ht
   .exact zq1 (zq0 (by omega))
   .exact zq1 (zq1 (by omega))
  exact⟨up _ _ hL.1,up _ _ hL.2.1,hL.2.2⟩
section
variable {ws:List ByteArray} {s:PS} {M:List Nd}
theorem Ao.get(h:Ao ws s M)(n:Nat):(n<M.length/\∃nd,M[n]?=some nd/\s.nodes.getD n bj=nd)\/(M.length<=n/\(s.nodes.getD n bj).v=0/\(s.nodes.getD n bj).ai=0/\(s.nodes.getD n bj).op=0):=by
 rw[h.nd];by_cases hn:n<M.length
 .refine zq0 ⟨hn,M[n],getElem?_eq_getElem hn,?_⟩;rw[getD_eq_getElem?_getD,getElem?_append_left hn,getElem?_eq_getElem hn];rfl
 .refine zq1 ⟨by omega,?_⟩;rw[getD_eq_getElem?_getD,getElem?_append_right (by omega)];cases hk:n-M.length with
  |zero=>exact⟨rfl,rfl,rfl⟩
  |succ k=>exact⟨rfl,rfl,rfl⟩
theorem Ao.len(h:Ao ws s M):s.nodes.length=M.length+1:=by rw[h.nd,length_append];rfl
theorem lw4{L i:Nat}(h:Lw L i)(hL:L<=4):i<4:=by rcases h with h|h <;> omega
theorem Ao.v4(h:Ao ws s M)(hv:s.vars.length<=4)(n:Nat):(s.nodes.getD n bj).v<4/\(s.nodes.getD n bj).ai<4:=by
 rcases h.get n with⟨-,nd,h1,h2⟩|⟨-,h1,h2,-⟩
 .rw[h2];exact⟨lw4 (h.go n nd h1).1 hv,lw4 (h.go n nd h1).2.1 hv⟩
 .rw[h1,h2];omega
theorem Ao.ndo(h:Ao ws s M)(hv:s.vars.length<=4):J9 s.nodes:=by
 refine⟨h.v4 hv,λn=>?_,λn hn h0=>?_,λn hn h0=>?_⟩
 .rcases h.get n with⟨-,nd,h1,h2⟩|⟨-,-,-,h1⟩
  .rw[h2];have:=(h.go n nd h1).2.2.1;omega
  .rw[h1];omega
 .rw[h.len];rcases h.get n with⟨-,nd,h1,h2⟩|⟨-,-,-,h1⟩
  .rw[h2];have:=(h.go n nd h1).2.2.2.1;omega
  .exact absurd h1 h0
 .rw[h.len];rcases h.get n with⟨-,nd,h1,h2⟩|⟨-,-,-,h1⟩
  .rw[h2];have:=(h.go n nd h1).2.2.2.1;omega
  .omega
theorem KZ{nds:List Nd}(h:(range nds.length).any (lJ nds)=false){n:Nat}(hn:n<nds.length):lJ nds n=false:=by
 rw[any_eq_false]at h;have:=h n (mem_range.2 hn);simpa using this
theorem Ao.fwd(h:Ao ws s M)(hv:s.vars.length<=4)(hb:(range s.nodes.length).any (lJ s.nodes)=false):Fwd s.nodes:=by
 refine⟨h.v4 hv,λn hn h0=>?_,λn hn h0=>?_⟩
 .have fB:=KZ hb hn;unfold lJ at fB;rcases h.get n with⟨hl,nd,h1,h2⟩|⟨-,-,-,h1⟩
  .rw[h2]at fB ⊢;obtain⟨-,-,-,-,-,g1,g2⟩:=h.go n nd h1;by_cases Ge:nd.op=10
   .have h3:=g2 Ge;simp only[Ge,decide_true,Bool.true_and,decide_eq_false_iff_not]at fB;omega
   .have h3:=g1 Ge;omega
  .exact absurd h1 h0
 .rcases h.get n with⟨hl,nd,h1,h2⟩|⟨-,-,-,h1⟩
  .rw[h2]at h0 ⊢;obtain⟨-,-,-,-,g1,-⟩:=h.go n nd h1;have:=g1 h0;omega
  .exfalso;unfold uU at h0;rw[h1]at h0;simp at h0
theorem zz{V H k i:Nat}(h:TeM V H k i)(hV:V<=4)(hH:H<=8):ut k i<13/\k<=2/\i<=100:=by
 unfold ut;rcases h with⟨rfl,rfl⟩|⟨rfl,h⟩|⟨rfl,h⟩
 .simp
 .simp;omega
 .simp;omega
theorem Ao.aok(h:Ao ws s M)(hw:ws.length<=240)(hv:s.vars.length<=4)(hh:s.hid.length<=8):Qu (gb ws a9):=by
 refine⟨λa ha=>⟨(zz (h.at_ a ha).1 hv hh).1,(zz (h.at_ a ha).2.1 hv hh).1⟩,?_,λa ha=>?_⟩
 .have h1:=F8 (ws:=ws) (ws.length+1) (mm ws (bB ws oq a9));show(FD ws (bB ws oq a9)::(pj ws (ws.length+1) (mm ws (bB ws oq a9))).1).length<=1000;simp only[length_cons];omega
 .have h1:=zz (h.at_ a ha).1 hv hh;have h2:=zz (h.at_ a ha).2.1 hv hh;exact⟨h1.2.1,h2.2.1,h1.2.2,h2.2.2⟩
end
theorem Nb(m k i:Nat):m<=lP m k i/\(k=2->i<lP m k i):=by unfold lP;split <;> constructor <;> intros <;> omega
theorem M8:∀(l:List bt) (m:Nat),m<=l.foldl (λm a=>lP (lP m a.lk a.li) a.rk a.ri) m/\∀a∈l,(a.lk=2->a.li<l.foldl (λm a=>lP (lP m a.lk a.li) a.rk a.ri) m)/\(a.rk=2->a.ri<l.foldl (λm a=>lP (lP m a.lk a.li) a.rk a.ri) m)
 |[],m=>⟨zq4 _,λa ha=>by simp at ha⟩
 |b::l,m=>by
  have h1:=Nb m b.lk b.li;have h2:=Nb (lP m b.lk b.li) b.rk b.ri;obtain⟨h3,h4⟩:=M8 l (lP (lP m b.lk b.li) b.rk b.ri);rw[foldl_cons];refine⟨by omega,λa ha=>?_⟩;rcases mem_cons.1 ha with rfl|ha
  .exact⟨λe=>by have:=h1.2 e;omega,λe=>by have:=h2.2 e;omega⟩
  .exact h4 a ha
theorem YI{al:List bt}{a:bt}(ha:a∈al):(a.lk=2->a.li<vA al)/\(a.rk=2->a.ri<vA al):=(M8 al 0).2 a ha
def trS(al:List bt)(nv:Nat):List Nat:=((0::(range nv).map (1+·))++(range (vA al)).map (5+·)).map (λt=>(iY al).getD t 0)
theorem Uz(al:List bt)(nv:Nat):(trS al nv).length=1+nv+vA al:=by unfold trS;simp;omega
theorem Pl{al:List bt}{V H k i:Nat}(h:TeM V H k i)(hh:k=2->i<vA al):(iY al).getD (ut k i) 0∈trS al V:=by
 unfold trS ut;refine mem_map.2 ⟨_,?_,rfl⟩;rcases h with⟨rfl,rfl⟩|⟨rfl,h⟩|⟨rfl,h⟩
 .simp
 .simp;omega
 .refine mem_append_right _ (mem_map.2 ⟨i,mem_range.2 (hh rfl),?_⟩);simp
section
variable {ws:List ByteArray} {s:PS} {M:List Nd}
theorem Ao.live(h:Ao ws s M)(hv:s.vars.length<=4):∀c∈dC (sQ (bL (gb ws a9)) s.vars.length),c∈trS (gb ws a9) s.vars.length:=by
 intro c hc;unfold dC at hc;rcases mem_append.1 hc with hc|hc
 .have key:∀i,i<5->(sQ (bL (gb ws a9)) s.vars.length).cl.getD i 0∈trS (gb ws a9) s.vars.length:=by
   intro i hi;have e:(sQ (bL (gb ws a9)) s.vars.length).cl.getD i 0=if s.vars.length<i then (iY (gb ws a9)).getD 0 0 else (iY (gb ws a9)).getD i 0:=by
    unfold sQ;simp only[getD_eq_getElem?_getD,getElem?_map,getElem?_range hi,Option.map_some,Option.getD_some];rw[<-getD_eq_getElem?_getD,<-getD_eq_getElem?_getD,kO (show 0<5 by omega),kO hi,getD_eq_getElem?_getD,getD_eq_getElem?_getD]
   rw[e];unfold trS;split
   .exact mem_map.2 ⟨0,by simp,rfl⟩
   .refine mem_map.2 ⟨i,mem_append_left _ ?_,rfl⟩;cases i with
    |zero=>simp
    |succ i=>exact mem_cons_of_mem _ (mem_map.2 ⟨i,mem_range.2 (by omega),by omega⟩)
  unfold jM at hc;simp only[mem_cons,not_mem_nil,or_false]at hc;rcases hc with rfl|rfl|rfl|rfl|rfl
  .exact key 0 (by omega)
  .exact key 1 (by omega)
  .exact key 2 (by omega)
  .exact key 3 (by omega)
  .exact key 4 (by omega)
 .obtain⟨p,hp,hc⟩:=mem_flatMap.1 hc;obtain⟨a,ha,rfl⟩:=mem_map.1 (show p∈((gb ws a9).filter (λa=>a.k==3||a.k==4)).map (gT (iY (gb ws a9))) from hp);have Yn:=(mem_filter.1 ha).1;have h1:=h.at_ a Yn;have h2:=YI Yn;simp only[mem_cons,not_mem_nil,or_false]at hc;rcases hc with rfl|rfl
  .exact Pl h1.1 h2.1
  .exact Pl h1.2.1 h2.2
end
theorem JR{nds:List Nd}{nv:Nat}{al:List bt}(h:Ks nds nv al=true):(range nds.length).any (lJ nds)=false/\al.any (λa=>decide (a.k=4))=false/\nds.countP (λn=>decide (n.op=7\/n.op=8\/n.op=9))<=5/\nv+vA al+nds.countP (λn=>decide (n.op=4))<=8:=by
 unfold Ks at h;simp only[Bool.and_eq_true,Bool.not_eq_true',decide_eq_true_eq]at h;exact⟨h.1.1.1.1.1,h.1.1.1.1.2,h.1.1.1.2,h.2⟩
theorem MW{nds:List Nd}(h:(range nds.length).any (lJ nds)=false)(n:Nat):(hdL nds).getD n false=false:=by
 have key:∀(l:List Nat) (H:List Bool),(∀i∈l,lJ nds i=false)->l.foldl (λh i=>if lJ nds i=true then h.set (nds.getD i bj).nx true else h) H=H:=by
  intro l;induction l with
  |nil=>intro H _;rfl
  |cons i l ih =>
   intro H hl;rw[foldl_cons,if_neg (by rw[hl i (by simp)];decide)];exact ih H (λj hj=>hl j (by simp[hj]))
 unfold hdL;rw[key _ _ (λi hi=>KZ h (mem_range.1 hi)),getD_eq_getElem?_getD,getElem?_replicate];split <;> rfl
theorem GA(nds:List Nd)(n:Nat):bN (l5 nds) n=[]:=by
 unfold bN l5;rw[getD_eq_getElem?_getD,getElem?_replicate];split <;> rfl
theorem Co(g:Nat->List gC->Nat)(hg:∀n,g n []=0):∀(m k:Nat),rf g k (replicate m [])=0
 |0,k=>rfl
 |m+1,k=>by
  rw[replicate_succ];simp only[rf];rw[hg,Co g hg m (k+1)]
theorem uo{α:Type}(g:α->Nat)(x:α)(hg:g x=0):∀(m:Nat),aV g (replicate m x)=0
 |0=>rfl
 |m+1=>by
  rw[replicate_succ];simp only[aV];rw[hg,uo g x hg m]
theorem zu(nds:List Nd):kx (l5 nds):=λl hl e he=>by
 rw[eq_of_mem_replicate (show l∈replicate nds.length [] from hl)]at he;simp at he
theorem O7(nds:List Nd):oZ (l5 nds):=λl hl=>by
 rw[eq_of_mem_replicate (show l∈replicate nds.length [] from hl)];exact zq5 _
theorem p9{a:Nat}(h:a<=9):9 ^ a<=387420489:=Nat.pow_le_pow_right (by omega) h
theorem p2{a:Nat}(h:a<=5):2 ^ a<=32:=Nat.pow_le_pow_right (by omega) h
section
variable {ws:List ByteArray} {s:PS} {M:List Nd}
theorem Ao.ok(h:Ao ws s M)(hw:ws.length<=240)(hv:s.vars.length<=4)(hh:s.hid.length<=8):(mT s.nodes s.vars.length (gb ws a9)).ok=true:=by
 have hA:=h.aok hw hv hh;obtain⟨al,mG⟩:∃al,al=gb ws a9:=⟨_,rfl⟩;have gF:=h.live hv;rw[<-mG]at hA gF ⊢;have dg:=h.len;have hln:=h.ln;unfold mT;obtain⟨c,hc⟩:∃c,c=Az s.nodes s.vars.length al:=⟨_,rfl⟩;have fs:c.nds=s.nodes:=by rw[hc];rfl
 rw[<-hc];cases hsi:Ks s.nodes s.vars.length al with
 |true =>
  obtain⟨aO,ax,bF,gX⟩:=JR hsi;have hS:Xj c:=⟨by rw[hc];exact aO,by rw[hc];show(!Ks s.nodes s.vars.length al)=false;rw[hsi];rfl,by rw[hc];exact MW aO,by rw[fs];exact h.fwd hv aO⟩;have h0:∀rest,rest<=qI->su c 0 rest (l5 s.nodes):=λrest hr=>⟨by rw[fs];exact length_replicate,λn e he=>by rw[GA]at he;simp at he,λn _ e he=>by rw[GA]at he;simp at he,λn hn=>by omega,by
   have:JX c.nds (l5 s.nodes)=0:=Co _ (λn=>rfl) _ _;omega,rfl⟩
  refine Hi hS 1000000 (cu:=0) ?_ (by rw[fs];omega) (zq5 _);unfold fx;split
  .exact h0 0 (zq5 _)
  .rename_i hf;have Sz:je (bL al)=false:=(by simpa using hf);have gJ:=lL (pC hA.tm Sz) s.vars.length;have Bj:K3 (sQ (bL al) s.vars.length):=by
    intro p hp;obtain⟨a,ha,rfl⟩:=mem_map.1 (show p∈(al.filter (λa=>a.k==3||a.k==4)).map (gT (iY al)) from hp);obtain⟨ha1,ha2⟩:=mem_filter.1 ha;rw[any_eq_false]at ax;have h4:=ax a ha1;show a.k=3;simp only[Bool.or_eq_true,beq_iff_eq]at ha2;simp only[decide_eq_true_eq]at h4;omega
   have aqm:aD (bJ (sQ (bL al) s.vars.length))<=1+s.vars.length+vA al:=by
    have:=rP gJ gF;rw[Uz]at this;exact this
   have hcN:rx Gx c.nds 0=s.nodes.countP (λn=>decide (n.op=4)):=(by rw[fs];rfl);have hcT:rx uU c.nds 0=s.nodes.countP (λn=>decide (n.op=7\/n.op=8\/n.op=9)):=(by rw[fs];rfl);have rJ:xK c.nds 0 (bJ (sQ (bL al) s.vars.length)):=⟨gJ.tidy,Bj.td,by omega⟩;have hwt:fX c.nds 0 (bJ (sQ (bL al) s.vars.length))<=qI:=by
    unfold fX;have h1:=p9 rJ.nm;have h2:=p2 (show rx uU c.nds 0<=5 by omega);exact zq3 (Nat.mul_le_mul h1 h2) (by unfold qI;omega)
   unfold eo;rw[if_pos (zq0 hS.lp)];exact BG hS (zq4 _) rJ (h0 _ (by omega))
 |false =>
  have hb:c.bd=true:=by rw[hc];show(!Ks s.nodes s.vars.length al)=true;rw[hsi];rfl
  have hV:NdV c:=by intro n;rw[fs];exact h.v4 hv n
  have he0:pH (l5 s.nodes)=0:=uo (α:=List gC) List.length [] rfl s.nodes.length;have El:eM (l5 s.nodes)=0:=uo (α:=List gC) (λl:List gC=>l.countP (λe:gC=>!e.d)) [] rfl s.nodes.length;have I9:(l5 s.nodes).lf=3000:=rfl;have h0:Gd 1152 (l5 s.nodes):=⟨by rw[he0,I9];decide,by rw[I9];decide,λ_=>by rw[I9];decide,rfl⟩;unfold fx;split
  .exact ES hb hV (by omega) 1000000 (zu _) (h0.wide (by omega)) (by rw[El,I9];decide) (by omega)
  .rename_i hf;have Sz:je (bL al)=false:=(by simpa using hf);have htd:=(lL (pC hA.tm Sz) s.vars.length).tidy;obtain⟨g1,g2⟩:=K5 hb (fuel:=4000) (a:=c.nds.length-1) (b:=0) (by omega) (zq4 1152) (by omega) htd h0 (by rw[I9];decide);refine ES hb hV (by omega) 1000000 (Dg htd (zu _)) (g1.wide (by omega)) ?_ (by omega);rw[El,I9]at g2;omega
end
theorem nL{l:List UInt8}(h:lY l=0):An (dI l) (gb (gY l) a9):=by
 obtain⟨h1,h2,h3,h4,h5⟩:=B0 h;have hw:=ZS h2;obtain⟨M,hM⟩:=BZ (ws:=gY l) h3;have hl:=hM.len;have hln:=hM.ln;exact⟨hM.aok (by omega) h4 h5,hM.ndo h4,by show(dH (gY l) a9).nodes.length<=_;omega,by show 0<(dH (gY l) a9).nodes.length;omega,h4,hM.ok (by omega) h4 h5⟩
theorem Pw{c:Cd}{fuel n:Nat}(hv:(c.nds.getD n bj).v<4)(ha:(c.nds.getD n bj).ai<4):∀(l:List CF) {s:Sr},c9 l->kx s->kx (pu c fuel n l s)
 |[],s,_,h=>h
 |f::r,s,hl,h=>by
  unfold pu;split
  .exact h
  .exact Pw hv ha r (λx hx=>hl x (by simp[hx])) (O9 hv ha (hl f (by simp)) h)
theorem aae{c:Cd}{fuel n:Nat}(hv:(c.nds.getD n bj).v<4)(ha:(c.nds.getD n bj).ai<4){s:Sr}(h:kx s):kx (uD c fuel n s):=by
 unfold uD;refine Pw hv ha _ (Mm (h.at n)) ?_;exact h.set n (λe he=>by
  obtain⟨x,hx,rfl⟩:=mem_map.1 he;exact h.at n x hx)
theorem OW{c:Cd}{fuel:Nat}(hV:NdV c):∀(n:Nat) {s:Sr},kx s->oZ s->(qa c fuel n s).ok=true->oZ (qa c fuel n s)/\kx (qa c fuel n s)
 |0,s,_,_,h=>by cases h
 |n+1,s,hi,hk,h=>by
  unfold qa at h ⊢;split
  .exact⟨hk,hi⟩
  .rename_i k hp;rw[hp]at h;dsimp only at h;split
   .exact⟨hk,hi⟩
   .rename_i hf;rw[if_neg hf]at h;exact OW hV n (aae (hV k).1 (hV k).2 hi) (Pz (hV k).1 (hV k).2 hi hk (lB n h)) h
theorem acn{ps:PS}{al:List bt}(h:An ps al):oZ (mT ps.nodes ps.vars.length al)/\kx (mT ps.nodes ps.vars.length al):=by
 have aY:=h.ok;unfold mT at aY ⊢;obtain⟨c,hc⟩:∃c,c=Az ps.nodes ps.vars.length al:=⟨_,rfl⟩;rw[<-hc]at aY ⊢;have hV:NdV c:=λn=>by rw[hc];exact h.n.v n
 have yD:=lB _ aY;have h0:oZ (fx c 4000 ps.vars.length al (l5 ps.nodes))/\kx (fx c 4000 ps.vars.length al (l5 ps.nodes)):=by
  unfold fx at yD ⊢;split
  .exact⟨O7 _,zu _⟩
  .rename_i hf;rw[if_neg hf]at yD;have ht:=(lL (pC h.a.tm (by simpa using hf)) ps.vars.length).tidy;exact⟨Dh ht (O7 _) yD,Dg ht (zu _)⟩
 exact OW hV _ h0.2 h0.1 aY
theorem At{ps:PS}{al:List bt}(h:An ps al):∀l∈(CI ps.nodes ps.vars.length al).kn,l.length<=1000000000001:=by
 unfold CI Hg;split
 .intro l hl;simp at hl
 .intro l hl;obtain⟨x,hx,rfl⟩:=mem_map.1 (show l∈(mT ps.nodes ps.vars.length al).kn.map (λl=>l.map (·.f)) from hl);rw[length_map];exact(acn h).1 x hx
