import Derived.Test.YtciihepbeacppaaGreatIE
set_option maxRecDepth 100000
set_option maxHeartbeats 0
namespace Go.Proofs.YtciihepbeacppaaGreat
open Tryz Go.RowKit List World Below
set_option linter.unusedVariables false
def vi(s:Sr):Prop:=∀l∈s.kn,l.length<=tH+1
theorem I4{c:Cd}{n:Nat}{f:CF}{s:Sr}(h:vi s)(bn:(bz c n f s).ok=true):vi (bz c n f s):=by
 have hb:=(oh bn).2;unfold bz;split
 .exact h
 .show ∀l∈s.kn.set n ((br s n).filter (λe=>!Ei e.f (bI c n f))++[⟨bI c n f,false⟩]),l.length<=tH+1;intro l hl;rcases mem_or_eq_of_mem_set hl with p|p
  .exact h l p
  .rw[p,length_append,length_singleton];have:=length_filter_le (λe=>!Ei e.f (bI c n f)) (br s n);omega
theorem I1{c:Cd}{n:Nat}:∀(l:List CF) {s:Sr},vi s->(l.foldl (λs g=>bz c n g s) s).ok=true->vi (l.foldl (λs g=>bz c n g s) s)
 |[],_,h,_=>h
 |_::l,_,h,bn=>I1 l (I4 h (jy l bn)) bn
theorem Na{c:Cd}{fuel a b:Nat}{f:CF}{s:Sr}(hf:Td f)(h:vi s)(bn:(dV c fuel a b f s).ok=true):vi (dV c fuel a b f s):=by
 unfold dV at bn ⊢;split
 .rename_i hc;rw[if_pos hc]at bn;exact I4 h bn
 .rename_i hc;rw[if_neg hc]at bn;have h1:bW [f]:=λx hx=>by rw[mem_singleton]at hx;subst hx;exact hf
  obtain⟨-,g2,-⟩:=kT (c:=c) fuel 0 (r:=([f],kQ a 2 s)) (res:=[]) h1 (λx hx=>by simp at hx);refine I1 _ ?_ bn;unfold vi;rw[g2];exact h
theorem E8{c:Cd}{fuel a b:Nat}:∀(l:List CF) {s:Sr},bW l->vi s->(l.foldl (λs g=>dV c fuel a b g s) s).ok=true->vi (l.foldl (λs g=>dV c fuel a b g s) s)
 |[],_,_,h,_=>h
 |g::l,_,hl,h,bn=>E8 l (λx hx=>hl x (by simp[hx])) (Na (hl g (by simp)) h (eT l bn)) bn
theorem ab6{c:Cd}{fuel n:Nat}{f:CF}{s:Sr}(hv:(c.nds.getD n aI).v<4)(ha:(c.nds.getD n aI).ai<4)(hf:Td f)(h:vi s)(bn:(po c fuel n f s).ok=true):vi (po c fuel n f s):=by
 obtain⟨h1,h2⟩:=jI hv ha hf;unfold po at bn ⊢;simp only at bn ⊢;refine E8 _ h2 (E8 _ h1 ?_ (eT _ bn)) bn;unfold vi;show ∀l∈(wrI _ n 4 (wrI _ n 3 (wrI _ n 2 s))).kn,_;rw[qm,qm,qm];exact h
theorem RP{c:Cd}{fuel n:Nat}(hv:(c.nds.getD n aI).v<4)(ha:(c.nds.getD n aI).ai<4):∀(l:List CF) {s:Sr},bW l->vi s->(nO c fuel n l s).ok=true->vi (nO c fuel n l s)
 |[],_,_,h,_=>h
 |f::l,s,hl,h,bn=>by
  unfold nO at bn ⊢;split
  .exact h
  .rename_i hc;rw[if_neg hc]at bn;exact RP hv ha l (λx hx=>hl x (by simp[hx])) (ab6 hv ha (hl f (by simp)) h (nP l bn)) bn
theorem acd{c:Cd}{fuel n:Nat}(hv:(c.nds.getD n aI).v<4)(ha:(c.nds.getD n aI).ai<4){s:Sr}(hi:qo s)(h:vi s)(bn:(sQ c fuel n s).ok=true):vi (sQ c fuel n s):=by
 unfold sQ at bn ⊢;refine RP hv ha _ (λf hf=>?_) ?_ bn
 .unfold mI at hf;obtain⟨e,he,rfl⟩:=mem_map.1 hf;exact hi.at n e (mem_filter.1 he).1
 .show ∀l∈s.kn.set n _,l.length<=tH+1;intro l hl;rcases mem_or_eq_of_mem_set hl with p|p
  .exact h l p
  .rw[p,length_map];unfold br;by_cases hn:n<s.kn.length
   .rw[bG hn];exact h _ (getElem_mem hn)
   .rw[getD_eq_getElem?_getD,getElem?_eq_none (by omega)];exact zq5 _
theorem RR{c:Cd}{fuel n:Nat}{s:Sr}(bn:(sQ c fuel n s).ok=true):s.ok=true:=by
 unfold sQ at bn;have h1:=nP _ bn;exact h1
theorem nJ{c:Cd}{fuel:Nat}:∀(n:Nat) {s:Sr},(qg c fuel n s).ok=true->s.ok=true
 |0,_,h=>by simp[qg]at h
 |n+1,s,h=>by
  unfold qg at h;split at h
  .exact h
  .split at h
   .exact h
   .exact RR (nJ n h)
theorem vi.at{s:Sr}(h:vi s)(n:Nat):(br s n).length<=tH+1:=by
 unfold br;by_cases hn:n<s.kn.length
 .rw[bG hn];exact h _ (getElem_mem hn)
 .rw[getD_eq_getElem?_getD,getElem?_eq_none (by omega)];exact zq5 _
section
variable {w W W':World} {S:Nat} {c:Cd} {c0 hv kv wv:Value} {KV WV:List Value} {K:List (List En)} {s:Sr}
theorem Sh.inS(h:Sh w S c c0 hv kv wv KV WV K s):qo s:=by
 intro l hl e he;rw[h.km]at hl;obtain⟨l0,h0,rfl⟩:=mem_map.1 hl;obtain⟨e0,h1,rfl⟩:=mem_map.1 he;exact(h.dr l0 h0 e0 h1).2
theorem Sh.kb(h:Sh w S c c0 hv kv wv KV WV K s)(hb:vi s):∀l∈K,l.length<=tH+1:=λl hl=>by
 have:=hb (l.map En.m) (by rw[h.km];exact mem_map_of_mem hl);rw[length_map]at this;exact this
theorem ij.low{F F' D D':List Nat}(h:ij W W' F F' D D' [])(hb:Below w.heap.size w W)(hF:∀k∈F,w.heap.size<=k):Below w.heap.size w W' :=
 ⟨h.st.os.trans hb.os,h.st.tape.trans hb.tape,h.st.output.trans hb.output,zq3 hb.size h.st.size,λk hk=>(h.st.block k (zq6 hk hb.size) (λe=>by
  rw[append_nil]at e;have:=hF k e;omega)).trans (hb.block k hk)⟩
theorem Rz.from{RB vd:Nat}{av kv:Value}{al:List (Nat × Nat)}{FV:List Value}{L:List (List FE)}(h:Rz W W' RB vd av kv al FV L)(hb:Below w.heap.size w W):Rz w W' RB vd av kv al FV L :=
 ⟨h.bk,h.al,h.kr,h.ke,h.ap,λk hk=>zq3 hb.size (h.ge k hk),hb.trans (h.bl.mono hb.size)⟩
end
def ME(w:World)(r:Rs)(RB:Nat)(w':World):Prop:=∃av kv FV L,Rz w w' RB r.vd av kv r.al FV L/\L.map (λl=>l.map (λx=>x.f))=r.kn/\∀l∈L,∀x∈l,eQ w' x.A x.f x.av x.ov/\Td x.f/\∀k∈x.bs,w.heap.size<=k
section
variable {w:World} {Q:Nat} {ws:List ByteArray} {ps:PS} {al:List cj} {vv pv nv:Value}
theorem Vz (h:Cp w Q ws ps al vv pv nv) (hA:MD al) (hN:sS ps.nodes) (jQ:ps.nodes.length<=100000) (sl:0<ps.nodes.length) (Gf:ps.vars.length<=4) (fuel N:Nat)
  (bn:(qg (mG ps.nodes ps.vars.length al) fuel N (ip (mG ps.nodes ps.vars.length al) fuel ps.vars.length al (nM ps.nodes))).ok=true) :
  Calls prog 92 #[.pointer (some ⟨Q,0,none⟩)] w λe w'=>∃RB,e=.returned (.pointer (some ⟨RB,0,none⟩))/\ME w (CB (qg (mG ps.nodes ps.vars.length al) fuel N (ip (mG ps.nodes ps.vars.length al) fuel ps.vars.length al (nM ps.nodes)))) RB w':=by
 obtain⟨c,hc⟩:∃c,c=mG ps.nodes ps.vars.length al:=⟨_,rfl⟩;have kH:c.nds=ps.nodes:=by rw[hc];rfl
 rw[<-hc]at bn ⊢;obtain⟨R,hR⟩:∃R,R=qg c fuel N (ip c fuel ps.vars.length al (nM ps.nodes)):=⟨_,rfl⟩;rw[<-hR]at bn ⊢;have EX:=ab (Ni h hA jQ (by omega));rw[<-hc]at EX;have H:=ab h;have HA:=ab (zq2 hA (zq2 hN kH));have HR:=ab hR;have mr:=ab bn;obtain⟨eI,dL⟩:∃eI:Nat->World->Prop,eI=λRB w'=>ME w (CB R) RB w':=⟨_,rfl⟩;have gD:=ab dL;rw[show(fun(e:Ending) (w':World)=>∃RB,e=.returned (.pointer (some ⟨RB,0,none⟩))/\ME w (CB R) RB w')=(λe w'=>∃RB,e=.returned (.pointer (some ⟨RB,0,none⟩))/\eI RB w') by rw[dL]];clear h hA hN hc kH hR bn dL;go_enter func92,ntmps92;go_wp2_with fail
 refine(uh EX).mono ?_;rintro e w1 ⟨S,rfl,hv,kv,wv,WV,bU,bB,afU⟩;have Ew:=(uh H).below bB;have yi:(replicate ps.nodes.length ([]:List En)).length=ps.nodes.length:=length_replicate;have PD:(ip c fuel ps.vars.length al (nM ps.nodes)).ok=true:=nJ N (by rw[<-uh HR];exact uh mr);have MK:=ab (N6 (fuel:=fuel) bU Ew (uh HA).2.2 (uh HA).1 Gf (by rw[yi];exact sl) (by rw[yi];exact jQ) PD);have H1:=ab (zq2 bU (zq2 bB (zq2 afU Ew)));have af9:vi (ip c fuel ps.vars.length al (nM ps.nodes)):=by
  have h0:vi (nM ps.nodes):=λl hl=>by
   have:l=[]:=eq_of_mem_replicate (show l∈replicate ps.nodes.length [] from hl);rw[this];exact zq5 _
  unfold ip at PD ⊢;split
  .exact h0
  .rename_i hf;rw[if_neg hf]at PD;exact Na (kD (mT (uh HA).1.tm (by simpa using hf)) _).tidy h0 PD
 have HKB:=ab af9;clear bU bB afU Ew PD EX af9;go_wp2_with fail
 refine(uh MK).mono ?_;rintro e w2 ⟨rfl,tG,K2,p1,p2,p3⟩;rw[yi]at p2;have HPE:=ab (wP p1 (by omega));have H2:=ab (zq2 p1 (zq2 p2 p3));clear p1 p2 p3 MK;go_wp2_with fail
 refine(uh HPE).mono ?_;rintro e w3 ⟨rfl,dy⟩;have cG:Hid (Sh w3 S c (.pointer (some ⟨Q,0,none⟩)) hv kv wv tG WV K2 (ip c fuel ps.vars.length al (nM ps.nodes))/\K2.length=ps.nodes.length/\ij w1 w3 (cZ S hv kv wv (replicate ps.nodes.length aJ) WV) (cZ S hv kv wv tG WV) (et (replicate ps.nodes.length [])) (et K2) []/\vi (ip c fuel ps.vars.length al (nM ps.nodes))/\qg c fuel N (ip c fuel ps.vars.length al (nM ps.nodes))=R):=ab ⟨(uh H2).1.below dy,(uh H2).2.1,(uh H2).2.2.trans (ij.below (X:=[]) dy) (λk hk=>by simp at hk),uh HKB,(uh HR).symm⟩;clear dy HPE H2 HKB HR;go_wp2_with fail
 go_loopg [4] N (λgn iv wx=>∃(KV:List Value) (K:List (List En)) (s':Sr),iv=.int .i64 (fV (EP s'))/\Hid (Sh wx S c (.pointer (some ⟨Q,0,none⟩)) hv kv wv KV WV K s'/\K.length=ps.nodes.length/\ij w1 wx (cZ S hv kv wv (replicate ps.nodes.length aJ) WV) (cZ S hv kv wv KV WV) (et (replicate ps.nodes.length [])) (et K) []/\vi s'/\qg c fuel gn s'=R))
 case atStart=>exact⟨tG,K2,_,rfl,cG⟩
 case round =>
  clear cG;obtain⟨KV,K,s',rfl,hI⟩:=hrel;obtain⟨h1,h2,h3,h4,h5⟩:=uh hI;have c8:=h1.bs.cell 8 rfl;have Xt:Cp wr Q ws ps al vv pv nv/\∀k∈Cf Q vv pv nv,k ∉ cZ S hv kv wv KV WV:=by
   have iG:=h3.low (uh H1).2.1 (uh H1).2.2.1;refine⟨(uh H).below iG,λk hk e=>?_⟩;have Pp:=(uh H).lt k hk;rcases h3.st.foot k e with p|p
   .rw[append_nil]at p;have:=(uh H1).2.2.1 k p;omega
   .have:=(uh H1).2.1.size;omega
  have MM:Hid (s'=R->Calls prog 143 #[.pointer (some ⟨S,0,none⟩)] wr λe w'=>∃RB,e=.returned (.pointer (some ⟨RB,0,none⟩))/\eI RB w'):=ab (λe=>(LL h1 (by omega) (h1.kb h4)).mono (λe2 w' hp=>by
   obtain⟨RB,uu,av,kv',FV,L,ki,hr3,Cw⟩:=hp;refine⟨RB,uu,?_⟩;have iG:=h3.low (uh H1).2.1 (uh H1).2.2.1;rw[uh gD,<-e];refine⟨av,kv',FV,L,ki.from iG,hr3,λl hl x hx=>?_⟩;obtain⟨l0,h0,e0,he0,rfl⟩:=Cw l hl x hx;have agt:=h1.dr l0 h0 e0 he0;refine⟨(agt.1.below ki.bl).ff,agt.2,λk hk=>?_⟩;have SG:k∈et K:=bC.2 ⟨l0,h0,e0,he0,mem_cons_of_mem _ hk⟩;rcases h3.dr k SG with p|p|p
   .obtain⟨l2,Ix,e2,he2,-⟩:=bC.1 p;rw[eq_of_mem_replicate Ix]at he2;simp at he2
   .simp at p
   .exact zq3 (uh H1).2.1.size p))
  cases gk with
  |zero =>
   have Dp:=uh mr;rw[<-h5]at Dp;simp[qg]at Dp
  |succ g =>
   unfold qg at h5;cases hp:EP s' with
   |none =>
    rw[hp]at h5;have HE:=ab (uh MM h5);rw[show fV (none:Option Nat)=-1 from rfl];clear h1 h2 h3 h4 h5 Xt hp hI MM;go_wp2_with fail
    refine(uh HE).mono ?_;rintro e w5 ⟨RB,rfl,hP⟩;have HP:=ab hP;clear hP HE;go_wp2_with fail
    go_ret;exact⟨RB,rfl,uh HP⟩
   |some k =>
    rw[hp]at h5;rw[show fV (some k)=(k:Int) from rfl];cases dY:s'.fu
    .rw[dY]at c8;simp only[dY]at h5;rw[if_neg (by decide)]at h5;have gK:k<K.length:=by
      unfold EP at hp;rw[findIdx?_eq_some_iff_getElem]at hp;obtain⟨h9,-⟩:=hp;rw[h1.km,length_map]at h9;exact h9
     have aat:(sQ c fuel k s').ok=true:=nJ g (by rw[h5];exact uh mr);have hvk:(c.nds.getD k aI).v<4/\(c.nds.getD k aI).ai<4:=(by rw[(uh HA).2.2];exact(uh HA).2.1.v k);have hNc:sS c.nds:=(by rw[(uh HA).2.2];exact(uh HA).2.1);have HVI:=ab (RT (fuel:=fuel) h1 Xt.1 Xt.2 (uh HA).2.2 hNc gK (by omega) aat (h4.at k));have adX:=ab (acd hvk.1 hvk.2 h1.inS h4 aat);have HI:=ab (zq2 h2 (zq2 h3 h5));have hg0:decide ((0:Int)<=(k:Int))=true:=(by simp);clear h1 h2 h3 h4 h5 Xt hp hI MM gK aat hvk hNc dY;go_wp2_with fail
     refine(uh HVI).mono ?_;rintro e w5 ⟨rfl,YJ,K3,p1,p2,p3⟩;obtain⟨h2,h3,h5⟩:=uh HI;have hK3:=p2.trans h2;have HPE:=ab (wP p1 (by omega));have H5:=ab (zq2 p1 (zq2 hK3 (zq2 (h3.trans p3 (λk hk=>by simp at hk)) (zq2 (uh adX) h5))));clear p1 p2 p3 h2 h3 h5 hK3 HVI adX HI c8;go_wp2_with fail
     refine(uh HPE).mono ?_;rintro e w6 ⟨rfl,kU⟩;have HN:=ab (zq2 ((uh H5).1.below kU) (zq2 (uh H5).2.1 (zq2 ((uh H5).2.2.1.trans (ij.below (X:=[]) kU) (λk hk=>by simp at hk)) (uh H5).2.2.2)));clear kU HPE H5;go_wp2_with fail
     go_roundg g
     case rel=>exact⟨YJ,K3,_,rfl,HN⟩
     case measure=>omega
    .rw[dY]at c8;simp only[dY,if_true]at h5;have HE:=ab (uh MM h5);have hg0:decide ((0:Int)<=(k:Int))=true:=(by simp);clear h1 h2 h3 h4 h5 Xt hp hI MM dY;go_wp2_with fail
     refine(uh HE).mono ?_;rintro e w5 ⟨RB,rfl,hP⟩;have HP:=ab hP;clear hP HE;go_wp2_with fail
     go_ret;exact⟨RB,rfl,uh HP⟩
end
section
variable {w:World} {X Q:Nat} {ws:List ByteArray} {s:PS} {al:List cj} {vv pv nv sv0 lv fv:Value} {st ls:List Int}
theorem pY(hX:Bk w X 88 [abx Q,fv]):Calls prog 53 #[.pointer (some ⟨X,0,none⟩)] w λe w'=>e=.returned (.bool false)/\∃n,w'=w.drewN n:=by
 have c0:w.cell? ⟨X,0,none⟩=some (.pointer (some ⟨Q,0,none⟩)):=hX.cell 0 rfl;clear hX;go_enter func53,ntmps53;go_wp2_with fail
 go_ret;exact⟨rfl,0,rfl⟩
end
def rE(nds:List Nd)(nv:Nat)(al:List cj):Sr:=qg (mG nds nv al) 4000 1000000 (ip (mG nds nv al) 4000 nv al (nM nds))
def ye(nds:List Nd)(nv:Nat)(al:List cj):Rs:=CB (rE nds nv al)
structure An(ps:PS)(al:List cj):Prop where
 a:MD al
 n:sS ps.nodes
 l:ps.nodes.length<=100000
 p:0<ps.nodes.length
 v:ps.vars.length<=4
 ok:(rE ps.nodes ps.vars.length al).ok=true
structure Fd(W:World)(RB:Nat)(r:Rs)(av kv:Value)(FV:List Value)(L:List (List FE)):Prop where
 bk:Bk W RB 118 [.int .i64 (r.vd:Int),av,kv]
 al:W.ownsRow 0 82 2 av r.al.length (xM r.al)
 kr:W.ownsRow 0 125 1 kv L.length FV
 ke:∀i,i<L.length->W.ownsRow 0 126 1 (FV.getD i aJ) (L.getD i []).length ((L.getD i []).map FE.p)
 km:L.map (λl=>l.map (λx=>x.f))=r.kn
 fm:∀l∈L,∀x∈l,eQ W x.A x.f x.av x.ov/\Td x.f
def Xa(RB:Nat)(av kv:Value)(FV:List Value)(L:List (List FE)):List Nat:=Ua (tT RB av kv FV)++L.flatMap (λl=>l.flatMap FE.bs)
section
variable {w w':World} {RB:Nat} {r:Rs} {av kv:Value} {FV:List Value} {L:List (List FE)}
theorem Fd.fl(h:Fd w RB r av kv FV L):FV.length=L.length:=by have:=h.kr.1;omega
theorem Fd.lt(h:Fd w RB r av kv FV L):∀k∈Xa RB av kv FV L,k<w.heap.size:=by
 intro k hk;rcases mem_append.1 hk with hk|hk
 .obtain⟨i,hi⟩:=aU.1 hk;rcases zJ hi with⟨-,rfl⟩|⟨-,e⟩|⟨-,e⟩|⟨j,hj,-,e⟩
  .exact h.bk.lt
  .exact(h.al.lt k e).2
  .exact(h.kr.lt k e).2
  .exact((h.ke j (by rw[<-h.fl];exact hj)).lt k e).2
 .obtain⟨l,hl,hk⟩:=mem_flatMap.1 hk;obtain⟨x,hx,hk⟩:=mem_flatMap.1 hk;exact(h.fm l hl x hx).1.lt k hk
theorem Fd.of_eq(h:Fd w RB r av kv FV L)(he:∀k∈Xa RB av kv FV L,w'.heap[k]?=w.heap[k]?):Fd w' RB r av kv FV L:=by
 have hf:=h.fl;have h1:∀i k,(tT RB av kv FV)[i]?=some (some k)->w'.heap[k]?=w.heap[k]?:=λi k hi=>he k (mem_append_left _ (aU.2 ⟨i,hi⟩));exact⟨h.bk.of_eq (h1 0 RB rfl),ae h.al (λk hk=>h1 1 k (congrArg some hk)),ae h.kr (λk hk=>h1 2 k (congrArg some hk)),λi hi=>ae (h.ke i hi) (λk hk=>h1 _ k ((GI (by omega)).trans (congrArg some hk))),h.km,λl hl x hx=>⟨(h.fm l hl x hx).1.of_eq (λk hk=>he k (mem_append_right _ (mem_flatMap.2 ⟨l,hl,mem_flatMap.2 ⟨x,hx,hk⟩⟩))),(h.fm l hl x hx).2⟩⟩
theorem ME.fd{w0:World}(h:ME w0 r RB w):∃av kv FV L,Fd w RB r av kv FV L/\(∀k∈Xa RB av kv FV L,w0.heap.size<=k)/\Below w0.heap.size w0 w:=by
 obtain⟨av,kv,FV,L,h1,h2,h3⟩:=h;refine⟨av,kv,FV,L,⟨h1.bk,h1.al,h1.kr,h1.ke,h2,λl hl x hx=>⟨(h3 l hl x hx).1,(h3 l hl x hx).2.1⟩⟩,λk hk=>?_,h1.bl⟩;rcases mem_append.1 hk with hk|hk
 .exact h1.ge k hk
 .obtain⟨l,hl,hk⟩:=mem_flatMap.1 hk;obtain⟨x,hx,hk⟩:=mem_flatMap.1 hk;exact(h3 l hl x hx).2.2 k hk
end
structure Pa(w:World)(X Q:Nat)(ws:List ByteArray)(ps:PS)(al:List cj)(vv pv nv:Value)(fv:Value)(Z:List Nat):Prop where
 bx:Bk w X 88 [abx Q,fv]
 cp:Cp w Q ws ps al vv pv nv
 fd:(fv=.pointer none/\Z=[])\/∃RB av kv FV L,fv=.pointer (some ⟨RB,0,none⟩)/\Fd w RB (ye ps.nodes ps.vars.length al) av kv FV L/\Z=Xa RB av kv FV L
 nx:X ∉ Cf Q vv pv nv/\X ∉ Z
section
variable {w w':World} {X Q:Nat} {ws:List ByteArray} {ps:PS} {al:List cj} {vv pv nv fv:Value} {Z:List Nat}
theorem Pa.of_eq(h:Pa w X Q ws ps al vv pv nv fv Z)(he:∀k,k=X\/k∈Cf Q vv pv nv\/k∈Z->w'.heap[k]?=w.heap[k]?):Pa w' X Q ws ps al vv pv nv fv Z:=by
 refine⟨h.bx.of_eq (he X (zq0 rfl)),h.cp.of_eq (λk hk=>he k (zq1 (zq0 hk))),?_,h.nx⟩;rcases h.fd with h1|⟨RB,av,kv,FV,L,h1,h2,h3⟩
 .exact zq0 h1
 .exact zq1 ⟨RB,av,kv,FV,L,h1,h2.of_eq (λk hk=>he k (zq1 (zq1 (by rw[h3];exact hk)))),h3⟩
theorem Pa.lt(h:Pa w X Q ws ps al vv pv nv fv Z):∀k,k=X\/k∈Cf Q vv pv nv\/k∈Z->k<w.heap.size:=by
 rintro k (rfl|hk|hk)
 .exact h.bx.lt
 .exact h.cp.lt k hk
 .rcases h.fd with⟨-,e⟩|⟨RB,av,kv,FV,L,-,h2,e⟩
  .rw[e]at hk;simp at hk
  .rw[e]at hk;exact h2.lt k hk
theorem Pa.below(h:Pa w X Q ws ps al vv pv nv fv Z)(hb:Below w.heap.size w w'):Pa w' X Q ws ps al vv pv nv fv Z:=h.of_eq (λk hk=>hb.block k (h.lt k hk))
def zU(w:World)(X Q:Nat)(ws:List ByteArray)(ps:PS)(al:List cj)(vv pv nv:Value)(Z:List Nat)(RB:Nat)(w':World):Prop :=
 ∃av kv FV L,Pa w' X Q ws ps al vv pv nv (.pointer (some ⟨RB,0,none⟩)) (Xa RB av kv FV L)/\Fd w' RB (ye ps.nodes ps.vars.length al) av kv FV L/\ar [X] w [X] w'/\∀k∈Xa RB av kv FV L,k∈Z\/w.heap.size<=k
theorem sT(h:Pa w X Q ws ps al vv pv nv fv Z)(hA:An ps al):
  Calls prog 60 #[.pointer (some ⟨X,0,none⟩)] w λe w'=>∃RB,e=.returned (.pointer (some ⟨RB,0,none⟩))/\zU w X Q ws ps al vv pv nv Z RB w':=by
 have c0:w.cell? ⟨X,0,none⟩=some (.pointer (some ⟨Q,0,none⟩)):=h.bx.cell 0 rfl;have c1:=h.bx.cell 1 rfl;rcases h.fd with⟨hf,hZ⟩|⟨RB,av,kv,FV,L,hf,hd,hZ⟩
 .subst hf;have Tf:=ab (Vz h.cp hA.a hA.n hA.l hA.p hA.v 4000 1000000 hA.ok);have EA:=h.bx.lt;have H:=ab h;clear h hA hZ;go_enter func60,ntmps60;go_wp2_with fail
  refine(uh Tf).mono ?_;rintro e w1 ⟨RB,rfl,hP⟩;obtain⟨av,kv,FV,L,h1,h2,h3⟩:=hP.fd;have b1:=(uh H).bx.below h3;have d1:=b1.cell 1 rfl;have z1:=b1.frz 1;have b2:=b1.set 1 (.pointer (some ⟨RB,0,none⟩));have d2:=b2.cell 1 rfl;have aH:∀k,k≠X->(w1.setCell ⟨X,1,none⟩ (.pointer (some ⟨RB,0,none⟩))).heap[k]?=w1.heap[k]?:=λk hk=>heap_setCell _ _ _ _ hk;have Xj:zU w X Q ws ps al vv pv nv Z RB (w1.setCell ⟨X,1,none⟩ (.pointer (some ⟨RB,0,none⟩))):=by
   have hZX:X ∉ Xa RB av kv FV L:=λe=>by have:=h2 X e;omega
   have pq:Fd (w1.setCell ⟨X,1,none⟩ (.pointer (some ⟨RB,0,none⟩))) RB (ye ps.nodes ps.vars.length al) av kv FV L:=h1.of_eq (λk hk=>aH k (λe=>hZX (by rw[<-e];exact hk)));refine⟨av,kv,FV,L,⟨b2,((uh H).cp.below h3).of_eq (λk hk=>aH k (λe=>(uh H).nx.1 (by rw[<-e];exact hk))),zq1 ⟨RB,av,kv,FV,L,rfl,pq,rfl⟩,(uh H).nx.1,hZX⟩,pq,((ar.ofBw (F:=[X]) h3)).setCell (p:=⟨X,1,none⟩) (zq0 (by simp)) _,λk hk=>zq1 (h2 k hk)⟩
  have HP:=ab Xj;clear hP h1 h2 h3 b1 b2 aH Xj Tf;go_wp2_with fail
  go_ret;exact⟨RB,rfl,uh HP⟩
 .subst hf;have HP:Hid (zU w X Q ws ps al vv pv nv Z RB w):=ab ⟨av,kv,FV,L,by rw[<-hZ];exact h,hd,ar.refl _ _,λk hk=>zq0 (by rw[hZ];exact hk)⟩;clear h hA hd hZ;go_enter func60,ntmps60;go_wp2_with fail
  go_ret;exact⟨RB,rfl,uh HP⟩
theorem Eh(h:Pa w X Q ws ps al vv pv nv fv Z)(hA:An ps al):
  Calls prog 33 #[.pointer (some ⟨X,0,none⟩)] w λe w'=>e=.returned (.int .i64 ((ye ps.nodes ps.vars.length al).vd:Nat))/\∃RB,zU w X Q ws ps al vv pv nv Z RB w':=by
 have HEM:=ab (pY h.bx);have Ye:Hid (∀n,Calls prog 60 #[.pointer (some ⟨X,0,none⟩)] (w.drewN n) λe w'=>∃RB,e=.returned (.pointer (some ⟨RB,0,none⟩))/\zU w X Q ws ps al vv pv nv Z RB w'):=ab (λn=>(sT (w:=w.drewN n) (h.of_eq (w':=w.drewN n) (λ_ _=>rfl)) hA).mono (by
  rintro e w' ⟨RB,he,av,kv,FV,L,p1,p2,p3,p4⟩;exact⟨RB,he,av,kv,FV,L,p1,p2,⟨p3.os,p3.tape,p3.output,p3.size,p3.block,p3.foot⟩,p4⟩))
 clear h hA;go_enter func33,ntmps33;go_wp2_with (first|(go_at_call 53;refine(uh HEM).mono ?_;rintro e w1 ⟨rfl,n,rfl⟩))
 refine(uh Ye _).mono ?_;rintro e w2 ⟨RB,rfl,hP⟩;have c0:w2.cell? ⟨RB,0,none⟩=some (.int .i64 ((ye ps.nodes ps.vars.length al).vd:Nat)):=by
  obtain⟨av,kv,FV,L,p1,p2,p3,p4⟩:=hP;exact p2.bk.cell 0 rfl
 have HP:=ab hP;clear hP;go_wp2_with fail
 go_ret;exact⟨rfl,RB,uh HP⟩
end
theorem ro{l:List UInt8}(h:mQ l=0):l.length<=240/\je l≠none/\(uL l).failed=false/\(uL l).vars.length<=4/\(uL l).hid.length<=8:=by
 unfold mQ at h;split at h
 .cases h
 .split at h
  .cases h
  .split at h
   .cases h
   .split at h
    .cases h
    .rename_i h1 h2 h3 h4;exact⟨by omega,h2,by simpa using h3,by omega,by omega⟩
theorem abE{l:List UInt8}(h:je l≠none):(qf l).length<=l.length:=by
 cases hs:je l with
 |none=>exact absurd hs h
 |some L =>
  have e:je l=some ((qf l).map (·.data.toList)):=by
   unfold qf;rw[hs];simp only[Option.getD_some,map_map];congr 1;exact(map_id' L).symm
  exact(BO e).1
def TeM(V H k i:Nat):Prop:=(k=0/\i=0)\/(k=1/\i<V)\/(k=2/\i<H)
structure CG(ws:List ByteArray)(s:PS)(M:List Nd):Prop where
 nd:s.nodes=M++[{ jV with nx:=M.length+1 }]
 go:uU s.vars.length 0 M.length M
 ln:M.length<=2*ws.length
 at_:∀a∈mD ws bu,TeM s.vars.length s.hid.length a.lk a.li/\TeM s.vars.length s.hid.length a.rk a.ri/\a.k<=4
theorem Ip{ws:List ByteArray}:∀(n:Nat) (s:PS),(jl ws n s).1.length<=n
 |0,s=>by simp[jl]
 |n+1,s=>by
  unfold jl;split
  .have:=Ip (ws:=ws) n (eJ ws s.adv);simp only[length_cons];omega
  .simp
theorem Q4{ws:List ByteArray}(h:(fA ws bu).failed=false):∃M,CG ws (fA ws bu) M:=by
 have hp:(EQ ws bu).pos=ws.length:=by
  by_cases hp:(EQ ws bu).pos=ws.length
  .exact hp
  .unfold fA at h;rw[if_neg hp]at h;cases h
 have hS:fA ws bu=EQ ws bu:=if_pos hp;rw[hS]at h ⊢;obtain⟨s1,dA⟩:∃s1,s1=aF ws fP bu:=⟨_,rfl⟩;obtain⟨s2,gT⟩:∃s2,s2=rH ws s1:=⟨_,rfl⟩;obtain⟨s3,gj⟩:∃s3,s3=cM ws (ws.length+1) s2:=⟨_,rfl⟩;have hT:EQ ws bu=ci jV s3:=by rw[gj,gT,dA];rfl
 rw[hT]at h hp ⊢;have m7:s3.failed=false:=h;have hg:=jE (ws:=ws) (ws.length+1);have mK:s2.failed=false:=hg.ok s2 (by rw[<-gj];exact m7);obtain⟨M,h1,h2,Ix,h3⟩:=Nl (ws:=ws) (ws.length+1) s2;rw[<-gj]at h1 h2 Ix h3;have xV:s2.nodes=[]:=by rw[gT,BD.nd,dA,(cR (ws:=ws) (s:=bu) fP).1];rfl
 rw[xV,nil_append]at h1;have tP:=hg.phi s2;rw[<-gj,xV,h1,y9 m7]at tP;have hpp:s3.pos=ws.length:=hp;refine⟨M,?_,?_,?_,?_⟩
 .show s3.nodes++[{ jV with nx:=s3.nodes.length+1 }]=_;rw[h1]
 .rw[xV,h1]at h3;exact h3
 .simp only[length_nil]at tP;omega
 .intro a ha;have hL:=akk (ws:=ws) (s:=s1) a (by rw[dA];exact ha);rw[<-gT]at hL;have up:∀k i,YQ s2 k i->TeM (ci jV s3).vars.length (ci jV s3).hid.length k i:=by
   intro k i ht;have e1:(ci jV s3).vars=s3.vars:=rfl;have e2:(ci jV s3).hid=s3.hid:=rfl;rw[e1,e2];rcases ht with ht|ht|ht|ht
   .rw[mK]at ht;cases ht
   .exact zq0 ht
   .exact zq1 (zq0 (by omega))
   .exact zq1 (zq1 (by omega))
  exact⟨up _ _ hL.1,up _ _ hL.2.1,hL.2.2⟩
section
variable {ws:List ByteArray} {s:PS} {M:List Nd}
theorem CG.get(h:CG ws s M)(n:Nat):(n<M.length/\∃nd,M[n]?=some nd/\s.nodes.getD n aI=nd)\/(M.length<=n/\(s.nodes.getD n aI).v=0/\(s.nodes.getD n aI).ai=0/\(s.nodes.getD n aI).op=0):=by
 rw[h.nd];by_cases hn:n<M.length
 .refine zq0 ⟨hn,M[n],getElem?_eq_getElem hn,?_⟩;rw[getD_eq_getElem?_getD,getElem?_append_left hn,getElem?_eq_getElem hn];rfl
 .refine zq1 ⟨by omega,?_⟩;rw[getD_eq_getElem?_getD,getElem?_append_right (by omega)];cases hk:n-M.length with
  |zero=>exact⟨rfl,rfl,rfl⟩
  |succ k=>exact⟨rfl,rfl,rfl⟩
theorem CG.len(h:CG ws s M):s.nodes.length=M.length+1:=by rw[h.nd,length_append];rfl
theorem lw4{L i:Nat}(h:Lw L i)(hL:L<=4):i<4:=by rcases h with h|h <;> omega
theorem CG.v4(h:CG ws s M)(hv:s.vars.length<=4)(n:Nat):(s.nodes.getD n aI).v<4/\(s.nodes.getD n aI).ai<4:=by
 rcases h.get n with⟨-,nd,h1,h2⟩|⟨-,h1,h2,-⟩
 .rw[h2];exact⟨lw4 (h.go n nd h1).1 hv,lw4 (h.go n nd h1).2.1 hv⟩
 .rw[h1,h2];omega
theorem CG.ndo(h:CG ws s M)(hv:s.vars.length<=4):sS s.nodes:=by
 refine⟨h.v4 hv,λn=>?_,λn hn h0=>?_,λn hn h0=>?_⟩
 .rcases h.get n with⟨-,nd,h1,h2⟩|⟨-,-,-,h1⟩
  .rw[h2];have:=(h.go n nd h1).2.2.1;omega
  .rw[h1];omega
 .rw[h.len];rcases h.get n with⟨-,nd,h1,h2⟩|⟨-,-,-,h1⟩
  .rw[h2];have:=(h.go n nd h1).2.2.2.1;omega
  .exact absurd h1 h0
 .rw[h.len];rcases h.get n with⟨-,nd,h1,h2⟩|⟨-,-,-,h1⟩
  .rw[h2];have:=(h.go n nd h1).2.2.2.1;omega
  .omega
theorem M4{nds:List Nd}(h:(range nds.length).any (jb nds)=false){n:Nat}(hn:n<nds.length):jb nds n=false:=by
 rw[any_eq_false]at h;have:=h n (mem_range.2 hn);simpa using this
theorem CG.fwd(h:CG ws s M)(hv:s.vars.length<=4)(hb:(range s.nodes.length).any (jb s.nodes)=false):Fwd s.nodes:=by
 refine⟨h.v4 hv,λn hn h0=>?_,λn hn h0=>?_⟩
 .have iC:=M4 hb hn;unfold jb at iC;rcases h.get n with⟨hl,nd,h1,h2⟩|⟨-,-,-,h1⟩
  .rw[h2]at iC ⊢;obtain⟨-,-,-,-,-,g1,g2⟩:=h.go n nd h1;by_cases Iw:nd.op=10
   .have h3:=g2 Iw;simp only[Iw,decide_true,Bool.true_and,decide_eq_false_iff_not]at iC;omega
   .have h3:=g1 Iw;omega
  .exact absurd h1 h0
 .rcases h.get n with⟨hl,nd,h1,h2⟩|⟨-,-,-,h1⟩
  .rw[h2]at h0 ⊢;obtain⟨-,-,-,-,g1,-⟩:=h.go n nd h1;have:=g1 h0;omega
  .exfalso;unfold xX at h0;rw[h1]at h0;simp at h0
theorem BY{V H k i:Nat}(h:TeM V H k i)(hV:V<=4)(hH:H<=8):xy k i<13/\k<=2/\i<=100:=by
 unfold xy;rcases h with⟨rfl,rfl⟩|⟨rfl,h⟩|⟨rfl,h⟩
 .simp
 .simp;omega
 .simp;omega
theorem CG.aok(h:CG ws s M)(hw:ws.length<=240)(hv:s.vars.length<=4)(hh:s.hid.length<=8):MD (mD ws bu):=by
 refine⟨λa ha=>⟨(BY (h.at_ a ha).1 hv hh).1,(BY (h.at_ a ha).2.1 hv hh).1⟩,?_,λa ha=>?_⟩
 .have h1:=Ip (ws:=ws) (ws.length+1) (eJ ws (aF ws fP bu));show(qw ws (aF ws fP bu)::(jl ws (ws.length+1) (eJ ws (aF ws fP bu))).1).length<=1000;simp only[length_cons];omega
 .have h1:=BY (h.at_ a ha).1 hv hh;have h2:=BY (h.at_ a ha).2.1 hv hh;exact⟨h1.2.1,h2.2.1,h1.2.2,h2.2.2⟩
end
theorem Po(m k i:Nat):m<=n7 m k i/\(k=2->i<n7 m k i):=by unfold n7;split <;> constructor <;> intros <;> omega
theorem Pk:∀(l:List cj) (m:Nat),m<=l.foldl (λm a=>n7 (n7 m a.lk a.li) a.rk a.ri) m/\∀a∈l,(a.lk=2->a.li<l.foldl (λm a=>n7 (n7 m a.lk a.li) a.rk a.ri) m)/\(a.rk=2->a.ri<l.foldl (λm a=>n7 (n7 m a.lk a.li) a.rk a.ri) m)
 |[],m=>⟨zq4 _,λa ha=>by simp at ha⟩
 |b::l,m=>by
  have h1:=Po m b.lk b.li;have h2:=Po (n7 m b.lk b.li) b.rk b.ri;obtain⟨h3,h4⟩:=Pk l (n7 (n7 m b.lk b.li) b.rk b.ri);rw[foldl_cons];refine⟨by omega,λa ha=>?_⟩;rcases mem_cons.1 ha with rfl|ha
  .exact⟨λe=>by have:=h1.2 e;omega,λe=>by have:=h2.2 e;omega⟩
  .exact h4 a ha
theorem aah{al:List cj}{a:cj}(ha:a∈al):(a.lk=2->a.li<yp al)/\(a.rk=2->a.ri<yp al):=(Pk al 0).2 a ha
def trS(al:List cj)(nv:Nat):List Nat:=((0::(range nv).map (1+·))++(range (yp al)).map (5+·)).map (λt=>(nA al).getD t 0)
theorem Wk(al:List cj)(nv:Nat):(trS al nv).length=1+nv+yp al:=by unfold trS;simp;omega
theorem RG{al:List cj}{V H k i:Nat}(h:TeM V H k i)(hh:k=2->i<yp al):(nA al).getD (xy k i) 0∈trS al V:=by
 unfold trS xy;refine mem_map.2 ⟨_,?_,rfl⟩;rcases h with⟨rfl,rfl⟩|⟨rfl,h⟩|⟨rfl,h⟩
 .simp
 .simp;omega
 .refine mem_append_right _ (mem_map.2 ⟨i,mem_range.2 (hh rfl),?_⟩);simp
section
variable {ws:List ByteArray} {s:PS} {M:List Nd}
theorem CG.live(h:CG ws s M)(hv:s.vars.length<=4):∀c∈bM (sX (bX (mD ws bu)) s.vars.length),c∈trS (mD ws bu) s.vars.length:=by
 intro c hc;unfold bM at hc;rcases mem_append.1 hc with hc|hc
 .have key:∀i,i<5->(sX (bX (mD ws bu)) s.vars.length).cl.getD i 0∈trS (mD ws bu) s.vars.length:=by
   intro i hi;have e:(sX (bX (mD ws bu)) s.vars.length).cl.getD i 0=if s.vars.length<i then (nA (mD ws bu)).getD 0 0 else (nA (mD ws bu)).getD i 0:=by
    unfold sX;simp only[getD_eq_getElem?_getD,getElem?_map,getElem?_range hi,Option.map_some,Option.getD_some];rw[<-getD_eq_getElem?_getD,<-getD_eq_getElem?_getD,Ia (show 0<5 by omega),Ia hi,getD_eq_getElem?_getD,getD_eq_getElem?_getD]
   rw[e];unfold trS;split
   .exact mem_map.2 ⟨0,by simp,rfl⟩
   .refine mem_map.2 ⟨i,mem_append_left _ ?_,rfl⟩;cases i with
    |zero=>simp
    |succ i=>exact mem_cons_of_mem _ (mem_map.2 ⟨i,mem_range.2 (by omega),by omega⟩)
  unfold ko at hc;simp only[mem_cons,not_mem_nil,or_false]at hc;rcases hc with rfl|rfl|rfl|rfl|rfl
  .exact key 0 (by omega)
  .exact key 1 (by omega)
  .exact key 2 (by omega)
  .exact key 3 (by omega)
  .exact key 4 (by omega)
 .obtain⟨p,hp,hc⟩:=mem_flatMap.1 hc;obtain⟨a,ha,rfl⟩:=mem_map.1 (show p∈((mD ws bu).filter (λa=>a.k==3||a.k==4)).map (jq (nA (mD ws bu))) from hp);have IB:=(mem_filter.1 ha).1;have h1:=h.at_ a IB;have h2:=aah IB;simp only[mem_cons,not_mem_nil,or_false]at hc;rcases hc with rfl|rfl
  .exact RG h1.1 h2.1
  .exact RG h1.2.1 h2.2
end
theorem LO{nds:List Nd}{nv:Nat}{al:List cj}(h:MA nds nv al=true):(range nds.length).any (jb nds)=false/\al.any (λa=>decide (a.k=4))=false/\nds.countP (λn=>decide (n.op=7\/n.op=8\/n.op=9))<=5/\nv+yp al+nds.countP (λn=>decide (n.op=4))<=8:=by
 unfold MA at h;simp only[Bool.and_eq_true,Bool.not_eq_true',decide_eq_true_eq]at h;exact⟨h.1.1.1.1.1,h.1.1.1.1.2,h.1.1.1.2,h.2⟩
theorem O8{nds:List Nd}(h:(range nds.length).any (jb nds)=false)(n:Nat):(Ml nds).getD n false=false:=by
 have key:∀(l:List Nat) (H:List Bool),(∀i∈l,jb nds i=false)->l.foldl (λh i=>if jb nds i=true then h.set (nds.getD i aI).nx true else h) H=H:=by
  intro l;induction l with
  |nil=>intro H _;rfl
  |cons i l ih =>
   intro H hl;rw[foldl_cons,if_neg (by rw[hl i (by simp)];decide)];exact ih H (λj hj=>hl j (by simp[hj]))
 unfold Ml;rw[key _ _ (λi hi=>M4 h (mem_range.1 hi)),getD_eq_getElem?_getD,getElem?_replicate];split <;> rfl
theorem IY(nds:List Nd)(n:Nat):br (nM nds) n=[]:=by
 unfold br nM;rw[getD_eq_getElem?_getD,getElem?_replicate];split <;> rfl
theorem Eg(g:Nat->List ii->Nat)(hg:∀n,g n []=0):∀(m k:Nat),tU g k (replicate m [])=0
 |0,k=>rfl
 |m+1,k=>by
  rw[replicate_succ];simp only[tU];rw[hg,Eg g hg m (k+1)]
theorem xt{α:Type}(g:α->Nat)(x:α)(hg:g x=0):∀(m:Nat),a7 g (replicate m x)=0
 |0=>rfl
 |m+1=>by
  rw[replicate_succ];simp only[a7];rw[hg,xt g x hg m]
theorem Rt(nds:List Nd):qo (nM nds):=λl hl e he=>by
 rw[eq_of_mem_replicate (show l∈replicate nds.length [] from hl)]at he;simp at he
theorem p9{a:Nat}(h:a<=9):9 ^ a<=387420489:=Nat.pow_le_pow_right (by omega) h
theorem p2{a:Nat}(h:a<=5):2 ^ a<=32:=Nat.pow_le_pow_right (by omega) h
section
variable {ws:List ByteArray} {s:PS} {M:List Nd}
theorem CG.ok(h:CG ws s M)(hw:ws.length<=240)(hv:s.vars.length<=4)(hh:s.hid.length<=8):(rE s.nodes s.vars.length (mD ws bu)).ok=true:=by
 have hA:=h.aok hw hv hh;obtain⟨al,m6⟩:∃al,al=mD ws bu:=⟨_,rfl⟩;have iw:=h.live hv;rw[<-m6]at hA iw ⊢;have dO:=h.len;have hln:=h.ln;unfold rE;obtain⟨c,hc⟩:∃c,c=mG s.nodes s.vars.length al:=⟨_,rfl⟩;have kH:c.nds=s.nodes:=by rw[hc];rfl
 rw[<-hc];cases hsi:MA s.nodes s.vars.length al with
 |true =>
  obtain⟨bB,aW,dy,nV⟩:=LO hsi;have hS:YO c:=⟨by rw[hc];exact bB,by rw[hc];show(!MA s.nodes s.vars.length al)=false;rw[hsi];rfl,by rw[hc];exact O8 bB,by rw[kH];exact h.fwd hv bB⟩;have h0:∀rest,rest<=tH->vm c 0 rest (nM s.nodes):=λrest hr=>⟨by rw[kH];exact length_replicate,λn e he=>by rw[IY]at he;simp at he,λn _ e he=>by rw[IY]at he;simp at he,λn hn=>by omega,by
   have:LU c.nds (nM s.nodes)=0:=Eg _ (λn=>rfl) _ _;omega,rfl⟩
  refine JG hS 1000000 (cu:=0) ?_ (by rw[kH];omega) (zq5 _);unfold ip;split
  .exact h0 0 (zq5 _)
  .rename_i hf;have ym:gI (bX al)=false:=(by simpa using hf);have fq:=kD (mT hA.tm ym) s.vars.length;have Di:K3 (sX (bX al) s.vars.length):=by
    intro p hp;obtain⟨a,ha,rfl⟩:=mem_map.1 (show p∈(al.filter (λa=>a.k==3||a.k==4)).map (jq (nA al)) from hp);obtain⟨ha1,ha2⟩:=mem_filter.1 ha;rw[any_eq_false]at aW;have h4:=aW a ha1;show a.k=3;simp only[Bool.or_eq_true,beq_iff_eq]at ha2;simp only[decide_eq_true_eq]at h4;omega
   have arU:aw (aQ (sX (bX al) s.vars.length))<=1+s.vars.length+yp al:=by
    have:=uA fq iw;rw[Wk]at this;exact this
   have hcN:ue IS c.nds 0=s.nodes.countP (λn=>decide (n.op=4)):=(by rw[kH];rfl);have hcT:ue xX c.nds 0=s.nodes.countP (λn=>decide (n.op=7\/n.op=8\/n.op=9)):=(by rw[kH];rfl);have wd:zZ c.nds 0 (aQ (sX (bX al) s.vars.length)):=⟨fq.tidy,Di.td,by omega⟩;have hwt:iz c.nds 0 (aQ (sX (bX al) s.vars.length))<=tH:=by
    unfold iz;have h1:=p9 wd.nm;have h2:=p2 (show ue xX c.nds 0<=5 by omega);exact zq3 (Nat.mul_le_mul h1 h2) (by unfold tH;omega)
   unfold dV;rw[if_pos (zq0 hS.lp)];exact DG hS (zq4 _) wd (h0 _ (by omega))
 |false =>
  have hb:c.bd=true:=by rw[hc];show(!MA s.nodes s.vars.length al)=true;rw[hsi];rfl
  have hV:NdV c:=by intro n;rw[kH];exact h.v4 hv n
  have he0:rW (nM s.nodes)=0:=xt (α:=List ii) List.length [] rfl s.nodes.length;have Ge:f8 (nM s.nodes)=0:=xt (α:=List ii) (λl:List ii=>l.countP (λe:ii=>!e.d)) [] rfl s.nodes.length;have K1:(nM s.nodes).lf=3000:=rfl;have h0:Gd 1152 (nM s.nodes):=⟨by rw[he0,K1];decide,by rw[K1];decide,λ_=>by rw[K1];decide,rfl⟩;unfold ip;split
  .exact GH hb hV (by omega) 1000000 (Rt _) (h0.wide (by omega)) (by rw[Ge,K1];decide) (by omega)
  .rename_i hf;have ym:gI (bX al)=false:=(by simpa using hf);have ss:=(kD (mT hA.tm ym) s.vars.length).tidy;obtain⟨g1,g2⟩:=M8 hb (fuel:=4000) (a:=c.nds.length-1) (b:=0) (by omega) (zq4 1152) (by omega) ss h0 (by rw[K1];decide);refine GH hb hV (by omega) 1000000 (M9 ss (Rt _)) (g1.wide (by omega)) ?_ (by omega);rw[Ge,K1]at g2;omega
end
theorem Ho{l:List UInt8}(h:mQ l=0):An (uL l) (mD (qf l) bu):=by
 obtain⟨h1,h2,h3,h4,h5⟩:=ro h;have hw:=abE h2;obtain⟨M,hM⟩:=Q4 (ws:=qf l) h3;have hl:=hM.len;have hln:=hM.ln;exact⟨hM.aok (by omega) h4 h5,hM.ndo h4,by show(fA (qf l) bu).nodes.length<=_;omega,by show 0<(fA (qf l) bu).nodes.length;omega,h4,hM.ok (by omega) h4 h5⟩
section
variable {c:Cd} {fuel n:Nat} {s:Sr}
theorem RZ(n k:Nat)(s:Sr):(kQ n k s).wr.length=s.wr.length:=by unfold kQ;simp
theorem GX(b:Bool)(n k:Nat)(s:Sr):(wrI b n k s).wr.length=s.wr.length:=by
 unfold wrI;split
 .exact RZ _ _ _
 .rfl
theorem I5(f:CF):(bz c n f s).wr.length=s.wr.length:=by unfold bz;split <;> rfl
theorem I2:∀(l:List CF) {s:Sr},(l.foldl (λs g=>bz c n g s) s).wr.length=s.wr.length
 |[],_=>rfl
 |f::l,s=>by rw[foldl_cons,I2 l,I5]
theorem um{β:Type}(g:List CF × Sr->β->List CF × Sr)(hg:∀r b,(g r b).2.wr=r.2.wr):∀(l:List β) (r:List CF × Sr),(l.foldl g r).2.wr=r.2.wr
 |[],_=>rfl
 |b::l,r=>by rw[foldl_cons,um g hg l,hg]
theorem Zs(r:List CF × Sr)(g:CF):(l8 c r g).2.wr=r.2.wr:=by unfold l8;split <;> rfl
theorem Zw{f:CF}{i:Nat}(r:List CF × Sr)(a:Nat):(oT c f i r a).2.wr=r.2.wr:=by
 unfold oT;split
 .exact um _ Zs _ _
 .rfl
theorem T8{f:CF}(r:List CF × Sr)(i:Nat):(eW c f r i).2.wr=r.2.wr:=um _ Zw _ _
theorem Of:∀(n k:Nat) (res:List CF) (r:List CF × Sr),(iq c n k res r).2.wr=r.2.wr
 |0,_,_,_=>rfl
 |n+1,k,res,r=>by
  unfold iq;split
  .rw[Of n];unfold ug;split
   .rfl
   .exact um _ T8 _ _
  .rfl
theorem Nc{a b:Nat}(f:CF):(dV c fuel a b f s).wr.length=s.wr.length:=by
 unfold dV;split
 .exact I5 _
 .dsimp only;rw[I2,Of];exact RZ _ _ _
theorem E9{a b:Nat}:∀(l:List CF) {s:Sr},(l.foldl (λs g=>dV c fuel a b g s) s).wr.length=s.wr.length
 |[],_=>rfl
 |f::l,s=>by rw[foldl_cons,E9 l,Nc]
theorem ab7(f:CF):(po c fuel n f s).wr.length=s.wr.length:=by
 unfold po;dsimp only;rw[E9,E9];show(wrI _ _ _ _).wr.length=_;rw[GX,GX,GX]
theorem RQ:∀(l:List CF) {s:Sr},(nO c fuel n l s).wr.length=s.wr.length
 |[],_=>rfl
 |f::l,s=>by
  unfold nO;split
  .rfl
  .rw[RQ l,ab7]
theorem Rf:∀(k:Nat) {s:Sr},(qg c fuel k s).wr.length=s.wr.length
 |0,_=>rfl
 |k+1,s=>by
  unfold qg;split
  .rfl
  .split
   .rfl
   .rw[Rf k];unfold sQ;rw[RQ]
end
theorem Hp(nds:List Nd)(nv:Nat)(al:List cj):(rE nds nv al).wr.length=nds.length:=by
 unfold rE;rw[Rf];unfold ip;split
 .exact length_replicate
 .rw[Nc];exact length_replicate
theorem Kf{ps:PS}{al:List cj}(h:An ps al):(ye ps.nodes ps.vars.length al).al.length<=1000000:=by
 unfold ye CB;split
 .exact zq5 _
 .show(Hl (rE ps.nodes ps.vars.length al).wr).length<=_;rw[<-Hk];have h1:=Ab (rE ps.nodes ps.vars.length al).wr (rE ps.nodes ps.vars.length al).wr.length;have h2:=h.l;rw[Hp]at h1 ⊢;omega
section
variable {cs:List (Int × Int)} {st:List Int} {val:Nat->Int} {f:CF}
theorem Br:∀(l:List Nat) {ms:List Nat} {c:Nat},c∈l.foldl iU ms->c∈ms\/c∈l
 |[],_,_,h=>zq0 h
 |a::l,ms,c,h=>by
  rw[foldl_cons]at h;rcases Br l h with h|h
  .unfold iU at h;split at h
   .exact zq0 h
   .rcases mem_append.1 h with h|h
    .exact zq0 h
    .rw[mem_singleton.1 h];exact zq1 (by simp)
  .exact zq1 (by simp[h])
end
theorem nR{l:List (Nat × Nat)}{i:Nat}(hi:i<l.length):(xM l)[i*2]?=some (.int .i64 (l[i].1:Int))/\(xM l)[i*2+1]?=some (.int .i64 (l[i].2:Int)):=by
 induction l generalizing i with
 |nil=>simp at hi
 |cons a l ih =>
  cases i with
  |zero=>exact⟨rfl,rfl⟩
  |succ i =>
   have:=ih (i:=i) (by simpa using hi);unfold xM at this ⊢;rw[flatMap_cons,show(i+1)*2=(i*2)+1+1 by omega,show i*2+1+1+1=(i*2+1)+1+1 by omega];exact this
theorem RD{xs:List Value}{k:Nat}{a b:Value}(h:k*2+1<xs.length):((xs.set (k*2) a).set (k*2+1) b).take ((k+1)*2)=xs.take (k*2)++[a,b]:=by
 rw[show(k+1)*2=k*2+1+1 by omega,take_add_one,take_add_one,take_set_of_le (by omega),take_set_of_le (zq4 _),getElem?_set_ne (by omega),getElem?_set_self (by omega),getElem?_set_self (by rw[length_set];exact h)];simp
section
variable {w w':World} {X Q:Nat} {ws:List ByteArray} {ps:PS} {al:List cj} {vv pv nv fv:Value} {Z:List Nat}
theorem E4(h:Pa w X Q ws ps al vv pv nv fv Z)(hA:An ps al)(hl:(ye ps.nodes ps.vars.length al).al.length<=1000000):
  Calls prog 41 #[.pointer (some ⟨X,0,none⟩)] w λe w'=>∃v,e=.returned v/\w'.ownsRow w.heap.size 82 2 v (ye ps.nodes ps.vars.length al).al.length (xM (ye ps.nodes ps.vars.length al).al)/\((ye ps.nodes ps.vars.length al).al=[]->v=.slice none 0 0)/\∃RB w1,zU w X Q ws ps al vv pv nv Z RB w1/\Below w1.heap.size w1 w':=by
 obtain⟨j0,hj0,hy0,UU,EL⟩:=info_parts infoAl;have HEM:=ab (pY h.bx);have Ye:Hid (∀n,Calls prog 60 #[.pointer (some ⟨X,0,none⟩)] (w.drewN n) λe w'=>∃RB,e=.returned (.pointer (some ⟨RB,0,none⟩))/\zU w X Q ws ps al vv pv nv Z RB w'):=ab (λn=>(sT (w:=w.drewN n) (h.of_eq (w':=w.drewN n) (λ_ _=>rfl)) hA).mono (by
  rintro e w' ⟨RB,he,av,kv,FV,L,p1,p2,p3,p4⟩;exact⟨RB,he,av,kv,FV,L,p1,p2,⟨p3.os,p3.tape,p3.output,p3.size,p3.block,p3.foot⟩,p4⟩))
 obtain⟨R,hR⟩:∃R,R=(ye ps.nodes ps.vars.length al).al:=⟨_,rfl⟩;rw[<-hR]at hl ⊢;have HR:=ab hR;clear h hA hR;go_enter func41,ntmps41;go_wp2_with (first|(go_at_call 53;refine(uh HEM).mono ?_;rintro e w1 ⟨rfl,n,rfl⟩))
 refine(uh Ye _).mono ?_;rintro e w2 ⟨RB,rfl,hP⟩;have mP:w.heap.size<=w2.heap.size:=by obtain⟨av,kv,FV,L,p1,p2,p3,p4⟩:=hP;exact p3.size
 obtain⟨av,EE,bq⟩:∃av,w2.cell? ⟨RB,1,none⟩=some av/\w2.ownsRow 0 82 2 av R.length (xM R):=by
  obtain⟨av,kv,FV,L,p1,p2,p3,p4⟩:=hP;exact⟨av,p2.bk.cell 1 rfl,by rw[uh HR];exact p2.al⟩
 obtain⟨aa,ac,kt,-,-⟩:=am bq;subst kt;have HP:=ab hP;have kj:=ab bq;clear hP bq Ye HEM;by_cases h0:R=[]
 .have d0:((R.length:Int)==(0:Int))=true:=by rw[h0];rfl
  have HE:=ab h0;clear h0;go_wp2_with fail
  go_ret;refine⟨_,rfl,?_,λ_=>rfl,RB,w2,uh HP,Below.refl _ _⟩;rw[uh HE];exact⟨rfl,.inl ⟨rfl,rfl⟩⟩
 .have d0:((R.length:Int)==(0:Int))=false:=by
   have:R.length≠0:=λe=>h0 (length_eq_zero_iff.1 e);simp;omega
  have tY:=ab h0;clear h0;go_wp2_with (at_make;refine wpList_make_full _ rfl _ _ 55 rfl w2.heap.size 82 j0 (.agg #[.int .i64 0,.int .i64 0]) 2 underlying55 hj0 hy0 UU .i64 .i64 _ _ R.length rfl rfl rfl rfl (by rw[EL];omega) (by unfold maxLen;omega) (zq4 _) ?_)
  intro w3 XE Pf;have dy:Below w2.heap.size w2 w3:=(Below.refl _ _).grown Pf (zq4 _) (λk h=>by cases h);obtain⟨b,SC⟩:∃b,b=w2.heap.size:=⟨_,rfl⟩;have PH:w3.ownsRow w2.heap.size 82 2 (.slice (some ⟨b,0,none⟩) R.length R.length) R.length (madeCells (Value.agg #[.int .i64 0,.int .i64 0]).cells (R.length*2)).toList:=by rw[SC];exact XE
  have cG:Hid (w3.ownsRow w2.heap.size 82 2 (.slice (some ⟨b,0,none⟩) R.length R.length) R.length (madeCells (Value.agg #[.int .i64 0,.int .i64 0]).cells (R.length*2)).toList/\((madeCells (Value.agg #[.int .i64 0,.int .i64 0]).cells (R.length*2)).toList).take (0*2)=xM (R.take 0)/\Below w2.heap.size w2 w3):=ab ⟨PH,by simp[xM],dy⟩;have KH:=block_lt_of_cell? w2 _ EE;rw[<-SC];have EX:=ab SC;clear XE Pf dy PH SC;go_wp2_with fail
  go_loopg [5] R.length (λgn iv wx=>∃(k:Nat) (xs:List Value),k+gn=R.length/\iv=.int .i64 k/\Hid (wx.ownsRow w2.heap.size 82 2 (.slice (some ⟨b,0,none⟩) R.length R.length) R.length xs/\xs.take (k*2)=xM (R.take k)/\Below w2.heap.size w2 wx))
  case atStart=>exact⟨0,_,by omega,rfl,cG⟩
  case round =>
   clear cG;obtain⟨k,xs,gw,rfl,hI⟩:=hrel;obtain⟨G1,zi⟩:∃G1,G1=gk:=⟨_,rfl⟩;obtain⟨h1,h2,h3⟩:=uh hI;by_cases au:k<R.length
   .have hd:decide ((k:Int)<(R.length:Int))=true:=(by simp;omega);have c1:=(h3.cell KH).trans EE;have ki:=eZ (uh kj) h3;obtain⟨g,cap,dF,-,-⟩:=b9 ki (by omega);simp only[Value.slice.injEq,true_and]at dF;obtain⟨rfl,rfl⟩:=dF;have x0:=(ki.cellAt (k*2) (by omega)).trans (nR au).1;have x1:=(ki.cellAt (k*2+1) (by omega)).trans (nR au).2;have SN:=h1.1;obtain⟨u0,y0⟩:∃u,wr.cell? ⟨b,k*2,none⟩=some u:=⟨_,(h1.cellAt (k*2) (by omega)).trans (getElem?_eq_getElem (by omega))⟩;obtain⟨u1,y1⟩:∃u,wr.cell? ⟨b,k*2+1,none⟩=some u:=⟨_,(h1.cellAt (k*2+1) (by omega)).trans (getElem?_eq_getElem (by omega))⟩;have z0:=h1.frozenAt (k*2);have z1:=h1.frozenAt (k*2+1);have aP:R.take (k+1)=R.take k++[R[k]]:=take_succ_eq_append_getElem au;obtain⟨p,hp⟩:∃p,p=R[k]:=⟨_,rfl⟩;rw[<-hp]at x0 x1 aP;have r6:=((h1.stored (k*2) (.int .i64 (p.1:Int))).1.stored (k*2+1) (.int .i64 (p.2:Int))).1;have hbw:w2.heap.size<=b:=(by rw[uh EX];exact zq4 _);have b6:=(h3.setCell (p:=⟨b,k*2,none⟩) hbw (.int .i64 (p.1:Int))).setCell (p:=⟨b,k*2+1,none⟩) hbw (.int .i64 (p.2:Int));have t6:((xs.set (k*2) (.int .i64 (p.1:Int))).set (k*2+1) (.int .i64 (p.2:Int))).take ((k+1)*2)=xM (R.take (k+1)):=by
     rw[RD (by omega),h2,aP,Hj];rfl
    have HN:=ab (zq2 r6 (zq2 t6 b6));have k1:(0:Int)<=(k:Int):=(by omega);have k2:(k:Int)<(R.length:Int):=(by omega);obtain⟨p1,p2⟩:=p;simp only at x0 x1 HN;clear h1 h2 h3 ki SN aP hp r6 hbw b6 t6 hI;go_wp2_with fail
    go_roundg (G1-1)
    case rel=>exact⟨k+1,_,by omega,by go_num,HN⟩
    case measure=>omega
   .have hd:decide ((k:Int)<(R.length:Int))=false:=(by simp;omega);have hxs:xs=xM R:=by
     have h4:=h2;rw[take_of_length_le (by rw[h1.1];omega),take_of_length_le (by omega)]at h4;exact h4
    have HN:=ab (zq2 (show wr.ownsRow w2.heap.size 82 2 (.slice (some ⟨b,0,none⟩) R.length R.length) R.length (xM R) by rw[<-hxs];exact h1) h3);clear h1 h2 h3 hI hxs;go_wp2_with fail
    go_ret;exact⟨_,rfl,dZ (uh HN).1 mP,λe=>absurd e (uh tY),RB,w2,uh HP,(uh HN).2⟩
end
theorem aeA(x y:List UInt8):(⟨x.toArray⟩++⟨y.toArray⟩:ByteArray)=⟨(x++y).toArray⟩:=by apply ByteArray.ext;simp[ByteArray.data_append]
def vu(ws:List ByteArray):Rs:=ye (fA ws bu).nodes (fA ws bu).vars.length (mD ws bu)
def SW(ws:List ByteArray):Prop:=An (fA ws bu) (mD ws bu)
def vj(w:World)(X:Nat)(ws:List ByteArray)(G:List Nat):Prop :=
 ∃Q vv pv nv fv Z,Pa w X Q ws (fA ws bu) (mD ws bu) vv pv nv fv Z/\G=X::(Cf Q vv pv nv++Z)
section
variable {w w':World} {X:Nat} {ws:List ByteArray} {G:List Nat}
theorem vj.of_eq(h:vj w X ws G)(he:∀k∈G,w'.heap[k]?=w.heap[k]?):vj w' X ws G:=by
 obtain⟨Q,vv,pv,nv,fv,Z,h1,rfl⟩:=h;refine⟨Q,vv,pv,nv,fv,Z,h1.of_eq (λk hk=>he k ?_),rfl⟩;rcases hk with rfl|hk|hk
 .exact mem_cons_self
 .exact mem_cons_of_mem _ (mem_append_left _ hk)
 .exact mem_cons_of_mem _ (mem_append_right _ hk)
theorem vj.lt(h:vj w X ws G):∀k∈G,k<w.heap.size:=by
 obtain⟨Q,vv,pv,nv,fv,Z,h1,rfl⟩:=h;intro k hk;refine h1.lt k ?_;rcases mem_cons.1 hk with rfl|hk
 .exact zq0 rfl
 .rcases mem_append.1 hk with hk|hk
  .exact zq1 (zq0 hk)
  .exact zq1 (zq1 hk)
theorem vj.mem(h:vj w X ws G):X∈G:=by
 obtain⟨Q,vv,pv,nv,fv,Z,h1,rfl⟩:=h;exact mem_cons_self
theorem vj.below(h:vj w X ws G)(hb:Below w.heap.size w w'):vj w' X ws G:=h.of_eq (λk hk=>hb.block k (h.lt k hk))
theorem IsL.prg{B:Nat}(h:IsL B w X ws (fA ws bu) (mD ws bu)):∃G,vj w X ws G/\∀k∈G,B<=k:=by
 obtain⟨Q,h0,hB,h1⟩:=h;obtain⟨vv,pv,nv,hC,cX⟩:=h1.cp;have cf:Bk w X 88 [abx Q,.pointer none]:=h0;have bq:∀{e sz n:Nat} {v:Value} {xs:List Value},w.ownsRow 0 e sz v n xs->e≠88->∀k,v.ownBlock=some k->X≠k:=by
  intro e sz n v xs hr aH k hk hXk;rcases hr.2 with⟨rfl,-⟩|⟨g,cap,cur,rfl,-,hg,-⟩
  .cases hk
  .have e1:g=k:=(by injection hk);rw[e1,<-hXk]at hg;unfold Bk at cf;rw[cf]at hg;injection hg with hg;injection hg with _ hg;exact aH hg.symm
 have hPa:Pa w X Q ws (fA ws bu) (mD ws bu) vv pv nv (.pointer none) []:=by
  refine⟨cf,hC,zq0 ⟨rfl,rfl⟩,λhm=>?_,by simp⟩;simp only[Cf,mem_cons,mem_append,Option.mem_toList]at hm;rcases hm with rfl|hm|hm|hm
  .have h2:=hC.bk;unfold Bk at h2 cf;rw[h2]at cf;injection cf with cf;injection cf with _ cf;revert cf;decide
  .exact bq hC.vr (by decide) X hm rfl
  .exact bq hC.pr (by decide) X hm rfl
  .exact bq hC.nr (by decide) X hm rfl
 refine⟨_,⟨Q,vv,pv,nv,_,[],hPa,rfl⟩,λk hk=>?_⟩;rcases mem_cons.1 hk with rfl|hk
 .exact hB
 .rw[append_nil]at hk;exact cX k hk
structure Ask(w:World)(X:Nat)(ws:List ByteArray)(G G':List Nat)(w':World):Prop where
 pg:vj w' X ws G'
 st:ar [X] w [X] w'
 gr:∀k∈G',k∈G\/w.heap.size<=k
theorem zU.ask{Q RB:Nat}{vv pv nv:Value}{Z:List Nat}{w1:World}(hG:G=X::(Cf Q vv pv nv++Z))(h:zU w X Q ws (fA ws bu) (mD ws bu) vv pv nv Z RB w1)(hb:Below w1.heap.size w1 w'):∃G',Ask w X ws G G' w':=by
 obtain⟨av,kv,FV,L,h1,-,h3,h4⟩:=h;refine⟨X::(Cf Q vv pv nv++Xa RB av kv FV L),⟨Q,vv,pv,nv,_,_,h1.below hb,rfl⟩,⟨hb.os.trans h3.os,hb.tape.trans h3.tape,hb.output.trans h3.output,zq3 h3.size hb.size,λk hk hX=>(hb.block k (zq6 hk h3.size)).trans (h3.block k hk hX),λk hk=>zq0 hk⟩,λk hk=>?_⟩;rw[hG];rcases mem_cons.1 hk with rfl|hk
 .exact zq0 mem_cons_self
 .rcases mem_append.1 hk with hk|hk
  .exact zq0 (mem_cons_of_mem _ (mem_append_left _ hk))
  .rcases h4 k hk with hk|hk
   .exact zq0 (mem_cons_of_mem _ (mem_append_right _ hk))
   .exact zq1 hk
theorem vj.verdict(h:vj w X ws G)(hA:SW ws):Calls prog 33 #[.pointer (some ⟨X,0,none⟩)] w λe w'=>e=.returned (.int .i64 ((vu ws).vd:Nat))/\∃G',Ask w X ws G G' w':=by
 obtain⟨Q,vv,pv,nv,fv,Z,h1,hG⟩:=h;refine(Eh h1 hA).mono ?_;rintro e w1 ⟨rfl,RB,hP⟩;exact⟨rfl,hP.ask hG (Below.refl _ _)⟩
theorem vj.alarms(h:vj w X ws G)(hA:SW ws):Calls prog 41 #[.pointer (some ⟨X,0,none⟩)] w λe w'=>∃v,e=.returned v/\w'.ownsRow w.heap.size 82 2 v (vu ws).al.length (xM (vu ws).al)/\((vu ws).al=[]->v=.slice none 0 0)/\∃G',Ask w X ws G G' w':=by
 obtain⟨Q,vv,pv,nv,fv,Z,h1,hG⟩:=h;refine(E4 h1 hA (Kf hA)).mono ?_;rintro e w2 ⟨v,rfl,g1,g2,RB,w1,hP,hb⟩;exact⟨v,rfl,g1,g2,hP.ask hG hb⟩
theorem vj.nodes(h:vj w X ws G):Calls prog 29 #[.pointer (some ⟨X,0,none⟩)] w λe w'=>e=.returned (.int .i64 (fA ws bu).nodes.length)/\∃n,w'=w.drewN n:=by
 obtain⟨Q,vv,pv,nv,fv,Z,h1,-⟩:=h;have HE:=ab (pY h1.bx);have c0:w.cell? ⟨X,0,none⟩=some (.pointer (some ⟨Q,0,none⟩)):=h1.bx.cell 0 rfl;have q0:=h1.cp.bk.cell 3 rfl;obtain⟨aa,ac,kt,-,-⟩:=am h1.cp.nr;subst kt;clear h1;go_enter func29,ntmps29;go_wp2_with (go_at_call 53;refine(uh HE).mono ?_;rintro e w' ⟨rfl,n,rfl⟩)
 go_ret;exact⟨rfl,_,rfl⟩
end
def Dsk(w:World)(Y X:Nat)(s:ByteArray):Prop:=Bk w Y 36 [.pointer (some ⟨X,0,none⟩),.string s,.slice none 0 0,.slice none 0 0]
theorem NM(s:ByteArray)(w:World):Calls prog 16 #[.string s] w λe w'=>Below w.heap.size w w'/\(((240<s.size\/mQ s.data.toList≠0)/\e=.returned (.tuple #[.pointer none,.bool true])) \/
  (s.size<=240/\mQ s.data.toList=0/\∃Y X G,e=.returned (.tuple #[.pointer (some ⟨Y,0,none⟩),.bool true])/\Dsk w' Y X s/\w.heap.size<=Y/\Y ∉ G/\vj w' X (qf s.data.toList) G/\∀k∈G,w.heap.size<=k)):=by
 by_cases hl:240<s.size
 .have d0:decide ((240:Int)<(s.size:Int))=true:=by simp;omega
  go_enter func16,ntmps16;go_wp2_with fail
  go_ret2;exact⟨Below.refl _ _,zq0 ⟨zq0 hl,rfl⟩⟩
 .have d0:decide ((240:Int)<(s.size:Int))=false:=by simp;omega
  have HLD:=ab (DH s w (by omega));go_enter func16,ntmps16;go_wp2_with fail
  refine(uh HLD).mono ?_;rintro e w1 ⟨hb,⟨aH,rfl⟩|⟨h0,X,rfl,hL⟩⟩
  .have d1:((mQ s.data.toList:Int)==0)=false:=(by simp;omega);obtain⟨z,hz⟩:∃z,z=mQ s.data.toList:=⟨_,rfl⟩;rw[<-hz]at d1 aH ⊢;have HB:=ab hb;have HZ:=ab hz;clear hb HLD hz;go_wp2_with fail
   go_ret2;have gz:((z:Int) != 0)=true:=(by simp;omega);exact⟨uh HB,zq0 ⟨zq1 (by rw[<-uh HZ];exact aH),by rw[<-gz];rfl⟩⟩
  .obtain⟨G,hG,cX⟩:=IsL.prg (show IsL w.heap.size w1 X (qf s.data.toList) (fA (qf s.data.toList) bu) (mD (qf s.data.toList) bu) from hL);have HN:Hid (Below w.heap.size w (w1.alloc (.cells #[.pointer (some ⟨X,0,none⟩),.string s,.slice none 0 0,.slice none 0 0] 36))/\Dsk (w1.alloc (.cells #[.pointer (some ⟨X,0,none⟩),.string s,.slice none 0 0,.slice none 0 0] 36)) w1.heap.size X s/\w.heap.size<=w1.heap.size/\w1.heap.size ∉ G/\vj (w1.alloc (.cells #[.pointer (some ⟨X,0,none⟩),.string s,.slice none 0 0,.slice none 0 0] 36)) X (qf s.data.toList) G/\∀k∈G,w.heap.size<=k):=ab ⟨hb.trans ((ah w1 _).mono hb.size),Bk.new w1 _ _,hb.size,λhm=>by have:=hG.lt _ hm;omega,hG.below (ah w1 _),cX⟩;have H0:=ab h0;clear hb hL hG cX HLD h0;go_wp2_with fail
   go_ret2;exact⟨(uh HN).1,zq1 ⟨by omega,uh H0,_,X,G,rfl,(uh HN).2⟩⟩
