import Derived.Test.YtciihepbeacppaaGreatIE
set_option maxRecDepth 100000
set_option maxHeartbeats 0
namespace Go.Proofs.YtciihepbeacppaaGreat
open Tryz Go.RowKit List World Below
set_option linter.unusedVariables false
def sD(s:Sr):Prop:=∀l∈s.kn,l.length<=q8+1
theorem Fz{c:Cd}{n:Nat}{f:CF}{s:Sr}(h:sD s)(bE:(bq c n f s).ok=true):sD (bq c n f s):=by
 have hb:=(my bE).2;unfold bq;split
 .exact h
 .show ∀l∈s.kn.set n ((bf s n).filter (λe=>!Cm e.f (cG c n f))++[⟨cG c n f,false⟩]),l.length<=q8+1;intro l hl;rcases mem_or_eq_of_mem_set hl with p|p
  .exact h l p
  .rw[p,length_append,length_singleton];have:=length_filter_le (λe=>!Cm e.f (cG c n f)) (bf s n);omega
theorem Fv{c:Cd}{n:Nat}:∀(l:List CF) {s:Sr},sD s->(l.foldl (λs g=>bq c n g s) s).ok=true->sD (l.foldl (λs g=>bq c n g s) s)
 |[],_,h,_=>h
 |_::l,_,h,bE=>Fv l (Fz h (jR l bE)) bE
theorem JS{c:Cd}{fuel a b:Nat}{f:CF}{s:Sr}(hf:Td f)(h:sD s)(bE:(cZ c fuel a b f s).ok=true):sD (cZ c fuel a b f s):=by
 unfold cZ at bE ⊢;split
 .rename_i hc;rw[if_pos hc]at bE;exact Fz h bE
 .rename_i hc;rw[if_neg hc]at bE;have h1:cy [f]:=λx hx=>by rw[mem_singleton]at hx;subst hx;exact hf
  obtain⟨-,g2,-⟩:=lD (c:=c) fuel 0 (r:=([f],gV a 2 s)) (res:=[]) h1 (λx hx=>by simp at hx);refine Fv _ ?_ bE;unfold sD;rw[g2];exact h
theorem Cz{c:Cd}{fuel a b:Nat}:∀(l:List CF) {s:Sr},cy l->sD s->(l.foldl (λs g=>cZ c fuel a b g s) s).ok=true->sD (l.foldl (λs g=>cZ c fuel a b g s) s)
 |[],_,_,h,_=>h
 |g::l,_,hl,h,bE=>Cz l (λx hx=>hl x (by simp[hx])) (JS (hl g (by simp)) h (gC l bE)) bE
theorem Yv{c:Cd}{fuel n:Nat}{f:CF}{s:Sr}(hv:(c.nds.getD n aK).v<4)(ha:(c.nds.getD n aK).ai<4)(hf:Td f)(h:sD s)(bE:(mf c fuel n f s).ok=true):sD (mf c fuel n f s):=by
 obtain⟨h1,h2⟩:=lB hv ha hf;unfold mf at bE ⊢;simp only at bE ⊢;refine Cz _ h2 (Cz _ h1 ?_ (gC _ bE)) bE;unfold sD;show ∀l∈(wrI _ n 4 (wrI _ n 3 (wrI _ n 2 s))).kn,_;rw[n9,n9,n9];exact h
theorem Oh{c:Cd}{fuel n:Nat}(hv:(c.nds.getD n aK).v<4)(ha:(c.nds.getD n aK).ai<4):∀(l:List CF) {s:Sr},cy l->sD s->(mg c fuel n l s).ok=true->sD (mg c fuel n l s)
 |[],_,_,h,_=>h
 |f::l,s,hl,h,bE=>by
  unfold mg at bE ⊢;split
  .exact h
  .rename_i hc;rw[if_neg hc]at bE;exact Oh hv ha l (λx hx=>hl x (by simp[hx])) (Yv hv ha (hl f (by simp)) h (pJ l bE)) bE
theorem YC{c:Cd}{fuel n:Nat}(hv:(c.nds.getD n aK).v<4)(ha:(c.nds.getD n aK).ai<4){s:Sr}(hi:pK s)(h:sD s)(bE:(mZ c fuel n s).ok=true):sD (mZ c fuel n s):=by
 unfold mZ at bE ⊢;refine Oh hv ha _ (λf hf=>?_) ?_ bE
 .unfold lH at hf;obtain⟨e,he,rfl⟩:=mem_map.1 hf;exact hi.at n e (mem_filter.1 he).1
 .show ∀l∈s.kn.set n _,l.length<=q8+1;intro l hl;rcases mem_or_eq_of_mem_set hl with p|p
  .exact h l p
  .rw[p,length_map];unfold bf;by_cases hn:n<s.kn.length
   .rw[bC hn];exact h _ (getElem_mem hn)
   .rw[getD_eq_getElem?_getD,getElem?_eq_none (by omega)];exact zq5 _
theorem Ok{c:Cd}{fuel n:Nat}{s:Sr}(bE:(mZ c fuel n s).ok=true):s.ok=true:=by
 unfold mZ at bE;have h1:=pJ _ bE;exact h1
theorem uc{c:Cd}{fuel:Nat}:∀(n:Nat) {s:Sr},(jY c fuel n s).ok=true->s.ok=true
 |0,_,h=>by simp[jY]at h
 |n+1,s,h=>by
  unfold jY at h;split at h
  .exact h
  .split at h
   .exact h
   .exact Ok (uc n h)
theorem sD.at{s:Sr}(h:sD s)(n:Nat):(bf s n).length<=q8+1:=by
 unfold bf;by_cases hn:n<s.kn.length
 .rw[bC hn];exact h _ (getElem_mem hn)
 .rw[getD_eq_getElem?_getD,getElem?_eq_none (by omega)];exact zq5 _
section
variable {w W W':World} {S:Nat} {c:Cd} {c0 hv kv wv:Value} {KV WV:List Value} {K:List (List En)} {s:Sr}
theorem Sh.inS(h:Sh w S c c0 hv kv wv KV WV K s):pK s:=by
 intro l hl e he;rw[h.km]at hl;obtain⟨l0,h0,rfl⟩:=mem_map.1 hl;obtain⟨e0,h1,rfl⟩:=mem_map.1 he;exact(h.dr l0 h0 e0 h1).2
theorem Sh.kb(h:Sh w S c c0 hv kv wv KV WV K s)(hb:sD s):∀l∈K,l.length<=q8+1:=λl hl=>by
 have:=hb (l.map En.m) (by rw[h.km];exact mem_map_of_mem hl);rw[length_map]at this;exact this
theorem gb.low{F F' D D':List Nat}(h:gb W W' F F' D D' [])(hb:Below w.heap.size w W)(hF:∀k∈F,w.heap.size<=k):Below w.heap.size w W' :=
 ⟨h.st.os.trans hb.os,h.st.tape.trans hb.tape,h.st.output.trans hb.output,zq3 hb.size h.st.size,λk hk=>(h.st.block k (zq6 hk hb.size) (λe=>by
  rw[append_nil]at e;have:=hF k e;omega)).trans (hb.block k hk)⟩
theorem Rz.from{RB vd:Nat}{av kv:Value}{al:List (Nat × Nat)}{FV:List Value}{L:List (List FE)}(h:Rz W W' RB vd av kv al FV L)(hb:Below w.heap.size w W):Rz w W' RB vd av kv al FV L :=
 ⟨h.bk,h.al,h.kr,h.ke,h.ap,λk hk=>zq3 hb.size (h.ge k hk),hb.trans (h.bl.mono hb.size)⟩
end
def Jr(w:World)(r:Rs)(RB:Nat)(w':World):Prop:=∃av kv FV L,Rz w w' RB r.vd av kv r.al FV L/\L.map (λl=>l.map (λx=>x.f))=r.kn/\∀l∈L,∀x∈l,dT w' x.A x.f x.av x.ov/\Td x.f/\∀k∈x.bs,w.heap.size<=k
section
variable {w:World} {Q:Nat} {ws:List ByteArray} {ps:PS} {al:List cf} {vv pv nv:Value}
theorem RH (h:Cp w Q ws ps al vv pv nv) (hA:YL al) (hN:sE ps.nodes) (iN:ps.nodes.length<=100000) (qj:0<ps.nodes.length) (Dp:ps.vars.length<=4) (fuel N:Nat)
  (bE:(jY (Ey ps.nodes ps.vars.length al) fuel N (fT (Ey ps.nodes ps.vars.length al) fuel ps.vars.length al (md ps.nodes))).ok=true) :
  Calls prog 92 #[.pointer (some ⟨Q,0,none⟩)] w λe w'=>∃RB,e=.returned (.pointer (some ⟨RB,0,none⟩))/\Jr w (Ck (jY (Ey ps.nodes ps.vars.length al) fuel N (fT (Ey ps.nodes ps.vars.length al) fuel ps.vars.length al (md ps.nodes)))) RB w':=by
 obtain⟨c,hc⟩:∃c,c=Ey ps.nodes ps.vars.length al:=⟨_,rfl⟩;have je:c.nds=ps.nodes:=by rw[hc];rfl
 rw[<-hc]at bE ⊢;obtain⟨R,hR⟩:∃R,R=jY c fuel N (fT c fuel ps.vars.length al (md ps.nodes)):=⟨_,rfl⟩;rw[<-hR]at bE ⊢;have Cq:=ab (JX h hA iN (by omega));rw[<-hc]at Cq;have H:=ab h;have HA:=ab (zq2 hA (zq2 hN je));have HR:=ab hR;have kQ:=ab bE;obtain⟨dP,df⟩:∃dP:Nat->World->Prop,dP=λRB w'=>Jr w (Ck R) RB w':=⟨_,rfl⟩;have fD:=ab df;rw[show(fun(e:Ending) (w':World)=>∃RB,e=.returned (.pointer (some ⟨RB,0,none⟩))/\Jr w (Ck R) RB w')=(λe w'=>∃RB,e=.returned (.pointer (some ⟨RB,0,none⟩))/\dP RB w') by rw[df]];clear h hA hN hc je hR bE df;go_enter func92,ntmps92;go_wp2_with fail
 refine(uh Cq).mono ?_;rintro e w1 ⟨S,rfl,hv,kv,wv,WV,bN,bB,acb⟩;have B0:=(uh H).below bB;have vj:(replicate ps.nodes.length ([]:List En)).length=ps.nodes.length:=length_replicate;have Mf:(fT c fuel ps.vars.length al (md ps.nodes)).ok=true:=uc N (by rw[<-uh HR];exact uh kQ);have Jw:=ab (KC (fuel:=fuel) bN B0 (uh HA).2.2 (uh HA).1 Dp (by rw[vj];exact qj) (by rw[vj];exact iN) Mf);have H1:=ab (zq2 bN (zq2 bB (zq2 acb B0)));have acq:sD (fT c fuel ps.vars.length al (md ps.nodes)):=by
  have h0:sD (md ps.nodes):=λl hl=>by
   have:l=[]:=eq_of_mem_replicate (show l∈replicate ps.nodes.length [] from hl);rw[this];exact zq5 _
  unfold fT at Mf ⊢;split
  .exact h0
  .rename_i hf;rw[if_neg hf]at Mf;exact JS (oC (sL (uh HA).1.tm (by simpa using hf)) _).tidy h0 Mf
 have HKB:=ab acq;clear bN bB acb B0 Mf Cq acq;go_wp2_with fail
 refine(uh Jw).mono ?_;rintro e w2 ⟨rfl,q7,K2,p1,p2,p3⟩;rw[vj]at p2;have HPE:=ab (tT p1 (by omega));have H2:=ab (zq2 p1 (zq2 p2 p3));clear p1 p2 p3 Jw;go_wp2_with fail
 refine(uh HPE).mono ?_;rintro e w3 ⟨rfl,cU⟩;have cd:Hid (Sh w3 S c (.pointer (some ⟨Q,0,none⟩)) hv kv wv q7 WV K2 (fT c fuel ps.vars.length al (md ps.nodes))/\K2.length=ps.nodes.length/\gb w1 w3 (cL S hv kv wv (replicate ps.nodes.length aH) WV) (cL S hv kv wv q7 WV) (dK (replicate ps.nodes.length [])) (dK K2) []/\sD (fT c fuel ps.vars.length al (md ps.nodes))/\jY c fuel N (fT c fuel ps.vars.length al (md ps.nodes))=R):=ab ⟨(uh H2).1.below cU,(uh H2).2.1,(uh H2).2.2.trans (gb.below (X:=[]) cU) (λk hk=>by simp at hk),uh HKB,(uh HR).symm⟩;clear cU HPE H2 HKB HR;go_wp2_with fail
 go_loopg [4] N (λgn iv wx=>∃(KV:List Value) (K:List (List En)) (s':Sr),iv=.int .i64 (eK (rq s'))/\Hid (Sh wx S c (.pointer (some ⟨Q,0,none⟩)) hv kv wv KV WV K s'/\K.length=ps.nodes.length/\gb w1 wx (cL S hv kv wv (replicate ps.nodes.length aH) WV) (cL S hv kv wv KV WV) (dK (replicate ps.nodes.length [])) (dK K) []/\sD s'/\jY c fuel gn s'=R))
 case atStart=>exact⟨q7,K2,_,rfl,cd⟩
 case round =>
  clear cd;obtain⟨KV,K,s',rfl,hI⟩:=hrel;obtain⟨h1,h2,h3,h4,h5⟩:=uh hI;have c8:=h1.bs.cell 8 rfl;have TF:Cp wr Q ws ps al vv pv nv/\∀k∈zy Q vv pv nv,k ∉ cL S hv kv wv KV WV:=by
   have gE:=h3.low (uh H1).2.1 (uh H1).2.2.1;refine⟨(uh H).below gE,λk hk e=>?_⟩;have LY:=(uh H).lt k hk;rcases h3.st.foot k e with p|p
   .rw[append_nil]at p;have:=(uh H1).2.2.1 k p;omega
   .have:=(uh H1).2.1.size;omega
  have Jx:Hid (s'=R->Calls prog 143 #[.pointer (some ⟨S,0,none⟩)] wr λe w'=>∃RB,e=.returned (.pointer (some ⟨RB,0,none⟩))/\dP RB w'):=ab (λe=>(IK h1 (by omega) (h1.kb h4)).mono (λe2 w' hp=>by
   obtain⟨RB,rQ,av,kv',FV,L,ja,hr3,zG⟩:=hp;refine⟨RB,rQ,?_⟩;have gE:=h3.low (uh H1).2.1 (uh H1).2.2.1;rw[uh fD,<-e];refine⟨av,kv',FV,L,ja.from gE,hr3,λl hl x hx=>?_⟩;obtain⟨l0,h0,e0,he0,rfl⟩:=zG l hl x hx;have acL:=h1.dr l0 h0 e0 he0;refine⟨(acL.1.below ja.bl).ff,acL.2,λk hk=>?_⟩;have hkd:k∈dK K:=bt.2 ⟨l0,h0,e0,he0,mem_cons_of_mem _ hk⟩;rcases h3.dr k hkd with p|p|p
   .obtain⟨l2,EX,e2,he2,-⟩:=bt.1 p;rw[eq_of_mem_replicate EX]at he2;simp at he2
   .simp at p
   .exact zq3 (uh H1).2.1.size p))
  cases gk with
  |zero =>
   have Jk:=uh kQ;rw[<-h5]at Jk;simp[jY]at Jk
  |succ g =>
   unfold jY at h5;cases hp:rq s' with
   |none =>
    rw[hp]at h5;have HE:=ab (uh Jx h5);rw[show eK (none:Option Nat)=-1 from rfl];clear h1 h2 h3 h4 h5 TF hp hI Jx;go_wp2_with fail
    refine(uh HE).mono ?_;rintro e w5 ⟨RB,rfl,hP⟩;have HP:=ab hP;clear hP HE;go_wp2_with fail
    go_ret;exact⟨RB,rfl,uh HP⟩
   |some k =>
    rw[hp]at h5;rw[show eK (some k)=(k:Int) from rfl];cases eJ:s'.fu
    .rw[eJ]at c8;simp only[eJ]at h5;rw[if_neg (by decide)]at h5;have jz:k<K.length:=by
      unfold rq at hp;rw[findIdx?_eq_some_iff_getElem]at hp;obtain⟨h9,-⟩:=hp;rw[h1.km,length_map]at h9;exact h9
     have WJ:(mZ c fuel k s').ok=true:=uc g (by rw[h5];exact uh kQ);have Xb:(c.nds.getD k aK).v<4/\(c.nds.getD k aK).ai<4:=(by rw[(uh HA).2.2];exact(uh HA).2.1.v k);have hNc:sE c.nds:=(by rw[(uh HA).2.2];exact(uh HA).2.1);have HVI:=ab (On (fuel:=fuel) h1 TF.1 TF.2 (uh HA).2.2 hNc jz (by omega) WJ (h4.at k));have aah:=ab (YC Xb.1 Xb.2 h1.inS h4 WJ);have HI:=ab (zq2 h2 (zq2 h3 h5));have hg0:decide ((0:Int)<=(k:Int))=true:=(by simp);clear h1 h2 h3 h4 h5 TF hp hI Jx jz WJ Xb hNc eJ;go_wp2_with fail
     refine(uh HVI).mono ?_;rintro e w5 ⟨rfl,UW,K3,p1,p2,p3⟩;obtain⟨h2,h3,h5⟩:=uh HI;have hK3:=p2.trans h2;have HPE:=ab (tT p1 (by omega));have H5:=ab (zq2 p1 (zq2 hK3 (zq2 (h3.trans p3 (λk hk=>by simp at hk)) (zq2 (uh aah) h5))));clear p1 p2 p3 h2 h3 h5 hK3 HVI aah HI c8;go_wp2_with fail
     refine(uh HPE).mono ?_;rintro e w6 ⟨rfl,jx⟩;have HN:=ab (zq2 ((uh H5).1.below jx) (zq2 (uh H5).2.1 (zq2 ((uh H5).2.2.1.trans (gb.below (X:=[]) jx) (λk hk=>by simp at hk)) (uh H5).2.2.2)));clear jx HPE H5;go_wp2_with fail
     go_roundg g
     case rel=>exact⟨UW,K3,_,rfl,HN⟩
     case measure=>omega
    .rw[eJ]at c8;simp only[eJ,if_true]at h5;have HE:=ab (uh Jx h5);have hg0:decide ((0:Int)<=(k:Int))=true:=(by simp);clear h1 h2 h3 h4 h5 TF hp hI Jx eJ;go_wp2_with fail
     refine(uh HE).mono ?_;rintro e w5 ⟨RB,rfl,hP⟩;have HP:=ab hP;clear hP HE;go_wp2_with fail
     go_ret;exact⟨RB,rfl,uh HP⟩
end
section
variable {w:World} {X Q:Nat} {ws:List ByteArray} {s:PS} {al:List cf} {vv pv nv sv0 lv fv:Value} {st ls:List Int}
theorem nQ(hX:Bk w X 88 [X0 Q,fv]):Calls prog 53 #[.pointer (some ⟨X,0,none⟩)] w λe w'=>e=.returned (.bool false)/\∃n,w'=w.drewN n:=by
 have c0:w.cell? ⟨X,0,none⟩=some (.pointer (some ⟨Q,0,none⟩)):=hX.cell 0 rfl;clear hX;go_enter func53,ntmps53;go_wp2_with fail
 go_ret;exact⟨rfl,0,rfl⟩
end
def vT(nds:List Nd)(nv:Nat)(al:List cf):Sr:=jY (Ey nds nv al) 4000 1000000 (fT (Ey nds nv al) 4000 nv al (md nds))
def zT(nds:List Nd)(nv:Nat)(al:List cf):Rs:=Ck (vT nds nv al)
structure An(ps:PS)(al:List cf):Prop where
 a:YL al
 n:sE ps.nodes
 l:ps.nodes.length<=100000
 p:0<ps.nodes.length
 v:ps.vars.length<=4
 ok:(vT ps.nodes ps.vars.length al).ok=true
structure Fd(W:World)(RB:Nat)(r:Rs)(av kv:Value)(FV:List Value)(L:List (List FE)):Prop where
 bk:Bk W RB 118 [.int .i64 (r.vd:Int),av,kv]
 al:W.ownsRow 0 82 2 av r.al.length (vP r.al)
 kr:W.ownsRow 0 125 1 kv L.length FV
 ke:∀i,i<L.length->W.ownsRow 0 126 1 (FV.getD i aH) (L.getD i []).length ((L.getD i []).map FE.p)
 km:L.map (λl=>l.map (λx=>x.f))=r.kn
 fm:∀l∈L,∀x∈l,dT W x.A x.f x.av x.ov/\Td x.f
def Tk(RB:Nat)(av kv:Value)(FV:List Value)(L:List (List FE)):List Nat:=Qh (rt RB av kv FV)++L.flatMap (λl=>l.flatMap FE.bs)
section
variable {w w':World} {RB:Nat} {r:Rs} {av kv:Value} {FV:List Value} {L:List (List FE)}
theorem Fd.fl(h:Fd w RB r av kv FV L):FV.length=L.length:=by have:=h.kr.1;omega
theorem Fd.lt(h:Fd w RB r av kv FV L):∀k∈Tk RB av kv FV L,k<w.heap.size:=by
 intro k hk;rcases mem_append.1 hk with hk|hk
 .obtain⟨i,hi⟩:=aU.1 hk;rcases wZ hi with⟨-,rfl⟩|⟨-,e⟩|⟨-,e⟩|⟨j,hj,-,e⟩
  .exact h.bk.lt
  .exact(h.al.lt k e).2
  .exact(h.kr.lt k e).2
  .exact((h.ke j (by rw[<-h.fl];exact hj)).lt k e).2
 .obtain⟨l,hl,hk⟩:=mem_flatMap.1 hk;obtain⟨x,hx,hk⟩:=mem_flatMap.1 hk;exact(h.fm l hl x hx).1.lt k hk
theorem Fd.of_eq(h:Fd w RB r av kv FV L)(he:∀k∈Tk RB av kv FV L,w'.heap[k]?=w.heap[k]?):Fd w' RB r av kv FV L:=by
 have hf:=h.fl;have h1:∀i k,(rt RB av kv FV)[i]?=some (some k)->w'.heap[k]?=w.heap[k]?:=λi k hi=>he k (mem_append_left _ (aU.2 ⟨i,hi⟩));exact⟨h.bk.of_eq (h1 0 RB rfl),ae h.al (λk hk=>h1 1 k (congrArg some hk)),ae h.kr (λk hk=>h1 2 k (congrArg some hk)),λi hi=>ae (h.ke i hi) (λk hk=>h1 _ k ((DO (by omega)).trans (congrArg some hk))),h.km,λl hl x hx=>⟨(h.fm l hl x hx).1.of_eq (λk hk=>he k (mem_append_right _ (mem_flatMap.2 ⟨l,hl,mem_flatMap.2 ⟨x,hx,hk⟩⟩))),(h.fm l hl x hx).2⟩⟩
theorem Jr.fd{w0:World}(h:Jr w0 r RB w):∃av kv FV L,Fd w RB r av kv FV L/\(∀k∈Tk RB av kv FV L,w0.heap.size<=k)/\Below w0.heap.size w0 w:=by
 obtain⟨av,kv,FV,L,h1,h2,h3⟩:=h;refine⟨av,kv,FV,L,⟨h1.bk,h1.al,h1.kr,h1.ke,h2,λl hl x hx=>⟨(h3 l hl x hx).1,(h3 l hl x hx).2.1⟩⟩,λk hk=>?_,h1.bl⟩;rcases mem_append.1 hk with hk|hk
 .exact h1.ge k hk
 .obtain⟨l,hl,hk⟩:=mem_flatMap.1 hk;obtain⟨x,hx,hk⟩:=mem_flatMap.1 hk;exact(h3 l hl x hx).2.2 k hk
end
structure Pa(w:World)(X Q:Nat)(ws:List ByteArray)(ps:PS)(al:List cf)(vv pv nv:Value)(fv:Value)(Z:List Nat):Prop where
 bx:Bk w X 88 [X0 Q,fv]
 cp:Cp w Q ws ps al vv pv nv
 fd:(fv=.pointer none/\Z=[])\/∃RB av kv FV L,fv=.pointer (some ⟨RB,0,none⟩)/\Fd w RB (zT ps.nodes ps.vars.length al) av kv FV L/\Z=Tk RB av kv FV L
 nx:X ∉ zy Q vv pv nv/\X ∉ Z
section
variable {w w':World} {X Q:Nat} {ws:List ByteArray} {ps:PS} {al:List cf} {vv pv nv fv:Value} {Z:List Nat}
theorem Pa.of_eq(h:Pa w X Q ws ps al vv pv nv fv Z)(he:∀k,k=X\/k∈zy Q vv pv nv\/k∈Z->w'.heap[k]?=w.heap[k]?):Pa w' X Q ws ps al vv pv nv fv Z:=by
 refine⟨h.bx.of_eq (he X (zq0 rfl)),h.cp.of_eq (λk hk=>he k (zq1 (zq0 hk))),?_,h.nx⟩;rcases h.fd with h1|⟨RB,av,kv,FV,L,h1,h2,h3⟩
 .exact zq0 h1
 .exact zq1 ⟨RB,av,kv,FV,L,h1,h2.of_eq (λk hk=>he k (zq1 (zq1 (by rw[h3];exact hk)))),h3⟩
theorem Pa.lt(h:Pa w X Q ws ps al vv pv nv fv Z):∀k,k=X\/k∈zy Q vv pv nv\/k∈Z->k<w.heap.size:=by
 rintro k (rfl|hk|hk)
 .exact h.bx.lt
 .exact h.cp.lt k hk
 .rcases h.fd with⟨-,e⟩|⟨RB,av,kv,FV,L,-,h2,e⟩
  .rw[e]at hk;simp at hk
  .rw[e]at hk;exact h2.lt k hk
theorem Pa.below(h:Pa w X Q ws ps al vv pv nv fv Z)(hb:Below w.heap.size w w'):Pa w' X Q ws ps al vv pv nv fv Z:=h.of_eq (λk hk=>hb.block k (h.lt k hk))
def xr(w:World)(X Q:Nat)(ws:List ByteArray)(ps:PS)(al:List cf)(vv pv nv:Value)(Z:List Nat)(RB:Nat)(w':World):Prop :=
 ∃av kv FV L,Pa w' X Q ws ps al vv pv nv (.pointer (some ⟨RB,0,none⟩)) (Tk RB av kv FV L)/\Fd w' RB (zT ps.nodes ps.vars.length al) av kv FV L/\aq [X] w [X] w'/\∀k∈Tk RB av kv FV L,k∈Z\/w.heap.size<=k
theorem qD(h:Pa w X Q ws ps al vv pv nv fv Z)(hA:An ps al):
  Calls prog 60 #[.pointer (some ⟨X,0,none⟩)] w λe w'=>∃RB,e=.returned (.pointer (some ⟨RB,0,none⟩))/\xr w X Q ws ps al vv pv nv Z RB w':=by
 have c0:w.cell? ⟨X,0,none⟩=some (.pointer (some ⟨Q,0,none⟩)):=h.bx.cell 0 rfl;have c1:=h.bx.cell 1 rfl;rcases h.fd with⟨hf,hZ⟩|⟨RB,av,kv,FV,L,hf,hd,hZ⟩
 .subst hf;have Pt:=ab (RH h.cp hA.a hA.n hA.l hA.p hA.v 4000 1000000 hA.ok);have B5:=h.bx.lt;have H:=ab h;clear h hA hZ;go_enter func60,ntmps60;go_wp2_with fail
  refine(uh Pt).mono ?_;rintro e w1 ⟨RB,rfl,hP⟩;obtain⟨av,kv,FV,L,h1,h2,h3⟩:=hP.fd;have b1:=(uh H).bx.below h3;have d1:=b1.cell 1 rfl;have z1:=b1.frz 1;have b2:=b1.set 1 (.pointer (some ⟨RB,0,none⟩));have d2:=b2.cell 1 rfl;have aY:∀k,k≠X->(w1.setCell ⟨X,1,none⟩ (.pointer (some ⟨RB,0,none⟩))).heap[k]?=w1.heap[k]?:=λk hk=>heap_setCell _ _ _ _ hk;have Tx:xr w X Q ws ps al vv pv nv Z RB (w1.setCell ⟨X,1,none⟩ (.pointer (some ⟨RB,0,none⟩))):=by
   have hZX:X ∉ Tk RB av kv FV L:=λe=>by have:=h2 X e;omega
   have oj:Fd (w1.setCell ⟨X,1,none⟩ (.pointer (some ⟨RB,0,none⟩))) RB (zT ps.nodes ps.vars.length al) av kv FV L:=h1.of_eq (λk hk=>aY k (λe=>hZX (by rw[<-e];exact hk)));refine⟨av,kv,FV,L,⟨b2,((uh H).cp.below h3).of_eq (λk hk=>aY k (λe=>(uh H).nx.1 (by rw[<-e];exact hk))),zq1 ⟨RB,av,kv,FV,L,rfl,oj,rfl⟩,(uh H).nx.1,hZX⟩,oj,((aq.ofBw (F:=[X]) h3)).setCell (p:=⟨X,1,none⟩) (zq0 (by simp)) _,λk hk=>zq1 (h2 k hk)⟩
  have HP:=ab Tx;clear hP h1 h2 h3 b1 b2 aY Tx Pt;go_wp2_with fail
  go_ret;exact⟨RB,rfl,uh HP⟩
 .subst hf;have HP:Hid (xr w X Q ws ps al vv pv nv Z RB w):=ab ⟨av,kv,FV,L,by rw[<-hZ];exact h,hd,aq.refl _ _,λk hk=>zq0 (by rw[hZ];exact hk)⟩;clear h hA hd hZ;go_enter func60,ntmps60;go_wp2_with fail
  go_ret;exact⟨RB,rfl,uh HP⟩
theorem BK(h:Pa w X Q ws ps al vv pv nv fv Z)(hA:An ps al):
  Calls prog 33 #[.pointer (some ⟨X,0,none⟩)] w λe w'=>e=.returned (.int .i64 ((zT ps.nodes ps.vars.length al).vd:Nat))/\∃RB,xr w X Q ws ps al vv pv nv Z RB w':=by
 have HEM:=ab (nQ h.bx);have Us:Hid (∀n,Calls prog 60 #[.pointer (some ⟨X,0,none⟩)] (w.drewN n) λe w'=>∃RB,e=.returned (.pointer (some ⟨RB,0,none⟩))/\xr w X Q ws ps al vv pv nv Z RB w'):=ab (λn=>(qD (w:=w.drewN n) (h.of_eq (w':=w.drewN n) (λ_ _=>rfl)) hA).mono (by
  rintro e w' ⟨RB,he,av,kv,FV,L,p1,p2,p3,p4⟩;exact⟨RB,he,av,kv,FV,L,p1,p2,⟨p3.os,p3.tape,p3.output,p3.size,p3.block,p3.foot⟩,p4⟩))
 clear h hA;go_enter func33,ntmps33;go_wp2_with (first|(go_at_call 53;refine(uh HEM).mono ?_;rintro e w1 ⟨rfl,n,rfl⟩))
 refine(uh Us _).mono ?_;rintro e w2 ⟨RB,rfl,hP⟩;have c0:w2.cell? ⟨RB,0,none⟩=some (.int .i64 ((zT ps.nodes ps.vars.length al).vd:Nat)):=by
  obtain⟨av,kv,FV,L,p1,p2,p3,p4⟩:=hP;exact p2.bk.cell 0 rfl
 have HP:=ab hP;clear hP;go_wp2_with fail
 go_ret;exact⟨rfl,RB,uh HP⟩
end
theorem pC{l:List UInt8}(h:lx l=0):l.length<=240/\ij l≠none/\(r8 l).failed=false/\(r8 l).vars.length<=4/\(r8 l).hid.length<=8:=by
 unfold lx at h;split at h
 .cases h
 .split at h
  .cases h
  .split at h
   .cases h
   .split at h
    .cases h
    .rename_i h1 h2 h3 h4;exact⟨by omega,h2,by simpa using h3,by omega,by omega⟩
theorem X6{l:List UInt8}(h:ij l≠none):(nY l).length<=l.length:=by
 cases hs:ij l with
 |none=>exact absurd hs h
 |some L =>
  have e:ij l=some ((nY l).map (·.data.toList)):=by
   unfold nY;rw[hs];simp only[Option.getD_some,map_map];congr 1;exact(map_id' L).symm
  exact(y9 e).1
def TeM(V H k i:Nat):Prop:=(k=0/\i=0)\/(k=1/\i<V)\/(k=2/\i<H)
structure zP(ws:List ByteArray)(s:PS)(M:List Nd):Prop where
 nd:s.nodes=M++[{ gP with nx:=M.length+1 }]
 go:sk s.vars.length 0 M.length M
 ln:M.length<=2*ws.length
 at_:∀a∈gR ws aJ,TeM s.vars.length s.hid.length a.lk a.li/\TeM s.vars.length s.hid.length a.rk a.ri/\a.k<=4
theorem ER{ws:List ByteArray}:∀(n:Nat) (s:PS),(iu ws n s).1.length<=n
 |0,s=>by simp[iu]
 |n+1,s=>by
  unfold iu;split
  .have:=ER (ws:=ws) n (dQ ws s.adv);simp only[length_cons];omega
  .simp
theorem NE{ws:List ByteArray}(h:(bL ws aJ).failed=false):∃M,zP ws (bL ws aJ) M:=by
 have hp:(Ci ws aJ).pos=ws.length:=by
  by_cases hp:(Ci ws aJ).pos=ws.length
  .exact hp
  .unfold bL at h;rw[if_neg hp]at h;cases h
 have hS:bL ws aJ=Ci ws aJ:=if_pos hp;rw[hS]at h ⊢;obtain⟨s1,dc⟩:∃s1,s1=aF ws eF aJ:=⟨_,rfl⟩;obtain⟨s2,dF⟩:∃s2,s2=pP ws s1:=⟨_,rfl⟩;obtain⟨s3,fe⟩:∃s3,s3=cC ws (ws.length+1) s2:=⟨_,rfl⟩;have hT:Ci ws aJ=bY gP s3:=by rw[fe,dF,dc];rfl
 rw[hT]at h hp ⊢;have lK:s3.failed=false:=h;have hg:=iF (ws:=ws) (ws.length+1);have lj:s2.failed=false:=hg.ok s2 (by rw[<-fe];exact lK);obtain⟨M,h1,h2,EX,h3⟩:=J0 (ws:=ws) (ws.length+1) s2;rw[<-fe]at h1 h2 EX h3;have gl:s2.nodes=[]:=by rw[dF,yU.nd,dc,(cE (ws:=ws) (s:=aJ) eF).1];rfl
 rw[gl,nil_append]at h1;have rp:=hg.phi s2;rw[<-fe,gl,h1,wd lK]at rp;have hpp:s3.pos=ws.length:=hp;refine⟨M,?_,?_,?_,?_⟩
 .show s3.nodes++[{ gP with nx:=s3.nodes.length+1 }]=_;rw[h1]
 .rw[gl,h1]at h3;exact h3
 .simp only[length_nil]at rp;omega
 .intro a ha;have hL:=agx (ws:=ws) (s:=s1) a (by rw[dc];exact ha);rw[<-dF]at hL;have up:∀k i,U2 s2 k i->TeM (bY gP s3).vars.length (bY gP s3).hid.length k i:=by
   intro k i ht;have e1:(bY gP s3).vars=s3.vars:=rfl;have e2:(bY gP s3).hid=s3.hid:=rfl;rw[e1,e2];rcases ht with ht|ht|ht|ht
   .rw[lj]at ht;cases ht
   .exact zq0 ht
   .exact zq1 (zq0 (by omega))
   .exact zq1 (zq1 (by omega))
  exact⟨up _ _ hL.1,up _ _ hL.2.1,hL.2.2⟩
section
variable {ws:List ByteArray} {s:PS} {M:List Nd}
theorem zP.get(h:zP ws s M)(n:Nat):(n<M.length/\∃nd,M[n]?=some nd/\s.nodes.getD n aK=nd)\/(M.length<=n/\(s.nodes.getD n aK).v=0/\(s.nodes.getD n aK).ai=0/\(s.nodes.getD n aK).op=0):=by
 rw[h.nd];by_cases hn:n<M.length
 .refine zq0 ⟨hn,M[n],getElem?_eq_getElem hn,?_⟩;rw[getD_eq_getElem?_getD,getElem?_append_left hn,getElem?_eq_getElem hn];rfl
 .refine zq1 ⟨by omega,?_⟩;rw[getD_eq_getElem?_getD,getElem?_append_right (by omega)];cases hk:n-M.length with
  |zero=>exact⟨rfl,rfl,rfl⟩
  |succ k=>exact⟨rfl,rfl,rfl⟩
theorem zP.len(h:zP ws s M):s.nodes.length=M.length+1:=by rw[h.nd,length_append];rfl
theorem lw4{L i:Nat}(h:Lw L i)(hL:L<=4):i<4:=by rcases h with h|h <;> omega
theorem zP.v4(h:zP ws s M)(hv:s.vars.length<=4)(n:Nat):(s.nodes.getD n aK).v<4/\(s.nodes.getD n aK).ai<4:=by
 rcases h.get n with⟨-,nd,h1,h2⟩|⟨-,h1,h2,-⟩
 .rw[h2];exact⟨lw4 (h.go n nd h1).1 hv,lw4 (h.go n nd h1).2.1 hv⟩
 .rw[h1,h2];omega
theorem zP.ndo(h:zP ws s M)(hv:s.vars.length<=4):sE s.nodes:=by
 refine⟨h.v4 hv,λn=>?_,λn hn h0=>?_,λn hn h0=>?_⟩
 .rcases h.get n with⟨-,nd,h1,h2⟩|⟨-,-,-,h1⟩
  .rw[h2];have:=(h.go n nd h1).2.2.1;omega
  .rw[h1];omega
 .rw[h.len];rcases h.get n with⟨-,nd,h1,h2⟩|⟨-,-,-,h1⟩
  .rw[h2];have:=(h.go n nd h1).2.2.2.1;omega
  .exact absurd h1 h0
 .rw[h.len];rcases h.get n with⟨-,nd,h1,h2⟩|⟨-,-,-,h1⟩
  .rw[h2];have:=(h.go n nd h1).2.2.2.1;omega
  .omega
theorem JN{nds:List Nd}(h:(range nds.length).any (gU nds)=false){n:Nat}(hn:n<nds.length):gU nds n=false:=by
 rw[any_eq_false]at h;have:=h n (mem_range.2 hn);simpa using this
theorem zP.fwd(h:zP ws s M)(hv:s.vars.length<=4)(hb:(range s.nodes.length).any (gU s.nodes)=false):Fwd s.nodes:=by
 refine⟨h.v4 hv,λn hn h0=>?_,λn hn h0=>?_⟩
 .have gy:=JN hb hn;unfold gU at gy;rcases h.get n with⟨hl,nd,h1,h2⟩|⟨-,-,-,h1⟩
  .rw[h2]at gy ⊢;obtain⟨-,-,-,-,-,g1,g2⟩:=h.go n nd h1;by_cases EW:nd.op=10
   .have h3:=g2 EW;simp only[EW,decide_true,Bool.true_and,decide_eq_false_iff_not]at gy;omega
   .have h3:=g1 EW;omega
  .exact absurd h1 h0
 .rcases h.get n with⟨hl,nd,h1,h2⟩|⟨-,-,-,h1⟩
  .rw[h2]at h0 ⊢;obtain⟨-,-,-,-,g1,-⟩:=h.go n nd h1;have:=g1 h0;omega
  .exfalso;unfold uT at h0;rw[h1]at h0;simp at h0
theorem zi{V H k i:Nat}(h:TeM V H k i)(hV:V<=4)(hH:H<=8):ur k i<13/\k<=2/\i<=100:=by
 unfold ur;rcases h with⟨rfl,rfl⟩|⟨rfl,h⟩|⟨rfl,h⟩
 .simp
 .simp;omega
 .simp;omega
theorem zP.aok(h:zP ws s M)(hw:ws.length<=240)(hv:s.vars.length<=4)(hh:s.hid.length<=8):YL (gR ws aJ):=by
 refine⟨λa ha=>⟨(zi (h.at_ a ha).1 hv hh).1,(zi (h.at_ a ha).2.1 hv hh).1⟩,?_,λa ha=>?_⟩
 .have h1:=ER (ws:=ws) (ws.length+1) (dQ ws (aF ws eF aJ));show(oy ws (aF ws eF aJ)::(iu ws (ws.length+1) (dQ ws (aF ws eF aJ))).1).length<=1000;simp only[length_cons];omega
 .have h1:=zi (h.at_ a ha).1 hv hh;have h2:=zi (h.at_ a ha).2.1 hv hh;exact⟨h1.2.1,h2.2.1,h1.2.2,h2.2.2⟩
end
theorem LV(m k i:Nat):m<=mr m k i/\(k=2->i<mr m k i):=by unfold mr;split <;> constructor <;> intros <;> omega
theorem LS:∀(l:List cf) (m:Nat),m<=l.foldl (λm a=>mr (mr m a.lk a.li) a.rk a.ri) m/\∀a∈l,(a.lk=2->a.li<l.foldl (λm a=>mr (mr m a.lk a.li) a.rk a.ri) m)/\(a.rk=2->a.ri<l.foldl (λm a=>mr (mr m a.lk a.li) a.rk a.ri) m)
 |[],m=>⟨zq4 _,λa ha=>by simp at ha⟩
 |b::l,m=>by
  have h1:=LV m b.lk b.li;have h2:=LV (mr m b.lk b.li) b.rk b.ri;obtain⟨h3,h4⟩:=LS l (mr (mr m b.lk b.li) b.rk b.ri);rw[foldl_cons];refine⟨by omega,λa ha=>?_⟩;rcases mem_cons.1 ha with rfl|ha
  .exact⟨λe=>by have:=h1.2 e;omega,λe=>by have:=h2.2 e;omega⟩
  .exact h4 a ha
theorem Ww{al:List cf}{a:cf}(ha:a∈al):(a.lk=2->a.li<vt al)/\(a.rk=2->a.ri<vt al):=(LS al 0).2 a ha
def Yz(al:List cf)(nv:Nat):List Nat:=((0::(range nv).map (1+·))++(range (vt al)).map (5+·)).map (λt=>(mA al).getD t 0)
theorem Sz(al:List cf)(nv:Nat):(Yz al nv).length=1+nv+vt al:=by unfold Yz;simp;omega
theorem N7{al:List cf}{V H k i:Nat}(h:TeM V H k i)(hh:k=2->i<vt al):(mA al).getD (ur k i) 0∈Yz al V:=by
 unfold Yz ur;refine mem_map.2 ⟨_,?_,rfl⟩;rcases h with⟨rfl,rfl⟩|⟨rfl,h⟩|⟨rfl,h⟩
 .simp
 .simp;omega
 .refine mem_append_right _ (mem_map.2 ⟨i,mem_range.2 (hh rfl),?_⟩);simp
section
variable {ws:List ByteArray} {s:PS} {M:List Nd}
theorem zP.live(h:zP ws s M)(hv:s.vars.length<=4):∀c∈dO (Af (ej (gR ws aJ)) s.vars.length),c∈Yz (gR ws aJ) s.vars.length:=by
 intro c hc;unfold dO at hc;rcases mem_append.1 hc with hc|hc
 .have key:∀i,i<5->(Af (ej (gR ws aJ)) s.vars.length).cl.getD i 0∈Yz (gR ws aJ) s.vars.length:=by
   intro i hi;have e:(Af (ej (gR ws aJ)) s.vars.length).cl.getD i 0=if s.vars.length<i then (mA (gR ws aJ)).getD 0 0 else (mA (gR ws aJ)).getD i 0:=by
    unfold Af;simp only[getD_eq_getElem?_getD,getElem?_map,getElem?_range hi,Option.map_some,Option.getD_some];rw[<-getD_eq_getElem?_getD,<-getD_eq_getElem?_getD,EA (show 0<5 by omega),EA hi,getD_eq_getElem?_getD,getD_eq_getElem?_getD]
   rw[e];unfold Yz;split
   .exact mem_map.2 ⟨0,by simp,rfl⟩
   .refine mem_map.2 ⟨i,mem_append_left _ ?_,rfl⟩;cases i with
    |zero=>simp
    |succ i=>exact mem_cons_of_mem _ (mem_map.2 ⟨i,mem_range.2 (by omega),by omega⟩)
  unfold kg at hc;simp only[mem_cons,not_mem_nil,or_false]at hc;rcases hc with rfl|rfl|rfl|rfl|rfl
  .exact key 0 (by omega)
  .exact key 1 (by omega)
  .exact key 2 (by omega)
  .exact key 3 (by omega)
  .exact key 4 (by omega)
 .obtain⟨p,hp,hc⟩:=mem_flatMap.1 hc;obtain⟨a,ha,rfl⟩:=mem_map.1 (show p∈((gR ws aJ).filter (λa=>a.k==3||a.k==4)).map (iV (mA (gR ws aJ))) from hp);have Wc:=(mem_filter.1 ha).1;have h1:=h.at_ a Wc;have h2:=Ww Wc;simp only[mem_cons,not_mem_nil,or_false]at hc;rcases hc with rfl|rfl
  .exact N7 h1.1 h2.1
  .exact N7 h1.2.1 h2.2
end
theorem IM{nds:List Nd}{nv:Nat}{al:List cf}(h:Jp nds nv al=true):(range nds.length).any (gU nds)=false/\al.any (λa=>decide (a.k=4))=false/\nds.countP (λn=>decide (n.op=7\/n.op=8\/n.op=9))<=5/\nv+vt al+nds.countP (λn=>decide (n.op=4))<=8:=by
 unfold Jp at h;simp only[Bool.and_eq_true,Bool.not_eq_true',decide_eq_true_eq]at h;exact⟨h.1.1.1.1.1,h.1.1.1.1.2,h.1.1.1.2,h.2⟩
theorem LE{nds:List Nd}(h:(range nds.length).any (gU nds)=false)(n:Nat):(O0 nds).getD n false=false:=by
 have key:∀(l:List Nat) (H:List Bool),(∀i∈l,gU nds i=false)->l.foldl (λh i=>if gU nds i=true then h.set (nds.getD i aK).nx true else h) H=H:=by
  intro l;induction l with
  |nil=>intro H _;rfl
  |cons i l ih =>
   intro H hl;rw[foldl_cons,if_neg (by rw[hl i (by simp)];decide)];exact ih H (λj hj=>hl j (by simp[hj]))
 unfold O0;rw[key _ _ (λi hi=>JN h (mem_range.1 hi)),getD_eq_getElem?_getD,getElem?_replicate];split <;> rfl
theorem Fr(nds:List Nd)(n:Nat):bf (md nds) n=[]:=by
 unfold bf md;rw[getD_eq_getElem?_getD,getElem?_replicate];split <;> rfl
theorem BJ(g:Nat->List fS->Nat)(hg:∀n,g n []=0):∀(m k:Nat),rx g k (replicate m [])=0
 |0,k=>rfl
 |m+1,k=>by
  rw[replicate_succ];simp only[rx];rw[hg,BJ g hg m (k+1)]
theorem um{α:Type}(g:α->Nat)(x:α)(hg:g x=0):∀(m:Nat),a6 g (replicate m x)=0
 |0=>rfl
 |m+1=>by
  rw[replicate_succ];simp only[a6];rw[hg,um g x hg m]
theorem NW(nds:List Nd):pK (md nds):=λl hl e he=>by
 rw[eq_of_mem_replicate (show l∈replicate nds.length [] from hl)]at he;simp at he
theorem p9{a:Nat}(h:a<=9):9 ^ a<=387420489:=Nat.pow_le_pow_right (by omega) h
theorem p2{a:Nat}(h:a<=5):2 ^ a<=32:=Nat.pow_le_pow_right (by omega) h
section
variable {ws:List ByteArray} {s:PS} {M:List Nd}
theorem zP.ok(h:zP ws s M)(hw:ws.length<=240)(hv:s.vars.length<=4)(hh:s.hid.length<=8):(vT s.nodes s.vars.length (gR ws aJ)).ok=true:=by
 have hA:=h.aok hw hv hh;obtain⟨al,nM⟩:∃al,al=gR ws aJ:=⟨_,rfl⟩;have jO:=h.live hv;rw[<-nM]at hA jO ⊢;have db:=h.len;have hln:=h.ln;unfold vT;obtain⟨c,hc⟩:∃c,c=Ey s.nodes s.vars.length al:=⟨_,rfl⟩;have je:c.nds=s.nodes:=by rw[hc];rfl
 rw[<-hc];cases hsi:Jp s.nodes s.vars.length al with
 |true =>
  obtain⟨bB,aR,cU,mp⟩:=IM hsi;have hS:U1 c:=⟨by rw[hc];exact bB,by rw[hc];show(!Jp s.nodes s.vars.length al)=false;rw[hsi];rfl,by rw[hc];exact LE bB,by rw[je];exact h.fwd hv bB⟩;have h0:∀rest,rest<=q8->sF c 0 rest (md s.nodes):=λrest hr=>⟨by rw[je];exact length_replicate,λn e he=>by rw[Fr]at he;simp at he,λn _ e he=>by rw[Fr]at he;simp at he,λn hn=>by omega,by
   have:IR c.nds (md s.nodes)=0:=BJ _ (λn=>rfl) _ _;omega,rfl⟩
  refine Gm hS 1000000 (cu:=0) ?_ (by rw[je];omega) (zq5 _);unfold fT;split
  .exact h0 0 (zq5 _)
  .rename_i hf;have vp:kz (ej al)=false:=(by simpa using hf);have ic:=oC (sL hA.tm vp) s.vars.length;have AG:K3 (Af (ej al) s.vars.length):=by
    intro p hp;obtain⟨a,ha,rfl⟩:=mem_map.1 (show p∈(al.filter (λa=>a.k==3||a.k==4)).map (iV (mA al)) from hp);obtain⟨ha1,E1⟩:=mem_filter.1 ha;rw[any_eq_false]at aR;have h4:=aR a ha1;show a.k=3;simp only[Bool.or_eq_true,beq_iff_eq]at E1;simp only[decide_eq_true_eq]at h4;omega
   have anN:a8 (bR (Af (ej al) s.vars.length))<=1+s.vars.length+vt al:=by
    have:=rW ic jO;rw[Sz]at this;exact this
   have hcN:rI Fi c.nds 0=s.nodes.countP (λn=>decide (n.op=4)):=(by rw[je];rfl);have hcT:rI uT c.nds 0=s.nodes.countP (λn=>decide (n.op=7\/n.op=8\/n.op=9)):=(by rw[je];rfl);have yk:xB c.nds 0 (bR (Af (ej al) s.vars.length)):=⟨ic.tidy,AG.td,by omega⟩;have hwt:gu c.nds 0 (bR (Af (ej al) s.vars.length))<=q8:=by
    unfold gu;have h1:=p9 yk.nm;have h2:=p2 (show rI uT c.nds 0<=5 by omega);exact zq3 (Nat.mul_le_mul h1 h2) (by unfold q8;omega)
   unfold cZ;rw[if_pos (zq0 hS.lp)];exact Ba hS (zq4 _) yk (h0 _ (by omega))
 |false =>
  have hb:c.bd=true:=by rw[hc];show(!Jp s.nodes s.vars.length al)=true;rw[hsi];rfl
  have hV:NdV c:=by intro n;rw[je];exact h.v4 hv n
  have he0:pZ (md s.nodes)=0:=um (α:=List fS) List.length [] rfl s.nodes.length;have Do:eT (md s.nodes)=0:=um (α:=List fS) (λl:List fS=>l.countP (λe:fS=>!e.d)) [] rfl s.nodes.length;have Ic:(md s.nodes).lf=3000:=rfl;have h0:Gd 1152 (md s.nodes):=⟨by rw[he0,Ic];decide,by rw[Ic];decide,λ_=>by rw[Ic];decide,rfl⟩;unfold fT;split
  .exact DN hb hV (by omega) 1000000 (NW _) (h0.wide (by omega)) (by rw[Do,Ic];decide) (by omega)
  .rename_i hf;have vp:kz (ej al)=false:=(by simpa using hf);have htd:=(oC (sL hA.tm vp) s.vars.length).tidy;obtain⟨g1,g2⟩:=JQ hb (fuel:=4000) (a:=c.nds.length-1) (b:=0) (by omega) (zq4 1152) (by omega) htd h0 (by rw[Ic];decide);refine DN hb hV (by omega) 1000000 (JR htd (NW _)) (g1.wide (by omega)) ?_ (by omega);rw[Do,Ic]at g2;omega
end
theorem Ep{l:List UInt8}(h:lx l=0):An (r8 l) (gR (nY l) aJ):=by
 obtain⟨h1,h2,h3,h4,h5⟩:=pC h;have hw:=X6 h2;obtain⟨M,hM⟩:=NE (ws:=nY l) h3;have hl:=hM.len;have hln:=hM.ln;exact⟨hM.aok (by omega) h4 h5,hM.ndo h4,by show(bL (nY l) aJ).nodes.length<=_;omega,by show 0<(bL (nY l) aJ).nodes.length;omega,h4,hM.ok (by omega) h4 h5⟩
section
variable {c:Cd} {fuel n:Nat} {s:Sr}
theorem Oy(n k:Nat)(s:Sr):(gV n k s).wr.length=s.wr.length:=by unfold gV;simp
theorem D4(b:Bool)(n k:Nat)(s:Sr):(wrI b n k s).wr.length=s.wr.length:=by
 unfold wrI;split
 .exact Oy _ _ _
 .rfl
theorem FB(f:CF):(bq c n f s).wr.length=s.wr.length:=by unfold bq;split <;> rfl
theorem Fx:∀(l:List CF) {s:Sr},(l.foldl (λs g=>bq c n g s) s).wr.length=s.wr.length
 |[],_=>rfl
 |f::l,s=>by rw[foldl_cons,Fx l,FB]
theorem rN{β:Type}(g:List CF × Sr->β->List CF × Sr)(hg:∀r b,(g r b).2.wr=r.2.wr):∀(l:List β) (r:List CF × Sr),(l.foldl g r).2.wr=r.2.wr
 |[],_=>rfl
 |b::l,r=>by rw[foldl_cons,rN g hg l,hg]
theorem VC(r:List CF × Sr)(g:CF):(k8 c r g).2.wr=r.2.wr:=by unfold k8;split <;> rfl
theorem VG{f:CF}{i:Nat}(r:List CF × Sr)(a:Nat):(mo c f i r a).2.wr=r.2.wr:=by
 unfold mo;split
 .exact rN _ VC _ _
 .rfl
theorem Qe{f:CF}(r:List CF × Sr)(i:Nat):(ez c f r i).2.wr=r.2.wr:=rN _ VG _ _
theorem KJ:∀(n k:Nat) (res:List CF) (r:List CF × Sr),(fU c n k res r).2.wr=r.2.wr
 |0,_,_,_=>rfl
 |n+1,k,res,r=>by
  unfold fU;split
  .rw[KJ n];unfold pO;split
   .rfl
   .exact rN _ Qe _ _
  .rfl
theorem JV{a b:Nat}(f:CF):(cZ c fuel a b f s).wr.length=s.wr.length:=by
 unfold cZ;split
 .exact FB _
 .dsimp only;rw[Fx,KJ];exact Oy _ _ _
theorem CB{a b:Nat}:∀(l:List CF) {s:Sr},(l.foldl (λs g=>cZ c fuel a b g s) s).wr.length=s.wr.length
 |[],_=>rfl
 |f::l,s=>by rw[foldl_cons,CB l,JV]
theorem Yx(f:CF):(mf c fuel n f s).wr.length=s.wr.length:=by
 unfold mf;dsimp only;rw[CB,CB];show(wrI _ _ _ _).wr.length=_;rw[D4,D4,D4]
theorem Oj:∀(l:List CF) {s:Sr},(mg c fuel n l s).wr.length=s.wr.length
 |[],_=>rfl
 |f::l,s=>by
  unfold mg;split
  .rfl
  .rw[Oj l,Yx]
theorem NN:∀(k:Nat) {s:Sr},(jY c fuel k s).wr.length=s.wr.length
 |0,_=>rfl
 |k+1,s=>by
  unfold jY;split
  .rfl
  .split
   .rfl
   .rw[NN k];unfold mZ;rw[Oj]
end
theorem JM(nds:List Nd)(nv:Nat)(al:List cf):(vT nds nv al).wr.length=nds.length:=by
 unfold vT;rw[NN];unfold fT;split
 .exact length_replicate
 .rw[JV];exact length_replicate
theorem GP{ps:PS}{al:List cf}(h:An ps al):(zT ps.nodes ps.vars.length al).al.length<=1000000:=by
 unfold zT Ck;split
 .exact zq5 _
 .show(U5 (vT ps.nodes ps.vars.length al).wr).length<=_;rw[<-Em];have h1:=xD (vT ps.nodes ps.vars.length al).wr (vT ps.nodes ps.vars.length al).wr.length;have h2:=h.l;rw[JM]at h1 ⊢;omega
theorem mi{l:List (Nat × Nat)}{i:Nat}(hi:i<l.length):(vP l)[i*2]?=some (.int .i64 (l[i].1:Int))/\(vP l)[i*2+1]?=some (.int .i64 (l[i].2:Int)):=by
 induction l generalizing i with
 |nil=>simp at hi
 |cons a l ih =>
  cases i with
  |zero=>exact⟨rfl,rfl⟩
  |succ i =>
   have:=ih (i:=i) (by simpa using hi);unfold vP at this ⊢;rw[flatMap_cons,show(i+1)*2=(i*2)+1+1 by omega,show i*2+1+1+1=(i*2+1)+1+1 by omega];exact this
theorem N4{xs:List Value}{k:Nat}{a b:Value}(h:k*2+1<xs.length):((xs.set (k*2) a).set (k*2+1) b).take ((k+1)*2)=xs.take (k*2)++[a,b]:=by
 rw[show(k+1)*2=k*2+1+1 by omega,take_add_one,take_add_one,take_set_of_le (by omega),take_set_of_le (zq4 _),getElem?_set_ne (by omega),getElem?_set_self (by omega),getElem?_set_self (by rw[length_set];exact h)];simp
section
variable {w w':World} {X Q:Nat} {ws:List ByteArray} {ps:PS} {al:List cf} {vv pv nv fv:Value} {Z:List Nat}
theorem Cw(h:Pa w X Q ws ps al vv pv nv fv Z)(hA:An ps al)(hl:(zT ps.nodes ps.vars.length al).al.length<=1000000):
  Calls prog 41 #[.pointer (some ⟨X,0,none⟩)] w λe w'=>∃v,e=.returned v/\w'.ownsRow w.heap.size 82 2 v (zT ps.nodes ps.vars.length al).al.length (vP (zT ps.nodes ps.vars.length al).al)/\((zT ps.nodes ps.vars.length al).al=[]->v=.slice none 0 0)/\∃RB w1,xr w X Q ws ps al vv pv nv Z RB w1/\Below w1.heap.size w1 w':=by
 obtain⟨j0,hj0,hy0,hy1,hy2⟩:=info_parts infoAl;have HEM:=ab (nQ h.bx);have Us:Hid (∀n,Calls prog 60 #[.pointer (some ⟨X,0,none⟩)] (w.drewN n) λe w'=>∃RB,e=.returned (.pointer (some ⟨RB,0,none⟩))/\xr w X Q ws ps al vv pv nv Z RB w'):=ab (λn=>(qD (w:=w.drewN n) (h.of_eq (w':=w.drewN n) (λ_ _=>rfl)) hA).mono (by
  rintro e w' ⟨RB,he,av,kv,FV,L,p1,p2,p3,p4⟩;exact⟨RB,he,av,kv,FV,L,p1,p2,⟨p3.os,p3.tape,p3.output,p3.size,p3.block,p3.foot⟩,p4⟩))
 obtain⟨R,hR⟩:∃R,R=(zT ps.nodes ps.vars.length al).al:=⟨_,rfl⟩;rw[<-hR]at hl ⊢;have HR:=ab hR;clear h hA hR;go_enter func41,ntmps41;go_wp2_with (first|(go_at_call 53;refine(uh HEM).mono ?_;rintro e w1 ⟨rfl,n,rfl⟩))
 refine(uh Us _).mono ?_;rintro e w2 ⟨RB,rfl,hP⟩;have lu:w.heap.size<=w2.heap.size:=by obtain⟨av,kv,FV,L,p1,p2,p3,p4⟩:=hP;exact p3.size
 obtain⟨av,B8,bp⟩:∃av,w2.cell? ⟨RB,1,none⟩=some av/\w2.ownsRow 0 82 2 av R.length (vP R):=by
  obtain⟨av,kv,FV,L,p1,p2,p3,p4⟩:=hP;exact⟨av,p2.bk.cell 1 rfl,by rw[uh HR];exact p2.al⟩
 obtain⟨aa,ac,jK,-,-⟩:=aj bp;subst jK;have HP:=ab hP;have jc:=ab bp;clear hP bp Us HEM;by_cases h0:R=[]
 .have d0:((R.length:Int)==(0:Int))=true:=by rw[h0];rfl
  have HE:=ab h0;clear h0;go_wp2_with fail
  go_ret;refine⟨_,rfl,?_,λ_=>rfl,RB,w2,uh HP,Below.refl _ _⟩;rw[uh HE];exact⟨rfl,.inl ⟨rfl,rfl⟩⟩
 .have d0:((R.length:Int)==(0:Int))=false:=by
   have:R.length≠0:=λe=>h0 (length_eq_zero_iff.1 e);simp;omega
  have rB:=ab h0;clear h0;go_wp2_with (at_make;refine wpList_make_full _ rfl _ _ 55 rfl w2.heap.size 82 j0 (.agg #[.int .i64 0,.int .i64 0]) 2 underlying55 hj0 hy0 hy1 .i64 .i64 _ _ R.length rfl rfl rfl rfl (by rw[hy2];omega) (by unfold maxLen;omega) (zq4 _) ?_)
  intro w3 TQ LM;have cU:Below w2.heap.size w2 w3:=(Below.refl _ _).grown LM (zq4 _) (λk h=>by cases h);obtain⟨b,OU⟩:∃b,b=w2.heap.size:=⟨_,rfl⟩;have Mj:w3.ownsRow w2.heap.size 82 2 (.slice (some ⟨b,0,none⟩) R.length R.length) R.length (madeCells (Value.agg #[.int .i64 0,.int .i64 0]).cells (R.length*2)).toList:=by rw[OU];exact TQ
  have cd:Hid (w3.ownsRow w2.heap.size 82 2 (.slice (some ⟨b,0,none⟩) R.length R.length) R.length (madeCells (Value.agg #[.int .i64 0,.int .i64 0]).cells (R.length*2)).toList/\((madeCells (Value.agg #[.int .i64 0,.int .i64 0]).cells (R.length*2)).toList).take (0*2)=vP (R.take 0)/\Below w2.heap.size w2 w3):=ab ⟨Mj,by simp[vP],cU⟩;have OQ:=block_lt_of_cell? w2 _ B8;rw[<-OU];have Cq:=ab OU;clear TQ LM cU Mj OU;go_wp2_with fail
  go_loopg [5] R.length (λgn iv wx=>∃(k:Nat) (xs:List Value),k+gn=R.length/\iv=.int .i64 k/\Hid (wx.ownsRow w2.heap.size 82 2 (.slice (some ⟨b,0,none⟩) R.length R.length) R.length xs/\xs.take (k*2)=vP (R.take k)/\Below w2.heap.size w2 wx))
  case atStart=>exact⟨0,_,by omega,rfl,cd⟩
  case round =>
   clear cd;obtain⟨k,xs,f7,rfl,hI⟩:=hrel;obtain⟨G1,uF⟩:∃G1,G1=gk:=⟨_,rfl⟩;obtain⟨h1,h2,h3⟩:=uh hI;by_cases ar:k<R.length
   .have hd:decide ((k:Int)<(R.length:Int))=true:=(by simp;omega);have c1:=(h3.cell OQ).trans B8;have ja:=eQ (uh jc) h3;obtain⟨g,cap,c9,-,-⟩:=bT ja (by omega);simp only[Value.slice.injEq,true_and]at c9;obtain⟨rfl,rfl⟩:=c9;have x0:=(ja.cellAt (k*2) (by omega)).trans (mi ar).1;have x1:=(ja.cellAt (k*2+1) (by omega)).trans (mi ar).2;have hxl:=h1.1;obtain⟨u0,y0⟩:∃u,wr.cell? ⟨b,k*2,none⟩=some u:=⟨_,(h1.cellAt (k*2) (by omega)).trans (getElem?_eq_getElem (by omega))⟩;obtain⟨u1,y1⟩:∃u,wr.cell? ⟨b,k*2+1,none⟩=some u:=⟨_,(h1.cellAt (k*2+1) (by omega)).trans (getElem?_eq_getElem (by omega))⟩;have z0:=h1.frozenAt (k*2);have z1:=h1.frozenAt (k*2+1);have aS:R.take (k+1)=R.take k++[R[k]]:=take_succ_eq_append_getElem ar;obtain⟨p,hp⟩:∃p,p=R[k]:=⟨_,rfl⟩;rw[<-hp]at x0 x1 aS;have r6:=((h1.stored (k*2) (.int .i64 (p.1:Int))).1.stored (k*2+1) (.int .i64 (p.2:Int))).1;have QE:w2.heap.size<=b:=(by rw[uh Cq];exact zq4 _);have b6:=(h3.setCell (p:=⟨b,k*2,none⟩) QE (.int .i64 (p.1:Int))).setCell (p:=⟨b,k*2+1,none⟩) QE (.int .i64 (p.2:Int));have t6:((xs.set (k*2) (.int .i64 (p.1:Int))).set (k*2+1) (.int .i64 (p.2:Int))).take ((k+1)*2)=vP (R.take (k+1)):=by
     rw[N4 (by omega),h2,aS,El];rfl
    have HN:=ab (zq2 r6 (zq2 t6 b6));have k1:(0:Int)<=(k:Int):=(by omega);have k2:(k:Int)<(R.length:Int):=(by omega);obtain⟨p1,p2⟩:=p;simp only at x0 x1 HN;clear h1 h2 h3 ja hxl aS hp r6 QE b6 t6 hI;go_wp2_with fail
    go_roundg (G1-1)
    case rel=>exact⟨k+1,_,by omega,by go_num,HN⟩
    case measure=>omega
   .have hd:decide ((k:Int)<(R.length:Int))=false:=(by simp;omega);have hxs:xs=vP R:=by
     have h4:=h2;rw[take_of_length_le (by rw[h1.1];omega),take_of_length_le (by omega)]at h4;exact h4
    have HN:=ab (zq2 (show wr.ownsRow w2.heap.size 82 2 (.slice (some ⟨b,0,none⟩) R.length R.length) R.length (vP R) by rw[<-hxs];exact h1) h3);clear h1 h2 h3 hI hxs;go_wp2_with fail
    go_ret;exact⟨_,rfl,dB (uh HN).1 lu,λe=>absurd e (uh rB),RB,w2,uh HP,(uh HN).2⟩
end
theorem aaT(x y:List UInt8):(⟨x.toArray⟩++⟨y.toArray⟩:ByteArray)=⟨(x++y).toArray⟩:=by apply ByteArray.ext;simp[ByteArray.data_append]
def plB(a:xy):Bool:=aV a.k IQ||aV a.k Ce
def rm(ad nx:List Int)(ns:List ByteArray)(vs:List Int)(f:List xy):Bool:=Vf ad nx (f.filter (λa=>!plB a)) (f.filter plB).length (f.filter plB) ns vs (replicate ad.length true)
