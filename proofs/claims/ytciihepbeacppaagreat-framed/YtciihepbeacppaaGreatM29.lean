import Derived.Test.YtciihepbeacppaaGreatIE
set_option maxRecDepth 100000
set_option maxHeartbeats 0
namespace Go.Proofs.YtciihepbeacppaaGreat
open Tryz Go.RowKit List World Below
set_option linter.unusedVariables false
def uF(s:Sr):Prop:=∀l∈s.kn,l.length<=th+1
theorem IG{c:Cd}{n:Nat}{f:CF}{s:Sr}(h:uF s)(bD:(bF c n f s).ok=true):uF (bF c n f s):=by
 have hb:=(n7 bD).2;unfold bF;split
 .exact h
 .show ∀l∈s.kn.set n ((a7 s n).filter (λe=>!xF e.f (bm c n f))++[⟨bm c n f,false⟩]),l.length<=th+1;intro l hl;rcases mem_or_eq_of_mem_set hl with p|p
  .exact h l p
  .rw[p,length_append,length_singleton];have:=length_filter_le (λe=>!xF e.f (bm c n f)) (a7 s n);omega
theorem IE{c:Cd}{n:Nat}:∀(l:List CF) {s:Sr},uF s->(l.foldl (λs g=>bF c n g s) s).ok=true->uF (l.foldl (λs g=>bF c n g s) s)
 |[],_,h,_=>h
 |_::l,_,h,bD=>IE l (IG h (lm l bD)) bD
theorem MT{c:Cd}{fuel a b:Nat}{f:CF}{s:Sr}(hf:Td f)(h:uF s)(bD:(dJ c fuel a b f s).ok=true):uF (dJ c fuel a b f s):=by
 unfold dJ at bD ⊢;split
 .rename_i hc;rw[if_pos hc]at bD;exact IG h bD
 .rename_i hc;rw[if_neg hc]at bD;have h1:cX [f]:=λx hx=>by rw[mem_singleton]at hx;subst hx;exact hf
  obtain⟨-,g2,-⟩:=mS (c:=c) fuel 0 (r:=([f],mm a 2 s)) (res:=[]) h1 (λx hx=>by simp at hx);refine IE _ ?_ bD;unfold uF;rw[g2];exact h
theorem EO{c:Cd}{fuel a b:Nat}:∀(l:List CF) {s:Sr},cX l->uF s->(l.foldl (λs g=>dJ c fuel a b g s) s).ok=true->uF (l.foldl (λs g=>dJ c fuel a b g s) s)
 |[],_,_,h,_=>h
 |g::l,_,hl,h,bD=>EO l (λx hx=>hl x (by simp[hx])) (MT (hl g (by simp)) h (iz l bD)) bD
theorem ab8{c:Cd}{fuel n:Nat}{f:CF}{s:Sr}(hv:(c.nds.getD n aI).v<4)(ha:(c.nds.getD n aI).ai<4)(hf:Td f)(h:uF s)(bD:(oE c fuel n f s).ok=true):uF (oE c fuel n f s):=by
 obtain⟨h1,h2⟩:=lY hv ha hf;unfold oE at bD ⊢;simp only at bD ⊢;refine EO _ h2 (EO _ h1 ?_ (iz _ bD)) bD;unfold uF;show ∀l∈(wrI _ n 4 (wrI _ n 3 (wrI _ n 2 s))).kn,_;rw[iu,iu,iu];exact h
theorem Rh{c:Cd}{fuel n:Nat}(hv:(c.nds.getD n aI).v<4)(ha:(c.nds.getD n aI).ai<4):∀(l:List CF) {s:Sr},cX l->uF s->(mJ c fuel n l s).ok=true->uF (mJ c fuel n l s)
 |[],_,_,h,_=>h
 |f::l,s,hl,h,bD=>by
  unfold mJ at bD ⊢;split
  .exact h
  .rename_i hc;rw[if_neg hc]at bD;exact Rh hv ha l (λx hx=>hl x (by simp[hx])) (ab8 hv ha (hl f (by simp)) h (ro l bD)) bD
theorem acg{c:Cd}{fuel n:Nat}(hv:(c.nds.getD n aI).v<4)(ha:(c.nds.getD n aI).ai<4){s:Sr}(hi:pY s)(h:uF s)(bD:(rp c fuel n s).ok=true):uF (rp c fuel n s):=by
 unfold rp at bD ⊢;refine Rh hv ha _ (λf hf=>?_) ?_ bD
 .unfold lJ at hf;obtain⟨e,he,rfl⟩:=mem_map.1 hf;exact hi.at n e (mem_filter.1 he).1
 .show ∀l∈s.kn.set n _,l.length<=th+1;intro l hl;rcases mem_or_eq_of_mem_set hl with p|p
  .exact h l p
  .rw[p,length_map];unfold a7;by_cases hn:n<s.kn.length
   .rw[bM hn];exact h _ (getElem_mem hn)
   .rw[getD_eq_getElem?_getD,getElem?_eq_none (by omega)];exact zq5 _
theorem Rj{c:Cd}{fuel n:Nat}{s:Sr}(bD:(rp c fuel n s).ok=true):s.ok=true:=by
 unfold rp at bD;have h1:=ro _ bD;exact h1
theorem wt{c:Cd}{fuel:Nat}:∀(n:Nat) {s:Sr},(pS c fuel n s).ok=true->s.ok=true
 |0,_,h=>by simp[pS]at h
 |n+1,s,h=>by
  unfold pS at h;split at h
  .exact h
  .split at h
   .exact h
   .exact Rj (wt n h)
theorem uF.at{s:Sr}(h:uF s)(n:Nat):(a7 s n).length<=th+1:=by
 unfold a7;by_cases hn:n<s.kn.length
 .rw[bM hn];exact h _ (getElem_mem hn)
 .rw[getD_eq_getElem?_getD,getElem?_eq_none (by omega)];exact zq5 _
section
variable {w W W':World} {S:Nat} {c:Cd} {c0 hv kv wv:Value} {KV WV:List Value} {K:List (List En)} {s:Sr}
theorem Sh.inS(h:Sh w S c c0 hv kv wv KV WV K s):pY s:=by
 intro l hl e he;rw[h.km]at hl;obtain⟨l0,h0,rfl⟩:=mem_map.1 hl;obtain⟨e0,h1,rfl⟩:=mem_map.1 he;exact(h.dr l0 h0 e0 h1).2
theorem Sh.kb(h:Sh w S c c0 hv kv wv KV WV K s)(hb:uF s):∀l∈K,l.length<=th+1:=λl hl=>by
 have:=hb (l.map En.m) (by rw[h.km];exact mem_map_of_mem hl);rw[length_map]at this;exact this
theorem ii.low{F F' D D':List Nat}(h:ii W W' F F' D D' [])(hb:Below w.heap.size w W)(hF:∀k∈F,w.heap.size<=k):Below w.heap.size w W' :=
 ⟨h.st.os.trans hb.os,h.st.tape.trans hb.tape,h.st.output.trans hb.output,zq3 hb.size h.st.size,λk hk=>(h.st.block k (zq6 hk hb.size) (λe=>by
  rw[append_nil]at e;have:=hF k e;omega)).trans (hb.block k hk)⟩
theorem Rz.from{RB vd:Nat}{av kv:Value}{al:List (Nat × Nat)}{FV:List Value}{L:List (List FE)}(h:Rz W W' RB vd av kv al FV L)(hb:Below w.heap.size w W):Rz w W' RB vd av kv al FV L :=
 ⟨h.bk,h.al,h.kr,h.ke,h.ap,λk hk=>zq3 hb.size (h.ge k hk),hb.trans (h.bl.mono hb.size)⟩
end
def Mk(w:World)(r:Rs)(RB:Nat)(w':World):Prop:=∃av kv FV L,Rz w w' RB r.vd av kv r.al FV L/\L.map (λl=>l.map (λx=>x.f))=r.kn/\∀l∈L,∀x∈l,ew w' x.A x.f x.av x.ov/\Td x.f/\∀k∈x.bs,w.heap.size<=k
section
variable {w:World} {Q:Nat} {ws:List ByteArray} {ps:PS} {al:List cn} {vv pv nv:Value}
theorem Vb (h:Cp w Q ws ps al vv pv nv) (hA:AOk al) (hN:uG ps.nodes) (jX:ps.nodes.length<=100000) (oS:0<ps.nodes.length) (FO:ps.vars.length<=4) (fuel N:Nat)
  (bD:(pS (xN ps.nodes ps.vars.length al) fuel N (er (xN ps.nodes ps.vars.length al) fuel ps.vars.length al (kL ps.nodes))).ok=true) :
  Calls prog 92 #[.pointer (some ⟨Q,0,none⟩)] w λe w'=>∃RB,e=.returned (.pointer (some ⟨RB,0,none⟩))/\Mk w (DF (pS (xN ps.nodes ps.vars.length al) fuel N (er (xN ps.nodes ps.vars.length al) fuel ps.vars.length al (kL ps.nodes)))) RB w':=by
 obtain⟨c,hc⟩:∃c,c=xN ps.nodes ps.vars.length al:=⟨_,rfl⟩;have fZ:c.nds=ps.nodes:=by rw[hc];rfl
 rw[<-hc]at bD ⊢;obtain⟨R,hR⟩:∃R,R=pS c fuel N (er c fuel ps.vars.length al (kL ps.nodes)):=⟨_,rfl⟩;rw[<-hR]at bD ⊢;have JH:=ab (MZ h hA jX (by omega));rw[<-hc]at JH;have H:=ab h;have HA:=ab (zq2 hA (zq2 hN fZ));have HR:=ab hR;have kO:=ab bD;obtain⟨eo,dD⟩:∃eo:Nat->World->Prop,eo=λRB w'=>Mk w (DF R) RB w':=⟨_,rfl⟩;have gq:=ab dD;rw[show(fun(e:Ending) (w':World)=>∃RB,e=.returned (.pointer (some ⟨RB,0,none⟩))/\Mk w (DF R) RB w')=(λe w'=>∃RB,e=.returned (.pointer (some ⟨RB,0,none⟩))/\eo RB w') by rw[dD]];clear h hA hN hc fZ hR bD dD;go_enter func92,ntmps92;go_wp2_with fail
 refine(uh JH).mono ?_;rintro e w1 ⟨S,rfl,hv,kv,wv,WV,bX,bH,afQ⟩;have Ec:=(uh H).below bH;have xS:(replicate ps.nodes.length ([]:List En)).length=ps.nodes.length:=length_replicate;have Pe:(er c fuel ps.vars.length al (kL ps.nodes)).ok=true:=wt N (by rw[<-uh HR];exact uh kO);have Mq:=ab (NM (fuel:=fuel) bX Ec (uh HA).2.2 (uh HA).1 FO (by rw[xS];exact oS) (by rw[xS];exact jX) Pe);have H1:=ab (zq2 bX (zq2 bH (zq2 afQ Ec)));have af6:uF (er c fuel ps.vars.length al (kL ps.nodes)):=by
  have h0:uF (kL ps.nodes):=λl hl=>by
   have:l=[]:=eq_of_mem_replicate (show l∈replicate ps.nodes.length [] from hl);rw[this];exact zq5 _
  unfold er at Pe ⊢;split
  .exact h0
  .rename_i hf;rw[if_neg hf]at Pe;exact MT (gE (jz (uh HA).1.tm (by simpa using hf)) _).tidy h0 Pe
 have HKB:=ab af6;clear bX bH afQ Ec Pe JH af6;go_wp2_with fail
 refine(uh Mq).mono ?_;rintro e w2 ⟨rfl,tb,K2,p1,p2,p3⟩;rw[xS]at p2;have HPE:=ab (wd p1 (by omega));have H2:=ab (zq2 p1 (zq2 p2 p3));clear p1 p2 p3 Mq;go_wp2_with fail
 refine(uh HPE).mono ?_;rintro e w3 ⟨rfl,du⟩;have cG:Hid (Sh w3 S c (.pointer (some ⟨Q,0,none⟩)) hv kv wv tb WV K2 (er c fuel ps.vars.length al (kL ps.nodes))/\K2.length=ps.nodes.length/\ii w1 w3 (cW S hv kv wv (replicate ps.nodes.length aJ) WV) (cW S hv kv wv tb WV) (ee (replicate ps.nodes.length [])) (ee K2) []/\uF (er c fuel ps.vars.length al (kL ps.nodes))/\pS c fuel N (er c fuel ps.vars.length al (kL ps.nodes))=R):=ab ⟨(uh H2).1.below du,(uh H2).2.1,(uh H2).2.2.trans (ii.below (X:=[]) du) (λk hk=>by simp at hk),uh HKB,(uh HR).symm⟩;clear du HPE H2 HKB HR;go_wp2_with fail
 go_loopg [4] N (λgn iv wx=>∃(KV:List Value) (K:List (List En)) (s':Sr),iv=.int .i64 (fL (Et s'))/\Hid (Sh wx S c (.pointer (some ⟨Q,0,none⟩)) hv kv wv KV WV K s'/\K.length=ps.nodes.length/\ii w1 wx (cW S hv kv wv (replicate ps.nodes.length aJ) WV) (cW S hv kv wv KV WV) (ee (replicate ps.nodes.length [])) (ee K) []/\uF s'/\pS c fuel gn s'=R))
 case atStart=>exact⟨tb,K2,_,rfl,cG⟩
 case round =>
  clear cG;obtain⟨KV,K,s',rfl,hI⟩:=hrel;obtain⟨h1,h2,h3,h4,h5⟩:=uh hI;have c8:=h1.bs.cell 8 rfl;have Xc:Cp wr Q ws ps al vv pv nv/\∀k∈BE Q vv pv nv,k ∉ cW S hv kv wv KV WV:=by
   have iB:=h3.low (uh H1).2.1 (uh H1).2.2.1;refine⟨(uh H).below iB,λk hk e=>?_⟩;have KH:=(uh H).lt k hk;rcases h3.st.foot k e with p|p
   .rw[append_nil]at p;have:=(uh H1).2.2.1 k p;omega
   .have:=(uh H1).2.1.size;omega
  have Mr:Hid (s'=R->Calls prog 143 #[.pointer (some ⟨S,0,none⟩)] wr λe w'=>∃RB,e=.returned (.pointer (some ⟨RB,0,none⟩))/\eo RB w'):=ab (λe=>(Lq h1 (by omega) (h1.kb h4)).mono (λe2 w' hp=>by
   obtain⟨RB,xZ,av,kv',FV,L,mr,hr3,BU⟩:=hp;refine⟨RB,xZ,?_⟩;have iB:=h3.low (uh H1).2.1 (uh H1).2.2.1;rw[uh gq,<-e];refine⟨av,kv',FV,L,mr.from iB,hr3,λl hl x hx=>?_⟩;obtain⟨l0,h0,e0,he0,rfl⟩:=BU l hl x hx;have agr:=h1.dr l0 h0 e0 he0;refine⟨(agr.1.below mr.bl).ff,agr.2,λk hk=>?_⟩;have Xl:k∈ee K:=bI.2 ⟨l0,h0,e0,he0,mem_cons_of_mem _ hk⟩;rcases h3.dr k Xl with p|p|p
   .obtain⟨l2,Id,e2,he2,-⟩:=bI.1 p;rw[eq_of_mem_replicate Id]at he2;simp at he2
   .simp at p
   .exact zq3 (uh H1).2.1.size p))
  cases gk with
  |zero =>
   have FD:=uh kO;rw[<-h5]at FD;simp[pS]at FD
  |succ g =>
   unfold pS at h5;cases hp:Et s' with
   |none =>
    rw[hp]at h5;have HE:=ab (uh Mr h5);rw[show fL (none:Option Nat)=-1 from rfl];clear h1 h2 h3 h4 h5 Xc hp hI Mr;go_wp2_with fail
    refine(uh HE).mono ?_;rintro e w5 ⟨RB,rfl,hP⟩;have HP:=ab hP;clear hP HE;go_wp2_with fail
    go_ret;exact⟨RB,rfl,uh HP⟩
   |some k =>
    rw[hp]at h5;rw[show fL (some k)=(k:Int) from rfl];cases dK:s'.fu
    .rw[dK]at c8;simp only[dK]at h5;rw[if_neg (by decide)]at h5;have j5:k<K.length:=by
      unfold Et at hp;rw[findIdx?_eq_some_iff_getElem]at hp;obtain⟨h9,-⟩:=hp;rw[h1.km,length_map]at h9;exact h9
     have aas:(rp c fuel k s').ok=true:=wt g (by rw[h5];exact uh kO);have hvk:(c.nds.getD k aI).v<4/\(c.nds.getD k aI).ai<4:=(by rw[(uh HA).2.2];exact(uh HA).2.1.v k);have hNc:uG c.nds:=(by rw[(uh HA).2.2];exact(uh HA).2.1);have HVI:=ab (Rk (fuel:=fuel) h1 Xc.1 Xc.2 (uh HA).2.2 hNc j5 (by omega) aas (h4.at k));have adY:=ab (acg hvk.1 hvk.2 h1.inS h4 aas);have HI:=ab (zq2 h2 (zq2 h3 h5));have hg0:decide ((0:Int)<=(k:Int))=true:=(by simp);clear h1 h2 h3 h4 h5 Xc hp hI Mr j5 aas hvk hNc dK;go_wp2_with fail
     refine(uh HVI).mono ?_;rintro e w5 ⟨rfl,Yv,K3,p1,p2,p3⟩;obtain⟨h2,h3,h5⟩:=uh HI;have hK3:=p2.trans h2;have HPE:=ab (wd p1 (by omega));have H5:=ab (zq2 p1 (zq2 hK3 (zq2 (h3.trans p3 (λk hk=>by simp at hk)) (zq2 (uh adY) h5))));clear p1 p2 p3 h2 h3 h5 hK3 HVI adY HI c8;go_wp2_with fail
     refine(uh HPE).mono ?_;rintro e w6 ⟨rfl,kG⟩;have HN:=ab (zq2 ((uh H5).1.below kG) (zq2 (uh H5).2.1 (zq2 ((uh H5).2.2.1.trans (ii.below (X:=[]) kG) (λk hk=>by simp at hk)) (uh H5).2.2.2)));clear kG HPE H5;go_wp2_with fail
     go_roundg g
     case rel=>exact⟨Yv,K3,_,rfl,HN⟩
     case measure=>omega
    .rw[dK]at c8;simp only[dK,if_true]at h5;have HE:=ab (uh Mr h5);have hg0:decide ((0:Int)<=(k:Int))=true:=(by simp);clear h1 h2 h3 h4 h5 Xc hp hI Mr dK;go_wp2_with fail
     refine(uh HE).mono ?_;rintro e w5 ⟨RB,rfl,hP⟩;have HP:=ab hP;clear hP HE;go_wp2_with fail
     go_ret;exact⟨RB,rfl,uh HP⟩
end
section
variable {w:World} {X Q:Nat} {ws:List ByteArray} {s:PS} {al:List cn} {vv pv nv sv0 lv fv:Value} {st ls:List Int}
theorem vJ(hX:Bk w X 88 [abD Q,fv]):Calls prog 53 #[.pointer (some ⟨X,0,none⟩)] w λe w'=>e=.returned (.bool false)/\∃n,w'=w.drewN n:=by
 have c0:w.cell? ⟨X,0,none⟩=some (.pointer (some ⟨Q,0,none⟩)):=hX.cell 0 rfl;clear hX;go_enter func53,ntmps53;go_wp2_with fail
 go_ret;exact⟨rfl,0,rfl⟩
end
def tM(nds:List Nd)(nv:Nat)(al:List cn):Sr:=pS (xN nds nv al) 4000 1000000 (er (xN nds nv al) 4000 nv al (kL nds))
def JU(nds:List Nd)(nv:Nat)(al:List cn):Rs:=DF (tM nds nv al)
structure An(ps:PS)(al:List cn):Prop where
 a:AOk al
 n:uG ps.nodes
 l:ps.nodes.length<=100000
 p:0<ps.nodes.length
 v:ps.vars.length<=4
 ok:(tM ps.nodes ps.vars.length al).ok=true
structure Fd(W:World)(RB:Nat)(r:Rs)(av kv:Value)(FV:List Value)(L:List (List FE)):Prop where
 bk:Bk W RB 118 [.int .i64 (r.vd:Int),av,kv]
 al:W.ownsRow 0 82 2 av r.al.length (WB r.al)
 kr:W.ownsRow 0 125 1 kv L.length FV
 ke:∀i,i<L.length->W.ownsRow 0 126 1 (FV.getD i aJ) (L.getD i []).length ((L.getD i []).map FE.p)
 km:L.map (λl=>l.map (λx=>x.f))=r.kn
 fm:∀l∈L,∀x∈l,ew W x.A x.f x.av x.ov/\Td x.f
def WJ(RB:Nat)(av kv:Value)(FV:List Value)(L:List (List FE)):List Nat:=TA (tG RB av kv FV)++L.flatMap (λl=>l.flatMap FE.bs)
section
variable {w w':World} {RB:Nat} {r:Rs} {av kv:Value} {FV:List Value} {L:List (List FE)}
theorem Fd.fl(h:Fd w RB r av kv FV L):FV.length=L.length:=by have:=h.kr.1;omega
theorem Fd.lt(h:Fd w RB r av kv FV L):∀k∈WJ RB av kv FV L,k<w.heap.size:=by
 intro k hk;rcases mem_append.1 hk with hk|hk
 .obtain⟨i,hi⟩:=aT.1 hk;rcases zd hi with⟨-,rfl⟩|⟨-,e⟩|⟨-,e⟩|⟨j,hj,-,e⟩
  .exact h.bk.lt
  .exact(h.al.lt k e).2
  .exact(h.kr.lt k e).2
  .exact((h.ke j (by rw[<-h.fl];exact hj)).lt k e).2
 .obtain⟨l,hl,hk⟩:=mem_flatMap.1 hk;obtain⟨x,hx,hk⟩:=mem_flatMap.1 hk;exact(h.fm l hl x hx).1.lt k hk
theorem Fd.of_eq(h:Fd w RB r av kv FV L)(he:∀k∈WJ RB av kv FV L,w'.heap[k]?=w.heap[k]?):Fd w' RB r av kv FV L:=by
 have hf:=h.fl;have h1:∀i k,(tG RB av kv FV)[i]?=some (some k)->w'.heap[k]?=w.heap[k]?:=λi k hi=>he k (mem_append_left _ (aT.2 ⟨i,hi⟩));exact⟨h.bk.of_eq (h1 0 RB rfl),ae h.al (λk hk=>h1 1 k (congrArg some hk)),ae h.kr (λk hk=>h1 2 k (congrArg some hk)),λi hi=>ae (h.ke i hi) (λk hk=>h1 _ k ((Gt (by omega)).trans (congrArg some hk))),h.km,λl hl x hx=>⟨(h.fm l hl x hx).1.of_eq (λk hk=>he k (mem_append_right _ (mem_flatMap.2 ⟨l,hl,mem_flatMap.2 ⟨x,hx,hk⟩⟩))),(h.fm l hl x hx).2⟩⟩
theorem Mk.fd{w0:World}(h:Mk w0 r RB w):∃av kv FV L,Fd w RB r av kv FV L/\(∀k∈WJ RB av kv FV L,w0.heap.size<=k)/\Below w0.heap.size w0 w:=by
 obtain⟨av,kv,FV,L,h1,h2,h3⟩:=h;refine⟨av,kv,FV,L,⟨h1.bk,h1.al,h1.kr,h1.ke,h2,λl hl x hx=>⟨(h3 l hl x hx).1,(h3 l hl x hx).2.1⟩⟩,λk hk=>?_,h1.bl⟩;rcases mem_append.1 hk with hk|hk
 .exact h1.ge k hk
 .obtain⟨l,hl,hk⟩:=mem_flatMap.1 hk;obtain⟨x,hx,hk⟩:=mem_flatMap.1 hk;exact(h3 l hl x hx).2.2 k hk
end
structure Pa(w:World)(X Q:Nat)(ws:List ByteArray)(ps:PS)(al:List cn)(vv pv nv:Value)(fv:Value)(Z:List Nat):Prop where
 bx:Bk w X 88 [abD Q,fv]
 cp:Cp w Q ws ps al vv pv nv
 fd:(fv=.pointer none/\Z=[])\/∃RB av kv FV L,fv=.pointer (some ⟨RB,0,none⟩)/\Fd w RB (JU ps.nodes ps.vars.length al) av kv FV L/\Z=WJ RB av kv FV L
 nx:X ∉ BE Q vv pv nv/\X ∉ Z
section
variable {w w':World} {X Q:Nat} {ws:List ByteArray} {ps:PS} {al:List cn} {vv pv nv fv:Value} {Z:List Nat}
theorem Pa.of_eq(h:Pa w X Q ws ps al vv pv nv fv Z)(he:∀k,k=X\/k∈BE Q vv pv nv\/k∈Z->w'.heap[k]?=w.heap[k]?):Pa w' X Q ws ps al vv pv nv fv Z:=by
 refine⟨h.bx.of_eq (he X (zq0 rfl)),h.cp.of_eq (λk hk=>he k (zq1 (zq0 hk))),?_,h.nx⟩;rcases h.fd with h1|⟨RB,av,kv,FV,L,h1,h2,h3⟩
 .exact zq0 h1
 .exact zq1 ⟨RB,av,kv,FV,L,h1,h2.of_eq (λk hk=>he k (zq1 (zq1 (by rw[h3];exact hk)))),h3⟩
theorem Pa.lt(h:Pa w X Q ws ps al vv pv nv fv Z):∀k,k=X\/k∈BE Q vv pv nv\/k∈Z->k<w.heap.size:=by
 rintro k (rfl|hk|hk)
 .exact h.bx.lt
 .exact h.cp.lt k hk
 .rcases h.fd with⟨-,e⟩|⟨RB,av,kv,FV,L,-,h2,e⟩
  .rw[e]at hk;simp at hk
  .rw[e]at hk;exact h2.lt k hk
theorem Pa.below(h:Pa w X Q ws ps al vv pv nv fv Z)(hb:Below w.heap.size w w'):Pa w' X Q ws ps al vv pv nv fv Z:=h.of_eq (λk hk=>hb.block k (h.lt k hk))
def Ez(w:World)(X Q:Nat)(ws:List ByteArray)(ps:PS)(al:List cn)(vv pv nv:Value)(Z:List Nat)(RB:Nat)(w':World):Prop :=
 ∃av kv FV L,Pa w' X Q ws ps al vv pv nv (.pointer (some ⟨RB,0,none⟩)) (WJ RB av kv FV L)/\Fd w' RB (JU ps.nodes ps.vars.length al) av kv FV L/\au [X] w [X] w'/\∀k∈WJ RB av kv FV L,k∈Z\/w.heap.size<=k
theorem Ce(h:Pa w X Q ws ps al vv pv nv fv Z)(hA:An ps al):
  Calls prog 60 #[.pointer (some ⟨X,0,none⟩)] w λe w'=>∃RB,e=.returned (.pointer (some ⟨RB,0,none⟩))/\Ez w X Q ws ps al vv pv nv Z RB w':=by
 have c0:w.cell? ⟨X,0,none⟩=some (.pointer (some ⟨Q,0,none⟩)):=h.bx.cell 0 rfl;have c1:=h.bx.cell 1 rfl;rcases h.fd with⟨hf,hZ⟩|⟨RB,av,kv,FV,L,hf,hd,hZ⟩
 .subst hf;have So:=ab (Vb h.cp hA.a hA.n hA.l hA.p hA.v 4000 1000000 hA.ok);have Ef:=h.bx.lt;have H:=ab h;clear h hA hZ;go_enter func60,ntmps60;go_wp2_with fail
  refine(uh So).mono ?_;rintro e w1 ⟨RB,rfl,hP⟩;obtain⟨av,kv,FV,L,h1,h2,h3⟩:=hP.fd;have b1:=(uh H).bx.below h3;have d1:=b1.cell 1 rfl;have z1:=b1.frz 1;have b2:=b1.set 1 (.pointer (some ⟨RB,0,none⟩));have d2:=b2.cell 1 rfl;have aL:∀k,k≠X->(w1.setCell ⟨X,1,none⟩ (.pointer (some ⟨RB,0,none⟩))).heap[k]?=w1.heap[k]?:=λk hk=>heap_setCell _ _ _ _ hk;have WT:Ez w X Q ws ps al vv pv nv Z RB (w1.setCell ⟨X,1,none⟩ (.pointer (some ⟨RB,0,none⟩))):=by
   have hZX:X ∉ WJ RB av kv FV L:=λe=>by have:=h2 X e;omega
   have qb:Fd (w1.setCell ⟨X,1,none⟩ (.pointer (some ⟨RB,0,none⟩))) RB (JU ps.nodes ps.vars.length al) av kv FV L:=h1.of_eq (λk hk=>aL k (λe=>hZX (by rw[<-e];exact hk)));refine⟨av,kv,FV,L,⟨b2,((uh H).cp.below h3).of_eq (λk hk=>aL k (λe=>(uh H).nx.1 (by rw[<-e];exact hk))),zq1 ⟨RB,av,kv,FV,L,rfl,qb,rfl⟩,(uh H).nx.1,hZX⟩,qb,((au.ofBw (F:=[X]) h3)).setCell (p:=⟨X,1,none⟩) (zq0 (by simp)) _,λk hk=>zq1 (h2 k hk)⟩
  have HP:=ab WT;clear hP h1 h2 h3 b1 b2 aL WT So;go_wp2_with fail
  go_ret;exact⟨RB,rfl,uh HP⟩
 .subst hf;have HP:Hid (Ez w X Q ws ps al vv pv nv Z RB w):=ab ⟨av,kv,FV,L,by rw[<-hZ];exact h,hd,au.refl _ _,λk hk=>zq0 (by rw[hZ];exact hk)⟩;clear h hA hd hZ;go_enter func60,ntmps60;go_wp2_with fail
  go_ret;exact⟨RB,rfl,uh HP⟩
theorem DU(h:Pa w X Q ws ps al vv pv nv fv Z)(hA:An ps al):
  Calls prog 33 #[.pointer (some ⟨X,0,none⟩)] w λe w'=>e=.returned (.int .i64 ((JU ps.nodes ps.vars.length al).vd:Nat))/\∃RB,Ez w X Q ws ps al vv pv nv Z RB w':=by
 have HEM:=ab (vJ h.bx);have HAN:Hid (∀n,Calls prog 60 #[.pointer (some ⟨X,0,none⟩)] (w.drewN n) λe w'=>∃RB,e=.returned (.pointer (some ⟨RB,0,none⟩))/\Ez w X Q ws ps al vv pv nv Z RB w'):=ab (λn=>(Ce (w:=w.drewN n) (h.of_eq (w':=w.drewN n) (λ_ _=>rfl)) hA).mono (by
  rintro e w' ⟨RB,he,av,kv,FV,L,p1,p2,p3,p4⟩;exact⟨RB,he,av,kv,FV,L,p1,p2,⟨p3.os,p3.tape,p3.output,p3.size,p3.block,p3.foot⟩,p4⟩))
 clear h hA;go_enter func33,ntmps33;go_wp2_with (first|(go_at_call 53;refine(uh HEM).mono ?_;rintro e w1 ⟨rfl,n,rfl⟩))
 refine(uh HAN _).mono ?_;rintro e w2 ⟨RB,rfl,hP⟩;have c0:w2.cell? ⟨RB,0,none⟩=some (.int .i64 ((JU ps.nodes ps.vars.length al).vd:Nat)):=by
  obtain⟨av,kv,FV,L,p1,p2,p3,p4⟩:=hP;exact p2.bk.cell 0 rfl
 have HP:=ab hP;clear hP;go_wp2_with fail
 go_ret;exact⟨rfl,RB,uh HP⟩
end
theorem jR{l:List UInt8}(h:lA l=0):l.length<=240/\gp l≠none/\(bO l).failed=false/\(bO l).vars.length<=4/\(bO l).hid.length<=8:=by
 unfold lA at h;split at h
 .cases h
 .split at h
  .cases h
  .split at h
   .cases h
   .split at h
    .cases h
    .rename_i h1 h2 h3 h4;exact⟨by omega,h2,by simpa using h3,by omega,by omega⟩
theorem abH{l:List UInt8}(h:gp l≠none):(b9 l).length<=l.length:=by
 cases hs:gp l with
 |none=>exact absurd hs h
 |some L =>
  have e:gp l=some ((b9 l).map (·.data.toList)):=by
   unfold b9;rw[hs];simp only[Option.getD_some,map_map];congr 1;exact(map_id' L).symm
  exact(Bb e).1
def TeM(V H k i:Nat):Prop:=(k=0/\i=0)\/(k=1/\i<V)\/(k=2/\i<H)
structure B8(ws:List ByteArray)(s:PS)(M:List Nd):Prop where
 nd:s.nodes=M++[{ iN with nx:=M.length+1 }]
 go:ux s.vars.length 0 M.length M
 ln:M.length<=2*ws.length
 at_:∀a∈eW ws aX,TeM s.vars.length s.hid.length a.lk a.li/\TeM s.vars.length s.hid.length a.rk a.ri/\a.k<=4
theorem Ht{ws:List ByteArray}:∀(n:Nat) (s:PS),(jm ws n s).1.length<=n
 |0,s=>by simp[jm]
 |n+1,s=>by
  unfold jm;split
  .have:=Ht (ws:=ws) n (ep ws s.adv);simp only[length_cons];omega
  .simp
theorem DC{ws:List ByteArray}(h:(fn ws aX).failed=false):∃M,B8 ws (fn ws aX) M:=by
 have hp:(Eu ws aX).pos=ws.length:=by
  by_cases hp:(Eu ws aX).pos=ws.length
  .exact hp
  .unfold fn at h;rw[if_neg hp]at h;cases h
 have hS:fn ws aX=Eu ws aX:=if_pos hp;rw[hS]at h ⊢;obtain⟨s1,dy⟩:∃s1,s1=aG ws eH aX:=⟨_,rfl⟩;obtain⟨s2,gQ⟩:∃s2,s2=pF ws s1:=⟨_,rfl⟩;obtain⟨s3,f8⟩:∃s3,s3=cJ ws (ws.length+1) s2:=⟨_,rfl⟩;have hT:Eu ws aX=ch iN s3:=by rw[f8,gQ,dy];rfl
 rw[hT]at h hp ⊢;have mY:s3.failed=false:=h;have hg:=jx (ws:=ws) (ws.length+1);have mE:s2.failed=false:=hg.ok s2 (by rw[<-f8];exact mY);obtain⟨M,h1,h2,Id,h3⟩:=M3 (ws:=ws) (ws.length+1) s2;rw[<-f8]at h1 h2 Id h3;have tY:s2.nodes=[]:=by rw[gQ,AR.nd,dy,(cL (ws:=ws) (s:=aX) eH).1];rfl
 rw[tY,nil_append]at h1;have tC:=hg.phi s2;rw[<-f8,tY,h1,yC mY]at tC;have hpp:s3.pos=ws.length:=hp;refine⟨M,?_,?_,?_,?_⟩
 .show s3.nodes++[{ iN with nx:=s3.nodes.length+1 }]=_;rw[h1]
 .rw[tY,h1]at h3;exact h3
 .simp only[length_nil]at tC;omega
 .intro a ha;have hL:=akb (ws:=ws) (s:=s1) a (by rw[dy];exact ha);rw[<-gQ]at hL;have up:∀k i,YE s2 k i->TeM (ch iN s3).vars.length (ch iN s3).hid.length k i:=by
   intro k i ht;have e1:(ch iN s3).vars=s3.vars:=rfl;have e2:(ch iN s3).hid=s3.hid:=rfl;rw[e1,e2];rcases ht with ht|ht|ht|ht
   .rw[mE]at ht;cases ht
   .exact zq0 ht
   .exact zq1 (zq0 (by omega))
   .exact zq1 (zq1 (by omega))
  exact⟨up _ _ hL.1,up _ _ hL.2.1,hL.2.2⟩
section
variable {ws:List ByteArray} {s:PS} {M:List Nd}
theorem B8.get(h:B8 ws s M)(n:Nat):(n<M.length/\∃nd,M[n]?=some nd/\s.nodes.getD n aI=nd)\/(M.length<=n/\(s.nodes.getD n aI).v=0/\(s.nodes.getD n aI).ai=0/\(s.nodes.getD n aI).op=0):=by
 rw[h.nd];by_cases hn:n<M.length
 .refine zq0 ⟨hn,M[n],getElem?_eq_getElem hn,?_⟩;rw[getD_eq_getElem?_getD,getElem?_append_left hn,getElem?_eq_getElem hn];rfl
 .refine zq1 ⟨by omega,?_⟩;rw[getD_eq_getElem?_getD,getElem?_append_right (by omega)];cases hk:n-M.length with
  |zero=>exact⟨rfl,rfl,rfl⟩
  |succ k=>exact⟨rfl,rfl,rfl⟩
theorem B8.len(h:B8 ws s M):s.nodes.length=M.length+1:=by rw[h.nd,length_append];rfl
theorem lw4{L i:Nat}(h:Lw L i)(hL:L<=4):i<4:=by rcases h with h|h <;> omega
theorem B8.v4(h:B8 ws s M)(hv:s.vars.length<=4)(n:Nat):(s.nodes.getD n aI).v<4/\(s.nodes.getD n aI).ai<4:=by
 rcases h.get n with⟨-,nd,h1,h2⟩|⟨-,h1,h2,-⟩
 .rw[h2];exact⟨lw4 (h.go n nd h1).1 hv,lw4 (h.go n nd h1).2.1 hv⟩
 .rw[h1,h2];omega
theorem B8.ndo(h:B8 ws s M)(hv:s.vars.length<=4):uG s.nodes:=by
 refine⟨h.v4 hv,λn=>?_,λn hn h0=>?_,λn hn h0=>?_⟩
 .rcases h.get n with⟨-,nd,h1,h2⟩|⟨-,-,-,h1⟩
  .rw[h2];have:=(h.go n nd h1).2.2.1;omega
  .rw[h1];omega
 .rw[h.len];rcases h.get n with⟨-,nd,h1,h2⟩|⟨-,-,-,h1⟩
  .rw[h2];have:=(h.go n nd h1).2.2.2.1;omega
  .exact absurd h1 h0
 .rw[h.len];rcases h.get n with⟨-,nd,h1,h2⟩|⟨-,-,-,h1⟩
  .rw[h2];have:=(h.go n nd h1).2.2.2.1;omega
  .omega
theorem MN{nds:List Nd}(h:(range nds.length).any (lS nds)=false){n:Nat}(hn:n<nds.length):lS nds n=false:=by
 rw[any_eq_false]at h;have:=h n (mem_range.2 hn);simpa using this
theorem B8.fwd(h:B8 ws s M)(hv:s.vars.length<=4)(hb:(range s.nodes.length).any (lS s.nodes)=false):Fwd s.nodes:=by
 refine⟨h.v4 hv,λn hn h0=>?_,λn hn h0=>?_⟩
 .have iy:=MN hb hn;unfold lS at iy;rcases h.get n with⟨hl,nd,h1,h2⟩|⟨-,-,-,h1⟩
  .rw[h2]at iy ⊢;obtain⟨-,-,-,-,-,g1,g2⟩:=h.go n nd h1;by_cases Ic:nd.op=10
   .have h3:=g2 Ic;simp only[Ic,decide_true,Bool.true_and,decide_eq_false_iff_not]at iy;omega
   .have h3:=g1 Ic;omega
  .exact absurd h1 h0
 .rcases h.get n with⟨hl,nd,h1,h2⟩|⟨-,-,-,h1⟩
  .rw[h2]at h0 ⊢;obtain⟨-,-,-,-,g1,-⟩:=h.go n nd h1;have:=g1 h0;omega
  .exfalso;unfold tE at h0;rw[h1]at h0;simp at h0
theorem Bo{V H k i:Nat}(h:TeM V H k i)(hV:V<=4)(hH:H<=8):nK k i<13/\k<=2/\i<=100:=by
 unfold nK;rcases h with⟨rfl,rfl⟩|⟨rfl,h⟩|⟨rfl,h⟩
 .simp
 .simp;omega
 .simp;omega
theorem B8.aok(h:B8 ws s M)(hw:ws.length<=240)(hv:s.vars.length<=4)(hh:s.hid.length<=8):AOk (eW ws aX):=by
 refine⟨λa ha=>⟨(Bo (h.at_ a ha).1 hv hh).1,(Bo (h.at_ a ha).2.1 hv hh).1⟩,?_,λa ha=>?_⟩
 .have h1:=Ht (ws:=ws) (ws.length+1) (ep ws (aG ws eH aX));show(qm ws (aG ws eH aX)::(jm ws (ws.length+1) (ep ws (aG ws eH aX))).1).length<=1000;simp only[length_cons];omega
 .have h1:=Bo (h.at_ a ha).1 hv hh;have h2:=Bo (h.at_ a ha).2.1 hv hh;exact⟨h1.2.1,h2.2.1,h1.2.2,h2.2.2⟩
end
theorem OZ(m k i:Nat):m<=nT m k i/\(k=2->i<nT m k i):=by unfold nT;split <;> constructor <;> intros <;> omega
theorem OW:∀(l:List cn) (m:Nat),m<=l.foldl (λm a=>nT (nT m a.lk a.li) a.rk a.ri) m/\∀a∈l,(a.lk=2->a.li<l.foldl (λm a=>nT (nT m a.lk a.li) a.rk a.ri) m)/\(a.rk=2->a.ri<l.foldl (λm a=>nT (nT m a.lk a.li) a.rk a.ri) m)
 |[],m=>⟨zq4 _,λa ha=>by simp at ha⟩
 |b::l,m=>by
  have h1:=OZ m b.lk b.li;have h2:=OZ (nT m b.lk b.li) b.rk b.ri;obtain⟨h3,h4⟩:=OW l (nT (nT m b.lk b.li) b.rk b.ri);rw[foldl_cons];refine⟨by omega,λa ha=>?_⟩;rcases mem_cons.1 ha with rfl|ha
  .exact⟨λe=>by have:=h1.2 e;omega,λe=>by have:=h2.2 e;omega⟩
  .exact h4 a ha
theorem Z6{al:List cn}{a:cn}(ha:a∈al):(a.lk=2->a.li<xW al)/\(a.rk=2->a.ri<xW al):=(OW al 0).2 a ha
def trS(al:List cn)(nv:Nat):List Nat:=((0::(range nv).map (1+·))++(range (xW al)).map (5+·)).map (λt=>(gS al).getD t 0)
theorem VT(al:List cn)(nv:Nat):(trS al nv).length=1+nv+xW al:=by unfold trS;simp;omega
theorem Q7{al:List cn}{V H k i:Nat}(h:TeM V H k i)(hh:k=2->i<xW al):(gS al).getD (nK k i) 0∈trS al V:=by
 unfold trS nK;refine mem_map.2 ⟨_,?_,rfl⟩;rcases h with⟨rfl,rfl⟩|⟨rfl,h⟩|⟨rfl,h⟩
 .simp
 .simp;omega
 .refine mem_append_right _ (mem_map.2 ⟨i,mem_range.2 (hh rfl),?_⟩);simp
section
variable {ws:List ByteArray} {s:PS} {M:List Nd}
theorem B8.live(h:B8 ws s M)(hv:s.vars.length<=4):∀c∈bQ (oO (bf (eW ws aX)) s.vars.length),c∈trS (eW ws aX) s.vars.length:=by
 intro c hc;unfold bQ at hc;rcases mem_append.1 hc with hc|hc
 .have key:∀i,i<5->(oO (bf (eW ws aX)) s.vars.length).cl.getD i 0∈trS (eW ws aX) s.vars.length:=by
   intro i hi;have e:(oO (bf (eW ws aX)) s.vars.length).cl.getD i 0=if s.vars.length<i then (gS (eW ws aX)).getD 0 0 else (gS (eW ws aX)).getD i 0:=by
    unfold oO;simp only[getD_eq_getElem?_getD,getElem?_map,getElem?_range hi,Option.map_some,Option.getD_some];rw[<-getD_eq_getElem?_getD,<-getD_eq_getElem?_getD,Hf (show 0<5 by omega),Hf hi,getD_eq_getElem?_getD,getD_eq_getElem?_getD]
   rw[e];unfold trS;split
   .exact mem_map.2 ⟨0,by simp,rfl⟩
   .refine mem_map.2 ⟨i,mem_append_left _ ?_,rfl⟩;cases i with
    |zero=>simp
    |succ i=>exact mem_cons_of_mem _ (mem_map.2 ⟨i,mem_range.2 (by omega),by omega⟩)
  unfold kP at hc;simp only[mem_cons,not_mem_nil,or_false]at hc;rcases hc with rfl|rfl|rfl|rfl|rfl
  .exact key 0 (by omega)
  .exact key 1 (by omega)
  .exact key 2 (by omega)
  .exact key 3 (by omega)
  .exact key 4 (by omega)
 .obtain⟨p,hp,hc⟩:=mem_flatMap.1 hc;obtain⟨a,ha,rfl⟩:=mem_map.1 (show p∈((eW ws aX).filter (λa=>a.k==3||a.k==4)).map (iP (gS (eW ws aX))) from hp);have tp:=(mem_filter.1 ha).1;have h1:=h.at_ a tp;have h2:=Z6 tp;simp only[mem_cons,not_mem_nil,or_false]at hc;rcases hc with rfl|rfl
  .exact Q7 h1.1 h2.1
  .exact Q7 h1.2.1 h2.2
end
theorem Lu{nds:List Nd}{nv:Nat}{al:List cn}(h:Mi nds nv al=true):(range nds.length).any (lS nds)=false/\al.any (λa=>decide (a.k=4))=false/\nds.countP (λn=>decide (n.op=7\/n.op=8\/n.op=9))<=5/\nv+xW al+nds.countP (λn=>decide (n.op=4))<=8:=by
 unfold Mi at h;simp only[Bool.and_eq_true,Bool.not_eq_true',decide_eq_true_eq]at h;exact⟨h.1.1.1.1.1,h.1.1.1.1.2,h.1.1.1.2,h.2⟩
theorem OK{nds:List Nd}(h:(range nds.length).any (lS nds)=false)(n:Nat):(OJ nds).getD n false=false:=by
 have key:∀(l:List Nat) (H:List Bool),(∀i∈l,lS nds i=false)->l.foldl (λh i=>if lS nds i=true then h.set (nds.getD i aI).nx true else h) H=H:=by
  intro l;induction l with
  |nil=>intro H _;rfl
  |cons i l ih =>
   intro H hl;rw[foldl_cons,if_neg (by rw[hl i (by simp)];decide)];exact ih H (λj hj=>hl j (by simp[hj]))
 unfold OJ;rw[key _ _ (λi hi=>MN h (mem_range.1 hi)),getD_eq_getElem?_getD,getElem?_replicate];split <;> rfl
theorem IB(nds:List Nd)(n:Nat):a7 (kL nds) n=[]:=by
 unfold a7 kL;rw[getD_eq_getElem?_getD,getElem?_replicate];split <;> rfl
theorem DT(g:Nat->List gT->Nat)(hg:∀n,g n []=0):∀(m k:Nat),tI g k (replicate m [])=0
 |0,k=>rfl
 |m+1,k=>by
  rw[replicate_succ];simp only[tI];rw[hg,DT g hg m (k+1)]
theorem wK{α:Type}(g:α->Nat)(x:α)(hg:g x=0):∀(m:Nat),a9 g (replicate m x)=0
 |0=>rfl
 |m+1=>by
  rw[replicate_succ];simp only[a9];rw[hg,wK g x hg m]
theorem QX(nds:List Nd):pY (kL nds):=λl hl e he=>by
 rw[eq_of_mem_replicate (show l∈replicate nds.length [] from hl)]at he;simp at he
theorem p9{a:Nat}(h:a<=9):9 ^ a<=387420489:=Nat.pow_le_pow_right (by omega) h
theorem p2{a:Nat}(h:a<=5):2 ^ a<=32:=Nat.pow_le_pow_right (by omega) h
section
variable {ws:List ByteArray} {s:PS} {M:List Nd}
theorem B8.ok(h:B8 ws s M)(hw:ws.length<=240)(hv:s.vars.length<=4)(hh:s.hid.length<=8):(tM s.nodes s.vars.length (eW ws aX)).ok=true:=by
 have hA:=h.aok hw hv hh;obtain⟨al,qc⟩:∃al,al=eW ws aX:=⟨_,rfl⟩;have ic:=h.live hv;rw[<-qc]at hA ic ⊢;have dL:=h.len;have Xn:=h.ln;unfold tM;obtain⟨c,hc⟩:∃c,c=xN s.nodes s.vars.length al:=⟨_,rfl⟩;have fZ:c.nds=s.nodes:=by rw[hc];rfl
 rw[<-hc];cases hsi:Mi s.nodes s.vars.length al with
 |true =>
  obtain⟨bH,aU,du,nR⟩:=Lu hsi;have hS:YC c:=⟨by rw[hc];exact bH,by rw[hc];show(!Mi s.nodes s.vars.length al)=false;rw[hsi];rfl,by rw[hc];exact OK bH,by rw[fZ];exact h.fwd hv bH⟩;have h0:∀rest,rest<=th->uH c 0 rest (kL s.nodes):=λrest hr=>⟨by rw[fZ];exact length_replicate,λn e he=>by rw[IB]at he;simp at he,λn _ e he=>by rw[IB]at he;simp at he,λn hn=>by omega,by
   have:Lz c.nds (kL s.nodes)=0:=DT _ (λn=>rfl) _ _;omega,rfl⟩
  refine Jl hS 1000000 (cu:=0) ?_ (by rw[fZ];omega) (zq5 _);unfold er;split
  .exact h0 0 (zq5 _)
  .rename_i hf;have ry:eE (bf al)=false:=(by simpa using hf);have eP:=gE (jz hA.tm ry) s.vars.length;have CR:K3 (oO (bf al) s.vars.length):=by
    intro p hp;obtain⟨a,ha,rfl⟩:=mem_map.1 (show p∈(al.filter (λa=>a.k==3||a.k==4)).map (iP (gS al)) from hp);obtain⟨ha1,ha2⟩:=mem_filter.1 ha;rw[any_eq_false]at aU;have h4:=aU a ha1;show a.k=3;simp only[Bool.or_eq_true,beq_iff_eq]at ha2;simp only[decide_eq_true_eq]at h4;omega
   have arV:aw (aZ (oO (bf al) s.vars.length))<=1+s.vars.length+xW al:=by
    have:=ud eP ic;rw[VT]at this;exact this
   have hcN:tQ Iv c.nds 0=s.nodes.countP (λn=>decide (n.op=4)):=(by rw[fZ];rfl);have hcT:tQ tE c.nds 0=s.nodes.countP (λn=>decide (n.op=7\/n.op=8\/n.op=9)):=(by rw[fZ];rfl);have pi:zt c.nds 0 (aZ (oO (bf al) s.vars.length)):=⟨eP.tidy,CR.td,by omega⟩;have hwt:iw c.nds 0 (aZ (oO (bf al) s.vars.length))<=th:=by
    unfold iw;have h1:=p9 pi.nm;have h2:=p2 (show tQ tE c.nds 0<=5 by omega);exact zq3 (Nat.mul_le_mul h1 h2) (by unfold th;omega)
   unfold dJ;rw[if_pos (zq0 hS.lp)];exact De hS (zq4 _) pi (h0 _ (by omega))
 |false =>
  have hb:c.bd=true:=by rw[hc];show(!Mi s.nodes s.vars.length al)=true;rw[hsi];rfl
  have hV:NdV c:=by intro n;rw[fZ];exact h.v4 hv n
  have he0:rN (kL s.nodes)=0:=wK (α:=List gT) List.length [] rfl s.nodes.length;have FN:fT (kL s.nodes)=0:=wK (α:=List gT) (λl:List gT=>l.countP (λe:gT=>!e.d)) [] rfl s.nodes.length;have KI:(kL s.nodes).lf=3000:=rfl;have h0:Gd 1152 (kL s.nodes):=⟨by rw[he0,KI];decide,by rw[KI];decide,λ_=>by rw[KI];decide,rfl⟩;unfold er;split
  .exact Gs hb hV (by omega) 1000000 (QX _) (h0.wide (by omega)) (by rw[FN,KI];decide) (by omega)
  .rename_i hf;have ry:eE (bf al)=false:=(by simpa using hf);have BW:=(gE (jz hA.tm ry) s.vars.length).tidy;obtain⟨g1,g2⟩:=MQ hb (fuel:=4000) (a:=c.nds.length-1) (b:=0) (by omega) (zq4 1152) (by omega) BW h0 (by rw[KI];decide);refine Gs hb hV (by omega) 1000000 (MS BW (QX _)) (g1.wide (by omega)) ?_ (by omega);rw[FN,KI]at g2;omega
end
theorem lP{l:List UInt8}(h:lA l=0):An (bO l) (eW (b9 l) aX):=by
 obtain⟨h1,h2,h3,h4,h5⟩:=jR h;have hw:=abH h2;obtain⟨M,hM⟩:=DC (ws:=b9 l) h3;have hl:=hM.len;have Xn:=hM.ln;exact⟨hM.aok (by omega) h4 h5,hM.ndo h4,by show(fn (b9 l) aX).nodes.length<=_;omega,by show 0<(fn (b9 l) aX).nodes.length;omega,h4,hM.ok (by omega) h4 h5⟩
section
variable {cs:List (Int × Int)} {st:List Int} {val:Nat->Int} {f:CF}
theorem IU:∀(l:List Nat) {ms:List Nat} {c:Nat},c∈l.foldl iT ms->c∈ms\/c∈l
 |[],_,_,h=>zq0 h
 |a::l,ms,c,h=>by
  rw[foldl_cons]at h;rcases IU l h with h|h
  .unfold iT at h;split at h
   .exact zq0 h
   .rcases mem_append.1 h with h|h
    .exact zq0 h
    .rw[mem_singleton.1 h];exact zq1 (by simp)
  .exact zq1 (by simp[h])
end
structure SfS(c:Cd)(s:Sr):Prop where
 td:pY s
 cl:∀n,∀e∈a7 s n,LH c s n e.f
theorem SP(x y:List UInt8):(⟨x.toArray⟩++⟨y.toArray⟩:ByteArray)=⟨(x++y).toArray⟩:=by apply ByteArray.ext;simp[ByteArray.data_append]
def GY(ws:List ByteArray):Rs:=JU (fn ws aX).nodes (fn ws aX).vars.length (eW ws aX)
def AnW(ws:List ByteArray):Prop:=An (fn ws aX) (eW ws aX)
def xi(w:World)(X:Nat)(ws:List ByteArray)(G:List Nat):Prop :=
 ∃Q vv pv nv fv Z,Pa w X Q ws (fn ws aX) (eW ws aX) vv pv nv fv Z/\G=X::(BE Q vv pv nv++Z)
section
variable {w w':World} {X:Nat} {ws:List ByteArray} {G:List Nat}
theorem xi.of_eq(h:xi w X ws G)(he:∀k∈G,w'.heap[k]?=w.heap[k]?):xi w' X ws G:=by
 obtain⟨Q,vv,pv,nv,fv,Z,h1,rfl⟩:=h;refine⟨Q,vv,pv,nv,fv,Z,h1.of_eq (λk hk=>he k ?_),rfl⟩;rcases hk with rfl|hk|hk
 .exact mem_cons_self
 .exact mem_cons_of_mem _ (mem_append_left _ hk)
 .exact mem_cons_of_mem _ (mem_append_right _ hk)
theorem xi.lt(h:xi w X ws G):∀k∈G,k<w.heap.size:=by
 obtain⟨Q,vv,pv,nv,fv,Z,h1,rfl⟩:=h;intro k hk;refine h1.lt k ?_;rcases mem_cons.1 hk with rfl|hk
 .exact zq0 rfl
 .rcases mem_append.1 hk with hk|hk
  .exact zq1 (zq0 hk)
  .exact zq1 (zq1 hk)
theorem xi.mem(h:xi w X ws G):X∈G:=by
 obtain⟨Q,vv,pv,nv,fv,Z,h1,rfl⟩:=h;exact mem_cons_self
theorem xi.below(h:xi w X ws G)(hb:Below w.heap.size w w'):xi w' X ws G:=h.of_eq (λk hk=>hb.block k (h.lt k hk))
theorem IsL.prg{B:Nat}(h:IsL B w X ws (fn ws aX) (eW ws aX)):∃G,xi w X ws G/\∀k∈G,B<=k:=by
 obtain⟨Q,h0,hB,h1⟩:=h;obtain⟨vv,pv,nv,hC,cN⟩:=h1.cp;have cf:Bk w X 88 [abD Q,.pointer none]:=h0;have bE:∀{e sz n:Nat} {v:Value} {xs:List Value},w.ownsRow 0 e sz v n xs->e≠88->∀k,v.ownBlock=some k->X≠k:=by
  intro e sz n v xs hr aL k hk hXk;rcases hr.2 with⟨rfl,-⟩|⟨g,cap,cur,rfl,-,hg,-⟩
  .cases hk
  .have e1:g=k:=(by injection hk);rw[e1,<-hXk]at hg;unfold Bk at cf;rw[cf]at hg;injection hg with hg;injection hg with _ hg;exact aL hg.symm
 have hPa:Pa w X Q ws (fn ws aX) (eW ws aX) vv pv nv (.pointer none) []:=by
  refine⟨cf,hC,zq0 ⟨rfl,rfl⟩,λhm=>?_,by simp⟩;simp only[BE,mem_cons,mem_append,Option.mem_toList]at hm;rcases hm with rfl|hm|hm|hm
  .have h2:=hC.bk;unfold Bk at h2 cf;rw[h2]at cf;injection cf with cf;injection cf with _ cf;revert cf;decide
  .exact bE hC.vr (by decide) X hm rfl
  .exact bE hC.pr (by decide) X hm rfl
  .exact bE hC.nr (by decide) X hm rfl
 refine⟨_,⟨Q,vv,pv,nv,_,[],hPa,rfl⟩,λk hk=>?_⟩;rcases mem_cons.1 hk with rfl|hk
 .exact hB
 .rw[append_nil]at hk;exact cN k hk
structure Ask(w:World)(X:Nat)(ws:List ByteArray)(G G':List Nat)(w':World):Prop where
 pg:xi w' X ws G'
 st:au [X] w [X] w'
 gr:∀k∈G',k∈G\/w.heap.size<=k
theorem Ez.ask{Q RB:Nat}{vv pv nv:Value}{Z:List Nat}{w1:World}(hG:G=X::(BE Q vv pv nv++Z))(h:Ez w X Q ws (fn ws aX) (eW ws aX) vv pv nv Z RB w1)(hb:Below w1.heap.size w1 w'):∃G',Ask w X ws G G' w':=by
 obtain⟨av,kv,FV,L,h1,-,h3,h4⟩:=h;refine⟨X::(BE Q vv pv nv++WJ RB av kv FV L),⟨Q,vv,pv,nv,_,_,h1.below hb,rfl⟩,⟨hb.os.trans h3.os,hb.tape.trans h3.tape,hb.output.trans h3.output,zq3 h3.size hb.size,λk hk hX=>(hb.block k (zq6 hk h3.size)).trans (h3.block k hk hX),λk hk=>zq0 hk⟩,λk hk=>?_⟩;rw[hG];rcases mem_cons.1 hk with rfl|hk
 .exact zq0 mem_cons_self
 .rcases mem_append.1 hk with hk|hk
  .exact zq0 (mem_cons_of_mem _ (mem_append_left _ hk))
  .rcases h4 k hk with hk|hk
   .exact zq0 (mem_cons_of_mem _ (mem_append_right _ hk))
   .exact zq1 hk
theorem xi.verdict(h:xi w X ws G)(hA:AnW ws):Calls prog 33 #[.pointer (some ⟨X,0,none⟩)] w λe w'=>e=.returned (.int .i64 ((GY ws).vd:Nat))/\∃G',Ask w X ws G G' w':=by
 obtain⟨Q,vv,pv,nv,fv,Z,h1,hG⟩:=h;refine(DU h1 hA).mono ?_;rintro e w1 ⟨rfl,RB,hP⟩;exact⟨rfl,hP.ask hG (Below.refl _ _)⟩
theorem xi.vars(h:xi w X ws G):Calls prog 28 #[.pointer (some ⟨X,0,none⟩)] w λe w'=>e=.returned (.int .i64 (fn ws aX).vars.length)/\∃n,w'=w.drewN n:=by
 obtain⟨Q,vv,pv,nv,fv,Z,h1,-⟩:=h;have HE:=ab (vJ h1.bx);have c0:w.cell? ⟨X,0,none⟩=some (.pointer (some ⟨Q,0,none⟩)):=h1.bx.cell 0 rfl;have q0:=h1.cp.bk.cell 1 rfl;obtain⟨aa,ac,l5,-,-⟩:=aj h1.cp.vr;subst l5;clear h1;go_enter func28,ntmps28;go_wp2_with (go_at_call 53;refine(uh HE).mono ?_;rintro e w' ⟨rfl,n,rfl⟩)
 go_ret;exact⟨rfl,_,rfl⟩
end
def Dsk(w:World)(Y X:Nat)(s:ByteArray):Prop:=Bk w Y 36 [.pointer (some ⟨X,0,none⟩),.string s,.slice none 0 0,.slice none 0 0]
theorem Nv(s:ByteArray)(w:World):Calls prog 16 #[.string s] w λe w'=>Below w.heap.size w w'/\(((240<s.size\/lA s.data.toList≠0)/\e=.returned (.tuple #[.pointer none,.bool true])) \/
  (s.size<=240/\lA s.data.toList=0/\∃Y X G,e=.returned (.tuple #[.pointer (some ⟨Y,0,none⟩),.bool true])/\Dsk w' Y X s/\w.heap.size<=Y/\Y ∉ G/\xi w' X (b9 s.data.toList) G/\∀k∈G,w.heap.size<=k)):=by
 by_cases hl:240<s.size
 .have d0:decide ((240:Int)<(s.size:Int))=true:=by simp;omega
  go_enter func16,ntmps16;go_wp2_with fail
  go_ret2;exact⟨Below.refl _ _,zq0 ⟨zq0 hl,rfl⟩⟩
 .have d0:decide ((240:Int)<(s.size:Int))=false:=by simp;omega
  have HLD:=ab (Dg s w (by omega));go_enter func16,ntmps16;go_wp2_with fail
  refine(uh HLD).mono ?_;rintro e w1 ⟨hb,⟨aL,rfl⟩|⟨h0,X,rfl,hL⟩⟩
  .have d1:((lA s.data.toList:Int)==0)=false:=(by simp;omega);obtain⟨z,hz⟩:∃z,z=lA s.data.toList:=⟨_,rfl⟩;rw[<-hz]at d1 aL ⊢;have HB:=ab hb;have HZ:=ab hz;clear hb HLD hz;go_wp2_with fail
   go_ret2;have fK:((z:Int) != 0)=true:=(by simp;omega);exact⟨uh HB,zq0 ⟨zq1 (by rw[<-uh HZ];exact aL),by rw[<-fK];rfl⟩⟩
  .obtain⟨G,hG,cN⟩:=IsL.prg (show IsL w.heap.size w1 X (b9 s.data.toList) (fn (b9 s.data.toList) aX) (eW (b9 s.data.toList) aX) from hL);have HN:Hid (Below w.heap.size w (w1.alloc (.cells #[.pointer (some ⟨X,0,none⟩),.string s,.slice none 0 0,.slice none 0 0] 36))/\Dsk (w1.alloc (.cells #[.pointer (some ⟨X,0,none⟩),.string s,.slice none 0 0,.slice none 0 0] 36)) w1.heap.size X s/\w.heap.size<=w1.heap.size/\w1.heap.size ∉ G/\xi (w1.alloc (.cells #[.pointer (some ⟨X,0,none⟩),.string s,.slice none 0 0,.slice none 0 0] 36)) X (b9 s.data.toList) G/\∀k∈G,w.heap.size<=k):=ab ⟨hb.trans ((ah w1 _).mono hb.size),Bk.new w1 _ _,hb.size,λhm=>by have:=hG.lt _ hm;omega,hG.below (ah w1 _),cN⟩;have H0:=ab h0;clear hb hL hG cN HLD h0;go_wp2_with fail
   go_ret2;exact⟨(uh HN).1,zq1 ⟨by omega,uh H0,_,X,G,rfl,(uh HN).2⟩⟩
theorem EK{s:Sr}(h:LS s.wr=[])(n k:Nat)(hk:k=2\/k=3\/k=4):Cw s n k=false:=by
 cases hf:Cw s n k with
 |false=>rfl
 |true =>
  exfalso;have hn:n<s.wr.length:=by
   apply Classical.byContradiction;intro hc;unfold Cw at hf;have e:s.wr.getD n []=[]:=(by rw[getD_eq_getElem?_getD,getElem?_eq_none (by omega)];rfl);rw[e]at hf;simp at hf
  have:(n,k)∈LS s.wr:=by
   unfold LS;refine mem_flatMap.2 ⟨n,by simpa using hn,mem_map.2 ⟨k,mem_filter.2 ⟨?_,hf⟩,rfl⟩⟩;rcases hk with rfl|rfl|rfl <;> simp
  rw[h]at this;simp at this
theorem DI{ps:PS}{al:List cn}(hA:An ps al)(hv:(JU ps.nodes ps.vars.length al).vd=0):
  SfS (xN ps.nodes ps.vars.length al) (tM ps.nodes ps.vars.length al)/\(eE (bf al)=false->∀P,LI P->P (bm (xN ps.nodes ps.vars.length al) 0 (aZ (oO (bf al) ps.vars.length)))->xh (tM ps.nodes ps.vars.length al) 0 P):=by
 obtain⟨c,hc⟩:∃c,c=xN ps.nodes ps.vars.length al:=⟨_,rfl⟩;have fZ:c.nds=ps.nodes:=by rw[hc];rfl
 have hS:Sf (tM ps.nodes ps.vars.length al):=by
  unfold JU DF at hv;split at hv
  .cases hv
  .rename_i dK;refine⟨by simpa using dK,EK ?_⟩;apply Classical.byContradiction;intro h0;have hv:(if LS (tM ps.nodes ps.vars.length al).wr=[] then 0 else 1)=0:=hv;rw[if_neg h0]at hv;cases hv
 have bD:=hA.ok;unfold tM at hS bD ⊢;rw[<-hc]at hS bD ⊢;have h0:=uq ps.nodes;have oY:ps.nodes.length-1<ps.nodes.length:=by have:=hA.p;omega
 have key:iS ps.nodes.length (er c 4000 ps.vars.length al (kL ps.nodes))/\JN c (er c 4000 ps.vars.length al (kL ps.nodes)) 0 []/\(Sf (er c 4000 ps.vars.length al (kL ps.nodes))->eE (bf al)=false->∀P,LI P->P (bm c 0 (aZ (oO (bf al) ps.vars.length)))->xh (er c 4000 ps.vars.length al (kL ps.nodes)) 0 P):=by
  have hJ0:∀{s:Sr},jY (kL ps.nodes) s->JN c s 0 []:=λho n e he hd=>by
   have:=ho n e he hd;rw[Bl]at this;simp at this
  unfold er;split
  .rename_i kH;exact⟨h0,hJ0 (jY.refl _),λ_ hf=>by rw[hf]at kH;cases kH⟩
  .rename_i kH;have eP:=gE (jz hA.a.tm (by simpa using kH)) ps.vars.length;rw[fZ];obtain⟨k1,k2,k3⟩:=pB (c:=c) (fuel:=4000) (a:=ps.nodes.length-1) (b:=0) eP.tidy h0 oY hA.p;exact⟨k2,hJ0 (G5 eP.tidy h0 oY hA.p),λhSf _ P hP hp=>k3 hSf P hP hp⟩
 obtain⟨r1,r2,r3⟩:=oy (c:=c) (fuel:=4000) (by rw[fZ]) (by rw[fZ];exact hA.n) 1000000 key.1;exact⟨⟨r2.td,r3 bD hS key.2.1⟩,λhf P hP hp=>r1.kn _ _ hP (key.2.2 (r1.sf hS) hf P hP hp)⟩
theorem QN{ps:PS}{al:List cn}(hA:An ps al)(hv:(JU ps.nodes ps.vars.length al).vd=0):
  SfS (xN ps.nodes ps.vars.length al) (tM ps.nodes ps.vars.length al)/\∀cs t,CsH cs->EA cs t (oO (bf al) ps.vars.length)->KnH (tM ps.nodes ps.vars.length al) 0 cs t:=by
 obtain⟨h1,h2⟩:=DI hA hv;refine⟨h1,λcs t ts KE=>?_⟩;have kH:eE (bf al)=false:=by
  obtain⟨v,h1,h2⟩:=lL.1 KE;have hm:Yw (cs.map (·.1)) (cs.map (·.2)) v (bf al):=by
   refine⟨?_,h1.ap,h1.sp⟩;have:=h1.nl;rwa [show(oO (bf al) ps.vars.length).cl.getD 0 0=(bf al).cl.getD 0 0 from rfl]at this
  exact Y7 hm ts.nd (λa ha=>by obtain⟨d,hd,rfl⟩:=mem_map.1 ha;exact ts.ps d hd)
 have eP:=gE (jz hA.a.tm kH) ps.vars.length;exact h2 kH _ (Nh ts).w (FU (Nh ts) eP.td (KE.td eP))
section
variable {f g:CF}
theorem Pb{cl:List Nat}{ap ap' ow ow':List Pr}(h:∀p,p∈ow'↔p∈ow):fx ⟨cl,ap,ow⟩↔fx ⟨cl,ap',ow'⟩:=by
 constructor
 .intro hF B h1 h2 p hp;exact hF B h1 (λq hq=>h2 q ((h q).2 hq)) p ((h p).1 hp)
 .intro hF B h1 h2 p hp;exact hF B h1 (λq hq=>h2 q ((h q).1 hq)) p ((h p).2 hp)
theorem aah:fx (dm f)↔fx f:=Iff.rfl
theorem aam:fx (orF f)↔fx f:=(Pb (cl:=f.cl) (ap:=f.ap) (ap':=(orF f).ap) (ow:=f.ow) (λ_=>dA)).symm
theorem aan(hk:aq f):fx (qg f)↔fx f:=by
 have ic:=iQ hk.ow hk.cl hk.lf;have hg:∀c,c∈bQ f->(b8 f).getD ((b8 f).idxOf c) 0=c:=λc hc=>by
  rw[getD_eq_getElem?_getD,getElem?_eq_getElem (idxOf_lt_length_iff.2 (ic c hc))];simp
 have dp:∀i,i<5->f.cl.getD i 0∈bQ f:=λi hi=>mem_append_left _ (eQ hi);have hl:∀p∈f.ow,p.l∈bQ f/\p.r∈bQ f:=λp hp=>⟨mem_append_right _ (mem_flatMap.2 ⟨p,hp,by simp⟩),mem_append_right _ (mem_flatMap.2 ⟨p,hp,by simp⟩)⟩;constructor
 .intro hF B h1 h2 p hp;have:=hF (λn=>B ((b8 f).getD n 0)) (λi hi=>by
   show B ((b8 f).getD ((qg f).cl.getD i 0) 0);rw[show(qg f).cl.getD i 0=(b8 f).idxOf (f.cl.getD i 0) from gC f (λc=>(b8 f).idxOf c) hi,hg _ (dp i hi)];exact h1 i hi) (λq hq hB=>by
   obtain⟨q,RT,rfl⟩:=mem_map.1 (show q∈f.ow.map (jf (b8 f)) from hq);have hB:B ((b8 f).getD ((b8 f).idxOf q.l) 0):=hB;show B ((b8 f).getD ((b8 f).idxOf q.r) 0);rw[hg _ (hl q RT).1]at hB;rw[hg _ (hl q RT).2];exact h2 q RT hB) (jf (b8 f) p) (mem_map.2 ⟨p,hp,rfl⟩)
  have this:B ((b8 f).getD ((b8 f).idxOf p.l) 0):=this;rw[hg _ (hl p hp).1]at this;exact this
 .intro hF B h1 h2 p hp;obtain⟨p,hp1,rfl⟩:=mem_map.1 (show p∈f.ow.map (jf (b8 f)) from hp);exact hF (λc=>B ((b8 f).idxOf c)) (λi hi=>by
   have:=h1 i hi;rw[show(qg f).cl.getD i 0=(b8 f).idxOf (f.cl.getD i 0) from gC f (λc=>(b8 f).idxOf c) hi]at this;exact this) (λq hq hB=>h2 (jf (b8 f) q) (mem_map.2 ⟨q,hq,rfl⟩) hB) p hp1
theorem l7(hk:aq f):fx (aZ f)↔fx f:=aam.trans ((aan hk.fg).trans aah)
theorem Uc{k:Nat}(hk:aq f)(hs:tH f=some k):fx (jD f k)↔fx f:=by
 obtain⟨hi,hp⟩:k<f.ow.length/\DO f (f.ow.getD k ax)=true:=by
  unfold tH at hs;obtain⟨h1,h2,-⟩:=findIdx?_eq_some_iff_getElem.1 hs;exact⟨h1,by rw[cQ h1];exact h2⟩
 obtain⟨p,pL⟩:∃p,p=f.ow.getD k ax:=⟨_,rfl⟩;rw[<-pL]at hp;obtain⟨BS,aL,hc⟩:=Bg hp;have jc:=dZ hi;rw[<-pL]at jc;have tr:(jr f.ow k).countP (λq=>decide (q.r=p.l))=1:=by
  have:=jc.countP_eq (λq=>decide (q.r=p.l));unfold zO at hc;rw[hc,countP_cons,decide_eq_false aL]at this;simpa using this.symm
 obtain⟨q,R,hqR,hq,hR⟩:=rK tr;have hq:q.r=p.l:=by simpa using hq
 have hR:∀x∈R,x.r≠p.l:=λx hx=>by simpa using hR x hx
 have fP:f.ow.Perm (p::q::R):=jc.trans (hqR.cons p);have c9:((p::q::R).map (λx:Pr=>x.l)).Nodup:=(fP.map (λx:Pr=>x.l)).nodup_iff.1 hk.lf;rw[map_cons,map_cons,nodup_cons,nodup_cons]at c9;have Um:q.l≠p.l:=λe=>c9.1 (by rw[e];exact mem_cons_self);have Oy:∀x∈R,x.l≠p.l:=λx hx e=>c9.1 (mem_cons_of_mem _ (by rw[<-e];exact mem_map_of_mem (f:=(·.l)) hx));have j6:∀x,x∈(jD f k).ow↔x=⟨4,q.l,p.r⟩\/x∈R:=λx=>by
  show x∈jr (f.ow.map (Go.Proofs.YtciihepbeacppaaGreat.fo1 (f.ow.getD k ax).l (f.ow.getD k ax).r)) k↔_;rw[Bp,<-pL];have h3:=hqR.map (Go.Proofs.YtciihepbeacppaaGreat.fo1 p.l p.r);rw[map_cons]at h3;have e1:Go.Proofs.YtciihepbeacppaaGreat.fo1 p.l p.r q=⟨4,q.l,p.r⟩:=by unfold Go.Proofs.YtciihepbeacppaaGreat.fo1;rw[if_pos hq]
  have e2:R.map (Go.Proofs.YtciihepbeacppaaGreat.fo1 p.l p.r)=R:=by
   conv=>rhs;rw[<-map_id R]
   apply map_congr_left;intro x hx;unfold Go.Proofs.YtciihepbeacppaaGreat.fo1;rw[if_neg (hR x hx)];rfl
  rw[e1,e2]at h3;rw[h3.mem_iff,mem_cons]
 have dp:(jD f k).cl=f.cl:=rfl;have CV:∀i,i<5->f.cl.getD i 0≠p.l:=λi hi5 e=>by
  unfold RY at BS;simp only[Bool.or_eq_false_iff,decide_eq_false_iff_not]at BS;have:i=0\/i=1\/i=2\/i=3\/i=4:=by omega
  rcases this with rfl|rfl|rfl|rfl|rfl
  .exact BS.1.1.1.1 e
  .exact BS.1.1.1.2 e
  .exact BS.1.1.2 e
  .exact BS.1.2 e
  .exact BS.2 e
 constructor
 .intro hF B h1 h2;have hB:=hF B h1 (λx hx hl=>by
   rcases(j6 x).1 hx with rfl|hx
   .have:=h2 q (fP.symm.subset (by simp)) hl;rw[hq]at this;exact h2 p (fP.symm.subset (by simp)) this
   .exact h2 x (fP.symm.subset (by simp[hx])) hl)
  have hBq:B q.l:=hB ⟨4,q.l,p.r⟩ ((j6 _).2 (zq0 rfl));intro x hx;rcases mem_cons.1 (fP.subset hx) with rfl|hx
  .have:=h2 q (fP.symm.subset (by simp)) hBq;rw[hq]at this;exact this
  .rcases mem_cons.1 hx with rfl|hx
   .exact hBq
   .exact hB x ((j6 x).2 (zq1 hx))
 .intro hF B h1 h2;have hB:=hF (λc=>(c=p.l/\B q.l)\/(c≠p.l/\B c)) (λi hi5=>zq1 ⟨CV i hi5,h1 i hi5⟩) (λx hx hl=>by
   rcases mem_cons.1 (fP.subset hx) with rfl|hx
   .rcases hl with⟨-,hl⟩|⟨hl,-⟩
    .exact zq1 ⟨aL,h2 ⟨4,q.l,x.r⟩ ((j6 _).2 (zq0 rfl)) hl⟩
    .exact absurd rfl hl
   .rcases mem_cons.1 hx with rfl|hx
    .rcases hl with⟨hl,-⟩|⟨-,hl⟩
     .exact absurd hl Um
     .exact zq0 ⟨hq,hl⟩
    .rcases hl with⟨hl,-⟩|⟨-,hl⟩
     .exact absurd hl (Oy x hx)
     .exact zq1 ⟨hR x hx,h2 x ((j6 x).2 (zq1 hx)) hl⟩)
  intro x hx;rcases(j6 x).1 hx with rfl|hx
  .rcases hB q (fP.symm.subset (by simp)) with⟨e,-⟩|⟨-,h⟩
   .exact absurd e Um
   .exact h
  .rcases hB x (fP.symm.subset (by simp[hx])) with⟨e,-⟩|⟨-,h⟩
   .exact absurd e (Oy x hx)
   .exact h
theorem m6:∀(n:Nat) {f:CF},aq f->(fx (dM n f)↔fx f)
 |0,_,_=>Iff.rfl
 |n+1,f,h=>by
  unfold dM;split
  .exact Iff.rfl
  .rename_i k hk;exact(m6 n (Hu h k).1).trans (Uc h hk)
end
