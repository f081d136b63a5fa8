import Derived.Test.YtciihepbeacppaaGreatIE
set_option maxRecDepth 100000
set_option maxHeartbeats 0
namespace Go.Proofs.YtciihepbeacppaaGreat
open Tryz Go.RowKit List World Below
set_option linter.unusedVariables false
def ve(s:Sr):Prop:=∀l∈s.kn,l.length<=tD+1
theorem I2{c:Cd}{n:Nat}{f:CF}{s:Sr}(h:ve s)(bm:(bu c n f s).ok=true):ve (bu c n f s):=by
 have hb:=(og bm).2;unfold bu;split
 .exact h
 .show ∀l∈s.kn.set n ((bq s n).filter (λe=>!Eg e.f (bH c n f))++[⟨bH c n f,false⟩]),l.length<=tD+1;intro l hl;rcases mem_or_eq_of_mem_set hl with p|p
  .exact h l p
  .rw[p,length_append,length_singleton];have:=length_filter_le (λe=>!Eg e.f (bH c n f)) (bq s n);omega
theorem IZ{c:Cd}{n:Nat}:∀(l:List CF) {s:Sr},ve s->(l.foldl (λs g=>bu c n g s) s).ok=true->ve (l.foldl (λs g=>bu c n g s) s)
 |[],_,h,_=>h
 |_::l,_,h,bm=>IZ l (I2 h (jw l bm)) bm
theorem M8{c:Cd}{fuel a b:Nat}{f:CF}{s:Sr}(hf:Td f)(h:ve s)(bm:(dU c fuel a b f s).ok=true):ve (dU c fuel a b f s):=by
 unfold dU at bm ⊢;split
 .rename_i hc;rw[if_pos hc]at bm;exact I2 h bm
 .rename_i hc;rw[if_neg hc]at bm;have h1:bV [f]:=λx hx=>by rw[mem_singleton]at hx;subst hx;exact hf
  obtain⟨-,g2,-⟩:=kQ (c:=c) fuel 0 (r:=([f],kO a 2 s)) (res:=[]) h1 (λx hx=>by simp at hx);refine IZ _ ?_ bm;unfold ve;rw[g2];exact h
theorem E6{c:Cd}{fuel a b:Nat}:∀(l:List CF) {s:Sr},bV l->ve s->(l.foldl (λs g=>dU c fuel a b g s) s).ok=true->ve (l.foldl (λs g=>dU c fuel a b g s) s)
 |[],_,_,h,_=>h
 |g::l,_,hl,h,bm=>E6 l (λx hx=>hl x (by simp[hx])) (M8 (hl g (by simp)) h (eR l bm)) bm
theorem ab4{c:Cd}{fuel n:Nat}{f:CF}{s:Sr}(hv:(c.nds.getD n aI).v<4)(ha:(c.nds.getD n aI).ai<4)(hf:Td f)(h:ve s)(bm:(pm c fuel n f s).ok=true):ve (pm c fuel n f s):=by
 obtain⟨h1,h2⟩:=jG hv ha hf;unfold pm at bm ⊢;simp only at bm ⊢;refine E6 _ h2 (E6 _ h1 ?_ (eR _ bm)) bm;unfold ve;show ∀l∈(wrI _ n 4 (wrI _ n 3 (wrI _ n 2 s))).kn,_;rw[qm,qm,qm];exact h
theorem RN{c:Cd}{fuel n:Nat}(hv:(c.nds.getD n aI).v<4)(ha:(c.nds.getD n aI).ai<4):∀(l:List CF) {s:Sr},bV l->ve s->(nN c fuel n l s).ok=true->ve (nN c fuel n l s)
 |[],_,_,h,_=>h
 |f::l,s,hl,h,bm=>by
  unfold nN at bm ⊢;split
  .exact h
  .rename_i hc;rw[if_neg hc]at bm;exact RN hv ha l (λx hx=>hl x (by simp[hx])) (ab4 hv ha (hl f (by simp)) h (nO l bm)) bm
theorem acb{c:Cd}{fuel n:Nat}(hv:(c.nds.getD n aI).v<4)(ha:(c.nds.getD n aI).ai<4){s:Sr}(hi:qo s)(h:ve s)(bm:(sN c fuel n s).ok=true):ve (sN c fuel n s):=by
 unfold sN at bm ⊢;refine RN hv ha _ (λf hf=>?_) ?_ bm
 .unfold mH at hf;obtain⟨e,he,rfl⟩:=mem_map.1 hf;exact hi.at n e (mem_filter.1 he).1
 .show ∀l∈s.kn.set n _,l.length<=tD+1;intro l hl;rcases mem_or_eq_of_mem_set hl with p|p
  .exact h l p
  .rw[p,length_map];unfold bq;by_cases hn:n<s.kn.length
   .rw[bF hn];exact h _ (getElem_mem hn)
   .rw[getD_eq_getElem?_getD,getElem?_eq_none (by omega)];exact zq5 _
theorem RP{c:Cd}{fuel n:Nat}{s:Sr}(bm:(sN c fuel n s).ok=true):s.ok=true:=by
 unfold sN at bm;have h1:=nO _ bm;exact h1
theorem nI{c:Cd}{fuel:Nat}:∀(n:Nat) {s:Sr},(qg c fuel n s).ok=true->s.ok=true
 |0,_,h=>by simp[qg]at h
 |n+1,s,h=>by
  unfold qg at h;split at h
  .exact h
  .split at h
   .exact h
   .exact RP (nI n h)
theorem ve.at{s:Sr}(h:ve s)(n:Nat):(bq s n).length<=tD+1:=by
 unfold bq;by_cases hn:n<s.kn.length
 .rw[bF hn];exact h _ (getElem_mem hn)
 .rw[getD_eq_getElem?_getD,getElem?_eq_none (by omega)];exact zq5 _
section
variable {w W W':World} {S:Nat} {c:Cd} {c0 hv kv wv:Value} {KV WV:List Value} {K:List (List En)} {s:Sr}
theorem Sh.inS(h:Sh w S c c0 hv kv wv KV WV K s):qo s:=by
 intro l hl e he;rw[h.km]at hl;obtain⟨l0,h0,rfl⟩:=mem_map.1 hl;obtain⟨e0,h1,rfl⟩:=mem_map.1 he;exact(h.dr l0 h0 e0 h1).2
theorem Sh.kb(h:Sh w S c c0 hv kv wv KV WV K s)(hb:ve s):∀l∈K,l.length<=tD+1:=λl hl=>by
 have:=hb (l.map En.m) (by rw[h.km];exact mem_map_of_mem hl);rw[length_map]at this;exact this
theorem ii.low{F F' D D':List Nat}(h:ii W W' F F' D D' [])(hb:Below w.heap.size w W)(hF:∀k∈F,w.heap.size<=k):Below w.heap.size w W' :=
 ⟨h.st.os.trans hb.os,h.st.tape.trans hb.tape,h.st.output.trans hb.output,zq3 hb.size h.st.size,λk hk=>(h.st.block k (zq6 hk hb.size) (λe=>by
  rw[append_nil]at e;have:=hF k e;omega)).trans (hb.block k hk)⟩
theorem Rz.from{RB vd:Nat}{av kv:Value}{al:List (Nat × Nat)}{FV:List Value}{L:List (List FE)}(h:Rz W W' RB vd av kv al FV L)(hb:Below w.heap.size w W):Rz w W' RB vd av kv al FV L :=
 ⟨h.bk,h.al,h.kr,h.ke,h.ap,λk hk=>zq3 hb.size (h.ge k hk),hb.trans (h.bl.mono hb.size)⟩
end
def MB(w:World)(r:Rs)(RB:Nat)(w':World):Prop:=∃av kv FV L,Rz w w' RB r.vd av kv r.al FV L/\L.map (λl=>l.map (λx=>x.f))=r.kn/\∀l∈L,∀x∈l,eP w' x.A x.f x.av x.ov/\Td x.f/\∀k∈x.bs,w.heap.size<=k
section
variable {w:World} {Q:Nat} {ws:List ByteArray} {ps:PS} {al:List ci} {vv pv nv:Value}
theorem Vx (h:Cp w Q ws ps al vv pv nv) (hA:MA al) (hN:sQ ps.nodes) (jO:ps.nodes.length<=100000) (si:0<ps.nodes.length) (Gc:ps.vars.length<=4) (fuel N:Nat)
  (bm:(qg (mF ps.nodes ps.vars.length al) fuel N (io (mF ps.nodes ps.vars.length al) fuel ps.vars.length al (nL ps.nodes))).ok=true) :
  Calls prog 92 #[.pointer (some ⟨Q,0,none⟩)] w λe w'=>∃RB,e=.returned (.pointer (some ⟨RB,0,none⟩))/\MB w (Cy (qg (mF ps.nodes ps.vars.length al) fuel N (io (mF ps.nodes ps.vars.length al) fuel ps.vars.length al (nL ps.nodes)))) RB w':=by
 obtain⟨c,hc⟩:∃c,c=mF ps.nodes ps.vars.length al:=⟨_,rfl⟩;have kD:c.nds=ps.nodes:=by rw[hc];rfl
 rw[<-hc]at bm ⊢;obtain⟨R,hR⟩:∃R,R=qg c fuel N (io c fuel ps.vars.length al (nL ps.nodes)):=⟨_,rfl⟩;rw[<-hR]at bm ⊢;have EV:=ab (Ng h hA jO (by omega));rw[<-hc]at EV;have H:=ab h;have HA:=ab (zq2 hA (zq2 hN kD));have HR:=ab hR;have mq:=ab bm;obtain⟨eH,dK⟩:∃eH:Nat->World->Prop,eH=λRB w'=>MB w (Cy R) RB w':=⟨_,rfl⟩;have gC:=ab dK;rw[show(fun(e:Ending) (w':World)=>∃RB,e=.returned (.pointer (some ⟨RB,0,none⟩))/\MB w (Cy R) RB w')=(λe w'=>∃RB,e=.returned (.pointer (some ⟨RB,0,none⟩))/\eH RB w') by rw[dK]];clear h hA hN hc kD hR bm dK;go_enter func92,ntmps92;go_wp2_with fail
 refine(uh EV).mono ?_;rintro e w1 ⟨S,rfl,hv,kv,wv,WV,bT,bz,afS⟩;have Eu:=(uh H).below bz;have ye:(replicate ps.nodes.length ([]:List En)).length=ps.nodes.length:=length_replicate;have PB:(io c fuel ps.vars.length al (nL ps.nodes)).ok=true:=nI N (by rw[<-uh HR];exact uh mq);have MI:=ab (N4 (fuel:=fuel) bT Eu (uh HA).2.2 (uh HA).1 Gc (by rw[ye];exact si) (by rw[ye];exact jO) PB);have H1:=ab (zq2 bT (zq2 bz (zq2 afS Eu)));have af7:ve (io c fuel ps.vars.length al (nL ps.nodes)):=by
  have h0:ve (nL ps.nodes):=λl hl=>by
   have:l=[]:=eq_of_mem_replicate (show l∈replicate ps.nodes.length [] from hl);rw[this];exact zq5 _
  unfold io at PB ⊢;split
  .exact h0
  .rename_i hf;rw[if_neg hf]at PB;exact M8 (kz (mS (uh HA).1.tm (by simpa using hf)) _).tidy h0 PB
 have HKB:=ab af7;clear bT bz afS Eu PB EV af7;go_wp2_with fail
 refine(uh MI).mono ?_;rintro e w2 ⟨rfl,tC,K2,p1,p2,p3⟩;rw[ye]at p2;have HPE:=ab (wM p1 (by omega));have H2:=ab (zq2 p1 (zq2 p2 p3));clear p1 p2 p3 MI;go_wp2_with fail
 refine(uh HPE).mono ?_;rintro e w3 ⟨rfl,dx⟩;have cF:Hid (Sh w3 S c (.pointer (some ⟨Q,0,none⟩)) hv kv wv tC WV K2 (io c fuel ps.vars.length al (nL ps.nodes))/\K2.length=ps.nodes.length/\ii w1 w3 (cY S hv kv wv (replicate ps.nodes.length aJ) WV) (cY S hv kv wv tC WV) (er (replicate ps.nodes.length [])) (er K2) []/\ve (io c fuel ps.vars.length al (nL ps.nodes))/\qg c fuel N (io c fuel ps.vars.length al (nL ps.nodes))=R):=ab ⟨(uh H2).1.below dx,(uh H2).2.1,(uh H2).2.2.trans (ii.below (X:=[]) dx) (λk hk=>by simp at hk),uh HKB,(uh HR).symm⟩;clear dx HPE H2 HKB HR;go_wp2_with fail
 go_loopg [4] N (λgn iv wx=>∃(KV:List Value) (K:List (List En)) (s':Sr),iv=.int .i64 (fU (EN s'))/\Hid (Sh wx S c (.pointer (some ⟨Q,0,none⟩)) hv kv wv KV WV K s'/\K.length=ps.nodes.length/\ii w1 wx (cY S hv kv wv (replicate ps.nodes.length aJ) WV) (cY S hv kv wv KV WV) (er (replicate ps.nodes.length [])) (er K) []/\ve s'/\qg c fuel gn s'=R))
 case atStart=>exact⟨tC,K2,_,rfl,cF⟩
 case round =>
  clear cF;obtain⟨KV,K,s',rfl,hI⟩:=hrel;obtain⟨h1,h2,h3,h4,h5⟩:=uh hI;have c8:=h1.bs.cell 8 rfl;have Xr:Cp wr Q ws ps al vv pv nv/\∀k∈Cb Q vv pv nv,k ∉ cY S hv kv wv KV WV:=by
   have iE:=h3.low (uh H1).2.1 (uh H1).2.2.1;refine⟨(uh H).below iE,λk hk e=>?_⟩;have Pm:=(uh H).lt k hk;rcases h3.st.foot k e with p|p
   .rw[append_nil]at p;have:=(uh H1).2.2.1 k p;omega
   .have:=(uh H1).2.1.size;omega
  have MJ:Hid (s'=R->Calls prog 143 #[.pointer (some ⟨S,0,none⟩)] wr λe w'=>∃RB,e=.returned (.pointer (some ⟨RB,0,none⟩))/\eH RB w'):=ab (λe=>(LJ h1 (by omega) (h1.kb h4)).mono (λe2 w' hp=>by
   obtain⟨RB,ur,av,kv',FV,L,j9,hr3,Ct⟩:=hp;refine⟨RB,ur,?_⟩;have iE:=h3.low (uh H1).2.1 (uh H1).2.2.1;rw[uh gC,<-e];refine⟨av,kv',FV,L,j9.from iE,hr3,λl hl x hx=>?_⟩;obtain⟨l0,h0,e0,he0,rfl⟩:=Ct l hl x hx;have agr:=h1.dr l0 h0 e0 he0;refine⟨(agr.1.below j9.bl).ff,agr.2,λk hk=>?_⟩;have SE:k∈er K:=bB.2 ⟨l0,h0,e0,he0,mem_cons_of_mem _ hk⟩;rcases h3.dr k SE with p|p|p
   .obtain⟨l2,Iv,e2,he2,-⟩:=bB.1 p;rw[eq_of_mem_replicate Iv]at he2;simp at he2
   .simp at p
   .exact zq3 (uh H1).2.1.size p))
  cases gk with
  |zero =>
   have Dn:=uh mq;rw[<-h5]at Dn;simp[qg]at Dn
  |succ g =>
   unfold qg at h5;cases hp:EN s' with
   |none =>
    rw[hp]at h5;have HE:=ab (uh MJ h5);rw[show fU (none:Option Nat)=-1 from rfl];clear h1 h2 h3 h4 h5 Xr hp hI MJ;go_wp2_with fail
    refine(uh HE).mono ?_;rintro e w5 ⟨RB,rfl,hP⟩;have HP:=ab hP;clear hP HE;go_wp2_with fail
    go_ret;exact⟨RB,rfl,uh HP⟩
   |some k =>
    rw[hp]at h5;rw[show fU (some k)=(k:Int) from rfl];cases dX:s'.fu
    .rw[dX]at c8;simp only[dX]at h5;rw[if_neg (by decide)]at h5;have gJ:k<K.length:=by
      unfold EN at hp;rw[findIdx?_eq_some_iff_getElem]at hp;obtain⟨h9,-⟩:=hp;rw[h1.km,length_map]at h9;exact h9
     have aar:(sN c fuel k s').ok=true:=nI g (by rw[h5];exact uh mq);have hvk:(c.nds.getD k aI).v<4/\(c.nds.getD k aI).ai<4:=(by rw[(uh HA).2.2];exact(uh HA).2.1.v k);have hNc:sQ c.nds:=(by rw[(uh HA).2.2];exact(uh HA).2.1);have HVI:=ab (RR (fuel:=fuel) h1 Xr.1 Xr.2 (uh HA).2.2 hNc gJ (by omega) aar (h4.at k));have adV:=ab (acb hvk.1 hvk.2 h1.inS h4 aar);have HI:=ab (zq2 h2 (zq2 h3 h5));have hg0:decide ((0:Int)<=(k:Int))=true:=(by simp);clear h1 h2 h3 h4 h5 Xr hp hI MJ gJ aar hvk hNc dX;go_wp2_with fail
     refine(uh HVI).mono ?_;rintro e w5 ⟨rfl,YH,K3,p1,p2,p3⟩;obtain⟨h2,h3,h5⟩:=uh HI;have hK3:=p2.trans h2;have HPE:=ab (wM p1 (by omega));have H5:=ab (zq2 p1 (zq2 hK3 (zq2 (h3.trans p3 (λk hk=>by simp at hk)) (zq2 (uh adV) h5))));clear p1 p2 p3 h2 h3 h5 hK3 HVI adV HI c8;go_wp2_with fail
     refine(uh HPE).mono ?_;rintro e w6 ⟨rfl,kS⟩;have HN:=ab (zq2 ((uh H5).1.below kS) (zq2 (uh H5).2.1 (zq2 ((uh H5).2.2.1.trans (ii.below (X:=[]) kS) (λk hk=>by simp at hk)) (uh H5).2.2.2)));clear kS HPE H5;go_wp2_with fail
     go_roundg g
     case rel=>exact⟨YH,K3,_,rfl,HN⟩
     case measure=>omega
    .rw[dX]at c8;simp only[dX,if_true]at h5;have HE:=ab (uh MJ h5);have hg0:decide ((0:Int)<=(k:Int))=true:=(by simp);clear h1 h2 h3 h4 h5 Xr hp hI MJ dX;go_wp2_with fail
     refine(uh HE).mono ?_;rintro e w5 ⟨RB,rfl,hP⟩;have HP:=ab hP;clear hP HE;go_wp2_with fail
     go_ret;exact⟨RB,rfl,uh HP⟩
end
section
variable {w:World} {X Q:Nat} {ws:List ByteArray} {s:PS} {al:List ci} {vv pv nv sv0 lv fv:Value} {st ls:List Int}
theorem pX(hX:Bk w X 88 [abv Q,fv]):Calls prog 53 #[.pointer (some ⟨X,0,none⟩)] w λe w'=>e=.returned (.bool false)/\∃n,w'=w.drewN n:=by
 have c0:w.cell? ⟨X,0,none⟩=some (.pointer (some ⟨Q,0,none⟩)):=hX.cell 0 rfl;clear hX;go_enter func53,ntmps53;go_wp2_with fail
 go_ret;exact⟨rfl,0,rfl⟩
end
def rD(nds:List Nd)(nv:Nat)(al:List ci):Sr:=qg (mF nds nv al) 4000 1000000 (io (mF nds nv al) 4000 nv al (nL nds))
def ya(nds:List Nd)(nv:Nat)(al:List ci):Rs:=Cy (rD nds nv al)
structure An(ps:PS)(al:List ci):Prop where
 a:MA al
 n:sQ ps.nodes
 l:ps.nodes.length<=100000
 p:0<ps.nodes.length
 v:ps.vars.length<=4
 ok:(rD ps.nodes ps.vars.length al).ok=true
structure Fd(W:World)(RB:Nat)(r:Rs)(av kv:Value)(FV:List Value)(L:List (List FE)):Prop where
 bk:Bk W RB 118 [.int .i64 (r.vd:Int),av,kv]
 al:W.ownsRow 0 82 2 av r.al.length (xJ r.al)
 kr:W.ownsRow 0 125 1 kv L.length FV
 ke:∀i,i<L.length->W.ownsRow 0 126 1 (FV.getD i aJ) (L.getD i []).length ((L.getD i []).map FE.p)
 km:L.map (λl=>l.map (λx=>x.f))=r.kn
 fm:∀l∈L,∀x∈l,eP W x.A x.f x.av x.ov/\Td x.f
def WY(RB:Nat)(av kv:Value)(FV:List Value)(L:List (List FE)):List Nat:=T8 (tQ RB av kv FV)++L.flatMap (λl=>l.flatMap FE.bs)
section
variable {w w':World} {RB:Nat} {r:Rs} {av kv:Value} {FV:List Value} {L:List (List FE)}
theorem Fd.fl(h:Fd w RB r av kv FV L):FV.length=L.length:=by have:=h.kr.1;omega
theorem Fd.lt(h:Fd w RB r av kv FV L):∀k∈WY RB av kv FV L,k<w.heap.size:=by
 intro k hk;rcases mem_append.1 hk with hk|hk
 .obtain⟨i,hi⟩:=aU.1 hk;rcases zG hi with⟨-,rfl⟩|⟨-,e⟩|⟨-,e⟩|⟨j,hj,-,e⟩
  .exact h.bk.lt
  .exact(h.al.lt k e).2
  .exact(h.kr.lt k e).2
  .exact((h.ke j (by rw[<-h.fl];exact hj)).lt k e).2
 .obtain⟨l,hl,hk⟩:=mem_flatMap.1 hk;obtain⟨x,hx,hk⟩:=mem_flatMap.1 hk;exact(h.fm l hl x hx).1.lt k hk
theorem Fd.of_eq(h:Fd w RB r av kv FV L)(he:∀k∈WY RB av kv FV L,w'.heap[k]?=w.heap[k]?):Fd w' RB r av kv FV L:=by
 have hf:=h.fl;have h1:∀i k,(tQ RB av kv FV)[i]?=some (some k)->w'.heap[k]?=w.heap[k]?:=λi k hi=>he k (mem_append_left _ (aU.2 ⟨i,hi⟩));exact⟨h.bk.of_eq (h1 0 RB rfl),ae h.al (λk hk=>h1 1 k (congrArg some hk)),ae h.kr (λk hk=>h1 2 k (congrArg some hk)),λi hi=>ae (h.ke i hi) (λk hk=>h1 _ k ((GG (by omega)).trans (congrArg some hk))),h.km,λl hl x hx=>⟨(h.fm l hl x hx).1.of_eq (λk hk=>he k (mem_append_right _ (mem_flatMap.2 ⟨l,hl,mem_flatMap.2 ⟨x,hx,hk⟩⟩))),(h.fm l hl x hx).2⟩⟩
theorem MB.fd{w0:World}(h:MB w0 r RB w):∃av kv FV L,Fd w RB r av kv FV L/\(∀k∈WY RB av kv FV L,w0.heap.size<=k)/\Below w0.heap.size w0 w:=by
 obtain⟨av,kv,FV,L,h1,h2,h3⟩:=h;refine⟨av,kv,FV,L,⟨h1.bk,h1.al,h1.kr,h1.ke,h2,λl hl x hx=>⟨(h3 l hl x hx).1,(h3 l hl x hx).2.1⟩⟩,λk hk=>?_,h1.bl⟩;rcases mem_append.1 hk with hk|hk
 .exact h1.ge k hk
 .obtain⟨l,hl,hk⟩:=mem_flatMap.1 hk;obtain⟨x,hx,hk⟩:=mem_flatMap.1 hk;exact(h3 l hl x hx).2.2 k hk
end
structure Pa(w:World)(X Q:Nat)(ws:List ByteArray)(ps:PS)(al:List ci)(vv pv nv:Value)(fv:Value)(Z:List Nat):Prop where
 bx:Bk w X 88 [abv Q,fv]
 cp:Cp w Q ws ps al vv pv nv
 fd:(fv=.pointer none/\Z=[])\/∃RB av kv FV L,fv=.pointer (some ⟨RB,0,none⟩)/\Fd w RB (ya ps.nodes ps.vars.length al) av kv FV L/\Z=WY RB av kv FV L
 nx:X ∉ Cb Q vv pv nv/\X ∉ Z
section
variable {w w':World} {X Q:Nat} {ws:List ByteArray} {ps:PS} {al:List ci} {vv pv nv fv:Value} {Z:List Nat}
theorem Pa.of_eq(h:Pa w X Q ws ps al vv pv nv fv Z)(he:∀k,k=X\/k∈Cb Q vv pv nv\/k∈Z->w'.heap[k]?=w.heap[k]?):Pa w' X Q ws ps al vv pv nv fv Z:=by
 refine⟨h.bx.of_eq (he X (zq0 rfl)),h.cp.of_eq (λk hk=>he k (zq1 (zq0 hk))),?_,h.nx⟩;rcases h.fd with h1|⟨RB,av,kv,FV,L,h1,h2,h3⟩
 .exact zq0 h1
 .exact zq1 ⟨RB,av,kv,FV,L,h1,h2.of_eq (λk hk=>he k (zq1 (zq1 (by rw[h3];exact hk)))),h3⟩
theorem Pa.lt(h:Pa w X Q ws ps al vv pv nv fv Z):∀k,k=X\/k∈Cb Q vv pv nv\/k∈Z->k<w.heap.size:=by
 rintro k (rfl|hk|hk)
 .exact h.bx.lt
 .exact h.cp.lt k hk
 .rcases h.fd with⟨-,e⟩|⟨RB,av,kv,FV,L,-,h2,e⟩
  .rw[e]at hk;simp at hk
  .rw[e]at hk;exact h2.lt k hk
theorem Pa.below(h:Pa w X Q ws ps al vv pv nv fv Z)(hb:Below w.heap.size w w'):Pa w' X Q ws ps al vv pv nv fv Z:=h.of_eq (λk hk=>hb.block k (h.lt k hk))
def zR(w:World)(X Q:Nat)(ws:List ByteArray)(ps:PS)(al:List ci)(vv pv nv:Value)(Z:List Nat)(RB:Nat)(w':World):Prop :=
 ∃av kv FV L,Pa w' X Q ws ps al vv pv nv (.pointer (some ⟨RB,0,none⟩)) (WY RB av kv FV L)/\Fd w' RB (ya ps.nodes ps.vars.length al) av kv FV L/\ar [X] w [X] w'/\∀k∈WY RB av kv FV L,k∈Z\/w.heap.size<=k
theorem sR(h:Pa w X Q ws ps al vv pv nv fv Z)(hA:An ps al):
  Calls prog 60 #[.pointer (some ⟨X,0,none⟩)] w λe w'=>∃RB,e=.returned (.pointer (some ⟨RB,0,none⟩))/\zR w X Q ws ps al vv pv nv Z RB w':=by
 have c0:w.cell? ⟨X,0,none⟩=some (.pointer (some ⟨Q,0,none⟩)):=h.bx.cell 0 rfl;have c1:=h.bx.cell 1 rfl;rcases h.fd with⟨hf,hZ⟩|⟨RB,av,kv,FV,L,hf,hd,hZ⟩
 .subst hf;have Ta:=ab (Vx h.cp hA.a hA.n hA.l hA.p hA.v 4000 1000000 hA.ok);have Ey:=h.bx.lt;have H:=ab h;clear h hA hZ;go_enter func60,ntmps60;go_wp2_with fail
  refine(uh Ta).mono ?_;rintro e w1 ⟨RB,rfl,hP⟩;obtain⟨av,kv,FV,L,h1,h2,h3⟩:=hP.fd;have b1:=(uh H).bx.below h3;have d1:=b1.cell 1 rfl;have z1:=b1.frz 1;have b2:=b1.set 1 (.pointer (some ⟨RB,0,none⟩));have d2:=b2.cell 1 rfl;have aH:∀k,k≠X->(w1.setCell ⟨X,1,none⟩ (.pointer (some ⟨RB,0,none⟩))).heap[k]?=w1.heap[k]?:=λk hk=>heap_setCell _ _ _ _ hk;have Xh:zR w X Q ws ps al vv pv nv Z RB (w1.setCell ⟨X,1,none⟩ (.pointer (some ⟨RB,0,none⟩))):=by
   have hZX:X ∉ WY RB av kv FV L:=λe=>by have:=h2 X e;omega
   have pp:Fd (w1.setCell ⟨X,1,none⟩ (.pointer (some ⟨RB,0,none⟩))) RB (ya ps.nodes ps.vars.length al) av kv FV L:=h1.of_eq (λk hk=>aH k (λe=>hZX (by rw[<-e];exact hk)));refine⟨av,kv,FV,L,⟨b2,((uh H).cp.below h3).of_eq (λk hk=>aH k (λe=>(uh H).nx.1 (by rw[<-e];exact hk))),zq1 ⟨RB,av,kv,FV,L,rfl,pp,rfl⟩,(uh H).nx.1,hZX⟩,pp,((ar.ofBw (F:=[X]) h3)).setCell (p:=⟨X,1,none⟩) (zq0 (by simp)) _,λk hk=>zq1 (h2 k hk)⟩
  have HP:=ab Xh;clear hP h1 h2 h3 b1 b2 aH Xh Ta;go_wp2_with fail
  go_ret;exact⟨RB,rfl,uh HP⟩
 .subst hf;have HP:Hid (zR w X Q ws ps al vv pv nv Z RB w):=ab ⟨av,kv,FV,L,by rw[<-hZ];exact h,hd,ar.refl _ _,λk hk=>zq0 (by rw[hZ];exact hk)⟩;clear h hA hd hZ;go_enter func60,ntmps60;go_wp2_with fail
  go_ret;exact⟨RB,rfl,uh HP⟩
theorem Ef(h:Pa w X Q ws ps al vv pv nv fv Z)(hA:An ps al):
  Calls prog 33 #[.pointer (some ⟨X,0,none⟩)] w λe w'=>e=.returned (.int .i64 ((ya ps.nodes ps.vars.length al).vd:Nat))/\∃RB,zR w X Q ws ps al vv pv nv Z RB w':=by
 have HEM:=ab (pX h.bx);have Yc:Hid (∀n,Calls prog 60 #[.pointer (some ⟨X,0,none⟩)] (w.drewN n) λe w'=>∃RB,e=.returned (.pointer (some ⟨RB,0,none⟩))/\zR w X Q ws ps al vv pv nv Z RB w'):=ab (λn=>(sR (w:=w.drewN n) (h.of_eq (w':=w.drewN n) (λ_ _=>rfl)) hA).mono (by
  rintro e w' ⟨RB,he,av,kv,FV,L,p1,p2,p3,p4⟩;exact⟨RB,he,av,kv,FV,L,p1,p2,⟨p3.os,p3.tape,p3.output,p3.size,p3.block,p3.foot⟩,p4⟩))
 clear h hA;go_enter func33,ntmps33;go_wp2_with (first|(go_at_call 53;refine(uh HEM).mono ?_;rintro e w1 ⟨rfl,n,rfl⟩))
 refine(uh Yc _).mono ?_;rintro e w2 ⟨RB,rfl,hP⟩;have c0:w2.cell? ⟨RB,0,none⟩=some (.int .i64 ((ya ps.nodes ps.vars.length al).vd:Nat)):=by
  obtain⟨av,kv,FV,L,p1,p2,p3,p4⟩:=hP;exact p2.bk.cell 0 rfl
 have HP:=ab hP;clear hP;go_wp2_with fail
 go_ret;exact⟨rfl,RB,uh HP⟩
end
theorem ro{l:List UInt8}(h:mP l=0):l.length<=240/\jc l≠none/\(uI l).failed=false/\(uI l).vars.length<=4/\(uI l).hid.length<=8:=by
 unfold mP at h;split at h
 .cases h
 .split at h
  .cases h
  .split at h
   .cases h
   .split at h
    .cases h
    .rename_i h1 h2 h3 h4;exact⟨by omega,h2,by simpa using h3,by omega,by omega⟩
theorem abC{l:List UInt8}(h:jc l≠none):(qe l).length<=l.length:=by
 cases hs:jc l with
 |none=>exact absurd hs h
 |some L =>
  have e:jc l=some ((qe l).map (·.data.toList)):=by
   unfold qe;rw[hs];simp only[Option.getD_some,map_map];congr 1;exact(map_id' L).symm
  exact(BK e).1
def TeM(V H k i:Nat):Prop:=(k=0/\i=0)\/(k=1/\i<V)\/(k=2/\i<H)
structure CD(ws:List ByteArray)(s:PS)(M:List Nd):Prop where
 nd:s.nodes=M++[{ jT with nx:=M.length+1 }]
 go:uR s.vars.length 0 M.length M
 ln:M.length<=2*ws.length
 at_:∀a∈mC ws bt,TeM s.vars.length s.hid.length a.lk a.li/\TeM s.vars.length s.hid.length a.rk a.ri/\a.k<=4
theorem In{ws:List ByteArray}:∀(n:Nat) (s:PS),(jj ws n s).1.length<=n
 |0,s=>by simp[jj]
 |n+1,s=>by
  unfold jj;split
  .have:=In (ws:=ws) n (eI ws s.adv);simp only[length_cons];omega
  .simp
theorem Q1{ws:List ByteArray}(h:(fy ws bt).failed=false):∃M,CD ws (fy ws bt) M:=by
 have hp:(EO ws bt).pos=ws.length:=by
  by_cases hp:(EO ws bt).pos=ws.length
  .exact hp
  .unfold fy at h;rw[if_neg hp]at h;cases h
 have hS:fy ws bt=EO ws bt:=if_pos hp;rw[hS]at h ⊢;obtain⟨s1,dy⟩:∃s1,s1=aF ws fO bt:=⟨_,rfl⟩;obtain⟨s2,gS⟩:∃s2,s2=rG ws s1:=⟨_,rfl⟩;obtain⟨s3,gi⟩:∃s3,s3=cL ws (ws.length+1) s2:=⟨_,rfl⟩;have hT:EO ws bt=cg jT s3:=by rw[gi,gS,dy];rfl
 rw[hT]at h hp ⊢;have m6:s3.failed=false:=h;have hg:=jC (ws:=ws) (ws.length+1);have mJ:s2.failed=false:=hg.ok s2 (by rw[<-gi];exact m6);obtain⟨M,h1,h2,Iv,h3⟩:=Nj (ws:=ws) (ws.length+1) s2;rw[<-gi]at h1 h2 Iv h3;have xS:s2.nodes=[]:=by rw[gS,Bz.nd,dy,(cQ (ws:=ws) (s:=bt) fO).1];rfl
 rw[xS,nil_append]at h1;have tM:=hg.phi s2;rw[<-gi,xS,h1,yY m6]at tM;have hpp:s3.pos=ws.length:=hp;refine⟨M,?_,?_,?_,?_⟩
 .show s3.nodes++[{ jT with nx:=s3.nodes.length+1 }]=_;rw[h1]
 .rw[xS,h1]at h3;exact h3
 .simp only[length_nil]at tM;omega
 .intro a ha;have hL:=aki (ws:=ws) (s:=s1) a (by rw[dy];exact ha);rw[<-gS]at hL;have up:∀k i,YO s2 k i->TeM (cg jT s3).vars.length (cg jT s3).hid.length k i:=by
   intro k i ht;have e1:(cg jT s3).vars=s3.vars:=rfl;have e2:(cg jT s3).hid=s3.hid:=rfl;rw[e1,e2];rcases ht with ht|ht|ht|ht
   .rw[mJ]at ht;cases ht
   .exact zq0 ht
   .exact zq1 (zq0 (by omega))
   .exact zq1 (zq1 (by omega))
  exact⟨up _ _ hL.1,up _ _ hL.2.1,hL.2.2⟩
section
variable {ws:List ByteArray} {s:PS} {M:List Nd}
theorem CD.get(h:CD ws s M)(n:Nat):(n<M.length/\∃nd,M[n]?=some nd/\s.nodes.getD n aI=nd)\/(M.length<=n/\(s.nodes.getD n aI).v=0/\(s.nodes.getD n aI).ai=0/\(s.nodes.getD n aI).op=0):=by
 rw[h.nd];by_cases hn:n<M.length
 .refine zq0 ⟨hn,M[n],getElem?_eq_getElem hn,?_⟩;rw[getD_eq_getElem?_getD,getElem?_append_left hn,getElem?_eq_getElem hn];rfl
 .refine zq1 ⟨by omega,?_⟩;rw[getD_eq_getElem?_getD,getElem?_append_right (by omega)];cases hk:n-M.length with
  |zero=>exact⟨rfl,rfl,rfl⟩
  |succ k=>exact⟨rfl,rfl,rfl⟩
theorem CD.len(h:CD ws s M):s.nodes.length=M.length+1:=by rw[h.nd,length_append];rfl
theorem lw4{L i:Nat}(h:Lw L i)(hL:L<=4):i<4:=by rcases h with h|h <;> omega
theorem CD.v4(h:CD ws s M)(hv:s.vars.length<=4)(n:Nat):(s.nodes.getD n aI).v<4/\(s.nodes.getD n aI).ai<4:=by
 rcases h.get n with⟨-,nd,h1,h2⟩|⟨-,h1,h2,-⟩
 .rw[h2];exact⟨lw4 (h.go n nd h1).1 hv,lw4 (h.go n nd h1).2.1 hv⟩
 .rw[h1,h2];omega
theorem CD.ndo(h:CD ws s M)(hv:s.vars.length<=4):sQ s.nodes:=by
 refine⟨h.v4 hv,λn=>?_,λn hn h0=>?_,λn hn h0=>?_⟩
 .rcases h.get n with⟨-,nd,h1,h2⟩|⟨-,-,-,h1⟩
  .rw[h2];have:=(h.go n nd h1).2.2.1;omega
  .rw[h1];omega
 .rw[h.len];rcases h.get n with⟨-,nd,h1,h2⟩|⟨-,-,-,h1⟩
  .rw[h2];have:=(h.go n nd h1).2.2.2.1;omega
  .exact absurd h1 h0
 .rw[h.len];rcases h.get n with⟨-,nd,h1,h2⟩|⟨-,-,-,h1⟩
  .rw[h2];have:=(h.go n nd h1).2.2.2.1;omega
  .omega
theorem M2{nds:List Nd}(h:(range nds.length).any (iZ nds)=false){n:Nat}(hn:n<nds.length):iZ nds n=false:=by
 rw[any_eq_false]at h;have:=h n (mem_range.2 hn);simpa using this
theorem CD.fwd(h:CD ws s M)(hv:s.vars.length<=4)(hb:(range s.nodes.length).any (iZ s.nodes)=false):Fwd s.nodes:=by
 refine⟨h.v4 hv,λn hn h0=>?_,λn hn h0=>?_⟩
 .have iA:=M2 hb hn;unfold iZ at iA;rcases h.get n with⟨hl,nd,h1,h2⟩|⟨-,-,-,h1⟩
  .rw[h2]at iA ⊢;obtain⟨-,-,-,-,-,g1,g2⟩:=h.go n nd h1;by_cases Iu:nd.op=10
   .have h3:=g2 Iu;simp only[Iu,decide_true,Bool.true_and,decide_eq_false_iff_not]at iA;omega
   .have h3:=g1 Iu;omega
  .exact absurd h1 h0
 .rcases h.get n with⟨hl,nd,h1,h2⟩|⟨-,-,-,h1⟩
  .rw[h2]at h0 ⊢;obtain⟨-,-,-,-,g1,-⟩:=h.go n nd h1;have:=g1 h0;omega
  .exfalso;unfold xU at h0;rw[h1]at h0;simp at h0
theorem BV{V H k i:Nat}(h:TeM V H k i)(hV:V<=4)(hH:H<=8):xt k i<13/\k<=2/\i<=100:=by
 unfold xt;rcases h with⟨rfl,rfl⟩|⟨rfl,h⟩|⟨rfl,h⟩
 .simp
 .simp;omega
 .simp;omega
theorem CD.aok(h:CD ws s M)(hw:ws.length<=240)(hv:s.vars.length<=4)(hh:s.hid.length<=8):MA (mC ws bt):=by
 refine⟨λa ha=>⟨(BV (h.at_ a ha).1 hv hh).1,(BV (h.at_ a ha).2.1 hv hh).1⟩,?_,λa ha=>?_⟩
 .have h1:=In (ws:=ws) (ws.length+1) (eI ws (aF ws fO bt));show(qw ws (aF ws fO bt)::(jj ws (ws.length+1) (eI ws (aF ws fO bt))).1).length<=1000;simp only[length_cons];omega
 .have h1:=BV (h.at_ a ha).1 hv hh;have h2:=BV (h.at_ a ha).2.1 hv hh;exact⟨h1.2.1,h2.2.1,h1.2.2,h2.2.2⟩
end
theorem Pl(m k i:Nat):m<=nZ m k i/\(k=2->i<nZ m k i):=by unfold nZ;split <;> constructor <;> intros <;> omega
theorem Pi:∀(l:List ci) (m:Nat),m<=l.foldl (λm a=>nZ (nZ m a.lk a.li) a.rk a.ri) m/\∀a∈l,(a.lk=2->a.li<l.foldl (λm a=>nZ (nZ m a.lk a.li) a.rk a.ri) m)/\(a.rk=2->a.ri<l.foldl (λm a=>nZ (nZ m a.lk a.li) a.rk a.ri) m)
 |[],m=>⟨zq4 _,λa ha=>by simp at ha⟩
 |b::l,m=>by
  have h1:=Pl m b.lk b.li;have h2:=Pl (nZ m b.lk b.li) b.rk b.ri;obtain⟨h3,h4⟩:=Pi l (nZ (nZ m b.lk b.li) b.rk b.ri);rw[foldl_cons];refine⟨by omega,λa ha=>?_⟩;rcases mem_cons.1 ha with rfl|ha
  .exact⟨λe=>by have:=h1.2 e;omega,λe=>by have:=h2.2 e;omega⟩
  .exact h4 a ha
theorem aaf{al:List ci}{a:ci}(ha:a∈al):(a.lk=2->a.li<yl al)/\(a.rk=2->a.ri<yl al):=(Pi al 0).2 a ha
def trS(al:List ci)(nv:Nat):List Nat:=((0::(range nv).map (1+·))++(range (yl al)).map (5+·)).map (λt=>(nz al).getD t 0)
theorem Wi(al:List ci)(nv:Nat):(trS al nv).length=1+nv+yl al:=by unfold trS;simp;omega
theorem RE{al:List ci}{V H k i:Nat}(h:TeM V H k i)(hh:k=2->i<yl al):(nz al).getD (xt k i) 0∈trS al V:=by
 unfold trS xt;refine mem_map.2 ⟨_,?_,rfl⟩;rcases h with⟨rfl,rfl⟩|⟨rfl,h⟩|⟨rfl,h⟩
 .simp
 .simp;omega
 .refine mem_append_right _ (mem_map.2 ⟨i,mem_range.2 (hh rfl),?_⟩);simp
section
variable {ws:List ByteArray} {s:PS} {M:List Nd}
theorem CD.live(h:CD ws s M)(hv:s.vars.length<=4):∀c∈bL (sV (bW (mC ws bt)) s.vars.length),c∈trS (mC ws bt) s.vars.length:=by
 intro c hc;unfold bL at hc;rcases mem_append.1 hc with hc|hc
 .have key:∀i,i<5->(sV (bW (mC ws bt)) s.vars.length).cl.getD i 0∈trS (mC ws bt) s.vars.length:=by
   intro i hi;have e:(sV (bW (mC ws bt)) s.vars.length).cl.getD i 0=if s.vars.length<i then (nz (mC ws bt)).getD 0 0 else (nz (mC ws bt)).getD i 0:=by
    unfold sV;simp only[getD_eq_getElem?_getD,getElem?_map,getElem?_range hi,Option.map_some,Option.getD_some];rw[<-getD_eq_getElem?_getD,<-getD_eq_getElem?_getD,Hy (show 0<5 by omega),Hy hi,getD_eq_getElem?_getD,getD_eq_getElem?_getD]
   rw[e];unfold trS;split
   .exact mem_map.2 ⟨0,by simp,rfl⟩
   .refine mem_map.2 ⟨i,mem_append_left _ ?_,rfl⟩;cases i with
    |zero=>simp
    |succ i=>exact mem_cons_of_mem _ (mem_map.2 ⟨i,mem_range.2 (by omega),by omega⟩)
  unfold kj at hc;simp only[mem_cons,not_mem_nil,or_false]at hc;rcases hc with rfl|rfl|rfl|rfl|rfl
  .exact key 0 (by omega)
  .exact key 1 (by omega)
  .exact key 2 (by omega)
  .exact key 3 (by omega)
  .exact key 4 (by omega)
 .obtain⟨p,hp,hc⟩:=mem_flatMap.1 hc;obtain⟨a,ha,rfl⟩:=mem_map.1 (show p∈((mC ws bt).filter (λa=>a.k==3||a.k==4)).map (jm (nz (mC ws bt))) from hp);have Iz:=(mem_filter.1 ha).1;have h1:=h.at_ a Iz;have h2:=aaf Iz;simp only[mem_cons,not_mem_nil,or_false]at hc;rcases hc with rfl|rfl
  .exact RE h1.1 h2.1
  .exact RE h1.2.1 h2.2
end
theorem LM{nds:List Nd}{nv:Nat}{al:List ci}(h:My nds nv al=true):(range nds.length).any (iZ nds)=false/\al.any (λa=>decide (a.k=4))=false/\nds.countP (λn=>decide (n.op=7\/n.op=8\/n.op=9))<=5/\nv+yl al+nds.countP (λn=>decide (n.op=4))<=8:=by
 unfold My at h;simp only[Bool.and_eq_true,Bool.not_eq_true',decide_eq_true_eq]at h;exact⟨h.1.1.1.1.1,h.1.1.1.1.2,h.1.1.1.2,h.2⟩
theorem O6{nds:List Nd}(h:(range nds.length).any (iZ nds)=false)(n:Nat):(Mj nds).getD n false=false:=by
 have key:∀(l:List Nat) (H:List Bool),(∀i∈l,iZ nds i=false)->l.foldl (λh i=>if iZ nds i=true then h.set (nds.getD i aI).nx true else h) H=H:=by
  intro l;induction l with
  |nil=>intro H _;rfl
  |cons i l ih =>
   intro H hl;rw[foldl_cons,if_neg (by rw[hl i (by simp)];decide)];exact ih H (λj hj=>hl j (by simp[hj]))
 unfold Mj;rw[key _ _ (λi hi=>M2 h (mem_range.1 hi)),getD_eq_getElem?_getD,getElem?_replicate];split <;> rfl
theorem IW(nds:List Nd)(n:Nat):bq (nL nds) n=[]:=by
 unfold bq nL;rw[getD_eq_getElem?_getD,getElem?_replicate];split <;> rfl
theorem Ee(g:Nat->List ig->Nat)(hg:∀n,g n []=0):∀(m k:Nat),tR g k (replicate m [])=0
 |0,k=>rfl
 |m+1,k=>by
  rw[replicate_succ];simp only[tR];rw[hg,Ee g hg m (k+1)]
theorem xp{α:Type}(g:α->Nat)(x:α)(hg:g x=0):∀(m:Nat),a7 g (replicate m x)=0
 |0=>rfl
 |m+1=>by
  rw[replicate_succ];simp only[a7];rw[hg,xp g x hg m]
theorem Rq(nds:List Nd):qo (nL nds):=λl hl e he=>by
 rw[eq_of_mem_replicate (show l∈replicate nds.length [] from hl)]at he;simp at he
theorem p9{a:Nat}(h:a<=9):9 ^ a<=387420489:=Nat.pow_le_pow_right (by omega) h
theorem p2{a:Nat}(h:a<=5):2 ^ a<=32:=Nat.pow_le_pow_right (by omega) h
section
variable {ws:List ByteArray} {s:PS} {M:List Nd}
theorem CD.ok(h:CD ws s M)(hw:ws.length<=240)(hv:s.vars.length<=4)(hh:s.hid.length<=8):(rD s.nodes s.vars.length (mC ws bt)).ok=true:=by
 have hA:=h.aok hw hv hh;obtain⟨al,m0⟩:∃al,al=mC ws bt:=⟨_,rfl⟩;have it:=h.live hv;rw[<-m0]at hA it ⊢;have dN:=h.len;have hln:=h.ln;unfold rD;obtain⟨c,hc⟩:∃c,c=mF s.nodes s.vars.length al:=⟨_,rfl⟩;have kD:c.nds=s.nodes:=by rw[hc];rfl
 rw[<-hc];cases hsi:My s.nodes s.vars.length al with
 |true =>
  obtain⟨bz,aW,dx,nU⟩:=LM hsi;have hS:YM c:=⟨by rw[hc];exact bz,by rw[hc];show(!My s.nodes s.vars.length al)=false;rw[hsi];rfl,by rw[hc];exact O6 bz,by rw[kD];exact h.fwd hv bz⟩;have h0:∀rest,rest<=tD->vh c 0 rest (nL s.nodes):=λrest hr=>⟨by rw[kD];exact length_replicate,λn e he=>by rw[IW]at he;simp at he,λn _ e he=>by rw[IW]at he;simp at he,λn hn=>by omega,by
   have:LS c.nds (nL s.nodes)=0:=Ee _ (λn=>rfl) _ _;omega,rfl⟩
  refine JE hS 1000000 (cu:=0) ?_ (by rw[kD];omega) (zq5 _);unfold io;split
  .exact h0 0 (zq5 _)
  .rename_i hf;have yj:gH (bW al)=false:=(by simpa using hf);have fj:=kz (mS hA.tm yj) s.vars.length;have Dg:K3 (sV (bW al) s.vars.length):=by
    intro p hp;obtain⟨a,ha,rfl⟩:=mem_map.1 (show p∈(al.filter (λa=>a.k==3||a.k==4)).map (jm (nz al)) from hp);obtain⟨ha1,ha2⟩:=mem_filter.1 ha;rw[any_eq_false]at aW;have h4:=aW a ha1;show a.k=3;simp only[Bool.or_eq_true,beq_iff_eq]at ha2;simp only[decide_eq_true_eq]at h4;omega
   have arQ:aw (aQ (sV (bW al) s.vars.length))<=1+s.vars.length+yl al:=by
    have:=ux fj it;rw[Wi]at this;exact this
   have hcN:ub IQ c.nds 0=s.nodes.countP (λn=>decide (n.op=4)):=(by rw[kD];rfl);have hcT:ub xU c.nds 0=s.nodes.countP (λn=>decide (n.op=7\/n.op=8\/n.op=9)):=(by rw[kD];rfl);have v7:zW c.nds 0 (aQ (sV (bW al) s.vars.length)):=⟨fj.tidy,Dg.td,by omega⟩;have hwt:ix c.nds 0 (aQ (sV (bW al) s.vars.length))<=tD:=by
    unfold ix;have h1:=p9 v7.nm;have h2:=p2 (show ub xU c.nds 0<=5 by omega);exact zq3 (Nat.mul_le_mul h1 h2) (by unfold tD;omega)
   unfold dU;rw[if_pos (zq0 hS.lp)];exact DE hS (zq4 _) v7 (h0 _ (by omega))
 |false =>
  have hb:c.bd=true:=by rw[hc];show(!My s.nodes s.vars.length al)=true;rw[hsi];rfl
  have hV:NdV c:=by intro n;rw[kD];exact h.v4 hv n
  have he0:rU (nL s.nodes)=0:=xp (α:=List ig) List.length [] rfl s.nodes.length;have Gb:f7 (nL s.nodes)=0:=xp (α:=List ig) (λl:List ig=>l.countP (λe:ig=>!e.d)) [] rfl s.nodes.length;have KY:(nL s.nodes).lf=3000:=rfl;have h0:Gd 1152 (nL s.nodes):=⟨by rw[he0,KY];decide,by rw[KY];decide,λ_=>by rw[KY];decide,rfl⟩;unfold io;split
  .exact GF hb hV (by omega) 1000000 (Rq _) (h0.wide (by omega)) (by rw[Gb,KY];decide) (by omega)
  .rename_i hf;have yj:gH (bW al)=false:=(by simpa using hf);have sn:=(kz (mS hA.tm yj) s.vars.length).tidy;obtain⟨g1,g2⟩:=M6 hb (fuel:=4000) (a:=c.nds.length-1) (b:=0) (by omega) (zq4 1152) (by omega) sn h0 (by rw[KY];decide);refine GF hb hV (by omega) 1000000 (M7 sn (Rq _)) (g1.wide (by omega)) ?_ (by omega);rw[Gb,KY]at g2;omega
end
theorem Hl{l:List UInt8}(h:mP l=0):An (uI l) (mC (qe l) bt):=by
 obtain⟨h1,h2,h3,h4,h5⟩:=ro h;have hw:=abC h2;obtain⟨M,hM⟩:=Q1 (ws:=qe l) h3;have hl:=hM.len;have hln:=hM.ln;exact⟨hM.aok (by omega) h4 h5,hM.ndo h4,by show(fy (qe l) bt).nodes.length<=_;omega,by show 0<(fy (qe l) bt).nodes.length;omega,h4,hM.ok (by omega) h4 h5⟩
section
variable {c:Cd} {fuel n:Nat} {s:Sr}
theorem RX(n k:Nat)(s:Sr):(kO n k s).wr.length=s.wr.length:=by unfold kO;simp
theorem GV(b:Bool)(n k:Nat)(s:Sr):(wrI b n k s).wr.length=s.wr.length:=by
 unfold wrI;split
 .exact RX _ _ _
 .rfl
theorem I3(f:CF):(bu c n f s).wr.length=s.wr.length:=by unfold bu;split <;> rfl
theorem I0:∀(l:List CF) {s:Sr},(l.foldl (λs g=>bu c n g s) s).wr.length=s.wr.length
 |[],_=>rfl
 |f::l,s=>by rw[foldl_cons,I0 l,I3]
theorem uj{β:Type}(g:List CF × Sr->β->List CF × Sr)(hg:∀r b,(g r b).2.wr=r.2.wr):∀(l:List β) (r:List CF × Sr),(l.foldl g r).2.wr=r.2.wr
 |[],_=>rfl
 |b::l,r=>by rw[foldl_cons,uj g hg l,hg]
theorem Zq(r:List CF × Sr)(g:CF):(l7 c r g).2.wr=r.2.wr:=by unfold l7;split <;> rfl
theorem Zu{f:CF}{i:Nat}(r:List CF × Sr)(a:Nat):(oS c f i r a).2.wr=r.2.wr:=by
 unfold oS;split
 .exact uj _ Zq _ _
 .rfl
theorem T6{f:CF}(r:List CF × Sr)(i:Nat):(eU c f r i).2.wr=r.2.wr:=uj _ Zu _ _
theorem Od:∀(n k:Nat) (res:List CF) (r:List CF × Sr),(ip c n k res r).2.wr=r.2.wr
 |0,_,_,_=>rfl
 |n+1,k,res,r=>by
  unfold ip;split
  .rw[Od n];unfold ud;split
   .rfl
   .exact uj _ T6 _ _
  .rfl
theorem Na{a b:Nat}(f:CF):(dU c fuel a b f s).wr.length=s.wr.length:=by
 unfold dU;split
 .exact I3 _
 .dsimp only;rw[I0,Od];exact RX _ _ _
theorem E7{a b:Nat}:∀(l:List CF) {s:Sr},(l.foldl (λs g=>dU c fuel a b g s) s).wr.length=s.wr.length
 |[],_=>rfl
 |f::l,s=>by rw[foldl_cons,E7 l,Na]
theorem ab5(f:CF):(pm c fuel n f s).wr.length=s.wr.length:=by
 unfold pm;dsimp only;rw[E7,E7];show(wrI _ _ _ _).wr.length=_;rw[GV,GV,GV]
theorem RO:∀(l:List CF) {s:Sr},(nN c fuel n l s).wr.length=s.wr.length
 |[],_=>rfl
 |f::l,s=>by
  unfold nN;split
  .rfl
  .rw[RO l,ab5]
theorem Rc:∀(k:Nat) {s:Sr},(qg c fuel k s).wr.length=s.wr.length
 |0,_=>rfl
 |k+1,s=>by
  unfold qg;split
  .rfl
  .split
   .rfl
   .rw[Rc k];unfold sN;rw[RO]
end
theorem Hm(nds:List Nd)(nv:Nat)(al:List ci):(rD nds nv al).wr.length=nds.length:=by
 unfold rD;rw[Rc];unfold io;split
 .exact length_replicate
 .rw[Na];exact length_replicate
theorem Kc{ps:PS}{al:List ci}(h:An ps al):(ya ps.nodes ps.vars.length al).al.length<=1000000:=by
 unfold ya Cy;split
 .exact zq5 _
 .show(Hj (rD ps.nodes ps.vars.length al).wr).length<=_;rw[<-Hi];have h1:=zY (rD ps.nodes ps.vars.length al).wr (rD ps.nodes ps.vars.length al).wr.length;have h2:=h.l;rw[Hm]at h1 ⊢;omega
section
variable {cs:List (Int × Int)} {st:List Int} {val:Nat->Int} {f:CF}
theorem Bo:∀(l:List Nat) {ms:List Nat} {c:Nat},c∈l.foldl iS ms->c∈ms\/c∈l
 |[],_,_,h=>zq0 h
 |a::l,ms,c,h=>by
  rw[foldl_cons]at h;rcases Bo l h with h|h
  .unfold iS at h;split at h
   .exact zq0 h
   .rcases mem_append.1 h with h|h
    .exact zq0 h
    .rw[mem_singleton.1 h];exact zq1 (by simp)
  .exact zq1 (by simp[h])
end
theorem nQ{l:List (Nat × Nat)}{i:Nat}(hi:i<l.length):(xJ l)[i*2]?=some (.int .i64 (l[i].1:Int))/\(xJ l)[i*2+1]?=some (.int .i64 (l[i].2:Int)):=by
 induction l generalizing i with
 |nil=>simp at hi
 |cons a l ih =>
  cases i with
  |zero=>exact⟨rfl,rfl⟩
  |succ i =>
   have:=ih (i:=i) (by simpa using hi);unfold xJ at this ⊢;rw[flatMap_cons,show(i+1)*2=(i*2)+1+1 by omega,show i*2+1+1+1=(i*2+1)+1+1 by omega];exact this
theorem RA{xs:List Value}{k:Nat}{a b:Value}(h:k*2+1<xs.length):((xs.set (k*2) a).set (k*2+1) b).take ((k+1)*2)=xs.take (k*2)++[a,b]:=by
 rw[show(k+1)*2=k*2+1+1 by omega,take_add_one,take_add_one,take_set_of_le (by omega),take_set_of_le (zq4 _),getElem?_set_ne (by omega),getElem?_set_self (by omega),getElem?_set_self (by rw[length_set];exact h)];simp
section
variable {w w':World} {X Q:Nat} {ws:List ByteArray} {ps:PS} {al:List ci} {vv pv nv fv:Value} {Z:List Nat}
theorem E2(h:Pa w X Q ws ps al vv pv nv fv Z)(hA:An ps al)(hl:(ya ps.nodes ps.vars.length al).al.length<=1000000):
  Calls prog 41 #[.pointer (some ⟨X,0,none⟩)] w λe w'=>∃v,e=.returned v/\w'.ownsRow w.heap.size 82 2 v (ya ps.nodes ps.vars.length al).al.length (xJ (ya ps.nodes ps.vars.length al).al)/\((ya ps.nodes ps.vars.length al).al=[]->v=.slice none 0 0)/\∃RB w1,zR w X Q ws ps al vv pv nv Z RB w1/\Below w1.heap.size w1 w':=by
 obtain⟨j0,hj0,hy0,US,EJ⟩:=info_parts infoAl;have HEM:=ab (pX h.bx);have Yc:Hid (∀n,Calls prog 60 #[.pointer (some ⟨X,0,none⟩)] (w.drewN n) λe w'=>∃RB,e=.returned (.pointer (some ⟨RB,0,none⟩))/\zR w X Q ws ps al vv pv nv Z RB w'):=ab (λn=>(sR (w:=w.drewN n) (h.of_eq (w':=w.drewN n) (λ_ _=>rfl)) hA).mono (by
  rintro e w' ⟨RB,he,av,kv,FV,L,p1,p2,p3,p4⟩;exact⟨RB,he,av,kv,FV,L,p1,p2,⟨p3.os,p3.tape,p3.output,p3.size,p3.block,p3.foot⟩,p4⟩))
 obtain⟨R,hR⟩:∃R,R=(ya ps.nodes ps.vars.length al).al:=⟨_,rfl⟩;rw[<-hR]at hl ⊢;have HR:=ab hR;clear h hA hR;go_enter func41,ntmps41;go_wp2_with (first|(go_at_call 53;refine(uh HEM).mono ?_;rintro e w1 ⟨rfl,n,rfl⟩))
 refine(uh Yc _).mono ?_;rintro e w2 ⟨RB,rfl,hP⟩;have mO:w.heap.size<=w2.heap.size:=by obtain⟨av,kv,FV,L,p1,p2,p3,p4⟩:=hP;exact p3.size
 obtain⟨av,EC,bp⟩:∃av,w2.cell? ⟨RB,1,none⟩=some av/\w2.ownsRow 0 82 2 av R.length (xJ R):=by
  obtain⟨av,kv,FV,L,p1,p2,p3,p4⟩:=hP;exact⟨av,p2.bk.cell 1 rfl,by rw[uh HR];exact p2.al⟩
 obtain⟨aa,ac,ko,-,-⟩:=am bp;subst ko;have HP:=ab hP;have kh:=ab bp;clear hP bp Yc HEM;by_cases h0:R=[]
 .have d0:((R.length:Int)==(0:Int))=true:=by rw[h0];rfl
  have HE:=ab h0;clear h0;go_wp2_with fail
  go_ret;refine⟨_,rfl,?_,λ_=>rfl,RB,w2,uh HP,Below.refl _ _⟩;rw[uh HE];exact⟨rfl,.inl ⟨rfl,rfl⟩⟩
 .have d0:((R.length:Int)==(0:Int))=false:=by
   have:R.length≠0:=λe=>h0 (length_eq_zero_iff.1 e);simp;omega
  have tU:=ab h0;clear h0;go_wp2_with (at_make;refine wpList_make_full _ rfl _ _ 55 rfl w2.heap.size 82 j0 (.agg #[.int .i64 0,.int .i64 0]) 2 underlying55 hj0 hy0 US .i64 .i64 _ _ R.length rfl rfl rfl rfl (by rw[EJ];omega) (by unfold maxLen;omega) (zq4 _) ?_)
  intro w3 XC Pd;have dx:Below w2.heap.size w2 w3:=(Below.refl _ _).grown Pd (zq4 _) (λk h=>by cases h);obtain⟨b,SA⟩:∃b,b=w2.heap.size:=⟨_,rfl⟩;have PF:w3.ownsRow w2.heap.size 82 2 (.slice (some ⟨b,0,none⟩) R.length R.length) R.length (madeCells (Value.agg #[.int .i64 0,.int .i64 0]).cells (R.length*2)).toList:=by rw[SA];exact XC
  have cF:Hid (w3.ownsRow w2.heap.size 82 2 (.slice (some ⟨b,0,none⟩) R.length R.length) R.length (madeCells (Value.agg #[.int .i64 0,.int .i64 0]).cells (R.length*2)).toList/\((madeCells (Value.agg #[.int .i64 0,.int .i64 0]).cells (R.length*2)).toList).take (0*2)=xJ (R.take 0)/\Below w2.heap.size w2 w3):=ab ⟨PF,by simp[xJ],dx⟩;have KF:=block_lt_of_cell? w2 _ EC;rw[<-SA];have EV:=ab SA;clear XC Pd dx PF SA;go_wp2_with fail
  go_loopg [5] R.length (λgn iv wx=>∃(k:Nat) (xs:List Value),k+gn=R.length/\iv=.int .i64 k/\Hid (wx.ownsRow w2.heap.size 82 2 (.slice (some ⟨b,0,none⟩) R.length R.length) R.length xs/\xs.take (k*2)=xJ (R.take k)/\Below w2.heap.size w2 wx))
  case atStart=>exact⟨0,_,by omega,rfl,cF⟩
  case round =>
   clear cF;obtain⟨k,xs,gu,rfl,hI⟩:=hrel;obtain⟨G1,ze⟩:∃G1,G1=gk:=⟨_,rfl⟩;obtain⟨h1,h2,h3⟩:=uh hI;by_cases au:k<R.length
   .have hd:decide ((k:Int)<(R.length:Int))=true:=(by simp;omega);have c1:=(h3.cell KF).trans EC;have j9:=eY (uh kh) h3;obtain⟨g,cap,dE,-,-⟩:=b8 j9 (by omega);simp only[Value.slice.injEq,true_and]at dE;obtain⟨rfl,rfl⟩:=dE;have x0:=(j9.cellAt (k*2) (by omega)).trans (nQ au).1;have x1:=(j9.cellAt (k*2+1) (by omega)).trans (nQ au).2;have SL:=h1.1;obtain⟨u0,y0⟩:∃u,wr.cell? ⟨b,k*2,none⟩=some u:=⟨_,(h1.cellAt (k*2) (by omega)).trans (getElem?_eq_getElem (by omega))⟩;obtain⟨u1,y1⟩:∃u,wr.cell? ⟨b,k*2+1,none⟩=some u:=⟨_,(h1.cellAt (k*2+1) (by omega)).trans (getElem?_eq_getElem (by omega))⟩;have z0:=h1.frozenAt (k*2);have z1:=h1.frozenAt (k*2+1);have aP:R.take (k+1)=R.take k++[R[k]]:=take_succ_eq_append_getElem au;obtain⟨p,hp⟩:∃p,p=R[k]:=⟨_,rfl⟩;rw[<-hp]at x0 x1 aP;have r6:=((h1.stored (k*2) (.int .i64 (p.1:Int))).1.stored (k*2+1) (.int .i64 (p.2:Int))).1;have hbw:w2.heap.size<=b:=(by rw[uh EV];exact zq4 _);have b6:=(h3.setCell (p:=⟨b,k*2,none⟩) hbw (.int .i64 (p.1:Int))).setCell (p:=⟨b,k*2+1,none⟩) hbw (.int .i64 (p.2:Int));have t6:((xs.set (k*2) (.int .i64 (p.1:Int))).set (k*2+1) (.int .i64 (p.2:Int))).take ((k+1)*2)=xJ (R.take (k+1)):=by
     rw[RA (by omega),h2,aP,Hh];rfl
    have HN:=ab (zq2 r6 (zq2 t6 b6));have k1:(0:Int)<=(k:Int):=(by omega);have k2:(k:Int)<(R.length:Int):=(by omega);obtain⟨p1,p2⟩:=p;simp only at x0 x1 HN;clear h1 h2 h3 j9 SL aP hp r6 hbw b6 t6 hI;go_wp2_with fail
    go_roundg (G1-1)
    case rel=>exact⟨k+1,_,by omega,by go_num,HN⟩
    case measure=>omega
   .have hd:decide ((k:Int)<(R.length:Int))=false:=(by simp;omega);have hxs:xs=xJ R:=by
     have h4:=h2;rw[take_of_length_le (by rw[h1.1];omega),take_of_length_le (by omega)]at h4;exact h4
    have HN:=ab (zq2 (show wr.ownsRow w2.heap.size 82 2 (.slice (some ⟨b,0,none⟩) R.length R.length) R.length (xJ R) by rw[<-hxs];exact h1) h3);clear h1 h2 h3 hI hxs;go_wp2_with fail
    go_ret;exact⟨_,rfl,dY (uh HN).1 mO,λe=>absurd e (uh tU),RB,w2,uh HP,(uh HN).2⟩
end
theorem aey(x y:List UInt8):(⟨x.toArray⟩++⟨y.toArray⟩:ByteArray)=⟨(x++y).toArray⟩:=by apply ByteArray.ext;simp[ByteArray.data_append]
def vp(ws:List ByteArray):Rs:=ya (fy ws bt).nodes (fy ws bt).vars.length (mC ws bt)
def SU(ws:List ByteArray):Prop:=An (fy ws bt) (mC ws bt)
def vf(w:World)(X:Nat)(ws:List ByteArray)(G:List Nat):Prop :=
 ∃Q vv pv nv fv Z,Pa w X Q ws (fy ws bt) (mC ws bt) vv pv nv fv Z/\G=X::(Cb Q vv pv nv++Z)
section
variable {w w':World} {X:Nat} {ws:List ByteArray} {G:List Nat}
theorem vf.of_eq(h:vf w X ws G)(he:∀k∈G,w'.heap[k]?=w.heap[k]?):vf w' X ws G:=by
 obtain⟨Q,vv,pv,nv,fv,Z,h1,rfl⟩:=h;refine⟨Q,vv,pv,nv,fv,Z,h1.of_eq (λk hk=>he k ?_),rfl⟩;rcases hk with rfl|hk|hk
 .exact mem_cons_self
 .exact mem_cons_of_mem _ (mem_append_left _ hk)
 .exact mem_cons_of_mem _ (mem_append_right _ hk)
theorem vf.lt(h:vf w X ws G):∀k∈G,k<w.heap.size:=by
 obtain⟨Q,vv,pv,nv,fv,Z,h1,rfl⟩:=h;intro k hk;refine h1.lt k ?_;rcases mem_cons.1 hk with rfl|hk
 .exact zq0 rfl
 .rcases mem_append.1 hk with hk|hk
  .exact zq1 (zq0 hk)
  .exact zq1 (zq1 hk)
theorem vf.mem(h:vf w X ws G):X∈G:=by
 obtain⟨Q,vv,pv,nv,fv,Z,h1,rfl⟩:=h;exact mem_cons_self
theorem vf.below(h:vf w X ws G)(hb:Below w.heap.size w w'):vf w' X ws G:=h.of_eq (λk hk=>hb.block k (h.lt k hk))
theorem IsL.prg{B:Nat}(h:IsL B w X ws (fy ws bt) (mC ws bt)):∃G,vf w X ws G/\∀k∈G,B<=k:=by
 obtain⟨Q,h0,hB,h1⟩:=h;obtain⟨vv,pv,nv,hC,cW⟩:=h1.cp;have ce:Bk w X 88 [abv Q,.pointer none]:=h0;have bp:∀{e sz n:Nat} {v:Value} {xs:List Value},w.ownsRow 0 e sz v n xs->e≠88->∀k,v.ownBlock=some k->X≠k:=by
  intro e sz n v xs hr aH k hk hXk;rcases hr.2 with⟨rfl,-⟩|⟨g,cap,cur,rfl,-,hg,-⟩
  .cases hk
  .have e1:g=k:=(by injection hk);rw[e1,<-hXk]at hg;unfold Bk at ce;rw[ce]at hg;injection hg with hg;injection hg with _ hg;exact aH hg.symm
 have hPa:Pa w X Q ws (fy ws bt) (mC ws bt) vv pv nv (.pointer none) []:=by
  refine⟨ce,hC,zq0 ⟨rfl,rfl⟩,λhm=>?_,by simp⟩;simp only[Cb,mem_cons,mem_append,Option.mem_toList]at hm;rcases hm with rfl|hm|hm|hm
  .have h2:=hC.bk;unfold Bk at h2 ce;rw[h2]at ce;injection ce with ce;injection ce with _ ce;revert ce;decide
  .exact bp hC.vr (by decide) X hm rfl
  .exact bp hC.pr (by decide) X hm rfl
  .exact bp hC.nr (by decide) X hm rfl
 refine⟨_,⟨Q,vv,pv,nv,_,[],hPa,rfl⟩,λk hk=>?_⟩;rcases mem_cons.1 hk with rfl|hk
 .exact hB
 .rw[append_nil]at hk;exact cW k hk
structure Ask(w:World)(X:Nat)(ws:List ByteArray)(G G':List Nat)(w':World):Prop where
 pg:vf w' X ws G'
 st:ar [X] w [X] w'
 gr:∀k∈G',k∈G\/w.heap.size<=k
theorem zR.ask{Q RB:Nat}{vv pv nv:Value}{Z:List Nat}{w1:World}(hG:G=X::(Cb Q vv pv nv++Z))(h:zR w X Q ws (fy ws bt) (mC ws bt) vv pv nv Z RB w1)(hb:Below w1.heap.size w1 w'):∃G',Ask w X ws G G' w':=by
 obtain⟨av,kv,FV,L,h1,-,h3,h4⟩:=h;refine⟨X::(Cb Q vv pv nv++WY RB av kv FV L),⟨Q,vv,pv,nv,_,_,h1.below hb,rfl⟩,⟨hb.os.trans h3.os,hb.tape.trans h3.tape,hb.output.trans h3.output,zq3 h3.size hb.size,λk hk hX=>(hb.block k (zq6 hk h3.size)).trans (h3.block k hk hX),λk hk=>zq0 hk⟩,λk hk=>?_⟩;rw[hG];rcases mem_cons.1 hk with rfl|hk
 .exact zq0 mem_cons_self
 .rcases mem_append.1 hk with hk|hk
  .exact zq0 (mem_cons_of_mem _ (mem_append_left _ hk))
  .rcases h4 k hk with hk|hk
   .exact zq0 (mem_cons_of_mem _ (mem_append_right _ hk))
   .exact zq1 hk
theorem vf.verdict(h:vf w X ws G)(hA:SU ws):Calls prog 33 #[.pointer (some ⟨X,0,none⟩)] w λe w'=>e=.returned (.int .i64 ((vp ws).vd:Nat))/\∃G',Ask w X ws G G' w':=by
 obtain⟨Q,vv,pv,nv,fv,Z,h1,hG⟩:=h;refine(Ef h1 hA).mono ?_;rintro e w1 ⟨rfl,RB,hP⟩;exact⟨rfl,hP.ask hG (Below.refl _ _)⟩
theorem vf.alarms(h:vf w X ws G)(hA:SU ws):Calls prog 41 #[.pointer (some ⟨X,0,none⟩)] w λe w'=>∃v,e=.returned v/\w'.ownsRow w.heap.size 82 2 v (vp ws).al.length (xJ (vp ws).al)/\((vp ws).al=[]->v=.slice none 0 0)/\∃G',Ask w X ws G G' w':=by
 obtain⟨Q,vv,pv,nv,fv,Z,h1,hG⟩:=h;refine(E2 h1 hA (Kc hA)).mono ?_;rintro e w2 ⟨v,rfl,g1,g2,RB,w1,hP,hb⟩;exact⟨v,rfl,g1,g2,hP.ask hG hb⟩
theorem vf.nodes(h:vf w X ws G):Calls prog 29 #[.pointer (some ⟨X,0,none⟩)] w λe w'=>e=.returned (.int .i64 (fy ws bt).nodes.length)/\∃n,w'=w.drewN n:=by
 obtain⟨Q,vv,pv,nv,fv,Z,h1,-⟩:=h;have HE:=ab (pX h1.bx);have c0:w.cell? ⟨X,0,none⟩=some (.pointer (some ⟨Q,0,none⟩)):=h1.bx.cell 0 rfl;have q0:=h1.cp.bk.cell 3 rfl;obtain⟨aa,ac,ko,-,-⟩:=am h1.cp.nr;subst ko;clear h1;go_enter func29,ntmps29;go_wp2_with (go_at_call 53;refine(uh HE).mono ?_;rintro e w' ⟨rfl,n,rfl⟩)
 go_ret;exact⟨rfl,_,rfl⟩
end
def Dsk(w:World)(Y X:Nat)(s:ByteArray):Prop:=Bk w Y 36 [.pointer (some ⟨X,0,none⟩),.string s,.slice none 0 0,.slice none 0 0]
theorem NK(s:ByteArray)(w:World):Calls prog 16 #[.string s] w λe w'=>Below w.heap.size w w'/\(((240<s.size\/mP s.data.toList≠0)/\e=.returned (.tuple #[.pointer none,.bool true])) \/
  (s.size<=240/\mP s.data.toList=0/\∃Y X G,e=.returned (.tuple #[.pointer (some ⟨Y,0,none⟩),.bool true])/\Dsk w' Y X s/\w.heap.size<=Y/\Y ∉ G/\vf w' X (qe s.data.toList) G/\∀k∈G,w.heap.size<=k)):=by
 by_cases hl:240<s.size
 .have d0:decide ((240:Int)<(s.size:Int))=true:=by simp;omega
  go_enter func16,ntmps16;go_wp2_with fail
  go_ret2;exact⟨Below.refl _ _,zq0 ⟨zq0 hl,rfl⟩⟩
 .have d0:decide ((240:Int)<(s.size:Int))=false:=by simp;omega
  have HLD:=ab (DF s w (by omega));go_enter func16,ntmps16;go_wp2_with fail
  refine(uh HLD).mono ?_;rintro e w1 ⟨hb,⟨aH,rfl⟩|⟨h0,X,rfl,hL⟩⟩
  .have d1:((mP s.data.toList:Int)==0)=false:=(by simp;omega);obtain⟨z,hz⟩:∃z,z=mP s.data.toList:=⟨_,rfl⟩;rw[<-hz]at d1 aH ⊢;have HB:=ab hb;have HZ:=ab hz;clear hb HLD hz;go_wp2_with fail
   go_ret2;have gy:((z:Int) != 0)=true:=(by simp;omega);exact⟨uh HB,zq0 ⟨zq1 (by rw[<-uh HZ];exact aH),by rw[<-gy];rfl⟩⟩
  .obtain⟨G,hG,cW⟩:=IsL.prg (show IsL w.heap.size w1 X (qe s.data.toList) (fy (qe s.data.toList) bt) (mC (qe s.data.toList) bt) from hL);have HN:Hid (Below w.heap.size w (w1.alloc (.cells #[.pointer (some ⟨X,0,none⟩),.string s,.slice none 0 0,.slice none 0 0] 36))/\Dsk (w1.alloc (.cells #[.pointer (some ⟨X,0,none⟩),.string s,.slice none 0 0,.slice none 0 0] 36)) w1.heap.size X s/\w.heap.size<=w1.heap.size/\w1.heap.size ∉ G/\vf (w1.alloc (.cells #[.pointer (some ⟨X,0,none⟩),.string s,.slice none 0 0,.slice none 0 0] 36)) X (qe s.data.toList) G/\∀k∈G,w.heap.size<=k):=ab ⟨hb.trans ((ah w1 _).mono hb.size),Bk.new w1 _ _,hb.size,λhm=>by have:=hG.lt _ hm;omega,hG.below (ah w1 _),cW⟩;have H0:=ab h0;clear hb hL hG cW HLD h0;go_wp2_with fail
   go_ret2;exact⟨(uh HN).1,zq1 ⟨by omega,uh H0,_,X,G,rfl,(uh HN).2⟩⟩
