import Derived.Test.YtciihepbeacppaaGreatM22
set_option maxRecDepth 100000
set_option maxHeartbeats 0
namespace Go.Proofs.YtciihepbeacppaaGreat
open Tryz Go.RowKit List World Below
set_option linter.unusedVariables false
section
variable {c:Cd} {N n:Nat} {f:CF} {s:Sr}
theorem Az(b:Bool)(hs:kk N s):mS s (fuS b s)/\kk N (fuS b s)/\(Sf (fuS b s)->b=false):=by
 refine⟨⟨λh=>?_,λ_ _ h=>h,λ_ _ _ h=>h⟩,⟨hs.kn,hs.wr,hs.rw,hs.td⟩,λh=>?_⟩
 .show(s.fu||b)=true;rw[h];rfl
 .have h1:(s.fu||b)=false:=h.1;rw[Bool.or_eq_false_iff]at h1;exact h1.2
theorem Rw{fuel:Nat}(hN:c.nds.length=N)(hO:sS c.nds)(hn:n<N)(hf:Td f)(hs:kk N s):mS s (po c fuel n f s)/\kk N (po c fuel n f s)/\(Sf (po c fuel n f s)->ClS c (po c fuel n f s) n f):=by
 obtain⟨hv,ha⟩:=hO.v n;obtain⟨t1,t2⟩:=jI hv ha hf;have jQ:n<c.nds.length:=by rw[hN];exact hn
 have cf:(cn (c.nds.getD n aI) f).nx≠[]->(c.nds.getD n aI).nx<N:=λh=>by rw[<-hN];exact hO.nx n jQ (rU h)
 have yk:(cn (c.nds.getD n aI) f).ot≠[]->(c.nds.getD n aI).ot<N:=λh=>by rw[<-hN];exact hO.ot n jQ (rV h)
 unfold po;simp only;obtain⟨a1,a2,a3⟩:=jt (b:=decide ((c.nds.getD n aI).op=0)&&!decide (dd f=[])) (k:=2) hs hn (by omega);obtain⟨b1,b2,b3⟩:=jt (b:=(cn (c.nds.getD n aI) f).nu) (k:=3) a2 hn (by omega);obtain⟨d1,d2,d3⟩:=jt (b:=(cn (c.nds.getD n aI) f).da) (k:=4) b2 hn (by omega);obtain⟨e1,e2,e3⟩:=Az (cn (c.nds.getD n aI) f).fu d2;obtain⟨g1,g2,g3⟩:=pI (c:=c) (fuel:=fuel) (b:=(c.nds.getD n aI).nx) hn (cn (c.nds.getD n aI) f).nx cf t1 e2;obtain⟨k1,k2,k3⟩:=pI (c:=c) (fuel:=fuel) (b:=(c.nds.getD n aI).ot) hn (cn (c.nds.getD n aI) f).ot yk t2 g2;have agh:=g1.trans k1;refine⟨a1.trans (b1.trans (d1.trans (e1.trans agh))),k2,λhS=>?_⟩;have S3:=k1.sf hS;have S2:=g1.sf S3;have Sd:=e1.sf S2;have Sb:=d1.sf Sd;have Sa:=b1.sf Sb;refine⟨b3 (by omega) Sb,d3 (by omega) Sd,e3 S2,λh0=>?_,λg hg=>⟨(t1 g hg).ok,λP hc SF=>k1.kn _ _ hc (g3 S3 g hg P hc SF)⟩,λg hg=>⟨(t2 g hg).ok,λP hc SF=>k3 hS g hg P hc SF⟩⟩;have:=a3 (by omega) Sa;rw[decide_eq_true h0,Bool.true_and]at this;simpa using this
def MW(c:Cd)(s:Sr)(n0:Nat)(R:List CF):Prop:=∀n,∀e∈br s n,e.d=true->ClS c s n e.f\/(n=n0/\e.f∈R)
def jC(s s':Sr):Prop:=∀n,∀e∈br s' n,e.d=true->e∈br s n
theorem jC.refl(s:Sr):jC s s:=λ_ _ h _=>h
theorem jC.trans{a b c:Sr}(h:jC a b)(h':jC b c):jC a c:=λn e he hd=>h n e (h' n e he hd) hd
theorem DF{n:Nat}{f:CF}{s:Sr}(hn:n<s.kn.length):jC s (bz c n f s):=by
 unfold bz;split
 .exact jC.refl s
 .intro m e he hd;have hkA:br (sL c (pX n (bI c n f) (oZ c s (2*(br s n).length)))) m=if n=m then (br s n).filter (λe=>!Ei e.f (bI c n f))++[⟨bI c n f,false⟩] else br s m:=lz hn m
  rw[hkA]at he;by_cases e0:n=m
  .subst e0;rw[if_pos rfl]at he;rcases mem_append.1 he with he|he
   .exact(mem_filter.1 he).1
   .rw[mem_singleton.1 he]at hd;cases hd
  .rw[if_neg e0]at he;exact he
theorem DD{n:Nat}:∀(l:List CF) {s:Sr},bW l->kk N s->n<N->jC s (l.foldl (λs g=>bz c n g s) s)
 |[],s,_,_,_=>jC.refl s
 |g::l,s,hl,h,hn=>by
  rw[foldl_cons];obtain⟨-,h2,-⟩:=oj (c:=c) (hl g (by simp)) h hn;exact(DF (by rw[h.kn];exact hn)).trans (DD l (λx hx=>hl x (by simp[hx])) h2 hn)
theorem Hs{fuel a b:Nat}(hf:Td f)(hs:kk N s)(ha:a<N)(hb:b<N):jC s (dV c fuel a b f s):=by
 unfold dV;split
 .exact DF (by rw[hs.kn];exact hb)
 .simp only;obtain⟨-,g2⟩:=xJ hs ha (k:=2) (by omega);obtain⟨k1,k2,k3⟩:=kT (c:=c) fuel 0 (res:=[]) (r:=([f],kQ a 2 s)) (λg hg=>by rw[mem_singleton.1 hg];exact hf) (λg hg=>by simp at hg);have hS:kk N (iq c fuel 0 [] ([f],kQ a 2 s)).2:=⟨by rw[k2];exact g2.kn,by rw[k3];exact g2.wr,λr hr=>by rw[k3]at hr;exact g2.rw r hr,λl hl=>by rw[k2]at hl;exact g2.td l hl⟩;refine jC.trans (b:=(iq c fuel 0 [] ([f],kQ a 2 s)).2) (λm e he _=>?_) (DD _ k1 hS hb);unfold br at he ⊢;rw[k2]at he;exact he
theorem Ad{fuel a b:Nat}(ha:a<N):∀(l:List CF) {s:Sr},(l≠[]->b<N)->bW l->kk N s->jC s (l.foldl (λs g=>dV c fuel a b g s) s)
 |[],s,_,_,_=>jC.refl s
 |g::l,s,hb,hl,h=>by
  rw[foldl_cons];have hbN:=hb (by simp);obtain⟨-,h2,-⟩:=Af (c:=c) (fuel:=fuel) (hl g (by simp)) h ha hbN;exact(Hs (hl g (by simp)) h ha hbN).trans (Ad ha l (λ_=>hbN) (λx hx=>hl x (by simp[hx])) h2)
theorem B6(b:Bool)(n k:Nat)(s:Sr):jC s (wrI b n k s):=λm e he _=>by
 unfold br at he ⊢;rw[qm]at he;exact he
theorem JP{fuel:Nat}(hN:c.nds.length=N)(hO:sS c.nds)(hn:n<N)(hf:Td f)(hs:kk N s):jC s (po c fuel n f s):=by
 obtain⟨hv,ha⟩:=hO.v n;obtain⟨t1,t2⟩:=jI hv ha hf;have jQ:n<c.nds.length:=by rw[hN];exact hn
 have cf:(cn (c.nds.getD n aI) f).nx≠[]->(c.nds.getD n aI).nx<N:=λh=>by rw[<-hN];exact hO.nx n jQ (rU h)
 have yk:(cn (c.nds.getD n aI) f).ot≠[]->(c.nds.getD n aI).ot<N:=λh=>by rw[<-hN];exact hO.ot n jQ (rV h)
 unfold po;simp only;obtain⟨-,a2,-⟩:=jt (b:=decide ((c.nds.getD n aI).op=0)&&!decide (dd f=[])) (k:=2) hs hn (by omega);obtain⟨-,b2,-⟩:=jt (b:=(cn (c.nds.getD n aI) f).nu) (k:=3) a2 hn (by omega);obtain⟨-,d2,-⟩:=jt (b:=(cn (c.nds.getD n aI) f).da) (k:=4) b2 hn (by omega);obtain⟨-,e2,-⟩:=Az (cn (c.nds.getD n aI) f).fu d2;obtain⟨-,g2,-⟩:=pI (c:=c) (fuel:=fuel) (b:=(c.nds.getD n aI).nx) hn (cn (c.nds.getD n aI) f).nx cf t1 e2;refine jC.trans ?_ (Ad hn _ yk t2 g2);refine jC.trans ?_ (Ad hn _ cf t1 e2);refine jC.trans (b:=wrI (cn (c.nds.getD n aI) f).da n 4 (wrI (cn (c.nds.getD n aI) f).nu n 3 (wrI (decide ((c.nds.getD n aI).op=0)&&!decide (dd f=[])) n 2 s))) ?_ (λm e he _=>he);exact(B6 _ _ _ _).trans ((B6 _ _ _ _).trans (B6 _ _ _ _))
theorem MW.old{s':Sr}{n0:Nat}{R:List CF}(h:MW c s n0 R)(ho:jC s s')(hl:mS s s'):MW c s' n0 R:=λn e he hd=>by
 rcases h n e (ho n e he hd) hd with h1|h1
 .exact zq0 (h1.mono hl)
 .exact zq1 h1
theorem GR{fuel:Nat}(hN:c.nds.length=N)(hO:sS c.nds)(hn:n<N):∀(l:List CF) {s:Sr},bW l->kk N s->mS s (nO c fuel n l s)/\kk N (nO c fuel n l s)/\(Sf (nO c fuel n l s)->MW c s n l->MW c (nO c fuel n l s) n [])
 |[],s,_,h=>⟨mS.refl s,h,λ_ h=>h⟩
 |f::r,s,hl,h=>by
  unfold nO;split
  .rename_i dY;exact⟨mS.refl s,h,λhS=>by rw[hS.1]at dY;cases dY⟩
  .obtain⟨h1,h2,h3⟩:=Rw (fuel:=fuel) hN hO hn (hl f (by simp)) h;obtain⟨h4,h5,h6⟩:=GR hN hO hn r (λx hx=>hl x (by simp[hx])) h2;refine⟨h1.trans h4,h5,λhS hJ=>h6 hS ?_⟩;intro m e he hd;rcases hJ.old (JP hN hO hn (hl f (by simp)) h) h1 m e he hd with g|⟨g1,g2⟩
   .exact zq0 g
   .rcases mem_cons.1 g2 with g2|g2
    .left;rw[g1,g2];exact h3 (h4.sf hS)
    .exact zq1 ⟨g1,g2⟩
theorem MW.nil{n0 n1:Nat}(h:MW c s n0 []):MW c s n1 []:=λn e he hd=>by
 rcases h n e he hd with g|⟨-,g⟩
 .exact zq0 g
 .simp at g
theorem RS{fuel:Nat}(hN:c.nds.length=N)(hO:sS c.nds)(hn:n<N)(h:kk N s):mS s (sQ c fuel n s)/\kk N (sQ c fuel n s)/\(Sf (sQ c fuel n s)->MW c s n []->MW c (sQ c fuel n s) n []):=by
 have gw:n<s.kn.length:=by rw[h.kn];exact hn
 obtain⟨s0,tQ⟩:∃s0:Sr,s0={ s with kn:=s.kn.set n ((br s n).map (λe:ii=>(⟨e.f,true⟩:ii))) }:=⟨_,rfl⟩;have hkA:∀m,br s0 m=if n=m then (br s n).map (λe=>⟨e.f,true⟩) else br s m:=λm=>by rw[tQ];exact lz gw m
 have hL:mS s s0:=by
  refine⟨λh=>by rw[tQ];exact h,λm k h=>by rw[tQ];exact h,λm P _ hk=>?_⟩;obtain⟨e,he,hf⟩:=hk;unfold CE;rw[hkA];by_cases e0:n=m
  .subst e0;rw[if_pos rfl];exact⟨⟨e.f,true⟩,mem_map.2 ⟨e,he,rfl⟩,hf⟩
  .rw[if_neg e0];exact⟨e,he,hf⟩
 have OY:kk N s0:=by
  rw[tQ];refine⟨by show(s.kn.set n _).length=N;rw[length_set];exact h.kn,h.wr,h.rw,λl hl e he=>?_⟩;rcases mem_or_eq_of_mem_set (show l∈s.kn.set n _ from hl) with h1|rfl
  .exact h.td l h1 e he
  .obtain⟨x,hx,rfl⟩:=mem_map.1 he;exact h.td.at n x hx
 have lR:bW (mI (br s n)):=λg hg=>by
  obtain⟨e,he,rfl⟩:=mem_map.1 hg;exact h.td.at n e (mem_filter.1 he).1
 obtain⟨h1,h2,h3⟩:=GR (fuel:=fuel) hN hO hn (mI (br s n)) lR OY;have e1:sQ c fuel n s=nO c fuel n (mI (br s n)) s0:=by rw[tQ];rfl
 rw[e1];refine⟨hL.trans h1,h2,λhS hJ=>h3 hS ?_⟩;intro m e he hd;rw[hkA]at he;by_cases e0:n=m
 .subst e0;rw[if_pos rfl]at he;obtain⟨x,hx,rfl⟩:=mem_map.1 he;cases hxd:x.d with
  |true =>
   rcases hJ n x hx hxd with g|⟨-,g⟩
   .exact zq0 (g.mono hL)
   .simp at g
  |false=>exact zq1 ⟨rfl,mem_map.2 ⟨x,mem_filter.2 ⟨hx,by simp[hxd]⟩,rfl⟩⟩
 .rw[if_neg e0]at he;rcases hJ m e he hd with g|⟨-,g⟩
  .exact zq0 (g.mono hL)
  .simp at g
theorem BT{fuel:Nat}(hN:c.nds.length=N)(hO:sS c.nds):∀(k:Nat) {s:Sr},kk N s->mS s (qg c fuel k s)/\kk N (qg c fuel k s)/\((qg c fuel k s).ok=true->Sf (qg c fuel k s)->MW c s 0 []->∀n,∀e∈br (qg c fuel k s) n,ClS c (qg c fuel k s) n e.f)
 |0,s,h=>⟨⟨λh=>h,λ_ _ h=>h,λ_ _ _ h=>h⟩,⟨h.kn,h.wr,h.rw,h.td⟩,λbn=>by cases bn⟩
 |k+1,s,h=>by
  unfold qg;split
  .rename_i hp;refine⟨mS.refl s,h,λ_ _ hJ n e he=>?_⟩;have hd:e.d=true:=by
    unfold EP at hp;rw[findIdx?_eq_none_iff]at hp;unfold br at he;obtain⟨y,hy,hey⟩:∃y∈s.kn,e∈y:=by
     rw[getD_eq_getElem?_getD]at he;cases hg:s.kn[n]? with
     |none=>rw[hg]at he;simp at he
     |some y=>rw[hg]at he;exact⟨y,mem_of_getElem? hg,he⟩
    have:=hp y hy;rw[any_eq_false]at this;have:=this e hey;simpa using this
   rcases hJ n e he hd with g|⟨-,g⟩
   .exact g
   .simp at g
  .rename_i n hp;have hn:n<N:=by
    unfold EP at hp;obtain⟨h1,-⟩:=findIdx?_eq_some_iff_getElem.1 hp;rw[<-h.kn];exact h1
   split
   .rename_i dY;exact⟨mS.refl s,h,λ_ hS=>by rw[hS.1]at dY;cases dY⟩
   .obtain⟨h1,h2,h3⟩:=RS (fuel:=fuel) hN hO hn h;obtain⟨h4,h5,h6⟩:=BT (fuel:=fuel) hN hO k h2;exact⟨h1.trans h4,h5,λbn hS hJ=>h6 bn hS (h3 (h4.sf hS) hJ.nil).nil⟩
theorem JN(nds:List Nd):kk nds.length (nM nds):=by
 refine⟨by simp[nM],by simp[nM],λr hr=>?_,λl hl e he=>?_⟩
 .have:=eq_of_mem_replicate (show r∈replicate nds.length (replicate 5 false) from hr);rw[this];simp
 .have:=eq_of_mem_replicate (show l∈replicate nds.length ([]:List ii) from hl);rw[this]at he;simp at he
theorem Ru(nds:List Nd)(n:Nat):br (nM nds) n=[]:=by
 unfold br nM;rw[getD_eq_getElem?_getD,getElem?_replicate];split <;> rfl
end
def IsL(B:Nat)(w:World)(X:Nat)(ws:List ByteArray)(s:PS)(al:List cj):Prop :=
 ∃Q,w.heap[X]?=some (.cells #[.pointer (some ⟨Q,0,none⟩),.pointer none] 88 (0,0))/\B<=X/\YI B w Q ws s al
theorem YI.alloc{B:Nat}{w:World}{Q:Nat}{ws:List ByteArray}{s:PS}{al:List cj}(h:YI B w Q ws s al)(o:Obj):YI B (w.alloc o) Q ws s al:=by
 obtain⟨vv,pv,nv,h0,hB,h1,h2,h3⟩:=h;exact⟨vv,pv,nv,by rw[heap_alloc _ _ _ (Array.getElem?_eq_some_iff.1 h0).1];exact h0,hB,h1.alloc o,h2.alloc o,h3.alloc o⟩
theorem DH(s:ByteArray)(w:World)(hs:s.size<=20000):
  Calls prog 25 #[.string s] w λe w'=>Below w.heap.size w w' /\
   ((mQ s.data.toList≠0/\e=.returned (.tuple #[.pointer none,.int .i64 (mQ s.data.toList)])) \/
    (mQ s.data.toList=0/\∃X,e=.returned (.tuple #[.pointer (some ⟨X,0,none⟩),.int .i64 0])/\IsL w.heap.size w' X (qf s.data.toList) (uL s.data.toList) (mD (qf s.data.toList) bu))):=by
 go_enter func25,ntmps25;go_wp2_with fail
 refine(Q5 s w hs).mono ?_;rintro e w1 ⟨cL,(⟨aH,rfl⟩|⟨h0,Q,rfl,hc⟩)⟩
 .have Z5:(((mQ s.data.toList:Nat):Int) != 0)=true:=by rw[bne_iff_ne];omega
  have HN:=ab aH;clear aH;go_wp2_with fail
  go_ret2;exact⟨cL,zq0 ⟨uh HN,rfl⟩⟩
 .have H0:=ab h0;have HC:=ab hc;clear h0 hc;go_wp2_with fail
  go_ret2;have hz:=cL.size;exact⟨cL.alloc hz _,zq1 ⟨uh H0,w1.heap.size,rfl,Q,heap_alloc_new w1 _,hz,(uh HC).alloc _⟩⟩
def dS:ByteArray:=⟨#[112,114,101]⟩
def Rd(ws:List ByteArray)(s:PS)(r:List ByteArray):Prop:=s.failed=false/\ws.drop s.pos=r/\s.pos<=ws.length
def Res(ws:List ByteArray)(s:PS):Option (List ByteArray)->Prop
 |none=>s.failed=true
 |some r=>Rd ws s r
structure lV(ws:List ByteArray)(F:PS->PS)(f:List ByteArray->Option (List ByteArray)):Prop where
 ok:∀s r,Rd ws s r->Res ws (F s) (f r)
 bad:∀s,s.failed=true->(F s).failed=true
 nd:∀s,(F s).nodes=s.nodes
def gu(k:ByteArray):List ByteArray->Bool
 |[]=>false
 |x::_=>aX x k
def lT(k:ByteArray):List ByteArray->Option (List ByteArray)
 |[]=>none
 |x::r=>if aX x k then some r else none
theorem zE{ws:List ByteArray}{s:PS}{x:ByteArray}{r:List ByteArray}(h:Rd ws s (x::r)):pk ws s=x:=by
 unfold pk;rw[if_neg (by simp[h.1])];have:ws[s.pos]?=some x:=by rw[<-head?_drop,h.2.1];rfl
 rw[this];rfl
theorem Gy{ws:List ByteArray}{s:PS}(h:Rd ws s []):pk ws s=⟨#[]⟩:=by
 apply Gx;have:=congrArg List.length h.2.1;simp only[length_drop,length_nil]at this;omega
theorem db{ws:List ByteArray}{s:PS}{x:ByteArray}{r:List ByteArray}(h:Rd ws s (x::r)):Rd ws s.adv r :=
 ⟨h.1,by show ws.drop (s.pos+1)=r;rw[<-drop_drop,h.2.1];rfl,by
  have:=congrArg List.length h.2.1;simp only[length_drop,length_cons]at this;show s.pos+1<=ws.length;omega⟩
theorem WX:(⟨#[]⟩:ByteArray).toList=[]:=ByteArray.toList_eq _
theorem dB{ws:List ByteArray}{s:PS}{k:ByteArray}{r:List ByteArray}(hk:k.toList≠[])(h:Rd ws s r):bL ws k s=gu k r:=by
 cases r with
 |nil=>unfold bL;rw[Gy h,WX];cases EF:k.toList with
  |nil=>exact absurd EF hk
  |cons _ _=>rfl
 |cons x r=>unfold bL;rw[zE h];rfl
theorem kz{ws:List ByteArray}{s:PS}{k:ByteArray}(hk:k.toList≠[])(h:s.failed=true):bL ws k s=false:=by
 unfold bL;rw[lH h,WX];cases EF:k.toList with
  |nil=>exact absurd EF hk
  |cons _ _=>rfl
theorem lV.comp{ws:List ByteArray}{F G:PS->PS}{f g:List ByteArray->Option (List ByteArray)}(hF:lV ws F f)(hG:lV ws G g):lV ws (λs=>G (F s)) (λr=>(f r).bind g):=by
 refine⟨λs r h=>?_,λs h=>hG.bad _ (hF.bad _ h),λs=>(hG.nd _).trans (hF.nd s)⟩;have:=hF.ok s r h;cases hf:f r with
 |none=>rw[hf]at this;exact hG.bad _ this
 |some r'=>rw[hf]at this;exact hG.ok _ _ this
theorem lV.ite{ws:List ByteArray}{A B:PS->PS}{a b:List ByteArray->Option (List ByteArray)}{k:ByteArray}(hk:k.toList≠[])(hA:∀s x r,Rd ws s (x::r)->Res ws (A s) (a (x::r)))(hN:∀s,(A s).nodes=s.nodes)(hB:lV ws B b):lV ws (λs=>if bL ws k s then A s else B s) (λr=>if gu k r then a r else b r):=by
 refine⟨λs r h=>?_,λs h=>?_,λs=>by split;exact hN s;exact hB.nd s⟩
 .rw[dB hk h];cases r with
  |nil=>simp only[gu,Bool.false_eq_true,if_false];exact hB.ok _ _ h
  |cons x r =>
   split
   .exact hA _ _ _ h
   .exact hB.ok _ _ h
 .rw[kz hk h];exact hB.bad _ h
theorem df{ws:List ByteArray}{k:ByteArray}(hk:k.toList≠[]):lV ws (aF ws k) (lT k):=by
 refine⟨λs r h=>?_,λs h=>?_,λs=>by unfold aF;split <;> rfl⟩
 .unfold aF;rw[dB hk h];cases r with
  |nil=>simp[gu,lT,Res,PS.fail]
  |cons x r =>
   show Res ws (if aX x k=true then s.adv else s.fail) (if aX x k=true then some r else none);by_cases hx:aX x k=true
   .rw[if_pos hx,if_pos hx];exact db h
   .rw[if_neg hx,if_neg hx];rfl
 .unfold aF;rw[kz hk h];simp[PS.fail]
def CA:List ByteArray->Option (List ByteArray)
 |[]=>none
 |x::r=>if aK x then some r else none
theorem Jc:aK ⟨#[]⟩=false:=rfl
theorem RK:lg ⟨#[]⟩=false:=rfl
theorem wO{ws:List ByteArray}:lV ws (bE ws) CA:=by
 refine⟨λs r h=>?_,λs h=>?_,λs=>by unfold bE;split <;> rfl⟩
 .unfold bE;cases r with
  |nil=>rw[Gy h,Jc];simp[CA,Res,PS.fail]
  |cons x r =>
   rw[zE h];simp only[CA];split
   .exact⟨h.1,(db h).2⟩
   .simp[Res,PS.fail]
 .unfold bE;rw[lH h,Jc];simp[PS.fail]
theorem wm:kw.toList≠[]:=by rw[ByteArray.toList_eq];simp[kw]
theorem py:gU.toList≠[]:=by rw[ByteArray.toList_eq];simp[gU]
theorem Dy:tt.toList≠[]:=by rw[ByteArray.toList_eq];simp[tt]
theorem ahb:XR.toList≠[]:=by rw[ByteArray.toList_eq];simp[XR]
theorem uw:gl.toList≠[]:=by rw[ByteArray.toList_eq];simp[gl]
theorem wj:nj.toList≠[]:=by rw[ByteArray.toList_eq];simp[nj]
theorem qS:iW.toList≠[]:=by rw[ByteArray.toList_eq];simp[iW]
theorem AY:pW.toList≠[]:=by rw[ByteArray.toList_eq];simp[pW]
theorem PY:IU.toList≠[]:=by rw[ByteArray.toList_eq];simp[IU]
theorem oe:dE.toList≠[]:=by rw[ByteArray.toList_eq];simp[dE]
def kY(r:List ByteArray):Option (List ByteArray):=if gu kw r then some r.tail else CA r
theorem gR{ws:List ByteArray}:lV ws (cd ws) kY:=lV.ite wm (λ_ _ _ h=>db h) (λ_=>rfl) wO
def LI:List ByteArray->Option (List ByteArray)
 |[]=>none
 |x::r=>if lg x then some r else kY (x::r)
theorem sI{ws:List ByteArray}:lV ws (fK ws) LI:=by
 refine⟨λs r h=>?_,λs h=>?_,λs=>by unfold fK;split;rfl;exact gR.nd s⟩
 .unfold fK;cases r with
  |nil=>rw[Gy h,RK];exact gR.ok _ _ h
  |cons x r =>
   rw[zE h];simp only[LI];cases hx:lg x with
   |true=>exact⟨h.1,(db h).2⟩
   |false=>exact gR.ok _ _ h
 .unfold fK;rw[lH h,RK];exact gR.bad _ h
def LG(r:List ByteArray):Option (List ByteArray):=if gu gU r then some r.tail else if gu tt r then some r.tail else lT XR r
theorem BE{ws:List ByteArray}:lV ws (fB ws) LG:=lV.ite py (λ_ _ _ h=>db h) (λ_=>rfl) (lV.ite Dy (λ_ _ _ h=>db h) (λ_=>rfl) (df ahb))
def pLi(r:List ByteArray):Option (List ByteArray):=((((lT gl r).bind LI).bind (lT nj)).bind LI).bind (lT iW)
theorem QE{ws:List ByteArray}:lV ws (Bh ws) pLi:=((((df uw).comp sI).comp (df wj)).comp sI).comp (df qS)
def pC(r:List ByteArray):Option (List ByteArray):=if gu pW r then some r.tail else if gu IU r then pLi r.tail else ((LI r).bind LG).bind LI
theorem nE{ws:List ByteArray}:lV ws (eJ ws) pC :=
 lV.ite AY (λ_ _ _ h=>db h) (λ_=>rfl) (lV.ite PY (λ_ _ _ h=>QE.ok _ _ (db h)) (λs=>QE.nd s.adv) ((sI.comp BE).comp sI))
theorem QD{ws:List ByteArray}:lV ws (λs=>s) some:=⟨λ_ _ h=>h,λ_ h=>h,λ_=>rfl⟩
def LE:Nat->List ByteArray->Option (List ByteArray)
 |0,r=>some r
 |n+1,r=>if gu dE r then (pC r.tail).bind (LE n) else some r
theorem VF{ws:List ByteArray}(n:Nat):lV ws (λs=>(jl ws n s).2) (LE n):=by
 induction n with
 |zero=>exact QD
 |succ n ih =>
  have e:(λs=>(jl ws (n+1) s).2)=(λs=>if bL ws dE s then (jl ws n (eJ ws s.adv)).2 else s):=by
   funext s;simp only[jl];split <;> rfl
  rw[e];exact lV.ite oe (λ_ _ _ h=>(nE.comp ih).ok _ _ (db h)) (λs=>(nE.comp ih).nd s.adv) QD
def LF(n:Nat)(r:List ByteArray):Option (List ByteArray):=(pC r).bind (LE n)
theorem BD{ws:List ByteArray}:lV ws (rH ws) (LF (ws.length+1)):=nE.comp (VF (ws.length+1))
theorem AZ:oY.toList≠[]:=by rw[ByteArray.toList_eq];simp[oY]
theorem mc:iO.toList≠[]:=by rw[ByteArray.toList_eq];simp[iO]
theorem Lk:kN.toList≠[]:=by rw[ByteArray.toList_eq];simp[kN]
theorem od:ie.toList≠[]:=by rw[ByteArray.toList_eq];simp[ie]
theorem qU:jc.toList≠[]:=by rw[ByteArray.toList_eq];simp[jc]
theorem zs:mC.toList≠[]:=by rw[ByteArray.toList_eq];simp[mC]
theorem qV:k8.toList≠[]:=by rw[ByteArray.toList_eq];simp[k8]
theorem A9:jd.toList≠[]:=by rw[ByteArray.toList_eq];simp[jd]
theorem pz:md.toList≠[]:=by rw[ByteArray.toList_eq];simp[md]
theorem jT:bP.toList≠[]:=by rw[ByteArray.toList_eq];simp[bP]
theorem qT:iP.toList≠[]:=by rw[ByteArray.toList_eq];simp[iP]
theorem Gi:fP.toList≠[]:=by rw[ByteArray.toList_eq];simp[fP]
def Lz(r:List ByteArray):Option (List ByteArray):=if gu tt r then some r.tail else lT gU r
def pCo(r:List ByteArray):Option (List ByteArray):=if gu dE r then some r.tail else ((CA r).bind Lz).bind kY
theorem VE{ws:List ByteArray}:lV ws (yW ws) Lz:=lV.ite Dy (λ_ _ _ h=>db h) (λ_=>rfl) (df py)
theorem abq{ws:List ByteArray}:lV ws (tI ws) pCo:=lV.ite oe (λ_ _ _ h=>db h) (λ_=>rfl) ((wO.comp VE).comp gR)
def pTs(r:List ByteArray):Option (List ByteArray):=((lT gl r).bind pCo).bind (lT iW)
theorem abv{ws:List ByteArray}:lV ws (MB ws) pTs:=((df uw).comp abq).comp (df qS)
def pAs(r:List ByteArray):Option (List ByteArray) :=
 if gu oY r then some r.tail else if !gu kw r&&(match kY r with|some q=>gu iO q|none=>false) then (kY r).bind (λq=>lT kN q.tail) else kY r
theorem abm{ws:List ByteArray}:lV ws (oQ ws) pAs:=by
 refine lV.ite (b:=λr=>if !gu kw r&&(match kY r with|some q=>gu iO q|none=>false) then (kY r).bind (λq=>lT kN q.tail) else kY r) AZ (λ_ _ _ h=>db h) (λ_=>rfl) ⟨λs r h=>?_,λs h=>?_,λs=>?_⟩
 .have hv:=gR.ok s r h;have hk:(dT ws s==1)=!gu kw r:=by
   unfold dT;rw[dB wm h];cases gu kw r <;> rfl
  unfold Eu;rw[hk];cases hp:kY r with
  |none =>
   rw[hp]at hv;rw[kz mc hv];simp only[Bool.and_false,Bool.false_eq_true,if_false];exact hv
  |some q =>
   rw[hp]at hv;rw[dB mc hv];by_cases hc:(!gu kw r&&gu iO q)=true
   .rw[if_pos hc,if_pos hc];cases q with
    |nil=>simp[gu]at hc
    |cons y q=>exact(df Lk).ok _ _ (db hv)
   .rw[if_neg hc,if_neg hc];exact hv
 .have hv:=(gR (ws:=ws)).bad s h;unfold Eu;rw[kz mc hv];simp only[Bool.and_false,Bool.false_eq_true,if_false];exact hv
 .split
  .exact((df Lk).nd _).trans (gR.nd s)
  .exact gR.nd s
def VD(r:List ByteArray):Option (List ByteArray):=if gu iO r then (((lT kN r.tail).bind (lT gU)).bind kY) else (lT gU r).bind pAs
theorem VH{ws:List ByteArray}:lV ws (λt=>if bL ws iO t then cd ws (zN ws t) else oQ ws (aF ws gU t)) VD :=
 lV.ite mc (λ_ _ _ h=>(((df Lk).comp (df py)).comp gR).ok _ _ (db h)) (λs=>(((df Lk).comp (df py)).comp gR).nd s.adv) ((df py).comp abm)
def pSi(r:List ByteArray):Option (List ByteArray):=if gu ie r then some r.tail else if gu jc r then CA r.tail else (CA r).bind VD
theorem abu{ws:List ByteArray}:lV ws (ix ws) pSi :=
 lV.ite od (λ_ _ _ h=>db h) (λ_=>rfl) (lV.ite qU (λ_ _ _ h=>wO.ok _ _ (db h)) (λs=>wO.nd s.adv) (wO.comp VH))
def akh(ws:List ByteArray)(n:Nat)(s:PS):Option (List ByteArray × Nat)->Prop
 |none=>s.failed=true
 |some (q,k)=>Rd ws s q/\s.nodes.length=n+k
structure jD(ws:List ByteArray)(F:PS->PS)(f:List ByteArray->Option (List ByteArray × Nat)):Prop where
 ok:∀s r,Rd ws s r->akh ws s.nodes.length (F s) (f r)
 bad:∀s,s.failed=true->(F s).failed=true
def Ed(f g:List ByteArray->Option (List ByteArray × Nat))(r:List ByteArray):Option (List ByteArray × Nat) :=
 match f r with
 |none=>none
 |some (q,k)=>match g q with
  |none=>none
  |some (p,j)=>some (p,k+j)
def n0(f:List ByteArray->Option (List ByteArray))(r:List ByteArray):Option (List ByteArray × Nat):=(f r).map (λq=>(q,0))
def n1(f:List ByteArray->Option (List ByteArray))(r:List ByteArray):Option (List ByteArray × Nat):=(f r).map (λq=>(q,1))
theorem lV.n{ws:List ByteArray}{F:PS->PS}{f:List ByteArray->Option (List ByteArray)}(h:lV ws F f):jD ws F (n0 f):=by
 refine⟨λs r hr=>?_,h.bad⟩;have:=h.ok s r hr;unfold n0;cases hf:f r with
 |none=>rw[hf]at this;exact this
 |some q=>rw[hf]at this;exact⟨this,by rw[h.nd s];rfl⟩
theorem lV.n1{ws:List ByteArray}{F G:PS->PS}{f:List ByteArray->Option (List ByteArray)}(h:lV ws F f)(hf:∀s,(G s).failed=(F s).failed)(hp:∀s,(G s).pos=(F s).pos)(hn:∀s,(G s).nodes.length=(F s).nodes.length+1):jD ws G (n1 f):=by
 refine⟨λs r hr=>?_,λs hs=>by rw[hf];exact h.bad s hs⟩;have:=h.ok s r hr;unfold Proofs.YtciihepbeacppaaGreat.n1;cases lR:f r with
 |none=>rw[lR]at this;exact(hf s).trans this
 |some q =>
  rw[lR]at this;exact⟨⟨(hf s).trans this.1,by rw[hp s];exact this.2⟩,by rw[hn s,h.nd s]⟩
theorem jD.comp{ws:List ByteArray}{F G:PS->PS}{f g:List ByteArray->Option (List ByteArray × Nat)}(hF:jD ws F f)(hG:jD ws G g):jD ws (λs=>G (F s)) (Ed f g):=by
 refine⟨λs r h=>?_,λs h=>hG.bad _ (hF.bad _ h)⟩;have h1:=hF.ok s r h;unfold Ed;cases hf:f r with
 |none=>rw[hf]at h1;exact hG.bad _ h1
 |some qk =>
  obtain⟨q,k⟩:=qk;rw[hf]at h1;have h2:=hG.ok _ _ h1.1;rw[h1.2]at h2;dsimp only;cases hg:g q with
  |none=>rw[hg]at h2;exact h2
  |some pj =>
   obtain⟨p,j⟩:=pj;rw[hg]at h2;exact⟨h2.1,by rw[h2.2];omega⟩
theorem jD.congr{ws:List ByteArray}{F G:PS->PS}{f:List ByteArray->Option (List ByteArray × Nat)}(h:jD ws F f)(hf:∀s,(G s).failed=(F s).failed)(hp:∀s,(G s).pos=(F s).pos)(hn:∀s,(G s).nodes.length=(F s).nodes.length):jD ws G f:=by
 refine⟨λs r hr=>?_,λs hs=>by rw[hf];exact h.bad s hs⟩;have:=h.ok s r hr;cases lR:f r with
 |none=>rw[lR]at this;exact(hf s).trans this
 |some q =>
  rw[lR]at this;exact⟨⟨(hf s).trans this.1.1,by rw[hp s];exact this.1.2⟩,by rw[hn s];exact this.2⟩
def pSc:List ByteArray->Option (List ByteArray × Nat):=n1 (λr=>(pSi r).bind (lT jd))
theorem QF{ws:List ByteArray}:jD ws (rK ws) pSc:=(abu.comp (df A9)).n1 (λ_=>rfl) (λ_=>rfl) (λ_=>by simp[rK,ci])
def pTn:List ByteArray->Option (List ByteArray × Nat):=n1 pTs
theorem QG{ws:List ByteArray}:jD ws (gB ws) pTn:=abv.n1 (λ_=>rfl) (λ_=>rfl) (λ_=>by simp[gB,ci])
def pHd(k:ByteArray)(pb:List ByteArray->Option (List ByteArray × Nat)):List ByteArray->Option (List ByteArray × Nat):=Ed (Ed (n0 (lT k)) pTn) pb
def one(r:List ByteArray):Option (List ByteArray × Nat):=some (r,1)
def pLo(pb:List ByteArray->Option (List ByteArray × Nat)):List ByteArray->Option (List ByteArray × Nat):=Ed (pHd bP pb) one
theorem VG{ws:List ByteArray}:jD ws (ci iN) one:=⟨λ_ _ h=>⟨h,by simp[ci]⟩,λ_ h=>h⟩
theorem abs{ws:List ByteArray}{blk:PS->PS}{pb:List ByteArray->Option (List ByteArray × Nat)}(hb:jD ws blk pb):jD ws (xY blk ws) (pLo pb) :=
 (((((df jT).n).comp QG).comp hb).comp VG).congr (λ_=>rfl) (λ_=>rfl) (λ_=>by simp only[xY,bS,dx];rfl)
def pEl(pb:List ByteArray->Option (List ByteArray × Nat))(r:List ByteArray):Option (List ByteArray × Nat):=if gu iP r then Ed one pb r.tail else some (r,0)
def pBr(pb:List ByteArray->Option (List ByteArray × Nat)):List ByteArray->Option (List ByteArray × Nat):=Ed (pHd md pb) (pEl pb)
theorem abo{ws:List ByteArray}{blk:PS->PS}{pb:List ByteArray->Option (List ByteArray × Nat)}(hb:jD ws blk pb):jD ws (pO blk ws) (pBr pb):=by
 have hA:jD ws (cJ blk ws) (pHd md pb):=((((df pz).n).comp QG).comp hb);refine⟨λs r h=>?_,λs h=>?_⟩
 .have h1:=hA.ok s r h;unfold pBr Ed pO;cases hf:pHd md pb r with
  |none=>rw[hf]at h1;rw[kz qT h1];exact h1
  |some qk =>
   obtain⟨q,k⟩:=qk;rw[hf]at h1;rw[dB qT h1.1];dsimp only;unfold pEl;cases q with
   |nil=>exact⟨h1.1,by rw[show gu iP []=false from rfl];simp only[Bool.false_eq_true,if_false,bS];exact h1.2⟩
   |cons y q =>
    by_cases hy:gu iP (y::q)=true
    .rw[if_pos hy,if_pos hy];have ht:Rd ws (lQ s.nodes.length (cJ blk ws s)) q:=db h1.1;have hl:(lQ s.nodes.length (cJ blk ws s)).nodes.length=s.nodes.length+k+1:=by
      simp only[lQ,bS];simp[ci,PS.adv,h1.2]
     have h2:=hb.ok _ _ ht;rw[hl]at h2;simp only[Ed,one,tail_cons];cases hg:pb q with
     |none=>rw[hg]at h2;exact h2
     |some pj =>
      obtain⟨p,j⟩:=pj;rw[hg]at h2;exact⟨h2.1,by simp only[Np,dx];rw[h2.2];omega⟩
    .rw[if_neg hy,if_neg hy];exact⟨h1.1,by simp only[bS];exact h1.2⟩
 .have h1:=hA.bad s h;unfold pO;rw[kz qT h1];exact h1
def pCm(pb:List ByteArray->Option (List ByteArray × Nat))(r:List ByteArray):Option (List ByteArray × Nat):=if gu md r then pBr pb r else if gu bP r then pLo pb r else pSc r
theorem abp{ws:List ByteArray}{blk:PS->PS}{pb:List ByteArray->Option (List ByteArray × Nat)}(hb:jD ws blk pb):jD ws (kA blk ws) (pCm pb):=by
 refine⟨λs r h=>?_,λs h=>?_⟩
 .unfold kA pCm;rw[dB pz h,dB jT h];by_cases h1:gu md r=true
  .rw[if_pos h1,if_pos h1];exact(abo hb).ok _ _ h
  .rw[if_neg h1,if_neg h1];by_cases h2:gu bP r=true
   .rw[if_pos h2,if_pos h2];exact(abs hb).ok _ _ h
   .rw[if_neg h2,if_neg h2];exact QF.ok _ _ h
 .unfold kA;rw[kz pz h,kz jT h];exact QF.bad _ h
def pCs(pc:List ByteArray->Option (List ByteArray × Nat)):Nat->List ByteArray->Option (List ByteArray × Nat)
 |0,r=>some (r,0)
 |n+1,r=>if gu k8 r then some (r,0) else Ed pc (pCs pc n) r
theorem abr{ws:List ByteArray}{c:PS->PS}{pc:List ByteArray->Option (List ByteArray × Nat)}(hc:jD ws c pc)(n:Nat):jD ws (ji c ws n) (pCs pc n):=by
 induction n with
 |zero=>exact⟨λ_ _ h=>⟨h,rfl⟩,λ_ h=>h⟩
 |succ n ih =>
  refine⟨λs r h=>?_,λs h=>?_⟩
  .simp only[ji,pCs];rw[dB qV h,h.1,Bool.false_or];by_cases h1:gu k8 r=true
   .rw[if_pos h1,if_pos h1];exact⟨h,rfl⟩
   .rw[if_neg h1,if_neg h1];exact(hc.comp ih).ok _ _ h
  .simp only[ji,h,Bool.true_or,if_true]
def pBl(N:Nat):Nat->List ByteArray->Option (List ByteArray × Nat)
 |0,r=>some (r,0)
 |f+1,r=>Ed (Ed (n0 (lT mC)) (pCs (pCm (pBl N f)) N)) (n0 (lT k8)) r
theorem abn{ws:List ByteArray}(f:Nat):jD ws (cM ws f) (pBl (ws.length+2) f):=by
 induction f with
 |zero=>exact⟨λ_ _ h=>⟨h,rfl⟩,λ_ h=>h⟩
 |succ f ih=>exact(((df zs).n).comp (abr (abp ih) (ws.length+2))).comp (df qV).n
def pPr(N:Nat):List ByteArray->Option (List ByteArray × Nat):=Ed (Ed (Ed (n0 (lT fP)) (n0 (LF (N+1)))) (pBl (N+2) (N+1))) one
theorem abt{ws:List ByteArray}:jD ws (EQ ws) (pPr ws.length) :=
 ((((df Gi).n.comp BD.n).comp (abn (ws.length+1))).comp (G:=ci jV) ⟨λ_ _ h=>⟨h,by simp[ci]⟩,λ_ h=>h⟩)
theorem VP{ws:List ByteArray}(h:∀k,pPr ws.length ws≠some ([],k)):(fA ws bu).failed=true:=by
 have h1:=(abt (ws:=ws)).ok bu ws ⟨rfl,rfl,zq5 _⟩;unfold fA;cases hf:pPr ws.length ws with
 |none=>rw[hf]at h1;split;exact h1;rfl
 |some qk =>
  obtain⟨q,k⟩:=qk;rw[hf]at h1;cases q with
  |nil=>exact absurd hf (h k)
  |cons x q =>
   have hp:¬ (EQ ws bu).pos=ws.length:=by
    have:=congrArg List.length h1.1.2.1;simp only[length_drop,length_cons]at this;omega
   rw[if_neg hp];rfl
theorem DU(x:ByteArray)(r:List ByteArray):LI (x::r)=if gQ x=true then some r else none:=by
 show(if lg x=true then some r else if aX x cD=true then some r else if aK x=true then some r else none)=if (aX x cD||aK x||lg x)=true then some r else none
 cases lg x <;> cases aX x cD <;> cases aK x <;> rfl
def abI(x:ByteArray):Bool:=aX x bT||aX x kX||aX x LT
theorem LH(x:ByteArray)(r:List ByteArray):LG (x::r)=if abI x=true then some r else none:=by
 show(if aX x bT=true then some r else if aX x kX=true then some r else if aX x LT=true then some r else none)=if (aX x bT||aX x kX||aX x LT)=true then some r else none
 cases aX x bT <;> cases aX x kX <;> cases aX x LT <;> rfl
theorem mi(x:ByteArray)(r:List ByteArray):pC (x::r)=if aX x qA=true then some r else if aX x EM=true then pLi r else ((if gQ x=true then some r else none).bind LG).bind LI:=by
 rw[<-DU];rfl
theorem QC(k x:ByteArray)(r:List ByteArray):lT k (x::r)=if aX x k=true then some r else none:=rfl
theorem Qp{x:ByteArray}(h:aX x qA=true):gQ x=false:=by
 have hx:x.toList=[101,109,112]:=by simpa[aX,NW] using h
 have hd:x.data.toList=[101,109,112]:=by rw[<-ByteArray.toList_eq];exact hx
 simp[gQ,aX,aK,lg,hd,hx,show cD.toList=[110,105,108] from ByteArray.toList_eq _]
theorem Vq{x:ByteArray}(h:aX x EM=true):gQ x=false:=by
 have hx:x.toList=[108,115]:=by simpa[aX,XV] using h
 have hd:x.data.toList=[108,115]:=by rw[<-ByteArray.toList_eq];exact hx
 simp[gQ,aX,aK,lg,hd,hx,show cD.toList=[110,105,108] from ByteArray.toList_eq _]
theorem jZ{k:ByteArray}{r q:List ByteArray}:lT k r=some q↔∃x,aX x k=true/\r=x::q:=by
 cases r with
 |nil=>simp[lT]
 |cons y r =>
  rw[QC];by_cases h:aX y k=true
  .rw[if_pos h];exact⟨λe=>by cases e;exact⟨y,h,rfl⟩,λ⟨x,_,e⟩=>by cases e;rfl⟩
  .rw[if_neg h];exact⟨λe=>(by cases e),λ⟨x,hx,e⟩=>by cases e;exact absurd hx h⟩
theorem j6{r q:List ByteArray}:LI r=some q↔∃x,gQ x=true/\r=x::q:=by
 cases r with
 |nil=>simp[LI]
 |cons y r =>
  rw[DU];by_cases h:gQ y=true
  .rw[if_pos h];exact⟨λe=>by cases e;exact⟨y,h,rfl⟩,λ⟨x,_,e⟩=>by cases e;rfl⟩
  .rw[if_neg h];exact⟨λe=>(by cases e),λ⟨x,hx,e⟩=>by cases e;exact absurd hx h⟩
theorem sH{r q:List ByteArray}:LG r=some q↔∃x,abI x=true/\r=x::q:=by
 cases r with
 |nil=>simp[LG,gu,lT]
 |cons y r =>
  rw[LH];by_cases h:abI y=true
  .rw[if_pos h];exact⟨λe=>by cases e;exact⟨y,h,rfl⟩,λ⟨x,_,e⟩=>by cases e;rfl⟩
  .rw[if_neg h];exact⟨λe=>(by cases e),λ⟨x,hx,e⟩=>by cases e;exact absurd hx h⟩
theorem DT{r q:List ByteArray}:pLi r=some q↔∃b c d e f,aX b uF=true/\gQ c=true/\aX d WW=true/\gQ e=true/\aX f sU=true/\r=b::c::d::e::f::q:=by
 constructor
 .intro h;unfold pLi at h;obtain⟨r4,h,h5⟩:=Option.bind_eq_some_iff.1 h;obtain⟨r3,h,h4⟩:=Option.bind_eq_some_iff.1 h;obtain⟨r2,h,h3⟩:=Option.bind_eq_some_iff.1 h;obtain⟨r1,h1,h2⟩:=Option.bind_eq_some_iff.1 h;obtain⟨b,hb,rfl⟩:=jZ.1 h1;obtain⟨c,hc,rfl⟩:=j6.1 h2;obtain⟨d,hd,rfl⟩:=jZ.1 h3;obtain⟨e,he,rfl⟩:=j6.1 h4;obtain⟨f,hf,rfl⟩:=jZ.1 h5;exact⟨b,c,d,e,f,hb,hc,hd,he,hf,rfl⟩
 .rintro⟨b,c,d,e,f,hb,hc,hd,he,hf,rfl⟩;show((((lT uF (b::c::d::e::f::q)).bind LI).bind (lT WW)).bind LI).bind (lT sU)=some q;rw[jZ.2 ⟨b,hb,rfl⟩,Option.bind_some,j6.2 ⟨c,hc,rfl⟩,Option.bind_some,jZ.2 ⟨d,hd,rfl⟩,Option.bind_some,j6.2 ⟨e,he,rfl⟩,Option.bind_some,jZ.2 ⟨f,hf,rfl⟩]
theorem jY{l q:List ByteArray}:pC l=some q↔∃p,yB p=true/\l=p++q:=by
 constructor
 .intro h;cases l with
  |nil=>simp[pC,gu,LI]at h
  |cons a r =>
   rw[mi]at h;by_cases h1:aX a qA=true
   .rw[if_pos h1]at h;simp only[Option.some.injEq]at h;subst h;exact⟨[a],h1,rfl⟩
   .rw[if_neg h1]at h;by_cases h2:aX a EM=true
    .rw[if_pos h2]at h;obtain⟨b,c,d,e,f,hb,hc,hd,he,hf,rfl⟩:=DT.1 h;exact⟨[a,b,c,d,e,f],by simp[yB,h2,hb,hc,hd,he,hf],rfl⟩
    .rw[if_neg h2]at h;obtain⟨r2,h,h5⟩:=Option.bind_eq_some_iff.1 h;obtain⟨r1,h3,h4⟩:=Option.bind_eq_some_iff.1 h;by_cases h6:gQ a=true
     .rw[if_pos h6]at h3;simp only[Option.some.injEq]at h3;subst h3;obtain⟨b,hb,rfl⟩:=sH.1 h4;obtain⟨c,hc,rfl⟩:=j6.1 h5;exact⟨[a,b,c],by simp only[yB,h6,hc,Bool.true_and];exact hb,rfl⟩
     .rw[if_neg h6]at h3;cases h3
 .rintro⟨p,hp,rfl⟩;match p,hp with
  |[a],hp=>show pC (a::q)=some q;rw[mi,if_pos (show aX a qA=true from hp)]
  |[a,b,c],hp =>
   simp only[yB,Bool.and_eq_true]at hp;show pC (a::b::c::q)=some q;have h1:¬ aX a qA=true:=λh=>by rw[Qp h]at hp;simp at hp
   have h2:¬ aX a EM=true:=λh=>by rw[Vq h]at hp;simp at hp
   rw[mi,if_neg h1,if_neg h2,if_pos hp.1.1,Option.bind_some,sH.2 ⟨b,hp.2,rfl⟩,Option.bind_some,j6.2 ⟨c,hp.1.2,rfl⟩]
  |[a,b,c,d,e,f],hp =>
   simp only[yB,Bool.and_eq_true]at hp;obtain⟨⟨⟨⟨ha,hb⟩,hd⟩,hf⟩,hc,he⟩:=hp;show pC (a::b::c::d::e::f::q)=some q;have h1:¬ aX a qA=true:=λh=>by
    have e1:a.toList=[101,109,112]:=(by simpa[aX,NW] using h);have e2:a.toList=[108,115]:=(by simpa[aX,XV] using ha);rw[e1]at e2;simp at e2
   rw[mi,if_neg h1,if_pos ha];exact DT.2 ⟨b,c,d,e,f,hb,hc,hd,he,hf,rfl⟩
def xX(n:Nd):Bool:=decide (n.op=7\/n.op=8\/n.op=9)
def IS(n:Nd):Bool:=decide (n.op=4)
def ue(P:Nd->Bool)(nds:List Nd)(n:Nat):Nat:=(nds.drop n).countP P
theorem NG{P:Nd->Bool}{nds:List Nd}{n:Nat}(hn:n<nds.length):ue P nds n=ue P nds (n+1)+(if P (nds.getD n aI)=true then 1 else 0):=by
 unfold ue;rw[drop_eq_getElem_cons hn,countP_cons,getD_eq_getElem?_getD,getElem?_eq_getElem hn];rfl
theorem mU{P:Nd->Bool}{nds:List Nd}{n m:Nat}(h:n<=m):ue P nds m<=ue P nds n:=by
 unfold ue;refine List.Sublist.countP_le ?_;rw[show m=n+(m-n) by omega,<-drop_drop];exact drop_sublist _ _
theorem NF{P:Nd->Bool}{nds:List Nd}{n m:Nat}(hn:n<nds.length)(h:n<m)(hp:P (nds.getD n aI)=true):ue P nds m+1<=ue P nds n:=by
 have h1:=NG (P:=P) hn;rw[if_pos hp]at h1;have h2:=mU (P:=P) (nds:=nds) (n:=n+1) (m:=m) h;omega
def iz(nds:List Nd)(n:Nat)(f:CF):Nat:=9 ^ (aw f+ue IS nds n)*2 ^ (ue xX nds n)
structure zZ(nds:List Nd)(n:Nat)(f:CF):Prop where
 td:Td f
 k3:K3 f
 nm:aw f+ue IS nds n<=9
theorem K3.jo{f:CF}(h:K3 f)(a b:Nat):K3 (mM f a b):=by
 intro p hp;obtain⟨q,hq,rfl⟩:=mem_map.1 hp;exact h q hq
theorem K3.owA{f:CF}(h:K3 f){i:Nat}(hi:i<f.ow.length):(owA f i).k=3:=h _ (uG hi)
theorem Oj{f:CF}(h:K3 f)(c:Nat):(gV f c).1=[]\/(gV f c).1=[f]:=by
 unfold gV;split
 .exact zq0 rfl
 .rename_i i hi;unfold On;rw[if_pos (h.owA (eU hi).1)];exact zq1 rfl
theorem aa2{f:CF}(h:K3 f){c i:Nat}(hi:i<f.ow.length):eO f c i=if aV f c (owA f i).l=true then [] else [fZ f c i]:=by
 unfold eO;rw[if_neg (show ¬ ((owA f i).k=4) by rw[h.owA hi];decide),append_nil]
def JoI(f:CF)(v:Nat)(x:CF):Prop:=∃i,i<f.ow.length/\x=mM f (owA f i).l (f.cl.getD (1+v) 0)
theorem abe{f:CF}(h:K3 f){v i:Nat}(hi:i<f.ow.length){r:List CF × Bool}(hr:∀x∈r.1,JoI f v x):(∀x∈(uE f v i r).1,JoI f v x)/\(uE f v i r).1.length<=r.1.length+1:=by
 unfold uE;rw[aa2 h hi];split
 .exact⟨hr,by simp⟩
 .simp only[foldl_cons,foldl_nil];have h2:=Oj (h.jo (owA f i).l (f.cl.getD (1+v) 0)) ((fZ f (f.cl.getD (1+v) 0) i).cl.getD (1+v) 0);unfold Ci;show(∀x∈r.1++(gV (fZ f _ i) _).1,_)/\(r.1++(gV (fZ f _ i) _).1).length<=_;have h3:(gV (fZ f (f.cl.getD (1+v) 0) i) ((fZ f (f.cl.getD (1+v) 0) i).cl.getD (1+v) 0)).1=[]\/(gV (fZ f (f.cl.getD (1+v) 0) i) ((fZ f (f.cl.getD (1+v) 0) i).cl.getD (1+v) 0)).1=[fZ f (f.cl.getD (1+v) 0) i]:=h2;rcases h3 with e|e
  .rw[e,append_nil];exact⟨hr,by omega⟩
  .rw[e];refine⟨λx hx=>?_,by simp⟩;rcases mem_append.1 hx with hx|hx
   .exact hr x hx
   .rw[mem_singleton]at hx;exact⟨i,hi,hx⟩
theorem Qz{f:CF}(h:K3 f){v:Nat}:∀(l:List Nat) {r:List CF × Bool},(∀i∈l,i<f.ow.length)->(∀x∈r.1,JoI f v x)->(∀x∈(l.foldl (λr i=>uE f v i r) r).1,JoI f v x)/\(l.foldl (λr i=>uE f v i r) r).1.length<=r.1.length+l.length
 |[],r,_,hr=>⟨hr,by simp⟩
 |i::l,r,hl,hr=>by
  obtain⟨h1,h2⟩:=abe h (v:=v) (hl i (by simp)) hr;obtain⟨g1,g2⟩:=Qz h (v:=v) l (r:=uE f v i r) (λj hj=>hl j (by simp[hj])) h1;refine⟨g1,?_⟩;rw[foldl_cons,length_cons];omega
theorem abd{f:CF}(h:K3 f)(v:Nat):((c9 f v).1=[]\/(c9 f v).1=[f])\/(cE f.ow (f.cl.getD (1+v) 0)=none/\(c9 f v).1.length<=f.ow.length/\∀x∈(c9 f v).1,JoI f v x):=by
 unfold c9;split
 .exact zq0 (zq0 rfl)
 .split
  .exact zq0 (Oj h _)
  .rename_i hb;right;obtain⟨h1,h2⟩:=Qz h (v:=v) (range f.ow.length) (r:=([],false)) (λi hi=>mem_range.1 hi) (λx hx=>by simp at hx);exact⟨by simpa using hb,by simpa using h2,h1⟩
structure Opn(v:Nat)(G:CF->CF):Prop where
 ok:∀{x N},rO N v x->aj (G x)
 lv:∀{x N},rO N v x->∀c∈bM (G x),c∈bM x
 k3:∀{x},K3 x->K3 (G x)
theorem Gw{f:CF}{i:Nat}(hi:i<f.ow.length):(owA f i).l∈bM f/\(owA f i).r∈bM f:=zy (uG hi)
theorem Nj{N v:Nat}{x:CF}(h:rO N v x):qp x (x.cl.getD (1+v) 0)<x.ow.length:=by
 obtain⟨i,hi⟩:=Option.isSome_iff_exists.1 h.bg;unfold qp;rw[hi];exact(eU hi).1
theorem Nx{f:CF}{k i:Nat}(hi:i<4):clT f k i∈bM f:=by unfold clT;split;exact DI (by omega);exact DI (by omega)
theorem abh{n:Nd}:Opn n.ai (λg=>fs g n):=⟨λh=>(Ax h).1,λh c hc=>by
 rcases Bn h.ok.c5 hc with hc|rfl
 .exact hc
 .exact(Gw (Nj h)).2,λh=>h⟩
theorem abj{n:Nd}(ha:n.ai<4):Opn n.v (λg=>ny g n):=⟨λh=>(Gn h).1,λh c hc=>by
 rcases Vl h.ok.c5 hc with hc|rfl|rfl
 .exact hc
 .exact(Gw (Nj h)).1
 .exact Nx ha,fun {x} h p hp=>by
 rcases mem_or_eq_of_mem_set hp with hp|rfl
 .exact h p hp
 .show(owA x _).k=3;by_cases hi:qp x (x.cl.getD (1+n.v) 0)<x.ow.length
  .exact h.owA hi
  .have IJ:(⟨(owA x (qp x (x.cl.getD (1+n.v) 0))).k,(owA x (qp x (x.cl.getD (1+n.v) 0))).l,clT x n.ak n.ai⟩:Pr)∈x.ow.set (qp x (x.cl.getD (1+n.v) 0)) ⟨(owA x (qp x (x.cl.getD (1+n.v) 0))).k,(owA x (qp x (x.cl.getD (1+n.v) 0))).l,clT x n.ak n.ai⟩:=hp;rw[set_eq_of_length_le (by omega)]at IJ;have h9:=h _ IJ;exact h9⟩
theorem abi(v:Nat):Opn v (λg=>l9 g v):=⟨λh=>(r7 h).1,fun {x N} h c hc=>by
 have h1:=Jf _ hc;exact aa0 h.ok.c5 (show c∈bM (gZ x _) from h1),fun {x} h p hp=>by
 have h1:p∈(gZ x (qp x (x.cl.getD (1+v) 0))).ow:=by
  have e:=BC (gZ x (qp x (x.cl.getD (1+v) 0))).ow (g:=cg (gZ x (qp x (x.cl.getD (1+v) 0))) (x.cl.getD (1+v) 0) ((gZ x (qp x (x.cl.getD (1+v) 0))).cl.getD 0 0)) (c:=x.cl.getD (1+v) 0);have IJ:p∈(List.foldl (λh p=>cg h (x.cl.getD (1+v) 0) p.l) (cg (gZ x (qp x (x.cl.getD (1+v) 0))) (x.cl.getD (1+v) 0) ((gZ x (qp x (x.cl.getD (1+v) 0))).cl.getD 0 0)) (gZ x (qp x (x.cl.getD (1+v) 0))).ow).ow:=hp;rw[e]at IJ;exact IJ
 exact h p ((mp _ _).subset h1)⟩
theorem nB{f g:CF}(h:aj g)(hs:∀c∈bM g,c∈bM f):aw (aQ g)<=aw f:=by
 have:=uA h (S:=range (aw f)) (λc hc=>mem_range.2 (gP c (hs c hc)));simpa using this
theorem Qm{f g:CF}{a b:Nat}(h:aj g)(h5:f.cl.length=5)(ha:a∈bM f)(hb:b∈bM f)(si:a≠b)(hs:∀c∈bM g,c∈bM (mM f a b)):aw (aQ g)+1<=aw f:=by
 have h1:=uA h (S:=(range (aw f)).erase b) (λc hc=>by
  obtain⟨h1,h2⟩:=XW h5 (hs c hc);rw[List.Nodup.mem_erase_iff nodup_range,mem_range];refine⟨λe=>si (h2 e),?_⟩;rcases h1 with h1|rfl
  .exact gP c h1
  .exact gP c ha)
 rw[length_erase_of_mem (mem_range.2 (gP b hb)),length_range]at h1;have:=gP b hb;omega
theorem JQ{α:Type}{g:α->Nat}{X:Nat}:∀(l:List α),(∀a∈l,g a<=X)->a7 g l<=l.length*X
 |[],_=>by simp[a7]
 |a::l,h=>by
  have h1:=h a (by simp);have h2:=JQ l (λb hb=>h b (by simp[hb]));simp only[a7,length_cons,Nat.succ_mul];omega
theorem uJ{a b:Nat}(h:a<=b):9 ^ a<=9 ^ b:=Nat.pow_le_pow_right (by omega) h
theorem uI{a b:Nat}(h:a<=b):2 ^ a<=2 ^ b:=Nat.pow_le_pow_right (by omega) h
theorem X8{nds:List Nd}{n m:Nat}{f g:CF}(h:n<=m)(hn:aw g<=aw f):iz nds m g<=iz nds n f :=
 Nat.mul_le_mul (uJ (Nat.add_le_add hn (mU h))) (uI (mU h))
theorem Wu{nds:List Nd}{n m:Nat}{f g:CF}(h:n<=m)(hn:aw g+1<=aw f):9*iz nds m g<=iz nds n f:=by
 unfold iz;have h1:9*9 ^ (aw g+ue IS nds m)<=9 ^ (aw f+ue IS nds n):=by
  rw[Nat.mul_comm,<-Nat.pow_succ];exact uJ (by have:=mU (P:=IS) (nds:=nds) h;omega)
 rw[<-Nat.mul_assoc];exact Nat.mul_le_mul h1 (uI (mU h))
theorem abl{f:CF}(h:aj f):f.ow.length<=aw f:=by
 have:=List.Nodup.length_le_of_subset h.lf (l₂:=range (aw f)) (λc hc=>by
  obtain⟨p,hp,rfl⟩:=mem_map.1 hc;exact mem_range.2 (gP _ (zy hp).1))
 simpa using this
theorem zZ.of{nds:List Nd}{n m:Nat}{f g:CF}(h:zZ nds n f)(hm:n<=m)(hg:aj g)(hk:K3 g)(hn:aw (aQ g)<=aw f):zZ nds m (aQ g):=⟨hg.tidy,hk.td,by have:=h.nm;have:=mU (P:=IS) (nds:=nds) hm;omega⟩
theorem abg{nds:List Nd}{n m v:Nat}{f:CF}{G:CF->CF}(hv:v<4)(hm:n<=m)(h:zZ nds n f)(hG:Opn v G):(∀g∈(bR (c9 f v) G).nx,zZ nds m g)/\a7 (iz nds m) (bR (c9 f v) G).nx<=iz nds n f:=by
 have pw:=jX hv h.td.ok h.td.ln;show(∀g∈(c9 f v).1.map (λx=>aQ (G x)),_)/\a7 _ ((c9 f v).1.map (λx=>aQ (G x)))<=_;rcases abd h.k3 v with(e|e)|⟨hb,dO,hJ⟩
 .rw[e];exact⟨λg hg=>by simp at hg,by simp[a7]⟩
 .have hx:=pw f (by rw[e];simp);have hn:=nB (hG.ok hx) (hG.lv hx);rw[e];refine⟨λg hg=>?_,?_⟩
  .simp only[map_cons,map_nil,mem_singleton]at hg;subst hg;exact h.of hm (hG.ok hx) (hG.k3 h.k3) hn
  .simp only[map_cons,map_nil,a7,Nat.add_zero];exact X8 hm hn
 .have key:∀x∈(c9 f v).1,aw (aQ (G x))+1<=aw f/\K3 (G x)/\aj (G x):=by
   intro x hx;have ho:=pw x hx;obtain⟨i,hi,rfl⟩:=hJ x hx;refine⟨Qm (hG.ok ho) h.td.ok.c5 (Gw hi).1 (DI (by omega)) (λe=>pL hb _ (uG hi) e) (hG.lv ho),hG.k3 (h.k3.jo _ _),hG.ok ho⟩
  refine⟨λg hg=>?_,?_⟩
  .obtain⟨x,hx,rfl⟩:=mem_map.1 hg;obtain⟨k1,k2,k3⟩:=key x hx;exact h.of hm k3 k2 (by omega)
  .have h9:f.ow.length<=9:=(by have:=abl h.td.ok;have:=h.nm;omega);obtain⟨X,hX⟩:∃X,X=iz nds n f / 9:=⟨_,rfl⟩;have h1:=JQ (g:=iz nds m) (X:=X) ((c9 f v).1.map (λx=>aQ (G x))) (λg hg=>by
    obtain⟨x,hx,rfl⟩:=mem_map.1 hg;have:=Wu (nds:=nds) hm (key x hx).1;omega)
   rw[length_map]at h1;have h2:(c9 f v).1.length*X<=9*X:=Nat.mul_le_mul_right _ (by omega);omega
theorem Ee{α:Type}(g:α->Nat):∀(a b:List α),a7 g (a++b)=a7 g a+a7 g b
 |[],b=>by simp[a7]
 |x::a,b=>by simp only[cons_append,a7,Ee g a b];omega
theorem RC{α:Type}(g:α->Nat){a b:List α}(h:a.Sublist b):a7 g a<=a7 g b:=by
 induction h with
 |slnil=>exact zq4 _
 |cons x _ ih=>simp only[a7];omega
 |cons_cons x _ ih=>simp only[a7];omega
structure YL(nds:List Nd)(n:Nat)(f:CF)(o:MX):Prop where
 nx:∀g∈o.nx,zZ nds (nds.getD n aI).nx g
 ot:∀g∈o.ot,zZ nds (nds.getD n aI).ot g
 w:a7 (iz nds (nds.getD n aI).nx) o.nx+a7 (iz nds (nds.getD n aI).ot) o.ot<=iz nds n f
structure Fwd(nds:List Nd):Prop where
 v:∀n,(nds.getD n aI).v<4/\(nds.getD n aI).ai<4
 nx:∀n,n<nds.length->(nds.getD n aI).op≠0->n<(nds.getD n aI).nx
 ot:∀n,n<nds.length->xX (nds.getD n aI)=true->n<(nds.getD n aI).ot
theorem acj{nds:List Nd}{n m k:Nat}{f g h:CF}(hn:n<nds.length)(ht:xX (nds.getD n aI)=true)(hm:n<m)(hk:n<k)(hg:aw g<=aw f)(hh:aw h<=aw f):iz nds m g+iz nds k h<=iz nds n f:=by
 have one:∀{m:Nat} {g:CF},n<m->aw g<=aw f->2*iz nds m g<=iz nds n f:=fun {m g} hm hg=>by
  unfold iz;have h1:=uJ (show aw g+ue IS nds m<=aw f+ue IS nds n by have:=mU (P:=IS) (nds:=nds) (Nat.le_of_lt hm);omega);have h2:2*2 ^ (ue xX nds m)<=2 ^ (ue xX nds n):=by
   rw[Nat.mul_comm,<-Nat.pow_succ];exact uI (NF hn hm ht)
  calc 2*(9 ^ (aw g+ue IS nds m)*2 ^ (ue xX nds m))=9 ^ (aw g+ue IS nds m)*(2*2 ^ (ue xX nds m)):=by rw[Nat.mul_left_comm]
   _<=_:=Nat.mul_le_mul h1 h2
 have h1:=one hm hg;have h2:=one hk hh;omega
theorem aeJ{nds:List Nd}(hF:Fwd nds){n:Nat}(hn:n<nds.length){f:CF}(h:zZ nds n f):YL nds n f (cn (nds.getD n aI) f):=by
 obtain⟨hv,ha⟩:=hF.v n;have v7:=hF.nx n hn;have Mu:=hF.ot n hn;obtain⟨nd,dG⟩:∃nd,nd=nds.getD n aI:=⟨_,rfl⟩;have h5:=h.td.ok.c5;have keep:∀{m:Nat} {g:CF},n<=m->aj g->K3 g->(∀c∈bM g,c∈bM f)->zZ nds m (aQ g)/\iz nds m (aQ g)<=iz nds n f:=λhm hg hk hl =>
  ⟨h.of hm hg hk (nB hg hl),X8 hm (nB hg hl)⟩
 have one:∀{g:CF},(nds.getD n aI).op≠0->aj g->K3 g->(∀c∈bM g,c∈bM f)->YL nds n f ⟨[aQ g],[],false,false,false⟩:=λho hg hk hl=>by
  obtain⟨k1,k2⟩:=keep (Nat.le_of_lt (v7 ho)) hg hk hl;exact⟨λx hx=>by simp only[mem_singleton]at hx;subst hx;exact k1,λx hx=>by simp at hx,by simp only[a7,Nat.add_zero];exact k2⟩
 have opn:∀{v:Nat} {G:CF->CF},(nds.getD n aI).op≠0->v<4->Opn v G->YL nds n f (bR (c9 f v) G):=λho hv hG=>by
  obtain⟨k1,k2⟩:=abg hv (Nat.le_of_lt (v7 ho)) h hG;exact⟨k1,λx hx=>by simp[bR]at hx,by show _+a7 _ ([]:List CF)<=_;simp only[a7,Nat.add_zero];exact k2⟩
 -- the two sides of a test
 have hjo:∀{a b:Nat},a∈bM f->aV f a b=false->aj (mM f a b)/\K3 (mM f a b)/\∀c∈bM (mM f a b),c∈bM f:=fun {a b} IB hd=>⟨h.td.ok.jo (by have:=gP _ IB;have:=h.nm;omega) (io hd),h.k3.jo _ _,λc hc=>by
  rcases(XW h5 hc).1 with hc|rfl
  .exact hc
  .exact IB⟩
 have test:∀{x y:List CF} {m k:Nat},xX (nds.getD n aI)=true->n<m->n<k->(x=[]\/∃g,x=[aQ g]/\aj g/\K3 g/\∀c∈bM g,c∈bM f)->(y=[]\/∃g,y=[aQ g]/\aj g/\K3 g/\∀c∈bM g,c∈bM f)->(∀g∈x,zZ nds m g)/\(∀g∈y,zZ nds k g)/\a7 (iz nds m) x+a7 (iz nds k) y<=iz nds n f:=by
  intro x y m k ht hm hk hx hy;rcases hx with rfl|⟨g,rfl,g1,g2,g3⟩
  .rcases hy with rfl|⟨g',rfl,g1',g2',g3'⟩
   .exact⟨λz hz=>by simp at hz,λz hz=>by simp at hz,by simp[a7]⟩
   .obtain⟨k1,k2⟩:=keep (Nat.le_of_lt hk) g1' g2' g3';exact⟨λz hz=>by simp at hz,λz hz=>by rw[mem_singleton]at hz;subst hz;exact k1,by simp only[a7,Nat.add_zero,Nat.zero_add];exact k2⟩
  .rcases hy with rfl|⟨g',rfl,g1',g2',g3'⟩
   .obtain⟨k1,k2⟩:=keep (Nat.le_of_lt hm) g1 g2 g3;exact⟨λz hz=>by rw[mem_singleton]at hz;subst hz;exact k1,λz hz=>by simp at hz,by simp only[a7,Nat.add_zero];exact k2⟩
   .obtain⟨k1,-⟩:=keep (Nat.le_of_lt hm) g1 g2 g3;obtain⟨k1',-⟩:=keep (Nat.le_of_lt hk) g1' g2' g3';exact⟨λz hz=>by rw[mem_singleton]at hz;subst hz;exact k1,λz hz=>by rw[mem_singleton]at hz;subst hz;exact k1',by simp only[a7,Nat.add_zero];exact acj hn ht hm hk (nB g1 g3) (nB g1' g3')⟩
 have self:∃g,[aQ f]=[aQ g]/\aj g/\K3 g/\∀c∈bM g,c∈bM f:=⟨f,rfl,h.td.ok,h.k3,λc hc=>hc⟩;have cm1:(mu f nd).1=[]\/∃g,(mu f nd).1=[aQ g]/\aj g/\K3 g/\∀c∈bM g,c∈bM f:=by
  simp only[mu];split
  .exact zq0 rfl
  .rename_i hd;exact zq1 ⟨_,rfl,hjo (DI (by rw[dG];omega)) (by simpa using hd)⟩
 have cm2:(mu f nd).2=[]\/∃g,(mu f nd).2=[aQ g]/\aj g/\K3 g/\∀c∈bM g,c∈bM f:=by
  simp only[mu];split
  .exact zq0 rfl
  .exact zq1 ⟨_,rfl,h.td.ok.pa (h.td.ok.get _) (h.td.ok.cT _ _),h.k3,λc hc=>hc⟩
 rw[<-dG]at hv ha v7 Mu one opn test ⊢;have UH:nd.op≠0->n<nd.nx:=v7;unfold cn;split
 .exact⟨λx hx=>by simp[wN]at hx,λx hx=>by simp[wN]at hx,by simp[wN,a7]⟩
 .rename_i h0;split
  .exact one h0 (h.td.ok.sC _ (h.td.ok.cT _ _)) h.k3 (λc hc=>by
    rcases Bn h5 hc with hc|rfl
    .exact hc
    .exact Nx ha)
  .split
   .exact opn h0 ha abh
   .split
    .exact opn h0 hv (abj ha)
    .split
     .rename_i h4;split
      .exact⟨λx hx=>by simp at hx,λx hx=>by simp at hx,by simp[a7]⟩
      .rename_i hN;have Pb:=rS (v:=nd.v) h.td.ok (by omega);have au:=UH h0;have ID:=NF (P:=IS) hn au (by rw[<-dG];simpa[IS] using h4);have Cu:aw (aQ (Ev f nd.v))<=aw f+1:=by
        have:=uA Pb (S:=range (aw f+1)) (λc hc=>by
         rw[mem_range];rcases Bn (f:=mf f ⟨3,aw f,f.cl.getD 0 0⟩) h5 hc with hc|rfl
         .rcases aaZ h5 hc with hc|rfl|rfl
          .have:=gP c hc;omega
          .exact Nat.lt_succ_self _
          .have:=gP _ (DI (f:=f) (i:=0) (by omega));show f.cl.getD 0 0<aw f+1;omega
         .exact Nat.lt_succ_self _)
        simpa using this
       have hk:K3 (Ev f nd.v):=by
        intro p hp;rcases mem_append.1 hp with hp|hp
        .exact h.k3 p hp
        .rw[mem_singleton]at hp;subst hp;rfl
       have arW:=h.nm;refine⟨λx hx=>?_,λx hx=>by simp at hx,?_⟩
       .simp only[mem_singleton]at hx;subst hx;exact⟨Pb.tidy,hk.td,by rw[<-dG];omega⟩
       .simp only[a7,Nat.add_zero];rw[<-dG];exact Nat.mul_le_mul (uJ (by omega)) (uI (mU (Nat.le_of_lt au)))
     .split
      .exact opn h0 hv (abi nd.v)
      .split
       .rename_i h7;have ht:xX nd=true:=(by simp[xX,h7]);obtain⟨k1,k2,k3⟩:=test ht (UH h0) (Mu ht) (zq1 self) (zq1 self);exact⟨by rw[<-dG];exact k1,by rw[<-dG];exact k2,by rw[<-dG];exact k3⟩
       .split
        .rename_i h8;have ht:xX nd=true:=(by simp[xX,h8]);obtain⟨k1,k2,k3⟩:=test ht (UH h0) (Mu ht) cm1 cm2;exact⟨by rw[<-dG];exact k1,by rw[<-dG];exact k2,by rw[<-dG];exact k3⟩
        .split
         .rename_i h9;have ht:xX nd=true:=(by simp[xX,h9]);obtain⟨k1,k2,k3⟩:=test ht (UH h0) (Mu ht) cm2 cm1;exact⟨by rw[<-dG];exact k1,by rw[<-dG];exact k2,by rw[<-dG];exact k3⟩
         .exact one h0 h.td.ok h.k3 (λc hc=>hc)
