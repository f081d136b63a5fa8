import Derived.Test.YtciihepbeacppaaGreatM23
set_option maxRecDepth 100000
set_option maxHeartbeats 0
namespace Go.Proofs.YtciihepbeacppaaGreat
open Tryz Go.RowKit List World Below
set_option linter.unusedVariables false
section
variable {c:Cd} {N n:Nat} {f:CF} {s:Sr}
theorem vh(b:Bool)(hs:iS N s):oW s (fuS b s)/\iS N (fuS b s)/\(Sf (fuS b s)->b=false):=by
 refine⟨⟨λh=>?_,λ_ _ h=>h,λ_ _ _ h=>h⟩,⟨hs.kn,hs.wr,hs.rw,hs.td⟩,λh=>?_⟩
 .show(s.fu||b)=true;rw[h];rfl
 .have h1:(s.fu||b)=false:=h.1;rw[Bool.or_eq_false_iff]at h1;exact h1.2
theorem Bm{fuel:Nat}(hN:c.nds.length=N)(hO:uG c.nds)(hn:n<N)(hf:Td f)(hs:iS N s):oW s (oE c fuel n f s)/\iS N (oE c fuel n f s)/\(Sf (oE c fuel n f s)->LH c (oE c fuel n f s) n f):=by
 obtain⟨hv,ha⟩:=hO.v n;obtain⟨t1,t2⟩:=lY hv ha hf;have jX:n<c.nds.length:=by rw[hN];exact hn
 have cf:(bL (c.nds.getD n aI) f).nx≠[]->(c.nds.getD n aI).nx<N:=λh=>by rw[<-hN];exact hO.nx n jX (rM h)
 have xq:(bL (c.nds.getD n aI) f).ot≠[]->(c.nds.getD n aI).ot<N:=λh=>by rw[<-hN];exact hO.ot n jX (mQ h)
 unfold oE;simp only;obtain⟨a1,a2,a3⟩:=fM (b:=decide ((c.nds.getD n aI).op=0)&&!decide (fj f=[])) (k:=2) hs hn (by omega);obtain⟨b1,b2,b3⟩:=fM (b:=(bL (c.nds.getD n aI) f).nu) (k:=3) a2 hn (by omega);obtain⟨d1,d2,d3⟩:=fM (b:=(bL (c.nds.getD n aI) f).da) (k:=4) b2 hn (by omega);obtain⟨e1,e2,e3⟩:=vh (bL (c.nds.getD n aI) f).fu d2;obtain⟨g1,g2,g3⟩:=ky (c:=c) (fuel:=fuel) (b:=(c.nds.getD n aI).nx) hn (bL (c.nds.getD n aI) f).nx cf t1 e2;obtain⟨k1,k2,k3⟩:=ky (c:=c) (fuel:=fuel) (b:=(c.nds.getD n aI).ot) hn (bL (c.nds.getD n aI) f).ot xq t2 g2;have oY:=g1.trans k1;refine⟨a1.trans (b1.trans (d1.trans (e1.trans oY))),k2,λhS=>?_⟩;have S3:=k1.sf hS;have S2:=g1.sf S3;have Sd:=e1.sf S2;have Sb:=d1.sf Sd;have Sa:=b1.sf Sb;refine⟨b3 (by omega) Sb,d3 (by omega) Sd,e3 S2,λh0=>?_,λg hg=>⟨(t1 g hg).ok,λP hc KE=>k1.kn _ _ hc (g3 S3 g hg P hc KE)⟩,λg hg=>⟨(t2 g hg).ok,λP hc KE=>k3 hS g hg P hc KE⟩⟩;have:=a3 (by omega) Sa;rw[decide_eq_true h0,Bool.true_and]at this;simpa using this
def JN(c:Cd)(s:Sr)(n0:Nat)(R:List CF):Prop:=∀n,∀e∈a7 s n,e.d=true->LH c s n e.f\/(n=n0/\e.f∈R)
def jY(s s':Sr):Prop:=∀n,∀e∈a7 s' n,e.d=true->e∈a7 s n
theorem jY.refl(s:Sr):jY s s:=λ_ _ h _=>h
theorem jY.trans{a b c:Sr}(h:jY a b)(h':jY b c):jY a c:=λn e he hd=>h n e (h' n e he hd) hd
theorem Dd{n:Nat}{f:CF}{s:Sr}(hn:n<s.kn.length):jY s (bF c n f s):=by
 unfold bF;split
 .exact jY.refl s
 .intro m e he hd;have hkA:a7 (pU c (nk n (bm c n f) (mG c s (2*(a7 s n).length)))) m=if n=m then (a7 s n).filter (λe=>!xF e.f (bm c n f))++[⟨bm c n f,false⟩] else a7 s m:=gK hn m
  rw[hkA]at he;by_cases e0:n=m
  .subst e0;rw[if_pos rfl]at he;rcases mem_append.1 he with he|he
   .exact(mem_filter.1 he).1
   .rw[mem_singleton.1 he]at hd;cases hd
  .rw[if_neg e0]at he;exact he
theorem Db{n:Nat}:∀(l:List CF) {s:Sr},cX l->iS N s->n<N->jY s (l.foldl (λs g=>bF c n g s) s)
 |[],s,_,_,_=>jY.refl s
 |g::l,s,hl,h,hn=>by
  rw[foldl_cons];obtain⟨-,h2,-⟩:=ub (c:=c) (hl g (by simp)) h hn;exact(Dd (by rw[h.kn];exact hn)).trans (Db l (λx hx=>hl x (by simp[hx])) h2 hn)
theorem G5{fuel a b:Nat}(hf:Td f)(hs:iS N s)(ha:a<N)(hb:b<N):jY s (dJ c fuel a b f s):=by
 unfold dJ;split
 .exact Dd (by rw[hs.kn];exact hb)
 .simp only;obtain⟨-,g2⟩:=Bu hs ha (k:=2) (by omega);obtain⟨k1,k2,k3⟩:=mS (c:=c) fuel 0 (res:=[]) (r:=([f],mm a 2 s)) (λg hg=>by rw[mem_singleton.1 hg];exact hf) (λg hg=>by simp at hg);have hS:iS N (jC c fuel 0 [] ([f],mm a 2 s)).2:=⟨by rw[k2];exact g2.kn,by rw[k3];exact g2.wr,λr hr=>by rw[k3]at hr;exact g2.rw r hr,λl hl=>by rw[k2]at hl;exact g2.td l hl⟩;refine jY.trans (b:=(jC c fuel 0 [] ([f],mm a 2 s)).2) (λm e he _=>?_) (Db _ k1 hS hb);unfold a7 at he ⊢;rw[k2]at he;exact he
theorem zw{fuel a b:Nat}(ha:a<N):∀(l:List CF) {s:Sr},(l≠[]->b<N)->cX l->iS N s->jY s (l.foldl (λs g=>dJ c fuel a b g s) s)
 |[],s,_,_,_=>jY.refl s
 |g::l,s,hb,hl,h=>by
  rw[foldl_cons];have hbN:=hb (by simp);obtain⟨-,h2,-⟩:=pB (c:=c) (fuel:=fuel) (hl g (by simp)) h ha hbN;exact(G5 (hl g (by simp)) h ha hbN).trans (zw ha l (λ_=>hbN) (λx hx=>hl x (by simp[hx])) h2)
theorem Bt(b:Bool)(n k:Nat)(s:Sr):jY s (wrI b n k s):=λm e he _=>by
 unfold a7 at he ⊢;rw[iu]at he;exact he
theorem VJ{fuel:Nat}(hN:c.nds.length=N)(hO:uG c.nds)(hn:n<N)(hf:Td f)(hs:iS N s):jY s (oE c fuel n f s):=by
 obtain⟨hv,ha⟩:=hO.v n;obtain⟨t1,t2⟩:=lY hv ha hf;have jX:n<c.nds.length:=by rw[hN];exact hn
 have cf:(bL (c.nds.getD n aI) f).nx≠[]->(c.nds.getD n aI).nx<N:=λh=>by rw[<-hN];exact hO.nx n jX (rM h)
 have xq:(bL (c.nds.getD n aI) f).ot≠[]->(c.nds.getD n aI).ot<N:=λh=>by rw[<-hN];exact hO.ot n jX (mQ h)
 unfold oE;simp only;obtain⟨-,a2,-⟩:=fM (b:=decide ((c.nds.getD n aI).op=0)&&!decide (fj f=[])) (k:=2) hs hn (by omega);obtain⟨-,b2,-⟩:=fM (b:=(bL (c.nds.getD n aI) f).nu) (k:=3) a2 hn (by omega);obtain⟨-,d2,-⟩:=fM (b:=(bL (c.nds.getD n aI) f).da) (k:=4) b2 hn (by omega);obtain⟨-,e2,-⟩:=vh (bL (c.nds.getD n aI) f).fu d2;obtain⟨-,g2,-⟩:=ky (c:=c) (fuel:=fuel) (b:=(c.nds.getD n aI).nx) hn (bL (c.nds.getD n aI) f).nx cf t1 e2;refine jY.trans ?_ (zw hn _ xq t2 g2);refine jY.trans ?_ (zw hn _ cf t1 e2);refine jY.trans (b:=wrI (bL (c.nds.getD n aI) f).da n 4 (wrI (bL (c.nds.getD n aI) f).nu n 3 (wrI (decide ((c.nds.getD n aI).op=0)&&!decide (fj f=[])) n 2 s))) ?_ (λm e he _=>he);exact(Bt _ _ _ _).trans ((Bt _ _ _ _).trans (Bt _ _ _ _))
theorem JN.old{s':Sr}{n0:Nat}{R:List CF}(h:JN c s n0 R)(ho:jY s s')(hl:oW s s'):JN c s' n0 R:=λn e he hd=>by
 rcases h n e (ho n e he hd) hd with h1|h1
 .exact zq0 (h1.mono hl)
 .exact zq1 h1
theorem Br{fuel:Nat}(hN:c.nds.length=N)(hO:uG c.nds)(hn:n<N):∀(l:List CF) {s:Sr},cX l->iS N s->oW s (mJ c fuel n l s)/\iS N (mJ c fuel n l s)/\(Sf (mJ c fuel n l s)->JN c s n l->JN c (mJ c fuel n l s) n [])
 |[],s,_,h=>⟨oW.refl s,h,λ_ h=>h⟩
 |f::r,s,hl,h=>by
  unfold mJ;split
  .rename_i dK;exact⟨oW.refl s,h,λhS=>by rw[hS.1]at dK;cases dK⟩
  .obtain⟨h1,h2,h3⟩:=Bm (fuel:=fuel) hN hO hn (hl f (by simp)) h;obtain⟨h4,h5,h6⟩:=Br hN hO hn r (λx hx=>hl x (by simp[hx])) h2;refine⟨h1.trans h4,h5,λhS hJ=>h6 hS ?_⟩;intro m e he hd;rcases hJ.old (VJ hN hO hn (hl f (by simp)) h) h1 m e he hd with g|⟨g1,g2⟩
   .exact zq0 g
   .rcases mem_cons.1 g2 with g2|g2
    .left;rw[g1,g2];exact h3 (h4.sf hS)
    .exact zq1 ⟨g1,g2⟩
theorem JN.nil{n0 n1:Nat}(h:JN c s n0 []):JN c s n1 []:=λn e he hd=>by
 rcases h n e he hd with g|⟨-,g⟩
 .exact zq0 g
 .simp at g
theorem GC{fuel:Nat}(hN:c.nds.length=N)(hO:uG c.nds)(hn:n<N)(h:iS N s):oW s (rp c fuel n s)/\iS N (rp c fuel n s)/\(Sf (rp c fuel n s)->JN c s n []->JN c (rp c fuel n s) n []):=by
 have fJ:n<s.kn.length:=by rw[h.kn];exact hn
 obtain⟨s0,r8⟩:∃s0:Sr,s0={ s with kn:=s.kn.set n ((a7 s n).map (λe:gT=>(⟨e.f,true⟩:gT))) }:=⟨_,rfl⟩;have hkA:∀m,a7 s0 m=if n=m then (a7 s n).map (λe=>⟨e.f,true⟩) else a7 s m:=λm=>by rw[r8];exact gK fJ m
 have hL:oW s s0:=by
  refine⟨λh=>by rw[r8];exact h,λm k h=>by rw[r8];exact h,λm P _ hk=>?_⟩;obtain⟨e,he,hf⟩:=hk;unfold xh;rw[hkA];by_cases e0:n=m
  .subst e0;rw[if_pos rfl];exact⟨⟨e.f,true⟩,mem_map.2 ⟨e,he,rfl⟩,hf⟩
  .rw[if_neg e0];exact⟨e,he,hf⟩
 have Fp:iS N s0:=by
  rw[r8];refine⟨by show(s.kn.set n _).length=N;rw[length_set];exact h.kn,h.wr,h.rw,λl hl e he=>?_⟩;rcases mem_or_eq_of_mem_set (show l∈s.kn.set n _ from hl) with h1|rfl
  .exact h.td l h1 e he
  .obtain⟨x,hx,rfl⟩:=mem_map.1 he;exact h.td.at n x hx
 have iX:cX (lJ (a7 s n)):=λg hg=>by
  obtain⟨e,he,rfl⟩:=mem_map.1 hg;exact h.td.at n e (mem_filter.1 he).1
 obtain⟨h1,h2,h3⟩:=Br (fuel:=fuel) hN hO hn (lJ (a7 s n)) iX Fp;have e1:rp c fuel n s=mJ c fuel n (lJ (a7 s n)) s0:=by rw[r8];rfl
 rw[e1];refine⟨hL.trans h1,h2,λhS hJ=>h3 hS ?_⟩;intro m e he hd;rw[hkA]at he;by_cases e0:n=m
 .subst e0;rw[if_pos rfl]at he;obtain⟨x,hx,rfl⟩:=mem_map.1 he;cases hxd:x.d with
  |true =>
   rcases hJ n x hx hxd with g|⟨-,g⟩
   .exact zq0 (g.mono hL)
   .simp at g
  |false=>exact zq1 ⟨rfl,mem_map.2 ⟨x,mem_filter.2 ⟨hx,by simp[hxd]⟩,rfl⟩⟩
 .rw[if_neg e0]at he;rcases hJ m e he hd with g|⟨-,g⟩
  .exact zq0 (g.mono hL)
  .simp at g
theorem oy{fuel:Nat}(hN:c.nds.length=N)(hO:uG c.nds):∀(k:Nat) {s:Sr},iS N s->oW s (pS c fuel k s)/\iS N (pS c fuel k s)/\((pS c fuel k s).ok=true->Sf (pS c fuel k s)->JN c s 0 []->∀n,∀e∈a7 (pS c fuel k s) n,LH c (pS c fuel k s) n e.f)
 |0,s,h=>⟨⟨λh=>h,λ_ _ h=>h,λ_ _ _ h=>h⟩,⟨h.kn,h.wr,h.rw,h.td⟩,λbD=>by cases bD⟩
 |k+1,s,h=>by
  unfold pS;split
  .rename_i hp;refine⟨oW.refl s,h,λ_ _ hJ n e he=>?_⟩;have hd:e.d=true:=by
    unfold Et at hp;rw[findIdx?_eq_none_iff]at hp;unfold a7 at he;obtain⟨y,hy,hey⟩:∃y∈s.kn,e∈y:=by
     rw[getD_eq_getElem?_getD]at he;cases hg:s.kn[n]? with
     |none=>rw[hg]at he;simp at he
     |some y=>rw[hg]at he;exact⟨y,mem_of_getElem? hg,he⟩
    have:=hp y hy;rw[any_eq_false]at this;have:=this e hey;simpa using this
   rcases hJ n e he hd with g|⟨-,g⟩
   .exact g
   .simp at g
  .rename_i n hp;have hn:n<N:=by
    unfold Et at hp;obtain⟨h1,-⟩:=findIdx?_eq_some_iff_getElem.1 hp;rw[<-h.kn];exact h1
   split
   .rename_i dK;exact⟨oW.refl s,h,λ_ hS=>by rw[hS.1]at dK;cases dK⟩
   .obtain⟨h1,h2,h3⟩:=GC (fuel:=fuel) hN hO hn h;obtain⟨h4,h5,h6⟩:=oy (fuel:=fuel) hN hO k h2;exact⟨h1.trans h4,h5,λbD hS hJ=>h6 bD hS (h3 (h4.sf hS) hJ.nil).nil⟩
theorem uq(nds:List Nd):iS nds.length (kL nds):=by
 refine⟨by simp[kL],by simp[kL],λr hr=>?_,λl hl e he=>?_⟩
 .have:=eq_of_mem_replicate (show r∈replicate nds.length (replicate 5 false) from hr);rw[this];simp
 .have:=eq_of_mem_replicate (show l∈replicate nds.length ([]:List gT) from hl);rw[this]at he;simp at he
theorem Bl(nds:List Nd)(n:Nat):a7 (kL nds) n=[]:=by
 unfold a7 kL;rw[getD_eq_getElem?_getD,getElem?_replicate];split <;> rfl
end
def IsL(B:Nat)(w:World)(X:Nat)(ws:List ByteArray)(s:PS)(al:List cn):Prop :=
 ∃Q,w.heap[X]?=some (.cells #[.pointer (some ⟨Q,0,none⟩),.pointer none] 88 (0,0))/\B<=X/\Yu B w Q ws s al
theorem Yu.alloc{B:Nat}{w:World}{Q:Nat}{ws:List ByteArray}{s:PS}{al:List cn}(h:Yu B w Q ws s al)(o:Obj):Yu B (w.alloc o) Q ws s al:=by
 obtain⟨vv,pv,nv,h0,hB,h1,h2,h3⟩:=h;exact⟨vv,pv,nv,by rw[heap_alloc _ _ _ (Array.getElem?_eq_some_iff.1 h0).1];exact h0,hB,h1.alloc o,h2.alloc o,h3.alloc o⟩
theorem Dg(s:ByteArray)(w:World)(hs:s.size<=20000):
  Calls prog 25 #[.string s] w λe w'=>Below w.heap.size w w' /\
   ((lA s.data.toList≠0/\e=.returned (.tuple #[.pointer none,.int .i64 (lA s.data.toList)])) \/
    (lA s.data.toList=0/\∃X,e=.returned (.tuple #[.pointer (some ⟨X,0,none⟩),.int .i64 0])/\IsL w.heap.size w' X (b9 s.data.toList) (bO s.data.toList) (eW (b9 s.data.toList) aX))):=by
 go_enter func25,ntmps25;go_wp2_with fail
 refine(QE s w hs).mono ?_;rintro e w1 ⟨cH,(⟨aL,rfl⟩|⟨h0,Q,rfl,hc⟩)⟩
 .have ZT:(((lA s.data.toList:Nat):Int) != 0)=true:=by rw[bne_iff_ne];omega
  have HN:=ab aL;clear aL;go_wp2_with fail
  go_ret2;exact⟨cH,zq0 ⟨uh HN,rfl⟩⟩
 .have H0:=ab h0;have HC:=ab hc;clear h0 hc;go_wp2_with fail
  go_ret2;have hz:=cH.size;exact⟨cH.alloc hz _,zq1 ⟨uh H0,w1.heap.size,rfl,Q,heap_alloc_new w1 _,hz,(uh HC).alloc _⟩⟩
def cV:ByteArray:=⟨#[112,114,101]⟩
def Rd(ws:List ByteArray)(s:PS)(r:List ByteArray):Prop:=s.failed=false/\ws.drop s.pos=r/\s.pos<=ws.length
def Res(ws:List ByteArray)(s:PS):Option (List ByteArray)->Prop
 |none=>s.failed=true
 |some r=>Rd ws s r
structure lN(ws:List ByteArray)(F:PS->PS)(f:List ByteArray->Option (List ByteArray)):Prop where
 ok:∀s r,Rd ws s r->Res ws (F s) (f r)
 bad:∀s,s.failed=true->(F s).failed=true
 nd:∀s,(F s).nodes=s.nodes
def gW(k:ByteArray):List ByteArray->Bool
 |[]=>false
 |x::_=>aW x k
def lK(k:ByteArray):List ByteArray->Option (List ByteArray)
 |[]=>none
 |x::r=>if aW x k then some r else none
theorem y7{ws:List ByteArray}{s:PS}{x:ByteArray}{r:List ByteArray}(h:Rd ws s (x::r)):pk ws s=x:=by
 unfold pk;rw[if_neg (by simp[h.1])];have:ws[s.pos]?=some x:=by rw[<-head?_drop,h.2.1];rfl
 rw[this];rfl
theorem Gj{ws:List ByteArray}{s:PS}(h:Rd ws s []):pk ws s=⟨#[]⟩:=by
 apply Gi;have:=congrArg List.length h.2.1;simp only[length_drop,length_nil]at this;omega
theorem cY{ws:List ByteArray}{s:PS}{x:ByteArray}{r:List ByteArray}(h:Rd ws s (x::r)):Rd ws s.adv r :=
 ⟨h.1,by show ws.drop (s.pos+1)=r;rw[<-drop_drop,h.2.1];rfl,by
  have:=congrArg List.length h.2.1;simp only[length_drop,length_cons]at this;show s.pos+1<=ws.length;omega⟩
theorem WG:(⟨#[]⟩:ByteArray).toList=[]:=ByteArray.toList_eq _
theorem dh{ws:List ByteArray}{s:PS}{k:ByteArray}{r:List ByteArray}(hk:k.toList≠[])(h:Rd ws s r):bR ws k s=gW k r:=by
 cases r with
 |nil=>unfold bR;rw[Gj h,WG];cases BP:k.toList with
  |nil=>exact absurd BP hk
  |cons _ _=>rfl
 |cons x r=>unfold bR;rw[y7 h];rfl
theorem kf{ws:List ByteArray}{s:PS}{k:ByteArray}(hk:k.toList≠[])(h:s.failed=true):bR ws k s=false:=by
 unfold bR;rw[lz h,WG];cases BP:k.toList with
  |nil=>exact absurd BP hk
  |cons _ _=>rfl
theorem lN.comp{ws:List ByteArray}{F G:PS->PS}{f g:List ByteArray->Option (List ByteArray)}(hF:lN ws F f)(hG:lN ws G g):lN ws (λs=>G (F s)) (λr=>(f r).bind g):=by
 refine⟨λs r h=>?_,λs h=>hG.bad _ (hF.bad _ h),λs=>(hG.nd _).trans (hF.nd s)⟩;have:=hF.ok s r h;cases hf:f r with
 |none=>rw[hf]at this;exact hG.bad _ this
 |some r'=>rw[hf]at this;exact hG.ok _ _ this
theorem lN.ite{ws:List ByteArray}{A B:PS->PS}{a b:List ByteArray->Option (List ByteArray)}{k:ByteArray}(hk:k.toList≠[])(hA:∀s x r,Rd ws s (x::r)->Res ws (A s) (a (x::r)))(hN:∀s,(A s).nodes=s.nodes)(hB:lN ws B b):lN ws (λs=>if bR ws k s then A s else B s) (λr=>if gW k r then a r else b r):=by
 refine⟨λs r h=>?_,λs h=>?_,λs=>by split;exact hN s;exact hB.nd s⟩
 .rw[dh hk h];cases r with
  |nil=>simp only[gW,Bool.false_eq_true,if_false];exact hB.ok _ _ h
  |cons x r =>
   split
   .exact hA _ _ _ h
   .exact hB.ok _ _ h
 .rw[kf hk h];exact hB.bad _ h
theorem cZ{ws:List ByteArray}{k:ByteArray}(hk:k.toList≠[]):lN ws (aG ws k) (lK k):=by
 refine⟨λs r h=>?_,λs h=>?_,λs=>by unfold aG;split <;> rfl⟩
 .unfold aG;rw[dh hk h];cases r with
  |nil=>simp[gW,lK,Res,PS.fail]
  |cons x r =>
   show Res ws (if aW x k=true then s.adv else s.fail) (if aW x k=true then some r else none);by_cases hx:aW x k=true
   .rw[if_pos hx,if_pos hx];exact cY h
   .rw[if_neg hx,if_neg hx];rfl
 .unfold aG;rw[kf hk h];simp[PS.fail]
def B0:List ByteArray->Option (List ByteArray)
 |[]=>none
 |x::r=>if aF x then some r else none
theorem IM:aF ⟨#[]⟩=false:=rfl
theorem Rb:kW ⟨#[]⟩=false:=rfl
theorem wb{ws:List ByteArray}:lN ws (bK ws) B0:=by
 refine⟨λs r h=>?_,λs h=>?_,λs=>by unfold bK;split <;> rfl⟩
 .unfold bK;cases r with
  |nil=>rw[Gj h,IM];simp[B0,Res,PS.fail]
  |cons x r =>
   rw[y7 h];simp only[B0];split
   .exact⟨h.1,(cY h).2⟩
   .simp[Res,PS.fail]
 .unfold bK;rw[lz h,IM];simp[PS.fail]
theorem vI:j8.toList≠[]:=by rw[ByteArray.toList_eq];simp[j8]
theorem pm:gR.toList≠[]:=by rw[ByteArray.toList_eq];simp[gR]
theorem C8:sU.toList≠[]:=by rw[ByteArray.toList_eq];simp[sU]
theorem ag6:XD.toList≠[]:=by rw[ByteArray.toList_eq];simp[XD]
theorem t0:gb.toList≠[]:=by rw[ByteArray.toList_eq];simp[gb]
theorem vH:ni.toList≠[]:=by rw[ByteArray.toList_eq];simp[ni]
theorem qH:iY.toList≠[]:=by rw[ByteArray.toList_eq];simp[iY]
theorem Au:pN.toList≠[]:=by rw[ByteArray.toList_eq];simp[pN]
theorem PA:Ix.toList≠[]:=by rw[ByteArray.toList_eq];simp[Ix]
theorem nY:dq.toList≠[]:=by rw[ByteArray.toList_eq];simp[dq]
def kK(r:List ByteArray):Option (List ByteArray):=if gW j8 r then some r.tail else B0 r
theorem gN{ws:List ByteArray}:lN ws (ce ws) kK:=lN.ite vI (λ_ _ _ h=>cY h) (λ_=>rfl) wb
def Lj:List ByteArray->Option (List ByteArray)
 |[]=>none
 |x::r=>if kW x then some r else kK (x::r)
theorem sn{ws:List ByteArray}:lN ws (fA ws) Lj:=by
 refine⟨λs r h=>?_,λs h=>?_,λs=>by unfold fA;split;rfl;exact gN.nd s⟩
 .unfold fA;cases r with
  |nil=>rw[Gj h,Rb];exact gN.ok _ _ h
  |cons x r =>
   rw[y7 h];simp only[Lj];cases hx:kW x with
   |true=>exact⟨h.1,(cY h).2⟩
   |false=>exact gN.ok _ _ h
 .unfold fA;rw[lz h,Rb];exact gN.bad _ h
def Lh(r:List ByteArray):Option (List ByteArray):=if gW gR r then some r.tail else if gW sU r then some r.tail else lK XD r
theorem AS{ws:List ByteArray}:lN ws (eY ws) Lh:=lN.ite pm (λ_ _ _ h=>cY h) (λ_=>rfl) (lN.ite C8 (λ_ _ _ h=>cY h) (λ_=>rfl) (cZ ag6))
def pLi(r:List ByteArray):Option (List ByteArray):=((((lK gb r).bind Lj).bind (lK ni)).bind Lj).bind (lK iY)
theorem Qj{ws:List ByteArray}:lN ws (AA ws) pLi:=((((cZ t0).comp sn).comp (cZ vH)).comp sn).comp (cZ qH)
def pq(r:List ByteArray):Option (List ByteArray):=if gW pN r then some r.tail else if gW Ix r then pLi r.tail else ((Lj r).bind Lh).bind Lj
theorem nC{ws:List ByteArray}:lN ws (ep ws) pq :=
 lN.ite Au (λ_ _ _ h=>cY h) (λ_=>rfl) (lN.ite PA (λ_ _ _ h=>Qj.ok _ _ (cY h)) (λs=>Qj.nd s.adv) ((sn.comp AS).comp sn))
theorem Qi{ws:List ByteArray}:lN ws (λs=>s) some:=⟨λ_ _ h=>h,λ_ h=>h,λ_=>rfl⟩
def Lf:Nat->List ByteArray->Option (List ByteArray)
 |0,r=>some r
 |n+1,r=>if gW dq r then (pq r.tail).bind (Lf n) else some r
theorem Vh{ws:List ByteArray}(n:Nat):lN ws (λs=>(jm ws n s).2) (Lf n):=by
 induction n with
 |zero=>exact Qi
 |succ n ih =>
  have e:(λs=>(jm ws (n+1) s).2)=(λs=>if bR ws dq s then (jm ws n (ep ws s.adv)).2 else s):=by
   funext s;simp only[jm];split <;> rfl
  rw[e];exact lN.ite nY (λ_ _ _ h=>(nC.comp ih).ok _ _ (cY h)) (λs=>(nC.comp ih).nd s.adv) Qi
def Lg(n:Nat)(r:List ByteArray):Option (List ByteArray):=(pq r).bind (Lf n)
theorem AR{ws:List ByteArray}:lN ws (pF ws) (Lg (ws.length+1)):=nC.comp (Vh (ws.length+1))
theorem Av:oU.toList≠[]:=by rw[ByteArray.toList_eq];simp[oU]
theorem l9:iJ.toList≠[]:=by rw[ByteArray.toList_eq];simp[iJ]
theorem K1:kN.toList≠[]:=by rw[ByteArray.toList_eq];simp[kN]
theorem nX:ie.toList≠[]:=by rw[ByteArray.toList_eq];simp[ie]
theorem qJ:jd.toList≠[]:=by rw[ByteArray.toList_eq];simp[jd]
theorem yR:mw.toList≠[]:=by rw[ByteArray.toList_eq];simp[mw]
theorem qL:kU.toList≠[]:=by rw[ByteArray.toList_eq];simp[kU]
theorem Aw:je.toList≠[]:=by rw[ByteArray.toList_eq];simp[je]
theorem qK:mu.toList≠[]:=by rw[ByteArray.toList_eq];simp[mu]
theorem lj:bY.toList≠[]:=by rw[ByteArray.toList_eq];simp[bY]
theorem qI:iK.toList≠[]:=by rw[ByteArray.toList_eq];simp[iK]
theorem FT:eH.toList≠[]:=by rw[ByteArray.toList_eq];simp[eH]
def Le(r:List ByteArray):Option (List ByteArray):=if gW sU r then some r.tail else lK gR r
def pCo(r:List ByteArray):Option (List ByteArray):=if gW dq r then some r.tail else ((B0 r).bind Le).bind kK
theorem Vg{ws:List ByteArray}:lN ws (yz ws) Le:=lN.ite C8 (λ_ _ _ h=>cY h) (λ_=>rfl) (cZ pm)
theorem abw{ws:List ByteArray}:lN ws (ti ws) pCo:=lN.ite nY (λ_ _ _ h=>cY h) (λ_=>rfl) ((wb.comp Vg).comp gN)
def pTs(r:List ByteArray):Option (List ByteArray):=((lK gb r).bind pCo).bind (lK iY)
theorem abB{ws:List ByteArray}:lN ws (Mj ws) pTs:=((cZ t0).comp abw).comp (cZ qH)
def pAs(r:List ByteArray):Option (List ByteArray) :=
 if gW oU r then some r.tail else if !gW j8 r&&(match kK r with|some q=>gW iJ q|none=>false) then (kK r).bind (λq=>lK kN q.tail) else kK r
theorem abs{ws:List ByteArray}:lN ws (oL ws) pAs:=by
 refine lN.ite (b:=λr=>if !gW j8 r&&(match kK r with|some q=>gW iJ q|none=>false) then (kK r).bind (λq=>lK kN q.tail) else kK r) Av (λ_ _ _ h=>cY h) (λ_=>rfl) ⟨λs r h=>?_,λs h=>?_,λs=>?_⟩
 .have hv:=gN.ok s r h;have hk:(dI ws s==1)=!gW j8 r:=by
   unfold dI;rw[dh vI h];cases gW j8 r <;> rfl
  unfold D7;rw[hk];cases hp:kK r with
  |none =>
   rw[hp]at hv;rw[kf l9 hv];simp only[Bool.and_false,Bool.false_eq_true,if_false];exact hv
  |some q =>
   rw[hp]at hv;rw[dh l9 hv];by_cases hc:(!gW j8 r&&gW iJ q)=true
   .rw[if_pos hc,if_pos hc];cases q with
    |nil=>simp[gW]at hc
    |cons y q=>exact(cZ K1).ok _ _ (cY hv)
   .rw[if_neg hc,if_neg hc];exact hv
 .have hv:=(gN (ws:=ws)).bad s h;unfold D7;rw[kf l9 hv];simp only[Bool.and_false,Bool.false_eq_true,if_false];exact hv
 .split
  .exact((cZ K1).nd _).trans (gN.nd s)
  .exact gN.nd s
def Vf(r:List ByteArray):Option (List ByteArray):=if gW iJ r then (((lK kN r.tail).bind (lK gR)).bind kK) else (lK gR r).bind pAs
theorem Vj{ws:List ByteArray}:lN ws (λt=>if bR ws iJ t then ce ws (zj ws t) else oL ws (aG ws gR t)) Vf :=
 lN.ite l9 (λ_ _ _ h=>(((cZ K1).comp (cZ pm)).comp gN).ok _ _ (cY h)) (λs=>(((cZ K1).comp (cZ pm)).comp gN).nd s.adv) ((cZ pm).comp abs)
def pSi(r:List ByteArray):Option (List ByteArray):=if gW ie r then some r.tail else if gW jd r then B0 r.tail else (B0 r).bind Vf
theorem abA{ws:List ByteArray}:lN ws (io ws) pSi :=
 lN.ite nX (λ_ _ _ h=>cY h) (λ_=>rfl) (lN.ite qJ (λ_ _ _ h=>wb.ok _ _ (cY h)) (λs=>wb.nd s.adv) (wb.comp Vj))
def aj6(ws:List ByteArray)(n:Nat)(s:PS):Option (List ByteArray × Nat)->Prop
 |none=>s.failed=true
 |some (q,k)=>Rd ws s q/\s.nodes.length=n+k
structure jw(ws:List ByteArray)(F:PS->PS)(f:List ByteArray->Option (List ByteArray × Nat)):Prop where
 ok:∀s r,Rd ws s r->aj6 ws s.nodes.length (F s) (f r)
 bad:∀s,s.failed=true->(F s).failed=true
def DQ(f g:List ByteArray->Option (List ByteArray × Nat))(r:List ByteArray):Option (List ByteArray × Nat) :=
 match f r with
 |none=>none
 |some (q,k)=>match g q with
  |none=>none
  |some (p,j)=>some (p,k+j)
def n0(f:List ByteArray->Option (List ByteArray))(r:List ByteArray):Option (List ByteArray × Nat):=(f r).map (λq=>(q,0))
def n1(f:List ByteArray->Option (List ByteArray))(r:List ByteArray):Option (List ByteArray × Nat):=(f r).map (λq=>(q,1))
theorem lN.n{ws:List ByteArray}{F:PS->PS}{f:List ByteArray->Option (List ByteArray)}(h:lN ws F f):jw ws F (n0 f):=by
 refine⟨λs r hr=>?_,h.bad⟩;have:=h.ok s r hr;unfold n0;cases hf:f r with
 |none=>rw[hf]at this;exact this
 |some q=>rw[hf]at this;exact⟨this,by rw[h.nd s];rfl⟩
theorem lN.n1{ws:List ByteArray}{F G:PS->PS}{f:List ByteArray->Option (List ByteArray)}(h:lN ws F f)(hf:∀s,(G s).failed=(F s).failed)(hp:∀s,(G s).pos=(F s).pos)(hn:∀s,(G s).nodes.length=(F s).nodes.length+1):jw ws G (n1 f):=by
 refine⟨λs r hr=>?_,λs hs=>by rw[hf];exact h.bad s hs⟩;have:=h.ok s r hr;unfold Proofs.YtciihepbeacppaaGreat.n1;cases iX:f r with
 |none=>rw[iX]at this;exact(hf s).trans this
 |some q =>
  rw[iX]at this;exact⟨⟨(hf s).trans this.1,by rw[hp s];exact this.2⟩,by rw[hn s,h.nd s]⟩
theorem jw.comp{ws:List ByteArray}{F G:PS->PS}{f g:List ByteArray->Option (List ByteArray × Nat)}(hF:jw ws F f)(hG:jw ws G g):jw ws (λs=>G (F s)) (DQ f g):=by
 refine⟨λs r h=>?_,λs h=>hG.bad _ (hF.bad _ h)⟩;have h1:=hF.ok s r h;unfold DQ;cases hf:f r with
 |none=>rw[hf]at h1;exact hG.bad _ h1
 |some qk =>
  obtain⟨q,k⟩:=qk;rw[hf]at h1;have h2:=hG.ok _ _ h1.1;rw[h1.2]at h2;dsimp only;cases hg:g q with
  |none=>rw[hg]at h2;exact h2
  |some pj =>
   obtain⟨p,j⟩:=pj;rw[hg]at h2;exact⟨h2.1,by rw[h2.2];omega⟩
theorem jw.congr{ws:List ByteArray}{F G:PS->PS}{f:List ByteArray->Option (List ByteArray × Nat)}(h:jw ws F f)(hf:∀s,(G s).failed=(F s).failed)(hp:∀s,(G s).pos=(F s).pos)(hn:∀s,(G s).nodes.length=(F s).nodes.length):jw ws G f:=by
 refine⟨λs r hr=>?_,λs hs=>by rw[hf];exact h.bad s hs⟩;have:=h.ok s r hr;cases iX:f r with
 |none=>rw[iX]at this;exact(hf s).trans this
 |some q =>
  rw[iX]at this;exact⟨⟨(hf s).trans this.1.1,by rw[hp s];exact this.1.2⟩,by rw[hn s];exact this.2⟩
def pSc:List ByteArray->Option (List ByteArray × Nat):=n1 (λr=>(pSi r).bind (lK je))
theorem Ql{ws:List ByteArray}:jw ws (sW ws) pSc:=(abA.comp (cZ Aw)).n1 (λ_=>rfl) (λ_=>rfl) (λ_=>by simp[sW,ch])
def pTn:List ByteArray->Option (List ByteArray × Nat):=n1 pTs
theorem Qm{ws:List ByteArray}:jw ws (gl ws) pTn:=abB.n1 (λ_=>rfl) (λ_=>rfl) (λ_=>by simp[gl,ch])
def pHd(k:ByteArray)(pb:List ByteArray->Option (List ByteArray × Nat)):List ByteArray->Option (List ByteArray × Nat):=DQ (DQ (n0 (lK k)) pTn) pb
def one(r:List ByteArray):Option (List ByteArray × Nat):=some (r,1)
def pLo(pb:List ByteArray->Option (List ByteArray × Nat)):List ByteArray->Option (List ByteArray × Nat):=DQ (pHd bY pb) one
theorem Vi{ws:List ByteArray}:jw ws (ch iI) one:=⟨λ_ _ h=>⟨h,by simp[ch]⟩,λ_ h=>h⟩
theorem aby{ws:List ByteArray}{blk:PS->PS}{pb:List ByteArray->Option (List ByteArray × Nat)}(hb:jw ws blk pb):jw ws (xE blk ws) (pLo pb) :=
 (((((cZ lj).n).comp Qm).comp hb).comp Vi).congr (λ_=>rfl) (λ_=>rfl) (λ_=>by simp only[xE,bV,dg];rfl)
def pEl(pb:List ByteArray->Option (List ByteArray × Nat))(r:List ByteArray):Option (List ByteArray × Nat):=if gW iK r then DQ one pb r.tail else some (r,0)
def pBr(pb:List ByteArray->Option (List ByteArray × Nat)):List ByteArray->Option (List ByteArray × Nat):=DQ (pHd mu pb) (pEl pb)
theorem abu{ws:List ByteArray}{blk:PS->PS}{pb:List ByteArray->Option (List ByteArray × Nat)}(hb:jw ws blk pb):jw ws (pE blk ws) (pBr pb):=by
 have hA:jw ws (cE blk ws) (pHd mu pb):=((((cZ qK).n).comp Qm).comp hb);refine⟨λs r h=>?_,λs h=>?_⟩
 .have h1:=hA.ok s r h;unfold pBr DQ pE;cases hf:pHd mu pb r with
  |none=>rw[hf]at h1;rw[kf qI h1];exact h1
  |some qk =>
   obtain⟨q,k⟩:=qk;rw[hf]at h1;rw[dh qI h1.1];dsimp only;unfold pEl;cases q with
   |nil=>exact⟨h1.1,by rw[show gW iK []=false from rfl];simp only[Bool.false_eq_true,if_false,bV];exact h1.2⟩
   |cons y q =>
    by_cases hy:gW iK (y::q)=true
    .rw[if_pos hy,if_pos hy];have ht:Rd ws (lI s.nodes.length (cE blk ws s)) q:=cY h1.1;have hl:(lI s.nodes.length (cE blk ws s)).nodes.length=s.nodes.length+k+1:=by
      simp only[lI,bV];simp[ch,PS.adv,h1.2]
     have h2:=hb.ok _ _ ht;rw[hl]at h2;simp only[DQ,one,tail_cons];cases hg:pb q with
     |none=>rw[hg]at h2;exact h2
     |some pj =>
      obtain⟨p,j⟩:=pj;rw[hg]at h2;exact⟨h2.1,by simp only[M6,dg];rw[h2.2];omega⟩
    .rw[if_neg hy,if_neg hy];exact⟨h1.1,by simp only[bV];exact h1.2⟩
 .have h1:=hA.bad s h;unfold pE;rw[kf qI h1];exact h1
def pCm(pb:List ByteArray->Option (List ByteArray × Nat))(r:List ByteArray):Option (List ByteArray × Nat):=if gW mu r then pBr pb r else if gW bY r then pLo pb r else pSc r
theorem abv{ws:List ByteArray}{blk:PS->PS}{pb:List ByteArray->Option (List ByteArray × Nat)}(hb:jw ws blk pb):jw ws (kQ blk ws) (pCm pb):=by
 refine⟨λs r h=>?_,λs h=>?_⟩
 .unfold kQ pCm;rw[dh qK h,dh lj h];by_cases h1:gW mu r=true
  .rw[if_pos h1,if_pos h1];exact(abu hb).ok _ _ h
  .rw[if_neg h1,if_neg h1];by_cases h2:gW bY r=true
   .rw[if_pos h2,if_pos h2];exact(aby hb).ok _ _ h
   .rw[if_neg h2,if_neg h2];exact Ql.ok _ _ h
 .unfold kQ;rw[kf qK h,kf lj h];exact Ql.bad _ h
def pCs(pc:List ByteArray->Option (List ByteArray × Nat)):Nat->List ByteArray->Option (List ByteArray × Nat)
 |0,r=>some (r,0)
 |n+1,r=>if gW kU r then some (r,0) else DQ pc (pCs pc n) r
theorem abx{ws:List ByteArray}{c:PS->PS}{pc:List ByteArray->Option (List ByteArray × Nat)}(hc:jw ws c pc)(n:Nat):jw ws (ji c ws n) (pCs pc n):=by
 induction n with
 |zero=>exact⟨λ_ _ h=>⟨h,rfl⟩,λ_ h=>h⟩
 |succ n ih =>
  refine⟨λs r h=>?_,λs h=>?_⟩
  .simp only[ji,pCs];rw[dh qL h,h.1,Bool.false_or];by_cases h1:gW kU r=true
   .rw[if_pos h1,if_pos h1];exact⟨h,rfl⟩
   .rw[if_neg h1,if_neg h1];exact(hc.comp ih).ok _ _ h
  .simp only[ji,h,Bool.true_or,if_true]
def pBl(N:Nat):Nat->List ByteArray->Option (List ByteArray × Nat)
 |0,r=>some (r,0)
 |f+1,r=>DQ (DQ (n0 (lK mw)) (pCs (pCm (pBl N f)) N)) (n0 (lK kU)) r
theorem abt{ws:List ByteArray}(f:Nat):jw ws (cJ ws f) (pBl (ws.length+2) f):=by
 induction f with
 |zero=>exact⟨λ_ _ h=>⟨h,rfl⟩,λ_ h=>h⟩
 |succ f ih=>exact(((cZ yR).n).comp (abx (abv ih) (ws.length+2))).comp (cZ qL).n
def pPr(N:Nat):List ByteArray->Option (List ByteArray × Nat):=DQ (DQ (DQ (n0 (lK eH)) (n0 (Lg (N+1)))) (pBl (N+2) (N+1))) one
theorem abz{ws:List ByteArray}:jw ws (Eu ws) (pPr ws.length) :=
 ((((cZ FT).n.comp AR.n).comp (abt (ws.length+1))).comp (G:=ch iN) ⟨λ_ _ h=>⟨h,by simp[ch]⟩,λ_ h=>h⟩)
theorem Vq{ws:List ByteArray}(h:∀k,pPr ws.length ws≠some ([],k)):(fn ws aX).failed=true:=by
 have h1:=(abz (ws:=ws)).ok aX ws ⟨rfl,rfl,zq5 _⟩;unfold fn;cases hf:pPr ws.length ws with
 |none=>rw[hf]at h1;split;exact h1;rfl
 |some qk =>
  obtain⟨q,k⟩:=qk;rw[hf]at h1;cases q with
  |nil=>exact absurd hf (h k)
  |cons x q =>
   have hp:¬ (Eu ws aX).pos=ws.length:=by
    have:=congrArg List.length h1.1.2.1;simp only[length_drop,length_cons]at this;omega
   rw[if_neg hp];rfl
theorem Du(x:ByteArray)(r:List ByteArray):Lj (x::r)=if gf x=true then some r else none:=by
 show(if kW x=true then some r else if aW x bZ=true then some r else if aF x=true then some r else none)=if (aW x bZ||aF x||kW x)=true then some r else none
 cases kW x <;> cases aW x bZ <;> cases aF x <;> rfl
def abL(x:ByteArray):Bool:=aW x bW||aW x kJ||aW x B4
theorem Li(x:ByteArray)(r:List ByteArray):Lh (x::r)=if abL x=true then some r else none:=by
 show(if aW x bW=true then some r else if aW x kJ=true then some r else if aW x B4=true then some r else none)=if (aW x bW||aW x kJ||aW x B4)=true then some r else none
 cases aW x bW <;> cases aW x kJ <;> cases aW x B4 <;> rfl
theorem md(x:ByteArray)(r:List ByteArray):pq (x::r)=if aW x qq=true then some r else if aW x Eq=true then pLi r else ((if gf x=true then some r else none).bind Lh).bind Lj:=by
 rw[<-Du];rfl
theorem Qh(k x:ByteArray)(r:List ByteArray):lK k (x::r)=if aW x k=true then some r else none:=rfl
theorem P1{x:ByteArray}(h:aW x qq=true):gf x=false:=by
 have hx:x.toList=[101,109,112]:=by simpa[aW,NC] using h
 have hd:x.data.toList=[101,109,112]:=by rw[<-ByteArray.toList_eq];exact hx
 simp[gf,aW,aF,kW,hd,hx,show bZ.toList=[110,105,108] from ByteArray.toList_eq _]
theorem U4{x:ByteArray}(h:aW x Eq=true):gf x=false:=by
 have hx:x.toList=[108,115]:=by simpa[aW,XG] using h
 have hd:x.data.toList=[108,115]:=by rw[<-ByteArray.toList_eq];exact hx
 simp[gf,aW,aF,kW,hd,hx,show bZ.toList=[110,105,108] from ByteArray.toList_eq _]
theorem jO{k:ByteArray}{r q:List ByteArray}:lK k r=some q↔∃x,aW x k=true/\r=x::q:=by
 cases r with
 |nil=>simp[lK]
 |cons y r =>
  rw[Qh];by_cases h:aW y k=true
  .rw[if_pos h];exact⟨λe=>by cases e;exact⟨y,h,rfl⟩,λ⟨x,_,e⟩=>by cases e;rfl⟩
  .rw[if_neg h];exact⟨λe=>(by cases e),λ⟨x,hx,e⟩=>by cases e;exact absurd hx h⟩
theorem jP{r q:List ByteArray}:Lj r=some q↔∃x,gf x=true/\r=x::q:=by
 cases r with
 |nil=>simp[Lj]
 |cons y r =>
  rw[Du];by_cases h:gf y=true
  .rw[if_pos h];exact⟨λe=>by cases e;exact⟨y,h,rfl⟩,λ⟨x,_,e⟩=>by cases e;rfl⟩
  .rw[if_neg h];exact⟨λe=>(by cases e),λ⟨x,hx,e⟩=>by cases e;exact absurd hx h⟩
theorem sm{r q:List ByteArray}:Lh r=some q↔∃x,abL x=true/\r=x::q:=by
 cases r with
 |nil=>simp[Lh,gW,lK]
 |cons y r =>
  rw[Li];by_cases h:abL y=true
  .rw[if_pos h];exact⟨λe=>by cases e;exact⟨y,h,rfl⟩,λ⟨x,_,e⟩=>by cases e;rfl⟩
  .rw[if_neg h];exact⟨λe=>(by cases e),λ⟨x,hx,e⟩=>by cases e;exact absurd hx h⟩
theorem Dt{r q:List ByteArray}:pLi r=some q↔∃b c d e f,aW b ug=true/\gf c=true/\aW d WF=true/\gf e=true/\aW f sG=true/\r=b::c::d::e::f::q:=by
 constructor
 .intro h;unfold pLi at h;obtain⟨r4,h,h5⟩:=Option.bind_eq_some_iff.1 h;obtain⟨r3,h,h4⟩:=Option.bind_eq_some_iff.1 h;obtain⟨r2,h,h3⟩:=Option.bind_eq_some_iff.1 h;obtain⟨r1,h1,h2⟩:=Option.bind_eq_some_iff.1 h;obtain⟨b,hb,rfl⟩:=jO.1 h1;obtain⟨c,hc,rfl⟩:=jP.1 h2;obtain⟨d,hd,rfl⟩:=jO.1 h3;obtain⟨e,he,rfl⟩:=jP.1 h4;obtain⟨f,hf,rfl⟩:=jO.1 h5;exact⟨b,c,d,e,f,hb,hc,hd,he,hf,rfl⟩
 .rintro⟨b,c,d,e,f,hb,hc,hd,he,hf,rfl⟩;show((((lK ug (b::c::d::e::f::q)).bind Lj).bind (lK WF)).bind Lj).bind (lK sG)=some q;rw[jO.2 ⟨b,hb,rfl⟩,Option.bind_some,jP.2 ⟨c,hc,rfl⟩,Option.bind_some,jO.2 ⟨d,hd,rfl⟩,Option.bind_some,jP.2 ⟨e,he,rfl⟩,Option.bind_some,jO.2 ⟨f,hf,rfl⟩]
theorem jN{l q:List ByteArray}:pq l=some q↔∃p,ss p=true/\l=p++q:=by
 constructor
 .intro h;cases l with
  |nil=>simp[pq,gW,Lj]at h
  |cons a r =>
   rw[md]at h;by_cases h1:aW a qq=true
   .rw[if_pos h1]at h;simp only[Option.some.injEq]at h;subst h;exact⟨[a],h1,rfl⟩
   .rw[if_neg h1]at h;by_cases h2:aW a Eq=true
    .rw[if_pos h2]at h;obtain⟨b,c,d,e,f,hb,hc,hd,he,hf,rfl⟩:=Dt.1 h;exact⟨[a,b,c,d,e,f],by simp[ss,h2,hb,hc,hd,he,hf],rfl⟩
    .rw[if_neg h2]at h;obtain⟨r2,h,h5⟩:=Option.bind_eq_some_iff.1 h;obtain⟨r1,h3,h4⟩:=Option.bind_eq_some_iff.1 h;by_cases h6:gf a=true
     .rw[if_pos h6]at h3;simp only[Option.some.injEq]at h3;subst h3;obtain⟨b,hb,rfl⟩:=sm.1 h4;obtain⟨c,hc,rfl⟩:=jP.1 h5;exact⟨[a,b,c],by simp only[ss,h6,hc,Bool.true_and];exact hb,rfl⟩
     .rw[if_neg h6]at h3;cases h3
 .rintro⟨p,hp,rfl⟩;match p,hp with
  |[a],hp=>show pq (a::q)=some q;rw[md,if_pos (show aW a qq=true from hp)]
  |[a,b,c],hp =>
   simp only[ss,Bool.and_eq_true]at hp;show pq (a::b::c::q)=some q;have h1:¬ aW a qq=true:=λh=>by rw[P1 h]at hp;simp at hp
   have h2:¬ aW a Eq=true:=λh=>by rw[U4 h]at hp;simp at hp
   rw[md,if_neg h1,if_neg h2,if_pos hp.1.1,Option.bind_some,sm.2 ⟨b,hp.2,rfl⟩,Option.bind_some,jP.2 ⟨c,hp.1.2,rfl⟩]
  |[a,b,c,d,e,f],hp =>
   simp only[ss,Bool.and_eq_true]at hp;obtain⟨⟨⟨⟨ha,hb⟩,hd⟩,hf⟩,hc,he⟩:=hp;show pq (a::b::c::d::e::f::q)=some q;have h1:¬ aW a qq=true:=λh=>by
    have e1:a.toList=[101,109,112]:=(by simpa[aW,NC] using h);have e2:a.toList=[108,115]:=(by simpa[aW,XG] using ha);rw[e1]at e2;simp at e2
   rw[md,if_neg h1,if_pos ha];exact Dt.2 ⟨b,c,d,e,f,hb,hc,hd,he,hf,rfl⟩
def tE(n:Nd):Bool:=decide (n.op=7\/n.op=8\/n.op=9)
def Iv(n:Nd):Bool:=decide (n.op=4)
def tQ(P:Nd->Bool)(nds:List Nd)(n:Nat):Nat:=(nds.drop n).countP P
theorem Np{P:Nd->Bool}{nds:List Nd}{n:Nat}(hn:n<nds.length):tQ P nds n=tQ P nds (n+1)+(if P (nds.getD n aI)=true then 1 else 0):=by
 unfold tQ;rw[drop_eq_getElem_cons hn,countP_cons,getD_eq_getElem?_getD,getElem?_eq_getElem hn];rfl
theorem mO{P:Nd->Bool}{nds:List Nd}{n m:Nat}(h:n<=m):tQ P nds m<=tQ P nds n:=by
 unfold tQ;refine List.Sublist.countP_le ?_;rw[show m=n+(m-n) by omega,<-drop_drop];exact drop_sublist _ _
theorem No{P:Nd->Bool}{nds:List Nd}{n m:Nat}(hn:n<nds.length)(h:n<m)(hp:P (nds.getD n aI)=true):tQ P nds m+1<=tQ P nds n:=by
 have h1:=Np (P:=P) hn;rw[if_pos hp]at h1;have h2:=mO (P:=P) (nds:=nds) (n:=n+1) (m:=m) h;omega
def iw(nds:List Nd)(n:Nat)(f:CF):Nat:=9 ^ (aw f+tQ Iv nds n)*2 ^ (tQ tE nds n)
structure zt(nds:List Nd)(n:Nat)(f:CF):Prop where
 td:Td f
 k3:K3 f
 nm:aw f+tQ Iv nds n<=9
theorem K3.jo{f:CF}(h:K3 f)(a b:Nat):K3 (qe f a b):=by
 intro p hp;obtain⟨q,hq,rfl⟩:=mem_map.1 hp;exact h q hq
theorem K3.owA{f:CF}(h:K3 f){i:Nat}(hi:i<f.ow.length):(owA f i).k=3:=h _ (oj hi)
theorem NX{f:CF}(h:K3 f)(c:Nat):(jk f c).1=[]\/(jk f c).1=[f]:=by
 unfold jk;split
 .exact zq0 rfl
 .rename_i i hi;unfold J7;rw[if_pos (h.owA (eC hi).1)];exact zq1 rfl
theorem aa5{f:CF}(h:K3 f){c i:Nat}(hi:i<f.ow.length):iM f c i=if bj f c (owA f i).l=true then [] else [ma f c i]:=by
 unfold iM;rw[if_neg (show ¬ ((owA f i).k=4) by rw[h.owA hi];decide),append_nil]
def JoI(f:CF)(v:Nat)(x:CF):Prop:=∃i,i<f.ow.length/\x=qe f (owA f i).l (f.cl.getD (1+v) 0)
theorem abj{f:CF}(h:K3 f){v i:Nat}(hi:i<f.ow.length){r:List CF × Bool}(hr:∀x∈r.1,JoI f v x):(∀x∈(yX f v i r).1,JoI f v x)/\(yX f v i r).1.length<=r.1.length+1:=by
 unfold yX;rw[aa5 h hi];split
 .exact⟨hr,by simp⟩
 .simp only[foldl_cons,foldl_nil];have h2:=NX (h.jo (owA f i).l (f.cl.getD (1+v) 0)) ((ma f (f.cl.getD (1+v) 0) i).cl.getD (1+v) 0);unfold D8;show(∀x∈r.1++(jk (ma f _ i) _).1,_)/\(r.1++(jk (ma f _ i) _).1).length<=_;have h3:(jk (ma f (f.cl.getD (1+v) 0) i) ((ma f (f.cl.getD (1+v) 0) i).cl.getD (1+v) 0)).1=[]\/(jk (ma f (f.cl.getD (1+v) 0) i) ((ma f (f.cl.getD (1+v) 0) i).cl.getD (1+v) 0)).1=[ma f (f.cl.getD (1+v) 0) i]:=h2;rcases h3 with e|e
  .rw[e,append_nil];exact⟨hr,by omega⟩
  .rw[e];refine⟨λx hx=>?_,by simp⟩;rcases mem_append.1 hx with hx|hx
   .exact hr x hx
   .rw[mem_singleton]at hx;exact⟨i,hi,hx⟩
theorem Qe{f:CF}(h:K3 f){v:Nat}:∀(l:List Nat) {r:List CF × Bool},(∀i∈l,i<f.ow.length)->(∀x∈r.1,JoI f v x)->(∀x∈(l.foldl (λr i=>yX f v i r) r).1,JoI f v x)/\(l.foldl (λr i=>yX f v i r) r).1.length<=r.1.length+l.length
 |[],r,_,hr=>⟨hr,by simp⟩
 |i::l,r,hl,hr=>by
  obtain⟨h1,h2⟩:=abj h (v:=v) (hl i (by simp)) hr;obtain⟨g1,g2⟩:=Qe h (v:=v) l (r:=yX f v i r) (λj hj=>hl j (by simp[hj])) h1;refine⟨g1,?_⟩;rw[foldl_cons,length_cons];omega
theorem abi{f:CF}(h:K3 f)(v:Nat):((dP f v).1=[]\/(dP f v).1=[f])\/(cU f.ow (f.cl.getD (1+v) 0)=none/\(dP f v).1.length<=f.ow.length/\∀x∈(dP f v).1,JoI f v x):=by
 unfold dP;split
 .exact zq0 (zq0 rfl)
 .split
  .exact zq0 (NX h _)
  .rename_i hb;right;obtain⟨h1,h2⟩:=Qe h (v:=v) (range f.ow.length) (r:=([],false)) (λi hi=>mem_range.1 hi) (λx hx=>by simp at hx);exact⟨by simpa using hb,by simpa using h2,h1⟩
structure Opn(v:Nat)(G:CF->CF):Prop where
 ok:∀{x N},rE N v x->aq (G x)
 lv:∀{x N},rE N v x->∀c∈bQ (G x),c∈bQ x
 k3:∀{x},K3 x->K3 (G x)
theorem Gh{f:CF}{i:Nat}(hi:i<f.ow.length):(owA f i).l∈bQ f/\(owA f i).r∈bQ f:=yV (oj hi)
theorem M0{N v:Nat}{x:CF}(h:rE N v x):pZ x (x.cl.getD (1+v) 0)<x.ow.length:=by
 obtain⟨i,hi⟩:=Option.isSome_iff_exists.1 h.bg;unfold pZ;rw[hi];exact(eC hi).1
theorem Nf{f:CF}{k i:Nat}(hi:i<4):clT f k i∈bQ f:=by unfold clT;split;exact Dh (by omega);exact Dh (by omega)
theorem abm{n:Nd}:Opn n.ai (λg=>eG g n):=⟨λh=>(zS h).1,λh c hc=>by
 rcases AD h.ok.c5 hc with hc|rfl
 .exact hc
 .exact(Gh (M0 h)).2,λh=>h⟩
theorem abo{n:Nd}(ha:n.ai<4):Opn n.v (λg=>mx g n):=⟨λh=>(FX h).1,λh c hc=>by
 rcases UY h.ok.c5 hc with hc|rfl|rfl
 .exact hc
 .exact(Gh (M0 h)).1
 .exact Nf ha,fun {x} h p hp=>by
 rcases mem_or_eq_of_mem_set hp with hp|rfl
 .exact h p hp
 .show(owA x _).k=3;by_cases hi:pZ x (x.cl.getD (1+n.v) 0)<x.ow.length
  .exact h.owA hi
  .have In:(⟨(owA x (pZ x (x.cl.getD (1+n.v) 0))).k,(owA x (pZ x (x.cl.getD (1+n.v) 0))).l,clT x n.ak n.ai⟩:Pr)∈x.ow.set (pZ x (x.cl.getD (1+n.v) 0)) ⟨(owA x (pZ x (x.cl.getD (1+n.v) 0))).k,(owA x (pZ x (x.cl.getD (1+n.v) 0))).l,clT x n.ak n.ai⟩:=hp;rw[set_eq_of_length_le (by omega)]at In;have h9:=h _ In;exact h9⟩
theorem abn(v:Nat):Opn v (λg=>kh g v):=⟨λh=>(mV h).1,fun {x N} h c hc=>by
 have h1:=IR _ hc;exact aa3 h.ok.c5 (show c∈bQ (gY x _) from h1),fun {x} h p hp=>by
 have h1:p∈(gY x (pZ x (x.cl.getD (1+v) 0))).ow:=by
  have e:=AQ (gY x (pZ x (x.cl.getD (1+v) 0))).ow (g:=b7 (gY x (pZ x (x.cl.getD (1+v) 0))) (x.cl.getD (1+v) 0) ((gY x (pZ x (x.cl.getD (1+v) 0))).cl.getD 0 0)) (c:=x.cl.getD (1+v) 0);have In:p∈(List.foldl (λh p=>b7 h (x.cl.getD (1+v) 0) p.l) (b7 (gY x (pZ x (x.cl.getD (1+v) 0))) (x.cl.getD (1+v) 0) ((gY x (pZ x (x.cl.getD (1+v) 0))).cl.getD 0 0)) (gY x (pZ x (x.cl.getD (1+v) 0))).ow).ow:=hp;rw[e]at In;exact In
 exact h p ((mj _ _).subset h1)⟩
theorem nz{f g:CF}(h:aq g)(hs:∀c∈bQ g,c∈bQ f):aw (aZ g)<=aw f:=by
 have:=ud h (S:=range (aw f)) (λc hc=>mem_range.2 (gM c (hs c hc)));simpa using this
theorem PY{f g:CF}{a b:Nat}(h:aq g)(h5:f.cl.length=5)(ha:a∈bQ f)(hb:b∈bQ f)(qw:a≠b)(hs:∀c∈bQ g,c∈bQ (qe f a b)):aw (aZ g)+1<=aw f:=by
 have h1:=ud h (S:=(range (aw f)).erase b) (λc hc=>by
  obtain⟨h1,h2⟩:=XH h5 (hs c hc);rw[List.Nodup.mem_erase_iff nodup_range,mem_range];refine⟨λe=>qw (h2 e),?_⟩;rcases h1 with h1|rfl
  .exact gM c h1
  .exact gM c ha)
 rw[length_erase_of_mem (mem_range.2 (gM b hb)),length_range]at h1;have:=gM b hb;omega
theorem Jt{α:Type}{g:α->Nat}{X:Nat}:∀(l:List α),(∀a∈l,g a<=X)->a9 g l<=l.length*X
 |[],_=>by simp[a9]
 |a::l,h=>by
  have h1:=h a (by simp);have h2:=Jt l (λb hb=>h b (by simp[hb]));simp only[a9,length_cons,Nat.succ_mul];omega
theorem uj{a b:Nat}(h:a<=b):9 ^ a<=9 ^ b:=Nat.pow_le_pow_right (by omega) h
theorem ui{a b:Nat}(h:a<=b):2 ^ a<=2 ^ b:=Nat.pow_le_pow_right (by omega) h
theorem XT{nds:List Nd}{n m:Nat}{f g:CF}(h:n<=m)(hn:aw g<=aw f):iw nds m g<=iw nds n f :=
 Nat.mul_le_mul (uj (Nat.add_le_add hn (mO h))) (ui (mO h))
theorem V4{nds:List Nd}{n m:Nat}{f g:CF}(h:n<=m)(hn:aw g+1<=aw f):9*iw nds m g<=iw nds n f:=by
 unfold iw;have h1:9*9 ^ (aw g+tQ Iv nds m)<=9 ^ (aw f+tQ Iv nds n):=by
  rw[Nat.mul_comm,<-Nat.pow_succ];exact uj (by have:=mO (P:=Iv) (nds:=nds) h;omega)
 rw[<-Nat.mul_assoc];exact Nat.mul_le_mul h1 (ui (mO h))
theorem abr{f:CF}(h:aq f):f.ow.length<=aw f:=by
 have:=List.Nodup.length_le_of_subset h.lf (l₂:=range (aw f)) (λc hc=>by
  obtain⟨p,hp,rfl⟩:=mem_map.1 hc;exact mem_range.2 (gM _ (yV hp).1))
 simpa using this
theorem zt.of{nds:List Nd}{n m:Nat}{f g:CF}(h:zt nds n f)(hm:n<=m)(hg:aq g)(hk:K3 g)(hn:aw (aZ g)<=aw f):zt nds m (aZ g):=⟨hg.tidy,hk.td,by have:=h.nm;have:=mO (P:=Iv) (nds:=nds) hm;omega⟩
theorem abl{nds:List Nd}{n m v:Nat}{f:CF}{G:CF->CF}(hv:v<4)(hm:n<=m)(h:zt nds n f)(hG:Opn v G):(∀g∈(bt (dP f v) G).nx,zt nds m g)/\a9 (iw nds m) (bt (dP f v) G).nx<=iw nds n f:=by
 have nU:=im hv h.td.ok h.td.ln;show(∀g∈(dP f v).1.map (λx=>aZ (G x)),_)/\a9 _ ((dP f v).1.map (λx=>aZ (G x)))<=_;rcases abi h.k3 v with(e|e)|⟨hb,dL,hJ⟩
 .rw[e];exact⟨λg hg=>by simp at hg,by simp[a9]⟩
 .have hx:=nU f (by rw[e];simp);have hn:=nz (hG.ok hx) (hG.lv hx);rw[e];refine⟨λg hg=>?_,?_⟩
  .simp only[map_cons,map_nil,mem_singleton]at hg;subst hg;exact h.of hm (hG.ok hx) (hG.k3 h.k3) hn
  .simp only[map_cons,map_nil,a9,Nat.add_zero];exact XT hm hn
 .have key:∀x∈(dP f v).1,aw (aZ (G x))+1<=aw f/\K3 (G x)/\aq (G x):=by
   intro x hx;have ho:=nU x hx;obtain⟨i,hi,rfl⟩:=hJ x hx;refine⟨PY (hG.ok ho) h.td.ok.c5 (Gh hi).1 (Dh (by omega)) (λe=>pC hb _ (oj hi) e) (hG.lv ho),hG.k3 (h.k3.jo _ _),hG.ok ho⟩
  refine⟨λg hg=>?_,?_⟩
  .obtain⟨x,hx,rfl⟩:=mem_map.1 hg;obtain⟨k1,k2,k3⟩:=key x hx;exact h.of hm k3 k2 (by omega)
  .have h9:f.ow.length<=9:=(by have:=abr h.td.ok;have:=h.nm;omega);obtain⟨X,hX⟩:∃X,X=iw nds n f / 9:=⟨_,rfl⟩;have h1:=Jt (g:=iw nds m) (X:=X) ((dP f v).1.map (λx=>aZ (G x))) (λg hg=>by
    obtain⟨x,hx,rfl⟩:=mem_map.1 hg;have:=V4 (nds:=nds) hm (key x hx).1;omega)
   rw[length_map]at h1;have h2:(dP f v).1.length*X<=9*X:=Nat.mul_le_mul_right _ (by omega);omega
theorem DR{α:Type}(g:α->Nat):∀(a b:List α),a9 g (a++b)=a9 g a+a9 g b
 |[],b=>by simp[a9]
 |x::a,b=>by simp only[cons_append,a9,DR g a b];omega
theorem Q1{α:Type}(g:α->Nat){a b:List α}(h:a.Sublist b):a9 g a<=a9 g b:=by
 induction h with
 |slnil=>exact zq4 _
 |cons x _ ih=>simp only[a9];omega
 |cons_cons x _ ih=>simp only[a9];omega
structure Yy(nds:List Nd)(n:Nat)(f:CF)(o:MD):Prop where
 nx:∀g∈o.nx,zt nds (nds.getD n aI).nx g
 ot:∀g∈o.ot,zt nds (nds.getD n aI).ot g
 w:a9 (iw nds (nds.getD n aI).nx) o.nx+a9 (iw nds (nds.getD n aI).ot) o.ot<=iw nds n f
structure Fwd(nds:List Nd):Prop where
 v:∀n,(nds.getD n aI).v<4/\(nds.getD n aI).ai<4
 nx:∀n,n<nds.length->(nds.getD n aI).op≠0->n<(nds.getD n aI).nx
 ot:∀n,n<nds.length->tE (nds.getD n aI)=true->n<(nds.getD n aI).ot
theorem acn{nds:List Nd}{n m k:Nat}{f g h:CF}(hn:n<nds.length)(ht:tE (nds.getD n aI)=true)(hm:n<m)(hk:n<k)(hg:aw g<=aw f)(hh:aw h<=aw f):iw nds m g+iw nds k h<=iw nds n f:=by
 have one:∀{m:Nat} {g:CF},n<m->aw g<=aw f->2*iw nds m g<=iw nds n f:=fun {m g} hm hg=>by
  unfold iw;have h1:=uj (show aw g+tQ Iv nds m<=aw f+tQ Iv nds n by have:=mO (P:=Iv) (nds:=nds) (Nat.le_of_lt hm);omega);have h2:2*2 ^ (tQ tE nds m)<=2 ^ (tQ tE nds n):=by
   rw[Nat.mul_comm,<-Nat.pow_succ];exact ui (No hn hm ht)
  calc 2*(9 ^ (aw g+tQ Iv nds m)*2 ^ (tQ tE nds m))=9 ^ (aw g+tQ Iv nds m)*(2*2 ^ (tQ tE nds m)):=by rw[Nat.mul_left_comm]
   _<=_:=Nat.mul_le_mul h1 h2
 have h1:=one hm hg;have h2:=one hk hh;omega
theorem aeF{nds:List Nd}(hF:Fwd nds){n:Nat}(hn:n<nds.length){f:CF}(h:zt nds n f):Yy nds n f (bL (nds.getD n aI) f):=by
 obtain⟨hv,ha⟩:=hF.v n;have vA:=hF.nx n hn;have Me:=hF.ot n hn;obtain⟨nd,c9⟩:∃nd,nd=nds.getD n aI:=⟨_,rfl⟩;have h5:=h.td.ok.c5;have keep:∀{m:Nat} {g:CF},n<=m->aq g->K3 g->(∀c∈bQ g,c∈bQ f)->zt nds m (aZ g)/\iw nds m (aZ g)<=iw nds n f:=λhm hg hk hl =>
  ⟨h.of hm hg hk (nz hg hl),XT hm (nz hg hl)⟩
 have one:∀{g:CF},(nds.getD n aI).op≠0->aq g->K3 g->(∀c∈bQ g,c∈bQ f)->Yy nds n f ⟨[aZ g],[],false,false,false⟩:=λho hg hk hl=>by
  obtain⟨k1,k2⟩:=keep (Nat.le_of_lt (vA ho)) hg hk hl;exact⟨λx hx=>by simp only[mem_singleton]at hx;subst hx;exact k1,λx hx=>by simp at hx,by simp only[a9,Nat.add_zero];exact k2⟩
 have opn:∀{v:Nat} {G:CF->CF},(nds.getD n aI).op≠0->v<4->Opn v G->Yy nds n f (bt (dP f v) G):=λho hv hG=>by
  obtain⟨k1,k2⟩:=abl hv (Nat.le_of_lt (vA ho)) h hG;exact⟨k1,λx hx=>by simp[bt]at hx,by show _+a9 _ ([]:List CF)<=_;simp only[a9,Nat.add_zero];exact k2⟩
 -- the two sides of a test
 have hjo:∀{a b:Nat},a∈bQ f->bj f a b=false->aq (qe f a b)/\K3 (qe f a b)/\∀c∈bQ (qe f a b),c∈bQ f:=fun {a b} tp hd=>⟨h.td.ok.jo (by have:=gM _ tp;have:=h.nm;omega) (eR hd),h.k3.jo _ _,λc hc=>by
  rcases(XH h5 hc).1 with hc|rfl
  .exact hc
  .exact tp⟩
 have test:∀{x y:List CF} {m k:Nat},tE (nds.getD n aI)=true->n<m->n<k->(x=[]\/∃g,x=[aZ g]/\aq g/\K3 g/\∀c∈bQ g,c∈bQ f)->(y=[]\/∃g,y=[aZ g]/\aq g/\K3 g/\∀c∈bQ g,c∈bQ f)->(∀g∈x,zt nds m g)/\(∀g∈y,zt nds k g)/\a9 (iw nds m) x+a9 (iw nds k) y<=iw nds n f:=by
  intro x y m k ht hm hk hx hy;rcases hx with rfl|⟨g,rfl,g1,g2,g3⟩
  .rcases hy with rfl|⟨g',rfl,g1',g2',g3'⟩
   .exact⟨λz hz=>by simp at hz,λz hz=>by simp at hz,by simp[a9]⟩
   .obtain⟨k1,k2⟩:=keep (Nat.le_of_lt hk) g1' g2' g3';exact⟨λz hz=>by simp at hz,λz hz=>by rw[mem_singleton]at hz;subst hz;exact k1,by simp only[a9,Nat.add_zero,Nat.zero_add];exact k2⟩
  .rcases hy with rfl|⟨g',rfl,g1',g2',g3'⟩
   .obtain⟨k1,k2⟩:=keep (Nat.le_of_lt hm) g1 g2 g3;exact⟨λz hz=>by rw[mem_singleton]at hz;subst hz;exact k1,λz hz=>by simp at hz,by simp only[a9,Nat.add_zero];exact k2⟩
   .obtain⟨k1,-⟩:=keep (Nat.le_of_lt hm) g1 g2 g3;obtain⟨k1',-⟩:=keep (Nat.le_of_lt hk) g1' g2' g3';exact⟨λz hz=>by rw[mem_singleton]at hz;subst hz;exact k1,λz hz=>by rw[mem_singleton]at hz;subst hz;exact k1',by simp only[a9,Nat.add_zero];exact acn hn ht hm hk (nz g1 g3) (nz g1' g3')⟩
 have self:∃g,[aZ f]=[aZ g]/\aq g/\K3 g/\∀c∈bQ g,c∈bQ f:=⟨f,rfl,h.td.ok,h.k3,λc hc=>hc⟩;have cm1:(jW f nd).1=[]\/∃g,(jW f nd).1=[aZ g]/\aq g/\K3 g/\∀c∈bQ g,c∈bQ f:=by
  simp only[jW];split
  .exact zq0 rfl
  .rename_i hd;exact zq1 ⟨_,rfl,hjo (Dh (by rw[c9];omega)) (by simpa using hd)⟩
 have cm2:(jW f nd).2=[]\/∃g,(jW f nd).2=[aZ g]/\aq g/\K3 g/\∀c∈bQ g,c∈bQ f:=by
  simp only[jW];split
  .exact zq0 rfl
  .exact zq1 ⟨_,rfl,h.td.ok.pa (h.td.ok.get _) (h.td.ok.cT _ _),h.k3,λc hc=>hc⟩
 rw[<-c9]at hv ha vA Me one opn test ⊢;have Ug:nd.op≠0->n<nd.nx:=vA;unfold bL;split
 .exact⟨λx hx=>by simp[sk]at hx,λx hx=>by simp[sk]at hx,by simp[sk,a9]⟩
 .rename_i h0;split
  .exact one h0 (h.td.ok.sC _ (h.td.ok.cT _ _)) h.k3 (λc hc=>by
    rcases AD h5 hc with hc|rfl
    .exact hc
    .exact Nf ha)
  .split
   .exact opn h0 ha abm
   .split
    .exact opn h0 hv (abo ha)
    .split
     .rename_i h4;split
      .exact⟨λx hx=>by simp at hx,λx hx=>by simp at hx,by simp[a9]⟩
      .rename_i hN;have ON:=mN (v:=nd.v) h.td.ok (by omega);have ar:=Ug h0;have Ii:=No (P:=Iv) hn ar (by rw[<-c9];simpa[Iv] using h4);have BS:aw (aZ (zK f nd.v))<=aw f+1:=by
        have:=ud ON (S:=range (aw f+1)) (λc hc=>by
         rw[mem_range];rcases AD (f:=ll f ⟨3,aw f,f.cl.getD 0 0⟩) h5 hc with hc|rfl
         .rcases aa2 h5 hc with hc|rfl|rfl
          .have:=gM c hc;omega
          .exact Nat.lt_succ_self _
          .have:=gM _ (Dh (f:=f) (i:=0) (by omega));show f.cl.getD 0 0<aw f+1;omega
         .exact Nat.lt_succ_self _)
        simpa using this
       have hk:K3 (zK f nd.v):=by
        intro p hp;rcases mem_append.1 hp with hp|hp
        .exact h.k3 p hp
        .rw[mem_singleton]at hp;subst hp;rfl
       have arY:=h.nm;refine⟨λx hx=>?_,λx hx=>by simp at hx,?_⟩
       .simp only[mem_singleton]at hx;subst hx;exact⟨ON.tidy,hk.td,by rw[<-c9];omega⟩
       .simp only[a9,Nat.add_zero];rw[<-c9];exact Nat.mul_le_mul (uj (by omega)) (ui (mO (Nat.le_of_lt ar)))
     .split
      .exact opn h0 hv (abn nd.v)
      .split
       .rename_i h7;have ht:tE nd=true:=(by simp[tE,h7]);obtain⟨k1,k2,k3⟩:=test ht (Ug h0) (Me ht) (zq1 self) (zq1 self);exact⟨by rw[<-c9];exact k1,by rw[<-c9];exact k2,by rw[<-c9];exact k3⟩
       .split
        .rename_i h8;have ht:tE nd=true:=(by simp[tE,h8]);obtain⟨k1,k2,k3⟩:=test ht (Ug h0) (Me ht) cm1 cm2;exact⟨by rw[<-c9];exact k1,by rw[<-c9];exact k2,by rw[<-c9];exact k3⟩
        .split
         .rename_i h9;have ht:tE nd=true:=(by simp[tE,h9]);obtain⟨k1,k2,k3⟩:=test ht (Ug h0) (Me ht) cm2 cm1;exact⟨by rw[<-c9];exact k1,by rw[<-c9];exact k2,by rw[<-c9];exact k3⟩
         .exact one h0 h.td.ok h.k3 (λc hc=>hc)
