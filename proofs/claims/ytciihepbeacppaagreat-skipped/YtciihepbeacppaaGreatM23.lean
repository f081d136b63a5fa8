import Derived.Test.YtciihepbeacppaaGreatM22
set_option maxRecDepth 100000
set_option maxHeartbeats 0
namespace Go.Proofs.YtciihepbeacppaaGreat
open Tryz Go.RowKit List World Below
set_option linter.unusedVariables false
section
variable {c:Cd} {N n:Nat} {f:CF} {s:Sr}
theorem Aw(b:Bool)(hs:ki N s):mR s (fuS b s)/\ki N (fuS b s)/\(Sf (fuS b s)->b=false):=by
 refine⟨⟨λh=>?_,λ_ _ h=>h,λ_ _ _ h=>h⟩,⟨hs.kn,hs.wr,hs.rw,hs.td⟩,λh=>?_⟩
 .show(s.fu||b)=true;rw[h];rfl
 .have h1:(s.fu||b)=false:=h.1;rw[Bool.or_eq_false_iff]at h1;exact h1.2
theorem Ru{fuel:Nat}(hN:c.nds.length=N)(hO:sQ c.nds)(hn:n<N)(hf:Td f)(hs:ki N s):mR s (pm c fuel n f s)/\ki N (pm c fuel n f s)/\(Sf (pm c fuel n f s)->ClS c (pm c fuel n f s) n f):=by
 obtain⟨hv,ha⟩:=hO.v n;obtain⟨t1,t2⟩:=jG hv ha hf;have jO:n<c.nds.length:=by rw[hN];exact hn
 have ce:(cj (c.nds.getD n aI) f).nx≠[]->(c.nds.getD n aI).nx<N:=λh=>by rw[<-hN];exact hO.nx n jO (rS h)
 have yh:(cj (c.nds.getD n aI) f).ot≠[]->(c.nds.getD n aI).ot<N:=λh=>by rw[<-hN];exact hO.ot n jO (rT h)
 unfold pm;simp only;obtain⟨a1,a2,a3⟩:=jr (b:=decide ((c.nds.getD n aI).op=0)&&!decide (dc f=[])) (k:=2) hs hn (by omega);obtain⟨b1,b2,b3⟩:=jr (b:=(cj (c.nds.getD n aI) f).nu) (k:=3) a2 hn (by omega);obtain⟨d1,d2,d3⟩:=jr (b:=(cj (c.nds.getD n aI) f).da) (k:=4) b2 hn (by omega);obtain⟨e1,e2,e3⟩:=Aw (cj (c.nds.getD n aI) f).fu d2;obtain⟨g1,g2,g3⟩:=pH (c:=c) (fuel:=fuel) (b:=(c.nds.getD n aI).nx) hn (cj (c.nds.getD n aI) f).nx ce t1 e2;obtain⟨k1,k2,k3⟩:=pH (c:=c) (fuel:=fuel) (b:=(c.nds.getD n aI).ot) hn (cj (c.nds.getD n aI) f).ot yh t2 g2;have age:=g1.trans k1;refine⟨a1.trans (b1.trans (d1.trans (e1.trans age))),k2,λhS=>?_⟩;have S3:=k1.sf hS;have S2:=g1.sf S3;have Sd:=e1.sf S2;have Sb:=d1.sf Sd;have Sa:=b1.sf Sb;refine⟨b3 (by omega) Sb,d3 (by omega) Sd,e3 S2,λh0=>?_,λg hg=>⟨(t1 g hg).ok,λP hc SD=>k1.kn _ _ hc (g3 S3 g hg P hc SD)⟩,λg hg=>⟨(t2 g hg).ok,λP hc SD=>k3 hS g hg P hc SD⟩⟩;have:=a3 (by omega) Sa;rw[decide_eq_true h0,Bool.true_and]at this;simpa using this
def MU(c:Cd)(s:Sr)(n0:Nat)(R:List CF):Prop:=∀n,∀e∈bq s n,e.d=true->ClS c s n e.f\/(n=n0/\e.f∈R)
def jA(s s':Sr):Prop:=∀n,∀e∈bq s' n,e.d=true->e∈bq s n
theorem jA.refl(s:Sr):jA s s:=λ_ _ h _=>h
theorem jA.trans{a b c:Sr}(h:jA a b)(h':jA b c):jA a c:=λn e he hd=>h n e (h' n e he hd) hd
theorem DD{n:Nat}{f:CF}{s:Sr}(hn:n<s.kn.length):jA s (bu c n f s):=by
 unfold bu;split
 .exact jA.refl s
 .intro m e he hd;have hkA:bq (sJ c (pW n (bH c n f) (oY c s (2*(bq s n).length)))) m=if n=m then (bq s n).filter (λe=>!Eg e.f (bH c n f))++[⟨bH c n f,false⟩] else bq s m:=lw hn m
  rw[hkA]at he;by_cases e0:n=m
  .subst e0;rw[if_pos rfl]at he;rcases mem_append.1 he with he|he
   .exact(mem_filter.1 he).1
   .rw[mem_singleton.1 he]at hd;cases hd
  .rw[if_neg e0]at he;exact he
theorem DB{n:Nat}:∀(l:List CF) {s:Sr},bV l->ki N s->n<N->jA s (l.foldl (λs g=>bu c n g s) s)
 |[],s,_,_,_=>jA.refl s
 |g::l,s,hl,h,hn=>by
  rw[foldl_cons];obtain⟨-,h2,-⟩:=oh (c:=c) (hl g (by simp)) h hn;exact(DD (by rw[h.kn];exact hn)).trans (DB l (λx hx=>hl x (by simp[hx])) h2 hn)
theorem Hq{fuel a b:Nat}(hf:Td f)(hs:ki N s)(ha:a<N)(hb:b<N):jA s (dU c fuel a b f s):=by
 unfold dU;split
 .exact DD (by rw[hs.kn];exact hb)
 .simp only;obtain⟨-,g2⟩:=xG hs ha (k:=2) (by omega);obtain⟨k1,k2,k3⟩:=kQ (c:=c) fuel 0 (res:=[]) (r:=([f],kO a 2 s)) (λg hg=>by rw[mem_singleton.1 hg];exact hf) (λg hg=>by simp at hg);have hS:ki N (ip c fuel 0 [] ([f],kO a 2 s)).2:=⟨by rw[k2];exact g2.kn,by rw[k3];exact g2.wr,λr hr=>by rw[k3]at hr;exact g2.rw r hr,λl hl=>by rw[k2]at hl;exact g2.td l hl⟩;refine jA.trans (b:=(ip c fuel 0 [] ([f],kO a 2 s)).2) (λm e he _=>?_) (DB _ k1 hS hb);unfold bq at he ⊢;rw[k2]at he;exact he
theorem Aa{fuel a b:Nat}(ha:a<N):∀(l:List CF) {s:Sr},(l≠[]->b<N)->bV l->ki N s->jA s (l.foldl (λs g=>dU c fuel a b g s) s)
 |[],s,_,_,_=>jA.refl s
 |g::l,s,hb,hl,h=>by
  rw[foldl_cons];have hbN:=hb (by simp);obtain⟨-,h2,-⟩:=Ac (c:=c) (fuel:=fuel) (hl g (by simp)) h ha hbN;exact(Hq (hl g (by simp)) h ha hbN).trans (Aa ha l (λ_=>hbN) (λx hx=>hl x (by simp[hx])) h2)
theorem B1(b:Bool)(n k:Nat)(s:Sr):jA s (wrI b n k s):=λm e he _=>by
 unfold bq at he ⊢;rw[qm]at he;exact he
theorem JN{fuel:Nat}(hN:c.nds.length=N)(hO:sQ c.nds)(hn:n<N)(hf:Td f)(hs:ki N s):jA s (pm c fuel n f s):=by
 obtain⟨hv,ha⟩:=hO.v n;obtain⟨t1,t2⟩:=jG hv ha hf;have jO:n<c.nds.length:=by rw[hN];exact hn
 have ce:(cj (c.nds.getD n aI) f).nx≠[]->(c.nds.getD n aI).nx<N:=λh=>by rw[<-hN];exact hO.nx n jO (rS h)
 have yh:(cj (c.nds.getD n aI) f).ot≠[]->(c.nds.getD n aI).ot<N:=λh=>by rw[<-hN];exact hO.ot n jO (rT h)
 unfold pm;simp only;obtain⟨-,a2,-⟩:=jr (b:=decide ((c.nds.getD n aI).op=0)&&!decide (dc f=[])) (k:=2) hs hn (by omega);obtain⟨-,b2,-⟩:=jr (b:=(cj (c.nds.getD n aI) f).nu) (k:=3) a2 hn (by omega);obtain⟨-,d2,-⟩:=jr (b:=(cj (c.nds.getD n aI) f).da) (k:=4) b2 hn (by omega);obtain⟨-,e2,-⟩:=Aw (cj (c.nds.getD n aI) f).fu d2;obtain⟨-,g2,-⟩:=pH (c:=c) (fuel:=fuel) (b:=(c.nds.getD n aI).nx) hn (cj (c.nds.getD n aI) f).nx ce t1 e2;refine jA.trans ?_ (Aa hn _ yh t2 g2);refine jA.trans ?_ (Aa hn _ ce t1 e2);refine jA.trans (b:=wrI (cj (c.nds.getD n aI) f).da n 4 (wrI (cj (c.nds.getD n aI) f).nu n 3 (wrI (decide ((c.nds.getD n aI).op=0)&&!decide (dc f=[])) n 2 s))) ?_ (λm e he _=>he);exact(B1 _ _ _ _).trans ((B1 _ _ _ _).trans (B1 _ _ _ _))
theorem MU.old{s':Sr}{n0:Nat}{R:List CF}(h:MU c s n0 R)(ho:jA s s')(hl:mR s s'):MU c s' n0 R:=λn e he hd=>by
 rcases h n e (ho n e he hd) hd with h1|h1
 .exact zq0 (h1.mono hl)
 .exact zq1 h1
theorem GP{fuel:Nat}(hN:c.nds.length=N)(hO:sQ c.nds)(hn:n<N):∀(l:List CF) {s:Sr},bV l->ki N s->mR s (nN c fuel n l s)/\ki N (nN c fuel n l s)/\(Sf (nN c fuel n l s)->MU c s n l->MU c (nN c fuel n l s) n [])
 |[],s,_,h=>⟨mR.refl s,h,λ_ h=>h⟩
 |f::r,s,hl,h=>by
  unfold nN;split
  .rename_i dX;exact⟨mR.refl s,h,λhS=>by rw[hS.1]at dX;cases dX⟩
  .obtain⟨h1,h2,h3⟩:=Ru (fuel:=fuel) hN hO hn (hl f (by simp)) h;obtain⟨h4,h5,h6⟩:=GP hN hO hn r (λx hx=>hl x (by simp[hx])) h2;refine⟨h1.trans h4,h5,λhS hJ=>h6 hS ?_⟩;intro m e he hd;rcases hJ.old (JN hN hO hn (hl f (by simp)) h) h1 m e he hd with g|⟨g1,g2⟩
   .exact zq0 g
   .rcases mem_cons.1 g2 with g2|g2
    .left;rw[g1,g2];exact h3 (h4.sf hS)
    .exact zq1 ⟨g1,g2⟩
theorem MU.nil{n0 n1:Nat}(h:MU c s n0 []):MU c s n1 []:=λn e he hd=>by
 rcases h n e he hd with g|⟨-,g⟩
 .exact zq0 g
 .simp at g
theorem RQ{fuel:Nat}(hN:c.nds.length=N)(hO:sQ c.nds)(hn:n<N)(h:ki N s):mR s (sN c fuel n s)/\ki N (sN c fuel n s)/\(Sf (sN c fuel n s)->MU c s n []->MU c (sN c fuel n s) n []):=by
 have gu:n<s.kn.length:=by rw[h.kn];exact hn
 obtain⟨s0,tN⟩:∃s0:Sr,s0={ s with kn:=s.kn.set n ((bq s n).map (λe:ig=>(⟨e.f,true⟩:ig))) }:=⟨_,rfl⟩;have hkA:∀m,bq s0 m=if n=m then (bq s n).map (λe=>⟨e.f,true⟩) else bq s m:=λm=>by rw[tN];exact lw gu m
 have hL:mR s s0:=by
  refine⟨λh=>by rw[tN];exact h,λm k h=>by rw[tN];exact h,λm P _ hk=>?_⟩;obtain⟨e,he,hf⟩:=hk;unfold CC;rw[hkA];by_cases e0:n=m
  .subst e0;rw[if_pos rfl];exact⟨⟨e.f,true⟩,mem_map.2 ⟨e,he,rfl⟩,hf⟩
  .rw[if_neg e0];exact⟨e,he,hf⟩
 have OW:ki N s0:=by
  rw[tN];refine⟨by show(s.kn.set n _).length=N;rw[length_set];exact h.kn,h.wr,h.rw,λl hl e he=>?_⟩;rcases mem_or_eq_of_mem_set (show l∈s.kn.set n _ from hl) with h1|rfl
  .exact h.td l h1 e he
  .obtain⟨x,hx,rfl⟩:=mem_map.1 he;exact h.td.at n x hx
 have lQ:bV (mH (bq s n)):=λg hg=>by
  obtain⟨e,he,rfl⟩:=mem_map.1 hg;exact h.td.at n e (mem_filter.1 he).1
 obtain⟨h1,h2,h3⟩:=GP (fuel:=fuel) hN hO hn (mH (bq s n)) lQ OW;have e1:sN c fuel n s=nN c fuel n (mH (bq s n)) s0:=by rw[tN];rfl
 rw[e1];refine⟨hL.trans h1,h2,λhS hJ=>h3 hS ?_⟩;intro m e he hd;rw[hkA]at he;by_cases e0:n=m
 .subst e0;rw[if_pos rfl]at he;obtain⟨x,hx,rfl⟩:=mem_map.1 he;cases hxd:x.d with
  |true =>
   rcases hJ n x hx hxd with g|⟨-,g⟩
   .exact zq0 (g.mono hL)
   .simp at g
  |false=>exact zq1 ⟨rfl,mem_map.2 ⟨x,mem_filter.2 ⟨hx,by simp[hxd]⟩,rfl⟩⟩
 .rw[if_neg e0]at he;rcases hJ m e he hd with g|⟨-,g⟩
  .exact zq0 (g.mono hL)
  .simp at g
theorem BP{fuel:Nat}(hN:c.nds.length=N)(hO:sQ c.nds):∀(k:Nat) {s:Sr},ki N s->mR s (qg c fuel k s)/\ki N (qg c fuel k s)/\((qg c fuel k s).ok=true->Sf (qg c fuel k s)->MU c s 0 []->∀n,∀e∈bq (qg c fuel k s) n,ClS c (qg c fuel k s) n e.f)
 |0,s,h=>⟨⟨λh=>h,λ_ _ h=>h,λ_ _ _ h=>h⟩,⟨h.kn,h.wr,h.rw,h.td⟩,λbm=>by cases bm⟩
 |k+1,s,h=>by
  unfold qg;split
  .rename_i hp;refine⟨mR.refl s,h,λ_ _ hJ n e he=>?_⟩;have hd:e.d=true:=by
    unfold EN at hp;rw[findIdx?_eq_none_iff]at hp;unfold bq at he;obtain⟨y,hy,hey⟩:∃y∈s.kn,e∈y:=by
     rw[getD_eq_getElem?_getD]at he;cases hg:s.kn[n]? with
     |none=>rw[hg]at he;simp at he
     |some y=>rw[hg]at he;exact⟨y,mem_of_getElem? hg,he⟩
    have:=hp y hy;rw[any_eq_false]at this;have:=this e hey;simpa using this
   rcases hJ n e he hd with g|⟨-,g⟩
   .exact g
   .simp at g
  .rename_i n hp;have hn:n<N:=by
    unfold EN at hp;obtain⟨h1,-⟩:=findIdx?_eq_some_iff_getElem.1 hp;rw[<-h.kn];exact h1
   split
   .rename_i dX;exact⟨mR.refl s,h,λ_ hS=>by rw[hS.1]at dX;cases dX⟩
   .obtain⟨h1,h2,h3⟩:=RQ (fuel:=fuel) hN hO hn h;obtain⟨h4,h5,h6⟩:=BP (fuel:=fuel) hN hO k h2;exact⟨h1.trans h4,h5,λbm hS hJ=>h6 bm hS (h3 (h4.sf hS) hJ.nil).nil⟩
theorem JL(nds:List Nd):ki nds.length (nL nds):=by
 refine⟨by simp[nL],by simp[nL],λr hr=>?_,λl hl e he=>?_⟩
 .have:=eq_of_mem_replicate (show r∈replicate nds.length (replicate 5 false) from hr);rw[this];simp
 .have:=eq_of_mem_replicate (show l∈replicate nds.length ([]:List ig) from hl);rw[this]at he;simp at he
theorem Rr(nds:List Nd)(n:Nat):bq (nL nds) n=[]:=by
 unfold bq nL;rw[getD_eq_getElem?_getD,getElem?_replicate];split <;> rfl
end
def IsL(B:Nat)(w:World)(X:Nat)(ws:List ByteArray)(s:PS)(al:List ci):Prop :=
 ∃Q,w.heap[X]?=some (.cells #[.pointer (some ⟨Q,0,none⟩),.pointer none] 88 (0,0))/\B<=X/\YG B w Q ws s al
theorem YG.alloc{B:Nat}{w:World}{Q:Nat}{ws:List ByteArray}{s:PS}{al:List ci}(h:YG B w Q ws s al)(o:Obj):YG B (w.alloc o) Q ws s al:=by
 obtain⟨vv,pv,nv,h0,hB,h1,h2,h3⟩:=h;exact⟨vv,pv,nv,by rw[heap_alloc _ _ _ (Array.getElem?_eq_some_iff.1 h0).1];exact h0,hB,h1.alloc o,h2.alloc o,h3.alloc o⟩
theorem DF(s:ByteArray)(w:World)(hs:s.size<=20000):
  Calls prog 25 #[.string s] w λe w'=>Below w.heap.size w w' /\
   ((mP s.data.toList≠0/\e=.returned (.tuple #[.pointer none,.int .i64 (mP s.data.toList)])) \/
    (mP s.data.toList=0/\∃X,e=.returned (.tuple #[.pointer (some ⟨X,0,none⟩),.int .i64 0])/\IsL w.heap.size w' X (qe s.data.toList) (uI s.data.toList) (mC (qe s.data.toList) bt))):=by
 go_enter func25,ntmps25;go_wp2_with fail
 refine(Q3 s w hs).mono ?_;rintro e w1 ⟨cK,(⟨aH,rfl⟩|⟨h0,Q,rfl,hc⟩)⟩
 .have Z3:(((mP s.data.toList:Nat):Int) != 0)=true:=by rw[bne_iff_ne];omega
  have HN:=ab aH;clear aH;go_wp2_with fail
  go_ret2;exact⟨cK,zq0 ⟨uh HN,rfl⟩⟩
 .have H0:=ab h0;have HC:=ab hc;clear h0 hc;go_wp2_with fail
  go_ret2;have hz:=cK.size;exact⟨cK.alloc hz _,zq1 ⟨uh H0,w1.heap.size,rfl,Q,heap_alloc_new w1 _,hz,(uh HC).alloc _⟩⟩
def dR:ByteArray:=⟨#[112,114,101]⟩
def Rd(ws:List ByteArray)(s:PS)(r:List ByteArray):Prop:=s.failed=false/\ws.drop s.pos=r/\s.pos<=ws.length
def Res(ws:List ByteArray)(s:PS):Option (List ByteArray)->Prop
 |none=>s.failed=true
 |some r=>Rd ws s r
structure lU(ws:List ByteArray)(F:PS->PS)(f:List ByteArray->Option (List ByteArray)):Prop where
 ok:∀s r,Rd ws s r->Res ws (F s) (f r)
 bad:∀s,s.failed=true->(F s).failed=true
 nd:∀s,(F s).nodes=s.nodes
def gq(k:ByteArray):List ByteArray->Bool
 |[]=>false
 |x::_=>aX x k
def lS(k:ByteArray):List ByteArray->Option (List ByteArray)
 |[]=>none
 |x::r=>if aX x k then some r else none
theorem zB{ws:List ByteArray}{s:PS}{x:ByteArray}{r:List ByteArray}(h:Rd ws s (x::r)):pk ws s=x:=by
 unfold pk;rw[if_neg (by simp[h.1])];have:ws[s.pos]?=some x:=by rw[<-head?_drop,h.2.1];rfl
 rw[this];rfl
theorem Gw{ws:List ByteArray}{s:PS}(h:Rd ws s []):pk ws s=⟨#[]⟩:=by
 apply Gv;have:=congrArg List.length h.2.1;simp only[length_drop,length_nil]at this;omega
theorem c9{ws:List ByteArray}{s:PS}{x:ByteArray}{r:List ByteArray}(h:Rd ws s (x::r)):Rd ws s.adv r :=
 ⟨h.1,by show ws.drop (s.pos+1)=r;rw[<-drop_drop,h.2.1];rfl,by
  have:=congrArg List.length h.2.1;simp only[length_drop,length_cons]at this;show s.pos+1<=ws.length;omega⟩
theorem WU:(⟨#[]⟩:ByteArray).toList=[]:=ByteArray.toList_eq _
theorem dA{ws:List ByteArray}{s:PS}{k:ByteArray}{r:List ByteArray}(hk:k.toList≠[])(h:Rd ws s r):bK ws k s=gq k r:=by
 cases r with
 |nil=>unfold bK;rw[Gw h,WU];cases ED:k.toList with
  |nil=>exact absurd ED hk
  |cons _ _=>rfl
 |cons x r=>unfold bK;rw[zB h];rfl
theorem ku{ws:List ByteArray}{s:PS}{k:ByteArray}(hk:k.toList≠[])(h:s.failed=true):bK ws k s=false:=by
 unfold bK;rw[lD h,WU];cases ED:k.toList with
  |nil=>exact absurd ED hk
  |cons _ _=>rfl
theorem lU.comp{ws:List ByteArray}{F G:PS->PS}{f g:List ByteArray->Option (List ByteArray)}(hF:lU ws F f)(hG:lU ws G g):lU ws (λs=>G (F s)) (λr=>(f r).bind g):=by
 refine⟨λs r h=>?_,λs h=>hG.bad _ (hF.bad _ h),λs=>(hG.nd _).trans (hF.nd s)⟩;have:=hF.ok s r h;cases hf:f r with
 |none=>rw[hf]at this;exact hG.bad _ this
 |some r'=>rw[hf]at this;exact hG.ok _ _ this
theorem lU.ite{ws:List ByteArray}{A B:PS->PS}{a b:List ByteArray->Option (List ByteArray)}{k:ByteArray}(hk:k.toList≠[])(hA:∀s x r,Rd ws s (x::r)->Res ws (A s) (a (x::r)))(hN:∀s,(A s).nodes=s.nodes)(hB:lU ws B b):lU ws (λs=>if bK ws k s then A s else B s) (λr=>if gq k r then a r else b r):=by
 refine⟨λs r h=>?_,λs h=>?_,λs=>by split;exact hN s;exact hB.nd s⟩
 .rw[dA hk h];cases r with
  |nil=>simp only[gq,Bool.false_eq_true,if_false];exact hB.ok _ _ h
  |cons x r =>
   split
   .exact hA _ _ _ h
   .exact hB.ok _ _ h
 .rw[ku hk h];exact hB.bad _ h
theorem de{ws:List ByteArray}{k:ByteArray}(hk:k.toList≠[]):lU ws (aF ws k) (lS k):=by
 refine⟨λs r h=>?_,λs h=>?_,λs=>by unfold aF;split <;> rfl⟩
 .unfold aF;rw[dA hk h];cases r with
  |nil=>simp[gq,lS,Res,PS.fail]
  |cons x r =>
   show Res ws (if aX x k=true then s.adv else s.fail) (if aX x k=true then some r else none);by_cases hx:aX x k=true
   .rw[if_pos hx,if_pos hx];exact c9 h
   .rw[if_neg hx,if_neg hx];rfl
 .unfold aF;rw[ku hk h];simp[PS.fail]
def Cx:List ByteArray->Option (List ByteArray)
 |[]=>none
 |x::r=>if aK x then some r else none
theorem Ja:aK ⟨#[]⟩=false:=rfl
theorem RI:k8 ⟨#[]⟩=false:=rfl
theorem wK{ws:List ByteArray}:lU ws (bD ws) Cx:=by
 refine⟨λs r h=>?_,λs h=>?_,λs=>by unfold bD;split <;> rfl⟩
 .unfold bD;cases r with
  |nil=>rw[Gw h,Ja];simp[Cx,Res,PS.fail]
  |cons x r =>
   rw[zB h];simp only[Cx];split
   .exact⟨h.1,(c9 h).2⟩
   .simp[Res,PS.fail]
 .unfold bD;rw[lD h,Ja];simp[PS.fail]
theorem wg:kt.toList≠[]:=by rw[ByteArray.toList_eq];simp[kt]
theorem px:gT.toList≠[]:=by rw[ByteArray.toList_eq];simp[gT]
theorem Dw:tr.toList≠[]:=by rw[ByteArray.toList_eq];simp[tr]
theorem ag9:XP.toList≠[]:=by rw[ByteArray.toList_eq];simp[XP]
theorem us:gj.toList≠[]:=by rw[ByteArray.toList_eq];simp[gj]
theorem wf:ni.toList≠[]:=by rw[ByteArray.toList_eq];simp[ni]
theorem qS:iU.toList≠[]:=by rw[ByteArray.toList_eq];simp[iU]
theorem AV:pV.toList≠[]:=by rw[ByteArray.toList_eq];simp[pV]
theorem PW:IS.toList≠[]:=by rw[ByteArray.toList_eq];simp[IS]
theorem od:dD.toList≠[]:=by rw[ByteArray.toList_eq];simp[dD]
def kW(r:List ByteArray):Option (List ByteArray):=if gq kt r then some r.tail else Cx r
theorem gQ{ws:List ByteArray}:lU ws (b9 ws) kW:=lU.ite wg (λ_ _ _ h=>c9 h) (λ_=>rfl) wK
def LG:List ByteArray->Option (List ByteArray)
 |[]=>none
 |x::r=>if k8 x then some r else kW (x::r)
theorem sG{ws:List ByteArray}:lU ws (fJ ws) LG:=by
 refine⟨λs r h=>?_,λs h=>?_,λs=>by unfold fJ;split;rfl;exact gQ.nd s⟩
 .unfold fJ;cases r with
  |nil=>rw[Gw h,RI];exact gQ.ok _ _ h
  |cons x r =>
   rw[zB h];simp only[LG];cases hx:k8 x with
   |true=>exact⟨h.1,(c9 h).2⟩
   |false=>exact gQ.ok _ _ h
 .unfold fJ;rw[lD h,RI];exact gQ.bad _ h
def LE(r:List ByteArray):Option (List ByteArray):=if gq gT r then some r.tail else if gq tr r then some r.tail else lS XP r
theorem BB{ws:List ByteArray}:lU ws (fA ws) LE:=lU.ite px (λ_ _ _ h=>c9 h) (λ_=>rfl) (lU.ite Dw (λ_ _ _ h=>c9 h) (λ_=>rfl) (de ag9))
def pLi(r:List ByteArray):Option (List ByteArray):=((((lS gj r).bind LG).bind (lS ni)).bind LG).bind (lS iU)
theorem QC{ws:List ByteArray}:lU ws (Be ws) pLi:=((((de us).comp sG).comp (de wf)).comp sG).comp (de qS)
def pB(r:List ByteArray):Option (List ByteArray):=if gq pV r then some r.tail else if gq IS r then pLi r.tail else ((LG r).bind LE).bind LG
theorem nD{ws:List ByteArray}:lU ws (eI ws) pB :=
 lU.ite AV (λ_ _ _ h=>c9 h) (λ_=>rfl) (lU.ite PW (λ_ _ _ h=>QC.ok _ _ (c9 h)) (λs=>QC.nd s.adv) ((sG.comp BB).comp sG))
theorem QB{ws:List ByteArray}:lU ws (λs=>s) some:=⟨λ_ _ h=>h,λ_ h=>h,λ_=>rfl⟩
def Ly:Nat->List ByteArray->Option (List ByteArray)
 |0,r=>some r
 |n+1,r=>if gq dD r then (pB r.tail).bind (Ly n) else some r
theorem VD{ws:List ByteArray}(n:Nat):lU ws (λs=>(jj ws n s).2) (Ly n):=by
 induction n with
 |zero=>exact QB
 |succ n ih =>
  have e:(λs=>(jj ws (n+1) s).2)=(λs=>if bK ws dD s then (jj ws n (eI ws s.adv)).2 else s):=by
   funext s;simp only[jj];split <;> rfl
  rw[e];exact lU.ite od (λ_ _ _ h=>(nD.comp ih).ok _ _ (c9 h)) (λs=>(nD.comp ih).nd s.adv) QB
def Lz(n:Nat)(r:List ByteArray):Option (List ByteArray):=(pB r).bind (Ly n)
theorem Bz{ws:List ByteArray}:lU ws (rG ws) (Lz (ws.length+1)):=nD.comp (VD (ws.length+1))
theorem AW:oX.toList≠[]:=by rw[ByteArray.toList_eq];simp[oX]
theorem mb:iM.toList≠[]:=by rw[ByteArray.toList_eq];simp[iM]
theorem Li:kN.toList≠[]:=by rw[ByteArray.toList_eq];simp[kN]
theorem n7:ic.toList≠[]:=by rw[ByteArray.toList_eq];simp[ic]
theorem qU:ja.toList≠[]:=by rw[ByteArray.toList_eq];simp[ja]
theorem zp:mB.toList≠[]:=by rw[ByteArray.toList_eq];simp[mB]
theorem qV:k6.toList≠[]:=by rw[ByteArray.toList_eq];simp[k6]
theorem AX:jb.toList≠[]:=by rw[ByteArray.toList_eq];simp[jb]
theorem py:mc.toList≠[]:=by rw[ByteArray.toList_eq];simp[mc]
theorem jR:bO.toList≠[]:=by rw[ByteArray.toList_eq];simp[bO]
theorem qT:iN.toList≠[]:=by rw[ByteArray.toList_eq];simp[iN]
theorem Gg:fO.toList≠[]:=by rw[ByteArray.toList_eq];simp[fO]
def Lx(r:List ByteArray):Option (List ByteArray):=if gq tr r then some r.tail else lS gT r
def pCo(r:List ByteArray):Option (List ByteArray):=if gq dD r then some r.tail else ((Cx r).bind Lx).bind kW
theorem VC{ws:List ByteArray}:lU ws (yT ws) Lx:=lU.ite Dw (λ_ _ _ h=>c9 h) (λ_=>rfl) (de px)
theorem abo{ws:List ByteArray}:lU ws (tE ws) pCo:=lU.ite od (λ_ _ _ h=>c9 h) (λ_=>rfl) ((wK.comp VC).comp gQ)
def pTs(r:List ByteArray):Option (List ByteArray):=((lS gj r).bind pCo).bind (lS iU)
theorem abt{ws:List ByteArray}:lU ws (Mz ws) pTs:=((de us).comp abo).comp (de qS)
def pAs(r:List ByteArray):Option (List ByteArray) :=
 if gq oX r then some r.tail else if !gq kt r&&(match kW r with|some q=>gq iM q|none=>false) then (kW r).bind (λq=>lS kN q.tail) else kW r
theorem abk{ws:List ByteArray}:lU ws (oP ws) pAs:=by
 refine lU.ite (b:=λr=>if !gq kt r&&(match kW r with|some q=>gq iM q|none=>false) then (kW r).bind (λq=>lS kN q.tail) else kW r) AW (λ_ _ _ h=>c9 h) (λ_=>rfl) ⟨λs r h=>?_,λs h=>?_,λs=>?_⟩
 .have hv:=gQ.ok s r h;have hk:(dS ws s==1)=!gq kt r:=by
   unfold dS;rw[dA wg h];cases gq kt r <;> rfl
  unfold Es;rw[hk];cases hp:kW r with
  |none =>
   rw[hp]at hv;rw[ku mb hv];simp only[Bool.and_false,Bool.false_eq_true,if_false];exact hv
  |some q =>
   rw[hp]at hv;rw[dA mb hv];by_cases hc:(!gq kt r&&gq iM q)=true
   .rw[if_pos hc,if_pos hc];cases q with
    |nil=>simp[gq]at hc
    |cons y q=>exact(de Li).ok _ _ (c9 hv)
   .rw[if_neg hc,if_neg hc];exact hv
 .have hv:=(gQ (ws:=ws)).bad s h;unfold Es;rw[ku mb hv];simp only[Bool.and_false,Bool.false_eq_true,if_false];exact hv
 .split
  .exact((de Li).nd _).trans (gQ.nd s)
  .exact gQ.nd s
def VB(r:List ByteArray):Option (List ByteArray):=if gq iM r then (((lS kN r.tail).bind (lS gT)).bind kW) else (lS gT r).bind pAs
theorem VF{ws:List ByteArray}:lU ws (λt=>if bK ws iM t then b9 ws (zK ws t) else oP ws (aF ws gT t)) VB :=
 lU.ite mb (λ_ _ _ h=>(((de Li).comp (de px)).comp gQ).ok _ _ (c9 h)) (λs=>(((de Li).comp (de px)).comp gQ).nd s.adv) ((de px).comp abk)
def pSi(r:List ByteArray):Option (List ByteArray):=if gq ic r then some r.tail else if gq ja r then Cx r.tail else (Cx r).bind VB
theorem abs{ws:List ByteArray}:lU ws (iu ws) pSi :=
 lU.ite n7 (λ_ _ _ h=>c9 h) (λ_=>rfl) (lU.ite qU (λ_ _ _ h=>wK.ok _ _ (c9 h)) (λs=>wK.nd s.adv) (wK.comp VF))
def akf(ws:List ByteArray)(n:Nat)(s:PS):Option (List ByteArray × Nat)->Prop
 |none=>s.failed=true
 |some (q,k)=>Rd ws s q/\s.nodes.length=n+k
structure jB(ws:List ByteArray)(F:PS->PS)(f:List ByteArray->Option (List ByteArray × Nat)):Prop where
 ok:∀s r,Rd ws s r->akf ws s.nodes.length (F s) (f r)
 bad:∀s,s.failed=true->(F s).failed=true
def Eb(f g:List ByteArray->Option (List ByteArray × Nat))(r:List ByteArray):Option (List ByteArray × Nat) :=
 match f r with
 |none=>none
 |some (q,k)=>match g q with
  |none=>none
  |some (p,j)=>some (p,k+j)
def n0(f:List ByteArray->Option (List ByteArray))(r:List ByteArray):Option (List ByteArray × Nat):=(f r).map (λq=>(q,0))
def n1(f:List ByteArray->Option (List ByteArray))(r:List ByteArray):Option (List ByteArray × Nat):=(f r).map (λq=>(q,1))
theorem lU.n{ws:List ByteArray}{F:PS->PS}{f:List ByteArray->Option (List ByteArray)}(h:lU ws F f):jB ws F (n0 f):=by
 refine⟨λs r hr=>?_,h.bad⟩;have:=h.ok s r hr;unfold n0;cases hf:f r with
 |none=>rw[hf]at this;exact this
 |some q=>rw[hf]at this;exact⟨this,by rw[h.nd s];rfl⟩
theorem lU.n1{ws:List ByteArray}{F G:PS->PS}{f:List ByteArray->Option (List ByteArray)}(h:lU ws F f)(hf:∀s,(G s).failed=(F s).failed)(hp:∀s,(G s).pos=(F s).pos)(hn:∀s,(G s).nodes.length=(F s).nodes.length+1):jB ws G (n1 f):=by
 refine⟨λs r hr=>?_,λs hs=>by rw[hf];exact h.bad s hs⟩;have:=h.ok s r hr;unfold Proofs.YtciihepbeacppaaGreat.n1;cases lQ:f r with
 |none=>rw[lQ]at this;exact(hf s).trans this
 |some q =>
  rw[lQ]at this;exact⟨⟨(hf s).trans this.1,by rw[hp s];exact this.2⟩,by rw[hn s,h.nd s]⟩
theorem jB.comp{ws:List ByteArray}{F G:PS->PS}{f g:List ByteArray->Option (List ByteArray × Nat)}(hF:jB ws F f)(hG:jB ws G g):jB ws (λs=>G (F s)) (Eb f g):=by
 refine⟨λs r h=>?_,λs h=>hG.bad _ (hF.bad _ h)⟩;have h1:=hF.ok s r h;unfold Eb;cases hf:f r with
 |none=>rw[hf]at h1;exact hG.bad _ h1
 |some qk =>
  obtain⟨q,k⟩:=qk;rw[hf]at h1;have h2:=hG.ok _ _ h1.1;rw[h1.2]at h2;dsimp only;cases hg:g q with
  |none=>rw[hg]at h2;exact h2
  |some pj =>
   obtain⟨p,j⟩:=pj;rw[hg]at h2;exact⟨h2.1,by rw[h2.2];omega⟩
theorem jB.congr{ws:List ByteArray}{F G:PS->PS}{f:List ByteArray->Option (List ByteArray × Nat)}(h:jB ws F f)(hf:∀s,(G s).failed=(F s).failed)(hp:∀s,(G s).pos=(F s).pos)(hn:∀s,(G s).nodes.length=(F s).nodes.length):jB ws G f:=by
 refine⟨λs r hr=>?_,λs hs=>by rw[hf];exact h.bad s hs⟩;have:=h.ok s r hr;cases lQ:f r with
 |none=>rw[lQ]at this;exact(hf s).trans this
 |some q =>
  rw[lQ]at this;exact⟨⟨(hf s).trans this.1.1,by rw[hp s];exact this.1.2⟩,by rw[hn s];exact this.2⟩
def pSc:List ByteArray->Option (List ByteArray × Nat):=n1 (λr=>(pSi r).bind (lS jb))
theorem QD{ws:List ByteArray}:jB ws (rJ ws) pSc:=(abs.comp (de AX)).n1 (λ_=>rfl) (λ_=>rfl) (λ_=>by simp[rJ,cg])
def pTn:List ByteArray->Option (List ByteArray × Nat):=n1 pTs
theorem QE{ws:List ByteArray}:jB ws (gz ws) pTn:=abt.n1 (λ_=>rfl) (λ_=>rfl) (λ_=>by simp[gz,cg])
def pHd(k:ByteArray)(pb:List ByteArray->Option (List ByteArray × Nat)):List ByteArray->Option (List ByteArray × Nat):=Eb (Eb (n0 (lS k)) pTn) pb
def one(r:List ByteArray):Option (List ByteArray × Nat):=some (r,1)
def pLo(pb:List ByteArray->Option (List ByteArray × Nat)):List ByteArray->Option (List ByteArray × Nat):=Eb (pHd bO pb) one
theorem VE{ws:List ByteArray}:jB ws (cg iL) one:=⟨λ_ _ h=>⟨h,by simp[cg]⟩,λ_ h=>h⟩
theorem abq{ws:List ByteArray}{blk:PS->PS}{pb:List ByteArray->Option (List ByteArray × Nat)}(hb:jB ws blk pb):jB ws (xV blk ws) (pLo pb) :=
 (((((de jR).n).comp QE).comp hb).comp VE).congr (λ_=>rfl) (λ_=>rfl) (λ_=>by simp only[xV,bR,du];rfl)
def pEl(pb:List ByteArray->Option (List ByteArray × Nat))(r:List ByteArray):Option (List ByteArray × Nat):=if gq iN r then Eb one pb r.tail else some (r,0)
def pBr(pb:List ByteArray->Option (List ByteArray × Nat)):List ByteArray->Option (List ByteArray × Nat):=Eb (pHd mc pb) (pEl pb)
theorem abm{ws:List ByteArray}{blk:PS->PS}{pb:List ByteArray->Option (List ByteArray × Nat)}(hb:jB ws blk pb):jB ws (pN blk ws) (pBr pb):=by
 have hA:jB ws (cI blk ws) (pHd mc pb):=((((de py).n).comp QE).comp hb);refine⟨λs r h=>?_,λs h=>?_⟩
 .have h1:=hA.ok s r h;unfold pBr Eb pN;cases hf:pHd mc pb r with
  |none=>rw[hf]at h1;rw[ku qT h1];exact h1
  |some qk =>
   obtain⟨q,k⟩:=qk;rw[hf]at h1;rw[dA qT h1.1];dsimp only;unfold pEl;cases q with
   |nil=>exact⟨h1.1,by rw[show gq iN []=false from rfl];simp only[Bool.false_eq_true,if_false,bR];exact h1.2⟩
   |cons y q =>
    by_cases hy:gq iN (y::q)=true
    .rw[if_pos hy,if_pos hy];have ht:Rd ws (lP s.nodes.length (cI blk ws s)) q:=c9 h1.1;have hl:(lP s.nodes.length (cI blk ws s)).nodes.length=s.nodes.length+k+1:=by
      simp only[lP,bR];simp[cg,PS.adv,h1.2]
     have h2:=hb.ok _ _ ht;rw[hl]at h2;simp only[Eb,one,tail_cons];cases hg:pb q with
     |none=>rw[hg]at h2;exact h2
     |some pj =>
      obtain⟨p,j⟩:=pj;rw[hg]at h2;exact⟨h2.1,by simp only[Nn,du];rw[h2.2];omega⟩
    .rw[if_neg hy,if_neg hy];exact⟨h1.1,by simp only[bR];exact h1.2⟩
 .have h1:=hA.bad s h;unfold pN;rw[ku qT h1];exact h1
def pCm(pb:List ByteArray->Option (List ByteArray × Nat))(r:List ByteArray):Option (List ByteArray × Nat):=if gq mc r then pBr pb r else if gq bO r then pLo pb r else pSc r
theorem abn{ws:List ByteArray}{blk:PS->PS}{pb:List ByteArray->Option (List ByteArray × Nat)}(hb:jB ws blk pb):jB ws (kw blk ws) (pCm pb):=by
 refine⟨λs r h=>?_,λs h=>?_⟩
 .unfold kw pCm;rw[dA py h,dA jR h];by_cases h1:gq mc r=true
  .rw[if_pos h1,if_pos h1];exact(abm hb).ok _ _ h
  .rw[if_neg h1,if_neg h1];by_cases h2:gq bO r=true
   .rw[if_pos h2,if_pos h2];exact(abq hb).ok _ _ h
   .rw[if_neg h2,if_neg h2];exact QD.ok _ _ h
 .unfold kw;rw[ku py h,ku jR h];exact QD.bad _ h
def pCs(pc:List ByteArray->Option (List ByteArray × Nat)):Nat->List ByteArray->Option (List ByteArray × Nat)
 |0,r=>some (r,0)
 |n+1,r=>if gq k6 r then some (r,0) else Eb pc (pCs pc n) r
theorem abp{ws:List ByteArray}{c:PS->PS}{pc:List ByteArray->Option (List ByteArray × Nat)}(hc:jB ws c pc)(n:Nat):jB ws (jg c ws n) (pCs pc n):=by
 induction n with
 |zero=>exact⟨λ_ _ h=>⟨h,rfl⟩,λ_ h=>h⟩
 |succ n ih =>
  refine⟨λs r h=>?_,λs h=>?_⟩
  .simp only[jg,pCs];rw[dA qV h,h.1,Bool.false_or];by_cases h1:gq k6 r=true
   .rw[if_pos h1,if_pos h1];exact⟨h,rfl⟩
   .rw[if_neg h1,if_neg h1];exact(hc.comp ih).ok _ _ h
  .simp only[jg,h,Bool.true_or,if_true]
def pBl(N:Nat):Nat->List ByteArray->Option (List ByteArray × Nat)
 |0,r=>some (r,0)
 |f+1,r=>Eb (Eb (n0 (lS mB)) (pCs (pCm (pBl N f)) N)) (n0 (lS k6)) r
theorem abl{ws:List ByteArray}(f:Nat):jB ws (cL ws f) (pBl (ws.length+2) f):=by
 induction f with
 |zero=>exact⟨λ_ _ h=>⟨h,rfl⟩,λ_ h=>h⟩
 |succ f ih=>exact(((de zp).n).comp (abp (abn ih) (ws.length+2))).comp (de qV).n
def pPr(N:Nat):List ByteArray->Option (List ByteArray × Nat):=Eb (Eb (Eb (n0 (lS fO)) (n0 (Lz (N+1)))) (pBl (N+2) (N+1))) one
theorem abr{ws:List ByteArray}:jB ws (EO ws) (pPr ws.length) :=
 ((((de Gg).n.comp Bz.n).comp (abl (ws.length+1))).comp (G:=cg jT) ⟨λ_ _ h=>⟨h,by simp[cg]⟩,λ_ h=>h⟩)
theorem VN{ws:List ByteArray}(h:∀k,pPr ws.length ws≠some ([],k)):(fy ws bt).failed=true:=by
 have h1:=(abr (ws:=ws)).ok bt ws ⟨rfl,rfl,zq5 _⟩;unfold fy;cases hf:pPr ws.length ws with
 |none=>rw[hf]at h1;split;exact h1;rfl
 |some qk =>
  obtain⟨q,k⟩:=qk;rw[hf]at h1;cases q with
  |nil=>exact absurd hf (h k)
  |cons x q =>
   have hp:¬ (EO ws bt).pos=ws.length:=by
    have:=congrArg List.length h1.1.2.1;simp only[length_drop,length_cons]at this;omega
   rw[if_neg hp];rfl
theorem DS(x:ByteArray)(r:List ByteArray):LG (x::r)=if gP x=true then some r else none:=by
 show(if k8 x=true then some r else if aX x cC=true then some r else if aK x=true then some r else none)=if (aX x cC||aK x||k8 x)=true then some r else none
 cases k8 x <;> cases aX x cC <;> cases aK x <;> rfl
def abG(x:ByteArray):Bool:=aX x bS||aX x kU||aX x LQ
theorem LF(x:ByteArray)(r:List ByteArray):LE (x::r)=if abG x=true then some r else none:=by
 show(if aX x bS=true then some r else if aX x kU=true then some r else if aX x LQ=true then some r else none)=if (aX x bS||aX x kU||aX x LQ)=true then some r else none
 cases aX x bS <;> cases aX x kU <;> cases aX x LQ <;> rfl
theorem mh(x:ByteArray)(r:List ByteArray):pB (x::r)=if aX x qA=true then some r else if aX x EK=true then pLi r else ((if gP x=true then some r else none).bind LE).bind LG:=by
 rw[<-DS];rfl
theorem QA(k x:ByteArray)(r:List ByteArray):lS k (x::r)=if aX x k=true then some r else none:=rfl
theorem Qn{x:ByteArray}(h:aX x qA=true):gP x=false:=by
 have hx:x.toList=[101,109,112]:=by simpa[aX,NU] using h
 have hd:x.data.toList=[101,109,112]:=by rw[<-ByteArray.toList_eq];exact hx
 simp[gP,aX,aK,k8,hd,hx,show cC.toList=[110,105,108] from ByteArray.toList_eq _]
theorem Vo{x:ByteArray}(h:aX x EK=true):gP x=false:=by
 have hx:x.toList=[108,115]:=by simpa[aX,XT] using h
 have hd:x.data.toList=[108,115]:=by rw[<-ByteArray.toList_eq];exact hx
 simp[gP,aX,aK,k8,hd,hx,show cC.toList=[110,105,108] from ByteArray.toList_eq _]
theorem jX{k:ByteArray}{r q:List ByteArray}:lS k r=some q↔∃x,aX x k=true/\r=x::q:=by
 cases r with
 |nil=>simp[lS]
 |cons y r =>
  rw[QA];by_cases h:aX y k=true
  .rw[if_pos h];exact⟨λe=>by cases e;exact⟨y,h,rfl⟩,λ⟨x,_,e⟩=>by cases e;rfl⟩
  .rw[if_neg h];exact⟨λe=>(by cases e),λ⟨x,hx,e⟩=>by cases e;exact absurd hx h⟩
theorem jY{r q:List ByteArray}:LG r=some q↔∃x,gP x=true/\r=x::q:=by
 cases r with
 |nil=>simp[LG]
 |cons y r =>
  rw[DS];by_cases h:gP y=true
  .rw[if_pos h];exact⟨λe=>by cases e;exact⟨y,h,rfl⟩,λ⟨x,_,e⟩=>by cases e;rfl⟩
  .rw[if_neg h];exact⟨λe=>(by cases e),λ⟨x,hx,e⟩=>by cases e;exact absurd hx h⟩
theorem sF{r q:List ByteArray}:LE r=some q↔∃x,abG x=true/\r=x::q:=by
 cases r with
 |nil=>simp[LE,gq,lS]
 |cons y r =>
  rw[LF];by_cases h:abG y=true
  .rw[if_pos h];exact⟨λe=>by cases e;exact⟨y,h,rfl⟩,λ⟨x,_,e⟩=>by cases e;rfl⟩
  .rw[if_neg h];exact⟨λe=>(by cases e),λ⟨x,hx,e⟩=>by cases e;exact absurd hx h⟩
theorem DR{r q:List ByteArray}:pLi r=some q↔∃b c d e f,aX b uC=true/\gP c=true/\aX d WT=true/\gP e=true/\aX f sS=true/\r=b::c::d::e::f::q:=by
 constructor
 .intro h;unfold pLi at h;obtain⟨r4,h,h5⟩:=Option.bind_eq_some_iff.1 h;obtain⟨r3,h,h4⟩:=Option.bind_eq_some_iff.1 h;obtain⟨r2,h,h3⟩:=Option.bind_eq_some_iff.1 h;obtain⟨r1,h1,h2⟩:=Option.bind_eq_some_iff.1 h;obtain⟨b,hb,rfl⟩:=jX.1 h1;obtain⟨c,hc,rfl⟩:=jY.1 h2;obtain⟨d,hd,rfl⟩:=jX.1 h3;obtain⟨e,he,rfl⟩:=jY.1 h4;obtain⟨f,hf,rfl⟩:=jX.1 h5;exact⟨b,c,d,e,f,hb,hc,hd,he,hf,rfl⟩
 .rintro⟨b,c,d,e,f,hb,hc,hd,he,hf,rfl⟩;show((((lS uC (b::c::d::e::f::q)).bind LG).bind (lS WT)).bind LG).bind (lS sS)=some q;rw[jX.2 ⟨b,hb,rfl⟩,Option.bind_some,jY.2 ⟨c,hc,rfl⟩,Option.bind_some,jX.2 ⟨d,hd,rfl⟩,Option.bind_some,jY.2 ⟨e,he,rfl⟩,Option.bind_some,jX.2 ⟨f,hf,rfl⟩]
theorem jW{l q:List ByteArray}:pB l=some q↔∃p,yy p=true/\l=p++q:=by
 constructor
 .intro h;cases l with
  |nil=>simp[pB,gq,LG]at h
  |cons a r =>
   rw[mh]at h;by_cases h1:aX a qA=true
   .rw[if_pos h1]at h;simp only[Option.some.injEq]at h;subst h;exact⟨[a],h1,rfl⟩
   .rw[if_neg h1]at h;by_cases h2:aX a EK=true
    .rw[if_pos h2]at h;obtain⟨b,c,d,e,f,hb,hc,hd,he,hf,rfl⟩:=DR.1 h;exact⟨[a,b,c,d,e,f],by simp[yy,h2,hb,hc,hd,he,hf],rfl⟩
    .rw[if_neg h2]at h;obtain⟨r2,h,h5⟩:=Option.bind_eq_some_iff.1 h;obtain⟨r1,h3,h4⟩:=Option.bind_eq_some_iff.1 h;by_cases h6:gP a=true
     .rw[if_pos h6]at h3;simp only[Option.some.injEq]at h3;subst h3;obtain⟨b,hb,rfl⟩:=sF.1 h4;obtain⟨c,hc,rfl⟩:=jY.1 h5;exact⟨[a,b,c],by simp only[yy,h6,hc,Bool.true_and];exact hb,rfl⟩
     .rw[if_neg h6]at h3;cases h3
 .rintro⟨p,hp,rfl⟩;match p,hp with
  |[a],hp=>show pB (a::q)=some q;rw[mh,if_pos (show aX a qA=true from hp)]
  |[a,b,c],hp =>
   simp only[yy,Bool.and_eq_true]at hp;show pB (a::b::c::q)=some q;have h1:¬ aX a qA=true:=λh=>by rw[Qn h]at hp;simp at hp
   have h2:¬ aX a EK=true:=λh=>by rw[Vo h]at hp;simp at hp
   rw[mh,if_neg h1,if_neg h2,if_pos hp.1.1,Option.bind_some,sF.2 ⟨b,hp.2,rfl⟩,Option.bind_some,jY.2 ⟨c,hp.1.2,rfl⟩]
  |[a,b,c,d,e,f],hp =>
   simp only[yy,Bool.and_eq_true]at hp;obtain⟨⟨⟨⟨ha,hb⟩,hd⟩,hf⟩,hc,he⟩:=hp;show pB (a::b::c::d::e::f::q)=some q;have h1:¬ aX a qA=true:=λh=>by
    have e1:a.toList=[101,109,112]:=(by simpa[aX,NU] using h);have e2:a.toList=[108,115]:=(by simpa[aX,XT] using ha);rw[e1]at e2;simp at e2
   rw[mh,if_neg h1,if_pos ha];exact DR.2 ⟨b,c,d,e,f,hb,hc,hd,he,hf,rfl⟩
def xU(n:Nd):Bool:=decide (n.op=7\/n.op=8\/n.op=9)
def IQ(n:Nd):Bool:=decide (n.op=4)
def ub(P:Nd->Bool)(nds:List Nd)(n:Nat):Nat:=(nds.drop n).countP P
theorem NE{P:Nd->Bool}{nds:List Nd}{n:Nat}(hn:n<nds.length):ub P nds n=ub P nds (n+1)+(if P (nds.getD n aI)=true then 1 else 0):=by
 unfold ub;rw[drop_eq_getElem_cons hn,countP_cons,getD_eq_getElem?_getD,getElem?_eq_getElem hn];rfl
theorem mT{P:Nd->Bool}{nds:List Nd}{n m:Nat}(h:n<=m):ub P nds m<=ub P nds n:=by
 unfold ub;refine List.Sublist.countP_le ?_;rw[show m=n+(m-n) by omega,<-drop_drop];exact drop_sublist _ _
theorem ND{P:Nd->Bool}{nds:List Nd}{n m:Nat}(hn:n<nds.length)(h:n<m)(hp:P (nds.getD n aI)=true):ub P nds m+1<=ub P nds n:=by
 have h1:=NE (P:=P) hn;rw[if_pos hp]at h1;have h2:=mT (P:=P) (nds:=nds) (n:=n+1) (m:=m) h;omega
def ix(nds:List Nd)(n:Nat)(f:CF):Nat:=9 ^ (aw f+ub IQ nds n)*2 ^ (ub xU nds n)
structure zW(nds:List Nd)(n:Nat)(f:CF):Prop where
 td:Td f
 k3:K3 f
 nm:aw f+ub IQ nds n<=9
theorem K3.jo{f:CF}(h:K3 f)(a b:Nat):K3 (mL f a b):=by
 intro p hp;obtain⟨q,hq,rfl⟩:=mem_map.1 hp;exact h q hq
theorem K3.owA{f:CF}(h:K3 f){i:Nat}(hi:i<f.ow.length):(owA f i).k=3:=h _ (uD hi)
theorem Oh{f:CF}(h:K3 f)(c:Nat):(gU f c).1=[]\/(gU f c).1=[f]:=by
 unfold gU;split
 .exact zq0 rfl
 .rename_i i hi;unfold Oj;rw[if_pos (h.owA (eT hi).1)];exact zq1 rfl
theorem aa0{f:CF}(h:K3 f){c i:Nat}(hi:i<f.ow.length):eM f c i=if aV f c (owA f i).l=true then [] else [fY f c i]:=by
 unfold eM;rw[if_neg (show ¬ ((owA f i).k=4) by rw[h.owA hi];decide),append_nil]
def JoI(f:CF)(v:Nat)(x:CF):Prop:=∃i,i<f.ow.length/\x=mL f (owA f i).l (f.cl.getD (1+v) 0)
theorem abc{f:CF}(h:K3 f){v i:Nat}(hi:i<f.ow.length){r:List CF × Bool}(hr:∀x∈r.1,JoI f v x):(∀x∈(uB f v i r).1,JoI f v x)/\(uB f v i r).1.length<=r.1.length+1:=by
 unfold uB;rw[aa0 h hi];split
 .exact⟨hr,by simp⟩
 .simp only[foldl_cons,foldl_nil];have h2:=Oh (h.jo (owA f i).l (f.cl.getD (1+v) 0)) ((fY f (f.cl.getD (1+v) 0) i).cl.getD (1+v) 0);unfold Cf;show(∀x∈r.1++(gU (fY f _ i) _).1,_)/\(r.1++(gU (fY f _ i) _).1).length<=_;have h3:(gU (fY f (f.cl.getD (1+v) 0) i) ((fY f (f.cl.getD (1+v) 0) i).cl.getD (1+v) 0)).1=[]\/(gU (fY f (f.cl.getD (1+v) 0) i) ((fY f (f.cl.getD (1+v) 0) i).cl.getD (1+v) 0)).1=[fY f (f.cl.getD (1+v) 0) i]:=h2;rcases h3 with e|e
  .rw[e,append_nil];exact⟨hr,by omega⟩
  .rw[e];refine⟨λx hx=>?_,by simp⟩;rcases mem_append.1 hx with hx|hx
   .exact hr x hx
   .rw[mem_singleton]at hx;exact⟨i,hi,hx⟩
theorem Qx{f:CF}(h:K3 f){v:Nat}:∀(l:List Nat) {r:List CF × Bool},(∀i∈l,i<f.ow.length)->(∀x∈r.1,JoI f v x)->(∀x∈(l.foldl (λr i=>uB f v i r) r).1,JoI f v x)/\(l.foldl (λr i=>uB f v i r) r).1.length<=r.1.length+l.length
 |[],r,_,hr=>⟨hr,by simp⟩
 |i::l,r,hl,hr=>by
  obtain⟨h1,h2⟩:=abc h (v:=v) (hl i (by simp)) hr;obtain⟨g1,g2⟩:=Qx h (v:=v) l (r:=uB f v i r) (λj hj=>hl j (by simp[hj])) h1;refine⟨g1,?_⟩;rw[foldl_cons,length_cons];omega
theorem abb{f:CF}(h:K3 f)(v:Nat):((cZ f v).1=[]\/(cZ f v).1=[f])\/(cD f.ow (f.cl.getD (1+v) 0)=none/\(cZ f v).1.length<=f.ow.length/\∀x∈(cZ f v).1,JoI f v x):=by
 unfold cZ;split
 .exact zq0 (zq0 rfl)
 .split
  .exact zq0 (Oh h _)
  .rename_i hb;right;obtain⟨h1,h2⟩:=Qx h (v:=v) (range f.ow.length) (r:=([],false)) (λi hi=>mem_range.1 hi) (λx hx=>by simp at hx);exact⟨by simpa using hb,by simpa using h2,h1⟩
structure Opn(v:Nat)(G:CF->CF):Prop where
 ok:∀{x N},rM N v x->aj (G x)
 lv:∀{x N},rM N v x->∀c∈bL (G x),c∈bL x
 k3:∀{x},K3 x->K3 (G x)
theorem Gu{f:CF}{i:Nat}(hi:i<f.ow.length):(owA f i).l∈bL f/\(owA f i).r∈bL f:=zu (uD hi)
theorem Nh{N v:Nat}{x:CF}(h:rM N v x):qp x (x.cl.getD (1+v) 0)<x.ow.length:=by
 obtain⟨i,hi⟩:=Option.isSome_iff_exists.1 h.bg;unfold qp;rw[hi];exact(eT hi).1
theorem Nv{f:CF}{k i:Nat}(hi:i<4):clT f k i∈bL f:=by unfold clT;split;exact DG (by omega);exact DG (by omega)
theorem abf{n:Nd}:Opn n.ai (λg=>fq g n):=⟨λh=>(Au h).1,λh c hc=>by
 rcases Bj h.ok.c5 hc with hc|rfl
 .exact hc
 .exact(Gu (Nh h)).2,λh=>h⟩
theorem abh{n:Nd}(ha:n.ai<4):Opn n.v (λg=>nk g n):=⟨λh=>(Gl h).1,λh c hc=>by
 rcases Vj h.ok.c5 hc with hc|rfl|rfl
 .exact hc
 .exact(Gu (Nh h)).1
 .exact Nv ha,fun {x} h p hp=>by
 rcases mem_or_eq_of_mem_set hp with hp|rfl
 .exact h p hp
 .show(owA x _).k=3;by_cases hi:qp x (x.cl.getD (1+n.v) 0)<x.ow.length
  .exact h.owA hi
  .have IH:(⟨(owA x (qp x (x.cl.getD (1+n.v) 0))).k,(owA x (qp x (x.cl.getD (1+n.v) 0))).l,clT x n.ak n.ai⟩:Pr)∈x.ow.set (qp x (x.cl.getD (1+n.v) 0)) ⟨(owA x (qp x (x.cl.getD (1+n.v) 0))).k,(owA x (qp x (x.cl.getD (1+n.v) 0))).l,clT x n.ak n.ai⟩:=hp;rw[set_eq_of_length_le (by omega)]at IH;have h9:=h _ IH;exact h9⟩
theorem abg(v:Nat):Opn v (λg=>l8 g v):=⟨λh=>(rY h).1,fun {x N} h c hc=>by
 have h1:=Jd _ hc;exact aaY h.ok.c5 (show c∈bL (gY x _) from h1),fun {x} h p hp=>by
 have h1:p∈(gY x (qp x (x.cl.getD (1+v) 0))).ow:=by
  have e:=By (gY x (qp x (x.cl.getD (1+v) 0))).ow (g:=cf (gY x (qp x (x.cl.getD (1+v) 0))) (x.cl.getD (1+v) 0) ((gY x (qp x (x.cl.getD (1+v) 0))).cl.getD 0 0)) (c:=x.cl.getD (1+v) 0);have IH:p∈(List.foldl (λh p=>cf h (x.cl.getD (1+v) 0) p.l) (cf (gY x (qp x (x.cl.getD (1+v) 0))) (x.cl.getD (1+v) 0) ((gY x (qp x (x.cl.getD (1+v) 0))).cl.getD 0 0)) (gY x (qp x (x.cl.getD (1+v) 0))).ow).ow:=hp;rw[e]at IH;exact IH
 exact h p ((mo _ _).subset h1)⟩
theorem nA{f g:CF}(h:aj g)(hs:∀c∈bL g,c∈bL f):aw (aQ g)<=aw f:=by
 have:=ux h (S:=range (aw f)) (λc hc=>mem_range.2 (gO c (hs c hc)));simpa using this
theorem Qk{f g:CF}{a b:Nat}(h:aj g)(h5:f.cl.length=5)(ha:a∈bL f)(hb:b∈bL f)(se:a≠b)(hs:∀c∈bL g,c∈bL (mL f a b)):aw (aQ g)+1<=aw f:=by
 have h1:=ux h (S:=(range (aw f)).erase b) (λc hc=>by
  obtain⟨h1,h2⟩:=XU h5 (hs c hc);rw[List.Nodup.mem_erase_iff nodup_range,mem_range];refine⟨λe=>se (h2 e),?_⟩;rcases h1 with h1|rfl
  .exact gO c h1
  .exact gO c ha)
 rw[length_erase_of_mem (mem_range.2 (gO b hb)),length_range]at h1;have:=gO b hb;omega
theorem JO{α:Type}{g:α->Nat}{X:Nat}:∀(l:List α),(∀a∈l,g a<=X)->a7 g l<=l.length*X
 |[],_=>by simp[a7]
 |a::l,h=>by
  have h1:=h a (by simp);have h2:=JO l (λb hb=>h b (by simp[hb]));simp only[a7,length_cons,Nat.succ_mul];omega
theorem uG{a b:Nat}(h:a<=b):9 ^ a<=9 ^ b:=Nat.pow_le_pow_right (by omega) h
theorem uF{a b:Nat}(h:a<=b):2 ^ a<=2 ^ b:=Nat.pow_le_pow_right (by omega) h
theorem X6{nds:List Nd}{n m:Nat}{f g:CF}(h:n<=m)(hn:aw g<=aw f):ix nds m g<=ix nds n f :=
 Nat.mul_le_mul (uG (Nat.add_le_add hn (mT h))) (uF (mT h))
theorem Ws{nds:List Nd}{n m:Nat}{f g:CF}(h:n<=m)(hn:aw g+1<=aw f):9*ix nds m g<=ix nds n f:=by
 unfold ix;have h1:9*9 ^ (aw g+ub IQ nds m)<=9 ^ (aw f+ub IQ nds n):=by
  rw[Nat.mul_comm,<-Nat.pow_succ];exact uG (by have:=mT (P:=IQ) (nds:=nds) h;omega)
 rw[<-Nat.mul_assoc];exact Nat.mul_le_mul h1 (uF (mT h))
theorem abj{f:CF}(h:aj f):f.ow.length<=aw f:=by
 have:=List.Nodup.length_le_of_subset h.lf (l₂:=range (aw f)) (λc hc=>by
  obtain⟨p,hp,rfl⟩:=mem_map.1 hc;exact mem_range.2 (gO _ (zu hp).1))
 simpa using this
theorem zW.of{nds:List Nd}{n m:Nat}{f g:CF}(h:zW nds n f)(hm:n<=m)(hg:aj g)(hk:K3 g)(hn:aw (aQ g)<=aw f):zW nds m (aQ g):=⟨hg.tidy,hk.td,by have:=h.nm;have:=mT (P:=IQ) (nds:=nds) hm;omega⟩
theorem abe{nds:List Nd}{n m v:Nat}{f:CF}{G:CF->CF}(hv:v<4)(hm:n<=m)(h:zW nds n f)(hG:Opn v G):(∀g∈(bQ (cZ f v) G).nx,zW nds m g)/\a7 (ix nds m) (bQ (cZ f v) G).nx<=ix nds n f:=by
 have pq:=jV hv h.td.ok h.td.ln;show(∀g∈(cZ f v).1.map (λx=>aQ (G x)),_)/\a7 _ ((cZ f v).1.map (λx=>aQ (G x)))<=_;rcases abb h.k3 v with(e|e)|⟨hb,dN,hJ⟩
 .rw[e];exact⟨λg hg=>by simp at hg,by simp[a7]⟩
 .have hx:=pq f (by rw[e];simp);have hn:=nA (hG.ok hx) (hG.lv hx);rw[e];refine⟨λg hg=>?_,?_⟩
  .simp only[map_cons,map_nil,mem_singleton]at hg;subst hg;exact h.of hm (hG.ok hx) (hG.k3 h.k3) hn
  .simp only[map_cons,map_nil,a7,Nat.add_zero];exact X6 hm hn
 .have key:∀x∈(cZ f v).1,aw (aQ (G x))+1<=aw f/\K3 (G x)/\aj (G x):=by
   intro x hx;have ho:=pq x hx;obtain⟨i,hi,rfl⟩:=hJ x hx;refine⟨Qk (hG.ok ho) h.td.ok.c5 (Gu hi).1 (DG (by omega)) (λe=>pK hb _ (uD hi) e) (hG.lv ho),hG.k3 (h.k3.jo _ _),hG.ok ho⟩
  refine⟨λg hg=>?_,?_⟩
  .obtain⟨x,hx,rfl⟩:=mem_map.1 hg;obtain⟨k1,k2,k3⟩:=key x hx;exact h.of hm k3 k2 (by omega)
  .have h9:f.ow.length<=9:=(by have:=abj h.td.ok;have:=h.nm;omega);obtain⟨X,hX⟩:∃X,X=ix nds n f / 9:=⟨_,rfl⟩;have h1:=JO (g:=ix nds m) (X:=X) ((cZ f v).1.map (λx=>aQ (G x))) (λg hg=>by
    obtain⟨x,hx,rfl⟩:=mem_map.1 hg;have:=Ws (nds:=nds) hm (key x hx).1;omega)
   rw[length_map]at h1;have h2:(cZ f v).1.length*X<=9*X:=Nat.mul_le_mul_right _ (by omega);omega
theorem Ec{α:Type}(g:α->Nat):∀(a b:List α),a7 g (a++b)=a7 g a+a7 g b
 |[],b=>by simp[a7]
 |x::a,b=>by simp only[cons_append,a7,Ec g a b];omega
theorem Ry{α:Type}(g:α->Nat){a b:List α}(h:a.Sublist b):a7 g a<=a7 g b:=by
 induction h with
 |slnil=>exact zq4 _
 |cons x _ ih=>simp only[a7];omega
 |cons_cons x _ ih=>simp only[a7];omega
structure YJ(nds:List Nd)(n:Nat)(f:CF)(o:MV):Prop where
 nx:∀g∈o.nx,zW nds (nds.getD n aI).nx g
 ot:∀g∈o.ot,zW nds (nds.getD n aI).ot g
 w:a7 (ix nds (nds.getD n aI).nx) o.nx+a7 (ix nds (nds.getD n aI).ot) o.ot<=ix nds n f
structure Fwd(nds:List Nd):Prop where
 v:∀n,(nds.getD n aI).v<4/\(nds.getD n aI).ai<4
 nx:∀n,n<nds.length->(nds.getD n aI).op≠0->n<(nds.getD n aI).nx
 ot:∀n,n<nds.length->xU (nds.getD n aI)=true->n<(nds.getD n aI).ot
theorem ach{nds:List Nd}{n m k:Nat}{f g h:CF}(hn:n<nds.length)(ht:xU (nds.getD n aI)=true)(hm:n<m)(hk:n<k)(hg:aw g<=aw f)(hh:aw h<=aw f):ix nds m g+ix nds k h<=ix nds n f:=by
 have one:∀{m:Nat} {g:CF},n<m->aw g<=aw f->2*ix nds m g<=ix nds n f:=fun {m g} hm hg=>by
  unfold ix;have h1:=uG (show aw g+ub IQ nds m<=aw f+ub IQ nds n by have:=mT (P:=IQ) (nds:=nds) (Nat.le_of_lt hm);omega);have h2:2*2 ^ (ub xU nds m)<=2 ^ (ub xU nds n):=by
   rw[Nat.mul_comm,<-Nat.pow_succ];exact uF (ND hn hm ht)
  calc 2*(9 ^ (aw g+ub IQ nds m)*2 ^ (ub xU nds m))=9 ^ (aw g+ub IQ nds m)*(2*2 ^ (ub xU nds m)):=by rw[Nat.mul_left_comm]
   _<=_:=Nat.mul_le_mul h1 h2
 have h1:=one hm hg;have h2:=one hk hh;omega
theorem aeH{nds:List Nd}(hF:Fwd nds){n:Nat}(hn:n<nds.length){f:CF}(h:zW nds n f):YJ nds n f (cj (nds.getD n aI) f):=by
 obtain⟨hv,ha⟩:=hF.v n;have vX:=hF.nx n hn;have Mr:=hF.ot n hn;obtain⟨nd,dF⟩:∃nd,nd=nds.getD n aI:=⟨_,rfl⟩;have h5:=h.td.ok.c5;have keep:∀{m:Nat} {g:CF},n<=m->aj g->K3 g->(∀c∈bL g,c∈bL f)->zW nds m (aQ g)/\ix nds m (aQ g)<=ix nds n f:=λhm hg hk hl =>
  ⟨h.of hm hg hk (nA hg hl),X6 hm (nA hg hl)⟩
 have one:∀{g:CF},(nds.getD n aI).op≠0->aj g->K3 g->(∀c∈bL g,c∈bL f)->YJ nds n f ⟨[aQ g],[],false,false,false⟩:=λho hg hk hl=>by
  obtain⟨k1,k2⟩:=keep (Nat.le_of_lt (vX ho)) hg hk hl;exact⟨λx hx=>by simp only[mem_singleton]at hx;subst hx;exact k1,λx hx=>by simp at hx,by simp only[a7,Nat.add_zero];exact k2⟩
 have opn:∀{v:Nat} {G:CF->CF},(nds.getD n aI).op≠0->v<4->Opn v G->YJ nds n f (bQ (cZ f v) G):=λho hv hG=>by
  obtain⟨k1,k2⟩:=abe hv (Nat.le_of_lt (vX ho)) h hG;exact⟨k1,λx hx=>by simp[bQ]at hx,by show _+a7 _ ([]:List CF)<=_;simp only[a7,Nat.add_zero];exact k2⟩
 have hjo:∀{a b:Nat},a∈bL f->aV f a b=false->aj (mL f a b)/\K3 (mL f a b)/\∀c∈bL (mL f a b),c∈bL f:=fun {a b} Iz hd=>⟨h.td.ok.jo (by have:=gO _ Iz;have:=h.nm;omega) (im hd),h.k3.jo _ _,λc hc=>by
  rcases(XU h5 hc).1 with hc|rfl
  .exact hc
  .exact Iz⟩
 have test:∀{x y:List CF} {m k:Nat},xU (nds.getD n aI)=true->n<m->n<k->(x=[]\/∃g,x=[aQ g]/\aj g/\K3 g/\∀c∈bL g,c∈bL f)->(y=[]\/∃g,y=[aQ g]/\aj g/\K3 g/\∀c∈bL g,c∈bL f)->(∀g∈x,zW nds m g)/\(∀g∈y,zW nds k g)/\a7 (ix nds m) x+a7 (ix nds k) y<=ix nds n f:=by
  intro x y m k ht hm hk hx hy;rcases hx with rfl|⟨g,rfl,g1,g2,g3⟩
  .rcases hy with rfl|⟨g',rfl,g1',g2',g3'⟩
   .exact⟨λz hz=>by simp at hz,λz hz=>by simp at hz,by simp[a7]⟩
   .obtain⟨k1,k2⟩:=keep (Nat.le_of_lt hk) g1' g2' g3';exact⟨λz hz=>by simp at hz,λz hz=>by rw[mem_singleton]at hz;subst hz;exact k1,by simp only[a7,Nat.add_zero,Nat.zero_add];exact k2⟩
  .rcases hy with rfl|⟨g',rfl,g1',g2',g3'⟩
   .obtain⟨k1,k2⟩:=keep (Nat.le_of_lt hm) g1 g2 g3;exact⟨λz hz=>by rw[mem_singleton]at hz;subst hz;exact k1,λz hz=>by simp at hz,by simp only[a7,Nat.add_zero];exact k2⟩
   .obtain⟨k1,-⟩:=keep (Nat.le_of_lt hm) g1 g2 g3;obtain⟨k1',-⟩:=keep (Nat.le_of_lt hk) g1' g2' g3';exact⟨λz hz=>by rw[mem_singleton]at hz;subst hz;exact k1,λz hz=>by rw[mem_singleton]at hz;subst hz;exact k1',by simp only[a7,Nat.add_zero];exact ach hn ht hm hk (nA g1 g3) (nA g1' g3')⟩
 have self:∃g,[aQ f]=[aQ g]/\aj g/\K3 g/\∀c∈bL g,c∈bL f:=⟨f,rfl,h.td.ok,h.k3,λc hc=>hc⟩;have cm1:(mt f nd).1=[]\/∃g,(mt f nd).1=[aQ g]/\aj g/\K3 g/\∀c∈bL g,c∈bL f:=by
  simp only[mt];split
  .exact zq0 rfl
  .rename_i hd;exact zq1 ⟨_,rfl,hjo (DG (by rw[dF];omega)) (by simpa using hd)⟩
 have cm2:(mt f nd).2=[]\/∃g,(mt f nd).2=[aQ g]/\aj g/\K3 g/\∀c∈bL g,c∈bL f:=by
  simp only[mt];split
  .exact zq0 rfl
  .exact zq1 ⟨_,rfl,h.td.ok.pa (h.td.ok.get _) (h.td.ok.cT _ _),h.k3,λc hc=>hc⟩
 rw[<-dF]at hv ha vX Mr one opn test ⊢;have UF:nd.op≠0->n<nd.nx:=vX;unfold cj;split
 .exact⟨λx hx=>by simp[wJ]at hx,λx hx=>by simp[wJ]at hx,by simp[wJ,a7]⟩
 .rename_i h0;split
  .exact one h0 (h.td.ok.sC _ (h.td.ok.cT _ _)) h.k3 (λc hc=>by
    rcases Bj h5 hc with hc|rfl
    .exact hc
    .exact Nv ha)
  .split
   .exact opn h0 ha abf
   .split
    .exact opn h0 hv (abh ha)
    .split
     .rename_i h4;split
      .exact⟨λx hx=>by simp at hx,λx hx=>by simp at hx,by simp[a7]⟩
      .rename_i hN;have O8:=rQ (v:=nd.v) h.td.ok (by omega);have au:=UF h0;have IB:=ND (P:=IQ) hn au (by rw[<-dF];simpa[IQ] using h4);have Cr:aw (aQ (Et f nd.v))<=aw f+1:=by
        have:=ux O8 (S:=range (aw f+1)) (λc hc=>by
         rw[mem_range];rcases Bj (f:=md f ⟨3,aw f,f.cl.getD 0 0⟩) h5 hc with hc|rfl
         .rcases aaX h5 hc with hc|rfl|rfl
          .have:=gO c hc;omega
          .exact Nat.lt_succ_self _
          .have:=gO _ (DG (f:=f) (i:=0) (by omega));show f.cl.getD 0 0<aw f+1;omega
         .exact Nat.lt_succ_self _)
        simpa using this
       have hk:K3 (Et f nd.v):=by
        intro p hp;rcases mem_append.1 hp with hp|hp
        .exact h.k3 p hp
        .rw[mem_singleton]at hp;subst hp;rfl
       have arT:=h.nm;refine⟨λx hx=>?_,λx hx=>by simp at hx,?_⟩
       .simp only[mem_singleton]at hx;subst hx;exact⟨O8.tidy,hk.td,by rw[<-dF];omega⟩
       .simp only[a7,Nat.add_zero];rw[<-dF];exact Nat.mul_le_mul (uG (by omega)) (uF (mT (Nat.le_of_lt au)))
     .split
      .exact opn h0 hv (abg nd.v)
      .split
       .rename_i h7;have ht:xU nd=true:=(by simp[xU,h7]);obtain⟨k1,k2,k3⟩:=test ht (UF h0) (Mr ht) (zq1 self) (zq1 self);exact⟨by rw[<-dF];exact k1,by rw[<-dF];exact k2,by rw[<-dF];exact k3⟩
       .split
        .rename_i h8;have ht:xU nd=true:=(by simp[xU,h8]);obtain⟨k1,k2,k3⟩:=test ht (UF h0) (Mr ht) cm1 cm2;exact⟨by rw[<-dF];exact k1,by rw[<-dF];exact k2,by rw[<-dF];exact k3⟩
        .split
         .rename_i h9;have ht:xU nd=true:=(by simp[xU,h9]);obtain⟨k1,k2,k3⟩:=test ht (UF h0) (Mr ht) cm2 cm1;exact⟨by rw[<-dF];exact k1,by rw[<-dF];exact k2,by rw[<-dF];exact k3⟩
         .exact one h0 h.td.ok h.k3 (λc hc=>hc)
