import Derived.Test.YtciihepbeacppaaGreatM24
set_option maxRecDepth 100000
set_option maxHeartbeats 0
namespace Go.Proofs.YtciihepbeacppaaGreat
open Tryz Go.RowKit List World Below
set_option linter.unusedVariables false
section
variable {c:Cd} {N n:Nat} {f:CF} {s:Sr}
theorem Mq(b:Bool)(hs:mA N s):nA s (fuS b s)/\mA N (fuS b s)/\(Sf (fuS b s)->b=false):=by
 refine⟨⟨λh=>?_,λ_ _ h=>h,λ_ _ _ _ h=>h⟩,⟨hs.kn,hs.wr,hs.rw,hs.td⟩,λh=>?_⟩
 .show(s.fu||b)=true;rw[h];rfl
 .have h1:(s.fu||b)=false:=h.1;rw[Bool.or_eq_false_iff]at h1;exact h1.2
theorem Z7{fuel:Nat}(hN:c.nds.length=N)(hO:J9 c.nds)(hn:n<N)(hf:Td f)(hs:mA N s):nA s (qB c fuel n f s)/\mA N (qB c fuel n f s)/\(Sf (qB c fuel n f s)->Wq c (qB c fuel n f s) n f):=by
 obtain⟨hv,ha⟩:=hO.v n;obtain⟨t1,t2⟩:=pG hv ha hf;have gz:n<c.nds.length:=by rw[hN];exact hn
 have aT:(d7 (c.nds.getD n bj) f).nx≠[]->(c.nds.getD n bj).nx<N:=λh=>by rw[<-hN];exact hO.nx n gz (Dy h)
 have CS:(d7 (c.nds.getD n bj) f).ot≠[]->(c.nds.getD n bj).ot<N:=λh=>by rw[<-hN];exact hO.ot n gz (Dz h)
 unfold qB;simp only;obtain⟨a1,a2,a3⟩:=md (b:=decide ((c.nds.getD n bj).op=0)&&!decide (fJ f=[])) (k:=2) hs hn (by omega);obtain⟨b1,b2,b3⟩:=md (b:=(d7 (c.nds.getD n bj) f).nu) (k:=3) a2 hn (by omega);obtain⟨d1,d2,d3⟩:=md (b:=(d7 (c.nds.getD n bj) f).da) (k:=4) b2 hn (by omega);obtain⟨e1,e2,e3⟩:=Mq (d7 (c.nds.getD n bj) f).fu d2;obtain⟨g1,g2,g3⟩:=xR (c:=c) (fuel:=fuel) (b:=(c.nds.getD n bj).nx) hn (d7 (c.nds.getD n bj) f).nx aT t1 e2;obtain⟨k1,k2,k3⟩:=xR (c:=c) (fuel:=fuel) (b:=(c.nds.getD n bj).ot) hn (d7 (c.nds.getD n bj) f).ot CS t2 g2;have Gn:=g1.trans k1;refine⟨a1.trans (b1.trans (d1.trans (e1.trans Gn))),k2,λhS=>?_⟩;have S3:=k1.sf hS;have S2:=g1.sf S3;have Sd:=e1.sf S2;have Sb:=d1.sf Sd;have Sa:=b1.sf Sb;refine⟨b3 (by omega) Sb,d3 (by omega) Sd,e3 S2,λh0=>?_,λg hg cs t hc jB=>k1.kn _ _ _ hc (g3 S3 g hg cs t hc jB),λg hg cs t hc jB=>k3 hS g hg cs t hc jB⟩;have:=a3 (by omega) Sa;rw[decide_eq_true h0,Bool.true_and]at this;simpa using this
def Ik(c:Cd)(s:Sr)(n0:Nat)(R:List CF):Prop:=∀n,∀e∈bN s n,e.d=true->Wq c s n e.f\/(n=n0/\e.f∈R)
def iN(s s':Sr):Prop:=∀n,∀e∈bN s' n,e.d=true->e∈bN s n
theorem iN.refl(s:Sr):iN s s:=λ_ _ h _=>h
theorem iN.trans{a b c:Sr}(h:iN a b)(h':iN b c):iN a c:=λn e he hd=>h n e (h' n e he hd) hd
theorem BF{n:Nat}{f:CF}{s:Sr}(hn:n<s.kn.length):iN s (bQ c n f s):=by
 unfold bQ;split
 .exact iN.refl s
 .intro m e he hd;have hkA:bN (re c (oy n (layN c n f) (ng c s (2*(bN s n).length)))) m=if n=m then (bN s n).filter (λe=>!C3 e.f (layN c n f))++[⟨layN c n f,false⟩] else bN s m:=tH hn m
  rw[hkA]at he;by_cases e0:n=m
  .subst e0;rw[if_pos rfl]at he;rcases mem_append.1 he with he|he
   .exact(mem_filter.1 he).1
   .rw[mem_singleton.1 he]at hd;cases hd
  .rw[if_neg e0]at he;exact he
theorem BD{n:Nat}:∀(l:List CF) {s:Sr},c9 l->mA N s->n<N->iN s (l.foldl (λs g=>bQ c n g s) s)
 |[],s,_,_,_=>iN.refl s
 |g::l,s,hl,h,hn=>by
  rw[foldl_cons];obtain⟨-,h2,-⟩:=yU (c:=c) (hl g (by simp)) h hn;exact(BF (by rw[h.kn];exact hn)).trans (BD l (λx hx=>hl x (by simp[hx])) h2 hn)
theorem FC{fuel a b:Nat}(hf:Td f)(hs:mA N s)(ha:a<N)(hb:b<N):iN s (eo c fuel a b f s):=by
 unfold eo;split
 .exact BF (by rw[hs.kn];exact hb)
 .simp only;obtain⟨-,g2⟩:=Fb hs ha (k:=2) (by omega);obtain⟨k1,k2,k3⟩:=mY (c:=c) fuel 0 (res:=[]) (r:=([f],mf a 2 s)) (λg hg=>by rw[mem_singleton.1 hg];exact hf) (λg hg=>by simp at hg);have hS:mA N (iR c fuel 0 [] ([f],mf a 2 s)).2:=⟨by rw[k2];exact g2.kn,by rw[k3];exact g2.wr,λr hr=>by rw[k3]at hr;exact g2.rw r hr,λl hl=>by rw[k2]at hl;exact g2.td l hl⟩;refine iN.trans (b:=(iR c fuel 0 [] ([f],mf a 2 s)).2) (λm e he _=>?_) (BD _ k1 hS hb);unfold bN at he ⊢;rw[k2]at he;exact he
theorem xS{fuel a b:Nat}(ha:a<N):∀(l:List CF) {s:Sr},(l≠[]->b<N)->c9 l->mA N s->iN s (l.foldl (λs g=>eo c fuel a b g s) s)
 |[],s,_,_,_=>iN.refl s
 |g::l,s,hb,hl,h=>by
  rw[foldl_cons];have hbN:=hb (by simp);obtain⟨-,h2,-⟩:=Di (c:=c) (fuel:=fuel) (hl g (by simp)) h ha hbN;exact(FC (hl g (by simp)) h ha hbN).trans (xS ha l (λ_=>hbN) (λx hx=>hl x (by simp[hx])) h2)
theorem zD(b:Bool)(n k:Nat)(s:Sr):iN s (wrI b n k s):=λm e he _=>by
 unfold bN at he ⊢;rw[ny]at he;exact he
theorem Un{fuel:Nat}(hN:c.nds.length=N)(hO:J9 c.nds)(hn:n<N)(hf:Td f)(hs:mA N s):iN s (qB c fuel n f s):=by
 obtain⟨hv,ha⟩:=hO.v n;obtain⟨t1,t2⟩:=pG hv ha hf;have gz:n<c.nds.length:=by rw[hN];exact hn
 have aT:(d7 (c.nds.getD n bj) f).nx≠[]->(c.nds.getD n bj).nx<N:=λh=>by rw[<-hN];exact hO.nx n gz (Dy h)
 have CS:(d7 (c.nds.getD n bj) f).ot≠[]->(c.nds.getD n bj).ot<N:=λh=>by rw[<-hN];exact hO.ot n gz (Dz h)
 unfold qB;simp only;obtain⟨-,a2,-⟩:=md (b:=decide ((c.nds.getD n bj).op=0)&&!decide (fJ f=[])) (k:=2) hs hn (by omega);obtain⟨-,b2,-⟩:=md (b:=(d7 (c.nds.getD n bj) f).nu) (k:=3) a2 hn (by omega);obtain⟨-,d2,-⟩:=md (b:=(d7 (c.nds.getD n bj) f).da) (k:=4) b2 hn (by omega);obtain⟨-,e2,-⟩:=Mq (d7 (c.nds.getD n bj) f).fu d2;obtain⟨-,g2,-⟩:=xR (c:=c) (fuel:=fuel) (b:=(c.nds.getD n bj).nx) hn (d7 (c.nds.getD n bj) f).nx aT t1 e2;refine iN.trans ?_ (xS hn _ CS t2 g2);refine iN.trans ?_ (xS hn _ aT t1 e2);refine iN.trans (b:=wrI (d7 (c.nds.getD n bj) f).da n 4 (wrI (d7 (c.nds.getD n bj) f).nu n 3 (wrI (decide ((c.nds.getD n bj).op=0)&&!decide (fJ f=[])) n 2 s))) ?_ (λm e he _=>he);exact(zD _ _ _ _).trans ((zD _ _ _ _).trans (zD _ _ _ _))
theorem Ik.old{s':Sr}{n0:Nat}{R:List CF}(h:Ik c s n0 R)(ho:iN s s')(hl:nA s s'):Ik c s' n0 R:=λn e he hd=>by
 rcases h n e (ho n e he hd) hd with h1|h1
 .exact zq0 (h1.mono hl)
 .exact zq1 h1
theorem Py{fuel:Nat}(hN:c.nds.length=N)(hO:J9 c.nds)(hn:n<N):∀(l:List CF) {s:Sr},c9 l->mA N s->nA s (pu c fuel n l s)/\mA N (pu c fuel n l s)/\(Sf (pu c fuel n l s)->Ik c s n l->Ik c (pu c fuel n l s) n [])
 |[],s,_,h=>⟨nA.refl s,h,λ_ h=>h⟩
 |f::r,s,hl,h=>by
  unfold pu;split
  .rename_i dM;exact⟨nA.refl s,h,λhS=>by rw[hS.1]at dM;cases dM⟩
  .obtain⟨h1,h2,h3⟩:=Z7 (fuel:=fuel) hN hO hn (hl f (by simp)) h;obtain⟨h4,h5,h6⟩:=Py hN hO hn r (λx hx=>hl x (by simp[hx])) h2;refine⟨h1.trans h4,h5,λhS hJ=>h6 hS ?_⟩;intro m e he hd;rcases hJ.old (Un hN hO hn (hl f (by simp)) h) h1 m e he hd with g|⟨g1,g2⟩
   .exact zq0 g
   .rcases mem_cons.1 g2 with g2|g2
    .left;rw[g1,g2];exact h3 (h4.sf hS)
    .exact zq1 ⟨g1,g2⟩
theorem Ik.nil{n0 n1:Nat}(h:Ik c s n0 []):Ik c s n1 []:=λn e he hd=>by
 rcases h n e he hd with g|⟨-,g⟩
 .exact zq0 g
 .simp at g
theorem aaf{fuel:Nat}(hN:c.nds.length=N)(hO:J9 c.nds)(hn:n<N)(h:mA N s):nA s (uD c fuel n s)/\mA N (uD c fuel n s)/\(Sf (uD c fuel n s)->Ik c s n []->Ik c (uD c fuel n s) n []):=by
 have fC:n<s.kn.length:=by rw[h.kn];exact hn
 obtain⟨s0,Gs⟩:∃s0:Sr,s0={ s with kn:=s.kn.set n ((bN s n).map (λe:gC=>(⟨e.f,true⟩:gC))) }:=⟨_,rfl⟩;have hkA:∀m,bN s0 m=if n=m then (bN s n).map (λe=>⟨e.f,true⟩) else bN s m:=λm=>by rw[Gs];exact tH fC m
 have hL:nA s s0:=by
  refine⟨λh=>by rw[Gs];exact h,λm k h=>by rw[Gs];exact h,λm cs t _ hk=>?_⟩;obtain⟨e,he,hf⟩:=hk;unfold Db;rw[hkA];by_cases e0:n=m
  .subst e0;rw[if_pos rfl];exact⟨⟨e.f,true⟩,mem_map.2 ⟨e,he,rfl⟩,hf⟩
  .rw[if_neg e0];exact⟨e,he,hf⟩
 have Yg:mA N s0:=by
  rw[Gs];refine⟨by show(s.kn.set n _).length=N;rw[length_set];exact h.kn,h.wr,h.rw,λl hl e he=>?_⟩;rcases mem_or_eq_of_mem_set (show l∈s.kn.set n _ from hl) with h1|rfl
  .exact h.td l h1 e he
  .obtain⟨x,hx,rfl⟩:=mem_map.1 he;exact h.td.at n x hx
 have f7:c9 (lN (bN s n)):=λg hg=>by
  obtain⟨e,he,rfl⟩:=mem_map.1 hg;exact h.td.at n e (mem_filter.1 he).1
 obtain⟨h1,h2,h3⟩:=Py (fuel:=fuel) hN hO hn (lN (bN s n)) f7 Yg;have e1:uD c fuel n s=pu c fuel n (lN (bN s n)) s0:=by rw[Gs];rfl
 rw[e1];refine⟨hL.trans h1,h2,λhS hJ=>h3 hS ?_⟩;intro m e he hd;rw[hkA]at he;by_cases e0:n=m
 .subst e0;rw[if_pos rfl]at he;obtain⟨x,hx,rfl⟩:=mem_map.1 he;cases hxd:x.d with
  |true =>
   rcases hJ n x hx hxd with g|⟨-,g⟩
   .exact zq0 (g.mono hL)
   .simp at g
  |false=>exact zq1 ⟨rfl,mem_map.2 ⟨x,mem_filter.2 ⟨hx,by simp[hxd]⟩,rfl⟩⟩
 .rw[if_neg e0]at he;rcases hJ m e he hd with g|⟨-,g⟩
  .exact zq0 (g.mono hL)
  .simp at g
theorem Hh{fuel:Nat}(hN:c.nds.length=N)(hO:J9 c.nds):∀(k:Nat) {s:Sr},mA N s->nA s (qa c fuel k s)/\mA N (qa c fuel k s)/\((qa c fuel k s).ok=true->Sf (qa c fuel k s)->Ik c s 0 []->∀n,∀e∈bN (qa c fuel k s) n,Wq c (qa c fuel k s) n e.f)
 |0,s,h=>⟨⟨λh=>h,λ_ _ h=>h,λ_ _ _ _ h=>h⟩,⟨h.kn,h.wr,h.rw,h.td⟩,λaY=>by cases aY⟩
 |k+1,s,h=>by
  unfold qa;split
  .rename_i hp;refine⟨nA.refl s,h,λ_ _ hJ n e he=>?_⟩;have hd:e.d=true:=by
    unfold JK at hp;rw[findIdx?_eq_none_iff]at hp;unfold bN at he;obtain⟨y,hy,hey⟩:∃y∈s.kn,e∈y:=by
     rw[getD_eq_getElem?_getD]at he;cases hg:s.kn[n]? with
     |none=>rw[hg]at he;simp at he
     |some y=>rw[hg]at he;exact⟨y,mem_of_getElem? hg,he⟩
    have:=hp y hy;rw[any_eq_false]at this;have:=this e hey;simpa using this
   rcases hJ n e he hd with g|⟨-,g⟩
   .exact g
   .simp at g
  .rename_i n hp;have hn:n<N:=by
    unfold JK at hp;obtain⟨h1,-⟩:=findIdx?_eq_some_iff_getElem.1 hp;rw[<-h.kn];exact h1
   split
   .rename_i dM;exact⟨nA.refl s,h,λ_ hS=>by rw[hS.1]at dM;cases dM⟩
   .obtain⟨h1,h2,h3⟩:=aaf (fuel:=fuel) hN hO hn h;obtain⟨h4,h5,h6⟩:=Hh (fuel:=fuel) hN hO k h2;exact⟨h1.trans h4,h5,λaY hS hJ=>h6 aY hS (h3 (h4.sf hS) hJ.nil).nil⟩
theorem Uh(nds:List Nd):mA nds.length (l5 nds):=by
 refine⟨by simp[l5],by simp[l5],λr hr=>?_,λl hl e he=>?_⟩
 .have:=eq_of_mem_replicate (show r∈replicate nds.length (replicate 5 false) from hr);rw[this];simp
 .have:=eq_of_mem_replicate (show l∈replicate nds.length ([]:List gC) from hl);rw[this]at he;simp at he
theorem Z4(nds:List Nd)(n:Nat):bN (l5 nds) n=[]:=by
 unfold bN l5;rw[getD_eq_getElem?_getD,getElem?_replicate];split <;> rfl
end
def IsL(B:Nat)(w:World)(X:Nat)(ws:List ByteArray)(s:PS)(al:List bt):Prop :=
 ∃Q,w.heap[X]?=some (.cells #[.pointer (some ⟨Q,0,none⟩),.pointer none] 88 (0,0))/\B<=X/\Xd B w Q ws s al
theorem Xd.alloc{B:Nat}{w:World}{Q:Nat}{ws:List ByteArray}{s:PS}{al:List bt}(h:Xd B w Q ws s al)(o:Obj):Xd B (w.alloc o) Q ws s al:=by
 obtain⟨vv,pv,nv,h0,hB,h1,h2,h3⟩:=h;exact⟨vv,pv,nv,by rw[heap_alloc _ _ _ (Array.getElem?_eq_some_iff.1 h0).1];exact h0,hB,h1.alloc o,h2.alloc o,h3.alloc o⟩
theorem NX(s:ByteArray)(w:World)(hs:s.size<=20000):
  Calls prog 25 #[.string s] w λe w'=>Below w.heap.size w w' /\
   ((lY s.data.toList≠0/\e=.returned (.tuple #[.pointer none,.int .i64 (lY s.data.toList)])) \/
    (lY s.data.toList=0/\∃X,e=.returned (.tuple #[.pointer (some ⟨X,0,none⟩),.int .i64 0])/\IsL w.heap.size w' X (gY s.data.toList) (dI s.data.toList) (gb (gY s.data.toList) a9))):=by
 go_enter func25,ntmps25;go_wp2_with fail
 refine(OO s w hs).mono ?_;rintro e w1 ⟨bP,(⟨aM,rfl⟩|⟨h0,Q,rfl,hc⟩)⟩
 .have VC:(((lY s.data.toList:Nat):Int) != 0)=true:=by rw[bne_iff_ne];omega
  have HN:=ab aM;clear aM;go_wp2_with fail
  go_ret2;exact⟨bP,zq0 ⟨uh HN,rfl⟩⟩
 .have H0:=ab h0;have HC:=ab hc;clear h0 hc;go_wp2_with fail
  go_ret2;have hz:=bP.size;exact⟨bP.alloc hz _,zq1 ⟨uh H0,w1.heap.size,rfl,Q,heap_alloc_new w1 _,hz,(uh HC).alloc _⟩⟩
def Rd(ws:List ByteArray)(s:PS)(r:List ByteArray):Prop:=s.failed=false/\ws.drop s.pos=r/\s.pos<=ws.length
def Res(ws:List ByteArray)(s:PS):Option (List ByteArray)->Prop
 |none=>s.failed=true
 |some r=>Rd ws s r
structure ss(ws:List ByteArray)(F:PS->PS)(f:List ByteArray->Option (List ByteArray)):Prop where
 ok:∀s r,Rd ws s r->Res ws (F s) (f r)
 bad:∀s,s.failed=true->(F s).failed=true
 nd:∀s,(F s).nodes=s.nodes
def P9(k:ByteArray):List ByteArray->Bool
 |[]=>false
 |x::_=>eqW x k
def pEx(k:ByteArray):List ByteArray->Option (List ByteArray)
 |[]=>none
 |x::r=>if eqW x k then some r else none
theorem OB{ws:List ByteArray}{s:PS}{x:ByteArray}{r:List ByteArray}(h:Rd ws s (x::r)):pk ws s=x:=by
 unfold pk;rw[if_neg (by simp[h.1])];have:ws[s.pos]?=some x:=by rw[<-head?_drop,h.2.1];rfl
 rw[this];rfl
theorem EL{ws:List ByteArray}{s:PS}(h:Rd ws s []):pk ws s=⟨#[]⟩:=by
 apply EK;have:=congrArg List.length h.2.1;simp only[length_drop,length_nil]at this;omega
theorem jS{ws:List ByteArray}{s:PS}{x:ByteArray}{r:List ByteArray}(h:Rd ws s (x::r)):Rd ws s.adv r :=
 ⟨h.1,by show ws.drop (s.pos+1)=r;rw[<-drop_drop,h.2.1];rfl,by
  have:=congrArg List.length h.2.1;simp only[length_drop,length_cons]at this;show s.pos+1<=ws.length;omega⟩
theorem Vl:(⟨#[]⟩:ByteArray).toList=[]:=ByteArray.toList_eq _
theorem KU{ws:List ByteArray}{s:PS}{k:ByteArray}{r:List ByteArray}(hk:k.toList≠[])(h:Rd ws s r):em ws k s=P9 k r:=by
 cases r with
 |nil=>unfold em;rw[EL h,Vl];cases Gl:k.toList with
  |nil=>exact absurd Gl hk
  |cons _ _=>rfl
 |cons x r=>unfold em;rw[OB h];rfl
theorem Ft{ws:List ByteArray}{s:PS}{k:ByteArray}(hk:k.toList≠[])(h:s.failed=true):em ws k s=false:=by
 unfold em;rw[jH h,Vl];cases Gl:k.toList with
  |nil=>exact absurd Gl hk
  |cons _ _=>rfl
theorem ss.comp{ws:List ByteArray}{F G:PS->PS}{f g:List ByteArray->Option (List ByteArray)}(hF:ss ws F f)(hG:ss ws G g):ss ws (λs=>G (F s)) (λr=>(f r).bind g):=by
 refine⟨λs r h=>?_,λs h=>hG.bad _ (hF.bad _ h),λs=>(hG.nd _).trans (hF.nd s)⟩;have:=hF.ok s r h;cases hf:f r with
 |none=>rw[hf]at this;exact hG.bad _ this
 |some r'=>rw[hf]at this;exact hG.ok _ _ this
theorem ss.ite{ws:List ByteArray}{A B:PS->PS}{a b:List ByteArray->Option (List ByteArray)}{k:ByteArray}(hk:k.toList≠[])(hA:∀s x r,Rd ws s (x::r)->Res ws (A s) (a (x::r)))(hN:∀s,(A s).nodes=s.nodes)(hB:ss ws B b):ss ws (λs=>if em ws k s then A s else B s) (λr=>if P9 k r then a r else b r):=by
 refine⟨λs r h=>?_,λs h=>?_,λs=>by split;exact hN s;exact hB.nd s⟩
 .rw[KU hk h];cases r with
  |nil=>simp only[P9,Bool.false_eq_true,if_false];exact hB.ok _ _ h
  |cons x r =>
   split
   .exact hA _ _ _ h
   .exact hB.ok _ _ h
 .rw[Ft hk h];exact hB.bad _ h
theorem tV{ws:List ByteArray}{k:ByteArray}(hk:k.toList≠[]):ss ws (bB ws k) (pEx k):=by
 refine⟨λs r h=>?_,λs h=>?_,λs=>by unfold bB;split <;> rfl⟩
 .unfold bB;rw[KU hk h];cases r with
  |nil=>simp[P9,pEx,Res,PS.fail]
  |cons x r =>
   show Res ws (if eqW x k=true then s.adv else s.fail) (if eqW x k=true then some r else none);by_cases hx:eqW x k=true
   .rw[if_pos hx,if_pos hx];exact jS h
   .rw[if_neg hx,if_neg hx];rfl
 .unfold bB;rw[Ft hk h];simp[PS.fail]
def pVa:List ByteArray->Option (List ByteArray)
 |[]=>none
 |x::r=>if tK x then some r else none
theorem GP:tK ⟨#[]⟩=false:=rfl
theorem Pt:Ps ⟨#[]⟩=false:=rfl
theorem ZN{ws:List ByteArray}:ss ws (cG ws) pVa:=by
 refine⟨λs r h=>?_,λs h=>?_,λs=>by unfold cG;split <;> rfl⟩
 .unfold cG;cases r with
  |nil=>rw[EL h,GP];simp[pVa,Res,PS.fail]
  |cons x r =>
   rw[OB h];simp only[pVa];split
   .exact⟨h.1,(jS h).2⟩
   .simp[Res,PS.fail]
 .unfold cG;rw[jH h,GP];simp[PS.fail]
theorem Zj:vK.toList≠[]:=by rw[ByteArray.toList_eq];simp[vK]
theorem ae2:om.toList≠[]:=by rw[ByteArray.toList_eq];simp[om]
theorem ae4:BC.toList≠[]:=by rw[ByteArray.toList_eq];simp[BC]
theorem ae5:kTo.toList≠[]:=by rw[ByteArray.toList_eq];simp[kTo]
theorem Tf:fI.toList≠[]:=by rw[ByteArray.toList_eq];simp[fI]
theorem BB:tG.toList≠[]:=by rw[ByteArray.toList_eq];simp[tG]
theorem Bz:jh.toList≠[]:=by rw[ByteArray.toList_eq];simp[jh]
theorem Zi:yQ.toList≠[]:=by rw[ByteArray.toList_eq];simp[yQ]
theorem ae3:Qm.toList≠[]:=by rw[ByteArray.toList_eq];simp[Qm]
theorem Tg:fi.toList≠[]:=by rw[ByteArray.toList_eq];simp[fi]
def afe(r:List ByteArray):Option (List ByteArray):=if P9 vK r then some r.tail else pVa r
theorem rR{ws:List ByteArray}:ss ws (dS ws) afe:=ss.ite Zj (λ_ _ _ h=>jS h) (λ_=>rfl) ZN
def pTe:List ByteArray->Option (List ByteArray)
 |[]=>none
 |x::r=>if Ps x then some r else afe (x::r)
theorem tW{ws:List ByteArray}:ss ws (kD ws) pTe:=by
 refine⟨λs r h=>?_,λs h=>?_,λs=>by unfold kD;split;rfl;exact rR.nd s⟩
 .unfold kD;cases r with
  |nil=>rw[EL h,Pt];exact rR.ok _ _ h
  |cons x r =>
   rw[OB h];simp only[pTe];cases hx:Ps x with
   |true=>exact⟨h.1,(jS h).2⟩
   |false=>exact rR.ok _ _ h
 .unfold kD;rw[jH h,Pt];exact rR.bad _ h
def afd(r:List ByteArray):Option (List ByteArray):=if P9 om r then some r.tail else if P9 BC r then some r.tail else pEx kTo r
theorem G6{ws:List ByteArray}:ss ws (iJ ws) afd:=ss.ite ae2 (λ_ _ _ h=>jS h) (λ_=>rfl) (ss.ite ae4 (λ_ _ _ h=>jS h) (λ_=>rfl) (tV ae5))
def pLi(r:List ByteArray):Option (List ByteArray):=((((pEx fI r).bind pTe).bind (pEx tG)).bind pTe).bind (pEx jh)
theorem Ox{ws:List ByteArray}:ss ws (GI ws) pLi:=((((tV Tf).comp tW).comp (tV BB)).comp tW).comp (tV Bz)
def Ov(r:List ByteArray):Option (List ByteArray):=if P9 yQ r then some r.tail else if P9 Qm r then pLi r.tail else ((pTe r).bind afd).bind pTe
theorem oH{ws:List ByteArray}:ss ws (mm ws) Ov :=
 ss.ite Zi (λ_ _ _ h=>jS h) (λ_=>rfl) (ss.ite ae3 (λ_ _ _ h=>Ox.ok _ _ (jS h)) (λs=>Ox.nd s.adv) ((tW.comp G6).comp tW))
theorem Ow{ws:List ByteArray}:ss ws (λs=>s) some:=⟨λ_ _ h=>h,λ_ h=>h,λ_=>rfl⟩
def ZM:Nat->List ByteArray->Option (List ByteArray)
 |0,r=>some r
 |n+1,r=>if P9 fi r then (Ov r.tail).bind (ZM n) else some r
theorem TJ{ws:List ByteArray}(n:Nat):ss ws (λs=>(pj ws n s).2) (ZM n):=by
 induction n with
 |zero=>exact Ow
 |succ n ih =>
  have e:(λs=>(pj ws (n+1) s).2)=(λs=>if em ws fi s then (pj ws n (mm ws s.adv)).2 else s):=by
   funext s;simp only[pj];split <;> rfl
  rw[e];exact ss.ite Tg (λ_ _ _ h=>(oH.comp ih).ok _ _ (jS h)) (λs=>(oH.comp ih).nd s.adv) Ow
def akR(n:Nat)(r:List ByteArray):Option (List ByteArray):=(Ov r).bind (ZM n)
theorem TK{ws:List ByteArray}:ss ws (F9 ws) (akR (ws.length+1)):=oH.comp (TJ (ws.length+1))
def n0(f:List ByteArray->Option (List ByteArray))(r:List ByteArray):Option (List ByteArray × Nat):=(f r).map (λq=>(q,0))
def n1(f:List ByteArray->Option (List ByteArray))(r:List ByteArray):Option (List ByteArray × Nat):=(f r).map (λq=>(q,1))
def one(r:List ByteArray):Option (List ByteArray × Nat):=some (r,1)
def uU(n:Nd):Bool:=decide (n.op=7\/n.op=8\/n.op=9)
def Gx(n:Nd):Bool:=decide (n.op=4)
def rx(P:Nd->Bool)(nds:List Nd)(n:Nat):Nat:=(nds.drop n).countP P
theorem Lz{P:Nd->Bool}{nds:List Nd}{n:Nat}(hn:n<nds.length):rx P nds n=rx P nds (n+1)+(if P (nds.getD n bj)=true then 1 else 0):=by
 unfold rx;rw[drop_eq_getElem_cons hn,countP_cons,getD_eq_getElem?_getD,getElem?_eq_getElem hn];rfl
theorem kR{P:Nd->Bool}{nds:List Nd}{n m:Nat}(h:n<=m):rx P nds m<=rx P nds n:=by
 unfold rx;refine List.Sublist.countP_le ?_;rw[show m=n+(m-n) by omega,<-drop_drop];exact drop_sublist _ _
theorem Ly{P:Nd->Bool}{nds:List Nd}{n m:Nat}(hn:n<nds.length)(h:n<m)(hp:P (nds.getD n bj)=true):rx P nds m+1<=rx P nds n:=by
 have h1:=Lz (P:=P) hn;rw[if_pos hp]at h1;have h2:=kR (P:=P) (nds:=nds) (n:=n+1) (m:=m) h;omega
def fX(nds:List Nd)(n:Nat)(f:CF):Nat:=9 ^ (aD f+rx Gx nds n)*2 ^ (rx uU nds n)
structure xK(nds:List Nd)(n:Nat)(f:CF):Prop where
 td:Td f
 k3:K3 f
 nm:aD f+rx Gx nds n<=9
theorem K3.jo{f:CF}(h:K3 f)(a b:Nat):K3 (rL f a b):=by
 intro p hp;obtain⟨q,hq,rfl⟩:=mem_map.1 hp;exact h q hq
theorem K3.owA{f:CF}(h:K3 f){i:Nat}(hi:i<f.ow.length):(owA f i).k=3:=h _ (oG hi)
theorem Md{f:CF}(h:K3 f)(c:Nat):(mC f c).1=[]\/(mC f c).1=[f]:=by
 unfold mC;split
 .exact zq0 rfl
 .rename_i i hi;unfold Vo;rw[if_pos (h.owA (eW hi).1)];exact zq1 rfl
theorem Zs{f:CF}(h:K3 f){c i:Nat}(hi:i<f.ow.length):gt f c i=if ew f c (owA f i).l=true then [] else [jZ f c i]:=by
 unfold gt;rw[if_neg (show ¬ ((owA f i).k=4) by rw[h.owA hi];decide),append_nil]
def JoI(f:CF)(v:Nat)(x:CF):Prop:=∃i,i<f.ow.length/\x=rL f (owA f i).l (f.cl.getD (1+v) 0)
theorem ZF{f:CF}(h:K3 f){v i:Nat}(hi:i<f.ow.length){r:List CF × Bool}(hr:∀x∈r.1,JoI f v x):(∀x∈(xj f v i r).1,JoI f v x)/\(xj f v i r).1.length<=r.1.length+1:=by
 unfold xj;rw[Zs h hi];split
 .exact⟨hr,by simp⟩
 .simp only[foldl_cons,foldl_nil];have h2:=Md (h.jo (owA f i).l (f.cl.getD (1+v) 0)) ((jZ f (f.cl.getD (1+v) 0) i).cl.getD (1+v) 0);unfold CK;show(∀x∈r.1++(mC (jZ f _ i) _).1,_)/\(r.1++(mC (jZ f _ i) _).1).length<=_;have h3:(mC (jZ f (f.cl.getD (1+v) 0) i) ((jZ f (f.cl.getD (1+v) 0) i).cl.getD (1+v) 0)).1=[]\/(mC (jZ f (f.cl.getD (1+v) 0) i) ((jZ f (f.cl.getD (1+v) 0) i).cl.getD (1+v) 0)).1=[jZ f (f.cl.getD (1+v) 0) i]:=h2;rcases h3 with e|e
  .rw[e,append_nil];exact⟨hr,by omega⟩
  .rw[e];refine⟨λx hx=>?_,by simp⟩;rcases mem_append.1 hx with hx|hx
   .exact hr x hx
   .rw[mem_singleton]at hx;exact⟨i,hi,hx⟩
theorem Oq{f:CF}(h:K3 f){v:Nat}:∀(l:List Nat) {r:List CF × Bool},(∀i∈l,i<f.ow.length)->(∀x∈r.1,JoI f v x)->(∀x∈(l.foldl (λr i=>xj f v i r) r).1,JoI f v x)/\(l.foldl (λr i=>xj f v i r) r).1.length<=r.1.length+l.length
 |[],r,_,hr=>⟨hr,by simp⟩
 |i::l,r,hl,hr=>by
  obtain⟨h1,h2⟩:=ZF h (v:=v) (hl i (by simp)) hr;obtain⟨g1,g2⟩:=Oq h (v:=v) l (r:=xj f v i r) (λj hj=>hl j (by simp[hj])) h1;refine⟨g1,?_⟩;rw[foldl_cons,length_cons];omega
theorem ZE{f:CF}(h:K3 f)(v:Nat):((gR f v).1=[]\/(gR f v).1=[f])\/(dJ f.ow (f.cl.getD (1+v) 0)=none/\(gR f v).1.length<=f.ow.length/\∀x∈(gR f v).1,JoI f v x):=by
 unfold gR;split
 .exact zq0 (zq0 rfl)
 .split
  .exact zq0 (Md h _)
  .rename_i hb;right;obtain⟨h1,h2⟩:=Oq h (v:=v) (range f.ow.length) (r:=([],false)) (λi hi=>mem_range.1 hi) (λx hx=>by simp at hx);exact⟨by simpa using hb,by simpa using h2,h1⟩
structure Opn(v:Nat)(G:CF->CF):Prop where
 ok:∀{x N},pz N v x->au (G x)
 lv:∀{x N},pz N v x->∀c∈dC (G x),c∈dC x
 k3:∀{x},K3 x->K3 (G x)
theorem EJ{f:CF}{i:Nat}(hi:i<f.ow.length):(owA f i).l∈dC f/\(owA f i).r∈dC f:=xh (oG hi)
theorem Lc{N v:Nat}{x:CF}(h:pz N v x):nN x (x.cl.getD (1+v) 0)<x.ow.length:=by
 obtain⟨i,hi⟩:=Option.isSome_iff_exists.1 h.bg;unfold nN;rw[hi];exact(eW hi).1
theorem Ll{f:CF}{k i:Nat}(hi:i<4):lK f k i∈dC f:=by unfold lK;split;exact BI (by omega);exact BI (by omega)
theorem ZI{n:Nd}:Opn n.ai (λg=>gD g n):=⟨λh=>(yp h).1,λh c hc=>by
 rcases yW h.ok.c5 hc with hc|rfl
 .exact hc
 .exact(EJ (Lc h)).2,λh=>h⟩
theorem ZK{n:Nd}(ha:n.ai<4):Opn n.v (λg=>q9 g n):=⟨λh=>(Es h).1,λh c hc=>by
 rcases Tr h.ok.c5 hc with hc|rfl|rfl
 .exact hc
 .exact(EJ (Lc h)).1
 .exact Ll ha,fun {x} h p hp=>by
 rcases mem_or_eq_of_mem_set hp with hp|rfl
 .exact h p hp
 .show(owA x _).k=3;by_cases hi:nN x (x.cl.getD (1+n.v) 0)<x.ow.length
  .exact h.owA hi
  .have YY:(⟨(owA x (nN x (x.cl.getD (1+n.v) 0))).k,(owA x (nN x (x.cl.getD (1+n.v) 0))).l,lK x n.ak n.ai⟩:Pr)∈x.ow.set (nN x (x.cl.getD (1+n.v) 0)) ⟨(owA x (nN x (x.cl.getD (1+n.v) 0))).k,(owA x (nN x (x.cl.getD (1+n.v) 0))).l,lK x n.ak n.ai⟩:=hp;rw[set_eq_of_length_le (by omega)]at YY;have h9:=h _ YY;exact h9⟩
theorem ZJ(v:Nat):Opn v (λg=>rD g v):=⟨λh=>(yq h).1,fun {x N} h c hc=>by
 have h1:=GQ _ hc;exact Zq h.ok.c5 (show c∈dC (fD x _) from h1),fun {x} h p hp=>by
 have h1:p∈(fD x (nN x (x.cl.getD (1+v) 0))).ow:=by
  have e:=zg (fD x (nN x (x.cl.getD (1+v) 0))).ow (g:=cC (fD x (nN x (x.cl.getD (1+v) 0))) (x.cl.getD (1+v) 0) ((fD x (nN x (x.cl.getD (1+v) 0))).cl.getD 0 0)) (c:=x.cl.getD (1+v) 0);have YY:p∈(List.foldl (λh p=>cC h (x.cl.getD (1+v) 0) p.l) (cC (fD x (nN x (x.cl.getD (1+v) 0))) (x.cl.getD (1+v) 0) ((fD x (nN x (x.cl.getD (1+v) 0))).cl.getD 0 0)) (fD x (nN x (x.cl.getD (1+v) 0))).ow).ow:=hp;rw[e]at YY;exact YY
 exact h p ((kg _ _).subset h1)⟩
theorem lq{f g:CF}(h:au g)(hs:∀c∈dC g,c∈dC f):aD (bJ g)<=aD f:=by
 have:=rP h (S:=range (aD f)) (λc hc=>mem_range.2 (fn c (hs c hc)));simpa using this
theorem N8{f g:CF}{a b:Nat}(h:au g)(h5:f.cl.length=5)(ha:a∈dC f)(hb:b∈dC f)(qo:a≠b)(hs:∀c∈dC g,c∈dC (rL f a b)):aD (bJ g)+1<=aD f:=by
 have h1:=rP h (S:=(range (aD f)).erase b) (λc hc=>by
  obtain⟨h1,h2⟩:=Wc h5 (hs c hc);rw[List.Nodup.mem_erase_iff nodup_range,mem_range];refine⟨λe=>qo (h2 e),?_⟩;rcases h1 with h1|rfl
  .exact fn c h1
  .exact fn c ha)
 rw[length_erase_of_mem (mem_range.2 (fn b hb)),length_range]at h1;have:=fn b hb;omega
theorem Hs{α:Type}{g:α->Nat}{X:Nat}:∀(l:List α),(∀a∈l,g a<=X)->aV g l<=l.length*X
 |[],_=>by simp[aV]
 |a::l,h=>by
  have h1:=h a (by simp);have h2:=Hs l (λb hb=>h b (by simp[hb]));simp only[aV,length_cons,Nat.succ_mul];omega
theorem rT{a b:Nat}(h:a<=b):9 ^ a<=9 ^ b:=Nat.pow_le_pow_right (by omega) h
theorem rS{a b:Nat}(h:a<=b):2 ^ a<=2 ^ b:=Nat.pow_le_pow_right (by omega) h
theorem Wn{nds:List Nd}{n m:Nat}{f g:CF}(h:n<=m)(hn:aD g<=aD f):fX nds m g<=fX nds n f :=
 Nat.mul_le_mul (rT (Nat.add_le_add hn (kR h))) (rS (kR h))
theorem UN{nds:List Nd}{n m:Nat}{f g:CF}(h:n<=m)(hn:aD g+1<=aD f):9*fX nds m g<=fX nds n f:=by
 unfold fX;have h1:9*9 ^ (aD g+rx Gx nds m)<=9 ^ (aD f+rx Gx nds n):=by
  rw[Nat.mul_comm,<-Nat.pow_succ];exact rT (by have:=kR (P:=Gx) (nds:=nds) h;omega)
 rw[<-Nat.mul_assoc];exact Nat.mul_le_mul h1 (rS (kR h))
theorem ZL{f:CF}(h:au f):f.ow.length<=aD f:=by
 have:=List.Nodup.length_le_of_subset h.lf (l₂:=range (aD f)) (λc hc=>by
  obtain⟨p,hp,rfl⟩:=mem_map.1 hc;exact mem_range.2 (fn _ (xh hp).1))
 simpa using this
theorem xK.of{nds:List Nd}{n m:Nat}{f g:CF}(h:xK nds n f)(hm:n<=m)(hg:au g)(hk:K3 g)(hn:aD (bJ g)<=aD f):xK nds m (bJ g):=⟨hg.tidy,hk.td,by have:=h.nm;have:=kR (P:=Gx) (nds:=nds) hm;omega⟩
theorem ZH{nds:List Nd}{n m v:Nat}{f:CF}{G:CF->CF}(hv:v<4)(hm:n<=m)(h:xK nds n f)(hG:Opn v G):(∀g∈(bV (gR f v) G).nx,xK nds m g)/\aV (fX nds m) (bV (gR f v) G).nx<=fX nds n f:=by
 have dV:=lw hv h.td.ok h.td.ln;show(∀g∈(gR f v).1.map (λx=>bJ (G x)),_)/\aV _ ((gR f v).1.map (λx=>bJ (G x)))<=_;rcases ZE h.k3 v with(e|e)|⟨hb,dg,hJ⟩
 .rw[e];exact⟨λg hg=>by simp at hg,by simp[aV]⟩
 .have hx:=dV f (by rw[e];simp);have hn:=lq (hG.ok hx) (hG.lv hx);rw[e];refine⟨λg hg=>?_,?_⟩
  .simp only[map_cons,map_nil,mem_singleton]at hg;subst hg;exact h.of hm (hG.ok hx) (hG.k3 h.k3) hn
  .simp only[map_cons,map_nil,aV,Nat.add_zero];exact Wn hm hn
 .have key:∀x∈(gR f v).1,aD (bJ (G x))+1<=aD f/\K3 (G x)/\au (G x):=by
   intro x hx;have ho:=dV x hx;obtain⟨i,hi,rfl⟩:=hJ x hx;refine⟨N8 (hG.ok ho) h.td.ok.c5 (EJ hi).1 (BI (by omega)) (λe=>pB hb _ (oG hi) e) (hG.lv ho),hG.k3 (h.k3.jo _ _),hG.ok ho⟩
  refine⟨λg hg=>?_,?_⟩
  .obtain⟨x,hx,rfl⟩:=mem_map.1 hg;obtain⟨k1,k2,k3⟩:=key x hx;exact h.of hm k3 k2 (by omega)
  .have h9:f.ow.length<=9:=(by have:=ZL h.td.ok;have:=h.nm;omega);obtain⟨X,hX⟩:∃X,X=fX nds n f / 9:=⟨_,rfl⟩;have h1:=Hs (g:=fX nds m) (X:=X) ((gR f v).1.map (λx=>bJ (G x))) (λg hg=>by
    obtain⟨x,hx,rfl⟩:=mem_map.1 hg;have:=UN (nds:=nds) hm (key x hx).1;omega)
   rw[length_map]at h1;have h2:(gR f v).1.length*X<=9*X:=Nat.mul_le_mul_right _ (by omega);omega
theorem Cm{α:Type}(g:α->Nat):∀(a b:List α),aV g (a++b)=aV g a+aV g b
 |[],b=>by simp[aV]
 |x::a,b=>by simp only[cons_append,aV,Cm g a b];omega
theorem Pe{α:Type}(g:α->Nat){a b:List α}(h:a.Sublist b):aV g a<=aV g b:=by
 induction h with
 |slnil=>exact zq4 _
 |cons x _ ih=>simp only[aV];omega
 |cons_cons x _ ih=>simp only[aV];omega
structure Xg(nds:List Nd)(n:Nat)(f:CF)(o:KN):Prop where
 nx:∀g∈o.nx,xK nds (nds.getD n bj).nx g
 ot:∀g∈o.ot,xK nds (nds.getD n bj).ot g
 w:aV (fX nds (nds.getD n bj).nx) o.nx+aV (fX nds (nds.getD n bj).ot) o.ot<=fX nds n f
structure Fwd(nds:List Nd):Prop where
 v:∀n,(nds.getD n bj).v<4/\(nds.getD n bj).ai<4
 nx:∀n,n<nds.length->(nds.getD n bj).op≠0->n<(nds.getD n bj).nx
 ot:∀n,n<nds.length->uU (nds.getD n bj)=true->n<(nds.getD n bj).ot
theorem aaj{nds:List Nd}{n m k:Nat}{f g h:CF}(hn:n<nds.length)(ht:uU (nds.getD n bj)=true)(hm:n<m)(hk:n<k)(hg:aD g<=aD f)(hh:aD h<=aD f):fX nds m g+fX nds k h<=fX nds n f:=by
 have one:∀{m:Nat} {g:CF},n<m->aD g<=aD f->2*fX nds m g<=fX nds n f:=fun {m g} hm hg=>by
  unfold fX;have h1:=rT (show aD g+rx Gx nds m<=aD f+rx Gx nds n by have:=kR (P:=Gx) (nds:=nds) (Nat.le_of_lt hm);omega);have h2:2*2 ^ (rx uU nds m)<=2 ^ (rx uU nds n):=by
   rw[Nat.mul_comm,<-Nat.pow_succ];exact rS (Ly hn hm ht)
  calc 2*(9 ^ (aD g+rx Gx nds m)*2 ^ (rx uU nds m))=9 ^ (aD g+rx Gx nds m)*(2*2 ^ (rx uU nds m)):=by rw[Nat.mul_left_comm]
   _<=_:=Nat.mul_le_mul h1 h2
 have h1:=one hm hg;have h2:=one hk hh;omega
theorem acx{nds:List Nd}(hF:Fwd nds){n:Nat}(hn:n<nds.length){f:CF}(h:xK nds n f):Xg nds n f (d7 (nds.getD n bj) f):=by
 obtain⟨hv,ha⟩:=hF.v n;have qu:=hF.nx n hn;have Qj:=hF.ot n hn;obtain⟨nd,cH⟩:∃nd,nd=nds.getD n bj:=⟨_,rfl⟩;have h5:=h.td.ok.c5;have keep:∀{m:Nat} {g:CF},n<=m->au g->K3 g->(∀c∈dC g,c∈dC f)->xK nds m (bJ g)/\fX nds m (bJ g)<=fX nds n f:=λhm hg hk hl =>
  ⟨h.of hm hg hk (lq hg hl),Wn hm (lq hg hl)⟩
 have one:∀{g:CF},(nds.getD n bj).op≠0->au g->K3 g->(∀c∈dC g,c∈dC f)->Xg nds n f ⟨[bJ g],[],false,false,false⟩:=λho hg hk hl=>by
  obtain⟨k1,k2⟩:=keep (Nat.le_of_lt (qu ho)) hg hk hl;exact⟨λx hx=>by simp only[mem_singleton]at hx;subst hx;exact k1,λx hx=>by simp at hx,by simp only[aV,Nat.add_zero];exact k2⟩
 have opn:∀{v:Nat} {G:CF->CF},(nds.getD n bj).op≠0->v<4->Opn v G->Xg nds n f (bV (gR f v) G):=λho hv hG=>by
  obtain⟨k1,k2⟩:=ZH hv (Nat.le_of_lt (qu ho)) h hG;exact⟨k1,λx hx=>by simp[bV]at hx,by show _+aV _ ([]:List CF)<=_;simp only[aV,Nat.add_zero];exact k2⟩
 -- the two sides of a test
 have hjo:∀{a b:Nat},a∈dC f->ew f a b=false->au (rL f a b)/\K3 (rL f a b)/\∀c∈dC (rL f a b),c∈dC f:=fun {a b} Yn hd=>⟨h.td.ok.jo (by have:=fn _ Yn;have:=h.nm;omega) (jt hd),h.k3.jo _ _,λc hc=>by
  rcases(Wc h5 hc).1 with hc|rfl
  .exact hc
  .exact Yn⟩
 have test:∀{x y:List CF} {m k:Nat},uU (nds.getD n bj)=true->n<m->n<k->(x=[]\/∃g,x=[bJ g]/\au g/\K3 g/\∀c∈dC g,c∈dC f)->(y=[]\/∃g,y=[bJ g]/\au g/\K3 g/\∀c∈dC g,c∈dC f)->(∀g∈x,xK nds m g)/\(∀g∈y,xK nds k g)/\aV (fX nds m) x+aV (fX nds k) y<=fX nds n f:=by
  intro x y m k ht hm hk hx hy;rcases hx with rfl|⟨g,rfl,g1,g2,g3⟩
  .rcases hy with rfl|⟨g',rfl,g1',g2',g3'⟩
   .exact⟨λz hz=>by simp at hz,λz hz=>by simp at hz,by simp[aV]⟩
   .obtain⟨k1,k2⟩:=keep (Nat.le_of_lt hk) g1' g2' g3';exact⟨λz hz=>by simp at hz,λz hz=>by rw[mem_singleton]at hz;subst hz;exact k1,by simp only[aV,Nat.add_zero,Nat.zero_add];exact k2⟩
  .rcases hy with rfl|⟨g',rfl,g1',g2',g3'⟩
   .obtain⟨k1,k2⟩:=keep (Nat.le_of_lt hm) g1 g2 g3;exact⟨λz hz=>by rw[mem_singleton]at hz;subst hz;exact k1,λz hz=>by simp at hz,by simp only[aV,Nat.add_zero];exact k2⟩
   .obtain⟨k1,-⟩:=keep (Nat.le_of_lt hm) g1 g2 g3;obtain⟨k1',-⟩:=keep (Nat.le_of_lt hk) g1' g2' g3';exact⟨λz hz=>by rw[mem_singleton]at hz;subst hz;exact k1,λz hz=>by rw[mem_singleton]at hz;subst hz;exact k1',by simp only[aV,Nat.add_zero];exact aaj hn ht hm hk (lq g1 g3) (lq g1' g3')⟩
 have self:∃g,[bJ f]=[bJ g]/\au g/\K3 g/\∀c∈dC g,c∈dC f:=⟨f,rfl,h.td.ok,h.k3,λc hc=>hc⟩;have cm1:(kP f nd).1=[]\/∃g,(kP f nd).1=[bJ g]/\au g/\K3 g/\∀c∈dC g,c∈dC f:=by
  simp only[kP];split
  .exact zq0 rfl
  .rename_i hd;exact zq1 ⟨_,rfl,hjo (BI (by rw[cH];omega)) (by simpa using hd)⟩
 have cm2:(kP f nd).2=[]\/∃g,(kP f nd).2=[bJ g]/\au g/\K3 g/\∀c∈dC g,c∈dC f:=by
  simp only[kP];split
  .exact zq0 rfl
  .exact zq1 ⟨_,rfl,h.td.ok.pa (h.td.ok.get _) (h.td.ok.cT _ _),h.k3,λc hc=>hc⟩
 rw[<-cH]at hv ha qu Qj one opn test ⊢;have SJ:nd.op≠0->n<nd.nx:=qu;unfold d7;split
 .exact⟨λx hx=>by simp[EI]at hx,λx hx=>by simp[EI]at hx,by simp[EI,aV]⟩
 .rename_i h0;split
  .exact one h0 (h.td.ok.sC _ (h.td.ok.cT _ _)) h.k3 (λc hc=>by
    rcases yW h5 hc with hc|rfl
    .exact hc
    .exact Ll ha)
  .split
   .exact opn h0 ha ZI
   .split
    .exact opn h0 hv (ZK ha)
    .split
     .rename_i h4;split
      .exact⟨λx hx=>by simp at hx,λx hx=>by simp at hx,by simp[aV]⟩
      .rename_i hN;have MZ:=ya (v:=nd.v) h.td.ok (by omega);have ar:=SJ h0;have P8:=Ly (P:=Gx) hn ar (by rw[<-cH];simpa[Gx] using h4);have Ef:aD (bJ (FK f nd.v))<=aD f+1:=by
        have:=rP MZ (S:=range (aD f+1)) (λc hc=>by
         rw[mem_range];rcases yW (f:=q8 f ⟨3,aD f,f.cl.getD 0 0⟩) h5 hc with hc|rfl
         .rcases Zp h5 hc with hc|rfl|rfl
          .have:=fn c hc;omega
          .exact Nat.lt_succ_self _
          .have:=fn _ (BI (f:=f) (i:=0) (by omega));show f.cl.getD 0 0<aD f+1;omega
         .exact Nat.lt_succ_self _)
        simpa using this
       have hk:K3 (FK f nd.v):=by
        intro p hp;rcases mem_append.1 hp with hp|hp
        .exact h.k3 p hp
        .rw[mem_singleton]at hp;subst hp;rfl
       have aqo:=h.nm;refine⟨λx hx=>?_,λx hx=>by simp at hx,?_⟩
       .simp only[mem_singleton]at hx;subst hx;exact⟨MZ.tidy,hk.td,by rw[<-cH];omega⟩
       .simp only[aV,Nat.add_zero];rw[<-cH];exact Nat.mul_le_mul (rT (by omega)) (rS (kR (Nat.le_of_lt ar)))
     .split
      .exact opn h0 hv (ZJ nd.v)
      .split
       .rename_i h7;have ht:uU nd=true:=(by simp[uU,h7]);obtain⟨k1,k2,k3⟩:=test ht (SJ h0) (Qj ht) (zq1 self) (zq1 self);exact⟨by rw[<-cH];exact k1,by rw[<-cH];exact k2,by rw[<-cH];exact k3⟩
       .split
        .rename_i h8;have ht:uU nd=true:=(by simp[uU,h8]);obtain⟨k1,k2,k3⟩:=test ht (SJ h0) (Qj ht) cm1 cm2;exact⟨by rw[<-cH];exact k1,by rw[<-cH];exact k2,by rw[<-cH];exact k3⟩
        .split
         .rename_i h9;have ht:uU nd=true:=(by simp[uU,h9]);obtain⟨k1,k2,k3⟩:=test ht (SJ h0) (Qj ht) cm2 cm1;exact⟨by rw[<-cH];exact k1,by rw[<-cH];exact k2,by rw[<-cH];exact k3⟩
         .exact one h0 h.td.ok h.k3 (λc hc=>hc)
def rf(g:Nat->List gC->Nat):Nat->List (List gC)->Nat
 |_,[]=>0
 |k,a::l=>g k a+rf g (k+1) l
theorem ur(g:Nat->List gC->Nat):∀(l:List (List gC)) (k n:Nat) (x:List gC),n<l.length->rf g k (l.set n x)+g (k+n) (l.getD n [])=rf g k l+g (k+n) x
 |[],k,n,x,h=>by simp at h
 |a::l,k,0,x,_=>by simp[rf];omega
 |a::l,k,n+1,x,h=>by
  have:=ur g l (k+1) n x (by simpa using h);rw[show k+1+n=k+(n+1) by omega]at this;simp only[set_cons_succ,rf,getD_cons_succ];omega
theorem Cn(g:Nat->List gC->Nat):∀(l:List (List gC)) (k n:Nat),n<l.length->g (k+n) (l.getD n [])<=rf g k l
 |[],k,n,h=>by simp at h
 |a::l,k,0,_=>by simp[rf]
 |a::l,k,n+1,h=>by
  have:=Cn g l (k+1) n (by simpa using h);rw[show k+1+n=k+(n+1) by omega]at this;simp only[rf,getD_cons_succ];omega
def JX(nds:List Nd)(s:Sr):Nat:=rf (λn l=>aV (fX nds n) (lN l)) 0 s.kn
structure su(c:Cd)(cu rest:Nat)(s:Sr):Prop where
 kl:s.kn.length=c.nds.length
 fo:∀n,∀e∈bN s n,xK c.nds n e.f
 un:∀n,cu<=n->∀e∈bN s n,e.d=false
 dn:∀n,n<cu->∀e∈bN s n,e.d=true
 tw:JX c.nds s+rest<=qI
 ok:s.ok=true
theorem aai(nds:List Nd)(n:Nat)(f:CF):1<=fX nds n f:=Nat.mul_pos (Nat.pow_pos (by omega)) (Nat.pow_pos (by omega))
theorem GH{nds:List Nd}{n:Nat}:∀(l:List CF),l.length<=aV (fX nds n) l
 |[]=>by simp
 |f::l=>by
  have:=aai nds n f;have:=GH (nds:=nds) (n:=n) l;simp only[aV,length_cons];omega
theorem Ga{l:List gC}(h:∀e∈l,e.d=false):lN l=l.map (·.f):=by
 unfold lN;rw[filter_eq_self.2 (λe he=>by rw[h e he];rfl)]
theorem Th{s:Sr}{n:Nat}(h:s.kn.length<=n):bN s n=[]:=by unfold bN;rw[getD_eq_getElem?_getD,getElem?_eq_none h];rfl
theorem lR{s:Sr}{n m:Nat}{x:List gC}{s':Sr}(e:s'.kn=s.kn.set n x):bN s' m=if m=n/\n<s.kn.length then x else bN s m:=by
 unfold bN;rw[e,getD_eq_getElem?_getD,getElem?_set];by_cases h:n=m
 .subst h;by_cases hl:n<s.kn.length
  .simp[hl]
  .rw[if_pos rfl,if_neg hl,if_neg (by simp[hl]),getD_eq_getElem?_getD,getElem?_eq_none (by omega)]
 .rw[if_neg h,if_neg (by rintro⟨rfl,-⟩;exact h rfl),getD_eq_getElem?_getD]
theorem su.len{c:Cd}{cu rest n:Nat}{s:Sr}(h:su c cu rest s)(hn:cu<=n):(bN s n).length<=qI:=by
 by_cases hl:n<s.kn.length
 .have h1:=Cn (λn l=>aV (fX c.nds n) (lN l)) s.kn 0 n hl;have h2:(bN s n).length<=aV (fX c.nds n) (lN (bN s n)):=by
   have h3:=GH (nds:=c.nds) (n:=n) (lN (bN s n));rw[Ga (h.un n hn),length_map]at h3;rw[Ga (h.un n hn)];exact h3
  have h3:=h.tw;unfold JX at h3;rw[Nat.zero_add]at h1;have h4:(bN s n).length<=rf (λn l=>aV (fX c.nds n) (lN l)) 0 s.kn:=zq3 h2 h1;omega
 .rw[Th (by omega)];simp
structure Xj(c:Cd):Prop where
 lp:c.lp=false
 bd:c.bd=false
 hd:∀n,c.hd.getD n false=false
 fw:Fwd c.nds
theorem BG{c:Cd}(hc:Xj c){cu rest n:Nat}(hn:cu<=n){f:CF}(hf:xK c.nds n f){s:Sr}(h:su c cu (rest+fX c.nds n f) s):su c cu rest (bQ c n f s):=by
 have hN:layN c n f=f:=by unfold layN;rw[if_neg (by rw[hc.hd n];decide)]
 have dg:=h.len hn;unfold bQ;rw[hN];split
 .exact⟨h.kl,h.fo,h.un,h.dn,by have:=h.tw;show JX c.nds s+rest<=qI;omega,by show(s.ok&&decide ((bN s n).length<=qI))=true;rw[h.ok];simpa using dg⟩
 .obtain⟨x,hx⟩:∃x,x=(bN s n).filter (λe=>!C3 e.f f)++[⟨f,false⟩]:=⟨_,rfl⟩;obtain⟨s',hs'⟩:∃s',s'=re c (oy n f (ng c s (2*(bN s n).length))):=⟨_,rfl⟩;have fC:s'.kn=s.kn.set n x:=by rw[hs',hx];rfl
  have aY:s'.ok=true:=by rw[hs'];show(s.ok&&decide ((bN s n).length<=qI))=true;rw[h.ok];simpa using dg
  rw[<-hs'];refine⟨by rw[fC,length_set];exact h.kl,λm e he=>?_,λm hm e he=>?_,λm hm e he=>?_,?_,aY⟩
  .rw[lR fC]at he;split at he
   .rename_i hm;rw[hm.1];rw[hx]at he;rcases mem_append.1 he with he|he
    .exact h.fo n e (mem_filter.1 he).1
    .rw[mem_singleton]at he;subst he;exact hf
   .exact h.fo m e he
  .rw[lR fC]at he;split at he
   .rw[hx]at he;rcases mem_append.1 he with he|he
    .exact h.un n hn e (mem_filter.1 he).1
    .rw[mem_singleton]at he;subst he;rfl
   .exact h.un m hm e he
  .rw[lR fC,if_neg (by rintro⟨rfl,-⟩;omega)]at he;exact h.dn m hm e he
  .have htw:=h.tw;unfold JX at htw ⊢;rw[fC];by_cases hl:n<s.kn.length
   .have h1:=ur (λn l=>aV (fX c.nds n) (lN l)) s.kn 0 n x hl;rw[Nat.zero_add]at h1;have h2:aV (fX c.nds n) (lN x)<=aV (fX c.nds n) (lN (bN s n))+fX c.nds n f:=by
     have e1:lN x=lN ((bN s n).filter (λe=>!C3 e.f f))++[f]:=by
      rw[hx];unfold lN;rw[filter_append,map_append];rfl
     rw[e1,Cm];have h3:aV (fX c.nds n) (lN ((bN s n).filter (λe=>!C3 e.f f)))<=aV (fX c.nds n) (lN (bN s n)):=Pe _ ((filter_sublist.filter _).map _);simp only[aV];omega
    have h3:aV (fX c.nds n) (lN (s.kn.getD n []))=aV (fX c.nds n) (lN (bN s n)):=rfl;omega
   .rw[set_eq_of_length_le (by omega)];omega
theorem BE{c:Cd}(hc:Xj c){cu n fuel a:Nat}(hn:cu<=n):∀(l:List CF) {rest:Nat} {s:Sr},(∀f∈l,xK c.nds n f)->su c cu (rest+aV (fX c.nds n) l) s->su c cu rest (l.foldl (λs g=>eo c fuel a n g s) s)
 |[],rest,s,_,h=>h
 |f::l,rest,s,hl,h=>by
  have e:eo c fuel a n f s=bQ c n f s:=by unfold eo;rw[if_pos (zq0 hc.lp)]
  rw[foldl_cons,e];refine BE hc hn l (λg hg=>hl g (by simp[hg])) (BG hc hn (hl f (by simp)) ?_);have e2:rest+aV (fX c.nds n) (f::l)=rest+aV (fX c.nds n) l+fX c.nds n f:=by simp only[aV];omega
  rw[<-e2];exact h
theorem su.wrI{c:Cd}{cu rest n k:Nat}{b:Bool}{s:Sr}(h:su c cu rest s):su c cu rest (wrI b n k s):=by
 unfold Go.Proofs.YtciihepbeacppaaGreat.wrI;split
 .exact⟨h.kl,h.fo,h.un,h.dn,h.tw,h.ok⟩
 .exact h
theorem su.fuS{c:Cd}{cu rest:Nat}{b:Bool}{s:Sr}(h:su c cu rest s):su c cu rest (fuS b s):=⟨h.kl,h.fo,h.un,h.dn,h.tw,h.ok⟩
theorem Uo{c:Cd}(hc:Xj c){n rest fuel:Nat}(hn:n<c.nds.length){f:CF}(hf:xK c.nds n f){s:Sr}(h:su c (n+1) (rest+fX c.nds n f) s):su c (n+1) rest (qB c fuel n f s):=by
 have hw:=acx hc.fw hn hf;have qu:=hc.fw.nx n hn;have Qj:=hc.fw.ot n hn;obtain⟨o,ho⟩:∃o,o=d7 (c.nds.getD n bj) f:=⟨_,rfl⟩;have qV:o.nx≠[]->n<(c.nds.getD n bj).nx:=λaM=>qu (λe=>aM (by rw[ho];unfold d7;rw[if_pos e];rfl));have akj:o.ot≠[]->n<(c.nds.getD n bj).ot:=λaM=>Qj (by
  apply Classical.byContradiction;intro hT;apply aM;have Yi:¬ ((c.nds.getD n bj).op=7\/(c.nds.getD n bj).op=8\/(c.nds.getD n bj).op=9):=by simpa[uU] using hT
  rw[ho];unfold d7;split
  .rfl
  .split
   .rfl
   .split
    .rfl
    .split
     .rfl
     .split
      .split <;> rfl
      .split
       .rfl
       .split
        .exact absurd (zq0 (by assumption)) Yi
        .split
         .exact absurd (zq1 (zq0 (by assumption))) Yi
         .split
          .exact absurd (zq1 (zq1 (by assumption))) Yi
          .rfl)
 rw[<-ho]at hw;unfold qB;simp only[<-ho];have lay1:∀{l:List CF} {m rest:Nat} {s:Sr},(l≠[]->n<m)->(∀g∈l,xK c.nds m g)->su c (n+1) (rest+aV (fX c.nds m) l) s->su c (n+1) rest (l.foldl (λs g=>eo c fuel n m g s) s):=by
  intro l m rest s hm hl hs;by_cases e:l=[]
  .subst e;exact hs
  .exact BE hc (hm e) l hl hs
 refine lay1 akj hw.ot (lay1 qV hw.nx ?_);have h1:su c (n+1) (rest+aV (fX c.nds (c.nds.getD n bj).ot) o.ot+aV (fX c.nds (c.nds.getD n bj).nx) o.nx) s:=⟨h.kl,h.fo,h.un,h.dn,by have:=h.tw;have:=hw.w;omega,h.ok⟩;exact h1.wrI.wrI.wrI.fuS
theorem Hy{c:Cd}(hc:Xj c){n fuel:Nat}(hn:n<c.nds.length):∀(l:List CF) {s:Sr},(∀f∈l,xK c.nds n f)->su c (n+1) (aV (fX c.nds n) l) s->su c (n+1) 0 (pu c fuel n l s)
 |[],s,_,h=>h
 |f::l,s,hl,h=>by
  unfold pu;split
  .exact⟨h.kl,h.fo,h.un,h.dn,by have:=h.tw;omega,h.ok⟩
  .refine Hy hc hn l (λg hg=>hl g (by simp[hg])) (Uo hc hn (hl f (by simp)) ?_);have e:aV (fX c.nds n) (f::l)=aV (fX c.nds n) l+fX c.nds n f:=(by simp only[aV];omega);rw[<-e];exact h
theorem UG{c:Cd}(hc:Xj c){cu n fuel:Nat}{s:Sr}(hcu:cu<=n)(hn:n<c.nds.length)(hb:∀m,cu<=m->m<n->bN s m=[])(h:su c cu 0 s):su c (n+1) 0 (uD c fuel n s):=by
 have hl:n<s.kn.length:=by rw[h.kl];exact hn
 have hF:∀f∈lN (bN s n),xK c.nds n f:=by
  intro f hf;obtain⟨e,he,rfl⟩:=mem_map.1 hf;exact h.fo n e (mem_filter.1 he).1
 refine Hy hc hn _ hF ?_;obtain⟨x,hx⟩:∃x,x=(bN s n).map (λe=>(⟨e.f,true⟩:gC)):=⟨_,rfl⟩;have fC:({ s with kn:=s.kn.set n ((bN s n).map (λe=>⟨e.f,true⟩)) }:Sr).kn=s.kn.set n x:=by rw[hx]
 refine⟨by rw[fC,length_set];exact h.kl,λm e he=>?_,λm hm e he=>?_,λm hm e he=>?_,?_,h.ok⟩
 .rw[lR fC]at he;split at he
  .rename_i hm;rw[hx]at he;obtain⟨y,hy,rfl⟩:=mem_map.1 he;rw[hm.1];exact h.fo n y hy
  .exact h.fo m e he
 .rw[lR fC,if_neg (by rintro⟨rfl,-⟩;omega)]at he;exact h.un m (by omega) e he
 .rw[lR fC]at he;split at he
  .rw[hx]at he;obtain⟨y,-,rfl⟩:=mem_map.1 he;rfl
  .rename_i hm';by_cases hmc:m<cu
   .exact h.dn m hmc e he
   .rw[hb m (by omega) (by
     have:m≠n:=λe=>hm' ⟨e,hl⟩;omega)]at he
    simp at he
 .have htw:=h.tw;unfold JX at htw ⊢;rw[fC];have h1:=ur (λn l=>aV (fX c.nds n) (lN l)) s.kn 0 n x hl;rw[Nat.zero_add]at h1;have h2:lN x=[]:=by
   rw[hx];unfold lN;rw[map_eq_nil_iff,filter_eq_nil_iff];intro e he;obtain⟨y,-,rfl⟩:=mem_map.1 he;simp
  have h3:aV (fX c.nds n) (lN (s.kn.getD n []))=aV (fX c.nds n) (lN (bN s n)):=rfl;rw[h2]at h1;simp only[aV]at h1;omega
theorem Hi{c:Cd}(hc:Xj c){fuel:Nat}:∀(k:Nat) {cu:Nat} {s:Sr},su c cu 0 s->c.nds.length<k+cu->cu<=c.nds.length->(qa c fuel k s).ok=true
 |0,_,_,_,h,h'=>by omega
 |k+1,cu,s,h,hk,_=>by
  unfold qa;split
  .exact h.ok
  .rename_i n hp;split
   .exact h.ok
   .obtain⟨hn,nX,MQ⟩:=findIdx?_eq_some_iff_getElem.1 hp;have at_:∀j,(hj:j<s.kn.length)->bN s j=s.kn[j]:=λj hj=>by unfold bN;rw[getD_eq_getElem?_getD,getElem?_eq_getElem hj];rfl
    have hcu:cu<=n:=by
     apply Classical.byContradiction;intro ar;obtain⟨e,he,hde⟩:=any_eq_true.1 nX;rw[<-at_ n hn]at he;rw[h.dn n (by omega) e he]at hde;simp at hde
    have hn':n<c.nds.length:=(by rw[<-h.kl];exact hn);have hS:=UG hc (fuel:=fuel) hcu hn' (λm hm YT=>by
     rw[eq_nil_iff_forall_not_mem];intro e he;have h1:=h.un m hm e he;have h2:=MQ m YT;rw[at_ m (by omega)]at he;apply h2;rw[any_eq_true];exact⟨e,he,by rw[h1];rfl⟩) h
    exact Hi hc k hS (by omega) (by omega)
