import Derived.Test.YtciihepbeacppaaGreatM13
namespace Go.Proofs.YtciihepbeacppaaGreat
open Go.RowKit List
set_option linter.unusedVariables false
theorem uy{ms:List Nat}{c d:Nat}(h:d∈gV ms c):d∈ms\/d=c:=by
 unfold gV at h;split at h
 .exact zq0 h
 .rw[mem_append,mem_singleton]at h;exact h
theorem Co:∀(l:List Nat) {ms:List Nat} {d:Nat},d∈l.foldl gV ms->d∈ms\/d∈l
 |[],ms,d,h=>zq0 h
 |c::l,ms,d,h=>by
  rcases Co l h with h|h
  .rcases uy h with h|rfl
   .exact zq0 h
   .exact zq1 (by simp)
  .exact zq1 (by simp[h])
theorem xO{f:CF}{p:Pr}(hp:p∈f.ow):p.l∈db f/\p.r∈db f:=⟨mem_append_right _ (mem_flatMap.2 ⟨p,hp,by simp⟩),mem_append_right _ (mem_flatMap.2 ⟨p,hp,by simp⟩)⟩
theorem P6{f:CF}{k:Nat}{ms:List Nat}{d:Nat}(h:d∈ya f k ms):d∈ms\/d∈db f:=by
 unfold ya at h;split at h
 .rename_i i hi;rcases uy h with h|rfl
  .exact zq0 h
  .exact zq1 (xO (yr hi)).2
 .exact zq0 h
theorem uV{f:CF}:∀(n k:Nat) {ms:List Nat} {d:Nat},d∈ni f n k ms->d∈ms\/d∈db f
 |0,_,_,_,h=>zq0 h
 |n+1,k,ms,d,h=>by
  unfold ni at h;split at h
  .rcases uV n (k+1) h with h|h
   .exact P6 h
   .exact zq1 h
  .exact zq0 h
theorem CG{f:CF}:∀(l:List Pr) {ms:List Nat} {d:Nat},(∀p∈l,p∈f.ow)->d∈l.foldl (xV f) ms->d∈ms\/d∈db f
 |[],_,_,_,h=>zq0 h
 |p::r,ms,d,hl,h=>by
  rcases CG r (λq hq=>hl q (by simp[hq])) h with h|h
  .rcases uV _ _ h with h|h
   .rcases uy h with h|rfl
    .exact zq0 h
    .exact zq1 (xO (hl p (by simp))).1
   .exact zq1 h
  .exact zq1 h
theorem PR{f:CF}{d:Nat}(h:d∈eF f):d∈db f:=by
 rcases CG f.ow (λp hp=>hp) h with h|h
 .rcases uV _ _ h with h|h
  .rcases Co _ h with h|h
   .simp at h
   .exact mem_append_left _ h
  .exact h
 .exact h
theorem EP:∀(l:List Pr) {m K:Nat},m<K->(∀p∈l,p.l<K/\p.r<K)->qq m l<K
 |[],_,_,h,_=>h
 |p::r,m,K,h,hl=>by
  have:=hl p (by simp);exact EP r (m:=max (max m p.l) p.r) (by omega) (λq hq=>hl q (by simp[hq]))
theorem O7{f:CF}{K:Nat}(hK:0<K)(h1:∀c∈jJ f,c<K)(h2:∀p∈f.ow,p.l<K/\p.r<K)(h3:∀p∈f.ap,p.l<K/\p.r<K):aI f<=K:=by
 unfold aI;have h0:pN f<K:=by
  have a0:=h1 _ (eI (f:=f) (i:=0) (by omega));have a1:=h1 _ (eI (f:=f) (i:=1) (by omega));have a2:=h1 _ (eI (f:=f) (i:=2) (by omega));have a3:=h1 _ (eI (f:=f) (i:=3) (by omega));have a4:=h1 _ (eI (f:=f) (i:=4) (by omega));unfold pN;omega
 have:=EP f.ap (EP f.ow h0 h2) h3;omega
theorem fK{f:CF}:∀c∈db f,c<aI f:=by
 have hc:pN f<aI f:=by
  have h1:=(iR f.ow (pN f)).1;have h2:=(iR f.ap (qq (pN f) f.ow)).1;unfold aI;omega
 intro c h;unfold db at h;rw[mem_append,mem_flatMap]at h;rcases h with h|⟨p,hp,h⟩
 .unfold jJ at h;unfold pN at hc;simp only[mem_cons,not_mem_nil,or_false]at h;omega
 .have h1:=(iR f.ow (pN f)).2 p hp;have h2:=(iR f.ap (qq (pN f) f.ow)).1;unfold aI;simp only[mem_cons,not_mem_nil,or_false]at h;rcases h with rfl|rfl <;> omega
theorem aa3{f:CF}(h:am f):0<(eF f).length:=by
 have:=(pT h.ow h.cl).2.2.1 _ (eI (f:=f) (i:=0) (by omega));exact length_pos_of_mem this
theorem aap{f:CF}(h:am f)(hl:∀p∈f.ap,p.l∈db f/\p.r∈db f):(∀c∈jJ (uQ f),c<(eF f).length)/\(∀p∈(uQ f).ow,p.l<(eF f).length/\p.r<(eF f).length)/\∀p∈(uQ f).ap,p.l<(eF f).length/\p.r<(eF f).length:=by
 have hL:=j8 h.ow h.cl h.lf;refine⟨λc hc=>?_,λp hp=>?_,λp hp=>?_⟩
 .unfold uQ at hc;rw[F9]at hc;obtain⟨d,hd,rfl⟩:=mem_map.1 hc;exact idxOf_lt_length_iff.2 (hL d (mem_append_left _ hd))
 .obtain⟨q,hq,rfl⟩:=mem_map.1 hp;exact⟨idxOf_lt_length_iff.2 (hL _ (xO hq).1),idxOf_lt_length_iff.2 (hL _ (xO hq).2)⟩
 .obtain⟨q,hq,rfl⟩:=mem_map.1 hp;exact⟨idxOf_lt_length_iff.2 (hL _ (hl q hq).1),idxOf_lt_length_iff.2 (hL _ (hl q hq).2)⟩
theorem aaq{f:CF}(h:am f):aI (bz f)<=(eF f).length:=by
 obtain⟨h1,h2,h3⟩:=aap h.fg (λ_ hp=>kG hp);rw[aa1]at h1 h2 h3;refine O7 (aa3 h) h1 (λp hp=>h2 p (gC.1 hp)) (λp hp=>?_);obtain⟨q,hq,rfl⟩:=mem_map.1 (gC.1 hp);have:=h3 q hq;unfold jw;split
 .exact⟨this.2,this.1⟩
 .exact this
theorem sU{f:CF}(h:am f){S:List Nat}(hS:∀c∈db f,c∈S):aI (bz f)<=S.length :=
 zq3 (aaq h) (List.Nodup.length_le_of_subset (pT h.ow h.cl).1.1 (λc hc=>hS c (PR hc)))
def K3(f:CF):Prop:=∀p∈f.ow,p.k=3
theorem K3.td{f:CF}(h:K3 f):K3 (bz f):=by
 intro p hp;obtain⟨q,hq,rfl⟩:=mem_map.1 (gC.1 hp);exact h q hq
theorem Cm{f:CF}{i:Nat}(hi:i<5):f.cl.getD i 0∈db f:=mem_append_left _ (eI hi)
theorem jG{f:CF}(h5:f.cl.length=5){c:Nat}:c∈db f↔c∈f.cl\/∃p∈f.ow,c=p.l\/c=p.r:=by
 unfold db;rw[mem_append,pf h5,mem_flatMap];constructor
 .rintro(h|⟨p,hp,h⟩)
  .exact zq0 h
  .exact zq1 ⟨p,hp,by simpa using h⟩
 .rintro(h|⟨p,hp,h⟩)
  .exact zq0 h
  .exact zq1 ⟨p,hp,by simpa using h⟩
theorem zt{f:CF}(h5:f.cl.length=5){i d c:Nat}(h:c∈db (setC f i d)):c∈db f\/c=d:=by
 rw[jG (by simpa[setC] using h5)]at h;rw[jG h5];rcases h with h|h
 .rcases mem_or_eq_of_mem_set h with h|h
  .exact zq0 (zq0 h)
  .exact zq1 h
 .exact zq0 (zq1 h)
theorem T9{f:CF}(h5:f.cl.length=5){i c:Nat}{p:Pr}(h:c∈db (setO f i p)):c∈db f\/c=p.l\/c=p.r:=by
 rw[jG (f:=setO f i p) h5]at h;rw[jG h5];rcases h with h|⟨q,hq,h⟩
 .exact zq0 (zq0 h)
 .rcases mem_or_eq_of_mem_set hq with hq|rfl
  .exact zq0 (zq1 ⟨q,hq,h⟩)
  .exact zq1 h
theorem aai{f:CF}(h5:f.cl.length=5){c:Nat}{p:Pr}(h:c∈db (qW f p)):c∈db f\/c=p.l\/c=p.r:=by
 rw[jG (f:=qW f p) h5]at h;rw[jG h5];rcases h with h|⟨q,hq,h⟩
 .exact zq0 (zq0 h)
 .rcases mem_append.1 hq with hq|hq
  .exact zq0 (zq1 ⟨q,hq,h⟩)
  .rw[mem_singleton]at hq;subst hq;exact zq1 h
theorem aaj{f:CF}(h5:f.cl.length=5){i c:Nat}(h:c∈db (jh f i)):c∈db f:=by
 rw[jG (f:=jh f i) h5]at h;rw[jG h5];rcases h with h|⟨q,hq,h⟩
 .exact zq0 h
 .exact zq1 ⟨q,(kR _ i).subset hq,h⟩
theorem PP{a b c:Nat}:(gW a b c=c\/gW a b c=a)/\(gW a b c=b->a=b):=by
 unfold gW;split
 .exact⟨zq1 rfl,λe=>e⟩
 .rename_i h;exact⟨zq0 rfl,λe=>absurd e h⟩
theorem Xa{f:CF}(h5:f.cl.length=5){a b c:Nat}(h:c∈db (sS f a b)):(c∈db f\/c=a)/\(c=b->a=b):=by
 have h5':(sS f a b).cl.length=5:=by show(f.cl.map _).length=5;simpa using h5
 rw[jG h5']at h;rw[jG h5];have key:∀d,(d∈f.cl\/∃p∈f.ow,d=p.l\/d=p.r)->c=gW a b d->((c∈f.cl\/∃p∈f.ow,c=p.l\/c=p.r)\/c=a)/\(c=b->a=b):=by
  intro d hd e;have:=@PP a b d;rw[<-e]at this;refine⟨?_,this.2⟩;rcases this.1 with h|h
  .exact zq0 (by rw[h];exact hd)
  .exact zq1 h
 rcases h with h|⟨q,hq,h⟩
 .obtain⟨d,hd,e⟩:=mem_map.1 h;exact key d (zq0 hd) e.symm
 .obtain⟨p,hp,rfl⟩:=mem_map.1 hq;rcases h with h|h
  .exact key p.l (zq1 ⟨p,hp,zq0 rfl⟩) h
  .exact key p.r (zq1 ⟨p,hp,zq1 rfl⟩) h
theorem Hr:∀(l:List Pr) {g:CF} {c d:Nat},d∈db (l.foldl (λh p=>cC h c p.l) g)->d∈db g
 |[],_,_,_,h=>h
 |p::r,g,c,d,h=>Hr r (g:=cC g c p.l) h
theorem zF:∀(l:List Pr) {g:CF} {c:Nat},(l.foldl (λh p=>cC h c p.l) g).ow=g.ow
 |[],_,_=>rfl
 |p::r,g,c=>zF r (g:=cC g c p.l)
def sl(n:Nd):Bool:=decide (n.op=7\/n.op=8\/n.op=9)
def GY(n:Nd):Bool:=decide (n.op=4)
def sF(P:Nd->Bool)(nds:List Nd)(n:Nat):Nat:=(nds.drop n).countP P
theorem Mk{P:Nd->Bool}{nds:List Nd}{n:Nat}(hn:n<nds.length):sF P nds n=sF P nds (n+1)+(if P (nds.getD n aS)=true then 1 else 0):=by
 unfold sF;rw[drop_eq_getElem_cons hn,countP_cons,getD_eq_getElem?_getD,getElem?_eq_getElem hn];rfl
theorem lO{P:Nd->Bool}{nds:List Nd}{n m:Nat}(h:n<=m):sF P nds m<=sF P nds n:=by
 unfold sF;refine List.Sublist.countP_le ?_;rw[show m=n+(m-n) by omega,<-drop_drop];exact drop_sublist _ _
theorem Mj{P:Nd->Bool}{nds:List Nd}{n m:Nat}(hn:n<nds.length)(h:n<m)(hp:P (nds.getD n aS)=true):sF P nds m+1<=sF P nds n:=by
 have h1:=Mk (P:=P) hn;rw[if_pos hp]at h1;have h2:=lO (P:=P) (nds:=nds) (n:=n+1) (m:=m) h;omega
def gx(nds:List Nd)(n:Nat)(f:CF):Nat:=9 ^ (aI f+sF GY nds n)*2 ^ (sF sl nds n)
structure yk(nds:List Nd)(n:Nat)(f:CF):Prop where
 td:Td f
 k3:K3 f
 nm:aI f+sF GY nds n<=9
theorem K3.jo{f:CF}(h:K3 f)(a b:Nat):K3 (sS f a b):=by
 intro p hp;obtain⟨q,hq,rfl⟩:=mem_map.1 hp;exact h q hq
theorem K3.owA{f:CF}(h:K3 f){i:Nat}(hi:i<f.ow.length):(owA f i).k=3:=h _ (mJ hi)
theorem MT{f:CF}(h:K3 f)(c:Nat):(lD f c).1=[]\/(lD f c).1=[f]:=by
 unfold lD;split
 .exact zq0 rfl
 .rename_i i hi;unfold MV;rw[if_pos (h.owA (eO hi).1)];exact zq1 rfl
theorem aal{f:CF}(h:K3 f){c i:Nat}(hi:i<f.ow.length):gP f c i=if dS f c (owA f i).l=true then [] else [kO f c i]:=by
 unfold gP;rw[if_neg (show ¬ ((owA f i).k=4) by rw[h.owA hi];decide),append_nil]
def JoI(f:CF)(v:Nat)(x:CF):Prop:=∃i,i<f.ow.length/\x=sS f (owA f i).l (f.cl.getD (1+v) 0)
theorem aaE{f:CF}(h:K3 f){v i:Nat}(hi:i<f.ow.length){r:List CF × Bool}(hr:∀x∈r.1,JoI f v x):(∀x∈(xP f v i r).1,JoI f v x)/\(xP f v i r).1.length<=r.1.length+1:=by
 unfold xP;rw[aal h hi];split
 .exact⟨hr,by simp⟩
 .simp only[foldl_cons,foldl_nil];have h2:=MT (h.jo (owA f i).l (f.cl.getD (1+v) 0)) ((kO f (f.cl.getD (1+v) 0) i).cl.getD (1+v) 0);unfold Db;show(∀x∈r.1++(lD (kO f _ i) _).1,_)/\(r.1++(lD (kO f _ i) _).1).length<=_;have h3:(lD (kO f (f.cl.getD (1+v) 0) i) ((kO f (f.cl.getD (1+v) 0) i).cl.getD (1+v) 0)).1=[]\/(lD (kO f (f.cl.getD (1+v) 0) i) ((kO f (f.cl.getD (1+v) 0) i).cl.getD (1+v) 0)).1=[kO f (f.cl.getD (1+v) 0) i]:=h2;rcases h3 with e|e
  .rw[e,append_nil];exact⟨hr,by omega⟩
  .rw[e];refine⟨λx hx=>?_,by simp⟩;rcases mem_append.1 hx with hx|hx
   .exact hr x hx
   .rw[mem_singleton]at hx;exact⟨i,hi,hx⟩
theorem Pk{f:CF}(h:K3 f){v:Nat}:∀(l:List Nat) {r:List CF × Bool},(∀i∈l,i<f.ow.length)->(∀x∈r.1,JoI f v x)->(∀x∈(l.foldl (λr i=>xP f v i r) r).1,JoI f v x)/\(l.foldl (λr i=>xP f v i r) r).1.length<=r.1.length+l.length
 |[],r,_,hr=>⟨hr,by simp⟩
 |i::l,r,hl,hr=>by
  obtain⟨h1,h2⟩:=aaE h (v:=v) (hl i (by simp)) hr;obtain⟨g1,g2⟩:=Pk h (v:=v) l (r:=xP f v i r) (λj hj=>hl j (by simp[hj])) h1;refine⟨g1,?_⟩;rw[foldl_cons,length_cons];omega
theorem aaD{f:CF}(h:K3 f)(v:Nat):((fC f v).1=[]\/(fC f v).1=[f])\/(cR f.ow (f.cl.getD (1+v) 0)=none/\(fC f v).1.length<=f.ow.length/\∀x∈(fC f v).1,JoI f v x):=by
 unfold fC;split
 .exact zq0 (zq0 rfl)
 .split
  .exact zq0 (MT h _)
  .rename_i hb;right;obtain⟨h1,h2⟩:=Pk h (v:=v) (range f.ow.length) (r:=([],false)) (λi hi=>mem_range.1 hi) (λx hx=>by simp at hx);exact⟨by simpa using hb,by simpa using h2,h1⟩
structure Opn(v:Nat)(G:CF->CF):Prop where
 ok:∀{x N},qw N v x->am (G x)
 lv:∀{x N},qw N v x->∀c∈db (G x),c∈db x
 k3:∀{x},K3 x->K3 (G x)
theorem EZ{f:CF}{i:Nat}(hi:i<f.ow.length):(owA f i).l∈db f/\(owA f i).r∈db f:=xO (mJ hi)
theorem LV{N v:Nat}{x:CF}(h:qw N v x):oZ x (x.cl.getD (1+v) 0)<x.ow.length:=by
 obtain⟨i,hi⟩:=Option.isSome_iff_exists.1 h.bg;unfold oZ;rw[hi];exact(eO hi).1
theorem Mb{f:CF}{k i:Nat}(hi:i<4):nV f k i∈db f:=by unfold nV;split;exact Cm (by omega);exact Cm (by omega)
theorem aaH{n:Nd}:Opn n.ai (λg=>gG g n):=⟨λh=>(yF h).1,λh c hc=>by
 rcases zt h.ok.c5 hc with hc|rfl
 .exact hc
 .exact(EZ (LV h)).2,λh=>h⟩
theorem aaJ{n:Nd}(ha:n.ai<4):Opn n.v (λg=>qX g n):=⟨λh=>(EM h).1,λh c hc=>by
 rcases T9 h.ok.c5 hc with hc|rfl|rfl
 .exact hc
 .exact(EZ (LV h)).1
 .exact Mb ha,fun {x} h p hp=>by
 rcases mem_or_eq_of_mem_set hp with hp|rfl
 .exact h p hp
 .show(owA x _).k=3;by_cases hi:oZ x (x.cl.getD (1+n.v) 0)<x.ow.length
  .exact h.owA hi
  .have ZM:(⟨(owA x (oZ x (x.cl.getD (1+n.v) 0))).k,(owA x (oZ x (x.cl.getD (1+n.v) 0))).l,nV x n.ak n.ai⟩:Pr)∈x.ow.set (oZ x (x.cl.getD (1+n.v) 0)) ⟨(owA x (oZ x (x.cl.getD (1+n.v) 0))).k,(owA x (oZ x (x.cl.getD (1+n.v) 0))).l,nV x n.ak n.ai⟩:=hp;rw[set_eq_of_length_le (by omega)]at ZM;have h9:=h _ ZM;exact h9⟩
theorem aaI(v:Nat):Opn v (λg=>qK g v):=⟨λh=>(qL h).1,fun {x N} h c hc=>by
 have h1:=Hr _ hc;exact aaj h.ok.c5 (show c∈db (jh x _) from h1),fun {x} h p hp=>by
 have h1:p∈(jh x (oZ x (x.cl.getD (1+v) 0))).ow:=by
  have e:=zF (jh x (oZ x (x.cl.getD (1+v) 0))).ow (g:=cC (jh x (oZ x (x.cl.getD (1+v) 0))) (x.cl.getD (1+v) 0) ((jh x (oZ x (x.cl.getD (1+v) 0))).cl.getD 0 0)) (c:=x.cl.getD (1+v) 0);have ZM:p∈(List.foldl (λh p=>cC h (x.cl.getD (1+v) 0) p.l) (cC (jh x (oZ x (x.cl.getD (1+v) 0))) (x.cl.getD (1+v) 0) ((jh x (oZ x (x.cl.getD (1+v) 0))).cl.getD 0 0)) (jh x (oZ x (x.cl.getD (1+v) 0))).ow).ow:=hp;rw[e]at ZM;exact ZM
 exact h p ((kR _ _).subset h1)⟩
theorem mg{f g:CF}(h:am g)(hs:∀c∈db g,c∈db f):aI (bz g)<=aI f:=by
 have:=sU h (S:=range (aI f)) (λc hc=>mem_range.2 (fK c (hs c hc)));simpa using this
theorem O6{f g:CF}{a b:Nat}(h:am g)(h5:f.cl.length=5)(ha:a∈db f)(hb:b∈db f)(og:a≠b)(hs:∀c∈db g,c∈db (sS f a b)):aI (bz g)+1<=aI f:=by
 have h1:=sU h (S:=(range (aI f)).erase b) (λc hc=>by
  obtain⟨h1,h2⟩:=Xa h5 (hs c hc);rw[List.Nodup.mem_erase_iff nodup_range,mem_range];refine⟨λe=>og (h2 e),?_⟩;rcases h1 with h1|rfl
  .exact fK c h1
  .exact fK c ha)
 rw[length_erase_of_mem (mem_range.2 (fK b hb)),length_range]at h1;have:=fK b hb;omega
theorem II{α:Type}{g:α->Nat}{X:Nat}:∀(l:List α),(∀a∈l,g a<=X)->aY g l<=l.length*X
 |[],_=>by simp[aY]
 |a::l,h=>by
  have h1:=h a (by simp);have h2:=II l (λb hb=>h b (by simp[hb]));simp only[aY,length_cons,Nat.succ_mul];omega
theorem sZ{a b:Nat}(h:a<=b):9 ^ a<=9 ^ b:=Nat.pow_le_pow_right (by omega) h
theorem sY{a b:Nat}(h:a<=b):2 ^ a<=2 ^ b:=Nat.pow_le_pow_right (by omega) h
theorem Xj{nds:List Nd}{n m:Nat}{f g:CF}(h:n<=m)(hn:aI g<=aI f):gx nds m g<=gx nds n f :=
 Nat.mul_le_mul (sZ (Nat.add_le_add hn (lO h))) (sY (lO h))
theorem Vm{nds:List Nd}{n m:Nat}{f g:CF}(h:n<=m)(hn:aI g+1<=aI f):9*gx nds m g<=gx nds n f:=by
 unfold gx;have h1:9*9 ^ (aI g+sF GY nds m)<=9 ^ (aI f+sF GY nds n):=by
  rw[Nat.mul_comm,<-Nat.pow_succ];exact sZ (by have:=lO (P:=GY) (nds:=nds) h;omega)
 rw[<-Nat.mul_assoc];exact Nat.mul_le_mul h1 (sY (lO h))
theorem aaL{f:CF}(h:am f):f.ow.length<=aI f:=by
 have:=List.Nodup.length_le_of_subset h.lf (l₂:=range (aI f)) (λc hc=>by
  obtain⟨p,hp,rfl⟩:=mem_map.1 hc;exact mem_range.2 (fK _ (xO hp).1))
 simpa using this
theorem yk.of{nds:List Nd}{n m:Nat}{f g:CF}(h:yk nds n f)(hm:n<=m)(hg:am g)(hk:K3 g)(hn:aI (bz g)<=aI f):yk nds m (bz g):=⟨hg.tidy,hk.td,by have:=h.nm;have:=lO (P:=GY) (nds:=nds) hm;omega⟩
theorem aaG{nds:List Nd}{n m v:Nat}{f:CF}{G:CF->CF}(hv:v<4)(hm:n<=m)(h:yk nds n f)(hG:Opn v G):(∀g∈(br (fC f v) G).nx,yk nds m g)/\aY (gx nds m) (br (fC f v) G).nx<=gx nds n f:=by
 have mC:=iU hv h.td.ok h.td.ln;show(∀g∈(fC f v).1.map (λx=>bz (G x)),_)/\aY _ ((fC f v).1.map (λx=>bz (G x)))<=_;rcases aaD h.k3 v with(e|e)|⟨hb,cN,hJ⟩
 .rw[e];exact⟨λg hg=>by simp at hg,by simp[aY]⟩
 .have hx:=mC f (by rw[e];simp);have hn:=mg (hG.ok hx) (hG.lv hx);rw[e];refine⟨λg hg=>?_,?_⟩
  .simp only[map_cons,map_nil,mem_singleton]at hg;subst hg;exact h.of hm (hG.ok hx) (hG.k3 h.k3) hn
  .simp only[map_cons,map_nil,aY,Nat.add_zero];exact Xj hm hn
 .have key:∀x∈(fC f v).1,aI (bz (G x))+1<=aI f/\K3 (G x)/\am (G x):=by
   intro x hx;have ho:=mC x hx;obtain⟨i,hi,rfl⟩:=hJ x hx;refine⟨O6 (hG.ok ho) h.td.ok.c5 (EZ hi).1 (Cm (by omega)) (λe=>qy hb _ (mJ hi) e) (hG.lv ho),hG.k3 (h.k3.jo _ _),hG.ok ho⟩
  refine⟨λg hg=>?_,?_⟩
  .obtain⟨x,hx,rfl⟩:=mem_map.1 hg;obtain⟨k1,k2,k3⟩:=key x hx;exact h.of hm k3 k2 (by omega)
  .have h9:f.ow.length<=9:=(by have:=aaL h.td.ok;have:=h.nm;omega);obtain⟨X,hX⟩:∃X,X=gx nds n f / 9:=⟨_,rfl⟩;have h1:=II (g:=gx nds m) (X:=X) ((fC f v).1.map (λx=>bz (G x))) (λg hg=>by
    obtain⟨x,hx,rfl⟩:=mem_map.1 hg;have:=Vm (nds:=nds) hm (key x hx).1;omega)
   rw[length_map]at h1;have h2:(fC f v).1.length*X<=9*X:=Nat.mul_le_mul_right _ (by omega);omega
theorem CP{α:Type}(g:α->Nat):∀(a b:List α),aY g (a++b)=aY g a+aY g b
 |[],b=>by simp[aY]
 |x::a,b=>by simp only[cons_append,aY,CP g a b];omega
theorem Qc{α:Type}(g:α->Nat){a b:List α}(h:a.Sublist b):aY g a<=aY g b:=by
 induction h with
 |slnil=>exact zq4 _
 |cons x _ ih=>simp only[aY];omega
 |cons_cons x _ ih=>simp only[aY];omega
structure XV(nds:List Nd)(n:Nat)(f:CF)(o:Lz):Prop where
 nx:∀g∈o.nx,yk nds (nds.getD n aS).nx g
 ot:∀g∈o.ot,yk nds (nds.getD n aS).ot g
 w:aY (gx nds (nds.getD n aS).nx) o.nx+aY (gx nds (nds.getD n aS).ot) o.ot<=gx nds n f
structure Fwd(nds:List Nd):Prop where
 v:∀n,(nds.getD n aS).v<4/\(nds.getD n aS).ai<4
 nx:∀n,n<nds.length->(nds.getD n aS).op≠0->n<(nds.getD n aS).nx
 ot:∀n,n<nds.length->sl (nds.getD n aS)=true->n<(nds.getD n aS).ot
theorem abC{nds:List Nd}{n m k:Nat}{f g h:CF}(hn:n<nds.length)(ht:sl (nds.getD n aS)=true)(hm:n<m)(hk:n<k)(hg:aI g<=aI f)(hh:aI h<=aI f):gx nds m g+gx nds k h<=gx nds n f:=by
 have one:∀{m:Nat} {g:CF},n<m->aI g<=aI f->2*gx nds m g<=gx nds n f:=fun {m g} hm hg=>by
  unfold gx;have h1:=sZ (show aI g+sF GY nds m<=aI f+sF GY nds n by have:=lO (P:=GY) (nds:=nds) (Nat.le_of_lt hm);omega);have h2:2*2 ^ (sF sl nds m)<=2 ^ (sF sl nds n):=by
   rw[Nat.mul_comm,<-Nat.pow_succ];exact sY (Mj hn hm ht)
  calc 2*(9 ^ (aI g+sF GY nds m)*2 ^ (sF sl nds m))=9 ^ (aI g+sF GY nds m)*(2*2 ^ (sF sl nds m)):=by rw[Nat.mul_left_comm]
   _<=_:=Nat.mul_le_mul h1 h2
 have h1:=one hm hg;have h2:=one hk hh;omega
theorem ad4{nds:List Nd}(hF:Fwd nds){n:Nat}(hn:n<nds.length){f:CF}(h:yk nds n f):XV nds n f (b8 (nds.getD n aS) f):=by
 obtain⟨hv,ha⟩:=hF.v n;have wg:=hF.nx n hn;have Ra:=hF.ot n hn;obtain⟨nd,c9⟩:∃nd,nd=nds.getD n aS:=⟨_,rfl⟩;have h5:=h.td.ok.c5;have keep:∀{m:Nat} {g:CF},n<=m->am g->K3 g->(∀c∈db g,c∈db f)->yk nds m (bz g)/\gx nds m (bz g)<=gx nds n f:=λhm hg hk hl =>
  ⟨h.of hm hg hk (mg hg hl),Xj hm (mg hg hl)⟩
 have one:∀{g:CF},(nds.getD n aS).op≠0->am g->K3 g->(∀c∈db g,c∈db f)->XV nds n f ⟨[bz g],[],false,false,false⟩:=λho hg hk hl=>by
  obtain⟨k1,k2⟩:=keep (Nat.le_of_lt (wg ho)) hg hk hl;exact⟨λx hx=>by simp only[mem_singleton]at hx;subst hx;exact k1,λx hx=>by simp at hx,by simp only[aY,Nat.add_zero];exact k2⟩
 have opn:∀{v:Nat} {G:CF->CF},(nds.getD n aS).op≠0->v<4->Opn v G->XV nds n f (br (fC f v) G):=λho hv hG=>by
  obtain⟨k1,k2⟩:=aaG hv (Nat.le_of_lt (wg ho)) h hG;exact⟨k1,λx hx=>by simp[br]at hx,by show _+aY _ ([]:List CF)<=_;simp only[aY,Nat.add_zero];exact k2⟩
 -- the two sides of a test
 have hjo:∀{a b:Nat},a∈db f->dS f a b=false->am (sS f a b)/\K3 (sS f a b)/\∀c∈db (sS f a b),c∈db f:=fun {a b} BJ hd=>⟨h.td.ok.jo (by have:=fK _ BJ;have:=h.nm;omega) (gi hd),h.k3.jo _ _,λc hc=>by
  rcases(Xa h5 hc).1 with hc|rfl
  .exact hc
  .exact BJ⟩
 have test:∀{x y:List CF} {m k:Nat},sl (nds.getD n aS)=true->n<m->n<k->(x=[]\/∃g,x=[bz g]/\am g/\K3 g/\∀c∈db g,c∈db f)->(y=[]\/∃g,y=[bz g]/\am g/\K3 g/\∀c∈db g,c∈db f)->(∀g∈x,yk nds m g)/\(∀g∈y,yk nds k g)/\aY (gx nds m) x+aY (gx nds k) y<=gx nds n f:=by
  intro x y m k ht hm hk hx hy;rcases hx with rfl|⟨g,rfl,g1,g2,g3⟩
  .rcases hy with rfl|⟨g',rfl,g1',g2',g3'⟩
   .exact⟨λz hz=>by simp at hz,λz hz=>by simp at hz,by simp[aY]⟩
   .obtain⟨k1,k2⟩:=keep (Nat.le_of_lt hk) g1' g2' g3';exact⟨λz hz=>by simp at hz,λz hz=>by rw[mem_singleton]at hz;subst hz;exact k1,by simp only[aY,Nat.add_zero,Nat.zero_add];exact k2⟩
  .rcases hy with rfl|⟨g',rfl,g1',g2',g3'⟩
   .obtain⟨k1,k2⟩:=keep (Nat.le_of_lt hm) g1 g2 g3;exact⟨λz hz=>by rw[mem_singleton]at hz;subst hz;exact k1,λz hz=>by simp at hz,by simp only[aY,Nat.add_zero];exact k2⟩
   .obtain⟨k1,-⟩:=keep (Nat.le_of_lt hm) g1 g2 g3;obtain⟨k1',-⟩:=keep (Nat.le_of_lt hk) g1' g2' g3';exact⟨λz hz=>by rw[mem_singleton]at hz;subst hz;exact k1,λz hz=>by rw[mem_singleton]at hz;subst hz;exact k1',by simp only[aY,Nat.add_zero];exact abC hn ht hm hk (mg g1 g3) (mg g1' g3')⟩
 have self:∃g,[bz f]=[bz g]/\am g/\K3 g/\∀c∈db g,c∈db f:=⟨f,rfl,h.td.ok,h.k3,λc hc=>hc⟩;have cm1:(jM f nd).1=[]\/∃g,(jM f nd).1=[bz g]/\am g/\K3 g/\∀c∈db g,c∈db f:=by
  simp only[jM];split
  .exact zq0 rfl
  .rename_i hd;exact zq1 ⟨_,rfl,hjo (Cm (by rw[c9];omega)) (by simpa using hd)⟩
 have cm2:(jM f nd).2=[]\/∃g,(jM f nd).2=[bz g]/\am g/\K3 g/\∀c∈db g,c∈db f:=by
  simp only[jM];split
  .exact zq0 rfl
  .exact zq1 ⟨_,rfl,h.td.ok.pa (h.td.ok.get _) (h.td.ok.cT _ _),h.k3,λc hc=>hc⟩
 rw[<-c9]at hv ha wg Ra one opn test ⊢;have TB:nd.op≠0->n<nd.nx:=wg;unfold b8;split
 .exact⟨λx hx=>by simp[uF]at hx,λx hx=>by simp[uF]at hx,by simp[uF,aY]⟩
 .rename_i h0;split
  .exact one h0 (h.td.ok.sC _ (h.td.ok.cT _ _)) h.k3 (λc hc=>by
    rcases zt h5 hc with hc|rfl
    .exact hc
    .exact Mb ha)
  .split
   .exact opn h0 ha aaH
   .split
    .exact opn h0 hv (aaJ ha)
    .split
     .rename_i h4;split
      .exact⟨λx hx=>by simp at hx,λx hx=>by simp at hx,by simp[aY]⟩
      .rename_i hN;have NJ:=qB (v:=nd.v) h.td.ok (by omega);have aq:=TB h0;have Q4:=Mj (P:=GY) hn aq (by rw[<-c9];simpa[GY] using h4);have uj:aI (bz (C9 f nd.v))<=aI f+1:=by
        have:=sU NJ (S:=range (aI f+1)) (λc hc=>by
         rw[mem_range];rcases zt (f:=qW f ⟨3,aI f,f.cl.getD 0 0⟩) h5 hc with hc|rfl
         .rcases aai h5 hc with hc|rfl|rfl
          .have:=fK c hc;omega
          .exact Nat.lt_succ_self _
          .have:=fK _ (Cm (f:=f) (i:=0) (by omega));show f.cl.getD 0 0<aI f+1;omega
         .exact Nat.lt_succ_self _)
        simpa using this
       have hk:K3 (C9 f nd.v):=by
        intro p hp;rcases mem_append.1 hp with hp|hp
        .exact h.k3 p hp
        .rw[mem_singleton]at hp;subst hp;rfl
       have arl:=h.nm;refine⟨λx hx=>?_,λx hx=>by simp at hx,?_⟩
       .simp only[mem_singleton]at hx;subst hx;exact⟨NJ.tidy,hk.td,by rw[<-c9];omega⟩
       .simp only[aY,Nat.add_zero];rw[<-c9];exact Nat.mul_le_mul (sZ (by omega)) (sY (lO (Nat.le_of_lt aq)))
     .split
      .exact opn h0 hv (aaI nd.v)
      .split
       .rename_i h7;have ht:sl nd=true:=(by simp[sl,h7]);obtain⟨k1,k2,k3⟩:=test ht (TB h0) (Ra ht) (zq1 self) (zq1 self);exact⟨by rw[<-c9];exact k1,by rw[<-c9];exact k2,by rw[<-c9];exact k3⟩
       .split
        .rename_i h8;have ht:sl nd=true:=(by simp[sl,h8]);obtain⟨k1,k2,k3⟩:=test ht (TB h0) (Ra ht) cm1 cm2;exact⟨by rw[<-c9];exact k1,by rw[<-c9];exact k2,by rw[<-c9];exact k3⟩
        .split
         .rename_i h9;have ht:sl nd=true:=(by simp[sl,h9]);obtain⟨k1,k2,k3⟩:=test ht (TB h0) (Ra ht) cm2 cm1;exact⟨by rw[<-c9];exact k1,by rw[<-c9];exact k2,by rw[<-c9];exact k3⟩
         .exact one h0 h.td.ok h.k3 (λc hc=>hc)
def ss(g:Nat->List f9->Nat):Nat->List (List f9)->Nat
 |_,[]=>0
 |k,a::l=>g k a+ss g (k+1) l
theorem u7(g:Nat->List f9->Nat):∀(l:List (List f9)) (k n:Nat) (x:List f9),n<l.length->ss g k (l.set n x)+g (k+n) (l.getD n [])=ss g k l+g (k+n) x
 |[],k,n,x,h=>by simp at h
 |a::l,k,0,x,_=>by simp[ss];omega
 |a::l,k,n+1,x,h=>by
  have:=u7 g l (k+1) n x (by simpa using h);rw[show k+1+n=k+(n+1) by omega]at this;simp only[set_cons_succ,ss,getD_cons_succ];omega
theorem CQ(g:Nat->List f9->Nat):∀(l:List (List f9)) (k n:Nat),n<l.length->g (k+n) (l.getD n [])<=ss g k l
 |[],k,n,h=>by simp at h
 |a::l,k,0,_=>by simp[ss]
 |a::l,k,n+1,h=>by
  have:=CQ g l (k+1) n (by simpa using h);rw[show k+1+n=k+(n+1) by omega]at this;simp only[ss,getD_cons_succ];omega
def Kv(nds:List Nd)(s:Sr):Nat:=ss (λn l=>aY (gx nds n) (kH l)) 0 s.kn
structure tG(c:Cd)(cu rest:Nat)(s:Sr):Prop where
 kl:s.kn.length=c.nds.length
 fo:∀n,∀e∈bh s n,yk c.nds n e.f
 un:∀n,cu<=n->∀e∈bh s n,e.d=false
 dn:∀n,n<cu->∀e∈bh s n,e.d=true
 tw:Kv c.nds s+rest<=rX
 ok:s.ok=true
theorem abB(nds:List Nd)(n:Nat)(f:CF):1<=gx nds n f:=Nat.mul_pos (Nat.pow_pos (by omega)) (Nat.pow_pos (by omega))
theorem Hi{nds:List Nd}{n:Nat}:∀(l:List CF),l.length<=aY (gx nds n) l
 |[]=>by simp
 |f::l=>by
  have:=abB nds n f;have:=Hi (nds:=nds) (n:=n) l;simp only[aY,length_cons];omega
theorem Gv{l:List f9}(h:∀e∈l,e.d=false):kH l=l.map (·.f):=by
 unfold kH;rw[filter_eq_self.2 (λe he=>by rw[h e he];rfl)]
theorem TS{s:Sr}{n:Nat}(h:s.kn.length<=n):bh s n=[]:=by unfold bh;rw[getD_eq_getElem?_getD,getElem?_eq_none h];rfl
theorem mD{s:Sr}{n m:Nat}{x:List f9}{s':Sr}(e:s'.kn=s.kn.set n x):bh s' m=if m=n/\n<s.kn.length then x else bh s m:=by
 unfold bh;rw[e,getD_eq_getElem?_getD,getElem?_set];by_cases h:n=m
 .subst h;by_cases hl:n<s.kn.length
  .simp[hl]
  .rw[if_pos rfl,if_neg hl,if_neg (by simp[hl]),getD_eq_getElem?_getD,getElem?_eq_none (by omega)]
 .rw[if_neg h,if_neg (by rintro⟨rfl,-⟩;exact h rfl),getD_eq_getElem?_getD]
theorem tG.len{c:Cd}{cu rest n:Nat}{s:Sr}(h:tG c cu rest s)(hn:cu<=n):(bh s n).length<=rX:=by
 by_cases hl:n<s.kn.length
 .have h1:=CQ (λn l=>aY (gx c.nds n) (kH l)) s.kn 0 n hl;have h2:(bh s n).length<=aY (gx c.nds n) (kH (bh s n)):=by
   have h3:=Hi (nds:=c.nds) (n:=n) (kH (bh s n));rw[Gv (h.un n hn),length_map]at h3;rw[Gv (h.un n hn)];exact h3
  have h3:=h.tw;unfold Kv at h3;rw[Nat.zero_add]at h1;have h4:(bh s n).length<=ss (λn l=>aY (gx c.nds n) (kH l)) 0 s.kn:=zq3 h2 h1;omega
 .rw[TS (by omega)];simp
structure XY(c:Cd):Prop where
 lp:c.lp=false
 bd:c.bd=false
 hd:∀n,c.hd.getD n false=false
 fw:Fwd c.nds
theorem Ck{c:Cd}(hc:XY c){cu rest n:Nat}(hn:cu<=n){f:CF}(hf:yk c.nds n f){s:Sr}(h:tG c cu (rest+gx c.nds n f) s):tG c cu rest (bG c n f s):=by
 have hN:ch c n f=f:=by unfold ch;rw[if_neg (by rw[hc.hd n];decide)]
 have cN:=h.len hn;unfold bG;rw[hN];split
 .exact⟨h.kl,h.fo,h.un,h.dn,by have:=h.tw;show Kv c.nds s+rest<=rX;omega,by show(s.ok&&decide ((bh s n).length<=rX))=true;rw[h.ok];simpa using cN⟩
 .obtain⟨x,hx⟩:∃x,x=(bh s n).filter (λe=>!zZ e.f f)++[⟨f,false⟩]:=⟨_,rfl⟩;obtain⟨s',hs'⟩:∃s',s'=pV c (m9 n f (mb c s (2*(bh s n).length))):=⟨_,rfl⟩;have eV:s'.kn=s.kn.set n x:=by rw[hs',hx];rfl
  have bf:s'.ok=true:=by rw[hs'];show(s.ok&&decide ((bh s n).length<=rX))=true;rw[h.ok];simpa using cN
  rw[<-hs'];refine⟨by rw[eV,length_set];exact h.kl,λm e he=>?_,λm hm e he=>?_,λm hm e he=>?_,?_,bf⟩
  .rw[mD eV]at he;split at he
   .rename_i hm;rw[hm.1];rw[hx]at he;rcases mem_append.1 he with he|he
    .exact h.fo n e (mem_filter.1 he).1
    .rw[mem_singleton]at he;subst he;exact hf
   .exact h.fo m e he
  .rw[mD eV]at he;split at he
   .rw[hx]at he;rcases mem_append.1 he with he|he
    .exact h.un n hn e (mem_filter.1 he).1
    .rw[mem_singleton]at he;subst he;rfl
   .exact h.un m hm e he
  .rw[mD eV,if_neg (by rintro⟨rfl,-⟩;omega)]at he;exact h.dn m hm e he
  .have htw:=h.tw;unfold Kv at htw ⊢;rw[eV];by_cases hl:n<s.kn.length
   .have h1:=u7 (λn l=>aY (gx c.nds n) (kH l)) s.kn 0 n x hl;rw[Nat.zero_add]at h1;have h2:aY (gx c.nds n) (kH x)<=aY (gx c.nds n) (kH (bh s n))+gx c.nds n f:=by
     have e1:kH x=kH ((bh s n).filter (λe=>!zZ e.f f))++[f]:=by
      rw[hx];unfold kH;rw[filter_append,map_append];rfl
     rw[e1,CP];have h3:aY (gx c.nds n) (kH ((bh s n).filter (λe=>!zZ e.f f)))<=aY (gx c.nds n) (kH (bh s n)):=Qc _ ((filter_sublist.filter _).map _);simp only[aY];omega
    have h3:aY (gx c.nds n) (kH (s.kn.getD n []))=aY (gx c.nds n) (kH (bh s n)):=rfl;omega
   .rw[set_eq_of_length_le (by omega)];omega
theorem Ci{c:Cd}(hc:XY c){cu n fuel a:Nat}(hn:cu<=n):∀(l:List CF) {rest:Nat} {s:Sr},(∀f∈l,yk c.nds n f)->tG c cu (rest+aY (gx c.nds n) l) s->tG c cu rest (l.foldl (λs g=>dG c fuel a n g s) s)
 |[],rest,s,_,h=>h
 |f::l,rest,s,hl,h=>by
  have e:dG c fuel a n f s=bG c n f s:=by unfold dG;rw[if_pos (zq0 hc.lp)]
  rw[foldl_cons,e];refine Ci hc hn l (λg hg=>hl g (by simp[hg])) (Ck hc hn (hl f (by simp)) ?_);have e2:rest+aY (gx c.nds n) (f::l)=rest+aY (gx c.nds n) l+gx c.nds n f:=by simp only[aY];omega
  rw[<-e2];exact h
theorem tG.wrI{c:Cd}{cu rest n k:Nat}{b:Bool}{s:Sr}(h:tG c cu rest s):tG c cu rest (wrI b n k s):=by
 unfold Go.Proofs.YtciihepbeacppaaGreat.wrI;split
 .exact⟨h.kl,h.fo,h.un,h.dn,h.tw,h.ok⟩
 .exact h
theorem tG.fuS{c:Cd}{cu rest:Nat}{b:Bool}{s:Sr}(h:tG c cu rest s):tG c cu rest (fuS b s):=⟨h.kl,h.fo,h.un,h.dn,h.tw,h.ok⟩
theorem UZ{c:Cd}(hc:XY c){n rest fuel:Nat}(hn:n<c.nds.length){f:CF}(hf:yk c.nds n f){s:Sr}(h:tG c (n+1) (rest+gx c.nds n f) s):tG c (n+1) rest (nH c fuel n f s):=by
 have hw:=ad4 hc.fw hn hf;have wg:=hc.fw.nx n hn;have Ra:=hc.fw.ot n hn;obtain⟨o,ho⟩:∃o,o=b8 (c.nds.getD n aS) f:=⟨_,rfl⟩;have sd:o.nx≠[]->n<(c.nds.getD n aS).nx:=λaJ=>wg (λe=>aJ (by rw[ho];unfold b8;rw[if_pos e];rfl));have aly:o.ot≠[]->n<(c.nds.getD n aS).ot:=λaJ=>Ra (by
  apply Classical.byContradiction;intro hT;apply aJ;have YX:¬ ((c.nds.getD n aS).op=7\/(c.nds.getD n aS).op=8\/(c.nds.getD n aS).op=9):=by simpa[sl] using hT
  rw[ho];unfold b8;split
  .rfl
  .split
   .rfl
   .split
    .rfl
    .split
     .rfl
     .split
      .split <;> rfl
      .split
       .rfl
       .split
        .exact absurd (zq0 (by assumption)) YX
        .split
         .exact absurd (zq1 (zq0 (by assumption))) YX
         .split
          .exact absurd (zq1 (zq1 (by assumption))) YX
          .rfl)
 rw[<-ho]at hw;unfold nH;simp only[<-ho];have lay1:∀{l:List CF} {m rest:Nat} {s:Sr},(l≠[]->n<m)->(∀g∈l,yk c.nds m g)->tG c (n+1) (rest+aY (gx c.nds m) l) s->tG c (n+1) rest (l.foldl (λs g=>dG c fuel n m g s) s):=by
  intro l m rest s hm hl hs;by_cases e:l=[]
  .subst e;exact hs
  .exact Ci hc (hm e) l hl hs
 refine lay1 aly hw.ot (lay1 sd hw.nx ?_);have h1:tG c (n+1) (rest+aY (gx c.nds (c.nds.getD n aS).ot) o.ot+aY (gx c.nds (c.nds.getD n aS).nx) o.nx) s:=⟨h.kl,h.fo,h.un,h.dn,by have:=h.tw;have:=hw.w;omega,h.ok⟩;exact h1.wrI.wrI.wrI.fuS
theorem IU{c:Cd}(hc:XY c){n fuel:Nat}(hn:n<c.nds.length):∀(l:List CF) {s:Sr},(∀f∈l,yk c.nds n f)->tG c (n+1) (aY (gx c.nds n) l) s->tG c (n+1) 0 (lL c fuel n l s)
 |[],s,_,h=>h
 |f::l,s,hl,h=>by
  unfold lL;split
  .exact⟨h.kl,h.fo,h.un,h.dn,by have:=h.tw;omega,h.ok⟩
  .refine IU hc hn l (λg hg=>hl g (by simp[hg])) (UZ hc hn (hl f (by simp)) ?_);have e:aY (gx c.nds n) (f::l)=aY (gx c.nds n) l+gx c.nds n f:=(by simp only[aY];omega);rw[<-e];exact h
theorem Ve{c:Cd}(hc:XY c){cu n fuel:Nat}{s:Sr}(hcu:cu<=n)(hn:n<c.nds.length)(hb:∀m,cu<=m->m<n->bh s m=[])(h:tG c cu 0 s):tG c (n+1) 0 (qd c fuel n s):=by
 have hl:n<s.kn.length:=by rw[h.kl];exact hn
 have hF:∀f∈kH (bh s n),yk c.nds n f:=by
  intro f hf;obtain⟨e,he,rfl⟩:=mem_map.1 hf;exact h.fo n e (mem_filter.1 he).1
 refine IU hc hn _ hF ?_;obtain⟨x,hx⟩:∃x,x=(bh s n).map (λe=>(⟨e.f,true⟩:f9)):=⟨_,rfl⟩;have eV:({ s with kn:=s.kn.set n ((bh s n).map (λe=>⟨e.f,true⟩)) }:Sr).kn=s.kn.set n x:=by rw[hx]
 refine⟨by rw[eV,length_set];exact h.kl,λm e he=>?_,λm hm e he=>?_,λm hm e he=>?_,?_,h.ok⟩
 .rw[mD eV]at he;split at he
  .rename_i hm;rw[hx]at he;obtain⟨y,hy,rfl⟩:=mem_map.1 he;rw[hm.1];exact h.fo n y hy
  .exact h.fo m e he
 .rw[mD eV,if_neg (by rintro⟨rfl,-⟩;omega)]at he;exact h.un m (by omega) e he
 .rw[mD eV]at he;split at he
  .rw[hx]at he;obtain⟨y,-,rfl⟩:=mem_map.1 he;rfl
  .rename_i hm';by_cases hmc:m<cu
   .exact h.dn m hmc e he
   .rw[hb m (by omega) (by
     have:m≠n:=λe=>hm' ⟨e,hl⟩;omega)]at he
    simp at he
 .have htw:=h.tw;unfold Kv at htw ⊢;rw[eV];have h1:=u7 (λn l=>aY (gx c.nds n) (kH l)) s.kn 0 n x hl;rw[Nat.zero_add]at h1;have h2:kH x=[]:=by
   rw[hx];unfold kH;rw[map_eq_nil_iff,filter_eq_nil_iff];intro e he;obtain⟨y,-,rfl⟩:=mem_map.1 he;simp
  have h3:aY (gx c.nds n) (kH (s.kn.getD n []))=aY (gx c.nds n) (kH (bh s n)):=rfl;rw[h2]at h1;simp only[aY]at h1;omega
theorem Iv{c:Cd}(hc:XY c){fuel:Nat}:∀(k:Nat) {cu:Nat} {s:Sr},tG c cu 0 s->c.nds.length<k+cu->cu<=c.nds.length->(ng c fuel k s).ok=true
 |0,_,_,_,h,h'=>by omega
 |k+1,cu,s,h,hk,_=>by
  unfold ng;split
  .exact h.ok
  .rename_i n hp;split
   .exact h.ok
   .obtain⟨hn,px,NA⟩:=findIdx?_eq_some_iff_getElem.1 hp;have at_:∀j,(hj:j<s.kn.length)->bh s j=s.kn[j]:=λj hj=>by unfold bh;rw[getD_eq_getElem?_getD,getElem?_eq_getElem hj];rfl
    have hcu:cu<=n:=by
     apply Classical.byContradiction;intro aq;obtain⟨e,he,hde⟩:=any_eq_true.1 px;rw[<-at_ n hn]at he;rw[h.dn n (by omega) e he]at hde;simp at hde
    have hn':n<c.nds.length:=(by rw[<-h.kl];exact hn);have hS:=Ve hc (fuel:=fuel) hcu hn' (λm hm hmn=>by
     rw[eq_nil_iff_forall_not_mem];intro e he;have h1:=h.un m hm e he;have h2:=NA m hmn;rw[at_ m (by omega)]at he;apply h2;rw[any_eq_true];exact⟨e,he,by rw[h1];rfl⟩) h
    exact Iv hc k hS (by omega) (by omega)
def Mo(s t:PS):Prop:=t.nodes=s.nodes/\s.vars.length<=t.vars.length/\s.hid.length<=t.hid.length
theorem Mo.refl(s:PS):Mo s s:=⟨rfl,zq4 _,zq4 _⟩
theorem Mo.trans{s t u:PS}(h:Mo s t)(h':Mo t u):Mo s u:=⟨h'.1.trans h.1,zq3 h.2.1 h'.2.1,zq3 h.2.2 h'.2.2⟩
def Lw(L i:Nat):Prop:=i=0\/i<L
theorem Lw.up{L L' i:Nat}(h:Lw L i)(hL:L<=L'):Lw L' i:=h.imp id (λh=>by omega)
section
variable {ws:List ByteArray} {s:PS}
theorem fE:Mo s s.adv:=⟨rfl,zq4 _,zq4 _⟩
theorem bJ(k:ByteArray):Mo s (bp ws k s):=by unfold bp;split <;> exact⟨rfl,zq4 _,zq4 _⟩
theorem mK(l:List UInt8)(c:UInt8):l.length<=(put l c).length/\plc l c<(put l c).length:=by
 unfold put;have:=uJ l c;split
 .simp;omega
 .exact⟨zq4 _,by omega⟩
theorem vm:Mo s (cn ws s):=by
 unfold cn;split
 .exact⟨rfl,(mK _ _).1,zq4 _⟩
 .exact⟨rfl,zq4 _,zq4 _⟩
theorem vj:Lw (cn ws s).vars.length (rR ws s):=by
 unfold rR cn;split
 .exact zq1 (mK _ _).2
 .exact zq0 rfl
theorem fM:Mo s (cO ws s):=by
 unfold cO;split
 .exact fE
 .exact vm
theorem tq:Lw (cO ws s).vars.length (fB ws s):=by
 unfold fB cO;split
 .exact zq0 rfl
 .exact vj
theorem ro:Mo s (ev ws s):=by
 unfold ev;split
 .exact⟨rfl,zq4 _,(mK _ _).1⟩
 .exact fM
theorem DX:Mo s (Aq ws s):=by
 unfold Aq;split
 .exact fE
 .exact bJ _
theorem Yg:Mo s (tO ws s):=by
 unfold tO;split
 .exact fE
 .exact(vm.trans DX).trans fM
theorem Fo:Mo s (K7 ws s):=((bJ _).trans Yg).trans (bJ _)
theorem LO:Mo s (rW ws s):=by
 unfold rW;split
 .exact fE
 .split
  .exact(fM.trans fE).trans (bJ _)
  .exact fM
theorem Fc:Mo s (Dv ws s):=(fE.trans (bJ _)).trans (bJ _)
theorem P4:Mo s (mq ws s):=by
 unfold mq;split
 .exact fE
 .split
  .exact fE.trans vm
  .split
   .exact(vm.trans Fc).trans fM
   .exact(vm.trans (bJ _)).trans LO
theorem Yf:Lw (tO ws s).vars.length (Ap ws s).v/\Lw (tO ws s).vars.length (Ap ws s).ai/\(1<=(Ap ws s).op/\(Ap ws s).op<=9):=by
 unfold Ap tO;split
 .exact⟨zq0 rfl,zq0 rfl,by decide⟩
 .refine⟨vj.up (DX.trans fM).2.1,tq,?_⟩;show 1<=Sk ws (cn ws s)/\Sk ws (cn ws s)<=9;unfold Sk;split <;> decide
theorem X5{v:Nat}(hv:Lw s.vars.length v):Lw (rW ws s).vars.length (Ai ws v s).v/\Lw (rW ws s).vars.length (Ai ws v s).ai/\(1<=(Ai ws v s).op/\(Ai ws v s).op<=6)/\(Ai ws v s).ot=0:=by
 unfold Ai rW;split
 .exact⟨hv,zq0 rfl,by show 1<=(4:Nat)/\(4:Nat)<=6;decide,rfl⟩
 .split
  .exact⟨hv.up ((fM.trans fE).trans (bJ _)).2.1,tq.up (fE.trans (bJ _)).2.1,by show 1<=(2:Nat)/\(2:Nat)<=6;decide,rfl⟩
  .exact⟨hv.up fM.2.1,tq,by show 1<=(1:Nat)/\(1:Nat)<=6;decide,rfl⟩
theorem abi:Lw (mq ws s).vars.length (oK ws s).v/\Lw (mq ws s).vars.length (oK ws s).ai/\(1<=(oK ws s).op/\(oK ws s).op<=6)/\(oK ws s).ot=0:=by
 unfold oK mq;split
 .exact⟨zq0 rfl,zq0 rfl,by decide,rfl⟩
 .split
  .exact⟨vj,zq0 rfl,by show 1<=(5:Nat)/\(5:Nat)<=6;decide,rfl⟩
  .split
   .exact⟨vj.up (Fc.trans fM).2.1,tq,by show 1<=(3:Nat)/\(3:Nat)<=6;decide,rfl⟩
   .exact X5 (vj.up (bJ _).2.1)
def ts(L b E:Nat)(M:List Nd):Prop:=∀k nd,M[k]?=some nd->Lw L nd.v/\Lw L nd.ai/\(1<=nd.op/\nd.op<=10)/\(nd.nx<=E/\nd.ot<=E)/\(sl nd=true->b+k<nd.ot)/\(nd.op≠10->nd.nx=b+k+1)/\(nd.op=10->nd.nx≠b+k)
theorem ts.nil(L b E:Nat):ts L b E []:=λk nd h=>by simp at h
theorem ts.up{L L' b E E':Nat}{M:List Nd}(h:ts L b E M)(hL:L<=L')(hE:E<=E'):ts L' b E' M:=λk nd hk=>⟨(h k nd hk).1.up hL,(h k nd hk).2.1.up hL,(h k nd hk).2.2.1,by have:=(h k nd hk).2.2.2.1;omega,(h k nd hk).2.2.2.2⟩
theorem ts.app{L b E:Nat}{M N:List Nd}(h:ts L b E M)(h':ts L (b+M.length) E N):ts L b E (M++N):=by
 intro k nd hk;by_cases hl:k<M.length
 .rw[getElem?_append_left hl]at hk;exact h k nd hk
 .rw[getElem?_append_right (by omega)]at hk;have:=h' _ nd hk;rw[show b+M.length+(k-M.length)=b+k by omega]at this;exact this
theorem ts.one{L b E:Nat}{nd:Nd}(h:Lw L nd.v/\Lw L nd.ai/\(1<=nd.op/\nd.op<=10)/\(nd.nx<=E/\nd.ot<=E)/\(sl nd=true->b<nd.ot)/\(nd.op≠10->nd.nx=b+1)/\(nd.op=10->nd.nx≠b)):ts L b E [nd]:=by
 intro k nd' hk;cases k with
 |zero =>
  have:nd=nd':=by simpa using hk
  subst this;exact h
 |succ k=>simp at hk
def Ex(s t:PS):Prop:=∃M,t.nodes=s.nodes++M/\s.vars.length<=t.vars.length/\s.hid.length<=t.hid.length/\ts t.vars.length s.nodes.length t.nodes.length M
theorem Mo.ex{t:PS}(h:Mo s t):Ex s t:=⟨[],by rw[h.1,append_nil],h.2.1,h.2.2,ts.nil _ _ _⟩
theorem Ex.trans{t u:PS}(h:Ex s t)(h':Ex t u):Ex s u:=by
 obtain⟨M,h1,h2,GE,h3⟩:=h;obtain⟨N,g1,g2,g2',g3⟩:=h';refine⟨M++N,by rw[g1,h1,append_assoc],zq3 h2 g2,zq3 GE g2',(h3.up g2 (by rw[g1,length_append];omega)).app ?_⟩;rw[h1,length_append]at g3;exact g3
theorem aa4:Ex s (Iw ws s):=by
 have hm:Mo s (bp ws l9 (mq ws s)):=P4.trans (bJ _);obtain⟨h1,h2,h3,h4⟩:=@abi ws s;have hv:=(@bJ ws (mq ws s) l9).2.1;have hn:(Iw ws s).nodes=s.nodes++[{ oK ws s with nx:=s.nodes.length+1 }]:=by
  show(bp ws l9 (mq ws s)).nodes++[{ oK ws s with nx:=(bp ws l9 (mq ws s)).nodes.length+1 }]=_;rw[hm.1]
 refine⟨[{ oK ws s with nx:=s.nodes.length+1 }],hn,hm.2.1,hm.2.2,?_⟩;rw[hn,length_append];refine ts.one ⟨h1.up hv,h2.up hv,by show 1<=(oK ws s).op/\(oK ws s).op<=10;omega,⟨zq4 _,by show(oK ws s).ot<=_;rw[h4];exact zq5 _⟩,λh=>?_,λ_=>rfl,λh=>?_⟩
 .exfalso;have h':(oK ws s).op=7\/(oK ws s).op=8\/(oK ws s).op=9:=by simpa[sl] using h
  omega
 .exfalso;have h':(oK ws s).op=10:=h;omega
theorem oG{α:Type}(f:α->α)(t:α)(R:List α):∀(A:List α) {k:Nat},k=A.length->(A++t::R).modify k f=A++f t::R
 |[],k,h=>by subst h;rfl
 |a::A,k,h=>by subst h;simp[modify_succ_cons,oG f t R A rfl]
theorem rj(A R:List Nd)(t:Nd)(k n:Nat)(h:k=A.length):eG k n (A++t::R)=A++{ t with ot:=n }::R:=oG _ t R A h
theorem xX(A R:List Nd)(t:Nd)(k n:Nat)(h:k=A.length):ic k n (A++t::R)=A++{ t with nx:=n }::R:=oG _ t R A h
theorem Qm{blk:PS->PS}(hb:∀t,Ex t (blk t))(k:ByteArray):∃(tn:Nd) (M:List Nd),(blk (jx ws (bp ws k s))).nodes=s.nodes++tn::M/\s.vars.length<=(blk (jx ws (bp ws k s))).vars.length/\s.hid.length<=(blk (jx ws (bp ws k s))).hid.length/\ts (blk (jx ws (bp ws k s))).vars.length (s.nodes.length+1) (s.nodes.length+1+M.length) M/\Lw (blk (jx ws (bp ws k s))).vars.length tn.v/\Lw (blk (jx ws (bp ws k s))).vars.length tn.ai/\(1<=tn.op/\tn.op<=9)/\tn.nx=s.nodes.length+1:=by
 obtain⟨M,h1,h2,GE,h3⟩:=hb (jx ws (bp ws k s));have hm:Mo s (K7 ws (bp ws k s)):=(bJ _).trans Fo;have ht:(jx ws (bp ws k s)).nodes=s.nodes++[{ Ap ws (bp ws eX (bp ws k s)) with nx:=s.nodes.length+1 }]:=by
  show(K7 ws (bp ws k s)).nodes++[{ Ap ws (bp ws eX (bp ws k s)) with nx:=(K7 ws (bp ws k s)).nodes.length+1 }]=_;rw[hm.1]
 obtain⟨g1,g2,g3⟩:=@Yf ws (bp ws eX (bp ws k s));have hv:(tO ws (bp ws eX (bp ws k s))).vars.length<=(blk (jx ws (bp ws k s))).vars.length:=zq3 (@bJ ws (tO ws (bp ws eX (bp ws k s))) gY).2.1 h2;refine⟨{ Ap ws (bp ws eX (bp ws k s)) with nx:=s.nodes.length+1 },M,by rw[h1,ht,append_assoc];rfl,zq3 hm.2.1 h2,zq3 hm.2.2 GE,?_,g1.up hv,g2.up hv,g3,rfl⟩;rw[h1,length_append,ht,length_append]at h3;exact h3
theorem zV{L b m E:Nat}{tn:Nd}(h1:Lw L tn.v)(h2:Lw L tn.ai)(h3:1<=tn.op/\tn.op<=9)(h4:tn.nx=b+1)(h:b<m)(hm:m<=E):ts L b E [{ tn with ot:=m }] :=
 ts.one ⟨h1,h2,by show 1<=tn.op/\tn.op<=10;omega,⟨by show tn.nx<=E;omega,hm⟩,λ_=>h,λ_=>h4,λe=>by have:tn.op=10:=e;omega⟩
theorem G4{L b m E:Nat}(h:m≠b)(hm:m<=E):ts L b E [{ l7 with nx:=m }] :=
 ts.one ⟨zq0 rfl,zq0 rfl,by show 1<=(10:Nat)/\(10:Nat)<=10;decide,⟨hm,zq5 _⟩,λe=>by simp[sl,l7]at e,λe=>absurd rfl e,λ_=>h⟩
theorem Ya{blk:PS->PS}(hb:∀t,Ex t (blk t)):Ex s (F8 blk ws s):=by
 obtain⟨tn,M,h1,h2,GE,h3,h4,h5,h6,h7⟩:=@Qm ws s blk hb G6;unfold F8;have hA:fP blk ws s=blk (jx ws (bp ws G6 s)):=rfl;rw[<-hA]at h1 h2 GE h3 h4 h5;have hl:(fP blk ws s).nodes.length=s.nodes.length+1+M.length:=by rw[h1];simp;omega
 obtain⟨m,hm⟩:∃m,m=(fP blk ws s).nodes.length:=⟨_,rfl⟩;split
 .obtain⟨N,g1,g2,g2',g3⟩:=hb (sE s.nodes.length (fP blk ws s));have hB:(sE s.nodes.length (fP blk ws s)).nodes=s.nodes++{ tn with ot:=m+1 }::(M++[{ l7 with nx:=m+1 }]):=by
   show eG s.nodes.length ((fP blk ws s).nodes++[{ l7 with nx:=(fP blk ws s).nodes.length+1 }]).length ((fP blk ws s).nodes++[{ l7 with nx:=(fP blk ws s).nodes.length+1 }])=_;rw[length_append,length_singleton,<-hm];rw[show(fP blk ws s).nodes++[{ l7 with nx:=m+1 }]=s.nodes++tn::(M++[{ l7 with nx:=m+1 }]) by rw[h1];simp];exact rj _ _ _ _ _ rfl
  have hBv:(sE s.nodes.length (fP blk ws s)).vars=(fP blk ws s).vars:=rfl;have hBh:(sE s.nodes.length (fP blk ws s)).hid=(fP blk ws s).hid:=rfl;have V8:(sE s.nodes.length (fP blk ws s)).nodes.length=s.nodes.length+1+M.length+1:=by rw[hB];simp;omega
  rw[hBv]at g2;rw[hBh]at g2';rw[V8]at g3;obtain⟨u,hu⟩:∃u,u=blk (sE s.nodes.length (fP blk ws s)):=⟨_,rfl⟩;rw[<-hu]at g1 g2 g2' g3 ⊢;have WN:u.nodes.length=s.nodes.length+1+M.length+1+N.length:=by rw[g1,length_append,V8]
  have hn:(R5 (fP blk ws s).nodes.length u).nodes=s.nodes++({ tn with ot:=m+1 }::(M++{ l7 with nx:=u.nodes.length }::N)):=by
   show ic (fP blk ws s).nodes.length u.nodes.length u.nodes=_;have e:u.nodes=(s.nodes++{ tn with ot:=m+1 }::M)++{ l7 with nx:=m+1 }::N:=(by rw[g1,hB];simp);have e2:=xX (s.nodes++{ tn with ot:=m+1 }::M) N { l7 with nx:=m+1 } (fP blk ws s).nodes.length u.nodes.length (by rw[hl];simp;omega);rw[<-e]at e2;rw[e2];simp
  have fU:(R5 (fP blk ws s).nodes.length u).nodes.length=u.nodes.length:=by show(ic _ _ _).length=_;exact eh _ _ _
  refine⟨{ tn with ot:=m+1 }::(M++{ l7 with nx:=u.nodes.length }::N),hn,zq3 h2 g2,zq3 GE g2',?_⟩;show ts u.vars.length s.nodes.length (R5 (fP blk ws s).nodes.length u).nodes.length ([{ tn with ot:=m+1 }]++(M++([{ l7 with nx:=u.nodes.length }]++N)));rw[fU];refine(zV (h4.up g2) (h5.up g2) h6 h7 (by omega) (by omega)).app ((h3.up g2 (by omega)).app ((G4 ?_ (zq4 _)).app ?_))
  .rw[WN];simp;omega
  .show ts u.vars.length (s.nodes.length+1+M.length+1) u.nodes.length N;exact g3
 .have hn:({ fP blk ws s with nodes:=eG s.nodes.length (fP blk ws s).nodes.length (fP blk ws s).nodes }:PS).nodes=s.nodes++({ tn with ot:=m }::M):=by
   show eG s.nodes.length (fP blk ws s).nodes.length (fP blk ws s).nodes=_;rw[<-hm,h1];exact rj _ _ _ _ _ rfl
  refine⟨{ tn with ot:=m }::M,hn,h2,GE,?_⟩;rw[hn,show(s.nodes++({ tn with ot:=m }::M)).length=s.nodes.length+1+M.length by simp;omega];exact(zV h4 h5 h6 h7 (by omega) (by omega)).app h3
theorem aag{blk:PS->PS}(hb:∀t,Ex t (blk t)):Ex s (Cl blk ws s):=by
 obtain⟨tn,M,h1,h2,GE,h3,h4,h5,h6,h7⟩:=@Qm ws s blk hb gp;have hA:rP blk ws s=blk (jx ws (bp ws gp s)):=rfl;rw[<-hA]at h1 h2 GE h3 h4 h5;have hl:(rP blk ws s).nodes.length=s.nodes.length+1+M.length:=by rw[h1];simp;omega
 obtain⟨m,hm⟩:∃m,m=(rP blk ws s).nodes.length:=⟨_,rfl⟩;have hn:(Cl blk ws s).nodes=s.nodes++({ tn with ot:=m+1 }::(M++[{ l7 with nx:=s.nodes.length }])):=by
  show eG s.nodes.length ((rP blk ws s).nodes++[{ l7 with nx:=(rP blk ws s).nodes.length+1 }]).length (ic (rP blk ws s).nodes.length s.nodes.length ((rP blk ws s).nodes++[{ l7 with nx:=(rP blk ws s).nodes.length+1 }]))=_;rw[length_append,length_singleton,xX _ _ _ _ _ rfl,<-hm];rw[show(rP blk ws s).nodes++[{ l7 with nx:=s.nodes.length }]=s.nodes++tn::(M++[{ l7 with nx:=s.nodes.length }]) by rw[h1];simp];exact rj _ _ _ _ _ rfl
 have fU:(Cl blk ws s).nodes.length=s.nodes.length+1+M.length+1:=by rw[hn];simp;omega
 refine⟨_,hn,h2,GE,?_⟩;rw[fU];show ts (rP blk ws s).vars.length s.nodes.length _ ([{ tn with ot:=m+1 }]++(M++[{ l7 with nx:=s.nodes.length }]));exact(zV h4 h5 h6 h7 (by omega) (by omega)).app ((h3.up (zq4 _) (by omega)).app (G4 (by simp;omega) (by omega)))
theorem Yd{blk:PS->PS}(hb:∀t,Ex t (blk t)):Ex s (tM blk ws s):=by
 unfold tM;split
 .exact Ya hb
 .split
  .exact aag hb
  .exact aa4
theorem Mf{c:PS->PS}(hc:∀t,Ex t (c t)):∀(n:Nat) (s:PS),Ex s (mX c ws n s)
 |0,s=>(Mo.refl s).ex
 |n+1,s=>by
  unfold mX;split
  .exact(Mo.refl s).ex
  .exact(hc s).trans (Mf hc n (c s))
theorem LZ:∀(f:Nat) (s:PS),Ex s (DS ws f s)
 |0,s=>(Mo.refl s).ex
 |f+1,s=>((bJ _).ex.trans (Mf (λt=>Yd (LZ f)) _ _)).trans (bJ _).ex
end
def XZ(t:PS)(k i:Nat):Prop:=t.failed=true\/(k=0/\i=0)\/(k=1/\i<t.vars.length)\/(k=2/\i<t.hid.length)
structure Dy(s t:PS):Prop where
 v:s.vars.length<=t.vars.length
 h:s.hid.length<=t.hid.length
 f:s.failed=true->t.failed=true
theorem Dy.trans{s t u:PS}(h:Dy s t)(h':Dy t u):Dy s u:=⟨zq3 h.v h'.v,zq3 h.h h'.h,λe=>h'.f (h.f e)⟩
theorem XZ.up{s t:PS}{k i:Nat}(h:XZ s k i)(hg:Dy s t):XZ t k i:=by
 have h1:=hg.v;have h2:=hg.h;rcases h with h|h|h|h
 .exact zq0 (hg.f h)
 .exact zq1 (zq0 h)
 .exact zq1 (zq1 (zq0 (by omega)))
 .exact zq1 (zq1 (zq1 (by omega)))
section
variable {ws:List ByteArray} {s:PS}
theorem Xh:Dy s (ev ws s):=⟨ro.2.1,ro.2.2,rh.bad s⟩
theorem VZ{k:ByteArray}(hk:k.toList≠[]):Dy s (bp ws k s):=⟨(bJ k).2.1,(bJ k).2.2,(rg hk).bad s⟩
theorem zL:Mo s (eg ws s):=by
 unfold eg;split
 .exact fE
 .split
  .exact fE
  .exact bJ _
theorem aaX:Dy s (eg ws s):=⟨zL.2.1,zL.2.2,zH.bad s⟩
theorem U2:XZ (ev ws s) (rm ws s) (rl ws s):=by
 unfold ev rm rl;split
 .exact zq1 (zq1 (zq1 ⟨rfl,(mK _ _).2⟩))
 .unfold cO ej fB;split
  .exact zq1 (zq0 ⟨rfl,rfl⟩)
  .unfold cn rR;split
   .exact zq1 (zq1 (zq0 ⟨rfl,(mK _ _).2⟩))
   .exact zq0 rfl
def Xk(t:PS)(a:bC):Prop:=XZ t a.lk a.li/\XZ t a.rk a.ri/\a.k<=4
theorem Xk.up{t u:PS}{a:bC}(h:Xk t a)(hg:Dy t u):Xk u a:=⟨h.1.up hg,h.2.1.up hg,h.2.2⟩
theorem aae:Mo s (zq ws s):=by
 have h1:Mo s (pJ ws s):=bJ _;have h2:Mo (pJ ws s) (oF ws s):=ro.trans (bJ _);have h3:Mo (oF ws s) (zq ws s):=ro.trans (bJ _);exact(h1.trans h2).trans h3
theorem LQ:Mo s (dH ws s):=by
 unfold dH;split
 .exact fE
 .split
  .exact fE.trans aae
  .exact(ro.trans zL).trans ro
theorem adV:Dy s (dH ws s):=⟨LQ.2.1,LQ.2.2,mh.bad s⟩
theorem WY:Dy (ev ws (oF ws s)) (zq ws s):=by unfold zq;exact VZ Cg
theorem agL:Dy (ev ws (pJ ws s)) (zq ws s):=by
 have h:Dy (ev ws (pJ ws s)) (oF ws s):=by unfold oF;exact VZ ur
 exact(h.trans Xh).trans WY
theorem al7:Xk (zq ws s) (WX ws s):=⟨U2.up agL,U2.up WY,zq4 4⟩
theorem adW:Xk (dH ws s) (nS ws s):=by
 unfold dH nS;split
 .exact⟨zq1 (zq0 ⟨rfl,rfl⟩),zq1 (zq0 ⟨rfl,rfl⟩),by decide⟩
 .split
  .exact al7
  .refine⟨(U2 (ws:=ws) (s:=s)).up (aaX.trans Xh),U2,?_⟩;show iY ws (ev ws s)<=4;unfold iY;split
   .decide
   .split <;> decide
theorem V3:∀(n:Nat) (s:PS),Dy s (fW ws n s).2/\∀a∈(fW ws n s).1,Xk (fW ws n s).2 a
 |0,s=>⟨⟨zq4 _,zq4 _,id⟩,λa ha=>by simp[fW]at ha⟩
 |n+1,s=>by
  unfold fW;split
  .obtain⟨h1,h2⟩:=V3 n (dH ws s.adv);have h3:Dy s.adv (dH ws s.adv):=adV;refine⟨⟨zq3 h3.v h1.v,zq3 h3.h h1.h,λe=>h1.f (h3.f e)⟩,λa ha=>?_⟩;rcases mem_cons.1 ha with rfl|ha
   .exact adW.up h1
   .exact h2 a ha
  .exact⟨⟨zq4 _,zq4 _,id⟩,λa ha=>by simp at ha⟩
theorem ajN:∀a∈Bu ws s,Xk (po ws s) a:=by
 obtain⟨h1,h2⟩:=V3 (ws:=ws) (ws.length+1) (dH ws s);intro a ha;rcases mem_cons.1 ha with rfl|ha
 .exact adW.up h1
 .exact h2 a ha
end
